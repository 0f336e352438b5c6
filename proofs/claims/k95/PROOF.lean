import PyProof.Rows.All
import Wide.All
import OpenK.AllK
import PySem.Challenge.RW_purseborder_k95_whole_steps_by_texts
set_option Elab.async false
set_option linter.all false
set_option maxRecDepth 100000
set_option genSizeOf false
set_option compiler.extract_closed false
set_option bootstrap.genMatcherCode false
abbrev zVP:=PySem.Value->PySem.Shared->Prop
abbrev zLA:=List (PySem.Addr×PySem.Obj)
abbrev zLV:=List PySem.Value
abbrev zSV:=PySem.Str->Option PySem.Value
abbrev zAV:=Array PySem.Value
def zdK {p:Prop}[Decidable p](h:decide p=true:=by decide +kernel):p:=of_decide_eq_true h
noncomputable section
def zg3:=@PySem.wpAny_bind
def zg4:=@PySem.Heap.get?_push_of_some
def zg5:=@PySem.PassesOwn.never
def zg6:=@decide_eq_true
def zg7:=@decide_eq_false
def zg8:=@PySem.wpAny_call_entry
def zg9:=@PySem.wpAny_holding
def zgA:=@PySem.wpAny_field
def zgB:=@PySem.wpAny_newObj_type
def zgC:=@PySem.wpAny_mono
def zgD:=@PySem.wpAny_truthy_bool
def zgE:=@PySem.wpAny_setState_of
def zgF:=@PySem.wpAny_seqItems
def zgG:=@PySem.wpAny_callSpecial?_slot
def zgH:=@PySem.wpAny_rule
def zgI:=@PySem.wpAny_typeOf
def zgJ:=@PySem.Heap.get?_update_self
def zgK:=@PySem.wpAny_passesOwn
def zgL:=@PySem.wpAny_forIn_list
def zgM:=@PySem.wpAny_setField
def zgN:=@PySem.wpAny_isInstance
def zgO:=@PySem.wpAny_Call_method_late
def zgP:=@PySem.wpAny_specialOf
def zgQ:=@PySem.wpAny_attempt
def zgR:=@PySem.wpAny_setField_rec
def zgS:=@PySem.wpAny_execs_nil
def zgT:=@PySem.wpAny_Call_Name_kw
def zgU:=@PySem.wpAny_pyIter_list
def zgV:=@PySem.wpAny_askSetting
def zgW:=@PySem.Heap.get?_update_other
def zgX:=@PySem.Heap.get?_update_ne
def zgY:=@PySem.wpAny_getItem_str_slice
def zgZ:=@PySem.wpAny_typeNameOfWhole_keyiter
def zc6:=@Option.bind_eq_some_iff
def zc7:=@List.mem_cons_self
def zc8:=@List.mem_cons_of_mem
def zc9:=@Option.map_eq_some_iff
def zd0:=@List.map_nil
def zd1:=@List.append_nil
def zd2:=@Bool.false_ne_true
def zd3:=@List.not_mem_nil
def zd4:=@List.lookup_cons
def zd5:=@Nat.lt_or_ge
def zd6:=@List.pairwise_cons
def zd7:=@List.nodup_cons
def zd8:=@List.any_cons
def zd9:=@List.map_congr_left
def zdA:=@List.mem_flatMap
def zdB:=@List.find?_cons
def zdC:=@Nat.ne_of_gt
def zdD:=@List.length_nil
def zdE:=@List.replicate_succ
def zdF:=@Nat.lt_trans
def zdG:=@List.mem_iff_getElem
def zdH:=@Int.add_mul
def zdI:=@List.length_drop
def zdJ:=@List.flatten_cons
def zdL:=@List.mem_of_find?_eq_some
def zdM:=@List.flatMap_cons
def zdN:=@List.mem_append_left
def zdO:=@List.foldl_cons
def zdP:=@Int.toNat_natCast
def zdQ:=@Nat.zero_add
def zdR:=@List.length_filter_le
def zdS:=@List.getElem?_append_left
def zdT:=@Bool.and_false
def zdU:=@Nat.lt_of_le_of_lt
def zdV:=@List.ext_getElem
def zdW:=@List.pairwise_map
def zdX:=@List.all_cons
def zdY:=@List.all_map
def zdZ:=@Array.getElem_toList
def ze0:=@Array.getElem?_eq_none
def ze1:=@List.map_drop
def ze2:=@Nat.lt_succ_of_lt
def ze3:=@Nat.le_add_right
def ze4:=@List.sum_cons
def ze5:=@Int.mul_nonneg
def ze6:=@Int.natCast_succ
def ze7:=@List.getElem?_replicate
def ze8:=@List.forIn_cons
def ze9:=@List.map_id
def zeB:=@Nat.mul_le_mul_right
def zeC:=@List.nodup_range
def zeD:=@Nat.lt_trichotomy
def zeE:=@List.any_map
def zeF:=@List.filterMap_cons
def zeG:=@List.of_mem_zip
def zeH:=@List.length_take
def zeI:=@List.getElem?_append_right
def zeJ:=@List.zip_cons_cons
def zeK:=@List.length_set
def zeM:=@Array.size_map
def zeN:=@List.pairwise_iff_getElem
def zeP:=@Bool.and_self
def zeQ:=@Nat.mod_lt
def zeR:=@List.find?_eq_none
def zeS:=@List.toList_toArray
def zeT:=@List.nodup_append
def zeU:=@List.length_zip
def zeV:=@Nat.add_assoc
def zeW:=@List.foldl_append
def zeX:=@Nat.mul_le_mul
def zeY:=@List.mem_filterMap
def zeZ:=@List.any_eq_false
def zf0:=@Nat.le_of_eq
def zf1:=@Option.isSome_iff_exists
def zf2:=@List.pairwise_append
def zf3:=@List.lookup_append
def zf4:=@List.getElem?_set
def zf5:=@List.getElem?_eq_none
def zf6:=@Array.getD_eq_getD_getElem?
def zf7:=@Option.isSome_map
def zf8:=@Nat.mul_comm
def zf9:=@List.length_pos_of_mem
def zfA:=@List.getElem?_cons_succ
def zfB:=@List.take_append_drop
def zfC:=@Array.getElem?_setIfInBounds
def zfD:=@Array.forIn_toList
def zfE:=@List.map_take
def zfF:=@List.nodup_nil
def zfG:=@List.zipIdx_cons
def zfH:=@Int.zero_add
def zfI:=@List.range'_succ
def zfJ:=@List.getElem?_cons_zero
def zfK:=@List.cons_append
def zfL:=@Bool.not_eq_true'
def zfM:=@List.flatMap_append
def zfN:=@Nat.add_mul
def zfO:=@List.flatMap_nil
def zfP:=@List.pairwise_singleton
def zfQ:=@List.getElem_range
def zfR:=@List.mem_of_mem_drop
def zfS:=@List.getElem?_range
def zfT:=@List.perm_ext_iff_of_nodup
def zfU:=@List.mem_iff_getElem?
def zfV:=@Nat.add_sub_cancel
def zfW:=@List.take_of_length_le
def zfX:=@List.exists_cons_of_ne_nil
def zfY:=@Bool.beq_eq_decide_eq
def zfZ:=@Int.min_eq_left
def zg0:=@List.find?_some
def zg1:=@Int.natCast_add
def zg2:=@List.mem_zipIdx_iff_getElem?
def zA0:=@List.size_toArray
def zA1:=@List.getElem?_eq_getElem
def zA2:=@List.getElem?_eq_some_iff
def zA3:=@List.getElem?_map
def zA4:=@Nat.le_refl
def zA5:=@List.mem_cons
def zA6:=@List.map_cons
def zA7:=@List.length_map
def zA8:=@PySem.Heap.lt_size
def zA9:=@PySem.Heap.get?_push_size
def zB0:=@List.mem_map
def zB1:=@List.getD_eq_getElem?_getD
def zB2:=@Bool.not_false
def zB3:=@Nat.ne_of_lt
def zB4:=@List.mem_append_right
def zB5:=@Bool.not_true
def zB6:=@List.mem_singleton
def zB7:=@List.mem_of_getElem?
def zB8:=@Array.getElem?_eq_getElem
def zB9:=@List.mem_append
def zC0:=@List.length_cons
def zC1:=@List.mem_range
def zC2:=@PySem.W.mg_none_of
def zC3:=@Nat.lt_of_lt_of_le
def zC4:=@Bool.false_eq_true
def zC5:=@List.length_range
def zC6:=@Int.le_refl
def zC7:=@Bool.eq_iff_iff
def zC8:=@List.mem_filter
def zC9:=@Option.bind_some
def zD0:=@List.any_eq_true
def zD1:=@PySem.wpAny_pure
def zD2:=@Array.length_toList
def zD3:=@Array.getElem?_toList
def zD4:=@Nat.zero_le
def zD5:=@Option.some.inj
def zD6:=@List.map_map
def zD7:=@List.length_append
def zD8:=@List.getElem_mem
def zE0:=@Nat.le_trans
def zE1:=@Nat.lt_irrefl
def zE2:=@Nat.lt_succ_self
def zE3:=@Nat.le_of_lt
def zE4:=@List.all_eq_true
def zE5:=@Bool.and_eq_true
def zE6:=@Bool.or_eq_true
def zE7:=@List.map_append
def zE8:=@List.append_assoc
def zE9:=@Bool.not_eq_true
def zF0:=@Int.emod_nonneg
def zF1:=@Int.emod_lt_of_pos
def zF2:=@Int.toNat_of_nonneg
section
variable {G:Prop}
section
variable {p q r s t u v w:Prop}
theorem E_0_1(h:p) (f:p->G):G:=f h
theorem E_0_2(h:p/\q) (f:p->q->G):G:=E_0_1 h.2 (f h.1)
theorem E_0_3(h:p/\q/\r) (f:p->q->r->G):G:=E_0_2 h.2 (f h.1)
theorem E_0_4(h:p/\q/\r/\s) (f:p->q->r->s->G):G:=E_0_3 h.2 (f h.1)
theorem E_0_5(h:p/\q/\r/\s/\t) (f:p->q->r->s->t->G):G:=E_0_4 h.2 (f h.1)
theorem E_0_6(h:p/\q/\r/\s/\t/\u) (f:p->q->r->s->t->u->G):G:=E_0_5 h.2 (f h.1)
theorem E_0_7(h:p/\q/\r/\s/\t/\u/\v) (f:p->q->r->s->t->u->v->G):G:=E_0_6 h.2 (f h.1)
theorem E_0_8(h:p/\q/\r/\s/\t/\u/\v/\w) (f:p->q->r->s->t->u->v->w->G):G:=E_0_7 h.2 (f h.1)
end
section
variable {α:Sort _}{p q r s t u v w:α->Prop}
theorem E_1_1(h:∃ a,p a) (f:∀ a,p a->G):G:=h.elim λ a h=>E_0_1 h (f a)
theorem E_1_2(h:∃ a,p a/\q a) (f:∀ a,p a->q a->G):G:=h.elim λ a h=>E_0_2 h (f a)
theorem E_1_3(h:∃ a,p a/\q a/\r a) (f:∀ a,p a->q a->r a->G):G:=h.elim λ a h=>E_0_3 h (f a)
theorem E_1_4(h:∃ a,p a/\q a/\r a/\s a) (f:∀ a,p a->q a->r a->s a->G):G:=h.elim λ a h=>E_0_4 h (f a)
theorem E_1_5(h:∃ a,p a/\q a/\r a/\s a/\t a) (f:∀ a,p a->q a->r a->s a->t a->G):G:=h.elim λ a h=>E_0_5 h (f a)
theorem E_1_6(h:∃ a,p a/\q a/\r a/\s a/\t a/\u a) (f:∀ a,p a->q a->r a->s a->t a->u a->G):G:=h.elim λ a h=>E_0_6 h (f a)
theorem E_1_7(h:∃ a,p a/\q a/\r a/\s a/\t a/\u a/\v a) (f:∀ a,p a->q a->r a->s a->t a->u a->v a->G):G:=h.elim λ a h=>E_0_7 h (f a)
theorem E_1_8(h:∃ a,p a/\q a/\r a/\s a/\t a/\u a/\v a/\w a) (f:∀ a,p a->q a->r a->s a->t a->u a->v a->w a->G):G:=h.elim λ a h=>E_0_8 h (f a)
end
section
variable {α β:Sort _}{p q r s t u v w:α->β->Prop}
theorem E_2_1(h:∃ a b,p a b) (f:∀ a b,p a b->G):G:=h.elim λ a h=>E_1_1 h (f a)
theorem E_2_2(h:∃ a b,p a b/\q a b) (f:∀ a b,p a b->q a b->G):G:=h.elim λ a h=>E_1_2 h (f a)
theorem E_2_3(h:∃ a b,p a b/\q a b/\r a b) (f:∀ a b,p a b->q a b->r a b->G):G:=h.elim λ a h=>E_1_3 h (f a)
theorem E_2_4(h:∃ a b,p a b/\q a b/\r a b/\s a b) (f:∀ a b,p a b->q a b->r a b->s a b->G):G:=h.elim λ a h=>E_1_4 h (f a)
theorem E_2_5(h:∃ a b,p a b/\q a b/\r a b/\s a b/\t a b) (f:∀ a b,p a b->q a b->r a b->s a b->t a b->G):G:=h.elim λ a h=>E_1_5 h (f a)
theorem E_2_6(h:∃ a b,p a b/\q a b/\r a b/\s a b/\t a b/\u a b) (f:∀ a b,p a b->q a b->r a b->s a b->t a b->u a b->G):G:=h.elim λ a h=>E_1_6 h (f a)
theorem E_2_7(h:∃ a b,p a b/\q a b/\r a b/\s a b/\t a b/\u a b/\v a b) (f:∀ a b,p a b->q a b->r a b->s a b->t a b->u a b->v a b->G):G:=h.elim λ a h=>E_1_7 h (f a)
theorem E_2_8(h:∃ a b,p a b/\q a b/\r a b/\s a b/\t a b/\u a b/\v a b/\w a b) (f:∀ a b,p a b->q a b->r a b->s a b->t a b->u a b->v a b->w a b->G):G:=h.elim λ a h=>E_1_8 h (f a)
end
section
variable {α β γ:Sort _}{p q r s t u v w:α->β->γ->Prop}
theorem E_3_1(h:∃ a b c,p a b c) (f:∀ a b c,p a b c->G):G:=h.elim λ a h=>E_2_1 h (f a)
theorem E_3_2(h:∃ a b c,p a b c/\q a b c) (f:∀ a b c,p a b c->q a b c->G):G:=h.elim λ a h=>E_2_2 h (f a)
theorem E_3_3(h:∃ a b c,p a b c/\q a b c/\r a b c) (f:∀ a b c,p a b c->q a b c->r a b c->G):G:=h.elim λ a h=>E_2_3 h (f a)
theorem E_3_4(h:∃ a b c,p a b c/\q a b c/\r a b c/\s a b c) (f:∀ a b c,p a b c->q a b c->r a b c->s a b c->G):G:=h.elim λ a h=>E_2_4 h (f a)
theorem E_3_5(h:∃ a b c,p a b c/\q a b c/\r a b c/\s a b c/\t a b c) (f:∀ a b c,p a b c->q a b c->r a b c->s a b c->t a b c->G):G:=h.elim λ a h=>E_2_5 h (f a)
theorem E_3_6(h:∃ a b c,p a b c/\q a b c/\r a b c/\s a b c/\t a b c/\u a b c) (f:∀ a b c,p a b c->q a b c->r a b c->s a b c->t a b c->u a b c->G):G:=h.elim λ a h=>E_2_6 h (f a)
theorem E_3_8(h:∃ a b c,p a b c/\q a b c/\r a b c/\s a b c/\t a b c/\u a b c/\v a b c/\w a b c) (f:∀ a b c,p a b c->q a b c->r a b c->s a b c->t a b c->u a b c->v a b c->w a b c->G):G:=h.elim λ a h=>E_2_8 h (f a)
end
section
variable {α β γ δ:Sort _}{p q r s t u v w:α->β->γ->δ->Prop}
theorem E_4_1(h:∃ a b c d,p a b c d) (f:∀ a b c d,p a b c d->G):G:=h.elim λ a h=>E_3_1 h (f a)
theorem E_4_2(h:∃ a b c d,p a b c d/\q a b c d) (f:∀ a b c d,p a b c d->q a b c d->G):G:=h.elim λ a h=>E_3_2 h (f a)
theorem E_4_3(h:∃ a b c d,p a b c d/\q a b c d/\r a b c d) (f:∀ a b c d,p a b c d->q a b c d->r a b c d->G):G:=h.elim λ a h=>E_3_3 h (f a)
theorem E_4_4(h:∃ a b c d,p a b c d/\q a b c d/\r a b c d/\s a b c d) (f:∀ a b c d,p a b c d->q a b c d->r a b c d->s a b c d->G):G:=h.elim λ a h=>E_3_4 h (f a)
theorem E_4_5(h:∃ a b c d,p a b c d/\q a b c d/\r a b c d/\s a b c d/\t a b c d) (f:∀ a b c d,p a b c d->q a b c d->r a b c d->s a b c d->t a b c d->G):G:=h.elim λ a h=>E_3_5 h (f a)
theorem E_4_6(h:∃ a b c d,p a b c d/\q a b c d/\r a b c d/\s a b c d/\t a b c d/\u a b c d) (f:∀ a b c d,p a b c d->q a b c d->r a b c d->s a b c d->t a b c d->u a b c d->G):G:=h.elim λ a h=>E_3_6 h (f a)
theorem E_4_8(h:∃ a b c d,p a b c d/\q a b c d/\r a b c d/\s a b c d/\t a b c d/\u a b c d/\v a b c d/\w a b c d) (f:∀ a b c d,p a b c d->q a b c d->r a b c d->s a b c d->t a b c d->u a b c d->v a b c d->w a b c d->G):G:=h.elim λ a h=>E_3_8 h (f a)
end
section
variable {α β γ δ ε:Sort _}{p q r s t u:α->β->γ->δ->ε->Prop}
theorem E_5_3(h:∃ a b c d e,p a b c d e/\q a b c d e/\r a b c d e) (f:∀ a b c d e,p a b c d e->q a b c d e->r a b c d e->G):G:=h.elim λ a h=>E_4_3 h (f a)
theorem E_5_4(h:∃ a b c d e,p a b c d e/\q a b c d e/\r a b c d e/\s a b c d e) (f:∀ a b c d e,p a b c d e->q a b c d e->r a b c d e->s a b c d e->G):G:=h.elim λ a h=>E_4_4 h (f a)
theorem E_5_5(h:∃ a b c d e,p a b c d e/\q a b c d e/\r a b c d e/\s a b c d e/\t a b c d e) (f:∀ a b c d e,p a b c d e->q a b c d e->r a b c d e->s a b c d e->t a b c d e->G):G:=h.elim λ a h=>E_4_5 h (f a)
theorem E_5_6(h:∃ a b c d e,p a b c d e/\q a b c d e/\r a b c d e/\s a b c d e/\t a b c d e/\u a b c d e) (f:∀ a b c d e,p a b c d e->q a b c d e->r a b c d e->s a b c d e->t a b c d e->u a b c d e->G):G:=h.elim λ a h=>E_4_6 h (f a)
end
section
variable {α β γ δ ε ζ:Sort _}{p q r s t:α->β->γ->δ->ε->ζ->Prop}
theorem E_6_3(h:∃ a b c d e f,p a b c d e f/\q a b c d e f/\r a b c d e f) (f:∀ a b c d e f,p a b c d e f->q a b c d e f->r a b c d e f->G):G:=h.elim λ a h=>E_5_3 h (f a)
theorem E_6_5(h:∃ a b c d e f,p a b c d e f/\q a b c d e f/\r a b c d e f/\s a b c d e f/\t a b c d e f) (f:∀ a b c d e f,p a b c d e f->q a b c d e f->r a b c d e f->s a b c d e f->t a b c d e f->G):G:=h.elim λ a h=>E_5_5 h (f a)
end
section
variable {α β γ δ ε ζ η:Sort _}{p q r:α->β->γ->δ->ε->ζ->η->Prop}
theorem E_7_3(h:∃ a b c d e f g,p a b c d e f g/\q a b c d e f g/\r a b c d e f g) (f:∀ a b c d e f g,p a b c d e f g->q a b c d e f g->r a b c d e f g->G):G:=h.elim λ a h=>E_6_3 h (f a)
end
section
variable {α β γ δ ε ζ η θ:Sort _}{p q r:α->β->γ->δ->ε->ζ->η->θ->Prop}
theorem E_8_3(h:∃ a b c d e f g h,p a b c d e f g h/\q a b c d e f g h/\r a b c d e f g h) (f:∀ a b c d e f g h,p a b c d e f g h->q a b c d e f g h->r a b c d e f g h->G):G:=h.elim λ a h=>E_7_3 h (f a)
end
section
variable {α β γ δ ε ζ η θ ι:Sort _}{p q r:α->β->γ->δ->ε->ζ->η->θ->ι->Prop}
theorem E_9_3(h:∃ a b c d e f g h i,p a b c d e f g h i/\q a b c d e f g h i/\r a b c d e f g h i) (f:∀ a b c d e f g h i,p a b c d e f g h i->q a b c d e f g h i->r a b c d e f g h i->G):G:=h.elim λ a h=>E_8_3 h (f a)
end
end
open Lean in
def eKM (a:Array Term) (e:Term):MacroM (TSyntax `tactic):=do
 let n:=a.size
 if n<3||n>12 then Macro.throwUnsupported
 let f<-(List.range n).toArray.mapM λ k=>`(tacticSeq|refine $(mkIdent (.mkSimple s!"E_{n-1-k}_{k+1}")):ident $e ?_)
 let mut ts:=#[<-`(tactic|first $[|$f]*)]
 if e.raw.isIdent then ts:=ts.push (<-`(tactic|try clear $(⟨e.raw⟩):ident))
 let mut xs:Array Term:=#[]
 for x in a do
  if x.raw.isOfKind ``Lean.Parser.Term.hole||x.raw.isIdent&&x.raw.getId != `rfl then xs:=xs.push x
  else
   let y:Term<-withFreshMacroScope `(y)
   xs:=xs.push y
   ts:=ts.push (<-`(tactic|intro $xs:term*))
   xs:=#[]
   ts:=ts.push (<-if x.raw.isIdent then `(tactic|obtain $(⟨x.raw⟩):ident:=$y) else `(tactic|let $x:term:=$y))
 if xs.size>0 then ts:=ts.push (<-`(tactic|intro $xs:term*))
 `(tactic|($[$ts:tactic]*))
open Lean in
def czXX (T:NameMap (List Syntax)):Nat->Syntax->List Syntax
|0,s=>[s]
|n+1,s=>match s with
 |.ident _ _ v _=>(T.find? v).getD [s.setInfo .none]
 |.node i k a=>
  match if k== ``Lean.Elab.Tactic.Ext.ext then T.find? s[1][0][0][0].getId else if k== ``Lean.Parser.Term.implicitBinder&&s[2].getNumArgs==0 then T.find? s[1][0].getId else none with
  |some r=>if r.head!.isOfKind ``Lean.Parser.Term.byTactic then r.head![1][0][0].getArgs.toList else r
  |_=>let b:=a.toList.flatMap (czXX T n)
   [.node i k (match b with
    |[f,x]=>if k== ``Lean.Parser.Term.app&&f.isOfKind k then #[f[0],mkNullNode (f[1].getArgs++x.getArgs)] else b.toArray
    |_=>b.toArray)]
 |_=>[s.setInfo .none]
open Lean in
def czVV (T:NameMap (List Syntax)):List Syntax->NameMap (List Syntax)
|n::_::b::_::r=>
 let z:=czXX T 9999
 let b:=if b.isOfKind `«term[_]»&&b[1][0].isOfKind ``Lean.Parser.Term.hole then b[1][2] else b
 czVV (T.insert n.getId (if b.isOfKind ``Lean.Parser.Term.app&&b[0].isOfKind ``Lean.Parser.Term.hole||b.isOfKind ``Lean.Parser.Term.forall&&b[4].isOfKind `num then b[1].getArgs.toList.flatMap z else z b)) r
|_=>T
open Lean in
def czYY (q:Syntax):Array Syntax:=(q[1].getArgs.foldl (λ(T,a) c=>
 let v:=c[1][2][1]
 if v.isOfKind `«term[_]» then (czVV T v[1].getArgs.toList,a)
 else (T,a++czXX T 9999 c)) ((∅:NameMap (List Syntax)),#[])).2
local macro_rules(kind:=Lean.Parser.Command.declaration)|s=>do
 unless s[1][2][1].isOfKind ``Lean.Parser.Command.quot do Lean.Macro.throwUnsupported
 return Lean.mkNullNode (czYY s[1][2][1])
open Lean in
def zRc:Nat->Term->MacroM (TSyntax `rcasesPat)
|0,_=>Macro.throwUnsupported
|n+1,t=>match t with
 |`(#[$xs,*])=>do let ys<-xs.getElems.mapM (zRc n);`(rcasesPat|⟨$[$ys:rcasesPat],*⟩)
 |`(_)=>`(rcasesPat|_)
 |`($x:ident)=>`(rcasesPat|$x:ident)
 |_=>Macro.throwUnsupported
local macro_rules|`(tactic|let $p:term:=$e)=>do let q<-zRc 9 p;`(tactic|obtain $q:rcasesPat:=$e)
local macro_rules|`(tactic|let #[$a,*]:=$e)=>do let q<-zRc 9 (<-`(#[$a,*]));let t<-eKM a.getElems e;`(tactic|first|$t:tactic|obtain $q:rcasesPat:=$e)
local macro_rules|`(tactic|simp! [$a,*] $[$l:location]?)=>`(tactic|simp only [$a,*] $[$l:location]?)
local macro_rules|`(tactic|exists $e)=>`(tactic|simpa using $e)
local macro_rules|`(tactic|show $e)=>`(tactic|refine $e)
local macro_rules|`(tactic|exact $e)=>`(tactic|refine $e)
local macro_rules|`(#[])=>`(by simp)|`(#[$xs,*])=>`(⟨$xs,*⟩)
local macro_rules|`(↑$x)=>`(some $x)
local macro_rules|`(⋯)=>`(by lia)
local macro_rules|`(())=>`(by decide)
abbrev zFr:=PySem.W.Frag
local macro_rules(kind:=Lean.Parser.Command.declaration)|s=>do
 if s[0][4].getNumArgs>0||![``Lean.Parser.Command.definition,``Lean.Parser.Command.abbrev].contains s[1].getKind then Lean.Macro.throwUnsupported
 return s.setArg 0 (s[0].setArg 4 (Lean.mkNullNode [Lean.mkNode ``Lean.Parser.Command.noncomputable [Lean.mkAtom "noncomputable"].toArray].toArray))
example:=`(
example:=[Ë,s.heap.objs.size,SE,hplain,Aa,zEE X e [],àS,zEB X cpos [],âa,(apos.endLine == cpos.line),Xo,âa=true,Ur,∀(hline:Xo),0,rp,(if ([]:List Keyword).isEmpty then 0 else 1),AE,(λ x=>!x.1),Ö,X.env,GA,backTo,æ,decide,Ϟ,starEach,R6,([]:List Keyword).length,ϭ6,backToKw,Ω5,(keywordEach [] Ö),Ae,(ϭ6 cpos Ω5).all (λ x=>x.1.isSome),ÄL,((GA cpos (Ϟ [e] Ö)).all AE&&Ae && æ ([e].length+R6+rp<30)),Kn,∀(hfew:ÄL=true) Ur (hs:Aa) (SE:àS),0,î,Option,ú,_ X gV σ,Ķ,Inv ú H s,Ò,.ref,qy,Program,SA,World,Il,∀{w:SA},0,Kt,∀{prog:qy}Il,0,ĸ,∀{A:Around},0,ψ,∀{E:zVP},0,Α,Shared,Μ,∀{s:Α},0,ś,∀ Kt ĸ ψ Μ,0,á,List Int,Y6,X.prog,Ů,_ Y6 X.w,Τ2,(model Ů),û,_ Τ2 X.A,Á,false,À,_ _ _,đ,_ prog w,ϯ3,(model đ),ã,_ ϯ3 A,MX,∀{gV:zLA},0,Ÿ,∀{σ:St},0,Ø,∀{H:Hp},0,ġ,∀ MX Ÿ Ø Μ,0,Î,PyProof.Rows,ħ,by let#[Y,S,r1,r2,z]:=hu,Ý,sizeLine,Ï,Value,KY,∀(ha:PD X a ta),0,ĕ,∀ KY (hb:PD X b tb),0,å,xs.length,ϊ,∀(s:Α),0,UH,∀(gV:zLA),0,ð,∀(H:Hp),0,Ls,∀(σ:St),0,ļ,∀ UH ϊ Ls ð,0,DG,_ cl C s H fp,Ĺ,scope,ÝF,ċ7 X N' Ĺ DG,qh,(ÝF),GQ,[_,by rw[yv (Ŀ9 q h (by intro z;cases z))];show q],FY,by simp![zj],Zi,by ext FY,þ,List Str,Ň,s.heap.get?,ϳ,eval o Ö,GW,attributeBase,JC,_ Ö (ϳ),ÙC,GW o name JC=ϳ,E5,zEE X e es,Hi,(e::es),ÀG,Ϟ Hi Ö,ÔB,GA cpos (ÀG),Äw,((ÔB).all AE&&Ae && æ ((e::es).length+R6+rp<30))=true,rW,hbase,Ϛ8,zEB X cpos es,Η8,∀(rW:ÙC) (hfew:Äw) Ur (hs:E5) (SE:Ϛ8),0,Û,_ σ H,ž,_ gV s Û,ķ,_ P w K mg base,rg,(x == ("__debug__":Str))=Á,Di,by intro X hP hw hK hc i gV s σ H E I hf st hg;subst hP hw hK,ı,outer,Ar,∀(A:Around),0,rY,List Env,u9,∀ Ar (ı:rY) ϊ ð,0,Ê,.int,Ç,if_neg,AU,(.ListComp elt [#[tg,iter,ifs,0]] Ĺ pos),Ü,PySem.Spec,ö,(zb 0),T4,env.kindOf,ϥ,.cell,ßZ,T4 n == ↑ ϥ,R9,NameKind.free,sR,.function,ω7,env.scope.kind == sR,gE,(k == R9&&ω7&&ßZ),Ĉ,List T,Ì,.str,Ĝ,∀{P:qy}Il,0,Â,wpAny,Ĩ,s.heap.push,í,s.heap,ŭ,Α->Prop,ť1,J.gU i H x H',Vo,b=true,Ñ,.lst,VF,J.go i H,JU,(Ò D),ν,ys.length,WX,J.stop i H,ŏ,(i+1),NV,_ ŏ m',OQ,(Ñ ys),Η9,∀ i m σ H,W i m Û->(WX/\Q JU H)\/(VF/\∀ x H',ť1->g x σ H' fun σ2 H2=>tc σ2 H2 λ b H3=> if Vo then te σ2 H3 λ y H4=>∃ ys m',H4 D=↑ OQ/\ν<Ý/\m'<m/\W NV σ2 (upd H4 D (Ñ (ys++[y]))) else ∃ m',m'<m/\W NV σ2 H3),uX,Ì y,eg,(uX),Np,Expr.Constant eg j1 p1,S8,z.length,EW,.Constant,WN,EW (Ì z) j2 p2,Ól,(Á,eval (WN) Ö),ØD,Ϟ [Np,WN] Ö,ϝ7,EW eg j1 p1,Ve,(Á,eval (ϝ7) Ö),ÂE,∀(hyz:(y == z)=Á) (hz:S8<=14) (rW:GW o "replace" JC=ϳ) (hfew:((GA cpos (ØD)).all AE&&Ae && æ ([Np,WN].length+R6+rp<30))=true) Ur (hs:ØD=[Ve,Ól]),0,Rz,_ A ı s H,ZQ,_ cdv Rz E,BV,_ f ZQ,Ô,if_pos,È,∀(K:zFr),0,ň,_ S Z Y J,BJ,nofun,Áz,λ _=>BJ,Hl,(Áz),YL,λ x S1 v H1 h1 q1 e1 p1=>?_,Í,∀(i:Nat),0,IH,_ X pos,ώ9,zEB IH es,tV,∀(he:E5) (hpl:ώ9),0,Ã4,List D,è,∀{ds:Ã4},0,Ē,[].toArray,Wl,X.A.in1,Iy,X.A.units,Ïh,(by change Iy+1+_<_;lia),L_,.bl _,ßn,_ I a3 hz a6 g2 w1,pE,[_,_ (λ y hy=>Ř1 ßn a4 a1 rx (A:=Wl) Ïh Ïh (by exists hy)) #[L_,H,I,rfl,?_]],ϱ,items.size,Ċ,(cI 0),Ϝ,(zc zi ö Ċ),P_,intKind,u7,P_ đ,Æ,∀{X:Cx},0,Η,zc6.mp,Ę,Η e,W3,Hp->VK->Prop,Ŧ,List V,KA,Ŧ->W3,Xm,_ gV s2 σ H2,QX,_ r1 r2,Âm,_ I2 QX q2,kP,Calls.callWith_builtin,wB,(Ϟ es Ö),ÎS,#[vs,H2,I2,r2,q2],ÄD,Calls.evalArgs_plain,ag,(ÄD ?_),ĉ,(·.1),ÂF,by rw[hs] at hA ⊢;exact kP (by change (Á||(GA cpos wB).any ĉ)=Á;rw[SE] <;> rfl) ag;show zI hA λ us s2 ÎS=>hm Xm x vs v us Q Âm,Vl,X.calm=true,ę,∀(hc:Vl),0,ů,.type,E9,SetTable,ϵ,Array,He,ϵ (Int× Ï),fS,∀{ep:Nat},0,iJ,∀{es:He}fS{t:E9},0,ŉ,Value.ref,Ez,_ ‹_› hA,Ä,.inl,Ŋ,by intro gV s σ H Q I h,Ex,_ S (.refl S),Úp,λ d S1 s1 r1=>?_,sg,_ e1 Úp,ſ,List.replicate,rh,zD1 ?_,ϸ,(rh),Ġ,.none,ás,_ (x:=Ġ) rfl ϸ,Om,field,ź,.bool,uz,if_true,Q1,by simp![uz],Üw,F.slot_zip_next,Gb,_ rfl ?_,Pr,(Ò z),Nk,Str.ofString "__next__",áW,by exact zg3 (zgQ (zgG (name:=Nk) hT Üw (zg8 Üw hT F.entry_zip_next ?_ (F.args_zip_next_1 _))));exact zg3 (m:=Om Pr 2) (zgA hz rfl (x:=ź Á) Gb);exact zg3 (m:=Om Pr 3) (zgA hz rfl (x:=Ò TI) Gb);exact zg3 (m:=seqItems? (Ò TI)) (zgF hti Gb);exact zg3 (m:=Builtin.SmallTypes.ownedTupleIsFree Pr) (zg3 (m:=Om Pr 0) (zgA hz rfl ás));ext Q1,uJ,by intro gV s σ H x y v u Q I rx ry h,ud,∀(hd:rg:=by decide),0,Tg,X.N[i]?=↑x,Ro,Or.inl,Ql,X.env.scope,ZL,Í8 Ql x,Yd,∀(hN:Tg:=by rfl) (hv:ZL:=by first | show Ro rfl | show Or.inr (Ro rfl) | show Or.inr (Or.inr rfl)) ud,0,â,∀{a:Addr},0,Ù,∀{K:zFr},0,Qr,rk đ,Ik,(Qr).hash,Ĵ,its.toArray,Ρ,.Attribute,Τ,Ev->î (Ĉ),Ľ,fun σ H Q hu=>?_,ü,(cI 1),sP,Ì _,ϫ0,#[t',rfl],ÆG,λ t' k=>#[sP,H,I.tok k,ϫ0,q],áX,_ #[o,h1,h2,h3] rfl (post_val_or_str #[zE0 (Txt.slice_le z À) hz,ÆG]),fv,(wj st),qM,(yp st),ο2,_ (Ï6 st) fv qM Ġ kV,Ϥ9,_ doc pm an cdv,Qn,_ ο2 Ϥ9,A1,by intro gV s σ H xs us Q I r h,ÉZ,_ o "startswith",àU,GW ÉZ JC=ϳ,ÂG,∀(rW:àU) (hfew:((GA cpos (Ϟ [Np] Ö)).all AE&&Ae && æ ([Np].length+R6+rp<30))=true) Ur (hs:Ϟ [Np] Ö=[Ve]),0,B8,r1.ext e1,YD,(B8).ext e2,vU,_ (B8) p1,Ϫ,hi.mo,GI,_ QX z,ď,zT.go,ϋ,ho.mo,Θ0,by ext ħ;exact ď hv.mo GI λ w S1 w1 H1 h1 q1 e1 p1=>?_;exact ď ϋ vU h1 λ x S2 w2 H2 h2 q2 e2 p2=>?_;exact ď Ϫ (YD) p2 h2 λ y S3 w3 H3 h3 q3 e3 p3=>?_,Ã,.inr,vF,.ext,uW,(upd H l (vF (ST.wa w l us))),Ug,X.env.cells.lookup,Ja,Ug x=↑c,ą,.Name,ϲ,(.refl H),Nw,by let#[f0,f1,f2,f3,f4,f5]:=hf it #[],UY,s1.trans,A8,UY s2,ς7,(by simp![dep];lia),ò,absurd,R7,ò z' ς7,Õ,∀(I:Ķ),0,EI,zA4 _,ľ,(EI),ο,∀(w:SA),0,qk,∀(prog:qy) ο,0,â8,[_,by rcases x8 e with ⟨rfl,hl,e⟩ | ⟨n,e⟩],Îi,F.slot_tuple_iterator_next,qL,(Ò it),ë,by dsimp only,Fm,Value.none,Ο,Ò l,áY,by let#[ol,g1,_,n,g2]:=hl;exact zg3 (zgG (name:=Nk) ht Îi (zg8 Îi ht F.entry_tuple_iterator_next ?_ (F.args_tuple_iterator_next_1 _)));exact zg3 (m:=Om qL 0) (zgA e1 e3 (x:=Ο) Gb);ext ë;rw[Ç (show ¬ ((ŉ l == Fm)=true) from zd2)];exact zg3 (m:=Om qL 1) (zgA e1 e3 (x:=Ê i 0) Gb),sv,List Expr,ĩ,∀{es:sv},0,GO,A.deeper,ÕP,(qP te1 (hName 2)),NN,envOfC,ϵ4,_ qM Ë f cdv,ÜZ,_ (oy lK) (yE 0) ua,ÈN,(ir tc (iq (nL ÜZ)) tx),Öv,(qP te2 (hName 3)),Μ3,wu xy ķ N "Desk.say" qM BV,Âi,(Μ3).wN,ÂH,y4 k (GO (NN "Desk.say" ϵ4))-> ∃ te1 te2 tc ua tx,(zu Âi s1 ÕP/\zu Âi s2 Öv/\zu Âi s3 ÈN)/\qU f1 te1/\qU f2 te2/\pQ c tc/\nM ga ua,Ģ,(zb 1),Kv,w.params.followText "set-order",É,PySem,Us,by let#[c,cs,rfl,h1,h2]:=h,Fc,by simp![zp] at h;ext Us,Ó,.cons,rV,Hp->Prop,Wa,I.turned,ø,s.toks,Ϟ0,_ f0 f1 f3 f4 f5,MC,λ h' eb=>#[rfl,Wa (t':=ø) (λ b o hb e=>eb b o hb e) Ϟ0],Qs,[_,by rcases h with h | ⟨_,_,_,h,_⟩ | ⟨_,_,_,_,h,_⟩],Ħ,_ σ H1,vV,_ gV s1 Ħ,Å,_ K H,į,∀{k:Nat},0,Ky,∀(hr:y4 k X.A),0,ϴ,∀ į Ky,0,AJ,(u7).hash,mq,insertAt,QZ,Value.int,PM,mq es p (AJ n,QZ n tk),ä,.tup,HK,kvs.length,Q6,HK<=Ý,sI,pb P w,YY,KV kvs vs,Ma,sysModules,Dn,(a == Ma)=Á,YE,Q6/\Dn/\∃ vs,YY/\h.DictOf (sI) a vs,ŧ,xs.map,GU,List (î Nat),fY,e1.extBut,sA,IsPair,Àk,e2.extBut,R3,Builtin.SmallTypes.nextOf,Ĭ,Ne.symm,Äy,_ (s1.on λ o q=>fY À (Ĭ n3) q) (h1.on λ o q=>fY À a1 q) hx,Óh,wpAny_updateSeq_pair,jy,wpAny_onRaise,ÂI,by exact zg3 (zg3 (jy (zg3 (m:=R3 (Ò i1)) (draw Äy λ g2 s12 e2=>rh))));have to2:sA g2 TO a b:=Àk À n8 (fY À (Ĭ n2) hto);exact zg3 (zgF to2 rfl (zg3 (Óh to2 λ g3 to3 e3=>zg3 (wpAny_letGo ϸ)))),GL,[_,by rcases x8 e' with ⟨rfl,hl,e'⟩ | ⟨n,e'⟩],Êk,y4 k (GO (NN x ϵ4)),KS,yq R g t,bZ,wu xy ķ N x qM BV,Θ1,Êk-> ∃ t,y_ (bZ).wN fv t/\KS,Rh,.new,Mz,Rh hp _,Ŝ,(Mz),Av,X.env.scope.names.lookup,El,_ ž _ I h,A_,.fields,Èg,A_ [Ê lo t,Ê hi u,Ê 1 v].toArray,ZR,ů "range",Θ2,Ĩ { cls:=ZR,data:=Èg },Þ,False,Β,vs.toArray,IM,Addr->Prop,Td,or_false,CZ,not_or,Øq,not_false_eq_true,ÁY,and_true,áZ,by let#[nd,f1,f2]:=D;simp![zd7,zA5,zd3,Td,CZ,zfF,ÁY,Øq] at nd f1 f2;let#[#[n1,n2,n3,n4],#[n5,n6,n7],#[n8,n9],n10]:=nd;let#[a1,a2,a3,a4,a5]:=f1;let#[b1,b2,b3,b4,b5]:=f2;let#[hz,hti,#[a,b,hto],s1,s2]:=S,ß,∀{S:SS},0,Ė,î Int,MD,#[_,ho,rfl],ϊ3,_ MD #[_,ho2,rfl],Θ3,_ ϊ3 noFill_tuple_add seq_tuple_add PySem.F.slot_tuple_add PySem.F.entry_tuple_add (PySem.F.args_tuple_add_2 À),KN,[z,TI,TO,i1,i2],àV,(Ρ ÉZ apos),qB,_ [] cpos,Y8,_ àV [ϝ7] qB,Ŀ,List.range,Gs,.Subscript,FL,Int×Int,ZO,List (FL),ϝ,h'.get?,Vq,by let#[Y,S,r1,r2,h]:=hu,Ā,t.mask,é,_ Y S À,Ű,.builtin,uY,_ ts ds,ŝ,zp S uY,Γ,t.place.toList,WK,_ rW hfew hline,GG,s₁.heap,Ri,AllBare,Ϧ9,Ri s'.gens,LW,s'.heap,iK,callerA,ύ,.ret,Kj,ź true,õ,Ò a,Ϡ7,#[[õ],[]],Θ4,_ iK (.call (Ò fa) Ϡ7) (λ r s'=>r=.ok (ύ (Kj))/\OldK GG LW/\s'.os=s₁.os/\Ϧ9) s₁,HR,mainGlobals,ÂJ,∀ x,foldedSetIterable iter Ö x=pure x,Υ,ů "tuple",rF,(nu its ts u),a9,by rw[show its.toArray.any rF=its.any rF by simp,Ò6 ßn];show q,Ć,∀{pos:Pos},0,Ke,h.get?,Ø8,V.int,sH,ns.map,Kx,(sH Ø8),ϐ,Ev->î Bool,LN,(.bl Á),uh,_ (retS (cS LN)) y6,Gk,scope.names,Vp,(x,R9),BI,Vp ∈ Gk,ÞR,firstArgMember,ϝ2,(by size_fits),ÂK,zg3 (m:=ÞR À) (wpAny_of_eq (a:=Fm) (by first | rfl | (simp![ÞR];rfl)) (zgB ?_ ϝ2)),Ú,_ À _,ξ3,typeIs_str,QV,ξ3 Ú,ÂL,_ F.slot_str_split (QV) F.entry_str_split,à,_ Q E s,Oz,_ _ rfl,Ũ,zA9 Oz,Gp,∀(P:qy) ο,0,Ϸ,s1.heap.objs.size,ü1,_ M h n,ÂM,yG ü1,ģ,(zr 0),ô,∀{x:Str},0,ŀ,vs.length,EE,below,Dl,t.place,ES,EE Dl j,Uk,mq Dl (ES) j,ê,∀(X:Cx),0,LY,by let#[x,hx,h1]:=h0.one;subst hx,Č,Ò p,Dm,by intro gV s σ H x vs v us Q I rx rv h,Ł,(·.2),Ī,(f J).bind,ù,.Call,MO,kv.1=k,UK,λ kv=>æ (MO),ÚT,by let#[u,rfl,ru]:=vals1 r,UR,[_,by ext ÚT;cases ru],ϑ,Ň b=↑o,ï,h.elim,ć,_ ⋯ ⋯,MH,g4.length,Ζ,zv.ext,Em,(Zi),L9,_ À Em,KI,e1.trans,Vm,KI e2,SR,(Vm).trans,ÂN,by exact#[p,q,xs',ys',rfl,rfl,g3,g5,by rw[<- MH,<- g6.length];show b3,?_];have e4:Ext H2 (upd H2 p (Ñ (xs'++ys'))):=Ñ g3 _;show b4 L9 (SR e4) (p2.ups e4 #[_,yF,Ζ e4 _ (g4.append g6)]),rO,X.base,Ϭ0,_ X.K X.mg rO,FO,_ Ů Ϭ0,Uy,∀(hb:Binds X.K fd ps ds) (hd:Vals dvs ds) (hx:Passes CX X E),0,Ig,by let#[d,rfl,h1]:=Ħ3 hv,GH,I.zJ.fresh,AF,GH ľ,ī,es.size,uL,(zc zi ö ü),eT,X.env.locals,O5,b≠ eT,u3,X.s₀.heap.objs.size,Õn,(b∈X.ex\/u3<=b),ÀH,X.pn++gV,Ùo,∀ x c,Ja->c≠b,ÇB,(Ùo)/\∀ p∈ ÀH,p.1≠b,Θ5,∀(hch:∀ b∈ch,Õn/\O5/\ÇB),0,ű,List (á),Dx,by let#[x,H1,I1,r1,q1]:=z0,Ő,by split at e2,tT,_ ň x _ hE sg,Xu,by let#[x,e1,e2]:=Ę,Gw,by ext Xu;exact h tT;ext Ő,ł,ů "list",Hc,by simp![zj] at r,EX,yf ϱ 0 lo,RW,yf ϱ ϱ hi,Ût,((EX:Nat):Int),B6,(1:Int),Θ6,(Ût == 0&&B6 == 1&&(RW-EX) == ϱ)=true,Χ,p.getD,FT,zD1 h,Xv,by .rintro⟨r1,r2⟩ s' ⟨hr,rfl,_⟩;simp only at hr;subst hr;show FT,ė,_ X.K H,QA,∀{hs:á},0,í2,∀{t:E9}QA(T:Tab t hs),0,ϒ,compareOp,Θ,(cI 2),HC,(zc zi ö Θ),v5,(cS (Ì " ")),ý,∀{i:Nat},0,Lj,∀(hcd:(x == ("__classdict__":Str))=Á:=by decide),0,ċ,owner,ũ5,∀(hN:X.N.Nodup),0,ØO,∀(hi:Tg) (hx:Loc Ql x),0,Pu,∀ ũ5 ØO,0,JB,(n,k),O8,NameKind.cell,ÂO,(names.map λ JB=>if gE then (n,O8) else JB).lookup x,ϟ,(yo S Z),č,∀{e:Expr},0,Ψ,_ [] pos,Ϲ,∀(ha:yB X Hi tA),0,ý8,PySem.W.findIn,La,(Ò C),HP,_ K La,Θ7,ý8 HP "__setattr__"=↑↑(Ű "object.__setattr__"),ÞB,λ b ob u q=>GQ,Yy,#[λ b ys q=>GQ,ÞB,λ b u q=>GQ,λ b x u q=>#[u,GQ]],ă,ha.mo,Ð,.nil,fC,î T,ŋ,T->T->fC,CR,(zr 1),MU,(za CR ze),sY,(za ģ MU),sF,by let#[hp,g,d,tk,os]:=s,QW,(Ű id),Åv,∀(hty:typeOf QW=pure (ů "method_descriptor")) (hm:lZ X id r),0,Θ8,∀(pa:PlainAttrs T) (slot:Slot T name id) Åv,0,É0,_ S1 Z Y J,Ph,hE.grow,Ia,Ph s1,Ds,_ _ (Ia) e2,U9,Cl.cl,sZ,_ S2 (A8),VC,_ É0 y Ds λ d S2 s2 r2=>hq d sZ (U9 s1 r2),Rn,List (Key×D),M_,Ä rfl,Õj,by first | show M_ | show Ã rfl | assumption,Ϧ7,X.fn x=true,Lh,.local,ο6,Ϧ7\/Av x=↑ Lh,V9,∀(hf:ο6:=by ext Õj),0,Ñ7,yy.of,Ðb,Ä #[rfl,xs,Ñ7 g1],HF,by simp![zj] at q1,F4,by ext HF;subst q1,Θ9,by let#[#[ds,hd],h1]:=h1;ext F4;let#[xs,g1,g2]:=p1 À hd;exact#[Ðb,?_],Ų,zv Å ds xs,ő,ts.length,WS,Ev->î Ev,MR,xu ts,ÐE,by intro gV s σ H x y v w Q I rx ry h,İ,cLine,ÂP,[_,by ext ÐE;let#[S,d,e,u,ts,ds,a1,a2,a3,a4,a5,a6,a7,a8,q]:=h;have hz:MR<İ:=⋯;let#[l,xs,rfl,g1,g2]:=yA.sq a2 a3 a5;cases ry;rcases g1 with g1 | g1],ÁC,h.zz a z,MW,h.len,bx,by simp[MW],Tu,h.er.zd,Ën,λ j k us vs q n e1 e2 e3 e4=>?_,mP,λ q=>?_,ÂQ,#[#[λ a z=>Tu a z.1,λ j t e'=>?_,λ j us e'=>?_],bx,h.sx,h.z0,λ a z=>#[ÁC,mP],λ a z=>h.zn a z.1,λ j us q e' ed'=>?_,Ën],ÿ,∀{xs:Ŧ},0,ã3,∀(ha:yK fa ta) (hb:yK fb tb),0,ϓ,#[_,rfl],UZ,_ e.1 e.2,WD,λ e=>(AJ e.1,QZ UZ),ĵ,∀{α:Type},0,Ip,_ he hpl,Ha,_ () (),uF,ha.pa,A7,_ uF Ha Ip,ā,∀{n:Nat},0,BO,.Compare,JZ,L4.vp,BZ,pH rs,ϻ6,rs.length,ËN,ϻ6<64/\∀ r∈rs,r≠[],Ι0,(nY ts).bind λ rs=>if ËN then ↑(Ñ ((JZ (BZ)).map zN)) else none,Be,(zC 0),qD,(qW 2 (xg Be (xg (zC 1) pJ))),Œ,k.toNat,Ą,∀{ts:Ĉ},0,qx,∀(ha:PE X a ta),0,vG,∀ qx (hb:PE X b tb),0,Đ,(Č),BA,Y[i]?=↑↑ Đ,VO,_ qh elt te,gs,_ qh tg g,Ι1,∀(hg:∀ cl C s H fp,PG gs) (hf:∀ cl C s H fp,PF qh ifs tc) (he:∀ cl C s H fp,PE VO),0,Hu,_ _ hE e1,ÂR,_ Hu λ ds S1 s1 r1=>?_,sS,I.items.length,ϔ,(zb 2),ĝ,∀{h:Heap},0,F6,by let#[t,rfl]:=rx,BE,_ X (ą x pos),Ă,_ ta tb,K0,∀(us:zLV),0,FP,î Addr,fw,∀(kV doc pm:Ï) (an:FP) (cdv ct:Ï) K0,0,Ĭ1,_ vU h1 λ y S2 w H2 h2 q2 e2 p2=>?_,MK,∀(X:K.In h) (G:h.Ns HR mg),0,r_,slots,Ĳ,items,Ě,.seq,OA,Ě Ĳ n,wL,Ň l=↑{ cls:=Υ,dict:=dd,data:=OA,r_:=sl },Bc,#[x,H1,I1,r1,q1],Ϡ,us.length,Au,SS->Prop,ì,∀{d:D},0,Ę3,List (κ × V),ßF,List (κ × Ï),DR,∀{kvs:Ę3}{vs:ßF}(r:YY),0,ϵ1,_ Xm _ I2 q2,ßO,λ u s2 z0=>?_,âq,_ vV _ I1,vP,_ âq q1,ÎL,zI (ho vP) ßO,Aj,by intro gV s σ H D I h,ÂS,by ext Aj;exact wpAny_Assign_Subscript (zI (hv El) λ r s1 z0=>?_) hs;let#[v,H1,I1,rv,q1]:=z0;exact ÎL;let#[x,H2,I2,rx,q2]:=z0;exact zI (hi ϵ1) λ iv s3 z0=>?_,Yz,PySem.W.keepIn,π,(Ò f),t_,Yz K π=true,UG,t.plain,G8,t.led,GF,order,ϣ0,order.toList,NB,es.map ĉ,ÂT,[_,by let#[t',GF,h1,h2,h3,h4,h5,h6,h7]:=ă8 hM t.finger (t.movedTo M) G8 UG (NB) (by rw[hsz];lia);rw[hsz] at h6;have hlt:∀ k∈ ϣ0,k<å:=λ k hk=>by exists h6.mem_iff.mp hk],Wo,[_,by subst e;let#[o,e,c,d]:=st;show#[o,e,λ v z=>by rw[d] at z;cases z]],E8,∀(l:Addr),0,Ď,∀(n:Nat),0,KH,∀(t:Tok),0,Dv,î Ï,Dq,ϵ (Dv),Uj,∀ KH E8 (Ĳ:zAV) Ď (dd:FP) (sl:Dq),0,HJ,if_false,fz,by simp![zB5,zC4,HJ],ÚX,_ [op,op'] [b,c],Wr,∀(hm:lastMarks ÚX=Á:=by with_unfolding_all rfl),0,QR,[_,by rcases x8 e1 with ⟨rfl,hl,e⟩ | ⟨n1,e1⟩],rm,∀(mg:zSV),0,Rb,∀ rm (base:Heap),0,Ϲ5,zT X.K te,ÂU,_ (g:=da X.K g) (tc:=pU X.K tcc) (te:=Ϲ5) Sc hc hi.pi (λ cl C s H fp=>(hg DG).pg) (λ cl C s H fp=>(hf DG).pf) (λ cl C s H fp=>(he DG).pe),BG,Cl.of,Vk,BG Hl ŏ8,BX,_ _ Ex,Ea,hq BX (Vk),Lg,ů "set",Gr,Ke a,E4,_ es ep,tj,_ E4 t,Wn,.set tj,o5,Gr=↑{ cls:=Lg,dict:=none,data:=Wn },MP,V->Ė->Ė->W3,Nf,Heap.SameBut.update,ÂV,#[ok.mod,ok.kind,ok.glob,ok.blt,ok.above,ok.inj,ok.has,ok.bj,ok.hd,ok.frames,ok.ah,ok.W4,ok.bs,ok.iw,ok.dY,ok.cN,ok.lg,ok.gp],KL,Array.getElem?_eq_some_iff.mp,An,mq es p (Ik key,ŉ b),tM,Builtin.Tuple.tupleHashOf,ÛN,order.filterMap,N1,ÛN (es[·]?),Uh,(ox N ds),M5,_ { nx:=λ _ S'=>Q .zx S',rt:=Q } Uh S,Ω,h.objs.size,tf,behindInMarks,Dt,scope.names.lookup,J6,_ _ H Em ϲ,ÂW,["enumerate","zip","dict_itemiterator","dict_reverseitemiterator","odict_iterator","itertools.zip_longest","itertools.pairwise"].contains n,TF,_ (Vm) p2,ÂX,_ vU z λ y S2 w H2 h2 q2 e2 p2=>h2 w H2 q2 TF,tI,_ X e te,MA,PD tI,s_,∀(he:MA),0,N4,_ d S',Ëo,λ a z=>z.1,Ñw,_ (Ëo) (λ a ha z=>z.2 ha),Su,(Ia).zd,WV,D.ref a,ÂY,#[λ a=>Z a/\WV ∉ds,xs,_,λ a z=>Su a z.1,r1.free Ñw,e4,λ d S' s r=>hq N4 (UY s) ?_],μ,∀(hg:Gl X x),0,JO,(M_),vy,k À JO e,V4,eval b Ö,Kk,[a,b],X4,eval a Ö,Ι2,Ϟ Kk Ö=[(Á,X4),(Á,V4)],IL,PySem.mem_of_lookup,ϕ,ds.length,K7,its.toArray.size,Ι3,_ (EP ú Q) X.xe,Xl,∀{r r':R2},0,Ni,∀(ho:yH X (ϒ op) r),0,X8,∀ Xl Ni (ho':yH X (ϒ op') r'),0,I_,I.ok.hd hc,rZ,∀ d S',Q N4->Q' N4,ϩ0,λ j t e=>?_,ÂZ,#[#[Tu,ϩ0,λ j ts e=>?_],bx,h.sx,h.z0,h.zz,h.zn,λ j ts p e e'=>?_,λ j k ts us p n e1 e2 e3 e4=>?_],LV,_ X o to,tQ,∀(ho:PD LV),0,ϡ,A.units,vK,seqObj,OU,(vK "list" Ē 0),Ap,_ S0 Z0,N_,_ Ap ň,JT,FR N_,LA,List (Key×V),uf,IsZip,Fz,zg3 ?_,Ra,_ z TI TO,Ng,_ Ra .ellipsis,ÝC,List.forIn_nil,uK,pyNext,Ãa,by unfold uK;ext áW;exact zg3 (zgH (zg3 (zgA hz rfl (x:=Ò TO) rfl (zg3 (zgR hz #[] λ g1 hz1 e1=>?_)))));replace hz1:uf g1 Ng:=hz1;exact Fz;simp![zfG,List.zipIdx_nil,ze8,ÝC],NI,#[_,Ũ,rfl,rfl],Dg,(I_),ÝI,bs.getD i true,RV,λ i=>ÝI,Ãb,#[Ë,_,_,_,_,_,RV,rfl,Walks.list (A:=Wl) Dg Ë p (zB3 hlt) Ĵ,#[NI,pl.isList.push _],λ i v s' Q' E' hv hq'=>?_,λ h' tk hk=>?_],ţ,_ b hb,Ùx,(sb.2 ţ).trans,Ça,_ (λ b o hb e=>Ùx e) Ϟ0,ν9,Inv ú H { s with heap:=h' },Ι4,by have I1:ν9:=Wa (t':=ø) Ça,aD,(k,v),YU,(k,x)::r,Ι5,by rw[show nj f v (YU)=(if k=f then aD::r else (k,x)::nj f v r) from rfl];by_cases hk:k=f,Ϫ5,(BG Hl Ĵ2),yR,hq BX Ϫ5,bf,u=ŉ a,sJ,[_,by subst ex;obtain rfl:bf:=rx],X3,A.handled=none,yW,∀(hh:X3),0,ψ1,_ X tg iter,Ϭ4,∀(hi:zY ψ1 ti),0,Ž3,N'.Nodup,ám,eP qh ifs tcc,Ãc,∀ Ϭ4 (hg:∀ cl C s H fp,Ž3->mQ gs) (hf:∀ cl C s H fp,Ž3->ám) (he:∀ cl C s H fp,Ž3->PD VO) (nd:Ž3),0,Ĥ,∀(a:Addr),0,ĥ,∀(h:Heap),0,v8,Heap.SameBut,Âk,_ Xm x y v,ÌE,(ho Âk u _ Âm),ÊI,#[z,H3,I3,r3,k,e,q3],Ïk,#[y,H2,I2,r2,q2],ÀR,(hb vP),Ãd,(zI ÀR λ u s2 Ïk=> zI ÌE λ d s3 ÊI=>?_),qv,by simpa only [Sn] using q,ξ,I.tuple,Ϣ8,by simp;lia,FK,(Ϣ8),Δ,ns.length,IW,Heap.size_push,Ab,ps.length,Ś,_ Û Q,u0,t Ś,Ãe,∀ σ H Q,t' Ś->u0,Þx,(vF (l7 r j)),uT,(upd H r Þx),ς0,[_,by cases rx;let#[u,rfl,ru]:=rv.one],ÌU,by let#[z,its,n,r,hl,e]:=I.Ģ7 hH,Çu,by let#[l,b,xs,zs,rfl,rfl,hH,hB,hz,q]:=h,Ãf,[_,by ext Dm;ext Çu;ext ς0;cases ru;ext ÌU],Ϻ,(cS .zx),ē,∀{Q:zVP},0,LZ,_ k1 k2,jB,_ LZ í l1 l2,ų,zc9.mp,X0,sc.names.lookup x,Q_,∀ b∈fp,mR X gV H b,iP,A.under (Ű "type.__call__" #[Ò C::us,kw]),Eh,PySem.W.fnOf,BP,(za ģ ze),Iz,(g i j),ϧ2,Int->Int->V,Ái,(g' i j),sM,Int->Int->D,Ι6,∀{g:sM}{g':ϧ2}(hg:∀ i j H,zj Å Iz Ái),0,ā6,zj Å d v,QS,∀(r:ā6),0,ϗ,yu Å S,uk,∀ QS (p:ϗ),0,Lm,∀{f:zEO},0,BL,∀{te:zy},0,gG,∀ Lm BL,0,âr,_ Ra i1 i2,Ι7,_ âr l1 l2,Ãg,order.toList.filterMap λ k=>xs[k]?,Ń,∀{us:zLV},0,AA,_ Hi Ψ,wJ,(ą x p),Ι8,_ X (ù wJ AA),Ej,_ ha hb,Qk,_ Ej (Ă5 _),Ãh,_ (λ _ _ _=>ŏ8) λ _ _ _=>BJ,qu,beq_eq_false_iff_ne.mpr,Ue,#[hp,g,d,tk,os],B7,Ext H H',HG,λ D σ H hu=>?_,HN,Builtin.List.listExtendWith,Na,λ e=>AJ e.1,ń,(yb Á),O2,bs.all id,Fv,(mN λ bs=>O2),Ãi,(items.toList.drop (EX)).take (RW-EX),DE,_ pos.line Ö,Ι9,_ GI λ d S1 v H1 h1 q1 e1 p1=>?_,Pg,PySem.W.nsIn,V_,["floor","number","number","number"],AG,List Key,HA,List (AG ×V),OT,Addr× Ï,XW,List (AG × OT),Vv,∀{kvs:HA}{xs:XW}(r:KT H kvs xs),0,ÞK,wpAny_fieldsOf,ßo,_ S.get rfl S.fits,dB,(Ķ8 ho),tG,zg3 ϸ,rb,rawInt,âb,by exact zg3 (zgQ (zgG (name:=Nk) dB fq (zg8 fq dB õ2 ?_ (Ĉ3 _))));exact tG;ext ë;exact zg3 (ÞK ho Gb);dsimp only[rb];exact zg3 (zg3 (zgE ßo ϸ)),Vh,kvs.map,ÉT,λ kv=>if MO then (kv.1,v) else kv,HU,(kvs.any UK),Κ0,if HU=true then Vh (ÉT) else kvs++[aD],Ν8,by intro gV s σ H x v vl vu lo hi sl Q I rx hs pl pu h,Ãj,[_,by ext Ν8;let#[a,xs,rfl,hx,hw,q]:=h;cases rx;let#[its,r,ht,hz]:=ξ hx;have hlen:K7=å:=by rw[zA0];show r.length.symm],uM,[_,by exists this],Wv,by unfold SetTable.tooFull at this;rw[hfill,hmt] at this;ext uM,Κ1,s3.heap.push { cls:=ů "slice",data:=A_ [vl,vu,Ġ].toArray },Κ2,[_,by rcases g with ⟨kvs,k,e,ey,l⟩ | ⟨kvs,k,b,e,ey,eb,l⟩],EV,Vals xs its,sr,∀{its:zLV},0,TJ,zv ė ds xs,Κ3,∀ sr(hz:MR<İ) (h1:ŝ) (h2:TJ) (h3:EV),0,ÉO,ne_true_of_eq_false,ÔX,(Ç (ÉO h1)).trans,Ãk,hq (numbered ø _) _ ((numbered_texts À).trans (ÔX (Ç (ÉO hf))).symm),ÏP,∀(hk:l8 X.K) (ho:PE X o (nW i)),0,Κ4,∀(hr:y4 n X.A) ÏP (hi:PE X ie (nW j)),0,PL,#[L_,H,I,rfl,q],Y_,(za (zc zi Ϝ ü) ze),Wt,(za (zc zi Ϝ Ċ) ze),Ãl,(xc (za (zc ye (zc ye (zc ye (cS (Ì "brims ")) (zl y9 Wt)) v5) (zl y9 Y_)) ze)),Hj,NN qual Ĺ Ë f cd,Ř,.own,ŷ,Ñ ts,A9,(ŷ),ϻ0,(Ř A9),sL,some ↑ ϻ0,ϯ,_ a xs,NQ,_ Å ϯ,qI,∀(M:Nat),0,se,∀(h:Int),0,qp,∀ qI se,0,àn,F.er.ow i _ h,XO,by let#[p,ob,h1,h2,h3,h4]:=àn,Kf,λ _ _ q=>q,Κ5,PySem.W.emptyDict,ϻ,IntsAre,ϖ,trivial,Jm,(za Ģ ze),Ij,(cI 3),Κ6,(zc zi ö Ij),Ãm,[_,by let#[h',g',d',tk',os']:=s';obtain rfl:g'=s.gens:=hm.gens;obtain rfl:d'=s.drawn:=hm.drawn;obtain rfl:os'=s.os:=hm.os],GC,_ Be xA,Ş,zA5.mp,ĭ,(Ο),Al,Paired.length,Im,HT.yf,QG,Im å 0 lo,BQ,HT.lexLt,Į,∀(x:Str),0,Ĕ,_ Y S1,Ō,_ Ĕ À,yP,_ (prog:=prog) (w:=w),Ãn,∀ Ϭ4 (hg:∀ cl C s H fp,mQ gs) (hf:∀ cl C s H fp,ám) (he:∀ cl C s H fp,PD VO),0,Eg,(ä xs),Z_,∀ b xs,H b=↑ Eg->H' b=↑ Eg,bR,I.base.free,Wq,λ b o e n hb hx=>?_,Ýo,λ b o e hx=>?_,Ão,#[Wq,Wq,bR,Ýo,I.base.kg,I.base.jj,I.base.j9],AV,_ ž Q I,Ϟ3,_ AV (hi Ś q),XC,λ gV s σ H Q I q=>h Ϟ3,MY,way M h k,X2,comes,EK,X2 w a E4,ũ,(zb 3),Xh,[_,nomatch z],Κ7,_ e (λ z=>Xh) fin,EZ,o.data,ra,EZ=.dict E4,χ,_ σ' H',JR,Inv X gV χ s',BB,assignEach,Κ8,(zD1 #[_,rfl,FT]),EJ,Obj.mapSeq,Lb,Builtin.List.listTooLong,vB,#[h.1,hq À h.2],Kp,Int ⊕ á,Qi,(cS (Ì "keeper")),WE,(za ö ze),Ag,(zl xS WE),S_,I.list,Ow,S_ hq,WJ,by let#[its,r',pl,hz]:=Ow,MB,h1.seq,E_,ų e,Κ9,by ext Ig;let#[ts,e1,rfl]:=E_;let#[es,h2,h3]:=MB e1,Λ0,by let#[d,d',rfl,h1,h2]:=ń0 hv,rE,I.tok _,Ϭ,Ò Ë,ş,(Ϭ),XQ,(.ins C dx [("kept",Ò q)]),ō,hq À h,Λ1,λ ds S1 xs H1 h1 q1 e1 p1=>?_,II,Gs o i pos',ϲ9,lives M ċ,tE,(ϲ9).map,XR,Str× Ï,MZ,List (XR),Aq,by simp![zj] at h1 h2,FI,List.lookup,gq,FI x ((if gE=true then (n,O8) else JB)::_),Ϗ,_ À s,ÈG,by exact Fz;change Â À (forIn Ĳ À) Ϗ;rw[<- zfD],OZ,_ ?_ ?_,N9,_ _ OZ À,ϸ5,items_int,Ww,r.1=none,ÛM,∃ n t,v=Ê n t,Ãp,by ext ÈG;exact zgL _ (λ rest r s'=>Ww/\s'=s/\∀ v∈rest,ÛM) N9 #[rfl,rfl,ϸ5 hi],rB,(zdK),Ãq,_ (by rw[typeLookup_type,builtinLookup_eq_fast];kernel_rfl) rB rB rB (by first | show Ä rB | show Ã rB) (by rw[isSubtype_type];kernel_rfl),ÌT,by let#[j,h1,h2,h3,h4,h5]:=Ø1 he,Az,r.length,Zp,by have hl:=Az,Ãr,by ext ÌT;let#[w,ew,rw']:=r.get h2;ext Zp;have hn:=h_;have fin:EP ú Q w s:=#[z,H,I,rw',q],VQ,[_,by rcases x8 e2 with ⟨rfl,hl,e⟩ | ⟨n2,e2⟩],œ,[_,by cases h],Ôt,((SR e3).trans e4),Λ2,_ σ _ (((YD).ext e3).ext e4) Ôt,AK,_ Ι3 s,LQ,RelV x v,qa,Vals xs us,Jh,∀(xs:Ŧ),0,Âl,_ xs H Q,Κ,∀(Q:VK),0,Ãs,∀ ļ (x:V) Jh (v:Ï) K0 Κ,Ķ->LQ->qa->r x Âl-> Â û (call QW (v::us)) AK,VY,y4 k (GO (NN qual ϵ4)),Ãt,_ Sc hc hi (λ cl C s H fp=>hg DG nd) (λ cl C s H fp=>hf DG nd) (λ cl C s H fp=>he DG nd),L7,_ rfl rfl,ßl,_ ϖ Sc.nd L7 hr,Ţ,hbody,Λ3,λ f cdv A ı s H E hr=>Ţ BV ßl,VP,by let#[x,r,h1,h2,h3]:=h,Λ4,Ke b=↑u->ϝ b=↑u,IK,swapsWith,Hv,(.dK kvs),Eu,_ [e] qB,WW,(ù (Ρ o "append" apos) Eu),rJ,_ ks ts,rL,.zL rJ,En,∀(ha:yC ta) (hb:yC tb),0,sy,∀(o:Ord lt),0,GK,ϵ Nat,EF,∀{p:GK},0,Qa,∀ sy EF,0,ź8,Bool->ŭ,F9,∀{Q:ź8},0,rn,∀(S:nv w í a tj),0,ÔT,by let#[w,w1,w2]:=r1.2 i _ h1,Λ5,by ext ÔT;let#[y,y1,y2]:=r1.2 j _ h3,Y7,λ v s1 z0=>?_,Nn,#[cls,dd,data,sl],sN,s.heap.update,KQ,Ñ ds,ET,(KQ),AL,_ zi Ģ,JD,(zc AL Ċ),Ŵ,_ lo hi,JY,j.toNat,Λ6,_ (λ _ j=>0<=j) λ i j=>Ê (i/2 ^ JY),ŵ,∀{p:Addr},0,Dc,xV Å Y σ,Rl,bits h,Ϝ8,layClean.free,ό,(M+1),Ju,Rl%ό,Λ7,Ϝ8 M ċ (turns M) (Ju) (Rl),XY,by let#[_,_,_,_,o,_,_,e,_]:=x,EN,_ x y H Q,Λ8,by simp only at hc hd hc2 hd2;subst hc hd hc2 hd2,PK,∀(ho:PD X o td) (hi:PD X i ty),0,vH,∀(ha:yB X [e] tA),0,Ε,List Addr,XS,by have nd:=D.nd;simp![zd7,zA5,zd3,Td,CZ] at nd,IC,h.er.ow,ÁD,(nI Ëo),Ãu,by .let#[q,es,g1,g2,g3,g4]:=IC j us e';show#[q,es,g1,g2,lW.sx ÁD g3,g4,λ z=>by subst z;show h.dj i j _ us q n e e' ed g1],N2,(ho El),Êu,_ PySem.F.slot_dict_getitem.lookup hs,ÞI,λ iv s2 z0=>?_,ÍO,zI (hi vP) ÞI,De,λ u s1 z0=>?_,Ãv,by ext Ŋ;exact ķ7 Êu (zI N2 De);let#[x,H1,I1,rx,q1]:=z0;exact ÍO,Ãw,A_ [Ġ,ź Á,Ϭ,rb 0,Ġ,Ġ].toArray,Z4,ϝ b=↑o,Oc,ϑ->Z4,χ9,∀ b o,b<Ë->Oc,Λ9,(χ9)->Q ş { s with heap:=h',toks:=tk },Μ0,[_,by let#[_,y]:=e.ds Ú z;rw[h] at y;cases y],KP,by unfold yE;rw[h1],Ϗ1,by change yE i Y S _;ext KP,Μ1,by let#[p,b,h1,h2,h3]:=Ĵ0 hE h;ext Ϗ1,Ϛ,zA8 e,Μ2,(hs.2 b (zB3 (zC3 (Ϛ) (I.ok.bj x c hfn hc)))).trans,Àh,Str.empty,Χ7,PySem.W.plainGet,ÐO,Χ7 K C Àh=true,ν4,PySem.W.plainOver K C=true,YA,PySem.W.hasDictIn K C=true,Ãx,∀(c1:ÐO) (c2:YA) (c3:ν4) (c4:Θ7),0,Gy,Nat->Nat->Bool,Tf,isTrue,uR,holding,ÕT,uR [v] (truthy v),cF,standAt,rC,whole,Ãy,∀ rC,Tf (ù Y8) Ö rC=(do let v <- rC;cF (Expr.Call Y8).pos;ÕT),VW,_ (wu xy ķ N qual qM BV).wN fv t,Uz,_ WK hs SE,tD,xs[i]?,Jn,tD=↑x,nF,its.size,QM,its.toList,ϛ3,EZ=Ě its n,Ãz,ϛ3/\nF<=Ý/\Vals xs QM,Zt,PyProof.Rows.callWith_type1,IV,pl.isList,Jf,(λ z=>?_),ϟ5,_ N' pick Ĺ,sG,j0 X ϟ5,LO,(Rh hl _),ϡ1,hp.below ⋯,YX,#[ϡ1,ϡ1,?_],EG,∀{mg:zSV}{base:Heap},0,Íx,(ù (Ρ o name apos) Hi qB),Μ4,_ X Íx (iQ X.K T r to t),tS,FuncData,ÃA,λ ds S Q Q' hq #[d,ns,h1,h2,h3,h4]=>#[d,ns,h1,h2,h3,λ M a b=>hq À (h4 M a b)],Μ5,[_,by obtain⟨ds,rfl | ⟨a,rfl,h1⟩,h2⟩:=Vw.lst r1],JH,V.str,ÃB,q.1=r.1/\∃ a,r.2=õ/\∀ H,y8 Å a (q.2.map JH),Ŏ,∀(f:zEO),0,Ņ,Paired,Ğ,PE.imp,Eo,ps.map,Ŷ,(zb 4),p9,Builtin.Tuple.tupleExact _,IJ,(zr 2),Cq,(za IJ ze),Mx,(za CR Cq),ÃF,_ P w H h,Μ6,xO ÃF,Qd,zg4 _ e,V6,λ b o e=>Qd,E7,its.length,uv,call_meets,ϸ8,cl.lookup,rD,ϸ8 x=↑c,rQ,I.bare,ϰ3,λ _ _ e=>e,ϳ1,λ m hm=>?_,ÃC,_ (ϰ3) (λ _ _ _ e=>e) (λ b ps e=>#[Ē,by rw[e];simp]) (ϳ1) (λ b u e=>?_) rQ,XM,by let#[y,e1,e2]:=Ę,Υ5,(ps.zip us),T2,pure Υ5,Pb,Ϡ=Ab,S7,bindArgs,TY,oM N ps qM,ϑ9,∀(Sc:TY) (hn:n=Ab),0,UL,#[us,[]],ÃD,∀ ϑ9 (hb:∀ fw,Pb->S7 (Eh x x Qn ct) UL=T2),0,Iu,binaryOp,Xf,Calls.spliced_cons,OG,(.dN ep xs),Je,H a=↑ OG,Ϣ,Sn S t d,B_,(ds++es),rU,_ i h h1,SW,(ts++us),Ļ,zp.sx,Îa,(Ļ (oA s1) ts h3).append,ÃE,P _ Z Y (F1.mut (us:=Ñ SW) (es:=Ñ B_) rU (Îa g4)),Ew,_ [b] pos,Ŕ,∀(k:Nat),0,Ň4,_ k ps sp,Qb,∀{sp:pC},0,F_,∀{ps:þ},0,Va,∀ F_ Qb(F:FD FO x Ň4),0,Ū4,_ R (zW N n g),š,(k+1),Μ7,_ š ps (zM Ū4),ÃG,_ (a::b::rest) pos,ς,∀{vs:zLV},0,Ś0,(by kernel_rfl),ÃH,_ (o:=['r','o','t','a','r','e','t','i','_','t','e','s']) Ś0 Å5,JN,(.ins C dx fs),Dw,Option.none,TB,I.kept,ÃI,[_,#[L_,H,TB (t':=tk) λ b o eo=>hk b o (by exists zB3 (zA8 eo)) (zg4 _ eo),rfl,q]],ÃJ,ϵ (î Nat),yT,#[_,rfl,h],ſ6,(b,o),Vj,_ ſ6 (zB4 _ (zB4 _ (ē2 hb e))),OD,by ext F6;let#[t',rfl]:=ry,Çc,(zI (hi El) λ v s1 h1=>zI h1 λ itv s2 h2=>?_),ÃK,_ rfl hs hclos S.kind (λ y hy e=>e▸S.uniq y hy) Çc,sV,hb.mo,u5,_ ă sV,ϫ9,λ _ _ _=>Zi,Uq,_ (fI.fits ϫ9) fI.mo Ej,B0,_ e1 p1,u6,_ H1 B0,VT,_ _ u6 λ i H2 S2 x1 x2 hk=>?_,Ze,List (Key×T),CE,by rw[zA7] at hl,VN,rv.length,Öl,by let#[its,rv,pl,hz]:=Ow,ÅW,by ext UR;ext Öl;have hl:=VN;ext CE,ÃL,by let#[p,bs,rfl,hq,q]:=h;ext ÅW;have hlt:p<Ë:=by let#[o,n,e,_]:=pl;show Ϛ,UO,IsPart,Ìc,s.heap.IsSliceOf sl vl vu Ġ,Μ8,∀(hs:Ìc) (pl:UO vl lo) (pu:UO vu hi),0,ś1,Around.under_plainId,ux,A.in1,u_,_ _ ux,Ðf,F.plain_set_update_loop,RC,(Ò I),Ib,codeAny_builtin,ÃM,by exact Ib F.entry_set_update_loop ?_;rw[ś1 Ðf _];change Â u_ (uK RC >>= _) Ϗ,JX,by simp![zA5,zd3,Td] at hb,Μ9,∀{oc:Ï}{od an:FP}{osl:Dq}{kV doc pm cdv ct:Ï},0,Jz,slice,Ϩ,value,Éu,by intro Ϩ Jz gV s σ H x y v u Q I rx ry h hs,ϕ1,[_,by cases rx;let#[t,rfl]:=ry],ÃN,by ext Éu;let#[p,xs,i,z,rfl,rfl,hq,he,q]:=h;ext ϕ1,ϴ2,(A8).trans,Hz,ϴ2 s3,Gg,Ke b=↑o,C_,Heap->Prop,yj,(lS pick ti g tcc te),Ν0,by rintro v rest r s' ⟨hr,rfl,hall⟩,vh,ss.map,DF,(vh JH),XG,∀{kvs:Rn}{vs:LA},0,JF,xW Å kvs vs,X_,∀ XG(h:JF),0,ğ,∀{R:Rk},0,UB,(k:Int),Wh,(k:Nat),ξ8,λ Wh=>Ø8 UB,Ν1,Ñ ((Ŀ JY).map ξ8),Ϩ7,Int->Int->T,ÃO,∀{g:Ϩ7}{g':sM}(h:∀ i j S,Sn S Iz Ái) (n:∀ i j ts,g i j≠ ŷ),0,US,∀{N ps:þ},0,R8,∀ US{k n:Nat}{g:Sm},0,ÿ4,K.lookup,É2,congrArg,FH,(vK "list" Β 0),Lc,a.length,Jq,(Ik key),Xe,(vF (wa X.w l us)),WZ,Value.type,ÃP,PySem.W.instObj,GJ,Unit.unit,qK,.BoolOp,Ah,False.elim,ϧ3,(ha pos El),Ν2,(zI ϧ3 λ us s1 z0=>?_),V1,PyProof.Rows.slot_tuple_getitem,Kz,Sx S S',i7,ϕ+es.length<=Ý,u4,IsTupleKey,Ϥ1,Txt.splitMax,YJ,(Ϥ1 a b k).map,Ν3,∀(he:E5:=by rfl) (hpl:ώ9:=by rfl),0,A6,List α,ύ1,by let#[x,rfl,r]:=h0.one,ÃQ,by let#[d,ns,rfl,h1,h3,h4]:=h;ext ύ1;let#[a,rfl,sq]:=jM.sq r h2 h1;show#[a,ns,rfl,sq,h3,λ M x y=>h4 M x y J6 h2],áj,(ē0 g4).trans,ÃR,by ext Di;let#[hi,xs,hq,hk]:=hg;let#[_,o,es,g1,g2,g3,g4]:=Ľ3 I hq;have l:=áj ((zA7 ..).trans hk);ext Nw;rw[<- l] at st,Xq,by let#[ys,e1,e2]:=Ę;exact h ň ys ÂR,Px,(Ò e),J4,_ í h',Υ1,ů "StopIteration",Qj,o.cls,Ín,(∃ o,ϝ e=↑o/\Qj=Υ1),Ϫ3,Heap.ExtBut,ÃS,∀(hx:tD=none) (hE:∀ h' e,Ϫ3 it J4->Ín->E Px { s with heap:=h' }),0,r9,zp.nil,YG,by simp![zp] at h;subst h,bV,[_,by ext YG;exists r9],Ν4,[_,by let#[u,rfl,rx]:=vals1 r;cases rx],τ,∀{b:Addr},0,ÃT,by ext Ŋ;let#[cl,hclos,c1,c2]:=Đ3 (Ĺ:=Ĺ) (env:=Ö) λ y hy hk=>I.ok.has y.1 (S.free y hy hk),âc,by ext Hc;let#[a,xs,h1,h2,h3]:=r,Me,by let#[xs,e1,e2]:=Ę,ſ1,.oE o u,Ν5,∀ b o u,H b=↑(ſ1)->H' b=↑(ſ1),Xp,_ X (BO a ÚX pos),Xs,∀(F:ot FO CX k f fd ps sp),0,Ū,∀{tA:y7},0,ÃU,_ (s2.on λ o q=>up _ o (Ĭ n4) (Ĭ n10) (Ĭ n9) q) (h2.on λ o q=>up _ o b1 b4 b3 q) hy,Ν6,_ PySem.F.slot_str_split PySem.F.type_str_split,âd,by rename_i ks ts x h1 h2;let#[p,m,g1,g2,rfl,g4]:=hE.cW h1;let#[d,k1,k2]:=hE.im j _ h2,Ëz,by exact zg3 (wpAny_handled ?_);rw[show A.in1.handled=none from hh],ÜS,by simp![newExc,newTuple],ÃV,by ext ÜS;exact zg3 (zgB (ÂK) ϝ2);simp![raiseNew];ext Ëz,XJ,e3.extBut,ϣ6,Ň c=↑o,ÃW,by have up:∀ c o,c≠z->c≠i1->c≠TO->ϣ6->g3.get? c=↑o:=λ c o c1 c2 c3 q=>XJ À c3 (Àk À c2 (fY À c1 q)),WM,[_,by let#[_,_,_,q,_]:=h2.jL p r2;cases q],YI,x2.trans e3,ÃX,fun Y5 S5 #[m',b,w5] σ5 H5 b1 b2 b3=>#[(YI).trans b2,Y5,S5,m',b,b1,b3,w5],bB,(ŧ enc),K1,∀{J:Ev},0,Ed,∀{pick:GU},0,IZ,∀(xs:A6),0,ug,∀{g:T->WS},0,ÃY,∀ Ed{it:Τ}ug{c:ϐ}Lm K1 IZ (hi:it J=↑ bB) (hl:å<=16777216),0,uG,∀{l:Addr},0,QH,∀{xs:zAV},0,YR,∀{k:Bool},0,M3,∀ YR uG QH,0,Ν7,λ i j=>Ê (Builtin.bitAnd i j),ω0,PySem.W.codeIn,Xj,ω0 K cdv qual=true,Kb,S8<=Ý,Bx,H2.objs.size,O1,its[i]?,DS,O1=↑v,Ν9,(by simp[z]),rl,(n:Int),Ξ0,if v<0 then (v+rl).toNat else min v.toNat n,Jw,x.length,ÃZ,ď ϋ GI λ x S1 w H1 h1 q1 e1 p1=>?_,uw,zp ϟ uY,Ϙ,_ b o e,WH,by let#[o',e1]:=I.base.there Ϙ hx,Kc,_ Y S Q,Äa,g y J=↑J'-> (∀ Y',ER S Z Y' J'->gH B Y'->Y'.length=J'.length->Q Y' S)->t d Kc,Äb,_ (Ò r) (ups S r (Ñ B_)),EB,∀(h:yC to) (h':yC te),0,Ξ1,[_,by rcases x8 e2 with ⟨rfl,hl,_⟩ | ⟨n2,e2⟩],Ío,AutoSeq1.wpAny_loadPart' hl,Ξ2,[_,by wp_walk using Ío,made hL],Äc,∀ rC,Tf a Ö rC=(do let v <- rC;cF a.pos;ÕT),FN,[_,by exists h],Äd,#[T,id,pa,slot,hty,h1,h2,?_],Jt,hc.mo,ym,h'.mo,Äe,λ E E' Y S hE z=>Jt é (λ k S1 z=>pZ (h.mo À Ĕ hE) (ym À Ĕ hE) z) z,LU,fun σ H R hu=>?_,π6,-1000000<=i/\i<=1000000,ύ8,(Ì (toString i)),ñ,Ê i,Äf,(λ xs H Q=>∃ i:Int,xs=[ñ]/\(π6)/\Q ύ8 H),ņ,_ À À,Gm,∀{a b:Expr},0,v7,∀{st:Stmt},0,ID,∀{ta tb:zy},0,Ot,dd.typeIs,Òd,PySem.F.slot_dict_get,Äg,_ Òd Ot PySem.F.entry_dict_get (PySem.F.args_dict_get_3 Ú),ϣ,List Stmt,Fs,_ I.zJ e,Ýc,(show u=ŉ b from ry),Ξ3,[_,by subst ey;cases Ýc;let#[z,hd,xs,rel,dd]:=eA Fs],f6,hit.typeIs,Äh,by have ht:=f6;let#[oi,e1,e2,e3]:=id hit;ext áY;ext ë;exact zg3 (m:=seqItems? ĭ) (zgF g1 g2 ?_);simp![zdP,hx],T6,ů "dict",Ξ4,#[T6,none,.dict E4,Ē],Ψ7,((x2.trans x3).trans a2).trans,Äi,fun Y5 S5 w5 σ5 H5 b1 b2 b3=>#[Ψ7 b2,Y5,S5,b1,b3,w5],fT,PySem.W.isFn K π=true,t4,∀{Y:yZ},0,Đ2,∀{Z:IM},0,qd,∀ Đ2 t4 K1,0,OS,s.heap.IsTuple,Ξ5,Im å å hi,FU,(g J).bind,Bz,_ zi ϔ,FG,(zc Bz Ċ),Ba,(zr 4),uC,(za Ba ze),Ðo,PySem.F.plainAttrs_list,Ek,ho.pe,Äj,_ Ðo PySem.F.slot_list_append PySem.F.type_list_append Ĵ5 Ek,SU,pure Á,υ,xs=[Č],So,by simpa only [zj] using h,AB,xs.size,áf,(ϭ6 pos Ω5),QI,first,Âf,callWith,Äk,Âf pos f QI (GA pos (ÀG)) áf,je,_ I1 r1 q1,Äl,_ (zI ϧ3 λ us s1 #[vs,H1,I1,r1,q1]=>hc vV vs us Q je) Ip,Ϯ5,I.ok.above,Äm,zB3 (zC3 (Ϛ) Ϯ5),Š,zA2.mp,Ξ6,Ϟ [a] Ö=[(Á,X4)],qz,of_decide_eq_false,Ϥ,(zb 5),Ξ7,zg3 (zgP hT F.slot_tuple_hash.lookup ?_),pK,RelV y u,JA,∀(ry:pK),0,BF,zg4 _ q,áx,λ b ob q=>BF,Oh,_ (áx) ľ,ϑ5,done.map (Ε4 đ),Än,(æ (-(2:Int) ^ 63<=tM (ϑ5))&&æ (tM (ϑ5)<2 ^ 63)),Ýq,∃ u,ϝ e=↑u,Q0,(Ř x),ÊT,∀(mu:eQ (H x)) (he:e=x\/H e=↑ Q0),0,Äo,∀ ÊT (k:∀ b u,b≠e->Λ4) (heo:Ýq),0,Ξ8,_ (λ _ j=>0<j) λ i j=>Ê (i%j),Ax,kindOf,b8,_ Ax ((p,w)::P.zip vs) m,Fp,#[rfl,rfl],IU,Ý=16777216,Ξ9,#[cls2,dd2,data2,sl2],Dj,(hName i),GY,PySem.W.kia_one,GX,F.grow s1,JS,(ÂM).1,ue,hs.length,NU,hperm.length_eq,WR,(ſ Œ its).flatten.toArray,rG,D.str,vR,vh rG,Rc,occurrences,VL,["self","name","floor"],Äp,zD1 #[done++[k],ks',#[],hl',by simp[hb],by simp[Í2,lI,zeV]],ψ7,x≠"__name__",ZC,∀(hn:ψ7:=by decide),0,Å6,∀{H H':Hp},0,tP,∀(i j:Int),0,LR,∀(E:zVP),0,Ο0,∀ tP (t u:Tok) ϊ (Q:zVP) LR,0,MS,#[t,rfl],Äq,by ext A1;let#[i,j,rfl,q]:=h;let#[u,w',rfl,MS,ϫ0]:=vals2 r,rR,∀{α β:Type},0,ÀB,β->Prop,Ŗ5,∀ rR{F:α->ÀB},0,Ϭ6,∀(ho:PE X o td),0,Ŗ6,∀ Ϭ6 (hi:PE X i ty),0,Lq,by intro gV s σ H R I h,âe,by let#[_,_,_,q,_]:=h2.j8 r2,YS,by let#[x,e1,e]:=Ę,FZ,[_,by exists hb],HQ,True.intro,Ge,s.TypeIs,Jv,λ x hx=>?_,rf,[_,nomatch h2.flat r2],âf,(Int×Tok),âg,(Str×(Ĉ->fC)),EH,(zc AL ü),sW,I.loc,Är,by ext Ŋ;let#[v,e,h]:=h;let#[m,hn,hl]:=sW;let#[u,r,l]:=hl i x v hN e hv,YF,∀(hg:Gl X "isinstance"),0,Äs,_ vU h1 λ y S2 w2 H2 h2 q2 e2 p2=>?_,qA,_ _ S1 s1,Ät,[_,by simp![dep] at hn hu hu';let#[e1,e2,q]:=el hn hu hu' g1 g2 QX v1 v2;exact en (λ z=>by cases hq z;rfl) ?_;rw[ĸ7,<- e1,<- e2]],ϴ4,λ _ _=>rfl,Ic,λ _=>rfl,Üj,ü8 λ _ _ _=>rfl,Äu,by intro _ _ _ _ _ _;first | show ı2 Ic | show ğ8 ϴ4 | show Üj | show Ç8 λ _ _ _ _=>rfl | show Ć4 λ _ _ _ _ _=>rfl,Ϯ7,ÿ4 a=↑o,Sh,Qj=Υ,Zz,o.dict=none,ÀL,Sh/\Zz,Äv,∀(h2:Ϯ7) (hc:ÀL) (hs:ϛ3) (hz:nF<=Ý) (r:Vals DF QM),0,Ο1,by have hT:=hk.typeIs;let#[o,Ĳ,n,ho,_,hd,hi]:=hk,RF,∀(f:Addr),0,U7,∀(cdv:Ï),0,Ā6,∀ RF U7,0,Ο2,Ϟ [b] Ö=[(Á,V4)],Ο3,by subst ey;let#[z,hd,vs,rel,dd]:=Ľ4 Fs,Äx,by ext A1;let#[p,ns,rfl,hq,hn,q]:=h;ext Ν4;ext WJ;let#[zs,rfl,rfl]:=Y1 r',vD,RelV v u,ū,String,cq,Builtin.Tuple.tupleItemsOf,Ôn,owner.setIfInBounds,WO,Ôn j ↑m,Ll,(zb 7),ϰ0,typeIs_int,Üx,F.slot_int_rmul,Äz,_ Üx (ϰ0 s k t) F.entry_int_rmul (F.args_int_rmul_2 À),f_,r.append,ÄA,#[.zx,_,I.ľ3 (its':=its++its2) hH e #[] (f_ r2) ?_,rfl,q],JP,_ a b c,ÄB,#[Y,S,r1,r2,mo é (λ d S' q v H' a b c=>k N4 v H' q JP) h],ÄC,h1.length.trans (r1.length.trans (r2.length.symm.trans h2.length.symm)),ϫ,J.set,Nx,(ϫ i ↑(.im y)),Pe,(enc x),ÄE,∀ J,I p J->∃ J',turn g b Pe J=↑(.nx J')/\I (p++[x]) (xK is J'),ÄF,_ (b::rest) pos,XI,by let#[vs,H1,I1,r1,q1]:=z0,Ο4,by let#[a,xs,rfl,r1,r2]:=h1,Ο5,by let#[a,xs,rfl,g1,g2]:=h1,ÏD,PySem.F.slot_list_extend,ÄG,_ Ðo ÏD PySem.F.type_list_extend,Âe,m.map ĉ,FX,_ (Âe) ts,Ów,_ Âk u Q I2 rx ry,ÄH,(ķ5 Ej I h λ v u s2 x y H2 I2 rx ry q=>ho Ów q),tZ,yZ->Au,ÄI,∀ d Y S (Q Q':tZ),(∀ Y S,Q Y S->Q' Y S)->t d Kc->t d Y S Q',Ο6,_ "__init__" "Desk.__init__",Ο7,List (Str× þ),qE,wY.go,ÔJ,by let#[Y,S,r1,r2,h']:=hu,Hk,λ p hp=>?_,ÄJ,by ext ÔJ;exact qE h.mo QX h' λ ds S1 xs H1 h1 q1 e1 p1=>#[by rw[<- q1.length];show h1.1,Hk],Ui,H' b=none,Q3,∀ b∈fp,Ui,Ο8,h _ H (by simp![zj,cond]) ϲ h3,Nd,hy.int,Sd,[_,by cases ef;cases hx.int;cases Nd],NJ,List.length,Ο9,by have hlen:ī=å:=by have:=É2 NJ he;ext uM,Ρ0,_ (T:="StopIteration") (b:=true),jR,_ Ā Jq,àw,(way jR m).j,WL,Dl[i]?,ÁP,á ×Addr,ÁQ,tD=↑e,ÄK,∃ (i:Nat) (e:ÁP),WL=↑ àw/\ÁQ/\e.1≠key,ßw,ϣ6->ϝ c=↑o,Ρ1,(∀ c o,c∉ KN->ßw),Ρ2,by repeat (any_goals (first | assumption | wp_step)),WA,Int× á,Wg,(WA),EL,es.toList,Jc,bootBuiltins x,FV,eval e Ö,K5,I.ok.kind,Ρ3,Inv ú H { s with heap:=h',toks:=t' },XA,I1.zJ.fresh ľ,IP,Int->Int->Prop,Ub,Builtin.Slice.slicePlaces,Nb,zj Å d x,Ρ4,λ r=>qT n r.2/\r.1<=n/\ml lt r.2 r.1,RE,S p=↑(.zL m),sD,PySem.SetTable,DP,ċ[j]?=↑↑k,ϩ9,λ e=>Ik e.1,Pf,ŧ ϩ9,Ρ5,(ſ Œ xs).flatten.length,DT,Ρ o "kept" ap,IB,∀{h h':Heap},0,Þt,SQ í k1 l1 xs,Þu,SQ í k2 l2 ys,Ρ6,∀(h1:Þt) (h2:Þu),0,Ϻ5,tupleKind,Ŝ2,Ϻ5 (sI),ÄM,Q6/\Dn/\ ∃ xs,KT H kvs xs/\h.DictOfH (Ŝ2) ϯ,ÄN,(hq [(x,t)] ø (ÔX (Ô hf)).symm),Um,["self","row"],XH,by let#[#[slot,h1,h2],S]:=st,ÚU,by let#[C',c1,c2,c3]:=hk,Jr,_ À h2,ÄO,by let#[C,dx,q,vs,g1,g2,g3,g4]:=r2 Jr;ext ÚU,WU,Sum.isLeft,K9,_ đ í,ÄP,∀(hs:x.map WU=y.map WU) (hx:nQ K9 x a) (hy:nQ K9 y b),0,Íi,(hperm.map _).nodup_iff.mpr,ÄQ,by exact Íi ?_;rw[zE7,zeT];exact#[hnd,#[],λ x hx y hy=>?_];simp at hy;subst hy;show λ e=>hm (e▸hx),ω,H b=none,Hf,by simp![Sn] at h,Ρ7,[_,by have h0:zv Å ([a,b].map rG) xs:=h0;cases h0.strs],V3,pure true,VJ,ą y py,Ρ8,IK AU ↑(VJ) spos.line Ö=V3,Àu,∀{k1 k2:Bool},0,Ρ9,∀ Àu{z TI TO i1 i2 l1 l2:Addr},0,Ê2,_ X.xe s,OH,spliced,ÄR,Ķ->u0->Â û (OH (GA pos wB)) (Ù8 ú Q) Ê2,Qx,X.stack,uc,(Ñ xs),sO,.Assign,ϳ6,(hf ţ).1,PZ,λ b hb=>ϳ6,Qt,its.toArray.isEmpty,Ji,x::xs,ÄS,λ us s2 #[xs,H2,I2,r2,q2]=>#[Ji,H2,I2,Ó QX,q2],Js,hq À z,WQ,zH.fits ϫ9,Ai,h1.elim,Vx,listUpdate_at,Dr,zD4 _,DA,(Dr),ÄT,zg3 (seqEpoch_at g6 rfl (zg3 (Vx g6 Gb DA ?_))),R4,(ą "isinstance" p),ĺ,ä ts,i_,eqT t u,Τ0,ts.any λ t=>i_,ÄU,hf É0 À F1.er e2 λ d S2 s2 r2=>?_,sU,t.put j,âh,(h6.filterMap _).trans (by rw[List.filterMap_getElem?_range_length]),Àc,Txt.split,WI,(Àc a b).map,dv,(Gs wJ i pos),K_,_ hg hm,EY,∀(lo hi:Ė),0,QN,DictEntry,Wf,∀{es:ϵ QN},0,Òc,tupleKind_room_in1 hu,Τ1,_ (Òc) (Ŗ7 I.zJ eb),Ź,Ô rfl,JG,Inv ú H' s',AM,Ê j,rS,[ñ,AM],NM,[_,(by exists hi)],X9,_ ė p ys,W8,(yy X9\/y8 X9),K3,yA d S,WB,K3=↑ds,wM,_ Å p ys,eG,(yy wM\/y8 wM),Q8,(m-1),ϡ0,(Χ Q8 0),Áp,(Χ m 0),ÄV,lt Áp ϡ0,Ôe,sN a (EJ λ _=>Ē),ÄW,(((Ôe).push (vK "tuple" Β 0)).push OU).get?,bA,(.xm ep l),AI,(.xk kvs),Wu,some ↑(Ř AI),KR,t.place.size,Fb,g5.objs.size,Fe,(za uL ze),ÄX,∀{q:qy}{loose:þ}{XP:(Str->Dv)->C_}{YP:SA->C_}{d:DefRec},0,Ř3,∀{f1 f2:zEO}{c:ϐ}{ga:Τ},0,Τ3,λ kv=>if MO then (kv.1,d) else kv,Τ4,(za Qi (za (cS (Ì "taker")) ze)),HV,_ ha.pe hb.pe,Τ5,by let#[d,h1,h2]:=hE.im i _ h,ώ0,λ ds S2 s2 r2=>?_,ÄY,_ É0 xs Ds ώ0,Xn,_ (xi ö) GC,Rp,Ê i t,ËB,Â û (f (Rp) (Ê j u)) à,G5,ø+1,ÄZ,Q (Ê Iz ø) { s with toks:=G5 }->ËB,âi,by rw[List.getElem?_set_ne (Ĭ hj)] at e2;let#[u',r',q]:=hl j y v' e1 e2 e3,Τ6,_ iH λ i j=>Ê (i ^ JY),ϙ,_ h1 h2,Xk,_ ϙ h3,Uc,_ hg2 Ha he hg Xk,G2,_ val its ks,Kh,List (Kp),Τ7,by rintro r ⟨a1,a2,a3,a4⟩;show#[a1,⋯,⋯,a4],o8,_ ă QX h,Lr,by ext Vq;exact ď o8 YL,Ôo,[_,λ e he=>(by cases he)],âj,_ _ [] ⋯ DA #[NI,hl1.push _] OZ #[Ôo,λ j r hj=>⋯] ?_,Τ8,by rw[zA6] at h;simp![zv,zj] at h;ext VP;subst h1 h2,Τ9,by have:=É2 NJ X.es;ext uM,RY,∀{f:Addr},0,Dz,∀ RY{fd:tS},0,Oy,#[_,Ũ,rfl],ϛ,ŧ ĉ,LI,(ϛ).Nodup,Vs,X.base.get? b=↑o,A2,by simp at h,Ι,I.laid,PY,Option.map_some,Qw,kb K "Desk" C,LH,(yE i),SX,Decidable,án,pZ Jf Jf h1,Åa,λ k S1 H1 h1 e1 p1=>án,vg,s.heap.IsList,FE,hq S1 s1,UN,Nf ..,Υ0,(((UN).extBut.push _).push _),Υ2,(Ĩ OU).update Ë (EJ (·++Β)),lX,(.dK []),XU,(upd H q lX),ÞF,pj N (rL::ys),Åb,(ÞF).set 2 ↑(.im w),Ϙ2,(za (zr 6) ze),UW,(zr 5),Åc,(tupS (za UW Ϙ2)),fW,(cI 12),Xr,(za fW ze),Af,∀{i j:Nat},0,Ř9,∀(hp:PassesOwn û Ö X.xe),0,mK,∀{tg:Expr},0,Ya,∀{Ax:Str->î NameKind},0,Åd,by let#[oc,od,kV,doc,pm,an,cdv,ct,osl,rfl,lk,hcd]:=F.ex,pv,∀(pick:GU),0,uO,∀{S S':SS},0,ç,by split at h,ϵ5,_ [] 0 s H [],Åe,_ Ϫ (hg ϵ5).mo (hf ϵ5).mo (he ϵ5).mo,HW,∀(hM:Ž2 M),0,sk,∀(hr:y4 k' X.A),0,Åf,by ext uJ;let#[S,d,e,t,u',a1,a2,a3,a4,a5,a6,a7,q]:=h,W0,Ì (i++j),υ7,i.length+j.length<=Ý,Åg,∃ i j,x=Ì i/\y=Ì j/\υ7/\Q (W0) H,Åh,#[λ _ _ _ _ _ h=>ï,λ _ _ _ _ _ _ #[_,_,_,_,h]=>ï],sX,Ê _,âk,#[sX,H,TB hk,MS,q _ (Ċ2 hi) λ a ha=>?_],BK,∀{o:Obj},0,ÀS,.UnaryOp,ř1,_ X (ÀS .Not a pos),VE,_ n n2 dd dd2 sl sl2,Ad,∀{ns:á},0,Ff,_ _ H1 Em B0,Åi,_ ts (m.map Ł),Bv,∀(p:yu ė S),0,Åj,Inv ú H' { s with heap:=h',gens:=g',drawn:=d',toks:=t' },Zq,λ i j=>.bl (æ (i<=j)),aM,λ i j=>.bl (æ (j<=i)),uA,Ë+1,sd,(uA),YV,PySem.F.plainAttrs_str,àF,es.toList.map,Vd,àF (·.key),Ż,∀{u:Ï},0,Åk,by let#[f,oc,od,kV,dc,pm,an,cd,ct,sl,a,l,c,k]:=H,Υ3,by ext F6;let#[_,rfl,u,rfl]:=rv.one,TC,List Bool,Sv,ľ4 (by rw[MW];show hl),NF,ÿ4 f,ϟ0,_ dc pm an cd ct,tU,.func,Ål,NF=↑#[oc,od,tU (Eh x x ο2 ϟ0),sl],Ŗ,by subst this,Åm,by ext Ŗ;rw[Y4 I p ts us (by simp![dep] at z;lia) (by simp![dep] at z';lia) g3 k3 g2 k2],Ån,by let#[x,H5,I5,r5,y5,st5,fr5]:=z0;have I5':=I5.pinned (stat fr5) (T.obj À st5),Åo,[_,by let#[x,e1,e0]:=Ę;let#[xs,e2,e3]:=Η e0;cases e3;exact h tT;exact h' ÄY],IT,H p=none,qe,.bl true,vY,∀(e:Expr),0,Ŷ1,(key,b),yh,xs'.Perm,Åp,key∈ ϛ/\xs'=xs\/key∉ ϛ/\yh (xs++[Ŷ1]),ØY,_ K5 hk hc hcell fin,ϴ9,wpAny_Name,Åq,ϴ9 (wpAny_loadName_free ØY hcd) hd,Hy,(model P w),XZ,sp vs H Q E,Υ4,∀ vs H Q E,XZ->ŀ=Ab,ÞG,#[[c].toArray],U3,Ì ÞG,ZF,Option.some.injEq,RB,of_decide_eq_true,Rm,Ext H (upd H p o),uZ,PI.imp,År,#[fun Y S Q Q' hq z=>hm é (λ ds S1 z=>?_) z,uZ h LU],K4,BQ b a,Qy,λ a b=>K4=Á,Py,(Ph (A8)).zd,Li,EE xs j,Øo,wpAny_storeSet_of,Υ6,Øo ho Gb hsl,M9,(Ĩ L0).objs.size,Υ7,rows.length,Υ8,ğ7 (λ _ _ _=>Ĵ2) λ _ _ _=>BJ,Ås,Ň l=↑{ cls:=ł,dict:=dd,data:=OA,r_:=sl },RS,h2.none,ÜV,_ l (RS hf) L9 hx,Vu,zv.ļ8 _,Åt,h ÜV (h2.ups hx #[_,yF,Vu]),RD,zZ.map ĉ,jg,(RD).Nodup,EA,tab.lookup,Dp,(xc ze),VI,(retS Ϻ),Υ9,by let#[Y,S,r1,r2,h]:=h,Åu,_ F.slot_tuple_mul hT F.entry_tuple_mul (F.args_tuple_mul_2 À),B9,ų e2,Åw,by ext Ig;let#[ns,e1,e2]:=Ę;rw[gk e1] at h1;let#[M,e3,rfl]:=B9,VZ,(zc AL Θ),ÞO,(zc zi VZ ö),Åx,_ Be (zV (zc ń (zc zi ÞO Ċ) ϔ)),ϯ1,Ï->Sem Ï,Åy,Ï->ϯ1,tY,y.length,Zj,(Χ k 0),IA,l.length,Eb,#[o,ho,hc],uS,T.str,Nr,(vh uS),V5,_ Ϙ n hb,Χ0,by let#[sl,e1]:=I.base.slot V5 hx,J_,List (Str×Addr),Åz,[_,by exact#[Ot,λ b q=>?_,hd];cases q;let#[ob,_,_,h1,h2,_]:=dd;show#[ob,h1,h2.2.1]],Χ1,(by simp![zA0] <;> lia),ÅA,Ň p.1=↑p.2/\H p.1=none/\p.1≠ eT/\p.1∉X.fs/\∀ v,p.2.data≠ ϥ v,ÝZ,R S0 S' Z0 y d,ÅB,by have lo:∀ S' d y,R SB S' Z0 y d->ÝZ:=λ S' d y r=>Lo.lo b1 (λ _ z=>z) r,PV,by ext Hc;subst r,ÅC,_ S' (ϴ2 s) (U9 (A8) r),Ux,Bool->rV,Ŭ,.bl b,Vi,[_,by exists e],ÅD,∀ b ps,H b=↑(.zZ ps)->∃ more,H' b=↑(.zZ (ps++more)),WT,λ i j=>.bl (æ (j<i)),Χ2,ý8 HP "__init__"=↑↑ π,WY,((yf n 0 lo:Nat):Int),BH,IsTup.new À,Ϝ4,λ a=>Z a\/a=p,VS,(yo S' Ϝ4),ŕ,J[i]?,Ws,_ S' Z y d,mi,R S Ws,ώ3,_ n e1 e2 e3 e4,Χ3,h.dj j k us vs q ώ3,tB,(xK is J),Ie,xs.take p,Fd,(ĝ9 w),Uw,Ĩ Fd,Xd,(Uw).objs.size,SD,v1::v2::rest,Χ4,ù (ą "range" p2) [e] [] pos2,ě,(õ),WG,Pg K HR x,VB,WG=↑↑ ě,Ru,_ X (BO a [op] Ew),Λ,∀(S:SS),0,Qv,∀(hpl:zEB IH []),0,OB,_ zi (zc zi Ϥ Ċ),KJ,I.pin,Χ5,by let#[e,n,ne,nf,d]:=KJ p hp,Χ6,by rw[h1.length,h2.length,h3.length],BN,by let#[q1,q2]:=p_ q,Tw,by ext sF;let#[hl,h]:=h,KO,Sum.inr,ÅE,env.cells.lookup,ϝ8,_ (λ _ q=>q) Kf,âl,(I.zJ b u e).kR (λ c v hc q=>k c v ?_ q) ϝ8,ÅF,ϴ9 (wpAny_loadName_cell ØY) hd,UD,Binds K fd ps [],Χ8,(own++cl).lookup,Dy,pU.go,ÅG,Dy sV vU z λ y S2 H2 h2 e2 p2=>h2 H2 TF,ÛK,#[[],yF,Ð],ÅH,z p (r2.none hp) L9 Ŝ (r2.ups Ŝ ÛK),MQ,zp.cons,Χ9,zg3 (zgE ßo ?_),ÅI,(ù (Ρ o "replace" apos) [ϝ7,WN] qB),ÅJ,_ q loose XP YP l.row.toRowW d [] (λ f vs=>PySem.call f vs),Ψ0,∀(hy:X.N[i]?=↑y) (hx:Loc Ql y),0,ÅK,_ À Ĕ (ly.ext e1) z,Qz,.Tuple,ÅL,_ X (Qz es kk pos'),SY,(Ã x),ÅM,Ň b=↑u->ϝ b=↑u,XT,(ϸ8 x).isSome,dm,λ _ _=>ϖ,YB,hq qA h2 dm,Ol,runEnd,Ψ1,(yp st).names.lookup,ÅN,[_,by rcases jf hv with ⟨j,u,rfl,rfl⟩ | ⟨y,u,rfl,rfl⟩],ÅO,_ he c1 c2 I2 T st2 f2 rd λ C D oC H' s' hC J' ho hn q=>?_,Wj,p.1=q.1,ÅP,Wj/\H q.2.1=↑(ä (p.1.map kV))/\RelV p.2 q.2.2,NS,fs.lookup,Ψ2,∀ f,oK (NS f) (mA f),ÅQ,(Eh name qual params body Ĺ dV kV Ϥ9 ct),Jp,hr.units,Ψ3,by simpa only [zd0,zv] using h,ϰ8,ds.isEmpty,ÅR,(! ϰ8),ÅS,λ gV s σ H v w Q I r q=>h ž v w Q I r (hi v Ś q),JK,o.refl _,Ψ4,Â ã (call (Lg) [Ο]) à,V7,PySem.W.mg_of,DM,[Ì a,Ì b],Ei,instS,Úw,(Ei "tuple" ö),Ψ5,(wD (xq Úw)),ſ9,K.In í,Ψ6,∀(X:ſ9) (I:gL í x dx C mA),0,ÅT,by let#[its,r1,p1,_]:=ξ ha;let#[its2,r2,p2,_]:=ξ hb,JJ,∀(e:B7),0,ŉ8,qT n p,Jg,∀(hp:ŉ8),0,HD,List (Str×V),ÅU,(zI (h pos ž _ I hq) λ us s1 #[xs,H1,I1,r,z,q]=>#[by rw[<- Az];show z,?_]),DH,by simp![zv] at h,ME,∀ a,Z a->S a≠none,ÅV,[_,#[M_,rfl,rfl,Ð,λ j hj=>(by cases hj),λ i g j hg=>(by cases hg)]],yU,∀{apos cpos:Pos},0,Ä0,V->KA,ÅX,∀{to:TE}{t:TA}{name:Str}yU{T id:ū}{r:Ä0},0,ÅY,_ Χ1 #[Ê ν,H,rE,#[G5,by rw[zA0,hlen]],q],ÅZ,ϴ9 (wpAny_loadName_local K5 hk hn hm fin) hd,Ψ8,ù (ą "set" p2) [e] [] pos2,qo,λ b hb=>?_,df,bs.map,ϲ4,.bl (g bs),Æa,∃ bs:TC,K3=↑(df D.bl)/\Q (ϲ4) S,âm,(ÁP),ϓ6,Ĩ (mD k l),VX,ů "enumerate",Æb,(ϓ6).push { cls:=VX,data:=Ãw },DL,∀{t':Nat},0,EM,∀(he:PE tI),0,Ψ9,_ ž x y v u Q I rx ry,LM,he.pe,ś3,_ (ja LM k_ hs) Uz,nV,by .simpa only [Sn] using h,Hn,∀{a:Ze}{b:Rn},0,Z2,_ σ3 H3,Æc,by let#[σ3,H3,I3,n3]:=q3;let#[m',hm,w3]:=hN Z2 n3;show#[m',hm,σ3,H3,I3,w3],ś4,[_,by let#[y',h1,h2]:=ņ8 e;cases h2],vL,by simp![Sn],Æd,∃ (o:Obj) (its:zAV) (n:Nat),Ϯ7/\Qj=ł/\Zz/\Ãz,Æe,by let#[z,y,vs,r,ob,es,ep,e,c]:=x;show#[z,y,vs,r,ob,es,ep,vy,c],ŧ0,List (Str×Str),Ω0,∀{P:qy}{base:Heap}{ys:ŧ0},0,G9,[_,by cases h;rfl],Fq,arrOf,Ël,vs.toArray.zip Β,áV,_ (Ël) Ē 7 none,ϱ1,SortSt.mk',Æf,(Fq (ϱ1 general' áV)).map Ł,Ω1,by simp![zA5,zd3,Td,CZ] at hc,Æg,by let#[it,fp,tn,J,H2,e,I2,T,st2,f2,rd]:=h2;subst e,ś5,xs.drop,Bp,Gr=↑o,Ϧ,.free,DB,St->rV,AQ,tf op b=Á,ś7,sliceBounds,PR,ForInStep.yield,Ω2,compEnvC Ĺ cl C Ö,Ω3,#[y,by simpa using e1,e2],LK,L2.yx,Ω4,LK ds i=↑d,Ν,he.mo,H_,λ _=>True,IY,.refl _,AN,(mZ pick Y),AO,g2.length,Ũ3,h1.objs.size,Æh,Ë<=Ũ3->Q' vs { s with heap:=h1,toks:=tk },B5,ys.zip rows,ŗ,t::ts,ś8,(ts.getD j .zx),ś9,λ z=>e (h1.trans z),Ϫ7,(BG Hl mW),Ŝ0,hq BX Ϫ7,Ŝ1,λ a=>Z a/\a≠p,Æi,λ S3 Z3 Y3 F3=>P S3 Z3 Y3 ((F3.xK is).back b1 F.z0),Óc,(way Ā h k').j∈ Γ,Vc,way Ā h k,Æj,∃ k,(Vc).j=j/\∀ k'<k,Óc,Æk,Rc x y 0 Jw (limitOf x k),Ko,(yb true),Jl,∀{Q:Unit->ŭ},0,K2,∀(st:Stmt),0,ϧ,∀(E:XK),0,SK,∀(hu:ϡ<İ),0,Æl,_ ho hc hd (λ h' c' kp e=>fin its r' hz h' c' kp e) Χ1,Æm,by let#[h1,h2]:=ň9 I1 r1 ty;exact Äd;have hA:=ha cpos vP;ext ÂF,KZ,∀ Đ2{y:T},0,Æn,by rw[Array.toList_filterMap,List.map_filterMap];congr 1;funext k,A0,∀(k1 k2:Bool),0,ö1,assign,ϒ5,BB es Ö,Æo,(BB Hi Ö).map Ł=ö1 e Ö::(ϒ5).map Ł,Æp,(Builtin.«int.__rmul__» #[[Rp,Ο],[]]),Æq,Gs (Ρ (ą "self" p1) "kept" p2) (ą "name" p3) p4,ϫ5,(za Κ6 ze),Ær,(za Ϝ (za uL (za (tupS (za HC ϫ5)) ze))),Wc,by let#[t,rfl]:=r,F0,by by_cases e:p.1=k,Ω6,by ext Me;let#[y',e4,e3]:=Η e2,TU,BindsTo,Æs,∀ ϊ (u:Ï),TU s fd #[[u],[]] [(x,u)],Ω7,by simp[atKey,zdB,e'],EC,zC6 _,Ω8,#[p,zc7,EC,EC],Dd,_ ho rfl,Ω9,zg3 (zgE Dd X.fits ?_),ÞA,Txt.startswith,μ0,(.bl (ÞA a b)),Æt,#[d,ns,rfl,h1.ints,zf9 m1,λ M' a b=>?_],Rr,∀ UH Ls,0,Æu,_ CX ķ N qual Ĺ,μ1,∀(r1:Dc) (r2:ϗ) (h:t Y S R),0,Æv,by let#[p',ds,h1,h2,h3,h4]:=IC i ts e;rw[ed] at h1,aQ,_ hf hg u5 Jt,μ2,∀(a:Pg K HR "Desk"=↑↑ La),0,μ3,Calls.Constant_str,uV,(Gs o i pos),N6,-(2 ^ 62),μ4,N6<=j/\j<2 ^ 62,GZ,codeAny_mono,Ŝ4,PySem.W.callWith_K,oz,(start N vs),UE,items.toList,GS,Ò b,L6,(GS),Ŝ5,#[z.1,hq À z.2],A3,_ kvs k,Ŝ6,putK A3 v,Ŝ7,hq qA Ϫ5,UM,(ÂM).2,Et,probe.go,Ŝ8,Â ã (R3 qL) à,Ŝ9,Obj.data_mapFields,ŝ0,(ſ Œ xs).flatten,ŝ1,partsBetween,qJ,_ [] [],ŝ2,(.Dict qJ pos'),Qc,M∈ns,ϗ8,∀ a∈ns,a<=M,Æw,0<Δ/\∀ M,Qc->(ϗ8)->Q (Ê M) H,ŝ3,(zl y9 WE),ó,by split at e,HS,by constructor,HM,Ô hb,PU,by rename_i hb;rw[HM],Æx,by let#[it1,rv1,q1]:=g1.of I;let#[it2,rv2,q2]:=g2.of I,B1,Sum.inl,μ5,(I.base.keep V5 hx),Ϙ4,_ (SP X gV D) Ê2,Æy,Ķ->t D Û->Â û (execs st Ö) Ϙ4,uI,(ha El),XB,λ _ _ z=>Ah z,μ6,Turn Ů X.K tg J fp it tn,ŝ4,.bl (æ (i<j)),Æz,Builtin.Slice.sliceAdjust,Hh,(i:Int),ÆA,(Hh+(m:Int)*1).toNat,jq,(ů T),ÆB,typeLookup jq "__getitem__"=pure ↑ QW,ÙW,å+zs.length<=Ý,àr,(Ñ (xs++zs)),ÆC,ÙW/\Q .zx (upd H l àr),ŝ6,s₁.heap.get?,Ef,xB.mono,μ7,(r.getD 0 0,r.getD 1 0),ŝ7,(way Ā h K).j,ÆD,λ u hu=>hall u (zc8 _ hu),ÆE,this.trans (List.perm_append_singleton À).symm,Ga,V.ref,μ8,ŧ λ e=>(Ga e.2,e.1),ÆF,λ b hb=>I1.Ğ9 (nw ţ) (I1.zJ.fresh (nw ţ)),μ9,_ (g':=s.gens) (d':=s.drawn),ν0,_ (h₀:=rO) I.ok.mod.fK,ű0,[_,by exists h2],ũ2,[_,(by exists h1)],ÆH,_ (i:=i) (zd7.mp nd).2 ũ2 (ű0) hk,JL,_ À Ez,Ζ1,∀(hf:vn f),0,ϒ0,∀ Ζ1 (hg:vn g),0,ÆI,∀(hr:wG X.K f r) (hr':wG X.K g r') ϒ0,0,Bu,hc.1,ÁW,hc.2.2.1,ÆJ,_ À hc.2.2.2.2 (up c o Bu hc.2.2.2.1 ÁW q),ν1,_ ÂL (F.args_str_split_2 À),ν2,_ ÂL (F.args_str_split_3 Ú),Qf,_ Ů H í,ÆK,[_,by ext UR;obtain⟨⟨es,ep,t,S,eu⟩,-,-⟩:=(show xN Qf l Xe from I.zJ l _ hl)],ßx,List (NK× OT),Ka,∀{xs:ßx},0,ϲ3,ő+Ϡ<=Ý,ÆL,if ϲ3 then ↑(.nx (ϫ i ↑(Ř (Ñ SW)))) else none,ÆM,[_,λ z=>c1 (by subst z;cases ds with | nil=>rfl | cons _ _=>simp at hl)],ϭ9,by simp![Sn] at q ⊢,ν3,by ext ϭ9;let#[ds,q1,q2]:=q,ŝ9,∀{mg:zSV}{base h:Heap},0,Ϩ8,λ S1 s1=>?_,ϙ6,by let#[b,e1,e2]:=Ę,ÆN,by ext ϙ6;exact h ň b Hu Ϩ8;ext Ő,ql,pick[i]?,ſ3,h1.get?,ν5,ϑ->ſ3 b=↑o,Ş0,î PySem.Fin×Unit,ϙ1,∀ a∈ns,M<=a,ÆO,0<Δ/\∀ M,Qc->(ϙ1)->Q (Ê M) H,MG,Ç hb,Ut,by rename_i hb;rw[MG],ÆP,λ S3 Z3 Y3 F3=>#[m,zE2 m,Z3,J2,F3,e'],ÆQ,by let#[Z,ys,y,hz,r,e,hq]:=hs;unfold zW at e;ext ó,ÆR,by have hp:((X2 X.w l E4).toList.map Ł).Perm us:=by rw[<- eu];show (ň1 X.w l E4).map _,uB,H l=none,DQ,by simp![zj] at h1,ÆS,[_,by subst hj;rw[hi] at e1;cases e1;rw[List.getElem?_set_self hiσ] at e2;cases e2],ÆT,[_,by rcases jf hb with ⟨j,u,rfl,e⟩ | ⟨y,u,rfl,e⟩],ÆU,by ext A1;let#[p,ys,rows,rfl,hq,hr,pz,q]:=h;ext UR,ÆV,λ us s1 #[vs,H1,I1,r,q]=>#[I1.vf,?_],ÆW,#[hSO,#[_,St.get],λ h1 h2 S1 k=>S1.kR k],ÆX,Ĩ { cls:=Υ,data:=Ě [Ê i tk,u].toArray },ÆY,λ _=>Ã #[o,its,n,h2,hc,hs,hz,r],tJ,∀{xs ys:Ŧ},0,ν6,_ pS λ i j=>Ê (i/j),KU,Scope,KD,∀{Ĺ:KU},0,Ly,ξ hq,ν7,by let#[its,r',pl,hz]:=Ly,ân,by let#[_,_,_,_,o,_,_,e,ex,_]:=I.zJ p _ hk,Ho,∀(neg:Bool),0,vS,_ ň À hE,sE,_ to tA,ÔA,(Ρ o "split" apos),ÆZ,_ X (ù ÔA Eu) (nK lp sE),tN,(show Þ from r).elim,A4,List Nat,Iv,S p=none,ž3,by simp![zp] at r,Çb,by ext ž3;let#[c,cs,rfl,r1,r2]:=r;let#[J1,e1,e2]:=Ę,vc,h1.str,ν8,[_,by cases e;ext Λ0;cases vc;cases h2.str],Ş1,by have q:=h1.flat r1;subst q,Gx,∀{neg:Bool},0,Km,Vals vs us,J9,.NotIn,sT,y8 NQ,tL,xs.isEmpty,ξ0,PySem.W.makesIn K C=true,QQ,Ĩ Κ5,ÀU,ÃP C Ë,ξ1,(QQ).push (ÀU),ξ2,Calls.spliced_nil,ξ4,(by rw[zA0];lia),FW,zj.ext,BS,D.int,ξ5,sH BS,Çd,t Kc->t Y S Q',ώ,_ K H',yk,yu ώ S',àe,kas_rev p i j,ξ6,(àe).getD k 0,Jk,zj ė d x,Ş2,λ d2 S2 s2 r2=>?_,Ş3,yc (ć8 Ãh) Ej,ź3,Y.length,Ş4,ź3=J.length,Çe,λ d S3 s3 r3=>P d S3 (b1.trans s3) (lo Ú r3),ÜI,_ ķ xy š f fd ps,Çf,ot ÜI (nc K (zM Ū4)),QO,xs.toList,Tv,ŉ e.2,Çg,(Ik e.1,Tv),Sj,Obj.putSet,Çh,(ň1 w a E4).length_eq,Ş5,wpAny_pyIter_slot,Çi,g5.push { cls:=Υ,data:=Ě [x,y].toArray },J7,sb.extBut,ſ5,I1.kept,Δ9,s1.toks,ξ7,ſ5 (t':=Δ9) up,Yw,ss.idxOf k,B3,xs=x::rest,ξ9,(Ì (Txt.replace a y z)),ο0,(.bl (Txt.contains v u)),DD,(zr 3),vb,(zC 6),Çj,(qW 3 (xg (zC 5) (xg vb (xg (zC 7) pJ)))),Ş6,(retS (cS (qe))),ř,∀{v:V},0,GD,_ X.K C,ο1,∀(e:H a=↑ JN) (c:lA GD),0,Çk,_ X (sO [VJ] AU spos),DN,∀{rows:ű},0,W9,∀(hu:Iy+64<İ),0,ç8,∀{kvs:LA},0,vC,∀(g:T->WS),0,Çl,_ F.er e1 λ dz S1 s1 r1=>?_,G3,∀(ps:ZO),0,Jj,∀{ss:þ},0,ο3,∀(rW:GW o "split" JC=ϳ),0,Ϭ9,∀(hi:PD X i ti),0,Pa,∀{tab:Ο7},0,ϟ1,_ X.K X.w X.mg x,Çm,∀ Pa(hk:ř0 ϟ1 tab) Ϭ9,0,Çn,[_,by let#[o',es',ep',ho',r']:=hm;rw[ho] at ho';cases ho';show#[_,es',ep',hL,r']],KG,List Ï,Ş7,X.mg "range"=none,Ş8,[_,by rcases Ş ha with rfl | x],ο4,X.fn y=true\/Av y=↑ Lh,Ço,(Zt Ν2 (by rw[hs,hs2]) (by rw[hs2];rfl)),Çp,(hg _ s5 σ3 H5 x u _ I5' r5 (step x H5 y5)),Çq,(Vh λ kv=>if MO then (kv.1,y) else kv),Ş9,by intro wh gV s σ H Q I h,Çr,_ entry_tuple_getitem ?_ (args_tuple_getitem À),yL,by have hlen:=r'.length,Çs,_ GI λ x S1 v H1 h1 q1 e1 p1=>h1 Ħ (B8) B0,Ûc,by let#[ds,rfl,h2]:=hx.tup,Çt,by ext Ûc;let#[es,rfl,h4]:=hy.tup,ş0,by simp[xs1,zfE,ze1],Ũ2,(Ext.refl H),Çv,by .rename_i d e;let#[v,h1,h2]:=r1.2 i d e;show#[v,h1,h v H h2 Ũ2 r2],U6,List (κ × β),ο5,[_,by ext Dx;let#[c,rfl,q1]:=q1;cases r1],vz,[none,↑1],Çw,[_,by rcases h with h | ⟨o,its,n,hk,hc,hs,hz,r⟩],àA,A.in1.in1.in1,Çx,_ (A:=àA) (by simp[hh]) _ l hneI its,ş1,by intro gV s σ H Q tk I h,Çy,by let#[z,o,es,h1,h2,h3,h4,h5]:=(show xN Qf a OG from I.zJ a _ e),ο7,List (þ × GU),t7,plainT,ο8,[_,by simp![t7] at h;cases h],ο9,i7/\∀ r,S r=none->Q Äb,N5,(sU).2,Çz,(sU).1={ t with place:=mq Dl N5 j },π0,λ p hp=>ò (show p∈([]:zLA) from hp) #[],Ac,List (Wg × Ė),Mf,[_,by rw[q] at h;cases h],Ϸ0,by simp![Sn] at r,ÇA,by ext Ϸ0;let#[ds,rfl,r]:=r;simp![qW] at e;ext ó,Fh,λ _=>none,yS,[_,nomatch e],Kl,RelV x u,IG,(upd H a o),π1,X.s₀.heap.get? b=↑o,ϕ9,PySem.W.lookIn,ÇC,∀ name,ϕ9 name od=↑(mA name),qG,codeAny,π2,(zgW À (Ĭ hb)).trans,uQ,λ _ _ _=>Þ,ÇD,Str×NameKind,Gf,hfp ţ,π3,zD5 (ho'.symm.trans ho),ϩ,ä ds,π4,Le lt (Χ a 0) (Χ b 0),ş3,(Ű "sorted"),aH,(rows.map nZ),PJ,by simp[eqT],ÇE,yK f te,EO,Ĉ->î (Ĉ),yg,b.length,OV,h.2.1,Ti,h.2.2,ÇF,#[h.1,OV,λ r hr=>hq À (Ti r hr)],π5,(tE ĉ).toArray.toList,ş4,SetTable.fill,t6,wanted,ÇG,t.relaid (NB) t6=↑(t',GF),ÇH,#[es,ep,t,ho,X,hled,hpl,hfew],Nq,(į3 jB).get?,Sq,items.isEmpty,qw,[a,b,c],ş5,strValues l,Ec,["self"],aq,Ì "ok",π7,x.cps.all (· < 128)=true,ÇI,Ņ (λ(q:Str× þ) (r:XR)=>ÃB) tab zZ,rX,kI K w x zZ,ÇJ,(Ř (.xm l)),Sf,(za ϔ ze),ÇK,∀(ha:PA X Kk ta) (hs:Ι2:=by rfl) (hs2:Ο2:=by rfl),0,π8,_ I3 (stat fr3) st3,ÇL,_ Dg λ h' tk k=>#[_,H,TB k,?_,q],π9,_ f fd ps (nc K sp),ş6,_ og.fits og.mo Qk,K6,(Ä k),qC,_ kvs K6,ÇM,_ À n4 (XJ À n2 (Àk À n3 hz1)),ÇN,by ext ħ;exact qE ă GI λ ds S1 vs H1 h1 q1 e1 p1=>?_,ÇO,[_,by subst e;rcases h1 with ⟨rfl,_⟩ | ⟨a,rfl,h3⟩],KC,_ x rest H Q,ÇP,by simp![ś7,Im,Option.getD_none,show B6>0 by decide,uz];by_cases h:i<0,DJ,List (V× á),ş8,s.heap.FunFrames,ÇQ,I1.laid (t':=Δ9) (λ b u e=>Qd) ľ ?_,ş9,Eh x qual Qn ct,Gq,zB6.mp,Š0,λ i j hij hj=>?_,ÇR,Ĩ2 I a3 t u' (A:=X.A) ć a4 a5 a1 a2 rx ry,ŵ5,(yo S' Z),Š1,Sn ŵ5 y d,Š2,#[ds,rfl,h2],F5,zB0.mp,Š3,mv K x x st f fd,Š4,t.place.getD i 0,ÇS,Ĩ { cls:=Υ,data:=Ě [u1,u2].toArray },Ϭ8,_ N f1 f2 c ga,ÇT,gR ķ "say" š Um (oy (kT Ϭ8)),Β8,storedH,ς1,Β8 xs k b w,ÇU,[_,by rcases l with ⟨hk,hm⟩ | ⟨hk,c,hc,hcell⟩],E6,∀(k:Bool),0,ς2,by let#[xs,h,_]:=h;rw[h];simp,ÚG,by let#[x',e1,e2]:=r2.yx q,Ϸ2,by rename_i q;ext Aq,ÇV,by ext Ϸ2;ext Ο4;ext ÚG,q8,∀(hdb:rg),0,L8,∀(hf:qU f te),0,Kr,∀(hf:yK f ty),0,ÇW,[_,by generalize hT:(sU)=P at *;let#[t1,p]:=P;dsimp only at *],Ε8,∀(h':Heap),0,Š5,∀ Ε8 (tk:Nat),0,Š6,by rw[yv (lH q hn)];show q,N7,List âf,vW,∀{xs:N7},0,ς3,[_,by let#[_,h,_]:=h;rw[h] at e;cases e],ς4,Q none { s with heap:=h' },tp,∀{b:Bool},0,Š7,∀(hdb:rg:=by decide),0,Š8,by rw[yv (lH q h)];show q,ÇX,[_,by cases e;let#[p,o,h1,h2,h3,h4]:=hE.ow i _ h;ext KP],Š9,X.A.handled=none,Ϯ3,X0=↑ ϥ,ς5,X0=↑ Lh\/Ϯ3,ς6,PySem.W.plainGet_of hg,ϖ0,(.ins C dx []),ÞE,(upd H dx Q0),ÇY,(upd ÞE x ϖ0),RU,y8.of yF,ÇZ,#[l,xs,rfl,RU,Ζ LO _ r2],ς8,.tuple_list ‹_› Ez,ς9,H b=↑(ä (k.map kV)),Èa,#[ds,by unfold yA;ext ë;rw[h1],h2],ND,slotAt,τ0,Kv=Á->slot=ND t i,Èb,λ l hl=>hq À LO (lC hz hl (fj.mpr rfl)),YQ,x=.bl c,Èc,∃ c d,YQ/\y=.bl d/\Q (.bl (c == d)) H,Rj,[x,y],Èd,(λ x y=>D.tup Rj),τ1,(Ì (Txt.slice z Ŵ)),τ2,λ gV s σ H Q I hu=>?_,Ÿ8,_ (iD w) zZ,Èe,Dn/\ÿ4 a=↑ Ξ4/\Ņ Ÿ8 EL/\jg,Q4,∀(i:Int),0,Qo,_ x c e,cv,∀(ha:PT X a tA),0,š0,by let#[H1,I1,q1]:=z0,OC,∀(ha:PA X Hi t),0,KW,∀{j:Nat},0,š1,[_,by rcases Ş hx with q | q],τ3,∀(hr:wG X.K f r) Ζ1,0,τ4,by have q:=h.flat r;subst q,Ey,_ ň y _ F.er,Èf,by let#[z,e1,e]:=Ę;let#[x,e2,e3]:=Ę;split at e3,ų9,_ it #[] o e,Èh,λ i h h' st k=>st.at λ o e=>k ų9,Èi,ſ5 (t':=Δ9) λ b o eo=>zg4 _ eo,Óz,_ I p hz Xk u (j:=j),Èj,ķ0 Óz (by simp[hj]),HY,T.int,Ű9,(Ŀ n).map,Èk,Ű9 λ Wh=>HY (lo+UB),Èl,Ä #[_,_,h1,h2,h.1,h.2 J6 h3],Èm,(æ (Jw<tY)||æ (strKind x<strKind y)),Èn,key Ú (Ó ϓ (Ó ϓ (Ó ϓ Ð))) #[] hq,Α7,y.2=Ϧ,Èo,æ (y.2=Lh)||æ (Α7)||æ (y.2=ϥ),Èp,(tupS (za (tupS (za Ċ (za Ċ ze))) ze)),š2,_ X (qK .And ÄF),Ũ4,Gl X "range",Èq,∀{ta:TA}{p pos:Pos}(hg:Ũ4) (hm:Ş7),0,š3,_ #[] T.isinstance,Èr,by let#[a',xs',ds',q,k1,k2,k3]:=h2.jL p r2,Ès,∀(hv:PE X Ϩ tv) (hs:IK Ϩ ↑(II) DE=SU),0,τ5,by ext Hf;let#[ds,h1,h2]:=h,Èt,by intro xs n h;ext DH;let#[y,ys,rfl,h1,h2]:=h,τ6,_ "say" "Desk.say",τ7,by let#[z,e1,e2]:=Ę;ext Ő,ÝY,h.er.im j t e',Dh,Sn.sx,Èu,by .let#[d,g1,g2]:=ÝY;show#[d,g1,Dh ÁD t g2],Èv,[_,by let#[a',xs',ds',q,k1,k2,k3]:=h2.j8 r2;cases q],τ8,.list_tuple ‹_› Ez,Èw,∃ c d,YQ/\y=.bl d/\Q (.bl (c != d)) H,š4,_ X (qK .And ÃG),OJ,by simp![zC4,HJ],ž8,_ (V6) ľ,Èx,_ ž8 #[by rw[zA7];show h4,ş5,0,by rw[<- e];show ĝ0 l,Ũ],Âs,List âm,Hd,∀{xs:Âs},0,Tj,[_,by cases rx;cases ry],Èy,by ext uJ;let#[c,d,rfl,rfl,q]:=h;ext Tj,τ9,by simp![zj] at w2 y2;subst w2 y2,FA,å<=Ý,vQ,I.cell,υ0,k b o (λ z=>hc Ν9) e,υ1,(σ.set i ↑v),Ť,Ì x,GN,(Ť),Èz,I.mod.glob.keeps I.bk,Ϛ1,(hi-lo).toNat,Ϛ2,((0:Nat):Int),ÈA,((Ϛ1:Nat):Int)-Ϛ2,υ2,λ i j=>Ê (i-j),Kg,(vs++dvs),Gv,_ I K_,υ3,zgT (fH Gv ?_ hdb),š5,wpAny_loadPart',HI,getItem,Hx,ht.typeIs,Uu,#[⋯,⋯],G6,kE xs Ŵ,š6,.bl (BQ ns ms),Tn,(.dT kvs),HX,H Ë=none,Qu,its2.toArray,Fg,ϡ+1<İ,gj,(mY pick σ),ϸ6,(x,O8),š7,ϸ6 ∈ Gk,υ4,(ö1 (VJ) Ö),rP,Bool->Au,υ5,λ _ _ _ _ _ hq z=>Js,TL,λ x H' q=>?_,Vt,by simp[hi],š8,get?_update_seq,aK,listItems_at,š9,#[_,rfl,?_],Fj,Eo Ł,υ6,(kvs.find? UK).map Ł,Ţ0,h1.symm.trans e,tm,h3.elim,NW,_ is g b,Ţ1,pd NW ys J2,Ţ2,(way Ā h k1).j,ÈB,es.toList.findIdx? (λ e=>(u7).is n e.2),Ţ3,(jo f g Ă tc),uH,_ l xs,Ţ4,SQ í k uH,Ay,e5.extBut,ÈC,u _ (p1 À rfl),Ţ5,List.zipWith,υ8,(ŧ λ e=>QZ UZ),υ9,(Ê (ns.idxOf k:Nat)),ÈD,Rc x y 0 Jw (Jw+1),JV,(zb 6),ų1,(za v5 ze),χ0,(xF oO ö ų1),Ţ6,(jm (zl iB sY)),AY,∀{op:CmpOp},0,Fo,∀(i j:Nat),0,AD,∀{pos p:Pos},0,IX,∀(rows:ű),0,K8,∀(J:Ev),0,Ζ2,∀(kvs:Ze),0,Ks,∀(k:Key),0,Ţ8,∀ Ζ2 Ks,0,BD,∀{its:zAV},0,ÈE,∀(hit:s.heap.IsTupleIter it l i) (hl:OS uH),0,ÈF,[_,_ Dg hl (by exists hn) λ v h' tk hv hk=>?_],χ1,∀(Sc:TY:=by show e9) (hn:n=Ab:=by rfl),0,ÈH,[_,by rename_i q;cases e;ext PV;let#[xs,h1,h2]:=p À q],Ţ9,List (Wg × OT),χ2,_ e (.Slice Ŵ none p2),ţ1,∀(es:He) (ep:Nat),0,DU,Ě Ĵ n,ÈI,t { nx:=λ _ H'=>Q .zx H',rt:=Q } oz H,ÈJ,PyProof.Rows.slot_tuple_getitem.lookup,NC,_ _ (AF),sQ,q NC,ÀQ,r Âl,ÈK,xH X f (λ xs H Q=>ÀQ\/r' Âl),sC,own.lookup,Lp,nA Å uH,TK,(l4 to te),χ3,(ŉ5 sp tA),Pm,out.toList,N8,atKey xs k,qt,xD S a b,Xx,Vw S Z y d,ÈL,hq #[ds,_] S1 s1 h2 λ S'' s=>s À h1,va,(zM R F),Pw,owner.size,ÈM,[_,by rcases X.tab.mask with e | e | e <;> lia],O3,(mD k1 l1),N0,(retS CR),χ4,by try with_reducible exact zg9 ?_,ÈO,∀{f:Ï}{r r':KA}(h:xH X f r) (h':xH X f r'),0,ÈP,by simp![zj] at h ⊢;let#[a,xs,h1,h2,h3]:=h,Bs,by decide +kernel,ţ3,by unfold Ol;split <;> lia,Ϸ3,Value.str,ÈQ,∃ t,u=Ϸ3 x t,ÈR,yv (hm b _ q λ z=>z),χ5,(hs.2 b (Äm)).trans,χ6,#[v,H,I,r,h],ÈS,Value.notImplemented,ÈT,(if v<0 then max (v+rl) 0 else min v rl),ϰ6,(.dS a vs),ÈU,H q=↑ ϰ6->H' q=↑ ϰ6,χ7,(∀ r∈rows,r≠[]),ÈV,(.bl (cond neg (! i_) (i_))),ϭ,Good2,χ8,#[Z',J',F',e'],rM,_ K EN,ź0,Ê (i*j),ÈW,rI nB (λ i j=>ź0) EN\/Ĝ8 rM,ψ0,#[c1,c2,c3,c4],ÞM,(Ei "str" ö),JW,_ ğ6 y6,ÈX,(yw (wD (xq ÞM)) JW),ÈY,["self","row","words","things"],ţ4,_ X (qK .Or ÄF),ţ5,_ X (qK .Or ÃG),Jo,∀{c:Expr},0,ψ2,∀(hs:ÂJ:=by intro _;rfl),0,YH,_ X (Iu .Add),NA,_ x Ŵ H Q,D0,∀{xs:A6},0,ψ3,_ [õ] H (λ v _=>v=qe),UJ,_ qual st,RP,_ hN hv hd hcd,Io,_ ds S Q,Gz,_ S2 À,ÈZ,_ Gz (fun Y4 S4 z4 σ4 H4 a1 a2 a3=>?_),ţ6,_ X (.Dict [] Ψ),G4,∀{g:Τ},0,SG,∀ G4{u:y7},0,MI,∀(enc:α->T),0,Éa,by ext Aq;ext Ο5;let#[b,ys,rfl,g3,g4]:=h2,Ox,∀{Q:Dv->ŭ},0,Éb,_ (by have:=(Š hj).1;rw[zA0];lia) hj,Éc,_ I1 kk λ b hb=>#[hf' ţ,(hf ţ).2],ψ4,∀(hb:GW o "kept" JC=ϳ),0,Sb,oh.ext,Éd,_ _ Gz (λ d S' q=>Sb (KI a2) q) z,Ée,_ (Ë2.or (Ù5 Jp)) lP.fits lP.mo Ej hm,Ϫ0,WZ "tuple",Éf,Ô (by rw[show (Ϫ0 == Ϫ0)=true from rfl];simp),G1,by rename_i hl,NT,[_,by ext G1;cases e2],ψ5,by ext ħ;exact qE hm GI Λ1,Ég,by simp![zp] at q ⊢;let#[c,cs,q1,q2,q3]:=q,Éh,(∀ i:Nat,ql=↑none->B[i]?=↑none),Rq,∀{lo hi:Ė},0,Éi,∀{t sl:Addr}{Ĳ:zAV}{vl vu:Ï}Rq,0,Éj,_ JO (λ b q hb z=>(hs.2 ţ).trans z),Ék,[_,by rcases x8 e with ⟨rfl,hl',e⟩ | ⟨n,e⟩],ψ6,∃ t,u=QZ i t,Nt,X.mg x,Jd,yy NQ,ţ8,I1.Ğ9 ľ (XA),Él,(ą "range" p),ţ9,(λ b u q=>BF),Áa,.dict Ē,Ém,Ĩ { cls:=T6,data:=Áa },Ť0,(Y.set i ↑d),Én,λ v H2 r x q=>h v H2 r (e.trans x) q,qc,PS.imp,Éo,λ gV s σ H Q I q=>h AV (hi Q Û q),Ť1,rows.getD i [],Ť2,∃ ds,ob=KQ,Ť3,carriedByValue,ψ8,wpAny_runValue,ψ9,isSubtype_stop,Ép,h.IsTuple uH,Éq,[_,λ q=>Bu (by subst q;exists hl.symm)],Ér,hq qA (Ň2 0 g2) λ S'' s=>yA.sx g1 s,Ť5,(zc zi HC ϔ),Vz,_ zi ũ,Ť6,(zc Vz Ċ),És,by let#[m,#[o,es,ep,ho,r],_]:=id sW,Nl,by have e:b=it:=FZ,zR,_ BE (nW i),XF,_ vV Q I1 q1,ω1,by let#[o,e,c,d]:=id st',M7,by rw[Ç hj,Ç hj],Ét,by let#[Ξ9,ho2,hc2,n2,hd2]:=id hb;ext Λ8,ź2,(C,oC),Év,_ ź2 (zB4 _ (zB4 _ (zB6.mpr rfl))),rj,∀(t:y7),0,ω2,by rw[zC7,zD0,zD0];ext HS,Éw,∀(hv:PD X v tv) (hs:IK v ↑(II) DE=SU),0,Ξ,by split at ef,M4,by replace h3:uw:=h3,Ť7,∀{es:He}{t:E9},0,Éx,_ ĭ (ups S l (Ñ ((nD ns).map BS))),ω3,by let#[_,h,_]:=hn;ext Μ0,Éy,_ (numAt zs.toArray) (zs.toArray.size-1),Éz,[_,by exact#[#[o,e,ex.1],λ a e2=>?_];cases e2;show#[o,e,ex.2.1]],Ť8,List (Str×Tok),ÉA,by rename_i e;let#[a,ys,rfl,q,r]:=yA.sq ϙ e,áQ,[none,none],ÉB,_ áQ (xt kL (za ö Jm)) qD xA,ω4,by rw[q];simp,Hr,k=true,ÉC,(sb.2 c (λ z=>hc (z▸zc7))).trans e,ÉD,by have hl:(Ŝ6).length<=Ý:=by have:=ć0 A3 v;lia,Qm,Value.isInt,W6,o.ExactDict,Δ6,h2.get?,ÉE,∀ o,ſ3 a=↑o->Δ6 a=↑o,ω5,I.ok.bs Ϙ,U8,λ x c e=>?_,Ta,v8 a J4,áo,[v,ov,iv],ÉF,uR áo (setItem ov iv v),ÉG,(BB [tg] Ö).map Ł=[ö1 tg Ö],Rv,Inv ú H s',Jy,lexLt,ω6,(ź (Jy ns ms)),S9,items2.size,nH,ds[i]?=↑d,ω8,(∃ ds,S1 p=↑ ET),QP,nJ.ext,ω9,λ _ _ h=>QP e h,ÉH,I.items[i]?,yi,Âe=ks,vI,valueAt,N3,(k,d),ÞD,hq À (z p hp),ÉI,λ _ _ _ _ hq z p hp=>ÞD,B2,ER ň,ÉJ,(∀ c S',Kz->R S S' Z z c->Q c S'),Ry,#[ds,rfl],ÉK,λ S3 Z3 Y3 F3=>#[Z3,J2,F3,e'],ÁL,below.go,ϊ0,ÁL xs j f Ŵ,YW,(Uk).toList,ϊ1,by unfold turns;lia,QF,λ z=>hb Ν9,ϊ2,(EK).toList.map Ł,ak,Builtin.Str,ÉL,λ l hl=>hq À LO (lC hz hl (fk _)),QT,(stN l k n),ÉM,F.slot_dict_keyiterator_next.lookup,Hb,(oV Á),Pp,(za Ϥ ze),ØC,(cS (Ì "floor")),ÉN,(zV (zc ń FG ØC)),ßS,items2.toList,ÉP,∀(hi:ϻ UE ns) (hj:ϻ ßS ms),0,ť0,[_,by rcases hq with hq | hq],ÉQ,∀(hw:sizeAbove t6=M+1) (hfew:å*5<M*3),0,ÚY,_ y d e H S Q ϙ h3,ϊ4,_ x ÚY,âs,_ ÚY h,ÉR,by let#[a,es,ep,h1,h0,h2,h3,h4]:=hk,ÉS,(ù (Ρ o "get" apos) [e,f] qB),Hq,Rh _,ÉU,#[by change 2<=Ý;decide,Hq],ÉV,Ĩ (vK "list" (ş5).toArray 0),Úx,(cS (Ì "ever")),ÉW,(zV (zc Ko Ll Úx)),ÉX,by ext uJ;let#[i,j,rfl,rfl,q]:=h;ext OD,ÉY,by ext A1;let#[p,ys,rfl,hq,q]:=h;ext Ν4,ϊ5,by let#[e,he,rfl]:=F5 hx,U_,fs.length,Êa,Gr=↑{ cls:=Ġ,data:=A_ ps },RL,Paired.ck,Xi,λ _ _=>Þ,Êb,by rw[rangeSize_one];split <;> lia,ť2,Nat->Nat->DB,ť3,λ r s4 z0=>?_,ť4,Int->Int->Int,ϟ8,!kvs.isEmpty,Ű3,H p=↑ Hv,Êc,∃ kvs,Ű3/\k=ϟ8,Y0,r2.length,BR,N.length,Q2,cellsFrom,ť5,QG=0/\Ξ5=å,Áh,(Ê S8),Êd,∃ z,xs=[Ì z]/\Kb/\Q Áh H,ßY,(upd H l OQ),Êe,∀ l,uB->Q ĭ ßY,Qq,(ä ys),Êf,∀ l,uB->Q ĭ (upd H l Qq),Rt,ϻ vs ns,fe,w.params,J8,some ET,jU,h H ϲ p,uP,h J6 h2,ϊ6,(ups S p ET),ϊ7,wpAny_pyIter_tuple,ť6,bs.any id,ť7,(df V.bl),Sy,Χ i 0,Δ5,collect,ť9,(Δ5 ě),O7,(Eo ĉ),w_,(mE ty T),Ŧ0,rel.val k,QK,Sn ϟ y d,Vb,by ext vL,Γ3,Vw.grow,Ŧ1,Γ3 r1 s2,Tq,Vw.int r1,Qg,Vw.str r1,ϊ8,ŕ=↑↑(Ř ts),Br,(Eo my),Êg,xv.mpr #[q,zc7,EC,EC],Ŧ2,∀ ts,d≠ ĺ,ng,Ol M i-i,ϊ9,Ol M JS,Ld,L.size,BW,_ ho hd,ϋ0,zg3 (zgF BW ?_),Ŧ3,setSearchFrom,Ŧ4,maxHeartbeats,Ŧ5,plainId_quiet,Ŧ6,Obj.mapFields,ϋ1,(x1.trans x2),F7,hq À h3,Êh,h.IsList uH,ϋ2,(ħ8 jB).objs.size,Ŧ8,î (Ev->fC),Êi,Â ã (Iu .Mult ĭ (Ê k t)) à,ϋ3,(ups S p (.zL [])),ϋ4,ox N (Č::es),ϋ5,pj N (.zL FX::ys),ϋ6,#[rfl,rfl,rfl],Ϥ2,(iX a b).map,Êj,(upd H l (ä (Ϥ2 JH))),Hm,æ (x=y),ϋ7,wpAny_tupleItemsOf,Γ4,(.dn l),Ŧ9,(.im Γ4),ϴ8,(za Ϝ ze),ϋ8,(zl y9 ϴ8),ÞP,(cS (Ì "; ")),Êl,(retS (xF mh ÞP Jm)),Úv,(cS (Ì "none")),Êm,(zV (zc ń ö Úv)),Ên,["borders","joined","border"],ϋ9,(tupS (za Ċ Xr)),vN,∀{v:Ï},0,Êo,_ c o (I.gA Qo) hc nch ho (I.k7 Qo),ό0,_ X (Qz es k pos),Ük,λ h' st' sb=>?_,Êp,[_,_ (x:=u) (by exists hu) Ük],Rg,∀{Q:VK},0,Fu,∀{env:Env},0,su,∀(ns:á),0,ό1,∀{y:Str}{py spos:Pos},0,ZD,_ S (oh Å Q),Gi,_ X.K t,uD,∀(te:zy),0,Êq,by rw[q2] at h;simp![Option.join_some] at h;rw[h],qH,∀(ts:Ĉ),0,Zr,∀(hs:Ŧ7 i),0,Ny,_ Ek hi.pe,ό2,_ X (sO [II] v pos),Êr,_ F Sc (λ ds S Q h=>by rw[MW,hn]),U1,∀(l1 l2:Addr),0,T5,_ LZ h l1 l2,Ês,by let#[a1,us,rfl,g1,g2]:=yA.k d1 p1 s1,Êt,by subst h;ext Hc;let#[a,xs,r1,r2,r3]:=r,Pn,_ ["thing"] 1,ÛZ,(zD5 this).symm,Êv,by have ex:x'=x:=by have:=f1 _ m1;rw[hx'] at this;show ÛZ,ό3,[_,λ v z=>by cases z],ό4,by ext XM;exact hf ň y _ hE sg,ŧ2,t.fits ī=true,ŧ3,(Hz).trans s4,ŧ4,[_,by rcases hx with hx | hx],TZ,Ň a=↑o,Êw,ŝ6 a=↑{ cls:=ł,data:=Ě Β },Êx,by rename_i a;ext Hc;let#[xs,x1,x2]:=p a _ h,Êy,[_,by have e2:(op == CmpOp.NotIn)=Á:=by cases op <;> first | rfl | show ò rfl h2],ό5,by rename_i ts h;ext XM;ext Ő,Rf,[none],cy,T.mask,Êz,[_,by rcases cy with e | e | e <;> lia],LG,_ GI YL,ό6,by ext ħ;exact ď ϋ LG,SF,Rh hf _,ϳ2,κ->β->Ï,Δ2,List κ,ÊA,∀(val:ϳ2) (its:zAV) (ks:Δ2),0,vX,_ h h',ÊB,∀(ho:Ke d=↑o) (hd:ra) (hs:v8 d vX),0,ÊC,_ (by simp![zA0];lia) #[H,rE,by rw[Ï3 r];show q],ÊD,[_,by have hpl:p≠l:=λ z=>by subst z;rw[yF] at hp;cases hp],SH,_ ↑ ü none,ÊE,v8 it J4->Q x { s with heap:=h' },ÊF,by ext Υ9;exact ď ha QX h YL;exact ď hb Ĭ1,ό7,_ a L6 Jq true fuel,ÊG,λ v s1 Bc=>#[σ,H1,I1,q1],JQ,_ b pos,ÊH,PS X (.If c a JQ) (Č8 tc t u),ÊJ,λ v hv=>(zd7.mp nd).1 (zeG hv).1,ÊK,if x=y then Jy xs ys else æ (x<y),MV,_ Ap S,ÊL,(∀ Y',FR MV Z Y' J'->Q Y' S),ÊM,pd NW bB J=↑(.nx J'),OO,h J6 h3,ÊN,Ä #[_,_,h1,h2,OO],Ų0,λ e he=>?_,ÊO,#[Ų0,λ j r hj hrj=>?_],ÊP,uW l'=↑(vF (ST.wa w l' us')),ÊQ,fun Y' S'=>∃ m',m'<m/\W m' Y' S',ÊR,#[#[ds,h2],hf ň À F.er sg],ÊS,(.done (ύ (Ê (Yw:Nat) ø))),Pt,∀{a b:Addr},0,vT,∀(ok:Μ6),0,ÊU,_ (λ _ s'=>∃ σ' H',JR/\Q χ) Ê2,ό8,by let#[od,J,hl]:=I.look,ϯ8,ws.toArray,Ϸ1,[_,by exists hv],ÊV,_ t b Β ϯ8 VE (Ϸ1),ό9,by rw[zdE,zdE,zdJ,zdJ],UU,∀{fp:Ε},0,ÀN,Nat->C_,ÊW,∀ UU{tn:ÀN}{J:It}{cl:J_},0,ÊX,by let#[#[f,fd,h1,h2,h3,h4],hm]:=F,Od,∀(h:yK f t),0,ύ0,by let#[y,e1,rfl]:=E_,ÊY,by let#[p,o,h1,h2,h3,_]:=hE.ow i _ h,ÊZ,by let#[o',Ĳ,n,ho',hc,hd',hi]:=x,Ëa,_ ÅL (ù (ą "enumerate" p) [a] Ψ),dX,∀(hk:k<=k'),0,Ëb,_ k hs λ X=>∃ t,y_ X fv t/\KS,Ëc,[_,by have e1:(op == CmpOp.In)=Á:=by cases op <;> first | rfl | show ò rfl h],ύ2,IK e none DE=SU,Ëd,by simp![zj] at h2;exact Ã #[h2,?_];rw[Ė0 h1],Jx,∀(C:Addr),0,ύ3,Value.isInt_shape,RQ,Value.bool,Ëe,PySem.W.methodObj,Ëf,∃ sl,ϝ b=↑{ o with r_:=sl },qm,zC1.mpr,RG,(Á,FV),bU,y8 ė ϯ,Ëg,y.size<=Ý/\k=((y.size:Int) != 0),OI,intsAre_of,ύ4,s3.heap.objs.size,UX,H l=↑ uc,Ëh,#[cl,?_,λ x d hx=>?_,Jv],Ëi,Inv X (gV++[ź2]) σ H' s',Wb,(yJ f Ă),nC,h2.new,Ëj,λ l hl=>h À ?_ LO (nC hl),Ëk,#[Y,S1,B8,p1,ym ÅK],ύ5,λ v σ H Q hu=>?_,Sk,λ d hd=>?_,RJ,S p=↑ ET,Oj,H a=↑ Hv,Ëm,(.bl (cond neg (!(Τ0)) (Τ0))),Ëp,BG (è9 hp) (ř4 _ hp (Sr.sn r)),YT,ģ8.mpr rfl,Ëq,#[t,h1,λ ds S Q h=>Ï0 h2 h],ŧ6,owner.getD,Ër,#[[Lg,a],[]],jh,U.own e he,ύ6,#[o,f o ho,r],ύ7,(Shared.heap Ue),UI,xs.toArray,Ës,Ä (ö8 S Z _ z ds Q hz hv e hq),Ët,List.idxOf_lt_length_iff.mpr hk,ż8,vo m SY,ύ9,(ż8).isSome,Ε2,tab.map,Ëu,(Ε2 λ q=>(q.1,zM R q.2)),ώ1,Ņ (ţ0 K) tab zZ,ώ2,[Ä k.1,Ã k.2],Ëv,(zV (zc ń (zc zi uL Ģ) Qi)),Ϯ,∀{x:V},0,ŧ8,_ (ĩ6 ú Q) Ê2,Ëw,∀(hm:Nt=↑ π) (hk:Yz X.K π=true),0,ŧ9,_ hs pl pu,Uv,by infer_instance,Ëx,[_,by rename_i hp;obtain rfl:y'=y:=by injection e3],ϩ7,hashes.size,Ëy,∀(hashes:ϵ Int) (hl:ϩ7<=M+1),0,ËA,[_,by have npq:p≠q:=λ z=>by subst z;rw[g2] at hq;cases hq],ÂD,∀{it l:Addr},0,ώ4,∀ YR ÂD,0,tF,I.free,ώ5,(neC Ϙ hx),BC,.BinOp,ËC,y=.zx/\Q (.bl (! æ (x=.zx))) H,Ũ0,concat_meets,ώ6,λ _ _ q=>BF,sj,.qZ ds,Ũ1,SS->DK->Prop,FF,z.elim,ËD,#[Y,S1,B8,p1,h.mo ÅK],ËE,(((KI x2).trans x3).trans a2),Ũ5,ą "tuple" q,Ũ6,by simp[qO],Γ6,(a,b),Ũ7,Γ6::kvs,ŵ6,(Ņ3 s hp),ËF,#[d,h1,Dh ŵ6 t h2],JM,Ĉ->WS,ËG,((MY).i*5+1+(MY).perturb/32),Ũ8,Classical.em,ËH,∃ (e:Nat),e<=M/\ċ[e]?=↑ Dw,t5,(u7),Rw,_ t5 í,ËI,∃ k c,v=Ò c/\u4 Rw k c,ÂC,UG=true,ËJ,G8=led/\ÂC/\å*5<Ā*3,Ũ9,setAddHashed,ËK,by rw[<- zD2,hes1,zA7,hl1],ũ0,nv w h a tj,ώ7,ND t ŏ,Δ7,fits_of,ËL,Δ7 (n:=å) hlen T #[] ⋯,ËM,(.bl (cond neg (c != d) (c == d))),ũ1,ä [ñ,x],ËO,i7/\Q .zx (ups S2 p (Ñ B_)),ËP,(hq [(x,t)] ø (Ô h1).symm),ËQ,λ xs H Q=>∃ x rest,B3/\r KC,ώ8,(hr.mono hk),ËR,(tupS (za Ba (za Åc ze))),ũ3,∀(k:∀ b u,Λ4),0,sf,∀{N:þ},0,ũ4,∀{op op':CmpOp},0,Ϗ0,by dsimp only at h ⊢;ext ç,ÒA,_ ds S1 À,ËS,_ ÒA (λ d S' z=>z.ext e1) h1,ũ6,∀{ti:pO}{g:wR},0,A5,by rename_i h,ũ7,∀(hu:Iy+1<İ),0,ËT,∀(_:Ŋ6 N' pick) (_:Ql=esc) (_:X.N=N),0,ËU,_ ht (λ z=>hne (r.dZ.mp z)) h1 (by rw[<- hl];show hz),ų8,[_,by split at h <;> cases h],ϧ1,[_,(by exists q)],ËV,by .rw[zeI ϧ1,ze7] at h;ext ų8,ËW,by have kk:∀ b o,Oc:=λ b o e=>k b o (Ϛ) e,Pz,pure none,ËX,#[v,hv,by simp[oB];lia],Ϗ2,by ext ħ;exact ď h LG,ËY,by rw[zA7] at p1;have hpt:(sU).1.plain=true:=by rw[p2];show hpl,OK,[_,by rw[q] at e;cases e],vA,S l=none,Ϗ3,X.env.scope.kind,RX,zB9.mp,Ϗ4,(RX hp).elim,Lk,(ñ),ËZ,Â û (eval (ą x pos) Ö) à,Ϗ5,wpAny_execs_cons,WC,(he El),Ϗ6,(zI WC Y7),Ìa,y=.zx/\Q (.bl (æ (x=.zx))) H,Ϗ7,beq_iff_eq.mpr h,qf,(Ò t),Ÿ1,(Ò sl),Ìb,Â ã (HI qf Ÿ1) à,Ìd,(r.drop (QG)).take (Ξ5-QG),Ϗ8,·.setIfInBounds,Ìe,Ň p=↑{ cls:=ł,data:=DU },Ϗ9,beq_self_eq_true,ϐ0,Inv qh [] χ s',t9,n::ns,PC,Q v H',ϐ1,B7->yk->PC,ϐ2,by rw[r2.isEmpty],Ìf,∀ v σ H Q,t' v Ś->t v Ś,Ìg,kat_nil (by simpa [BQ] using h),SV,_ ys rows,ϐ3,L4.i0 Å SV,ϐ4,is'.toArray.size,ϐ5,.bool_tuple _ Ez,ϐ6,h.fr i ts p e ed,ϐ7,(.nx (xK is J2)),Ìh,List.drop_eq_getElem_cons hlt,ϐ8,(F1.grow s2).mut,Ìi,Ç (by rw[T.ik];simp[has]),ϐ9,iG yP h es t xs,ϑ0,(ŧ λ e=>Tv),Âb,(·++·),Ìj,(ſ Œ Ĳ).foldl Âb Ē,Ìk,(ù (Ρ o "extend" apos) Eu),ϑ1,∀ H,y8 Å a DF,ϑ2,(mX x).map rG,ϑ3,PySem.intText? a,ϑ4,KTab K w mg x zZ,ϑ6,(eE ["a","b"]),v9,∀{k:Key},0,tH,_ X e t,uN,∀{te:TE},0,Fy,∀(ps:þ),0,ϑ7,_ (Ê a t) (Ê c u),G7,∀{i:Int},0,ϑ8,∀(F:mv K x UJ f fd),0,Ìl,_ (zT X.K to) (dg (Ϲ5) gX),Ìm,by ext HF;let#[a,xs,rfl,g1,g2]:=q1,GP,_ h2 h3,Ìn,_ hg GP h4 Ð dM uF hdb Ip,Ìo,_ (Õ6 Jp) mj.fits mj.mo Ej hm,Ìp,by unfold zc at e;ext YS;let#[z,e2,e]:=Ę,JI,∀{F:zLO},0,Ii,∀(h:JT),0,Ìq,_ F.fills_int_mul Üx,Ìr,_ Ō (λ ds S2 h=>hf ņ hq h) h2,ϒ1,_ x y k t u v hk h1,Ìs,_ hi.pe I (ď Ϫ Ι9) hg hs hdb,Ìt,[_,λ S Z Y J y Q hE e hq=>by cases e;show hq Ex],Ìu,by ext áZ;have hT:Ge Pr "zip":=#[_,hz,rfl],ϒ2,_ (st:=none) áX,Ìv,Ň l=↑{ cls:=ł,data:=DU },ϒ3,.tuple_bool _ Ez,Ìw,#[z.1,ht À z.2.1,z.2.2],Ìx,λ z=>(hch c z).2.2.1 Qo rfl,Ìy,Â M A (storeName Ö x u) à,Ìz,Ķ->u0->Â û (FV) AK,ÌA,(zI (ha AV h) λ c s1 e=>?_),àH,swapsWithSole,ÌB,àH [tg] e DE=SU,ÌC,IK e ↑(ą x pos') DE=SU,ÌD,#[Ê Iz,H,rE,ϓ,q],NX,(Ò x),ÌF,(λ v H2=>v=.zx/\Q NX H2),ÌG,zg3 (m:=p9) (zgB Κ8 htake),Gn,hE.nx,ÌH,#[Kf,hE.rt,Gn,Kf],Mb,m.length,Pq,Ó ?_ ih,ÌI,by simpa only [zd0,zp] using h,O4,Vw.bl r1,ÌJ,h' É0 y Ds λ S2 s2=>hq sZ,Þg,(way M h q').j,ÌK,∀ q'<q,i4 ċ Þg,TQ,(zD1 ϸ),ÌL,(Obj.cls_mapFields ..).trans,Pj,[e,it],ÌM,(ù (Ρ o "index" apos) Eu),ku,List âg,ũ8,intItems,ÌN,F.slot_dict_keyiterator_next,ÌO,F.slot_dict_keyiterator_iter,ÌP,["floor","place","pair"],MT,_ X c tc,ÌQ,_ (s:={ s with heap:=h' }) e c d (),âo,_ L7 rfl hc i,ÌR,_ L7 rfl hc i gV s3 Z2 X.xe,ÌS,by ext Ŋ;exact zgT (gh Gv hv ?_ hn hdb),ũ9,_ ž xs us Q I,Α8,(Ñ []),Ū0,_ H Ë Α8,ÌV,_ é (λ d S' z v H' a b c=>?_) h,Ū1,_ I.vf HQ Κ7,ÌW,_ mI.mo (mI.fits ϫ9) ă,Ū2,_ K_ uF hs,Ū3,_ pick g c f J,ÌX,_ (A:=A.in1.in1) (P:=λ i v=>DS),Tx,_ LZ Ι7,ÌY,∀(D:Yb Ι7) (S:At í Tx Ġ n),0,ÌZ,[_,by intro xs n h;ext DH;subst h;exists zv.nil],Ū5,_ ķ ys k ps R,Ū6,DecidableEq,tX,h.push,Ϸ9,fs.map ĉ,Ía,PySem.Within mA (Ϸ9),uE,(zE1 _),ϒ4,(ř8 h H).get? b,Ū8,ϵ GenState,Ū9,.Expr e pos,Íb,letOwnedTupleGo,Gj,.bl k,ū0,sizeLine_eq,ϒ6,if j>i then j else i,Xg,getMethod,ϒ7,PySem.W.takerIn,ū1,zB3 (zE2 _),qq,items2,Ih,zg7 ⋯,Z8,eq_of_beq,ū3,subscripted,Íc,(upd H p (Ñ (xs.set j v))),ϒ8,pushCells_keeps,ū4,ql=↑↑j,QL,mn Å b k,ū5,(upd H p u),ϒ9,h x' H e2 ϲ h3,ū6,(wY X.K tA),Íd,Dc/\ϗ/\t d Y S (nJ Å Q),ū7,(qP te Dj),ϓ0,xV X.K H' Y σ',rA,zdG.mp,qF,xB.bind,ū8,(qs.map Ł),ū9,ą "bool" q,ϓ1,#[c,rfl,h1],ϓ2,is.toArray.size,Hg,q::qs,Íe,atKey (Hg) k,vM,ts.drop,Íf,hq BX (BG (n À) (h Ú)),Ŭ1,h ň xs ÂR,QY,TC->Bool,Ŭ2,λ b o q=>?_,Ŭ3,λ i t e=>?_,Ŭ4,λ S3 s3=>?_,Q5,(pj N ys),Ŭ5,λ _=>Þ,ϓ3,toList_insertAt,Íg,λ k=>hashes.toList.getD k 0,Íh,(tE Ł).toArray.toList.map,Ŭ6,unsupported,Vr,xs1.map,Ŭ7,Up G2 i xs,ϓ4,by rw[zD6];rfl,ϓ5,Heap->U6->Prop,Íj,Builtin.List.listLengthHint,Ík,Ä #[_,_,h1,h2,Ο8],Ŭ8,SQ h k uH,Íl,A_ [Ο,Ê 0 0].toArray,Ím,zg3 (m:=newExc (Υ1) []) ?_,av,e4.extBut,Ŭ9,(mM ds Ŵ),ϓ7,L2.RelV t u,ϓ8,Ge ě "tuple",Íp,PySem.F.slot_str_startswith,Íq,PySem.F.type_str_startswith,Ír,(nK lN to (mL (dC eg) kD)),Po,Y[j]?,ϓ9,Po=↑↑ GN,ϔ0,(putK vs SY t),ϔ1,iI st m qual ps,Ís,(ù (Ρ o "say" ap) [e] Ψ),Ít,Ρ (ą "self" sp) "kept" ap,ϔ2,List.cons.injEq,ŭ1,(zl xS Jm),ŭ2,(za ũ ze),ŭ3,(za DD ze),Vy,∀(a b:Str),0,ĉ5,∀(es:sv),0,ŭ4,∀(hm:Nt=↑u),0,NY,∀(lo:Int),0,Qh,∀{H':Hp},0,Íu,∀{σ':St}Qh{s':Α}{oC:Obj},0,Lu,∀(ds:Ã4),0,ŭ5,∀{f:xJ}{r:R2},0,ϔ3,_ (FW e2 x q1) q2,Ív,by ext Hc;let#[a,xs,rfl,r1,r2]:=r,Pk,∀(hf:qV f),0,Íw,by simp![bne_self_eq_false,zC4,HJ],LD,Q d S,ϔ4,∀(e2:Ω4) (h:LD),0,Ġ2,∀(h:i<AB),0,ϔ5,∀(hg:Gl X x:=by rfl),0,ŭ6,(show ty=_ from hx),ϔ6,[_,by have q:=h2.flat r2;cases q;rfl],Íy,[_,by rcases hb with e | e | e | e | e <;> subst e],Íz,[_,by exists É2 Array.toList d1],àI,swappedStores,ÍA,àI [tg] e Ö=Pz,ϔ7,if j<i then j else i,ϔ8,.bool_list _ Ez,ŭ7,(wO true),UQ,∀{h':Heap},0,ŭ8,∀(hm:Nt=none),0,ŭ9,∀{pl:Sem Bool},0,ÍB,by ext HF;exact#[k,q1,án],ÍC,by ext Hc;let#[a,xs,rfl,g1,g2]:=r,ÍD,by rw[hf'];simp![zB2,zdT,zC4,HJ],ÍE,∀{y z:Str}{j1 j2:Nat}{p1 p2:Pos},0,ϔ9,(show 0<M+1 by lia),ÍF,[_,by ext Hc;let#[a,xs,rfl,g1,_]:=r;cases h],ÍG,by have hl1:xs1.length=å+1:=by rw[NU];simp,ÍH,Â À (if Θ6 then _ else _) Ϗ,ϕ0,.list_bool _ Ez,ÍI,[_,#[zc7,λ a ha=>by cases Gq ha;show EC]],ÍJ,by have:=(Š e1).1;ext uM,ÍK,by rw[Heap.get?_push_ne Ú hbs] at q;show q,ÍL,by have hsz:(NB).size=å:=by rw[zeM,hlen],ÍM,Calls.Name_function_global,ÍN,(zI (hc El) λ d s1 z0=>?_),ÍP,tn i LW/\(Q3)/\W i n χ,ÍQ,Int.fdiv_eq_ediv_of_nonneg,ÍR,(λ x y H Q=>r EN\/r' EN),ť,_::_,ÍS,Builtin.Slice.sliceApplied,ÍT,Str.ofString "__getitem__",ÍU,(ś5 (QG)).take (Ξ5-QG),ÍV,Α7->∃ c,ÅE y.1=↑c,ÍW,λ _ s'=>SP X gV Q .next s',ÍX,M2 X o "get" apos e f cpos,ÍY,h.z0 a z (h.fr i _ a e ed),ÍZ,hg MV Z' Y _ o E F' e P,Îb,jA ϙ e (λ ts z=>hn ts z),Îc,Ň I=↑(jQ a slot i n ep),Îd,ů (cond k "tuple" "list"),Îe,Builtin.Tuple.tupleTooMany,Îf,Builtin.List.listFitsIndex,Îg,#[sX,H,rE,ϓ,q],Îh,(zc ye (zc ve Θ Ŷ) ü),Îj,∀(ha:PA X [a] ta) (hs:Ξ6:=by rfl),0,Ů0,[_,by rcases q with q | q],Ů1,by ext ë;rw[Ç zd2],ϳ0,hall v zc7,Îk,by ext Ν0;let#[m,t,rfl]:=ϳ0,Îl,by rw[zA3] at hg;let#[e,e1,e2]:=ų hg,Îm,_ í xs Á #[rfl,ϴ4],În,by unfold ş4;rw[p3.ik,p3.len];simp;lia,T3,_ its rows,Îo,_ (Ĉ2.or Ĕ6) qN.fits qN.mo Qk,Îp,_ ÅL (ù (ą "zip" p) Kk Ψ),Îq,_ F.slot_tuple_rmul.lookup rB,Îr,by let#[xs,h1,h2]:=h;show#[xs,k _ h1,h2.ext e],Àx,[_,by rename_i e;cases h],Îs,by ext Àx;let#[xs,g1,_]:=p À e,Ît,by have hd:ÉH=↑I.items[i]:=by simp[hl],Ů2,by let#[t,rfl]:=r1,Îu,[_,by rcases e2 x d hx with q | ⟨q1,q2⟩],Îv,by exact zg3 (zgE BW X.fits ?_);ext ë,ϕ2,by have:i=j:=⋯;ext Ŗ;show JK,Ů3,[_,by rename_i hc;cases e2],ϕ3,[_,by rcases Ş hm with q | q],Îw,by .subst q;unfold lx;ext ë;rw[h1,h3];show key,Îx,by rintro⟨v,hv,hg⟩;have:=hl v hv,ϕ4,by rw[yv npq];show g2,Ob,[_,by ext A5;cases ef],Îy,by have e:j=k:=⋯;subst e;by_cases hi:i=j,Ů4,by rename_i hb;ext ë,ϕ5,X.env.kindOf x,ϕ6,σ[i]?=↑↑v,ϕ7,(bR Ϙ n hx),ϕ8,(Θ2).objs.size,Îz,(N6<=i/\i<2 ^ 62/\μ4),ÎA,tY<=Ý/\k=((tY:Int) != 0),ÎB,es.toList.any (·.refKey),ÀV,sc.names,ÎC,∀ y∈ ÀV,y.2≠ Ϧ,ÎD,zE3 (x.above y c (IL h)),ÎE,λ r s'=>r=w/\EP ú Q r s',ϖ1,ś7 Ŵ none n,ϖ2,#[_,e,rfl],ϖ3,newFunctionEnv,ÎF,List.getElem?_zip_eq_some,ϖ4,s'.heap.get? C,ßK,wpAny_standAt,ÎG,zg3 (ßK (Fz)),ÎH,∀ D σ H,t' D Û->t D Û,ÎI,λ _ _ _ h=>ŕ3 hr hf u5 h,ϖ5,(Ŀ n).toArray,ÎJ,List.rel_of_pairwise_cons,ϖ6,PySem.W.kitOne,ÎK,(by change ϡ+1+_<_;lia),ϖ7,.none_tuple Ez,ϖ8,.int_tuple JL,ϖ9,.str_tuple JL,ϗ0,.tuple_none Ez,ϗ1,.tuple_int JL,ϗ2,.tuple_str JL,ÎM,#[us,ws,h1,h2,h3],ÁI,xp kvs j,ÎN,if j=k then ↑d else ÁI,ÎO,∀ e,e<=M->e∈dR M ό 0,FJ,slot',ϗ3,Δ6 b=↑o,ϗ4,#[_,yF,?_],ϗ5,oJ Å k1 a1 xs,ϗ6,oJ Å k2 a2 ys,ÎP,Builtin.«tuple.__mul__»,ÎQ,wpAny_binaryOp_repeat_ref,ÎR,(λ s'=>ϰ0 s' k t),eF,lA K C,ÎT,Qw/\eF/\Meth K C m f,ÎU,(ù (Ρ o "keep" ap) AA),ÎV,(BO i [J9] [ą x p] pos),ϗ7,List (Str×pC),ÎW,zD1 (by simpa [zeV] using h),ϗ9,(AB == ys.size),Ϙ0,(zc Vz ü),Ϙ1,(zc qX ü Ll),ÎX,(œ7 4 (retS (zl eV uC))),Ϙ3,(za (zr 9) ze),ÎY,by let#[_,o,ho,_]:=I.ok.lg.mem hb,Gh,∀(s':Α),0,Tt,∀{body:ϣ},0,ÎZ,by let#[mA,O,r,_,_,_]:=fQ Fs,Ïa,∀{sp:Sp}{dvs:Ŧ}{ds:zLV}{E:XK},0,Bw,_ X e t',QJ,_ zH.mo Qk,Ïb,_ é (λ x S1 z=>nU.mo hq z) h,yV,∀{to te:zy},0,Lf,_ X tg e,Ϙ5,∀{P:PySem.Fin->ŭ},0,PH,∀(j:Nat),0,Ϙ6,_ A s ĭ (Ò l'),Ϙ7,_ h3 (hq c Ex h4),Ů5,_ SB Z0 S' Z',Ïc,by ext Hc;let#[a,xs,rfl,_]:=r;rfl,Ϙ8,_ đ h' a xs' led,O_,∀{led:Bool},0,Ϙ9,_ 1 (rb (Hh+1)),Ïd,by exact#[Mz,x2.new hp,?_];ext FY,Ïe,_ F.slot_tuple_mul.lookup rB,Ou,_ ho ha Uz,Ů6,_ ž _ tk I h,Ïf,by exact âk;let#[j,hj,rfl]:=Ā8 ha;show h2 j FK,Ïg,[_,λ v z=>by rw[d1] at z;cases z],ϙ0,S0 a=none/\Z a,Ů7,reduceHash,Ů9,builtinsNs,ů1,λ _ _ x=>x,ů2,zI uI Y7,Ïi,uR [v,ov] (eval i Ö),Ïj,release áo [],ů3,#[m0,w0],Lx,pyIter,ů5,(Ł7 r Ă),Ïl,(hc gV s3 σ H3 _ I3 q3),ů6,Result->ŭ,ů8,oK.some_of,ż,x=õ,ů9,SeqAt.EqAt,BU,.of_wp,Ű0,Vals Kx us,Ïm,slot_list_getitem.lookup,Ű1,H p=↑ uc,Ű2,(Ű "len"),Ű4,λ _ e=>yS,Ű5,yy Å a Kx,Ű6,List (ÇD),Ű7,#[h1,h2],Ű8,newList [],Ïn,wpAny_comprehension_free,ű1,Paired.at',Ïo,zv Å ((Fj).map nZ) O7,ű2,ą "int" q,Ïp,.lists_lengths LZ z' hA,Ïq,by simp[vI,zdB,e'],M6,ks.map,ű3,Rd H a Hv,Ïr,GA cpos (Ϟ [e,f] Ö),Âa,e2.trans,Ïs,(FW (Âa e3) w q1),Ït,∀ d S',Kz->mi->Q N4,ű4,(qY y).map,Ak,rangeT,ű5,inR j=true,ű6,Array.getD,ű7,l5 M (MY),Ïu,List.length_erase_of_mem,Ïv,List.Pairwise.imp_of_mem,Ïw,zD1 #[rfl,rfl,rest'],Pl,es[i]?,Ïx,((Pl).map ĉ).getD 0,ű8,(N1).size,RO,ś5 p,ű9,Ie++RO,ϙ2,t1.tooFull,Ų1,setsByText,Ïy,Code.quiet_builtin _ rB,Ų2,beq_iff_eq,Ïz,Builtin.List.listSameRef,Ų3,Ŋ8.mpr rfl,QD,λ _=>Zi,ÏA,iW (Į9 K_ r hd) QD,àM,zv.cut g2 Ŵ,ÏB,Ζ Ŝ _ (àM),Ų4,ą "str" q,Ų5,k<=1000000,QE,x=Ì a,ÏC,(upd H l (Ñ (WI JH))),ϙ3,(mL te kD),Ų6,Fk K m UJ,ÏE,((Åb).set 3 ↑(.im v)),Ų7,x.cps.size,ÏF,(upd H l (Ñ (YJ JH))),ϙ4,S p=↑ bA,ÏG,(bZ).wN.env.scope=yp st,ų0,(za HC ze),ÏH,(jm (zl ŏ0 (za ģ Cq))),Te,rv.get,ÏI,by let#[u,hu,ru]:=Te hx;ext Nw,ϙ5,[_,by rcases Ş h with e | e],ÏJ,by let#[Nn,ho,hc,n,hd]:=id ht,OP,by rw[zA0,<- hl],ų2,∀{x qual:Str},0,ÏK,_ _ H1 ((B8).set i q1) B0,ÏL,_ K_ PyProof.Rows.boot_list,Iq,∀{Q:DK},0,á2,∀(R:Rk),0,ų3,∀(hc:pQ c tc),0,ÏM,by let#[d,d',rfl,h1,h2]:=ń0 r1,ÏN,by rw[<- zD2,hes',zA7,NU,hlen],Ž,_ đ h,ÏO,_ (Î9.or Ý6) qN.Ü6 qN.mo Qk,ÏQ,by rw[ŏ5] at e;let#[F,e1,rfl]:=E_,ϙ7,(by rw[e];show HQ),ų4,[_,by rw[e] at e';cases e'],RZ,by simp at e;subst e,X7,_ WK rfl,ÏR,by ext Ŋ;exact zgO X7 (zI N2 Y7),ÏS,[_,by intro v hv;rcases Ş hv with rfl | hv],T9,H b=↑u,GV,IsTup,Ts,List β,ϙ8,base.Ns HR mg,RM,X.outer,ϙ9,X.env.globals,yO,N.Nodup,ÏT,z.sameBut hs (gA y c e),ÏU,V->V->V->Hp->(rV)->Prop,ÏV,(sO [ą x pos'] e pos),Ϛ0,Gg->Z4,ÏW,Builtin.Range.rangeSize,Ϛ3,λ i j=>Ê Iz,OX,i.natAbs,Ϛ4,beq_iff_eq.mp,Og,_ f y fs,ÏX,(.ins C dx (nj Og)),ų5,(us++ds),ÏY,Ő2 F hr hb hd hx I1 r q,Ϛ5,Nat.le_succ _,Ϛ6,tupleItemsOf_,Ϛ7,subscriptTail,T7,ř8 GG H,Bb,d::ds,Ϛ9,Y[i]?=↑↑d,ϛ0,ď sV ÂX,Sz,zG X a t,HB,nP tA,TX,ma lo n,ϛ1,(x1.ĺ0 g1).sq,ÏZ,ϑ->s6.heap.get? b=↑o,ϛ2,wpAny_newList,Ða,PyProof.Rows.boot_tuple,Ðc,eqT ś8 (us.getD j .zx),ϛ4,ϡ+dep u<İ,ϛ5,.none_list Ez,ϛ6,.bool_bool À,ϛ7,.int_list JL,ϛ8,.str_list JL,ϛ9,.list_none Ez,Ϝ0,.list_int JL,Ϝ1,.list_str JL,NG,dd.mapOf,Ðd,by simpa [vo,h] using h1,UA,(è8 hr),RK,(SR e3),Ϝ2,∀ ts,e≠ ĺ,Ϝ3,h.er.im j t e,Ϝ5,(x.1,u.2-1),Ðe,Ζ Ŝ _ (g2.append g4),U5,below_at,M0,perturb,B4,(n+1),Ϝ6,yG M h (13+n),Ϝ7,(way M h q).j,Ϝ9,Lay M hs ċ m,SN,L.below,ϝ0,hashes.toList,NH,zB0.mpr,ϝ1,SetTable.fits,EU,l.map,Ðg,λ l hl=>hq À (h4 l hl),ϝ3,(·<=·),ϝ4,pairsOf (SD),Ðh,F.slot_int_index.lookup,Ði,Builtin.«tuple.index»,Nu,(ŧ JH),Ðj,Builtin.«list.extend»,ϝ5,(nL sp sE),Ðk,funext λ a=>o9 (λ z=>z),Ðl,Ψ1 ("self":Str)=↑ Lh,Ðm,decide_eq_false_iff_not,Ðn,λ k=>æ (k=y),ϝ6,(cS (Ì ",")),ϝ9,∀(zJ:xO Ů H' h'),0,ÒG,_ vl vu Ŵ sl Q I rx ŧ9,Ðp,_ v ÒG,ât,_ ÒG q,Ϟ1,_ z.cps.toList i,Ðq,[_,_ ⋯ (by rw[hj];exists ew)],Ϟ2,∀(hn:l.most=↑n),0,Ðr,_ qh âo [] s3 Z2 _ π8,Ϟ4,∀(lt:Gy) (p:GK),0,Ðs,_ ⋯ λ a b a1 a2 b1 b2=>?_,Ϟ5,_ (ů ty) jq,Ϟ6,∀(kvs:Ę3) (k:κ),0,R_,s.none,Ϟ7,_ a z (R_ q),Ϟ8,∀(h:T->î (fC)),0,Ðt,by unfold SetTable.relaid;rw[hw,zfV],Ðu,_ _ A (if Kv=true then _ else _),Ðv,by let#[es,ep,t,St,e]:=id hSO,Ðw,_ (Ó0 hr) mH.fits mH.mo Qk,ſ0,_ k it l i,Ðx,∀(hit:SI í ſ0) (hl:Ţ4),0,RT,_ l Ĵ n,Ϟ9,_ t RT dd sl,Ðy,by have:Ρ5=Œ*å:=#[];rw[this,zf8],Ðz,λ zs hz=>by rw[hz.inj I g1];show hx,ϟ2,by rw[e];rfl,ÐA,(if g=f then ↑u else mA g),ÐB,by simpa [ou,h] using h2,ϟ3,(by simp[e]),ÐC,λ l hl=>hq À (h2 l hl),ÐD,[_,by rcases I.ok.ah with e | ⟨e,hf⟩],ϟ4,by rw[zA7];show hl,ĳ,[_,by .cases e2],ÐF,by simpa [xp,e] using g1,ÐG,∃ t,u=Value.bytes b t,ÐH,∃ t,u=Value.float b t,ÐI,∀ x:Str,ψ7->mb x=Jc,ÐJ,λ z=>(hch _ z).2.1 rfl,ÐK,(zI uI λ c s1 z0=>?_),ÐL,(ϒ5).findIdx? ĉ=none,ÐM,∀ b∈fp,mR X gV H' b,ÐN,(.For tg iter body Ψ),ÐP,(∀ v,(x,v)∉binds),ÐQ,λ w hw=>h w (zc8 _ hw),ÐR,PySem.W.cellsFrom_some,ÐS,(List.take_sublist À),ÐT,λ b o e=>(e0.bs Ϙ).1,ÐU,subscriptTail_builtinR,Ov,Ê k,ÐV,λ y hy=>h y (zc8 _ hy),ÐW,λ r=>qT n r/\ml lt r n,ÐX,#[o,e,hc,n,hd],ÐY,by simp[ou,zdB,e],ÐZ,#[p,kvs,a,b,h],Ña,∀ U7 u9 ϧ,Θ1,Si,hashAt,Ñb,Et t Si h f (Vc),Ñc,zD1 #[rfl,rfl,ÆD],Δ3,hm.heap,Ñd,(D.keep Δ3 hU hS),Ñe,(zD1 (wpAny_throw ?_)),Ñf,Ζ Ŝ _ (zv.rep g2 _),Ñg,λ gV s σ H D I hu=>?_,Ñh,(ù (Ρ o m apos) AA),Ñi,wj st=s1::s2::s3::rest,Ñj,vg p (ũ8 zs.toArray),Ñk,(ŧ (·.2.1))[i]?=↑b,Hw,_ zi Ŷ,Ñl,(za (zc Hw ü) ze),Ñm,by ext Di;let#[xs,x,hq,hx]:=hg,Ñn,by let#[o,e,d]:=T.obj À st5 ţ,YK,∀{C:Addr},0,Ño,by let#[os,hos,hcs,hds]:=id hs,T_,∀(hi:Ãe),0,Ñp,_ é (λ _ _ q=>Gn À q) z,Ñq,[_,by intro x hx;rcases Ş hx with e | hx],TR,∀(is:A4),0,TN,∀(hf:ÇE),0,Ñr,by change yE i Ĕ _;ext KP;exact ÄU,ϟ6,by rw[T.live p1];ext ë,Zg,∀(ċ:ÃJ),0,Ñs,by have hmt:(sU).1.mask=Ā:=by rw[p2],Ñt,_ rfl hr sb (ze3 À) S' hx,Ñu,_ ξ4 λ h' tk xs S U k=>?_,Ñv,_ P w K (Qz es kk pos),Tc,∀(zZ:MZ),0,TV,∀{ks:Kh},0,Ñx,_ isSubtype_tuple_tuple ?_,Ñy,(λ b o hb q=>by rw[kf hb];show q),Ñz,[_,by cases e2;change Q ÅR S1;rw[h2.empty]],ÑA,by simpa [vo,e] using g2,ÑB,i<k->lt Zj (Sy)=true,ÑC,∀ a,Z0 a->S0 a≠none,ÑD,by simp[oQ,zdB,e],OL,∀{ċ:ÃJ},0,ÑE,by intro i s xs hk hi hst hS hT hU hR,ÑF,(show X.A.in1.handled=none from I_),ÑG,[_,by rename_i t h;cases e;ext Τ5;ext KP],ÑH,by simpa only [zp] using q,ÑI,by have hlt:(sU).1.led=led:=by rw[p2];show hled,ÑJ,[_,by rw[eqi j hj q,hr] at hrj;cases hrj],ÑK,by rw[o9 (λ z=>z.2 rfl)];show h2,ÑL,by have:lo=hi:=⋯;ext Ŗ;show#[h3,h4,h5],ÑM,ò (show b∈([]:Ε) from z) #[],LP,eqBool,rq,Ó r t,ÑN,X.s₀.heap.FunFrames,ÑO,λ j y v' e1 e2 e3=>?_,ÑP,wpAny_isTrue_Compare1,ϟ7,λ f s1 q=>?_,ÑQ,(zI h4 λ _ s5 z0=>?_),ϟ9,#[H,I,q],Ŵ4,nj f v fs,ÑR,ý8 HP m=↑↑ π,Ϡ0,Around.under,Ϡ1,Code.isFrame,Òz,_ ı P w H s Q,ÑS,ħ9 Òz u s',Ŵ5,hi.length,Ŵ6,ms.length,Q7,vs.zip,ÑT,((yf n n hi:Nat):Int),Ϡ2,seqIndex_neg,Ϡ3,yx xs i=↑v,Ϡ4,its'.toArray,Ϡ5,h'.objs.size,ÑU,K7+its2.toArray.size,ÑV,by rw[zA0,zA0];lia,Ϡ6,s₁.heap.Ns,Ϡ8,.FunctionDef,t8,names,ÑW,pick.length=N'.length,FC,zE4.mp,Ŵ8,kG Å a o,Jb,PT.imp,ÑX,#[_,_,_,r2,h],Ϡ9,yJ.mo hf u5,Ŵ9,Q (ϩ) S,vE,zC1.mp,tq,(m+1),ŵ1,((l+r)/2),O0,zd6.mp,ÑY,(λ b o e=>k b o id e),ÑZ,(ù (ą "len" p) AA),Òa,PyProof.Rows.boot_int,ŵ2,(sH HY),Òb,∃ a,d=õ/\S a=↑ ET,ϡ2,.none_bool _,ϡ3,.none_int À,ϡ4,.none_str À,ϡ5,.bool_none _,ϡ6,.bool_int Ú,ϡ7,.bool_str Ú,ϡ8,.int_none À,ϡ9,.int_bool Ú,Ϣ0,.int_int ņ,Ϣ1,.int_str ņ,Ϣ2,.str_none À,Ϣ3,.str_bool Ú,Ϣ4,.str_int ņ,Ϣ5,.str_str ņ,ŵ3,dep u<=60,ŵ4,(og true),Ϣ6,(kvs++[N3]),Òe,fun σ H Q hu p hp=>?_,My,Vw.tup,Òf,(ts.any λ t=>eqT t x),ŵ7,(f J).map,ŵ8,λ a z=>?_,Òg,Sn (yo S Ŝ1) A9 Đ,Ϣ7,λ i ts e=>?_,Ŷ0,(lo+hi)/2,Ϣ9,fu M JS UM,Òh,((ŧ6 j ↑0).isNone),Òi,List.getElem?_toArray,LB,hperm,Òj,(hperm.mem_iff.mp he),ϣ1,t1.fill=å+1,Mc,(ž6 w),Òk,by change 0*5<7*3;lia,ϣ2,pickOrder.go,ϣ3,zg3 (zgV ϸ),PN,Ç #[],Òl,Â ã (uK RC) à,Òm,(∀ r∈rows,r∈ Fj),Ŷ2,(PM).size,ϣ4,pairsOf_size,ϣ5,(oW ts).bind,Òn,Obj.isFreed_of_fields,ϣ7,λ v H' q=>?_,Òo,((Ē:zAV)++Β).toList,Ŷ3,ϻ us ms,Òp,PyProof.Rows.boot_str,Òq,F.slot_enumerate_next,ϣ8,é7 K mg x st,Òr,#[a,r,Ä (Ä x1)],ϣ9,(nK f sE),Ϥ0,Lc<=1000000,Ŷ4,jM d S ns,Ϥ3,nN Ž ks vs,Ϥ4,(u7).byValue,Ŷ5,eqIsQuiet,Òs,Builtin.Dict.showsAll,Òt,wpAny_isOneOf_keyiter,Òu,#[?_,ys,k1,⋯],Òv,(zV (zc ŭ7 Ll ũ)),Òw,(zV (zc Hb Ŷ Ϻ)),Òx,(zV (zc Hb JV Ϻ)),Pc,∀{κ:Type},0,UC,∀{M:Model},0,Oo,_ hN hi hx,qb,∀(Q:Ux),0,Ao,∀(t:TA),0,Ϥ5,_ [a] pos,Ŷ6,∀(ho:PE LV),0,Ŷ7,∀{tg e:Expr},0,R1,_ P w K tg,Òy,_ (prog:=Y6) (w:=X.w),Ϥ6,_ i (j-i).toNat,Ϥ7,_ i j t t' s À,Ϥ8,_ X (Iu .Mult),xw,∀(f:Str),0,Ŷ8,∀{ds es:Ã4},0,rN,∀(t:xn),0,PX,_ x y S Q,ϥ0,_ _ H (hg À H),ϥ1,_ ds S1 À hq z,ϥ2,_ (wY K tA) Ś,ϥ3,_ X st (Ļ7 Gi),Lz,∀(sp:pC),0,ÒB,_ I.vf #[o,h1,h2] Κ7,Ŷ9,∀(T:Bt X.mg),0,ϥ4,_ (x:=a) (e:=a),mU,_ td ty,M1,_ td ty tv,ϥ5,_ (k:=B1 k) g1,ÒC,by ext ħ;exact ÃZ;exact ď Ϫ Äs,J5,∀(F:zLO),0,ÒD,_ S' (UY s) (U9 s1 r),ŷ0,∀(h:nM g tA),0,ϥ6,_ pick it g c f,ϥ7,∀(k j:Key) (d:T),0,ÒE,[_,by rename_i c;rcases Ş hp with e | e],ŷ1,∀(hr:lV QO),0,Fw,∀(t:E9),0,AH,∀{M:Nat},0,IQ,∀{ks:á},0,ÒF,_ D ?_ (Kf) hn nF 0 âj,ϥ8,∀{pos p pos':Pos},0,yQ,∀(t:î zy),0,OW,_ Rf Xn,ÒH,(by rw[hk];show#[_,I',q]),ϥ9,its[j]?=↑v,ÒI,X.mg "enumerate"=none,ED,∀{tc:xn},0,áU,[_,by rw[zd0] at r;cases r;show Ð],ÒJ,by ext áU,Ϧ0,(none,GJ),ŷ4,(oV true),Tr,h3.len,ÒK,by rw[Tr,g4.len];show hl,ÒL,by have:l=r:=⋯;ext Ŗ;show#[h2,ha,hb],ÒM,by subst z;rw[r] at mu;show mu,ÒN,λ i x v e1 e2 e3=>?_,ÒO,Inv (X.kc E) gV Û s,ÒP,d.params.defaults=[],ÒQ,mg d.name=↑(Ò fa),ÒR,ÂO=↑ ϥ\/ ÂO=↑ Ϧ,ÒS,Ě ([]:zLV).toArray,ÒT,(ī5 pick wi g tc te),ÒU,esc.names.lookup y.1,ÒV,GW o "append" JC=ϳ,Η5,_ A s a b,ÒW,J3 Η5 (i_),ÒX,List.getElem_toArray,ÒY,λ c S' s r=>hq c ÅC,W7,J[j]?,ÒZ,W7=↑↑(Ř us),Óa,h.dj j k ts us p ώ3,Ób,List.mem_erase_of_ne,Ód,Q r { s with heap:=h' },Óe,vg l its\/OS l its,RH,_ #[] ?_,Óf,zg3 (zgM Dd RH),Óg,(zgN Ρ0 Oy ψ9 ?_),Ói,(h _ ø Ę8 (sz its)),Ój,GW o "extend" JC=ϳ,Ók,(Ì (Txt.join a ss)),Óm,(BG Hl (mV (fk _))),Ón,λ z=>e (h.1.trans z),Óo,[none,none,↑1],Óp,(zl bK (za CR BP)),Óq,["thing","bounds"],Ór,["floor","number"],ŷ5,by by_cases hb:b=a,Ós,_ û (Tf e Ö (FV)),Ót,by let#[y,H2,I2,r2,q2]:=z0,Óu,by let#[y,H1,I1,r1,q1]:=z0,Óv,[_,by ext uJ;let#[rfl,q]:=h;cases ry],Óx,∀(h:y_ X p t) (h':y_ X q u),0,Óy,∀{g:wR}(h:yC te) (h':Ŗ1 g),0,ŷ6,by unfold oG;ext ë,ÓA,by let#[its,w1,pl,_]:=S_ g1,ÓB,by let#[its,w1,pt,_]:=ξ g1,Oe,by rw[zA6,zA6],ÓC,_ dd λ h' dd' hs=>h _ ?_,ŷ7,by simp![zj] at q2,ÁA,pQ fb tb,ÓD,∀(h:ÁA) (h':pQ gb ub),0,ÓE,_ Ap É0 o E (GX) e2 P,ÓF,_ (by simp at hi;lia) ⋯,OE,by have:IU:=rfl,ÓG,∀(z TI TO i1 i2 l1 l2:Addr),0,ÓH,_ z d e Q hz hx hy ef hq,ÓI,_ e3 (λ b u hb hu z=>?_),ÓJ,∀{s1 s2 s3:Stmt}{rest:ϣ},0,ÓK,by rw[h2.len,h4.len];show h,ÓL,[none,↑0,↑2],Ϧ1,by injection e with e1 _,ŷ8,by ext DQ;subst h1,ÓM,by rw[hf];simp![zB2,zeP,uz],ŷ9,by ext ë;rw[e];show h,ÓN,by ext âd;simp![Sn] at k2;subst k2,ÓO,by rw[o9 (hn p zc7)];show h3,ÓP,_ (by rw[I.ok.glob];show Èz) hm,UT,[_,by cases e2;show FE],LS,hfull,ÓQ,by rw[hl1,hmt];show LS,Ϧ2,(B1 a:Key),Ϧ3,(KO a:Key),ÓR,[_,zg7 (λ q=>nomatch q)],Ϧ4,Vals.append,Qp,(Ř a),Ϧ5,h.Ns1 dx mA,Ϧ6,(upd H x o),Ϧ8,List (î V),Ÿ0,vQ Qo,ϧ0,I.vf a o hk,ÓS,St->Hp->(DB)->Prop,ÓT,(intBits_le_64 ϙ),Mg,I.write,ÓU,(us++ds).length=Ab,ϧ4,vs[i]?=↑v,ÓV,λ b z=>ò z (noA b),ϧ5,(wu Æu BV),ÓW,#[[Ο,GS],[]],ÓX,λ(m:Nat)=>xs[ÆA]?,ϧ6,seqIndex_of,ϧ7,Vals ys its,ϧ8,PySem.Calls,ÓY,Ã #[zc8 _ q1,q2],ϧ9,Ζ e ds h3,ÓZ,S b=↑o->S' b=↑o,Ϩ0,(ups S p o),ÀD,H a=↑u,Ôa,ÀD->H' a=↑u,Ôb,λ _ _ _ _ hq h=>ō,Ôc,#[k,a,z H' b c],Ϩ1,(hb Ō hq),OY,(hq À),Ôd,∀ p,Iv->Q Đ ϊ6,Ϩ2,(ir tc t u),Ϩ3,yu X.K H' S,Nv,KG->ŭ,Ϩ4,mg x=↑ π,Ôf,(BO a [.NotEq] Ew),Ϩ5,Paired.snoc,Ôg,upd H a (.dK (Ŝ6)),Ôh,(sO [II] Ϩ pos),Ϩ6,#[rfl,h2],Ôi,some ↑(Ř (rL)),Ôj,(∀ S',Kz->Q y S'),Ÿ2,(oA s2),Ϩ9,(l.set i a),ϩ1,(lD pick J),ϩ2,s3.trans s4,ϩ3,ys[i]?=↑y,Ôk,by simp![zd0,zp],Rx,zU ps q,ϩ4,ps.Pairwise,Ôl,by simpa [oB] using hg,Ôm,zu Çk (qP yj Dj),ϩ5,FD ķ x Μ7,Oq,(· < ·),ϩ6,hs[i]?=↑g,ϩ8,(hZ Ld).mp,Ϫ1,zg4 _ (Qd),Ϫ2,left.length,AX,_ ī ep,Ôp,(jQ a slot i AX),Ôq,(EJ (·.push Fm)),Ôr,(∀ q∈ps,q∈ B5),Ôs,Q ĭ (upd H l Xe),Ϫ4,EL=ŧ (WD),Ôu,ni (λ i j=>ŝ4) EN,Ôv,(BO a [.IsNot] Ew),VU,Builtin,Ϫ6,(mM ts Ŵ),Ôw,R (.ok (ύ ÈS)) s,Ϫ8,j<=16777216,Ϫ9,oJ Å k ϯ,Ôx,[a,b,c,d,e],Ôy,GW o "index" JC=ϳ,Wd,yg ≠0,VG,Lc<=Ý,Ôz,[Ì a,Ì b,Ov],ϫ1,EA y=↑sp,ϫ2,nQ K9 ks a,ϫ3,oQ l k=↑n,ϫ4,(zc Bz ü),ÔC,(zV (zc wg Ŷ Ċ)),ÔD,(zV (zc wg Ģ Ag)),ϫ6,(zl eU BP),ÔE,["floor","place"],ϫ7,(zl ka BP),ϫ8,(za Ll ze),AZ,_ ÃF a,ÔF,by let#[o,es,ep,ho,r]:=hm,Ÿ3,_ X body tb,Ϭ1,∀(hi:PI ψ1 wi),0,UP,_ x y H2,ÔG,_ gV s4 σ H4 y z' u w',ÔH,by rw[Ô ()];exact zg3 (ù6 ŧ9 ?_),ÔI,by have e':b=a:=hA b (ω4);subst e',Ϭ2,_ X e (zT Gi),Ϭ3,_ X e (pU Gi),ÔK,by let#[x3,p3,d3]:=yl x H3 hy,ÔL,_ K_ PySem.boot_len A7,ÔM,by ext Hf;let#[ds,rfl,h2]:=h,Ϭ5,∀(g:l9 H a y o),0,Ϭ7,_ LH te Y S _,ÔN,by let#[d,m,rfl,h1,h2]:=h,ÔO,by let#[e,m,rfl,h1,h2]:=h,ÔP,_ p (h3.none hp) L9 Ŝ,Ÿ6,_ hit hl hx,ÔQ,_ #[[v],[]] [(p,v)],Ÿ7,_ a b 0 Lc,ÔR,by let#[_,rfl,t,rfl]:=r.one,ÔS,∀{y:Str}{j1:Nat}{p1:Pos},0,ϭ0,_ ["things"] 1,ÔU,[_,by .subst ha;rw[mT] at h;cases h;show hn],ÔV,yZ->SS->(tZ)->Prop,ÔW,∃ u,mg x=↑u/\ϓ7,ϭ1,(.im (rL)),ϭ2,some ↑ ÇJ,ÔY,by have e:=Az;simp![zD2] at e;lia,ÔZ,by have hpH:IT:=by rw[yv hpl] at hp;show hp,ϭ3,ϵ Ï->Prop,Õa,[_,by cases b <;> simp[tf,e1,e2]],Õb,by rw[zA6] at h;simp![zp,Sn] at h,Õc,by rw[yv (lH q hp)];show q,Õd,by exact hv ň z _ Çl;have F1:=GX,Õe,by simp![zA5,zd3,Td,CZ],Õf,by simp![eqT];show cO ts,Õg,by have:=IV;simpa [ũ8] using this,HZ,by rintro rfl,Õh,by have:x≠n:=by ext HZ;show h v zc7,Õi,_ ht ŧ9 (by rw[hlen];show hw),Ÿ9,by .subst q;show key,ϭ4,(show Ép from x),Ź0,Ï->Prop,Ź1,(xs++ys),Ź2,H a=↑o,Ź3,b∉X.fs,P0,zA8 ho,Qe,mF Qx,Õk,Array.append_assoc,Ź6,Q GJ s',U0,Ŧ->rV,Õl,(.Return ↑e pos),Õm,(.While c body Ψ),Õo,turn i n Z2 w3,Ź9,Ê (i+j),SO,y4 k A,Õp,by have:=r.dp;lia,Õq,SeqAt.EqAt.int_int,Õr,zE0 (Ì0 xs Ŵ) hz,Õs,Option.isSome_some,Õt,(zdF (hlt ţ) hC),ϭ5,(.dK vs),ź4,Ã4->Au,ź5,E.nx Y S,ź6,(ň7 n t),ź7,failedOf,Õu,(vK "list" Ē e1),Õv,(∀ b o,¬ Þ->ν5),Õw,zj Å (nZ q.2) q.1,O6,.zL À,ź9,zp S Åi,Ż0,qO ts us,Ż1,Sn S u e,M8,ou A3,Ż2,o.isSome,Ż3,ItemsAre,Õx,wpAny_getItem_heap,Õy,wpAny_setItem_heap,Ż5,p3 À c1,Ż6,yo S Z a,Ż7,λ _ h=>h,NZ,(oA s),Ż8,(ŋ8 S Z),Õz,#[?_,λ us e=>?_],ÕA,∀ i j,SX (C i j),Nh,ds=[d],ÕB,ϫ i ↑(.im A9),ÕC,h.fr j us q e' ed',ÕD,hq qA (ġ3 À) dm,ż0,zc8 _ h1,ÕE,Nat.eq_zero_or_pos,ż1,Nat->Nat,ÕF,.set es' (ep+1) t',ż3,xs1.Perm,ż4,(å+1)*5,ÕG,codeAny_of_tree ?_,ÕH,#[j,ze2 h1,h2],Ss,Υ7<64,ż5,(n,tk),V8,(Ê n),ÕI,Â ã (uK Pr) à,ÕJ,(Ĩ O3).objs.size,ÕK,(λ a b=>T.tup Kk),ÕL,(ſ Œ ds).flatten,ż6,Ϟ [] Ö,ÕM,F.slot_tuple_index,ÕN,Xf (μ3 (ξ2 ?_)),ÕO,(Eh m qual Qn ct),ż9,è0 a b k,Ž0,[e,e2],ÕQ,(zc AL (jH ü)),Ul,(zC 2),ÕR,(cS (Ì "stall ")),QU,(cI 4),Ž1,(xi Κ6),OM,(zC 4),ÕS,(cS (Ì "number")),Ž4,∀(ta tb:TE),0,ÕU,by ext Di;let#[xs,hq,hx]:=hg,ÕV,_ X tg (ù Él [a] Ψ),ÕW,_ X tg (ù Él Kk Ψ),ÕX,by let#[u,hr,h4]:=z0;subst hr,ÕY,_ (Hj).kindOf Υ5 Fh,ÕZ,_ ş { s with heap:=h' },LC,∀{t:zy},0,Iw,∀{f:xC},0,Öa,by ext ħ;exact Dy Jt GI Åa,Öb,∀{d e:D}{x y:V}{a b:Ï},0,Öc,by let#[x1,f1,r1]:=h2.get e1,Öd,by let#[v1,g1,q1]:=h3.get f1,Öe,∀{p:κ × V}{r:Ę3}{k:κ},0,ϭ7,by simp![zj] at q2 q3,Öf,by let#[d,h1,h2]:=h.im i t e,G0,∀(g:Τ),0,Ž5,∀(h:i3 g u),0,Ž6,∀(h:nM g u),0,Ög,_ À ?_ Ŝ (h3.new hp),Ž7,∀(h:Q Á s),0,Öh,by intro gV s σ H xs us0 Q I r h,Öi,∀{ta:TA}{p pos pos':Pos},0,Öj,by let#[x,hx',rx]:=m2.get hx,Ök,_ (u:=↑(j,uj)) ϒ2,Öm,_ (λ x1 x2=>x1++x2) Ē,Ön,by let#[xs',g3,g4]:=p2 À b1,Öo,_ σ' _ (r1.ext e3) e3,r0,∀{l:NL},0,ϭ8,(show Êh from x),Öp,by have:=r.un;lia,Öq,(vK "list" out e),Ör,(yJ (mj true) Ă),Ös,(fU jB).objs.size,Öt,(ſ Œ ts).flatten,Öu,X.mg "sorted"=none,Ž8,∀(ta tb:zy),0,Ž9,∀{ts us:Ĉ},0,Öw,zA8 (show Gr=↑_ from x),ž0,Q true s,Öx,(ř3 jB).objs.size,Öy,_ qual none Ġ ↑env,ž1,∀(to te:zy),0,Öz,zB7 (by rw[zD3];show p1),ÖA,(yJ (qN true) Ă),Ϯ0,[_,by cases h1;show (p_ h3).1],ÖB,(by rw[<- z];show zE1 _),Ϯ1,(ÃP C dx),LF,there,Ϯ2,ϝ b=↑o',Ϯ4,ÅE x=↑c,ÖC,s.heap.IsCell c v,Ϯ6,∀ b u,ÅM,ÖD,Inv X gV υ1 H s',ÖE,λ c H1=>Q (!c) H1,Ϯ8,[_,by exists hs],ÖF,#[σ,H,I,h],ÖG,wpAny_assign_Name,Ϯ9,wpAny_load,ϯ0,boot_range,ϵ0,_ Å p xs,ϯ2,yy ϵ0,ÖH,Χ7 K C name=true,LJ,Ô hk,IE,Ç hk,ÖI,ý8 HP f=↑none,Gu,(rE),ϯ4,eval e env,ϯ5,wpAny_call,ϯ6,ŉ sd::us,ÖJ,sc.isCoroutine=Á,ÖK,sc.isGenerator=Á,ÖL,N.take P.length=P,BM,bindL,Th,bindC,ÖM,wu Æu f cd Rz E,NR,Meets,ϯ7,ms'.length,ÖN,Ě (Ãi).toArray,ÖO,wpAny_sequenceKey,ϯ9,Subscript_,R5,y=GS,ÖP,(by rw[zA0] <;> lia),ϰ1,(K fe).In,AW,Gq q,ÖQ,decide_eq_true_eq,ϰ2,λ v hv=>?_,ϰ4,λ _ _ h=>h,ϰ5,zj ώ d v,ϰ7,(rZ)->Çd,ÖR,(yJ (zH υ2) Ă),ÖS,(yJ (fI Ξ8) Ă),ÖT,(yJ (fI ν6) Ă),ÖU,(yJ (fI Τ6) Ă),ÖV,(yJ (fI Λ6) Ă),ÖW,(yJ (zH Ν7) Ă),ÖX,(BO a [.LtE] Ew),ÖY,(BO a [.GtE] Ew),ϰ9,yB X es tA,ÖZ,h1.2 _ u6 .range,ϱ0,#[xs,g1],Øa,(Ζ x1 ds g2).at,Øb,Array.Perm.refl _,Øc,(.done (ύ Ġ)),ϱ2,sortedHeap,ϱ3,zgX ņ hb,ϱ4,k1 b o n q,ϱ5,ò rfl hne,tK,(FN),Ød,PySem.W.kitMeta T,LX,.dn _,AR,dep t,ϱ6,zp S us es,ϱ7,us.toArray,Øe,.lists LZ z hA q,ϱ8,Rd H a Tn,ϱ9,rel.length,ϲ0,ts.isEmpty,ϲ1,(k,t)::r,ϲ2,qY y=↑ts,Kq,listS,ϲ5,Ev->î Out,ϲ6,(ŉ5 va u),ϲ7,(v J).bind,ϲ8,is.map HY,Øf,List.find?_isSome,qj,p::ps,HE,xs[i],Øg,∃ e,e<=M/\e∉xs,Øh,by rw[zB8 hlt,w],Øi,ofAClassStatement,Øj,searchCouldBeSeen,Øk,iG yP í es t xs,Xt,still,Øl,List.Pairwise.map,Øm,(! UG&&æ (ī>1)),Øn,F.plain_list_iadd,ϳ3,λ o e=>Qd,Øp,λ d1 S1 s1 r1=>?_,ϳ4,isInstance,ϳ5,k b o hc e,Ør,(ſ n ds).flatten,Øs,Array.size_append,ϳ7,yy ė p Kx,Øt,wpAny_pyIter_enum,ϳ8,(iu to te),Øu,#[a,r1,r2.sq],Øv,#[[],rfl,rfl],ϳ9,λ l hf=>?_,ϴ0,(ä (vR)),ϴ1,(ú9 ho hb),ϴ3,(dC (aq)),Øw,(ϋ4).set 2 ↑d1,Øx,FD ķ d kk ps va,Øy,F.slot_tuple_hash,Øz,eqIsQuiet_byValue,ØA,wpAny_dictEntries,ØB,(EU λ q=>f9 q.1),ϴ5,(vk 1 Dp),ϴ6,(vk 4 Dp),ϴ7,(retS IJ),ØE,_ P w (upd H x o') h',Yv,_ fs ex H,ØF,_ b o (ω5).1 (ω5).2,ØG,by ext âi;exact#[u',r',?_],Yx,∀(D:Ends),0,Sg,∀(te:TE),0,ØH,by intro gV s σ H vs us Q I r h,X6,_ [it] it,ØI,by let#[its,rv,p,hz]:=Ow,Wk,∀{a:Expr},0,ØJ,_ _ s6 σ6 H6 _ I6 q6,ØK,by let#[σ6,H6,I6,q6]:=z0,ØL,_ Ι8 (Ŏ0 sp dvs E t),HL,∀(d:D),0,VH,∀(kvs:Rn),0,ØM,_ (zT K ta) (zT K tb),ØN,_ xs ds H1 S1 Q q1 p1,ž2,[_,by cases e;ext âc],ϵ2,∀{t:wR}{u:oH},0,ħ0,∀{tb:xl},0,TH,∀{m:Nat},0,YZ,_ vs rows,Md,∀{to:zy},0,XX,_ ϋ Ν,YN,∀{o:î V},0,gZ,∀{ks:AG},0,Pd,∀(h:Kz),0,DC,_ fa fb,ϵ3,∀(h':zS R g u),0,AP,∀[Lo R],0,ØP,by have h1:=O0 h;unfold xT;split,ØQ,_ p (RS hpH) L9 ϋ1,O9,∀{t:Tok},0,ØR,_ ho ho' HV hc.pe hm,ØS,_ ex (λ c o hc q=>?_),ØT,by let#[it1,_,q1]:=g1.of I1,âp,_ OZ OZ,ØU,_ (xs:=Ē) (n:=0) new,Xz,∀(us:A6),0,Q9,∀(ss:þ),0,ØV,_ (xs:=Ĳ) (n:=n) hl,ØW,_ F ώ8 ha hg hdb Ip,W5,∀{zZ:MZ},0,ØX,_ (k:=KO y) (cu y t),pD,∀(hs:ο7),0,U4,T.len,ØZ,by rw[<- U4];show b1,ϵ6,[_,by exists hk],Ùa,æ (Dt x=↑ ϥ),ϵ7,Χ8 x=↑c,Ùb,(.empty ŝ7 none),Ùc,(ŉ a == ŉ b)=true,Ùd,by let#[its,rv,p,hz]:=Ly,ž4,[_,by ext âe;cases q],ϵ8,∀(td ty tv:zy),0,RA,∀(s:Kz),0,Ùe,by have:=Çh;simp![zD2] at this,Ùf,by let#[its,rv,q1]:=g1.of I,Ùg,by ext Xq;unfold ig at e2;ext Ő,Ùh,(by rw[<- VN];show hz),ϵ9,[_,by exists he],Ùi,(show Iy+1+4<İ by lia),Ùj,by let#[_,_,_,q]:=hs;show Ah q,Ùk,by .ext A5;rw[Ô h] at e;show cH e,Ùl,by rw[r1.len];show hl,Ùm,(Ëe π (Ò y)),Ùn,k b u (hb b n) q,Ùp,(λ _ _ _ _ n=>n),Ùq,(.IfExp c a JQ),Ùr,(sO [tg] e pos),Ùs,∀ v,EZ ≠ ϥ v,Ùt,(Q3)/\W i m χ,Ùu,(İ1 r r' Ă tc),Ùv,∃ u,us=[u]/\Kl,Ùw,PySem.W.handedIn,Ùy,zE0 I.ok.iw I.sz,Ùz,(vs++ws).toArray,ÙA,#[ho,ho2,?_],ÙB,pl.isList.typeIs,ÙD,Option.isSome_or,ÙE,h₁.get? b=↑o,ÙF,#[o,e.oE Ú h],ÙG,R #[ds,H_] S1,ÙH,Array.Perm.trans,ÙI,#[hp,⋯,a3],ÙJ,(Fq st).size=ŀ,ÙK,List.map_snd_zip,ÙL,X.mg "list"=none,ÙM,#[rfl,xs,g1],ÙN,.tuples LZ hA q,ÙO,(BO a [.Eq] Ew),ÙP,(yJ (og Á) Ă),ÙQ,(BO a [J9] Ew),ÙR,wpAny_getItem_of,ÙS,wpAny_Dict_empty,ÙT,h.fr j ts p e e',ÙU,List.drop_length,ÙV,(nI λ a z=>Ä z),ÙX,Array.toList_map,ÙY,(Ä #[hm,rfl]),ÙZ,List.perm_middle,Úa,(Ã #[hm,LB]),Úb,(ŧ λ e=>↑e.1),Úc,(Kv=Á->FJ=ώ7),Úd,(L4.VR.of hv hr),Úe,ns'.Pairwise ϝ3,Úf,(BO a [.Lt] Ew),Úg,(BO a [.Is] Ew),Úh,(yJ (qN Á) Ă),Úi,(ù7 K LZ a1 a2),Új,wpAny_pyIter_zip,Úk,PySem.seqSlot_of,Úl,Gl X "enumerate",Úm,(Ű "str.split"),Ún,JoinOk a ss=true,Úo,Gs (DT) ie pos',Úq,(BO a [.In] Ew),Úr,h.1.symm.trans e,Ús,∃ p ep,BA/\ϙ4,Út,F.slot_dict_iter,Úu,s.heap.IsKeyIter,Úy,[_,by exact âl;rcases hc with z | z],Úz,by intro gV s σ H x v Q I rx h,ÚA,_ ⋯ #[H,rE,q],ÚB,_ Ax (P.zip vs) m x,ÚC,by simp at h1 h2;subst h1;subst h2,ÚD,_ AU 0 qL,ÚE,_ AU 0 qL JU (Ω2),ÚF,by let#[xs,e1,r2]:=p a _ e,ÚH,by simp![PY,zC9,ZF] at h,ÚI,∀{tl:TE}(hl:PE X l tl),0,ÚJ,by let#[y,hy,_]:=g2.get hd,PB,_ Å S s,ÚK,by let#[ds,rfl,h2]:=My r1,ÚL,by let#[es,h2,h3]:=MB rfl,ÚM,by rw[oX n1] at e3;rw[oX n2] at e4,ÚN,∀(hg:KS) (hh:yq R h u),0,ÚO,_ Z Y1 J1 J' ys cs Q,ÚP,_ hl1 (zg3 (ψ8 ?_)),ÚQ,_ S1.get rfl S1.fits,ÚR,_ TI (Ò i1) (Ò i2),ÚS,_ (VR.of rv hr) hl q,ÚV,_ "keep" "Desk.keep",Nz,_ VI y6,ÚW,_ (xt wI Sf) (zC 7),ÚZ,by rw[<- AO];show hl,Ûa,(ŉ d == Fm)=true,Ûb,by ext Lq;exact zI (hl El) Y7,Ûd,[_,by rcases zd5 i (Yw) with q | q],Ûe,show sS=ő from r1.len,Ûf,(by rw[hl1];show g3),Ûg,by rw[hacc.1];show q,Ûh,(by rw[zd1];show q2),Ûi,_ st (show OS a Ĵ from p),Ûj,(by rw[l];show Ŧ0),YC,pyHash,Ϸ4,by simp at e,Du,(Vi),Ûk,Ņ F l₁ l₂,ſ2,k b u q,X5,b∉ex,ſ4,Un.kept,Ϸ5,σ.length,YM,b∉ch,Am,I.len,Ûl,Hp->(Ux)->Prop,Ûm,(EW Lk j pos),Ûn,(EW Ġ j pos),Ûo,(EW GN j pos),Y9,c=true,Ûp,#[H1,I1,q1],fX,(Ä h),Ϸ6,yy ė ϯ,Ϸ7,h.ok I.zJ,Vn,(ŀ3 i),Ϸ8,(uK qL),Ua,It->rV,Ku,[AM],wK,V->W3,Ûq,yH X (Iu op) r,ſ7,(0:Int),ſ8,(pb Ů),Vg,(Ä e),Α0,A.depth,Lv,(Ji),ϸ0,PA X es t,ϸ1,gT ķ Rz,Α1,zdS NM,Α2,Dt y.1,Ûr,PE Ι8 (ż7 r t),tw,y::ys,Ûs,Ge Ÿ1 "slice",ϸ2,(zD1 Κ8),Α3,î Expr,ϸ3,ϻ us ns,ϸ4,r1.length,Α4,ν<=Ý,Α5,PySem.W,Ûu,(sH WData.int),Ûv,pre_splitW hpre,ϸ7,pushCells,Ûw,λ a ha b hb=>?_,Ûx,#[j,rfl,?_],Wz,c1 Qo,Ûy,(Gf).2.2.2.2.1,ϸ9,hstat ţ,Ϲ0,Ext H1 H2,Ûz,#[x,rfl,h2],Ϲ1,zj Å e y,ÛA,fun σ H Q h=>?_,Β1,Jw<=Ý,Β2,Q ÅR S,Ϲ2,(vj f tA),Β3,some ds,Ϲ3,(zT K te),Ϲ4,(qP te g),Ϲ6,bs.length,ÛB,scope.names.all,Β5,KasT α,Ϲ7,ml lt p k,Β6,m-(q+1),Ϲ8,kK lt p m,G_,r.2.1,Ϲ9,Δ4 hp 0 m,ÛC,Le lt (Sy) Zj,ÛD,vs.toArray.size,ÛE,(Fq st).map Ł,ÛF,(call ş3 [õ]),Ϻ0,(ŗ7 rows),Ϻ1,qs.length,ÛG,X.mg "len"=none,Ϻ2,Classical,Ϻ3,vs.any UK,ÛH,#[h1,h2,h3],Zl,HK<Ý,Β9,(Ķ2 ry),Ϻ4,#[q,hq],Ln,y=Ov,Γ2,h À q2,Ϻ6,zp ϟ Åi,Ϻ7,(p_ h3).2,Ϻ8,(p_ h2).2,Ϻ9,BG Hl Ĕ8,ÛI,yc (ğ7 Ãh) Ej,Uo,h1.int,XN,Η e',Ht,s1 Jr,ϻ1,rs.map zN,Ft,ģ8.mp,ÛJ,(xp A3).isSome,Γ7,xT ps l,Γ8,zd6.mpr,ϻ2,λ bs=>ť6,uU,Probe,Γ9,ϊ9-JS,YO,UM/32,Δ0,(MY).j,Δ1,(q'-kn),ÛL,Array.replicate,ϻ3,(Pf)[i]?,Vf,hpast',ϻ4,(Ãg).map,ÛO,F.plain_set_new,ÛP,U.all j r q hrj,ϻ5,pickOrder,ÛQ,F.slot_set_iter,ÛR,wpAny_updateSeq,ÛS,(Q7 rs).length,ÛT,by rw[zeU];lia,ÛU,[Ga l]=[Ò l'],ϻ7,(Ê n tk),ÛV,Ñ (ts.set j z),ÛW,PD BE (dC eg),ÛX,PD BE (dC V8),ϻ8,ů (ă6 k),ϻ9,u _ (ÈC),ÛY,#[_,q1,ό3],Üa,(ą "sorted" p),Üb,ns.Pairwise ϝ3,Üc,(ϓ6).objs.size,Üd,#[_,he,rfl],Üe,[a,b,c,d],Àa,V7 X G a,Àb,fD d S ss,Üf,ŝ1 x (ÈD) tY,Àd,vs=[Ì b],Àe,(uX::xs),fV,ny.imp,Üg,(I'.zJ q _ hqq),Üh,ł4 g4 (x:=Ã x),Àf,Ţ BV hr,Àg,ks.length,Üi,(ą "floor" p5),Ül,ŝ1 x (Æk) tY,Ε1,xp zZ y,Üm,(ù dv Hi qB),Ün,Int.le_antisymm,Ài,hx.inj hy,Àj,ϡ+4<İ,Üo,F.slot_tuple_eq,Wx,(vO n),Üp,(.dN ep' (ς1)),Üq,wpAny_dictEpoch,Ür,∃ xs,Je/\å=n,Üs,EU λ q=>lG q.1,Ε3,(cI 64),Üt,(za (cI 14) ze),V0,(zb 9),Xw,(zb 8),Üu,[4,5,6,7],Üv,(xi (zl ŏ9 sY)),rH,∀{o:HO},0,Ee,∀(v:V),0,Üy,(by rw[z];show hb),Üz,X.mg "max"=none,Àl,Ã4->Prop,ÜA,some ↑(.im t),ÜB,by rw[h2];simp,ÜC,ω0 K cd x=true,Àm,["floor"],ÜD,∀{l₁:A6}{l₂:Ts},0,ÜE,by let#[v,o,ho,hd]:=Ÿ0,qg,∀(t:TE),0,Àn,_ vV D I1 q1,ÜF,by intro gV s σ H v u Q I r h,GB,_ q1 q2,Ào,_ û (f v u),Ε5,∀{i j:Int},0,Àp,_ X (ϒ .Lt),ÜG,[_,by subst e;cases r3;exact zgD ?_],ÜH,∀{a C dx:Addr}{fs:HD},0,GR,_ Τ2 A,tW,∀(N:þ),0,Ε7,∀(its:zLV),0,Ε9,∀(hfp:Q_),0,â5,∀{o:O},0,Ki,∀(t:zy),0,Ζ0,∀(Q Q':DK),0,ÜJ,by ext Vq;unfold yE at h;ext ç,Àq,_ h.ps h'.ps,ÜK,by let#[i,hi,rfl]:=rA hb,vJ,_ n lt,ÜL,∀(h2:2<=ŀ) (pz:ŀ<64),0,JE,∀(h:ŝ),0,ÜM,_ (t':=ø) (ώ6) ľ,rK,∀(Z:IM),0,Ζ3,∀(f g:zEO),0,Tz,∀(c:ϐ),0,Aw,_ ys ds,ÜN,_ (za f g) (mL t u),ÜO,by let#[cs,h1,rfl]:=ų h,ÜP,_ (xg g h) (Ł3 t u),Àr,_ Ŝ i hp mT,Às,∀(hv:qU v tv),0,ÜQ,by have LB:(Ãg).Perm xs:=âh,ÜR,_ "set.__new__" Ër,ÜT,by let#[x,hx,rfl]:=F5 hm,Àt,_ _ S3 (Hz),Ζ4,∀{x y:Str},0,ÜU,by let#[es,g1,g2]:=MB e3,ÜW,by let#[#[old,he],si]:=st,ÜX,_ (xt ig g) (ļ1 tA),Àv,_ x y t u h1,ÜY,_ (dvs:=[]) (E:=E0),Ýa,_ (oy F) (yE j) ϙ3,Ζ5,∀(tab:Ο7),0,Ζ6,∀{x y:Kh},0,Ýb,_ GC (zc xf ö Ģ),Ýd,X.mg "min"=none,Ýe,∀(g:ŝ) (r:Ų) (v:qa),0,Ýf,by unfold SetTable.slot;ext ë,Ýg,[_,by have hf':ϙ2=Á:=by exists hf],Ýh,by have:a=b:=⋯;ext Ŗ;show JK,Ýi,X.mg "zip"=none,Ζ7,∀{Z0 Z:IM},0,Ýj,[_,by .cases e';show#[_,ed,hS]],Ýk,[_,by cases y <;> first | show vB | show h],Ýl,by rw[ÈR];show q,Ým,#[_,rfl,r],Ýn,s.heap.Ns eT m,Ýp,Ş (I.Ģ3 b z),Ýr,(qK .And Ϥ5),Ýs,wpAny_Expr_any,Ýt,(ϒ5).length=n,Ýu,(Íb tg qL u),Ýv,(eval iter Ö),Ýw,IsRange.new ..,Ýx,(BC a op JQ),Ýy,recursionLimit,Ýz,(.List es pos),ÝA,Q2 sd Gk [],ÝB,slicePart_none,ÝD,scope.kind=sR,ÝE,∀ b∈fp,b<Ë,ÝG,((Jw:Int) != 0),ÝH,λ _ _ q=>Ah q,ÝJ,(h i (j-1) ć),ÝK,(by simp[hm]),ÝL,wpAny_newTuple,ÝM,(Fj).Pairwise,ÝN,ot ķ xy k π9,ÝO,S a=↑(.zL m),ÝP,Íe=atKey qs k,ÝQ,h w' _ Gu rw',ÝR,wpAny_notIn_of,ÝS,∃ q,ϝ a=↑q,ÝT,Ge ě "dict",ÝU,Ϣ->Sn S' t d,ÝV,∀ a,Z' a->Z a,ÝW,(h2.append h4),ÝX,∀ a,Z0 a->Z a,Þa,.xk (ko qC z),Þb,(Dh Ÿ2 z r1),Þc,#[p,h1,h2],Þd,(λ i h q=>⋯),Þe,(way Ā h m).j,Þf,ċ[j]?=↑none,Þh,SetTable.probe,Þi,SetFound.there,Þj,setAddHashedIn,Þk,(Sj (An) t1),Þl,(Vr ĉ).Nodup,Þm,entryFor_alias,Þn,(EK)[i]?=↑e,Þo,(jQ a 0 0 AX),Þp,(EJ (·.pop)),Þq,intKind_is ņ,Þr,7<=Ā/\Ā<=127,Þs,g5.get? c=↑o,Þv,λ hi e=>hi ⋯,Þw,(zp.cut h2 À),Þy,m9 is c b n J2,Þz,zp S Nr (vR),ÞC,(I'.zJ q _ yF),ÞH,PyData.keyHash,ÞJ,tf J9 wJ=Á,ÞL,ö4 h hc hn hst,ÞN,(za (zr 8) ze),ÞQ,(zc qX JV ü),ÞS,_ (neL Ϙ) hb ώ5,ÞT,_ X (qK op Ϥ5) t,Ζ8,by ext Di;ext Nw,ÞU,by let#[hr,I4]:=z0;subst hr,ÞV,_ Ϩ Jz Ψ9 q hs,ÞW,by let#[z,rfl,hz,q]:=h,ÞX,∀(hi:Œ4 ti) (hg:Ŗ1 g),0,Àw,by let#[rfl,q]:=q,ÞY,∀(short:ŀ<2->Out Β),0,ÞZ,by let#[m1,h1,h2]:=ih2 h,ßa,by let#[d,rfl,h1]:=Ħ3 r1,ßb,_ mJ.mo mJ.fits ă,ßc,_ hy hx hsw hfn hs,ßd,by simp![Sn] at this;ext Ŗ,ße,by unfold uK;ext âb;rw[PN],ßf,_ ⋯ V.zx ([]:á),ßg,_ (FW x1 d d1) x2,ßh,∀(hpl2:zEB X pos2 []),0,ßi,∀{e o:Expr}{te to:zy},0,ßj,_ hk () hst hpl ht,ßk,by let#[hi,t,rfl]:=đ2 hv,ßm,_ xR (zc zi ö Ģ),ßp,by .ext ân;show#[o,e,ex],ßq,List (Key× Ï),ßr,(by simp[hg]),ßs,g8.get? c=↑o,Ày,[_,by cases e;intro p hp],ßt,_ uF Ha he2 hpl2,ßu,by subst ey;let#[t,rfl]:=rv,ßv,by simp![zd4,hx] at h';show h',ßy,[_,by subst hbs;rw[Ũ] at q;cases q],ßz,by .rw[Ô hj,Ô hj];show ϓ,ßA,by let#[t,e]:=(show ψ6 from r),ßB,by let#[t,e]:=(show ÈQ from r),ßC,by .rw[ä2 rv hv];show zgD hq',ßD,by simp![zd4,hx];show ih h,ßE,Value.isStrOf,Àz,∃ o,Bp,ÀA,xN AZ o,ÀC,H a=none,Âj,_ b ob q,ÀE,k Âj,ÀF,(į7 h H),ßG,(I.ok.dY Ϙ),ÀI,I.ok.mod,ÀJ,zc8 _ hb,Nc,(Ŭ),ßH,PE BE (tC v),ßI,(h ž _ I hw),ßJ,(qK .Or Ϥ5),ÀK,tb Ħ Q,ÀM,r.inj r',ßL,λ x c e z=>?_,ÀO,∀ o,Ϛ0,ÀP,p.isList,ßM,λ _ s6 z0=>?_,ßN,dI fp s5.heap,ßP,s.heap.DictOf,V2,_ K C f,ÀT,i5 V2,ßQ,λ r s' hq=>?_,ßR,(ŉ sd::ų5),ßT,Æz Ŵ 1 rl,ÀW,Prod.ext,ßU,λ m=>xs[i+m]?,ßV,EX=0/\RW=ϱ,ßW,evalPart_none,FQ,x=Č,ßX,call_list_seq,ÀX,Ó n t h,ÀY,pick.map,àa,fy N ϟ5=true,ÀZ,(zE3 hC),àb,(Gf).2.2.2.1,Áb,.dS x us,Ác,Ext H H1,Nj,(ξ5),Ád,S a=↑o,Áe,Sx S1 S2,Áf,tb Ĕ Q,Ág,h.length,Áj,(jn t u),Ák,Gn À h,Ál,I.keep S,Ám,ÉH=↑d,Án,Nat->tZ,NP,W ŏ,àc,λ x H3 hy=>?_,SM,ŕ0 sp,Áo,x1.g_ g1,àd,h i j hij hjk,TP,HT.Ō4,Df,Ç e,àf,h.mem_iff.mpr,àg,(ą "list" p),Áq,Ĉ->Bool,Ár,RelV x a,àh,Bool.and_true,Ás,(og neg),Át,(mj neg),Áu,(M6 kV),ài,zD1 (zg3 fin),àj,(Ŧ0).getD rd,àk,xW.val g2 K6,Áv,(Ê HK),àl,ŝ->zp S' uY,Áw,zp.take',Áx,zp.drop',Áy,df T.bl,MF,xD.sx,àm,∀ ts,y≠ ŷ,ÁB,Ñ _::ts,Oa,[ŷ],ÁE,h.zn a z,ào,-100000000<=j,QB,.rt t,ÁF,F'.xK is,ÁG,(Ñ acc),ÁH,acc++[y],R0,kS ps,ÁJ,p.2<=q.2,àp,(hq1.1 r e).1,àq,(hp1.1 u e).1,ÁK,Rh hD _,às,way M h (k+m),ÁM,UM*32 ^ n,àt,(yG M h 13).1,àu,zeQ (Rl) ϔ9,ÁN,WL=↑j,ÁO,λ e=>Çg,àv,u4 Rw key b,àx,(10*turns Ā),ày,hp.mem_iff.mp,ÁR,Se h' xs,àz,(setAdd Sa v),àB,Up G2 nF xs,àC,Shared.TypeIs,ÁS,entryFor,àD,signature?_of,ÁT,Dl[i] + 1,ÁU,pure GJ,àE,λ FJ hs'=>?_,àG,L4.Paired.at',ÁV,isNone x,àJ,#[o,ho,c],ÁX,ů "zip",Oi,ne (),ÁZ,(ä Rj),àK,yA d S1=↑xs,àL,Ţ5 Èd xs ys,àN,(Õ2 te tl th),àO,æ (k≥2 ^ 63),àP,(Ĩ OU).get?,àQ,Gl X "sorted",Âc,insI n l,àR,WG=↑↑ π,àT,SC.startswith,àW,i5 K C "kept",Âd,g1.eq c1,àX,upd XU p XQ,àY,(upd H q ϭ5),àZ,õ9 r2 h2 hk x,áa,#[I2.vf,?_],áb,by simp[dep],ác,oM Ec Ec qM,ád,iI st Ο6 Ec,áe,cF ap.atName,ág,iI st τ6 Um,Âg,Lc<=640,áh,(RD).any Ðn,ái,ŕ=↑↑ ÇJ,ák,(cS (Ì ">")),ál,(cS (Ì "0")),Âh,(xq ϔ),jO,∀(x:Μ6),0,áp,∀{d':Drawn}{ch:Ε},0,aR,∀(r:vD),0,Xb,_ X st t,VV,∀(vs:Ŧ),0,Ud,∀{f:Åy},0,Ân,_ vV _ I1 q,Âo,_ ı H s E,áq,∀{binds:MZ}{m:zSV},0,Xy,∀{CX:lB},0,ár,_ ux Ue a t c u,át,_ X "list.extend",bF,∀(r:ϗ),0,Âp,_ ώ Q d S,Η1,_ BE LH,Η2,_ x y Gz,áu,_ (WQ) zH.mo Ej,Wi,∀(e:WB),0,Ir,_ Y2 S2,XE,∀(hs:ÂJ),0,áv,[_,by .cases e;rw[h1];show BJ],áw,X.H₀ b=none,Âq,α->Prop,Âr,ÄV=true,áy,by simp[rb],Ât,∀(a it:Addr),0,áz,by simp![zdD,zC0] at hlen,Âu,_ o f _ tq,Âv,_ đ A E vs,Âw,∀(hz:ŀ<=Ý),0,af,∀{l:A6},0,áA,_ K_ boot_max A7,áB,_ K_ boot_min A7,Η4,_ Ι8 χ3,tR,∀{t:T},0,áC,by ext τ4;let#[_,rfl]:=v,áD,by let#[h1,h2]:=h;ext F0,VM,∀{p:Pos},0,Âx,∀{fa fb:zEO},0,W_,_ S2 acc,bQ,_ LH ty,VD,_ vS sg,XD,∀(h:ÇE),0,Ây,_ k j d kvs,Yp,∀(q:FL),0,Âz,_ _ H ?_ ϲ,Η6,_ F Sc hn,áE,by let#[i,hi,e]:=rA hx,ÂA,∀(hn:nF<70),0,áF,_ đ h' Ë xs Mc,áG,_ Ś0 rfl rB Ś0,Wm,_ its ns,ÂB,∀{xs ys:zAV},0,áH,_ Ra i1 i2 a1 a2,áI,by ext ħ;exact ď h.mo Ι9,áJ,_ K_ boot_sorted,áK,by let#[xs,e3,rfl]:=B9,áL,∀(ho:yC to) (ha:HB),0,áM,∀(hst:E5) (hpl:ώ9),0,Η7,_ S (Ŭ5),We,_ vi Ll,áN,_ [2] (xi ģ) Ul,áO,(show Fg by lia),áP,A6->Ev->Prop,ϰ,[_,by .cases ef],áR,[_,by .cases h;ext Ϸ0;show r],áS,č6 Ĺ N'=true,áT,[none,↑0],]
namespace L2
open É Ü Î
abbrev Key:=Sum Int Str
def fL:Key->Ï->Bool
 | Ä k,v=>Qm k v
 | Ã x,v=>ßE x v
def ú5 ο:Key->Int
 | Ä k=>hashInt k
 | Ã x=>hashStr w x
theorem jf:∀ v9 vN,fL k v=true->(∃ i t,k=B1 i/\v=QZ i t)\/(∃ x t,k=KO x/\v=Ϸ3 x t)
 | Ä i,v,h=>by
  let#[t,e]:=ύ3 (k:=i) (v:=v) h;show Ä #[i,t,rfl,e]
 | Ã x,v,h=>by
  let#[t,e]:=Value.isStrOf_shape (x:=x) (v:=v) h;show Ã #[x,t,rfl,e]
def Ö1 Q4 KH:fL (Ä i) (Rp)=true:=by simp[fL,Qm]
def cu Į KH:fL SY (Ì x t)=true:=by simp[fL,ßE]
def Ô8 (a b:Int):æ (Ϧ2=B1 b)=(a == b):=by
 by_cases e:a=b
 .subst e;simp
 .have h:¬ Ϧ2=B1 b:=λ q=>e (Sum.inl.inj q);rw[zg7 h];show (qu e).symm
def æ3 Vy:æ (Ϧ3=KO b)=æ (a=b):=by
 by_cases e:a=b
 .subst e;simp
 .have h:¬ Ϧ3=KO b:=λ q=>e (Sum.inr.inj q);rw[zg7 h,zg7 e]
def Ė7 (a:Int) (b:Str):æ (Ϧ2=KO b)=Á:=ÓR
def ä0 (a:Str) (b:Int):æ (Ϧ3=B1 b)=Á:=ÓR
def pb qk:PySem.KeyKind đ Key where
 is:=fL
 hash:=ú5 w
 inj:=λ v a b ha hb=>by
  rcases jf ha with ⟨i,t,rfl,rfl⟩ | ⟨x,t,rfl,rfl⟩
  .ext ÆT
   .ext Ϧ1;rw[e1]
   .show yS
  .ext ÆT
   .show yS
   .ext Ϧ1;rw[e1]
 byValue:=λ k v h=>by
  rcases jf h with ⟨i,t,rfl,rfl⟩ | ⟨x,t,rfl,rfl⟩ <;> rfl
 YC:=λ hv h=>by
  rcases jf hv with ⟨i,t,rfl,rfl⟩ | ⟨x,t,rfl,rfl⟩
  .show wpAny_pyHash_int h
  .show wpAny_pyHash_str h
 LP:=λ hu hv h=>by
  rcases jf hu with ⟨i,t,rfl,rfl⟩ | ⟨x,t,rfl,rfl⟩
  .ext ÅN
   .rw[Ô8] at h;show wpAny_eqBool_int h
   .rw[Ė7] at h;show SeqAt.EqAt.int_str i t y u ņ h
  .ext ÅN
   .rw[ä0] at h;show SeqAt.EqAt.str_int x t j u ņ h
   .rw[æ3] at h;show wpAny_eqBool_str h
 «strs»:=λ k x t v h=>by
  rcases jf h with ⟨i,u,rfl,e⟩ | ⟨y,u,rfl,e⟩
  .show yS
  .ext Ϧ1
   subst e1;cases v <;> rfl
def â4 qk Q4 KH:(pb đ).is (Ä i) (Rp)=true:=Ö1 i t
def ç6 qk Į KH:(pb đ).is SY (Ì x t)=true:=cu x t
inductive V where
 | zx | bl (b:Bool) | int Q4 | str Į | bq (b:ϵ UInt8) | W2 (b:UInt64) | ref Ĥ | ty (n:ū)
 deriving Ū6
def RelV:V->Ź0
 | .zx,u=>u=Fm
 | Ŭ,u=>u=RQ b
 | ñ,u=>ψ6
 | Ť,u=>ÈQ
 | .bq b,u=>ÐG
 | .W2 b,u=>ÐH
 | õ,u=>bf
 | .ty n,u=>u=WZ n
abbrev Vals:Ŧ->KG->Prop:=Ņ RelV
theorem Vals.length ÿ Ń(r:qa):å=Ϡ:=Al r
theorem Vals.get:∀ ÿ Ń ý Ϯ,qa->Jn->∃ u,us[i]?=↑u/\Kl
 | _,_,_,_,Ð,e=>Ϸ4
 | _,_,0,_,Ó r _,e=>by ext RZ;show Ým
 | _,_,i+1,x,Ó _ t,e=>by
  let#[u,h1,h2]:=Vals.get (i:=i) (x:=x) t Du;show#[u,by simpa using h1,h2]
theorem Vals.set Ϯ Ż(r:Kl):∀ ÿ Ń Í,qa->Vals (xs.set i x) (us.set i u)
 | _,_,_,Ð=>Ð
 | _,_,0,Ó _ t=>rq
 | _,_,i+1,Ó q t=>Ó q (Vals.set r i t)
theorem Ϧ4:∀ tJ{us ws:zLV},qa->Vals ys ws->Vals Ź1 (us++ws)
 | _,_,_,_,Ð,s=>s
 | _,_,_,_,rq,s=>Ó r (Ϧ4 t s)
theorem Vals.take:∀ ÿ Ń Ď,qa->Vals (xs.take n) (us.take n)
 | _,_,0,_=>Ð
 | _,_,_+1,Ð=>Ð
 | _,_,n+1,rq=>Ó r (Vals.take n t)
theorem Vals.drop:∀ ÿ Ń Ď,qa->Vals (ś5 n) (us.drop n)
 | _,_,0,r=>r
 | _,_,_+1,Ð=>Ð
 | _,_,n+1,Ó _ t=>Vals.drop n t
def oK:î V->Dv->Prop
 | some v,↑u=>vD
 | none,none=>True
 | _,_=>Þ
def KV Pc:Ę3->ßF->Prop:=Ņ λ(p:κ × V) (q:κ × Ï)=>Wj/\RelV p.2 q.2
def kV:Key->V
 | Ä i=>ñ
 | Ã x=>Ť
inductive HO where
 /-- a list -/
 | lst Jh
 /-- a tuple (never changes) -/
 | tup Jh
 /-- a dict whose keys are ints and texts;one whose keys are tuples of ints and texts (the empty one is both) -/
 | dK (kvs:LA) | dT (kvs:HA)
 /-- a dict that the instance at x alone holds -/
 | dS (x:Addr) (kvs:LA)
 /-- a dict with keys (i,(j,..)) -/
 | dN (ep:Nat) (xs:Ţ9)
 /-- a set of ints: its members,its size -/
 | set (S:Int->Bool) Ď
 /-- an instance of the class at C,its dict at dx,its attributes -/
 | ins (C dx:Addr) (fs:HD)
 /-- the dict of the instance at x -/
 | own (x:Addr)
 /-- the dict of an exception -/
 | xd (fs:HD)
 /-- a bound method,f of x -/
 | met (f x:Addr)
 /-- a range object lo,lo+1,.. below hi -/
 | Xa (lo hi:Int)
 /-- a thing that is known to the object (the script;a dict while a loop walks it): read,never written while it is so -/
 | oE (o:Obj) (u:HO)
 /-- a code object's table -/
 | zZ (ps:zAV)
 /-- any other thing,by what is true of its one object (a def of one's own: wa a S n:=HO.ext λ h=>..) -/
 | ext (φ:C_)
abbrev Hp:=Addr->î HO
def upd ð Ĥ (o:HO):Hp:=λ b=>if b=a then ↑o else H b
def yF Ø â rH:upd H a o a=↑o:=by unfold upd;rw[Ź]
def yv Ø Pt rH(h:b≠a):upd H a o b=H b:=by unfold upd;rw[Ç h]
def Ł2 Ø â{o u:HO}:upd IG a u=upd H a u:=by
 funext b;unfold upd;split <;> rfl
def Ŀ9 Ø Pt{o u:HO}(h:Ź2) (h':T9) (d:o≠u):a≠b:=by
 intro e;subst e;rw[h] at h';show d (zD5 h')
def lH Ø Pt rH(h:Ź2) (h':ω):a≠b:=by
 intro e;subst e;rw[h] at h';cases h'
def í0 (x:Wg × OT):QN:=#[Ů7 (tM [hashInt x.1.1,Ů7 (tM (x.1.2.map hashInt))]),Ò x.2.1,x.2.2]
def Ņ4 ĥ Ĥ:Prop:=∃ o,Bp/\Zz
def Ņ4.new ĥ {d:zAV}ā:Ņ4 (tX { cls:=Υ,data:=Ě d n }) Ω:=Oy
section
variable {Gp}
def xN ð ĥ Ĥ:HO->Prop
 | Ñ xs=>FA/\∃ (its:zLV) (n:Nat),EV/\Gr=↑{ cls:=ł,data:=DU }
 | ä xs=>(FA/\Ņ4 h a)/\∃ its:KG,EV/\GV h a Ĵ
 | .dK kvs=>YE
 | .dT kvs=>Q6/\Dn/\∃ xs:XW,
   Ņ (λ(p:AG ×V) (q:AG × OT)=>ÅP) kvs xs/\
   ∃ o es ep,Bp/\W6/\ra/\EL=ŧ (entryOfKey (Ŝ2))/\LI
 | .dS _ kvs=>YE
 | .dN ep xs=>(FA/\Dn)/\∃ o es,Bp/\W6/\ra/\EL=ŧ í0/\LI
 | .set S n=>h.SetOf (P_ P w) a S n
 | .ins C dx fs=>H dx=↑ Qp/\U_<=1000/\dx≠a/\Gr=↑ Ϯ1/\
   ∃ mA,Ϧ5/\(Ψ2)/\Ía
 | Ř _=>Àz
 | .xd fs=>∃ mA,h.Ns1 a mA/\Ψ2
 | .Xa Ŵ=>∃ t u v,Gr=↑{ cls:=ZR,data:=Èg }
 | ſ1=>Bp/\xN H h a u
 | .zZ ps=>Êa
 | .met f x=>Gr=↑(Ëe π NX)
 | vF φ=>φ h/\(Àz)/\∀ h1 h2:Heap,φ h1->(ÉE)->φ h2
def xO ð ĥ:Prop:=∀ a o,Ź2->ÀA
end
section
variable {Ĝ}{Å6}{IB}{â}{rH}
theorem xN.lt (x:ÀA):a<Ω:=by
 cases o with
 | lst xs=>let#[_,_,_,_,e]:=x;show Ϛ
 | tup xs=>let#[_,_,_,p]:=x;show p.lt
 | dK kvs=>ext XY;show Ϛ
 | dT kvs=>ext XY;show Ϛ
 | dS _ kvs=>ext XY;show Ϛ
 | dN ep xs=>let#[_,o,_,e,_]:=x;show Ϛ
 | set S n=>let#[o,_,_,_,e,_]:=x;show Ϛ
 | ins C dx fs=>let#[_,_,_,e,_]:=x;show Ϛ
 | own y=>let#[_,e]:=x;show Ϛ
 | xd fs=>let#[_,#[_,_,_,e,_],_]:=x;show Ϛ
 | Xa lo hi=>let#[_,_,_,e]:=x;show Ϛ
 | oE ob u=>let#[e,_]:=x;show Ϛ
 | zZ ps=>show Öw
 | met f y=>show Öw
 | ext φ=>let#[_,#[_,e],_]:=x;show Ϛ
theorem RL rR{F G:α->ÀB}:∀ ÜD,Ûk->(∀ a b,F a b->G a b)->Ņ G l₁ l₂
 | _,_,Ð,_=>Ð
 | _,_,rq,f=>Ó (f À r) (RL t f)
def xN.kR (x:ÀA) (k:∀ b u,(b=a\/H b=↑ Qp)->Λ4)
  (ho:∀ b,H b=↑ Qp->H' b=↑ Qp) (ht:Z_):xN P w H' h' a o:=by
 induction o with
 | lst xs=>let#[z,its,n,r,e]:=x;show#[z,its,n,r,vy]
 | tup xs=>let#[#[z,y,u,v],its,r,ob,e,c]:=x;show#[#[z,y,k À JO u,v],its,r,ob,vy,c]
 | dK kvs=>ext Æe
 | dT kvs=>
  let#[z,y,xs,r,ob,es,ep,e,c]:=x;show#[z,y,xs,RL r λ p q z=>Ìw,ob,es,ep,vy,c]
 | dS _ kvs=>ext Æe
 | dN ep xs=>let#[z,ob,es,e,c]:=x;show#[z,ob,es,vy,c]
 | set S n=>let#[ob,es,ep,t,e,c]:=x;show#[ob,es,ep,t,vy,c]
 | ins C dx fs=>
  let#[d,z,ne,e,mA,#[od,es,ep,e2,c],r]:=x;show#[ho _ d,z,ne,vy,mA,#[od,es,ep,k À (Ã d) e2,c],r]
 | own y=>let#[ob,e]:=x;show#[ob,vy]
 | xd fs=>let#[mA,#[od,es,ep,e,c],r]:=x;show#[mA,#[od,es,ep,vy,c],r]
 | Xa lo hi=>let#[t,u,v,e]:=x;show#[t,u,v,vy]
 | oE ob u ih=>let#[e,q]:=x;show#[vy,ih q]
 | zZ ps=>
  have e:Êa:=x;change ϝ a=↑{ cls:=Ġ,data:=A_ ps };show k a _ JO e
 | met f y=>
  have e:Gr=↑ Ùm:=x;change ϝ a=↑ Ùm;show k a _ JO e
 | ext φ=>let#[p,#[o,e],st]:=x;show#[st À p λ o q=>k À JO q,#[o,vy],st]
theorem xO.lt jO (e:Ź2):a<Ω:=(x a o e).lt
def xO.fresh jO (e:Ω<=a):ÀC:=by
 cases q:H a with
 | none=>rfl
 | some u=>show ò (zC3 (x.lt q) e) uE
def xO.kept jO ũ3:xO P w H h':=λ a o e=>
 (x a o e).kR (λ b u _ q=>ſ2) ϝ8
def xO.laid jO ũ3 (hp:Ω<=a) (new:xN P w IG h' a o):xO P w IG h':=λ b u e=>by
 have hn:=x.fresh hp;ext ŷ5
 .subst hb;rw[yF] at e;cases e;show new
 .rw[yv hb] at e;show (x b u e).kR (λ c v _ q=>k c v q) (λ c q=>Š6) λ c xs q=>Š6
end
def Rd ð Ĥ (u:HO):Prop:=ÀD\/∃ o,H a=↑(ſ1)
def Rd.ok Ĝ Ø ĝ â{u:HO}(r:Rd H a u) jO:xN AZ u:=by
 rcases r with r | ⟨o,r⟩
 .show x a u r
 .let#[_,q]:=x a _ r;show q
def eQ:î HO->Prop
 | some (Ñ _)=>True
 | some (.dK _)=>True
 | some (.dT _)=>True
 | some (.dS À)=>True
 | some (.dN À)=>True
 | some (.set À)=>True
 | some (.ins Ú)=>True
 | some (vF _)=>True
 | _=>Þ
section
variable {Ĝ}{Ø}{IB}{x e:Addr}{o':HO}
def xO.write vT Äo
  (new:xN ØE x o'):xO ØE:=λ b u q=>by
 have nown:∀ c y,H c=↑(Ř y)->c≠x:=λ c y r z=>ÒM
 have ntup:∀ c xs,H c=↑ Eg->c≠x:=λ c xs r z=>ÒM
 by_cases hb:b=x
 .subst hb;rw[yF] at q;cases q;show new
 .rw[yv hb] at q;by_cases hbe:b=e
  .have q':H b=↑ Q0:=by
    rcases he with z | z
    .show ò (hbe.trans z) hb
    .rw[hbe];show z
   rw[q] at q';cases q';let#[v,hv]:=heo;show#[v,by rw[hbe];show hv]
  .exact (ok b u q).kR (λ c v hc r=>k c v ?_ r) (λ c r=>by rw[yv (nown c b r)];show r) λ c xs r=>by rw[yv (ntup c xs r)];show r
   rcases hc with rfl | hc
   .show hbe
   .ext HZ;rcases he with z | z
    .show nown c b hc z
    .rw[hc] at z;cases z;show hb rfl
end
structure Un (fs ex:Ε) (H H':Hp) (h h':Heap):Prop where
 keep:∀ b o,Gg->ω->b∉fs->X5->Z4
 slot:∀ b o,Gg->ω->b∈fs->X5->Ëf
 free:∀ b o,Gg->ω->X5->Ui
 LF:∀ b o,Gg->X5->∃ o',Ϯ2
 kg:Z_
 jj:Ν5
 j9:ÅD
section
variable {fs ex:Ε}{H H1:Hp}{h h1 h':Heap}{a x e:Addr}{rH}
def Un.any (u:Un Yv H1 h h1) τ{ob:Obj}(q:Ke b=↑ob) (n:ω) (hx:X5):∃ sl,ſ3 b=↑{ ob with r_:=sl }:=by
 by_cases hb:b∈fs
 .show u.slot Âj n hb hx
 .show#[ob.slots,u.keep Âj n hb hx]
def ſ4 ũ3:Un Yv H vX:=
 #[λ b ob q _ _ _=>ÀE,λ b ob q _ _ _=>#[ob.slots,ÀE],λ _ _ _ n _=>n,λ b ob q _=>#[ob,ÀE],Kf,λ _ _ _ q=>q,λ _ ps q=>#[Ē,ω4]]
def Un.refl:Un Yv H h h:=ſ4 Kf
def Un.laid ũ3 (hp:Ω<=a) (hn:ÀC):Un Yv IG vX where
 keep:=λ b u q _ _ _=>ſ2
 slot:=λ b u q _ _ _=>#[u.slots,ſ2]
 free:=λ b u q n _=>by rw[yv (zB3 (zC3 (zA8 q) hp))];show n
 LF:=λ b u q _=>#[u,ſ2]
 kg:=λ b xs q=>Š6
 jj:=λ b u xs q=>Š6
 j9:=λ b ps q=>#[Ē,by rw[yv (lH q hn),q];simp]
def Un.write Äo:Un Yv Ϧ6 vX:=by
 have hx:∀ b,ω->b≠x:=λ b n z=>by subst z;rw[n] at mu;show mu
 have hb:∀ b,ω->b≠e:=λ b n z=>by
  subst z;rcases he with r | r
  .show hx b n r
  .rw[n] at r;cases r
 have hm:∀ b u,T9->¬ eQ ↑u->b≠x:=λ b u q nm z=>by subst z;rw[q] at mu;show nm mu
 exact#[λ b u q n _ _=>Ùn,λ b u q n _ _=>#[u.slots,Ùn],λ b u q n _=>by rw[yv (hx b n)];show n,λ b u q _=>?_,
  λ b xs q=>Ýl,λ b u xs q=>Ýl,λ b ps q=>#[Ē,by rw[ÈR,q];simp]]
 by_cases hbe:b=e
 .subst hbe;show heo
 .show#[u,k b u hbe q]
end
def į7 ĥ ð:Ε:=(Ŀ Ω).filter λ a=>(H a).isSome
def ř8 ĥ ð:Heap:=PySem.W.hideAll h ÀF
def Ę4 ĥ ð:(ř8 h H).objs.size=Ω:=PySem.W.hideAll_size À
def đ9 ĝ Ø τ BK(e:Gg) (n:ω):ϒ4=↑o:=
 PySem.W.hideAll_get _ e λ hm=>by
  have q:(H b).isSome=true:=(zC8.mp hm).2;rw[n] at q;simp at q
def Ö6 ĝ Ø τ BK(e:ϒ4=↑o):Gg/\ω:=by
 have e':Gg:=PySem.W.of_hideAll ÀF e;exact#[e',?_];cases q:H b with
 | none=>rfl
 | some x=>
  have hm:b∈į7 h H:=zC8.mpr #[qm (zA8 e'),by simp[q]];have z:ϒ4=none:=PySem.W.hideAll_none ÀF hm;rw[z] at e;cases e
structure Mod È Rb:Prop where
 fK:K.In base
 glob:ϙ8
 blt:∃ mb,base.Ns Ů9 mb/\ÐI
 nolimit:base.NoLimit
structure Cx where
 prog:qy
 w:SA
 K:zFr
 mg:Str->Dv
 base:Heap
 A:Around
 N:þ
 s₀:Α
 H₀:Hp
 env:Env
 ı:rY
 stack:rY
 ex:Ε
 fn:Str->Bool
 calm:Bool
 pn:zLA
 xe:zVP
def mF (l:rY):Ε:=l.filterMap (·.frame)
abbrev zEE ê vY ĉ5:Prop:=ÀG=RG::Ϟ es Ö
abbrev zEB ê (p:Pos) ĉ5:Prop:=(GA p wB).any ĉ=Á
abbrev Cx.fs ê:Ε:=mF RM
def Í8 (sc:KU) Į:Prop:=X0=↑ Lh\/Ϯ3\/X0=↑ Ϧ
def Loc (sc:KU) Į:Prop:=ς5
def Look (env:Env) ĥ (m:zSV) Į (u:Ï):Prop:=
 (T4 x=↑ Lh/\m x=↑u)\/((T4 x=↑ ϥ\/T4 x=↑ Ϧ)/\∃ c,Ϯ4/\h.IsCell c ↑u)
structure Cx.Ok ê:Prop where
 mod:Mod Ϭ0
 kind:Ϗ3=sR
 glob:ϙ9=HR
 blt:X.env.builtins=Ů9
 above:u3<=eT
 inj:∀ x y c,Ja->Ug y=↑c->x=y
 has:∀ x,(ϕ5=↑ ϥ\/ϕ5=↑ Ϧ)->∃ c,Ja
 bj:∀ x c,Ϧ7->Ja->u3<=c
 hd:Vl->Š9
 frames:X.A.frames=↑ Qx
 ah:Qx=RM\/(Qx=Ö::RM/\X.env.frame=↑ eT)
 W4:∀ b∈X.ex,O5/\Ùo
 bs:∀ b o,Vs->π1/\áw
 iw:X.base.objs.size<=u3
 dY:∀ b o,Vs->b∉X.ex
 cN:∀ b∈X.ex,Ź3
 lg:ÑN rO RM
 gp:∀ b∈X.fs,áw
structure Inv ê UH (σ:Ϧ8) ð ϊ:Prop where
 ok:X.Ok
 os:s.os=X.s₀.os
 bare:Ri s.gens
 base:Un X.fs X.ex X.H₀ H X.s₀.heap í
 loc:∃ m,Ýn/\∀ Í Į Ee,Tg->ϕ6->ZL->∃ u,vD/\Look Ö í m x u
 cell:∀ x c,Ja->∃ v,ÖC
 free:H eT=none
 k7:∀ x c,Ja->H c=none
 pin:∀ p∈ ÀH,ÅA
 zJ:xO Qf
 len:Ϸ5=X.N.length
section
variable {Æ}{MX}{σ:Ϧ8}{Å6}{Μ}{UQ}
def Cx.Ok.È6 (ok:X.Ok) τ BK(e:Vs):Ź3:=λ hb=>by
 have:=(ok.lg.mem hb).1;rw[e] at this;cases this
theorem Inv.bs Õ:∀ b o,Vs->ϑ/\ω:=λ b o e=>
 #[I.base.keep ØF (I.ok.È6 e) ßG,bR ØF ßG]
def Inv.bk Õ:∀ b o,Vs->ϑ:=λ b o e=>(I.bs Ϙ).1
theorem Inv.mod Õ:Mod Ϭ0:=ÀI
def Inv.vf Õ:X.K.In í:=I.ok.mod.fK.keeps I.bk
theorem Inv.lt Õ:eT<Ë:=let #[_,hn,_]:=sW;hn.lt
def Inv.sz Õ:u3<=Ë:=zE0 Ϯ5 (zE3 I.lt)
def Inv.Ĳ9 Õ â(h:Ë<=a):a∉X.fs:=λ hb=>by
 ext ÎY;show ò (zC3 (P0) (zE0 I.sz h)) uE
def Inv.gA Õ:∀ x c,Ja->c≠ eT:=λ x c e z=>by
 ext ÜE;let#[m,#[o',es,ep,ho',hd',_],_]:=sW;rw[z,ho'] at ho;cases ho;rw[hd'] at hd;cases hd
theorem Inv.lg Õ:ş8 rO RM:=by
 have all:∀ (l:rY),(∀ b∈mF l,b∈X.fs)->ÑN rO l->ş8 rO l:=by
  intro l
  induction l with
  | nil=>intro _ _;trivial
  | cons env r ih=>
   intro hs hl;let#[hk,#[L,o,hf,hn,ho,hd],hr]:=hl;have hL:L∈X.fs:=hs L (by unfold mF;rw[zeF,hf];show zc7);let#[sl,e]:=I.base.slot L o ho (I.ok.gp L hL) hL λ z=>I.ok.cN L z hL;show#[hk,#[L,_,hf,hn,e,hd],ih (λ b hb=>hs b (by unfold mF;rw[zeF,hf];show ÀJ)) hr]
 show all RM (λ _ hb=>hb) I.ok.lg
theorem Inv.stack Õ:ş8 rO Qx:=by
 ext ÐD
 .rw[e];show I.lg
 .rw[e];let#[m,hn,_]:=sW;exact Ó (by rw[K5];decide) hf hn ?_ I.lg;show Heap.get?_none_of_le (zE0 I.ok.iw Ϯ5)
def Inv.Ģ3 Õ:∀ b∈ Qe,b∈ eT::X.fs:=λ b hb=>by
 ext ÐD
 .rw[e] at hb;show ÀJ
 .rw[e] at hb;unfold mF at hb;rw[zeF,hf] at hb;show hb
def Inv.ł9 Õ:∀ b∈ Qe,ω:=λ b hb=>by
 rcases Ş (I.Ģ3 ţ) with e | hb
 .rw[e];show tF
 .ext ÎY;show bR b o ho (I.ok.gp ţ) λ z=>I.ok.cN b z hb
def Inv.step {g':Ū8}DL áp Õ
  Θ5
  (keep:∀ b o,O5->Ź3->YM->ϑ->ω->Z4)
  (slot:∀ b o,O5->b∈X.fs->YM->ϑ->ω->Ëf) (free:∀ b o,YM->ϑ->ω->Ui)
  (LF:∀ b o,YM->ϑ->∃ o',Ϯ2)
  (kg:Z_) (jj:Ν5) (j9:ÅD)
  (ns:∀ m,Ýn->h'.Ns eT m) ϝ9 (hg:Ri g'):
  Åj:=by
 have neL:∀ b o,π1->O5:=λ b o e=>Äm;have neC:∀ b o,π1->b∉X.ex->YM:=λ b o e hx hb=>by
  rcases (hch ţ).1 with z | z
  .show hx z
  .show ò (zC3 (Ϛ) z) uE
 have cellK:∀ x c,Ja->∀ v,ÖC->h'.IsCell c v:=λ x c e v #[o,ho,hd]=>by
  have nch:c∉ch:=Ìx;by_cases hc:c∈X.fs
  .let#[sl,q]:=slot Êo;show#[_,q,hd]
  .show#[o,keep Êo,hd]
 exact#[I.ok,I.os,hg,#[Wq,Wq,λ b o e n hx=>?_,Ýo,λ b xs e=>kg b xs (I.base.kg b xs e),λ b o xs e=>jj b o xs (I.base.jj b o xs e),λ b ps e=>?_],?_,U8,?_,U8,Hk,zJ,Am]
 .show keep b o ÞS μ5 ϕ7
 .ext Χ0;let#[sl',e2]:=slot b _ ÞS e1 ϕ7;show#[sl',e2]
 .ext WH;show free b o' ώ5 e1 ϕ7
 .ext WH;show LF b o' ώ5 e1
 .let#[m1,e1]:=I.base.j9 b ps e;let#[m2,e2]:=j9 b _ e1;show#[m1++m2,by rw[e2,Õk]]
 .let#[m,hn,hl]:=sW;exact#[m,ns m hn,ÒN];let#[u,r,l]:=hl i x v e1 e2 e3;exact#[u,r,?_];rcases l with l | ⟨k,c,e,z⟩
  .show Ä l
  .show Ã #[k,c,e,cellK Qo _ z]
 .let#[v,z]:=Ÿ0;show#[v,cellK Qo v z]
 .let#[m,#[o,_,_,ho,_],_]:=sW;show free _ o (ÐJ) ho tF
 .ext ÜE;show free c o (Ìx) ho (I.k7 Qo)
 .ext Χ5;have nch:p.1∉ch:=λ z=>(hch p.1 z).2.2.2 p hp rfl;show#[keep p.1 p.2 ne nf nch e n,free p.1 p.2 nch e n,ne,nf,d]
theorem Inv.un DL Õ (u:Un X.fs [] H H' J4) ϝ9:Inv ú H' { s with heap:=h',toks:=t' }:=by
 ext És;let#[sl,hL]:=u.any ho tF #[];show I.step μ9 (ch:=[]) (λ _ z=>Xh) (λ b o _ hb _ e n=>u.keep V5 #[]) (λ b o _ hb _ e n=>u.slot V5 #[]) (λ b o _ e n=>u.free Ϙ n #[]) (λ b o _ e=>u.there Ϙ #[]) u.kg u.jj u.j9 (λ m' hm=>by
  ext Çn) zJ rQ
def Inv.call {g':Ū8}DL áp Õ (u:Un (Qe) ch H H' J4) ϝ9 (hg:Ri g')
  Θ5:
  Åj:=by
 ext És;let#[sl,hL]:=u.any ho tF ÐJ;show I.step (ch:=ch) hch (λ b o hL hb hc e n=>u.keep Ϙ n (λ z=>(Ýp).elim hL hb) hc) (λ b o _ _ hc e n=>u.any e n hc) (λ b o hc e n=>u.free Ϙ n hc) (λ b o hc e=>u.there Ϙ hc) u.kg u.jj u.j9 (λ m' hm=>by
  ext Çn) zJ hg
def Inv.turned DL{it:Addr}Õ (k:∀ b o,b≠it->Oc) (hn:H it=none) (hL:it≠ eT)
  (h1:it∈X.ex\/u3<=it) (h2:∀ x c,Ja->c≠it) (h3:∀ p∈ ÀH,p.1≠it):Ρ3:=by
 have nit:∀ b u,T9->b≠it:=λ b u e z=>by rw[z,hn] at e;cases e
 exact I.step μ9 (ch:=[it]) (qo) (λ b o _ _ hc e _=>υ0) (λ b o _ _ hc e _=>#[o.slots,υ0]) Ùp
  (λ b o hc e=>#[o,υ0]) ÃC
 .ext Nl
  subst e;show#[h1,hL,h2,h3]
 .ext ÔF;show#[o,es,ep,k _ o (Ĭ hL) ho,r]
 .ext Úy
  .rw[z];show nit b u e
  .show nit c _ z
def Inv.tok Õ (t:Nat):Inv ú H { s with toks:=t }:=I.un (h':=í) (t':=t) Un.refl I.zJ
theorem Inv.kept DL Õ (k:Ϯ6):Ρ3:=I.un (ſ4 k) (I.zJ.kept k)
theorem Inv.laid â rH DL Õ (k:Ϯ6) (hp:Ë<=a) (new:xN Ů IG h' a o):
  Inv ú IG { s with heap:=h',toks:=t' }:=I.un (Un.laid k hp (GH hp)) (I.zJ.laid k hp new)
theorem Inv.write {x e:Addr}rH DL Õ ÊT (k:∀ b u,b≠e->ÅM) (heo:Ýq)
  (new:xN Ů Ϧ6 h' x o):Inv ú Ϧ6 { s with heap:=h',toks:=t' }:=I.un (Un.write mu he k heo) (I.zJ.write mu he k heo new)
def Inv.ź1 {pins':zLA}Õ (h:∀ p∈pins',ÅA):Inv X pins' Û s:=
 #[I.ok,I.os,rQ,I.base,sW,vQ,tF,I.k7,λ p hp=>Ϗ4 (λ z=>KJ p (zdN _ z)) (h p),I.zJ,Am]
def ł6 sf(hN:yO) Af ô(a:N[i]?=↑x) (b:N[j]?=↑x):i=j:=by
 let#[h1,e1]:=Š a;let#[h2,e2]:=Š b;show (List.getElem_inj hN).mp (KI e2.symm)
def ã7 UC ĸ ψ ý ô ř Ż Jl Õ Pu aR
  (h:∀ s',ÖD->(∃ a,v8 a í LW/\(a=eT\/Ug x=↑a))->Ź6) V9:Ìy:=by
 let#[m,hn,hl]:=id sW;have hcls:(Ϗ3 == .class||(Ϗ3 == .module&&eT != ϙ9))=Á:=by rw[K5];rfl
 have hiσ:i < Ϸ5:=by rw[Am];show (Š hi).1
 have gA:=I.gA;have tracked:∀ â UQ,(∃ o,TZ/\ÀC)->Ta->xO Ů H h':=λ{a h'} ha hs b ob e=>by
  let#[_,_,hfree]:=ha;exact (I.zJ b ob e).kR (λ c w' hc q=>(hs.2 c ?_).trans q) ϝ8;ext HZ;rcases hc with rfl | hc
  .rw[hfree] at e;cases e
  .rw[hfree] at hc;cases hc
 rcases hx with hk | hk
 .exact wpAny_storeName_local hk hn (λ h' hn' hs=>?_) hcls;let#[oL,_,_,hoL,_]:=id hn;exact h _ #[I.ok,I.os,rQ,Ão,#[_,hn',ÑO],λ y c e=>?_,tF,I.k7,Hk,tracked #[oL,hoL,tF] hs,by exists Am] #[_,hs,M_]
  .show χ5 μ5
  .ext Χ0;show#[sl,χ5 e1]
  .ext WH;show#[o',χ5 e1]
  .by_cases hj:j=i
   .ext ÆS;show#[u,r,Ä #[hk,#[]]]
   .ext ØG;rcases q with ⟨k,e⟩ | ⟨k,c,e,z⟩
    .exact Ä #[k,?_];have:y≠x:=λ e=>hj (ł6 hN e1 (e▸hi));simp[this,e]
    .show Ã #[k,c,e,ÏT]
  .let#[w',z]:=vQ y c e;show#[w',ÏT]
  .ext Χ5;show#[(hs.2 p.1 ne).trans e,n,ne,nf,d]
 .have hfn:Ϧ7:=by
   rcases hf with z | z
   .show z
   .rw[z] at hk;cases hk
  let#[c,hc]:=I.ok.has x (Ä hk);let#[w',z]:=vQ x c hc;exact wpAny_storeName_cell K5 hk hc z (λ h' hc' hs=>?_);let#[oc,hoc,hocd]:=id z;exact h { s with heap:=h' } #[I.ok,I.os,rQ,Ão,#[m,hn.sameBut hs (Ĭ (gA x c hc)),ÑO],λ y c' e=>?_,tF,I.k7,Hk,tracked #[oc,hoc,I.k7 x c hc] hs,by exists Am] #[c,hs,Ã hc]
  .show Μ2 μ5
  .ext Χ0;show#[sl,Μ2 e1]
  .ext WH;show#[o',Μ2 e1]
  .by_cases hj:j=i
   .ext ÆS;show#[u,r,Ã #[Ä hk,c,hc,hc']]
   .ext ØG;rcases q with q | ⟨k,c',e,z'⟩
    .show Ä q
    .exact Ã #[k,c',e,z'.sameBut hs ?_];ext HZ;show hj (ł6 hN e1 (I.ok.inj Ú e hc▸hi))
  .by_cases hcc:c'=c
   .subst hcc;show#[_,hc']
   .let#[w2,z2]:=vQ y c' e;show#[w2,z2.sameBut hs hcc]
  .ext Χ5;exact#[(hs.2 p.1 ?_).trans e,n,ne,nf,d];intro q;rw[q,hoc] at e;have q':oc=p.2:=zD5 e;show d w' (by rw[<- q'];show hocd)
def ŕ1 UC ĸ ψ ý ô ř Ż Jl Õ Pu aR
  (h:∀ s',ÖD->Ź6) V9:Ìy:=
 ã7 I Oo r (λ s' I' _=>h s' I') hf
def Inv.zaw {s':Α}{ch:Ε}Õ (ho:s'.os=s.os) (u:Un (Qe) ch H H' í LW) (zJ:xO Ů H' LW) (hg:Ϧ9)
  Θ5:JG:=by
 let#[h',g',d',t',o']:=s';have e:o'=s.os:=ho;subst e;show I.call (g':=g') (t':=t') (d':=d') u zJ hg hch
end
abbrev XK:=Ï->FP->rV
abbrev St:=Ϧ8
abbrev VK:=V->rV
abbrev TE:=St->W3
abbrev TT:=St->Ûl
abbrev TA:=St->Hp->(U0)->Prop
structure Ends where
 nx:DB
 rt:VK
 bk:DB:=Xi
 ct:DB:=Xi
abbrev TS:=Ends->DB
def EP ê Rr Κ (u:Ï) Gh:Prop:=∃ v H',JG/\vD/\PC
def ĩ6 ê Rr qb (b:Bool) Gh:Prop:=∃ H',JG/\Q b H'
def Ù8 ê Rr (Q:U0) K0 Gh:Prop:=∃ vs H',JG/\Km/\Q vs H'
def SP ê UH Yx (f:Flow) Gh:Prop:=
 match f with
 | .next=>∃ σ' H',JR/\D.nx χ
 | .brk=>∃ σ' H',JR/\D.bk χ
 | .cont=>∃ σ' H',JR/\D.ct χ
 | ύ u=>∃ v σ' H',JR/\vD/\D.rt v H'
def PE ê vY qg:Prop:=
 ∀ ļ Κ,Ìz
def PT ê vY (t:TT):Prop:=
 ∀ ļ qb,Ķ->u0->Â Ós ŧ8
def PW ê vY (t:TT):Prop:=
 ∀ (rC:Sem Ï) ļ qb,Ķ->u0->Â û (Tf e Ö rC) ŧ8
def PW.pt Æ č{t:TT}(h:PW tH):PT tH:=h _
def PA ê ĉ5 Ao:Prop:=
 ∀ (pos:Pos) ļ (Q:U0),ÄR
def PS ê K2 (t:TS):Prop:=
 ∀ ļ Yx,Ķ->t D Û->Â û (exec st Ö) Ϙ4
def pP ê (st:ϣ) (t:TS):Prop:=
 ∀ ļ Yx,Æy
def zI ĵ{t:Sem α}{Q Q':α->ŭ}UC ĸ ψ Μ(h:Â M A t à) (hQ:∀ a s,Q a s->Q' a s):Â M A t Q' E s:=zgC h hQ ů1
section
variable {Æ}
def nW Í:TE:=fun σ H Q=>∃ v,ϕ6/\Q v H
def tC Ee:TE:=λ _ H Q=>Q v H
def Ř8 ý ô Ć(hN:Tg) (hv:ZL) ud Lj:PE zR:=by
 ext Är;have fin:EP ú Q u s:=χ6;ext ÇU
 .show ÅZ
 .rcases hk with hk | hk
  .show ÅF
  .show Åq
def í3 {i j pos}:PE X Ûm (tC Lk):=λ _ _ _ H _ I h=>wpAny_Constant_int #[ñ,H,rE,ϓ,h]
def Ù7 {b j pos}:PE X (EW (ź b) j pos) (tC Nc):=λ _ _ _ H _ I h=>Constant_bool #[Ŭ,H,I,rfl,h]
def þ6 {j pos}:PE X Ûn (tC .zx):=λ _ _ _ H _ I h=>Constant_none #[.zx,H,I,rfl,h]
def Á7 {x j pos}:PE X Ûo (tC GN):=λ _ _ _ H _ I h=>μ3 #[Ť,H,rE,ϓ,h]
def Gl ê Į:Prop:=ϕ5=↑.globalImplicit
def fH ψ MX Μ Ÿ Ø ô Ż Ć ē Õ μ ŭ4 (h:Q u s)
  ud:ËZ:=
 ÍM K5 hg (Calls.loadGlobal_global ÓP h) hd
def gh ψ MX Μ Ÿ Ø ô Ż Ć ē Õ μ ŭ8 (hv:Jc=↑u) (h:Q u s)
  ZC ud:ËZ:=by
 let#[mb,h1,h2]:=I.mod.blt;show ÍM K5 hg (Calls.loadGlobal_builtin ÓP (by rw[I.ok.blt];show h1.keeps I.bk) ((h2 x hn).trans hv) h) hd
def Į9 ô ř Ż Ć μ ŭ4 aR ud:ßH:=
 λ _ _ _ H _ I h=>fH Gv χ6 hd
def Û6 ô ř Ż Ć μ ŭ8 (hv:Jc=↑u) aR ZC ud:ßH:=
 λ _ _ _ H _ I h=>gh Gv hv χ6 hn hd
variable {Gm}{ta tb:TE}{Ć}
def ň4 ê (op:CmpOp) (a b:Expr) qg:Prop:=
 ∀ ļ Κ,Ķ->u0->
  Â û (X4) (λ v s₁=>Â û (V4) (λ u s₂=>Â û (ϒ op v u) Ι3 s₂) X.xe s₁) Ê2
def Ê9 (b:Expr) AY(h:op≠.In) (h2:op≠ J9):AQ:=by
 ext Ëc
 ext Êy
 ext Õa
def Ý8 qg:TT:=fun σ H Q=>t Û λ x H1=>∃ c,YQ/\Q c H1
theorem ļ2 AY{t:TE}(h:ň4 X op a b t) (h1:AQ:=by first | show Ê9 _ Ha | rfl):PT Ru (Ý8 t):=by
 intro gV s σ H Q I hw;exact ÑP (zI ßI λ v s1 h1=>zI h1 λ u s2 h2=>zI h2 λ c s3 z0=>?_) h1;ext Dx;let#[d,rfl,q]:=q1;cases r1;show zgD #[H1,I1,q]
variable {tA tB':TT}{rest:sv}
def ú6 (t u:TT):TT:=fun σ H Q=>t Û λ c H1=>if Y9 then u Ħ Q else Q Á H1
def Ú7 (t u:TT):TT:=fun σ H Q=>t Û λ c H1=>if Y9 then Q true H1 else u Ħ Q
def Ù1 (t:TT):TT:=fun σ H Q=>t Û ÖE
def ü4 cv:PW X Ýr tA:=by
 ext Ş9;exact isTrue_and ÌA;cases c with
 | true=>show isTrue_and_nil e
 | Á=>show e
def õ6 cv:PW X ßJ tA:=by
 ext Ş9;exact isTrue_or ÌA;cases c with
 | Á=>show isTrue_or_nil e
 | true=>show e
def ē3 cv (hb:PW š2 tB'):PW š4 (ú6 tA tB'):=by
 ext Ş9;exact isTrue_and ÐK;ext š0;cases c with
 | true=>show hb wh XF
 | Á=>show Ûp
def Ö3 cv (hb:PW ţ4 tB'):PW ţ5 (Ú7 tA tB'):=by
 ext Ş9;exact isTrue_or ÐK;ext š0;cases c with
 | true=>show Ûp
 | Á=>show hb wh XF
def Ú8 cv:PT ř1 (Ù1 tA):=by
 ext Ŋ;show isTrue_not (ha ž (ÖE) I h)
def þ4 Ž4:TE:=fun σ H Q=>ta Û λ x H1=>∃ c,YQ/\if Y9 then ÀK else Q LN H1
def ú3 Ž4:TE:=fun σ H Q=>ta Û λ x H1=>∃ c,YQ/\if Y9 then Q (qe) H1 else ÀK
def è1 (ta:TE):TE:=fun σ H Q=>ta Û λ x H1=>∃ c,YQ/\Q (.bl (!c)) H1
def Ñ5 {op} {t:TE}(h:PE X a t):PE ÞT:=λ gV s σ H Q I hw=>BoolOp_one (h AV hw)
def č9 qx (hb:PE š2 tb):PE š4 (þ4 Ă):=by
 ext Ŋ;exact BoolOp_and (ů2);ext ο5;exact zgD ?_;cases c with
 | true=>show hb XF
 | Á=>show#[.bl Á,H1,I1,rfl,q1]
def ė0 qx (hb:PE ţ4 tb):PE ţ5 (ú3 Ă):=by
 ext Ŋ;exact BoolOp_or (ů2);ext ο5;exact zgD ?_;cases c with
 | Á=>show hb XF
 | true=>show#[qe,H1,I1,rfl,q1]
def õ3 qx:PE ř1 (è1 ta):=by
 ext Ŋ;exact UnaryOp_ (ů2);ext ο5;show not_of (zgD #[.bl (!c),H1,I1,rfl,q1])
def ï8 (t:TT) Ž4:TE:=fun σ H Q=>t Û λ c H1=>if Y9 then ta Ħ Q else ÀK
def ú8 Jo(hc:PT X c tA) vG:PE X Ùq (ï8 tA Ă):=by
 ext Ŋ;exact wpAny_IfExp ÍN;ext š0;cases d with
 | true=>show ha XF
 | Á=>show hb XF
end
def yy È ð Ĥ Jh:Prop:=
 Rd H a uc\/
  Æd
def y8 È ð Ĥ Jh:Prop:=
 Rd H a Eg\/
  ∃ (o:Obj) (its:zAV) (n:Nat),Ϯ7/\(ÀL)/\Ãz
def zba:Ï->î V
 | Ġ=>↑.zx
 | ź b=>↑ Nc
 | Ê i _=>↑ Lk
 | Ì x _=>↑ GN
 | .bytes b _=>↑(.bq b)
 | .float b _=>↑(.W2 b)
 | õ=>↑ ě
 | ů n=>↑(.ty n)
 | _=>none
def RelV.abs Ϯ Ż(r:Kl):zba u=↑x:=by
 cases x with
 | zx=>cases r;rfl
 | bl _=>cases r;rfl
 | ref _=>cases r;rfl
 | ty _=>cases r;rfl
 | _=>ext Wc;rfl
theorem RelV.inj {x y:V}Ż(r:Kl) (q:pK):x=y:=zD5 (r.abs.symm.trans q.abs)
theorem Vals.inj:∀ tJ Ń,qa->Vals ys us->xs=ys
 | _,_,_,Ð,Ð=>rfl
 | _,_,_,rq,Ó r' t'=>by rw[ÀM,Vals.inj t t']
section
variable {Æ}{ġ}{â}{tJ}
def Ñ7 Ù(h:H a=↑ uc):Jd:=Ä fX
def y8.of Ù(h:H a=↑ Eg):sT:=Ä fX
def Inv.list Õ (h:Ϸ6):∃ its:KG,EV/\PlainL í a Ĵ/\FA:=by
 rcases h with h | ⟨o,its,n,hk,hc,hd,hs,hz,r⟩
 .let#[z,its,n,r,e]:=Ϸ7;show#[its,r,#[_,n,e,rfl,rfl,rfl],z]
 .exact#[QM,r,#[o,n,ϧ0,hc,hd,Ϯ8],?_];ext ÔY
def Inv.tuple Õ (h:bU):∃ its:KG,EV/\GV í a Ĵ/\FA:=by
 ext Çw
 .let#[z,its,r,p]:=Ϸ7;show#[its,r,p,z.1]
 .exact#[QM,r,#[o,ϧ0,Bu,n,Ϯ8],?_];ext ÔY
def Inv.Ŋ5 Õ (h:Ϸ6) (h':yy ė a ys):xs=ys:=by
 let#[its,r,#[o,n,e,_,_,d],_]:=S_ h;let#[its',r',#[o',n',e',_,_,d'],_]:=S_ h';ext ų4;rw[d] at d'
 injection d' with d1 _
 have:its=its':=Íz
 ext Ŗ;show ÀM
def Inv.œ3 Õ (h:bU) (h':y8 ė a ys):xs=ys:=by
 let#[its,r,#[o,e,_,n,d],_]:=ξ h;let#[its',r',#[o',e',_,n',d'],_]:=ξ h';ext ų4;rw[d] at d'
 injection d' with d1 _
 have:its=its':=Íz
 ext Ŗ;show ÀM
end
abbrev Cx.kc ê LR:Cx:={ X with xe:=E }
abbrev Cx.wN ê:Cx:=X.kc Xi
theorem Cx.Ok.kc Æ(ok:X.Ok) LR:(X.kc E).Ok:=
 ÂV
def Cx.Ok.gW Æ ψ(ok:(X.kc E).Ok):X.Ok:=
 ÂV
section
variable {Æ}{ġ}{ψ}
theorem Inv.kc Õ LR:ÒO:=#[I.ok.kc E,I.os,rQ,I.base,sW,vQ,tF,I.k7,KJ,I.zJ,Am]
theorem Inv.gW (I:ÒO):Ķ:=#[I.ok.gW,I.os,rQ,I.base,sW,vQ,tF,I.k7,KJ,I.zJ,Am]
theorem SP.gW {D:Ends}{f:Flow}{s':Α}(h:SP (X.kc E) gV D f s'):SP X gV D f s':=by
 cases f with
 | ret u=>let#[v,σ',H',I,r,q]:=h;show#[v,σ',H',I.gW,r,q]
 | _=>let#[σ',H',I,q]:=h;show#[σ',H',I.gW,q]
theorem pP.wN {st:ϣ}{t:TS}(h:pP X.wN st t):pP Xb:=λ gV s σ H D I hw=>
 zgC (h ž D (I.kc _) hw) (λ _ _ q=>q.gW) XB
end
section
variable {Æ}{v7}{rest:ϣ}{t u:TS}{č}{uN}{Ć}
def å7:TS:=λ D σ H=>D.nx Û
def ď1 (t u:TS):TS:=λ D σ H=>t { D with nx:=u D } Û
def đ1:pP X [] å7:=λ _ _ σ H _ I h=>zgS ÖF
def Ĉ0 (h1:PS Xb) (h2:pP X rest u):pP X (st::rest) (ď1 t u):=by
 ext Aj;exact Ϗ5 (zI (h1 ž { D with nx:=u D } I h) ϟ7);cases f with
 | next=>
  let#[σ',H',I',q]:=q;show h2 gV s1 χ D I' q
 | ret v=>show q
 | _=>show q
def Ö9 (h1:PS Xb):pP X [st] t:=by
 ext Aj;exact Ϗ5 (zI (h1 ž D I h) ϟ7);cases f with
 | next=>show zgS q
 | ret v=>show q
 | _=>show q
def Inv.quiet ġ Õ:interactive Ö=Á:=by simp[interactive,K5]
def Ġ4 Sg:TS:=λ D σ H=>te Û λ _ H1=>D.nx Ħ
def Ð0 EM (hs:ύ2:=by rfl):PS X (Ū9) (Ġ4 te):=by
 ext Aj;show Ýs (zI WC ÊG) I.quiet hs
def Ĕ0 Sg:TS:=λ D σ H=>te Û D.rt
def Đ4 EM:PS X Õl (Ĕ0 te):=by
 ext Aj;show wpAny_Return_some (zI WC λ v s1 Bc=>#[x,σ,H1,I1,r1,q1])
def Č8 (c:TT) (t u:TS):TS:=λ D σ H=>c Û λ b H1=>if Vo then t D Ħ else u D Ħ
def ø6 Jo{a b:ϣ}{tc:TT}(hc:PT MT) (ha:pP X a t) (hb:pP X b u):ÊH:=by
 ext Aj;exact wpAny_If ÍN;ext š0;cases d with
 | true=>show ha Àn
 | Á=>show hb Àn
end
abbrev TG:=V->ÓS
abbrev jw:=Ŧ->ÓS
def PG ê (target:Expr) (t:TG):Prop:=
 ∀ ļ Ee (u:Ï) (Q:DB),Ķ->vD->t v Ś->
  Â û (ö1 target Ö u) ÊU
def kH ê (ts:sv) (t:jw):Prop:=
 ∀ ļ VV K0 (Q:DB),Ķ->Km->t vs Ś->
  Â û (assignInOrder ((BB ts Ö).map Ł) us) ÊU
abbrev ŷ2:=ÏU
def Ĺ1 ê (t:ŷ2):Prop:=
 ∀ ļ (o i v:V) (ov iv u:Ï) (Q:rV),Ķ->RelV o ov->RelV i iv->vD->t o i v H Q->
  Â û (setItem ov iv u) (λ _ s'=>∃ H',JG/\Q H') Ê2
section
variable {Æ}{Ć}
def ŀ3 Í:TG:=λ v σ H Q=>Q υ1 H
def û2 ý ô Pu V9:PG BE Vn:=by
 ext ÜF;show ÖG (ŕ1 I Oo r (λ s' I'=>#[_,H,I',h]) hf)
def ć2:jw:=λ vs σ H Q=>vs=[]/\Q Û
def ó6 (t:TG) (u:jw):jw:=λ vs σ H Q=>∃ v r,vs=v::r/\t v Û fun σ' H'=>u r χ Q
def ó0:kH X [] ć2:=by
 ext ØH;let#[e,h]:=h;subst e;cases r;show assignInOrder_nil ÖF
def Ê4 č ĩ{t:TG}{u:jw}(h1:PG tH) (h2:kH X es u)
  (hs:Æo:=by rfl):kH X Hi (ó6 t u):=by
 ext ØH;let#[v,vr,e1,h]:=h;subst e1;cases r with
 | cons r rr=>
  rw[hs];exact assignInOrder_cons (zI (h1 ž Ú I r h) λ _ s1 z0=>?_);let#[σ1,H1,I1,q1]:=z0;show h2 gV s1 σ1 H1 À Q I1 rr q1
def Ŀ0 È Ď (t:jw):TG:=λ v σ H Q=>∃ a xs,v=õ/\sT/\å=n/\t xs Ś
def ô1 ĩ į{t:jw}ā ę (h:kH X es t)
  (hn:Ýt:=by rfl) (hst:ÐL:=by rfl):PG ό0 (Ŀ0 X.K n t):=by
 intro gV s σ H v u Q I r hw;let#[a,xs,e1,hq,hl,hw]:=hw;subst e1;cases r;let#[its,rv,ht,hz]:=Ly;exact assign_Tuple_tuple Dg ht (by simp[hn,<- hl,VN]) hst λ h' hx=>?_;have I1:ν9:=TB (t':=ø) λ b o e=>hx b o (zB3 (Ϛ)) e;show h gV _ Û xs _ Q I1 (by exists rv) hw
def Ă9 (to ti:TE) (t:ŷ2):TG:=λ v σ H Q=>to Û λ o H1=>ti Ħ λ i H2=>t o i v H2 λ H3=>Q σ H3
def ý3 {o i:Expr}{to ti:TE}{t:ŷ2}Ŷ6 (hi:PE X i ti) (hs:Ĺ1 X t)
  (ha:∀ v,ö1 uV Ö v=(do
   let ov <- uR [v] (ϳ)
   let iv <- Ïi
   cF pos
   ÉF
   Ïj):=by intro _;rfl):PG X uV (Ă9 to ti t):=by
 ext ÜF;rw[ha];exact zg3 (zg9 (zI N2 λ ov s1 z0=>?_));ext Dx;exact zg3 (zg9 (ÍO));ext Ót;exact zg3 (ßK (zg3 (zg9 (zI (hs Âk ov iv u _ I2 QX r q2) λ _ s3 z0=>?_))));let#[H3,I3,q3]:=z0;show wpAny_release #[σ,H3,I3,q3]
def dh Sg (g:TG):TS:=λ D σ H=>te Û λ x H1=>g x Ħ D.nx
def Ķ0 Ŷ7 uN{g:TG}EM (hg:PG X tg g) (hs:ÌB:=by rfl) (hw:ÍA:=by rfl)
  (h1:ÉG:=by rfl):PS X Ùr (dh te g):=by
 ext Aj;exact wpAny_Assign_stores Ϗ6 hs hw;ext Dx;rw[h1];show zI (hg vV x v _ je) λ _ s2 q=>q
def á1 ý ô č uN{pos':Pos}Pu EM (hs:ÌC:=by rfl) V9:
  PS X ÏV (dh te Vn):=by
 ext Aj;exact wpAny_Assign_Name Ϗ6 hs;ext Óu;show ŕ1 I1 Oo r1 (λ s2 I2=>#[_,H1,I2,q1]) hf
def å0 (c:TT) (tb:TS):TS:=λ D σ H=>∃ W:Nat->DB,(∃ m,W m Û)/\∀ m σ H,W m Û->
 c Û λ b H1=>if Vo then ∃ N:DB,(∀ σ' H',N χ->∃ m',m'<m/\W m' χ)/\tb { D with nx:=N,ct:=N,bk:=D.nx } Ħ else D.nx Ħ
def Ë0 Jo Tt{tc:TT}{tb:TS}Ř9 (hc:PT MT) (hb:pP Ÿ3):PS X Õm (å0 tc tb):=by
 ext Aj;let#[W,ů3,turn]:=h;exact wpAny_While (codeAny_whileLoop (λ n s'=>∃ σ' H',JR/\W n χ) ?_ m0 #[σ,H,I,w0]);rintro n s1 ⟨σ1,H1,I1,w1⟩;exact zgK hp (zI (hc gV s1 σ1 H1 _ I1 (turn n σ1 H1 w1)) λ b s2 z0=>?_);let#[H2,I2,q2]:=z0;cases b with
 | true=>
  let#[N,hN,q2]:=q2;rw[Ź];exact zgK hp (zI (hb gV s2 σ1 H2 _ I2 q2) λ f s3 q3=>?_);cases f with
  | next=>
   ext Æc
  | cont=>
   ext Æc
  | brk=>show q3
  | ret v=>show q3
 | Á=>
  rw[Ç zd2];show zgS #[σ1,H2,I2,q2]
end
structure It where
 go:Nat->rV
 gU:Nat->Hp->V->rV
 stop:Nat->rV
def mR ê UH ð (b:Addr):Prop:=
 ω/\O5/\Ź3/\Õn/\ÇB
theorem Inv.Ğ9 Æ MX Ÿ Å6 Μ τ Õ (hb:Ë<=b) (hn:Ui):mR X gV H' b:=by
 exact#[hn,zdC (zC3 I.lt hb),I.Ĳ9 hb,Ã (zE0 I.sz hb),ßL,λ p hp z=>?_]
 .let#[v,q]:=Ÿ0;show ò (zC3 q.lt Üy) uE
 .show ò (zC3 (zA8 (KJ p hp).1) Üy) uE
structure Turn Gp È (tg:Expr) (J:It) (fp:Ε) (it:Addr) (tn:ÀN):Prop where
 mem:it∈fp
 obj:∀ i h,tn i h->∀ b∈fp,∃ o,Gg/\Ùs
 keep:∀ i h h',tn i h->(∀ b∈fp,ÀO)->tn i h'
 item:∀ ê,Y6=P->X.w=w->X.K=K->Vl->∀ Í ļ LR,Ķ->(Q_)->tn i í->VF->
  Â Hy X.A Ϸ8 (λ r s1=>∃ u,r=↑u/\
   Â Hy X.A Ýu (λ _ s2=>∃ x H',Inv ú H' s2/\Kl/\ť1/\tn ŏ s2.heap/\Q3) E s1) E s
 done:∀ ê,Y6=P->X.w=w->X.K=K->Vl->∀ Í ļ LR,Ķ->(Q_)->tn i í->WX->
  Â Hy X.A Ϸ8 (λ r s1=>r=none/\Inv ú H s1) E s
 self:∀ Ar Í ϊ (Q:zVP) LR,tn i í->Q qL s->Â Hy A (Lx qL) à
abbrev TI:=St->Hp->(Ua)->Prop
def İ9 ê Rr (tg:Expr) (R:Ua) (itv:Ï) (s2:Α):Prop:=
 ∃ (it:Addr) (fp:Ε) (tn:ÀN) (J:It) (H':Hp),itv=Ò it/\Inv ú H' s2/\μ6/\tn 0 s2.heap/\(ÐM)/\R J H'
def PI ê (tg iter:Expr) (wi:TI):Prop:=
 ∀ ļ (R:Ua),Ķ->wi Û R->
  Â û Ýv (λ v s1=>Â û (Lx v) (İ9 ú tg R) X.xe s1) Ê2
def cG UC ĸ ψ Μ mK{it:Addr}Ż BK{n:ū}{vs:zAV}Jl(ho:Ň it=↑o) (hc:Qj=ů n) (hd:EZ=A_ vs)
  (hn:ÂW=Á) (hQ:Q GJ s):Â M A Ýu à:=by
 unfold Íb;cases tg <;> first
  | show zD1 hQ
  | (cases u <;> first
    | show zD1 hQ
    | (exact zg3 (Ϯ9 ho ?_)
       rw[hc,hd];change Â M A (if (ÂW&&vs[0]? == ↑(rb _))=true then _ else _) à;rw[Ç (by intro h;rw[hn,Bool.false_and] at h;cases h)];show zD1 hQ))
def İ0 È Ĥ:It:=
 #[λ i H=>∃ xs x,Jd/\Jn,λ i H x H'=>H'=H/\∀ xs,Jd->Jn,λ i H=>∃ xs,Jd/\å<=i]
def Ĝ9 È Ĥ:It:=
 #[λ i H=>∃ xs x,sT/\Jn,λ i H x H'=>H'=H/\∀ xs,sT->Jn,λ i H=>∃ xs,sT/\å<=i]
def b9 NY Ď:It:=#[λ i _=>i<n,λ i H x H'=>H'=H/\x=Ê (lo+i),λ i _=>n<=i]
def ċ8 Ĝ Ù mK Ât:Turn R1 (İ0 K a) X6 (λ i h=>h.IsListIter it a i) where
 mem:=#[]
 obj:=λ i h st b hb=>by
  ext Nl
  ext Wo
 keep:=Èh
 item:=by
  ext Ñm;ext ØI;ext ÏI;exact wpAny_pyNext_list_item st ÀP Êp;ext Ι4;ext ω1;show#[u,rfl,cG ÌQ #[x,H,I1,ru,#[rfl,λ ys hy=>by rw[I.Ŋ5 hy hq];show hx],st',PZ]]
 done:=by
  ext ÕU;ext ØI;ext Nw;have hl:=VN;show wpAny_pyNext_list_end Dg st ÀP FK MC
 self:=λ _ _ _ _ _ st h=>wpAny_pyIter_listiter st h
def ě4 Ĝ Ù mK Ât:Turn R1 (Ĝ9 K a) X6 (λ i h=>h.IsTupleIter it a i) where
 mem:=#[]
 obj:=λ i h st b hb=>by
  ext Nl
  ext Wo
 keep:=Èh
 item:=by
  ext Ñm;ext Ùd;ext ÏI;exact wpAny_pyNext_tuple_item Ûi Êp;ext Ι4;ext ω1;show#[u,rfl,cG ÌQ #[x,H,I1,ru,#[rfl,λ ys hy=>by rw[I.œ3 hy hq];show hx],st',PZ]]
 done:=by
  ext ÕU;ext Ùd;ext Nw;have hl:=VN;show wpAny_pyNext_tuple_end Dg Ûi FK MC
 self:=λ _ _ _ _ _ st h=>wpAny_pyIter_tupleiter st h
def ĕ8 Ĝ Ù mK(it:Addr) NY Ď:Turn R1 (b9 lo n) X6 (λ i h=>IsRangeIter h it (lo+(i:Nat)*1) (rl-(i:Nat)) 1) where
 mem:=#[]
 obj:=λ i h st b hb=>by
  ext Nl
  subst e;show#[_,st,λ v z=>by
   have z':Data.fields _=Data.cell v:=z;cases z']
 keep:=λ i h h' st k=>k it #[] _ st
 item:=by
  ext Ζ8;have W:=Walks.range Òy Dg it lo 1 n;exact W.item i s À hg st λ v h' tk hv st' kk=>?_;let#[t,rfl]:=hv;have I1:Inv ú H { s with heap:=h',toks:=tk }:=Wa (λ b o hb e=>kk b o (FZ) e) Ϟ0;exact#[_,rfl,cG (s:={ s with heap:=h',toks:=tk }) (n:="range_iterator") st' L7 () #[Ê (lo+i),H,I1,#[t,?_],Fp,st',PZ]];rw[Int.mul_one]
 done:=by
  ext Ζ8;show wpAny_pyNext_range_end Dg st (by have:n<=i:=hg;lia) MC
 self:=λ _ _ _ _ _ st h=>wpAny_pyIter_rangeiter st h
section
variable {Æ}{mK}
def Ĥ7 ġ{R:Ua}ψ{lo hi:Int}{t u v:Tok}{tk:Nat}Õ (h1:N6<=lo) (h2:lo<2 ^ 62) (h3:N6<=hi) (h4:hi<2 ^ 62)
  (q:R (b9 lo Ϛ1) H):Â û (Lx ş) (İ9 ú tg R) E { s with heap:=Θ2,toks:=tk }:=by
 exact wpAny_pyIter_range (Ýw) (small_one Xk h4) ?_;have I1:Inv ú H { s with heap:=Θ2,toks:=tk }:=TB V6;exact#[ϕ8,[ϕ8],_,_,H,rfl,
  ſ5 (t':=tk) V6,ĕ8 _ lo Ϛ1,?_,qo,q]
 .have e1:lo+Ϛ2*1=lo:=#[];have e2:ÈA=ÏW Ŵ 1:=Êb
  change IsRangeIter À (lo+Ϛ2*1) (ÈA) 1;rw[e1,e2];show Ũ
 .have e:b=ϕ8:=FZ
  subst e;show ţ8
def ŏ1 (ta:TA):TI:=fun σ H R=>ta Û λ vs H1=>∃ j:Int,vs=Ku/\N6<=j/\j<2 ^ 62/\R (b9 0 JY) H1
def ħ6 (ta:TA):TI:=fun σ H R=>ta Û λ vs H1=>∃ i j:Int,vs=rS/\Îz/\R (b9 Ϥ6) H1
theorem Ĕ4 Wk Èq Îj:PI ÕV (ŏ1 ta):=by
 ext Lq;exact Call_ (gh Gv ϯ0 (Zt Ν2 hs rfl));ext XI;let#[j,e,q1,q2,q]:=q1;subst e;cases r1 with
 | cons r rr=>
  cases rr;ext Wc;show call_range_1 (Ĥ7 I1 ć GB ϧ1)
theorem Æ0 Gm Èq ÇK:
  PI ÕW (ħ6 ta):=by
 ext Lq;exact Call_ (gh Gv ϯ0 Ço);ext XI;let#[i,j,e,#[q1,q2,q3,q4],q]:=q1;subst e;cases r1 with
 | cons r rr=>
  cases rr with
  | cons r' rr=>
   cases rr;ext Wc;let#[t',rfl]:=r';show call_range_2 (Ĥ7 I1 GB q3 q4 q)
def ó4 (wi:TI) (g:TG) (tb:TS):TS:=λ D σ H=>wi Û λ J H1=>∃ W:ť2,(∃ m,W 0 m Ħ)/\∀ i m σ H,W i m Û->
 (WX/\D.nx Û)\/(VF/\∃ N:DB,(∀ σ' H',N χ->∃ m',m'<m/\W NV χ)/\∀ x H',ť1->g x σ H' fun σ2 H2=>tb { D with nx:=N,ct:=N,bk:=D.nx } σ2 H2)
def dI (fp:Ε) ĥ:zLA:=fp.filterMap λ b=>(Ke b).map λ o=>ſ6
def ē2 UU ĝ τ BK(hb:b∈fp) (e:Gg):ſ6 ∈dI fp h:=zeY.mpr #[b,hb,ϟ2]
def Č6 UU ĝ{p:Addr×Obj}(hp:p∈dI fp h):p.1∈fp/\Ke p.1=↑p.2:=by
 let#[b,hb,e]:=zeY.mp hp;cases q:Ke b with
 | none=>ext OK
 | some o=>
  rw[q] at e;have e':ſ6=p:=zD5 e;subst e';show#[hb,q]
def Inv.pinned ġ UU Õ (hf:Q_) (ho:∀ b∈fp,∃ o,ϑ/\Ùs):Inv X (gV++dI fp í) Û s:=
 I.ź1 λ p hp=>Ϗ4 (λ z=>KJ p (zB4 _ z)) λ z=>by
  let#[hb,e]:=Č6 z;let#[f0,f1,f2,_]:=hf p.1 hb;let#[o,e',d]:=ho p.1 hb;ext ų4;show#[e,f0,f1,f2,d]
def Inv.de {gV pl:zLA}Ÿ Ø Μ(I:Inv X (gV++pl) Û s):Ķ:=I.ź1 λ p hp=>KJ p (zB4 _ (zdN _ hp))
def ÿ1 {iter:Expr}Tt{wi:TI}{g:TG}{tb:TS}Ć Ř9 ę Ϭ1 (hg:PG X tg g) (hb:pP Ÿ3)
  ψ2:PS X ÐN (ó4 wi g tb):=by
 ext Aj;exact wpAny_For Çc hs;let#[it,fp,tn,J,H2,e,I2,T,st2,f2,W,ů3,turn]:=h2;subst e;have stat:∀ Qh,(Q3)->ÐM:=λ hn b hb=>#[hn ţ,(f2 ţ).2];exact codeAny_forLoop_any (λ n s'=>∃ i σ' H',JR/\ÍP) ?_ m0 #[0,σ,H2,I2,st2,λ b hb=>(f2 ţ).1,w0];rintro n s3 ⟨i,σ3,H3,I3,st3,fr3,w3⟩;rcases Õo with ⟨stop,qn⟩ | ⟨go,N,hN,step⟩
 .exact zgK hp (zI (T.done X ÌR π8 stop) ť3);ext ÞU;show zgS #[σ3,H3,I4,qn]
 .exact zgK hp (zI (T.item X ÌR π8 go) ť3);ext ÕX;exact zgK hp ÑQ;ext Ån;exact zgK hp (zI Çp ßM);ext ØK;exact zgK hp (zI (hb ØJ) λ f s7 q7=>?_);have again:∀ {σ7:St}{H7:Hp},Inv X (gV++ßN) σ7 H7 s7->N σ7 H7->∃ m,m<n/\∃ i σ' H',Inv X gV χ s7/\tn i s7.heap/\Ùt:=λ{σ7 H7} I7 n7=>by
   let#[m',hm,w7]:=hN σ7 H7 n7;exact#[m',hm,i+1,σ7,H7,I7.de,T.keep Ú st5 λ b hb o e=>(I7.pin Vj).1,qo,w7];ext Ñn;show (I7.pin Vj).2.1
  cases f with
  | brk=>let#[σ7,H7,I7,q7]:=q7;show#[σ7,H7,I7.de,q7]
  | ret v=>let#[x7,σ7,H7,I7,r7,q7]:=q7;show#[x7,σ7,H7,I7.de,r7,q7]
  | _=>let#[σ7,H7,I7,n7]:=q7;show again I7 n7
end
abbrev R2:=V->wK
def yH ê (f:Åy) (r:R2):Prop:=
 ∀ ļ (x y:V) (v u:Ï) Κ,Ķ->LQ->pK->r EN->
  Â Ào AK
def ō0 ê (f:ϯ1) (r:wK):Prop:=
 ∀ ļ (x:V) (v:Ï) Κ,Ķ->LQ->r x H Q->
  Â û (f v) AK
def xH ê (f:Ï) (r:KA):Prop:=
 ∀ ļ Jh K0 Κ,Ķ->qa->ÀQ->
  Â û (call f us) AK
def zbc ê (r:V->Ûl):Prop:=
 ∀ ļ (x:V) (v:Ï) qb,Ķ->LQ->r x H Q->
  Â û (truthy v) ŧ8
def Ł7 (r:R2) Ž4:TE:=fun σ H Q=>ta Û λ x H1=>tb Ħ λ y H2=>r UP Q
def Ċ5 (r:wK) (ta:TE):TE:=fun σ H Q=>ta Û λ x H1=>r x H1 Q
def rI (C:IP) (g:ϧ2):R2:=λ x y H Q=>∃ i j,x=ñ/\y=AM/\C i j/\Q Iz H
def ni (g:ϧ2):R2:=λ x y H Q=>∃ i j,x=ñ/\y=AM/\Q Iz H
def Ŏ4 (g:Int->V):wK:=λ x H Q=>∃ i,x=ñ/\Q (g i) H
section
variable {Æ}{Gm}{ta tb:TE}{Ć}
def ķ5 vG MX Μ Ÿ Ø{R:V->V->rV}Õ
  (h:ta Û λ x H1=>tb Ħ λ y H2=>R UP) ē Ud
  (hf:∀ v u s2 x y H2,Inv ú H2 s2->LQ->pK->R UP->Â Ào Q X.xe s2):
  Â û (X4) (λ v s₁=>Â û (V4) (λ u s₂=>Â Ào Q X.xe s₂) X.xe s₁) Ê2:=by
 exact ů2;ext Dx;exact zI ÀR ßO;ext Ót;show hf v u s2 UP Âm
def ñ9 {op:Operator}{r:R2}(ho:Ûq) vG:PE X Ýx ů5:=by
 ext Ŋ;show wpAny_BinOp ÄH
def Ē6 {op:UnaryOp}{r:wK}(ho:ō0 X (unaryOp op) r) qx:PE X (ÀS op a pos) (Ċ5 r ta):=by
 ext Ŋ;show UnaryOp_ (zI uI λ v s1 Bc=>ho vV x v Q je)
def dW Ud{C:IP}{g:ť4}
  (rule:∀ Ο0,C i j->ÄZ):
  yH X f (rI C Ϛ3):=by
 ext uJ;let#[i,j,rfl,rfl,hc,q]:=h;ext OD;show rule Ϥ7 hc ÌD
def ō2 Ud{g:ť4}
  (rule:∀ Ο0,ÄZ):
  yH X f (ni Ϛ3):=by
 ext ÉX;show rule Ϥ7 ÌD
def aV Ud{g:Int->Int->Bool}
  (rule:∀ Ο0,Q (ź Iz) s->ËB):
  yH X f (ni λ i j=>.bl Iz):=by
 ext ÉX;show rule Ϥ7 #[.bl Iz,H,I,rfl,q]
def pS tP:Prop:=0<j/\j<1073741824
def iH tP:Prop:=0<=j/\j<=1000000/\OX<2 ^ 64
def nB tP:Prop:=(-(2 ^ 64)<i/\i<2 ^ 64)\/(-(2 ^ 64)<j/\j<2 ^ 64)
def nB.ok Ε5(h:nB i j):IntMulOk i j:=by
 rcases h with ⟨h1,h2⟩ | ⟨h1,h2⟩
 .show .of_left ÓT
 .show .of_right ÓT
def à3 Ŕ:ſ7<=2 ^ k:=by
 rw[two_pow_cast];show Int.natCast_nonneg _
def Ð1:yH YH (ni λ i j=>Ź9):=ō2 λ _ _ _ _ _ _ _ q=>add_int q
def ë4:yH X (Iu .Sub) (ni υ2):=ō2 λ _ _ _ _ _ _ _ q=>sub_int q
def ą2:yH Ϥ8 (rI nB λ i j=>ź0):=dW λ _ _ _ _ _ _ _ hc q=>mul_int q hc.ok
def û4:yH X (Iu .FloorDiv) (rI ν6):=dW λ i j _ _ _ _ _ hc q=>by
 have h1:ſ7<j:=Bu;have h2:j<1073741824:=hc.2;show floordiv_int ⋯ (by rw[ÍQ i ⋯];show q) (Ä (PyProof.noPylong_small ⋯))
def é8:yH X (Iu .Mod) (rI Ξ8):=dW λ i j _ _ _ _ _ hc q=>by
 have h1:ſ7<j:=hc;show mod_int' ⋯ (by rw[Int.fmod_eq_emod_of_nonneg i ⋯];show q)
def Ê6:yH X (Iu .Pow) (rI Τ6):=dW λ _ _ _ _ _ _ _ hc q=>pow_int_small Bu hc.2.1 hc.2.2 q
def ĕ7:yH X (Iu .RShift) (rI Λ6):=dW λ i j _ _ _ _ _ hc q=>
 rshift_int hc (by rw[ÍQ i (à3 _)];show q)
def Ė3:yH X (Iu .BitAnd) (ni Ν7):=ō2 λ _ _ _ _ _ _ _ q=>and_int q
def đ6 {f:ϯ1}{g:Int->Int}
  (rule:∀ Q4 KH ϊ (Q:zVP) LR,Q (Ê (g i) ø) { s with toks:=G5 }->Â û (f (Rp)) à):
  ō0 X f (Ŏ4 λ i=>Ê (g i)):=by
 ext Úz;let#[i,rfl,q]:=h;ext F6;show rule i t s À #[Ê (g i),H,rE,ϓ,q]
def æ9:ō0 X (unaryOp .USub) (Ŏ4 λ i=>Ê (-i)):=đ6 λ _ _ _ _ _ q=>neg_int q
end
section
variable {Æ}{a b c:Expr}{ta tb tc:TE}{Ć}
def Ġ3 ġ Rg{k k':Bool}Õ (q:Q (Gj) H) (e:k=k'):EP ú Q (ź k') s:=by
 subst e;show#[Gj,H,I,rfl,q]
def Ă8:yH Àp (ni λ i j=>ŝ4):=aV λ _ _ _ _ _ _ _ q=>lt_int q
def zP:yH X (ϒ .LtE) (ni Zq):=aV λ _ _ _ _ _ _ _ q=>le_int q
def Æ5:yH X (ϒ .Gt) (ni WT):=aV λ _ _ _ _ _ _ _ q=>gt_int q
def Ľ2:yH X (ϒ .GtE) (ni aM):=aV λ _ _ _ _ _ _ _ q=>ge_int q
def Ĕ6:yH X (ϒ .Is) (λ x y H Q=>Ìa):=by
 ext Óv;exact is_none_gen (Ġ3 I q ?_);cases x <;> first
  | (cases rx;rfl)
  | (ext F6;rfl)
def Ý6:yH X (ϒ .IsNot) (λ x y H Q=>ËC):=by
 ext Óv;exact isnot_none_gen (Ġ3 I q ?_);cases x <;> first
  | (cases rx;rfl)
  | (ext F6;rfl)
def yH.or Ud Xl(h:yH X f r) (h':yH X f r'):yH X f ÍR:=by
 intro gV s σ H x y v u Q I rx ry q;ext Ů0
 .show h Ψ9 q
 .show h' Ψ9 q
def Ă5 (b:Expr) AY(h:op≠.In:=by decide) (h2:op≠ J9:=by decide):AQ:=by
 ext Ëc
 ext Êy
 ext Õa
def Ó2 AY{r:R2}Ni vG (hm:AQ):PE Ru ů5:=by
 ext Ŋ;show wpAny_Compare1 ÄH hm
def ĥ1 qg:TT:=fun σ H Q=>t Û λ x H'=>∃ k,x=Gj/\Q k H'
def Ĉ8 AY{r:R2}Ni vG (hm:AQ):PT Ru (ĥ1 ů5):=by
 ext Ŋ;exact ÑP (zI uI λ v s1 Bc=>zI ÀR λ u s2 Ïk=>
  zI ÌE λ c s3 ÊI=>?_) hm
 subst e;cases r3;show zgD #[H3,I3,q3]
def İ1 (r r':R2) (ta tb tc:TE):TE:=fun σ H Q=>ta Û λ x H1=>tb Ħ λ y H2=>r UP λ z H3=>∃ k,z=Gj/\
 (if Hr then tc σ H3 λ w' H4=>r' y w' H4 Q else Q LN H3)
def è3 ũ4 X8 vG (hc:PE MT)
  Wr:PE Xp Ùu:=by
 ext Ŋ;exact Compare_chain (zI uI λ v s1 Bc=>chain_link Ãd) hm
 ext ÜG;cases k with
 | Á=>show ite_ff #[.bl Á,H3,I3,rfl,q3]
 | true=>show ite_tt (chain_last (zI Ïl λ w' s4 #[z',H4,I4,r4,q4]=>ho' ÔG Q I4 r2 r4 q4))
def ê0 ũ4 X8 vG (hc:PE MT)
  Wr:PT Xp (ĥ1 Ùu):=by
 ext Ŋ;exact isTrue_chain (zI uI λ v s1 Bc=>test_link Ãd) hm
 ext ÜG;cases k with
 | Á=>
  let#[k',e',q']:=q3;cases e';show ite_ff #[H3,I3,q']
 | true=>
  exact ite_tt (test_last (zI Ïl λ w' s4 z0=>?_));let#[z',H4,I4,r4,q4]:=z0;exact zI (ho' ÔG _ I4 r2 r4 q4) λ d' s5 z0=>?_;let#[z2,H5,I5,r5,k2,e2,q5]:=z0;subst e2;cases r5;show zgD #[H5,I5,q5]
def ŷ3 È (x:V) ð E6:Prop:=
 match x with
 | .zx=>k=Á
 | Ŭ=>k=b
 | ñ=>k=(i != 0)
 | uX=>ÎA
 | .bq y=>Ëg
 | Č=>(∃ xs,ϯ2/\k=! tL)\/(∃ xs,y8 ϵ0/\k=! tL)\/Êc
 | _=>Þ
def Ô1 Pc DR:(!vs.isEmpty)=ϟ8:=by
 cases r <;> rfl
def Ï3 ÿ sr(r:EV):(! Qt)=! tL:=by
 cases r <;> simp
def h_:(Ý:Nat)<2 ^ 63:=by rw[ū0];decide
theorem Æ7:zbc X (λ x H Q=>∃ k,ŷ3 X.K x H k/\Q k H):=by
 ext Úz;let#[k,e,q]:=h;have hl:=h_;have hs:IU:=ū0;cases x with
 | zx=>
  cases rx;have e':k=Á:=e;subst e';show truthy_none ϟ9
 | bl b=>
  cases rx;have e':k=b:=e;subst e';show zgD ϟ9
 | int i=>
  ext F6;have e':k=(i != 0):=e;subst e';show PySem.P.truthy_int ϟ9
 | str y=>
  ext F6;obtain⟨hy,e'⟩:ÎA:=e;subst e';show PySem.P.truthy_str ÚA
 | bq y=>
  ext F6;obtain⟨hy,e'⟩:Ëg:=e;subst e';show PySem.W.truthy_bytes ÚA
 | ref p=>
  cases rx;have e':(∃ xs,yy ė p xs/\k=! tL)\/(∃ xs,y8 ė p xs/\k=! tL)\/Êc:=e;rcases e' with ⟨xs,hx,e'⟩ | ⟨xs,hx,e'⟩ | ⟨kvs,hx,e'⟩
  .subst e';let#[its,r,pl,hz]:=S_ hx;have hlen:=Az;show wpAny_truthy_list IV ÊC
  .subst e';let#[its,r,pl,hz]:=ξ hx;have hlen:=Az;show truthy_tuple pl ÊC
  .subst e';obtain⟨hz,hS,vs,r,m⟩:Q6/\(p == Ma)=Á/\∃ vs,YY/\ßP ſ8 p vs:=I.zJ p _ hx;have hlen:HK=ŀ:=Al r;show wpAny_truthy_dict hS m ⋯ #[H,rE,by rw[Ô1 r];show q]
 | _=>show (show Þ from e).elim
def Ă3 qx (he:Äc):
  PT X a (fun σ H Q=>ta Û λ x H'=>∃ k,ŷ3 X.K x H' k/\Q k H'):=by
 ext Ŋ;show isTrue_plain (zI uI λ v s1 Bc=>Æ7 vV x v Q je) (he _)
def ă9:yH YH (λ x y H Q=>Åg):=by
 ext uJ;let#[i,j,rfl,rfl,hz,q]:=h;ext OD;show add_str (λ t' tk=>#[W0,H,rE,ϓ,q]) hz
def vals1 Ϯ Ń(r:Vals [x] us):Ùv:=by
 cases r with
 | cons r1 r2=>cases r2;show#[_,rfl,r1]
def vals2 {x y:V}Ń(r:Vals Rj us):∃ u w',us=[u,w']/\Kl/\RelV y w':=by
 cases r with
 | cons r1 r2=>
  cases r2 with
  | cons r3 r4=>cases r4;show#[_,_,rfl,r1,r3]
def zam ę:xH X (Ű "max") (λ xs H Q=>∃ i j,xs=rS/\Q (Ê (ϒ6)) H):=by
 ext Äq;exact max_two_ints ÇL;by_cases hj:j>i
 ext ßz
 .ext M7;show ϓ
def zak ę:xH X (Ű "min") (λ xs H Q=>∃ i j,xs=rS/\Q (Ê (ϔ7)) H):=by
 ext Äq;exact min_two_ints ÇL;by_cases hj:j<i
 ext ßz
 .ext M7;show ϓ
end
structure gL ĥ (x dx C:Addr) (mA:zSV):Prop where
 obj:Ke x=↑ Ϯ1
 ns:Ϧ5
 ne:dx≠x
def Ô0 ĝ{dx:Addr}{mA:zSV}(n:Ϧ5):∃ od,Ke dx=↑od/\ÇC:=by
 let#[o,es,ep,ho,hd,hk,_,hm]:=n;exact#[o,ho,λ name=>?_];have e:=hm name;unfold nsFind findBy at e;rw[<- Array.find?_toList] at e;unfold ϕ9;rw[hd];ext ë;split
 .rename_i y q;rw[q] at e;show É2 some e
 .rename_i q;rw[q] at e;have a:ÎB=Á:=by
   rw[zeZ];intro y hy;let#[z,t,hkey]:=hk y (Array.mem_toList_iff.mp hy);simp[DictEntry.refKey,hkey]
  have a':¬ ÎB=true:=by rw[a];show zd2
  rw[Ç a'];show É2 some e
def gL.look ĝ{x dx C:Addr}{mA:zSV}(I:gL h x dx C mA):∃ od,PySem.W.InstAt h x Ϯ1 C ↑od/\ÇC:=
 let #[od,ho,hl]:=Ô0 I.ns
 #[od,#[I.obj,rfl,rfl,ho],hl]
section
variable {ś}{Ù}{x dx C f:Addr}{mA:zSV}{name:Str}{vN}
def get_map {expr:Bool}ē Ψ6 (hg:ÖH) (hh:YA)
  (ha:ý8 HP name=↑none) (hv:mA name=↑v) (hv':Ùw v=true) (h:Q v { s with toks:=G5 }):
  Â ã (getAttr NX name expr) à:=by
 ext ό8;show PySem.W.get_value X J (ς6).1 (PySem.W.findObj_own hh ha rfl (by rw[hl,hv])) hv' h
def í7 ŭ9{Q:Ï × KG->ŭ}Ψ6 (hg:ÖH)
  (hf:ý8 HP name=↑↑ π) (ht:fT) (hv:mA name=none) (h:Q (Ò f,[Ò x]) s):
  Â ã (Xg NX name pl) à:=by
 ext ό8;show PySem.W.method_fn X J (ς6).1 (ς6).2 hf (Ϛ4 ht) (by change (ϕ9 name od).map (·.isSome)=↑ Á;rw[hl,hv];rfl) h
def ė1 {ns:þ}Jl Ψ6
  (hs:Θ7) (hp:ν4) (ht:ϒ7 K C name=↑none) (hh:YA)
  (hw:PySem.Within mA ns) (hsz:Δ<=Ý)
  (h:∀ h',gL h' x dx C (λ y=>if y=name then ↑v else mA y)->v8 dx J4->Q GJ { s with heap:=h',toks:=ø+2 }):
  Â ã (setAttr NX name v) à:=by
 ext ό8;exact PySem.W.set_plain X J hs (PySem.W.osa_open (s:={ s with toks:=G5 }) (r:=none) X J hp ht λ b=>?_);let#[cd,hc,hd']:=PySem.W.any_some hh;have hx:Ň x=↑#[Ò C,↑dx,.plain,Ē]:=I.obj;exact zg3 (zD1 (zg3 (zg3 (wpAny_loadPart hx (zg3 (PySem.W.Looks.here (s:={ s with toks:=G5 }) (PySem.W.looks_clsIn X hc) ?_))))));rw[hd'];exact zD1 (a:=↑dx) (zg3 (zD1 (Fz)));exact wpAny_nsSet1 (s:={ s with toks:=G5 }) I.ns λ h' hn2 hs2=>?_;let#[oD,esD,epD,hoD,hdD,hcD]:=hn2.count (PySem.Within.cons name v hw);exact zg3 (wpAny_lookBehind hoD (by rw[hdD];show pastItsLine_dict (zE0 hcD (by rw[zC0];lia))) ?_);show zD1 (h _ #[(hs2.2 _ (Ĭ I.ne)).trans I.obj,hn2,I.ne] hs2)
def þ7 {R:ů6}ς{kw:MZ}(X:ſ9) (hm:ξ0)
  (hi:Χ2) (hf:PySem.W.typeIn K π=↑(ů "function"))
  (h:qG ϯ3 (A.under (Ű "type.__call__" #[Ò C::vs,kw])) (.call π #[Ò sd::vs,kw]) (PySem.W.InitBack sd R)
   { s with heap:=ξ1 }):
  qG ã (.call La #[vs,kw]) R s:=by
 let#[hh,g,d,t,os]:=s;show PySem.W.make_core (PySem.W.makes_of X hm) (PySem.W.looks_findIn X hi) (λ self=>PySem.W.bind_fn X self hf) JO h
end
def nj xw Ee:HD->HD
 | []=>[(f,v)]
 | (g,x)::r=>if g=f then (g,v)::r else (g,x)::nj f v r
theorem Ī4 (f g:Str) Ee:∀ fs:HD,(Ŵ4).lookup g=if g=f then ↑v else NS g
 | []=>by
  change FI g [(f,v)]=_;by_cases h:g=f
  .have hb:(g == f)=true:=Ϗ7;simp![FI,hb,Ô h]
  .have hb:(g == f)=Á:=qu h;simp![FI,hb,Ç h]
 | YU=>by
  have ih:=Ī4 f g v r;ext Ι5
  .rw[LJ];by_cases h:g=k
   .have hb:(g == k)=true:=Ϗ7;simp![FI,hb,Ô (h.trans hk)]
   .have hb:(g == k)=Á:=qu h;simp![FI,hb,Ç (λ e:g=f=>h (e.trans hk.symm))]
  .rw[IE];by_cases h:g=k
   .have hb:(g == k)=true:=Ϗ7;simp![FI,hb,Ç (λ e:g=f=>hk (h.symm.trans e))]
   .have hb:(g == k)=Á:=qu h;simp![FI,hb];show ih
theorem œ4 xw Ee:∀ fs:HD,f∈(Ŵ4).map ĉ/\∀ g,g∈ Ϸ9->g∈(Ŵ4).map ĉ
 | []=>#[by simp[nj],λ g h=>A2]
 | YU=>by
  let#[i1,i2]:=œ4 f v r;ext Ι5
  .rw[LJ];subst hk;show#[#[],λ g h=>FN]
  .rw[IE];exact#[?_,λ g h=>?_]
   .rw[zA6];show zc8 _ i1
   .rw[zA6] at h ⊢;ext ϙ5
    .show zA5.mpr Vg
    .show zc8 _ (i2 g e)
theorem Ĳ6 xw Ee:∀ fs:HD,(Ŵ4).length<=U_+1
 | []=>by simp[nj]
 | YU=>by
  have ih:=Ĳ6 f v r;ext Ι5
  .rw[LJ,zC0,zC0];lia
  .rw[IE,zC0,zC0];lia
def ů8 ř{o:Dv}(r:oK ↑v o):∃ u,o=↑u/\vD:=by
 cases o with
 | none=>show tN
 | some u=>show#[u,rfl,r]
def oK.none_of {o:Dv}(r:oK none o):o=none:=by
 cases o with
 | none=>rfl
 | some u=>show tN
def ě1 ř Ż aR:Ùw u=true:=by
 cases v with
 | zx=>cases (show u=Fm from r);rfl
 | bl b=>cases (show u=RQ b from r);rfl
 | int i=>ext ßA;cases e;rfl
 | str x=>ext ßB;cases e;rfl
 | bq b=>let#[t,e]:=(show ÐG from r);cases e;rfl
 | W2 b=>let#[t,e]:=(show ÐH from r);cases e;rfl
 | ref a=>cases (show bf from r);rfl
 | ty n=>cases (show u=WZ n from r);rfl
section
variable {Ĝ}{Ø}{ĝ}{ÜH}
def fQ (zJ:Μ6) (e:H a=↑ JN):∃ mA,gL h a dx C mA/\(Ψ2)/\Ía/\U_<=1000/\H dx=↑ Qp:=by
 let#[d,z,ne,ob,mA,n,r,q]:=(show xN AZ JN from zJ a _ e)
 show#[mA,#[ob,n,ne],r,q,z,d]
end
structure lA È Jx:Prop where
 pg:ÐO
 hd:YA
 po:ν4
 sa:Θ7
def lA.get Ù YK(c:eF) xw:Χ7 V2=true:=c.pg
def i5 È Jx xw:Prop:=ÖI
def i5.taker Ù YK{f:Str}(n:ÀT):ϒ7 V2=↑none:=by
 unfold ϒ7;rw[show ÖI from n];rfl
structure Meth È Jx (m:Str) RF:Prop where
 at_:ÑR
 fn:fT
 kp:t_
section
variable {Æ}{ġ}{ÜH}{f:Str}{ř}{ĸ}{ψ}
def Ø9 tp ē Õ ο1 (n:i5 GD f) (l:NS f=↑v)
  (h:∀ u s',Rv->vD->Q u s'):Â GR (getAttr ě f b) à:=by
 ext ÎZ;let#[u,hu,ru]:=ů8 (v:=v) (o:=mA f) (by rw[<- l];show r f);show get_map I.vf O (c.get f) c.hd n hu (ě1 ru) (h u _ Gu ru)
def ċ5 {m:Str}{g:Addr}ŭ9{Q:Ï × KG->ŭ}Õ ο1 (k:Meth GD m g) (l:NS m=none)
  (h:Q (Ò g,[õ]) s):Â GR (Xg ě m pl) à:=by
 ext ÎZ;have hn:mA m=none:=oK.none_of (by rw[<- l];show r m);show í7 I.vf O (c.get m) k.at_ k.fn hn h
def Ç2 {y:V}Ż Jl Õ ο1 (n:i5 GD f) (hl:U_<1000) JA
  (h:∀ s',Inv ú (upd H a ÏX) s'->Ź6):Â GR (setAttr ě f u) à:=by
 let#[mA,O,r,wi,_,ho]:=fQ Fs;have hz:(Ϸ9).length<=Ý:=by rw[zA7,ū0];lia
 exact ė1 I.vf O c.sa c.po n.taker c.hd wi hz λ h' O' sb=>h _ ?_;have hd:∃ o,ϝ dx=↑o:=let #[o,_,_,e',_]:=O'.ns;#[o,e']
 exact Mg (x:=a) (e:=dx) ϙ7 (Ã ho) (λ b q hb z=>Ùx z) hd ?_;exact#[by rw[yv O.ne];show ho,?_,O.ne,O'.obj,_,O'.ns,λ g=>?_,λ g hg=>?_]
 .have:=Ĳ6 Og;lia
 .change oK ((nj Og).lookup g) ÐA;rw[Ī4];by_cases q:g=f
  .rw[Ô q,Ô q];show ry
  .rw[Ç q,Ç q];show r g
 .by_cases q:g=f
  .rw[q];show (œ4 Og).1
  .exact (œ4 Og).2 g (wi g λ z=>hg ?_);change ÐA=none;rw[Ç q];show z
def Inv.made Õ:Inv ú (upd (upd H Ë (Ř sd)) sd (.ins C Ë []))
  { s with heap:=ξ1 }:=by
 have e1:(QQ).get? Ë=↑ Κ5:=zA9 í rfl;have e2:(ξ1).get? sd=↑(ÀU):=by
  have:=zA9 (QQ) (o:=ÀU) rfl
  rwa [IW] at this
 have e3:(QQ).Ns Ë (Fh):=#[Κ5,Ē,_,e1,rfl,(λ e he=>ò he #[]),Ic];have I1:=Ι (a:=Ë) (o:=Ř sd) (h':=QQ) (t':=ø) ţ9 ľ #[_,e1];exact I1.laid (a:=uA) (o:=.ins C Ë []) (t':=ø) ţ9 (zf0 (IW À)) ?_;have ne:Ë ≠ uA:=ū1;exact#[by rw[yv ne,yF],Dr,ne,e2,Fh,(Heap.Ns1.of_empty e3).at λ o q=>BF,λ _=>HQ,λ y hy=>ò rfl hy]
def zaS Kt Fu č{f:Str}Ć Μ ē(hb:GW e f env (ϯ4)=ϯ4)
  (h:Â ã (ϯ4) (λ o s₁=>Â ã (getAttr o f true) Q E s₁) E s):Â ã (eval (Ρ e f pos) env) à:=
 Attribute_any_ h (by rw[arm_eval_Attribute,hb])
end
def É7 È (ta:TE) xw:TE:=fun σ H Q=>ta Û λ x H1=>∃ a C dx fs v,ż/\H1 a=↑ JN/\eF/\ÀT/\NS f=↑v/\Q v H1
def Â8 È (ta tv:TE) xw:TS:=λ D σ H=>tv Û λ y H1=>ta Ħ λ x H2=>∃ a C dx fs,ż/\H2 a=↑ JN/\eF/\ÀT/\U_<1000/\
 D.nx σ (upd H2 a ÏX)
section
variable {Æ}{o e Ϩ:Expr}{f:Str}{pos pos':Pos}{ta tv:TE}
def ú9 (he:PE X e ta) (hb:GW e f Ö (FV)=FV):PE X (Ρ e f pos) (É7 X.K ta f):=by
 ext Ŋ;exact zaS hb (zI WC De);let#[x,H1,I1,rx,a,C,dx,fs,v,ex,ea,c,n,l,q]:=z0;ext sJ;show Ø9 I1 ea c n l λ u' s2 I2 ru=>#[v,H1,I2,ru,q]
def Á2 (ha:PE X o ta) (hv:PE X Ϩ tv) (hs:IK Ϩ ↑(Ρ o f pos') DE=SU):PS X (sO [Ρ o f pos'] Ϩ pos) (Â8 X.K ta tv f):=by
 ext Aj;exact plainObj_wpAny_Assign_Attribute (zI (hv El) De) hs;let#[y,H1,I1,ry,q]:=z0;exact zI (ha Ân) λ ov s2 z0=>?_;let#[x,H2,I2,rx,a,C,dx,fs,ex,ea,c,n,l,q2]:=z0;subst ex;obtain rfl:ov=ŉ a:=rx;show Ç2 I2 ea c n l ry λ s3 I3=>#[σ,_,I3,q2]
end
structure y4 Ŕ Ar:Prop where
 hd:X3
 dp:Α0+3*k+5<Ýy
 un:ϡ+16*k+200<İ
def y4.mono {j k:Nat}ĸ(r:SO) (h:j<=k):y4 j A:=#[r.hd,Õp,Öp]
theorem y4.deeper į ĸ(r:y4 š A) (env:Env):y4 k (GO env):=
 #[r.hd,by have:=r.dp;change Α0+1+3*k+5<_;lia,by have:=r.un;change ϡ+3+16*k+200<_;lia]
def î6 ĸ YK Ń{kw:MZ}:(iP).depth=Α0+1:=by
 first | rfl | simp[Ϡ0,Code.weight,Code.isCreation,Code.isGuard,Code.isCaller,Code.frames,Ϡ1,guardIds]
def Ç7 ĸ YK Ń{kw:MZ}:(iP).units=ϡ+1:=by
 first | rfl | simp[Ϡ0,Code.cUnits,Code.frames,Ϡ1]
def y4.make į ĸ(r:y4 š A) Jx K0 (kw:MZ):y4 k (iP):=
 #[r.hd,by have:=r.dp;rw[î6];lia,by have:=r.un;rw[Ç7];lia]
theorem y4.depth į ĸ(r:SO):Α0<Ýy:=Õp
theorem y4.units į ĸ(r:SO):ϡ+64<İ:=Öp
def gX:TA:=λ _ H Q=>Q [] H
def dg (ta:TE) (tr:TA):TA:=fun σ H Q=>ta Û λ x H1=>tr Ħ λ xs H2=>Q Lv H2
section
variable {Æ}{č}{ĩ}{uN}{t:TA}{Ć}
def k_:PA X [] gX:=λ _ _ _ _ H Q I h=>ξ2 #[[],H,I,Ð,h]
def ja (ha:PE tI) (hr:ϸ0) (hs:E5:=by rfl):PA X Hi (dg te t):=by
 intro pos gV s σ H Q I h;rw[hs];change Â À (OH (RG::GA pos wB)) Ϗ;exact Xf (zI uI De);ext Dx;show zI (hr pos vP) ÄS
def Þ4 Ao:TE:=fun σ H Q=>t Û λ xs H1=>FA/\∀ p,H1 p=none->Q Đ (upd H1 p Eg)
def ą0 Ao:TE:=fun σ H Q=>t Û λ xs H1=>FA/\∀ p,H1 p=none->Q Đ (upd H1 p uc)
def ð6 {x1} (h:ϸ0):PE X (Qz es x1 pos) (Þ4 t):=by
 intro gV s σ H Q I hq;exact wpAny_Tuple_spliced ÅU;have hf:H1 Ϸ=none:=XA;exact#[Ò Ϸ,upd H1 Ϸ Eg,ÇQ,rfl,q _ hf];show#[#[z,Hq],us,r,#[_,Ũ,rfl,_,rfl]]
def ē4 (h:ϸ0):PE X Ýz (ą0 t):=by
 intro gV s σ H Q I hq;exact wpAny_List_spliced ÅU;have hf:H1 Ϸ=none:=XA;exact#[Ò Ϸ,upd H1 Ϸ uc,ÇQ,rfl,q _ hf];show#[z,us,0,r,Ũ]
end
abbrev Sp:=Ŧ->Hp->VK->XK->Prop
abbrev lB:=rY->Hp->Α->XK->Ï->ŭ
structure gT Gp È Rb u9:Prop where
 frames:A.frames=↑ ı
 mod:Mod K mg base
 bs:∀ b o,base.get? b=↑o->ϑ/\ω
 iw:base.objs.size<=Ë
 lg:ş8 base ı
 gp:∀ b∈mF ı,ω
 zJ:xO P w H í
 bare:Ri s.gens
def ħ9 (ı:rY) Gp ð ϊ Κ (u:Ï) Gh:Prop:=
 ∃ v H',s'.os=s.os/\Ϧ9/\Un (mF ı) [] H H' í LW/\xO P w H' LW/\vD/\PC
def Ï1 (CX:lB) (ı:rY) Gp ð ϊ Κ ϧ (r:Result) Gh:Prop:=
 match r with
 | .ok (ύ u)=>ÑS
 | .ok _=>Þ
 | .error e=>CX Âo e s'
structure ot Gp È Rb (CX:lB) Ŕ RF (fd:tS) Fy (sp:Sp):Prop where
 len:Υ4
 run:∀ u9 (args:Args) K0 VV Κ ϧ,SO->ϸ1->TU s fd args Υ5->Km->XZ->
  qG Hy A (.call π args) (Ï1 CX Òz E) s
def gT.make Ĝ Ù EG ĸ{ı:rY}Μ Ø(e:ϸ1) Jx K0 (kw:MZ):
  gT ķ (iP) ı s H:=#[by first | show e.frames | (simpa [Ϡ0,Code.envs,Ϡ1,pushEnvs] using e.frames),e.mod,e.bs,e.iw,e.lg,e.gp,e.zJ,e.bare]
section
variable {Æ}{MX}{Ÿ}{Ø}{s s':Α}
def Inv.Ļ3 Õ:gT FO X.A Qx s H:=
 #[I.ok.frames,ÀI,I.bs,Ùy,I.stack,I.ł9,I.zJ,rQ]
theorem Inv.after Rg Ż Õ (h:ħ9 Qx Ů H s Q u s'):EP ú Q u s':=by
 let#[v,H',os,bare,un,zJ,r,q]:=h;let#[hh,g,d,t,os']:=s';obtain rfl:os'=s.os:=os;show#[v,H',I.call (h':=hh) (g':=g) (d':=d) (t':=t) (ch:=[]) un zJ bare (λ b z=>ò z #[]),r,q]
end
def Ŏ0 (sp:Sp) (dvs:Ŧ) ϧ Ao:TE:=fun σ H Q=>t Û λ vs H1=>sp Kg H1 Q E
def Ó4 Jx (sp:Sp) (dvs:Ŧ) ϧ Ao:TE:=fun σ H Q=>t Û λ vs H1=>∀ x dx,H1 x=none->H1 dx=none->dx≠x->
 sp (Ò x::Kg) (upd (upd H1 dx Q0) x ϖ0) ÌF E
def Binds È (fd:tS) Fy (ds:zLV):Prop:=
 ∀ ϊ K0,ſ9->ÓU->TU s fd UL (ps.zip ų5)
def Binds.all Ù{fd:tS}F_(h:∀ us:KG,Pb->S7 fd UL=T2):UD:=λ s us _ hl=>by
 rw[zd1] at hl ⊢;show .of_eq (h us hl)
def Passes (CX:lB) ê ϧ:Prop:=∀ Rr ð ϊ (e:Ï) Gh,Ķ->CX Qx H s E e s'->X.xe e s'
section
variable {Æ}{Xy}{į}{f C:Addr}{fd:tS}{F_}{Ïa}{ô}{p pos:Pos}{č}{ĩ}{t:TA}
def Ő2 ġ Rg Ń{vs:Ŧ}Xs Ky Uy
  Õ (r:Km) (h:sp Kg H Q E):Â û (call π us) AK:=by
 have r2:Vals Kg ų5:=f_ hd;have hl:ÓU:=by rw[<- Y0];show F.len ņ h
 exact ϯ5 (GZ (F.run X.A Qx s H UL ų5 Kg Q E hr I.Ļ3 (hb s us I.vf hl) r2 h) ßQ);cases r with
 | error e=>show hx gV Û s e s' I hq
 | ok fl=>
  cases fl with
  | ret u=>show I.after hq
  | _=>show Ah hq
def Ü9 Xs Ky μ Ëw Uy
  OC Š7 Ν3:
  PE ØL:=by
 ext Ŋ;exact υ3;exact Ŝ4 ν0 hk (zI ϧ3 ÆV) Ip;show ÏY
structure Mk È (C f:Addr):Prop where
 makes:ξ0
 init:Χ2
 fn:fT
 kp:Yz HP=true
def ï4 ġ Rg Ń{vs:Ŧ}(M:Mk GD f) Xs (hr:y4 š X.A) Uy Õ (r:Km)
  (h:∀ x dx,H x=none->H dx=none->dx≠x->sp (Ò x::Kg) ÇY ÌF E):
  Â û (call La us) AK:=by
 have hq:=h sd Ë (GH (Ϛ5)) (AF) (ū1);have I2:=Inv.made (C:=C) I;have r2:Vals (Ga sd::Kg) ßR:=Ó rfl (f_ hd);have hl:(ϯ6++ds).length=Ab:=by
  have e:=Y0;rw[F.len ņ hq] at e;show e.symm
 exact ϯ5 (þ7 (f:=f) I.vf M.makes M.init (Ϛ4 M.fn) (GZ (F.run _ Qx À #[ϯ6,[]] ßR À E (hr.make C us [])
  (I2.Ļ3.make C us []) (hb _ (ϯ6) I2.vf hl) r2 hq) λ r s' hq'=>?_))
 cases r with
 | error e=>show hx gV σ À e s' I2 hq'
 | ok fl=>
  cases fl with
  | ret u=>
   let#[v,H',I3,rv,ev,q3]:=I2.after hq';subst ev;show#[rv,#[Ga sd,H',I3,rfl,q3]]
  | _=>show Ah hq'
def ï9 (M:Mk GD f) Xs (hr:y4 š X.A) μ (hm:Nt=↑ La) Uy
  Š7:PE X (ù wJ [] Ψ) (Ó4 C sp dvs E gX):=by
 ext Ŋ;exact υ3;show PySem.W.callWith_K0 I.vf M.kp (ï4 (us:=[]) M F hr hb hd hx I Ð h)
end
structure oM (N P:þ) (sc:KU):Prop where
 kind:sc.kind=sR
 co:ÖJ
 gen:ÖK
 nd:yO
 pre:ÖL
 par:∀ x∈P,ς5
 F8:ÎC
theorem ĳ0 Ya ô:∀ áq,ÐP->BM Ax binds m x=m x
 | [],_,_=>rfl
 | (n,v)::r,m,h=>by
  unfold BM;rw[ĳ0 ÐQ];split
  .ext Õh
   simp[this]
  .rfl
theorem ı5 Ya ô:∀ áq,ÐP->Th Ax binds m x=m x
 | [],_,_=>rfl
 | (n,v)::r,m,h=>by
  unfold Th;rw[ı5 ÐQ];split
  .rfl
  .ext Õh
   simp[this]
theorem ĥ8 Ya ô vN:∀ {P:þ}ς ý{m:zSV},P.Nodup->P[i]?=↑x->ϧ4->Ax x=↑ Lh->
  BM ÚB=↑v
 | [],_,_,_,_,h,_,_=>A2
 | ť,[],_,_,_,_,h,_=>A2
 | p::P,w::vs,0,m,nd,h1,h2,hk=>by
  ext ÚC;change BM b8 p=_;unfold BM;rw[ĳ0 ÊJ,LJ];simp
 | p::P,w::vs,i+1,m,nd,h1,h2,hk=>by
  change BM b8 x=_;unfold BM;show ĥ8 ÆH
theorem Ĩ8 Ya ô vN:∀ {P:þ}ς ý{m:zSV},P.Nodup->P[i]?=↑x->ϧ4->Ax x≠↑ Lh->
  Th ÚB=↑v
 | [],_,_,_,_,h,_,_=>A2
 | ť,[],_,_,_,_,h,_=>A2
 | p::P,w::vs,0,m,nd,h1,h2,hk=>by
  ext ÚC;change Th b8 p=_;unfold Th;rw[ı5 ÊJ,IE];simp
 | p::P,w::vs,i+1,m,nd,h1,h2,hk=>by
  change Th b8 x=_;unfold Th;show Ĩ8 ÆH
def start tW VV:St:=vs.map some++ſ (BR-ŀ) none
def wu (CX:lB) Gp È Rb tW (qual:Str) (Ĺ:KU) RF (cd:Ï) u9 ϧ:Cx where
 prog:=P
 w:=w
 K:=K
 mg:=mg
 base:=base
 A:=GO (Hj)
 N:=N
 s₀:=s
 H₀:=H
 env:=Hj
 ı:=ı
 stack:=Hj::ı
 ex:=[]
 calm:=true
 fn:=λ _=>true
 pn:=[]
 xe:=λ e s'=>Â Hy (GO (Hj)) (leaving (Hj) e) (λ _ s''=>CX Âo e s'') (λ e' s''=>CX Âo e' s'') s'
def ĝ2 {sc:KU}ā ô(h:Ϯ3):∃ c,(Q2 n ÀV []).lookup x=↑c:=by
 have q:=ÐR ÀV n [] fX;show zf1.mp q
def ĕ9 Xy Ĝ Ù EG US{qual:Str}KD RY{cd:Ï}ĸ{ı:rY}{s s1:Α}Ø{E:XK}Ń{vs:Ŧ}
  (S:oM N ps Ĺ) (hd:X3) (e0:ϸ1) (hl:ŀ=Ab) (r:Km)
  (x:InCallC s Ë (BM ÕY) (ÝA) (Th ÕY) s1):
  Inv (ÖM) [] oz H s1:=by
 have hpl:Ab<=BR:=by have:=É2 NJ S.pre;rw[zeH] at this;lia
 let#[h1,tk,rfl,hk]:=x.done;have noA:∀ b:Addr,b∉(ÖM).ex:=λ b z=>ÑM;exact#[#[e0.mod,S.kind,rfl,rfl,EI,λ y z c h1 h2=>?_,λ y hy=>?_,λ y c _ h=>?_,λ _=>hd,Around.frames_deeper e0.frames,Ã Fp,ÓV,e0.bs,e0.iw,λ b _ _=>noA b,ÓV,e0.lg,e0.gp],
  rfl,e0.bare,ſ4 hk,#[_,x.toInCall.ns,λ i y v h1 h2 h3=>?_],λ y c h=>#[_,x.cell y c h],e0.zJ.fresh ľ,λ y c h=>?_,π0,e0.zJ.kept hk,?_]
 .show name_of_addr x.apart (IL h1) (IL h2)
 .have hy:Dt y=↑ ϥ\/Dt y=↑ Ϧ:=hy;rcases hy with hy | hy
  .show ĝ2 hy
  .show ò rfl (S.F8 _ (IL hy))
 .show ÎD
 .have hi:i<ŀ:=by
   unfold start at h2;by_cases hi:i<ŀ
   .show hi
   .rw[zeI NM] at h2;rw[ze7] at h2;split at h2 <;> cases h2
  have ha:ϧ4:=by
   unfold start at h2;rw[Α1,zA3] at h2;cases e:vs[i]? with
   | none=>rw[e] at h2;cases h2
   | some a=>rw[e] at h2;cases h2;rfl
  let#[u,hu,rv]:=r.get ha;have hp:ps[i]?=↑y:=by
   rw[<- S.pre,List.getElem?_take_of_lt ⋯];show h1
  have ndP:ps.Nodup:=by rw[<- S.pre];show S.nd.sublist ÐS
  exact#[u,rv,?_];rcases S.par y (zB7 hp) with k | k
  .show Ä #[k,ĥ8 ndP hp hu k]
  .let#[c,e]:=ĝ2 (n:=uA) k;exact Ã #[Ä k,c,e,?_];have q:=x.cell y c e;rw[Ĩ8 ndP hp hu (by change Dt y≠_;rw[k];decide)] at q;show q
 .show e0.zJ.fresh (ÎD)
 .unfold start;change _=BR;rw[zD7,zA7,List.length_replicate];lia
def Ę9 Xy Ĝ Ù EG į RY{name qual:Str}{params:Arguments}Tt KD{dV kV doc pm cdv ct oc:Ï}{an od:FP}
  {osl:Dq}US{sp:Sp}(lk:NF=↑#[oc,od,tU ÅQ,osl]) (hcd:Xj) (S:oM N ps Ĺ)
  (len:Υ4)
  (Ţ:∀ u9 VV Κ ϧ,y4 k (GO (NN qual Ĺ Ë f cdv))->XZ->
   ∃ t,pP ϧ5 body t/\ÈI):
  ot ķ CX š f ÅQ ps sp:=by
 exact#[len,λ A ı s H args us vs Q E hr e0 hb r hsp=>?_];have hl:=len ņ hsp;have KX:ſ9:=e0.mod.fK.keeps ÐT;have lim:s.heap.NoLimit:=e0.mod.nolimit.keeps ÐT;have hkind:∀ y∈ps.zip us,Α2=↑ Lh\/(Α2=↑ ϥ/\((ÝA).lookup y.1).isSome=true):=λ#[n,v] hy=>by
  rcases S.par n (zeG hy).1 with q | q
  .show Ä q
  .show Ã #[q,ÐR Ú (Ä q)]
 exact codeAny_call_function hr.depth (KX À lk) rfl S.co S.gen rfl (PySem.W.codeRec_of KX hcd) (hb ņ ?_);exact wpAny_newFunctionEnv_cells S.kind hkind λ env he s1 x=>?_;subst he;exact#[lim.keeps x.toInCall.keep,codeAny_func ?_];let#[t,ht,hq]:=Ţ Rz vs Q E (hr.deeper _) hsp;have I:Inv ϧ5 [] oz H s1:=ĕ9 S hr.hd e0 hl r x;exact zgC (ht [] s1 oz H _ I hq) (λ fl s' hs=>?_) λ e s' hs=>hs;have fin:∀ {σ':St}Qh ř Ż,Inv ϧ5 [] χ s'->vD->PC->ÑS:=
  λ{σ' H' v u} J rv q=>#[v,H',J.os,J.bare,J.base,J.zJ,rv,q]
 cases fl with
 | ret u=>
  let#[v,σ',H',J,rv,q]:=hs;show fin J rv q
 | next=>
  let#[σ',H',J,q]:=hs;show fin (v:=V.zx) (u:=Fm) J rfl q
 | brk=>
  ext Ùj
 | cont=>
  ext Ùj
section
variable {Æ}{ô}{p pos:Pos}{č}{ĩ}{t:TA}{id T:ū}{r:KA}
def ż7 (r:KA) Ao:TE:=fun σ H Q=>t Û λ vs H1=>r vs H1 Q
def lE (hc:xH X QW r) μ ŭ8 (hv:Jc=↑ QW) OC ZC Š7
  Ν3:Ûr:=by
 ext ÌS;show PyProof.Rows.callWith_builtin1 Äl
def iV (hc:xH X jq r) μ ŭ8 (hv:Jc=↑ jq) OC ZC Š7
  Ν3:Ûr:=by
 ext ÌS;show Zt Äl
end
end L2
namespace HT
open É Î
def Jy:á->á->Bool
 | [],[]=>Á
 | [],ť=>true
 | ť,[]=>Á
 | Ji,tw=>ÊK
def Ō4 (x y:Int) (xs ys:á):Jy Lv (tw)=ÊK:=rfl
def Þ8:Jy qJ=Á:=rfl
def Å1 (y:Int) (ys:á):Jy [] (tw)=true:=rfl
def è7 (x:Int) (xs:á):Jy Lv []=Á:=rfl
def đ0 Ar ϊ (a:Int) KH (c:Int) (u:Tok):∃ e,ů9 A s ϑ7 e/\(e=true↔a=c):=
 #[(a == c),Õq a t c u,#[]]
def Ã3 Ar ϊ (a:Int) KH (c:Int) (u:Tok) qk LR (Q:zVP) (h:Q (ź (æ (a<c))) s):
  Â ã (richCompare .Lt ϑ7) à:=
 (PyProof.Rows.lt_int h:Â ã (ϒ .Lt ϑ7) à)
section
open PySem.SeqAt
open PySem.AutoSeq1 (š5)
open PySem.MeetsSeq PySem.MeetsSeq2 PySem.MeetsSeq3
def ö2 (l b:Addr) (Ĳ qq:zAV) (n n2:Nat) (dd dd2:FP) (sl sl2:Dq) (ns ms:á) ÉP:
  NR (Builtin.«tuple.__lt__» ÓW)
   (λ _ R s=>wL/\Ň b=↑{ cls:=Υ,dict:=dd2,data:=Ě qq n2,r_:=sl2 }/\
    R (.ok (ύ ω6)) s):=
 BU λ prog w A R s h=>by
  ext sF;let#[hl,hb,h]:=h
  have f2:=AutoSeq1.sub_tuple_tuple;have z1:ϱ=Δ:=by rw[<- Ŵ5];simp
  have z2:S9=Ŵ6:=by rw[<- hj.length];simp
  wp_walk using š5 hl,š5 hb,zgL _ (λ rest b s'=>b.1=none/\s'=Ue/\∃ (vs ws:zLV) (ns' ms':á),rest=Q7 ws/\
   ϻ vs ns'/\ϻ ws ms'/\ns'.length+S9=ϯ7+ϱ/\R (.ok (ύ (ź (Jy ns' ms')))) Ue) _
  case turn=>
   rintro⟨y,x⟩ rest b s' ⟨hb',rfl,vs,ws,ns',ms',hz,hvi,hwi,hlen,hR⟩;cases hvi with
   | nil=>rw[List.zip_nil_left] at hz;cases hz
   | cons a t hvi'=>
    cases hwi with
    | nil=>rw[List.zip_nil_right] at hz;cases hz
    | cons c u hwi'=>
     rw[zeJ] at hz
     injection hz with hyx hrest
     injection hyx with hy hx
     subst hy hx;rw[Ō4] at hR;simp![zC0] at hlen;let#[e,he,hiff]:=đ0 ár;exact zg3 (he đ À ?_);cases e with
     | true=>
      rw[Ô (hiff.mp rfl)] at hR
      wp_walk
      show#[rfl,rfl,_,_,_,_,hrest,hvi',hwi',⋯,hR]
     | Á=>
      rw[Ç (λ q=>ò (hiff.mpr q) zd2)] at hR;have hri:=Ã3 ár đ
      wp_walk using hri
      show#[_,rfl,by exists hR]
  case fin=>
   rintro⟨b1,b2⟩ s' ⟨hb',rfl,vs,ws,ns',ms',hz,hvi,hwi,hlen,hR⟩;simp only at hb';subst hb';have hv:Jy ns' ms'=æ (ϱ<S9):=by
    cases hvi with
    | nil=>
     cases hwi with
     | nil=>
      simp![zdD] at hlen;rw[Þ8];show (Ih).symm
     | cons c u hw=>
      ext áz;rw[Å1];show (zg6 ⋯).symm
    | cons a t hv=>
     cases hwi with
     | nil=>
      ext áz;rw[è7];show (Ih).symm
     | cons c u hw=>
      rw[zeJ] at hz;cases hz
   rw[hv] at hR
   wp_walk
   show#[_,rfl,by simpa [Builtin.Tuple.tupleCompareSizes] using hR]
  case h=>
   show#[rfl,rfl,UE,ßS,ns,ms,rfl,hi,hj,⋯,h]
end
section
variable {ś}
def ç5 {l b:Addr}{Ĳ qq:zAV}{ns ms:á}ē(hl:GV í l Ĳ) (hb:GV í b qq) ÉP
  SK (h:Q ω6 s):Â ã (ϒ .Lt ĭ L6) à:=by
 let#[Nn,ho,hc,n,hd]:=id hl;ext Ét;show richCompare_meets_room (op:=.Lt) ϊ3 PySem.F.slot_tuple_lt PySem.F.entry_tuple_lt (PySem.F.args_tuple_lt_2 À) (ö2 l b Ĳ qq VE ns ms hi hj)
  #[ho,ho2,show RQ (Jy ns ms)≠ ÈS/\Q ω6 s from #[(λ x=>nomatch x),h]] hu
def ø3 {t b:Addr}{vs ws:zLV}ē(ht:GV í t Β) (hb:GV í b ϯ8) (hv:vs≠[])
  (h1:ws=[]->Q qf s) (h2:ws≠[]->Q ş { s with heap:=Ĩ { cls:=Υ,data:=Ě Ùz } })
  (hsz:ŀ+ws.length<=Ý):Â ã (Iu .Add qf L6) à:=by
 ext ÏJ;ext Ét;have e:Β++ϯ8=Ùz:=#[];by_cases hw:ws=[]
 .show Ũ0 Θ3
   (tuple_addW1 ÊV (by simp[hw])) #[ho,ho2,h1 hw]
 .exact Ũ0 Θ3
   (tuple_addW2 ÊV (by exists hw) (by rw[zA0,zA0];show hsz)) ÙA
  rw[e];show h2 hw
def yf (n d:Nat):Ė->Nat
 | none=>d
 | some v=>Ξ0
def Ã8 (n d:Nat) (hd:d<=n) (o:Ė):yf n d o<=n:=by
 cases o with
 | none=>show hd
 | some v=>
  change (Ξ0)<=n;by_cases hv:v<0
  .rw[Ô hv];lia
  .rw[Ç hv];show Nat.min_le_right À
def ģ2 (v:Int) (n d:Nat):ÈT=((yf n d ↑v:Nat):Int):=by
 change ÈT=(((Ξ0):Nat):Int)
 by_cases hv:v<0
 .simp![Ô hv];lia
 .simp![Ç hv];lia
theorem za7 EY Ď:ßT=(WY,ÑT):=by
 have h1:¬ (B6<0):=⋯;unfold Æz;simp![h1,HJ];exact ÀW OZ
 .cases lo with
  | none=>rfl
  | some v=>show ģ2 v n 0
 .cases hi with
  | none=>rfl
  | some v=>show ģ2 v n n
theorem ä5 Fo:Ub Hh (j:Int) 1=j-i:=by
 unfold Ub;have h1:B6>0:=⋯;simp![h1,uz,Int.ediv_one];split <;> lia
def Ĵ1 vN{o:Ė}{Q:Ė->ŭ}(p:UO v o) (h:Q o s):Â ã (Builtin.Slice.slicePartIndex v) à:=by
 cases p with
 | none=>show ÝB h
 | int i t=>show slicePart_int h
def ù6 {sl:Addr}{vl vu:Ï}Rq ā{Q:Int×Int×Nat->ŭ}Μ8
  (h:Q (WY,1,yf n n hi-yf n 0 lo) s):Â ã (ÍS Ÿ1 (pure rl)) à:=by
 ext Ño;unfold ÍS Builtin.Slice.sliceFields;exact zg3 (zg3 (zgA hos hds (x:=vl) rfl (zg3 (zgA hos hds (x:=vu) rfl (zg3 (zgA hos hds ás))))));exact zg3 (ÝB ?_);change Â À (if (B6 == 0)=true then _ else _) Ϗ;rw[Ç ()];exact zg3 (Ĵ1 pl (zg3 (Ĵ1 pu (tG))));change Â À (match ßT with | (lo,hi)=>pure (lo,B6,Ub Ŵ 1)) Ϗ;rw[za7 Ŵ n];change Â À (pure (WY,B6,Ub WY ÑT 1)) Ϗ;rw[ä5];show FT
theorem Ó7 (xs:zAV) (i k:Nat):((Ŀ k).filterMap ÓX).toArray=((xs.toList.drop i).take k).toArray:=by
 have e:(ÓX)=ßU:=by
  funext m;have:ÆA=i+m:=⋯;rw[this]
 rw[e];have:=pick_run xs i k;rw[List.filterMap_map] at this;have e2:((λ x=>xs[x]?) ∘ λ x=>i+x)=ßU:=rfl;rw[e2] at this;rw[this]
def ö9 Éi ē(ht:GV í t Ĳ) Μ8
  (hw:¬ (ßV))
  (h:Q ş { s with heap:=Ĩ { cls:=Υ,data:=ÖN } })
  (hsz:ϱ<=Ý):Ìb:=by
 have htake:sizeOk (ÖN):=by
  change (Ãi).toArray.size<=Ý;rw[zA0,zeH,zdI,zD2];lia
 have hj:RW<=ϱ:=Ã8 À ľ hi;ext Ño;have hTs:Ûs:=#[os,hos,hcs];unfold HI
 ext χ4
 first | exact tG | skip
 exact zg3 (ÖO Hx () ?_);exact zg3 (zgG (name:=ÍT) Hx V1
  (zg8 V1 Hx Çr))
 change Â À (cq qf >>= _) Ϗ;exact zg3 (Ϛ6 ht ?_);exact zg3 (zgI hTs ?_);ext ÔH;have hno:¬ (Θ6):=by
  intro q;rw[zE5,zE5] at q;have q1:Ût=0:=Z8 q.1.1;have q2:RW-EX=ϱ:=Z8 q.2;show hw Uu
 change ÍH;rw[Ç hno,Ó7]
 first
  | show ÌG
  | show zg3 (m:=p9) (zgB (zg3 ϸ2) htake)
  | show zg3 (zg3 (m:=p9) (zgB ϸ2 htake))
  | show zg3 (ÌG)
end
end HT
namespace L2
open É Ü Î
abbrev TO:=St->Hp->(Ė->rV)->Prop
def PO ê (e:Α3) (t:TO):Prop:=
 ∀ ļ (Q:Ė->rV),Ķ->u0->
  Â û (evalPart e Ö) (λ u s'=>∃ o H',JG/\UO u o/\Q o H') Ê2
def Ę1:TO:=λ _ H Q=>Q none H
def Þ6 qg:TO:=fun σ H Q=>t Û λ x H1=>∃ i,x=ñ/\Q ↑i H1
def OI Ad:∀ Ń,Ű0->ϸ3:=by
 induction ns with
 | nil=>intro us r;ext áU
 | cons n ns ih=>
  intro us r;rw[zA6] at r;cases r with
  | cons r1 r2=>
   let#[t,e]:=r1;subst e;show Ó n t (ih r2)
section
variable {Æ}{č}{uN}{lo hi:Α3}{tl th:TO}{pos p2:Pos}
def ę3:PO X none Ę1:=by
 ext Ŋ;rw[ßW];show zD1 #[none,H,I,Ġ,h]
def ù4 (h:PE tI):PO X ↑e (Þ6 te):=by
 intro gV s σ H Q I hw;rw[evalPart_some];exact zI ßI De;ext Dx;let#[i,rfl,q]:=q1;ext Ů2;show#[↑i,H1,I1,Rp,q]
def jx ê (r:MP):Prop:=
 ∀ ļ (x:V) (v vl vu:Ï) EY (sl:Addr) Κ,Ķ->LQ->Ìc->UO vl lo->UO vu hi->r NA->
  ∃ T id,ÆB/\Ge v T/\Â û (HI v Ÿ1) AK
def jx.or {r r':MP}(h:jx X r) (h':jx X r'):jx X (λ x lo hi H Q=>r NA\/r' NA):=by
 intro gV s σ H x v vl vu lo hi sl Q I rx hs pl pu q;ext Ů0
 .show h ž x Ðp q
 .show h' ž x Ðp q
def ß9 (r:MP) Sg (tl th:TO):TE:=fun σ H Q=>te Û λ x H1=>tl Ħ λ l H2=>th σ H2 λ u H3=>r x l u H3 Q
theorem ć4 {r:MP}(hr:jx X r) EM (hl:PO X lo tl) (hu:PO X hi th):PE X (Gs χ2 pos) (ß9 r te tl th):=by
 ext Ŋ;exact ϯ9 Ϗ6;ext Dx;exact wpAny_Slice (zI (hl vP) λ vl s2 z0=>?_);let#[l,H2,I2,pl,q2]:=z0;exact zI (hu ϵ1) λ vu s3 z0=>?_;let#[u,H3,I3,pu,q3]:=z0;rw[ßW];exact rh;have I4:Inv ú H3 { s3 with heap:=Κ1 }:=I3.kept (t':=s3.toks) áx;let#[T,id,hT,ht,hg]:=hr gV { s3 with heap:=Κ1 } σ H3 x v vl vu l u ύ4 Q I4 r1 (Heap.IsSliceOf.new ..) pl pu q3;change Â û (Ϛ7 χ2 v (Ò ύ4)) Ι3 { s3 with heap:=Κ1 };show tail_any (ops:=[Ò ύ4,v]) ht hT hg (by with_unfolding_all rfl)
def kE Jh EY:Ŧ:=ÍU
def Ì0 Jh EY:(G6).length<=å:=by
 unfold kE;rw[zeH,zdI];lia
def Ķ9 È:MP:=λ x lo hi H Q=>∃ a xs,ż/\sT/\
 ¬ (ť5)/\∀ p,IT->Q Đ (upd H p (ä (G6)))
theorem Í3:jx X (Ķ9 X.K):=by
 ext Ãj
 exact#["tuple",_,ÈJ,Hx,?_];exact HT.ö9 Õi ?_ (by rw[hlen];show hz);rw[hlen];exact#[Ϭ,_,Ι (t':=ø) (o:=ä (G6)) Oh ?_,rfl,sQ];show#[#[Õr,Hq],_,Ìd,BH]
def ž7 È:R2:=λ x y H Q=>∃ a b ns ms,ż/\R5/\y8 Å a Kx/\y8 Å b (ms.map Ø8)/\Q (š6) H
def â1 (hu:Iy<İ):yH Àp (ž7 X.K):=by
 ext uJ;let#[a,b,ns,ms,rfl,rfl,ha,hb,q]:=h;ext Tj;ext ÅT;have i1:ϻ its.toArray.toList ns:=OI r1;have i2:ϻ its2.toArray.toList ms:=OI r2;show HT.ç5 p1 p2 i1 i2 hu #[š6,H,I,rfl,q]
def Ķ1 È:R2:=λ x y H Q=>∃ a b xs ys,ż/\R5/\sT/\y8 Å b ys/\xs≠[]/\å+ν<=Ý/\
 (ys=[]->Q ě H)/\(ys≠[]->∀ p,IT->Q Đ (upd H p (ä Ź1)))
def Vals.dZ ÿ Ń(r:qa):us=[]↔xs=[]:=by
 cases r with
 | _=>simp
theorem û5:yH YH (Ķ1 X.K):=by
 ext uJ;let#[a,b,xs,ys,rfl,rfl,ha,hb,hx,hz,q1,q2]:=h;ext Tj;ext ÅT;exact HT.ø3 p1 p2 (λ z=>hx (r1.dZ.mp z)) (λ z=>#[õ,H,I,rfl,q1 (r2.dZ.mp z)]) Jf (by rw[<- ϸ4,<- Y0];show hz);exact#[Ϭ,_,Ι (t':=ø) (o:=ä Ź1) Oh ?_,rfl,q2 (λ w=>z (r2.dZ.mpr w)) NC];show#[#[by rw[zD7];show hz,Hq],_,r1.append r2,BH]
end
def px Ď Q4:î Nat:=if 0<=i then (if i<n then ↑i.toNat else none) else if -rl<=i then ↑(i+n).toNat else none
def yx ĵ IZ Q4:î α:=(px å i).bind λ j=>xs[j]?
theorem Ń1 ā G7 KW(h:px n i=↑j):seqIndex? i n=↑j/\j<n/\-rl<=i/\i<n:=by
 unfold px at h;by_cases h0:0<=i
 .rw[Ô h0] at h;by_cases h1:i<n
  .rw[Ô h1] at h;have e:i.toNat=j:=zD5 h;show#[by rw[ϧ6 h0 h1,e],⋯,⋯,h1]
  .rw[Ç h1] at h;cases h
 .rw[Ç h0] at h;by_cases h1:-rl<=i
  .rw[Ô h1] at h;have e:(i+n).toNat=j:=zD5 h;show#[by rw[Ϡ2 ⋯ h1,e],⋯,h1,⋯]
  .rw[Ç h1] at h;cases h
def Ø1 ĵ D0 G7{v:α}(h:Ϡ3):∃ j,seqIndex? i å=↑j/\xs[j]?=↑v/\j<å/\-(å:Int)<=i/\i<å:=by
 unfold yx at h;cases e:px å i with
 | none=>rw[e] at h;cases h
 | some j=>
  rw[e] at h;let#[h1,h2,h3,h4]:=Ń1 e;show#[j,h1,h,h2,h3,h4]
def Į2 (b:Expr):Prop:=∀ o i,ū3 b Á o i=operate [o,i] (HI o i)
def jz ê (r:R2):Prop:=
 ∀ (Ϩ Jz:Expr) ļ (x y:V) (v u:Ï) Κ,Ķ->LQ->pK->r EN->
  ū3 Jz Á v u=operate [v,u] (HI v u)->Â û (Ϛ7 Ϩ Jz v u) AK
def lZ ê (id:ū) (r:Ä0):Prop:=
 Ãs
section
variable {Æ}{Gm}{ta tb:TE}{Ć}
def jz.or Xl(h:jz X r) (h':jz X r'):jz X ÍR:=by
 intro Ϩ Jz gV s σ H x y v u Q I rx ry q hs;ext Ů0
 .show h ÞV
 .show h' ÞV
def á3 {r:R2}(hr:jz X r) vG (hs:Į2 b):PE X (Gs a JQ) ů5:=by
 ext Ŋ;show ϯ9 (ķ5 Ej I h λ v u s2 x y H2 I2 rx ry q=>hr a b Ów q (hs À))
def ġ5 È:R2:=λ x y H Q=>∃ p xs i v,FQ/\y=ñ/\ϯ2/\Ϡ3/\Q v H
def Ń6 È:R2:=λ x y H Q=>∃ p xs i v,FQ/\y=ñ/\y8 ϵ0/\Ϡ3/\Q v H
def Ģ9:R2:=λ x y H Q=>∃ z i c,x=Ì z/\y=ñ/\Kb/\yx Ϟ1=↑c/\Q (U3) H
theorem Û2:jz X (ġ5 X.K):=by
 ext ÃN;let#[its,r,pl,hz]:=Ow;ext Ãr;by_cases h0:0<=i
 .have hj:i.toNat=j:=by
   rw[ϧ6 h0 h5] at h1;show zD5 h1
  show item_listR IV h0 Ðq fin hs
 .have hj:(i+(K7:Int)).toNat=j:=by
   rw[Ϡ2 ⋯ h4] at h1;ext OP;show zD5 h1
  show ÐU (x:=w) ÙB Ïm
   (wpAny_getItem_list_neg (Q:=ÎE) IV ⋯ ÖP Ðq #[rfl,fin]) hs
theorem æ1:jz X (Ń6 X.K):=by
 ext ÃN;let#[its,r,pl,hz]:=Ly;ext Ãr;show ÐU (x:=w) pl.typeIs slot_tuple_getitem.lookup
  (getItem_tuple (j:=j) (Q:=ÎE) pl ć (by ext OP;show h1) (by exists ew) #[rfl,fin]) hs
theorem Á0:jz X Ģ9:=by
 ext Éu;let#[z,i,c,rfl,rfl,hz,he,q]:=h;ext OD;ext ÌT;have hl:z.cps.toList.length=S8:=by simp[Str.length]
 rw[hl] at h1 h4 h5;have hn:=h_;show tail_any (ξ3 s z t) slot_str_getitem.lookup (getItem_str (c:=c) (by
  have e1:æ (i < -(2 ^ 63:Int))=Á:=Ih;have e2:æ (i≥2 ^ 63)=Á:=Ih;rw[e1,e2,Bool.or_false]) (by rw[h1];exists h2) #[U3,H,rE,ϓ,q]) hs
def ı9 È:R2:=λ x y H Q=>ġ5 rM\/Ń6 rM\/Ģ9 EN
def ì9:jz X (ı9 X.K):=Û2.or (æ1.or Á0)
def È0 Ε7 (n j:Nat) (u:Ï):EJ (Ϗ8 j u) { cls:=ł,data:=DU }={ cls:=ł,data:=Ě (its.set j u).toArray n }:=by
 simp[EJ]
theorem Inv.lst ġ ŵ ÿ Õ (h:Ű1):
  ∃ (its:zLV) (n:Nat),EV/\Ìe/\FA:=by
 let#[z,its,n,r,e]:=I.zJ p _ h;show#[its,n,r,e,z]
def Inv.Ĉ1 ġ ŵ tJ{its its':zLV}{n n':Nat}{f:Obj->Obj}Õ (h:Ű1)
  (ho:Ìe) (hf:f { cls:=ł,data:=DU }={ cls:=ł,data:=Ě Ϡ4 n' }) (r:Vals ys its') (hz:Α4) (t:Nat):
  Inv ú (upd H p OQ) { s with heap:=sN p f,toks:=t }:=by
 have e:(sN p f).get? p=↑{ cls:=ł,data:=Ě Ϡ4 n' }:=by
  rw[zgJ f ho (by rw[hf] <;> rfl),hf]
 exact Mg (x:=p) (e:=p) (by rw[h];trivial) JO (λ b u hb q=>π2 q) #[_,e] ?_;show#[hz,its',n',r,e]
def Ñ9:ÏU:=λ o i v H Q=>∃ p xs k j,o=Č/\i=Ov/\Ű1/\px å k=↑j/\Q Íc
theorem set_list:Ĺ1 X Ñ9:=by
 intro gV s σ H o i v ov iv u Q I ro ri rv h;let#[p,xs,k,j,rfl,rfl,hp,hj,q]:=h;cases ro;let#[t,rfl]:=ri;let#[its,n,r,ho,hz]:=I.lst hp;let#[h1,h2,h3,h4]:=Ń1 hj;ext Zp;have hn:=h_;have I':Inv ú Íc { s with heap:=sN p (EJ (Ϗ8 j u)) }:=
  I.Ĉ1 hp ho (È0 its n j u) (r.set rv j) (by rw[zeK];show hz) ø
 by_cases h0:0<=k
 .have hk:Œ=j:=by
   rw[ϧ6 h0 h4] at h1;show zD5 h1
  show PySem.W.ki_setAt ho h0 ⋯ (by ext OP;show h4) ÒH
 .have hk:(k+(K7:Int)).toNat=j:=by
   rw[Ϡ2 ⋯ h3] at h1;ext OP;show zD5 h1
  show PySem.W.ki_setBack ho ⋯ (by ext OP;show h3) ⋯ ÒH
def ñ1 EY Ď:(ϖ1).1=((Im n 0 lo:Nat):Int)/\(ϖ1).2.1=((Im n n hi:Nat):Int)/\(ϖ1).2.2=1:=by
 exact#[?_,?_,rfl]
 .cases lo with
  | none=>simp[ś7,Im]
  | some i=>
   ext ÇP
   .simp![h,uz] <;> lia
   .simp![h,HJ] <;> lia
 .cases hi with
  | none=>simp[ś7,Im]
  | some i=>
   ext ÇP
   .simp![h,uz] <;> lia
   .simp![h,HJ] <;> lia
def ù2 Ε7 EY:slicePick Ĵ Ŵ none=((its.drop (Im E7 0 lo)).take (Im E7 E7 hi-Im E7 0 lo)).toArray:=by
 let#[h1,h2,h3]:=ñ1 Ŵ K7;unfold slicePick;rw[h1,h2,h3];simp![sliceRange_one,pick_run,zA0] <;> rfl
def ğ4 È:MP:=λ x lo hi H Q=>∃ a xs,ż/\Jd/\∀ p,IT->Q Đ (upd H p (Ñ (G6)))
theorem Ĕ3:jx X (ğ4 X.K):=by
 ext Ν8;let#[a,xs,rfl,hx,q]:=h;cases rx;let#[its,r,ht,hz]:=S_ hx;have hlen:=Az;exact#["list",_,Ïm,ht.isList.typeIs,?_];exact wpAny_getItem_list_slice ht.isList ŧ9 Ġ RH ÖP;rw[ù2,<- hlen];exact#[Ϭ,_,Ι (t':=ø) (o:=Ñ (G6)) Oh ?_,rfl,sQ];show#[Õr,_,0,Ìd,Ũ]
theorem zaq:xH X Ű2 (λ xs H Q=>∃ p ys,υ/\W8/\Q (Ê ν) H):=by
 ext ÉY;have hn:=h_;ext ť0
 .ext WJ;ext yL;show Calls.call_len_list IV ÅY
 .ext ν7;ext yL;show len_tuple pl ÅY
theorem zap:xH X Ű2 (λ xs H Q=>Êd):=by
 ext A1;ext ÞW;let#[u,rfl,t,rfl]:=vals1 r;have hn:=h_;show len_str ⋯ #[Ê S8,H,rE,ϓ,q]
def xH.or ÈO:ÈK:=by
 intro gV s σ H xs us Q I rs q;ext Ů0
 .show h ũ9 rs q
 .show h' ũ9 rs q
theorem zan:xH X (ł) (λ xs H Q=>∃ p ys,υ/\W8/\Êe):=by
 ext ÉY;have fin:∀ Ε7,ϧ7->Α4->∀ Ε8 (c':Nat),(∀ b o',Ň b=↑o'->Ϯ2)->
   ϝ Ë=↑{ cls:=ł,dict:=none,data:=Ě Ĵ c',r_:=Ē }->EP ú Q ÕZ:=λ its r' hz h' c' kp e=>
  #[Ϭ,_,Ι (t':=ø) kp ľ (show xN Ů _ h' _ OQ from #[hz,its,c',r',e]),rfl,sQ]
 ext ť0
 .ext WJ;ext yL;let#[o,ho,hc,n,hd]:=IV;show ßX p JO Æl
 .ext ν7;ext yL;let#[o,ho,hc,n,hd]:=pl;show ßX p (Ã rfl) Æl
theorem Õ5:xH X (Υ) (λ xs H Q=>∃ p ys,υ/\((yy X9/\Êf)\/(y8 X9/\Q Đ H))):=by
 ext A1;let#[p,ys,rfl,h]:=h;ext Ν4;rcases h with ⟨hq,q⟩ | ⟨hq,q⟩
 .ext WJ;ext yL;exact call_tuple_list IV (λ h' kp=>?_) Χ1;have I1:ν9:=TB (t':=ø) kp;have I2:Inv ú (upd H Ϡ5 Qq) { s with heap:=h'.push { cls:=Υ,data:=Ě Ĵ } }:=
   I1.laid (t':=ø) ž8 (show xN Ů Ú Qq from #[#[hz,Hq],its,r',BH])
  show#[Ò Ϡ5,_,I2,rfl,q _ (XA)]
 .ext ν7;show call_tuple_same pl #[Č,H,I,rfl,q]
def Ĵ3 È (T:ū) (x:V) ð:Prop:=match x with
 | sP=>T="str"
 | sX=>T="int"
 | Č=>(T="list"/\∃ xs,ϯ2)\/(T="tuple"/\∃ o,ÿ4 p=↑o/\ÀL)\/
   (T="dict"/\((∃ kvs,Ű3)\/∃ kvs,H p=↑ Tn))\/(T="set"/\∃ S n,H p=↑(.set S n))
 | _=>Þ
def ň9 ġ{T:ū}Ϯ vN Õ (r:LQ) (ty:Ĵ3 X.K T x H):
  Ge v T/\∀ a,v=õ->∃ ob,Ň a=↑ob/\ob.dict=none:=by
 cases x with
 | str z=>
  ext Wc;cases (show T="str" from ty);show#[ξ3 s z t,Ű4]
 | int i=>
  ext Wc;cases (show T="int" from ty);show#[ϰ0 s i t,Ű4]
 | ref p=>
  cases r;rcases ty with ⟨rfl,xs,hq⟩ | ⟨rfl,o,hk,hc,hd⟩ | ⟨rfl,hk⟩ | ⟨rfl,S,n,hk⟩
  .let#[its,_,pl,_]:=Ow;exact#[ÙB,λ a e=>?_];cases e;let#[o,n,e,c,hd,_]:=pl;show#[o,e,hd]
  .exact#[#[o,I.vf p o hk,hc],λ a e=>?_];cases e;show#[o,I.vf _ o hk,hd]
  .have z:∃ o,Ň p=↑o/\W6:=by
    rcases hk with ⟨kvs,hk⟩ | ⟨kvs,hk⟩
    ext ßp
    ext ßp
   let#[o,e,ex]:=z;ext Éz
  .let#[o,_,_,_,e,ex,_]:=I.zJ p _ hk;ext Éz
 | _=>show Ah ty
def iQ È (T:ū) (r:Ä0) (to:TE) Ao:TE:=fun σ H Q=>to Û λ x H1=>Ĵ3 K T x H1/\t Ħ λ xs H2=>r x xs H2 Q
variable {o e:Expr}{ĩ}{ÅX}
def aO Θ8 Ŷ6 OC
  (rW:ÙC:=by rfl)
  (hfew:Äw:=by rfl)
  (hline:Xo:=by rfl) (hs:E5:=by rfl) (SE:Ϛ8:=by rfl):
  PE Μ4:=by
 ext ÏR;let#[x,H1,I1,r1,ty,q1]:=z0;ext Æm
end
def ŉ4 ê (id:ū) (r:Ä0):Prop:=
 Ãs
theorem Vals.one:∀ Ϯ Ń,Vals [x] us->Ùv
 | _,_,Ó r Ð=>Ým
theorem Vals.rep ÿ Ń(h:qa):∀ k:Nat,Vals (ſ k xs).flatten (ſ k us).flatten
 | 0=>Ð
 | k+1=>by
  ext ό9;show Ϧ4 h (Vals.rep h k)
section
variable {Æ}{ġ}{uG}{tJ}
def Inv.ľ3 {its its':zLV}ā{f:ϵ Ï->ϵ Ï}DL Õ (hH:UX)
  (e:Ìv) (hf:f Ĵ=Ϡ4) (hv:Vals ys its') (hz:Α4):
  Inv ú ßY { s with heap:=sN l (EJ f),toks:=t' }:=by
 have q:=PySem.IsL.update e f;rw[hf] at q;exact Mg (x:=l) (e:=l) (by rw[hH];show ϖ) JO (λ b' u hb hu=>(zgW í (EJ f) (Ĭ hb)).trans hu) #[_,q] ?_;show#[hz,its',_,hv,q]
def Inv.â7 sr DL Õ (hv:ϧ7) (hz:Α4):
  Inv ú (upd H Ë OQ) { s with heap:=Ĩ { cls:=ł,data:=Ě Ĵ },toks:=t' }:=
 Ι (ώ6) ľ #[hz,its,0,hv,Ũ]
theorem Inv.fresh Õ:HX:=AF
def Inv.Ģ7 Õ (hH:UX):FA/\∃ (its:zLV) (n:Nat),EV/\å=E7/\Ìv:=by
 let#[z,its,n,r,e]:=I.zJ l _ hH;show#[z,its,n,r,Az,e]
theorem ľ9 ā(h:n<=Ý):Lb n=Á:=by
 unfold Lb;show Ih
def ŕ9:Ä0:=λ x vs H Q=>∃ l xs y,x=Ο/\vs=[y]/\UX/\å<Ý/\Q .zx (upd H l (Ñ (xs++[y])))
theorem Ĵ5:ŉ4 X "list.append" ŕ9:=by
 ext Dm;let#[l,xs,y,rfl,rfl,hH,hz,q]:=h;ext ς0;ext ÌU;exact uv F.slot_list_append ϖ2 F.entry_list_append (F.args_list_append_2 À) (PySem.list_append RT u ξ4) #[e,?_];exact#[.zx,_,I.ľ3 (its':=its++[u]) hH e #[] (f_ (Ó ru Ð)) ?_,rfl,q];rw[zD7,List.length_singleton];lia
def ĥ3:Ä0:=λ x vs H Q=>∃ l b xs zs,x=Ο/\vs=[GS]/\UX/\H b=↑(Ñ zs)/\ÆC
theorem Ė2:ŉ4 át ĥ3:=by
 ext Ãf;let#[z2,its2,n2,r2,hl2,e2]:=I.Ģ7 hB;have hsz:ÑU<=Ý:=ÑV
 have hlong:¬ (! Qt&&Lb (ÑU))=true:=by
  rw[ľ9 hsz,zdT];show zd2
 exact uv F.slot_list_extend ϖ2 F.entry_list_extend (F.args_list_extend_2 À)
  (AutoSeq1.list_extend_list_list_0 RT b Qu n2 hlong ξ4 ⋯) #[e,e2,?_]
 exact ÄA;rw[zD7];lia
end
end L2
namespace MJ
open É Α5 ϧ8 Î
def Æ2 {P:Params}ĝ:∀ su (vs:zLV),WellAll P h vs Ûu->Rt:=by
 intro ns
 induction ns with
 | nil=>
  intro vs w;rw[zd0] at w;cases w;show Ð
 | cons n ns ih=>
  intro vs w;rw[zA6] at w;cases w with
  | cons a b=>
   cases a;show Ó À (ih _ b)
def ē1 {l:OpenLaw}ā Ϟ2 {P:Params}ĝ{args:List WData}{vals:zLV}
  (hpre:l.row.toRowW.claim.pre args=true) (hwl:WellAll P h vals args):
  ∃ a vs ns,vals=[ŉ a]/\args=[WData.list Ûu]/\Gr=↑{ cls:=ł,data:=Ě Β }/\Rt/\Δ<=n:=by
 have hsh:WShape.hasAll [] args [.list Ê]=true:=(Ûv).1;have hc:l.pre.holds [] { args:=args }=true:=(Ûv).2;let#[d,r,rfl,h1,h2]:=hasAllW_cons hsh;obtain rfl:=hasAllW_nil h2;let#[xs,rfl,h3]:=hasW_list h1;let#[ns,rfl]:=ϸ5 h3;have hlen:Δ<=n:=by
  unfold OpenLaw.pre at hc;have h4:(WTm.not (.lt (.lit (Ê rl)) (.len (.arg 0)))).holds [] { args:=[.list (sH Ê)] }=true:=by
   have h4:=(holds_andW hc).1;rw[hn] at h4;show h4
  have h5:=condW_of h4 (w_not (w_lt w_lit (w_len_list (w_arg rfl))));rw[zA7] at h5;exact Nat.le_of_not_lt mP;have q':rl<((Δ:Nat):Int):=⋯
  first
   | (rw[zg6 q'] at h5;show ò h5 ())
   | (simp at h5;lia)
 cases hwl with
 | cons w1 w2=>
  cases w2;cases w1 with
  | list ho hall=>show#[_,_,ns,rfl,rfl,ho,Æ2 ns _ hall,hlen]
def É4 (l:OpenLaw) (args:List WData):l.row.toRowW.claim.post args (Kj) args=true:=
 postW_of (r:=l.row.toRowW) (X:=(true == true))
  (show WShape.has [] (Kj) ź=true by first | rfl | decide | simp[WShape.has,WShape.arms,WShape.armsAll])
  (show (WTm.eq .res (.lit (Kj))).value [] { args:=args,res:=↑(Kj),after:=args }=↑(ź (true == true)) from w_eq_bool (w_res rfl) w_lit) rfl
def zaT {l:OpenLaw}ā ÄX
  Ϟ2 (hdf:ÒP)
  (call:∀ ο (s₀ s₁:Α) (mg mb:zSV) (fa:Addr) (o:Obj) (pm cd doc:Ï) Ĥ (vs:zLV) su,
   Ground q loose [] XP w s₀ mg mb GG->YP w GG->
   ŝ6 fa=↑o->EZ=tU (docDef d.name d.params d.body d.scope pm cd doc)->s₁.heap.CodeRec cd d.name->ÒQ->
   Êw->Rt->Δ<=n->s₁.gens=Ē->
   qG (model l.prog w) Θ4):
  WalkO ÅJ:=by
 intro w s₀ s₁ mg mb G Y fa o pm cd doc dV kV ho hd hcd hD hmg hg args vals as hpre hlay hrd hwl hlo;obtain rfl:dV=Ġ:=Dflts.none hD hdf;obtain rfl:kV=Ġ:=Dflts.noKw hD;let#[a,vs,ns,rfl,rfl,hobj,hints,hlen]:=ē1 hn hpre hwl;exact enter_call (GZ (call w s₀ s₁ mg mb fa o pm cd doc a vs ns G Y ho (fd_plain hd) hcd hmg hobj hints hlen hg) ßQ);let#[rfl,h2,h3,h4]:=hq;show#[Ä #[Kj,Kj,[],rfl,Ic,Kj,É4 l _,λ _=>#[List.Pairwise.nil,λ _ hm=>(nomatch hm)]],h2,h3,h4]
end MJ
namespace L2
open É Ü Î
theorem ī8:∀ ς Ad,Rt->Vals Kx vs
 | _,_,Ð=>Ð
 | _,_,ÀX=>Ó MS (ī8 h)
def ZV ð:Prop:=∀ b,ω\/∃ o xs,H b=↑(.oE o uc)
def þ0 Ĝ Ù{mg mb:zSV}Xy į{fa a:Addr}{fd:tS}ô{sp:Sp}{s₁:Α}ς Ad
  (KX:K.In GG) (hns:Ϡ6 HR mg) (hb:Ϡ6 Ů9 mb) (hbb:ÐI) (hlim:s₁.heap.NoLimit) (hg:s₁.gens=Ē)
  (ha:Êw) (hi:Rt) (hl:Δ<=Ý) (hr:y4 k iK)
  (F:∀ base:Heap,K.In base->ϙ8->ot ķ CX k fa fd [x] sp) (hbind:Æs)
  (hsp:∀ H:Hp,ZV H->Ű5->sp ψ3 uQ)
  (hCX:∀ H e s',CX [] H s₁ (uQ) e s'->Þ):
  qG Hy Θ4:=by
 have rv:=ī8 hi;have lenV:=Ŵ5;have core:∀ H:Hp,ZV H->Ű5->xO P w H GG->(∀ b,H b≠none->b=a)->(H a≠none->ÿ4 a=none)->
   qG Hy Θ4:=by
  intro H hO hS zJ hA hK;have base_of:∀ τ BK,ŝ6 b=↑o->ω->(T7).get? b=↑o:=λ e n=>đ9 e n;have noA:∀ τ BK Wf fS,ŝ6 b=↑o->ra->ω:=λ{b o es ep} e d=>by
   cases q:H b with
   | none=>rfl
   | some u=>
    ext ÔI;rw[ha] at e;cases e;have d':Data.seq Β _=Data.dict E4:=d;cases d'
  have nsK:∀ τ{m:zSV},Ϡ6 b m->(T7).Ns b m:=λ{b m} #[o,es,ep,e,d,r]=>#[o,es,ep,base_of e (noA e d),d,r];have hKb:K.In (T7):=λ b o e=>base_of (KX Ϙ) (by
   cases q:H b with
   | none=>rfl
   | some u=>
    ext ÔI;rw[hK (ω4)] at e;cases e)
  have hM:Mod K mg (T7):=#[hKb,nsK hns,#[mb,nsK hb,hbb],let #[mc,h1,h2]:=hlim;#[mc,nsK h1,h2]];have e0:gT P w K mg (T7) iK [] s₁ H:=#[rfl,hM,λ b o e=>Ö6 e,zf0 (Ę4 À),ϖ,λ b hb=>ò (show b∈([]:Ε) from hb) #[],zJ,.of_eq hg];exact GZ ((F _ hKb (nsK hns)).run iK [] s₁ H Ϡ7 [õ] [õ] À hr e0 (hbind s₁ ě) (Ó rfl Ð) (hsp H hO hS)) λ r s' h=>?_;cases r with
  | error e=>show (hCX H e s' h).elim
  | ok fl=>
   cases fl with
   | ret u=>
    let#[v,H',os,bare,un,hok',r',q]:=h;have q':v=qe:=q;subst q';obtain rfl:u=RQ true:=r';exact#[rfl,OldK.of_keep λ b o e=>?_,os,bare];cases q:H b with
    | none=>show un.keep Ϙ q (by intro z;show ÑM) #[]
    | some u=>
     rcases hO b with z | ⟨ob,xs,z⟩
     .rw[q] at z;cases z
     .have z2:=un.jj b ob _ z;let#[e1,_]:=zJ b _ z;let#[e2,_]:=hok' b _ z2;rw[e] at e1;cases e1;show e2
   | _=>show Ah h
 cases hk:ÿ4 a with
 | some o=>
  have e:=KX a o hk;rw[ha] at e;cases e;exact core (Fh) (λ _=>M_) (Ã #[_,Β,_,hk,rfl,rfl,rfl,by rw[zA0,lenV];show hl,by exists rv]) (λ b u z=>by have z':(none:î HO)=↑u:=z;cases z') (λ b z=>ò rfl z) λ z=>ò rfl z
 | none=>
  exact core (λ b=>if b=a then ↑(.oE { cls:=ł,data:=Ě Β } (Ñ Kx)) else none) (λ b=>?_) (Ä (Ã #[{ cls:=ł,data:=Ě Β },Ź])) (λ b u z=>?_) (λ b z=>?_) λ _=>hk
  .ext ŷ5
   .show Ã #[_,_,HM]
   .show Ä (MG)
  .ext ŷ5
   .have z':=(HM).symm.trans z;cases z';subst hb;show#[ha,ϟ4,vs,_,rv,ha]
   .have z':=(MG).symm.trans z;cases z'
  .ext ŷ5
   .show hb
   .show ò (MG) z
def Þ7 {l:PySem.W.OpenLaw}{n k:Nat}ÄX{K:Params->zFr}{CX:SA->lB}{sp:SA->Sp}ô
  Ϟ2 (hn2:n<=Ý) (hdf:ÒP) (hr:y4 k iK)
  (hY:∀ ο ĥ,YP w h->ϰ1 h)
  (F:∀ ο rm (fa:Addr) ĥ,ϰ1 h->h.Ns HR mg->ÒQ->
   ∃ fd:tS,(Æs)/\
    ∀ base:Heap,ϰ1 base->ϙ8->ot l.prog w (K fe) mg base (CX w) k fa fd [x] (sp w))
  (hsp:∀ ο ð Ĥ su,Δ<=n->ZV H->yy (K fe) H a Kx->sp w ψ3 uQ)
  (hCX:∀ ο ð ϊ (e:Ï) Gh,CX w [] H s (uQ) e s'->Þ):
  PySem.W.WalkO ÅJ:=by
 exact MJ.zaT hn hdf λ w s₀ s₁ mg mb fa o pm cd doc a vs ns G Y ho hd hcd hmg hobj hints hlen hg=>?_;have KX:=hY w _ Y;let#[fd,hb,hF]:=F w mg fa _ KX G.T.g hmg;show þ0 KX G.T.g G.T.b G.T.builtins G.T.nolimit hg hobj hints (zE0 hlen hn2) hr hF hb (λ H hO hS=>hsp w H a ns hlen hO hS) λ H e s'=>hCX w H s₁ e s'
def Ï6 (s:Stmt):Arguments:=match s with
 | Ϡ8 _ a ņ ņ=>a
 | _=>{ posonlyargs:=[],args:=[],vararg:=none,kwonlyargs:=[],kw_defaults:=[],kwarg:=none,defaults:=[] }
def wj (s:Stmt):ϣ:=match s with
 | Ϡ8 À b ņ Ú=>b
 | _=>[]
def yp (s:Stmt):KU:=match s with
 | Ϡ8 ņ À sc Ú=>sc
 | _=>{ kind:=sR,t8:=[],isGenerator:=Á,isCoroutine:=Á }
abbrev xy:lB:=λ _ _ _ _ _ _=>Þ
abbrev E0:XK:=uQ
def dM Æ:Passes xy X E0:=λ _ _ _ _ _ _ _ h=>ï
structure mv È (x qual:Str) K2 RF (fd:tS):Prop where
 ex:∃ (oc:Ï) (od:FP) (kV doc pm:Ï) (an:FP) (cdv ct:Ï) (osl:Dq),
  fd=ş9/\NF=↑#[oc,od,tU fd,osl]/\Xj
 kp:t_
section
variable {Ĝ}{Ù}{EG}
def mv.ok ų2 v7 Dz US į{sp:Sp}ϑ8 (S:TY) (len:Υ4)
  (Ţ:∀ U7 u9 VV Κ ϧ,VY->XZ->
   ∃ t,pP VW/\ÈI):ot ÜI sp:=by
 ext Åd;exact Ę9 lk hcd S len λ A ı s H vs Q E hr hsp=>?_;let#[t,h,q]:=Ţ cdv Rz vs Q E hr hsp;show#[t,h.wN,q]
def mv.binds ų2 v7 Dz F_ ϑ8
  (h:∀ fw,Pb->S7 (ş9) UL=T2):UD:=by
 ext Åd;show .all (h kV Ϥ9 ct)
def Zv ų2 v7 RY Μ9(l:NF=↑#[oc,od,tU (ş9),osl])
  (c:Xj) (k:t_):mv K x UJ f (ş9):=#[#[oc,od,kV,doc,pm,an,cdv,ct,osl,rfl,l,c],k]
end
def è8 ĸ į(hr:SO):Fg:=zdU (Nat.add_le_add_left (by decide:1<=64) _) Jp
section
variable {Æ}
def Ï7 Í ô Ć Yd
  Lj:PE zR:=Ř8 RP
end
end L2
namespace É
theorem ŕ8 Fu:∀ (l:Ű6) (acc:J_),(∀ y∈l,ÍV)->
  ∃ cl,(forIn l acc (λ(x:ÇD) r=>if (x.2 == R9)=true then do let a <- cellOf env x.1;pure (PR ((x.1,a)::r)) else pure (PR r)):Sem (J_))=pure cl/\
   (∀ x c,rD->acc.lookup x=↑c\/(Vp ∈l/\Ϯ4))/\(∀ x,Vp ∈l\/(acc.lookup x).isSome->XT)
 | [],acc,_=>#[acc,rfl,λ x c h=>Ä h,λ x h=>FN]
 | JB::l,acc,h=>by
  by_cases hk:k=Ϧ
  .subst hk;let#[c,hc]:=h (n,Ϧ) zc7 rfl;let#[cl,e1,e2,e3]:=ŕ8 l ((n,c)::acc) ÐV;exact Ëh
   .rw[ze8];simp![Ϗ9,uz,cellOf,hc];show e1
   .ext Îu
    .rw[zd4] at q;cases hxn:x == n with
     | true=>
      rw[hxn] at q;have:x=n:=by exists hxn
      ext Ŗ;exact Ã #[zc7,?_];rw[hc];show q
     | Á=>rw[hxn] at q;show Ä q
    .show ÓY
   .exact e3 x ?_;ext ŧ4
    .ext š1
     .have:x=n:=É2 Prod.fst q;ext Ŗ;show Ã (by simp[zd4])
     .show Ä q
    .exact Ã ?_;rw[zd4];cases x == n <;> simp[hx]
  .have hb:(k == R9)=Á:=ϵ6
   let#[cl,e1,e2,e3]:=ŕ8 l acc ÐV;exact Ëh
   .rw[ze8];simp![hb,zC4,HJ];show e1
   .ext Îu
    .show Ä q
    .show ÓY
   .exact e3 x ?_;ext ŧ4
    .ext š1
     .show ò (É2 Prod.snd q).symm hk
     .show Ä q
    .show Ã hx
def Đ3 KD Fu(h:∀ y∈ Gk,ÍV):
  ∃ cl,closureFor Ĺ env=pure cl/\(∀ x c,rD->BI/\Ϯ4)/\∀ x,BI->XT:=by
 let#[cl,e1,e2,e3]:=ŕ8 (env:=env) Gk [] h;exact#[cl,?_,λ x c hx=>?_,λ x hx=>e3 x (Ä hx)]
 .simp![closureFor];rw[e1];rfl
 .rcases e2 x c hx with q | q
  .simp at q
  .show q
theorem ġ0 Fu:∀ {t8:Ű6}ô,names.lookup x=↑ Ϧ->
  ÒR
 | [],_,h=>A2
 | JB::r,x,h=>by
  have ih:=@ġ0 env r x;change gq=_\/gq=_;cases hx:x == n with
  | true=>
   simp![zd4,hx] at h;cases h;by_cases hc:(R9 == R9&&ω7&&ßZ)=true
   .rw[Ô hc];simp[zd4,hx]
   .rw[Ç hc];simp[zd4,hx]
  | Á=>
   simp![zd4,hx] at h;by_cases hc:gE=true
   .rw[Ô hc];ext ßD
   .rw[Ç hc];ext ßD
theorem Ľ5 Fu:∀ {t8:Ű6}ô,
  (ÒR)->Vp ∈ t8\/ϸ6 ∈ t8
 | [],_,h=>A2
 | JB::r,x,h=>by
  have ih:=@Ľ5 env r x;have h':gq=↑ ϥ\/gq=↑ Ϧ:=h;cases hx:x == n with
  | true=>
   have hxn:x=n:=by exists hx
   subst hxn;by_cases hc:(k == R9&&ω7&&T4 x == ↑ ϥ)=true
   .simp![zE5] at hc;have:k=Ϧ:=by exists hc.1.1
    ext Ŗ;show Ä zc7
   .rw[Ç hc] at h';simp![zd4,Ϗ9] at h';rcases h' with q | q
    .cases zD5 q;show Ã zc7
    .cases zD5 q;show Ä zc7
  | Á=>
   exact (ih ?_).imp (zc8 _) (zc8 _);by_cases hc:gE=true
   .rw[Ô hc] at h';ext ßv
   .rw[Ç hc] at h';ext ßv
theorem Ś2:∀ (t8:Ű6) ĥ (acc:J_),∃ own,Q2 Ω t8 acc=own++acc/\(∀ p∈own,(p.1,O8)∈ t8/\Ω<=p.2/\(ϸ7 h t8).IsCell p.2 none)/\
  (own.Pairwise λ x y=>x.2≠y.2)/\∀ x,ϸ6 ∈ t8->(sC x).isSome
 | [],h,acc=>#[[],rfl,λ _ hp=>(by cases hp),Ð,λ _ hx=>(by cases hx)]
 | JB::r,h,acc=>by
  unfold Q2 ϸ7;split
  .rename_i hk;have hk':k=ϥ:=ϵ6
   subst hk';let#[own,e1,e2,e3,e4]:=Ś2 r (tX { cls:=ů "cell",data:=ϥ none }) ((n,Ω)::acc);rw[IW] at e1 e2;exact#[own++[(n,Ω)],by rw[e1,zE8];rfl,Hk,?_,Jv]
   .rcases RX hp with q | q
    .let#[f1,f2,f3]:=e2 p q;show#[zc8 _ f1,⋯,f3]
    .cases AW;show#[zc7,EI,_,ϒ8 ņ (Ũ),rfl]
   .exact zf2.mpr #[e3,zfP À,Ûw];cases Gq hb;show zdC (e2 a ha).2.1
   .rw[zf3,ÙD];ext š1
    .cases q;simp[zd4]
    .rw[e4 x q];rfl
  .rename_i hk;let#[own,e1,e2,e3,e4]:=Ś2 r h acc;exact#[own,e1,λ p hp=>#[zc8 _ (e2 p hp).1,(e2 p hp).2],e3,Jv];ext š1
   .cases q;simp at hk
   .show e4 x q
def ē6 UC ĸ ψ Μ KD{globals:Addr}{closure:J_}{qual:Str}Fu{Q:Env->ŭ}
  (hQ:∀ h',h'=ϸ7 (Ém) Gk->Q (newEnv Ĺ Ë globals (Q2 sd Gk closure) Öy Ů9) { s with heap:=h' }):
  Â M A (ϖ3 Ĺ globals closure [] Öy) à:=by
 simp![ϖ3,Õs,uz];exact zg3 (wpAny_alloc ?_);exact zg3 (wpAny_layCells _ (λ name kind cells=>by cases hkc:kind == O8 <;> simp[hkc]) ņ ?_);rw[show ({ s with heap:=Ém }:Α).heap.objs.size=uA from IW ..];simp![ÝC];show zg3 (zD1 (zD1 (hQ Oz)))
end É
namespace L2
open É Ü Î
def mY pv Ls:St:=ÀY λ o=>o.bind λ i=>(σ[i]?).join
def ċ7 ê (N':þ) (Ĺ:KU) (cl:J_) Jx ϊ ð (ex:Ε):Cx:=
 { X with N:=N',s₀:=s,H₀:=H,env:=Ω2,ı:=Qx,stack:=Qx,ex:=ex,fn:=λ x=>Ùa,pn:=[],xe:=Xi }
def fy (N N':þ) pv (Ĺ:KU):Bool:=(N'.zip pick).all λ p=>match p.2 with
 | none=>true
 | some j=>æ (N[j]?=↑p.1)&&æ (Dt p.1=↑ Ϧ)
structure j0 ê (N':þ) pv (Ĺ:KU):Prop where
 kind:ÝD
 uniq:∀ y∈ Gk,Α2=↑y.2
 free:∀ y∈ Gk,Α7->Av y.1=↑ ϥ\/Av y.1=↑ Ϧ
 len:ÑW
 ok:fy X.N ϟ5=true
def fy.get {N N':þ}Ed KD(h:àa) Af ô(h1:N'[i]?=↑x) (h2:ū4):N[j]?=↑x/\Dt x=↑ Ϧ:=by
 unfold fy at h;have hm:(x,↑j)∈N'.zip pick:=by
  exact zB7 (i:=i) ?_;rw[ÎF];show Ű7
 have q:=FC h _ hm;simp![zE5,ÖQ] at q;show q
def mY.get Ed Ÿ ý ř(h:gj[i]?=↑↑v):∃ j,ū4/\σ[j]?=↑↑v:=by
 unfold mY at h;rw[zA3] at h;cases e:ql with
 | none=>rw[e] at h;cases h
 | some o=>
  rw[e] at h;cases o with
  | none=>simp at h
  | some j=>
   exact Ûx;simp![PY,ZF,zC9] at h;cases q:σ[j]? with
   | none=>rw[q] at h;simp at h
   | some w=>rw[q] at h;simp at h;rw[h]
def PF ê (ifs:sv) (t:TT):Prop:=∀ ļ qb,Ķ->u0->
 Â û (forIn ifs true λ c r=>if r=true then do let ok <- Tf c Ö (eval c Ö);pure (PR ok) else pure (PR r)) ŧ8
def ã2 Æ:PF X [] (λ _ H Q=>Q true H):=λ _ _ _ H _ I h=>wpAny_tests_nil #[H,I,h]
def Ć5 Æ Jo{t:TT}(h:PT X c t):PF X [c] t:=λ gV s σ H Q I q=>wpAny_tests_one (h AV q)
def ī5 pv (wi:TI) (g:TG) (tc:TT) Sg:TE:=fun σ H Q=>wi Û λ J H1=>∀ D,H1 D=none->∃ W:ť2,(∃ m,W 0 m gj (upd H1 D Α8))/\
 Η9
section
variable {Æ}{ġ}{N':þ}{Ed}{KD}{cl:J_}{YK}{UU}
def è5 (S:sG) Õ Ε9 (hlt:ÝE)
  {h1:Heap}(c1:∀ x c,rD->(BI/\Ja)\/(š7/\C<c/\h1.IsCell c none)) (c2:∀ x,BI\/š7->XT) (c3:∀ x y c,rD->ϸ8 y=↑c->x=y)
  {m1:zSV}DL(hC:Ë<C) (old:∀ b o,ν5) (hns:h1.Ns C m1)
  (hD:ſ3 Ë=↑{ cls:=ł,data:=Ě Ē 0 }):
  Inv qh [] gj (upd Ū0) { s with heap:=h1,toks:=t' }:=by
 have hDn:HX:=AF;have hCn:H C=none:=GH ÀZ;have cf:∀ x c,rD->(∃ v,h1.IsCell c v)/\(c<Ë\/C<c)/\upd Ū0 c=none:=λ x c e=>by
  rcases Wz with ⟨_,q⟩ | ⟨_,q1,q2⟩
  .let#[v,o,z1,z2]:=vQ x c q;have hl:=zA8 z1;show#[#[v,o,old À z1,z2],Ä hl,by rw[yv (zB3 hl)];show I.k7 x c q]
  .show#[#[_,q2],Ã q1,by rw[yv (zdC (zdF hC q1))];show GH (zE3 (zdF hC q1))]
 exact#[#[ÀI,S.kind,I.ok.glob,I.ok.blt,zE3 hC,c3,Jv,λ x c hf e=>?_,I.ok.hd,I.ok.frames,M_,
  λ b hb=>#[zB3 Õt,U8],I.bs,Ùy,λ b o e hb=>?_,λ b hb z=>?_,I.stack,I.ł9],
  rfl,rQ,Un.laid old ľ hDn,#[m1,hns,ÒN],U8,?_,U8,π0,I.zJ.laid old ľ ?_,?_]
 .show zf1.mp (c2 x (Ľ5 hx))
 .have hf':=RB (show Ùa=true from hf);rcases Wz with ⟨q,_⟩ | ⟨_,q,_⟩
  .rw[S.uniq _ q] at hf';cases hf'
  .show zE3 (zdF hC q)
 .rcases Wz with ⟨_,q⟩ | ⟨_,q,_⟩
  .show Ûy x c q
  .show zdC (zdF Õt q)
 .rcases àb with z | z
  .show I.ok.dY Ϙ z
  .show ò (zC3 (zA8 (ω5).1) z) uE
 .rcases Ýp with q | q
  .show (Gf).2.1 q
  .show (Gf).2.2.1 q
 .let#[j,p1,p2]:=mY.get e2;let#[q1,q2]:=fy.get S.ok B0;let#[m0,n0,l0]:=sW;have hm:BI:=IL q2;have hk:Av x=↑ ϥ\/Av x=↑ Ϧ:=S.free _ hm rfl;let#[u,r,l]:=l0 j x v q1 p2 (Ã hk);exact#[u,r,Ã #[ġ0 q2,?_]];rcases l with ⟨k,_⟩ | ⟨_,c,e,z⟩
  .have k':Av x=↑ Lh:=k;rcases hk with hk | hk <;> (rw[k'] at hk;cases hk)
  .let#[c',e']:=zf1.mp (c2 x (Ä hm));have e'':Ug x=↑c':=by
    rcases c1 x c' e' with ⟨_,q⟩ | ⟨q,_⟩
    .show q
    .have:=S.uniq _ q;rw[q2] at this;cases this
   rw[e] at e'';cases e'';let#[o,z1,z2]:=z;show#[c,e',o,old À z1,z2]
 .show (cf Qo).1
 .change upd Ū0 C=none;rw[yv (zdC hC)];show hCn
 .show (cf Qo).2.2
 .show#[Dr,[],0,Ð,hD]
 .change (mY pick σ).length=N'.length;unfold mY;rw[zA7];show S.len
def ë0 Íu Õ Ε9 (hC:Ë<C)
  (I':ϐ0) (hoC:ϖ4=↑oC):Ëi:=by
 have J:JG:=I.zaw (ch:=fp) I'.os I'.base I'.zJ I'.bare λ b hb=>#[àb,(Gf).2.1,Ûy,(Gf).2.2.2.2.2];exact J.ź1 λ p hp=>Ϗ4 (λ z=>J.pin p (zB4 _ z)) λ z=>?_;obtain rfl:p=ź2:=Gq z;exact#[hoC,I'.free,zdC (zdF I.lt hC),I.Ĳ9 ÀZ,ϰ2];let#[m,#[o,es,ep,ho,hd,_],_]:=I'.loc;have ho':ϖ4=↑o:=ho;rw[hoC] at ho';cases ho';rw[hd] at hv;cases hv
def Ŀ8 Íu UQ Õ (hC:Ë<C) (J:Inv X (gV++[ź2]) χ s') (hs:v8 C LW h'):Inv X gV χ { s' with heap:=h' }:=by
 have J':=J.de;have hp:=J.pin Év;have lt:∀ c,c<Ë->c≠C:=λ c h=>zB3 (zdF h hC);exact J'.turned (t':=s'.toks) (it:=C) (λ b o hb e=>hs.extBut b o hb e) hp.2.1 hp.2.2.1 (Ã (zE0 I.sz ÀZ)) (ßL) (λ p hq z=>?_)
 .let#[v,q]:=Ÿ0;show lt c q.lt z
 .show lt p.1 (zA8 (KJ p hq).1) z
end
section
variable {Æ}{N':þ}{Ed}{KD}{elt iter tg:Expr}{ifs:sv}{Ć}{wi:TI}{g:TG}{tc:TT}{uN}
def ď0 ġ{it C:Addr}ÊW{W:ť2}{Q:V->rV}{R:ů6}{D:Addr}
  ę (hg:PG gs) (hf:PF qh ifs tc) (he:PE VO)
  (T:μ6) Ε9 (hstat:∀ b∈fp,b≠C/\b∉ Qe/\∀ x c,rD->c≠b)
  (turn:Η9)
  (fin:∀ σ' H' s',ϐ0->Q JU H'->R (.ok .next) s')
  {m0:Nat}{σ0:St}{H0:Hp}{s0:Α}(I0:Inv qh [] σ0 H0 s0) (t0:tn 0 s0.heap) (f0:∀ b∈fp,H0 b=none) (w0:W 0 m0 σ0 H0):
  qG û (.compLoop ÚE) R s0:=by
 have stat:∀ Qh,(Q3)->∀ b∈fp,mR qh [] H' b:=λ hn b hb=>#[hn ţ,(ϸ9).1,(ϸ9).2.1,Ä hb,(ϸ9).2.2,π0];exact codeAny_loop rfl (λ n s'=>∃ i σ' H',ϐ0/\ÍP) (λ n s3 hI=>?_) m0 #[0,σ0,H0,I0,t0,f0,w0];let#[i,σ3,H3,I3,st3,fr3,w3]:=hI;change Â _ X.A ((compTurn ÚE).onRaise (λ x=>do noteFrame x (Ω2);theTreesLotGoes x)) À s3;exact wpAny_noted ?_;rw[compTurn_list];exact ÎG;rcases Õo with ⟨stop,qn⟩ | ⟨go,step⟩
 .exact zI (T.done Ðr stop) ť3;ext ÞU;show zD1 (fin Z2 s4 I4 qn)
 .exact zI (T.item Ðr go) ť3;ext ÕX;exact zg3 ÑQ;ext Ån;exact zg3 (zgC Çp (ßM) XB);ext ØK;exact zg3 (zgC (hf ØJ) (λ ok s7 z0=>?_) XB);let#[H7,I7,q7]:=z0;have back:∀ {H8:Hp}{s8:Α},Inv qh ([]++ßN) σ6 H8 s8->(∃ m',m'<n/\W NV σ6 H8)->∃ m,m<n/\∃ i σ' H',Inv qh [] χ s8/\tn i s8.heap/\Ùt:=λ{H8 s8} I8 #[m',hm,w8]=>by
   exact#[m',hm,i+1,σ6,H8,I8.de,T.keep Ú st5 λ b hb o e=>(I8.pin Vj).1,qo,w8];ext Ñn;show (I8.pin Vj).2.1
  cases ok with
  | Á=>
   rw[Ç zd2] at q7;show zD1 #[rfl,back I7 q7]
  | true=>
   rw[Ź] at q7;exact zg3 (zg3 (zgC (he _ s7 σ6 H7 _ I7 q7) (λ uy s8 z0=>?_) XB));let#[y,H8,I8,r8,ys,m',e8,z8,hm,w8]:=z0;exact zg3 (zgC (Ĵ5 (X:=ÝF) _ s8 σ6 H8 JU [y] JU [uy] (λ _ H9=>W NV σ6 H9) I8 rfl (Ó r8 Ð) #[D,ys,y,rfl,rfl,e8,z8,w8]) (λ _ s9 z0=>?_) XB);let#[_,H9,I9,_,q9]:=z0;show zD1 (zD1 #[rfl,back I9 #[m',hm,q9]])
def ħ1 ġ{it:Addr}ÊW{Q:V->rV}ψ{RR:Ï->Addr->ů6}
  (S:sG) ę Ι1
  (c1:∀ x c,rD->BI/\Ja) (c2:∀ x,BI->XT)
  Õ (T:μ6) (t0:tn 0 í) Ε9
  (rd:∀ D,H D=none->∃ W:ť2,(∃ m,W 0 m gj (upd H D Α8))/\
   Η9)
  (fin:∀ C D oC H' s',Ë<C->Ëi->ϖ4=↑oC->(∃ m,s'.heap.Ns C m)->Q JU H'->RR JU C (.ok .next) s'):
  Â û (Ű8) (λ acc s₃=>Â û (ϖ3 Ĺ ϙ9 cl [] X.env.qual none Ġ ↑ Ö) (λ cenv s₄=>
   qG û (.compStart ÚD acc { cenv with Ĺ:=relabel Ĺ Ö }) (RR acc cenv.locals) s₄) E s₃) E s:=by
 exact zgB (ē6 λ h₁ eh=>?_);dsimp only at eh ⊢;generalize hH2:Ĩ { cls:=ł,dict:=none,data:=ÒS }=H2 at eh ⊢;have hC:Bx=uA:=by rw[<- hH2,IW]
 have hlt:Ë<Bx:=by rw[hC];show zE2 _
 have up:∀ b o,H2.get? b=↑o->ÙE:=λ b o e=>by rw[eh];show ϒ8 ņ (Qd)
 have old:∀ b o,ϑ->ÙE:=λ b o e=>up b o (hH2▸ Qd);have hacc:h₁.get? Ë=↑{ cls:=ł,data:=Ě Ē 0 }:=up À (hH2▸ Ũ);have hns₁:h₁.Ns Bx Fh:=by rw[eh];show (Heap.Ns.new H2 (T6)).keeps (ϒ8 À)
 let#[own,o1,o2,o3,o4]:=Ś2 Gk (H2.push { cls:=T6,data:=Áa }) cl;rw[IW] at o1 o2;rw[<- eh] at o2;rw[o1];have d1:∀ x c,ϵ7->(BI/\Ja)\/(š7/\Bx<c/\h₁.IsCell c none):=λ x c e=>by
  rw[zf3] at e;cases q:sC x with
  | some c'=>
   ext OK;show Ã (o2 _ (IL q))
  | none=>rw[q] at e;show Ä (Wz)
 have d2:∀ x,BI\/š7->(Χ8 x).isSome:=λ x hx=>by
  rw[zf3,ÙD];ext ŧ4
  .rw[c2 x hx,Bool.or_true]
  .rw[o4 x hx];rfl
 have d3:∀ x y c,ϵ7->Χ8 y=↑c->x=y:=λ x y c e1 e2=>by
  rw[zf3] at e1 e2;have low:∀ x c,rD->c<Bx:=λ x c e=>by
   let#[v,q]:=vQ x c (Wz).2;show zdF q.lt hlt
  have hi:∀ x c,sC x=↑c->Bx<c:=λ x c e=>(o2 _ (IL e)).2.1;cases q1:sC x with
  | some c1'=>
   rw[q1] at e1;cases e1;cases q2:sC y with
   | some c2'=>rw[q2] at e2;cases e2;show PySem.name_of_addr o3 (IL q1) (IL q2)
   | none=>rw[q2] at e2;show ò (low y _ e2) (Nat.lt_asymm (hi x _ q1))
  | none=>
   rw[q1] at e1;cases q2:sC y with
   | some c2'=>rw[q2] at e2;cases e2;show ò (low x _ e1) (Nat.lt_asymm (hi y _ q2))
   | none=>rw[q2] at e2;show I.ok.inj x y c (c1 x c e1).2 (c1 y c e2).2
 have hflt:ÝE:=λ b hb=>by
  let#[o,e,_]:=T.obj À t0 ţ;show Ϛ
 have hDn:HX:=AF;let#[W,ů3,turn]:=rd Ë hDn;have I0:=è5 (t':=ø) S I hfp hflt d1 d2 d3 hlt old hns₁ hacc;have t1:tn 0 h₁:=T.keep Ú t0 λ b _ o e=>old Ϙ;have hst:∀ b∈fp,b≠ Bx/\b∉ Qe/\∀ x c,ϵ7->c≠b:=λ b hb=>I0.ok.W4 ţ |> λ q=>#[q.1,I0.ok.cN ţ,q.2]
 have loop:qG û (.compLoop ÚD ş (compEnvC Ĺ (own++cl) Bx Ö)) (RR ş Bx) { s with heap:=h₁ }:=by
  exact ď0 (σ:=σ) hc (hg À Ú) (hf À Ú) (he À Ú) T hfp hst turn (fun σ' H' s' I' q=>?_) I0 t1 (qo) w0
  .let#[m,hn,_]:=I'.loc;have hn':s'.heap.Ns Bx m:=hn;let#[oC,es,ep,ho,hr]:=id hn';show fin À oC H' s' hlt (ë0 I hfp hlt I' ho) ho #[m,hn'] q
  .change upd Ū0 b=none;rw[yv (zB3 (hflt ţ))];show (Gf).1
 show codeAny_compStart_list loop (T.self _ 0 Ú t1 loop)
def Ě7 (S:sG) ę Ϭ1 Ι1
  ψ2:PE X AU ÒT:=by
 ext ÃT;rw[eval_ListComp];exact Ïn (use:=none) ÃK;ext Æg;exact ħ1 (RR:=λ acc C=>compPost û X.xe none (EP ú Q) acc C) S hc hg hf ÅO;let#[m,hn]:=hn;show#[m,hn,λ h' hs'=>#[Ò D,H',Ŀ8 I2 hC J' hs',rfl,q]]
def é1 ý ό1(S:sG) ę Ϭ1 Ι1
  ũ5 Ψ0
  (hsw:Ρ8:=by rfl)
  (hfn:ο4:=by ext Õj)
  ψ2:PS Çk (dh ÒT Vn):=by
 ext ÃT;rw[exec_Assign_Name_used ņ hsw];exact ÎG;change Â _ X.A (do let _ <- comprehension AU Ĺ Ö _ (Ű8) Á Ýv ↑ υ4) Ϗ;exact zg3 (zgC (Ïn (use:=↑ υ4) (Q:=ÍW) ÃK) (λ _ s' hq=>zD1 (zD1 hq)) ϰ3)
 ext Æg;exact ħ1 (Q:=λ x H1=>ŀ3 i x Ħ Q.nx) (RR:=λ acc C=>compPost û X.xe ↑ υ4 (ÍW) acc C) S hc hg hf ÅO;change Â _ X.A (ö1 (VJ) Ö JU) Ú;exact ÖG (ŕ1 J' hN hy hx (v:=Ò D) rfl (λ s3 J3=>?_) hfn);have hp:=(J3.pin Év).1;let#[m,o,es,ep,ho',hr]:=hn;have:o=oC:=π3;ext Ŗ;show#[m,#[o,es,ep,hp,hr],λ h' hs'=>#[_,H',Ŀ8 I2 hC J3 hs',q]]
end
end L2
namespace L3
open É Ü L2
open Î hiding St
inductive D where
 | zx | bl (b:Bool) | int Q4 | str Į | tup Lu | qZ Lu | ref Ĥ
def eM È ð Ĥ Jh:Prop:=
 (∃ o,H a=↑(.oE o uc))\/
  Æd
def eM.sq Ù Ø â ÿ(h:eM NQ):Jd:=by
 rcases h with h | h
 .show Ä (Ã h)
 .show Ã h
mutual
def zj È ð:D->V->Prop
 | .zx,v=>v=.zx
 | Ŭ,v=>v=Ŭ
 | ñ,v=>v=ñ
 | Ť,v=>v=Ť
 | ϩ,v=>∃ a xs,v=õ/\sT/\Ų
 | sj,v=>∃ a xs,v=õ/\eM NQ/\Ų
 | õ,v=>v=õ
def zv È ð:Ã4->Ŧ->Prop
 | [],xs=>xs=[]
 | Bb,xs=>∃ x r,xs=x::r/\Nb/\zv Å ds r
end
structure Ext (H H':Hp):Prop where
 tup:Z_
 oE:Ν5
 ext:∀ b φ,H b=↑(vF φ)->H' b=↑(vF φ)
 ds:∀ b x vs,H b=↑(.dS x vs)->∃ us,H' b=↑(Áb)
def Ext.refl ð:Ext H H:=#[ϰ4,λ _ _ _ h=>h,ϰ4,λ _ _ _ h=>#[_,h]]
def Ext.trans {H H1 H2:Hp}(a:Ác) (b:Ϲ0):Ext H H2:=#[λ c xs h=>b.tup c xs (a.tup c xs h),λ c o u h=>b.oE c o u (a.oE c o u h),λ c u h=>b.ext c u (a.ext c u h),λ c x u h=>by let#[_,h]:=a.ds c x u h;show b.ds c x _ h]
def Ext.new Ø ŵ(h:IT) (o:HO):Rm:=
 #[λ b xs q=>Š8,λ b ob u q=>Š8,λ b u q=>Š8,λ b x u q=>#[u,Š8]]
theorem Ext.lst Ø ŵ ÿ(h:Ű1) (o:HO):Rm:=
 Yy
def Ext.g_ Ù Å6 â ÿ JJ (h:sT):y8 ώ ϯ:=by
 rcases h with (h | ⟨o,h⟩) | h
 .show Ä (Ä (e.tup À h))
 .show Ä (Ã ÙF)
 .show Ã h
def Ext.ĺ0 Ù Å6 â ÿ JJ (h:eM NQ):eM ώ ϯ:=by
 rcases h with ⟨o,h⟩ | h
 .show Ä ÙF
 .show Ã h
section
variable {Ù}{Å6}
mutual
theorem FW JJ:∀ HL ř,ā6->ϰ5
 | .zx,v,h=>So
 | Ŭ,v,h=>So
 | ñ,v,h=>So
 | Ť,v,h=>So
 | õ,v,h=>So
 | ϩ,v,h=>by
  ext ÈP;show#[a,xs,h1,e.g_ h2,ϧ9]
 | sj,v,h=>by
  ext ÈP;show#[a,xs,h1,e.ĺ0 h2,ϧ9]
theorem Ζ JJ:∀ Lu ÿ,Ų->zv ώ ds xs
 | [],xs,h=>by simpa only [zv] using h
 | Bb,xs,h=>by
  simp![zv] at h ⊢;ext VP;show#[x,r,h1,FW e d h2,ϧ9]
end
theorem zv.length:∀ è ÿ,Ų->ϕ=å
 | [],xs,h=>by ext DH;subst h;rfl
 | Bb,xs,h=>by
  ext DH;let#[x,r,h1,_,h3]:=h;subst h1;simp[zv.length h3]
theorem zv.get:∀ è ÿ ý ì,Ų->nH->∃ x,Jn/\Nb
 | [],_,i,d,_,e=>Ϸ4
 | c::ds,xs,i,d,h,e=>by
  ext DH;ext VP;subst h1;cases i with
  | zero=>ext RZ;show Ûz
  | succ i=>
   let#[y,e1,e2]:=zv.get (i:=i) h3 Du;show Ω3
theorem zv.append:∀ Ŷ8 tJ,Ų->zv Å es ys->zv Å B_ Ź1
 | [],es,xs,ys,h,h'=>by ext DH;subst h;exists h'
 | Bb,es,xs,ys,h,h'=>by
  ext DH;ext VP;subst h1;change zv Å (d::B_) (x::(r++ys));simp![zv];show#[x,r++ys,rfl,h2,zv.append h3 h']
def zv.nil:zv Å qJ:=by simp![zv]
def zv.cons ì è Ϯ ÿ(h:Nb) (h':Ų):zv Å (Bb) Lv:=by
 simp![zv];show#[x,xs,rfl,h,h']
def zv.snoc ì è Ϯ ÿ(h':Ų) (h:Nb):zv Å (ds++[d]) (xs++[x]):=h'.append (Ó h Ð)
theorem zv.ints:∀ Ad ÿ,zv Å Nj xs->xs=sH Ø8
 | [],xs,h=>Ψ3
 | t9,xs,h=>by
  ext Τ8;rw[zA6,zv.ints h3]
theorem zv.aW:∀ su,zv Å Nj Kx
 | []=>Ð
 | t9=>Ó Em (zv.aW ns)
theorem zv.bools:∀ {ns:TC}ÿ,zv Å (sH D.bl) xs->xs=sH V.bl
 | [],xs,h=>Ψ3
 | t9,xs,h=>by
  ext Τ8;rw[zA6,zv.bools h3]
end
inductive O where
 | lst Lu
 | xk VH
 | jE
 /-- an instance of Desk and its dict -/
 | zL VH
 | xm (ep:Nat) (l:Ac)
abbrev SS:=Addr->î O
def xW È ð:Rn->LA->Prop:=Ņ λ p q=>Wj/\zj Å p.2 q.2
def kb È (c:Str) Jx:Prop:=Pg K HR c=↑↑ La
def vO:Ė->V
 | none=>.zx
 | some n=>Ê n
def mn È ð (b:Addr) (k:WA):Prop:=∃ c,y8 Å b [Ê k.1,Ò c]/\y8 Å c (k.2.map Ø8)
abbrev nA È ð:Ac->Ţ9->Prop:=Ņ λ p q=>Wj/\mn Å q.2.1 p.1/\RelV (vO p.2) q.2.2
def kG È ð Ĥ:O->Prop
 | KQ=>∃ xs,H a=↑ uc/\Ų
 | .xk kvs=>∃ vs,H a=↑ ϭ5/\JF
 | .jE=>∃ C dx,Qw/\H a=↑ ϖ0
 | .zL kvs=>∃ C dx q vs,Qw/\H a=↑ XQ/\H q=↑ ϰ6/\JF
 | .xm ep l=>∃ xs,Je/\Lp
def yu È ð Λ:Prop:=∀ a o,Ád->Ŵ8
def ups Λ Ĥ (o:O):SS:=λ b=>if b=a then ↑o else S b
def mT ß â â5:ups S a o a=↑o:=by unfold ups;rw[Ź]
def kf ß Pt â5(h:b≠a):ups S a o b=S b:=by unfold ups;rw[Ç h]
def Sx (S S':SS):Prop:=∀ b o,ÓZ
def Sx.refl Λ:Sx S S:=ϰ4
def Sx.trans {S S1 S2:SS}(a:Sx S S1) (b:Áe):Sx S S2:=λ c o h=>b c o (a c o h)
def Sx.new ß ŵ(h:Iv) (o:O):Sx S Ϩ0:=λ b u q=>by
 rw[kf (by intro z;subst z;rw[h] at q;cases q)];show q
theorem Sx.none uO(e:Kz) ŵ(h:S' p=Dw):S p=Dw:=by
 cases q:S p with
 | none=>rfl
 | some o=>rw[e p o q] at h;cases h
section
variable {Ù}{Å6}{ß}
def kG.has â â5(h:Ŵ8):H a≠none:=by
 cases o with
 | lst ds=>ext ς2
 | xk kvs=>ext ς2
 | jE=>let#[C,dx,_,h]:=h;rw[h];simp
 | zL kvs=>let#[C,dx,q,vs,_,h,_]:=h;rw[h];simp
 | xm ep l=>ext ς2
theorem yu.none bF ŵ(h:H p=Dw):S p=Dw:=by
 cases q:S p with
 | none=>rfl
 | some o=>show ò h (r p o q).has
theorem xW.ext JJ X_:xW ώ kvs vs:=
 RL h λ p q z=>#[z.1,FW e p.2 z.2]
def mn.ext JJ τ{k:WA}(h:QL):mn ώ b k:=let #[c,h1,h2]:=h;#[c,e.g_ h1,e.g_ h2]
theorem nA.ext JJ {l:Ac}{xs:Ţ9}(h:Lp):nA ώ uH:=RL h λ p q z=>#[z.1,z.2.1.ext e,z.2.2]
def kG.keep â â5 JJ (k:∀ u,Ôa) (kd:∀ q vs,ÈU) (h:Ŵ8):kG ώ a o:=by
 cases o with
 | lst ds=>let#[xs,h1,h2]:=h;show#[xs,k _ h1,Ζ e ds h2]
 | xk kvs=>ext Îr
 | jE=>let#[C,dx,h0,h1]:=h;show#[C,dx,h0,k _ h1]
 | zL kvs=>let#[C,dx,q,vs,h0,h1,h2,h3]:=h;show#[C,dx,q,vs,h0,k _ h1,kd Jr,h3.ext e]
 | xm ep l=>ext Îr
theorem yu.keep JJ (k:∀ a u o,Ád->Ôa) (kd:∀ q a vs,ÈU) bF:yu ώ S:=λ a o h=>(r a o h).keep e (λ u q=>k a u o h q) λ q vs z=>kd q a vs z
theorem yu.new ŵ{u:HO}(hp:H p=Dw) bF:yu K ū5 S:=
 r.keep (Ext.new hp u) (λ a v o _ q=>Õc) λ _ _ _ q=>Õc
theorem yu.ups ŵ{u:HO}â5(e:Ext H ū5) (hn:kG K ū5 p o) bF (hu:∀ x us,u≠ Áb:=by show λ _ _=>BJ):yu K ū5 Ϩ0:=λ a o' h=>by
 by_cases ha:a=p
 ext ÔU
 .rw[kf ha] at h;exact (r a o' h).keep e (λ v q=>by rw[yv ha];show q) λ q vs z=>?_;have hq:q≠p:=λ y=>by
   subst y;let#[us,e1]:=e.ds Ú z;rw[yF] at e1;show hu À (zD5 e1)
  rw[yv hq];show z
end
abbrev yZ:=List (î D)
def xV È ð (Y:yZ) Ls:Prop:=ź3=Ϸ5/\∀ Í HL,Ϛ9->∃ v,ϕ6/\ā6
theorem xV.ext Ù Å6 t4 Ÿ JJ (r:Dc):xV ώ Y σ:=#[r.1,λ i d h=>by
 let#[v,h1,h2]:=r.2 i d h;show#[v,h1,FW e d h2]]
theorem xV.set Ù Ø t4 Ÿ Í ì ř(r:Dc) (h:ā6):xV Å Ť0 υ1:=by
 exact#[by rw[zeK,zeK];show r.1,λ j c hc=>?_];rw[zf4] at hc ⊢;by_cases hj:i=j
 .subst hj;rw[Ź] at hc ⊢;by_cases hl:i < ź3
  .rw[Ô hl] at hc;rw[Ô (by rw[<- r.1];show hl)];cases hc;show#[v,rfl,h]
  .rw[Ç hl] at hc;cases hc
 .rw[Ç hj] at hc ⊢;show r.2 j c hc
abbrev DK:=D->Au
abbrev zy:=yZ->Ũ1
abbrev xn:=yZ->SS->(rP)->Prop
abbrev y7:=yZ->SS->(ź4)->Prop
def yC Ki:Prop:=∀ Y S Ζ0,ϰ7
def o_ rN:Prop:=∀ Y S (Q Q':rP),ϰ7
def nP rj:Prop:=∀ Y S (Q Q':ź4),ϰ7
def oh È ð Κ:DK:=λ d S'=>∀ v H',ϰ5->ϐ1
def cU È ð qb:rP:=λ b S'=>∀ H',B7->yk->Q b H'
def Î2 È ð (Q:U0):ź4:=λ ds S'=>∀ vs H',zv ώ ds vs->B7->yk->Q vs H'
def nJ È ð (Q:DB):tZ:=fun Y S'=>∀ σ H',xV ώ Y σ->B7->yk->Q σ H'
def Sb Ù Å6 Rg JJ ì ß(h:oh Å Q d S):oh Âp:=Én
def cU.ext Ù Å6{Q:Ux}JJ {d:Bool}ß(h:cU Å Q d S):cU Âp:=λ H2 x q=>h H2 (e.trans x) q
def QP Ù Å6{Q:DB}JJ {d:yZ}ß(h:nJ Å Q d S):nJ Âp:=Én
def zT È Ki:TE:=fun σ H Q=>∃ Y S,Dc/\ϗ/\t Y ZD
def pU È rN:TT:=fun σ H Q=>∃ Y S,Dc/\ϗ/\t Y S (cU Å Q)
def wY È rj:TA:=fun σ H Q=>∃ Y S,Dc/\ϗ/\t Y S (Î2 Å Q)
structure PD ê vY Ki:Prop where
 mo:yC t
 pe:PE Ϭ2
structure zG ê vY rN:Prop where
 mo:o_ t
 pt:PT Ϭ3
structure yB ê ĉ5 rj:Prop where
 mo:nP t
 pa:PA X es (wY Gi)
def Ğ Æ č{t t':TE}(h:PE tH) T_:PE Bw:=XC
def Jb Æ č{t t':TT}(h:PT tH) T_:PT Bw:=XC
def PA.imp Æ{e:sv}{t t':TA}(h:PA tH) T_:PA Bw:=λ pos gV s σ H Q I q=>h pos Ϟ3
def qc Æ{e:Stmt}{t t':TS}(h:PS tH) (hi:ÎH):PS Bw:=Éo
def pP.imp Æ{e:ϣ}{t t':TS}(h:pP tH) (hi:ÎH):pP Bw:=Éo
section
variable {Æ}{Ù}
def ď LC Ÿ Ø Rg t4 ß{R:DK}(mo:yC t) μ1 (k:∀ d S' v H',R N4->ϰ5->ϐ1):zT K t Ś:=
 ÄB
def Dy {t:xn}Ÿ Ø{Q:Ux}t4 ß{R:rP}(mo:o_ t) μ1 (k:∀ d S' H',R N4->B7->yk->Q d H'):pU K t Ś:=
 #[Y,S,r1,r2,mo é (λ d S' q H' b c=>k N4 H' q b c) h]
def qE {t:y7}Ÿ Ø{Q:U0}t4 ß{R:ź4}(mo:nP t) μ1 (k:∀ d S' v H',R N4->zv ώ d v->ϐ1):wY K t Ś:=
 ÄB
def yE Í:zy:=fun Y S Q=>match Y[i]? with
 | some ↑d=>LD
 | _=>Þ
def dC HL:zy:=λ _ S Q=>LD
def Ğ2 Í ô Ć(h:PE zR):PD Η1:=by
 exact#[fun Y S Q Q' hq h=>?_,Ğ h Ľ]
 .unfold yE at h ⊢;ext ç
  .show ō
  .show h
 .ext ÜJ
  ext Çv
  .show ï
def dC.mo HL:yC (dC d):=Ôb
def iW č ì ř(h:PE X e (tC v)) (r:∀ H,zj ė d v):PD X e (dC d):=
 #[dC.mo d,Ğ h λ _ H _ ÑX=>h v H (r H) Ũ2 r2]
def Ç3 {i j pos}:PD X Ûm (dC Lk):=iW í3 QD
def č7 {i j pos}:PD X (EW (ź i) j pos) (dC (.bl i)):=iW Ù7 QD
def ñ4 {j pos}:PD X Ûn (dC .zx):=iW þ6 QD
def ő1 {x j pos}:PD X Ûo (dC GN):=iW Á7 QD
abbrev xJ:=D->D->Ũ1
def vn (f:xJ):Prop:=∀ x y S Ζ0,(rZ)->f PX->f x y S Q'
def wG È (f:xJ) (r:R2):Prop:=∀ x y d e H S Q,Nb->Ϲ1->ϗ->f d e ZD->r EN
def yJ (f:xJ) Ž8:zy:=fun Y S Q=>ta Y S λ x S1=>tb Ĕ λ y S2=>f x y S2 Q
def yJ.mo {f:xJ}ID Ζ1 En:yC Wb:=fun Y S Q Q' hq h=>
 ha é (λ x S1 h=>hb Ō (λ y S2 h=>hf Η2 hq h) h) h
def ŕ3 ŭ5 ID(hr:wG K f r) Ζ1 En Ÿ Ø Rg(h:zT K Wb Ś):Ł7 r ØM Ś:=by
 ext ÊF;show hr v w UP S2 Q ϔ3 p2 (hf Η2 (λ d S' z=>z.ext (Vm)) h2)
def jD Gm{op:Operator}Ć ŭ5 ID(ho:Ûq) τ3 ĕ:PD X Ýx Wb:=
 #[Ϡ9,Ğ (ñ9 ho HV) ÎI]
def kZ Gm AY Ć ŭ5 ID Ni τ3 ĕ (hm:AQ):PD Ru Wb:=
 #[Ϡ9,Ğ (Ó2 ho HV hm) ÎI]
def oj Ki:xn:=fun Y S Q=>t Y S λ x S1=>match x with
 | Ŭ=>Q b S1
 | _=>Þ
def oj.mo LC(h:yC t):o_ (oj t):=fun Y S Q Q' hq q=>h é (λ d S' z=>by
 cases d <;> first
  | show Js
  | show z) q
def kr Gm AY Ć ŭ5 ID Ni τ3 ĕ (hm:AQ):zG Ru (oj Wb):=by
 exact#[oj.mo (Ϡ9),Jb (Ĉ8 ho HV hm) ÛA];ext Υ9;exact ŕ3 hr hf u5 #[Y,S,r1,r2,yJ.mo hf u5 ÌV];cases d with
 | bl k=>simp![zj] at a;show Ôc
 | _=>show FF
def fI (C:IP) (g:sM):xJ:=λ x y S Q=>match x,y with
 | ñ,AM=>C i j/\Q Iz S
 | _,_=>Þ
def fI.mo {C:IP}{g:sM}:vn (fI C g):=λ x y S Q Q' hq h=>by
 unfold fI at h ⊢;ext ç
 .show vB
 .show ï
def zH (g:sM):xJ:=λ x y S Q=>match x,y with
 | ñ,AM=>Q Iz S
 | _,_=>Þ
def zH.mo {g:sM}:vn (zH g):=λ x y S Q Q' hq h=>by
 unfold zH at h ⊢;ext ç
 .show ō
 .show ï
def fI.fits {C:IP}Ι6:wG K (fI C g) (rI C g'):=λ x y d e H S Q h1 h2 h3 h=>by
 unfold fI at h;ext ç
 .ext Aq;show#[_,_,h1,h2,h.1,h.2 ϥ0 Ũ2 h3]
 .show ï
def zH.fits Ι6:wG K (zH g) (ni g'):=λ x y d e H S Q h1 h2 h3 h=>by
 unfold zH at h;ext ç
 .ext Aq;show#[_,_,h1,h2,h ϥ0 Ũ2 h3]
 .show ï
variable {Gm}{ID}{Ć}
def á5 ĕ:PD X (BC a .Sub JQ) ÖR:=jD ë4 áu
def Ï8 ĕ:PD X (BC a .Mod JQ) ÖS:=jD é8 Uq
def ú2 ĕ:PD X (BC a .FloorDiv JQ) ÖT:=jD û4 Uq
def Ā1 ĕ:PD X (BC a .Pow JQ) ÖU:=jD Ê6 Uq
def Õ8 ĕ:PD X (BC a .RShift JQ) ÖV:=jD ĕ7 Uq
def À6 ĕ:PD X (BC a .BitAnd JQ) ÖW:=jD Ė3 áu
abbrev Zx:xJ:=zH Zq
abbrev ŗ8:xJ:=zH WT
abbrev Zy:xJ:=zH aM
def fit_le:wG K Zx (ni Zq):=WQ
def ė3:wG K ŗ8 (ni WT):=WQ
def Ĭ9:wG K Zy (ni aM):=WQ
def í8 ĕ:PD X ÖX (yJ Zx Ă):=kZ zP fit_le QJ
def ñ6 ĕ:PD X ÖY (yJ Zy Ă):=kZ Ľ2 Ĭ9 QJ
def é4 ĕ:zG X ÖX (oj (yJ Zx Ă)):=kr zP fit_le QJ
def ċ2 ĕ:zG X (BO a [.Gt] Ew) (oj (yJ ŗ8 Ă)):=kr Æ5 ė3 QJ
def Ì1 ĕ:zG X ÖY (oj (yJ Zy Ă)):=kr Ľ2 Ĭ9 QJ
end
section
variable {Æ}{Ù}{a b c:Expr}{ID}{Ć}
def bc Ž8:zy:=fun Y S Q=>ta Y S λ x S1=>match x with
 | Gj=>if Hr then Áf else Q LN S1
 | _=>Þ
def cY Ž8:zy:=fun Y S Q=>ta Y S λ x S1=>match x with
 | Gj=>if Hr then Q (qe) S1 else Áf
 | _=>Þ
def cZ (ta:zy):zy:=fun Y S Q=>ta Y S λ x S1=>match x with
 | Gj=>Q (.bl (!k)) S1
 | _=>Þ
def pZ {c:Prop} [SX c] {A B A' B':Prop}(h1:A->A') (h2:B->B') (h:if c then A else B):if c then A' else B':=by
 by_cases q:c
 .rw[Ô q] at h ⊢;show h1 h
 .rw[Ç q] at h ⊢;show h2 h
def bc.mo En:yC (bc Ă):=fun Y S Q Q' hq h=>ha é (λ x S1 z=>by
 cases x <;> first
  | show pZ Ϩ1 OY z
  | show z) h
def cY.mo En:yC (cY Ă):=fun Y S Q Q' hq h=>ha é (λ x S1 z=>by
 cases x <;> first
  | show pZ OY Ϩ1 z
  | show z) h
def cZ.mo (ha:yC ta):yC (cZ ta):=fun Y S Q Q' hq h=>ha é (λ x S1 z=>by
 cases x <;> first
  | show Js
  | show z) h
def ø2 {op} LC(h:PD X a t):PD ÞT:=#[h.mo,Ñ5 h.pe]
variable {rest:sv}
theorem Ă0 KY (hb:PD š2 tb):PD š4 (bc Ă):=by
 exact#[bc.mo u5,Ğ (č9 HV) Ľ];ext Lr;cases x with
 | bl k=>
  ext ÍB
  .show ϛ0
  .show z Ff
 | _=>show Ai
theorem Ĉ5 KY (hb:PD ţ4 tb):PD ţ5 (cY Ă):=by
 exact#[cY.mo u5,Ğ (ė0 HV) Ľ];ext Lr;cases x with
 | bl k=>
  ext ÍB
  .show z Ff
  .show ϛ0
 | _=>show Ai
theorem Ì6 KY:PD ř1 (cZ ta):=by
 exact#[cZ.mo ă,Ğ (õ3 ha.pe) Ľ];ext Lr;cases x with
 | bl k=>
  ext HF;show#[k,q1,h1 Ff]
 | _=>show Ai
def cT (t u:xn):xn:=fun Y S Q=>t Y S λ k S1=>if Hr then u Ĕ Q else Q Á S1
def cQ (t u:xn):xn:=fun Y S Q=>t Y S λ k S1=>if Hr then Q true S1 else u Ĕ Q
def cR rN:xn:=fun Y S Q=>t Y S λ k S1=>Q (!k) S1
variable {t u:xn}
def cT.mo (h:o_ t) (h':o_ u):o_ (cT t u):=fun Y S _ _ hq z=>h é (λ k S1 z=>pZ (h' Ō hq) OY z) z
def cQ.mo (h:o_ t) (h':o_ u):o_ (cQ t u):=fun Y S _ _ hq z=>h é (λ k S1 z=>pZ OY (h' Ō hq) z) z
def cR.mo (h:o_ t):o_ (cR t):=fun Y S _ _ hq z=>h é (λ k S1 z=>Js) z
structure xM ê vY rN:Prop where
 mo:o_ t
 pw:PW Ϭ3
def PW.imp č{t t':TT}(h:PW tH) T_:PW Bw:=λ rC gV s σ H Q I q=>h rC Ϟ3
theorem xM.pt č{t:xn}(h:xM tH):zG tH:=#[h.mo,PW.pt h.pw]
def vx (h:Sz):xM X Ýr t:=#[h.mo,ü4 h.pt]
def vw (h:Sz):xM X ßJ t:=#[h.mo,õ6 h.pt]
def yN (ha:Sz) (hb:xM š2 u):xM š4 (cT t u):=by
 exact#[cT.mo u5,PW.imp (ē3 ha.pt hb.pw) Ľ];ext Vq;exact Dy o8 λ k S1 H1 h1 e1 p1=>pZ Jf (λ z=>z u6) h1;show ÅG
def yM (ha:Sz) (hb:xM ţ4 u):xM ţ5 (cQ t u):=by
 exact#[cQ.mo u5,PW.imp (Ö3 ha.pt hb.pw) Ľ];ext Vq;exact Dy o8 λ k S1 H1 h1 e1 p1=>pZ (λ z=>z u6) Jf h1;show ÅG
def Â6 (ha:Sz):zG ř1 (cR t):=by
 exact#[cR.mo ă,Jb (Ú8 ha.pt) Ľ];ext Vq;show Dy o8 λ k S1 H1 h1 e1 p1=>h1 u6
def c_ rN Ž8:zy:=fun Y S Q=>t Y S λ k S1=>if Hr then ta Ĕ Q else Áf
def c_.mo (h:o_ t) En:yC (c_ t Ă):=fun Y S _ _ hq z=>h é (λ k S1 z=>pZ (ha Ō hq) Ϩ1 z) z
def à4 (hc:zG X c t) ĕ:PD X Ùq (c_ t Ă):=by
 exact#[c_.mo Jt u5,Ğ (ú8 hc.pt HV) Ľ];ext Vq;exact Dy Jt QX h Åa
 .show ď ă ÂX
 .show ϛ0
def nU HL Λ (Q:rP):Prop:=match d with
 | .zx=>Q Á S
 | Gj=>Q k S
 | ñ=>Q (i != 0) S
 | Ť=>Β1/\Q ÝG S
 | ϩ=>Β2
 | sj=>Β2
 | Č=>match S p with
  | J8=>Β2
  | some AI=>Q (ϟ8) S
  | _=>Þ
def Ř0 (ta:zy):xn:=fun Y S Q=>ta Y S λ x S1=>nU x S1 Q
def nU.mo ì ß{Q Q':rP}(hq:∀ k S',Q k S'->Q' k S') (h:nU d S Q):nU d S Q':=by
 cases d with
 | str x=>show vB
 | ref p=>
  unfold nU at h ⊢;ext Ϗ0
  .show ō
  .show ō
  .show h
 | _=>show ō
theorem zv.isEmpty Ø è ÿ(h:Ų):ϰ8=tL:=by
 have:=Ág;cases ds <;> cases xs <;> simp_all
def zbe Ŗ5 D0{ys:Ts}(h:Ņ F xs ys):tL=ys.isEmpty:=by cases h <;> rfl
def nU.fits Ø ì ř ß{Q:Ux}uk (h:nU d S (cU Å Q)):∃ k,ŷ3 K v H k/\Q k H:=by
 cases d with
 | zx=>ext PV;show#[Á,rfl,jU]
 | bl k=>ext PV;show#[k,rfl,jU]
 | int i=>ext PV;show#[_,rfl,jU]
 | str x=>ext PV;show#[_,#[h.1,rfl],h.2 H ϲ p]
 | tup ds=>
  ext Ív;show#[_,Ã (Ä #[xs,r1,ϐ2]),jU]
 | qZ ds=>
  ext Ív;show#[_,Ä #[xs,r1.sq,ϐ2],jU]
 | ref a=>
  ext PV;unfold nU at h;dsimp only at h;ext ç
  .rename_i ds e;ext ÚF;show#[_,Ä #[xs,Ñ7 e1,ϐ2],jU]
  .rename_i kvs e;ext ÚF;show#[_,Ã (Ã #[xs,e1,by rw[zbe r2]]),jU]
  .show ï
def ę0 KY (he:Äc):zG X a (Ř0 ta):=by
 exact#[fun Y S Q Q' hq h=>ă Ïb,Jb (Ă3 ha.pe he) Ľ];ext Lr;show nU.fits q1 p1 (nU.mo (λ k S' z=>z.ext e1) h1)
def kD:y7:=λ _ S Q=>Q [] S
def mL uD (tr:y7):y7:=fun Y S Q=>te Y S λ x S1=>tr Ĕ λ xs S2=>Q Lv S2
variable {č}{ĩ}{BL}{Ū}
def mL.mo (h:yC te) (h':HB):nP (mL te tA):=fun Y S _ _ hq z=>h é (λ x S1 z=>h' Ō (λ xs S2 z=>Js) z) z
def Ō1:yB X [] kD:=#[Ôb,PA.imp k_ fun σ H Q ÑX=>h [] H Ð ϲ r2]
def Ŋ2 (ha:MA) (hr:ϰ9) (hs:E5):yB X Hi (mL te tA):=by
 exact#[mL.mo ă hr.mo,PA.imp (ja ha.pe hr.pa hs) Ľ];ext Lr;exact qE hr.mo vU h1 λ xs S2 w H2 h2 q2 e2 p2=>?_;show h2 (v::w) H2 (Ó ϔ3) TF
def ĳ8 rj:zy:=fun Y S Q=>t Y S λ ds S1=>ϕ<=Ý/\Q (ϩ) S1
def ġ1 rj:zy:=fun Y S Q=>t Y S λ ds S1=>ϕ<=Ý/\∀ p,S1 p=none->Q Đ (ups S1 p ET)
def ô5 {k} (h:ϰ9):PD ό0 (ĳ8 tA):=by
 exact#[fun Y S _ _ hq z=>h.mo é (λ ds S1 z=>Ŝ5) z,Ğ (ð6 h.pa) Ľ];ext ÄJ;exact h1.2 À ?_ (KI Ŝ) (p1.new hp);ext FY;show#[p,xs,rfl,RU,Ζ Ŝ ds q1]
theorem Ç5 (h:ϰ9):PD X Ýz (ġ1 tA):=by
 exact#[fun Y S _ _ hq z=>h.mo é (λ ds S1 z=>#[z.1,λ p hp=>hq À (z.2 p hp)]) z,Ğ (ē4 h.pa) Ľ];ext ÄJ;exact h1.2 p (p1.none hp) L9 (KI Ŝ) ?_;show p1.ups Ŝ #[xs,yF,Ζ Ŝ ds q1]
def oG:xJ:=λ x y S Q=>match x,y with
 | ϩ,ñ=>match yx ds i with
  | some d=>LD
  | none=>Þ
 | sj,ñ=>match yx ds i with
  | some d=>LD
  | none=>Þ
 | Č,ñ=>match S p with
  | J8=>match yx ds i with
   | some d=>LD
   | none=>Þ
  | _=>Þ
 | Ì z,ñ=>Kb/\match yx Ϟ1 with
  | some c=>Q (U3) S
  | none=>Þ
 | _,_=>Þ
def oG.mo:vn oG:=λ x y S Q Q' hq h=>by
 unfold oG at h ⊢;ext ç
 .skip
  ext ç
  .show ō
  .show h
 .skip
  ext ç
  .show ō
  .show h
 .skip
  ext ç
  .skip
   ext ç
   .show ō
   .show h
  .show ï
 .let#[h0,h]:=h;exact#[h0,?_];ext ç
  .show ō
  .show h
 .show ï
theorem zv.yx Ø è ÿ G7 ì(h:Ų) (e:Ω4):∃ x,LK xs i=↑x/\Nb:=by
 unfold LK at e ⊢;rw[Ág] at e;cases q:px å i with
 | none=>ext OK
 | some j=>
  rw[q] at e;show h.get e
def oG.fits:wG K oG (ı9 K):=λ x y d e H S Q h1 h2 h3 h=>by
 unfold oG at h;ext ç
 .ext ç
  .ext ÇV;show Ã (Ä #[a,xs,_,x',rfl,h2,r1,e1,ϒ9])
  .show ï
 .ext ç
  .ext ÇV;show Ä #[a,xs,_,x',rfl,h2,r1.sq,e1,ϒ9]
  .show ï
 .ext ç
  .rename_i q0;ext ç
   .ext Ϸ2;subst h1;let#[xs,r1,r2]:=h3 À q0;ext ÚG;show Ä #[_,xs,_,x',rfl,h2,Ñ7 r1,e1,ϒ9]
   .show ï
  .show ï
 .let#[h0,h]:=h;ext ç
  .ext Ϸ2;show Ã (Ã #[_,_,_,h1,h2,h0,q,OO])
  .show ï
 .show ï
def ß0 ĕ (hs:Į2 b):PD X (Gs a JQ) (yJ oG Ă):=
 #[yJ.mo oG.mo u5,Ğ (á3 ì9 HV hs) λ _ _ _ h=>ŕ3 oG.fits oG.mo u5 h]
abbrev xC:=Ã4->Ũ1
def qV (f:xC):Prop:=∀ ds S Ζ0,(rZ)->f Io->f ds S Q'
def pR È (f:xC) (r:KA):Prop:=∀ xs ds H S Q,Ų->ϗ->f ds ZD->ÀQ
def vj (f:xC) rj:zy:=fun Y S Q=>t Y S λ ds S1=>f ds S1 Q
def vj.mo Iw Pk (h:HB):yC Ϲ2:=fun Y S _ _ hq z=>h é (λ ds S1 z=>hf ϥ1) z
def ĳ4 Iw{r:KA}Pk (hr:pR K f r) (h:HB) Ÿ Ø Rg(hu:zT K Ϲ2 Ś):ż7 r ϥ2:=by
 ext ÔJ;exact qE h QX h' Λ1;show hr ØN (hf ËS)
def m5 Iw{r:KA}č(h:PE X e (ż7 r ū6)) Pk (hr:pR X.K f r) (ha:HB):PD X e Ϲ2:=
 #[vj.mo hf ha,Ğ h λ _ _ _ hu=>ĳ4 hf hr ha hu]
def yA HL Λ:î (Ã4):=match d with
 | ϩ=>↑ds
 | sj=>↑ds
 | Č=>match S p with
  | J8=>↑ds
  | _=>none
 | _=>none
theorem yA.sq Ø ß ì ř è uk Wi:∃ a xs,v=õ/\(Jd\/sT)/\Ų:=by
 unfold yA at e;ext ó
 .ext ž2;show#[a,xs,h1,Ã h2,h3]
 .ext ž2;show#[a,xs,h1,Ä h2.sq,h3]
 .ext ó
  .ext ÈH;show#[_,xs,rfl,Ä (Ñ7 h1),h2]
  .cases e
 .cases e
def zv.one Ø ì ÿ(h:zv Å [d] xs):∃ x,xs=[x]/\Nb:=by
 ext DH;let#[x,r,rfl,h2,rfl]:=h;show Ûz
def zv.two Ø{d d':D}ÿ(h:zv Å [d,d'] xs):∃ x y,xs=Rj/\Nb/\zj Å d' y:=by
 ext DH;let#[x,r,rfl,h2,y,r',rfl,h3,rfl]:=h;show#[x,y,rfl,h2,h3]
def lu:xC:=λ ds S Q=>match ds with
 | [d]=>match K3 with
  | Β3=>Q (Ê ϕ) S
  | none=>match d with
   | Ì z=>Kb/\Q Áh S
   | _=>Þ
 | _=>Þ
def lu.mo:qV lu:=λ ds S Q Q' hq h=>by
 unfold lu at h ⊢;ext ç
 .skip
  ext ç
  .show ō
  .ext ç
   .show vB
   .show ï
 .show ï
abbrev þ2 È:KA:=λ xs H Q=>(∃ p ys,υ/\eG/\Q (Ê ν) H)\/(Êd)
def lu.fits:pR K lu (þ2 K):=λ xs ds H S Q h0 h2 h=>by
 unfold lu at h;ext ç
 .ext LY;ext ç
  .ext ÉA;exact Ä #[a,ys,rfl,q,?_];rw[<- Az];show uP
  .ext ç
   .ext ŷ8;show Ã #[_,rfl,h.1,h.2 J6 h2]
   .show ï
 .show ï
def lr:xC:=λ ds S Q=>match ds with
 | [d]=>match K3 with
  | Β3=>Ôd
  | none=>Þ
 | _=>Þ
def lr.mo:qV lr:=λ ds S Q Q' hq h=>by
 unfold lr at h ⊢;ext ç
 .skip
  ext ç
  .show λ p hp=>hq À (h p hp)
  .show ï
 .show ï
def lr.fits:pR K lr (λ xs H Q=>∃ p ys,υ/\eG/\Êe):=λ xs ds H S Q h0 h2 h=>by
 unfold lr at h;ext ç
 .ext LY;ext ç
  .ext ÉA;exact#[a,ys,rfl,q,λ l hl=>?_];show h l (RS hl) L9 LO (h2.ups LO #[ys,yF,Ζ LO _ r])
  .show ï
 .show ï
def lj:xC:=λ ds S Q=>match ds with
 | [ϩ]=>Ŵ9
 | [sj]=>Ŵ9
 | [Č]=>match S p with
  | J8=>Ŵ9
  | _=>Þ
 | _=>Þ
def lj.mo:qV lj:=λ ds S Q Q' hq h=>by
 unfold lj at h ⊢;ext ç
 .show ō
 .show ō
 .skip
  ext ç
  .show ō
  .show ï
 .show ï
def lj.fits:pR K lj (λ xs H Q=>∃ p ys,υ/\((yy wM/\Êf)\/(y8 wM/\Q Đ H))):=λ xs ds H S Q h0 h2 h=>by
 unfold lj at h;ext ç
 .ext LY;have h1':=h1;ext DQ;ext Ο4;show#[a,xs,rfl,Ã #[r1,h _ H h1' ϲ h2]]
 .ext LY;ext DQ;ext Ο4;exact#[a,xs,rfl,Ä #[r1.sq,Ëj]];ext FY;show ÇZ
 .ext LY;ext ç
  .rename_i e;ext ŷ8;let#[xs,r1,r2]:=h2 À e;exact#[_,xs,rfl,Ä #[Ñ7 r1,Ëj]];ext FY;show ÇZ
  .show ï
 .show ï
def mI (g:sM):xC:=λ ds S Q=>match ds with
 | rS=>Q Iz S
 | _=>Þ
def mI.mo {g:sM}:qV (mI g):=λ ds S Q Q' hq h=>by
 unfold mI at h ⊢;ext ç
 .show ō
 .show ï
def mI.fits Ι6:pR K (mI g) (λ xs H Q=>∃ i j,xs=rS/\Q Ái H):=λ xs ds H S Q h0 h2 h=>by
 unfold mI at h;ext ç
 .let#[x,y,hx,h1,h3]:=h0.two;subst hx;simp![zj] at h1 h3;subst h1 h3;show#[_,_,rfl,h ϥ0 ϲ h2]
 .show ï
def zc1:xJ:=λ x y S Q=>match x,y with
 | Č,Ò q=>match S p,S q with
  | J8,↑(Ñ es)=>ο9
  | _,_=>Þ
 | _,_=>Þ
def l4 ž1:zy:=fun Y S Q=>to Y S λ x S1=>match x with
 | Č=>ω8/\te Ĕ λ y S2=>match S2 p with
  | J8=>ϕ<Ý/\Q .zx (ups S2 p (Ñ (ds++[y])))
  | _=>Þ
 | _=>Þ
def l4.mo yV EB:yC TK:=fun Y S Q Q' hq z=>h é (λ x S1 z=>by
 cases x with
 | ref p=>
  exact#[z.1,h' Ō (λ y S2 w=>?_) z.2];split at w
  .show#[w.1,hq À w.2]
  .show w.elim
 | _=>show z) z
theorem ń8 yV EB Ls ð Κ (hu:zT K TK Ś):iQ K "list" ŕ9 (zT K to) (dg Ϲ3 gX) Ś:=by
 ext Ϗ2;cases x with
 | ref p=>
  ext Θ9;exact ď h' Ĭ1;split at h2
  .rename_i ds' e3;let#[xs',g3,g4]:=p2 À e3;exact#[p,xs',w,rfl,rfl,g3,by rw[<- MH];show h2.1,?_];have e4:Ext H2 (upd H2 p (Ñ (xs'++[w]))):=Ñ g3 _;show h2.2 L9 (SR e4) (p2.ups e4 #[_,yF,Ζ e4 _ (g4.snoc q2)])
  .show h2.elim
 | _=>show Ai
def Ø0 {o e:Expr}yV{e0:Expr}(hpe:PE X e0 (iQ X.K "list" ŕ9 Ìl)) EB:PD X e0 TK:=#[l4.mo vX,Ğ hpe (ń8 vX)]
end
structure iE where
 nx:tZ
 rt:DK
 bk:tZ:=Xi
 ct:tZ:=Xi
abbrev xl:=iE->tZ
structure iE.Le (E E':iE):Prop where
 nx:∀ Y S,ź5->E'.nx Y S
 rt:∀ d S,E.rt d S->E'.rt d S
 bk:∀ Y S,E.bk Y S->E'.bk Y S
 ct:∀ Y S,E.ct Y S->E'.ct Y S
def l_ (t:xl):Prop:=∀ E E' Y S,iE.Le E E'->t E Y S->t E' Y S
def ly È ð Yx:iE:=#[nJ Å D.nx,oh Å D.rt,nJ Å D.bk,nJ Å D.ct]
theorem ly.ext Ù Å6{D:Ends}JJ:(ly Å D).Le (ly ώ D):=#[ω9,λ _ _ h=>Sb e h,ω9,ω9]
def Ļ7 È (t:xl):TS:=λ D σ H=>∃ Y S,Dc/\ϗ/\t (ly Å D) Y S
structure zu ê K2 (t:xl):Prop where
 mo:l_ t
 ps:PS ϥ3
structure y_ ê (st:ϣ) (t:xl):Prop where
 mo:l_ t
 ps:pP ϥ3
section
variable {Æ}{Ù}{v7}{rest:ϣ}{t u:xl}{Ć}{č}{BL}
def ı3:xl:=λ E Y S=>ź5
def jn (t u:xl):xl:=λ E Y S=>t { E with nx:=u E } Y S
def jn.mo (h:l_ t) (h':l_ u):l_ Áj:=λ E E' Y S hE z=>h { E with nx:=u E } { E' with nx:=u E' } Y S #[fun Y S q=>h' E E' Y S hE q,hE.rt,hE.bk,hE.ct] z
def Ä5:y_ X [] ı3:=#[λ _ _ _ _ hE h=>Ák,pP.imp đ1 λ D σ H #[Y,S,r1,r2,h]=>h Û r1 ϲ r2]
def ų6 (h:zu Xb):y_ X [st] t:=#[h.mo,Ö9 h.ps]
def wt (h:zu Xb) (h':y_ X rest u):y_ X (st::rest) Áj:=by
 exact#[jn.mo h.mo ym,pP.imp (Ĉ0 Àq) HG];ext ħ;exact#[Y,S,r1,r2,h.mo { ly ė D with nx:=u (ly ė D) } _ Y S #[fun Y' S' q σ' H' q1 q2 q3=>?_,Kf,Kf,Kf] z];show#[Y',S',q1,q3,ym À Y' S' (ly.ext q2) q]
def eD uD:xl:=λ E Y S=>te Y S λ _ S1=>E.nx Ĕ
def ô0 s_ (hs:ύ2):zu X (Ū9) (eD te):=by
 exact#[λ E E' Y S hE z=>Ν Ñp,qc (Ð0 LM hs) HG];ext ħ;show ď Ν Çs
def iq uD:xl:=λ E Y S=>te Y S E.rt
def ŉ1 s_:zu X Õl (iq te):=by
 exact#[λ E E' Y S hE z=>Ν é (λ _ _ q=>hE.rt À q) z,qc (Đ4 LM) HG];ext ħ;show ď Ν GI λ x S1 v H1 h1 q1 e1 p1=>h1 v H1 q1 B0
def ir (c:xn) (t u:xl):xl:=λ E Y S=>c Y S λ k S1=>if Hr then t E Ĕ else u E Ĕ
def ķ4 Jo{p q:ϣ}ED(hc:zG MT) Óx:zu X (.If c p q pos) Ϩ2:=by
 exact#[Äe,qc (ø6 hc.pt Àq) HG];ext Öa
 .show ËD
 .show Ëk
abbrev wR:=D->ÔV
abbrev oH:=Ã4->ÔV
def Ŗ1 (t:wR):Prop:=ÄI
def ĭ4 (t:oH):Prop:=ÄI
def da È (t:wR):TG:=λ v σ H Q=>∃ d Y S,ā6/\Íd
def ġ4 È (t:oH):jw:=λ v σ H Q=>∃ d Y S,zv Å d v/\Íd
structure mQ ê vY (t:wR):Prop where
 mo:Ŗ1 t
 pg:PG X e (da Gi)
structure eO ê ĉ5 (t:oH):Prop where
 mo:ĭ4 t
 pg:kH X es (ġ4 Gi)
def PG.imp č{t t':TG}(h:PG tH) (hi:Ìf):PG Bw:=ÅS
def kH.imp {e:sv}{t t':jw}(h:kH tH) (hi:Ìf):kH Bw:=ÅS
def hName Í:wR:=λ d Y S Q=>Q Ť0 S
def ð8 č ý(h:PG X e Vn):mQ X e Dj:=
 #[υ5,PG.imp h λ v σ H Q #[d,Y,S,r1,r2,r3,z]=>z _ H (r2.set i r1) ϲ r3]
def ŏ2:oH:=λ ds Y S Q=>ds=[]/\Q Y S
def Ł3 (t:wR) (u:oH):oH:=λ ds Y S Q=>match ds with
 | d::r=>t d Y S fun Y' S'=>u r Y' S' Q
 | []=>Þ
def um:eO X [] ŏ2:=by
 exact#[λ _ _ _ _ _ hq z=>Ŝ5,kH.imp ó0 ύ5];let#[d,Y,S,r1,r2,r3,z1,z2]:=hu;subst z1;simp![zv] at r1;show#[r1,z2 Û r2 ϲ r3]
def uo č ĩ ϵ2(h:mQ tH) (h':eO X es u) (hs:Æo):eO X Hi (Ł3 t u):=by
 exact#[λ ds Y S Q Q' hq z=>?_,kH.imp (Ê4 h.pg h'.pg hs) ύ5]
 .cases ds with
  | nil=>show z
  | cons d r=>show h.mo d é (fun Y' S' z=>ym r Y' S' À hq z) z
 .let#[ds,Y,S,r1,r2,r3,z]:=hu;cases ds with
  | nil=>show FF
  | cons d r=>
   simp![zv] at r1;let#[x,xs,rfl,q1,q2]:=r1;exact#[x,xs,rfl,d,Y,S,q1,r2,r3,h.mo d é (fun Y' S' z σ' H' g1 g2 g3=>?_) z];show#[r,Y',S',Ζ g2 r q2,g1,g3,ym r Y' S' À (fun Y2 S2 z2=>QP g2 z2) z]
def ň7 Ď (t:oH):wR:=λ d Y S Q=>match d with
 | ϩ=>ϕ=n/\t ds Kc
 | _=>Þ
def â6 č ā{t:oH}(h:PG X e (Ŀ0 X.K n (ġ4 Gi))) (hm:ĭ4 t):mQ X e ź6:=by
 exact#[λ d Y S Q Q' hq z=>?_,PG.imp h ύ5]
 .cases d with
  | tup ds=>show#[z.1,hm ds é hq z.2]
  | _=>show z
 .let#[d,Y,S,r1,r2,r3,z]:=hu;cases d with
  | tup ds=>
   simp![zj] at r1;let#[a,xs,rfl,q1,q2]:=r1;show#[a,xs,rfl,q1,by rw[<- q2.length];show z.1,ds,Y,S,q2,r2,r3,z.2]
  | _=>show FF
def qP uD (g:wR):xl:=λ E Y S=>te Y S λ x S1=>g x Ĕ E.nx
def qP.mo Óy:l_ Ϲ4:=λ E E' Y S hE z=>h é (λ x S1 q=>h' x Ō (fun Y S q=>Gn À q) q) z
def Î8 Óy {D:Ends}Ÿ Ø(hu:Ļ7 K Ϲ4 D Û):dh Ϲ3 (da K g) D Û:=by
 ext Ϗ2;show#[x,Y,S1,q1,B8,p1,h' x Ō (fun Y S q=>QP e1 q) h1]
def ã0 Ŷ7{g:wR}s_ (hg:mQ X tg g) (hs:ÌB) (hw:ÍA)
  (h1:ÉG):zu X Ùr Ϲ4:=
 #[qP.mo Ν hg.mo,qc (Ķ0 LM hg.pg hs hw h1) λ _ _ _ hu=>Î8 Ν hg.mo hu]
def Ò7 {e0:Stmt}ý(h:PS X e0 (dh (Ϲ5) Vn)) (hm:yC te):zu X e0 ū7:=by
 exact#[qP.mo hm υ5,qc h HG];ext ħ;exact ď hm LG;show h1 ÏK
end
structure bO where
 Ĳ:Ã4
 keep:Au
abbrev pO:=yZ->SS->(bO->Au)->Prop
def Œ4 (t:pO):Prop:=∀ Y S (Q Q':bO->Au),(∀ I S',Q I S'->Q' I S')->Çd
def bC È (H1:Hp) (J:It) (I:bO):Prop:=∀ Í ð Λ,Ext H1 H->ϗ->Ál->
 (∀ d,Ám->VF/\∀ x H',ť1->B7/\yu ώ S/\zj ώ d x)/\(sS<=i->WX)
def ñ7 È ð (R:Ua):bO->Au:=λ I S1=>∀ J H1,Ác->yu K H1 S1->bC K H1 J I->R J H1
def nD È (t:pO):TI:=fun σ H R=>∃ Y S,Dc/\ϗ/\t Y S (ñ7 Å R)
structure zY ê (tg iter:Expr) (t:pO):Prop where
 mo:Œ4 t
 pi:PI ψ1 (nD Gi)
def uZ Æ Ŷ7{t t':TI}(h:PI Lf t) T_:PI Lf t':=XC
section
variable {Æ}{Ù}{Ŷ7}{Ć}
theorem zv.at Ø è ÿ ý ì Ϯ(r:Ų) (h1:nH) (h2:Jn):Nb:=by
 let#[y,e1,e2]:=r.get h1;rw[h2] at e1;cases e1;show e2
def ma NY Ď:Ã4:=Ű9 λ Wh=>BS (lo+UB)
def ÿ3 {lo:Int}{n i:Nat}ì(h:(TX)[i]?=↑d):i<n/\d=Ê (lo+Hh):=by
 unfold ma at h;rw[zA3] at h;cases q:(Ŀ n)[i]? with
 | none=>ext Mf
 | some j=>
  rw[q] at h;let#[h1,h2]:=Š q;rw[zC5] at h1;rw[zfQ] at h2;subst h2;cases h;show#[h1,rfl]
def à7 NY Ď:(TX).length=n:=by unfold ma;rw[zA7,zC5]
def bC.range {H1:Hp}{lo:Int}ā:bC K H1 (b9 lo n) #[TX,H_]:=λ i H S _ x2 _=>by
 exact#[Sk,λ hl=>by rw[show (bO.mk (TX) H_).items=TX from rfl,à7] at hl;show hl];let#[h1,rfl]:=ÿ3 hd;exact#[h1,TL];let#[rfl,rfl]:=q;show#[IY,x2,Zi]
def Ź8 rj:pO:=fun Y S R=>t Y S λ ds S1=>match ds with
 | Ku=>(μ4)/\R #[ma 0 JY,H_] S1
 | _=>Þ
def Ŕ7 rj:pO:=fun Y S R=>t Y S λ ds S1=>match ds with
 | rS=>Îz/\R #[ma Ϥ6,H_] S1
 | _=>Þ
variable {Ū}
def é3 (h:PI Lf (ŏ1 ū6)) (hm:HB):zY Lf (Ź8 tA):=by
 exact År
 .split at z
  .show Ŝ5
  .show FF
 .ext ψ5;split at h1
  .let#[x,rfl,q]:=q1.one;simp![zj] at q;subst q;show#[_,rfl,h1.1.1,h1.1.2,ÖZ]
  .show Ai
def ą3 (h:PI Lf (ħ6 ū6)) (hm:HB):zY Lf (Ŕ7 tA):=by
 exact År
 .split at z
  .show Ŝ5
  .show FF
 .ext ψ5;split at h1
  .let#[x,y,rfl,q,q']:=q1.two;simp![zj] at q q';subst q q';show#[_,_,rfl,h1.1,ÖZ]
  .show Ai
def ba (ti:pO) (g:wR) (tb:xl):xl:=λ E Y S=>ti Y S λ I S1=>∃ W:Án,W 0 Ĕ/\(∀ i Y S,W i Y S->Ál)/\
 (∀ i d Y S,Ám->W i Y S->g d Y S fun Y2 S2=>tb { E with nx:=NP,ct:=NP,bk:=E.nx } Ir)/\∀ Y S,W sS Y S->ź5
def ba.mo ũ6 ħ0 ÞX (hb:l_ tb):l_ (ba ti g tb):=λ E E' Y S hE z=>hi é (λ I S1 #[W,w0,wk,ws,wd]=>by
 exact#[W,w0,wk,λ i d Y S hd hw=>hg d é (fun Y2 S2 z=>hb { E with nx:=NP,ct:=NP,bk:=E.nx } { E' with nx:=NP,ct:=NP,bk:=E'.nx } Ir ÌH z) (ws i d Y S hd hw),fun Y S q=>Gn À (wd Y S q)]) z
def Ę6 {iter:Expr}Tt ũ6 ħ0 Ř9 ę Ϭ4 (hg:mQ X tg g) (hb:y_ Ÿ3)
  XE:zu X ÐN (ba ti g tb):=by
 exact#[ba.mo Ϫ hg.mo sV,qc (ÿ1 hp hc hi.pi hg.pg hb.ps hs) HG];ext ħ;exact#[Y,S,r1,r2,Ϫ é (λ I S1 hW J H1 e1 p1 rep=>?_) z];let#[W,w0,wk,ws,wd]:=hW;exact#[λ i m σ H2=>m=sS-i/\i<=sS/\Ϲ0/\∃ Y S,xV X.K H2 Y σ/\yu X.K H2 S/\W i Y S,#[_,rfl,Dr,IY,Y,S1,B8,p1,w0],?_];rintro i m σ2 H2 ⟨rfl,hi',x2,Y2,S2,q1,q2,w2⟩;let#[g1,g2]:=rep i H2 S2 x2 q2 (wk i Ir w2);by_cases hl:i<sS
 .ext Ît
  let#[go,yl]:=g1 _ hd;exact Ã #[go,fun σ' H'=>Ext H1 H'/\∃ Y S,ϓ0/\Ϩ3/\W ŏ Y S,fun σ' H' q=>#[_,⋯,rfl,hl,q],àc];ext ÔK;exact#[_,Y2,S2,d3,q1.ext x3,p3,hg.mo _ Y2 ÈZ (ws i _ Ir hd w2)];exact#[Y4,S4,a1,a3,sV À Y4 S4 #[Äi,λ _ _ q=>Sb ËE q,λ _ _ q=>QP ËE q,Äi] z4]
 .have e:i=sS:=⋯;subst e;show Ä #[g2 ľ,wd Ir w2 σ2 H2 q1 (KI x2) q2]
abbrev pC:=Ã4->Ũ1
def ŕ0 Lz:Prop:=∀ ds S Ζ0,(rZ)->sp Io->sp ds S Q'
def nc È Lz:Sp:=λ vs H Q _=>∃ ds S,zv Å ds vs/\ϗ/\sp ds ZD
def ŉ5 Lz rj:zy:=fun Y S Q=>t Y S λ ds S1=>sp ds S1 Q
def ĭ1 Qb{E:XK}(hs:SM) (hm:HB) Ls ð Κ (hu:zT K χ3 Ś):Ŏ0 (nc K sp) [] E ϥ2:=by
 ext ψ5;rw[zd1];show#[ds,S1,q1,p1,hs ÒA (λ d S' q=>Sb e1 q) h1]
def õ7 Qb{E:XK}č(h:PE X e (Ŏ0 (nc X.K sp) [] E ū6)) (hs:SM) (hm:HB):PD X e χ3:=
 #[fun Y S Q Q' hq z=>hm é (λ ds S1 z=>hs ϥ1) z,Ğ h (ĭ1 hs hm)]
def ox tW Lu:yZ:=ds.map some++ſ (BR-ϕ) none
theorem xV.init Ø sf è{vs:Ŧ}(r:zv Å ds vs):xV Å Uh oz:=by
 ext Zp;exact#[by unfold ox L2.start;simp[hl],λ i d h=>?_];unfold ox at h;have hi:i<ϕ:=by
  rcases zd5 i ϕ with q | q
  .show q
  ext ËV
 rw[Α1,zA3] at h;cases q:ds[i]? with
 | none=>ext Mf
 | some d'=>
  ext Mf;let#[x,e1,e2]:=r.get q;exact#[x,?_,e2];unfold L2.start;rw[zdS (by exists by lia),zA3,e1];rfl
def Zu Ĝ Ù EG ų2 v7 Dz US į Qb ϑ8 (Sc:TY)
  (len:∀ ds S Q,sp Io->ϕ=Ab)
  (Ţ:∀ U7 u9 ϧ,VY->
   ∃ t,y_ VW/\∀ ds S Q,sp Io->t M5):ot ķ xy š π9:=by
 exact F.ok Sc (λ vs H Q E h=>?_) λ cdv A ı s H vs Q E hr h=>?_
 .let#[ds,S,r1,_,z]:=h;rw[<- ϸ4];show len Ú z
 .let#[ds,S,r1,r2,z]:=h;let#[t,ht,hq]:=Ţ ZQ hr;exact#[_,ht.ps,ox N ds,S,.init r1,r2,ht.mo { nx:=λ _ S'=>oh Å Q .zx S',rt:=oh Å Q } Ú #[fun Y S' q σ' H' _ b c=>q .zx H' Em b c,Kf,ÝH,ÝH] (hq ds S _ z)]
def mZ pv (Y:yZ):yZ:=ÀY λ o=>o.bind λ i=>(Y[i]?).join
theorem xV.pick Ø t4 Ÿ(r:Dc) pv:xV Å AN gj:=by
 exact#[by unfold mZ mY;simp,λ i d h=>?_];unfold mZ at h;rw[zA3] at h;cases q:ql with
 | none=>ext Mf
 | some o=>
  rw[q] at h;cases o with
  | none=>simp at h
  | some j=>
   ext ÚH;have hj:Po=↑↑d:=by
    cases q2:Po with
    | none=>rw[q2] at h;cases h
    | some o2=>ext Êq
   let#[v,e1,e2]:=r.2 j d hj;exact#[v,?_,e2];unfold mY;rw[zA3,q];simp[e1]
def gH (Y Y':yZ):Prop:=ź3=Y'.length/\∀ Í d,Ϛ9->Y'[i]?=↑↑d
def gH.rep Ø{Y Y':yZ}Ÿ(h:gH Y Y') (r:xV Å Y' σ):Dc:=#[h.1.trans r.1,λ i d q=>r.2 i d (h.2 i d q)]
structure eP ê (ifs:sv) rN:Prop where
 mo:o_ t
 pf:PF X ifs (pU Gi)
def PF.imp {ifs:sv}{t t':TT}(h:PF X ifs t) T_:PF X ifs t':=XC
def ŋ5:xn:=λ _ S Q=>Q true S
def uu:eP X [] ŋ5:=#[λ _ _ _ _ hq z=>Js,PF.imp ã2 λ _ H _ #[_,_,_,r2,z]=>z H ϲ r2]
def ur Jo{t:xn}(h:zG X c t):eP X [c] t:=#[h.mo,Ć5 h.pt]
end
end L3
namespace L2
open É Ü Î
def Ą8 È (tl:TE):TI:=fun σ H R=>tl Û λ x H1=>∃ a,ż/\(((∃ xs,yy K H1 ϯ)/\R (İ0 K a) H1)\/((∃ xs,y8 K H1 ϯ)/\R (Ĝ9 K a) H1))
def Č4 Æ{tg l:Expr}ÚI:PI X tg l (Ą8 X.K tl):=by
 ext Ûb;let#[x,H1,I1,r1,a,hx,q1]:=z0;subst hx;cases r1;have new:∀ b∈[Ϸ],mR X gV H1 b:=λ b hb=>by
  obtain rfl:b=Ϸ:=Gq hb;show ţ8
 rcases q1 with ⟨⟨xs,hq⟩,q⟩ | ⟨⟨xs,hq⟩,q⟩
 .let#[its,_,pl,_]:=I1.list hq;show zgU IV #[_,_,_,_,H1,rfl,Èi,ċ8 a _,NI,new,q]
 .let#[its,_,pt,_]:=I1.tuple hq;show ϊ7 (show s1.heap.IsTuple a Ĵ from pt) #[_,_,_,_,H1,rfl,Èi,ě4 a _,NI,new,q]
def range_all (bs:TC):(Ŀ Ϲ6).all (RV)=O2:=by
 rw[zC7,zE4,zE4];ext HS
 .intro h b hb;ext ÜK;have:=h i (qm hi);simpa [hi] using this
 .intro h i hi;have hi':=vE hi;have:=h bs[i] (zD8 hi');simpa [hi'] using this
def range_any (bs:TC):(Ŀ Ϲ6).any (RV)=ť6:=by
 ext ω2
 .rintro⟨i,hi,h⟩;have hi':=vE hi;show#[bs[i],zD8 hi',by simpa [hi'] using h]
 .rintro⟨b,hb,h⟩;ext ÜK;show#[i,qm hi,by simpa [hi] using h]
theorem ä2 {bs:TC}sr(r:Vals ť7 its) ý vN(h:Ĵ[i]?=↑v):v=ź (ÝI):=by
 ext Zp;ext CE;have h':DS:=FN
 have hi:i<Ϲ6:=by
  rw[hl];rcases zd5 i E7 with q | q
  .show q
  .rw[zf5 q] at h';cases h'
 let#[u,e1,e2]:=r.get (i:=i) (x:=.bl bs[i]) (Vt);rw[h'] at e1;cases e1;have:v=ź bs[i]:=e2;rw[this];simp[hi]
section
variable {Æ}
theorem zav ę:xH X (Ű "all") (λ xs H Q=>∃ p,∃ bs:TC,υ/\yy ė p ť7/\Q (.bl (O2)) H):=by
 ext A1;ext ÃL
 exact call_all_walk (zgU IV ?_);exact Ãb
 ext ßC
 .have e:(Ŀ K7).all (RV)=O2:=by rw[zA0,<- hl,range_all]
  rw[e];show ÃI
theorem zau ę:xH X (Ű "any") (λ xs H Q=>∃ p,∃ bs:TC,υ/\yy ė p ť7/\Q (.bl (ť6)) H):=by
 ext A1;ext ÃL
 exact call_any_walk (zgU IV ?_);exact Ãb
 ext ßC
 .have e:(Ŀ K7).any (RV)=ť6:=by rw[zA0,<- hl,range_any]
  rw[e];show ÃI
end
end L2
namespace L3
open É Ü L2
open Î hiding St
structure Bt rm:Prop where
 len:mg "len"=none
 range:mg "range"=none
 any:mg "any"=none
 all:mg "all"=none
 sorted:mg "sorted"=none
 isinstance:mg "isinstance"=none
 bool:mg "bool"=none
 int:mg "int"=none
 str:mg "str"=none
 list:mg "list"=none
 tuple:mg "tuple"=none
 max:mg "max"=none
 min:mg "min"=none
section
variable {Æ}{a e:Expr}{ĩ}{BL}{AD}
def Ĝ3 {N':þ}Ed{Ĺ esc:KU}sf(hE:Ql=esc:=by rfl) (hN:X.N=N:=by rfl) (h1:ÝD:=by rfl)
  (h2:ÛB (λ y=>æ (Α2=↑y.2))=true:=by ext Bs)
  (h4:ÛB (λ y=>! æ (Α7)||(æ (ÒU=↑ ϥ)||æ (ÒU=↑ Ϧ)))=true:=by ext Bs)
  (h5:ÑW:=by rfl) (h6:àa:=by ext Bs):sG:=by
 exact#[h1,λ y hy=>RB (FC h2 y hy),λ y hy hf=>?_,h5,by rw[hN];show h6];have:=FC h4 y hy;rw[zg6 hf] at this;rw[hE];ext uM
def uq Í ô Pu (hf:ο6):mQ BE Dj:=
 ð8 (û2 Oo hf)
def ö4 į{t:oH}ā(h:eO X es t) ę (hn:Ýt) (hst:ÐL):mQ ό0 ź6:=
 â6 (ô1 hc h.pg hn hst) h.mo
def ġ2 Í ô{pos':Pos}ũ5 s_ ØO (hs:ÌC)
  (hf:ο6):zu X ÏV ū7:=
 Ò7 (á1 Oo LM hs hf) Ν
def ū2 uD:pO:=fun Y S R=>te Y S λ x S1=>match x with
 | ϩ=>ÙG
 | sj=>ÙG
 | Č=>match S1 p with
  | J8=>R #[ds,λ S=>RJ] S1
  | _=>Þ
 | _=>Þ
def É6 mK(h:MA):zY Lf (ū2 te):=by
 exact#[fun Y S Q Q' hq z=>h.mo é (λ x S1 z=>?_) z,?_]
 .cases x with
  | ref p=>
   dsimp only at z ⊢;split at z
   .show Js
   .show FF
  | qZ ds=>show Js
  | tup ds=>show Js
  | _=>show z
 .exact uZ (Č4 h.pe) LU
  ext ħ;exact ď h.mo LG;cases x with
  | tup ds=>
   ext Ìm;exact#[a,rfl,Ã #[ϱ0,h1 _ u6 λ i H2 S2 x1 x2 _=>#[Sk,λ hl=>#[xs,Áo,ÚZ]]]];ext ÚJ;exact#[#[xs,y,Áo,hy],TL];ext Àw;show#[IY,x2,Øa hd (q xs (Áo))]
  | ref p=>
   dsimp only at h1;split at h1
   .rename_i ds e2;ext F4;let#[xs0,g1,_]:=p1 À e2;exact#[p,rfl,Ä #[#[xs0,Ñ7 g1],h1 VT]];let#[xs,g3,g4]:=x2 À hk;exact#[Sk,λ hl=>#[xs,Ñ7 g3,by rw[<- MH];show hl]];let#[y,hy,_]:=g4.get hd;exact#[#[xs,y,Ñ7 g3,hy],TL];ext Àw;show#[IY,x2,g4.at hd (q xs (Ñ7 g3))]
   .show Ai
  | qZ ds=>
   ext Ìm;exact#[a,rfl,Ä #[#[xs,g1.sq],h1 _ u6 λ i H2 S2 x1 x2 _=>#[Sk,λ hl=>#[xs,ϛ1,ÚZ]]]];ext ÚJ;exact#[#[xs,y,ϛ1,hy],TL];ext Àw;show#[IY,x2,Øa hd (q xs ϛ1)]
  | _=>show Ai
end
end L3
namespace L4
open É Α5 Î
def xB ĵ Ď (lt:Gy):Β5->(Âq)->Prop
 | ύ a,Q=>Q a
 | .ask i j k,Q=>i<n/\j<n/\xB vJ (k (lt i j)) Q
theorem Ef ĵ ā{lt:Gy}{Q Q':Âq}(hq:∀ a,Q a->Q' a):∀ {t:Β5},xB vJ t Q->xB vJ t Q'
 | ύ _,h=>hq _ h
 | .ask Ú,h=>#[h.1,OV,Ef hq Ti]
theorem qF rR ā{lt:Gy}{f:α->KasT β}{Q:ÀB}:∀ {t:Β5},xB vJ t (λ a=>xB vJ (f a) Q)->xB vJ (t.bind f) Q
 | ύ _,h=>h
 | .ask Ú,h=>#[h.1,OV,qF Ti]
section
variable {ā}{lt:Gy}
def Le (lt:Gy) (a b:Nat):Prop:=lt b a=Á
structure Ord (lt:Gy):Prop where
 tr:∀ a b c,Le lt a b->Le lt b c->Le lt a c
 as:∀ a b,lt a b=true->Le lt a b
def Ord.refl sy (a:Nat):Le lt a a:=by
 cases h:lt a a with
 | Á=>show h
 | true=>show o.as a a h
def qT Ď (p:GK):Prop:=p.Perm ϖ5
theorem qT.size EF(h:ŉ8):p.size=n:=by rw[Array.Perm.size_eq h];simp
theorem qT.below EF(h:ŉ8) ý(hi:i<n):Sy<n:=by
 have hs:=h.size;have hm:Sy ∈p:=by
  rw[zf6,zB8 ⋯];show Array.getElem_mem ⋯
 have:Sy ∈ ϖ5:=(Array.Perm.mem_iff h).mp hm;ext uM
def cH {p q:GK}Af(h:p[i]?=q[j]?):Sy=q.getD j 0:=by rw[zf6,zf6,h]
def ml Ϟ4 Ŕ:Prop:=∀ i j,i<=j->j<k->Le lt (Sy) (Χ j 0)
def kK Ϟ4 Ŕ:Prop:=∀ i j,i<=j->j<k->Le lt (Χ j 0) (Sy)
def ml.next Qa į(h:Ϲ7) (hk:1<=k) (hl:Le lt (Χ (k-1) 0) Zj):ml lt p š:=λ i j hij hj=>by
 by_cases hjk:j<k
 .show àd
 .ext Îy
  .subst hi;show JK
  .show o.tr Ú ÝJ hl
def kK.next Qa į(h:kK lt p k) (hk:1<=k) (hl:Le lt Zj (Χ (k-1) 0)):kK lt p š:=λ i j hij hj=>by
 by_cases hjk:j<k
 .show àd
 .ext Îy
  .subst hi;show JK
  .show o.tr Ú hl ÝJ
theorem Ŵ7 Qa Jg:∀ (f a:Nat),1<=a->a+f<=n->ml lt p a->
  xB vJ (kas_asc p f a) λ m=>a<=m/\m<=a+f/\ml lt p m/\(m=a+f\/Âr)
 | 0,a,_,_,hs=>#[EI,EI,hs,M_]
 | f+1,a,h1,h2,hs=>by
  exact YX;cases c:lt (Χ a 0) (Χ (a-1) 0) with
  | true=>show#[EI,⋯,hs,Ã c]
  | Á=>
   exact Ef ?_ (Ŵ7 o hp f (a+1) ć (hs.next o h1 c));rintro m ⟨g1,g2,g3,g4⟩;show#[⋯,⋯,g3,g4.imp (λ e=>⋯) id]
def Δ4 EF Jg Fo:qT n (àe):=ÙH (mirror_perm ņ) hp
theorem dD EF Jg Af(hj:j<=n) Ŕ:ξ6=if i<=k/\k<j then Χ (i+j-1-k) 0 else Χ k 0:=by
 have e:=getElem?_mirror_all (xs:=p) (i:=i) (j:=j) (by rw[hp.size];show hj) k;split
 ext Ùk
 .ext A5;rw[Ç h] at e;show cH e
def rev_eq Qa Jg Af(hj:j<=n) (he:∀ a b,i<=a->a<j->i<=b->b<j->π4) Ŕ:
  Le lt (ξ6) Zj/\Le lt Zj (ξ6):=by
 rw[dD hp hj];split
 .ext A5;show#[he À ć h.1 h.2,he À h.1 h.2 ć]
 .show#[JK,JK]
def kK.of_eq sy {p q:GK}į(h:kK lt p k) (e:∀ k,Le lt (q.getD k 0) Zj/\Le lt Zj (q.getD k 0)):kK lt q k:=λ i j hij hj=>
 o.tr Ú (e j).1 (o.tr Ú (h i j hij hj) (e i).2)
def Ŋ4 Ϟ4 (m q:Nat):Prop:=∀ a b,Β6<=a->a<m->Β6<=b->b<m->π4
theorem ZA sy:∀ (f:Nat) (p:GK) (m q:Nat),ŉ8->1<=m->m+f<=n->Ϲ8->q+1<=m->Ŋ4 lt p m q->
  xB vJ (kas_desc f p m q) λ r=>qT n r.1/\m<=G_/\G_<=m+f/\kK lt r.1 G_/\r.2.2+1<=G_/\Ŋ4 lt r.1 G_ r.2.2
 | 0,p,m,q,hp,_,_,hd,hq,hb=>#[hp,EI,EI,hd,hq,hb]
 | f+1,p,m,q,hp,h1,h2,hd,hq,hb=>by
  have one:∀ p':GK,Ŋ4 lt p' tq 0:=λ p' a b a1 a2 b1 b2=>by
   ext Ýh
  exact YX;cases c:ÄV with
  | true=>
   ext ë;rw[Ź];have hl:=o.as À c;by_cases h0:q>0
   .rw[Ô h0];have e:=rev_eq o hp (i:=Β6) (j:=m) ⋯ hb;have hp':=Δ4 hp (Β6) m;exact Ef ?_ (ZA Âu 0 hp' ć ((hd.of_eq o e).next o h1 (o.tr Ú (e m).1 (o.tr Ú hl (e Q8).2))) ⋯ (one _));ext Τ7
   .rw[Ç h0];exact Ef ?_ (ZA Âu 0 hp ć (hd.next o h1 hl) ⋯ (one _));ext Τ7
  | Á=>
   ext Ů1;exact YX;cases d:lt ϡ0 Áp with
   | true=>show#[hp,EI,(by change m<=m+(f+1);lia),hd,hq,hb]
   | Á=>
    ext Ů1;exact Ef ?_ (ZA Âu (q+1) hp ć (hd.next o h1 d) Ðs)
    .ext Τ7
    .by_cases ha:a=m
     .by_cases hb':b=m
      .subst ha;subst hb';show JK
      .subst ha;show o.tr Ú d (hb (a-1) b ć ć)
     .by_cases hb':b=m
      .subst hb';show o.tr Ú (hb a (b-1) ć ć) c
      .show hb a b ć ć
theorem ŋ3 Qa TH Jg (h1:1<=m) (h2:m<=n) (hd:Ϲ8):xB vJ (kas_tail3 m n p) Ρ4:=by
 exact qF (Ef ?_ (Ŵ7 o (Ϲ9) (n-m) m h1 ⋯ Š0))
 .rintro k ⟨a1,a2,a3,_⟩;show#[Ϲ9,⋯,a3]
 .rw[dD hp h2,dD hp h2,Ô #[Dr,⋯],Ô #[Dr,hj]];show hd À ć
theorem ĵ7 Qa TH Jg (h1:1<=m) (h2:m<n) (hd:Ϲ8) (hl:Âr):xB vJ (kas_descPart m n p) Ρ4:=by
 exact qF (Ef ?_ (ZA o (n-tq) p tq 0 hp ć (hd.next o h1 (o.as À hl)) Ðs))
 .rintro⟨p',m',q'⟩ ⟨a1,a2,a3,a4,a5,a6⟩;dsimp only at a1 a2 a3 a4 a5 a6 ⊢;by_cases h0:q'>0
  .rw[Ô h0];show ŋ3 o (Δ4 a1 À) ć (a4.of_eq o (rev_eq o a1 (i:=m'-(q' + 1)) (j:=m') ⋯ a6))
  .rw[Ç h0];show ŋ3 o a1 ć a4
 .ext Ýh
theorem ą7 Qa Jg (h1:1<=n):xB vJ (kas_count n p) Ρ4:=by
 exact qF (Ef ?_ (Ŵ7 o hp (n-1) 1 ľ ⋯ Š0))
 .rintro m ⟨a1,a2,a3,a4⟩;by_cases hm:m=n
  .rw[Ô ÝK];show ÙI
  .rw[Ç ÝK];have hl:Âr:=a4.resolve_left ⋯;by_cases h2:m>1
   .rw[Ô h2];exact YX;cases c:lt (Χ 0 0) ϡ0 with
    | true=>show ÙI
    | Á=>
     ext Ů1;have all:∀ a b,0<=a->a<m->0<=b->b<m->π4:=λ a b _ ha _ hb=>
      o.tr Ú (a3 a Q8 ć) (o.tr Ú c (a3 0 b ⋯ hb))
     have e:=rev_eq o hp (i:=0) (j:=m) ⋯ all;exact ĵ7 o (Ϲ9) ć (λ i j hij hj=>o.tr Ú (e j).1 (o.tr Ú (all À DA hj DA ⋯) (e i).2)) ?_;rw[dD hp ⋯,dD hp ⋯,Ç ⋯,Ô ⋯];cases q:lt Áp (Χ (0+m-1-Q8) 0) with
     | true=>rfl
     | Á=>
      have:=o.tr Ú (all Q8 (0+m-1-Q8) DA ⋯ DA ⋯) q;unfold Le at this;rw[this] at hl;cases hl
   .rw[Ç h2];have e:m=1:=⋯;subst e;exact ĵ7 o hp ľ ⋯ (Š0) hl;ext ϕ2
 .ext ϕ2
theorem Ř4 EF į Jg (hk:k<n) (hs:Ϲ7) sy:∀ (f l r:Nat),r-l<=f->l<=r->r<=k->(∀ i,i<l->ÛC)->(∀ i,r<=i->ÑB)->
  xB vJ (kas_place p k f l r) λ m=>m<=k/\(∀ i,i<m->ÛC)/\(∀ i,m<=i->ÑB)
 | 0,l,r,h0,h1,h2,ha,hb=>by
  ext ÒL
 | f+1,l,r,h0,h1,h2,ha,hb=>by
  unfold kas_place;by_cases hlr:l≥r
  .rw[Ô hlr];ext ÒL
  .rw[Ç hlr];exact#[hp.below hk,ϡ1,?_];cases c:lt Zj (Χ ŵ1 0) with
   | true=>
    ext ë;rw[Ź];exact Ř4 hp hk hs o f l ŵ1 ć ⋯ ha λ i hi hik=>?_;cases q:lt Zj (Sy) with
    | true=>rfl
    | Á=>
     have:=o.tr Ú (hs ŵ1 i hi hik) q;unfold Le at this;rw[this] at c;cases c
   | Á=>
    ext Ů1;exact Ř4 hp hk hs o f ((l+r)/2+1) r ć h2 (λ i hi=>?_) hb;show o.tr Ú (hs i ŵ1 ć) c
theorem į1 sy:∀ (f:Nat) (p:GK) Ŕ,ŉ8->k+f=n->Ϲ7->xB vJ (kas_bin f p k) ÐW
 | 0,p,k,hp,h1,hs=>by
  have:k=n:=⋯;ext Ŗ;show#[hp,hs]
 | f+1,p,k,hp,h1,hs=>by
  exact qF (Ef ?_ (Ř4 hp ⋯ hs o k 0 k ⋯ DA ľ (λ i hi=>ò hi (Nat.not_lt_zero _)) λ i hi hik=>ò hik ⋯));rintro l ⟨a1,a2,a3⟩;exact į1 o f _ š (ÙH (bubble_perm Ú) hp) ⋯ Š0;have ev:∀ x,(bubble p k (k-l)).getD x 0=if x=l then Χ k 0 else if l<x/\x<=k then Χ (x-1) 0 else Χ x 0:=λ x=>by
   have e:=getElem?_bubble (xs:=p) (src:=k) (by rw[hp.size];lia) (k-l) ⋯ x;rw[show k-(k-l)=l by lia] at e;split
   ext Ùk
   .ext A5;rw[Ç h] at e;split
    .rename_i h';rw[Ô h'] at e;show cH e
    .rename_i h';rw[Ç h'] at e;show cH e
  rw[ev i,ev j];by_cases hi:i=l
  .rw[Ô hi];by_cases hj':j=l
   .rw[Ô hj'];show JK
   .rw[Ç hj',Ô Uu];show o.as À (a3 (j-1) ć)
  .rw[Ç hi];by_cases hj':j=l
   .rw[Ô hj',Ç ⋯];show a2 i ⋯
   .rw[Ç hj'];by_cases hi2:l<i/\i<=k
    .rw[Ô hi2,Ô Uu];show hs À ć
    .rw[Ç hi2];by_cases hj2:l<j/\j<=k
     .rw[Ô hj2];show hs À ć
     .rw[Ç hj2];show hs À hij ⋯
theorem ñ8 sy (h1:1<=n):xB vJ (kas_sort n) ÐW:=by
 have hp:qT n ϖ5:=Øb;exact qF (Ef ?_ (ą7 o hp h1));rintro⟨m,p⟩ ⟨a1,a2,a3⟩;dsimp only at a1 a2 a3 ⊢;by_cases hm:m<n
 .rw[Ô hm];exact į1 o _ p (max m 1) a1 ⋯ ?_;by_cases h0:m=0
  .subst h0;intro i j hij hj;ext ϕ2
  .rw[show max m 1=m by lia];show a3
 .rw[Ç hm];have:m=n:=⋯;ext Ŗ;show#[a1,a3]
end
end L4
namespace L4
open É Α5 ϧ8 Î
section
variable {ś}
def Core qk Ar LR (vs:zLV) (Out:ϭ3) (s6:Α):Prop:=
 Â ã (keyKind' Β) (fun κ s'=>s'=s6/\Â ã ((sortRuns').run (ϱ1 κ áV))
  (λ r s''=>s''=s6/\ź7 r.2=none/\Out ((Fq r.2).map Ł)/\(Fq r.2).size=ŀ) E s') E s6
def û7 â ς ā Ϙ5{Out:ϭ3}(ho:Ň a=↑(vK "list" Β n)) Âw
  (core:2<=ŀ->∀ s6:Α,(∀ b o,b≠a->ÏZ)->Core Âv Out s6) ÞY
  (fin:∀ out:ϵ Ï,Out out->out.size=ŀ->P Øc { s with heap:=ϱ2 í a vs out }):
  Â ã (Builtin.«list.sort» Ϡ7) P E s:=by
 have ha:a<Ë:=P0;obtain⟨e1,g1⟩:∃ e1,(Ôe).get? a=↑ Õu:=#[_,š8 ho (λ _=>Ē)];have hz':ÛD<=Ý:=by rw[zA0];show hz
 have g6:ÄW a=↑ Õu:=zg4 _ (zg4 _ g1);have keep:∀ b o,b≠a->ϑ->ÄW b=↑o:=
  λ b o hb e=>zg4 _ (zg4 _ (by rw[ϱ3];show e))
 rw[list_sort_plain];exact zg3 (aK Dd (zg3 (Vx Dd (zg3 (seqEpoch_at g1 rfl (zg3 (ÝL (zg3 (ϛ2 (zg9 ?_))) (by exists hz))))) hz' DA)));by_cases h2:ÛD<2
 .rw[Ô h2,Ô h2];have e2:Æf=Β:=by
   change (Ël).map Ł=Β;apply Array.ext #[];intro i h1 h2;simp
  exact tG;ext ë;rw[StateT.run_pure];exact tG;ext ë;exact ÄT
  .ext Íw;have q:=fin _ (e2▸short (ű0)) (by rw[e2];simp);show zD1 q
  .change ((Æf)).size<=Ý+1;rw[e2];lia
 .rw[Ç h2,Ç h2];have h2':2<=ŀ:=ű0
  exact zg3 (zgC (core h2' _ keep) (fun κ s7 z0=>?_) λ _ _ z=>z);let#[hs,h7]:=z0;subst hs;exact zg3 (zgC h7 (λ r s8 z0=>?_) λ _ _ z=>z);let#[hs,hf,hout,hsz]:=z0;subst hs;obtain⟨⟨⟩,st⟩:=r;exact ÄT
  .have hf':ź7 st=none:=hf;rw[hf'];ext Íw;show zD1 (fin _ hout (by rw[zeM];show hsz))
  .change (ÛE).size<=Ý+1;rw[zeM];have:ÙJ:=hsz;lia
def Ě2 ĝ ς(out:zAV):∃ e,(ϱ2 (tX FH) Ω vs out).get? Ω=↑ Öq:=by
 have LF:(tX FH).get? Ω=↑ FH:=Ũ;show#[_,š8 (zg4 _ (zg4 _ (š8 LF λ _=>Ē))) λ _=>out]
def ļ0 â ς ē{Out:ϭ3}{N:IM}
  (C:∀ Q':Nv,(∀ h1 tk,(∀ b o,¬ N b->ν5)->Æh)->Â ϯ3 ux ť9 Q' E s) Âw
  (core:2<=ŀ->∀ s6:Α,(∀ b o,¬ N b->ÏZ)->Core đ A.in1.in1 E vs Out s6) ÞY
  (fin:∀ (out:zAV) Ε8 (tk l:Nat),Out out->out.size=ŀ->Ë<=l->(∀ b o,¬ N b->Oc)->(∃ e,ϝ l=↑ Öq)->Q ĭ { s with heap:=h',toks:=tk }):
  Â ã ÛF à:=by
 exact Calls.call_function_entry kind_sorted plain_sorted entry_sorted (args_sorted1 _) ?_;unfold Builtin.«sorted»;exact zg3 (m:=checkCount "sorted" 1 1 _) (zD1 (zg3 (C _ λ h1 tk k1 k2=>zg3 (ϛ2 ?_ hz))));have hoL:(h1.push FH).get? Ũ3=↑ FH:=Ũ;change Â À Ú { s with heap:=h1.push FH,toks:=tk };exact zg3 (zg9 (zg8 slot_list_sort #[_,hoL,rfl] entry_list_sort (û7 hoL hz (λ h2 s6 k=>core h2 s6 λ b o n q=>k b o (zB3 (zA8 (ϱ4))) (zg4 _ (ϱ4))) short λ out g1 g2=>š9) (args_list_sort _)));exact zD1 #[_,rfl,fin out _ tk Ũ3 g1 g2 k2 (λ b o n q=>?_) (Ě2 out)];have q1:=ϱ4;have hb:=zB3 (zA8 q1);unfold ϱ2;rw[ϱ3];exact zg4 _ (zg4 _ ?_);rw[ϱ3];show zg4 _ q1
end
end L4
namespace L4
open É Α5 ϧ8 Î L2
theorem Ε0:∀ a b:á,BQ a b=true->K4=Á
 | [],[],h=>œ
 | [],ť,_=>rfl
 | ť,[],h=>œ
 | x::a,y::b,h=>by
  rw[TP] at h ⊢;by_cases e:x=y
  .subst e;rw[Ź] at h ⊢;show Ε0 a b h
  .rw[Df] at h;rw[Ç (Ĭ e)];have:=RB h;show Ih
theorem œ5:∀ a b:á,BQ a b=Á->K4=Á->a=b
 | [],[],_,_=>rfl
 | [],ť,h,_=>œ
 | ť,[],_,h=>œ
 | x::a,y::b,h,h'=>by
  rw[TP] at h h';by_cases e:x=y
  .subst e;rw[Ź] at h h';rw[œ5 a b vX]
  .rw[Df] at h;rw[Ç (Ĭ e)] at h';have h1:=qz h;have h2:=qz h';lia
theorem Œ7:∀ a b c:á,K4=Á->BQ c b=Á->BQ c a=Á
 | [],[],[],_,_=>rfl
 | [],[],ť,_,h=>h
 | [],ť,[],_,h=>œ
 | [],ť,ť,_,_=>rfl
 | ť,[],_,h,_=>œ
 | ť,ť,[],_,h=>œ
 | x::a,y::b,z::c,h,h'=>by
  rw[TP] at h h' ⊢;by_cases e1:y=x
  .subst e1;rw[Ź] at h;by_cases e2:z=y
   .subst e2;rw[Ź] at h' ⊢;show Œ7 JP vX
   .rw[Ç e2] at h' ⊢;show h'
  .rw[Ç e1] at h;have h1:=qz h;by_cases e2:z=y
   .subst e2;rw[Ç e1];show h
   .rw[Ç e2] at h';have h2:=qz h';rw[Ç ⋯];show Ih
theorem ŕ2 ĵ{r:α->Âq}(an:∀ a b,r a b->r b a->a=b):∀ {l₁ l₂:A6},l₁.Perm l₂->l₁.Pairwise r->l₂.Pairwise r->l₁=l₂
 | [],l₂,h,_,_=>(List.nil_perm.mp h).symm
 | a::l₁,[],h,_,_=>ò (List.perm_nil.mp h) #[]
 | a::l₁,b::l₂,h,h1,h2=>by
  have hab:a=b:=by
   have ha:a∈b::l₂:=h.mem_iff.mp zc7;have hb:b∈a::l₁:=àf zc7;rcases Ş ha with e | ha
   .show e
   .rcases Ş hb with e | hb
    .show e.symm
    .show an À (ÎJ h1 hb) (ÎJ h2 ha)
  subst hab;rw[ŕ2 an (List.Perm.cons_inv h) (O0 h1).2 (O0 h2).2]
def vp IX:ű:=rows.mergeSort λ a b=>! K4
def kl IX:(vp rows).Perm rows:=List.mergeSort_perm À
def ar IX:(vp rows).Pairwise Qy:=by
 have:=List.pairwise_mergeSort (le:=λ a b:á=>! K4) (λ a b c h1 h2=>by simp at h1 h2 ⊢;show Œ7 JP ϙ)
  (λ a b=>by
   cases h:K4 with
   | Á=>simp
   | true=>simp[Ε0 b a h]) rows
 show this.imp λ h=>FN
def Ľ1 {rows out:ű}(hp:out.Perm rows) (hs:out.Pairwise Qy):out=vp rows:=
 ŕ2 (λ a b h1 h2=>œ5 a b h2 h1) (hp.trans (kl rows).symm) hs (ar rows)
def ŗ7 IX Fo:Bool:=BQ (Ť1) (rows.getD j [])
def Č1 IX:Ord Ϻ0:=#[λ _ _ _ h1 h2=>Œ7 Ú ϙ,λ _ _ h=>Ε0 À h]
section
variable {ś}{F9}
theorem Ú3 tp:∀ (ns ms:á) (us ws:zLV) Í,ϸ3->ϻ ws ms->Q (BQ ns ms) s->KatLex đ A b (æ (Δ<Ŵ6)) Q (us.zip ws) i s:=by
 intro ns ms us ws i hu
 induction hu generalizing ms ws i with
 | nil=>intro hw h;cases hw <;> show Ìg
 | @cons n t us' ns hu ih=>
  intro hw h;cases hw with
  | nil=>show Ìg
  | @cons m u ws' ms hw=>
   rw[TP] at h;exact kat_cons (Õq n t m u đ À (kat_go (λ e=>kat_yes ?_) λ e=>kat_no ?_))
   .have e':n=m:=Vi
    rw[Ô e'] at h;rw[show æ ((t9).length<(m::ms).length)=æ (Δ<Ŵ6) by simp];show ih ms _ ŏ hw h
   .have e':¬ n=m:=Vi
    rw[Ç e'] at h;cases b&&i == 0 with
    | true=>show kat_lt_int h
    | Á=>show kat_one À (lt_int h)
def gK ĥ:KG->ű->Prop:=Ņ λ v r=>r≠[]/\∃ b o its n,v=GS/\Gg/\Sh/\ϛ3/\ϻ QM r
theorem gK.Â9 ĝ:∀ ς DN,gK h YZ->∃ fs,KatTups h vs fs/\U_=ŀ/\∀ v∈fs,∃ n t,v=QZ n t:=by
 intro vs rows z;unfold gK at z
 induction z with
 | nil=>show#[[],KatTups.nil,rfl,λ _ hv=>ò hv #[]]
 | cons q r ih=>
  let#[hne,b,o,its,n,hv,ho,hc,hd,hi]:=q;let#[fs,h1,h2,h3]:=ih;subst hv;let#[its]:=its;cases hi with
  | nil=>show ϱ5
  | cons k t _=>show#[Ê k t::fs,KatTups.cons ho hc hd rfl h1,by simp[h2],λ v hv=>(Ş hv).elim (λ e=>#[k,t,e]) (h3 v)]
theorem ű1 Ŗ5:∀ ÜD ý,Ûk->i<l₁.length->∀ (d:α) (e:β),F (l₁.getD i d) (l₂.getD i e)
 | _,_,_,Ð,h,_,_=>ò h #[]
 | _,_,0,Ó r _,_,_,_=>r
 | _,_,i+1,Ó _ t,h,d,e=>by exists ű1 (i:=i) t tK d e
def gK.ask ς DN tp(r:gK í YZ) Af(hi:i<ŀ) (hj:j<ŀ) {C:ź8}(h:C (ŗ7 rows i j) s):kas_ask đ A (tuples' b) vs i j C s:=by
 let#[_,b1,o1,its1,n1,e1,g1,_,d1,q1]:=ű1 r hi Fm [];let#[_,b2,o2,its2,n2,e2,g2,_,d2,q2]:=ű1 r hj Fm [];unfold kas_ask;rw[e1,e2];exact kat_lt g1 d1 g2 d2 ?_;have l1:=q1.length;have l2:=q2.length;rw[zD2] at l1 l2;rw[l1,l2];show Ú3 ņ 0 GB h
theorem Į3 ĵ ā{lt:Gy}{cmp:Nat->Nat->(ź8)->ŭ}{Q:α->ŭ}(hc:∀ i j C,i<n->j<n->C (lt i j) s->cmp i j C s):∀ {t:Β5},xB vJ t (λ a=>Q a s)->t.kasWp cmp Q s
 | ύ _,h=>h
 | .ask i j _,h=>hc i j _ h.1 OV (Į3 hc Ti)
def ś2 (vs:zLV) IX (out:zAV):Prop:=
 ∃ ps:List (Ï × á),ps.Perm (Q7 rows)/\Pm=Eo ĉ/\ÝM Qy
theorem ã4 rR af{m:Ts}(h:IA=Mb) (a:α) (b:β):(Ŀ IA).map (λ i=>(l.getD i a,m.getD i b))=l.zip m:=by
 exact zdV FK λ i h1 h2=>?_;have h3:i<IA/\i<Mb:=by simp at h1;lia
 simp[h3.1,h3.2]
theorem ĉ3 DN EF ā(hn:p.size=n) (h:ml Ϻ0 p n):(p.toList.map λ i=>Ť1).Pairwise Qy:=by
 rw[zdW,zeN];intro i j hi hj hij;have:=h i j (zE3 hij) (by rw[<- hn];exists hj);simp![zD2] at hi hj;unfold Le ŗ7 at this;simpa [zf6,hi,hj] using this
theorem ę5 ς DN(r:gK í YZ) ÜL:Core Âv (ś2 YZ) s:=by
 let#[fs,t,hl,hf]:=r.Â9;unfold Core;exact kat_kind (T:=ů "int") t ⋯ (ϰ2) rfl #[rfl,?_]
 .let#[n,t,rfl]:=hf v hv;show Looks.of_pure rfl
 .exact kat_run (ks:=vs) (Q:=λ st s''=>s''=s/\ź7 st=none/\ś2 YZ (ÛE)/\ÙJ) (G:=λ p s''=>s''=s/\qT ŀ p/\ml Ϻ0 p ŀ) rfl h2 pz (λ p st s' hs ha hfl hg=>?_) ?_
  .let#[h1,h3,h4]:=hg;exact#[h1,hfl,#[p.toList.map λ i=>(vs.getD i Fm,Ť1),?_,?_,?_],by rw[ha,zeM];show hs]
   .rw[<- ã4 (Al r) Fm []];have:=Array.Perm.toList h3;show List.Perm.map _ (by ext uM)
   .rw[kat_snds rfl ha,zD6];rfl
   .rw[zD6];show ĉ3 hs h4
  .show Į3 (λ i j C hi hj hC=>r.ask hi hj hC) (Ef (λ p hp=>#[rfl,hp]) (ñ8 (Č1 rows) ⋯))
end
section
variable {Æ}
def Paired.perm Ŗ5{l l':A6}(p:l'.Perm l):∀ {m:Ts},Ņ F l m->∃ m',m'.Perm m/\Ņ F l' m':=by
 induction p with
 | nil=>intro m h;show#[m,IY,h]
 | cons x _ ih=>
  intro m h;cases h with
  | cons a h=>
   let#[m',h1,h2]:=ih h;show#[_,h1.cons _,Ó a h2]
 | swap x y l=>
  intro m h;cases h with
  | cons a h=>
   cases h with
   | cons b h=>show#[_,.swap Ú,Ó b (Ó a h)]
 | trans _ _ ih1 ih2=>
  intro m h;ext ÞZ;let#[m2,h3,h4]:=ih1 h2;show#[m2,h3.trans h1,h4]
abbrev Ĩ6 È ð Ee (r:á):Prop:=r≠[]/\∃ b,v=Ga b/\y8 Å b (r.map Ø8)
abbrev i0 È ð (ys:Ŧ) IX:Prop:=Ņ (Ĩ6 Å) SV
abbrev VR È ð:KG->DJ->Prop:=Ņ λ u q=>RelV q.1 u/\Ĩ6 Å q.1 q.2
def VR.of Ù Ø:∀ {ys:Ŧ}ς DN,Vals ys vs->i0 Å SV->VR Å vs (B5):=by
 intro ys vs rows z
 induction z generalizing rows with
 | nil=>intro z;cases z;show Ð
 | cons r t ih=>intro z;cases z with | cons r' t'=>show Ó #[r,r'] (ih t')
abbrev bz (qs:DJ) ð Κ:Prop:=∀ p (ps:DJ),IT->ps.Perm qs->ÝM (Qy)->Q Đ (upd H p (Ñ O7))
def ņ7 MX{σ:L2.St}Ø Μ â ς{qs:DJ}Rg Õ
  (C:∀ Q':Nv,(∀ h1 tk,Õv->Æh)->Â Τ2 Wl ť9 Q' Ê2)
  (hv:VR ė vs qs) (pz:Ϻ1<64) (q:bz qs H Q):Â û ÛF AK:=by
 have hl:ŀ=Ϻ1:=Al hv;have hz:Ϻ1<=Ý:=zE0 (zE3 pz) ();have rows_at:∀ h6:Heap,(∀ b o,¬ Þ->ϑ->h6.get? b=↑o)->gK h6 vs ū8:=λ h6 k=>by
  clear q hl pz hz C
  induction hv with
  | nil=>show Ð
  | cons g t ih=>
   exact Pq;let#[r1,hne,b,e1,hb]:=g;rw[e1] at r1;cases r1;let#[its2,rv2,ÐX,_]:=ξ hb;show#[hne,b,o,_,n,rfl,k À id e,hc,hd,by exists OI rv2]
 exact ļ0 (Out:=ś2 vs ū8) C ⋯ (λ h2 s6 k=>ę5 (rows_at _ k) h2 ⋯) (λ h1=>#[Q7 ū8,IY,by rw[List.map_fst_zip FK],?_]) λ out h' tk p ho hs hp k hat=>?_
 .rw[ÙK FK,zeN];intro i j hi hj hij;simp at hi hj;lia
 .let#[ps,g1,g2,g3]:=ho;let#[e,he]:=hat;have z:Ņ (λ p q=>RelV q.1 p.1/\p.2=q.2) (Q7 ū8) qs:=by
   clear g1 hs hl pz hz C rows_at q
   induction hv with
   | nil=>show Ð
   | cons a _ ih=>show Ó #[a.1,rfl] ih
  let#[qs',q1,q2]:=Paired.perm g1 z;have f:Vals (qs'.map ĉ) O7/\qs'.map Ł=Fj:=by
   clear q1 g1 g2 g3
   induction q2 with
   | nil=>show#[Ð,rfl]
   | cons a _ ih=>show#[Ó a.1 ih.1,by rw[zA6,zA6,ih.2,a.2]]
  exact#[Č,_,Ι (t':=tk) (o:=Ñ (qs'.map ĉ)) ÑY hp #[?_,Pm,e,by rw[g2];show f.1,ϵ9],rfl,q p qs' (GH hp) q1 (by rw[f.2];show g3)];rw[zA7,q1.length_eq];show hz
end
end L4
namespace L2
open É Ü Î
def mE (ty T:ū):Bool:=ty == T||(ty == "bool"&&T == "int")
def bW (ty T:ū):Bool:=Ød&&æ ((fastBuiltinMro ty).map (λ l=>l.contains (WZ T))=↑ w_)
def Å8:(["NoneType","bool","int","str","tuple","list","dict"].all λ ty=>["int","bool","tuple","list","str"].all λ T=>bW ty T)=true:=by ext Bs
def ê9 Ù{ty T:ū}(h:bW ty T=true):ϖ6 K Ϟ5=↑ w_:=by
 unfold bW at h;rw[zE5] at h;unfold ϖ6;split
 .rename_i e;have e':ty=T:=by have:=Z8 e;injection this
  subst e';simp[mE]
 .change (if Ød=true then PySem.W.subIn K Ϟ5 else none)=_;rw[Ô h.1];show RB h.2
def ŋ1 È ð:V->ū->Prop
 | .zx,t=>t="NoneType"
 | L_,t=>t="bool"
 | sX,t=>t="int"
 | sP,t=>t="str"
 | õ,t=>(t="tuple"/\∃ xs,sT)\/(t="list"/\∃ xs,Jd)\/(t="dict"/\∃ kvs,Oj)
 | _,_=>Þ
def zat Æ:xH X (Ű "isinstance") (λ xs H Q=>∃ x T ty,xs=[x,.ty T]/\ŋ1 ė x ty/\bW ty T=true/\Q (.bl w_) H):=by
 ext A1;let#[x,T,ty,rfl,hx,hT,q]:=h;let#[u,c,rfl,ru,rc]:=vals2 r;cases (show c=WZ T from rc);have e:ϖ6 X.K Ϟ5=↑ w_:=ê9 hT;have fin:∀ tk,EP ú Q (ź w_) { s with toks:=tk }:=λ tk=>#[L_,H,I.tok tk,rfl,q];cases x with
 | zx=>cases (show u=Fm from ru);cases ŭ6;show GY PySem.W.kitx_none Ū1
 | bl y=>cases (show u=RQ y from ru);cases ŭ6;show GY PySem.W.kitx_bool Ū1
 | int i=>let#[t,rfl]:=(show ψ6 from ru);cases ŭ6;show GY PySem.W.kitx_int Ū1
 | str y=>let#[t,rfl]:=(show ∃ t,u=Ϸ3 y t from ru);cases ŭ6;show GY PySem.W.kitx_str Ū1
 | ref a=>
  cases (show bf from ru);rcases hx with ⟨rfl,ys,hq⟩ | ⟨rfl,ys,hq⟩ | ⟨rfl,kvs,hq⟩
  .let#[its,_,#[o,h1,h2,_],_]:=Ly;show GY PySem.W.kitx_tuple ÒB
  .let#[its,_,#[o,n,h1,h2,_],_]:=Ow;show GY PySem.W.kitx_list ÒB
  .let#[_,_,vs,_,p]:=(show xN Qf a Hv from I.zJ a _ hq)
   let#[o,es,ep,h1,h2,_]:=p;show GY PySem.W.kitx_dict I.vf #[o,h1,h2.1] Κ7
 | _=>show hx.elim
end L2
namespace L3
open É Ü L2
open Î hiding St
section
variable {Æ}{Ù}{a b e:Expr}{ĩ}{BL}{Ū}{pos p q:Pos}
def Đ6 (hm:ÛG) Ϲ (hg:Gl X "len") tV:PD X ÑZ (vj lu tA):=
 m5 (lE (zaq.or zap) ÔL) lu.mo lu.fits ă
def ċ1 (hm:ÙL) Ϲ (hg:Gl X "list") tV:PD X (ù àg AA) (vj lr tA):=
 m5 (iV zan ÏL A7) lr.mo lr.fits ă
def ÿ8 (hm:X.mg "tuple"=none) Ϲ (hg:Gl X "tuple") tV:PD X (ù (ą "tuple" p) AA) (vj lj tA):=
 m5 (iV Õ5 K_ Ða A7) lj.mo lj.fits ă
abbrev ń5:xC:=mI λ i j=>Ê (ϒ6)
abbrev ħ4:xC:=mI λ i j=>Ê (ϔ7)
def Þ0 (hm:Üz) Ϲ ę (hg:Gl X "max") tV:PD X (ù (ą "max" p) AA) (vj ń5 tA):=
 m5 (lE (zam hc) áA) ÌW
def ć1 (hm:Ýd) Ϲ ę (hg:Gl X "min") tV:PD X (ù (ą "min" p) AA) (vj ħ4 tA):=
 m5 (lE (zak hc) áB) ÌW
def nZ (r:á):D:=ä (r.map BS)
theorem zv.aJ Ø:∀ {ps:DJ},(∀ q∈ps,Õw)->Ïo
 | [],_=>Ð
 | q::ps,h=>Ó (h q zc7) (zv.aJ λ q hq=>h q (zc8 _ hq))
theorem zv.bP Ø:∀ DN{ys:Ŧ},zv Å aH ys->∀ q∈ B5,Õw
 | [],ys,_,q,hq=>by simp at hq
 | r::rows,ys,h,q,hq=>by
  rw[zA6] at h;ext DH;let#[x,ys',rfl,h1,h3]:=h;rcases Ş hq with e | hq
  .subst e;show h1
  .show zv.bP h3 q hq
theorem aA Ø:∀ DN{ys:Ŧ},zv Å aH ys->χ7->ϐ3
 | [],ys,h,_=>by simp![zd0,zv] at h;subst h;show Ð
 | r::rows,ys,h,hn=>by
  rw[zA6] at h;simp![zv,nZ,zj] at h;let#[x,ys',rfl,#[a,xs,rfl,g1,g2],h3]:=h;rw[g2.ints] at g1;show Ó #[hn r zc7,a,rfl,g1] (aA h3 λ r' hr=>hn r' (zc8 _ hr))
def ć9 mK(hm:Ş7) (ha:yB X [a] tA) (hg:Ũ4) (hs:Ξ6):zY ÕV (Ź8 tA):=é3 (Ĕ4 Ū2) ă
def û0 mK(hm:Ş7) (ha:yB X Kk tA) (hg:Ũ4) (hs:Ι2) (hs2:Ο2):zY ÕW (Ŕ7 tA):=ą3 (Æ0 Ū2 hs2) ă
def iO HL Λ:î ū:=match d with
 | .zx=>↑"NoneType"
 | L_=>↑"bool"
 | sX=>↑"int"
 | sP=>↑"str"
 | ä _=>↑"tuple"
 | .qZ _=>↑"list"
 | Č=>match S p with
  | some (Ñ _)=>↑"list"
  | some (.xk _)=>↑"dict"
  | _=>none
def eC (T:ū) uD:zy:=fun Y S Q=>te Y S λ x S1=>match iO x S1 with
 | some ty=>Q (.bl w_) S1
 | _=>Þ
theorem iO.ok Ø ì ř ß{ty:ū}uk (h:iO d S=↑ty):ŋ1 Å v ty/\ty∈["NoneType","bool","int","str","tuple","list","dict"]:=by
 cases d with
 | tup ds=>
  ext ÍF;show#[Ä ÙM,#[]]
 | qZ ds=>
  ext ÍF;show#[Ã (Ä #[rfl,xs,g1.sq]),#[]]
 | ref a=>
  ext PV;unfold iO at h;dsimp only at h;ext ç
  .ext Îs;show#[Ã (Ðb),#[]]
  .ext Îs;show#[Ã (Ã ÙM),#[]]
  .cases h
 | _=>ext PV;cases h;show#[rfl,#[]]
def aP {T:ū}ô(hT:T∈["int","bool","tuple","list","str"]) (hm:X.mg "isinstance"=none) (hm2:Nt=none) (hv:Jc=↑ jq) (hg2:Gl X x) (hn:ψ7) (hd:rg) s_ YF
  (h1:zEE X e [ą x q]) (h2:zEB IH [ą x q]) (h3:zEE X (ą x q) []):
  PD X (ù R4 [e,ą x q] Ψ) (eC T te):=by
 exact#[fun Y S Q Q' hq z=>Ν é (λ y S1 z=>?_) z,Ğ (lE zat K_ boot_isinstance (ja LM (ja (Û6 (v:=.ty T) hg2 hm2 hv rfl hn hd) k_ h3) h1) Ha ϙ) Ľ]
 .split at z
  .show Js
  .show z
 .ext ħ;exact ď Ν GI λ y S1 v H1 z1 q1 e1 p1=>?_;split at z1
  .rename_i ty ht;let#[g1,g2]:=iO.ok q1 p1 ht;exact#[v,T,ty,rfl,g1,?_,z1 Ff];show FC (FC Å8 ty g2) T hT
  .show z1.elim
def ċ4 Ŷ9 s_ YF (hg2:Gl X "bool") (h1:zEE X e [ū9]) (h2:zEB IH [ū9]) (h3:zEE X (ū9) []):
  PD X (ù R4 [e,ū9] Ψ) (eC "bool" te):=aP š3 T.bool PyProof.Rows.boot_bool Uc
def Ò2 Ŷ9 s_ YF (hg2:Gl X "int") (h1:zEE X e [ű2]) (h2:zEB IH [ű2]) (h3:zEE X (ű2) []):
  PD X (ù R4 [e,ű2] Ψ) (eC "int" te):=aP š3 HY Òa Uc
def č8 Ŷ9 s_ YF (hg2:Gl X "tuple") (h1:zEE X e [Ũ5]) (h2:zEB IH [Ũ5]) (h3:zEE X (Ũ5) []):
  PD X (ù R4 [e,Ũ5] Ψ) (eC "tuple" te):=aP š3 T.tuple Ða Uc
def ė6 {o:Expr}Md yU tQ s_
  (rW:ÒV)
  Kn:
  PD X WW TK:=
 Ø0 (o:=o) (e:=e) (aO Äj ś3) XX
structure FD Gp È Rb Į Ŕ Fy Lz:Prop where
 ex:∃ (f:Addr) (fd:tS),ÝN/\Ϩ4/\t_/\UD
 mo:SM
def É1 ô į Va Ky Ϲ μ q8
  tV:PD Η4:=by
 ext ÊX;show õ7 (E:=E0) (Ü9 h1 hr Ìn) hm ă
end
def ú1 ß ŵ è Iq(e:RJ) (h:Ŵ9):lj [Č] S Q:=by
 unfold lj;ext ŷ9
def ö3 ß ì è Iq Wi (h:Ôd):lr [d] S Q:=by
 unfold lr;ext ŷ9
def ì6 ß ì è Iq Wi (h:Q (Ê ϕ) S):lu [d] S Q:=by
 unfold lu;ext ŷ9
def ċ9 ß ŵ è{Q:rP}(e:RJ) (h:Β2):nU Đ S Q:=by
 unfold nU;ext ŷ9
def ď2 ß ŵ è G7 ì Iq(e:RJ) ϔ4:oG Đ Lk S Q:=by
 ext ŷ6;rw[e];ext ë;rw[e2];show h
def Ò1 ß è G7 ì Iq ϔ4:oG (ϩ) Lk S Q:=by
 ext ŷ6;rw[e2];show h
def Ç9 ß è G7 ì Iq ϔ4:oG (sj) Lk S Q:=by
 ext ŷ6;rw[e2];show h
inductive T where
 | zx | bl (b:Bool) | int Q4 | str Į | tup qH | lst qH | zL (ks:AG) qH | dn (l:Ac)
mutual
def eqT:T->T->Bool
 | .zx,.zx=>true
 | .bl a,Ŭ=>a == b
 | .bl a,Ê b=>(if a then 1 else 0) == b
 | Ê a,Ŭ=>a == (if b then 1 else 0)
 | Ê a,Ê b=>a == b
 | Ì a,Ì b=>a == b
 | ä a,ä b=>qO a b
 | Ñ a,Ñ b=>qO a b
 | .zL k a,.zL l b=>æ (k=l)&&qO a b
 | .dn a,.dn b=>æ (a=b)
 | _,_=>Á
def qO:Ĉ->Áq
 | [],[]=>true
 | a::as,b::bs=>eqT a b&&qO as bs
 | _,_=>Á
end
mutual
def dep:T->Nat
 | ĺ=>1+MR
 | ŷ=>1+MR
 | O6=>İ
 | LX=>İ
 | _=>0
def xu:Ĉ->Nat
 | []=>0
 | ŗ=>max (AR) (MR)
end
def Ň3:Áq
 | []=>true
 | sX::ts=>Ň3 ts
 | _=>Á
def î8 su:Ň3 ŵ2=true:=by
 induction ns with
 | nil=>rfl
 | cons n ns ih=>show ih
mutual
def Sn Λ:T->D->Prop
 | .zx,d=>d=.zx
 | Ŭ,d=>d=Ŭ
 | ñ,d=>d=ñ
 | Ť,d=>d=Ť
 | ĺ,d=>∃ ds,d=ϩ/\ŝ
 | ŷ,d=>∃ ds,((d=sj/\Ň3 ts=true)\/Òb)/\ŝ
 | rL,d=>∃ a m,(d=õ/\yi)/\ÝO/\ź9
 | .dn l,d=>∃ a ep,d=õ/\S a=↑ bA
def zp Λ:Ĉ->Àl
 | [],ds=>ds=[]
 | ŗ,ds=>∃ c cs,ds=c::cs/\Sn S t c/\zp S ts cs
end
mutual
theorem Ħ0:∀ t:T,eqT t t=true
 | .zx=>PJ
 | Ŭ=>PJ
 | ñ=>PJ
 | Ť=>PJ
 | ĺ=>Õf
 | ŷ=>Õf
 | .zL _ ts=>by simp[eqT,cO ts]
 | LX=>PJ
theorem cO:∀ ts:Ĉ,qO ts ts=true
 | []=>Ũ6
 | ŗ=>by simp![qO,Ħ0 t,cO ts,zeP]
end
theorem ĸ7:∀ ts us:Ĉ,Ż0=((Ŀ (min ő Ϡ)).all (λ j=>Ðc)&&ő == Ϡ)
 | [],[]=>Ũ6
 | [],ť=>Ũ6
 | ť,[]=>Ũ6
 | ŗ,u::us=>by
  simp![qO,ĸ7 ts us,zC0];rw[show min (ő+1) (Ϡ+1)=min ő Ϡ+1 by lia,List.range_succ_eq_map,zdX,zdY];have:(ő+1 == Ϡ+1)=(ő == Ϡ):=by rw[zC7];simp
  rw[this,Bool.and_assoc];rfl
theorem zp.length ß:∀ Ą è,ŝ->ő=ϕ
 | [],ds,h=>by ext YG;rfl
 | ŗ,ds,h=>by
  simp![zp] at h;let#[c,cs,rfl,_,h2]:=h;simp[zp.length h2]
section
variable {Æ}{ġ}{ß}
theorem ĥ0 Õ â tJ(h1:bU) (h2:yy ė a ys):Þ:=by
 let#[_,_,#[o,e,c,_],_]:=ξ h1;let#[_,_,#[o',n,e',c',_],_]:=S_ h2;ext ų4;rw[c] at c'
 injection c' with q
 show ò q ()
def Sn.jL Bv Ą ì Ϯ(h:Sn S A9 d) (r:Jk):∃ a xs ds,ż/\Ϸ6/\TJ/\ŝ:=by
 ext Hf;obtain⟨ds,⟨h,_⟩ | ⟨a,h,e⟩,h2⟩:=h
 .subst h;ext ÍC;show#[a,xs,ds,rfl,g1.sq,g2,h2]
 .subst h;ext Hc;let#[xs,g1,g2]:=p À e;show#[a,xs,ds,r,Ñ7 g1,g2,h2]
def Sn.j8 Ą ì Ϯ(h:Sn S (ĺ) d) (r:Jk):∃ a xs ds,ż/\bU/\TJ/\ŝ:=by
 ext ÔM;ext ÍC;show#[a,xs,ds,rfl,g1,g2,h2]
theorem Sn.flat tR ì Ϯ(h:Ϣ) (r:Jk):match t with
  | .zx=>x=.zx
  | Ŭ=>x=Ŭ
  | ñ=>x=ñ
  | uX=>x=uX
  | _=>True:=by
 cases t <;> first
  | trivial
  | (ext Hf;subst h;simpa only [zj] using r)
mutual
theorem Y5 Õ Bv:∀ (t u:T) {d e:D}Ϯ,AR<İ->dep u<İ->Ϣ->Ż1->Jk->zj ė e x->t=u
 | ĺ,u,d,e,x,z,z',h1,h2,r1,r2=>by
  let#[a,xs,ds,rfl,g1,g2,g3]:=h1.j8 r1;cases u with
  | zL _ _=>show R7
  | dn _=>show R7
  | tup us=>
   ext Èv;have:=I.œ3 g1 k1;ext Åm
  | lst us=>
   ext Èr;cases q;show (ĥ0 I g1 k1).elim
  | _=>show rf
 | ŷ,u,d,e,x,z,z',h1,h2,r1,r2=>by
  let#[a,xs,ds,rfl,g1,g2,g3]:=h1.jL p r1;cases u with
  | zL _ _=>show R7
  | dn _=>show R7
  | lst us=>
   ext Èr;cases q;have:=I.Ŋ5 g1 k1;ext Åm
  | tup us=>
   ext Èv;show (ĥ0 I k1 g1).elim
  | _=>show rf
 | .zx,u,d,e,x,z,z',h1,h2,r1,r2=>by
  ext Ş1;cases u with
  | zL _ _=>show R7
  | dn _=>show R7
  | zx=>rfl
  | tup us=>ext ž4
  | lst us=>ext WM
  | _=>show rf
 | Ŭ,u,d,e,x,z,z',h1,h2,r1,r2=>by
  ext Ş1;cases u with
  | zL _ _=>show R7
  | dn _=>show R7
  | bl _=>ext ϔ6
  | tup us=>ext ž4
  | lst us=>ext WM
  | _=>show rf
 | Ê b,u,d,e,x,z,z',h1,h2,r1,r2=>by
  ext Ş1;cases u with
  | zL _ _=>show R7
  | dn _=>show R7
  | int _=>ext ϔ6
  | tup us=>ext ž4
  | lst us=>ext WM
  | _=>show rf
 | Ì b,u,d,e,x,z,z',h1,h2,r1,r2=>by
  ext Ş1;cases u with
  | zL _ _=>show R7
  | dn _=>show R7
  | str _=>ext ϔ6
  | tup us=>ext ž4
  | lst us=>ext WM
  | _=>show rf
 | O6,u,d,e,x,z,z',h1,h2,r1,r2=>ò z ς7
 | LX,u,d,e,x,z,z',h1,h2,r1,r2=>ò z ς7
theorem Y4 Õ Bv:∀ (ts us:Ĉ) Ŷ8 ÿ,MR<İ->xu us<İ->ŝ->ϱ6->TJ->zv ė es xs->ts=us
 | [],us,ds,es,xs,z,z',h1,h2,r1,r2=>by
  have e:=ÄC;cases us with
  | nil=>rfl
  | cons _ _=>simp at e
 | ŗ,[],ds,es,xs,z,z',h1,h2,r1,r2=>by
  have e:=ÄC;simp at e
 | ŗ,u::us,ds,es,xs,z,z',h1,h2,r1,r2=>by
  simp![zp] at h1 h2;let#[c,cs,rfl,a1,a2]:=h1;let#[c',cs',rfl,b1,b2]:=h2;simp![zv] at r1 r2;let#[y,ys,rfl,g1,g2]:=r1;let#[y',ys',q,k1,k2]:=r2;cases q;simp![xu] at z z';rw[Y5 I p t u ć a1 b1 g1 k1,Y4 I p ts us ć a2 b2 g2 k2]
end
theorem zp.get Ą è JE:∀ KW,j<ő->∃ c,ds[j]?=↑c/\Sn S ś8 c:=by
 induction ts generalizing ds with
 | nil=>intro j hj;simp at hj
 | cons t ts ih=>
  intro j hj;ext Fc;cases j with
  | zero=>show ϓ1
  | succ j=>
   let#[c',e,h3]:=ih h2 (j:=j) (by exists hj);show#[c',by simpa using e,by exists h3]
theorem eB:∀ Ą KW,j<ő->dep ś8<=MR
 | [],j,h=>A2
 | ŗ,0,_=>by simp![xu,List.getD_cons_zero];lia
 | ŗ,j+1,h=>by
  have:=eB (ts:=ts) (j:=j) tK;simp![xu,List.getD_cons_succ];lia
inductive gI È ð Λ ϊ:T->Ź0
 | zx:gI PB .zx Ġ
 | bl tp:gI PB Nc (ź b)
 | int G7{k:Tok}:gI PB Lk (Ê i k)
 | str {i:Str}{k:Tok}:gI PB (Ì i) (Ì i k)
 | tup Ą è ÿ Ń uG Ýe (h:OS l ϱ7):gI PB (ĺ) ĭ
 | lst Ą è ÿ Ń uG Ýe (h:vg l ϱ7):gI PB A9 ĭ
def Ķ6 Õ Bv tR ì Ϯ{a:Ï}(h:Ϣ) (r:Jk) (v:Ár) (z:AR<İ):gI ė S s t a:=by
 cases t with
 | zx=>ext τ4;cases v;show .zx
 | bl _=>ext τ4;cases v;show .bl
 | int _=>ext áC;show Ê
 | str _=>ext áC;show Ì
 | tup _=>let#[l,xs,ds,rfl,g,r,q]:=h.j8 r;cases v;let#[_,w,i,_]:=ξ g;show ä q r w i
 | lst _=>let#[l,xs,ds,rfl,g,r,q]:=h.jL p r;cases v;let#[_,w,i,_]:=S_ g;show Ñ q r w i.isList
 | _=>simp![dep] at z;lia
abbrev J3 Ar ϊ (a b:Ï) E6:Prop:=ů9 Η5 k/\SeqAt.RcAt Η5 k/\SeqAt.RcNeAt Η5 (!k)
theorem za3 Õ Bv:∀ Ď (t u:T) ĸ Öb,AR<n->ϡ+AR<İ->ϛ4->Ϣ->Ż1->Jk->zj ė e y->Ár->RelV y b->ÒW:=by
 intro n
 induction n with
 | zero=>intros;lia
 | succ n ih=>
  intro t u A d e x y a b hn hu hu' h1 h2 r1 r2 v1 v2;have hq:a=b->t=u:=λ z=>by subst z;have:=v1.inj v2;ext Ŗ;show Y5 I p t u ć ϙ QX
  have c1:=Ķ6 I p h1 r1 v1 ⋯;have c2:=Ķ6 I p h2 r2 v2 ⋯;clear h1 h2 r1 r2 v1 v2;have hA:ϡ<İ:=⋯;have el:∀ Ž9{ds ds':Ã4}{xs xs':Ŧ}{is is':zLV},1+MR<n+1->ϡ+(1+MR)<İ->ϡ+(1+xu us)<İ->ŝ->zp S us ds'->TJ->zv ė ds' xs'->Vals xs is->Vals xs' is'->ϓ2=ő/\ϐ4=Ϡ/\
    ∀ PH (h1:j<ϓ2) (h2:j<ϐ4),ů9 ux s is.toArray[j] is'.toArray[j] (Ðc):=by
   intro ts us ds ds' xs xs' is is' a1 a2 a3 g1 g2 r1 r2 v1 v2;have e1:ϓ2=ő:=by rw[zA0,<- v1.length,<- ϸ4,<- g1.length]
   have e2:ϐ4=Ϡ:=by rw[zA0,<- v2.length,<- Y0,<- AO]
   exact#[e1,e2,λ j h1 h2=>?_];let#[_,k1,s1]:=g1.get (e1▸h1);let#[_,k2,s2]:=g2.get (e2▸h2);let#[_,f1,q1]:=r1.get k1;let#[_,f2,q2]:=r2.get k2;let#[w1,o1,m1]:=v1.get f1;let#[w2,o2,m2]:=v2.get f2;have y1:=eB (e1▸h1);have y2:=eB (e2▸h2);let#[_,z1]:=Š o1;let#[_,z2]:=Š o2;rw[ÒX,ÒX,z1,z2];show (ih À (A:=ux) ⋯ ÎK ÎK s1 s2 GB m1 m2).1
  have en:∀ {l l':Addr}Ž9,(ŉ l=Ò l'->ts=us)->SeqAt.RcAt Ϙ6 (Ż0)/\SeqAt.RcNeAt Ϙ6 (! Ż0)->J3 Ϙ6 (Ż0):=λ{l l' ts us} h q=>by
   exact#[?_,q];by_cases z:l=l'
   .subst z;rw[h rfl,cO];show .same _
   .show .of_refs z q.1
  cases c1 <;> cases c2 <;> simp![eqT,zB5,zB2]
  .show#[.same _,.none_none,.none_none]
  .show#[ϡ2,ϡ2,ϡ2]
  .show#[ϡ3,ϡ3,ϡ3]
  .show#[ϡ4,ϡ4,ϡ4]
  .show#[ϖ7,ϖ7,ϖ7]
  .show#[ϛ5,ϛ5,ϛ5]
  .show#[ϡ5,ϡ5,ϡ5]
  .show#[ϛ6,ϛ6,ϛ6]
  .show#[ϡ6,ϡ6,ϡ6]
  .show#[ϡ7,ϡ7,ϡ7]
  .show#[ϐ5,ϐ5,ϐ5]
  .show#[ϔ8,ϔ8,ϔ8]
  .show#[ϡ8,ϡ8,ϡ8]
  .show#[ϡ9,ϡ9,ϡ9]
  .show#[Ϣ0,Ϣ0,Ϣ0]
  .show#[Ϣ1,Ϣ1,Ϣ1]
  .show#[ϖ8,ϖ8,ϖ8]
  .show#[ϛ7,ϛ7,ϛ7]
  .show#[Ϣ2,Ϣ2,Ϣ2]
  .show#[Ϣ3,Ϣ3,Ϣ3]
  .show#[Ϣ4,Ϣ4,Ϣ4]
  .show#[Ϣ5,Ϣ5,Ϣ5]
  .show#[ϖ9,ϖ9,ϖ9]
  .show#[ϛ8,ϛ8,ϛ8]
  .show#[ϗ0,ϗ0,ϗ0]
  .show#[ϒ3,ϒ3,ϒ3]
  .show#[ϗ1,ϗ1,ϗ1]
  .show#[ϗ2,ϗ2,ϗ2]
  .rename_i g1 r1 v1 k1 _ _ _ _ _ g2 r2 v2 k2;ext Ät;show#[ÙN,ÙN]
  .show#[ς8,ς8,ς8]
  .show#[ϛ9,ϛ9,ϛ9]
  .show#[ϕ0,ϕ0,ϕ0]
  .show#[Ϝ0,Ϝ0,Ϝ0]
  .show#[Ϝ1,Ϝ1,Ϝ1]
  .show#[τ8,τ8,τ8]
  .rename_i i1 _ g1 r1 v1 k1 _ _ _ i2 _ g2 r2 v2 k2;ext Ät;by_cases z:i1.toArray.size=i2.toArray.size
   .rw[<- z,Nat.min_self,Ϗ9,àh];show#[Øe,Øe]
   .rw[qu z,zdT];have z':=bne_iff_ne.mpr z;show#[Ïp,Ïp]
def Ĩ2 Õ Bv (t u:T) ĸ Öb(hu:ϡ+AR<İ) (hu':ϛ4) (h1:Ϣ) (h2:Ż1) (r1:Jk) (r2:zj ė e y) (v1:Ár) (v2:RelV y b):ÒW:=za3 I p _ t u (zE2 _) hu hu' ϙ QX v1 v2
end
def Ε6 È Ho:R2:=λ x y H Q=>∃ S d e t u,Nb/\Ϲ1/\ϗ/\Ϣ/\Ż1/\AR<=60/\ŵ3/\Q ÈV H
def og Ho:xJ:=λ x y S Q=>∃ t u,Sn S t x/\Sn S u y/\AR<=60/\ŵ3/\Q ÈV S
def og.mo Gx:vn Ás:=λ _ _ _ _ _ hq #[t,u,a,b,c,d,h]=>#[t,u,a,b,c,d,ō]
def og.fits Ù Gx:wG K Ás (Ε6 K neg):=λ x y d e H S Q h1 h2 h3 #[t,u,a,b,c,c',h]=>#[S,d,e,t,u,h1,h2,h3,a,b,c,c',OO]
section
variable {Æ}{Gm}{ID}{Ć}
theorem Ğ7 W9:yH X (ϒ .Eq) (Ε6 X.K Á):=by
 ext Åf;show (ÇR).2.1 Ů X.xe _ PL
theorem Ġ6 W9:yH X (ϒ .NotEq) (Ε6 X.K true):=by
 ext Åf;show (ÇR).2.2 Ů X.xe _ PL
def Ą2 ϴ ĕ:PD X ÙO ÙP:=kZ (Ğ7 Jp) ş6
def Ã6 ϴ ĕ:PD X Ôf (yJ ŵ4 Ă):=kZ (Ġ6 Jp) ş6
def ä7 ϴ ĕ:zG X ÙO (oj ÙP):=kr (Ğ7 Jp) ş6
def ĝ3 ϴ ĕ:zG X Ôf (oj (yJ ŵ4 Ă)):=kr (Ġ6 Jp) ş6
def aG È Ho:R2:=λ x y H Q=>∃ S d e u ts ds,Nb/\Ϲ1/\ϗ/\Sn S u d/\yA e S=↑ds/\ŝ/\ŵ3/\MR<=60/\Q Ëm H
def mj Ho:xJ:=λ x y S Q=>∃ u ts ds,Sn S u x/\yA y S=↑ds/\ŝ/\ŵ3/\MR<=60/\Q Ëm S
def mj.mo Gx:vn Át:=λ _ _ _ _ _ hq #[u,ts,ds,a,b,c,d,e,h]=>#[u,ts,ds,a,b,c,d,e,ō]
def mj.fits Ù Gx:wG K Át (aG K neg):=λ x y d e H S Q h1 h2 h3 #[u,ts,ds,a,b,c,c',c2,h]=>#[S,d,e,u,ts,ds,h1,h2,h3,a,b,c,c',c2,OO]
open Ϻ2 in
def nu Ε7 qH (u:T) (v:Ï):Bool:=if h:∃ j,ϥ9 then eqT (ts.getD (Classical.choose h) .zx) u else Á
def ķ0 ġ ß Õ Bv Ą è ÿ Κ3 (u:T) KW vN(hj:ϥ9):
  nu its ts u v=eqT ś8 u:=by
 have h:∃ j,ϥ9:=#[j,hj];unfold nu;rw[dif_pos h];have hc:=Classical.choose_spec h;have lt:∀ i,DS->i<ő:=λ i hi=>by
  ext Χ6;show (Š hi).1
 let#[c1,e1,s1]:=h1.get (lt _ hc);let#[c2,e2,s2]:=h1.get (lt _ hj);ext Öc;let#[x2,f2,r2]:=h2.get e2;ext Öd;let#[v2,g2,q2]:=h3.get f2;rw[hc] at g1;cases g1;rw[hj] at g2;cases g2;have hx:=q1.inj q2;subst hx;rw[Y5 I p À (zdU (eB (lt _ hc)) hz) (zdU (eB (lt _ hj)) hz) s1 s2 QX]
theorem Ò6 ġ ß Õ Bv Ą è ÿ Κ3 (u:T):its.any rF=Τ0:=by
 have hl:ő=E7:=by ext Χ6
 ext ω2
 .rintro⟨v,hv,h⟩;let#[j,hj,rfl]:=rA hv;rw[Èj] at h;have hj':j<ő:=⋯;show#[ts[j],zD8 hj',by simpa [hj'] using h]
 .rintro⟨t,ht,h⟩;let#[j,hj,rfl]:=rA ht;have hj':j<E7:=⋯;show#[its[j],zD8 hj',by rw[ķ0 Óz (by simp[hj'])];simpa [hj] using h]
def Ř1 ġ ß Õ Bv Ą è ÿ Κ3 {u:T}ì Ϯ vN(hu:Sn S u d) (hd:Jk) (hx:LQ) ĸ(b1:ϡ+MR<İ) (b2:ϛ4) {y:Ï}(hy:y∈its):
  ů9 A s y v (nu its ts u y):=by
 let#[j,hj,rfl]:=rA hy;have hjt:j<ő:=by ext Χ6;show hj
 rw[Èj];let#[c1,e1,s1]:=h1.get hjt;ext Öc;ext Öd;have:its[j]=v1:=by
  have:=Š g1;show this.2
 rw[this];have:=eB hjt;show (Ĩ2 I p _ u (A:=A) ⋯ b2 s1 hu r1 hd q1 hx).1
theorem Ù5 W9:yH X (ϒ .In) (aG X.K Á):=by
 ext ÂP
 .ext ÓA;exact SeqAt.in_listAt rF IV pE;ext a9
 .ext ÓB;exact SeqAt.in_tupleAt rF pt pE;ext a9
theorem Õ6 W9:yH X (ϒ J9) (aG X.K true):=by
 ext ÂP
 .ext ÓA;exact SeqAt.notIn_listAt rF IV pE;ext a9
 .ext ÓB;exact SeqAt.notIn_tupleAt rF pt pE;ext a9
def Õ7 ϴ ĕ (hm:tf J9 b=Á):PD X ÙQ Ör:=kZ Ìo
def Ä8 ϴ ĕ (hm:tf J9 b=Á):zG X ÙQ (oj Ör):=kr Ìo
end
end L3
namespace L2
open É Ü Î
section
variable {Pc}[Ū6 κ]
def ou Ϟ6:î V:=υ6
def putK Ϟ6 Ee:Ę3:=
 Κ0
def Y2 Öe(e:p.1=k):ou (p::r) k=↑p.2:=ÐY
def Y3 Öe(e:¬ p.1=k):ou (p::r) k=ou r k:=ÐY
theorem Į0 (k:κ):∀ kvs:Ę3,HU=(M8).isSome
 | []=>rfl
 | p::r=>by
  rw[zd8];ext F0
  .simp![Y2 e,zg6 e,Bool.true_or,Õs]
  .rw[Y3 e,zg7 e,Bool.false_or];show Į0 k r
def ć0 Ϟ6 Ee:(Ŝ6).length<=HK+1:=by
 unfold putK;split
 .rw[zA7];lia
 .rw[zD7,zC0,zdD];lia
def oK.Ņ0 YN{u:Dv}(r:oK o u):Ż2=u.isSome:=by
 cases o with
 | none=>cases u with
  | none=>rfl
  | some _=>show tN
 | some _=>cases u with
  | none=>show tN
  | some _=>rfl
theorem oK.getD YN{u:Dv}{d:V}{d':Ï}(r:oK o u) (rd:RelV d d'):RelV (o.getD d) (u.getD d'):=by
 cases o with
 | none=>cases u with
  | none=>show rd
  | some _=>show tN
 | some _=>cases u with
  | none=>show tN
  | some _=>show r
def KV.val DR (k:κ):oK (M8) (vI vs k):=by
 unfold KV at r
 induction r with
 | nil=>show HQ
 | @cons p q ps qs h t ih=>
  ext áD
  .have e':q.1=k:=Ţ0;have b:vI (Hg) k=↑q.2:=Ïq
   rw[Y2 e,b];show h2
  .have e':¬ q.1=k:=ś9;have b:vI (Hg) k=vI qs k:=Ïq
   rw[Y3 e,b];show ih
theorem KV.any DR (k:κ):HU=Ϻ3:=by
 unfold KV at r
 induction r with
 | nil=>rfl
 | cons h t ih=>rw[zd8,zd8,ih,h.1]
def KV.kW DR (k:κ) {y:V}Ż JA:
  KV Çq (vs.map λ kv=>if MO then (kv.1,u) else kv):=by
 unfold KV at r ⊢
 induction r with
 | nil=>show Ð
 | @cons p q ps qs h t ih=>
  ext Oe;exact Pq;ext áD
  .rw[Ô e,Ô (Ţ0)];show#[h1,ry]
  .rw[Df,Ç (ś9)];show Ű7
def KV.put DR (k:κ) {y:V}Ż JA:KV (putK A3 y) (stored vs k u):=by
 unfold putK stored;rw[r.any k];by_cases e:(Ϻ3)=true
 .rw[Ô e,Ô e];show r.kW k ry
 .rw[Df,Df];show Ϩ5 r #[rfl,ry]
theorem KV.length DR:HK=ŀ:=Al r
end
def Ķ2 Ĝ v9 Ż(r:RelV (kV k) u):(sI).is k u=true:=by
 cases k with
 | inl i=>ext ßA;subst e;show â4 P w i t
 | inr x=>ext ßB;subst e;show ç6 P w x t
theorem İ7 Ĝ:∀ gZ Ń,Vals Áu us->Ż3 (sI) ks us
 | [],_,r=>ÒJ
 | k::ks,_,r=>by
  rw[zA6] at r;cases r with
  | cons h t=>show Ó (Ķ2 h) (İ7 t)
abbrev KT ð:HA->XW->Prop:=Ņ λ p q=>ÅP
def KT.val Ø Vv (k:AG):oK (M8) ((N8).map Ł):=by
 induction r with
 | nil=>show HQ
 | @cons p q ps qs h t ih=>
  let#[h1,_,h2]:=h;ext F0
  .have e':q.1=k:=Ţ0;have b:Íe=↑q.2:=Ω7
   rw[Y2 e,b];show h2
  .have e':¬ q.1=k:=ś9;have b:ÝP:=Ω7
   rw[Y3 e,b];show ih
def KT.kW Ø Vv (k:AG) {y:V}Ż JA:
  KT H Çq (ŧ (putAt k u)):=by
 induction r with
 | nil=>show Ð
 | @cons p q ps qs h t ih=>
  ext Oe;exact Pq;let#[h1,h2,h3]:=h;unfold putAt;ext F0
  .rw[Ô e,Ô (Ţ0)];show#[h1,h2,ry]
  .rw[Df,Ç (ś9)];show ÛH
def KT.put Ø Vv (k:AG) τ{y:V}Ż(hb:ς9) JA:
  KT H (putK A3 y) (Β8 xs k b u):=by
 have e:HU=(N8).isSome:=by
  rw[Į0,(r.val k).Ņ0,zf7]
 unfold putK Β8;rw[e];by_cases q:(N8).isSome=true
 .rw[Ô q,Ô q];show r.kW k ry
 .rw[Ç q,Ç q];show Ϩ5 r #[rfl,hb,ry]
def KT.keeps Å6 Vv (ht:∀ b ys,H b=↑ Qq->H' b=↑ Qq):KT H' kvs xs:=
 RL r λ _ _ z=>Ìw
section
variable {Ĝ}{Ø}{ĝ}{â}
def ŀ5 {u:HO}vT (e:Rd H a u):xN AZ u:=e.ok ok
def Z9 ç8 vT (e:ű3):YE:=
 show xN AZ Hv from ŀ5 ok e
def Û3 ç8 vT (e:Oj):YE:=Z9 ok Vg
def Ŗ7 gZ vT (e:H a=↑(ä Áu)):(Ŝ2).is h ks a:=by
 let#[_,its,r,o,h1,h2,n,h3]:=(show xN AZ (ä Áu) from ok a _ e)
 show#[o,Ĵ,n,h1,h2,h3,by exists İ7 r]
def eA {kvs:HA}vT (e:ϱ8):ÄM:=by
 let#[z,y,xs,r,o,es,ep,h1,h2,h3,h4,h5]:=(show xN AZ Tn from ŀ5 ok e)
 exact#[z,y,xs,r,o,es,ep,h1,h2,h3,h4,Jv,h5];have all:∀ {l:HA}{m:XW},KT H l m->∀ x∈m,(Ŝ2).is h x.1 x.2.1:=by
  intro l m q
  induction q with
  | nil=>intro x hx;show nomatch hx
  | @cons p q ps qs hq t ih=>
   ext Ñq
   .subst e;show Ŗ7 ok (by rw[<- hq.1];show hq.2.1)
   .show ih x hx
 show all r x hx
def Ē0 {kvs:HA}vT (e:H a=↑ Tn):ÄM:=eA ok Vg
end
def ġ9 ð Ĥ (kvs:LA):Prop:=ű3\/∃ x,H a=↑(.dS x kvs)
def Ľ4 Ĝ Ø ĝ â ç8 vT (e:ġ9 H a kvs):YE:=by
 rcases e with e | ⟨x,e⟩
 .show Z9 ok e
 .show ok a _ e
def l9 ð Ĥ (y:V) (r:î V):Prop:=
 (∃ kvs k,ġ9 H a kvs/\y=kV k/\r=M8)\/∃ kvs k b,ϱ8/\R5/\ς9/\r=M8
def eY ð Ĥ (y v:V) (H':Hp):Prop:=
 (∃ kvs k,Oj/\y=kV k/\Zl/\H'=Ôg)\/
 ∃ kvs k b,H a=↑ Tn/\R5/\ς9/\Zl/\H'=upd H a (.dT (Ŝ6))
theorem l9.k Ø â ç8 v9(e:Oj):l9 H a (kV k) (M8):=Ä #[kvs,k,Ä Vg,rfl,rfl]
theorem eY.k Ø â ç8 v9 ř(e:Oj) (hl:Zl):eY H a (kV k) v (Ôg):=Ä #[kvs,k,e,rfl,hl,rfl]
section
variable {Æ}{ġ}{â}{y v:V}{u r:Ï}{YN}{ĸ}{ψ}
theorem Inv.big Õ:Ma<Ë:=by
 have h:HR<Ë:=(Èz).lt;show zdF () h
def Ð5 ē(hu:Fg) Õ (g:l9 H a y ↑v) JA (h:∀ w' s',Rv->RelV v w'->Q w' s'):
  Â GR (HI ě u) à:=by
 ext Κ2
 .ext Ο3;let#[w',hw,rw']:=ů8 (v:=v) (o:=vI vs k) Ûj;show ÙR Β9 NG hw (ÝQ)
 .ext Ξ3;let#[w',hw,rw']:=ů8 (v:=v) (o:=(N8).map Ł) Ûj;let#[p,hp,fU]:=ų hw;exact Õx Τ1 dd hp ?_;rw[fU];show ÝQ
def Á8 ē(hu:Fg) Õ Ϭ5 JA (h:∀ s',Rv->Q (ź (! Ż2)) s'):
  Â GR (ϒ J9 u ě) à:=by
 ext Κ2
 .ext Ο3;exact ÝR Β9 hd NG ?_;rw[<- (Ŧ0).Ņ0,<- l];show h _ Gu
 .ext Ξ3;exact wpAny_notIn_heap Τ1 hd dd ?_;have q:=(Ŧ0).Ņ0;rw[zf7] at q;rw[<- q,<- l];show h _ Gu
def ģ5 UQ DL{ob:HO}Õ (mu:eQ (H a)) (hs:Ta) (he:ÝS) (new:xN Ů (upd H a ob) h' a ob):
  Inv ú (upd H a ob) { s with heap:=h',toks:=t' }:=
 Mg ϥ4 mu Éj he new
def ü7 Ĝ Qh UQ ç8{vs:ßq}(z:Q6) (hd:Dn) (rel:YY) (dd:h'.DictOf (sI) a vs):
  xN P w H' h' a Hv:=#[z,hd,vs,rel,dd]
def ă5 Qh Jl(hu:Fg) Õ (g:eY H a y v H') JA (rv:RelV v r) (h:∀ s',JG->Ź6):
  Â GR (setItem ě u r) à:=by
 rcases g with ⟨kvs,k,e,ey,l,eH⟩ | ⟨kvs,k,b,e,ey,eb,l,eH⟩
 .subst ey eH;let#[z,hd,vs,rel,dd]:=Û3 Fs;have hz:ŀ<=Ý:=by rw[<- ϱ9];show z
  ext ÉD
  exact wpAny_setItem_pairs (hsz:=hz) Β9 ÓC;have he:ÝS:=let #[q,_,_,hq,_]:=dd';Ϻ4
  show ģ5 I ϙ7 hs he (ü7 hl hd (rel.put k rv) dd')
 .subst ey eH;cases Ýc;let#[z,hd,xs,rel,dd]:=Ē0 Fs;have hz:FA:=by rw[<- Al rel];show z
  ext ÉD
  exact Õy (hsz:=hz) Τ1 ÓC;let#[q,es,ep,hq,h2,h3,h4,_,h5]:=dd';exact ģ5 I ϙ7 hs Ϻ4 #[hl,hd,_,(rel.put k eb rv).keeps λ c ys ec=>?_,q,es,ep,hq,h2,h3,h4,h5];rw[yv (Ŀ9 ec e (λ z=>Xh))];show ec
end
section
variable {Æ}{ġ}{â}{ç8}{ĸ}{ψ}
theorem Õ0 ē Õ (e:ű3) (h:∀ t s',Rv->Q (Ê HK t) s'):Â GR (call Ű2 [õ]) à:=by
 let#[z,hd,vs,rel,dd]:=Z9 Fs;exact call_len_dict hd dd (by rw[<- ϱ9];rw[ū0] at z;lia) ?_;rw[<- ϱ9];show h À Gu
end
def Ŧ7 (i:Expr):Prop:=∀ ov iv,ū3 i Á ov iv=operate [ov,iv] (HI ov iv)
def ķ7 ś Fu{Ϩ Jz:Expr}Ć{T id:ū}ē
  (hl:ÆB) (hs:Ŧ7 Jz)
  (h:Â ã (eval Ϩ env) (λ o s₁=>Â ã (eval Jz env) (λ i s₂=>s₂.TypeIs o T/\Â ã (HI o i) Q E s₂) E s₁) E s):
  Â ã (eval (Gs Ϩ Jz pos) env) à:=by
 exact ϯ9 (zgC h (λ o s₁ h₁=>zgC h₁ (λ i s₂ h₂=>?_) ů1) ů1);let#[hT,h₂]:=h₂;unfold Ϛ7;exact Fz;rw[getitemInPython_of_ne hT.not_modules];exact zg3 (zgP hT hl ?_);have fin:Â ã (ū3 Jz Á o i) (λ r s₃=>Â ã (letTemporaryGo Ϩ o r >>= λ _=>pure r) Q E s₃) E s₂:=by
  rw[hs o i];show wpAny_operating (zgC h₂ (λ r s₃ h₃=>zg3 (wpAny_letTemporaryGo (zD1 h₃))) ů1)
 first
  | show ài
  | show zg3 (ài)
  | show zg3 fin
def ĉ9 Æ ġ â{y:V}YN Õ Ϭ5:ÝT:=by
 rcases g with ⟨kvs,k,e,_,_⟩ | ⟨kvs,k,b,e,_,_,_⟩
 .let#[_,_,vs,_,dd]:=Ľ4 Fs;show Ot
 .let#[_,_,xs,_,dd]:=eA Fs;show Ot
def ñ0 (td ty:TE):TE:=fun σ H Q=>td Û λ x H1=>ty Ħ λ y H2=>∃ a v,ż/\l9 H2 a y ↑v/\Q v H2
def ò6 (ty td:TE):TE:=fun σ H Q=>ty Û λ y H1=>td Ħ λ x H2=>∃ a o,ż/\l9 H2 a y o/\Q (.bl (! Ż2)) H2
def Ď2 (td ty tv:TE):TS:=λ D σ H=>tv Û λ v H1=>td Ħ λ x H2=>ty σ H2 λ y H3=>∃ a H4,ż/\eY H3 a y v H4/\D.nx σ H4
section
variable {Æ}{o i Ϩ:Expr}{pos pos':Pos}{td ty tv:TE}
def Ĳ8 ũ7 Ŗ6 Zr:PE X uV (ñ0 mU):=by
 ext Ãv;let#[y,H2,I2,ry,a,v,ex,g,q2]:=z0;ext sJ;show#[ĉ9 I2 g,Ð5 hu I2 g ry λ w' s3 I3 rw'=>#[v,H2,I3,rw',q2]]
def Ë7 ũ7 (hi:PE X i ty) Ϭ6:ň4 X J9 i o (ò6 ty td):=by
 ext Ŋ;exact zI (hi El) λ iv s1 z0=>?_;let#[y,H1,I1,ry,q1]:=z0;exact ÎL;let#[x,H2,I2,rx,a,ov,ex,g,q2]:=z0;ext sJ;show Á8 hu I2 g ry λ s3 I3=>#[.bl (!ov.isSome),H2,I3,rfl,q2]
def į5 ũ7 Ŗ6 Ès:
  PS X Ôh (Ď2 M1):=by
 ext ÂS;let#[y,H3,I3,ry,a,H4,ex,g,q3]:=z0;ext sJ;show ă5 hu I3 g ry rv λ s4 I4=>#[σ,H4,I4,q3]
end
def ü0 Ĝ Ø ĥ (hb:Ma<Ω):xN P w H (tX { cls:=T6,data:=Áa }) Ω lX:=
 #[Dr,qu (Ĭ (zB3 hb)),[],Ð,Heap.DictOf.new h]
def Ą0:TE:=λ _ H Q=>∀ p,IT->Q Đ (upd H p lX)
section
variable {Æ}{Ć}
def Ĩ3:PE ţ6 Ą0:=λ gV s σ H Q I h=>
 ÙS #[Ϭ,_,Ι (a:=Ë) (o:=.dK []) ÜM (ü0 í I.big),rfl,h NC]
end
structure M2 ê (o:Expr) (m:Str) (apos:Pos) (e f:Expr) (cpos:Pos):Prop where
 base:GW o m JC=ϳ
 cK:((Ïr).all AE&&Ae
  && æ (([e,f]:sv).length+R6+rp<30))=true
 line:Xo
 trees:Ïr=[RG,(Á,eval f Ö)]
def Ŏ5 ð Ĥ:Prop:=(∃ kvs,ű3)\/∃ kvs,ϱ8
def í1 Æ ġ â Õ (d:Ŏ5 H a):
  ÝT/\(∀ b,ŉ a=GS->∃ ob,Ň b=↑ob/\ob.dict=none)/\Dn:=by
 rcases d with ⟨kvs,e⟩ | ⟨kvs,e⟩
 .let#[_,hd,vs,_,dd]:=Z9 Fs;ext Åz
 .let#[_,hd,xs,_,dd]:=eA Fs;ext Åz
section
variable {Æ}{ġ}{â}{y d:V}{u r:Ï}{YN}{ĸ}{ψ}
def Þ5 ē(hu:Fg) Õ Ϭ5 JA (rd:RelV d r) (h:∀ w' s',Rv->RelV (o.getD d) w'->Q w' s'):
  Â GR (call (Ű "dict.get") [õ,u,r]) à:=by
 ext Κ2
 .ext Ο3;exact call_meetsIn Äg (meets_dict_get_default ſ8 a Β9 hd r) #[_,NG,h À Gu ?_];rw[l];show àj
 .ext Ξ3;exact call_meetsIn Äg (meetsH_dict_get_default (Ϻ5 ſ8) a b hd r) #[Òc,k,xs,Ŗ7 I.zJ eb,dd,h À Gu ?_];rw[l];show àj
end
def Ú4 (td ty tx:TE):TE:=fun σ H Q=>td Û λ x H1=>∃ a,ż/\Ŏ5 H1 a/\ty Ħ λ y H2=>tx σ H2 λ z H3=>∃ o,l9 H3 a y o/\Q (o.getD z) H3
section
variable {Æ}{o e f:Expr}{yU}{td ty tx:TE}
def Í9 ũ7 Ϭ6 (he:PE X e ty) (hf:PE X f tx) (m:ÍX):PE X ÉS (Ú4 mU tx):=by
 ext Ŋ;exact wpAny_Call_method m.base m.cK m.line PySem.F.plainAttrs_dict Òd PySem.F.type_dict_get (zI N2 De);let#[x,H1,I1,rx,a,ex,d,q1]:=z0;ext sJ;let#[t1,t2,_]:=í1 I1 d;exact#[t1,t2,?_];rw[m.trees];exact kP rfl (ÄD (Xf (zI (he vP) λ iv s2 #[y,H2,I2,ry,q2]=>
  Xf (zI (hf ϵ1) λ Ņ2 s3 #[z,H3,I3,rz,ov,g,q3]=>ξ2 ?_))))
 show Þ5 hu I3 g ry rz λ w' s4 I4 rw'=>#[_,H3,I4,rw',q3]
end
end L2
namespace L3
open É Ü L2
open Î hiding St
def vo VH Ks:î D:=υ6
def putD VH Ks (v:D):Rn:=
 Κ0
section
variable {Ù}{Ø}
def xW.val:∀ XG,JF->∀ k,(vo A3=none/\ou vs k=none)\/∃ d v,vo A3=↑d/\ou vs k=↑v/\ā6:=by
 intro kvs vs z k;unfold xW at z
 induction z with
 | nil=>show Ä Fp
 | @cons x y _ _ q t ih=>
  let#[a,d]:=x;let#[b,v]:=y;let#[e,r]:=q;have e':a=b:=e;subst e';by_cases h:a=k
  .subst h;show Ã #[d,v,by simp[vo],by simp[ou],r]
  .rcases ih with ⟨h1,h2⟩ | ⟨d',v',h1,h2,h3⟩
   .show Ä #[Ðd,ÐB]
   .show Ã #[d',v',Ðd,ÐB,h3]
theorem xW.any X_ Ks:HU=Ϻ3:=by
 induction h with
 | nil=>rfl
 | cons r _ ih=>rw[zd8,zd8,ih,r.1]
def xW.len X_:HK=ŀ:=Al h
def xW.kW v9 ì ř QS:∀ XG,JF->xW Å (Vh Τ3) (vs.map ÉT):=by
 intro kvs vs z;unfold xW at z
 induction z with
 | nil=>show Ð
 | @cons x y _ _ q t ih=>
  let#[a1,a2]:=x;let#[b1,b2]:=y;let#[e,q]:=q;have e':a1=b1:=e;subst e';exact Pq;by_cases hk:a1=k
  .simp[hk,r]
  .simpa [hk] using q
theorem xW.snoc v9 ì ř QS:∀ XG,JF->xW Å Ϣ6 (vs++[aD])
 | _,_,Ð=>Ó #[rfl,r] Ð
 | _,_,Ó q t=>Ó q (xW.snoc r t)
def xW.put X_ Ks ì ř QS:xW Å (putD A3 d) (putK vs k v):=by
 unfold putD putK;rw[h.any k];split
 .show xW.kW r h
 .show xW.snoc r h
def Ē8 (a:Key) (b:D) VH (j:Key):vo (Ũ7) j=if a=j then ↑b else vo kvs j:=by
 by_cases h:a=j <;> simp[vo,h]
end
section
variable {Æ}{o i e f v:Expr}{td ty tx tv:zy}{pos pos' apos cpos:Pos}
def ĳ5:zy:=λ _ S Q=>∀ p,Iv->Q Đ (ups S p (.xk []))
theorem ć5:PD ţ6 ĳ5:=by
 exact#[ÉI,Ğ Ĩ3 Òe];ext ħ;show ÅH
def ĝ4 (td ty:zy):zy:=fun Y S Q=>td Y S λ x S1=>ty Ĕ λ y S2=>∃ p kvs k d,FQ/\Ln/\S2 p=↑ AI/\vo qC=↑d/\Q d S2
def Ę7 ϴ PK Zr:PD X uV (ĝ4 mU):=by
 exact#[fun Y S Q Q' hq z=>ϋ é (λ x S1 z=>Ϫ Ō (λ y S2 #[p,kvs,k,d,a,b,c,e,h]=>#[p,kvs,k,d,a,b,c,e,ō]) z) z,Ğ (Ĳ8 UA Ny hs) Ľ];ext ÒC;let#[p,kvs,k,d,rfl,rfl,c1,c2,h]:=h2;simp![zj] at q1 q2;subst q1 q2;let#[vs,g1,g2]:=p2 À c1;rcases àk with ⟨n1,_⟩ | ⟨d',v',n1,n2,n3⟩
 .rw[c2] at n1;cases n1
 .rw[c2] at n1;cases n1;show#[p,v',rfl,n2▸l9.k ϥ5,h v' H2 n3 TF]
def ń7 (td ty tx:zy):zy:=fun Y S Q=>td Y S λ x S1=>∃ p,FQ/\(∃ kvs,S1 p=↑ AI)/\ty Ĕ λ y S2=>tx Y S2 λ z S3=>∃ k kvs,Ln/\S3 p=↑ AI/\Q ((vo qC).getD z) S3
def Ä9 ϴ (ho:PD X o td) (he:PD X e ty) (hf:PD X f tx) (m:ÍX):PD X ÉS (ń7 mU tx):=by
 exact#[fun Y S Q Q' hq z=>ϋ é (λ x S1 #[p,a,b,z]=>#[p,a,b,Ν Ō (λ y S2 z=>hf.mo Y Gz (λ w S3 #[k,kvs,a,b,h]=>#[k,kvs,a,b,ō]) z) z]) z,Ğ (Í9 UA Ek LM hf.pe m) Ľ];ext ħ;exact ÃZ;let#[p,rfl,#[kvs0,c0],h1]:=h1;ext F4;let#[vs0,g0,_]:=p1 À c0;exact#[p,rfl,Ä #[vs0,Ä g0],?_];exact ď Ν Äs;exact ď hf.mo (YD) p2 h2 λ y3 S3 w3 H3 h3 q3 e3 p3=>?_;let#[k,kvs,rfl,c1,h]:=h3;ext ŷ7;subst q2;let#[vs,g1,g2]:=Ż5;exact#[ou vs K6,l9.k ϥ5,?_];rcases àk with ⟨n1,n2⟩ | ⟨d',v',n1,n2,n3⟩
 .rw[n1] at h;rw[n2];show h _ H3 q3 RK p3
 .rw[n1] at h;rw[n2];show h _ H3 n3 RK p3
def ł1 ϵ8:xl:=λ E Y S=>tv Y S λ v S1=>td Ĕ λ x S2=>ty Y S2 λ y S3=>∃ p kvs k,FQ/\Ln/\S3 p=↑ AI/\Zl/\E.nx Y (ups S3 p (.xk (putD qC v)))
theorem Ext.dK Ø ŵ ç8(h:Ű3) (o:HO):Rm:=
 Yy
theorem ĉ8 ϴ PK Éw:zu ό2 (ł1 M1):=by
 exact#[λ E E' Y S hE z=>hv.mo é (λ w S1 z=>ϋ Ō (λ x S2 z=>Ϫ Y Gz (λ y S3 #[p,kvs,k,a,b,c,d,h]=>#[p,kvs,k,a,b,c,d,Ák]) z) z) z,qc (į5 UA Ny hv.pe hs) HG];ext Θ0;let#[p,kvs,k,rfl,rfl,c1,c2,h]:=h3;ext ϭ7;subst q2 q3;let#[vs,g1,g2]:=Ż5;have e4:Ext H3 (upd H3 p (.dK (putK vs K6 w1))):=.dK g1 _;exact#[p,_,rfl,eY.k ϥ5 (by rw[<- g2.len];show c2),?_];show h Λ2 (p3.ups e4 #[_,yF,(xW.put g2 _ Ïs).ext e4])
def zar:xH X Ű2 (λ xs H Q=>∃ p kvs,υ/\Ű3/\Q Áv H):=by
 ext A1;let#[p,kvs,rfl,e,q]:=h;ext UR;show Õ0 I Vg λ t s' I'=>#[sX,H,I',ϓ,q]
def İ5:xC:=λ ds S Q=>∃ p kvs,ds=[Č]/\S p=↑ AI/\Q Áv S
def Ē1 ĩ Ū VM(hm:ÛG) Ϲ (hg:Gl X "len") tV:PD X ÑZ (vj İ5 tA):=
 m5 (lE zar ÔL) (λ _ _ _ _ hq ÐZ=>#[p,kvs,a,b,ō]) (λ xs ds H S Q h0 h2 ÐZ=>by
  subst a;let#[x,rfl,h1]:=h0.one;ext ŷ8;let#[vs,g1,g2]:=h2 À b;exact#[p,vs,rfl,g1,?_];rw[<- g2.len];show uP) ă
end
end L3
namespace L3
open É L2
section
variable {uO}
mutual
theorem Dh Pd:∀ (t:T) ì,ÝU
 | .zx,d,q=>qv
 | Ŭ,d,q=>qv
 | ñ,d,q=>qv
 | Ť,d,q=>qv
 | ĺ,d,q=>by
  ext ν3;show#[ds,q1,Ļ h ts q2]
 | ŷ,d,q=>by
  ext ν3;exact#[ds,?_,Ļ h ts q2];rcases q1 with q1 | ⟨a,q1,q3⟩
  .show Ä q1
  .show Ã #[a,q1,h À q3]
 | LX,d,q=>by
  ext ϭ9;let#[a,ep,q1,q2]:=q;show#[a,ep,q1,Γ2]
 | rL,d,q=>by
  ext ϭ9;let#[a,m,q1,q2,q3]:=q;show#[a,m,q1,Γ2,Ļ h ts q3]
theorem Ļ Pd:∀ qH è,àl
 | [],ds,q=>ÑH
 | ŗ,ds,q=>by
  ext Ég;show#[c,cs,q1,Dh h t q2,Ļ h ts q3]
end
def r9:zp S qJ:=by simp![zp]
def MQ tR Ą ì è(h:Ϣ) (h':ŝ):zp S (ŗ) (Bb):=by
 simp![zp];show#[d,ds,rfl,h,h']
theorem zp.append:∀ Ž9 Ŷ8,ŝ->ϱ6->zp S SW B_
 | [],us,ds,es,h,h'=>by ext YG;exists h'
 | ŗ,us,ds,es,h,h'=>by
  ext Fc;show MQ h1 (zp.append h2 h')
theorem zp.Zs:∀ Ą è ý tR,ŝ->ts[i]?=↑t->∃ d,nH/\Ϣ
 | [],_,i,t,_,e=>Ϸ4
 | u::ts,ds,i,t,h,e=>by
  ext Fc;cases i with
  | zero=>ext RZ;show ϓ1
  | succ i=>
   let#[y,e1,e2]:=zp.Zs (i:=i) h2 Du;show Ω3
theorem zp.Ř2:∀ Ą è ý ì,ŝ->nH->∃ t,ts[i]?=↑t/\Ϣ
 | [],ds,i,t,h,e=>by ext YG;simp at e
 | u::ts,ds,i,t,h,e=>by
  ext Fc;cases i with
  | zero=>ext RZ;show#[u,rfl,h1]
  | succ i=>
   let#[y,e1,e2]:=zp.Ř2 (i:=i) h2 Du;show Ω3
def zp.len Ą è JE:ϕ=ő:=(L3.zp.length h).symm
theorem zp.at Ą è G7 tR JE (e:LK ts i=↑t):∃ d,Ω4/\Ϣ:=by
 unfold LK at e ⊢;rw[MW];cases q:L2.px ő i with
 | none=>ext OK
 | some j=>
  rw[q] at e;show h.Zs e
theorem zp.ĝ7:∀ Ą è tR ì Í,ŝ->Ϣ->zp S (ts.set i t) (ds.set i d)
 | [],ds,t,d,i,h,_=>bV
 | u::ts,ds,t,d,0,h,hd=>by
  ext Fc;show MQ hd h2
 | u::ts,ds,t,d,i+1,h,hd=>by
  ext Fc;show MQ h1 (zp.ĝ7 i h2 hd)
theorem Áw:∀ Ą è Ď,ŝ->zp S (ts.take n) (ds.take n)
 | ts,ds,0,h=>by exists r9
 | [],ds,n+1,h=>bV
 | ŗ,ds,n+1,h=>by
  ext Fc;show MQ h1 (Áw n h2)
theorem Áx:∀ Ą è Ď,ŝ->zp S (vM n) (ds.drop n)
 | ts,ds,0,h=>h
 | [],ds,n+1,h=>bV
 | ŗ,ds,n+1,h=>by
  ext Fc;show Áx n h2
def zp.empty Ą è JE:ϰ8=ϲ0:=by
 have:=MW;cases ds <;> cases ts <;> simp_all
theorem zp.Ĭ3:∀ {bs:TC}è,zp S (Áy) ds->ds=df D.bl
 | [],ds,h=>ÌI
 | b::bs,ds,h=>by
  ext Õb;let#[c,cs,rfl,rfl,h3]:=h;rw[zp.Ĭ3 h3];rfl
end
end L3
local macro_rules|`(tactic|cases $e:ident)=>`(tactic|first|(injection $e:ident with z;subst z)|cases ($e))
namespace L5
open É L2 L3
def yo Λ rK:SS:=open Ϻ2 in λ a=>if Z a then none else S a
section
variable {uO}{Z Z':IM}{a p:Addr}
def o9 (h:¬ Z a):Ż6=S a:=Ç h
def ņ1 (h:Z a):Ż6=none:=Ô h
def p_ â5(h:Ż6=↑o):¬ Z a/\Ád:=by
 by_cases z:Z a
 .rw[ņ1 z] at h;cases h
 .rw[o9 z] at h;show#[z,h]
def ŋ8 Λ rK:Sx ϟ S:=λ _ _ h=>(p_ h).2
def oA Pd:Sx ϟ ŵ5:=λ b o q=>by
 ext BN;rw[o9 q1];show Γ2
def nI (h:ÝV):Sx ϟ (yo S Z'):=λ b o q=>by
 ext BN;rw[o9 (λ z=>q1 (h _ z))];show q2
def Ņ3 Pd (hp:Iv):Sx ϟ VS:=λ b o q=>by
 ext BN;rw[o9]
 .show Γ2
 .rintro (z | z)
  .show q1 z
  .subst z;rw[hp] at q2;cases q2
theorem ç7 â5(h:Z p):yo Ϩ0 Z=yo S Z:=by
 funext b;by_cases z:Z b
 .rw[ņ1 z,ņ1 z]
 .rw[o9 z,o9 z,kf (λ e=>z (by rw[e];show h))]
end
inductive C where
 | lst qH | xk Ζ2 | zL (ks:AG) qH | xm (l:Ac)
def xD Pc Λ:List (κ × T)->List (κ × D)->Prop
 | [],l=>l=[]
 | ϲ1,l=>∃ d m,l=N3::m/\Ϣ/\xD S r m
theorem MF Pc uO Pd:∀ {a:List (κ × T)}{b:List (κ × D)},qt->xD S' a b
 | [],_,q=>q
 | ϲ1,_,q=>by
  let#[d,m,q1,q2,q3]:=q;show#[d,m,q1,Dh h t q2,MF h q3]
def lW Λ:C->O->Prop
 | ŷ,KQ=>ŝ
 | .xk a,.xk b=>qt
 | rL,.zL m=>yi/\ź9
 | .xm a,.xm _ b=>a=b
 | _,_=>Þ
theorem lW.sx uO Pd:∀ {c:C}â5,lW S c o->lW S' c o
 | ŷ,KQ,q=>Ļ h ts q
 | .xk a,.xk b,q=>MF h q
 | .zL _ ts,.zL _,q=>#[q.1,Ļ h ts q.2]
 | .xm _,.xm À,q=>q
inductive W where
 | im (t:T) | own (c:C)
abbrev Ev:=List (î W)
abbrev zEO:=Ev->fC
abbrev zLO:=Ĉ->fC
structure ER Λ rK (Y:yZ) K8:Prop where
 zd:ME
 im:∀ Í t,ŕ=↑↑(.im t)->∃ d,Ϛ9/\Sn ϟ t d
 ow:∀ Í c,ŕ=↑↑(Ř c)->∃ p o,BA/\S p=↑o/\lW ϟ c o/\Z p
def Vw Λ rK (y:T) HL:Prop:=QK\/(∃ ts p ds,y=ŷ/\d=Č/\RJ/\uw/\Z p)\/∃ ks ts p m,y=rL/\d=Č/\RE/\yi/\Ϻ6/\Z p
abbrev Rk:=SS->SS->(IM)->T->D->Prop
def ŀ8:Rk:=λ _ S' Z y d=>Vw Ws
def zq:Rk:=λ _ S' Z y d=>Š1
def zm:Rk:=λ S S' Z y d=>Š1/\∀ ts,y=ŷ->∃ p ds,d=Č/\Iv/\S' p=↑ ET/\zp VS uY
class Cl á2:Prop where
 cl:∀ {S S1 S':SS}KZ ì,Sx S S1->R S1 Ws->mi
 of:∀ uO KZ ì,(àm)->Š1->mi
instance:Cl ŀ8:=#[Ż7,λ _ h=>Ä h]
instance:Cl zq:=#[Ż7,Ż7]
instance:Cl zm:=#[λ s h=>#[h.1,λ ts e=>by
 let#[p,ds,h1,h2,h3]:=h.2 ts e;show#[p,ds,h1,R_ h2,h3]],λ n h=>#[h,λ ts e=>ò e (n ts)]]
section
variable {uO}{qd}{y:T}{ì}
def ER.grow (h:B2) RA:ER S' Z Y J:=
 #[λ a z q=>h.zd Ϟ7,λ i t e=>by
  ext Öf;show#[d,h1,Dh NZ t h2],λ i ts e=>by
  let#[p,ds,h1,h2,h3,h4]:=h.ow i ts e;show#[p,ds,h1,s Jr,lW.sx NZ h3,h4]]
def Γ3 (h:Xx) RA:Vw Ws:=by
 rcases h with h | ⟨ts,p,ds,h1,h2,h3,h4,h5⟩ | ⟨ks,ts,p,m,h1,h2,h3,h4,h5,h6⟩
 .show Ä (Dh NZ y h)
 .show Ã (Ä #[ts,p,ds,h1,h2,s À h3,Ļ NZ ts h4,h5])
 .show Ã (Ã #[ks,ts,p,m,h1,h2,s À h3,h4,Ļ NZ ts h5,h6])
def Vw.sn (h:Xx):Sn S y d:=by
 rcases h with h | ⟨ts,p,ds,rfl,rfl,h3,h4,_⟩ | ⟨ks,ts,p,m,rfl,rfl,h3,h4,h5,_⟩
 .show Dh Ż8 y h
 .ext vL;show#[ds,Ã #[p,rfl,h3],Ļ Ż8 ts h4]
 .ext vL;show#[p,m,#[rfl,h4],h3,Ļ Ż8 ts h5]
theorem Vw.zx (h:Vw S Z .zx d):d=.zx:=by
 ext Qs
 ext nV
 .cases h
 .cases h
theorem Vw.bl tp(h:Vw S Z Nc d):d=Ŭ:=by
 ext Qs
 ext nV
 .cases h
 .cases h
theorem Vw.int {b:Int}(h:Vw S Z (Ê b) d):d=Ê b:=by
 ext Qs
 ext nV
 .cases h
 .cases h
theorem Vw.str {b:Str}(h:Vw S Z (Ì b) d):d=Ì b:=by
 ext Qs
 ext nV
 .cases h
 .cases h
theorem My Ą(h:Vw S Z (ĺ) d):∃ ds,d=ϩ/\uw:=by
 ext Qs
 ext nV
 .cases h
 .cases h
theorem Vw.lst Ą(h:Vw S Z A9 d):∃ ds,(d=sj\/Òb)/\uw:=by
 rcases h with h | ⟨us,p,ds,h1,h2,h3,h4,_⟩ | ⟨_,_,_,_,h,_⟩
 .ext τ5;exact#[ds,?_,h2];rcases h1 with h1 | ⟨a,h1,h3⟩
  .show Ä h1.1
  .show Ã #[a,h1,Ϻ7]
 .cases h1;show#[ds,Ã #[p,h2,h3],h4]
 .cases h
def qY:T->î (Ĉ)
 | ĺ=>↑ts
 | ŷ=>↑ts
 | _=>none
@[simp] theorem ċ0 qH:qY (ĺ)=↑ts:=rfl
@[simp] theorem ĕ3 qH:qY A9=↑ts:=rfl
def Vw.seq Ą(h:Xx) (e:ϲ2):∃ ds,WB/\uw:=by
 cases y with
 | tup us=>cases e;let#[ds,rfl,h2]:=h.tup;show Š2
 | lst us=>
  cases e;obtain⟨ds,h1 | ⟨a,rfl,h1⟩,h2⟩:=h.lst
  .subst h1;show Š2
  .show Èa
 | _=>cases e
theorem Vw.dn {l:Ac}(h:Vw S Z Γ4 d):∃ a ep,d=õ/\Ż6=↑ bA:=by
 ext Qs
 .ext Hf;show h
 .cases h
 .cases h
theorem Vw.zL gZ Ą(h:Vw S Z (rL) d):∃ a m,(d=õ/\yi)/\ÝO/\Ϻ6:=by
 rcases h with h | ⟨_,_,_,h,_⟩ | ⟨ks',ts',p,m,e,rfl,h1,h2,h3,_⟩
 .ext Hf;let#[a,m,h1,h2,h3]:=h;show#[a,m,h1,Ϻ8,h3]
 .cases h
 .cases (e);show#[p,m,Ϩ6,h1,h3]
def Ĕ8:Sn S .zx .zx:=Vb
def Ĵ2 tp:Sn S Nc Nc:=Vb
def ŏ8 G7:Sn S Lk Lk:=Vb
def mW ô:Sn S GN GN:=Vb
def mV Ą è JE:Sn S (ĺ) (ϩ):=by ext vL;show#[ds,rfl,h]
def lC Ą è ŵ(hz:ME) (hp:Iv) (h:uw):zm S ϊ6 Z A9 Đ:=by
 have nz:¬ Z p:=λ z=>hz p z hp;have s:Sx S ϊ6:=Mz;exact Õz
 .ext vL;show#[ds,Ã #[p,rfl,by rw[o9 nz,mT]],Ļ NZ ts h]
 .cases e;show#[p,ds,rfl,hp,mT,Ļ ŵ6 ts h]
end
def zS á2 Ŏ Ki:Prop:=∀ S Z Y J y Q,B2->f J=↑y->(Ït)->t Kc
abbrev qU:=zS zq
abbrev yK:=zS ŀ8
abbrev xY:=zS zm
def zS.imp {R R':Rk}Lm LC(h:zS R f t) (i:∀ S S' Z y d,mi->R' S Ws):zS R' f t:=λ S Z Y J y Q hE e hq=>h ň y Q hE e λ d S' s r=>hq N4 s (i À Ú r)
def zS.er Lm LC(h:qU f t):yK f t:=h.imp λ _ _ _ _ _ r=>Ä r
def zS.ĺ6 Lm LC(h:xY f t):qU f t:=h.imp λ _ _ _ _ _ r=>r.1
def zS.fr Lm LC(h:xY f t):yK f t:=h.ĺ6.er
@[simp] def zr Í:zEO:=fun J=>match ŕ with
 | ÜA=>↑t
 | _=>none
@[simp] def zb Í:zEO:=fun J=>match ŕ with
 | ÜA=>↑t
 | sL=>↑ A9
 | Ôi=>↑(rL)
 | _=>none
@[simp] def cS (t:T):zEO:=λ _=>↑t
@[simp] abbrev cI Q4:zEO:=cS Lk
def Û8 Í:qU (zr i) LH:=λ S Z Y J y Q hE e hq=>by
 unfold zr at e;ext ó
 .ext ÑG;show hq d Ex h2
 .cases e
def ø8 Í:yK (zb i) LH:=λ S Z Y J y Q hE e hq=>by
 unfold zb at e;ext ó
 .ext ÑG;show hq d Ex (Ä h2)
 .rename_i ts h;ext ÇX;cases o with
  | lst ds=>show hq BX (Ã (Ä #[ts,p,ds,rfl,rfl,h2,h3,h4]))
  | _=>show tm
 .rename_i ks ts h;ext ÇX;cases o with
  | zL m=>show hq BX (Ã (Ã #[ks,ts,p,m,rfl,rfl,h2,h3.1,h3.2,h4]))
  | _=>show tm
 .cases e
def Ē2 Q4:xY (cS Lk) (dC Lk):=λ S Z Y J y Q hE e hq=>by cases e;show Ea
def ô4 (i:Bool):xY (cS (.bl i)) (dC (.bl i)):=λ S Z Y J y Q hE e hq=>by cases e;show yR
def û1 (i:Str):xY (cS (Ì i)) (dC (Ì i)):=λ S Z Y J y Q hE e hq=>by cases e;show Ŝ0
def ą4:xY Ϻ (dC .zx):=λ S Z Y J y Q hE e hq=>by cases e;show hq BX (Ϻ9)
@[simp] def zc (f:ŋ) (fa fb:zEO):zEO:=fun J=>(fa J).bind λ x=>(fb J).bind λ y=>f x y
def ϭ á2 (f:ŋ) (g:xJ):Prop:=∀ S Z x y z d e Q,(ME)->Vw S Z x d->Vw S Z y e->f x y=↑z->ÉJ->g d e S Q
def yc ğ [Cl R] {f:ŋ}{g:xJ}Âx ID(hg:ϭ R f g) ã3:zS R (zc f DC) (yJ g Ă):=λ S Z Y J y Q hE e hq=>by
 ext Ìp;exact ha tT;exact hb É0 z Ds Ş2;show hg S2 Z x z y d d2 Q (Py) (Ŧ1) r2 e ÒY
@[simp] def i2 (g:Ϩ7):ŋ
 | ñ,AM=>↑ Iz
 | _,_=>none
instance zi1 Ε5:SX (nB i j):=by unfold nB;ext Uv
instance zi2 Ε5:SX (pS i j):=by unfold pS;ext Uv
instance zi3 Ε5:SX (iH i j):=by unfold iH;ext Uv
@[simp] def fR (C:IP) [ÕA] (g:Ϩ7):ŋ
 | ñ,AM=>if C i j then ↑ Iz else none
 | _,_=>none
def ğ7 ÃO:ϭ zm (i2 g) (zH g'):=λ S Z x y z d e Q hz hx hy ef hq=>by
 unfold i2 at ef;ext Ξ
 .ext Sd;show Íf
 ext ϰ
def ć8 {C:IP} [ÕA] ÃO:ϭ zm (fR C g) (fI C g'):=λ S Z x y z d e Q hz hx hy ef hq=>by
 unfold fR at ef;ext Ξ
 .ext Ξ
  .rename_i hh;ext Sd;show#[hh,Íf]
  ext ϰ
 ext ϰ
@[simp] def qX:ŋ:=i2 υ2
@[simp] def xR:ŋ:=fR Ξ8
@[simp] def vi:ŋ:=fR ν6
@[simp] def dG:ŋ:=fR Τ6
@[simp] def ů7:ŋ:=fR Λ6
@[simp] def Ŕ2:ŋ:=i2 Ν7
@[simp] def mB:ŋ:=i2 Zq
@[simp] def ő2:ŋ:=i2 WT
@[simp] def fZ:ŋ:=i2 aM
section
variable {Âx}{ID}
def ā7 ã3:xY (zc qX DC) ÖR:=ÛI
def ï3 ã3:xY (zc xR DC) ÖS:=Ş3
def Ñ4 ã3:xY (zc vi DC) ÖT:=Ş3
def ì0 ã3:xY (zc dG DC) ÖU:=Ş3
def ď9 ã3:xY (zc ů7 DC) ÖV:=Ş3
def ð7 ã3:xY (zc Ŕ2 DC) ÖW:=ÛI
end
def yb Ho:ŋ:=λ x y=>if dep x<=60/\dep y<=60 then ↑(.bl (cond neg (!eqT x y) (eqT x y))) else none
def wO Ho:ŋ:=λ x y=>match qY y with
 | some ts=>if dep x<=60/\MR<=60 then ↑(.bl (cond neg (! Òf) Òf)) else none
 | none=>none
def Å3 Gx:ϭ zm (yb neg) Ás:=λ S Z x y z d e Q hz hx hy ef hq=>by
 unfold yb at ef;ext Ξ
 .ext Ob;show#[x,y,hx.sn,hy.sn,h.1,h.2,yR]
 ext ϰ
def ŋ7 Gx:ϭ zm (wO neg) Át:=λ S Z x y z d e Q hz hx hy ef hq=>by
 unfold wO at ef;ext Ξ
 .rename_i ts ht;ext Ξ
  .ext Ob;let#[ds,h1,h2]:=hy.seq ht;show#[x,ts,ds,hx.sn,h1,Ļ Ż8 ts h2,h.1,h.2,yR]
  ext ϰ
 ext ϰ
@[simp] def zi:ŋ:=λ x y=>match x,y with
 | Ì z,ñ=>if Kb then (LK Ϟ1).map λ c=>U3 else none
 | x,y=>match qY x,y with
  | some ts,ñ=>LK ts i
  | _,_=>none
def Ó1:ϭ zq zi oG:=λ S Z x y z d e Q hz hx hy ef hq=>by
 unfold zi at ef;ext Ξ
 .ext Ξ
  .rename_i h0;let#[c,h1,rfl]:=ų ef;cases hx.str;cases Nd;ext ŷ6;rw[h1];show#[h0,hq BX mW]
  ext ϰ
 ext Ξ
 .rename_i ts i ht _;cases Nd;let#[ds,h1,h2]:=hx.seq ht;let#[c,h3,h4]:=h2.at ef;unfold yA at h1;split at h1
  .cases h1;show Ò1 Ϙ7
  .cases h1;show Ç9 Ϙ7
  .split at h1
   .rename_i q;cases h1;show ď2 q Ϙ7
   .cases h1
  .cases h1
 ext ϰ
@[simp] def ye:ŋ
 | ñ,AM=>↑(Ź9)
 | Ì i,Ì j=>if υ7 then ↑(W0) else none
 | ŷ,Ñ us=>if ϲ3 then ↑(Ñ SW) else none
 | ĺ,ä us=>if ϲ3 then ↑(ä SW) else none
 | _,_=>none
def lx:xJ:=λ x y S Q=>match x,y with
 | ñ,AM=>Q (Ź9) S
 | Ì i,Ì j=>υ7/\Q (W0) S
 | ϩ,ä es=>i7/\Q (ä B_) S
 | .zx,_=>Þ
 | L_,_=>Þ
 | sX,_=>Þ
 | sP,_=>Þ
 | ä _,_=>Þ
 | x,y=>match yA x S,yA y S with
  | Β3,↑es=>(∀ ts,y≠ ĺ)/\ο9
  | _,_=>Þ
def good_add:ϭ zm ye lx:=λ S Z x y z d e Q hz hx hy ef hq=>by
 unfold ye at ef;ext Ξ
 .ext Sd;show Ea
 .ext Ξ
  .ext Ob;cases hx.str;cases hy.str;show#[h,Ŝ0]
  ext ϰ
 .ext Ξ
  .ext Ob;let#[ds,h1,h2]:=hx.seq rfl;let#[es,h3,h4]:=hy.seq rfl;have nt:Ϝ2:=by
    obtain⟨_,q | ⟨_,q,_⟩,_⟩:=hy.lst <;> subst q <;> show Áz
   have key:(Ϝ2)/\ο9:=
    #[nt,ÓK,λ r hr=>hq À (Rh hr _) (lC hz hr ÝW)]
   obtain⟨_,q | ⟨a,q,_⟩,_⟩:=hx.lst
   ext Îw
   ext Îw
  ext ϰ
 .ext Ξ
  .ext Ob;ext Çt;show#[ÓK,hq BX (BG Hl (mV ÝW))]
  ext ϰ
 ext ϰ
def pQ (f:ϐ) rN:Prop:=∀ S Z Y J y Q,B2->f J=↑y->Ôj->t Kc
@[simp] def zV Ŏ:ϐ:=fun J=>Ī λ x=>match x with
 | Ŭ=>↑b
 | _=>none
@[simp] def ň6:T->î Bool
 | .zx=>↑ Á
 | Ŭ=>↑b
 | ñ=>↑(i != 0)
 | Ť=>if Β1 then ↑ ÝG else none
 | ĺ=>↑(! ϲ0)
 | ŷ=>↑(! ϲ0)
 | O6=>none
 | LX=>none
@[simp] def xq Ŏ:ϐ:=fun J=>Ī ň6
@[simp] def ij (f g:ϐ):ϐ:=fun J=>Ī λ b=>if Vo then g J else ↑ Á
@[simp] def wQ (f g:ϐ):ϐ:=fun J=>Ī λ b=>if Vo then ↑true else g J
@[simp] def wD (f:ϐ):ϐ:=fun J=>ŵ7 (!·)
section
variable {f g:zEO}{t u:zy}{fb gb:ϐ}{tb ub:xn}{ğ}
def ĉ0 Od:pQ (zV f) (oj t):=λ S Z Y J y Q hE e hq=>by
 ext Gw
 .cases e2;cases O4;show FE
 ext ĳ
def á6 Od:pQ (xq f) (Ř0 t):=λ S Z Y J y Q hE e hq=>by
 ext Xu;exact h tT;cases x with
 | zx=>cases Vw.zx r1;ext UT
 | bl b=>cases O4;ext UT
 | int b=>cases Tq;ext UT
 | str b=>
  cases Qg;simp![ň6] at e2;ext Ő
  .rename_i hh;cases e2;show#[hh,FE]
  ext ĳ
 | tup ts=>
  ext ÚK;ext Ñz;show FE
 | lst ts=>
  ext Μ5
  .ext Ñz;show FE
  .cases e2;exact ċ9 h1 ?_;rw[h2.empty];show FE
 | _=>cases e2
def Ċ7 ÓD:pQ (ij fb gb) (cT tb ub):=λ S Z Y J y Q hE e hq=>by
 ext ÆN
 .ext PU;show ÌJ
 .ext Ut;ext UT
def Ĕ1 ÓD:pQ (wQ fb gb) (cQ tb ub):=λ S Z Y J y Q hE e hq=>by
 ext ÆN
 .ext PU;ext UT
 .ext Ut;show ÌJ
def æ7 (h:ÁA):pQ (wD fb) (cR tb):=λ S Z Y J y Q hE e hq=>by
 unfold wD at e;let#[b,e1,rfl]:=E_;show h ň b Hu λ S1 s1=>FE
@[simp] def vm Ζ3:zEO:=fun J=>Ī λ x=>match x with
 | Gj=>if Hr then g J else ↑ LN
 | _=>none
@[simp] def aU Ζ3:zEO:=fun J=>Ī λ x=>match x with
 | Gj=>if Hr then ↑(qe) else g J
 | _=>none
@[simp] def Ĥ1 Ŏ:zEO:=fun J=>Ī λ x=>match x with
 | Gj=>↑(.bl (!k))
 | _=>none
@[simp] def kz Tz Ζ3:zEO:=fun J=>(c J).bind λ b=>if Vo then f J else g J
def Ó3 [Cl R] Od ϵ3:zS R (vm f g) (bc t u):=λ S Z Y J y Q hE e hq=>by
 ext Gw
 .cases O4;ext Ő
  .ext Ů4;rw[HM];show h' VC
  .ext Ů4;rw[MG];cases e2;show Ŝ7
 ext ĳ
def ë3 [Cl R] Od ϵ3:zS R (aU f g) (cY t u):=λ S Z Y J y Q hE e hq=>by
 ext Gw
 .cases O4;ext Ő
  .ext Ů4;rw[HM];cases e2;show Ŝ7
  .ext Ů4;rw[MG];show h' VC
 ext ĳ
def ô9 [Cl R] Od:zS R (Ĥ1 f) (cZ t):=λ S Z Y J y Q hE e hq=>by
 ext Gw
 .cases O4;cases e2;show Ŝ7
 ext ĳ
def ċ6 [Cl R] (hc:ÁA) (h:zS R f t) ϵ3:zS R (kz fb f g) (c_ tb t u):=λ S Z Y J y Q hE e hq=>by
 ext ϙ6;exact hc ň b Hu Ϩ8;ext Ő
 .ext PU;show h VC
 .ext Ut;show h' VC
end
def l6 Λ rK:Ĉ->Àl
 | [],ds=>ds=[]
 | ŗ,ds=>∃ c cs,ds=c::cs/\Vw S Z t c/\l6 S Z ts cs
def nM (f:Τ) rj:Prop:=∀ S Z Y J ys Q,B2->f J=↑ys->(∀ ds S',Kz->l6 S' Z Aw->Q ds S')->t Kc
def i3 (f:Τ) rj:Prop:=∀ S Z Y J ys Q,B2->f J=↑ys->(∀ ds S',Kz->zp ŵ5 Aw->Q ds S')->t Kc
@[simp] def ze:Τ:=λ _=>↑[]
@[simp] def za Ŏ G0:Τ:=fun J=>Ī λ x=>FU λ xs=>↑ Lv
section
variable {Lm}{G4}{LC}{u:y7}
def đ4:nM ze kD:=λ S Z Y J y Q hE e hq=>by cases e;show hq [] Ex rfl
def è6:i3 ze kD:=λ S Z Y J y Q hE e hq=>by cases e;show hq [] Ex Ð
def Ċ6 Od (h':nM g u):nM ÜN:=λ S Z Y J y Q hE e hq=>by
 ext Åo;show hq _ sZ #[d,ds,rfl,Ŧ1,r2]
def þ9 (h:qU f t) (h':i3 g u):i3 ÜN:=λ S Z Y J y Q hE e hq=>by
 ext Åo;show hq _ sZ (Ó (Dh Ÿ2 x r1) r2)
@[simp] def tupS G0:zEO:=fun J=>FU λ xs=>if FA then ↑ Eg else none
@[simp] def xc G0:zEO:=fun J=>FU λ xs=>if FA then ↑ uc else none
def ê4 Ž5:xY (tupS g) (ĳ8 u):=λ S Z Y J y Q hE e hq=>by
 ext Me;ext Ő
 .ext NT;exact h ň xs Hu λ ds S1 s1 r1=>#[Ùl,hq qA (BG Hl (mV r1))]
 ext ĳ
def Ä1 Ž5:xY (xc g) (ġ1 u):=λ S Z Y J y Q hE e hq=>by
 ext Me;ext Ő
 .ext NT;exact h ň xs Hu λ ds S1 s1 r1=>#[Ùl,λ p hp=>hq À (UY Ŝ) (U9 s1 (lC Su hp r1))]
 ext ĳ
end
@[simp] def zl J5 G0:zEO:=fun J=>FU F
def ph á2 J5 (f:xC):Prop:=∀ S Z ys z ds Q,(ME)->l6 S Z Aw->F ys=↑z->ÉJ->f Io
def À7 ğ [Cl R] JI Iw SG(hf:ph R F f) Ž6:zS R (zl F g) (vj f u):=λ S Z Y J y Q hE e hq=>by
 ext Me;exact Ŭ1;show hf S1 Z xs y ds Q Su r1 e2 λ c S' s r=>hq c ÒD
@[simp] def xS:zLO
 | [Ì z]=>if Kb then ↑ Áh else none
 | [y]=>ű4 λ ts=>Ê ő
 | _=>none
def Ħ3 ß KZ è(h:l6 S Z [y] ds):∃ d,Nh/\Xx:=by
 ext Us;cases h2;show ϓ1
def ń0 ß Đ2{y z:T}è(h:l6 S Z [y,z] ds):∃ d e,ds=[d,e]/\Xx/\Vw S Z z e:=by
 let#[c,cs,rfl,h1,c2,cs2,rfl,h2,h3]:=h;cases h3;show#[c,c2,rfl,h1,h2]
def Ö0:ph zm xS lu:=λ S Z ys z ds Q hz hv e hq=>by
 unfold xS at e;ext ó
 .ext Ig;ext ó
  .ext G1;cases e;cases vc;show#[hl,Ea]
  .cases e
 .ext Κ9;exact ì6 h2 ?_;rw[Tr];show Ea
 .cases e
@[simp] def Kq:zLO
 | [y]=>ű4 Ñ
 | _=>none
def ĉ1:ph zm Kq lr:=λ S Z ys z ds Q hz hv e hq=>by
 unfold Kq at e;ext ó
 .ext Κ9;show ö3 h2 λ p hp=>hq À Ŝ (lC hz hp h3)
 .cases e
@[simp] def kh:zLO
 | [y]=>ű4 ä
 | _=>none
def ê3:ph zm kh lj:=λ S Z ys z ds Q hz hv e hq=>by
 unfold kh at e;ext ó
 .rename_i y;ext Κ9;have k:Q (ä es) S:=hq BX (BG Hl (mV h3));unfold yA at h2;split at h2
  .cases h2;show k
  .cases h2;show k
  .split at h2
   .rename_i q;cases h2;show ú1 q k
   .cases h2
  .cases h2
 .cases e
@[simp] def cz (g:ť4):zLO
 | rS=>↑(Ê Iz)
 | _=>none
def Ĺ9 {g:ť4}:ph zm (cz g) (mI Ϛ3):=λ S Z ys z ds Q hz hv e hq=>by
 unfold cz at e;ext ó
 .ext Λ0;cases e;cases Uo;cases h2.int;show Ea
 .cases e
@[simp] def fA:zLO:=cz λ i j=>ϒ6
@[simp] def m8:zLO:=cz λ i j=>ϔ7
def mO:Ĉ->î (TC)
 | []=>↑[]
 | Ŭ::ts=>(mO ts).map (b::·)
 | ť=>none
theorem Ŋ1:∀ Ą{bs:TC},mO ts=↑bs->ts=Áy
 | [],bs,h=>G9
 | Ŭ::ts,bs,h=>by
  unfold mO at h;ext ÜO;rw[zA6,<- Ŋ1 h1]
 | .zx::ts,bs,h=>œ
 | sX::ts,bs,h=>œ
 | sP::ts,bs,h=>œ
 | ä _::ts,bs,h=>œ
 | ÁB,bs,h=>œ
def ZH (bs:TC):mO (Áy)=↑bs:=by
 induction bs with
 | nil=>rfl
 | cons b bs ih=>rw[zA6];unfold mO;rw[ih];rfl
@[simp] def mN (g:QY):zLO
 | Oa=>(mO ts).map λ bs=>ϲ4
 | _=>none
def mJ (g:QY):xC:=λ ds S Q=>match ds with
 | [ä _]=>Þ
 | [d]=>Æa
 | _=>Þ
def Ò8 {g:QY}:ph zm (mN g) (mJ g):=λ S Z ys z ds Q hz hv e hq=>by
 unfold mN at e;ext ó
 .ext Ig;let#[bs,e1,rfl]:=E_;cases Ŋ1 e1;ext ÚL;cases h3.Ĭ3;have key:Æa:=#[bs,h2,yR];obtain⟨_,q | ⟨a,q,_⟩,_⟩:=h1.lst
  ext Ÿ9
  ext Ÿ9
 .cases e
structure FR (S0:SS) (Z0:IM) Λ rK (Y:yZ) K8:Prop where
 er:B2
 len:Ş4
 sx:Sx S0 S
 z0:ÑC
 zz:ÝX
 zn:∀ a,Z a->Z0 a\/S0 a=none
 fr:∀ Í ts p,ϊ8->BA->S0 p=none
 dj:∀ Fo ts us p,i≠j->ϊ8->ÒZ->BA->Po=↑↑ Đ->Þ
def x8 ĵ af Af{a b:α}(h:Ϩ9[j]?=↑b):(i=j/\i<IA/\b=a)\/(i≠j/\l[j]?=↑b):=by
 rw[zf4] at h;by_cases e:i=j
 .subst e;rw[Ź] at h;by_cases hl:i<IA
  .rw[Ô hl] at h;cases h;show Ä #[rfl,hl,rfl]
  .rw[Ç hl] at h;cases h
 .rw[Df] at h;show Ã #[e,h]
def oX ĵ af Af{a:α}(h:i≠j):Ϩ9[j]?=l[j]?:=by rw[zf4,Ç h]
def ľ4 ĵ af ý{a:α}(h:i<IA):Ϩ9[i]?=↑a:=by rw[zf4,Ź,Ô h]
section
variable {S0 S S':SS}{Ζ7}{t4}{K1}{y:T}{ì}
theorem FR.grow Ii RA:FR Ap S' Z Y J:=#[h.er.grow s,MW,h.sx.trans s,h.z0,h.zz,h.zn,h.fr,h.dj]
theorem FR.iR Ii Í (r:QK):FR MV Z Ť0 Nx:=by
 exact ÂZ
 .ext â8
  .cases e;show#[d,Sv,r]
  .rw[oX n];show Ϝ3
 .ext â8
  .cases e
  .rw[oX n];show IC j ts e
 .ext â8
  .cases e
  .rw[oX n] at e';show ÙT
 .ext QR
  .cases e
  ext VQ
  .cases e
  ext ÚM;show Óa
def FR.az {ts:C}{ds:O}ŵ Ii RA Í (hp:Iv) (hd:S' p=↑ds) (r:lW VS uY):
  FR Ap S' (Ϝ4) (Y.set i ↑ Đ) (ϫ i ↑(Ř ts)):=by
 have np:∀ PH us q,ÒZ->Po=↑↑(Ò q)->q≠p:=λ j us q e e' z=>by
  subst z;let#[p',ds',h1,h2,_]:=IC j us e;rw[e'] at h1;cases h1;rw[hp] at h2;cases h2
 exact#[#[ŵ8,ϩ0,λ j us e=>?_],bx,h.sx.trans s,h.z0,λ a z=>Ä (ÁC),λ a z=>FF (h.zn a) (λ q=>Ã (by subst q;show h.sx.none hp)),λ j us q e e'=>?_,Ën]
 .rcases z with z | rfl
  .show λ q=>Tu Ϟ7
  .rw[hd];nofun
 .ext â8
  .cases e
  .rw[oX n];let#[d,h1,h2]:=Ϝ3;show ËF
 .ext â8
  .cases e;show#[p,ds,Sv,hd,r,Ã rfl]
  .rw[oX n];let#[q,es,h1,h2,h3,h4]:=IC j us e;show#[q,es,h1,s Jr,lW.sx ŵ6 h3,Ä h4]
 .ext â8
  .rw[Sv] at e';cases e';show h.sx.none hp
  .rw[oX n] at e';show h.fr j us q e e'
 .ext QR
  .rcases x8 e2 with ⟨rfl,_,_⟩ | ⟨n2,e2⟩
   .show n rfl
   .rw[Sv] at e3;cases e3;rw[oX n2] at e4;show np k vs p e2 e4 rfl
  .ext Ξ1
   .rw[Sv] at e4;cases e4;rw[oX n1] at e3;show np j us p e1 e3 rfl
   .ext ÚM;show Χ3
def FR.forget Ii Í:FR MV Z Y (ϫ i none):=by
 exact ÂZ
 .ext â8
  .cases e
  .show Ϝ3
 .ext â8
  .cases e
  .show IC j ts e
 .ext â8
  .cases e
  .show ÙT
 .ext QR
  .cases e
  ext VQ
  .cases e
  show Óa
@[simp] def xK TR K8:Ev:=is.foldl (fun J i=>ϫ i none) J
theorem FR.xK:∀ TR K1,JT->FR MV Z Y tB
 | [],_,h=>h
 | i::is,_,h=>FR.xK is (h.forget i)
def FR.freeze Ą ŵ Ii Í (e:ŕ=↑↑ ϻ0) (ed:BA):
  FR MV (Ŝ1) Y (ÕB)/\Òg:=by
 let#[p',o,h1,h2,h3,h4]:=IC i _ e;rw[ed] at h1;cases h1;obtain⟨ds,rfl⟩:∃ ds,o=KQ:=by
  cases o with
  | lst ds=>show Ry
  | _=>show tm
 ext M4;have hS:Òg:=by
  ext vL;show#[ds,Ã #[p,rfl,ÑK],Ļ ÁD ts h3]
 exact#[?_,hS];exact ÂQ
 .ext GL
  ext Ýj
  ext Èu
 .ext GL
  .cases e'
  ext Ãu
 .subst q;show ÍY
 .ext GL
  .cases e'
  .show ÕC
 .ext QR
  .cases e
  ext VQ
  .cases e
  show Χ3
def FR.mut {ts us:C}{es:O}ŵ Ii Í (e:ϊ8) (ed:BA) (r:lW ϟ us es):
  FR Ap (ups S p es) Z Y (ϫ i ↑(Ř us)):=by
 ext Æv;cases h1;have hh:yo (ups S p es) Z=yo S Z:=ç7 h4;have hpn:=ϐ6;exact#[#[ŵ8,λ j t e'=>?_,λ j vs e'=>?_],bx,Ŭ2,h.z0,h.zz,h.zn,λ j vs q e' ed'=>?_,λ j k vs ws q n e1 e2 e3 e4=>?_]
 .by_cases hp:a=p
  .subst hp;rw[mT];nofun
  .rw[kf hp];show Tu a z
 .rw[hh];ext GL
  .cases e'
  .show ÝY
 .rw[hh];ext GL
  .cases e';show#[p,es,ed,mT,r,h4]
  .let#[q,es',g1,g2,g3,g4]:=IC j vs e';exact#[q,es',g1,?_,g3,g4];rw[kf (λ z=>by subst z;show h.dj i j ts vs q n e e' ed g1)];show g2
 .rw[kf (λ z=>by subst z;rw[hpn] at q;cases q)];show h.sx b o q
 .rcases x8 e' with ⟨rfl,hl,_⟩ | ⟨n,e'⟩
  .rw[ed] at ed';cases ed';show hpn
  .show h.fr j vs q e' ed'
 .rcases x8 e1 with ⟨rfl,hl,_⟩ | ⟨n1,e1⟩
  .ext Ξ1
   .show n rfl
   .show h.dj _ k ts ws q n e e2 e3 e4
  .ext Ξ1
   .show h.dj j _ vs ts q n e1 e e3 e4
   .show h.dj j k vs ws q ώ3
def Ŕ8 (S0 S:SS) rK:SS:=open Ϻ2 in λ a=>if ϙ0 then none else S a
def aE â(h:¬ (ϙ0)):Ŕ8 S0 S Z a=S a:=Ç h
def Ś5 â(h:ϙ0):Ŕ8 S0 S Z a=none:=Ô h
def FR.rebase Ii:∃ S1,Sx S0 S1/\FR S1 Z0 ň/\Sx ϟ S1:=by
 exact#[Ŕ8 S0 S Z,Ŭ2,#[h.er,MW,Ŭ2,ŵ8,h.zz,ŵ8,λ i ts p e ed=>?_,h.dj],Ŭ2]
 .rw[aE (λ z=>by rw[z.1] at q;cases q)];show h.sx À q
 .by_cases w:S0 b=none/\Z b
  .rw[Ś5 w] at q;cases q
  .rw[aE w] at q;show q
 .rw[aE (λ q=>h.z0 a z q.1)];show Tu a (ÁC)
 .rcases ÁE with w | w
  .show Ä w
  .show Ã (Ś5 #[w,z])
 .ext Æv;cases h1;show Ś5 #[ϐ6,h4]
 .ext BN;rw[aE (λ z=>q1 z.2)];show q2
def FR.back {S1:SS}(h:FR S1 Z0 ň) (s:Sx S0 S1) (z0:ÑC):JT:=#[h.er,MW,s.trans h.sx,z0,h.zz,λ a z=>(ÁE).imp id R_,λ i ts p e ed=>R_ (ϐ6),h.dj]
def FR.Ñ3 {S1:SS}{Z1:IM}Ii (b:Sx (yo S1 Z1) S0) (zz:∀ a,Z0 a->Z1 a):Sx (yo S1 Z1) ϟ:=λ a o q=>by
 have q0:=b À q;ext BN;rw[o9]
 .show h.sx À q0
 .intro z;rcases ÁE with w | w
  .show q1 (zz a w)
  .rw[w] at q0;cases q0
end
inductive Out where
 | nx K8 | rt (t:T) | bk K8 | ct K8
abbrev Sm:=ϲ5
def zbd á2 (S0:SS) (Z0:IM) (o:Out) (E:iE):Prop:=match o with
 | .nx J=>∀ S Z Y,JT->ź5
 | .bk J=>∀ S Z Y,JT->E.bk Y S
 | .ct J=>∀ S Z Y,JT->E.ct Y S
 | .rt y=>∀ d S,Sx S0 S->R S0 S Z0 y d->E.rt d S
def yq á2 (g:Sm) (t:xl):Prop:=∀ S0 Z0 S Z Y J o E,JT->g J=↑o->zbd R Ap o E->t E Y S
class Lo á2:Prop extends Cl R where
 lo:∀ {S0 S S':SS}Ζ7{y:T}ì,Sx S0 S->(ÝX)->mi->ÝZ
instance:Lo zq:=#[λ _ z h=>Dh (nI z) _ h]
instance:Lo zm:=#[λ s z h=>#[Dh (nI z) _ h.1,λ ts e=>by
 let#[p,ds,h1,h2,h3,h4]:=h.2 ts e;show#[p,ds,h1,R_ h2,h3,Ļ (nI λ a q=>q.imp (z a) id) ts h4]]]
@[simp] def zw (g h:Sm):Sm:=fun J=>FU λ o=>match o with
 | .nx J'=>h J'
 | o=>↑o
@[simp] def y6:Sm:=fun J=>↑(.nx J)
@[simp] def yd Í Ŏ:Sm:=fun J=>ŵ7 λ y=>.nx Nx
@[simp] def vk Í Ŏ:Sm:=fun J=>Ī λ y=>match y with
 | ŷ=>↑(.nx (ϫ i ↑ ϻ0))
 | y=>↑(.nx Nx)
@[simp] def jm Ŏ:Sm:=fun J=>ŵ7 λ _=>.nx J
@[simp] def retS Ŏ:Sm:=fun J=>ŵ7 .rt
@[simp] def iU Í:Sm:=fun J=>match ŕ with
 | sL=>↑(.rt A9)
 | _=>none
@[simp] def yw Tz (g h:Sm):Sm:=fun J=>(c J).bind λ b=>if Vo then g J else h J
@[simp] def Œ2 Í K8:Ev:=match ŕ with
 | sL=>ÕB
 | _=>J
@[simp] def œ7 Í (g:Sm):Sm:=fun J=>g (Œ2 i J)
section
variable {ğ}{g h:Sm}{t u:xl}{gG}
def ü5 ÚN:yq R (zw g h) Áj:=λ S0 Z0 S Z Y J o E F e P=>by
 let#[o1,e1,e2]:=Ę;exact hg N_ o1 { E with nx:=u E } F e1 ?_;cases o1 with
 | nx J1=>show λ S1 Z1 Y1 F1=>hh Ap S1 Z1 Y1 J1 o E F1 e2 P
 | rt y=>cases e2;show P
 | bk y=>cases e2;show P
 | ct y=>cases e2;show P
def Ñ6:yq R y6 ı3:=λ S0 Z0 S Z Y J o E F e P=>by cases e;show P S Z Y F
def ä6 Í L8:yq R (yd i f) ū7:=λ S0 Z0 S Z Y J o E F e P=>by
 ext ύ0;show hf Ey e1 λ d S1 s1 r1=>P S1 Z _ ((GX).iR i r1)
def ð2 Í (hf:xY f te):yq R (vk i f) ū7:=λ S0 Z0 S Z Y J o E F e P=>by
 ext XM;exact hf Ey sg;cases y with
 | lst ts=>
  cases e2;let#[p,ds,rfl,h1,h2,h3]:=r1.2 ts rfl;show P S1 À (F.az (ts:=ŷ) (ds:=KQ) s1 i Xk)
 | _=>cases e2;show P S1 Z _ ((GX).iR i r1.1)
def ö5 TN:yq R (jm f) (eD te):=λ S0 Z0 S Z Y J o E F e P=>by
 ext ύ0;show hf Ey e1 λ d S1 s1 r1=>P S1 Z _ (GX)
def ā8 AP (hf:zS R f te):yq R (retS f) (iq te):=λ S0 Z0 S Z Y J o E F e P=>by
 ext ύ0;show hf Ey e1 λ d S1 s1 r1=>P d S1 (F.sx.trans s1) (Lo.lo F.sx F.zz r1)
def ł5 Í:yq zm (iU i) (iq LH):=λ S0 Z0 S Z Y J o E F e P=>by
 unfold iU at e;ext ó
 .rename_i ts h;cases e;ext XO;obtain⟨ds,rfl⟩:Ť2:=by
   cases ob with
   | lst ds=>show Ry
   | _=>show tm
  ext M4;have hn:=F.fr i _ p h h1;have nz:¬ Z0 p:=λ z=>F.z0 p z hn;change yE i Y S E.rt;ext KP;exact P _ S F.sx Õz
  .ext vL;show#[ds,Ã #[p,rfl,by rw[o9 nz];show h2],Ļ (nI F.zz) ts h3]
  .cases e;show#[p,ds,rfl,hn,h2,Ļ (nI λ a q=>q.elim (F.zz a) λ q=>q▸h4) ts h3]
 .cases e
def yq.Ņ2 (h:yq zm g t):yq zq g t:=λ S0 Z0 S Z Y J o E F e P=>by
 exact h N_ o E F e ?_;cases o with
 | rt y=>show λ d S s r=>P d S s r.1
 | _=>show P
def ê5 {c:ϐ}ED ų3 ÚN:yq R (yw c g h) Ϩ2:=λ S0 Z0 S Z Y J o E F e P=>by
 ext ϙ6;exact hc ň b _ F.er e1 Ϩ8;ext Ő
 .ext PU;show hg ÓE
 .ext Ut;show hh ÓE
def FR.ã6 {S0 S:SS}Ζ7 t4 K1(F:JT) Í:∃ Z',FR MV Z' Y (Œ2 i J):=by
 unfold Œ2;split
 .rename_i ts h;let#[p,ds,h1,_]:=àn;show#[_,(F.freeze rU).1]
 .show#[Z,F]
def ě3 Í (hg:KS):yq R (œ7 i g) t:=λ S0 Z0 S Z Y J o E F e P=>by
 let#[Z',F']:=F.ã6 i;show ÍZ
def b7 vC (t:wR):Prop:=∀ S0 Z0 S Z Y J J' y d Q,JT->QK->g y J=↑J'->ÊL->t d Kc
def ZW (g:JM) (t:oH):Prop:=∀ S0 Z0 S Z Y J J' ys ds Q,JT->zp ϟ Aw->g ys J=↑J'->ÊL->t ds Kc
@[simp] def zC Í:T->WS:=λ y J=>↑ Nx
@[simp] def pJ:JM
 | [],J=>↑J
 | ť,_=>none
@[simp] def xg vC (h:JM):JM
 | tw,J=>(g y J).bind fun J'=>h ys J'
 | [],_=>none
@[simp] def qW Ď (g:JM):T->WS
 | ä ys,J=>if ν=n then g ys J else none
 | _,_=>none
def þ1 Í:b7 (zC i) Dj:=λ S0 Z0 S Z Y J J' y d Q F r e hq=>by cases e;show hq _ (F.iR i r)
def ü9:ZW pJ ŏ2:=λ S0 Z0 S Z Y J J' ys ds Q F r e hq=>by
 cases ys with
 | nil=>ext ž3;subst r;cases e;show#[rfl,hq _ F]
 | cons _ _=>cases e
def ó9 ug{h:JM}ϵ2(hg:b7 g t) (hh:ZW h u):ZW ÜP:=λ S0 Z0 S Z Y J J' ys ds Q F r e hq=>by
 cases ys with
 | nil=>cases e
 | cons y ys=>
  ext Çb;show hg N_ J1 y c _ F r1 e1 fun Y1 F1=>hh MV ÚO F1 r2 e2 hq
def Â3 ā{g:JM}{t:oH}(hg:ZW g t):b7 (qW n g) ź6:=λ S0 Z0 S Z Y J J' y d Q F r e hq=>by
 cases y with
 | tup ys=>
  ext ÇA
  .ext G1;show#[by rw[r.len];show hl,hg N_ J' Aw Q F r e hq]
  .cases e
 | _=>cases e
@[simp] def ae Ŏ vC:Sm:=fun J=>Ī λ y=>(g y J).map .nx
def Ö4 ug{tg:wR}L8 (hg:b7 g tg):yq R (ae f g) (qP te tg):=λ S0 Z0 S Z Y J o E F e P=>by
 ext XM;let#[J',e3,rfl]:=B9;show hf Ey e1 λ d S1 s1 r1=>hg Ap É0 J' y d _ (GX) r1 e3 fun Y' F'=>P S1 Z Y' F'
def lY (free:Bool) (f:Τ) (ti:pO):Prop:=∀ S Z Y J ts Q,B2->f J=↑ts->(∀ I S',Kz->zp ŵ5 ts I.items->(∀ S'',Sx (if free=true then yo S' Z else S') S''->I.keep S'')->Q I S')->ti Kc
@[simp] def xi Ŏ:Τ:=fun J=>Ī qY
def ė2 gG TN:lY Á (xi f) (ū2 te):=λ S Z Y J ts Q hE e hq=>by
 ext ό4;cases y with
 | tup us=>
  cases e2;ext ÚK;show YB
 | lst us=>
  cases e2;ext Μ5
  .show YB
  .ext ë;rw[h1];show ÈL
 | _=>cases e2
def Â2 gG L8:lY true (xi f) (ū2 te):=λ S Z Y J ts Q hE e hq=>by
 ext ό4;cases y with
 | tup us=>
  cases e2;let#[ds,rfl,h2]:=My (Ä r1);show YB
 | lst us=>
  cases e2;have r2:=r1;unfold zq at r2;simp![Sn] at r2;obtain⟨ds,⟨rfl,_⟩ | ⟨a,rfl,h1⟩,h2⟩:=r2
  .show YB
  .ext ë;rw[(p_ h1).2];show ÈL
 | _=>cases e2
def Ak NY Ď:Ĉ:=Èk
def ġ3 ß NY Ď:zp S (Ak lo n) (TX):=by
 unfold Ak ma
 induction Ŀ n with
 | nil=>show Ð
 | cons k l ih=>show Ó ŏ8 ih
def inR (j:Int):Bool:=æ (ào)&&æ (j<=100000000)
def ĩ5 {j:Int}:ű5 ↔ ào/\j<=100000000:=by simp[inR]
def Zo {j:Int}(h:ű5):μ4:=by have:=ĩ5.mp h;lia
def wI:EO
 | Ku=>if ű5 then ↑(Ak 0 JY) else none
 | _=>none
def dA:EO
 | rS=>if inR i=true/\ű5 then ↑(Ak Ϥ6) else none
 | _=>none
@[simp] def xt (F:EO) G0:Τ:=fun J=>FU F
def ā1 tp G4 Ū ŷ0:lY b (xt wI g) (Ź8 tA):=λ S Z Y J ts Q hE e hq=>by
 ext Xq;unfold wI at e2;ext Ő
 .ext Ő
  .ext Ů3;ext ßa;cases Uo;show#[Zo hc,ÕD]
  ext ĳ
 ext ĳ
def Ã5 tp G4 Ū ŷ0:lY b (xt dA g) (Ŕ7 tA):=λ S Z Y J ts Q hE e hq=>by
 ext Xq;unfold dA at e2;ext Ő
 .ext Ő
  .ext Ů3;ext ÏM;cases Uo;cases h2.int;show#[#[(Zo Bu).1,(Zo Bu).2,Zo hc.2],ÕD]
  ext ĳ
 ext ĳ
def pd TR vC (b:Sm):Ĉ->ϲ5
 | [],J=>↑(.nx tB)
 | tw,J=>(g y tB).bind fun J1=>(b J1).bind λ o=>match o with
  | .nx J2=>Ţ1
  | .ct J2=>Ţ1
  | .bk J2=>↑ ϐ7
  | QB=>↑(QB)
@[simp] def x_ TR (f:Τ) vC (b:Sm):Sm:=fun J=>Ī λ ts=>pd NW ts J
def Ā9 {is:A4}{fi:Τ}{ti:pO}ug{tg:wR}{b:Sm}ħ0 AP (hi:lY true fi ti) (hg:b7 g tg) (hb:yq R b tb):yq R (x_ is fi g b) (ba ti tg tb):=λ S0 Z0 S Z Y J o E F e P=>by
 let#[ts,e1,e2]:=Ę;exact hi ň ts _ F.er e1 λ I S1 s1 r1 hk=>?_;rw[Ź] at hk;let#[SB,b1,FB,b2]:=(GX).rebase;ext ÅB;have zz:=F.zz;exact#[λ i Y' S'=>∃ Z' J',FR Ů5 Y' J'/\pd NW (vM i) J'=↑o,#[Z,J,FB,e2],λ i Y' S' #[Z',J',F',_]=>hk S' (b2.trans F'.sx),λ i d Y' S' hd χ8=>?_,fun Y' S' χ8=>?_]
 .let#[y,hy,r2]:=r1.Ř2 hd;have hlt:=(Š hy).1;have hdt:vM i=y::vM ŏ:=by
   rw[Ìh,(Š hy).2]
  rw[hdt] at e';unfold pd at e';let#[J1,g1,e']:=XN;let#[o1,g2,e']:=XN;exact hg Ů5 Y' _ J1 y d _ (ÁF) (Dh (F'.Ñ3 b2 zz) y r2) g1 fun Y2 F2=>?_
  exact hb Ů5 Y2 J1 o1 _ F2 g2 ?_;cases o1 with
  | nx J2=>show ÉK
  | ct J2=>show ÉK
  | bk J2=>cases e';show Æi
  | rt y=>cases e';show Çe
 .rw[Ûe,ÙU] at e';unfold pd at e';cases e';show P S' Z' Y' ((ÁF).back b1 F.z0)
end
@[simp] def pB Í Ŏ:Sm:=fun J=>match ŕ with
 | sL=>Ī λ y=>if ő<Ý then ↑(.nx (ϫ i ↑(Ř (Ñ (ts++[y]))))) else none
 | _=>none
section
variable {ğ}{gG}
def Ý4 Í L8:yq R (pB i f) (eD (l4 LH te)):=λ S0 Z0 S Z Y J o E F e P=>by
 unfold pB at e;ext ó
 .ext ό5
  .ext NT;ext XO;obtain⟨ds,rfl⟩:Ť2:=by
    cases ob with
    | lst ds=>show Ry
    | _=>show tm
   ext M4;change l4 Ϭ7;unfold l4 yE;rw[h1];exact#[#[ds,h2],hf Ey sg];ext ë;rw[Ht];have F1:=GX;exact#[by rw[Tr];show hl,P _ Z Y (F1.mut (us:=Ñ (ts++[y])) (es:=Ñ (ds++[d])) rU (Îa (Ó r1 Ð)))]
  ext ĳ
 .cases e
end
def lS pv (ti:pO) (g:wR) (tc:xn) uD:zy:=fun Y S Q=>ti Y S λ I S1=>sS<=Ý/\(∀ S,Sx S1 S->Ál)/\∀ p,S1 p=none->∃ W:Nat->SS->Àl,W 0 S1 []/\
 (∀ i S S' acc,(∀ b o,b≠p->ÓZ)->W i S acc->W i S' acc)/\
 (∀ i d S acc,Ám->Sx S1 S->S p=↑ ÁG->W i S acc->g d AN S fun Y2 S2=>gH AN Y2/\tc Ir λ b S3=>if Vo then te Y2 S3 λ y S4=>Sx S S4/\W ŏ S4 (ÁH) else Sx S S3/\W ŏ S3 acc)/\
 ∀ S2 acc,Áe->S2 p=↑ ÁG->W sS W_->Q Đ S2
@[simp] def lD pv K8:Ev:=ÀY λ o=>o.bind λ i=>(ŕ).join
def g9 Ϟ8:EO
 | []=>↑[]
 | tw=>(h y).bind λ o=>(g9 h ys).map λ zs=>match o with
  | some z=>z::zs
  | none=>zs
@[simp] def oS pv vC Tz Ŏ K8 (y:T):î (fC):=
 (g y ϩ1).bind fun J2=>(c J2).bind λ b=>if Vo then (f J2).map some else ↑none
def xb pv (it:Τ) vC Tz Ŏ:zEO:=fun J=>(it J).bind λ ts=>if ő<=Ý then (g9 (oS Ū3) ts).map Ñ else none
@[simp] def xA:ϐ:=λ _=>↑true
def Ç0:pQ xA ŋ5:=Ìt
def ZY pv vC (t:wR):Prop:=∀ B S Z Y J J' y d Q,Éh->gH B Y->Ş4->B2->QK->Äa
def ZX pv (g:JM) (t:oH):Prop:=∀ B S Z Y J J' y d Q,Éh->gH B Y->Ş4->B2->zp ϟ y d->Äa
theorem ER.iR ß qd{y:T}ì(h:B2) (hl:Ş4) Í (r:QK):ER S Z Ť0 Nx:=by
 exact#[h.zd,ϩ0,λ j ts e=>?_]
 .ext Ék
  .cases e;show#[d,ľ4 (by rw[hl];show hl'),r]
  .rw[oX n];show h.im j t e
 .ext Ék
  .cases e
  .rw[oX n];show h.ow j ts e
variable {Ed}
theorem Á4 Í (hi:ql=↑none:=by rfl):ZY pick (zC i) Dj:=λ B S Z Y J J' y d Q hB hs hl hE r e hq=>by
 cases e;exact hq _ (hE.iR hl i r) #[by rw[zeK];show hs.1,λ j c q=>?_] (by simp[hl]);by_cases hj:i=j
 .subst hj;rw[hB i hi] at q;cases q
 .rw[oX hj];show hs.2 j c q
def Ê5:ZX pick pJ ŏ2:=λ B S Z Y J J' y d Q hB hs hl hE r e hq=>by
 cases y with
 | nil=>ext ž3;subst r;cases e;show#[rfl,hq _ hE hs hl]
 | cons _ _=>cases e
def ĕ1 ug{h:JM}ϵ2(hg:ZY pick g t) (hh:ZX pick h u):ZX pick ÜP:=λ B S Z Y J J' y d Q hB hs hl hE r e hq=>by
 cases y with
 | nil=>cases e
 | cons y ys=>
  ext Çb;show hg B ň J1 y c _ hB hs hl hE r1 e1 fun Y1 E1 s1 l1=>hh B S ÚO hB s1 l1 E1 r2 e2 hq
def Đ9 ā{g:JM}{t:oH}(hg:ZX pick g t):ZY pick (qW n g) ź6:=λ B S Z Y J J' y d Q hB hs hl hE r e hq=>by
 cases y with
 | tup ys=>
  ext ÇA
  .rename_i hn;show#[by rw[r.len];show hn,hg B ň J' Aw Q hB hs hl hE r e hq]
  .cases e
 | _=>cases e
def ŀ1 K1 ý{w:W}(h:ϩ1[i]?=↑↑w):∃ j:Nat,ū4/\W7=↑↑w:=by
 unfold lD at h;rw[zA3] at h;cases q:ql with
 | none=>ext Mf
 | some o=>
  rw[q] at h;cases o with
  | none=>simp at h
  | some j=>
   ext ÚH;exact Ûx;cases q2:W7 with
   | none=>rw[q2] at h;cases h
   | some o2=>ext Êq
def ķ3 t4 Af ì(h:ū4) (h':Po=↑↑d):AN[i]?=↑↑d:=by
 unfold mZ;rw[zA3,h];simp[h']
def ER.ã9 ß qd(h:B2):ER S Z AN ϩ1:=by
 exact#[h.zd,Ŭ3,Ϣ7]
 .let#[j,h1,h2]:=ŀ1 e;let#[d,h3,h4]:=h.im j t h2;show#[d,ķ3 h1 h3,h4]
 .let#[j,h1,h2]:=ŀ1 e;let#[p,ds,h3,h4]:=h.ow j ts h2;show#[p,ds,ķ3 h1 h3,h4]
def ER.hide uO qd ŵ(h:B2) RA (hp:Iv) (hp':S' p≠none):ER S' (Ϝ4) Y J:=by
 exact#[λ a z q=>?_,Ŭ3,Ϣ7]
 .rcases z with z | rfl
  .show h.zd Ϟ7
  .show hp' q
 .ext Öf;show ËF
 .let#[q,ds,h1,h2,h3,h4]:=h.ow i ts e;show#[q,ds,h1,s Jr,lW.sx ŵ6 h3,Ä h4]
def ę9 {it:Τ}{ti:pO}ug{tg:wR}{c:ϐ}ED gG tp(hi:lY b it ti) (hg:ZY pick g tg) ų3 L8:
  xY (xb ϥ6) (lS pick ti tg tc te):=λ S Z Y J y Q hE e hq=>by
 let#[ts,e1,e2]:=Ę;ext Ő
 case isFalse=>cases e2
 rename_i hlen;let#[zs,e3,rfl]:=B9;exact hi ň ts Hu λ I S1 s1 r1 hk=>#[by rw[r1.len];show hlen,λ S' s'=>hk S' ?_,Hk]
 .cases b
  .show s'
  .show (ŋ8 À).trans s'
 have E1:=Ia;have nz:¬ Z p:=λ z=>E1.zd p z hp;exact#[λ i S' acc=>∃ us ws,zp VS us acc/\g9 (oS Ū3) (vM i)=↑ws/\zs=us++ws,#[[],zs,Ð,e3,rfl],λ i S' S'' acc hh #[us,ws,h1,h2]=>#[us,ws,Ļ (λ a o q=>?_) us h1,h2],λ i d S2 acc hd s2 hacc ÎM=>?_,λ S2 acc s2 hacc ÎM=>?_]
 .ext BN;rw[o9 q1];show hh a o (λ z=>q1 (Ã z)) q2
 .let#[x,hx,rx]:=r1.Ř2 hd;have hlt:=(Š hx).1;have hdt:vM i=x::vM ŏ:=by rw[Ìh,(Š hx).2]
  rw[hdt] at h2;unfold g9 at h2;let#[o,o1,h2]:=Η h2;let#[ws',o2,rfl]:=ų h2;have E2:=(E1.hide s2 hp (by rw[hacc];nofun)).ã9 (pick:=pick);unfold oS at o1;let#[J2,g1,o1]:=Η o1;let#[bb,g2,o1]:=Η o1;exact hg AN S2 Ú J2 x d _ (λ j hj=>?_) #[rfl,Kf] (by unfold mZ lD;simp) E2 (Dh (Ņ3 s2 hp) x rx) g1 fun Y2 E3 l3 _=>#[l3,?_]
  .unfold mZ;rw[zA3,hj];rfl
  exact hc S2 _ Y2 J2 bb _ E3 g2 Ŭ4;split at o1
  .ext PU;let#[z,g3,rfl]:=ų o1;exact hf S3 _ Y2 J2 z _ (E3.grow s3) g3 λ dz S4 s4 r4=>#[ϩ2,us++[z],ws',?_,o2,by rw[h3];simp];show (Ļ (oA (ϩ2)) us h1).append (Ó r4 Ð)
  .ext Ut;cases o1;show#[s3,us,ws',Ļ (oA s3) us h1,o2,h3]
 .rw[Ûe,ÙU] at h2;cases h2;rw[zd1] at h3;subst h3;exact hq _ sZ #[?_,λ vs e=>?_]
  .ext vL;show#[acc,Ã #[p,rfl,by rw[o9 nz];show hacc],Ļ ÙV zs h1]
  .cases e;show#[p,acc,rfl,s1.none hp,hacc,h1]
mutual
def t7:T->Bool
 | ĺ=>pF ts
 | Ñ _=>Á
 | O6=>Á
 | LX=>Á
 | _=>true
def pF:Áq
 | []=>true
 | ŗ=>t7 t&&pF ts
end
mutual
theorem ř4 uO:∀ (t:T) ì,t7 t=true->ÝU
 | .zx,d,_,q=>qv
 | Ŭ,d,_,q=>qv
 | ñ,d,_,q=>qv
 | Ť,d,_,q=>qv
 | ĺ,d,h,q=>by
  ext ν3;show#[ds,q1,aL ts (by simpa only [t7] using h) q2]
 | ŷ,d,h,q=>ο8
 | O6,d,h,q=>ο8
 | LX,d,h,q=>ο8
theorem aL uO:∀ qH è,pF ts=true->àl
 | [],ds,_,q=>ÑH
 | ŗ,ds,h,q=>by
  simp![pF,zE5] at h;ext Ég;show#[c,cs,q1,ř4 t h.1 q2,aL ts h.2 q3]
end
def è9 {y:T}(h:t7 y=true):àm:=λ ts e=>by subst e;simp[t7] at h
class Sr á2:Prop extends Lo R where
 sn:∀ uO KZ ì,mi->Š1
instance:Sr zq:=#[λ h=>h]
instance:Sr zm:=#[λ h=>h.1]
def zM á2 J5:pC:=λ ds S Q=>∃ Z ys y,(ME)/\zp ϟ Aw/\F ys=↑y/\Ït
def zM.mo ğ JI:ŕ0 va:=λ _ _ _ _ hq #[Z,ys,y,h1,h2,h3,h4]=>#[Z,ys,y,h1,h2,h3,λ d S' s r=>hq À (h4 N4 s r)]
@[simp] def ju J5 G0:zEO:=fun J=>FU λ ys=>(F ys).bind λ y=>if t7 y=true then ↑y else none
def ĵ8 ğ AP JI SG Ž5:zS R (zl F g) ϲ6:=λ S Z Y J y Q hE e hq=>by
 ext Me;exact Ŭ1;show#[Z,xs,y,Su,r1,e2,λ d S' s r=>hq d ÒD]
theorem l6.free ß{Z Z':IM}:∀ Ą è,l6 S Z uY->(ÝV)->(∀ a,WV ∈ds->¬ Z' a)->zp (yo S Z') uY
 | [],ds,h,_,_=>by cases h;show Ð
 | ŗ,ds,h,hz,hn=>by
  ext Us;exact Ó ?_ (l6.free h2 hz λ a ha=>hn a (zc8 _ ha));rcases h1 with h1 | ⟨us,p,es,rfl,rfl,h3,h4,_⟩ | ⟨ks,us,p,m,rfl,rfl,h3,h4,h5,_⟩
  .show Dh (nI hz) t h1
  .ext vL;show#[es,Ã #[p,rfl,ÓO],Ļ (nI hz) us h4]
  .ext vL;show#[p,m,#[rfl,h4],ÓO,Ļ (nI hz) us h5]
def Ŀ1 ğ [Sr R] JI SG Ž6:xY (ju F g) ϲ6:=λ S Z Y J y Q hE e hq=>by
 ext Ω6;split at e3
 .ext Ëx
  exact Ŭ1;exact ÂY;show Ëp
 .cases e3
@[simp] def pj tW (ys:Ĉ):Ev:=ys.map (λ y=>↑(.im y))++ſ (BR-ν) none
@[simp] def jb:î Out->fC
 | some (.rt y)=>↑y
 | some (.nx _)=>↑.zx
 | _=>none
@[simp] def zW tW Ď (g:Sm):zLO:=λ ys=>if ν=n then jb (g Q5) else none
theorem zM.len ğ sf ā{g:Sm}è ß Iq(hs:zM Ū4 Io):ϕ=n:=by
 ext ÆQ
 .ext A5;rw[r.len];show h
 .cases e
theorem Ģ2 sf è ý ì(h:nH):Uh[i]?=↑↑d:=by
 have hi:=(Š h).1;unfold ox;rw[Α1,zA3,h];rfl
theorem ņ8 sf{ys:Ĉ}ý{w:W}(h:Q5[i]?=↑↑w):∃ y,ϩ3/\w=.im y:=by
 unfold pj at h;have hi:i<ν:=by
  rcases zd5 i ν with q | q
  .show q
  ext ËV
 rw[Α1,zA3] at h;cases q:ys[i]? with
 | none=>ext Mf
 | some y=>ext Mf;show#[y,rfl,rfl]
def Ï0 ğ AP sf ā{g:Sm}{t:xl}(h:KS) è ß Iq(hs:zM Ū4 Io):t M5:=by
 ext ÆQ
 case isFalse=>cases e
 obtain⟨o,e1,e2⟩:∃ o,g Q5=↑o/\jb ↑o=↑y:=by
  cases q:g Q5 with
  | none=>ext OK
  | some o=>show#[o,rfl,by rw[<- q];show e]
 exact h S Z S Z À o _ #[#[hz,Ŭ3,Ϣ7],?_,.refl S,hz,λ _ z=>z,λ _ z=>Ä z,λ i ts p e _=>?_,λ i j ts us p _ e _ _ _=>?_] e1 ?_
 .ext ś4;let#[d,h3,h4]:=r.Zs h1;show#[d,Ģ2 h3,h4]
 .ext ś4
 .unfold ox pj;have:=r.len;simp[this]
 .ext ś4
 .ext ś4
 .cases o with
  | rt y'=>cases e2;show λ d S' s r=>hq N4 s r
  | nx J'=>
   cases e2;show λ S' Z' Y' F=>hq .zx S' F.sx (Ϻ9)
  | _=>cases e2
def xp Ţ8:fC:=υ6
def ko Ţ8 (v:T):Ze:=
 Κ0
section
variable {ß}
theorem xD.len:∀ Hn,qt->yg=Lc
 | [],_,h=>G9
 | ϲ1,_,h=>by
  let#[d,m,rfl,_,h2]:=h;simp[xD.len h2]
theorem xD.val:∀ Hn Ks,qt->(xp a k=none/\vo b k=none)\/∃ t d,xp a k=↑t/\vo b k=↑d/\Ϣ
 | [],_,k,h=>by cases h;show Ä Fp
 | (j,t)::r,_,k,h=>by
  ext ÔN;by_cases e:j=k
  .subst e;show Ã #[t,d,by simp[xp],by simp[vo],h1]
  .rcases xD.val k h2 with ⟨g1,g2⟩ | ⟨t',d',g1,g2,g3⟩
   .show Ä #[ÐF,ÑA]
   .show Ã #[t',d',ÐF,ÑA,g3]
theorem xD.any:∀ Hn Ks,qt->(b.any UK)=a.any UK
 | [],_,k,h=>G9
 | (j,t)::r,_,k,h=>by
  ext ÔN;rw[zd8,zd8,xD.any k h2]
theorem xD.kW v9 tR ì(r:Ϣ):∀ Hn,qt->xD S (a.map λ kv=>if MO then (kv.1,t) else kv) (b.map Τ3)
 | [],_,h=>G9
 | (j,u)::a,_,h=>by
  ext ÔO;ext Oe;by_cases q:j=k
  .rw[Ô q,Ô q];show#[d,_,rfl,r,xD.kW r h2]
  .rw[Ç q,Ç q];show#[e,_,rfl,h1,xD.kW r h2]
theorem xD.snoc v9 tR ì(r:Ϣ):∀ Hn,qt->xD S (a++[(k,t)]) (b++[N3])
 | [],_,h=>by cases h;show#[d,[],rfl,r,rfl]
 | (j,u)::a,_,h=>by
  ext ÔO;show#[e,_,rfl,h1,xD.snoc r h2]
def xD.put Hn(h:qt) Ks tR ì(r:Ϣ):xD S (ko a k t) (putD b k d):=by
 unfold ko putD;rw[h.any k];split
 .show xD.kW r h
 .show xD.snoc r h
end
@[simp] def Ĥ4 Í:Sm:=fun J=>↑(.nx (ϫ i ↑(Ř (.xk []))))
@[simp] def cV Í Ŏ:zEO:=fun J=>Ī λ y=>match ŕ,y with
 | Wu,Ov=>xp qC
 | _,_=>none
@[simp] def ŕ7 Í Ζ3:zEO:=fun J=>Ī λ y=>FU λ z=>match ŕ,y with
 | Wu,Ov=>↑((xp qC).getD z)
 | _,_=>none
@[simp] def Ő9 Í (f v:zEO):Sm:=fun J=>ϲ7 λ z=>Ī λ y=>match ŕ,y with
 | Wu,Ov=>if Zl then ↑(.nx (ϫ i ↑(Ř (Þa)))) else none
 | _,_=>none
@[simp] def Z7 Í:zEO:=fun J=>match ŕ with
 | Wu=>↑ Áv
 | _=>none
def Ĵ0 ß qd(hE:B2) ý{kvs:Ze}(h:ŕ=↑↑(Ř AI)):∃ p b,BA/\S p=↑(.xk b)/\xD ϟ kvs b:=by
 ext ÊY;cases o with
 | xk b=>show#[p,b,h1,h2,h3]
 | _=>show tm
section
variable {ğ}{f g v:zEO}{ty tx tv:zy}
def ý7 Í:yq R (Ĥ4 i) (qP ĳ5 Dj):=λ S0 Z0 S Z Y J o E F e P=>by
 ext Ày;show P Ú (F.az (ts:=.xk []) (ds:=.xk []) Àr rfl)
def å2 Í Kr:qU (cV i f) (ĝ4 bQ):=λ S Z Y J y Q hE e hq=>by
 ext Xu;ext Ő
 .rename_i kvs k h;ext Μ1;exact hf VD;cases Tq;rcases (MF (oA s1) h3).val K6 with ⟨g1,_⟩ | ⟨t,d,g1,g2,g3⟩
  .rw[g1] at e2;cases e2
  .rw[g1] at e2;cases e2;show#[p,b,k,d,rfl,rfl,Ht,g2,hq d S1 s1 g3]
 ext ĳ
def ç4 Í Kr (hg:qU g tx):qU (ŕ7 i f g) (ń7 bQ tx):=λ S Z Y J y Q hE e hq=>by
 ext YS;let#[z,e2,e3]:=Ę;split at e3
 .rename_i kvs k h;cases e3;ext Μ1;exact#[p,rfl,#[b,h2],hf VD];cases Tq;exact hg É0 z Ds λ dz S2 s2 r2=>#[k,b,rfl,(A8) Jr,?_];rcases (MF (oA (A8)) h3).val K6 with ⟨g1,g2⟩ | ⟨t,d,g1,g2,g3⟩
  .rw[g2];rw[g1] at hq;show hq _ sZ r2
  .rw[g2];rw[g1] at hq;show hq _ sZ g3
 .cases e3
def î0 Í Kr Às:yq R (Ő9 i f v) (ł1 bQ tv):=λ S0 Z0 S Z Y J o E F e P=>by
 ext Èf
 .rename_i kvs k h;split at e3
  .ext G1;cases e3;ext Õd;let#[p,b,h1,h2,h3]:=Ĵ0 F1.er h;ext Ñr;cases Vw.int r2;have h4:=MF Ÿ2 h3;show#[p,b,k,rfl,rfl,s2 Jr,by rw[h4.len];show hl,P _ Z Y (ϐ8 (us:=Þa) (es:=.xk (putD b K6 dz)) rU (h4.put _ Þb))]
  .cases e3
 .cases e3
def ď5 Í:xY (Z7 i) (vj İ5 (mL LH kD)):=λ S Z Y J y Q hE e hq=>by
 unfold Z7 at e;ext ó
 .rename_i kvs h;cases e;ext Μ1;exact#[p,b,rfl,h2,?_];rw[Tr];show Ea
 .cases e
end
@[simp] def jH Ŏ:zEO:=fun J=>Ī λ x=>match x with
 | ñ=>↑(Ê (-i))
 | _=>none
def Ġ9 (ta:zy):zy:=fun Y S Q=>ta Y S λ x S1=>match x with
 | ñ=>Q (Ê (-i)) S1
 | _=>Þ
def Ě4 gG XD:xY (jH f) (Ġ9 te):=λ S Z Y J y Q hE e hq=>by
 ext Gw
 .cases Tq;cases e2;show hq qA (Vk)
 ext ĳ
def đ8:ph zm fA ń5:=Ĺ9
def Ā3:ph zm m8 ħ4:=Ĺ9
def oW:Ĉ->î (á)
 | []=>↑[]
 | ñ::ts=>(oW ts).map (i::·)
 | ť=>none
def nY:Ĉ->î (ű)
 | []=>↑[]
 | ä r::ts=>(oW r).bind λ x=>(nY ts).map (x::·)
 | ť=>none
def zN (r:á):T:=ä (r.map HY)
theorem gk:∀ Ą{is:á},oW ts=↑is->ts=ϲ8
 | [],is,h=>G9
 | Ê b::ts,is,h=>by
  unfold oW at h;ext ÜO;rw[zA6,<- gk h1]
 | .zx::ts,bs,h=>œ
 | L_::ts,bs,h=>œ
 | sP::ts,bs,h=>œ
 | ä _::ts,bs,h=>œ
 | ÁB,bs,h=>œ
theorem ņ5:∀ Ą{rs:ű},nY ts=↑rs->ts=ϻ1
 | [],is,h=>G9
 | ä r::ts,is,h=>by
  unfold nY at h;let#[x,h1,h]:=Η h;let#[cs,h2,rfl]:=ų h;rw[zA6,<- ņ5 h2,gk h1];rfl
 | .zx::ts,bs,h=>œ
 | L_::ts,bs,h=>œ
 | sP::ts,bs,h=>œ
 | sX::ts,bs,h=>œ
 | ÁB,bs,h=>œ
def fP (is:á):oW (ϲ8)=↑is:=by
 induction is with
 | nil=>rfl
 | cons b bs ih=>rw[zA6];unfold oW;rw[ih];rfl
def Ś8 (rs:ű):nY (ϻ1)=↑rs:=by
 induction rs with
 | nil=>rfl
 | cons b bs ih=>
  change nY (ä (b.map HY)::df zN)=_;unfold nY;rw[fP,ih];rfl
theorem ģ8 ß:∀ {is:á}è,zp S (ϲ8) ds↔ds=is.map BS
 | [],ds=>Ôk
 | i::is,ds=>by
  rw[zA6];simp![zp,Sn];ext HS
  .rintro⟨c,cs,rfl,rfl,h⟩;rw[Ft h];rfl
  .ext HZ;show#[ñ,_,rfl,rfl,YT]
theorem fj ß:∀ {rs:ű}è,zp S (ϻ1) ds↔ds=rs.map nZ
 | [],ds=>Ôk
 | r::rs,ds=>by
  rw[zA6];simp![zp,zN,Sn];ext HS
  .rintro⟨c,cs,rfl,⟨es,rfl,h1⟩,h⟩;rw[fj.mp h,Ft h1];rfl
  .ext HZ;show#[nZ r,_,rfl,#[_,rfl,YT],fj.mpr rfl]
@[simp] def Ë5:T->î ū
 | .zx=>↑"NoneType"
 | L_=>↑"bool"
 | sX=>↑"int"
 | sP=>↑"str"
 | ä _=>↑"tuple"
 | Ñ _=>↑"list"
 | O6=>none
 | LX=>none
@[simp] def Ei (ty:ū) Ŏ:zEO:=fun J=>Ī λ x=>(Ë5 x).map λ t=>.bl (mE t ty)
def ù1 {ty:ū}gG TN:xY (Ei ty f) (eC ty te):=λ S Z Y J y Q hE e hq=>by
 ext Xu;let#[n,e3,rfl]:=B9;exact hf tT;have key:iO d S1=↑n:=by
  rw[<- e3];cases x with
  | zx=>cases Vw.zx r1;rfl
  | bl _=>cases O4;rfl
  | int _=>cases Tq;rfl
  | str _=>cases Qg;rfl
  | tup _=>let#[ds,rfl,_]:=My r1;rfl
  | lst _=>
   ext Μ5
   .rfl
   .unfold iO;ext ë;rw[h1];rfl
  | _=>cases e3
 rw[key];show Ŝ7
@[simp] def isNone:T->Bool
 | .zx=>true
 | _=>Á
def fN:D->Bool
 | .zx=>true
 | _=>Á
def zA (p:FL):T:=ä [Ê p.1,Ê p.2]
def ő5 su:T:=Ñ (sH Ê)
@[simp] theorem zcW:IU:=rfl
def ð1 ā(h:n<=10000):n<=Ý:=zE0 h ()
theorem qR ĵ D0 į{x:α}(h:xs[k]?=↑x):LK xs UB=↑x:=by
 unfold LK L2.px;have hk:=(Š h).1;rw[Ô ⋯,Ô ⋯];exists h
@[simp] theorem Ĝ0 ĵ D0{x:α}:LK (xs++[x]) (-1)=↑x:=by
 unfold LK L2.px;rw[Ç ⋯,Ô FK];have:(-1+((xs++[x]).length:Int)).toNat=å:=Ϣ8
 rw[zC9,this];simp
@[simp] theorem zc5 ĵ{x:α}D0:LK Lv 0=↑x:=qR (k:=0) rfl
@[simp] theorem zc4 ĵ{x y:α}D0:LK (x::y::xs) 1=↑y:=qR (k:=1) rfl
@[simp] theorem zc3 ĵ{x y z:α}D0:LK (x::y::z::xs) 2=↑z:=qR (k:=2) rfl
@[simp] theorem zc2 ĵ{x y z w:α}D0:LK (x::y::z::w::xs) 3=↑w:=qR (k:=3) rfl
theorem ŕ5 ĵ MI (g:α->fC) Ϟ8:∀ IZ,(∀ x∈xs,h Pe=↑(g x))->g9 h bB=↑(xs.filterMap g)
 | [],_=>rfl
 | Ji,hh=>by
  rw[zA6];unfold g9;rw[hh x zc7,ŕ5 enc g h xs λ y hy=>hh y (zc8 _ hy)];cases q:g x <;> simp[q]
def Å7 ĵ MI (g:α->T) Ϟ8 IZ (hh:∀ x∈xs,h Pe=↑↑(g x)):g9 h bB=↑(ŧ g):=by
 rw[ŕ5 enc (λ x=>↑(g x)) h xs hh];simp
def wC ĵ MI (h:α->T) ÃY
  (hh:∀ x∈xs,oS Ū3 Pe=↑↑(h x)):xb ϥ6 J=↑(Ñ (ŧ h)):=by
 unfold xb;rw[hi,zC9,Ô (ϟ4),Å7 enc h _ xs hh];rfl
def Č0 ĵ MI (h:α->fC) ÃY
  (hh:∀ x∈xs,oS Ū3 Pe=↑(h x)):xb ϥ6 J=↑(Ñ (xs.filterMap h)):=by
 unfold xb;rw[hi,zC9,Ô (ϟ4),ŕ5 enc h _ xs hh];rfl
section
variable {ĵ}{is:A4}{ug}{b:Sm}
def turn vC (b:Sm) (y:T) K8:î Out:=(g y J).bind b
theorem cp (y:T) (ys:Ĉ) K8:pd NW (tw) J=(turn g b y tB).bind λ o=>match o with
  | .nx J2=>Ţ1
  | .ct J2=>Ţ1
  | .bk J2=>↑ ϐ7
  | QB=>↑(QB):=by
 unfold turn;rw[pd];cases g y tB <;> rfl
theorem ŀ9 MI (I:áP):∀ IZ (pre:A6) K8,I pre tB->
  (∀ p x q,pre++xs=p++x::q->ÄE)->∃ J',ÊM/\I (pre++xs) J'
 | [],pre,J,h,_=>#[xK is J,by rw[zd0,pd],FN]
 | Ji,pre,J,h,hs=>by
  let#[J',h1,h2]:=hs pre x xs rfl _ h;rw[zA6,cp,h1];have ih:=ŀ9 enc I xs (pre++[x]) J' h2 λ p y q e=>hs p y q (by rw[<- e];simp);exists ih
def pk MI (I:áP) IZ K8 (h:I [] tB)
  (hs:∀ p x q,xs=p++x::q->ÄE):∃ J',ÊM/\I xs J':=ŀ9 enc I xs [] J h hs
def Ê1 NY Ď:Ak lo n=Èk:=rfl
end
theorem aC Ď (h:n<=100000):wI [Ê rl]=↑(Ű9 λ Wh=>HY (0+UB)):=by
 change (if inR rl=true then ↑(Ak 0 (n:Int).toNat) else none)=_;rw[Ô (ĩ5.mpr Uu)];rfl
def iL (a:Key) (b:T) Ζ2 (j:Key):xp (Ũ7) j=if a=j then ↑b else ÁI:=by
 by_cases h:a=j <;> simp[xp,h]
theorem Ļ1 ϥ7:∀ kvs:Ze,xp (Vh Τ3) j=(ÁI).map λ x=>if j=k then d else x
 | []=>rfl
 | Ũ7=>by
  have ih:=Ļ1 Ây;rw[zA6];by_cases hk:a=k
  .rw[LJ,iL,iL,ih];by_cases hj:a=j
   .subst hj;subst hk;simp
   .ext M7
  .rw[IE,iL,iL,ih];by_cases hj:a=j
   .subst hj;simp[hk]
   .ext M7
theorem Ĥ6 ϥ7:∀ kvs:Ze,(∀ kv∈kvs,¬ MO)->xp Ϣ6 j=ÎN
 | [],_=>by
  change xp [N3] j=_;rw[iL];by_cases h:j=k
  .subst h;simp
  .rw[Ç h,Ç (λ z=>h z.symm)]
 | Ũ7,hn=>by
  have ih:=Ĥ6 Ây λ kv hkv=>hn kv (zc8 _ hkv);have ha:¬ a=k:=hn Γ6 zc7;change xp (Γ6::Ϣ6) j=_;rw[iL,iL,ih];by_cases hj:a=j
  .subst hj;simp[ha]
  .ext M7
def Ń3 Ţ8:HU=ÛJ:=by
 unfold xp;rw[zf7,zC7,zD0,Øf]
def ā5 Ζ2 ϥ7:xp (ko A3 d) j=ÎN:=by
 unfold ko;split
 .ext A5;rw[Ń3] at h;rw[Ļ1];by_cases hj:j=k
  .subst hj;let#[x,hx]:=zf1.mp h;simp[hx]
  .simp[hj]
 .ext A5;show Ĥ6 Ây λ kv hkv z=>h (zD0.mpr #[kv,hkv,zg6 z])
def Ā2 Ţ8 (d:T):(ko A3 d).length=if ÛJ=true then HK else HK+1:=by
 have e:=Ń3 A3;unfold ko;rw[e];split <;> simp
def my (p:FL):á:=[p.1,p.2]
def kS G3:ZO:=(JZ Br).map λ r=>μ7
def Ĝ6 G3:(R0).map my=JZ Br:=by
 unfold kS;rw[zD6]
 conv=>rhs;rw[<- ze9 (JZ Br)]
 exact zd9 λ r hr=>?_;let#[p,_,rfl]:=F5 ((L4.kl _).mem_iff.mp hr);rfl
def Ŋ7 G3:(R0).Perm ps:=by
 have h:=L4.kl Br;have:(R0).Perm ((Eo my).map λ r=>μ7):=h.map _
 rwa [zD6,show ((λ r:á=>μ7) ∘ my)=id from rfl,ze9] at this
def fG (p q:FL):Prop:=p.1<q.1\/(Wj/\ÁJ)
def ņ9 G3:(R0).Pairwise fG:=by
 have h:=L4.ar Br;rw[<- Ĝ6,zdW] at h;exact h.imp λ{p q} hpq=>?_;unfold my at hpq;rw[TP,TP] at hpq;unfold fG;by_cases e:q.1=p.1
 .rw[Ô e] at hpq;by_cases e2:q.2=p.2
  .lia
  .rw[Ç e2] at hpq;have:=qz hpq;lia
 .rw[Df] at hpq;have:=qz hpq;lia
def ē8 G3:nY (Eo zA)=↑ Br:=by
 have:=Ś8 Br
 rwa [zD6,show zN ∘ my=zA from rfl] at this
def oB (q p:FL):Bool:=æ (p.1<=q.1)&&æ (ÁJ)
def zU G3 Yp:Bool:=ps.any (oB q)
def xv {ps:ZO}{q:FL}:Rx=true↔∃ p∈ps,p.1<=q.1/\ÁJ:=by
 unfold zU oB;simp[zD0]
def à8 {ps qs:ZO}(h:ps.Perm qs) Yp:Rx=zU qs q:=by
 rw[zC7,xv,xv];show#[λ Þc=>#[p,h.mem_iff.mp h1,h2],λ Þc=>#[p,àf h1,h2]]
def É5 (ps qs:ZO) Yp:zU (ps++qs) q=(Rx||zU qs q):=by
 unfold zU;rw[List.any_append]
def mr G3:Prop:=ϩ4 λ p q=>p.1<q.1/\q.2<p.2
theorem mr.eq:∀ {ps qs:ZO},mr ps->mr qs->(∀ q,Rx=zU qs q)->ps=qs
 | [],[],_,_,_=>rfl
 | [],Hg,_,_,h=>by
  have:=h q;rw[show zU [] q=Á from rfl] at this;have h2:zU (Hg) q=true:=Êg;rw[h2] at this;cases this
 | qj,[],_,_,h=>by
  have:=h p;rw[show zU [] p=Á from rfl] at this;have h2:zU (qj) p=true:=xv.mpr Ω8;rw[h2] at this;cases this
 | qj,Hg,hp,hq,h=>by
  have hp1:=O0 hp;have hq1:=O0 hq;have a1:∃ r∈ Hg,r.1<=p.1/\r.2<=p.2:=xv.mp (by rw[<- h];show xv.mpr Ω8);have a2:∃ r∈ qj,r.1<=q.1/\r.2<=q.2:=xv.mp (by rw[h];show Êg);let#[r,hr,r1,r2]:=a1;let#[u,hu,u1,u2]:=a2;have qr:q.1<=r.1:=by
   rcases Ş hr with e | e
   .subst e;show EC
   .show Int.le_of_lt àp
  have pu:p.1<=u.1:=by
   rcases Ş hu with e | e
   .subst e;show EC
   .show Int.le_of_lt àq
  have e1:Wj:=⋯;have er:r=q:=by
   rcases Ş hr with e | e
   .show e
   .have:=àp;lia
  have eu:u=p:=by
   rcases Ş hu with e | e
   .show e
   .have:=àq;lia
  subst er eu;have e2:u.2=r.2:=⋯;have epq:u=r:=ÀW e1 e2;subst epq;rw[mr.eq hp1.2 hq1.2 λ x=>?_];have hx:=h x;unfold zU at hx ⊢;rw[zd8,zd8] at hx;cases g:oB x u with
  | Á=>rw[g] at hx;exists hx
  | true=>
   have gx:u.1<=x.1/\u.2<=x.2:=by simpa [oB] using g
   have key:∀ {l:ZO},(∀ v∈l,u.1<v.1/\v.2<u.2)->l.any (oB x)=l.any (oB Ϝ5):=by
    intro l hl;ext ω2
    .ext Îx;have hg':v.1<=x.1/\v.2<=x.2:=Ôl
     show ËX
    .ext Îx;have hg':v.1<=x.1/\v.2<=u.2-1:=Ôl
     show ËX
   rw[key hp1.1,key hq1.1];have hy:=h Ϝ5;unfold zU at hy;rw[zd8,zd8] at hy;have gn:oB Ϝ5 u=Á:=by
    unfold oB;rw[show æ (u.2<=(x.1,u.2-1).2)=Á from zg7 (by change ¬ u.2<=u.2-1;lia),zdT]
   rw[gn] at hy;exists hy
def jv (l:Ė) (x:Int):Bool:=match l with
 | none=>true
 | some m=>æ (x<m)
def xT:ZO->Ė->ZO
 | [],_=>[]
 | qj,l=>if jv l p.2=true then p::xT ps ↑p.2 else Γ7
def nG G3:ZO:=xT (R0) none
theorem cE:∀ G3 (l:Ė) Yp,q∈ Γ7->q∈ps/\∀ m,l=↑m->q.2<m
 | [],l,q,h=>by simp[xT] at h
 | qj,l,q,h=>by
  unfold xT at h;ext ç
  .rename_i c;have hm:∀ m,l=↑m->p.2<m:=λ m e=>by subst e;simpa [jv] using c
   ext ϙ5
   .subst e;show#[zc7,hm]
   .let#[h1,h2]:=cE ps _ q e;show#[ż0,λ m e=>by have:=h2 Oz;have:=hm m e;lia]
  .let#[h1,h2]:=cE ps _ q h;show#[ż0,h2]
theorem ś6:∀ G3 (l:Ė),ϩ4 fG->mr (Γ7)
 | [],l,_=>by simp[xT,mr]
 | qj,l,h=>by
  ext ØP
  .exact Γ8 #[λ q hq=>?_,ś6 ps _ h1.2];let#[g1,g2]:=cE ps _ q hq;have:=h1.1 q g1;have:=g2 Oz;unfold fG at *;lia
  .show ś6 ps _ h1.2
theorem ő4:∀ G3 (l:Ė),ϩ4 fG->∀ p∈ps,(∃ q∈ Γ7,q.1<=p.1/\q.2<=p.2)\/∃ m,l=↑m/\m<=p.2
 | [],l,_,p,hp=>by cases hp
 | r::ps,l,h,p,hp=>by
  ext ØP
  .ext ÒE
   .subst e;show Ä Ω8
   .rcases ő4 ps ↑r.2 h1.2 p e with ⟨q,q1,q2⟩ | ⟨m,e1,e2⟩
    .show Ä #[q,zc8 _ q1,q2]
    .cases e1;have:=h1.1 p e;unfold fG at this;show Ä #[r,zc7,⋯,e2]
  .ext ÒE
   .subst e;cases l with
    | none=>simp[jv] at c
    | some m=>show Ã #[m,rfl,by simpa [jv] using c]
   .show ő4 ps l h1.2 p e
def Ś9 G3:mr (nG ps):=ś6 À (ņ9 ps)
def ē9 {ps:ZO}{q:FL}(h:q∈nG ps):q∈ps:=(Ŋ7 ps).mem_iff.mp (cE À q h).1
theorem fF G3 Yp:zU (nG ps) q=Rx:=by
 rw[<- à8 (Ŋ7 ps) q,zC7,xv,xv];ext HS
 .rintro⟨p,h1,h2⟩;show#[p,(cE À p h1).1,h2]
 .rintro⟨p,h1,h2⟩;rcases ő4 (R0) none (ņ9 ps) p h1 with ⟨r,r1,r2⟩ | ⟨m,e,_⟩
  .show#[r,r1,⋯,⋯]
  .cases e
end L5
namespace L2
open É Ü Î
section
variable {Æ}
def Ħ8 È:R2:=λ x y H Q=>∃ l b xs zs,x=Ο/\R5/\yy Å uH/\yy Å b zs/\ÙW/\∀ p,IT->Q Đ (upd H p àr)
theorem Ù4:yH YH (Ħ8 X.K):=by
 ext uJ;ext Çu;ext Tj;let#[its,r,p1,_]:=S_ hH;let#[its2,r2,p2,_]:=S_ hB;let#[Nn,ho,hc,n,hd]:=p1.isList;let#[Ξ9,ho2,hc2,n2,hd2]:=p2.isList;ext Λ8;have e:Ĵ++Qu=(its++its2).toArray:=#[];exact Ũ0 ϊ3 noFill_list_add seq_list_add PySem.F.slot_list_add PySem.F.entry_list_add (PySem.F.args_list_add_2 À) (list_addW l b Ĵ Qu VE (by rw[zA0,zA0,<- Az,<- Y0];show hz)) ÙA;rw[e];show#[Ò _,_,I.â7 (t':=ø) (f_ r2) (by rw[zD7];lia),rfl,q _ I.fresh]
def İ4 È:R2:=λ x y H Q=>∃ a b ys,ż/\R5/\y8 Å a []/\y8 Å b ys/\Q L6 H
theorem Ó5:yH YH (İ4 X.K):=by
 ext uJ;let#[l,b,ys,rfl,rfl,hH,hB,q]:=h;ext Tj;let#[its,r,p1,_]:=ξ hH;let#[its2,r2,p2,_]:=ξ hB;let#[Nn,ho,hc,n,hd]:=id p1;let#[Ξ9,ho2,hc2,n2,hd2]:=id p2;ext Λ8;show Ũ0 Θ3
   (tuple_addW0 l b Ĵ Qu VE (by cases r;rfl)) #[ho,ho2,#[GS,H,I,rfl,q]]
end
end L2
namespace L5
open É Ü L2 L3
open Î hiding St
section
variable {Æ}{Ù}{a b c e:Expr}{ĩ}{ta tb tc te:zy}{Ū}{AD}
def lx.mo:vn lx:=λ x y S Q Q' hq h=>by
 cases x with
 | int i=>cases y <;> first | show ō | show h
 | str i=>ext Ýk
 | tup i=>ext Ýk
 | qZ ds=>
  unfold lx at h ⊢;ext Ϗ0
  .show ÇF
  .show ï
 | ref q=>
  unfold lx at h ⊢;ext Ϗ0
  .show ÇF
  .show ï
 | _=>show h
def jA Ø ß ì ř è uk Wi (n:Ŧ2):∃ a xs,v=õ/\Jd/\Ų:=by
 unfold yA at e;ext ó
 .show ò rfl (n _)
 .ext ž2;show#[a,xs,h1,h2.sq,h3]
 .ext ó
  .ext ÈH;show#[_,xs,rfl,Ñ7 h1,h2]
  .cases e
 .cases e
abbrev ĺ4 È:R2:=λ x y H Q=>ni (λ i j=>Ź9) EN\/((Åg)\/(Ħ8 rM\/(İ4 rM\/Ķ1 rM)))
def lx.fits:wG K lx (ĺ4 K):=λ x y d e H S Q h1 h2 h3 h=>by
 have lst:(Ŧ2)->(match K3,yA e S with
  | Β3,↑es=>(Ϝ2)/\i7/\∀ r,S r=none->oh Å Q Äb
  | _,_=>Þ)->ĺ4 rM:=λ n h=>by
  ext ç
  .rename_i ds es q1 q2;let#[a,xs,rfl,g1,g2]:=jA h1 h3 q1 n;let#[b,ys,rfl,g3,g4]:=jA GP q2 h.1;exact Ã (Ã (Ä #[a,b,xs,ys,rfl,rfl,g1,g3,by rw[<- AO,<- MH];show OV,Hk]));show Ti ÔP (h3.ups Ŝ #[_,yF,Ðe])
  .show ï
 cases d with
 | int i=>
  cases e with
  | int j=>
   ext Aq;show ÊN
  | _=>show ï
 | str i=>
  cases e with
  | str j=>
   ext Aq;show Ã (Èl)
  | _=>show ï
 | tup ds=>
  cases e with
  | tup es=>
   have h1':=h1;have h2':=h2;ext Éa;have hl:=AO;have hl':=MH;by_cases hx:xs=[]
   .subst hx;have:ds=[]:=by cases ds <;> simp_all
    ext Ŗ;show Ã (Ã (Ã (Ä #[a,b,ys,rfl,rfl,g1,g3,h.2 _ H h2' ϲ h3])))
   .exact Ã (Ã (Ã (Ã #[a,b,xs,ys,rfl,rfl,g1,g3,hx,by rw[<- hl,<- hl'];show h.1,λ hy=>?_,λ hy p hp=>?_])))
    .subst hy;have:es=[]:=by cases es <;> simp_all
     ext Ŗ;exact h.2 Âz h3;rw[zd1];show h1'
    .exact h.2 Ög;ext FY;show#[p,_,rfl,RU,Ðe]
  | _=>show ï
 | qZ ds=>show lst Hl h
 | ref q=>show lst Hl h
 | _=>show ï
def ã5 ĕ:PD X (BC a .Add JQ) (yJ lx Ă):=jD (Ð1.or (ă9.or (Ù4.or (Ó5.or û5)))) lx.fits lx.mo Ej
def mJ.mo {g:QY}:qV (mJ g):=λ ds S Q Q' hq h=>by
 unfold mJ at h ⊢;ext ç
 .show ï
 .let#[bs,h1,h2]:=h;show#[bs,h1,hq Jr]
 .show ï
def mJ.fits {g:QY}:pR K (mJ g) (λ xs H Q=>∃ p,∃ bs:TC,υ/\yy Å p ť7/\Q (ϲ4) H):=λ xs ds H S Q h0 h2 h=>by
 unfold mJ at h;ext ç
 .show ï
 .rename_i d hn;ext LY;let#[bs,e,h]:=h;let#[a,ys,rfl,g1,g2]:=Îb;rw[g2.bools] at g1;show#[a,bs,rfl,g1,uP]
 .show ï
def ò7 (hm:X.mg "all"=none) Ϲ ę (hg:Gl X "all") tV:PD X (ù (ą "all" p) AA) (vj (mJ λ bs=>O2) tA):=
 m5 (lE (zav hc) K_ boot_all A7) ßb
def ď6 (hm:X.mg "any"=none) Ϲ ę (hg:Gl X "any") tV:PD X (ù (ą "any" p) AA) (vj (mJ ϻ2) tA):=
 m5 (lE (zau hc) K_ boot_any A7) ßb
def Ė0 Ø ì ř QS:æ (v=.zx)=fN d:=by
 cases d with
 | tup _=>ext Ïc
 | qZ _=>ext Ïc
 | _=>ext PV;rfl
theorem Û0 KY:PD X (ÀS .USub a pos) (Ġ9 ta):=by
 exact#[fun Y S Q Q' hq h=>ă é (λ x S1 z=>by
  cases x <;> first
   | show Js
   | show z) h,Ğ (Ē6 æ9 ha.pe) Ľ]
 ext Lr;cases x with
 | int i=>ext HF;show#[i,q1,h1 Ff]
 | _=>show Ai
section
variable {N':þ}{Ed}{KD}{tg elt iter:Expr}{ifs:sv}{ũ6}{tcc:xn}
def lS.mo (hi:Œ4 ti):yC yj:=fun Y S Q Q' hq z=>hi é (λ I S1 ÛH=>#[h1,h2,λ p hp=>by
 let#[W,w0,w1,w2,w3]:=h3 p hp;show#[W,w0,w1,w2,λ S2 acc a b c=>hq À (w3 W_ JP)]]) z
theorem ĩ8 ÞX (hc:o_ tcc) (he:yC te) Ÿ Ø Rg(hu:zT K yj Ś):ī5 pick (nD K ti) (da K g) (pU K tcc) Ϲ3 Ś:=by
 ext ħ;exact#[Y,S,r1,r2,hi é (λ I S1 hF J H1 e1 p1 rep D hD=>?_) z];let#[hlen,hk,hF]:=hF;have hS1:S1 D=none:=p1.none hD;let#[W,w0,wm,wstep,wfin]:=hF D hS1;exact#[λ i m σ H2=>m=sS-i/\i<=sS/\Ϲ0/\xV K H2 AN σ/\∃ S2 acc,yu K H2 S2/\Áe/\S2 D=↑ ÁG/\acc.length<=i/\W i W_,#[_,rfl,Dr,ÁK,((B8).pick pick).ext (ÁK),ups S1 D Α8,[],?_,Rh hS1 _,mT,EI,?_],?_]
 .show p1.ups (ÁK) ÛK
 .show wm 0 S1 _ [] Ñy w0
 rintro i m σ2 H2 ⟨rfl,hi',x2,q1,S2,acc,q2,sx,hS2,hacc,hW⟩;let#[g1,g2]:=rep i H2 S2 x2 q2 (hk S2 sx);by_cases hl:i<sS
 .ext Ît
  let#[go,yl]:=g1 _ hd;exact Ã #[go,àc];ext ÔK;exact#[_,_,S2,d3,q1.ext x3,p3,hg À ÈZ (wstep i _ W_ hd sx hS2 hW)];let#[hle,z4]:=z4;exact Dy hc a1 a3 z4 λ b S5 H5 z5 x5 p5=>pZ (λ z5=>?_) (λ z5=>?_) z5
  .exact ď he (a1.ext x5) p5 z5 λ y S6 v H6 z6 q6 x6 p6=>?_;let#[s6,hW6]:=z6;let#[ys,h6,r6]:=p6 À (s6 À hS2);have e6:Ext H6 (upd H6 D (Ñ (ys++[v]))):=Ñ h6 _;have hlen2:ν<=i:=by rw[<- r6.length];show hacc
   exact#[ys,sS-ŏ,h6,⋯,⋯,rfl,hl,((Ψ7 x5).trans x6).trans e6,hle.rep ((a1.ext (x5.trans x6)).ext e6),ups S6 D (Ñ (ÁH)),ÁH,?_,λ b o hb=>?_,mT,Ϣ8,?_]
   .show p6.ups e6 #[_,yF,Ζ e6 _ (r6.snoc q6)]
   .rw[kf (by intro q;subst q;rw[hS1] at hb;cases hb)];show s6 À (sx À hb)
   .show wm _ S6 À Ñy hW6
  .let#[s5,hW5]:=z5;show#[sS-ŏ,⋯,rfl,hl,Ψ7 x5,hle.rep (a1.ext x5),S5,acc,p5,sx.trans s5,s5 À hS2,⋯,hW5]
 .have e:i=sS:=⋯;subst e;show Ä #[g2 ľ,wfin W_ sx hS2 hW _ H2 Em (KI x2) q2]
def č1 (Sc:sG) ę Ãn
  XE:
  PD X AU yj:=
 #[lS.mo Ϫ,λ gV s σ H Q I hu=>Ě7 ÂU hs AV (ĩ8 Åe hu)]
def Ð3 ý ό1(Sc:sG) ę Ãn
  ũ5 Ψ0
  (hsw:Ρ8)
  (hfn:ο4)
  XE:
  Ôm:=by
 exact#[qP.mo (lS.mo Ϫ) υ5,λ gV s σ H D I hu=>é1 ÂU hN ßc ž D I ?_];ext ħ;exact ĩ8 Åe #[Y,S,r1,r2,lS.mo Ϫ é (λ x S1 z v H1 q1 e1 p1=>?_) z];show z ÏK
end
end
section
variable {Ĝ}{Ù}{EG}{Dz}
def ŋ6 ğ AP ô v7 R8(F:Š3) ϑ9
  (Ţ:Ña):Çf:=
 Zu Êr λ cdv A ı s H E hr=>by
  let#[t,h1,h2]:=Ţ ZQ hr;show Ëq
def Ć7 ğ AP ô v7 R8(F:Š3) (hm:Ϩ4) ÃD
  (Ţ:Ña):ϩ5:=
 #[#[f,fd,ŋ6 Η6 Ţ,hm,F.kp,F.binds hb],zM.mo]
def æ2 ğ [Sr R] JI(hF:∀ ns:á,Δ<=63->F [Ñ ŵ2]=↑(qe)) Ø â Ad{E:XK}(hO:ZV H) (hS:Ű5) (hl:Δ<=63):nc K va ψ3 E:=by
 have hFz:eM Å a Kx:=by
  rcases hS with (h | h) | h
  .rcases hO a with z | ⟨o,xs,z⟩
   .rw[h] at z;cases z
   .rw[h] at z;cases z
  .show Ä h
  .show Ã h
 exact#[[.qZ Nj],Fh,Ó ?_ Ð,(λ a o z=>Xh),Ŭ5,[Ñ ŵ2],qe,BJ,Ó ?_ Ð,hF ns hl,λ d S' s r v H' rv _ _=>?_]
 .ext FY;show#[a,_,rfl,hFz,zv.aW ns]
 .ext vL;show#[_,Ä #[rfl,î8 ns],YT]
 .have:=Sr.sn r;ext ßd;simpa only [zj] using rv
end
end L5
namespace ST
open É sD
def lV (xs:A4):Prop:=xs.Pairwise Oq
def Ś7 {xs:GK}{m d:Nat}(h:m<AB):xs.getD m d=xs[m]:=by simp[ű6,h]
theorem ř6 (xs:GK) PH ŷ1:∀ (f lo hi:Nat),hi-lo<=f->lo<=hi->hi<=AB->(∀ i Ġ2,i<lo->HE<j)->(∀ i Ġ2,hi<=i->j<=HE)->
  ϊ0<=AB/\(∀ i Ġ2,i<ϊ0->HE<j)/\∀ i Ġ2,ϊ0<=i->j<=HE
 | 0,lo,hi,h1,h2,h3,h4,h5=>by
  unfold ÁL;ext ÑL
 | f+1,lo,hi,h1,h2,h3,h4,h5=>by
  unfold ÁL;have nh:∀ i k (hi:i<AB) (hk:k<AB),i<=k->HE<=xs[k]:=λ i k hi hk hik=>by
   rcases zd5 i k with q | q
   .have r:=zeN.mp hr i k NM (ϵ6) q;rw[zdZ,zdZ] at r;show zE3 r
   .have:i=k:=⋯;ext Ŗ;show EI
  by_cases hl:lo<hi
  .rw[Ô hl];ext ë;have hm:Ŷ0<AB:=⋯;rw[Ś7 hm];by_cases c:xs[Ŷ0]<j
   .rw[Ô c];exact ř6 xs j hr f _ hi ć h3 (λ i hi' hlt=>?_) h5;have:=nh i (Ŷ0) hi' hm ⋯;lia
   .rw[Ç c];exact ř6 xs j hr f lo _ ć ⋯ h4 (λ i hi' hge=>?_);have:=nh (Ŷ0) i hm hi' hge;lia
  .rw[Ç hl];ext ÑL
def ZI {xs:GK}KW ŷ1:Li<=AB/\(∀ i Ġ2,i<Li->HE<j)/\∀ i Ġ2,Li<=i->j<=HE:=
 ř6 xs j hr AB 0 AB ć ľ Þd Þd
theorem U5 {xs:GK}{j i:Nat}ŷ1 (h:tD=↑j):Li=i:=by
 let#[h1,h2,h3]:=ZI (j:=j) hr;let#[hi,e]:=KL h;have a:¬ i<Li:=λ q=>by have:=h2 i hi q;lia
 have b:¬ Li<i:=λ q=>by
  have:=h3 (Li) ⋯ ľ;have r:=zeN.mp hr (Li) i FK NM q;simp at r;lia
 lia
def zaO {xs:GK}KW ŷ1:(xs[Li]?=↑j)↔j∈ QO:=by
 ext HS
 .intro h;let#[hi,e]:=KL h;rw[<- e];simp
 .intro h;let#[i,hi,e]:=rA h;have hx:tD=↑j:=by
   simp at hi;simp[hi] at e ⊢;show e
  rw[U5 hr hx];show hx
def l5 qI (p:uU):uU:=
 if p.more>0 then { p with j:=p.j+1,more:=p.more-1 } else
 let (i,M0):=leap M p.i p.perturb
 { p with j:=i,more:=ng,i,M0 }
def Ō2 Fw (p:uU):t.advance p=l5 Ā p:=rfl
def fu (M i M0:Nat):uU:={ j:=i,more:=ng,i:=i,M0:=M0,dummy:=none }
def way qp:Nat->uU
 | 0=>fu M (Ju) (Rl)
 | k+1=>ű7
def za6 qI (p:uU) (h:p.dummy=none):(l5 M p).dummy=none:=by
 unfold l5;split
 .show h
 .show h
theorem ŝ5 qp:∀ k,(MY).dummy=none
 | 0=>rfl
 | k+1=>za6 M _ (ŝ5 M h k)
def yG qp:Nat->Nat×Nat
 | 0=>(Ju,Rl)
 | n+1=>leap M JS UM
theorem œ8 (M i pt:Nat) se Ŕ (hk:MY=fu M i pt):∀ m,m<=ng->às={ j:=i+m,more:=ng-m,i:=i,M0:=pt,dummy:=none }
 | 0,_=>by rw[Nat.add_zero,hk];rfl
 | m+1,hm=>by
  have ih:=œ8 M i pt h k hk m ⋯;change l5 M (às)=_;rw[ih];unfold l5;rw[Ô (by change ng-m>0;lia)];simp![Probe.mk.injEq];show#[⋯,⋯,ϖ,ϖ,ϖ]
def Ý1 (M i:Nat):ng<=9:=by ext ţ3
theorem ń4 qp (n k:Nat) (hk:MY=Ϣ9):way M h (k+(Γ9)+1)=fu M (yG M h B4).1 (yG M h B4).2:=by
 have:=œ8 M À h k hk _ ľ;change l5 M (way M h (k+_))=_;rw[this];unfold l5;rw[Ç (by change ¬ _-_-(_-_)>0;lia)];rfl
theorem ŋ0 qp:∀ n,∃ k,k<=10*n/\MY=Ϣ9
 | 0=>#[0,⋯,rfl]
 | n+1=>by
  let#[k,h1,h2]:=ŋ0 ü1;have:=Ý1 M JS;show#[_,⋯,ń4 ü1 k h2]
def zaM se:Rl<2 ^ 64:=by
 unfold bits;have h1:=zF0 h (show (2 ^ 64:Int)≠0 by decide);have h2:=zF1 h (show ſ7<2 ^ 64 by decide);lia
theorem Ĺ2 qp:∀ n,ÁM<=Rl
 | 0=>by simp[yG]
 | n+1=>by
  have ih:=Ĺ2 ü1;change (YO)*32 ^ B4<=_;have:YO*32<=UM:=Nat.div_mul_le_self À
  calc YO*32 ^ B4=(YO*32)*32 ^ n:=by rw[Nat.pow_succ,zf8 (32 ^ n) 32,Nat.mul_assoc]
   _<=ÁM:=zeB _ this
   _<=_:=ih
theorem ý9 qp Ď (hn:13<=n):UM=0:=by
 rcases ÕE UM with q | q
 .show q
 .have h1:=Ĺ2 ü1;have h2:=zaM h;have h3:32 ^ 13<=32 ^ n:=Nat.pow_le_pow_right () hn;have h4:1*32 ^ n<=ÁM:=zeB _ q;have h5:(2:Nat) ^ 64<32 ^ 13:=()
  lia
def jc qI Í:ż1
 | 0=>i
 | n+1=>(jc M i n*5+1)%ό
theorem Ŀ5 qp:∀ n,(Ϝ6).1=jc M àt n
 | 0=>rfl
 | n+1=>by
  have ih:=Ŀ5 ü1;have hz:=ý9 M h (13+n) ⋯;change ((Ϝ6).1*5+1+(Ϝ6).2/32)%ό=_;rw[hz,ih];rfl
theorem dU (M i:Nat):∀ a b,jc M i (a+b)=jc M (jc M i a) b
 | a,0=>rfl
 | a,b+1=>by
  change (jc M i (a+b)*5+1)%ό=_;rw[dU M i a b];rfl
def dR qI:Nat->Nat->A4
 | 0,_=>[]
 | n+1,i=>i::dR M n ((i*5+1)%ό)
theorem Ō3 qI:∀ n i x,x∈dR M n i->∃ k,k<n/\jc M i k=x
 | 0,i,x,h=>œ
 | n+1,i,x,h=>by
  ext ϙ5
  .show#[0,⋯,e.symm]
  .let#[k,h1,h2]:=Ō3 M n _ x e;show#[k+1,⋯,by rw[Nat.add_comm,dU];show h2]
def Ž2 qI:Prop:=M=7\/M=31\/M=127
theorem î5 qI HW:(ÎO)/\jc M 0 ό=0:=by
 have key:∀ M,((Ŀ ό).all λ e=>(dR M ό 0).contains e)=true->ÎO:=λ M h e he=>by
  have:=FC h e (qm ⋯);ext uM
 rcases hM with rfl | rfl | rfl
 .show#[key 7 rB,zdK]
 .show#[key 31 rB,zdK]
 .show#[key 127 rB,zdK]
theorem ò0 qI HW (i e:Nat) (hi:i<=M) (he:e<=M):∃ n,n<=M/\jc M i n=e:=by
 let#[h1,h2]:=î5 M hM;let#[a,a1,a2]:=Ō3 M Ú (h1 i hi);let#[b,b1,b2]:=Ō3 M Ú (h1 e he);rcases zd5 b a with q | q
 .exact#[M+1+b-a,⋯,?_];rw[<- a2,<- dU,show a+(M+1+b-a)=ό+b by lia,dU,h2,b2]
 .exact#[b-a,⋯,?_];rw[<- a2,<- dU,show a+(b-a)=b by lia,b2]
theorem ë7 qp:∀ n,JS<=M
 | 0=>by have:=àu;change Ju<=M;lia
 | n+1=>by
  have:=zeQ (JS*5+1+YO) ϔ9;change (_%ό:Nat)<=M;lia
theorem Ŋ0 qI HW se (e:Nat) (he:e<=M):∃ n,n<M+14/\JS=e:=by
 let#[n,h1,h2]:=ò0 M hM àt e (ë7 M h 13) he;show#[13+n,⋯,by rw[Ŀ5,h2]]
theorem â3 qI HW se (e:Nat) (he:e<=M):∃ k,k<10*(M+15)/\Δ0=e:=by
 let#[n,h1,h2]:=Ŋ0 M hM h e he;let#[k,k1,k2]:=ŋ0 ü1;show#[k,⋯,by rw[k2];show h2]
theorem Ğ8 qp:∀ k,Δ0+(MY).more<=M/\(MY).i<=M
 | 0=>by
  have h1:Ju<=M:=by have:=àu;lia
  exact#[?_,h1];change Ju+(Ol M (Ju)-Ju)<=M;ext ţ3
 | k+1=>by
  let#[h1,h2]:=Ğ8 M h k;change (ű7).j+(ű7).more<=M/\(ű7).i<=M;unfold l5;split
  .rename_i c;show#[by change Δ0+1+((MY).more-1)<=M;lia,h2]
  .have h3:ËG%ό<=M:=by have:=zeQ ËG ϔ9;lia
   exact#[?_,h3];change _%ό+(Ol M (_%ό)-_%ό)<=M;ext ţ3
def Ő6 qp Ŕ:Δ0<=M:=by have:=(Ğ8 M h k).1;lia
structure Tab Fw (hs:á):Prop where
 mask:Ž2 Ā
 ik:t.dummies=Ē
 len:KR=ue
 nh:lV Γ
 top:∀ j∈ Γ,j<=Ā
 dE:∀ Í h j,hs[i]?=↑h->ÁN->Æj
theorem Tab.live í2 Af(h:ÁN):t.slot j=.live i:=by
 ext Ýf;rw[U5 T.nh h,Ô (by rw[h];simp)]
theorem Tab.empty í2 KW(h:j∉ Γ):t.slot j=.empty:=by
 ext Ýf;have n1:¬ (Dl[ES]? == ↑j)=true:=λ q=>h ((zaO T.nh).mp ϧ1);rw[Ç n1,Ìi]
theorem Tab.at í2 KW(h:j∈ Γ):∃ (i:Nat) (g:Int),ÁN/\ϩ6:=by
 let#[i,hi,e]:=rA h;have hi':i<KR:=by exists hi
 exact#[i,hs[i]'(by rw[<- U4];show hi'),?_,#[]];rw[zB8 hi'];rw[zdZ] at e;rw[e]
theorem ĭ5 í2 {Si:Nat->Int}(hA:∀ Í g,ϩ6->Si i=g) se:∀ (f k:Nat),(∃ e,k<=e/\e<k+f/\(way Ā h e).j∉ Γ)->
  ∃ k1,k<=k1/\(∀ m,k<=m->m<k1->∃ (i:Nat) (g:Int),WL=↑ Þe/\ϩ6/\g≠h)/\
   (Ţ2 ∉ Γ/\Ñb=↑(.empty Ţ2 none)\/
    ∃ i,WL=↑ Ţ2/\hs[i]?=↑h/\Ñb=↑(.candidate Ţ2 i (way Ā h (k1+1))))
 | 0,k,#[e,h1,h2,_]=>⋯
 | f+1,k,#[e,h1,h2,h3]=>by
  by_cases hm:(Vc).j∈ Γ
  .let#[i,g,p1,p2]:=T.at hm;by_cases hg:g=h
   .exact#[k,EI,λ m a b=>⋯,Ã #[i,p1,by rw[<- hg];show p2,?_]];unfold Et;ext ϟ6;rw[hA i g p2,Ô ßr,Ō2];rfl
   .have hne:e≠k:=λ q=>by subst q;show h3 hm
    let#[k1,q1,q2,q3]:=ĭ5 T hA h f š #[e,⋯,⋯,h3];have eq:Et t Si h (f+1) (Vc)=Et t Si h f (way Ā h š):=by
     conv=>lhs;unfold Et
     ext ϟ6;rw[hA i g p2,Ç ßr,Ō2];rfl
    rw[eq];exact#[k1,⋯,λ m a b=>?_,q3];rcases Nat.eq_or_lt_of_le a with w | w
    .subst w;show#[i,g,p1,p2,hg]
    .show q2 m w b
  .exact#[k,EI,λ m a b=>⋯,Ä #[hm,?_]];unfold Et;rw[T.empty hm,ŝ5]
def Ĺ0 {xs ys:A4}(hx:xs.Nodup) (h:∀ x∈xs,x∈ys):å<=ν:=by
 induction xs generalizing ys with
 | nil=>simp
 | cons x xs ih=>
  have h1:=zd7.mp hx;have hxy:=h x zc7;have:=ih h1.2 (ys:=ys.erase x) λ z hz=>by
   have hne:z≠x:=λ e=>h1.1 (e▸hz);show (Ób hne).mpr (h z (zc8 _ hz))
  rw[Ïu hxy] at this;have hp:=zf9 hxy;simp![zC0];lia
theorem least {P:Nat->Prop}Ŕ (h:P k):∃ m,m<=k/\P m/\∀ m'<m,¬ P m':=by
 induction k using Nat.strongRecOn with
 | ind k ih=>
  rcases Ũ8 (∃ m',m'<k/\P m') with ⟨m',h1,h2⟩ | q
  .let#[m,g1,g2]:=ih m' ϙ;show#[m,⋯,g2]
  .show#[k,EI,h,λ m' hm hp=>q #[m',hm,hp]]
theorem ê7 {xs:A4}AH(h:å<=M):Øg:=by
 rcases Ũ8 (Øg) with q | q
 .show q
 .have:=Ĺ0 (xs:=Ŀ ό) (ys:=xs) zeC λ e he=>by
   have:=vE he;rcases Ũ8 (e∈xs) with w | w
   .show w
   .show ò #[e,⋯,w] q
  simp at this;lia
def Ő7 Fw se PH:Prop:=j∉ Γ/\Æj
theorem Tab.first í2 (hl:ue<=Ā) se:∃ K,K<10*(Ā+15)/\ŝ7 ∉ Γ/\∀ k'<K,Óc:=by
 let#[e,e1,e2]:=ê7 (xs:=Γ) (M:=Ā) (by rw[zD2,U4];show hl);let#[k,k1,k2]:=â3 Ā cy h e e1;let#[K,q1,q2,q3]:=least (P:=λ n=>(way Ā h n).j∉ Γ) k (by rw[k2];show e2);show#[K,⋯,q2,λ k' hk=>Classical.not_not.mp (q3 k' hk)]
def ò4 {xs:A4}{j p:Nat}(h:lV xs) (h1:∀ x∈ Ie,x<j) (h2:∀ x∈ RO,j<x):lV (Ie++j::RO):=by
 exact zf2.mpr #[h.sublist ÐS,Γ8 #[h2,h.sublist (List.drop_sublist À)],Ûw];rcases Ş hb with e | e
 .subst e;show h1 a ha
 .have:=h1 a ha;have:=h2 b e;lia
theorem fQ ĵ D0{p i:Nat}{x y:α}(hp:p<=å) (h:(Ie++x::RO)[i]?=↑y):(i=p/\y=x)\/(i<p/\tD=↑y)\/(p<i/\xs[i-1]?=↑y):=by
 have hl:(Ie).length=p:=by rw[zeH];lia
 rcases zeD i p with q | q | q
 .rw[zdS ⋯,List.getElem?_take,Ô q] at h;show Ã (Ä #[q,h])
 .subst q;rw[zeI ⋯,hl] at h;simp at h;show Ä #[rfl,h.symm]
 .rw[zeI ⋯,hl] at h;obtain⟨d,hd⟩:∃ d,i-p=d+1:=#[i-p-1,⋯];rw[hd] at h;simp![zfA,List.getElem?_drop] at h;exact Ã (Ã #[q,?_]);rw[show i-1=p+d by lia];show h
theorem Tab.put í2 {h:Int}KW(F:Ő7 t h j):
  N5<=ue/\Çz/\Tab (sU).1 (hs.take N5++h::hs.drop N5):=by
 let#[b1,b2,b3]:=ZI (xs:=Dl) (j:=j) T.nh;let#[fn,K,k1,k2]:=F;have e2:N5=ES:=rfl;have e1:Çz:=by
  change ({ t with place:=Uk,dummies:=_ }:E9)=_;rw[Ìi,e2]
 have pl:YW=t.place.toList.take (ES)++j::t.place.toList.drop (ES):=ϓ3 Ú;have old:∀ x∈ Γ,x∈ YW:=λ x hx=>by
  rw[pl];have:=zfB (ES) Γ;rw[<- this] at hx;rcases RX hx with q | q
  .show zdN _ q
  .show zB4 _ (zc8 _ q)
 rw[e2] at e1 ⊢;exact#[ØZ,e1,?_];rw[e1];exact#[cy,T.ik,?_,?_,?_,?_]
 .change (Uk).size=_;rw[<- zD2,pl];simp[U4]
 .change lV YW;rw[pl];exact ò4 T.nh (Jv) (Jv)
  .ext áE;rw[zeH] at hi;rw[List.getElem_take,zdZ] at e;rw[<- e];show b2 i ÓF
  .ext áE;rw[zdI] at hi;rw[List.getElem_drop,zdZ] at e;have h3:=b3 (ES+i) ÓF;have hm:x∈ Γ:=zfR hx;have hne:x≠j:=λ q=>fn (q▸hm);lia
 .intro x hx;change x<=Ā;have hx:x∈ YW:=hx;rw[pl] at hx;rcases RX hx with q | q
  .show T.top x (List.mem_of_mem_take q)
  .rcases Ş q with e | e
   .subst e;rw[<- k1];show Ő6 Ú
   .show T.top x (zfR e)
 .intro i g x hg hx;change ∃ k,(way Ā g k).j=x/\∀ k'<k,(way Ā g k').j∈ YW;have hx:(Uk)[i]?=↑x:=hx;rw[<- zD3,pl] at hx;have hpl:ES<=t.place.toList.length:=by exists b1
  have hpl':ES<=ue:=ØZ
  rcases fQ hpl hx with ⟨c1,c2⟩ | ⟨c1,c2⟩ | ⟨c1,c2⟩ <;> rcases fQ hpl' hg with ⟨d1,d2⟩ | ⟨d1,d2⟩ | ⟨d1,d2⟩ <;> first
   | lia
   | (subst c2 d2;show#[K,k1,λ k' hk=>old _ (k2 k' hk)])
   | (let#[k,g1,g2]:=T.dE _ g x d2 (by rw[<- zD3];show c2)
      show#[k,g1,λ k' hk=>old _ (g2 k' hk)])
def i4 Zg PH:Prop:=∃ k,DP
theorem ã1 {P:Nat->Bool}{n k:Nat}(h:(Ŀ n).find? P=↑k):k<n/\P k=true/\∀ k'<k,P k'=Á:=by
 let#[h1,as,bs,h2,h3]:=List.find?_eq_some_iff_append.mp h;have hlen:as.length=k:=by
  have e:(Ŀ n)[as.length]?=↑k:=ÜB
  have:=(Š e)
  let#[q1,q2]:=this;rw[zfQ] at q2;show q2
 have hk:k<n:=by
  have:k∈ Ŀ n:=ÜB
  show vE this
 exact#[hk,h1,λ k' hk'=>?_];have:k'∈as:=by
  have e:(Ŀ n)[k']?=↑k':=zfS ⋯;rw[h2,zdS ⋯] at e;show zB7 e
 have:=h3 k' this;ext uM
def getD_none OL KW(h:Òh=true):Þf:=by
 unfold ű6 at h;ext ç
 .rename_i hj;have e:ċ[j]=none:=FN
  rw[zB8 hj,e]
 .simp at h
def Ī9 OL KW(hj:j<Pw) (h:Òh=Á):i4 ċ j:=by
 unfold ű6 at h;rw[dif_pos hj] at h;cases q:ċ[j] with
 | none=>simp[q] at h
 | some k=>show#[k,by rw[zB8 hj,q]]
theorem Ĵ9 qI Zg (hsz:Pw=M+1) se:∀ (fuel n kn:Nat),way M h kn=Ϣ9->(∀ q<kn,i4 ċ Ϝ7)->
  (∃ n',n<=n'/\n'<n+fuel/\ċ[(yG M h n').1]?=↑none)->
  ∃ j q,Ϝ8 M ċ fuel JS UM=↑j/\Ϝ7=j/\Þf/\ÌK
 | 0,n,kn,_,_,#[n',h1,h2,_]=>⋯
 | fuel+1,n,kn,hk,ho,#[n',h1,h2,h3]=>by
  have hre:ϊ9+1-JS=Γ9+1:=by ext ţ3
  have hwalk:∀ m,m<=Γ9->(way M h (kn+m)).j=JS+m:=λ m hm=>by rw[œ8 M À h kn hk m hm]
  unfold Ϝ8;cases hf:(Ŀ (ϊ9+1-JS)).find? (λ k=>(ŧ6 (JS+k) ↑0).isNone) with
  | some k=>
   let#[f1,f2,f3]:=ã1 hf;exact#[_,kn+k,rfl,hwalk k ⋯,getD_none f2,λ q' hq=>?_];rcases zd5 q' kn with w | w
   .show ho q' w
   .have e:Þg=JS+Δ1:=by
     have:=hwalk Δ1 ⋯
     rwa [show kn+Δ1=q' by lia] at this
    have hle:=Ő6 M h q';rw[e] at hle ⊢;show Ī9 ⋯ (f3 Δ1 ⋯)
  | none=>
   have f3:=zeR.mp hf;have occ:∀ m,m<=Γ9->i4 ċ (JS+m):=λ m hm=>by
    have hle:=Ő6 M h (kn+m);rw[hwalk m hm] at hle;show Ī9 ⋯ (Bool.eq_false_iff.mpr (f3 m (qm ⋯)))
   have hne:n'≠n:=λ e=>by
    subst e;let#[k,hk']:=occ 0 DA;rw[Nat.add_zero] at hk';rw[hk'] at h3;cases h3
   ext ë;let#[j,q,r1,r2]:=Ĵ9 M ċ hsz h fuel B4 _ (ń4 ü1 kn hk) (λ q hq=>by
    rcases zd5 q kn with w | w
    .show ho q w
    .have e:=hwalk (q-kn) ⋯;rw[show kn+(q-kn)=q by lia] at e;rw[e];show occ _ ⋯) #[n',⋯,⋯,h3]
   show#[j,q,r1,r2]
structure Lay qI (hs:á) Zg (m:Nat):Prop where
 size:Pw=M+1
 EE:∀ (j k:Nat),DP->k<m
 each:∀ Ŕ,k<m->∃ (j:Nat),DP
 once:∀ (i j k:Nat),ċ[i]?=↑↑k->DP->i=j
 dE:∀ (j k:Nat) h,DP->hs[k]?=↑h->∃ q,Ϝ7=j/\ÌK
theorem Lay.none AH HW QA OL TH(L:Ϝ9) (hm:m<=M):ËH:=by
 rcases Ũ8 (ËH) with q | q
 .show q
 .exfalso;have hall:∀ (e:Nat),e<=M->∃ (k:Nat),ċ[e]?=↑↑k:=λ e he=>by
   have hlt:e<Pw:=by rw[Ld];lia
   cases w:ċ[e] with
   | none=>show ò #[e,he,Øh] q
   | some k=>show#[k,Øh]
  have:=Ĺ0 (xs:=(Ŀ ό).map λ e=>((ċ[e]?).getD Dw).getD 0) (ys:=Ŀ m) (by
   exact zdW.mpr (Ïv ?_ zeC);intro a b ha hb hne e;exact hne ?_;let#[k,hk]:=hall a (by have:=vE ha;lia);let#[k',hk']:=hall b (by have:=vE hb;lia);rw[hk,hk'] at e;ext RZ;show L.once a b k hk hk') (λ x hx=>by
   ext ϊ5;let#[k,hk]:=hall e (by have:=vE he;lia);rw[hk];show qm (SN e k hk))
  simp at this;lia
def aw ĵ{xs:ϵ α}{j i:Nat}{a b:α}(h:(xs.setIfInBounds j a)[i]?=↑b):(i=j/\b=a)\/(i≠j/\tD=↑b):=by
 rw[zfC] at h;by_cases e:j=i
 .subst e;rw[Ź] at h;ext ç
  .cases h;show Ä Fp
  .cases h
 .rw[Df] at h;show Ã #[λ q=>e q.symm,h]
def Lay.step AH HW QA OL TH{h:Int}(L:Ϝ9) (hm:m<=M) (hh:hs[m]?=↑h):
  ∃ j,Λ7=↑j/\Lay M hs (WO) tq:=by
 let#[e,e1,e2]:=L.none hM hm;let#[n',n1,n2]:=Ŋ0 M hM h e e1;let#[j,q,r1,r2,r3,r4]:=Ĵ9 M ċ Ld h (turns M) 0 0 rfl (λ q hq=>⋯) #[n',⋯,ϊ1,by rw[n2];show e2];have hj:j<Pw:=(KL r3).1;have keep:∀ x,i4 ċ x->i4 (WO) x:=λ x #[k,hk]=>by
  have hne:j≠x:=λ w=>by subst w;rw[r3] at hk;cases hk
  show#[k,by rw[zfC,Ç hne];show hk]
 have self:(WO)[j]?=↑↑m:=by rw[zfC,Ź,Ô hj]
 exact#[j,r1,#[by simp[Ld],λ x k hx=>?_,λ k hk=>?_,λ x y k hx hy=>?_,λ x k g hx hg=>?_]]
 .rcases aw hx with ⟨_,w⟩ | ⟨_,w⟩
  .cases w;lia
  .have:=SN x k w;lia
 .rcases zd5 k m with w | w
  .let#[x,hx]:=L.each k w;have hne:j≠x:=λ w=>by subst w;rw[r3] at hx;cases hx
   show#[x,by rw[zfC,Ç hne];show hx]
  .have:k=m:=⋯;ext Ŗ;show#[j,self]
 .rcases aw hx with ⟨w1,w⟩ | ⟨w1,w⟩ <;> rcases aw hy with ⟨v1,v⟩ | ⟨v1,v⟩
  .lia
  .cases w;have:=SN y _ v;lia
  .cases v;have:=SN x _ w;lia
  .show L.once x y k w v
 .rcases aw hx with ⟨w1,w⟩ | ⟨w1,w⟩
  .cases w;rw[hh] at hg;cases hg;subst w1;show#[q,r2,λ q' hq=>keep _ (r4 q' hq)]
  .let#[q,g1,g2]:=L.dE x k g w hg;show#[q,g1,λ q' hq=>keep _ (g2 q' hq)]
theorem Ħ5 AH HW QA(hl:ue<=M+1):∀ (rest:á) Zg (m:Nat),m<=ue->hs.drop m=rest->Ϝ9->
  ∃ owner',rest.foldl (λ acc h=>do
   let (ċ,k) <- acc
   let j <- Λ7
   pure (Ôn j ↑k,k+1)) ↑(ċ,m)=↑(owner',ue)/\Lay M hs owner' ue
 | [],ċ,m,hl2,hd,L=>by
  have hm:ue<=m:=List.drop_eq_nil_iff.mp hd;have e:m=ue:=⋯;subst e;show#[ċ,rfl,L]
 | h::rest,ċ,m,hl2,hd,L=>by
  have hm:hs[m]?=↑h:=by
   have:=É2 (λ l=>l[0]?) hd;ext uM
  have hlt:m<ue:=(Š hm).1;let#[j,j1,j2]:=L.step hM ⋯ hm;have hd':hs.drop tq=rest:=by
   have:=É2 List.tail hd;ext uM
  let#[o',h1,h2]:=Ħ5 hM hl rest _ tq ⋯ hd' j2;exact#[o',?_,h2];rw[zdO,<- h1];change _=_;congr 1;change ((Λ7).bind λ j=>↑(WO,m+1))=_;rw[j1];rfl
theorem ÿ0 qI (hs:á):Lay M hs (ÛL ό Dw) 0:=by
 have no:∀ (j k:Nat),(ÛL ό (Dw:î Nat))[j]?≠↑↑k:=λ j k h=>by
  rw[Array.getElem?_replicate] at h;ext ų8
 show#[#[],λ j k h=>ò h (no j k),λ k hk=>⋯,λ i j k h=>ò h (no i k),λ j k h e=>ò e (no j k)]
theorem ï0 AH HW Ëy:∃ ċ,layClean M hashes=↑ ċ/\Lay M ϝ0 ċ ϩ7:=by
 let#[o,h1,h2]:=Ħ5 hM (hs:=ϝ0) (by exists hl) ϝ0 _ 0 DA #[] (ÿ0 M _);exact#[o,?_,ű0];unfold layClean;rw[<- Array.foldl_toList,h1];rfl
def lives qI Zg:List (Nat×Nat):=(Ŀ ό).filterMap λ j=>(ŧ6 j Dw).map (j,·)
theorem getD_some OL{j k:Nat}:ŧ6 j Dw=↑k↔ DP:=by
 unfold ű6;split
 .ext A5;rw[zB8 h];simp
 .ext A5;rw[ze0 ⋯];simp
theorem hZ AH OL(hs:Pw=M+1) {j k:Nat}:(j,k)∈ ϲ9 ↔ DP:=by
 unfold lives;rw[zeY];ext HS
 .rintro⟨x,hx,e⟩;let#[y,e1,e2]:=E_;cases (e2);show getD_some.mp e1
 .intro h;have hj:=(KL h).1;show#[j,qm ⋯,by rw[getD_some.mpr h];rfl]
def Ļ5 qI Zg:(ϲ9).Pairwise λ a b=>a.1<b.1:=by
 unfold lives;rw[List.pairwise_filterMap];exact List.Pairwise.imp ?_ List.pairwise_lt_range;intro a b hab x hx y hy;let#[_,_,e1]:=ų hx;let#[_,_,e2]:=ų hy;subst e1 e2;show hab
def ă8 AH HW (finger moves:Nat) (led plain:Bool) Ëy:
  ∃ t GF,laid M finger moves led plain hashes=↑(t,GF)/\Ā=M/\t.finger=finger/\G8=led/\UG=plain/\order.toList.Perm (Ŀ ϩ7)/\Tab t (order.toList.map Íg):=by
 let#[ċ,h1,L]:=ï0 hM hashes hl;exact#[_,_,by unfold laid;rw[h1];rfl,rfl,rfl,rfl,rfl,?_,?_]
 .change (tE Ł).toArray.toList.Perm _;rw[zeS];exact (zfT ?_ zeC).mpr λ k=>?_
  .exact zdW.mpr (Ïv ?_ (Ļ5 M ċ));intro a b ha hb hab e;have h2:=(hZ Ld (j:=a.1) (k:=a.2)).mp ha;have h3:=(hZ Ld (j:=b.1) (k:=b.2)).mp hb;have e:a.2=b.2:=e;rw[e] at h2;have:=L.once Ú GP;lia
  .rw[zC1];ext HS
   .intro h;let#[#[j,k'],h2,rfl]:=F5 h;show SN j _ (ϩ8 h2)
   .intro h;let#[j,hj]:=L.each k h;show NH #[(j,k),(hZ Ld).mpr hj,rfl]
 .have pl:∀ x,x∈ tE ĉ ↔i4 ċ x:=λ x=>by
   ext HS
   .intro h;let#[#[j,k],h2,rfl]:=F5 h;show#[k,ϩ8 h2]
   .rintro⟨k,hk⟩;show NH #[(x,k),(hZ Ld).mpr hk,rfl]
  exact#[hM,rfl,?_,?_,?_,?_]
  .change (tE ĉ).toArray.size=(Íh _).length;simp
  .change lV π5;rw[zeS];show zdW.mpr (Ļ5 M ċ)
  .intro x hx;change x<=M;have hx:x∈ π5:=hx;rw[zeS] at hx;let#[k,hk]:=(pl x).mp hx;have:=(KL hk).1;rw[Ld] at this;lia
  .intro i g x hg hx;have hx:(tE ĉ).toArray[i]?=↑x:=hx;have hg:(Íh Íg)[i]?=↑g:=hg;rw[Òi,zA3] at hx;rw[zeS,zA3,zA3] at hg;let#[p,p1,p2]:=ų hx;rw[p1] at hg;simp![PY,ZF] at hg;let#[j,k]:=p;cases p2;have hm:=ϩ8 (zB7 p1);have hk:=SN À hm;let#[q,q1,q2]:=L.dE _ k g hm (by rw[<- hg];simp[hk]);exact#[q,q1,λ q' hq=>?_];change _∈ π5;rw[zeS];show (pl _).mpr (q2 q' hq)
section
variable {ś}
abbrev rk qk:HeapKind đ (á):=Ϻ5 t5
def ϸ5 IQ ς(h:Ż3 t5 ks vs):∀ v∈vs,ÛM:=by
 induction h with
 | nil=>intro v hv;cases hv
 | cons h1 _ ih=>
  ext ÏS
  .let#[t,e]:=ύ3 h1;show#[_,t,e]
  .show ih v hv
def Ĺ6 IQ â F9(hk:u4 Rw ks a) Ž7:Â ã (Øi 8 ě) à:=by
 ext Ο1;unfold Øi;exact zg3 (zgI hT ?_);change Â À (V3 >>= _) Ϗ;exact tG;ext fz;exact ϋ0;ext ë;ext Ãp
 .ext Îk;change Â À (SU >>= _) Ú;exact tG;ext OJ;show Ñc
 ext Xv
def å8 IQ â F9(hk:u4 Rw ks a) (h:ž0):Â ã (hashByValue 8 ě) à:=by
 ext Ο1;unfold hashByValue;exact Ξ7;ext ë;exact ϋ0;ext Ãp
 .ext Îk;change Â À (V3 >>= _) Ú;exact tG;ext fz;show Ñc
 ext Xv
def É8 IQ τ F9(hk:u4 Rw ks b) (l:zLV) (hl:∀ v∈l,ËI) Ž7:
  Â ã (Øj L6 l) à:=by
 unfold Øj;exact Fz;exact zgL _ (λ rest r s'=>Ww/\s'=s/\∀ v∈rest,ËI) N9 #[rfl,rfl,hl]
 .ext Ν0;let#[k,c,rfl,hc]:=ϳ0;have rest':∀ u∈rest,∃ k c,u=ŉ c/\u4 t5 LW k c:=ÆD;ext ë;by_cases e:(b == c||(Ť3 L6&&Ť3 (Ò c)))=true
  .rw[Ô e];show Ïw
  .rw[Df];exact zg3 ((Qr).quiet hk ?_);ext fz;exact zg3 ((Qr).quiet hc ?_);ext fz;exact zg3 (Ĺ6 hk ?_);ext OJ;exact zg3 (Ĺ6 hc ?_);ext OJ;show Ïw
 ext Xv
structure iG ĥ (es:He) Fw (xs:Âs):Prop where
 es:EL=ŧ ÁO
 is:∀ e∈xs,u4 t5 h UZ
 tab:Tab t (Pf)
 cK:å<=Ā
theorem iG.fits ĝ Ť7 Hd(X:ϐ9):ŧ2:=by
 have hl:ī=å:=Τ9
 have h1:=X.tab.len;rw[zA7] at h1;have h2:=X.cK;unfold ϝ1 ş4;rw[X.tab.ik,hl,h1];simp;lia
def iG.at ĝ Ť7 Hd(X:ϐ9) ý{e:ÁP}(he:ÁQ):Pl=↑ Çg:=by
 rw[<- zD3,X.es,zA3,he];rfl
theorem Ŋ3 â BK iJ Hd{key:á}τ{Q:SetFound->ŭ}
  SK (ho:TZ) (hd:EZ=Wn) (X:Øk) (hb:àv)
  (h1:key∈ ϛ->Q (.there none) s) (h2:key∉ ϛ->∀ j,Ő7 t Jq j->Q (Ϧ j Á) s):
  ∀ (fuel k:Nat) (stand:î uU),stand.getD (t.probeStart Jq)=way jR k->(∀ m<k,ÄK)->(∃ K,k<=K/\K<k+fuel/\K<10*(Ā+15)/\(way jR K).j∉ Γ/\∀ m<K,àw ∈ Γ)->
   Â ã (Ŧ3 ό7 stand) à
 | 0,k,stand,_,_,#[K,q1,q2,_]=>⋯
 | fuel+1,k,stand,hst,hpast,#[K,q1,q2,q3,q4,q5]=>by
  have T:=X.tab;have hodd:t.gaveWay=Á:=by
   unfold SetTable.gaveWay;rcases cy with e | e | e <;> rw[e] <;> rfl
  unfold Ŧ3;ext Îv;rw[hodd];ext OJ;have hA:∀ Í g,ϻ3=↑g->Ïx=g:=λ i g hg=>by
   ext Îl;rw[X.at e1];show e2
  let#[k1,g1,g2,g3]:=ĭ5 T (Si:=λ i=>Ïx) hA Jq àx k #[K,q1,ϊ1,q4];rw[hst];have look:∀ Í g,ϻ3=↑g->∃ e,ÁQ/\Ik e.1=g:=λ i g hg=>by
   ext Îl;show#[e,e1,e2]
  have Vf:∀ m<k1,ÄK:=λ m hm=>by
   rcases zd5 m k with c | c
   .show hpast m c
   .let#[i,g,p1,p2,p3]:=g2 m c hm;let#[e,e1,e2]:=look i g p2;show#[i,e,p1,e1,λ q=>p3 (by rw[<- e2,q])]
  rcases g3 with ⟨n1,n2⟩ | ⟨i,n1,n2,n3⟩
  .have n2':t.probe _ Jq (way jR k)=_:=n2;simp![Þh] at n2' ⊢
   erw [n2]
   ext ë;exact zD1 (h2 (λ hm=>?_) _ #[n1,k1,rfl,ϳ1])
   .let#[e,he,ek]:=F5 hm;let#[i,hi]:=zfU.mp he;have hh:ϻ3=↑ Jq:=by rw[zA3,hi,<- ek];rfl
    have hil:i<KR:=by rw[U4];show (Š hh).1
    let#[kk,w1,w2]:=T.dE i À hh (zB8 hil);rcases zeD kk k1 with c | c | c
    .let#[i',e',p1,p2,p3]:=Vf kk c;rw[w1] at p1;have:i=i':=by
      rw[<- U5 T.nh (zB8 hil),<- U5 T.nh p1]
     ext Ŗ;rw[hi] at p2;cases p2;show p3 ek
    .subst c;rw[w1] at n1;show n1 #[]
    .show n1 (w2 k1 c)
   .let#[i',e',p1,_]:=Vf m hm;show Öz
  .simp![Þh]
   erw [n3]
   ext ë;let#[e,e1,e2]:=look i _ n2;have hes:=X.at e1;have hey:=X.is e (zB7 e1);have main:Â ã (uR [Tv] (LP (Ò e.2) L6) >>= λ equal=>setState a >>= λ x=>match x with
     | (es',_,t')=>if (true&&equal)=true then pure (Þi none) else
      match t'.sameMemory t.moves Ā with
      | some same=>
       have jp:=λ Xt=>match Xt with
        | none=>do
         rule "set.search.anew"
         Ŧ3 ό7 none
        | some i'=>if equal=true then pure (Þi ↑i') else Ŧ3 ό7 ↑(way jR (k1+1))
       match if same=true then t'.slot (way jR k1).j else Slot.empty with
       | .live i'=>match es'[i']? with
        | some (_,y')=>do
         let r <- isSame y' (Ò e.2)
         let Xt <- pure (if r=true then ↑i' else none)
         jp Xt
        | none=>do
         let Xt <- Pz
         jp Xt
       | _=>do
        let Xt <- Pz
        jp Xt
      | _=>Ŭ6 "set.changed-during-lookup:is-the-new-block-at-the-old-address") à:=by
    exact zg3 (zg9 ((Qr).eqBool hu hey hb ?_));ext Îv;by_cases hk:e.1=key
    .rw[zg6 hk];simp![zeP,uz];show zD1 (h1 (NH #[e,zB7 e1,hk]))
    .rw[zg7 hk];simp![zdT,zC4,HJ];have sm:t.sameMemory t.moves Ā=↑true:=by unfold SetTable.sameMemory;simp
     rw[sm];ext ë;rw[Ź,T.live n1];ext ë;rw[hes];ext ë;exact zg3 (wpAny_isSame_ref_self ?_);exact tG;rw[Ź];ext ë;have hKk:k1<K:=by
      rcases zeD K k1 with c | c | c
      .let#[i',e',p1,_]:=Vf K c;show ò (Öz) q4
      .subst c;show ò (zB7 (by rw[zD3];show n1)) q4
      .show c
     exact Ŋ3 hu BW X hb ϙ fuel (k1+1) Oz (ϳ1) #[K,⋯,⋯,q3,q4,q5];rcases zd5 m k1 with c | c
     .show Vf m c
     .have:m=k1:=⋯;ext Ŗ;show#[i,e,n1,e1,hk]
   rw[hes];by_cases hl:G8=true
   .rw[hl];ext fz;show main
   .have hl':G8=Á:=by exists hl
    rw[hl'];simp![zB2,uz];exact zg3 (É8 hb _ (ϰ2) ?_)
    .let#[p,hp,rfl]:=F5 hv;rw[Array.toList_filter,zC8,X.es] at hp;let#[#[e',he',rfl],_]:=(And.intro (F5 hp.1) hp.2)
     show#[e'.1,e'.2,rfl,X.is e' he']
    .ext OJ;show main
structure iz qk ĥ Ĥ (xs:Âs) (led:Bool):Prop where
 ex:∃ es ep t,o5/\ϐ9/\ËJ
 nd:LI
def Ő0 IB IQ{b a:Addr}iJ{c:Ï}{d:FP}{sl:Dq}(x:u4 t5 h ks b) (ho:Gr=↑{ cls:=c,dict:=d,data:=Wn,r_:=sl }) (hs:v8 a vX):u4 t5 h' ks b:=by
 ext ÊZ;have hne:b≠a:=by
  ext HZ;obtain rfl:o'=_:=π3;cases hd'
 show#[o',Ĳ,n,(hs.2 b hne).trans ho',hc,hd',hi]
theorem aI ĝ â{es es':He}fS{t t':E9}(ho:o5):(h.update a (Sj es' t')).get? a=↑{ cls:=Lg,dict:=none,data:=ÕF }:=by
 have e:Sj es' t' { cls:=Lg,dict:=none,data:=Wn }={ cls:=Lg,dict:=none,data:=ÕF }:=putSet_of es' t' rfl;have:=zgJ (Sj es' t') ho (ϟ2);rw[e] at this;show this
theorem ŕ4 rR(l:A6) (f:α->β) (d:β):∀ (GF:A4),(∀ k∈ GF,k<IA)->order.map (λ k=>(EU f).getD k d)=(ÛN λ k=>l[k]?).map f
 | [],_=>rfl
 | k::GF,h=>by
  have hk:=h k zc7;have ih:=ŕ4 l f d GF λ j hj=>h j (zc8 _ hj);rw[zA6,zeF,zA1 hk];ext ë;rw[zA6,ih];congr 1;simp[hk]
def Ĉ9 â iJ Hd O_{t6 M:Nat}Jl
  (ho:Ň a=↑{ cls:=Lg,dict:=none,data:=Wn }) (X:Øk) (hled:G8=led) (hpl:ÂC) HW ÉQ (hnd:LI)
  (h:∀ h' xs',Ta->iz Ϙ8->yh xs->Q GJ { s with heap:=h' }):Â ã (setRelay a t6) à:=by
 have hlen:ī=å:=Τ9
 have hhs:(NB).toList=Pf:=by rw[ÙX,X.es,zD6];rfl
 ext ÍL
 ext ÂT
 unfold setRelay;exact Ω9;ext ë;rw[Ç (by rw[hw];rcases hM with e | e | e <;> rw[e] <;> decide)];have hr:ÇG:=by
  ext Ðt;show h1
 rw[hr];have hes':(N1).toList=ϻ4 ÁO:=by
  ext Æn;rw[<- zD3,X.es,zA3]
 ext ÜQ;have hsz':ű8=ī:=by
  ext ÏN
 exact zg3 (m:=_) ?_;change Â À (do
  let ↑(t,GF):=↑(t',GF) | Ŭ6 "internal:set-table-without-room"
  let es':=N1
  if es'.size != ī then Ŭ6 "internal:set-table-lost-an-element"
  pure (es',t)) Ú
 ext ë;rw[Ç (by rw[hsz'];simp)];exact rh;have hsl:ű8<=Ý:=by
  rw[hsz',hlen];ext OE;rcases hM with e | e | e <;> subst e <;> lia
 exact Υ6;have sb:=Nf í a (Sj (N1) t');exact h À sb #[#[_,ep+1,t',aI ho,#[hes',λ e he=>Ő0 (X.is e Òj) ho sb,?_,?_],by rw[h4];show hled,by rw[h5];show hpl,?_],Íi hnd] LB
 .rw[<- ŕ4 xs (ϩ9) 0 ϣ0 hlt,<- hhs];show h7
 .rw[NU,h2];lia
 .rw[NU,h2];show hfew
theorem ľ6 Ď qI HW (h1:n*5<M*3) (h2:M*3<=B4*5) (hn:n<70):∃ M',Ž2 M'/\sizeAbove (grown B4)=M' + 1/\B4*5<M'*3:=by
 rcases hM with e | e | e <;> subst e
 .have:n=4:=⋯;ext Ŗ;show#[31,Ã JO,zdK,⋯]
 .have:n=18:=⋯;ext Ŗ;show#[127,Ã (Ã rfl),zdK,⋯]
 .lia
def za8 â Hd{key:á}τ O_ F9 SK (S:iz K9 ϯ led) (hb:àv) (hn:å<70)
  (h:∀ h' xs' r,Ta->iz Ϙ8->(Åp)->Ód):
  Â ã (Ũ9 a L6 Jq) à:=by
 let#[ÇH,hnd]:=S;have hlen:ī=å:=Τ9
 unfold Ũ9 Þj;exact zg9 (Ω9);ext ë;rw[Ç (by simp[byScan,Value.scannable])];let#[K,k1,k2,k3]:=X.tab.first (by rw[zA7];show X.cK) Jq;have hmk:Ā<=127:=ÈM
 exact Fz;unfold setSearch;exact Ŋ3 (key:=key) (b:=b) hu Dd X hb (λ hm=>?_) (λ hm j F=>?_) 100000 0 none rfl (λ m hm=>⋯) #[K,⋯,⋯,k1,k2,k3]
 .ext ë;exact rh;have:=h Îm #[ÇH,hnd] ÙY;show this
 .ext ë;exact Ω9;ext ë;let#[p1,p2,p3]:=X.tab.put F;ext ËY
  ext Ñs
  ext ÑI
  ext ÇW;rw[hpt];ext Q1;exact zg3 (å8 hb ?_);ext Q1;let xs1:=Ie++Ŷ1::RO
  have LB:ż3 (xs++[Ŷ1]):=by
   have e:ű9=xs:=zfB p xs;have:ż3 (Ŷ1::(ű9)):=ÙZ;rw[e] at this;show ÆE
  ext ÍG
  have hes1:(An).toList=Vr ÁO:=by
   rw[ϓ3,X.es];ext ş0
  have hsz1:(An).size=å+1:=ËK
  have hsl:(An).size<=Ý:=by
   rw[hsz1];ext OE;lia
  exact zg3 (Υ6);have sb:=Nf í a Þk;have ho1:=aI (es':=An) (t':=t1) ho;have hm7:7<=Ā:=ÈM
  have X1:iG yP (sN a Þk) (An) t1 xs1:=by
   exact#[hes1,Ų0,?_,by rw[hl1,hmt];lia]
   .rcases RX Òj with q | q
    .show Ő0 (X.is e q) ho sb
    .cases AW;show Ő0 hb ho sb
   .have:Vr (ϩ9)=(Pf).take p++Ik key::(Pf).drop p:=by ext ş0
    rw[this];show p3
  have hnd1:Þl:=by
   ext ÄQ
  by_cases hf:ϙ2=true
  .ext ÓM;have hfill:ϣ1:=by
    ext În
   have LS:Ā*3<=ż4:=by
    have:=hf;ext Wv
   let#[M',g1,g2,g3]:=ľ6 å Ā X.tab.mask hfew LS hn;rw[hlen];exact zg3 (Ĉ9 (led:=led) ho1 X1 hlt hpt g1 g2 Ûf hnd1 λ h' xs' sb' S' pm=>?_);exact rh;show h h' xs' true (sb.trans sb') S' (Ã #[hm,pm.trans LB])
  .ext Ýg
   ext ÍD;exact rh;have hfill:ϣ1:=by
    ext În
   have LS:ż4<Ā*3:=by
    have:=hf';ext Wv
   show h _ xs1 true sb #[#[_,ep+1,t1,ho1,X1,hlt,hpt,ÓQ],hnd1] Úa
end
def ž6 ο:Bool:=! Kv
def ĝ9 ο:Obj:={ cls:=Lg,dict:=none,data:=.set Ē 0 (.fresh 0 0 Mc) }
section
variable {ś}
set_option Ŧ4 3200000 in
def ò3 (a:Ï) ē(h:Q ş { s with heap:=Uw }):
  qG ã (.call (Ű "set.__new__") Ër) (wants Q E) s:=by
 exact ÕG;change Â u_ (checkBuiltinCall ÜR >>= λ _=>again (Ű ÜR)) Ϗ;exact zg3 (wpAny_of_eq (F.newCall_set_1 a) (zD1 #[Ŧ5 ÛO _,Ib F.entry_set_new ?_]));rw[ś1 ÛO _];unfold Builtin.«set.__new__» Builtin.Frozenset.newClass newSet Ų1;have sub:=sub_set_self;ext sF;ext ë
 wp_walk
 exact zgV ϸ;ext ë;simp![newObj];show zg3 (wpAny_alloc (zD1 (FT)))
def Ã1 ĝ â(ho:Gr=↑ Fd):iz Ž a [] Mc:=
 #[#[Ē,0,_,ho,#[rfl,Ôo,ÅV,#[]],rfl,rfl,Òk],Ð]
end
end ST
namespace ST
open É sD Î
section
variable {κ β:Type}[Ū6 κ]{val:ϳ2}{BD}{ks:Δ2}{ý}{xs xs':U6}
structure Up ÊA Í (xs:U6):Prop where
 own:∀ e∈xs,∃ j,j<i/\its[j]?=↑(val UZ)/\ks[j]?=↑e.1
 all:∀ PH r,j<i->ks[j]?=↑r->r∈ ϛ
theorem Ŵ1:∀ (l m:Δ2),l.Nodup->(∀ x∈l,x∈m)->IA<=Mb
 | [],m,_,_=>Dr
 | x::l,m,hn,hs=>by
  have h1:=zd7.mp hn;have hx:=hs x zc7;have:=Ŵ1 l (m.erase x) h1.2 λ z hz=>(Ób (λ e:z=x=>h1.1 (by rw[<- e];show hz))).mpr (hs z (zc8 _ hz));rw[Ïu hx] at this;have:=zf9 hx;simp![zC0];lia
def Up.len (U:Ŭ7) (nd:LI):å<=i:=by
 have:=Ŵ1 Úb ((Ŀ i).map λ j=>ks[j]?) (by
  have:Úb=(ϛ).map some:=ϓ4
  rw[this];show Øl _ (λ a b h e=>h (zD5 e)) nd) λ x hx=>by
  ext ϊ5;let#[j,h1,_,h3]:=jh;show NH #[j,qm h1,h3]
 ext uM
def Up.step {key:κ}{b:β}(U:Ŭ7) (hi:O1=↑(val key b)) (hr:ks[i]?=↑key)
  (h:Åp):Up G2 ŏ xs':=by
 have eqi:∀ j:Nat,j<i+1->¬ j<i->j=i:=λ j a b=>⋯;rcases h with ⟨hm,rfl⟩ | ⟨_,hp⟩
 .exact ÊO
  .let#[j,h1,h2]:=jh;show ÕH
  .by_cases q:j<i
   .show ÛP
   .ext ÑJ;show hm
 .exact ÊO
  .rcases RX (ày he) with q | q
   .let#[j,h1,h2]:=U.own e q;show ÕH
   .cases AW;show#[i,zE2 i,hi,hr]
  .rw[(hp.map ĉ).mem_iff,zE7];by_cases q:j<i
   .show zdN _ (ÛP)
   .ext ÑJ;show zB4 _ zc7
structure Kd qk Ar ÊA (Sa:Addr) (wr:Ε) (Se:ϓ5) (Tp:C_):Prop where
 nd:∀ {h xs},Se h xs->LI
 keep:∀ {h h' xs i},(∀ b o,b∉wr->Ϛ0)->Ŭ7->Se h xs->ÁR
 Zk:∀ {h h'},(∀ b o,b∉Sa::wr->Ϛ0)->Tp h->Tp h'
 add:∀ Μ{xs:U6}ý vN F9 ψ,Tp í->Se í xs->å<70->DS->
  (∀ h' tk xs' rr k b,v=val k b->ks[i]?=↑k->v8 Sa J4->ø<=tk->Se h' xs'->(k∈ ϛ/\xs'=xs\/k∉ ϛ/\yh (xs++[(k,b)]))->Q rr { s with heap:=h',toks:=tk })->
  Â ã àz à
variable {Kt}{ĸ}{R:ů6}{I:Addr}{fp wr:Ε}{G:Ū8->Ū8->Prop}{ā}{P:Nat->Ź0}{St:Nat->ŭ}{Sa:Addr}{Se:ϓ5}{Tp:C_}
def Ĝ7 (W:WalksS đ ux I fp wr G n (λ i v=>P i v) St) (D:Kd đ ux G2 Sa wr Se Tp) (hSf:Sa∉fp) (hP:∀ i v,P i v->DS) (hn:n<70):
  ∀ (k i:Nat) ϊ (xs:U6),n-i=k->i<=n->St i s->Se í xs->Tp í->Ŭ7->
   (∀ s' xs',Moved (Sa::wr) G s s'->Se LW xs'->Up G2 n xs'->R (.ok (ύ Ġ)) s')->
   qG ã (Ű "set.update.loop" #[[Ò Sa,Ò I],[]]) R s:=by
 have more:∀ b∈wr,b∈Sa::wr:=λ b hb=>ÀJ;intro k
 induction k with
 | zero=>
  ext ÑE;have e:i=n:=⋯;subst e;ext ÃM;show zg3 (W.done s À hst λ s' hm=>zD1 (hR s' xs (hm.mono more) Ñd hU))
 | succ k ih=>
  ext ÑE;have hlt:i<n:=⋯;ext ÃM;exact zg3 (W.item i s À hlt hst λ v s1 hPv hst1 hm=>?_);have hv:=hP i v hPv;have T1:=D.Zk (λ b o hb e=>Δ3 b o (λ z=>hb (more _ z)) e) hT;have hl:å<70:=by have:=hU.len (D.nd hS);lia
  change Â u_ (uR [v] àz >>= _) À s1;exact zg3 (zg9 (D.add T1 Ñd hl hv λ h' tk xs' rr key b ev hr sb ht S' hx=>?_));subst ev;have fr:=W.frame ŏ s1 h' tk hst1 ht λ c hc o e=>(sb.2 c (λ z:c=Sa=>hSf (z▸hc))).trans e;exact zD1 #[Ŧ5 Ðf _,ih ŏ _ xs' ⋯ hlt fr S' (D.Zk (λ c o hc e=>ÉC) T1) (hU.step hv hr hx) λ s2 xs2 hm2 S2 U2=>?_];exact hR s2 xs2 (Moved.trans W.gtrans ((hm.mono more).then_heap ht λ c o hc e=>?_) hm2) S2 U2;show ÉC
end
section
variable {Kt}{ĸ}{BD}{DN}{Sa:Addr}{wr:Ε}
def eK qk ĥ (its:zAV) IX:Prop:=∀ Í v,DS->∃ b r,v=GS/\rows[i]?=↑r/\u4 t5 h r b
def eK.at IB(T:eK Ž T3) (k:∀ Í b,O1=↑ L6->ÀO):eK đ h' T3:=λ i v hv=>by
 let#[b,r,rfl,h1,o,Ĳ,m,h2,h3]:=T i v hv;show#[b,r,rfl,h1,o,Ĳ,m,k i b hv o h2,h3]
abbrev Ī3:á->Addr->Ï:=λ _ b=>GS
def õ8 O_(hSw:Sa∉wr) SK (hoff:∀ Í b,O1=↑ L6->b∉Sa::wr):Kd đ A Ī3 T3 Sa wr (λ h xs=>iz Ž Sa xs led) (λ h=>eK Ž T3) where
 nd:=λ S=>S.nd
 keep:=λ{h h' xs i} k U S=>by
  let#[#[es,ep,t,ho,X,r],nd]:=S;exact#[#[es,ep,t,k Sa _ hSw ho,#[X.es,Ų0,X.tab,X.cK],r],nd];let#[o,Ĳ,m,g1,g2]:=X.is e he;let#[j,_,h2,_]:=jh;show#[o,Ĳ,m,k À (λ z=>hoff j e.2 h2 (zc8 _ z)) g1,g2]
 Zk:=λ k T=>T.at λ i b hi o e=>k b o (hoff i b hi) e
 add:=λ{s xs i v Q E} T S hl hv hQ=>by
  let#[b,r,rfl,hr,hb]:=T i v hv;unfold setAdd;exact zg9 (zg3 ((Qr).pyHash (k:=r) (a:=b) (A:=A) hu hb ?_));show za8 (s:={ s with toks:=ø+(Qr).draws r }) (A:=A) hu S hb hl λ h' xs' rr sb S' hx=>hQ h' _ xs' rr r b Ñt
end
section
variable {ś}
set_option Ŧ4 6400000 in
def ħ5 {κ β:Type} [Ū6 κ] {val:ϳ2}{ks:Δ2}{Se:ϓ5}{Tp:C_}uG BD ē yW (hl:Óe) ÂA
  (D:Kd đ àA G2 Ë [uA] Se Tp) (hS0:∀ h,Ke Ë=↑ Fd->Se h []) (hT0:∀ h,(∀ b o,ϑ->Gg)->Tp h)
  (h:∀ Š5 xs,ÁR->àB->Λ9):
  Ψ4:=by
 let#[c,tl,hmro]:=F.called_set.mro;have made:=F.called_set.made;have subm:=F.called_set.sub;exact ϯ5 (ÕG);change Â À (callAny (Lg) _) Ú;exact zD1 #[Ïy,Ib F.entry_type_call ?_];rw[Around.under_plain (weight_type_call_type "set" [Ο] []) rfl];have nt:=F.called_set.notType;have cc:=F.called_set.canCreate;have tc:=F.typeCall_set_1 ĭ
 ext Ρ2
 exact GZ (ò3 ĭ (E:=E) (Q:=λ obj s₁=>obj=Ϭ/\s₁={ s with heap:=Uw }) Fp) λ r s₁ hr=>?_;cases r with
 | error e=>show hr
 | ok fl=>
  cases fl with
  | ret obj=>
   let#[rfl,rfl]:=hr;have hS:(Uw).get? Ë=↑ Fd:=Ũ;have hTy:àC { s with heap:=Uw } ş "set":=#[_,hS,rfl];have li:=F.called_set.init.lookup;have bi:=F.called_set.init.bind ş
   ext Ρ2
   let s1:Α:={ s with heap:=Uw }
   exact GZ (codeAny_call_builtin (R:=wants (λ r s₂=>r=Ġ/\∃ h' tk xs,s₂={ s with heap:=h',toks:=tk }/\ÁR/\àB/\
     χ9) E) F.called_set.init.plain F.entry_set_init (check_set_init_1 hTy ?_)) λ r₂ s₂ hr₂=>?_
   .have hsz:Xd=uA:=IW À;have szne:Ë ≠ Xd:=by rw[hsz];show ū1
    have low:∀ b:Addr,b<Ë->b≠ Xd:=λ b hb=>by rw[hsz];show zB3 (ze2 hb)
    rw[<- hsz] at D;rcases hl with hl | hl
    all_goals
     let#[#[ocls,odict,odata,oslots],hol,hcl,nl,hdl]:=id hl;simp only at hcl hdl;subst hcl hdl;have hol1:=zg4 Fd hol;have sls:=F.sub_list_set;have slf:=F.sub_list_frozenset;have sts:=F.sub_tuple_set;have stf:=F.sub_tuple_frozenset;have nd:(WZ "list" == WZ "dict")=Á:=()
     have nd':(Ϫ0 == WZ "dict")=Á:=()
     have hlS:l<Ë:=zA8 hol;have hneI:l≠ Xd:=low l hlS;have hl1:=hl.push Fd;unfold Builtin.«set.__init__» noKeywords Builtin.Frozenset.updateFrom;generalize hPI:Lx=PI;unfold ĝ9 at *
     wp_walk
     subst hPI
     first | exact zgU ÚP | exact ϊ7 ÚP
     first
      | exact Ĝ7 ÌX ((Walks.list Çx).toS) ÒF
      | exact Ĝ7 ÌX ((Walks.tuple Çx).toS) ÒF
     .intro hm;ext ϕ3
      .show szne q
      .show zdC hlS (AW)
     .show hS0 _ (zg4 _ hS)
     .show hT0 _ λ b o e=>Ϫ1
     .intro s' xs' hm S' U';ext Ãm;exact zD1 (zD1 #[rfl,h',tk',xs',rfl,S',U',λ b o hb e=>?_]);exact Δ3 b o (mP) (Ϫ1);rcases Ş q with q | q
      .show zB3 hb q
      .show low ţ (AW)
   .cases r₂ with
    | error e=>show hr₂
    | ok fl₂=>
     cases fl₂ with
     | ret r=>
      let#[rfl,h',tk,xs,rfl,g1,g2,g3]:=hr₂
      ext Ρ2
      show h h' tk xs g1 g2 g3
     | _=>show hr₂.elim
  | _=>show hr.elim
def zah uG BD DN ē yW (hu:ϡ+64<İ) (hl:Óe) (hT:eK K9 T3) ÂA
  (h:∀ Š5 xs,iz áF->Up Ī3 T3 nF xs->Λ9):
  Ψ4:=by
 exact ħ5 hh hl hn (õ8 #[] (show ϡ+1+1+1<İ by lia) λ i b hb hm=>?_) (λ h e=>Ã1 e) (λ h k=>hT.at λ i b _ o e=>k Ϙ) h;let#[b',r,e,_,o,_,_,ho,_]:=hT i _ hb;cases e;have:=P0;ext ϕ3
 .show zB3 this q
 .show zB3 (ze2 this) (AW)
end
end ST
namespace ST
open É sD
section facts
def Å5:Manifest.owners.lookup (String.ofList ['r','o','t','a','r','e','t','i','_','t','e','s'].reverse)=↑Manifest.sig_set_iterator:=by kernel_rfl
def fq:Slot "set_iterator" "__next__" "set_iterator.__next__":=
 .of (ċ:="set_iterator") (n:="__next__") Ãq
def õ2:ÁS table "set_iterator.__next__"=↑Builtin.«set_iterator.__next__»:=entryFor_of_tree Ś0
theorem Ĉ3 (a:Ï):argsOk "set_iterator.__next__" #[[a],[]]:=by
 unfold argsOk;rw[àD (id:="set_iterator.__next__") (n:=['_','_','t','x','e','n','_','_']) ÃH]
 kernel_rfl
def À1:ÁS table "set.__iter__"=↑Builtin.«frozenset.__iter__»:=Þm (id':="frozenset.__iter__") áG
def ĩ4:Slot "set_iterator" "__iter__" "set_iterator.__iter__":=
 .of (ċ:="set_iterator") (n:="__iter__") Ãq
def ÿ7:ÁS table "set_iterator.__iter__"=↑Builtin.«dict_keyiterator.__iter__»:=Þm (id':="dict_keyiterator.__iter__") áG
theorem zaU (a:Ï):argsOk "set_iterator.__iter__" #[[a],[]]:=by
 unfold argsOk;rw[àD (id:="set_iterator.__iter__") (n:=['_','_','r','e','t','i','_','_']) ÃH]
 kernel_rfl
end facts
theorem Ġ1 ĵ:∀ (l:A6) Í (x:α),l[i]?=↑x->l.Perm (x::l.eraseIdx i)
 | [],i,x,h=>A2
 | y::l,0,x,h=>by simp at h;subst h;simp
 | y::l,i+1,x,h=>by
  have ih:=Ġ1 l i x tK;rw[List.eraseIdx_cons_succ];show (ih.cons y).trans (.swap x y _)
theorem ŀ6 ĵ(next:ż1):∀ (f k:Nat) (left:A6) (out:ϵ α),Ϫ2=f->(ϣ2 next f k left out).toList.Perm (Pm++left)
 | 0,k,left,out,h=>by
  cases left with
  | nil=>unfold ϣ2;simp
  | cons _ _=>simp at h
 | f+1,k,left,out,h=>by
  unfold ϣ2;have hlt:next k%Ϫ2<Ϫ2:=zeQ _ ⋯;rw[zA1 hlt];ext ë;exact (ŀ6 next f š À (by rw[List.length_eraseIdx_of_lt hlt];lia)).trans ?_;rw[Array.toList_push,zE8];show (Ġ1 left À (zA1 hlt)).symm.append_left _
theorem À0 ĵ(next:ż1) (xs:ϵ α):(ϻ5 next xs).toList.Perm QO:=by
 unfold ϻ5;exists ŀ6 next AB 0 QO Ē #[]
def X2 ο Ĥ ţ1:He:=if Kv=true then ϻ5 (w.params.setOrder a ep) es else es
def ň1 ο Ĥ ţ1:(EK).toList.Perm EL:=by
 unfold X2;split
 .show À0 À
 .show IY
def jQ Ĥ (slot i n ep:Nat):Obj:={ cls:=ů "set_iterator",data:=A_ [rb slot,rb i,õ,rb n,rb ep].toArray }
def ND Fw:ż1
 | 0=>0
 | i+1=>Š4+1
theorem zaN {t:E9}(hr:lV Γ):∀ i,i<=KR->EE Dl (ND t i)=i
 | 0,_=>by
  let#[h1,h2,h3]:=ZI (xs:=Dl) (j:=0) hr;rcases ÕE (EE Dl 0) with q | q
  .show q
  .have:=h2 0 ⋯ q;lia
 | i+1,hi=>by
  have hd:Š4=Dl[i]:=Ś7 ⋯;change EE Dl (Š4+1)=i+1;rw[hd];let#[h1,h2,h3]:=ZI (xs:=Dl) (j:=ÁT) hr;have nh:∀ a b (ha:a<KR) (hb:b<KR),a<b->Dl[a]<Dl[b]:=λ a b ha hb hab=>by
   have r:=zeN.mp hr a b (by exists ha) (FZ) hab;rw[zdZ,zdZ] at r;show r
  rcases zeD (EE Dl (ÁT)) ŏ with q | q | q
  .have:=h3 i ć;lia
  .show q
  .have a:=h2 ŏ ⋯ q;have b:=nh i ŏ ć ⋯;lia
structure nv ο ĥ Ĥ ţ1 Fw:Prop where
 get:o5
 fits:ŧ2
 nh:lV Γ
 led:G8=ž6 w
 plain:ÂC
theorem nv.size Il ĝ â iJ(S:ũ0):KR=ī:=by
 have:=S.fits;simp![ϝ1,zE5,Ų2] at this;show this.1
section
variable {ś}
def ł2 â iJ ý{Q:î (Ï ×Nat)->ŭ}rn (hi:i<=ī) (slot:Nat) (hs:τ0)
  (h:∀ FJ,Úc->Q ((EK)[i]?.map λ e=>(e.2,FJ)) s):Â ã (setNext a slot i ep) à:=by
 unfold setNext Ų1;exact Χ9;ext ë;exact zg3 (ϣ3);change Â Ðu à;cases hb:Kv with
 | true=>
  rw[Ź,PN];unfold setWalk Ų1;exact zg3 (Χ9);ext ë;exact zg3 (ϣ3);change Â Ðu _ E s;rw[HM];exact ϣ3;exact rh;have:=h slot (λ q=>by rw[hb] at q;cases q);unfold X2 at this;rw[HM] at this;show this
 | Á=>
  rw[PN];split
  .rename_i hd;have hd':Øm=true:=hd;rw[S.plain] at hd';simp at hd'
  .change Â _ A ((if (! G8&&!es.isEmpty)=true then Ŭ6 "set:maker-not-led" else ÁU) >>= _) à;have hl:G8=true:=by rw[S.led];unfold ž6;rw[hb];rfl
   rw[Ç (by rw[hl];simp)];exact zg3 TQ;have hsl:=hs hb;have hz:=S.size;rw[hsl,zaN S.nh i (by rw[hz];show hi)];have:=h (ώ7) (Ic);unfold X2 at this;rw[Ç (by rw[hb];simp)] at this;rcases zd5 i ī with q | q
   .have hp:i<KR:=by rw[hz];show q
    rw[zB8 q] at this;rw[zB8 q,zB8 hp];have e:ώ7=ÁT:=by change Š4+1=_;rw[Ś7 hp]
    rw[e] at this;show this
   .rw[ze0 q] at this;rw[ze0 q];show this
def Ķ8 {a I:Addr}{slot i n ep:Nat}(ho:Îc):Ge RC "set_iterator":=MD
def ķ8 Ŕ:(UB).toNat=k:=zdP k
def ï5 {I a:Addr}iJ{i slot:Nat}{e:Int× Ï}Ox(ho:Ň I=↑ Ôp) rn (hs:τ0) (he:Þn)
  (hi:i<ī) (h:∀ h' FJ,Úc->ϝ I=↑(jQ a FJ ŏ AX)->v8 I J4->Q ↑e.2 { s with heap:=h' }):Òl:=by
 ext ße;exact zg3 (ł2 S ⋯ slot hs àE);rw[ķ8] at hs' ⊢;rw[he];dsimp only[PY];exact Óf;have o1:=zgJ (Ŧ6 (·.set! 0 (QZ (FJ:Int) 0))) Dd;exact zg3 (zgM o1 rfl RH);have o2:=zgJ (Ŧ6 (·.set! 1 (QZ (Hh+1) 0))) o1 rfl;exact zD1 #[_,rfl,zD1 (h _ FJ hs' o2 ((UN).trans (UN)))]
def Ą7 {I a:Addr}iJ{slot:Nat}Ox yW (ho:Ň I=↑(jQ a slot ī AX)) rn (hs:Kv=Á->slot=ND t ī)
  (h:∀ h',Ϫ3 I J4->ς4):Òl:=by
 have hn:(EK)[ī]?=none:=by
  ext Ùe;rw[ze0 ⋯]
 ext ße;exact zg3 (ł2 S #[] slot (Ϯ8) àE);rw[ķ8,hn];dsimp only[Option.map_none];exact Óf;exact Fz;ext ÜS;exact zg3 (zgB ?_ ϝ2);exact ÂK;unfold raiseNew;ext Ëz;exact zg3 (Ñe);exact zg3 (Óg);show zD1 (h _ Υ0)
def Ď0 {I a:Addr}{slot i n ep:Nat}ē(ho:Îc) (h:Q RC s):Â ã (Lx RC) à:=by
 exact Ş5 dB ĩ4 (zg8 ĩ4 dB ÿ7 ?_ (zaU _));show zD1 #[_,rfl,"set_iterator",_,Ķ8 ho,fq.lookup,h]
def nv.keep IB â iJ(S:ũ0) (k:∀ o,Bp->ϝ a=↑o):nv w h' a tj:=#[k _ S.get,S.fits,S.nh,S.led,S.plain]
def ë6 yW (I a:Addr) (hne:a≠I) ţ1 Fw:
  Walks đ A I [I,a] [I] ī (λ i v=>∃ e,Þn/\v=e.2) (λ i h=>(∃ slot,(τ0)/\Ke I=↑ Ôp)/\ũ0) where
 sub:=λ b hb=>by simp at hb;simp[hb]
 frame:=λ _ _ _ st k=>by
  ext XH;show#[#[slot,h1,k I #[] _ h2],S.keep λ o e=>k a #[] o e]
 item:=λ i s Q E hi st hQ=>by
  ext XH;have hl:i<(EK).size:=by
   ext Ùe;lia
  exact ï5 h2 S h1 (zB8 hl) hi λ h' FJ g1 g2 g3=>?_;show hQ _ h' ø #[_,zB8 hl,rfl] #[#[FJ,g1,g2],S.keep λ o e=>(g3.2 a hne).trans e] λ b o hb e=>(g3.2 b (QF)).trans e
 done:=λ s Q E st hQ=>by
  ext XH;show Ą7 hh h2 S h1 λ h' g=>hQ h' ø λ b o hb e=>g b o (QF) e
 self:=λ _ _ _ _ st hQ=>by
  ext XH;show Ď0 h2 hQ
def Ě8:typeLookup (Lg) "__len__"=pure ↑(Ű "set.__len__"):=F.slot_set_len.lookup
def split_len:splitId "set.__len__"=↑("set","__len__"):=by ext Bs
def Ò9 â iJ F9 rn Ž7:Â ã (setDrawn a) à:=by
 unfold setDrawn Ų1;exact Χ9;ext ë;exact zg3 (zg3 (zgV TQ));change Q (! Kv&&Øm) s;rw[S.plain];exists h
set_option Ŧ4 4000000 in
theorem Ċ8 â iJ F9 rn Ž7:Â ã (Íj ě) à:=by
 have Ty:Ge ě "set":=#[_,S.get,rfl];unfold Íj;exact zg3 (zgP Ty Ě8 ?_);ext ë;rw[split_len];ext ë;exact zg3 (zgN (b:=true) Ty sub_set_self ?_);rw[Ç ()];rw[Ô rB];exact zg3 (zgI Ty ?_);show FT
set_option Ŧ4 4000000 in
def Č3 â iJ{Q:Nv}yW rn (hn:ī<=Ý)
  (h:∀ Š5,(χ9)->Ë<=Ϡ5->Q (ϊ2) { s with heap:=h',toks:=tk }):Â ã ť9 à:=by
 have ha:a<Ë:=zA8 S.get;unfold Δ5;exact zg3 (ψ8 (Ib F.entry_proto_collect ?_));rw[ś1 F.plain_proto_collect _];change Â u_ (Ű8 >>= λ l=>again (Ű "list.__iadd__" #[[l,õ],[]])) Ϗ;exact zg3 (zgB (zD1 #[Ŧ5 Øn _,Ib F.entry_list_iadd ?_]));rw[ś1 Øn _];let L0:Obj:={ cls:=ł,data:=ÒS }
 have S1:nv w (Ĩ L0) a tj:=S.keep ϳ3;have T1:àC { s with heap:=Ĩ L0 } ě "set":=#[_,S1.get,rfl];change Â u_ (HN ş ě ş) À { s with heap:=Ĩ L0 };unfold HN;exact zg3 (zgI T1 ?_);have hne:Ë ≠a:=zdC ha;have c1:Ïz ş ě=Á:=by simp[Ïz,hne]
 rw[Ç (by rw[c1];decide)];exact zg3 (Ş5 T1 ÛQ (zg8 ÛQ T1 À1 ?_ (F.args_set_iter_1 _)));exact zg3 (zg3 TQ);exact zg3 (zg3 (zg3 (zgE ÚQ TQ)));exact zg3 (Ò9 S1 ?_);rw[Ç ()];exact tG;exact zg3 (wpAny_setEpoch_of ÚQ ?_);exact zg3 (zgB (zD1 #[_,rfl,"set_iterator",_,Oy,fq.lookup,?_]));let I:=M9
 let h2:=(Ĩ L0).push Þo
 have S2:nv w h2 a tj:=S1.keep ϳ3;have hI:Δ6 I=↑ Þo:=Ũ;have hL:Δ6 Ë=↑L0:=zg4 _ (Ũ);have hsz:M9=uA:=IW À;change Â u_ Ú { s with heap:=h2 };exact zg3 (zg9 (Ċ8 (s:={ s with heap:=h2 }) S2 ?_));rw[Ô rB];exact zg3 (zgH ?_);exact Fz;change Â u_ (updateSeq Ë (·.push Ġ) >>= λ _=>updateSeq Ë (·.pop)) À { s with heap:=h2 };exact zg3 (ÛR hL Gb);have hL2:=zgJ Ôq hL rfl;exact ÛR hL2 Gb;have hL3:=zgJ Þp hL2 rfl;let h3:=(h2.update Ë Ôq).update Ë Þp
 have oth:∀ b o,b≠ Ë->ϗ3->h3.get? b=↑o:=λ b o hb e=>π2 (π2 e);have haI:a≠I:=by change a≠ M9;rw[hsz];show zB3 (ze2 ha)
 have hIn:I≠ Ë:=by change M9 ≠_;rw[hsz];show zdC (zE2 _)
 exact zD1 #[Ŧ5 F.plain_extend_loop _,codeAny_extend_loopS ((ë6 (A:=ux) hh I a haI tj).toS) hn Ë ?_ _ ī 0 { s with heap:=h3 } Ē Oz DA #[#[0,Ic,oth I _ hIn hI],S2.keep λ o e=>oth a o (Ĭ hne) e] hL3 (ItemsOf.nil _) λ s' acc c' hm hS' hacc=>?_]
 .intro hm;ext ϕ3
  .show hIn q.symm
  .show hne (AW)
 .exact zg3 (Ϯ9 hS' ϸ);ext Ãm;have hcm:(EK).size=ī:=by
   have:=Çh;ext uM
  have e:acc.toList=ϊ2:=by
   exact List.ext_getElem? λ j=>?_;rw[zA3];rcases zd5 j ī with q | q
   .have hjl:j<acc.size:=Ûg
    have hj:acc[j]?=↑acc[j]:=zB8 hjl;let#[e,e1,e2]:=hacc.2 j _ hj;rw[zD3,zD3,hj,e1,e2];rfl
   .rw[zD3,zD3,ze0 (Ûg),ze0 (by rw[hcm];show q)];rfl
  rw[e];exact h h' tk' (λ b o hb e=>Δ3 b o (mP) (oth b o (zB3 hb) (Ϫ1))) ?_
  .rcases Ş q with q | q
   .show zB3 hb q
   .have q':b=M9:=AW;rw[hsz] at q';show zB3 (ze2 hb) q'
  .show zE3 (zA8 hS')
end
end ST
namespace ST
open É sD Î L4
section
variable {ś}
def ĸ1 â iJ yW rn (hz:ī<=Ý) (Q':Nv)
  (h:∀ h1 tk,Õv->Ë<=Ũ3->Q' (ϊ2) { s with heap:=h1,toks:=tk }):Â ã ť9 Q' E s:=
 Č3 hh S hz λ h1 tk k1 k2=>h h1 tk (λ b o _ q=>k1 b o (zA8 q) q) k2
end
end ST
namespace ST
open É sD Ü Î L2
def wa ο Ĥ K0:C_:=λ h=>∃ es ep t,ũ0/\àF Ł=us
def wa.kR Il â Ń{h1 h2:Heap}(S:wa w a us h1) (k:ÉE):wa w a us h2:=by
 let#[es,ep,t,S,e]:=S;show#[es,ep,t,S.keep k,e]
def iz.at Kt ĝ â Hd(S:iz Ž ϯ Mc):wa w a ϑ0 h:=by
 let#[#[es,ep,t,ho,X,h1,h2,h3],_]:=S;show#[es,ep,t,#[ho,X.fits,X.tab.nh,h1,h2],by rw[X.es,zD6];rfl]
section
variable {Æ}
theorem Ī5:∀ Ad Ń,Ű0->∀ Kt,Ż3 t5 ns us
 | [],_,Ð,_,_=>Ð
 | t9,_,rq,prog,w=>by
  let#[tk,rfl]:=r;show Ó (Þq) (Ī5 t)
def zae ę W9:xH X (Lg) (λ xs H Q=>∃ p ys,∃ rows:ű,υ/\W8/\L4.i0 ė SV/\Ss/\
  ∀ E8 K0 (ps:DJ),uB->Vals O7 us->Ôr->(Fj).Nodup->Òm->Ôs):=by
 ext ÆU;obtain⟨its,rv,pl,hz⟩:∃ its,ϧ7/\(vg p Ĵ\/OS p Ĵ)/\True:=by
  ext ť0
  .let#[its,rv,pl,_]:=Ow;show#[its,rv,Ä IV,ϖ]
  .let#[its,rv,pl,_]:=Ly;show#[its,rv,Ã pl,ϖ]
 have hl:=VN;have hlr:ν=Υ7:=Al hr;have kg:eK Ů í Ĵ rows:=λ i v hv=>by
  have hv':DS:=Ϸ1
  have hi:i<E7:=(Š hv').1;let#[hne,b,hb,hsq]:=àG hr (i:=i) ßf;have hy:ys[i]?=↑(Ga b):=by
   rw[zA1 ⋯];have:ys.getD i V.zx=ys[i]'⋯:=by simp[show i<ν by lia]
   rw[this] at hb;rw[hb]
  let#[v',e1,e2]:=Te hy;rw[hv'] at e1;cases e1;cases (show v=ŉ b from e2);let#[its2,rv2,#[o,e,hcl,n,hd],_]:=ξ hsq;exact#[b,Ť1,rfl,?_,o,Qu,n,e,hcl,hd,by exists Ī5 rv2];simp[show i<Υ7 by lia]
 have hh:Š9:=I_;exact zah (A:=X.A) hh hu pl kg Ñu;ext ËW;have hfr:HX:=AF;have hSO:=S.at;have vals:Vals ((μ8).map ĉ) ϑ0:=by
  clear S U hSO
  induction xs with
  | nil=>show Ð
  | cons e xs ih=>show Ó rfl ih
 have snd:(μ8).map Ł=ϛ:=ϓ4
 exact#[Ϭ,_,Ι (t':=tk) (o:=vF (wa X.w Ë ϑ0)) kk ľ ?_,rfl,q À (μ8) hfr vals (Jv) (by rw[snd];show S.nd) λ r hr'=>?_]
 .ext Ðv;show ÆW
 .ext ϊ5;let#[j,j1,j2,j3]:=jh;have hj':its[j]?=↑(Tv):=by exists j2
  have hjl:j<ν:=by rw[hl];show (Š hj').1
  let#[v',e2,e3]:=Te (zA1 hjl);rw[hj'] at e2;cases e2;let#[hne,b,hb,_]:=àG hr (i:=j) ßf;have:ys.getD j V.zx=ys[j]:=by simp[hjl]
  rw[this] at hb;rw[hb] at e3;cases (show Tv=ŉ b from e3);exact zB7 (i:=j) ?_;rw[ÎF];show#[by rw[zA1 hjl,hb],j3]
 .rw[snd];let#[j,hj]:=zfU.mp hr';show U.all j r Éb
theorem Paired.mk Ŗ5:∀ af{m:Ts},IA=Mb->(∀ Í a b,l[i]?=↑a->m[i]?=↑b->F a b)->Ņ F l m
 | [],[],_,_=>Ð
 | a::l,b::m,h,f=>Ó (f 0 a b L7) (Paired.mk tK λ i x y hx hy=>f ŏ x y (by exists hx) (by exists hy))
 | [],ť,h,_=>A2
 | ť,[],h,_=>A2
theorem zad ę:xH X ş3 (λ xs H Q=>∃ l us vs,∃ rs:ű,xs=[Ο]/\H l=↑ Xe/\Km/\L4.i0 ė vs rs/\ϻ6<64/\L4.bz (Q7 rs) H Q):=by
 ext Öh;let#[l,us,vs,rs,rfl,hl,hv,hr,pz,q]:=h;ext ÆK
 ext ÆR
 let#[qs,q1,q2]:=L4.Paired.perm hp Úd;have hzl:ÛS<64:=ÛT
 have hes:ī<=Ý:=by
  have h1:Ϡ=ÛS:=Al Úd;have h2:=É2 NJ eu;rw[zA7,zD2] at h2;ext OE;lia
 show L4.ņ7 I (λ Q' h=>ĸ1 (by show I_) S hes Q' h) q2 (by rw[q1.length_eq];show hzl) λ p ps hf hp hs=>q p ps hf (hp.trans q1) hs
end
end ST
namespace L5
open É Ü L2 L3
open Î hiding St
def pH:ű->ű
 | []=>[]
 | r::rs=>if r∈ BZ then BZ else r::BZ
theorem cg {r:á}:∀ {rs:ű},r∈ BZ ↔r∈rs
 | []=>.rfl
 | x::rs=>by
  unfold pH;split
  .ext A5;rw[cg,zA5];show#[Ã,λ h'=>h'.elim (λ e=>e▸cg.mp h) id]
  .rw[zA5,zA5,cg]
theorem aX:∀ rs:ű,(BZ).Nodup
 | []=>Ð
 | x::rs=>by
  unfold pH;split
  .show aX rs
  .ext A5;show zd7.mpr #[h,aX rs]
theorem aY:∀ rs:ű,(BZ).length<=ϻ6
 | []=>EI
 | x::rs=>by
  unfold pH;have:=aY rs;split <;> simp![zC0] <;> lia
def lq:xC:=λ ds S Q=>match ds with
 | [d]=>∃ rows:ű,K3=↑ aH/\Ss/\χ7/\∀ l,vA->Q ĭ (ups S l (Ñ ((JZ (pH rows)).map nZ)))
 | _=>Þ
def dr:zLO
 | Oa=>Ι0
 | [ĺ]=>Ι0
 | _=>none
def ö8:ph zm dr lq:=λ S Z ys z ds Q hz hv e hq=>by
 have key:∀ y ts,ys=[y]->ϲ2->(Ι0)=↑z->lq Io:=λ y ts ey et e'=>by
  subst ey;ext Ig;let#[rs,e1,e2]:=XN;ext Ő
  .ext Ů3;cases ņ5 e1;let#[es,h2,h3]:=MB et;cases fj.mp h3;show#[rs,h2,Bu,hc.2,Èb]
  ext ĳ
 unfold dr at e;ext ó
 .show key À L7 e
 .show key À L7 e
 .cases e
section
variable {Ù}{č}{VM}
def lq.mo:qV lq:=λ ds S Q Q' hq h=>by
 unfold lq at h ⊢;ext ç
 .let#[rows,h1,h2,h3,h4]:=h;show#[rows,h1,h2,h3,Ðg]
 .show ï
def lq.fits Il:pR K lq (λ xs H Q=>∃ p ys,∃ rows:ű,υ/\eG/\ϐ3/\Ss/\
  ∀ E8 K0 (ps:DJ),uB->Vals O7 us->Ôr->(Fj).Nodup->Òm->
   ∃ l' us' vs',∃ rs':ű,ÛU/\ÊP/\Vals vs' us'/\L4.i0 K uW vs' rs'/\rs'.length<64/\L4.bz (vs'.zip rs') uW Q):=λ xs ds H S Q h0 h2 h=>by
 unfold lq at h;ext ç
 .rename_i d;ext LY;let#[rows,e,pz,hne,h]:=h;obtain⟨a,ys,rfl,g1,g2⟩:∃ a xs,ż/\(Jd\/sT)/\zv Å aH xs:=by
   by_cases hn:∃ ts,d=ĺ
   .let#[ts,rfl]:=hn;cases e;ext DQ;let#[a,xs,q1,q2,q3]:=h1;show#[a,xs,q1,Ã q2,q3]
   .let#[a,ys,q1,q2,q3]:=jA ϙ e (λ ts z=>hn #[ts,z]);show#[a,ys,q1,Ä q2,q3]
  exact#[a,ys,rows,rfl,g1,aA g2 hne,pz,λ l us ps hf hv sub nd all=>?_];have mem:∀ r,r∈ Fj ↔r∈rows:=λ r=>#[λ h=>by
   let#[q,hq,rfl]:=F5 h;show (zeG (sub q hq)).2,all r]
  have x1:Ext H uW:=SF;have g3:Ïo:=zv.aJ λ q hq=>zv.bP g2 q (sub q hq);have hper:(Fj).Perm (pH rows):=(zfT nd (aX rows)).mpr λ r=>by rw[mem,cg]
  have hzip:(Eo ĉ).zip (Fj)=ps:=by rw[List.zip_map',List.map_id''];intro a;rfl
  exact#[l,us,Eo ĉ,Fj,rfl,yF,hv,aA (Ζ x1 _ g3) λ r hr=>hne r ((mem r).mp hr),by rw[hper.length_eq];have:=aY rows;lia,λ p qs hp hi hs=>?_];rw[hzip] at hi;have heq:=L4.Ľ1 ((hi.map Ł).trans hper) hs;ext ÊD
  ext ÔZ
  have x2:Ext uW (upd uW p (Ñ (qs.map ĉ))):=Mz;have r1:yu K uW S:=nC hf;exact h ØQ (r1.ups x2 ϗ4);rw[<- heq];show Ζ ϋ1 _ (zv.aJ λ q hq=>zv.bP g2 q (sub q (hi.mem_iff.mp hq)))
 .show ï
end
end L5
namespace ST
open É sD Î
theorem Ň0 í2 se:∀ (f k K:Nat),k<=K->K<k+f->ŝ7 ∉ Γ->(∀ m<K,Þe ∈ Γ)->Et t (λ _=>h+1) h f (Vc)=↑ Ùb
 | 0,k,K,h1,h2,_,_=>⋯
 | f+1,k,K,h1,h2,h3,h4=>by
  by_cases e:k=K
  .subst e;unfold Et;rw[T.empty h3,ŝ5]
  .let#[i,g,p1,_]:=T.at (h4 k ⋯);have ih:=Ň0 T h f š K ć h3 h4
   conv=>lhs;unfold Et
   ext ϟ6;rw[Ç (by intro q;have:=Z8 q;lia),Ō2];show ih
theorem Ü7 í2 (hl:ue<=Ā) se:∃ j,t.freeSlot h=↑(j,Á)/\Ő7 t h j:=by
 let#[K,k1,k2,k3]:=T.first hl h;exact#[ŝ7,?_,#[k2,K,rfl,k3]];have g:=Ň0 T h àx 0 K DA (ϊ1) k2 k3;unfold SetTable.freeSlot;have e:t.probe (λ _=>h+1) h (t.probeStart h)=↑ Ùb:=g;rw[e];rfl
structure gJ qk ĥ Ĥ (xs:N7) (led:Bool):Prop where
 ex:∃ es ep t,o5/\Ϫ4/\Tab t (ŧ Na)/\ËJ
 nd:LI
section
variable {ś}
def Δ7 Ť7 QA ā(h1:ī=n) (T:Tab t hs) (h2:ue=n) (h3:n<=Ā):ŧ2:=by
 have l:=U4;unfold ϝ1 ş4;rw[T.ik,h1,l,h2];simp;lia
def Ŋ8 {n m:Int}O9:(u7).is n (Ê m t)=true↔n=m:=by
 ext HS
 .intro h;let#[t',e]:=ύ3 (show Qm n (Ê m t)=true from h);cases e;rfl
 .ext HZ;show Þq
def Í6 {es:He}vW(h:Ϫ4):ElemsOf t5 EL:=λ e he=>by
 rw[h] at he;let#[x,_,rfl]:=F5 he;show#[#[x.1,Ų3,rfl],rfl]
def Ô3 Ť7 vW{M t6:Nat}(he:Ϫ4) HW ÉQ:
  ∃ es' t',∃ xs':N7,relayAll t es t6=(es',t',Á)/\es'.toList=xs'.map (WD)/\yh xs/\Tab t' (xs'.map Na)/\t'.mask=M/\t'.led=G8/\t'.plain=UG/\es'.size=ī:=by
 ext Ο9
 have hhs:(NB).toList=ŧ Na:=by rw[ÙX,he,zD6];rfl
 ext ÍL
 ext ÂT
 have hr:ÇG:=by
  ext Ðt;show h1
 have hes':(N1).toList=ϻ4 WD:=by
  ext Æn;rw[<- zD3,he,zA3]
 ext ÜQ;have hsz':ű8=ī:=by
  ext ÏN
 have hT:Tab t' (ϻ4 Na):=by
  rw[<- ŕ4 xs (Na) 0 ϣ0 hlt,<- hhs];show h7
 exact#[_,t',_,?_,hes',LB,hT,h2,h4,h5,hsz'];have zU:coversAll GF ī=true:=by
  unfold coversAll;rw[List.isPerm_iff,hlen];show h6
 have fit:t'.fits ű8=true:=Δ7 (n:=å) (by rw[hsz',hlen]) hT (by rw[zA7,NU]) (by rw[h2];lia);unfold relayAll;rw[hr];ext ë;rw[zU,fit];rfl
def add_int â vW{n:Int}{tk:Tok}O_ F9(S:gJ K9 ϯ led) (hn:å<70)
  (h:∀ h' xs' r,Ta->gJ Ϙ8->(n∈ ϛ/\xs'=xs\/n∉ ϛ/\yh (xs++[ż5]))->Ód):
  Â ã (Ũ9 a ϻ7 (AJ n)) à:=by
 have S0:=S;let#[#[es,ep,t,ho,he,T,hled,hpl,hfew],hnd]:=S;ext Ο9
 have hm7:Þr:=Êz
 have fit:ŧ2:=ËL;have hel:=Í6 yP he;unfold Ũ9 Þj;exact zg9 (zg3 (zgE Dd fit ?_));ext ë;have bs:byScan ϻ7 es=true:=by
  have h1:æ (ī<scanBound)=true:=zg6 (by unfold scanBound;lia);have h2:es.all (·.2.scannable)=true:=by
   rw[Array.all_eq_true_iff_forall_mem];intro e hm;show (hel e (by exists hm)).2
  unfold byScan;rw[h1,h2];rfl
 rw[Ô bs];exact Fz;unfold setAddByScan;exact zg3 (zgH (zg3 (wpAny_setScan_of (k:=n) (Ų3) Dd fit hel ?_)));have hfind:(ÈB).isSome=true↔n∈ ϛ:=by
  rw[he,List.findIdx?_isSome,zD0];ext HS
  .rintro⟨e,hm,q⟩;ext ÜT;show NH #[x,hx,(Ŋ8.mp q).symm]
  .intro hm;ext ÜT;show#[_,NH #[x,hx,rfl],Ų3]
 cases hc:ÈB with
 | some j=>
  ext ë;have hm:=hfind.mp (by rw[hc];rfl);exact rh;ext ë;show zD1 (h Îm S0 ÙY)
 | none=>
  ext ë;have hm:n∉ ϛ:=λ q=>by have:=hfind.mpr q;rw[hc] at this;cases this
  let#[j,fs,F]:=Ü7 T (by rw[zA7];lia) (AJ n);let#[p1,p2,p3]:=T.put F;ext ËY
  ext Ñs
  ext ÑI
  ext ÇW;let xs1:=Ie++ż5::RO
  have LB:ż3 (xs++[ż5]):=by
   have e:ű9=xs:=zfB p xs;have:ż3 (ż5::(ű9)):=ÙZ;rw[e] at this;show ÆE
  ext ÍG
  have hes1:(PM).toList=Vr WD:=by
   rw[ϓ3,he];ext ş0
  have hsz1:Ŷ2=å+1:=ËK
  have T1:Tab t1 (Vr Na):=by
   have:Vr (Na)=(ŧ Na).take p++AJ n::(ŧ Na).drop p:=by ext ş0
   rw[this];show p3
  have fit1:t1.fits Ŷ2=true:=Δ7 (n:=å+1) hsz1 T1 (by rw[zA7,hl1]) (by rw[hmt];lia);have hlay:layNew t es (AJ n) ϻ7=(PM,t1,Á,Á):=by
   unfold layNew;rw[fs];ext ë;rw[hT];ext ë;unfold SetTable.orStandIn;rw[fit1];rfl
  have hsl:Ŷ2<=Ý:=by
   rw[hsz1];ext OE;lia
  have hnd1:Þl:=by
   ext ÄQ
  have ho1:=aI (es':=PM) (t':=t1) ho;have sb:=Nf í a (Sj (PM) t1);have hfill:ϣ1:=by
   have l:=T1.len;rw[zA7,hl1] at l;unfold ş4;rw[T1.ik,l];simp
  rw[hlay];ext ë;exact zg3 (m:=ÁU) ϸ;rw[hpt];ext Q1;exact zg3 (m:=V3) ϸ;ext Q1;exact zg3 (Υ6);by_cases hf:ϙ2=true
  .ext ÓM;have LS:Ā*3<=ż4:=by
    have:=hf;ext Wv
   let#[M',g1,g2,g3]:=ľ6 å Ā cy hfew LS hn;let#[es2,t2,xs2,r1,r2,r3,r4,r5,r6,r7,r8]:=Ô3 yP (t:=t1) hes1 g1 (t6:=grown Ŷ2) (by rw[hsz1];show g2) Ûf;rw[r1];ext ë;exact zg3 (m:=ÁU) (zD1 (zg3 (Øo ho1 Gb (by rw[r8];show hsl))));exact rh;ext ë;exact zD1 (h _ xs2 true (sb.trans (Nf _ a _)) #[#[es2,ep+1+1,t2,aI ho1,r2,r4,by rw[r6];show hlt,by rw[r7];show hpt,by rw[r3.length_eq,hl1,r5];show g3],(r3.map _).nodup_iff.mpr hnd1] (Ã #[hm,r3.trans LB]))
  .ext Ýg
   ext ÍD;have LS:ż4<Ā*3:=by
    have:=hf';ext Wv
   exact rh;ext ë;show zD1 (h _ xs1 true sb #[#[_,ep+1,t1,ho1,hes1,T1,hlt,hpt,ÓQ],hnd1] Úa)
end
def Nums (its:zAV) su:Prop:=∀ Í v,DS->∃ n t,v=Ê n t/\ns[i]?=↑n
section
variable {ś}{BD}{Ad}
def î9 O_{Sa:Addr}{wr:Ε}(hSw:Sa∉wr) (hN:Nums Wm):Kd đ A QZ Wm Sa wr (λ h xs=>gJ Ž Sa xs led) (H_) where
 nd:=λ S=>S.nd
 keep:=λ k _ S=>let #[#[es,ep,t,ho,r],nd]:=S;#[#[es,ep,t,k À hSw ho,r],nd]
 Zk:=λ _ T=>T
 add:=λ{s xs i v Q E} _ S hl hv hQ=>by
  let#[m,t,rfl,hr]:=hN i v hv;unfold setAdd;exact zg9 (zg3 ((u7).pyHash (A:=A) (k:=m) (Ų3) ?_));show add_int (s:={ s with toks:=G5 }) (A:=A) S hl λ h' xs' rr sb S' hx=>hQ h' _ xs' rr m t Ñt
def Í1 ĝ â(ho:Gr=↑ Fd):gJ Ž a [] Mc:=
 #[#[Ē,0,_,ho,rfl,ÅV,rfl,rfl,Òk],Ð]
def zag uG ē yW (hl:vg l its) (hT:Nums Wm) ÂA
  (h:∀ Š5 xs,gJ áF->Up QZ Wm nF xs->Λ9):
  Ψ4:=
 ħ5 hh (Ä hl) hn (î9 #[] hT) (λ h e=>Í1 e) (dm) h
end
end ST
namespace L4
open É Î
def Ú9 ś ς Ad(hI:Rt) ÜL:
  Core Âv (λ out=>∃ ns',ϻ Pm ns'/\ns'.Perm ns/\Úe) s:=by
 obtain⟨v1,v2,rest,rfl⟩:∃ v1 v2 rest,vs=SD:=by
  match vs,h2 with
  | SD,_=>show#[v1,v2,rest,rfl]
 unfold Core;rw[keyKind_ints hI];exact zD1 #[rfl,?_];exact zgC (wpS_sortRuns (a₀:=ϝ4) (st:=ϱ1 oneType' ((SD).toArray.zip (SD).toArray) Ē 7 none)
   (Q:=λ _ st'=>(Fq st').Perm (ϝ4)/\ź7 st'=none/\SortedTo (Fq st') (ϝ4).size)
   hI.intKeys #[Øb,rfl,rfl,rfl] (by rw[ϣ4];simp) (by rw[ϣ4];show pz) λ st' a1 a2 a3=>#[a1,a2,a3]) ?_ ϰ3
 rintro⟨⟨⟩,st'⟩ s' ⟨rfl,hp,hf,hs⟩;show#[rfl,hf,sorted_out hI hp hs,by rw[hp.size_eq,ϣ4]]
end L4
namespace L5
open É Ü L2 L3
open Î hiding St
structure Bq rm:Prop where
 set:mg "set"=none
 zip:mg "zip"=none
 enumerate:mg "enumerate"=none
section
variable {Æ}{Ù}{a b c e:Expr}{ta tb tc:zy}{Ć}{fa fb fc:zEO}
def jo (f g:xJ) (ta tb tc:zy):zy:=fun Y S Q=>ta Y S λ x S1=>tb Ĕ λ y S2=>f x y S2 λ z S3=>match z with
 | Gj=>if Hr then tc Y S3 λ w S4=>g y w S4 Q else Q LN S3
 | _=>Þ
def jo.mo {f g:xJ}ϒ0 En (hc:yC tc):yC Ţ3:=fun Y S Q Q' hq h=>
 ha é (λ x S1 h=>hb Ō (λ y S2 h=>hf Η2 (λ z S3 h=>by
  cases z <;> first
   | show pZ (hc Y S3 À λ w S4 h=>hg y w S4 À hq h) OY h
   | show h) h) h) h
theorem ł0 {f g:xJ}Xl(hr:wG K f r) (hr':wG K g r') ϒ0 En (hc:yC tc) Ÿ Ø Rg(h:zT K Ţ3 Ś):İ1 r r' ØM (zT K tc) Ś:=by
 ext ÊF;exact hr v w UP S2 _ ϔ3 p2 (hf Η2 (λ d S3 z v3 H3 q3 e3 p3=>?_) h2);cases d with
 | bl k=>
  simp![zj] at q3;exact#[k,q3,pZ Jf Jf z]
  .exact ď hc (r1.ext RK) p3 z λ w4 S4 v4 H4 h4 q4 e4 p4=>?_;show hr' w v4 y w4 H4 S4 Q (FW (e3.trans e4) y q2) q4 p4 (hg y w4 S4 À (λ d S' z=>z.ext Ôt) h4)
  .show z _ H3 Em RK p3
 | _=>show FF
@[simp] def gC (f g:ŋ) (fa fb fc:zEO):zEO:=fun J=>(fa J).bind λ x=>(fb J).bind λ y=>(f x y).bind λ b=>match b with
 | Gj=>if Hr then (fc J).bind λ z=>g y z else ↑ LN
 | _=>none
def ú7 {f g:ŋ}{F G:xJ}(hf:ϭ zm f F) (hg:ϭ zm g G) ã3 (hc:yK fc tc):xY (gC f g DC fc) (jo F G Ă tc):=λ S Z Y J y Q hE e hq=>by
 let#[x1,e1,e]:=Ę;let#[x2,e2,e]:=Ę;let#[b,e3,e]:=Ę;exact ha ň x1 Hu Øp;exact hb É0 x2 Ds Ş2;exact hf S2 Z x1 x2 b d1 d2 _ Py (Ŧ1) r2 e3 λ c S3 s3 r3=>?_;ext ó
 .have:=r3.1;ext ßd;ext ó
  .rename_i hk;let#[x4,e4,e5]:=Ę;ext ë;rw[LJ];exact hc S3 Z Y J x4 _ (Ph (Hz)) e4 λ d4 S4 s4 r4=>?_;show hg S4 Z x2 x4 y d2 d4 Q (Ph (ŧ3)).zd (Γ3 r2 (ϩ2)) r4 e5 λ c' S5 s5 r5=>hq c' S5 ((ŧ3).trans s5) (U9 (ŧ3) r5)
  .rename_i hk;ext ë;rw[IE];cases e;show hq Àt Ϫ5
 .cases e
def Â5 ũ4{f g:xJ}X8 ÆI ĕ (hc:PD MT)
  Wr:PD Xp Ţ3:=
 #[jo.mo aQ,Ğ (è3 ØR) λ _ _ _ h=>ł0 hr hr' aQ h]
def ó7 ũ4{f g:xJ}X8 ÆI ĕ (hc:PD MT)
  Wr:zG Xp (oj Ţ3):=by
 exact#[oj.mo (jo.mo aQ),Jb (ê0 ØR) ÛA];ext Υ9;exact ł0 hr hr' aQ #[Y,S,r1,r2,jo.mo aQ ÌV];cases d with
 | bl k=>simp![zj] at a;show Ôc
 | _=>show FF
end
end L5
namespace L2
open É Ü Î
section
variable {Æ}
def Ĉ2:yH X (ϒ .Is) (λ x y H Q=>Èc):=by
 ext Èy;show is_bool PL
def Î9:yH X (ϒ .IsNot) (λ x y H Q=>Èw):=by
 ext Èy;show isnot_bool PL
end
end L2
namespace L5
open É Ü L2 L3
open Î hiding St
section
variable {Æ}{Ù}{a b c e o i v:Expr}{ĩ}{ta tb td ty tv:zy}{ϥ8}
def mH:xJ:=λ x y S Q=>match x,y with
 | ñ,AM=>Q (ŝ4) S
 | ϩ,ä es=>∃ ns ms:á,ds=ξ5/\es=ms.map BS/\Q (š6) S
 | _,_=>Þ
def wg:ŋ
 | ñ,AM=>↑(ŝ4)
 | ĺ,ä us=>ϣ5 λ ns=>(oW us).map λ ms=>š6
 | _,_=>none
def mH.mo:vn mH:=λ x y S Q Q' hq h=>by
 unfold mH at h ⊢;ext ç
 .show ō
 .let#[ns,ms,h1,h2,h3]:=h;show#[ns,ms,h1,h2,F7]
 .show ï
def mH.fits:wG K mH (λ x y H Q=>Ôu\/ž7 rM):=λ x y d e H S Q h1 h2 h3 h=>by
 unfold mH at h;ext ç
 .ext Aq;show ÊN
 .let#[ns,ms,rfl,rfl,h]:=h;ext Éa;rw[g2.ints] at g1;rw[g4.ints] at g3;show Ã #[a,b,ns,ms,rfl,rfl,g1,g3,OO]
 .show ï
def Ĺ4:ϭ zm wg mH:=λ S Z x y z d e Q hz hx hy ef hq=>by
 unfold wg at ef;ext Ξ
 .ext Sd;show yR
 .let#[ns,e1,e2]:=Η ef;let#[ms,e3,rfl]:=B9;cases gk e1;cases gk e3;ext Çt;show#[ns,ms,Ft h2,Ft h4,yR]
 ext ϰ
def Ó0 ϴ:yH Àp (λ x y H Q=>Ôu\/ž7 X.K EN):=Ă8.or (â1 (by have:=Jp;lia))
def Í0 ϴ ĕ:PD X Úf (yJ mH Ă):=kZ Ðw
def Û9 ϴ ĕ:zG X Úf (oj (yJ mH Ă)):=kr Ðw
def qN Ho:xJ:=λ x y S Q=>match x,y with
 | .bl c,.bl d=>Q ËM S
 | x,.zx=>Q (.bl (cond neg (!fN x) (fN x))) S
 | _,_=>Þ
def oV Ho:ŋ
 | .bl c,.bl d=>↑ ËM
 | x,.zx=>↑(.bl (cond neg (! ÁV) (ÁV)))
 | _,_=>none
def qN.mo Gx:vn (qN neg):=λ x y S Q Q' hq h=>by
 unfold qN at h ⊢;ext ç
 .show ō
 .show ō
 .show ï
def qN.fits:wG K (qN Á) (λ x y H Q=>(Èc)\/(Ìa)):=λ x y d e H S Q h1 h2 h3 h=>by
 unfold qN at h;ext ç
 .ext Aq;show Ík
 .ext Ëd;show Ο8
 .show ï
def qN.Ü6:wG K (qN true) (λ x y H Q=>(Èw)\/(ËC)):=λ x y d e H S Q h1 h2 h3 h=>by
 unfold qN at h;ext ç
 .ext Aq;show Ík
 .ext Ëd;show Ο8
 .show ï
def á4 ß Đ2{x:T}ì(hx:Vw S Z x d):fN d=ÁV:=by
 cases x with
 | zx=>cases hx.zx;rfl
 | bl _=>cases hx.bl;rfl
 | int _=>cases hx.int;rfl
 | str _=>cases hx.str;rfl
 | tup _=>let#[ds,rfl,_]:=hx.tup;rfl
 | lst _=>obtain⟨ds,rfl | ⟨a,rfl,h1⟩,h2⟩:=hx.lst <;> rfl
 | zL _ _=>let#[a,m,#[rfl,_],h1]:=hx.zL;rfl
 | dn _=>let#[a,ep,rfl,h1]:=hx.dn;rfl
def À4 Gx:ϭ zm (oV neg) (qN neg):=λ S Z x y z d e Q hz hx hy ef hq=>by
 unfold oV at ef;ext Ξ
 .cases ef;cases hx.bl;cases hy.bl;show yR
 .cases ef;cases hy.zx;have key:Q (.bl (cond neg (!fN d) (fN d))) S:=by
   rw[á4 hx];show yR
  unfold qN;cases d <;> show key
 ext ϰ
def ö7 ĕ:PD X Úg Úh:=kZ Îo
def ø0 ĕ:PD X Ôv ÖA:=kZ ÏO
def ç9 ĕ:zG X Úg (oj Úh):=kr Îo
def þ3 ĕ:zG X Ôv (oj ÖA):=kr ÏO
def Ğ5 ϵ8:xl:=λ E Y S=>tv Y S λ v S1=>td Ĕ λ x S2=>ty Y S2 λ y S3=>∃ p ds k j,FQ/\Ln/\S3 p=↑ ET/\px ϕ k=↑j/\E.nx Y (ups S3 p (Ñ (ds.set j v)))
theorem zv.set Ø ì Ϯ(h:Nb):∀ è ÿ PH,Ų->zv Å (ds.set j d) (xs.set j x)
 | [],xs,j,r=>by simp![zv] at r;subst r;show Ð
 | c::ds,xs,0,r=>by
  simp![zv] at r;let#[y,ys,rfl,_,r2]:=r;show Ó h r2
 | c::ds,xs,j+1,r=>by
  simp![zv] at r;let#[y,ys,rfl,r1,r2]:=r;show Ó r1 (zv.set h j r2)
def è2 PK (hv:PD X v tv) (hs:àH [II] v DE=SU) (hw:àI [II] v Ö=Pz)
  (h1:(BB [II] Ö).map Ł=[ö1 (II) Ö])
  (ha:∀ v,ö1 (II) Ö v=(do
   let ov <- uR [v] (ϳ)
   let iv <- Ïi
   cF pos'
   ÉF
   Ïj)):zu ό2 (Ğ5 M1):=by
 exact#[λ E E' Y S hE z=>hv.mo é (λ w S1 z=>ϋ Ō (λ x S2 z=>Ϫ Y Gz (λ y S3 #[p,ds,k,j,a,b,c,d,h]=>#[p,ds,k,j,a,b,c,d,Ák]) z) z) z,qc (Ķ0 hv.pe (ý3 Ny set_list ha) hs hw h1) HG];ext Θ0;let#[p,ds,k,j,rfl,rfl,c1,c2,h]:=h3;ext ϭ7;subst q2 q3;let#[xs,g1,g2]:=Ż5;have e4:Ext H3 (upd H3 p (Ñ (xs.set j w1))):=Ñ g1 _;exact#[p,xs,k,j,rfl,rfl,g1,by rw[<- AO];show c2,?_];show h Λ2 (p3.ups e4 #[_,yF,Ζ e4 _ (zv.set Ïs j g2)])
@[simp] def hJ Ď (f v:zEO):Sm:=fun J=>ϲ7 λ z=>Ī λ y=>match J[n]?,y with
 | sL,Ov=>(px ő k).map λ j=>.nx (ϫ n ↑(Ř (ÛV)))
 | _,_=>none
def ą8 ğ Ď {f v:zEO}Kr Às:yq R (hJ n f v) (Ğ5 (yE n) ty tv):=λ S0 Z0 S Z Y J o E F e P=>by
 ext Èf
 .rename_i ts k h;let#[j,hj,rfl]:=ų e3;ext Õd;let#[p,ob,h1,h2,h3,h4]:=F1.er.ow n _ h;cases ob with
  | lst ds=>
   change yE n Ĕ _;ext KP;exact ÄU;cases Vw.int r2;have h5:zp (yo S2 Z) uY:=Ļ Ÿ2 ts h3;show#[p,ds,k,j,rfl,rfl,s2 Jr,by rw[h5.len];show hj,P _ Z Y (ϐ8 (us:=ÛV) (es:=Ñ (ds.set j dz)) n h h1 (h5.ĝ7 j Þb))]
  | _=>show tm
 .cases e3
def Æ9 Ζ4 Ż ŭ4 (r:RelV eg u) μ (hd:rg):ÛW:=ÏA
def Ý0 ô{n:Int}Ż ŭ4 (r:RelV V8 u) μ (hd:rg):ÛX:=ÏA
end
end L5
namespace ZP
open É Î
def ă6 E6:ū:=cond k "tuple_iterator" "list_iterator"
def SI ĥ E6 (it l:Addr) Í:Prop:=∃ o,Ke it=↑o/\Qj=ϻ8/\EZ=A_ [Ο,Ê i 0].toArray
def SQ ĥ E6 E8 (xs:zAV):Prop:=match k with
 | true=>Ép
 | Á=>Êh
def SI.on IB ώ4 ý(x:SI h ſ0) (f:∀ o,Ke it=↑o->ϝ it=↑o):SI h' ſ0:=
 let #[o,ho,r]:=x;ύ6
def SQ.on IB M3(x:Ŭ8) (f:∀ o,Ke l=↑o->ϝ l=↑o):SQ h' k uH:=by
 cases k with
 | true=>let#[o,ho,r]:=ϭ4;show ύ6
 | Á=>let#[o,ho,r]:=ϭ8;show ύ6
def SQ.lt ĝ M3(x:Ŭ8):l<Ω:=by
 cases k with
 | true=>let#[o,ho,_]:=ϭ4;show P0
 | Á=>let#[o,ho,_]:=ϭ8;show P0
theorem SQ.cls ĝ M3(x:Ŭ8):∃ o,Ke l=↑o/\Qj=Îd:=by
 cases k with
 | true=>let#[o,ho,c,_]:=ϭ4;show àJ
 | Á=>let#[o,ho,c,_]:=ϭ8;show àJ
section
variable {ś}
def made M3 ē(hl:Ţ4)
  (hQ:Q ş { s with heap:=Ĩ { cls:=ϻ8,data:=Íl } }):Â ã (Lx ĭ) à:=by
 cases k with
 | true=>show ϊ7 hl hQ
 | Á=>show zgU hl hQ
def Þ2 ÂD ý QH{x:Ï}ē ÈE (hx:Jn)
  (hQ:∀ h',h'.IsTupleIter it l ŏ->ÊE):Ŝ8:=by
 ext Äh;have LF:=zgJ (Ŧ6 λ y=>y.setIfInBounds Ϙ9) e1 (Òn (Ŝ9 e3 _));exact zg3 (zgM e1 e3 #[] (zD1 #[x,rfl,zD1 (hQ _ #[_,LF,ÌL e2,?_] (UN))]));rw[Ŝ9 e3];simp[rb]
def þ5 ÂD ý QH ē yW ÈE ÃS:Ŝ8:=by
 ext Äh;exact zg3 (zgH (zg3 (zgM e1 e3 RH)));exact Ím;ext ÃV;show zg3 (zD1 (wpAny_throw (hE À Υ0 Oy)))
def draw ώ4 ý QH{x:Ï}ē Ðx (hx:Jn)
  (hQ:∀ h',SI h' k it l ŏ->ÊE):Ŝ8:=by
 cases k with
 | true=>show Þ2 Ÿ6 hQ
 | Á=>show wpAny_nextOf_list_item Ÿ6 hQ
def Z6 ώ4 ý QH ē yW Ðx ÃS:Ŝ8:=by
 cases k with
 | true=>show þ5 hh Ÿ6 hE
 | Á=>show wpAny_nextOf_list_end hh Ÿ6 hE
structure Yb ÓG:Prop where
 nd:[z,TI,TO,i1,i2].Nodup
 f1:l1∉ KN
 f2:l2∉ KN
structure At ĥ A0 ÓG (f0:Ï) Ď:Prop where
 z:uf h Ra f0
 ti:sA h ÚR
 to:∃ a b,sA h TO a b
 s1:SI h k1 i1 l1 n
 s2:SI h k2 i2 l2 n
def At.keep IB Ρ9{f0:Ï}ā(S:At h Tx f0 n) (f:∀ b∈ KN,ÀO):At h' Tx f0 n:=
 #[f z #[] _ S.z,f TI #[] _ S.ti,let #[a,b,e]:=S.to;#[a,b,f TO #[] _ e],S.s1.on (f i1 #[]),S.s2.on (f i2 #[])]
def item Ρ9 ā ÂB{x y:Ï}Ox ÌY
  Ρ6 (hx:xs[n]?=↑x) (hy:ys[n]?=↑y)
  (hQ:∀ h',At h' Tx (rb Ë) B4->sA h' Ë x y->Ρ1->Q ↑ ş { s with heap:=h' }):
  ÕI:=by
 ext Ìu;ext Ãa;ext ÂI;replace to3:sA g3 TO x b:=to3;ext ÃW;exact zg3 (zg3 (jy (zg3 (m:=R3 (Ò i2)) (draw ÃU λ g4 s24 e4=>rh))));have to4:sA g4 TO x b:=av À n9 to3;exact zg3 (zgF to4 rfl (zg3 (Óh to4 λ g5 to5 e5=>zg3 (wpAny_letGo TQ))));replace to5:sA g5 TO x y:=to5;exact zg3 (zgF to5 rfl (zg3 (ÝL ?_)));have sz:Fb=Ë:=by rw[e5.1,e4.1,e3.1,e2.1,e1.1]
 have hz5:uf g5 Ng:=Ay À n2 (av ÇM);have up5:∀ c o,c∉ KN->ϣ6->Þs:=λ c o hc q=>by
  ext Ω1;show Ay À ÁW (av ÆJ)
 have ti5:sA g5 ÚR:=Ay À n5 (av À n7 (up À (Ĭ n1) n6 n5 hti));have s15:SI g5 k1 i1 l1 B4:=s12.on λ o q=>Ay À (Ĭ n8) (av À n10 (XJ À (Ĭ n8) q));have s25:SI g5 k2 i2 l2 B4:=s24.on λ o q=>Ay À (Ĭ n9) q;have lz:z<Fb:=zA8 hz5;exact zg3 (m:=Builtin.SmallTypes.ownedTupleHandOut Pr (Ò Fb)) ?_;have hz6:uf (Çi) Ng:=zg4 _ hz5;exact zg3 (zgR hz6 #[] λ g7 hz7 e7=>?_);replace hz7:uf g7 Ra (rb Fb):=hz7;exact zgR hz7 #[] λ g8 hz8 e8=>?_;replace hz8:uf g8 Ra (rb Fb):=hz8;have up8:∀ c o,c≠z->(Çi).get? c=↑o->ßs:=λ c o c1 q=>e8.extBut À c1 (e7.extBut À c1 q);have T8:sA g8 Fb x y:=up8 À (zdC lz) (Ũ);have up9:∀ c o,c≠z->Þs->ßs:=λ c o c1 q=>up8 c o c1 (BF);rw[sz] at hz8 T8;exact zD1 #[Ò Fb,rfl,rh];change Q ↑(Ò Fb) _;rw[sz];exact hQ g8 #[hz8,up9 À (Ĭ n1) ti5,#[x,y,up9 À (Ĭ n2) to5],s15.on λ o q=>up9 _ o (Ĭ n3) q,s25.on λ o q=>up9 _ o (Ĭ n4) q] T8 λ c o hc q=>up9 c o (λ e=>hc ϟ3) (up5 c o hc q)
def stop Ρ9 ā ÂB Ox yW ÌY
  Ρ6 (hend:xs[n]?=none\/ys[n]?=none)
  (hQ:∀ h',Ρ1->ς4):
  ÕI:=by
 ext Ìu;have fin:∀ Ε8 (e:Addr),Ρ1->Ín->
   Â ã (do if <- ϳ4 Px (Υ1) then Pz else throw Px) Q E { s with heap:=h' }:=λ h' e k1 k2=>by
  let#[o,ho,hc]:=k2;show zg3 (zgN Ρ0 Eb ψ9 (zD1 (hQ _ k1)))
 ext Ãa;cases hx:xs[n]? with
 | none=>
  exact zg3 (zg3 (jy (zg3 (m:=R3 (Ò i1)) (Z6 hh Äy λ g2 ex e2 he=>?_))));have hz2:uf g2 Ng:=e2 À n3 hz1;let#[oe,q1,q2]:=he;have ne:ex≠z:=λ q=>by subst q;rw[hz2] at q1;cases q1;simp at q2
  exact zgR hz2 #[] λ g3 _ e3=>fin g3 ØS #[oe,XJ À ne q1,q2];ext Ω1;show XJ À Bu (e2 À hc.2.2.2.1 (fY À Bu q))
 | some x=>
  have hy:ys[n]?=none:=hend.resolve_left (by rw[hx];simp);ext ÂI;ext ÃW;exact zg3 (zg3 (jy (zg3 (m:=R3 (Ò i2)) (Z6 hh ÃU λ g4 ex e4 he=>?_))));have hz4:uf g4 Ng:=e4 ÇM;let#[oe,q1,q2]:=he;have ne:ex≠z:=λ q=>by subst q;rw[hz4] at q1;cases q1;simp at q2
  exact zgR hz4 #[] λ g5 _ e5=>fin g5 ØS #[oe,Ay À ne q1,q2];ext Ω1;show Ay À Bu (e4 ÆJ)
end
abbrev mD E6 E8:Obj:={ cls:=ϻ8,data:=Íl }
abbrev fU A0 ĥ U1:Heap:=(tX O3).push (mD k2 l2)
abbrev ř3 A0 ĥ U1:Heap:=(fU T5).push { cls:=Υ,data:=Ě [Ò Ω,Ò (tX O3).objs.size].toArray }
abbrev ħ8 A0 ĥ U1:Heap:=(ř3 T5).push { cls:=Υ,data:=Ě [Ġ,Ġ].toArray }
abbrev į3 A0 ĥ U1:Heap:=(ħ8 T5).push { cls:=ÁX,data:=A_ [Ġ,ź Á,ź Á,Ò (fU T5).objs.size,Ò (ř3 T5).objs.size].toArray }
def î2 A0 U1 (xs ys:zAV):NR (Builtin.«zip.__new__» #[[ÁX,Ò l1,Ò l2],[]]) (λ _ R s=>Þt/\Þu/\
   R (.ok (ύ (Ò ϋ2))) { s with heap:=į3 jB }):=
 BU λ prog w A R s h=>by
  ext sF;let#[q1,q2,h]:=h;have hsub:=sub_zip;have m1:SQ ύ7 k1 l1 xs:=q1;have m2:SQ (Shared.heap #[hp.push O3,g,d,tk,os]) k2 l2 ys:=q2.on ϳ3
  wp_walk using made m1,made m2
  show yT
section
variable {ś}
def new Àu{l1 l2:Addr}ÂB ē Ρ6
  (h:∀ h' z TI TO i1 i2,(∀ b∈ KN,Ë<=b)->Yb Ι7->At h' Tx Ġ 0->(∀ c o,ßw)->Q Pr { s with heap:=h' }):
  Â ã (call (ÁX) [Ò l1,Ò l2]) à:=by
 exact callType_new F.called_zip () (F.typeCall_zip_2 À) (F.newCall_zip_2 À) (λ obj=>F.args_object_init_3 obj À) F.entry_zip_new (î2 LZ l1 l2 xs ys) #[h1,h2,?_];have z1:ÕJ=uA:=IW ..;have z2:Ös=Ë+2:=by rw[IW,z1]
 have z3:Öx=Ë+3:=by rw[IW,z2]
 have z4:ϋ2=Ë+4:=by rw[IW,z3]
 have p1:∀ ĥ (o:Obj),o.isFreed=Á->(tX o).get? Ω=↑o:=λ h o e=>zA9 _ e;have u:∀ ĝ τ BK(o':Obj),Gg->(tX o').get? b=↑o:=λ o' e=>Qd;have g5:Nq ϋ2=↑_:=p1 À rfl;have g4:Nq Öx=↑_:=ÈC;have g3:Nq Ös=↑_:=ϻ9;have g2:Nq ÕJ=↑(mD k2 l2):=u _ (ϻ9);have g1:Nq Ë=↑ O3:=u _ (u _ (ϻ9));have a1:=h1.lt;have a2:=h2.lt;rw[z2,z3,z4] at g5;rw[z1,z2] at g3;rw[z3] at g4;rw[z1] at g2;generalize hN:Ë=N at *;have lt:∀ TH,m<N->∀ j:Nat,¬ m=N+j:=λ hm j=>⋯;have ne:∀ Af,i≠j->¬ (N+i=N+j):=λ hij e=>hij ⋯;change _/\_;rw[z4];exact#[#[_,g5,rfl],h _ (N+4) (N+2) (N+3) N (N+1) (qo) #[?_,?_,?_] #[g5,g3,#[_,_,g4],#[_,g1,rfl,rfl],#[_,g2,rfl,rfl]] λ c o e=>u _ (u _ (u _ (u _ (u _ e))))]
 .ext JX;have h0:N<=N:=zA4 N;ext Íy
  .show ze3 N 4
  .show ze3 N 2
  .show ze3 N 3
  .show h0
  .show ze3 N 1
 .have e0:∀ ý,i≠0->¬ (N+i=N):=Þv;have e0':∀ ý,i≠0->¬ (N=N+i):=Þv;simp![zd7,zA5,zd3,Td,CZ,zfF,ÁY,Øq];show#[#[Oi,Oi,e0 (),Oi],#[Oi,e0 (),Oi],#[e0 (),Oi],e0' ()]
 .ext Õe;show#[lt a1 4,lt a1 2,lt a1 3,zB3 a1,lt a1 1]
 .ext Õe;show#[lt a2 4,lt a2 2,lt a2 3,zB3 a2,lt a2 1]
end
end ZP
namespace L2
open É Ü Î ZP
section
variable {Æ}{ġ}
def Inv.bX UQ DL UU Õ (k:∀ b o,b∉fp->Oc) (hf:Q_):Ρ3:=by
 have nit:∀ b u,T9->b∉fp:=λ b u e z=>by rw[(hf b z).1] at e;cases e
 exact I.step μ9 (ch:=fp) (qo) (λ b o _ _ hc e _=>ϳ5) (λ b o _ _ hc e _=>#[o.slots,ϳ5]) Ùp
  (λ b o hc e=>#[o,ϳ5]) ÃC
 .let#[_,q1,_,q2,q3,q4]:=hf ţ;show#[q2,q1,q3,q4]
 .ext ÔF;show#[o,es,ep,k _ o (λ z=>(hf _ z).2.1 rfl) ho,r]
 .ext Úy
  .rw[z];show nit b u e
  .show nit c _ z
def oJ È ð E6 Ĥ Jh:Prop:=match k with
 | true=>sT
 | Á=>Jd
def oJ.of Õ YR â ÿ(h:oJ ė k ϯ):∃ its:KG,EV/\SQ í k a Ĵ:=by
 cases k with
 | true=>let#[its,rv,p,_]:=ξ h;show#[its,rv,p]
 | Á=>let#[its,rv,p,_]:=S_ h;show#[its,rv,ÀP]
def oJ.inj Õ YR â tJ(h:oJ ė k ϯ) (h':oJ ė k a ys):xs=ys:=by
 cases k with
 | true=>show I.œ3 vX
 | Á=>show I.Ŋ5 vX
def ù7 È A0 (a1 a2:Addr):It:=
 #[λ i H=>∃ xs ys x y,ϗ5/\ϗ6/\Jn/\ϩ3,
   λ i H v H'=>∃ p x y,v=Č/\IT/\H'=upd H p ÁZ/\(∀ xs,ϗ5->Jn)/\∀ ys,ϗ6->ϩ3,
   λ i H=>∃ xs ys,ϗ5/\ϗ6/\(å<=i\/ν<=i)]
def Ď6 Ĝ Ù ĩ{kk} Ć Àu{z TI TO i1 i2 a1 a2:Addr}(D:Yb áH):
  Turn Ñv Úi KN z (λ i h=>At h LZ áH Ġ i) where
 mem:=#[]
 obj:=λ i h st b hb=>by
  let#[q1,q2,#[_,_,q3],#[o1,q4,_,d1],#[o2,q5,_,d2]]:=st;ext JX;ext Íy
  .show ÛY
  .show#[_,q2,ό3]
  .show#[_,q3,ό3]
  .show#[_,q4,Ïg]
  .show#[_,q5,λ v z=>by rw[d2] at z;cases z]
 keep:=λ i h h' st k=>st.keep k
 item:=by
  ext Di;let#[xs,ys,x,y,g1,g2,hx,hy]:=hg;ext Æx;let#[u1,e1,r1]:=rv1.get hx;let#[u2,e2,r2]:=rv2.get hy;exact ZP.item D st GB (x:=u1) (y:=u2) (by exists e1) (by exists e2) λ h' S' T' up=>š9;exact wpAny_letOwnedTupleGo_zip S'.z λ h2 z2 sb=>?_;have nT:Ë ∉ KN:=λ hb=>by
   let#[o,ho,_]:=(show ∃ o,Ň Ë=↑o/\True from by
    let#[w1,w2,#[_,_,w3],#[o1,w4,_],#[o2,w5,_]]:=st;ext JX;rcases hb with e | e | e | e | e <;> rw[e]
    .show#[_,w1,ϖ]
    .show#[_,w2,ϖ]
    .show#[_,w3,ϖ]
    .show#[_,w4,ϖ]
    .show#[_,w5,ϖ])
   show ò (P0) uE
  have nz:Ë ≠z:=λ e=>nT ϟ3;have fr:HX:=AF;have I1:Inv ú (upd H Ë ÁZ) { s with heap:=ÇS,toks:=ø }:=
   Ι (o:=ä Rj) ţ9 ľ #[ÉU,[u1,u2],Ó r1 (Ó r2 Ð),BH]
  have hf':∀ b∈ KN,upd H Ë ÁZ b=none:=λ b hb=>by
   rw[yv (λ e=>nT (by rw[<- e];show hb))];show ϳ6
  have kk:∀ b o,b∉ KN->(ÇS).get? b=↑o->ϗ3:=λ b o hb q=>by
   have hbz:b≠z:=λ e=>hb ϟ3;by_cases hbs:b=Ë
   .ext ßy;show J7 À nz T'
   .have q':ϑ:=ÍK
    show J7 À hbz (up b o hb q')
  have I2:=Inv.bX (h':=h2) (t':=ø) (fp:=KN) Éc;exact#[Ϭ,_,I2,rfl,#[_,x,y,rfl,fr,rfl,Ðz,λ zs hz=>by rw[hz.inj I g2];show hy],#[z2,?_,?_,?_,?_],hf']
  .ext XS;show J7 À (Ĭ nd.1.1) S'.ti
  .let#[a,b,e]:=S'.to;ext XS;show#[a,b,J7 À (Ĭ nd.1.2.1) e]
  .ext XS;show S'.s1.on λ o q=>J7 À (Ĭ nd.1.2.2.1) q
  .ext XS;show S'.s2.on λ o q=>J7 À (Ĭ nd.1.2.2.2) q
 done:=by
  ext Di;let#[xs,ys,g1,g2,hx]:=hg;ext Æx;have l1:=rv1.length;have l2:=rv2.length;exact ZP.stop Dg D st GB ?_ λ h' up=>#[rfl,I.bX (t':=ø) up hf];ext ŧ4
  .show Ä FK
  .show Ã FK
 self:=λ _ _ _ _ _ st h=>Új st.z h
def Ă4 È (ta:TA):TI:=fun σ H R=>ta Û λ vs H1=>∃ a1 a2 k1 k2,vs=[Ò a1,Ò a2]/\(∃ xs,oJ K H1 k1 a1 xs)/\(∃ ys,oJ K H1 k2 a2 ys)/\R Úi H1
theorem Ú6 Gm Öi ĩ{kk} (hg:Gl X "zip") (hm:Ýi) ÇK:
  PI Îp (Ă4 X.K ta):=by
 ext Lq;exact Call_ (gh Gv boot_zip Ço);ext XI;let#[a1,a2,k1,k2,rfl,ϱ0,#[ys,g2],q]:=q1;cases r1 with
 | cons r rr=>
  cases rr with
  | cons r' rr=>
   cases rr;cases r;cases r';ext ØT;let#[it2,_,q2]:=g2.of I1;exact ZP.new GB λ h' z TI TO i1 i2 nw D S up=>Új S.z ?_;show#[z,KN,_,_,H1,rfl,ξ7,Ď6 D,S,ÆF,q]
end
end L2
namespace L5
open É Ü L2 L3
open Î hiding St
section
variable {Ù}{Wk}{VM}
def Ĩ5 rj:pO:=fun Y S R=>t Y S λ ds S1=>∃ d e xs ys,ds=[d,e]/\àK/\yA e S1=↑ys/\R #[àL,λ S=>K3=↑xs/\yA e S=↑ys] S1
def cw:D->Bool
 | ä _=>true
 | _=>Á
def yA.k Ø ß ì ř è uk Wi:∃ a xs,v=õ/\oJ Å (cw d) ϯ/\Ų:=by
 by_cases q:∃ ts,d=ĺ
 .let#[ts,rfl]:=q;ext ž2;show#[a,xs,h1,h2,h3]
 .let#[a,xs,h1,h2,h3]:=jA r p e λ ts z=>q #[ts,z];exact#[a,xs,h1,?_,h3];have:cw d=Á:=by cases d <;> first | rfl | show ò ϓ q
  rw[this];show h2
end
section
variable {Æ}{Gm}{Ū}{ϥ8}{ĩ}{kk:Nat}
def Ý3 (hm:Ýi) (ha:yB X Kk tA) (hg:Gl X "zip") (hs:Ι2) (hs2:Ο2):
  zY Îp (Ĩ5 tA):=by
 exact#[fun Y S Q Q' hq z=>ă é (λ ds S1 #[d,e,xs,ys,h1,h2,h3,h4]=>#[d,e,xs,ys,h1,h2,h3,hq À h4]) z,uZ (Ú6 Ū2 hs2) LU];ext ÇN;let#[d,e,xs,ys,rfl,s1,s2,h]:=h1;let#[v,u,rfl,d1,d2]:=q1.two;ext Ês;let#[a2,ws,rfl,g3,g4]:=yA.k d2 p1 s2;exact#[a1,a2,cw d,cw e,rfl,#[us,g1],#[ws,g3],h VT];let#[b1,us2,q1,m1,m2]:=yA.k ßg hk.1;cases q1;let#[b2,ws2,q2,m3,m4]:=yA.k (FW x1 e d2) x2 hk.2;cases q2;have l1:=m2.length;have l2:=m4.length;exact#[λ dd hd=>?_,λ hl=>#[us2,ws2,m1,m3,?_]]
 .rw[List.getElem?_zipWith] at hd;split at hd
  .rename_i dx dy hx hy;cases hd;ext Öj;let#[y,hy',ry]:=m4.get hy;exact#[#[us2,ws2,x,y,m1,m3,hx',hy'],ϣ7];let#[pp,x',y',rfl,hp,rfl,f1,f2]:=q;ext Êv
   have ey:y'=y:=by have:=f2 _ m3;rw[hy'] at this;show ÛZ
   subst ex ey;ext Ïd;show#[pp,_,rfl,RU,Ζ Ŝ _ (Ó rx (Ó ry Ð))]
  .cases hd
 .have hl':(àL).length<=i:=hl;rw[List.length_zipWith] at hl';lia
@[simp] def kL:EO
 | Rj=>(qY x).bind λ xs=>ű4 λ ys=>Ţ5 ÕK xs ys
 | _=>none
theorem Ģ8 ß:∀ Ž9 Ŷ8,ŝ->ϱ6->zp S (Ţ5 ÕK ts us) (Ţ5 Èd ds es)
 | [],us,ds,es,h,h'=>bV
 | ŗ,[],ds,es,h,h'=>by simp![zp] at h';subst h';exists r9
 | ŗ,u::us,ds,es,h,h'=>by
  simp![zp] at h h';ext Us;let#[c',cs',rfl,h3,h4]:=h';show MQ (mV (MQ h1 (MQ h3 r9))) (Ģ8 h2 h4)
def yA.sx uO ì è(h:WB) RA:yA N4=↑ds:=by
 unfold yA at h ⊢;ext ç
 .show h
 .show h
 .ext ç
  .rename_i q;cases h;rw[s À q]
  .cases h
 .cases h
def Ú1 G4 ŷ0:lY Á (xt kL g) (Ĩ5 tA):=λ S Z Y J ts Q hE e hq=>by
 ext Xq;unfold kL at e2;ext Ő
 .let#[xs,e3,e4]:=Η e2;let#[zs,e5,rfl]:=ų e4;ext ÏM;ext ÜU;let#[es',g3,g4]:=h2.seq e5;show#[d,d',es,es',rfl,g1,g3,hq qA (Ģ8 g2 g4) λ S'' s=>#[yA.sx g1 s,yA.sx g3 s]]
 ext ĳ
theorem yA.yo ß KZ ì Ą(h:QK) (e:ϲ2):∃ ds,yA d ϟ=↑ds/\uw:=by
 cases y with
 | tup us=>cases e;ext ÔM;show Š2
 | lst us=>
  cases e;ext Hf;obtain⟨ds,⟨rfl,_⟩ | ⟨a,rfl,h1⟩,h2⟩:=h
  .show Š2
  .show Èa
 | _=>cases e
end
end L5
namespace L2
open É Ü Î VU ak
section
variable {Æ}
def Ģ6:MP:=λ x lo hi H Q=>∃ z,x=Ì z/\Kb/\Q τ1 H
def Õ4:jx X Ģ6:=by
 ext Ν8;ext ÞW;ext F6;exact#["str",_,F.slot_str_getitem.lookup,QV,?_];let#[o,h1,h2,h3]:=hs;cases pl with
 | none=>
  cases pu with
  | none=>show zgY (l:=none) (u:=none) ϒ2
  | int j uj=>show zgY (l:=none) Ök
 | int i ui=>
  cases pu with
  | none=>show zgY (l:=↑(i,ui)) (u:=none) ϒ2
  | int j uj=>show zgY (l:=↑(i,ui)) Ök
end
end L2
namespace HT
open É Î
section
variable {ś}
def Û1 Éi ē(ht:GV í t Ĳ) Μ8
  (hw:ßV) (h:Q qf s):Ìb:=by
 have hT:=Hx;let#[os,e1,e2,e3]:=id hs;have hS:Ûs:=#[os,e1,e2];unfold HI
 ext χ4
 first | exact tG | skip
 exact zg3 (ÖO hT () (zg3 (zgG (name:=ÍT) hT V1 (zg8 V1 hT Çr))));exact zg3 (m:=cq qf) (Ϛ6 ht (zg3 (zgI hS ?_)));ext ÔH;have yes:Θ6:=by rw[hw.1,hw.2];simp
 change ÍH;rw[Ô yes];exact zg3 (m:=Builtin.Tuple.tupleIsExact qf) (zg3 (zgI hT ϸ));rw[Ô ()]
 first
  | show zg3 (zgH Κ8)
  | show zg3 (zgH (zg3 ϸ2))
end
end HT
namespace L2
open É Ü Î
section
variable {Æ}
def ě5 È:MP:=λ x lo hi H Q=>∃ a xs,ż/\sT/\(ť5)/\Q ě H
theorem ý0:jx X (ě5 X.K):=by
 ext Ãj
 show#["tuple",_,ÈJ,Hx,HT.Û1 Õi #[õ,H,I,rfl,q]]
end
end L2
namespace L5
open É Ü L2 L3
open Î hiding St
def mM ĵ IZ EY:A6:=ÍU
section
variable {Æ}{Ù}{č}{lo hi:Α3}{BL}{tl th:î zy}{pos p2:Pos}
def lT yQ:yZ->SS->(Ė->Au)->Prop:=fun Y S Q=>match t with
 | none=>Q none S
 | some t=>t Y S λ d S1=>match d with
  | ñ=>Q ↑i S1
  | _=>Þ
def ĩ0 yQ:Prop:=∀ u,t=↑u->yC u
def lT.mo (h:ĩ0 tl):∀ Y S (Q Q':Ė->Au),(rZ)->lT tl Kc->lT tl Y S Q':=fun Y S Q Q' hq z=>by
 cases tl with
 | none=>show Js
 | some t=>show h t rfl é (λ d S1 z=>by cases d <;> first | show Js | show z) z
def ê8 È yQ:TO:=fun σ H Q=>∃ Y S,Dc/\ϗ/\lT t Y S λ o S1=>∀ H1,Ác->yu K H1 S1->Q o H1
structure ZT ê (e:Α3) yQ:Prop where
 mo:ĩ0 t
 po:PO X e (ê8 Gi)
def v_:ZT X none none:=#[BJ,λ gV s σ H Q I h=>by
 let#[Y,S,r1,r2,z]:=h;show ę3 AV (z H ϲ r2)]
def vZ (h:MA):ZT X ↑e ↑te:=#[λ u q=>by cases q;show h.mo,λ gV s σ H Q I hu=>by
 exact ù4 h.pe AV ?_;ext áI;cases d with
 | int i=>ext HF;show#[i,q1,h1 u6]
 | zx=>show Ai
 | bl _=>show Ai
 | str _=>show Ai
 | tup _=>show Ai
 | qZ _=>show Ai
 | ref _=>show Ai]
def lO HL EY Λ (Q:DK):Prop:=match d with
 | ϩ=>Q (ä Ŭ9) S
 | Ì z=>Kb/\Q τ1 S
 | d=>∃ ds,WB/\∀ p,Iv->Q Đ (ups S p (Ñ Ŭ9))
def lO.mo ì Rq ß{Q Q':DK}(hq:rZ) (h:lO d Ŵ S Q):lO d Ŵ S Q':=by
 unfold lO at h ⊢;ext ç
 .show ō
 .show vB
 .let#[ds,h1,h2]:=h;show#[ds,h1,λ p hp=>hq À (h2 p hp)]
def zv.cut Ø è ÿ(h:Ų) EY:zv Å Ŭ9 (G6):=by
 have hd:∀ è ÿ Ď,Ų->zv Å (ds.drop n) (ś5 n):=by
  intro ds
  induction ds with
  | nil=>ext ÌZ
  | cons d ds ih=>
   ext Èt;cases n with
   | zero=>show Ó ϙ
   | succ n=>show ih n h2
 have ht:∀ è ÿ Ď,Ų->zv Å (ds.take n) (xs.take n):=by
  intro ds
  induction ds with
  | nil=>ext ÌZ
  | cons d ds ih=>
   ext Èt;cases n with
   | zero=>show Ð
   | succ n=>show Ó h1 (ih n h2)
 unfold mM kE;rw[Ág];show ht _ (hd _ h)
def ü6 ÿ Rq(h:ť5):G6=xs:=by
 unfold kE;rw[h.1,h.2];simp
abbrev dF È:MP:=λ x lo hi H Q=>ğ4 K NA\/(Ķ9 K NA\/ě5 K NA)\/Ģ6 NA
theorem lO.fits ì ř Rq Ø ß Rg(h1:ā6) (h2:ϗ) (h:lO d Ŵ ZD):dF K v Ŵ H Q:=by
 unfold lO at h;ext ç
 .ext DQ;ext Ο5;by_cases hw:ť5
  .exact Ã (Ä (Ã #[a,xs,rfl,g1,hw,h Âz h2]));ext FY;exact#[a,xs,rfl,g1,?_];have:=àM;rw[ü6 hw] at this;show this
  .exact Ã (Ä (Ä #[a,xs,rfl,g1,hw,λ p hp=>h À ?_ Ŝ (nC hp)]));ext FY;show#[p,_,rfl,RU,ÏB]
 .ext DQ;show Ã (Ã #[_,h1,h.1,h.2 J6 h2])
 .rename_i hn _;let#[ds,e,h]:=h;let#[a,xs,rfl,g1,g2]:=Îb;show Ä #[a,xs,rfl,g1,λ p hp=>h p (RS hp) L9 Ŝ (h2.ups Ŝ #[_,yF,ÏB])]
def Õ2 uD (tl th:î zy):zy:=fun Y S Q=>te Y S λ x S1=>lT tl Ĕ λ l S2=>lT th Y S2 λ u S3=>lO x l u S3 Q
def Ù9 s_ (hl:ZT X lo tl) (hh:ZT X hi th):PD X (Gs χ2 pos) àN:=by
 exact#[fun Y S Q Q' hq z=>Ν é (λ x S1 z=>lT.mo hl.mo Ō (λ l S2 z=>lT.mo hh.mo Y Gz (λ u S3 z=>lO.mo hq z) z) z) z,
  Ğ (ć4 (Ĕ3.or ((Í3.or ý0).or Õ4)) LM hl.po hh.po) Ľ]
 ext ħ;exact ď Ν LG;exact#[Y,S1,B8,p1,lT.mo hl.mo Ō (λ l S2 h2 H2 e2 p2=>?_) h1];exact#[Y,S2,YD,p2,lT.mo hh.mo Y Gz (λ u S3 h3 H3 e3 p3=>?_) h2];show lO.fits (FW (Âa e3) x q1) p3 (lO.mo (λ d S' z=>z.ext RK) h3)
@[simp] def gD:Ŧ8->Ev->î (Ė)
 | none,_=>↑none
 | some f,J=>Ī λ x=>match x with
  | ñ=>↑↑i
  | _=>none
def ZZ (f:Ŧ8) yQ:Prop:=∀ S Z Y J y Q,B2->gD f J=↑y->Ôj->lT t Kc
def É9:ZZ none none:=Ìt
def Ç1 Lm XD:ZZ ↑f ↑te:=λ S Z Y J y Q hE e hq=>by
 ext Gw
 .cases e2;cases Tq;show FE
 ext ĳ
@[simp] def gz EY:T->fC
 | ĺ=>↑(ä Ϫ6)
 | ŷ=>↑(Ñ Ϫ6)
 | Ì z=>if Kb then ↑ τ1 else none
 | _=>none
@[simp] def nX Ŏ (lo hi:Ŧ8):zEO:=fun J=>Ī λ x=>(gD lo J).bind λ l=>(gD hi J).bind λ u=>gz l u x
def zp.cut ß Ą è JE EY:zp S Ϫ6 Ŭ9:=by
 unfold mM;rw[MW];show Áw _ (Áx _ h)
def ü2 Lm{l u:Ŧ8}XD (hl:ZZ l tl) (hu:ZZ u th):xY (nX f l u) àN:=λ S Z Y J y Q hE e hq=>by
 ext YS;let#[l',e2,e]:=Ę;let#[u',e3,e]:=Ę;exact h tT;exact hl É0 l' Ds λ S2 s2=>?_;exact hu S2 Z Y J u' _ (Ph (A8)) e3 Ŭ4;have r3:Vw S3 Z x d:=Γ3 r1 (s2.trans s3);have hz:=(Ph (Hz)).zd;unfold gz at e;ext ó
 .cases e;let#[ds,rfl,h2]:=r3.tup;show hq Àt (BG Hl (mV Þw))
 .cases e;let#[ds,h1,h2]:=r3.seq rfl;have key:∃ ds,yA d S3=↑ds/\∀ p,S3 p=none->Q Đ (ups S3 p (Ñ (mM ds l' u'))):=#[ds,h1,λ p hp=>hq À ((Hz).trans Ŝ) (U9 (Hz) (lC hz hp Þw))];obtain⟨_,q | ⟨a,q,_⟩,_⟩:=r3.lst
  ext Ÿ9
  ext Ÿ9
 .ext ó
  .rename_i h0;cases e;cases r3.str;show#[h0,hq Àt Ϫ7]
  .cases e
 .cases e
end
end L5
namespace TM
open É Î
def noFill:fillsNumberSlot (Υ) "mul"=SU:=
 PySem.fillsNumberSlot_seq (id:="tuple.__mul__") (r:=↑(Ű "tuple.__rmul__")) Ïe Îq
def rep:seqRepeat? (Υ)=pure ↑(Ű "tuple.__mul__"):=by
 have a:=Úk (T:="tuple") (name:="__mul__") (id:="tuple.__mul__") Ïe;have b:=Úk (T:="tuple") (name:="__rmul__") (id:="tuple.__rmul__") Îq;unfold seqRepeat?;rw[a,b];rfl
def declines Q4 Uj:
  NR Æp (λ _ R s=>wL/\Ôw):=
 BU λ prog w A R s h=>by
  ext Tw
  wp_walk
  show yT
theorem ŋ9 ĵ IZ:∀ (m:Nat) (acc:ϵ α),(ſ m UI).foldl Âb acc=acc++(ſ m xs).flatten.toArray
 | 0,acc=>#[]
 | m+1,acc=>by
  rw[zdE,zdO,ŋ9 xs m,zdE,zdJ,Õk];simp
def Ú0 (k:Int) Uj (h1:¬ (æ (k < -(2 ^ 63))||àO)=true) (h2:¬ (Sq||k == 1)=true) (h3:¬ (æ (k<=0)||Sq)=true)
  (h4:¬ (ϱ*k>(2 ^ 63-1)/8)) (h5:¬ Îe (ϱ*k)=true) (h6:(Ìj).size<=Ý):
  NR (ÎP #[[Ο,Ê k t],[]]) (λ _ R s=>wL/\
   R (.ok (ύ ş)) { s with heap:=Ĩ { cls:=Υ,data:=Ě (Ìj) } }):=
 BU λ prog w A R s h=>by
  ext Tw;have e0:GV ύ7 l Ĳ:=#[_,hl,rfl,n,rfl]
  wp_walk
  rw[Ç h1];exact zg3 (m:=cq ĭ) (Ϛ6 e0 ?_);ext ë;rw[Ç h2,Ç h3,Ç h4,Ç h5];show zg3 (m:=p9) (zgB (zD1 yT) h6)
def ë5 Uj:
  NR (ÎP #[[Ο,Ê 1 t],[]]) (λ _ R s=>wL/\R (.ok (ύ ĭ)) s):=
 BU λ prog w A R s h=>by
  ext Tw;have c:(Sq||B6 == 1)=true:=#[]
  wp_walk
  show yT
section
variable {ś}
def times uG sr{k:Int}O9 ē(ht:GV í l Ĵ) (hne:its≠[]) (h0:1<=k) (hz:E7*Œ<=Ý)
  (one:k=1->Q ĭ s) (more:k≠1->Q ş { s with heap:=Ĩ { cls:=Υ,data:=Ě WR } }):
  Êi:=by
 have hT:=Hx;ext ÏJ;simp only at hc hd;subst hc hd;exact ÎQ (T:="tuple") (U:="int") () hT ÎR noFill Ìq rep Ðh
  (uv Äz (declines k Ϟ9) #[ho,rfl,hT,?_])
 have hlen:0<E7:=List.length_pos_iff.mpr hne;have hem:Qt=Á:=by cases its with
  | nil=>show ϱ5
  | cons a r=>rfl
 by_cases h1:k=1
 .subst h1;show uv Åu (ë5 Ϟ9) #[ho,one rfl]
 .have hks:Œ<=Ý:=zE0 (Nat.le_mul_of_pos_left _ hlen) hz;have hl:IU:=rfl;have hk2:k<=16777216:=⋯;have hcast:((K7:Nat):Int)*k=((E7*Œ:Nat):Int):=by
   rw[zA0,Int.natCast_mul,zF2 ⋯]
  have hf:(ſ Œ Ĵ).foldl Âb Ē=WR:=by rw[ŋ9];simp
  have hfl:(ſ Œ its).flatten.length=Œ*E7:=#[];exact uv Åu (Ú0 k Ϟ9 âp OZ) #[ho,?_]
  .simp![zE6,ÖQ,CZ];show Uu
  .rw[hem];exists h1
  .rw[hem];simp;lia
  .rw[hcast];lia
  .rw[hcast];intro q;unfold Îe at q;have:=RB q;lia
  .rw[hf,zA0,hfl,zf8];show hz
  .rw[hf];show more h1
end
end TM
namespace L2
open É Ü Î
def Ĝ8 È:R2:=λ x y H Q=>∃ a k xs,ż/\Ln/\sT/\xs≠[]/\1<=k/\å*Œ<=Ý/\(k=1->Q ě H)/\(k≠1->∀ p,IT->Q Đ (upd H p (ä ŝ0)))
theorem ø9 Æ:yH Ϥ8 (Ĝ8 X.K):=by
 ext uJ;let#[a,k,xs,rfl,rfl,hx,hne,h1,hz,q1,q2]:=h;ext ϕ1;let#[its,r,ht,_]:=ξ hx;ext Zp;exact TM.times ËU (λ e=>#[õ,H,I,rfl,q1 e]) λ e=>?_;have hlen:Ρ5<=Ý:=by
  ext Ðy;show hz
 show#[Ò _,_,Ι (t':=ø) (o:=ä ŝ0) Oh #[#[hlen,Hq],_,r.rep Œ,BH],rfl,q2 e NC]
end L2
namespace L5
open É Ü L2 L3
open Î hiding St
section
variable {Ù}{Wk}
def k8:xJ:=λ x y S Q=>match x,y with
 | ñ,AM=>nB i j/\Q (ź0) S
 | ϩ,Ov=>(ds≠[]/\1<=k/\ϕ*Œ<=Ý)/\Q (ä ÕL) S
 | _,_=>Þ
def jI:ŋ
 | ñ,AM=>if nB i j then ↑(ź0) else none
 | ĺ,Ov=>if ts≠[]/\1<=k/\ő*Œ<=Ý then ↑(ä Öt) else none
 | _,_=>none
def k8.mo:vn k8:=λ x y S Q Q' hq h=>by
 unfold k8 at h ⊢;ext ç
 .show vB
 .show vB
 .show ï
theorem zv.rep Ø è ÿ(h:Ų):∀ n:Nat,zv Å Ør (ſ n xs).flatten
 | 0=>Ð
 | n+1=>by
  ext ό9;show h.append (zv.rep h n)
def k8.fits:wG K k8 (λ x y H Q=>ÈW):=λ x y d e H S Q h1 h2 h3 h=>by
 unfold k8 at h;ext ç
 .ext Aq;show Èl
 .rename_i ds k;let#[#[c1,c2,c3],h]:=h;have h1':=h1;ext Aq;ext Ο5;have hl:=AO;exact Ã #[a,k,xs,rfl,h2,g1,ÆM,c2,by rw[<- hl];show c3,λ e=>?_,λ e p hp=>?_]
  .subst e;exact h Âz h3;have:(ſ (1:Int).toNat ds).flatten=ds:=#[];rw[this];show h1'
  .exact h Ög;ext FY;show#[p,_,rfl,RU,Ñf]
 .show ï
theorem zp.rep ß Ą è JE:∀ n:Nat,zp S (ſ n ts).flatten Ør
 | 0=>Ð
 | n+1=>by
  ext ό9;show h.append (zp.rep h n)
def ı4:ϭ zm jI k8:=λ S Z x y z d e Q hz hx hy ef hq=>by
 unfold jI at ef;ext Ξ
 .ext Ξ
  .rename_i hc;ext Sd;show#[hc,Ea]
  ext ϰ
 .ext Ξ
  .rename_i hc;cases ef;ext Ûc;cases Nd;have hl:=h2.len;show#[#[Éq,hc.2.1,by rw[hl];show hc.2.2],hq BX (BG Hl (mV (zp.rep h2 _)))]
  ext ϰ
 ext ϰ
end
end L5
namespace L4
open É Î
section
variable {ś}
def ò1 uG ς{Q:Nv}(hl:GV í l Β) Âw
  (h:Q vs { s with heap:=Υ2 }):Â ã (Δ5 ĭ) à:=by
 let#[o,ho,hc,n,hd]:=id hl;have new:àP Ë=↑ OU:=Ũ;have ho':àP l=↑o:=zg4 _ ho;unfold Δ5;exact zg3 (ψ8 (Ib entry_proto_collect' (zg3 (m:=Ű8) (ϛ2 (zD1 #[Ïy,Ib entry_list_iadd' ?_])))));change Â À (HN ş ĭ ş) À { s with heap:=Ĩ OU };unfold HN;exact zg3 (zgI (T:="tuple") #[o,ho',hc] ?_);rw[Éf];exact zg3 (aK ho' hd (zg3 (aK ØU Gb)));rw[PN];exact zg3 (Vx ØU rfl ϸ DA (by change (Ē++Β).size<=Ý+1;simp![Øs,zA0,zdD];lia));exact zg3 (m:=load Ë) (Ϯ9 (š8 new _) ?_);change Â À (pure Òo) Q E _;have e:Òo=vs:=#[];rw[e];show FT
end
section
open L2 Ü
variable {Æ}
def Ę8 Μ ς:∀ b o,¬ Þ->ϑ->(Υ2).get? b=↑o:=λ b o _ q=>by
 rw[zgX ņ (zB3 (zA8 q))];show BF
theorem zab:xH X ş3 (λ xs H Q=>∃ p ys,∃ rows:ű,υ/\W8/\i0 ė SV/\Ss/\bz (B5) H Q):=by
 ext ÆU;have hl:(B5).length<64:=ÛT
 have sz:∀ vs:KG,Ë<=(Υ2).objs.size:=λ vs=>by rw[Heap.size_update,size_push'];show Ϛ5
 ext ť0
 .ext Öl;show ņ7 I (λ Q' h=>collect_list IV Ói Ùh) ÚS
 .let#[its,rv,pl,hz]:=Ly;show ņ7 I (λ Q' h=>ò1 pl Ùh Ói) ÚS
end
end L4
namespace L5
open É Ü L2 L3
open Î hiding St
section
variable {Æ}{Ù}{č}{ĩ}{Ū}{AD}
def jX:xC:=λ ds S Q=>∃ d,∃ rows:ű,Nh/\K3=↑ aH/\Ss/\χ7/\∀ l,vA->Q ĭ (ups S l (Ñ ((JZ rows).map nZ)))
def fh:zLO
 | [y]=>(qY y).bind λ ts=>(nY ts).bind λ rs=>if ËN then ↑(Ñ ((JZ rs).map zN)) else none
 | _=>none
def Ĉ6:ph zm fh jX:=λ S Z ys z ds Q hz hv e hq=>by
 unfold fh at e;ext ó
 .ext Ig;let#[ts,e0,e]:=Ę;let#[rs,e1,e2]:=Ę;ext Ő
  .ext Ů3;cases ņ5 e1;let#[es,h2,h3]:=MB e0;cases fj.mp h3;show#[d,rs,rfl,h2,Bu,hc.2,Èb]
  ext ĳ
 .cases e
def jX.mo:qV jX:=λ ds S Q Q' hq #[d,rows,h0,h1,h2,h3,h4]=>#[d,rows,h0,h1,h2,h3,Ðg]
def xH.or ÈO:ÈK:=λ gV s σ H xs us Q I rv q=>
 q.elim (λ q=>h ũ9 rv q) λ q=>h' ũ9 rv q
def jX.fits:pR K jX (λ xs H Q=>∃ p ys,∃ rows:ű,υ/\eG/\ϐ3/\Ss/\L4.bz (B5) H Q):=λ xs ds H S Q h0 h2 h=>by
 let#[d,rows,rfl,e,pz,hne,h]:=h;ext LY;let#[a,ys,rfl,g1,g2]:=yA.sq ϙ e;have hl:=AO;ext CE;exact#[_,ys,rows,rfl,g1,aA g2 hne,pz,λ l ps hf hp hs=>?_];have heq:=L4.Ľ1 (rows:=rows) (by have:=hp.map Ł;rwa [ÙK ⋯] at this) hs;have hx:Ext H (upd H l (Ñ O7)):=SF;exact h ÜV (h2.ups hx ϗ4);rw[<- heq];show Ζ hx _ (zv.aJ λ q hq=>zv.bP g2 q (ày hq))
def Á6 (hm:Öu) Ϲ (hg:àQ) tV:PD X (ù Üa AA) (vj jX tA):=
 m5 (lE L4.zab áJ A7) jX.mo jX.fits ă
end
end L5
namespace L2
open É Ü Î
section
variable {Æ}
def l7 (r:Addr) (j:Int):C_:=λ h=>∃ t u v,IsRange h r 0 j 1 t u v
def zai:xH X (ZR) (λ xs H Q=>∃ j,xs=Ku/\∀ r,H r=none->Q (Ò r) uT):=by
 ext A1;let#[j,rfl,q]:=h;ext ÚT;let#[t,rfl]:=ru;exact call_range_1 #[Ϭ,_,Ι (o:=vF (l7 Ë j)) ž8 ?_,rfl,sQ];have here:l7 Ë j (Ĩ { cls:=ZR,data:=A_ [Ê 0 ø,Ê j t,Ê 1 (G5)].toArray }):=#[_,_,_,Ýw];exact#[here,#[_,Ũ],λ h1 h2 S k=>?_];let#[a,b,c,e]:=S;show#[a,b,c,k _ e]
theorem zao ę:xH X (ł) (λ xs H Q=>∃ r j,xs=[Ò r]/\H r=↑ Þx/\0<=j/\Ϫ8/\∀ l,uB->Q ĭ (upd H l (Ν1))):=by
 ext A1;let#[a,j,rfl,hr,h0,h1,q]:=h;ext UR;obtain⟨⟨t,u,v,hR⟩,-,-⟩:=(show xN Qf a (vF (l7 a j)) from I.zJ a _ hr)
 have hsz:ÏW 0 j 1=((JY:Nat):Int):=Êb
 exact call_list_range (n:=JY) Dg hR (small_one Ha ć) hsz ⋯ λ h' tk acc c k e hi=>?_;exact#[Ϭ,_,Ι (o:=Ν1) k ľ #[?_,acc.toList,c,?_,Vi],rfl,sQ]
 .ext OE;simp;lia
 .let#[hn,hi]:=hi;exact ST.Paired.mk (by simp[hn]) λ i a b ha hb=>?_;rw[zA3] at ha;let#[k',hk,rfl]:=ų ha;let#[hk1,hk2]:=Š hk;simp at hk2;subst hk2;let#[w,hw]:=hi i b (FZ);subst hw;show#[w,#[]]
end
end L2
namespace L5
open É Ü L2 L3
open Î hiding St
section
variable {Æ}{Ù}{č}{Ū}{pos p pos2 p2:Pos}
def jk:xC:=λ ds S Q=>∃ j:Int,ds=Ku/\0<=j/\Ϫ8/\∀ l,vA->Q ĭ (ups S l (Ñ (ma 0 JY)))
def Zh:zLO
 | Ku=>if 0<=j/\Ϫ8 then ↑(Ñ (Ak 0 JY)) else none
 | _=>none
def ú0:ph zm Zh jk:=λ S Z ys z ds Q hz hv e hq=>by
 unfold Zh at e;ext ó
 .ext Ig;ext ó
  .rename_i hc;cases e;cases Uo;show#[_,rfl,Bu,hc.2,λ l hl=>hq À LO (lC hz hl (ġ3 À))]
  .cases e
 .cases e
def jk.mo:qV jk:=λ ds S Q Q' hq #[j,h0,h1,h2,h3]=>#[j,h0,h1,h2,λ l hl=>hq À (h3 l hl)]
theorem å9 Ø Ď:zv Å (ma 0 n) (Ű9 ξ8):=by
 unfold ma
 induction Ŀ n with
 | nil=>show Ð
 | cons k l ih=>show Ó (by ext FY;rw[zfH]) ih
def jk.fits:pR K jk (λ xs H Q=>∃ j,xs=Ku/\∀ r,H r=none->∃ r' j',[Ga r]=[Ò r']/\uT r'=↑(vF (l7 r' j'))/\0<=j'/\j'<=16777216/\
  ∀ l,uT l=none->Q ĭ (upd uT l (Ñ ((Ŀ j'.toNat).map ξ8)))):=λ xs ds H S Q h0 h2 h=>by
 let#[j,rfl,c1,c2,h]:=h;ext LY;ext ŷ8;exact#[j,rfl,λ r hr=>#[r,j,rfl,yF,c1,c2,λ l hl=>?_]];have x1:Ext H uT:=Rh hr _;have hlr:l≠r:=λ z=>by subst z;rw[yF] at hl;cases hl
 have hlH:uB:=by rw[yv hlr] at hl;show hl
 have x2:Ext uT (upd uT l (Ν1)):=Rh hl _;show h l (RS hlH) L9 ϋ1 ((nC hr).ups x2 #[_,yF,å9 _])
def ë8 (hm:ÙL) (hm2:Ş7) vH ę (hg:Gl X "list") (hg2:Ũ4)
  (he2:Aa)
  (he:Ϟ [Χ4] Ö=(Á,eval (Χ4) Ö)::ż6) Qv ßh:
  PD X (ù àg [Χ4] Ψ) (vj jk tA):=by
 have h:=iV (p:=p) (zao hc) ÏL (ja (iV zai hg2 hm2 ϯ0 ßt) k_ he) Ha Ip;show#[vj.mo jk.mo ă,Ğ h λ _ _ _ hu=>ĳ4 jk.mo jk.fits ă hu]
end
end L5
namespace ST
open É sD Ü Î L2
def ì1 {us us':zLV}(p:us'.Perm us):∀ {ms:á},Ŷ3->∃ ms',ϻ us' ms'/\ms'.Perm ms:=by
 induction p with
 | nil=>intro ms h;show#[ms,h,IY]
 | cons x _ ih=>
  intro ms h;cases h with
  | cons n t h=>
   let#[ms',h1,h2]:=ih h;show#[n::ms',Ó n t h1,h2.cons n]
 | swap x y l=>
  intro ms h;cases h with
  | cons n t h=>
   cases h with
   | cons m u h=>show#[m::n::_,Ó m u (ÀX),.swap Ú]
 | trans _ _ ih1 ih2=>
  intro ms h;ext ÞZ;let#[m2,h3,h4]:=ih1 h1;show#[m2,h3,h4.trans h2]
theorem gJ.at Kt ĝ â vW(S:gJ Ž ϯ Mc):wa w a υ8 h:=by
 let#[#[es,ep,t,ho,he,T,h1,h2,h3],_]:=S;have hm:Þr:=Êz
 ext Ο9
 show#[es,ep,t,#[ho,ËL,T.nh,h1,h2],by rw[he,zD6];rfl]
theorem Ň9:∀ xs:N7,ϻ υ8 (ϛ)
 | []=>Ð
 | e::xs=>Ó UZ (Ň9 xs)
theorem Ĳ7:∀ Ń Ad,ϸ3->Ű0
 | _,_,Ð=>Ð
 | _,_,ÀX=>Ó MS (Ĳ7 h)
section
variable {Æ}
def zaf ę:xH X (Lg) (λ xs H Q=>∃ p,∃ ns:á,υ/\ϳ7/\Δ<64/\
  ∀ E8 K0 (ms:á),uB->Ŷ3->ms.Nodup->(∀ n,n∈ms↔n∈ns)->Ôs):=by
 ext A1;let#[p,ns,rfl,hq,pz,q]:=h;ext ÅW;have iA:ϻ Wm:=OI rv;have nums:Nums Ĵ ns:=λ i v hv=>by
  have hv':DS:=Ϸ1
  have hi:i<Δ:=by rw[hl];show (Š hv').1
  let#[u,e1,t,e2]:=Te (i:=i) (x:=Ø8 ns[i]) (Vt);rw[hv'] at e1;cases e1;show#[ns[i],t,e2,Vt]
 have hh:Š9:=I_;exact zag (A:=X.A) hh IV nums Ñu;ext ËW;have hSO:=S.at;exact#[Ϭ,_,Ι (t':=tk) (o:=vF (wa X.w Ë υ8)) kk ľ ?_,rfl,q À (ϛ) (AF) (Ň9 xs) S.nd λ n=>#[λ hn=>?_,λ hn=>?_]]
 .ext Ðv;show ÆW
 .let#[e,he,rfl]:=F5 hn;let#[j,_,_,hj]:=jh;show zB7 hj
 .let#[j,hj]:=zfU.mp hn;show U.all j n Éb
def zac ę:xH X ş3 (λ xs H Q=>∃ l us,∃ ms:á,xs=[Ο]/\H l=↑ Xe/\Ŷ3/\Ŵ6<64/\
  ∀ (p:Addr) su,IT->ns.Perm ms->Üb->Q Đ (upd H p (Ñ Kx))):=by
 ext Öh;let#[l,us,ms,rfl,hl,hm,pz,q]:=h;ext ÆK
 have hlen:ī=Ϡ:=by rw[<- eu];simp
 have hml:=hm.length;have hh:Š9:=I_;ext ÆR
 let#[ms',i1,i2]:=ì1 hp hm;have hcl:=hp.length_eq;have hl24:IU:=rfl;exact L4.ļ0 (N:=Ŭ5) (Out:=λ out=>∃ ns',ϻ Pm ns'/\ns'.Perm ms'/\Úe) (λ Q' h=>ĸ1 (by show hh) S (by rw[hlen,hml];lia) Q' h) (by rw[hcl,hml];lia) (λ h2 s6 k=>L4.Ú9 i1 h2 (by rw[hcl,hml];show pz)) (λ h1=>#[ms',by simpa using i1,IY,?_]) λ out h' tk p ho hs hp' k hat=>?_
 .have:ϯ7<2:=by rw[<- i1.length];show h1
  match ms',this with
  | [],_=>show Ð
  | [_],_=>show zfP À
 .let#[ns,g1,g2,g3]:=ho;let#[e,he]:=hat;exact#[Č,_,Ι (t':=tk) (o:=Ñ Kx) ÑY hp' ?_,rfl,q p ns (GH hp') (g2.trans i2) g3];show#[by rw[zA7,g2.length_eq,i2.length_eq];lia,Pm,e,Ĳ7 g1,ϵ9]
end
end ST
namespace L5
open É Ü L2 L3
open Î hiding St
def insI (n:Int):á->á
 | []=>[n]
 | m::l=>if n<m then n::m::l else if n=m then m::l else m::Âc
def nD:á->á
 | []=>[]
 | t9=>insI n (nD ns)
theorem ō9 {n k:Int}:∀ {l:á},k∈ Âc ↔k=n\/k∈l
 | []=>by simp[insI]
 | m::l=>by
  unfold insI;split
  .simp
  .split
   .ext A5;subst h;simp
   .rw[zA5,ō9,zA5];ext HS
    .rintro (h | h | h)
     .show Ã fX
     .show Ä h
     .show Ã (Ã h)
    .rintro (h | h | h)
     .show Ã fX
     .show Ä h
     .show Ã (Ã h)
theorem Zd {k:Int}:∀ {l:á},k∈nD l↔k∈l
 | []=>.rfl
 | n::l=>by unfold nD;rw[ō9,Zd,zA5]
theorem ľ1 {n:Int}:∀ {l:á},l.Pairwise Oq->(Âc).Pairwise Oq
 | [],_=>zfP À
 | m::l,h=>by
  have h':=O0 h;unfold insI;split
  .rename_i c;exact Γ8 #[Jv,h];rcases Ş hx with e | e
   .rw[e];show c
   .show Int.lt_trans c (h'.1 x e)
  .split
   .show h
   .rename_i c1 c2;exact Γ8 #[Jv,ľ1 h'.2];rcases ō9.mp hx with e | e
    .rw[e];lia
    .show h'.1 x e
theorem ġ6:∀ l:á,(nD l).Pairwise Oq
 | []=>Ð
 | n::l=>ľ1 (ġ6 l)
theorem é0 {l m:á}(h1:l.Nodup) (h2:l.Pairwise ϝ3) (h3:m.Pairwise Oq) (h:∀ k,k∈l↔k∈m):l=m:=by
 have nm:m.Nodup:=h3.imp λ h e=>⋯;exact L4.ŕ2 (r:=λ a b:Int=>a<=b) (λ a b p q=>⋯) ((zfT h1 nm).mpr h) h2 (h3.imp λ h=>⋯)
section
variable {Æ}{Ù}{č}{Ū}{pos pos2 p p2:Pos}
def cL:xC:=λ ds S Q=>lq Io\/∃ d,∃ ns:á,Nh/\(Ŧ2)/\K3=↑ Nj/\Δ<64/\∀ l,vA->Q Éx
def fg:zLO
 | Oa=>match oW ts with
  | some ns=>if Δ<64 then ↑(Ñ ((nD ns).map HY)) else none
  | none=>dr Oa
 | [ĺ]=>dr [ĺ]
 | _=>none
def Ė8:ph zm fg cL:=λ S Z ys z ds Q hz hv e hq=>by
 unfold fg at e;ext ó
 .ext ó
  .rename_i ns hns;ext ó
   .rename_i hc;cases e;cases gk hns;ext Ig;ext ÚL;cases Ft h3;exact Ã #[d,ns,rfl,?_,h2,hc,λ l hl=>hq À LO (lC hz hl (YT))];obtain⟨_,q | ⟨a,q,_⟩,_⟩:=h1.lst <;> subst q <;> show Áz
   .cases e
  .show Ës
 .show Ës
 .cases e
theorem cL.mo:qV cL:=λ ds S Q Q' hq h=>by
 rcases h with h | ⟨d,ns,h1,h2,h3,h4,h5⟩
 .show Ä (lq.mo Io Q' hq h)
 .show Ã #[d,ns,h1,h2,h3,h4,λ l hl=>hq À (h5 l hl)]
def í6 Il ÿ Ø ß Rg ì Ad(h0:zv Å [d] xs) (h2:ϗ) (hn:Ŧ2) (e:K3=↑ Nj) (pz:Δ<64) (h:∀ l,vA->oh Å Q Éx):
  ∃ p,∃ ns':á,υ/\yy Å p (ns'.map Ø8)/\ns'.length<64/\
   ∀ E8 K0 (ms:á),uB->Ŷ3->ms.Nodup->(∀ n,n∈ms↔n∈ns')->
    ∃ l' us',∃ ms':á,ÛU/\ÊP/\ϻ us' ms'/\ϯ7<64/\
     ∀ (p:Addr) su,uW p=none->ns.Perm ms'->Üb->Q Đ (upd uW p (Ñ Kx)):=by
 ext LY;let#[a,ys,rfl,g1,g2]:=jA ϙ e hn;rw[g2.ints] at g1;exact#[a,ns,rfl,g1,pz,λ l us ms hf hi nd hmem=>#[l,us,ms,rfl,yF,hi,?_,λ p ns2 hp pm srt=>?_]]
 .have:=ST.Ŵ1 ms ns nd λ x hx=>(hmem x).mp hx;lia
 .have x1:Ext H uW:=SF;ext ÊD
  ext ÔZ
  have x2:Ext uW (upd uW p (Ñ (ns2.map Ø8))):=Mz;have heq:ns2=nD ns:=é0 (pm.nodup_iff.mpr nd) srt (ġ6 ns) λ k=>by rw[pm.mem_iff,hmem,Zd]
  exact h ØQ ((nC hf).ups x2 ϗ4);rw[<- heq];show zv.aW ns2
def Ú5 ϴ (hm:Öu) (hm2:X.mg "set"=none) vH ę (hg:àQ) (hg2:Gl X "set")
  (he2:Aa)
  (he:Ϟ [Ψ8] Ö=(Á,eval (Ψ8) Ö)::ż6) Qv ßh:
  PD X (ù Üa [Ψ8] Ψ) (vj cL tA):=by
 have h:=lE (p:=p) (xH.or (ST.zad hc) (ST.zac hc)) áJ (ja (iV (xH.or (ST.zae hc Jp) (ST.zaf hc)) hg2 hm2 PyProof.Rows.boot_set ßt) k_ he) Ha Ip;exact#[vj.mo cL.mo ă,Ğ h Ľ];ext ħ;exact qE ă GI Λ1;rcases h1 with h1 | ⟨d,ns,rfl,c1,c2,c3,h1⟩
 .let#[p,ys,rows,a1,a2,a3,a4,a5]:=lq.fits (w:=X.w) ØN (lq.mo ËS);show Ä #[p,ys,rows,a1,a2,a3,a4,λ l us ps b1 b2 b3 b4 b5=>Ä (a5 l us ps b1 b2 b3 b4 b5)]
 .let#[p,ns',a1,a2,a3,a4]:=í6 (w:=X.w) q1 p1 c1 c2 c3 (λ l hl=>(h1 l hl).ext e1);show Ã #[p,ns',a1,a2,a3,λ l us ms b1 b2 b3 b4=>Ã (a4 l us ms b1 b2 b3 b4)]
end
end L5
namespace L5
open É Ü L2 L3
open Î hiding St
section
variable {Æ}{e st:Expr}
def ğ6:Sm:=Fh
def Œ6:xl:=uQ
def ĭ6 v7:zu X st Œ6:=Åh
def Å9 ğ:yq R ğ6 Œ6:=λ S0 Z0 S Z Y J o E F e P=>by cases e
end
end L5
namespace L5
open É L2 L3
def Į6:ϭ zm mB Zx:=Υ8
def Ĵ8:ϭ zm ő2 ŗ8:=Υ8
def Ĩ9:ϭ zm fZ Zy:=Υ8
end L5
namespace L5
open É Ü L2 L3
open Î hiding St
section
variable {Æ}{č}{BL}{pos p q:Pos}
def Ø2 Ŷ9 s_ YF (hg2:Gl X "str") (h1:zEE X e [Ų4]) (h2:zEB IH [Ų4]) (h3:zEE X (Ų4) []):
  PD X (ù R4 [e,Ų4] Ψ) (eC "str" te):=aP š3 uS Òp Uc
end
end L5
namespace L3
open É Î L2
section
variable {Æ}{Ć}
def wE (E:iE) (W:Án) (m:Nat):iE:={ E with nx:=ÊQ,ct:=ÊQ,bk:=E.nx }
def cX (c:xn) (tb:xl):xl:=λ E Y S=>∃ W:Án,(∃ m,W m Y S)/\∀ m Y S,W m Y S->
 c Y S λ b S1=>if Vo then tb (wE E W m) Ĕ else E.nx Ĕ
def cX.mo {c:xn}ħ0(hc:o_ c) (hb:l_ tb):l_ (cX c tb):=λ E E' Y S hE #[W,w0,ws]=>
 #[W,w0,λ m Y S hw=>hc é (λ b S1 z=>pZ (λ z=>hb (wE E W m) (wE E' W m) Ĕ ÌH z) (λ z=>Gn À z) z) (ws m Y S hw)]
def Æ4 Jo Tt ED ħ0 Ř9 (hc:zG MT) (hb:y_ Ÿ3):zu X Õm (cX tc tb):=by
 exact#[cX.mo Jt sV,qc (Ë0 hp hc.pt hb.ps) HG];let#[Y,S,r1,r2,W,ů3,ws]:=hu;exact#[λ m σ' H'=>B7/\∃ Y S,ϓ0/\Ϩ3/\W m Y S,#[m0,IY,Y,S,r1,r2,w0],?_];rintro m σ2 H2 ⟨x2,Y2,S2,q1,q2,w2⟩;exact Dy Jt GB (ws m Ir w2) λ k S3 H3 h3 e3 p3=>pZ Jf Jf h3
 .exact#[fun σ' H'=>B7/\∃ Y S m',m'<m/\ϓ0/\Ϩ3/\W m' Y S,fun σ' H' #[a,Y',S',m',b,c,d,e]=>#[m',b,a,Y',S',c,d,e],Y2,S3,q1.ext e3,p3,?_];show sV (wE (ly ė D) W m) _ Y2 S3 #[ÃX,λ _ _ q=>Sb (YI) q,λ _ _ q=>QP (YI) q,ÃX] z
 .show z σ2 H3 (q1.ext e3) (YI) p3
end
end L3
namespace L5
open É Î L2 L3
def m9 TR Tz (b:Sm):Nat->ϲ5
 | 0,_=>none
 | n+1,J=>(c tB).bind λ k=>if Hr then (b tB).bind λ o=>match o with
   | .nx J2=>Þy
   | .ct J2=>Þy
   | .bk J2=>↑ ϐ7
   | QB=>↑(QB)
  else ↑(.nx tB)
def Ņ9 Ď TR Tz (b:Sm):Sm:=m9 is c b n
def Á3 ğ AP ā{is:A4}{c:ϐ}ED{b:Sm}ħ0 ų3 (hb:yq R b tb):yq R (Ņ9 n is c b) (cX tc tb):=λ S0 Z0 S Z Y J o E F e P=>by
 let#[SB,b1,FB,b2]:=F.rebase;ext ÅB;exact#[λ m Y' S'=>∃ Z' J',FR Ů5 Y' J'/\m9 is c b m J'=↑o,#[n,Z,J,FB,e],λ m Y' S' χ8=>?_];cases m with
 | zero=>cases e'
 | succ m=>
  unfold m9 at e';let#[k,c1,e']:=XN;have G:=ÁF;exact hc S' Z' Y' _ k _ G.er c1 Ŭ4;cases k with
  | true=>
   rw[Ź] at e' ⊢;let#[o1,g2,e']:=XN;exact hb SB Z0 S3 Z' Y' _ o1 _ (G.grow s3) g2 ?_;cases o1 with
   | nx J2=>show ÆP
   | ct J2=>show ÆP
   | bk J2=>cases e';show Æi
   | rt y=>cases e';show Çe
  | Á=>
   rw[Ç ()] at e' ⊢;cases e';show P S3 Z' Y' ((G.grow s3).back b1 F.z0)
end L5
namespace ZP
open É Î
def Č7 E6 E8 (xs:zAV):NR (Builtin.«enumerate.__new__» #[[VX,Ο],[]]) (λ _ R s=>Ţ4/\
   R (.ok (ύ (Ò Üc))) { s with heap:=Æb }):=
 BU λ prog w A R s h=>by
  ext sF;let#[q,h]:=h;have hsub:=sub_enumerate;have hL:SQ ύ7 k uH:=q;let#[#[c,xk,dt,sl],hl,hc]:=q.cls;replace hc:c=Îd:=hc;subst hc
  wp_walk using Ío
  exact wpAny_stack_any λ st=>rh;split
  .rename_i c _ _ _ _ _;cases (c == WZ "enumerate")
   .ext Ξ2
    show yT
   .ext Ξ2
    show yT
  .ext Ξ2
   show yT
section
variable {ś}
def Ï5 M3 ē(hL:Ţ4)
  (h:∀ h',IsEnum h' sd Ë 0 Ġ->SI h' k Ë l 0->(∀ b o,Oc)->Q (Ò sd) { s with heap:=h' }):
  Â ã (call (VX) [Ο]) à:=by
 exact callType_new F.called_enumerate () (F.typeCall_enumerate_1 _) (F.newCall_enumerate_1 _) (λ obj=>F.args_object_init_2 obj _) F.entry_enumerate_new (Č7 k uH) #[hL,?_];have hz:Üc=uA:=IW ..;change _/\_;rw[hz];have he:IsEnum (Æb) sd Ë 0 Ġ:=by
  have:=zA9 (ϓ6) (o:={ cls:=VX,data:=Ãw }) rfl;rw[hz] at this;show this
 show#[Üd,h _ he #[_,zg4 _ (Ũ),rfl,rfl] λ b o x=>zg4 _ (zg4 _ x)]
def ë1 yW E6 (it l:Addr) (hne:l≠it) (xs:zAV):Draws đ A it [it,l] AB (λ i v=>tD=↑v) (λ i h=>SI h ſ0/\Ŭ8) where
 live:=λ _ _ st=>let #[o,ho,_]:=st.1;#[o,ho]
 frame:=λ _ _ _ st hk=>#[st.1.on λ o e=>hk ų9,st.2.on λ o e=>hk l #[] o e]
 item:=λ i s Q E hi st hQ=>draw st.1 st.2 (x:=HE) (Vt) λ h' hit' hs'=>hQ _ h' ø (Vt) #[hit',st.2.on λ o e=>(hs'.2 l hne).trans e] hs'
 done:=λ s Q E st hE=>Z6 hh st.1 st.2 #[] hE
end
end ZP
namespace L2
open É Ü Î ZP
section
variable {Æ}{ġ}
def Ō8 È E6 Ĥ:It:=
 #[λ i H=>∃ xs x,Ϫ9/\Jn,
   λ i H v H'=>∃ p x,v=Č/\IT/\H'=upd H p (ũ1)/\∀ xs,Ϫ9->Jn,
   λ i H=>∃ xs,Ϫ9/\å<=i]
def ĉ7 Ĝ Ù ĩ{kk} Ć YR{e it a:Addr}(hei:e≠it) (hea:e≠a) (hai:a≠it):
  Turn Ñv (Ō8 K k a) Pj e (λ i h=>(∃ old,IsEnum h e it i old)/\SI h k it a i) where
 mem:=#[]
 obj:=λ i h st b hb=>by
  let#[#[old,q1],o1,q2,_,d1]:=st;ext JX;rcases hb with e | e <;> subst e
  .show ÛY
  .show#[_,q2,Ïg]
 keep:=λ i h h' st k=>#[let #[old,q]:=st.1;#[old,k e #[] _ q],st.2.on λ o q=>k it #[] o q]
 item:=by
  ext Di;let#[xs,x,g1,hx]:=hg;ext Ùf;let#[u1,e1,r1]:=Te hx;ext ÜW;have hlt:i<K7:=ÍJ
  have D:=ë1 Òy (A:=Wl) ÑF k it a hai Ĵ;exact wpAny_pyNext_enum_itemD D he #[si,q1] hlt hei (by simp[hei,hea]) λ u h' tk hP ho hs' hT hsz hk=>š9;have hu:u=u1:=by simp![Òi,e1] at hP;show (zD5 hP).symm
  subst hu;have nT:Ë ∉ Pj:=λ hb=>by
   ext JX;let#[oi,qi,_]:=si;rcases hb with z | z
   .show ò (zA8 he) ÖB
   .show ò (zA8 qi) ÖB
  have ne:Ë ≠e:=λ z=>nT Ν9;exact wpAny_letOwnedTupleGo_enum ho λ h2 he2 sb=>?_;have fr:HX:=AF;have I1:Inv ú (upd H Ë (ũ1)) { s with heap:=ÆX,toks:=ø }:=
   Ι (o:=ũ1) ţ9 ľ #[ÉU,[Ê i tk,u],Ó #[tk,rfl] (Ó r1 Ð),BH]
  have hf':∀ b∈ Pj,upd H Ë (ũ1) b=none:=λ b hb=>by
   rw[yv (λ z=>nT (by rw[<- z];show hb))];show ϳ6
  have kk:∀ b o,b∉ Pj->(ÆX).get? b=↑o->ϗ3:=λ b o hb q=>by
   have hbe:b≠e:=QF;have hbi:b≠it:=QF;by_cases hbs:b=Ë
   .ext ßy;show J7 À hbe hT
   .have q':ϑ:=ÍK
    show J7 À hbe (hk b o hbe hbi q')
  have I2:=Inv.bX (h':=h2) (t':=tk+1) (fp:=Pj) Éc;exact#[Ϭ,_,I2,rfl,#[_,x,rfl,fr,rfl,Ðz],#[#[_,by exists he2],hs'.1.on λ o q=>(sb.2 it (Ĭ hei)).trans q],hf']
 done:=by
  ext Di;let#[xs,g1,hx]:=hg;ext Ùf;have l1:=VN;ext ÜW;have hT:Ge Px "enumerate":=Üd;unfold uK;exact zg3 (zgQ (zgG (name:=Nk) hT Òq
   (zg8 Òq hT F.entry_enumerate_next ?_ (F.args_enumerate_next_1 _))))
  change Â À (Om Px 2 >>= _) Ú;exact zg3 (zgA he rfl (x:=Ò it) Gb);exact zg3 (Z6 ÑF si q1 FK λ h' x he' hx'=>?_);let#[o,ho,hc]:=hx';exact zg3 (zgN Ρ0 Eb ψ9 ?_);show zD1 #[rfl,I.bX (t':=ø) (fp:=Pj) (λ b o hb q=>he' b o (QF) q) hf]
 self:=λ _ _ _ _ _ st h=>let #[_,q]:=st.1;Øt q h
def Ð2 È (ta:TA):TI:=fun σ H R=>ta Û λ vs H1=>∃ a k,vs=[õ]/\(∃ xs,oJ K H1 k ϯ)/\R (Ō8 K k a) H1
theorem Á1 Wk Öi ĩ{kk} (hg:Úl) (hm:ÒI) Îj:
  PI Ëa (Ð2 X.K ta):=by
 ext Lq;exact Call_ (gh Gv boot_enumerate (Zt Ν2 (by rw[hs];rfl) rfl));ext XI;let#[a1,k,rfl,ϱ0,q]:=q1;cases r1 with
 | cons r rr=>
  cases rr;cases r;ext ØT;have la:=q1.lt;exact ZP.Ï5 q1 λ h' E S up=>Øt E ?_;have nw:∀ b∈[Ϸ+1,Ϸ],Ϸ<=b:=λ b hb=>by
   ext JX;rcases hb with z | z <;> rw[z]
   .show Ϛ5
   .show EI
  show#[_,[Ϸ+1,Ϸ],_,_,H1,rfl,ξ7,ĉ7 (Nat.succ_ne_self _) (zdC (ze2 la)) (zB3 la),#[#[_,E],S],ÆF,q]
end
end L2
namespace L5
open É Ü L2 L3
open Î hiding St
def k9 Ŕ:Ã4->Ã4
 | []=>[]
 | Bb=>ä [Ov,d]::k9 š ds
def ic Ŕ:Ĉ->Ĉ
 | []=>[]
 | Bb=>ä [Ov,d]::ic š ds
theorem ě9:∀ Lu (k i:Nat),(k9 k ds)[i]?=(ds[i]?).map λ d=>D.tup [Ê ((k+i:Nat):Int),d]
 | [],k,i=>by simp[k9]
 | Bb,k,0=>by simp[k9]
 | Bb,k,i+1=>by
  unfold k9;rw[zfA,zfA,ě9 ds š i,show k+1+i=k+ŏ from by lia]
theorem ī9:∀ Lu Ŕ,(k9 k ds).length=ϕ
 | [],k=>rfl
 | Bb,k=>by unfold k9;rw[zC0,ī9 ds];rfl
theorem Ň2 ß:∀ Ą è Ŕ,ŝ->zp S (ic k ts) (k9 k ds)
 | [],ds,k,h=>by ext YG;show r9
 | ŗ,ds,k,h=>by
  ext Fc;show MQ (mV (MQ (Vb) (MQ h1 r9))) (Ň2 š h2)
section
variable {Æ}{Wk}{Ū}{ϥ8}{ĩ}{kk:Nat}
def ļ1 rj:pO:=fun Y S R=>t Y S λ ds S1=>∃ d xs,Nh/\àK/\R #[k9 0 xs,λ S=>K3=↑xs] S1
def È1 (hm:ÒI) (ha:yB X [a] tA) (hg:Úl) (hs:Ξ6):
  zY Ëa (ļ1 tA):=by
 exact#[fun Y S Q Q' hq z=>ă é (λ ds S1 #[d,xs,h1,h2,h4]=>#[d,xs,h1,h2,hq À h4]) z,uZ (Á1 Ū2) LU];ext ÇN;let#[d,xs,rfl,s1,h]:=h1;let#[v,rfl,d1]:=q1.one;ext Ês;exact#[a1,cw d,rfl,#[us,g1],h VT];let#[b1,us2,q1,m1,m2]:=yA.k ßg hk;cases q1;have l1:=m2.length;exact#[λ dd hd=>?_,λ hl=>#[us2,m1,?_]]
 .rw[ě9,zdQ] at hd;let#[dx,hx,rfl]:=ų hd;ext Öj;exact#[#[us2,x,m1,hx'],ϣ7];let#[pp,x',rfl,hp,rfl,f1]:=q;ext Êv
  subst ex;ext Ïd;show#[pp,_,rfl,RU,Ζ Ŝ _ (Ó Em (Ó rx Ð))]
 .have hl':(k9 0 xs).length<=i:=hl;rw[ī9] at hl';lia
@[simp] def ig:EO
 | [x]=>(qY x).map λ xs=>ic 0 xs
 | _=>none
def Ď3 G4 ŷ0:lY Á ÜX:=λ S Z Y J ts Q hE e hq=>by
 ext Ùg
 .ext áK;ext ßa;ext ÜU;show#[d,es,rfl,g1,Ér]
 ext ĳ
def Ò0 G4(h:i3 g tA):lY true ÜX:=λ S Z Y J ts Q hE e hq=>by
 ext Ùg
 .ext áK;simp![zp] at r1;let#[d,_,rfl,h1,rfl]:=r1;let#[es,g1,g2]:=yA.yo h1 e3;show#[d,es,rfl,yA.sx g1 (ŋ8 S1 Z),Ér]
 ext ĳ
end
end L5
namespace TM
open É Î
def Ü8 Q4 Uj:
  NR Æp (λ _ R s=>Ås/\Ôw):=
 BU λ prog w A R s h=>by
  ext Tw
  wp_walk
  show yT
def mulL E8 (Ĳ:zAV) Ď (x:Int) (u:Tok) (dd:FP) (sl:Dq) (hc0:¬(! Îf x)=true) (hc1:¬ ϱ*x.toNat>(2 ^ 63-1)/8) (hc2:¬ Lb (ϱ*x.toNat)=true):
  NR (Builtin.«list.__mul__» #[[Ο,Ê x u],[]]) (λ _ R s=>Ås/\R (.ok (ύ (ŉ Ë))) { s with heap:=Ĩ { cls:=ł,data:=Ě (List.foldl Öm (ſ (if Sq=true then 0 else x.toNat) Ĳ)) } }):=
 BU λ prog w A R s h=>by
  ext Tw
  have hsz:=AutoListH.joined_fits hc2
  wp_walk;exact wpAny_ite_false (zg7 (Nat.not_lt.mpr hsz)) ?_;wp_walk;show yT
section
variable {ś}
def Č9 uG sr{k:Int}O9 ē(ht:PlainL í l Ĵ) (hne:its≠[]) (h0:0<=k) (hz:E7*Œ<=Ý)  (hk:Ų5)
  (more:Q ş { s with heap:=Ĩ { cls:=ł,data:=Ě WR } }):
  Êi:=by
 let#[Nn,n,ho,hc,he,hd]:=id ht;simp only at hc hd he;subst hc hd he;have hl:IU:=rfl;have hem:Qt=Á:=by cases its with
  | nil=>show ϱ5
  | cons a r=>rfl
 have hf:List.foldl Öm (ſ (if Qt=true then 0 else Œ) Ĵ)=WR:=by
  rw[hem,Ç ()];have:=ŋ9 its Œ Ē;ext uM
 exact ÎQ (T:="list") (U:="int") () MD ÎR noFill_list_mul Ìq repeat_list Ðh
  (uv Äz (Ü8 k t RT none sl)
   #[ho,rfl,MD,uv F.slot_list_mul MD F.entry_list_mul (F.args_list_mul_2 À)
    (mulL RT k t none sl (by simp[Îf];lia) FK (by simp[Lb];lia)) #[ho,?_]])
 rw[hf];show more
end
end TM
namespace L2
open É Ü Î
def ŕ6 È:R2:=λ x y H Q=>∃ a k xs,ż/\Ln/\Jd/\xs≠[]/\0<=k/\Ų5/\å*Œ<=Ý/\∀ p,IT->Q Đ (upd H p (Ñ ŝ0))
theorem Ç6 Æ:yH Ϥ8 (ŕ6 X.K):=by
 ext uJ;let#[a,k,xs,rfl,rfl,hx,hne,h1,h2,hz,q]:=h;ext ϕ1;let#[its,r,ht,_]:=S_ hx;ext Zp;exact TM.Č9 ËU h2 ?_;have hlen:Ρ5<=Ý:=by
  ext Ðy;show hz
 show#[Ò _,_,Ι (t':=ø) (o:=Ñ ŝ0) Oh #[hlen,_,0,r.rep Œ,Ũ],rfl,sQ]
end L2
namespace L5
open É Ü L2 L3
open Î hiding St
section
variable {Æ}{Ù}{Gm}{ID}{Ć}
def č2:D->Bool
 | ä _=>true
 | _=>Á
def Zw:xJ:=λ x y S Q=>∃ k ds,Ln/\č2 x=Á/\yA x S=↑ds/\(ds≠[]/\0<=k/\Ų5/\ϕ*Œ<=Ý)/\∀ p,Iv->Q Đ (ups S p (Ñ ÕL))
def jZ:xJ:=λ x y S Q=>k8 PX\/Zw PX
def ve:ŋ
 | ŷ,Ov=>if ts≠[]/\0<=k/\Ų5/\ő*Œ<=Ý then ↑(Ñ Öt) else none
 | x,y=>jI x y
theorem jZ.mo:vn jZ:=λ x y S Q Q' hq h=>by
 rcases h with h | ⟨k,ds,h1,h2,h3,h4,h5⟩
 .show Ä (k8.mo PX Q' hq h)
 .show Ã #[k,ds,h1,h2,h3,h4,λ p hp=>hq À (h5 p hp)]
def Zw.fits:wG K Zw (ŕ6 K):=λ x y d e H S Q h1 h2 h3 h=>by
 let#[k,ds,rfl,ht,hs,ψ0,h]:=h;simp![zj] at h2;let#[a,xs,rfl,g1,g2]:=jA h1 h3 hs λ ts z=>by subst z;cases ht
 have hl:=AO;exact#[a,k,xs,rfl,h2,g1,ÆM,c2,c3,by rw[<- hl];show c4,Hk];show h ÔP (h3.ups Ŝ #[_,yF,Ñf])
theorem jZ.fits:wG K jZ (λ x y H Q=>(ÈW)\/ŕ6 rM):=λ x y d e H S Q h1 h2 h3 h=>by
 rcases h with h | h
 .show Ä (k8.fits ϊ4 h)
 .show Ã (Zw.fits ϊ4 h)
def Þ9:ϭ zm ve jZ:=λ S Z x y z d e Q hz hx hy ef hq=>by
 unfold ve at ef;ext Ξ
 .rename_i ts k;ext Ξ
  .rename_i hc;cases ef;let#[ds,g1,g2]:=hx.seq (ts:=ts) rfl;cases Nd;have hl:=g2.len;exact Ã #[_,ds,rfl,?_,g1,#[Éq,hc.2.1,ÁW,by rw[hl];show hc.2.2.2],λ p hp=>hq À Ŝ (lC hz hp (zp.rep g2 _))];cases d with
   | tup es=>show ò hx (by
     intro q;rcases q with q | ⟨us,p,es',_,q,_⟩ | ⟨_,_,_,_,q,_⟩
     .simp![Sn] at q;obtain⟨_,⟨q,_⟩ | ⟨_,q,_⟩,_⟩:=q <;> cases q
     .cases q
     .cases q)
   | _=>rfl
  ext ϰ
 .show Ä (ı4 S Z x y ÓH)
def é6 ĕ:PD X (BC a .Mult JQ) (yJ jZ Ă):=jD ((ą2.or ø9).or Ç6) jZ.fits jZ.mo Ej
end
end L5
namespace L3
open É Ü Î L2
section
variable {Æ}{Ù}{ßi}{yU}
def iu ž1:zy:=fun Y S Q=>to Y S λ x S1=>match x with
 | Č=>ω8/\te Ĕ λ y S2=>∃ q ds es,y=Ò q/\S2 p=↑ ET/\S2 q=↑(Ñ es)/\ËO
 | _=>Þ
def iu.mo EB:yC ϳ8:=fun Y S Q Q' hq z=>h é (λ x S1 z=>by
 cases x with
 | ref p=>show#[z.1,h' Ō (λ y S2 #[q,ds,es,a,b,c,d,w]=>#[q,ds,es,a,b,c,d,hq À w]) z.2]
 | _=>show z) z
theorem Ą6 {e0:Expr}(hpe:PE X e0 (iQ X.K "list" ĥ3 Ìl)) EB:PD X e0 ϳ8:=by
 exact#[iu.mo vX,Ğ hpe Ľ];ext Ϗ2;cases x with
 | ref p=>
  ext Θ9;exact ď h' Ĭ1;let#[q,ds',es,rfl,b1,b2,b3,b4]:=h2;ext ŷ7;subst q2;ext Ön;let#[ys',g5,g6]:=p2 À b2;ext ÂN
 | _=>show Ai
def Ď9 tQ s_
  (rW:Ój)
  Kn:
  PD X Ìk ϳ8:=
 Ą6 (aO ÄG Ė2 Ek ś3) XX
end
end L3
namespace L5
open É L2 L3
@[simp] def jl Í Ŏ:Sm:=fun J=>match ŕ with
 | sL=>Ī λ y=>match y with
  | Ñ us=>ÆL
  | _=>none
 | _=>none
section
variable {ğ}{gG}
def ä9 Í (hf:xY f te):yq R (jl i f) (eD (iu LH te)):=λ S0 Z0 S Z Y J o E F e P=>by
 unfold jl at e;ext ó
 .ext ό5
  .rename_i us;ext Ő
   .ext NT;ext XO;obtain⟨ds,rfl⟩:Ť2:=by
     cases ob with
     | lst ds=>show Ry
     | _=>show tm
    ext M4;change iu Ϭ7;unfold iu yE;rw[h1];exact ÊR;let#[q,es,rfl,g1,g2,g3]:=r1.2 us rfl;have F1:=GX;have g4:zp (yo S1 Z) us es:=Ļ ÙV us g3;exact#[q,ds,es,rfl,Ht,g2,ÒK,ÃE]
   ext ĳ
  ext ĳ
 .cases e
end
section
variable {ĵ}{P:A6->Prop}
def ı2 (h:∀ a,P [a]) Xz (hl:Ϡ=1):P us:=match us,hl with | [a],_=>h a
def ğ8 (h:∀ a b,P Kk) Xz (hl:Ϡ=2):P us:=match us,hl with | Kk,_=>h a b
def ü8 (h:∀ a b c,P qw) Xz (hl:Ϡ=3):P us:=match us,hl with | qw,_=>h JP
def Ç8 (h:∀ a b c d,P Üe) Xz (hl:Ϡ=4):P us:=match us,hl with | Üe,_=>h JP d
def Ć4 (h:∀ a b c d e,P Ôx) Xz (hl:Ϡ=5):P us:=match us,hl with | Ôx,_=>h JP d e
end
end L5
namespace L5
open É Ü L2 L3
open Î hiding St
section
variable {Ĝ}{Ù}{ŝ9}{ô}{v7}
def Fx È Į K2:Prop:=∃ (f:Addr) (oc:Ï) (od:FP) (kV dc pm:Ï) (an:FP) (cd ct:Ï) (sl:Dq),
 àR/\Ål/\ÜC/\t_
def Fx.i RY{oc:Ï}{od:FP}{kV dc pm:Ï}{an:FP}{cd ct:Ï}{sl:Dq}(a:àR) (l:Ål) (c:ÜC) (k:t_):Fx K x st:=#[f,oc,od,kV,dc,pm,an,cd,ct,sl,a,l,c,k]
def é7 È rm Į K2:Prop:=∃ (f:Addr) (fd:tS),Š3/\Ϩ4
def Fx.mk (H:Fx K x st) MK:ϣ8:=by
 ext Åk;show#[f,_,Zv l c k,Àa]
theorem Fx.law {fa:Addr}{p:Str}(H:Fx K "law" st) MK (hfa:mg "law"=↑(Ò fa)) (hb:∀ (kV dc pm:Ï) (an:FP) (cd ct:Ï) ϊ (v:Ï),TU s (Eh "law" "law" ο2 ϟ0) ÔQ):∃ fd:tS,mv K "law" "law" st fa fd/\∀ ϊ (v:Ï),TU s fd ÔQ:=by
 ext Åk;have e:=hfa.symm.trans (Àa);cases e;show#[_,Zv l c k,hb kV ϟ0]
def Cn È Į (t:V):Prop:=∃ u,WG=↑↑u/\ϓ7
def Cn.i {t:V}Ż(a:WG=↑↑u) (r:ϓ7):Cn K x t:=#[u,a,r]
def Cn.mk {t:V}(H:Cn K x t) MK:ÔW:=by
 let#[u,a,r]:=H;show#[u,Àa,r]
def ä3 ğ AP R8(F:ϣ8) ÃD
  (Ţ:∀ Ā6 u9 ϧ,Θ1):ϩ5:=by
 let#[f,fd,F,hm]:=F;show Ć7 F hm Sc hn hb (Ţ f)
end
end L5
namespace L3
open É Ü L2
open Î hiding St
section
def ģ3 (_ j:Int):Prop:=0<j/\j<2 ^ 200
def Į1 tP:Prop:=OX<2 ^ 200/\j.natAbs<2 ^ 200
instance instDecidableCDivB tP:SX (ģ3 i j):=by unfold ģ3;ext Uv
instance instDecidableCMulB tP:SX (Į1 i j):=by unfold Į1;ext Uv
end
end L3
namespace L2
open É Ü Î
section
theorem Ħ1:∀ Jj Ń,Vals DF us->∀ Í y,us[i]?=↑y->∃ s t,ss[i]?=↑s/\y=Ì s t
 | [],us,h,i,y,e=>by cases h;simp at e
 | s::ss,us,h,i,y,e=>by
  cases h with
  | cons r rr=>
   cases i with
   | zero=>
    ext Wc;simp at e;show#[s,t,rfl,e.symm]
   | succ i=>show Ħ1 rr i y Du
end
end L2
namespace L3
open É Ü L2
open Î hiding St
section
variable {Ù}{Ø}
def fD HL Λ Q9:Prop:=match d with
 | .qZ es=>es=vR
 | õ=>S a=↑(Ñ (vR))
 | _=>Þ
theorem zv.strs:∀ Jj ÿ,zv Å (vR) xs->xs=vh JH
 | [],xs,h=>Ψ3
 | t9,xs,h=>by
  ext Τ8;rw[zA6,zv.strs h3]
theorem fD.sq ß ì ř Jj uk (h:Àb):∃ a,v=õ/\yy Å a DF:=by
 unfold fD at h;ext ç
 .ext Êt;rw[r3.strs] at r2;show Øu
 .ext Êx;rw[x2.strs] at x1;show Òr
 .show ï
end
end L3
namespace L5
open É Ü L2 L3
open Î hiding St
def kQ:Ĉ->î (þ)
 | []=>↑[]
 | Ì s::ts=>(kQ ts).map (s::·)
 | ť=>none
theorem ŭ0:∀ Ą Jj,kQ ts=↑ss->ts=vh uS
 | [],ss,h=>G9
 | ŗ,ss,h=>by
  cases t with
  | str s=>
   let#[r,h1,rfl]:=ų h;rw[ŭ0 h1];rfl
  | _=>cases h
theorem au ß:∀ Jj è,zp S Nr ds->ds=vR
 | [],ds,h=>ÌI
 | s::ss,ds,h=>by
  ext Õb;let#[d,r,rfl,rfl,h3]:=h;rw[zA6,au h3]
def Vw.strs ß Đ2 Jj ì(h:Vw S Z (Ñ Nr) d):Àb:=by
 rcases h with h | ⟨ts,p,ds,e,rfl,h1,h2,_⟩ | ⟨_,_,_,_,e,_⟩
 .ext τ5;have e:=au h2;ext ÇO
  .rfl
  .show Ϻ7
 .cases e;rw[au h2] at h1;show h1
 .cases e
end L5
namespace L2
open É Ü Î
section
variable {Μ}
variable {Æ}
def Inv.æ5 MX Ÿ Ø â ÿ Õ (h:bU):ϓ8/\∃ o,TZ/\Zz:=by
 let#[_,_,#[o,ho,hc,_],_]:=ξ h;exact#[Eb,?_];ext Çw
 .show (Ϸ7).1.2
 .show#[o,ϧ0,hc.2]
end
end L2
namespace L2
open É Ü Î
section
variable {Kt}{ĸ}{Μ}
theorem Ń0 BD Jj{k:Str}O9 ψ{Q:Ş0->ŭ}{body:Nat->Ş0->Sem (ForInStep (Ş0))}
  (hb:∀ Í y,O1=↑y->body i Ϧ0=LP y (Ì k t) >>= λ e=>if e=true then retInt Hh >>= λ r=>pure (ForInStep.done (↑r,GJ)) else pure (PR Ϧ0))
  (hi:Vals DF QM) (hk:k∈ss) (h:Q (↑ ÊS,GJ) { s with toks:=G5 }):
  ∀ (m i:Nat),i+m=ss.length->i<=Yw->Â ã (forIn (List.range' i m 1) (Ϧ0:Ş0) body) à
 | 0,i,h1,h2=>by have:=Ët;lia
 | m+1,i,h1,h2=>by
  have hl:=Ŵ5;ext CE;have hil:i<its.toList.length:=⋯;let#[s',u,e0,hu]:=Ħ1 hi i _ (zA1 hil);have hy:O1=↑(Ì s' u):=by rw[<- zD3,zA1 hil,hu]
  rw[zfI,ze8];exact Fz;rw[hb À hy];exact zg3 (SeqAt.EqAt.str_str s' u k t đ À ?_);have hlt:=Ët;have es:ss[i]'⋯=s':=by
   rw[zA1 ⋯] at e0;cases e0;rfl
  by_cases e:s'=k
  .have ei:Yw=i:=by
    ext Ûd
    .have:=List.not_of_lt_findIdx (p:=(· == k)) (xs:=ss) (i:=i) q;simp at this;show ò (es.trans e) this
    .lia
   rw[Ô Du];exact zg3 (zg3 (wpAny_mkInt (zD1 TQ)));rw[ei] at h;show h
  .rw[Ç Du];exact zD1 (Ń0 hb hi hk h m ŏ ⋯ ?_);ext Ûd
   .lia
   .have ei:i=Yw:=⋯;exact ò ?_ e;rw[<- es];subst ei;show List.getElem_idxOf hlt
def õ5 uG sr BK ā Jj{k:Str}O9 ψ Ϙ5(ho:Ň l=↑o) (hd:EZ=DU) (hi:Vals DF its) (hk:k∈ss)
  (h:P ÊS { s with toks:=G5 }):Â ã (Ði #[[Ο,Ì k t],[]]) P E s:=by
 unfold Ði;ext sF
 wp_walk using š5 ho
 rw[hd];exact zD1 ϸ;exact zg3 (m:=pure 0) ϸ;exact zg3 (m:=pure K7) ϸ;exact Fz;rw[Nat.min_self,Std.Legacy.Range.forIn_eq_forIn_range'];have hl:=Ŵ5;ext CE;exact Ń0 (its:=Ĵ) (t:=t) (λ i y h=>by rw[h]) NM hk ?_ _ 0 ?_ DA
 .show FT
 .simp[Std.Legacy.Range.size];lia
variable {Æ}
def Ğ1 È:Ä0:=λ x vs H Q=>∃ (l:Addr) (ns:þ) (k:Str),x=Ο/\vs=[Ì k]/\y8 Å l (sH JH)/\k∈ns/\Q υ9 H
def Ñ0:lZ X "tuple.index" (Ğ1 X.K):=by
 ext Dm;let#[l,ns,k,rfl,rfl,hq,hk,q]:=h;ext ς0;let#[t,rfl]:=ru;let#[its,r,#[o,ho,hc,n,hd],_]:=Ly;show zg8 ÕM Eb F.entry_tuple_index (õ5 BW r hk #[_,rfl,Îg]) (F.args_tuple_index_2 À)
def ď7 È (to:TE) Ao:TE:=fun σ H Q=>to Û λ x H1=>(∃ p,FQ/\∃ xs,y8 K H1 p xs)/\t Ħ λ xs H2=>Ğ1 K x xs H2 Q
variable {o e:Expr}{to:TE}{t:TA}{yU}
def ç2 Ŷ6 (ha:PA X [e] t)
  (rW:Ôy:=by rfl)
  (hfew:ÄL=true:=by rfl)
  (hline:Xo:=by rfl) (hs:Aa:=by rfl) (SE:àS:=by rfl):
  PE X ÌM (ď7 X.K to t):=by
 ext ÏR;let#[x,H1,I1,r1,#[p,e1,xs,sq],q1]:=z0;subst e1;cases r1;let#[h1,h2]:=I1.æ5 sq;exact#["tuple","tuple.index",PySem.F.plainAttrs_tuple,ÕM,F.type_tuple_index,h1,λ a e=>by cases e;show h2,?_];have hA:=ha cpos vP;rw[hs] at hA ⊢;exact kP (by change (Á||(GA cpos (ż6)).any ĉ)=Á;rw[SE] <;> rfl) ag;show zI hA λ us s2 ÎS=>Ñ0 Xm Đ vs Đ us Q I2 rfl r2 q2
end
end L2
namespace L3
open É Ü L2
open Î hiding St
section
variable {Æ}{o e:Expr}{yV}{yU}
def ļ4 ž1:zy:=fun Y S Q=>to Y S λ x S1=>∃ ns:þ,x=ä (sH rG)/\te Ĕ λ y S2=>∃ k,y=Ì k/\k∈ns/\Q υ9 S2
def õ1 tQ s_
  (rW:Ôy)
  Kn:
  PD X ÌM (ļ4 to te):=by
 exact#[fun Y S Q Q' hq z=>ϋ é (λ x S1 #[ns,h1,h2]=>#[ns,h1,Ν Ō (λ y S2 #[k,h1,h2,h3]=>#[k,h1,h2,F7]) h2]) z,Ğ (ç2 Ek ś3) Ľ];ext ό6;let#[ns,rfl,h1]:=h1;have q1':=q1;ext HF;let#[a,xs,rfl,sq,rd]:=q1;cases rd.strs;exact#[#[_,rfl,_,sq],?_];exact ď Ν Ĭ1;let#[k,rfl,g3,g4]:=h2;have q3:=FW e2 _ q1';ext ϭ7;subst q2;let#[b,xs2,eb,sq2,rd2]:=q3;cases eb;cases rd2.strs;show#[a,ns,k,rfl,rfl,sq2,g3,g4 _ H2 Em TF]
end
end L3
namespace L5
open É Ü L2 L3
open Î hiding St
def cA:ŋ
 | ĺ,Ì k=>(kQ ts).bind λ ns=>if k∈ns then ↑ υ9 else none
 | _,_=>none
def Î6 Âx ID ã3:xY (zc cA DC) (ļ4 Ă):=λ S Z Y J y Q hE e hq=>by
 ext Ìp;unfold cA at e;ext ó
 .let#[ns,i1,i2]:=Ę;split at i2
  .rename_i hk;cases i2;have ei:=ŭ0 i1;subst ei;exact ha VD;let#[ds,rfl,r3]:=My r1;cases au r3;exact#[ns,rfl,hb É0 À (Ia) e2 Ş2];cases r2.str;show#[_,rfl,hk,hq _ sZ (Vk)]
  .cases i2
 .cases e
end L5
namespace L2
open É Ü Î VU ak
section
variable {ś}{Ζ4}{t u:Tok}
def Ċ0 ē(hy:(tY == 0)=Á) (hsz:Β1) (hsz2:(Üf).length<=Ý)
  (hq:∀ (l:Ť8) Ŕ,EU ĉ=Àc x y->Q ş { s with heap:=ÉV,toks:=k }):
  Â ã (call Úm [Ì x t,Ì y u]) à:=by
 cases h1:Èm
 .cases hf:(ÈD).isEmpty
  .exact uv ν1 (meets_str_split_sep Àv hy hf hsz hsz2) ?_;change wants Q E _ { s with toks:=_,heap:=Ĩ { cls:=ł,data:=Ě (strsFrom ø (Üf)).toArray } };rw[strsFrom_eq];show Ãk
  .show uv ν1 (meets_str_split_not_found Àv hy hf)
    ÄN
 .show uv ν1 (meets_str_split_cannot_occur Àv)
   ËP
theorem ĝ0:∀ (l:Ť8),Vals ((EU ĉ).map JH) (ş5)
 | []=>Ð
 | (_,t)::l=>Ó MS (ĝ0 l)
theorem ī7:∀ {xs:þ}Ń,Vals Nu us->∃ l:Ť8,us=ş5/\EU ĉ=xs
 | [],_,Ð=>Øv
 | Ji,_,Ó #[t,e] h=>by
  let#[l,rfl,rfl]:=ī7 h;show#[(x,t)::l,ϟ2,rfl]
variable {Æ}
def ff Vy:Prop:=Wd/\VG/\(ŝ1 a (Rc Ÿ7 (Lc+1)) yg).length<=Ý/\(Àc a b).length<=Ý
def Ĺ5:Ä0:=λ x vs H Q=>∃ a b,QE/\Àd/\ff a b/\∀ l,uB->Q ĭ ÏC
theorem Ĳ0:lZ X "str.split" Ĺ5:=by
 ext Dm;let#[a,b,rfl,rfl,#[h1,h2,h3,h4],q]:=h;ext Υ3;exact Ċ0 ũ2 GP λ l k e=>?_;exact#[Ϭ,_,Ι (t':=k) (o:=Ñ (WI JH)) Èx,rfl,sQ]
def rJoin È:Ä0:=λ x vs H Q=>∃ a p texts,QE/\vs=[Č]/\yy Å p (texts.map JH)/\JoinOk a texts=true/\Q (Ì (Txt.join a texts)) H
def Ĕ9:lZ X "str.join" (rJoin X.K):=by
 ext Dm;let#[a,p,texts,rfl,rfl,hq,zJ,q]:=h;ext F6;let#[_,rfl,e]:=rv.one;cases e;let#[its,r,pl,_]:=Ow;let#[l,rfl,hl]:=ī7 r;show SC.join IV hl zJ ÆG
def ģ7:Ä0:=λ x vs H Q=>∃ a b,QE/\Àd/\Q μ0 H
def Õ9:lZ X "str.startswith" ģ7:=by
 ext Dm;let#[a,b,rfl,rfl,q]:=h;ext Υ3;show àT PL
end
end L2
namespace L3
open É Ü L2
open Î hiding St
section
variable {Æ}{Ù}{o e:Expr}{ĩ}{Md}{Ū}{yU}{name:Str}{id:ū}
def nK (f:xC) (to:zy) (tA:y7):zy:=fun Y S Q=>to Y S λ x S1=>(∃ y,x=uX)/\tA Ĕ λ ds S2=>f (x::ds) S2 Q
def nK.mo Iw Pk áL:yC ϣ9:=fun Y S Q Q' hq z=>ho é (λ x S1 Ű7=>#[h1,ha Ìr]) z
theorem ň5 Iw{r:Ä0}Pk (hr:pR K f ËQ) áL Ls ð Κ (hu:zT K ϣ9 Ś):iQ K "str" r (zT K to) ϥ2:=by
 ext ħ;exact ď ho LG;let#[#[y,rfl],h2]:=h1;ext F4;exact#[rfl,qE ha vU h2 λ ds S2 xs H2 g q2 e2 p2=>?_];let#[x,rest,e,k]:=hr Àe (uX::ds) H2 S2 Q (Ó Em q2) p2 (hf ņ (λ d S h=>h.ext (Vm)) g);cases (e);show k
def dJ Iw{r:Ä0}(slot:Slot "str" name id) Åv Pk
  (hr:pR X.K f ËQ) tQ Ϲ
  Η8:
  PD X Íx ϣ9:=by
 exact#[fun Y S Q Q' hq z=>ϋ é (λ x S1 Ű7=>#[h1,ă Ìr]) z,Ğ (aO YV slot hty hm Ek uF Uz) (ň5 hf hr ϋ ă)]
def lp:xC:=λ ds S Q=>∃ a b,ds=DM/\ff a b/\∀ l,vA->Q ĭ (ups S l (Ñ (WI rG)))
def lp.mo:qV lp:=λ ds S Q Q' hq #[a,b,h0,h1,h2]=>#[a,b,h0,h1,ÐC]
theorem zv.ļ8 Ø:∀ (xs:þ),zv Å (ŧ rG) Nu
 | []=>by simp[zv]
 | Ji=>by ext Oe;show Ó Em (zv.ļ8 xs)
def lp.fits:pR K lp λ xs H Q=>∃ x rest,B3/\Ĺ5 KC:=λ xs ds H S Q h0 h2 h=>by
 let#[a,b,rfl,ok,h]:=h;ext Ρ7;exact#[_,_,rfl,a,b,rfl,rfl,ok,ϳ9];have hx:Ext H ÏC:=SF;show Åt
def ib:xC:=λ ds S Q=>∃ a d ss,ds=[Ì a,d]/\Àb/\Ún/\Q Ók S
def ib.mo:qV ib:=λ ds S Q Q' hq #[a,d,t,h0,h1,h2,h3]=>#[a,d,t,h0,h1,h2,F7]
def ib.fits:pR K ib λ xs H Q=>∃ x rest,B3/\rJoin K KC:=λ xs ds H S Q h0 h2 h=>by
 let#[a,d,ss,rfl,h3,ok,h]:=h;let#[x,y,rfl,q1,q2]:=h0.two;ext F4;let#[p,rfl,sq]:=fD.sq q2 GP;show#[_,_,rfl,a,p,ss,rfl,rfl,sq,ok,uP]
def lN:xC:=λ ds S Q=>∃ a b,ds=DM/\Q μ0 S
def lN.mo:qV lN:=λ ds S Q Q' hq #[a,b,h0,h1]=>#[a,b,h0,hq À h1]
def lN.fits:pR K lN λ xs H Q=>∃ x rest,B3/\ģ7 KC:=λ xs ds H S Q h0 h2 h=>by
 let#[a,b,rfl,h]:=h;ext Ρ7;show#[_,_,rfl,a,b,rfl,rfl,uP]
def Õ3 tQ vH
  ο3
  Kn:
  PD ÆZ:=
 dJ Ν6 Ĳ0 lp.mo lp.fits Ou
def ß7 tQ vH
  (rW:GW o "join" JC=ϳ)
  Kn:
  PD X (ù (Ρ o "join" apos) Eu) (nK ib sE):=
 dJ PySem.F.slot_str_join PySem.F.type_str_join Ĕ9 ib.mo ib.fits Ou
def Ô2 tQ vH
  (rW:àU)
  Kn:
  PD X (ù àV Eu) (nK lN sE):=
 dJ Íp Íq Õ9 lN.mo lN.fits Ou
end
end L3
namespace L5
open É Ü L2 L3
open Î hiding St
@[simp] def xF J5 (g:zEO) (u:Τ):zEO:=fun J=>FU λ x=>match x with
 | uX=>(u J).bind λ xs=>F Àe
 | _=>none
def ď4 ğ [Cl R] JI Iw{g:zEO}{u:Τ}{tg:zy}{tu:y7}(hf:ph R F f) (hg:yK g tg) (hu:nM u tu):zS R (xF F g u) (nK f tg tu):=λ S Z Y J z Q hE e hq=>by
 ext YS;cases x with
 | str y=>
  let#[xs,e2,e3]:=Ę;exact hg VD;cases r1.str;exact#[ϓ,hu ÄY];show hf S2 Z Àe z (uX::ds) Q Py #[_,ds,rfl,Ä mW,r2] e3 ÒY
 | _=>cases e
instance zc0 Vy:SX (ff a b):=by unfold ff;ext Uv
theorem fk ß:∀ Q9,Þz
 | []=>by simp[zp]
 | s::ss=>by
  ext Oe;simp![zp,Sn];show#[_,_,rfl,rfl,fk ss]
@[simp] def oO:zLO
 | DM=>if ff a b then ↑(Ñ (WI uS)) else none
 | _=>none
def ę7:ph zm oO lp:=λ S Z ys z ds Q hz hv e hq=>by
 unfold oO at e;ext ó
 .ext ó
  .rename_i ok;ext ν8;show#[_,_,rfl,ok,ÉL]
  .cases e
 .cases e
@[simp] def mh:zLO
 | [Ì a,ŷ]=>(kQ ts).bind λ ss=>if Ún then ↑ Ók else none
 | _=>none
def à2:ph zm mh ib:=λ S Z ys z ds Q hz hv e hq=>by
 unfold mh at e;ext ó
 .let#[ss,e1,e2]:=Ę;ext Ő
  .rename_i ok;cases e2;cases ŭ0 e1;ext Λ0;cases vc;show#[_,_,ss,rfl,Vw.strs h2,ok,Ŝ0]
  ext ĳ
 .cases e
@[simp] def gY:zLO
 | DM=>↑ μ0
 | _=>none
def ý6:ph zm gY lN:=λ S Z ys z ds Q hz hv e hq=>by
 unfold gY at e;ext ó
 .ext ν8;show#[_,_,rfl,yR]
 .cases e
end L5
namespace L2
open É Ü Î VU ak
section
variable {Æ}
theorem zaa:xH X (ů "str") Äf:=by
 ext A1;let#[i,rfl,hi,q]:=h;ext ÔR;exact P.str_of_int ?_ #[sP,H,rE,ϓ,q];have h1:OX<=1000000:=⋯;by_cases h0:OX=0
 .rw[h0];decide
 .show zdF ((Nat.log2_lt h0).mpr (show OX<2 ^ 20 by lia)) ()
end
end L2
namespace L5
open É Ü L2 L3
open Î hiding St
section
variable {Æ}{Ù}{č}{ĩ}{Ū}{AD}
def jV:xC:=λ ds S Q=>∃ i:Int,ds=[ñ]/\(π6)/\Q ύ8 S
def jV.mo:qV jV:=λ ds S Q Q' hq #[i,h0,h1,h2]=>#[i,h0,h1,hq Jr]
def jV.fits:pR K jV Äf:=λ xs ds H S Q h0 h2 h=>by
 let#[i,rfl,h1,h]:=h;ext ύ1;ext PV;show#[i,rfl,h1,uP]
def Ē7 (hm:X.mg "str"=none) Ϲ (hg:Gl X "str") tV:PD X (ù (ą "str" p) AA) (vj jV tA):=
 m5 (iV zaa K_ Òp A7) jV.mo jV.fits ă
@[simp] def y9:zLO
 | [ñ]=>if π6 then ↑ ύ8 else none
 | _=>none
def ó5:ph zm y9 jV:=λ S Z ys z ds Q hz hv e hq=>by
 unfold y9 at e;ext ó
 .ext ó
  .rename_i hi;cases e;ext Ig;cases Uo;show#[_,rfl,hi,Ŝ0]
  .cases e
 .cases e
def Ct È Į Q9:Prop:=∃ a,VB/\ϑ1
def Ť9 È rm Į Q9:Prop:=∃ a,mg x=↑ ě/\ϑ1
def Ö7 ô Jj(h:Ť9 X.K X.mg x ss) ϔ5 ud:PD BE (dC ϴ0):=by
 let#[a,h1,h2]:=h;show iW (v:=õ) (Į9 (v:=õ) hg h1 rfl hd) λ H=>by
  ext FY;show#[a,_,rfl,h2 _,Vu]
end
end L5
namespace L2
open É Ü Î VU ak
section
variable {Æ}
def ny ê vY qg:Prop:=
 ∀ ļ Κ,0<ø->Ìz
def b6 ê vY qg:Prop:=
 ∀ ļ Κ,Ķ->u0->Â û (FV) (λ v s'=>s'=s/\∃ x,LQ/\Q x H) Ê2
def ZU ê ĉ5 Ao:Prop:=
 ∀ (pos:Pos) ļ (Q:U0),0<ø->ÄR
def Ŕ0 ê (st:ϣ) (t:TS):Prop:=
 ∀ ļ Yx,0<ø->Æy
def ž5 ê vY (t:TT):Prop:=
 ∀ ļ qb,Ķ->u0->Â Ós (λ b s'=>0<s'.toks/\ĩ6 ú Q b s') Ê2
def Ě9 ý ô Ć(hN:Tg) (hv:ZL) ud Lj:b6 zR:=by
 ext Är;have fin:s=s/\∃ x,Kl/\Q x H:=#[rfl,v,r,h];ext ÇU
 .show ÅZ
 .rcases hk with hk | hk
  .show ÅF
  .show Åq
def ĩ1 č uN(ha:ny tI) (hs:Aa:=by rfl):ZU X [e] (dg te gX):=by
 intro pos gV s σ H Q tk I h;rw[hs];change Â À (OH (RG::GA pos (ż6))) Ϗ;exact Xf (zI (ha Ů6) λ u s1 Bc=>?_);show zI (k_ pos vP) ÄS
variable {o e:Expr}{ĩ}{ÅX}
def Á9 Θ8 (ho:ny LV) OC
  Η8:
  ny Μ4:=by
 ext ş1;exact zgO X7 (zI (ho Ů6) λ v s1 #[x,H1,I1,r1,ty,q1]=>?_);ext Æm
def Ć3 Θ8 (ho:b6 LV) (ha:ZU X Hi t)
  Η8:
  ny Μ4:=by
 ext ş1;exact zgO X7 (zI N2 λ v s1 #[hs1,x,r1,ty,q1]=>?_);subst hs1;let#[h1,h2]:=ň9 I r1 ty;exact Äd;have hA:=ha cpos gV s1 Û _ tk I q1;ext ÂF
section
variable {Xy}{į}{Dz}{F_}{Ïa}{ô}{p pos:Pos}
def Ď5 Xs Ky μ Ëw Uy
  (ha:ZU X Hi t) q8 tV:
  ny ØL:=by
 ext ş1;exact υ3;exact Ŝ4 ν0 hk (zI (ha pos Ů6) ÆV) Ip;show ÏY
end
def ô8 (to:TE) (y z:Str):TE:=fun σ H Q=>to Û λ x H1=>∃ a,QE/\Ϥ0/\Q ξ9 H1
def Ï2 ÍE(ho:b6 LV) ÂE:
  ny X ÅI (ô8 to y z):=by
 ext ş1;exact zgO X7 (zI N2 λ v s1 #[hs1,x,r1,a,ea,la,q1]=>?_);subst hs1;subst ea;ext Ů2;exact#["str","str.replace",YV,PySem.F.slot_str_replace,PySem.F.type_str_replace,QV,(Ű4),?_];rw[hs];exact kP rfl ag;change Â À (OH (Ve::Ól::[])) Ú;exact Xf (μ3 (ÕN));show SC.replaceW (zdC tk) (Nat.succ_ne_zero _) (ū1) hyz (zE0 la ()) hz λ t' k=>#[sP,H,(rE).tok k,ϫ0,q1]
def á9 č uN Ć(he:ny tI) (hs:ύ2):Ŕ0 X [Ū9] (Ġ4 te):=by
 intro gV s σ H D tk I h;have h1:Â û (exec (Ū9) Ö) Ϙ4:=Ýs (zI (he Ů6) ÊG) I.quiet hs;exact Ϗ5 (zI h1 ϟ7);cases f with
 | next=>show zgS q
 | _=>show q
def ó2 ÔS Ŷ6
  ÂG
  (he:Ãy):
  ž5 X (ù Y8) (fun σ H Q=>to Û λ x H1=>∃ a,QE/\Q (ÞA a y) H1):=by
 ext Ŋ;exact isTrue_plain ?_ (he _);exact zgO X7 (zI N2 λ v s1 #[x,H1,I1,r1,a,ea,q1]=>?_);subst ea;ext Ů2;exact#["str","str.startswith",YV,Íp,Íq,QV,(Ű4),?_];rw[hs];exact kP rfl ag;change Â À (OH (Ve::[])) Ú;exact ÕN;show àT (zgD #[Nat.succ_pos _,H1,I1.tok _,q1])
def Ð6 Jo{a b:ϣ}{tc:TT}{t u:TS}Ć(hc:ž5 MT) (ha:pP X a t) (hb:Ŕ0 X b u):ÊH:=by
 ext Aj;exact wpAny_If (zI (hc El) λ d s1 #[tk,H1,I1,q1]=>?_);cases d with
 | true=>show ha Àn
 | Á=>show hb vV D tk I1 q1
end
end L2
namespace L3
open É Ü L2
open Î hiding St
section
variable {Æ}{Ù}{o e:Expr}{ĩ}{yV}{Ū}{apos cpos pos p:Pos}
structure xX ê vY Ki:Prop where
 mo:yC t
 pe:ny Ϭ2
structure wy ê vY Ki:Prop where
 mo:yC t
 pe:b6 Ϭ2
structure wF ê ĉ5 rj:Prop where
 mo:nP t
 pa:ZU X es (wY Gi)
structure wV ê (st:ϣ) (t:xl):Prop where
 mo:l_ t
 ps:Ŕ0 ϥ3
structure wU ê vY rN:Prop where
 mo:o_ t
 pt:ž5 Ϭ3
def fV {t t':TE}(h:ny tH) (i:Ãe):ny Bw:=λ gV s σ H Q tk I hu=>h ž Q tk I (i Ś hu)
def Ē4 Í ô(h:b6 zR) (m:yC LH):wy Η1:=by
 exact#[m,λ gV s σ H Q I hu=>h AV ?_];ext ÜJ
 ext Çv
 .show ï
def Å2 (he:xX tI) (hs:Aa):wF X [e] ϙ3:=by
 exact#[fun Y S _ _ hq z=>Ν é (λ x S1 z=>Js) z,λ q gV s σ H Q tk I hu=>ĩ1 LM hs q ž Q tk I ?_];ext Vq;show ď Ν QX h λ x S1 v H1 h1 q1 e1 p1=>h1 [v] H1 (Ó q1 Ð) B0
def ģ6 (to:zy) (y z:Str):zy:=fun Y S Q=>to Y S λ x S1=>∃ a,QE/\Ϥ0/\Q ξ9 S1
def Ì5 ÍE(ho:wy LV) ÂE:
  xX X ÅI (ģ6 to y z):=by
 exact#[fun Y S _ _ hq w=>ϋ é (λ x S1 #[a,h1,h2,h3]=>#[a,h1,h2,F7]) w,fV (Ï2 Ek hyz hz WK hs) Ľ];let#[Y,S,r1,r2,w]:=hu;exact ď ϋ QX w YL;let#[a,rfl,la,h1]:=h1;ext F4;show#[a,rfl,la,h1 Ff]
def Ą9 (ho:xX LV) vH
  ο3
  Kn:
  xX ÆZ:=
 #[nK.mo lp.mo ϋ ă,fV (Á9 YV Ν6 Ĳ0 Ek uF Uz) (ň5 lp.mo lp.fits ϋ ă)]
def Ï9 ô į Va Ky (ha:wF X Hi tA) μ q8
  tV:xX Η4:=by
 ext ÊX;show#[fun Y S Q Q' hq z=>ă é (λ ds S1 z=>hm ϥ1) z,fV (Ď5 (E:=E0) h1 hr Ìn) (ĭ1 hm ă)]
def ĉ2 (ho:wy LV) (he:xX tI) (hsw:IK WW none DE=SU)
  (rW:ÒV)
  Kn:
  wV X [.Expr WW pos] (eD TK):=by
 have hp:ny X WW (zT X.K TK):=fV (Ć3 Äj (ĩ1 LM hs) Uz) (ń8 XX);have hm:=l4.mo XX;exact#[λ E E' Y S hE z=>hm Ñp,λ gV s σ H D tk I hu=>á9 hp hsw ž D tk I ?_];ext ħ;show ď hm Çs
def Í5 ÔS tQ
  ÂG
  (he:Ãy):
  wU X (ù Y8) (Ř0 Ír):=by
 have hm:yC Ír:=nK.mo lN.mo ϋ fun Y S _ _ hq z=>Js
 exact#[fun Y S Q Q' hq h=>hm Ïb,λ gV s σ H Q I hu=>ó2 Ek WK hs he AV ?_];ext ό6;let#[#[a,rfl],a',b,e2,h2]:=h1;cases e2;ext HF;show#[a,q1,h2 u6]
def Ĕ5 Jo{q r:ϣ}ED{t u:xl}(hc:wU MT) (h:y_ X q t) (h':wV X r u):zu X (.If c q r pos) Ϩ2:=by
 exact#[Äe,qc (Ð6 hc.pt Àq) HG];ext Öa
 .show ËD
 .show Ëk
end
end L3
namespace L5
open É Ü L2 L3
open Î hiding St
@[simp] def Ō6 (y z:Str) (g:zEO):zEO:=fun J=>FU λ x=>match x with
 | Ì a=>if Ϥ0 then ↑ ξ9 else none
 | _=>none
def Î3 {y z:Str}{g:zEO}{tg:zy}(h:yK g tg):xY (Ō6 y z g) (ģ6 tg y z):=λ S Z Y J w Q hE e hq=>by
 ext YS;cases x with
 | str a=>
  dsimp only at e;ext ó
  .ext G1;cases e;exact h VD;cases r1.str;show#[a,rfl,hl,hq qA Ϫ7]
  .cases e
 | _=>cases e
end L5
namespace L2
open É Ü Î
section
variable {ś}
def Ć0 {l b:Addr}{Ĳ:zAV}ā BK{qq:zAV}{n2:Nat}Ϙ5(hl:Ň l=↑{ cls:=ł,dict:=none,data:=OA,r_:=Ē })
  (hb:ϑ) (hc:Sh) (hd:EZ=Ě qq n2) (hz:ϱ+S9<=Ý)
  (h:P Øc { s with heap:=sN l (EJ λ x=>x++qq) }):Â ã (Ðj ÓW) P E s:=by
 unfold Ðj;exact zg3 (m:=pure (ŉ l,ŉ b)) ϸ;change Â À (HN ĭ L6 Ġ) Ϗ;unfold HN;exact zg3 (zgI (T:="tuple") #[o,hb,hc] ?_);rw[Éf];exact zg3 (aK hb hd (zg3 (aK ØV Gb)));have hlong:¬ (! Sq&&Lb (ϱ+S9))=true:=by
  rw[ľ9 hz,zdT];show zd2
 rw[Ç hlong];show zg3 (Vx ØV rfl (FT) ⋯ (by change (Ĳ++qq).size<=Ý+1;rw[Øs];lia))
variable {Æ}
def Â7 È:Ä0:=λ x vs H Q=>∃ l b xs zs,x=Ο/\vs=[GS]/\UX/\y8 Å b zs/\ÆC
theorem Û4:lZ át (Â7 X.K):=by
 ext Ãf;let#[its2,r2,#[o,e2,hc,n2,hd],hz2]:=ξ hB;have l1:=Az;have l2:=Y0;exact zg8 ÏD ϖ2 PySem.F.entry_list_extend (Ć0 e e2 hc hd (ÑV) š9) (PySem.F.args_list_extend_2 À);exact ÄA;rw[zD7];lia
end
end L2
namespace L3
open É Ü Î L2
section
variable {Æ}{ßi}{yU}
def gy ž1:zy:=fun Y S Q=>to Y S λ x S1=>match x with
 | Č=>ω8/\te Ĕ λ y S2=>∃ ds es,y=ä es/\S2 p=↑ ET/\ËO
 | _=>Þ
def gy.mo EB:yC (gy to te):=fun Y S Q Q' hq z=>h é (λ x S1 z=>by
 cases x with
 | ref p=>show#[z.1,h' Ō (λ y S2 #[ds,es,a,b,c,w]=>#[ds,es,a,b,c,hq À w]) z.2]
 | _=>show z) z
def ý4 tQ s_
  (rW:Ój)
  Kn:
  PD X Ìk (gy to te):=by
 exact#[gy.mo XX,Ğ (aO ÄG Û4 Ek ś3) Ľ];ext ό6;cases x with
 | ref p=>
  ext Θ9;exact ď Ν Ĭ1;let#[ds',es,rfl,b1,b3,b4]:=h2;ext ŷ7;let#[q,ys',rfl,g5,g6]:=q2;ext Ön;ext ÂN
 | _=>show Ai
end
end L3
namespace L5
open É L2 L3
@[simp] def cM Í Ŏ:Sm:=fun J=>match ŕ with
 | sL=>Ī λ y=>match y with
  | ä us=>ÆL
  | _=>none
 | _=>none
def đ7 ğ gG Í TN:yq R (cM i f) (eD (gy LH te)):=λ S0 Z0 S Z Y J o E F e P=>by
 unfold cM at e;ext ó
 .ext ό5
  .rename_i us;ext Ő
   .ext NT;ext XO;obtain⟨ds,rfl⟩:Ť2:=by
     cases ob with
     | lst ds=>show Ry
     | _=>show tm
    ext M4;change gy Ϭ7;unfold gy yE;rw[h1];exact ÊR;let#[es,rfl,g4]:=r1.tup;have F1:=GX;exact#[ds,es,rfl,Ht,ÒK,ÃE]
   ext ĳ
  ext ĳ
 .cases e
@[simp] def eE Q9:zEO:=λ _=>↑(ä Nr)
def Ì7 Q9:xY (eE ss) (dC ϴ0):=λ S Z Y J y Q hE e hq=>by
 cases e;show hq BX (BG Hl (mV (fk ss)))
end L5
namespace L3
open É Ü L2
open Î hiding St
section
variable {Æ}{č}{ĩ}{Ū}{AD}
def zh Í ô Yd Lj:PD Η1:=Ğ2 i (Ï7 i RP)
def Ę5 ô{k k':Nat}Va sk Ϲ dX μ q8
  tV:PD Η4:=É1 ØW
end
def e9 {N P:þ}{sc:KU}(h1:sc.kind=sR:=by rfl) (h2:ÖJ:=by rfl) (h3:ÖK:=by rfl) (h4:yO:=by ext Bs) (h5:ÖL:=by rfl) (h6:∀ x∈P,ς5:=by ext Bs) (h7:ÎC:=by ext Bs):oM N P sc:=#[h1,h2,h3,h4,h5,h6,h7]
section
variable {Æ}{č}{ĩ}{Ū}{AD}
def zg Í ô Yd Lj:wy Η1:=
 Ē4 i (Ě9 RP) (Ğ2 i (Ř8 (pos:=pos) RP)).mo
def Æ1 ô{k k':Nat}Va sk (ha:wF X Hi tA) dX μ q8
  tV:xX Η4:=Ï9 ØW
end
end L3
namespace L5
open É Ü L2 L3
open Î hiding St
theorem Ct.mk Ù{mg:zSV}ĝ ô Jj(H:Ct K x ss) MK:Ť9 K mg x ss:=by
 let#[a,h1,h2]:=H;let#[u,e1,e2]:=Cn.mk (t:=õ) #[õ,h1,rfl] X G;cases e2;show#[a,e1,h2]
def Ct.i Ù ô Jj â BK BD ā(h1:VB) Äv:Ct K x ss:=#[a,h1,ÆY]
end L5
namespace L3
open É Ü L2
open Î hiding St
def l8 È:Prop:=∃ C,Qw/\eF/\àW
def kb.eq Ù{c:Str}{C D:Addr}(h1:kb K c C) (h2:kb K c D):C=D:=by
 unfold kb at h1 h2;rw[h1] at h2;cases h2;rfl
def _root_.L2.Inv.Xc Æ ġ â{u v:HO}Õ (e:ÀD) (mu:eQ ↑u) (he:∃ o,TZ) (h:xN Ů (upd H a v) í a v):Inv ú (upd H a v) s:=
 Mg ϥ4 (h':=í) (t':=ø) (by rw[e];show mu) JO (λ b q _ z=>z) he h
def Β7 Ĝ Ø ĝ â ç8(x:xN AZ Hv):Àz:=by
 ext XY;show#[o,e]
theorem Ext.ins Ø{p C dx:Addr}{fs:HD}(h:H p=↑ JN) (o:HO):Rm:=
 Yy
theorem Ext.dS Ø{p x:Addr}{kvs us:LA}(h:H p=↑(.dS x kvs)):Ext H (upd H p (Áb)):=
 #[λ b ys q=>GQ,ÞB,λ b u q=>GQ,λ b y u q=>by
  by_cases z:b=p
  .subst z;rw[h] at q;cases q;show#[us,yF]
  .show#[u,by rw[yv z];show q]]
def kG.ń6 Ù Ø{a x:Addr}â5{vs:LA}(h:Ŵ8) (e:H a=↑(.dS x vs)):Þ:=by
 cases o with
 | lst ds=>ext ς3
 | xk ds=>ext ς3
 | jE=>let#[_,_,_,h]:=h;rw[h] at e;cases e
 | zL ds=>let#[_,_,_,_,_,h,_]:=h;rw[h] at e;cases e
 | xm ep ds=>ext ς3
def yu.cW Ù Å6 ß ŵ â5 bF JJ (k:∀ b u,b≠p->(∀ vs,u≠.dS p vs)->T9->H' b=↑u) (hn:kG ώ p o):yu ώ (L3.ups S p o):=λ a o' h=>by
 by_cases ha:a=p
 ext ÔU
 .rw[kf ha] at h;have q:=r a o' h;exact q.keep e (λ u z=>k a u ha (λ vs y=>by subst y;show q.ń6 z) z) λ b vs z=>k b _ ?_ (λ us y=>by cases y;show ha rfl) z;ext HZ;cases hs:S b with
  | none=>
   cases o with
   | lst ds=>ext ω3
   | xk ds=>ext ω3
   | jE=>let#[_,_,_,h]:=hn;ext Μ0
   | zL ds=>let#[_,_,_,_,_,h,_]:=hn;ext Μ0
   | xm ep ds=>ext ω3
  | some o2=>show (r b o2 hs).ń6 z
section
variable {Æ}{o ie v:Expr}{i j k:Nat}{pos pos' ap:Pos}
def ł7 Í:xl:=λ E Y S=>∃ p,BA/\S p=↑.jE/\E.nx Y ϋ3
theorem ė9 ÏP (hs:IK ŝ2 ↑(DT) DE=SU):zu X (sO [DT] ŝ2 pos) (ł7 i):=by
 exact#[λ E E' Y S hE #[p,h1,h2,h3]=>#[p,h1,h2,Gn À h3],Ñg];let#[Y,S,r1,r2,p,h1,h2,h3]:=hu;let#[C,dx,g1,g2]:=r2 Jr;ext ÚU;cases Âd;ext ÔT;simp![zj] at w2;subst w2;exact zI (Á2 ho Ĩ3 hs ž { D with nx:=fun σ' H'=>σ'=σ/\∃ q,H q=none/\H'=àX } I ?_) λ f s' z=>?_
 .intro q hq;ext ËA
  show#[Č,w1,p,C,dx,[],rfl,ϕ4,c2,c3,(),rfl,q,hq,rfl]
 .cases f with
  | next=>
   let#[σ',H',I',rfl,q,hq,rfl]:=z;ext ËA
   have hqq:upd XU p XQ q=↑ lX:=by rw[yv npq.symm,yF]
   have I2:=I'.Xc (v:=.dS p []) hqq ϖ (Β7 Üg) Üg;have e1:Ext H XU:=Rh hq _;have e2:Ext XU (àX):=.ins (ϕ4) _;have e3:=SR (Ext.dK hqq (.dS p []));exact#[σ',_,I2,h3 Öo (r2.cW ÓI #[C,dx,q,[],g1,?_,yF,Ð])]
   .have nbq:b≠q:=λ y=>by subst y;rw[z] at hq;cases hq
    rw[yv nbq,yv hb,yv nbq];show z
   .rw[yv npq,yF]
  | ret u=>show z
  | _=>show z
def ō1 (i j k:Nat):xl:=λ E Y S=>∃ p m x d,BA/\RE/\ϓ9/\Y[k]?=↑↑d/\Mb<Ý/\E.nx Y (ups S p (.zL (putD m SY d)))
def ï7 ā Κ4 (hv:PE X v (nW k)) ψ4
  (hs:IK v ↑(Úo) DE=SU):zu X (sO [Úo] v pos) (ō1 i j k):=by
 exact#[λ E E' Y S hE #[p,m,x,d,h1,h2,h3,h4,h5,h6]=>#[p,m,x,d,h1,h2,h3,h4,h5,Gn À h6],Ñg];let#[Y,S,r1,r2,p,m,x,d,h1,h2,h3,h4,h5,h6]:=hu;ext ÄO;cases Âd;ext Λ5;let#[t,t1,t2]:=r1.2 k _ h4;ext τ9;have npq:p≠q:=λ z=>by subst z;rw[g2] at g3;cases g3
 have kq:xN Ů àY í q ϭ5:=I.zJ q _ g3;have I1:=I.Xc (v:=.dK vs) g3 ϖ (Β7 kq) kq;exact zI (į5 UA ϴ1 hi hv hs gV s σ _ { D with nx:=fun σ' H'=>σ'=σ/\H'=upd àY q (.dK ϔ0) } I1 ?_) λ f s' z=>?_
 .show#[t,t1,Č,w1,p,C,dx,_,Ò q,rfl,ϕ4,c2,c3,rfl,Ť,y1,q,_,rfl,eY.k (k:=KO x) yF (by rw[<- g4.len];show h5),rfl,rfl]
 .cases f with
  | next=>
   let#[σ',H',I',rfl,rfl]:=z;have I2:=I'.Xc (v:=.dS p ϔ0) yF ϖ (Β7 ÞC) ÞC;rw[Ł2,Ł2] at I2;have e3:Ext H (upd H q (.dS p ϔ0)):=.dS g3;exact#[σ',_,I2,h6 Öo (r2.cW ÓI #[C,dx,q,_,g1,?_,yF,(xW.put g4 _ t2).ext e3])]
   .rw[yv (λ y=>by subst y;rw[g3] at z;cases z;show hu Oz)];show z
   .rw[yv npq];show g2
  | ret u=>show z
  | _=>show z
def õ9 Ù Ø ß ŵ{m:Rn}(r2:ϗ) (h2:RE) (hk:l8 K) Į:∃ C dx q o,H p=↑ XQ/\eF/\àW/\l9 H q GN o/\(ż8=none/\o=none\/∃ d u,ż8=↑d/\o=↑u/\zj Å d u):=by
 ext ÄO;cases Âd;exact#[C,dx,q,ou vs SY,g2,c2,c3,Ä #[vs,Ã x,Ã #[p,g3],rfl,rfl],?_];rcases xW.val g4 SY with ⟨n1,n2⟩ | ⟨d,u,n1,n2,n3⟩
 .show Ä #[n1,n2]
 .show Ã #[d,u,n1,n2,n3]
def Ī7 Fo:zy:=fun Y S Q=>∃ p m x d,BA/\RE/\ϓ9/\ż8=↑d/\LD
def Ă7 ā Κ4 ψ4 (hs:Ŧ7 ie):PD X (Gs (DT) ie pos) (Ī7 i j):=by
 exact#[fun Y S Q Q' hq #[p,m,x,d,h1,h2,h3,h4,h5]=>#[p,m,x,d,h1,h2,h3,h4,hq À h5],Ğ (Ĳ8 UA ϴ1 hi hs) Ľ];let#[Y,S,r1,r2,p,m,x,d,h1,h2,h3,h4,h5]:=hu;ext Λ5;ext τ9;obtain⟨C,dx,q,o,g1,g2,g3,g4,⟨n1,_⟩ | ⟨d',u,n1,rfl,n3⟩⟩:=àZ
 .rw[h4] at n1;cases n1
 .rw[h4] at n1;cases n1;show#[Č,w1,p,C,dx,_,Ò q,rfl,g1,g2,g3,rfl,Ť,y1,q,u,rfl,g4,h5 u H n3 ϲ r2]
def į8 Fo:xn:=fun Y S Q=>∃ p m x,BA/\RE/\ϓ9/\Q (! ύ9) S
def Ĉ4 ā Κ4 ψ4 (hm:tf J9 (DT)=Á):zG X (BO ie [J9] [DT] pos) (į8 i j):=by
 exact#[fun Y S Q Q' hq #[p,m,x,h1,h2,h3,h5]=>#[p,m,x,h1,h2,h3,hq À h5],Jb (ļ2 (Ë7 UA hi ϴ1) hm) Ľ];let#[Y,S,r1,r2,p,m,x,h1,h2,h3,h5]:=hu;ext Λ5;ext τ9;let#[C,dx,q,o,g1,g2,g3,g4,n]:=àZ;exact#[Ť,y1,Č,w1,p,C,dx,_,Ò q,rfl,g1,g2,g3,rfl,q,o,rfl,g4,_,rfl,?_];have:Ż2=ύ9:=by rcases n with ⟨n1,rfl⟩ | ⟨d,u,n1,rfl,_⟩ <;> rw[n1] <;> rfl
 rw[this];show h5 H ϲ r2
end
structure gS Gp È Rb (m:Str) Ŕ Fy Lz:Prop where
 ex:∃ (f:Addr) (fd:tS),ÝN/\UD/\∃ C,ÎT
 mo:SM
def nL Lz (to:zy) (tA:y7):zy:=fun Y S Q=>to Y S λ x S1=>∃ p v,FQ/\S1 p=↑(.zL v)/\tA Ĕ λ ds S2=>sp (x::ds) S2 Q
section
variable {Æ}{e o:Expr}{Md}{pos apos:Pos}{m:Str}{Qb}{Ū}{ĩ}{į}{F_}{ŭ9}
def nL.mo (h1:yC to) (h2:SM) (h3:HB):yC ϝ5:=fun Y S Q Q' hq z=>
 h1 é (λ x S1 #[p,v,a1,a2,a5]=>#[p,v,a1,a2,h3 Ō (λ ds S2 z=>h2 _ Gz hq z) a5]) z
def Η3 {k':Nat}(F:gS FO m Ň4) sk tQ Ϲ dX (hm:("kept" == m)=Á)
  áM
  (ht:eval Ñh Ö=(do
   let ov <- ϳ
   cF apos.atName
   let (f,QI) <- uR [ov] (Xg ov m pl)
   Äk)):
  PD X Ñh ϝ5:=by
 let#[#[f,fd,h1,h2,C',j4,j5,j6],hmo]:=F;exact#[nL.mo ϋ hmo ă,τ2];ext ħ;exact PySem.W.methodCall_KW (pl:=pl) (zI (Ek ž (λ x H1=>∃ a C dx fs,ż/\H1 a=↑ JN/\lA GD/\Meth GD m f/\NS m=none/\wY X.K tA Ħ λ vs H2=>nc X.K sp (õ::vs) H2 Q E0) I (ď ϋ GI λ x S1 v H1 g1 q1 e1 p1=>?_)) De) ht
 .let#[p,mm,rfl,g2,g5]:=g1;ext F4;let#[C,dx,q,vs,j1,j2,j3]:=p1 À g2;cases j1.eq j4;exact#[p,C',dx,_,rfl,j2,j5,j6,?_,Y,S1,B8,p1,ă Ō (λ ds S2 z xs H2 a1 a2 a3=>#[Č::ds,S2,Ó Em a1,a3,hmo Éd]) g5];rw[zd4];have:(m == ("kept":Str))=Á:=by
   rw[Bool.eq_false_iff] at hm ⊢;show λ z=>hm (by rw[Ų2] at z ⊢;show z.symm)
  rw[this];rfl
 .let#[x,H1,I1,rx,a,C,dx,fs,ex,ea,c,me,l,q]:=z0;ext sJ;exact ċ5 I1 ea c me l ?_;exact Ŝ4 (QI:=[õ]) ν0 me.kp (zI (uF pos Ân) λ us s2 z0=>?_) hst hpl;let#[vs,H2,I2,r,q2]:=z0;exact áa;show Ő2 (us:=õ::us) (vs:=õ::vs) ÜY h1 ώ8 h2 Ð dM I2 (Ó rfl r) Ûh
structure Yt Gp È Rb Ŕ:Prop where
 ex:∃ (C f:Addr) (fd:tS),ot ķ xy k f fd Ec (nc K λ ds S Q=>∃ p,ds=[Č]/\S p=↑.jE/\Q .zx ϋ3)/\Binds K fd Ec []/\Qw/\Mk V2/\mg "Desk"=↑ La
def Ī8:zy:=λ _ S Q=>∀ p,Iv->Q Đ ϋ3
def ÿ5 ß â{o u:O}:ups (ups S a o) a u=ups S a u:=by
 funext b;unfold ups;split <;> rfl
theorem ì3 {k':Nat}VM(F:Yt FO k) sk (hk:k+1<=k':=by decide) (hg:Gl X "Desk":=by rfl):PD X (ù (ą "Desk" p) [] Ψ) Ī8:=by
 let#[C,f,fd,h1,h2,h3,h4,h5]:=F;exact#[fun Y S Q Q' hq z p hp=>ÞD,Ğ (ï9 (E:=E0) h4 h1 ώ8 hg h5 h2 Ð dM) Ľ];ext ħ;intro x dx hx hdx hne;have e0:Ext ÞE ÇY:=Rh (by rw[yv (Ĭ hne)];show hx) _;have e2:=(Ext.new hdx Q0).trans e0;exact#[[Ò x],ups S x .jE,Ó Em Ð,(r2.new hdx).ups e0 #[C,dx,h3,yF],x,rfl,mT,?_];rw[ÿ5];intro v H2 a1 a2 a3;simp![zj] at a1;show#[a1,z x (r2.none hx) NX H2 Em (Âa a2) a3]
end
end L3
namespace L5
open É Ü L2 L3
open Î hiding St
def gm:AG->Ĉ->Key->fC
 | k::ks,ŗ,x=>if k=x then ↑t else gm rJ x
 | _,_,_=>none
theorem ł4 ß{x:Key}:∀ {m:Rn}Ą,ź9->gm FX x=none/\vo m x=none\/∃ t d,gm FX x=↑t/\vo m x=↑d/\Ϣ
 | [],ts,h=>Ä #[by cases ts <;> rfl,rfl]
 | N3::m,[],h=>by simp[zp] at h
 | N3::m,ŗ,h=>by
  simp![zA6,zp] at h;let#[c,cs,e,h1,h2]:=h;cases (e);rw[Ē8];simp![zA6,gm];by_cases hk:k=x
  .rw[LJ,LJ];show Ã #[t,_,rfl,rfl,h1]
  .rw[IE,IE];show ł4 h2
section
variable {Af}{ß}{qd}
@[simp] def ņ6 Fo:zEO:=fun J=>match ŕ,W7 with
 | some ↑ ϭ1,↑↑(.im GN)=>gm rJ SY
 | _,_=>none
@[simp] def Ř7 Fo:ϐ:=fun J=>match ŕ,W7 with
 | some ↑ ϭ1,↑↑(.im GN)=>↑!(gm rJ SY).isSome
 | _,_=>none
def ER.cW gZ Ą(hE:B2) (h:ŕ=↑↑ ϭ1):∃ p m,BA/\RE/\yi/\Ϻ6:=by
 ext Τ5;simp![Sn] at h2;let#[p,m,#[rfl,h3],h4,h5]:=h2;show#[p,m,h1,(p_ h4).2,h3,h5]
def ę2:qU (ņ6 i j) (Ī7 i j):=λ S Z Y J y Q hE e hq=>by
 unfold ņ6 at e;ext ó
 .ext ÓN;rcases Üh with ⟨n,_⟩ | ⟨t,d,n1,n2,n3⟩
  .rw[e] at n;cases n
  .rw[e] at n1;cases n1;show#[p,m,x,d,g1,g2,k1,n2,hq d Ex n3]
 .cases e
def ß3:pQ (Ř7 i j) (į8 i j):=λ S Z Y J y Q hE e hq=>by
 unfold Ř7 at e;ext ó
 .ext ÓN;cases e;exact#[p,m,x,g1,g2,k1,?_];have:ύ9=(gm FX SY).isSome:=by
   rcases Üh with ⟨n1,n2⟩ | ⟨t,d,n1,n2,_⟩ <;> rw[n1,n2] <;> rfl
  rw[this];show hq Ex
 .cases e
end
@[simp] def kC J5:zLO
 | rL::xs=>F (rL::xs)
 | _=>none
def À8 ğ [Sr R] JI Lm G4 Md{u:y7}(hf:yK f to) Ž6:xY (ju (kC F) (za f g)) (nL va to u):=λ S Z Y J y Q hE e hq=>by
 ext Ω6;let#[x,e5,e6]:=Η e1;let#[zs,e7,e8]:=Η e6;cases e8;split at e3
 .ext Ëx
  cases x with
  | zL ks ts=>
   exact hf vS e5 Úp;let#[p,m,Ϩ6,h3,h4]:=Vw.zL r1;exact#[p,m,rfl,h3,h É0 zs _ (Ia) e7 ώ0];have r3:l6 S2 Z (rL::zs) (Č::ds):=#[_,_,rfl,Ŧ1,r2];exact#[λ a=>Z a/\WV ∉D.ref p::ds,_,_,λ a z=>Py a z.1,r3.free Ñw,e4,λ d S' s r=>hq N4 (ϴ2 s) ?_];show Ëp
  | _=>cases e4
 .cases e3
@[simp] def ļ9 Í:Sm:=fun J=>↑(.nx (ϫ i ↑(Ř (.zL qJ))))
def Ô9 ğ Í:yq R (ļ9 i) (qP Ī8 Dj):=λ S0 Z0 S Z Y J o E F e P=>by
 ext Ày;show P Ú (F.az (ts:=.zL qJ) (ds:=.zL []) Àr #[rfl,Ð])
section
variable {Ĝ}{Ù}{ŝ9}{m qual:Str}{v7}
def Fk È (m qual:Str) K2:Prop:=∃ (f:Addr) (fd:tS) (C:Addr),mv K m UJ f fd/\ÎT
def Fk.i {C f:Addr}Μ9 μ2 (b:ÑR) Ãx (m2:fT) (m3:t_) (l:NF=↑#[oc,od,tU ÕO,osl])
  (cd:Xj):Ų6:=#[f,_,C,Zv l cd m3,a,ψ0,b,m2,m3]
def Fi È K2:Prop:=∃ (C f:Addr) (fd:tS),mv K Ο6 st f fd/\Qw/\Mk V2
def Fi.i {C f:Addr}Μ9 μ2 (b:Χ2) (l:NF=↑#[oc,od,tU (Eh Ο6 Qn ct),osl])
  (cd:ω0 K cdv "Desk.__init__"=true) (k2:t_) (m1:ξ0) (m2:fT) (m3:Yz HP=true):Fi K st:=#[C,f,_,Zv l cd k2,a,m1,b,m2,m3]
def l8.i YK μ2 Ãx (n:ý8 HP "kept"=↑none):l8 K:=#[C,a,ψ0,n]
abbrev iI K2 (m qual:Str) Fy:Prop:=∀ fw,Pb->S7 ÕO UL=T2
variable {R8}
def Ė5 ğ AP (F:Ų6) ϑ9 (hb:ϔ1)
  (Ţ:∀ Ā6 u9 ϧ,VY->
   ∃ t,y_ VW/\KS):gS ķ m Μ7:=by
 let#[f,fd,C,F,hc]:=F;exact#[#[f,fd,Zu Êr λ cdv A ı s H E hr=>?_,F.binds hb,C,hc],zM.mo];let#[t,h1,h2]:=Àf;show Ëq
end
def â2:Stmt->ϣ
 | .ClassDef Ú b ņ Ú=>b
 | _=>[]
abbrev KF:=AG->Ĉ->Ĉ->î (T× AG × Ĉ)
def oy (F:KF):pC:=λ ds S Q=>∃ p m es ts ys r,(ds=Č::es/\RE)/\(ź9/\pF ts=true)/\(zp S ys es/\pF ys=true)/\F FX ys=↑r/\
 ∀ d S1 m',Sx S S1->Sn S1 r.1 d->m'.map ĉ=G_->zp S1 r.2.2 (m'.map Ł)->Q d (ups S1 p (.zL m'))
def oy.mo {F:KF}:ŕ0 (oy F):=λ _ _ _ _ hq z=>by
 let#[p,m,es,ts,ys,r,h1,h2,h3,h4,h5]:=z;show#[p,m,es,ts,ys,r,h1,h2,h3,h4,λ d S1 m' a b c e=>hq À (h5 d S1 m' JP e)]
def lK:KF:=λ ks ts ys=>match ys with
 | [Ť,f]=>if (ks.any λ k=>æ (k=Ã x))=true\/¬ Àg<Ý then none else ↑(aq,ks++[Ã x],ts++[f])
 | _=>none
def Ď8 {m:Rn}v9 ì(h:¬ ((Âe).any λ j=>æ (j=k))=true):putD m k d=m++[N3]:=by
 unfold putD;rw[zeE] at h;show Ç h
theorem Î4 sf(hN:BR=3) è ß Iq(h:oy lK Io):jn (ō1 0 1 2) (iq ϴ3) M5:=by
 let#[p,m,es,ts,ys,r,Ϩ6,#[h3,h3'],#[h4,h4'],h5,h6]:=h;unfold lK at h5;split at h5
 .rename_i x f;split at h5
  .cases h5
  .rename_i hn;cases h5;simp![CZ,Classical.not_not] at hn;simp![zp,Sn] at h4;let#[_,_,rfl,rfl,d,_,rfl,h7,rfl]:=h4;have hl:Mb<Ý:=by have:=hn.2;rwa [zA7] at this
   have e:=Ď8 (d:=d) hn.1;exact#[p,m,x,d,rfl,h2,rfl,rfl,hl,?_];rw[e];exact h6 Ú (.refl S) mW RH;rw[zE7];show h3.append (Ó h7 Ð)
 .cases h5
def kT tW (f1 f2:zEO) Tz (ga:Τ):KF:=λ ks ts ys=>if (ν=1/\BR=4) then
 (f1 (ÞF)).bind λ w=>(f2 (Åb)).bind λ v=>
  (c ÏE).bind λ b=>if Vo then
   (ga ÏE).bind λ zs=>if pF zs=true then lK rJ zs else none
  else none
 else none
def ER.æ0 ß sf{ys:Ĉ}è(h:zp S Aw):ER Η7 Uh Q5:=by
 exact#[λ _ z=>FF,Ŭ3,λ i c e=>?_]
 .let#[y,e1,e2]:=ņ8 e;cases e2;let#[d,e3,e4]:=h.Zs e1;show#[d,Ģ2 e3,by rw[show yo Η7=S from Ðk];show e4]
 .let#[y,_,e2]:=ņ8 e;cases e2
def ā0 ß:yo Η7=S:=Ðk
def Ĉ7 sf Ř3{te1 te2:zy}ED{ua:y7}{tx ty:xl}(h1:qU f1 te1) (h2:qU f2 te2) ų3 (ha:nM ga ua) è ß Iq(hs:oy (kT Ϭ8) Io):
  jn ÕP (jn Öv (jn ÈN ty)) M5:=by
 let#[p,m,es,ts,ys,r,#[rfl,g1],#[g2,g2'],#[g3,g3'],g4,g5]:=hs;unfold kT at g4;split at g4
 .ext G1;let#[hl1,hl2]:=hl;let#[w,a1,g4]:=Η g4;let#[v,a2,g4]:=Η g4;let#[b,a3,g4]:=Η g4;split at g4
  .rename_i hb;subst hb;let#[zs,a4,g4]:=Η g4;split at g4
   .rename_i hp;have hd:Sn S (.zL FX) Đ:=by ext vL;show#[p,m,Fp,g1,g2]
    have E0:ER Η7 (ϋ4) (ϋ5):=ER.æ0 (Ó hd g3);have L0:(ϋ4).length=(ϋ5).length:=by simp[ox,pj,g3.len]
    exact h1 S Ú w _ E0 a1 Øp;have E1:=(E0.grow s1).iR L0 2 r1;have L1:(Øw).length=((ϋ5).set 2 ↑(.im w)).length:=by simp![zeK];show L0
    exact h2 S1 Ú v _ E1 a2 Ş2;have E2:=(E1.grow s2).iR L1 3 r2;exact hc S2 Ú true _ E2 a3 Ŭ4;rw[Ź];have e0:((Øw).set 3 ↑d2)[0]?=↑↑ Đ:=by
     rw[oX (),oX ()];rfl
    change nL ÜZ _ S3 Q;unfold nL yE;rw[e0];exact#[p,m,rfl,s3 À (s2 À (s1 À g1)),ha S3 Ú zs _ (E2.grow s3) a4 λ xs S4 s4 r4=>?_];have s14:=ŧ3;exact#[p,m,xs,ts,zs,r,#[rfl,s14 À g1],#[Ļ s14 ts g2,g2'],#[?_,hp],g4,λ d S5 m' b1 b2 b3 b4=>g5 d S5 m' (s14.trans b1) b2 b3 b4];have:=r4.free (Z':=Ŭ5) (λ a z=>z) (λ a _ z=>z)
    rwa [ā0] at this
   .cases g4
  .cases g4
 .cases g4
@[simp] def du PH (F:KF) Ŏ (g2:Sm):Sm:=fun J=>match W7 with
 | Ôi=>Ī λ y=>if pF (y::ts)=true then (F rJ [y]).bind λ r=>if L3.eqT r.1 (aq)=true/\pF (r.1::r.2.2)=true then g2 (ϫ j ↑(Ř (.zL G_ r.2.2))) else none else none
 | _=>none
def Đ5 {x:T}(h:L3.eqT x (aq)=true):x=aq:=by
 cases x <;> simp[L3.eqT] at h
 rw[h]
def à5 ğ KW{F:KF}gG{g2:Sm}{t1 t2:xl}L8 (h2:yq R g2 t2):yq R (du j F f g2) (ir (oj (yJ ŵ4 (nL Ýa) ϴ3)) t1 t2):=λ S0 Z0 S Z Y J o E Fr e P=>by
 unfold du at e;ext ó
 .rename_i ks ts h0;let#[y,e1,e]:=Ę;ext ó
  .rename_i hp;let#[r,e2,e3]:=Ę;split at e3
   .rename_i hq;let#[z,ks',ts']:=r;let#[hz,hp']:=hq;cases Đ5 hz;simp![pF,zE5] at hp hp';let#[p,ob,k1,k2,k3,k4]:=Fr.er.ow j _ h0;cases ob with
    | zL m=>
     let#[rfl,k6]:=k3;change nL Ýa Y S _;unfold nL yE;rw[k1];exact#[p,m,rfl,k2,hf ň y _ Fr.er sg];exact#[p,m,[d],ts,[y],_,#[rfl,s1 À k2],#[aL ts hp.2 k6,hp.2],#[Ó (ř4 y hp.1 r1) Ð,by simp![pF,àh];show hp.1],e2,λ c S2 m' b1 b2 b3 b4=>?_];simp![Sn] at b2;subst b2;exact#[aq,aq,mW,mW,áb,áb,?_];exact h2 Ap _ Z Y _ o E ((Fr.grow (UY b1)).mut (us:=.zL ks' ts') (es:=.zL m') j h0 k1 #[b3,aL ts' hp'.2 b4]) e3 P
    | _=>show k3.elim
   .cases e3
  .cases e
 .cases e
section
variable {Ĝ}{Ù}{ŝ9}{m qual:Str}{v7}{US}{į}
def Ń7 {F:KF}(Fn:Ų6) (Sc:TY) (hb:ϔ1) (hl:∀ ks ts ys r,F rJ ys=↑r->ν+1=Ab)
  (Ţ:∀ Ā6 u9 ϧ,VY->
   ∃ t,y_ VW/\∀ ds S Q,oy F Io->t M5):gS ķ m š ps (oy F):=by
 let#[f,fd,C,Fn,hc]:=Fn;exact#[#[f,fd,Zu Fn Sc (λ ds S Q h=>?_) λ cdv A ı s H E hr=>Àf,Fn.binds hb,C,hc],oy.mo];let#[p,mm,es,ts,ys,r,#[rfl,_],_,#[h3,_],h4,_]:=h;rw[<- hl ņ h4,zC0,Tr]
def Å0 (Fn:Fi K st) MK (Sc:ác) (hb:ád)
  (Ţ:∀ Ā6 u9 ϧ,y_ (wu xy ķ Ec "Desk.__init__" qM BV).wN fv (ł7 0)):Yt ķ š:=by
 let#[C,f,fd,Fn,hc,hk]:=Fn;exact#[C,f,fd,Zu Fn Sc (λ ds S Q #[p,h,_]=>by rw[h];rfl) λ cdv A ı s H E hr=>#[_,Ţ BV,λ ds S Q #[p,e,h1,h2]=>?_],Fn.binds hb,hc,hk,V7 X G hc];subst e;show#[p,rfl,h1,h2]
end
end L5
namespace L3
open É Ü L2
open Î hiding St
section
variable {Æ}{o e:Expr}{ý}{pos ap:Pos}
def zf Í ô Yd Lj:PE zR:=Ř8 RP
structure gR Gp È Rb (m:Str) Ŕ Fy Lz:Prop where
 k:gS ķ m Ň4
variable {Md}{Ū}{Qb}{į}{F_}{ĩ}{ŭ9}
def Ë1 {k':Nat}{rpos:Pos}(F:gR FO "keep" Ň4) sk tQ Ϲ dX
  áM
  (ht:eval ÎU Ö=(do
   let ov <- ϳ
   áe
   let (f,QI) <- uR [ov] (Xg ov "keep" pl)
   Äk)):
  zu X (.Return ↑ ÎU rpos) (iq ϝ5):=ŉ1 (Η3 F.k hr ho ha ßj)
def ĉ4 {k':Nat}{cp2 cp3 ip:Pos}ā{p q:ϣ}{t u:xl}BL(F:gR FO "say" Ň4) sk tQ (ha:MA) Óx dX
  (hst:Aa) Qv
  (ht:eval Ís Ö=(do
   let ov <- ϳ
   áe
   let (f,QI) <- uR [ov] (Xg ov "say" pl)
   Âf pos f QI (GA pos (Ϟ [e] Ö)) áf)):
  zu X (.If (BO Ís [.NotEq] [EW (aq) n cp2] cp3) p q ip) (ir (oj (yJ ŵ4 (nL sp to ϙ3) ϴ3)) t u):=
 ķ4 (ĝ3 hr (Η3 F.k hr ho (Ŋ2 ha Ō1 hst) ßj) ő1) vX
end
end L3
namespace L5
open É Ü L2 L3
open Î hiding St
section
variable {Ĝ}{Ù}{ŝ9}{v7}{į}
def Â0 (hk:l8 K) (F:Fi K st) MK {pos' ap pos sp:Pos}(e:wj st=[sO [Ít] ŝ2 pos]:=by rfl) (Sc:ác:=by show e9) (hb:ád:=by show λ _ _ _ _ _ _=>ı2 Ic) (hl:Ðl:=by rfl)
  (hs:∀ env:Env,IK ŝ2 ↑(Ít) pos.line env=SU:=by show Ic):Yt ķ š:=by
 exact Å0 F X G Sc hb λ f cdv A ı s H E=>?_;rw[e];show ų6 (ė9 hk (zf 0 rfl (Ro hl)) (hs _))
def ù5 (hk:l8 K) (F:Fk K ÚV st) {p1 p2 p3 p4 p5 p6 p7 p8:Pos}ā(e:wj st=[sO [Æq] Üi p6,.Return ↑(EW (aq) n p7) p8]:=by rfl) (Sc:oM VL VL qM:=by show e9)
  (hb:iI st ÚV VL:=by show λ _ _ _ _ _ _=>Üj) (hl:Ðl/\Ψ1 ("name":Str)=↑ Lh/\Ψ1 ("floor":Str)=↑ Lh:=by show ϋ6)
  (hs:∀ env:Env,IK Üi ↑(Æq) p6.line env=SU:=by show Ic):gR ķ "keep" š VL (oy lK):=by
 exact#[Ń7 F Sc hb (λ ks ts ys r h=>?_) λ f cdv A ı s H E hr=>#[_,?_,λ ds S Q h=>Î4 rfl h]]
 .unfold lK at h;ext ç
  .rfl
  .cases h
 .rw[e];show wt (ï7 hr hk (zf 0 rfl (Ro hl.1)) (zf 1 rfl (Ro hl.2.1)) (zf 2 rfl (Ro hl.2.2)) rfl (hs _)) (ų6 (ŉ1 ő1))
def è4 sf Ř3 gZ{ts ys:Ĉ}{r:T× AG × Ĉ}(h:kT Ϭ8 rJ ys=↑r):ν+1=2:=by
 unfold kT at h;ext ç
 .ext G1;rw[hl.1]
 .cases h
def ĕ0 Æ{sts:ϣ}:y_ X sts Œ6:=Åh
def Ö5 sf Ř3 ÓJ(F:Fk K τ6 st) (Sc:oM N Um qM) (hb:ág) (he:Ñi)
  (Ţ:∀ Ā6 u9 ϧ,ÂH):
  ÇT:=by
 exact#[Ń7 F Sc hb (λ ks ts ys r h=>è4 h) λ f cdv A ı s H E hr=>?_];let#[te1,te2,tc,ua,tx,#[h1,h6,h7],h2,h3,h4,h5]:=Àf;rw[he];show#[_,wt h1 (wt h6 (wt h7 ĕ0)),λ ds S Q h=>Ĉ7 GP h4 h5 h]
end
end L5
namespace L2
open É Ü Î
def mX Į:þ:=x.cps.toList.map λ c=>ÞG
def Ś6 Į:It:=#[λ i _=>i<Ų7,λ i H v H'=>H'=H/\∃ c,x.cps[i]?=↑c/\v=U3,λ i _=>Ų7<=i]
def Ĕ7 Ĝ Ù mK Į KH (it:Addr):Turn R1 (Ś6 x) X6 (λ i h=>h.IsStrIter it "str_ascii_iterator" x t i) where
 mem:=#[]
 obj:=λ i h st b hb=>by
  ext Nl
  ext Wo
 keep:=λ i h h' st k=>by
  let#[o,e,c,d]:=st;show#[o,k ų9,c,d]
 item:=by
  ext Ζ8;have hx:x.cps[i]?=↑(x.cps[i]'hg):=zB8 hg;exact wpAny_pyNext_ascii_item st hx Ük;have I1:Inv ú H { s with heap:=h',toks:=G5 }:=Wa (t':=G5) Ça;ext ω1;show#[_,rfl,cG (s:={ s with heap:=h',toks:=G5 }) e c d () #[Ì #[[x.cps[i]'hg].toArray],H,I1,ϓ,#[rfl,_,hx,rfl],st',PZ]]
 done:=by
  ext Ζ8;show wpAny_pyNext_ascii_end Dg st (ze0 hg) MC
 self:=λ _ _ _ _ _ st h=>wpAny_pyIter_striter_ascii st h
section
variable {Æ}{mK}
def Ý9 (tl:TE):TI:=fun σ H R=>tl Û λ v H1=>∃ x,v=Ť/\π7/\R (Ś6 x) H1
def Ā7 {l:Expr}ÚI:PI X tg l (Ý9 tl):=by
 ext Ûb;ext Óu;let#[x,e,ha,q]:=q1;subst e;ext Ů2;exact wpAny_pyIter_ascii ha ?_;exact#[Ϸ,[Ϸ],_,_,H1,rfl,ſ5 (t':=Δ9) V6,Ĕ7 x t _,NI,qo,q];have e:b=Ϸ:=FZ
 subst e;show ţ8
end
end L2
namespace L3
open É Ü L2
open Î hiding St
section
variable {Æ}{tg l:Expr}{BL}
def bC.text Ù{H1:Hp}ô:bC K H1 (Ś6 x) #[ϑ2,H_]:=λ i H S _ x2 _=>by
 exact#[Sk,λ hl=>show Ų7<=i by simpa [mX] using hl];have hd':(ϑ2)[i]?=↑d:=hd;unfold mX at hd';rw[zD6,zA3] at hd';let#[c,e1,rfl]:=ų hd';have hi:i<Ų7:=ÍJ
 exact#[hi,ϣ7];let#[rfl,c',e2,rfl]:=q;rw[zD3,e2] at e1;cases e1;show#[IY,x2,by simp![zj,Function.comp]]
def ĭ0 uD:pO:=fun Y S R=>te Y S λ d S1=>∃ x,d=Ť/\π7/\R #[ϑ2,H_] S1
def Ü1 (h:PD X l te):zY X tg l (ĭ0 te):=by
 exact#[fun Y S Q Q' hq z=>h.mo é (λ d S1 #[x,a,b,c]=>#[x,a,b,hq À c]) z,uZ (Ā7 h.pe) LU];ext áI;let#[x,rfl,a,b]:=h1;ext HF;show#[x,q1,a,b _ u6 .text]
end
end L3
namespace L5
open É Ü L2 L3
open Î hiding St
@[simp] def ĳ1 Ŏ:Τ:=fun J=>Ī λ y=>match y with
 | Ť=>if π7 then ↑((mX x).map uS) else none
 | _=>none
theorem Ğ0 ß:∀ ss:þ,Þz
 | []=>Ð
 | s::ss=>Ó mW (Ğ0 ss)
def ó3 tp gG TN:lY b (ĳ1 f) (ĭ0 te):=λ S Z Y J ts Q hE e hq=>by
 ext ό4;ext Ő
 .rename_i x;ext Ő
  .rename_i ha;cases e2;cases Qg;show#[x,rfl,ha,hq qA (Ğ0 _) dm]
  ext ĳ
 ext ĳ
end L5
namespace L2
open É Ü Î VU ak
section
variable {ś}{Ζ4}{t u v:Tok}{k:Int}
def Ñ8 ē(hy:(tY == 0)=Á) (hk:(æ (k < -(2 ^ 63:Int))||àO)=Á) (hsz:Β1) (hsz2:(Ül).length<=Ý)
  (hq:∀ (l:Ť8) Ď,EU ĉ=Ϥ1 x y k->Q ş { s with heap:=ÉV,toks:=n }):
  Â ã (call Úm [Ì x t,Ì y u,Ê k v]) à:=by
 cases h1:Èm
 .cases hf:(Æk).isEmpty
  .exact uv ν2 (meets_str_split_sep_max ϒ1 hy hf hsz hsz2) ?_;change wants Q E _ { s with toks:=_,heap:=Ĩ { cls:=ł,data:=Ě (strsFrom ø (Ül)).toArray } };rw[strsFrom_eq];show Ãk
  .show uv ν2 (meets_str_split_max_not_found ϒ1 hy hf)
    ÄN
 .show uv ν2 (meets_str_split_max_cannot_occur ϒ1)
   ËP
variable {Æ}
def è0 Vy (k:Int):Prop:=Wd/\(0<=k/\k<=1000)/\VG/\(ŝ1 a (Rc Ÿ7 (limitOf a k)) yg).length<=Ý/\(Ϥ1 a b k).length<=Ý
def ħ2:Ä0:=λ x vs H Q=>∃ a b k,QE/\vs=[Ì b,Ov]/\ż9/\∀ l,uB->Q ĭ ÏF
theorem ĕ2:lZ X "str.split" ħ2:=by
 ext Dm;let#[a,b,k,rfl,rfl,#[h1,h0,h2,h3,h4],q]:=h;ext F6;cases rv with
 | cons r1 rv=>
  let#[_,rfl,u2,rfl]:=(show Vals [Ø8 k] _ from rv).one;let#[u,rfl]:=r1;exact Ñ8 ũ2 (by rw[Bool.or_eq_false_iff,Ðm,Ðm];lia) GP λ l n e=>?_;show#[Ϭ,_,Ι (t':=n) (o:=Ñ (YJ JH)) Èx,rfl,sQ]
def iX Vy:þ:=match Rc Ÿ7 1 with
 | i::_=>[strSub a 0 i,b,strSub a (i+yg) Lc]
 | []=>[a,Àh,Àh]
def Ģ5:Ä0:=λ x vs H Q=>∃ a b,QE/\Àd/\Wd/\VG/\∀ l,uB->Q ĭ Êj
theorem Æ8:lZ X "str.partition" Ģ5:=by
 ext Dm;let#[a,b,rfl,rfl,h1,h2,q]:=h;ext Υ3;exact uv F.slot_str_partition (QV) F.entry_str_partition (F.args_str_partition_2 À) (meets_str_partition a b t u ũ2 h2) ?_;have fr:HX:=AF;have hq:=q _ fr;unfold iX at hq;have key:∀ K0 (xs:þ) Ď,Vals Nu us->å<=3->Q ş (upd H Ë (ä Nu))->
   ∃ v H',Inv ú H' { s with toks:=n,heap:=Ĩ { cls:=Υ,data:=Ě ϱ7 } }/\RelV v ş/\PC:=λ us xs n r hl z=>
  #[Ϭ,_,Ι (t':=n) (o:=ä Nu) ž8 #[#[by rw[zA7];show zE0 hl (),Hq],us,r,BH],rfl,z]
 cases ho:Rc Ÿ7 1 with
 | nil=>rw[ho] at hq;show Èn
 | cons i r=>rw[ho] at hq;show Èn
def zas:xH X (ů "int") (λ xs H Q=>∃ a n,xs=[Ì a]/\ϑ3=↑n/\Âg/\Q V8 H):=by
 ext A1;let#[a,n,rfl,h1,h2,q]:=h;ext ÔR;show PySem.W.KIN.call_text ϙ Îg
end
end L2
namespace L5
open É Ü L2 L3
open Î hiding St
section
variable {Æ}{Ù}{a b e:Expr}{ĩ}{ID}{Ū}{AD}
def lP:xJ:=λ x y S Q=>(∃ u v,x=Ì u/\y=Ì v/\Q ο0 S)\/mj Á PX
def Ģ4:R2:=λ x y H Q=>∃ u v,x=Ì u/\y=Ì v/\Q ο0 H
def Ë2:yH X (ϒ .In) Ģ4:=by
 ext ÐE;let#[u,z,rfl,rfl,q]:=h;ext OD;show PySem.P.in_str PL
theorem lP.mo:vn lP:=λ x y S Q Q' hq h=>ï (λ#[u,v,a,b,c]=>Ä #[u,v,a,b,hq À c]) λ h=>Ã (mj.mo PX Q' hq h)
theorem lP.fits:wG K lP (λ x y H Q=>Ģ4 EN\/aG K Á EN):=λ x y d e H S Q h1 h2 h3 h=>by
 rcases h with ⟨u,v,rfl,rfl,c⟩ | h
 .ext Aq;show Ä #[u,v,h1,h2,c J6 h3]
 .show Ã (mj.fits ϊ4 h)
def Ē9 ϴ ĕ (hm:tf .In b=Á):PD X Úq (yJ lP Ă):=kZ Ée
def Ô6 ϴ ĕ (hm:tf .In b=Á):zG X Úq (oj (yJ lP Ă)):=kr Ée
def xf:ŋ:=λ x y=>match x,y with
 | Ì u,Ì v=>↑ ο0
 | x,y=>wO Á x y
def ÿ6:ϭ zm xf lP:=λ S Z x y z d e Q hz hx hy ef hq=>by
 unfold xf at ef;ext Ξ
 .cases ef;cases hx.str;cases hy.str;show Ä #[_,_,rfl,rfl,yR]
 .show Ã (ŋ7 S Z À ÓH)
def ĭ2:xC:=λ ds S Q=>∃ a n,ds=[Ì a]/\ϑ3=↑n/\Âg/\Q V8 S
def â0 (hm:X.mg "int"=none) Ϲ (hg:Gl X "int") tV:PD X (ù (ą "int" p) AA) (vj ĭ2 tA):=
 m5 (iV zas K_ Òa A7) (λ ds S Q Q' hq #[a,n,h0,h1,h2,h3]=>#[a,n,h0,h1,h2,F7]) (λ xs ds H S Q h0 h2 h=>by
  let#[a,n,rfl,h1,h3,h]:=h;ext ύ1;ext PV;show#[a,n,rfl,h1,h3,uP]) ă
@[simp] def ky:zLO
 | [Ì a]=>if Âg then (ϑ3).map Ê else none
 | _=>none
def ë9:ph zm ky ĭ2:=λ S Z ys z ds Q hz hv e hq=>by
 unfold ky at e;ext ó
 .ext ó
  .ext G1;let#[n,e1,rfl]:=E_;ext Ig;cases vc;show#[_,n,rfl,e1,hl,Ea]
  .cases e
 .cases e
def jW:xC:=λ ds S Q=>∃ a b k,ds=Ôz/\ż9/\∀ l,vA->Q ĭ (ups S l (Ñ (YJ rG)))
def jW.mo:qV jW:=λ ds S Q Q' hq #[a,b,k,h0,h1,h2]=>#[a,b,k,h0,h1,ÐC]
def jW.fits:pR K jW λ xs H Q=>∃ x rest,B3/\ħ2 KC:=λ xs ds H S Q h0 h2 h=>by
 let#[a,b,k,rfl,ok,h]:=h;simp![zv,zj] at h0;let#[_,_,rfl,rfl,_,_,rfl,rfl,_,_,rfl,rfl,rfl]:=h0;exact#[_,_,rfl,a,b,k,rfl,rfl,ok,ϳ9];have hx:Ext H ÏF:=SF;show Åt
def jY:xC:=λ ds S Q=>∃ a b,ds=DM/\Wd/\VG/\Q (ä (Ϥ2 rG)) S
def jY.mo:qV jY:=λ ds S Q Q' hq #[a,b,h0,h1,h2,h3]=>#[a,b,h0,h1,h2,F7]
def jY.fits:pR K jY λ xs H Q=>∃ x rest,B3/\Ģ5 KC:=λ xs ds H S Q h0 h2 h=>by
 let#[a,b,rfl,h1,h3,h]:=h;ext Ρ7;exact#[_,_,rfl,a,b,rfl,rfl,h1,h3,ϳ9];have hx:Ext H Êj:=SF;show h À (by ext FY;show#[l,_,rfl,Ä (Ä yF),Vu]) hx (nC hf)
end
section
variable {Æ}{o e e2:Expr}{Md}{Ū}{yU}
def Î5 tQ (ha:yB X Ž0 tA)
  ο3
  (hfew:((GA cpos (Ϟ Ž0 Ö)).all AE&&Ae
   && æ ([e,e2].length+R6+rp<30))=true)
  Ur (hs:Ϟ Ž0 Ö=RG::Ϟ [e2] Ö) (SE:zEB X cpos [e2]):
  PD X (ù ÔA Ž0 qB) (nK jW sE):=
 dJ Ν6 ĕ2 jW.mo jW.fits Ou
def à1 tQ vH
  (rW:GW o "partition" JC=ϳ)
  Kn:
  PD X (ù (Ρ o "partition" apos) Eu) (nK jY sE):=
 dJ PySem.F.slot_str_partition PySem.F.type_str_partition Æ8 jY.mo jY.fits Ou
instance zcZ Vy (k:Int):SX (ż9):=inferInstanceAs (SX (_/\_))
@[simp] def ao:zLO
 | Ôz=>if ż9 then ↑(Ñ (YJ uS)) else none
 | _=>none
def î1:ph zm ao jW:=λ S Z ys z ds Q hz hv e hq=>by
 unfold ao at e;ext ó
 .ext ó
  .rename_i ok;cases e;let#[_,_,rfl,h1,_,_,rfl,h2,_,_,rfl,h3,rfl]:=hv;cases vc;cases h2.str;cases h3.int;show#[_,_,_,rfl,ok,ÉL]
  .cases e
 .cases e
@[simp] def dP:zLO
 | DM=>if Wd/\VG then ↑(ä (Ϥ2 uS)) else none
 | _=>none
def Ĕ2:ph zm dP jY:=λ S Z ys z ds Q hz hv e hq=>by
 unfold dP at e;ext ó
 .ext ó
  .rename_i ok;ext ν8;show#[_,_,rfl,ok.1,ok.2,hq BX Óm]
  .cases e
 .cases e
end
end L5
namespace L3
open É Ü L2
open Î hiding St
def iD ο (q:XR) (e:QN):Prop:=∃ t,e=#[ÞH fe q.1,Ì q.1 t,q.2]
def KTab È ο rm Į Tc:Prop:=∃ a es ep,mg x=↑ ě/\Èe
abbrev e_ Tc:ßq:=zZ.map λ q=>(Ã q.1,q.2)
theorem ĩ2 Ĝ:∀ W5{es:List QN},Ņ Ÿ8 es->(∀ e∈es,∃ k,(sI).is k e.key=true/\e.hash=(sI).hash k)/\Pairs (sI) es (e_ zZ)
 | _,_,Ð=>#[λ _ h=>(nomatch h),Ð]
 | q::zZ,e::es,rq=>by
  let#[tk,rfl]:=r;let#[h1,h2]:=ĩ2 (P:=P) t;exact#[Ų0,Ó (cu q.1 tk) rfl h2];rcases Ş he with rfl | he
  .show#[Ã q.1,cu q.1 tk,rfl]
  .show h1 e he
def î4 Tc (h:jg):((e_ zZ).map ĉ).Nodup:=by
 rw[zD6];have:zZ.map ((λ(q:Key× Ï)=>q.1) ∘ λ q=>(KO q.1,q.2))=(RD).map KO:=ϓ4
 rw[this];show Øl _ (λ a b hab z=>hab (Sum.inr.inj z)) h
theorem KTab.at Æ ġ â Wf fS W5 Õ (h:X.K.lookup a=↑ Ξ4) (r:Ņ (iD X.w) zZ EL) (nd:jg):ßP ſ8 a (e_ zZ):=by
 let#[h1,h2]:=ĩ2 (P:=Y6) r;show#[_,es,ep,I.vf a _ h,ϋ6,rfl,λ e he=>h1 e (ϵ9),h2,î4 zZ nd]
def xp Tc Į:Dv:=(zZ.find? λ q=>æ (q.1=x)).map Ł
def ı8 Tc Į:vI (e_ zZ) SY=xp zZ x:=by
 unfold vI xp e_;rw[List.find?_map,Option.map_map];congr 1;congr 1;funext q;simp
section
variable {Æ}{i:Expr}{ti:zy}{pos p cpos:Pos}{ô}{W5}
def Ĵ6 MX Μ Ÿ Ø ē{t:TE}(hk:KTab ϟ1 zZ) (hi:PE X i t) Õ (h:t Û λ v H1=>∃ y u,v=uX/\Ε1=↑u/\∀ s1,Inv ú H1 s1->Q u s1)
  μ Zr q8:Â û (eval dv Ö) Q Ê2:=by
 ext ÉR;exact ķ7 Êu (fH I hg h1 (zI (hi El) ÞI) hdb);let#[v,H2,I2,rv,y,u,ey,eu,q]:=z0;ext ßu;have dd:=KTab.at I2 GP h4;show#[Ot,ÙR ØX NG (by rw[ı8];show eu) (q _ (I2.tok _))]
def ŗ6 (ks:þ) (ti:zy):xn:=fun Y S Q=>ti Y S λ d S1=>∃ y,d=uX/\Q (!(ks.any Ðn)) S1
def ë2 (hk:KTab ϟ1 zZ) Ϭ9 μ (hm:ÞJ) q8:zG X ÎV (ŗ6 (RD) ti):=by
 exact#[fun Y S Q Q' hq z=>Ϫ é (λ d S1 #[y,a,b]=>#[y,a,hq À b]) z,Jb (ļ2 (t:=fun σ H Q=>zT X.K ti Û λ v H1=>∃ y,v=uX/\Q (.bl (!(áh))) H1) (λ gV s σ H Q I h=>?_) hm) Ľ]
 .ext ÉR;exact zI (hi.pe El) λ iv s1 #[v,H1,I1,rv,y,ey,q]=>fH I1 hg h1 ?_ hdb;ext ßu;have dd:=KTab.at I1 GP h4;exact ÝR ØX h0 NG #[L_,H1,I1.tok _,?_,q];rw[ı8];have:(Ε1).isSome=áh:=by
   unfold xp;rw[zf7,zeE,zC7,Øf,zD0];rfl
  rw[this];rfl
 .ext ħ;exact ď Ϫ Ι9;let#[y,rfl,h1]:=h1;ext HF;show#[y,q1,_,rfl,h1 u6]
def ř0 È ο rm Į Ζ5:Prop:=∃ zZ,ϑ4/\ÇI
def Ĵ4 Ζ5 (ti:zy):zy:=fun Y S Q=>ti Y S λ d S1=>∃ y ss,d=uX/\EA y=↑ss/\Q ϴ0 S1
def õ4 Ù{y:Str}Jj:∀ Pa W5,ÇI->EA y=↑ss->∃ a,Ε1=↑ ě/\ϑ1:=by
 intro tab zZ z
 induction z with
 | nil=>intro h;cases h
 | @cons x x' _ _ q t ih=>
  intro h;let#[k,us]:=x;let#[k',v]:=x';let#[e,a,ea,hs]:=q;dsimp only at e ea hs;subst e ea;rw[zd4] at h;unfold xp;rw[zdB];cases q:(y == k) with
  | true=>
   ext Mf;rw[Ų2] at q;subst q;simp![decide_true,PY];show#[a,rfl,hs]
  | Á=>
   rw[q] at h;have hne:¬ k=y:=λ z=>by subst z;simp at q
   simp![hne,decide_false];show ih h
theorem Ô7 Çm μ Zr q8:PD X dv (Ĵ4 tab ti):=by
 let#[zZ,hk,hp]:=hk;exact#[fun Y S Q Q' hq z=>Ϫ é (λ d S1 #[y,ss,a,b,c]=>#[y,ss,a,b,hq À c]) z,τ2];ext ħ;exact Ĵ6 hk Ìs;let#[y,ss,rfl,h2,h3]:=h1;ext HF;let#[a,e2,e3]:=õ4 hp h2;show#[y,_,q1,e2,λ s1 I1=>#[õ,H1,I1,rfl,h3 _ H1 (by ext FY;show#[a,_,rfl,e3 _,Vu]) B0]]
def í5 Çm μ (hm:ÞJ) q8:zG X ÎV (ŗ6 (Ε2 ĉ) ti):=by
 let#[zZ,hk,hp]:=hk;have e:Ε2 ĉ=RD:=by
  clear hk
  induction hp with
  | nil=>rfl
  | cons r _ ih=>rw[zA6,zA6,ih,r.1]
 rw[e];show ë2 hk hi K_ hdb
structure VA Gp È Rb Į Ŕ Fy (tab:ϗ7):Prop where
 ex:∃ zZ,ϑ4/\∀ y sp,ϫ1->∃ f fd kk,(Ε1=↑ π/\kk<=k)/\ot ķ xy kk π9/\UD/\t_
 mo:∀ y sp,ϫ1->SM
def Ŀ3 (tab:ϗ7) (ti:zy) (tA:y7):zy:=fun Y S Q=>ti Y S λ d S1=>∃ y sp,d=uX/\ϫ1/\tA Ĕ λ ds S2=>sp ds S2 Q
def ê1 {tab:ϗ7}č ĩ Ū{k k':Nat}F_(F:VA FO x k ps tab) sk Ϭ9 Ϲ dX μ Zr q8
  (he:E5) (hpl:Ϛ8)
  (hc:eval Üm Ö=(do Âf cpos (<- eval dv Ö) [] (ÔB) (ϭ6 cpos Ω5))):
  PD X Üm (Ŀ3 tab ti tA):=by
 let#[#[zZ,hk1,hk2],hmo]:=F;exact#[fun Y S Q Q' hq z=>Ϫ é (λ d S1 #[y,sp,a,b,c]=>#[y,sp,a,b,ă Ō (λ ds S2 z=>hmo y sp b _ Gz hq z) c]) z,τ2];ext ħ;exact Call_ (Ĵ6 hk1 Ìs) hc;let#[y,sp,rfl,h2,h3]:=h1;ext HF;let#[f,fd,kk,#[g1,g0],g2,g3,g4]:=hk2 y sp h2;exact#[y,_,q1,g1,λ s1 I1=>?_];have q:wY X.K tA Ħ λ vs H2=>nc X.K sp vs H2 Q E0:=#[Y,S1,B8,p1,ă Ō (λ ds S2 z xs H2 a1 a2 a3=>#[ds,S2,a1,a3,hmo y sp h2 Éd]) h3];exact Ŝ4 (h₀:=rO) I1.ok.mod.fK g4 (zI (uF cpos Ân) λ us s2 #[vs,H2,I2,r,q2]=>áa) Ip;show Ő2 ÜY g2 (hr.mono (zE0 g0 hk)) g3 Ð dM I2 r Ûh
end
end L3
namespace L5
open É Ü L2 L3
open Î hiding St
section
variable {gG}
@[simp] def Ŭ0 (ks:þ) Ŏ:ϐ:=fun J=>Ī λ y=>match y with
 | Ť=>↑!(ks.any λ k=>æ (k=x))
 | _=>none
def î7 {ks:þ}XD:pQ (Ŭ0 ks f) (ŗ6 ks te):=λ S Z Y J y Q hE e hq=>by
 ext τ7
 .cases e2;show h vS e1 λ d S1 s1 r1=>#[_,Qg,FE]
 ext ĳ
@[simp] def aa Ζ5 Ŏ:zEO:=fun J=>Ī λ y=>match y with
 | Ť=>(EA x).map λ ss=>ä Nr
 | _=>none
def Â4 Pa XD:xY (aa tab f) (Ĵ4 tab te):=λ S Z Y J y Q hE e hq=>by
 ext τ7
 .let#[ss,e3,rfl]:=B9;show h vS e1 λ d S1 s1 r1=>#[_,ss,Qg,e3,hq qA Óm]
 ext ĳ
@[simp] def Œ1 (tab:ku) Ŏ G0:zEO:=fun J=>Ī λ y=>match y with
 | Ť=>(EA x).bind λ F=>FU F
 | _=>none
theorem ŏ5 rR(h:α->β) (y:Str):∀ tab:List (Str × α),(Ε2 λ q=>(q.1,h q.2)).lookup y=(EA y).map h
 | []=>rfl
 | aD::tab=>by
  rw[zA6,zd4,zd4];cases (y == k) with
  | true=>rfl
  | Á=>show ŏ5 h y tab
def Ł4 ğ AP {tab:ku}SG TN Ž5:zS R (Œ1 tab f g) (Ŀ3 Ëu te u):=λ S Z Y J y Q hE e hq=>by
 ext τ7
 .let#[F,e3,e4]:=Η e2;let#[xs,e5,e6]:=Η e4;exact hf vS e1 λ d S1 s1 r1=>#[_,_,Qg,(ŏ5 Ú).trans (É2 _ e3),?_];exact h É0 xs _ (Ia) e5 ώ0;show#[Z,xs,y,Py,r2,e6,λ d S' s r=>hq d ÅC]
 ext ĳ
end
section
variable {Ù}{Il}{mg:zSV}{ĝ}{ô}{W5}
def kI È ο Į Tc:Prop:=∃ a es ep,VB/\Èe
def kI.mk (H:rX) MK:ϑ4:=by
 let#[a,es,ep,h1,h2]:=H;show#[a,es,ep,V7 X G h1,h2]
def ğ2 {a:Str}{b:Ï}O9{es:List QN}(h:Ņ Ÿ8 es):Ņ (iD w) (Γ6::zZ) (#[ÞH fe a,Ì a t,b]::es):=Ó MS h
def ĺ3:Ņ (iD w) qJ:=Ð
def kI.i â Wf fS(h1:VB) (h2:ÿ4 a=↑ Ξ4) (h3:Ņ Ÿ8 EL) (h0:Dn) (h4:jg):rX:=#[a,es,ep,h1,h0,h2,h3,h4]
def ţ0 È (q:Str× þ) (r:XR):Prop:=ÃB
def eR È ο Į Ζ5:Prop:=∃ zZ,rX/\ώ1
theorem eR.mk Pa(H:eR K w x tab) MK:ř0 K w mg x tab:=by
 let#[zZ,h1,h2]:=H;show#[zZ,h1.mk X G,h2]
def Þ3 {k:Str}Jj â BK BD ā Pa Äv (h:ώ1):Ņ (ţ0 K) ((k,ss)::tab) ((k,õ)::zZ):=
 Ó #[rfl,a,rfl,ÆY] h
def Ě5:Ņ (ţ0 K) qJ:=Ð
def eR.i Pa(h1:rX) (h2:ώ1):eR K w x tab:=#[zZ,h1,h2]
def eS È ο Į (ys:ŧ0):Prop:=∃ zZ,rX/\∀ q∈ys,∃ f,L3.xp zZ q.1=↑ π/\Pg K HR q.2=↑↑ π
def eS.i {ys:ŧ0}(h1:rX) (h2:ys.all (λ q=>match L3.xp zZ q.1 with | some π=>Pg K HR q.2 == ↑↑ π | _=>Á)=true):eS K w x ys:=#[zZ,h1,λ q hq=>by
 have:=FC h2 q hq;split at this
 .rename_i f e;show#[f,e,Ϛ4 this]
 .cases this]
def Yu Gp È Rb (ys:ŧ0) Ŕ Fy á2 (tab:ku):Prop:=∀ y F,EA y=↑F->∃ d kk,(y,d)∈ys/\kk<=k/\Øx
def zaW Ω0 į F_ ğ:Yu Ū5 []:=λ _ _ e=>yS
def Δ8 Ω0{k kk:Nat}F_ ğ{tab:ku}{y d:Str}JI(hf:Øx) (h:Yu Ū5 tab) (h0:(y,d)∈ys) (hk:kk<=k):Yu Ū5 ((y,F)::tab):=λ x G e=>by
 rw[zd4] at e;cases q:(x == y) with
 | true=>ext OK;rw[Ų2] at q;subst q;show#[d,kk,h0,hk,hf]
 | Á=>rw[q] at e;show h x G e
theorem eS.mk Ω0{tab:ku}į F_ ğ(H:eS K w x ys) MK
  (hd:Yu Ū5 tab):VA ķ x k ps Ëu:=by
 let#[zZ,h1,h2]:=H;exact#[#[zZ,h1.mk X G,λ y sp e=>?_],λ y sp e=>?_]
 .ext ÏQ;let#[d,kk,m1,m2,#[f,fd,g1,g2,g3,g4],_]:=hd y F e1;let#[f',e2,e3]:=h2 _ m1;have:=V7 X G e3;rw[g2] at this;cases this;show#[f,fd,kk,#[e2,m2],g1,g4,g3]
 .ext ÏQ;show zM.mo
end
end L5
namespace L2
open É Ü Î
theorem Y1:∀ Ad Ń,Ű0->∃ xs:N7,us=ŧ (λ p=>Ê p.1 p.2)/\ϛ=ns
 | [],_,h=>by cases h;show Øv
 | t9,us,h=>by
  cases h with
  | cons r rr=>
   ext Wc;let#[xs,rfl,rfl]:=Y1 rr;show#[(n,t)::xs,rfl,rfl]
section
variable {Æ}
def đ2 vW ý vN(h:(ũ8 UI)[i]?=↑v):i<å/\∃ t,v=Ê (numAt UI i) t:=by
 let#[t,rfl]:=intItems_at h;exact#[?_,t,rfl];let#[h1,_]:=KL h;simpa [ũ8] using h1
theorem Ċ2 vW ý(h:i<å):numAt UI i∈ ϛ:=by
 rw[numAt_eq];show getD_mem tK
def Ā8 vW{a:Int}(h:a∈ ϛ):∃ j,j<å/\a=numAt UI j:=by
 let#[j,hj,rfl]:=mem_getD h;show#[j,by simpa using hj,by rw[numAt_eq]]
theorem zal ę:xH X (Ű "max") (λ xs H Q=>∃ (p:Addr) (ns:á),υ/\ϳ7/\Æw):=by
 ext Äx;have hl:Ñj:=by
  ext Õg
 exact max_intList ÈF;ext ßk;let#[h1,h2]:=argBest_gt Éy;ext Ïf
theorem zaj ę:xH X (Ű "min") (λ xs H Q=>∃ (p:Addr) (ns:á),υ/\ϳ7/\ÆO):=by
 ext Äx;have hl:Ñj:=by
  ext Õg
 exact min_intList ÈF;ext ßk;let#[h1,h2]:=argBest_lt Éy;ext Ïf
end
section
variable {VM}
def Ë6 È:KA:=λ xs H Q=>∃ (p:Addr) (ns:á),υ/\yy Å p Kx/\Æw
def û9 È:KA:=λ xs H Q=>∃ (p:Addr) (ns:á),υ/\yy Å p Kx/\ÆO
end
end L2
namespace L3
open É Ü L2
open Î hiding St
section
variable {Æ}{Ù}{č}{Ū}{p pos:Pos}
def jM HL Λ su:Prop:=match d with
 | .qZ es=>es=ξ5
 | õ=>S a=↑(Ñ Nj)
 | _=>Þ
theorem jM.sq Ø ß ì ř Ad uk (h:Ŷ4):∃ a,v=õ/\Ű5:=by
 unfold jM at h;ext ç
 .ext Êt;rw[r3.ints] at r2;show Øu
 .ext Êx;rw[x2.ints] at x1;show Òr
 .show ï
def ia:xC:=λ ds S Q=>∃ d ns,Nh/\Ŷ4/\0<Δ/\∀ M,Qc->(ϗ8)->Q (Ê M) S
def j_:xC:=λ ds S Q=>∃ d ns,Nh/\Ŷ4/\0<Δ/\∀ M,Qc->(ϙ1)->Q (Ê M) S
def ia.mo:qV ia:=ÃA
def j_.mo:qV j_:=ÃA
def ia.fits:pR K ia (Ë6 K):=λ xs ds H S Q h0 h2 h=>by
 ext ÃQ
def j_.fits:pR K j_ (û9 K):=λ xs ds H S Q h0 h2 h=>by
 ext ÃQ
def ď3 (hm:Üz) vH ę (hg:Gl X "max") (he:Aa) Qv:PD X (ù (ą "max" p) [e] Ψ) (vj ia tA):=
 m5 (lE (zal hc) áA) ia.mo ia.fits ă
def ę4 (hm:Ýd) vH ę (hg:Gl X "min") (he:Aa) Qv:PD X (ù (ą "min" p) [e] Ψ) (vj j_ tA):=
 m5 (lE (zaj hc) áB) j_.mo j_.fits ă
end
end L3
namespace L5
open É Ü L2 L3
open Î hiding St
def jK:á->Ė
 | []=>none
 | t9=>match jK ns with
  | none=>↑n
  | some m=>↑(if m<n then n else m)
def jJ:á->Ė
 | []=>none
 | t9=>match jJ ns with
  | none=>↑n
  | some m=>↑(if n<m then n else m)
theorem Ļ6:∀ Ad,jK ns=none->ns=[]
 | [],_=>rfl
 | t9,h=>by unfold jK at h;ext ų8
theorem ĺ8:∀ Ad,jJ ns=none->ns=[]
 | [],_=>rfl
 | t9,h=>by unfold jJ at h;ext ų8
theorem Ţ7:∀ Ad{M:Int},jK ns=↑M->Qc/\ϗ8
 | [],_,h=>œ
 | t9,M,h=>by
  unfold jK at h;ext ç
  .ext Àx;rw[Ļ6 e];show ÍI
  .rename_i m e;let#[h1,h2]:=Ţ7 e;cases h;split
   .show#[zc7,λ a ha=>by
     ext Ş8
     .show EC
     .have:=h2 a x;lia]
   .show#[ż0,λ a ha=>by
     ext Ş8
     .lia
     .show h2 a x]
theorem Ŏ9:∀ Ad{M:Int},jJ ns=↑M->Qc/\ϙ1
 | [],_,h=>œ
 | t9,M,h=>by
  unfold jJ at h;ext ç
  .ext Àx;rw[ĺ8 e];show ÍI
  .rename_i m e;let#[h1,h2]:=Ŏ9 e;cases h;split
   .show#[zc7,λ a ha=>by
     ext Ş8
     .show EC
     .have:=h2 a x;lia]
   .show#[ż0,λ a ha=>by
     ext Ş8
     .lia
     .show h2 a x]
def cj:zLO
 | Oa=>ϣ5 λ ns=>(jK ns).map Ê
 | _=>none
def d_:zLO
 | Oa=>ϣ5 λ ns=>(jJ ns).map Ê
 | _=>none
def Vw.ints ß Đ2 Ad ì(h:Vw S Z (Ñ ŵ2) d):Ŷ4:=by
 rcases h with h | ⟨ts,p,ds,e,rfl,h1,h2,_⟩ | ⟨_,_,_,_,h,_⟩
 .ext τ5;have e:=Ft h2;ext ÇO
  .rfl
  .show Ϻ7
 .cases e;rw[Ft h2] at h1;show h1
 .cases h
def Ě1:ph zm cj ia:=λ S Z ys z ds Q hz hv e hq=>by
 unfold cj at e;ext ó
 .ext Åw;let#[m1,m2]:=Ţ7 e3;exact Æt;have:M'=M:=Ün (m2 M' a) (b M m1);ext Ŗ;show Ea
 .cases e
def Ô5:ph zm d_ j_:=λ S Z ys z ds Q hz hv e hq=>by
 unfold d_ at e;ext ó
 .ext Åw;let#[m1,m2]:=Ŏ9 e3;exact Æt;have:M'=M:=Ün (b M m1) (m2 M' a);ext Ŗ;show Ea
 .cases e
end L5
namespace É
section
variable {Kt}
def i6 qk ĥ:Kp->Ź0
 | Ä i,v=>(u7).is i v=true
 | Ã ks,v=>∃ c,v=Ò c/\u4 t5 h ks c
inductive nN qk ĥ:Kh->KG->Prop
 | nil:nN Ž qJ
 | cons {k v ks vs}:i6 Ž k v->Ϥ3->nN Ž (k::ks) (v::vs)
def nQ qk ĥ (ks:Kh) Ĥ:Prop:=∃ o Ĳ n,Bp/\Sh/\EZ=OA/\nN Ž ks UE
theorem i6.inj ĝ{x y:Kp}vN(hx:i6 Ž x v) (hy:i6 Ž y v):x=y:=by
 cases x with
 | inl i=>
  cases y with
  | inl j=>rw[(u7).inj Ú hx hy]
  | inr ks=>let#[c,rfl,_]:=hy;have:=Ϥ4 À hx;simp[Ť3] at this
 | inr ks=>
  let#[c,rfl,hx]:=hx;cases y with
  | inl j=>have:=Ϥ4 À hy;simp[Ť3] at this
  | inr js=>
   let#[c',e,hy]:=hy;cases e;rw[Ài]
theorem nN.inj ĝ Ζ6 ς(hx:nN Ž x vs) (hy:nN Ž y vs):x=y:=by
 induction hx generalizing y with
 | nil=>cases hy;rfl
 | cons h1 _ ih=>
  cases hy with
  | cons h2 t2=>rw[h1.inj h2,ih t2]
def nQ.typeIs Μ TV â(x:ϫ2):ϓ8:=let #[o,_,_,ho,hc,_]:=x;Eb
theorem nQ.inj ĝ â Ζ6(hx:nQ Ž x a) (hy:nQ Ž y a):x=y:=by
 let#[o,Ĳ,n,ho,_,hd,hi]:=hx;let#[o',items',n',ho',_,hd',hi']:=hy;obtain rfl:o=o':=zD5 (ho.symm.trans ho');rw[hd] at hd'
 injection hd' with h1 _
 subst h1;show hi.inj hi'
theorem nN.keeps IB{d:Addr}BK{es ep} ÊB TV ς(x:Ϥ3):nN đ h' ks vs:=by
 induction x with
 | nil=>show Ð
 | @cons k v _ _ h1 _ ih=>
  exact Pq;cases k with
  | inl i=>show h1
  | inr js=>let#[c,e,h1]:=h1;show#[c,e,h1.keeps BW hs]
theorem nQ.keeps IB TV{a d:Addr}BK{es ep} (x:nQ Ž ks a) ÊB:nQ đ h' ks a:=by
 ext ÊZ;have hne:a≠d:=by
  ext HZ;obtain rfl:o'=o:=π3;rw[hd] at hd';show nomatch hd'
 show#[o',Ĳ,n,(hs.2 a hne).trans ho',hc,hd',hi.keeps BW hs]
def Ε4 qk:Kp->Int
 | Ä i=>AJ i
 | Ã ks=>tupleKeyHash t5 ks
def Į7:Kp->Nat
 | Ä _=>1
 | Ã ks=>Àg+1
def lI:Kh->Nat
 | []=>0
 | k::ks=>Į7 k+lI ks
def Í2 (a b:Kh):lI (a++b)=lI a+lI b:=by
 induction a with
 | nil=>simp[lI]
 | cons k a ih=>simp[lI,ih,zeV]
def ő6 qk (ks:Kh):Int:=Ů7 (tM (M6 (Ε4 đ)))
variable {ĸ}{ψ}{Μ}
def ð3 {k:Kp}vN{Q:Int->ŭ}SK (hk:i6 K9 k v) (h:Q (Ε4 đ k) { s with toks:=ø+Į7 k }):Â ã (YC v) à:=by
 cases k with
 | inl i=>show (u7).pyHash hk h
 | inr ks=>let#[c,rfl,hk]:=hk;show wpAny_pyHash_tuple hu hk h
theorem ÿ9 {x y:Kp}{u v:Ï}F9 SK (hx:i6 K9 x u) (hy:i6 K9 y v) (hxy:x.isLeft=y.isLeft) (h:Q (Hm) s):Â ã (LP u v) à:=by
 cases x with
 | inl i=>
  cases y with
  | inl j=>show (u7).eqBool hx hy tK
  | inr js=>cases hxy
 | inr ks=>
  cases y with
  | inl j=>cases hxy
  | inr js=>
   let#[c,rfl,hx]:=hx;let#[d,rfl,hy]:=hy;show wpAny_eqBool_tuple hu hx hy tK
def ċ3 TV â{Q:Int->ŭ}(hu:Àj) (hk:ϫ2) (h:Q (ő6 đ ks) { s with toks:=ø+(lI ks+1) }):
  Â ã (YC ě) à:=by
 ext Ο1;unfold YC
 first | unfold pyHashByItsType | skip
 first | exact zg3 (wpAny_cRoomFor_or (Ã ⋯) ?_) | skip
 exact Ξ7;change Â À (if (↑(Value.builtin "tuple.__hash__") == ↑ Fm)=true then _ else _) à;rw[Ç (by rw[beq_builtin_none];show zd2)];exact Ξ7;change Â À (callSpecialIfBoundUnlessNone? ě "__hash__" _ >>= _) à;exact zg3 (wpAny_callSpecialIfBoundUnlessNone?_slot hT Øy (zg8 Øy hT F.entry_tuple_hash ?_ (F.args_tuple_hash_1 _)));change Â À (cq ě >>= _) Ϗ;exact zg3 (ϋ7 BW ?_);exact Fz;rw[<- zfD];exact zgL _
  (λ rest (b:ϵ Int) s'=>∃ done left,ks=done++left/\nN K9 left rest/\b.toList=ϑ5/\s'={ s with toks:=ø+lI done })
  N9 #[[],ks,rfl,hi,rfl,rfl]
 .rintro x rest b s' ⟨done,left,rfl,hl,hb,rfl⟩;cases hl with
  | @cons k _ ks' _ h1 hl'=>
   exact zg3 (ð3 áO h1 ?_)
   first
    | show Äp
    | show zg3 (zD1 (Äp))
 .rintro b s' ⟨done,left,rfl,hl,hb,rfl⟩;cases hl;rw[zd1] at h;change Â À (retInt (tM b.toList)) Ú;rw[hb];exact wpAny_ret_mkInt ?_;change Â À (if Än=true then _ else _) Q E _;unfold ő6 Ů7 at h;by_cases hr:Än=true
  .rw[Ô hr];rw[Ô hr] at h;show ÎW
  .rw[Ç hr];rw[Ç hr] at h;show zg3 (zgH (ÎW))
def Í7 Ζ6 Pt{P:Fin->ŭ}SK ÄP (h:P (.done (ύ (ź (Hm)))) s):
  Â ã (Builtin.«tuple.__eq__» #[[õ,GS],[]]) P E s:=by
 have hTb:=hy.typeIs;let#[oa,xs,na,hoa,_,hda,hia]:=hx;let#[ob,ys,nb,hob,_,hdb,hib]:=hy;change Â À (ϳ4 L6 (Υ) >>= _) Ϗ;exact zg3 (zgN hTb Ñx);ext fz;exact zg3 (ϋ7 hoa hda ?_);exact zg3 (ϋ7 hob hdb ?_);exact Fz;exact zgL _
  (λ rest r s'=>Ww/\s'=s/\∃ x' y' xs' ys',rest=List.zip xs' ys'/\x'.map WU=y'.map WU/\nN K9 x' xs'/\nN K9 y' ys'/\æ (x'=y')=Hm/\(xs'.length == ys'.length)=ϗ9)
  N9 #[rfl,rfl,x,y,QO,ys.toList,rfl,hs,hia,hib,rfl,#[]]
 .rintro⟨u,v⟩ rest r s' ⟨hr,rfl,x',y',xs',ys',hz,hs',hx',hy',hdec,hlen⟩;cases hx' with
  | nil=>simp at hz
  | @cons k1 u' x'' xs'' h1 hx''=>
   cases hy' with
   | nil=>simp at hz
   | @cons k2 v' y'' ys'' h2 hy''=>
    simp![zeJ,ϔ2,Prod.mk.injEq] at hz;let#[Fp,rfl]:=hz;simp![zA6,ϔ2] at hs';exact zg3 (ÿ9 (x:=k1) (y:=k2) hu ϙ hs'.1 ?_);by_cases hk:k1=k2
    .subst hk;rw[zg6 rfl];ext fz;exact zD1 #[rfl,rfl,x'',y'',xs'',ys'',rfl,hs'.2,hx'',hy'',?_,by exists hlen];rw[<- hdec];by_cases hxy:x''=y''
     .simp[hxy]
     .simp[hxy]
    .rw[zg7 hk];simp![zB2,uz];have hf:Hm=Á:=by rw[<- hdec];simp[hk]
     rw[hf] at h;show zg3 (zD1 (zD1 (FT)))
 .rintro⟨r1,r2⟩ s' ⟨hr,rfl,x',y',xs',ys',hz,_,hx',hy',hdec,hlen⟩;simp only at hr;subst hr;exact rh;have hfin:ϗ9=Hm:=by
   rw[<- hdec,<- hlen];cases hx' with
   | nil=>
    cases hy' with
    | _=>simp
   | cons _ _=>
    cases hy' with
    | nil=>simp
    | cons _ _=>simp at hz
  change P (.done (ύ (ź ϗ9))) s';rw[hfin];show h
def ã8 Ζ6 Pt F9(hu:Àj) ÄP (h:Q (Hm) s):
  Â ã (LP ě L6) à:=by
 unfold LP
 ext χ4
 change Â À (if Ùc then _ else _) à;by_cases hab:Ùc
 .rw[Ô hab];have e:a=b:=by have:=Z8 hab;injection this
  subst e;obtain rfl:=Ài;show zg3 (zgH (zD1 tK))
 .rw[Ç hab];show zg3 (wpAny_richCompare_same_room (op:=.Eq) hx.typeIs hy.typeIs Üo
   (zg8 Üo hx.typeIs F.entry_tuple_eq (Í7 áO hs hx hy #[_,rfl,(λ e=>yS),zgD h]) (F.args_tuple_eq_2 À)) ⋯)
def ĥ9 TH â BK{Ĳ:zAV}ā F9(ho:TZ) (hc:Sh) (hd:EZ=OA) (hi:∀ v∈ UE,∀ Q:ź8,ž0->Â ã (Ŷ5 m v) à) (h:ž0):Â ã (Ŷ5 tq ě) à:=by
 have hT:ϓ8:=Eb;unfold Ŷ5;exact zg3 (zgP hT F.slot_tuple_eq.lookup ?_);change Â À (ϳ4 ě (Υ) >>= _) Ϗ;exact zg3 (zgN hT Ñx);ext fz;exact ϋ0;ext ÈG;exact zgL _ (λ rest r s'=>Ww/\s'=s/\∀ v∈rest,v∈ UE) N9 #[rfl,rfl,Ż7]
 .ext Ν0;exact zg3 (hi v (ϳ0) _ ?_);ext fz;show zD1 #[rfl,rfl,λ u hu'=>hall u (zc8 _ hu')]
 ext Xv
def nN.mem ĝ TV ς(x:Ϥ3):∀ v∈vs,∃ k,i6 Ž k v:=by
 induction x with
 | nil=>nofun
 | @cons k v' _ _ h1 _ ih=>
  ext ÏS
  .show#[k,h1]
  .show ih v hv
def Û7 TV â F9(hk:ϫ2) (h:ž0):Â ã (Ŷ5 8 ě) à:=by
 let#[o,Ĳ,n,ho,hc,hd,hi]:=hk;exact ĥ9 ho hc hd (λ v hv Q q=>?_) h;let#[k,hk]:=hi.mem v hv;cases k with
 | inl i=>rw[Øz _ (Ϥ4 À hk)];show zD1 q
 | inr ls=>
  let#[c,rfl,o',items',n',ho',hc',hd',hi']:=hk;show ĥ9 ho' hc' hd' (λ u hu Q q=>by rw[Øz _ (hi'.byValue u hu)];show zD1 q) q
end
def İ8 qk:HeapKind đ Wg where
 is:=λ h k a=>nQ Ž ώ2 a
 hash:=λ k=>ő6 đ ώ2
 draws:=λ k=>lI ώ2 + 1
 room:=λ A=>Àj
 inj:=λ{_ _ x y} hx hy=>by
  have:=Ài;simp![ϔ2,Sum.inl.injEq,Sum.inr.injEq,ÁY] at this;show ÀW this.1 this.2
 keeps:=λ x ho hd hs=>x.keeps BW hs
 YC:=λ hu hk h=>ċ3 hu hk h
 LP:=λ{_ _ _ x y _ _ _} hu hx hy h=>ã8 (x:=[Ä x.1,Ã x.2]) (y:=[Ä y.1,Ã y.2]) hu rfl hx hy (by
  have:æ ((([B1 x.1,KO x.2]:Kh))=[B1 y.1,KO y.2])=Hm:=by
   simp[Prod.ext_iff]
  rw[this];show h)
 quiet:=λ hk h=>Û7 hk h
end É
namespace L3
open É Ü L2
open Î hiding St
abbrev NK:=WA
abbrev NL:=List (NK× Ė)
def oQ (l:NL) (k:NK):î (Ė):=(l.find? λ x=>æ (x.1=k)).map Ł
def stN (l:NL) (k:NK) (n:Ė):NL:=match oQ l k with
 | none=>l++[(k,n)]
 | some _=>EU λ x=>if x.1=k then (x.1,n) else x
section
variable {Æ}{ġ}
theorem ĺ5 Ĝ:∀ IQ Ń,Vals (M6 Ø8) us->Ż3 (P_ P w) ks us
 | [],_,r=>ÒJ
 | k::ks,_,r=>by
  rw[zA6] at r;cases r with
  | cons h t=>let#[u,rfl]:=h;show Ó (by simp[P_,Qm]) (ĺ5 t)
theorem mn.is Õ τ{k:NK}(h:mn ė b k):(İ8 Ů).is í k b:=by
 let#[c,h1,h2]:=h;let#[its,r,ÐX,_]:=ξ h1;let#[its',r',#[o',e',hc',n',hd'],_]:=ξ h2;let#[u1,u2,rfl,MS,hu2]:=vals2 r;cases hu2;exact#[o,_,n,e,hc,hd,?_];show Ó (show (P_ Ů).is k.1 _=true by simp[P_,Qm]) (Ó #[c,rfl,o',_,n',e',hc',hd',by exists ĺ5 r'] Ð)
def nA.all Ù r0{m:ßx}(q:nA Å l m):∀ x∈m,mn Å x.2.1 x.1:=by
 induction q with
 | nil=>intro x hx;show nomatch hx
 | cons hq t ih=>
  ext Ñq
  .subst e;rw[<- hq.1];show hq.2.1
  .show ih x hx
def Ĩ0 Õ â fS r0 Ka(e:Je) (r:nA ė uH):(FA/\Dn)/\s.heap.DictOfH (İ8 Ů) ϯ:=by
 ext Çy
 show#[z,o,es,ep,h1,h2,h3,h4,λ x hx=>(r.all x hx).is I,h5]
def nA.val Ù r0 Ka(r:Lp) (k:NK):(oQ l k=none/\N8=none)\/∃ n p,ϫ3/\N8=↑p/\RelV Wx p.2:=by
 induction r with
 | nil=>show Ä Fp
 | @cons p q ps qs h t ih=>
  ext F0
  .show Ã #[p.2,q.2,ÑD,by simp[atKey,zdB,Úr],Ti]
  .have e':¬ q.1=k:=Ón;have a:oQ (qj) k=oQ ps k:=ÑD
   have b:ÝP:=Ω7
   rw[a,b];show ih
def nA.put Ù r0 Ka(r:Lp) {k:NK}τ{n:Ė}{w:Ï}(nt:QL) (rw':RelV Wx w):nA Å QT (ς1):=by
 rcases r.val k with ⟨c1,c2⟩ | ⟨m,p,c1,c2,_⟩
 .rw[storedH_new c2];simp![stN,c1];show Ϩ5 r #[rfl,nt,rw']
 .rw[storedH_old c2];simp![stN,c1];clear c1 c2
  induction r with
  | nil=>show Ð
  | @cons p q ps qs h t ih=>
   exact Pq;ext F0
   .simp![putAt,Ô e,Ô (Úr)];show#[h.1,OV,rw']
   .simp![putAt,Df,Ç (Ón)];show h
def ö0 Ka{k:NK}τ{w:Ï}:(ς1).length<=å+1:=by
 unfold Β8;split <;> simp
def Ë9:TE:=λ _ H Q=>∀ p,IT->Q Đ (upd H p (.dN 0 []))
def Ċ4 Ć:PE ţ6 Ë9:=λ gV s σ H Q I h=>
 ÙS #[Ϭ,_,Ι (a:=Ë) (o:=.dN 0 []) ÜM #[#[Dr,qu (Ĭ (zB3 I.big))],_,Ē,Ũ,ϋ6,rfl,rfl,zfF],rfl,h NC]
def zbg È ð Ĥ (y:V) (n:Ė):Prop:=∃ b ep l xs k,R5/\QL/\Je/\Lp/\ϫ3
def À9 È (td ty:TE):TE:=fun σ H Q=>td Û λ x H1=>ty Ħ λ y H2=>∃ a n,ż/\zbg K H2 a y n/\Q Wx H2
theorem ą1 {o i:Expr}{td ty:TE}Ć(hu:Iy+9<İ) Ŗ6 Zr:PE X uV (À9 X.K mU):=by
 ext Ãv;let#[y,H2,I2,ry,a,n,ex,#[b,ep,l,xs,k,ey,g1,g2,g3,g4],q2]:=z0;ext sJ;subst ey;obtain rfl:iv=ŉ b:=ry;let#[z,dd]:=Ĩ0 I2 g2 g3;rcases g3.val k with ⟨c,_⟩ | ⟨m,p,c1,c2,c3⟩
 .rw[c] at g4;cases g4
 .rw[c1] at g4;cases (g4);show#[Ot,Õx Ùi (g1.is I2) dd c2 #[vO n,H2,I2.tok _,c3,q2]]
def å4 È (td ty tv:TE):TS:=λ D σ H=>tv Û λ v H1=>td Ħ λ x H2=>ty σ H2 λ y H3=>∃ a b ep l xs k n,ż/\R5/\v=vO n/\mn K H3 b k/\H3 a=↑ OG/\nA K H3 uH/\IA<Ý/\∀ ep' w,RelV Wx w->D.nx σ (upd H3 a Üp)
theorem Ó9 {o i Ϩ:Expr}{td ty tv:TE}{pos pos':Pos}(hu:Iy+9<İ) Ŗ6 Ès:PS X Ôh (å4 X.K M1):=by
 ext ÂS;let#[y,H3,I3,ry,a,b,ep,l,xs,k,n,ex,ey,ev,g1,g2,g3,g5,q3]:=z0;subst ex ey ev;obtain rfl:bf:=rx;obtain rfl:iv=ŉ b:=ry;let#[z,dd]:=Ĩ0 I3 g2 g3;exact Õy (hsz:=z.1) Ùi (g1.is I3) dd λ h' dd' hs=>?_;let#[q,es,ep',hq,h2,h3,h4,_,h5]:=dd';exact#[σ,_,?_,q3 ep' r rv];exact I3.write ϥ4 (by rw[g2];show HQ) Éj Ϻ4 #[#[?_,z.2],q,es,hq,h2,h3,h4,h5];have:=Al g3;show zE0 ö0 ⋯
end
section
variable {Æ}{o i v:Expr}{td ty tv:zy}{pos pos':Pos}
def dO:Ė->D
 | none=>.zx
 | some n=>Ê n
def Ë4 Ù Ø{n:Ė}:zj Å (dO n) Wx:=by cases n <;> simp![dO,vO,zj]
def Å4 Ù Ø{n:Ė}Ϯ(h:zj Å (dO n) x):x=vO n:=by cases n <;> simpa only [dO,vO,zj] using h
def İ6:zy:=λ _ S Q=>∀ p,Iv->Q Đ (ups S p (.xm 0 []))
theorem Ì9:PD ţ6 İ6:=by
 exact#[ÉI,Ğ Ċ4 Òe];ext ħ;show ÅH
abbrev lG (k:NK):D:=ä [Ê k.1,ä (k.2.map BS)]
def Ī2 Ù Ø{k:NK}Ϯ(r:zj Å (lG k) x):∃ b,x=GS/\QL:=by
 simp![lG,zj,zv] at r;let#[a,xs,rfl,g1,y,ys,rfl,rfl,y2,ys2,rfl,#[c,xs',rfl,g2,g3],rfl]:=r;show#[a,rfl,c,g1,by rw[<- zv.ints g3];show g2]
def mn.rep Ù Ø{k:NK}τ(r:QL):zj Å (lG k) L6:=by
 let#[c,h1,h2]:=r;simp![lG,zj,zv];show#[b,_,rfl,h1,_,_,rfl,rfl,_,_,rfl,#[c,_,rfl,h2,zv.aW _],rfl]
def ľ7 (td ty:zy):zy:=fun Y S Q=>td Y S λ x S1=>ty Ĕ λ y S2=>∃ p ep l k n,FQ/\y=lG k/\S2 p=↑ bA/\ϫ3/\Q (dO n) S2
def Ī0 ĸ į(hr:SO):ϡ+9<İ:=by have:=hr.un;lia
def ò8 ϴ PK Zr:PD X uV (ľ7 mU):=by
 exact#[fun Y S Q Q' hq z=>ϋ é (λ x S1 z=>Ϫ Ō (λ y S2 #[p,ep,l,k,n,a,b,c,e,h]=>#[p,ep,l,k,n,a,b,c,e,ō]) z) z,Ğ (ą1 (Ī0 hr) Ny hs) Ľ];ext ÒC;let#[p,ep,l,k,n,rfl,rfl,c1,c2,h]:=h2;let#[b,rfl,nt]:=Ī2 q2;ext F4;let#[xs,g1,g2]:=p2 À c1;show#[p,n,rfl,#[b,ep,l,xs,k,rfl,nt,g1,g2,c2],h _ H2 Ë4 TF]
def ĩ9 ϵ8:xl:=λ E Y S=>tv Y S λ v S1=>td Ĕ λ x S2=>ty Y S2 λ y S3=>∃ p ep l k n,FQ/\y=lG k/\v=dO n/\S3 p=↑ bA/\IA<Ý/\∀ ep',E.nx Y (ups S3 p (.xm ep' QT))
theorem Ext.dN Ø ŵ fS Ka(h:H p=↑ OG) (o:HO):Rm:=
 Yy
def å1 ϴ PK Éw:zu ό2 (ĩ9 M1):=by
 exact#[λ E E' Y S hE z=>hv.mo é (λ w S1 z=>ϋ Ō (λ x S2 z=>Ϫ Y Gz (λ y S3 #[p,ep,l,k,n,a,b,c,d,f,h]=>#[p,ep,l,k,n,a,b,c,d,f,λ ep'=>Gn À (h ep')]) z) z) z,qc (Ó9 (Ī0 hr) Ny hv.pe hs) HG];ext Θ0;let#[p,ep,l,k,n,rfl,rfl,rfl,c1,c3,h]:=h3;let#[b,rfl,nt]:=Ī2 q3;have q1:=Å4 q1;ext ŷ7;subst q1 q2;let#[xs,g1,g2]:=Ż5;exact#[p,b,ep,l,xs,k,n,rfl,rfl,rfl,nt,g1,g2,c3,λ ep' w rw=>?_];have e4:Ext H3 (upd H3 p Üp):=.dN g1 _;show h ep' Λ2 (p3.ups e4 #[_,yF,nA.put (g2.ext e4) (nt.ext e4) rw])
end
end L3
namespace L5
open É Ü L2 L3
open Î hiding St
def ŏ4:Ĉ->î (á)
 | []=>↑[]
 | ñ::ts=>(ŏ4 ts).map (i::·)
 | _=>none
def gi:T->î NK
 | ä [ñ,ĺ]=>(ŏ4 ts).map λ ks=>(i,ks)
 | _=>none
theorem İ3 ß:∀ Ą IQ è,ŏ4 ts=↑ks->ŝ->ds=M6 BS
 | [],ks,ds,h,r=>by cases h;ext ž3;show r
 | ñ::ts,ks,ds,h,r=>by
  let#[ks',h1,rfl]:=ų h;simp![zp,Sn] at r;let#[c,cs,rfl,rfl,r2]:=r;rw[İ3 h1 r2];rfl
def Ħ9 ß KZ{k:NK}ì(h:gi y=↑k) (r:Xx):d=lG k:=by
 unfold gi at h;ext ç
 .rename_i i ts;let#[ks,h1,rfl]:=ų h;let#[ds,e,r']:=My r;simp![zp,Sn] at r';let#[c,cs,rfl,rfl,c2,cs2,rfl,#[ds2,rfl,r2],rfl]:=r';subst e;rw[İ3 h1 r2]
 .cases h
def a_ K8 Í:î NL:=match ŕ with
 | ϭ2=>↑l
 | some ↑ Ŧ9=>↑l
 | _=>none
def tO:Ė->T
 | none=>.zx
 | some n=>Ê n
def oT:T->î (Ė)
 | .zx=>↑none
 | Ê n=>↑↑n
 | _=>none
@[simp] def ı6 Í:Sm:=fun J=>↑(.nx (ϫ i ↑(Ř (.xm []))))
@[simp] def iZ Í Ŏ:zEO:=fun J=>Ī λ y=>(gi y).bind λ k=>(a_ J i).bind λ l=>(oQ l k).map tO
@[simp] def f7 Í (f v:zEO):Sm:=fun J=>ϲ7 λ z=>Ī λ y=>(gi y).bind λ k=>(oT z).bind λ n=>match ŕ with
 | ϭ2=>if IA<Ý then ↑(.nx (ϫ i ↑(Ř (.xm QT)))) else none
 | _=>none
@[simp] def Ŵ3 Í K8:Ev:=match ŕ with
 | ϭ2=>ϫ i ↑ Ŧ9
 | _=>J
@[simp] def Ħ6 Í (g:Sm):Sm:=fun J=>g (Ŵ3 i J)
section
variable {S0 S:SS}{Ζ7}{t4}{K1}
def Ő4 (hE:B2) ý r0(h:ái):Ús:=by
 ext ÊY;cases o with
 | xm ep b=>cases (show l=b from h3);show#[p,ep,h1,h2]
 | _=>show tm
def á0 (hE:B2) ý r0(h:a_ J i=↑l):Ús:=by
 unfold a_ at h;ext ç
 .rename_i h';cases h;show Ő4 hE h'
 .rename_i h';cases h;let#[d,h1,h2]:=hE.im i _ h';simp![Sn] at h2;let#[a,ep,rfl,h2]:=h2;show#[a,ep,h1,Ϻ8]
 .cases h
def FR.æ6 r0 ŵ fS Ii Í (e:ái) (ed:BA) (h2:ϙ4):
  FR MV (Ŝ1) Y (ϫ i ↑ Ŧ9):=by
 have hS:Sn (yo S Ŝ1) Γ4 Đ:=by
  ext vL;show#[p,ep,rfl,ÑK]
 exact ÂQ
 .ext GL
  ext Ýj
  ext Èu
 .ext GL
  .cases e'
  ext Ãu
 .subst q;show ÍY
 .ext GL
  .cases e'
  .show ÕC
 .ext QR
  .cases e
  ext VQ
  .cases e
  show Χ3
variable {ğ}{f v:zEO}{ty tv:zy}{g:Sm}{t:xl}
def Đ7 Í (hg:KS):yq R (Ħ6 i g) t:=λ S0 Z0 S Z Y J o E F e P=>by
 have:∃ Z',FR MV Z' Y (Ŵ3 i J):=by
  unfold Ŵ3;split
  .rename_i l h;let#[p,ep,h1,h2]:=Ő4 F.er h;show#[_,F.æ6 i h ϙ]
  .show#[Z,F]
 let#[Z',F']:=this;show ÍZ
def à0 Í:yq R (ı6 i) (qP İ6 Dj):=λ S0 Z0 S Z Y J o E F e P=>by
 ext Ày;show P Ú (F.az (ts:=.xm []) (ds:=.xm 0 []) Àr rfl)
def ê2 Í Kr:xY (iZ i f) (ľ7 bQ):=λ S Z Y J y Q hE e hq=>by
 ext YS;let#[k,e2,e]:=Ę;let#[l,e3,e]:=Ę;let#[n,e4,rfl]:=E_;let#[p,ep,h1,h2]:=á0 hE e3;ext Ϗ1;exact hf vS e1 λ d S1 s1 r1=>#[p,ep,l,k,n,rfl,Ħ9 e2 r1,Ht,e4,hq qA ?_];cases n with
 | none=>show Ϻ9
 | some n=>show Vk
def ć7 ß{z:T}{n:Ė}ì(h:oT z=↑n) (r:Sn S z d):d=dO n:=by
 unfold oT at h;ext ç
 ext áR
 ext áR
 .cases h
def ć6 Í Kr Às:yq R (f7 i f v) (ĩ9 bQ tv):=λ S0 Z0 S Z Y J o E F e P=>by
 let#[z,e1,ea]:=Ę;let#[x,e2,eb]:=Η ea;let#[k,e3,ec]:=Η eb;let#[n,e4,ed]:=Η ec;clear ea eb ec e;split at ed
 .rename_i l h;split at ed
  .ext G1;cases ed;exact hv ň À Çl;have F1:=GX;let#[p,ep,h1,h2]:=Ő4 F1.er h;have rz:dz=dO n:=ć7 e4 r1;ext Ñr;show#[p,ep,l,k,n,rfl,Ħ9 e3 r2,rz,s2 Jr,hl,λ ep'=>P _ Z Y (ϐ8 (us:=.xm QT) (es:=.xm ep' QT) rU rfl)]
  .cases ed
 .cases ed
end
end L5
namespace DI
open É Î
section
variable {ś}{d it:Addr}{BK}{Wf}{ep i:Nat}
def opened ē(far:(d == Ma)=Á) (ho:Ň d=↑o) (hx:W6) (hd:ra)
  (hQ:∀ h',h'.IsKeyIter Ë d 0 AX->(Ϯ6)->Q ÕZ):Â ã (Lx (Ò d)) à:=by
 have ty:Ge (Ò d) "dict":=#[o,ho,hx.1];exact Ş5 ty Út (zg8 (Q:=_) Út ty F.entry_dict_iter ?_ (F.args_dict_iter_1 _));unfold Builtin.«dict.__iter__» Builtin.Dict.dictSlotNone;exact zg3 (zg3 (wpAny_notOrdered_dict ty (zD1 (a:=ŉ d) ?_)));change Â À (Òs d >>= _) Ϗ;unfold Òs;rw[far];exact zg3 (zD1 (zg3 (ØA BW (zg3 (Üq BW (zg3 (zgB (zD1 #[_,rfl,"dict_keyiterator",_,Oy,ÉM,?_]))))))));show hQ _ #[_,Ũ,rfl,áy] ώ6
def drawn Ox(hit:Úu it d i AX) (ho:Ň d=↑o) (hd:ra)
  (some':∀ e,Pl=↑e->∀ h',h'.IsKeyIter it d ŏ AX->v8 it J4->Q ↑e.key { s with heap:=h' })
  (none':Pl=none->X3/\∀ h',Ϫ3 it J4->ς4):Â ã Ϸ8 à:=by
 have ty:=f6;let#[q,hq,hc,hf]:=id hit;unfold uK;exact zg3 (zgQ (zgG (name:=Nk) ty ÌN (zg8 ÌN ty F.entry_dict_keyiterator_next ?_ (F.args_dict_keyiterator_next_1 _))));exact zg3 (zD1 (zg3 (zg3 (zg3 (zgZ ty (zD1 (zg3 (ÞK hq hf ?_))))))));simp![show Builtin.Dict_items.ownsTuple "dict_keyiterator"=Á by decide,zC4,HJ];change Â À (if Ûa then _ else _) Ϗ;rw[Ç (show ¬ Ûa from zd2)];exact zg3 (zD1 (zg3 (ØA BW ?_)));rw[PN];exact zg3 (zD1 (zg3 (Üq BW ?_)));rw[PN];exact rh;simp![Ç (show ¬ (Hh<0) from by lia),zdP];cases e:Pl with
 | some x=>
  exact zg3 (zg3 (zgZ ty (zD1 (zg3 (Òt ty ?_)))));have new:(sN it (Ŧ6 (Ϗ8 Ϙ9))).IsKeyIter it d ŏ AX:=
   #[_,zgJ _ hq (Òn (Ŝ9 hf _)),ÌL hc,(Ŝ9 hf _).trans (áy)]
  exact zg3 (m:=setField qL Ϙ9) (zgM hq hf #[] (zg3 (zg9 (zg3 (Òt (s:={ s with heap:=sN it _ }) new.typeIs ?_)))));show zD1 (a:=x.key) (zD1 #[_,rfl,zD1 (some' x e _ new (UN))])
 | none=>
  let#[hh,hQ]:=none' e;exact zg3 (zg3 (zgZ ty ϸ));exact zg3 (m:=setField qL 0 Ġ) (zgM hq hf #[] (Ím));ext ÃV;exact zg3 Ñe;exact zg3 Óg;show zD1 (hQ _ Υ0)
def again ē ā(hit:Úu it d i n ep) (h:Q qL s):Â ã (Lx qL) à:=by
 exact Ş5 f6 ÌO (zg8 ÌO f6 F.entry_dict_keyiterator_iter ?_ (F.args_dict_keyiterator_iter_1 _));change Â À (ret qL) Ϗ;show zD1 #[_,rfl,"dict_keyiterator",_,f6,ÉM,h]
end
end DI
namespace L2
open É Ü Î
def ĸ2 Ĥ (ep n:Nat):It:=
 #[λ i H=>i<n/\Ür,λ i H x H'=>H'=H/\∃ xs b,Je/\Ñk/\x=GS,λ i H=>n<=i/\Ür]
def Ľ3 Æ ġ Õ â fS{xs:Ţ9}(e:Je):
  Dn/\∃ o es,TZ/\W6/\ra/\Vd=(ŧ (·.2.1)).map ŉ:=by
 ext Çy
 exact#[z.2,o,es,h1,h2,h3,?_];rw[h4];simp![zD6];rfl
def ē0 Wf{ks:Ε}(h:Vd=M6 ŉ):ī=Àg:=by
 have:=É2 NJ h;ext uM
def ð4 Wf{ks:Ε}ý{x:QN}(h:Vd=M6 ŉ) (e:Pl=↑x):∃ b,ks[i]?=↑b/\x.key=GS:=by
 have h1:(Vd)[i]?=↑x.key:=by rw[zA3,zD3,e];rfl
 rw[h,zA3] at h1;let#[b,h2,h3]:=ų h1;show#[b,h2,h3.symm]
def č5 Ĝ Ù mK Ât (ep n:Nat):Turn R1 (ĸ2 a ep n) X6 (λ i h=>h.IsKeyIter it a i n ep) where
 mem:=#[]
 obj:=λ i h st b hb=>by
  ext Nl
  ext Wo
 keep:=λ i h h' st k=>let #[o,e,r]:=st;#[o,k ų9,r]
 item:=by
  ext ÃR;exact DI.drawn st g1 g3 (λ x e h' st' sb=>?_) λ e=>?_
  .let#[b,k1,k2]:=ð4 g4 e;ext Ι4;let#[o',e',c',d']:=id st';rw[l] at st';rw[k2];show#[_,rfl,cG (s:={ s with heap:=h' }) e' c' d' () #[GS,H,I1,rfl,#[rfl,xs,b,hq,k1,rfl],st',PZ]]
  .rw[Array.getElem?_eq_none_iff] at e;lia
 done:=by
  ext ÃR;exact DI.drawn st g1 g3 (λ x e=>?_) λ e=>#[I_,MC];have:=(KL e).1;lia
 self:=λ _ _ _ _ _ st h=>DI.again st h
section
variable {Æ}
def Ė6 Sg:TI:=fun σ H R=>te Û λ x H1=>∃ a ep xs,ż/\H1 a=↑ OG/\R (ĸ2 a ep å) H1
def È5 č uN mK EM:PI Lf (Ė6 te):=by
 ext Lq;exact zI WC De;let#[x,H1,I1,rx,a,ep,xs,ex,hq,q]:=z0;ext sJ;let#[far,o,es,g1,g2,g3,g4]:=Ľ3 I1 hq;have l:=áj (zA7 ..);exact DI.opened far g1 g2 g3 λ h' K up=>?_;rw[l] at K;show#[_,[Ϸ],_,_,H1,rfl,ξ7,č5 a _ ep _,K,λ b hb=>by cases Gq hb;show ţ8,q]
end
end L2
namespace L5
open É Ü L2 L3
open Î hiding St
section
variable {Æ}{e tg:Expr}{BL}
def Į4 uD:pO:=fun Y S R=>te Y S λ x S1=>∃ p ep l,FQ/\S1 p=↑ bA/\R #[Üs,λ S=>ϙ4] S1
def Ö2 Ù Ø r0 Ka(r:Lp):∀ Í {q:NK× Ė}τ,l[i]?=↑q->Ñk->mn Å b q.1:=by
 induction r with
 | nil=>intro i q b e;cases e
 | cons h1 t ih=>
  intro i q b e eb;cases i with
  | zero=>
   simp![zA6,zfJ,ZF] at e eb;subst e;subst eb;show h1.2.1
  | succ j=>show ih j e eb
theorem ý5 s_:zY Lf (Į4 te):=by
 exact#[fun Y S Q Q' hq z=>Ν é (λ x S1 #[p,ep,l,h1,h2,h3]=>#[p,ep,l,h1,h2,F7]) z,uZ (È5 LM) LU];ext ħ;exact ď Ν LG;let#[p,ep,l,rfl,h2,h3]:=h1;ext F4;let#[xs,g1,g2]:=p1 Jr;exact#[p,ep,xs,rfl,g1,h3 VT];let#[ys,k1,k2]:=x2 À hk;have l1:=Al g2;have l2:=Al k2;exact#[λ d hd=>#[Òu,TL],λ hl=>Òu]
 .have:=(Š hd).1;rw[zA7] at this;lia
 .let#[rfl,zs,b,z1,z2,rfl]:=q;rw[k1] at z1;cases z1;rw[zA3] at hd;let#[q,hq,rfl]:=ų hd;show#[IY,x2,(Ö2 k2 i hq z2).rep]
 .have hl:(EU _).length<=i:=hl;ext CE;lia
def f9 (k:NK):T:=ä [Ê k.1,ä (k.2.map HY)]
@[simp] def Zn Í:Τ:=fun J=>match ŕ with
 | some ↑ Ŧ9=>↑ ØB
 | _=>none
theorem é5 ß(k:NK):Sn S (f9 k) (lG k):=by
 simp![f9,lG];show mV (MQ (Vb) (MQ (mV (YT)) r9))
theorem ŋ4 ß:∀ (l:NL),zp S ØB (Üs)
 | []=>r9
 | q::l=>MQ (é5 q.1) (ŋ4 l)
def Ú2 Í:lY true (Zn i) (Į4 LH):=λ S Z Y J ts Q hE e hq=>by
 unfold Zn at e;ext ó
 .rename_i l h;cases e;ext Τ5;simp![Sn] at h2;let#[p,ep,rfl,h2]:=h2;ext Ϗ1;show#[p,ep,l,rfl,Ϻ8,hq BX (ŋ4 l) λ S'' s=>s Jr]
 .cases e
end
@[simp] def bh J5 G0:zEO:=fun J=>FU λ ys=>(F ys).bind λ y=>match y with
 | .dn l=>↑ Γ4
 | .zx=>↑.zx
 | _=>none
def Sn.ā4 ß KZ â(h:Sn ϟ y ě):¬ Z a:=by
 cases y with
 | lst ts=>
  ext Hf;let#[ds,h1,_]:=h;rcases h1 with ⟨h1,_⟩ | ⟨b,h1,h3⟩
  .cases h1
  .ext Ϯ0
 | zL ks ts=>ext Hf;let#[b,m,#[h1,_],h3,_]:=h;ext Ϯ0
 | dn l=>ext Hf;let#[b,ep,h1,h3]:=h;ext Ϯ0
 | tup ts=>ext Hf;let#[_,h,_]:=h;cases h
 | _=>ext Hf;cases h
theorem l6.ō5 ß Đ2 â(z:Z a):∀ Ą è,l6 S Z uY->WV ∈ds->∀ ep l,S a≠↑ bA
 | [],ds,h,m=>by cases h;show nomatch m
 | ŗ,ds,h,m=>by
  ext Us;intro ep l;rcases Ş m with e | m
  .subst e;rcases h1 with h1 | ⟨_,_,_,_,e,h1,_⟩ | ⟨_,_,_,_,_,e,h1,_⟩
   .show ò z (Sn.ā4 h1)
   ext áv
   ext áv
  .show l6.ō5 z h2 m ep l
def Ę2 ğ [Sr R] JI SG Ž6:xY (bh F g) ϲ6:=λ S Z Y J y Q hE e hq=>by
 ext Ω6;exact Ŭ1;exact ÂY;have r:=Sr.sn r;split at e3
 .cases e3;ext Ϸ0;let#[a,ep,rfl,q]:=r;let#[nz,q]:=p_ q;exact BG Hl ?_;ext vL;exact#[a,ep,rfl,?_];rw[o9]
  .show q
  .intro z;exact nz #[z,λ m=>?_];cases hq1:S1 a with
   | none=>show Su a z hq1
   | some o=>
    have:=s a o hq1;rw[q] at this;cases this;show r1.ō5 z m ep _ hq1
 .cases e3;show BG Hl (by simp![Sn] at r ⊢;show r)
 .cases e3
end L5
namespace L5
open É Ü L2 L3
open Î hiding St
def Cm rm Į (t:V):Prop:=ÔW
def Hs (_:ο7):Prop:=True
def č6 (s:KU) (n:þ):Bool:=s.names.all (λ y=>!(Èo)||y.1 == ".0"||n.elem y.1)&&(s.names.filter λ y=>Èo).length == n.length+1
def Ŋ6 (_:þ) (_:GU):Prop:=True
section
variable {n:þ}{p:GU}{x:þ × GU}{r:ο7}
def Hs.a (_:Hs ((n,p)::r)):Ŋ6 n p:=ϖ
def Hs.b (_:Hs (x::(n,p)::r)):Ŋ6 n p:=ϖ
end
section
variable {Æ}{N' N:þ}{Ed}{Ĺ esc:KU}{tg iter elt:Expr}{ifs:sv}{ũ6}{tcc:xn}{BL}{Ć}
def pl ËT (Sc:sG) (_:áS) Ãc ę XE:
  PD X AU yj:=č1 Ãt hs
def vv Gm į{t:oH}(h:eO X Kk t) ę (hn:(BB Kk Ö).length=2) (hst:(BB Kk Ö).findIdx? ĉ=none):mQ X (Qz Kk k pos) (ň7 2 t):=ÞL
def vt {a b c:Expr}į{t:oH}(h:eO X qw t) ę (hn:(BB qw Ö).length=3) (hst:(BB qw Ö).findIdx? ĉ=none):mQ X (Qz qw k pos) (ň7 3 t):=ÞL
def Ä3 Ζ4(h:Cm X.mg x eg) ϔ5 ud:ÛW:=let #[_,a,b]:=h;Æ9 a b hg hd
def ó8 ô{n:Int}(h:Cm X.mg x V8) ϔ5 ud:ÛX:=let #[_,a,b]:=h;Ý0 a b hg hd
def ĵ2 ý ό1 ËT (hn:X.N.Nodup) (Sc:sG)
  (hsw:Ρ8) (_:áS)
  Ãc ę Ψ0
  (hfn:ο4) XE:
  Ôm:=Ð3 Ãt hn ßc
end
abbrev Ļ4 Gp È Rb tW Į K2 Ŕ pD (Φ:Cx->Prop):Prop:=
 ∀ Ā6 u9 ϧ,Hs hs->yO->(bZ).wN.N=N->ÏG->Êk->Φ (bZ).wN
abbrev Ŕ5 (x q:Str) K2 Fy:Prop:=∀ fw,Pb->S7 (Eh x q Qn ct) UL=T2
def ā2 {x q:Str}v7 F_(h:Ŕ5 x q st ps:=by ext Äu):Ŕ5 x q st ps:=h
section
variable {Ĝ}{Ù}{EG}{ô}{v7}{R8}{ğ}{AP}
def yn pD (F:ϣ8)
  (Ţ:Ļ4 ķ N x st Ëb)
  χ1
  (hb:Ŕ5 x x st ps:=by show ā2):ϩ5:=
 ä3 Η6 hb Λ3
def ľ0 {m qual:Str}pD (F:Ų6)
  (Ţ:Ļ4 ķ N UJ Ëb)
  χ1
  (hb:ϔ1:=by ext Äu):gS ķ m Μ7:=
 Ė5 Η6 hb Λ3
def é2 Ř3 ÓJ pD (F:Fk K τ6 st) (he:Ñi)
  (Ţ:∀ Ā6 u9 ϧ,Hs hs->yO->(Μ3).wN.N=N->(Μ3).wN.env.scope=yp st->ÂH)
  (Sc:oM N Um qM:=by show e9) (hb:ág:=by intro _ _ _ _ _ _;show ğ8 ϴ4):ÇT:=
 Ö5 F Sc hb he Λ3
def Ù3 Dz pD (F:Š3)
  (Ţ:∀ U7 u9 ϧ,Hs hs->yO->(bZ).wN.N=N->ÏG->Θ1)
  χ1:Çf:=
 ŋ6 Η6 λ cdv A ı s H E hr=>Ţ ZQ ßl
end
end L5
namespace z_
open É L2 L3 L5
abbrev į9:Sm:=
 (retS (vm (Ei "int" ö) (Ĥ1 (Ei "bool" ö))))
def bG:zLO:=zW Pn į9
abbrev bp:zEO:=
 xb áQ (xt kL (za ö (za (nX ö SH) ze))) qD xA (zc wg ö Ģ)
abbrev Ĵ7:Sm:=
 (retS (zl Fv (za bp ze)))
def gQ:zLO:=zW ϭ0 Ĵ7
abbrev zcy:Sm:=
 (retS (vm ÞM (zc xf ö (tupS Τ4))))
def Ř5:zLO:=zW Pn zcy
abbrev Ĭ6:Sm:=
 (retS (zl xS Fe))
def eU:zLO:=zW Àm 1 Ĭ6
abbrev Ľ8:Sm:=
 (retS (vm (zc fZ Ϝ JD) (zc fZ uL EH)))
def bK:zLO:=zW ["pair","other"] 2 Ľ8
abbrev ĵ9:Sm:=
 (yw (wQ (wD (xq Ģ)) (zV (zc wg ϫ4 (zc zi ÕQ ü)))) (pB 1 IJ) y6)
abbrev zck:Sm:=
 (zw ϴ5
 (zw (x_ [2] (xi (zl fh WE)) Ul ĵ9)
 (retS (zl kh Jm))))
def eV:zLO:=zW ["pairs","least","pair"] 1 zck
abbrev ĭ8:Sm:=
 (zw (pB 4 (kz (zV (zc ń ũ Ċ)) Åc (tupS (za (zr 6) (za UW ze)))))
 (zw (yd 5 (zc ye Ϥ VZ))
 (yd 6 (zl fA (za Ċ (za (zc qX JV (zc AL Ij)) ze))))))
abbrev zci:Sm:=
 (zw (yd 3 EH)
 (zw ϴ6
 (zw (yd 5 (zc Bz ũ))
 (zw (yd 6 (zc Bz (zc qX ü ũ)))
 (zw (Ņ9 1000000 [] (zV (zc mB Ϥ (zc zi ö ũ))) ĭ8)
 (iU 4))))))
def Ÿ4:zLO:=zW ["brims","stall","pair","purse","pairs","given","got"] 3 zci
abbrev ġ7:Sm:=
 (zw (yd 3 (nX Ť5 ↑ Θ none))
 (zw (yd 4 (zc ye JD Ť6))
 (zw (yd 5 (zc ye EH Ϙ0))
 (zw (yw (wQ ÔC (zV (zc wg Ϥ Ċ))) Nz)
 (retS (tupS (za (zl m8 (za Ŷ Wt)) (za (zl m8 (za Ϥ Y_)) ze))))))))
def Ź7:zLO:=zW ["floor","pair","way","coins","first","second"] 3 ġ7
abbrev zb9:Sm:=
 (retS (zc ye (zc ye (zc ye (zc ye (zc ye (zc ye ϋ8 ák) (zl y9 Fe)) v5) (zl y9 ų0)) v5) (zl y9 ϫ5)))
def ņ4:zLO:=zW ["way"] 1 zb9
abbrev zca:Sm:=
 (retS (zc ye (zc ye (zc ye (zc ye (zc ye (zc ye (zc ye ÕR ϋ8) v5) (zc zi ϑ6 uL)) v5) (zl y9 ų0)) v5) (zl y9 ϫ5)))
def ř9:zLO:=zW ["stall"] 1 zca
abbrev Ś1:Sm:=
 (yw (zV (zc ń ö (zl y9 Jm))) N0 y6)
abbrev į0:Sm:=
 (zw (yw (zV (zc xf ö ϑ6)) (retS (zc cA ϑ6 ö)) y6)
 (zw (x_ [1] (xt dA (za (jH fW) (za (zc ye fW ü) ze))) (zC 1) Ś1)
 VI))
def Ye:zLO:=zW ["word","number"] 1 į0
abbrev ĩ3:zEO:=
 xb vz (ĳ1 ö) Ýb
abbrev zcB:Sm:=
 (retS (vm (gC mB mB ü Ag ϔ) (zl Fv (za ĩ3 ze))))
def Yn:zLO:=zW ["word","signs","most"] 3 zcB
abbrev zcb:Sm:=
 (retS (zc ye (zc ye ϋ8 ϝ6) (zl y9 Fe)))
def Α9:zLO:=zW ["pair"] 1 zcb
abbrev zcc:Sm:=
 (retS (kz (zV (zc Hb ö Ϻ)) (cS (Ì "-")) ŝ3))
def Ŗ3:zLO:=zW ["count"] 1 zcc
abbrev zcq:Sm:=
 (zw (yd 2 Ċ)
 (zw (yw ÔD (yd 2 (zc ßm (zc dG Θ Ε3))) y6)
 (retS (zc vi (zc xR (zc ye (zc ye (zc ve ϔ (cI 46337)) (zc ve (zc ve (cI 2741) Ģ) Ģ)) (zc ve (cI 59) Ģ)) (cI 2147483629)) Θ))))
def gO:zLO:=zW ["_law_script","_law_k","_law_cell"] 2 zcq
abbrev Ū7:Sm:=
 (zw (yw (ij (zV (zc ń (zc AL ũ) Qi)) (zV (zc ń (zc xR ö Θ) ü))) (pB 2 (tupS (za DD (za (zc xR (zc vi ö Θ) Θ) (za (zc ye ü (zc xR (zc vi ö QU) fW)) (za (zc xR (zc vi ö (cI 48)) (cI 13)) ze)))))) y6)
 (yd 0 (zc vi ö (cI 624))))
abbrev zco:Sm:=
 (zw (vk 2 Dp)
 (zw (x_ [3] (xt wI (za ŭ1 ze)) (zC 3) Ū7)
 (retS (zl kh Sf))))
def œ6:zLO:=zW ["_law_cell","_law_owners","_law_found","_law_place"] 2 zco
abbrev ĥ6:Sm:=
 (zw (yd 3 (zc ye JD (zc zi Ť5 Θ)))
 (zw (yd 4 (zc ye EH (zc zi Ť5 Ij)))
 (zw (yw (wQ (zV (zc wg ũ Ċ)) ÔC) Nz)
 (retS (tupS (za (zl m8 (za ũ Wt)) (za (zl m8 (za Ŷ Y_)) ze)))))))
def Ō7:zLO:=zW ["_law_floor_here","_law_pair","_law_way","_law_first","_law_second"] 3 ĥ6
abbrev į2:zEO:=
 xb vz Ž1 Be (zV (zc ń Ϝ Ģ)) ģ
abbrev Ĥ8:Sm:=
 (zw (yw (wQ (zV (zc ń Ϥ Dp)) (zV (zc wg (zc Hw (zc OB ü)) (zc OB Θ)))) Nz)
 (zw (yd 7 (zc OB ü))
 (zw (hJ 4 Ll (zc qX (zc Hw Ll) (zc OB Θ)))
 (hJ 4 Ϙ1 (zl m8 (za (zc ye (zc Hw Ϙ1) (zc OB Ij)) (za (zc zi Ϝ Ϙ1) ze)))))))
abbrev Ł8:Sm:=
 (zw (vk 4 (zl Kq Sf))
 (zw (yd 5 į2)
 (zw (x_ [6,7] (xt wI (za (zl m8 (za ũ Üt)) ze)) vb Ĥ8)
 (retS (tupS (za (zc Hw Ċ) Ñl))))))
def Yl:zLO:=zW ["_law_floor_here","_law_place","_law_pair","_law_times","_law_held_here","_law_stalls_here","_law_k","_law_purse"] 4 Ł8
abbrev ZM:Sm:=
 (pB 1 (zc ye (zc ye (zc ye (zc ye (zc ye (zc ye (zl y9 (za FG ze)) ák) (zl y9 (za ϫ4 ze))) v5) (zl y9 (za (zc Bz Θ) ze))) v5) (zl y9 (za (zc Bz Ij) ze))))
abbrev ZJ:Sm:=
 (pB 1 (xF mh v5 (za (xc (za (cS (Ì "stall")) (za (zl y9 (za Ť6 ze)) (za (zc zi (cS (Ì "ab")) Ϙ0) (za (zl y9 (za (zc Vz Θ) ze)) (za (zl y9 (za (zc Vz Ij) ze)) ze)))))) ze)))
abbrev ĸ4:Sm:=
 (zw (vk 1 (zc ye Ãl (zl Kq Fe)))
 (zw (x_ [2] (xi HC) Ul ZM)
 (zw (x_ [3] Ž1 (zC 3) ZJ)
 Êl)))
def ń9:zLO:=zW ["_law_floor_here","_law_parts","_law_way","_law_stall"] 1 ĸ4
abbrev ĸ3:Sm:=
 (zw (ae (xF dP ϔ (za ϝ6 ze)) (qW 3 (xg (zC 3) (xg OM (xg (zC 5) pJ)))))
 (pB 1 (tupS (za (zl ky ŭ2) (za (zl ky Pp) ze)))))
abbrev zcu:Sm:=
 (zw (yw Êm (retS Dp) y6)
 (zw ϴ5
 (zw (x_ [2,3,4,5] (xi χ0) Ul ĸ3)
 (iU 1))))
def eW:zLO:=zW ["_law_text_here","_law_found","_law_word","_law_first","_law_sign","_law_second"] 1 zcu
abbrev į4:zEO:=
 xb Óo (xi ö) qD xA (vm (zc fZ FG ö) (zc fZ ϫ4 Ģ))
abbrev zcs:Sm:=
 (retS (zl (mN ϻ2) (za į4 ze)))
def Œ0:zLO:=zW ["_law_border_here","_law_pair"] 2 zcs
abbrev ī3:Sm:=
 (retS (vm (zl bG BP) (gC mB mB Ģ ö ϔ)))
def gP:zLO:=zW ["thing","least","most"] 3 ī3
abbrev ń2:zEO:=
 xb OW (zl Ř5 BP)
abbrev zcP:Sm:=
 (zw (yw (wQ Ψ5 (wD (zV (gC mB mB ü Ag (cI 8))))) uh)
 (retS (zl Fv (za ń2 ze))))
def Ys:zLO:=zW Pn zcP
abbrev ZG:zEO:=
 xb vz Xn Óp
abbrev ĩ7:Sm:=
 (retS (zl (mN ϻ2) (za ZG ze)))
def bH:zLO:=zW ["border","pair"] 2 ĩ7
abbrev ģ9:zEO:=
 xb OW (tupS (za Ϝ (za Ċ Fe)))
abbrev Į5:zEO:=
 xb Rf (xi Ģ) GC (tupS (za Ϝ (za ü Fe)))
abbrev ī2:Sm:=
 (zw (Ő9 3 JV (zl m8 (za Ll (za (ŕ7 3 JV (zr 7)) ze))))
 (yw (zV (zc ń (Z7 3) Θ)) (pB 4 (tupS (za UW (za (zl fA (za (cV 3 Ċ) (za (cV 3 ü) ze))) ze)))) y6))
abbrev zcG:Sm:=
 (zw (yd 2 (zc ye ģ9 Į5))
 (zw (Ĥ4 3)
 (zw ϴ6
 (zw (x_ [5,6,7] (xi (zl fh Sf)) Çj ī2)
 ÎX))))
def Yq:zLO:=zW ["border","other","steps","lows","shared","first","side","second"] 2 zcG
abbrev Ĩ7:Sm:=
 (retS (zl eV (za (zc ye (zl Kq WE) (zl Kq Jm)) ze)))
def bI:zLO:=zW ["border","other"] 2 Ĩ7
abbrev ů4:zEO:=
 xb vz (xi ϔ) GC (tupS (za (zl fA (za Ċ (za (zc qX Ϝ VZ) ze))) (za (zl fA (za Ċ (za (zc qX uL (zc AL Ij)) ze))) ze)))
abbrev zay:zEO:=
 xb áT (xi ũ) Be (xq Óp) ģ
abbrev zcK:Sm:=
 (zw (yd 3 ů4)
 (retS (zl eV (za zay ze))))
def ŵ0:zLO:=zW ["brims","way","border","pairs"] 3 zcK
abbrev œ2:zEO:=
 xb Rf (xi HC) GC (zl ņ4 BP)
abbrev Γ5:zEO:=
 xb Rf Ž1 GC (zl ř9 BP)
abbrev ł3:Sm:=
 (zw (vk 1 Ãl)
 (zw (cM 1 uL)
 (zw (jl 1 œ2)
 (zw (jl 1 Γ5)
 Êl))))
def bD:zLO:=zW ["floor","parts"] 1 ł3
abbrev ğ0:zEO:=
 xb OW (zl Ye BP)
abbrev zcf:Sm:=
 (retS (zl kh (za ğ0 ze)))
def gM:zLO:=zW ["words"] 1 zcf
abbrev zcA:Sm:=
 (retS (vm (zl Yn (za ģ (za (cS (Ì "0123456789")) (za QU ze)))) (aU (zc ń ö ál) (zc Ko Ϝ ál))))
def Ym:zLO:=zW ["word"] 1 zcA
abbrev Ļ9:zEO:=
 xb OW (zl Α9 BP)
abbrev zcd:Sm:=
 (retS (kz (xq ö) (xF mh v5 (za Ļ9 ze)) Úv))
def Ŏ2:zLO:=zW ["border"] 1 zcd
abbrev Ŕ4:Sm:=
 (zw (yd 7 (zl gO (za ģ (za (zc ye Ģ JV) ze))))
 (zw (yd 8 (zc xR Ll ϔ))
 (zw (yw (zV (zc wg JV ϔ)) (yd 8 (zr 6)) y6)
 (zw (vk 9 (xc (za (zc qX (zc xR (zc We Ε3) Îh) Ŷ) (za (zc qX (zc xR (zc We (cI 2048)) Îh) Ŷ) ze))))
 (zw (yw (zV (zc ń (zc xR (zc We (cI 65536)) (cI 5)) Ċ)) (hJ 9 (zc xR (zc We (cI 327680)) Θ) Ċ) y6)
 (pB 5 (tupS (za (zr 8) (za (zc xR (zc We (cI 8)) ϔ) (za (zc zi V0 Ċ) (za (zc zi V0 ü) ze)))))))))))
abbrev zcm:Sm:=
 (zw (vk 5 Dp)
 (zw (x_ [6,7,8,9] (xt wI (za (zc ye ϔ ũ) ze)) vb Ŕ4)
 (retS (zl kh (za (zl fg Pp) ze)))))
def Ŕ6:zLO:=zW ["_law_script","_law_at","_law_many","_law_more","_law_span","_law_found","_law_k","_law_number","_law_start","_law_coins"] 5 zcm
abbrev zcp:Sm:=
 (zw (yw (ij Âh ÔD) (retS (zc ßm (zc dG (cI 10) Ε3))) y6)
 (zw (yd 3 (zl gO sY))
 (retS (zc ye (zc ve (zc ve ũ ũ) ũ) (zc ve (cI 104729) ũ)))))
def Ť4:zLO:=zW ["_law_script","_law_at","_law_digits","_law_mixed_here"] 3 zcp
abbrev ŀ4:zEO:=
 xb Rf (xt wI (za (cI 13) ze)) GC ŝ3
abbrev Ĳ5:Sm:=
 (zw (ae (xF dP Ŷ (za ϝ6 ze)) Çj)
 (yw (wQ (zV (zc ŭ7 Ϥ ũ)) Òv) uh))
abbrev Ĝ2:Sm:=
 (zw (yw (wQ (zV (zc ő2 V0 JD)) (wQ (zV (zc ő2 (zb 10) EH)) (wQ (zV (zc mB V0 (zc zi Xw Ċ))) (zV (zc fZ (zb 10) (zc zi Xw ü)))))) uh)
 (yd 8 (tupS (za (zr 9) (za (zr 10) ze)))))
abbrev zcr:Sm:=
 (zw (yw Êm Ş6 y6)
 (zw (yd 2 χ0)
 (zw (yd 3 ŀ4)
 (zw (x_ Üu (xi IJ) OM Ĳ5)
 (zw (yd 8 (tupS (za (zc qX Ċ ü) (za (cI 99) ze))))
 (zw (x_ [9,10] (xi (zl eW BP)) (qW 2 (xg (zC 9) (xg (zC 10) pJ))) Ĝ2)
 Ş6))))))
def ŝ8:zLO:=zW ["_law_text_here","_law_brims","_law_pairs","_law_known","_law_word","_law_first","_law_sign","_law_second","_law_ahead","_law_x","_law_y"] 2 zcr
abbrev ŉ7:Sm:=
 (zw (yd 4 (zl Ō7 (za ģ (za IJ ŭ3))))
 (zw (yw Òw (retS Ċ) y6)
 (retS (iZ 1 (tupS (za (zc zi (zc zi HC ũ) ü) uC))))))
def Yj:zLO:=zW ["_law_floor_here","_law_steps","_law_pair","_law_way","_law_behind"] 4 ŉ7
abbrev bo:zEO:=
 xb ÉB (zl gP (za ģ (za JD (za EH ze))))
abbrev ĳ6:Sm:=
 (zw (yw (wQ Ψ5 (zV (zc Ko Ag ŭ1))) uh)
 (retS (zl Fv (za bo ze))))
def i8:zLO:=zW Óq 2 ĳ6
abbrev zcE:Sm:=
 (yw (wD (xq (zl gP (za CR (za Ċ (za (zc qX ϫ6 ü) ze)))))) JW)
def iB:zLO:=zW ÔE 2 zcE
abbrev İ2:Sm:=
 (yd 1 (zl bI Mx))
abbrev zcI:Sm:=
 (zw (yd 1 (tupS ze))
 (zw (x_ áN İ2)
 N0))
def ő9:zLO:=zW Ên 1 zcI
abbrev Ļ0:Sm:=
 (yd 1 (zl Yq Mx))
abbrev zcJ:Sm:=
 (zw (yd 1 Èp)
 (zw (x_ áN Ļ0)
 N0))
def Ŝ3:zLO:=zW Ên 1 zcJ
abbrev ń3:Sm:=
 (yw (wD (xq (zl bH (za (zc Hw Ģ) Cq)))) (retS DD) y6)
abbrev zcD:Sm:=
 (zw (x_ [3,4] (xt ig BP) (qW 2 (xg (zC 3) (xg OM pJ))) ń3)
 VI)
def Yo:zLO:=zW ["told","place","pair","number","held"] 3 zcD
abbrev zcl:Sm:=
 (zw (yd 4 (zl Ź7 (za ģ Mx)))
 (retS (vm (zc ŷ4 Ŷ Ϻ) (zl bH (za (zc Vz (zc zi Ť5 ü)) uC)))))
def Ś4:zLO:=zW ["floor","pair","way","held","behind"] 4 zcl
abbrev bu:Sm:=
 (yw (zV (zc xf Ŷ (tupS Τ4))) (pB 1 Ba) (yw (xq (xF gY Ŷ (za ÕR ze))) (pB 3 (zl gM (za (nX (xF oO Ŷ ų1) SH) ze))) (pB 2 (zl gM (za (xF oO (Ō6 ">" " " Ŷ) ų1) ze)))))
abbrev ĸ5:Sm:=
 (zw ϴ5
 (zw (vk 2 Dp)
 (zw (vk 3 Dp)
 (zw (x_ [4] (xi (nX ö SH)) OM bu)
 (zw (yd 5 (zl gM (za (nX (xF oO Ϝ ų1) SH) ze)))
 (retS (tupS (za UW (za (zl kh Jm) (za (zl kh Sf) (za (zl kh ŭ2) ze)))))))))))
def Yf:zLO:=zW ["parts","owners","ways","stalls","part","brims"] 1 ĸ5
abbrev zcz:Sm:=
 (zw (yw (zV (zc ń Ģ (cS (Ì "text")))) Ş6 y6)
 (zw (yw (zV (zc ń Ģ ÕS)) (retS (zl Ym BP)) y6)
 (retS (zl Yn (za ģ (za (cS (Ì "abcdefghijklmnopqrstuvwxyz")) (za (cI 8) ze)))))))
def i9:zLO:=zW ["word","form"] 2 zcz
abbrev Ő5:Sm:=
 (pB 6 (zc zi (xc Τ4) (zc Ŕ2 (zc ů7 Ϥ Ll) ü)))
abbrev zct:Sm:=
 (zw (yd 5 (zl gO sY))
 (zw (vk 6 Dp)
 (zw (x_ [7] ÚW Ő5)
 (zw (yd 8 (zc zi (xc (za ü (za Θ (za Ij Xr)))) (zc xR (zc vi Ϥ (cI 256)) QU)))
 (zw (yd 9 (tupS ze))
 (zw (yw (zV (zc ń (zc xR (zc vi Ϥ (cI 1024)) Ij) ü)) (œ7 6 (yd 9 (zl œ6 (za (zl Ť4 (za ģ (za (zc ye Ģ ü) (za (zc ń (zc xR (zc vi Ϥ (cI 3072)) Θ) ü) ze)))) Ϙ2)))) y6)
 (retS (tupS (za DD (za (zl kh (za JV ze)) (za (zl Ŕ6 (za ģ (za (zc ye Ģ Θ) (za IJ (za Ba ÞN))))) Ϙ3)))))))))))
def Yk:zLO:=zW ["_law_script","_law_at","_law_many","_law_brims","_law_more","_law_number","_law_owners","_law_place","_law_span","_law_stalls_here"] 5 zct
abbrev Ĭ7:zEO:=
 xb ÓL (xt wI (za (zl xS ų0) ze)) Åx ģ
abbrev Ķ3:zEO:=
 xb [none,↑0,↑1,↑7] (xi Ŷ) GC (zl Yj (za CR (za IJ (za DD BP))))
abbrev Ł5:Sm:=
 (zw (yd 7 (zl Yl (za ģ (za IJ (za DD Ϙ2)))))
 (yw (zV (zc ŷ4 Ll Ϻ)) (jl 5 Ķ3) y6))
abbrev zcv:Sm:=
 (zw (yd 4 Ĭ7)
 (zw (vk 5 Dp)
 (zw (x_ [6,7] (xt wI Üt) vb Ł5)
 (iU 5))))
def ŉ0:zLO:=zW ["_law_floor_here","_law_steps","_law_place","_law_pair","_law_some","_law_found","_law_times","_law_held_here"] 4 zcv
abbrev zcU:Sm:=
 (zw (yw (zV (zc ń ϔ ÕS)) (retS (zl ky Jm)) y6)
 (zw (yw (zV (zc Ko ϔ ØC)) N0 y6)
 (zw (yw (Ř7 0 1) JW)
 (retS (ņ6 0 1)))))
def iC:zLO:=zW ["self","word","form"] 3 zcU
abbrev ŀ0:zEO:=
 xb vz Xn (zl i8 sY)
abbrev zcO:Sm:=
 (retS (vm Úw (zl Fv (za ŀ0 ze))))
def Yr:zLO:=zW Óq 2 zcO
abbrev zcR:Sm:=
 (retS (zl i8 (za ģ (za (tupS (za ϋ9 (za ϋ9 ze))) ze))))
def ŗ3:zLO:=zW Pn zcR
abbrev zcF:Sm:=
 (yw (wD (xq (zl i8 (za CR (za (tupS (za (tupS (za Ċ Wt)) (za (tupS (za Ċ Y_)) ze))) ze))))) JW)
def ŏ0:zLO:=zW ["floor","pair"] 2 zcF
abbrev zaz:zEO:=
 xb Óo (xt ig ų0) qD (zV (zc ń JD ϔ)) ģ
abbrev zb5:Sm:=
 (zw Ţ6
 (retS zaz))
def ŏ9:zLO:=zW ÔE 2 zb5
abbrev ZK:Sm:=
 (yw (zV (zc ń FG Ģ)) ϴ7 y6)
abbrev zb8:Sm:=
 (zw Ţ6
 (zw (x_ [2] Ž1 Ul ZK)
 VI))
def Ņ1:zLO:=zW ["floor","place","stall"] 2 zb8
abbrev ī0:zEO:=
 xb ÉB (zl i9 sY)
abbrev zcQ:Sm:=
 (retS (vm (zc ń Ag ŭ1) (zl Fv (za ī0 ze))))
def Ņ5:zLO:=zW ["words","forms"] 2 zcQ
abbrev zaC:zEO:=
 xb OW Ϝ
abbrev ł8:zEO:=
 xb [none,↑4] (xt wI Jm) Ýb
abbrev zcM:Sm:=
 (zw (yd 2 (tupS (za Ċ (za (zc qX Ģ ü) ze))))
 (zw (yd 3 (tupS (za (jH fW) Xr)))
 (zw (yw (wD (xq (zl Yr (za ģ (za (tupS (za IJ (za IJ (za DD ŭ3)))) ze))))) uh)
 (zw (yd 4 zaC)
 (retS (vm (zc mB Ag (cI 24)) (vm (zl gQ BP) (zl Fv (za ł8 ze)))))))))
def ő3:zLO:=zW ["thing","places","place","coins","starts"] 2 zcM
abbrev zaD:zEO:=
 xb OW Ϝ
abbrev ĺ2:zEO:=
 xb vz Xn (zc ń (zc AL Ϝ) Qi)
abbrev zcN:Sm:=
 (zw (yd 2 (tupS (za Ċ (za (zc qX ŭ1 ü) ze))))
 (zw (yw (wD (xq (zl Yr (za ģ (za (tupS (za IJ (za (tupS (za Ċ (za ü ze))) (za (tupS (za ü Xr)) (za ϋ9 ze))))) ze))))) uh)
 (retS (vm (zl gQ (za zaD ze)) (zl Fv (za ĺ2 ze))))))
def Ő3:zLO:=zW ["thing","owners","place"] 2 zcN
abbrev Ĩ1:Sm:=
 (jl 4 (zl Ÿ4 (za Ϝ (za DD (za UW ze)))))
abbrev zcL:Sm:=
 (zw (yd 3 (zl Ņ1 sY))
 (zw (yw (zV (zc Hb ũ Ϻ)) ϴ7 y6)
 (zw ϴ6
 (zw (x_ [5] (xi IJ) (zC 5) Ĩ1)
 ÎX))))
def Ŵ0:zLO:=zW ["floor","place","border","stall","pairs","pair"] 3 zcL
abbrev Ń5:zEO:=
 xb [none,↑0,↑2,↑3,↑4] Üv Be (wD (xq (zl Ś4 (za CR (za IJ (za ģ (za (zc Vz (zc qX Ŷ ü)) ze))))))) ģ
abbrev zb6:Sm:=
 (zw (yd 4 (zl Yo (za DD Mx)))
 (zw (yw Òw Nz)
 (retS (zc zi Ń5 Ċ))))
def Ŏ8:zLO:=zW ["floor","place","pair","told","steps"] 4 zb6
abbrev mG:Ο7:=[("floor",["name","text"]),("show",Àm),("mirror",["name","floor"]),("border",Ór),("lasts",V_),("deed",V_),("way",V_),("alone",Ór),("cheapest",V_),("brims",["floor","number","number"]),("compare",["floor","floor"])]
abbrev zcg:Sm:=
 (zw ÈX
 (zw (yd 1 (kz (xq (xF gY ö (za (cS (Ì "floor ")) ze))) (xF ao ö (za v5 (za Θ ze))) χ0))
 (zw (yw (wQ (Ŭ0 (mG.map ĉ) JD) (wD (xq (zl Ņ5 (za (nX Ģ SH) (za (aa mG JD) ze)))))) JW)
 N0)))
def gN:zLO:=zW ["row","words"] 1 zcg
abbrev zcC:Sm:=
 (zw (yw (wQ Ψ5 (zV (zc Ko Ag QU))) uh)
 (zw (yw (wQ (wD (xq (zl ŗ3 ϴ8))) (wD (xq (zl Ys Fe)))) uh)
 (retS (vm (zl ő3 (za HC (za (zl xS Fe) ze))) (zl Ő3 (za Κ6 Fe))))))
def eX:zLO:=zW Pn zcC
abbrev Ħ7:zEO:=
 xb áT Üv GC ÞO
abbrev ľ5:zEO:=
 xb ÓL (xi ũ) GC (zl ŵ0 (za JD (za ģ (za (zc Bz uL) ze))))
abbrev Ġ7:Sm:=
 (zw (yd 3 Ħ7)
 (zw (yd 4 ľ5)
 (zw (yw Ëv (retS (zl Ŵ0 (za ģ (za CR (za (zl ő9 uC) ze))))) y6)
 (retS (zl Ŝ3 uC)))))
def Œ9:zLO:=zW ["floor","place","last","ways","ahead"] 3 Ġ7
abbrev ģ0:zEO:=
 xb [none,↑2] (xi HC) Be (zV (zc xf uL Ģ)) Ϝ
abbrev ĭ3:Sm:=
 (hJ 3 Ŷ (zl Œ9 (za ģ (za Ba MU))))
abbrev zcj:Sm:=
 (zw (vk 3 (zl Kq Jm))
 (zw (x_ [4] (xi (zl fg (za ģ0 ze))) OM ĭ3)
 (iU 3)))
def œ1:zLO:=zW ["floor","last","fresh","following","place"] 3 zcj
abbrev zch:Sm:=
 (zw ÈX
 (zw (yd 1 (zl Yf (za (xF oO ö (za ÞP ze)) ze)))
 (zw (yw (wQ (wD (xq (zl eX MU))) (zV (zc Ko (zl bD MU) ö))) JW)
 N0)))
def bE:zLO:=zW ["text","floor"] 1 zch
abbrev Ķ4:zEO:=
 xb [none,none,↑3] (xt ig (za Ŷ ze)) qD (zV (zc Ko Ģ (zc Bz ö))) ģ
abbrev Ź4:Sm:=
 (zw (yd 3 ÕQ)
 (zw (yd 4 (zl œ1 (za ģ (za DD Cq))))
 (zw (yd 2 Ķ4)
 (yw Âh (pB 1 Ba) y6))))
abbrev zce:Sm:=
 (zw (vk 1 (xc (za (zc ve (xc (za Èp ze)) ϫ6) ze)))
 (zw (yd 2 (zl Zh (za ϫ6 ze)))
 (zw (Ņ9 1000000 [3,4] Âh Ź4)
 (iU 1))))
def ka:zLO:=zW ["floor","told","fresh","last","following"] 1 zce
abbrev zcx:Sm:=
 (zw Ţ6
 (zw ÏH
 (retS (zl Yo (za ϫ7 Mx)))))
def ŗ2:zLO:=zW ÌP 3 zcx
abbrev zcH:Sm:=
 (retS (zc zi ϫ7 (jH ü)))
def Ō9:zLO:=zW Àm 1 zcH
abbrev zb7:Sm:=
 (zw Ţ6
 (zw ÏH
 (zw (yw Ëv Nz)
 (retS (zl Ŏ8 (za ģ (za CR (za IJ (za ϫ7 ze)))))))))
def ř2:zLO:=zW ÌP 3 zb7
abbrev zcT:Sm:=
 (zw (jm (zl iB (za Ϝ Fe)))
 (retS (zl Ŏ2 (za (zc zi (zl Ō9 ϴ8) uL) ze))))
def bN:zLO:=zW ϭ0 zcT
abbrev Ĝ1:Sm:=
 (zw (yd 1 (zl ŗ2 Ær))
 (retS (kz (zV (zc Hb Ģ Ϻ)) Úx (zl y9 Jm))))
def bM:zLO:=zW ["things","steps"] 1 Ĝ1
abbrev zcS:Sm:=
 (retS (zl Ŗ3 (za (zl ř2 Ær) ze)))
def bL:zLO:=zW ϭ0 zcS
abbrev Ÿ5:ku:=[("border",bN),("lasts",bM),("way",bL)]
abbrev Ś3:zEO:=
 xb [none,none,↑0] (xt kL (za (nX ϔ SH) (za (aa mG FG) ze))) qD xA (ju (kC iC) (za ϔ (za ö Jm)))
abbrev zcV:Sm:=
 (zw (yd 2 (zl gN MU))
 (zw (yd 3 Ś3)
 (zw (yw ÉN JW)
 (zw (yw (zV (zc ń FG (cS (Ì "mirror")))) JW)
 (retS (Œ1 Ÿ5 FG ŭ3))))))
def nR:zLO:=zW ÈY 2 zcV
def Ŕ9:KF:=kT ÈY (zl gN MU) Ś3 ÉN (za Ť6 (za (zl bE (za Ϙ0 ze)) ze))
abbrev ŀ7:zEO:=
 xb Rf (xt dA (za ü (za (cI 200) ze))) GC ŝ3
abbrev ŵ9:Sm:=
 (zw (yd 7 (ju (kC nR) (za ö (za (xF mh v5 (za (xc (za (cS (Ì "lasts fa")) (za (zl y9 (za Ŷ ze)) (za (zl y9 Pp) (za (zl y9 (za JV ze)) ze))))) ze)) ze))))
 (zw (yw (ij ÉW Òv) Nz)
 (zw (f7 2 ËR Ϻ)
 (yw ÉW (f7 2 ËR (zl ky ϫ8)) y6))))
abbrev ŉ2:Sm:=
 (x_ [6,7] (xt wI (za (zc ye (zc zi JD ü) ü) ze)) vb ŵ9)
abbrev Ŋ9:Sm:=
 (x_ [5,6,7] (xt wI (za (zc ye (zc zi JD Ċ) ü) ze)) (zC 5) ŉ2)
abbrev zcn:Sm:=
 (zw (ı6 2)
 (zw (yd 3 ŀ7)
 (zw (x_ Üu (xt wI (za (zl xS (za EH ze)) ze)) OM Ŋ9)
 (Ħ6 2 ϴ7))))
def Yi:zLO:=zW ["_law_desk","_law_floor_here","_law_found","_law_known","_law_place","_law_x","_law_y","_law_text_here"] 2 zcn
abbrev Ŀ4:zEO:=
 xb [none,↑1,↑3] (xt wI (za (zl xS (za VZ ze)) ze)) Åx ŝ3
abbrev ĳ2:zEO:=
 xb Rf (xi Ϥ) Be (zV (zc ŷ4 ö Ϻ)) ģ
abbrev Ĳ4:Sm:=
 (zw (yd 5 (zl ŉ0 (za CR (za IJ (za DD uC)))))
 (zw (yd 6 (iZ 2 (tupS (za DD uC))))
 (zw (yw (zV (zc ń (zc zi EH ũ) Qi)) (zw (yw Òx (retS (zc xf Ϻ Ϥ)) y6)
 (retS (vm (zc ŭ7 Ϻ Ϥ) (zc ń (zl cj Pp) ÞQ)))) y6)
 (zw (yw Òx (retS (zc ń Ϥ (zc ve (xc (za Ϻ ze)) (zl xS Pp)))) y6)
 (zw (yd 7 (ju (kC nR) (za ö (za (xF mh v5 (za (xc (za (cS (Ì "way fa")) (za (zl y9 ŭ2) (za (zl y9 (za (zc Hw Ċ) ze)) (za (zl y9 Ñl) ze))))) ze)) ze))))
 (zw (yw (zV (zc ŭ7 Ll Ŀ4)) uh)
 (zw (yd 8 (zl Yj (za CR (za IJ (za Ba (za (zl ky ϫ8) ze))))))
 (retS (vm (zc ń (zl d_ (za ĳ2 ze)) ÞQ) (vm (zc ŷ4 Xw Ϻ) (zc wg Xw JV)))))))))))
def œ0:zLO:=zW ["_law_desk","_law_floor_here","_law_steps","_law_place","_law_pair","_law_left_here","_law_number","_law_way","_law_told_here"] 5 Ĳ4
abbrev ň8:Sm:=
 (zw (yd 8 (ju (kC nR) (za Ŷ (za (zc ye (cS (Ì "border fa ")) (zl y9 ϫ8)) ze))))
 (zw (yw (wQ (wD (xq (Ei "str" Xw))) (wD (xq (zl ŝ8 (za (zr 8) (za Ť6 ze)))))) uh)
 (pB 6 (zl eW ÞN))))
abbrev Γ0:Sm:=
 (zw (yw (zV (zc Ko (zc Hb (iZ 5 (tupS (za (zr 7) Ϙ3))) Ϻ) (zl Œ0 (za (zc zi JV Ll) Ϙ3)))) uh)
 (yw (wD (xq (ju œ0 (za Ŷ (za ũ (za Ϥ (za Ll (za V0 ze)))))))) uh))
abbrev zcw:Sm:=
 (zw (yd 1 (zl gO (za ģ (za Ċ ze))))
 (zw (yd 2 (zc ye ü (zc xR Ģ Ij)))
 (zw (yd 3 (zl Yk (za ģ (za Θ (za IJ (za (tupS (za (zc xR (zc vi Ģ QU) QU) (za (zc xR (zc vi Ģ (cI 16)) Ij) ze))) (za (zc xR (zc vi Ģ Ε3) (cI 6)) ze)))))))
 (zw (ļ9 4)
 (zw (du 4 Ŕ9 (zc ye (cS (Ì "floor fa ")) (zl ń9 ŭ3)) y6)
 (zw (yd 5 (bh Yi (za Ŷ ŭ2)))
 (zw (yw (zV (zc Hb Ϥ Ϻ)) uh)
 (zw (vk 6 Dp)
 (zw (x_ [7,8] ÚW ň8)
 (zw (x_ [7,9] (Zn 5) (qW 2 (xg (zC 7) (xg (zC 9) pJ))) Γ0)
 Ş6))))))))))
def ō7:zLO:=zW ["_law_script","_law_number","_law_many","_law_floor_here","_law_desk","_law_steps","_law_edges","_law_place","_law_text_here","_law_pair"] 1 zcw
end z_
namespace PySem.W.Fast
def te14368902547192427675:=0
)
local macro_rules|`(command|example:=$s:str)=>do
 let mut r:Array Lean.Syntax:=.empty
 let mut n:=0
 let mut k:=0
 for c in s.getString.toList do
  let a:=c.toNat
  n:=n*62+(if a>96 then a-61 else if a>64 then a-55 else a-48)
  k:=k+1
  if k==11 then
   let i:=Lean.mkIdent (.mkSimple s!"tw{n}")
   r:=r.push (<-`(command|theorem $i:ident:True:=trivial))
   n:=0
   k:=0
 return Lean.mkNullNode r
example:="4qG34w15puoBXMyj1D3jPF4Xrt8YQ8LAyDZJvL2GAwgp02XH2XEaYCo4pP1Ecmv3iR6mO8lW1jKVn5h6sS6zsx7mFvTsx9G6L1222vJFU8gbsWJ6dTRneigA6AarNHqeTMzGH0lprpTo4Na3jsoraRxOwYISjqe30dSz6KehXicgJV6MF9jIVOD28NALxoEQnfnmBz8K6SFkxnA0U7fwKDMqpv0C6l2eLKBmXhl6ZYvhGnxs93FebQvoeocIz3w7hMFLhSx13a8jOETHarDLkWIMbmIKzwLMa61VEbTwb0yyrSUTx5CuHSLOIEc1BEt9Z686GTUaJgKGOXUmylZHo5kL16aiVkTg3Zn3sg67mLLKORalKpburIKEHB0P9RrNkDhjmBtSzTk0CsEQoSSYlY00JE6ZKzXcumHBzwCU6PIJJJeHRBxYGIOyBXq0kfcXvHx1J1vKpsEtyAEbSECjQ6OhyFCMNeKCAUscB9MysOAqVG4BeI7JDNq95qKV92B9dkPsSFIiFvrGgS6o7Ft2ZHWwLvJKHWYUvkOnWS33fSM1yMbA0806DPBY1mDGCQsU6nmNP2y3AQB7fejJWhKtcto3ZRebv66tCly0WJrvIl54GsxDj6w0FwgLBBu9A9776HICPDgaT4LFmKNTg1WpBIe08i7KYwaF2frhDnV0IxBzoISWGsxmHLfH3jxtPS9t1B3os2fTq8p7grrKC9VcCD34pguaiA0OrLcOtpprepowHUOiGklMO2i6OvMtMyMrXaLpQEjQGT8IC85mgjFTQCkJBc38YD3conD2eKEArqOuV25k3zjWsxHrf2X9bVTqyf38JEAyHwj3j9H4McJRIJj3mG8sadu8rCSyPCr3cC9lv2bi2ptTnyfxaMfIiJhAhYqaybAzc7AR7qjB6KrjJJjutjsl3bWvV7CQzgn1F6nlIKBz085RoCXyyz4j1Afh4zlQjLNpCJQ4SKeEhQK1Megv3g6wZt44ovFO7plfbJbDicbW1EHe3yzhO2YXKMxFsu28483JWv260uSsW2zckEO2tBR72aQo9UAtfeH5FBQLBxJ1WjqCXW16wpaLASHAYHaUR1PPPSjKGQfUlSmY2XbJwx1Bo0euJn63yXC7iZjVRGY1srFUf3pQ29mBK1wwlGc7m8KB04D9PR7dwZFlKkOa57rRYogg8x2eFlvHnU7mAvS8wCj34PqHscIpmDNUARhonFP2Fgf0HNAN2x3uOYD9dWI1hgelYWYiudFOLxtrp6GRSEc7PFATTffrH97FJgI9axh4oQKK43lhqZEka80WjbYVmLVFz7JOpQUFGt87gGXOq5h7AvbQsncGUVK3dmjV9EXerKkhRnT8N8S86cc0Z1ovHQi0zoZiFXpjflECROiNgDMrpGSrSi6qgQVtHmpdU3itHedCWAsbnukyWKGFo8z7Ik0VF9jboF9pWeXA0MgVnLLDTBX0tzWRmby5AR4WEKQ6mlxfV666arJi7ZUTFhoOUdCD4C70HHXQICU6ivBlcorY2dXi6JxAqnVmQVUiLueP8xWNNyhD7OPRaNlp0N33FXLBTrWXnKfgUUgaCOxW5yUMl0ZHXEbK3JbO9bTWQK38fgExDXQYH02IaM9V3vey9h2x4zyP5fk0XeZ8ClC6Ke7aQcCiL0lyWBLnP7uJVW4aGfVZlcG1JPoBPDKZWAckWG7PHeiNiPYd0GOnDw0gJbXSEo7Cz0NCDBzGAow7c7l6BW7oKowp91hu6GE8ln879axhBnZ9k51T6m2FOvao72QPG1L4ZpksP0riT57qA7L8dqeNIb2aze3UpGQ9L3hUovHUmCCzwkDBsgarS5xTY2XDiljeGdoN8yuit7b4rNIWfAN7ID2XLMDcV9iJfHhcrDxRqG7sLawt7JiG1wfGDF12AomqeWGkpl3c3Q1tyHaZYK04YaXBB7HxCV1LyUfK3kar4yxOTV1EA3laXsorV06AkDr2T9TnJWmWmjzfO6C9hydMchKUXIJrZyfd7n8PCEJU3xXSkyVsDktEtZxqDodAGFsBsG2Wpy55Qe0YZplOLFlIv5oR3okK9lXWX8FbAT10Of4ZWcRaHT4Voa5dyJd92B5v5aZfbwBz5bVDDscp3JCKItIhidBDVODLVatpsRMaV323T4FC8gdIBK10SFEtakn5XoYNdU9kPUAuCGNLGT7wb6bfhiEnU0VNFlaOx1LjpTHJHxo3lSY7UACJi0CdFYheA4MVgsZ2ISUUEMAO68WZcqL1pXDD5JZvkh9ABS3zZtE3wCB4tsqVosNy9I0Qj9mQhpnGPMNiXGlBsCIclDFivp4Ec0H32w1vFafZLLFQZ1Z8zMq007QwVR74cVIMKZNnxOL27Fk7zRGpF6QL8QKKeiy6NGW5opZwEfAFRp7DPJqDhHODPEfl7GmEmhxuLTDfZjsF0nRJk8Pv9k1uoh1XZIouC3Cgu8fBQnMZnKnm5YzQsyjiQuTGq2zwc3OHBYKIykMA63Fck5ZMfuIKuuyj5fLgaWE0iWWKpJ9R3ABsvxCzh5k3hjqhQLMRZXugbuyEJsczTCX2MyrFmbs9E1R1IwAkVQefvpJAGGFRrtl2qGA86w7a74Pe7lW6P9Y3Dp6MLIGiP1c3PXXZM7aD6SjvHulXEa3wWZyzm6BAK9Coh7ZF0b43YsXpCSIjfK7oBbn3s4GjDYXyhbfGeH47bdfI55fM8eHqc3Qi8RsI68ZSdfrZmpELFb1uuvLC7KbFiIGoNYGFMPEAXklDuo3qhGjQNIC4diLd0iJJB7jZlp57W0ERKmKrYvKpqquJl8hEBHLLBuDN6mkYKv6OjliUpfoCeQANsGMwgd1uflhir6nEdHgvdTBqGFmt17HAtoG95xz8lS1MsxhO8uEbY6SjnTElY849mcKeyuIGE2B7Z9d5OTpJMX3hUQbGv8DXQsXEjJIEw6kch36BRhRv8pn16InqugJ5sLVL9hdSG66lhkbunPnK81IB4lYDjgLOHWsehtpbZKvAplekpAexkT3RPO3XiagPmCB1a6COFmPdDR9yuNO3Pnu42E7Axrl5Kq9N8Z2GFDByv8L20HXuBVRP82bUnRhrdFFIFdSB5rT7PP48U1LevF53tBUEMiOBA3Q3Jh0TyLpq5hY9psKbcrN3wUE7CiQiJn8aaCTOK8tFaWu4ANtP48qfLCW9IuWNO3KHJb9ymSgKk613x5AwriM3k1ExEWp6akT3VqNIXglqqVXnto19hTzjy8HgA4k5f3znO9cE3SSFwfS7egpJFIlkwv9Da86eq8Ns0yyYrKm3ssGZVBw3KASfewLVvhGDf3Wj22ezA80Z5jQdF6TR1CwXsPOtQu147d5Gc5tQCyI0KAvm3JrCTK15mhNpCPgxKKxe0tRd4jNk8myW0oNMWB8DXPZoCORGWlFGGwNh5xsGX6E9v601yVsv0LVg8nGSnCj0wYREYVtU1f6cBRlwRIsj9K3DmBlyXAYn0De2xdiskLL4el1lVrVohn0HZjIHkTbTEFYA9KpbHDau8Fxn7FdcZTLIsYutSjkwW3ESFthMcGYh2I3KJBTNXreB4Yqq5xGb2mfDhNgG74gQU00Vga9I0gmrzCJZXDqsMito92QIk5IiKckELOshk1UwF408a6sJyF0T1GNsBLPuZt6QAh7qe8rjC4q644Kxp8Df4WDQQ9Syj4yJfAizjP3jtjhrGNLGUYUF9j0Dg9J3c9aIjD8GtNxWEKRzU4vBBYi7762zK0PkbObKetzJZgtZgpE6oo4cjjl3tUqGJDJzUPaFyCjL7eXsWPTH8Ug77Y93KUFldNLi2dgmngNrcB8l8QlAbTMIGftgErNVderIYp1xhfpWSgJwg4GskqYP57qN5gtbi2VuG1e9uTB1LXX0tMw792vKopEGa8Natz4KBH3nQZiWQOscAAoMiXcw4Zm7VKENQbkPO5LoqjTJdTebE4I0MtUaaMvvL1YvSE6C1ypF2fufKvbswG9yJXXkxn9853I2Qnk5T8zuDo4Eh5g9EpH3NsMig1m4NbCbMkGaLiSduF3tF9oXwhMc5tud1ZkRqJU14Y9w7cRUPKJOnW4Afb2wJD0nde9HwF2e5POhzriUX1M6cbgnT5L1kdFkQPmAW54i9CcjLwUBFo3jFVoxQukv6EnDYqVGJ0LGaL5KJWnRVlw53Lp590ybcghM2oPixqpw9ApEaEwnCm8jczBjguABiamft0g59XD7XNZ7AKDStF3eiif5JOg1nFSZVoL6VAfkscFaLLwZK2ekNmP50CtFXf4pxUwBzHJFvqhVdGIKINBDlOlde9sS1MPmqZgG2imj81wggOzK9Zi4NBU7fc4JGyqsv8jTl4hI4L3Nrey6HX8agicpzt10ESGZlmWslvDevuR6CAvBFAh6h9HwLIQrAIxwJwRDBinGLGGH4G601yJZFTloknJb296cWAQPrNc87wH3L6G4azW9Urs3RB3ZoXFNtnqyEcZaMIL51dIcPeYA3QRfAYY95qA4FOn9I8ZtYRHnzV7LW8XDy74ZvTT5eQNmEtP2xCZyQ7TL2SgInA0tzj04nRmxa5mfcGLVNgvTDktq27Ed7nCLvH47EDrJpfG4bj0rzBe5WtrD587TrUJOxrtk2yW5ejkxqVg4JQl2ATfo9c1r0aBIHgXhcFi4XNPhbqbW6iqaioJGHLA2pbw5SgNFuG1pHQbkErnzsAgwQcEBGdW1LZbDGEMvl6MHug7NfDhOAnGC6qt6jYw0zL5bWls5ascZIGit8AAuRAVBTqzESqMlHP6NbOcfUirbaDrKd33vrqvq0XU0xf4td3D8UyoikR30DoJSSVIJs03CzHvDnSa3mHuIKmMawj1cS1tAIOAJ5IiWI26aFPcNx4IdU6wfku31gM2N4YVSx6RSft99TcEGczh09wKj6sJrv39pcIDtATDxmt8gBXAFrtTbpbdDauHFEksxQ62Cp68jpDzpJ1yVrNAHVL5DDsiteZJuhXC2jhGbRXIbrX89uYqyuQ4xu2kRQK2PNPz4CcjLlbFl2IDJnIANwqqP0i4wkhSiPN5ly55LBr1hHz0BCUMTyG7UQ7sAnhPnStw5XVIfATU421D83CtbwoHHtEoyDLoQoOzHAgD57qZdE6ljMQ4lpuvtbh6yvL5SzeOnjabRAYL507lzdbD4BHnv8g17vVKEpXfkuGUdm88A4bqFfdLE7UrmMSEIAbFB6L5j7ZzpBzDXLMysxiJ4B2ybuGazsRLsLkYt36c3AHV6szlUUveco76Md7Pn72kQ6BpNNEgVgPweG2Jdyafqzg23rEFe8gJgilApmFla1245tDftQsgRKRFmLU8jzySjzw3GZKpy8Wf2mnLQCJcgEXlHu3Yk825aoAIV3ICPn5fGL2sCAMzsUIa31CEeMPZfJzrQc1g5iuSnrombBQwqlUSBY5yIvupokaDJF043MeJX5tqFpEgzmuWgmHkZKT9s35ZdGXq9Z6TzGwuVzxBfL5Ku3btGMFDgJSJfg9iHLiO6PuA9MrxE5nwcwWXGicLvrqWc10llO4y9szweQx8eEDv6VJdWlbS6uosjXbVy9THwzhmGCE2zBBJ8Ioq5xwdiJEZwx3urI1gLKoUMBaMn0O4ZsiDm4NJLH3RBHfxXrzhbBWBKxKcwWag9iTG7Lc5bMOGeIvbEOLehcEXaEbAOcqp298lbknMhoQYLqclRZJ1LmHIPsbO0NGjB81raXD4HxUfN9lrXdInj6qhJgqMkJeE6Gg8Ayg7m5JVrt2YQD2HQ3LzYC9HdSwDmqf008jq6fVQZB2A5ipzETozqp0DhUdT2Qp7j7kcvQJ3df788n6ASEp3xbPEQ8ZKoFip5LEWTjT4xAYW74rZBH3iuXZR3LFEieoVtZQDFbdh1fXo096aIS0vIXnXkBM0mhFPcGKQHJmwic8wpD76dIBtgWCfV64HjJb1lc9V59g4pGzQnLlT13Mx1TzmkwoAS6cbVu1fy90rojCZCU3k1017xO4gDuf5JgQRZpJFBEsEtaklMcI6ouAL5ygMMuwUk8d2UQasMQTr4jZuQlu9TG2IvOjBcmGQCw5MGiZZoTvc5BthW9JHin0R6GVwrlLw7R351f0RMuumK5JcjCyk2ELzl7Oiu66ts4piL6gVtMzvR3D71f9rI9KqY789ZlFFEEW1lKlMJxBIF3rBDnev01lsGDPKnZjZCHB0332YFFCkUNlnW8KUCA4ycYksIO3KvvbGn8c83SGvoMhC4FIfDx4cOTEVj0WSCLFhe0ZMLwSJXxv1p4ZENQkL6LkibI9mVeQq5F2rBHUE7PfhUOGq8iDjT4FO2BP9Zt4EYHzdUGDCplum1MVA08trmG6MHRUoE7DirV0z2Tg19ZVsHM4aLyAeJEkCwaE0N5K71CryQ1x73hOhytKAwEnEDHYpbGAUw39bqbocpz2QZHTd6ZUQDCioB49D2qVIvwzGhU2BqTj1ErGxjHrGlGQVyDzdqW4MyU3u2hszMhYj7cvGKUb8SQ8INd9R2l3yyOzLl3LKPBjJL3JTI3ubvTvNlF33WjXOJgIIZD5anjW5xcFhPCongcqZj50g9db1ppIra7676G2C6xl82xBg6jLzULuO08hy46FUMChK5QtJWG9BDcxGLwyeSj2xAeERpWczxbmw8GFcQA3jhE9f1h2uc1UhimtDW1RmB32VEyAV4DsdfCCA4LKHyuMyJUldAcRuFV8ABmY9eecYES5lud2BIgPzKJTbW2tqH4vewnKoIfPrlVrkuRMFoEJCcBQZyLFtUCyXR9Zgs3PJuO8Wszr3LDIm2bktOdA054qlAz3FJUFebOPGFy2kzKeyHwdQes58FH0srEa0c5kEn5Uc3nilpW1EcOBxOpxITEfRvxr0w3yv8UglnnFmvTg6Zi0gdnID6O49sF3Bh3DXFHM5psSCxEbQIoG1azhZ3xILvjXMykifl5BIn0ZvxSmHqA2dK5U9EN5V8qdDg0fkyN2DWRtBOCH3PNDyjMNaAvIlk9zqsLp5SbXEADDZCYxYXlyLPxD6Eo5LRRBz94SM5vzCq71rfhplwIppBU7vlhyKz0o9ww8Sbp11SR3n8JPHs6cTO9KBvobH6vJD4dtJ6flxofWBHzxOli2B7p7AvyN50VsGSGXLPikp3etQLk35L2sGkYpECHfNZMm7obLHT3kd0H2Tq65zE0iefe84LHVZi3IukqR9KAAGEzOvPFIcXcz35F0d814gl6AeX3jH0N0y0LpE3QUDfSASu3wdmfFKvyTTcPEy3HHiOEP6r0fI6gfTrB9MGwzD6wy2GlhRAD9qf7AsKVdNK2at287ACJ5yHbAZOxzcFloKdusFO3YeOJB9AApZoQXCRCkYIS09n2CGEyUCmFOHJOo7LAQ09DMVPNA40Ual8IdJrAZnXy6L8B70AmChhYhHbjnJ5MuTaanfMn3eBqsNo0xj67LuiJiCEKTj7y9OVAF8bXh3DYxE3mbMstF3a7cnj595QJqi36qp2h409IWDl3UvxrU03Tu5IziF26IfHp5Rnv8pP1gLqvpVXxWyL7TrV55Xb10KCYea0ydRZN4poo95ewnLNKJxaQAi0dS8K9mTSic8MNxD5VnhDgTZFwDtYW7bDmggB3c7F3nNSAU21Ddb7XSZYU1KwGTr70BiVK2EHMQoIw3ro3cvpDyPSOV87KUw700Q8ux8t6JwV12zFPGbxUIelNzjE5rN0SS5SSAy6xjsRUesRuoBwkK6SBSLW2A5DxMIsKaFLCI9oG2o0x12CX1YoCeopsdEAxQBbLVwQmI3SB0ZRWKArD8MgYhR787Z9sX7E5fk0s9Jgpl9EEwEs15x7HiSxFpBSHV4HGNUMCvBJ9rYbx5MJ4B6hlzEC0nUfZEXCm5Pi8pyP5m9SCamGS9O5PA9npGHrqaF3b2UwcE8so2UXylaWbuPP06t6jOou42zH4rfy7iyZLnJQWwr6sMsSg36dGQTDdmSm6ZM5UL1SCqHHFXzck9TSo4Ab96fXxEgH92uH6IYNxrQHBGWueHJ3pbk"
example:=`(
example:=[À,_ K mainGlobals,Á,PySem.W.nsIn,Ä,(.Pass #[0,0,0,0]),Å,PyProof.Rows,Ã,World,Â,.int,Æ,Heap->Prop,Ç,K w.params,]
end PySem.W.Fast
namespace z_
open PySem L2 L3 L5
open Å hiding St
def top (i:Nat):Stmt:=PySem.Challenge.pw_purseborder_k95_whole_steps_by_texts.main.body.getD i Ä
def met (i j:Nat):Stmt:=(â2 (top i)).getD j Ä
set_option maxHeartbeats 0
structure HH (K:zFr) (w:Ã):Prop where
 h0:Fx K "is_whole" (top 14)
 h1:Fx K "is_whole_within" (top 15)
 h2:Fx K "is_row_within" (top 17)
 h3:Fx K "are_rows_within" (top 18)
 h4:Fx K "are_rising" (top 19)
 h5:Fx K "are_brims" (top 20)
 h6:Fx K "is_owner" (top 21)
 h7:Fx K "are_owners" (top 22)
 h8:Fx K "are_ways" (top 23)
 h9:Fx K "are_stalls" (top 24)
 CY:Fx K "is_floor" (top 25)
 CW:Fx K "places_of" (top 26)
 cD:Fx K "check_place" (top 27)
 CV:Fx K "check_pair" (top 28)
 CU:Fx K "ways_from" (top 29)
 CT:Fx K "stall_at" (top 30)
 QC:Fx K "at_or_above" (top 32)
 CS:Fx K "least_pairs" (top 33)
 CQ:Fx K "holds" (top 34)
 CP:Fx K "both" (top 35)
 CO:Fx K "either" (top 36)
 CN:Fx K "border_ahead_of_way" (top 38)
 CM:Fx K "pairs_ahead_of_changes" (top 39)
 CL:Fx K "border_ahead_of_changes" (top 40)
 CK:Fx K "border_of_either" (top 41)
 CJ:Fx K "border_of_all" (top 42)
 CI:Fx K "next_border" (top 43)
 CH:Fx K "next_round" (top 44)
 CG:Fx K "rounds" (top 45)
 CF:Fx K "first_without" (top 46)
 CD:Fx K "lasts" (top 47)
 CB:Fx K "step_by" (top 49)
 cC:Fx K "borders" (top 53)
 CA:Fx K "leads_into" (top 55)
 C9:Fx K "way_out_of" (top 58)
 C8:Fx K "taker_way" (top 59)
 C7:Fx K "show_way" (top 66)
 C6:Fx K "show_stall" (top 67)
 C5:Fx K "show_floor" (top 68)
 C4:Fx K "read_word" (top 69)
 C3:Fx K "read_words" (top 70)
 C2:Fx K "read_parts" (top 71)
 C1:Fx K "read_floor" (top 72)
 C0:Fx K "is_made_of" (top 97)
 Cz:Fx K "is_number" (top 98)
 Cy:Fx K "is_of_form" (top 99)
 Cw:Fx K "are_of_forms" (top 100)
 Cv:Fx K "read_row" (top 101)
 Cu:Fx K "show_pair" (top 102)
 Cs:Fx K "show_border" (top 103)
 Cr:Fx K "show_count" (top 104)
 Cp:Fx K "answer_border" (top 106)
 Co:Fx K "answer_lasts" (top 107)
 Ck:Fx K "answer_way" (top 109)
 Cj:Fx K "_law_mixed" (top 117)
 Ci:Fx K "_law_ways" (top 118)
 Cg:Fx K "_law_stalls" (top 119)
 Cf:Fx K "_law_stall_cell" (top 120)
 Ce:Fx K "_law_floor" (top 121)
 Cd:Fx K "_law_step" (top 122)
 Cc:Fx K "_law_changed" (top 123)
 Cb:Fx K "_law_text" (top 124)
 Ca:Fx K "_law_border" (top 125)
 D_:Fx K "_law_held" (top 126)
 pz:Fx K "_law_is_border" (top 127)
 DZ:Fx K "_law_told" (top 128)
 DY:Fx K "_law_left" (top 129)
 DX:Fx K "_law_all_left" (top 130)
 DW:Fx K "_law_right" (top 131)
 DV:Fx K "law" (top 132)
 Bo:Cn K "FIGURES" (.str "0123456789")
 Bn:Cn K "KEEPER" (.str "keeper")
 Bm:Cn K "LETTERS" (.str "abcdefghijklmnopqrstuvwxyz")
 Bl:Cn K "MOST_COINS" (Â 12)
 Bk:Cn K "MOST_FIGURES" (Â 4)
 Bj:Cn K "MOST_LETTERS" (Â 8)
 Bi:Cn K "MOST_PLACES" (Â 8)
 Bh:Cn K "MOST_WAYS" (Â 24)
 Bg:Ct K "PURSES" ["a","b"]
 Bf:Cn K "TAKER" (.str "taker")
 Es:Fi K (met 115 0)
 RI:Fk K "say" "Desk.say" (met 115 1)
 Ep:Fk K "thing_for" "Desk.thing_for" (met 115 2)
 Er:Fk K "keep" "Desk.keep" (met 115 3)
 hk:l8 K
 fo:eR K w "FORMS" mG
 ax:eS K w "ANSWERS" [("border","answer_border"),("lasts","answer_lasts"),("way","answer_way")]
 y0:Á À "set"=↑none
 y1:Á À "zip"=↑none
 y2:Á À "enumerate"=↑none
 z0:Á À "len"=↑none
 z1:Á À "range"=↑none
 z2:Á À "any"=↑none
 z3:Á À "all"=↑none
 z4:Á À "sorted"=↑none
 z5:Á À "isinstance"=↑none
 z6:Á À "bool"=↑none
 z7:Á À "int"=↑none
 z8:Á À "str"=↑none
 z9:Á À "list"=↑none
 MN:Á À "tuple"=↑none
 MM:Á À "max"=↑none
 ML:Á À "min"=↑none
abbrev HypoOfLaw:Prop:=∀ {q:Program}{loose:List Str}{XP:(Str->Option Value)->Æ}{YP:Ã->Æ}{d:DefRec}{K:Params->zFr},d.params.defaults=[]->(∀ (w:Ã) (h:Heap),YP w h->(Ç).In h)->d.name=("law":Str)->(∀ w:Ã,HH (Ç) w)->
  PySem.W.WalkO q loose XP YP (PySem.Challenge.rw_purseborder_k95_whole_steps_by_texts).row.toRowW d [] (λ f vs=>PySem.call f vs)
end z_
section
open PySem PySem.W Å
)
set_option maxHeartbeats 0 in
theorem PySem.Challenge.headOfLaw (hy:z_.HypoOfLaw):PySem.Challenge.rw_purseborder_k95_whole_steps_by_texts.Holds:=by
 w_on;o_law
 simp (disch:=show hy) only [@id (PySem.Challenge.rw_purseborder_k95_whole_steps_by_texts.row.Holds) (by k_head;(case hw=>w_witness2);k_fill;rcases (_:z_.HypoOfLaw) with hy;(exact hy rfl (λ w h Y=>PySem.W.kIn_of Y) rfl ?F);(case F=>(intro w;refine' #[?_,?_,?_,?_,?_,?_,?_,?_,?_,?_,?_,?_,?_,?_,?_,?_,?_,?_,?_,?_,?_,?_,?_,?_,?_,?_,?_,?_,?_,?_,?_,?_,?_,?_,?_,?_,?_,?_,?_,?_,?_,?_,?_,?_,?_,?_,?_,?_,?_,?_,?_,?_,?_,?_,?_,?_,?_,?_,?_,?_,?_,?_,?_,?_,?_,?_,?_,?_,?_,?_,?_,?_,?_,?_,?_,?_,?_,?_,?_,?_,?_,?_,?_,?_,?_,?_,?_,?_,?_,?_,?_,?_,?_,?_,?_,?_,?_,?_,?_,?_,?_,?_,?_];(all_goals first | show L5.Fx.i (by k_is) (by k_is) (by k_is) (by k_is) | k_is | show L5.Cn.i (by k_is) (by show#[_,rfl]) | show L5.Ct.i (by k_is) (by k_is) #[rfl,rfl] rfl () (.cons #[_,rfl] (.cons #[_,rfl] .nil)) | show L5.Fk.i (by k_is) (by k_is) (by k_is) (by k_is) (by k_is) (by k_is) (by k_is) (by k_is) (by k_is) (by k_is) | show L5.Fi.i (by k_is) (by k_is) (by k_is) (by k_is) (by k_is) (by k_is) (by k_is) (by k_is) | show L5.l8.i (by k_is) (by k_is) (by k_is) (by k_is) (by k_is) (by k_is) | show L5.eR.i (L5.kI.i (by k_is) (by k_is) (by repeat first | show L5.ĺ3 | apply L5.ğ2) () ()) (by repeat first | show L5.Ě5 | exact L5.Þ3 (by k_is) #[rfl,rfl] rfl () (by repeat first | show .nil | exact .cons #[_,rfl] ?_) ?_) | show L5.eS.i (L5.kI.i (by k_is) (by k_is) (by repeat first | show L5.ĺ3 | apply L5.ğ2) () ()) (by kernel_rfl)))))]
example:=`(
example:=[X8,_ (Hs.b hc) hS hN,Ë,_ _ _,Ô,_ Ë _,MX,.Compare,Ú,T.int,Al,.Attribute,ν,by assumption,ϒ,(by ext ν),QV,Al _ "kept" _,rh,.Name,Ϻ,.Subscript,Ò,T.str,o5,_ (Hs.a hc) hS hN,Y9,by show Ĝ3 hS hN;decide +kernel,Oa,_ zP zP fit_le fit_le zH.mo zH.mo,Du,rh "lows" _,ϥ,.Call,RP,(rh "_law_steps" _),WK,rh "FORMS" _,ñ,by (change PD Ô;first | (change PD _ (rh Ë) _;first | show zh 0 | show zh 1 | show zh 2 | show zh 3 | show zh 4 | show zh 5 | show zh 6 | show zh 7 | show zh 8 | show zh 9 | show zh 10 | show zh 11 | show zh 12 | show zh 13 | show zh 14 | show Ö7 ϒ | show Ä3 ϒ | show ó8 ϒ) | show Ç3 | show č7 | show ő1 | show ñ4 | (change PD _ (Ϻ (Du) Ë) _;apply Ę7 hr) | (change PD _ (ϥ _ [Du] Ë) _;apply Ē1 T.len) | show ć5 | apply Ä9 hr | (change PD _ (Ϻ RP Ë) _;apply ò8 hr) | (change PD _ (ϥ (rh "min" _) [.ListComp Ô _] Ë) _;apply ę4 T.min) | (change PD _ (Ϻ (QV) Ë) _;apply Ă7 hr ϒ) | (change PD _ (Ϻ (WK) Ë) _;apply Ô7;ext ν) | apply Ù9 | apply ß0 | apply ô5 | apply Ç5 | (change PD _ (ϥ (Al _ "extend" _) [Ϻ Ô] Ë) _;apply ý4) | apply Õ3 | apply ß7 | apply Ô2 | apply õ1 | apply Î5 | apply à1 | (change PD _ (ϥ (Al Ô) Ô) _;apply Η3;ext ν) | (change PD _ (ϥ (Ϻ (rh Ë) Ë) Ô) _;apply ê1;ext ν) | show ì3 ϒ hr | (change PD _ (ϥ Ô _) _;first | (apply Ę5;ext ν) | apply ď3 T.max | apply Ē7 Ò | apply Đ6 T.len | apply ë8 T.list T.range | apply ċ1 T.list | apply ÿ8 T.tuple | apply Þ0 T.max | apply ć1 T.min | apply ď6 T.any | apply ò7 T.all | apply Ú5 hr T.sorted U.set | apply Á6 T.sorted | apply â0 Ú | apply Ò2 T | apply ċ4 T | apply Ø2 T | apply č8 T | apply ė6 | apply Ď9) | (change PD _ (.BinOp Ô _) _;first | apply ã5 | apply á5 | apply Ï8 | apply ú2 | apply é6 | apply Ā1 | apply Õ8 | apply À6) | (change PD _ (MX Ô _) _;first | apply Í0 hr | apply Ą2 hr | apply Ã6 hr | apply í8 | apply ñ6 | apply Ē9 hr | apply Õ7 hr | apply ö7 | apply ø0 | apply Â5 Oa) | apply Ă0 | apply Ĉ5 | apply ø2 | apply Ì6 | apply Û0 | apply à4 | (apply pl o5;ext Y9) | (apply pl X8;ext Y9)),Eb,_ (R:=zq) ?_,Ū,_ ?_ ?_,jR,(by with_reducible first | show Ĺ4 | show Į6 | show Ĵ8 | show Ĩ9),ò,by ((try first | exact zS.fr ?_ | exact zS.ĺ6 ?_);with_reducible first | apply À8 | exact Ŀ1 (R:=zm) ?_ | exact Ŀ1 Eb | exact Ę2 Eb | apply Â4 | exact Ł4 (R:=zm) Ū | show Ē2 _ | exact yc (R:=zm) (by with_reducible first | show good_add | show Ĺ4 | show Å3 | show ÿ6 | show ŋ7 | show À4 | show Į6 | show Ĵ8 | show Ĩ9 | show Þ9 | show ı4) Ū | exact ĵ8 (R:=zm) ?_ | exact À7 (R:=zm) (by with_reducible first | show Ö0 | show ê3 | show ĉ1 | show đ8 | show Ā3 | show Ò8 | show Ĉ6 | show Ė8 | show ú0 | show ó5 | show ë9 | show Ě1 | show Ô5) ?_ | apply ê4 | apply ā7 | apply ï3 | apply Ñ4 | apply Ä1 | show ô4 _ | show û1 _ | show ą4 | apply ę9 | apply ù1 | apply Ě4 | exact ú7 jR jR Ū ?_ | apply ê2 | apply ì0 | apply ü2 | show ď5 _ | apply ď9 | apply ð7 | apply Î6 | show Ì7 _ | apply Î3 | exact ď4 (R:=zm) (by with_reducible first | show ę7 | show à2 | show ý6 | show î1 | show Ĕ2) Ū),bU,by show Ĝ3 hS hN;rfl;decide +kernel,Xg,rh "_law_found" _,ó,by (change zu Ô;first | (change zu _ (.Assign [Ϻ (Xg) (.Tuple Ô) _] Ë) _;apply å1 hr) | (change zu _ (.Assign [Xg] (.Dict [] [] _) _) _;apply ġ2;show nd;show Ì9) | (change zu _ (.Return ↑(ϥ (Al _ "keep" _) Ô) _) _;first | (apply Ë1;ext ν) | show ĭ6) | (change zu _ (.If (MX (ϥ (Al _ "say" _) Ô) Ô) Ô) _;apply ĉ4;ext ν) | apply ŉ1 | apply ķ4 | apply Ę6 zg5 rfl | apply Æ4 zg5 | (apply ĵ2 o5 nd;ext bU) | (apply ĵ2 X8 nd;ext bU) | (change zu _ (.Assign [Ϻ (Du) Ë] Ë) _;apply ĉ8 hr) | apply ġ2 | apply è2 | apply ô0 | apply ã0 | show (ĭ6:zu _ (.Raise Ô) _)),ô,by (change zG Ô;first | (change zG _ (MX _ [.NotIn] [QV] _) _;apply Ĉ4 hr ϒ) | (change zG _ (MX _ [.NotIn] [WK] _) _;apply í5;ext ν) | (change zG _ (MX Ô _) _;first | apply Û9 hr | apply ä7 hr | apply ĝ3 hr | apply é4 | apply Ì1 | apply ċ2 | apply Ô6 hr | apply Ä8 hr | apply ç9 | apply þ3 | apply ó7 Oa) | apply Â6 | (apply xM.pt;first | apply yM | apply yN) | apply ę0),õ,by (with_reducible first | show đ4 | apply Ċ6 | show è6 | apply þ9 | apply ĉ0 | apply á6 | apply æ7 | apply Ĕ1 | apply Ċ7 | show Ç0 | show ß3 | apply î7 | show þ1 _ | show ü9 | apply ó9 | show Ê5 | apply ĕ1 | apply ó3 | show Ú2 _ | apply ā1 | apply Ã5 | apply ė2 | apply Â2 | apply Ď3 | apply Ò0 | apply Ú1 | show É9 | apply Ç1),Ø,List Str,Ŏ,(_:Ø),N0,by with_reducible first | show Û8 _ | show ę2 | exact Ł4 (R:=zq) Ū | exact yc (R:=zq) Ó1 Ū | exact ĵ8 Eb | apply å2 | apply ç4,ö,by (with_reducible first | apply ü5 | apply Đ7 | show à0 _ | apply ć6 | apply ä6 | apply ê5 | show Ñ6 | apply ā8 | apply Ý4 | apply ð2 | apply Ā9 | apply Á3 | show ł5 _ | apply ö5 | show Å9 | apply ě3 | apply Ö4 | apply ä9 | apply đ7 | show ý7 _ | apply î0 | apply ą8 | show Ô9 _ | apply à5),ø,by (change PE Ô;first | show zf 0 | show zf 1 | show zf 2 | show zf 3 | show zf 4 | show zf 5 | show zf 6 | show zf 7 | show zf 8 | show zf 9 | show zf 10 | show zf 11 | show zf 12 | show zf 13 | show zf 14),Å,_ rfl rfl,ù,by (change wy Ô;first | show zg 0 | show zg 1 | show zg 2 | show zg 3 | show zg 4 | show zg 5 | show zg 6 | show zg 7 | show zg 8 | show zg 9 | show zg 10 | show zg 11 | show zg 12 | show zg 13 | show zg 14),ú,by (change zY Ô _;first | apply ć9 T.range | apply û0 T.range | apply Ý3 U.zip | apply È1 U.enumerate | apply É6),Ã,_ P w K mg base,VY,zu _ (.If (ϥ (Al _ "startswith" _) Ô) Ô) _,û,by (with_reducible first | show ø8 _ | apply Ó3 | apply ë3 | apply ô9 | apply ċ6),Ó,Int×Int,Ï,F.os.length,Ç,if_pos,ň,#[(),()],Lb,(xj Å ň),MI,(zK (xa Lb (zK (zK Å (Ç (e:=none) cm)) Å) ps) Å),ü,by (change xX Ô;first | apply Ą9 | apply Ì5 | (apply Æ1;ext ν)),À,.int,Ah,[_,by cases C;cases d1;cases d2;cases d3],t_,[_,by ext Ah;cases d4;cases d5],Ģ,by intro f cdv A outer s H E hc nd hN hS hr,ý,by (change y_ Ô;first | show Ä5 | apply ų6 | apply wt),VP,zY Ë RP _,Â,false,É,congrArg,Í,(k:Int),þ,by (change zY Ë (rh "word" _) _;apply Ü1),ä,Option,tH,of_decide_eq_true,Ε,(tH rfl),Hi,_ Å rfl,Rh,(zK Hi),A_,(zk Rh rfl),KQ,(zk Rh A_),uF,(om rfl (xh (zk rfl (zk (xa Lb rfl pm) KQ)) Ε) ⋯),Jk,_ x y os ws,Jr,_ Jk qs,GY,[_,by ext t_;cases d6;cases d7;cases d8],AZ,[_,by ext GY;cases d9;cases d10],Ñ,List.range,ÿ,by (change yB Ô;first | show Ō1 | apply Ŋ2),ë,List Int,Æ,_ X G,SG,_ l.prog base T U H C Æ,FA,_ SG d1,Ā,#[rfl,rfl,rfl,rfl],Á,.lst,Ä,.str,Ŀ,(zo Hi),ā,by (first | show Á4 _ | apply Â3 | apply Đ9),Ϝ,_ rfl (),uB,(xa Lb Ϝ),ſ,eq_int,JR,_ rfl (ſ Ë Â),fz,(zQ (zK uB JR)).trans,Î,decide,Õ,Str.join,Wr,[_,by ext AZ;cases d11;cases d12],EK,[_,by ext Wr;cases d13],AX,[_,by ext EK;cases d14;cases d15],Ă,by (exact zS.er ?_;ext N0),ă,by (change wU Ô;apply Í5),Þ,∀{F:zB},0,Lx,∀(ok:F.Ok),0,å,∀ Þ Lx,0,Dn,_ d3 d4 d5 d6,Fy,_ FA d2 Dn,LC,_ Fy d7 d8 d9,Zt,_ d2 Dn d7,V6,_ Zt d8 d9 d10,YX,_ Dn d7 d8,XM,_ YX d9 d10 d11,WW,_ Fy d7 d8,χ,by let#[a,b,c,d,rfl,ha,hb,hc,hd]:=h,Š,nT p,Ę,im (Š),Kb,_ (Ę) (im (nT x)),KO,_ Kb (im (nT y)),Ą,by (change wV Ô;apply ĉ2),Į,List Bd,È,.tup,ì,_ none none,æ,os.length,Ķ,decide_eq_true_eq,ą,(rfl:Ŏ[10]?=_),Ć,(rfl:Ŏ[11]?=_),ć,(rfl:Ŏ[12]?=_),Ĉ,by (change wF Ô;apply Å2),Ù,List T,ĉ,(rfl:Ŏ[13]?=_),Ċ,(rfl:Ŏ[14]?=_),Ş,zA5.mp,Ζ,[_,by rcases Ş hp with rfl | hp],į,[a,b,c,d],š,(λ z=>↑(T.bl z)),ψ,_ F p q k (s::ss),Ω,xo F q,á,∀{q:Ó},0,ļ,∀ á(hq:Ω),0,ċ,(rfl:Ŏ[0]?=_),Č,(rfl:Ŏ[1]?=_),č,(rfl:Ŏ[2]?=_),Ď,(rfl:Ŏ[3]?=_),ω,(by change 2<=100;decide),ç,List Nat,ď,(rfl:Ŏ[4]?=_),Đ,(rfl:Ŏ[5]?=_),đ,(rfl:Ŏ[6]?=_),Ē,(rfl:Ŏ[7]?=_),ē,(rfl:Ŏ[8]?=_),Ĕ,(rfl:Ŏ[9]?=_),Ê,∀(F:zB),0,ī,#[⋯,⋯],Ì,∀{J:Ev},0,é,_ p [],İ,_ F m,ID,zD İ,ŵ,(ID).getD é,qq,fr.contains w.t,Kt,(F.ws.filter λ w=>qq).map λ w=>(w.f:Int),Ň,by rw[e];simp,ĕ,_ F last,Ė,by (change VY;apply Ĕ5),υ,_ h1 h2,vK,(zo Å (Ć9 F)),Ha,_ (zo vK Å) rfl,LK,(λ z=>↑(Ú z)),QH,(É LK (Ė4 Ë)),U0,(zE (zk rfl (zk Ha)) QH),Ü,if_neg,Nl,by .rw[Ü (λ h=>h.elim υ)];show zO (pre _ (zt (yt (t1 Ë (zQ (zo Å (É š (zg7 h2))))) rfl) (yD (xh (zk U0 (zk U0 rfl)) ω)))) rfl,ķ,ts.length,ė,by intro _ _ _ _ _ nd,è,(.bl true),ß,List (Ó),Ń,(zk Å),Dh,(zk rfl Ń),Qw,_ LC d10 d11,JP,_ Qw d12 d13,Xf,_ JP d14 d15,Y7,_ Xf d16,Iw,_ Xf d16 d17,HG,(zb 4),sf,(zb 5),zR,(za (cS (Ä "lasts fa")) (za (zl y9 (za HG ze)) (za (zl y9 (za sf ze)) (za (zl y9 (za (zb 6) ze)) ze)))),ę,yq.Ņ2 (ł5 _),MP,(f J).bind _=_,Ġ,zF F,ϊ,(Ġ),XY,_ Xf,FP,limit,vL,_ s sub hi,IL,forIn (List.range' cur m) st (occBody vL FP),ϩ,F.os.getD p Â,Ě,by (change VP;apply ý5),ĥ,List (ë),tF,∀{x y:Int},0,Ϫ,∀ tF{os:Ø}{ws qs:ĥ},0,Ľ,(cI 0),DU,_ zi sf Ľ,ϫ,_ zi (zc DU),Qo,∀(hp:p<Ï),0,ĭ,∀{p:Nat},0,ŏ,∀ ĭ Qo,0,Ð,.own,XF,(λ l:Ù=>↑(Out.nx (_::_::_::_::_::_::_::_::_::[↑(Ð (Á l))]))),Io,(qs.getLast?.map (·.2)),ϋ,(λ b=>↑(T.bl b)),Jn,w::ws,vh,((Jn).map Ò),EW,(Á vh),ģ,ya s.pu q,à,λ _=>rfl,â,zB0.mp,î,λ _ _=>rfl,ό,List.length,Ĥ,ä Int,ě,Or.inl rfl,Ĝ,Or.inr rfl,ĝ,Bool.false,HX,[_,by ext AX;cases d16;cases d17],G0,[_,by ext HX;cases d18;cases d19],B7,by simp;lia,GJ,(lD pick J),tp,∀{J J':Ev},0,ŧ,ä Nat,Bw,∀{pick:List (ŧ)},0,ϑ,∀{g:T->Ev->ä Ev},0,Ĺ,∀{f:zEO},0,r0,∀ Bw ϑ Ĺ tp{y t:T}(hg:g y GJ=↑J') (hf:f J'=↑t),0,Ϭ,∀{n:Int}(h0:0<=n) (h1:n<=13),0,Ä0,∀{c0:Nat}{yr:ç}(hy:L y=c0::yr),0,vN,∀(ha:(a:Int)=F.A+1) (hb:(b:Int)=F.B+1),0,LS,(im (nT j)),SY,(wo ψ r LS none),Gh,num q.1,Ħ,(p:Int),Lm,num q.2,G4,["way fa",num Ħ,Gh,Lm],vX,([],[],[]),Rg,_ (n_ p0) (ps.foldl wH vX),ũ,(k+1),Kj,zD F ũ,uG,(Kj).getD,rP,1<=s.gv/\0<=s.gt,AA,∀ Þ{s:Sl}(hs:rP),0,Z8,(xQ (xE (Ĥ0 rfl))),sV,(zE Ń rfl),LF,(yt (pG Z8 (zQ (zK sV rfl (ſ 4 4 true)))) rfl),ϭ,λ s=>Î (s.p=p),Ţ,[_,by cases pu <;> rfl],Ž,xr İ,Η,oY (Ž) p q,Ϯ,_ F m p q,Ğ,p.length,ŉ,_ F.A F.B,Θ,_ F m p,Na,_ (xQ (xE (zE (zk rfl (zk (xh rfl Ε) rfl)) hw))) rfl,ύ,Ĺ3 (pu:=s.pu).mp,ū,zD F k,Χ,by exact ext ?_,BP,(L x).drop,Nn,by rw[strSub_toList];change (BP a).take _=_,QN,by congr 1;ext Χ;change (strSub x a _).cps.toList=_;ext Nn;rw[e,Nat.add_sub_cancel_left,List.take_left],U_,by change ((e J).bind _).bind wI=_;rw[h];change (if inR (n:Int)=true then ↑(rangeT 0 (n:Int).toNat) else none)=_;rw[Ç (by unfold inR;simp;lia),Ê1];congr 1;show zd9 λ k _=>by rw[zfH],ź,(y:Int),Ke,(x:Int),r_,["lasts fa",num Ħ,num Ke,num ź],Ý,∀(p:Nat),0,sO,À (vq s.pu),FW,_ LS (im (sO)),E5,ĳ7 (Ž),NG,ka [Ġ]=↑(E5),AV,∀(R:Ż4 İ),0,qG,∀(hr:NG) AV,0,uv,_ zi HG,ű,(zb 3),ħ,(cI 1),yi,(za (zc uv ħ) ze),RL,(za (cS (Ä "way fa")) (za (zl y9 (za ű ze)) (za (zl y9 (za (zc uv Ľ) ze)) (za (zl y9 yi) ze)))),ı,ps.length,ņ,zA q,ŀ,im (ņ),ğ,_ ⋯ ⋯,ã,absurd,vY,rs.map zN,ώ,È (vY),Ĳ,qs.map,Ő,os.map,Û,∀(q:Ó),0,Ō,fresh,t7,∀{last:Į},0,EZ,∀ t7{Ō:ç}(s:St ĕ Ō),0,ĳ,∀(pu:Bool),0,Ι,x.length,ŗ,F.ws.length,BQ,last.getD,í,(zb 0),Ř,num Í,rW,(cS (Ä " ")),A5,(Ð (Á ts)),Ĭ,l.length,Κ,wx F p q,Lk,(ū).getD é,Ÿ,ws.length,Nx,∀(hl:Ÿ=fs.length) (hm:Ÿ<=100),0,OP,[Ä p.1,Ä p.2],QZ,ws.zip fs,TR,∀ p∈ QZ,i9 OP=↑ è,Ln,mG.lookup w,qf,λ k=>Î (k=w),NZ,((mG.map (·.1)).any qf),Xi,∀(hw:NZ=true) (hk:Ln=↑fs) Nx (hf:TR),0,sX,bs.length,MQ,r.length,KJ,MQ=sX/\∀ (i:Nat) x b,r[i]?=↑x->bs[i]?=↑b->b.1<=x/\x<=b.2,Jz,(Á ((kn 13).map Ò)),r9,im (Ä (pM bb)),sA,im (zA (A,B)),FT,λ x=>Ò (we x),vP,im (Á (bb.map FT)),NS,[r9,sA,vP,im Jz,none,none,none,none,none,none,none],ĩ,L2.yx,EF,by unfold ĩ L2.px;simp,LJ,zo Å (by change ĩ vh 0=_;ext EF),F5,Ev->ä Bool,ř,List (Ĥ),ql,sizeLine,BB,ql=16777216,ů,eq_str,IE,((zQ (zK (zK Å hs) rfl (ů s kk Â))).trans (É some hq)),ĸ,∀{α:Type},0,Λ,F.yz s.pu,ϯ,_ pu yz give get,Ϗ,wA ĕ Ō,E8,(.im (Ä row)),S_,.zL ks ts,L8,(.im EW),BM,[↑(.im (S_)),↑ E8,↑ L8,v],N3,(zk rfl A_),JQ,(zX (zE N3 hmx)),ϐ,y.length,Gj,by rw[ze6,zdH];lia,F0,(0,12),MR,[F0,F0],ï,by constructor,Kc,_ (hns n hn).1 (hns n hn).2,II,[_,by obtain⟨m,rfl⟩:∃ k,m=k+1:=#[m-1,⋯]],Ł,ws.map,Dl,(Ä w),sN,(.im Dl),Ee,ž9 F p,ϰ,(Ee).map,Μ,#[[c].toArray],JV,told.getD k [],vH,_ (zo (zo Å (Œ8 F)) rfl hi) Å,Ż,plainT,vS,Str×Str,Y0,∀(hk:Ln=↑fs) (hm:Ÿ<=100) (g:vS->T) (h:∀ p∈ QZ,iC [S_,Ä p.1,Ä p.2]=↑(g p)/\Ż (g p)=true),0,K6,strSub x a Ι,Α,zA4 _,Rt,by congr 1;ext Χ;change (K6).cps.toList=_;ext Nn;rw[zfW (by rw[zdI,oq];show Α),e],JJ,ok.b1,Ų,ok.a1,Ϡ,zB.yz,tf,by split <;> assumption,Th,by have:=Ų;have:=JJ;unfold Ϡ;ext tf,Ja,(F.yz (!s.pu)),GA,yX s.pu q,OI,min (GA+s.gt) Ja,NR,(xI s.pu (ģ-s.gv) (OI)),Ο,∀{r:ä T},0,R5,∀{x y:T}Ο(h1:fa J=↑x) (h2:fb J=↑y) (h:f x y=r),0,ο,w.f=p,ϱ,∃ w∈F.ws,ο,Js,num n,ł,(Js),Gk,(k+1:Nat),se,(Gk:Int),Kk,wc Jr,Ov,Õ "; " (Kk),Ļ,.inr,N4,Ü ⋯,TY,(fz (É some (zg6 h5))),Am,(Ì4 MI MI 9),O7,(zt Am (zt (yI TY ((ĵ6 rfl uB rfl (Ļ h2)).trans (É XF (N4)))) uF)),Ŷ,RN.start,ő,List α,BL,(x,y),Jf,[À a,À b,À c,À d],u3,qQ F s q j,sG,(u3),Ĩ,∀{k:Nat},0,Ŋ,∀{A B:Int},0,AW,by simp![zA6,zd0,ze4,List.sum_nil,zC0,zdD,e];lia,ra,zU ((ū).getD x.1 []) x.2,A6,PQ Ï a b,Gu,(A6).countP,qE,Gu (λ x=>ra),Ö,_ p hp,R9,∀(hq:∀ r∈qs,kj (Ő Ò) r),0,Hm,ke many r,Zi,∀ r∈ws,Hm,BS,∀(hw:Zi) R9,0,LO,[_,by rcases hb with rfl | rfl <;> decide],Fs,qR (by rw[zA3,hw];rfl),tG,p.getLast?.getD (-1,99),uU,Option.bind,vQ,(uU · _),DE,(zdR Ë),w_,_ (É vQ (zE rfl (ĉ6 F Ö nS))) (zE0 DE (by rw[List.length_zipIdx];lia)),ţ,Txt.split,tK,((j+1:Nat):Int),ŷ,Ev->ä (Ù),Ś,zB0.mpr,Ŭ,(k:Nat),Bx,im (nT i),IA,q.1+w.a,a9,im (À (IA)),Gb,q.2+w.b,Uk,im (À (Gb)),ê,im ϊ,Ot,[ê,ŀ,Bx,im (È [À w.a,À w.b]),a9,Uk],rV,È ts,GX,(rV),LD,(.im GX),vA,È (bs.map zA),LX,[↑ LD,↑(.im (vA))],GS,("floor":Str),qL,by change MP;rw[h],vF,by ext qL;rfl,J5,ya s.pu r,TK,J5-s.gv,Mf,yX s.pu r,yT,(xI s.pu (TK) (Mf)),ð,.inl,QK,(zt Am (zt (yI TY ((ĵ6 rfl uB rfl (ð h2)).trans (É XF (Ç h2)))) uF)),DD,É ό e,K3,by have:=DD;rw[zC5,zD7] at this,Dm,Î (ο),C_,F.ws.filter λ w=>Dm,G_,.rt (ret x),Jg,test x=true,Vb,(∀ x∈xs,∃ J',xK is J'=J0/\turn g b (enc x) J0=↑(if Jg then G_ else .nx J')),Gr,Builtin.Str.strKind,Eg,LL Ϯ ts,GI,_ F tb p q,AR,_ GI (Eg) (im (nT t)),B6,ps++[r],ϲ,Õ y (B6),Ť,F.stall p,vJ,List (Į),t9,ns.map,ϳ,t9 Ú,Ij,beq_eq_false_iff_ne.mpr,Bu,"floor fa "++t,LW,(zQ Ŀ),Kx,(yt LW rfl),Yd,Option.isSome,E_,os.filter Yd,Bs,(zX rfl),Kq,(yI (zQ (zK Å (É ϋ (zg6 hk)))) Bs),Tq,_ (pG Z8 hn) rfl,AP,mf (l s) x.2,HZ,l (!s),OS,kY (HZ) sh x.1 (AP),Qg,∃ w∈ OS,(w.1<=y.1\/w.1<=z.1)/\(w.2<=y.2\/w.2<=z.2),Jq,by rintro⟨p,hp,h1,h2⟩,Œ,zB6.mp,ϴ,Int.le_trans,Gp,Á (Ő tO),Ĵ,by dsimp only,ś,_ () (),Ź,Gd A B b,Ν,b.length,AD,Txt.contains s c,An,(mX w).map,qj,(An λ c=>T.bl (AD)),Gi,(QZ).map,UT,pj N [S_,row],ng,(UT).set 2 ↑(.im w),ť,∀(last:Į),0,Ϣ,ő5 ns,ϵ,(.im (Ϣ)),BG,zF Jr,Ϸ,(.im (BG)),Vo,(F.ws.map wW),HE,F.ws[i]?=↑w,Td,by .rw[Ç (Ļ h2)];show zO (pre _ (x9 (yI (t1 Ë (zQ (zo Å (É š (zg6 h2))))) rfl))) rfl,ŭ,(zb 1),Lv,Txt.replace,t4,Lv p ">" " ",Gz,PySem.W.KIN.num_reads,ug,∀{f y:T}(hf:Ż f=true),0,TZ,∀ ug {p a b:Int}(hp:0<=p/\p<=13) (ha:0<=a/\a<=13) (hb:0<=b/\b<=13),0,fC,_ s.pu (Λ) s.gv s.gt,Ϟ,zD4 _,JS,s.len,VV,#[JS,s.gd],SF,[_,#[[],last,rfl,λ r hr=>by cases Œ hr;show VV,rfl,Ϟ]],qk,(zb 2),Ey,_ zi qk Ľ,SH,zc Ey [↑(.im (S_)),↑ E8,↑ L8,u],Lz,(fb J).bind _,FC,(fa J).bind _,Pt,by change FC=_;rw[ha];change Lz=_;rw[hb];change (f x y).bind _=_;rw[hf],UX,wh p.1 p.2.1 p.2.2,AO,ts.zip bs,Xt,(AO).all λ p=>UX,FL,_ F (zD F j),WZ,λ wi=>!pY FL q wi.1,uf,(yt (zQ (zK Å (É ϋ (zg7 hk)))) rfl),rG,È [À w.f,À w.t,À w.a,À w.b],ĵ,∀(k:Nat),0,Ej,decide_eq_decide.mpr,ϝ,J.set,bF,(Á (ts++us)),Od,(.nx (ϝ i ↑(Ð bF))),GV,È [À F.A,À F.B],Dg,os.any Option.isNone,Rb,0<=q.2,F6,0<=q.1,Gv,(F6/\q.1<=F.A)/\Rb/\q.2<=F.B,Kz,Classical.byContradiction,GB,s.1.length+s.2.1.length+s.2.2.length,GD,HE/\ο/\pY F (zD F (k-1)) q w=Â,Ŧ,∀{f g:zEO},0,IY,∀{r:ë},0,v5,∀ IY(h:į6 r),0,Ø8,by let#[r,hr,rfl]:=â hp,sy,∀(h0:J[i]?=↑↑ A5),0,Ā6,∀(hl:ķ+us.length<=10000),0,dX,∀{ts us:Ù}sy (h:f J=↑(Á us)) Ā6,0,uH,rows.length,Fj,zg6 ⋯,sT,À Í,Rj,by have hx:yb Â (sT) (À (se-1))=↑ è:=(ſ Ë Â).trans (É š (Fj)),BK,xs.map,GR,(BK λ x=>T.bl (g x)),E4,Á [Ġ,Š,À q.1,À q.2],Uv,by simp![zE5,Ķ,zfL,List.contains_eq_mem,decide_eq_false_iff_not] at hk,Bb,_ (is:=[2]) (g:=zC 2),LM,∀ p∈ps,c0∉L p,ϸ,(i:Int),DS,by ext Ĵ;lia,Ig,_ (À i) (À j),B5,Î (i=j),eg,yb neg Ig=↑(.bl (cond neg (! B5) (B5))),Ϲ,ns.length,uD,À many,qh,(.im (uD)),Gs,À more,iJ,(.im (Gs)),uJ,(zX (xa Å pm)),tS,by rw[zA7];lia,uW,by ext tS,L_,(F.os.map kt),Te,(za (zr 6) ze),OK,(tupS (za (zr 5) Te)),XS,zO (pre _ (x9 (yI (Ī1 (zQ (zo Å (É š (zg6 h1))))) rfl))) rfl,Ŵ,q::b,JA,(Ŵ).map we,tQ,λ k:Nat=>nT k,Mb,[ê,ŀ,Bx,a9,Uk],Lf,_ x (zc8 _ hx),Pq,_ hA hB hl' (λ x hx=>gb Lf) (λ x hx=>gc Lf) hs,N9,(λ a b=>a.p≠b.p),B0,F.ss.Pairwise N9,Fp,_ n (g+give) (xZ (t-get)),JF,2*span+1,Dj,m/2048%(JF)-span,LR,(uG é),O4,[_,by have h3:zU LR q=true:=(ş7 (m:=m) ok hp (k:=k+1) ⋯).mpr λ j e=>by rw[hd] at e;cases e;lia],qg,_ y (zc8 _ hy),TQ,by .rw[Ü c];rw[zE9] at c;rw[c];show fE enc ret test J0 xs J' h1 λ y hy=>ht qg,Aw,by change (g J).bind _=_,rB,∀(x y:Int),0,EL,∀ rB (os:Ø) (ws qs:ĥ),0,ĺ,∀(n:Nat),0,rL,last.length,HQ,fo.length,ü1,∀{last fo:Į}(hl:HQ=rL),0,DQ,or_false,Pj,[_,by simp![zA5,zd3,DQ] at hk;rcases hk with rfl | rfl | rfl | rfl <;> lia],EV,λ q hq=>h q (zc8 _ hq),IT,ps.map,LQ,(IT zA),ES,(.im (Á LQ)),Lu,Á (bs.map bT),FE,(.im (Lu)),Bv,Ü (by rw[ho];decide),QQ,("keeper":Str),qe,λ s=>s == QQ,Ks,kN p BL,rX,œ9 Θ BL,ku,_=↑(Out.nx (wq F (l++[(Ks,oI (rX))]) Ô _ K)),Jm,pL İ r w,MU,oI (Jm),Ů,Ň6 F p,AU,LL Ϯ (Ñ 14),cF,v∈ AU ↔∃ r∈ Κ,∃ w∈ Ů,MU=v,Ek,È (Ĳ zN),Ŝ,ä L5.W,SX,_ zi (zb f),rJ,(zc SX Ľ),Vr,∀ r,qs++xT r Io=xT (p++r) none,tB,rk s x,R7,p++[tB],AL,F.ss.filter,EO,kO.mp hw,Ga,(by lia:k<=m),JW,gf ok (EO).1 Ga,sg,by let#[x,hx,hp]:=zdA.mp hp,Vy,∀(h1:(w == GS)=Â) (h2:(w == ("mirror":Str))=Â) (hA:Ÿ5.lookup w=↑A),0,B4,Ç (zE0 hl ()),KN,Txt.startswith,B8,(.im (À at')),US,(zt Am (zt (yt (fz (É some (zg7 h5))) rfl) uF)),Pk,(yD (xh (zk rfl (zk rfl (zk (zE N3 w1) Ń))) Ε)),Dq,("number":Str),vy,PySem.intText?,ϓ,xs.length,E7,(Ð (Á [])),ŋ,∀{ts:Ù},0,Aj,∀ IY(h:Ĭ8 r),0,Ġ2,(zX (zK (x:=Á [À 1,À 2,À 3,À 12]) rfl uB s3)),qI,(.im a),Pa,[↑ qI,↑ A5,v,↑(.im (zN [p,b,c,d]))],A8,by rw[oS,hg,zC9,xA,zC9,hf];rfl,rS,λ r hr=>?_,Li,by rw[zD6];exact zd9 rS,Av,(zk rfl (zk (xh rfl ω) rfl)),Ϩ,∀{y:T},0,HW,∀{o:ä Out},0,UQ,∀{b:Sm}Ϩ tp HW(hg:g y J=↑J') (h:b J'=o),0,tU,occurrences,Dx,Õ y [p,r],T3,tU (Dx) y 0 (Dx).length 1,Aa,(λ k:Nat=>Ú (0+Í)),Jp,m/64%(JF)-span,HD,Á ((p0::ps).map Ò),Ng,(Á ((i++[l]).map zA)),Ra,[A,↑(Ð Ng),↑(.im (zA x))],MY,m6 a b,Vq,(MY).map (eN Θ),Eo,(zk rfl Dh),F4,(zk rfl Eo),IC,(pq hy),sY,(ŏ6 IC).mpr #[_,Η0 e],FK,List.cons.inj,yU,(rows.map zN),M6,Ú (wi.2:Int),Et,_ ((JV).getD é) q,rl,b.map,gG,(rl zA),Ξ,by split <;> lia,NM,(xQ (xE (zE A_ brims))),Wj,_ (pG NM (xQ (xE (zE A_ own)))) rfl,Ed,by simpa [ő0] using hk,GF,Option.map_some,P_,by have k0:k≠0:=λ h=>ō6 hp hq (by rw[<- h];show hd),Qi,∀ s∈F.ss,F.os.getD s.p Â=true,Ql,∀ x<Ï,∃ w∈F.ws,w.f=x,RM,∀(hw9:ŗ<=13)(gw:Ql)(hst:Qi),0,ZO,_ s.pu x,DN,(Λ+1-ya ZO).toNat,KL,∀ s∈os,s="keeper"\/s="taker",HF,[↑ sN,none],ϡ,BQ é,Dt,∀ t7(hg:∀ p,Gd ŉ (ϡ)),0,rb,∀{w:Wy},0,ż,∀{i:Nat},0,ç8,∀ ż rb(hw:HE),0,Ű,zB9.mp,vC,[_,by rcases Ű hp with hp | hp],J6,by let#[t,ht]:=(ŏ6 IC).mp h.2.1,J4,L4.vp (pH rows),ϻ,qs.length,I_,λ wi=>Î (wi.1.f=p),ϙ,(yb Â),Oc,(zc ϙ sf (xc ze)),SU,im (.dn tb),HB,∀{b c:Bd},0,KY,Gd A B c,uT,∀ HB(h:Ź) (h':KY),0,Å6,∀(he:nq t=Â),0,yO,(zX (xh (zk rfl (zk (zK sV Å) rfl)) Ε)),U5,(x9 (yI LW rfl)),L7,(zE rfl h1),Ac,(zX L7),YQ,zO (zt Ac U5) rfl,aq,by let#[w,hw,rfl]:=â hc,LZ,by let#[n,hn,rfl]:=â hp,UB,_ (xQ (xE (zE (zk (zo Å (fM _ p hlen)) rfl) e2))) rfl,uk,oS pick g xA f J y=↑↑t,MT,ts.all,Ho,(sb æ),Og,λ r=>xP r Ho,qu,(MT Og),Gy,num (Í-12),sL,(L (Gy)).contains,ŝ,∀(ns:ë),0,HL,∀{n:Int}(h:Nm n),0,AG,α->Bool,ý8,(zl xS (za í ze)),He,os++(Ł wX++Ĳ pX),HI,fr.map λ Ŭ=>Ú Í,Δ,À 0,Jo,[È [Δ,Δ]],Ũ,(cI 2),TX,zV (zc wg (zc uv (zc ϫ ħ)) (zc ϫ Ũ)) SY,Dw,1<=ϐ,KW,∀{x y:Str},0,D0,∀ KW(hy:Dw),0,rm,(u J).bind _=_,ϔ,Gd ŉ b,uA,List.replicate,UA,zO (x9 (yI (ě8 (xQ (xE (b:=Â) rfl))) rfl)) rfl,FQ,(Kk).length,fS,yY rfl (nk ī),sP,(Ä (num ϸ)),Sy,(ID).map nE,ž,zC8.mp,Ld,by let#[w1,w2]:=ž hw,M0,by rw[zA6,cp,h];let#[J',h1,h2]:=ht x zc7;rw[h2,zdB],SN,_ (ts:=[È (Ő Ò),È (Ł zN),Ek]) h.x h.y rfl,NH,_ #[] ś ś () rfl ś rfl,Ff,_ Iw d18 d19,Ip,_ Ff d20 d21,Fc,_ x y Ι,vB,∀ k,f<=k->¬ At Fc k,IJ,many+more,Kp,(lQ a s ↑(.im (Ä p))),Ag,List.Pairwise.imp_of_mem,BC,pM (Ŵ),Hv,(wo ψ r' LS y),En,(wq F l (Ę) c1 c2 c3 K),O1,["_law_k","_law_floor_here","_law_place"],Ph,by change FC=_;rw[h1];change Lz=_;rw[h2];show h,Ll,os.all md=true,gq,by have:=DD;simp at this;lia,Qa,by ext gq,UU,[↑a0,↑a1,none,none,none,none,none,none],HY,ļ6 (pu:=s.pu).mp,Df,(Ä "keeper"),v9,Ś #[w,hw,rfl],Ka,b=0\/b=1,KH,∀{b:Int}(h:Ka),0,Vv,[_,by ext G0;cases d20;cases d21],rn,[_,by ext Vv;cases d22],R1,λ r=>xP r (wb n),EG,(MT R1),uh,(À n),Iy,[↑ sN,↑(.im uh)],YK,m x<=k/\(g x).length<=m x,ϕ,∀(h:kJ Jr),0,sv,_ R hp hq,T_,by let#[h1,h2]:=kB hd;rw[ĺ9 sv ⋯] at h2;unfold lM at h2,Ϥ,Dk ϊ,Kn,_ (x:=Ϥ) rfl,JN,_ mainGlobals mg,VW,_ FA d2 d3 d4 d5,Ve,_ d2 Dn,Va,_ Dn d7,u5,_ w.t [],uN,(BQ u5),JY,zC1.mpr,Aq,JY ⋯,u7,λ i h1 h2=>?_,ń,T.tup,ϖ,(.bl Â),Dc,pre++[last],TN,λ b g h=>pG (zQ (zo Å (É š (zg7 h1)))) h,Kr,∀{fa fb:zEO},0,ÿ4,∀{f:T->T->ä T}Kr,0,Lc,∀(hm:1<=many) (hm8:many<=8),0,qK,∀(ha:P a) (hb:P b) (hc:P c),0,qa,zC1.mp,G7,((r::rs).map zN),Ad,(zN r),B1,(.im Ad),Zg,[↑ qI,↑ A5,↑ B1,w],Eh,partsFrom,Tc,by subst hc;have e2:=Η0 (Η0 e);rw[oq y] at e2;change strSub x a _::Eh x ϐ _ cs=_,N8,q_ r=true,TV,∀ ts,t=rV->∀ r∈ts,N8,ĉ5,ļ6 (pu:=s.pu).mpr,OL,by rw[nr,lL] at h2;show#[p,hp,ĉ5 (by rw[nr,lL];lia)],Q7,_ [(["word","form","self"],[none,none,↑0])] H.RI,O0,by unfold ya yX;ext Ξ,My,[↑ sN,↑(.im (Ä s)),↑(.im (À m))],IM,(Ő _).length,Mc,∀{i j:Int}(h1:fa J=↑(À i)) (h2:fb J=↑(À j)),0,uw,by rw[<- oq,hy];simp,FN,tU x y 0 Ι n,PN,Î (1<=ķ)&&Î (ķ<=8),qA,rowOf,FG,(ts.map qA).map fst,uC,StrLaws.join_length_le,va,(zt (xU rfl h1) rfl),PX,zO (zt Bs va) rfl,E9,(vd (jF (n:=Ħ) ğ)).1,LY,_ (x:=x) (y:=y),TF,È [È [Δ,À A],È [Δ,À B]],mU,∀ r∈ Κ,∀ w∈ Ů,∃ j,Jm=↑j/\j<=k,JI,_ "keeper" "taker",Jy,k*s.gv,OW,∃ k:Nat,zU b (xI s.pu (ģ-Jy) (GA+k*s.gt))=true,Rp,by .rintro⟨k,h1,_⟩;exfalso;have:0<=Í*give:=ze5 ğ;lia,FU,[none,↑1],qB,(by change 4<=100;decide),Ib,by rw[zg1,zdH];simp,Ii,partsBetween_eq,tX,(pN ĕ p),Lg,l.getD,ϗ,zD0.mpr,Ρ,(À k),rQ,(.im (À span)),NX,(cn (zk hb rfl) (Nat.le_add_left 1 99)),Ņ,L " ",O5,(x9 (yI Å)),ZD,["floor","fa",t],P0,(Á ((ZD:Ø).map Ò)),Hd,_ d (ð k),Qe,m8 [À y,(xp Hd).getD (À y)],Ai,(ID),Gn,os.filterMap id,Ī,∀(t:T),0,œ,∀(b:Bd),0,DA,∀(told:vJ),0,rj,(Ñ Ï),IP,_ 2000 [] (Ŷ F) rj,Nb,beq_iff_eq,CR,(many:Int),Hf,#[e3,e4],Qx,Á (Ł Ò),LH,(cB " " 1),RE,K w.params,sD,by unfold xZ;ext Ξ,DP,Î (a<=i)&&Î (i<=b),ľ,nofun,H_,b.flatMap,sU,(H_ g).length,bA,ss.any λ s=>Î (s=x),Jj,_ rfl h,LI,#[_,pW Jj,?_],TB,_ (λ r:T=>r) _ ts (É some (ze9 ts).symm),Τ,_ Ŀ rfl,ş,_ r hr,eF,by let#[a,b,c,d,rfl,h1,h2,_]:=hw ş,EU,g J=↑(.bl b),Dy,Ý7 (hg w.t) hq,SO,(za (cS (Ä k)) (za (cS (Ä l)) ze)),Ao,Builtin.bitAnd,HP,(.im (À num)),rN,Õ " " (Jn),G1,(mf (l s) y.2),M_,Ñ told.length,Hj,(zo Ŀ Å),Qz,(xh (zk rfl (zk Hj rfl)) Ε),Ge,pL İ q w,UO,∀ w∈ Ů,∀ j,Ge=↑j->k<=j,Hg,Ğ<=1000000,RX,∀{p:Str}(h:g J=↑(Ä p)) (hp:Hg),0,MW,_ (k:=0) rfl,Sb,by have g2:Gd A B x:=h x (Ň);have l1:=g1.pq hA.1;have l2:=g2.pq hA.1,La,(ů Ë true).trans,EC,by ext qL;show h',uY,(wq F l KO none K),QP,∀{i j:Int}(h1:f J=↑(À i)) (h2:g J=↑(À j)),0,ā6,(["floor","fa"]:Ø),Ŕ,∀{b:Bd},0,FF,æ=many,O6,∀(hx:0<=x/\x<=4) (hy:0<=y/\y<=4) (hn:FF),0,sR,List.map,M8,by change ↑(T.bl ((sR Ë).all id))=_;rw[zdY],rF,a+(L p).length,qJ,(told++[last]),Ϙ,xG ĕ p,DF,[_,by exists w2],sk,h w w1 (DF),BI,_ F (ū),rM,xG BI p,EA,se*s.gv=Jy+s.gv,tY,zD F (j+1)≠zD F j,J_,MT λ r=>xP r bs,DC,p.toNat,AF,by simp[h],BH,(∀ r∈qs,kj os r),Ie,m_ h0 (k:=2) rfl hc,DG,m_ h0 (k:=3) rfl hd,uL,(ss.map Ò),B2,(yt Å),nF,bd.map (pA w.a w.b),tV,(zA4 m),vE,(wo ψ sG ì),J7,_ (zC 6) Ĥ8,Nh,turn J7 (nT j) vE,ō,_ f g J,uz,α->T,Si,∀{b:Sm}(enc ret:uz) (test:AG) (J0:Ev),0,tj,_ (c0:=32) (yr:=[]) (),G9,∀{row w:Str}{ws fs:Ø},0,Bp,∀{g:Ó->Bd}{m:Ó->Nat},0,Pl,[_,by obtain⟨k,rfl⟩:∃ j,k=j+1:=#[k-1,⋯]],Uw,ĩ (ϳ) Í=↑(À (ns.getD k 0)),Dz,_ (k:=1) rfl,Ss,(zo (x:=BG) Å (qR Dz)),nC,l++ys.map λ y:Nat=>eN Θ (x,ź),Ro,l++(xs.flatMap (kU b)).map (eN Θ),GP,_ pu (xI pu x y),OY,_ fd ["_law_script"],Qc,_ OY (nc K (zM zm ō7)),AQ,r.1<=p.1/\r.2<=p.2,AN,Ś #[r,hr,rfl],QU,by unfold pA xZ;ext Ĵ;ext Ξ,OM,zO (zt (yt Tq) (yD (bw hc))) rfl,A7,rs.length,Af,["thing"],tR,(.im (Á os)),Di,λ n=>w == Js,Υ,Α6 x y,Sg,vk i f J=↑(.nx (ϝ i ↑ A5)),Qh,[clip a,↑b,clip c,clip d],Fz,w.length,L6,Bool->Ĥ,Jl,List (Key×T),SK,[Ġ,À p],FY,wA ĕ fr,mK,(nT k),pv,zU (Lk) q,KZ,zU (uG x.1 []) x.2,A0,(wq F l Kb c d K),uO,(Κ)[t]?,Wc,(ϰ λ Ŭ=>Ò (Ř)),Ds,∀(hA:A<=12) (hB:B<=12),0,ħ0,by rw[<- ze1,ş2,List.zip_map_left,zD6];rfl,ϟ,zC6 _,Qb,xv.mpr #[p,hp,ϟ,ϟ],TH,(0<=p.1/\p.1<=A)/\0<=p.2/\p.2<=B,uK,pA a b q,Md,(uK).1<=A/\(uK).2<=B,Pd,∀ i,xx (Lg i []) (m.getD i []),O9,(F6/\q.1<=A)/\Rb/\q.2<=B,Q9,(ě2 rfl hz' λ r h=>(hr r h).2.1),RA,PyProof.Rows.split_weight x y hy,Zp,[_,by rcases h with rfl | rfl <;> decide],BV,by dsimp only at h1 h2,Qd,by rw[zB1,ze7,Ç hp];rfl,Au,by intro p hp;ext Ζ,GH,by .simp![zC0,zA7];lia,Km,by let#[x,hx,rfl]:=â hp,sS,(b::l),qt,Î (a<b),CE,by have h':qt=true/\pV sS=true:=by simpa [pV] using h,QA,Ĺ3 (pu:=s.pu),VN,by rw[QA,nr,lL];lia,Dr,some r,PB,match uO with | Dr=>ϰ (jN İ r) | none=>[],Nz,by change (c J).bind _=o;rw[e];show e',Kv,∀(yz give get:Int),0,Ϛ,∀(b c:Bd),0,Ã4,fst r,yW,k<many,Vz,∀ k:Nat,yW->∃ r∈rs,Ã4=Í,tL,["floor","place"],UL,(" ":Str).length=1,MS,λ p=>T.bl (oB q p),GL,by simp[dep],Ψ,∀{n:Nat},0,SA,by unfold zW;rw[Ç hn,h];rfl,Fh,Õ y (p::qs++[r]),Ea,lh last fo,K7,λ p hp=>?_,Gf,(zX (xj Å d624)),KS,(za rW ze),DJ,Str.length_append,vW,((h0 Ë).mpr rfl),HK,L4.vp rows,JT,hg.xf x hx,ŕ,œ9 Ϯ,yR,im (Ϥ),Nc,qW 2 (xg (zC 7) (xg (zC 9) pJ)),v8,["things"],JD,∀{ps:Ø},0,Kg,∀ JD(h0:ps≠[]),0,FO,_ hs.1 hs.2 100,Hx,∀(h:∀ e∈l,e.1≠k),0,í2,(Ϗ).getD é,vD,È os,Qj,È [a,vD,È ws,È ss],HC,Í<(Ϲ:Int),NF,(zQ (zK (xa Å ()) JR)).trans,Rn,("a":Str) == w,MG,(zl y9 (za (zc zi rJ Ľ) ze)),Nj,(zl y9 (za (zc zi rJ ħ) ze)),ym,[↑(.im (Ä t)),↑(.im V)],IV,L (Ř),vG,tab.lookup w,BE,(Ð (.xk d)),Bc,(hmem _).mpr,PH,(p,q),NP,λ p=>(MY).map λ q=>PH,SM,(È [Š,È [nT x,nT y]]),Hl,∀{xs:Ù},0,Hk,u J=↑xs,Po,∀ Hl(hu:Hk) (hl:ϓ<=100),0,G6,by simp![zdM,zfO,zd1],OV,ã (Ĝ4 e h.1 z ht) (hf p zc7),Ti,ok.ss s (zdL hs),Ay,(by rw[h1];rfl),AY,Ł (·.map clip),Q8,[Á [f,À p,À a,À b]],TP,(Á ((rl (rk Â)).map zN)),MF,ń [À (wi.2:Int),wW wi.1],Iz,_ rfl ⋯,U9,_ (is:=[4,5,6,7]) (g:=zC 4),sI,List Sl,GO,∀{s:Sl}{ss:sI},0,Ab,_ ok hm hr R,DL,Eq.trans,HS,pA a b r,Ef,bs.foldl,A3,pN F l p,LA,hb.xf Ö,ud,(ķ:Int),QB,λ c=>Î (c∈L "0123456789"),WD,_ (zo Τ ho) rfl,W7,(zQ (zo WD tk)),sJ,_ ok sv hk hd,qv,pV (Ĳ fst)=true,R0,by have h1:=(vd ha).1;have h2:=(vd hc).1;have h3:=(vd hd).1,B_,_ (ya s.pu p) (yX s.pu p),U4,by change (c J).bind _=_;rw[h];show h',RO,[↑(.im ϊ),↑(.im (À p)),none],Qr,λ c hc=>h c (by rw[e];simp[hc]),X2,λ k:Nat=>ń [sT,rT (JV)],Oi,[_,by .rcases Ō5 (h.o Ö) with rfl | rfl <;> decide],Iv,m/8%many,Om,(È [br,vD,ώ,Ek]),J9,List Key,Ia,[Ļ "fa"],QI,(Ð (.zL Ia [Ġ])),OZ,["floor","place","pair"],EJ,[x,y],NA,(iy A B a b bd),Fv,oZ ϯ n g t,Fd,F.ss.length<=60,Hh,(by rw[mC,mC]),KU,a::b::l,sd,r.getD,ET,À (0+Í),Q4,zE4.mpr,MZ,["a","b"],Qn,by rw[zd0,zd0,zd1];rfl,Nw,λ c=>Î (c<128),rD,(fs.map Ò),Hb,(zQ (zo Å ht)),LN,(p.foldl kA []),BR,(zE rfl (Ą1 F)),MC,b.Pairwise (λ x y=>m x<m y),F_,hm x hx,PM,yb Â (kt b) Df=↑(.bl b),J8,ĩ Vo ϸ,G8,Ì8 F p,jU,(G8).filter,Az,(Ä (Ř)),cy,qQ F s q (j+1),YE,(wo ψ (cy) FW),HJ,pairs_len,Jv,ő8 İ a b,AM,V.Fl Jr,uX,∀(b:Bool),0,RU,∀(h:f J=↑(Á ts)),0,JH,∀{a b:Nat},0,Jd,∀(hk:k<=m),0,G5,∀(h:o7 q),0,uP,_ F p q k (AL ϭ),Β,∀{l:NL},0,UK,by have p0:=hb Ö;have g0:0<=ya s.pu p/\0<=yX s.pu p:=O0,Ly,ĳ7 told,UR,[im (Ly),Ę,ŀ,none,none],Br,(Gi λ _=>T.bl true),Uy,by .intro r hr;let#[q,_,rfl]:=â hr;show Ĺ7 q,Pu,by change (g J).map _=_;rw[h];rfl,De,(a J).bind _,F7,λ p:Nat=>nE (ŵ),qc,(vD),tP,(p.foldl lU qS),Hr,∀(g t:Int),0,EN,∀{m:Nat},0,sr,∀ EN(hm:m<=199),0,WS,PyProof.Rows.len_join_cons,sH,s.2.1,A2,s.2.2,Ĭ1,(s.1++[p],sH,A2),QR,("floor fa ":Str).length=9,Nf,λ q hq=>Ğ6 ok (hg.xf q hq),N1,_ (λ z hz=>hf z (zc8 _ hz)) e2,IB,_ Ï é hp,Fu,by simp[yb,dep,eqT],R3,_ Ad [↑ qI,↑ A5,v,w],Gw,λ k hk=>?_,M5,_ (by rw[zC5];lia) Gw,uc,_ s n F tb,OU,_ Ã "say" 11 ["self","row"],Zr,_ rfl (zo Å (å5 F s.pu)),jB,by have h:=R.fx.go Ö q hq;rw[Ń2 hd tV] at h;unfold lM at h,EI,[none],Q_,by change (f J).map _=_;rw[h];rfl,Qk,ji Ô _ (by rw[JS];show hp),O8,_ (by simp[bT]) ⋯ λ p _=>?_,Pg,zc uv (zc ϫ ħ) SY=↑(À (J5)),u9,by have n8:=ok.n8,Np,[ê,Ę,im (rT l),none,none],Il,(ĕ6 Ë true).trans,NQ,by change (oW _).bind _=_;rw[fP,zC9,h];rfl,Wm,((0:Nat):Int),QG,show Wm*s.gv=0 by simp,Eu,xT (p++[x]++r) none,yP,by have h2:=HY h1;have h3:=ύ (show xo F p from LA),Rf,0<=p.1/\0<=p.2,PK,õ0.mpr #[hq.1.1,hq.2.1],N2,zc f fa fb J=r,uE,λ i=>Î (i=Í),qy,(Ð (Á rows)),Ji,(za (zr 1) ze),Ih,(s.2.1.map o6),JB,(s.2.2.map o6),ų,num a,Uz,zk hc (zk (Ą3 h0 hk) rfl),Mx,[_,by cases b <;> rfl],rA,(ID).length,qF,(Ä (pM (ŵ))),NI,(il (zE rfl (ò5 F q hq))),Us,(xU (iT ⋯ (hmin _)) hl),K4,Ä (Õ " " G4),OD,_ vL FP lo hw m (cur+1) _,A1,∀(bs:Į),0,yj,∀{f g:T->T->ä T}{fa fb fc:zEO},0,Fe,∀(neg:Bool),0,ϛ,_ rfl ?_,BO,∀(p:Str),0,QX,∀(m:Nat),0,vM,_ (zE rfl hr) rfl,Zj,_ .zx (Gp),R8,by have:=h.ln;simp![wc,zC0,zD7,zA7];lia,NY,mS (ώ) many=true,Me,by change rm;rw[hu];show B4,Xs,_ F (l++[(Ks,none)]) KO,M3,∀ t7 rb(hb:Gd ŉ uN),0,EH,λ c hc=>?_,K5,[_,by exists hl],JG,(Ñ n).map,QM,_ hs' 20 hq,Nk,ĵ1 hg (ř7 QM ş),s_,(Ä x),Ju,rs.map fst,vU,(xh Dh ω),KR,mixed ns k,Fb,Ä "taker",Em,(zb 7),HV,s.1.map Ò,rE,(mz b),Kh,(oP Å ?_),OT,((ng).set 3 ↑(.im v)),QS,È (o.map zA),fT,[È gG,QS],So,(F.ws.zipIdx).filter I_,Hy,Ŷ F::more,kP,(M_).find? λ k=>!zU Et,bZ,∀ k,k<=m->∀ b∈ ū,ϔ,Ñ7,h x hx,Ax,(Ä (BC)),Oh,(ñ2 (oP Å (ă3 hk)) rfl),MD,(zX (zo Ŀ (zo vH) rfl)),DH,by rw[h0];ext Ĵ,FI,∀(h:f J=↑y),0,NU,by rw[zD7,zD7,oq,oq y] at this;lia,μ,∀(s:Rd),0,tI,32∉L p,YF,_ (P:=λ p=>tI) (lb ha),VD,∀ x∈b,o7 x,Q3,∀(h:VD) (hl:Ν<=20),0,Sd,∀(hn:n<=1000) (h:e J=↑(nT n)),0,ã3,∀{os:ř},0,Pf,∀ ã3{k:Int}(h1:↑k∈os),0,Be,by ext Aw;rw[h],PZ,by ext Be;rfl,Qt,ã hA (h.2.2.1 _ ⋯ z),uR,Gd.least,K9,zC8.mpr,EM,zc8 _ hd,R4,λ d hd=>hb d (EM),JO,fo.getD,K2,mw F q w,Ap,HT.lexLt,L9,Á (ϳ),B9,[Ä k,Ä l],Rl,Bool.true_and,Γ,keeps,CZ,(λ i=>ð ň),sW,(0:Int),Hw,λ h=>ã h ⋯,BW,xK is J,SR,-1000000<=n/\n<=1000000,Oy,((ţ p " ").drop 1).map,LP,ps.foldl wH s,rq,by rw[e];rfl,Vs,(List.mem_map_of_mem h),PY,ĩ L_ Ħ=↑(kt (ϩ)),BJ,((Kt).map Ú),Jb,(told.map rT),uZ,(St.start ok),vg,(il (zE rfl (bJ F Ö))),Ni,ÿ2 h.1.1 (ϴ h.1.2 ()),Rz,(yt (ē7 (h q zc7)) rfl),A4,tK*s.gv,Sv,λ r' y=>zo (a0 r' y) Å,t5,a.toNat,MO,nk (n:=Ħ) ī,U3,(za (zr 4) (za OK ze)),t6,wq F l KO d K,Ba,λ y:Nat=>nT y,sM,qa (Ň),RB,∀(hv:v J=↑z) (hf:f J=↑ Ρ),0,Rm,_ n.toNat (by rw[zC1];lia),Qy,∀(ha:L w=a::as) (h102:a≠102),0,Py,∀(b o:ß) (hl:Ν+o.length<64),0,M9,_ F p q ũ [] q,Dv,ChainG,Nr,Dv Fc a cuts f,A9,Gd.nil,RV,cP Ë A9 (Ů8 ĕ p),Ux,vm ō=↑(.bl (a&&b)),SD,[↑ E8,↑ L8],Ru,(by rw[í4 h0 h1];rfl),Qv,(BC == ("none":Str))=Â,OB,(Á ((AL ϭ).map wZ)),Tw,(wo M9 ì),UD,(zQ (zo Å (La rfl))),Ol,by ext sg;let#[y,hy,rfl]:=â hp,KA,∀(Ō:ç),0,ME,[_,by .rintro⟨e,he,_⟩;cases he],nV,∀(hs1:1<=span) (hs2:span<=12),0,PR,by rw[zd0,List.find?_nil,pd,h],qb,by unfold lQ;rw[zE7];rfl,Rr,_ (ts:=[_,_,_,_]) Å,aQ,by have t0:zV Oc SY=↑ Â:=zQ (zo Å (ù8 s ss)),Wv,o.map (rk true),Tg,(Á ((Wv).map zN)),JK,ya s.pu sG,p9,by unfold turn;rw[hg];show h,oz,by change (v J).bind _=_;rw[hv];change MP,Ez,_ ì none,UE,∀(ha:fa J=↑x) (hb:fb J=↑y),0,PU,by rw[Đ0];simp![wh,zE5,Ķ];lia,xw,by have a1:=Ų;have b1:=JJ,Ls,mx (Ek) os=true,XB,zE0 DE (by rw[zC5];show Α),Ut,if n<=12 then ↑n else none,Ur,by rintro p x r e J rfl;have hx:x∈bb:=Ň,yk,by change (fc J).bind _=_;rw[hc];show hg,Fw,[none,none],ξ,PySem,qo,(Õ y ps),QO,List.isEmpty_iff.mp h,E6,zU b q,BX,xx b c,v7,ok.a0,Yw,List.countP_mono_left,W9,List.countP_le_length,π,l.map,El,zD0.mp,AH,lh last (Ϗ),yL,#[p,hp,DS,DS],U6,(Ñ (m+1)).map (zD F),Ko,q_.top he,GW,zE4.mp,KI,(za g ze),IQ,(hmem r).mpr,ED,("b":Str) == w,Fq,(BK enc),AI,_ ?_ rfl,UM,zO AI,eT,Ü zd2,BA,Ç rfl,ς,num c,τ,num d,Ei,m_ h0 MW ha,YG,(IT (·.length)).sum,UP,(L w).all,RW,(om (y:=zA x) Å hq1),q8,rk t y,uI,im (À x),JL,λ wi=>M6,LG,by simp[qO],aH,Prod.mk.inj (ŉ9 z2).2,PJ,ń [nT x.1,zA x.2],tJ,["floor"],IW,∀(x:Int),0,yg,by unfold k5;exact ϗ #[w,w1,?_],Ar,∀(enc:uz),0,Hc,∀(xs:ő),0,Ku,∀(g:AG) Hc,0,Nq,_ rfl (à) (λ _ _ _=>rfl),F9,∀(os:Ù),0,Sq,[_,by rcases two (m/327680) with h2 | h2],Fm,∀(w:Str),0,Sf,_ (is:=[6,7]) (g:=zC 6),cv,(∀ c∈bs,KY),OC,MQ=Ï/\∀ b∈r,ϔ,OJ,(λ a b=>ń [a,b]),Uu,zO (x9 (yI Tq)) rfl,Tn,(zV (zc wg ŭ ý8)),Qu,(Ņ++(L "fa"++Ņ)),gj,Ŏ7 (λ w=>Dm) F.ws 0,TL,dep (À (t:Int))<=60,Vt,[Ġ,ņ,À ϸ],aK,by simp![dep];lia,T4,List.range_eq_range',S8,(Ä (Ŗ0 (rX))),Vc,λ(s:Sl)=>Î (s.p=p),O3,["border","other"],YH,["thing","bounds"],UJ,[(["_law_k"],EI)],KD,by rw[hd] at pre own,Hq,cuts.length,Ox,by simpa [gr] using h2,rY,Lg u5,GN,(j:Int),NT,#[e,he,h1,h2],tm,ya pu q,tw,(Ñ Ï).map,Nt,(Ů).all (pY ĕ q),M7,se*s.gt=k*s.gt+s.gt,Jh,Í*s.gv,M4,(zD F 0).getD é=qS,su,(.bl a),HM,Î (ķ=sX),Jt,#[⋯,hk],ϣ,T.lst,Qm,(L4.kl _).length_eq,W6,#[z.1,zE0 z.2 ()],qH,h.q ş,U8,Υ::(os++p.map wX),Ta,zO (zt B2 O5) rfl,Lh,num p,Rv,"border fa "++Lh,Ft,(Ð (Á S)),JZ,(.im (ņ)),Gx,Wy×Nat,NJ,∀ x∈b,a<m x/\YK,S9,(yD (Ġ8 rfl (fS))),nH,(zt (xU ?_ p3) rfl),MV,im mK,TJ,[MV,ê,Ę],EE,(kw.map Ò),Ry,ps.flatMap λ p=>Vq,YW,(Á (ϰ λ k=>nT k)),UG,nc (RE) (zM zm ō7),BZ,∀(hl:ķ<=10000),0,QF,∀(hg:1<=give) (hgt:0<=get),0,ak,_ 100 (ya ZO) (yX ZO),QT,_ n hi (by rw[nr];lia),uS,∀(hl:uH<=1000),0,É0,_ zi ŭ,rH,∀(h:f J=↑ Dl),0,Ϧ,_ ha hb,OG,∀{qs p:ß}{x:Ó}(hr:Vr),0,Pp,_ mh rW (za (xc zR) ze),ϧ,l true,Sh,by rintro ps p r e J rfl;have hp:p<Ï:=sM,Q2,[_,λ x y=>by cases s.pu <;> rfl],fe,h4 r ((hmem r).mp hr),AJ,(rT last),tW,by simp[zF],NB,∀{a0 a1 a2:W}{d:Jl}{S:Ù},0,RD,(by rw[oq];show Α),Ny,[none,none,↑1],U1,[_,by rcases zeD c (rF) with z | z | z],T5,by rw[ĺ9 sv ⋯] at h3;unfold lM at h3,sj,yX pu q,Pn,by have:=(F_).2.2;have:=(hm y hy).2.2,Mz,mE "tuple" "tuple"=true,RQ,by unfold gQ Ĵ7;simp[hc,ĝ6,ğ9],Gg,∀(n:Int),0,RG,(Ī6 ĕ fr last none),Ki,by rintro⟨h1,h2⟩,JM,Ä "fa",Kl,g J=↑y,tZ,(.nx J'),HR,l.drop,qM,Œ hp,Ma,oU y p q (qs++[r]),Fo,(jt F s),IX,gB F s b,BD,zB.stall,Ic,(lR tX),sQ,l.countP,Wb,rs.zip (rs.drop 1),Sk,ns.zip (ns.drop 1),qp,(wX r),RJ,[↑(.im (zN į))],vI,zeB _ hl,Oj,(He).foldl wH vX,Kf,hq ş,YT,É some (ĵ0 ws fs),jh,(GS::t9 λ _=>Dq),GC,(wZ s),UI,(Ĭ0 F s p acc g t),sZ,getD_mem,f6,(Á ((C_).map wW)),Pz,(lJ ĕ pre).map bT,vT,(Κ)[k]?,IZ,F.ws[k]?,Jx,mw F r w,FJ,kN p q,UY,(E_).filterMap id,Ri,[(["pair"],EI)],K0,∀(s:Sl),0,K_,∀(r:ë),0,T6,by rw[zA7];change 1+æ<=10000;lia,QL,_ hf (ns:=[p,a,b]),RS,∀(h:k≠0) (hk:k<=100000),0,MH,∀(hl:Ÿ<=13) (hl2:ϻ<=8),0,ġ,by (ext N0),JE,lF p=true,O2,[none,↑0,↑2],QY,by have k0:0<=Í*s.gt:=ze5 ⋯ hs.2,rK,by simp[e],Tz,(ķ1 r s.pu),Q5,(by rw[z];decide),K1,by rintro⟨k,hk⟩,av,PySem.Builtin.Str,Đ2,sub.length,XJ,(IL).run.fst.size,fY,iy ŉ w.a w.b uN,Oz,F.ss.find?,Ir,k5 F Ō p,IH,s.at hp hw,u_,ok.ws w w1,OA,(Ŷ F).getD é=qS,sE,last::more,GQ,(xI ZO y),rg,[_,by exists h2],Ae,jr F s n q,Tj,ji (λ p=>rM) IB,Ik,zD F (m+1),Qs,λ u=>!nq u,Ob,gC f g fa fb fc J,Tt,(zb 0 J).bind _=_,Rq,mO GR=↑(BK g),QJ,Î ((1:Int)<=ud),yV,(xP a MR&&iY qc),GU,#[e1,e2],Ŗ,(B7),rp,#[_,rfl],Lj,λ n hn=>?_,sF,(xU hr h1),O_,(zX (zE rfl hmx)),qD,nums.find?,uM,num x,K8,zA BL,DR,L "stall ",Ou,λ c=>Î (c∈L s),tM,(yY hc ?_),rZ,zO O5 rfl,RZ,(by rw[zeU];lia),T9,gN [Ä row]=↑ EW,Ts,ļ5 Hi (Ŗ4 (Jn)),Q0,["name","text"],HN,L4.kl rows,pK,m9 is c b (n+1) J,OX,[Ú F.A,À F.B],S7,[Ú q.1,Ú q.2],T2,qO gG (c.map zA),PL,xG F Ai p,f_,∀ b∈r,Ν<=100,OQ,by rw[mC];show hp,T7,[Ġ,Š,ņ],Sz,(↑(.im Ax)::J),OO,zi (È L_) (Š),RK,∃ j,o=↑j/\j<=k,SW,(yY rfl (Ð9 ⋯)),Su,Á ((E_).map tO),Wn,eJ AR (im (zA x)),yh,["word","form"],Nu,(["stall"],EI),Iq,∀{b:Bool},0,á2,∀{f g:F5},0,IK,∀{y:Str},0,tE,∀(A B a b:Int),0,N7,_ (is:=[3]) (g:=zC 3),df,_ (is:=[4]) (g:=zC 4),MB,∀(a:T) (ts:Ù) (v w:Ŝ),0,Pc,_ [3,4] (xq qk) Ź4,UC,List.countP_cons,Oo,(zX (xh N3 Ε)),M1,([k,l].map Ò),Ws,(mz b).length<=1,yQ,(λ z=>↑(Ò z)),Rw,Array.all_toList,Oe,(by rw[h2];rfl),OE,λ n=>(Js,Dq),Q6,È [À A,À B],Qp,List.filter_cons,WC,(zX (zo Ŀ Τ)),N6,(zX (zE rfl h2)),Mg,∀ x∈ Ŵ,o7 x,OH,[Á (vs.map Ú)],TU,ih λ x hx=>h Lf,Pb,(Γ1 GI os d ì),QW,fB uc (Sy) Ez,Je,by rw[wz,wz,zE8],Qq,_ #[(),(),()] (),iK,_ (zQ (hc▸h1)) rfl,QD,[_,by rcases h with rfl | rfl <;> rfl],Iu,_ rfl Ŀ,Ze,∀(h:f J=↑true),0,Nv,(zo (a0 r none) Å),Tu,by have hz':=hz _ rfl;rw[zA7] at hz',Pe,by unfold Ŷ;simp,JX,(more:Int),Hz,("fa":Str),Ew,∀{w:Str},0,Rx,zA (xI s.pu g t),FH,zU c q=true,Oq,by have:=hg.pq v7;have:=Ų;lia,N5,by simp[h,hl'],VU,∀ o∈os,o=none,É2,x::xs,qm,(.rt y),Wd,(BP k).take ϐ,ux,p::q::r,VG,Eh x ϐ a cuts,R6,ã rfl h0,Gm,c::cs,fv,st.fst.push cur,u0,zd6.mp,LV,zdA.mpr,Jw,xI pu g t,rC,Ç ⋯,rO,List Wy,fW,Gd.qS v7 ok.b0,V8,∀ b∈last,ϔ,EB,s.next ok,LU,(Ů).any,Ul,xG F (zD F 0) p,Yv,List.range_succ,AB,r.map,qd,(0,n-1),UH,(zX (xh Dh Ε)),Ow,os[DC],qz,(at':Int),Qf,(∀ r∈rs,Hm),Yx,(.im (À cell)),X6,pd is g b Fq J,Wk,(zQ (hc▸hin)),KP,ŧ5 () ⋯,Im,wH s p,RF,(zQ (h1▸hin)),U7,(xE (h2▸hst)),ue,num b,t8,(pX r),tD,h.w ş,Pr,Ä (Ov),VH,jl i f J=↑ Od,YZ,#[[62].toArray],IU,g J=↑xs,vR,jv Io x.2,Hu,tB ∈p,Rc,sh.length,Lq,rk (!s) y,YS,q8 ∈ R7,XX,Ν+c.length<64,YN,by rw[zeW];rfl,FZ,(1-vq pu),gZ,(λ wi:Gx=>M6),Bz,(jT fr),AK,qa hk,UZ,(Ž).getD k [],JU,Η=↑k,rf,Ä (pM b),Dd,.rt .zx,Tx,(sd 0 0).toNat,GK,Fl Jr,FX,l.flatMap,Jc,↑v∈os,FV,zU (ŵ) q,YR,(["way"],EI),Xz,PySem.W.OpenLaw,TC,∀{c:F5},0,ö1,∀(A B:Int),0,Ê2,∀(p:Ó),0,DB,∀(l:Į),0,Ň4,∀(bs:ß) (hl:sX<=100),0,DT,_ (È ws) æ,Wf,_ (È ss) os,W5,_ xR (zc zi í ŭ),G2,∀(hk:k<=1000),0,Lr,∀(h:f J=↑x),0,pD,∀(hx:x<=12) (hy:y<=12),0,RY,_ (Ć1 hp Ϧ) NH h,SV,_ (ks:=[]) (ts:=[]),Q1,by unfold mw;by_cases h1:IA<0,YC,by .rw[Ç (ð h1)];show XS,BU,∀(m p:Nat),0,bf,_ Ë rfl (λ k=>rfl),SE,∀(w:World),0,â5,ϩ=true,X5,by have e:zN į=È Jf:=rfl;rw[e],YM,A4=j*s.gv+s.gv,Ak,∀(i j:Int),0,GG,_ ↑ ħ none,PC,by .rw[zB1,zf5 h];show A9,Tf,by have e1:JK=ģ-j*s.gv:=nr Ô,QE,pu=true,fX,List.drop_drop,Vn,F.A<=8/\F.B<=8,Y6,(ŏ3 ok _ p).þ8,Ua,(ok.ws w hw).2,wK,by rw[r1];rfl,Vg,Q4 λ t ht=>?_,NN,∀ r∈ws,į6 r,jq,∀ r∈qs,Ĭ8 r,Wz,[_,by cases o <;> rfl],MA,∀ n∈r,n<=12,ŉ8,by rw[hb];rfl,Zl,t.length<=9000,R_,L "border fa ",Nd,turn g b y J=o,vc,(À (mf lk y)),Tr,(by simp[lJ]),Uo,λ i=>by rw[zdQ],XN,(Ï:Int).toNat,Ht,((Ž).map rT),YO,by rw[e1];lia,Vf,(zc qX ħ Em),Tv,λ s=>Î (s=Ř),ND,(l++[(k,u)]),RC,Ä (Õ " " r_),UN,(zo Å (Â1 F)),Px,(hmem o).mp ho,mi,by rw[hy,zfK] at ht,fV,by rw[zF2 h.1.1,zF2 h.2.1],G3,[_,by exists this],Wx,_ x (b:=2*s+1) ⋯,UW,by let#[r,hr,rfl]:=â ht,vb,[_,by rcases Ş hn with rfl | hn],V0,by let#[k,hk,rfl]:=â hr,Xw,_ (ps:=JA) (n:=7),jO,_ mg base xy 13 fa,BN,q_ t=true,aR,by have hs':=Ti;have hb:=ύ hq,Xb,(æ:Int).toNat,u4,xv.mp,DM,(gr A B),EX,(kA b c),qx,(lU b c),Hn,xG F l p,JC,start,BF,s.gv<=ģ,NV,A7<=16777216,Ud,(PN)&&MT md,V2,(zc zi í Ľ),uV,os[DC]?,Xy,zK υ (Ç h),GZ,(Á EJ),HU,(Á yU),NC,(s == "keeper"),RH,xs.find? test,EY,Ä ł,RT,(nums.map Ú),Ky,(cS Ρ),Dp,num y,Z2,∀ p∈os,JE,Ę3,(IT Ò),tT,IV ≠[],tN,Ä (Bu),Wi,L "floor fa ",XE,"fa"::t9 num,Sj,l s=↑m,B3,d.length,af,(l Â).isSome,VM,(F.ss.map wZ),N_,[bT b,bT c],rU,∀ b∈bs,Ź,NW,iB SK=↑.zx,vz,(Lg é),PV,zA1 h,W_,(fM l w.t ht),bQ,J8=↑(wW w),u6,ϩ=Â,yS,ľ2 (Ñ7),IG,λ Ŭ=>Ř,uQ,AL (ϭ),XD,(cond pu 1 0),Yp,zo Å (ß1 Ë),X7,(zA2.mp h4).1,We,(Ł _).length,gE,Prod.mk.injEq,AE,Ï*(a*b),qw,Ğ6 ok hq,Ec,(cS .zx),YL,gu tO 1 Ē5 os,pE,(mm k).mpr h1,qC,["word"],KC,h.Ns JN,Y8,[none,↑0],Gq,FuncData,rR,(RE).In,Ex,∀{F:zLO},0,â8,∀(x:Str),0,Xv,∀(cuts:ç) (a f:Nat),0,vV,∀(ps:Ø),0,Vm,by rw[zC7,xv,xv];ext ï,KG,_ h rfl,tq,_ p.1 p.2,Yy,∀(hz:ĵ4 t) (hr0:TV),0,VC,∀(hx:Nm x) (hy:Nm y),0,V9,_ (lb hc) (lb hd),HA,_ oO í KS,Fg,_ " " (JA),fw,by let#[r,hr,rfl]:=â h,wL,_ rfl (zk hl rfl),Wo,[_,by rcases Ű hz with z1 | z1],Uj,_ vU (k:=FJ) Å,sC,(yb true),X0,by ext Jq;have:=LA;ext BV,Lp,(æ:Int),iP,(p:Int).toNat,Ue,(cond pu 0 1),Pm,_ ↑1 none,V_,∀(at' many more:Nat),0,MK,∀(fr:ç),0,Xx,by have:BB:=rfl;lia,XO,by have hl':uH<16777216:=⋯,Z_,wQ ō=↑true,LB,by have e:BB:=rfl,XC,(UP Nw)=true,WJ,by ext P_;have km:=(kB hd).1,XQ,k5 F fr p=true,Pw,E6=true,VQ,jS (BG)=true,]
end
namespace L5
open ξ L2 L3
section
variable {ż}{f:Str}{g h:zEO}{Ì}{a:ä Addr}{c:Str}{x y:T}
def il (h:Kl):jm g J=↑(.nx J):=Pu
def zE Ex{u:ŷ}Hl(h:Hk) (hF:F xs=↑y):zl F u J=↑y:=by change rm;rw[h];show hF
def zk {u:ŷ}Hl(h:g J=↑x) (hu:Hk):za g u J=↑(É2):=by ext Be;change rm;rw[hu];rfl
theorem xh {u:ŷ}Po:tupS u J=↑(È xs):=Me
def zQ Iq(h:EU):zV g J=↑b:=PZ
theorem om ŋ sy (h:Kl) BZ:pB i g J=↑(.nx (ϝ i ↑(Ð (Á (ts++[y]))))):=by
 unfold pB;ext DH;rw[h];show Ç (zdU hl ())
def zt {a b:Sm}tp HW(h:a J=↑ tZ) (h':b J'=o):zw a b J=o:=by change De=o;rw[h];show h'
def x9 {a b:Sm}Ì Ϩ(h:a J=↑ qm):zw a b J=↑ qm:=by change De=_;rw[h];rfl
def yt TC{g h:Sm}Ì HW(e:c J=↑ Â) (e':h J=o):yw c g h J=o:=Nz
def yI TC{g h:Sm}Ì HW(e:c J=↑true) (e':g J=o):yw c g h J=o:=Nz
def xU {is:ç}{f:ŷ}ϑ{b:Sm}Ì ŋ HW(h:f J=↑ts) (h':pd is g b ts J=o):x_ is f g b J=o:=by change (f J).bind _=o;rw[h];show h'
def zX ż Ĺ Ì Ϩ FI:yd i f J=↑(.nx (ϝ i ↑(.im y))):=Q_
def ñ2 Ĺ ϑ tp Ϩ FI (h':g y J=↑J'):ae ō=↑ tZ:=by ext qL;change (g y J).map _=_;rw[h'];rfl
def zO {N:Ø}Ψ{g:Sm}{ys:Ù}Ϩ(h:g (pj N ys)=↑ qm) (hn:ys.length=n):zW N n g ys=↑y:=SA
abbrev im Ī:ä W:=↑(.im t)
abbrev nT ĺ:T:=À (n:Int)
def yD (h:Kl):retS g J=↑ qm:=Pu
def xE Iq(h:EU):xq g J=↑b:=PZ
def xQ {f:F5}Iq(h:f J=↑b):wD f J=↑(!b):=Q_
def pG á2 Iq(h:f J=↑ Â) (h':g J=↑b):wQ ō=↑b:=EC
def ť8 á2 Iq Ze (h':g J=↑b):ij ō=↑b:=EC
def ě7 á2(h:f J=↑ Â):ij ō=↑ Â:=vF
end
end L5
namespace SJ
open ξ av StrLaws
def L â8:ç:=x.cps.toList
def ext KW(h:L x=L y):x=y:=Str.ext' (Array.toList_inj.mp h)
def wz (x y:Str):L (x++y)=L x++L y:=by unfold L;rw[Str.cps_append,Array.toList_append]
def oq â8:(L x).length=Ι:=zD2
theorem ŏ6 KW Ĩ(hy:Dw):At Fc k↔∃ t,BP k=L y++t:=by
 ext ï
 .ext Ki;rw[subAt_eq,Nb] at h2;exact#[(BP k).drop ϐ,?_];have e:L y=Wd:=h2.symm;rw[e,zfB]
 .rintro⟨t,h⟩;have hl:=É ό h;rw[zdI,zD7,oq,oq] at hl;exact#[⋯,?_];rw[subAt_eq,Nb];change Wd=L y;rw[h,List.take_append_of_le_length RD,zfW RD]
def Η0 ĸ{l p r:ő}{a:Nat}(h:HR a=p++r):HR (a+Ğ)=r:=by
 rw[<- fX,h,List.drop_left]
theorem Ĝ4 ĸ{l p r t:ő}{a c:Nat}{x:α}(h:HR a=p++r) (h1:a<=c) (h2:c<a+Ğ) (h':HR c=x::t):x∈p:=by
 have e:HR c=(p++r).drop (c-a):=by rw[<- h,fX];congr 1;lia
 rw[List.drop_append_of_le_length ⋯] at e;have hne:p.drop (c-a)≠[]:=λ z=>by have:=É ό z;rw[zdI] at this;simp![zdD] at this;lia
 cases hd:p.drop (c-a) with
 | nil=>show ã hd hne
 | cons z zs=>
  rw[hd,h'] at e;cases e;show zfR (by rw[hd];show zc7)
def oU (y p q:Str) (r:Ø):L (Õ y (ux))=L p++(L y++L (Õ y (q::r))):=by
 change L (p++y++Õ y (q::r))=_;ext Je
def pq IK Ä0:Dw:=uw
theorem Ğ3 KW Ä0:∀ Xv vV,Nr->(vB)->ps≠[]->(LM)->BP a=L qo->VG=ps
 | [],a,f,[],_,_,h0,_,_=>R6
 | [],a,f,[p],h,hn,h0,hf,e=>by
  change [K6]=[p]
  ext Rt;rfl
 | [],a,f,ux,h,hn,h0,hf,e=>by
  have e1:f=a:=h;subst e1;rw[oU] at e;show ã (sY) (hn _ ⋯)
 | Gm,a,f,[],_,_,h0,_,_=>R6
 | Gm,a,f,[p],h,hn,h0,hf,e=>by
  ext J6;have h2:=h.2.1.1;ext mi;exact ã (Ĝ4 (p:=L p) (r:=[]) (by rw[zd1,e];rfl) h.1 ?_ ht) (hf p zc7);have hl:=DD;have:(L (Õ y [p]))=L p:=rfl;rw[this,zdI,oq,oq] at hl;have hyl:Dw:=uw
  rw[oq];lia
 | Gm,a,f,ux,h,hn,h0,hf,e=>by
  rw[oU] at e;ext J6;have hA:=sY;ext mi;have hc:c=rF:=by
   ext U1
   .show OV
   .show z
   .show Qt
  ext Tc;rw[Ğ3 hy cs _ f (q::r) h.2.2.2 hn #[] N1];ext QN
def ĝ8 â8:1<=Gr x:=by
 unfold Gr;split
 .show Α
 .split <;> decide
theorem ň3 IK Ä0 (hk:Gr y=1) Kg (hf:LM):ţ qo y=ps:=by
 have hyl:Dw:=uw
 let#[f,hG,hn]:=occ_tight qo y hyl;have key:=Ğ3 hy _ 0 f ps hG hn h0 hf rfl;have k1:=ĝ8 qo;unfold ţ;rw[Ii,key];split
 .rename_i h;rw[zE6,Ķ,Ķ,hk] at h;have hl:(Õ y ps).length<ϐ:=⋯
  match ps,h0 with
  | [p],_=>rfl
  | ux,_=>
   have:=É ό (oU y p q r);ext NU
 .split
  .rename_i h;rw[QO] at key;exact DL ?_ key;change [_]=[strSub _ 0 _]
   rw[sub_whole]
  .rfl
theorem Ć8 {x y z:Str}{c:Nat}(hc:c<256) (hx:c∉L x) (hy:c∉L y):Lv (x++Μ++y) Μ z=x++z++y:=by
 have h:ţ (Õ Μ EJ) Μ=EJ:=ň3 (c0:=c) (yr:=[]) rfl (by unfold Gr;rw[Ç (by exists hc)]) #[] λ p hp=>by
  ext Ζ
  .show hx
  .cases qM;show hy
 rw[replace_one];have e:x++Μ++y=Õ Μ EJ:=rfl;rw[e,h];rfl
def ai D0:KN x y=true↔∃ t,L x=L y++t:=by
 unfold KN;rw[zE5,Ķ];show ŏ6 (k:=0) hy
theorem Œ3 (s sub:Str) (hi FP lo:Nat) (hw:1<=Đ2):∀ (m cur:Nat) (st:Array Nat×Nat),Dv vL lo st.fst.toList st.snd->(st.fst.size<FP->∀ k,st.snd<=k->k<cur->¬ At vL k)->st.fst.size<=FP->
  Dv vL lo (IL).run.fst.toList (IL).run.snd/\
  (XJ<FP->∀ k,(IL).run.snd<=k->k<cur+m->¬ At vL k)/\
  XJ<=FP
 | 0,cur,st,h,hn,hl=>#[h,hn,hl]
 | m+1,cur,st,h,hn,hl=>by
  rw[zfI,ze8];unfold occBody;have e:cur+(m+1)=(cur+1)+m:=⋯;rw[e];split
  .rename_i hc;exact Œ3 OD Ū ?_
   .change Dv vL lo (fv).toList (cur+Đ2);rw[Array.toList_push];show chainG_snoc h hc.1.1.2 #[hc.1.2,hc.2] (hn hc.1.1.1)
   .intro _ k h1 h2;have h1':cur+Đ2<=k:=h1;lia
   .change (fv).size<=FP;rw[Array.size_push];show hc.1.1.1
  .rename_i hc;exact Œ3 OD h ?_ hl;intro hs k h1 h2 hA;by_cases hk:k<cur
   .show hn hs k h1 hk hA
   .have ek:k=cur:=⋯;subst ek;show hc #[#[#[hs,h1],hA.1],hA.2]
theorem Ď7 (x y:Str) ĺ (hw:Dw):∃ f,Dv Fc 0 (FN) f/\((FN).length<n->vB)/\(FN).length<=n:=by
 rw[occ_eq];have key:=Œ3 Fc n 0 hw (Ι+1-0) 0 (([].toArray:Array Nat),0) rfl (λ _ k _ h=>⋯) (Ϟ);exact#[_,key.1,λ hs k hk hA=>?_,by rw[zD2];show key.2.2];rw[zD2] at hs;show key.2.1 hs k hk (by have:=hA.1;lia) hA
theorem ĸ0 KW Ä0 (r:Str):∀ vV Xv,Nr->(Hq<ı->vB)->Hq<=ı->(LM)->BP a=L (ϲ)->VG=B6
 | [],[],a,f,h,hn,hl,hf,e=>by
  change [K6]=[r]
  ext Rt;rfl
 | [],Gm,a,f,h,hn,hl,hf,e=>ã hl (Nat.not_succ_le_zero _)
 | p::ps,cuts,a,f,h,hn,hl,hf,e=>by
  have e:BP a=L p++(L y++L (ϲ)):=by
   rw[e];cases ps with
   | nil=>show oU y p r []
   | cons q qs=>show Ma
  have hA:=sY
  match cuts,h,hn,hl with
  | [],h,hn,hl=>
   have e1:f=a:=h;subst e1;show ã hA (hn (Nat.succ_pos _) _ ⋯)
  | Gm,h,hn,hl=>
   ext J6;ext mi;have hc:c=rF:=by
    ext U1
    .show OV
    .show z
    .show Qt
   ext Tc;rw[ĸ0 hy r ps cs _ f h.2.2.2 (λ z=>hn (Nat.succ_lt_succ z)) (Nat.le_of_succ_le_succ hl) N1];change _=p::_;ext QN
def ő7 IK Ä0 (r:Str) JD(hf:LM):partsBetween (ϲ) (tU (ϲ) y 0 (ϲ).length ı) ϐ=B6:=by
 let#[f,h1,h2,h3]:=Ď7 (ϲ) y ı IC;rw[Ii];show ĸ0 hy r ps _ 0 f υ h3 hf rfl
theorem ţ2 â8 (w:Nat):∀ (cuts:ç) (a:Nat),(Eh x w a cuts).length=Hq+1
 | [],_=>rfl
 | c::r,a=>É (· + 1) (ţ2 x w r (c+w))
theorem Ã7 IK Ä0 (hk:strKind y=1) (r:Str) Kg (hf:LM):Txt.splitMax (ϲ) y (ı:Int)=B6:=by
 have key:=ő7 hy r hf;have el:limitOf (ϲ) (ı:Int)=ı:=by
  unfold limitOf;rw[N4];rfl
 have hm:=É ό key;rw[Ii,ţ2,zD7] at hm;let#[p,qs,rfl]:=zfX h0;unfold Txt.splitMax;rw[el,key];have k1:=ĝ8 (Fh);rw[Ü,Ü]
 .intro h;rw[QO] at hm;simp at hm
 .rw[zE6,Ķ,Ķ,hk];have:ϐ<=(Fh).length:=by
   have e:L (Fh)=L p++(L y++L (Õ y (qs++[r]))):=by
    cases qs with
    | nil=>show oU y p r []
    | cons q qs=>show Ma
   have:=DD;ext NU
  lia
end SJ
namespace L2
open ξ av StrLaws SJ
def É3 {y p r:Str}Ä0 (hf:c0∉L p):iX (Dx) y=[p,y,r]:=by
 have key:=ő7 (ps:=[p]) hy r (λ z hz=>by rw[Œ hz];show hf);rw[Ii] at key;unfold iX;change Eh (Dx) ϐ 0 (T3)=[p,r] at key;generalize T3=cs at *;have hm:=É ό key;rw[ţ2] at hm
 match cs,hm with
 | [c],_=>
  have e1:=(FK key).1;have e2:=(FK (FK key).2).1;change [_,_,_]=_;rw[e1,e2]
end L2
namespace RN
open L5
abbrev Bd:=ß
def xx Ϛ:Prop:=∀ q,Pw->FH
def xx.refl œ:xx b b:=λ _ h=>h
def xx.trans {a b c:Bd}(h:xx a b) (h':BX):xx a c:=λ q x=>h' q (h q x)
def xx.of HB(h:∀ p∈b,∃ r∈c,AQ):BX:=λ q x=>by
 let#[p,hp,h1,h2]:=u4 x;let#[r,hr,h3,h4]:=h Ö;show xv.mpr #[r,hr,⋯,⋯]
def xx.at HB(h:BX) {p:Ó}(hp:p∈b):∃ r∈c,AQ:=u4 (h p (Qb))
structure Gd ö1 œ:Prop where
 fO:mr b
 xf:∀ p∈b,TH
def qS:Bd:=[(0,0)]
def õ0 á:zU qS q=true↔ F6/\Rb:=by
 rw[xv];unfold qS;simp
theorem Gd.qS Ŋ(hA:0<=A) (hB:0<=B):Gd A B qS:=#[by unfold RN.qS mr;simp,λ p hp=>by
 unfold RN.qS at hp;cases qM;show#[#[ϟ,hA],ϟ,hB]]
def Gd.þ8 Ŋ Ŕ(h:Ź):xx b RN.qS:=xx.of λ p hp=>#[(0,0),by unfold RN.qS;simp,(h.xf Ö).1.1,(h.xf Ö).2.1]
theorem Gd.eq Ŋ uT (x:BX) (y:xx c b):b=c:=mr.eq h.fO h'.fO λ q=>by
 rw[zC7];show#[x q,y q]
def uR Ŋ{ps:Bd}(h:∀ p∈ps,TH):Gd A B (nG ps):=#[Ś9 ps,λ p hp=>h p (ē9 hp)]
def Ň7 {ps qs:Bd}(h:∀ p∈ps,∃ r∈qs,AQ):xx (nG ps) (nG qs):=λ q x=>by
 rw[fF] at x ⊢;show xx.of h q x
theorem Ĳ2:∀ Ŕ{lo hi:Int},mr b->(∀ p∈b,lo<=p.1/\p.1<=hi)->(Ν:Int)<=hi+1-lo\/b=[]
 | [],_,_,_,_=>Ļ rfl
 | p::b,lo,hi,h,hb=>by
  have h1:=u0 h;have hp:=hb p zc7;exact ð ?_;rcases Ĳ2 (lo:=p.1+1) (hi:=hi) h1.2 (λ q hq=>#[by have:=(h1.1 q hq).1;lia,(hb q (zc8 _ hq)).2]) with x | x
  .rw[zC0];lia
  .subst x;simp;lia
def Gd.pq Ŋ Ŕ(h:Ź) (hA:0<=A):(Ν:Int)<=A+1:=by
 rcases Ĳ2 (lo:=0) (hi:=A) h.fO (λ p hp=>(h.xf Ö).1) with x | x
 .lia
 .subst x;simp;lia
def xZ IW:Int:=if x>0 then x else 0
def Za IW:0<=xZ x:=sD
def Ζ9 tF(h:x<=y):xZ x<=xZ y:=by unfold xZ;split <;> split <;> lia
def Ã2 {x g:Int}(h:0<=x) (hg:0<=g):xZ (x-g)<=x:=sD
def pA (a b:Int) Ê2:Ó:=(xZ (p.1-a),xZ (p.2-b))
def gr ö1 Ê2:Bool:=Î (p.1<=A)&&Î (p.2<=B)
def iy tE (bd:Bd):Bd:=nG ((bd.map (pA a b)).filter DM)
def za4 tE (bd:Bd):Gd A B NA:=uR λ p hp=>by
 let#[h1,h2]:=ž hp;let#[q,_,rfl]:=â h1;have h3:Md:=Ox
 show#[#[Za _,h3.1],Za _,h3.2]
def ō3 tE {bd bd':Bd}(h:xx bd bd'):xx NA (iy A B a b bd'):=Ň7 λ p hp=>by
 let#[h1,h2]:=ž hp;let#[q,hq,rfl]:=â h1;let#[r,hr,r1,r2]:=h.at hq;have h3:Md:=Ox
 have m1:(HS).1<=(uK).1:=Ζ9 ⋯;have m2:(HS).2<=(uK).2:=Ζ9 ⋯;show#[HS,K9 #[AN,by simp[gr];lia],m1,m2]
def kA Ϛ:Bd:=nG (b++c)
def Î1 Ϛ Û:zU EX q=(E6||zU c q):=by unfold kA;rw[fF,É5]
def ö6 Ŋ uT:Gd A B EX:=uR λ p hp=>by
 rcases Ű hp with x | x
 .show h.xf p x
 .show h'.xf p x
def Zf (p q:Ó):Ó:=(if q.1>p.1 then q.1 else p.1,if q.2>p.2 then q.2 else p.2)
def lU Ϛ:Bd:=nG (H_ λ p=>c.map (Zf p))
def Ŀ2 Ϛ Û:zU qx q=(E6&&zU c q):=by
 unfold lU;rw[fF,zC7,zE5,xv,xv,xv];ext ï
 .ext Jq;ext Ol;unfold Zf at h1 h2;ext BV;exact#[#[x,hx,?_,?_],#[y,hy,?_,?_]] <;> (first | (split at h1 <;> lia) | (split at h2 <;> lia))
 .rintro⟨⟨x,hx,h1,h2⟩,⟨y,hy,h3,h4⟩⟩;exact#[Zf x y,LV #[x,hx,Ś #[y,hy,rfl]],?_,?_]
  .change (if y.1>x.1 then y.1 else x.1)<=q.1;ext Ξ
  .change (if y.2>x.2 then y.2 else x.2)<=q.2;ext Ξ
def zaK Ŋ uT:Gd A B qx:=uR λ p hp=>by
 ext Ol;have a1:=h.xf x hx;have a2:=h'.xf y hy;unfold Zf;ext Ĵ;exact#[#[?_,?_],?_,?_] <;> split <;> lia
def lR A1:Bd:=Ef kA []
def bt A1:Bd:=Ef lU qS
theorem Β0:∀ A1 œ Û,zU (Ef kA b) q=true↔ Pw\/∃ c∈bs,FH
 | [],b,q=>#[]
 | c::bs,b,q=>by
  rw[zdO,Β0 bs,Î1,zE6];ext ï
  .rintro ((h | h) | ⟨d,hd,h⟩)
   .show ð h
   .show Ļ #[c,zc7,h]
   .show Ļ #[d,EM,h]
  .rintro (h | ⟨d,hd,h⟩)
   .show ð (ð h)
   .rcases Ş hd with e | e
    .subst e;show ð (Ļ h)
    .show Ļ #[d,e,h]
theorem cP Ŋ:∀ A1 œ,Ź->cv->Gd A B (Ef kA b)
 | [],b,h,_=>h
 | c::bs,b,h,hb=>cP bs _ (ö6 h (hb c zc7)) R4
def A9 Ŋ:Gd A B []:=#[by unfold mr;simp,λ p hp=>by cases hp]
theorem Ŕ3:∀ A1 œ Û,zU (Ef lU b) q=true↔ Pw/\∀ c∈bs,FH
 | [],b,q=>#[]
 | c::bs,b,q=>by
  rw[zdO,Ŕ3 bs,Ŀ2,zE5];ext ï
  .rintro⟨⟨h1,h2⟩,h3⟩;show#[h1,λ d hd=>by
    rcases Ş hd with e | e
    .subst e;show h2
    .show h3 d e]
  .ext Ki;show#[#[h1,h2 c zc7],λ d hd=>h2 d (EM)]
theorem Ŏ6 Ŋ:∀ A1 œ,Ź->cv->Gd A B (Ef lU b)
 | [],b,h,_=>h
 | c::bs,b,h,hb=>Ŏ6 bs _ (zaK h (hb c zc7)) R4
def xI ĳ Hr:Ó:=if QE then (t,g) else (g,t)
def ya ĳ Ê2:Int:=if QE then p.2 else p.1
def yX ĳ Ê2:Int:=if QE then p.1 else p.2
def oZ ĳ Kv:Nat->Int->Int->Bd
 | 0,_,_=>[]
 | n+1,g,t=>if g<=yz then Jw::oZ ϯ Fp else []
def ô7 {pu:Bool}{g t g' t':Int}(h:g'<=g) (h':t'<=t):(xI pu g' t').1<=(Jw).1/\(xI pu g' t').2<=(Jw).2:=by
 cases pu
 .show#[h,h']
 .show#[h',h]
theorem ğ3 ĳ Kv:∀ ĺ (g t g' t':Int),g'<=g->t'<=t->∀ e∈ Fv,∃ r∈oZ ϯ n g' t',r.1<=e.1/\r.2<=e.2
 | 0,_,_,_,_,_,_,e,he=>by cases he
 | n+1,g,t,g',t',h1,h2,e,he=>by
  unfold oZ at he ⊢;split at he
  .rw[rC];rcases Ş he with x | x
   .subst x;show#[_,zc7,ô7 υ]
   .let#[r,hr,r1]:=ğ3 ϯ n Ë (g' + give) (xZ (t'-get)) ⋯ (Ζ9 ⋯) e x;show#[r,zc8 _ hr,r1]
  .cases he
theorem ŗ5 ĳ (yz give get most:Int) QF:∀ ĺ Hr,0<=g->0<=t->t<=most->∀ e∈ Fv,(0<=ya pu e/\ya pu e<=yz)/\0<=yX pu e/\yX pu e<=most
 | 0,_,_,_,_,_,e,he=>by cases he
 | n+1,g,t,h1,h2,h3,e,he=>by
  unfold oZ at he;split at he
  .rcases Ş he with x | x
   .subst x;cases pu <;> show#[#[h1,by ext ν],h2,h3]
   .show ŗ5 ϯ most hg hgt n Ë ⋯ (Za _) (ϴ (Ã2 h2 hgt) h3) e x
  .cases he
theorem Ĥ3 ĳ Kv (hg:1<=give):∀ ĺ Hr,g<=yz+1->((Fv).length:Int)<=yz+1-g
 | 0,g,t,h=>by simp[oZ];lia
 | n+1,g,t,h=>by
  unfold oZ;split
  .rw[zC0];by_cases hh:g+give<=yz+1
   .have:=Ĥ3 ϯ hg Fp hh;lia
   .have e:oZ ϯ Fp=[]:=by
     cases n with
     | zero=>rfl
     | succ n=>unfold oZ;rw[N4]
    rw[e];simp;lia
  .simp;lia
structure Wy where
 f:Nat
 t:Nat
 a:Int
 b:Int
structure Sl where
 p:Nat
 pu:Bool
 gv:Int
 gt:Int
structure zB where
 A:Int
 B:Int
 os:List Bool
 ws:rO
 ss:sI
structure zB.Ok Ê:Prop where
 a0:0<=F.A
 a1:F.A<=12
 b0:0<=F.B
 b1:F.B<=12
 n1:1<=Ï
 n8:Ï<=8
 ws:∀ w∈F.ws,w.f<Ï/\w.t<Ï
 nS:ŗ<=60
 ss:∀ s∈F.ss,rP
 sl:F.ss=[]\/Vn
 s8:Fd
def Ϡ Ê ĳ:Int:=if QE then F.B else F.A
def jt Ê K0 Ê2:Bd:=oZ fC 100 B_
def gB Ê K0 (bd:Bd):Bd:=nG (bd.flatMap Fo)
def ì5 Ê K0 HB(h:BX):xx (IX) (gB F s c):=Ň7 λ p hp=>by
 ext sg;let#[r,hr,r1,r2]:=h.at hx;let#[e,he,e1]:=ğ3 fC ak (J5) (Mf) (by unfold ya;ext tf) (by unfold yX;ext tf) Ö;show#[e,LV #[r,hr,he],e1]
def ú4 AA {p:Ó}(hp:(0<=p.1/\p.1<=F.A)/\0<=p.2/\p.2<=F.B):∀ e∈jt F s p,(0<=e.1/\e.1<=F.A)/\0<=e.2/\e.2<=F.B:=λ e he=>by
 let#[p,pu,gv,gt]:=s;unfold jt Ϡ at he;cases pu with
 | true=>show (ŗ5 true F.B gv gt F.A FO Ë hp.2.1 hp.1.1 hp.1.2 e he).symm
 | Â=>show ŗ5 Â F.A gv gt F.B FO Ë hp.1.1 hp.2.1 hp.2.2 e he
def ß2 AA Ŕ(h:ϔ):Gd ŉ (IX):=uR λ p hp=>by
 ext sg;show ú4 hs (h.xf x hx) Ö
def pN Ê ť Ý:Į:=(C_).map λ w=>fY
def BD Ê Ý:ä Sl:=Oz ϭ
def xG Ê ť Ý:Bd:=
 if â5 then match Ť with
  | none=>lR tX
  | some s=>gB F s Ic
 else bt tX
def Ů8 Ê ť Ý:∀ c∈pN ĕ p,Gd ŉ c:=λ c hc=>by
 let#[w,_,rfl]:=â hc;show za4 ..
def ŏ3 å ť Ý:Gd ŉ (Ϙ):=by
 unfold xG;have h1:Gd ŉ Ic:=RV;split
 .split
  .show h1
  .rename_i s e;show ß2 (ok.ss s (zdL e)) h1
 .show Ŏ6 Ë (fW) (Ů8 ĕ p)
theorem Ĭ5 Ê {l m:Į}Ý (h:∀ w∈F.ws,ο->xx (rY) (m.getD u5)):xx (Hn) (xG Θ):=by
 have h1:xx (lR (A3)) (lR (pN Θ)):=λ q hq=>by
  unfold lR at hq ⊢;rw[Β0] at hq ⊢;rcases hq with x | ⟨c,hc,x⟩
  .show ð x
  .ext aq;ext Ld;show Ļ #[_,v9,ō3 Ô _ (sk) q x]
 unfold xG;split
 .split
  .show h1
  .show ì5 F _ h1
 .intro q hq;unfold bt at hq ⊢;rw[Ŕ3] at hq ⊢;exact#[hq.1,EH];ext aq;ext Ld;show ō3 Ô _ (sk) q (hq.2 _ (v9))
theorem Ā0 Ê {l m:Į}Ý (h:∀ w∈F.ws,ο->rY=m.getD u5):Hn=xG Θ:=by
 have:A3=pN Θ:=by
  unfold pN;exact zd9 λ w hw=>?_;ext Ld;rw[sk]
 unfold xG;rw[this]
def box:ß:=(Ñ 13).flatMap λ(i:Nat)=>(Ñ 13).map λ(j:Nat)=>(ϸ,GN)
def mu œ:Nat:=box.countP (zU b)
theorem zaG {p:Ó}(h:(0<=p.1/\p.1<=12)/\0<=p.2/\p.2<=12):p∈box:=by
 let#[x,y]:=p;dsimp only at h;exact LV #[x.toNat,Aq,Ś #[y.toNat,Aq,?_]];ext fV
theorem ų7 ĸ{p q:AG}:∀ {l:ő},(∀ x,q x=true->p x=true)->(∃ x∈l,p x=true/\q x=Â)->sQ q<sQ p
 | [],_,#[x,hx,_]=>by cases hx
 | a::l,h,#[x,hx,h1,h2]=>by
  have hle:sQ q<=sQ p:=Yw λ y _=>h y;rw[UC,UC];rcases Ş hx with e | e
  .subst e;rw[Ü (by rw[h2];decide),Ç h1];lia
  .have:=ų7 h #[x,e,h1,h2];by_cases c:q a=true
   .rw[Ç c,Ç (h a c)];lia
   .rw[Ü c];ext Ξ
theorem Î7 Ŋ Ds HB(hb:Ź) (hc:KY) (h:BX) (hne:b≠c):mu b<mu c:=by
 exact ų7 h ?_;by_cases x:∃ p∈c,zU b p=Â
 .let#[p,hp,e]:=x;have q:=hc.xf Ö;show#[p,zaG #[#[q.1.1,⋯],q.2.1,⋯],Qb,e]
 .show ã (hb.eq hc h (xx.of λ p hp=>by
   cases e:zU b p with
   | true=>show u4 e
   | Â=>show ã #[p,hp,e] x)) hne
theorem ĕ4 œ:mu b<=169:=by
 have:box.length=169:=()
 rw[<- this];show W9
def m7 DB:Nat:=(π mu).sum
theorem ħ7:∀ DB,m7 l<=169*Ĭ
 | []=>by simp[m7]
 | b::l=>by
  have h1:=ħ7 l;have h2:=ĕ4 b;unfold m7 at h1 ⊢;rw[zA6,ze4,zC0];lia
theorem ŗ1 Ŋ Ds:∀ {l m:Į},Ĭ=m.length->(∀ b∈l,Ź)->(∀ b∈m,Ź)->(Pd)->l≠m->m7 l<m7 m
 | [],[],_,_,_,_,h=>ã Jj
 | [],_::_,h,_,_,_,_=>by simp at h
 | _::_,[],h,_,_,_,_=>by simp at h
 | b::l,c::m,hl,gb,gc,h,hne=>by
  have hl':Ĭ=m.length:=K5
  have h0:BX:=h 0;have hs:Pd:=λ i=>by exists h (i+1)
  have key:m7 l<=m7 m:=by
   by_cases e:l=m
   .rw[e];show Α
   .show zE3 (ŗ1 Pq e)
  change (sR mu sS).sum<(sR mu (c::m)).sum;rw[zA6,ze4,zA6,ze4];by_cases e:b=c
  .subst e;have:l≠m:=λ q=>hne (by rw[q]);have:=ŗ1 Pq this;unfold m7 at this;lia
  .have:=Î7 hA hB (gb b zc7) (gc c zc7) h0 e;unfold m7 at key;lia
def k5 Ê KA Ý:Bool:=F.ws.any λ w=>Dm&&fresh.contains w.t
def wA Ê ť KA:Į:=(Ñ rL).map λ p=>if Ir=true then Ϙ else ϡ
def lh (last following:Į):ç:=(Ñ following.length).filter λ p=>Î (following.getD é ≠ ϡ)
def jC Ê:Nat->vJ->Į->ç->ä (vJ)
 | 0,_,_,_=>none
 | n+1,told,last,Ō=>if Ō=[] then ↑ qJ else
   let fo:=Ϗ
   let fr:=Ea
   if fr=[] then ↑ qJ else jC F n qJ fo fr
structure St Ê ť KA:Prop where
 len:rL=Ï
 gd:V8
 fr:∀ p<Ï,Ir=Â->(ϱ)->Ϙ=ϡ
 le:∀ p<Ï,(ϱ)->xx (Ϙ) (ϡ)
def ji ĸ(f:Nat->α) (n p:Nat) (d:α) (h:p<n):(JG f).getD p d=f p:=by
 rw[zB1,zA3,zfS h];rfl
def jG Ê ť KA:(Ϗ).length=rL:=by unfold wA;simp
theorem St.at Þ EZ ŏ (hw:ϱ):í2=Ϙ:=by
 unfold wA;rw[Qk];split
 .rfl
 .rename_i h;show (s.fr Ö (by exists h) hw).symm
def ĕ5 Þ{Ō:ç}ĭ(h:Ir=true):ϱ:=by
 unfold k5 at h;let#[w,h1,h2]:=El h;show#[w,h1,by simp at h2;show h2.1]
theorem St.no Þ EZ ŏ (hw:¬ ϱ):í2=ϡ:=by
 unfold wA;rw[Qk,Ü (λ h=>hw (ĕ5 h))]
theorem St.Ģ0 Þ EZ Ý:xx (í2) (ϡ):=by
 by_cases hp:p<Ï
 .by_cases hw:ϱ
  .rw[IH];show s.le Ö hw
  .rw[s.no hp hw];show xx.refl _
 .have h1:í2=[]:=by
   rw[zB1,zf5 (by rw[jG,JS];lia)];rfl
  rw[h1];intro q x;cases x
def St.next å EZ:St F (Ϗ) (AH) where
 len:=by rw[jG,JS]
 gd:=λ b hb=>by
  unfold wA at hb;let#[p,hp,rfl]:=â hb;split
  .show ŏ3 ok last p
  .have hlt:=qa hp;rw[zB1,zA1 hlt];show s.gd _ (zD8 hlt)
 fr:=λ p hp hn hw=>by
  rw[IH];exact Ā0 F p λ w w1 w2=>?_;have hwt:=(u_).2;by_cases e:(Ϗ).getD u5=BQ u5
  .show e
  .have:k5 F (AH) p=true:=by
    ext yg;have:w.t∈ AH:=by
     unfold lh;show K9 #[JY (by rw[jG,JS];show hwt),by exists e]
    simp[w2,this]
   rw[this] at hn;cases hn
 le:=λ p hp hw=>by
  rw[IH];show Ĭ5 F p λ w w1 w2=>s.Ģ0 w.t
def Ĝ5 ü1 (h:Ea ≠[]):fo≠last:=λ e=>h (by
 subst e;unfold lh;simp)
def JC Ê:Į:=uA Ï qS
theorem St.start å:St F (JC F) rj where
 len:=Pe
 gd:=λ b hb=>by rw[List.eq_of_mem_replicate hb];show fW
 fr:=λ p hp hn #[w,w1,w2]=>by
  have:k5 F rj p=true:=by
   ext yg;have:=(u_).2;simp[w2,this]
  rw[this] at hn;cases hn
 le:=λ p hp hw=>by
  have e:OA:=by
   unfold Ŷ;ext Qd
  rw[e];show Y6
theorem Ġ5 å:∀ ĺ DA ť KA,St ĕ Ō->m7 last<n->
  ∃ more last',jC F n told last Ō=↑(told++sE)/\(∀ r∈ sE,OC)/\(sE).getLast?=↑last'/\more.length<=m7 last
 | 0,_,_,_,_,h=>⋯
 | n+1,told,last,Ō,s,h=>by
  unfold jC;split
  .show SF
  .ext Ĵ;split
   .show SF
   .rename_i hf;have s':=EB;have hlt:m7 (Ϗ)<m7 last:=ŗ1 Ų JJ (jG ..) s'.gd s.gd s.Ģ0 (Ĝ5 (jG ..) hf);let#[more,last',e1,e2,e3,e4]:=Ġ5 ok n qJ Ë s' ⋯;exact#[Ϗ::more,last',by rw[e1];simp,rS,by rw[List.getLast?_cons_cons];show e3,by rw[zC0];lia];rcases Ş hr with e | e
    .subst e;show VV
    .show e2 r e
theorem za5 {A B a b:Int}{bd:Bd}(h0:∀ p∈bd,Rf) á(hq:O9):zU NA q=true↔zU bd (q.1+a,q.2+b)=true:=by
 unfold iy;rw[fF,xv,xv];ext ï
 .ext Jq;let#[hp,_]:=ž hp;ext Ø8;exact#[r,hr,?_,?_]
  .unfold pA xZ at h1;dsimp only at h1 ⊢;split at h1 <;> lia
  .unfold pA xZ at h2;dsimp only at h2 ⊢;split at h2 <;> lia
 .rintro⟨r,hr,h1,h2⟩;ext BV;have e1:(HS).1<=q.1:=QU
  have e2:(HS).2<=q.2:=QU
  exact#[HS,K9 #[AN,?_],e1,e2];unfold gr;rw[Fj,Fj];rfl
theorem Ŗ2 ĳ Kv QF:∀ ĺ Hr,0<=t->yz-g<n->∀ (G T:Int),G<=yz->
  ((∃ e∈ Fv,ya pu e<=G/\yX pu e<=T)↔∃ k:Nat,g+k*give<=G/\xZ (t-k*get)<=T)
 | 0,g,t,ht,hn,G,T,hG=>by
  ext ï
  ext ME
  ext Rp
 | n+1,g,t,ht,hn,G,T,hG=>by
  have gv:∀ x y,ya GP=x:=λ x y=>Ţ
  have gt:∀ x y,yX GP=y:=λ x y=>Ţ
  have ih:=Ŗ2 ϯ hg hgt Fp (Za _) ⋯ G T hG;have mm:∀ k:Nat,xZ (xZ (t-get)-k*get)=xZ (t-Gk*get):=λ k=>by
   have:0<=Í*get:=ze5 ⋯ hgt;have e:se*get=k*get+get:=Gj
   rw[e];unfold xZ;split <;> split <;> (try split) <;> lia
  have gg:∀ k:Nat,g+give+k*give=g+Gk*give:=λ k=>by
   rw[ze6,zdH];lia
  unfold oZ;split
  .rename_i hgb;ext ï
   .rintro⟨e,he,h1,h2⟩;rcases Ş he with rfl | he
    .rw[gv] at h1;rw[gt] at h2;exact#[0,by simpa using h1,?_];unfold xZ;split <;> simp at * <;> lia
    .let#[k,k1,k2]:=ih.mp NT;show#[k+1,by rw[<- gg];show k1,by rw[<- mm];show k2]
   .rintro⟨k,k1,k2⟩;cases k with
    | zero=>
     exact#[_,zc7,by rw[gv];simpa using k1,?_];rw[gt];unfold xZ at k2;split at k2 <;> simp at * <;> lia
    | succ k=>
     let#[e,he,h1]:=ih.mpr #[k,by rw[gg];show k1,by rw[mm];show k2];show#[e,zc8 _ he,h1]
  .rename_i hgb;ext ï
   ext ME
   ext Rp
def ļ6 {pu:Bool}{p q:Ó}:(p.1<=q.1/\p.2<=q.2)↔ya pu p<=tm/\yX pu p<=sj:=by
 cases pu
 .show Iff.rfl
 .show And.comm
def ù9 AA (hA:F.A<=12) (hB:F.B<=12) Ŕ(hb:∀ p∈b,Rf) á(hq:Gv):
  zU (IX) q=true↔ OW:=by
 have hbr:Λ<=12:=by unfold Ϡ;ext tf
 have hqb:ģ<=Λ:=by unfold ya Ϡ;ext Ξ
 have hq0:0<=ģ/\0<=GA:=O0
 have gv:∀ x y,ya s.pu GQ=x:=Q2
 have gt:∀ x y,yX s.pu GQ=y:=Q2
 unfold gB;rw[fF,xv];ext ï
 .rintro⟨e,he,cD⟩;let#[p,hp,he]:=zdA.mp he;let#[h1,h2]:=HY cD;ext UK
  let#[k,k1,k2]:=(Ŗ2 fC FO Ë g0.2 ⋯ Ë hqb).mp NT;exact#[k,xv.mpr #[p,hp,ĉ5 #[by rw[gv];lia,?_]]];rw[gt];unfold xZ at k2;split at k2 <;> lia
 .ext K1;let#[p,hp,cD]:=u4 hk;let#[h1,h2]:=HY cD;rw[gv] at h1;rw[gt] at h2;ext UK
  let#[e,he,h3]:=(Ŗ2 fC FO B_ g0.2 ⋯ (ģ) (GA) hqb).mpr #[k,⋯,sD];show#[e,LV #[p,hp,he],ĉ5 h3]
def zD Ê:Nat->Į
 | 0=>JC F
 | k+1=>tw λ p=>rM
theorem mC Ê:∀ k,(ū).length=Ï
 | 0=>by unfold zD JC;simp
 | k+1=>by unfold zD;simp
theorem à6 Þ EZ (hw:∀ p<Ï,ϱ):Ϗ=tw λ p=>Ϙ:=by
 exact zdV (by rw[jG,JS];simp) u7;have hi:i<Ï:=rg
 have e:=s.at hi (hw i hi);rw[zB1,zA1 h1] at e;exists e
def Ì3 ü1 (h:Ea=[]):fo=last:=by
 exact zdV hl u7;have:i∉ Ea:=by rw[h];simp
 unfold lh at this;rw[zC8] at this;have e:JO i []=BQ i []:=Kz λ hne=>this #[JY h1,by exists hne];rw[zB1,zA1 h1,zB1,zA1 h2] at e;exists e
def xo Ê Û:Prop:=Gv
def mw Ê Û (w:Wy):ä (Ó):=if IA<0\/Gb<0 then none else ↑(min (IA) F.A,min (Gb) F.B)
def pY Ê ť Û (w:Wy):Bool:=match K2 with
 | none=>Â
 | Dr=>zU uN r
def Ň6 Ê Ý:rO:=C_
def jr Ê K0:Nat->Ó->ß
 | 0,q=>[q]
 | n+1,q=>q::if BF then jr F s n NR else []
def wx Ê Ý Û:ß:=match Ť with
 | none=>[q]
 | some s=>jr F s 20 q
def lM Ê ť Ý Û:Bool:=
 if â5 then (Κ).any λ r=>LU (pY ĕ r) else Nt
def Ë3 Ŋ Ŕ(hb:Ź) rB:zU b (min x A,min y B)=zU b BL:=by
 ext Vm
 .ext Jq;ext BV;show yL
 .ext X0;show yL
def Č5 Þ M3 Û:pY ĕ q w=zU uN (IA,Gb):=by
 unfold pY mw;by_cases h:IA<0\/Gb<0
 .rw[Ç h]
  symm
  rw[<- zE9,xv];ext X0;lia
 .rw[Ü h];show Ë3 hb Ë
def Ý7 Þ M3 ļ:zU (fY) q=pY ĕ q w:=by
 rw[Č5 hb,zC7];show za5 (λ p hp=>#[(LA).1.1,(LA).2.1]) hq
def ĵ1 Þ Dt ĭ ļ:zU Ic q=LU (pY ĕ q):=by
 rw[zC7,lR,Β0,zD0];ext ï
 .rintro (h | ⟨c,hc,h⟩)
  .cases h
  .unfold pN at hc;ext aq;show#[w,hw,by rw[<- Dy];show h]
 .rintro⟨w,hw,h⟩;show Ļ #[_,v9,by rw[Dy];show h]
def zaJ Þ Dt ĭ ļ:zU (bt tX) q=Nt:=by
 rw[zC7,bt,Ŕ3,zE4];ext ï
 .rintro⟨_,h⟩ w hw;rw[<- Dy];show h _ (v9)
 .intro h;exact#[PK,EH];unfold pN at hc;ext aq;rw[Dy];show h w hw
def nr ĳ rB:ya GP=x:=Ţ
def lL ĳ rB:yX GP=y:=Ţ
def ő0 ĳ Û:xI pu (tm) (sj)=q:=Ţ
def Ĺ3 Þ{pu:Bool}á:Ω ↔(0<=tm/\tm<=F.yz pu)/\0<=sj/\sj<=F.yz (!pu):=by
 unfold xo Ϡ;cases pu
 .show Iff.rfl
 .show And.comm
theorem ř7 AA:∀ ĺ á,Ω->∀ r∈ Ae,xo F r
 | 0,q,h,r,hr=>by cases Œ hr;show h
 | n+1,q,h,r,hr=>by
  unfold jr at hr;rcases Ş hr with rfl | hr
  .show h
  .split at hr
   .rename_i hg;exact ř7 hs n ?_ ş;have h':=ύ h;ext VN
   .cases hr
theorem ķ6 AA Ŕ(hb:ϔ):∀ ĺ á,Ω->ģ<n->
  ((OW)↔(Ae).any (zU b)=true)
 | 0,q,h,hn=>by
  have:=(ύ h).1.1;lia
 | n+1,q,h,hn=>by
  have h':=ύ h;have cut:∀ x y,zU b GQ=zU b (xI ZO (min y Ja)):=λ x y=>by
   ext Vm
   .rintro⟨p,hp,h1⟩;ext yP;ext OL
   .rintro⟨p,hp,h1⟩;have h2:=HY h1;ext OL
  unfold jr;rw[zd8,zE6];by_cases hg:BF
  .rw[Ç hg];have hi:xo F NR:=by
    ext VN
   have ih:=ķ6 hs hb QT;rw[nr,lL] at ih;have sh:∀ k:Nat,zU b (xI s.pu (ģ-s.gv-Jy) (OI+k*s.gt))=zU b (xI s.pu (ģ-Gk*s.gv) (GA+Gk*s.gt)):=λ k=>by
    have e1:EA:=Gj
    have e2:M7:=Gj
    ext QY;rw[e1,e2,cut,cut (ģ-(Jy+s.gv))];congr 2
    .lia
    .lia
   rw[<- ih];ext ï
   .ext K1;cases k with
    | zero=>show ð (Ed)
    | succ k=>show Ļ #[k,by rw[sh];show hk]
   .rintro (hk | ⟨k,hk⟩)
    .show#[0,Ed]
    .show#[k+1,by rw[<- sh];show hk]
  .rw[Ü hg];ext ï
   .ext K1;cases k with
    | zero=>show ð (Ed)
    | succ k=>
     exfalso;let#[p,hp,h1]:=u4 hk;ext yP;rw[nr] at h2;have e1:EA:=Gj
     have k0:0<=Jh:=ze5 ğ;rw[e1] at h2;lia
   .rintro (hk | hk)
    .show#[0,Ed]
    .cases hk
theorem ņ0 å Dt Ý ļ:zU (Ϙ) q=lM ĕ p q:=by
 have ge:Gd ŉ Ic:=RV;unfold xG lM wx;by_cases ho:â5
 .rw[Ç ho,Ç ho];cases hs:Ť with
  | none=>simp![zd8,List.any_nil,Bool.or_false];show ĵ1 hg hq
  | some s=>
   have hs':=Ti;have hgv:ģ<20:=by
    have:=ύ hq;have:Λ<=12:=Th
    lia
   rw[zC7];ext Ĵ;rw[ù9 hs' Ų JJ (λ p hp=>#[(ge.xf Ö).1.1,(ge.xf Ö).2.1]) hq,ķ6 hs' ge 20 hq ⋯,zD0,zD0];ext ï
   .rintro⟨r,hr,h⟩;show#[r,hr,by rw[<- Nk];show h]
   .rintro⟨r,hr,h⟩;show#[r,hr,by rw[Nk];show h]
 .rw[Ü ho,Ü ho];show zaJ hg hq
theorem Zm å:∀ (k p:Nat),p<Ï->xx LR (Lk)
 | 0,p,hp=>by
  have e1:(zD F 1).getD é=Ul:=ji (λ p=>Ul) IB;have e0:M4:=by
   change (JC F).getD é=qS;unfold JC;ext Qd
  rw[e1,e0];show Y6
 | k+1,p,hp=>by
  have e1:(zD F (k+1+1)).getD é=xG F (Kj) p:=ji (λ p=>xG F (Kj) p) IB;have e0:uG é=rM:=Tj;rw[e1,e0];show Ĭ5 F p λ w hw _=>Zm ok k w.t Ua
theorem Ń9 å ĵ:∀ (d p:Nat),p<Ï->xx ((zD F (k+d)).getD é) (Lk)
 | 0,p,_=>xx.refl _
 | d+1,p,hp=>(Zm ok (k+d) Ö).trans (Ń9 ok k d Ö)
theorem ķ2 å (hw:∀ p<Ï,ϱ):∀ ĺ DA ĵ KA (res:vJ),St BI Ō->Ō ≠[]->told=(Ñ k).map (zD F)->
  jC F n told (ū) Ō=↑res->(∀ j<k,tY)->∃ m,res=U6/\Ik=ID/\∀ j<m,tY
 | 0,_,_,_,_,_,_,_,h,_=>by cases h
 | n+1,told,k,Ō,res,s,hf,ht,h,hj=>by
  unfold jC at h;rw[Ü hf] at h;dsimp only at h;have e:wA BI Ō=Kj:=à6 s hw;have et:told++[ū]=(Ñ ũ).map (zD F):=by rw[ht,Yv,zE7];rfl
  rw[e,et] at h;split at h
  .rename_i hfr;cases h;show#[k,rfl,Ì3 Hh hfr,hj]
  .rename_i hfr;have s':=EB;rw[e] at s';exact ķ2 ok hw n _ ũ _ res s' hfr Jj λ j hjk=>?_;rcases zd5 j k with q | q
   .show hj j q
   .have:j=k:=⋯;subst this;show Ĝ5 Hh hfr
end RN
namespace z_
open ξ L2 L3 L5
def nq:T->Bool
 | .zL Ë=>true
 | .dn _=>true
 | _=>Â
def q_ Ī:Bool:=!nq t&&(match t with | rV=>MT (Qs) | _=>true)
def q_.top {t:T}(h:BN):nq t=Â:=by
 unfold q_ at h;simp![zE5,zfL] at h;show h.1
def q_.mem ŋ(h:q_ GX=true) {u:T}(hu:u∈ts):nq u=Â:=by
 simp![q_,zE5,zE4,zfL] at h;show h.2 u hu
def wh Ī (a b:Int):Bool:=match t with
 | À i=>DP
 | _=>Â
def zK ÿ4 Ì R5:N2:=Ph
def ix Ŧ Ì{a b:Bool}(h:f J=↑ su) (h':a=true->EU):Ux:=by
 ext qL;cases a with
 | Â=>rfl
 | true=>show h' rfl
def fJ r0:uk:=by
 ext A8
def ĥ5 yj Ì{x y z:T}{a b:Bool}UE (hf:f x y=↑ su) (hc:fc J=↑z) (hg:g y z=↑(.bl b)):Ob=↑(.bl (a&&b)):=by
 ext Pt;cases a with
 | Â=>rfl
 | true=>ext yk
def Ĥ0 Ì ŋ(h:zb 0 J=↑ GX):instS "tuple" í J=↑ è:=by
 change Tt;rw[h];show É ϋ (show Mz by decide)
def ě8 á2 Ì Ze:Z_:=vF
def zbj Ī Å6:bG [t]=↑(.bl (match t with | À _=>true | _=>Â)):=by
 cases t with
 | zL _ _=>cases he
 | dn _=>cases he
 | _=>rfl
def Yc Ī (a b:Int) Å6:gP [t,À a,À b]=↑(.bl (wh t a b)):=by
 have h:=zbj t he;cases t with
 | int i=>show zO (yD (ix (a:=true) (b:=DP) (zE Jj) λ _=>ĥ5 (x:=À a) (y:=À i) (z:=À b) Å Hi)) rfl
 | zL _ _=>cases he
 | dn _=>cases he
 | _=>show zO (yD (ix (b:=Â) (zE Jj) ľ)) rfl
def ſ Ak Fe:eg:=by
 have:eqT Ig=B5:=by simp[eqT,zfY]
 simp[yb,dep,this]
theorem ş2 ĸ Ar:∀ (ts:Ù) (bs:ő),List.zipWith OJ ts (bs.map enc)=(AO).map λ p=>ń [p.1,enc p.2]
 | [],bs=>#[]
 | t::ts,[]=>#[]
 | t::ts,b::bs=>by simp[ş2 enc ts bs]
def ĝ6 ĸ Ku:Rq:=by
 have:=ZH (BK g);rw[zD6] at this;show this
def ğ9 ĸ Ku:(BK g).all id=xs.all g:=by
 rw[zdY];rfl
def xP Ī (bs:ß):Bool:=match t with
 | rV=>HM&&Xt
 | _=>Â
def bw ĸ{c:zEO}Ì{g:AG}{xs:ő}(h:c J=↑(Á GR)):zl (mN λ bs=>bs.all id) (za c ze) J=↑(.bl (xs.all g)):=zE (zk KG) (by
 change (mO GR).map _=_;rw[ĝ6,GF];show É ϋ (ğ9 g xs))
def Ŏ3 Ī Ň4 (he:BN):i8 [t,vA]=↑(.bl (xP t bs)):=by
 cases t with
 | tup ts=>
  have hn:zV (zc sC ý8 (zl xS (za ŭ ze))) LX=↑(! HM):=by
   exact (zQ (zK (x:=À ud) (y:=À ((bs.map zA).length:Int)) (zE Å) (zE Å) (ſ Ë true))).trans (É (λ b=>↑(!b)) (Ej ?_));ext tS
  change i8 _=↑(.bl (HM&&Xt));by_cases h:ķ=sX
  .have hc:bo LX=↑(Á ((AO).map λ p=>T.bl (UX))):=by
    exact wC (λ p:T×(Ó)=>ń [p.1,zA p.2]) _ (AO) (É some (ş2 zA ts bs)) ?_ λ p hp=>fJ rfl (zE (zk rfl KQ) (Yc Ô (q_.mem he (zeG hp).1)));rw[zeU];ext Xx
   rw[zg6 h] at hn ⊢;show OM
  .rw[zg7 h] at hn ⊢;show Uu
 | zL _ _=>cases Ko
 | dn _=>cases Ko
 | _=>show UA
def Ŵ2 Ī (bs:ß):Bool:=match t with
 | rV=>J_
 | _=>Â
def ĵ4 Ī:Prop:=∀ ts,qY t=↑ts->ķ<=16777216
def ĥ7 Ī Ň4 (hz:ĵ4 t) (hr:TV) Å6:Yr [t,vA]=↑(.bl (Ŵ2 t bs)):=by
 cases t with
 | tup ts=>
  have hc:ŀ0 LX=↑(Á (ts.map λ r=>T.bl (xP r bs))):=wC TB (hz ts rfl) λ p hp=>fJ rfl (zE rfl (Ŏ3 Ë hl (hr ts rfl Ö)));show zO (yD (ix (a:=true) (b:=J_) (Ĥ0 rfl) λ _=>bw hc)) rfl
 | zL _ _=>cases he
 | dn _=>cases he
 | _=>show zO (yD (ix (a:=Â) (b:=Â) rfl ľ)) rfl
theorem á8 {t:T}{bs:ß}(h:xP t bs=true):∃ r:ë,t=zN r/\KJ:=by
 cases t with
 | tup ts=>
  simp![xP,zE5,Ķ] at h;let#[hl,ha]:=h;have key:∀ (ts:Ù) (bs:ß),ķ=sX->(Xt)=true->∃ r:ë,ts=AB Ú/\KJ:=by
   intro ts
   induction ts with
   | nil=>intro bs hl _;show#[[],rfl,by simpa using hl,λ i x b hx=>by simp at hx]
   | cons t ts ih=>
    intro bs hl ha;cases bs with
    | nil=>simp at hl
    | cons b bs=>
     simp![zeJ,zdX,zE5] at ha;let#[r,r1,r2,r3]:=ih bs (K5) ha.2;cases t with
     | int i=>
      have h1:=ha.1;simp![wh,zE5,Ķ] at h1;exact#[i::r,wK,by simp[r2],λ j x c hx hc=>?_];cases j with
      | zero=>simp at hx hc;subst hx hc;show h1
      | succ j=>show r3 j x c (by exists hx) (by exists hc)
     | _=>simp[wh] at ha
  let#[r,r1,r2,r3]:=key ts bs hl ha;show#[r,wK,r2,r3]
 | _=>simp[xP] at h
def ĳ3 ŋ{bs:ß}(h:(J_)=true):∃ rs:ĥ,ts=vY/\∀ r∈rs,xP Ad bs=true/\KJ:=by
 induction ts with
 | nil=>show#[[],rfl,ľ]
 | cons t ts ih=>
  simp![zdX,zE5] at h;let#[rs,h1,h2]:=ih h.2;let#[r,r1,r2,r3]:=á8 h.1;exact#[r::rs,by rw[h1,r1];rfl,λ q hq=>?_];rcases Ş hq with e | e
  .subst e;show#[by rw[<- r1];show h.1,r2,r3]
  .show h2 q e
def iM:ĥ->Bool
 | KU=>Ap a b&&iM sS
 | _=>true
def pV:ë->Bool
 | KU=>qt&&pV sS
 | _=>true
theorem Ņ6 ĸ(lt:α->AG) (up:ő->Bool) (h0:up []=true) (h1:∀ a,up [a]=true) (h2:∀ a b l,up (KU)=(lt a b&&up sS)):∀ l:ő,((l.zip (HR 1)).all λ p=>lt tq)=up l
 | []=>by simp[h0]
 | [a]=>by simp[h1]
 | KU=>by
  have ih:=Ņ6 lt up h0 υ sS;simp![List.drop_succ_cons,List.drop_zero,zeJ,zdX] at ih ⊢;rw[h2,<- ih]
def Ő1 ĸ Hc:mM xs Pm=xs.drop 1:=by
 unfold mM;have e:HT.yf ϓ 0 ↑1=min 1 ϓ:=by simp[HT.yf]
 have e2:HT.yf ϓ ϓ none=ϓ:=rfl;rw[e,e2];cases xs with
 | nil=>rfl
 | cons x xs=>simp
def zby (rs:ĥ) (hl:NV):gQ [ώ]=↑(.bl (iM rs)):=by
 have hc:bp [↑(.im (ώ))]=↑(Á ((Wb).map λ p=>T.bl (Ap tq))):=by
  unfold bp;exact wC (λ p:ë × ë=>ń [zN p.1,zN p.2]) _ (Wb) Ū K7
  .simp![xt,za,zb,nX,gD,cS,ze,kL,gz,zC9,Ő1,ċ0,GF,zfJ];ext ħ0
  .simp;lia
  .simp[oS,zN,wg,fP]
 ext RQ;have:=Ņ6 (λ a b=>Ap a b) iM Nq rs;ext G3
def zbz ŝ (hl:Ϲ<=16777216):gQ [L9]=↑(.bl (pV ns)):=by
 have hc:bp [↑(.im (L9))]=↑(Á ((Sk).map λ p=>T.bl (Î (p.1<p.2)))):=by
  unfold bp;exact wC (λ p:Ó=>ń [Ú p.1,Ú p.2]) _ (Sk) Ū K7
  .simp![xt,za,zb,nX,gD,cS,ze,kL,gz,zC9,Ő1,ĕ3,GF,zfJ];ext ħ0
  .simp;lia
  .simp[oS,wg]
 ext RQ;have:=Ņ6 (λ a b:Int=>qt) pV Nq ns;ext G3
def dQ (k l:Str) Ī:Bool:=match t with
 | Ä x=>k == x||l == x
 | _=>Â
def ŗ0 (x k l:Str) (y:T) (hy:qY y=↑ B9):wO Â s_ y=↑(.bl (k == x||l == x)):=by
 unfold wO;rw[hy];simp[dep,xu,eqT]
def Ü2 {x y:T}ŋ(hy:qY y=↑ts):xf x y=wO Â x y:=by
 unfold xf;split
 .cases hy
 .rfl
def đ5 (k l:Str) Ī Å6:zW Af 1 (retS (vm (instS "str" í) (zc xf í (tupS SO)))) [t]=↑(.bl (dQ k l t)):=by
 cases t with
 | str x=>
  have h:=(Ü2 (x:=Ä x) (y:=È B9) rfl).trans (ŗ0 x k l (È B9) rfl);simp[mE,h,dQ]
 | zL _ _=>cases he
 | dn _=>cases he
 | _=>simp[dQ,mE]
def md Ī:Bool:=dQ JI t
def zbD Ī Å6:Ř5 [t]=↑(.bl (md t)):=đ5 JI t he
def iY Ī:Bool:=match t with
 | rV=>Ud
 | _=>Â
theorem zbC Ī (he:BN):Ys [t]=↑(.bl (iY t)):=by
 cases t with
 | tup ts=>
  have hn:wD (zV (gC mB mB ħ ý8 (cI 8))) [↑ LD]=↑(!(QJ&&Î (ud<=8))):=xQ (zQ (ĥ5 (x:=À 1) (y:=À ud) (z:=À 8) rfl (zE Å) Hi));have e1:QJ=Î (1<=ķ):=Ej ⋯;have e2:Î (ud<=8)=Î (ķ<=8):=Ej ⋯;rw[e1,e2] at hn;change Ys _=↑(.bl (Ud));cases hb:PN with
  | Â=>rw[hb] at hn;show Uu
  | true=>
   rw[hb] at hn;have hl:ķ<=8:=by rw[zE5,Ķ,Ķ] at hb;show hb.2
   have hc:ń2 [↑ LD]=↑(Á (ts.map λ r=>T.bl (md r))):=wC TB (by ext Xx) λ p hp=>fJ rfl (zE rfl (zbD _ (q_.mem he hp)));show OM
 | zL _ _=>cases Ko
 | dn _=>cases Ko
 | _=>show UA
def qA Ī:ë:=match t with
 | È xs=>(oW xs).getD []
 | _=>[]
def Ù6 K_:qA Ad=r:=by simp[qA,zN,fP]
def aB (rs:ĥ):(vY).map qA=rs:=by
 rw[zD6]
 conv=>rhs;rw[<- ze9 rs]
 show zd9 λ r _=>Ù6 r
def wb Gg:ß:=[qd,qd,(-12,12),(-12,12)]
def sb Gg:ß:=[qd,(0,1),(1,12),F0]
def fst K_:Int:=sd 0 0
def mS Ī ĺ:Bool:=match t with
 | rV=>EG&&(Î (ķ<=24)&&(iM (ts.map qA)&&(Ñ n).all λ Ŭ=>(FG).any uE))
 | _=>Â
def ĸ6 IY(h:MQ=4):zi Ad (Δ)=↑(À (Ã4)):=by
 match r,h with
 | į,_=>simp[zN,fst]
def À3 (a k:Int):eqT (À a) Ρ=Î (a=k):=by simp![eqT,zfY]
theorem Ł6 (k:Int):∀ ns:ë,(ϳ).any (λ t=>eqT t Ρ)=ns.any λ i=>Î (i=k)
 | []=>rfl
 | n::ns=>by rw[zA6,zd8,zd8,Ł6 k ns,À3]
def ý2 IY(h:MQ=4):∃ a b c d,r=į:=by
 match r,h with
 | į,_=>show#[a,b,c,d,rfl]
theorem ĭ9:∀ ns:ë,xu (ϳ)=0
 | []=>rfl
 | n::ns=>by simp[xu,dep,ĭ9 ns]
theorem ě2 {rs:ĥ}Ì(h0:zb 0 J=↑(ώ)) (hl:NV) (h4:∀ r∈rs,MQ=4):xb EI (xi í) (zC 0) xA V2 J=↑(Á ((Ju).map Ú)):=by
 rw[zD6];show wC zN _ rs (by change Tt;rw[h0];rfl) hl λ p hp=>fJ rfl (zK Å (ĸ6 (h4 Ö)))
theorem zbk Ī ĺ (hn:n<=1000) Yy Å6:ő3 [t,À n]=↑(.bl (mS t n)):=by
 have hw:=ĥ7 t (wb n) (by simp[wb]) hz hr0 he;cases hR:Ŵ2 t (wb n) with
 | Â=>
  have hN:mS t n=Â:=by
   cases t with
   | tup ts=>unfold mS;ext Ĵ;rw[show EG=Â from hR];rfl
   | _=>rfl
  rw[hN];rw[hR] at hw;show zO (zt Oo (zt UH (x9 (yI Na)))) rfl
 | true=>
  rw[hR] at hw;cases t with
  | tup ts=>
   let#[rs,rfl,hr]:=ĳ3 (show EG=true from hR);ext Tu;have hc2:∀ ŝ a c d,ł8 [a,↑(.im uh),c,d,↑(.im (L9))]=↑(Á (JG λ Ŭ=>T.bl (ns.any uE))):=λ ns a c d=>by
    exact wC Aa _ (Ñ n) (aC n ⋯) (by rw[zC5];ext Xx) λ k hk=>fJ rfl (zK (x:=ET) (y:=L9) Å ?_);change wO Â (ET) (L9)=_;have e:=Ł6 Í ns;rw[zfH];change (if dep (sT)<=60/\xu (ϳ)<=60 then ↑(T.bl ((ϳ).any λ t=>eqT t (sT))) else none)=_;rw[Ç #[Ϟ,by rw[ĭ9];show Ϟ],e]
   have hN:mS (ώ) n=(Î (A7<=24)&&(iM rs&&(Ñ n).all λ Ŭ=>(Ju).any uE)):=by
    unfold mS;ext Ĵ;rw[aB,show ((vY).all R1)=true from hR,zA7,Rl]
   rw[hN];exact zO (zt Oo (zt UH (zt (yt Na) (zt (zX Q9) (yD (ix ?_ λ _=>ix (zE Ń (zby rs hz')) λ _=>bw (hc2 Ô _))))))) rfl;exact zK (y:=À 24) (zE Ń (show ↑(Ú (((vY).length:Nat):Int))=_ from rfl)) ϛ;rw[zA7];show É ϋ (Ej ⋯)
  | _=>cases hR
def Γ F9 (p:Int):Bool:=match uV with
 | some s_=>x == "keeper"
 | _=>Â
def mx Ī F9:Bool:=match t with
 | rV=>qu&&(pV (FG)&&(FG).all (Γ os))
 | _=>Â
def ů (x y:Str) Fe:yb neg s_ (Ä y)=↑(.bl (cond neg (!(x == y)) (x == y))):=by
 ext Fu
theorem ī1 {os:Ù}{p:Int}(h0:0<=p) (h1:p<æ) (ho:Ll) (k:Str):∃ x:Str,ĩ os p=↑ s_/\uV=↑ s_:=by
 have hl:DC<æ:=⋯;have e:uV=↑ Ow:=zA1 hl;have ha:ĩ os p=↑ Ow:=by
  have:=qR (k:=DC) e;rw[zF2 h0] at this;show this
 have hw:=GW ho Ow (zD8 hl);generalize hq:Ow=q at *;cases q with
 | str x=>show#[x,ha,e]
 | _=>simp[md,dQ] at hw
theorem zbq Ī F9 (ho:Ll) (hl8:æ<=8) Yy Å6:Ő3 [t,vD]=↑(.bl (mx t os)):=by
 have hw:=ĥ7 t Ho (by simp[sb]) hz hr0 he;cases hR:Ŵ2 t Ho with
 | Â=>
  have hN:mx t os=Â:=by
   cases t with
   | tup ts=>unfold mx;ext Ĵ;rw[show qu=Â from hR];rfl
   | _=>rfl
  rw[hN];rw[hR] at hw;show zO (zt yO (x9 (yI Na))) rfl
 | true=>
  rw[hR] at hw;cases t with
  | tup ts=>
   let#[rs,rfl,hr]:=ĳ3 (show qu=true from hR);ext Tu;have hc2:∀ b,ĺ2 [↑(.im (ώ)),↑(.im qc),b]=↑(Á (rs.map λ r=>T.bl (Γ os (Ã4)))):=λ b=>by
    exact wC zN _ rs rfl hz' K7;have hb:=(hr Ö).2.2 0;have h0:=ĸ6 (hr Ö).2.1;let#[a,b,c,d,rfl]:=ý2 (show Ğ=4 from (hr Ö).2.1);have hb':=hb a (0,Lp-1) Å;let#[x,x1,x2]:=ī1 (os:=os) (p:=a) hb'.1 (by have:=hb'.2;simp at this;lia) ho "keeper";have e1:Γ os (fst į)=(x == "keeper"):=by change Γ os a=_;unfold Γ;rw[x2]
    rw[e1];show fJ rfl (zK (zK (x:=vD) rfl (zK Å h0) x1) rfl (ů x "keeper" Â))
   have hN:mx (ώ) os=(pV (Ju)&&rs.all λ r=>Γ os (Ã4)):=by
    unfold mx;ext Ĵ;rw[aB,show ((vY).all Og)=true from hR,Rl,zdY];rfl
   rw[hN];show zO (zt yO (zt (yt Na) (yD (ix (zE (zk Q9 rfl) (zbz (Ju) (by rw[zA7];show hz'))) λ _=>bw (hc2 _))))) rfl
  | _=>cases hR
def jS Ī:Bool:=match t with
 | È [a,vD,c,d]=>yV&&(mS c æ&&mx d os)
 | _=>Â
def zbP (a:T) (os ws ss:Ù) (ha:q_ a=true) (ho:q_ qc=true) (hw:∀ r∈ws,N8) (hs:∀ r∈ss,N8) (lw:Ÿ<=16777216) (ls:ss.length<=16777216):
  eX [Qj]=↑(.bl (jS (Qj))):=by
 have brims:ŗ3 [a]=↑(.bl (xP a MR)):=zO (yD (zE (zk rfl (zk vU rfl)) (Ŏ3 a MR #[] ha))) rfl;have own:=zbC qc ho;change eX _=↑(.bl (yV&&(mS DT&&mx Wf)));cases hb:xP a MR with
 | Â=>rw[hb] at brims;show zO (zt LF (x9 (yI (ě8 NM) rfl))) rfl
 | true=>
  rw[hb] at brims;cases hw':iY qc with
  | Â=>rw[hw'] at own;show zO (zt LF (x9 (yI Wj))) rfl
  | true=>
   rw[hw'] at own;have hw2:=hw';simp![iY,zE5,Ķ] at hw2;have e1:=zbk DT ⋯ (λ ts e=>by cases e;show lw) (λ ts e=>by cases e;show hw) rfl;have e2:=zbq Wf hw2.2 hw2.1.2 (λ ts e=>by cases e;show ls) (λ ts e=>by cases e;show hs) rfl;show zO (zt LF (zt (yt Wj) (yD (ix (a:=mS DT) (b:=mx Wf) (zE (zk Rh (zk (zE A_ rfl) rfl)) e1) λ _=>zE KQ e2)))) rfl
def Đ0 (x y z v:T) (p q r s:Ó):xP (È [x,y,z,v]) [p,q,r,s]=(wh x tq&&(wh y q.1 q.2&&(wh z r.1 r.2&&wh v s.1 s.2))):=by simp[xP]
def J1 (x y:T) (p q:Ó):xP (È EJ) [p,q]=(wh x tq&&wh y q.1 q.2):=by simp[xP]
@[simp] theorem zcX Ak:ve Ig=jI Ig:=rfl
def Ų8 (m:Int) ŝ ĵ:Int:=if k<Ϲ then ns.getD k 0%m else 0
def ŋ2 (m a b c d e:T):Sm:=
 (zw (yd 2 Ľ)
 (zw (yw Tn (yd 2 (zc W5 (zc dG Ũ (cS m)))) y6)
 (retS (zc vi (zc xR (zc ye (zc ye (zc ve qk (cS a)) (zc ve (zc ve (cS b) ŭ) ŭ)) (zc ve (cS c) ŭ)) (cS d)) (cS e)))))
def ę8 (m a b c d e:Int) ŝ ĵ (hp:iH 2 m) (hm:0<(2:Int) ^ m.toNat) (h1:∀ i,nB i a) (h2:∀ i,nB b i) (h3:∀ i,nB i Í) (h4:∀ i,nB c i) (h5:0<d) (h6:pS 0 e):
  jb (ŋ2 (À m) (À a) (À b) (À c) (À d) (À e) [↑ ϵ,↑(.im Ρ),none])=↑(À ((Ų8 (2 ^ m.toNat) ns k*a+b*Í*Í+c*Í)%d/e)):=by
 have h6':∀ i,pS i e:=λ i=>h6;unfold ŋ2 ő5 Ų8;by_cases h:k<Ϲ
 .have q:Uw:=qR (AF);have h':HC:=⋯;simp[h,h',q,wg,hp,hm,jI,h1,h2,h3,h4,h5,h6',jb]
 .have h':¬ HC:=⋯;simp[h,h',wg,jI,h1,h2,h3,h4,h5,h6',jb]
def mixed ŝ ĵ:Int:=(Ų8 (2 ^ (64:Int).toNat) ns k*46337+2741*Í*Í+59*Í)%2147483629/2
theorem half_lt (x d:Int) (h:0<d):0<=x%d/2/\x%d/2<d:=by
 have h1:=zF0 x (b:=d) ⋯;have h2:=zF1 x h;lia
def Œ5 ŝ ĵ:0<=KR/\KR<2147483629:=half_lt Ë ()
def Yg ŝ ĵ G2:gO [Ϣ,sT]=↑(À (KR)):=
 ę8 64 46337 2741 59 2147483629 2 ns k Qq (λ i=>Ļ ň) CZ (λ i=>Ļ ī) CZ () ň
def ke ĺ K_:Prop:=∃ a b c d:Int,r=į/\(0<=a/\a<n)/\(0<=b/\b<n)/\(-12<=c/\c<=12)/\(-12<=d/\d<=12)
theorem ı1 (x s:Int) (h1:1<=s) (h2:s<=12):-12<=x%(2*s+1)-s/\x%(2*s+1)-s<=12:=by
 have a:=zF0 Wx;have b:=zF1 Wx;lia
def two IW:x%2=0\/x%2=1:=⋯
def xa Kr Ì Mc (h:0<j):zc xR fa fb J=↑(À (i%j)):=Xy
def xj Kr Ì Mc (h:pS i j):zc vi fa fb J=↑(À (i/j)):=Xy
def Ì4 Ŧ Ì{x y:T}Lr (h':Kl) (i:Nat):vk i (xc (za f KI)) J=↑(.nx (ϝ i ↑(Ð GZ))):=by
 have e:xc (za f KI) J=↑ GZ:=by
  change (za f KI J).bind _=_;rw[zk h (zk h' rfl)];rfl
 change (xc _ J).bind _=_;rw[e];rfl
def ĵ6 Ψ Ĺ Ì{x y z:T}{v:zEO}{k:Int}RB (h0:J[n]?=↑↑(Ð GZ)) (hk:k=0\/k=1):hJ n f v J=↑(.nx (ϝ n ↑(Ð (Á (if k=0 then [z,y] else [x,z]))))):=by
 ext oz;rw[hf,zC9,h0];rcases hk with rfl | rfl <;> rfl
def Ě0 ŝ (at' many k:Nat) (more span:Int) (rows:Ù) (ha:at' + k<=1000) (hm:1<=many) nV uS:
  ∃ a b c d m:Int,ke many į/\(yW->a=k)/\turn (zC 6) Ŕ4 (ET) [↑ ϵ,↑ B8,↑ qh,↑ iJ,↑ rQ,↑ qy,none,none,none,none] =
   ↑(.nx [↑ ϵ,↑ B8,↑ qh,↑ iJ,↑ rQ,↑(Ð (Á (rows++[zN į]))),↑(.im (ET)),↑(.im (À m)),↑(.im (À a)),↑(Ð (Á [À c,À d]))]):=by
 have hmx:=Yg ns (at' + k) ha;generalize mixed ns (at' + k)=m at hmx;have pm:sW<many:=⋯;have ps:0<JF:=⋯;have cm:nB 2 span:=ð ň;have e1:=zF0 m (b:=CR) ⋯;have e2:=zF1 m pm;have e3:=zF0 (m/8) (b:=CR) ⋯;have e4:=zF1 (m/8) pm;have c1:=ı1 (m/64) span hs1 hs2;have c2:=ı1 (m/2048) span hs1 hs2;have zz:(-12:Int)<=0/\sW<=12:=ň;have cc:sW+Í=Í:=⋯;rw[show ((at' + k:Nat):Int)=qz+Í by lia] at hmx;rw[cc];by_cases hk:Í<CR
 .by_cases h5:m/65536%5=0
  .ext Sq
   .show#[k,Iv,0,Dj,m,#[_,_,_,_,rfl,Jt,Hf,zz,c2],à,zt JQ (zt uJ (zt Kq QK))]
   .show#[k,Iv,Jp,0,m,#[_,_,_,_,rfl,Jt,Hf,c1,zz],à,zt JQ (zt uJ (zt Kq O7))]
  .show#[k,Iv,Jp,Dj,m,#[_,_,_,_,rfl,Jt,Hf,c1,c2],à,zt JQ (zt uJ (zt Kq US))]
 .by_cases h5:m/65536%5=0
  .ext Sq
   .show#[m%many,Iv,0,Dj,m,#[_,_,_,_,rfl,GU,Hf,zz,c2],Hw,zt JQ (zt uJ (zt uf QK))]
   .show#[m%many,Iv,Jp,0,m,#[_,_,_,_,rfl,GU,Hf,c1,zz],Hw,zt JQ (zt uJ (zt uf O7))]
  .show#[m%many,Iv,Jp,Dj,m,#[_,_,_,_,rfl,GU,Hf,c1,c2],Hw,zt JQ (zt uJ (zt uf US))]
def ke.row Ψ IY(h:ke n r):xP Ad (wb n)=true:=by
 let#[a,b,c,d,rfl,h1,h2,h3,h4]:=h;ext X5;unfold wb;ext PU
theorem ĵ3:∀ {rs:ĥ},rs.Pairwise (λ a b=>Ap b a=Â)->rs.Nodup->iM rs=true
 | [],_,_=>rfl
 | [a],_,_=>rfl
 | KU,h,nd=>by
  have h1:=u0 h;have n1:=zd7.mp nd;rw[iM,ĵ3 h1.2 n1.2,Bool.and_true];cases q:Ap a b with
  | true=>rfl
  | Â=>show ã (L4.œ5 a b q (h1.1 b zc7)▸zc7) n1.1
def Ê3 IY{rs:ĥ}:oW G7=none:=rfl
def Ò3 (rs:ĥ) (h0:rs≠[]) (hl:A7<64) (hn:∀ r∈rs,r≠[]):fg [Á (vY)]=↑(Á ((L4.vp (pH rs)).map zN)):=by
 cases rs with
 | nil=>show R6
 | cons r rs=>
  change (match oW G7 with
   | some ns=>if Ϲ<64 then ↑(ϣ ((nD ns).map Ú)) else none
   | none=>dr [ϣ G7])=_
  rw[Ê3];change (nY G7).bind _=_;rw[Ś8,zC9,Ç #[hl,hn]]
def zbH ŝ V_ (span:Int) (ha:at'<=100) Lc (hmo:more<=16) nV:
  ∃ rs:ĥ,Ŕ6 [Ϣ,À at',uD,Gs,À span]=↑(ώ)/\NY/\rs≠[]/\A7<=IJ/\Qf/\Vz:=by
 let#[J',h1,rows,h2,h3,h4,h5]:=pk (is:=[6,7,8,9]) (g:=zC 6) (b:=Ŕ4) Aa (λ p J=>∃ rows:ĥ,J=[↑ ϵ,↑ B8,↑ qh,↑ iJ,↑ rQ,↑(Ð HU),none,none,none,none]/\
   uH=Ğ/\(∀ r∈rows,Hm)/\∀ k∈p,yW->Í ∈rows.map fst) (Ñ (IJ)) [↑ ϵ,↑ B8,↑ qh,↑ iJ,↑ rQ,↑ E7,none,none,none,none]
   #[[],rfl,rfl,ľ,ľ] (by
  rintro p k q e J ⟨rows,rfl,r1,r2,r3⟩;have hp:Ğ+1<=IJ:=by
   ext gq
  have hk:k<IJ:=by
   have:k∈ Ñ (IJ):=Ň
   ext G3
  let#[a,b,c,d,m,w1,w2,w3]:=Ě0 ns at' many k more span yU ⋯ hm hs1 hs2 Ŗ;exact#[_,w3,rows++[į],#[],by simp[r1],rS,λ j hj hjm=>?_]
  .rcases Ű hr with z | z
   .show r2 r z
   .cases Œ z;show w1
  .rw[zE7];rcases Ű hj with z | z
   .show zdN _ (r3 j z hjm)
   .cases Œ z;show zB4 _ (by rw[<- w2 hjm];show zc7))
 subst h2;have hlen:uH=IJ:=by rw[h3];simp
 have hne:rows≠[]:=λ z=>by rw[z] at hlen;simp at hlen;lia
 have hrow:∀ r∈rows,r≠[]:=λ r hr=>by let#[a,b,c,d,rfl,_]:=h4 ş;simp
 have hss:=Ò3 rows hne ⋯ hrow;have hmem:∀ r,r∈ J4 ↔r∈rows:=λ r=>by rw[(L4.kl _).mem_iff,cg]
 have hl24:(J4).length<=24:=by rw[Qm];have:=aY rows;lia
 have hgw:∀ k:Nat,yW->∃ r∈ J4,Ã4=Í:=λ k hk=>by
  let#[r,hr,e]:=â (h5 k Ŗ hk);show#[r,IQ hr,e]
 exact#[J4,?_,?_,?_,by rw[Qm,<- hlen];show aY rows,λ r hr=>fe,hgw]
 .obtain⟨N,hN⟩:∃ N,N=IJ:=rp;have hr:=aC N ⋯;have ee:(CR+JX)=(N:Int):=⋯;rw[<- hN] at h1;exact zO (zt rfl (zt (xU ?_ h1) (yD (zE (zk (zE Ń hss) rfl) rfl)))) rfl;change (za Ô).bind wI=_;rw[zk (x:=À (CR+JX)) Rh rfl,ee];show hr
 .simp![mS,aB,zE5,Ķ,zA7];exact#[Vg,hl24,ĵ3 (L4.ar _) ((L4.kl _).nodup_iff.mpr (aX rows)),Q4 Gw]
  .ext UW;show (fe).row
  .have hk':yW:=by exists hk
   have:=h5 k Ŗ hk';let#[r,hr,e]:=â this;show ϗ #[Ã4,Ś #[r,IQ hr,rfl],rK]
 .intro z;cases hr:rows with
  | nil=>show hne hr
  | cons r l=>
   have:r∈ J4:=IQ (by rw[hr];show zc7);rw[z] at this;cases this
def kj F9 K_:Prop:=∃ a b c d:Int,r=į/\(0<=a/\a<æ)/\(0<=b/\b<=1)/\(1<=c/\c<=12)/\(0<=d/\d<=12)/\Γ os a=true
def kj.row {os:Ù}IY(h:kj os r):xP Ad Ho=true:=by
 let#[a,b,c,d,rfl,h1,h2,h3,h4,_]:=h;ext X5;unfold sb;ext PU
theorem ņ3:∀ ŝ IW,pV ns=true->(∀ n∈ns,n<x)->pV (ns++[x])=true
 | [],x,_,_=>rfl
 | [a],x,_,h=>by simp[pV];show h a zc7
 | KU,x,h,hx=>by
  ext CE
  have ih:=ņ3 sS x h'.2 λ n hn=>hx n (zc8 _ hn);change (qt&&pV (sS++[x]))=true;rw[h'.1,ih];rfl
def Đ1 F9 ĵ (hk:k<æ) (s kk:Str) (hs:ĩ os Í=↑(Ä s)) (cell:Int) (rows:Ù) uS (bb:Sm)
  (hb:bb=(zw (yw (ij (zV (zc ϙ (zc É0 ű) (cS (Ä kk)))) (zV (zc ϙ (zc xR í Ũ) ħ))) (pB 2 (tupS (za (zr 3) (za (zc xR (zc vi í Ũ) Ũ) (za (zc ye ħ (zc xR (zc vi í (cI 4)) (cI 12))) (za (zc xR (zc vi í (cI 48)) (cI 13)) ze)))))) y6)
 (yd 0 (zc vi í (cI 624))))):
  turn (zC 3) bb (ET) [↑ Yx,↑ tR,↑ qy,none]=↑(.nx [↑(.im (À (cell/624))),↑ tR,↑(Ð (Á (rows++(if (s == kk)=true/\cell%2=1 then [zN [Í,cell/2%2,1+cell/4%12,cell/48%13]] else [])))),↑(.im (sT))]):=by
 ext XO;have d624:pS cell 624:=ň;have d2:pS cell 2:=ň;have d4:pS cell 4:=ň;have d48:pS cell 48:=ň;have cc:sW+Í=Í:=⋯;rw[cc];subst hb;cases hq:(s == kk) with
 | Â=>
  rw[Ü (λ z=>by cases z.1),zd1];show zt (yt (ě7 IE) rfl) Gf
 | true=>
  by_cases h2:cell%2=1
  .rw[Ç #[rfl,h2]];show zt (yI (ť8 IE (NF (É some (zg6 h2)))) (om rfl (xh (zk rfl (zk (xa (xj Å d2) Ϝ) (zk (zK rfl (xa (xj Å d4) Ϝ) rfl) (zk (xa (xj Å d48) Ϝ) rfl)))) Ε) ⋯)) Gf
  .rw[Ü (λ z=>h2 z.2),zd1];show zt (yt (ť8 IE (NF (É some (zg7 h2)))) rfl) Gf
theorem zbI (cell:Int) F9 (ho:Ll) (h8:æ<=8):∃ qs:ĥ,œ6 [À cell,Á os]=↑(Ek)/\Ls/\ϻ<=8/\BH/\qv:=by
 let#[J',h1,c',qs,h2,h3,h4,h5,h6]:=pk N7 (b:=Ū7) Aa (λ p J=>∃ (c:Int) (qs:ĥ),J=[↑(.im (À c)),↑ tR,↑(Ð (Á (Ĳ zN))),none]/\ϻ<=Ğ/\BH/\qv/\∀ n∈ Ĳ fst,n<(Ğ:Int))
   (Ñ æ) [↑ Yx,↑ tR,↑ E7,none] #[cell,[],rfl,Α,ľ,rfl,ľ] (by
  rintro p k q e J ⟨c,qs,rfl,r1,r2,r3,r4⟩;have hpk:Ğ=k:=by
   have h:=É (λ l=>l[Ğ]?) e;have hp:Ğ<æ:=Qa
   simp[hp] at h;show h
  have hk:k<æ:=by
   have:k∈ Ñ æ:=Ň
   ext G3
  let#[s,s1,s2]:=ī1 (os:=os) (p:=Í) ğ ho "keeper";have tn:=Đ1 os k hk s "keeper" s1 c (Ĳ zN) Ŗ Ū7 rfl;have ek:Γ os Í=NC:=by unfold Γ;rw[s2]
  by_cases hc:NC=true/\c%2=1
  .rw[Ç hc] at tn;exact#[_,tn,c/624,qs++[[Í,c/2%2,1+c/4%12,c/48%13]],#[],B7,rS,?_,Lj]
   .rcases Ű hr with z | z
    .show r2 r z
    .cases Œ z;show#[_,_,_,_,rfl,⋯,⋯,⋯,⋯,by rw[ek];show hc.1]
   .rw[zE7];exact ņ3 Ë r3 Lj;have:=r4 n hn;change n<Í;lia
   .rw[zE7] at hn;rcases Ű hn with z | z
    .have:=r4 n z;simp;lia
    .have:n=Í:=by simpa [fst] using z
     simp;lia
  .rw[Ü hc,zd1] at tn;show#[_,tn,c/624,qs,#[],B7,r2,r3,λ n hn=>by have:=r4 n hn;simp;lia])
 subst h2;exact#[qs,?_,?_,by simp at h3;lia,h4,h5]
 .have hr:=aC æ ⋯;show zO (zt rfl (zt sF (yD sV))) rfl
 .simp![mx,aB,h5,Rl,zE5];exact#[Vg,Q4 Lj]
  .ext UW;show (h4 ş).row
  .let#[r,hr,rfl]:=â hn;let#[a,b,c,d,rfl,_,_,_,_,h]:=h4 ş;show h
def Ŀ7 (b m e:T):Sm:=
 (zw (yw (ij (xq qk) Tn) (retS (zc W5 (zc dG (cS b) (cS m)))) y6)
 (zw (yd 3 (zl gO (za (zr 0) Ji)))
 (retS (zc ye (zc ve (zc ve ű ű) ű) (zc ve (cS e) ű)))))
def ä8 (b m e:Int) ŝ ĵ (d:Bool) G2 (hp:iH b m) (hm:0<b ^ m.toNat) (he:∀ i,nB e i) (hx:∀ i j:Int,0<=i->i<2147483629->nB j i):
  ∃ c,jb (Ŀ7 (À b) (À m) (À e) [↑ ϵ,↑(.im Ρ),↑(.im (.bl d)),none])=↑(À c):=by
 have hmx:=Yg ns k hk;let#[m0,m1]:=Œ5 ns k;generalize KR=q at *;have x1:=hx q q m0 m1;have x2:=hx q (q*q) m0 m1;unfold Ŀ7 ő5 at *;cases d
 .show#[_,by simp[hmx,jI,x1,x2,he,jb];rfl]
 .by_cases h:k<Ϲ
  .have z:Uw:=qR (AF);have h':HC:=⋯;show#[_,by simp[h,h',z,wg,hp,hm,jb];rfl]
  .have h':¬ HC:=⋯;show#[_,by simp[h,h',wg,hmx,jI,x1,x2,he,jb];rfl]
def zbr ŝ ĵ (d:Bool) G2:∃ c,Ť4 [Ϣ,sT,.bl d]=↑(À c):=
 ä8 10 64 104729 ns k d hk Qq CZ (λ i j h1 h2=>Ļ ī)
def za0 IW (h:0<=x):Ao x 1=0\/Ao x 1=1:=by
 have e:Ao x 1=((x.toNat &&& 1:Nat):Int):=by
  unfold Ao;simp[h]
 rw[e,Nat.and_one_is_mod];lia
def kt uX:T:=cond b Df (Fb)
def Ĥ5 uX:md (kt b)=true:=by cases b <;> decide
def Ò5 (k l:Str) (s a m b e x:T) Ý (num:Int) (h0:0<=num) (rows:Ù) uS (u v:ä W) (bb:Sm)
  (hb:bb=(pB 6 (zc zi (xc SO) (zc Ŕ2 (zc ů7 sf Em) ħ)))):
  ∃ y,(y=Ä k\/y=Ä l)/\turn (zC 7) bb (À (0+Ħ)) [↑(.im s),↑ qI,↑(.im m),↑(.im b),↑(.im e),↑ HP,↑ qy,none,u,v] =
   ↑(.nx [↑(.im s),↑ qI,↑(.im m),↑(.im b),↑(.im e),↑ HP,↑(Ð (Á (rows++[y]))),↑(.im (À Ħ)),u,v]):=by
 ext XO;have cc:sW+Ħ=Ħ:=⋯;have hq:0<=num/2 ^ iP:=Int.ediv_nonneg h0 (Int.pow_nonneg ());rw[cc];subst hb;unfold turn;have tn:iP=p:=#[];rw[tn] at hq;rcases za0 _ hq with h | h
 .show#[Ä k,ð rfl,N5]
 .show#[Ä l,Ļ rfl,N5]
def four IW:x%4=0\/x%4=1\/x%4=2\/x%4=3:=⋯
def zbJ ŝ V_ (br:T) (ha:at'<=50) Lc (hmo:more<=16):
  ∃ (os:Ù) (rs qs:ĥ),Yk [Ϣ,À at',uD,br,Gs]=↑ Om/\FF/\Ll/\
   NY/\Ls/\rs≠[]/\A7<=IJ/\ϻ<=8/\Qf/\(Vz)/\BH/\qv:=by
 have hmx:=Yg ns at' ⋯;let#[m0,m1]:=Œ5 ns at';generalize mixed ns at'=num at *;let#[J',h1,os,h2,h3,h4]:=pk (is:=[7]) (g:=zC 7) (b:=Ő5) Aa (λ p J=>∃ os:Ù,J=[↑ ϵ,↑ B8,↑ qh,↑(.im br),↑ iJ,↑ HP,↑(Ð (Á os)),none,none,none]/\æ=Ğ/\Ll)
   (Ñ many) [↑ ϵ,↑ B8,↑ qh,↑(.im br),↑ iJ,↑ HP,↑ E7,none,none,none] #[[],rfl,rfl,rfl] (by
  rintro p k q e J ⟨os,rfl,r1,r2⟩;have hp:Ğ<many:=Qa
  let#[y,y1,y2]:=Ò5 JI (Ϣ) (À at') (uD) br (Gs) (Δ) k num m0 os ⋯ ì Ő5 rfl;exact#[_,y2,os++[y],rfl,by simp[r1],?_];rw[List.all_append,r2];rcases y1 with z | z
  .subst z;show Ĥ5 true
  .subst z;show Ĥ5 Â)
 subst h2;have hos:FF:=by exists h3
 have d256:pS num 256:=ň;have d1024:pS num 1024:=ň;have d3072:pS num 3072:=ň;obtain⟨span,s1,s2,s3⟩:∃ span:Int,1<=span/\span<=12/\ĩ [Ú 1,À 2,À 3,À 12] (num/256%4)=↑(À span):=by
  rcases four (num/256) with h | h | h | h <;> rw[h]
  .show#[1,(),(),rfl]
  .show#[2,(),(),rfl]
  .show#[3,(),(),rfl]
  .show#[12,(),(),rfl]
 let#[rs,w1,w2,w3,w4,w5,w6]:=zbH ns (at' + 2) many more span ⋯ hm hm8 hmo s1 s2;let#[cell,c1]:=zbr ns (at' + 1) (Î (num/3072%2=1)) ⋯;let#[qs,q1,q2,q3,q4,q5]:=zbI cell os h4 ⋯;have hr:=aC many ⋯;have e1:((at' + 1:Nat):Int)=qz+1:=⋯;have e2:((at' + 2:Nat):Int)=qz+2:=⋯;rw[e1] at c1;rw[e2] at w1;by_cases hst:num/1024%3=1
 .exact#[os,rs,qs,?_,hos,h4,w2,q2,w3,w4,q3,w5,w6,q4,q5];show zO (zt O_ (zt rfl (zt sF (zt Ġ2 (zt Bs (zt (yI (fz (É some (zg6 hst)))
   (zX (i:=9) (zE (zk (zE (zk rfl (zk Rh (zk (zK uB JR) rfl))) c1) Ń) q1))) Pk)))))) rfl
 .exact#[os,rs,[],?_,hos,h4,w2,?_,w3,w4,#[],w5,w6,ľ,rfl]
  .show zO (zt O_ (zt rfl (zt sF (zt Ġ2 (zt Bs (zt (yt (fz (É some (zg7 hst))) rfl) Pk)))))) rfl
  .simp[mx,pV]
def ė4 {br:T}{os:Ù}{rs qs:ĥ}{many:Nat}(hb:xP br MR=true) (h1:FF) Lc (h2:Ll) (h3:NY) (h4:Ls):
  jS Om=true:=by
 have eo:iY qc=true:=by
  have a:1<=æ:=⋯;have b:æ<=8:=⋯;simp[iY,a,b,h2]
 unfold jS;simp![hb,eo,h1,h3,h4,zeP]
end z_
namespace z_
open ξ L2 L3 L5 SJ
def num Gg:Str:=(toString n:String)
def nums:ë:=(Ñ 25).map λ Ŭ=>(-12:Int)+Í
def wd Fm:Ĥ:=if (Rn)=true then ↑0 else if (ED)=true then ↑1 else qD Di
def oT:Ĥ->T
 | none=>.zx
 | some n=>À n
def o6 (r:ř):T:=È (AB oT)
def ĺ1 ĸ(ret:uz) (J0:Ev):ä α->Out
 | some x=>G_
 | none=>.nx J0
theorem fE ĸ{is:ç}ϑ Si:∀ Hc (J:Ev),BW=J0->
  Vb->
  X6=↑(ĺ1 ret J0 (RH))
 | [],J,h,_=>by ext PR;rfl
 | É2,J,h,ht=>by
  ext M0;by_cases c:Jg
  .rw[Ç c,c];rfl
  ext TQ
def nk {n:Int}(h:SR):y9 [À n]=↑(EY):=Ç h
def ē5 (w k l:Str) (h:(k == w||l == w)=true):cA (È M1) Dl=↑(oT (if (k == w)=true then ↑0 else ↑1)):=by
 have e:kQ M1=↑[k,l]:=rfl;unfold cA;ext Ĵ;rw[e,zC9];by_cases hk:k=w
 .subst hk;simp[oT]
 .have hl:l=w:=by
   rw[zE6,Nb,Nb] at h;show h.resolve_left hk
  subst hl;simp[oT,hk,List.idxOf_cons];simp[Ij hk]
def zo ÿ4 Ì R5:N2:=Ph
def oP Ex{g:zEO}{u:ŷ}Ì IK Hl Ο(h1:g J=↑(Ä y)) (h2:Hk) (h:F (Ä y::xs)=r):xF F g u J=r:=by ext Aw;rw[h1];change rm;rw[h2];show h
def yY Ex{g:zEO}Ì{x:T}Ο(h:g J=↑x) (hF:F [x]=r):zl F KI J=r:=by change ((g J).bind _).bind _=_;rw[h];show hF
def Æ3 Fm:pd [1] (zC 1) Ś1 RT HF=↑(ĺ1 Ú HF (qD Di)):=by
 exact fE (is:=[1]) Ú Ú (Di) HF nums HF rfl λ n hn=>#[Iy,rfl,?_];have hb:SR:=by
  let#[k,hk,rfl]:=â hn;rw[zC1] at hk;lia
 change Ś1 Iy=_;have h1:zc ϙ í (zl y9 (za ŭ ze)) Iy=↑(.bl (w == Js)):=zo rfl (yY rfl (nk hb)) (ů w ł Â);cases hc:(w == Js) with
 | true=>show yI iK
 | Â=>show yt iK
def zbi Fm:Ye [Ä w]=↑(oT (wd w)):=by
 have hin:zc (wO Â) í (eE MZ) HF=↑(.bl (Rn||ED)):=zo Å (ŗ0 w "a" "b" _ rfl);have hr:xt dA (za (jH (cI 12)) (za (zc ye (cI 12) ħ) ze)) HF=↑ RT:=rfl;unfold Ye wd;exact UM;unfold į0;cases hc:(Rn||ED) with
 | true=>
  exact x9 (yI Wk (yD ((zo Å (ē5 w "a" "b" hc)).trans ?_)));by_cases ha:(Rn)=true
  .rw[Ç ha,Ç ha]
  .rw[Ü ha,Ü ha,Ç];rw[zE9] at ha;rw[ha,Bool.false_or] at hc;show hc
 | Â=>
  exact zt (yt Wk rfl) ?_;rw[Bool.or_eq_false_iff] at hc;rw[hc.1,hc.2,eT,eT];have hl:=Æ3 w;cases hf:qD (Di) with
  | some n=>rw[hf] at hl;show x9 (xU hr hl)
  | none=>rw[hf] at hl;show zt (xU hr hl) rfl
def Ĥ2 (ws:Ø) (h:Ÿ<=16777216):gM [Qx]=↑(o6 (Ł wd)):=by
 exact zO (yD (yY (x:=Á ((Ł wd).map oT)) AI)) rfl;unfold ğ0;rw[zD6];show wC Ò _ ws Jj λ w hw=>by simp[oS,zbi]
theorem Û5 D0 (hx:Ι<=1000000):ff x y:=by
 ext LB;have h1:=RA;have h2:=StrLaws.occ_length_le x y 0 Ι (Ι+1);exact#[⋯,⋯,?_,⋯];rw[PyProof.Rows.len_partsBetween];lia
def ŧ5 D0 (hx:Ι<=1000000):oO [Ä x,Ä y]=↑(Á ((ţ x y).map Ò)):=Ç (Û5 hy hx)
def ŏ7 D0:(ţ x y).length<=Ι+1:=by
 have h1:=RA;lia
def Ŗ4 (ws:Ø):gz Pm (Qx)=↑(Á ((ws.drop 1).map Ò)):=by
 change ↑(ϣ (mM Ô))=_;rw[Ő1,ze1]
def n_ BO:ř:=Oy wd
def aF BO:ř:=(ţ (t4) " ").map wd
def Ð7 BO:(t4).length=Ğ:=by
 have h:=É Str.length (StrLaws.join_split p ">");have e:t4=Õ " " (ţ p ">"):=StrLaws.replace_one p " " 62;rw[e];exact DL ?_ h;cases hs:ţ p ">" with
 | nil=>rfl
 | cons a l=>rw[WS,WS];rfl
theorem Ŀ6 {g:zEO}Ì RX:zl gM (za (nX (xF oO g KS) GG) ze) J=↑(o6 (n_ p)):=by
 have hm:=ŏ7 (x:=p) (y:=" ") ();exact yY (x:=Á (Oy Ò)) ?_ (Ĥ2 _ (by rw[zdI];lia));change (xF oO g _ J).bind _=_;rw[oP KG (ŧ5 () hp)];show Ŗ4 _
theorem é9 {g:zEO}Ì RX:zl gM (za (xF oO (Ō6 ">" " " g) KS) ze) J=↑(o6 (aF p)):=by
 have hl:=Ð7 p;have hm:=ŏ7 (x:=t4) (y:=" ") ();exact yY (oP (y:=t4) AI (KP)) (Ĥ2 _ ⋯);ext Be;show Ç hp
abbrev Rd:=Ø ×List (ř)×List (ř)
def lF BO:Bool:=QQ == p||("taker":Str) == p
def dk BO:Bool:=KN p "stall "
def wH μ BO:Rd:=if JE then Ĭ1 else if dk p=true then (s.1,sH,A2++[n_ p]) else (s.1,sH++[aF p],A2)
def lQ (a:T) μ (v:Ŝ):Ev:=[↑ qI,↑(Ð (Á (HV))),↑(Ð (Á Ih)),↑(Ð (Á JB)),v,none]
def Ě6 μ BO:(Im).1.length+(Im).2.1.length+(Im).2.2.length=GB+1:=by
 unfold wH;split
 .simp;lia
 .split <;> simp <;> lia
theorem ŉ6:∀ vV μ,(LP).1.length+(LP).2.1.length+(LP).2.2.length=GB+ı
 | [],s=>rfl
 | p::ps,s=>by
  have h:=ŉ6 ps (Im);have h':=Ě6 s p;rw[zdO,zC0];lia
theorem Ü4 (a:T) μ BO (hp:Hg) (hl:GB<=10000):turn (zC 4) bu (Ä p) (lQ a s none)=↑(.nx (lQ a (Im) ↑(.im (Ä p)))):=by
 change bu Kp=_;have hin:zc (wO Â) HG (tupS (za (cS Df) (za (cS (Fb)) ze))) Kp=↑(.bl (lF p)):=zo rfl (xh Ϝ) (ŗ0 p JI _ rfl);have hst:xF gY HG (za (cS (Ä "stall ")) ze) Kp=↑(.bl (dk p)):=oP Hi;unfold wH bu;cases h1:lF p with
 | true=>
  exact yI RF ((om Å (uW)).trans ?_);rw[BA];change _=↑(Out.nx (lQ a Ĭ1 _));ext qb
 | Â=>
  exact yt RF ?_;rw[eT];cases h2:dk p with
  | true=>
   exact yI U7 ((om rfl (Ŀ6 rfl hp) (uW)).trans ?_);rw[BA];ext qb
  | Â=>
   exact yt U7 ((om rfl (é9 rfl hp) (uW)).trans ?_);rw[eT];ext qb
def kX (b:ř) μ:T:=È [o6 b,È (HV),È Ih,È JB]
theorem zbB (p0:Str) vV (hs:∀ p∈p0::ps,Hg) (hl:ı<=10000):Yf [HD]=↑(kX Rg):=by
 let#[J',h1,h2]:=pk df (b:=bu) Ò (λ q J=>J=lQ (HD) (q.foldl wH vX) none) ps (lQ (HD) vX none) rfl (by
  rintro q x r e J rfl;have hx:x∈ps:=Ň
  have hq:q.length<=10000:=Qa
  have hf:=ŉ6 q vX;simp![zdD,zdQ] at hf;exact#[_,Ü4 Ë x (hs Lf) ⋯,?_];rw[zeW];rfl)
 subst h2;exact UM;unfold ĸ5;exact zt rfl (zt rfl (zt rfl (zt (xU ?_ h1) ?_)))
 .change (gz Pm (HD)).bind qY=_;rw[Ŗ4];rfl
 .exact zt (zX (Ŀ6 (p:=p0) ?_ (hs p0 zc7))) (yD ?_)
  .show zo Å (qR MW)
  .show xh (xs:=[o6 (n_ p0),_,_,_]) rfl qB
def Nm Gg:Prop:=-12<=n/\n<=13
def ė5:((Ñ 26).all λ Ŭ=>Î ((Gy).length<=3)&&(! sL 59&&(! sL 62&&(! sL 32&&(Î ((L (Gy)).head?≠↑115)&&Î (wd (Gy)=if Í-12<=12 then ↑(Í-12) else none))))))=true:=()
theorem vd HL:(Js).length<=3/\59∉L ł/\62∉L ł/\32∉L ł/\(L ł).head?≠↑115/\wd ł=Ut:=by
 have hk:=GW ė5 (n+12).toNat (by rw[zC1];have:=h.1;have:=h.2;lia);have e:(((n+12).toNat:Nat):Int)-12=n:=by have:=h.1;lia
 rw[e] at hk;ext Uv;show hk
def kF (f:zEO) (J:Ev) (a:Str) ĺ:Prop:=f J=↑(Ä a)/\a.length<=n
theorem oo Ŧ Ì{a b:Str}{n m:Nat}(h:kF f J a n) (h':kF g J b m) (hn:n+m<=1000000:=by decide):kF (zc ye f g) J (a++b) (n+m):=by
 ext LB;have h1:=h.2;have h2:=h'.2;exact#[zo h.1 h'.1 (rC),?_];rw[DJ];lia
theorem m_ ż{k:Int}Ì ŋ{n:Int}(h0:zr i J=↑ GX) (hk:ĩ ts k=↑ uh) (hn:Nm n):kF (zl y9 (za (zc zi (zb i) Ky) ze)) J ł 3:=by
 have e:zb i J=↑ GX:=by
  unfold zr at h0;unfold zb;split at h0
  .rename_i e;rw[e];show h0
  .cases h0
 show#[yY (zo e rfl hk) (nk (by have:=hn.1;have:=hn.2;lia)),(vd hn).1]
def cB Ì(a:Str) ĺ (h:a.length<=n:=by decide):kF (cS (Ä a)) J a n:=#[rfl,h]
def mz (b:Int):Str:=if b=0 then "a" else "b"
def wX:ë->Str
 | į=>ų++">"++ue++" "++ς++" "++τ
 | _=>""
def pX:ë->Str
 | į=>"stall "++ų++" "++mz b++" "++ς++" "++τ
 | _=>""
def Α6 rB:Str:="brims "++uM++" "++Dp
def į6 K_:Prop:=∃ a b c d,r=į/\Nm a/\Nm b/\Nm c/\Nm d
def Ĭ8 K_:Prop:=∃ a b c d,r=į/\Nm a/\(Ka)/\Nm c/\Nm d
def ů0 {f:Nat}Ì v5 (h0:zr f J=↑ Ad):
  kF (zc ye (zc ye (zc ye (zc ye (zc ye (zc ye (zl y9 (za rJ ze)) (cS (Ä ">"))) (zl y9 (za (zc SX ħ) ze))) rW) (zl y9 (za (zc SX Ũ) ze))) rW) (zl y9 (za (zc SX (cI 3)) ze))) J qp 20:=by
 ext χ;have z:=oo (oo (oo (oo (oo (oo (Ei) (cB ">" 1)) (m_ h0 Dz hb)) LH) (Ie)) LH) (DG);show W6
def zbl v5:ņ4 [zN r]=↑(Ä qp):=zO (yD (ů0 (f:=0) KG).1) rfl
def Ă1 KH:zi (È ((MZ:Ø).map Ò)) (À b)=↑(Ä rE):=by
 ext QD
theorem Ē3 KH:zi (Ä "ab") (À b)=↑(Ä rE):=by
 have hl:("ab":Str).length<=ql:=()
 exact (Ç (e:=none) hl).trans ?_;ext QD
def zbt Aj:ř9 [zN r]=↑(Ä t8):=by
 ext χ;have h0:zr 0 RJ=↑(È Jf):=rfl;have hp:kF (zc zi (eE MZ) (zc zi í ħ)) RJ rE 1:=#[zo Å (Ă1 hb),LO];show zO (yD (oo (oo (oo (oo (oo (oo (oo (cB "stall " 6) (Ei)) LH) hp) LH) (Ie)) LH) (DG)).1) rfl
def wc EL:Ø:=Υ::(He)
def zF EL:T:=È [K8,È (Ő Ò),È (Ł zN),Ek]
structure kJ EL:Prop where
 x:Nm x
 y:Nm y
 o:Z2
 w:NN
 q:jq
 ln:æ+Ÿ+ϻ<=60
def Ō5 {p:Str}(h:JE):p="keeper"\/p="taker":=by
 unfold lF at h;rw[zE6,Nb,Nb] at h;show h.imp Eq.symm Eq.symm
theorem ľ8 Aj:(pX r).length<=20:=by
 ext χ;have hp:Ws:=LO
 have e:("stall ":Str).length=6:=()
 have e1:UL:=()
 ext R0;simp![pX,DJ];lia
def Ó6 v5:(wX r).length<=20:=(ů0 (f:=0) (J:=[↑ B1]) KG).2
def Ż9 {f:Nat}Ì tF ŋ VC (h0:zb f J=↑(È (K8::ts))):
  kF (zc ye (zc ye (zc ye (cS (Ä "brims ")) MG) rW) Nj) J (Υ) 20:=by
 have e:zc SX Ľ J=↑(K8):=zo h0 rfl (qR MW);have hX:kF MG J (uM) 3:=#[yY (zo e Å) (nk (by have:=hx.1;have:=hx.2;lia)),(vd hx).1];have hY:kF Nj J (Dp) 3:=#[yY (zo e Å) (nk (by have:=hy.1;have:=hy.2;lia)),(vd hy).1];have z:=oo (oo (oo (cB "brims " 6) hX) LH) hY;show W6
def Ħ2 Ϫ ϕ:∀ p∈ Kk,Ğ<=20:=λ p hp=>by
 ext Ζ
 .show (Ż9 (f:=0) (J:=[↑(.im (È [K8]))]) h.x h.y rfl).2
 .ext vC
  ext Oi
  .ext vC
   .ext Ø8;show Ó6 (tD)
   .ext Ø8;show ľ8 (qH)
def di JD Ψ:(∀ p∈ps,Ğ<=n)->YG<=ı*n:=by
 induction ps with
 | nil=>show λ _=>Ϟ
 | cons p ps ih=>
  intro h;have h1:=h p zc7;have h2:=ih EV;rw[zA6,ze4,zC0,Nat.succ_mul];lia
theorem Ġ0:∀ ss:Ø,kQ uL=↑ss
 | []=>rfl
 | s::ss=>by change (kQ uL).map _=_;rw[Ġ0 ss];rfl
theorem cx {sep:Str}JD(hs:sep.length<=8) (h:YG+ı*8<=1000000):mh [Ä sep,Á Ę3]=↑(Ä (Õ sep ps)):=by
 have e:kQ Ę3=↑ps:=Ġ0 ps;have h1:ı*sep.length<=ı*8:=Nat.mul_le_mul_left _ hs;change (kQ Ę3).bind _=_;rw[e,zC9,Ç (PyProof.Rows.joinOk_of ⋯)];show É yQ (StrLaws.glued_eq_join sep ps)
theorem Ł1 Ϫ ϕ:mh [Ä "; ",Á ((Kk).map Ò)]=↑(Pr):=by
 exact cx () ?_;have h1:=di (Ħ2 h);have hl:FQ<=101:=by
  ext R8
 have:FQ*20<=101*20:=vI;have:FQ*8<=101*8:=vI;lia
def ZN ż Ĺ Ì ŋ RU:Sg:=vF
theorem cn {u:ŷ}Ì Po:xc u J=↑(Á xs):=Me
theorem ç0 ż Ĺ Ì{ts us:Ù}sy (h:f J=↑(È us)) Ā6:cM i f J=↑ Od:=by
 unfold cM;ext DH;rw[h];show B4
theorem ğ5 ż Ĺ Ì dX:VH:=by
 unfold jl;ext DH;rw[h];show B4
def Ł0 Ĺ Ì ŋ Ĩ{zs:Ù}(h:f J=↑ GX) (hk:ts[k]?=↑(È zs)):xi (zc zi f Ky) J=↑zs:=by
 change (zc zi f Ky J).bind _=_;rw[zo KG (qR hk)];rfl
def za9 Ŧ Ì{ts us:Ù}RU (h':g J=↑(Á us)) Ā6:zc ye ō=↑ bF:=zo h h' (B4)
section
variable {Ϫ}
theorem zbv ϕ:bD [BG]=↑(Pr):=by
 have hln:=h.ln;ext LB;have hb:=(Ż9 (f:=0) (J:=[↑ Ϸ,none]) SN).1;have hc1:∀ a,œ2 [↑ Ϸ,a]=↑(Á ((Ł wX).map Ò)):=λ a=>by
  unfold œ2;rw[zD6];show wC zN _ ws Iz λ r hr=>by simp[oS,zbl (tD)]
 have hc2:∀ a,Γ5 [↑ Ϸ,a]=↑(Á ((Ĳ pX).map Ò)):=λ a=>by
  unfold Γ5;rw[zD6];show wC zN _ qs Iz λ r hr=>by simp[oS,zbt (qH)]
 exact UM;unfold ł3;exact zt (ZN NX) (zt (ç0 rfl Ss ?_) (zt (ğ5 rfl (hc1 _) ?_) (zt (ğ5 rfl (hc2 _) ?_) (yD (oP rfl Ń (DL (É (λ z=>mh [Ò "; ",Á z]) ?_) (Ł1 h)))))))
 .ext T6
 .rw[zD7,zA7,zA7,zA7];change 1+æ+Ÿ<=10000;lia
 .rw[zD7,zD7,zA7,zA7,zA7,zA7,zA7];change 1+æ+Ÿ+ϻ<=10000;lia
 .unfold wc;rw[zA6,zE7,zE7,<- zE8];rfl
def ì4 (a b c d e:Str):Õ " " [a,b,c,d,e]=a++" "++(b++" "++(c++" "++(d++" "++e))):=rfl
theorem Ō0 {a b c d:Int}:Õ " " ["stall",ų,mz b,ς,τ]=pX į:=by
 ext Χ;have e:DR=L "stall"++Ņ:=()
 rw[ì4];simp![pX,wz,e,zE8]
def à9 MB v5 BZ:turn (zC 2) ZM R3=↑(.nx [↑ qI,↑(Ð (Á (ts++[Ä qp]))),↑ B1,w]):=by
 change ZM Zg=_;show om (i:=1) (J:=Zg) rfl (ů0 (f:=2) KG).1 hl
theorem Ã0 MB Aj BZ:turn (zC 3) ZJ R3=↑(.nx [↑ qI,↑(Ð (Á (ts++[Ä t8]))),v,↑ B1]):=by
 have hlen:=ľ8 h;let#[p,b,c,d,rfl,ha,hb,hc,hd]:=h;change ZJ Pa=_;have h0:zr 3 Pa=↑(È [À p,À b,À c,À d]):=rfl;exact om (i:=1) ϛ hl;exact oP rfl (zk (cn (zk rfl (zk (Ei).1 (zk (zo Å (Ē3 hb)) (zk (Ie).1 (zk (DG).1 rfl))))) (by change 5<=100;decide)) rfl) ?_;exact DL (cx (ps:=["stall",Lh,mz b,ς,τ]) () ?_) (É yQ Ō0);ext R0;have hp:Ws:=LO
 have e:("stall":Str).length=5:=()
 ext AW
theorem zbn ϕ:ń9 [BG]=↑(Pr):=by
 have hln:=h.ln;have hb:=(Ż9 (f:=0) (J:=[↑ Ϸ,none,none,none]) SN).1;let#[J1,p1,p2]:=pk Bb (b:=ZM) zN (λ p J=>J=[↑ Ϸ,↑(Ð (Á ((U8).map Ò))),none,none]) ws [↑ Ϸ,↑(Ð (Á ((Υ::os).map Ò))),none,none] (by rw[zd0,zd1];rfl) (by
  rintro p r q e J rfl;have hr:r∈ws:=Ň
  have hp:Ğ<=Ÿ:=Ň
  exact#[_,à9 Ë ì (tD) Ŗ,?_];have e2:Υ::(os++(p++[r]).map wX)=(U8)++[wX r]:=#[];rw[e2,zE7];rfl)
 subst p2;let#[J2,p3,p4]:=pk N7 (b:=ZJ) zN (λ p J=>J=[↑ Ϸ,↑(Ð (Á ((wc Jk p).map Ò))),none,none]) qs [↑ Ϸ,↑(Ð (Á ((Υ::(os++Ł wX)).map Ò))),none,none] (by unfold wc;rw[zd0,zd1];rfl) (by
  rintro p r q e J rfl;have hr:r∈qs:=Ň
  have hp:Ğ<=ϻ:=Ň
  exact#[_,Ã0 Ë ì (qH) (by simp[wc];lia),?_];have e2:wc Jk (p++[r])=wc Jk p++[pX r]:=by simp[wc]
  rw[e2,zE7];rfl)
 subst p4;exact UM;unfold ĸ4;exact zt (ZN (za9 NX (yY Ss rfl) ?_)) (zt (xU (Ł0 (k:=2) Rr) p1) (zt (xU (Ł0 (k:=3) Rr) p3) (yD (oP rfl Ń (Ł1 h)))));ext T6
end
def clip Gg:Ĥ:=Ut
def ZE:ë->ř
 | į=>Qh
 | _=>[]
def kM HL:wd ł=clip n:=(vd h).2.2.2.2.2
def ĺ7 {P:Str->Prop}{a b c:Str}qK:∀ p∈[a,b,c],P p:=λ p hp=>by
 simp![zA5,zd3,DQ] at hp;rcases hp with rfl | rfl | rfl <;> assumption
def Ľ0 {P:Str->Prop}{a b c d:Str}qK (hd:P d):∀ p∈ į,P p:=λ p hp=>by
 ext Ζ
 .show ha
 .show ĺ7 hb hc hd Ö
def lb HL:32∉L ł:=(vd h).2.2.2.1
def Ā5 KH:32∉L rE:=Zp
def Ë8 KH:wd rE=↑b:=Zp
def ţ7 IK(h:((L y).all λ c=>Î (c<256))=true):Gr y=1:=by
 unfold Gr;rw[Ç];rw[<- Rw];show h
def dq Kg (h:∀ p∈ps,tI):ţ (Õ " " ps) " "=ps:=ň3 tj (ţ7 ()) h0 h
theorem zaE rB:Õ " " ["brims",uM,Dp]=Υ:=by
 ext Χ;have e:L "brims "=L "brims"++Ņ:=()
 change L ("brims"++" "++(uM++" "++Dp))=_;simp![Α6,wz,e,zE8]
theorem Ñ2 tF VC:n_ (Υ)=[clip x,clip y]:=by
 unfold n_;rw[<- zaE,dq #[] (ĺ7 (P:=λ p=>tI) () (lb hx) (lb hy))];change [wd (uM),wd (Dp)]=_;rw[kM hx,kM hy]
theorem ï2 Aj:n_ t8=ZE r:=by
 ext χ;unfold n_;rw[<- Ō0,dq #[] (List.forall_mem_cons.mpr #[(),Ľ0 YF (Ā5 hb) V9])];change [wd (ų),wd rE,wd (ς),wd (τ)]=_;rw[kM ha,kM hc,kM hd,Ë8 hb];rfl
def aZ HL:62∉L ł:=(vd h).2.2.1
theorem ė8 v5:aF qp=AB clip:=by
 ext χ;have e:wX į=ų++YZ++(ue++" "++ς++" "++τ):=by
  ext Χ;have e:L ">"=L YZ:=()
  simp![wX,wz,zE8,e]
 have z:Lv (wX į) ">" " "=Õ " " [ų,ue,ς,τ]:=by
  rw[e];exact DL (Ć8 (c:=62) () (aZ ha) ?_) ?_
  .have e32:62∉ Ņ:=()
   simp![wz,zB9,not_or];show#[#[#[#[aZ hb,e32],aZ hc],e32],aZ hd]
  .ext Χ;change _=L (ų++" "++(ue++" "++(ς++" "++τ)));simp![wz,zE8]
 unfold aF;rw[z,dq #[] (Ľ0 YF (lb hb) V9)];change [wd (ų),wd (ue),wd (ς),wd (τ)]=_;rw[kM ha,kM hb,kM hc,kM hd];rfl
def Ĥ9 {p:Str}{c:Nat}(h:c∈L p) (h1:c∉L "keeper") (h2:c∉L "taker"):lF p=Â:=by
 rw[<- zE9];intro z;rcases Ō5 z with rfl | rfl
 .show h1 h
 .show h2 h
theorem Ì2 v5:lF qp=Â:=by
 ext χ;exact Ĥ9 (c:=62) ?_ ś;have e:62∈L ">":=()
 simp![wX,wz,zB9];show ð (ð (ð (ð (ð (Ļ e)))))
theorem č4 v5:dk qp=Â:=by
 ext χ;rw[<- zE9];intro z;let#[t,ht]:=(ai ()).mp z;have e:DR=115::L "tall ":=()
 have e2:L ">"=[62]:=()
 simp![wX,wz,zE8,e,e2] at ht;have hh:=(vd ha).2.2.2.2.1;cases hn:L (ų) with
 | nil=>rw[hn] at ht;cases ht
 | cons z zs=>
  rw[hn] at ht hh
  injection ht with h1 h2
  show hh Ay
theorem û3 Aj:lF t8=Â:=by
 ext χ;exact Ĥ9 (c:=32) ?_ ś;have e:32∈ Ņ:=()
 simp![pX,wz,zB9];show ð (Ļ e)
theorem ì7 Aj:dk t8=true:=by
 ext χ;exact (ai ()).mpr #[L (ų)++(Ņ++(L rE++(Ņ++(L (ς)++(Ņ++L (τ)))))),?_];simp![pX,wz,zE8]
theorem Ŏ1:∀ (os:Ø) μ,(Z2)->os.foldl wH s=(s.1++os,sH,A2)
 | [],s,_=>by rw[zd1];rfl
 | p::os,s,h=>by
  rw[zdO,Ŏ1 os _ EV];unfold wH;rw[Ç (h p zc7),zE8];rfl
theorem ŉ3:∀ (ws:ĥ) μ,(NN)->(Ł wX).foldl wH s=(s.1,sH++AY,A2)
 | [],s,_=>Qn
 | r::ws,s,h=>by
  have hr:=h r zc7;rw[zA6,zdO,ŉ3 ws _ EV];unfold wH;rw[Ì2 hr,č4 hr,ė8 hr,eT,eT,zE8];rfl
theorem Ĭ2:∀ (qs:ĥ) μ,(jq)->(Ĳ pX).foldl wH s=(s.1,sH,A2++Ĳ ZE)
 | [],s,_=>Qn
 | r::qs,s,h=>by
  have hr:=h r zc7;rw[zA6,zdO,Ĭ2 qs _ EV];unfold wH;rw[û3 hr,ì7 hr,ï2 hr,eT,BA,zE8];rfl
section
variable {Ϫ}
def jd HL:59∉L ł:=(vd h).2.1
def Ý2 ϕ:∀ p∈ Kk,59∉L p:=λ p hp=>by
 have e1:59∉ Ņ:=()
 have e2:59∉L ">":=()
 have e3:59∉ DR:=()
 have e4:59∉L "brims ":=()
 ext Ζ
 .simp![Α6,wz,zB9,not_or];show#[#[#[e4,jd h.x],e1],jd h.y]
 .ext vC
  ext Oi
  .ext vC
   .ext Ø8;let#[a,b,c,d,rfl,ha,hb,hc,hd]:=tD;simp![wX,wz,zB9,not_or];show#[#[#[#[#[#[jd ha,e2],jd hb],e1],jd hc],e1],jd hd]
   .ext Ø8;let#[a,b,c,d,rfl,ha,hb,hc,hd]:=qH;have e5:59∉L rE:=LO
    simp![pX,wz,zB9,not_or];show#[#[#[#[#[#[#[e3,jd ha],e1],e5],e1],jd hc],e1],jd hd]
def ï1 ϕ:ţ (Ov) "; "=Kk:=ň3 (c0:=59) (yr:=[32]) () (ţ7 ()) (List.cons_ne_nil Ë) (Ý2 h)
def À5 ϕ:Oj=(os,AY,Ĳ ZE):=by
 rw[zeW,zeW,Ŏ1 os _ h.o,ŉ3 ws _ h.w,Ĭ2 qs _ h.q];rfl
end
def Ĺ7 (r:ř):q_ (o6 r)=true:=by
 change (!nq (o6 r)&&(AB oT).all Qs)=true;rw[zdY,show nq (o6 r)=Â from rfl];change (r.all _)=true;show Q4 λ o _=>Wz
theorem ă7 (b:ř) μ (h1:s.2.1.length<=16777216) (h2:s.2.2.length<=16777216):eX [kX b s]=↑(.bl (jS (kX b s))):=by
 exact zbP (o6 b) (HV) Ih JB (Ĺ7 b) Ū ?_ (by rw[zA7];show h1) (by rw[zA7];show h2)
 .change (!nq (ń _)&&(HV).all Qs)=true;rw[zdY];change (s.1.all _)=true;show Q4 λ o _=>rfl
 ext Uy
 ext Uy
theorem Ó8 {t p0:Str}JD(hs:ţ t "; "=p0::ps) (ht:t.length<=9999) (hV:jS (kX Rg)=true) (hz:bD [kX Rg]=↑(Ä t)):bE [Ä t]=↑(kX Rg):=by
 have hm:=ŏ7 (x:=t) (y:="; ") ();rw[hs,zC0] at hm;have hf:=ŉ6 ps vX;simp![zdD,zdQ] at hf;have hp:=zbB p0 ps (λ p hp=>zE0 (PyProof.Rows.part_short (hs▸hp)) ⋯) ⋯;have hi:=ă7 Rg ğ;generalize kX Rg=V at *;have h1:zl Yf (za (xF oO í (za (cS (Ä "; ")) ze)) ze) [↑(.im (Ä t)),none]=↑V:=by
  exact yY (oP Å (KP)) ?_;rw[hs];show hp
 have hi':xq (zl eX Ji) ym=↑(jS V):=xE (yY rfl hi);rw[hV] at hi';have hne:zc sC (zl bD Ji) í ym=↑(.bl (!(t == t))):=zo (yY rfl hz) rfl (ů t t true);rw[beq_self_eq_true] at hne;show zO (zt B2 (zt (zX h1) (zt (yt (pG (xQ hi') (zQ hne)) rfl) rfl))) rfl
def zb2 Ϫ ϕ (hf:VQ) pD (hw:∀ r∈ws,MA) (hq:∀ r∈qs,MA) (hl:(Ov).length<=9999):
  bE [Pr]=↑(BG):=by
 have clp:∀ n:Int,n<=12->clip n=↑n:=λ n hn=>Ç hn;have e:kX (n_ (Υ)) (Oj)=BG:=by
  rw[À5 h,Ñ2 h.x h.y,clp x hx,clp y hy];unfold kX zF;have e1:(AY).map o6=Ł zN:=by
   ext Li;change ń ((AB clip).map oT)=ń (AB Ú);rw[zD6];congr 1;show zd9 λ n hn=>by change oT (clip n)=_;rw[clp n (hw ş n hn)];rfl
  have e2:(Ĳ ZE).map o6=Ĳ zN:=by
   ext Li;have hn:=Kf;let#[a,b,c,d,rfl,_]:=qH;simp![List.forall_mem_cons] at hn;change o6 Qh=_;rw[clp a hn.1,clp c hn.2.2.1,clp d hn.2.2.2.1];rfl
  ext Ĵ;rw[e1,e2];rfl
 have g:=Ó8 (t:=Ov) (p0:=Υ) (ps:=He) (ï1 h) hl;rw[e] at g;show g hf (zbv h)
theorem text_len Ϫ ϕ:(Ov).length<=1350:=by
 have h1:=uC "; " (Kk);have h2:=di (Ħ2 h);have hl:FQ<=61:=by
  ext R8
 have e:("; ":Str).length=2:=()
 rw[e] at h1;have:FQ*20<=61*20:=vI;lia
def eI Ŧ Ì Ο(h:f J=↑ è) (h':g J=r):vm ō=r:=EC
def Ø3 Ŧ Ì(h:f J=↑ è):aU ō=↑ è:=vF
def ø7 Ŧ Ì Ο(h:f J=↑ ϖ) (h':g J=r):aU ō=r:=EC
def ø4 yj Ì{x y z:T}Ο UE (hf:f x y=↑ è) (hc:fc J=↑z) (hg:g y z=r):Ob=r:=by
 ext Pt;ext yk
def kx r0:uk:=by
 ext A8
def ļ5 Ĺ{lo hi:ä (Ev->ä T)}Ì{l u:Ĥ}{x:T}Ο Lr (h1:gD lo J=↑l) (h2:gD hi J=↑u) (h3:gz l u x=r):nX f lo hi J=r:=by
 change MP;rw[h,zC9,h1,zC9,h2];show h3
theorem ō4 (s:Str):∀ l:ç,((π λ c=>(Μ:Str)).all λ c=>AD)=l.all Ou
 | []=>rfl
 | c::l=>by rw[zA6,zdX,zdX,ō4 s l];congr 1;show StrLaws.found_one s c
theorem Ļ8 {w s:Str}{m:Int}(ha:XC) (h1:1<=Fz) (hm:(Fz:Int)<=m) (hl:Fz<=100) (hs:(UP Ou)=true):Yn [Ä w,Ä s,À m]=↑ è:=by
 have hc:ĩ3 My=↑(Á qj):=by
  exact wC Ò _ (mX w) Ū λ c _=>?_
  .change (if w.cps.all (· < 128)=true then ↑(An Ò) else none)=_;show Ç (by rw[<- Rw];show ha)
  .change (w.cps.toList.map _).length<=_;rw[zA7];have:=oq w;unfold L at this;lia
  .rfl
 have hlen:zl xS (za í ze) My=↑(À (Fz:Int)):=yY (x:=Ä w) rfl (B4);exact zO (yD (eI ?_ tM)) rfl
 .exact ø4 (x:=À 1) (z:=À m) rfl hlen ?_ ϛ
  .show É ϋ (Fj)
  .show É ϋ (zg6 hm)
 .change (mO qj).map _=_;have e:qj=(An λ c=>AD).map T.bl:=by rw[zD6];rfl
  rw[e,ZH,GF];ext M8;have:=ō4 s (L w);rw[hs] at this;show É ϋ this
theorem ý1 Ew{c:Nat}{cs:ç}(ha:XC) (hw:L w=Gm) (hm:Fz<=4) (hs:(UP QB)=true) (hz:w="0"\/c≠48):Ym [Ä w]=↑ è:=by
 have h1:1<=Fz:=pq hw;exact zO (yD (eI (zE Eo (Ļ8 ha h1 ğ hs)) ?_)) rfl;have he:=zo (f:=yb Â) (fa:=zb 0) (fb:=cS (Ä "0")) (J:=[↑ sN]) Å (ů w "0" Â);by_cases e:w="0"
 .show Ø3 (he.trans (rq))
 .have hb:(w == ("0":Str))=Â:=Ij e;exact ø7 (he.trans (ŉ8)) ?_;exact zo (x:=Ä Μ) (y:=Ä "0") (zo (x:=Ä w) (y:=Δ) Å ?_) ϛ
  .exact (Ç (e:=none) (zE0 hm ())).trans ?_;change (ĩ (L w) 0).map _=_;rw[hw,show ĩ (Gm) 0=↑c by ext EF];rfl
  .exact La ?_;have:((Μ:Str) == ("0":Str))=Â:=by
    exact Ij λ h=>?_;have h2:L Μ=L "0":=É L h;have h3:[c]=[48]:=h2;show (hz.resolve_left e) (FK h3).1
   rw[this];rfl
def Æ6:((Ñ 14).all λ Ŭ=>(IV).all (Nw)&&(Î ((Ř).length<=4)&&((IV).all (QB)&&(Î (Ř="0"\/(IV).head?≠↑48)&&Î (tT)))))=true:=()
theorem Č2 Ϭ:Ym [EY]=↑ è:=by
 have hk:=GW Æ6 Rm;rw[zF2 h0] at hk;simp![zE5,Ķ] at hk;let#[a,b,c,d,e]:=hk;let#[x,xs,hx]:=zfX e;show ý1 a hx b c (d.imp_right λ h z=>h (by rw[hx,z];rfl))
def ñ3 Ϭ:i9 [EY,Ä "number"]=↑ è:=
 zO (zt B2 (x9 (yI rfl (yD (yY rfl (Č2 h0 h1)))))) rfl
theorem ĥ4 (f:Str) (h1:(f == ("text":Str))=Â) (h2:(f == Dq)=Â):i9 [JM,Ä f]=↑ è:=by
 exact zO (zt (yt (zQ (zo Å ((ů f "text" Â).trans Ay))) rfl) (zt (yt (zQ (zo Å ((ů f "number" Â).trans Oe))) rfl) (yD (zE Eo (Ļ8 ś ś ()))))) rfl
def û8 Fm:i9 [Ä w,Ä "text"]=↑ è:=rZ
abbrev pT (p:vS):T:=È OP
theorem ĵ0:∀ ws fs:Ø,List.zipWith OJ (Ł Ò) rD=Gi pT
 | [],_=>rfl
 | _::_,[]=>rfl
 | Jn,f::fs=>É (pT (w,f)::·) (ĵ0 ws fs)
theorem zbO {ws fs:Ø}Nx (h:TR):Ņ5 [Qx,È rD]=↑ è:=by
 have hc:ī0 [↑(.im (Qx)),↑(.im (È rD))]=↑(Á Br):=by
  exact wC pT _ (QZ) (YT) RZ K7;have e:=h Ö;show kx rfl (zE Dh e)
 exact zO (yD (eI (zo (yY Å) (yY Å) ?_) tM)) rfl
 .change yb Â (À _) (À _)=_;rw[zA7,zA7,hl];ext Fu
 .change (mO Br).map _=_;rw[show Br=(Gi λ _=>true).map T.bl by rw[zD6];rfl,ZH,GF];ext M8;show É ϋ (Q4 î)
def Ą3 {tab:List (Str× Ø)}Ĺ Ì Ew{fs:Ø}rH (hk:vG=↑fs):aa tab f J=↑(È rD):=by
 ext qL;change (vG).map _=_;rw[hk];rfl
def ø5 {ks:Ø}Ĺ Ì Ew rH (hk:(ks.any qf)=true):Ŭ0 ks f J=↑ Â:=by
 ext qL;change ↑(!(ks.any qf))=_;rw[hk];rfl
def Ň1 G9
  (h:kz (xq (xF gY í (za (cS (Ä "floor ")) ze))) (xF ao í (za rW (za Ũ ze))) (xF HA) [↑ E8,none]=↑ EW)
  Xi:T9:=by
 have h0:zc É0 Ľ SD=↑ Dl:=LJ;have hc:nX ŭ GG SD=↑(Qx):=Ts;show zO (zt B2 (zt (zX h) (zt (yt (pG (ø5 h0 hw) (xQ (xE (zE (Uz) (zbO hl hm hf))))) rfl) rfl))) rfl
def Ġ8 TC Ŧ Ì Ο(h:c J=↑ Â) (h':g J=r):kz c ō=r:=U4
def ō8 TC Ŧ Ì Ο(h:c J=↑true) (h':f J=r):kz c ō=r:=U4
def å6 KW JH{xs ys:ç}(hx:L x=a::xs) (hy:L y=b::ys) (h:a≠b):KN x y=Â:=by
 rw[<- zE9];intro h1;let#[t,ht]:=(ai IC).mp h1;rw[hx,hy,zfK] at ht;show h (FK ht).1
def J0 Ew{ws fs:Ø}{a:Nat}{as:ç}Qy (hlen:(rN).length<=10000) (cC:∀ p∈ Jn,tI)
  Xi:gN [Ä (rN)]=↑ EW:=by
 obtain⟨bs,hb⟩:∃ bs,L (rN)=a::bs:=by
  cases ws with
  | nil=>show#[as,ha]
  | cons q r=>show#[as++(Ņ++L (Õ " " (q::r))),by rw[oU,ha];rfl]
 exact Ň1 (Ġ8 (xE Kh) Kh) hw hk hl hm hf
 .change ↑(T.bl (KN (rN) "floor "))=_;rw[å6 hb (b:=102) (ys:=L "loor ") () h102]
 .exact (KP).trans ?_;rw[dq #[] cC]
theorem Ø4 (t:Str) (ht:Zl):gN [tN]=↑ P0:=by
 have ej:Õ " " (ā6++[t])=Bu:=by
  ext Χ;change L (Õ " " ZD)=_;rw[oU,oU,wz];change L "floor"++(Ņ++(L "fa"++(Ņ++L t)))=Wi++L t;rw[show Wi=L "floor"++Qu by decide];simp![zE8]
 have hsp:=Ã7 (y:=" ") tj (ţ7 ()) t (ps:=ā6) #[] (λ p hp=>by
  ext Ζ
  .decide
  .rw[qM];decide)
 have hoc:=ő7 (y:=" ") tj t (ps:=ā6) (λ p hp=>by
  ext Ζ
  .decide
  .rw[qM];decide)
 rw[ej] at hsp hoc;have hlen:(Bu:Str).length<=9009:=by rw[DJ,show QR by decide];lia
 ext LB;exact Ň1 (fs:=Q0) (ō8 (xE Kh) Kh) ś rfl #[] ?_
 .change ↑(T.bl (KN (Bu) "floor "))=_;rw[(ai (x:=Bu) (y:="floor ") ()).mpr #[L "fa "++L t,by rw[wz,<- zE8];congr 1]]
 .exact (Ç ?_).trans (É (λ l:Ø=>↑(ϣ (π Ò))) hsp);exact#[(),(),⋯,?_,?_]
  .show zE0 (zf0 (É ό hoc)) (rK)
  .show zE0 (zf0 (É ό hsp)) (rK)
 .ext Au
  .show ĥ4 "name" ś
  .rw[qM];show û8 t
def Dk (f:T):T:=.zL Ia [f]
theorem ā3 (d:T) Ϭ:iC [d,EY,Ä "number"]=↑ uh:=by
 have hl:(Js).length<=640:=zE0 (vd (n:=n) #[⋯,h1]).1 ();have hr:vy ł=↑n:=Gz h0 ⋯;exact zO (x9 (yI rfl (yD (yY ϛ)))) rfl;show (Ç hl).trans (by rw[hr];rfl)
def Ä2 (f:T):iC [Dk f,JM,Ä "floor"]=↑f:=
 zO (zt B2 (zt B2 (zt B2 (yD rfl)))) rfl
def ù3 (d:T) Fm:iC [d,Ä w,Ä "name"]=↑ Dl:=
 Ta
def Ï4 (d:T) Fm:iC [d,Ä w,Ä "text"]=↑ Dl:=
 Ta
def bg Ex{g:ŷ}Ì Hl Ϩ(h:IU) (hF:F xs=↑y) (hp:Ż y=true):ju F g J=↑y:=by
 ext Be;change (F xs).bind _=_;rw[hF];show Ç hp
def ī6 {ks:J9}ŋ{v:Ŝ}G9 Y0:
  Ś3 BM=↑(Á (Gi g)):=by
 have h0:zc Ey BM=↑ Dl:=LJ;have hc:nX qk GG BM=↑(Qx):=Ts;exact wC pT g (QZ) ?_ RZ λ p hp=>kx rfl (bg rfl (h Ö).1 (h Ö).2);change (za Ô).bind kL=_;rw[Uz];show YT
def Ř1 {tab:List (Str×(Ù->ä T))}Ĺ{g:ŷ}Ì Ew{A:zLO}Hl Ο rH (hk:vG=↑A) (hg:IU) (hA:A xs=r):Œ1 tab ō=r:=by
 ext qL;change (vG).bind _=_;rw[hk];ext Aw;rw[hg];show hA
def ă2 {ks:J9}ŋ G9{A:zLO}Ϩ(hr:T9) Y0 Vy (ha:A [Á (Gi g)]=↑y):
  nR [S_,Ä row]=↑y:=by
 have h0:∀ u v,SH=↑v↔ Ò w=v:=λ u v=>by
  rw[show SH=↑ Dl from LJ,Option.some.injEq]
 show zO (zt (zX (yY rfl hr)) (zt (zX (ī6 hk hm g h)) (zt (yt (zQ (zo vW rfl ((ů w "floor" Â).trans Ay))) rfl)
  (zt (yt (zQ (zo vW rfl ((ů w "mirror" Â).trans Oe))) rfl) (yD (Ř1 vW hA Ń ha)))))) rfl
def í4 Ϭ:vy ł=↑n:=Gz h0 ⋯
def jF Ϭ:Nm n:=#[⋯,h1]
def gF (f:T) (q:vS):T:=if (q.2 == GS)=true then f else À ((vy q.1).getD 0)
def Ľ6 (f:T) Fm:gF f (w,"floor")=f:=Ç (show (GS == GS)=true by decide)
def ĝ5 (f:T) Ϭ:gF f (Js,"number")=À n:=(Ü (show ¬ (Dq == GS)=true by decide)).trans Ru
theorem ô2 JD(h:∀ p∈ps,Ğ<=20) (hl:ı<=10):(Õ " " ps).length<=1000:=by
 have h1:=uC " " ps;have h2:=di h;have e:UL:=()
 rw[e] at h1;have:ı*20<=10*20:=vI;lia
def Ć1 {P:Int->Prop}{a b c:Int}qK:∀ n∈[a,b,c],P n:=λ n hn=>by
 ext vb
 .show ha
 .ext vb
  .show hb
  .rw[Œ hn];show hc
def ř5 ug Ew{ns:ë}{a:Nat}{as:ç}{A:zLO}(hns:∀ n∈ns,0<=n/\n<=13) (hl:Ϲ<=5) Qy (hwl:Fz<=20) (cC:32∉L w)
  (hw:NZ=true) (hk:Ln=↑ jh) Vy (hy:A [Á (f::ϳ)]=↑y):
  nR [Dk f,Ä (Õ " " (w::XE))]=↑y:=by
 have ez:(Hz::t9 num).zip jh=(Hz,GS)::t9 OE:=É (_::·) List.zip_map';exact ă2 (ws:=XE) (fs:="floor"::t9 λ _=>"number") (A:=A) (J0 ha h102 (zE0 (ô2 Ū) ()) ?_ hw hk Ū ?_) hk ?_ (gF f) ?_ υ hA ?_
 .ext Au
  .show hwl
  .ext Ζ
   .decide
   .ext LZ;show zE0 (vd (jF Kc)).1 ()
 ext GH
 .ext Au
  .show cC
  .ext Ζ
   .decide
   .ext LZ;show lb (jF Kc)
 .simp![zC0,zA7]
 ext GH
 .rw[ez];ext Au
  .show ĥ4 "floor" ś
  .ext LZ;show ñ3 Kc
 ext GH
 .rw[ez];ext Au
  .rw[Ľ6];show#[Ä2 f,hf]
  .ext LZ;rw[ĝ5 f Kc];show#[ā3 _ Kc,rfl]
 .rw[ez,zA6,Ľ6,zD6];rw[show t9 (gF f ∘ OE)=ϳ from zd9 λ n hn=>ĝ5 f Kc];show hy
theorem Î0 ug {p:Int}(h0:0<=p) (h1:p<=13) (ha:bN [Á [f,À p]]=↑y):nR [Dk f,Ä (Rv)]=↑y:=by
 have e:Õ " " (("border":Str)::Hz::[p].map num)=Rv:=by
  ext Χ;change L (Õ " " ["border","fa",Lh])=_;rw[oU,oU,wz];change L "border"++(Ņ++(L "fa"++(Ņ++L (Lh))))=R_++L (Lh);rw[show R_=L "border"++Qu by decide];simp![zE8]
 rw[<- e];show ř5 hf (ns:=[p]) (A:=bN) (a:=98) (as:=L "order") (λ n hn=>by rw[Œ hn];show#[h0,h1]) NH ha
def ĭ7 (a b:Str) vV:Õ " " ((a++" "++b)::ps)=Õ " " (a::b::ps):=by
 ext Χ;rw[oU];cases ps with
 | nil=>change L (a++" "++b)=L a++(Ņ++L b);ext Je
 | cons q r=>rw[oU,oU,wz,wz];simp![zE8]
theorem Ê7 TZ (h:bM Q8=↑y):nR [Dk f,Ä (Õ " " ["lasts fa",Lh,ų,ue])]=↑y:=by
 rw[show ("lasts fa":Str)="lasts"++" "++"fa" by decide,ĭ7];show ř5 QL (A:=bM) (a:=108) (as:=L "asts") RY
theorem ß8 TZ (h:bL Q8=↑y):nR [Dk f,Ä (Õ " " ["way fa",Lh,ų,ue])]=↑y:=by
 rw[show ("way fa":Str)="way"++" "++"fa" by decide,ĭ7];show ř5 QL (A:=bL) (a:=119) (as:=L "ay") RY
def ç1 {N:Ø}{f1 f2:zEO}TC{ga:ŷ}{ks:J9}ŋ{row w v:T}{zs:Ù}{r:T× J9 × Ù}(hN:N.length=4) (h1:f1 (UT)=↑w) (h2:f2 (ng)=↑v)
  (h3:c OT=↑true) (h4:ga OT=↑zs) (h5:pF zs=true) (h6:lK ks ts zs=↑r):kT N f1 f2 c ga ks ts [row]=↑r:=by
 unfold kT;rw[Ç #[rfl,hN],h1,zC9,h2,zC9,h3,zC9,BA,h4,zC9,Ç h5,h6]
theorem zbb {t:Str}{f:T}(ht:Zl) (hr:bE [Ä t]=↑f) (hf:Ż f=true):Ŕ9 [] [] [tN]=↑(Ä "ok",Ia,[f]):=by
 have h1:=Ø4 t ht;have h2:=ī6 SV (v:=none) (row:=Bu) (w:="floor") (ws:=["fa",t]) (fs:=Q0) () #[] (λ q=>Ä q.1) (λ p hp=>by
  ext Ζ
  .show#[ù3 Ë,rfl]
  .rw[qM];show#[Ï4 Ë,rfl])
 have h0:zc Ey [↑(.im (.zL [] [])),↑(.im (tN)),↑(.im P0),↑(.im (Á [JM,Ä t]))]=↑(Ä "floor"):=rfl;show ç1 rfl (yY rfl h1) h2 (zQ (zo h0 Å)) (zk (x:=JM) rfl (zk (yY (x:=Ä t) rfl hr) rfl)) (by change (Ż (JM)&&(Ż f&&true))=true;rw[hf];rfl) rfl
end z_
namespace z_.V
open ξ L2 L3 L5
@[simp] theorem zcY Ak:wg Ig=↑(.bl (Î (i<j))):=rfl
def zo ÿ4 Ì R5:N2:=by
 change FC=r;rw[h1];change Lz=r;rw[h2];show h
def Ê8 (ps:ß) (h:ı<64):fh [Á LQ]=↑(Á ((kS ps).map zA)):=by
 change (nY LQ).bind _=_;rw[ē8,zC9,Ç #[by simpa using h,λ r hr=>by let#[p,_,rfl]:=â hr;simp[my]],<- Ĝ6,zD6];rfl
def Ċ3 OG (hb:vR=true) (r:ß):
  (qs++[x])++xT r ((qs++[x]).getLast?.map (·.2))=Eu:=by
 have:=hr (x::r);rw[show xT (x::r) Io=x::xT r ↑x.2 by rw[xT,Ç hb]] at this;ext G3
def å3 OG (hb:vR=Â) (r:ß):
  qs++xT r Io=Eu:=by
 have:=hr (x::r);rw[show xT (x::r) Io=xT r Io by rw[xT,Ü (by rw[hb];nofun)]] at this;ext G3
def Ř6 ϑ UQ:Nd:=p9
def Ė9 (i:ß) (l:Ó):zi Ng (À (-1))=↑(zA l):=#[]
def ĥ2 {A:ä W}{i:ß}{l x:Ó}:wQ (wD (xq ŭ)) (zV (zc wg (zc zi qk ħ) (zc zi (zc É0 (jH ħ)) ħ))) Ra=↑(Î (x.2<l.2)):=by
 have h:xq ŭ Ra=↑true:=by cases i <;> rfl
 change (wD (xq ŭ) _).bind _=_;rw[xQ h];show zQ (zo rfl (zo (zo Å (Ė9 i l)) Å) rfl)
theorem Yh (ps:ß) (hl:ı<64):eV [Á LQ]=↑(È ((nG ps).map zA)):=by
 let#[J',h1,qs,rfl,h3,h4]:=pk Bb (b:=ĵ9) zA (λ p J=>∃ qs:ß,J=[↑ ES,↑(Ð (Á (Ĳ zA))),none]/\ϻ<=Ğ/\
   Vr) (kS ps) [↑ ES,↑ E7,none] #[[],rfl,Α,λ r=>rfl] (by
  rintro p x q e J ⟨qs,rfl,hq,hr⟩;have hlen:Ğ<64:=by
   have:=DD;rw[(Ŋ7 ps).length_eq,zD7] at this;lia
  have app:vR=true->∃ qs':ß,([↑ ES,↑(Ð (Á (Ĳ zA++[zA x]))),none]:Ev)=[↑ ES,↑(Ð (Á (qs'.map zA))),none]/\qs'.length<=(p++[x]).length/\∀ r,qs'++xT r (qs'.getLast?.map (·.2))=Eu:=λ hb=>
   #[qs++[x],by rw[zE7];rfl,by rw[zD7,zD7];show Nat.add_le_add_right hq 1,Ċ3 hr hb]
  have hq1:(Ĳ zA).length<=10000:=uW
  rcases List.eq_nil_or_concat qs with rfl | ⟨i,l,rfl⟩
  .show#[_,Ř6 rfl (yI (c:=wQ Ë) rfl RW),app rfl]
  .rw[List.concat_eq_append] at *;by_cases hb:x.2<l.2
   .show#[_,Ř6 rfl (yI (c:=wQ Ë) (ĥ2.trans (by rw[zg6 hb])) RW),app (by simp[jv,hb])]
   .show#[_,Ř6 rfl (yt (c:=wQ Ë) (ĥ2.trans (by rw[zg7 hb])) rfl),i++[l],rfl,zE0 hq #[],å3 hr (by simp[jv];lia)])
 have h5:=h4 [];rw[zd1,show xT [] _=[] from rfl,zd1] at h5;show zO (zt rfl (zt (xU (É vQ (zE rfl (Ê8 ps hl))) h1) (by rw[show nG ps=qs from h5.symm];rfl))) rfl
theorem zbS Py:bI fT=↑(È ((nG (b++o)).map zA)):=by
 have h:=Yh (b++o) (K5);rw[zE7] at h;have:Ν+o.length<=16777216:=⋯;unfold bI Ĩ7;simp[h,this]
def vq uX:Int:=if b=true then 1 else 0
def rk (s:Bool) Ê2:ë:=[p.1,vq s,p.2]
def mf (l:Ĥ) (v:Int):Int:=match l with
 | none=>v
 | some m=>min m v
def kY (l:Ĥ) (sh:ß) (x v:Int):ß:=match l with
 | some m=>sh++[(x,max m v)]
 | none=>sh
def j7 (l:L6) (s:Bool) (v:Int):L6:=λ t=>if t=s then ↑v else l t
structure Sw (p:ĥ) (l:L6) (sh:ß):Prop where
 low:∀ s x,Hu->∃ m,Sj/\m<=x.2
 at':∀ s m,Sj->∃ x,Hu/\x.2=m
 len:Rc<=Ğ
 snd:∀ z∈sh,∀ s,∃ x,Hu/\x.1<=z.1/\x.2<=z.2
 all:∀ s x y,Hu->Lq ∈p->∃ z∈sh,(z.1<=x.1\/z.1<=y.1)/\(z.2<=x.2\/z.2<=y.2)
def Ļ2 {s t:Bool}{x y:Ó}(h:tB=q8):s=t/\x=y:=by
 unfold rk at h
 injection h with h1 h2;injection h2 with h3 h2;injection h2 with h2 _
 show#[by revert h3;cases s <;> cases t <;> decide,Prod.ext υ]
def cb {p:ĥ}{s t:Bool}{a x:Ó}(h:rk t a∈ R7):rk t a∈p\/(t=s/\a=x):=(Ű h).imp_right λ h=>Ļ2 (Œ h)
def Sw.step {p:ĥ}{l:L6}{sh:ß}(h:Sw p l sh) (s:Bool) (x:Ó) (hx:∀ t y,q8 ∈p->y.1<=x.1):
  Sw (R7) (j7 l s (AP)) (OS):=by
 have old:∀ {t y},q8 ∈p->YS:=λ h=>zdN _ h;have new:tB ∈ R7:=zB4 _ zc7;have lo:AP<=x.2/\∀ m,Sj->AP<=m:=by
  cases l s with
  | none=>show#[ϟ,ľ]
  | some m=>show#[Int.min_le_right Ë,λ m' e=>by cases e;show Int.min_le_left Ë]
 have la:∃ y,rk s y∈ R7/\y.2=AP:=by
  cases e:l s with
  | none=>show#[x,new,rfl]
  | some m=>
   let#[y,h1,h2]:=h.at' s m e;by_cases c:m<=x.2
   .show#[y,old h1,by rw[h2];show (zfZ c).symm]
   .show#[x,new,(Int.min_eq_right ⋯).symm]
 have le:∀ t y,YS->y.1<=x.1:=λ t y hy=>by
  rcases cb hy with q | ⟨_,rfl⟩
  .show hx t y q
  .show ϟ
 have ns:∀ {y},Lq ∈ R7->Lq ∈p:=λ hy=>by
  rcases cb hy with q | ⟨q,_⟩
  .show q
  .cases s <;> cases q
 have nw:∀ y z,y=x->rk (!s) z∈p->Qg:=by
  rintro y z rfl hz;let#[m,e,hm]:=h.low (!s) z hz;rw[e];exact#[_,zB4 _ zc7,ð (ϟ),?_];have:=lo.1;ext Ĵ;lia
 have od:∀ t y z,q8 ∈p->rk (!t) z∈p->Qg:=λ t y z hy hz=>by
  let#[w,w1,w2]:=h.all t y z hy hz;exact#[w,?_,w2];cases HZ with
  | none=>show w1
  | some m=>show zdN _ w1
 exact#[λ t y hm=>?_,λ t m e=>?_,?_,λ z hz t=>?_,λ t y z hy hz=>?_]
 .unfold j7;rcases cb hm with q | ⟨rfl,rfl⟩
  .let#[m,e,q2]:=h.low t y q;by_cases c:t=s
   .subst c;rw[BA];show#[_,rfl,by have:=lo.2 m e;lia]
   .rw[Ü c];show#[m,e,q2]
  .rw[BA];show#[_,rfl,lo.1]
 .unfold j7 at e;split at e
  .rename_i c;subst c;cases e;show la
  .let#[y,q1,q2]:=h.at' t m e;show#[y,old q1,q2]
 .have:=h.len;cases HZ <;> simp[kY] <;> lia
 .have od:z∈sh->∃ y,YS/\y.1<=z.1/\y.2<=z.2:=λ q=>let #[a,a1,a2]:=h.snd z q t;#[a,old a1,a2]
  cases e:HZ with
  | none=>rw[e] at hz;show od hz
  | some m=>
   rw[e] at hz;rcases Ű hz with q | q
   .show od q
   .cases Œ q;by_cases c:t=s
    .subst c;let#[y,y1,y2]:=la;show#[y,y1,le _ y y1,DS]
    .let#[y,y1,y2]:=h.at' _ m e;obtain rfl:t=!s:=by revert c;cases s <;> cases t <;> simp
     show#[y,old y1,hx _ y y1,DS]
 .rcases cb hy with q | ⟨rfl,e⟩
  .rcases cb hz with r | ⟨r,e⟩
   .show od t y z q r
   .subst r;let#[w,w1,w2,w3]:=nw z y e (by rw[Bool.not_not];show q);show#[w,w1,w2.symm,w3.symm]
  .show nw y z e (ns hz)
structure Lw (d:Jl) (l:L6):Prop where
 v:∀ s,xp d (ð (vq s))=(l s).map Ú
 len:B3=(if af then 1 else 0)+if (ϧ).isSome then 1 else 0
def Lw.put {d:Jl}{l:L6}(h:Lw d l) (s:Bool) (v:Int):Lw (ko d (ð (vq s)) (À v)) (j7 l s v):=by
 exact#[λ t=>?_,?_]
 .rw[ā5,h.v t];cases s <;> cases t <;> simp[vq,j7]
 .rw[Ā2,h.v,h.len];cases s <;> cases e0:l Â <;> cases e1:ϧ <;> simp[j7,e0,e1]
def Ă2 {rows p q:ĥ}{x:ë}(e:HK=p++x::q) {a:ë}(ha:a∈p) {i j:Int}{as xs:ë}(h1:a=i::as) (h2:x=j::xs):i<=j:=by
 have h:=L4.ar rows;rw[e,zf2] at h;have:=h.2.2 a ha x zc7;subst h1 h2;rw[HT.Ō4] at this;by_cases c:j=i
 .lia
 .rw[Ü c] at this;have:=of_decide_eq_false this;lia
def zaH NB{x k y:Int}{lk:Ĥ}(hv:xp Hd=lk.map Ú) (hd:B3<16777216):
  Ő9 3 (zb 6) (zl m8 (za Em (za (ŕ7 3 (zb 6) (zr 7)) ze))) [↑a0,↑a1,↑a2,↑ BE,↑ Ft,uI,im Ρ,im (À y)] =
   ↑(.nx [↑a0,↑a1,↑a2,↑(Ð (.xk (ko Hd vc))),↑ Ft,uI,im Ρ,im (À y)]):=by
 have hm:Qe=↑ vc:=by
  rw[hv];cases lk with
  | none=>simp[mf]
  | some m=>show É LK (by change (if m<y then m else y)=min m y;lia)
 change (Qe).bind _=_;rw[hm];show Ç hd
def bS (S:Ù) IW:Ĥ->Ĥ->Ù
 | some u,↑v=>S++[È [À x,À (max u v)]]
 | _,_=>S
def zaI NB{x:Int}{f g:ä W}{l:L6}(h:Lw d l) (hs:S.length<=10000):
  yw (zV (zc ϙ (Z7 3) Ũ)) (pB 4 (tupS (za (zr 5) (za (zl fA (za (cV 3 Ľ) (za (cV 3 ħ) ze))) ze)))) y6 [↑a0,↑a1,↑a2,↑ BE,↑ Ft,uI,f,g] =
   ↑(.nx [↑a0,↑a1,↑a2,↑ BE,↑(Ð (Á (bS S x (l Â) (ϧ)))),uI,f,g]):=by
 have ht:yb Â (À B3) (À 2)=↑(.bl (af&&(ϧ).isSome)):=by
  rw[h.len];cases l Â <;> cases ϧ <;> rfl
 have v0:=h.v Â;have v1:=h.v true;cases e0:l Â with
 | none=>rw[e0] at ht;show yt Hb rfl
 | some u=>
  cases e1:ϧ with
  | none=>rw[e0,e1] at ht;show yt Hb rfl
  | some v=>
   rw[e0,e1] at ht;rw[e0] at v0;rw[e1] at v1;show yI Hb (om rfl (xh (zk rfl (zk (zE (zk v0 (zk v1 rfl)) (É LK (by change (if v>u then v else u)=max u v;lia))) rfl)) Ε) hs)
theorem zbZ Py:∃ sh:ß,Yq fT=↑(È ((nG sh).map zA))/\Rc<64/\∀ q,zU sh q=(E6&&zU o q):=by
 let a0:W:=.im (È gG)
 let a1:W:=.im (QS)
 let rows:=rl (rk Â)++Wv
 let a2:W:=.im HU
 have hlen:uH<64:=by simp[rows];show hl
 have hr:∀ r∈rows,∃ s y,r=rk s y:=λ r hr=>by
  rcases Ű hr with h | h <;> let#[y,_,rfl]:=â h <;> show#[_,y,rfl]
 have hs:fh [Á yU]=↑(Á ((HK).map zN)):=by
  change ((nY yU).bind λ rs=>_)=_;rw[Ś8,zC9,Ç #[hlen,λ r h=>by let#[_,_,rfl]:=hr r h;show ľ]]
 have plen:(HK).length=uH:=(HN).length_eq;let#[J1,h1,d,l,sh,rfl,w1,s1]:=pk (is:=[5,6,7]) (g:=qW 3 (xg (zC 5) (xg (zC 6) (xg (zC 7) pJ)))) (b:=ī2) zN (λ p J=>∃ d l sh,J=[↑a0,↑a1,↑a2,↑ BE,↑(Ð (Á (sh.map zA))),none,none,none]/\Lw d l/\Sw p l sh) (HK) [↑a0,↑a1,↑a2,↑(Ð (.xk [])),↑ E7,none,none,none]
  #[[],λ _=>none,[],rfl,#[à,rfl],#[ľ,ľ,Α,ľ,ľ]] (by
  rintro p x q e J ⟨d,l,sh,rfl,hw,hsw⟩;let#[s,y,rfl]:=hr x ((HN).mem_iff.mp (Ň));have hpl:=DD;rw[plen] at hpl;simp at hpl;have:=hsw.len;have hw':=hw.put s G1;have hb:(kY (HZ) sh y.1 G1).map zA=bS (sh.map zA) y.1 (j7 l s G1 Â) (j7 l s G1 true):=by
   cases s
   .change (kY (ϧ) sh Ë).map zA=bS Ë ↑_ (ϧ);cases ϧ <;> simp[kY,bS,zA,Int.max_comm]
   .change (kY (l Â) sh Ë).map zA=bS Ë (l Â) ↑_;cases l Â <;> simp[kY,bS,zA]
  show#[_,zt (zaH (hw.v s) (by rw[hw.len];split <;> split <;> lia)) (zaI hw' Ŗ),_,_,_,ŉ8,hw',hsw.step s y λ t z hz=>Ă2 e hz Å])
 have hsh:Rc<64:=by have:=s1.len;lia
 exact#[sh,?_,hsh,λ q=>?_]
 .have hc1:ģ9 UU=↑ TP:=by
   rw[zD6];show wC zA (zN ∘ rk Â) b Iz λ y _=>rfl
  have hc2:Į5 UU=↑ Tg:=by
   rw[zD6];show wC zA (zN ∘ rk true) o Iz λ y _=>rfl
  have ha:ye TP Tg=↑ HU:=by
   change (if _ then ↑(ϣ _) else none)=_;rw[Ç Ŗ,<- zE7]
  show zO (zt (zX (zo hc1 hc2 ha)) (zt rfl (zt rfl (zt (xU (É vQ (zE rfl hs)) h1) (yD (zE rfl (Yh sh hsh))))))) rfl
 .have m:∀ s x,tB ∈ HK ↔x∈(if s then o else b):=λ s x=>by
   rw[(HN).mem_iff];ext ï
   .intro h;rcases Ű h with h | h <;> let#[y,hy,e]:=â h <;> let#[rfl,rfl]:=Ļ2 e <;> show hy
   .cases s
    .show λ h=>zdN _ Vs
    .show λ h=>zB4 _ Vs
  rw[zC7,zE5,xv,xv,xv];ext ï
  .rintro⟨z,hz,g1,g2⟩;let#[x,x1,x2,x3]:=s1.snd z hz Â;let#[y,y1,y2,y3]:=s1.snd z hz true;show#[#[x,(m _ x).mp x1,⋯,⋯],y,(m _ y).mp y1,⋯,⋯]
  .rintro⟨⟨x,x1,x2,x3⟩,y,y1,y2,y3⟩;let#[z,z1,g1,g2]:=s1.all Â x y ((m _ x).mpr x1) ((m _ y).mpr y1);show#[z,z1,⋯,⋯]
theorem gu ĸ Ar ĺ (h:∀ x,dep (enc x)<=n):∀ xs:ő,xu Fq<=n
 | []=>by simp[xu]
 | É2=>by
  have:=h x;have:=gu enc n h xs;simp![zA6,xu];lia
def ą5 Ê2:dep (zA p)<=1:=by simp[zA,dep,xu]
def ī4 (ps:ß):dep (È LQ)<=60:=by
 have:=gu zA 1 ą5 ps;simp![dep];lia
end z_.V
namespace z_.V
open ξ L2 L3 L5 RN
section
variable {is:ç}{TC}{b:Sm}{Ψ}{tp}{R:ä Out}
def ŗ4 (hc:c (BW)=↑true) (hb:b (BW)=↑ tZ) (e:m9 is c b n J'=R):pK=R:=by
 rw[m9,hc,zC9,BA,hb];show e
def Ŗ9 (hc:c (BW)=↑ Â):pK=↑(.nx (BW)):=by rw[m9,hc];rfl
end
theorem Ń8 {α β:Type}(c:AG) (g:α->β):∀ l:ő,l.filterMap (λ x=>if c x=true then ↑(g x) else none)=(l.filter c).map g
 | []=>rfl
 | a::l=>by by_cases h:c a=true <;> simp[zeF,h,Ń8 c g l]
def jP ĸ Ar (test:AG) (out:uz) Bw{it:ŷ}ϑ TC Ĺ Ì Hc (hi:it J=↑ Fq) (hl:ϓ<=10000)
  (hh:∀ x∈xs,∃ J',g (enc x) GJ=↑J'/\c J'=↑(test x)/\f J'=↑(out x)):xb pick it g c f J=↑(Á ((xs.filter test).map out)):=by
 rw[Č0 enc (λ x=>if Jg then ↑(out x) else none) xs hi ⋯ λ x hx=>by
  let#[J',h1,h2,h3]:=hh x hx;rw[oS,h1,zC9,h2,zC9,h3];cases test x <;> rfl,Ń8]
def kx r0:uk:=by
 ext A8
def pW ϑ UQ:Nd:=by
 unfold turn;rw[hg];show h
def bT œ:T:=È gG
def rT (r:Į):T:=Á (AB bT)
def kt uX:T:=if b=true then Ä "keeper" else Fb
def wW (w:Wy):T:=rG
def wZ K0:T:=È [À s.p,sO,À s.gv,À s.gt]
def zF Ê:T:=È [GV,È L_,È Vo,È VM]
def ſ Ak Fe:eg:=by
 ext Fu;cases neg <;> simp[zfY]
def Ą1 Ê:eU [Ġ]=↑(À Ï):=by
 simp[eU,Ĭ6,zF]
def Ń4 (q p:Ó):bK [ņ,zA p]=↑(.bl (oB q p)):=by
 by_cases h1:p.1<=q.1 <;> by_cases h2:p.2<=q.2 <;> simp[bK,Ľ8,zA,oB,h1,h2]
def Ĩ4 ĸ Ku:Rq:=by
 have:=ZH (BK g)
 rwa [zD6] at this
theorem ħ3 (ps:ß) Û (hl:ı<=10000):bH [bT ps,ņ]=↑(.bl (zU ps q)):=by
 have hc:ZG [↑(.im (bT ps)),↑ JZ]=↑(Á (IT MS)):=by
  unfold ZG;exact wC zA _ ps O8;simp[Ń4]
 unfold bH ĩ7;generalize ZG=cc at hc ⊢;simp[hc,Ĩ4];rfl
theorem zb4 ö1 (w:Wy) (bd:Bd) (hl:bd.length<64):ŵ0 [Q6,wW w,bT bd]=↑(bT (iy A B w.a w.b bd)):=by
 have h1:ů4 [↑(.im (Q6)),↑(.im (wW w)),↑(.im (bT bd)),none]=↑(Á ((nF).map zA)):=by
  rw[zD6];unfold ů4;exact wC zA _ bd O8;simp[zA,wW,pA,xZ,cz]
 have h3:=Yh ((nF).filter DM) (zdU DE (K5));show zO (zt (zX h1) (yD (zE (zk (jP zA DM zA (nF) rfl Ŗ λ p _=>#[_,rfl,xE (zE rfl (Ń4 (A,B) p)),rfl]) rfl) h3))) rfl
def zbR Ϛ (hl:XX):bI N_=↑(bT EX):=zbS b c hl
def zbY Ϛ (hl:XX):Yq N_=↑(bT qx):=by
 let#[sh,h1,_,h2]:=zbZ b c hl;have:nG sh=lU b c:=mr.eq (Ś9 _) (Ś9 _) λ q=>by
  rw[fF,h2,<- Ŀ2]
 rw[<- this];show h1
theorem zbQ Ŋ(hA:0<=A/\A<=12) A1 (h:rU):ő9 [Lu]=↑(bT (lR bs)):=by
 let#[J',h1,h2]:=pk Bb (b:=İ2) bT (λ p J=>J=[↑ FE,↑(.im (bT LN)),none]) bs [↑ FE,↑(.im (bT [])),none] rfl (by
  rintro p x q e J rfl;have g1:Gd A B LN:=cP é A9 Qr;ext Sb;show#[_,pW rfl (zX (zE rfl (zbR LN x ⋯))),YN])
 subst h2;show PX
theorem zbX Ŋ(hA:0<=A/\A<=12) (hB:0<=B) A1 (h:rU):Ŝ3 [Lu]=↑(bT (bt bs)):=by
 let#[J',h1,h2]:=pk Bb (b:=Ļ0) bT (λ p J=>J=[↑ FE,↑(.im (bT tP)),none]) bs [↑ FE,↑(.im (bT qS)),none] rfl (by
  rintro p x q e J rfl;have g1:Gd A B tP:=Ŏ6 p qS (Gd.qS hA.1 hB) Qr;ext Sb;show#[_,pW rfl (zX (zE rfl (zbY tP x ⋯))),YN])
 subst h2;show PX
def Ň5 (a b:Nat):yb Â (nT a) (nT b)=↑(.bl (Î (a=b))):=(ſ a b Â).trans (É š (Ej ī))
theorem fE ĸ{is:ç}ϑ Si:∀ Hc (J:Ev),BW=J0->
  Vb->
  X6=↑(match RH with | some x=>G_ | none=>.nx J0)
 | [],J,h,_=>by ext PR
 | É2,J,h,ht=>by
  ext M0;by_cases c:Jg
  .rw[Ç c,c];rfl
  ext TQ
def Yc (i a b:Int):gP [À i,À a,À b]=↑(.bl (DP)):=by
 have h:bG [À i]=↑ è:=by simp[bG,į9,mE]
 by_cases h1:a<=i <;> by_cases h2:i<=b <;> simp[gP,ī3,h,h1,h2]
def Ň8 {N:Ø}Ψ{g:Sm}{ys:Ù}{J':Ev}(h:g (pj N ys)=↑ tZ) (hn:ys.length=n):zW N n g ys=↑.zx:=SA
theorem zb1 {i n:Nat}(h:i<n):gP [nT i,Δ,À ((n:Int)-1)]=↑ è:=by
 rw[Yc,zg6 (show sW<=i by lia),zg6 (show ϸ<=n-1 by lia)];rfl
def bJ Ê Ý (h:p<Ï):NW:=
 Ň8 (yt (xQ (xE (zE (zk rfl (zk rfl (zk (zo BR Å) rfl))) (zb1 h)))) rfl) rfl
def zbV Ê Ý (h:p<Ï):NW:=bJ F p h
def ĵ5 ĸ(f:uz) (l:ő):xS [È (π f)]=↑(nT Ĭ):=by
 change ↑(Ú ((π f).length:Int))=_;rw[zA7]
def å5 Ê ĳ:ĩ OX (vq pu)=↑(À (F.yz pu)):=Ţ
def ķ1 Û ĳ:ĩ S7 (vq pu)=↑(À (tm)):=Ţ
def ı7 Û ĳ:ĩ S7 FZ=↑(À (sj)):=Ţ
abbrev Ĭ0 Ê K0 (p:T) (acc:Ù) Hr:Ev:=[im (GV),im GC,im p,im (sO),↑(Ð (Á acc)),im (À g),im (À t)]
def ð9 Þ{s:Sl}(hg:1<=s.gv) (p:T):∀ (n m:Nat) Hr (acc:Ù),Λ+1-g<=n->n<m->acc.length+n<=1000->
  ∃ g' t',m9 [] (zV (zc mB sf (zc zi í ű))) ĭ8 m UI=↑(.nx (Ĭ0 F s p (acc++(oZ fC n g t).map zA) g' t')):=λ n=>by
 induction n with
 | zero=>
  intro m g t acc h1 h2 _;ext II;show#[g,t,(Ŗ9 (zQ (zo Zr (É š (zg7 ⋯))))).trans (by rw[oZ,zd0,zd1];rfl)]
 | succ n ih=>
  intro m g t acc h1 h2 h3;ext II;rw[oZ];by_cases hc:g<=Λ
  .let#[g',t',e]:=ih m (g+s.gv) (xZ (t-s.gt)) (acc++[Rx]) ğ Ŗ;have hi:kz (zV (zc ϙ ű Ľ)) OK (tupS (za (zr 6) (za (zr 5) ze))) UI=↑(Rx):=by
    let#[_,pu,_,_]:=s;cases pu <;> simp[vq,ſ,xI,zA]
   rw[Ç hc];show#[g',t',(ŗ4 (zQ (zo Zr (É š (zg6 hc)))) (zt (om rfl hi ⋯) (zt (zX (zo rfl Τ)) (zX (zE (zk rfl (zk (zo rfl Τ) rfl)) rfl)))) e).trans (by rw[zE8];rfl)]
  .rw[Ü hc,zd0,zd1];show#[g,t,Ŗ9 (zQ (zo Zr (É š (zg7 hc))))]
theorem zbU å {s:Sl}(hs:1<=s.gv) {p:Ó}(h0:Rf):Ÿ4 [GV,wZ s,zA p]=↑(Á ((jt F s p).map zA)):=by
 let#[g',t',h]:=ð9 (F:=F) hs (zA p) 100 1000000 B_ [] (by have:=Ų;have:=JJ;unfold Ϡ ya;ext Ξ) () #[];show zO (zt (zX Ŀ) (zt rfl (zt (zX (zo Å (ķ1 p s.pu))) (zt (zX (zo Iu (ı7 p s.pu))) (zt KG))))) rfl
theorem zbs Ê Ý (h:p<Ï) (hl:Fd):Ņ1 SK=↑(match Ť with | some s=>wZ s | none=>.zx):=by
 have hl':=fE Bb (b:=ZK) wZ wZ (ϭ) RO F.ss RO #[] λ s _=>#[[↑(.im ϊ),↑(.im (À p)),↑(.im GC)],#[],by
  by_cases c:s.p=p
  .simp[turn,ZK,wZ,ſ,c]
  .have c':¬ ((s.p:Int)=Ħ):=⋯;simp[turn,ZK,wZ,ſ,c,c']]
 have h1:=bJ F p h;unfold BD;cases e:Oz (ϭ) with
 | none=>rw[e] at hl';show zO (zt (il L7) (zt (xU rfl hl') rfl)) rfl
 | some s=>rw[e] at hl';show zO (zt (il L7) (x9 (xU rfl hl'))) rfl
theorem Ğ4:∀ (ws:rO) ĵ,ic k (Ł wW)=(ws.zipIdx k).map λ wi=>MF
 | [],k=>rfl
 | Jn,k=>by
  rw[zA6,ic,Ğ4 ws ũ,zfG,zA6]
theorem Ŏ7 (f:Wy->Bool):∀ (ws:rO) ĵ,((ws.zipIdx k).filter λ wi=>f wi.1).map (λ wi=>wi.1)=ws.filter f
 | [],k=>rfl
 | Jn,k=>by
  rw[zfG,Qp,Qp];by_cases c:f w=true
  .rw[Ç (by show c),Ç c,zA6,Ŏ7 f ws]
  .rw[Ü (by show c),Ü c,Ŏ7 f ws]
def ĉ6 Ê Ý (h:p<Ï) (hl:ŗ<=60):ŏ9 SK=↑(Á ((So).map JL)):=
 zO (zt (il (zE rfl (zbV F p h))) (yD (jP (λ wi:Gx=>MF) (I_) (JL) F.ws.zipIdx (by rw[<- Ğ4];rfl) Ŗ λ wi _=>#[_,rfl,zQ (zo Τ (Ň5 wi.1.f p)),rfl]))) rfl
theorem ě6:∀ Ϛ,T2=Î (b=c)
 | [],[]=>LG
 | [],_::_=>LG
 | _::_,[]=>LG
 | p::b,q::c=>by
  have h:=ě6 b c;have e:eqT (zA p) (ņ)=Î (p=q):=by
   let#[p1,p2]:=p;let#[q1,q2]:=q;by_cases h1:p1=q1 <;> by_cases h2:p2=q2 <;> simp[zA,eqT,qO,h1,h2]
  rw[zA6,zA6,qO,e,h];by_cases h1:p=q <;> by_cases h2:b=c <;> simp[h1,h2]
def ð0 Ϛ:yb true (bT b) (bT c)=↑(.bl (Î (b≠c))):=by
 have h1:dep (bT b)<=60:=ī4 b;have h2:dep (bT c)<=60:=ī4 c;unfold yb;rw[Ç #[h1,h2]];change ↑(T.bl (!(T2)))=_;rw[ě6];by_cases h:b=c <;> simp[h]
def fM DB Ý (h:p<Ĭ):zi (rT l) (À p)=↑(bT vz):=by
 change ĩ (π bT) Ħ=_;exact qR ?_;rw[zA3,PV,zB1,PV];rfl
theorem Ģ1 ż Ĺ Ì dX:VH:=by
 have:ķ+us.length<=16777216:=⋯;simp[h0,h,this]
def ki:Nat->Nat
 | 0=>0
 | k+1=>ki k+ũ
theorem b_ {a:Nat}:∀ {b:Nat},a<=b->ki a<=ki b
 | 0,h=>by cases Nat.le_zero.mp h;show Α
 | b+1,h=>by
  rcases Nat.lt_or_eq_of_le h with h | rfl
  .have:=b_ (Nat.le_of_lt_succ h);simp![ki];lia
  .show Α
theorem Ņ7 Bp:∀ œ ĵ,b.Pairwise (λ x y=>m y<m x)->(∀ x∈b,YK)->sU<=ki k
 | [],k,_,_=>Ϟ
 | x::b,k,hp,h=>by
  let#[h1,h2]:=u0 hp;let#[h3,h4]:=h x zc7;rw[zdM,zD7];have:=b_ h3;cases hm:m x with
  | zero=>
   cases b with
   | nil=>rw[hm] at h4;simp;lia
   | cons y b=>have:=h1 y zc7;lia
  | succ n=>
   have i:=Ņ7 (g:=g) b n h2 λ y hy=>#[by have:=h1 y hy;lia,(h qg).2];rw[hm] at this h4;simp![ki] at this;lia
theorem Ĺ8 Bp ĵ:∀ œ (a:Nat),a<=k->MC->(NJ)->sU+ki a<=ki k
 | [],a,ha,_,_=>by have:=b_ ha;simp;lia
 | x::b,a,ha,hp,h=>by
  let#[h1,h2]:=u0 hp;let#[h3,h4,h5]:=h x zc7;have i:=Ĺ8 (g:=g) k b (m x) h4 h2 λ y hy=>#[h1 y hy,(h qg).2];rw[zdM,zD7];cases hm:m x with
  | zero=>lia
  | succ n=>
   have:=b_ (a:=a) (b:=n) ⋯;rw[hm] at i h5;simp![ki] at i;lia
def Ă6 Bp ĵ œ (a:Nat) (ha:a<=k) (hp:MC) (h:NJ):sU<=ki k:=zE0 (ze3 Ë) (Ĺ8 k b a ha hp h)
theorem zbT å Ý Qo œ (hb:ϔ):Ŵ0 [Ġ,À p,bT b]=↑(bT (match Ť with | none=>b | some s=>IX)):=by
 have h1:=zbs F Ö ok.s8;cases hs:Ť with
 | none=>rw[hs] at h1;show YQ
 | some s=>
  rw[hs] at h1;have hmem:s∈F.ss:=zdL hs;have hsz:=ok.ss s hmem;have hlen:(H_ Fo).length<=45:=by
   have h8:Vn:=by
    rcases ok.sl with x | x
    .rw[x] at hmem;cases hmem
    .show x
   have hm:∀ x∈b,(jt F s x).length<=DN/\DN<=9/\ya ZO<=Λ:=λ x hx=>by
    have q:=hb.xf x hx;have:=Ĥ3 fC hsz.1 ak (by unfold Ϡ ya;ext Ξ);unfold jt;unfold Ϡ ya at *;split <;> simp![*] at this ⊢ <;> simp at this ⊢ <;> lia
   cases hpu:s.pu with
   | true=>show Ă6 (m:=λ x=>DN) 9 b 0 () (Ag (λ{x y} hx hy h=>by
     ext Pn;simp![ya,hpu,if_true] at *;lia) hb.fO) (λ x hx=>#[by have:=(F_).2.2;lia,(F_).2.1,(F_).1])
   | Â=>show Ņ7 (m:=λ x=>DN) b 9 (Ag (λ{x y} hx hy h=>by
     ext Pn;simp![ya,hpu,zC4,if_false] at *;lia) hb.fO) (λ x hx=>#[(F_).2.1,(F_).1])
  let#[J',h2,rfl]:=pk (is:=[5]) (g:=zC 5) (b:=Ĩ1) zA (λ q J=>J=[ê,Ę,im (bT b),im GC,↑(Ð (Á ((q.flatMap Fo).map zA))),none]) b [ê,Ę,im (bT b),im GC,↑ E7,none] rfl (by
   rintro q x r e J rfl;have q1:=hb.xf x (Ň);exact#[_,pW rfl (Ģ1 rfl (zE (zk Τ) (zbU ok hsz.1 #[q1.1.1,q1.2.1])) ?_),?_]
   .rw[e] at hlen;simp at hlen ⊢;lia
   .rw[zfM,zE7,List.flatMap_singleton];rfl)
  show zO (zt Ac (zt Kx (zt rfl (zt (xU rfl h2) (yD (zE rfl (Yh (H_ Fo) ⋯))))))) rfl
def sZ {l:Į}ĭ(h:p<Ĭ):Lg é ∈l:=by rw[zB1,PV];show zD8 h
theorem zbG å Ý Qo DB (hl:Ĭ=Ï) (hg:∀ b∈l,ϔ):Œ9 [Ġ,À p,rT l]=↑(bT (Hn)):=by
 have nS:=ok.nS;have c1:Ħ7 Np=↑ f6:=by
  rw[<- gj,zD6];show wC gZ _ (So) w_ λ wi hwi=>kx rfl (zo Τ (qR (by rw[zA3,zg2.mp (ž hwi).1];rfl)))
 have c2:ľ5 [ê,Ę,im (rT l),im f6,none]=↑(Á ((A3).map bT)):=by
  unfold pN;rw[zD6];exact wC wW _ (C_) rfl (zE0 DE ⋯) λ w hw=>?_;have ht:w.t<Ĭ:=by rw[hl];show (ok.ws w (ž hw).1).2
  have:=(hg _ (sZ ht)).pq v7;have:=Ų;show kx rfl (zE (zk Ŀ (zk rfl (zk (zo Iu W_) rfl))) (zb4 ŉ w (rY) ⋯))
 have gah:=Ů8 F l p;have ho:PY:=qR (by rw[zA3,zA1 hp,zB1,zA1 hp];rfl);have hk:∀ b:Bool,PM:=λ b=>Mx
 have tk:=hk (ϩ);have pre:∀ o,_->Ġ7 Np=o:=λ o h=>zt (zX c1) (zt (zX c2) h);unfold xG;cases hb:ϩ with
 | true=>
  rw[hb] at ho tk;exact (zO (pre _ (x9 (yI W7 (yD (zE (zk rfl (zk rfl (zk (zE rfl (zbQ #[v7,Ų] (A3) gah)) rfl))) (zbT ok Ö (lR (A3)) (cP Ë A9 gah))))))) rfl).trans ?_;cases Ť <;> rfl
 | Â=>
  rw[hb] at ho tk;show zO (pre _ (zt (yt W7 rfl) (yD (zE rfl (zbX #[v7,Ų] ok.b0 (A3) gah))))) rfl
def jT MK:T:=Á (HI)
theorem Ð8 (t:Nat) MK:wO Â (nT t) Bz=↑(.bl (fr.contains t)):=by
 have d1:xu (HI)<=60:=by
  exact gu _ 60 (λ x=>?_) fr;simp[dep]
 have d0:TL:=GL
 unfold wO;change (if TL/\xu (HI)<=60 then _ else _)=_;rw[Ç #[d0,d1]];change ↑(T.bl ((HI).any λ x=>eqT x (À t)))=_;congr 2;rw[zC7,zD0,List.contains_iff_mem];ext ï
 .rintro⟨x,hx,h⟩;let#[k,hk,rfl]:=â hx;have:Í=(t:Int):=by simpa [eqT] using h
  have:k=t:=⋯;subst this;show hk
 .intro h;show#[_,Ś #[t,h,rfl],by simp[eqT]]
def Ŕ1 Ψ{f v:zEO}Ì ŋ{z:T}{k:Int}{j:Nat}RB (h0:J[n]?=↑↑ A5) (hj:px ķ k=↑j):hJ n f v J=↑(.nx (ϝ n ↑(Ð (Á (ts.set j z))))):=by
 ext oz;rw[hf];dsimp only[uU];ext DH;rw[hj];rfl
abbrev Ī6 Ê ť MK (L:Į) (x:ä W):Ev:=[ê,im AJ,im Bz,↑(Ð (Á (L.map bT))),x]
def lJ Ê ť (pre:ë):Į:=(Ñ rL).map λ(p:Nat)=>if Ħ ∈pre then Ϙ else ϡ
theorem zbF å t7{fr:ç}(hl:rL=Ï) (hg:V8):œ1 [Ġ,rT last,jT fr]=↑(rT (FY)):=by
 have nS:=ok.nS;have c1:ģ0 RG=↑(Á BJ):=by
  rw[zD6];show jP wW (λ w=>qq) (λ w=>Ú (w.f:Int)) F.ws Iz λ w _=>#[_,rfl,zQ (zo Τ (Ð8 w.t fr)),zo Hi]
 have hss:fg [Á BJ]=↑(Á ((nD (Kt)).map Ú)):=by
  change (match oW BJ with | some ns=>_ | none=>_)=_;rw[fP];exact Ç ?_;have:=zdR (λ w:Wy=>qq) F.ws;simp![zA7];lia
 have hmem:∀ k,k∈nD (Kt)↔∃ p:Nat,k=Ħ/\p<Ï/\XQ:=λ k=>by
  ext ï
  .intro hk;let#[w,hw,rfl]:=â (Zd.mp hk);ext Ld;show#[w.f,rfl,(u_).1,ϗ #[w,w1,DF]]
  .rintro⟨p,rfl,_,h⟩;let#[w,w1,w2]:=El h;have w3:ο/\qq=true:=DF
   show Zd.mpr (Ś #[w,K9 #[w1,w3.2],by rw[w3.1]])
 generalize nD (Kt)=up at *;let#[J',h1,rfl]:=pk df (b:=ĭ3) Ú (λ pre J=>J=Ī6 ĕ fr (lJ ĕ pre) none) up RG (by
  have e:lJ ĕ []=last:=zdV Tr λ i h1 h2=>by simp[lJ,h2]
  rw[e];rfl) (by
  rintro pre k q e J rfl;let#[p,rfl,hp,hw]:=(hmem k).mp (Ň);have hset:(Pz).set p (bT (Ϙ))=(lJ ĕ (pre++[Ħ])).map bT:=by
   exact zdV Tr u7;rw[List.getElem_set];simp![lJ,List.getElem_map,zfQ,zB9,zB6];by_cases c:p=i
   .subst c;simp
   .have c':¬ (ϸ=Ħ):=⋯;simp[c,c']
  have hix:px (Pz).length Ħ=↑p:=by
   unfold px lJ;simp![zA7,zC5];rw[rC,rC,zdP]
  show#[_,pW rfl (Ŕ1 (zE rfl (zbG ok Ö last hl hg)) Å hix),by rw[hset];rfl])
 have fin:lJ ĕ up=FY:=by
  exact zd9 K7;have hpl:=qa hp;by_cases c:XQ
  .rw[Ç c,Ç (Bc #[p,rfl,⋯,c])]
  .rw[Ü c,Ü λ h=>c (by let#[p',e,_,h']:=(hmem _).mp h;show (show p'=p by lia)▸h')]
 rw[fin] at h1;show zO (zt rfl (zt (xU (É vQ (zE (zk c1 rfl) hss)) h1) rfl)) rfl
theorem ŗ9 ĸ Ar (d:α) (fo:ő):∀ (l:ő) ĵ,(∀ i,Lg i d=JO (k+i) d)->ic k (π enc)=(Ñ Ĭ).map λ(p:Nat)=>ń [À ((k+p:Nat):Int),enc (JO (k+p) d)]
 | [],k,_=>rfl
 | b::l,k,h=>by
  have h0:=h 0;rw[zA6,ic,ŗ9 enc d fo l ũ λ i=>by have:=h (i+1);rw[show k+1+i=k+(i+1) from by lia];ext G3];rw[zC0,List.range_succ_eq_map,zA6,zD6];have e:b=JO k d:=by exists h0
  congr 1
  .rw[e];rfl
  .exact zd9 λ p _=>?_;simp![Function.comp];rw[show k+1+p=k+Nat.succ p from by lia]
def zaA {a:T}{b c:Ŝ}ü1 (QC:HQ<=10000):Ķ4 [im a,b,c,im AJ,im (rT fo)]=↑(jT (Ea)):=
 jP (λ p:Nat=>ń [Š,bT (JO é)]) (λ p=>Î (JO é ≠ ϡ)) (λ p=>Š) (Ñ HQ) (by
  have:=ŗ9 bT [] fo fo 0 Uo
  simp![zdQ] at this;rw[<- this];rfl) Ŗ λ p hp=>#[_,rfl,zQ (zo rfl (zo Å (fM last p (by rw[<- hl];show qa hp))) (ð0 Ë)),rfl]
abbrev dw Ê DA MK (x y:Ŝ):Ev:=[ê,↑(Ð (Á Jb)),im Bz,x,y]
theorem ż2:∀ fr:ç,fr≠[]->ň6 Bz=↑true
 | [],h=>ã Jj
 | _::_,_=>rfl
theorem ŀ2 å:∀ ĺ (pre:vJ) ť MK (res:vJ),St ĕ fr->jC F n pre last fr=↑res->pre.length+n<=10000->∀ QX,n<m->∀ x y:Ŝ,
  ∃ fr',m9 Pc m (dw F (Dc) fr x y)=↑(.nx (dw F res fr' ì))
 | 0,_,_,_,_,_,h,_,_,_,_,_=>by cases h
 | n+1,pre,last,fr,res,s,h,hn,m,hm,x,y=>by
  have hend:∀ QX DA (x y:Ŝ),m9 Pc (m+1) (dw F told [] x y)=↑(.nx (dw F told [] ì)):=λ m told x y=>Ŗ9 rfl;ext II;unfold jC at h;by_cases hfr:fr=[]
  .rw[Ç hfr] at h;cases h;subst hfr;show#[_,hend m _ x y]
  .rw[Ü hfr] at h;dsimp only at h;ext u9;have sl:=JS;have hlast:ĩ ((Dc).map rT) (-1)=↑ AJ:=by rw[zE7];show Ĝ0
   have hc:=λ b c=>zaA (a:=Ġ) (b:=b) (c:=c) (last:=last) (fo:=FY) (jG ..) (by rw[jG];lia);have sn:=EB;have hF:=zbF ok (fr:=fr) JS s.gd;generalize lh last (FY)=f2 at *;have b1:∀ o,_->Ź4 (dw F (Dc) fr ì)=o:=λ o h=>zt (zX (zo Å hlast)) (zt (zX (zE rfl hF)) (zt (zX (hc Ë)) h));by_cases hf:f2=[]
   .rw[Ç hf] at h;cases h;subst hf;ext II;show#[_,ŗ4 (ż2 fr hfr) (b1 _ B2) (hend m Ô)]
   .rw[Ü hf] at h;let#[fr',e]:=ŀ2 ok n (Dc) (FY) f2 res sn h Ŗ m ⋯ (im AJ) (im (rT (FY)));exact#[fr',ŗ4 (ż2 fr hfr) (b1 _ (yI (ż2 f2 hf) (om Å Ŗ))) (DL (É _ ?_) e)];change _=[_,↑(L5.W.own (Á ((Dc++[FY]).map rT))),_,_,_]
    rw[zE7 (l₁:=Dc)];rfl
def Ĭ4 ż Ĺ Ì ŋ RU:Sg:=vF
def ļ3 Ĺ Ì{x:T}Lr:xc (za f ze) J=↑(Á [x]):=AF
theorem zbx å:∃ more,ka [Ġ]=↑(Á ((Hy).map rT))/\(∀ r∈ Hy,OC)/\more.length<=2000/\jC F IP=↑(Hy):=by
 have hmu:=ħ7 (Ŷ F);have hsl:(Ŷ F).length=Ï:=Pe
 ext u9;have n1:=ok.n1;let#[more,last',e1,e2,_,e4]:=Ġ5 ok IP uZ ⋯;let#[fr',e]:=ŀ2 ok IP _ uZ e1 #[] 1000000 () ì;have hst:rT (Ŷ F)=Á (uA Ï (È Jo)):=by
  unfold rT Ŷ;rw[List.map_replicate];rfl
 have hmul:ve (Á [È Jo]) (À Ï)=↑(rT (Ŷ F)):=by
  rw[hst];unfold ve;ext Ĵ;rw[Ç #[#[],⋯,⋯,ð1 Ŗ]];have:∀ n:Nat,(uA n [ń Jo]).flatten=uA n (È Jo):=λ n=>by
   induction n with
   | zero=>rfl
   | succ n ih=>rw[zdE,zdE,zdJ,ih];rfl
  rw[zdP,this]
 have hrg:Zh [À Ï]=↑(jT rj):=by
  change (if 0<=(Ï:Int)/\(Ï:Int)<=16777216 then ↑(ϣ (rangeT 0 XN)) else none)=_;rw[Ç ī];change ↑(ϣ ((Ñ XN).map λ Ŭ=>Ú (0+Í)))=_;rw[zdP];unfold jT;simp
 show#[more,zO (zt (Ĭ4 (i:=1) (ļ3 (zo rfl BR hmul))) (zt (zX (zE (zk BR rfl) hrg)) (zt e rfl))) rfl,e2,⋯,e1]
def Ė4 rB:(if y<x then y else x)=min x y:=by ext Ξ
def aj (o:ä (Ó)):T:=match o with
 | none=>.zx
 | Dr=>zA r
def Ć9 Ê:zi ϊ (Δ)=↑(GV):=tW
def Â1 Ê:zi ϊ (À 1)=↑(È L_):=tW
def Œ8 Ê:zi ϊ (À 2)=↑(È Vo):=tW
def Ī1 á2 Ì Ze:Z_:=vF
theorem zbp Ê Û ç8:Ź7 Vt=↑(aj (K2)):=by
 have hi:J8=↑(rG):=Fs;have pre:∀ o,_->ġ7 [ê,ŀ,Bx,none,none,none]=o:=λ o h=>zt (zX (ļ5 vH rfl)) (zt WC (zt WC h));ext Q1
 ext YC
 .have t1:∀ uX (g:F5),g Ot=↑b->wQ (zV (zc wg HG Ľ)) g Ot=↑b:=TN;by_cases h2:Gb<0
  ext Td
  ext Nl
def za2 {a b:zEO}Ì{y:ä T}(ha:a J=↑ è) (hb:b J=y):vm a b J=y:=by
 change De=_;rw[ha];show hb
def za1 {a b:zEO}Ì(ha:a J=↑ ϖ):vm a b J=↑ ϖ:=by
 change De=_;rw[ha];rfl
theorem zbK Þ{l:Į}á ç8 (ht:w.t<Ĭ) (hb:(rY).length<=10000):Ś4 [Ġ,ņ,À ϸ,rT l]=↑(.bl (pY F l q w)):=by
 have hw2:=Œ8 F;have hi:bQ:=Fs;have h2:=zbp F q hw;unfold pY;cases ho:K2 with
 | none=>rw[ho] at h2;show zO (zt N6 (yD (za1 Ŀ))) rfl
 | some r=>rw[ho] at h2;show zO (zt N6 (yD (za2 Ŀ (zE (zk (zo rfl (zo (zo (zo Å hw2) rfl hi) Å) W_) rfl) (ħ3 (rY) r hb))))) rfl
def qQ Ê K0 Û ĵ:Ó:=xI s.pu (ģ-Jy) (min (GA+k*s.gt) Ja)
theorem Ŗ8 AA:∀ ĺ á,Ω->ģ<n->∀ k:Nat,(Ae)[k]?=if Jh<=ģ then ↑(qQ F s q k) else none
 | 0,q,h,hn,_=>by
  have:=(ύ h).1.1;lia
 | n+1,q,h,hn,0=>by
  have h':=ύ h;unfold jr qQ;rw[zfJ,Ç Ŗ];simp![Int.natCast_zero,Int.zero_mul,Int.sub_zero,Int.add_zero];rw[zfZ h'.2.2,ő0]
 | n+1,q,h,hn,k+1=>by
  have h':=ύ h;have e1:EA:=Gj
  have e2:M7:=Gj
  ext QY;have k1:0<=Jh:=ze5 ğ;unfold jr;rw[zfA];by_cases hg:BF
  .rw[Ç hg];have hi:xo F NR:=by
    ext VN
   rw[Ŗ8 hs QT k,nr];unfold qQ;rw[nr,lL,e1,e2];by_cases hk:Jh<=ģ-s.gv
   .rw[Ç hk,rC];congr 2
    .lia
    .lia
   .rw[Ü hk,N4]
  .rw[Ü hg,e1,N4];rfl
def zaF Ê ĳ:ĩ OX FZ=↑(À (F.yz (!pu))):=Ţ
def ü3 Ê Ý Û:(Κ)[0]?=↑q:=by
 unfold wx;cases Ť with
 | none=>rfl
 | some s=>rfl
def Ì8 Ê Ý:List (Gx):=F.ws.zipIdx.filter I_
def Ķ5 Þ ĭ{wi:Gx}(h:wi∈ G8):F.ws[wi.2]?=↑wi.1/\wi.1.f=p:=by
 let#[h1,h2]:=ž h;show#[zg2.mp h1,tH h2]
def Ą4 Þ ĭ(t:Wy->Bool):(G8).any (λ wi=>t wi.1)=LU t:=by
 unfold Ň6;rw[<- gj,zeE];rfl
structure Fix Ê DB:Prop where
 ok:F.Ok
 len:Ĭ=Ï
 gd:∀ b∈l,ϔ
 pw:B0
 go:∀ p<Ï,∀ q,Ω->zU vz q=lM F l p q
section
variable {Þ}
def ı0 ŏ:PY:=qR (by rw[zA3,zB1,zA1 hp];rfl)
end
def ó1 å (hpw:B0) EN(hg:∀ b∈ ID,ϔ) (hst:Ik=ID):Fix F Ai:=by
 exact#[ok,mC İ,hg,hpw,λ p hp q hq=>?_];have hg':∀ p,Gd ŉ (ŵ):=λ p=>by
  rcases zd5 p rA with h | h
  .rw[zB1,PV];show hg _ (zD8 h)
  ext PC
 have e:ŵ=PL:=by
  have:(Ik).getD é=PL:=ji (λ p=>PL) IB;rw[hst] at this;show this
 rw[e];show ņ0 ok hg' p hq
def ĳ7 DA:T:=Á Jb
def oY DA Ý Û:ŧ:=kP
def Z5 (o:ŧ):T:=match o with
 | some k=>sT
 | none=>.zx
theorem Į8 DA (n p:Nat) Û (hn:∀ r∈told,MQ=n) (hb:∀ r∈told,f_) (hp:p<n):Yo [Ly,À p,ņ]=↑(Z5 (oY told p q)):=by
 have hl:=fE (is:=[3,4]) (g:=qW 2 (xg (zC 3) (xg (zC 4) pJ))) (b:=ń3) (X2) (λ k:Nat=>Ú Í) (λ k=>!zU Et) UR (M_) UR rfl λ k hk=>by
  have hk':=AK;have hm:JV ∈told:=by rw[zB1,zA1 hk'];show zD8 hk'
  have hlen:p<(JV).length:=by rw[hn _ hm];show hp
  have e2:=ħ3 Et (by have:=hb _ hm _ (sZ hlen);lia);exact#[[im (Ly),Ę,ŀ,MV,im (rT (JV))],rfl,?_];cases hc:zU Et with
  | true=>rw[hc] at e2;show pW rfl (yt UB)
  | Â=>rw[hc] at e2;show pW rfl (yI UB)
 have he:ig [Ly]=↑((M_).map X2):=by
  have:=ŗ9 rT [] told told 0 Uo
  simp![zdQ] at this;change ↑(ic 0 Jb)=_;rw[this]
 unfold oY;cases ho:kP with
 | none=>rw[ho] at hl;show zO (zt (xU he hl) rfl) rfl
 | some k=>rw[ho] at hl;show zO (x9 (xU he hl)) rfl
structure Ż4 Ê QX:Prop where
 fx:Fix F Ai
 gd:bZ
def xr Ê QX:vJ:=U6
section
variable {Þ}{EN}
def ļ7 Ê QX:(Ž).length=m+1:=by unfold xr;simp
def ň0 Ĩ(h:k<=m):UZ=ū:=ji (zD F) (m+1) k [] ⋯
def Ż4.cJ AV Ĩ Jd Ý:Gd ŉ (Lk):=by
 rcases zd5 p (ū).length with h | h
 .rw[zB1,PV];show R.gd k hk _ (zD8 h)
 ext PC
theorem kB ĭ á Ĩ(h:JU):k<=m/\pv=Â:=by
 unfold oY at h;have h1:=qa (zdL h);rw[ļ7] at h1;have h2:=zg0 h;rw[ň0 ⋯] at h2;show#[⋯,rg]
theorem Ĳ3 ĭ á Ĩ Jd (h:pv=Â):∃ j,j<=k/\Η=↑j:=by
 unfold oY;cases ho:(Ñ (Ž).length).find? (λ k=>!zU ((UZ).getD é) q) with
 | none=>
  rw[zeR] at ho;have:=ho k (JY (by rw[ļ7];lia));rw[ň0 hk,h] at this;show ã rfl this
 | some j=>
  exact#[j,?_,rfl];rcases zd5 k j with hj | hj
  .have:=(List.find?_range_eq_some.mp ho).2.2 k hj;rw[ň0 hk,h] at this;cases this
  .show hj
def Ń2 ĭ á(h:Η=none) Ĩ Jd:pv=true:=by
 cases hc:pv with
 | true=>rfl
 | Â=>
  let#[j,_,hj]:=Ĳ3 hk hc;rw[h] at hj;cases hj
def ō6 ŏ ļ:Η ≠↑0:=λ h=>by
 let#[_,h2]:=kB h;have e1:M4:=by
  change OA;unfold Ŷ;ext Qd
 rw[e1,PK] at h2;cases h2
def í9:ĩ Ht (-1)=↑(rT Ai):=by
 unfold xr;rw[Yv,zE7,zE7];show Ĝ0
def ø1 Ĩ(h:k<=m):ĩ Ht Í=↑(rT (ū)):=qR (by
 unfold xr;rw[zD6,zA3,zfS ⋯];rfl)
theorem ś0 AV:(∀ r∈ Ž,MQ=Ï)/\∀ r∈ Ž,f_:=by
 ext ï
 .intro r hr;ext V0;show mC F k
 .intro r hr b hb;ext V0;have:=AK;have h1:=(R.gd k ⋯ b hb).pq R.fx.ok.a0;have:=R.fx.ok.a1;lia
theorem zbE AV ŏ ļ (ho:u6):∃ o:ŧ,Ŏ8 [Ġ,À Ħ,ņ,E5]=↑(Z5 o)/\(Η=none->o=none)/\∀ k,JU->∃ (i:Nat) (w:Wy),o=↑i/\GD:=by
 have h1:=Į8 (Ž) Ï p q (ś0 R).1 (ś0 R).2 hp;cases hd:Η with
 | none=>rw[hd] at h1;show#[none,YQ,à,ľ]
 | some k=>
  rw[hd] at h1;let#[k1,k2]:=kB hd;have k0:k≠0:=λ h=>ō6 hp hq (by rw[hd,h]);obtain⟨j,rfl⟩:∃ j,k=j+1:=#[k-1,⋯];have hjm:j<=m:=⋯;have nS:=R.fx.ok.nS;have ha:(G8).any (WZ)=true:=by
   have e:(zD F (j+1)).getD é=xG FL p:=ji (λ p=>xG FL p) IB;rw[e,ņ0 R.fx.ok (R.cJ hjm) p hq] at k2;unfold lM at k2;rw[Bv] at k2;rw[Ą4 (λ v=>!pY FL q v),<- List.not_all_eq_any_not,k2];rfl
  have hc:Ń5 [ê,Ę,ŀ,im (E5),im (nT (j+1))]=↑(Á ((jU WZ).map JL)):=
   jP gZ (WZ) (JL) (G8) w_ λ wi hw=>by
    have q1:=(Ķ5 hw).1;show#[_,rfl,xQ (xE (zE (zk rfl (zk rfl (zk rfl (zk (zo rfl (zo Å (É LK (show tK-1=j by lia))) (ø1 hjm)) rfl)))) (zbK q1 (by rw[mC];show (R.fx.ok.ws wi.1 (zB7 q1)).2) (by have:=(R.cJ hjm wi.1.t).pq R.fx.ok.a0;have:=R.fx.ok.a1;lia)))),rfl]
  cases hwl:jU (WZ) with
  | nil=>
   rw[List.filter_eq_nil_iff] at hwl;let#[wi,a1,a2]:=El ha;show ã a2 (hwl wi a1)
  | cons wi rest=>
   let#[m1,m2]:=ž (show wi∈ jU _ by rw[hwl];show zc7);let#[g1,g2]:=Ķ5 m1;rw[hwl,zA6] at hc;show#[↑wi.2,zO (zt Ac (zt Kx (yD (zo hc rfl (by simp[Z5]))))) rfl,ľ,λ k hk=>by cases hk;show#[wi.2,wi.1,rfl,g1,g2,by exists m2]]
end
end z_.V
namespace z_.V
open ξ L2 L3 L5 RN SJ
theorem zbw ö1 Û (h:O9):i8 [ņ,TF]=↑ è:=by
 have hc:bo [↑ JZ,↑(.im (TF))]=↑(Á ([(q.1,A),(q.2,B)].map λ x:Ó=>T.bl true)):=by
  unfold bo;exact wC (λ x:Ó=>ń [À x.1,È [Δ,À x.2]]) _ [(q.1,A),(q.2,B)] (by simp[zA]) #[] λ x hx=>?_;have hx':0<=x.1/\x.1<=x.2:=by
   simp![zA5,List.mem_nil_iff,DQ] at hx;rcases hx with rfl | rfl
   .show h.1
   .show h.2
  simp[Yc,hx']
 unfold i8 ĳ6;have it:Mz:=()
 generalize bo=cc at *;simp[zA] at hc;simp[zA,it,ſ,hc,mO]
def ò5 Ê Û (h:Gv):ŏ0 [Ġ,ņ]=↑.zx:=
 Ň8 (yt (xQ (xE (zE (zk rfl (zk (xh (zk Qz (zk Qz rfl)) Ε) rfl)) (zbw ŉ q h)))) rfl) rfl
def we Û:Str:=Gh++","++Lm
def pM:Bd->Str
 | []=>"none"
 | Ŵ=>Õ Fg
def o7 Û:Prop:=(F6/\q.1<=12)/\Rb/\q.2<=12
def o7.n1 á G5:Nm q.1:=#[by have:=h.1.1;lia,by have:=h.1.2;lia]
def o7.n2 á G5:Nm q.2:=#[by have:=h.2.1;lia,by have:=h.2.2;lia]
def ľ2 á G5:Α9 [ņ]=↑(Ä (we q))/\(we q).length<=7:=by
 have h0:zr 0 [↑ JZ]=↑(È [À q.1,À q.2]):=rfl;have z:=oo (oo (m_ h0 MW h.n1) (cB "," 1)) (m_ h0 Dz h.n2);show#[zO (yD z.1) rfl,z.2]
theorem zbu Ŕ(h:∀ q∈b,o7 q) (hl:Ν<=100):Ŏ2 [bT b]=↑(rf):=by
 cases b with
 | nil=>rfl
 | cons q b=>
  have hc:Ļ9 [↑(.im (bT (Ŵ)))]=↑(Á ((JA).map Ò)):=by
   rw[zD6];show wC zA _ (Ŵ) Iz λ x hx=>kx rfl (zE Ń (yS).1)
  exact zO (yD (ō8 rfl (oP rfl (zk hc rfl) (cx () ?_)))) rfl;have h2:=di Xw λ p hp=>by
   ext Km;show (yS).2
  rw[zA7] at h2 ⊢;lia
section
variable {å}{EN}(hm:m<=2000) {qG}{ŏ}
def Ğ6 á Lx (h:Ω):o7 q:=#[#[h.1.1,ϴ h.1.2 Ų],h.2.1,ϴ h.2.2 JJ]
include hr in
theorem zb0:Ō9 [Ġ]=↑(rT Ai):=zO (yD (zo (x:=E5) (y:=À (-1)) vM í9)) rfl
include ok hr R hp
theorem zaY:bN [Á [Ġ,Š]]=↑ qF:=by
 have hg:=R.cJ tV p;have hl:p<rA:=OQ
 exact zO (zt (il (zE Dh (bJ F Ö))) (yD (zE (zk (zo (zE Ń (zb0 hr)) rfl (fM Ai p hl)) rfl) (zbu (Nf) ?_)))) rfl;ext Oq
theorem zbL ļ:ŗ2 T7=↑(Z5 (Η)):=by
 have h:=ś0 R;show zO (zt vg (zt NI (yD (zE (zk vM) (Į8 (Ž) Ï p q h.1 h.2 hp))))) rfl
def Ŗ0:ŧ->Str
 | none=>"ever"
 | some k=>Ř
include hm in
theorem zaX ļ:bM [E4]=↑(Ä (Ŗ0 (Η))):=by
 have h:=zbL ok hr sv;have hd:∀ k,JU->k<=m:=λ k hk=>(kB hk).1;have pre:∀ o,_->Ĝ1 [im (E4),none]=o:=λ o g=>zt (zX (zE (zk rfl Av) h)) g;cases e:Η with
 | none=>rw[e] at pre;show zO (pre _ (yD (ō8 Å))) rfl
 | some k=>
  rw[e] at pre;have:=hd k e;show zO (pre _ S9) rfl
end
def ç3:((Ñ 14).all λ Ŭ=>!(IV).contains 44&&(Î ((IV).head?≠↑110)&&Î (tT)))=true:=()
theorem ÿ2 Ϭ:44∉L ł/\(L ł).head?≠↑110/\L ł ≠[]:=by
 have hk:=GW ç3 Rm;rw[zF2 h0] at hk;ext Uv;show hk
def Ä7 Û:Õ "," [Gh,Lm]=we q:=by
 ext Χ;rw[oU];unfold we;ext Je;rfl
theorem ă3 á G5:dP [Ä (we q),Ä ","]=↑(È (([Gh,",",Lm]:Ø).map Ò)):=by
 exact (Ç #[(),zE0 (ľ2 h).2 ()]).trans ?_;rw[<- Ä7,É3 (c0:=44) (yr:=[]) () (Ni).1]
theorem Ě3 á G5:32∉L (we q):=by
 unfold we;rw[wz,wz,zB9,zB9];intro z;rcases z with (z | z) | z
 .show lb h.n1 z
 .show ã z ()
 .show lb h.n2 z
def zaP á Ŕ(h:Mg):ţ (BC) " "=JA:=dq #[] λ p hp=>by
 ext Km;show Ě3 (Ñ7)
theorem zaR Ŕ Q3:(pM b).length<=400:=by
 cases b with
 | nil=>decide
 | cons q b=>
  have h1:=uC Fg;have h2:=di Xw λ p hp=>by
   ext Km;show (yS).2
  have e:UL:=()
  rw[e] at h1;rw[zA7] at h1 h2;change (Õ Fg).length<=400;lia
theorem zaQ á Ŕ G5:Qv:=by
 exact Ij λ e=>?_;have hn:=Ni;let#[a,as,ha]:=zfX hn.2.2;have hp:∃ r,L (we q)=a::r:=#[as++L ","++L (Lm),by unfold we;rw[wz,wz,ha];rfl];let#[r,hr]:=hp;have hj:∃ r,L (BC)=a::r:=by
  cases b with
  | nil=>show#[r,hr]
  | cons x b=>show#[r++(Ņ++L (Õ " " ((x::b).map we))),by change L (Õ " " (we q::we x::rl we))=_;rw[oU,hr];rfl]
 let#[r',hr']:=hj;rw[e] at hr';have h3:(110:Nat)::L "one"=a::r':=hr';show hn.2.1 (by rw[ha,<- (FK h3).1];rfl)
def int_at Ϭ:ky [EY]=↑ uh:=(Ç (zE0 (vd (jF h0 h1)).1 ())).trans Ru
def ē7 á Ŕ G5 Ì:zV (zc ϙ í (cS (Ä "none"))) Sz=↑ Â:=
 zQ (zo Å ((ů Ë Â).trans (É š (show Qv from zaQ h))))
theorem Ķ7 á Ŕ(h:Mg) (hl:(Ŵ).length<=20) Ì:xF HA Sz=↑(Á ((Ŵ).map FT)):=by
 exact oP Å ((ŧ5 () (zE0 (zaR h hl) ())).trans ?_);rw[zaP h,zD6];rfl
theorem ģ4 Ŕ Q3:eW [rf]=↑(Á gG):=by
 cases b with
 | nil=>show rZ
 | cons q b=>
  let#[J1,p1,p2]:=pk (is:=[2,3,4,5]) (g:=zC 2) (b:=ĸ3) (FT) (λ p J=>J=[im Ax,↑(Ð (Á (p.map zA))),none,none,none,none]) (Ŵ) [im Ax,↑ E7,none,none,none,none] rfl (by
   rintro p x r e J rfl;have hx:x∈ Ŵ:=Ň
   have hp:Ğ<=(Ŵ).length:=Ň
   have hk:=Ñ7;exact#[_,pW rfl (zt Oh (om (i:=1) rfl (xh (zk (yY rfl (int_at hk.1.1 (ϴ hk.1.2 ()))) (zk (yY rfl (int_at hk.2.1 (ϴ hk.2.2 ()))) rfl)) ω) (uW))),?_];rw[zE7];rfl)
  subst p2;exact zO (zt Rz (zt (ZN rfl) (zt (xU ?_ p1) rfl))) rfl;change (xF HA _).bind qY=_;show (É (λ z=>uU z qY) (Ķ7 h hl)).trans rfl
def ĕ6 â8 (ss:Ø) Fe:wO neg s_ (Á uL)=↑(.bl (cond neg (!(bA)) (bA))):=by
 have hd:∀ ss:Ø,xu uL<=60:=gu Ò 60 (λ _=>GL);have ha:∀ ss:Ø,((ss.map Ò).any λ t=>eqT t s_)=bA:=λ ss=>by
  rw[zeE];congr 1
 unfold wO;change (if dep s_<=60/\xu uL<=60 then _ else _)=_;rw[Ç #[GL,hd ss],ha]
def kn ĺ:Ø:=JG IG
theorem Ü5 Ψ{x:Int}(h0:0<=x) (h1:x<n):((kn n).any λ s=>Î (s=uM))=true:=by
 exact ϗ #[uM,Ś #[x.toNat,Aq,by rw[zF2 h0]],zg6 rfl]
theorem æ4 Bw{e:zEO}Ì Ψ ϑ Ĺ Sd (hf:∀ k:Nat,k<n->∃ J',g mK GJ=↑J'/\f J'=↑ Az):xb pick (xt wI (za e ze)) g xA f J=↑(Á ((kn n).map Ò)):=by
 unfold kn;rw[zD6];exact wC (tQ) _ (Ñ n) ?_ M5
 .ext U_
 .let#[J',h1,h2]:=hf k (AK);show kx υ
theorem zbM Ŋ Ŕ Ds (hA0:0<=A) (hg:Ź):ŝ8 [rf,zA (A,B)]=↑ è:=by
 have h:VD:=λ x hx=>#[#[(JT).1.1,ϴ (JT).1.2 hA],(JT).2.1,ϴ (JT).2.2 hB];have hl:Ν<=20:=by have:=hg.pq hA0;lia
 cases b with
 | nil=>show rZ
 | cons q b=>
  have hlb:=ģ4 h hl;generalize hb:Ŵ=bb at *;have hk:ŀ4 [r9,sA,vP,none,none,none,none,none,none,none,none]=↑ Jz:=
   æ4 () rfl λ k hk=>#[_,rfl,fS]
  let#[J1,p1,p2]:=pk U9 (b:=Ĳ5) (FT) (λ p J=>J=NS) bb NS rfl (by
   ext Ur
   have hk:=Ñ7;have t:∀ n:Int,0<=n->n<=12->wO true (EY) Jz=↑ ϖ:=λ n a b=>Il (by rw[Ü5 a ⋯];rfl);show#[_,pW rfl (zt Oh (yt (pG (zQ (zo Å (t _ hk.1.1 hk.1.2))) (zQ (zo Å (t _ hk.2.1 hk.2.2)))) rfl)),rfl])
  subst p2;let#[J2,p3,p4]:=pk (is:=[9,10]) (g:=qW 2 (xg (zC 9) (xg (zC 10) pJ))) (b:=Ĝ2) zA (λ p J=>J=[r9,sA,vP,im Jz,none,none,none,none,im (zA (tG)),none,none]) bb [r9,sA,vP,im Jz,none,none,none,none,im (zA (-1,99)),none,none] rfl (by
   ext Ur
   have hi:=JT;have hlt:(tG).1<x.1/\x.2<(tG).2:=by
    cases hq:p.getLast? with
    | none=>show#[by change (-1:Int)<x.1;lia,by change x.2<(99:Int);lia]
    | some y=>
     have hy:y∈p:=List.mem_of_getLast? hq;have hs:=hg.fO;unfold mr at hs;rw[e,zf2] at hs;show hs.2.2 y hy x zc7
   have dn:∀ {a:Prop} [Decidable a],¬ a->↑(T.bl (Î a))=↑(T.bl Â):=λ h=>by rw[zg7 h]
   exact#[_,pW rfl (zt (yt (pG (zQ (zo Iu (dn (a:=A<x.1) ⋯))) (pG (zQ (zo Iu (dn (a:=B<x.2) ⋯))) (pG (zQ (zo Iu (dn (a:=x.1<=(tG).1) ⋯))) (zQ (zo Iu (dn (a:=(tG).2<=x.2) ⋯)))))) rfl) (zX vU)),?_];rw[List.getLast?_concat];rfl)
  subst p4;subst hb;exact zO (zt Rz (zt (zX (Ķ7 h hl)) (zt (zX hk) (zt (xU rfl p1) (zt (zX (xh rfl ω)) nH))))) rfl;change (zl eW Ë).bind qY=_;rw[zE Ń hlb];rfl
def zaZ Ŧ Ì{a b:Bool}(hf:f J=↑ su) (hg:EU):Ux:=by
 change MP;rw[hf];cases a with
 | true=>show hg
 | Â=>rfl
def nE œ:T:=Á gG
def È3 DB:T:=Á (π nE)
theorem zbN œ Û (hl:Ν<=10000):Œ0 [nE b,ņ]=↑(.bl (E6)):=by
 have hc:į4 [im (nE b),ŀ]=↑(Á (rl MS)):=
  wC zA _ b Iz λ p _=>kx rfl (zaZ Hj Hj)
 exact zO (yD tM) rfl;change (mO (rl MS)).map _=_;rw[Ĩ4];change ↑(T.bl ((rl (oB q)).any id))=_;rw[zeE];rfl
theorem Õ1 DB Ý (h:p<Ĭ):zi (È3 l) (Š)=↑(nE vz):=by
 change ĩ (π nE) Ħ=_;show qR (by rw[zA3,zB1,PV];rfl)
theorem zbo Ê Û ç8:Ō7 Vt=↑(aj (K2)):=by
 have hi:J8=↑(rG):=Fs;have pre:∀ o,_->ĥ6 [ê,ŀ,Bx,none,none]=o:=λ o h=>zt MD (zt MD h);ext Q1
 ext YC
 .have t1:∀ uX (g:F5),g Mb=↑b->wQ (zV (zc wg ű Ľ)) g Mb=↑b:=TN;by_cases h2:Gb<0
  ext Td
  ext Nl
theorem iT {e:zEO}Ì Ψ Sd:xt wI (za e ze) J=↑(JG tQ):=by
 ext U_
def Ä6 Þ ĭ{s:Sl}(h:Ť=↑s):∃ r,uQ=s::r:=by
 have e:=List.head?_filter (l:=F.ss) (p:=ϭ);unfold BD at h;rw[h] at e;cases hf:uQ with
 | nil=>rw[hf] at e;cases e
 | cons a r=>rw[hf] at e;show#[r,by rw[zD5 e]]
def zaB Ê Ý (hl:Fd) Ì:į2 (ê::Ę::J)=↑ OB:=
 jP wZ (ϭ) wZ F.ss Iz λ s _=>#[_,rfl,zQ (zo Τ (Ň5 s.p p)),rfl]
def ù8 K0 (r:sI):yb Â (Á ((s::r).map wZ)) (Á [])=↑ ϖ:=by
 have h:=gu wZ 10 (λ x=>by simp[wZ,dep,xu]) (s::r);unfold yb;rw[Ç #[aK,by simp[dep,xu]]];simp[eqT,qO]
abbrev ls (r:Ó):Ù:=[À r.1,À r.2]
def á7 ĳ:px 2 (vq pu)=↑ XD:=Ţ
def æ8 ĳ:px 2 FZ=↑ Ue:=Ţ
def ă4 ĳ (r:Ó) (z:Int):(ls r).set XD (À z)=ls (xI pu z (yX pu r)):=Ţ
def Ñ1 ĳ (r:Ó) (z:Int):(ls r).set Ue (À z)=ls (xI pu (ya pu r) z):=Ţ
abbrev wo Ê Ý Û ĵ (ss:sI) (r:Ó) (x y:Ŝ):Ev:=[ê,Ę,ŀ,MV,↑(Ð (Á (ls r))),im (Á (ss.map wZ)),x,y]
def ß1 (x:T) (xs:Ù):zi (Á (É2)) (Δ)=↑x:=by change ĩ (É2) 0=↑x;ext EF
def Ç4 Þ ĭ á{k j:Nat}GO(hs:0<=s.gt) (h:A4<=ģ):
  Nh=↑(.nx YE):=by
 ext Tf;have e2:yX s.pu sG=min (GA+j*s.gt) Ja:=lL Ô;have hm:YM:=Ib
 have hm2:tK*s.gt=j*s.gt+s.gt:=Ib
 have hlt:¬ JK<s.gv:=YO
 have en:cy=xI s.pu (JK-s.gv) (min (yX s.pu sG+s.gt) Ja):=by
  rw[e1,e2];unfold qQ;rw[hm,hm2];congr 1 <;> lia
 rw[en];generalize u3=r at *;have a0:∀ r' y,zc DU Hv=↑ GC:=λ r' y=>Yp;have a1:Pg:=zo (y:=sO) rfl Nv Tz;have a2:∀ r' y,zc ϫ Ũ Hv=↑(À s.gv):=Sv;have a3:∀ r' y,zc ϫ (cI 3) Hv=↑(À s.gt):=Sv;have a4:∀ r',zc qX ħ Em (wo ψ r' FW)=↑(À (1-vq s.pu)):=λ r'=>zo Hi;ext aQ;have t1:TX=↑ Â:=zQ (zo a1 (a2 r none) (É š (zg7 hlt)));have v1:zc qX (zc uv Em) (zc ϫ Ũ) (wo ψ r FW)=↑(À (TK)):=zo (zo Å Tz) (a2 r _) rfl;have p1:=Ŕ1 (n:=4) v1 (f:=zb 7) Å (á7 s.pu);rw[ă4] at p1;have hgt:yX s.pu yT=Mf:=lL Ô;have hgv:ya s.pu yT=TK:=nr Ô;have v2:zl m8 (za (zc ye (zc uv Vf) (zc ϫ (cI 3))) (za (zc zi V2 Vf) ze)) (wo ψ yT FW)=↑(À (min (Mf+s.gt) Ja)):=by
  have u1:=zo (f:=zi) (fa:=zb 4) (J:=wo ψ yT FW) rfl (a4 _) (ı7 _ s.pu);rw[hgt] at u1;show zE (zk (zo u1 (a3 Ë) rfl) (zk (zo vK (a4 _) (zaF F s.pu)) rfl)) QH
 have p2:=Ŕ1 (n:=4) v2 (a4 _) rfl (æ8 s.pu);rw[Ñ1,hgv] at p2;show pW rfl (zt (yt (pG t0 t1) rfl) (zt (zX Nv) (zt p1 p2)))
def ą6 Þ{s:Sl}ļ:qQ F s q 0=q:=by
 have h:=(QA).mp hq;unfold qQ;rw[QG,show Wm*s.gt=0 by simp,Int.sub_zero,Int.add_zero,zfZ h.2.2,ő0]
def ă1 Þ ĭ á{k j:Nat}GO(h:¬ A4<=ģ):
  Nh=↑(Dd):=by
 ext Tf;have hm:YM:=Ib
 have hlt:JK<s.gv:=YO
 generalize u3=r at *;have a0:zc DU SY=↑ GC:=Yp;have a1:Pg:=zo (y:=sO) rfl (zo a0 Å) Tz;have a2:zc ϫ Ũ SY=↑(À s.gv):=zo a0 Å;ext aQ;have t1:TX=↑true:=zQ (zo a1 a2 (É š (zg6 hlt)));show pW rfl (x9 (yI (pG t0 t1) rfl))
theorem Ľ9 Þ ĭ á Ĩ GO(hs:rP):∀ (n j:Nat),GN*s.gv<=ģ->
  pd [6,7] J7 ((List.range' j n).map tQ) vE=↑(if ((j+n:Nat):Int)*s.gv<=ģ then .nx (wo ψ (qQ F s q (j+n)) ì) else Dd)
 | 0,j,h=>by rw[Nat.add_zero,Ç h];rfl
 | n+1,j,h=>by
  rw[zfI,zA6,cp];change (turn Ô vE).bind _=_;by_cases hc:A4<=ģ
  .rw[Ç4 hs.2 hc];change pd Ô _ YE=_;have ih:=Ľ9 (F:=F) (k:=k) (p:=p) (ss:=ss) hs n (j+1) hc;rw[show j+1+n=j+(n+1) by lia] at ih;rw[<- ih];cases n <;> rfl
  .rw[ă1 hc];have:A4<=((j+(n+1):Nat):Int)*s.gv:=Int.mul_le_mul_of_nonneg_right ğ;rw[N4];rfl
theorem zbW å ĭ ļ Ĩ(hk:k<=13):Yl [Ġ,Š,ņ,nT k]=↑(aj vT):=by
 have hmin:∀ y,zl m8 (za ű (za (cI 14) ze)) [ê,Ę,ŀ,MV,y,im OB,none,none]=↑ mK:=λ y=>zE Dh (É LK (N4));have fin:∀ r x y,retS (tupS (za (zc uv Ľ) yi)) (wo uP r x y)=↑(.rt (zA r)):=λ r x y=>yD (xh (zk Ŀ (zk Τ)) ω);have hl:pd [6,7] J7 ((Ñ k).map tQ) (wo uP q ì)=↑(match vT with | Dr=>.nx (wo uP r ì) | none=>Dd):=by
  unfold wx;cases hs:Ť with
  | none=>
   have hf:uQ=[]:=by
    unfold BD at hs;rw[zeR] at hs;show List.filter_eq_nil_iff.mpr hs
   rw[hf];cases k with
   | zero=>rfl
   | succ k=>
    rw[T4,zfI,zA6,cp];change (turn Ô Tw).bind _=_;have t0:zV Oc (wo M9 (im (nT 0)) none)=↑true:=zQ Ŀ;rw[show turn J7 (nT 0) Tw=↑(Dd) from pW rfl (x9 (yI (Ī1 t0) rfl))];rfl
  | some s=>
   let#[rest,hf]:=Ä6 hs;ext aR;have hgv:ģ<20:=by
    have:Λ<=12:=Th
    lia
   ext Ĵ;rw[hf,Ŗ8 QM hgv,T4];have h0:=Ľ9 (F:=F) (p:=p) (q:=q) (k:=k) (ss:=rest) hs' k 0 (by rw[QG];show hb.1.1);rw[ą6 hq,zdQ] at h0;rw[h0];split <;> rfl
 have pre:∀ o,_->Ł8 [ê,Ę,ŀ,MV,none,none,none,none]=o:=λ o h=>zt (ZN rfl) (zt (zX (zaB F p ok.s8)) h);cases e:vT with
 | none=>rw[e] at hl;show zO (pre _ (x9 Us)) rfl
 | some r=>rw[e] at hl;show zO (pre _ (zt Us (fin r ì))) rfl
theorem Ĳ1 ĵ:(∀ c∈ IV,48<=c/\c<=57)/\tT:=by
 have e:IV=(Nat.toDigits 10 k).map Char.toNat:=PySem.W.KIN.signs_num k;rw[e];exact#[EH,λ h=>?_]
 .let#[ch,h1,rfl]:=â hc;have h2:=Nat.isDigit_of_mem_toDigits ś h1;simp![Char.isDigit,zE5,Ķ] at h2;show#[h2.1,h2.2]
 .have h1:=toDigits_len_ge 10 k;rw[List.map_eq_nil_iff.mp h] at h1;show ã h1 ()
theorem î3 Ĩ RS:((["ever","0",""]:Ø).any Tv)=Â:=by
 rw[zeZ];intro s hs;rw[Ķ];intro e;subst e;rcases Ş hs with z | hs
 .have h1:=(Ĳ1 k).1 101 Q5;lia
 .rcases Ş hs with z | hs
  .have h1:=Gz (n:=Í) ğ;have h2:=Gz (n:=0) ğ;have z':Ř=num 0:=z.trans ();have e:vy (Ř)=vy (num 0):=É _ z';have h3:↑ Í=↑0:=h1.symm.trans (e.trans h2);have h4:=zD5 h3;lia
  .have z:=Œ hs;show (Ĳ1 k).2 Q5
theorem aN ĸ(f:uz) (h:∀ x,Ż (f x)=true):∀ xs:ő,pF (BK f)=true
 | []=>rfl
 | É2=>by change (Ż (f x)&&pF (BK f))=true;rw[h x,aN f h xs];rfl
def dH Ê:Ż ϊ=true:=by
 change (Ż (GV)&&(pF L_&&(pF Vo&&(pF VM&&true))))=true;rw[aN kt (λ b=>Mx),aN wW (à),aN wZ (à)];rfl
def Ņ8 uX:PM:=by
 cases b <;> rfl
theorem ă0 å ĭ{q r:Ó}(hq:Ω) Ĩ(h:vT=↑r):k<=12:=by
 unfold wx at h;cases hs:Ť with
 | none=>
  rw[hs] at h;cases k with
  | zero=>lia
  | succ k=>cases h
 | some s=>
  rw[hs] at h;ext aR;have hbr:Λ<=12:=Th
  dsimp only at h;rw[Ŗ8 QM ⋯] at h;split at h
  .rename_i hc;have h1:Í*1<=Jh:=Int.mul_le_mul_of_nonneg_left hs'.1 ⋯;lia
  .cases h
def eZ Ê (p k:Nat):Bool:=match IZ with
 | some w=>Dm
 | none=>Â
def ž9 Ê Ý:ç:=(Ñ ŗ).filter (eZ F p)
def ĝ1 Þ{p k:Nat}(h:k∈ Ee):∃ w,IZ=↑w/\ο:=by
 let#[_,h2]:=ž h;unfold eZ at h2;split at h2
 .rename_i w e;show#[w,e,tH h2]
 .cases h2
def ņ2 Þ{p k:Nat}rb(h:IZ=↑w) (hf:ο):k∈ Ee:=by
 exact K9 #[JY (zA2.mp h).1,?_];unfold eZ;rw[h];show zg6 hf
def ĳ9 Þ ĭ(hl:ŗ<=60) (f:zEO) (out:Nat->T) Bw Ì{fi:Nat}(h0:zb fi J=↑ ϊ) (hpk:∀ k:Nat,(zC 0) mK GJ=↑ TJ) (hf:∀ k:Nat,k<ŗ->f TJ=↑(out k)):
  xb pick (xt wI (za (zl xS (za (zc zi (zb fi) Ũ) ze)) ze)) (zC 0) (zV (zc ϙ (zc zi (zc zi (zc É0 Ũ) í) Ľ) qk)) f J=↑(Á (ϰ out)):=by
 exact jP (tQ) (eZ F p) out (Ñ ŗ) (iT ⋯ (yY (zo h0 rfl (Œ8 F)) (ĵ5 wW F.ws))) M5;have hk':=AK;have hw:IZ=↑F.ws[k]:=zA1 hk';have hi:zi (È Vo) mK=↑(wW F.ws[k]):=Fs;exact#[_,hpk k,zQ (zo (zo vH) ϛ),hf k hk'];unfold eZ;rw[hw];show Ň5 (F.ws[k]).f p
def Ð9 Ĩ(h:k<=100000):ky [Ä (Ř)]=↑ mK:=
 (Ç (zE0 (PySem.W.KT.len_num (n:=Í) ğ) ())).trans (by rw[show vy (Ř)=↑ Í from Gz ğ];rfl)
def Ų9 {S:zLO}{f y:T}Hl(h:S (Dk f::xs)=↑y):kC S (Dk f::xs)=↑y:=h
section
variable {å}{EN}{qG}{ŏ}(hw9:ŗ<=13)
include ok hr R hp hw9
theorem zaV (hk:u6) ļ Ĩ(hd:JU):∃ (i:Nat) (w:Wy),bL [E4]=↑ sP/\GD:=by
 let#[o,h1,_,h3]:=zbE sv hk;let#[i,w,rfl,h4,h5,h6]:=h3 k hd;have hi:i<ŗ:=X7;have ho:OO=↑(kt Â):=by rw[<- hk];show ı0 hp
 have ht:ř2 T7=↑(nT i):=zO (zt vg (zt NI (zt (yt (zQ (zo WD (Ņ8 Â))) rfl) (yD (zE (zk rfl (zk rfl (zk rfl (zk vM)))) h1))))) rfl;have hc:Ŗ3 [nT i]=↑ sP:=zO S9 rfl;show#[i,w,zO (yD (yY (zE (zk rfl Av) ht) hc)) rfl,h4,h5,h6]
end
def Zb Ŧ Ì QP (h:0<j):zc xR ō=↑(À (i%j)):=zo υ (AF)
def ŧ7 Ŧ Ì QP (h:pS i j):zc vi ō=↑(À (i/j)):=zo υ (AF)
def Ź5 K_:Wy:=#[Tx,(sd 1 0).toNat,sd 2 0,sd 3 0]
def dF K_:Sl:=#[Tx,Î (sd 1 0=1),sd 2 0,sd 3 0]
def Fl EL:zB:=#[x,y,Ő (qe),Ł Ź5,Ĳ dF]
theorem ĸ8:∀ {ns:ë},pV ns=true->ns.Pairwise (· < ·)
 | [],_=>.nil
 | [a],_=>#[]
 | KU,h=>by
  ext CE
  have ih:=ĸ8 h'.2;exact zd6.mpr #[EH,ih];rcases Ş hc with rfl | hc
  .show tH h'.1
  .show Int.lt_trans (tH h'.1) ((u0 ih).1 c hc)
section
variable {Ϫ}{many:Nat}
def č0 (h:(Ő Ò).all md=true):KL:=λ s hs=>by
 have:=GW h (Ä s) (Ś #[s,hs,rfl]);show Ō5 (show lF s=true from this)
theorem ä4 (ho:KL) BS:z_.zF Jr=zF (GK):=by
 have e1:Ő Ò=(Ő (qe)).map kt:=by
  rw[zD6];exact zd9 λ s hs=>?_;rcases ho s hs with rfl | rfl <;> rfl
 have e2:Ł zN=(Ł Ź5).map wW:=by
  ext Li;ext eF;change ń Jf=È [À (t5:Int),À (b.toNat:Int),À c,À d];rw[zF2 h1.1,zF2 h2.1]
 have e3:Ĳ zN=(Ĳ dF).map wZ:=by
  ext Li;let#[a,b,c,d,rfl,h1,h2,_]:=Kf;change ń Jf=È [À (t5:Int),À (vq (Î (b=1))),À c,À d];rw[zF2 h1.1];have hb:Ka:=⋯;rcases hb with rfl | rfl <;> rfl
 unfold z_.zF zF Fl;ext Ĵ;rw[e1,e2,e3];rfl
def Í4 O6 (h1:1<=many) (h3:many<=3) BS MH:(GK).Ok where
 a0:=hx.1
 a1:=by change x<=12;lia
 b0:=hy.1
 b1:=by change y<=12;lia
 n1:=by change 1<=IM;ext tS
 n8:=by change IM<=8;ext tS
 ws:=λ w h=>by
  ext fw;ext eF;change t5<IM/\b.toNat<IM;ext tS
 nS:=by change We<=60;ext tS
 ss:=λ s h=>by
  ext fw;let#[a,b,c,d,rfl,_,_,h3,h4,_]:=Kf;show#[h3.1,h4.1]
 sl:=Ļ #[by change x<=8;lia,by change y<=8;lia]
 s8:=by change (Ĳ _).length<=60;ext tS
def È4 (hn:FF) (hw:Zi) (hg:∀ k:Nat,yW->∃ r∈ws,Ã4=Í):∀ p<(GK).os.length,∃ w∈(GK).ws,ο:=λ p hp=>by
 have hp':p<(Ő qe).length:=hp;rw[zA7] at hp';let#[r,hr,e]:=hg p ⋯;exact#[Ź5 r,AN,?_];change (Ã4).toNat=p;rw[e];rfl
def ä1 R9 (hu:qv):(GK).ss.Pairwise N9:=by
 have h:=ĸ8 hu;rw[zdW] at h;change (Ĳ dF).Pairwise _;rw[zdW];exact Ag (λ{r s} hr hs hlt=>?_) h;let#[a,b,c,d,rfl,h1,_]:=Kf;let#[a',b',c',d',rfl,h2,_]:=hq s hs;have hlt:a<a':=hlt;change t5 ≠a'.toNat;lia
def ô6 (ho:KL) O6 (h3:many<=3) BS MH:kJ Jr where
 x:=ī
 y:=ī
 o:=λ p hp=>by rcases ho Ö with rfl | rfl <;> decide
 w:=λ r hr=>by
  let#[a,b,c,d,rfl,h1,h2,h3,h4]:=hw ş;show#[a,b,c,d,rfl,ī,ī,ī,ī]
 q:=λ r hr=>by
  let#[a,b,c,d,rfl,h1,h2,h3,h4,_]:=Kf;rw[zA7] at h1;show#[a,b,c,d,rfl,ī,⋯,ī,ī]
 ln:=⋯
end
theorem ġ8:∀ F9,Ll->∃ ps:Ø,os=IT Ò
 | [],_=>#[[],rfl]
 | t::os,h=>by
  rw[zdX,zE5] at h;let#[ps,rfl]:=ġ8 os h.2;cases t with
  | str s=>show#[s::ps,rfl]
  | _=>cases h.1
def kU (b x:Nat):ß:=(Ñ b).map λ y:Nat=>(Ke,ź)
def m6 (a b:Nat):ß:=(Ñ a).flatMap (kU b)
theorem ê6 JH á:q∈ MY ↔(F6/\q.1<a)/\Rb/\q.2<b:=by
 unfold m6 kU;simp![zdA,zB0,zC1];ext ï
 .rintro⟨x,hx,y,hy,rfl⟩;ext Ĵ;lia
 .intro h;show#[q.1.toNat,⋯,q.2.toNat,⋯,by ext fV]
def J2 (b x:Nat):(kU b x).length=b:=by unfold kU;simp
theorem HJ (b:Nat):∀ l:ç,(FX (kU b)).length=Ĭ*b
 | []=>#[]
 | x::l=>by rw[zdM,zD7,J2,HJ b l,zC0,zfN];lia
def PQ (n a b:Nat):List (Nat× Ó):=(Ñ n).flatMap NP
def zbf (n a b:Nat):(PQ n a b).length=n*(a*b):=by
 have:∀ l:ç,(FX NP).length=Ĭ*(a*b):=by
  intro l
  induction l with
  | nil=>simp
  | cons x l ih=>rw[zdM,zD7,zA7,ih,zC0,zfN];unfold m6;rw[HJ,zC5];lia
 unfold PQ;rw[this,zC5]
def ZS {n a b p:Nat}á:PH ∈PQ n a b↔p<n/\q∈ MY:=by
 unfold PQ;simp![zdA,zB0,zC1,gE];ext ï
 .rintro⟨x,hx,y,hy,rfl,rfl⟩;show#[hx,hy]
 .ext Ki;show#[p,h1,q,h2,rfl,rfl]
def Β4 Þ JH vN á:q∈ MY ↔ Ω:=by
 rw[ê6];unfold xo;lia
theorem Ł9 å {m a b:Nat}vN (hg:∀ k,k<=m->∀ c∈ ū,Gd ŉ c) (hne:∀ j<m,tY):
  ∀ k,k<=m->qE+k<=AE
 | 0,_=>by rw[<- zbf];show W9
 | k+1,hk=>by
  have ih:=Ł9 ok Ϧ hg hne k ⋯;have:Gu (λ x=>KZ)<qE:=by
   have hnk:=hne k ⋯;have hp:∃ p<Ï,uG é ≠ Lk:=by
    exact Kz λ z=>hnk (zdV Hh u7);have hi:i<Ï:=by rw[mC] at h2;show h2
    have:=Kz λ y=>z #[i,hi,y];rw[zB1,zA1 h1,zB1,zA1 h2] at this;show this
   let#[p,hp,e]:=hp;have gd:∀ j,j<=m->Gd ŉ ((zD F j).getD é):=λ j hj=>hg j hj _ (sZ (OQ));have g1:=gd ũ hk;have g2:=gd k ⋯;have cl:=Zm ok k Ö;have le:∀ x∈ A6,KZ=true->ra=true:=λ x hx=>Zm ok k x.1 (ZS.mp (show (x.1,x.2)∈_ from hx)).1 x.2;by_cases x:∃ r∈ Lk,zU LR r=Â
   .let#[r,hr,e2]:=x;have q:=g2.xf ş;have hm:(p,r)∈ A6:=ZS.mpr #[hp,(Β4 Ϧ).mpr q];have h2:Gu (λ x=>KZ&&ra)<qE:=
     ų7 (λ x h=>(Bool.and_eq_true_iff.mp h).2) #[(p,r),hm,xv.mpr #[r,hr,ϟ,ϟ],by ext Ĵ;rw[e2];rfl]
    exact zdU (Yw λ x hx h=>?_) h2;show Bool.and_eq_true_iff.mpr #[h,le x hx h]
   .show ã (g1.eq g2 cl (xx.of λ r hr=>by
     cases e2:zU LR r with
     | true=>show u4 e2
     | Â=>show ã #[r,hr,e2] x)) e
  lia
theorem ď8 å JH vN (gw:Ql) (pw:B0):∃ m,m<=AE/\NG/\Ż4 İ:=by
 let#[more,hr,hn,hmo,hR]:=zbx ok;have n1:=ok.n1;have hne:Ñ Ï ≠[]:=λ h=>by
  have h2:=É ό h;rw[zC5] at h2;rw[h2] at n1;show ã n1 ()
 let#[m,e,hst,hns]:=ķ2 ok gw 2000 [] 0 rj _ uZ hne rfl hR ľ;have ht:Hy=Ž:=e;rw[ht] at hr hn;have hgk:bZ:=λ k hk=>(hn (ū) (Ś #[k,Aq,rfl])).2;have:=Ł9 ok Ϧ hgk hns m tV;show#[m,⋯,hr,ó1 ok pw (hgk m (Α)) hst,hgk]
section
variable {å}{EN}{AV}
def gt (o:ŧ) ĵ:Prop:=∀ j,o=↑j->k<j
abbrev œ9 Ê BU Û:ŧ:=Η
theorem ş7 Lx ŏ á Ĩ Jd:pv=true↔gt (ŕ) k:=by
 ext ï
 .intro h j e;have h1:=kB e;exact Kz λ z=>?_;have hle:=Ń9 ok j (k-j) Ö q;rw[show j+(k-j)=k by lia,h,h1.2] at hle;show ã (hle rfl) ()
 .intro h;cases e:pv with
  | true=>rfl
  | Â=>
   let#[j,hj,e2]:=Ĳ3 hk e;have:=h j e2;lia
def pL Ê QX (r:Ó) (w:Wy):ŧ:=match Jx with
 | none=>↑0
 | some x=>œ9 İ w.t x
def gf Lx {r:Ó}rb(hw:w∈F.ws) Ĩ Jd:pY BI r w=true↔gt (Jm) k:=by
 unfold pY pL;cases e:Jx with
 | none=>show#[(λ h=>nomatch h),λ h=>ã (h 0 rfl) (Nat.not_lt_zero _)]
 | some x=>show ş7 ok Ua hk
def Ľ7 {r:Ó}rb{j:Nat}(h:Jm=↑j):j<=m:=by
 unfold pL at h;cases e:Jx with
 | none=>rw[e] at h;cases h;show Ϟ
 | some x=>rw[e] at h;show (kB h).1
def ń1 {o:ŧ}(ho:∀ j,o=↑j->j<=m) (h:gt o m):o=none:=by
 cases o with
 | none=>rfl
 | some j=>have:=h j rfl;have:=ho j rfl;lia
def ŧ1 {o:ŧ}Ĩ(h:¬ gt o k):RK:=by
 cases o with
 | none=>show ã (λ _ z=>by cases z) h
 | some j=>show#[j,rfl,Nat.le_of_not_lt λ z=>h λ i e=>by cases e;show z]
include R in
theorem ĺ9 ŏ ļ Ĩ Jd:zU LR q=lM BI p q:=by
 rw[show uG é=rM from Tj];show ņ0 R.fx.ok (R.cJ hk) p hq
theorem kO ĭ rb:w∈ Ů ↔w∈F.ws/\ο:=by
 unfold Ň6;rw[zC8,Ķ]
include ok R
variable {ŏ}{ļ}
include hp hq
theorem ę6 (ho:â5) (hd:ŕ=none):∃ r∈ Κ,∃ w∈ Ů,Jm=none:=by
 ext jB;rw[Ç ho] at h;let#[r,h1,h2]:=El h.symm;let#[w,h3,h4]:=El h2;show#[r,h1,w,h3,ń1 (λ j=>Ľ7) ((gf ok (kO.mp h3).1 tV).mp h4)]
theorem È8 (ho:â5) Ĩ(hd:ŕ=↑ ũ):(mU)/\(k=0\/∃ r∈ Κ,∃ w∈ Ů,Jm=↑k):=by
 ext T_;rw[Ç ho] at h2;have all:mU:=λ r hr w hw=>ŧ1 λ z=>by
  have h3:=(JW).mpr z;rw[ϗ #[r,hr,ϗ #[w,hw,h3]]] at h2;cases h2
 exact#[all,?_];cases k with
 | zero=>show ð rfl
 | succ k=>
  ext O4
  ext T5;rw[Ç ho] at h3;let#[r,h4,h5]:=El h3;let#[w,h6,h7]:=El h5;let#[j,e,hj]:=all r h4 w h6;have:=(gf ok (kO.mp h6).1 Ga).mp h7 j e;show Ļ #[r,h4,w,h6,by rw[e];congr 1;lia]
theorem ù0 (ho:u6) (hd:ŕ=none):∀ w∈ Ů,Ge=none:=λ w hw=>by
 ext jB;rw[Bv] at h;show ń1 (λ j=>Ľ7) ((gf ok (EO).1 tV).mp (GW h.symm w hw))
theorem Ď1 (ho:u6) Ĩ(hd:ŕ=↑ ũ):(UO)/\∃ w∈ Ů,Ge=↑k:=by
 ext T_;rw[Bv] at h2;have all:UO:=λ w hw j e=>by
  cases k with
  | zero=>show Ϟ
  | succ k=>
   ext O4
   ext T5;rw[Bv] at h3;show (JW).mp (GW h3 w hw) j e
 exact#[all,?_];let#[w,hw,h3]:=List.all_eq_false.mp h2;let#[j,e,hj]:=ŧ1 λ z=>h3 ((JW).mpr z);show#[w,hw,by rw[e];congr 1;have:=all w hw j e;lia]
end
def oI (o:ŧ):Ĥ:=o.map λ k=>Í
abbrev kN Ý Û:NK:=(Ħ,[q.1,q.2])
abbrev eN Ê BU Û:NK× Ĥ:=(FJ,oI (ŕ))
theorem ŉ9 {p p':Nat}{q q':Ó}(h:FJ=kN p' q'):p=p'/\q=q':=by
 simp![kN,gE,List.cons.injEq,and_true] at h;show#[⋯,Prod.ext h.2.1 h.2.2]
def Ò4 Β{k:NK}Hx:oQ l k=none:=by
 unfold oQ;rw[zeR.mpr λ x hx=>by rw[Ķ];show Ñ7];rfl
def ķ9 Β{k:NK}{v:Ĥ}(h1:∃ e∈l,e.1=k) (h2:∀ e∈l,e.1=k->e.2=v):oQ l k=↑v:=by
 unfold oQ;cases e:l.find? λ x=>Î (x.1=k) with
 | none=>
  let#[x,hx,hk]:=h1;show ã (zg6 hk) (zeR.mp e x hx)
 | some x=>show É some (h2 x (zdL e) (tH (zg0 (p:=λ x:NK× Ĥ=>Î (x.1=k)) e)))
def Ö8 Β{k:NK}{v:Ĥ}Hx:stN l k v=l++[(k,v)]:=by
 unfold stN;rw[Ò4 h]
theorem Þ1 Β{k:NK}{u v:Ĥ}Hx:stN ND k v=l++[(k,v)]:=by
 have e:oQ ND k=↑u:=ķ9 #[(k,u),#[],rfl] λ e he hk=>by
  rcases Ű he with z | z
  .show ã hk (h e z)
  .rw[Œ z]
 unfold stN;rw[e];ext Ĵ;rw[zE7,zd9 (g:=id) (λ x hx=>by rw[Ü (Ñ7)];rfl),ze9];simp
theorem Ħ4 ż Ŧ Ì{y z:T}{k:NK}Β{n:Ĥ}(hg:g J=↑z) FI (hk:gi y=↑k) (hn:L5.oT z=↑n) (hl:J[i]?=↑↑(Ð (.xm l))) (hz:Ĭ<=100000):f7 i ō=↑(.nx (ϝ i ↑(Ð (.xm (stN l k n))))):=by
 unfold f7;rw[hg,zC9,h,zC9,hk,zC9,hn,zC9,hl];show Ç (zdU hz ())
def ň2 ż Ĺ Ì Ϩ{k:NK}Β{v:Ĥ}FI (hk:gi y=↑k) (hl:a_ J i=↑l) (hv:oQ l k=↑v):iZ i f J=↑(tO v):=by
 unfold iZ;rw[h,zC9,hk,zC9,hl,zC9,hv];rfl
abbrev kw:Ø:=(Ñ 199).map λ Ŭ=>num (1+Í)
abbrev wq Ê (l:NL) (a b c d:Ŝ) (K:T):Ev:=[yR,ê,↑(Ð (.xm l)),im K,a,b,c,d]
def Kw (K:T):Prop:=∀ k:Nat,k≠0->k<=199->wO true Az K=↑ ϖ
theorem Ã9 {K:T}Þ Β{p x y:Nat}(hp:p<=8) pD:xF Pp uY=↑(RC):=by
 have s1:=MO;have s2:=nk (n:=Ke) ī;have s3:=nk (n:=ź) ī;have z1:=E9;have z2:=(vd (jF (n:=Ke) ğ)).1;have z3:=(vd (jF (n:=ź) ğ)).1;have e:("lasts fa":Str).length=8:=()
 have hl:xc zR uY=↑(Á ((r_:Ø).map Ò)):=
  cn (zk rfl (zk (yY rfl s1) (zk (yY rfl s2) (zk (yY rfl s3) rfl)))) qB
 exact oP wL (cx (ps:=r_) () ?_);ext AW
def Ü0 Ĩ RS:(Ř == ("ever":Str))=Â:=by
 have h0:=î3 h hk;rw[zeZ] at h0;have h1:=h0 "ever" zc7;rw[Ķ] at h1;show Ij λ z=>h1 z.symm
section
variable {K:T}{å}{sr}{qG}
include ok hm hr R
theorem ò2 ŏ ļ tF(hx:q.1=x) (hy:q.2=y):nR [Ϥ,Ä (Õ " " ["lasts fa",num Ħ,uM,Dp])]=↑(Ä (Ŗ0 (ŕ))):=by
 ext u9;have hk:=qw;rw[<- hx,<- hy];show Ê7 (dH F) ī #[hk.1.1,by have:=hk.1.2;lia] #[hk.2.1,by have:=hk.2.2;lia] (zaX ok ⋯ hr sv)
theorem ß5 (hK:Kw K) {p x y:Nat}Qo (hq:xo F (Ke,ź)) Β(hk:∀ e∈l,e.1≠ Ks) (hl:Ĭ<=10000):∃ d,ŵ9 uY=↑(.nx (wq F (l++[eN Θ BL]) KO d K)):=by
 ext u9;ext xw;have hx:Ke<=F.A:=hq.1.2;have hy:ź<=F.B:=hq.2.2;have hj:=Ã9 (K:=K) (F:=F) (l:=l) (p:=p) LY ğ ⋯;have hs:=ò2 ok hm hr sv (x:=Ke) (y:=ź) Å;have hz:kC nR [Ϥ,RC]=↑ S8:=Ų9 hs;have hsay:ju (kC nR) (za í (za (xF Pp) ze)) uY=↑ S8:=
  bg (zk Kn (zk hj rfl)) hz rfl
 have key:∀ l d,tupS U3 (t6)=↑ SM:=λ l d=>xh Av ω;have kt:gi SM=↑(Ks):=rfl;have put1:∀ d,f7 2 (tupS U3) Ec (t6)=↑(.nx (wq Xs d K)):=λ d=>by
  have:=Ħ4 (i:=2) (g:=cS .zx) (J:=t6) rfl (key l d) kt (n:=none) Å ⋯;rw[Ö8 hk] at this;show this
 cases hd:rX with
 | none=>
  rw[hd] at hsay;exact#[im (Ä "ever"),zt (zX hsay) (zt (yt (ě7 UD) rfl) (zt (put1 _) (yt UD ?_)))];change ku;rw[hd];rfl
 | some k=>
  rw[hd] at hsay;ext WJ;have ne:=Ü0 k0 ⋯;have hin:=hK k k0 ⋯;have ne':∀ l,zV (zc sC Em (cS (Ä "ever"))) (wq F l KO (im Az) K)=↑true:=λ l=>zQ (zo Å (La (by rw[ne];rfl)));have put2:=Ħ4 (i:=2) (g:=zl ky (za Em ze)) (J:=wq Xs (im Az) K) SW (key Ë) kt (n:=↑ Í) Å (by rw[zD7,List.length_singleton];lia);rw[Þ1 hk] at put2;exact#[im Az,zt (zX hsay) (zt (yt (ť8 (ne' l) (zQ (zo Å hin))) rfl) (zt (put1 _) (yI (ne' _) ?_)))];change ku;rw[hd];show put2
variable {JH}{vN}
include hb
theorem Ċ9 (hK:Kw K) {p x:Nat}Qo (hx:Ke<=F.A) Β(hk:∀ y<b,∀ e∈l,e.1≠kN p (x,ź)) (hl:Ĭ<=5000) (c d:Ŝ):∃ c' d',ŉ2 A0=↑(.nx (wq F (l++(kU b x).map (eN Θ)) Kb c' d' K)):=by
 have b1:=JJ;let#[J,h1,h2]:=pk Sf (b:=ŵ9) (Ba) (λ ys J=>J=wq F (nC) Kb ì K) (Ñ b) A0 (by change wq F l Ë ì K=_;rw[zd0,zd1]) (by
  rintro ys y r e J rfl;have hy:y<b:=sM;have nd:(Ñ b).Nodup:=zeC;rw[e,zeT] at nd;let#[d,h]:=ß5 Ab hK hp LY #[#[⋯,hx],by change 0<=ź;lia,by change ź<=F.B;lia] (l:=nC) (λ z hz=>by
   ext Wo
   .show hk y hy z z1
   .let#[y',hy',rfl]:=â z1;intro z2;have z3:=(aH).2;show nd.2.2 y' hy' y zc7 ⋯) (by
   ext K3;rw[zD7,zA7];lia)
  exact LI;rw[zE7,<- zE8];rfl)
 subst h2;have hrng:xt wI (za (zc ye (zc zi (zc É0 Ľ) ħ) ħ) ze) A0=↑((Ñ b).map Ba):=
  iT ⋯ (zo Ha (É LK hb.symm))
 exact#[none,none,(xU hrng h1).trans ?_];unfold kU;rw[zD6];rfl
include ha
theorem À2 (hK:Kw K) ŏ Β(hk:∀ q,∀ e∈l,e.1≠ FJ) (hl:Ĭ<=3000) (c1 c2 c3:Ŝ):∃ d1 d2 d3,Ŋ9 En=↑(.nx (wq F (l++Vq) (Ę) d1 d2 d3 K)):=by
 ext xw;let#[J,h1,h2]:=pk (is:=[5,6,7]) (g:=zC 5) (b:=ŉ2) (λ x:Nat=>nT x) (λ xs J=>J=wq F (Ro) (Ę) Ez K) (Ñ a) En (by change wq F l _ Ez K=_;rw[zfO,zd0,zd1]) (by
  rintro xs x r e J rfl;have hx:x<a:=sM;have nd:(Ñ a).Nodup:=zeC;rw[e,zeT] at nd;have hxs:ϓ<=a:=by
   ext K3;lia
  let#[c,d,h]:=Ċ9 Ab hb hK hp (x:=x) ⋯ (l:=Ro) (λ y hy z hz=>by
   ext Wo
   .show hk _ z z1
   .let#[q,hq,rfl]:=â z1;let#[x',hx',hq']:=zdA.mp hq;let#[y',_,rfl]:=â hq';intro z2;have z3:=(aH).1;show nd.2.2 x' hx' x zc7 ⋯) (by
   rw[zD7,zA7,HJ];have:ϓ*b<=13*13:=zeX ğ;lia) ì
  exact LI;rw[zfM,zE7,<- zE8];ext G6;rfl)
 subst h2;have hrng:xt wI (za (zc ye (zc zi (zc É0 Ľ) Ľ) ħ) ze) En=↑((Ñ a).map Ba):=
  iT ⋯ (zo Ha (É LK ha.symm))
 show#[none,none,none,xU hrng h1]
def ő8 Ê (m a b:Nat):NL:=(A6).map λ x=>eN İ x.1 x.2
theorem zbm:Yi [Ϥ,Ġ]=↑(.dn (Jv)):=by
 have hK:Kw (Á EE):=λ k k0 hk=>by
  exact Il ?_;rw[show (kw.any Tv)=true from ϗ #[_,Ś #[k-1,Aq,rfl],zg6 (by change num (1+((k-1:Nat):Int))=Ř;congr 1;lia)]];rfl
 have hc:ŀ7 [yR,ê,↑(Ð (.xm [])),none,none,none,none,none]=↑(Á EE):=by
  rw[zD6];exact wC (λ k:Nat=>Ú (1+Í)) _ (Ñ 199) Ϝ Gw;have hk':=AK;show kx rfl (fS)
 generalize ϣ EE=K at *;ext u9;ext xw;let#[J,h1,h2]:=pk U9 (b:=Ŋ9) (λ p:Nat=>Š) (λ ps J=>J=wq F (Ry) ì ì K) rj (wq F [] ì ì K) rfl (by
  ext Sh;have nd:(Ñ Ï).Nodup:=zeC;rw[e,zeT] at nd;have hps:ı<=8:=by
   ext K3;lia
  have hlen:∀ l:ç,(FX λ p=>Vq).length<=Ĭ*169:=by
   intro l
   induction l with
   | nil=>simp
   | cons x l ih=>
    rw[zdM,zD7,zA7,zC0,zfN];have e:(MY).length=a*b:=by unfold m6;rw[HJ,zC5]
    rw[e];have:a*b<=13*13:=zeX ğ;lia
  let#[c1,c2,c3,h]:=À2 Ab Ϧ hK hp (l:=Ry) (λ q z hz=>by
   let#[p',hp',hz]:=zdA.mp hz;let#[q',_,rfl]:=â hz;intro z2;have z3:=(ŉ9 z2).1;show nd.2.2 p' hp' p zc7 z3) (by have:=hlen ps;lia) Ez
  exact LI;rw[zfM];ext G6;rfl)
 subst h2;exact zO (zt rfl (zt (zX hc) (zt (xU (iT ⋯ (yY UN (ĵ5 kt F.os))) h1) ?_))) rfl;change retS (zr 2) _=_;exact yD ?_;unfold ő8 PQ;rw[List.map_flatMap];simp![zD6];rfl
end
def Ę0 Þ{ok:F.Ok}{q r:Ó}rb(h:K2=↑r):xo F r:=by
 have a0:=v7;have b0:=ok.b0;unfold mw at h;split at h
 .cases h
 .cases h;unfold xo;ext Ĵ;lia
def Ù2 {vs:ë}{M:Int}(h:jK vs=↑M):cj OH=↑(À M):=by
 ext NQ
def ô3 {vs:ë}{M:Int}(h:jJ vs=↑M):d_ OH=↑(À M):=by
 ext NQ
def Ē5 (o:Ĥ):dep (tO o)<=1:=by cases o <;> simp[tO,dep]
theorem ģ1 (os:ř) Fe:wO neg Zj=↑(.bl (cond neg (!(Dg)) (Dg))):=by
 have hd:=YL;have ha:((Ő tO).any λ t=>eqT t .zx)=Dg:=by
  rw[zeE];congr 1;funext o;cases o <;> rfl
 unfold wO;change (if dep .zx<=60/\xu (Ő tO)<=60 then _ else _)=_;rw[Ç #[GL,⋯],ha]
def ĸ9 ã3(h:∀ o∈os,o≠none):Ő tO=(Gn).map Ú:=by
 induction os with
 | nil=>rfl
 | cons o os ih=>
  have:=TU;cases o with
  | none=>show ã rfl (h none zc7)
  | some n=>change tO ↑n::Ő tO=Ú n::(Gn).map Ú;rw[this];rfl
def Zc ã3{v:Int}:v∈ Gn ↔ Jc:=by
 rw[zeY];show#[λ#[o,h1,h2]=>by rw[<- show o=↑v from h2];show h1,λ h=>#[_,h,rfl]]
def Ø5 Pf (h2:∀ o∈os,RK):cj [Gp]=↑ Ρ:=by
 rw[ĸ9 λ o ho=>by let#[j,rfl,_]:=h2 o ho;show ľ];exact Ù2 ?_;cases e:jK (Gn) with
 | none=>have:=Zc.mpr h1;rw[Ļ6 e] at this;cases this
 | some M=>
  let#[m1,m2]:=Ţ7 e;have a:=m2 k (Zc.mpr h1);let#[j,hj,hle]:=h2 _ (Zc.mp m1);cases hj;congr 1;lia
theorem Ð4 Pf (h2:∀ j,↑j∈os->k<=j):d_ [Su]=↑ Ρ:=by
 have hf:∀ o,o∈ E_->o≠none:=λ o ho z=>by subst z;show ã (ž ho).2 ()
 rw[ĸ9 hf];exact ô3 ?_;have mm:∀ v,v∈ UY ↔ Jc:=λ v=>Zc.trans #[λ h=>(ž h).1,λ h=>K9 #[h,rfl]];cases e:jJ (UY) with
 | none=>have:=pE;rw[ĺ8 e] at this;cases this
 | some M=>
  let#[m1,m2]:=Ŏ9 e;have a:=m2 k (pE);have b:=h2 M ((mm M).mp m1);congr 1;lia
def Tb Ê QX (tb:NL):Prop:=∀ p<Ï,∀ q,Ω->oQ tb (FJ)=↑(oI (ŕ))
def Ù0 Þ{m a b:Nat}vN:Tb İ (Jv):=λ p hp q hq=>by
 exact ķ9 #[eN Ϯ,Ś #[PH,ZS.mpr #[hp,(Β4 Ϧ).mpr hq],rfl],rfl] λ e he hk=>?_;let#[x,_,rfl]:=â he;let#[h1,h2]:=ŉ9 hk;rw[<- h1,<- h2]
def jN Ê QX (r:Ó) (i:Nat):Ĥ:=match F.ws[i]? with
 | some w=>MU
 | none=>none
def LL Ê BU Û (ts:ç):ř:=ts.flatMap λ t=>match uO with
 | Dr=>ϰ (jN İ r)
 | none=>[]
theorem zbh å {m p:Nat}ļ {v:Ĥ}:cF:=by
 unfold LL;rw[zdA];ext ï
 .rintro⟨t,_,h⟩;cases e:uO with
  | none=>rw[e] at h;cases h
  | some r=>
   rw[e] at h;let#[i,hi,rfl]:=â h;let#[w,h1,h2]:=ĝ1 hi;exact#[r,zB7 e,w,kO.mpr #[zB7 h1,h2],?_];unfold jN;rw[h1]
 .rintro⟨r,hr,w,hw,rfl⟩;let#[t,ht,e]:=zdG.mp hr;have e1:uO=↑r:=by rw[zA1 ht,e]
  have:=ă0 ok hq e1;let#[h1,h2]:=EO;let#[i,hi,e2]:=zdG.mp h1;have e3:HE:=by rw[zA1 hi,e2]
  exact#[t,Aq,?_];rw[e1];exact Ś #[i,ņ2 e3 h2,?_];unfold jN;rw[e3]
theorem Ő8 Ê BU Û:∀ ts:ç,(Eg).length<=ķ*ŗ
 | []=>by simp[LL]
 | t::ts=>by
  have ih:=Ő8 Ϯ ts;unfold LL at ih ⊢;rw[zdM,zD7,zC0,zfN,Nat.one_mul];have:(PB).length<=ŗ:=by
   split
   .rw[zA7];unfold ž9;show XB
   .show Ϟ
  lia
section
variable {å}{EN}{tb:NL}(ht:Tb İ tb)
include ok ht
theorem ğ1 {r:Ó}ç8:Yj [Ġ,.dn tb,zA r,nT i]=↑(tO (MU)):=by
 have hs:=zbo F r hw;have hi:bQ:=Fs;have pre:∀ o,_->ŉ7 [ê,SU,im (zA r),Bx,none]=o:=λ o h=>zt (zX (zE Eo hs)) h;unfold pL;cases e:Jx with
 | none=>
  rw[e] at pre;show zO (pre _ U5) rfl
 | some x=>
  rw[e] at pre;have hx:=ht w.t (ok.ws w (zB7 hw)).2 x (Ę0 (ok:=ok) e);show zO (pre _ (zt Kx (yD (ň2 (xh (zk (zo vH) Ń) ω) (k:=kN w.t x) Å hx)))) rfl
abbrev eJ Ê (tb:NL) Ý Û (os:ř) (a b:Ŝ):Ev:=[ê,SU,Ę,ŀ,im YW,↑(Ð (Gp)),a,b]
theorem zb3 ĭ ļ:ŉ0 [Ġ,.dn tb,Š,ņ]=↑(Á ((AU).map tO)):=by
 have nS:=ok.nS;have hc:Ĭ7 [ê,SU,Ę,ŀ,none,none,none,none]=↑ YW:=ĳ9 nS bf λ k hk=>rfl;let#[J,h1,h2]:=pk Sf (b:=Ł5) (λ t:Nat=>nT t) (λ ts J=>J=eJ GI (Eg) ì) (Ñ 14) (eJ GI [] ì) rfl (by
  rintro ts t r e J rfl;have ht14:t<14:=sM;have hch:=zbW ok (p:=p) hq (k:=t) ⋯;have hlen:ķ<=14:=by
   ext K3;lia
  have ll:=Ő8 Ϯ ts;have llm:ķ*ŗ<=14*60:=zeX hlen nS;have eL:LL Ϯ (ts++[t])=Eg++(PB):=by
   unfold LL;rw[zfM];ext G6
  have asg:yd 7 (zl Yl (za (zr 0) (za (zr 2) (za (zr 3) Te)))) (eJ AR none)=↑(.nx (eJ AR (im (aj uO)))):=zX (zE F4 hch);rw[eL];cases ec:uO with
  | none=>
   rw[ec] at asg;exact#[_,pW rfl (zt asg Kx),?_];rw[zd1];rfl
  | some x=>
   rw[ec] at asg;have hx:xo F x:=by
    have:=zB7 ec;unfold wx at this;cases es:Ť with
    | none=>rw[es] at this;rw[Œ this];show hq
    | some s=>
     rw[es] at this;show ř7 (ok.ss s (zdL es)) _ hq x this
   have hc2:Ķ3 (Wn)=↑(Á ((ϰ (jN İ x)).map tO)):=by
    rw[zD6];exact wC (tQ) _ (Ee) ϛ λ i hi=>?_
    .unfold ž9;exact zE0 DE ?_;rw[zC5];lia
    .let#[w,hw,_]:=ĝ1 hi;have hl:=ğ1 ok ht (r:=x) hw;exact kx rfl (zE F4 ?_);change _=↑(tO (jN İ x i));unfold jN;rw[hw];show hl
   have hext:=Ģ1 (i:=5) (J:=Wn) rfl hc2 (by
    rw[zA7,zA7,zA7];have:(Ee).length<=ŗ:=XB;lia)
   exact#[_,pW rfl (zt asg (yI LW hext)),?_];rw[<- zE7];rfl)
 subst h2;show zO (zt (zX hc) (zt rfl va)) rfl
end
def Ć6 Þ(hst:Qi) ĭ(hk:u6) Û:Κ=[q]:=by
 unfold wx;cases hs:Ť with
 | none=>rfl
 | some s=>
  have h1:=zdL hs;have h2:s.p=p:=by
   have h3:=zg0 (p:=Vc) (show Oz (Vc)=↑s from hs);show tH h3
  have:=hst s h1;rw[h2,hk] at this;cases this
def ę1 {t:T}(h:dep t<=60):yb Â t t=↑ è:=by
 unfold yb;rw[Ç #[h,h]];change ↑(T.bl (eqT t t))=_;rw[Ħ0]
theorem ć3 ã3(h:VU) (hl:æ<=10000):ve (Á [.zx]) (nT æ)=↑(Gp):=by
 change (if [T.zx]≠[]/\0<=Lp/\Lp<=1000000/\[T.zx].length*Xb<=ql then ↑(ϣ (uA Xb [T.zx]).flatten) else none)=_;have e2:BB:=rfl;rw[Ç #[#[],⋯,⋯,B7],zdP];congr 2;clear hl
 induction os with
 | nil=>rfl
 | cons o os ih=>
  rw[zC0,zdE,zdJ,TU,h o zc7];rfl
def ā9 (ts:Ù):xS [Á ts]=↑(nT ķ):=rfl
abbrev Γ1 Ê (tb:NL) Ý Û (os:ř) (d:ŧ) (a b:Ŝ):Ev:=[yR,ê,SU,Ę,ŀ,im (Gp),im (tO (oI d)),a,b]
theorem Ø7 Þ{tb:NL}ĭ á ã3{d:ŧ}(hp:p<=8) (hk:o7 q):xF mh rW (za (xc RL) ze) Pb=↑(K4):=by
 have b1:F6/\q.1<=12:=hk.1;have b2:Rb/\q.2<=12:=hk.2;have s1:=MO;have s2:=nk (n:=q.1) ī;have s3:=nk (n:=q.2) ī;have z1:=E9;have z2:=(vd hk.n1).1;have z3:=(vd hk.n2).1;have e:("way fa":Str).length=6:=()
 have hl:xc RL Pb=↑(Á ((G4:Ø).map Ò)):=
  cn (zk rfl (zk (yY rfl s1) (zk (yY Ŀ s2) (zk (yY Ŀ s3) rfl)))) qB
 exact oP wL (cx (ps:=G4) () ?_);ext AW
section
variable {å}{sr}{qG}{RM}
include ok hr R hw9 in
theorem ð5 ŏ (hk:u6) ļ Ĩ(hd:ŕ=↑k):∃ (i:Nat) (w:Wy),nR [Ϥ,K4]=↑ sP/\GD:=by
 ext u9;have hkP:=qw;let#[i,w,h1,h4,h5,h6]:=zaV ok hr R hp hw9 hk hq hd;show#[i,w,ß8 (dH F) ī #[hkP.1.1,by have:=hkP.1.2;lia] #[hkP.2.1,by have:=hkP.2.2;lia] h1,h4,h5,h6]
include ok hm hr R hw9 gw hst
theorem zbA {tb:NL}(ht:Tb İ tb) ŏ ļ:œ0 [Ϥ,Ġ,.dn tb,Š,ņ]=↑ è:=by
 ext u9;have hall:=zb3 ok ht (p:=p) hq;have hmem:∀ v,cF:=λ v=>zbh ok hq;have hlen:(AU).length<=10000:=by
  have:=Ő8 Ϯ (Ñ 14);rw[zC5] at this;lia
 generalize AU=os at *;have hng:=ht Ö q hq;have ho:OO=↑(kt (ϩ)):=ı0 hp;have q0:q∈ Κ:=zB7 (ü3 F p q);let#[w0,w01,w02]:=gw Ö;have hw0:w0∈ Ů:=kO.mpr #[w01,w02];have pre:∀ o,_->Ĳ4 [yR,ê,SU,Ę,ŀ,none,none,none,none]=o:=λ o h=>zt (zX (zE F4 hall)) (zt (zX (ň2 Uj hng)) h);have own:zV (zc ϙ (zc zi (zc É0 ħ) ű) (cS Df)) (Γ1 GI os (ŕ) ì)=↑(ϩ):=zQ (zo (zo UN rfl ho) rfl (Ņ8 _));cases hk:ϩ with
 | true=>
  rw[hk] at own;cases hd:ŕ with
  | none=>
   ext KD;let#[r,h1,w,h2,h3]:=ę6 sJ;have hi:xf Zj=↑ è:=(show xf Zj=wO Â Zj from rfl).trans ((ģ1 os Â).trans (by
    rw[show Dg=true from ϗ #[none,(hmem none).mpr #[r,h1,w,h2,by rw[h3];rfl],rfl]];rfl))
   show zO (pre _ (x9 (yI own (x9 (yI LW (yD (zo Å hi))))))) rfl
  | some k=>
   ext KD;ext P_;ext Pl;let#[h1,h2]:=È8 sJ;have hall2:∀ o∈os,∃ j,o=↑j/\j<=Í:=λ o ho=>by
    let#[r,hr1,w,hw1,rfl]:=Px;let#[j,e,hj]:=h1 r hr1 w hw1;show#[GN,rq,⋯]
   have hin:↑ Í ∈os:=by
    rcases h2 with e | ⟨r,hr1,w,hw1,e⟩
    .let#[j,e1,e2]:=h1 q q0 w0 hw0;show Bc #[q,q0,w0,hw0,by rw[e1];change ↑ GN=↑ Í;congr 1;lia]
    .show Bc #[r,hr1,w,hw1,rq]
   have hn:wO true Zj=↑ è:=(ģ1 os true).trans (by
    rw[show Dg=Â from zeZ.mpr λ o ho=>by let#[j,rfl,_]:=hall2 o ho;show zd2];rfl)
   ext Rj;show zO (pre _ (x9 (yI own (zt Kx (yD (eI (zo Å hn) (zo (yY rfl (Ø5 hin hall2)) Ŀ hx))))))) rfl
 | Â=>
  rw[hk] at own;have hch:=Ć6 hst hk q;rw[hch] at hmem;have hmem:∀ v,v∈os↔∃ w∈ Ů,oI (Ge)=v:=λ v=>(hmem v).trans #[λ#[r,h1,w,h2,h3]=>#[w,h2,by rw[<- Œ h1];show h3],λ#[w,h2,h3]=>#[q,zB6.mpr rfl,w,h2,h3]];cases hd:ŕ with
  | none=>
   ext KD;have hall2:VU:=λ o ho=>by
    let#[w,hw1,rfl]:=Px;rw[ù0 sJ w hw1];rfl
   have hmu:=ć3 hall2 hlen;have hd1:=YL;have hl:xS [Gp]=↑(nT æ):=by rw[ā9,zA7]
   show zO (pre _ (zt (yt own rfl) (x9 (yI LW (yD (zo rfl (zo (ļ3 rfl) (yY rfl hl) hmu) (ę1 (aK)))))))) rfl
  | some k=>
   ext KD;ext WJ;let#[i,w,hs,h4,h5,h6]:=ð5 ok hr R hw9 hp hk hq hd;ext Pl;let#[h1,w1,hw1,e1]:=Ď1 sJ;have hi:i<ŗ:=X7;rw[zfV] at h6;let#[j,ej,hj]:=ŧ1 (o:=Ge) (k:=k) λ z=>by
    rw[(gf ok (zB7 h4) Ga).mpr z] at h6;cases h6
   have hin:↑ Í ∈os:=Bc #[w1,hw1,by rw[e1];rfl];have hmin:∀ v,Jc->Í<=v:=λ v hv=>by
    let#[w2,hw2,e2]:=(hmem _).mp hv;cases e3:pL İ q w2 with
    | none=>rw[e3] at e2;cases e2
    | some u=>
     rw[e3] at e2;have:=h1 w2 hw2 u e3;have e4:(u:Int)=v:=zD5 e2;lia
   have hj2:=Ø7 (F:=F) (tb:=tb) (p:=p) (q:=q) (os:=os) (d:=↑ ũ) ⋯ (qw);have hz:kC nR [Ϥ,K4]=↑ sP:=Ų9 hs;have hc:∀ W,Ŀ4 [yR,ê,SU,Ę,ŀ,im (Gp),im (tO (oI ↑ ũ)),W,none]=↑(Á Wc):=λ W=>ĳ9 ok.nS bf λ k hk=>fS;have i2:wO true sP (Á Wc)=↑ ϖ:=by
    rw[show Wc=(ϰ IG).map Ò by rw[zD6];rfl];exact Il ?_;rw[show ((ϰ IG).any λ s=>Î (s=num ϸ))=true from ϗ #[_,Ś #[i,ņ2 h4 h5,rfl],zg6 rfl]];rfl
   have hl:=ğ1 ok ht (r:=q) h4;rw[ej] at hl;have hc2:∀ a b,ĳ2 (Γ1 GI os ↑ ũ a b)=↑(Su):=λ a b=>jP tO Yd tO os rfl hlen λ o _=>#[_,rfl,zQ (zo Å (Wz)),rfl];ext Rj;have hlt:wg (À GN) (À se)=↑ è:=É š (Fj);show zO (pre _ (zt (yt own rfl) (zt Kx (zt (zX (bg (zk Kn (zk hj2 rfl)) hz rfl)) (zt (yt (zQ (zo rfl (hc _) i2)) rfl) (zt (zX (zE (zk rfl (zk rfl (zk rfl (zk SW rfl)))) hl)) (yD (eI (zo (yY (hc2 Ë) (Ð4 hin hmin)) Ŀ hx) (eI Ŀ (zo Å hlt)))))))))) rfl
end
def È9 {j:Nat}{K:KF}Ĺ{g2:Sm}Ì{ks:J9}ŋ Ϩ{r:T× J9 × Ù}HW(h0:J[j]?=↑↑(Ð (S_))) (hf:f J=↑y) (hp:pF (y::ts)=true) (hF:K ks ts [y]=↑r) (hr:L3.eqT r.1 (Ä "ok")=true/\pF (r.1::r.2.2)=true) (hg:g2 (ϝ j ↑(Ð (.zL r.2.1 r.2.2)))=o):du j K f g2 J=o:=by
 unfold du;ext DH;rw[hf,zC9,Ç hp,hF,zC9,Ç hr];show hg
theorem ñ5 {α β:Type}(l:ő) (d:α) (f:α->β):((Ñ Ĭ).map λ p=>f (Lg p d))=π f:=by
 exact zdV #[] u7;have hi:i<Ĭ:=rg
 simp[zB1,zA1 hi]
def zaL (a:Bool):yb true su su=↑ ϖ:=by cases a <;> rfl
def zax Ex{g:ŷ}Ì Hl Β(h:IU) (hF:F xs=↑(.dn l)):bh F g J=↑(.dn l):=by
 unfold bh;rw[h,zC9,hF];rfl
def Ċ1 Ϫ R9:∀ s∈(GK).ss,(GK).os.getD s.p Â=true:=λ s hs=>by
 let#[r,hr,rfl]:=â hs;let#[a,b,c,d,rfl,h1,_,_,_,h5]:=Kf;change (Ő qe).getD t5 Â=true;unfold Γ at h5;rw[zA3] at h5;rw[zB1,zA3];cases e:os[t5]? with
 | none=>rw[e] at h5;cases h5
 | some z=>rw[e] at h5;show h5
section
variable {å}{sr}{qG}{RM}{JH}{vN}
abbrev fB (s:T) Gg Ê (tb:NL) (es:Ù) (x y z:Ŝ):Ev:=[im s,im uh,im (nT Ï),ê,↑ QI,SU,↑(Ð (Á es)),x,y,z]
include ok R in
theorem č3 ŏ á:(ŕ).isNone=FV:=by
 cases e:ŕ with
 | none=>show (Ń2 e tV).symm
 | some k=>
  cases hc:FV with
  | Â=>rfl
  | true=>
   have:=(ş7 ok hp tV).mp hc k e;have:=(kB e).1;lia
include ok hm hr R hw9 gw hst ha hb
theorem Ü3 (s:T) Gg Ì(hρ:J=[im s,im uh,im (nT Ï),ê,↑ QI,none,none,none,none,none]):
  (zw (yd 5 (bh Yi (za HG (za ű ze))))
  (zw (yw (zV (zc (oV Â) sf Ec)) (retS (cS ϖ)) y6)
  (zw (vk 6 (xc ze))
  (zw (x_ [7,8] (xt wI (za qk ze)) (zC 7) ň8)
  (zw (x_ [7,9] (Zn 5) (Nc) Γ0)
  (retS (cS è))))))) J=↑(.rt è):=by
 subst hρ;ext u9;have hlen:=mC İ;have hgd:∀ p<Ï,Gd ŉ (ŵ):=λ p _=>R.cJ tV p;have htold:=zbm Ab Ϧ;have ht:Tb İ (Jv):=Ù0 Ϧ;have hks:(Jv).map (λ q=>f9 q.1)=(A6).map λ x=>PJ:=by unfold ő8;rw[zD6];rfl
 generalize Jv=tb at *;let#[J1,p1,p2]:=pk (is:=[7,8]) (g:=zC 7) (b:=ň8) (tQ) (λ ps J=>J=fB uc (IT F7) Ez) rj (fB uc [] Ez) rfl (by
  ext Sh;have hl:ı<=8:=by
   ext K3;lia
  have hg:=hgd Ö;have zJ:∀ q∈ ŵ,o7 q:=Nf;have hl2:(ŵ).length<=20:=by ext Oq
  have hs:=Î0 (dH F) (p:=Ħ) ğ (zaY ok hr R hp);have hz:kC nR [Ϥ,Ä ("border fa "++num Ħ)]=↑ qF:=Ų9 hs;have happ:=om (i:=6) (g:=zl eW (za (zr 8) ze)) (J:=fB uc (IT F7) (Ę) (im qF) none) rfl (zE Ń (ģ4 zJ hl2)) (uW);exact#[_,pW rfl (zt (zX (bg (zk Kn (zk (oo (cB "border fa " 10) #[yY rfl (MO),E9]).1 rfl)) hz rfl)) (zt (yt (pG (xQ (b:=true) (xE rfl)) (xQ (b:=true) (xE (zE (zk rfl (zk vK rfl)) (zbM Ų JJ v7 hg))))) rfl) happ)),?_];rw[zE7];rfl)
 subst p2;rw[show (tw F7)=Sy by rw[<- hlen];show ñ5 Ai [] nE] at p1;let#[J2,p3,p4]:=pk (is:=[7,9]) (g:=Nc) (b:=Γ0) (λ x:Nat× Ó=>PJ) (λ _ J=>J=QW) (A6) (QW) rfl (by
  rintro ps ⟨p,q⟩ r e J rfl;have hx:PH ∈ A6:=Ň
  let#[hp,hq]:=ZS.mp hx;have hq:=(Β4 Ϧ).mp hq;have hlp:p<rA:=by rw[hlen];show hp
  have hl2:(ŵ).length<=10000:=by have:=(hgd Ö).pq v7;have:=Ų;lia
  have hh:=zbN (ŵ) q hl2;have hix:zi (Á (Sy)) (Š)=↑(nE (ŵ)):=Õ1 Ai p hlp;have hn:zc (oV Â) (iZ 5 (tupS (za (zr 7) (za (zr 9) ze)))) Ec (fB uc (Sy) (Ę) none (ŀ))=↑(.bl (FV)):=by
   exact zo (ň2 Uj (ht Ö q hq)) ϛ;rw[<- č3 ok R hp];cases ŕ <;> rfl
  show#[_,pW rfl (zt (yt (zQ (zo hn (zE (zk (zo Å hix) Ń) hh) (zaL _))) rfl) (yt (xQ (b:=true) (xE (bg (zk Kn F4) (zbA Ab hw9 gw hst ht hp hq) rfl))) rfl)),rfl])
 exact zt (zX (zax (zk Kn Ń) htold)) (zt Kx (zt (Ĭ4 rfl) (zt (xU (iT ⋯ rfl) p1) nH)));change ↑(tb.map λ q=>f9 q.1)=_;rw[hks]
end
end z_.V
namespace z_
open ξ L2 L3 L5 SJ
theorem Á5 ŝ (_:Ϲ<=63):ō7 [Ϣ]=↑ è:=by
 have fm:=Yg ns 0 ();obtain⟨m0,-⟩:=Œ5 ns 0;generalize mixed ns 0=n at *;obtain⟨many,hm⟩:∃ many:Nat,CR=1+n%3:=#[(1+n%3).toNat,⋯];obtain⟨more,hmo⟩:∃ more:Nat,JX=n/64%6:=#[(n/64%6).toNat,⋯];obtain⟨x,hx⟩:∃ b,b=n/4%4:=rp;obtain⟨y,hy⟩:∃ b,b=n/16%3:=rp;have hx':0<=x/\x<=4:=⋯;have hy':0<=y/\y<=4:=⋯;let#[os',ws,qs,w1,w2,w3,w4,w5,w6,w7,w8,w9,w10,w11,w12]:=zbJ ns 2 many more (K8) () ğ ⋯;let#[os,rfl]:=V.ġ8 os' w3;rw[zA7] at w2;have ho:=V.č0 w3;have hb:xP (K8) MR=true:=by
  change xP (È [À x,À y]) _=true;rw[J1];simp[wh];lia
 have hF:VQ:=ė4 hb (by rw[zA7];show w2) ğ w3 w4 w5;have hk:=V.ô6 ho hx' hy' w2 ⋯ w9 w11 ⋯ w8;have hlen:=text_len hk;have hback:=zb2 hk hF ğ (λ r hr k hk=>by
  let#[a,b,c,d,rfl,h1,h2,h3,h4]:=w9 ş;ext Pj) (λ r hr k hk=>by
  let#[a,b,c,d,rfl,h1,h2,h3,h4,_]:=w11 ş;rw[zA7] at h1;ext Pj) ⋯
 have ft:=zbn hk;have w1':Yk [Ϣ,À 2,uD,K8,Gs]=↑(BG):=w1;have efl:=V.ä4 LY ho w9 w11;rw[efl] at w1' ft hback;have ok:=V.Í4 hx' hy' w2 ğ w9 w11 (by lia:Ÿ<=13) w8;have gw:=V.È4 LY (qs:=qs) w2 w9 w10;have hol:(AM).os.length=many:=by change IM=many;rw[zA7];show w2
 obtain⟨a,ha⟩:∃ a:Nat,(a:Int)=(AM).A+1:=#[(x+1).toNat,by change (((x+1).toNat:Nat):Int)=x+1;lia];obtain⟨b,hbb⟩:∃ b:Nat,(b:Int)=(AM).B+1:=#[(y+1).toNat,by change (((y+1).toNat:Nat):Int)=y+1;lia];have ha4:a<=4:=by have:(AM).A=x:=rfl;lia
 have hb3:b<=3:=by have:(AM).B=y:=rfl;lia
 let#[m,hm2,hr,R]:=V.ď8 ok ha hbb gw (V.ä1 w11 w12);have hst:=V.Ċ1 LY (ws:=ws) w11;have hwl:(AM).ws.length<=13:=by change We<=13;ext tS
 generalize AM=F at *;generalize Ov=t at *;subst hol;have hm3:m<=199:=by
  have h1:a*b<=4*3:=zeX ha4 hb3;have h2:AE<=3*(4*3):=zeX ⋯ h1;lia
 have tail:=V.Ü3 ok hm3 hr R hwl gw hst ha hbb (Ϣ) n rfl;have hW:=zbb (t:=t) ⋯ hback (V.dH F);have d4:pS n 4:=ň;have d16:pS n 16:=ň;have d64:pS n 64:=ň;have hpl:pF [Ò "ok",V.zF F]=true:=by change (true&&(Ż (V.zF F)&&true))=true;rw[V.dH F];rfl
 exact zO (zt (zX (zE Dh fm)) (zt (zX (y:=nT Ï) ?_) (zt (zX (zE (zk rfl (zk rfl (zk rfl (zk (x:=K8) ?_ (zk (x:=Gs) AI))))) w1')) (zt rfl (zt (V.È9 SV rfl (zo rfl (yY rfl ft) (Ç ?_)) rfl hW #[rfl,hpl] rfl) tail))))) rfl
 .rw[show nT Ï=À (1+n%3) from É Ú hm];show zo rfl (V.Zb Å ()) rfl
 .rw[hx,hy];show xh (zk (V.Zb (V.ŧ7 Å d4) Ϝ) (zk (V.Zb (V.ŧ7 Å d16) Ϝ) rfl)) ω
 .rw[hmo];show V.Zb (V.ŧ7 Å d64) Ϝ
 .have e:QR:=()
  have e2:BB:=rfl;lia
end z_
namespace z_
open ξ L2 L3 L5
open PyProof.Rows hiding St
set_option maxHeartbeats 0
structure CC (K:zFr) SE (mg:zSV):Prop where
 c0:Cm mg "FIGURES" (Ä "0123456789")
 c1:Cm mg "KEEPER" Df
 c2:Cm mg "LETTERS" (Ä "abcdefghijklmnopqrstuvwxyz")
 c3:Cm mg "MOST_COINS" (À 12)
 c4:Cm mg "MOST_FIGURES" (À 4)
 c5:Cm mg "MOST_LETTERS" (À 8)
 c6:Cm mg "MOST_PLACES" (À 8)
 c7:Cm mg "MOST_WAYS" (À 24)
 c8:Ť9 K mg "PURSES" MZ
 c9:Cm mg "TAKER" (Fb)
 c10:ř0 K w mg "FORMS" mG
 c11:l8 K
section
variable (P:Program) {SE}(K:zFr)(mg:zSV)(base:Heap)
structure D1:Prop where
 x0:FD Ã "is_whole" 1 Af (zM zm bG)
 x1:FD Ã "are_rising" 1 v8 (zM zm gQ)
 x2:FD Ã "is_owner" 1 Af (zM zm Ř5)
 x3:FD Ã "places_of" 1 tJ (zM zm eU)
 x4:FD Ã "at_or_above" 1 ["pair","other"] (zM zm bK)
structure D2:Prop where
 x0:FD Ã "least_pairs" 1 ["pairs"] (zM zm eV)
 x1:FD Ã "pairs_ahead_of_changes" 1 ["brims","stall","pair"] (zM zm Ÿ4)
 x2:FD Ã "step_by" 1 ["floor","pair","way"] (zM zm Ź7)
 x3:FD Ã "show_way" 1 ["way"] (zM zm ņ4)
 x4:FD Ã "show_stall" 1 ["stall"] (zM zm ř9)
structure D3:Prop where
 x0:FD Ã "read_word" 1 qC (zM zq Ye)
 x1:FD Ã "is_made_of" 1 ["word","signs","most"] (zM zm Yn)
 x2:FD Ã "show_pair" 1 ["pair"] (zM zm Α9)
 x3:FD Ã "show_count" 1 ["count"] (zM zm Ŗ3)
 x4:FD Ã "_law_mixed" 1 ["_law_script","_law_k"] (zM zm gO)
structure D4:Prop where
 x0:FD Ã "_law_stalls" 1 ["_law_cell","_law_owners"] (zM zm œ6)
 x1:FD Ã "_law_step" 1 ["_law_floor_here","_law_pair","_law_way"] (zM zm Ō7)
 x2:FD Ã "_law_changed" 1 ["_law_floor_here","_law_place","_law_pair","_law_times"] (zM zm Yl)
 x3:FD Ã "_law_text" 1 ["_law_floor_here"] (zM zq ń9)
 x4:FD Ã "_law_border" 1 ["_law_text_here"] (zM zm eW)
structure D5:Prop where
 x0:FD Ã "_law_held" 1 ["_law_border_here","_law_pair"] (zM zm Œ0)
structure D6:Prop where
 x0:FD Ã "is_whole_within" 2 ["thing","least","most"] (zM zm gP)
 x1:FD Ã "are_owners" 2 Af (zM zm Ys)
 x2:FD Ã "holds" 2 ["border","pair"] (zM zm bH)
 x3:FD Ã "both" 2 O3 (zM zm Yq)
 x4:FD Ã "either" 2 O3 (zM zm bI)
structure D7:Prop where
 x0:FD Ã "border_ahead_of_way" 2 ["brims","way","border"] (zM zm ŵ0)
 x1:FD Ã "show_floor" 2 tJ (zM zq bD)
 x2:FD Ã "read_words" 2 ["words"] (zM zm gM)
 x3:FD Ã "is_number" 2 qC (zM zm Ym)
 x4:FD Ã "show_border" 2 ["border"] (zM zq Ŏ2)
structure D8:Prop where
 x0:FD Ã "_law_ways" 2 ["_law_script","_law_at","_law_many","_law_more","_law_span"] (zM zm Ŕ6)
 x1:FD Ã "_law_stall_cell" 2 ["_law_script","_law_at","_law_digits"] (zM zm Ť4)
 x2:FD Ã "_law_is_border" 2 ["_law_text_here","_law_brims"] (zM zm ŝ8)
 x3:FD Ã "_law_left" 2 ["_law_floor_here","_law_steps","_law_pair","_law_way"] (zM zq Yj)
structure D9:Prop where
 x0:FD Ã "is_row_within" 3 YH (zM zm i8)
 x1:FD Ã "check_place" 3 tL (zM zm iB)
 x2:FD Ã "border_of_either" 3 ["borders"] (zM zq ő9)
 x3:FD Ã "border_of_all" 3 ["borders"] (zM zq Ŝ3)
 x4:FD Ã "first_without" 3 ["told","place","pair"] (zM zq Yo)
structure Mw:Prop where
 x0:FD Ã "leads_into" 3 ["floor","pair","way","held"] (zM zm Ś4)
 x1:FD Ã "read_parts" 3 ["parts"] (zM zm Yf)
 x2:FD Ã "is_of_form" 3 yh (zM zm i9)
 x3:FD Ã "_law_floor" 3 ["_law_script","_law_at","_law_many","_law_brims","_law_more"] (zM zm Yk)
 x4:FD Ã "_law_all_left" 3 ["_law_floor_here","_law_steps","_law_place","_law_pair"] (zM zm ŉ0)
structure Mv:Prop where
 x0:gS Ã "thing_for" 3 ["self","word","form"] (zM zq iC)
structure Mu:Prop where
 x0:FD Ã "are_rows_within" 4 YH (zM zm Yr)
 x1:FD Ã "are_brims" 4 Af (zM zm ŗ3)
 x2:FD Ã "check_pair" 4 ["floor","pair"] (zM zm ŏ0)
 x3:FD Ã "ways_from" 4 tL (zM zm ŏ9)
 x4:FD Ã "stall_at" 4 tL (zM zq Ņ1)
structure Mt:Prop where
 x0:FD Ã "are_of_forms" 4 ["words","forms"] (zM zm Ņ5)
structure Ms:Prop where
 x0:FD Ã "are_ways" 5 ["thing","places"] (zM zm ő3)
 x1:FD Ã "are_stalls" 5 ["thing","owners"] (zM zm Ő3)
 x2:FD Ã "border_ahead_of_changes" 5 ["floor","place","border"] (zM zq Ŵ0)
 x3:FD Ã "way_out_of" 5 ["floor","place","pair","told"] (zM zq Ŏ8)
 x4:FD Ã "read_row" 5 ["row"] (zM zq gN)
structure Mr:Prop where
 x0:FD Ã "is_floor" 6 Af (zM zm eX)
 x1:FD Ã "next_border" 6 ["floor","place","last"] (zM zq Œ9)
structure Mq:Prop where
 x0:FD Ã "next_round" 7 ["floor","last","fresh"] (zM zm œ1)
 x1:FD Ã "read_floor" 7 ["text"] (zM zq bE)
structure Mp:Prop where
 x0:FD Ã "rounds" 8 tJ (zM zm ka)
structure Mo:Prop where
 x0:FD Ã "lasts" 9 OZ (zM zq ŗ2)
 x1:FD Ã "borders" 9 tJ (zM zq Ō9)
 x2:FD Ã "taker_way" 9 OZ (zM zq ř2)
structure Mn:Prop where
 x0:FD Ã "answer_border" 10 v8 (zM zq bN)
 x1:FD Ã "answer_lasts" 10 v8 (zM zq bM)
 x2:FD Ã "answer_way" 10 v8 (zM zq bL)
structure Mm:Prop where
 x0:VA Ã "ANSWERS" 10 v8 (Ÿ5.map λ q=>(q.1,zM zq q.2))
structure Ml:Prop where
 x0:gS OU (zM zq nR)
structure Mj:Prop where
 x0:Yt Ã 2
 x1:gR Ã "keep" 2 ["self","name","floor"] (oy lK)
structure Mi:Prop where
 x0:gR OU (oy Ŕ9)
structure Mh:Prop where
 x0:FD Ã "_law_told" 12 ["_law_desk","_law_floor_here"] (zM zq Yi)
 x1:FD Ã "_law_right" 12 ["_law_desk","_law_floor_here","_law_steps","_law_place","_law_pair"] (zM zm œ0)
variable {w K mg}(T:Bt mg)(U:Bq mg){h:Heap}(H:HH K w)(C:CC K w mg)(X:K.In h)(G:KC)
include T U H C X G
theorem ò9:D1 Ã:=by
 cases C;exact#[yn [] (H.h0.mk Æ) ?_,
  yn [(["one","other"],Fw)] (H.h4.mk Æ) ?_,
  yn [] (H.h6.mk Æ) ?_,
  yn [] (H.CW.mk Æ) ?_,
  yn [] (H.QC.mk Æ) ?_]
 all_goals
  ext Ģ;show#[_,(by
    repeat' first
     | show rfl
     | ext ñ
     | ext ÿ
     | ext ø
     | ext ô
     | apply yM | apply yN | apply vw | apply vx
     | ext ý
     | ext Ė | ext ă | ext Ą | ext Ĉ | ext ü | ext ù
     | ext ó
     | apply uq | apply vv | apply vt | apply uo | show um
     | ext þ
     | ext Ě
     | ext ú
     | show uu | show v_ | apply ur | apply vZ
     | show hr | show nd | ext ė | show à | show î | show ě | show Ĝ | show Ā | decide
     | show ċ | show Č | show č | show Ď | show ď | show Đ | show đ | show Ē | show ē | show Ĕ | show ą | show Ć | show ć | show ĉ | show Ċ),(by
    repeat' first
     | ext û
     | ext ġ
     | ext ò
     | ext Ă
     | ext ö
     | ext õ
     | ext ā
     | show ę
     | show ĝ)]
variable (d1:D1 Ã)
include d1
theorem ė7:D2 Ã:=by
 cases C;cases d1;exact#[yn [] (H.CS.mk Æ) ?_,
  yn [] (H.CM.mk Æ) ?_,
  yn [] (H.CB.mk Æ) ?_,
  yn [] (H.C7.mk Æ) ?_,
  yn [] (H.C6.mk Æ) ?_]
 all_goals
  ext Ģ;show#[_,(by
    repeat' first
     | show rfl
     | ext ñ
     | ext ÿ
     | ext ø
     | ext ô
     | apply yM | apply yN | apply vw | apply vx
     | ext ý
     | ext Ė | ext ă | ext Ą | ext Ĉ | ext ü | ext ù
     | ext ó
     | apply uq | apply vv | apply vt | apply uo | show um
     | ext þ
     | ext Ě
     | ext ú
     | show uu | show v_ | apply ur | apply vZ
     | show hr | show nd | ext ė | show à | show î | show ě | show Ĝ | show Ā | decide
     | show ċ | show Č | show č | show Ď | show ď | show Đ | show đ | show Ē | show ē | show Ĕ | show ą | show Ć | show ć | show ĉ | show Ċ),(by
    repeat' first
     | ext û
     | ext ġ
     | ext ò
     | ext Ă
     | ext ö
     | ext õ
     | ext ā
     | show ę
     | show ĝ)]
variable (d2:D2 Ã)
include d2
theorem Ä4:D3 Ã:=by
 cases C;cases d1;cases d2;exact#[yn [] (H.C4.mk Æ) ?_,
  yn [(["sign","signs"],FU)] (H.C0.mk Æ) ?_,
  yn [] (H.Cu.mk Æ) ?_,
  yn [] (H.Cr.mk Æ) ?_,
  yn [] (H.Cj.mk Æ) ?_]
 all_goals
  ext Ģ;show#[_,(by
    repeat' first
     | show rfl
     | ext ñ
     | ext ÿ
     | ext ø
     | ext ô
     | apply yM | apply yN | apply vw | apply vx
     | ext ý
     | ext Ė | ext ă | ext Ą | ext Ĉ | ext ü | ext ù
     | ext ó
     | apply uq | apply vv | apply vt | apply uo | show um
     | ext þ
     | ext Ě
     | ext ú
     | show uu | show v_ | apply ur | apply vZ
     | show hr | show nd | ext ė | show à | show î | show ě | show Ĝ | show Ā | decide
     | show ċ | show Č | show č | show Ď | show ď | show Đ | show đ | show Ē | show ē | show Ĕ | show ą | show Ć | show ć | show ĉ | show Ċ),(by
    repeat' first
     | ext û
     | ext ġ
     | ext ò
     | ext Ă
     | ext ö
     | ext õ
     | ext ā
     | show ę
     | show ĝ)]
variable (d3:D3 Ã)
include d3
theorem û6:D4 Ã:=by
 ext Ah;exact#[yn [] (H.Cg.mk Æ) ?_,
  yn [] (H.Cd.mk Æ) ?_,
  yn [(["_law_stall","_law_place"],FU)] (H.Cc.mk Æ) ?_,
  yn [] (H.Cb.mk Æ) ?_,
  yn [] (H.Ca.mk Æ) ?_]
 all_goals
  ext Ģ;show#[_,(by
    repeat' first
     | show rfl
     | ext ñ
     | ext ÿ
     | ext ø
     | ext ô
     | apply yM | apply yN | apply vw | apply vx
     | ext ý
     | ext Ė | ext ă | ext Ą | ext Ĉ | ext ü | ext ù
     | ext ó
     | apply uq | apply vv | apply vt | apply uo | show um
     | ext þ
     | ext Ě
     | ext ú
     | show uu | show v_ | apply ur | apply vZ
     | show hr | show nd | ext ė | show à | show î | show ě | show Ĝ | show Ā | decide
     | show ċ | show Č | show č | show Ď | show ď | show Đ | show đ | show Ē | show ē | show Ĕ | show ą | show Ć | show ć | show ĉ | show Ċ),(by
    repeat' first
     | ext û
     | ext ġ
     | ext ò
     | ext Ă
     | ext ö
     | ext õ
     | ext ā
     | show ę
     | show ĝ)]
variable (d4:D4 Ã)
include d4
theorem Đ8:D5 Ã:=by
 ext Ah;cases d4;exact#[yn [(["_law_x","_law_y","_law_pair"],Ny)] (H.D_.mk Æ) ?_]
 all_goals
  ext Ģ;show#[_,(by
    repeat' first
     | show rfl
     | ext ñ
     | ext ÿ
     | ext ø
     | ext ô
     | apply yM | apply yN | apply vw | apply vx
     | ext ý
     | ext Ė | ext ă | ext Ą | ext Ĉ | ext ü | ext ù
     | ext ó
     | apply uq | apply vv | apply vt | apply uo | show um
     | ext þ
     | ext Ě
     | ext ú
     | show uu | show v_ | apply ur | apply vZ
     | show hr | show nd | ext ė | show à | show î | show ě | show Ĝ | show Ā | decide
     | show ċ | show Č | show č | show Ď | show ď | show Đ | show đ | show Ē | show ē | show Ĕ | show ą | show Ć | show ć | show ĉ | show Ċ),(by
    repeat' first
     | ext û
     | ext ġ
     | ext ò
     | ext Ă
     | ext ö
     | ext õ
     | ext ā
     | show ę
     | show ĝ)]
variable (d5:D5 Ã)
include d5
theorem ì2:D6 Ã:=by
 ext t_;exact#[yn [] (H.h1.mk Æ) ?_,
  yn [(["owner"],EI)] (H.h7.mk Æ) ?_,
  yn [(["own","pair"],FU)] (H.CQ.mk Æ) ?_,
  yn Ri (H.CP.mk Æ) ?_,
  yn [] (H.CO.mk Æ) ?_]
 all_goals
  ext Ģ;show#[_,(by
    repeat' first
     | show rfl
     | ext ñ
     | ext ÿ
     | ext ø
     | ext ô
     | apply yM | apply yN | apply vw | apply vx
     | ext ý
     | ext Ė | ext ă | ext Ą | ext Ĉ | ext ü | ext ù
     | ext ó
     | apply uq | apply vv | apply vt | apply uo | show um
     | ext þ
     | ext Ě
     | ext ú
     | show uu | show v_ | apply ur | apply vZ
     | show hr | show nd | ext ė | show à | show î | show ě | show Ĝ | show Ā | decide
     | show ċ | show Č | show č | show Ď | show ď | show Đ | show đ | show Ē | show ē | show Ĕ | show ą | show Ć | show ć | show ĉ | show Ċ),(by
    repeat' first
     | ext û
     | ext ġ
     | ext ò
     | ext Ă
     | ext ö
     | ext õ
     | ext ā
     | show ę
     | show ĝ)]
variable (d6:D6 Ã)
include d6
theorem ą9:D7 Ã:=by
 ext t_;cases d6;exact#[yn [(["pair","way"],FU),(["pair","brims"],Y8)] (H.CN.mk Æ) ?_,
  yn [YR,Nu] (H.C5.mk Æ) ?_,
  yn [(qC,EI)] (H.C3.mk Æ) ?_,
  yn [] (H.Cz.mk Æ) ?_,
  yn Ri (H.Cs.mk Æ) ?_]
 all_goals
  ext Ģ;show#[_,(by
    repeat' first
     | show rfl
     | ext ñ
     | ext ÿ
     | ext ø
     | ext ô
     | apply yM | apply yN | apply vw | apply vx
     | ext ý
     | ext Ė | ext ă | ext Ą | ext Ĉ | ext ü | ext ù
     | ext ó
     | apply uq | apply vv | apply vt | apply uo | show um
     | ext þ
     | ext Ě
     | ext ú
     | show uu | show v_ | apply ur | apply vZ
     | show hr | show nd | ext ė | show à | show î | show ě | show Ĝ | show Ā | decide
     | show ċ | show Č | show č | show Ď | show ď | show Đ | show đ | show Ē | show ē | show Ĕ | show ą | show Ć | show ć | show ĉ | show Ċ),(by
    repeat' first
     | ext û
     | ext ġ
     | ext ò
     | ext Ă
     | ext ö
     | ext õ
     | ext ā
     | show ę
     | show ĝ)]
variable (d7:D7 Ã)
include d7
theorem ß4:D8 Ã:=by
 ext t_;cases d6;cases d7;exact#[yn [] (H.Ci.mk Æ) ?_,
  yn [] (H.Cf.mk Æ) ?_,
  yn UJ (H.pz.mk Æ) ?_,
  yn [] (H.DY.mk Æ) ?_]
 all_goals
  ext Ģ;show#[_,(by
    repeat' first
     | show rfl
     | ext ñ
     | ext ÿ
     | ext ø
     | ext ô
     | apply yM | apply yN | apply vw | apply vx
     | ext ý
     | ext Ė | ext ă | ext Ą | ext Ĉ | ext ü | ext ù
     | ext ó
     | apply uq | apply vv | apply vt | apply uo | show um
     | ext þ
     | ext Ě
     | ext ú
     | show uu | show v_ | apply ur | apply vZ
     | show hr | show nd | ext ė | show à | show î | show ě | show Ĝ | show Ā | decide
     | show ċ | show Č | show č | show Ď | show ď | show Đ | show đ | show Ē | show ē | show Ĕ | show ą | show Ć | show ć | show ĉ | show Ċ),(by
    repeat' first
     | ext û
     | ext ġ
     | ext ò
     | ext Ă
     | ext ö
     | ext õ
     | ext ā
     | show ę
     | show ĝ)]
variable (d8:D8 Ã)
include d8
theorem ì8:D9 Ã:=by
 ext GY;exact#[yn [(["number","bound"],Fw)] (H.h2.mk Æ) ?_,
  yn [] (H.cD.mk Æ) ?_,
  yn [] (H.CK.mk Æ) ?_,
  yn [] (H.CJ.mk Æ) ?_,
  yn [] (H.CF.mk Æ) ?_]
 all_goals
  ext Ģ;show#[_,(by
    repeat' first
     | show rfl
     | ext ñ
     | ext ÿ
     | ext ø
     | ext ô
     | apply yM | apply yN | apply vw | apply vx
     | ext ý
     | ext Ė | ext ă | ext Ą | ext Ĉ | ext ü | ext ù
     | ext ó
     | apply uq | apply vv | apply vt | apply uo | show um
     | ext þ
     | ext Ě
     | ext ú
     | show uu | show v_ | apply ur | apply vZ
     | show hr | show nd | ext ė | show à | show î | show ě | show Ĝ | show Ā | decide
     | show ċ | show Č | show č | show Ď | show ď | show Đ | show đ | show Ē | show ē | show Ĕ | show ą | show Ć | show ć | show ĉ | show Ċ),(by
    repeat' first
     | ext û
     | ext ġ
     | ext ò
     | ext Ă
     | ext ö
     | ext õ
     | ext ā
     | show ę
     | show ĝ)]
variable (d9:D9 Ã)
include d9
theorem È7:Mw Ã:=by
 ext GY;cases d9;exact#[yn [] (H.CA.mk Æ) ?_,
  yn [] (H.C2.mk Æ) ?_,
  yn [] (H.Cy.mk Æ) ?_,
  yn [] (H.Ce.mk Æ) ?_,
  yn [(O1,O2),(["_law_way","_law_floor_here","_law_steps","_law_held_here"],[none,↑0,↑1,↑7])] (H.DX.mk Æ) ?_]
 all_goals
  ext Ģ;show#[_,(by
    repeat' first
     | show rfl
     | ext ñ
     | ext ÿ
     | ext ø
     | ext ô
     | apply yM | apply yN | apply vw | apply vx
     | ext ý
     | ext Ė | ext ă | ext Ą | ext Ĉ | ext ü | ext ù
     | ext ó
     | apply uq | apply vv | apply vt | apply uo | show um
     | ext þ
     | ext Ě
     | ext ú
     | show uu | show v_ | apply ur | apply vZ
     | show hr | show nd | ext ė | show à | show î | show ě | show Ĝ | show Ā | decide
     | show ċ | show Č | show č | show Ď | show ď | show Đ | show đ | show Ē | show ē | show Ĕ | show ą | show Ć | show ć | show ĉ | show Ċ),(by
    repeat' first
     | ext û
     | ext ġ
     | ext ò
     | ext Ă
     | ext ö
     | ext õ
     | ext ā
     | show ę
     | show ĝ)]
variable (d10:Mw Ã)
include d10
theorem ß6:Mv Ã:=by
 ext AZ;exact#[ľ0 [] H.Ep ?_]
 all_goals
  ext Ģ;show#[_,(by
    repeat' first
     | show rfl
     | ext ñ
     | ext ÿ
     | ext ø
     | ext ô
     | apply yM | apply yN | apply vw | apply vx
     | ext ý
     | ext Ė | ext ă | ext Ą | ext Ĉ | ext ü | ext ù
     | ext ó
     | apply uq | apply vv | apply vt | apply uo | show um
     | ext þ
     | ext Ě
     | ext ú
     | show uu | show v_ | apply ur | apply vZ
     | show hr | show nd | ext ė | show à | show î | show ě | show Ĝ | show Ā | decide
     | show ċ | show Č | show č | show Ď | show ď | show Đ | show đ | show Ē | show ē | show Ĕ | show ą | show Ć | show ć | show ĉ | show Ċ),(by
    repeat' first
     | ext û
     | ext ġ
     | ext ò
     | ext Ă
     | ext ö
     | ext õ
     | ext ā
     | show ę
     | show ĝ)]
variable (d11:Mv Ã)
include d11
theorem Ą5:Mu Ã:=by
 ext AZ;cases d11;exact#[yn [(["row","bounds"],FU)] (H.h3.mk Æ) ?_,
  yn [] (H.h5.mk Æ) ?_,
  yn [] (H.CV.mk Æ) ?_,
  yn [(["number","way","place"],Ny)] (H.CU.mk Æ) ?_,
  yn [] (H.CT.mk Æ) ?_]
 all_goals
  ext Ģ;show#[_,(by
    repeat' first
     | show rfl
     | ext ñ
     | ext ÿ
     | ext ø
     | ext ô
     | apply yM | apply yN | apply vw | apply vx
     | ext ý
     | ext Ė | ext ă | ext Ą | ext Ĉ | ext ü | ext ù
     | ext ó
     | apply uq | apply vv | apply vt | apply uo | show um
     | ext þ
     | ext Ě
     | ext ú
     | show uu | show v_ | apply ur | apply vZ
     | show hr | show nd | ext ė | show à | show î | show ě | show Ĝ | show Ā | decide
     | show ċ | show Č | show č | show Ď | show ď | show Đ | show đ | show Ē | show ē | show Ĕ | show ą | show Ć | show ć | show ĉ | show Ċ),(by
    repeat' first
     | ext û
     | ext ġ
     | ext ò
     | ext Ă
     | ext ö
     | ext õ
     | ext ā
     | show ę
     | show ĝ)]
variable (d12:Mu Ã)
include d12
theorem ě0:Mt Ã:=by
 ext Wr;exact#[yn [(yh,Fw)] (H.Cw.mk Æ) ?_]
 all_goals
  ext Ģ;show#[_,(by
    repeat' first
     | show rfl
     | ext ñ
     | ext ÿ
     | ext ø
     | ext ô
     | apply yM | apply yN | apply vw | apply vx
     | ext ý
     | ext Ė | ext ă | ext Ą | ext Ĉ | ext ü | ext ù
     | ext ó
     | apply uq | apply vv | apply vt | apply uo | show um
     | ext þ
     | ext Ě
     | ext ú
     | show uu | show v_ | apply ur | apply vZ
     | show hr | show nd | ext ė | show à | show î | show ě | show Ĝ | show Ā | decide
     | show ċ | show Č | show č | show Ď | show ď | show Đ | show đ | show Ē | show ē | show Ĕ | show ą | show Ć | show ć | show ĉ | show Ċ),(by
    repeat' first
     | ext û
     | ext ġ
     | ext ò
     | ext Ă
     | ext ö
     | ext õ
     | ext ā
     | show ę
     | show ĝ)]
variable (d13:Mt Ã)
include d13
theorem Ė1:Ms Ã:=by
 ext EK;exact#[yn [YR,(["start","starts"],[none,↑4])] (H.h8.mk Æ) ?_,
  yn [Nu,(["stall","owners"],FU)] (H.h9.mk Æ) ?_,
  yn [] (H.CL.mk Æ) ?_,
  yn [(["way","floor","pair","told","steps"],[none,↑0,↑2,↑3,↑4])] (H.C9.mk Æ) ?_,
  yn [] (H.Cv.mk Æ) ?_]
 all_goals
  ext Ģ;show#[_,(by
    repeat' first
     | show rfl
     | ext ñ
     | ext ÿ
     | ext ø
     | ext ô
     | apply yM | apply yN | apply vw | apply vx
     | ext ý
     | ext Ė | ext ă | ext Ą | ext Ĉ | ext ü | ext ù
     | ext ó
     | apply uq | apply vv | apply vt | apply uo | show um
     | ext þ
     | ext Ě
     | ext ú
     | show uu | show v_ | apply ur | apply vZ
     | show hr | show nd | ext ė | show à | show î | show ě | show Ĝ | show Ā | decide
     | show ċ | show Č | show č | show Ď | show ď | show Đ | show đ | show Ē | show ē | show Ĕ | show ą | show Ć | show ć | show ĉ | show Ċ),(by
    repeat' first
     | ext û
     | ext ġ
     | ext ò
     | ext Ă
     | ext ö
     | ext õ
     | ext ā
     | show ę
     | show ĝ)]
variable (d14:Ms Ã)
include d14
theorem Ý5:Mr Ã:=by
 ext EK;cases d14;exact#[yn [] (H.CY.mk Æ) ?_,
  yn [(["number","floor"],Y8),(["way","floor","last"],O2)] (H.CI.mk Æ) ?_]
 all_goals
  ext Ģ;show#[_,(by
    repeat' first
     | show rfl
     | ext ñ
     | ext ÿ
     | ext ø
     | ext ô
     | apply yM | apply yN | apply vw | apply vx
     | ext ý
     | ext Ė | ext ă | ext Ą | ext Ĉ | ext ü | ext ù
     | ext ó
     | apply uq | apply vv | apply vt | apply uo | show um
     | ext þ
     | ext Ě
     | ext ú
     | show uu | show v_ | apply ur | apply vZ
     | show hr | show nd | ext ė | show à | show î | show ě | show Ĝ | show Ā | decide
     | show ċ | show Č | show č | show Ď | show ď | show Đ | show đ | show Ē | show ē | show Ĕ | show ą | show Ć | show ć | show ĉ | show Ċ),(by
    repeat' first
     | ext û
     | ext ġ
     | ext ò
     | ext Ă
     | ext ö
     | ext õ
     | ext ā
     | show ę
     | show ĝ)]
variable (d15:Mr Ã)
include d15
theorem Ć2:Mq Ã:=by
 ext AX;exact#[yn [(["way","fresh"],[none,↑2])] (H.CH.mk Æ) ?_,
  yn [] (H.C1.mk Æ) ?_]
 all_goals
  ext Ģ;show#[_,(by
    repeat' first
     | show rfl
     | ext ñ
     | ext ÿ
     | ext ø
     | ext ô
     | apply yM | apply yN | apply vw | apply vx
     | ext ý
     | ext Ė | ext ă | ext Ą | ext Ĉ | ext ü | ext ù
     | ext ó
     | apply uq | apply vv | apply vt | apply uo | show um
     | ext þ
     | ext Ě
     | ext ú
     | show uu | show v_ | apply ur | apply vZ
     | show hr | show nd | ext ė | show à | show î | show ě | show Ĝ | show Ā | decide
     | show ċ | show Č | show č | show Ď | show ď | show Đ | show đ | show Ē | show ē | show Ĕ | show ą | show Ć | show ć | show ĉ | show Ċ),(by
    repeat' first
     | ext û
     | ext ġ
     | ext ò
     | ext Ă
     | ext ö
     | ext õ
     | ext ā
     | show ę
     | show ĝ)]
variable (d16:Mq Ã)
include d16
theorem â9:Mp Ã:=by
 ext AX;cases d16;exact#[yn [(["place","border","last"],[none,none,↑3])] (H.CG.mk Æ) ?_]
 all_goals
  ext Ģ;show#[_,(by
    repeat' first
     | show rfl
     | ext ñ
     | ext ÿ
     | ext ø
     | ext ô
     | apply yM | apply yN | apply vw | apply vx
     | ext ý
     | ext Ė | ext ă | ext Ą | ext Ĉ | ext ü | ext ù
     | ext ó
     | apply uq | apply vv | apply vt | apply uo | show um
     | ext þ
     | ext Ě
     | ext ú
     | show uu | show v_ | apply ur | apply vZ
     | show hr | show nd | ext ė | show à | show î | show ě | show Ĝ | show Ā | decide
     | show ċ | show Č | show č | show Ď | show ď | show Đ | show đ | show Ē | show ē | show Ĕ | show ą | show Ć | show ć | show ĉ | show Ċ),(by
    repeat' first
     | ext û
     | ext ġ
     | ext ò
     | ext Ă
     | ext ö
     | ext õ
     | ext ā
     | show ę
     | show ĝ)]
variable (d17:Mp Ã)
include d17
theorem ï6:Mo Ã:=by
 ext HX;exact#[yn [] (H.CD.mk Æ) ?_,
  yn [] (H.cC.mk Æ) ?_,
  yn [] (H.C8.mk Æ) ?_]
 all_goals
  ext Ģ;show#[_,(by
    repeat' first
     | show rfl
     | ext ñ
     | ext ÿ
     | ext ø
     | ext ô
     | apply yM | apply yN | apply vw | apply vx
     | ext ý
     | ext Ė | ext ă | ext Ą | ext Ĉ | ext ü | ext ù
     | ext ó
     | apply uq | apply vv | apply vt | apply uo | show um
     | ext þ
     | ext Ě
     | ext ú
     | show uu | show v_ | apply ur | apply vZ
     | show hr | show nd | ext ė | show à | show î | show ě | show Ĝ | show Ā | decide
     | show ċ | show Č | show č | show Ď | show ď | show Đ | show đ | show Ē | show ē | show Ĕ | show ą | show Ć | show ć | show ĉ | show Ċ),(by
    repeat' first
     | ext û
     | ext ġ
     | ext ò
     | ext Ă
     | ext ö
     | ext õ
     | ext ā
     | show ę
     | show ĝ)]
variable (d18:Mo Ã)
include d18
theorem Ď4:Mn Ã:=by
 ext HX;cases d18;exact#[yn [] (H.Cp.mk Æ) ?_,
  yn [] (H.Co.mk Æ) ?_,
  yn [] (H.Ck.mk Æ) ?_]
 all_goals
  ext Ģ;show#[_,(by
    repeat' first
     | show rfl
     | ext ñ
     | ext ÿ
     | ext ø
     | ext ô
     | apply yM | apply yN | apply vw | apply vx
     | ext ý
     | ext Ė | ext ă | ext Ą | ext Ĉ | ext ü | ext ù
     | ext ó
     | apply uq | apply vv | apply vt | apply uo | show um
     | ext þ
     | ext Ě
     | ext ú
     | show uu | show v_ | apply ur | apply vZ
     | show hr | show nd | ext ė | show à | show î | show ě | show Ĝ | show Ā | decide
     | show ċ | show Č | show č | show Ď | show ď | show Đ | show đ | show Ē | show ē | show Ĕ | show ą | show Ć | show ć | show ĉ | show Ċ),(by
    repeat' first
     | ext û
     | ext ġ
     | ext ò
     | ext Ă
     | ext ö
     | ext õ
     | ext ā
     | show ę
     | show ĝ)]
variable (d19:Mn Ã)
include d19
theorem Ā4:Mm Ã:=by
 ext G0;show#[H.ax.mk Æ (Δ8 ϒ (Δ8 ϒ (Δ8 ϒ zaW ś) ś) ś)]
variable (d20:Mm Ã)
include d20
theorem Ô4:Ml Ã:=by
 ext G0;cases d20;exact#[ľ0 Q7 ?_]
 all_goals
  ext Ģ;show#[_,(by
    repeat' first
     | show rfl
     | ext ñ
     | ext ÿ
     | ext ø
     | ext ô
     | apply yM | apply yN | apply vw | apply vx
     | ext ý
     | ext Ė | ext ă | ext Ą | ext Ĉ | ext ü | ext ù
     | ext ó
     | apply uq | apply vv | apply vt | apply uo | show um
     | ext þ
     | ext Ě
     | ext ú
     | show uu | show v_ | apply ur | apply vZ
     | show hr | show nd | ext ė | show à | show î | show ě | show Ĝ | show Ā | decide
     | show ċ | show Č | show č | show Ď | show ď | show Đ | show đ | show Ē | show ē | show Ĕ | show ą | show Ć | show ć | show ĉ | show Ċ),(by
    repeat' first
     | ext û
     | ext ġ
     | ext ò
     | ext Ă
     | ext ö
     | ext õ
     | ext ā
     | show ę
     | show ĝ)]
variable (d21:Ml Ã)
include d21
theorem È2:Mj Ã:=by
 ext Vv;show#[Â0 H.hk H.Es Æ,
  ù5 H.hk H.Er]
variable (d22:Mj Ã)
include d22
theorem Ø6:Mi Ã:=by
 ext rn;exact#[é2 Q7 ϛ];ext Ģ;show#[_,_,_,_,_,(by
   exact#[?_,?_,?_]
   all_goals
    repeat' first
     | show rfl
     | ext ñ
     | ext ÿ
     | ext ø
     | ext ô
     | apply yM | apply yN | apply vw | apply vx
     | ext ý
     | ext Ė | ext ă | ext Ą | ext Ĉ | ext ü | ext ù
     | ext ó
     | apply uq | apply vv | apply vt | apply uo | show um
     | ext þ
     | ext Ě
     | ext ú
     | show uu | show v_ | apply ur | apply vZ
     | show hr | show nd | ext ė | show à | show î | show ě | show Ĝ | show Ā | decide
     | show ċ | show Č | show č | show Ď | show ď | show Đ | show đ | show Ē | show ē | show Ĕ | show ą | show Ć | show ć | show ĉ | show Ċ),(by
   exact#[?_,?_,?_,?_]
   all_goals
    repeat' first
     | ext û
     | ext ġ
     | ext ò
     | ext Ă
     | ext ö
     | ext õ
     | ext ā
     | show ę
     | show ĝ)]
variable (d23:Mi Ã)
include d23
theorem đ3:Mh Ã:=by
 ext rn;cases d23;exact#[yn UJ (H.DZ.mk Æ) ?_,
  yn [(O1,[none,↑1,↑3]),(["_law_one"],EI)] (H.DW.mk Æ) ?_]
 all_goals
  ext Ģ;show#[_,(by
    repeat' first
     | show rfl
     | ext ñ
     | ext ÿ
     | ext ø
     | ext ô
     | apply yM | apply yN | apply vw | apply vx
     | ext ý
     | ext Ė | ext ă | ext Ą | ext Ĉ | ext ü | ext ù
     | ext ó
     | apply uq | apply vv | apply vt | apply uo | show um
     | ext þ
     | ext Ě
     | ext ú
     | show uu | show v_ | apply ur | apply vZ
     | show hr | show nd | ext ė | show à | show î | show ě | show Ĝ | show Ā | decide
     | show ċ | show Č | show č | show Ď | show ď | show Đ | show đ | show Ē | show ē | show Ĕ | show ą | show Ć | show ć | show ĉ | show Ċ),(by
    repeat' first
     | ext û
     | ext ġ
     | ext ò
     | ext Ă
     | ext ö
     | ext õ
     | ext ā
     | show ę
     | show ĝ)]
variable (d24:Mh Ã)
include d24
theorem Ê0 {f:Addr}{fd:Gq}(F:mv K "law" "law" (top 132) f fd):ot Ã xy 13 f Qc:=by
 ext rn;cases d23;cases d24;exact Ù3 [] F ?_
 all_goals
  intro cdv A outer s H E hc nd hN hS hr;show#[_,(by
    repeat' first
     | show rfl
     | ext ñ
     | ext ÿ
     | ext ø
     | ext ô
     | apply yM | apply yN | apply vw | apply vx
     | ext ý
     | ext Ė | ext ă | ext Ą | ext Ĉ | ext ü | ext ù
     | ext ó
     | apply uq | apply vv | apply vt | apply uo | show um
     | ext þ
     | ext Ě
     | ext ú
     | show uu | show v_ | apply ur | apply vZ
     | show hr | show nd | ext ė | show à | show î | show ě | show Ĝ | show Ā | decide
     | show ċ | show Č | show č | show Ď | show ď | show Đ | show đ | show Ē | show ē | show Ĕ | show ą | show Ć | show ć | show ĉ | show Ċ),(by
    repeat' first
     | ext û
     | ext ġ
     | ext ò
     | ext Ă
     | ext ö
     | ext õ
     | ext ā
     | show ę
     | show ĝ)]
end
def all_mk {l:Xz}{w:World}{K:zFr}{h:Heap}{mg:zSV}{fa:Addr}(X:K.In h) (G:KC) (hfa:mg "law"=↑(.ref fa)) (H:HH K w):
  ∃ fd:Gq,(∀ (s:Shared) (v:Value),BindsTo s fd #[[v],[]] [("_law_script",v)])/\∀ base:Heap,K.In base->base.Ns JN->ot l.prog w K jO Qc:=by
 have T:Bt mg:=#[zC2 Æ H.z0,zC2 Æ H.z1,zC2 Æ H.z2,zC2 Æ H.z3,zC2 Æ H.z4,zC2 Æ H.z5,zC2 Æ H.z6,zC2 Æ H.z7,zC2 Æ H.z8,zC2 Æ H.z9,zC2 Æ H.MN,zC2 Æ H.MM,zC2 Æ H.ML];have U:Bq mg:=#[zC2 Æ H.y0,zC2 Æ H.y1,zC2 Æ H.y2];have C:CC K w mg:=#[H.Bo.mk Æ,H.Bn.mk Æ,H.Bm.mk Æ,H.Bl.mk Æ,H.Bk.mk Æ,H.Bj.mk Æ,H.Bi.mk Æ,H.Bh.mk Æ,H.Bg.mk Æ,H.Bf.mk Æ,H.fo.mk Æ,H.hk];let#[fd,Fl,hb]:=H.DV.law Æ hfa λ _ _ _ _ _ _ _ _=>.of_eq rfl;exact#[fd,hb,λ base _ _=>?_];have d1:=ò9 SG;have d2:=ė7 FA;have d3:=Ä4 FA d2;have d4:=û6 FA d2 d3;have d5:=Đ8 FA d2 d3 d4;have d6:=ì2 VW;have d7:=ą9 Fy;have d8:=ß4 Fy d7;have d9:=ì8 WW;have d10:=È7 LC;have d11:=ß6 LC d10;have d12:=Ą5 Qw;have d13:=ě0 Qw d12;have d14:=Ė1 JP;have d15:=Ý5 JP d14;have d16:=Ć2 XY;have d17:=â9 Y7;have d18:=ï6 Iw;have d19:=Ď4 Iw d18;have d20:=Ā4 Ff;have d21:=Ô4 Ff d20;have d22:=È2 Ip;have d23:=Ø6 Ip d22;have d24:=đ3 Ip d22 d23;show Ê0 Ip d22 d23 d24 Fl
def walk {l:Xz}{q:Program}{loose:Ø}{XP:(Str->ä Value)->Heap->Prop}{YP:World->Heap->Prop}{d:DefRec}{K:Params->zFr}(hn:l.most=↑63) (hdf:d.params.defaults=[])
  (hY:∀ SE (h:Heap),YP w h->rR h)
  (F:∀ SE (mg:zSV) (fa:Addr) (h:Heap),rR h->KC->mg d.name=↑(.ref fa)->
   ∃ fd:Gq,(∀ (s:Shared) (u:Value),BindsTo s fd #[[u],[]] [("_law_script",u)])/\∀ base:Heap,rR base->base.Ns JN->ot l.prog w (RE) jO OY (UG)):
  PySem.W.WalkO q loose XP YP l.row.toRowW d [] (λ f vs=>PySem.call f vs):=
 L2.Þ7 (n:=63) (k:=13) (x:="_law_script") (CX:=λ _=>xy) (sp:=λ w=>UG) hn () hdf #[rfl,(),()] hY F (λ _ _ a ns hl hO hS=>æ2 Á5 hO hS hl) λ _ _ _ _ _ z=>z
def walkOfLaw:HypoOfLaw:=λ hdf hY hd H=>walk (l:=PySem.Challenge.rw_purseborder_k95_whole_steps_by_texts) rfl hdf hY λ w mg fa h KX G hmg=>all_mk KX G (by rw[<- hd];show hmg) (H w)
end z_
)

set_option maxHeartbeats 0 in
theorem PySem.Challenge.cw_purseborder_k95_whole_steps_by_texts_holds : PySem.Challenge.rw_purseborder_k95_whole_steps_by_texts.Holds := by
 exact PySem.Challenge.headOfLaw z_.walkOfLaw
