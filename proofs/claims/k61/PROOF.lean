import PyProof.Rows.All
import Wide.All
import OpenK.AllK
import Wide.FinOn
import Lean
import PyProof.EqAt
import PyProof.EqKinds
import PyProof.TupleCall
import PySem.SetOps
import PyProof.SetScanFacts
import PyProof.TupleKey
import PyProof.SetKind
import PyProof.SetRoads
import PyProof.IsRules
import PyProof.ZipIter
import PyProof.TupleIter
import PyProof.ListMulRoad
import PyProof.FactsAll.tuple
import PyProof.ListRange
import PyProof.Draws
import PyProof.EnumFor
import PyProof.Rows.ListMul
import PyProof.AutoListH
import PyProof.ExcInit
import PyProof.ExcClass2
import PyProof.InstStore
import PyProof.InstStoreFacts
import PyProof.ExcArgsOwn
import PyProof.IsInstance
import PyProof.IsInstanceH
import PyProof.StationsW
import PyProof.Rows.CatchOwn
import PyProof.FactsAll.dict_1
import PyProof.Rows.Range3
import PyProof.FitsBits
import PyProof.Rows.CallKwBuiltin
import PyProof.MinMaxWalk
import PyProof.WalkInts
import PyProof.Rows.MinMaxN
import PyProof.CollectWalk
import PyProof.EqKinds
import PyProof.Rows.SeqMore2
import PyProof.EqKinds
import PyProof.Rows.RuleB_bool
import PyProof.IsInstanceT
import PySem.Challenge.RW_purseborder_k61_floors_made
set_option Elab.async false
set_option linter.all false
set_option maxRecDepth 100000
set_option genSizeOf false
set_option compiler.extract_closed false
set_option bootstrap.genMatcherCode false
abbrev Ag:=PySem.Value->PySem.Shared->Prop
abbrev Aj:=List (PySem.Addr×PySem.Obj)
abbrev Ad:=List PySem.Value
abbrev Au:=PySem.Str->Option PySem.Value
abbrev Ar:=Array PySem.Value
def AM {p:Prop}[Decidable p](h:decide p=true:=by decide +kernel):p:=of_decide_eq_true h
noncomputable section
def MX:=@PySem.wpAny_bind
def gV:=@PySem.Heap.get?_push_of_some
def tp:=@decide_eq_true
def tx:=@decide_eq_false
def za4:=@PySem.wpAny_loadPart_at
def za5:=@PySem.wpAny_field
def za6:=@PySem.wpAny_mono
def za7:=@PySem.wpAny_holding
def za8:=@PySem.Heap.get?_update_self
def za9:=@PySem.Heap.get?_update_other
def zaA:=@PySem.wpAny_newObj_type
def zaB:=@PySem.wpAny_call_entry
def zaC:=@PySem.wpAny_seqItems
def zaD:=@PySem.wpAny_setState_of
def zaE:=@PySem.wpAny_isSubtype_exc
def zaF:=@PySem.wpAny_setField
def zaG:=@PySem.wpAny_callSpecial?_slot
def zaH:=@PySem.wpAny_truthy_bool
def zaI:=@PySem.wpAny_rule
def zaJ:=@PySem.wpAny_Call_Name_kw
def zaK:=@PySem.wpAny_typeOf
def zaL:=@PySem.Heap.get?_update_ne
def zaM:=@PySem.wpAny_execs_nil
def zaN:=@PySem.wpAny_standAt
def zaO:=@PySem.wpAny_passesOwn
def zaP:=@PySem.wpAny_setField_rec
def zaQ:=@PySem.Heap.get?_none_of_le
def zaR:=@PySem.wpAny_attempt
def zaS:=@PySem.wpAny_askSetting
def zaT:=@PySem.wpAny_updateSeq
def Ap:=@Option.bind_eq_some_iff
def Aw:=@List.mem_cons_self
def AD:=@List.mem_cons_of_mem
def AN:=@List.not_mem_nil
def AU:=@Option.map_eq_some_iff
def Bj:=@List.nodup_cons
def Bi:=@Bool.true_and
def Bv:=@List.lookup_cons
def Bu:=@List.contains_cons
def BC:=@Bool.false_ne_true
def BB:=@Nat.ne_of_gt
def BA:=@List.map_nil
def Bz:=@List.all_map
def BJ:=@List.pairwise_cons
def BO:=@Nat.lt_or_ge
def BZ:=@List.length_set
def BX:=@List.mem_iff_getElem
def BW:=@Int.toNat_natCast
def B_:=@List.length_take
def B9:=@Bool.not_eq_true'
def B8:=@List.pairwise_map
def Cp:=@List.all_cons
def Ct:=@Nat.lt_trans
def CM:=@List.getElem?_append_right
def CL:=@List.getElem?_append_left
def CK:=@List.replicate_succ
def CJ:=@Nat.le_succ
def CI:=@Bool.or_true
def CH:=@List.pairwise_iff_getElem
def CG:=@Bool.and_false
def CF:=@Array.getElem_toList
def CD:=@Bool.not_eq_false'
def CW:=@List.mem_append_left
def CV:=@List.append_nil
def CU:=@List.flatten_cons
def CT:=@Array.size_map
def CS:=@List.map_drop
def CQ:=@Nat.lt_succ_of_lt
def CP:=@List.map_congr_left
def Dk:=@List.mem_filterMap
def Dj:=@List.length_drop
def Di:=@List.forIn_cons
def Dh:=@List.getElem?_set
def Dg:=@Array.getElem?_eq_none
def Df:=@Nat.le_add_right
def DL:=@List.filterMap_cons
def DJ:=@List.getElem?_set_ne
def DI:=@Bool.false_and
def DH:=@List.of_mem_zip
def DG:=@List.pairwise_singleton
def DF:=@List.forIn_nil
def DE:=@Array.getD_eq_getD_getElem?
def DD:=@List.ext_getElem
def DC:=@Bool.and_true
def DB:=@List.any_cons
def DA:=@Nat.mod_lt
def Dz:=@List.toList_toArray
def Dy:=@List.map_take
def Dx:=@List.eraseIdx_cons_succ
def Dw:=@List.nodup_nil
def Dv:=@List.length_nil
def Du:=@List.map_eq_nil_iff
def Em:=@List.getElem?_set_self
def El:=@List.lookup_append
def Ek:=@Bool.and_self
def Ej:=@Nat.mul_comm
def Eh:=@List.nodup_range
def Eg:=@Nat.lt_trichotomy
def Ef:=@Array.getElem?_setIfInBounds
def Ee:=@List.perm_ext_iff_of_nodup
def Ed:=@Int.zero_add
def Eb:=@Array.size_push
def Ea:=@List.zip_cons_cons
def D_:=@Bool.not_and
def D9:=@List.map_id'
def D8:=@Nat.succ_pos
def D7:=@List.all_eq_false
def D6:=@Nat.le_add_left
def EY:=@List.getElem_inj
def EX:=@Option.isSome_iff_exists
def EW:=@List.getElem?_replicate
def EV:=@List.pairwise_append
def EU:=@List.range_succ_eq_map
def ET:=@Nat.eq_zero_or_pos
def ES:=@List.take_append_drop
def EO:=@List.mem_of_mem_drop
def EN:=@List.mem_of_mem_take
def EM:=@List.mem_iff_getElem?
def EL:=@Nat.add_sub_cancel
def EK:=@List.perm_append_singleton
def EJ:=@List.length_eraseIdx_of_lt
def EI:=@List.idxOf_lt_length_iff
def EH:=@List.getElem_idxOf
def EG:=@Array.getElem?_push
def EF:=@Bool.not_eq_true
def EE:=@List.getElem?_cons_zero
def ED:=@Bool.or_eq_false_iff
def EC:=@List.all_append
def EB:=@List.mem_or_eq_of_mem_set
def EA:=@List.length_filter_le
def zcS:=@Array.getElem?_setIfInBounds_ne
def zcT:=@List.set_eq_take_append_cons_drop
def AG:=@List.size_toArray
def AF:=@List.getElem?_eq_getElem
def AY:=@List.getElem?_eq_some_iff
def AQ:=@List.getElem?_map
def Am:=@Nat.le_refl
def Ao:=@List.mem_cons
def AJ:=@List.map_cons
def Af:=@List.length_map
def An:=@PySem.Heap.lt_size
def AW:=@PySem.Heap.get?_push_size
def Av:=@List.mem_map
def A9:=@List.getD_eq_getElem?_getD
def CN:=@Bool.not_false
def AB:=@Nat.ne_of_lt
def A8:=@List.mem_append_right
def C1:=@Bool.not_true
def A4:=@List.mem_singleton
def B6:=@List.mem_of_getElem?
def Bf:=@Array.getElem?_eq_getElem
def Bb:=@List.mem_append
def Be:=@List.length_cons
def AO:=@List.mem_range
def Bn:=@PySem.W.mg_none_of
def Ba:=@Nat.lt_of_lt_of_le
def Bd:=@Bool.false_eq_true
def B5:=@List.length_range
def Dm:=@Bool.eq_iff_iff
def C0:=@List.mem_filter
def B4:=@Option.bind_some
def Cr:=@List.any_eq_true
def Ac:=@PySem.wpAny_pure
def Bw:=@Array.length_toList
def BK:=@Array.getElem?_toList
def A_:=@Nat.zero_le
def Bm:=@Option.some.inj
def AI:=@List.map_map
def Bh:=@List.length_append
def B3:=@List.getElem_mem
def Bc:=@Nat.le_trans
def Cq:=@Nat.lt_irrefl
def CZ:=@Nat.lt_succ_self
def Bl:=@Nat.le_of_lt
def AV:=@List.all_eq_true
def AK:=@Bool.and_eq_true
def Dl:=@Bool.or_eq_true
def B2:=@List.map_append
def DM:=@List.append_assoc
def BP:=@Int.emod_nonneg
def Ca:=@Int.emod_lt_of_pos
def CY:=@Int.toNat_of_nonneg
section
theorem E_0_1{p:Prop}{G:Prop}(h:p) (f:p->G):G:=f h
theorem E_0_2{p q:Prop}{G:Prop}(h:p/\q) (f:p->q->G):G:=E_0_1 h.2 (f h.1)
theorem E_1_1{α:Sort _}{p:α->Prop}{G:Prop}(h:∃ a,p a) (f:∀ a,p a->G):G:=h.elim λ a h=>E_0_1 h (f a)
theorem E_0_3{p q r:Prop}{G:Prop}(h:p/\q/\r) (f:p->q->r->G):G:=E_0_2 h.2 (f h.1)
theorem E_1_2{α:Sort _}{p q:α->Prop}{G:Prop}(h:∃ a,p a/\q a) (f:∀ a,p a->q a->G):G:=h.elim λ a h=>E_0_2 h (f a)
theorem E_2_1{α β:Sort _}{p:α->β->Prop}{G:Prop}(h:∃ a b,p a b) (f:∀ a b,p a b->G):G:=h.elim λ a h=>E_1_1 h (f a)
theorem E_0_4{p q r s:Prop}{G:Prop}(h:p/\q/\r/\s) (f:p->q->r->s->G):G:=E_0_3 h.2 (f h.1)
theorem E_1_3{α:Sort _}{p q r:α->Prop}{G:Prop}(h:∃ a,p a/\q a/\r a) (f:∀ a,p a->q a->r a->G):G:=h.elim λ a h=>E_0_3 h (f a)
theorem E_2_2{α β:Sort _}{p q:α->β->Prop}{G:Prop}(h:∃ a b,p a b/\q a b) (f:∀ a b,p a b->q a b->G):G:=h.elim λ a h=>E_1_2 h (f a)
theorem E_3_1{α β γ:Sort _}{p:α->β->γ->Prop}{G:Prop}(h:∃ a b c,p a b c) (f:∀ a b c,p a b c->G):G:=h.elim λ a h=>E_2_1 h (f a)
theorem E_0_5{p q r s t:Prop}{G:Prop}(h:p/\q/\r/\s/\t) (f:p->q->r->s->t->G):G:=E_0_4 h.2 (f h.1)
theorem E_1_4{α:Sort _}{p q r s:α->Prop}{G:Prop}(h:∃ a,p a/\q a/\r a/\s a) (f:∀ a,p a->q a->r a->s a->G):G:=h.elim λ a h=>E_0_4 h (f a)
theorem E_2_3{α β:Sort _}{p q r:α->β->Prop}{G:Prop}(h:∃ a b,p a b/\q a b/\r a b) (f:∀ a b,p a b->q a b->r a b->G):G:=h.elim λ a h=>E_1_3 h (f a)
theorem E_3_2{α β γ:Sort _}{p q:α->β->γ->Prop}{G:Prop}(h:∃ a b c,p a b c/\q a b c) (f:∀ a b c,p a b c->q a b c->G):G:=h.elim λ a h=>E_2_2 h (f a)
theorem E_4_1{α β γ δ:Sort _}{p:α->β->γ->δ->Prop}{G:Prop}(h:∃ a b c d,p a b c d) (f:∀ a b c d,p a b c d->G):G:=h.elim λ a h=>E_3_1 h (f a)
theorem E_0_6{p q r s t u:Prop}{G:Prop}(h:p/\q/\r/\s/\t/\u) (f:p->q->r->s->t->u->G):G:=E_0_5 h.2 (f h.1)
theorem E_1_5{α:Sort _}{p q r s t:α->Prop}{G:Prop}(h:∃ a,p a/\q a/\r a/\s a/\t a) (f:∀ a,p a->q a->r a->s a->t a->G):G:=h.elim λ a h=>E_0_5 h (f a)
theorem E_2_4{α β:Sort _}{p q r s:α->β->Prop}{G:Prop}(h:∃ a b,p a b/\q a b/\r a b/\s a b) (f:∀ a b,p a b->q a b->r a b->s a b->G):G:=h.elim λ a h=>E_1_4 h (f a)
theorem E_3_3{α β γ:Sort _}{p q r:α->β->γ->Prop}{G:Prop}(h:∃ a b c,p a b c/\q a b c/\r a b c) (f:∀ a b c,p a b c->q a b c->r a b c->G):G:=h.elim λ a h=>E_2_3 h (f a)
theorem E_4_2{α β γ δ:Sort _}{p q:α->β->γ->δ->Prop}{G:Prop}(h:∃ a b c d,p a b c d/\q a b c d) (f:∀ a b c d,p a b c d->q a b c d->G):G:=h.elim λ a h=>E_3_2 h (f a)
theorem E_5_1{α β γ δ ε:Sort _}{p:α->β->γ->δ->ε->Prop}{G:Prop}(h:∃ a b c d e,p a b c d e) (f:∀ a b c d e,p a b c d e->G):G:=h.elim λ a h=>E_4_1 h (f a)
theorem E_0_7{p q r s t u v:Prop}{G:Prop}(h:p/\q/\r/\s/\t/\u/\v) (f:p->q->r->s->t->u->v->G):G:=E_0_6 h.2 (f h.1)
theorem E_1_6{α:Sort _}{p q r s t u:α->Prop}{G:Prop}(h:∃ a,p a/\q a/\r a/\s a/\t a/\u a) (f:∀ a,p a->q a->r a->s a->t a->u a->G):G:=h.elim λ a h=>E_0_6 h (f a)
theorem E_2_5{α β:Sort _}{p q r s t:α->β->Prop}{G:Prop}(h:∃ a b,p a b/\q a b/\r a b/\s a b/\t a b) (f:∀ a b,p a b->q a b->r a b->s a b->t a b->G):G:=h.elim λ a h=>E_1_5 h (f a)
theorem E_3_4{α β γ:Sort _}{p q r s:α->β->γ->Prop}{G:Prop}(h:∃ a b c,p a b c/\q a b c/\r a b c/\s a b c) (f:∀ a b c,p a b c->q a b c->r a b c->s a b c->G):G:=h.elim λ a h=>E_2_4 h (f a)
theorem E_4_3{α β γ δ:Sort _}{p q r:α->β->γ->δ->Prop}{G:Prop}(h:∃ a b c d,p a b c d/\q a b c d/\r a b c d) (f:∀ a b c d,p a b c d->q a b c d->r a b c d->G):G:=h.elim λ a h=>E_3_3 h (f a)
theorem E_5_2{α β γ δ ε:Sort _}{p q:α->β->γ->δ->ε->Prop}{G:Prop}(h:∃ a b c d e,p a b c d e/\q a b c d e) (f:∀ a b c d e,p a b c d e->q a b c d e->G):G:=h.elim λ a h=>E_4_2 h (f a)
theorem E_6_1{α β γ δ ε ζ:Sort _}{p:α->β->γ->δ->ε->ζ->Prop}{G:Prop}(h:∃ a b c d e f,p a b c d e f) (f:∀ a b c d e f,p a b c d e f->G):G:=h.elim λ a h=>E_5_1 h (f a)
theorem E_0_8{p q r s t u v w:Prop}{G:Prop}(h:p/\q/\r/\s/\t/\u/\v/\w) (f:p->q->r->s->t->u->v->w->G):G:=E_0_7 h.2 (f h.1)
theorem E_1_7{α:Sort _}{p q r s t u v:α->Prop}{G:Prop}(h:∃ a,p a/\q a/\r a/\s a/\t a/\u a/\v a) (f:∀ a,p a->q a->r a->s a->t a->u a->v a->G):G:=h.elim λ a h=>E_0_7 h (f a)
theorem E_2_6{α β:Sort _}{p q r s t u:α->β->Prop}{G:Prop}(h:∃ a b,p a b/\q a b/\r a b/\s a b/\t a b/\u a b) (f:∀ a b,p a b->q a b->r a b->s a b->t a b->u a b->G):G:=h.elim λ a h=>E_1_6 h (f a)
theorem E_3_5{α β γ:Sort _}{p q r s t:α->β->γ->Prop}{G:Prop}(h:∃ a b c,p a b c/\q a b c/\r a b c/\s a b c/\t a b c) (f:∀ a b c,p a b c->q a b c->r a b c->s a b c->t a b c->G):G:=h.elim λ a h=>E_2_5 h (f a)
theorem E_4_4{α β γ δ:Sort _}{p q r s:α->β->γ->δ->Prop}{G:Prop}(h:∃ a b c d,p a b c d/\q a b c d/\r a b c d/\s a b c d) (f:∀ a b c d,p a b c d->q a b c d->r a b c d->s a b c d->G):G:=h.elim λ a h=>E_3_4 h (f a)
theorem E_5_3{α β γ δ ε:Sort _}{p q r:α->β->γ->δ->ε->Prop}{G:Prop}(h:∃ a b c d e,p a b c d e/\q a b c d e/\r a b c d e) (f:∀ a b c d e,p a b c d e->q a b c d e->r a b c d e->G):G:=h.elim λ a h=>E_4_3 h (f a)
theorem E_6_2{α β γ δ ε ζ:Sort _}{p q:α->β->γ->δ->ε->ζ->Prop}{G:Prop}(h:∃ a b c d e f,p a b c d e f/\q a b c d e f) (f:∀ a b c d e f,p a b c d e f->q a b c d e f->G):G:=h.elim λ a h=>E_5_2 h (f a)
theorem E_7_1{α β γ δ ε ζ η:Sort _}{p:α->β->γ->δ->ε->ζ->η->Prop}{G:Prop}(h:∃ a b c d e f g,p a b c d e f g) (f:∀ a b c d e f g,p a b c d e f g->G):G:=h.elim λ a h=>E_6_1 h (f a)
theorem E_0_9{p q r s t u v w x:Prop}{G:Prop}(h:p/\q/\r/\s/\t/\u/\v/\w/\x) (f:p->q->r->s->t->u->v->w->x->G):G:=E_0_8 h.2 (f h.1)
theorem E_1_8{α:Sort _}{p q r s t u v w:α->Prop}{G:Prop}(h:∃ a,p a/\q a/\r a/\s a/\t a/\u a/\v a/\w a) (f:∀ a,p a->q a->r a->s a->t a->u a->v a->w a->G):G:=h.elim λ a h=>E_0_8 h (f a)
theorem E_2_7{α β:Sort _}{p q r s t u v:α->β->Prop}{G:Prop}(h:∃ a b,p a b/\q a b/\r a b/\s a b/\t a b/\u a b/\v a b) (f:∀ a b,p a b->q a b->r a b->s a b->t a b->u a b->v a b->G):G:=h.elim λ a h=>E_1_7 h (f a)
theorem E_3_6{α β γ:Sort _}{p q r s t u:α->β->γ->Prop}{G:Prop}(h:∃ a b c,p a b c/\q a b c/\r a b c/\s a b c/\t a b c/\u a b c) (f:∀ a b c,p a b c->q a b c->r a b c->s a b c->t a b c->u a b c->G):G:=h.elim λ a h=>E_2_6 h (f a)
theorem E_4_5{α β γ δ:Sort _}{p q r s t:α->β->γ->δ->Prop}{G:Prop}(h:∃ a b c d,p a b c d/\q a b c d/\r a b c d/\s a b c d/\t a b c d) (f:∀ a b c d,p a b c d->q a b c d->r a b c d->s a b c d->t a b c d->G):G:=h.elim λ a h=>E_3_5 h (f a)
theorem E_5_4{α β γ δ ε:Sort _}{p q r s:α->β->γ->δ->ε->Prop}{G:Prop}(h:∃ a b c d e,p a b c d e/\q a b c d e/\r a b c d e/\s a b c d e) (f:∀ a b c d e,p a b c d e->q a b c d e->r a b c d e->s a b c d e->G):G:=h.elim λ a h=>E_4_4 h (f a)
theorem E_6_3{α β γ δ ε ζ:Sort _}{p q r:α->β->γ->δ->ε->ζ->Prop}{G:Prop}(h:∃ a b c d e f,p a b c d e f/\q a b c d e f/\r a b c d e f) (f:∀ a b c d e f,p a b c d e f->q a b c d e f->r a b c d e f->G):G:=h.elim λ a h=>E_5_3 h (f a)
theorem E_7_2{α β γ δ ε ζ η:Sort _}{p q:α->β->γ->δ->ε->ζ->η->Prop}{G:Prop}(h:∃ a b c d e f g,p a b c d e f g/\q a b c d e f g) (f:∀ a b c d e f g,p a b c d e f g->q a b c d e f g->G):G:=h.elim λ a h=>E_6_2 h (f a)
theorem E_8_1{α β γ δ ε ζ η θ:Sort _}{p:α->β->γ->δ->ε->ζ->η->θ->Prop}{G:Prop}(h:∃ a b c d e f g h,p a b c d e f g h) (f:∀ a b c d e f g h,p a b c d e f g h->G):G:=h.elim λ a h=>E_7_1 h (f a)
theorem E_0_10{p q r s t u v w x y:Prop}{G:Prop}(h:p/\q/\r/\s/\t/\u/\v/\w/\x/\y) (f:p->q->r->s->t->u->v->w->x->y->G):G:=E_0_9 h.2 (f h.1)
theorem E_1_9{α:Sort _}{p q r s t u v w x:α->Prop}{G:Prop}(h:∃ a,p a/\q a/\r a/\s a/\t a/\u a/\v a/\w a/\x a) (f:∀ a,p a->q a->r a->s a->t a->u a->v a->w a->x a->G):G:=h.elim λ a h=>E_0_9 h (f a)
theorem E_2_8{α β:Sort _}{p q r s t u v w:α->β->Prop}{G:Prop}(h:∃ a b,p a b/\q a b/\r a b/\s a b/\t a b/\u a b/\v a b/\w a b) (f:∀ a b,p a b->q a b->r a b->s a b->t a b->u a b->v a b->w a b->G):G:=h.elim λ a h=>E_1_8 h (f a)
theorem E_3_7{α β γ:Sort _}{p q r s t u v:α->β->γ->Prop}{G:Prop}(h:∃ a b c,p a b c/\q a b c/\r a b c/\s a b c/\t a b c/\u a b c/\v a b c) (f:∀ a b c,p a b c->q a b c->r a b c->s a b c->t a b c->u a b c->v a b c->G):G:=h.elim λ a h=>E_2_7 h (f a)
theorem E_4_6{α β γ δ:Sort _}{p q r s t u:α->β->γ->δ->Prop}{G:Prop}(h:∃ a b c d,p a b c d/\q a b c d/\r a b c d/\s a b c d/\t a b c d/\u a b c d) (f:∀ a b c d,p a b c d->q a b c d->r a b c d->s a b c d->t a b c d->u a b c d->G):G:=h.elim λ a h=>E_3_6 h (f a)
theorem E_5_5{α β γ δ ε:Sort _}{p q r s t:α->β->γ->δ->ε->Prop}{G:Prop}(h:∃ a b c d e,p a b c d e/\q a b c d e/\r a b c d e/\s a b c d e/\t a b c d e) (f:∀ a b c d e,p a b c d e->q a b c d e->r a b c d e->s a b c d e->t a b c d e->G):G:=h.elim λ a h=>E_4_5 h (f a)
theorem E_6_4{α β γ δ ε ζ:Sort _}{p q r s:α->β->γ->δ->ε->ζ->Prop}{G:Prop}(h:∃ a b c d e f,p a b c d e f/\q a b c d e f/\r a b c d e f/\s a b c d e f) (f:∀ a b c d e f,p a b c d e f->q a b c d e f->r a b c d e f->s a b c d e f->G):G:=h.elim λ a h=>E_5_4 h (f a)
theorem E_7_3{α β γ δ ε ζ η:Sort _}{p q r:α->β->γ->δ->ε->ζ->η->Prop}{G:Prop}(h:∃ a b c d e f g,p a b c d e f g/\q a b c d e f g/\r a b c d e f g) (f:∀ a b c d e f g,p a b c d e f g->q a b c d e f g->r a b c d e f g->G):G:=h.elim λ a h=>E_6_3 h (f a)
theorem E_8_2{α β γ δ ε ζ η θ:Sort _}{p q:α->β->γ->δ->ε->ζ->η->θ->Prop}{G:Prop}(h:∃ a b c d e f g h,p a b c d e f g h/\q a b c d e f g h) (f:∀ a b c d e f g h,p a b c d e f g h->q a b c d e f g h->G):G:=h.elim λ a h=>E_7_2 h (f a)
theorem E_9_1{α β γ δ ε ζ η θ ι:Sort _}{p:α->β->γ->δ->ε->ζ->η->θ->ι->Prop}{G:Prop}(h:∃ a b c d e f g h i,p a b c d e f g h i) (f:∀ a b c d e f g h i,p a b c d e f g h i->G):G:=h.elim λ a h=>E_8_1 h (f a)
theorem E_0_11{p q r s t u v w x y z:Prop}{G:Prop}(h:p/\q/\r/\s/\t/\u/\v/\w/\x/\y/\z) (f:p->q->r->s->t->u->v->w->x->y->z->G):G:=E_0_10 h.2 (f h.1)
theorem E_1_10{α:Sort _}{p q r s t u v w x y:α->Prop}{G:Prop}(h:∃ a,p a/\q a/\r a/\s a/\t a/\u a/\v a/\w a/\x a/\y a) (f:∀ a,p a->q a->r a->s a->t a->u a->v a->w a->x a->y a->G):G:=h.elim λ a h=>E_0_10 h (f a)
theorem E_2_9{α β:Sort _}{p q r s t u v w x:α->β->Prop}{G:Prop}(h:∃ a b,p a b/\q a b/\r a b/\s a b/\t a b/\u a b/\v a b/\w a b/\x a b) (f:∀ a b,p a b->q a b->r a b->s a b->t a b->u a b->v a b->w a b->x a b->G):G:=h.elim λ a h=>E_1_9 h (f a)
theorem E_3_8{α β γ:Sort _}{p q r s t u v w:α->β->γ->Prop}{G:Prop}(h:∃ a b c,p a b c/\q a b c/\r a b c/\s a b c/\t a b c/\u a b c/\v a b c/\w a b c) (f:∀ a b c,p a b c->q a b c->r a b c->s a b c->t a b c->u a b c->v a b c->w a b c->G):G:=h.elim λ a h=>E_2_8 h (f a)
theorem E_4_7{α β γ δ:Sort _}{p q r s t u v:α->β->γ->δ->Prop}{G:Prop}(h:∃ a b c d,p a b c d/\q a b c d/\r a b c d/\s a b c d/\t a b c d/\u a b c d/\v a b c d) (f:∀ a b c d,p a b c d->q a b c d->r a b c d->s a b c d->t a b c d->u a b c d->v a b c d->G):G:=h.elim λ a h=>E_3_7 h (f a)
theorem E_5_6{α β γ δ ε:Sort _}{p q r s t u:α->β->γ->δ->ε->Prop}{G:Prop}(h:∃ a b c d e,p a b c d e/\q a b c d e/\r a b c d e/\s a b c d e/\t a b c d e/\u a b c d e) (f:∀ a b c d e,p a b c d e->q a b c d e->r a b c d e->s a b c d e->t a b c d e->u a b c d e->G):G:=h.elim λ a h=>E_4_6 h (f a)
theorem E_6_5{α β γ δ ε ζ:Sort _}{p q r s t:α->β->γ->δ->ε->ζ->Prop}{G:Prop}(h:∃ a b c d e f,p a b c d e f/\q a b c d e f/\r a b c d e f/\s a b c d e f/\t a b c d e f) (f:∀ a b c d e f,p a b c d e f->q a b c d e f->r a b c d e f->s a b c d e f->t a b c d e f->G):G:=h.elim λ a h=>E_5_5 h (f a)
theorem E_7_4{α β γ δ ε ζ η:Sort _}{p q r s:α->β->γ->δ->ε->ζ->η->Prop}{G:Prop}(h:∃ a b c d e f g,p a b c d e f g/\q a b c d e f g/\r a b c d e f g/\s a b c d e f g) (f:∀ a b c d e f g,p a b c d e f g->q a b c d e f g->r a b c d e f g->s a b c d e f g->G):G:=h.elim λ a h=>E_6_4 h (f a)
theorem E_8_3{α β γ δ ε ζ η θ:Sort _}{p q r:α->β->γ->δ->ε->ζ->η->θ->Prop}{G:Prop}(h:∃ a b c d e f g h,p a b c d e f g h/\q a b c d e f g h/\r a b c d e f g h) (f:∀ a b c d e f g h,p a b c d e f g h->q a b c d e f g h->r a b c d e f g h->G):G:=h.elim λ a h=>E_7_3 h (f a)
theorem E_9_2{α β γ δ ε ζ η θ ι:Sort _}{p q:α->β->γ->δ->ε->ζ->η->θ->ι->Prop}{G:Prop}(h:∃ a b c d e f g h i,p a b c d e f g h i/\q a b c d e f g h i) (f:∀ a b c d e f g h i,p a b c d e f g h i->q a b c d e f g h i->G):G:=h.elim λ a h=>E_8_2 h (f a)
theorem E_1_11{α:Sort _}{p q r s t u v w x y z:α->Prop}{G:Prop}(h:∃ a,p a/\q a/\r a/\s a/\t a/\u a/\v a/\w a/\x a/\y a/\z a) (f:∀ a,p a->q a->r a->s a->t a->u a->v a->w a->x a->y a->z a->G):G:=h.elim λ a h=>E_0_11 h (f a)
theorem E_2_10{α β:Sort _}{p q r s t u v w x y:α->β->Prop}{G:Prop}(h:∃ a b,p a b/\q a b/\r a b/\s a b/\t a b/\u a b/\v a b/\w a b/\x a b/\y a b) (f:∀ a b,p a b->q a b->r a b->s a b->t a b->u a b->v a b->w a b->x a b->y a b->G):G:=h.elim λ a h=>E_1_10 h (f a)
theorem E_3_9{α β γ:Sort _}{p q r s t u v w x:α->β->γ->Prop}{G:Prop}(h:∃ a b c,p a b c/\q a b c/\r a b c/\s a b c/\t a b c/\u a b c/\v a b c/\w a b c/\x a b c) (f:∀ a b c,p a b c->q a b c->r a b c->s a b c->t a b c->u a b c->v a b c->w a b c->x a b c->G):G:=h.elim λ a h=>E_2_9 h (f a)
theorem E_4_8{α β γ δ:Sort _}{p q r s t u v w:α->β->γ->δ->Prop}{G:Prop}(h:∃ a b c d,p a b c d/\q a b c d/\r a b c d/\s a b c d/\t a b c d/\u a b c d/\v a b c d/\w a b c d) (f:∀ a b c d,p a b c d->q a b c d->r a b c d->s a b c d->t a b c d->u a b c d->v a b c d->w a b c d->G):G:=h.elim λ a h=>E_3_8 h (f a)
theorem E_5_7{α β γ δ ε:Sort _}{p q r s t u v:α->β->γ->δ->ε->Prop}{G:Prop}(h:∃ a b c d e,p a b c d e/\q a b c d e/\r a b c d e/\s a b c d e/\t a b c d e/\u a b c d e/\v a b c d e) (f:∀ a b c d e,p a b c d e->q a b c d e->r a b c d e->s a b c d e->t a b c d e->u a b c d e->v a b c d e->G):G:=h.elim λ a h=>E_4_7 h (f a)
theorem E_6_6{α β γ δ ε ζ:Sort _}{p q r s t u:α->β->γ->δ->ε->ζ->Prop}{G:Prop}(h:∃ a b c d e f,p a b c d e f/\q a b c d e f/\r a b c d e f/\s a b c d e f/\t a b c d e f/\u a b c d e f) (f:∀ a b c d e f,p a b c d e f->q a b c d e f->r a b c d e f->s a b c d e f->t a b c d e f->u a b c d e f->G):G:=h.elim λ a h=>E_5_6 h (f a)
theorem E_7_5{α β γ δ ε ζ η:Sort _}{p q r s t:α->β->γ->δ->ε->ζ->η->Prop}{G:Prop}(h:∃ a b c d e f g,p a b c d e f g/\q a b c d e f g/\r a b c d e f g/\s a b c d e f g/\t a b c d e f g) (f:∀ a b c d e f g,p a b c d e f g->q a b c d e f g->r a b c d e f g->s a b c d e f g->t a b c d e f g->G):G:=h.elim λ a h=>E_6_5 h (f a)
theorem E_8_4{α β γ δ ε ζ η θ:Sort _}{p q r s:α->β->γ->δ->ε->ζ->η->θ->Prop}{G:Prop}(h:∃ a b c d e f g h,p a b c d e f g h/\q a b c d e f g h/\r a b c d e f g h/\s a b c d e f g h) (f:∀ a b c d e f g h,p a b c d e f g h->q a b c d e f g h->r a b c d e f g h->s a b c d e f g h->G):G:=h.elim λ a h=>E_7_4 h (f a)
theorem E_9_3{α β γ δ ε ζ η θ ι:Sort _}{p q r:α->β->γ->δ->ε->ζ->η->θ->ι->Prop}{G:Prop}(h:∃ a b c d e f g h i,p a b c d e f g h i/\q a b c d e f g h i/\r a b c d e f g h i) (f:∀ a b c d e f g h i,p a b c d e f g h i->q a b c d e f g h i->r a b c d e f g h i->G):G:=h.elim λ a h=>E_8_3 h (f a)
end
open Lean in
def eKM (a:Array Term) (e:Term):MacroM (TSyntax `tactic):=do
 let n:=a.size
 if n<3||n>12 then Macro.throwUnsupported
 let f<-(List.range n).toArray.mapM λ k=>`(tacticSeq|refine $(mkIdent (.mkSimple s!"E_{n-1-k}_{k+1}")):ident $e ?_)
 let mut ts:=#[<-`(tactic|first $[|$f]*)]
 if e.raw.isIdent then ts:=ts.push (<-`(tactic|try clear $(⟨e.raw⟩):ident))
 let mut xs:Array Term:=#[]
 for x in a do
  if x.raw.isOfKind ``Lean.Parser.Term.hole||x.raw.isIdent&&x.raw.getId != `rfl then xs:=xs.push x
  else
   let y:Term<-withFreshMacroScope `(y)
   xs:=xs.push y
   ts:=ts.push (<-`(tactic|intro $xs:term*))
   xs:=#[]
   ts:=ts.push (<-if x.raw.isIdent then `(tactic|obtain $(⟨x.raw⟩):ident:=$y) else `(tactic|let $x:term:=$y))
 if xs.size>0 then ts:=ts.push (<-`(tactic|intro $xs:term*))
 `(tactic|($[$ts:tactic]*))
open Lean in
def czXX (T:NameMap (List Syntax)):Nat->Syntax->List Syntax
|0,s=>[s]
|n+1,s=>match s with
 |.ident _ _ v _=>(T.find? v).getD [s]
 |.node i k a=>
  match if k== ``Lean.Elab.Tactic.Ext.ext then T.find? s[1][0][0][0].getId else if k== ``Lean.Parser.Term.implicitBinder&&s[2].getNumArgs==0 then T.find? s[1][0].getId else none with
  |some r=>if r.head!.isOfKind ``Lean.Parser.Term.byTactic then r.head![1][0][0].getArgs.toList else r
  |_=>let b:=a.toList.flatMap (czXX T n)
   [.node i k (match b with
    |[f,x]=>if k== ``Lean.Parser.Term.app&&f.isOfKind k then #[f[0],mkNullNode (f[1].getArgs++x.getArgs)] else b.toArray
    |_=>b.toArray)]
 |_=>[s]
open Lean in
def czYY (q:Syntax):Array Syntax:=(q[1].getArgs.foldl (λ(T,a) c=>
 let e:=c[1]
 let z:=czXX T 9999
 if c.isOfKind ``Lean.Parser.Command.declaration&&e.isOfKind ``Lean.Parser.Command.example then
  let b:=e[1][0].getArgs
  let v:=e[2][1]
  (T.insert b[0]!.getId (if b.size==1 then z v else if b[1]!.isOfKind ``Lean.Parser.Term.hole then v[1].getArgs.toList.flatMap z else (b.toList.drop 1).flatMap z),a)
 else (T,a++z c)) ((∅:NameMap (List Syntax)),#[])).2
local macro_rules(kind:=Lean.Parser.Command.declaration)|s=>do
 unless s[1][2][1].isOfKind ``Lean.Parser.Command.quot do Lean.Macro.throwUnsupported
 return Lean.mkNullNode (czYY s[1][2][1])
open Lean in
def zRc:Nat->Term->MacroM (TSyntax `rcasesPat)
|0,_=>Macro.throwUnsupported
|n+1,t=>match t with
 |`(#[$xs,*])=>do let ys<-xs.getElems.mapM (zRc n);`(rcasesPat|⟨$[$ys:rcasesPat],*⟩)
 |`(_)=>`(rcasesPat|_)
 |`($x:ident)=>`(rcasesPat|$x:ident)
 |_=>Macro.throwUnsupported
local macro_rules|`(tactic|let $p:term:=$e)=>do let q<-zRc 9 p;`(tactic|obtain $q:rcasesPat:=$e)
local macro_rules|`(tactic|let #[$a,*]:=$e)=>do let q<-zRc 9 (<-`(#[$a,*]));let t<-eKM a.getElems e;`(tactic|first|$t:tactic|obtain $q:rcasesPat:=$e)
local macro_rules|`(tactic|simp! [$a,*] $[$l:location]?)=>`(tactic|simp only [$a,*] $[$l:location]?)
local macro_rules|`(tactic|exists $e)=>`(tactic|simpa using $e)
local macro_rules|`(tactic|show $e)=>`(tactic|refine $e)
local macro_rules|`(tactic|exact $e)=>`(tactic|refine $e)
local macro_rules|`(#[])=>`(by simp)|`(#[$xs,*])=>`(⟨$xs,*⟩)
local macro_rules|`(↑$x)=>`(some $x)
local macro_rules|`(⋯)=>`(by lia)
local macro_rules|`(())=>`(by decide)
abbrev Ab:=PySem.W.Frag
local macro_rules(kind:=Lean.Parser.Command.declaration)|s=>do
 if s[0][4].getNumArgs>0||![``Lean.Parser.Command.definition,``Lean.Parser.Command.abbrev].contains s[1].getKind then Lean.Macro.throwUnsupported
 return s.setArg 0 (s[0].setArg 4 (Lean.mkNullNode [Lean.mkNode ``Lean.Parser.Command.noncomputable [Lean.mkAtom "noncomputable"].toArray].toArray))
example:=`(
example Ò _:=x X FH σ
example À:=Inv Ò H s
example õ _:=x X.prog X.w
example Á _:=x (model õ) X.A
example ĥ(H:Hp):=0
example Ì:=Shared
example Â(FH:Aj) (s:Ì) (σ:St) ĥ:=0
example ñ:=.int
example ŷ:=.fields [ñ lo t,ñ hi u,ñ 1 v].toArray
example Ã:=s.heap.push { cls:=.type "range",data:=ŷ }
example ň:=.inl
example Ä(hf:X.fn x=true\/X.env.scope.names.lookup x=↑.local:=by first | show ň rfl | show .inr rfl | assumption):=0
example è _:=x σ H
example Ŕ _:=x FH s è
example Å _:=x Ŕ _ I h
example Æ:=#[x,H1,I1,r1,q1]
example Ä3:=X.env.cells.lookup
example Ç:=Ä3 x=↑c
example È:=s.heap.objs.size
example É:=by intro X hP hw hK hc i FH s σ H E I hf st hg;subst hP hw hK
example Ê:=Value
example ì:=X.s₀.heap.objs.size
example Ï:=X.env.locals
example À3:=(∀ x c,Ç->c≠b)/\∀ p∈X.pn++FH,p.1≠b
example Ë(Cs:∀ b∈ch,(b∈X.ex\/ì<=b)/\b≠ Ï/\À3):=0
example Í:=by intro FH s σ H Q I h
example Î:=Hp->Prop
example Ð:=by let#[f0,f1,f2,f3,f4,f5]:=hf it #[]
example Þ:=false
example Ñ:=(x == ("__debug__":Str))=Þ
example Đ:=h'.get? b
example î:=h.get?
example Ó:=î b=↑u->Đ=↑u
example Š{s:Ì}:=0
example İ{H:Hp}:=0
example Ê7{σ:St}:=0
example Ê6{FH:Aj}:=0
example Ô Ê6 Ê7 İ Š:=0
example ű _:=x _ _
example Õ:=k ű (ň rfl) e
example Ö(hN:X.N.Nodup) (hi:X.N[i]?=↑x) (hx:Loc X.env.scope x):=0
example Ø:=#[ok.mod,ok.kind,ok.glob,ok.blt,ok.above,ok.inj,ok.has,ok.qM,ok.hd,ok.frames,ok.pB,ok.mH,ok.bs,ok.tQ,ok.qy,ok.qJ,ok.v7,ok.sN]
example Ù:=λ h' eb=>#[rfl,I.turned (t':=s.toks) (λ b o hb e=>eb b o hb e) f0 f1 f3 f4 f5]
example Ú(I:À):=0
example ĭ:=.ref
example È8:=.builtin
example Û:=A.under (È8 "type.__call__" #[ĭ C::us,kw])
example Ü{P:Program}{w:World}:=0
example Ý:=["enumerate","zip","dict_itemiterator","dict_reverseitemiterator","odict_iterator","itertools.zip_longest","itertools.pairwise"].contains n
example ß:=X.env
example Ġ:=#[y,H2,I2,r2,q2]
example Å3:=#[z,H3,I3,r3,k,e,q3]
example À6 _:=x FH s2 σ H2 x y v
example Ų _:=x σ H1
example á _:=x FH s1 Ų
example Ê0:=(hb á _ I1 q1)
example à:=(zF Ê0 λ u s2 Ġ=> zF (ho À6 u _ I2 r1 r2 q2) λ d s3 Å3=>?_)
example â:=envOfC qual scope È f cd
example ã:=by intro FH s σ H x y v u Q I rx ry h
example ä:=s.heap.get?
example ĳ(ha:PE X a ta):=0
example å ĳ (hb:PE X b tb):=0
example æ _:=x #[_,ho,rfl] #[_,Iu,rfl] noFill_tuple_add seq_tuple_add PySem.F.slot_tuple_add PySem.F.entry_tuple_add (PySem.F.args_tuple_add_2 ű)
example ç:=wpAny
example é:=by have I1:Inv Ò H { s with heap:=h' }:=I.turned (t':=s.toks) (λ b o hb e=>(sb.2 b hb).trans e) f0 f1 f3 f4 f5;let#[o,e,c,d]:=id HI
example ê:=List V
example ë(X:Cx):=0
example í(P:Program) (w:World):=0
example ŉ:=List Env
example ā:=outer
example ï(A:Around) (ā:ŉ) (s:Ì) ĥ:=0
example ı _:=x σ' H'
example ð:=Inv X FH ı s'
example ŧ:=I.base.free
example Œ:=λ b o e n hb hx=>?_
example ò:=#[Œ,Œ,ŧ,λ b o e hx=>?_,I.base.vq,I.base.vM,I.base.vW]
example ó:=by intro FH s σ H D I h
example ô:=sizeLine
example ö:=sc.names.lookup x
example ļ:=Option
example ġ{x:Str}:=0
example ø{kindOf:Str->ļ NameKind}ġ:=0
example ù{A:Around}:=0
example ú:=List Addr
example ŕ _:=x P w K mg base
example û _:=x CX ŕ N qual scope
example ü:=by intro FH s σ H xs us Q I r h;let#[i,j,rfl,q]:=h;let#[u,w',rfl,#[t,rfl],#[t',rfl]]:=vals2 r
example ý:=(hs.2 b (AB (Ba (An e) (I.ok.qM x c Cj hc)))).trans
example þ _:=x b o e
example ÿ:=H b=none
example Ā:=(zF (h pos Ŕ _ I hq) λ us s1 #[xs,H1,I1,r,z,q]=>#[by rw[<- r.length];show z,?_])
example Ă:=by let#[o',e1]:=I.base.there þ hx
example ă(he:Az X e es:=by rfl) (Al:AE X pos es:=by rfl):=0
example Ą:=by let#[t,rfl]:=rx
example ą:=by let#[σ3,H3,I3,n3]:=q3;let#[m',hm,w3]:=hN σ3 H3 n3;show#[m',hm,σ3,H3,I3,w3]
example Ć:=s.heap
example ć{pos:Pos}:=0
example Á6(mu:jz (H x)) (he:e=x\/H e=↑(.own x)):=0
example Ĉ Á6 (k:∀ b u,b≠e->Ó) (CB:∃ u,h'.get? e=↑u):=0
example Ÿ:=(.tup xs)
example ĉ:=∀ b xs,H b=↑ Ÿ->H' b=↑ Ÿ
example Ċ(hn:x≠"__name__":=by decide):=0
example ċ:=(hs.2 b (AB (Ba (An e) I.ok.above))).trans
example Č:=Hp->VK->Prop
example č:=#[_,rfl]
example Ď(hg:Gl X x) (hm:X.mg x=none):=0
example Ä6:=ç Á (f (ñ i t) (ñ j u)) Q E s
example ũ:=(g i j)
example ď:=Q (ñ ũ s.toks) { s with toks:=s.toks+1 }->Ä6
example đ:=(fR ha hb I h λ v u s2 x y H2 I2 rx ry q=>ho À6 u Q I2 rx ry q)
example Â3(s:Ì) (Q:Ag) (E:Ag):=0
example Ē(i j:Int) (t u:Tok) Â3:=0
example Ŀ:=compareOp
example ē{op Ia:CmpOp}{r r':R2}(ho:yp X (Ŀ op) r) (GG:yp X (Ŀ Ia) r'):=0
example Ĕ:=s1.heap.objs.size
example ĕ _:=x kindOf ((p,w)::P.zip vs) m
example Ė _:=x (zF (ha pos Å) λ us s1 #[vs,H1,I1,r1,q1]=>hc á vs us Q I1 r1 q1) he Al
example ė:=by let#[o',G1,ep',GG,r']:=hm;rw[ho] at GG;cases GG;show#[_,G1,ep',hL,r']
example Ę:=by rw[DJ (Ne.symm hj)] at e2;let#[u',r',q]:=hl j y v' e1 e2 e3;exact#[u',r',?_]
example ę:=RelV v u
example Ě:=List Str
example Ê8(K:Ab):=0
example ě Ê8 (mg:Au) (base:Heap):=0
example Ĝ:=by rw[zV (xO q hn)];show q
example ĝ:=ä p.1=↑p.2/\H p.1=none/\p.1≠ Ï/\p.1∉X.fs/\∀ v,p.2.data≠.cell v
example Ğ:=PySem.mem_of_lookup
example Ã1:=(ha Å)
example ğ:=zF Ã1 λ v s1 Æ=>?_
example Ģ:=X.base.get? b=↑o
example ģ:=(.Call (.Name x p) (e::es) [] pos)
example Ĥ:=scope.names.lookup
example Ħ{X:Cx}:=0
example ħ{f:Ê->Ê->Sem Ê}:=0
example Ĩ:=xs.length
example ĩ:=h.objs.size
example Ī:=î b=↑o
example ī:=List Expr
example Ĭ:=by subst e;let#[o,e,c,d]:=st;show#[o,e,λ v z=>by rw[d] at z;cases z]
example Į:=(PySem.W.fnOf name qual params body scope dV kV doc pm an Ah ct)
example į:=(I.ok.hd hc)
example Ĳ(hd:Ñ:=by decide):=0
example Ĵ:=List (Str× Ê)
example ĵ:=by let#[sl,e1]:=I.base.slot þ n hb hx
example Ķ:=by let#[e,n,ne,nf,d]:=I.pin p hp
example ķ:=Inv Ò H' { s with heap:=h',gens:=g',drawn:=d',toks:=t' }
example ĸ:=k b o (λ z=>hc (by simp[z])) e
example Ĺ{ta:TA}{p pos:Pos}(hg:Gl X "range") (hm:X.mg "range"=none):=0
example ĺ(hm:lastMarks [op,Ia] [b,c]=Þ:=by with_unfolding_all rfl):=0
example Ļ(hb:Binds X.K fd ps ds) (hd:Vals dvs ds) (hx:Passes CX X E):=0
example Ľ:=ä b=↑o
example ľ:=I.ok.kind
example ŀ:=Vals xs us
example Ł:=by rcases sL hv with ⟨j,u,rfl,rfl⟩ | ⟨y,u,rfl,rfl⟩
example ł _:=x X.xe s
example Ń:=∀ b ps,H b=↑(.qg ps)->∃ more,H' b=↑(.qg (ps++more))
example ń:=X.stack
example Ņ:=(.Name x pos)
example ņ:=I.tok _
example Ň{us:Ad}:=0
example Ŋ:=X.calm=true
example ŋ:=by ext Ą;let#[t',rfl]:=ry
example Ã7 _:=x X.K X.mg X.base
example Ō(F:wJ õ Ã7 CX k f fd ps sp) (hr:yo k X.A):=0
example ō:=absurd
example Ŏ:=#[H1,I1,q1]
example ŏ:=(zF (ha pos Å) λ us s1 #[vs,H1,I1,r1,q1]=>?_)
example Ő:=by rcases sL hb with ⟨j,u,rfl,e⟩ | ⟨y,u,rfl,e⟩
example ő(FH:Aj) (σ:St):=0
example œ:=∀ b∈fp,H' b=none
example Ŗ:=.BoolOp
example ŗ:=PyProof.Rows.callWith_type1
example Ř{v:V}{u:Ê}:=0
example ř:=vs.length
example Ś:=.cons
example ś:=bootBuiltins x
example Ŝ:=binaryOp
example ŝ(a:Addr):=0
example Ş(h:Heap):=0
example ş(x:yD P w H h):=0
example š(ha:PT X a tA):=0
example Ţ:=by intro wh FH s σ H Q I h
example ţ:=I1.laid (t':=s1.toks) (λ b u e=>gV _ e) (Am _) ?_
example Ť{K:Ab}{mg:Au}{base:Heap}:=0
example ť:=o.data=.seq Aa n/\Aa.size<=ô/\Vals xs Aa.toList
example Ŧ _:=x (by simp![AG];lia) #[H,ņ,by rw[Zu r];show q]
example Ũ:=(model P w)
example È9{t':Nat}:=0
example Ū{g':Array GenState}È9{d':Drawn}{ch:ú}:=0
example ū:=by have e:b=it:=by exists hb
example Ŭ:=by let#[c,rfl,q1]:=q1;cases r1
example ŭ:=decide
example Ů:=(I.base.keep þ n hb hx)
example ů:=St->Î
example Ű _:=x vs.toArray ws.toArray n n2 dd JZ sl I_ (by exists hv)
example ų _:=x K H a xs
example Ŵ _:=x H a xs
example ŵ _:=x A ā s H
example Ŷ:=(by rw[I.ok.glob];show I.mod.glob.keeps I.bk)
example Ź:=∀ b o u,H b=↑(.wt o u)->H' b=↑(.wt o u)
example ź:=starEach
example Ż:=X.s₀.heap.get? b=↑o
example ż:=s.heap.FunFrames
example Ž:=List Stmt
example ž:=ps.length
example ſ:=by let#[_,_,_,_,o,_,_,e,_]:=x;show An e
example À0{b:Addr}{o:Obj}:=0
example À1{e:Expr}:=0
example À2 _:=x (i:=i) (Bj.mp nd).2 (by exists h1) (by exists h2) hk
example À4:=if v<0 then (v+(n:Int)).toNat else min v.toNat n
example À5:=by subst hj;rw[hi] at e1;cases e1;rw[Em hiσ] at e2;cases e2
example À7:=Aa.toArray
example À8:=λ i h h' st k=>st.at λ o e=>k it #[] o e
example À9:=by let#[m,#[o,es,ep,ho,r],_]:=id I.loc
example Á0:=î a=↑{ cls:=.none,data:=.fields ps }
example Á1:=Inv Ò H' s'
example Á2:=∀ b∈fp,vS X FH H b
example Á3:=(((hi-lo).toNat:Nat):Int)-((0:Nat):Int)
example Á4:=behindInMarks op b=Þ
example Á5:=λ h' tk k=>#[_,H,I.kept k,?_,q]
example Á7:=assignEach
example Á8:=I7.pin (b,o) (A8 _ (A8 _ (k9 hb e)))
example Á9 _:=x (model prog w) A
example Â0:=zV (hm b _ q λ z=>z)
example Â1:=#[v,H,I,r,h]
example Â2:=by have:Aa=AZ:=by exists congrArg Array.toList d1
example Â4:=by ext ã;let#[i,j,rfl,rfl,q]:=h;ext ŋ
example Â5{op:CmpOp}{r:R2}(ho:yp X (Ŀ op) r):=0
example Â6:=Inv Ò H { s with heap:=h',toks:=t' }
example Â7:=∃ Aq,H p=↑(.dK Aq)/\k=!Aq.isEmpty
example Â8(he:PE X e te):=0
example Â9:=xs[i]?=↑x
example Ã0:=(upd H a o)
example Ã2:=λ b hb=>(hf b hb).1
example Ã3:=y.length<=ô/\k=((y.length:Int) != 0)
example Ã4:=!xs.isEmpty
example Ã5{u:Ê}(r:RelV x u):=0
example Ã6 _:=x (λ _ q=>q) λ _ _ q=>q
example Ã8 _:=x c o (I.uT x c e) hc nch ho (I.vg x c e)
example Ã9 _:=x (EP Ò Q) ł
example Ä0(ha:PA X (e::es) t):=0
example Ä1:=(.Compare a [op,Ia] [b,c] pos)
example Ä2:=(PySem.W.methodObj (ĭ f) (ĭ y))
example Ä4:=ä b=↑u->Đ=↑u
example Ä5:=I1.zr.fresh (Am _)
example Ä7{a:Addr}:=0
example Ä8(k:∀ b u,Ó):=0
example Ä9{E:Ag}:=0
example Å0{Q:Unit->Ì->Prop}:=0
example Å1:=by let#[_,_,_,q]:=hs;show False.elim q
example Å2:=by ext Í;exact zaJ (rF I hg hm hv ?_ hn A2)
example Å4:=if x=y then lexLt xs ys else ŭ (x<y)
example Å5(zr:yD õ H' h') (hg:AllBare g'):=0
example Å6 _:=x (a::b::FJ) pos
example Å7 _:=x (start N vs) H
example Å8:=Vals xs Aa
example Å9:=ç M A (storeName ß x u) Q E s
example Æ0:=(zF (ha Ŕ Q I h) λ c s1 e=>?_)
example Æ1:=(show s.heap.IsTuple a À7 from p)
example Æ2:=y.size<=ô/\k=((y.size:Int) != 0)
example Æ3:=cellsFrom (È+1) scope.names []
example Æ4:=(xj û f Ah ŵ E)
example Æ5{i:Nat}:=0
example Æ6 _:=x i FH s3 σ3 H3 X.xe I3 (HZ fr3) st3
example Æ7(A2:Ñ:=by decide):=0
example Æ8:=Vals vs us
example Æ9:=I.cell
example Ç0:=I.free
example Ç1:=(letOwnedTupleGo tg (ĭ it) u)
example Ç2:=∀ vs H Q E,sp vs H Q E->ř=ž
example Ç3:=λ v hv=>(Bj.mp nd).1 (DH hv).1
example Ç4(Q:Bool->Î):=0
example Ç5 _:=x (x:=u) (by exists hu) λ h' HI sb=>?_
example Ç6:=by subst z;rw[r] at mu;show mu
example Ç7:=∃ sl,Đ=↑{ o with slots:=sl }
example Ç8:=X.env.scope.kind
example Ç9:=λ z=>(Cs c z).2.2.1 x c e rfl
example È0:=Inv X FH (σ.set i ↑v) H s'
example È1 _:=x b o (I.ok.bs þ).1 (I.ok.bs þ).2
example È2:=by let#[_,o,ho,_]:=I.ok.v7.mem hb
example È3{K:Ab}{tg:Expr}:=0
example È4:=by have:x≠n:=by rintro rfl;show h v Aw
example È5 _:=x (â).kindOf (ps.zip us) λ _=>none
example È6:=∀ f,eC (fs.lookup f) (mA f)
example È7:=(λ _ s'=>∃ σ' H',ð/\Q ı)
example É0(hg:Gl X x) (hm:X.mg x=↑u):=0
example É1:=by let#[u,hu,ru]:=rv.get hx;ext Ð
example É2:=by .rw[if_pos hj,if_pos hj];show č
example É3:=Sum.inl
example É4:=Sum.inr
example É5:=if_neg
example É6:=î a=↑o
example É7:=(sM h H).get? b
example É8:=ö=↑.cell
example É9:=(neC þ hx)
example Ê1(i:Nat):=0
example Ê2:=by rcases I.ok.pB with e | ⟨e,hf⟩
example Ê3(Q:VK):=0
example Ê4(s':Ì):=0
example Ê5(us:Ad):=0
example Ê9:=by have e:=r.length;simp![Bw] at e;lia
example Ë0{k:Nat}:=0
example Ë1:=by let#[Aa,rv,p,hz]:=I.tuple hq
namespace L2
open PySem PySem.Spec PyProof.Rows
abbrev Key:=Sum Int Str
def Zn:Key->Ê->Bool
 | ň k,v=>Value.isInt k v
 | .inr x,v=>Value.isStrOf x v
def Mu (w:World):Key->Int
 | ň k=>hashInt k
 | .inr x=>hashStr w x
theorem sL:∀ {k:Key}{v:Ê},Zn k v=true->(∃ i t,k=É3 i/\v=Value.int i t)\/(∃ x t,k=É4 x/\v=Value.str x t)
 | ň i,v,h=>by
  let#[t,e]:=Value.isInt_shape (k:=i) (v:=v) h;show ň #[i,t,rfl,e]
 | .inr x,v,h=>by
  let#[t,e]:=Value.isStrOf_shape (x:=x) (v:=v) h;show .inr #[x,t,rfl,e]
def Mt (a b:Int):ŭ ((É3 a:Key)=É3 b)=(a == b):=by
 by_cases e:a=b
 .subst e;simp
 .have h:¬ (É3 a:Key)=É3 b:=λ q=>e (Sum.inl.inj q);rw[tx h];show (beq_eq_false_iff_ne.mpr e).symm
def Mq (a b:Str):ŭ ((É4 a:Key)=É4 b)=ŭ (a=b):=by
 by_cases e:a=b
 .subst e;simp
 .have h:¬ (É4 a:Key)=É4 b:=λ q=>e (Sum.inr.inj q);rw[tx h,tx e]
def Ms (a:Int) (b:Str):ŭ ((É3 a:Key)=É4 b)=Þ:=tx (λ q=>nomatch q)
def Mr (a:Str) (b:Int):ŭ ((É4 a:Key)=É3 b)=Þ:=tx (λ q=>nomatch q)
def iY (prog:Program) (w:World):PySem.KeyKind prog w Key where
 is:=Zn
 hash:=Mu w
 inj:=λ v a b ha hb=>by
  rcases sL ha with ⟨i,t,rfl,rfl⟩ | ⟨x,t,rfl,rfl⟩
  .ext Ő
   .injection e with e1 _;rw[e1]
   .show nomatch e
  .ext Ő
   .show nomatch e
   .injection e with e1 _;rw[e1]
 byValue:=λ k v h=>by
  rcases sL h with ⟨i,t,rfl,rfl⟩ | ⟨x,t,rfl,rfl⟩ <;> rfl
 pyHash:=λ hv h=>by
  rcases sL hv with ⟨i,t,rfl,rfl⟩ | ⟨x,t,rfl,rfl⟩
  .show wpAny_pyHash_int h
  .show wpAny_pyHash_str h
 eqBool:=λ hu hv h=>by
  rcases sL hu with ⟨i,t,rfl,rfl⟩ | ⟨x,t,rfl,rfl⟩
  .ext Ł
   .rw[Mt] at h;show wpAny_eqBool_int h
   .rw[Ms] at h;show SeqAt.EqAt.int_str i t y u ű ű h
  .ext Ł
   .rw[Mr] at h;show SeqAt.EqAt.str_int x t j u ű ű h
   .rw[Mq] at h;show wpAny_eqBool_str h
 «strs»:=λ k x t v h=>by
  rcases sL h with ⟨i,u,rfl,e⟩ | ⟨y,u,rfl,e⟩
  .show nomatch e
  .injection e with e1 _
   subst e1;cases v <;> rfl
inductive V where
 | zm | bl (b:Bool) | int (i:Int) | str (x:Str) | m_ (b:Array UInt8) | gF (b:UInt64) | ref ŝ | ty (n:String)
 deriving DecidableEq
def RelV:V->Ê->Prop
 | .zm,u=>u=Value.none
 | .bl b,u=>u=Value.bool b
 | ñ i,u=>∃ t,u=Value.int i t
 | .str x,u=>∃ t,u=Value.str x t
 | .m_ b,u=>∃ t,u=Value.bytes b t
 | .gF b,u=>∃ t,u=Value.float b t
 | ĭ a,u=>u=Value.ref a
 | .ty n,u=>u=Value.type n
abbrev Vals:ê->List Ê->Prop:=Paired RelV
theorem Vals.length {xs:ê}Ň(r:ŀ):Ĩ=us.length:=Paired.length r
theorem Vals.get:∀ {xs:ê}Ň Æ5{x:V},ŀ->Â9->∃ u,us[i]?=↑u/\RelV x u
 | _,_,_,_,.nil,e=>by simp at e
 | _,_,0,_,Ś r _,e=>by simp at e;subst e;show#[_,rfl,r]
 | _,_,i+1,x,Ś _ t,e=>by
  let#[u,h1,h2]:=Vals.get (i:=i) (x:=x) t (by exists e);show#[u,by simpa using h1,h2]
theorem Vals.set {x:V}Ã5:∀ {xs:ê}Ň Ê1,ŀ->Vals (xs.set i x) (us.set i u)
 | _,_,_,.nil=>.nil
 | _,_,0,Ś _ t=>Ś r t
 | _,_,i+1,Ś q t=>Ś q (Vals.set r i t)
theorem Vals.append:∀ {xs ys:ê}{us ws:Ad},ŀ->Vals ys ws->Vals (xs++ys) (us++ws)
 | _,_,_,_,.nil,s=>s
 | _,_,_,_,Ś r t,s=>Ś r (Vals.append t s)
theorem Vals.take:∀ {xs:ê}Ň(n:Nat),ŀ->Vals (xs.take n) (us.take n)
 | _,_,0,_=>.nil
 | _,_,_+1,.nil=>.nil
 | _,_,n+1,Ś r t=>Ś r (Vals.take n t)
theorem Vals.drop:∀ {xs:ê}Ň(n:Nat),ŀ->Vals (xs.drop n) (us.drop n)
 | _,_,0,r=>r
 | _,_,_+1,.nil=>.nil
 | _,_,n+1,Ś _ t=>Vals.drop n t
def eC:ļ V->ļ Ê->Prop
 | some v,↑u=>ę
 | none,none=>True
 | _,_=>False
def KV {κ:Type}:List (κ × V)->List (κ × Ê)->Prop:=Paired λ(p:κ × V) (q:κ × Ê)=>p.1=q.1/\RelV p.2 q.2
def kV:Key->V
 | ň i=>ñ i
 | .inr x=>.str x
inductive HO where
 /-- a list -/
 | lst (xs:ê)
 /-- a tuple (never changes) -/
 | tup (xs:ê)
 /-- a dict whose keys are ints and texts;one whose keys are tuples of ints and texts (the empty one is both) -/
 | dK (Aq:List (Key×V)) | dT (Aq:List (List Key×V))
 /-- a set of ints: Aa members,Aa size -/
 | set (S:Int->Bool) (n:Nat)
 /-- an instance of the class at C,Aa dict at dx,Aa attributes -/
 | ins (C dx:Addr) (fs:List (Str×V))
 /-- the dict of the instance at x -/
 | own (x:Addr)
 /-- the dict of an exception -/
 | xd (fs:List (Str×V))
 /-- a bound method,f of x -/
 | met (f x:Addr)
 /-- a range object lo,lo+1,.. below hi -/
 | ix (lo hi:Int)
 /-- a HC that is known to the object (the script;a dict while a loop walks it): read,never written while it is so -/
 | wt (o:Obj) (u:HO)
 /-- a code object's table -/
 | qg (ps:Ar)
 /-- any other HC,by what is true of Aa one object (a def of one's own: yQ a S n:=HO.ext λ h=>..) -/
 | ext (φ:Heap->Prop)
abbrev Hp:=Addr->ļ HO
def upd ĥ ŝ (o:HO):Hp:=λ b=>if b=a then ↑o else H b
def yr İ Ä7{o:HO}:upd H a o a=↑o:=by unfold upd;rw[if_pos rfl]
def zV İ{a b:Addr}{o:HO}(h:b≠a):upd H a o b=H b:=by unfold upd;rw[É5 h]
def qA İ{a b:Addr}{o u:HO}(h:H a=↑o) (h':H b=↑u) (d:o≠u):a≠b:=by
 intro e;subst e;rw[h] at h';show d (Bm h')
def xO İ{a b:Addr}{o:HO}(h:H a=↑o) (h':ÿ):a≠b:=by
 intro e;subst e;rw[h] at h';cases h'
def eG Ş ŝ:Prop:=∃ o,É6/\o.dict=none
def eG.new Ş {d:Ar}{n:Nat}:eG (h.push { cls:=.type "tuple",data:=.seq d n }) ĩ:=#[_,AW _ rfl,rfl]
section
variable {í}
def xH ĥ Ş ŝ:HO->Prop
 | .lst xs=>Ĩ<=ô/\∃ (Aa:Ad) (n:Nat),Å8/\î a=↑{ cls:=.type "list",data:=.seq À7 n }
 | .tup xs=>(Ĩ<=ô/\eG h a)/\∃ Aa:List Ê,Å8/\IsTup h a À7
 | .dK Aq=>Aq.length<=ô/\(a == sysModules)=Þ/\∃ vs,KV Aq vs/\h.DictOf (iY P w) a vs
 | .dT Aq=>Aq.length<=ô/\(a == sysModules)=Þ/\∃ xs:List (List Key×Addr× Ê),
   Paired (λ(p:List Key×V) (q:List Key×Addr× Ê)=>p.1=q.1/\H q.2.1=↑(.tup (p.1.map kV))/\RelV p.2 q.2.2) Aq xs/\
   ∃ o es ep,É6/\o.ExactDict/\o.data=.dict es ep/\es.toList=xs.map (entryOfKey (tupleKind (iY P w)))/\(xs.map (·.1)).Nodup
 | .set S n=>h.SetOf (intKind P w) a S n
 | .ins C dx fs=>H dx=↑(.own a)/\fs.length<=1000/\dx≠a/\î a=↑(PySem.W.instObj C dx)/\
   ∃ mA,h.Ns1 dx mA/\(È6)/\PySem.Within mA (fs.map (·.1))
 | .own _=>∃ o,É6
 | .xd fs=>∃ mA,h.Ns1 a mA/\È6
 | .ix lo hi=>∃ t u v,î a=↑{ cls:=.type "range",data:=ŷ }
 | .wt o u=>É6/\xH H h a u
 | .qg ps=>Á0
 | .met f x=>î a=↑(PySem.W.methodObj (ĭ f) (ĭ x))
 | .ext φ=>φ h/\(∃ o,É6)/\∀ h1 h2:Heap,φ h1->(∀ o,h1.get? a=↑o->h2.get? a=↑o)->φ h2
def yD ĥ Ş:Prop:=∀ a o,H a=↑o->xH P w H h a o
end
section
variable {Ü}{H H':Hp}{h h':Heap}{Ä7}{o:HO}
theorem xH.lt (x:xH P w H h a o):a<ĩ:=by
 cases o with
 | lst xs=>let#[_,_,_,_,e]:=x;show An e
 | tup xs=>let#[_,_,_,p]:=x;show p.lt
 | dK Aq=>ext ſ
 | dT Aq=>ext ſ
 | set S n=>let#[o,_,_,_,e,_]:=x;show An e
 | ins C dx fs=>let#[_,_,_,e,_]:=x;show An e
 | own y=>let#[_,e]:=x;show An e
 | xd fs=>let#[_,#[_,_,_,e,_],_]:=x;show An e
 | ix lo hi=>let#[_,_,_,e]:=x;show An e
 | wt ob u=>let#[e,_]:=x;show An e
 | qg ps=>show An (show î a=↑_ from x)
 | met f y=>show An (show î a=↑_ from x)
 | ext φ=>let#[_,#[_,e],_]:=x;show An e
theorem Paired.kA {α β:Type}{F G:α->β->Prop}:∀ {l₁:List α}{l₂:List β},Paired F l₁ l₂->(∀ a b,F a b->G a b)->Paired G l₁ l₂
 | _,_,.nil,_=>.nil
 | _,_,Ś r t,f=>Ś (f ű r) (Paired.kA t f)
def xH.vc (x:xH P w H h a o) (k:∀ b u,(b=a\/H b=↑(.own a))->Ó)
  (ho:∀ b,H b=↑(.own a)->H' b=↑(.own a)) (ht:ĉ):xH P w H' h' a o:=by
 induction o with
 | lst xs=>let#[z,Aa,n,r,e]:=x;show#[z,Aa,n,r,Õ]
 | tup xs=>let#[#[z,y,u,v],Aa,r,ob,e,c]:=x;show#[#[z,y,k ű (ň rfl) u,v],Aa,r,ob,Õ,c]
 | dK Aq=>let#[z,y,vs,r,ob,es,ep,e,c]:=x;show#[z,y,vs,r,ob,es,ep,Õ,c]
 | dT Aq=>
  let#[z,y,xs,r,ob,es,ep,e,c]:=x;show#[z,y,xs,Paired.kA r λ p q z=>#[z.1,ht ű z.2.1,z.2.2],ob,es,ep,Õ,c]
 | set S n=>let#[ob,es,ep,t,e,c]:=x;show#[ob,es,ep,t,Õ,c]
 | ins C dx fs=>
  let#[d,z,ne,e,mA,#[od,es,ep,e2,c],r]:=x;show#[ho _ d,z,ne,Õ,mA,#[od,es,ep,k ű (.inr d) e2,c],r]
 | own y=>let#[ob,e]:=x;show#[ob,Õ]
 | xd fs=>let#[mA,#[od,es,ep,e,c],r]:=x;show#[mA,#[od,es,ep,Õ,c],r]
 | ix lo hi=>let#[t,u,v,e]:=x;show#[t,u,v,Õ]
 | wt ob u ih=>let#[e,q]:=x;show#[Õ,ih q]
 | qg ps=>
  have e:Á0:=x;change h'.get? a=↑{ cls:=.none,data:=.fields ps };show k a _ (ň rfl) e
 | met f y=>
  have e:î a=↑ Ä2:=x;change h'.get? a=↑ Ä2;show k a _ (ň rfl) e
 | ext φ=>let#[p,#[o,e],st]:=x;show#[st ű p λ o q=>k ű (ň rfl) q,#[o,Õ],st]
theorem yD.lt ş (e:H a=↑o):a<ĩ:=(x a o e).lt
def yD.fresh ş (e:ĩ<=a):H a=none:=by
 cases q:H a with
 | none=>rfl
 | some u=>show ō (Ba (x.lt q) e) (Cq _)
def yD.kept ş Ä8:yD P w H h':=λ a o e=>
 (x a o e).vc (λ b u _ q=>k b u q) Ã6
def yD.laid ş Ä8 (hp:ĩ<=a) (new:xH P w Ã0 h' a o):yD P w Ã0 h':=λ b u e=>by
 have hn:=x.fresh hp;by_cases hb:b=a
 .subst hb;rw[yr] at e;cases e;show new
 .rw[zV hb] at e;show (x b u e).vc (λ c v _ q=>k c v q) (λ c q=>Ĝ) λ c xs q=>Ĝ
end
def Rd ĥ ŝ (u:HO):Prop:=H a=↑u\/∃ o,H a=↑(.wt o u)
def Rd.ok Ü İ{h:Heap}Ä7{u:HO}(r:Rd H a u) ş:xH P w H h a u:=by
 rcases r with r | ⟨o,r⟩
 .show x a u r
 .let#[_,q]:=x a _ r;show q
def jz:ļ HO->Prop
 | some (.lst _)=>True
 | some (.dK _)=>True
 | some (.dT _)=>True
 | some (.set ű)=>True
 | some (.ins ű _)=>True
 | some (.ext _)=>True
 | _=>False
section
variable {Ü}{İ}{h h':Heap}{x e:Addr}{o':HO}
def yD.write (ok:yD P w H h) Ĉ
  (new:xH P w (upd H x o') h' x o'):yD P w (upd H x o') h':=λ b u q=>by
 have nown:∀ c y,H c=↑(.own y)->c≠x:=λ c y r z=>Ç6
 have ntup:∀ c xs,H c=↑ Ÿ->c≠x:=λ c xs r z=>Ç6
 by_cases hb:b=x
 .subst hb;rw[yr] at q;cases q;show new
 .rw[zV hb] at q;by_cases Co:b=e
  .have q':H b=↑(.own x):=by
    rcases he with z | z
    .show ō (Co.trans z) hb
    .rw[Co];show z
   rw[q] at q';cases q';let#[v,hv]:=CB;show#[v,by rw[Co];show hv]
  .exact (ok b u q).vc (λ c v hc r=>k c v ?_ r) (λ c r=>by rw[zV (nown c b r)];show r) λ c xs r=>by rw[zV (ntup c xs r)];show r
   rcases hc with rfl | hc
   .show Co
   .rintro rfl;rcases he with z | z
    .show nown c b hc z
    .rw[hc] at z;cases z;show hb rfl
end
structure Un (fs ex:ú) (H H':Hp) (h h':Heap):Prop where
 keep:∀ b o,Ī->ÿ->b∉fs->b∉ex->Đ=↑o
 slot:∀ b o,Ī->ÿ->b∈fs->b∉ex->Ç7
 free:∀ b o,Ī->ÿ->b∉ex->H' b=none
 there:∀ b o,Ī->b∉ex->∃ o',Đ=↑o'
 vq:ĉ
 vM:Ź
 vW:Ń
section
variable {fs ex:ú}{H H1:Hp}{h h1 h':Heap}{a x e:Addr}{o:HO}
def Un.any (u:Un fs ex H H1 h h1) {b:Addr}{ob:Obj}(q:î b=↑ob) (n:ÿ) (hx:b∉ex):∃ sl,h1.get? b=↑{ ob with slots:=sl }:=by
 by_cases hb:b∈fs
 .show u.slot b ob q n hb hx
 .show#[ob.slots,u.keep b ob q n hb hx]
def Un.kept Ä8:Un fs ex H H h h':=
 #[λ b ob q _ _ _=>k b ob q,λ b ob q _ _ _=>#[ob.slots,k b ob q],λ _ _ _ n _=>n,λ b ob q _=>#[ob,k b ob q],λ _ _ q=>q,λ _ _ _ q=>q,λ _ ps q=>#[[].toArray,by rw[q];simp]]
def Un.refl:Un fs ex H H h h:=Un.kept λ _ _ q=>q
def Un.laid Ä8 (hp:ĩ<=a) (hn:H a=none):Un fs ex H Ã0 h h' where
 keep:=λ b u q _ _ _=>k b u q
 slot:=λ b u q _ _ _=>#[u.slots,k b u q]
 free:=λ b u q n _=>by rw[zV (AB (Ba (An q) hp))];show n
 there:=λ b u q _=>#[u,k b u q]
 vq:=λ b xs q=>Ĝ
 vM:=λ b u xs q=>Ĝ
 vW:=λ b ps q=>#[[].toArray,by rw[zV (xO q hn),q];simp]
def Un.write Ĉ:Un fs ex H (upd H x o) h h':=by
 have hx:∀ b,ÿ->b≠x:=λ b n z=>by subst z;rw[n] at mu;show mu
 have hb:∀ b,ÿ->b≠e:=λ b n z=>by
  subst z;rcases he with r | r
  .show hx b n r
  .rw[n] at r;cases r
 have hm:∀ b u,H b=↑u->¬ jz ↑u->b≠x:=λ b u q nm z=>by subst z;rw[q] at mu;show nm mu
 exact#[λ b u q n _ _=>k b u (hb b n) q,λ b u q n _ _=>#[u.slots,k b u (hb b n) q],λ b u q n _=>by rw[zV (hx b n)];show n,λ b u q _=>?_,
  λ b xs q=>by rw[Â0];show q,λ b u xs q=>by rw[Â0];show q,λ b ps q=>#[[].toArray,by rw[Â0,q];simp]]
 by_cases Co:b=e
 .subst Co;show CB
 .show#[u,k b u Co q]
end
def lO Ş ĥ:ú:=(List.range ĩ).filter λ a=>(H a).isSome
def sM Ş ĥ:Heap:=PySem.W.hideAll h (lO h H)
def MO Ş ĥ:(sM h H).objs.size=ĩ:=PySem.W.hideAll_size ű
def MP {h:Heap}İ À0(e:Ī) (n:ÿ):É7=↑o:=
 PySem.W.hideAll_get _ e λ hm=>by
  have q:(H b).isSome=true:=(C0.mp hm).2;rw[n] at q;simp at q
def Np {h:Heap}İ À0(e:É7=↑o):Ī/\ÿ:=by
 have e':Ī:=PySem.W.of_hideAll (lO h H) e;exact#[e',?_];cases q:H b with
 | none=>rfl
 | some x=>
  have hm:b∈lO h H:=C0.mpr #[AO.mpr (An e'),by simp[q]];have z:É7=none:=PySem.W.hideAll_none (lO h H) hm;rw[z] at e;cases e
structure Mod ě:Prop where
 oa:K.In base
 glob:base.Ns mainGlobals mg
 blt:∃ mb,base.Ns builtinsNs mb/\∀ x:Str,x≠"__name__"->mb x=ś
 nolimit:base.NoLimit
structure Cx where
 prog:Program
 w:World
 K:Ab
 mg:Str->ļ Ê
 base:Heap
 A:Around
 N:Ě
 s₀:Ì
 H₀:Hp
 env:Env
 ā:ŉ
 stack:ŉ
 ex:ú
 fn:Str->Bool
 calm:Bool
 pn:Aj
 xe:Ag
def xa (l:ŉ):ú:=l.filterMap (·.frame)
abbrev Az ë (e:Expr) (es:ī):Prop:=ź (e::es) ß=(Þ,eval e ß)::ź es ß
abbrev AE ë (p:Pos) (es:ī):Prop:=(backTo p (ź es ß)).any (·.1)=Þ
abbrev Cx.fs ë:ú:=xa X.outer
def lj (sc:Scope) (x:Str):Prop:=ö=↑.local\/É8\/ö=↑.free
def Loc (sc:Scope) (x:Str):Prop:=ö=↑.local\/É8
def Look (env:Env) Ş (m:Au) (x:Str) (u:Ê):Prop:=
 (env.kindOf x=↑.local/\m x=↑u)\/((env.kindOf x=↑.cell\/env.kindOf x=↑.free)/\∃ c,env.cells.lookup x=↑c/\h.IsCell c ↑u)
structure Cx.Ok ë:Prop where
 mod:Mod Ã7
 kind:Ç8=.function
 glob:X.env.globals=mainGlobals
 blt:X.env.builtins=builtinsNs
 above:ì<=Ï
 inj:∀ x y c,Ç->Ä3 y=↑c->x=y
 has:∀ x,(X.env.kindOf x=↑.cell\/X.env.kindOf x=↑.free)->∃ c,Ç
 qM:∀ x c,X.fn x=true->Ç->ì<=c
 hd:Ŋ->X.A.handled=none
 frames:X.A.frames=↑ ń
 pB:ń=X.outer\/(ń=ß::X.outer/\X.env.frame=↑ Ï)
 mH:∀ b∈X.ex,b≠ Ï/\∀ x c,Ç->c≠b
 bs:∀ b o,Ģ->Ż/\X.H₀ b=none
 tQ:X.base.objs.size<=ì
 qy:∀ b o,Ģ->b∉X.ex
 qJ:∀ b∈X.ex,b∉X.fs
 v7:X.s₀.heap.FunFrames X.base X.outer
 sN:∀ b∈X.fs,X.H₀ b=none
structure Inv ë (FH:Aj) (σ:List (ļ V)) ĥ (s:Ì):Prop where
 ok:X.Ok
 os:s.os=X.s₀.os
 bare:AllBare s.gens
 base:Un X.fs X.ex X.H₀ H X.s₀.heap Ć
 loc:∃ m,s.heap.Ns Ï m/\∀ Ê1 (x:Str) (v:V),X.N[i]?=↑x->σ[i]?=↑↑v->lj X.env.scope x->∃ u,ę/\Look ß Ć m x u
 cell:∀ x c,Ç->∃ v,s.heap.IsCell c v
 free:H Ï=none
 vg:∀ x c,Ç->H c=none
 pin:∀ p∈X.pn++FH,ĝ
 zr:yD õ H Ć
 len:σ.length=X.N.length
section
variable {Ħ}{Ê6}{σ:List (ļ V)}{H H':Hp}{Š}{h':Heap}
def Cx.Ok.Nw (ok:X.Ok) À0(e:Ģ):b∉X.fs:=λ hb=>by
 have:=(ok.v7.mem hb).1;rw[e] at this;cases this
theorem Inv.bs Ú:∀ b o,Ģ->Ľ/\ÿ:=λ b o e=>
 #[I.base.keep È1 (I.ok.Nw e) (I.ok.qy þ),ŧ È1 (I.ok.qy þ)]
def Inv.bk Ú:∀ b o,Ģ->Ľ:=λ b o e=>(I.bs þ).1
theorem Inv.mod Ú:Mod Ã7:=I.ok.mod
def Inv.y7 Ú:X.K.In Ć:=I.ok.mod.oa.keeps I.bk
theorem Inv.lt Ú:Ï<È:=let #[_,hn,_]:=I.loc;hn.lt
def Inv.sz Ú:ì<=È:=Bc I.ok.above (Bl I.lt)
def Inv.aN Ú Ä7(h:È<=a):a∉X.fs:=λ hb=>by
 ext È2;show ō (Ba (An ho) (Bc I.sz h)) (Cq _)
def Inv.uT Ú:∀ x c,Ç->c≠ Ï:=λ x c e z=>by
 let#[v,o,ho,hd]:=Æ9 x c e;let#[m,#[o',es,ep,GG,hd',_],_]:=I.loc;rw[z,GG] at ho;cases ho;rw[hd'] at hd;cases hd
theorem Inv.v7 Ú:ż X.base X.outer:=by
 have all:∀ (l:ŉ),(∀ b∈xa l,b∈X.fs)->X.s₀.heap.FunFrames X.base l->ż X.base l:=by
  intro l
  induction l with
  | nil=>intro _ _;trivial
  | cons env r ih=>
   intro hs hl;let#[hk,#[L,o,hf,hn,ho,hd],hr]:=hl;have hL:L∈X.fs:=hs L (by unfold xa;rw[DL,hf];show Aw);let#[sl,e]:=I.base.slot L o ho (I.ok.sN L hL) hL λ z=>I.ok.qJ L z hL;show#[hk,#[L,_,hf,hn,e,hd],ih (λ b hb=>hs b (by unfold xa;rw[DL,hf];show AD _ hb)) hr]
 show all X.outer (λ _ hb=>hb) I.ok.v7
theorem Inv.stack Ú:ż X.base ń:=by
 ext Ê2
 .rw[e];show I.v7
 .rw[e];let#[m,hn,_]:=I.loc;exact Ś (by rw[ľ];decide) hf hn ?_ I.v7;show zaQ (Bc I.ok.tQ I.ok.above)
def Inv.ia Ú:∀ b∈xa ń,b∈ Ï::X.fs:=λ b hb=>by
 ext Ê2
 .rw[e] at hb;show AD _ hb
 .rw[e] at hb;unfold xa at hb;rw[DL,hf] at hb;show hb
def Inv.ib Ú:∀ b∈xa ń,ÿ:=λ b hb=>by
 rcases Ao.mp (I.ia b hb) with e | hb
 .rw[e];show Ç0
 .ext È2;show ŧ b o ho (I.ok.sN b hb) λ z=>I.ok.qJ b z hb
def Inv.step Ū Ú
  Ë
  (keep:∀ b o,b≠ Ï->b∉X.fs->b∉ch->Ľ->ÿ->Đ=↑o)
  (slot:∀ b o,b≠ Ï->b∈X.fs->b∉ch->Ľ->ÿ->Ç7) (free:∀ b o,b∉ch->Ľ->ÿ->H' b=none)
  (there:∀ b o,b∉ch->Ľ->∃ o',Đ=↑o')
  (vq:ĉ) (vM:Ź) (vW:Ń)
  (ns:∀ m,s.heap.Ns Ï m->h'.Ns Ï m) Å5:
  ķ:=by
 have neL:∀ b o,Ż->b≠ Ï:=λ b o e=>AB (Ba (An e) I.ok.above);have neC:∀ b o,Ż->b∉X.ex->b∉ch:=λ b o e hx hb=>by
  rcases (Cs b hb).1 with z | z
  .show hx z
  .show ō (Ba (An e) z) (Cq _)
 have cellK:∀ x c,Ç->∀ v,s.heap.IsCell c v->h'.IsCell c v:=λ x c e v #[o,ho,hd]=>by
  have nch:c∉ch:=Ç9;by_cases hc:c∈X.fs
  .let#[sl,q]:=slot Ã8;show#[_,q,hd]
  .show#[o,keep Ã8,hd]
 exact#[I.ok,I.os,hg,#[Œ,Œ,λ b o e n hx=>?_,λ b o e hx=>?_,λ b xs e=>vq b xs (I.base.vq b xs e),λ b o xs e=>vM b o xs (I.base.vM b o xs e),λ b ps e=>?_],?_,λ x c e=>?_,?_,λ x c e=>?_,λ p hp=>?_,zr,I.len]
 .show keep b o (neL þ) hb É9 Ů (ŧ þ n hx)
 .ext ĵ;let#[sl',e2]:=slot b _ (neL þ) hb É9 e1 (ŧ þ n hx);show#[sl',e2]
 .ext Ă;show free b o' É9 e1 (ŧ þ n hx)
 .ext Ă;show there b o' É9 e1
 .let#[m1,e1]:=I.base.vW b ps e;let#[m2,e2]:=vW b _ e1;show#[m1++m2,by rw[e2,Array.append_assoc]]
 .let#[m,hn,hl]:=I.loc;exact#[m,ns m hn,λ i x v e1 e2 e3=>?_];let#[u,r,l]:=hl i x v e1 e2 e3;exact#[u,r,?_];rcases l with l | ⟨k,c,e,z⟩
  .show ň l
  .show .inr #[k,c,e,cellK x c e _ z]
 .let#[v,z]:=Æ9 x c e;show#[v,cellK x c e v z]
 .let#[m,#[o,_,_,ho,_],_]:=I.loc;show free _ o (λ z=>(Cs _ z).2.1 rfl) ho Ç0
 .let#[v,o,ho,hd]:=Æ9 x c e;show free c o (Ç9) ho (I.vg x c e)
 .ext Ķ;have nch:p.1∉ch:=λ z=>(Cs p.1 z).2.2.2 p hp rfl;show#[keep p.1 p.2 ne nf nch e n,free p.1 p.2 nch e n,ne,nf,d]
theorem Inv.un È9 Ú (u:Un X.fs [] H H' Ć h') (zr:yD õ H' h'):Inv Ò H' { s with heap:=h',toks:=t' }:=by
 ext À9;let#[sl,hL]:=u.any ho Ç0 #[];show I.step (g':=s.gens) (d':=s.drawn) (ch:=[]) (λ _ z=>nomatch z) (λ b o _ hb _ e n=>u.keep þ n hb #[]) (λ b o _ hb _ e n=>u.slot þ n hb #[]) (λ b o _ e n=>u.free þ n #[]) (λ b o _ e=>u.there þ #[]) u.vq u.vM u.vW (λ m' hm=>by
  ext ė) zr I.bare
def Inv.call Ū Ú (u:Un (xa ń) ch H H' Ć h') Å5
  Ë:
  ķ:=by
 ext À9;let#[sl,hL]:=u.any ho Ç0 λ z=>(Cs _ z).2.1 rfl;show I.step (ch:=ch) Cs (λ b o hL hb hc e n=>u.keep þ n (λ z=>(Ao.mp (I.ia b z)).elim hL hb) hc) (λ b o _ _ hc e n=>u.any e n hc) (λ b o hc e n=>u.free þ n hc) (λ b o hc e=>u.there þ hc) u.vq u.vM u.vW (λ m' hm=>by
  ext ė) zr hg
def Inv.turned È9{it:Addr}Ú (k:∀ b o,b≠it->Ľ->Đ=↑o) (hn:H it=none) (hL:it≠ Ï)
  (h1:it∈X.ex\/ì<=it) (h2:∀ x c,Ç->c≠it) (h3:∀ p∈X.pn++FH,p.1≠it):Â6:=by
 have nit:∀ b u,H b=↑u->b≠it:=λ b u e z=>by rw[z,hn] at e;cases e
 exact I.step (g':=s.gens) (d':=s.drawn) (ch:=[it]) (λ b hb=>?_) (λ b o _ _ hc e _=>ĸ) (λ b o _ _ hc e _=>#[o.slots,ĸ]) (λ _ _ _ _ n=>n)
  (λ b o hc e=>#[o,ĸ]) (λ _ _ e=>e) (λ _ _ _ e=>e) (λ b ps e=>#[[].toArray,by rw[e];simp]) (λ m hm=>?_) (λ b u e=>?_) I.bare
 .ext ū
  subst e;show#[h1,hL,h2,h3]
 .let#[o,es,ep,ho,r]:=hm;show#[o,es,ep,k _ o (Ne.symm hL) ho,r]
 .exact (I.zr b u e).vc (λ c v hc q=>k c v ?_ q) Ã6;rcases hc with z | z
  .rw[z];show nit b u e
  .show nit c _ z
def Inv.tok Ú (t:Nat):Inv Ò H { s with toks:=t }:=I.un (h':=Ć) (t':=t) Un.refl I.zr
theorem Inv.kept È9 Ú (k:∀ b u,Ä4):Â6:=I.un (Un.kept k) (I.zr.kept k)
theorem Inv.laid Ä7{o:HO}È9 Ú (k:∀ b u,Ä4) (hp:È<=a) (new:xH õ Ã0 h' a o):
  Inv Ò Ã0 { s with heap:=h',toks:=t' }:=I.un (Un.laid k hp (I.zr.fresh hp)) (I.zr.laid k hp new)
theorem Inv.write {x e:Addr}{o:HO}È9 Ú Á6 (k:∀ b u,b≠e->Ä4) (CB:∃ u,h'.get? e=↑u)
  (new:xH õ (upd H x o) h' x o):Inv Ò (upd H x o) { s with heap:=h',toks:=t' }:=I.un (Un.write mu he k CB) (I.zr.write mu he k CB new)
def Inv.iD {Gu:Aj}Ú (h:∀ p∈Gu,ĝ):Inv X Gu è s:=
 #[I.ok,I.os,I.bare,I.base,I.loc,Æ9,Ç0,I.vg,λ p hp=>(Bb.mp hp).elim (λ z=>I.pin p (CW _ z)) (h p),I.zr,I.len]
def iW {N:Ě}(hN:N.Nodup) {i j:Nat}ġ(a:N[i]?=↑x) (b:N[j]?=↑x):i=j:=by
 let#[h1,e1]:=AY.mp a;let#[h2,e2]:=AY.mp b;show (EY hN).mp (e1.trans e2.symm)
def VB {M:Model}ù Ä9 Æ5 ġ Ř Å0 Ú Ö (r:ę)
  (h:∀ s',È0->(∃ a,Heap.SameBut a Ć s'.heap/\(a=Ï\/Ä3 x=↑a))->Q Unit.unit s') Ä:Å9:=by
 let#[m,hn,hl]:=id I.loc;have Bk:(Ç8 == .class||(Ç8 == .module&&Ï != X.env.globals))=Þ:=by rw[ľ];rfl
 have hiσ:i < σ.length:=by rw[I.len];show (AY.mp hi).1
 have uT:=I.uT;have tracked:∀ Ä7{h':Heap},(∃ o,ä a=↑o/\H a=none)->Heap.SameBut a Ć h'->yD õ H h':=λ{a h'} ha hs b ob e=>by
  let#[_,_,hfree]:=ha;exact (I.zr b ob e).vc (λ c w' hc q=>(hs.2 c ?_).trans q) Ã6;rintro rfl;rcases hc with rfl | hc
  .rw[hfree] at e;cases e
  .rw[hfree] at hc;cases hc
 rcases hx with hk | hk
 .exact wpAny_storeName_local hk hn (λ h' HF hs=>?_) Bk;let#[oL,_,_,hoL,_]:=id hn;exact h _ #[I.ok,I.os,I.bare,ò,#[_,HF,λ j y v' e1 e2 e3=>?_],λ y c e=>?_,Ç0,I.vg,λ p hp=>?_,tracked #[oL,hoL,Ç0] hs,by exists I.len] #[_,hs,ň rfl]
  .show ċ Ů
  .ext ĵ;show#[sl,ċ e1]
  .ext Ă;show#[o',ċ e1]
  .by_cases hj:j=i
   .ext À5;show#[u,r,ň #[hk,#[]]]
   .ext Ę;rcases q with ⟨k,e⟩ | ⟨k,c,e,z⟩
    .exact ň #[k,?_];have:y≠x:=λ e=>hj (iW hN e1 (e▸hi));simp[this,e]
    .show .inr #[k,c,e,z.sameBut hs (uT y c e)]
  .let#[w',z]:=Æ9 y c e;show#[w',z.sameBut hs (uT y c e)]
  .ext Ķ;show#[(hs.2 p.1 ne).trans e,n,ne,nf,d]
 .have Cj:X.fn x=true:=by
   rcases hf with z | z
   .show z
   .rw[z] at hk;cases hk
  let#[c,hc]:=I.ok.has x (ň hk);let#[w',z]:=Æ9 x c hc;exact wpAny_storeName_cell ľ hk hc z (λ h' hc' hs=>?_);let#[oc,hoc,Fi]:=id z;exact h { s with heap:=h' } #[I.ok,I.os,I.bare,ò,#[m,hn.sameBut hs (Ne.symm (uT x c hc)),λ j y v' e1 e2 e3=>?_],λ y c' e=>?_,Ç0,I.vg,λ p hp=>?_,tracked #[oc,hoc,I.vg x c hc] hs,by exists I.len] #[c,hs,.inr hc]
  .show ý Ů
  .ext ĵ;show#[sl,ý e1]
  .ext Ă;show#[o',ý e1]
  .by_cases hj:j=i
   .ext À5;show#[u,r,.inr #[ň hk,c,hc,hc']]
   .ext Ę;rcases q with q | ⟨k,c',e,z'⟩
    .show ň q
    .exact .inr #[k,c',e,z'.sameBut hs ?_];rintro rfl;show hj (iW hN e1 (I.ok.inj ű _ e hc▸hi))
  .by_cases Bp:c'=c
   .subst Bp;show#[_,hc']
   .let#[w2,z2]:=Æ9 y c' e;show#[w2,z2.sameBut hs Bp]
  .ext Ķ;exact#[(hs.2 p.1 ?_).trans e,n,ne,nf,d];intro q;rw[q,hoc] at e;have q':oc=p.2:=Bm e;show d w' (by rw[<- q'];show Fi)
def nJ {M:Model}ù Ä9 Æ5 ġ Ř Å0 Ú Ö (r:ę)
  (h:∀ s',È0->Q Unit.unit s') Ä:Å9:=
 VB I hN hi hx r (λ s' I' _=>h s' I') hf
def Inv.YA {s':Ì}{ch:ú}Ú (ho:s'.os=s.os) (u:Un (xa ń) ch H H' Ć s'.heap) (zr:yD õ H' s'.heap) (hg:AllBare s'.gens)
  Ë:Á1:=by
 let#[h',g',d',t',o']:=s';have e:o'=s.os:=ho;subst e;show I.call (g':=g') (t':=t') (d':=d') u zr hg Cs
end
abbrev XK:=Ê->ļ Addr->Î
abbrev St:=List (ļ V)
abbrev VK:=V->Î
abbrev TE:=St->Č
abbrev TT:=St->Hp->(Bool->Î)->Prop
abbrev TA:=St->Hp->(ê->Î)->Prop
structure Ends where
 nx:ů
 rt:VK
 bk:ů:=λ _ _=>False
 ct:ů:=λ _ _=>False
abbrev TS:=Ends->ů
def EP ë ő Ê3 (u:Ê) Ê4:Prop:=∃ v H',Á1/\ę/\Q v H'
def TP ë ő Ç4 (b:Bool) Ê4:Prop:=∃ H',Á1/\Q b H'
def AP ë ő (Q:ê->Î) Ê5 Ê4:Prop:=∃ vs H',Á1/\Æ8/\Q vs H'
def SP ë (FH:Aj) (D:Ends) (f:Flow) Ê4:Prop:=
 match f with
 | .next=>∃ σ' H',ð/\D.nx ı
 | .brk=>∃ σ' H',ð/\D.bk ı
 | .cont=>∃ σ' H',ð/\D.ct ı
 | .ret u=>∃ v σ' H',ð/\ę/\D.rt v H'
def PE ë (e:Expr) (t:TE):Prop:=
 ∀ Â Ê3,À->t è Q->ç Á (eval e ß) Ã9
def PT ë (e:Expr) (t:TT):Prop:=
 ∀ Â Ç4,À->t è Q->ç Á (isTrue e ß (eval e ß)) (TP Ò Q) ł
def PW ë (e:Expr) (t:TT):Prop:=
 ∀ (whole:Sem Ê) Â Ç4,À->t è Q->ç Á (isTrue e ß whole) (TP Ò Q) ł
def PW.pt Ħ À1{t:TT}(h:PW X e t):PT X e t:=h _
def PA ë (es:ī) (t:TA):Prop:=
 ∀ (pos:Pos) Â (Q:ê->Î),À->t è Q->ç Á (spliced (backTo pos (ź es ß))) (AP Ò Q) ł
def PS ë (st:Stmt) (t:TS):Prop:=
 ∀ Â (D:Ends),À->t D è->ç Á (exec st ß) (SP X FH D) ł
def wa ë (st:Ž) (t:TS):Prop:=
 ∀ Â (D:Ends),À->t D è->ç Á (execs st ß) (SP X FH D) ł
def zF {α:Type}{t:Sem α}{Q Q':α->Ì->Prop}{M:Model}ù Ä9 Š(h:ç M A t Q E s) (hQ:∀ a s,Q a s->Q' a s):ç M A t Q' E s:=za6 h hQ λ _ _ x=>x
section
variable {Ħ}
def nF Ê1:TE:=fun σ H Q=>∃ v,σ[i]?=↑↑v/\Q v H
def tC (v:V):TE:=λ _ H Q=>Q v H
def Tv Æ5 ġ ć(hN:X.N[i]?=↑x) (hv:lj X.env.scope x) Ĳ (Bg:(x == ("__classdict__":Str))=Þ:=by decide):PE X Ņ (nF i):=by
 ext Í;let#[v,e,h]:=h;let#[m,hn,hl]:=I.loc;let#[u,r,l]:=hl i x v hN e hv;have fin:EP Ò Q u s:=Â1;rcases l with ⟨hk,hm⟩ | ⟨hk,c,hc,hcell⟩
 .show wpAny_Name (wpAny_loadName_local ľ hk hn hm fin) hd
 .rcases hk with hk | hk
  .show wpAny_Name (wpAny_loadName_cell ľ hk hc hcell fin) hd
  .show wpAny_Name (wpAny_loadName_free ľ hk hc hcell fin Bg) hd
def TH {i j pos}:PE X (.Constant (ñ i) j pos) (tC (ñ i)):=λ _ _ _ H _ I h=>wpAny_Constant_int #[ñ i,H,ņ,č,h]
def TN {b j pos}:PE X (.Constant (.bool b) j pos) (tC (.bl b)):=λ _ _ _ H _ I h=>Constant_bool #[.bl b,H,I,rfl,h]
def T9 {j pos}:PE X (.Constant .none j pos) (tC .zm):=λ _ _ _ H _ I h=>Constant_none #[.zm,H,I,rfl,h]
def Tz {x j pos}:PE X (.Constant (.str x) j pos) (tC (.str x)):=λ _ _ _ H _ I h=>Calls.Constant_str #[.str x,H,ņ,č,h]
def Gl ë (x:Str):Prop:=X.env.kindOf x=↑.globalImplicit
def pZ Ä9 Ê6 Š Ê7 İ ġ{u:Ê}ć{Q:Ag}Ú É0 (h:Q u s)
  Ĳ:ç Á (eval Ņ ß) Q E s:=
 Calls.Name_function_global ľ hg (Calls.loadGlobal_global Ŷ hm h) hd
def rF Ä9 Ê6 Š Ê7 İ ġ{u:Ê}ć{Q:Ag}Ú Ď (hv:ś=↑u) (h:Q u s)
  Ċ Ĳ:ç Á (eval Ņ ß) Q E s:=by
 let#[mb,h1,h2]:=I.mod.blt;show Calls.Name_function_global ľ hg (Calls.loadGlobal_builtin Ŷ hm (by rw[I.ok.blt];show h1.keeps I.bk) ((h2 x hn).trans hv) h) hd
def iG ġ Ř ć É0 (r:ę) Ĳ:PE X Ņ (tC v):=
 λ _ _ _ H _ I h=>pZ I hg hm Â1 hd
def ah ġ Ř ć Ď (hv:ś=↑u) (r:ę) Ċ Ĳ:PE X Ņ (tC v):=
 λ _ _ _ H _ I h=>rF I hg hm hv Â1 hn hd
variable {a b:Expr}{ta tb:TE}{ć}
variable {tA tB':TT}{FJ:ī}
def V8 (t u:TT):TT:=fun σ H Q=>t è λ c H1=>if c=true then u Ų Q else Q Þ H1
def Vu (t u:TT):TT:=fun σ H Q=>t è λ c H1=>if c=true then Q true H1 else u Ų Q
def Vx (t:TT):TT:=fun σ H Q=>t è λ c H1=>Q (!c) H1
def U8 š:PW X (Ŗ .And [a] pos) tA:=by
 ext Ţ;exact isTrue_and Æ0;cases c with
 | true=>show isTrue_and_nil e
 | Þ=>show e
def U6 š:PW X (Ŗ .Or [a] pos) tA:=by
 ext Ţ;exact isTrue_or Æ0;cases c with
 | Þ=>show isTrue_or_nil e
 | true=>show e
def U9 š (hb:PW X (Ŗ .And (b::FJ) pos) tB'):PW X (Ŗ .And Å6) (V8 tA tB'):=by
 ext Ţ;exact isTrue_and (zF Ã1 λ c s1 Ŏ=>?_);cases c with
 | true=>show hb wh á Q I1 q1
 | Þ=>show Ŏ
def U7 š (hb:PW X (Ŗ .Or (b::FJ) pos) tB'):PW X (Ŗ .Or Å6) (Vu tA tB'):=by
 ext Ţ;exact isTrue_or (zF Ã1 λ c s1 Ŏ=>?_);cases c with
 | true=>show Ŏ
 | Þ=>show hb wh á Q I1 q1
def UC š:PT X (.UnaryOp .Not a pos) (Vx tA):=by
 ext Í;show isTrue_not (ha Ŕ (λ c H1=>Q (!c) H1) I h)
def V7 (ta tb:TE):TE:=fun σ H Q=>ta è λ x H1=>∃ c,x=.bl c/\if c=true then tb Ų Q else Q (.bl Þ) H1
def Vt (ta tb:TE):TE:=fun σ H Q=>ta è λ x H1=>∃ c,x=.bl c/\if c=true then Q (.bl true) H1 else tb Ų Q
def Vv (ta:TE):TE:=fun σ H Q=>ta è λ x H1=>∃ c,x=.bl c/\Q (.bl (!c)) H1
def T6 {op} {t:TE}(h:PE X a t):PE X (Ŗ op [a] pos) t:=λ FH s σ H Q I hw=>BoolOp_one (h Ŕ Q I hw)
def TQ ĳ (hb:PE X (Ŗ .And (b::FJ) pos) tb):PE X (Ŗ .And Å6) (V7 ta tb):=by
 ext Í;exact BoolOp_and (ğ);ext Ŭ;exact zaH ?_;cases c with
 | true=>show hb á Q I1 q1
 | Þ=>show#[.bl Þ,H1,I1,rfl,q1]
def T4 ĳ (hb:PE X (Ŗ .Or (b::FJ) pos) tb):PE X (Ŗ .Or Å6) (Vt ta tb):=by
 ext Í;exact BoolOp_or (ğ);ext Ŭ;exact zaH ?_;cases c with
 | Þ=>show hb á Q I1 q1
 | true=>show#[.bl true,H1,I1,rfl,q1]
def T7 ĳ:PE X (.UnaryOp .Not a pos) (Vv ta):=by
 ext Í;exact UnaryOp_ (ğ);ext Ŭ;show not_of (zaH #[.bl (!c),H1,I1,rfl,q1])
end
def zU Ê8 ĥ ŝ (xs:ê):Prop:=
 Rd H a (.lst xs)\/
  ∃ (o:Obj) (Aa:Ar) (n:Nat),K.lookup a=↑o/\o.cls=.type "list"/\o.dict=none/\ť
def yi Ê8 ĥ ŝ (xs:ê):Prop:=
 Rd H a Ÿ\/
  ∃ (o:Obj) (Aa:Ar) (n:Nat),K.lookup a=↑o/\(o.cls=.type "tuple"/\o.dict=none)/\ť
def Jb:Ê->ļ V
 | .none=>↑.zm
 | .bool b=>↑(.bl b)
 | ñ i _=>↑(ñ i)
 | .str x _=>↑(.str x)
 | .bytes b _=>↑(.m_ b)
 | .float b _=>↑(.gF b)
 | ĭ a=>↑(ĭ a)
 | .type n=>↑(.ty n)
 | _=>none
def RelV.abs {x:V}Ã5:Jb u=↑x:=by
 cases x with
 | zm=>cases r;rfl
 | bl _=>cases r;rfl
 | ref _=>cases r;rfl
 | ty _=>cases r;rfl
 | _=>let#[t,rfl]:=r;rfl
theorem RelV.inj {x y:V}Ã5 (q:RelV y u):x=y:=Bm (r.abs.symm.trans q.abs)
theorem Vals.inj:∀ {xs ys:ê}Ň,ŀ->Vals ys us->xs=ys
 | _,_,_,.nil,.nil=>rfl
 | _,_,_,Ś r t,Ś r' t'=>by rw[r.inj r',Vals.inj t t']
section
variable {Ħ}{Ô}{Ä7}{xs ys:ê}
def zU.of {K:Ab}(h:H a=↑(.lst xs)):zU ų:=ň (ň h)
def yi.of {K:Ab}(h:H a=↑ Ÿ):yi ų:=ň (ň h)
def Inv.list Ú (h:zU X.K Ŵ):∃ Aa:List Ê,Å8/\PlainL Ć a À7/\Ĩ<=ô:=by
 rcases h with h | ⟨o,Aa,n,hk,hc,hd,hs,hz,r⟩
 .let#[z,Aa,n,r,e]:=h.ok I.zr;show#[Aa,r,#[_,n,e,rfl,rfl,rfl],z]
 .exact#[Aa.toList,r,#[o,n,I.y7 a o hk,hc,hd,by exists hs],?_];ext Ê9
def Inv.tuple Ú (h:yi X.K Ŵ):∃ Aa:List Ê,Å8/\IsTup Ć a À7/\Ĩ<=ô:=by
 rcases h with h | ⟨o,Aa,n,hk,hc,hs,hz,r⟩
 .let#[z,Aa,r,p]:=h.ok I.zr;show#[Aa,r,p,z.1]
 .exact#[Aa.toList,r,#[o,I.y7 a o hk,hc.1,n,by exists hs],?_];ext Ê9
def Inv.hX Ú (h:zU X.K Ŵ) (h':zU X.K H a ys):xs=ys:=by
 let#[Aa,r,#[o,n,e,_,_,d],_]:=I.list h;let#[AZ,r',#[o',n',e',_,_,d'],_]:=I.list h';rw[e] at e';cases e';rw[d] at d'
 injection d' with d1 _
 ext Â2
 subst this;show r.inj r'
def Inv.jS Ú (h:yi X.K Ŵ) (h':yi X.K H a ys):xs=ys:=by
 let#[Aa,r,#[o,e,_,n,d],_]:=I.tuple h;let#[AZ,r',#[o',e',_,n',d'],_]:=I.tuple h';rw[e] at e';cases e';rw[d] at d'
 injection d' with d1 _
 ext Â2
 subst this;show r.inj r'
end
abbrev Cx.uY ë (E:Ag):Cx:={ X with xe:=E }
abbrev Cx.x9 ë:Cx:=X.uY λ _ _=>False
theorem Cx.Ok.uY Ħ(ok:X.Ok) (E:Ag):(X.uY E).Ok:=
 Ø
def Cx.Ok.pz Ħ Ä9(ok:(X.uY E).Ok):X.Ok:=
 Ø
section
variable {Ħ}{Ô}{Ä9}
theorem Inv.uY Ú (E:Ag):Inv (X.uY E) FH è s:=#[I.ok.uY E,I.os,I.bare,I.base,I.loc,Æ9,Ç0,I.vg,I.pin,I.zr,I.len]
theorem Inv.pz (I:Inv (X.uY E) FH è s):À:=#[I.ok.pz,I.os,I.bare,I.base,I.loc,Æ9,Ç0,I.vg,I.pin,I.zr,I.len]
theorem SP.pz {D:Ends}{f:Flow}{s':Ì}(h:SP (X.uY E) FH D f s'):SP X FH D f s':=by
 cases f with
 | ret u=>let#[v,σ',H',I,r,q]:=h;show#[v,σ',H',I.pz,r,q]
 | _=>let#[σ',H',I,q]:=h;show#[σ',H',I.pz,q]
theorem wa.x9 {st:Ž}{t:TS}(h:wa X.x9 st t):wa X st t:=λ FH s σ H D I hw=>
 za6 (h Ŕ D (I.uY _) hw) (λ _ _ q=>q.pz) λ _ _ z=>False.elim z
end
section
variable {Ħ}{st:Stmt}{FJ:Ž}{t u:TS}{À1}{te:TE}{ć}
def Vz:TS:=λ D σ H=>D.nx è
def Vp (t u:TS):TS:=λ D σ H=>t { D with nx:=u D } è
def UG:wa X [] Vz:=λ _ _ σ H _ I h=>zaM #[σ,H,I,h]
def UH (h1:PS X st t) (h2:wa X FJ u):wa X (st::FJ) (Vp t u):=by
 ext ó;exact wpAny_execs_cons (zF (h1 Ŕ { D with nx:=u D } I h) λ f s1 q=>?_);cases f with
 | next=>
  let#[σ',H',I',q]:=q;show h2 FH s1 ı D I' q
 | ret v=>show q
 | _=>show q
def i9 (h1:PS X st t):wa X [st] t:=by
 ext ó;exact wpAny_execs_cons (zF (h1 Ŕ D I h) λ f s1 q=>?_);cases f with
 | next=>show zaM q
 | ret v=>show q
 | _=>show q
def Inv.quiet Ô Ú:interactive ß=Þ:=by simp[interactive,ľ]
def V6 (te:TE):TS:=λ D σ H=>te è λ _ H1=>D.nx Ų
def UO Â8 (hs:swapsWith e none pos.line ß=pure Þ:=by rfl):PS X (.Expr e pos) (V6 te):=by
 ext ó;show wpAny_Expr_any (zF (he Å) λ v s1 Æ=>#[σ,H1,I1,q1]) I.quiet hs
def Vr (te:TE):TS:=λ D σ H=>te è D.rt
def UL Â8:PS X (.Return ↑e pos) (Vr te):=by
 ext ó;show wpAny_Return_some (zF (he Å) λ v s1 Æ=>#[x,σ,H1,I1,r1,q1])
def V4 (c:TT) (t u:TS):TS:=λ D σ H=>c è λ b H1=>if b=true then t D Ų else u D Ų
def UM {c:Expr}{a b:Ž}{tc:TT}(hc:PT X c tc) (ha:wa X a t) (hb:wa X b u):PS X (.If c a b pos) (V4 tc t u):=by
 ext ó;exact wpAny_If (zF (hc Å) λ d s1 Ŏ=>?_);cases d with
 | true=>show ha á D I1 q1
 | Þ=>show hb á D I1 q1
end
abbrev TG:=V->St->Hp->(ů)->Prop
abbrev sT:=ê->St->Hp->(ů)->Prop
def PG ë (target:Expr) (t:TG):Prop:=
 ∀ Â (v:V) (u:Ê) (Q:ů),À->ę->t v è Q->
  ç Á (assign target ß u) È7 ł
def tX ë (ts:ī) (t:sT):Prop:=
 ∀ Â (vs:ê) Ê5 (Q:ů),À->Æ8->t vs è Q->
  ç Á (assignInOrder ((Á7 ts ß).map (·.2)) us) È7 ł
abbrev e9:=V->V->V->Hp->(Î)->Prop
def Xg ë (t:e9):Prop:=
 ∀ Â (o i v:V) (ov iv u:Ê) (Q:Î),À->RelV o ov->RelV i iv->ę->t o i v H Q->
  ç Á (setItem ov iv u) (λ _ s'=>∃ H',Á1/\Q H') ł
section
variable {Ħ}{ć}
def ox Ê1:TG:=λ v σ H Q=>Q (σ.set i ↑v) H
def Tj Æ5 ġ Ö Ä:PG X Ņ (ox i):=by
 intro FH s σ H v u Q I r h;show wpAny_assign_Name (nJ I hN hi hx r (λ s' I'=>#[_,H,I',h]) hf)
def Ln:sT:=λ vs σ H Q=>vs=[]/\Q è
def Lq (t:TG) (u:sT):sT:=λ vs σ H Q=>∃ v r,vs=v::r/\t v è fun σ' H'=>u r ı Q
def Te:tX X [] Ln:=by
 intro FH s σ H vs us Q I r h;let#[e,h]:=h;subst e;cases r;show assignInOrder_nil #[σ,H,I,h]
def Tf À1{es:ī}{t:TG}{u:sT}(h1:PG X e t) (h2:tX X es u)
  (hs:(Á7 (e::es) ß).map (·.2)=assign e ß::(Á7 es ß).map (·.2):=by rfl):tX X (e::es) (Lq t u):=by
 intro FH s σ H vs us Q I r h;let#[v,vr,e1,h]:=h;subst e1;cases r with
 | cons r rr=>
  rw[hs];exact assignInOrder_cons (zF (h1 Ŕ ű _ I r h) λ _ s1 #[σ1,H1,I1,q1]=>?_);show h2 FH s1 σ1 H1 ű Q I1 rr q1
def ZS Ê8 (n:Nat) (t:sT):TG:=λ v σ H Q=>∃ a xs,v=ĭ a/\yi ų/\Ĩ=n/\t xs è Q
def Tg {es:ī}Ë0{t:sT}{n:Nat}(hc:Ŋ) (h:tX X es t)
  (hn:(Á7 es ß).length=n:=by rfl) (AR:(Á7 es ß).findIdx? (·.1)=none:=by rfl):PG X (.Tuple es k pos) (ZS X.K n t):=by
 intro FH s σ H v u Q I r hw;let#[a,xs,e1,hq,hl,hw]:=hw;subst e1;cases r;let#[Aa,rv,ht,hz]:=I.tuple hq;exact assign_Tuple_tuple į ht (by simp[hn,<- hl,rv.length]) AR λ h' hx=>?_;have I1:Inv Ò H { s with heap:=h' }:=I.kept (t':=s.toks) λ b o e=>hx b o (AB (An e)) e;show h FH _ è xs _ Q I1 (by exists rv) hw
def Lm (to ti:TE) (t:e9):TG:=λ v σ H Q=>to è λ o H1=>ti Ų λ i H2=>t o i v H2 λ H3=>Q σ H3
def Ti {o i:Expr}{to ti:TE}{t:e9}(ho:PE X o to) (hi:PE X i ti) (hs:Xg X t)
  (ha:∀ v,assign (.Subscript o i pos) ß v=(do
   let ov <- holding [v] (eval o ß)
   let iv <- holding [v,ov] (eval i ß)
   standAt pos
   holding [v,ov,iv] (setItem ov iv v)
   release [v,ov,iv] []):=by intro _;rfl):PG X (.Subscript o i pos) (Lm to ti t):=by
 intro FH s σ H v u Q I r h;rw[ha];exact MX (za7 (zF (ho Å) λ ov s1 Æ=>?_));exact MX (za7 (zF (hi á _ I1 q1) λ iv s2 Ġ=>?_));exact MX (zaN (MX (za7 (zF (hs À6 ov iv u _ I2 r1 r2 r q2) λ _ s3 #[H3,I3,q3]=>?_))));show wpAny_release #[σ,H3,I3,q3]
def nI (te:TE) (g:TG):TS:=λ D σ H=>te è λ x H1=>g x Ų D.nx
def bZ {tg e:Expr}{te:TE}{g:TG}Â8 (hg:PG X tg g) (hs:swapsWithSole [tg] e pos.line ß=pure Þ:=by rfl) (hw:swappedStores [tg] e ß=pure none:=by rfl)
  (h1:(Á7 [tg] ß).map (·.2)=[assign tg ß]:=by rfl):PS X (.Assign [tg] e pos) (nI te g):=by
 ext ó;exact wpAny_Assign_stores (zF (he Å) λ v s1 Æ=>?_) hs hw;rw[h1];show zF (hg á x v _ I1 r1 q1) λ _ s2 q=>q
def bX Æ5 ġ À1{te:TE}{pos':Pos}Ö Â8 (hs:swapsWith e ↑(.Name x pos') pos.line ß=pure Þ:=by rfl) Ä:
  PS X (.Assign [.Name x pos'] e pos) (nI te (ox i)):=by
 ext ó;exact wpAny_Assign_Name (zF (he Å) λ v s1 #[y,H1,I1,r1,q1]=>?_) hs;show nJ I1 hN hi hx r1 (λ s2 I2=>#[_,H1,I2,q1]) hf
def Vl (c:TT) (tb:TS):TS:=λ D σ H=>∃ W:Nat->ů,(∃ m,W m è)/\∀ m σ H,W m è->
 c è λ b H1=>if b=true then ∃ N:ů,(∀ σ' H',N ı->∃ m',m'<m/\W m' ı)/\tb { D with nx:=N,ct:=N,bk:=D.nx } Ų else D.nx Ų
def UI {c:Expr}{body:Ž}{tc:TT}{tb:TS}(hp:PassesOwn Á ß X.xe) (hc:PT X c tc) (hb:wa X body tb):PS X (.While c body [] pos) (Vl tc tb):=by
 ext ó;let#[W,#[m0,w0],turn]:=h;exact wpAny_While (codeAny_whileLoop (λ n s'=>∃ σ' H',ð/\W n ı) ?_ m0 #[σ,H,I,w0]);rintro n s1 ⟨σ1,H1,I1,w1⟩;exact zaO hp (zF (hc FH s1 σ1 H1 _ I1 (turn n σ1 H1 w1)) λ b s2 #[H2,I2,q2]=>?_);cases b with
 | true=>
  let#[N,hN,q2]:=q2;rw[if_pos rfl];exact zaO hp (zF (hb FH s2 σ1 H2 _ I2 q2) λ f s3 q3=>?_);cases f with
  | next=>
   ext ą
  | cont=>
   ext ą
  | brk=>show q3
  | ret v=>show q3
 | Þ=>
  rw[É5 BC];show zaM #[σ1,H2,I2,q2]
end
structure It where
 go:Nat->Î
 pq:Nat->Hp->V->Î
 stop:Nat->Î
def vS ë (FH:Aj) ĥ (b:Addr):Prop:=
 ÿ/\b≠ Ï/\b∉X.fs/\(b∈X.ex\/ì<=b)/\À3
theorem Inv.gB Ħ Ê6 Ê7{H H':Hp}Š{b:Addr}Ú (hb:È<=b) (hn:H' b=none):vS X FH H' b:=by
 exact#[hn,BB (Ba I.lt hb),I.aN hb,.inr (Bc I.sz hb),λ x c e z=>?_,λ p hp z=>?_]
 .let#[v,q]:=Æ9 x c e;show ō (Ba q.lt (by rw[z];show hb)) (Cq _)
 .show ō (Ba (An (I.pin p hp).1) (by rw[z];show hb)) (Cq _)
structure Turn í Ê8 (tg:Expr) (J:It) (fp:ú) (it:Addr) (tn:Nat->Heap->Prop):Prop where
 mem:it∈fp
 obj:∀ i h,tn i h->∀ b∈fp,∃ o,Ī/\∀ v,o.data≠.cell v
 keep:∀ i h h',tn i h->(∀ b∈fp,∀ o,Ī->Đ=↑o)->tn i h'
 item:∀ ë,X.prog=P->X.w=w->X.K=K->Ŋ->∀ Ê1 Â (E:Ag),À->(Á2)->tn i Ć->J.go i H->
  ç Ũ X.A (pyNext (ĭ it)) (λ r s1=>∃ u,r=↑u/\
   ç Ũ X.A Ç1 (λ _ s2=>∃ x H',Inv Ò H' s2/\RelV x u/\J.pq i H x H'/\tn (i+1) s2.heap/\œ) E s1) E s
 done:∀ ë,X.prog=P->X.w=w->X.K=K->Ŋ->∀ Ê1 Â (E:Ag),À->(Á2)->tn i Ć->J.stop i H->
  ç Ũ X.A (pyNext (ĭ it)) (λ r s1=>r=none/\Inv Ò H s1) E s
 self:∀ (A:Around) Ê1 Â3,tn i Ć->Q (ĭ it) s->ç Ũ A (pyIter (ĭ it)) Q E s
abbrev TI:=St->Hp->(It->Î)->Prop
def Xh ë ő (tg:Expr) (R:It->Î) (itv:Ê) (s2:Ì):Prop:=
 ∃ (it:Addr) (fp:ú) (tn:Nat->Heap->Prop) (J:It) (H':Hp),itv=ĭ it/\Inv Ò H' s2/\Turn õ X.K tg J fp it tn/\tn 0 s2.heap/\(∀ b∈fp,vS X FH H' b)/\R J H'
def PI ë (tg iter:Expr) (wi:TI):Prop:=
 ∀ Â (R:It->Î),À->wi è R->
  ç Á (eval iter ß) (λ v s1=>ç Á (pyIter v) (Xh Ò tg R) X.xe s1) ł
def gs {M:Model}ù Ä9 Š{tg:Expr}{it:Addr}{u:Ê}{o:Obj}{n:String}{vs:Ar}Å0(ho:ä it=↑o) (hc:o.cls=.type n) (hd:o.data=.fields vs)
  (hn:Ý=Þ) (hQ:Q Unit.unit s):ç M A Ç1 Q E s:=by
 unfold letOwnedTupleGo;cases tg <;> first
  | show Ac hQ
  | (cases u <;> first
    | show Ac hQ
    | (exact MX (wpAny_load ho ?_)
       rw[hc,hd];change ç M A (if (Ý&&vs[0]? == ↑(rawInt _))=true then _ else _) Q E s;rw[É5 (by intro h;rw[hn,DI] at h;cases h)];show Ac hQ))
def Xp Ê8 ŝ:It:=
 #[λ i H=>∃ xs x,zU ų/\Â9,λ i H x H'=>H'=H/\∀ xs,zU ų->Â9,λ i H=>∃ xs,zU ų/\Ĩ<=i]
def Xo Ê8 ŝ:It:=
 #[λ i H=>∃ xs x,yi ų/\Â9,λ i H x H'=>H'=H/\∀ xs,yi ų->Â9,λ i H=>∃ xs,yi ų/\Ĩ<=i]
def lr (lo:Int) (n:Nat):It:=#[λ i _=>i<n,λ i H x H'=>H'=H/\x=ñ (lo+i),λ i _=>n<=i]
def Vf Ü È3(a it:Addr):Turn P w K tg (Xp K a) [it] it (λ i h=>h.IsListIter it a i) where
 mem:=#[]
 obj:=λ i h st b hb=>by
  ext ū
  ext Ĭ
 keep:=À8
 item:=by
  ext É;let#[xs,x,hq,hx]:=hg;let#[Aa,rv,p,hz]:=I.list hq;ext É1;exact wpAny_pyNext_list_item st p.isList Ç5;ext é;show#[u,rfl,gs (s:={ s with heap:=h' }) e c d () #[x,H,I1,ru,#[rfl,λ ys hy=>by rw[I.hX hy hq];show hx],HI,Ã2]]
 done:=by
  ext É;let#[xs,hq,hx]:=hg;let#[Aa,rv,p,hz]:=I.list hq;ext Ð;have hl:=rv.length;show wpAny_pyNext_list_end į st p.isList (by simp;lia) Ù
 self:=λ _ _ _ _ _ st h=>wpAny_pyIter_listiter st h
def Vd Ü È3(a it:Addr):Turn P w K tg (Xo K a) [it] it (λ i h=>h.IsTupleIter it a i) where
 mem:=#[]
 obj:=λ i h st b hb=>by
  ext ū
  ext Ĭ
 keep:=À8
 item:=by
  ext É;let#[xs,x,hq,hx]:=hg;ext Ë1;ext É1;exact wpAny_pyNext_tuple_item st Æ1 Ç5;ext é;show#[u,rfl,gs (s:={ s with heap:=h' }) e c d () #[x,H,I1,ru,#[rfl,λ ys hy=>by rw[I.jS hy hq];show hx],HI,Ã2]]
 done:=by
  ext É;let#[xs,hq,hx]:=hg;ext Ë1;ext Ð;have hl:=rv.length;show wpAny_pyNext_tuple_end į st Æ1 (by simp;lia) Ù
 self:=λ _ _ _ _ _ st h=>wpAny_pyIter_tupleiter st h
def Ve Ü È3(it:Addr) (lo:Int) (n:Nat):Turn P w K tg (lr lo n) [it] it (λ i h=>IsRangeIter h it (lo+(i:Nat)*1) ((n:Int)-(i:Nat)) 1) where
 mem:=#[]
 obj:=λ i h st b hb=>by
  ext ū
  subst e;show#[_,st,λ v z=>by
   have z':Data.fields _=Data.cell v:=z;cases z']
 keep:=λ i h h' st k=>k it #[] _ st
 item:=by
  ext É;ext Ð;have W:=Walks.range (prog:=X.prog) (w:=X.w) į it lo 1 n;exact W.item i s ű hg st λ v h' tk hv HI kk=>?_;let#[t,rfl]:=hv;have I1:Inv Ò H { s with heap:=h',toks:=tk }:=I.turned (λ b o hb e=>kk b o (by exists hb) e) f0 f1 f3 f4 f5;exact#[_,rfl,gs (s:={ s with heap:=h',toks:=tk }) (n:="range_iterator") HI rfl rfl () #[ñ (lo+i),H,I1,#[t,?_],#[rfl,rfl],HI,Ã2]];rw[Int.mul_one]
 done:=by
  ext É;ext Ð;show wpAny_pyNext_range_end į st (by have:n<=i:=hg;lia) Ù
 self:=λ _ _ _ _ _ st h=>wpAny_pyIter_rangeiter st h
section
variable {Ħ}{tg:Expr}
def bE Ô{R:It->Î}Ä9{lo hi:Int}{t u v:Tok}{tk:Nat}Ú (h1:-(2 ^ 62)<=lo) (h2:lo<2 ^ 62) (h3:-(2 ^ 62)<=hi) (h4:hi<2 ^ 62)
  (q:R (lr lo (hi-lo).toNat) H):ç Á (pyIter (ĭ È)) (Xh Ò tg R) E { s with heap:=Ã,toks:=tk }:=by
 exact wpAny_pyIter_range (IsRange.new ..) (small_one h1 h2 h3 h4) ?_;have I1:Inv Ò H { s with heap:=Ã,toks:=tk }:=I.kept λ b o e=>gV _ e;exact#[(Ã).objs.size,[(Ã).objs.size],_,_,H,rfl,
  I1.kept (t':=tk) λ b o e=>gV _ e,Ve _ lo (hi-lo).toNat,?_,λ b hb=>?_,q]
 .have e1:lo+((0:Nat):Int)*1=lo:=#[];have e2:Á3=Builtin.Range.rangeSize lo hi 1:=by rw[rangeSize_one];split <;> lia
  change IsRangeIter ű (lo+((0:Nat):Int)*1) (Á3) 1;rw[e1,e2];show AW _ rfl
 .have e:b=(Ã).objs.size:=by exists hb
  subst e;show I1.gB (Am _) (Ä5)
def ZH (ta:TA):TI:=fun σ H R=>ta è λ vs H1=>∃ j:Int,vs=[ñ j]/\-(2 ^ 62)<=j/\j<2 ^ 62/\R (lr 0 j.toNat) H1
def ZG (ta:TA):TI:=fun σ H R=>ta è λ vs H1=>∃ i j:Int,vs=[ñ i,ñ j]/\(-(2 ^ 62)<=i/\i<2 ^ 62/\-(2 ^ 62)<=j/\j<2 ^ 62)/\R (lr i (j-i).toNat) H1
theorem Td {a:Expr}Ĺ (ha:PA X [a] ta) (hs:ź [a] ß=[(Þ,eval a ß)]:=by rfl):PI X tg (.Call (.Name "range" p) [a] [] pos) (ZH ta):=by
 intro FH s σ H R I h;exact Call_ (rF I hg hm boot_range (ŗ ŏ hs rfl));let#[j,e,q1,q2,q]:=q1;subst e;cases r1 with
 | cons r rr=>
  cases rr;let#[t,rfl]:=r;show call_range_1 (bE I1 ⋯ ⋯ q1 q2 (by exists q))
theorem Tc {a b:Expr}Ĺ (ha:PA X [a,b] ta) (hs:ź [a,b] ß=[(Þ,eval a ß),(Þ,eval b ß)]:=by rfl) (Ij:ź [b] ß=[(Þ,eval b ß)]:=by rfl):
  PI X tg (.Call (.Name "range" p) [a,b] [] pos) (ZG ta):=by
 intro FH s σ H R I h;exact Call_ (rF I hg hm boot_range (ŗ ŏ (by rw[hs,Ij]) (by rw[Ij];rfl)));let#[i,j,e,#[q1,q2,q3,q4],q]:=q1;subst e;cases r1 with
 | cons r rr=>
  cases rr with
  | cons r' rr=>
   cases rr;let#[t,rfl]:=r;let#[t',rfl]:=r';show call_range_2 (bE I1 q1 q2 q3 q4 q)
def V5 (wi:TI) (g:TG) (tb:TS):TS:=λ D σ H=>wi è λ J H1=>∃ W:Nat->Nat->ů,(∃ m,W 0 m Ų)/\∀ i m σ H,W i m è->
 (J.stop i H/\D.nx è)\/(J.go i H/\∃ N:ů,(∀ σ' H',N ı->∃ m',m'<m/\W (i+1) m' ı)/\∀ x H',J.pq i H x H'->g x σ H' fun σ2 H2=>tb { D with nx:=N,ct:=N,bk:=D.nx } σ2 H2)
def nY (fp:ú) Ş:Aj:=fp.filterMap λ b=>(î b).map λ o=>(b,o)
def k9 {fp:ú}{h:Heap}À0(hb:b∈fp) (e:Ī):(b,o)∈nY fp h:=Dk.mpr #[b,hb,by rw[e];rfl]
def Nn {fp:ú}{h:Heap}{p:Addr×Obj}(hp:p∈nY fp h):p.1∈fp/\î p.1=↑p.2:=by
 let#[b,hb,e]:=Dk.mp hp;cases q:î b with
 | none=>rw[q] at e;cases e
 | some o=>
  rw[q] at e;have e':(b,o)=p:=Bm e;subst e';show#[hb,q]
def Inv.pinned Ô{fp:ú}Ú (hf:Á2) (ho:∀ b∈fp,∃ o,Ľ/\∀ v,o.data≠.cell v):Inv X (FH++nY fp Ć) è s:=
 I.iD λ p hp=>(Bb.mp hp).elim (λ z=>I.pin p (A8 _ z)) λ z=>by
  let#[hb,e]:=Nn z;let#[f0,f1,f2,_]:=hf p.1 hb;let#[o,e',d]:=ho p.1 hb;rw[e] at e';cases e';show#[e,f0,f1,f2,d]
def Inv.nE {FH pl:Aj}Ê7 İ Š(I:Inv X (FH++pl) è s):À:=I.iD λ p hp=>I.pin p (A8 _ (CW _ hp))
def UN {iter:Expr}{body:Ž}{wi:TI}{g:TG}{tb:TS}ć(hp:PassesOwn Á ß X.xe) (hc:Ŋ) (hi:PI X tg iter wi) (hg:PG X tg g) (hb:wa X body tb)
  (hs:∀ x,foldedSetIterable iter ß x=pure x:=by intro _;rfl):PS X (.For tg iter body [] pos) (V5 wi g tb):=by
 ext ó;exact wpAny_For (zF (hi Å) λ v s1 h1=>zF h1 λ itv s2 h2=>?_) hs;let#[it,fp,tn,J,H2,e,I2,T,st2,f2,W,#[m0,w0],turn]:=h2;subst e;have HZ:∀ {H':Hp},(œ)->∀ b∈fp,vS X FH H' b:=λ hn b hb=>#[hn b hb,(f2 b hb).2];exact codeAny_forLoop_any (λ n s'=>∃ i σ' H',ð/\tn i s'.heap/\(œ)/\W i n ı) ?_ m0 #[0,σ,H2,I2,st2,λ b hb=>(f2 b hb).1,w0];rintro n s3 ⟨i,σ3,H3,I3,st3,fr3,w3⟩;rcases turn i n σ3 H3 w3 with ⟨stop,qn⟩ | ⟨go,N,hN,step⟩
 .exact zaO hp (zF (T.done X rfl rfl rfl hc Æ6 stop) λ r s4 #[hr,I4]=>?_);subst hr;show zaM #[σ3,H3,I4,qn]
 .exact zaO hp (zF (T.item X rfl rfl rfl hc Æ6 go) λ r s4 #[u,hr,h4]=>?_);subst hr;exact zaO hp (zF h4 λ _ s5 #[x,H5,I5,r5,y5,st5,fr5]=>?_);have I5':=I5.pinned (HZ fr5) (T.obj ű st5);exact zaO hp (zF (hg _ s5 σ3 H5 x u _ I5' r5 (step x H5 y5)) λ _ s6 #[σ6,H6,I6,q6]=>?_);exact zaO hp (zF (hb _ s6 σ6 H6 _ I6 q6) λ f s7 q7=>?_);have again:∀ {σ7:St}{H7:Hp},Inv X (FH++nY fp s5.heap) σ7 H7 s7->N σ7 H7->∃ m,m<n/\∃ i σ' H',Inv X FH ı s7/\tn i s7.heap/\(œ)/\W i m ı:=λ{σ7 H7} I7 n7=>by
   let#[m',hm,w7]:=hN σ7 H7 n7;exact#[m',hm,i+1,σ7,H7,I7.nE,T.keep ű _ st5 λ b hb o e=>(Á8).1,λ b hb=>?_,w7];let#[o,e,d]:=T.obj ű st5 b hb;show (Á8).2.1
  cases f with
  | brk=>let#[σ7,H7,I7,q7]:=q7;show#[σ7,H7,I7.nE,q7]
  | ret v=>let#[x7,σ7,H7,I7,r7,q7]:=q7;show#[x7,σ7,H7,I7.nE,r7,q7]
  | _=>let#[σ7,H7,I7,n7]:=q7;show again I7 n7
end
abbrev R2:=V->V->Č
def yp ë (f:Ê->Ê->Sem Ê) (r:R2):Prop:=
 ∀ Â (x y:V) (v u:Ê) Ê3,À->RelV x v->RelV y u->r x y H Q->
  ç Á (f v u) Ã9
def ej ë (f:Ê->Sem Ê) (r:V->Č):Prop:=
 ∀ Â (x:V) (v:Ê) Ê3,À->RelV x v->r x H Q->
  ç Á (f v) Ã9
def yS ë (f:Ê) (r:ê->Č):Prop:=
 ∀ Â (xs:ê) Ê5 Ê3,À->ŀ->r xs H Q->
  ç Á (call f us) Ã9
def Jc ë (r:V->Hp->(Bool->Î)->Prop):Prop:=
 ∀ Â (x:V) (v:Ê) Ç4,À->RelV x v->r x H Q->
  ç Á (truthy v) (TP Ò Q) ł
def nG (r:R2) (ta tb:TE):TE:=fun σ H Q=>ta è λ x H1=>tb Ų λ y H2=>r x y H2 Q
def Vm (r:V->Č) (ta:TE):TE:=fun σ H Q=>ta è λ x H1=>r x H1 Q
def rI (C:Int->Int->Prop) (g:Int->Int->V):R2:=λ x y H Q=>∃ i j,x=ñ i/\y=ñ j/\C i j/\Q ũ H
def vJ (g:Int->Int->V):R2:=λ x y H Q=>∃ i j,x=ñ i/\y=ñ j/\Q ũ H
def rU (g:Int->V):V->Č:=λ x H Q=>∃ i,x=ñ i/\Q (g i) H
section
variable {Ħ}{a b:Expr}{ta tb:TE}{ć}
def fR å Ê6 Š Ê7 İ{R:V->V->Î}Ú
  (h:ta è λ x H1=>tb Ų λ y H2=>R x y H2) {Q:Ag}ħ
  (hf:∀ v u s2 x y H2,Inv Ò H2 s2->RelV x v->RelV y u->R x y H2->ç Á (f v u) Q X.xe s2):
  ç Á (eval a ß) (λ v s₁=>ç Á (eval b ß) (λ u s₂=>ç Á (f v u) Q X.xe s₂) X.xe s₁) ł:=by
 exact ğ;exact zF Ê0 λ u s2 Ġ=>?_;show hf v u s2 x y H2 I2 r1 r2 q2
def T5 {op:Operator}{r:R2}(ho:yp X (Ŝ op) r) å:PE X (.BinOp a op b pos) (nG r ta tb):=by
 ext Í;show wpAny_BinOp đ
def Tw {op:UnaryOp}{r:V->Č}(ho:ej X (unaryOp op) r) ĳ:PE X (.UnaryOp op a pos) (Vm r ta):=by
 ext Í;show UnaryOp_ (zF Ã1 λ v s1 Æ=>ho á x v Q I1 r1 q1)
def pS ħ{C:Int->Int->Prop}{g:Int->Int->Int}
  (rule:∀ Ē,C i j->ď):
  yp X f (rI C λ i j=>ñ ũ):=by
 ext ã;let#[i,j,rfl,rfl,hc,q]:=h;ext ŋ;show rule i j t t' s ű hc #[ñ ũ,H,ņ,č,q]
def aF ħ{g:Int->Int->Int}
  (rule:∀ Ē,ď):
  yp X f (vJ λ i j=>ñ ũ):=by
 ext Â4;show rule i j t t' s ű #[ñ ũ,H,ņ,č,q]
def iO ħ{g:Int->Int->Bool}
  (rule:∀ Ē,Q (.bool ũ) s->Ä6):
  yp X f (vJ λ i j=>.bl ũ):=by
 ext Â4;show rule i j t t' s ű #[.bl ũ,H,I,rfl,q]
def xJ (i j:Int):Prop:=0<j/\j<1073741824
def qe (i j:Int):Prop:=0<=j/\j<=1000000/\i.natAbs<2 ^ 64
def vU (i j:Int):Prop:=(-(2 ^ 64)<i/\i<2 ^ 64)\/(-(2 ^ 64)<j/\j<2 ^ 64)
def vU.ok {i j:Int}(h:vU i j):IntMulOk i j:=by
 rcases h with ⟨h1,h2⟩ | ⟨h1,h2⟩
 .show .of_left (intBits_le_64 h1 h2)
 .show .of_right (intBits_le_64 h1 h2)
def QN:yp X (Ŝ .Add) (vJ λ i j=>ñ (i+j)):=aF λ _ _ _ _ _ _ _ q=>add_int q
def Q3:yp X (Ŝ .Sub) (vJ λ i j=>ñ (i-j)):=aF λ _ _ _ _ _ _ _ q=>sub_int q
def QB:yp X (Ŝ .Mult) (rI vU λ i j=>ñ (i*j)):=pS λ _ _ _ _ _ _ _ hc q=>mul_int q hc.ok
def QI:yp X (Ŝ .FloorDiv) (rI xJ λ i j=>ñ (i/j)):=pS λ i j _ _ _ _ _ hc q=>by
 have h1:(0:Int)<j:=hc.1;have h2:j<1073741824:=hc.2;show floordiv_int ⋯ (by rw[Int.fdiv_eq_ediv_of_nonneg i ⋯];show q) (ň (PyProof.noPylong_small ⋯))
def QC:yp X (Ŝ .Mod) (rI (λ _ j=>0<j) λ i j=>ñ (i%j)):=pS λ i j _ _ _ _ _ hc q=>by
 have h1:(0:Int)<j:=hc;show mod_int' ⋯ (by rw[Int.fmod_eq_emod_of_nonneg i ⋯];show q)
def Q4:yp X (Ŝ .Pow) (rI qe λ i j=>ñ (i ^ j.toNat)):=pS λ _ _ _ _ _ _ _ hc q=>pow_int_small hc.1 hc.2.1 hc.2.2 q
def W_ {f:Ê->Sem Ê}{g:Int->Int}
  (rule:∀ (i:Int) (t:Tok) Â3,Q (ñ (g i) s.toks) { s with toks:=s.toks+1 }->ç Á (f (ñ i t)) Q E s):
  ej X f (rU λ i=>ñ (g i)):=by
 intro FH s σ H x v Q I rx h;let#[i,rfl,q]:=h;ext Ą;show rule i t s ű #[ñ (g i),H,ņ,č,q]
def WY:ej X (unaryOp .USub) (rU λ i=>ñ (-i)):=W_ λ _ _ _ _ _ q=>neg_int q
end
section
variable {Ħ}{a b c:Expr}{ta tb tc:TE}{ć}
def ZZ Ô{Q:VK}{k k':Bool}Ú (q:Q (.bl k) H) (e:k=k'):EP Ò Q (.bool k') s:=by
 subst e;show#[.bl k,H,I,rfl,q]
def QE:yp X (Ŀ .Lt) (vJ λ i j=>.bl (ŭ (i<j))):=iO λ _ _ _ _ _ _ _ q=>lt_int q
def mh:yp X (Ŀ .LtE) (vJ λ i j=>.bl (ŭ (i<=j))):=iO λ _ _ _ _ _ _ _ q=>le_int q
def QG:yp X (Ŀ .Gt) (vJ λ i j=>.bl (ŭ (j<i))):=iO λ _ _ _ _ _ _ _ q=>gt_int q
def aC:yp X (Ŀ .Is) (λ x y H Q=>y=.zm/\Q (.bl (ŭ (x=.zm))) H):=by
 ext ã;let#[rfl,q]:=h;cases ry;exact is_none_gen (ZZ I q ?_);cases x <;> first
  | (cases rx;rfl)
  | (ext Ą;rfl)
def Q5:yp X (Ŀ .IsNot) (λ x y H Q=>y=.zm/\Q (.bl (! ŭ (x=.zm))) H):=by
 ext ã;let#[rfl,q]:=h;cases ry;exact isnot_none_gen (ZZ I q ?_);cases x <;> first
  | (cases rx;rfl)
  | (ext Ą;rfl)
def yp.or ħ{r r':R2}(h:yp X f r) (h':yp X f r'):yp X f (λ x y H Q=>r x y H Q\/r' x y H Q):=by
 intro FH s σ H x y v u Q I rx ry q;rcases q with q | q
 .show h Ŕ x y v u Q I rx ry q
 .show h' Ŕ x y v u Q I rx ry q
def tE (b:Expr) {op:CmpOp}(h:op≠.In:=by decide) (h2:op≠.NotIn:=by decide):Á4:=by
 have e1:(op == CmpOp.In)=Þ:=by cases op <;> first | rfl | show ō rfl h
 have e2:(op == CmpOp.NotIn)=Þ:=by cases op <;> first | rfl | show ō rfl h2
 cases b <;> simp[behindInMarks,e1,e2]
def TJ Â5 å (hm:Á4):PE X (.Compare a [op] [b] pos) (nG r ta tb):=by
 ext Í;show wpAny_Compare1 đ hm
def cL (t:TE):TT:=fun σ H Q=>t è λ x H'=>∃ k,x=.bl k/\Q k H'
def UD Â5 å (hm:Á4):PT X (.Compare a [op] [b] pos) (cL (nG r ta tb)):=by
 ext Í;exact wpAny_isTrue_Compare1 (zF Ã1 λ v s1 Æ=>zF Ê0 λ u s2 Ġ=>
  zF (ho À6 u _ I2 r1 r2 q2) λ c s3 Å3=>?_) hm
 subst e;cases r3;show zaH #[H3,I3,q3]
def jY (r r':R2) (ta tb tc:TE):TE:=fun σ H Q=>ta è λ x H1=>tb Ų λ y H2=>r x y H2 λ z H3=>∃ k,z=.bl k/\
 (if k=true then tc σ H3 λ w' H4=>r' y w' H4 Q else Q (.bl Þ) H3)
def TK ē å (hc:PE X c tc)
  ĺ:PE X Ä1 (jY r r' ta tb tc):=by
 ext Í;exact Compare_chain (zF Ã1 λ v s1 Æ=>chain_link à) hm
 subst e;cases r3;exact zaH ?_;cases k with
 | Þ=>show ite_ff #[.bl Þ,H3,I3,rfl,q3]
 | true=>show ite_tt (chain_last (zF (hc FH s3 σ H3 _ I3 q3) λ w' s4 #[z',H4,I4,r4,q4]=>GG FH s4 σ H4 y z' u w' Q I4 r2 r4 q4))
def UE ē å (hc:PE X c tc)
  ĺ:PT X Ä1 (cL (jY r r' ta tb tc)):=by
 ext Í;exact isTrue_chain (zF Ã1 λ v s1 Æ=>test_link à) hm
 subst e;cases r3;exact zaH ?_;cases k with
 | Þ=>
  let#[k',e',q']:=q3;cases e';show ite_ff #[H3,I3,q']
 | true=>
  exact ite_tt (test_last (zF (hc FH s3 σ H3 _ I3 q3) λ w' s4 #[z',H4,I4,r4,q4]=>zF (GG FH s4 σ H4 y z' u w' _ I4 r2 r4 q4) λ d' s5 #[z2,H5,I5,r5,k2,e2,q5]=>?_));subst e2;cases r5;show zaH #[H5,I5,q5]
def ez Ê8 (x:V) ĥ (k:Bool):Prop:=
 match x with
 | .zm=>k=Þ
 | .bl b=>k=b
 | ñ i=>k=(i != 0)
 | .str y=>Ã3
 | .m_ y=>Æ2
 | ĭ p=>(∃ xs,zU K H p xs/\k=Ã4)\/(∃ xs,yi K H p xs/\k=Ã4)\/Â7
 | _=>False
def M9 {κ:Type}{Aq:List (κ × V)}{vs:List (κ × Ê)}(r:KV Aq vs):(!vs.isEmpty)=!Aq.isEmpty:=by
 cases r <;> rfl
def Zu {xs:ê}{Aa:Ad}(r:Å8):(!Aa.toArray.isEmpty)=Ã4:=by
 cases r <;> simp
def qC:(ô:Nat)<2 ^ 63:=by rw[sizeLine_eq];decide
theorem Vj:Jc X (λ x H Q=>∃ k,ez X.K x H k/\Q k H):=by
 intro FH s σ H x v Q I rx h;let#[k,e,q]:=h;have hl:=qC;have hs:ô=16777216:=sizeLine_eq;cases x with
 | zm=>
  cases rx;have e':k=Þ:=e;subst e';show truthy_none #[H,I,q]
 | bl b=>
  cases rx;have e':k=b:=e;subst e';show zaH #[H,I,q]
 | int i=>
  ext Ą;have e':k=(i != 0):=e;subst e';show PySem.P.truthy_int #[H,I,q]
 | str y=>
  ext Ą;obtain⟨hy,e'⟩:Ã3:=e;subst e';show PySem.P.truthy_str ⋯ #[H,ņ,q]
 | m_ y=>
  ext Ą;obtain⟨hy,e'⟩:Æ2:=e;subst e';show PySem.W.truthy_bytes ⋯ #[H,ņ,q]
 | ref p=>
  cases rx;have e':(∃ xs,zU X.K H p xs/\k=Ã4)\/(∃ xs,yi X.K H p xs/\k=Ã4)\/Â7:=e;rcases e' with ⟨xs,hx,e'⟩ | ⟨xs,hx,e'⟩ | ⟨Aq,hx,e'⟩
  .subst e';let#[Aa,r,pl,hz]:=I.list hx;have hlen:=r.length;show wpAny_truthy_list pl.isList Ŧ
  .subst e';let#[Aa,r,pl,hz]:=I.tuple hx;have hlen:=r.length;show truthy_tuple pl Ŧ
  .subst e';obtain⟨hz,hS,vs,r,m⟩:Aq.length<=ô/\(p == sysModules)=Þ/\∃ vs,KV Aq vs/\s.heap.DictOf (iY õ) p vs:=I.zr p _ hx;have hlen:Aq.length=ř:=Paired.length r;show wpAny_truthy_dict hS m ⋯ #[H,ņ,by rw[M9 r];show q]
 | _=>show (show False from e).elim
def UB ĳ (he:∀ whole,isTrue a ß whole=(do let v <- whole;standAt a.pos;holding [v] (truthy v))):
  PT X a (fun σ H Q=>ta è λ x H'=>∃ k,ez X.K x H' k/\Q k H'):=by
 ext Í;show isTrue_plain (zF Ã1 λ v s1 Æ=>Vj á x v Q I1 r1 q1) (he _)
def QM:yp X (Ŝ .Add) (λ x y H Q=>∃ i j,x=.str i/\y=.str j/\i.length+j.length<=ô/\Q (.str (i++j)) H):=by
 ext ã;let#[i,j,rfl,rfl,hz,q]:=h;ext ŋ;show add_str (λ t' tk=>#[.str (i++j),H,ņ,č,q]) hz
def vals1 {x:V}Ň(r:Vals [x] us):∃ u,us=[u]/\RelV x u:=by
 cases r with
 | cons r1 r2=>cases r2;show#[_,rfl,r1]
def vals2 {x y:V}Ň(r:Vals [x,y] us):∃ u w',us=[u,w']/\RelV x u/\RelV y w':=by
 cases r with
 | cons r1 r2=>
  cases r2 with
  | cons r3 r4=>cases r4;show#[_,_,rfl,r1,r3]
def K9:yS X (È8 "abs") (λ xs H Q=>∃ i,xs=[ñ i]/\Q (ñ (if i<0 then -i else i)) H):=by
 intro FH s σ H xs us Q I r h;let#[i,rfl,q]:=h;let#[u,rfl,t,rfl]:=vals1 r;show call_abs_int λ u tk=>#[ñ (if i<0 then -i else i),H,ņ,č,q]
def K0 (hc:Ŋ):yS X (È8 "max") (λ xs H Q=>∃ i j,xs=[ñ i,ñ j]/\Q (ñ (if j>i then j else i)) H):=by
 ext ü;exact max_two_ints į Á5;by_cases hj:j>i
 ext É2
 .rw[É5 hj,É5 hj];show č
def Kz (hc:Ŋ):yS X (È8 "min") (λ xs H Q=>∃ i j,xs=[ñ i,ñ j]/\Q (ñ (if j<i then j else i)) H):=by
 ext ü;exact min_two_ints į Á5;by_cases hj:j<i
 ext É2
 .rw[É5 hj,É5 hj];show č
end
def MR Ř(r:ę):PySem.W.handedIn u=true:=by
 cases v with
 | zm=>cases (show u=Value.none from r);rfl
 | bl b=>cases (show u=Value.bool b from r);rfl
 | int i=>let#[t,e]:=(show ∃ t,u=Value.int i t from r);cases e;rfl
 | str x=>let#[t,e]:=(show ∃ t,u=Value.str x t from r);cases e;rfl
 | m_ b=>let#[t,e]:=(show ∃ t,u=Value.bytes b t from r);cases e;rfl
 | gF b=>let#[t,e]:=(show ∃ t,u=Value.float b t from r);cases e;rfl
 | ref a=>cases (show u=Value.ref a from r);rfl
 | ty n=>cases (show u=Value.type n from r);rfl
section
variable {Š}{f:Str}{ù}{Ä9}
def KO {prog:Program}{w:World}{env:Env}À1{f:Str}ć Š{Q:Ag}(hb:attributeBase e f env (eval e env)=eval e env)
  (h:ç Á9 (eval e env) (λ o s₁=>ç Á9 (getAttr o f true) Q E s₁) E s):ç Á9 (eval (.Attribute e f pos) env) Q E s:=
 Attribute_any_ h (by rw[arm_eval_Attribute,hb])
end
structure yo (k:Nat) (A:Around):Prop where
 hd:A.handled=none
 dp:A.depth+3*k+5<recursionLimit
 un:A.units+16*k+200<cLine
def yo.mono {j k:Nat}ù(r:yo k A) (h:j<=k):yo j A:=#[r.hd,by have:=r.dp;lia,by have:=r.un;lia]
theorem yo.deeper Ë0 ù(r:yo (k+1) A) (env:Env):yo k (A.deeper env):=
 #[r.hd,by have:=r.dp;change A.depth+1+3*k+5<_;lia,by have:=r.un;change A.units+3+16*k+200<_;lia]
def NJ ù{C:Addr}Ň{kw:Ĵ}:(Û).depth=A.depth+1:=by
 first | rfl | simp[Around.under,Code.weight,Code.isCreation,Code.isGuard,Code.isCaller,Code.frames,Code.isFrame,guardIds]
def NI ù{C:Addr}Ň{kw:Ĵ}:(Û).units=A.units+1:=by
 first | rfl | simp[Around.under,Code.cUnits,Code.frames,Code.isFrame]
def yo.make Ë0 ù(r:yo (k+1) A) (C:Addr) Ê5 (kw:Ĵ):yo k (Û):=
 #[r.hd,by have:=r.dp;rw[NJ];lia,by have:=r.un;rw[NI];lia]
theorem yo.depth Ë0 ù(r:yo k A):A.depth<recursionLimit:=by have:=r.dp;lia
theorem yo.units Ë0 ù(r:yo k A):A.units+64<cLine:=by have:=r.un;lia
def lQ:TA:=λ _ H Q=>Q [] H
def lR (ta:TE) (tr:TA):TA:=fun σ H Q=>ta è λ x H1=>tr Ų λ xs H2=>Q (x::xs) H2
section
variable {Ħ}{À1}{es:ī}{te:TE}{t:TA}{ć}
def tB:PA X [] lQ:=λ _ _ _ _ H Q I h=>Calls.spliced_nil #[[],H,I,.nil,h]
def ud (ha:PE X e te) (hr:PA X es t) (hs:Az X e es:=by rfl):PA X (e::es) (lR te t):=by
 intro pos FH s σ H Q I h;rw[hs];change ç ű (spliced ((Þ,eval e ß)::backTo pos (ź es ß))) ű s;exact Calls.spliced_cons (zF Ã1 λ u s1 Æ=>?_);show zF (hr pos á _ I1 q1) λ us s2 #[xs,H2,I2,r2,q2]=>#[x::xs,H2,I2,Ś r1 r2,q2]
def Vn (t:TA):TE:=fun σ H Q=>t è λ xs H1=>Ĩ<=ô/\∀ p,H1 p=none->Q (ĭ p) (upd H1 p Ÿ)
def V3 (t:TA):TE:=fun σ H Q=>t è λ xs H1=>Ĩ<=ô/\∀ p,H1 p=none->Q (ĭ p) (upd H1 p (.lst xs))
def Tx {x1} (h:PA X es t):PE X (.Tuple es x1 pos) (Vn t):=by
 intro FH s σ H Q I hq;exact wpAny_Tuple_spliced Ā;have hf:H1 Ĕ=none:=Ä5;exact#[ĭ Ĕ,upd H1 Ĕ Ÿ,ţ,rfl,q _ hf];show#[#[z,.new _],us,r,#[_,AW _ rfl,rfl,_,rfl]]
def TB (h:PA X es t):PE X (.List es pos) (V3 t):=by
 intro FH s σ H Q I hq;exact wpAny_List_spliced Ā;have hf:H1 Ĕ=none:=Ä5;exact#[ĭ Ĕ,upd H1 Ĕ (.lst xs),ţ,rfl,q _ hf];show#[z,us,0,r,AW _ rfl]
end
abbrev Sp:=ê->Hp->VK->XK->Prop
abbrev uD:=ŉ->Hp->Ì->XK->Ê->Ì->Prop
structure pj í ě ï:Prop where
 frames:A.frames=↑ ā
 mod:Mod K mg base
 bs:∀ b o,base.get? b=↑o->Ľ/\ÿ
 tQ:base.objs.size<=È
 v7:ż base ā
 sN:∀ b∈xa ā,ÿ
 zr:yD P w H Ć
 bare:AllBare s.gens
def CE (ā:ŉ) í ĥ (s:Ì) Ê3 (u:Ê) Ê4:Prop:=
 ∃ v H',s'.os=s.os/\AllBare s'.gens/\Un (xa ā) [] H H' Ć s'.heap/\yD P w H' s'.heap/\ę/\Q v H'
def CR (CX:uD) (ā:ŉ) í ĥ (s:Ì) Ê3 (E:XK) (r:Result) Ê4:Prop:=
 match r with
 | .ok (.ret u)=>CE ā P w H s Q u s'
 | .ok _=>False
 | .error e=>CX ā H s E e s'
structure wJ í ě (CX:uD) (k:Nat) (f:Addr) (fd:FuncData) (ps:Ě) (sp:Sp):Prop where
 len:Ç2
 run:∀ ï (args:Args) Ê5 (vs:ê) Ê3 (E:XK),yo k A->pj ŕ ŵ->BindsTo s fd args (ps.zip us)->Æ8->sp vs H Q E->
  codeAny Ũ A (.call (ĭ f) args) (CR CX ā P w H s Q E) s
def pj.make Ü Ť ù{ā:ŉ}Š İ(e:pj ŕ ŵ) (C:Addr) Ê5 (kw:Ĵ):
  pj ŕ (Û) ā s H:=#[by first | show e.frames | (simpa [Around.under,Code.envs,Code.isFrame,pushEnvs] using e.frames),e.mod,e.bs,e.tQ,e.v7,e.sN,e.zr,e.bare]
section
variable {Ħ}{Ê6}{Ê7}{İ}{s s':Ì}
def Inv.gP Ú:pj õ Ã7 X.A ń s H:=
 #[I.ok.frames,I.ok.mod,I.bs,Bc I.ok.tQ I.sz,I.stack,I.ib,I.zr,I.bare]
theorem Inv.after {Q:VK}{u:Ê}Ú (h:CE ń õ H s Q u s'):EP Ò Q u s':=by
 let#[v,H',os,bare,un,zr,r,q]:=h;let#[hh,g,d,t,os']:=s';obtain rfl:os'=s.os:=os;show#[v,H',I.call (h':=hh) (g':=g) (d':=d) (t':=t) (ch:=[]) un zr bare (λ b z=>ō z #[]),r,q]
end
def cM (sp:Sp) (dvs:ê) (E:XK) (t:TA):TE:=fun σ H Q=>t è λ vs H1=>sp (vs++dvs) H1 Q E
def Binds Ê8 (fd:FuncData) (ps:Ě) (ds:Ad):Prop:=
 ∀ (s:Ì) Ê5,K.In Ć->(us++ds).length=ž->BindsTo s fd #[us,[]] (ps.zip (us++ds))
def Binds.all {K:Ab}{fd:FuncData}{ps:Ě}(h:∀ us:List Ê,us.length=ž->bindArgs fd #[us,[]]=pure (ps.zip us)):Binds K fd ps []:=λ s us _ hl=>by
 rw[CV] at hl ⊢;show .of_eq (h us hl)
def Passes (CX:uD) ë (E:XK):Prop:=∀ ő ĥ (s:Ì) (e:Ê) Ê4,À->CX ń H s E e s'->X.xe e s'
section
variable {Ħ}{CX:uD}{Ë0}{f:Addr}{fd:FuncData}{ps:Ě}{sp:Sp}{dvs:ê}{ds:Ad}{E:XK}{ġ}{p pos:Pos}{À1}{es:ī}{t:TA}
def Uj Ô{Q:VK}Ň{vs:ê}Ō Ļ
  Ú (r:Æ8) (h:sp (vs++dvs) H Q E):ç Á (call (ĭ f) us) Ã9:=by
 have r2:Vals (vs++dvs) (us++ds):=r.append hd;have hl:(us++ds).length=ž:=by rw[<- r2.length];show F.len ű ű h
 exact wpAny_call (codeAny_mono (F.run X.A ń s H #[us,[]] (us++ds) (vs++dvs) Q E hr I.gP (hb s us I.y7 hl) r2 h) λ r s' hq=>?_);cases r with
 | error e=>show hx FH è s e s' I hq
 | ok fl=>
  cases fl with
  | ret u=>show I.after hq
  | _=>show False.elim hq
def TL Ō (hg:Gl X x) (hm:X.mg x=↑(ĭ f)) (hk:PySem.W.keepIn X.K (ĭ f)=true) Ļ
  Ä0 Æ7 ă:
  PE X ģ (cM sp dvs E t):=by
 ext Í;exact zaJ (pZ I hg hm ?_ A2);exact PySem.W.callWith_K (h₀:=X.base) I.ok.mod.oa hk (zF (ha pos Å) λ us s1 #[vs,H1,I1,r,q]=>#[I1.y7,?_]) he Al;show Uj F hr hb hd hx I1 r q
end
structure vF (N P:Ě) (sc:Scope):Prop where
 kind:sc.kind=.function
 co:sc.isCoroutine=Þ
 gen:sc.isGenerator=Þ
 nd:N.Nodup
 pre:N.take P.length=P
 par:∀ x∈P,ö=↑.local\/É8
 Nv:∀ y∈sc.names,y.2≠.free
theorem YH ø:∀ {binds:Ĵ}{m:Au},(∀ v,(x,v)∉binds)->bindL kindOf binds m x=m x
 | [],_,_=>rfl
 | (n,v)::r,m,h=>by
  unfold bindL;rw[YH λ w hw=>h w (AD _ hw)];split
  .ext È4
   simp[this]
  .rfl
theorem YJ ø:∀ {binds:Ĵ}{m:Au},(∀ v,(x,v)∉binds)->bindC kindOf binds m x=m x
 | [],_,_=>rfl
 | (n,v)::r,m,h=>by
  unfold bindC;rw[YJ λ w hw=>h w (AD _ hw)];split
  .rfl
  .ext È4
   simp[this]
theorem YI ø{v:Ê}:∀ {P:Ě}{vs:Ad}Æ5{m:Au},P.Nodup->P[i]?=↑x->vs[i]?=↑v->kindOf x=↑.local->
  bindL kindOf (P.zip vs) m x=↑v
 | [],_,_,_,_,h,_,_=>by simp at h
 | _::_,[],_,_,_,_,h,_=>by simp at h
 | p::P,w::vs,0,m,nd,h1,h2,hk=>by
  simp at h1 h2;subst h1;subst h2;change bindL ĕ p=_;unfold bindL;rw[YH Ç3,if_pos hk];simp
 | p::P,w::vs,i+1,m,nd,h1,h2,hk=>by
  change bindL ĕ x=_;unfold bindL;show YI À2
theorem YK ø{v:Ê}:∀ {P:Ě}{vs:Ad}Æ5{m:Au},P.Nodup->P[i]?=↑x->vs[i]?=↑v->kindOf x≠↑.local->
  bindC kindOf (P.zip vs) m x=↑v
 | [],_,_,_,_,h,_,_=>by simp at h
 | _::_,[],_,_,_,_,h,_=>by simp at h
 | p::P,w::vs,0,m,nd,h1,h2,hk=>by
  simp at h1 h2;subst h1;subst h2;change bindC ĕ p=_;unfold bindC;rw[YJ Ç3,É5 hk];simp
 | p::P,w::vs,i+1,m,nd,h1,h2,hk=>by
  change bindC ĕ x=_;unfold bindC;show YK À2
def start (N:Ě) (vs:ê):St:=vs.map some++List.replicate (N.length-ř) none
def xj (CX:uD) í ě (N:Ě) (qual:Str) (scope:Scope) (f:Addr) (cd:Ê) ï (E:XK):Cx where
 prog:=P
 w:=w
 K:=K
 mg:=mg
 base:=base
 A:=A.deeper (â)
 N:=N
 s₀:=s
 H₀:=H
 env:=â
 ā:=ā
 stack:=â::ā
 ex:=[]
 calm:=true
 fn:=λ _=>true
 pn:=[]
 xe:=λ e s'=>ç Ũ (A.deeper (â)) (leaving (â) e) (λ _ HJ=>CX ā H s E e HJ) (λ e' HJ=>CX ā H s E e' HJ) s'
def Y7 {sc:Scope}{n:Nat}ġ(h:É8):∃ c,(cellsFrom n sc.names []).lookup x=↑c:=by
 have q:=PySem.W.cellsFrom_some sc.names n [] (ň h);show EX.mp q
def MD {CX:uD}Ü Ť{N ps:Ě}{qual:Str}{scope:Scope}{f:Addr}{cd:Ê}ù{ā:ŉ}{s s1:Ì}İ{E:XK}Ň{vs:ê}
  (S:vF N ps scope) (hd:A.handled=none) (e0:pj ŕ ŵ) (hl:ř=ž) (r:Æ8)
  (x:InCallC s È (bindL È5) (Æ3) (bindC È5) s1):
  Inv (xj û f cd ŵ E) [] Å7 s1:=by
 have Al:ž<=N.length:=by have:=congrArg List.length S.pre;rw[B_] at this;lia
 let#[h1,tk,rfl,hk]:=x.done;have noA:∀ b:Addr,b∉(xj û f cd ŵ E).ex:=λ b z=>ō (show b∈([]:ú) from z) #[];exact#[#[e0.mod,S.kind,rfl,rfl,Am _,λ y z c h1 h2=>?_,λ y hy=>?_,λ y c _ h=>?_,λ _=>hd,Around.frames_deeper e0.frames,.inr #[rfl,rfl],λ b z=>ō z (noA b),e0.bs,e0.tQ,λ b _ _=>noA b,λ b z=>ō z (noA b),e0.v7,e0.sN],
  rfl,e0.bare,Un.kept hk,#[_,x.toInCall.ns,λ i y v h1 h2 h3=>?_],λ y c h=>#[_,x.cell y c h],e0.zr.fresh (Am _),λ y c h=>?_,λ p hp=>ō (show p∈([]:Aj) from hp) #[],e0.zr.kept hk,?_]
 .show name_of_addr x.apart (Ğ h1) (Ğ h2)
 .have hy:Ĥ y=↑.cell\/Ĥ y=↑.free:=hy;rcases hy with hy | hy
  .show Y7 hy
  .show ō rfl (S.Nv _ (Ğ hy))
 .show Bl (x.above y c (Ğ h))
 .have hi:i<ř:=by
   unfold start at h2;by_cases hi:i<ř
   .show hi
   .rw[CM (by exists hi)] at h2;rw[EW] at h2;split at h2 <;> cases h2
  have ha:vs[i]?=↑v:=by
   unfold start at h2;rw[CL (by exists hi),AQ] at h2;cases e:vs[i]? with
   | none=>rw[e] at h2;cases h2
   | some a=>rw[e] at h2;cases h2;rfl
  let#[u,hu,rv]:=r.get ha;have hp:ps[i]?=↑y:=by
   rw[<- S.pre,List.getElem?_take_of_lt ⋯];show h1
  have ndP:ps.Nodup:=by rw[<- S.pre];show S.nd.sublist (List.take_sublist ű)
  exact#[u,rv,?_];rcases S.par y (B6 hp) with k | k
  .show ň #[k,YI ndP hp hu k]
  .let#[c,e]:=Y7 (n:=È+1) k;exact .inr #[ň k,c,e,?_];have q:=x.cell y c e;rw[YK ndP hp hu (by change Ĥ y≠_;rw[k];decide)] at q;show q
 .show e0.zr.fresh (Bl (x.above y c (Ğ h)))
 .unfold start;change _=N.length;rw[Bh,Af,List.length_replicate];lia
def ZV {CX:uD}Ü Ť Ë0{f:Addr}{name qual:Str}{params:Arguments}{body:Ž}{scope:Scope}{dV kV doc pm Ah ct oc:Ê}{an od:ļ Addr}
  {H_:Array (ļ Ê)}{N ps:Ě}{sp:Sp}(lk:K.lookup f=↑#[oc,od,.func Į,H_]) (Bg:PySem.W.codeIn K Ah qual=true) (S:vF N ps scope)
  (len:Ç2)
  (FW:∀ ï (vs:ê) Ê3 (E:XK),yo k (A.deeper (envOfC qual scope È f Ah))->sp vs H Q E->
   ∃ t,wa Æ4 body t/\t { nx:=λ _ H'=>Q .zm H',rt:=Q } Å7):
  wJ ŕ CX (k+1) f Į ps sp:=by
 exact#[len,λ A ā s H args us vs Q E hr e0 hb r B7=>?_];have hl:=len ű ű B7;have KX:K.In Ć:=e0.mod.oa.keeps λ b o e=>(e0.bs þ).1;have lim:s.heap.NoLimit:=e0.mod.nolimit.keeps λ b o e=>(e0.bs þ).1;have hkind:∀ y∈ps.zip us,Ĥ y.1=↑.local\/(Ĥ y.1=↑.cell/\((Æ3).lookup y.1).isSome=true):=λ#[n,v] hy=>by
  rcases S.par n (DH hy).1 with q | q
  .show ň q
  .show .inr #[q,PySem.W.cellsFrom_some ű _ (ň q)]
 exact codeAny_call_function hr.depth (KX ű lk) rfl S.co S.gen rfl (PySem.W.codeRec_of KX Bg) (hb ű ű ?_);exact wpAny_newFunctionEnv_cells S.kind hkind λ env he s1 x=>?_;subst he;exact#[lim.keeps x.toInCall.keep,codeAny_func ?_];let#[t,ht,hq]:=FW ŵ vs Q E (hr.deeper _) B7;have I:Inv Æ4 [] Å7 s1:=MD S hr.hd e0 hl r x;exact za6 (ht [] s1 Å7 _ I hq) (λ fl s' hs=>?_) λ e s' hs=>hs;have fin:∀ {σ':St}{H':Hp}Ř,Inv Æ4 [] ı s'->ę->Q v H'->CE ā P w H s Q u s':=
  λ{σ' H' v u} J rv q=>#[v,H',J.os,J.bare,J.base,J.zr,rv,q]
 cases fl with
 | ret u=>
  let#[v,σ',H',J,rv,q]:=hs;show fin J rv q
 | next=>
  let#[σ',H',J,q]:=hs;show fin (v:=V.zm) (u:=Value.none) J rfl q
 | brk=>
  ext Å1
 | cont=>
  ext Å1
section
variable {Ħ}{ġ}{p pos:Pos}{À1}{es:ī}{t:TA}{id T:String}{r:ê->Č}
def nH (r:ê->Č) (t:TA):TE:=fun σ H Q=>t è λ vs H1=>r vs H1 Q
def t9 (hc:yS X (È8 id) r) Ď (hv:ś=↑(È8 id)) Ä0 Ċ Æ7
  ă:PE X ģ (nH r t):=by
 ext Å2;show PyProof.Rows.callWith_builtin1 Ė
def pP (hc:yS X (.type T) r) Ď (hv:ś=↑(.type T)) Ä0 Ċ Æ7
  ă:PE X ģ (nH r t):=by
 ext Å2;show ŗ Ė
end
end L2
namespace HT
open PySem PyProof.Rows
def lexLt:List Int->List Int->Bool
 | [],[]=>Þ
 | [],_::_=>true
 | _::_,[]=>Þ
 | x::xs,y::ys=>Å4
def rD (x y:Int) (xs ys:List Int):lexLt (x::xs) (y::ys)=Å4:=rfl
def NU:lexLt [] []=Þ:=rfl
def NV (y:Int) (ys:List Int):lexLt [] (y::ys)=true:=rfl
def NW (x:Int) (xs:List Int):lexLt (x::xs) []=Þ:=rfl
section
variable {prog:Program}{w:World}{ù}{Ä9}{Š}
def Kp {t b:Addr}{vs ws:Ad}{Q:Ag}(ht:IsTup Ć t vs.toArray) (hb:IsTup Ć b ws.toArray) (hv:vs≠[])
  (h1:ws=[]->Q (ĭ t) s) (h2:ws≠[]->Q (ĭ È) { s with heap:=s.heap.push { cls:=.type "tuple",data:=.seq (vs++ws).toArray } })
  (AL:ř+ws.length<=ô):ç Á9 (Ŝ .Add (ĭ t) (ĭ b)) Q E s:=by
 let#[#[cls,dd,data,sl],ho,hc,n,hd]:=id ht;let#[#[cls2,JZ,data2,I_],Iu,HQ,n2,hd2]:=id hb;simp only at hc hd HQ hd2;subst hc hd HQ hd2;have e:vs.toArray++ws.toArray=(vs++ws).toArray:=#[];by_cases hw:ws=[]
 .show concat_meets æ
   (tuple_addW1 t b Ű (by simp[hw])) #[ho,Iu,h1 hw]
 .exact concat_meets æ
   (tuple_addW2 t b Ű (by exists hw) (by rw[AG,AG];show AL)) #[ho,Iu,?_]
  rw[e];show h2 hw
def zH (n d:Nat):ļ Int->Nat
 | none=>d
 | some v=>À4
def Ui (n d:Nat) (hd:d<=n) (o:ļ Int):zH n d o<=n:=by
 cases o with
 | none=>show hd
 | some v=>
  change (À4)<=n;by_cases hv:v<0
  .rw[if_pos hv];lia
  .rw[É5 hv];show Nat.min_le_right ű
)
example:=`(
example Š:=env.scope.kind == .function
example í:=NameKind.free
example À:=(k == í&&Š&&env.kindOf n == ↑.cell)
example œ:=ys.length
example Õ:=.ref
example É4:=(Õ D)
example ŗ:=.lst
example À7 _:=x σ H
example ç:=sizeLine
example Á:=∀ i m σ H,W i m À7->(J.stop i H/\Q É4 H)\/(J.go i H/\∀ x H',J.pq i H x H'->g x σ H' fun σ2 H2=>tc σ2 H2 λ b H3=> if b=true then te σ2 H3 λ y H4=>∃ ys m',H4 D=↑(ŗ ys)/\œ<ç/\m'<m/\W (i+1) m' σ2 (upd H4 D (ŗ (ys++[y]))) else ∃ m',m'<m/\W (i+1) m' σ2 H3)
example û:=scope
example Â:=(yJ X N' û cl C s H fp)
example Ã:=s.heap.objs.size
example Ä:=(.ListComp elt [#[tg,iter,ifs,0]] û pos)
example ÿ:=by let#[Y,S,r1,r2,h]:=hu
example Å8 _:=x r1 r2 h λ x S1 v H1 h1 q1 e1 p1=>?_
example Å:=by ext ÿ;exact yb.go ha.mo Å8
example Æ:=items.size
example ľ:=.bool true
example ĩ:=s₁.heap
example Ç _:=x callerA (.call (Õ fa) #[[Õ a],[]]) (λ r s'=>r=.ok (.ret (ľ))/\OldK ĩ s'.heap/\s'.os=s₁.os/\AllBare s'.gens) s₁
example È _:=x (model X.prog X.w) X.A
example ï:=scope.names
example É:=(x,í)∈ ï
example Ê:=xs.length
example ŝ(ha:PD X a ta):=0
example Ë ŝ (hb:PD X b tb):=0
example Ì:=Option
example ø _:=x X FH σ
example Í:=Inv ø H s
example É0:=(n,k)
example ð:=NameKind.cell
example Î:=(names.map λ É0=>if À then (n,ð) else É0).lookup x
example ň:=.type
example Ï:=ň "list"
example Ð:=PySem.W.fnOf x qual (vi st) (xi st) (zS st) .none kV doc pm an Ah ct
example Ñ(hg:∀ cl C s H fp,PG Â tg g) (hf:∀ cl C s H fp,PF Â ifs tc) (he:∀ cl C s H fp,PE Â elt te):=0
example Ò:=List.lookup x ((if À=true then (n,ð) else É0)::_)
example ă:=Shared
example Ŝ{σ:St}{H:Hp}:=0
example Ó{FH:Aj}Ŝ{s:ă}:=0
example Æ2(H:Hp):=0
example ß(FH:Aj) (s:ă) (σ:St) Æ2:=0
example Â9:=.builtin
example Ą:=Value
example Ĺ:=wpAny
example Ã9 _:=x (EP ø Q) X.xe
example Ō:=List V
example Ô:=∀ ß (x:V) (xs:Ō) (v:Ą) (us:Ad) (Q:VK),Í->RelV x v->Vals xs us->r x xs H Q-> Ĺ È (call (Â9 id) (v::us)) Ã9 s
example Ö:=by simp![zj]
example Ø _:=x _ _
example Ù:=s3.heap.push { cls:=ň "slice",data:=.fields [vl,vu,.none].toArray }
example Ç8:=Ì Int
example Ú:=V->Ç8->Ç8->Hp->VK->Prop
example Û{xs:Ō}:=0
example Ü:=fun σ H Q hu=>?_
example Ä0:=by let#[j,h1,h2,h3,h4,h5]:=fW he
example Ý:=by ext Ä0;let#[w,ew,rw']:=r.get h2;have hl:=r.length;have hn:=qC;have fin:EP ø Q w s:=#[z,H,I,rw',q]
example Þ:=by rw[zV (qA q h (by intro z;cases z))];show q
example č(K:Ab):=0
example à č Æ2:=0
example Á9:=zH Æ Æ hi
example Ŗ:=zH Æ 0 lo
example á:=(items.toList.drop (Ŗ)).take (Á9-Ŗ)
example Ç2:=Ext H H'
example â(e:Ç2):=0
example ã:=by let#[Y,S,r1,r2,h']:=hu;exact xW.go h.mo r1 r2 h' λ ds S1 xs H1 h1 q1 e1 p1=>#[by rw[<- q1.length];show h1.1,λ p hp=>?_]
example ž:=by intro value slice FH s σ H x y v u Q I rx ry h hs
example ä:=by ext ž;let#[p,xs,i,z,rfl,rfl,hq,he,q]:=h;cases rx;let#[t,rfl]:=ry
example å _:=x FH s À7
example æ:=X.env.scope.names.lookup
example è:=Ō->Hp->VK->Prop
example ń:=by intro FH s σ H Q I h
example Ċ:=X.env
example é:=by ext ń;let#[cl,IV,c1,c2]:=Y5 (û:=û) (env:=Ċ) λ y hy hk=>I.ok.has y.1 (S.free y hy hk)
example Ū{f:yR}{r:R2}{ta tb:zu}:=0
example Ŕ{pos:Pos}:=0
example ê{a b:Expr}{op:CmpOp}Ŕ Ū(ho:yp X (compareOp op) r) (hr:xt X.K f r) (hf:xx f):=0
example ë _:=x ha.mo hb.mo
example Ď _:=x K H
example ì:=zo Ď ds xs
example î:=cl.lookup x
example ñ:=List (Str×Addr)
example Ê1{K:Ab}:=0
example ò Ê1{H H':Hp}:=0
example ó:=Hp->Prop
example ô:=Aa.toArray
example õ(hi:∀ σ H Q,t' À7 Q->t À7 Q):=0
example ö:=by let#[Aa,r',pl,hz]:=I.list hq;have hlen:=r'.length
example ı:=List Str
example ù{q:Program}{loose:ı}{XP:(Str->Ì Ą)->Heap->Prop}{YP:World->Heap->Prop}{d:DefRec}:=0
example È1:=(Am _)
example ú:=I.zr.fresh È1
example ü:=H2.objs.size
example ý _:=x rfl hs IV S.kind (λ y hy e=>e▸S.uniq y hy) (zF (hi å _ I h) λ v s1 h1=>zF h1 λ itv s2 h2=>?_)
example þ:=by let#[x,r,h1,h2,h3]:=h
example Ç7:=(1:Int)
example š:=sliceBounds
example Ā:=by simp![š,HT.zH,Option.getD_none,show Ç7>0 by decide,if_true];by_cases h:i<0
example Ų:=by intro FH s σ H xs us Q I r h
example Ç3:=by let#[u,rfl,rx]:=vals1 r;cases rx
example ā:=by ext Ų;let#[p,ys,rfl,hq,q]:=h;ext Ç3
example Ă:=(∀ d S',Q d S'->Q' d S')->t Y S Q->t Y S Q'
example Â0:=(by simp![AG] <;> lia)
example È2:=s.toks
example Ī:=.int
example ą _:=x Â0 #[Ī œ,H,I.tok _,#[È2+1,by rw[AG,hlen]],q]
example Ć:=PySem.W.nsIn
example ć:=by simpa only [zj] using h
example ŏ:=zK Ď S
example Ÿ:=yF Ď Y σ
example Ĉ(r1:Ÿ) (r2:ŏ) (h:t Y S R):=0
example Ä2 _:=x (r1.ext e1) p1
example Ã6:=(e1.trans e2)
example ĉ:=yb.go hb.mo Ä2 z λ y S2 w H2 h2 q2 e2 p2=>h2 w H2 q2 Ã6 p2
example ċ:=h H (.refl H) p
example Č:=List (Ì Nat)
example Ň _:=x Y S Ø
example ď:=#[Y,S,r1,r2,mo Ň (λ d S' q v H' a b c=>k d S' v H' q a b c) h]
example Ä4:=by simp![zj] at h1 h2
example Đ:=by rename_i q;ext Ä4;let#[a,xs,rfl,r1,r2]:=h1;let#[x',e1,e2]:=r2.ya q
example đ:=if_neg
example Ē:=(((Ŗ:Nat):Int) == 0&&Ç7 == 1&&(Á9-Ŗ) == Æ)=true
example ē:=Builtin.Tuple.tupleExact _
example È7:=ns.map
example Ĕ:=(È7 V.int)
example ĕ:=s.heap.get?
example Ė:=mainGlobals
example ė(BI:∀ b∈fp,vS X FH H b):=0
example Ę:=(ŗ xs)
example Ä6:=s.heap.IsSliceOf sl vl vu .none
example ę(hs:Ä6) (pl:IsPart vl lo) (pu:IsPart vu hi):=0
example Ě:=Builtin.Slice.slicePlaces
example ě:=False
example Ĝ:=by rw[zV (xO q h)];show q
example ĝ:=w9.go hb.mo Ä2 z λ y S2 H2 h2 e2 p2=>h2 H2 Ã6 p2
example Ğ:=if_pos
example ğ:=PySem.mem_of_lookup
example Ġ(S:sY X N' pick û) (hc:X.calm=true):=0
example Â4:=Int->Int->D
example ġ{g:Â4}{g':Int->Int->V}(hg:∀ i j H,zj Ď (g i j) (g' i j)):=0
example Ģ:=HT.zH Ê 0 lo
example ģ:=SS->Prop
example Ĥ:=scope.names.lookup
example ĥ:=List D
example Ħ _:=x ho hc hd (λ h' c' kp e=>fin Aa r' hz h' c' kp e) Â0
example ħ:=false
example Ĩ:=by .let#[_,_,_,_,o,_,_,e,ex,_]:=I.zr p _ hk;show#[o,e,ex]
example ī:=.inl
example Ĭ _:=x lo hi
example ĭ:=by let#[oc,od,kV,doc,pm,an,Ah,ct,H_,rfl,lk,Bg]:=F.ex
example Į:=(n:Int)
example į:=(Ac #[_,rfl,Ac h])
example İ:=h.elim
example Ĳ(lo hi:Ç8):=0
example ĳ{X:Cx}:=0
example Ĵ{x qual:Str}{st:Stmt}{f:Addr}:=0
example ĵ(hs:∀ x,foldedSetIterable iter Ċ x=pure x:=by intro _;rfl):=0
example Ķ:=by let#[it,fp,tn,J,H2,e,I2,T,st2,f2,rd]:=h2;subst e
example ķ _:=x (fI.fits λ _ _ _=>Ö) fI.mo ha hb
example ĸ:=((zH n 0 lo:Nat):Int)
example ĺ:=λ _ _ z=>False.elim z
example Ļ:=by exact#[#[o,e,ex.1],λ a e2=>?_];cases e2;show#[o,e,ex.2.1]
example ļ(ha:y9 ta) (hb:y9 tb):=0
example Ľ:=[].toArray
example Ŀ:=(own++cl).lookup
example ŀ:=by simp![zj] at r;subst r
example Ł:=by let#[Aa,r',pl,hz]:=I.tuple hq
example ł:=List (Str×NameKind)
example Ń:=X.env.cells.lookup x
example Ņ:=.seq vs.toArray
example ſ _:=x K H'
example ņ:=Ç2->zK ſ S'->Q v H'
example ŉ:=∀ (s:ă) (u:Ą),BindsTo s fd #[[u],[]] [(x,u)]
example Ŋ:=compEnvC û cl C Ċ
example ŋ _:=x q loose XP YP l.row.toRowW d [] (λ f vs=>PySem.call f vs)
example ō:=by rcases Ao.mp hx with q | q
example Ŏ:=.inr
example Ő:=.BoolOp
example ő _:=x he c1 c2 I2 T st2 f2 rd λ C D oC H' s' hC J' ho hn q=>?_
example Œ _:=x å Q I (hi À7 Q q)
example È3:=(λ z=>?_)
example ŕ:=by simp![zj] at q1;exact#[k,q1,wD È3 È3 h1]
example Ř:=absurd
example ř:=s₁.heap.get?
example Ś _:=x (λ b ob q=>gV _ q) È1 ?_
example ś{p:Addr}:=0
example Ş:=Builtin.Slice.sliceAdjust
example ş:=((i:Int)+(m:Int)*1).toNat
example Ţ:=hq Ø h
example ţ:=IntsAre vs ns
example É2:=List Addr
example Ť{fp:É2}{tn:Nat->Heap->Prop}{J:It}{cl:ñ}:=0
example ť:=(assign (.Name y py) Ċ)
example Ŧ:=Paired.kA h λ p q z=>#[z.1,zj.ext e p.2 z.2]
example ŧ(X:Cx):=0
example Ũ _:=x ta tb
example ũ{S:SS}:=0
example Ç9:=s.heap.push
example ū:=Ç9 { cls:=ň "dict",data:=.dict Ľ }
example Ŭ:=by split at h
example ŭ:=K.lookup
example Ů:=env.cells.lookup
example ů:=by intro FH s σ H x v vl vu lo hi sl Q I rx hs pl pu h
example Ű:=List Int
example ű(c:Str) (C:Addr):=0
example ų _:=x ha.pe hb.pe
example Ŵ:=PyProof.Rows
example ŵ:=decide
example Ŷ:=own.lookup
example ŷ:=BI b hb
example Ź:=PE.imp
example ź:=h x' H e2 (.refl H) h3
example Ż(I:Í):=0
example ż:=List Expr
example Ž:=Ì Addr
example À0:=by simp![zj] at h ⊢;let#[a,xs,h1,h2,h3]:=h
example À1:=.cons
example À2:=Aa.toArray.size
example À3:=.free
example À4:=ForInStep.yield
example À5:=λ FH s σ H Q I q=>h å Q I (hi Q À7 q)
example À6:=(∀ b∈fp,H' b=none)
example À8:=by rw[AJ] at h;simp![zo,zj] at h;ext þ;subst h1 h2
example À9:=(r.drop (Ģ)).take (HT.zH Ê Ê hi-Ģ)
example Á0:=#[cl,?_,λ x d hx=>?_,λ x hx=>?_]
example Á1:=λ p hp=>Ř (show p∈([]:Aj) from hp) #[]
example Á2:=I8.pin (b,o) (A8 _ (A8 _ (k9 hb e)))
example Á3(T:Turn X.prog X.w X.K tg J fp it tn):=0
example Á4:=Heap.size_push
example Á5:=Paired λ p q=>p.1=q.1/\zj Ď p.2 q.2
example Á6:=λ v H2 r x q=>h v H2 r (e.trans x) q
example È8:=λ _ _ _=>ě
example Á7 _:=x [Õ a] H (λ v _=>v=.bl true) È8
example Á8:=(if v<0 then max (v+Į) 0 else min v Į)
example Â1:=ĕ p=↑{ cls:=Ï,data:=.seq ô n }
example Â2:=Inv Â [] σ' H' s'
example Â3:=Option.none
example Â5:=xP.fits λ _ _ _=>Ö
example Â6:=(.new hp _)
example Â7 _:=x X.K H p ys
example Â8:=by have e':b=a:=hA b (by rw[q];simp);subst e'
example Ã0:=s.heap.update
example Ã1:=ns.length
example Ã2:=by simp![zj] at r;let#[a,xs,rfl,r1,r2]:=r
example Ã3:=ĕ l=↑{ cls:=Ï,data:=.seq ô n }
example Ã4:=(x,ð)∈ ï
example Ã5:=zj Ď d x
example Ã7{σ':St}{H':Hp}{s':ă}{oC:Obj}:=0
example Ã8{e:Expr}:=0
example Ä1(hi:∀ D σ H,t' D À7->t D À7):=0
example Ä3 _:=x (a::b::FJ) pos
example Ä5:=PyProof.Rows.slot_tuple_getitem
example Ä7:=s3.heap.objs.size
example Ä8:=Obj.mapSeq
example Ä9:=K w.params
example Å0:=î=↑c
example Å1:=v_ pick σ
example Å2:=Inv X (FH++[(C,oC)]) σ H' s'
example Å3:=Q (!ds.isEmpty) S
example Å4 _:=x Ď a xs
example Å5:=by let#[z,Aa,n,r,hl,e]:=I.aX hH
example Å6{û:Scope}:=0
example Å7 _:=x (C,oC) (A8 _ (A8 _ (A4.mpr rfl)))
example Å9:=(by rw[hk];show#[_,I',q])
example Æ0:=(Ext.refl H)
example Æ1:=by rw[AG,<- hl]
example Æ3:=by rcases e2 x d hx with q | ⟨q1,q2⟩
example Æ4:=PySem.W.codeIn K Ah qual=true
example Æ5:=Nat->Nat->St->ó
example Æ6:=by rw[r2.isEmpty]
example Æ7:=by intro FH s σ H x vs v us Q I rx rv h
example Æ8(hn:l.most=↑n):=0
example Æ9:=ř a=↑{ cls:=Ï,data:=Ņ }
example Ç0:=PySem.W.keepIn K (Õ f)=true
example Ç1:=Bool->ģ
example Ç4(a:Addr):=0
example Ç5 _:=x i [] s3 σ3 H3 _ I3 (HZ fr3) st3
example Ç6:=by simp![zo] at h
example È0{a:Addr}:=0
example È4:=pl.isList
example È5:=(upd H p (ŗ (xs.set j v)))
example È6:=Aa.length
example È9:=(î).isSome
example É1:=h.objs.size
example É3:=pushCells_keeps
example É5:=by simpa only [BA,zo] using h
example É6:=(upd H p u)
example É7:=(yB f Ũ)
example É8(i:Nat):=0
example É9:=by cases rx;let#[u,rfl,ru]:=rv.one
example Ê0(w:World):=0
example Ê2{x:Str}:=0
example Ê3{env:Env}:=0
def Y6 (v:Int) (n d:Nat):Á8=((zH n d ↑v:Nat):Int):=by
 change Á8=(((if v<0 then (v+Į).toNat else min v.toNat n):Nat):Int)
 by_cases hv:v<0
 .simp![Ğ hv];lia
 .simp![đ hv];lia
theorem KZ Ĳ (n:Nat):Ş Ĭ 1 Į=(ĸ,((zH n n hi:Nat):Int)):=by
 have h1:¬ (Ç7<0):=⋯;unfold Ş;simp![h1,if_false];exact Prod.ext ?_ ?_
 .cases lo with
  | none=>rfl
  | some v=>show Y6 v n 0
 .cases hi with
  | none=>rfl
  | some v=>show Y6 v n n
theorem UT (i j:Nat):Ě (i:Int) (j:Int) 1=j-i:=by
 unfold Ě;have h1:Ç7>0:=⋯;simp![h1,if_true,Int.ediv_one];split <;> lia
def cW {v:Ą}{o:Ç8}{Q:Ç8->ă->Prop}(p:IsPart v o) (h:Q o s):Ĺ (model prog w) A (Builtin.Slice.slicePartIndex v) Q E s:=by
 cases p with
 | none=>show slicePart_none h
 | int i t=>show slicePart_int h
def cX {sl:Addr}{vl vu:Ą}{lo hi:Ç8}{n:Nat}{Q:Int×Int×Nat->ă->Prop}ę
  (h:Q (ĸ,1,zH n n hi-zH n 0 lo) s):Ĺ (model prog w) A (Builtin.Slice.sliceApplied (Õ sl) (pure Į)) Q E s:=by
 let#[os,Ce,hcs,Ew]:=id hs;unfold Builtin.Slice.sliceApplied Builtin.Slice.sliceFields;exact MX (MX (za5 Ce Ew (x:=vl) rfl (MX (za5 Ce Ew (x:=vu) rfl (MX (za5 Ce Ew (x:=.none) rfl (Ac ?_)))))));exact MX (slicePart_none ?_);change Ĺ Ø (if (Ç7 == 0)=true then _ else _) Ø s;rw[đ ()];exact MX (cW pl (MX (cW pu (MX (Ac ?_)))));change Ĺ Ø (match Ş Ĭ 1 Į with | (lo,hi)=>pure (lo,Ç7,Ě Ĭ 1)) Ø s;rw[KZ Ĭ n];change Ĺ Ø (pure (ĸ,Ç7,Ě ĸ ((zH n n hi:Nat):Int) 1)) Ø s;rw[UT];show Ac h
theorem UY (xs:Ar) (i k:Nat):((List.range k).filterMap λ(m:Nat)=>xs[ş]?).toArray=((xs.toList.drop i).take k).toArray:=by
 have e:(λ(m:Nat)=>xs[ş]?)=λ m=>xs[i+m]?:=by
  funext m;have:ş=i+m:=⋯;rw[this]
 rw[e];have:=pick_run xs i k;rw[List.filterMap_map] at this;have e2:((λ x=>xs[x]?) ∘ λ x=>i+x)=λ m=>xs[i+m]?:=rfl;rw[e2] at this;rw[this]
def Ll {t sl:Addr}{items:Ar}{vl vu:Ą}{lo hi:Ç8}{Q:Ag}(ht:IsTup s.heap t items) ę
  (hw:¬ (Ŗ=0/\Á9=Æ))
  (h:Q (Õ Ã) { s with heap:=Ç9 { cls:=ň "tuple",data:=.seq (á).toArray } })
  (AL:Æ<=ç):Ĺ (model prog w) A (getItem (Õ t) (Õ sl)) Q E s:=by
 have Ii:sizeOk (.seq (á).toArray):=by
  change (á).toArray.size<=ç;rw[AG,B_,Dj,Bw];lia
 have hj:Á9<=Æ:=Ui Ø È1 hi;let#[os,Ce,hcs,Ew]:=id hs;have hTs:s.TypeIs (Õ sl) "slice":=#[os,Ce,hcs];unfold getItem
 try with_reducible exact za7 ?_
 first | exact MX (Ac ?_) | skip
 exact MX (wpAny_sequenceKey ht.typeIs () ?_);exact MX (zaG (name:=Str.ofString "__getitem__") ht.typeIs Ä5
  (zaB Ä5 ht.typeIs entry_tuple_getitem ?_ (args_tuple_getitem Ø)))
 change Ĺ Ø (Builtin.Tuple.tupleItemsOf (Õ t) >>= _) Ø s;exact MX (tupleItemsOf_ ht ?_);exact MX (zaK hTs ?_);rw[Ğ ()];exact MX (cX hs pl pu ?_);have Cf:¬ (Ē):=by
  intro q;rw[AK,AK] at q;have q1:((Ŗ:Nat):Int)=0:=eq_of_beq q.1.1;have q2:Á9-Ŗ=Æ:=eq_of_beq q.2;show hw #[⋯,⋯]
 change Ĺ Ø (if Ē then _ else _) Ø s;rw[đ Cf,UY]
 first
  | show MX (m:=ē) (zaA į Ii)
  | show MX (m:=ē) (zaA (MX (Ac į)) Ii)
  | show MX (MX (m:=ē) (zaA (Ac į) Ii))
  | show MX (MX (m:=ē) (zaA į Ii))
end
end HT
namespace L2
open PySem PySem.Spec Ŵ
abbrev TO:=St->Hp->(Ç8->ó)->Prop
def PO ŧ (e:Ì Expr) (t:TO):Prop:=
 ∀ ß (Q:Ç8->ó),Í->t À7 Q->
  Ĺ È (evalPart e Ċ) (λ u s'=>∃ o H',Inv ø H' s'/\IsPart u o/\Q o H') X.xe s
def Vy:TO:=λ _ H Q=>Q none H
def Vs (t:TE):TO:=fun σ H Q=>t À7 λ x H1=>∃ i,x=Ī i/\Q ↑i H1
def intsAre_of {ns:Ű}:∀ {us:Ad},Vals Ĕ us->IntsAre us ns:=by
 induction ns with
 | nil=>intro us r;rw[BA] at r;cases r;show .nil
 | cons n ns ih=>
  intro us r;rw[AJ] at r;cases r with
  | cons r1 r2=>
   let#[t,e]:=r1;subst e;show À1 n t (ih r2)
section
variable {ĳ}{Ã8}{te:TE}{lo hi:Ì Expr}{tl th:TO}{pos p2:Pos}
def US:PO X none Vy:=by
 ext ń;rw[evalPart_none];show Ac #[none,H,I,.none,h]
def UR (h:PE X e te):PO X ↑e (Vs te):=by
 intro FH s σ H Q I hw;rw[evalPart_some];exact zF (h å _ I hw) λ u s1 #[x,H1,I1,r1,q1]=>?_;let#[i,rfl,q]:=q1;let#[t,rfl]:=r1;show#[↑i,H1,I1,Ī i t,q]
def rT ŧ (r:Ú):Prop:=
 ∀ ß (x:V) (v vl vu:Ą) Ĳ (sl:Addr) (Q:VK),Í->RelV x v->Ä6->IsPart vl lo->IsPart vu hi->r x Ĭ H Q->
  ∃ T id,typeLookup (ň T) "__getitem__"=pure ↑(Â9 id)/\s.TypeIs v T/\Ĺ È (getItem v (Õ sl)) Ã9 s
def rT.or {r r':Ú}(h:rT X r) (h':rT X r'):rT X (λ x lo hi H Q=>r x Ĭ H Q\/r' x Ĭ H Q):=by
 intro FH s σ H x v vl vu lo hi sl Q I rx hs pl pu q;rcases q with q | q
 .show h å x v vl vu Ĭ sl Q I rx hs pl pu q
 .show h' å x v vl vu Ĭ sl Q I rx hs pl pu q
def Vo (r:Ú) (te:TE) (tl th:TO):TE:=fun σ H Q=>te À7 λ x H1=>tl σ H1 λ l H2=>th σ H2 λ u H3=>r x l u H3 Q
theorem T3 {r:Ú}(hr:rT X r) (he:PE X e te) (hl:PO X lo tl) (hu:PO X hi th):PE X (.Subscript e (.Slice Ĭ none p2) pos) (Vo r te tl th):=by
 ext ń;exact Subscript_ (zF (he å _ I h) λ v s1 #[x,H1,I1,r1,q1]=>?_);exact wpAny_Slice (zF (hl FH s1 σ H1 _ I1 q1) λ vl s2 #[l,H2,I2,pl,q2]=>zF (hu FH s2 σ H2 _ I2 q2) λ vu s3 #[u,H3,I3,pu,q3]=>?_);rw[evalPart_none];exact Ac ?_;have I4:Inv ø H3 { s3 with heap:=Ù }:=I3.kept (t':=s3.toks) λ b ob q=>gV _ q;let#[T,id,hT,ht,hg]:=hr FH { s3 with heap:=Ù } σ H3 x v vl vu l u Ä7 Q I4 r1 (Heap.IsSliceOf.new ..) pl pu q3;change Ĺ È (subscriptTail e (.Slice Ĭ none p2) v (Õ Ä7)) Ã9 { s3 with heap:=Ù };show tail_any (ops:=[Õ Ä7,v]) ht hT hg (by with_unfolding_all rfl)
def tP (xs:Ō) Ĳ:Ō:=(xs.drop (Ģ)).take (HT.zH Ê Ê hi-Ģ)
def Y0 (xs:Ō) Ĳ:(tP xs Ĭ).length<=Ê:=by
 unfold tP;rw[B_,Dj];lia
def bG č:Ú:=λ x lo hi H Q=>∃ a xs,x=Õ a/\yi Å4/\
 ¬ (Ģ=0/\HT.zH Ê Ê hi=Ê)/\∀ p,H p=none->Q (Õ p) (upd H p (.tup (tP xs Ĭ)))
theorem VV:rT X (bG X.K):=by
 ext ů;let#[a,xs,rfl,hx,hw,q]:=h;cases rx;let#[Aa,r,ht,hz]:=I.tuple hx;have hlen:À2=Ê:=by rw[AG];show r.length.symm
 exact#["tuple",_,PyProof.Rows.slot_tuple_getitem.lookup,ht.typeIs,?_];exact HT.Ll ht hs pl pu (by rw[hlen];show hw) ?_ (by rw[hlen];show hz);rw[hlen];exact#[Õ Ã,_,I.laid (t':=È2) (o:=.tup (tP xs Ĭ)) Ś,rfl,q _ (ú)];show#[#[Bc (Y0 xs Ĭ) hz,.new _],_,À9,IsTup.new Ø]
def bQ č:R2:=λ x y H Q=>∃ a b xs ys,x=Õ a/\y=Õ b/\yi Å4/\yi Ď b ys/\xs≠[]/\Ê+œ<=ç/\
 (ys=[]->Q (Õ a) H)/\(ys≠[]->∀ p,H p=none->Q (Õ p) (upd H p (.tup (xs++ys))))
def Vals.mi Û{us:Ad}(r:Vals xs us):us=[]↔xs=[]:=by
 cases r with
 | _=>simp
theorem QK:yp X (binaryOp .Add) (bQ X.K):=by
 intro FH s σ H x y v u Q I rx ry h;let#[a,b,xs,ys,rfl,rfl,ha,hb,hx,hz,q1,q2]:=h;cases rx;cases ry;let#[Aa,r1,p1,_]:=I.tuple ha;let#[GQ,r2,p2,_]:=I.tuple hb;exact HT.Kp p1 p2 (λ z=>hx (r1.mi.mp z)) (λ z=>#[Õ a,H,I,rfl,q1 (r2.mi.mp z)]) È3 (by rw[<- r1.length,<- r2.length];show hz);exact#[Õ Ã,_,I.laid (t':=È2) (o:=.tup (xs++ys)) Ś,rfl,q2 (λ w=>z (r2.mi.mpr w)) _ (ú)];show#[#[by rw[Bh];show hz,.new _],_,r1.append r2,IsTup.new Ø]
end
def wC (n:Nat) (i:Int):Ì Nat:=if 0<=i then (if i<n then ↑i.toNat else none) else if -Į<=i then ↑(i+n).toNat else none
def ya {α:Type}(xs:List α) (i:Int):Ì α:=(wC Ê i).bind λ j=>xs[j]?
theorem Zq {n:Nat}{i:Int}{j:Nat}(h:wC n i=↑j):seqIndex? i n=↑j/\j<n/\-Į<=i/\i<n:=by
 unfold wC at h;by_cases h0:0<=i
 .rw[Ğ h0] at h;by_cases h1:i<n
  .rw[Ğ h1] at h;have e:i.toNat=j:=Bm h;show#[by rw[seqIndex_of h0 h1,e],⋯,⋯,h1]
  .rw[đ h1] at h;cases h
 .rw[đ h0] at h;by_cases h1:-Į<=i
  .rw[Ğ h1] at h;have e:(i+n).toNat=j:=Bm h;show#[by rw[seqIndex_neg ⋯ h1,e],⋯,h1,⋯]
  .rw[đ h1] at h;cases h
def fW {α:Type}{xs:List α}{i:Int}{v:α}(h:ya xs i=↑v):∃ j,seqIndex? i Ê=↑j/\xs[j]?=↑v/\j<Ê/\-(Ê:Int)<=i/\i<Ê:=by
 unfold ya at h;cases e:wC Ê i with
 | none=>rw[e] at h;cases h
 | some j=>
  rw[e] at h;let#[h1,h2,h3,h4]:=Zq e;show#[j,h1,h,h2,h3,h4]
theorem KR {α:Type}(xs:List α) (v:α):ya (xs++[v]) (-1)=↑v:=by
 have hl:(xs++[v]).length=Ê+1:=#[];have e:wC (xs++[v]).length (-1)=↑ Ê:=by
  unfold wC;rw[hl,đ (),Ğ ⋯];congr 1;lia
 unfold ya;rw[e];change (xs++[v])[Ê]?=↑v;simp
def Xf (b:Expr):Prop:=∀ o i,subscripted b ħ o i=operate [o,i] (getItem o i)
def sW ŧ (r:R2):Prop:=
 ∀ (value slice:Expr) ß (x y:V) (v u:Ą) (Q:VK),Í->RelV x v->RelV y u->r x y H Q->
  subscripted slice ħ v u=operate [v,u] (getItem v u)->Ĺ È (subscriptTail value slice v u) Ã9 s
def Xj ŧ (id:String) (r:V->è):Prop:=
 Ô
section
variable {ĳ}{a b:Expr}{ta tb:TE}{Ŕ}
def sW.or {r r':R2}(h:sW X r) (h':sW X r'):sW X (λ x y H Q=>r x y H Q\/r' x y H Q):=by
 intro value slice FH s σ H x y v u Q I rx ry q hs;rcases q with q | q
 .show h value slice å x y v u Q I rx ry q hs
 .show h' value slice å x y v u Q I rx ry q hs
def TF {r:R2}(hr:sW X r) (ha:PE X a ta) (hb:PE X b tb) (hs:Xf b):PE X (.Subscript a b pos) (nG r Ũ):=by
 ext ń;show Subscript_ (fR ha hb I h λ v u s2 x y H2 I2 rx ry q=>hr a b FH s2 σ H2 x y v u Q I2 rx ry q (hs Ø))
def bM č:R2:=λ x y H Q=>∃ p xs i v,x=Õ p/\y=Ī i/\zU Ď p xs/\ya xs i=↑v/\Q v H
def bK č:R2:=λ x y H Q=>∃ p xs i v,x=Õ p/\y=Ī i/\yi Ď p xs/\ya xs i=↑v/\Q v H
def bL:R2:=λ x y H Q=>∃ z i c,x=.str z/\y=Ī i/\z.length<=ç/\ya z.cps.toList i=↑c/\Q (.str #[[c].toArray]) H
theorem M0:sW X (bM X.K):=by
 ext ä;let#[Aa,r,pl,hz]:=I.list hq;ext Ý;by_cases h0:0<=i
 .have hj:i.toNat=j:=by
   rw[seqIndex_of h0 h5] at h1;show Bm h1
  show item_listR È4 h0 ⋯ (by rw[hj];exists ew) fin hs
 .have hj:(i+(À2:Int)).toNat=j:=by
   rw[seqIndex_neg ⋯ h4] at h1;ext Æ1;show Bm h1
  show subscriptTail_builtinR (x:=w) pl.isList.typeIs slot_list_getitem.lookup
   (wpAny_getItem_list_neg (Q:=λ r s'=>r=w/\EP ø Q r s') È4 ⋯ (by rw[AG] <;> lia) ⋯ (by rw[hj];exists ew) #[rfl,fin]) hs
theorem Mx:sW X (bK X.K):=by
 ext ä;let#[Aa,r,pl,hz]:=I.tuple hq;ext Ý;show subscriptTail_builtinR (x:=w) pl.typeIs slot_tuple_getitem.lookup
  (getItem_tuple (j:=j) (Q:=λ r s'=>r=w/\EP ø Q r s') pl ⋯ ⋯ (by ext Æ1;show h1) (by exists ew) #[rfl,fin]) hs
theorem My:sW X bL:=by
 ext ž;let#[z,i,c,rfl,rfl,hz,he,q]:=h;let#[t,rfl]:=rx;let#[t',rfl]:=ry;ext Ä0;have hl:z.cps.toList.length=z.length:=by simp[Str.length]
 rw[hl] at h1 h4 h5;have hn:=qC;show tail_any (typeIs_str s z t) slot_str_getitem.lookup (getItem_str (c:=c) (by
  have e1:ŵ (i < -(2 ^ 63:Int))=ħ:=tx ⋯;have e2:ŵ (i≥2 ^ 63)=ħ:=tx ⋯;rw[e1,e2,Bool.or_false]) (by rw[h1];exists h2) #[.str #[[c].toArray],H,I.tok _,#[_,rfl],q]) hs
def bN č:R2:=λ x y H Q=>bM K x y H Q\/bK K x y H Q\/bL x y H Q
def Mz:sW X (bN X.K):=M0.or (Mx.or My)
def NH (Aa:Ad) (n j:Nat) (u:Ą):Ä8 (·.setIfInBounds j u) { cls:=Ï,data:=.seq ô n }={ cls:=Ï,data:=.seq (Aa.set j u).toArray n }:=by
 simp[Ä8]
theorem Inv.lst Ó ś Û Ż (h:H p=↑ Ę):
  ∃ (Aa:Ad) (n:Nat),Vals xs Aa/\Â1/\Ê<=ç:=by
 let#[z,Aa,n,r,e]:=I.zr p _ h;show#[Aa,n,r,e,z]
def Inv.NQ Ó ś{xs ys:Ō}{Aa AZ:Ad}{n n':Nat}{f:Obj->Obj}Ż (h:H p=↑ Ę)
  (ho:Â1) (hf:f { cls:=Ï,data:=.seq ô n }={ cls:=Ï,data:=.seq AZ.toArray n' }) (r:Vals ys AZ) (hz:œ<=ç) (t:Nat):
  Inv ø (upd H p (ŗ ys)) { s with heap:=Ã0 p f,toks:=t }:=by
 have e:(Ã0 p f).get? p=↑{ cls:=Ï,data:=.seq AZ.toArray n' }:=by
  rw[za8 f ho (by rw[hf] <;> rfl),hf]
 exact I.write (x:=p) (e:=p) (by rw[h];trivial) (ī rfl) (λ b u hb q=>(za9 Ø (Ne.symm hb)).trans q) #[_,e] ?_;show#[hz,AZ,n',r,e]
def U3:V->V->V->Hp->(ó)->Prop:=λ o i v H Q=>∃ p xs k j,o=Õ p/\i=Ī k/\H p=↑ Ę/\wC Ê k=↑j/\Q È5
theorem set_list:Xg X U3:=by
 intro FH s σ H o i v ov iv u Q I ro ri rv h;let#[p,xs,k,j,rfl,rfl,hp,hj,q]:=h;cases ro;let#[t,rfl]:=ri;let#[Aa,n,r,ho,hz]:=I.lst hp;let#[h1,h2,h3,h4]:=Zq hj;have hl:=r.length;have hn:=qC;have I':Inv ø È5 { s with heap:=Ã0 p (Ä8 (·.setIfInBounds j u)) }:=
  I.NQ hp ho (NH Aa n j u) (r.set rv j) (by rw[BZ];show hz) È2
 by_cases h0:0<=k
 .have hk:k.toNat=j:=by
   rw[seqIndex_of h0 h4] at h1;show Bm h1
  show PySem.W.ki_setAt ho h0 ⋯ (by ext Æ1;show h4) Å9
 .have hk:(k+(À2:Int)).toNat=j:=by
   rw[seqIndex_neg ⋯ h3] at h1;ext Æ1;show Bm h1
  show PySem.W.ki_setBack ho ⋯ (by ext Æ1;show h3) ⋯ Å9
def VS Ĳ (n:Nat):(š Ĭ none n).1=((HT.zH n 0 lo:Nat):Int)/\(š Ĭ none n).2.1=((HT.zH n n hi:Nat):Int)/\(š Ĭ none n).2.2=1:=by
 exact#[?_,?_,rfl]
 .cases lo with
  | none=>simp[š,HT.zH]
  | some i=>
   ext Ā
   .simp![h,if_true] <;> lia
   .simp![h,if_false] <;> lia
 .cases hi with
  | none=>simp[š,HT.zH]
  | some i=>
   ext Ā
   .simp![h,if_true] <;> lia
   .simp![h,if_false] <;> lia
def VT (Aa:Ad) Ĳ:slicePick ô Ĭ none=((Aa.drop (HT.zH È6 0 lo)).take (HT.zH È6 È6 hi-HT.zH È6 0 lo)).toArray:=by
 let#[h1,h2,h3]:=VS Ĭ À2;unfold slicePick;rw[h1,h2,h3];simp![sliceRange_one,pick_run,AG] <;> rfl
def bH č:Ú:=λ x lo hi H Q=>∃ a xs,x=Õ a/\zU Å4/\∀ p,H p=none->Q (Õ p) (upd H p (ŗ (tP xs Ĭ)))
theorem VW:rT X (bH X.K):=by
 ext ů;let#[a,xs,rfl,hx,q]:=h;cases rx;let#[Aa,r,ht,hz]:=I.list hx;have hlen:=r.length;exact#["list",_,slot_list_getitem.lookup,ht.isList.typeIs,?_];exact wpAny_getItem_list_slice ht.isList hs pl pu .none #[] ?_ (by rw[AG] <;> lia);rw[VT,<- hlen];exact#[Õ Ã,_,I.laid (t':=È2) (o:=ŗ (tP xs Ĭ)) Ś,rfl,q _ (ú)];show#[Bc (Y0 xs Ĭ) hz,_,0,À9,AW _ rfl]
theorem K4:yS X (Â9 "len") (λ xs H Q=>∃ p ys,xs=[Õ p]/\(zU Â7\/yi Â7)/\Q (Ī œ) H):=by
 ext ā;have hn:=qC;rcases hq with hq | hq
 .ext ö;show Calls.call_len_list È4 ą
 .ext Ł;have hlen:=r'.length;show len_tuple pl ą
theorem K3:yS X (Â9 "len") (λ xs H Q=>∃ z,xs=[.str z]/\z.length<=ç/\Q (Ī z.length) H):=by
 ext Ų;let#[z,rfl,hz,q]:=h;let#[u,rfl,t,rfl]:=vals1 r;have hn:=qC;show len_str ⋯ #[Ī z.length,H,I.tok _,#[_,rfl],q]
def yS.or {f:Ą}{r r':è}(h:yS X f r) (h':yS X f r'):yS X f (λ xs H Q=>r xs H Q\/r' xs H Q):=by
 intro FH s σ H xs us Q I rs q;rcases q with q | q
 .show h å xs us Q I rs q
 .show h' å xs us Q I rs q
theorem K1:yS X (Ï) (λ xs H Q=>∃ p ys,xs=[Õ p]/\(zU Â7\/yi Â7)/\∀ l,H l=none->Q (Õ l) (upd H l (ŗ ys))):=by
 ext ā;have fin:∀ (Aa:Ad),Vals ys Aa->œ<=ç->∀ (h':Heap) (c':Nat),(∀ b o',ĕ b=↑o'->h'.get? b=↑o')->
   h'.get? Ã=↑{ cls:=Ï,dict:=none,data:=.seq ô c',slots:=Ľ }->EP ø Q (Õ Ã) { s with heap:=h' }:=λ Aa r' hz h' c' kp e=>
  #[Õ Ã,_,I.laid (t':=È2) kp È1 (show xH X.prog X.w _ h' _ (ŗ ys) from #[hz,Aa,c',r',e]),rfl,q _ (ú)]
 rcases hq with hq | hq
 .ext ö;let#[o,ho,hc,n,hd]:=È4;show call_list_seq p (ī rfl) Ħ
 .ext Ł;have hlen:=r'.length;let#[o,ho,hc,n,hd]:=pl;show call_list_seq p (Ŏ rfl) Ħ
theorem Kq:yS X (ň "tuple") (λ xs H Q=>∃ p ys,xs=[Õ p]/\((zU Â7/\∀ l,H l=none->Q (Õ l) (upd H l (.tup ys)))\/(yi Â7/\Q (Õ p) H))):=by
 ext Ų;let#[p,ys,rfl,h]:=h;ext Ç3;rcases h with ⟨hq,q⟩ | ⟨hq,q⟩
 .ext ö;exact call_tuple_list È4 (λ h' kp=>?_) Â0;have I1:Inv ø H { s with heap:=h' }:=I.kept (t':=È2) kp;have I2:Inv ø (upd H h'.objs.size (.tup ys)) { s with heap:=h'.push { cls:=ň "tuple",data:=.seq ô } }:=
   I1.laid (t':=È2) (λ b o e=>gV _ e) È1 (show xH X.prog X.w Ø _ (.tup ys) from #[#[hz,.new _],Aa,r',IsTup.new Ø])
  show#[Õ h'.objs.size,_,I2,rfl,q _ (I1.zr.fresh È1)]
 .ext Ł;show call_tuple_same pl #[Õ p,H,I,rfl,q]
def cF č (T:String) (x:V) Æ2:Prop:=match x with
 | .str _=>T="str"
 | Ī _=>T="int"
 | Õ p=>(T="list"/\∃ xs,zU Ď p xs)\/(T="tuple"/\∃ o,ŭ p=↑o/\o.cls=ň "tuple"/\o.dict=none)\/
   (T="dict"/\((∃ Aq,H p=↑(.dK Aq))\/∃ Aq,H p=↑(.dT Aq)))\/(T="set"/\∃ S n,H p=↑(.set S n))
 | _=>ě
def Va Ó{T:String}{x:V}{v:Ą}Ż (r:RelV x v) (ty:cF X.K T x H):
  s.TypeIs v T/\∀ a,v=Õ a->∃ ob,ĕ a=↑ob/\ob.dict=none:=by
 cases x with
 | str z=>
  let#[t,rfl]:=r;cases (show T="str" from ty);show#[typeIs_str s z t,λ _ e=>nomatch e]
 | int i=>
  let#[t,rfl]:=r;cases (show T="int" from ty);show#[typeIs_int s i t,λ _ e=>nomatch e]
 | ref p=>
  cases r;rcases ty with ⟨rfl,xs,hq⟩ | ⟨rfl,o,hk,hc,hd⟩ | ⟨rfl,hk⟩ | ⟨rfl,S,n,hk⟩
  .let#[Aa,_,pl,_]:=I.list hq;exact#[pl.isList.typeIs,λ a e=>?_];cases e;let#[o,n,e,c,hd,_]:=pl;show#[o,e,hd]
  .exact#[#[o,I.y7 p o hk,hc],λ a e=>?_];cases e;show#[o,I.y7 _ o hk,hd]
  .have z:∃ o,ĕ p=↑o/\o.ExactDict:=by
    rcases hk with ⟨Aq,hk⟩ | ⟨Aq,hk⟩
    ext Ĩ
    ext Ĩ
   let#[o,e,ex]:=z;ext Ļ
  .let#[o,_,_,_,e,ex,_]:=I.zr p _ hk;ext Ļ
 | _=>show False.elim ty
def jZ č (T:String) (r:V->è) (to:TE) (t:TA):TE:=fun σ H Q=>to À7 λ x H1=>cF K T x H1/\t σ H1 λ xs H2=>r x xs H2 Q
variable {o e:Expr}{es:ż}{to:TE}{t:TA}{name:Str}{apos Ai:Pos}{T id:String}{r:V->è}
def iH (pa:PlainAttrs T) (slot:Slot T name id) (hty:typeOf (Â9 id)=pure (ň "method_descriptor")) (hm:Xj X id r) (ho:PE X o to) (ha:PA X (e::es) t)
  (Gi:attributeBase o name Ċ (eval o Ċ)=eval o Ċ:=by rfl)
  (AX:((backTo Ai (starEach (e::es) Ċ)).all (λ x=>!x.1)&&(backToKw Ai (keywordEach [] Ċ)).all (λ x=>x.1.isSome)
   && ŵ ((e::es).length+([]:List Keyword).length+(if ([]:List Keyword).isEmpty then 0 else 1)<30))=true:=by rfl)
  (Hm:(apos.endLine == Ai.line)=true:=by rfl) (hs:Az X e es:=by rfl) (GK:AE X Ai es:=by rfl):
  PE X (.Call (.Attribute o name apos) (e::es) [] Ai) (jZ X.K T r to t):=by
 ext ń;exact wpAny_Call_method_late Gi AX Hm rfl (zF (ho å _ I h) λ v s1 #[x,H1,I1,r1,ty,q1]=>?_);let#[h1,h2]:=Va I1 r1 ty;exact#[T,id,pa,slot,hty,h1,h2,?_];have hA:=ha Ai FH s1 σ H1 _ I1 q1;rw[hs] at hA ⊢;exact Calls.callWith_builtin (by change (ħ||(backTo Ai (starEach es Ċ)).any (·.1))=ħ;rw[GK] <;> rfl) (Calls.evalArgs_plain ?_);show zF hA λ us s2 #[vs,H2,I2,r2,q2]=>hm FH s2 σ H2 x vs v us Q I2 r1 r2 q2
end
def Xk ŧ (id:String) (r:V->è):Prop:=
 Ô
theorem Vals.one:∀ {x:V}{us:Ad},Vals [x] us->∃ u,us=[u]/\RelV x u
 | _,_,À1 r .nil=>#[_,rfl,r]
theorem Vals.eraseIdx:∀ Û{us:Ad}É8,Vals xs us->Vals (xs.eraseIdx i) (us.eraseIdx i)
 | _,_,_,.nil=>.nil
 | _,_,0,À1 _ t=>t
 | _,_,i+1,À1 r t=>À1 r (Vals.eraseIdx i t)
theorem Vals.rep Û{us:Ad}(h:Vals xs us):∀ k:Nat,Vals (List.replicate k xs).flatten (List.replicate k us).flatten
 | 0=>.nil
 | k+1=>by
  rw[CK,CK,CU,CU];show Vals.append h (Vals.rep h k)
theorem Zf {α:Type}:∀ (l:List α) É8,(l.eraseIdx i).length<=l.length
 | [],_=>Am _
 | _::_,0=>CJ _
 | _::r,i+1=>Nat.succ_le_succ (Zf r i)
section
variable {ĳ}{Ó}{l:Addr}{xs ys:Ō}
def Inv.aY {Aa AZ:Ad}{n:Nat}{f:Array Ą->Array Ą}{t':Nat}Ż (hH:H l=↑ Ę)
  (e:Ã3) (hf:f ô=AZ.toArray) (hv:Vals ys AZ) (hz:œ<=ç):
  Inv ø (upd H l (ŗ ys)) { s with heap:=Ã0 l (Ä8 f),toks:=t' }:=by
 have q:=PySem.IsL.update e f;rw[hf] at q;exact I.write (x:=l) (e:=l) (by rw[hH];show trivial) (ī rfl) (λ b' u hb hu=>(za9 s.heap (Ä8 f) (Ne.symm hb)).trans hu) #[_,q] ?_;show#[hz,AZ,_,hv,q]
def Inv.NS {Aa:Ad}{t':Nat}Ż (hv:Vals ys Aa) (hz:œ<=ç):
  Inv ø (upd H Ã (ŗ ys)) { s with heap:=Ç9 { cls:=Ï,data:=.seq ô },toks:=t' }:=
 I.laid (λ _ _ q=>gV _ q) È1 #[hz,Aa,0,hv,AW _ rfl]
theorem Inv.fresh Ż:H Ã=none:=ú
def Inv.aX Ż (hH:H l=↑ Ę):Ê<=ç/\∃ (Aa:Ad) (n:Nat),Vals xs Aa/\Ê=È6/\Ã3:=by
 let#[z,Aa,n,r,e]:=I.zr l _ hH;show#[z,Aa,n,r,r.length,e]
def bS:V->è:=λ x vs H Q=>∃ l xs y,x=Õ l/\vs=[y]/\H l=↑ Ę/\Ê<ç/\Q .zm (upd H l (ŗ (xs++[y])))
theorem aV:Xk X "list.append" bS:=by
 ext Æ7;let#[l,xs,y,rfl,rfl,hH,hz,q]:=h;ext É9;ext Å5;exact call_meets F.slot_list_append #[_,e,rfl] F.entry_list_append (F.args_list_append_2 Ø) (PySem.list_append l ô n u (by rw[AG];lia)) #[e,?_];exact#[.zm,_,I.aY (AZ:=Aa++[u]) hH e #[] (r.append (À1 ru .nil)) ?_,rfl,q];rw[Bh,List.length_singleton];lia
def bJ:V->è:=λ x vs H Q=>∃ l xs i k y,x=Õ l/\vs=[Ī i]/\H l=↑ Ę/\-(2 ^ 63)<=i/\i<2 ^ 63/\seqIndex? i Ê=↑k/\xs[k]?=↑y/\Q y (upd H l (ŗ (xs.eraseIdx k)))
theorem NA:Xk X "list.pop" bJ:=by
 ext Æ7;let#[l,xs,i,k,y,rfl,rfl,hH,h1,h2,hk,hy,q]:=h;ext É9;let#[t,rfl]:=ru;ext Å5;let#[w,hw,rw']:=r.get hy;exact call_meets F.slot_list_pop #[_,e,rfl] F.entry_list_pop (F.args_list_pop_2 Ø)
  (MeetsSeq.list_pop_at l ô n i t k w (fitsIndex_both h1 h2) (by ext Æ1;show hk) (by rw[<- BK];show hw) (by rw[AG];lia)) #[e,?_]
 exact#[y,_,I.aY (AZ:=Aa.eraseIdx k) hH e ?_ (r.eraseIdx k) ?_,rw',q]
 .change Aa.toArray.eraseIdxIfInBounds k=(Aa.eraseIdx k).toArray;rw[List.eraseIdxIfInBounds_toArray]
 .have:=Zf xs k;lia
end
end L2
namespace Ws
open PySem PySem.W PySem.Calls Ŵ
def MG {P:Params}{h:Heap}:∀ (ns:Ű) (vs:Ad),WellAll P h vs (È7 WData.int)->ţ:=by
 intro ns
 induction ns with
 | nil=>
  intro vs w;rw[BA] at w;cases w;show .nil
 | cons n ns ih=>
  intro vs w;rw[AJ] at w;cases w with
  | cons a b=>
   cases a;show À1 Ø (ih _ b)
def Ug {l:OpenLaw}{n:Nat}Æ8 {P:Params}{h:Heap}{args:List WData}{vals:Ad}
  (Cv:l.row.toRowW.claim.pre args=true) (BL:WellAll P h vals args):
  ∃ a vs ns,vals=[Value.ref a]/\args=[WData.list (È7 WData.int)]/\h.get? a=↑{ cls:=Ï,data:=Ņ }/\ţ/\Ã1<=n:=by
 have hsh:WShape.hasAll [] args [.list Ī]=true:=(pre_splitW Cv).1;have hc:l.pre.holds [] { args:=args }=true:=(pre_splitW Cv).2;let#[d,r,rfl,h1,h2]:=hasAllW_cons hsh;obtain rfl:=hasAllW_nil h2;let#[xs,rfl,h3]:=hasW_list h1;let#[ns,rfl]:=items_int h3;have hlen:Ã1<=n:=by
  unfold OpenLaw.pre at hc;have h4:(WTm.not (.lt (.lit (Ī Į)) (.len (.arg 0)))).holds [] { args:=[.list (È7 Ī)] }=true:=by
   have h4:=(holds_andW hc).1;rw[hn] at h4;show h4
  have h5:=condW_of h4 (w_not (w_lt w_lit (w_len_list (w_arg rfl))));rw[Af] at h5;exact Nat.le_of_not_lt λ q=>?_;have q':Į<((Ã1:Nat):Int):=⋯
  first
   | (rw[tp q'] at h5;show Ř h5 ())
   | (simp at h5;lia)
 cases BL with
 | cons w1 w2=>
  cases w2;cases w1 with
  | list ho Ay=>show#[_,_,ns,rfl,rfl,ho,MG ns _ Ay,hlen]
def UQ (l:OpenLaw) (args:List WData):l.row.toRowW.claim.post args (ľ) args=true:=
 postW_of (r:=l.row.toRowW) (X:=(true == true))
  (show WShape.has [] (ľ) .bool=true by first | rfl | decide | simp[WShape.has,WShape.arms,WShape.armsAll])
  (show (WTm.eq .res (.lit (ľ))).value [] { args:=args,res:=↑(ľ),after:=args }=↑(.bool (true == true)) from w_eq_bool (w_res rfl) w_lit) rfl
def KP {l:OpenLaw}{n:Nat}ù
  Æ8 (D3:d.params.defaults=[])
  (call:∀ Ê0 (s₀ s₁:ă) (mg mb:Au) (fa:Addr) (o:Obj) (pm cd doc:Ą) Ç4 (vs:Ad) (ns:Ű),
   Ground q loose [] XP w s₀ mg mb ĩ->YP w ĩ->
   ř fa=↑o->o.data=.func (docDef d.name d.params d.body d.scope pm cd doc)->s₁.heap.CodeRec cd d.name->mg d.name=↑(Õ fa)->
   Æ9->ţ->Ã1<=n->s₁.gens=Ľ->
   codeAny (model l.prog w) Ç):
  WalkO ŋ:=by
 intro w s₀ s₁ mg mb G Y fa o pm cd doc dV kV ho hd Bg hD DX hg args vals as Cv DY hrd BL Fo;obtain rfl:dV=.none:=Dflts.none hD D3;obtain rfl:kV=.none:=Dflts.noKw hD;let#[a,vs,ns,rfl,rfl,C7,hints,hlen]:=Ug hn Cv BL;exact enter_call (codeAny_mono (call w s₀ s₁ mg mb fa o pm cd doc a vs ns G Y ho (fd_plain hd) Bg DX C7 hints hlen hg) λ r s' hq=>?_);let#[rfl,h2,h3,h4]:=hq;show#[ī #[ľ,ľ,[],rfl,λ _=>rfl,ľ,UQ l _,λ _=>#[List.Pairwise.nil,λ _ hm=>(nomatch hm)]],h2,h3,h4]
end Ws
namespace L2
open PySem PySem.Spec Ŵ
theorem cu:∀ {vs:Ad}{ns:Ű},ţ->Vals Ĕ vs
 | _,_,.nil=>.nil
 | _,_,À1 n t h=>À1 #[t,rfl] (cu h)
def jt Æ2:Prop:=∀ b,H b=none\/∃ o xs,H b=↑(.wt o Ę)
def Me {P:Program}{w:World}Ê1{mg mb:Au}{CX:uD}{k:Nat}{fa a:Addr}{fd:FuncData}Ê2{sp:Sp}{s₁:ă}{vs:Ad}{ns:Ű}
  (KX:K.In ĩ) (Bo:s₁.heap.Ns Ė mg) (hb:s₁.heap.Ns builtinsNs mb) (hbb:∀ x:Str,x≠"__name__"->mb x=bootBuiltins x) (Fp:s₁.heap.NoLimit) (hg:s₁.gens=Ľ)
  (ha:Æ9) (hi:ţ) (hl:Ã1<=ç) (hr:yo k callerA)
  (F:∀ base:Heap,K.In base->base.Ns Ė mg->wJ P w K mg base CX k fa fd [x] sp) (hbind:ŉ)
  (B7:∀ H:Hp,jt H->zU Ď a Ĕ->sp Á7)
  (hCX:∀ H e s',CX [] H s₁ (È8) e s'->ě):
  codeAny (model P w) Ç:=by
 have rv:=cu hi;have lenV:=hi.length;have core:∀ H:Hp,jt H->zU Ď a Ĕ->yD P w H ĩ->(∀ b,H b≠none->b=a)->(H a≠none->ŭ a=none)->
   codeAny (model P w) Ç:=by
  intro H hO hS zr hA hK;have Io:∀ {b:Addr}{o:Obj},ř b=↑o->H b=none->(sM ĩ H).get? b=↑o:=λ e n=>MP e n;have noA:∀ {b:Addr}{o:Obj}{es:Array DictEntry}{ep:Nat},ř b=↑o->o.data=.dict es ep->H b=none:=λ{b o es ep} e d=>by
   cases q:H b with
   | none=>rfl
   | some u=>
    ext Â8;rw[ha] at e;cases e;have d':Data.seq vs.toArray _=Data.dict es ep:=d;cases d'
  have nsK:∀ {b:Addr}{m:Au},s₁.heap.Ns b m->(sM ĩ H).Ns b m:=λ{b m} #[o,es,ep,e,d,r]=>#[o,es,ep,Io e (noA e d),d,r];have hKb:K.In (sM ĩ H):=λ b o e=>Io (KX b o e) (by
   cases q:H b with
   | none=>rfl
   | some u=>
    ext Â8;rw[hK (by rw[q];simp)] at e;cases e)
  have hM:Mod K mg (sM ĩ H):=#[hKb,nsK Bo,#[mb,nsK hb,hbb],let #[mc,h1,h2]:=Fp;#[mc,nsK h1,h2]];have e0:pj P w K mg (sM ĩ H) callerA [] s₁ H:=#[rfl,hM,λ b o e=>Np e,Nat.le_of_eq (MO Ø),trivial,λ b hb=>Ř (show b∈([]:É2) from hb) #[],zr,.of_eq hg];exact codeAny_mono ((F _ hKb (nsK Bo)).run callerA [] s₁ H #[[Õ a],[]] [Õ a] [Õ a] Ø hr e0 (hbind s₁ (Õ a)) (À1 rfl .nil) (B7 H hO hS)) λ r s' h=>?_;cases r with
  | error e=>show (hCX H e s' h).elim
  | ok fl=>
   cases fl with
   | ret u=>
    let#[v,H',os,bare,un,BG,r',q]:=h;have q':v=.bl true:=q;subst q';obtain rfl:u=Value.bool true:=r';exact#[rfl,OldK.of_keep λ b o e=>?_,os,bare];cases q:H b with
    | none=>show un.keep b o e q (by intro z;show Ř (show b∈([]:É2) from z) #[]) #[]
    | some u=>
     rcases hO b with z | ⟨ob,xs,z⟩
     .rw[q] at z;cases z
     .have z2:=un.vM b ob _ z;let#[e1,_]:=zr b _ z;let#[e2,_]:=BG b _ z2;rw[e] at e1;cases e1;show e2
   | _=>show False.elim h
 cases hk:ŭ a with
 | some o=>
  have e:=KX a o hk;rw[ha] at e;cases e;exact core (λ _=>none) (λ _=>ī rfl) (Ŏ #[_,vs.toArray,_,hk,rfl,rfl,rfl,by rw[AG,lenV];show hl,by exists rv]) (λ b u z=>by have z':(none:Ì HO)=↑u:=z;cases z') (λ b z=>Ř rfl z) λ z=>Ř rfl z
 | none=>
  exact core (λ b=>if b=a then ↑(.wt { cls:=Ï,data:=Ņ } (ŗ Ĕ)) else none) (λ b=>?_) (ī (Ŏ #[{ cls:=Ï,data:=Ņ },Ğ rfl])) (λ b u z=>?_) (λ b z=>?_) λ _=>hk
  .by_cases hb:b=a
   .show Ŏ #[_,_,Ğ hb]
   .show ī (đ hb)
  .by_cases hb:b=a
   .have z':=(Ğ hb).symm.trans z;cases z';subst hb;show#[ha,by rw[Af];show hl,vs,_,rv,ha]
   .have z':=(đ hb).symm.trans z;cases z'
  .by_cases hb:b=a
   .show hb
   .show Ř (đ hb) z
def WR {l:PySem.W.OpenLaw}{n k:Nat}ù{K:Params->Ab}{CX:World->uD}{sp:World->Sp}Ê2
  Æ8 (hn2:n<=ç) (D3:d.params.defaults=[]) (hr:yo k callerA)
  (hY:∀ Ê0 (h:Heap),YP w h->(Ä9).In h)
  (F:∀ Ê0 (mg:Au) (fa:Addr) (h:Heap),(Ä9).In h->h.Ns Ė mg->mg d.name=↑(Õ fa)->
   ∃ fd:FuncData,(ŉ)/\
    ∀ base:Heap,(Ä9).In base->base.Ns Ė mg->wJ l.prog w (Ä9) mg base (CX w) k fa fd [x] (sp w))
  (B7:∀ Ê0 Æ2 Ç4 (ns:Ű),Ã1<=n->jt H->zU (Ä9) H a Ĕ->sp w Á7)
  (hCX:∀ Ê0 Æ2 (s:ă) (e:Ą) (s':ă),CX w [] H s (È8) e s'->ě):
  PySem.W.WalkO ŋ:=by
 exact Ws.KP hn D3 λ w s₀ s₁ mg mb fa o pm cd doc a vs ns G Y ho hd Bg DX C7 hints hlen hg=>?_;have KX:=hY w _ Y;let#[fd,hb,hF]:=F w mg fa _ KX G.T.g DX;show Me KX G.T.g G.T.b G.T.builtins G.T.nolimit hg C7 hints (Bc hlen hn2) hr hF hb (λ H hO hS=>B7 w H a ns hlen hO hS) λ H e s'=>hCX w H s₁ e s'
def vi (s:Stmt):Arguments:=match s with
 | .FunctionDef _ a Ø Ø Ø Ø=>a
 | _=>{ posonlyargs:=[],args:=[],vararg:=none,kwonlyargs:=[],kw_defaults:=[],kwarg:=none,defaults:=[] }
def xi (s:Stmt):List Stmt:=match s with
 | .FunctionDef Ø b Ø Ø Ø _=>b
 | _=>[]
def zS (s:Stmt):Scope:=match s with
 | .FunctionDef Ø Ø Ø sc Ø _=>sc
 | _=>{ kind:=.function,names:=[],isGenerator:=ħ,isCoroutine:=ħ }
abbrev yT:uD:=λ _ _ _ _ _ _=>ě
abbrev E0:XK:=È8
def Qq ĳ:Passes yT X E0:=λ _ _ _ _ _ _ _ h=>İ
structure wZ č (x qual:Str) (st:Stmt) (f:Addr) (fd:FuncData):Prop where
 ex:∃ (oc:Ą) (od:Ž) (kV doc pm:Ą) (an:Ž) (Ah ct:Ą) (H_:Array (Ì Ą)),
  fd=Ð/\ŭ f=↑#[oc,od,.func fd,H_]/\Æ4
 kp:Ç0
section
variable {P:Program}{w:World}{Ê1}{mg:Au}{base:Heap}
def wZ.ok Ĵ{fd:FuncData}{N ps:ı}{k:Nat}{sp:Sp}(F:wZ K x qual st f fd) (S:vF N ps (zS st)) (len:∀ vs H Q E,sp vs H Q E->vs.length=ps.length)
  (FW:∀ (Ah:Ą) (A:Around) (outer:List Env) (s:ă) Æ2 (vs:Ō) (Q:VK) (E:XK),yo k (A.deeper (envOfC qual (zS st) Ã f Ah))->sp vs H Q E->
   ∃ t,wa (xj yT P w K mg base N qual (zS st) f Ah A outer s H E).x9 (xi st) t/\t { nx:=λ _ H'=>Q .zm H',rt:=Q } (start N vs) H):wJ P w K mg base yT (k+1) f fd ps sp:=by
 ext ĭ;exact ZV lk Bg S len λ A outer s H vs Q E hr B7=>?_;let#[t,h,q]:=FW Ah A outer s H vs Q E hr B7;show#[t,h.x9,q]
def wZ.binds Ĵ{fd:FuncData}{ps:ı}(F:wZ K x qual st f fd)
  (h:∀ (kV doc pm:Ą) (an:Ž) (Ah ct:Ą) (us:Ad),us.length=ps.length->bindArgs (Ð) #[us,[]]=pure (ps.zip us)):Binds K fd ps []:=by
 ext ĭ;show .all (h kV doc pm an Ah ct)
def gz Ĵ{oc:Ą}{od an:Ž}{H_:Array (Ì Ą)}{kV doc pm Ah ct:Ą}(l:ŭ f=↑#[oc,od,.func (Ð),H_])
  (c:Æ4) (k:Ç0):wZ K x qual st f (Ð):=#[#[oc,od,kV,doc,pm,an,Ah,ct,H_,rfl,l,c],k]
end
section
variable {ĳ}
def pv É8 Ê2 Ŕ(hN:X.N[i]?=↑x:=by rfl) (hv:lj X.env.scope x:=by first | show Or.inl rfl | show Or.inr (Or.inl rfl) | show Or.inr (Or.inr rfl)) (hd:(x == ("__debug__":Str))=ħ:=by decide)
  (Bg:(x == ("__classdict__":Str))=ħ:=by decide):PE X (.Name x pos) (nF i):=Tv hN hv hd Bg
end
def oU (H H':Hp):Prop:=∀ b o,H b=↑o->H' b=↑o
end L2
namespace PySem
theorem fg Ê3:∀ (l:ł) (acc:ñ),(∀ y∈l,y.2=À3->∃ c,Ů y.1=↑c)->
  ∃ cl,(forIn l acc (λ(x:Str×NameKind) r=>if (x.2 == í)=true then do let a <- cellOf env x.1;pure (À4 ((x.1,a)::r)) else pure (À4 r)):Sem (ñ))=pure cl/\
   (∀ x c,Å0->acc.lookup x=↑c\/((x,í)∈l/\Ů x=↑c))/\(∀ x,(x,í)∈l\/(acc.lookup x).isSome->È9)
 | [],acc,_=>#[acc,rfl,λ x c h=>ī h,λ x h=>by exists h]
 | É0::l,acc,h=>by
  by_cases hk:k=À3
  .subst hk;let#[c,hc]:=h (n,À3) Aw rfl;let#[cl,e1,e2,e3]:=fg l ((n,c)::acc) λ y hy=>h y (AD _ hy);exact Á0
   .rw[Di];simp![beq_self_eq_true,if_true,cellOf,hc];show e1
   .ext Æ3
    .rw[Bv] at q;cases DP:x == n with
     | true=>
      rw[DP] at q;have:x=n:=by exists DP
      subst this;exact Ŏ #[Aw,?_];rw[hc];show q
     | ħ=>rw[DP] at q;show ī q
    .show Ŏ #[AD _ q1,q2]
   .exact e3 x ?_;rcases hx with hx | hx
    .ext ō
     .have:x=n:=congrArg Prod.fst q;subst this;show Ŏ (by simp[Bv])
     .show ī q
    .exact Ŏ ?_;rw[Bv];cases x == n <;> simp[hx]
  .have hb:(k == í)=ħ:=by exists hk
   let#[cl,e1,e2,e3]:=fg l acc λ y hy=>h y (AD _ hy);exact Á0
   .rw[Di];simp![hb,Bd,if_false];show e1
   .ext Æ3
    .show ī q
    .show Ŏ #[AD _ q1,q2]
   .exact e3 x ?_;rcases hx with hx | hx
    .ext ō
     .show Ř (congrArg Prod.snd q).symm hk
     .show ī q
    .show Ŏ hx
def Y5 Å6 Ê3(h:∀ y∈ ï,y.2=À3->∃ c,Ů y.1=↑c):
  ∃ cl,closureFor û env=pure cl/\(∀ x c,Å0->É/\Ů x=↑c)/\∀ x,É->È9:=by
 let#[cl,e1,e2,e3]:=fg (env:=env) ï [] h;exact#[cl,?_,λ x c hx=>?_,λ x hx=>e3 x (ī hx)]
 .simp![closureFor];rw[e1];rfl
 .rcases e2 x c hx with q | q
  .simp at q
  .show q
theorem Za Ê3:∀ {names:ł}Ê2,names.lookup x=↑ À3->
  Î=↑.cell\/
  Î=↑ À3
 | [],_,h=>by simp at h
 | É0::r,x,h=>by
  have ih:=@Za env r x;change Ò=_\/Ò=_;cases hx:x == n with
  | true=>
   simp![Bv,hx] at h;cases h;by_cases hc:(í == í&&Š&&env.kindOf n == ↑.cell)=true
   .rw[Ğ hc];simp[Bv,hx]
   .rw[đ hc];simp[Bv,hx]
  | ħ=>
   simp![Bv,hx] at h;by_cases hc:À=true
   .rw[Ğ hc];simp![Bv,hx];show ih h
   .rw[đ hc];simp![Bv,hx];show ih h
theorem bA Ê3:∀ {names:ł}Ê2,
  (Î=↑.cell\/
  Î=↑ À3)->(x,í)∈names\/(x,ð)∈names
 | [],_,h=>by simp at h
 | É0::r,x,h=>by
  have ih:=@bA env r x;have h':Ò=↑.cell\/Ò=↑ À3:=h;cases hx:x == n with
  | true=>
   have DP:x=n:=by exists hx
   subst DP;by_cases hc:(k == í&&Š&&env.kindOf x == ↑.cell)=true
   .simp![AK] at hc;have:k=À3:=by exists hc.1.1
    subst this;show ī Aw
   .rw[đ hc] at h';simp![Bv,beq_self_eq_true] at h';rcases h' with q | q
    .cases Bm q;show Ŏ Aw
    .cases Bm q;show ī Aw
  | ħ=>
   exact (ih ?_).imp (AD _) (AD _);by_cases hc:À=true
   .rw[Ğ hc] at h';simp![Bv,hx] at h';show h'
   .rw[đ hc] at h';simp![Bv,hx] at h';show h'
theorem fj:∀ (names:ł) (h:Heap) (acc:ñ),∃ own,cellsFrom É1 names acc=own++acc/\(∀ p∈own,(p.1,ð)∈names/\É1<=p.2/\(pushCells h names).IsCell p.2 none)/\
  (own.Pairwise λ x y=>x.2≠y.2)/\∀ x,(x,ð)∈names->(Ŷ x).isSome
 | [],h,acc=>#[[],rfl,λ _ hp=>(by cases hp),.nil,λ _ hx=>(by cases hx)]
 | É0::r,h,acc=>by
  unfold cellsFrom pushCells;split
  .rename_i hk;have HS:k=.cell:=by exists hk
   subst HS;let#[own,e1,e2,e3,e4]:=fj r (h.push { cls:=ň "cell",data:=.cell none }) ((n,É1)::acc);rw[Á4] at e1 e2;exact#[own++[(n,É1)],by rw[e1,DM];rfl,λ p hp=>?_,?_,λ x hx=>?_]
   .rcases Bb.mp hp with q | q
    .let#[f1,f2,f3]:=e2 p q;show#[AD _ f1,⋯,f3]
    .cases A4.mp q;show#[Aw,Am _,_,É3 Ø Ø (AW _ rfl),rfl]
   .exact EV.mpr #[e3,DG Ø,λ a ha b hb=>?_];cases A4.mp hb;show BB (e2 a ha).2.1
   .rw[El,Option.isSome_or];ext ō
    .cases q;simp[Bv]
    .rw[e4 x q];rfl
  .rename_i hk;let#[own,e1,e2,e3,e4]:=fj r h acc;exact#[own,e1,λ p hp=>#[AD _ (e2 p hp).1,(e2 p hp).2],e3,λ x hx=>?_];ext ō
   .cases q;simp at hk
   .show e4 x q
def N2 {M:Model}{A:Around}{E:Ag}{s:ă}Å6{globals:Addr}{closure:ñ}{qual:Str}Ê3{Q:Env->ă->Prop}
  (hQ:∀ h',h'=pushCells (ū) ï->Q (newEnv û Ã globals (cellsFrom (Ã+1) ï closure) qual none .none ↑env builtinsNs) { s with heap:=h' }):
  Ĺ M A (newFunctionEnv û globals closure [] qual none .none ↑env) Q E s:=by
 simp![newFunctionEnv,Option.isSome_some,if_true];exact MX (wpAny_alloc ?_);exact MX (wpAny_layCells _ (λ name kind cells=>by cases hkc:kind == ð <;> simp[hkc]) Ø Ø ?_);rw[show ({ s with heap:=ū }:ă).heap.objs.size=Ã+1 from Á4 ..];simp![DF];show MX (Ac (Ac (hQ _ rfl)))
end PySem
namespace L2
open PySem PySem.Spec Ŵ
def v_ (pick:Č) (σ:St):St:=pick.map λ o=>o.bind λ i=>(σ[i]?).join
def yJ ŧ (N':ı) (û:Scope) (cl:ñ) (C:Addr) (s:ă) Æ2 (ex:É2):Cx:=
 { X with N:=N',s₀:=s,H₀:=H,env:=Ŋ,outer:=X.stack,stack:=X.stack,ex:=ex,fn:=λ x=>ŵ (Ĥ x=↑.cell),pn:=[],xe:=λ _ _=>ě }
def pO (N N':ı) (pick:Č) (û:Scope):Bool:=(N'.zip pick).all λ p=>match p.2 with
 | none=>true
 | some j=>ŵ (N[j]?=↑p.1)&&ŵ (Ĥ p.1=↑ À3)
structure sY ŧ (N':ı) (pick:Č) (û:Scope):Prop where
 kind:scope.kind=.function
 uniq:∀ y∈ ï,Ĥ y.1=↑y.2
 free:∀ y∈ ï,y.2=À3->æ y.1=↑.cell\/æ y.1=↑ À3
 len:pick.length=N'.length
 ok:pO X.N N' pick û=true
def pO.get {N N':ı}{pick:Č}Å6(h:pO N N' pick û=true) {i j:Nat}Ê2(h1:N'[i]?=↑x) (h2:pick[i]?=↑↑j):N[j]?=↑x/\Ĥ x=↑ À3:=by
 unfold pO at h;have hm:(x,↑j)∈N'.zip pick:=by
  exact B6 (i:=i) ?_;rw[List.getElem?_zip_eq_some];show#[h1,h2]
 have q:=AV.mp h _ hm;simp![AK,decide_eq_true_eq] at q;show q
def v_.get {pick:Č}{σ:St}{i:Nat}{v:V}(h:(Å1)[i]?=↑↑v):∃ j,pick[i]?=↑↑j/\σ[j]?=↑↑v:=by
 unfold v_ at h;rw[AQ] at h;cases e:pick[i]? with
 | none=>rw[e] at h;cases h
 | some o=>
  rw[e] at h;cases o with
  | none=>simp at h
  | some j=>
   exact#[j,rfl,?_];simp![Option.map_some,Option.some.injEq,B4] at h;cases q:σ[j]? with
   | none=>rw[q] at h;simp at h
   | some w=>rw[q] at h;simp at h;rw[h]
def PF ŧ (ifs:ż) (t:TT):Prop:=∀ ß (Q:Bool->ó),Í->t À7 Q->
 Ĺ È (forIn ifs true λ c r=>if r=true then do let ok <- isTrue c Ċ (eval c Ċ);pure (À4 ok) else pure (À4 r)) (TP ø Q) X.xe s
def Tt ĳ:PF X [] (λ _ H Q=>Q true H):=λ _ _ _ H _ I h=>wpAny_tests_nil #[H,I,h]
def Ts ĳ{c:Expr}{t:TT}(h:PT X c t):PF X [c] t:=λ FH s σ H Q I q=>wpAny_tests_one (h å Q I q)
def jX (pick:Č) (wi:TI) (g:TG) (tc:TT) (te:TE):TE:=fun σ H Q=>wi À7 λ J H1=>∀ D,H1 D=none->∃ W:Æ5,(∃ m,W 0 m (Å1) (upd H1 D (ŗ [])))/\
 Á
section
variable {ĳ}{Ó}{N':ı}{pick:Č}{Å6}{cl:ñ}{C:Addr}{fp:É2}
def MF (S:sY X N' pick û) Ż ė (Ax:∀ b∈fp,b<Ã)
  {h1:Heap}(c1:∀ x c,Å0->(É/\Ń=↑c)\/(Ã4/\C<c/\h1.IsCell c none)) (c2:∀ x,É\/Ã4->È9) (c3:∀ x y c,Å0->cl.lookup y=↑c->x=y)
  {m1:Au}{t':Nat}(hC:Ã<C) (old:∀ b o,ĕ b=↑o->h1.get? b=↑o) (Bo:h1.Ns C m1)
  (hD:h1.get? Ã=↑{ cls:=Ï,data:=.seq Ľ 0 }):
  Inv Â [] (Å1) (upd H Ã (ŗ [])) { s with heap:=h1,toks:=t' }:=by
 have hDn:H Ã=none:=ú;have hCn:H C=none:=I.zr.fresh (Bl hC);have cf:∀ x c,Å0->(∃ v,h1.IsCell c v)/\(c<Ã\/C<c)/\upd H Ã (ŗ []) c=none:=λ x c e=>by
  rcases c1 x c e with ⟨_,q⟩ | ⟨_,q1,q2⟩
  .let#[v,o,z1,z2]:=I.cell x c q;have hl:=An z1;show#[#[v,o,old Ø z1,z2],ī hl,by rw[zV (AB hl)];show I.vg x c q]
  .show#[#[_,q2],Ŏ q1,by rw[zV (BB (Ct hC q1))];show I.zr.fresh (Bl (Ct hC q1))]
 exact#[#[I.ok.mod,S.kind,I.ok.glob,I.ok.blt,Bl hC,c3,λ x hx=>?_,λ x c hf e=>?_,I.ok.hd,I.ok.frames,ī rfl,
  λ b hb=>#[AB (Ct (Ax b hb) hC),λ x c e=>?_],I.bs,Bc I.ok.tQ I.sz,λ b o e hb=>?_,λ b hb z=>?_,I.stack,I.ib],
  rfl,I.bare,Un.laid old È1 hDn,#[m1,Bo,λ i x v e1 e2 e3=>?_],λ x c e=>?_,?_,λ x c e=>?_,Á1,I.zr.laid old È1 ?_,?_]
 .show EX.mp (c2 x (bA hx))
 .have Iw:=of_decide_eq_true (show ŵ (Ĥ x=↑.cell)=true from hf);rcases c1 x c e with ⟨q,_⟩ | ⟨_,q,_⟩
  .rw[S.uniq _ q] at Iw;cases Iw
  .show Bl (Ct hC q)
 .rcases c1 x c e with ⟨_,q⟩ | ⟨_,q,_⟩
  .show (ŷ).2.2.2.2.1 x c q
  .show BB (Ct (Ct (Ax b hb) hC) q)
 .rcases (ŷ).2.2.2.1 with z | z
  .show I.ok.qy b o e z
  .show Ř (Ba (An (I.ok.bs b o e).1) z) (Cq _)
 .rcases Ao.mp (I.ia b z) with q | q
  .show (ŷ).2.1 q
  .show (ŷ).2.2.1 q
 .let#[j,p1,p2]:=v_.get e2;let#[q1,q2]:=pO.get S.ok e1 p1;let#[m0,n0,l0]:=I.loc;have hm:É:=ğ q2;have hk:æ x=↑.cell\/æ x=↑ À3:=S.free _ hm rfl;let#[u,r,l]:=l0 j x v q1 p2 (Ŏ hk);exact#[u,r,Ŏ #[Za q2,?_]];rcases l with ⟨k,_⟩ | ⟨_,c,e,z⟩
  .have k':æ x=↑.local:=k;rcases hk with hk | hk <;> (rw[k'] at hk;cases hk)
  .let#[c',e']:=EX.mp (c2 x (ī hm));have e'':Ń=↑c':=by
    rcases c1 x c' e' with ⟨_,q⟩ | ⟨q,_⟩
    .show q
    .have:=S.uniq _ q;rw[q2] at this;cases this
   rw[e] at e'';cases e'';let#[o,z1,z2]:=z;show#[c,e',o,old Ø z1,z2]
 .show (cf x c e).1
 .change upd H Ã (ŗ []) C=none;rw[zV (BB hC)];show hCn
 .show (cf x c e).2.2
 .show#[A_ _,[],0,.nil,hD]
 .change (Å1).length=N'.length;unfold v_;rw[Af];show S.len
def MC Ã7 Ż ė (hC:Ã<C)
  (I':Â2) (hoC:s'.heap.get? C=↑oC):Å2:=by
 have J:Inv ø H' s':=I.YA (ch:=fp) I'.os I'.base I'.zr I'.bare λ b hb=>#[(ŷ).2.2.2.1,(ŷ).2.1,(ŷ).2.2.2.2.1,(ŷ).2.2.2.2.2];exact J.iD λ p hp=>(Bb.mp hp).elim (λ z=>J.pin p (A8 _ z)) λ z=>?_;obtain rfl:p=(C,oC):=A4.mp z;exact#[hoC,I'.free,BB (Ct I.lt hC),I.aN (Bl hC),λ v hv=>?_];let#[m,#[o,es,ep,ho,hd,_],_]:=I'.loc;have GG:s'.heap.get? C=↑o:=ho;rw[hoC] at GG;cases GG;rw[hd] at hv;cases hv
def Zz Ã7{h':Heap}Ż (hC:Ã<C) (J:Inv X (FH++[(C,oC)]) σ' H' s') (hs:Heap.SameBut C s'.heap h'):Inv X FH σ' H' { s' with heap:=h' }:=by
 have J':=J.nE;have hp:=J.pin Å7;have lt:∀ c,c<Ã->c≠C:=λ c h=>AB (Ct h hC);exact J'.turned (t':=s'.toks) (it:=C) (λ b o hb e=>hs.extBut b o hb e) hp.2.1 hp.2.2.1 (Ŏ (Bc I.sz (Bl hC))) (λ x c e z=>?_) (λ p hq z=>?_)
 .let#[v,q]:=I.cell x c e;show lt c q.lt z
 .show lt p.1 (An (I.pin p hq).1) z
end
section
variable {ĳ}{N':ı}{pick:Č}{Å6}{elt iter tg:Expr}{ifs:ż}{Ŕ}{wi:TI}{g:TG}{tc:TT}{te:TE}
def NZ Ó{it C:Addr}Ť{W:Æ5}{Q:V->ó}{R:Result->ă->Prop}{D:Addr}
  (hc:X.calm=true) (hg:PG Â tg g) (hf:PF Â ifs tc) (he:PE Â elt te)
  Á3 ė (IP:∀ b∈fp,b≠C/\b∉xa X.stack/\∀ x c,Å0->c≠b)
  (turn:Á)
  (fin:∀ σ' H' s',Â2->Q É4 H'->R (.ok .next) s')
  {m0:Nat}{σ0:St}{H0:Hp}{s0:ă}(I0:Inv Â [] σ0 H0 s0) (t0:tn 0 s0.heap) (f0:∀ b∈fp,H0 b=none) (w0:W 0 m0 σ0 H0):
  codeAny È (.compLoop Ä 0 (Õ it) É4 (Ŋ)) R s0:=by
 have HZ:∀ {H':Hp},À6->∀ b∈fp,vS Â [] H' b:=λ hn b hb=>#[hn b hb,(IP b hb).1,(IP b hb).2.1,ī hb,(IP b hb).2.2,Á1];exact codeAny_loop rfl (λ n s'=>∃ i σ' H',Â2/\tn i s'.heap/\À6/\W i n σ' H') (λ n s3 hI=>?_) m0 #[0,σ0,H0,I0,t0,f0,w0];let#[i,σ3,H3,I3,st3,fr3,w3]:=hI;change Ĺ _ X.A ((compTurn Ä 0 (Õ it) É4 (Ŋ)).onRaise (λ x=>do noteFrame x (Ŋ);theTreesLotGoes x)) Ø s3;exact wpAny_noted ?_;rw[compTurn_list];exact MX (zaN (MX ?_));rcases turn i n σ3 H3 w3 with ⟨stop,qn⟩ | ⟨go,step⟩
 .exact zF (T.done Â rfl rfl rfl hc Ç5 stop) λ r s4 #[hr,I4]=>?_;subst hr;show Ac (fin σ3 H3 s4 I4 qn)
 .exact zF (T.item Â rfl rfl rfl hc Ç5 go) λ r s4 #[u,hr,h4]=>?_;subst hr;exact MX (zF h4 λ _ s5 #[x,H5,I5,r5,y5,st5,fr5]=>?_);have I5':=I5.pinned (HZ fr5) (T.obj Ø st5);exact MX (za6 (hg _ s5 σ3 H5 x u _ I5' r5 (step x H5 y5)) (λ _ s6 #[σ6,H6,I6,q6]=>?_) ĺ);exact MX (za6 (hf _ s6 σ6 H6 _ I6 q6) (λ ok s7 #[H7,I7,q7]=>?_) ĺ);have back:∀ {H8:Hp}{s8:ă},Inv Â ([]++nY fp s5.heap) σ6 H8 s8->(∃ m',m'<n/\W (i+1) m' σ6 H8)->∃ m,m<n/\∃ i σ' H',Inv Â [] σ' H' s8/\tn i s8.heap/\À6/\W i m σ' H':=λ{H8 s8} I8 #[m',hm,w8]=>by
   exact#[m',hm,i+1,σ6,H8,I8.nE,T.keep Ø _ st5 λ b hb o e=>(Á2).1,λ b hb=>?_,w8];let#[o,e,d]:=T.obj Ø st5 b hb;show (Á2).2.1
  cases ok with
  | ħ=>
   rw[đ BC] at q7;show Ac #[rfl,back I7 q7]
  | true=>
   rw[Ğ rfl] at q7;exact MX (MX (za6 (he _ s7 σ6 H7 _ I7 q7) (λ uy s8 #[y,H8,I8,r8,ys,m',e8,z8,hm,w8]=>?_) ĺ));exact MX (za6 (aV (X:=yJ X N' û cl C s H fp) _ s8 σ6 H8 É4 [y] É4 [uy] (λ _ H9=>W (i+1) m' σ6 H9) I8 rfl (À1 r8 .nil) #[D,ys,y,rfl,rfl,e8,z8,w8]) (λ _ s9 #[_,H9,I9,_,q9]=>?_) ĺ);show Ac (Ac #[rfl,back I9 #[m',hm,q9]])
def Zi Ó{it:Addr}Ť{Q:V->ó}{E:Ag}{RR:Ą->Addr->Result->ă->Prop}
  Ġ Ñ
  (c1:∀ x c,Å0->É/\Ń=↑c) (c2:∀ x,É->È9)
  Ż Á3 (t0:tn 0 s.heap) ė
  (rd:∀ D,H D=none->∃ W:Æ5,(∃ m,W 0 m (Å1) (upd H D (ŗ [])))/\
   Á)
  (fin:∀ C D oC H' s',Ã<C->Å2->s'.heap.get? C=↑oC->(∃ m,s'.heap.Ns C m)->Q É4 H'->RR É4 C (.ok .next) s'):
  Ĺ È (newList []) (λ acc s₃=>Ĺ È (newFunctionEnv û X.env.globals cl [] X.env.qual none .none ↑ Ċ) (λ cenv s₄=>
   codeAny È (.compStart Ä 0 (Õ it) acc { cenv with û:=relabel û Ċ }) (RR acc cenv.locals) s₄) E s₃) E s:=by
 exact zaA (N2 λ h₁ eh=>?_);dsimp only at eh ⊢;generalize hH2:Ç9 { cls:=Ï,dict:=none,data:=.seq ([]:Ad).toArray }=H2 at eh ⊢;have hC:ü=Ã+1:=by rw[<- hH2,Á4]
 have Ax:Ã<ü:=by rw[hC];show CZ _
 have up:∀ b o,H2.get? b=↑o->h₁.get? b=↑o:=λ b o e=>by rw[eh];show É3 Ø Ø (gV _ e)
 have old:∀ b o,ĕ b=↑o->h₁.get? b=↑o:=λ b o e=>up b o (hH2▸gV _ e);have A7:h₁.get? Ã=↑{ cls:=Ï,data:=.seq Ľ 0 }:=up Ø (hH2▸AW _ rfl);have hns₁:h₁.Ns ü λ _=>none:=by rw[eh];show (Heap.Ns.new H2 (ň "dict")).keeps (É3 Ø)
 let#[own,o1,o2,o3,o4]:=fj ï (H2.push { cls:=ň "dict",data:=.dict Ľ }) cl;rw[Á4] at o1 o2;rw[<- eh] at o2;rw[o1];have d1:∀ x c,Ŀ x=↑c->(É/\Ń=↑c)\/(Ã4/\ü<c/\h₁.IsCell c none):=λ x c e=>by
  rw[El] at e;cases q:Ŷ x with
  | some c'=>
   rw[q] at e;cases e;show Ŏ (o2 _ (ğ q))
  | none=>rw[q] at e;show ī (c1 x c e)
 have d2:∀ x,É\/Ã4->(Ŀ x).isSome:=λ x hx=>by
  rw[El,Option.isSome_or];rcases hx with hx | hx
  .rw[c2 x hx,CI]
  .rw[o4 x hx];rfl
 have d3:∀ x y c,Ŀ x=↑c->Ŀ y=↑c->x=y:=λ x y c e1 e2=>by
  rw[El] at e1 e2;have low:∀ x c,Å0->c<ü:=λ x c e=>by
   let#[v,q]:=I.cell x c (c1 x c e).2;show Ct q.lt Ax
  have hi:∀ x c,Ŷ x=↑c->ü<c:=λ x c e=>(o2 _ (ğ e)).2.1;cases q1:Ŷ x with
  | some c1'=>
   rw[q1] at e1;cases e1;cases q2:Ŷ y with
   | some c2'=>rw[q2] at e2;cases e2;show PySem.name_of_addr o3 (ğ q1) (ğ q2)
   | none=>rw[q2] at e2;show Ř (low y _ e2) (Nat.lt_asymm (hi x _ q1))
  | none=>
   rw[q1] at e1;cases q2:Ŷ y with
   | some c2'=>rw[q2] at e2;cases e2;show Ř (low x _ e1) (Nat.lt_asymm (hi y _ q2))
   | none=>rw[q2] at e2;show I.ok.inj x y c (c1 x c e1).2 (c1 y c e2).2
 have D0:∀ b∈fp,b<Ã:=λ b hb=>by
  let#[o,e,_]:=T.obj Ø t0 b hb;show An e
 have hDn:H Ã=none:=ú;let#[W,#[m0,w0],turn]:=rd Ã hDn;have I0:=MF (t':=È2) S I BI D0 d1 d2 d3 Ax old hns₁ A7;have t1:tn 0 h₁:=T.keep Ø _ t0 λ b _ o e=>old b o e;have AR:∀ b∈fp,b≠ ü/\b∉xa X.stack/\∀ x c,Ŀ x=↑c->c≠b:=λ b hb=>I0.ok.mH b hb |> λ q=>#[q.1,I0.ok.qJ b hb,q.2]
 have loop:codeAny È (.compLoop Ä 0 (Õ it) (Õ Ã) (compEnvC û (own++cl) ü Ċ)) (RR (Õ Ã) ü) { s with heap:=h₁ }:=by
  exact NZ (σ:=σ) hc (hg Ø Ø _) (hf Ø Ø _) (he Ø Ø _) T BI AR turn (fun σ' H' s' I' q=>?_) I0 t1 (λ b hb=>?_) w0
  .let#[m,hn,_]:=I'.loc;have HF:s'.heap.Ns ü m:=hn;let#[oC,es,ep,ho,hr]:=id HF;show fin Ø oC H' s' Ax (MC I BI Ax I' ho) ho #[m,HF] q
  .change upd H Ã (ŗ []) b=none;rw[zV (AB (D0 b hb))];show (ŷ).1
 show codeAny_compStart_list loop (T.self _ 0 Ø _ t1 loop)
def TC Ġ (hi:PI X tg iter wi) Ñ
  ĵ:PE X Ä (jX pick wi g tc te):=by
 ext é;rw[eval_ListComp];exact wpAny_comprehension_free (use:=none) ý;ext Ķ;exact Zi (RR:=λ acc C=>compPost È X.xe none (EP ø Q) acc C) S hc hg hf ő;let#[m,hn]:=hn;show#[m,hn,λ h' hs'=>#[Õ D,H',Zz I2 hC J' hs',rfl,q]]
def UJ {i:Nat}{y:Str}{py Br:Pos}Ġ (hi:PI X tg iter wi) Ñ
  (hN:X.N.Nodup) (hy:X.N[i]?=↑y) (hx:Loc X.env.scope y)
  (Cc:swapsWith Ä ↑(.Name y py) Br.line Ċ=pure true:=by rfl)
  (Cj:X.fn y=true\/æ y=↑.local:=by first | show ī rfl | show Ŏ rfl | assumption)
  ĵ:PS X (.Assign [.Name y py] Ä Br) (nI (jX pick wi g tc te) (ox i)):=by
 ext é;rw[exec_Assign_Name_used Ø Ø Cc];exact MX (zaN (MX ?_));change Ĺ _ X.A (do let _ <- comprehension Ä û Ċ _ (newList []) ħ (eval iter Ċ) ↑ ť) Ø s;exact MX (za6 (wpAny_comprehension_free (use:=↑ ť) (Q:=λ _ s'=>SP X FH Q .next s') ý) (λ _ s' hq=>Ac (Ac hq)) λ _ _ e=>e)
 ext Ķ;exact Zi (Q:=λ x H1=>ox i x σ H1 Q.nx) (RR:=λ acc C=>compPost È X.xe ↑ ť (λ _ s'=>SP X FH Q .next s') acc C) S hc hg hf ő;change Ĺ _ X.A (assign (.Name y py) Ċ É4) Ø _;exact wpAny_assign_Name (nJ J' hN hy hx (v:=Õ D) rfl (λ s3 J3=>?_) Cj);have hp:=(J3.pin Å7).1;let#[m,o,es,ep,GG,hr]:=hn;have:o=oC:=Bm (GG.symm.trans ho);subst this;show#[m,#[o,es,ep,hp,hr],λ h' hs'=>#[_,H',Zz I2 hC J3 hs',q]]
end
end L2
namespace L3
open PySem PySem.Spec L2
open Ŵ hiding St
inductive D where
 | zm | bl (b:Bool) | int (i:Int) | str (x:Str) | tup (ds:ĥ) | xN (ds:ĥ) | ref Ç4 | err (c f:Str) (d:D)
def oS à Ç4 (xs:Ō):Prop:=
 (∃ o,H a=↑(.wt o Ę))\/
  ∃ (o:Obj) (Aa:Ar) (n:Nat),ŭ a=↑o/\o.cls=Ï/\o.dict=none/\o.data=.seq Aa n/\Aa.size<=ç/\Vals xs Aa.toList
def oS.sq Ê1{H:Hp}È0 Û(h:oS Å4):zU Å4:=by
 rcases h with h | h
 .show ī (Ŏ h)
 .show Ŏ h
abbrev wH:List Ą:=[ň "ValueError",ň "Exception",ň "BaseException",ň "object"]
abbrev r9:ı:=["__getattribute__","__getattr__","__class__","__setattr__","place","pair","way","times","told","name","row"]
def rW č ű (bm:Ad) (N:Addr):Prop:=
 (∃ (q:Str) (bs:Ad) (sn:ı) (sub:Ad) (ab:Bool) (col:Ì Bool) (dd:Ž) (k0 k1 k2 k3 k5:Ì Ą),ŭ C=↑(excClassObj c q C N bs bm true sn sub ab col dd k0 k1 k2 k3 k5 "ValueError.__new__"))/\
 PySem.W.nsOkIn K N=true/\∀ n∈r9,Ć K N n=↑none
structure sh č (c:Str) (C P N NP:Addr):Prop where
 own:rW K c C (Õ P::wH) N
 par:rW K "PurseError" P wH NP
 top:Ć K Ė c=↑↑(Õ C)
 bW:Ć K Ė "PurseError"=↑↑(Õ P)
 b_:Ć K NP "__init__"=↑none
def uW č ű:Prop:=∃ P N NP,sh K c C P N NP
def ownIn č ű (bm:Ad):Ž:=match ŭ C with
 | some #[ň "type",_,.cls cd,sl]=>(match cd.mro,sl.toList with
  | Õ C'::bm',[_,_,_,_,↑(Â9 n),_]=>if C' == C&&n == "ValueError.__new__"&&!cd.hasDel&&bm' == bm&&cd.hasDict&&cd.name == c&&PySem.W.nsOkIn K cd.ns&&r9.all (λ n=>Ć K cd.ns n == ↑none) then ↑cd.ns else none
  | _,_=>none)
 | _=>none
def aq Ê1{c:Str}{C N:Addr}{bm:Ad}(h:ownIn K c C bm=↑N):rW K c C bm N:=by
 unfold ownIn at h;ext Ŭ
 .rename_i dd cd sl ho;ext Ŭ
  .rename_i C' bm' k0 k1 k2 k3 n k5 hm hs;ext Ŭ
   .rename_i hc;cases h;simp![AK,beq_iff_eq,B9,AV] at hc;let#[#[#[#[#[#[#[rfl,rfl],D4],rfl],hhd],rfl],zr],hn]:=hc;let#[nm,bs,mro,ns,qn,hd,sn,sub,ab,col,del]:=cd;dsimp only at hm D4 zr hn hhd;subst hm D4 hhd;have BE:sl=[k0,k1,k2,k3,↑(Â9 "ValueError.__new__"),k5].toArray:=by
     let#[l]:=sl;simp only at hs;rw[hs]
    subst BE;show#[#[qn,bs,sn,sub,ab,col,dd,k0,k1,k2,k3,k5,ho],zr,hn]
   .cases h
  .cases h
 .cases h
def mJ č (c:Str):Ì (Addr×Addr×Addr×Addr):=match Ć K Ė c,Ć K Ė "PurseError" with
 | some ↑(Õ C),↑↑(Õ P)=>(match ownIn K c C (Õ P::wH),ownIn K "PurseError" P wH with
  | some N,↑NP=>if Ć K NP "__init__" == ↑none then ↑(C,P,N,NP) else none
  | _,_=>none)
 | _,_=>none
def gJ Ê1{c:Str}{C P N NP:Addr}(h:mJ K c=↑(C,P,N,NP)):sh K c C P N NP:=by
 unfold mJ at h;ext Ŭ
 .rename_i h1 h2;ext Ŭ
  .rename_i h3 h4;ext Ŭ
   .rename_i h5;cases h;show#[aq h3,aq h4,h1,h2,beq_iff_eq.mp h5]
   .cases h
  .cases h
 .cases h
def vb (e C:Addr) (dx:Ž):HO:=.ext λ h=>∃ oe vs,h.get? e=↑oe/\oe.cls=Õ C/\oe.dict=dx/\oe.data=.fields vs
def Xd Æ2 (f:Str) (w:V):Ž->Prop
 | some x=>H x=↑(.xd [(f,w)])
 | none=>f=""/\w=.zm
mutual
def zj à:D->V->Prop
 | .zm,v=>v=.zm
 | .bl b,v=>v=.bl b
 | Ī i,v=>v=Ī i
 | .str x,v=>v=.str x
 | .tup ds,v=>∃ a xs,v=Õ a/\yi Å4/\ì
 | .xN ds,v=>∃ a xs,v=Õ a/\oS Å4/\ì
 | Õ a,v=>v=Õ a
 | .err c f d,v=>∃ e C dx w,v=Õ e/\(uW K c C/\H e=↑(vb e C dx)/\Xd H f w dx)/\zj Ď d w
def zo à:ĥ->Ō->Prop
 | [],xs=>xs=[]
 | d::ds,xs=>∃ x r,xs=x::r/\Ã5/\zo Ď ds r
end
structure Ext (H H':Hp):Prop where
 tup:∀ b xs,H b=↑(.tup xs)->H' b=↑(.tup xs)
 wt:∀ b o u,H b=↑(.wt o u)->H' b=↑(.wt o u)
 ext:∀ b φ,H b=↑(.ext φ)->H' b=↑(.ext φ)
 xd:∀ b fs,H b=↑(.xd fs)->H' b=↑(.xd fs)
def Ext.refl Æ2:Ext H H:=#[λ _ _ h=>h,λ _ _ _ h=>h,λ _ _ h=>h,λ _ _ h=>h]
def Ext.trans {H H1 H2:Hp}(a:Ext H H1) (b:Ext H1 H2):Ext H H2:=#[λ c xs h=>b.tup c xs (a.tup c xs h),λ c o u h=>b.wt c o u (a.wt c o u h),λ c u h=>b.ext c u (a.ext c u h),λ c u h=>b.xd c u (a.xd c u h)]
def Ext.new {H:Hp}ś(h:H p=none) (o:HO):Ext H (upd H p o):=
 #[λ b xs q=>Ĝ,λ b ob u q=>Ĝ,λ b u q=>Ĝ,λ b u q=>Ĝ]
theorem Ext.lst {H:Hp}ś Û(h:H p=↑ Ę) (o:HO):Ext H (upd H p o):=
 #[λ b ys q=>Þ,λ b ob u q=>Þ,λ b u q=>Þ,λ b u q=>Þ]
def Ext.lT ò È0 Û â (h:yi Å4):yi ſ a xs:=by
 rcases h with (h | ⟨o,h⟩) | h
 .show ī (ī (e.tup Ø h))
 .show ī (Ŏ #[o,e.wt Ø _ h])
 .show Ŏ h
def Ext.lU ò È0 Û â (h:oS Å4):oS ſ a xs:=by
 rcases h with ⟨o,h⟩ | h
 .show ī #[o,e.wt Ø _ h]
 .show Ŏ h
section
variable {ò}
def Xd.ext {H H':Hp}{f:Str}{w:V}{dx:Ž}(h:Xd H f w dx) â:Xd H' f w dx:=by
 cases dx with
 | none=>show h
 | some x=>show e.xd Ø h
mutual
theorem zj.ext â:∀ (d:D) {v:V},zj Ď d v->zj ſ d v
 | .zm,v,h=>ć
 | .bl b,v,h=>ć
 | Ī i,v,h=>ć
 | .str x,v,h=>ć
 | Õ a,v,h=>ć
 | .err c f d,v,h=>by
  simp![zj] at h ⊢;let#[a,C,dx,w,h1,#[h2,h3,h4],h5]:=h;show#[a,C,dx,w,h1,#[h2,e.ext Ø h3,h4.ext e],zj.ext e d h5]
 | .tup ds,v,h=>by
  ext À0;show#[a,xs,h1,e.lT h2,zo.ext e ds h3]
 | .xN ds,v,h=>by
  ext À0;show#[a,xs,h1,e.lU h2,zo.ext e ds h3]
theorem zo.ext â:∀ (ds:ĥ) Û,ì->zo ſ ds xs
 | [],xs,h=>by simpa only [zo] using h
 | d::ds,xs,h=>by
  simp![zo] at h ⊢;ext þ;show#[x,r,h1,zj.ext e d h2,zo.ext e ds h3]
end
theorem zo.length:∀ {ds:ĥ}Û,ì->ds.length=Ê
 | [],xs,h=>by ext Ç6;subst h;rfl
 | d::ds,xs,h=>by
  ext Ç6;let#[x,r,h1,_,h3]:=h;subst h1;simp[zo.length h3]
theorem zo.get:∀ {ds:ĥ}Û{i:Nat}{d:D},ì->ds[i]?=↑d->∃ x,xs[i]?=↑x/\Ã5
 | [],_,i,d,_,e=>by simp at e
 | c::ds,xs,i,d,h,e=>by
  ext Ç6;ext þ;subst h1;cases i with
  | zero=>simp at e;subst e;show#[x,rfl,h2]
  | succ i=>
   let#[y,e1,e2]:=zo.get (i:=i) h3 (by exists e);show#[y,by simpa using e1,e2]
theorem zo.append:∀ {ds es:ĥ}{xs ys:Ō},ì->zo Ď es ys->zo Ď (ds++es) (xs++ys)
 | [],es,xs,ys,h,h'=>by ext Ç6;subst h;exists h'
 | d::ds,es,xs,ys,h,h'=>by
  ext Ç6;ext þ;subst h1;change zo Ď (d::(ds++es)) (x::(r++ys));simp![zo];show#[x,r++ys,rfl,h2,zo.append h3 h']
def zo.nil:zo Ď [] []:=by simp![zo]
def zo.cons {d:D}{ds:ĥ}{x:V}Û(h:Ã5) (h':ì):zo Ď (d::ds) (x::xs):=by
 simp![zo];show#[x,xs,rfl,h,h']
def zo.snoc {d:D}{ds:ĥ}{x:V}Û(h':ì) (h:Ã5):zo Ď (ds++[d]) (xs++[x]):=h'.append (À1 h .nil)
theorem zo.ints:∀ {ns:Ű}Û,zo Ď (È7 D.int) xs->xs=È7 V.int
 | [],xs,h=>É5
 | n::ns,xs,h=>by
  ext À8;rw[AJ,zo.ints h3]
theorem zo.iT:∀ (ns:Ű),zo Ď (È7 D.int) Ĕ
 | []=>.nil
 | n::ns=>À1 (Ö) (zo.iT ns)
theorem zo.bools:∀ {ns:List Bool}Û,zo Ď (È7 D.bl) xs->xs=È7 V.bl
 | [],xs,h=>É5
 | n::ns,xs,h=>by
  ext À8;rw[AJ,zo.bools h3]
end
inductive O where
 | lst (ds:ĥ)
 | yP (Aq:List (Key×D))
 | obj (c:Str) (fs:List (Str×D))
abbrev SS:=Addr->Ì O
def jq à:List (Key×D)->List (Key×V)->Prop:=Á5
def jr à:List (Str×D)->List (Str×V)->Prop:=Á5
def J1 č ű:Prop:=Ć K Ė c=↑↑(Õ C)
def qS à Ç4:O->Prop
 | ŗ ds=>∃ xs,H a=↑ Ę/\ì
 | .yP Aq=>∃ vs,H a=↑(.dK vs)/\jq Ď Aq vs
 | .obj c fs=>∃ C dx vs,J1 K c C/\H a=↑(.ins C dx vs)/\jr Ď fs vs
def zK à (S:SS):Prop:=∀ a o,S a=↑o->qS Ď a o
def ups (S:SS) Ç4 (o:O):SS:=λ b=>if b=a then ↑o else S b
def rj ũ È0{o:O}:ups S a o a=↑o:=by unfold ups;rw[Ğ rfl]
def uZ ũ{a b:Addr}{o:O}(h:b≠a):ups S a o b=S b:=by unfold ups;rw[đ h]
def Sx (S S':SS):Prop:=∀ b o,S b=↑o->S' b=↑o
def Sx.refl (S:SS):Sx S S:=λ _ _ h=>h
def Sx.trans {S S1 S2:SS}(a:Sx S S1) (b:Sx S1 S2):Sx S S2:=λ c o h=>b c o (a c o h)
def Sx.new ũ ś(h:S p=none) (o:O):Sx S (ups S p o):=λ b u q=>by
 rw[uZ (by intro z;subst z;rw[h] at q;cases q)];show q
theorem Sx.none {S S':SS}(e:Sx S S') ś(h:S' p=Â3):S p=Â3:=by
 cases q:S p with
 | none=>rfl
 | some o=>rw[e p o q] at h;cases h
section
variable {ò}{ũ}
def qS.has È0{o:O}(h:qS Ď a o):H a≠none:=by
 cases o with
 | lst ds=>let#[xs,h,_]:=h;rw[h];simp
 | yP Aq=>let#[xs,h,_]:=h;rw[h];simp
 | obj c fs=>let#[C,dx,vs,_,h,_]:=h;rw[h];simp
theorem zK.none (r:ŏ) ś(h:H p=Â3):S p=Â3:=by
 cases q:S p with
 | none=>rfl
 | some o=>show Ř h (r p o q).has
theorem jq.ext â {Aq:List (Key×D)}{vs:List (Key×V)}(h:jq Ď Aq vs):jq ſ Aq vs:=
 Ŧ
theorem jr.ext â {fs:List (Str×D)}{vs:List (Str×V)}(h:jr Ď fs vs):jr ſ fs vs:=
 Ŧ
def qS.keep È0{o:O}â (k:∀ u,H a=↑u->H' a=↑u) (h:qS Ď a o):qS ſ a o:=by
 cases o with
 | lst ds=>let#[xs,h1,h2]:=h;show#[xs,k _ h1,zo.ext e ds h2]
 | yP Aq=>let#[xs,h1,h2]:=h;show#[xs,k _ h1,h2.ext e]
 | obj c fs=>let#[C,dx,vs,h0,h1,h2]:=h;show#[C,dx,vs,h0,k _ h1,h2.ext e]
theorem zK.keep â (k:∀ a u o,S a=↑o->H a=↑u->H' a=↑u) (r:ŏ):zK ſ S:=λ a o h=>(r a o h).keep e λ u q=>k a u o h q
def zK.same (e:oU H H') (r:ŏ):zK ſ S:=r.keep #[λ b xs q=>e Ø q,λ b o u q=>e Ø q,λ b u q=>e Ø q,λ b u q=>e Ø q] λ a u _ _ q=>e a u q
theorem zK.new ś{u:HO}(hp:H p=Â3) (r:ŏ):zK K É6 S:=
 r.keep (Ext.new hp u) λ a v o _ q=>by rw[zV (xO q hp)];show q
theorem zK.ups ś{u:HO}{o:O}(e:Ext H É6) (hn:qS K É6 p o) (r:ŏ):zK K É6 (ups S p o):=λ a o' h=>by
 by_cases ha:a=p
 .subst ha;rw[rj] at h;cases h;show hn
 .rw[uZ ha] at h;show (r a o' h).keep e λ v q=>by rw[zV ha];show q
end
abbrev yt:=List (Ì D)
def yF à (Y:yt) (σ:St):Prop:=Y.length=σ.length/\∀ É8 (d:D),Y[i]?=↑↑d->∃ v,σ[i]?=↑↑v/\zj Ď d v
theorem yF.ext ò{Y:yt}{σ:St}â (r:Ÿ):yF ſ Y σ:=#[r.1,λ i d h=>by
 let#[v,h1,h2]:=r.2 i d h;show#[v,h1,zj.ext e d h2]]
theorem yF.set Ê1{H:Hp}{Y:yt}{σ:St}É8 {d:D}{v:V}(r:Ÿ) (h:zj Ď d v):yF Ď (Y.set i ↑d) (σ.set i ↑v):=by
 exact#[by rw[BZ,BZ];show r.1,λ j c hc=>?_];rw[Dh] at hc ⊢;by_cases hj:i=j
 .subst hj;rw[Ğ rfl] at hc ⊢;by_cases hl:i < Y.length
  .rw[Ğ hl] at hc;rw[Ğ (by rw[<- r.1];show hl)];cases hc;show#[v,rfl,h]
  .rw[đ hl] at hc;cases hc
 .rw[đ hj] at hc ⊢;show r.2 j c hc
abbrev DK:=D->ģ
abbrev zu:=yt->SS->DK->Prop
abbrev yM:=yt->SS->(Ç1)->Prop
abbrev ym:=yt->SS->(ĥ->ģ)->Prop
def y9 (t:zu):Prop:=∀ Y S (Q Q':DK),Ă
def vk (t:yM):Prop:=∀ Y S (Q Q':Ç1),Ă
def tY (t:ym):Prop:=∀ Y S (Q Q':ĥ->ģ),Ă
def xZ à (Q:VK):DK:=λ d S'=>∀ v H',zj ſ d v->ņ
def mO à (Q:Bool->ó):Ç1:=λ b S'=>∀ H',Ç2->zK ſ S'->Q b H'
def LY à (Q:Ō->ó):ĥ->ģ:=λ ds S'=>∀ vs H',zo ſ ds vs->Ç2->zK ſ S'->Q vs H'
def xQ à (Q:St->ó):yt->ģ:=fun Y S'=>∀ σ H',yF ſ Y σ->Ç2->zK ſ S'->Q σ H'
def xZ.ext ò{Q:VK}â {d:D}ũ(h:xZ Ď Q d S):xZ ſ Q d S:=Á6
def mO.ext ò{Q:Bool->ó}â {d:Bool}ũ(h:mO Ď Q d S):mO ſ Q d S:=λ H2 x q=>h H2 (e.trans x) q
def xQ.ext ò{Q:St->ó}â {d:yt}ũ(h:xQ Ď Q d S):xQ ſ Q d S:=Á6
def yb č (t:zu):TE:=fun σ H Q=>∃ Y S,Ÿ/\ŏ/\t Y S (xZ Ď Q)
def w9 č (t:yM):TT:=fun σ H Q=>∃ Y S,Ÿ/\ŏ/\t Y S (mO Ď Q)
def xW č (t:ym):TA:=fun σ H Q=>∃ Y S,Ÿ/\ŏ/\t Y S (LY Ď Q)
structure PD ŧ (e:Expr) (t:zu):Prop where
 mo:y9 t
 pe:PE X e (yb X.K t)
structure xF ŧ (e:Expr) (t:yM):Prop where
 mo:vk t
 pt:PT X e (w9 X.K t)
structure xc ŧ (es:ż) (t:ym):Prop where
 mo:tY t
 pa:PA X es (xW X.K t)
def Ź ĳ Ã8{t t':TE}(h:PE X e t) õ:PE X e t':=λ FH s σ H Q I q=>h Œ
def PT.imp ĳ Ã8{t t':TT}(h:PT X e t) õ:PT X e t':=λ FH s σ H Q I q=>h Œ
def PA.imp ĳ{e:ż}{t t':TA}(h:PA X e t) õ:PA X e t':=λ pos FH s σ H Q I q=>h pos Œ
def PS.imp ĳ{e:Stmt}{t t':TS}(h:PS X e t) Ä1:PS X e t':=À5
def wa.imp ĳ{e:List Stmt}{t t':TS}(h:wa X e t) Ä1:wa X e t':=À5
section
variable {ĳ}{Ê1}
def yb.go {t:zu}Ŝ{Q:VK}{Y:yt}ũ{R:DK}(mo:y9 t) Ĉ (k:∀ d S' v H',R d S'->zj ſ d v->ņ):yb K t À7 Q:=
 ď
def w9.go {t:yM}Ŝ{Q:Bool->ó}{Y:yt}ũ{R:Ç1}(mo:vk t) Ĉ (k:∀ d S' H',R d S'->Ç2->zK ſ S'->Q d H'):w9 K t À7 Q:=
 #[Y,S,r1,r2,mo Ň (λ d S' q H' b c=>k d S' H' q b c) h]
def xW.go {t:ym}Ŝ{Q:Ō->ó}{Y:yt}ũ{R:ĥ->ģ}(mo:tY t) Ĉ (k:∀ d S' v H',R d S'->zo ſ d v->ņ):xW K t À7 Q:=
 ď
def xb É8:zu:=fun Y S Q=>match Y[i]? with
 | some ↑d=>Q d S
 | _=>ě
def dC (d:D):zu:=λ _ S Q=>Q d S
def Rq É8 Ê2 Ŕ(h:PE X (.Name x pos) (nF i)):PD X (.Name x pos) (xb i):=by
 exact#[fun Y S Q Q' hq h=>?_,Ź h Ü]
 .unfold xb at h ⊢;ext Ŭ
  .show Ţ
  .show h
 .ext ÿ;unfold xb at h;ext Ŭ
  .rename_i d e;let#[v,h1,h2]:=r1.2 i d e;show#[v,h1,h v H h2 Æ0 r2]
  .show İ
def dC.mo (d:D):y9 (dC d):=λ _ _ _ _ hq h=>Ţ
def pR Ã8{d:D}{v:V}(h:PE X e (tC v)) (r:∀ H,zj X.K H d v):PD X e (dC d):=
 #[dC.mo d,Ź h λ _ H _ #[_,_,_,r2,h]=>h v H (r H) Æ0 r2]
def RX {i j pos}:PD X (.Constant (Ī i) j pos) (dC (Ī i)):=pR TH λ _=>Ö
def Qk {i j pos}:PD X (.Constant (.bool i) j pos) (dC (.bl i)):=pR TN λ _=>Ö
def R7 {j pos}:PD X (.Constant .none j pos) (dC .zm):=pR T9 λ _=>Ö
def Rv {x j pos}:PD X (.Constant (.str x) j pos) (dC (.str x)):=pR Tz λ _=>Ö
abbrev yR:=D->D->SS->DK->Prop
def xx (f:yR):Prop:=∀ x y S (Q Q':DK),(∀ d S',Q d S'->Q' d S')->f x y S Q->f x y S Q'
def xt č (f:yR) (r:R2):Prop:=∀ x y d e H S Q,Ã5->zj Ď e y->ŏ->f d e S (xZ Ď Q)->r x y H Q
def yB (f:yR) (ta tb:zu):zu:=fun Y S Q=>ta Y S λ x S1=>tb Y S1 λ y S2=>f x y S2 Q
def yB.mo {f:yR}{ta tb:zu}(hf:xx f) ļ:y9 É7:=fun Y S Q Q' hq h=>
 ha Ň (λ x S1 h=>hb Y S1 Ø (λ y S2 h=>hf x y S2 Ø hq h) h) h
def lK Ū(hr:xt K f r) (hf:xx f) ļ Ŝ{Q:VK}(h:yb K É7 À7 Q):nG r (yb K ta) (yb K tb) À7 Q:=by
 let#[Y,S,r1,r2,h]:=h;exact yb.go ha Å8;exact yb.go hb Ä2 h1 λ y S2 w H2 h2 q2 e2 p2=>?_;show hr v w x y H2 S2 Q (zj.ext e2 x q1) q2 p2 (hf x y S2 Ø (λ d S' z=>z.ext Ã6) h2)
def rp {a b:Expr}{op:Operator}Ŕ Ū(ho:yp X (binaryOp op) r) (hr:xt X.K f r) (hf:xx f) Ë:PD X (.BinOp a op b pos) É7:=
 #[yB.mo hf ë,Ź (T5 ho ų) λ _ _ _ h=>lK hr hf ë h]
def n_ ê Ë (hm:behindInMarks op b=ħ):PD X (.Compare a [op] [b] pos) É7:=
 #[yB.mo hf ë,Ź (TJ ho ų hm) λ _ _ _ h=>lK hr hf ë h]
def vQ (t:zu):yM:=fun Y S Q=>t Y S λ x S1=>match x with
 | .bl b=>Q b S1
 | _=>ě
def vQ.mo {t:zu}(h:y9 t):vk (vQ t):=fun Y S Q Q' hq q=>h Ň (λ d S' z=>by
 cases d <;> first
  | show hq Ø z
  | show z) q
def pQ ê Ë (hm:behindInMarks op b=ħ):xF X (.Compare a [op] [b] pos) (vQ É7):=by
 exact#[vQ.mo (yB.mo hf ë),PT.imp (UD ho ų hm) fun σ H Q h=>?_];let#[Y,S,r1,r2,h]:=h;exact lK hr hf ë #[Y,S,r1,r2,yB.mo hf ë Ň (λ d S' z v H' a b c=>?_) h];cases d with
 | bl k=>simp![zj] at a;show#[k,a,z H' b c]
 | _=>show z.elim
def fI (C:Int->Int->Prop) (g:Â4):yR:=λ x y S Q=>match x,y with
 | Ī i,Ī j=>C i j/\Q (g i j) S
 | _,_=>ě
def fI.mo {C:Int->Int->Prop}{g:Â4}:xx (fI C g):=λ x y S Q Q' hq h=>by
 unfold fI at h ⊢;ext Ŭ
 .show#[h.1,hq Ø h.2]
 .show İ
def xP (g:Â4):yR:=λ x y S Q=>match x,y with
 | Ī i,Ī j=>Q (g i j) S
 | _,_=>ě
def xP.mo {g:Â4}:xx (xP g):=λ x y S Q Q' hq h=>by
 unfold xP at h ⊢;ext Ŭ
 .show Ţ
 .show İ
def fI.fits {C:Int->Int->Prop}ġ:xt K (fI C g) (rI C g'):=λ x y d e H S Q h1 h2 h3 h=>by
 unfold fI at h;ext Ŭ
 .ext Ä4;show#[_,_,h1,h2,h.1,h.2 _ H (hg Ø H) Æ0 h3]
 .show İ
def xP.fits ġ:xt K (xP g) (vJ g'):=λ x y d e H S Q h1 h2 h3 h=>by
 unfold xP at h;ext Ŭ
 .ext Ä4;show#[_,_,h1,h2,h _ H (hg Ø H) Æ0 h3]
 .show İ
variable {a b:Expr}{ta tb:zu}{Ŕ}
def Ru Ë:PD X (.BinOp a .Sub b pos) (yB (xP λ i j=>Ī (i-j)) Ũ):=rp Q3 (Â5) xP.mo ha hb
def RC Ë:PD X (.BinOp a .Mod b pos) (yB (fI (λ _ j=>0<j) λ i j=>Ī (i%j)) Ũ):=rp QC ķ
def Qf Ë:PD X (.BinOp a .FloorDiv b pos) (yB (fI xJ λ i j=>Ī (i/j)) Ũ):=rp QI ķ
def R0 Ë:PD X (.BinOp a .Pow b pos) (yB (fI qe λ i j=>Ī (i ^ j.toNat)) Ũ):=rp Q4 ķ
abbrev gH:yR:=xP λ i j=>.bl (ŵ (i<=j))
abbrev gI:yR:=xP λ i j=>.bl (ŵ (j<i))
def fit_le:xt K gH (vJ λ i j=>.bl (ŵ (i<=j))):=Â5
def L7:xt K gI (vJ λ i j=>.bl (ŵ (j<i))):=Â5
def RO Ë:PD X (.Compare a [.LtE] [b] pos) (yB gH Ũ):=n_ mh fit_le xP.mo ha hb (tE _)
def Sy Ë:xF X (.Compare a [.Gt] [b] pos) (vQ (yB gI Ũ)):=pQ QG L7 xP.mo ha hb (tE _)
end
section
variable {ĳ}{Ê1}{a b c:Expr}{ta tb:zu}{Ŕ}
def mW (ta tb:zu):zu:=fun Y S Q=>ta Y S λ x S1=>match x with
 | .bl k=>if k=true then tb Y S1 Q else Q (.bl ħ) S1
 | _=>ě
def mS (ta tb:zu):zu:=fun Y S Q=>ta Y S λ x S1=>match x with
 | .bl k=>if k=true then Q (.bl true) S1 else tb Y S1 Q
 | _=>ě
def mT (ta:zu):zu:=fun Y S Q=>ta Y S λ x S1=>match x with
 | .bl k=>Q (.bl (!k)) S1
 | _=>ě
def wD {c:Prop} [Decidable c] {A B A' B':Prop}(h1:A->A') (h2:B->B') (h:if c then A else B):if c then A' else B':=by
 by_cases q:c
 .rw[Ğ q] at h ⊢;show h1 h
 .rw[đ q] at h ⊢;show h2 h
def mW.mo ļ:y9 (mW Ũ):=fun Y S Q Q' hq h=>ha Ň (λ x S1 z=>by
 cases x <;> first
  | show wD (hb Y S1 Ø hq) (hq Ø) z
  | show z) h
def mS.mo ļ:y9 (mS Ũ):=fun Y S Q Q' hq h=>ha Ň (λ x S1 z=>by
 cases x <;> first
  | show wD (hq Ø) (hb Y S1 Ø hq) z
  | show z) h
def mT.mo (ha:y9 ta):y9 (mT ta):=fun Y S Q Q' hq h=>ha Ň (λ x S1 z=>by
 cases x <;> first
  | show hq Ø z
  | show z) h
def R5 {op} {t:zu}(h:PD X a t):PD X (Ő op [a] pos) t:=#[h.mo,T6 h.pe]
variable {FJ:ż}
theorem Qm ŝ (hb:PD X (Ő .And (b::FJ) pos) tb):PD X (Ő .And Ä3) (mW Ũ):=by
 exact#[mW.mo ë,Ź (TQ ų) Ü];ext Å;cases x with
 | bl k=>
  ext ŕ
  .show ĉ
  .show z _ H1 (Ö) e1 p1
 | _=>show h1.elim
theorem R4 ŝ (hb:PD X (Ő .Or (b::FJ) pos) tb):PD X (Ő .Or Ä3) (mS Ũ):=by
 exact#[mS.mo ë,Ź (T4 ų) Ü];ext Å;cases x with
 | bl k=>
  ext ŕ
  .show z _ H1 (Ö) e1 p1
  .show ĉ
 | _=>show h1.elim
theorem R6 ŝ:PD X (.UnaryOp .Not a pos) (mT ta):=by
 exact#[mT.mo ha.mo,Ź (T7 ha.pe) Ü];ext Å;cases x with
 | bl k=>
  simp![zj] at q1;show#[k,q1,h1 _ H1 (Ö) e1 p1]
 | _=>show h1.elim
def mM (t u:yM):yM:=fun Y S Q=>t Y S λ k S1=>if k=true then u Y S1 Q else Q ħ S1
def mK (t u:yM):yM:=fun Y S Q=>t Y S λ k S1=>if k=true then Q true S1 else u Y S1 Q
def mL (t:yM):yM:=fun Y S Q=>t Y S λ k S1=>Q (!k) S1
variable {t u:yM}
def mM.mo (h:vk t) (h':vk u):vk (mM t u):=fun Y S _ _ hq z=>h Ň (λ k S1 z=>wD (h' Y S1 Ø hq) (hq Ø) z) z
def mK.mo (h:vk t) (h':vk u):vk (mK t u):=fun Y S _ _ hq z=>h Ň (λ k S1 z=>wD (hq Ø) (h' Y S1 Ø hq) z) z
def mL.mo (h:vk t):vk (mL t):=fun Y S _ _ hq z=>h Ň (λ k S1 z=>hq Ø z) z
structure sU ŧ (e:Expr) (t:yM):Prop where
 mo:vk t
 pw:PW X e (w9 X.K t)
def PW.imp Ã8{t t':TT}(h:PW X e t) õ:PW X e t':=λ whole FH s σ H Q I q=>h whole Œ
theorem sU.pt Ã8{t:yM}(h:sU X e t):xF X e t:=#[h.mo,PW.pt h.pw]
def Sk (h:xF X a t):sU X (Ő .And [a] pos) t:=#[h.mo,U8 h.pt]
def Sj (h:xF X a t):sU X (Ő .Or [a] pos) t:=#[h.mo,U6 h.pt]
def aj (ha:xF X a t) (hb:sU X (Ő .And (b::FJ) pos) u):sU X (Ő .And Ä3) (mM t u):=by
 exact#[mM.mo ë,PW.imp (U9 ha.pt hb.pw) Ü];ext ÿ;exact w9.go ha.mo r1 r2 h λ k S1 H1 h1 e1 p1=>wD È3 (λ z=>z H1 e1 p1) h1;show ĝ
def ai (ha:xF X a t) (hb:sU X (Ő .Or (b::FJ) pos) u):sU X (Ő .Or Ä3) (mK t u):=by
 exact#[mK.mo ë,PW.imp (U7 ha.pt hb.pw) Ü];ext ÿ;exact w9.go ha.mo r1 r2 h λ k S1 H1 h1 e1 p1=>wD (λ z=>z H1 e1 p1) È3 h1;show ĝ
def Sq (ha:xF X a t):xF X (.UnaryOp .Not a pos) (mL t):=by
 exact#[mL.mo ha.mo,PT.imp (UC ha.pt) Ü];ext ÿ;show w9.go ha.mo r1 r2 h λ k S1 H1 h1 e1 p1=>h1 H1 e1 p1
def vG (d:D) (S:SS) (Q:Ç1):Prop:=match d with
 | .zm=>Q ħ S
 | .bl k=>Q k S
 | Ī i=>Q (i != 0) S
 | .str x=>x.length<=ç/\Q ((x.length:Int) != 0) S
 | .tup ds=>Å3
 | .xN ds=>Å3
 | Õ p=>match S p with
  | some (ŗ ds)=>Å3
  | some (.yP Aq)=>Q (!Aq.isEmpty) S
  | _=>ě
 | .err Ø _=>ě
def Yi (ta:zu):yM:=fun Y S Q=>ta Y S λ x S1=>vG x S1 Q
def vG.mo {d:D}ũ{Q Q':Ç1}(hq:∀ k S',Q k S'->Q' k S') (h:vG d S Q):vG d S Q':=by
 cases d with
 | str x=>show#[h.1,hq Ø h.2]
 | err _ _ _=>show İ
 | ref p=>
  unfold vG at h ⊢;dsimp only at h ⊢;ext Ŭ
  .show Ţ
  .show Ţ
  .show h
 | _=>show Ţ
theorem zo.isEmpty {H:Hp}{ds:ĥ}Û(h:ì):ds.isEmpty=xs.isEmpty:=by
 have:=h.length;cases ds <;> cases xs <;> simp_all
def Jg {α β:Type}{F:α->β->Prop}{xs:List α}{ys:List β}(h:Paired F xs ys):xs.isEmpty=ys.isEmpty:=by cases h <;> rfl
def vG.fits {H:Hp}{d:D}{v:V}ũ{Q:Bool->ó}(r:zj Ď d v) (p:ŏ) (h:vG d S (mO Ď Q)):∃ k,ez K v H k/\Q k H:=by
 cases d with
 | zm=>ext ŀ;show#[ħ,rfl,ċ]
 | bl k=>ext ŀ;show#[k,rfl,ċ]
 | int i=>ext ŀ;show#[_,rfl,ċ]
 | str x=>ext ŀ;show#[_,#[h.1,rfl],h.2 H (.refl H) p]
 | err _ _ _=>show İ
 | tup ds=>
  ext Ã2;show#[_,Ŏ (ī #[xs,r1,Æ6]),ċ]
 | xN ds=>
  ext Ã2;show#[_,ī #[xs,r1.sq,Æ6],ċ]
 | ref a=>
  ext ŀ;unfold vG at h;dsimp only at h;ext Ŭ
  .rename_i ds e;let#[xs,e1,r2]:=p a _ e;show#[_,ī #[xs,zU.of e1,Æ6],ċ]
  .rename_i Aq e;let#[xs,e1,r2]:=p a _ e;show#[_,Ŏ (Ŏ #[xs,e1,by rw[Jg r2]]),ċ]
  .show İ
def So ŝ (he:∀ whole,isTrue a Ċ whole=(do let v <- whole;standAt a.pos;holding [v] (truthy v))):xF X a (Yi ta):=by
 exact#[fun Y S Q Q' hq h=>ha.mo Ň (λ x S1 z=>vG.mo hq z) h,PT.imp (UB ha.pe he) Ü];ext Å;show vG.fits q1 p1 (vG.mo (λ k S' z=>z.ext e1) h1)
def gU:ym:=λ _ S Q=>Q [] S
def oA (te:zu) (tr:ym):ym:=fun Y S Q=>te Y S λ x S1=>tr Y S1 λ xs S2=>Q (x::xs) S2
variable {Ã8}{es:ż}{te:zu}{tA:ym}
def oA.mo (h:y9 te) (h':tY tA):tY (oA te tA):=fun Y S _ _ hq z=>h Ň (λ x S1 z=>h' Y S1 Ø (λ xs S2 z=>hq Ø z) z) z
def Ro:xc X [] gU:=#[λ _ _ _ _ hq h=>Ţ,PA.imp tB fun σ H Q #[_,_,_,r2,h]=>h [] H .nil (.refl H) r2]
def Rp (ha:PD X e te) (hr:xc X es tA) (hs:Az X e es):xc X (e::es) (oA te tA):=by
 exact#[oA.mo ha.mo hr.mo,PA.imp (ud ha.pe hr.pa hs) Ü];ext Å;exact xW.go hr.mo Ä2 h1 λ xs S2 w H2 h2 q2 e2 p2=>?_;show h2 (v::w) H2 (À1 (zj.ext e2 x q1) q2) Ã6 p2
def Yr (t:ym):zu:=fun Y S Q=>t Y S λ ds S1=>ds.length<=ç/\Q (.tup ds) S1
def Yu (t:ym):zu:=fun Y S Q=>t Y S λ ds S1=>ds.length<=ç/\∀ p,S1 p=none->Q (Õ p) (ups S1 p (ŗ ds))
def Rt {k} (h:xc X es tA):PD X (.Tuple es k pos) (Yr tA):=by
 exact#[fun Y S _ _ hq z=>h.mo Ň (λ ds S1 z=>#[z.1,hq Ø z.2]) z,Ź (Tx h.pa) Ü];ext ã;exact h1.2 Ø ?_ (e1.trans Â6) (p1.new hp);simp![zj];show#[p,xs,rfl,yi.of yr,zo.ext Â6 ds q1]
theorem RJ (h:xc X es tA):PD X (.List es pos) (Yu tA):=by
 exact#[fun Y S _ _ hq z=>h.mo Ň (λ ds S1 z=>#[z.1,λ p hp=>hq Ø (z.2 p hp)]) z,Ź (TB h.pa) Ü];ext ã;exact h1.2 p (p1.none hp) Ø (Ö) (e1.trans Â6) ?_;show p1.ups Â6 #[xs,yr,zo.ext Â6 ds q1]
def wG:yR:=λ x y S Q=>match x,y with
 | .tup ds,Ī i=>match ya ds i with
  | some d=>Q d S
  | none=>ě
 | .xN ds,Ī i=>match ya ds i with
  | some d=>Q d S
  | none=>ě
 | Õ p,Ī i=>match S p with
  | some (ŗ ds)=>match ya ds i with
   | some d=>Q d S
   | none=>ě
  | _=>ě
 | _,_=>ě
def wG.mo:xx wG:=λ x y S Q Q' hq h=>by
 unfold wG at h ⊢;ext Ŭ
 .skip
  ext Ŭ
  .show Ţ
  .show h
 .skip
  ext Ŭ
  .show Ţ
  .show h
 .skip
  ext Ŭ
  .skip
   ext Ŭ
   .show Ţ
   .show h
  .show İ
 .show İ
theorem zo.ya {H:Hp}{ds:ĥ}Û{i:Int}{d:D}(h:ì) (e:L2.ya ds i=↑d):∃ x,L2.ya xs i=↑x/\Ã5:=by
 unfold L2.ya at e ⊢;rw[h.length] at e;cases q:wC Ê i with
 | none=>rw[q] at e;cases e
 | some j=>
  rw[q] at e;show h.get e
def wG.fits:xt K wG (bN K):=λ x y d e H S Q h1 h2 h3 h=>by
 unfold wG at h;ext Ŭ
 .ext Ŭ
  .ext Đ;show Ŏ (ī #[a,xs,_,x',rfl,h2,r1,e1,ź])
  .show İ
 .ext Ŭ
  .ext Đ;show ī #[a,xs,_,x',rfl,h2,r1.sq,e1,ź]
  .show İ
 .ext Ŭ
  .rename_i q0;ext Ŭ
   .rename_i q;ext Ä4;subst h1;let#[xs,r1,r2]:=h3 Ø q0;let#[x',e1,e2]:=r2.ya q;show ī #[_,xs,_,x',rfl,h2,zU.of r1,e1,ź]
   .show İ
  .show İ
 .show İ
def RP Ë (hs:Xf b):PD X (.Subscript a b pos) (yB wG Ũ):=
 #[yB.mo wG.mo ë,Ź (TF Mz ų hs) λ _ _ _ h=>lK wG.fits wG.mo ë h]
abbrev xE:=ĥ->SS->DK->Prop
)
example:=`(
example À _:=x ‹_› hA
example š:=List D
example Ö{ds:š}:=0
example Ą:=List T
example Á{ts:Ą}Ö:=0
example Â(I:Inv X FH σ H s):=0
example Ã:=by simp![zp] at h;let#[c,cs,rfl,h1,h2]:=h
example Ä:=by let#[Y,S,r1,r2,z]:=hu
example Å _:=x _ _
example Æ:=p.getD
example ù:=List Int
example Ç:=List (ù)
example È:=zp S ts ds
example É:=by let#[_,_,q,g]:=h2.rS p r2;cases q
example Ê _:=x ⋯ ⋯
example Ë:=Array Nat
example Å6{k:Nat}:=0
example Ì Å6(hr:yo k X.A) (ha:PD X a ta) (hb:PD X b tb):=0
example Ã6:=(by change X.A.units+1+_<_;lia)
example Í _:=x (λ y hy=>YZ I a3 a6 g2 w1 a4 a1 rx (A:=X.A.in1) Ã6 Ã6 (by exists hy)) #[.bl _,H,I,rfl,?_]
example Î(he:Az X e es) (Al:AE X pos es):=0
example Ï:=vs.toArray
example Ð _:=x X.K H
example Ñ:=vs.length
example Ò:=if_neg
example Ó:=by let#[_,_,_,_,_,q,_]:=h2.sQ r2;cases q
example Ô:=by simp![dep] at hn hu hu';let#[e1,e2,q]:=el hn hu hu' g1 g2 r1 r2 v1 v2;exact en (λ z=>by cases hq z;rfl) ?_;rw[gN,<- e1,<- e2]
example Õ:=false
example Ø:=if_pos
example Ė:=[].toArray
example Á0:=s.heap.update a (Obj.mapSeq λ _=>Ė)
example Ù:=(((Á0).push (seqObj "tuple" Ï 0)).push (seqObj "list" Ė 0)).get?
example À1:=zo Ð ds xs
example Æ9:=List V
example ò{xs:Æ9}:=0
example Ú ò{Aa:Ad}(h1:È) (h2:À1) (h3:Vals xs Aa):=0
example Û:=HT.lexLt
example č:=Shared
example ū{S:SS}:=0
example ė{H:Hp}:=0
example Ü{FH:Aj}{σ:St}ė{s:č}ū:=0
example Ý:=ts.length
example Þ:=by simp![zj]
example ß _:=x e (λ z=>nomatch z) fin
example à:=Nat->Nat->Bool
example á:=nomatch h2.flat r2
example â:=by let#[x,hx,h1]:=h0.one;subst hx
example ģ(he:PD X e te):=0
example ã ģ (hg:Gl X "isinstance"):=0
example ä:=by let#[_,_,_,q,_]:=h2.tF p r2;cases q
example å:=.ref
example Ä7:=λ ds S1 xs H1 h1 q1 e1 p1=>?_
example æ:=by ext Ä;exact xW.go hm r1 r2 z Ä7
example ç:=by rintro r ⟨a1,a2,a3,a4⟩;show#[a1,⋯,⋯,a4]
example è:=#[hp.below ⋯,hp.below ⋯,?_]
example é:=by let#[_,_,_,q,_]:=h2.tf r2;cases q
example ê:=(.lst ds)
example ë:=s.heap.objs.size
example Ç2:=s.heap.get?
example ì:=Ç2 b=↑o
example í(o:Ord lt):=0
example î _:=x r1 r2 z λ x S1 v H1 h1 q1 e1 p1=>?_
example ï:=by intro FH s σ H x y v u Q I rx ry h;let#[S,d,e,t,u',a1,a2,a3,a4,a5,a6,a7,q]:=h
example ð:=.Name
example ñ:=(seqObj "list" Ï 0)
example ó(ha:xc X (e::es) tA):=0
example ô:=fun Y5 S5 w5 σ5 H5 b1 b2 b3=>#[((x2.trans x3).trans a2).trans b2,Y5,S5,b1,b3,w5]
example õ:=False
example ö:=by simp![zj] at r
example ø:=by rw[e] at e';cases e';rw[c] at c'
example ú(p:zK Ð S):=0
example Å8:=SS->Prop
example û:=yt->Å8
example ü:=PySem.W.kia_one
example ý _:=x K H
example þ:=by let#[_,_,#[o,e,c,_],_]:=I.tuple h1
example Ū:=(tT Aa ts u)
example ÿ:=by rw[show Aa.toArray.any Ū=Aa.any Ū by simp,YY I a3 a6 g2 w1];show q
example Ĕ:=(·.2)
example Ã4:=vs.toArray.zip Ï
example Ā:=(arrOf (SortSt.mk' general' (Ã4) Ė 7 none)).map Ĕ
example Ŝ:=by simp![zp] at h;subst h
example ā:=by ext Ŝ;exists zp.nil
example Ħ _:=x Y S
example ş _:=x Ħ Å
example Ă:=#[fun Y S Q Q' hq z=>hm ş (λ ds S1 z=>?_) z,PI.imp h fun σ H R hu=>?_]
example ă _:=x Å _
example ą:=Addr->Prop
example Ć:=X.env
example ć:=Sn S t d
example Ĉ(K:Ab):=0
example ĉ:=.int
example Ċ:=ds.length
example ċ:=h1.length.trans (r1.length.trans (r2.length.symm.trans h2.length.symm))
example Č{d:D}:=0
example Ď:=λ r=>xo n r.2/\r.1<=n/\wV lt r.2 r.1
example ď:=ts.any λ t=>eqT t u
example Đ:=(Æ k 0)
example đ:=lt (Æ m 0) (Æ (m-1) 0)
example Ē:=λ D σ H hu=>?_
example ē _:=x Å À
example ĕ:=List.range
example Ę{p:Ë}(hp:xo n p):=0
example ę:=(.refl H)
example Ě:=∀ d Y S (Q Q':û),(∀ Y S,Q Ħ->Q' Ħ)->t d Ħ Q->t d Ħ Q'
example ě:=zj Ð d x
example Ĝ:=MX (seqEpoch_at g6 rfl (MX (listUpdate_at g6 rfl ?_ (A_ _) ?_)))
example ĝ:=by .show h.elim
example Ķ _:=x σ H Q
example Ğ:=λ FH s σ H v w Q I r q=>h FH s σ H v w Q I r (hi v Ķ q)
example ğ:=I.items.length
example Ġ:=PyProof.Rows
example ġ:=o.refl _
example Ģ:=by simpa only [Sn] using q
example Ĥ _:=x X.prog X.w
example ĥ:=by rw[h1.length,h2.length,h3.length]
example ħ:=Value
example ņ:=(.new hl _)
example Ĩ:=by simp![zj];show#[l,xs,rfl,yi.of yr,zo.ext ņ _ r2]
example ĩ:=Option
example Ī:=λ a b=>Û b a=Õ
example ī(hc:X.calm=true):=0
example Ĭ _:=x (e::es) [] pos
example ĭ _:=x ha.pa () () he Al
example Į(e2:L2.ya ds i=↑d) (h:Q d S):=0
example į:=yq.mono
example İ:=.lst ts
example ı:=Æ9->Hp->VK->Prop
example Ĳ:=sizeLine
example ĳ:=kat_nil (by simpa [Û] using h)
example Ĵ:=(ts.getD j .zm)
example ĵ:=H a=↑(.dK vs)
example ķ(hf:X.fn x=true\/X.env.scope.names.lookup x=↑.local):=0
example Æ2:=zo ý ds xs
example ĸ{us:Ad}{l:Addr}(g:È) (r:Æ2) (v:Vals xs us):=0
example Ĺ:=.cons
example ĺ:=(ð "isinstance" p)
example Ļ:=by have q:=h1.flat r1;subst q
example ļ:=zK ý S
example Ľ:=#[_,AW _ rfl,rfl,rfl]
example ľ:=A.units
example Ŀ:=ë<=h1.objs.size->Q' vs { s with heap:=h1,toks:=tk }
example ŀ:=us.length
example Ł:=(model prog w)
example ł:=of_decide_eq_false
example Ń{vs:List (Key×V)}:=0
example ń:=by let#[a',Gb,Iz,q,k1,k2,k3]:=h2.tF p r2;cases q
example Ņ:=.tup ds
example Ň:=by have:i=j:=⋯;subst this;show ġ
example ň(h:Sx S S'):=0
example ŉ:=(kas_rev p i j).getD k 0
example Ŋ:=by simp[eqT]
example ŋ(S:SS):=0
example Ō{prog:Program}{w:World}{A:Around}{E:Ag}{s:č}:=0
example ō:=by let#[a',Gb,Iz,q,k1,k2,k3]:=h2.tf r2;cases q
example Ŏ:=by have q:=h.flat r;subst q
example ŏ _:=x Å Å
example Ő _:=x I.y7 True.intro ß
example ő _:=x v8.fits v8.mo ha hb (tE _)
example Œ:=r1.ext e1
example œ:=List Expr
example Ŕ:=Le lt (Æ a 0) (Æ b 0)
example ŕ:=č->Prop
example Ŗ:=(show ty=_ from hx)
example ŗ:=cLine
example Ř:=by let#[_,_,_,_,_,q,g,_]:=h2.sQ r2;cases q
example ř:=(yc S Z)
example Ś:=by rename_i e;let#[a,ys,rfl,q,r]:=yg.sq h1 h2 e
example ś:=by dsimp only
example ŝ{a C:Addr}{dx:ĩ Addr}:=0
example Ş(h2:H a=↑(vb a C dx)):=0
example Š(t u:T) {A:Around}{d e:D}{x y:V}{a b:ħ}:=0
example Ţ:=å p
example ţ:=yF ý Y σ
example Ť:=by let#[o',_,e',c',_]:=kH I h2;ext ø;cases c'
example ť:=λ _ _ q=>q
example Ŧ:=Æ i 0
example ŧ:=List (V× ù)
example Ũ:=.tuple_list ‹_› À
example ũ:=fZ I a3 t u' (A:=X.A) Ê a4 a5 a1 a2 rx ry
example Ŭ(i:Nat):=0
example ŭ{X:Cx}:=0
example Ů:=by let#[_,_,#[o,n,e,c,_],_]:=I.list h1
example ů:=λ i j A5 hj=>?_
example Ű:=by have q:=h2.flat r2;cases q;rfl
example ű:=.list_tuple ‹_› À
example Ų{n:Nat}:=0
example ų:=t::ts
example Ŵ:=by simp![zj] at h1;let#[a,xs,rfl,r1,r2]:=h1
example ŵ{vs:Ad}{FI:Ç}:=0
example Ŷ:=λ FH s σ H Q I q=>h FH s Ķ I (hi Ķ q)
example ŷ(hi:X.N[i]?=↑x) (hx:Loc X.env.scope x):=0
example Ÿ _:=x Hn () () he hg h1 h2 h3
example Ź:=I1.kept (t':=s1.toks) λ b o eo=>gV _ eo
example ź:=fY I p h1 h2 h3 u (j:=j) (by simp[hj])
example Ż:=List Str
example ż:=by simp![zj] at q1;let#[a,xs,rfl,g1,g2]:=q1
example Ž:=bs.getD i true
example ž:=absurd
example ſ:=by cases h
example À0:=.Call
example À2{e:Expr}:=0
example À3(H:Hp):=0
example À4{K:Ab}:=0
example À5{a:Addr}:=0
example À6(hu:X.A.units+64<ŗ):=0
example À7:=λ _=>True
example À8:=(.bl (cond neg (!eqT t u) (eqT t u)))
example À9:=by cases e;ext ö;let#[a,xs,h1,h2,h3]:=r
example Á1{p:Ë}{m:Nat}(hp:xo n p) (h1:1<=m):=0
example Á2:=by have:l=r:=⋯;subst this;show#[h2,ha,hb]
example Á3:=λ _ _ h=>xQ.ext e h
example Á4:=(((e1.trans x2).trans x3).trans a2)
example Á5:=by simp![bne_self_eq_false,Bd,if_false]
example Á6:=∀ p,S p=none->Q (Ţ) (ups S p ê)
example Á7:=#[z.1,hq Å z.2]
example Á8:=(call (.builtin "sorted") [å a])
example Á9:=ps.map (·.1)
example Â0:=by ext ö;let#[a,xs,rfl,g1,_]:=r;cases h
example Â1:=(xg ty T)
example Â2:=H e=↑(vb e C dx)
example Â3 _:=x (.type ty) (.type T)
example Â4:=by ext ś;rw[e];show h
example Â5:=by simp![Sn] at q ⊢
example Â6{S S':SS}:=0
example Â7(hi:∀ v σ H Q,t' v Ķ->t v Ķ):=0
example Â8{tg:Expr}(hm:X.mg "range"=none):=0
example Â9 _:=x Ĥ X.xe _ #[.bl _,H,I,rfl,q]
example Ã0:=λ v σ H Q hu=>?_
example Ã1:=assignEach
example Ã2:=by rename_i e;cases h;let#[xs,g1,_]:=p Å e
example Ã3:=of_decide_eq_true
example Ã5:=Value.none
example Ã7{i:Nat}:=0
example Ã8:=by ext ö;let#[a,xs,rfl,g1,g2]:=r
example Ã9:=by subst this;rw[jR I p ts us g3 k3 g2 k2]
example Ä0:=λ l hl=>h Å ?_ ņ (h2.new hl)
example Ä1:=λ x H' q=>?_
example Ä2:=ð "tuple" q
example Ä3:=by simp[wQ]
example Ä4(n:Nat):=0
example Ä5{α β:Type}:=0
example Ä6:=by have e:j=k:=⋯;subst e;by_cases hi:i=j
example Ä8:=fun σ H Q hu=>?_
example Ä9:=is'.toArray.size
example Å0:=.bool_tuple _ À
example Å1:=(.bl (cond neg (!(ď)) (ď)))
example Å2:=Sn (yc S' Z) y d
example Å3(e:yg d S=↑ds):=0
example Å4 _:=x vO.mo (vO.fits λ _ _ _=>Þ) ha.mo
example Å5 _:=x A s (å l) (å l')
example Å7:=.tuple_bool _ À
example Å9:=decide (ns.length<ms.length)
example Æ0:=by .rename_i h;rw[Ø h] at e;show mC e
example Æ1:=by simp![Sn] at h
example Æ3:=(xW X.K tA)
example Æ4:=zj ý d x
example Æ5:=hq Å h
example Æ6:=.inl #[rfl,xs,zU.of g1]
example Æ7:=hq Å z
example Æ8:=.refl _
example Ç0:=S p=↑ ê
example Ç1:=yq.bind
example Ç3:=get?_update_seq
example Ç4:=(qs.map Ĕ)
example Ç5:=ð "bool" q
example Ç6:=.tup ts
example Ç7:=is.toArray.size
example Ç8:=.bool_list _ À
example Ç9:=#[y,by simpa using e1,e2]
example È0:=.list_bool _ À
example È1 _:=x _ H1 e1 p1
example È2:=by ext ś;rw[Ò BC]
example È3(FI:Ç):=0
example È4(h1:yi Ð a xs):=0
example È5:=by let#[o',e',c']:=Z5 I h2;ext ø
def vm (f:xE):Prop:=∀ ds S (Q Q':DK),(∀ d S',Q d S'->Q' d S')->f ds S Q->f ds S Q'
def uB Ĉ (f:xE) (r:ı):Prop:=∀ xs ds H S Q,Æ2->ļ->f ds S (xZ ý Q)->r xs H Q
def xR (f:xE) (t:ym):zu:=fun Y S Q=>t Ħ λ ds S1=>f ds S1 Q
def xR.mo {f:xE}(hf:vm f) (h:tY tA):y9 (xR f tA):=fun Y S _ _ hq z=>h ş (λ ds S1 z=>hf ds S1 Å hq z) z
def cC {f:xE}{r:ı}(hf:vm f) (hr:uB K f r) (h:tY tA) {σ:St}ė{Q:VK}(hu:yb K (xR f tA) Ķ):nH r (xW K tA) Ķ:=by
 let#[Y,S,r1,r2,h']:=hu;exact xW.go h r1 r2 h' Ä7;show hr xs ds H1 S1 Q q1 p1 (hf ds S1 Å (λ d S' z=>z.ext e1) h1)
def sG {f:xE}{r:ı}À2(h:PE X e (nH r Æ3)) (hf:vm f) (hr:uB X.K f r) (ha:tY tA):PD X e (xR f tA):=
 #[xR.mo hf ha,PE.imp h λ _ _ _ hu=>cC hf hr ha hu]
def yg (d:D) ŋ:ĩ (š):=match d with
 | Ņ=>↑ds
 | .xN ds=>↑ds
 | Ţ=>match S p with
  | some ê=>↑ds
  | _=>none
 | _=>none
theorem yg.sq ė ū Č{v:V}Ö(r:zj ý d v) (p:ļ) Å3:∃ a xs,v=å a/\(zU ý a xs\/yi ý a xs)/\Æ2:=by
 unfold yg at e;split at e
 .ext À9;show#[a,xs,h1,.inr h2,h3]
 .ext À9;show#[a,xs,h1,.inl h2.sq,h3]
 .split at e
  .rename_i q;cases e;ext ö;subst r;let#[xs,h1,h2]:=p Å q;show#[_,xs,rfl,.inl (zU.of h1),h2]
  .cases e
 .cases e
def zo.one ė Č ò(h:zo ý [d] xs):∃ x,xs=[x]/\Æ4:=by
 simp![zo] at h;let#[x,r,rfl,h2,rfl]:=h;show#[x,rfl,h2]
def zo.two ė{d d':D}ò(h:zo ý [d,d'] xs):∃ x y,xs=[x,y]/\Æ4/\zj ý d' y:=by
 simp![zo] at h;let#[x,r,rfl,h2,y,r',rfl,h3,rfl]:=h;show#[x,y,rfl,h2,h3]
def uo:xE:=λ ds S Q=>match ds with
 | [d]=>match yg d S with
  | some ds=>Q (ĉ Ċ) S
  | none=>match d with
   | .str z=>z.length<=Ĳ/\Q (ĉ z.length) S
   | _=>õ
 | _=>õ
def uo.mo:vm uo:=λ ds S Q Q' hq h=>by
 unfold uo at h ⊢;split at h
 .skip
  split at h
  .show Æ5
  .split at h
   .show#[h.1,hq Å h.2]
   ext ĝ
 ext ĝ
abbrev U4 Ĉ:ı:=λ xs H Q=>(∃ p ys,xs=[Ţ]/\(zU ý p ys\/yi ý p ys)/\Q (ĉ ys.length) H)\/(∃ z,xs=[.str z]/\z.length<=Ĳ/\Q (ĉ z.length) H)
def uo.fits:uB K uo (U4 K):=λ xs ds H S Q h0 h2 h=>by
 unfold uo at h;split at h
 .ext â;split at h
  .ext Ś;exact .inl #[a,ys,rfl,q,?_];rw[<- r.length];show h _ H (Þ) ę h2
  .split at h
   .simp![zj] at h1;subst h1;show .inr #[_,rfl,h.1,h.2 _ H (Þ) ę h2]
   ext ĝ
 ext ĝ
def um:xE:=λ ds S Q=>match ds with
 | [d]=>match yg d S with
  | some ds=>Á6
  | none=>õ
 | _=>õ
def um.mo:vm um:=λ ds S Q Q' hq h=>by
 unfold um at h ⊢;split at h
 .skip
  split at h
  .show λ p hp=>hq Å (h p hp)
  ext ĝ
 ext ĝ
def um.fits:uB K um (λ xs H Q=>∃ p ys,xs=[Ţ]/\(zU ý p ys\/yi ý p ys)/\∀ l,H l=none->Q (å l) (upd H l (.lst ys))):=λ xs ds H S Q h0 h2 h=>by
 unfold um at h;split at h
 .ext â;split at h
  .ext Ś;exact#[a,ys,rfl,q,λ l hl=>?_];show h l (h2.none hl) Å (Þ) ņ (h2.ups ņ #[ys,yr,zo.ext ņ _ r])
  ext ĝ
 ext ĝ
def uj:xE:=λ ds S Q=>match ds with
 | [Ņ]=>Q (Ņ) S
 | [.xN ds]=>Q (Ņ) S
 | [Ţ]=>match S p with
  | some ê=>Q (Ņ) S
  | _=>õ
 | _=>õ
def uj.mo:vm uj:=λ ds S Q Q' hq h=>by
 unfold uj at h ⊢;split at h
 .show Æ5
 .show Æ5
 .skip
  split at h
  .show Æ5
  ext ĝ
 ext ĝ
def uj.fits:uB K uj (λ xs H Q=>∃ p ys,xs=[Ţ]/\((zU ý p ys/\∀ l,H l=none->Q (å l) (upd H l (.tup ys)))\/(yi ý p ys/\Q (Ţ) H))):=λ xs ds H S Q h0 h2 h=>by
 unfold uj at h;split at h
 .ext â;have h1':=h1;ext Ŵ;show#[a,xs,rfl,.inr #[r1,h _ H h1' ę h2]]
 .ext â;ext Ŵ;exact#[a,xs,rfl,.inl #[r1.sq,Ä0]];ext Ĩ
 .ext â;split at h
  .rename_i e;simp![zj] at h1;subst h1;let#[xs,r1,r2]:=h2 Å e;exact#[_,xs,rfl,.inl #[zU.of r1,Ä0]];ext Ĩ
  ext ĝ
 ext ĝ
def vO (g:Int->Int->D):xE:=λ ds S Q=>match ds with
 | [ĉ i,ĉ j]=>Q (g i j) S
 | _=>õ
def vO.mo {g:Int->Int->D}:vm (vO g):=λ ds S Q Q' hq h=>by
 unfold vO at h ⊢;split at h
 .show Æ5
 ext ĝ
def vO.fits {g:Int->Int->D}{g':Int->Int->V}(hg:∀ i j H,zj ý (g i j) (g' i j)):uB K (vO g) (λ xs H Q=>∃ i j,xs=[ĉ i,ĉ j]/\Q (g' i j) H):=λ xs ds H S Q h0 h2 h=>by
 unfold vO at h;split at h
 .let#[x,y,hx,h1,h3]:=h0.two;subst hx;simp![zj] at h1 h3;subst h1 h3;show#[_,_,rfl,h _ H (hg Å H) ę h2]
 ext ĝ
def zal:yR:=λ x y S Q=>match x,y with
 | Ţ,å q=>match S p,S q with
  | some ê,↑(.lst es)=>Ċ+es.length<=Ĳ/\∀ r,S r=none->Q (å r) (ups S r (.lst (ds++es)))
  | _,_=>õ
 | _,_=>õ
def uS (to te:zu):zu:=fun Y S Q=>to Ħ λ x S1=>match x with
 | Ţ=>(∃ ds,S1 p=↑ ê)/\te Y S1 λ y S2=>match S2 p with
  | some ê=>Ċ<Ĳ/\Q .zm (ups S2 p (.lst (ds++[y])))
  | _=>õ
 | _=>õ
def uS.mo {to te:zu}(h:y9 to) (h':y9 te):y9 (uS to te):=fun Y S Q Q' hq z=>h ş (λ x S1 z=>by
 cases x with
 | ref p=>
  exact#[z.1,h' Y S1 Å (λ y S2 w=>?_) z.2];split at w
  .show#[w.1,hq Å w.2]
  .show w.elim
 | _=>show z) z
theorem Ql {o e:Expr}{to te:zu}{e0:Expr}(Fd:PE X e0 (jZ X.K "list" bS (yb X.K to) (lR (yb X.K te) lQ))) (h:y9 to) (h':y9 te):PD X e0 (uS to te):=by
 exact#[uS.mo h h',PE.imp Fd Ä8];ext Ä;exact yb.go h î;cases x with
 | ref p=>
  let#[#[ds,hd],h1]:=h1;simp![zj] at q1;subst q1;let#[xs,g1,g2]:=p1 Å hd;exact#[Æ6,?_];exact yb.go h' (Œ) p1 h1 λ y S2 w H2 h2 q2 e2 p2=>?_;split at h2
  .rename_i Iz e3;let#[Gb,g3,g4]:=p2 Å e3;exact#[p,Gb,w,rfl,rfl,g3,by rw[<- g4.length];show h2.1,?_];have e4:Ext H2 (upd H2 p (.lst (Gb++[w]))):=.lst g3 _;show h2.2 Å (Þ) ((e1.trans e2).trans e4) (p2.ups e4 #[_,yr,zo.ext e4 _ (g4.snoc q2)])
  .show h2.elim
 | _=>show h1.elim
end
structure sj where
 nx:û
 rt:DK
 bk:û:=λ _ _=>õ
 ct:û:=λ _ _=>õ
abbrev yw:=sj->û
structure sj.Le (E E':sj):Prop where
 nx:∀ Y S,E.nx Ħ->E'.nx Ħ
 rt:∀ d S,E.rt d S->E'.rt d S
 bk:∀ Y S,E.bk Ħ->E'.bk Ħ
 ct:∀ Y S,E.ct Ħ->E'.ct Ħ
def uA (t:yw):Prop:=∀ E E' Y S,sj.Le E E'->t E Ħ->t E' Ħ
def vP Ĉ À3 (D:Ends):sj:=#[xQ ý D.nx,xZ ý D.rt,xQ ý D.bk,xQ ý D.ct]
theorem vP.ext À4{H H':Hp}{D:Ends}(e:Ext H H'):(vP ý D).Le (vP K H' D):=#[Á3,λ _ _ h=>xZ.ext e h,Á3,Á3]
def jP Ĉ (t:yw):TS:=λ D σ H=>∃ Y S,ţ/\ļ/\t (vP ý D) Ħ
structure wI (X:Cx) (st:Stmt) (t:yw):Prop where
 mo:uA t
 ps:PS X st (jP X.K t)
structure vj (X:Cx) (st:List Stmt) (t:yw):Prop where
 mo:uA t
 ps:wa X st (jP X.K t)
section
variable {ŭ}{À4}{st:Stmt}{FJ:List Stmt}{t u:yw}{pos:Pos}{À2}{te:zu}
def gW:yw:=λ E Y S=>E.nx Ħ
def qK (t u:yw):yw:=λ E Y S=>t { E with nx:=u E } Ħ
def qK.mo (h:uA t) (h':uA u):uA (qK t u):=λ E E' Y S hE z=>h { E with nx:=u E } { E' with nx:=u E' } Ħ #[fun Y S q=>h' E E' Ħ hE q,hE.rt,hE.bk,hE.ct] z
def S9:vj X [] gW:=#[λ _ _ _ _ hE h=>hE.nx Å h,wa.imp UG λ D σ H #[Y,S,r1,r2,h]=>h σ H r1 ę r2]
def S8 (h:wI X st t):vj X [st] t:=#[h.mo,i9 h.ps]
def SA (h:wI X st t) (h':vj X FJ u):vj X (st::FJ) (qK t u):=by
 exact#[qK.mo h.mo h'.mo,wa.imp (UH h.ps h'.ps) Ē];ext Ä;exact#[Y,S,r1,r2,h.mo { vP Ð D with nx:=u (vP Ð D) } _ Ħ #[fun Y' S' q σ' H' q1 q2 q3=>?_,ť,ť,ť] z];show#[Y',S',q1,q3,h'.mo Å Y' S' (vP.ext q2) q]
def gY (te:zu):yw:=λ E Y S=>te Ħ λ _ S1=>E.nx Y S1
def SU ģ (hs:swapsWith e none pos.line Ć=pure Õ):wI X (.Expr e pos) (gY te):=by
 exact#[λ E E' Y S hE z=>he.mo ş (λ _ _ q=>hE.nx Å q) z,PS.imp (UO he.pe hs) Ē];ext Ä;show yb.go he.mo r1 r2 z λ x S1 v H1 h1 q1 e1 p1=>h1 σ H1 (Œ) e1 p1
def gT (te:zu):yw:=λ E Y S=>te Ħ E.rt
def SK ģ:wI X (.Return ↑e pos) (gT te):=by
 exact#[λ E E' Y S hE z=>he.mo ş (λ _ _ q=>hE.rt Å q) z,PS.imp (UL he.pe) Ē];ext Ä;show yb.go he.mo r1 r2 z λ x S1 v H1 h1 q1 e1 p1=>h1 v H1 q1 e1 p1
def gX (c:yM) (t u:yw):yw:=λ E Y S=>c Ħ λ k S1=>if k=true then t E Y S1 else u E Y S1
def SO {c:Expr}{p q:List Stmt}{tc:yM}(hc:xF X c tc) (h:vj X p t) (h':vj X q u):wI X (.If c p q pos) (gX tc t u):=by
 exact#[λ E E' Y S hE z=>hc.mo ş (λ k S1 z=>wD (h.mo Å Y S1 hE) (h'.mo Å Y S1 hE) z) z,PS.imp (UM hc.pt h.ps h'.ps) Ē];ext Ä;exact w9.go hc.mo r1 r2 z λ k S1 H1 h1 e1 p1=>wD (λ z=>?_) (λ z=>?_) h1
 .show#[Y,S1,Œ,p1,h.mo Å Y S1 (vP.ext e1) z]
 .show#[Y,S1,Œ,p1,h'.mo Å Y S1 (vP.ext e1) z]
abbrev xn:=D->yt->SS->(û)->Prop
abbrev x_:=š->yt->SS->(û)->Prop
def lq (t:xn):Prop:=Ě
def Xm (t:x_):Prop:=Ě
def nD Ĉ (t:xn):TG:=λ v σ H Q=>∃ d Y S,zj ý d v/\ţ/\ļ/\t d Ħ (xQ ý Q)
def cA Ĉ (t:x_):sT:=λ v σ H Q=>∃ d Y S,zo ý d v/\ţ/\ļ/\t d Ħ (xQ ý Q)
structure vC (X:Cx) (e:Expr) (t:xn):Prop where
 mo:lq t
 pg:PG X e (nD X.K t)
structure qU (X:Cx) (es:œ) (t:x_):Prop where
 mo:Xm t
 pg:tX X es (cA X.K t)
def PG.imp À2{t t':TG}(h:PG X e t) Â7:PG X e t':=Ğ
def tX.imp {e:œ}{t t':sT}(h:tX X e t) Â7:tX X e t':=Ğ
def hName Ŭ:xn:=λ d Y S Q=>Q (Y.set i ↑d) S
def Rl À2 Ã7(h:PG X e (ox i)):vC X e (hName i):=
 #[λ _ _ _ _ _ hq z=>Æ7,PG.imp h λ v σ H Q #[d,Y,S,r1,r2,r3,z]=>z _ H (r2.set i r1) ę r3]
def gk:x_:=λ ds Y S Q=>ds=[]/\Q Ħ
def gm (t:xn) (u:x_):x_:=λ ds Y S Q=>match ds with
 | d::r=>t d Ħ fun Y' S'=>u r Y' S' Q
 | []=>õ
def Rg:qU X [] gk:=by
 exact#[λ _ _ _ _ _ hq z=>Á7,tX.imp Te Ã0];let#[d,Y,S,r1,r2,r3,z1,z2]:=hu;subst z1;simp![zo] at r1;show#[r1,z2 σ H r2 ę r3]
def Rh À2{es:œ}{t:xn}{u:x_}(h:vC X e t) (h':qU X es u) (hs:(Ã1 (e::es) Ć).map Ĕ=assign e Ć::(Ã1 es Ć).map Ĕ):qU X (e::es) (gm t u):=by
 exact#[λ ds Y S Q Q' hq z=>?_,tX.imp (Tf h.pg h'.pg hs) Ã0]
 .cases ds with
  | nil=>show z
  | cons d r=>show h.mo d ş (fun Y' S' z=>h'.mo r Y' S' Å hq z) z
 .let#[ds,Y,S,r1,r2,r3,z]:=hu;cases ds with
  | nil=>show z.elim
  | cons d r=>
   simp![zo] at r1;let#[x,xs,rfl,q1,q2]:=r1;exact#[x,xs,rfl,d,Y,S,q1,r2,r3,h.mo d ş (fun Y' S' z σ' H' g1 g2 g3=>?_) z];show#[r,Y',S',zo.ext g2 r q2,g1,g3,h'.mo r Y' S' Å (fun Y2 S2 z2=>xQ.ext g2 z2) z]
def qH Ä4 (t:x_):xn:=λ d Y S Q=>match d with
 | Ņ=>Ċ=n/\t ds Ħ Q
 | _=>õ
def Ri À2 Ų{t:x_}(h:PG X e (ZS X.K n (cA X.K t))) (hm:Xm t):vC X e (qH n t):=by
 exact#[λ d Y S Q Q' hq z=>?_,PG.imp h Ã0]
 .cases d with
  | tup ds=>show#[z.1,hm ds ş hq z.2]
  | _=>show z
 .let#[d,Y,S,r1,r2,r3,z]:=hu;cases d with
  | tup ds=>
   simp![zj] at r1;let#[a,xs,rfl,q1,q2]:=r1;show#[a,xs,rfl,q1,by rw[<- q2.length];show z.1,ds,Y,S,q2,r2,r3,z.2]
  | _=>show z.elim
def v9 (te:zu) (g:xn):yw:=λ E Y S=>te Ħ λ x S1=>g x Y S1 E.nx
def v9.mo {g:xn}(h:y9 te) (h':lq g):uA (v9 te g):=λ E E' Y S hE z=>h ş (λ x S1 q=>h' x Y S1 Å (fun Y S q=>hE.nx Å q) q) z
def WW {g:xn}(h:y9 te) (h':lq g) {D:Ends}{σ:St}ė(hu:jP K (v9 te g) D σ H):nI (yb K te) (nD K g) D σ H:=by
 ext Ä;exact yb.go h î;show#[x,Y,S1,q1,Œ,p1,h' x Y S1 Å (fun Y S q=>xQ.ext e1 q) h1]
def SV {tg e:Expr}{g:xn}ģ (hg:vC X tg g) (hs:swapsWithSole [tg] e pos.line Ć=pure Õ) (hw:swappedStores [tg] e Ć=pure none)
  (h1:(Ã1 [tg] Ć).map Ĕ=[assign tg Ć]):wI X (.Assign [tg] e pos) (v9 te g):=
 #[v9.mo he.mo hg.mo,PS.imp (bZ he.pe hg.pg hs hw h1) λ _ _ _ hu=>WW he.mo hg.mo hu]
def SJ {e0:Stmt}Ã7(h:PS X e0 (nI (yb X.K te) (ox i))) (hm:y9 te):wI X e0 (v9 te (hName i)):=by
 exact#[v9.mo hm λ _ _ _ _ _ hq z=>Æ7,PS.imp h Ē];ext Ä;exact yb.go hm î;show h1 _ H1 ((Œ).set i q1) e1 p1
end
structure lD where
 items:š
 keep:Å8
abbrev wz:=yt->SS->(lD->Å8)->Prop
def j4 (t:wz):Prop:=∀ Y S (Q Q':lD->Å8),(∀ I S',Q I S'->Q' I S')->t Ħ Q->t Ħ Q'
def eI Ĉ (H1:Hp) (J:It) (I:lD):Prop:=∀ Ŭ À3 ŋ,Ext H1 H->ļ->I.keep S->
 (∀ d,I.items[i]?=↑d->J.go i H/\∀ x H',J.pq i H x H'->Ext H H'/\zK K H' S/\zj K H' d x)/\(ğ<=i->J.stop i H)
def LZ Ĉ À3 (R:It->Hp->Prop):lD->Å8:=λ I S1=>∀ J H1,Ext H H1->zK K H1 S1->eI K H1 J I->R J H1
def xm Ĉ (t:wz):TI:=fun σ H R=>∃ Y S,ţ/\ļ/\t Ħ (LZ ý R)
structure u7 (X:Cx) (tg iter:Expr) (t:wz):Prop where
 mo:j4 t
 pi:PI X tg iter (xm X.K t)
def PI.imp ŭ{tg e:Expr}{t t':TI}(h:PI X tg e t) (hi:∀ σ H Q,t' Ķ->t Ķ):PI X tg e t':=Ŷ
section
variable {ŭ}{À4}{tg e:Expr}{pos:Pos}
theorem zo.at ė Ö ò Ã7 Č{x:V}(r:Æ2) (h1:ds[i]?=↑d) (h2:xs[i]?=↑x):Æ4:=by
 let#[y,e1,e2]:=r.get h1;rw[h2] at e1;cases e1;show e2
def vw (lo:Int) Ä4:š:=(ĕ n).map λ(k:Nat)=>D.int (lo+(k:Int))
def Uz {lo:Int}{n i:Nat}Č(h:(vw lo n)[i]?=↑d):i<n/\d=ĉ (lo+(i:Int)):=by
 unfold vw at h;rw[AQ] at h;cases q:(ĕ n)[i]? with
 | none=>rw[q] at h;cases h
 | some j=>
  rw[q] at h;let#[h1,h2]:=AY.mp q;rw[B5] at h1;rw[List.getElem_range] at h2;subst h2;cases h;show#[h1,rfl]
def Uy (lo:Int) Ä4:(vw lo n).length=n:=by unfold vw;rw[Af,B5]
def eI.range {H1:Hp}{lo:Int}Ų:eI K H1 (lr lo n) #[vw lo n,À7]:=λ i H S _ x2 _=>by
 exact#[λ d hd=>?_,λ hl=>by rw[show (lD.mk (vw lo n) À7).items=vw lo n from rfl,Uy] at hl;show hl];let#[h1,rfl]:=Uz hd;exact#[h1,Ä1];let#[rfl,rfl]:=q;show#[Æ8,x2,Þ]
def gg (t:ym):wz:=fun Y S R=>t Ħ λ ds S1=>match ds with
 | [ĉ j]=>(-(2 ^ 62)<=j/\j<2 ^ 62)/\R #[vw 0 j.toNat,À7] S1
 | _=>õ
def gd (t:ym):wz:=fun Y S R=>t Ħ λ ds S1=>match ds with
 | [ĉ i,ĉ j]=>(-(2 ^ 62)<=i/\i<2 ^ 62/\-(2 ^ 62)<=j/\j<2 ^ 62)/\R #[vw i (j-i).toNat,À7] S1
 | _=>õ
variable {tA:ym}
def Rf (h:PI X tg e (ZH Æ3)) (hm:tY tA):u7 X tg e (gg tA):=by
 exact Ă
 .split at z
  .show Á7
  .show z.elim
 .ext æ;split at h1
  .let#[x,rfl,q]:=q1.one;simp![zj] at q;subst q;show#[_,rfl,h1.1.1,h1.1.2,h1.2 È1 .range]
  .show h1.elim
def Rb (h:PI X tg e (ZG Æ3)) (hm:tY tA):u7 X tg e (gd tA):=by
 exact Ă
 .split at z
  .show Á7
  .show z.elim
 .ext æ;split at h1
  .let#[x,y,rfl,q,q']:=q1.two;simp![zj] at q q';subst q q';show#[_,_,rfl,h1.1,h1.2 È1 .range]
  .show h1.elim
def mU (ti:wz) (g:xn) (tb:yw):yw:=λ E Y S=>ti Ħ λ I S1=>∃ W:Nat->û,W 0 Y S1/\(∀ i Y S,W i Ħ->I.keep S)/\
 (∀ i d Y S,I.items[i]?=↑d->W i Ħ->g d Ħ fun Y2 S2=>tb { E with nx:=W (i+1),ct:=W (i+1),bk:=E.nx } Y2 S2)/\∀ Y S,W ğ Ħ->E.nx Ħ
def mU.mo {ti:wz}{g:xn}{tb:yw}(hi:j4 ti) (hg:lq g) (hb:uA tb):uA (mU ti g tb):=λ E E' Y S hE z=>hi ş (λ I S1 #[W,w0,wk,ws,wd]=>by
 exact#[W,w0,wk,λ i d Y S hd hw=>hg d ş (fun Y2 S2 z=>hb { E with nx:=W (i+1),ct:=W (i+1),bk:=E.nx } { E' with nx:=W (i+1),ct:=W (i+1),bk:=E'.nx } Y2 S2 #[ť,hE.rt,hE.nx,ť] z) (ws i d Ħ hd hw),fun Y S q=>hE.nx Å (wd Ħ q)]) z
def SR {iter:Expr}{body:List Stmt}{ti:wz}{g:xn}{tb:yw}(hp:PassesOwn (model Ĥ) X.A Ć X.xe) ī (hi:u7 X tg iter ti) (hg:vC X tg g) (hb:vj X body tb)
  (hs:∀ x,foldedSetIterable iter Ć x=pure x):wI X (.For tg iter body [] pos) (mU ti g tb):=by
 exact#[mU.mo hi.mo hg.mo hb.mo,PS.imp (UN hp hc hi.pi hg.pg hb.ps hs) Ē];ext Ä;exact#[Y,S,r1,r2,hi.mo ş (λ I S1 hW J H1 e1 p1 rep=>?_) z];let#[W,w0,wk,ws,wd]:=hW;exact#[λ i m σ H2=>m=ğ-i/\i<=ğ/\Ext H1 H2/\∃ Y S,yF X.K H2 Y σ/\zK X.K H2 S/\W i Ħ,#[_,rfl,A_ _,Æ8,Y,S1,Œ,p1,w0],?_];rintro i m σ2 H2 ⟨rfl,Ib,x2,Y2,S2,q1,q2,w2⟩;let#[g1,g2]:=rep i H2 S2 x2 q2 (wk i Y2 S2 w2);by_cases hl:i<ğ
 .have hd:I.items[i]?=↑I.items[i]:=by simp[hl]
  let#[go,yl]:=g1 _ hd;exact .inr #[go,fun σ' H'=>Ext H1 H'/\∃ Y S,yF X.K H' Y σ'/\zK X.K H' S/\W (i+1) Ħ,fun σ' H' q=>#[_,⋯,rfl,hl,q],λ x H3 hy=>?_];let#[x3,p3,d3]:=yl x H3 hy;exact#[_,Y2,S2,d3,q1.ext x3,p3,hg.mo _ Y2 S2 Å (fun Y4 S4 z4 σ4 H4 a1 a2 a3=>?_) (ws i _ Y2 S2 hd w2)];exact#[Y4,S4,a1,a3,hb.mo Å Y4 S4 #[ô,λ _ _ q=>xZ.ext Á4 q,λ _ _ q=>xQ.ext Á4 q,ô] z4]
 .have e:i=ğ:=⋯;subst e;show .inl #[g2 (Am _),wd Y2 S2 w2 σ2 H2 q1 (e1.trans x2) q2]
abbrev wX:=š->SS->DK->Prop
def j0 (sp:wX):Prop:=∀ ds S (Q Q':DK),(∀ d S',Q d S'->Q' d S')->sp ds S Q->sp ds S Q'
def u_ Ĉ (sp:wX):Sp:=λ vs H Q _=>∃ ds S,zo ý ds vs/\ļ/\sp ds S (xZ ý Q)
def mV (sp:wX) (t:ym):zu:=fun Y S Q=>t Ħ λ ds S1=>sp ds S1 Q
def Qj {sp:wX}{E:XK}À2(h:PE X e (cM (u_ X.K sp) [] E Æ3)) (hs:j0 sp) (hm:tY tA):PD X e (mV sp tA):=by
 exact#[fun Y S Q Q' hq z=>hm ş (λ ds S1 z=>hs ds S1 Å hq z) z,PE.imp h Ä8];ext æ;rw[CV];show#[ds,S1,q1,p1,hs ds S1 Å (λ d S' q=>xZ.ext e1 q) h1]
def uG (N:Ż) (ds:š):yt:=ds.map some++List.replicate (N.length-Ċ) none
theorem yF.init ė{N:Ż}Ö{vs:Æ9}(r:zo ý ds vs):yF ý (uG N ds) (start N vs):=by
 have hl:=r.length;exact#[by unfold uG L2.start;simp[hl],λ i d h=>?_];unfold uG at h;have hi:i<Ċ:=by
  rcases BO i Ċ with q | q
  .show q
  .rw[CM (by exists q),EW] at h;split at h <;> cases h
 rw[CL (by exists hi),AQ] at h;cases q:ds[i]? with
 | none=>rw[q] at h;cases h
 | some d'=>
  rw[q] at h;cases h;let#[x,e1,e2]:=r.get q;exact#[x,?_,e2];unfold L2.start;rw[CL (by exists by lia),AQ,e1];rfl
def Lr {P:Program}{w:World}À4{mg:Au}{base:Heap}{x qual:Str}{st:Stmt}{f:Addr}{fd:FuncData}{N ps:Ż}Å6{sp:wX}(F:wZ K x qual st f fd) (Sc:vF N ps (zS st))
  (len:∀ ds S Q,sp ds S Q->Ċ=ps.length)
  (FW:∀ (Ah:ħ) (A:Around) (outer:List Env) (s:č) À3 (E:XK),yo k (A.deeper (envOfC qual (zS st) ë f Ah))->
   ∃ t,vj (xj yT P w K mg base N qual (zS st) f Ah A outer s H E).x9 (xi st) t/\∀ ds S Q,sp ds S Q->t { nx:=λ _ S'=>Q .zm S',rt:=Q } (uG N ds) S):wJ P w K mg base yT (k+1) f fd ps (u_ K sp):=by
 exact F.ok Sc (λ vs H Q E h=>?_) λ Ah A outer s H vs Q E hr h=>?_
 .let#[ds,S,r1,_,z]:=h;rw[<- r1.length];show len ă z
 .let#[ds,S,r1,r2,z]:=h;let#[t,ht,hq]:=FW Ah A outer s H E hr;exact#[_,ht.ps,uG N ds,S,.init r1,r2,ht.mo { nx:=λ _ S'=>xZ ý Q .zm S',rt:=xZ ý Q } ă #[fun Y S' q σ' H' _ b c=>q .zm H' (Þ) b c,ť,λ _ _ q=>False.elim q,λ _ _ q=>False.elim q] (hq ds S _ z)]
def uc (pick:List (ĩ Nat)) (Y:yt):yt:=pick.map λ o=>o.bind λ i=>(Y[i]?).join
theorem yF.pick ė{Y:yt}{σ:St}(r:ţ) (pick:List (ĩ Nat)):yF ý (uc pick Y) (v_ pick σ):=by
 exact#[by unfold uc v_;simp,λ i d h=>?_];unfold uc at h;rw[AQ] at h;cases q:pick[i]? with
 | none=>rw[q] at h;cases h
 | some o=>
  rw[q] at h;cases o with
  | none=>simp at h
  | some j=>
   simp![Option.map_some,B4,Option.some.injEq] at h;have hj:Y[j]?=↑↑d:=by
    cases q2:Y[j]? with
    | none=>rw[q2] at h;cases h
    | some o2=>rw[q2] at h;simp![Option.join_some] at h;rw[h]
   let#[v,e1,e2]:=r.2 j d hj;exact#[v,?_,e2];unfold v_;rw[AQ,q];simp[e1]
def qN (Y Y':yt):Prop:=Y.length=Y'.length/\∀ Ŭ d,Y[i]?=↑↑d->Y'[i]?=↑↑d
def qN.rep ė{Y Y':yt}{σ:St}(h:qN Y Y') (r:yF ý Y' σ):ţ:=#[h.1.trans r.1,λ i d q=>r.2 i d (h.2 i d q)]
structure oW (X:Cx) (ifs:œ) (t:yM):Prop where
 mo:vk t
 pf:PF X ifs (w9 X.K t)
def PF.imp {ifs:œ}{t t':TT}(h:PF X ifs t) (hi:∀ σ H Q,t' Ķ->t Ķ):PF X ifs t':=Ŷ
def Yh:yM:=λ _ S Q=>Q true S
def Rn:oW X [] Yh:=#[λ _ _ _ _ hq z=>Æ7,PF.imp Tt λ _ H _ #[_,_,_,r2,z]=>z H ę r2]
def Rm {c:Expr}{t:yM}(h:xF X c t):oW X [c] t:=#[h.mo,Ts h.pt]
end
end L3
namespace L2
open PySem PySem.Spec Ġ
def MN Ĉ (tl:TE):TI:=fun σ H R=>tl σ H λ x H1=>∃ a,x=å a/\(((∃ xs,zU K H1 a xs)/\R (Xp K a) H1)\/((∃ xs,yi K H1 a xs)/\R (Xo K a) H1))
def Tb ŭ{tg l:Expr}{tl:TE}(hl:PE X l tl):PI X tg l (MN X.K tl):=by
 intro FH s σ H R I h;exact zF (hl FH s σ H _ I h) λ v s1 #[x,H1,I1,r1,a,hx,q1]=>?_;subst hx;cases r1;have new:∀ b∈[s1.heap.objs.size],vS X FH H1 b:=λ b hb=>by
  obtain rfl:b=s1.heap.objs.size:=A4.mp hb;show I1.gB (Am _) (I1.zr.fresh (Am _))
 rcases q1 with ⟨⟨xs,hq⟩,q⟩ | ⟨⟨xs,hq⟩,q⟩
 .let#[Aa,_,pl,_]:=I1.list hq;show wpAny_pyIter_list pl.isList #[_,_,_,_,H1,rfl,Ź,Vf a _,Ľ,new,q]
 .let#[Aa,_,pt,_]:=I1.tuple hq;show wpAny_pyIter_tuple (show s1.heap.IsTuple a Aa.toArray from pt) #[_,_,_,_,H1,rfl,Ź,Vd a _,Ľ,new,q]
def range_all (bs:List Bool):(ĕ bs.length).all (λ i=>Ž)=bs.all id:=by
 rw[Dm,AV,AV];constructor
 .intro h b hb;let#[i,hi,rfl]:=BX.mp hb;have:=h i (AO.mpr hi);simpa [hi] using this
 .intro h i hi;have Ib:=AO.mp hi;have:=h bs[i] (B3 Ib);simpa [Ib] using this
theorem KH {bs:List Bool}{Aa:Ad}(r:Vals (bs.map V.bl) Aa) Ã7{v:ħ}(h:Aa.toArray[i]?=↑v):v=.bool (Ž):=by
 have hl:=r.length;rw[Af] at hl;have h':Aa[i]?=↑v:=by exists h
 have hi:i<bs.length:=by
  rw[hl];rcases BO i Aa.length with q | q
  .show q
  .rw[List.getElem?_eq_none q] at h';cases h'
 let#[u,e1,e2]:=r.get (i:=i) (x:=.bl bs[i]) (by simp[hi]);rw[h'] at e1;cases e1;have:v=.bool bs[i]:=e2;rw[this];simp[hi]
section
variable {ŭ}
theorem K8 ī:yS X (.builtin "all") (λ xs H Q=>∃ p,∃ bs:List Bool,xs=[Ţ]/\zU Ð p (bs.map V.bl)/\Q (.bl (bs.all id)) H):=by
 intro FH s σ H xs us Q I r h;let#[p,bs,rfl,hq,q]:=h;let#[u,rfl,ru]:=vals1 r;cases ru;let#[Aa,rv,pl,hz]:=I.list hq;have hl:=rv.length;rw[Af] at hl;have Ax:p<ë:=by let#[o,n,e,_]:=pl;show An e
 exact call_all_walk (wpAny_pyIter_list pl.isList ?_);exact#[ë,_,_,_,_,_,λ i=>Ž,rfl,Walks.list (A:=X.A.in1) (I.ok.hd hc) ë p (AB Ax) Aa.toArray,#[Ľ,pl.isList.push _],λ i v s' Q' E' hv IB=>?_,λ h' tk hk=>?_]
 .rw[KH rv hv];show zaH IB
 .have e:(ĕ Aa.toArray.size).all (λ i=>Ž)=bs.all id:=by rw[AG,<- hl,range_all]
  rw[e];show#[.bl _,H,I.kept (t':=tk) λ b o eo=>hk b o (by exists AB (An eo)) (gV _ eo),rfl,q]
end
end L2
namespace L3
open PySem PySem.Spec L2
open Ġ hiding St
structure Bt (mg:Au):Prop where
 len:mg "len"=none
 range:mg "range"=none
 any:mg "any"=none
 all:mg "all"=none
 sorted:mg "sorted"=none
 isinstance:mg "isinstance"=none
 bool:mg "bool"=none
 int:mg "int"=none
 str:mg "str"=none
 list:mg "list"=none
 tuple:mg "tuple"=none
 max:mg "max"=none
 min:mg "min"=none
section
variable {ŭ}{a e:Expr}{es:œ}{te:zu}{pos p:Pos}
def oE {N':Ż}{pick:List (ĩ Nat)}{scope esc:Scope}{N:Ż}(hE:X.env.scope=esc:=by rfl) (hN:X.N=N:=by rfl) (h1:scope.kind=.function:=by rfl)
  (h2:scope.names.all (λ y=>decide (scope.names.lookup y.1=↑y.2))=true:=by decide +kernel)
  (h4:scope.names.all (λ y=>!decide (y.2=.free)||(decide (esc.names.lookup y.1=↑.cell)||decide (esc.names.lookup y.1=↑.free)))=true:=by decide +kernel)
  (h5:pick.length=N'.length:=by rfl) (h6:pO N N' pick scope=true:=by decide +kernel):sY X N' pick scope:=by
 exact#[h1,λ y hy=>Ã3 (AV.mp h2 y hy),λ y hy hf=>?_,h5,by rw[hN];show h6];have:=AV.mp h4 y hy;rw[tp hf] at this;rw[hE];exists this
def Rj Ŭ {x:Str}(hN:X.N.Nodup) ŷ ķ:vC X (ð x pos) (hName i):=
 Rl (Tj hN hi hx hf)
def iI Å6{t:x_}Ų(h:qU X es t) ī (hn:(Ã1 es Ć).length=n) (AR:(Ã1 es Ć).findIdx? (·.1)=none):vC X (.Tuple es k pos) (qH n t):=
 Ri (Tg hc h.pg hn AR) h.mo
def SH Ŭ {x:Str}{pos':Pos}(hN:X.N.Nodup) ģ ŷ (hs:swapsWith e ↑(ð x pos') pos.line Ć=pure Õ)
  ķ:wI X (.Assign [ð x pos'] e pos) (v9 te (hName i)):=
 SJ (bX hN hi hx he.pe hs hf) he.mo
def gc (te:zu):wz:=fun Y S R=>te Ħ λ x S1=>match x with
 | Ņ=>R #[ds,À7] S1
 | .xN ds=>R #[ds,À7] S1
 | Ţ=>match S1 p with
  | some ê=>R #[ds,λ S=>Ç0] S1
  | _=>õ
 | _=>õ
def S_ {tg:Expr}(h:PD X e te):u7 X tg e (gc te):=by
 exact#[fun Y S Q Q' hq z=>h.mo ş (λ x S1 z=>?_) z,?_]
 .cases x with
  | ref p=>
   dsimp only at z ⊢;split at z
   .show Æ7
   .show z.elim
  | xN ds=>show Æ7
  | tup ds=>show Æ7
  | _=>show z
 .exact PI.imp (Tb h.pe) fun σ H R hu=>?_
  ext Ä;exact yb.go h.mo î;cases x with
  | tup ds=>
   ext ż;exact#[a,rfl,.inr #[#[xs,g1],h1 È1 λ i H2 S2 x1 x2 _=>#[λ d hd=>?_,λ hl=>#[xs,x1.lT g1,by rw[<- g2.length];show hl]]]];let#[y,hy,_]:=g2.get hd;exact#[#[xs,y,x1.lT g1,hy],Ä1];let#[rfl,q]:=q;show#[Æ8,x2,(zo.ext x1 ds g2).at hd (q xs (x1.lT g1))]
  | ref p=>
   dsimp only at h1;split at h1
   .rename_i ds e2;simp![zj] at q1;subst q1;let#[xs0,g1,_]:=p1 Å e2;exact#[p,rfl,.inl #[#[xs0,zU.of g1],h1 È1 λ i H2 S2 x1 x2 hk=>?_]];let#[xs,g3,g4]:=x2 Å hk;exact#[λ d hd=>?_,λ hl=>#[xs,zU.of g3,by rw[<- g4.length];show hl]];let#[y,hy,_]:=g4.get hd;exact#[#[xs,y,zU.of g3,hy],Ä1];let#[rfl,q]:=q;show#[Æ8,x2,g4.at hd (q xs (zU.of g3))]
   .show h1.elim
  | xN ds=>
   ext ż;exact#[a,rfl,.inl #[#[xs,g1.sq],h1 È1 λ i H2 S2 x1 x2 _=>#[λ d hd=>?_,λ hl=>#[xs,(x1.lU g1).sq,by rw[<- g2.length];show hl]]]];let#[y,hy,_]:=g2.get hd;exact#[#[xs,y,(x1.lU g1).sq,hy],Ä1];let#[rfl,q]:=q;show#[Æ8,x2,(zo.ext x1 ds g2).at hd (q xs (x1.lU g1).sq)]
  | _=>show h1.elim
end
end L3
namespace L4
open PySem PySem.W Ġ
def yq {α:Type}Ä4 (lt:à):KasT α->(α->Prop)->Prop
 | .ret a,Q=>Q a
 | .ask i j k,Q=>i<n/\j<n/\yq n lt (k (lt i j)) Q
theorem į {α:Type}Ų{lt:à}{Q Q':α->Prop}(hq:∀ a,Q a->Q' a):∀ {t:KasT α},yq n lt t Q->yq n lt t Q'
 | .ret _,h=>hq _ h
 | .ask ă,h=>#[h.1,h.2.1,į hq h.2.2]
theorem Ç1 Ä5 Ų{lt:à}{f:α->KasT β}{Q:β->Prop}:∀ {t:KasT α},yq n lt t (λ a=>yq n lt (f a) Q)->yq n lt (t.bind f) Q
 | .ret _,h=>h
 | .ask ă,h=>#[h.1,h.2.1,Ç1 h.2.2]
section
variable {Ų}{lt:à}
def Le (lt:à) (a b:Nat):Prop:=lt b a=Õ
structure Ord (lt:à):Prop where
 tr:∀ a b c,Le lt a b->Le lt b c->Le lt a c
 as:∀ a b,lt a b=true->Le lt a b
def Ord.refl í (a:Nat):Le lt a a:=by
 cases h:lt a a with
 | Õ=>show h
 | true=>show o.as a a h
def xo Ä4 (p:Ë):Prop:=p.Perm (ĕ n).toArray
theorem xo.size {p:Ë}(h:xo n p):p.size=n:=by rw[Array.Perm.size_eq h];simp
theorem xo.below {p:Ë}(h:xo n p) Ã7(hi:i<n):Ŧ<n:=by
 have hs:=h.size;have hm:Ŧ ∈p:=by
  rw[DE,Bf ⋯];show Array.getElem_mem ⋯
 have:Ŧ ∈(ĕ n).toArray:=(Array.Perm.mem_iff h).mp hm;exists this
def mC {p q:Ë}{i j:Nat}(h:p[i]?=q[j]?):Ŧ=q.getD j 0:=by rw[DE,DE,h]
def wV (lt:à) (p:Ë) (k:Nat):Prop:=∀ i j,i<=j->j<k->Le lt (Ŧ) (Æ j 0)
def sk (lt:à) (p:Ë) (k:Nat):Prop:=∀ i j,i<=j->j<k->Le lt (Æ j 0) (Ŧ)
def wV.next í {p:Ë}Å6(h:wV lt p k) (hk:1<=k) (hl:Le lt (Æ (k-1) 0) Đ):wV lt p (k+1):=λ i j A5 hj=>by
 by_cases Dq:j<k
 .show h i j A5 Dq
 .ext Ä6
  .subst hi;show ġ
  .show o.tr ă (h i (j-1) Ê) hl
def sk.next í {p:Ë}Å6(h:sk lt p k) (hk:1<=k) (hl:Le lt Đ (Æ (k-1) 0)):sk lt p (k+1):=λ i j A5 hj=>by
 by_cases Dq:j<k
 .show h i j A5 Dq
 .ext Ä6
  .subst hi;show ġ
  .show o.tr ă hl (h i (j-1) Ê)
theorem fX í Ę:∀ (f a:Nat),1<=a->a+f<=n->wV lt p a->
  yq n lt (kas_asc p f a) λ m=>a<=m/\m<=a+f/\wV lt p m/\(m=a+f\/đ=true)
 | 0,a,_,_,hs=>#[Am _,Am _,hs,.inl rfl]
 | f+1,a,h1,h2,hs=>by
  exact è;cases c:lt (Æ a 0) (Æ (a-1) 0) with
  | true=>show#[Am _,⋯,hs,.inr c]
  | Õ=>
   exact į ?_ (fX o hp f (a+1) Ê (hs.next o h1 c));rintro m ⟨g1,g2,g3,g4⟩;show#[⋯,⋯,g3,g4.imp (λ e=>⋯) id]
def nS Ę (i j:Nat):xo n (kas_rev p i j):=Array.Perm.trans (mirror_perm ŏ) hp
theorem nU Ę {i j:Nat}(hj:j<=n) (k:Nat):ŉ=if i<=k/\k<j then Æ (i+j-1-k) 0 else Æ k 0:=by
 have e:=getElem?_mirror_all (xs:=p) (i:=i) (j:=j) (by rw[hp.size];show hj) k;split
 ext Æ0
 .rename_i h;rw[Ò h] at e;show mC e
def rev_eq í Ę {i j:Nat}(hj:j<=n) (he:∀ a b,i<=a->a<j->i<=b->b<j->Ŕ) (k:Nat):
  Le lt (ŉ) Đ/\Le lt Đ (ŉ):=by
 rw[nU hp hj];split
 .rename_i h;show#[he Å Ê h.1 h.2,he Å h.1 h.2 Ê]
 .show#[ġ,ġ]
def sk.of_eq í {p q:Ë}Å6(h:sk lt p k) (e:∀ k,Le lt (q.getD k 0) Đ/\Le lt Đ (q.getD k 0)):sk lt q k:=λ i j A5 hj=>
 o.tr ă (e j).1 (o.tr ă (h i j A5 hj) (e i).2)
def dF (lt:à) (p:Ë) (m q:Nat):Prop:=∀ a b,m-(q+1)<=a->a<m->m-(q+1)<=b->b<m->Ŕ
theorem k_ í:∀ (f:Nat) (p:Ë) (m q:Nat),xo n p->1<=m->m+f<=n->sk lt p m->q+1<=m->dF lt p m q->
  yq n lt (kas_desc f p m q) λ r=>xo n r.1/\m<=r.2.1/\r.2.1<=m+f/\sk lt r.1 r.2.1/\r.2.2+1<=r.2.1/\dF lt r.1 r.2.1 r.2.2
 | 0,p,m,q,hp,_,_,hd,hq,hb=>#[hp,Am _,Am _,hd,hq,hb]
 | f+1,p,m,q,hp,h1,h2,hd,hq,hb=>by
  have one:∀ p':Ë,dF lt p' (m+1) 0:=λ p' a b a1 a2 b1 b2=>by
   have:a=b:=⋯;subst this;show ġ
  exact è;cases c:đ with
  | true=>
   ext ś;rw[Ø rfl];have hl:=o.as Å c;by_cases h0:q>0
   .rw[Ø h0];have e:=rev_eq o hp (i:=m-(q+1)) (j:=m) ⋯ hb;have IT:=nS hp (m-(q+1)) m;exact į ?_ (k_ o f _ (m+1) 0 IT Ê ((hd.of_eq o e).next o h1 (o.tr ă (e m).1 (o.tr ă hl (e (m-1)).2))) ⋯ (one _));ext ç
   .rw[Ò h0];exact į ?_ (k_ o f _ (m+1) 0 hp Ê (hd.next o h1 hl) ⋯ (one _));ext ç
  | Õ=>
   ext È2;exact è;cases d:lt (Æ (m-1) 0) (Æ m 0) with
   | true=>show#[hp,Am _,(by change m<=m+(f+1);lia),hd,hq,hb]
   | Õ=>
    ext È2;exact į ?_ (k_ o f _ (m+1) (q+1) hp Ê (hd.next o h1 d) ⋯ λ a b a1 a2 b1 b2=>?_)
    .ext ç
    .by_cases ha:a=m
     .by_cases IC:b=m
      .subst ha;subst IC;show ġ
      .subst ha;show o.tr ă d (hb (a-1) b Ê Ê)
     .by_cases IC:b=m
      .subst IC;show o.tr ă (hb a (b-1) Ê Ê) c
      .show hb a b Ê Ê
theorem cK í Á1 (h2:m<=n) (hd:sk lt p m):yq n lt (kas_tail3 m n p) Ď:=by
 exact Ç1 (į ?_ (fX o (nS hp 0 m) (n-m) m h1 ⋯ ů))
 .rintro k ⟨a1,a2,a3,_⟩;show#[nS hp 0 m,⋯,a3]
 .rw[nU hp h2,nU hp h2,Ø #[A_ _,⋯],Ø #[A_ _,hj]];show hd Å Ê
theorem Yk í Á1 (h2:m<n) (hd:sk lt p m) (hl:đ=true):yq n lt (kas_descPart m n p) Ď:=by
 exact Ç1 (į ?_ (k_ o (n-(m+1)) p (m+1) 0 hp Ê (hd.next o h1 (o.as Å hl)) ⋯ λ a b a1 a2 b1 b2=>?_))
 .rintro⟨p',m',q'⟩ ⟨a1,a2,a3,a4,a5,a6⟩;dsimp only at a1 a2 a3 a4 a5 a6 ⊢;by_cases h0:q'>0
  .rw[Ø h0];show cK o (nS a1 Å) Ê (a4.of_eq o (rev_eq o a1 (i:=m'-(q' + 1)) (j:=m') ⋯ a6))
  .rw[Ò h0];show cK o a1 Ê a4
 .have:a=b:=⋯;subst this;show ġ
theorem Kf í Ę (h1:1<=n):yq n lt (kas_count n p) Ď:=by
 exact Ç1 (į ?_ (fX o hp (n-1) 1 (Am _) ⋯ ů))
 .rintro m ⟨a1,a2,a3,a4⟩;by_cases hm:m=n
  .rw[Ø (by simp[hm])];show#[hp,⋯,a3]
  .rw[Ò (by simp[hm])];have hl:đ=true:=a4.resolve_left ⋯;by_cases h2:m>1
   .rw[Ø h2];exact è;cases c:lt (Æ 0 0) (Æ (m-1) 0) with
    | true=>show#[hp,⋯,a3]
    | Õ=>
     ext È2;have all:∀ a b,0<=a->a<m->0<=b->b<m->Ŕ:=λ a b _ ha _ hb=>
      o.tr ă (a3 a (m-1) Ê) (o.tr ă c (a3 0 b ⋯ hb))
     have e:=rev_eq o hp (i:=0) (j:=m) ⋯ all;exact Yk o (nS hp 0 m) Ê (λ i j A5 hj=>o.tr ă (e j).1 (o.tr ă (all Å (A_ _) hj (A_ _) ⋯) (e i).2)) ?_;rw[nU hp ⋯,nU hp ⋯,Ò ⋯,Ø ⋯];cases q:lt (Æ m 0) (Æ (0+m-1-(m-1)) 0) with
     | true=>rfl
     | Õ=>
      have:=o.tr ă (all (m-1) (0+m-1-(m-1)) (A_ _) ⋯ (A_ _) ⋯) q;unfold Le at this;rw[this] at hl;cases hl
   .rw[Ò h2];have e:m=1:=⋯;subst e;exact Yk o hp (Am _) ⋯ (ů) hl;ext Ň
 .ext Ň
theorem iB {p:Ë}Å6(hp:xo n p) (hk:k<n) (hs:wV lt p k) í:∀ (f l r:Nat),r-l<=f->l<=r->r<=k->(∀ i,i<l->Le lt (Ŧ) Đ)->(∀ i,r<=i->i<k->lt Đ (Ŧ)=true)->
  yq n lt (kas_place p k f l r) λ m=>m<=k/\(∀ i,i<m->Le lt (Ŧ) Đ)/\(∀ i,m<=i->i<k->lt Đ (Ŧ)=true)
 | 0,l,r,h0,h1,h2,ha,hb=>by
  ext Á2
 | f+1,l,r,h0,h1,h2,ha,hb=>by
  unfold kas_place;by_cases Cz:l≥r
  .rw[Ø Cz];ext Á2
  .rw[Ò Cz];exact#[hp.below hk,hp.below ⋯,?_];cases c:lt Đ (Æ ((l+r)/2) 0) with
   | true=>
    ext ś;rw[Ø rfl];exact iB hp hk hs o f l ((l+r)/2) Ê ⋯ ha λ i hi Es=>?_;cases q:lt Đ (Ŧ) with
    | true=>rfl
    | Õ=>
     have:=o.tr ă (hs ((l+r)/2) i hi Es) q;unfold Le at this;rw[this] at c;cases c
   | Õ=>
    ext È2;exact iB hp hk hs o f ((l+r)/2+1) r Ê h2 (λ i hi=>?_) hb;show o.tr ă (hs i ((l+r)/2) Ê) c
theorem YL í:∀ (f:Nat) (p:Ë) (k:Nat),xo n p->k+f=n->wV lt p k->yq n lt (kas_bin f p k) λ r=>xo n r/\wV lt r n
 | 0,p,k,hp,h1,hs=>by
  have:k=n:=⋯;subst this;show#[hp,hs]
 | f+1,p,k,hp,h1,hs=>by
  exact Ç1 (į ?_ (iB hp ⋯ hs o k 0 k ⋯ (A_ _) (Am _) (λ i hi=>ž hi (Nat.not_lt_zero _)) λ i hi Es=>ž Es ⋯));rintro l ⟨a1,a2,a3⟩;exact YL o f _ (k+1) (Array.Perm.trans (bubble_perm ă) hp) ⋯ ů;have ev:∀ x,(bubble p k (k-l)).getD x 0=if x=l then Æ k 0 else if l<x/\x<=k then Æ (x-1) 0 else Æ x 0:=λ x=>by
   have e:=getElem?_bubble (xs:=p) (src:=k) (by rw[hp.size];lia) (k-l) ⋯ x;rw[show k-(k-l)=l by lia] at e;split
   ext Æ0
   .rename_i h;rw[Ò h] at e;split
    .rename_i h';rw[Ø h'] at e;show mC e
    .rename_i h';rw[Ò h'] at e;show mC e
  rw[ev i,ev j];by_cases hi:i=l
  .rw[Ø hi];by_cases HN:j=l
   .rw[Ø HN];show ġ
   .rw[Ò HN,Ø #[⋯,⋯]];show o.as Å (a3 (j-1) Ê)
  .rw[Ò hi];by_cases HN:j=l
   .rw[Ø HN,Ò ⋯];show a2 i ⋯
   .rw[Ò HN];by_cases hi2:l<i/\i<=k
    .rw[Ø hi2,Ø #[⋯,⋯]];show hs Å Ê
    .rw[Ò hi2];by_cases hj2:l<j/\j<=k
     .rw[Ø hj2];show hs Å Ê
     .rw[Ò hj2];show hs Å A5 ⋯
theorem nL í (h1:1<=n):yq n lt (kas_sort n) λ r=>xo n r/\wV lt r n:=by
 have hp:xo n (ĕ n).toArray:=Array.Perm.refl _;exact Ç1 (į ?_ (Kf o hp h1));rintro⟨m,p⟩ ⟨a1,a2,a3⟩;dsimp only at a1 a2 a3 ⊢;by_cases hm:m<n
 .rw[Ø hm];exact YL o _ p (max m 1) a1 ⋯ ?_;by_cases h0:m=0
  .subst h0;intro i j A5 hj;ext Ň
  .rw[show max m 1=m by lia];show a3
 .rw[Ò hm];have:m=n:=⋯;subst this;show#[a1,a3]
end
end L4
namespace L4
open PySem PySem.W PySem.Calls Ġ
section
variable {Ō}
def Core (prog:Program) (w:World) (A:Around) (E:Ag) (vs:Ad) (Out:Array ħ->Prop) (s6:č):Prop:=
 wpAny Ł A (keyKind' Ï) (fun κ s'=>s'=s6/\wpAny Ł A ((sortRuns').run (SortSt.mk' κ (Ã4) Ė 7 none))
  (λ r HJ=>HJ=s6/\failedOf r.2=none/\Out ((arrOf r.2).map Ĕ)/\(arrOf r.2).size=Ñ) E s') E s6
def Zd À5{vs:Ad}Ų{P:PySem.Fin->ŕ}{Out:Array ħ->Prop}(ho:Ç2 a=↑(seqObj "list" Ï n)) (hz:Ñ<=Ĳ)
  (core:2<=Ñ->∀ s6:č,(∀ b o,b≠a->ì->s6.heap.get? b=↑o)->Core prog w A E vs Out s6) (short:Ñ<2->Out Ï)
  (fin:∀ out:Array ħ,Out out->out.size=Ñ->P (.done (.ret .none)) { s with heap:=sortedHeap s.heap a vs out }):
  wpAny Ł A (Builtin.«list.sort» #[[å a],[]]) P E s:=by
 have ha:a<ë:=An ho;obtain⟨e1,g1⟩:∃ e1,(Á0).get? a=↑(seqObj "list" Ė e1):=#[_,Ç3 ho (λ _=>Ė)];have hz':vs.toArray.size<=Ĳ:=by rw[AG];show hz
 have g6:Ù a=↑(seqObj "list" Ė e1):=gV _ (gV _ g1);have keep:∀ b o,b≠a->ì->Ù b=↑o:=
  λ b o hb e=>gV _ (gV _ (by rw[zaL ŏ hb];show e))
 rw[list_sort_plain];exact MX (listItems_at ho rfl (MX (listUpdate_at ho rfl (MX (seqEpoch_at g1 rfl (MX (wpAny_newTuple (MX (wpAny_newList (za7 ?_))) (by exists hz))))) hz' (A_ _))));by_cases h2:vs.toArray.size<2
 .rw[Ø h2,Ø h2];have e2:Ā=Ï:=by
   change (Ã4).map Ĕ=Ï;apply Array.ext #[];intro i h1 h2;simp
  exact MX (Ac ?_);ext ś;rw[StateT.run_pure];exact MX (Ac ?_);ext ś;exact Ĝ
  .ext Á5;have q:=fin _ (e2▸short (by exists h2)) (by rw[e2];simp);show Ac q
  .change ((Ā)).size<=Ĳ+1;rw[e2];lia
 .rw[Ò h2,Ò h2];have h2':2<=Ñ:=by exists h2
  exact MX (za6 (core h2' _ keep) (fun κ s7 #[hs,h7]=>?_) λ _ _ z=>z);subst hs;exact MX (za6 h7 (λ r s8 #[hs,hf,Fe,AL]=>?_) λ _ _ z=>z);subst hs;obtain⟨⟨⟩,st⟩:=r;exact Ĝ
  .have Iw:failedOf st=none:=hf;rw[Iw];ext Á5;show Ac (fin _ Fe (by rw[CT];show AL))
  .change ((arrOf st).map Ĕ).size<=Ĳ+1;rw[CT];have:(arrOf st).size=Ñ:=AL;lia
def VM {h:Heap}{vs:Ad}(out:Ar):∃ e,(sortedHeap (h.push ñ) h.objs.size vs out).get? h.objs.size=↑(seqObj "list" out e):=by
 have there:(h.push ñ).get? h.objs.size=↑ ñ:=AW _ rfl;show#[_,Ç3 (gV _ (gV _ (Ç3 there λ _=>Ė))) λ _=>out]
def ic À5{vs:Ad}{Q:Ag}{Out:Array ħ->Prop}{N:ą}
  (C:∀ Q':List ħ->ŕ,(∀ h1 tk,(∀ b o,¬ N b->ì->h1.get? b=↑o)->Ŀ)->wpAny Ł A.in1 (collect (å a)) Q' E s) (hz:Ñ<=Ĳ)
  (core:2<=Ñ->∀ s6:č,(∀ b o,¬ N b->ì->s6.heap.get? b=↑o)->Core prog w A.in1.in1 E vs Out s6) (short:Ñ<2->Out Ï)
  (fin:∀ (out:Ar) (h':Heap) (tk l:Nat),Out out->out.size=Ñ->ë<=l->(∀ b o,¬ N b->ì->h'.get? b=↑o)->(∃ e,h'.get? l=↑(seqObj "list" out e))->Q (å l) { s with heap:=h',toks:=tk }):
  wpAny Ł A Á8 Q E s:=by
 exact Calls.call_function_entry kind_sorted plain_sorted entry_sorted (args_sorted1 _) ?_;unfold Builtin.«sorted»;exact MX (m:=checkCount "sorted" 1 1 _) (Ac (MX (C _ λ h1 tk k1 k2=>MX (wpAny_newList ?_ hz))));have hoL:(h1.push ñ).get? h1.objs.size=↑ ñ:=AW _ rfl;change wpAny Å ă { s with heap:=h1.push ñ,toks:=tk };exact MX (za7 (zaB slot_list_sort #[_,hoL,rfl] entry_list_sort (Zd hoL hz (λ h2 s6 k=>core h2 s6 λ b o n q=>k b o (AB (An (k1 b o n q))) (gV _ (k1 b o n q))) short λ out g1 g2=>#[_,rfl,?_]) (args_list_sort _)));exact Ac #[_,rfl,fin out _ tk h1.objs.size g1 g2 k2 (λ b o n q=>?_) (VM out)];have q1:=k1 b o n q;have hb:=AB (An q1);unfold sortedHeap;rw[zaL ŏ hb];exact gV _ (gV _ ?_);rw[zaL ŏ hb];show gV _ q1
end
end L4
namespace L4
open PySem PySem.W PySem.Calls Ġ L2
theorem kF:∀ a b:ù,Û a b=true->Û b a=Õ
 | [],[],h=>ſ
 | [],_::_,_=>rfl
 | _::_,[],h=>ſ
 | x::a,y::b,h=>by
  rw[HT.rD] at h ⊢;by_cases e:x=y
  .subst e;rw[Ø rfl] at h ⊢;show kF a b h
  .rw[Ò e] at h;rw[Ò (Ne.symm e)];have:=Ã3 h;show tx ⋯
theorem hZ:∀ a b:ù,Û a b=Õ->Û b a=Õ->a=b
 | [],[],_,_=>rfl
 | [],_::_,h,_=>ſ
 | _::_,[],_,h=>ſ
 | x::a,y::b,h,h'=>by
  rw[HT.rD] at h h';by_cases e:x=y
  .subst e;rw[Ø rfl] at h h';rw[hZ a b h h']
  .rw[Ò e] at h;rw[Ò (Ne.symm e)] at h';have h1:=ł h;have h2:=ł h';lia
theorem kE:∀ a b c:ù,Û b a=Õ->Û c b=Õ->Û c a=Õ
 | [],[],[],_,_=>rfl
 | [],[],_::_,_,h=>h
 | [],_::_,[],_,h=>ſ
 | [],_::_,_::_,_,_=>rfl
 | _::_,[],_,h,_=>ſ
 | _::_,_::_,[],_,h=>ſ
 | x::a,y::b,z::c,h,h'=>by
  rw[HT.rD] at h h' ⊢;by_cases e1:y=x
  .subst e1;rw[Ø rfl] at h;by_cases e2:z=y
   .subst e2;rw[Ø rfl] at h' ⊢;show kE a b c h h'
   .rw[Ò e2] at h' ⊢;show h'
  .rw[Ò e1] at h;have h1:=ł h;by_cases e2:z=y
   .subst e2;rw[Ò e1];show h
   .rw[Ò e2] at h';have h2:=ł h';rw[Ò ⋯];show tx ⋯
theorem km {α:Type}{r:α->α->Prop}(an:∀ a b,r a b->r b a->a=b):∀ {l₁ l₂:List α},l₁.Perm l₂->l₁.Pairwise r->l₂.Pairwise r->l₁=l₂
 | [],l₂,h,_,_=>(List.nil_perm.mp h).symm
 | a::l₁,[],h,_,_=>ž (List.perm_nil.mp h) #[]
 | a::l₁,b::l₂,h,h1,h2=>by
  have Bx:a=b:=by
   have ha:a∈b::l₂:=h.mem_iff.mp Aw;have hb:b∈a::l₁:=h.mem_iff.mpr Aw;rcases Ao.mp ha with e | ha
   .show e
   .rcases Ao.mp hb with e | hb
    .show e.symm
    .show an Å (List.rel_of_pairwise_cons h1 hb) (List.rel_of_pairwise_cons h2 ha)
  subst Bx;rw[km an (List.Perm.cons_inv h) (BJ.mp h1).2 (BJ.mp h2).2]
def yd È3:Ç:=FI.mergeSort λ a b=>! Û b a
def wg È3:(yd FI).Perm FI:=List.mergeSort_perm Å
def ig È3:(yd FI).Pairwise Ī:=by
 have:=List.pairwise_mergeSort (le:=λ a b:ù=>! Û b a) (λ a b c h1 h2=>by simp at h1 h2 ⊢;show kE a b c h1 h2)
  (λ a b=>by
   cases h:Û b a with
   | Õ=>simp
   | true=>simp[kF b a h]) FI
 show this.imp λ h=>by exists h
def lW {FI out:Ç}(hp:out.Perm FI) (hs:out.Pairwise Ī):out=yd FI:=
 km (λ a b h1 h2=>hZ a b h2 h1) (hp.trans (wg FI).symm) hs (ig FI)
def sD È3 (i j:Nat):Bool:=Û (FI.getD i []) (FI.getD j [])
def kf È3:Ord (sD FI):=#[λ _ _ _ h1 h2=>kE ă h1 h2,λ _ _ h=>kF Å h]
section
variable {Ō}{Q:Bool->ŕ}
theorem Zo {b:Bool}:∀ (ns ms:ù) (us ws:Ad) Ŭ,IntsAre us ns->IntsAre ws ms->Q (Û ns ms) s->KatLex prog w A b (Å9) Q (us.zip ws) i s
 | [],[],_,_,_,.nil,.nil,h=>ĳ
 | [],_::_,_,_,_,.nil,Ĺ ă,h=>ĳ
 | _::_,[],_,_,_,Ĺ ă,.nil,h=>ĳ
 | n::ns,m::ms,_,_,i,Ĺ _ t hu,Ĺ _ u hw,h=>by
  rw[HT.rD] at h;exact kat_cons (SeqAt.EqAt.int_int n t m u prog w Å (kat_go (λ e=>kat_yes ?_) λ e=>kat_no ?_))
  .have e':n=m:=by exists e
   rw[Ø e'] at h;rw[show decide ((n::ns).length<(m::ms).length)=Å9 by simp];show Zo ns ms Å (i+1) hu hw h
  .have e':¬ n=m:=by exists e
   rw[Ò e'] at h;cases b&&i == 0 with
   | true=>show kat_lt_int h
   | Õ=>show kat_one Å (lt_int h)
def qR (h:Heap):List ħ->Ç->Prop:=Paired λ v r=>r≠[]/\∃ b o Aa n,v=å b/\h.get? b=↑o/\o.cls=.type "tuple"/\o.data=.seq Aa n/\IntsAre Aa.toList r
theorem qR.rL {h:Heap}:∀ ŵ,qR h vs FI->∃ fs,KatTups h vs fs/\fs.length=Ñ/\∀ v∈fs,∃ n t,v=Value.int n t
 | _,_,.nil=>#[[],KatTups.nil,rfl,λ _ hv=>ž hv #[]]
 | _,_,Ĺ #[AA,b,o,Aa,n,hv,ho,hc,hd,hi] r=>by
  let#[fs,h1,h2,h3]:=qR.rL r;subst hv;let#[Aa]:=Aa;cases hi with
  | nil=>show ž rfl AA
  | cons k t _=>show#[ĉ k t::fs,KatTups.cons ho hc hd rfl h1,by simp[h2],λ v hv=>(Ao.mp hv).elim (λ e=>#[k,t,e]) (h3 v)]
theorem Paired.at' Ä5{F:α->β->Prop}:∀ {l₁:List α}{l₂:List β}Ã7,Paired F l₁ l₂->i<l₁.length->∀ (d:α) (e:β),F (l₁.getD i d) (l₂.getD i e)
 | _,_,_,.nil,h,_,_=>ž h #[]
 | _,_,0,Ĺ r _,_,_,_=>r
 | _,_,i+1,Ĺ _ t,h,d,e=>by exists Paired.at' (i:=i) t (by exists h) d e
def qR.ask ŵ{b:Bool}(r:qR s.heap vs FI) {i j:Nat}(hi:i<Ñ) (hj:j<Ñ) {C:Bool->ŕ}(h:C (sD FI i j) s):kas_ask prog w A (tuples' b) vs i j C s:=by
 let#[_,b1,o1,its1,n1,e1,g1,_,d1,q1]:=Paired.at' r hi Ã5 [];let#[_,b2,o2,GQ,n2,e2,g2,_,d2,q2]:=Paired.at' r hj Ã5 [];unfold kas_ask;rw[e1,e2];exact kat_lt g1 d1 g2 d2 ?_;have l1:=q1.length;have l2:=q2.length;rw[Bw] at l1 l2;rw[l1,l2];show Zo ŏ 0 q1 q2 h
theorem lH {α:Type}Ų{lt:à}{cmp:Nat->Nat->(Bool->ŕ)->ŕ}{Q:α->ŕ}(hc:∀ i j C,i<n->j<n->C (lt i j) s->cmp i j C s):∀ {t:KasT α},yq n lt t (λ a=>Q a s)->t.kasWp cmp Q s
 | .ret _,h=>h
 | .ask i j _,h=>hc i j _ h.1 h.2.1 (lH hc h.2.2)
def eE (vs:Ad) È3 (out:Ar):Prop:=
 ∃ ps:List (ħ × ù),ps.Perm (vs.zip FI)/\out.toList=Á9/\(ps.map Ĕ).Pairwise Ī
theorem Wt Ä5{l:List α}{m:List β}(h:l.length=m.length) (a:α) (b:β):(ĕ l.length).map (λ i=>(l.getD i a,m.getD i b))=l.zip m:=by
 exact DD (by simp;lia) λ i h1 h2=>?_;have h3:i<l.length/\i<m.length:=by simp at h1;lia
 simp[h3.1,h3.2]
theorem cQ {FI:Ç}{p:Ë}Ų(hn:p.size=n) (h:wV (sD FI) p n):(p.toList.map λ i=>FI.getD i []).Pairwise Ī:=by
 rw[B8,CH];intro i j hi hj A5;have:=h i j (Bl A5) (by rw[<- hn];exists hj);simp![Bw] at hi hj;unfold Le sD at this;simpa [DE,hi,hj] using this
theorem Kh ŵ(r:qR s.heap vs FI) (h2:2<=Ñ) (GL:Ñ<64):Core prog w A E vs (eE vs FI) s:=by
 let#[fs,t,hl,hf]:=r.rL;unfold Core;exact kat_kind (T:=.type "int") t ⋯ (λ v hv=>?_) rfl #[rfl,?_]
 .let#[n,t,rfl]:=hf v hv;show Looks.of_pure rfl
 .exact kat_run (ks:=vs) (Q:=λ st HJ=>HJ=s/\failedOf st=none/\eE vs FI ((arrOf st).map Ĕ)/\(arrOf st).size=Ñ) (G:=λ p HJ=>HJ=s/\xo Ñ p/\wV (sD FI) p Ñ) rfl h2 GL (λ p st s' hs ha C_ hg=>?_) ?_
  .let#[h1,h3,h4]:=hg;exact#[h1,C_,#[p.toList.map λ i=>(vs.getD i Ã5,FI.getD i []),?_,?_,?_],by rw[ha,CT];show hs]
   .rw[<- Wt (Paired.length r) Ã5 []];have:=Array.Perm.toList h3;show List.Perm.map _ (by exists this)
   .rw[kat_snds rfl ha,AI];rfl
   .rw[AI];show cQ hs h4
  .show lH (λ i j C hi hj hC=>r.ask hi hj hC) (į (λ p hp=>#[rfl,hp]) (nL (kf FI) ⋯))
end
section
variable {ŭ}
def Paired.perm Ä5{F:α->β->Prop}{l l':List α}(p:l'.Perm l):∀ {m:List β},Paired F l m->∃ m',m'.Perm m/\Paired F l' m':=by
 induction p with
 | nil=>intro m h;show#[m,Æ8,h]
 | cons x _ ih=>
  intro m h;cases h with
  | cons a h=>
   let#[m',h1,h2]:=ih h;show#[_,h1.cons _,Ĺ a h2]
 | swap x y l=>
  intro m h;cases h with
  | cons a h=>
   cases h with
   | cons b h=>show#[_,.swap ă,Ĺ b (Ĺ a h)]
 | trans _ _ ih1 ih2=>
  intro m h;let#[m1,h1,h2]:=ih2 h;let#[m2,h3,h4]:=ih1 h2;show#[m2,h3.trans h1,h4]
abbrev Xc Ĉ À3 (v:V) (r:ù):Prop:=r≠[]/\∃ b,v=V.ref b/\yi ý b (r.map V.int)
abbrev oV Ĉ À3 (ys:Æ9) È3:Prop:=Paired (Xc ý) ys FI
abbrev VR Ĉ À3:List ħ->ŧ->Prop:=Paired λ u q=>RelV q.1 u/\Xc ý q.1 q.2
theorem VR.of À4 ė:∀ {ys:Æ9}ŵ,Vals ys vs->oV ý ys FI->VR ý vs (ys.zip FI)
 | _,_,_,.nil,.nil=>.nil
 | _,_,_,Ĺ r t,Ĺ r' t'=>Ĺ #[r,r'] (VR.of t t')
abbrev eA (qs:ŧ) À3 (Q:VK):Prop:=∀ p (ps:ŧ),H p=none->ps.Perm qs->(ps.map Ĕ).Pairwise (Ī)->Q (Ţ) (upd H p (.lst (Á9)))
def VN {FH:Aj}{σ:L2.St}ė{s:č}À5{vs:Ad}{qs:ŧ}{Q:VK}Â
  (C:∀ Q':List ħ->ŕ,(∀ h1 tk,(∀ b o,¬ õ->ì->h1.get? b=↑o)->Ŀ)->wpAny (model Ĥ) X.A.in1 (collect (å a)) Q' X.xe s)
  (hv:VR Ð vs qs) (GL:qs.length<64) (q:eA qs H Q):wpAny (model Ĥ) X.A Á8 (EP X FH σ Q) X.xe s:=by
 have hl:Ñ=qs.length:=Paired.length hv;have hz:qs.length<=Ĳ:=Bc (Bl GL) ();have Ha:∀ h6:Heap,(∀ b o,¬ õ->ì->h6.get? b=↑o)->qR h6 vs Ç4:=λ h6 k=>by
  clear q hl GL hz C
  induction hv with
  | nil=>show .nil
  | cons g t ih=>
   exact Ĺ ?_ ih;let#[r1,AA,b,e1,hb]:=g;rw[e1] at r1;cases r1;let#[GQ,IE,#[o,e,hc,n,hd],_]:=I.tuple hb;show#[AA,b,o,_,n,rfl,k Å id e,hc,hd,by exists intsAre_of IE]
 exact ic (Out:=eE vs Ç4) C ⋯ (λ h2 s6 k=>Kh (Ha _ k) h2 ⋯) (λ h1=>#[vs.zip Ç4,Æ8,by rw[List.map_fst_zip (by simp;lia)],?_]) λ out h' tk p ho hs hp k D5=>?_
 .rw[List.map_snd_zip (by simp;lia),CH];intro i j hi hj A5;simp at hi hj;lia
 .let#[ps,g1,g2,g3]:=ho;let#[e,he]:=D5;have z:Paired (λ p q=>RelV q.1 p.1/\p.2=q.2) (vs.zip Ç4) qs:=by
   clear g1 hs hl GL hz C Ha q
   induction hv with
   | nil=>show .nil
   | cons a _ ih=>show Ĺ #[a.1,rfl] ih
  let#[qs',q1,q2]:=Paired.perm g1 z;have f:Vals (qs'.map (·.1)) (Á9)/\qs'.map Ĕ=ps.map Ĕ:=by
   clear q1 g1 g2 g3
   induction q2 with
   | nil=>show#[.nil,rfl]
   | cons a _ ih=>show#[Ĺ a.1 ih.1,by rw[AJ,AJ,ih.2,a.2]]
  exact#[Ţ,_,I.laid (t':=tk) (o:=.lst (qs'.map (·.1))) (λ b o e=>k b o id e) hp #[?_,out.toList,e,by rw[g2];show f.1,by exists he],rfl,q p qs' (I.zr.fresh hp) q1 (by rw[f.2];show g3)];rw[Af,q1.length_eq];show hz
end
end L4
namespace L2
open PySem PySem.Spec Ġ
def xg (ty T:String):Bool:=ty == T||(ty == "bool"&&T == "int")
def lM (ty T:String):Bool:=PySem.W.kitMeta T&&decide ((fastBuiltinMro ty).map (λ l=>l.contains (Value.type T))=↑ Â1)
def Vb:(["NoneType","bool","int","str","tuple","list","dict"].all λ ty=>["int","bool","tuple","list","str"].all λ T=>lM ty T)=true:=by decide +kernel
def Mn À4{ty T:String}(h:lM ty T=true):PySem.W.kitOne K Â3=↑ Â1:=by
 unfold lM at h;rw[AK] at h;unfold PySem.W.kitOne;split
 .rename_i e;have e':ty=T:=by have:=eq_of_beq e;injection this
  subst e';simp[xg]
 .change (if PySem.W.kitMeta T=true then PySem.W.subIn K Â3 else none)=_;rw[Ø h.1];show Ã3 h.2
def Xb Ĉ À3:V->String->Prop
 | .zm,t=>t="NoneType"
 | .bl _,t=>t="bool"
 | ĉ _,t=>t="int"
 | .str _,t=>t="str"
 | å a,t=>(t="tuple"/\∃ xs,yi ý a xs)\/(t="list"/\∃ xs,zU ý a xs)\/(t="dict"/\∃ Aq,H a=↑(.dK Aq))
 | _,_=>õ
def K7 ŭ:yS X (.builtin "isinstance") (λ xs H Q=>∃ x T ty,xs=[x,.ty T]/\Xb Ð x ty/\lM ty T=true/\Q (.bl Â1) H):=by
 intro FH s σ H xs us Q I r h;let#[x,T,ty,rfl,hx,hT,q]:=h;let#[u,c,rfl,ru,rc]:=vals2 r;cases (show c=Value.type T from rc);have e:PySem.W.kitOne X.K Â3=↑ Â1:=Mn hT;have fin:∀ tk,EP X FH σ Q (.bool Â1) { s with toks:=tk }:=λ tk=>#[.bl _,H,I.tok tk,rfl,q];cases x with
 | zm=>cases (show u=Ã5 from ru);cases Ŗ;show ü PySem.W.kitx_none Ő
 | bl y=>cases (show u=Value.bool y from ru);cases Ŗ;show ü PySem.W.kitx_bool Ő
 | int i=>let#[t,rfl]:=(show ∃ t,u=Value.int i t from ru);cases Ŗ;show ü PySem.W.kitx_int Ő
 | str y=>let#[t,rfl]:=(show ∃ t,u=Value.str y t from ru);cases Ŗ;show ü PySem.W.kitx_str Ő
 | ref a=>
  cases (show u=Value.ref a from ru);rcases hx with ⟨rfl,ys,hq⟩ | ⟨rfl,ys,hq⟩ | ⟨rfl,Aq,hq⟩
  .let#[Aa,_,#[o,h1,h2,_],_]:=I.tuple hq;show ü PySem.W.kitx_tuple I.y7 #[o,h1,h2] ß
  .let#[Aa,_,#[o,n,h1,h2,_],_]:=I.list hq;show ü PySem.W.kitx_list I.y7 #[o,h1,h2] ß
  .let#[_,_,vs,_,p]:=(show xH Ĥ H s.heap a (.dK Aq) from I.zr a _ hq)
   let#[o,es,ep,h1,h2,_]:=p;show ü PySem.W.kitx_dict I.y7 #[o,h1,h2.1] ß
 | _=>show hx.elim
end L2
namespace L3
open PySem PySem.Spec L2
open Ġ hiding St
section
variable {ŭ}{À4}{a b e:Expr}{es:œ}{te:zu}{tA:ym}{pos p q:Pos}
def RN (hm:X.mg "len"=none) ó (hg:Gl X "len") Î:PD X (À0 (ð "len" p) Ĭ) (xR uo tA):=
 sG (t9 (K4.or K3) hg hm PySem.boot_len ĭ) uo.mo uo.fits ha.mo
def RM (hm:X.mg "list"=none) ó (hg:Gl X "list") Î:PD X (À0 (ð "list" p) Ĭ) (xR um tA):=
 sG (pP K1 hg hm PyProof.Rows.boot_list ĭ) um.mo um.fits ha.mo
def Rr (hm:X.mg "tuple"=none) ó (hg:Gl X "tuple") Î:PD X (À0 (ð "tuple" p) Ĭ) (xR uj tA):=
 sG (pP Kq hg hm PyProof.Rows.boot_tuple ĭ) uj.mo uj.fits ha.mo
abbrev Yb:xE:=vO λ i j=>ĉ (if j>i then j else i)
abbrev Ya:xE:=vO λ i j=>ĉ (if j<i then j else i)
def RE (hm:X.mg "max"=none) ó ī (hg:Gl X "max") Î:PD X (À0 (ð "max" p) Ĭ) (xR Yb tA):=
 sG (t9 (K0 hc) hg hm boot_max ĭ) Å4
def RD (hm:X.mg "min"=none) ó ī (hg:Gl X "min") Î:PD X (À0 (ð "min" p) Ĭ) (xR Ya tA):=
 sG (t9 (Kz hc) hg hm boot_min ĭ) Å4
def vY (r:ù):D:=.tup (r.map D.int)
theorem zo.nX ė:∀ {ps:ŧ},(∀ q∈ps,zj ý (vY q.2) q.1)->zo ý ((ps.map Ĕ).map vY) (Á9)
 | [],_=>.nil
 | q::ps,h=>Ĺ (h q Aw) (zo.nX λ q hq=>h q (AD _ hq))
theorem zo.jJ ė:∀ {FI:Ç}{ys:Æ9},zo ý (FI.map vY) ys->∀ q∈ys.zip FI,zj ý (vY q.2) q.1
 | [],ys,_,q,hq=>by simp at hq
 | r::FI,ys,h,q,hq=>by
  rw[AJ] at h;simp![zo] at h;let#[x,ys',rfl,h1,h3]:=h;rcases Ao.mp hq with e | hq
  .subst e;show h1
  .show zo.jJ h3 q hq
theorem iu ė:∀ {FI:Ç}{ys:Æ9},zo ý (FI.map vY) ys->(∀ r∈FI,r≠[])->L4.oV ý ys FI
 | [],ys,h,_=>by simp![BA,zo] at h;subst h;show .nil
 | r::FI,ys,h,hn=>by
  rw[AJ] at h;simp![zo,vY,zj] at h;let#[x,ys',rfl,#[a,xs,rfl,g1,g2],h3]:=h;rw[g2.ints] at g1;show Ĺ #[hn r Aw,a,rfl,g1] (iu h3 λ r' hr=>hn r' (AD _ hr))
def Rc Â8 (ha:xc X [a] tA) (hg:Gl X "range") (hs:starEach [a] Ć=[(Õ,eval a Ć)]):u7 X tg (À0 (ð "range" p) [a] [] pos) (gg tA):=Rf (Td hg hm ha.pa hs) ha.mo
def Ra Â8 (ha:xc X [a,b] tA) (hg:Gl X "range") (hs:starEach [a,b] Ć=[(Õ,eval a Ć),(Õ,eval b Ć)]) (Ij:starEach [b] Ć=[(Õ,eval b Ć)]):u7 X tg (À0 (ð "range" p) [a,b] [] pos) (gd tA):=Rb (Tc hg hm ha.pa hs Ij) ha.mo
def rl (d:D) ŋ:ĩ String:=match d with
 | .zm=>↑"NoneType"
 | .bl _=>↑"bool"
 | ĉ _=>↑"int"
 | .str _=>↑"str"
 | .tup _=>↑"tuple"
 | .xN _=>↑"list"
 | Ţ=>match S p with
  | some (.lst _)=>↑"list"
  | some (.yP _)=>↑"dict"
  | _=>none
 | .err ă=>none
def o8 (T:String) (te:zu):zu:=fun Y S Q=>te Ħ λ x S1=>match rl x S1 with
 | some ty=>Q (.bl Â1) S1
 | _=>õ
theorem rl.ok ė Č{v:V}ū{ty:String}(r:zj ý d v) (p:ļ) (h:rl d S=↑ty):Xb ý v ty/\ty∈["NoneType","bool","int","str","tuple","list","dict"]:=by
 cases d with
 | err _ _ _=>cases h
 | tup ds=>
  ext Â0;show#[.inl #[rfl,xs,g1],#[]]
 | xN ds=>
  ext Â0;show#[.inr (.inl #[rfl,xs,g1.sq]),#[]]
 | ref a=>
  ext ö;subst r;unfold rl at h;dsimp only at h;split at h
  .ext Ã2;show#[.inr (Æ6),#[]]
  .ext Ã2;show#[.inr (.inr #[rfl,xs,g1]),#[]]
  .cases h
 | _=>ext ö;subst r;cases h;show#[rfl,#[]]
def ko {T:String}{x:Str}(hT:T∈["int","bool","tuple","list","str"]) (hm:X.mg "isinstance"=none) (Iv:X.mg x=none) (hv:bootBuiltins x=↑(.type T)) (Hn:Gl X x) (hn:x≠"__name__") (hd:(x == ("__debug__":Str))=Õ) ã
  (h1:Az X e [ð x q]) (h2:AE X pos [ð x q]) (h3:Az X (ð x q) []):
  PD X (À0 ĺ [e,ð x q] [] pos) (o8 T te):=by
 exact#[fun Y S Q Q' hq z=>he.mo ş (λ y S1 z=>?_) z,PE.imp (t9 K7 hg hm boot_isinstance (ud he.pe (ud (ah (v:=.ty T) Hn Iv hv rfl hn hd) tB h3) h1) () () h1 h2) Ä8]
 .split at z
  .show Æ7
  .show z
 .ext Ä;exact yb.go he.mo r1 r2 z λ y S1 v H1 z1 q1 e1 p1=>?_;split at z1
  .rename_i ty ht;let#[g1,g2]:=rl.ok q1 p1 ht;exact#[v,T,ty,rfl,g1,?_,z1 _ H1 (Þ) e1 p1];show AV.mp (AV.mp Vb ty g2) T hT
  .show z1.elim
def RU (T:Bt X.mg) ã (Hn:Gl X "bool") (h1:Az X e [Ç5]) (h2:AE X pos [Ç5]) (h3:Az X (Ç5) []):
  PD X (À0 ĺ [e,Ç5] [] pos) (o8 "bool" te):=ko #[] T.isinstance T.bool PyProof.Rows.boot_bool Ÿ
def RT (T:Bt X.mg) ã (Hn:Gl X "int") (h1:Az X e [ð "int" q]) (h2:AE X pos [ð "int" q]) (h3:Az X (ð "int" q) []):
  PD X (À0 ĺ [e,ð "int" q] [] pos) (o8 "int" te):=ko #[] T.isinstance T.int PyProof.Rows.boot_int Ÿ
def RQ (T:Bt X.mg) ã (Hn:Gl X "tuple") (h1:Az X e [Ä2]) (h2:AE X pos [Ä2]) (h3:Az X (Ä2) []):
  PD X (À0 ĺ [e,Ä2] [] pos) (o8 "tuple" te):=ko #[] T.isinstance T.tuple PyProof.Rows.boot_tuple Ÿ
def RG {o:Expr}{to:zu}{apos Ai:Pos}(ho:PD X o to) ģ
  (Gi:attributeBase o "append" Ć (eval o Ć)=eval o Ć)
  (AX:((backTo Ai (starEach [e] Ć)).all (λ x=>!x.1)&&(backToKw Ai (keywordEach [] Ć)).all (λ x=>x.1.isSome)
   && decide ([e].length+([]:List Keyword).length+(if ([]:List Keyword).isEmpty then 0 else 1)<30))=true)
  (Hm:(apos.endLine == Ai.line)=true) (hs:Az X e []) (GK:AE X Ai []):
  PD X (À0 (.Attribute o "append" apos) [e] [] Ai) (uS to te):=
 Ql (o:=o) (e:=e) (iH PySem.F.plainAttrs_list PySem.F.slot_list_append PySem.F.type_list_append aV ho.pe (ud he.pe tB hs) Gi AX Hm hs GK) ho.mo he.mo
structure FD (P:Program) (w:World) Ĉ (mg:Au) (base:Heap) (x:Str) (k:Nat) (ps:Ż) (sp:wX):Prop where
 ex:∃ (f:Addr) (fd:FuncData),wJ P w K mg base yT k f fd ps (u_ K sp)/\mg x=↑(å f)/\PySem.W.keepIn K (å f)=true/\Binds K fd ps []
 mo:j0 sp
def Qi {x:Str}Å6{ps:Ż}{sp:wX}(F:FD Ĥ X.K X.mg X.base x k ps sp) (hr:yo k X.A) ó (hg:Gl X x) (A2:(x == ("__debug__":Str))=Õ)
  Î:PD X (À0 (ð x p) Ĭ) (mV sp tA):=by
 let#[#[f,fd,h1,h2,h3,h4],hm]:=F;show Qj (E:=E0) (TL h1 hr hg h2 h3 h4 .nil Qq ha.pa A2 he Al) hm ha.mo
end
def LJ ū{p:Addr}Ö{Q:DK}(e:Ç0) (h:Q (Ņ) S):uj [Ţ] S Q:=by
 unfold uj;ext Â4
def LK ū Č Ö{Q:DK}Å3 (h:Á6):um [d] S Q:=by
 unfold um;ext Â4
def LL ū Č Ö{Q:DK}Å3 (h:Q (ĉ Ċ) S):uo [d] S Q:=by
 unfold uo;ext Â4
def Vi ū{p:Addr}Ö{Q:Bool->Å8}(e:Ç0) (h:Q (!ds.isEmpty) S):vG (Ţ) S Q:=by
 unfold vG;ext Â4
def LO ū{p:Addr}Ö{i:Int}Č{Q:DK}(e:Ç0) Į:wG (Ţ) (ĉ i) S Q:=by
 unfold wG;ext ś;rw[e];ext ś;rw[e2];show h
def LM ū Ö{i:Int}Č{Q:DK}Į:wG (Ņ) (ĉ i) S Q:=by
 unfold wG;ext ś;rw[e2];show h
def LN ū Ö{i:Int}Č{Q:DK}Į:wG (.xN ds) (ĉ i) S Q:=by
 unfold wG;ext ś;rw[e2];show h
inductive T where
 | zm | bl (b:Bool) | int (i:Int) | str (x:Str) | tup (ts:Ą) | lst (ts:Ą) | xh | err (c f:Str) (t:T)
mutual
def eqT:T->T->Bool
 | .zm,.zm=>true
 | .bl a,.bl b=>a == b
 | .bl a,ĉ b=>(if a then 1 else 0) == b
 | ĉ a,.bl b=>a == (if b then 1 else 0)
 | ĉ a,ĉ b=>a == b
 | .str a,.str b=>a == b
 | .tup a,.tup b=>wQ a b
 | .lst a,.lst b=>wQ a b
 | .xh,.xh=>true
 | .err a b t,.err c d u=>a == c&&(b == d&&eqT t u)
 | _,_=>Õ
def wQ:Ą->Ą->Bool
 | [],[]=>true
 | a::as,b::bs=>eqT a b&&wQ as bs
 | _,_=>Õ
end
mutual
def dep:T->Nat
 | Ç6=>1+yA ts
 | İ=>1+yA ts
 | .xh=>ŗ
 | .err ă=>ŗ
 | _=>0
def yA:Ą->Nat
 | []=>0
 | ų=>max (dep t) (yA ts)
end
def iP:Ą->Bool
 | []=>true
 | ĉ _::ts=>iP ts
 | _=>Õ
def QO (ns:ù):iP (ns.map T.int)=true:=by
 induction ns with
 | nil=>rfl
 | cons n ns ih=>show ih
mutual
def Sn ŋ:T->D->Prop
 | .zm,d=>d=.zm
 | .bl b,d=>d=.bl b
 | ĉ i,d=>d=ĉ i
 | .str x,d=>d=.str x
 | Ç6,d=>∃ ds,d=Ņ/\È
 | İ,d=>∃ ds,((d=.xN ds/\iP ts=true)\/∃ a,d=å a/\S a=↑ ê)/\È
 | .xh,d=>∃ a Aq,(d=å a/\Aq=[])/\S a=↑(.yP Aq)
 | .err c f t,d=>∃ x,d=.err c f x/\Sn S t x
def zp ŋ:Ą->š->Prop
 | [],ds=>ds=[]
 | ų,ds=>∃ c cs,ds=c::cs/\Sn S t c/\zp S ts cs
end
mutual
theorem gO:∀ t:T,eqT t t=true
 | .zm=>Ŋ
 | .bl b=>Ŋ
 | ĉ i=>Ŋ
 | .str x=>Ŋ
 | Ç6=>by simp![eqT];show kZ ts
 | İ=>by simp![eqT];show kZ ts
 | .xh=>Ŋ
 | .err Å t=>by simp[eqT,gO t]
theorem kZ:∀ ts:Ą,wQ ts ts=true
 | []=>Ä3
 | ų=>by simp![wQ,gO t,kZ ts,Ek]
end
theorem gN:∀ ts us:Ą,wQ ts us=((ĕ (min Ý ŀ)).all (λ j=>eqT Ĵ (us.getD j .zm))&&Ý == ŀ)
 | [],[]=>Ä3
 | [],_::_=>Ä3
 | _::_,[]=>Ä3
 | ų,u::us=>by
  simp![wQ,gN ts us,Be];rw[show min (Ý+1) (ŀ+1)=min Ý ŀ+1 by lia,EU,Cp,Bz];have:(Ý+1 == ŀ+1)=(Ý == ŀ):=by rw[Dm];simp
  rw[this,Bool.and_assoc];rfl
theorem zp.length ū:∀ Á,È->Ý=Ċ
 | [],ds,h=>by ext Ŝ;rfl
 | ų,ds,h=>by
  simp![zp] at h;let#[c,cs,rfl,_,h2]:=h;simp[zp.length h2]
section
variable {ŭ}{Ü}
theorem Zv Â À5{xs ys:Æ9}È4 (h2:zU Ð a ys):õ:=by
 ext þ;let#[_,_,#[o',n,e',c',_],_]:=I.list h2;ext ø
 injection c' with q
 show ž q ()
def Sn.tF ú {ts:Ą}Č{x:V}(h:Sn S (İ) d) (r:ě):∃ a xs ds,x=å a/\zU Ð a xs/\À1/\È:=by
 ext Æ1;obtain⟨ds,⟨h,_⟩ | ⟨a,h,e⟩,h2⟩:=h
 .subst h;ext Ã8;show#[a,xs,ds,rfl,g1.sq,g2,h2]
 .subst h;ext ö;let#[xs,g1,g2]:=p Å e;show#[a,xs,ds,r,zU.of g1,g2,h2]
def Sn.tf {ts:Ą}Č{x:V}(h:Sn S (Ç6) d) (r:ě):∃ a xs ds,x=å a/\yi Ð a xs/\À1/\È:=by
 ext Æ1;let#[ds,rfl,h2]:=h;ext Ã8;show#[a,xs,ds,rfl,g1,g2,h2]
def Sn.rS ú Č{x:V}(h:Sn S .xh d) (r:ě):∃ a vs,x=å a/\ĵ:=by
 ext Æ1;let#[a,Aq,#[rfl,_],e]:=h;ext ö;let#[xs,g1,g2]:=p Å e;show#[a,xs,r,g1]
def Z5 Â À5 Ń(h:ĵ):∃ o,Ç2 a=↑o/\o.cls=.type "dict":=by
 let#[_,_,_,_,o,_,_,e,c]:=(show xH Ĥ H s.heap a (.dK vs) from I.zr a _ h)
 show#[o,e,c.1.1]
theorem Zx Â À5 ò Ń È4 (h2:ĵ):õ:=by
 ext þ;ext È5
 injection c' with q
 show ž q ()
theorem Z4 Â À5 ò Ń(h1:zU Ð a xs) (h2:ĵ):õ:=by
 ext Ů;ext È5
 injection c' with q
 show ž q ()
theorem Sn.flat {t:T}Č{x:V}(h:ć) (r:ě):match t with
  | .zm=>x=.zm
  | .bl b=>x=.bl b
  | ĉ i=>x=ĉ i
  | .str y=>x=.str y
  | _=>True:=by
 cases t <;> first
  | trivial
  | (ext Æ1;subst h;simpa only [zj] using r)
def Sn.sQ {c f:Str}{t:T}Č{x:V}(h:Sn S (.err c f t) d) (r:ě):∃ e C dx w y,x=å e/\(uW X.K c C/\Â2/\Xd H f w dx)/\Sn S t y/\zj Ð y w:=by
 ext Æ1;let#[y,rfl,h]:=h;ext ö;let#[e,C,dx,w,r1,r2,r3]:=r;show#[e,C,dx,w,y,r1,r2,h,r3]
def kH Â {e C:Addr}{dx:ĩ Addr}(h:Â2):∃ oe vs,Ç2 e=↑oe/\oe.cls=å C/\oe.dict=dx/\oe.data=.fields vs:=(show xH Ĥ H s.heap e (vb e C dx) from I.zr e _ h).1
def Zw Â ŝ ò È4 Ş:õ:=by
 ext þ;ext Ť
def Z2 Â ŝ ò(h1:zU Ð a xs) Ş:õ:=by
 ext Ů;ext Ť
def Z6 Â ŝ Ń(h1:ĵ) Ş:õ:=by
 rw[h1] at h2;cases h2
def ME Â {e C C':Addr}{dx dx':ĩ Addr}(h1:Â2) (h2:H e=↑(vb e C' dx')):C=C'/\dx=dx':=by
 let#[o,_,e1,c1,d1,_]:=kH I h1;let#[o',_,e2,c2,d2,_]:=kH I h2;rw[e1] at e2;cases e2;rw[c1] at c2;rw[d1] at d2;cases c2;cases d2;show#[rfl,rfl]
def Xd.inj ė{f f':Str}{w w':V}{dx:ĩ Addr}(h1:Xd H f w dx) (h2:Xd H f' w' dx):f=f'/\w=w':=by
 cases dx with
 | none=>show#[h1.1.trans h2.1.symm,h1.2.trans h2.2.symm]
 | some x=>have:=h1.symm.trans h2;cases this;show#[rfl,rfl]
def uW.inj À4{c c':Str}{C:Addr}(h1:uW K c C) (h2:uW K c' C):c=c':=by
 let#[_,_,_,#[#[#[_,_,_,_,_,_,_,_,_,_,_,_,a],_],_,_,_,_]]:=h1;let#[_,_,_,#[#[#[_,_,_,_,_,_,_,_,_,_,_,_,b],_],_,_,_,_]]:=h2;rw[a] at b;cases b;rfl
mutual
theorem lL Â ú:∀ (t u:T) {d e:D}{x:V},ć->Sn S u e->ě->zj Ð e x->t=u
 | Ç6,u,d,e,x,h1,h2,r1,r2=>by
  let#[a,xs,ds,rfl,g1,g2,g3]:=h1.tf r1;cases u with
  | xh=>ext É;show (Zx I g1 g).elim
  | err _ _ _=>ext Ř;show (Zw I g1 g.2.1).elim
  | tup us=>
   ext ō;have:=I.jS g1 k1;ext Ã9
  | lst us=>
   ext ń;show (Zv I g1 k1).elim
  | _=>show á
 | İ,u,d,e,x,h1,h2,r1,r2=>by
  let#[a,xs,ds,rfl,g1,g2,g3]:=h1.tF p r1;cases u with
  | xh=>ext É;show (Z4 I g1 g).elim
  | err _ _ _=>ext Ř;show (Z2 I g1 g.2.1).elim
  | lst us=>
   ext ń;have:=I.hX g1 k1;ext Ã9
  | tup us=>
   ext ō;show (Zv I k1 g1).elim
  | _=>show á
 | .zm,u,d,e,x,h1,h2,r1,r2=>by
  ext Ļ;cases u with
  | xh=>ext É
  | err _ _ _=>ext Ó
  | zm=>rfl
  | tup us=>ext é
  | lst us=>ext ä
  | _=>show á
 | .bl b,u,d,e,x,h1,h2,r1,r2=>by
  ext Ļ;cases u with
  | xh=>ext É
  | err _ _ _=>ext Ó
  | bl _=>ext Ű
  | tup us=>ext é
  | lst us=>ext ä
  | _=>show á
 | ĉ b,u,d,e,x,h1,h2,r1,r2=>by
  ext Ļ;cases u with
  | xh=>ext É
  | err _ _ _=>ext Ó
  | int _=>ext Ű
  | tup us=>ext é
  | lst us=>ext ä
  | _=>show á
 | .str b,u,d,e,x,h1,h2,r1,r2=>by
  ext Ļ;cases u with
  | xh=>ext É
  | err _ _ _=>ext Ó
  | str _=>ext Ű
  | tup us=>ext é
  | lst us=>ext ä
  | _=>show á
 | .err c f t,u,d,e,x,h1,h2,r1,r2=>by
  let#[a,C,dx,w,y,rfl,#[g1,g2,g3],g4,g5]:=h1.sQ r1;cases u with
  | err c' f' t'=>
   let#[a',C',dx',w',y',q,#[k1,k2,k3],k4,k5]:=h2.sQ r2;cases q;let#[rfl,rfl]:=ME I g2 k2;let#[rfl,rfl]:=g3.inj k3;cases g1.inj k1;rw[lL I p t t' g4 k4 g5 k5]
  | xh=>ext É;show (Z6 I g g2).elim
  | tup us=>let#[_,_,_,q,k1,_]:=h2.tf r2;cases q;show (Zw I k1 g2).elim
  | lst us=>let#[_,_,_,q,k1,_]:=h2.tF p r2;cases q;show (Z2 I k1 g2).elim
  | _=>show á
 | .xh,u,d,e,x,h1,h2,r1,r2=>by
  let#[a,vs,rfl,g]:=h1.rS p r1;cases u with
  | xh=>rfl
  | err _ _ _=>let#[_,_,_,_,_,q,g',_]:=h2.sQ r2;cases q;show (Z6 I g g'.2.1).elim
  | tup us=>let#[_,_,_,q,g1,_]:=h2.tf r2;cases q;show (Zx I g1 g).elim
  | lst us=>let#[_,_,_,q,g1,_]:=h2.tF p r2;cases q;show (Z4 I g1 g).elim
  | _=>show á
theorem jR Â ú:∀ (ts us:Ą) {ds es:š}ò,È->zp S us es->À1->zo Ð es xs->ts=us
 | [],us,ds,es,xs,h1,h2,r1,r2=>by
  have e:=ċ;cases us with
  | nil=>rfl
  | cons _ _=>simp at e
 | ų,[],ds,es,xs,h1,h2,r1,r2=>by
  have e:=ċ;simp at e
 | ų,u::us,ds,es,xs,h1,h2,r1,r2=>by
  simp![zp] at h1 h2;let#[c,cs,rfl,a1,a2]:=h1;let#[c',cs',rfl,b1,b2]:=h2;simp![zo] at r1 r2;let#[y,ys,rfl,g1,g2]:=r1;let#[y',ys',q,k1,k2]:=r2;cases q;rw[lL I p t u a1 b1 g1 k1,jR I p ts us a2 b2 g2 k2]
end
theorem zp.get Á(h:È):∀ {j:Nat},j<Ý->∃ c,ds[j]?=↑c/\Sn S Ĵ c:=by
 induction ts generalizing ds with
 | nil=>intro j hj;simp at hj
 | cons t ts ih=>
  intro j hj;ext Ã;cases j with
  | zero=>show#[c,rfl,h1]
  | succ j=>
   let#[c',e,h3]:=ih h2 (j:=j) (by exists hj);show#[c',by simpa using e,by exists h3]
theorem ja:∀ {ts:Ą}{j:Nat},j<Ý->dep Ĵ<=yA ts
 | [],j,h=>by simp at h
 | ų,0,_=>by simp![yA,List.getD_cons_zero];lia
 | ų,j+1,h=>by
  have:=ja (ts:=ts) (j:=j) (by exists h);simp![yA,List.getD_cons_succ];lia
inductive qO Ĉ À3 ŋ (s:č):T->ħ->Prop
 | zm:qO ý S s .zm .none
 | bl {b:Bool}:qO ý S s (.bl b) (.bool b)
 | int {i:Int}{k:Tok}:qO ý S s (ĉ i) (ĉ i k)
 | str {i:Str}{k:Tok}:qO ý S s (.str i) (.str i k)
 | tup Á ò ĸ (h:s.heap.IsTuple l us.toArray):qO ý S s (Ç6) (å l)
 | lst Á ò ĸ (h:s.heap.IsList l us.toArray):qO ý S s (İ) (å l)
def c_ Â ú {t:T}Č{x:V}{a:ħ}(h:ć) (r:ě) (v:RelV x a) (z:dep t<ŗ):qO Ð S s t a:=by
 cases t with
 | zm=>ext Ŏ;cases v;show .zm
 | bl _=>ext Ŏ;cases v;show .bl
 | int _=>ext Ŏ;let#[_,rfl]:=v;show ĉ
 | str _=>ext Ŏ;let#[_,rfl]:=v;show .str
 | tup _=>let#[l,xs,ds,rfl,g,r,q]:=h.tf r;cases v;let#[_,w,i,_]:=I.tuple g;show .tup q r w i
 | lst _=>let#[l,xs,ds,rfl,g,r,q]:=h.tF p r;cases v;let#[_,w,i,_]:=I.list g;show .lst q r w i.isList
 | _=>simp![dep] at z;lia
abbrev J3 (A:Around) (s:č) (a b:ħ) (k:Bool):Prop:=SeqAt.EqAt A s a b k/\SeqAt.RcAt A s a b k/\SeqAt.RcNeAt A s a b (!k)
theorem KW Â ú:∀ Ä4 Š,dep t<n->ľ+dep t<ŗ->ľ+dep u<ŗ->ć->Sn S u e->ě->zj Ð e y->RelV x a->RelV y b->J3 A s a b (eqT t u):=by
 intro n
 induction n with
 | zero=>intros;lia
 | succ n ih=>
  intro t u A d e x y a b hn hu hu' h1 h2 r1 r2 v1 v2;have hq:a=b->t=u:=λ z=>by subst z;have:=v1.inj v2;subst this;show lL I p t u h1 h2 r1 r2
  have c1:=c_ I p h1 r1 v1 ⋯;have c2:=c_ I p h2 r2 v2 ⋯;clear h1 h2 r1 r2 v1 v2;have hA:ľ<ŗ:=⋯;have el:∀ {ts us:Ą}{ds Iz:š}{xs Gb:Æ9}{is is':Ad},1+yA ts<n+1->ľ+(1+yA ts)<ŗ->ľ+(1+yA us)<ŗ->È->zp S us Iz->À1->zo Ð Iz Gb->Vals xs is->Vals Gb is'->Ç7=Ý/\Ä9=ŀ/\
    ∀ (j:Nat) (h1:j<Ç7) (h2:j<Ä9),SeqAt.EqAt A.in1 s is.toArray[j] is'.toArray[j] (eqT Ĵ (us.getD j .zm)):=by
   intro ts us ds Iz xs Gb is is' a1 a2 a3 g1 g2 r1 r2 v1 v2;have e1:Ç7=Ý:=by rw[AG,<- v1.length,<- r1.length,<- g1.length]
   have e2:Ä9=ŀ:=by rw[AG,<- v2.length,<- r2.length,<- g2.length]
   exact#[e1,e2,λ j h1 h2=>?_];let#[_,k1,s1]:=g1.get (e1▸h1);let#[_,k2,s2]:=g2.get (e2▸h2);let#[_,f1,q1]:=r1.get k1;let#[_,f2,q2]:=r2.get k2;let#[w1,o1,m1]:=v1.get f1;let#[w2,o2,m2]:=v2.get f2;have y1:=ja (e1▸h1);have y2:=ja (e2▸h2);let#[_,z1]:=AY.mp o1;let#[_,z2]:=AY.mp o2;rw[List.getElem_toArray,List.getElem_toArray,z1,z2];show (ih Å (A:=A.in1) ⋯ (by change ľ+1+_<_;lia) (by change ľ+1+_<_;lia) s1 s2 q1 q2 m1 m2).1
  have en:∀ {l l':Addr}{ts us:Ą},(Value.ref l=å l'->ts=us)->SeqAt.RcAt Å5 (wQ ts us)/\SeqAt.RcNeAt Å5 (!wQ ts us)->J3 Å5 (wQ ts us):=λ{l l' ts us} h q=>by
   exact#[?_,q];by_cases z:l=l'
   .subst z;rw[h rfl,kZ];show .same _
   .show .of_refs z q.1
  cases c1 <;> cases c2 <;> simp![eqT,C1,CN]
  .show#[.same _,.none_none,.none_none]
  .show#[.none_bool _,.none_bool _,.none_bool _]
  .show#[.none_int Å,.none_int Å,.none_int Å]
  .show#[.none_str Å,.none_str Å,.none_str Å]
  .show#[.none_tuple À,.none_tuple À,.none_tuple À]
  .show#[.none_list À,.none_list À,.none_list À]
  .show#[.bool_none _,.bool_none _,.bool_none _]
  .show#[.bool_bool Å,.bool_bool Å,.bool_bool Å]
  .show#[.bool_int ă,.bool_int ă,.bool_int ă]
  .show#[.bool_str ă,.bool_str ă,.bool_str ă]
  .show#[Å0,Å0,Å0]
  .show#[Ç8,Ç8,Ç8]
  .show#[.int_none Å,.int_none Å,.int_none Å]
  .show#[.int_bool ă,.int_bool ă,.int_bool ă]
  .show#[.int_int ŏ,.int_int ŏ,.int_int ŏ]
  .show#[.int_str ŏ,.int_str ŏ,.int_str ŏ]
  .show#[.int_tuple ē,.int_tuple ē,.int_tuple ē]
  .show#[.int_list ē,.int_list ē,.int_list ē]
  .show#[.str_none Å,.str_none Å,.str_none Å]
  .show#[.str_bool ă,.str_bool ă,.str_bool ă]
  .show#[.str_int ŏ,.str_int ŏ,.str_int ŏ]
  .show#[.str_str ŏ,.str_str ŏ,.str_str ŏ]
  .show#[.str_tuple ē,.str_tuple ē,.str_tuple ē]
  .show#[.str_list ē,.str_list ē,.str_list ē]
  .show#[.tuple_none À,.tuple_none À,.tuple_none À]
  .show#[Å7,Å7,Å7]
  .show#[.tuple_int ē,.tuple_int ē,.tuple_int ē]
  .show#[.tuple_str ē,.tuple_str ē,.tuple_str ē]
  .rename_i g1 r1 v1 k1 _ _ _ _ _ g2 r2 v2 k2;ext Ô;show#[.tuples k1 k2 hA q,.tuples k1 k2 hA q]
  .show#[Ũ,Ũ,Ũ]
  .show#[.list_none À,.list_none À,.list_none À]
  .show#[È0,È0,È0]
  .show#[.list_int ē,.list_int ē,.list_int ē]
  .show#[.list_str ē,.list_str ē,.list_str ē]
  .show#[ű,ű,ű]
  .rename_i i1 _ g1 r1 v1 k1 _ _ _ i2 _ g2 r2 v2 k2;ext Ô;by_cases z:i1.toArray.size=i2.toArray.size
   .rw[<- z,Nat.min_self,beq_self_eq_true,DC];show#[.lists k1 k2 z hA q,.lists k1 k2 z hA q]
   .rw[beq_eq_false_iff_ne.mpr z,CG];have z':=bne_iff_ne.mpr z;show#[.lists_lengths k1 k2 z' hA,.lists_lengths k1 k2 z' hA]
def fZ Â ú Š(hu:ľ+dep t<ŗ) (hu':ľ+dep u<ŗ) (h1:ć) (h2:Sn S u e) (r1:ě) (r2:zj Ð e y) (v1:RelV x a) (v2:RelV y b):J3 A s a b (eqT t u):=KW I p _ t u (CZ _) hu hu' h1 h2 r1 r2 v1 v2
end
def i8 Ĉ (neg:Bool):R2:=λ x y H Q=>∃ S d e t u,Æ4/\zj ý e y/\ļ/\ć/\Sn S u e/\dep t<=60/\dep u<=60/\Q À8 H
def v8 (neg:Bool):yR:=λ x y S Q=>∃ t u,Sn S t x/\Sn S u y/\dep t<=60/\dep u<=60/\Q À8 S
def v8.mo {neg:Bool}:xx (v8 neg):=λ _ _ _ _ _ hq #[t,u,a,b,c,d,h]=>#[t,u,a,b,c,d,Æ5]
def v8.fits À4{neg:Bool}:xt K (v8 neg) (i8 K neg):=λ x y d e H S Q h1 h2 h3 #[t,u,a,b,c,c',h]=>#[S,d,e,t,u,h1,h2,h3,a,b,c,c',h _ H (Þ) ę h3]
section
variable {ŭ}{a b:Expr}{ta tb:zu}{pos:Pos}
theorem aE À6:yp X (compareOp .Eq) (i8 X.K Õ):=by
 ext ï;show (ũ).2.1 Â9
theorem Q7 À6:yp X (compareOp .NotEq) (i8 X.K true):=by
 ext ï;show (ũ).2.2 Â9
def Qg Ì:PD X (.Compare a [.Eq] [b] pos) (yB (v8 Õ) ta tb):=n_ (aE hr.units) ő
def Sz Ì:xF X (.Compare a [.Eq] [b] pos) (vQ (yB (v8 Õ) ta tb)):=pQ (aE hr.units) ő
def Ss Ì:xF X (.Compare a [.NotEq] [b] pos) (vQ (yB (v8 true) ta tb)):=pQ (Q7 hr.units) ő
def bO Ĉ (neg:Bool):R2:=λ x y H Q=>∃ S d e u ts ds,Æ4/\zj ý e y/\ļ/\Sn S u d/\yg e S=↑ds/\È/\dep u<=60/\yA ts<=60/\Q Å1 H
def rQ (neg:Bool):yR:=λ x y S Q=>∃ u ts ds,Sn S u x/\yg y S=↑ds/\È/\dep u<=60/\yA ts<=60/\Q Å1 S
def rQ.mo {neg:Bool}:xx (rQ neg):=λ _ _ _ _ _ hq #[u,ts,ds,a,b,c,d,e,h]=>#[u,ts,ds,a,b,c,d,e,Æ5]
def rQ.fits À4{neg:Bool}:xt K (rQ neg) (bO K neg):=λ x y d e H S Q h1 h2 h3 #[u,ts,ds,a,b,c,c',c2,h]=>#[S,d,e,u,ts,ds,h1,h2,h3,a,b,c,c',c2,h _ H (Þ) ę h3]
open Classical in
def tT (Aa:Ad) (ts:Ą) (u:T) (v:ħ):Bool:=if h:∃ j,Aa[j]?=↑v then eqT (ts.getD (Classical.choose h) .zm) u else Õ
def fY Ü Â ú Á Ú (u:T) {j:Nat}{v:ħ}(hj:Aa[j]?=↑v):
  tT Aa ts u v=eqT Ĵ u:=by
 have h:∃ j,Aa[j]?=↑v:=#[j,hj];unfold tT;rw[dif_pos h];have hc:=Classical.choose_spec h;have lt:∀ i,Aa[i]?=↑v->i<Ý:=λ i hi=>by
  ext ĥ;show (AY.mp hi).1
 let#[c1,e1,s1]:=h1.get (lt _ hc);let#[c2,e2,s2]:=h1.get (lt _ hj);let#[x1,f1,r1]:=h2.get e1;let#[x2,f2,r2]:=h2.get e2;let#[v1,g1,q1]:=h3.get f1;let#[v2,g2,q2]:=h3.get f2;rw[hc] at g1;cases g1;rw[hj] at g2;cases g2;have hx:=q1.inj q2;subst hx;rw[lL I p Å s1 s2 r1 r2]
theorem YY Ü Â ú Á Ú (u:T):Aa.any Ū=ď:=by
 have hl:Ý=Aa.length:=by ext ĥ
 rw[Dm,Cr,Cr];constructor
 .rintro⟨v,hv,h⟩;let#[j,hj,rfl]:=BX.mp hv;rw[ź] at h;have HN:j<Ý:=⋯;show#[ts[j],B3 HN,by simpa [HN] using h]
 .rintro⟨t,ht,h⟩;let#[j,hj,rfl]:=BX.mp ht;have HN:j<Aa.length:=⋯;show#[Aa[j],B3 HN,by rw[fY I p h1 h2 h3 u (j:=j) (by simp[HN])];simpa [hj] using h]
def YZ Ü Â ú Á Ú {u:T}Č{x:V}{v:ħ}(hu:Sn S u d) (hd:ě) (hx:RelV x v) {A:Around}(b1:ľ+yA ts<ŗ) (b2:ľ+dep u<ŗ) {y:ħ}(hy:y∈Aa):
  SeqAt.EqAt A s y v (tT Aa ts u y):=by
 let#[j,hj,rfl]:=BX.mp hy;have hjt:j<Ý:=by ext ĥ;show hj
 rw[ź];let#[c1,e1,s1]:=h1.get hjt;let#[x1,f1,r1]:=h2.get e1;let#[v1,g1,q1]:=h3.get f1;have:Aa[j]=v1:=by
  have:=AY.mp g1;show this.2
 rw[this];have:=ja hjt;show (fZ I p _ u (A:=A) ⋯ b2 s1 hu r1 hd q1 hx).1
theorem QF À6:yp X (compareOp .In) (bO X.K Õ):=by
 intro FH s σ H x y v w Q I rx ry h;let#[S,d,e,u,ts,ds,a1,a2,a3,a4,a5,a6,a7,a8,q]:=h;let#[l,xs,rfl,g1,g2]:=yg.sq a2 a3 a5;cases ry;rcases g1 with g1 | g1
 .let#[Aa,w1,pl,_]:=I.list g1;exact SeqAt.in_listAt Ū pl.isList Í;ext ÿ
 .let#[Aa,w1,pt,_]:=I.tuple g1;exact SeqAt.in_tupleAt Ū pt Í;ext ÿ
def RZ Ì (hm:behindInMarks .In b=Õ):PD X (.Compare a [.In] [b] pos) (yB (rQ Õ) ta tb):=n_ (QF hr.units) rQ.fits rQ.mo ha hb hm
end
end L3
namespace L3
open PySem L2
section
variable {Â6}
mutual
theorem Sn.sx ň:∀ (t:T) Č,ć->Sn S' t d
 | .zm,d,q=>Ģ
 | .bl b,d,q=>Ģ
 | ĉ i,d,q=>Ģ
 | .str x,d,q=>Ģ
 | Ç6,d,q=>by
  ext Â5;let#[ds,q1,q2]:=q;show#[ds,q1,zp.sx h ts q2]
 | İ,d,q=>by
  ext Â5;let#[ds,q1,q2]:=q;exact#[ds,?_,zp.sx h ts q2];rcases q1 with q1 | ⟨a,q1,q3⟩
  .show .inl q1
  .show .inr #[a,q1,h Å q3]
 | .err Å t,d,q=>by
  ext Â5;let#[x,q1,q2]:=q;show#[x,q1,Sn.sx h t q2]
 | .xh,d,q=>by
  ext Â5;let#[a,Aq,q1,q2]:=q;show#[a,Aq,q1,h Å q2]
theorem zp.sx ň:∀ (ts:Ą) Ö,È->zp S' ts ds
 | [],ds,q=>by simpa only [zp] using q
 | ų,ds,q=>by
  simp![zp] at q ⊢;let#[c,cs,q1,q2,q3]:=q;show#[c,cs,q1,Sn.sx h t q2,zp.sx h ts q3]
end
def zp.nil:zp S [] []:=by simp![zp]
def zp.cons {t:T}{ts:Ą}Č Ö(h:ć) (h':È):zp S (ų) (d::ds):=by
 simp![zp];show#[d,ds,rfl,h,h']
theorem zp.append:∀ {ts us:Ą}{ds es:š},È->zp S us es->zp S (ts++us) (ds++es)
 | [],us,ds,es,h,h'=>by ext Ŝ;exists h'
 | ų,us,ds,es,h,h'=>by
  ext Ã;show zp.cons h1 (zp.append h2 h')
theorem zp.mB:∀ Á Ã7{t:T},È->ts[i]?=↑t->∃ d,ds[i]?=↑d/\ć
 | [],_,i,t,_,e=>by simp at e
 | u::ts,ds,i,t,h,e=>by
  ext Ã;cases i with
  | zero=>simp at e;subst e;show#[c,rfl,h1]
  | succ i=>
   let#[y,e1,e2]:=zp.mB (i:=i) h2 (by exists e);show Ç9
theorem zp.gw:∀ Á Ã7 Č,È->ds[i]?=↑d->∃ t,ts[i]?=↑t/\ć
 | [],ds,i,t,h,e=>by ext Ŝ;simp at e
 | u::ts,ds,i,t,h,e=>by
  ext Ã;cases i with
  | zero=>simp at e;subst e;show#[u,rfl,h1]
  | succ i=>
   let#[y,e1,e2]:=zp.gw (i:=i) h2 (by exists e);show Ç9
def zp.len Á(h:È):Ċ=Ý:=(L3.zp.length h).symm
theorem zp.at Á{i:Int}{t:T}(h:È) (e:L2.ya ts i=↑t):∃ d,L2.ya ds i=↑d/\ć:=by
 unfold L2.ya at e ⊢;rw[h.len];cases q:L2.wC Ý i with
 | none=>rw[q] at e;cases e
 | some j=>
  rw[q] at e;show h.mB e
theorem zp.ba:∀ Á{t:T}Č Ŭ,È->ć->zp S (ts.set i t) (ds.set i d)
 | [],ds,t,d,i,h,_=>ā
 | u::ts,ds,t,d,0,h,hd=>by
  ext Ã;show zp.cons hd h2
 | u::ts,ds,t,d,i+1,h,hd=>by
  ext Ã;show zp.cons h1 (zp.ba i h2 hd)
theorem zp.take':∀ Á Ä4,È->zp S (ts.take n) (ds.take n)
 | ts,ds,0,h=>by exists zp.nil
 | [],ds,n+1,h=>ā
 | ų,ds,n+1,h=>by
  ext Ã;show zp.cons h1 (zp.take' n h2)
theorem zp.drop':∀ Á Ä4,È->zp S (ts.drop n) (ds.drop n)
 | ts,ds,0,h=>h
 | [],ds,n+1,h=>ā
 | ų,ds,n+1,h=>by
  ext Ã;show zp.drop' n h2
def zp.empty Á(h:È):ds.isEmpty=ts.isEmpty:=by
 have:=h.len;cases ds <;> cases ts <;> simp_all
theorem zp.YF:∀ {bs:List Bool}Ö,zp S (bs.map T.bl) ds->ds=bs.map D.bl
 | [],ds,h=>by simpa only [BA,zp] using h
 | b::bs,ds,h=>by
  rw[AJ] at h;simp![zp,Sn] at h;let#[c,cs,rfl,rfl,h3]:=h;rw[zp.YF h3];rfl
end
end L3
namespace L5
open PySem L2 L3
def yc ŋ (Z:ą):SS:=open Classical in λ a=>if Z a then none else S a
section
variable {Â6}{Z Z':ą}{a p:Addr}
def uh (h:¬ Z a):yc S Z a=S a:=Ò h
def gj (h:Z a):yc S Z a=none:=Ø h
def uL {o:O}(h:yc S Z a=↑o):¬ Z a/\S a=↑o:=by
 by_cases z:Z a
 .rw[gj z] at h;cases h
 .rw[uh z] at h;show#[z,h]
def kR ŋ (Z:ą):Sx ř S:=λ _ _ h=>(uL h).2
def ui ň:Sx ř (yc S' Z):=λ b o q=>by
 let#[q1,q2]:=uL q;rw[uh q1];show h Å q2
def uM (h:∀ a,Z' a->Z a):Sx ř (yc S Z'):=λ b o q=>by
 let#[q1,q2]:=uL q;rw[uh (λ z=>q1 (h _ z))];show q2
def ot ň (hp:S p=none):Sx ř (yc S' λ a=>Z a\/a=p):=λ b o q=>by
 let#[q1,q2]:=uL q;rw[uh]
 .show h Å q2
 .rintro (z | z)
  .show q1 z
  .subst z;rw[hp] at q2;cases q2
theorem ZI {o:O}(h:Z p):yc (ups S p o) Z=yc S Z:=by
 funext b;by_cases z:Z b
 .rw[gj z,gj z]
 .rw[uh z,uh z,uZ (λ e=>z (by rw[e];show h))]
end
inductive C where
 | lst (ts:Ą) | yP (Aq:List (Key×T)) | obj (a:ĩ Addr) (c:Str) (fs:List (Str×T))
def sV {κ:Type}ŋ:List (κ × T)->List (κ × D)->Prop
 | [],l=>l=[]
 | (k,t)::r,l=>∃ d m,l=(k,d)::m/\ć/\sV S r m
theorem sV.sx {κ:Type}Â6 ň:∀ {a:List (κ × T)}{b:List (κ × D)},sV S a b->sV S' a b
 | [],_,q=>q
 | (k,t)::r,_,q=>by
  let#[d,m,q1,q2,q3]:=q;show#[d,m,q1,Sn.sx h t q2,sV.sx h q3]
def tV ŋ:C->O->Prop
 | İ,.lst ds=>È
 | .yP a,.yP b=>sV S a b
 | .obj _ c a,.obj c' b=>c=c'/\sV S a b
 | _,_=>õ
theorem tV.sx Â6 ň:∀ {c:C}{o:O},tV S c o->tV S' c o
 | İ,.lst ds,q=>zp.sx h ts q
 | .yP a,.yP b,q=>sV.sx h q
 | .obj ă,.obj Å,q=>#[q.1,sV.sx h q.2]
def adr:C->ą
 | .obj ↑q Å,p=>q=p
 | _,_=>True
inductive W where
 | im (t:T) | own (c:C)
abbrev Ev:=List (ĩ W)
abbrev Ae:=Ev->ĩ T
abbrev Ak:=Ą->ĩ T
structure ER ŋ (Z:ą) (Y:yt) (J:Ev):Prop where
 zd:∀ a,Z a->S a≠none
 im:∀ Ŭ t,J[i]?=↑↑(.im t)->∃ d,Y[i]?=↑↑d/\Sn ř t d
 ow:∀ Ŭ c,J[i]?=↑↑(.own c)->∃ p o,Y[i]?=↑↑(Ţ)/\S p=↑o/\tV ř c o/\Z p
def Vw ŋ (Z:ą) (y:T) (d:D):Prop:=Sn ř y d\/∃ ts p ds,y=İ/\d=Ţ/\Ç0/\zp ř ts ds/\Z p
abbrev Rk:=SS->SS->(ą)->T->D->Prop
def Xe:Rk:=λ _ S' Z y d=>Vw S' Z y d
def xr:Rk:=λ _ S' Z y d=>Å2
def zE:Rk:=λ S S' Z y d=>Å2/\∀ ts,y=İ->∃ p ds,d=Ţ/\S p=none/\S' p=↑ ê/\zp (yc S' λ a=>Z a\/a=p) ts ds
class Cl (R:Rk):Prop where
 cl:∀ {S S1 S':SS}{Z:ą}{y:T}Č,Sx S S1->R S1 S' Z y d->R S S' Z y d
 of:∀ Â6{Z:ą}{y:T}Č,(∀ ts,y≠ İ)->Å2->R S S' Z y d
instance:Cl Xe:=#[λ _ h=>h,λ _ h=>.inl h]
instance:Cl xr:=#[λ _ h=>h,λ _ h=>h]
instance:Cl zE:=#[λ s h=>#[h.1,λ ts e=>by
 let#[p,ds,h1,h2,h3]:=h.2 ts e;show#[p,ds,h1,s.none h2,h3]],λ n h=>#[h,λ ts e=>ž e (n ts)]]
section
variable {Â6}{Z:ą}{Y:yt}{J:Ev}{y:T}{Č}
def ER.grow (h:ER S Z Y J) (s:Sx S S'):ER S' Z Y J:=
 #[λ a z q=>h.zd a z (s.none q),λ i t e=>by
  let#[d,h1,h2]:=h.im i t e;show#[d,h1,Sn.sx (ui s) t h2],λ i ts e=>by
  let#[p,ds,h1,h2,h3,h4]:=h.ow i ts e;show#[p,ds,h1,s Å h2,tV.sx (ui s) h3,h4]]
def Vw.grow (h:Vw S Z y d) (s:Sx S S'):Vw S' Z y d:=by
 rcases h with h | ⟨ts,p,ds,h1,h2,h3,h4,h5⟩
 .show .inl (Sn.sx (ui s) y h)
 .show .inr #[ts,p,ds,h1,h2,s Å h3,zp.sx (ui s) ts h4,h5]
def Vw.sn (h:Vw S Z y d):Sn S y d:=by
 rcases h with h | ⟨ts,p,ds,rfl,rfl,h3,h4,_⟩
 .show Sn.sx (kR S Z) y h
 .simp![Sn];show#[ds,.inr #[p,rfl,h3],zp.sx (kR S Z) ts h4]
theorem Vw.zm (h:Vw S Z .zm d):d=.zm:=by
 rcases h with h | ⟨_,_,_,h,_⟩
 .simpa only [Sn] using h
 .cases h
)
example:=`(
example À:=Option
example Á:=by rcases yK e with ⟨rfl,hl,e⟩ | ⟨n,e⟩
example Â _:=x S Z Y J
example â:=Ap.mp e
example ã _:=x e1 λ d S1 s1 r1=>?_
example Ã:=by let#[x,e1,e2]:=â;exact h Â x _ hE ã
example Ò:=List T
example Ä:=Ev->À (Ò)
example Å:=yk M h n
example Ņ:=t.place
example î:=below Ņ j
example Æ:=insertAt Ņ (î) j
example ķ:=(yJ X N' scope cl C s H fp)
example Ç(Sc:sY X N' pick scope) (hc:X.calm=true) (hi:u7 X tg iter ti) (hg:∀ cl C s H fp,vC ķ tg g) (hf:∀ cl C s H fp,oW ķ ifs HY) (he:∀ cl C s H fp,PD ķ elt te):=0
example È:=(λ _=>nofun)
example É(FW:∀ (Ah:Value) (A:Around) (outer:List Env) (s:Shared) (H:Hp) (E:XK),yo k (A.deeper (envOfC x (zS st) s.heap.objs.size f Ah))-> ∃ t,vj (xj yT P w K mg base N x (zS st) f Ah A outer s H E).x9 (xi st) t/\yy R g t):=0
example Ê _:=x S (.refl S)
example Ë:=owner
example Ì:=Ev->À Ev
example Í:=t.place.toList
example ç:=List Int
example Î{t:SetTable}{hs:ç}(T:Tab t hs):=0
example Ï:=by rcases yK e' with ⟨rfl,hl,e'⟩ | ⟨n,e'⟩
example Ð:=by rcases h with h | ⟨_,_,_,h,_⟩
example Ñ _:=x (g:=nD X.K g) (tc:=w9 X.K HY) (te:=yb X.K te) Sc hc hi.pi (λ cl C s H fp=>(hg cl C s H fp).pg) (λ cl C s H fp=>(hf cl C s H fp).pf) (λ cl C s H fp=>(he cl C s H fp).pe)
example Ó:=Ev->À Bool
example ļ:=AU.mp
example À1:=by let#[d,rfl,h1]:=vV hv
example Ô:=by ext À1;let#[ts,e1,rfl]:=ļ e;let#[es,h2,h3]:=h1.seq e1
example Ļ:=hE.grow s1
example Õ:=by let#[x,e1,e0]:=â;let#[xs,e2,e3]:=Ap.mp e0;cases e3;exact h Â x _ hE ã;exact h' S1 Z Y J xs _ (Ļ) e2 λ ds S2 s2 r2=>?_
example Ö(i:Nat):=0
example Ġ _:=x S0 Z0
example Ø:=FR Ġ Â
example Ū:=by simp[h.len]
example Ù:=#[#[h.er.zd,λ j t e=>?_,λ j ts e=>?_],Ū,h.sx,h.z0,h.zz,h.zn,λ j ts p e e'=>?_,λ j k ts us p n e1 e2 e3 e4=>?_]
example Ú:=Array (À Nat)
example ă(M:Nat):=0
example ũ(h:Int):=0
example Û ă ũ:=0
example Ü:=by rcases yK e1 with ⟨rfl,hl,e⟩ | ⟨n1,e1⟩
example Ý:=way M h k
example Þ:=(f J).bind
example ß:=Addr->Prop
example ř{g:T->Ì}:=0
example ú:=List α
example ĸ:=xs.length
example Á4:=List (À Nat)
example Ķ:=(xs.map enc)
example à{pick:Á4}{it:Ä}ř{c:Ó}{f:Ae}{J:Ev}(xs:ú) (hi:it J=↑ Ķ) (hl:ĸ<=16777216):=0
example á:=t.mask
example ä:=.lst
example å:=T->T->À T
example æ:=List.range
example è:=(lives M Ë).map
example é:=.int
example ê:=if_pos
example ë:=I.items.length
example ì:=Array.getElem?_eq_some_iff.mp
example í{α:Type}:=0
example ï:=(yc S Z)
example ð:=sizeLine
example ñ:=by obtain⟨ds,rfl | ⟨a,rfl,h1⟩,h2⟩:=Vw.lst r1
example ħ:=bits h
example ý:=(M+1)
example ò:=layClean.free M Ë (turns M) (ħ%ý) (ħ)
example ó(ha:yC fa ta) (hb:yC fb tb):=0
example ô:=(.ListComp elt [#[tg,iter,ifs,0]] scope pos)
example õ:=(Å).1
example ö{g:Int->Int->T}{g':Int->Int->D}(h:∀ i j S,Sn S (g i j) (g' i j)) (n:∀ i j ts,g i j≠ ä ts):=0
example ø:=ou (by rw[h.len];show hl)
example ù:=by cases h
example û:=(s1.trans s2)
example ü:=by rcases yK e2 with ⟨rfl,hl,e⟩ | ⟨n2,e2⟩
example þ:=sI (m9 (λ _ _ _=>wj) λ _ _ _=>nofun) ha hb
example ÿ:=if_neg
example Ā:=g y J=↑J'-> (∀ Y',ER S Z Y' J'->qN B Y'->Y'.length=J'.length->Q Y' S)->t d Y S Q
example À0:=trivial
example ż _:=x _ S1 s1
example ā:=hq ż h2 λ _ _=>À0
example À7:=Cl.of
example Ă:=(À7 È wK)
example Ą(pick:Á4):=0
example ą:=by rcases yK e2 with ⟨rfl,hl,_⟩ | ⟨n2,e2⟩
example Ć:=hq _ Ê (À7 È wj)
example ć:=by let#[y',h1,h2]:=lS e;cases h2
example Ĉ _:=x S1 Z Y J y _ (Ļ) e2
example Ä1 _:=x (.ref r) (ups S r (ä (ds++es)))
example Ő:=ds.length+es.length<=ð
example ĉ:=Ő/\∀ r,S r=none->Q Ä1
example Ċ:=(J.set i ↑(.im y))
example ċ:=Ë[j]?=↑↑k
example Č:=owner.setIfInBounds j ↑m
example č _:=x _ _
example Ď{f:Ae}{te:zu}:=0
example ď:=(ä ts)
example ŕ:=List Str
example ţ{R:Rk}:=0
example Đ ţ [Lo R] {x:Str}{st:Stmt}{N ps:ŕ}{k n:Nat}{g:Sm}(F:wZ K x x st f fd):=0
example đ:=xs.size
example Ē:=hs.length
example ē:=∀ J,I p J->∃ J',turn g b (enc x) J=↑(.nx J')/\I (p++[x]) (yX is J')
example Ĕ:=runEnd
example ĕ:=(by simp![zj])
example Ė _:=x _ hE e1 λ ds S1 s1 r1=>?_
example ė:=.tup
example Ę:=below xs j
example ę:=(.ref p)
example Ě:=hq S1 s1
example ě:=(Å).2
example Ĝ{ds:List D}:=0
example ĝ(f:Ae):=0
example Ğ:=by simp![zp] at r;let#[c,cs,rfl,r1,r2]:=r;let#[J1,e1,e2]:=â
example Æ0(hM:vE M):=0
example ğ{M:Nat}Æ0:=0
example ſ:=h.er.ow
example ġ:=by let#[p',ds,h1,h2,h3,h4]:=ſ i ts e;rw[ed] at h1;cases h1
example Ģ _:=x hi.mo (hg [] 0 s H []).mo (hf [] 0 s H []).mo (he [] 0 s H []).mo
example ģ:=by .simpa only [Sn] using h
example Ĥ:=by let#[y,e1,e2]:=â
example ĥ:=.inr
example Ħ:=h.fr i ts p e ed
example Ĩ:=List Bool
example ĩ:=by rename_i t h;cases e;let#[d,h1,h2]:=hE.im i _ h;unfold xb;rw[h1]
example Ī(g:T->Ì):=0
example ź:=(t.put j).2
example ī:=(t.put j).1={ t with place:=insertAt Ņ ź j }
example Ĭ:=zp ï ts ds
example ĭ:=∀ a,Z a->S a≠none
example Į:=(.new hp _)
example į:=(uQ pick ti g HY te)
example İ:=Option.none
example Ō:=by split at e2
example ı:=by let#[b,e1,e2]:=â;exact h Â b _ hE e1 λ S1 s1=>?_;ext Ō
example Ĳ(enc:α->T):=0
example ĳ:=Sx S S'
example Ĵ:=List Nat
example ĵ:=by simp![Sn] at r;let#[ds,rfl,r]:=r;simp![xK] at e;split at e
example Ĺ:=∃ bs:Ĩ,yg d S=↑(bs.map D.bl)/\Q (.bl (g bs)) S
example Â4:=way á h k
example ĺ:=∃ k,(Â4).j=j/\∀ k'<k,(way á h k').j∈ Í
example Ľ:=(è (·.1)).toArray.toList
example ľ:=by dsimp only
example Ŀ(J:Ev):=0
example ŀ:=by let#[Z,ys,y,hz,r,e,hq]:=hs;unfold zM at e;split at e
example Ł:=by cases ef;cases hx.int;cases hy.int
example ł:=some ↑(.own ď)
example Ń:=Y.length=J.length
example ń:=(uc pick Y)
example ņ:=by let#[xs,e1,e2]:=â
example Ň(hs:∀ x,foldedSetIterable iter X.env x=pure x):=0
example ň(hr:uV xs.toList):=0
example ŉ:=.inl
example Ŋ{S:SS}{Z:ß}:=0
example ŋ{Y:yt}{J:Ev}:=0
example ō:=by cases e2
example Ŏ:=.str
example ŏ:=ts.length
example ő:=h' Ĉ λ d S2 s2 r2=>hq d S2 û (Cl.cl s1 r2)
example Œ:=(yX is J)
example œ:=F.grow s1
example Ŕ:=ys.length
example Ŗ:=(show 0<M+1 by lia)
example ŗ:=by simp![Sn]
example Ř:=by .subst q;unfold uq;ext ľ;rw[h1,h3];show key
example Ś:=#[h.1,h.2.1,λ r hr=>hq č (h.2.2 r hr)]
example ś:=by rename_i h;cases ef
example Ŝ:=R S S' Z y d
example ŝ:=(g J).bind
example Ş:=(∀ i:Nat,pick[i]?=↑none->B[i]?=↑none)
example ş:=h.elim
example Š:=owner.size
example š:=L.size
example Ţ{ts:Ò}:=0
example Ť:=by ext ō;change Q (!ds.isEmpty) S1;rw[h2.empty];show Ě
example ť:=by rename_i hb
example Ŧ(h:yC f t):=0
example ŧ _:=x n e1 e2 e3 e4
example Ũ(hf:u9 f te):=0
example ū:=xS is g b ys J2
example Ŭ:=(way á h k1).j
example ŭ{S:SS}{Q:DK}(hs:zG R (zM N n g) ds S Q):=0
example Ů:=by unfold Ĕ;split <;> lia
example ů:=i.length+j.length<=ð
example Ű:=J[i]?=↑↑(.own ts)
example ű:=below.go xs j f lo hi
example Ų:=by let#[p,ob,h1,h2,h3,h4]:=F.er.ow i _ h
example ų:=by rcases yK e with ⟨rfl,Il,e⟩ | ⟨n,e⟩
example Ŵ(hashes:Array Int) (hl:hashes.size<=M+1):=0
example ŵ:=by simp![zj] at r
example Ŷ:=Y[i]?=↑↑ ę
example ŷ:=Ò->Ì
example Ÿ:=hq #[ds,_] S1 s1 h2 λ S'' s=>s č h1
example Ź:=probe.go
example Ż:=(Æ).toList
example Ž{xs:Array Nat}:=0
example ž:=by have:lo=hi:=⋯;subst this;show#[h3,h4,h5]
example À2(Sc:vF N ps (zS st)) (hn:n=ps.length):=0
example À3:=kL.mpr #[⋯,⋯]
example À4 _:=x b Aa.toArray GQ.toArray n n2 dd JZ sl I_
example À5:=ė ts
example À6:=zp.sx
example À8:=by cases y <;> first | show#[h.1,hq č h.2] | show h
example À9:=λ S3 Z3 Y3 F3=>#[Z3,J2,F3,e']
example Á0{b:Bool}{g:Ä}{tA:ym}(h:qW g tA):=0
example Á1:=(∀ c S',ĳ->R S S' Z z c->Q c S')
example Á2:=by unfold uq at h ⊢;dsimp only at h ⊢;split at h
example Á3:=λ a=>Z a\/a=p
example Á5:=((x2.trans x3).trans a2).trans x5
example Á6{f:Ae}{t:zu}:=0
example Á7:=#[d,h1,Sn.sx (ot s hp) t h2]
example Á8:=λ j k us vs q n e1 e2 e3 e4=>?_
example Á9:=Sn (yc S λ a=>Z a/\a≠p) ď ę
example Â0:=(λ b o hb q=>by rw[uZ hb];show q)
example Â1:=by simp only at hc hd HQ hd2;subst hc hd HQ hd2
example Â2:=(∀ Y',FR Ġ S Z Y' J'->Q Y' S)
example Â3:=by exists hi
example Â5:=owner.getD
example Â6 _:=x Â y _ F.er
example Â7:=by let#[ys,e1,e2]:=â;exact h Â ys Ė
example Â8:=Classical.em
example Â9:=(è (·.2)).toArray.toList.map
example Ã0:=by cases Vw.bl r1
example Ã1:=hq _ Ê (À7 (n č) (h č _))
example Ã2:=by simp;lia
example Ã3:=by rw[h2.len,h4.len];show h
example Ã4:=∃ (e:Nat),e<=M/\Ë[e]?=↑ İ
example Ã5(h:T->À (À T)):=0
example Ã6:=by ext ŵ;let#[a,xs,rfl,_]:=r;rfl
example Ã7:=List.drop_eq_getElem_cons Ax
example Ã8:=Ĕ M i-i
example Ã9:=((Ý).i*5+1+(Ý).perturb/32)
example Ä0:=∀ q'<q,rY Ë (way M h q').j
example Ä2(h:i<đ):=0
example Ä3:=Decidable
example Ä4:=ÿ (by rw[T.rR];simp[has])
example Ä5:=(uM λ a z=>z.1)
example Ä6:=λ b o q=>?_
example Ä7:=(hName i)
example Ä8:=Ò->À (Ò)
example Ä9:=(.refl H)
example Å0:=λ k=>hashes.toList.getD k 0
example Å1:=by ext ť;rw[ê hb]
example Å2{p:Addr}(h:Ø):=0
example Å3{y:T}{d:D}:=0
example Å4(hg:yy R g t) (hh:yy R h u):=0
example Å5{xs:ú}:=0
example Å6:=by ext ť;rw[ÿ hb]
example Å7 _:=x #[_,ho,rfl] #[_,Iu,rfl]
example Å8:=by intro FH s σ H x y v u Q I rx ry h
example Å9{j:Nat}:=0
example Æ1(L:Lay M hs Ë m) (hm:m<=M):=0
theorem Vw.bl {b:Bool}(h:Vw S Z (.bl b) d):d=.bl b:=by
 ext Ð
 ext ģ
 .cases h
theorem Vw.int {b:Int}(h:Vw S Z (é b) d):d=é b:=by
 ext Ð
 ext ģ
 .cases h
theorem Vw.str {b:Str}(h:Vw S Z (Ŏ b) d):d=Ŏ b:=by
 ext Ð
 ext ģ
 .cases h
theorem Vw.tup Ţ(h:Vw S Z (À5) d):∃ ds,d=ė ds/\Ĭ:=by
 ext Ð
 ext ģ
 .cases h
theorem Vw.lst Ţ(h:Vw S Z ď d):∃ ds,(d=.xN ds\/∃ a,d=.ref a/\S a=↑(ä ds))/\Ĭ:=by
 rcases h with h | ⟨us,p,ds,h1,h2,h3,h4,_⟩
 .simp![Sn] at h;let#[ds,h1,h2]:=h;exact#[ds,?_,h2];rcases h1 with h1 | ⟨a,h1,h3⟩
  .show ŉ h1.1
  .show ĥ #[a,h1,(uL h3).2]
 .cases h1;show#[ds,ĥ #[p,h2,h3],h4]
def wo:T->À (Ò)
 | À5=>↑ts
 | ä ts=>↑ts
 | _=>none
@[simp] theorem bc (ts:Ò):wo (À5)=↑ts:=rfl
@[simp] theorem Ud (ts:Ò):wo ď=↑ts:=rfl
def Vw.seq Ţ(h:Vw S Z y d) (e:wo y=↑ts):∃ ds,yg d S=↑ds/\Ĭ:=by
 cases y with
 | tup us=>cases e;let#[ds,rfl,h2]:=h.tup;show#[ds,rfl,h2]
 | lst us=>
  cases e;obtain⟨ds,h1 | ⟨a,rfl,h1⟩,h2⟩:=h.lst
  .subst h1;show#[ds,rfl,h2]
  .show#[ds,by unfold yg;ext ľ;rw[h1],h2]
 | _=>cases e
theorem Vw.xh (h:Vw S Z .xh d):∃ a Aq,(d=.ref a/\Aq=[])/\S a=↑(.yP Aq):=by
 ext Ð
 .simp![Sn] at h;let#[a,Aq,h1,h2]:=h;show#[a,Aq,h1,(uL h2).2]
 .cases h
def cU:Sn S .zm .zm:=by ext ŗ
def wK {b:Bool}:Sn S (.bl b) (.bl b):=by ext ŗ
def wj {i:Int}:Sn S (é i) (é i):=by ext ŗ
def cT {x:Str}:Sn S (Ŏ x) (Ŏ x):=by ext ŗ
def qj Ţ Ĝ(h:zp S ts ds):Sn S (À5) (ė ds):=by ext ŗ;show#[ds,rfl,h]
def t8 Ţ Ĝ{p:Addr}(hz:ĭ) (hp:S p=none) (h:Ĭ):zE S (ups S p (ä ds)) Z ď ę:=by
 have nz:¬ Z p:=λ z=>hz p z hp;have s:Sx S (ups S p (ä ds)):=.new hp _;exact#[?_,λ us e=>?_]
 .ext ŗ;show#[ds,ĥ #[p,rfl,by rw[uh nz,rj]],À6 (ui s) ts h]
 .cases e;show#[p,ds,rfl,hp,rj,À6 (ot s hp) ts h]
end
def xw (R:Rk) ĝ (t:zu):Prop:=∀ S Z Y J y Q,ER Â->f J=↑y->(∀ d S',ĳ->Ŝ->Q d S')->t Y S Q
abbrev u9:=xw xr
abbrev yC:=xw Xe
abbrev xG:=xw zE
def xw.imp {R R':Rk}Á6(h:xw R f t) (i:∀ S S' Z y d,Ŝ->R' S S' Z y d):xw R' f t:=λ S Z Y J y Q hE e hq=>h Â y Q hE e λ d S' s r=>hq d S' s (i č č _ r)
def xw.er Á6(h:u9 f t):yC f t:=h.imp λ _ _ _ _ _ r=>ŉ r
def xw.fe Á6(h:xG f t):u9 f t:=h.imp λ _ _ _ _ _ r=>r.1
def xw.fr Á6(h:xG f t):yC f t:=h.fe.er
@[simp] def zl Ö:Ae:=fun J=>match J[i]? with
 | some ↑(.im t)=>↑t
 | _=>none
@[simp] def zc Ö:Ae:=fun J=>match J[i]? with
 | some ↑(.im t)=>↑t
 | ł=>↑ ď
 | _=>none
@[simp] def cS (t:T):Ae:=λ _=>↑t
@[simp] abbrev cI (i:Int):Ae:=cS (é i)
def aK Ö:u9 (zl i) (xb i):=λ S Z Y J y Q hE e hq=>by
 unfold zl at e;split at e
 .ext ĩ;show hq d Ê h2
 .cases e
def PL Ö:yC (zc i) (xb i):=λ S Z Y J y Q hE e hq=>by
 unfold zc at e;split at e
 .ext ĩ;show hq d Ê (ŉ h2)
 .rename_i ts h;cases e;let#[p,o,h1,h2,h3,h4]:=hE.ow i _ h;unfold xb;rw[h1];cases o with
  | lst ds=>show hq _ Ê (ĥ #[ts,p,ds,rfl,rfl,h2,h3,h4])
  | _=>show h3.elim
 .cases e
def OS (i:Int):xG (cS (é i)) (dC (é i)):=λ S Z Y J y Q hE e hq=>by cases e;show Ć
def Nd (i:Bool):xG (cS (.bl i)) (dC (.bl i)):=λ S Z Y J y Q hE e hq=>by cases e;show hq _ Ê Ă
def PV (i:Str):xG (cS (Ŏ i)) (dC (Ŏ i)):=λ S Z Y J y Q hE e hq=>by cases e;show hq _ Ê (À7 È cT)
def Oc:xG (cS .zm) (dC .zm):=λ S Z Y J y Q hE e hq=>by cases e;show hq _ Ê (À7 È cU)
@[simp] def zb (f:å) (fa fb:Ae):Ae:=fun J=>(fa J).bind λ x=>(fb J).bind λ y=>f x y
def Good2 (R:Rk) (f:å) (g:yR):Prop:=∀ S Z x y z d e Q,(ĭ)->Vw S Z x d->Vw S Z y e->f x y=↑z->Á1->g d e S Q
def sI ţ [Cl R] {f:å}{g:yR}{fa fb:Ae}{ta tb:zu}(hg:Good2 R f g) ó:xw R (zb f fa fb) (yB g ta tb):=λ S Z Y J y Q hE e hq=>by
 unfold zb at e;let#[x,e1,e]:=â;let#[z,e2,e]:=â;exact ha Â x _ hE ã;exact hb S1 Z Y J z _ (Ļ) e2 λ d2 S2 s2 r2=>?_;show hg S2 Z x z y d d2 Q ((hE.grow û).zd) (Vw.grow r1 s2) r2 e λ c S' s r=>hq c S' ((s1.trans s2).trans s) (Cl.cl û r)
@[simp] def i2 (g:Int->Int->T):å
 | é i,é j=>↑(g i j)
 | _,_=>none
instance {i j:Int}:Ä3 (vU i j):=by unfold vU;infer_instance
instance {i j:Int}:Ä3 (xJ i j):=by unfold xJ;infer_instance
instance {i j:Int}:Ä3 (qe i j):=by unfold qe;infer_instance
@[simp] def qG (C:Int->Int->Prop) [∀ i j,Ä3 (C i j)] (g:Int->Int->T):å
 | é i,é j=>if C i j then ↑(g i j) else none
 | _,_=>none
def gq ö:Good2 zE (i2 g) (xP g'):=λ S Z x y z d e Q hz hx hy ef hq=>by
 unfold i2 at ef;split at ef
 .ext Ł;show Ã1
 .cases ef
def m9 {C:Int->Int->Prop} [∀ i j,Ä3 (C i j)] ö:Good2 zE (qG C g) (fI C g'):=λ S Z x y z d e Q hz hx hy ef hq=>by
 unfold qG at ef;split at ef
 .split at ef
  .rename_i hh;ext Ł;show#[hh,Ã1]
  .cases ef
 .cases ef
@[simp] def yu:å:=i2 λ i j=>é (i-j)
@[simp] def zy:å:=qG (λ _ j=>0<j) λ i j=>é (i%j)
@[simp] def xB:å:=qG xJ λ i j=>é (i/j)
@[simp] def xq:å:=qG qe λ i j=>é (i ^ j.toNat)
@[simp] def rE:å:=i2 λ i j=>.bl (decide (i<=j))
@[simp] def tH:å:=i2 λ i j=>.bl (decide (j<i))
section
variable {fa fb:Ae}{ta tb:zu}
def PU ó:xG (zb yu fa fb) (yB (xP λ i j=>é (i-j)) ta tb):=sI (gq (λ _ _ _=>wj) λ _ _ _=>nofun) ha hb
def Oh ó:xG (zb zy fa fb) (yB (fI (λ _ j=>0<j) λ i j=>é (i%j)) ta tb):=þ
def OX ó:xG (zb xB fa fb) (yB (fI xJ λ i j=>é (i/j)) ta tb):=þ
def PZ ó:xG (zb xq fa fb) (yB (fI qe λ i j=>é (i ^ j.toNat)) ta tb):=þ
end
def zv (neg:Bool):å:=λ x y=>if dep x<=60/\dep y<=60 then ↑(.bl (cond neg (!eqT x y) (eqT x y))) else none
def rK (neg:Bool):å:=λ x y=>match wo y with
 | some ts=>if dep x<=60/\yA ts<=60 then ↑(.bl (cond neg (!(ts.any λ t=>eqT t x)) (ts.any λ t=>eqT t x))) else none
 | none=>none
def Lh {neg:Bool}:Good2 zE (zv neg) (v8 neg):=λ S Z x y z d e Q hz hx hy ef hq=>by
 unfold zv at ef;split at ef
 .ext ś;show#[x,y,hx.sn,hy.sn,h.1,h.2,hq _ Ê Ă]
 .cases ef
def Lg {neg:Bool}:Good2 zE (rK neg) (rQ neg):=λ S Z x y z d e Q hz hx hy ef hq=>by
 unfold rK at ef;split at ef
 .rename_i ts ht;split at ef
  .ext ś;let#[ds,h1,h2]:=hy.seq ht;show#[x,ts,ds,hx.sn,h1,À6 (kR S Z) ts h2,h.1,h.2,hq _ Ê Ă]
  .cases ef
 .cases ef
@[simp] def zg:å:=λ x y=>match wo x,y with
 | some ts,é i=>L2.ya ts i
 | _,_=>none
def ZL:Good2 xr zg wG:=λ S Z x y z d e Q hz hx hy ef hq=>by
 unfold zg at ef;split at ef
 .rename_i ts i ht;cases hy.int;let#[ds,h1,h2]:=hx.seq ht;let#[c,h3,h4]:=h2.at ef;unfold yg at h1;split at h1
  .cases h1;show LM h3 (hq c Ê h4)
  .cases h1;show LN h3 (hq c Ê h4)
  .split at h1
   .rename_i q;cases h1;show LO q h3 (hq c Ê h4)
   .cases h1
  .cases h1
 .cases ef
@[simp] def zT:å
 | é i,é j=>↑(é (i+j))
 | Ŏ i,Ŏ j=>if ů then ↑(Ŏ (i++j)) else none
 | ä ts,ä us=>if ŏ+us.length<=ð then ↑(ä (ts++us)) else none
 | À5,ė us=>if ŏ+us.length<=ð then ↑(ė (ts++us)) else none
 | _,_=>none
def uq:yR:=λ x y S Q=>match x,y with
 | é i,é j=>Q (é (i+j)) S
 | Ŏ i,Ŏ j=>ů/\Q (Ŏ (i++j)) S
 | ė ds,ė es=>Ő/\Q (ė (ds++es)) S
 | .zm,_=>False
 | .bl _,_=>False
 | é _,_=>False
 | Ŏ _,_=>False
 | ė _,_=>False
 | x,y=>match yg x S,yg y S with
  | some ds,↑es=>(∀ ts,y≠ À5)/\ĉ
  | _,_=>False
def good_add:Good2 zE zT uq:=λ S Z x y z d e Q hz hx hy ef hq=>by
 unfold zT at ef;split at ef
 .ext Ł;show Ć
 .split at ef
  .ext ś;cases hx.str;cases hy.str;show#[h,hq _ Ê (À7 È cT)]
  .cases ef
 .split at ef
  .ext ś;let#[ds,h1,h2]:=hx.seq rfl;let#[es,h3,h4]:=hy.seq rfl;have nt:∀ ts,e≠ À5:=by
    obtain⟨_,q | ⟨_,q,_⟩,_⟩:=hy.lst <;> subst q <;> show λ _=>nofun
   have key:(∀ ts,e≠ À5)/\ĉ:=
    #[nt,Ã3,λ r hr=>hq č (.new hr _) (t8 hz hr (h2.append h4))]
   obtain⟨_,q | ⟨a,q,_⟩,_⟩:=hx.lst
   ext Ř
   ext Ř
  .cases ef
 .split at ef
  .ext ś;let#[ds,rfl,h2]:=hx.tup;let#[es,rfl,h4]:=hy.tup;show#[Ã3,hq _ Ê (À7 È (qj (h2.append h4)))]
  .cases ef
 .cases ef
def vD (f:Ó) (t:yM):Prop:=∀ S Z Y J y Q,ER Â->f J=↑y->(∀ S',ĳ->Q y S')->t Y S Q
@[simp] def zw ĝ:Ó:=fun J=>Þ λ x=>match x with
 | .bl b=>↑b
 | _=>none
@[simp] def cH:T->À Bool
 | .zm=>↑false
 | .bl b=>↑b
 | é i=>↑(i != 0)
 | Ŏ x=>if x.length<=ð then ↑((x.length:Int) != 0) else none
 | À5=>↑(!ts.isEmpty)
 | ä ts=>↑(!ts.isEmpty)
 | .xh=>none
 | .err č _=>none
@[simp] def zX ĝ:Ó:=fun J=>Þ cH
@[simp] def wR (f g:Ó):Ó:=fun J=>Þ λ b=>if b=true then g J else ↑false
@[simp] def yL (f g:Ó):Ó:=fun J=>Þ λ b=>if b=true then ↑true else g J
@[simp] def yf (f:Ó):Ó:=fun J=>(f J).map (!·)
section
variable {f g:Ae}{t u:zu}{fb gb:Ó}{tb ub:yM}{ţ}
def PN Ŧ:vD (zw f) (vQ t):=λ S Z Y J y Q hE e hq=>by
 ext Ã;ext Ō
 .ext ō;ext Ã0;show Ě
 .ext ō
def PR Ŧ:vD (zX f) (Yi t):=λ S Z Y J y Q hE e hq=>by
 ext Ã;cases x with
 | zm=>cases Vw.zm r1;ext ō;show Ě
 | bl b=>ext Ã0;ext ō;show Ě
 | int b=>cases Vw.int r1;ext ō;show Ě
 | str b=>
  cases Vw.str r1;simp![cH] at e2;ext Ō
  .rename_i hh;ext ō;show#[hh,Ě]
  .ext ō
 | tup ts=>
  let#[ds,rfl,h2]:=Vw.tup r1;ext Ť
 | lst ts=>
  ext ñ
  .ext Ť
  .ext ō;exact Vi h1 ?_;rw[h2.empty];show Ě
 | _=>ext ō
def O_ (h:vD fb tb) (h':vD gb ub):vD (wR fb gb) (mM tb ub):=λ S Z Y J y Q hE e hq=>by
 ext ı
 .ext Å1;show h' Ĉ λ S2 s2=>hq S2 û
 .ext Å6;ext ō;show Ě
def OY (h:vD fb tb) (h':vD gb ub):vD (yL fb gb) (mK tb ub):=λ S Z Y J y Q hE e hq=>by
 ext ı
 .ext Å1;ext ō;show Ě
 .ext Å6;show h' Ĉ λ S2 s2=>hq S2 û
def OZ (h:vD fb tb):vD (yf fb) (mL tb):=λ S Z Y J y Q hE e hq=>by
 unfold yf at e;let#[b,e1,rfl]:=ļ e;show h Â b _ hE e1 λ S1 s1=>Ě
@[simp] def xD (f g:Ae):Ae:=fun J=>Þ λ x=>match x with
 | .bl k=>if k=true then g J else ↑(.bl false)
 | _=>none
@[simp] def aA (f g:Ae):Ae:=fun J=>Þ λ x=>match x with
 | .bl k=>if k=true then ↑(.bl true) else g J
 | _=>none
@[simp] def ky ĝ:Ae:=fun J=>Þ λ x=>match x with
 | .bl k=>↑(.bl (!k))
 | _=>none
def Nl [Cl R] Ŧ (h':xw R g u):xw R (xD f g) (mW t u):=λ S Z Y J y Q hE e hq=>by
 ext Ã;ext Ō
 .ext Ã0;ext Ō
  .ext ť;ext ľ;rw[ê hb];show ő
  .ext ť;ext ľ;rw[ÿ hb];ext ō;show hq ż Ă
 .ext ō
def Oa [Cl R] Ŧ (h':xw R g u):xw R (aA f g) (mS t u):=λ S Z Y J y Q hE e hq=>by
 ext Ã;ext Ō
 .ext Ã0;ext Ō
  .ext ť;ext ľ;rw[ê hb];ext ō;show hq ż Ă
  .ext ť;ext ľ;rw[ÿ hb];show ő
 .ext ō
def Ob [Cl R] Ŧ:xw R (ky f) (mT t):=λ S Z Y J y Q hE e hq=>by
 ext Ã;ext Ō
 .ext Ã0;ext ō;show hq ż Ă
 .ext ō
end
def lh (S:SS) (Z:ß):Ò->List D->Prop
 | [],ds=>ds=[]
 | t::ts,ds=>∃ c cs,ds=c::cs/\Vw S Z t c/\lh S Z ts cs
def qW (f:Ä) (t:ym):Prop:=∀ S Z Y J ys Q,ER Â->f J=↑ys->(∀ ds S',ĳ->lh S' Z ys ds->Q ds S')->t Y S Q
def rX (f:Ä) (t:ym):Prop:=∀ S Z Y J ys Q,ER Â->f J=↑ys->(∀ ds S',ĳ->zp (yc S' Z) ys ds->Q ds S')->t Y S Q
@[simp] def ze:Ä:=λ _=>↑[]
@[simp] def za ĝ (g:Ä):Ä:=fun J=>Þ λ x=>ŝ λ xs=>↑(x::xs)
section
variable {f:Ae}{g:Ä}{t:zu}{u:ym}
def Pz:qW ze gU:=λ S Z Y J y Q hE e hq=>by cases e;show hq [] Ê rfl
def Px:rX ze gU:=λ S Z Y J y Q hE e hq=>by cases e;show hq [] Ê .nil
def P0 Ŧ (h':qW g u):qW (za f g) (oA t u):=λ S Z Y J y Q hE e hq=>by
 ext Õ;show hq _ S2 û #[d,ds,rfl,Vw.grow r1 s2,r2]
def Py (h:u9 f t) (h':rX g u):rX (za f g) (oA t u):=λ S Z Y J y Q hE e hq=>by
 ext Õ;show hq _ S2 û (.cons (Sn.sx (ui s2) x r1) r2)
@[simp] def tupS (g:Ä):Ae:=fun J=>ŝ λ xs=>if ĸ<=ð then ↑(ė xs) else none
@[simp] def ye (g:Ä):Ae:=fun J=>ŝ λ xs=>if ĸ<=ð then ↑(ä xs) else none
def PM (h:rX g u):xG (tupS g) (Yr u):=λ S Z Y J y Q hE e hq=>by
 ext ņ;ext Ō
 .rename_i hl;ext ō;exact h Â xs _ hE e1 λ ds S1 s1 r1=>#[by rw[r1.len];show hl,hq ż (À7 È (qj r1))]
 .ext ō
def Oj (h:rX g u):xG (ye g) (Yu u):=λ S Z Y J y Q hE e hq=>by
 ext ņ;ext Ō
 .rename_i hl;ext ō;exact h Â xs _ hE e1 λ ds S1 s1 r1=>#[by rw[r1.len];show hl,λ p hp=>hq č (s1.trans Į) (Cl.cl s1 (t8 (Ļ).zd hp r1))]
 .ext ō
end
@[simp] def zi (F:Ak) (g:Ä):Ae:=fun J=>ŝ F
def vn (R:Rk) (F:Ak) (f:xE):Prop:=∀ S Z ys z ds Q,(ĭ)->lh S Z ys ds->F ys=↑z->Á1->f ds S Q
def Nc ţ [Cl R] {F:Ak}{f:xE}{g:Ä}{u:ym}(hf:vn R F f) (h:qW g u):xw R (zi F g) (xR f u):=λ S Z Y J y Q hE e hq=>by
 ext ņ;exact h Â xs Ė;show hf S1 Z xs y ds Q (Ļ).zd r1 e2 λ c S' s r=>hq c S' (s1.trans s) (Cl.cl s1 r)
@[simp] def zJ:Ak
 | [Ŏ z]=>if z.length<=ð then ↑(é z.length) else none
 | [y]=>(wo y).map λ ts=>é ŏ
 | _=>none
def vV Ŋ{y:T}Ĝ(h:lh S Z [y] ds):∃ d,ds=[d]/\Vw S Z y d:=by
 let#[c,cs,rfl,h1,h2]:=h;cases h2;show#[c,rfl,h1]
def lI Ŋ{y z:T}Ĝ(h:lh S Z [y,z] ds):∃ d e,ds=[d,e]/\Vw S Z y d/\Vw S Z z e:=by
 let#[c,cs,rfl,h1,c2,cs2,rfl,h2,h3]:=h;cases h3;show#[c,c2,rfl,h1,h2]
def Ld:vn zE zJ uo:=λ S Z ys z ds Q hz hv e hq=>by
 unfold zJ at e;split at e
 .ext À1;split at e
  .rename_i hl;cases e;cases h1.str;show#[hl,Ć]
  .cases e
 .ext Ô;exact LL h2 ?_;rw[h3.len];show Ć
 .cases e
@[simp] def listS:Ak
 | [y]=>(wo y).map ä
 | _=>none
def Lc:vn zE listS um:=λ S Z ys z ds Q hz hv e hq=>by
 unfold listS at e;split at e
 .ext Ô;show LK h2 λ p hp=>hq č Į (t8 hz hp h3)
 .cases e
@[simp] def yz:Ak
 | [y]=>(wo y).map ė
 | _=>none
def MT:vn zE yz uj:=λ S Z ys z ds Q hz hv e hq=>by
 unfold yz at e;split at e
 .rename_i y;ext Ô;have k:Q (ė es) S:=hq _ Ê (À7 È (qj h3));unfold yg at h2;split at h2
  .cases h2;show k
  .cases h2;show k
  .split at h2
   .rename_i q;cases h2;show LJ q k
   .cases h2
  .cases h2
 .cases e
@[simp] def kN (g:Int->Int->Int):Ak
 | [é i,é j]=>↑(é (g i j))
 | _=>none
def ZM {g:Int->Int->Int}:vn zE (kN g) (vO λ i j=>é (g i j)):=λ S Z ys z ds Q hz hv e hq=>by
 unfold kN at e;split at e
 .let#[d,d',rfl,h1,h2]:=lI hv;cases e;cases h1.int;cases h2.int;show Ć
 .cases e
@[simp] def i_:Ak:=kN λ i j=>if j>i then j else i
@[simp] def pX:Ak:=kN λ i j=>if j<i then j else i
def uu:Ò->À (Ĩ)
 | []=>↑[]
 | .bl b::ts=>(uu ts).map (b::·)
 | _::_=>none
theorem YE:∀ Ţ{bs:Ĩ},uu ts=↑bs->ts=bs.map T.bl
 | [],bs,h=>by cases h;rfl
 | .bl b::ts,bs,h=>by
  unfold uu at h;let#[cs,h1,rfl]:=ļ h;rw[AJ,<- YE h1]
 | .zm::ts,bs,h=>ù
 | é _::ts,bs,h=>ù
 | Ŏ _::ts,bs,h=>ù
 | ė _::ts,bs,h=>ù
 | ä _::ts,bs,h=>ù
def KI (bs:Ĩ):uu (bs.map T.bl)=↑bs:=by
 induction bs with
 | nil=>rfl
 | cons b bs ih=>rw[AJ];unfold uu;rw[ih];rfl
@[simp] def wU (g:Ĩ->Bool):Ak
 | [ä ts]=>(uu ts).map λ bs=>.bl (g bs)
 | _=>none
def tK (g:Ĩ->Bool):xE:=λ ds S Q=>match ds with
 | [ė _]=>False
 | [d]=>Ĺ
 | _=>False
def Li {g:Ĩ->Bool}:vn zE (wU g) (tK g):=λ S Z ys z ds Q hz hv e hq=>by
 unfold wU at e;split at e
 .ext À1;let#[bs,e1,rfl]:=ļ e;cases YE e1;let#[es,h2,h3]:=h1.seq rfl;cases h3.YF;have key:Ĺ:=#[bs,h2,hq _ Ê Ă];obtain⟨_,q | ⟨a,q,_⟩,_⟩:=h1.lst
  .subst q;show key
  .subst q;show key
 .cases e
structure FR (S0:SS) (Z0:ß) (S:SS) (Z:ß) (Y:yt) Ŀ:Prop where
 er:ER Â
 len:Ń
 sx:Sx S0 S
 z0:∀ a,Z0 a->S0 a≠none
 zz:∀ a,Z0 a->Z a
 zn:∀ a,Z a->Z0 a\/S0 a=none
 fr:∀ Ö ts p,Ű->Ŷ->S0 p=none/\adr ts p
 dj:∀ (i j:Nat) ts us p,i≠j->Ű->J[j]?=↑↑(.own us)->Ŷ->Y[j]?=↑↑ ę->False
def yK í{l:ú}{i j:Nat}{a b:α}(h:(l.set i a)[j]?=↑b):(i=j/\i<l.length/\b=a)\/(i≠j/\l[j]?=↑b):=by
 rw[Dh] at h;by_cases e:i=j
 .subst e;rw[ê rfl] at h;by_cases hl:i<l.length
  .rw[ê hl] at h;cases h;show ŉ #[rfl,hl,rfl]
  .rw[ÿ hl] at h;cases h
 .rw[ÿ e] at h;show ĥ #[e,h]
def xU í{l:ú}{i j:Nat}{a:α}(h:i≠j):(l.set i a)[j]?=l[j]?:=by rw[Dh,ÿ h]
def ou í{l:ú}{i:Nat}{a:α}(h:i<l.length):(l.set i a)[i]?=↑a:=by rw[Dh,ê rfl,ê h]
section
variable {S0 S S':SS}{Z0 Z:ß}{ŋ}{Å3}
theorem FR.grow (h:Ø) (s:ĳ):FR Ġ S' Z Y J:=#[h.er.grow s,h.len,h.sx.trans s,h.z0,h.zz,h.zn,h.fr,h.dj]
theorem FR.qo (h:Ø) Ö (r:Sn ï y d):FR Ġ S Z (Y.set i ↑d) Ċ:=by
 exact Ù
 .ext Á
  .cases e;show#[d,ø,r]
  .rw[xU n];show h.er.im j t e
 .ext Á
  .cases e
  .rw[xU n];show ſ j ts e
 .ext Á
  .cases e
  .rw[xU n] at e';show h.fr j ts p e e'
 .ext Ü
  .cases e
  ext ü
  .cases e
  rw[xU n1] at e3;rw[xU n2] at e4;show h.dj j k ts us p ŧ
theorem FR.Ua {ts:C}{ds:O}Å2 (s:ĳ) Ö (hp:S p=none) (hd:S' p=↑ds) (r:tV (yc S' Á3) ts ds) (ha:adr ts p:=by show À0):
  FR Ġ S' (Á3) (Y.set i ↑ ę) (J.set i ↑(.own ts)):=by
 have np:∀ (j:Nat) us q,J[j]?=↑↑(.own us)->Y[j]?=↑↑(.ref q)->q≠p:=λ j us q e e' z=>by
  subst z;let#[p',Iz,h1,h2,_]:=ſ j us e;rw[e'] at h1;cases h1;rw[hp] at h2;cases h2
 exact#[#[λ a z=>?_,λ j t e=>?_,λ j us e=>?_],Ū,h.sx.trans s,h.z0,λ a z=>ŉ (h.zz a z),λ a z=>z.elim (h.zn a) (λ q=>ĥ (by subst q;show h.sx.none hp)),λ j us q e e'=>?_,Á8]
 .rcases z with z | rfl
  .show λ q=>h.er.zd a z (s.none q)
  .rw[hd];nofun
 .ext Á
  .cases e
  .rw[xU n];let#[d,h1,h2]:=h.er.im j t e;show Á7
 .ext Á
  .cases e;show#[p,ds,ø,hd,r,ĥ rfl]
  .rw[xU n];let#[q,es,h1,h2,h3,h4]:=ſ j us e;show#[q,es,h1,s č h2,tV.sx (ot s hp) h3,ŉ h4]
 .ext Á
  .rw[ø] at e';cases e';cases e;show#[h.sx.none hp,ha]
  .rw[xU n] at e';show h.fr j us q e e'
 .ext Ü
  .rcases yK e2 with ⟨rfl,_,_⟩ | ⟨n2,e2⟩
   .show n rfl
   .rw[ø] at e3;cases e3;rw[xU n2] at e4;show np k vs p e2 e4 rfl
  .ext ą
   .rw[ø] at e4;cases e4;rw[xU n1] at e3;show np j us p e1 e3 rfl
   .rw[xU n1] at e3;rw[xU n2] at e4;show h.dj j k us vs q ŧ
def FR.forget (h:Ø) Ö:FR Ġ S Z Y (J.set i none):=by
 exact Ù
 .ext Á
  .cases e
  .show h.er.im j t e
 .ext Á
  .cases e
  .show ſ j ts e
 .ext Á
  .cases e
  .show h.fr j ts p e e'
 .ext Ü
  .cases e
  ext ü
  .cases e
  show h.dj j k ts us p ŧ
@[simp] def yX (is:Ĵ) Ŀ:Ev:=is.foldl (fun J i=>J.set i none) J
theorem FR.yX:∀ (is:Ĵ) {J:Ev},Ø->FR Ġ S Z Y Œ
 | [],_,h=>h
 | i::is,_,h=>FR.yX is (h.forget i)
def FR.freeze Ţ Å2 Ö (e:J[i]?=↑↑(.own ď)) (ed:Ŷ):
  FR Ġ S (λ a=>Z a/\a≠p) Y (J.set i ↑(.im ď))/\Á9:=by
 let#[p',o,h1,h2,h3,h4]:=ſ i _ e;rw[ed] at h1;cases h1;obtain⟨ds,rfl⟩:∃ ds,o=ä ds:=by
  cases o with
  | lst ds=>show#[ds,rfl]
  | _=>show h3.elim
 replace h3:Ĭ:=h3;have hS:Á9:=by
  ext ŗ;show#[ds,ĥ #[p,rfl,by rw[uh (λ z=>z.2 rfl)];show h2],À6 Ä5 ts h3]
 exact#[?_,hS];exact#[#[λ a z=>h.er.zd a z.1,λ j t e'=>?_,λ j us e'=>?_],Ū,h.sx,h.z0,λ a z=>#[h.zz a z,λ q=>?_],λ a z=>h.zn a z.1,λ j us q e' ed'=>?_,Á8]
 .ext Ï
  .cases e';show#[_,ed,hS]
  .let#[d,g1,g2]:=h.er.im j t e';show#[d,g1,Sn.sx Ä5 t g2]
 .ext Ï
  .cases e'
  .let#[q,es,g1,g2,g3,g4]:=ſ j us e';show#[q,es,g1,g2,tV.sx Ä5 g3,g4,λ z=>by subst z;show h.dj i j _ us q n e e' ed g1]
 .subst q;show h.z0 a z (h.fr i _ a e ed).1
 .ext Ï
  .cases e'
  .show h.fr j us q e' ed'
 .ext Ü
  .cases e
  ext ü
  .cases e
  show h.dj j k us vs q ŧ
def FR.mut {ts us:C}{es:O}Å2 Ö (e:Ű) (ed:Ŷ) (r:tV ï us es) (ha:adr ts p->adr us p:=by show λ _=>À0):
  FR Ġ (ups S p es) Z Y (J.set i ↑(.own us)):=by
 ext ġ;have hh:yc (ups S p es) Z=yc S Z:=ZI h4;let#[hpn,BF]:=Ħ;exact#[#[λ a z=>?_,λ j t e'=>?_,λ j vs e'=>?_],Ū,Ä6,h.z0,h.zz,h.zn,λ j vs q e' ed'=>?_,λ j k vs ws q n e1 e2 e3 e4=>?_]
 .by_cases hp:a=p
  .subst hp;rw[rj];nofun
  .rw[uZ hp];show h.er.zd a z
 .rw[hh];ext Ï
  .cases e'
  .show h.er.im j t e'
 .rw[hh];ext Ï
  .cases e';show#[p,es,ed,rj,r,h4]
  .let#[q,G1,g1,g2,g3,g4]:=ſ j vs e';exact#[q,G1,g1,?_,g3,g4];rw[uZ (λ z=>by subst z;show h.dj i j ts vs q n e e' ed g1)];show g2
 .rw[uZ (λ z=>by subst z;rw[hpn] at q;cases q)];show h.sx b o q
 .rcases yK e' with ⟨rfl,hl,_⟩ | ⟨n,e'⟩
  .rw[ed] at ed';cases ed';rename_i e';cases e';show#[hpn,ha BF]
  .show h.fr j vs q e' ed'
 .rcases yK e1 with ⟨rfl,hl,_⟩ | ⟨n1,e1⟩
  .ext ą
   .show n rfl
   .show h.dj _ k ts ws q n e e2 e3 e4
  .ext ą
   .show h.dj j _ vs ts q n e1 e e3 e4
   .show h.dj j k vs ws q ŧ
def i4 (S0 S:SS) (Z:ß):SS:=open Classical in λ a=>if S0 a=none/\Z a then none else S a
def ki {a:Addr}(h:¬ (S0 a=none/\Z a)):i4 S0 S Z a=S a:=ÿ h
def i3 {a:Addr}(h:S0 a=none/\Z a):i4 S0 S Z a=none:=ê h
def FR.rebase (h:Ø):∃ S1,Sx S0 S1/\FR S1 Z0 Â/\Sx ï S1:=by
 exact#[i4 S0 S Z,Ä6,#[h.er,h.len,Ä6,λ a z=>?_,h.zz,λ a z=>?_,λ i ts p e ed=>?_,h.dj],Ä6]
 .rw[ki (λ z=>by rw[z.1] at q;cases q)];show h.sx č q
 .by_cases w:S0 b=none/\Z b
  .rw[i3 w] at q;cases q
  .rw[ki w] at q;show q
 .rw[ki (λ q=>h.z0 a z q.1)];show h.er.zd a (h.zz a z)
 .rcases h.zn a z with w | w
  .show ŉ w
  .show ĥ (i3 #[w,z])
 .ext ġ;show#[i3 #[(Ħ).1,h4],(Ħ).2]
 .let#[q1,q2]:=uL q;rw[ki (λ z=>q1 z.2)];show q2
def FR.back {S1:SS}(h:FR S1 Z0 Â) (s:Sx S0 S1) (z0:∀ a,Z0 a->S0 a≠none):Ø:=#[h.er,h.len,s.trans h.sx,z0,h.zz,λ a z=>(h.zn a z).imp id s.none,λ i ts p e ed=>#[s.none (Ħ).1,(Ħ).2],h.dj]
def FR.Ue {S1:SS}{Z1:ß}(h:Ø) (b:Sx (yc S1 Z1) S0) (zz:∀ a,Z0 a->Z1 a):Sx (yc S1 Z1) ï:=λ a o q=>by
 have q0:=b č q;let#[q1,q2]:=uL q;rw[uh]
 .show h.sx č q0
 .intro z;rcases h.zn a z with w | w
  .show q1 (zz a w)
  .rw[w] at q0;cases q0
end
inductive Out where
 | nx Ŀ | rt (t:T) | bk Ŀ | ct Ŀ
abbrev Sm:=Ev->À Out
def Jf (R:Rk) (S0:SS) (Z0:ß) (o:Out) (E:sj):Prop:=match o with
 | .nx J=>∀ S Z Y,Ø->E.nx Y S
 | .bk J=>∀ S Z Y,Ø->E.bk Y S
 | .ct J=>∀ S Z Y,Ø->E.ct Y S
 | .rt y=>∀ d S,Sx S0 S->R S0 S Z0 y d->E.rt d S
def yy (R:Rk) (g:Sm) (t:yw):Prop:=∀ S0 Z0 S Z Y J o E,Ø->g J=↑o->Jf R Ġ o E->t E Y S
class Lo (R:Rk):Prop extends Cl R where
 lo:∀ {S0 S S':SS}{Z0 Z:ß}Å3,Sx S0 S->(∀ a,Z0 a->Z a)->Ŝ->R S0 S' Z0 y d
instance:Lo xr:=#[λ _ z h=>Sn.sx (uM z) _ h]
instance:Lo zE:=#[λ s z h=>#[Sn.sx (uM z) _ h.1,λ ts e=>by
 let#[p,ds,h1,h2,h3,h4]:=h.2 ts e;show#[p,ds,h1,s.none h2,h3,À6 (uM λ a q=>q.imp (z a) id) ts h4]]]
@[simp] def zq (g h:Sm):Sm:=fun J=>ŝ λ o=>match o with
 | .nx J'=>h J'
 | o=>↑o
@[simp] def zI:Sm:=fun J=>↑(.nx J)
@[simp] def zD Ö ĝ:Sm:=fun J=>(f J).map λ y=>.nx Ċ
@[simp] def vA Ö ĝ:Sm:=fun J=>Þ λ y=>match y with
 | ä ts=>↑(.nx (J.set i ↑(.own ď)))
 | y=>↑(.nx Ċ)
@[simp] def retS ĝ:Sm:=fun J=>(f J).map .rt
@[simp] def pK Ö:Sm:=fun J=>match J[i]? with
 | ł=>↑(.rt ď)
 | _=>none
@[simp] def zC (c:Ó) (g h:Sm):Sm:=fun J=>(c J).bind λ b=>if b=true then g J else h J
@[simp] def gy Ö Ŀ:Ev:=match J[i]? with
 | ł=>J.set i ↑(.im ď)
 | _=>J
@[simp] def gx Ö (g:Sm):Sm:=fun J=>g (gy i J)
section
variable {ţ}{g h:Sm}{t u:yw}{Ď}
def QU Å4:yy R (zq g h) (qK t u):=λ S0 Z0 S Z Y J o E F e P=>by
 let#[o1,e1,e2]:=â;exact hg Ġ Â o1 { E with nx:=u E } F e1 ?_;cases o1 with
 | nx J1=>show λ S1 Z1 Y1 F1=>hh Ġ S1 Z1 Y1 J1 o E F1 e2 P
 | rt y=>ext ō;show P
 | bk y=>ext ō;show P
 | ct y=>ext ō;show P
def QT:yy R zI gW:=λ S0 Z0 S Z Y J o E F e P=>by cases e;show P S Z Y F
def Pb Ö Ũ:yy R (zD i f) (v9 te Ä7):=λ S0 Z0 S Z Y J o E F e P=>by
 let#[y,e1,rfl]:=ļ e;show hf Â6 e1 λ d S1 s1 r1=>P S1 Z _ ((œ).qo i r1)
def Pa Ö (hf:xG f te):yy R (vA i f) (v9 te Ä7):=λ S0 Z0 S Z Y J o E F e P=>by
 ext Ĥ;exact hf Â6 ã;cases y with
 | lst ts=>
  ext ō;let#[p,ds,rfl,h1,h2,h3]:=r1.2 ts rfl;show P S1 č (F.Ua (ts:=ä ts) (ds:=ä ds) s1 i h1 h2 h3)
 | _=>ext ō;show P S1 Z _ ((œ).qo i r1.1)
def aH [Lo R] (hf:xw R f te):yy R (retS f) (gT te):=λ S0 Z0 S Z Y J o E F e P=>by
 let#[y,e1,rfl]:=ļ e;show hf Â6 e1 λ d S1 s1 r1=>P d S1 (F.sx.trans s1) (Lo.lo F.sx F.zz r1)
def iQ Ö:yy zE (pK i) (gT (xb i)):=λ S0 Z0 S Z Y J o E F e P=>by
 unfold pK at e;split at e
 .rename_i ts h;cases e;ext Ų;obtain⟨ds,rfl⟩:∃ ds,ob=ä ds:=by
   cases ob with
   | lst ds=>show#[ds,rfl]
   | _=>show h3.elim
  replace h3:Ĭ:=h3;have hn:=(F.fr i _ p h h1).1;have nz:¬ Z0 p:=λ z=>F.z0 p z hn;change xb i Y S E.rt;unfold xb;rw[h1];exact P _ S F.sx #[?_,λ us e=>?_]
  .ext ŗ;show#[ds,ĥ #[p,rfl,by rw[uh nz];show h2],À6 (uM F.zz) ts h3]
  .cases e;show#[p,ds,rfl,hn,h2,À6 (uM λ a q=>q.elim (F.zz a) λ q=>q▸h4) ts h3]
 .cases e
def yy.fv (h:yy zE g t):yy xr g t:=λ S0 Z0 S Z Y J o E F e P=>by
 exact h Ġ Â o E F e ?_;cases o with
 | rt y=>show λ d S s r=>P d S s r.1
 | _=>show P
def QY {c:Ó}{tc:yM}(hc:vD c tc) Å4:yy R (zC c g h) (gX tc t u):=λ S0 Z0 S Z Y J o E F e P=>by
 let#[b,e1,e2]:=â;exact hc Â b _ F.er e1 λ S1 s1=>?_;ext Ō
 .ext Å1;show hg Ġ S1 Z Y J o E (œ) e2 P
 .ext Å6;show hh Ġ S1 Z Y J o E (œ) e2 P
def FR.fz {S0 S:SS}{Z0 Z:ß}ŋ(F:Ø) Ö:∃ Z',FR Ġ S Z' Y (gy i J):=by
 unfold gy;split
 .rename_i ts h;let#[p,ds,h1,_]:=F.er.ow i _ h;show#[_,(F.freeze i h h1).1]
 .show#[Z,F]
def QZ Ö (hg:yy R g t):yy R (gx i g) t:=λ S0 Z0 S Z Y J o E F e P=>by
 let#[Z',F']:=F.fz i;show hg Ġ S Z' Y _ o E F' e P
def ll Ī (t:xn):Prop:=∀ S0 Z0 S Z Y J J' y d Q,Ø->Sn ï y d->g y J=↑J'->Â2->t d Y S Q
def ju (g:ŷ) (t:x_):Prop:=∀ S0 Z0 S Z Y J J' ys ds Q,Ø->zp ï ys ds->g ys J=↑J'->Â2->t ds Y S Q
@[simp] def zx Ö:T->Ì:=λ y J=>↑ Ċ
@[simp] def xX:ŷ
 | [],J=>↑J
 | _::_,_=>none
@[simp] def zZ Ī (h:ŷ):ŷ
 | y::ys,J=>(g y J).bind fun J'=>h ys J'
 | [],_=>none
@[simp] def xK (n:Nat) (g:ŷ):T->Ì
 | ė ys,J=>if Ŕ=n then g ys J else none
 | _,_=>none
def Pn Ö:ll (zx i) Ä7:=λ S0 Z0 S Z Y J J' y d Q F r e hq=>by cases e;show hq _ (F.qo i r)
def Pk:ju xX gk:=λ S0 Z0 S Z Y J J' ys ds Q F r e hq=>by
 cases ys with
 | nil=>simp![zp] at r;subst r;cases e;show#[rfl,hq _ F]
 | cons _ _=>cases e
def Pl ř{h:ŷ}{t:xn}{u:x_}(hg:ll g t) (hh:ju h u):ju (zZ g h) (gm t u):=λ S0 Z0 S Z Y J J' ys ds Q F r e hq=>by
 cases ys with
 | nil=>cases e
 | cons y ys=>
  ext Ğ;show hg Ġ Â J1 y c _ F r1 e1 fun Y1 F1=>hh Ġ S Z Y1 J1 J' ys cs Q F1 r2 e2 hq
def Pm {n:Nat}{g:ŷ}{t:x_}(hg:ju g t):ll (xK n g) (qH n t):=λ S0 Z0 S Z Y J J' y d Q F r e hq=>by
 cases y with
 | tup ys=>
  ext ĵ
  .rename_i hl;show#[by rw[r.len];show hl,hg Ġ Â J' ys ds Q F r e hq]
  .cases e
 | _=>cases e
@[simp] def p7 ĝ Ī:Sm:=fun J=>Þ λ y=>(g y J).map .nx
def QS ř{tg:xn}Ũ (hg:ll g tg):yy R (p7 f g) (v9 te tg):=λ S0 Z0 S Z Y J o E F e P=>by
 ext Ĥ;let#[J',e3,rfl]:=ļ e2;show hf Â6 e1 λ d S1 s1 r1=>hg Ġ S1 Z Y J J' y d _ (œ) r1 e3 fun Y' F'=>P S1 Z Y' F'
def qV (free:Bool) (f:Ä) (ti:wz):Prop:=∀ S Z Y J ts Q,ER Â->f J=↑ts->(∀ I S',ĳ->zp (yc S' Z) ts I.items->(∀ S'',Sx (if free=true then yc S' Z else S') S''->I.keep S'')->Q I S')->ti Y S Q
@[simp] def yW ĝ:Ä:=fun J=>Þ wo
def Pf Ď(hf:yC f te):qV false (yW f) (gc te):=λ S Z Y J ts Q hE e hq=>by
 ext Ĥ;exact hf Â y _ hE ã;cases y with
 | tup us=>
  ext ō;let#[ds,rfl,h2]:=Vw.tup r1;show ā
 | lst us=>
  ext ō;ext ñ
  .show ā
  .ext ľ;rw[h1];show Ÿ
 | _=>ext ō
def Pg Ď Ũ:qV true (yW f) (gc te):=λ S Z Y J ts Q hE e hq=>by
 ext Ĥ;exact hf Â y _ hE ã;cases y with
 | tup us=>
  ext ō;let#[ds,rfl,h2]:=Vw.tup (ŉ r1);show ā
 | lst us=>
  ext ō;have r2:=r1;unfold xr at r2;simp![Sn] at r2;obtain⟨ds,⟨rfl,_⟩ | ⟨a,rfl,h1⟩,h2⟩:=r2
  .show ā
  .ext ľ;rw[(uL h1).2];show Ÿ
 | _=>ext ō
def rangeT (lo:Int) (n:Nat):Ò:=(æ n).map λ(k:Nat)=>T.int (lo+(k:Int))
def ik {S:SS}(lo:Int) (n:Nat):zp S (rangeT lo n) (vw lo n):=by
 unfold rangeT vw
 induction æ n with
 | nil=>show .nil
 | cons k l ih=>show .cons wj ih
def inR (j:Int):Bool:=decide (-100000000<=j)&&decide (j<=100000000)
def kL {j:Int}:inR j=true↔-100000000<=j/\j<=100000000:=by simp[inR]
def kM {j:Int}(h:inR j=true):-(2 ^ 62)<=j/\j<2 ^ 62:=by have:=kL.mp h;lia
def vv:Ä8
 | [é j]=>if inR j=true then ↑(rangeT 0 j.toNat) else none
 | _=>none
def nQ:Ä8
 | [é i,é j]=>if inR i=true/\inR j=true then ↑(rangeT i (j-i).toNat) else none
 | _=>none
@[simp] def xY (F:Ä8) (g:Ä):Ä:=fun J=>ŝ F
def Pj Á0:qV b (xY vv g) (gg tA):=λ S Z Y J ts Q hE e hq=>by
 ext Â7;unfold vv at e2;ext Ō
 .ext Ō
  .rename_i hc;ext ō;let#[d,rfl,h1]:=vV r1;cases h1.int;show#[kM hc,hq ż (ik č) λ _ _=>À0]
  .ext ō
 .ext ō
def Ph Á0:qV b (xY nQ g) (gd tA):=λ S Z Y J ts Q hE e hq=>by
 ext Â7;unfold nQ at e2;ext Ō
 .ext Ō
  .rename_i hc;ext ō;let#[d,d',rfl,h1,h2]:=lI r1;cases h1.int;cases h2.int;show#[#[(kM hc.1).1,(kM hc.1).2,kM hc.2],hq ż (ik č) λ _ _=>À0]
  .ext ō
 .ext ō
def xS (is:Ĵ) Ī (b:Sm):Ò->Ev->À Out
 | [],J=>↑(.nx Œ)
 | y::ys,J=>(g y Œ).bind fun J1=>(b J1).bind λ o=>match o with
  | .nx J2=>ū
  | .ct J2=>ū
  | .bk J2=>↑(.nx (yX is J2))
  | .rt t=>↑(.rt t)
@[simp] def vN (is:Ĵ) (f:Ä) Ī (b:Sm):Sm:=fun J=>Þ λ ts=>xS is g b ts J
def Q_ {is:Ĵ}{fi:Ä}{ti:wz}ř{tg:xn}{b:Sm}{tb:yw} [Lo R] (hi:qV true fi ti) (hg:ll g tg) (hb:yy R b tb):yy R (vN is fi g b) (mU ti tg tb):=λ S0 Z0 S Z Y J o E F e P=>by
 let#[ts,e1,e2]:=â;exact hi Â ts _ F.er e1 λ I S1 s1 r1 hk=>?_;rw[ê rfl] at hk;let#[SB,b1,FB,b2]:=(œ).rebase;have lo:∀ S' d y,R SB S' Z0 y d->R S0 S' Z0 y d:=λ S' d y r=>Lo.lo b1 (λ _ z=>z) r;have zz:=F.zz;exact#[λ i Y' S'=>∃ Z' J',FR SB Z0 S' Z' Y' J'/\xS is g b (ts.drop i) J'=↑o,#[Z,J,FB,e2],λ i Y' S' #[Z',J',F',_]=>hk S' (b2.trans F'.sx),λ i d Y' S' hd #[Z',J',F',e']=>?_,fun Y' S' #[Z',J',F',e']=>?_]
 .let#[y,hy,r2]:=r1.gw hd;have Ax:=(AY.mp hy).1;have Dt:ts.drop i=y::ts.drop (i+1):=by
   rw[Ã7,(AY.mp hy).2]
  rw[Dt] at e';unfold xS at e';let#[J1,g1,e']:=Ap.mp e';let#[o1,g2,e']:=Ap.mp e';exact hg SB Z0 S' Z' Y' _ J1 y d _ (F'.yX is) (Sn.sx (F'.Ue b2 zz) y r2) g1 fun Y2 F2=>?_
  exact hb SB Z0 S' Z' Y2 J1 o1 _ F2 g2 ?_;cases o1 with
  | nx J2=>show À9
  | ct J2=>show À9
  | bk J2=>cases e';show λ S3 Z3 Y3 F3=>P S3 Z3 Y3 ((F3.yX is).back b1 F.z0)
  | rt y=>cases e';show λ d S3 s3 r3=>P d S3 (b1.trans s3) (lo č _ r3)
 .rw[show ë=ŏ from r1.len,List.drop_length] at e';unfold xS at e';cases e';show P S' Z' Y' ((F'.yX is).back b1 F.z0)
end
@[simp] def vB Ö ĝ:Sm:=fun J=>match J[i]? with
 | ł=>Þ λ y=>if ŏ<ð then ↑(.nx (J.set i ↑(.own (ä (ts++[y]))))) else none
 | _=>none
section
variable {ţ}{Ď}
def Pc Ö Ũ:yy R (vB i f) (gY (uS (xb i) te)):=λ S0 Z0 S Z Y J o E F e P=>by
 unfold vB at e;split at e
 .rename_i ts h;ext Ĥ;ext Ō
  .rename_i hl;ext ō;ext Ų;obtain⟨ds,rfl⟩:∃ ds,ob=ä ds:=by
    cases ob with
    | lst ds=>show#[ds,rfl]
    | _=>show h3.elim
   replace h3:Ĭ:=h3;change uS (xb i) te Y S _;unfold uS xb;rw[h1];exact#[#[ds,h2],hf Â6 ã];ext ľ;rw[s1 č h2];have F1:=œ;exact#[by rw[h3.len];show hl,P _ Z Y (F1.mut (us:=ä (ts++[y])) (es:=ä (ds++[d])) i h h1 ((À6 (ui s1) ts h3).append (.cons r1 .nil)))]
  .ext ō
 .cases e
end
def uQ Ą (ti:wz) (g:xn) (tc:yM) (te:zu):zu:=fun Y S Q=>ti Y S λ I S1=>ë<=ð/\(∀ S,Sx S1 S->I.keep S)/\∀ p,S1 p=none->∃ W:Nat->SS->List D->Prop,W 0 S1 []/\
 (∀ i S S' acc,(∀ b o,b≠p->S b=↑o->S' b=↑o)->W i S acc->W i S' acc)/\
 (∀ i d S acc,I.items[i]?=↑d->Sx S1 S->S p=↑(ä acc)->W i S acc->g d ń S fun Y2 S2=>qN ń Y2/\tc Y2 S2 λ b S3=>if b=true then te Y2 S3 λ y S4=>Sx S S4/\W (i+1) S4 (acc++[y]) else Sx S S3/\W (i+1) S3 acc)/\
 ∀ S2 acc,Sx S1 S2->S2 p=↑(ä acc)->W ë S2 acc->Q ę S2
@[simp] def nZ Ą Ŀ:Ev:=pick.map λ o=>o.bind λ i=>(J[i]?).join
def qL Ã5:Ä8
 | []=>↑[]
 | y::ys=>(h y).bind λ o=>(qL h ys).map λ zs=>match o with
  | some z=>z::zs
  | none=>zs
@[simp] def ve Ą Ī (c:Ó) ĝ Ŀ (y:T):À (À T):=
 (g y (nZ pick J)).bind fun J2=>(c J2).bind λ b=>if b=true then (f J2).map some else ↑none
def yI Ą (it:Ä) Ī (c:Ó) ĝ:Ae:=fun J=>(it J).bind λ ts=>if ŏ<=ð then (qL (ve pick g c f J) ts).map ä else none
@[simp] def xk:Ó:=λ _=>↑true
def PQ:vD xk Yh:=λ S Z Y J y Q hE e hq=>by cases e;show hq Ê
def jw Ą Ī (t:xn):Prop:=∀ B S Z Y J J' y d Q,Ş->qN B Y->Ń->ER Â->Sn ï y d->Ā
def jv Ą (g:ŷ) (t:x_):Prop:=∀ B S Z Y J J' y d Q,Ş->qN B Y->Ń->ER Â->zp ï y d->Ā
theorem ER.qo Ŋ ŋ Å3(h:ER Â) (hl:Ń) Ö (r:Sn ï y d):ER S Z (Y.set i ↑d) Ċ:=by
 exact#[h.zd,λ j t e=>?_,λ j ts e=>?_]
 .ext ų
  .cases e;show#[d,ou (by rw[hl];show Il),r]
  .rw[xU n];show h.im j t e
 .ext ų
  .cases e
  .rw[xU n];show h.ow j ts e
variable {pick:Á4}
theorem Pr Ö (hi:pick[i]?=↑none:=by rfl):jw pick (zx i) Ä7:=λ B S Z Y J J' y d Q hB hs hl hE r e hq=>by
 cases e;exact hq _ (hE.qo hl i r) #[by rw[BZ];show hs.1,λ j c q=>?_] (by simp[hl]);by_cases hj:i=j
 .subst hj;rw[hB i hi] at q;cases q
 .rw[xU hj];show hs.2 j c q
def Po:jv pick xX gk:=λ B S Z Y J J' y d Q hB hs hl hE r e hq=>by
 cases y with
 | nil=>simp![zp] at r;subst r;cases e;show#[rfl,hq _ hE hs hl]
 | cons _ _=>cases e
def Pp ř{h:ŷ}{t:xn}{u:x_}(hg:jw pick g t) (hh:jv pick h u):jv pick (zZ g h) (gm t u):=λ B S Z Y J J' y d Q hB hs hl hE r e hq=>by
 cases y with
 | nil=>cases e
 | cons y ys=>
  ext Ğ;show hg B Â J1 y c _ hB hs hl hE r1 e1 fun Y1 E1 s1 l1=>hh B S Z Y1 J1 J' ys cs Q hB s1 l1 E1 r2 e2 hq
def Pq {n:Nat}{g:ŷ}{t:x_}(hg:jv pick g t):jw pick (xK n g) (qH n t):=λ B S Z Y J J' y d Q hB hs hl hE r e hq=>by
 cases y with
 | tup ys=>
  ext ĵ
  .rename_i hn;show#[by rw[r.len];show hn,hg B Â J' ys ds Q hB hs hl hE r e hq]
  .cases e
 | _=>cases e
def ae {J:Ev}{i:Nat}{w:W}(h:(nZ pick J)[i]?=↑↑w):∃ j:Nat,pick[i]?=↑↑j/\J[j]?=↑↑w:=by
 unfold nZ at h;rw[AQ] at h;cases q:pick[i]? with
 | none=>rw[q] at h;cases h
 | some o=>
  rw[q] at h;cases o with
  | none=>simp at h
  | some j=>
   simp![Option.map_some,B4,Option.some.injEq] at h;exact#[j,rfl,?_];cases q2:J[j]? with
   | none=>rw[q2] at h;cases h
   | some o2=>rw[q2] at h;simp![Option.join_some] at h;rw[h]
def af {Y:yt}{i j:Nat}{d:D}(h:pick[i]?=↑↑j) (h':Y[j]?=↑↑d):ń[i]?=↑↑d:=by
 unfold uc;rw[AQ,h];simp[h']
def ER.U_ Ŋ ŋ(h:ER Â):ER S Z ń (nZ pick J):=by
 exact#[h.zd,λ i t e=>?_,λ i ts e=>?_]
 .let#[j,h1,h2]:=ae e;let#[d,h3,h4]:=h.im j t h2;show#[d,af h1 h3,h4]
 .let#[j,h1,h2]:=ae e;let#[p,ds,h3,h4]:=h.ow j ts h2;show#[p,ds,af h1 h3,h4]
def ER.hide {S S':SS}{Z:ß}ŋ{p:Addr}(h:ER Â) (s:ĳ) (hp:S p=none) (IT:S' p≠none):ER S' (Á3) Y J:=by
 exact#[λ a z q=>?_,λ i t e=>?_,λ i ts e=>?_]
 .rcases z with z | rfl
  .show h.zd a z (s.none q)
  .show IT q
 .let#[d,h1,h2]:=h.im i t e;show Á7
 .let#[q,ds,h1,h2,h3,h4]:=h.ow i ts e;show#[q,ds,h1,s č h2,tV.sx (ot s hp) h3,ŉ h4]
def Ol {it:Ä}{ti:wz}ř{tg:xn}{c:Ó}{tc:yM}Ď{b:Bool}(hi:qV b it ti) (hg:jw pick g tg) (hc:vD c tc) Ũ:
  xG (yI pick it g c f) (uQ pick ti tg tc te):=λ S Z Y J y Q hE e hq=>by
 let#[ts,e1,e2]:=â;ext Ō
 case isFalse=>ext ō
 rename_i hlen;let#[zs,e3,rfl]:=ļ e2;exact hi Â ts _ hE e1 λ I S1 s1 r1 hk=>#[by rw[r1.len];show hlen,λ S' s'=>hk S' ?_,λ p hp=>?_]
 .cases b
  .show s'
  .show (kR č).trans s'
 have E1:=Ļ;have nz:¬ Z p:=λ z=>E1.zd p z hp;exact#[λ i S' acc=>∃ us ws,zp (yc S' Á3) us acc/\qL (ve pick g c f J) (ts.drop i)=↑ws/\zs=us++ws,#[[],zs,.nil,e3,rfl],λ i S' S'' acc hh #[us,ws,h1,h2]=>#[us,ws,À6 (λ a o q=>?_) us h1,h2],λ i d S2 acc hd s2 A7 #[us,ws,h1,h2,h3]=>?_,λ S2 acc s2 A7 #[us,ws,h1,h2,h3]=>?_]
 .let#[q1,q2]:=uL q;rw[uh q1];show hh a o (λ z=>q1 (ĥ z)) q2
 .let#[x,hx,rx]:=r1.gw hd;have Ax:=(AY.mp hx).1;have Dt:ts.drop i=x::ts.drop (i+1):=by rw[Ã7,(AY.mp hx).2]
  rw[Dt] at h2;unfold qL at h2;let#[o,o1,h2]:=Ap.mp h2;let#[ws',o2,rfl]:=ļ h2;have E2:=(E1.hide s2 hp (by rw[A7];nofun)).U_ (pick:=pick);unfold ve at o1;let#[J2,g1,o1]:=Ap.mp o1;let#[bb,g2,o1]:=Ap.mp o1;exact hg ń S2 č _ J2 x d _ (λ j hj=>?_) #[rfl,λ _ _ q=>q] (by unfold uc nZ;simp) E2 (Sn.sx (ot s2 hp) x rx) g1 fun Y2 E3 l3 _=>#[l3,?_]
  .unfold uc;rw[AQ,hj];rfl
  exact hc S2 _ Y2 J2 bb _ E3 g2 λ S3 s3=>?_;split at o1
  .ext Å1;let#[z,g3,rfl]:=ļ o1;exact hf S3 _ Y2 J2 z _ (E3.grow s3) g3 λ dz S4 s4 r4=>#[s3.trans s4,us++[z],ws',?_,o2,by rw[h3];simp];show (À6 (ui (s3.trans s4)) us h1).append (.cons r4 .nil)
  .ext Å6;cases o1;show#[s3,us,ws',À6 (ui s3) us h1,o2,h3]
 .rw[show ë=ŏ from r1.len,List.drop_length] at h2;cases h2;rw[CV] at h3;subst h3;exact hq _ S2 û #[?_,λ vs e=>?_]
  .ext ŗ;show#[acc,ĥ #[p,rfl,by rw[uh nz];show A7],À6 (uM λ a z=>ŉ z) zs h1]
  .cases e;show#[p,acc,rfl,s1.none hp,A7,h1]
class Sr (R:Rk):Prop extends Lo R where
 sn:∀ {S S':SS}{Z:ß}Å3,Ŝ->Sn (yc S' Z) y d
instance:Sr xr:=#[λ h=>h]
instance:Sr zE:=#[λ h=>h.1]
def zG (R:Rk) (F:Ak):wX:=λ ds S Q=>∃ Z ys y,(ĭ)/\zp ï ys ds/\F ys=↑y/\∀ d S',ĳ->Ŝ->Q d S'
def zG.mo ţ{F:Ak}:j0 (zG R F):=λ _ _ _ _ hq #[Z,ys,y,h1,h2,h3,h4]=>#[Z,ys,y,h1,h2,h3,λ d S' s r=>hq č (h4 d S' s r)]
def iR ţ [Lo R] {F:Ak}{g:Ä}{u:ym}(h:rX g u):xw R (zi F g) (mV (zG R F) u):=λ S Z Y J y Q hE e hq=>by
 ext ņ;exact h Â xs Ė;show#[Z,xs,y,(Ļ).zd,r1,e2,λ d S' s r=>hq d S' (s1.trans s) (Cl.cl s1 r)]
@[simp] def rm (N:ŕ) (ys:Ò):Ev:=ys.map (λ y=>↑(.im y))++List.replicate (N.length-Ŕ) none
@[simp] def av:À Out->À T
 | some (.rt y)=>↑y
 | some (.nx _)=>↑.zm
 | _=>none
@[simp] def zM (N:ŕ) (n:Nat) (g:Sm):Ak:=λ ys=>if Ŕ=n then av (g (rm N ys)) else none
theorem zG.len ţ{N:ŕ}{n:Nat}{g:Sm}Ĝ ŭ:ds.length=n:=by
 ext ŀ
 .rename_i h;rw[r.len];show h
 .cases e
theorem VF {N:ŕ}Ĝ{i:Nat}{d:D}(h:ds[i]?=↑d):(uG N ds)[i]?=↑↑d:=by
 have hi:=(AY.mp h).1;unfold uG;rw[CL (Â3),AQ,h];rfl
theorem lS {N:ŕ}{ys:Ò}{i:Nat}{w:W}(h:(rm N ys)[i]?=↑↑w):∃ y,ys[i]?=↑y/\w=.im y:=by
 unfold rm at h;have hi:i<Ŕ:=by
  rcases BO i Ŕ with q | q
  .show q
  .rw[CM (by exists q),EW] at h;split at h <;> cases h
 rw[CL (Â3),AQ] at h;cases q:ys[i]? with
 | none=>rw[q] at h;cases h
 | some y=>rw[q] at h;cases h;show#[y,rfl,rfl]
def YD ţ [Lo R] {N:ŕ}{n:Nat}{g:Sm}{t:yw}(h:yy R g t) Ĝ ŭ:t { nx:=λ _ S'=>Q .zm S',rt:=Q } (uG N ds) S:=by
 ext ŀ
 case isFalse=>cases e
 obtain⟨o,e1,e2⟩:∃ o,g (rm N ys)=↑o/\av ↑o=↑y:=by
  cases q:g (rm N ys) with
  | none=>rw[q] at e;cases e
  | some o=>show#[o,rfl,by rw[<- q];show e]
 exact h S Z S Z č o _ #[#[hz,λ i t e=>?_,λ i ts e=>?_],?_,.refl S,hz,λ _ z=>z,λ _ z=>ŉ z,λ i ts p e _=>?_,λ i j ts us p _ e _ _ _=>?_] e1 ?_
 .ext ć;let#[d,h3,h4]:=r.mB h1;show#[d,VF h3,h4]
 .ext ć
 .unfold uG rm;have:=r.len;simp[this]
 .ext ć
 .ext ć
 .cases o with
  | rt y'=>ext ō;show λ d S' s r=>hq d S' s r
  | nx J'=>
   ext ō;show λ S' Z' Y' F=>hq .zm S' F.sx (À7 È cU)
  | _=>ext ō
def WT (Aq:List (Key×T)) (k:Key):À T:=(Aq.find? λ kv=>decide (kv.1=k)).map (·.2)
@[simp] def zam Ö ĝ:Ae:=fun J=>Þ λ y=>match J[i]?,y with
 | some ↑(.own (.yP Aq)),é k=>WT Aq (ŉ k)
 | _,_=>none
@[simp] def aU ĝ:Ae:=fun J=>Þ λ x=>match x with
 | é i=>↑(é (-i))
 | _=>none
def Yt (ta:zu):zu:=fun Y S Q=>ta Y S λ x S1=>match x with
 | é i=>Q (é (-i)) S1
 | _=>False
def Od Ď(h:yC f te):xG (aU f) (Yt te):=λ S Z Y J y Q hE e hq=>by
 ext Ã;ext Ō
 .cases Vw.int r1;ext ō;show hq ż (À7 È wj)
 .ext ō
def M_:vn zE i_ Yb:=ZM
def MZ:vn zE pX Ya:=ZM
def wF:Ò->À (ç)
 | []=>↑[]
 | é i::ts=>(wF ts).map (i::·)
 | _::_=>none
def tu:Ò->À (List (ç))
 | []=>↑[]
 | ė r::ts=>(wF r).bind λ x=>(tu ts).map (x::·)
 | _::_=>none
def zh (r:ç):T:=ė (r.map T.int)
theorem om:∀ Ţ{is:ç},wF ts=↑is->ts=is.map T.int
 | [],is,h=>by cases h;rfl
 | é b::ts,is,h=>by
  unfold wF at h;let#[cs,h1,rfl]:=ļ h;rw[AJ,<- om h1]
 | .zm::ts,bs,h=>ù
 | .bl _::ts,bs,h=>ù
 | Ŏ _::ts,bs,h=>ù
 | ė _::ts,bs,h=>ù
 | ä _::ts,bs,h=>ù
theorem bw:∀ Ţ{rs:List (ç)},tu ts=↑rs->ts=rs.map zh
 | [],is,h=>by cases h;rfl
 | ė r::ts,is,h=>by
  unfold tu at h;let#[x,h1,h]:=Ap.mp h;let#[cs,h2,rfl]:=ļ h;rw[AJ,<- bw h2,om h1];rfl
 | .zm::ts,bs,h=>ù
 | .bl _::ts,bs,h=>ù
 | Ŏ _::ts,bs,h=>ù
 | é _::ts,bs,h=>ù
 | ä _::ts,bs,h=>ù
def m6 (is:ç):wF (is.map T.int)=↑is:=by
 induction is with
 | nil=>rfl
 | cons b bs ih=>rw[AJ];unfold wF;rw[ih];rfl
def Ul (rs:List (ç)):tu (rs.map zh)=↑rs:=by
 induction rs with
 | nil=>rfl
 | cons b bs ih=>
  change tu (ė (b.map T.int)::bs.map zh)=_;unfold tu;rw[m6,ih];rfl
theorem uH {S:SS}:∀ {is:ç}Ĝ,zp S (is.map T.int) ds↔ds=is.map D.int
 | [],ds=>by simp![BA,zp]
 | i::is,ds=>by
  rw[AJ];simp![zp,Sn];constructor
  .rintro⟨c,cs,rfl,rfl,h⟩;rw[uH.mp h];rfl
  .rintro rfl;show#[é i,_,rfl,rfl,uH.mpr rfl]
theorem lY {S:SS}:∀ {rs:List (ç)}Ĝ,zp S (rs.map zh) ds↔ds=rs.map vY
 | [],ds=>by simp![BA,zp]
 | r::rs,ds=>by
  rw[AJ];simp![zp,zh,Sn];constructor
  .rintro⟨c,cs,rfl,⟨es,rfl,h1⟩,h⟩;rw[lY.mp h,uH.mp h1];rfl
  .rintro rfl;show#[vY r,_,rfl,#[_,rfl,uH.mpr rfl],lY.mpr rfl]
@[simp] def p0:T->À String
 | .zm=>↑"NoneType"
 | .bl _=>↑"bool"
 | é _=>↑"int"
 | Ŏ _=>↑"str"
 | ė _=>↑"tuple"
 | ä _=>↑"list"
 | .xh=>↑"dict"
 | .err č _=>none
@[simp] def FN (ty:String) ĝ:Ae:=fun J=>Þ λ x=>(p0 x).map λ t=>.bl (xg t ty)
theorem Vw.err Ŋ{c f:Str}{t:T}{d:D}(h:Vw S Z (.err c f t) d):∃ x,d=.err c f x/\Sn ï t x:=by
 ext Ð
 ext ģ
 .cases h
def OT {ty:String}Ď(hf:yC f te):xG (FN ty f) (o8 ty te):=λ S Z Y J y Q hE e hq=>by
 let#[x,e1,e2]:=â;let#[n,e3,rfl]:=ļ e2;exact hf Â x _ hE ã;have key:rl d S1=↑n:=by
  rw[<- e3];cases x with
  | zm=>cases Vw.zm r1;rfl
  | bl _=>ext Ã0;rfl
  | int _=>cases Vw.int r1;rfl
  | str _=>cases Vw.str r1;rfl
  | tup _=>let#[ds,rfl,_]:=Vw.tup r1;rfl
  | lst _=>
   ext ñ
   .rfl
   .unfold rl;ext ľ;rw[h1];rfl
  | xh=>
   let#[a,Aq,#[rfl,_],h1]:=Vw.xh r1;unfold rl;ext ľ;rw[h1];rfl
  | err _ _ _=>cases e3
 rw[key];show hq ż Ă
@[simp] def isNone:T->Bool
 | .zm=>true
 | _=>false
def oj:D->Bool
 | .zm=>true
 | _=>false
def sF (p:Int×Int):T:=ė [é p.1,é p.2]
def xM (ns:ç):T:=ä (ns.map é)
@[simp] theorem zaa:ð=16777216:=rfl
theorem zA í Å5{k:Nat}{x:α}(h:xs[k]?=↑x):L2.ya xs (k:Int)=↑x:=by
 unfold L2.ya L2.wC;have hk:=(AY.mp h).1;rw[ê ⋯,ê ⋯];exists h
@[simp] theorem KR í Å5{x:α}:L2.ya (xs++[x]) (-1)=↑x:=by
 unfold L2.ya L2.wC;rw[ÿ ⋯,ê (Ã2)];have:(-1+((xs++[x]).length:Int)).toNat=ĸ:=Ã2
 rw[B4,this];simp
@[simp] theorem zaq í{x:α}Å5:L2.ya (x::xs) 0=↑x:=zA (k:=0) rfl
@[simp] theorem zap í{x y:α}Å5:L2.ya (x::y::xs) 1=↑y:=zA (k:=1) rfl
@[simp] theorem zao í{x y z:α}Å5:L2.ya (x::y::z::xs) 2=↑z:=zA (k:=2) rfl
@[simp] theorem zan í{x y z w:α}Å5:L2.ya (x::y::z::w::xs) 3=↑w:=zA (k:=3) rfl
theorem g_ í Ĳ (g:α->À T) Ã5:∀ (xs:ú),(∀ x∈xs,h (enc x)=↑(g x))->qL h Ķ=↑(xs.filterMap g)
 | [],_=>rfl
 | x::xs,hh=>by
  rw[AJ];unfold qL;rw[hh x Aw,g_ enc g h xs λ y hy=>hh y (AD _ hy)];cases q:g x <;> simp[q]
def Kk í Ĳ (g:α->T) Ã5 (xs:ú) (hh:∀ x∈xs,h (enc x)=↑↑(g x)):qL h Ķ=↑(xs.map g):=by
 rw[g_ enc (λ x=>↑(g x)) h xs hh];simp
def xf í Ĳ (h:α->T) à
  (hh:∀ x∈xs,ve pick g c f J (enc x)=↑↑(h x)):yI pick it g c f J=↑(ä (xs.map h)):=by
 unfold yI;rw[hi,B4,ê (by rw[Af];show hl),Kk enc h _ xs hh];rfl
def mr í Ĳ (h:α->À T) à
  (hh:∀ x∈xs,ve pick g c f J (enc x)=↑(h x)):yI pick it g c f J=↑(ä (xs.filterMap h)):=by
 unfold yI;rw[hi,B4,ê (by rw[Af];show hl),g_ enc h _ xs hh];rfl
section
variable {í}{is:Ĵ}{ř}{b:Sm}
def turn Ī (b:Sm) (y:T) Ŀ:À Out:=(g y J).bind b
theorem a_ (y:T) (ys:Ò) Ŀ:xS is g b (y::ys) J=(turn g b y Œ).bind λ o=>match o with
  | .nx J2=>ū
  | .ct J2=>ū
  | .bk J2=>↑(.nx (yX is J2))
  | .rt t=>↑(.rt t):=by
 unfold turn;rw[xS];cases g y Œ <;> rfl
theorem rC Ĳ (test:α->Bool) (v:T) (J0:Ev):∀ (xs:ú) Ŀ,yX is J=J0->(∀ x∈xs,∃ J',yX is J'=J0/\turn g b (enc x) J0=↑(if test x=true then .rt v else .nx J'))->xS is g b Ķ J=↑(if xs.any test=true then .rt v else .nx J0)
 | [],J,h,_=>by rw[BA,xS,h];rfl
 | x::xs,J,h,hs=>by
  let#[J',h1,h2]:=hs x Aw;rw[AJ,a_,h,h2,DB];cases q:test x with
  | true=>simp
  | false=>
   have ih:=rC enc test v J0 xs J' h1 λ y hy=>hs y (AD _ hy);exists ih
theorem aZ Ĳ (I:ú->Ev->Prop):∀ (xs:ú) (pre:ú) Ŀ,I pre Œ->
  (∀ p x q,pre++xs=p++x::q->ē)->∃ J',xS is g b Ķ J=↑(.nx J')/\I (pre++xs) J'
 | [],pre,J,h,_=>#[yX is J,by rw[BA,xS],by exists h]
 | x::xs,pre,J,h,hs=>by
  let#[J',h1,h2]:=hs pre x xs rfl _ h;rw[AJ,a_,h1];have ih:=aZ enc I xs (pre++[x]) J' h2 λ p y q e=>hs p y q (by rw[<- e];simp);exists ih
def mq Ĳ (I:ú->Ev->Prop) (xs:ú) Ŀ (h:I [] Œ)
  (hs:∀ p x q,xs=p++x::q->ē):∃ J',xS is g b Ķ J=↑(.nx J')/\I xs J':=aZ enc I xs [] J h hs
end
theorem sE (n:Nat) (h:n<=100000):vv [é (n:Int)]=↑((æ n).map λ(k:Nat)=>T.int (0+(k:Int))):=by
 change (if inR (n:Int)=true then ↑(rangeT 0 (n:Int).toNat) else none)=_;rw[ê (À3)];rfl
theorem Ur (a n:Nat) (h:a<=100000) (h':n<=100000):nQ [é (a:Int),é (n:Int)]=↑((æ (n-a)).map λ(k:Nat)=>T.int ((a:Int)+(k:Int))):=by
 change (if inR (a:Int)=true/\inR (n:Int)=true then ↑(rangeT a ((n:Int)-a).toNat) else none)=_;rw[ê #[À3,À3],show ((n:Int)-a).toNat=n-a by lia];rfl
end L5
namespace L2
open PySem PySem.Spec PyProof.Rows
section
variable {X:Cx}
def bR (K:Ab):R2:=λ x y H Q=>∃ l b xs zs,x=.ref l/\y=.ref b/\zU K H l xs/\zU K H b zs/\ĸ+zs.length<=ð/\∀ p,H p=none->Q ę (upd H p (ä (xs++zs)))
theorem QL:yp X (binaryOp .Add) (bR X.K):=by
 ext Å8;let#[l,b,xs,zs,rfl,rfl,hH,hB,hz,q]:=h;cases rx;cases ry;let#[Aa,r,p1,_]:=I.list hH;let#[GQ,r2,p2,_]:=I.list hB;let#[#[cls,dd,data,sl],ho,hc,n,hd]:=p1.isList;let#[#[cls2,JZ,data2,I_],Iu,HQ,n2,hd2]:=p2.isList;ext Â1;have e:Aa.toArray++GQ.toArray=(Aa++GQ).toArray:=#[];exact concat_meets Å7 noFill_list_add seq_list_add PySem.F.slot_list_add PySem.F.entry_list_add (PySem.F.args_list_add_2 č) (list_addW l À4 (by rw[AG,AG,<- r.length,<- r2.length];show hz)) #[ho,Iu,?_];rw[e];show#[.ref _,_,I.NS (t':=s.toks) (r.append r2) (by rw[Bh];lia),rfl,q _ I.fresh]
def bP (K:Ab):R2:=λ x y H Q=>∃ a b ys,x=.ref a/\y=.ref b/\yi K H a []/\yi K H b ys/\Q (.ref b) H
theorem QJ:yp X (binaryOp .Add) (bP X.K):=by
 ext Å8;let#[l,b,ys,rfl,rfl,hH,hB,q]:=h;cases rx;cases ry;let#[Aa,r,p1,_]:=I.tuple hH;let#[GQ,r2,p2,_]:=I.tuple hB;let#[#[cls,dd,data,sl],ho,hc,n,hd]:=id p1;let#[#[cls2,JZ,data2,I_],Iu,HQ,n2,hd2]:=id p2;ext Â1;show concat_meets Å7 noFill_tuple_add seq_tuple_add PySem.F.slot_tuple_add PySem.F.entry_tuple_add (PySem.F.args_tuple_add_2 č)
   (tuple_addW0 l À4 (by cases r;rfl)) #[ho,Iu,#[.ref b,H,I,rfl,q]]
end
end L2
namespace L5
open PySem PySem.Spec L2 L3
open PyProof.Rows hiding St
section
variable {X:Cx}{K:Ab}{a b c e:Expr}{es:List Expr}{ta tb tc te:zu}{tA:ym}{pos p:Pos}
def uq.mo:xx uq:=λ x y S Q Q' hq h=>by
 cases x with
 | int i=>cases y <;> first | show hq č h | show h
 | str i=>ext À8
 | tup i=>ext À8
 | xN ds=>
  ext Á2
  .show Ś
  .show ş
 | ref q=>
  ext Á2
  .show Ś
  .show ş
 | _=>show h
def tj {H:Hp}{S:SS}{d:D}{v:V}Ĝ(r:zj K H d v) (p:zK K H S) (e:yg d S=↑ds) (n:∀ ts,d≠ À5):∃ a xs,v=.ref a/\zU K H a xs/\zo K H ds xs:=by
 unfold yg at e;split at e
 .show absurd rfl (n _)
 .cases e;ext ŵ;let#[a,xs,h1,h2,h3]:=r;show#[a,xs,h1,h2.sq,h3]
 .split at e
  .rename_i q;cases e;ext ŵ;subst r;let#[xs,h1,h2]:=p č q;show#[_,xs,rfl,zU.of h1,h2]
  .cases e
 .cases e
abbrev bT (K:Ab):R2:=λ x y H Q=>vJ (λ i j=>é (i+j)) x y H Q\/((∃ i j,x=Ŏ i/\y=Ŏ j/\ů/\Q (Ŏ (i++j)) H)\/(bR K x y H Q\/(bP K x y H Q\/bQ K x y H Q)))
def uq.fits:xt K uq (bT K):=λ x y d e H S Q h1 h2 h3 h=>by
 have lst:(∀ ts,d≠ À5)->(match yg d S,yg e S with
  | some ds,↑es=>(∀ ts,e≠ À5)/\Ő/\∀ r,S r=none->xZ K H Q Ä1
  | _,_=>False)->bT K x y H Q:=λ n h=>by
  split at h
  .rename_i ds es q1 q2;let#[a,xs,rfl,g1,g2]:=tj h1 h3 q1 n;let#[b,ys,rfl,g3,g4]:=tj h2 h3 q2 h.1;exact ĥ (ĥ (ŉ #[a,b,xs,ys,rfl,rfl,g1,g3,by rw[<- g2.length,<- g4.length];show h.2.1,λ p hp=>?_]));show h.2.2 p (h3.none hp) č ĕ Į (h3.ups Į #[_,yr,zo.ext Į _ (g2.append g4)])
  .show ş
 cases d with
 | int i=>
  cases e with
  | int j=>
   simp![zj] at h1 h2;show ŉ #[_,_,h1,h2,h _ H ĕ Ä9 h3]
  | _=>show ş
 | str i=>
  cases e with
  | str j=>
   simp![zj] at h1 h2;show ĥ (ŉ #[_,_,h1,h2,h.1,h.2 _ H ĕ Ä9 h3])
  | _=>show ş
 | tup ds=>
  cases e with
  | tup es=>
   have h1':=h1;have h2':=h2;simp![zj] at h1 h2;let#[a,xs,rfl,g1,g2]:=h1;let#[b,ys,rfl,g3,g4]:=h2;have hl:=g2.length;have Il:=g4.length;by_cases hx:xs=[]
   .subst hx;have:ds=[]:=by cases ds <;> simp_all
    subst this;show ĥ (ĥ (ĥ (ŉ #[a,b,ys,rfl,rfl,g1,g3,h.2 _ H h2' Ä9 h3])))
   .exact ĥ (ĥ (ĥ (ĥ #[a,b,xs,ys,rfl,rfl,g1,g3,hx,by rw[<- hl,<- Il];show h.1,λ hy=>?_,λ hy p hp=>?_])))
    .subst hy;have:es=[]:=by cases es <;> simp_all
     subst this;exact h.2 _ H ?_ Ä9 h3;rw[CV];show h1'
    .exact h.2 č ?_ Į (h3.new hp);simp![zj];show#[p,_,rfl,yi.of yr,zo.ext Į _ (g2.append g4)]
  | _=>show ş
 | xN ds=>show lst È h
 | ref q=>show lst È h
 | _=>show ş
def Qo (ha:PD X a ta) (hb:PD X b tb):PD X (.BinOp a .Add b pos) (yB uq ta tb):=rp (QN.or (QM.or (QL.or (QJ.or QK)))) uq.fits uq.mo ha hb
def tK.mo {g:Ĩ->Bool}:vm (tK g):=λ ds S Q Q' hq h=>by
 unfold tK at h ⊢;split at h
 .show ş
 .let#[bs,h1,h2]:=h;show#[bs,h1,hq č h2]
 .show ş
def tK.fits {g:Ĩ->Bool}:uB K (tK g) (λ xs H Q=>∃ p,∃ bs:Ĩ,xs=[.ref p]/\zU K H p (bs.map V.bl)/\Q (.bl (g bs)) H):=λ xs ds H S Q h0 h2 h=>by
 unfold tK at h;split at h
 .show ş
 .rename_i d hn;let#[x,hx,h1]:=h0.one;subst hx;let#[bs,e,h]:=h;let#[a,ys,rfl,g1,g2]:=tj h1 h2 e (λ ts z=>hn ts z);rw[g2.bools] at g1;show#[a,bs,rfl,g1,h _ H ĕ Ä9 h2]
 .show ş
def Qn (hm:X.mg "all"=none) (ha:xc X (e::es) tA) (hc:X.calm=true) (hg:Gl X "all") (he:Az X e es) (Al:AE X pos es):PD X (.Call (.Name "all" p) (e::es) [] pos) (xR (tK λ bs=>bs.all id) tA):=
 sG (t9 (K8 hc) hg hm boot_all ha.pa () () he Al) tK.mo tK.fits ha.mo
def Zs {H:Hp}{d:D}{v:V}(r:zj K H d v):decide (v=.zm)=oj d:=by
 cases d with
 | tup _=>ext Ã6
 | xN _=>ext Ã6
 | err _ _ _=>ext ŵ;let#[a,_,_,_,rfl,_]:=r;rfl
 | _=>ext ŵ;subst r;rfl
theorem R8 (ha:PD X a ta):PD X (.UnaryOp .USub a pos) (Yt ta):=by
 exact#[fun Y S Q Q' hq h=>ha.mo Y S č (λ x S1 z=>by
  cases x <;> first
   | show hq č z
   | show z) h,PE.imp (Tw WY ha.pe) fun σ H Q hu=>?_]
 let#[Y,S,r1,r2,h]:=hu;exact yb.go ha.mo r1 r2 h λ x S1 v H1 h1 q1 e1 p1=>?_;cases x with
 | int i=>simp![zj] at q1;show#[i,q1,h1 _ H1 ĕ e1 p1]
 | _=>show h1.elim
section
variable {N':ŕ}{pick:Á4}{scope:Scope}{tg elt iter:Expr}{ifs:List Expr}{ti:wz}{g:xn}{HY:yM}
def uQ.mo (hi:j4 ti):y9 į:=fun Y S Q Q' hq z=>hi Y S č (λ I S1 #[h1,h2,h3]=>#[h1,h2,λ p hp=>by
 let#[W,w0,w1,w2,w3]:=h3 p hp;show#[W,w0,w1,w2,λ S2 acc a b c=>hq č (w3 S2 acc a b c)]]) z
theorem c6 (hi:j4 ti) (hg:lq g) (hc:vk HY) (he:y9 te) {σ:St}{H:Hp}{Q:VK}(hu:yb K į σ H Q):jX pick (xm K ti) (nD K g) (w9 K HY) (yb K te) σ H Q:=by
 let#[Y,S,r1,r2,z]:=hu;exact#[Y,S,r1,r2,hi Y S č (λ I S1 hF J H1 e1 p1 rep D hD=>?_) z];let#[hlen,hk,hF]:=hF;have hS1:S1 D=none:=p1.none hD;let#[W,w0,wm,wstep,wfin]:=hF D hS1;exact#[λ i m σ H2=>m=ë-i/\i<=ë/\Ext H1 H2/\yF K H2 ń σ/\∃ S2 acc,zK K H2 S2/\Sx S1 S2/\S2 D=↑(ä acc)/\acc.length<=i/\W i S2 acc,#[_,rfl,A_ _,.new hD _,((r1.ext e1).pick pick).ext (.new hD _),ups S1 D (ä []),[],?_,.new hS1 _,rj,Am _,?_],?_]
 .show p1.ups (.new hD _) #[[],yr,.nil]
 .show wm 0 S1 _ [] Â0 w0
 rintro i m σ2 H2 ⟨rfl,Ib,x2,q1,S2,acc,q2,sx,hS2,A7,hW⟩;let#[g1,g2]:=rep i H2 S2 x2 q2 (hk S2 sx);by_cases hl:i<ë
 .have hd:I.items[i]?=↑I.items[i]:=by simp[hl]
  let#[go,yl]:=g1 _ hd;exact ĥ #[go,λ x H3 hy=>?_];let#[x3,p3,d3]:=yl x H3 hy;exact#[_,_,S2,d3,q1.ext x3,p3,hg č S2 č (fun Y4 S4 z4 σ4 H4 a1 a2 a3=>?_) (wstep i _ S2 acc hd sx hS2 hW)];let#[hle,z4]:=z4;exact w9.go hc a1 a3 z4 λ b S5 H5 z5 x5 p5=>wD (λ z5=>?_) (λ z5=>?_) z5
  .exact yb.go he (a1.ext x5) p5 z5 λ y S6 v H6 z6 q6 x6 p6=>?_;let#[s6,hW6]:=z6;let#[ys,h6,r6]:=p6 č (s6 č hS2);have e6:Ext H6 (upd H6 D (ä (ys++[v]))):=ä h6 _;have hlen2:Ŕ<=i:=by rw[<- r6.length];show A7
   exact#[ys,ë-(i+1),h6,⋯,⋯,rfl,hl,((Á5).trans x6).trans e6,hle.rep ((a1.ext (x5.trans x6)).ext e6),ups S6 D (ä (acc++[y])),acc++[y],?_,λ b o hb=>?_,rj,Ã2,?_]
   .show p6.ups e6 #[_,yr,zo.ext e6 _ (r6.snoc q6)]
   .rw[uZ (by intro q;subst q;rw[hS1] at hb;cases hb)];show s6 č (sx č hb)
   .show wm _ S6 č Â0 hW6
  .let#[s5,hW5]:=z5;show#[ë-(i+1),⋯,rfl,hl,Á5,hle.rep (a1.ext x5),S5,acc,p5,sx.trans s5,s5 č hS2,⋯,hW5]
 .have e:i=ë:=⋯;subst e;show ŉ #[g2 (Am _),wfin S2 acc sx hS2 hW _ H2 ĕ (e1.trans x2) q2]
def RH Ç
  Ň:
  PD X ô į:=
 #[uQ.mo hi.mo,λ FH s σ H Q I hu=>TC Ñ hs FH s σ H Q I (c6 Ģ hu)]
def SM {i:Nat}{y:Str}{py Br:Pos}Ç
  (hN:X.N.Nodup) (hy:X.N[i]?=↑y) (hx:Loc X.env.scope y)
  (Cc:swapsWith ô ↑(.Name y py) Br.line X.env=pure true)
  (Cj:X.fn y=true\/X.env.scope.names.lookup y=↑.local)
  Ň:
  wI X (.Assign [.Name y py] ô Br) (v9 į Ä7):=by
 exact#[v9.mo (uQ.mo hi.mo) λ _ _ _ _ _ hq z=>hq č z,λ FH s σ H D I hu=>UJ Ñ hN hy hx Cc Cj hs FH s σ H D I ?_];let#[Y,S,r1,r2,z]:=hu;exact c6 Ģ #[Y,S,r1,r2,uQ.mo hi.mo Y S č (λ x S1 z v H1 q1 e1 p1=>?_) z];show z _ H1 ((r1.ext e1).set i q1) e1 p1
end
end
section
variable {P:Program}{w:World}{K:Ab}{mg:Au}{base:Heap}{f:Addr}{fd:FuncData}
def ZW Đ À2
  É:wJ P w K mg base yT (k+1) f fd ps (u_ K (zG R (zM N n g))):=
 Lr F Sc (λ ds S Q h=>by rw[h.len,hn]) λ Ah A outer s H E hr=>by
  let#[t,h1,h2]:=FW Ah A outer s H E hr;show#[t,h1,λ ds S Q h=>YD h2 h]
def LH Đ (hm:mg x=↑(.ref f)) À2
  (hb:∀ (kV doc pm:Value) (an:À Addr) (Ah ct:Value) (us:Ad),us.length=ps.length->bindArgs (PySem.W.fnOf x x (vi st) (xi st) (zS st) .none kV doc pm an Ah ct) #[us,[]]=pure (ps.zip us))
  É:FD P w K mg base x (k+1) ps (zG R (zM N n g)):=
 #[#[f,fd,ZW F Sc hn FW,hm,F.kp,F.binds hb],zG.mo]
def Mi ţ [Sr R] {F:Ak}(hF:∀ ns:ç,ns.length<=63->F [ä (ns.map T.int)]=↑(.bl true)) {H:Hp}{a:Addr}{ns:ç}{E:XK}(hO:jt H) (hS:zU K H a (ns.map V.int)) (hl:ns.length<=63):u_ K (zG R F) [.ref a] H (λ v _=>v=.bl true) E:=by
 have hFz:oS K H a (ns.map V.int):=by
  rcases hS with (h | h) | h
  .rcases hO a with z | ⟨o,xs,z⟩
   .rw[h] at z;cases z
   .rw[h] at z;cases z
  .show ŉ h
  .show ĥ h
 exact#[[.xN (ns.map D.int)],λ _=>none,.cons ?_ .nil,(λ a o z=>nomatch z),λ _=>False,[ä (ns.map T.int)],.bl true,nofun,.cons ?_ .nil,hF ns hl,λ d S' s r v H' rv _ _=>?_]
 .simp![zj];show#[a,_,rfl,hFz,zo.iT ns]
 .ext ŗ;show#[_,ŉ #[rfl,QO ns],uH.mpr rfl]
 .have:=Sr.sn r;simp![Sn] at this;subst this;simpa only [zj] using rv
end
end L5
namespace ST
open PySem PySem.SetTable
def uV (xs:Ĵ):Prop:=xs.Pairwise (· < ·)
def gu Ž{m d:Nat}(h:m<đ):xs.getD m d=xs[m]:=by simp[Array.getD,h]
theorem fS (xs:Array Nat) (j:Nat) ň:∀ (f lo hi:Nat),hi-lo<=f->lo<=hi->hi<=đ->(∀ i Ä2,i<lo->xs[i]<j)->(∀ i Ä2,hi<=i->j<=xs[i])->
  ű<=đ/\(∀ i Ä2,i<ű->xs[i]<j)/\∀ i Ä2,ű<=i->j<=xs[i]
 | 0,lo,hi,h1,h2,h3,h4,h5=>by
  unfold below.go;ext ž
 | f+1,lo,hi,h1,h2,h3,h4,h5=>by
  unfold below.go;have wM:∀ i k (hi:i<đ) (hk:k<đ),i<=k->xs[i]<=xs[k]:=λ i k hi hk Es=>by
   rcases BO i k with q | q
   .have r:=CH.mp hr i k (Â3) (by exists hk) q;rw[CF,CF] at r;show Bl r
   .have:i=k:=⋯;subst this;show Am _
  by_cases hl:lo<hi
  .rw[ê hl];ext ľ;have hm:(lo+hi)/2<đ:=⋯;rw[gu hm];by_cases c:xs[(lo+hi)/2]<j
   .rw[ê c];exact fS xs j hr f _ hi ⋯ ⋯ h3 (λ i Ib Ax=>?_) h5;have:=wM i ((lo+hi)/2) Ib hm ⋯;lia
   .rw[ÿ c];exact fS xs j hr f lo _ ⋯ ⋯ ⋯ h4 (λ i Ib hge=>?_);have:=wM ((lo+hi)/2) i hm Ib hge;lia
  .rw[ÿ hl];ext ž
def ji Ž Å9 ň:Ę<=đ/\(∀ i Ä2,i<Ę->xs[i]<j)/\∀ i Ä2,Ę<=i->j<=xs[i]:=
 fS xs j hr đ 0 đ ⋯ ⋯ (Am _) (λ i h q=>⋯) (λ i h q=>⋯)
theorem below_at Ž{j i:Nat}ň (h:xs[i]?=↑j):Ę=i:=by
 let#[h1,h2,h3]:=ji (j:=j) hr;let#[hi,e]:=ì h;have a:¬ i<Ę:=λ q=>by have:=h2 i hi q;lia
 have b:¬ Ę<i:=λ q=>by
  have:=h3 (Ę) ⋯ (Am _);have r:=CH.mp hr (Ę) i (Ã2) (Â3) q;simp at r;lia
 lia
def KN Ž Å9 ň:(xs[Ę]?=↑j)↔j∈xs.toList:=by
 constructor
 .intro h;let#[hi,e]:=ì h;rw[<- e];simp
 .intro h;let#[i,hi,e]:=BX.mp h;have hx:xs[i]?=↑j:=by
   simp at hi;simp[hi] at e ⊢;show e
  rw[below_at hr hx];show hx
def uw ă (p:Probe):Probe:=
 if p.more>0 then { p with j:=p.j+1,more:=p.more-1 } else
 let (i,perturb):=leap M p.i p.perturb
 { p with j:=i,more:=Ã8,i,perturb }
def f_ (t:SetTable) (p:Probe):t.advance p=uw á p:=rfl
def pH (M i perturb:Nat):Probe:={ j:=i,more:=Ã8,i:=i,perturb:=perturb,dummy:=none }
def way Û:Nat->Probe
 | 0=>pH M (ħ%ý) (ħ)
 | k+1=>uw M (Ý)
def KY ă (p:Probe) (h:p.dummy=none):(uw M p).dummy=none:=by
 unfold uw;split
 .show h
 .show h
theorem jO Û:∀ k,(Ý).dummy=none
 | 0=>rfl
 | k+1=>KY M _ (jO M h k)
def yk Û:Nat->Nat×Nat
 | 0=>(ħ%ý,ħ)
 | n+1=>leap M õ ě
theorem ip (M i pt:Nat) ũ (k:Nat) (hk:Ý=pH M i pt):∀ m,m<=Ã8->way M h (k+m)={ j:=i+m,more:=Ã8-m,i:=i,perturb:=pt,dummy:=none }
 | 0,_=>by rw[Nat.add_zero,hk];rfl
 | m+1,hm=>by
  have ih:=ip M i pt h k hk m ⋯;change uw M (way M h (k+m))=_;rw[ih];unfold uw;rw[ê (by change Ã8-m>0;lia)];simp![Probe.mk.injEq];show#[⋯,⋯,À0,À0,À0]
def Uk (M i:Nat):Ã8<=9:=by ext Ů
theorem bh Û (n k:Nat) (hk:Ý=pH M õ ě):way M h (k+(Ĕ M õ-õ)+1)=pH M (yk M h (n+1)).1 (yk M h (n+1)).2:=by
 have:=ip M č h k hk _ (Am _);change uw M (way M h (k+_))=_;rw[this];unfold uw;rw[ÿ (by change ¬ _-_-(_-_)>0;lia)];rfl
theorem bj Û:∀ n,∃ k,k<=10*n/\Ý=pH M õ ě
 | 0=>#[0,⋯,rfl]
 | n+1=>by
  let#[k,h1,h2]:=bj M h n;have:=Uk M õ;show#[_,⋯,bh M h n k h2]
def KJ ũ:ħ<2 ^ 64:=by
 unfold bits;have h1:=BP h (show (2 ^ 64:Int)≠0 by decide);have h2:=Ca h (show (0:Int)<2 ^ 64 by decide);lia
theorem ag Û:∀ n,ě*32 ^ n<=ħ
 | 0=>by simp[yk]
 | n+1=>by
  have ih:=ag M h n;change (ě/32)*32 ^ (n+1)<=_;have:ě/32*32<=ě:=Nat.div_mul_le_self č
  calc ě/32*32 ^ (n+1)=(ě/32*32)*32 ^ n:=by rw[Nat.pow_succ,Ej (32 ^ n) 32,Nat.mul_assoc]
   _<=ě*32 ^ n:=Nat.mul_le_mul_right _ this
   _<=_:=ih
theorem Tu Û (n:Nat) (hn:13<=n):ě=0:=by
 rcases ET ě with q | q
 .show q
 .have h1:=ag M h n;have h2:=KJ h;have h3:32 ^ 13<=32 ^ n:=Nat.pow_le_pow_right () hn;have h4:1*32 ^ n<=ě*32 ^ n:=Nat.mul_le_mul_right _ q;have h5:(2:Nat) ^ 64<32 ^ 13:=()
  lia
def sH ă Ö:Nat->Nat
 | 0=>i
 | n+1=>(sH M i n*5+1)%ý
theorem Zg Û:∀ n,(yk M h (13+n)).1=sH M (yk M h 13).1 n
 | 0=>rfl
 | n+1=>by
  have ih:=Zg M h n;have hz:=Tu M h (13+n) ⋯;change ((yk M h (13+n)).1*5+1+(yk M h (13+n)).2/32)%ý=_;rw[hz,ih];rfl
theorem mf (M i:Nat):∀ a b,sH M i (a+b)=sH M (sH M i a) b
 | a,0=>rfl
 | a,b+1=>by
  change (sH M i (a+b)*5+1)%ý=_;rw[mf M i a b];rfl
def me ă:Nat->Nat->Ĵ
 | 0,_=>[]
 | n+1,i=>i::me M n ((i*5+1)%ý)
theorem iL ă:∀ n i x,x∈me M n i->∃ k,k<n/\sH M i k=x
 | 0,i,x,h=>ù
 | n+1,i,x,h=>by
  rcases Ao.mp h with e | e
  .show#[0,⋯,e.symm]
  .let#[k,h1,h2]:=iL M n _ x e;show#[k+1,⋯,by rw[Nat.add_comm,mf];show h2]
def vE ă:Prop:=M=7\/M=31\/M=127
theorem Q2 ă Æ0:(∀ e,e<=M->e∈me M ý 0)/\sH M 0 ý=0:=by
 have key:∀ M,((æ ý).all λ e=>(me M ý 0).contains e)=true->∀ e,e<=M->e∈me M ý 0:=λ M h e he=>by
  have:=AV.mp h e (AO.mpr ⋯);exists this
 rcases hM with rfl | rfl | rfl
 .show#[key 7 (AM),AM]
 .show#[key 31 (AM),AM]
 .show#[key 127 (AM),AM]
theorem Q1 ă Æ0 (i e:Nat) (hi:i<=M) (he:e<=M):∃ n,n<=M/\sH M i n=e:=by
 let#[h1,h2]:=Q2 M hM;let#[a,a1,a2]:=iL M č _ (h1 i hi);let#[b,b1,b2]:=iL M č _ (h1 e he);rcases BO b a with q | q
 .exact#[M+1+b-a,⋯,?_];rw[<- a2,<- mf,show a+(M+1+b-a)=ý+b by lia,mf,h2,b2]
 .exact#[b-a,⋯,?_];rw[<- a2,<- mf,show a+(b-a)=b by lia,b2]
theorem NY Û:∀ n,õ<=M
 | 0=>by have:=DA (ħ) Ŗ;change ħ%ý<=M;lia
 | n+1=>by
  have:=DA (õ*5+1+ě/32) Ŗ;change (_%ý:Nat)<=M;lia
theorem Zh ă Æ0 ũ (e:Nat) (he:e<=M):∃ n,n<M+14/\õ=e:=by
 let#[n,h1,h2]:=Q1 M hM (yk M h 13).1 e (NY M h 13) he;show#[13+n,⋯,by rw[Zg,h2]]
theorem WO ă Æ0 ũ (e:Nat) (he:e<=M):∃ k,k<10*(M+15)/\(Ý).j=e:=by
 let#[n,h1,h2]:=Zh M hM h e he;let#[k,k1,k2]:=bj M h n;show#[k,⋯,by rw[k2];show h2]
theorem cg Û:∀ k,(Ý).j+(Ý).more<=M/\(Ý).i<=M
 | 0=>by
  have h1:ħ%ý<=M:=by have:=DA (ħ) Ŗ;lia
  exact#[?_,h1];change ħ%ý+(Ĕ M (ħ%ý)-ħ%ý)<=M;ext Ů
 | k+1=>by
  let#[h1,h2]:=cg M h k;change (uw M (Ý)).j+(uw M (Ý)).more<=M/\(uw M (Ý)).i<=M;unfold uw;split
  .rename_i c;show#[by change (Ý).j+1+((Ý).more-1)<=M;lia,h2]
  .have h3:Ã9%ý<=M:=by have:=DA Ã9 Ŗ;lia
   exact#[?_,h3];change _%ý+(Ĕ M (_%ý)-_%ý)<=M;ext Ů
def jN Û (k:Nat):(Ý).j<=M:=by have:=(cg M h k).1;lia
structure Tab (t:SetTable) (hs:ç):Prop where
 mask:vE á
 rR:t.dummies=[].toArray
 len:t.place.size=Ē
 wM:uV Í
 top:∀ j∈ Í,j<=á
 nW:∀ Ö h j,hs[i]?=↑h->Ņ[i]?=↑j->ĺ
theorem Tab.live Î {i j:Nat}(h:Ņ[i]?=↑j):t.slot j=.live i:=by
 unfold SetTable.slot;ext ľ;rw[below_at T.wM h,ê (by rw[h];simp)]
theorem Tab.empty Î Å9(h:j∉ Í):t.slot j=.empty:=by
 unfold SetTable.slot;ext ľ;have n1:¬ (Ņ[î]? == ↑j)=true:=λ q=>h ((KN T.wM).mp (by exists q));rw[ÿ n1,Ä4]
theorem Tab.at Î Å9(h:j∈ Í):∃ (i:Nat) (g:Int),Ņ[i]?=↑j/\hs[i]?=↑g:=by
 let#[i,hi,e]:=BX.mp h;have Ib:i<t.place.size:=Â3
 exact#[i,hs[i]'(by rw[<- T.len];show Ib),?_,#[]];rw[Bf Ib];rw[CF] at e;rw[e]
theorem ZN Î {hashAt:Nat->Int}(hA:∀ Ö g,hs[i]?=↑g->hashAt i=g) ũ:∀ (f k:Nat),(∃ e,k<=e/\e<k+f/\(way á h e).j∉ Í)->
  ∃ k1,k<=k1/\(∀ m,k<=m->m<k1->∃ (i:Nat) (g:Int),Ņ[i]?=↑(way á h m).j/\hs[i]?=↑g/\g≠h)/\
   (Ŭ ∉ Í/\Ź t hashAt h f (Â4)=↑(.empty Ŭ none)\/
    ∃ i,Ņ[i]?=↑ Ŭ/\hs[i]?=↑h/\Ź t hashAt h f (Â4)=↑(.candidate Ŭ i (way á h (k1+1))))
 | 0,k,#[e,h1,h2,_]=>⋯
 | f+1,k,#[e,h1,h2,h3]=>by
  by_cases hm:(Â4).j∈ Í
  .let#[i,g,p1,p2]:=T.at hm;by_cases hg:g=h
   .exact#[k,Am _,λ m a b=>⋯,ĥ #[i,p1,by rw[<- hg];show p2,?_]];unfold Ź;rw[T.live p1];ext ľ;rw[hA i g p2,ê (by simp[hg]),f_];rfl
   .have AA:e≠k:=λ q=>by subst q;show h3 hm
    let#[k1,q1,q2,q3]:=ZN T hA h f (k+1) #[e,⋯,⋯,h3];have eq:Ź t hashAt h (f+1) (Â4)=Ź t hashAt h f (way á h (k+1)):=by
     conv=>lhs;unfold Ź
     rw[T.live p1];ext ľ;rw[hA i g p2,ÿ (by simp[hg]),f_];rfl
    rw[eq];exact#[k1,⋯,λ m a b=>?_,q3];rcases Nat.eq_or_lt_of_le a with w | w
    .subst w;show#[i,g,p1,p2,hg]
    .show q2 m w b
  .exact#[k,Am _,λ m a b=>⋯,ŉ #[hm,?_]];unfold Ź;rw[T.empty hm,jO]
def aO {xs ys:Ĵ}(hx:xs.Nodup) (h:∀ x∈xs,x∈ys):ĸ<=Ŕ:=by
 induction xs generalizing ys with
 | nil=>simp
 | cons x xs ih=>
  have h1:=Bj.mp hx;have hxy:=h x Aw;have:=ih h1.2 (ys:=ys.erase x) λ z hz=>by
   have AA:z≠x:=λ e=>h1.1 (e▸hz);show (List.mem_erase_of_ne AA).mpr (h z (AD _ hz))
  rw[List.length_erase_of_mem hxy] at this;have hp:=List.length_pos_of_mem hxy;simp![Be];lia
theorem least {P:Nat->Prop}(k:Nat) (h:P k):∃ m,m<=k/\P m/\∀ m'<m,¬ P m':=by
 induction k using Nat.strongRecOn with
 | ind k ih=>
  rcases Â8 (∃ m',m'<k/\P m') with ⟨m',h1,h2⟩ | q
  .let#[m,g1,g2]:=ih m' h1 h2;show#[m,⋯,g2]
  .show#[k,Am _,h,λ m' hm hp=>q #[m',hm,hp]]
theorem Ls {xs:Ĵ}{M:Nat}(h:ĸ<=M):∃ e,e<=M/\e∉xs:=by
 rcases Â8 (∃ e,e<=M/\e∉xs) with q | q
 .show q
 .have:=aO (xs:=æ ý) (ys:=xs) Eh λ e he=>by
   have:=AO.mp he;rcases Â8 (e∈xs) with w | w
   .show w
   .show absurd #[e,⋯,w] q
  simp at this;lia
def eK (t:SetTable) ũ (j:Nat):Prop:=j∉ Í/\ĺ
theorem Tab.first Î (hl:Ē<=á) ũ:∃ K,K<10*(á+15)/\(way á h K).j∉ Í/\∀ k'<K,(way á h k').j∈ Í:=by
 let#[e,e1,e2]:=Ls (xs:=Í) (M:=á) (by rw[Bw,T.len];show hl);let#[k,k1,k2]:=WO á T.mask h e e1;let#[K,q1,q2,q3]:=least (P:=λ n=>(way á h n).j∉ Í) k (by rw[k2];show e2);show#[K,⋯,q2,λ k' hk=>Classical.not_not.mp (q3 k' hk)]
def Us {xs:Ĵ}{j p:Nat}(h:uV xs) (h1:∀ x∈xs.take p,x<j) (h2:∀ x∈xs.drop p,j<x):uV (xs.take p++j::xs.drop p):=by
 exact EV.mpr #[h.sublist (List.take_sublist č),BJ.mpr #[h2,h.sublist (List.drop_sublist č)],λ a ha b hb=>?_];rcases Ao.mp hb with e | e
 .subst e;show h1 a ha
 .have:=h1 a ha;have:=h2 b e;lia
theorem ZA í Å5{p i:Nat}{x y:α}(hp:p<=ĸ) (h:(xs.take p++x::xs.drop p)[i]?=↑y):(i=p/\y=x)\/(i<p/\xs[i]?=↑y)\/(p<i/\xs[i-1]?=↑y):=by
 have hl:(xs.take p).length=p:=by rw[B_];lia
 rcases Eg i p with q | q | q
 .rw[CL ⋯,List.getElem?_take,ê q] at h;show ĥ (ŉ #[q,h])
 .subst q;rw[CM ⋯,hl] at h;simp at h;show ŉ #[rfl,h.symm]
 .rw[CM ⋯,hl] at h;obtain⟨d,hd⟩:∃ d,i-p=d+1:=#[i-p-1,⋯];rw[hd] at h;simp![List.getElem?_cons_succ,List.getElem?_drop] at h;exact ĥ (ĥ #[q,?_]);rw[show i-1=p+d by lia];show h
theorem Tab.put Î {h:Int}Å9(F:eK t h j):
  ź<=Ē/\ī/\Tab (t.put j).1 (hs.take ź++h::hs.drop ź):=by
 let#[b1,b2,b3]:=ji (xs:=Ņ) (j:=j) T.wM;let#[fn,K,k1,k2]:=F;have e2:ź=î:=rfl;have e1:ī:=by
  change ({ t with place:=Æ,dummies:=_ }:SetTable)=_;rw[Ä4,e2]
 have pl:Ż=t.place.toList.take (î)++j::t.place.toList.drop (î):=toList_insertAt č _;have old:∀ x∈ Í,x∈ Ż:=λ x hx=>by
  rw[pl];have:=ES (î) Í;rw[<- this] at hx;rcases Bb.mp hx with q | q
  .show CW _ q
  .show A8 _ (AD _ q)
 rw[e2] at e1 ⊢;exact#[by rw[<- T.len];show b1,e1,?_];rw[e1];exact#[T.mask,T.rR,?_,?_,?_,?_]
 .change (Æ).size=_;rw[<- Bw,pl];simp[T.len]
 .change uV Ż;rw[pl];exact Us T.wM (λ x hx=>?_) (λ x hx=>?_)
  .let#[i,hi,e]:=BX.mp hx;rw[B_] at hi;rw[List.getElem_take,CF] at e;rw[<- e];show b2 i (by simp at hi;lia) ⋯
  .let#[i,hi,e]:=BX.mp hx;rw[Dj] at hi;rw[List.getElem_drop,CF] at e;have h3:=b3 (î+i) (by simp at hi;lia) ⋯;have hm:x∈ Í:=EO hx;have AA:x≠j:=λ q=>fn (q▸hm);lia
 .intro x hx;change x<=á;have hx:x∈ Ż:=hx;rw[pl] at hx;rcases Bb.mp hx with q | q
  .show T.top x (EN q)
  .rcases Ao.mp q with e | e
   .subst e;rw[<- k1];show jN č _
   .show T.top x (EO e)
 .intro i g x hg hx;change ∃ k,(way á g k).j=x/\∀ k'<k,(way á g k').j∈ Ż;have hx:(Æ)[i]?=↑x:=hx;rw[<- BK,pl] at hx;have Al:î<=t.place.toList.length:=by exists b1
  have Fc:î<=Ē:=by rw[<- T.len];show b1
  rcases ZA Al hx with ⟨c1,c2⟩ | ⟨c1,c2⟩ | ⟨c1,c2⟩ <;> rcases ZA Fc hg with ⟨d1,d2⟩ | ⟨d1,d2⟩ | ⟨d1,d2⟩ <;> first
   | lia
   | (subst c2 d2;show#[K,k1,λ k' hk=>old _ (k2 k' hk)])
   | (let#[k,g1,g2]:=T.nW _ g x d2 (by rw[<- BK];show c2)
      show#[k,g1,λ k' hk=>old _ (g2 k' hk)])
def rY (Ë:Ú) (j:Nat):Prop:=∃ k,ċ
theorem LC {P:Nat->Bool}{n k:Nat}(h:(æ n).find? P=↑k):k<n/\P k=true/\∀ k'<k,P k'=false:=by
 let#[h1,as,bs,h2,h3]:=List.find?_eq_some_iff_append.mp h;have hlen:as.length=k:=by
  have e:(æ n)[as.length]?=↑k:=by rw[h2];simp
  have:=(AY.mp e)
  let#[q1,q2]:=this;rw[List.getElem_range] at q2;show q2
 have hk:k<n:=by
  have:k∈ æ n:=by rw[h2];simp
  show AO.mp this
 exact#[hk,h1,λ k' HS=>?_];have:k'∈as:=by
  have e:(æ n)[k']?=↑k':=List.getElem?_range ⋯;rw[h2,CL ⋯] at e;show B6 e
 have:=h3 k' this;exists this
def getD_none {Ë:Ú}Å9(h:((Â5 j ↑0).isNone)=true):Ë[j]?=↑none:=by
 unfold Array.getD at h;split at h
 .rename_i hj;have e:Ë[j]=none:=by exists h
  rw[Bf hj,e]
 .simp at h
def ZQ {Ë:Ú}Å9(hj:j<Š) (h:((Â5 j ↑0).isNone)=false):rY Ë j:=by
 unfold Array.getD at h;rw[dif_pos hj] at h;cases q:Ë[j] with
 | none=>simp[q] at h
 | some k=>show#[k,by rw[Bf hj,q]]
theorem ZU ă (Ë:Ú) (AL:Š=M+1) ũ:∀ (fuel n kn:Nat),way M h kn=pH M õ ě->(∀ q<kn,rY Ë (way M h q).j)->
  (∃ n',n<=n'/\n'<n+fuel/\Ë[(yk M h n').1]?=↑none)->
  ∃ j q,layClean.free M Ë fuel õ ě=↑j/\(way M h q).j=j/\Ë[j]?=↑none/\Ä0
 | 0,n,kn,_,_,#[n',h1,h2,_]=>⋯
 | fuel+1,n,kn,hk,ho,#[n',h1,h2,h3]=>by
  have hre:Ĕ M õ+1-õ=Ĕ M õ-õ+1:=by ext Ů
  have Ih:∀ m,m<=Ĕ M õ-õ->(way M h (kn+m)).j=õ+m:=λ m hm=>by rw[ip M č h kn hk m hm]
  unfold layClean.free;cases hf:(æ (Ĕ M õ+1-õ)).find? (λ k=>(Â5 (õ+k) ↑0).isNone) with
  | some k=>
   let#[f1,f2,f3]:=LC hf;exact#[_,kn+k,rfl,Ih k ⋯,getD_none f2,λ q' hq=>?_];rcases BO q' kn with w | w
   .show ho q' w
   .have e:(way M h q').j=õ+(q'-kn):=by
     have:=Ih (q'-kn) ⋯
     rwa [show kn+(q'-kn)=q' by lia] at this
    have hle:=jN M h q';rw[e] at hle ⊢;show ZQ ⋯ (f3 (q'-kn) ⋯)
  | none=>
   have f3:=List.find?_eq_none.mp hf;have occ:∀ m,m<=Ĕ M õ-õ->rY Ë (õ+m):=λ m hm=>by
    have hle:=jN M h (kn+m);rw[Ih m hm] at hle;show ZQ ⋯ (Bool.eq_false_iff.mpr (f3 m (AO.mpr ⋯)))
   have AA:n'≠n:=λ e=>by
    subst e;let#[k,HS]:=occ 0 (A_ _);rw[Nat.add_zero] at HS;rw[HS] at h3;cases h3
   ext ľ;let#[j,q,r1,r2]:=ZU M Ë AL h fuel (n+1) _ (bh M h n kn hk) (λ q hq=>by
    rcases BO q kn with w | w
    .show ho q w
    .have e:=Ih (q-kn) ⋯;rw[show kn+(q-kn)=q by lia] at e;rw[e];show occ _ ⋯) #[n',⋯,⋯,h3]
   show#[j,q,r1,r2]
structure Lay ă (hs:ç) (Ë:Ú) (m:Nat):Prop where
 size:Š=M+1
 below:∀ (j k:Nat),ċ->k<m
 each:∀ (k:Nat),k<m->∃ (j:Nat),ċ
 once:∀ (i j k:Nat),Ë[i]?=↑↑k->ċ->i=j
 nW:∀ (j k:Nat) h,ċ->hs[k]?=↑h->∃ q,(way M h q).j=j/\Ä0
theorem Lay.none ğ {hs:ç}{Ë:Ú}{m:Nat}Æ1:Ã4:=by
 rcases Â8 (Ã4) with q | q
 .show q
 .exfalso;have Ay:∀ (e:Nat),e<=M->∃ (k:Nat),Ë[e]?=↑↑k:=λ e he=>by
   have Ax:e<Š:=by rw[š];lia
   cases w:Ë[e] with
   | none=>show absurd #[e,he,by rw[Bf Ax,w]] q
   | some k=>show#[k,by rw[Bf Ax,w]]
  have:=aO (xs:=(æ ý).map λ e=>((Ë[e]?).getD İ).getD 0) (ys:=æ m) (by
   exact B8.mpr (List.Pairwise.imp_of_mem ?_ Eh);intro a b ha hb AA e;exact AA ?_;let#[k,hk]:=Ay a (by have:=AO.mp ha;lia);let#[k',HS]:=Ay b (by have:=AO.mp hb;lia);rw[hk,HS] at e;simp at e;subst e;show L.once a b k hk HS) (λ x hx=>by
   let#[e,he,rfl]:=Av.mp hx;let#[k,hk]:=Ay e (by have:=AO.mp he;lia);rw[hk];show AO.mpr (L.below e k hk))
  simp at this;lia
def l_ í{xs:Array α}{j i:Nat}{a b:α}(h:(xs.setIfInBounds j a)[i]?=↑b):(i=j/\b=a)\/(i≠j/\xs[i]?=↑b):=by
 rw[Ef] at h;by_cases e:j=i
 .subst e;rw[ê rfl] at h;split at h
  .cases h;show ŉ #[rfl,rfl]
  .cases h
 .rw[ÿ e] at h;show ĥ #[λ q=>e q.symm,h]
def Lay.step ğ {hs:ç}{Ë:Ú}{m:Nat}{h:Int}Æ1 (hh:hs[m]?=↑h):
  ∃ j,ò=↑j/\Lay M hs (Č) (m+1):=by
 let#[e,e1,e2]:=L.none hM hm;let#[n',n1,n2]:=Zh M hM h e e1;let#[j,q,r1,r2,r3,r4]:=ZU M Ë š h (turns M) 0 0 rfl (λ q hq=>⋯) #[n',⋯,by unfold turns;lia,by rw[n2];show e2];have hj:j<Š:=(ì r3).1;have keep:∀ x,rY Ë x->rY (Č) x:=λ x #[k,hk]=>by
  have AA:j≠x:=λ w=>by subst w;rw[r3] at hk;cases hk
  show#[k,by rw[Ef,ÿ AA];show hk]
 have self:(Č)[j]?=↑↑m:=by rw[Ef,ê rfl,ê hj]
 exact#[j,r1,#[by simp[š],λ x k hx=>?_,λ k hk=>?_,λ x y k hx hy=>?_,λ x k g hx hg=>?_]]
 .rcases l_ hx with ⟨_,w⟩ | ⟨_,w⟩
  .cases w;lia
  .have:=L.below x k w;lia
 .rcases BO k m with w | w
  .let#[x,hx]:=L.each k w;have AA:j≠x:=λ w=>by subst w;rw[r3] at hx;cases hx
   show#[x,by rw[Ef,ÿ AA];show hx]
  .have:k=m:=⋯;subst this;show#[j,self]
 .rcases l_ hx with ⟨w1,w⟩ | ⟨w1,w⟩ <;> rcases l_ hy with ⟨v1,v⟩ | ⟨v1,v⟩
  .lia
  .cases w;have:=L.below y _ v;lia
  .cases v;have:=L.below x _ w;lia
  .show L.once x y k w v
 .rcases l_ hx with ⟨w1,w⟩ | ⟨w1,w⟩
  .cases w;rw[hh] at hg;cases hg;subst w1;show#[q,r2,λ q' hq=>keep _ (r4 q' hq)]
  .let#[q,g1,g2]:=L.nW x k g w hg;show#[q,g1,λ q' hq=>keep _ (g2 q' hq)]
theorem Zj ğ {hs:ç}(hl:Ē<=M+1):∀ (FJ:ç) (Ë:Ú) (m:Nat),m<=Ē->hs.drop m=FJ->Lay M hs Ë m->
  ∃ II,FJ.foldl (λ acc h=>do
   let (Ë,k) <- acc
   let j <- ò
   pure (owner.setIfInBounds j ↑k,k+1)) ↑(Ë,m)=↑(II,Ē)/\Lay M hs II Ē
 | [],Ë,m,hl2,hd,L=>by
  have hm:Ē<=m:=List.drop_eq_nil_iff.mp hd;have e:m=Ē:=⋯;subst e;show#[Ë,rfl,L]
 | h::FJ,Ë,m,hl2,hd,L=>by
  have hm:hs[m]?=↑h:=by
   have:=congrArg (λ l=>l[0]?) hd;exists this
  have Ax:m<Ē:=(AY.mp hm).1;let#[j,j1,j2]:=L.step hM ⋯ hm;have hd':hs.drop (m+1)=FJ:=by
   have:=congrArg List.tail hd;exists this
  let#[o',h1,h2]:=Zj hM hl FJ _ (m+1) ⋯ hd' j2;exact#[o',?_,h2];rw[List.foldl_cons,<- h1];change _=_;congr 1;change ((ò).bind λ j=>↑(Č,m+1))=_;rw[j1];rfl
theorem N_ ă (hs:ç):Lay M hs (Array.replicate ý İ) 0:=by
 have no:∀ (j k:Nat),(Array.replicate ý (İ:À Nat))[j]?≠↑↑k:=λ j k h=>by
  rw[Array.getElem?_replicate] at h;split at h <;> cases h
 show#[#[],λ j k h=>absurd h (no j k),λ k hk=>⋯,λ i j k h=>absurd h (no i k),λ j k h e=>absurd e (no j k)]
theorem Ma ğ Ŵ:∃ Ë,layClean M hashes=↑ Ë/\Lay M hashes.toList Ë hashes.size:=by
 let#[o,h1,h2]:=Zj hM (hs:=hashes.toList) (by exists hl) hashes.toList _ 0 (A_ _) #[] (N_ M _);exact#[o,?_,by exists h2];unfold layClean;rw[<- Array.foldl_toList,h1];rfl
def lives ă (Ë:Ú):List (Nat×Nat):=(æ ý).filterMap λ j=>(Â5 j İ).map (j,·)
theorem getD_some {Ë:Ú}{j k:Nat}:Â5 j İ=↑k↔ ċ:=by
 unfold Array.getD;split
 .rename_i h;rw[Bf h];simp
 .rename_i h;rw[Dg ⋯];simp
theorem qB {M:Nat}{Ë:Ú}(hs:Š=M+1) {j k:Nat}:(j,k)∈lives M Ë ↔ ċ:=by
 unfold lives;rw[Dk];constructor
 .rintro⟨x,hx,e⟩;let#[y,e1,e2]:=ļ e;ext ō;show getD_some.mp e1
 .intro h;have hj:=(ì h).1;show#[j,AO.mpr ⋯,by rw[getD_some.mpr h];rfl]
def Zc ă (Ë:Ú):(lives M Ë).Pairwise λ a b=>a.1<b.1:=by
 unfold lives;rw[List.pairwise_filterMap];exact List.Pairwise.imp ?_ List.pairwise_lt_range;intro a b Bx x hx y hy;let#[_,_,e1]:=ļ hx;let#[_,_,e2]:=ļ hy;subst e1 e2;show Bx
def Zl ğ (finger moves:Nat) (led plain:Bool) Ŵ:
  ∃ t order,laid M finger moves led plain hashes=↑(t,order)/\á=M/\t.finger=finger/\t.led=led/\t.plain=plain/\order.toList.Perm (æ hashes.size)/\Tab t (order.toList.map Å0):=by
 let#[Ë,h1,L]:=Ma hM hashes hl;exact#[_,_,by unfold laid;rw[h1];rfl,rfl,rfl,rfl,rfl,?_,?_]
 .change (è (·.2)).toArray.toList.Perm _;rw[Dz];exact (Ee ?_ Eh).mpr λ k=>?_
  .exact B8.mpr (List.Pairwise.imp_of_mem ?_ (Zc M Ë));intro a b ha hb Bx e;have h2:=(qB š (j:=a.1) (k:=a.2)).mp ha;have h3:=(qB š (j:=b.1) (k:=b.2)).mp hb;have e:a.2=b.2:=e;rw[e] at h2;have:=L.once č _ h2 h3;lia
  .rw[AO];constructor
   .intro h;let#[#[j,k'],h2,rfl]:=Av.mp h;show L.below j _ ((qB š).mp h2)
   .intro h;let#[j,hj]:=L.each k h;show Av.mpr #[(j,k),(qB š).mpr hj,rfl]
 .have pl:∀ x,x∈ è (·.1)↔rY Ë x:=λ x=>by
   constructor
   .intro h;let#[#[j,k],h2,rfl]:=Av.mp h;show#[k,(qB š).mp h2]
   .rintro⟨k,hk⟩;show Av.mpr #[(x,k),(qB š).mpr hk,rfl]
  exact#[hM,rfl,?_,?_,?_,?_]
  .change (è (·.1)).toArray.size=(Â9 _).length;simp
  .change uV Ľ;rw[Dz];show B8.mpr (Zc M Ë)
  .intro x hx;change x<=M;have hx:x∈ Ľ:=hx;rw[Dz] at hx;let#[k,hk]:=(pl x).mp hx;have:=(ì hk).1;rw[š] at this;lia
  .intro i g x hg hx;have hx:(è (·.1)).toArray[i]?=↑x:=hx;have hg:(Â9 Å0)[i]?=↑g:=hg;rw[List.getElem?_toArray,AQ] at hx;rw[Dz,AQ,AQ] at hg;let#[p,p1,p2]:=ļ hx;rw[p1] at hg;simp![Option.map_some,Option.some.injEq] at hg;let#[j,k]:=p;cases p2;have hm:=(qB š).mp (B6 p1);have hk:=L.below č hm;let#[q,q1,q2]:=L.nW _ k g hm (by rw[<- hg];simp[hk]);exact#[q,q1,λ q' hq=>?_];change _∈ Ľ;rw[Dz];show (pl _).mpr (q2 q' hq)
)
example:=`(
example À:=s.heap.objs.size
example Á _:=x prog w
example Ē:=Value
example Ö:=Array (Int× Ē)
example ģ:=SetTable
example Â{es:Ö}{ep:Nat}{t:ģ}:=0
example Ð:=.ref
example É0:=(Ð z)
example Ă:=(Ac ?_)
example ŷ:=if_true
example é:=false
example Ų:=Str.ofString "__next__"
example Ã:=by exact MX (zaR (zaG (name:=Ų) hT F.slot_zip_next (zaB F.slot_zip_next hT F.entry_zip_next ?_ (F.args_zip_next_1 _))));exact MX (m:=field É0 2) (za5 hz rfl (x:=.bool é) rfl ?_);exact MX (m:=field É0 3) (za5 hz rfl (x:=Ð TI) rfl ?_);exact MX (m:=seqItems? (Ð TI)) (zaC Cu rfl ?_);exact MX (m:=Builtin.SmallTypes.ownedTupleIsFree É0) (MX (m:=field É0 0) (za5 hz rfl (x:=.none) rfl Ă));simp![ŷ]
example ú:=by dsimp only
example İ:=if_neg
example Â9:=Value.ref
example Ä:=by let#[ol,g1,_,n,g2]:=hl;exact MX (zaG (name:=Ų) ht F.slot_tuple_iterator_next (zaB F.slot_tuple_iterator_next ht F.entry_tuple_iterator_next ?_ (F.args_tuple_iterator_next_1 _)));exact MX (m:=field (Ð it) 0) (za5 e1 e3 (x:=Ð l) rfl ?_);ext ú;rw[İ (show ¬ ((Â9 l == Value.none)=true) from BC)];exact MX (m:=field (Ð it) 1) (za5 e1 e3 (x:=.int i 0) rfl ?_)
example Å:=(rk Á).hash
example â:=intKind Á
example Æ:=(â).hash
example É3:=e1.extBut
example ø _:=x _ _
example ĉ:=Ne.symm
example ĭ _:=x (s1.on λ o q=>É3 ø (ĉ n3) q) (h1.on λ o q=>É3 ø a1 q) hx
example Ä1:=wpAny_onRaise
example È9:=IsPair
example á:=Builtin.SmallTypes.nextOf
example Ç:=by exact MX (MX (Ä1 (MX (m:=á (Ð i1)) (draw ĭ λ g2 s12 e2=>Ac ?_))));have to2:È9 g2 TO a b:=e2.extBut ø n8 (É3 ø (ĉ n2) Dn);exact MX (zaC to2 rfl (MX (wpAny_updateSeq_pair to2 λ g3 to3 e3=>MX (wpAny_letGo Ă))))
example È:=w.params.followText "set-order"
example É:=by simp![Bj,Ao,AN,or_false,not_or,Dw,and_true,not_false_eq_true] at nd f1 f2;let#[#[n1,n2,n3,n4],#[n5,n6,n7],#[n8,n9],n10]:=nd;let#[a1,a2,a3,a4,a5]:=f1;let#[b1,b2,b3,b4,b5]:=f2;let#[hz,Cu,#[a,b,Dn],s1,s2]:=S;have hT:s.TypeIs É0 "zip":=#[_,hz,rfl]
example Ê _:=x (model Á) A
example Ë{prog:Program}{w:World}:=0
example Ì:=s.heap
example Í:=List Int
example Ã7:=Value.int
example Î:=insertAt es p (Æ n,Ã7 n tk)
example Ï:=xs.length
example ě:=(·.1)
example Ĭ:=xs.map
example Ñ:=Ĭ ě
example Æ0:=rawInt
example Ò:=by exact MX (zaR (zaG (name:=Ų) (qE ho) pF (zaB pF (qE ho) Yg ?_ (YR _))));exact MX Ă;ext ú;exact MX (wpAny_fieldsOf ho rfl ?_);dsimp only[Æ0];exact MX (MX (zaD S.get rfl S.fits Ă))
example Ó:=insertAt es p (Å key,Â9 b)
example Ç6:=t.plain
example ū:=es.map ě
example Ô:=by let#[t',order,h1,h2,h3,h4,h5,h6,h7]:=Zl hM t.finger (t.movedTo M) t.led Ç6 (ū) (by rw[AL];lia);rw[AL] at h6;have Ax:∀ k∈order.toList,k<Ï:=λ k hk=>by exists h6.mem_iff.mp hk
example Ł _:=x z TI TO .ellipsis
example Õ:=by unfold pyNext;ext Ã;exact MX (zaI (MX (za5 hz rfl (x:=Ð TO) rfl (MX (zaP hz #[] λ g1 Iq e1=>?_)))));replace Iq:IsZip g1 Ł:=Iq;exact MX ?_;simp![List.zipIdx_cons,List.zipIdx_nil,Di,DF]
example Ţ:=h'.get?
example ô:=s.heap.get?
example Ø:=ô b=↑o->Ţ b=↑o
example Ù:=(tu ts).bind λ rs=>if rs.length<64/\∀ r∈rs,r≠[] then ↑(.lst ((L4.yd (wB rs)).map zh)) else none
example î:=wpAny
example Ú:=by exact MX ?_;change î ø (forIn items ø) ø s;rw[<- Array.forIn_toList];exact wpAny_forIn_list _ (λ FJ r s'=>r.1=none/\s'=s/\∀ v∈FJ,∃ n t,v=.int n t) _ ?_ ?_ ø #[rfl,rfl,items_int hi]
example Û:=es.size
example Ü:=Shared->Prop
example Ý:=s.heap.push
example Þ:=(upd H l (.ext (ST.yQ w l us)))
example ß:=order.filterMap (es[·]?)
example Ç9:=.type
example ù:=Ç9 "set"
example Ŷ:=.set es ep t
example ŕ:=h.get?
example à:=ŕ a=↑{ cls:=ù,dict:=none,data:=Ŷ }
example ã:=λ e=>(Æ e.1,Ã7 e.1 e.2)
example ä:=by unfold SetTable.tooFull at this;rw[HG,Cw] at this;exists this
example Ė(ha:PD X a ta) (hb:PD X b tb):=0
example å(ho:yp X (compareOp op) r) (GG:yp X (compareOp Ia) r') (hr:xt X.K f r) (IA:xt X.K g r') (hf:xx f) (hg:xx g) Ė (hc:PD X c tc):=0
example æ:=[z,TI,TO,i1,i2]
example ç(hh:A.handled=none):=0
example è _:=x (by rw[typeLookup_type,builtinLookup_eq_fast];kernel_rfl) (AM) (AM) (AM) (by first | show .inl (AM) | show .inr (AM)) (by rw[isSubtype_type];kernel_rfl)
example ê:=t.mask
example ë _:=x k1 k2 Ì l1 l2
example É2:=e3.extBut
example ì:=by have up:∀ c o,c≠z->c≠i1->c≠TO->ô c=↑o->g3.get? c=↑o:=λ c o c1 c2 c3 q=>É2 ø c3 (e2.extBut ø c2 (É3 ø c1 q))
example í:=Heap.SameBut.update
example ï:=by .rintro⟨r1,r2⟩ s' ⟨hr,rfl,_⟩;simp only at hr;subst hr;show Ac h
example Ņ:=Around.under_plainId
example Ŋ:=codeAny_builtin
example ð:=by exact Ŋ F.entry_set_update_loop ?_;rw[Ņ F.plain_set_update_loop _];change î _ A.in1 (pyNext (Ð I) >>= _) ø s
example ñ _:=x z TI TO i1 i2 l1 l2
example ò:=order.toList.filterMap λ k=>xs[k]?
example ľ:=Ç9 "StopIteration"
example ó(hx:xs[i]?=none) (hE:∀ h' e,Heap.ExtBut it Ì h'->(∃ o,Ţ e=↑o/\o.cls=ľ)->E (Ð e) { s with heap:=h' }):=0
example õ _:=x a es ep
example ö:=MX (m:=firstArgMember ø) (wpAny_of_eq (a:=Value.none) (by first | rfl | (simp![firstArgMember];rfl)) (zaA ?_ (by size_fits)))
example û:=by exact (FV.map _).nodup_iff.mpr ?_;rw[B2,List.nodup_append];exact#[BM,#[],λ x hx y hy=>?_];simp at hy;subst hy;show λ e=>hm (e▸hx)
example ü:=h _ H (by simp![zj,cond]) (.refl H) h3
example ý:=by let#[h',g',d',ID,os']:=s';obtain rfl:g'=s.gens:=hm.gens;obtain rfl:d'=s.drawn:=hm.drawn;obtain rfl:os'=s.os:=hm.os
example þ _:=x (prog:=prog) (w:=w)
example Ÿ:=(Ð À)
example Ç8:=∀ b o,b<À->Ø
example ÿ:=(Ç8)->Q Ÿ { s with heap:=h',toks:=tk }
example Ā{a:Addr}:=0
example ā:=(Å key)
example ă:=PyProof.Rows
example Ą:=by have ht:=hit.typeIs;let#[oi,e1,e2,e3]:=id hit;ext Ä;ext ú;exact MX (m:=seqItems? (Ð l)) (zaC g1 g2 ?_);simp![BW,hx]
example Ŭ:=AW _ rfl
example ą _:=x _ [] ⋯ (A_ _) #[#[_,Ŭ,rfl,rfl],HW.push _] ?_ ?_ #[λ e he=>(by cases he),λ j r hj=>⋯] ?_
example Ć:=Â9 e.2
example ć:=Ĭ λ e=>Å e.1
example Ň(h:Heap):=0
example Ĉ(k1 k2:Bool) Ň (l1 l2:Addr):=0
example Ċ:=IsTupleKey
example ċ:=ps.map (·.2)
example ų(w:World):=0
example Č(prog:Program) ų:=0
example č{s:Shared}:=0
example Ķ:=by kernel_rfl
example Ď _:=x (o:=['r','o','t','a','r','e','t','i','_','t','e','s']) (Ķ) au
example ď:=.Subscript o i pos'
example Đ:=List (Í ×Addr)
example đ:=by have:=congrArg List.length X.es;exists this
example ē(S:wY w Ì õ t):=0
example Ĕ:=ŕ b=↑o->Ţ b=↑o
example ĕ:=by simp![C1,Bd,if_false]
example ė:=(s1.trans s2).trans s3
example Ę _:=x Q E s
example ę _:=x hf hg ha.mo hb.mo hc.mo
example Ě _:=x (s2.on λ o q=>up _ o (ĉ n4) (ĉ n10) (ĉ n9) q) (h2.on λ o q=>up _ o b1 b4 b3 q) hy
example É4{i:Nat}:=0
example Ĝ{it l:Addr}É4:=0
example ĝ:=List (Í)
example Ğ:=(∀ c o,c∉ æ->ô c=↑o->Ţ c=↑o)
example ğ:=by have FV:(ò).Perm xs:=(h6.filterMap _).trans (by rw[List.filterMap_getElem?_range_length])
example Ġ:=#[.inl rfl,rfl,rfl,.nil,λ j hj=>(by cases hj),λ i g j hg=>(by cases hg)]
example Á1(h1:SQ Ì k1 l1 xs) (h2:SQ Ì k2 l2 ys):=0
example ġ(D:sd ñ) (S:At Ì k1 k2 ñ .none n) Á1:=0
example Ģ:=by repeat (any_goals (first | assumption | wp_step))
example Ĥ:=comes w õ
example ĥ:=λ e=>Æ e.1
example Ħ:=by let#[#[slot,h1,h2],S]:=st
example ħ:=Heap.SameBut
example ķ:=t.place
example Ĩ:=∃ (i:Nat) (e:Í ×Addr),ķ[i]?=↑(way ê ā m).j/\xs[i]?=↑e/\e.1≠key
example ĩ:=by intro FH s σ H x y v u Q I rx ry h;let#[c,d,rfl,rfl,q]:=h;cases rx;cases ry
example Ī:=g5.objs.size
example ī{Q:Bool->Ü}:=0
example Į:=List (κ × β)
example į:=by simp![Ao,AN,or_false,not_or] at hc
example ı:=t.place.toList
example Ĳ:=FV.length_eq
example ĳ:=Heap.size_push
example Ĵ{k1 k2:Bool}{z TI TO i1 i2 l1 l2:Addr}:=0
example ĵ:=by simp![Bd,if_false]
example ĸ:=(Ý L0).objs.size
example Ĺ:=(e1.trans e2).trans e3
example Ã4:=sizeLine
example ĺ:=by have:Ã4=16777216:=rfl
example Ļ _:=x val Aa ks
example ļ(hm:lastMarks [op,Ia] [b,c]=é:=by with_unfolding_all rfl):=0
example Ľ:=î Ê (á (Ð it)) Ę
example Ŀ:=wpAny_storeSet_of ho rfl ?_ BE
example ũ:=(wL w)
example ŀ:=(Ý ũ).objs.size
example ł:=g5.push { cls:=Ç9 "tuple",data:=.seq [x,y].toArray }
example Ń:=by rintro v FJ r s' ⟨hr,rfl,Ay⟩
example ń:=xs.take p++xs.drop p
example ņ:=Aa[i]?=↑v
example ň(hit:s.heap.IsTupleIter it l i) (hl:s.heap.IsTuple l xs):=0
example ŉ:=by rw[Array.toList_filterMap,List.map_filterMap];congr 1;funext k
example ŋ:=MX (zaD S.get rfl S.fits ?_)
example Ō{h:Heap}:=0
example ō:=List (Int×Tok)
example Ŏ:=by have hT:=hk.typeIs;let#[o,items,n,ho,_,hd,hi]:=hk
example ŏ:=by .simp![zj] at h2;exact .inr #[h2,?_];rw[Zs h1];show ü
example Ő:=t.place.size
example ő:=key∈ Ñ/\Gb=xs\/key∉ Ñ/\Gb.Perm (xs++[(key,b)])
example Œ:=î Ê (call (ù) [Ð l]) Ę
example œ(hf:xx f) (hg:xx g) (ha:y9 ta) (hb:y9 tb) (hc:y9 tc):=0
example Ŕ:=Around
example Ŗ:=Obj.putSet
example ŗ:=[].toArray
example Ř:=by have hlen:Û=Ï:=by have:=congrArg List.length he;exists this
example ř:=by exact MX (wpAny_handled ?_);rw[show A.in1.handled=none from hh]
example Ś:=PySem.SetTable
example ś:=v1::v2::FJ
example Ŝ:=by generalize hT:(t.put j)=P at *;let#[t1,p]:=P;dsimp only at *
example ŝ(h':Heap) (tk:Nat):=0
example Ş(hM:vE M) (hw:sizeAbove wanted=M+1) (AX:Ï*5<M*3):=0
example ş:=MX (zaD ho rfl X.fits ?_)
example Š:=Ĭ λ e=>(V.ref e.2,e.1)
example Ç3{k:Bool}:=0
example š Ç3{l:Addr}{xs:Ar}:=0
example ţ:=(sR f g ta tb tc)
example Ť:=by rw[Af] at p1;have C6:(t.put j).1.plain=true:=by rw[p2];show Al
example Ç1(a:Addr):=0
example ť Ç1 (es:Ö) (ep:Nat):=0
example Ŧ{h h':Heap}:=0
example ŧ{Q:Option Ē->Ü}:=0
example Ũ:=SetTable.fill
example Ū _:=x ø hc.2.2.2.2 (up c o hc.1 hc.2.2.2.1 hc.2.2.1 q)
example ŭ:=t.place.getD i 0
example Ů:=(Cl.of (λ _=>nofun) wK)
example ů:=e5.extBut
example Ű(i:Nat):=0
example ű:=by .simp![zj] at h1 h2;show .inl #[_,_,h1,h2,ü]
example Ŵ(hl:s.heap.IsList l Aa\/s.heap.IsTuple l Aa):=0
example ŵ:=λ u hu=>Ay u (AD _ hu)
example Ź:=Aa.size
example ź:=È=é->slot=slotAt t i
example Ż:=(Ĥ).toList.map (·.2)
example ż:=PySem.Spec
example Ž:=(rJ k1 l1)
example ž:=(oq ë).get?
example ſ{es:Ö}{t:ģ}{xs:Đ}(X:qb þ h es t xs):=0
example À0{Q:Ag}:=0
example À1(hg:Gl X x) (hd:(x == ("__debug__":Str))=é):=0
example À2 _:=x k1 k2 h l1 l2
example À3:=(i+1)
example À4:=∃ c d,x=.bl c/\y=.bl d/\Q (.bl (c == d)) H
example À5:=u _ (p1 ø rfl)
example À6:=by simp[G_,Dy,CS]
example À7 _:=x ø n4 (É2 ø n2 (e2.extBut ø n3 Iq))
example À8:=∃ c d,x=.bl c/\y=.bl d/\Q (.bl (c != d)) H
example À9 _:=x (A:=A.in1.in1.in1) (by simp[hh]) _ l hneI Aa
example Á0:=es.toList.findIdx? (λ e=>(â).is n e.2)
example Á2:=#[es,ep,t,ho,X,BU,Al,AX]
example Á3:=by rcases X.tab.mask with e | e | e <;> lia
example Á4:=by have Ax:(t.put j).1.led=led:=by rw[p2];show BU
example Á5(hit:SI Ì k it l i) (hl:SQ Ì k l xs):=0
example Á6:=(.ext (yQ X.w l us))
example Á7:=pR (iG hg hm r hd) λ _=>by simp![zj]
example Á8(val:κ->β->Ē) (Aa:Ar) (ks:List κ):=0
example Á9:=t.fits Û=true
example Â0:=t.relaid (ū) wanted=↑(t',order)
example Â1:=(way ê h K).j
example Â2:=T->T->Option T
example Â3:=by have:=(mX w õ).length_eq
example Â4:=(sb.2 c (λ z=>hc (z▸Aw))).trans e
example Â5 _:=x a (Ð b) ā true fuel
example Â6:=(.Compare a [op,Ia] [b,c] pos)
example Â7:=by rcases Ao.mp hm with q | q
example Â8(l:Addr) (us:Ad) (ps:List (V× Í)):=0
example Ã0:=es.toList
example Ã1:=(Å e.1,Ć)
example Ã2:=t.led=led/\Ç6=true/\Ï*5<ê*3
example Ã3:=setSearchFrom
example Ã5:=maxHeartbeats
example Ã6:=plainId_quiet
example Ã8:=(Obj.mapSeq (·.push Value.none))
example Ã9:=.fields [Ð l,.int 0 0].toArray
example Ä0:=ħ it Ì h'->Q x { s with heap:=h' }
example Ä2(hu:A.units<cLine):=0
example Ä3:=by unfold SetTable.relaid;rw[hw,EL];show h1
example Ä4{E:Ag}:=0
example Ä5{f g:yR}{r r':R2}:=0
example Ä6 _:=x (aD.or aC) xV.fits xV.mo ha hb (tE _)
example Ä7:=(((í ..).extBut.push _).push _)
example Ä8:=by rw[e] at this;show this.trans (EK ø).symm
example Ä9:=by rw[Iw];simp![CN,CG,Bd,if_false]
example Å0:=(Ñ).Nodup
example Å1:=#[λ e he=>?_,λ j r hj C4=>?_]
example Å2:=#[o,f o ho,r]
example Å3:=(kO ë).objs.size
example Å4:=by rw[AQ] at hg;let#[e,e1,e2]:=AU.mp hg
example Å5{led:Bool}:=0
example Å6:=by have HW:G_.length=Ï+1:=by rw[Ĳ];simp
example Å7(ho:ô I=↑(rH a slot i n ep)):=0
example Å8:=if_pos
example Å9:=setAddHashed
example Æ1:=slotAt t À3
example Æ2:=(.bl (cond neg (c != d) (c == d)))
example Æ3:=∃ k c,v=Ð c/\Ċ (â) Ì k c
example Æ4:=#[[ù,a],[]]
example Æ5:=wpAny_isInstance
example Æ6:=by exact MX (zaD ho hd X.fits ?_);ext ú
example Æ7:=by simp![Ao,AN,or_false,not_or]
example Æ8:=by have AL:(ū).size=Ï:=by rw[CT,hlen]
example Æ9:=by unfold Ũ;rw[p3.rR,p3.len];simp;lia
example Ç0:=.builtin
example Ç2:=by let#[u,rfl,ru]:=vals1 r;cases ru
example Ç4:=(Ð a)
example Ç5:=unsupported
example Ç7:=A4.mp q
example È0:=by have Cw:(t.put j).1.mask=ê:=by rw[p2]
example È1:=List Addr
example È2:=wY w h õ t
example È3:=#[_,Ŭ,rfl]
example È4:=Builtin.List.listLengthHint
example È5:=Builtin.List.listExtendWith
example È6:=FI.length
example È7:=ps.map ě
example È8:=h.objs.size
example É1:=e4.extBut
example É5{t:ģ}{hs:Í}(T:Tab t hs):=0
section
variable {Ë}{A:Ŕ}{Ä4}{č}
abbrev rk Č:HeapKind Á (Í):=tupleKind (â)
def items_int {ks:Í}{vs:Ad}(h:ItemsAre (â) ks vs):∀ v∈vs,∃ n t,v=.int n t:=by
 induction h with
 | nil=>intro v hv;cases hv
 | cons h1 _ ih=>
  intro v hv;rcases Ao.mp hv with rfl | hv
  .let#[t,e]:=Value.isInt_shape h1;show#[_,t,e]
  .show ih v hv
def aP {ks:Í}Ā ī(hk:Ċ (â) Ì ks a) (h:Q é s):î Ê (ofAClassStatement 8 Ç4) Ę:=by
 ext Ŏ;unfold ofAClassStatement;exact MX (zaK hT ?_);change î ø (pure true >>= _) ø s;exact MX Ă;ext ĕ;exact MX (zaC ho hd ?_);ext ú;ext Ú
 .ext Ń;let#[m,t,rfl]:=Ay v Aw;change î ø (pure é >>= _) ø _;exact MX Ă;ext ĵ;show Ac #[rfl,rfl,ŵ]
 ext ï
def MQ {ks:Í}Ā ī(hk:Ċ (â) Ì ks a) (h:Q true s):î Ê (hashByValue 8 Ç4) Ę:=by
 ext Ŏ;unfold hashByValue;exact MX (wpAny_specialOf hT F.slot_tuple_hash.lookup ?_);ext ú;exact MX (zaC ho hd ?_);ext Ú
 .ext Ń;let#[m,t,rfl]:=Ay v Aw;change î ø (pure true >>= _) ø _;exact MX Ă;ext ĕ;show Ac #[rfl,rfl,ŵ]
 ext ï
def WX {ks:Í}{b:Addr}ī(hk:Ċ (â) Ì ks b) (l:Ad) (hl:∀ v∈l,Æ3) (h:Q é s):
  î Ê (searchCouldBeSeen (Ð b) l) Ę:=by
 unfold searchCouldBeSeen;exact MX ?_;exact wpAny_forIn_list _ (λ FJ r s'=>r.1=none/\s'=s/\∀ v∈FJ,Æ3) _ ?_ ?_ ø #[rfl,rfl,hl]
 .ext Ń;let#[k,c,rfl,hc]:=Ay v Aw;have rest':∀ u∈FJ,∃ k c,u=Â9 c/\Ċ (â) s'.heap k c:=ŵ;ext ú;by_cases e:(b == c||(carriedByValue (Ð b)&&carriedByValue (Ð c)))=true
  .rw[Å8 e];show Ac #[rfl,rfl,rest']
  .rw[İ e];exact MX ((rk Á).quiet hk ?_);ext ĕ;exact MX ((rk Á).quiet hc ?_);ext ĕ;exact MX (aP hk ?_);ext ĵ;exact MX (aP hc ?_);ext ĵ;show Ac #[rfl,rfl,rest']
 ext ï
structure qb Ň (es:Ö) (t:ģ) (xs:Đ):Prop where
 es:Ã0=Ĭ λ e=>Ã1
 is:∀ e∈xs,Ċ (â) h e.1 e.2
 tab:Tab t (ć)
 gG:Ï<=ê
theorem qb.fits Ō ſ:Á9:=by
 have hl:Û=Ï:=đ
 have h1:=X.tab.len;rw[Af] at h1;have h2:=X.gG;unfold SetTable.fits Ũ;rw[X.tab.rR,hl,h1];simp;lia
def qb.at Ō ſ É4{e:Í ×Addr}(he:xs[i]?=↑e):es[i]?=↑ Ã1:=by
 rw[<- BK,X.es,AQ,he];rfl
theorem bf Ā{o:Obj}Â{xs:Đ}{key:Í}{b:Addr}{Q:SetFound->Ü}
  Ä2 (ho:ô a=↑o) (hd:o.data=Ŷ) (X:qb þ Ì es t xs) (hb:Ċ (â) Ì key b)
  (h1:key∈ Ñ->Q (.there none) s) (h2:key∉ Ñ->∀ j,eK t ā j->Q (.free j é) s):
  ∀ (fuel k:Nat) (Ie:Option Probe),Ie.getD (t.probeStart ā)=way ê ā k->(∀ m<k,Ĩ)->(∃ K,k<=K/\K<k+fuel/\K<10*(ê+15)/\(way ê ā K).j∉ ı/\∀ m<K,(way ê ā m).j∈ ı)->
   î Ê (Ã3 Â5 Ie) Ę
 | 0,k,Ie,_,_,#[K,q1,q2,_]=>⋯
 | fuel+1,k,Ie,AR,hpast,#[K,q1,q2,q3,q4,q5]=>by
  have T:=X.tab;have Fh:t.gaveWay=é:=by
   unfold SetTable.gaveWay;rcases T.mask with e | e | e <;> rw[e] <;> rfl
  unfold Ã3;ext Æ6;rw[Fh];ext ĵ;have hA:∀ Ű g,(ć)[i]?=↑g->((es[i]?).map ě).getD 0=g:=λ i g hg=>by
   ext Å4;rw[X.at e1];show e2
  let#[k1,g1,g2,g3]:=ZN T (hashAt:=λ i=>((es[i]?).map ě).getD 0) hA ā (10*turns ê) k #[K,q1,by unfold turns;lia,q4];rw[AR];have look:∀ Ű g,(ć)[i]?=↑g->∃ e,xs[i]?=↑e/\Å e.1=g:=λ i g hg=>by
   ext Å4;show#[e,e1,e2]
  have HL:∀ m<k1,Ĩ:=λ m hm=>by
   rcases BO m k with c | c
   .show hpast m c
   .let#[i,g,p1,p2,p3]:=g2 m c hm;let#[e,e1,e2]:=look i g p2;show#[i,e,p1,e1,λ q=>p3 (by rw[<- e2,q])]
  rcases g3 with ⟨n1,n2⟩ | ⟨i,n1,n2,n3⟩
  .have n2':t.probe _ ā (way ê ā k)=_:=n2;simp![SetTable.probe] at n2' ⊢
   erw [n2]
   ext ú;exact Ac (h2 (λ hm=>?_) _ #[n1,k1,rfl,λ m hm=>?_])
   .let#[e,he,ek]:=Av.mp hm;let#[i,hi]:=EM.mp he;have hh:(ć)[i]?=↑ ā:=by rw[AQ,hi,<- ek];rfl
    have CA:i<Ő:=by rw[T.len];show (AY.mp hh).1
    let#[kk,w1,w2]:=T.nW i ø hh (Bf CA);rcases Eg kk k1 with c | c | c
    .let#[i',e',p1,p2,p3]:=HL kk c;rw[w1] at p1;have:i=i':=by
      rw[<- below_at T.wM (Bf CA),<- below_at T.wM p1]
     subst this;rw[hi] at p2;cases p2;show p3 ek
    .subst c;rw[w1] at n1;show n1 #[]
    .show n1 (w2 k1 c)
   .let#[i',e',p1,_]:=HL m hm;show B6 (by rw[BK];show p1)
  .simp![SetTable.probe]
   erw [n3]
   ext ú;let#[e,e1,e2]:=look i _ n2;have Dr:=X.at e1;have hey:=X.is e (B6 e1);have main:î Ê (holding [Ć] (eqBool (Ð e.2) (Ð b)) >>= λ equal=>setState a >>= λ x=>match x with
     | (G1,_,t')=>if (true&&equal)=true then pure (SetFound.there none) else
      match t'.sameMemory t.moves ê with
      | some same=>
       have jp:=λ Hg=>match Hg with
        | none=>do
         rule "set.search.anew"
         Ã3 Â5 none
        | some i'=>if equal=true then pure (SetFound.there ↑i') else Ã3 Â5 ↑(way ê ā (k1+1))
       match if same=true then t'.slot (way ê ā k1).j else Slot.empty with
       | .live i'=>match G1[i']? with
        | some (_,y')=>do
         let r <- isSame y' (Ð e.2)
         let Hg <- pure (if r=true then ↑i' else none)
         jp Hg
        | none=>do
         let Hg <- pure none
         jp Hg
       | _=>do
        let Hg <- pure none
        jp Hg
      | _=>Ç5 "set.changed-during-lookup:is-the-new-block-at-the-old-address") Ę:=by
    exact MX (za7 ((rk Á).eqBool hu hey hb ?_));ext Æ6;by_cases hk:e.1=key
    .rw[tp hk];simp![Ek,ŷ];show Ac (h1 (Av.mpr #[e,B6 e1,hk]))
    .rw[tx hk];simp![CG,Bd,if_false];have sm:t.sameMemory t.moves ê=↑true:=by unfold SetTable.sameMemory;simp
     rw[sm];ext ú;rw[Å8 rfl,T.live n1];ext ú;rw[Dr];ext ú;exact MX (wpAny_isSame_ref_self ?_);exact MX Ă;rw[Å8 rfl];ext ú;have hKk:k1<K:=by
      rcases Eg K k1 with c | c | c
      .let#[i',e',p1,_]:=HL K c;show absurd (B6 (by rw[BK];show p1)) q4
      .subst c;show absurd (B6 (by rw[BK];show n1)) q4
      .show c
     exact bf hu ho hd X hb h1 h2 fuel (k1+1) _ rfl (λ m hm=>?_) #[K,⋯,⋯,q3,q4,q5];rcases BO m k1 with c | c
     .show HL m c
     .have:m=k1:=⋯;subst this;show#[i,e,n1,e1,hk]
   rw[Dr];by_cases hl:t.led=true
   .rw[hl];ext ĕ;show main
   .have Il:t.led=é:=by exists hl
    rw[Il];simp![CN,ŷ];exact MX (WX hb _ (λ v hv=>?_) ?_)
    .let#[p,hp,rfl]:=Av.mp hv;rw[Array.toList_filter,C0,X.es] at hp;let#[#[e',he',rfl],_]:=(And.intro (Av.mp hp.1) hp.2)
     show#[e'.1,e'.2,rfl,X.is e' he']
    .ext ĵ;show main
structure rV Č Ň Ç1 (xs:Đ) (led:Bool):Prop where
 ex:∃ es ep t,à/\qb þ h es t xs/\Ã2
 nd:Å0
def jT Ŧ{ks:Í}{b a:Addr}Â{c:Ē}{d:Option Addr}{sl:Array (Option Ē)}(x:Ċ (â) h ks b) (ho:ŕ a=↑{ cls:=c,dict:=d,data:=Ŷ,slots:=sl }) (hs:ħ a h h'):Ċ (â) h' ks b:=by
 let#[o',items,n,GG,hc,hd',hi]:=x;have AA:b≠a:=by
  rintro rfl;obtain rfl:o'=_:=Bm (GG.symm.trans ho);cases hd'
 show#[o',items,n,(hs.2 b AA).trans GG,hc,hd',hi]
theorem kj Ō Ā{es G1:Ö}{ep:Nat}{t t':ģ}(ho:à):(h.update a (Ŗ G1 t')).get? a=↑{ cls:=ù,dict:=none,data:=.set G1 (ep+1) t' }:=by
 have e:Ŗ G1 t' { cls:=ù,dict:=none,data:=Ŷ }={ cls:=ù,dict:=none,data:=.set G1 (ep+1) t' }:=putSet_of G1 t' rfl;have:=za8 (Ŗ G1 t') ho (by rw[e];rfl);rw[e] at this;show this
theorem iE {α β:Type}(l:List α) (f:α->β) (d:β):∀ (order:List Nat),(∀ k∈order,k<l.length)->order.map (λ k=>(l.map f).getD k d)=(order.filterMap λ k=>l[k]?).map f
 | [],_=>rfl
 | k::order,h=>by
  have hk:=h k Aw;have ih:=iE l f d order λ j hj=>h j (AD _ hj);rw[AJ,DL,AF hk];ext ú;rw[AJ,ih];congr 1;simp[hk]
def Uu Ā Â{xs:Đ}Å5{wanted M:Nat}{Q:Unit->Ü}
  (ho:ô a=↑{ cls:=ù,dict:=none,data:=Ŷ }) (X:qb þ Ì es t xs) (BU:t.led=led) (Al:Ç6=true) Ş (BM:Å0)
  (h:∀ h' Gb,ħ a Ì h'->rV Á h' a Gb led->Gb.Perm xs->Q Unit.unit { s with heap:=h' }):î Ê (setRelay a wanted) Ę:=by
 have hlen:Û=Ï:=đ
 have Fu:(ū).toList=ć:=by rw[Array.toList_map,X.es,AI];rfl
 ext Æ8
 ext Ô
 unfold setRelay;exact ş;ext ú;rw[İ (by rw[hw];rcases hM with e | e | e <;> rw[e] <;> decide)];have hr:Â0:=by
  ext Ä3
 rw[hr];have Ck:(ß).toList=(ò).map λ e=>Ã1:=by
  ext ŉ;rw[<- BK,X.es,AQ]
 ext ğ;have Cb:(ß).size=Û:=by
  rw[<- Bw,Ck,Af,Ĳ,hlen]
 exact MX (m:=_) ?_;change î ø (do
  let ↑(t,order):=↑(t',order) | Ç5 "internal:set-table-without-room"
  let G1:=ß
  if G1.size != Û then Ç5 "internal:set-table-lost-an-element"
  pure (G1,t)) ø _
 ext ú;rw[İ (by rw[Cb];simp)];exact Ac ?_;have BE:(ß).size<=Ã4:=by
  rw[Cb,hlen];ext ĺ;rcases hM with e | e | e <;> subst e <;> lia
 exact Ŀ;have sb:=í Ì a (Ŗ (ß) t');exact h ø sb #[#[_,ep+1,t',kj ho,#[Ck,λ e he=>jT (X.is e (FV.mem_iff.mp he)) ho sb,?_,?_],by rw[h4];show BU,by rw[h5];show Al,?_],(FV.map _).nodup_iff.mpr BM] FV
 .rw[<- iE xs (λ e=>Å e.1) 0 order.toList Ax,<- Fu];show h7
 .rw[Ĳ,h2];lia
 .rw[Ĳ,h2];show AX
theorem cZ (n:Nat) (M:Nat) (hM:vE M) (h1:n*5<M*3) (h2:M*3<=(n+1)*5) (hn:n<70):∃ M',vE M'/\sizeAbove (grown (n+1))=M' + 1/\(n+1)*5<M'*3:=by
 rcases hM with e | e | e <;> subst e
 .have:n=4:=⋯;subst this;show#[31,.inr (.inl rfl),AM,⋯]
 .have:n=18:=⋯;subst this;show#[127,.inr (.inr rfl),AM,⋯]
 .lia
def K_ Ā{xs:Đ}{key:Í}{b:Addr}Å5 ī Ä2 (S:rV Á Ì a xs led) (hb:Ċ (â) Ì key b) (hn:Ï<70)
  (h:∀ h' Gb r,ħ a Ì h'->rV Á h' a Gb led->(ő)->Q r { s with heap:=h' }):
  î Ê (Å9 a (Ð b) ā) Ę:=by
 let#[Á2,BM]:=S;have hlen:Û=Ï:=đ
 unfold Å9 setAddHashedIn;exact za7 (ş);ext ú;rw[İ (by simp[byScan,Value.scannable])];let#[K,k1,k2,k3]:=X.tab.first (by rw[Af];show X.gG) ā;have hmk:ê<=127:=Á3
 exact MX ?_;unfold setSearch;exact bf (key:=key) (b:=b) hu ho rfl X hb (λ hm=>?_) (λ hm j F=>?_) 100000 0 none rfl (λ m hm=>⋯) #[K,⋯,⋯,k1,k2,k3]
 .ext ú;exact Ac ?_;have:=h Ì xs é #[rfl,λ _ _=>rfl] #[Á2,BM] (.inl #[hm,rfl]);show this
 .ext ú;exact ş;ext ú;let#[p1,p2,p3]:=X.tab.put F;ext Ť
  ext È0
  ext Á4
  ext Ŝ;rw[C6];simp![ŷ];exact MX (MQ hb ?_);simp![ŷ];let G_:=xs.take p++(key,b)::xs.drop p
  have FV:G_.Perm (xs++[(key,b)]):=by
   have e:ń=xs:=ES p xs;have:G_.Perm ((key,b)::(ń)):=List.perm_middle;ext Ä8
  ext Å6
  have Iy:(Ó).toList=G_.map λ e=>Ã1:=by
   rw[toList_insertAt,X.es];ext À6
  have IM:(Ó).size=Ï+1:=by rw[<- Bw,Iy,Af,HW]
  have BE:(Ó).size<=Ã4:=by
   rw[IM];ext ĺ;lia
  exact MX (Ŀ);have sb:=í Ì a (Ŗ (Ó) t1);have ho1:=kj (G1:=Ó) (t':=t1) ho;have hm7:7<=ê:=Á3
  have X1:qb þ (s.heap.update a (Ŗ (Ó) t1)) (Ó) t1 G_:=by
   exact#[Iy,λ e he=>?_,?_,by rw[HW,Cw];lia]
   .rcases Bb.mp (FV.mem_iff.mp he) with q | q
    .show jT (X.is e q) ho sb
    .cases Ç7;show jT hb ho sb
   .have:G_.map (λ e=>Å e.1)=(ć).take p++Å key::(ć).drop p:=by ext À6
    rw[this];show p3
  have IU:(G_.map ě).Nodup:=by
   ext û
  by_cases hf:t1.tooFull=true
  .rw[hf];simp![CN,Ek,ŷ];have HG:t1.fill=Ï+1:=by
    ext Æ9
   have Hr:ê*3<=(Ï+1)*5:=by
    have:=hf;ext ä
   let#[M',g1,g2,g3]:=cZ Ï ê X.tab.mask AX Hr hn;rw[hlen];exact MX (Uu (led:=led) ho1 X1 Ax C6 g1 g2 (by rw[HW];show g3) IU λ h' Gb sb' S' pm=>?_);exact Ac ?_;show h h' Gb true (sb.trans sb') S' (.inr #[hm,pm.trans FV])
  .have Iw:t1.tooFull=é:=by exists hf
   ext Ä9;exact Ac ?_;have HG:t1.fill=Ï+1:=by
    ext Æ9
   have Hr:(Ï+1)*5<ê*3:=by
    have:=Iw;ext ä
   show h _ G_ true sb #[#[_,ep+1,t1,ho1,X1,Ax,C6,by rw[HW,Cw];show Hr],IU] (.inr #[hm,FV])
end
def sJ ų:Bool:=! È
def wL ų:Obj:={ cls:=ù,dict:=none,data:=.set ŗ 0 (.fresh 0 0 (sJ w)) }
section
variable {Ë}{A:Ŕ}{Ä4}{č}
set_option Ã5 3200000 in
def Ko (a:Ē) À0(h:Q Ÿ { s with heap:=Ý ũ }):
  codeAny Ê (.call (Ç0 "set.__new__") Æ4) (wants Q E) s:=by
 exact codeAny_of_tree ?_;change î _ A.in1 (checkBuiltinCall "set.__new__" Æ4 >>= λ _=>again (Ç0 "set.__new__" Æ4)) ø s;exact MX (wpAny_of_eq (F.newCall_set_1 a) (Ac #[Ã6 F.plain_set_new _,Ŋ F.entry_set_new ?_]));rw[Ņ F.plain_set_new _];unfold Builtin.«set.__new__» Builtin.Frozenset.newClass newSet setsByText;have sub:=sub_set_self;let#[hp,g,d,tk,os]:=s;ext ú
 wp_walk
 exact zaS Ă;ext ú;simp![newObj];show MX (wpAny_alloc (Ac (Ac h)))
def Ub Ō Ā(ho:ŕ a=↑ ũ):rV Á h a [] (sJ w):=
 #[#[ŗ,0,_,ho,#[rfl,λ e he=>(by cases he),Ġ,#[]],rfl,rfl,by change 0*5<7*3;lia],.nil]
end
end ST
namespace ST
open PySem Ś ă
section
variable {κ β:Type}[DecidableEq κ]{val:κ->β->Ē}{Aa:Ar}{ks:List κ}{É4}{xs Gb:Į}
structure Up Á8 Ű (xs:Į):Prop where
 own:∀ e∈xs,∃ j,j<i/\Aa[j]?=↑(val e.1 e.2)/\ks[j]?=↑e.1
 all:∀ (j:Nat) r,j<i->ks[j]?=↑r->r∈ Ñ
theorem kz:∀ (l m:List κ),l.Nodup->(∀ x∈l,x∈m)->l.length<=m.length
 | [],m,_,_=>A_ _
 | x::l,m,hn,hs=>by
  have h1:=Bj.mp hn;have hx:=hs x Aw;have:=kz l (m.erase x) h1.2 λ z hz=>(List.mem_erase_of_ne (λ e:z=x=>h1.1 (by rw[<- e];show hz))).mpr (hs z (AD _ hz));rw[List.length_erase_of_mem hx] at this;have:=List.length_pos_of_mem hx;simp![Be];lia
def Up.len (U:Up Ļ i xs) (nd:Å0):Ï<=i:=by
 have:=kz (Ĭ λ e=>↑e.1) ((List.range i).map λ j=>ks[j]?) (by
  have:(Ĭ λ e=>↑e.1)=(Ñ).map some:=by rw[AI];rfl
  rw[this];show List.Pairwise.map _ (λ a b h e=>h (Bm e)) nd) λ x hx=>by
  let#[e,he,rfl]:=Av.mp hx;let#[j,h1,_,h3]:=U.own e he;show Av.mpr #[j,AO.mpr h1,h3]
 exists this
def Up.step {key:κ}{b:β}(U:Up Ļ i xs) (hi:Aa[i]?=↑(val key b)) (hr:ks[i]?=↑key)
  (h:ő):Up Ļ À3 Gb:=by
 have eqi:∀ j:Nat,j<i+1->¬ j<i->j=i:=λ j a b=>⋯;rcases h with ⟨hm,rfl⟩ | ⟨_,hp⟩
 .exact Å1
  .let#[j,h1,h2]:=U.own e he;show#[j,CQ h1,h2]
  .by_cases q:j<i
   .show U.all j r q C4
   .rw[eqi j hj q,hr] at C4;cases C4;show hm
 .exact Å1
  .rcases Bb.mp (hp.mem_iff.mp he) with q | q
   .let#[j,h1,h2]:=U.own e q;show#[j,CQ h1,h2]
   .cases Ç7;show#[i,CZ i,hi,hr]
  .rw[(hp.map ě).mem_iff,B2];by_cases q:j<i
   .show CW _ (U.all j r q C4)
   .rw[eqi j hj q,hr] at C4;cases C4;show A8 _ Aw
structure Kd Č (A:Ŕ) Á8 (Sa:Addr) (wr:È1) (Se:Heap->Į->Prop) (Tp:Heap->Prop):Prop where
 nd:∀ {h xs},Se h xs->Å0
 keep:∀ {h h' xs i},(∀ b o,b∉wr->Ĕ)->Up Ļ i xs->Se h xs->Se h' xs
 kG:∀ {h h'},(∀ b o,b∉Sa::wr->Ĕ)->Tp h->Tp h'
 add:∀ č{xs:Į}É4{v:Ē}ī Ä4,Tp Ì->Se Ì xs->Ï<70->ņ->
  (∀ h' tk Gb rr k b,v=val k b->ks[i]?=↑k->ħ Sa Ì h'->s.toks<=tk->Se h' Gb->(k∈ Ñ/\Gb=xs\/k∉ Ñ/\Gb.Perm (xs++[(k,b)]))->Q rr { s with heap:=h',toks:=tk })->
  î Ê (setAdd Sa v) Ę
variable {Ë}{A:Ŕ}{R:Result->Ü}{I:Addr}{fp wr:È1}{G:Array GenState->Array GenState->Prop}{n:Nat}{P:Nat->Ē->Prop}{St:Nat->Ü}{Sa:Addr}{Se:Heap->Į->Prop}{Tp:Heap->Prop}
def rC (W:WalksS Á A.in1 I fp wr G n (λ i v=>P i v) St) (D:Kd Á A.in1 Ļ Sa wr Se Tp) (hSf:Sa∉fp) (hP:∀ i v,P i v->ņ) (hn:n<70):
  ∀ (k i:Nat) (s:Shared) (xs:Į),n-i=k->i<=n->St i s->Se Ì xs->Tp Ì->Up Ļ i xs->
   (∀ s' Gb,Moved (Sa::wr) G s s'->Se s'.heap Gb->Up Ļ n Gb->R (.ok (.ret .none)) s')->
   codeAny Ê (Ç0 "set.update.loop" #[[Ð Sa,Ð I],[]]) R s:=by
 have more:∀ b∈wr,b∈Sa::wr:=λ b hb=>AD _ hb;intro k
 induction k with
 | zero=>
  intro i s xs hk hi AR hS hT hU hR;have e:i=n:=⋯;subst e;ext ð;show MX (W.done s ø AR λ s' hm=>Ac (hR s' xs (hm.mono more) (D.keep hm.heap hU hS) hU))
 | succ k ih=>
  intro i s xs hk hi AR hS hT hU hR;have Ax:i<n:=⋯;ext ð;exact MX (W.item i s ø Ax AR λ v s1 hPv hst1 hm=>?_);have hv:=hP i v hPv;have T1:=D.kG (λ b o hb e=>hm.heap b o (λ z=>hb (more _ z)) e) hT;have hl:Ï<70:=by have:=hU.len (D.nd hS);lia
  change î _ A.in1 (holding [v] (setAdd Sa v) >>= _) ø s1;exact MX (za7 (D.add T1 (D.keep hm.heap hU hS) hl hv λ h' tk Gb rr key b ev hr sb ht S' hx=>?_));subst ev;have fr:=W.frame À3 s1 h' tk hst1 ht λ c hc o e=>(sb.2 c (λ z:c=Sa=>hSf (z▸hc))).trans e;exact Ac #[Ã6 F.plain_set_update_loop _,ih À3 _ Gb ⋯ Ax fr S' (D.kG (λ c o hc e=>Â4) T1) (hU.step hv hr hx) λ s2 xs2 Iv S2 U2=>?_];exact hR s2 xs2 (Moved.trans W.gtrans ((hm.mono more).then_heap ht λ c o hc e=>?_) Iv) S2 U2;show Â4
end
section
variable {Ë}{A:Ŕ}{Aa:Ar}{FI:ĝ}{Sa:Addr}{wr:È1}
def oP Č Ň (Aa:Ar) (FI:ĝ):Prop:=∀ Ű v,ņ->∃ b r,v=Ð b/\FI[i]?=↑r/\Ċ (â) h r b
def oP.at Ŧ(T:oP Á h Aa FI) (k:∀ Ű b,Aa[i]?=↑(Ð b)->∀ o,Ĕ):oP Á h' Aa FI:=λ i v hv=>by
 let#[b,r,rfl,h1,o,items,m,h2,h3]:=T i v hv;show#[b,r,rfl,h1,o,items,m,k i b hv o h2,h3]
abbrev cw:Í->Addr->Ē:=λ _ b=>Ð b
def Mv Å5(hSw:Sa∉wr) Ä2 (DV:∀ Ű b,Aa[i]?=↑(Ð b)->b∉Sa::wr):Kd Á A cw Aa FI Sa wr (λ h xs=>rV Á h Sa xs led) (λ h=>oP Á h Aa FI) where
 nd:=λ S=>S.nd
 keep:=λ{h h' xs i} k U S=>by
  let#[#[es,ep,t,ho,X,r],nd]:=S;exact#[#[es,ep,t,k Sa _ hSw ho,#[X.es,λ e he=>?_,X.tab,X.gG],r],nd];let#[o,items,m,g1,g2]:=X.is e he;let#[j,_,h2,_]:=U.own e he;show#[o,items,m,k ø (λ z=>DV j e.2 h2 (AD _ z)) g1,g2]
 kG:=λ k T=>T.at λ i b hi o e=>k b o (DV i b hi) e
 add:=λ{s xs i v Q E} T S hl hv hQ=>by
  let#[b,r,rfl,hr,hb]:=T i v hv;unfold setAdd;exact za7 (MX ((rk Á).pyHash (k:=r) (a:=b) (A:=A) hu hb ?_));show K_ (s:={ s with toks:=s.toks+(rk Á).draws r }) (A:=A) hu S hb hl λ h' Gb rr sb S' hx=>hQ h' _ Gb rr r b rfl hr sb (Df ø) S' hx
end
section
variable {Ë}{A:Ŕ}{Ä4}{č}
set_option Ã5 6400000 in
def Y9 {κ β:Type} [DecidableEq κ] {val:κ->β->Ē}{ks:List κ}{Se:Heap->Į->Prop}{Tp:Heap->Prop}{l:Addr}{Aa:Ar}À0 ç Ŵ (hn:Ź<70)
  (D:Kd Á A.in1.in1.in1 Ļ À [À+1] Se Tp) (hS0:∀ h,ŕ À=↑ ũ->Se h []) (hT0:∀ h,(∀ b o,ô b=↑o->ŕ b=↑o)->Tp h)
  (h:∀ ŝ xs,Se h' xs->Up Ļ Ź xs->ÿ):
  Œ:=by
 let#[c,tl,hmro]:=F.called_set.mro;have made:=F.called_set.made;have subm:=F.called_set.sub;exact wpAny_call (codeAny_of_tree ?_);change î ø (callAny (ù) _) ø _;exact Ac #[Code.quiet_builtin _ (AM),Ŋ F.entry_type_call ?_];rw[Around.under_plain (weight_type_call_type "set" [Ð l] []) rfl];have nt:=F.called_set.notType;have cc:=F.called_set.canCreate;have tc:=F.typeCall_set_1 (Ð l)
 ext Ģ
 exact codeAny_mono (Ko (Ð l) (E:=E) (Q:=λ obj s₁=>obj=Ð À/\s₁={ s with heap:=Ý ũ }) #[rfl,rfl]) λ r s₁ hr=>?_;cases r with
 | error e=>show hr
 | ok fl=>
  cases fl with
  | ret obj=>
   let#[rfl,rfl]:=hr;have hS:(Ý ũ).get? À=↑ ũ:=Ŭ;have hTy:Shared.TypeIs { s with heap:=Ý ũ } Ÿ "set":=#[_,hS,rfl];have li:=F.called_set.init.lookup;have bi:=F.called_set.init.bind Ÿ
   ext Ģ
   let s1:Shared:={ s with heap:=Ý ũ }
   exact codeAny_mono (codeAny_call_builtin (R:=wants (λ r s₂=>r=.none/\∃ h' tk xs,s₂={ s with heap:=h',toks:=tk }/\Se h' xs/\Up Ļ Ź xs/\
     Ç8) E) F.called_set.init.plain F.entry_set_init (check_set_init_1 hTy ?_)) λ r₂ s₂ hr₂=>?_
   .have AL:ŀ=À+1:=ĳ ø;have szne:À ≠ ŀ:=by rw[AL];show AB (CZ _)
    have low:∀ b:Addr,b<À->b≠ ŀ:=λ b hb=>by rw[AL];show AB (CQ hb)
    rw[<- AL] at D;rcases hl with hl | hl
    all_goals
     let#[#[ocls,odict,odata,oslots],DU,Dd,nl,hdl]:=id hl;simp only at Dd hdl;subst Dd hdl;have hol1:=gV ũ DU;have sls:=F.sub_list_set;have slf:=F.sub_list_frozenset;have Hz:=F.sub_tuple_set;have stf:=F.sub_tuple_frozenset;have nd:(Value.type "list" == Value.type "dict")=é:=()
     have nd':(Value.type "tuple" == Value.type "dict")=é:=()
     have hlS:l<À:=An DU;have hneI:l≠ ŀ:=low l hlS;have HW:=hl.push ũ;unfold Builtin.«set.__init__» noKeywords Builtin.Frozenset.updateFrom;generalize hPI:pyIter=PI;unfold wL at *
     wp_walk
     subst hPI
     first | exact wpAny_pyIter_list HW (MX (wpAny_runValue ?_)) | exact wpAny_pyIter_tuple HW (MX (wpAny_runValue ?_))
     first
      | exact rC (A:=A.in1.in1) (P:=λ i v=>ņ) ((Walks.list À9).toS) D ?_ (λ _ _ q=>q) hn Ź 0 ą
      | exact rC (A:=A.in1.in1) (P:=λ i v=>ņ) ((Walks.tuple À9).toS) D ?_ (λ _ _ q=>q) hn Ź 0 ą
     .intro hm;ext Â7
      .show szne q
      .show BB hlS (Ç7)
     .show hS0 _ (gV _ hS)
     .show hT0 _ λ b o e=>gV _ (gV _ e)
     .intro s' Gb hm S' U';ext ý;exact Ac (Ac #[rfl,h',ID,Gb,rfl,S',U',λ b o hb e=>?_]);exact hm.heap b o (λ q=>?_) (gV _ (gV _ e));rcases Ao.mp q with q | q
      .show AB hb q
      .show low b hb (Ç7)
   .cases r₂ with
    | error e=>show hr₂
    | ok fl₂=>
     cases fl₂ with
     | ret r=>
      let#[rfl,h',tk,xs,rfl,g1,g2,g3]:=hr₂
      ext Ģ
      show h h' tk xs g1 g2 g3
     | _=>show hr₂.elim
  | _=>show hr.elim
def Kw {l:Addr}{Aa:Ar}{FI:ĝ}À0 ç (hu:A.units+64<cLine) Ŵ (hT:oP Á Ì Aa FI) (hn:Ź<70)
  (h:∀ ŝ xs,rV Á h' À xs (sJ w)->Up cw Aa FI Ź xs->ÿ):
  Œ:=by
 exact Y9 hh hl hn (Mv #[] (show A.units+1+1+1<cLine by lia) λ i b hb hm=>?_) (λ h e=>Ub e) (λ h k=>hT.at λ i b _ o e=>k b o e) h;let#[b',r,e,_,o,_,_,ho,_]:=hT i _ hb;cases e;have:=An ho;ext Â7
 .show AB this q
 .show AB (CQ this) (Ç7)
end
end ST
namespace ST
open PySem Ś
section facts
def au:Manifest.owners.lookup (String.ofList ['r','o','t','a','r','e','t','i','_','t','e','s'].reverse)=↑Manifest.sig_set_iterator:=Ķ
def pF:Slot "set_iterator" "__next__" "set_iterator.__next__":=
 .of (owner:="set_iterator") (n:="__next__") è
def Yg:entryFor table "set_iterator.__next__"=↑Builtin.«set_iterator.__next__»:=entryFor_of_tree (Ķ)
theorem YR (a:Ē):argsOk "set_iterator.__next__" #[[a],[]]:=by
 unfold argsOk;rw[signature?_of (id:="set_iterator.__next__") (n:=['_','_','t','x','e','n','_','_']) Ď]
 kernel_rfl
def LS:entryFor table "set.__iter__"=↑Builtin.«frozenset.__iter__»:=entryFor_alias (id':="frozenset.__iter__") (Ķ) rfl (AM) (Ķ)
def cY:Slot "set_iterator" "__iter__" "set_iterator.__iter__":=
 .of (owner:="set_iterator") (n:="__iter__") è
def LR:entryFor table "set_iterator.__iter__"=↑Builtin.«dict_keyiterator.__iter__»:=entryFor_alias (id':="dict_keyiterator.__iter__") (Ķ) rfl (AM) (Ķ)
theorem KS (a:Ē):argsOk "set_iterator.__iter__" #[[a],[]]:=by
 unfold argsOk;rw[signature?_of (id:="set_iterator.__iter__") (n:=['_','_','r','e','t','i','_','_']) Ď]
 kernel_rfl
end facts
theorem gL {α:Type}:∀ (l:List α) Ű (x:α),l[i]?=↑x->l.Perm (x::l.eraseIdx i)
 | [],i,x,h=>by simp at h
 | y::l,0,x,h=>by simp at h;subst h;simp
 | y::l,i+1,x,h=>by
  have ih:=gL l i x (by exists h);rw[Dx];show (ih.cons y).trans (.swap x y _)
theorem aa {α:Type}(next:Nat->Nat):∀ (f k:Nat) (left:List α) (out:Array α),left.length=f->(pickOrder.go next f k left out).toList.Perm (out.toList++left)
 | 0,k,left,out,h=>by
  cases left with
  | nil=>unfold pickOrder.go;simp
  | cons _ _=>simp at h
 | f+1,k,left,out,h=>by
  unfold pickOrder.go;have Ax:next k%left.length<left.length:=DA _ ⋯;rw[AF Ax];ext ú;exact (aa next f (k+1) ø (by rw[EJ Ax];lia)).trans ?_;rw[Array.toList_push,DM];show (gL left ø (AF Ax)).symm.append_left _
theorem UX {α:Type}(next:Nat->Nat) (xs:Array α):(pickOrder next xs).toList.Perm xs.toList:=by
 unfold pickOrder;exists aa next xs.size 0 xs.toList ŗ #[]
def comes ų ť:Ö:=if È=true then pickOrder (w.params.setOrder a ep) es else es
def mX ų ť:(Ĥ).toList.Perm Ã0:=by
 unfold comes;split
 .show UX ø
 .show .refl _
def rH Ç1 (slot i n ep:Nat):Obj:={ cls:=Ç9 "set_iterator",data:=.fields [Æ0 slot,Æ0 i,Ð a,Æ0 n,Æ0 ep].toArray }
def slotAt (t:ģ):Nat->Nat
 | 0=>0
 | i+1=>ŭ+1
theorem KL {t:ģ}(hr:uV ı):∀ i,i<=Ő->below ķ (slotAt t i)=i
 | 0,_=>by
  let#[h1,h2,h3]:=ji (xs:=ķ) (j:=0) hr;rcases ET (below ķ 0) with q | q
  .show q
  .have:=h2 0 ⋯ q;lia
 | i+1,hi=>by
  have hd:ŭ=ķ[i]:=gu ⋯;change below ķ (ŭ+1)=i+1;rw[hd];let#[h1,h2,h3]:=ji (xs:=ķ) (j:=ķ[i] + 1) hr;have wM:∀ a b (ha:a<Ő) (hb:b<Ő),a<b->ķ[a]<ķ[b]:=λ a b ha hb Bx=>by
   have r:=CH.mp hr a b (by exists ha) (by exists hb) Bx;rw[CF,CF] at r;show r
  rcases Eg (below ķ (ķ[i] + 1)) À3 with q | q | q
  .have:=h3 i ⋯ ⋯;lia
  .show q
  .have a:=h2 À3 ⋯ q;have b:=wM i À3 ⋯ ⋯ ⋯;lia
structure wY ų Ň ť (t:ģ):Prop where
 get:à
 fits:Á9
 wM:uV ı
 led:t.led=sJ w
 plain:Ç6=true
theorem wY.size {w:World}Ō Ā Â(S:È2):Ő=Û:=by
 have:=S.fits;simp![SetTable.fits,AK,beq_iff_eq] at this;show this.1
section
variable {Ë}{A:Ŕ}{Ä4}{č}
def aR Ā Â É4{Q:Option (Ē ×Nat)->Ü}ē (hi:i<=Û) (slot:Nat) (hs:ź)
  (h:∀ Gv,(È=é->Gv=Æ1)->Q ((Ĥ)[i]?.map λ e=>(e.2,Gv)) s):î Ê (setNext a slot i ep) Ę:=by
 unfold setNext setsByText;exact ŋ;ext ú;exact MX (MX (zaS Ă));change î _ A (if È=true then _ else _) Ę;cases hb:È with
 | true=>
  rw[Å8 rfl,İ #[]];unfold setWalk setsByText;exact MX (ŋ);ext ú;exact MX (MX (zaS Ă));change î _ A (if È=true then _ else _) _ E s;rw[Å8 hb];exact MX (zaS Ă);exact Ac ?_;have:=h slot (λ q=>by rw[hb] at q;cases q);unfold comes at this;rw[Å8 hb] at this;show this
 | é=>
  rw[İ #[]];split
  .rename_i hd;have hd':(! Ç6&&decide (Û>1))=true:=hd;rw[S.plain] at hd';simp at hd'
  .change î _ A ((if (!t.led&&!es.isEmpty)=true then Ç5 "set:maker-not-led" else pure Unit.unit) >>= _) Ę;have hl:t.led=true:=by rw[S.led];unfold sJ;rw[hb];rfl
   rw[İ (by rw[hl];simp)];exact MX (Ac Ă);have BE:=hs hb;have hz:=S.size;rw[BE,KL S.wM i (by rw[hz];show hi)];have:=h (Æ1) (λ _=>rfl);unfold comes at this;rw[İ (by rw[hb];simp)] at this;rcases BO i Û with q | q
   .have hp:i<Ő:=by rw[hz];show q
    rw[Bf q] at this;rw[Bf q,Bf hp];have e:Æ1=ķ[i] + 1:=by change ŭ+1=_;rw[gu hp]
    rw[e] at this;show this
   .rw[Dg q] at this;rw[Dg q];show this
def qE {a I:Addr}{slot i n ep:Nat}Å7:s.TypeIs (Ð I) "set_iterator":=#[_,ho,rfl]
def cJ (k:Nat):((k:Int)).toNat=k:=BW k
def VY {I a:Addr}Â{i slot:Nat}{e:Int× Ē}ŧ(ho:ô I=↑(rH a slot i Û ep)) ē (hs:ź) (he:(Ĥ)[i]?=↑e)
  (hi:i<Û) (h:∀ h' Gv,(È=é->Gv=Æ1)->Ţ I=↑(rH a Gv À3 Û ep)->ħ I Ì h'->Q ↑e.2 { s with heap:=h' }):î Ê (pyNext (Ð I)) Ę:=by
 unfold pyNext;ext Ò;rw[İ #[]];exact MX (aR S ⋯ slot hs λ Gv hs'=>?_);rw[cJ] at hs' ⊢;rw[he];dsimp only[Option.map_some];exact MX (zaF ho rfl #[] ?_);have o1:=za8 (Obj.mapFields (·.set! 0 (Ã7 (Gv:Int) 0))) ho rfl;exact MX (zaF o1 rfl #[] ?_);have o2:=za8 (Obj.mapFields (·.set! 1 (Ã7 ((i:Int)+1) 0))) o1 rfl;exact Ac #[_,rfl,Ac (h _ Gv hs' o2 ((í ..).trans (í ..)))]
def VZ {I a:Addr}Â{slot:Nat}ŧ ç (ho:ô I=↑(rH a slot Û Û ep)) ē (hs:È=é->slot=slotAt t Û)
  (h:∀ h',Heap.ExtBut I Ì h'->Q none { s with heap:=h' }):î Ê (pyNext (Ð I)) Ę:=by
 have hn:(Ĥ)[Û]?=none:=by
  ext Â3;simp![Bw] at this;rw[Dg ⋯]
 unfold pyNext;ext Ò;rw[İ #[]];exact MX (aR S #[] slot (by exists hs) λ Gv hs'=>?_);rw[cJ,hn];dsimp only[Option.map_none];exact MX (zaF ho rfl #[] ?_);exact MX ?_;simp![newExc,newTuple];exact MX (zaA ?_ (by size_fits));exact ö;unfold raiseNew;ext ř;exact MX ((Ac (wpAny_throw ?_)));exact MX ((Æ5 (T:="StopIteration") (b:=true) È3 isSubtype_stop ?_));show Ac (h _ Ä7)
def VX {I a:Addr}{slot i n ep:Nat}À0 Å7 (h:Q (Ð I) s):î Ê (pyIter (Ð I)) Ę:=by
 exact wpAny_pyIter_slot (qE ho) cY (zaB cY (qE ho) LR ?_ (KS _));show Ac #[_,rfl,"set_iterator",_,qE ho,pF.lookup,h]
def wY.keep Ŧ Ā Â(S:È2) (k:∀ o,ŕ a=↑o->Ţ a=↑o):wY w h' õ t:=#[k _ S.get,S.fits,S.wM,S.led,S.plain]
def WQ ç (I a:Addr) (AA:a≠I) (es:Ö) (ep:Nat) (t:ģ):
  Walks Á A I [I,a] [I] Û (λ i v=>∃ e,(Ĥ)[i]?=↑e/\v=e.2) (λ i h=>(∃ slot,(ź)/\ŕ I=↑(rH a slot i Û ep))/\È2) where
 sub:=λ b hb=>by simp at hb;simp[hb]
 frame:=λ _ _ _ st k=>by
  ext Ħ;show#[#[slot,h1,k I #[] _ h2],S.keep λ o e=>k a #[] o e]
 item:=λ i s Q E hi st hQ=>by
  ext Ħ;have hl:i<(Ĥ).size:=by
   ext Â3;simp![Bw] at this;lia
  exact VY h2 S h1 (Bf hl) hi λ h' Gv g1 g2 g3=>?_;show hQ _ h' s.toks #[_,Bf hl,rfl] #[#[Gv,g1,g2],S.keep λ o e=>(g3.2 a AA).trans e] λ b o hb e=>(g3.2 b (λ z=>hb (by simp[z]))).trans e
 done:=λ s Q E st hQ=>by
  ext Ħ;show VZ hh h2 S h1 λ h' g=>hQ h' s.toks λ b o hb e=>g b o (λ z=>hb (by simp[z])) e
 self:=λ _ _ _ _ st hQ=>by
  ext Ħ;show VX h2 hQ
def NT:typeLookup (ù) "__len__"=pure ↑(Ç0 "set.__len__"):=F.slot_set_len.lookup
def split_len:splitId "set.__len__"=↑("set","__len__"):=by decide +kernel
def Nu Ā Â ī ē (h:Q é s):î Ê (setDrawn a) Ę:=by
 unfold setDrawn setsByText;exact ŋ;ext ú;exact MX (MX (zaS (Ac Ă)));change Q (! È&&(! Ç6&&decide (Û>1))) s;rw[S.plain];exists h
set_option Ã5 4000000 in
theorem N0 Ā Â ī ē (h:Q é s):î Ê (È4 Ç4) Ę:=by
 have Ty:s.TypeIs Ç4 "set":=#[_,S.get,rfl];unfold È4;exact MX (wpAny_specialOf Ty NT ?_);ext ú;rw[split_len];ext ú;exact MX (Æ5 (b:=true) Ty sub_set_self ?_);rw[İ ()];rw[Å8 (AM)];exact MX (zaK Ty ?_);show Ac h
set_option Ã5 4000000 in
def Kl Ā Â{Q:List Ē->Ü}ç ē (hn:Û<=Ã4)
  (h:∀ ŝ,(Ç8)->À<=h'.objs.size->Q (Ż) { s with heap:=h',toks:=tk }):î Ê (collect Ç4) Ę:=by
 have ha:a<À:=An S.get;unfold collect;exact MX (wpAny_runValue (Ŋ F.entry_proto_collect ?_));rw[Ņ F.plain_proto_collect _];change î _ A.in1 (newList [] >>= λ l=>again (Ç0 "list.__iadd__" #[[l,Ð a],[]])) ø s;exact MX (zaA (Ac #[Ã6 F.plain_list_iadd _,Ŋ F.entry_list_iadd ?_]));rw[Ņ F.plain_list_iadd _];let L0:Obj:={ cls:=Ç9 "list",data:=.seq ([]:Ad).toArray }
 have S1:wY w (Ý L0) õ t:=S.keep λ o e=>gV _ e;have T1:Shared.TypeIs { s with heap:=Ý L0 } Ç4 "set":=#[_,S1.get,rfl];change î _ A.in1 (È5 Ÿ Ç4 Ÿ) ø { s with heap:=Ý L0 };unfold È5;exact MX (zaK T1 ?_);have AA:À ≠a:=BB ha;have c1:Builtin.List.listSameRef Ÿ Ç4=é:=by simp[Builtin.List.listSameRef,AA]
 rw[İ (by rw[c1];decide)];exact MX (wpAny_pyIter_slot T1 F.slot_set_iter (zaB F.slot_set_iter T1 LS ?_ (F.args_set_iter_1 _)));exact MX (MX (Ac Ă));exact MX (MX (MX (zaD S1.get rfl S1.fits (Ac Ă))));exact MX (Nu S1 ?_);rw[İ ()];exact MX Ă;exact MX (wpAny_setEpoch_of S1.get rfl S1.fits ?_);exact MX (zaA (Ac #[_,rfl,"set_iterator",_,È3,pF.lookup,?_]));let I:=ĸ
 let h2:=(Ý L0).push (rH a 0 0 Û ep)
 have S2:wY w h2 õ t:=S1.keep λ o e=>gV _ e;have hI:h2.get? I=↑(rH a 0 0 Û ep):=Ŭ;have hL:h2.get? À=↑L0:=gV _ (Ŭ);have AL:ĸ=À+1:=ĳ ø;change î _ A.in1 ø _ { s with heap:=h2 };exact MX (za7 (N0 (s:={ s with heap:=h2 }) S2 ?_));rw[Å8 (AM)];exact MX (zaI ?_);exact MX ?_;change î _ A.in1 (updateSeq À (·.push .none) >>= λ _=>updateSeq À (·.pop)) ø { s with heap:=h2 };exact MX (zaT hL rfl ?_);have hL2:=za8 Ã8 hL rfl;exact zaT hL2 rfl ?_;have hL3:=za8 (Obj.mapSeq (·.pop)) hL2 rfl;let h3:=(h2.update À Ã8).update À (Obj.mapSeq (·.pop))
 have IJ:∀ b o,b≠ À->h2.get? b=↑o->h3.get? b=↑o:=λ b o hb e=>(za9 ø (ĉ hb)).trans ((za9 ø (ĉ hb)).trans e);have haI:a≠I:=by change a≠ ĸ;rw[AL];show AB (CQ ha)
 have hIn:I≠ À:=by change ĸ ≠_;rw[AL];show BB (CZ _)
 exact Ac #[Ã6 F.plain_extend_loop _,codeAny_extend_loopS ((WQ (A:=A.in1) hh I a haI es ep t).toS) hn À ?_ _ Û 0 { s with heap:=h3 } ŗ _ rfl (A_ _) #[#[0,λ _=>rfl,IJ I _ hIn hI],S2.keep λ o e=>IJ a o (ĉ AA) e] hL3 (ItemsOf.nil _) λ s' acc c' hm hS' A7=>?_]
 .intro hm;ext Â7
  .show hIn q.symm
  .show AA (Ç7)
 .exact MX (wpAny_load hS' Ă);ext ý;have hcm:(Ĥ).size=Û:=by
   ext Â3;exists this
  have e:acc.toList=Ż:=by
   exact List.ext_getElem? λ j=>?_;rw[AQ];rcases BO j Û with q | q
   .have DZ:j<acc.size:=by rw[A7.1];show q
    have hj:acc[j]?=↑acc[j]:=Bf DZ;let#[e,e1,e2]:=A7.2 j _ hj;rw[BK,BK,hj,e1,e2];rfl
   .rw[BK,BK,Dg (by rw[A7.1];show q),Dg (by rw[hcm];show q)];rfl
  rw[e];exact h h' ID (λ b o hb e=>hm.heap b o (λ q=>?_) (IJ b o (AB hb) (gV _ (gV _ e)))) ?_
  .rcases Ao.mp q with q | q
   .show AB hb q
   .have q':b=ĸ:=Ç7;rw[AL] at q';show AB (CQ hb) q'
  .show Bl (An hS')
end
end ST
namespace ST
open PySem Ś ă L4
section
variable {Ë}{A:Ŕ}{Ä4}{č}
def Y2 Ā Â ç ē (hz:Û<=Ã4) (Q':List Ē->Ü)
  (h:∀ h1 tk,(∀ b o,¬ False->ô b=↑o->h1.get? b=↑o)->À<=h1.objs.size->Q' (Ż) { s with heap:=h1,toks:=tk }):î Ê (collect Ç4) Q' E s:=
 Kl hh S hz λ h1 tk k1 k2=>h h1 tk (λ b o _ q=>k1 b o (An q) q) k2
end
end ST
namespace ST
open PySem Ś ż ă L2
def yQ ų Ç1 (us:Ad):Heap->Prop:=λ h=>∃ es ep t,È2/\es.toList.map (·.2)=us
def yQ.vc {w:World}Ā{us:Ad}{h1 h2:Heap}(S:yQ w a us h1) (k:∀ o,h1.get? a=↑o->h2.get? a=↑o):yQ w a us h2:=by
 let#[es,ep,t,S,e]:=S;show#[es,ep,t,S.keep k,e]
def rV.at Ë Ō Ā{xs:Đ}(S:rV Á h a xs (sJ w)):yQ w a (Ĭ λ e=>Ć) h:=by
 let#[#[es,ep,t,ho,X,h1,h2,h3],_]:=S;show#[es,ep,t,#[ho,X.fits,X.tab.wM,h1,h2],by rw[X.es,AI];rfl]
section
variable {X:Cx}
theorem Zr:∀ {ns:Í}{us:Ad},Vals (ns.map V.int) us->∀ Ë,ItemsAre (â) ns us
 | [],_,.nil,_,_=>.nil
 | n::ns,_,.cons r t,prog,w=>by
  let#[tk,rfl]:=r;show .cons (intKind_is ø ø) (Zr t)
def Ku (hc:X.calm=true) (hu:X.A.units+64<cLine):yS X (ù) (λ xs H Q=>∃ p ys,∃ FI:ĝ,xs=[Ð p]/\(zU X.K H p ys\/yi X.K H p ys)/\L4.oV X.K H ys FI/\È6<64/\
  ∀ Â8,H l=none->Vals (È7) us->(∀ q∈ps,q∈ys.zip FI)->(ċ).Nodup->(∀ r∈FI,r∈ ċ)->Q (Ð l) (upd H l Á6)):=by
 intro FH s σ H xs us Q I r h;let#[p,ys,FI,rfl,hq,hr,GL,q]:=h;ext Ç2;obtain⟨Aa,rv,pl,hz⟩:∃ Aa,Vals ys Aa/\(s.heap.IsList p Aa.toArray\/s.heap.IsTuple p Aa.toArray)/\True:=by
  rcases hq with hq | hq
  .let#[Aa,rv,pl,_]:=I.list hq;show#[Aa,rv,.inl pl.isList,trivial]
  .let#[Aa,rv,pl,_]:=I.tuple hq;show#[Aa,rv,.inr pl,trivial]
 have hl:=rv.length;have Cz:ys.length=È6:=Paired.length hr;have vq:oP X.prog X.w Ì Aa.toArray FI:=λ i v hv=>by
  have hv':ņ:=by exists hv
  have hi:i<Aa.length:=(AY.mp hv').1;let#[AA,b,hb,hsq]:=L4.Paired.at' hr (i:=i) ⋯ V.zm ([]:Í);have hy:ys[i]?=↑(V.ref b):=by
   rw[AF ⋯];have:ys.getD i V.zm=ys[i]'⋯:=by simp[show i<ys.length by lia]
   rw[this] at hb;rw[hb]
  let#[v',e1,e2]:=rv.get hy;rw[hv'] at e1;cases e1;cases (show v=Â9 b from e2);let#[GQ,IE,#[o,e,Dd,n,hd],_]:=I.tuple hsq;exact#[b,FI.getD i [],rfl,?_,o,GQ.toArray,n,e,Dd,hd,by exists Zr IE];simp[show i<È6 by lia]
 have hh:X.A.handled=none:=I.ok.hd hc;exact Kw (A:=X.A) hh hu pl vq (by rw[AG];lia) λ h' tk xs S U k=>?_;have kk:∀ b o,Ø:=λ b o e=>k b o (An e) e;have A6:H À=none:=I.zr.fresh (Am _);have hSO:=S.at;have vals:Vals ((Š).map ě) (Ĭ λ e=>Ć):=by
  clear S U hSO
  induction xs with
  | nil=>show .nil
  | cons e xs ih=>show .cons rfl ih
 have snd:(Š).map (·.2)=Ñ:=by rw[AI];rfl
 exact#[Ð À,_,I.laid (t':=tk) (o:=.ext (yQ X.w À (Ĭ λ e=>Ć))) kk (Am _) ?_,rfl,q ø (Š) A6 vals (λ x hx=>?_) (by rw[snd];show S.nd) λ r IA=>?_]
 .let#[es,ep,t,St,e]:=id hSO;show#[hSO,#[_,St.get],λ h1 h2 S1 k=>S1.vc k]
 .let#[e,he,rfl]:=Av.mp hx;let#[j,j1,j2,j3]:=U.own e he;have HN:Aa[j]?=↑(Ć):=by exists j2
  have DZ:j<ys.length:=by rw[hl];show (AY.mp HN).1
  let#[v',e2,e3]:=rv.get (AF DZ);rw[HN] at e2;cases e2;let#[AA,b,hb,_]:=L4.Paired.at' hr (i:=j) ⋯ V.zm ([]:Í);have:ys.getD j V.zm=ys[j]:=by simp[DZ]
  rw[this] at hb;rw[hb] at e3;cases (show Ć=Â9 b from e3);exact B6 (i:=j) ?_;rw[List.getElem?_zip_eq_some];show#[by rw[AF DZ,hb],j3]
 .rw[snd];let#[j,hj]:=EM.mp IA;show U.all j r (by have:=(AY.mp hj).1;rw[AG];lia) hj
theorem Paired.mk {α β:Type}{F:α->β->Prop}:∀ {l:List α}{m:List β},l.length=m.length->(∀ Ű a b,l[i]?=↑a->m[i]?=↑b->F a b)->Paired F l m
 | [],[],_,_=>.nil
 | a::l,b::m,h,f=>.cons (f 0 a b rfl rfl) (Paired.mk (by exists h) λ i x y hx hy=>f À3 x y (by exists hx) (by exists hy))
 | [],_::_,h,_=>by simp at h
 | _::_,[],h,_=>by simp at h
theorem Ks (hc:X.calm=true):yS X (Ç0 "sorted") (λ xs H Q=>∃ l us vs,∃ rs:ĝ,xs=[Ð l]/\H l=↑ Á6/\Vals vs us/\L4.oV X.K H vs rs/\rs.length<64/\L4.eA (vs.zip rs) H Q):=by
 intro FH s σ H xs us0 Q I r h;let#[l,us,vs,rs,rfl,hl,hv,hr,GL,q]:=h;ext Ç2;obtain⟨⟨es,ep,t,S,eu⟩,-,-⟩:=(show xH X.prog X.w H Ì l Á6 from I.zr l _ hl)
 have hp:((comes X.w l es ep).toList.map (·.2)).Perm us:=by rw[<- eu];show (mX X.w l es ep).map _
 let#[qs,q1,q2]:=L4.Paired.perm hp (L4.VR.of hv hr);have hzl:(vs.zip rs).length<64:=by rw[List.length_zip];lia
 have Dr:Û<=Ã4:=by
  have h1:us.length=(vs.zip rs).length:=Paired.length (L4.VR.of hv hr);have h2:=congrArg List.length eu;rw[Af,Bw] at h2;ext ĺ;lia
 show L4.VN I (λ Q' h=>Y2 (by show I.ok.hd hc) S Dr Q' h) q2 (by rw[q1.length_eq];show hzl) λ p ps hf hp hs=>q p ps hf (hp.trans q1) hs
end
end ST
namespace L5
open PySem ż L2 L3
open ă hiding St
def wB:ĝ->ĝ
 | []=>[]
 | r::rs=>if r∈wB rs then wB rs else r::wB rs
theorem mn {r:Í}:∀ {rs:ĝ},r∈wB rs↔r∈rs
 | []=>.rfl
 | x::rs=>by
  unfold wB;split
  .rename_i h;rw[mn,Ao];show#[.inr,λ h'=>h'.elim (λ e=>e▸mn.mp h) id]
  .rw[Ao,Ao,mn]
theorem kx:∀ rs:ĝ,(wB rs).Nodup
 | []=>.nil
 | x::rs=>by
  unfold wB;split
  .show kx rs
  .rename_i h;show Bj.mpr #[h,kx rs]
theorem iU:∀ rs:ĝ,(wB rs).length<=rs.length
 | []=>Am _
 | x::rs=>by
  unfold wB;have:=iU rs;split <;> simp![Be] <;> lia
def uk:xE:=λ ds S Q=>match ds with
 | [d]=>∃ FI:ĝ,yg d S=↑(FI.map vY)/\È6<64/\(∀ r∈FI,r≠[])/\∀ l,S l=none->Q (Ð l) (ups S l (.lst ((L4.yd (wB FI)).map vY)))
 | _=>False
def nK:Ak
 | [.lst ts]=>Ù
 | [.tup ts]=>Ù
 | _=>none
def ZJ:vn zE nK uk:=λ S Z ys z ds Q hz hv e hq=>by
 have key:∀ y ts,ys=[y]->wo y=↑ts->(Ù)=↑z->uk ds S Q:=λ y ts ey et e'=>by
  subst ey;let#[d,rfl,h1]:=vV hv;let#[rs,e1,e2]:=Ap.mp e';split at e2
  .rename_i hc;cases e2;cases bw e1;let#[es,h2,h3]:=h1.seq et;cases lY.mp h3;show#[rs,h2,hc.1,hc.2,λ l hl=>hq ø (.new hl _) (t8 hz hl (lY.mpr rfl))]
  .cases e2
 unfold nK at e;split at e
 .show key ø rfl rfl e
 .show key ø rfl rfl e
 .cases e
section
variable {K:Ab}{e:Expr}{p:Pos}
def uk.mo:vm uk:=λ ds S Q Q' hq h=>by
 unfold uk at h ⊢;split at h
 .let#[FI,h1,h2,h3,h4]:=h;show#[FI,h1,h2,h3,λ l hl=>hq ø (h4 l hl)]
 .show h.elim
def uk.fits {w:World}:uB K uk (λ xs H Q=>∃ p ys,∃ FI:ĝ,xs=[Ð p]/\(zU K H p ys\/yi K H p ys)/\L4.oV K H ys FI/\È6<64/\
  ∀ Â8,H l=none->Vals (È7) us->(∀ q∈ps,q∈ys.zip FI)->(ċ).Nodup->(∀ r∈FI,r∈ ċ)->
   ∃ l' us' HX,∃ rs':ĝ,[V.ref l]=[Ð l']/\Þ l'=↑(.ext (ST.yQ w l' us'))/\Vals HX us'/\L4.oV K Þ HX rs'/\rs'.length<64/\L4.eA (HX.zip rs') Þ Q):=λ xs ds H S Q h0 h2 h=>by
 unfold uk at h;split at h
 .rename_i d;let#[x,hx,h1]:=h0.one;subst hx;let#[FI,e,GL,AA,h]:=h;obtain⟨a,ys,rfl,g1,g2⟩:∃ a xs,x=Ð a/\(zU K H a xs\/yi K H a xs)/\zo K H (FI.map vY) xs:=by
   by_cases hn:∃ ts,d=.tup ts
   .let#[ts,rfl]:=hn;cases e;simp![zj] at h1;let#[a,xs,q1,q2,q3]:=h1;show#[a,xs,q1,.inr q2,q3]
   .let#[a,ys,q1,q2,q3]:=tj h1 h2 e (λ ts z=>hn #[ts,z]);show#[a,ys,q1,.inl q2,q3]
  exact#[a,ys,FI,rfl,g1,iu g2 AA,GL,λ l us ps hf hv sub nd all=>?_];have mem:∀ r,r∈ ċ ↔r∈FI:=λ r=>#[λ h=>by
   let#[q,hq,rfl]:=Av.mp h;show (DH (sub q hq)).2,all r]
  have x1:Ext H Þ:=.new hf _;have g3:zo K H ((ċ).map vY) (È7):=zo.nX λ q hq=>zo.jJ g2 q (sub q hq);have DT:(ċ).Perm (wB FI):=(Ee nd (kx FI)).mpr λ r=>by rw[mem,mn]
  have EZ:(È7).zip (ċ)=ps:=by rw[List.zip_map',List.map_id''];intro a;rfl
  exact#[l,us,È7,ċ,rfl,yr,hv,iu (zo.ext x1 _ g3) λ r hr=>AA r ((mem r).mp hr),by rw[DT.length_eq];have:=iU FI;lia,λ p qs hp hi hs=>?_];rw[EZ] at hi;have heq:=L4.lW ((hi.map (·.2)).trans DT) hs;have Al:p≠l:=λ z=>by subst z;rw[yr] at hp;cases hp
  have hpH:H p=none:=by rw[zV Al] at hp;show hp
  have x2:Ext Þ (upd Þ p (.lst (qs.map ě))):=.new hp _;have r1:zK K Þ S:=h2.new hf;exact h p (h2.none hpH) ø (by simp![zj]) (x1.trans x2) (r1.ups x2 #[_,yr,?_]);rw[<- heq];show zo.ext (x1.trans x2) _ (zo.nX λ q hq=>zo.jJ g2 q (sub q (hi.mem_iff.mp hq)))
 .show h.elim
end
end L5
namespace ST
open PySem Ś ă
theorem ZO É5 (h:Int):∀ (f k K:Nat),k<=K->K<k+f->Â1 ∉ ı->(∀ m<K,(way ê h m).j∈ ı)->probe.go t (λ _=>h+1) h f (way ê h k)=↑(.empty Â1 none)
 | 0,k,K,h1,h2,_,_=>⋯
 | f+1,k,K,h1,h2,h3,h4=>by
  by_cases e:k=K
  .subst e;unfold probe.go;rw[T.empty h3,jO]
  .let#[i,g,p1,_]:=T.at (h4 k ⋯);have ih:=ZO T h f (k+1) K ⋯ ⋯ h3 h4
   conv=>lhs;unfold probe.go
   rw[T.live p1];ext ú;rw[İ (by intro q;have:=eq_of_beq q;lia),f_];show ih
theorem Lu É5 (hl:hs.length<=ê) (h:Int):∃ j,t.freeSlot h=↑(j,é)/\eK t h j:=by
 let#[K,k1,k2,k3]:=T.first hl h;exact#[Â1,?_,#[k2,K,rfl,k3]];have g:=ZO T h (10*turns ê) 0 K (A_ _) (by unfold turns;lia) k2 k3;unfold SetTable.freeSlot;have e:t.probe (λ _=>h+1) h (t.probeStart h)=↑(.empty Â1 none):=g;rw[e];rfl
structure qP Č Ň Ç1 (xs:ō) (led:Bool):Prop where
 ex:∃ es ep t,à/\Ã0=Ĭ (ã)/\Tab t (Ĭ ĥ)/\Ã2
 nd:Å0
section
variable {Ë}{A:Ŕ}{Ä4}{č}
def fits_of {es:Ö}{t:ģ}{hs:Í}{n:Nat}(h1:Û=n) (T:Tab t hs) (h2:hs.length=n) (h3:n<=ê):Á9:=by
 have l:=T.len;unfold SetTable.fits Ũ;rw[T.rR,h1,l,h2];simp;lia
def m5 {n m:Int}{t:Tok}:(â).is n (.int m t)=true↔n=m:=by
 constructor
 .intro h;let#[t',e]:=Value.isInt_shape (show Value.isInt n (.int m t)=true from h);cases e;rfl
 .rintro rfl;show intKind_is ø ø
def LU {es:Ö}{xs:ō}(h:Ã0=Ĭ (ã)):ElemsOf (â) Ã0:=λ e he=>by
 rw[h] at he;let#[x,_,rfl]:=Av.mp he;show#[#[x.1,m5.mpr rfl,rfl],rfl]
def Uv {es:Ö}{t:ģ}{xs:ō}{M wanted:Nat}(he:Ã0=Ĭ (ã)) Ş:
  ∃ G1 t',∃ Gb:ō,relayAll t es wanted=(G1,t',é)/\G1.toList=Gb.map (ã)/\Gb.Perm xs/\Tab t' (Gb.map ĥ)/\t'.mask=M/\t'.led=t.led/\t'.plain=Ç6/\G1.size=Û:=by
 ext Ř
 have Fu:(ū).toList=Ĭ ĥ:=by rw[Array.toList_map,he,AI];rfl
 ext Æ8
 ext Ô
 have hr:Â0:=by
  ext Ä3
 have Ck:(ß).toList=(ò).map ã:=by
  ext ŉ;rw[<- BK,he,AQ]
 ext ğ;have Cb:(ß).size=Û:=by
  rw[<- Bw,Ck,Af,Ĳ,hlen]
 have hT:Tab t' ((ò).map ĥ):=by
  rw[<- iE xs (ĥ) 0 order.toList Ax,<- Fu];show h7
 exact#[_,t',_,?_,Ck,FV,hT,h2,h4,h5,Cb];have Ke:coversAll order Û=true:=by
  unfold coversAll;rw[List.isPerm_iff,hlen];show h6
 have fit:t'.fits (ß).size=true:=fits_of (n:=Ï) (by rw[Cb,hlen]) hT (by rw[Af,Ĳ]) (by rw[h2];lia);unfold relayAll;rw[hr];ext ú;rw[Ke,fit];rfl
def add_int Ā{xs:ō}{n:Int}{tk:Tok}Å5 ī(S:qP Á Ì a xs led) (hn:Ï<70)
  (h:∀ h' Gb r,ħ a Ì h'->qP Á h' a Gb led->(n∈ Ñ/\Gb=xs\/n∉ Ñ/\Gb.Perm (xs++[(n,tk)]))->Q r { s with heap:=h' }):
  î Ê (Å9 a (.int n tk) (Æ n)) Ę:=by
 have S0:=S;let#[#[es,ep,t,ho,he,T,BU,Al,AX],BM]:=S;ext Ř
 have hm7:7<=ê/\ê<=127:=by rcases T.mask with e | e | e <;> lia
 have fit:Á9:=fits_of (n:=Ï) hlen T #[] ⋯;have hel:=LU þ he;unfold Å9 setAddHashedIn;exact za7 (MX (zaD ho rfl fit ?_));ext ú;have bs:byScan (.int n tk) es=true:=by
  have h1:decide (Û<scanBound)=true:=tp (by unfold scanBound;lia);have h2:es.all (·.2.scannable)=true:=by
   rw[Array.all_eq_true_iff_forall_mem];intro e hm;show (hel e (by exists hm)).2
  unfold byScan;rw[h1,h2];rfl
 rw[Å8 bs];exact MX ?_;unfold setAddByScan;exact MX (zaI (MX (wpAny_setScan_of (k:=n) (m5.mpr rfl) ho rfl fit hel ?_)));have hfind:(Á0).isSome=true↔n∈ Ñ:=by
  rw[he,List.findIdx?_isSome,Cr];constructor
  .rintro⟨e,hm,q⟩;let#[x,hx,rfl]:=Av.mp hm;show Av.mpr #[x,hx,(m5.mp q).symm]
  .intro hm;let#[x,hx,rfl]:=Av.mp hm;show#[_,Av.mpr #[x,hx,rfl],m5.mpr rfl]
 cases hc:Á0 with
 | some j=>
  ext ú;have hm:=hfind.mp (by rw[hc];rfl);exact Ac ?_;ext ú;show Ac (h Ì xs é #[rfl,λ _ _=>rfl] S0 (.inl #[hm,rfl]))
 | none=>
  ext ú;have hm:n∉ Ñ:=λ q=>by have:=hfind.mpr q;rw[hc] at this;cases this
  let#[j,fs,F]:=Lu T (by rw[Af];lia) (Æ n);let#[p1,p2,p3]:=T.put F;ext Ť
  ext È0
  ext Á4
  ext Ŝ;let G_:=xs.take p++(n,tk)::xs.drop p
  have FV:G_.Perm (xs++[(n,tk)]):=by
   have e:ń=xs:=ES p xs;have:G_.Perm ((n,tk)::(ń)):=List.perm_middle;ext Ä8
  ext Å6
  have Iy:(Î).toList=G_.map ã:=by
   rw[toList_insertAt,he];ext À6
  have IM:(Î).size=Ï+1:=by rw[<- Bw,Iy,Af,HW]
  have T1:Tab t1 (G_.map ĥ):=by
   have:G_.map (ĥ)=(Ĭ ĥ).take p++Æ n::(Ĭ ĥ).drop p:=by ext À6
   rw[this];show p3
  have fit1:t1.fits (Î).size=true:=fits_of (n:=Ï+1) IM T1 (by rw[Af,HW]) (by rw[Cw];lia);have DY:layNew t es (Æ n) (.int n tk)=(Î,t1,é,é):=by
   unfold layNew;rw[fs];ext ú;rw[hT];ext ú;unfold SetTable.orStandIn;rw[fit1];rfl
  have BE:(Î).size<=Ã4:=by
   rw[IM];ext ĺ;lia
  have IU:(G_.map ě).Nodup:=by
   ext û
  have ho1:=kj (G1:=Î) (t':=t1) ho;have sb:=í Ì a (Ŗ (Î) t1);have HG:t1.fill=Ï+1:=by
   have l:=T1.len;rw[Af,HW] at l;unfold Ũ;rw[T1.rR,l];simp
  rw[DY];ext ú;exact MX (m:=pure Unit.unit) Ă;rw[C6];simp![ŷ];exact MX (m:=pure true) Ă;simp![ŷ];exact MX (Ŀ);by_cases hf:t1.tooFull=true
  .rw[hf];simp![CN,Ek,ŷ];have Hr:ê*3<=(Ï+1)*5:=by
    have:=hf;ext ä
   let#[M',g1,g2,g3]:=cZ Ï ê T.mask AX Hr hn;let#[es2,t2,xs2,r1,r2,r3,r4,r5,r6,r7,r8]:=Uv þ (t:=t1) Iy g1 (wanted:=grown (Î).size) (by rw[IM];show g2) (by rw[HW];show g3);rw[r1];ext ú;exact MX (m:=pure Unit.unit) (Ac (MX (wpAny_storeSet_of ho1 rfl ?_ (by rw[r8];show BE))));exact Ac ?_;ext ú;exact Ac (h _ xs2 true (sb.trans (í _ a _)) #[#[es2,ep+1+1,t2,kj ho1,r2,r4,by rw[r6];show Ax,by rw[r7];show C6,by rw[r3.length_eq,HW,r5];show g3],(r3.map _).nodup_iff.mpr IU] (.inr #[hm,r3.trans FV]))
  .have Iw:t1.tooFull=é:=by exists hf
   ext Ä9;have Hr:(Ï+1)*5<ê*3:=by
    have:=Iw;ext ä
   exact Ac ?_;ext ú;show Ac (h _ G_ true sb #[#[_,ep+1,t1,ho1,Iy,T1,Ax,C6,by rw[HW,Cw];show Hr],IU] (.inr #[hm,FV]))
end
def Nums (Aa:Ar) (ns:Í):Prop:=∀ Ű v,ņ->∃ n t,v=.int n t/\ns[i]?=↑n
section
variable {Ë}{A:Ŕ}{Ä4}{č}{Aa:Ar}{ns:Í}
def Mw Å5{Sa:Addr}{wr:È1}(hSw:Sa∉wr) (hN:Nums Aa ns):Kd Á A Ã7 Aa ns Sa wr (λ h xs=>qP Á h Sa xs led) (λ _=>True) where
 nd:=λ S=>S.nd
 keep:=λ k _ S=>let #[#[es,ep,t,ho,r],nd]:=S;#[#[es,ep,t,k ø hSw ho,r],nd]
 kG:=λ _ T=>T
 add:=λ{s xs i v Q E} _ S hl hv hQ=>by
  let#[m,t,rfl,hr]:=hN i v hv;unfold setAdd;exact za7 (MX ((â).pyHash (A:=A) (k:=m) (m5.mpr rfl) ?_));show add_int (s:={ s with toks:=s.toks+1 }) (A:=A) S hl λ h' Gb rr sb S' hx=>hQ h' _ Gb rr m t rfl hr sb (Df ø) S' hx
def Uc Ō Ā(ho:ŕ a=↑ ũ):qP Á h a [] (sJ w):=
 #[#[ŗ,0,_,ho,rfl,Ġ,rfl,rfl,by change 0*5<7*3;lia],.nil]
def Kv {l:Addr}À0 ç (hl:s.heap.IsList l Aa) (hT:Nums Aa ns) (hn:Ź<70)
  (h:∀ ŝ xs,qP Á h' À xs (sJ w)->Up Ã7 Aa ns Ź xs->ÿ):
  Œ:=
 Y9 hh (.inl hl) hn (Mw #[] hT) (λ h e=>Uc e) (λ _ _=>trivial) h
end
end ST
namespace L4
open PySem ă
def Kj Ë{A:Ŕ}Ä4 č{vs:Ad}{ns:Í}(hI:IntsAre vs ns) (h2:2<=vs.length) (GL:vs.length<64):
  Core Á A E vs (λ out=>∃ HD,IntsAre out.toList HD/\HD.Perm ns/\HD.Pairwise (·<=·)) s:=by
 obtain⟨v1,v2,FJ,rfl⟩:∃ v1 v2 FJ,vs=ś:=by
  match vs,h2 with
  | ś,_=>show#[v1,v2,FJ,rfl]
 unfold Core;rw[keyKind_ints hI];exact Ac #[rfl,?_];exact za6 (wpS_sortRuns (a₀:=pairsOf (ś)) (st:=SortSt.mk' oneType' ((ś).toArray.zip (ś).toArray) ŗ 7 none)
   (Q:=λ _ HI=>(arrOf HI).Perm (pairsOf (ś))/\failedOf HI=none/\SortedTo (arrOf HI) (pairsOf (ś)).size)
   hI.intKeys #[Array.Perm.refl _,rfl,rfl,rfl] (by rw[pairsOf_size];simp) (by rw[pairsOf_size];show GL) λ HI a1 a2 a3=>#[a1,a2,a3]) ?_ λ _ _ e=>e
 rintro⟨⟨⟩,HI⟩ s' ⟨rfl,hp,hf,hs⟩;show#[rfl,hf,sorted_out hI hp hs,by rw[hp.size_eq,pairsOf_size]]
end L4
namespace L5
open PySem ż L2 L3
open ă hiding St
structure Bq (mg:Au):Prop where
 set:mg "set"=none
 zip:mg "zip"=none
 enumerate:mg "enumerate"=none
section
variable {X:Cx}{K:Ab}{a b c e:Expr}{ta tb tc:zu}{pos:Pos}{fa fb fc:Ae}
def sR (f g:yR) (ta tb tc:zu):zu:=fun Y S Q=>ta Y S λ x S1=>tb Y S1 λ y S2=>f x y S2 λ z S3=>match z with
 | .bl k=>if k=true then tc Y S3 λ w S4=>g y w S4 Q else Q (.bl é) S3
 | _=>False
def sR.mo {f g:yR}œ:y9 ţ:=fun Y S Q Q' hq h=>
 ha Y S ø (λ x S1 h=>hb Y S1 ø (λ y S2 h=>hf x y S2 ø (λ z S3 h=>by
  cases z <;> first
   | show wD (hc Y S3 ø λ w S4 h=>hg y w S4 ø hq h) (hq ø) h
   | show h) h) h) h
theorem cB Ä5(hr:xt K f r) (IA:xt K g r') œ {σ:St}{H:Hp}{Q:VK}(h:yb K ţ σ H Q):jY r r' (yb K ta) (yb K tb) (yb K tc) σ H Q:=by
 let#[Y,S,r1,r2,h]:=h;exact yb.go ha r1 r2 h λ x S1 v H1 h1 q1 e1 p1=>?_;exact yb.go hb (r1.ext e1) p1 h1 λ y S2 w H2 h2 q2 e2 p2=>?_;exact hr v w x y H2 S2 _ (zj.ext e2 x q1) q2 p2 (hf x y S2 ø (λ d S3 z v3 H3 q3 e3 p3=>?_) h2);cases d with
 | bl k=>
  simp![zj] at q3;exact#[k,q3,wD (λ z=>?_) (λ z=>?_) z]
  .exact yb.go hc (r1.ext (Ĺ)) p3 z λ w4 S4 v4 H4 h4 q4 e4 p4=>?_;show IA w v4 y w4 H4 S4 Q (zj.ext (e3.trans e4) y q2) q4 p4 (hg y w4 S4 ø (λ d S' z=>z.ext ((Ĺ).trans e4)) h4)
  .show z _ H3 (by simp![zj]) (Ĺ) p3
 | _=>show z.elim
@[simp] def fh (f g:Â2) (fa fb fc:Ae):Ae:=fun J=>(fa J).bind λ x=>(fb J).bind λ y=>(f x y).bind λ b=>match b with
 | .bl k=>if k=true then (fc J).bind λ z=>g y z else ↑(.bl é)
 | _=>none
def Nb {f g:Â2}{F G:yR}(hf:Good2 zE f F) (hg:Good2 zE g G) (ha:yC fa ta) (hb:yC fb tb) (hc:yC fc tc):xG (fh f g fa fb fc) (sR F G ta tb tc):=λ S Z Y J y Q hE e hq=>by
 let#[x1,e1,e]:=Ap.mp e;let#[x2,e2,e]:=Ap.mp e;let#[b,e3,e]:=Ap.mp e;exact ha S Z Y J x1 _ hE e1 λ d1 S1 s1 r1=>?_;exact hb S1 Z Y J x2 _ (hE.grow s1) e2 λ d2 S2 s2 r2=>?_;exact hf S2 Z x1 x2 b d1 d2 _ (hE.grow (s1.trans s2)).zd (Vw.grow r1 s2) r2 e3 λ c S3 s3 r3=>?_;split at e
 .have:=r3.1;simp![Sn] at this;subst this;split at e
  .rename_i hk;let#[x4,e4,e5]:=Ap.mp e;ext ú;rw[Å8 hk];exact hc S3 Z Y J x4 _ (hE.grow (ė)) e4 λ d4 S4 s4 r4=>?_;show hg S4 Z x2 x4 y d2 d4 Q (hE.grow ((ė).trans s4)).zd (Vw.grow r2 (s3.trans s4)) r4 e5 λ c' S5 s5 r5=>hq c' S5 (((ė).trans s4).trans s5) (Cl.cl ((ė).trans s4) r5)
  .rename_i hk;ext ú;rw[İ hk];cases e;show hq _ S3 (ė) Ů
 .cases e
def Qh {op Ia:CmpOp}Ä5 å
  ļ:PD X Â6 ţ:=
 #[sR.mo ę,PE.imp (TK ho GG ha.pe hb.pe hc.pe hm) λ _ _ _ h=>cB hr IA ę h]
def S7 {op Ia:CmpOp}Ä5 å
  ļ:xF X Â6 (vQ ţ):=by
 exact#[vQ.mo (sR.mo ę),PT.imp (UE ho GG ha.pe hb.pe hc.pe hm) fun σ H Q h=>?_];let#[Y,S,r1,r2,h]:=h;exact cB hr IA ę #[Y,S,r1,r2,sR.mo ę Y S ø (λ d S' z v H' a b c=>?_) h];cases d with
 | bl k=>simp![zj] at a;show#[k,a,z H' b c]
 | _=>show z.elim
end
end L5
namespace L2
open PySem ż ă
section
variable {X:Cx}
def aD:yp X (compareOp .Is) (λ x y H Q=>À4):=by
 ext ĩ;show is_bool #[.bl _,H,I,rfl,q]
def Q6:yp X (compareOp .IsNot) (λ x y H Q=>À8):=by
 ext ĩ;show isnot_bool #[.bl _,H,I,rfl,q]
end
end L2
namespace L5
open PySem ż L2 L3
open ă hiding St
section
variable {X:Cx}{K:Ab}{a b c e o i v:Expr}{es:List Expr}{ta tb td ty tv:zu}{pos p pos':Pos}
def ltS:Â2
 | .int i,.int j=>↑(.bl (decide (i<j)))
 | .tup ts,.tup us=>(wF ts).bind λ ns=>(wF us).map λ ms=>.bl (HT.lexLt ns ms)
 | _,_=>none
def xV (neg:Bool):yR:=λ x y S Q=>match x,y with
 | .bl c,.bl d=>Q Æ2 S
 | x,.zm=>Q (.bl (cond neg (!oj x) (oj x))) S
 | _,_=>False
def wN (neg:Bool):Â2
 | .bl c,.bl d=>↑ Æ2
 | x,.zm=>↑(.bl (cond neg (!isNone x) (isNone x)))
 | _,_=>none
def xV.mo {neg:Bool}:xx (xV neg):=λ x y S Q Q' hq h=>by
 unfold xV at h ⊢;split at h
 .show hq ø h
 .show hq ø h
 .show h.elim
def xV.fits:xt K (xV é) (λ x y H Q=>(À4)\/(y=.zm/\Q (.bl (decide (x=.zm))) H)):=λ x y d e H S Q h1 h2 h3 h=>by
 unfold xV at h;split at h
 ext ű
 ext ŏ
 .show h.elim
def xV.L6:xt K (xV true) (λ x y H Q=>(À8)\/(y=.zm/\Q (.bl (!decide (x=.zm))) H)):=λ x y d e H S Q h1 h2 h3 h=>by
 unfold xV at h;split at h
 ext ű
 ext ŏ
 .show h.elim
def M8 {S:SS}{Z:Addr->Prop}{x:T}{d:D}(hx:Vw S Z x d):oj d=isNone x:=by
 cases x with
 | zm=>cases hx.zm;rfl
 | bl _=>cases hx.bl;rfl
 | int _=>cases hx.int;rfl
 | str _=>cases hx.str;rfl
 | tup _=>let#[ds,rfl,_]:=hx.tup;rfl
 | lst _=>obtain⟨ds,rfl | ⟨a,rfl,h1⟩,h2⟩:=hx.lst <;> rfl
 | xh=>let#[a,Aq,#[rfl,_],h1]:=hx.xh;rfl
 | err _ _ _=>let#[x,rfl,_]:=hx.err;rfl
def Lf {neg:Bool}:Good2 zE (wN neg) (xV neg):=λ S Z x y z d e Q hz hx hy ef hq=>by
 unfold wN at ef;split at ef
 .cases ef;cases hx.bl;cases hy.bl;show hq _ S (.refl S) Ů
 .cases ef;cases hy.zm;have key:Q (.bl (cond neg (!oj d) (oj d))) S:=by
   rw[M8 hx];show hq _ S (.refl S) Ů
  unfold xV;cases d <;> show key
 .cases ef
def iJ Ė:PD X (.Compare a [.Is] [b] pos) (yB (xV é) ta tb):=n_ Ä6
def Sw Ė:xF X (.Compare a [.Is] [b] pos) (vQ (yB (xV é) ta tb)):=pQ Ä6
def Sv Ė:xF X (.Compare a [.IsNot] [b] pos) (vQ (yB (xV true) ta tb)):=pQ (Q6.or Q5) xV.L6 xV.mo ha hb (tE _)
def Yv (td ty tv:zu):yw:=λ E Y S=>tv Y S λ v S1=>td Y S1 λ x S2=>ty Y S2 λ y S3=>∃ p ds k j,x=Ð p/\y=.int k/\S3 p=↑(.lst ds)/\wC ds.length k=↑j/\E.nx Y (ups S3 p (.lst (ds.set j v)))
theorem zo.set {H:Hp}{d:D}{x:V}(h:zj K H d x):∀ {ds:List D}{xs:List V}(j:Nat),zo K H ds xs->zo K H (ds.set j d) (xs.set j x)
 | [],xs,j,r=>by simp![zo] at r;subst r;show .nil
 | c::ds,xs,0,r=>by
  simp![zo] at r;let#[y,ys,rfl,_,r2]:=r;show .cons h r2
 | c::ds,xs,j+1,r=>by
  simp![zo] at r;let#[y,ys,rfl,r1,r2]:=r;show .cons r1 (zo.set h j r2)
def SN (ho:PD X o td) (hi:PD X i ty) (hv:PD X v tv) (hs:swapsWithSole [ď] v pos.line X.env=pure é) (hw:swappedStores [ď] v X.env=pure none)
  (h1:(assignEach [ď] X.env).map (·.2)=[assign (ď) X.env])
  (ha:∀ v,assign (ď) X.env v=(do
   let ov <- holding [v] (eval o X.env)
   let iv <- holding [v,ov] (eval i X.env)
   standAt pos'
   holding [v,ov,iv] (setItem ov iv v)
   release [v,ov,iv] [])):wI X (.Assign [ď] v pos) (Yv td ty tv):=by
 exact#[λ E E' Y S hE z=>hv.mo Y S ø (λ w S1 z=>ho.mo Y S1 ø (λ x S2 z=>hi.mo Y S2 ø (λ y S3 #[p,ds,k,j,a,b,c,d,h]=>#[p,ds,k,j,a,b,c,d,hE.nx ø h]) z) z) z,PS.imp (bZ hv.pe (Ti ho.pe hi.pe set_list ha) hs hw h1) λ D σ H hu=>?_];let#[Y,S,r1,r2,z]:=hu;exact yb.go hv.mo r1 r2 z λ w S1 w1 H1 h1 q1 e1 p1=>?_;exact yb.go ho.mo (r1.ext e1) p1 h1 λ x S2 w2 H2 h2 q2 e2 p2=>?_;exact yb.go hi.mo ((r1.ext e1).ext e2) p2 h2 λ y S3 w3 H3 h3 q3 e3 p3=>?_;let#[p,ds,k,j,rfl,rfl,c1,c2,h]:=h3;simp![zj] at q2 q3;subst q2 q3;let#[xs,g1,g2]:=p3 ø c1;have e4:Ext H3 (upd H3 p (.lst (xs.set j w1))):=.lst g1 _;exact#[p,xs,k,j,rfl,rfl,g1,by rw[<- g2.length];show c2,?_];show h σ _ ((((r1.ext e1).ext e2).ext e3).ext e4) ((Ĺ).trans e4) (p3.ups e4 #[_,yr,zo.ext e4 _ (zo.set (zj.ext (e2.trans e3) w q1) j g2)])
@[simp] def pY (n:Nat) (f v:Ae):Sm:=fun J=>(v J).bind λ z=>(f J).bind λ y=>match J[n]?,y with
 | some ↑(.own (.lst ts)),.int k=>(wC ts.length k).map λ j=>.nx (J.set n ↑(.own (.lst (ts.set j z))))
 | _,_=>none
def QX {R:Rk}(n:Nat) {f v:Ae}(hf:yC f ty) (hv:u9 v tv):yy R (pY n f v) (Yv (xb n) ty tv):=λ S0 Z0 S Z Y J o E F e P=>by
 let#[z,e1,e]:=Ap.mp e;let#[x,e2,e3]:=Ap.mp e;split at e3
 .rename_i ts k h;let#[j,hj,rfl]:=AU.mp e3;exact hv S Z Y J z _ F.er e1 λ dz S1 s1 r1=>?_;have F1:=F.grow s1;let#[p,ob,h1,h2,h3,h4]:=F1.er.ow n _ h;cases ob with
  | lst ds=>
   change xb n Y S1 _;unfold xb;rw[h1];exact hf S1 Z Y J ø F1.er e2 λ d S2 s2 r2=>?_;cases Vw.int r2;have h5:zp (yc S2 Z) ts ds:=zp.sx (ui s2) ts h3;show#[p,ds,k,j,rfl,rfl,s2 ø h2,by rw[h5.len];show hj,P _ Z Y ((F1.grow s2).mut (us:=.lst (ts.set j z)) (es:=.lst (ds.set j dz)) n h h1 (h5.ba j (Sn.sx (ui s2) z r1)))]
  | _=>show h3.elim
 .cases e3
def R_ {x y:Str}{u:Ē}(hm:X.mg x=↑u) (r:RelV (.str y) u) À1:PD X (.Name x pos) (dC (.str y)):=Á7
def Qb {x:Str}{n:Int}{u:Ē}(hm:X.mg x=↑u) (r:RelV (.int n) u) À1:PD X (.Name x pos) (dC (.int n)):=Á7
end
end L5
namespace ZP
open PySem ă
def gi (k:Bool):String:=cond k "tuple_iterator" "list_iterator"
def SI Ň (k:Bool) (it l:Addr) Ű:Prop:=∃ o,ŕ it=↑o/\o.cls=Ç9 (gi k)/\o.data=.fields [Ð l,.int i 0].toArray
def SQ Ň (k:Bool) (l:Addr) (xs:Ar):Prop:=match k with
 | true=>h.IsTuple l xs
 | é=>h.IsList l xs
def SI.on Ŧ Ç3 Ĝ(x:SI h k it l i) (f:∀ o,ŕ it=↑o->Ţ it=↑o):SI h' k it l i:=
 let #[o,ho,r]:=x;Å2
def SQ.on Ŧ š(x:SQ h k l xs) (f:∀ o,ŕ l=↑o->Ţ l=↑o):SQ h' k l xs:=by
 cases k with
 | true=>let#[o,ho,r]:=(show h.IsTuple l xs from x);show Å2
 | é=>let#[o,ho,r]:=(show h.IsList l xs from x);show Å2
def SQ.lt Ō š(x:SQ h k l xs):l<È8:=by
 cases k with
 | true=>let#[o,ho,_]:=(show h.IsTuple l xs from x);show An ho
 | é=>let#[o,ho,_]:=(show h.IsList l xs from x);show An ho
def SI.lt Ō Ç3 Ĝ(x:SI h k it l i):it<È8:=let #[_,ho,_]:=x;An ho
section
variable {Ë}{A:Ŕ}{Ä4}{č}
def made š À0(hl:SQ Ì k l xs)
  (hQ:Q Ÿ { s with heap:=Ý { cls:=Ç9 (gi k),data:=Ã9 } }):î Ê (pyIter (Ð l)) Ę:=by
 cases k with
 | true=>show wpAny_pyIter_tuple hl hQ
 | é=>show wpAny_pyIter_list hl hQ
def LX Ĝ{xs:Ar}{x:Ē}À0 ň (hx:xs[i]?=↑x)
  (hQ:∀ h',h'.IsTupleIter it l À3->Ä0):Ľ:=by
 ext Ą;have there:=za8 (Obj.mapFields λ y=>y.setIfInBounds 1 (Æ0 ((i:Int)+1))) e1 (Obj.isFreed_of_fields (Obj.data_mapFields e3 _));exact MX (zaF e1 e3 #[] (Ac #[x,rfl,Ac (hQ _ #[_,there,(Obj.cls_mapFields ..).trans e2,?_] (í ..))]));rw[Obj.data_mapFields e3];simp[Æ0]
def LQ Ĝ{xs:Ar}À0 ç ň ó:Ľ:=by
 ext Ą;exact MX (zaI (MX (zaF e1 e3 #[] ?_)));exact MX (m:=newExc (ľ) []) ?_;simp![newExc,newTuple];exact MX (zaA (ö) (by size_fits));simp![raiseNew];ext ř;show MX (Ac (wpAny_throw (hE ø Ä7 È3)))
def draw Ç3 Ĝ{xs:Ar}{x:Ē}À0 Á5 (hx:xs[i]?=↑x)
  (hQ:∀ h',SI h' k it l À3->Ä0):Ľ:=by
 cases k with
 | true=>show LX hit hl hx hQ
 | é=>show wpAny_nextOf_list_item hit hl hx hQ
def gQ Ç3 Ĝ{xs:Ar}À0 ç Á5 ó:Ľ:=by
 cases k with
 | true=>show LQ hh hit hl hx hE
 | é=>show wpAny_nextOf_list_end hh hit hl hx hE
structure sd (z TI TO i1 i2 l1 l2:Addr):Prop where
 nd:[z,TI,TO,i1,i2].Nodup
 f1:l1∉ æ
 f2:l2∉ æ
structure At Ň (k1 k2:Bool) (z TI TO i1 i2 l1 l2:Addr) (f0:Ē) (n:Nat):Prop where
 z:IsZip h z TI TO f0
 ti:È9 h TI (Ð i1) (Ð i2)
 to:∃ a b,È9 h TO a b
 s1:SI h k1 i1 l1 n
 s2:SI h k2 i2 l2 n
def At.keep Ŧ Ĵ{f0:Ē}{n:Nat}(S:At h k1 k2 ñ f0 n) (f:∀ b∈ æ,∀ o,Ĕ):At h' k1 k2 ñ f0 n:=
 #[f z #[] _ S.z,f TI #[] _ S.ti,let #[a,b,e]:=S.to;#[a,b,f TO #[] _ e],S.s1.on (f i1 #[]),S.s2.on (f i2 #[])]
def item Ĵ{n:Nat}{xs ys:Ar}{x y:Ē}ŧ ġ (hx:xs[n]?=↑x) (hy:ys[n]?=↑y)
  (hQ:∀ h',At h' k1 k2 ñ (Æ0 À) (n+1)->È9 h' À x y->Ğ->Q ↑ Ÿ { s with heap:=h' }):
  î Ê (pyNext É0) Ę:=by
 let#[nd,f1,f2]:=D;ext É;ext Õ;ext Ç;replace to3:È9 g3 TO x b:=to3;ext ì;exact MX (MX (Ä1 (MX (m:=á (Ð i2)) (draw Ě λ g4 s24 e4=>Ac ?_))));have to4:È9 g4 TO x b:=É1 ø n9 to3;exact MX (zaC to4 rfl (MX (wpAny_updateSeq_pair to4 λ g5 to5 e5=>MX (wpAny_letGo (Ac Ă)))));replace to5:È9 g5 TO x y:=to5;exact MX (zaC to5 rfl (MX (wpAny_newTuple ?_)));have sz:Ī=À:=by rw[e5.1,e4.1,e3.1,e2.1,e1.1]
 have hz5:IsZip g5 Ł:=ů ø n2 (É1 À7);have up5:∀ c o,c∉ æ->ô c=↑o->g5.get? c=↑o:=λ c o hc q=>by
  ext į;show ů ø hc.2.2.1 (É1 Ū)
 have ti5:È9 g5 TI (Ð i1) (Ð i2):=ů ø n5 (É1 ø n7 (up ø (ĉ n1) n6 n5 Cu));have s15:SI g5 k1 i1 l1 (n+1):=s12.on λ o q=>ů ø (ĉ n8) (É1 ø n10 (É2 ø (ĉ n8) q));have s25:SI g5 k2 i2 l2 (n+1):=s24.on λ o q=>ů ø (ĉ n9) q;have lz:z<Ī:=An hz5;exact MX (m:=Builtin.SmallTypes.ownedTupleHandOut É0 (Ð Ī)) ?_;have hz6:IsZip (ł) Ł:=gV _ hz5;exact MX (zaP hz6 #[] λ g7 hz7 e7=>?_);replace hz7:IsZip g7 z TI TO (Æ0 Ī):=hz7;exact zaP hz7 #[] λ g8 hz8 e8=>?_;replace hz8:IsZip g8 z TI TO (Æ0 Ī):=hz8;have up8:∀ c o,c≠z->(ł).get? c=↑o->g8.get? c=↑o:=λ c o c1 q=>e8.extBut ø c1 (e7.extBut ø c1 q);have T8:È9 g8 Ī x y:=up8 ø (BB lz) (Ŭ);have up9:∀ c o,c≠z->g5.get? c=↑o->g8.get? c=↑o:=λ c o c1 q=>up8 c o c1 (gV _ q);rw[sz] at hz8 T8;exact Ac #[Ð Ī,rfl,Ac ?_];change Q ↑(Ð Ī) _;rw[sz];exact hQ g8 #[hz8,up9 ø (ĉ n1) ti5,#[x,y,up9 ø (ĉ n2) to5],s15.on λ o q=>up9 _ o (ĉ n3) q,s25.on λ o q=>up9 _ o (ĉ n4) q] T8 λ c o hc q=>up9 c o (λ e=>hc (by simp[e])) (up5 c o hc q)
def stop Ĵ{n:Nat}{xs ys:Ar}ŧ ç ġ (FC:xs[n]?=none\/ys[n]?=none)
  (hQ:∀ h',Ğ->Q none { s with heap:=h' }):
  î Ê (pyNext É0) Ę:=by
 let#[nd,f1,f2]:=D;ext É;have fin:∀ (h':Heap) (e:Addr),Ğ->(∃ o,Ţ e=↑o/\o.cls=ľ)->
   î Ê (do if <- isInstance (Ð e) (ľ) then pure none else throw (Ð e)) Q E { s with heap:=h' }:=λ h' e k1 k2=>by
  let#[o,ho,hc]:=k2;show MX (Æ5 (T:="StopIteration") (b:=true) #[o,ho,hc] isSubtype_stop (Ac (hQ _ k1)))
 ext Õ;cases hx:xs[n]? with
 | none=>
  exact MX (MX (Ä1 (MX (m:=á (Ð i1)) (gQ hh ĭ λ g2 ex e2 he=>?_))));have hz2:IsZip g2 Ł:=e2 ø n3 Iq;let#[oe,q1,q2]:=he;have ne:ex≠z:=λ q=>by subst q;rw[hz2] at q1;cases q1;simp at q2
  exact zaP hz2 #[] λ g3 _ e3=>fin g3 ex (λ c o hc q=>?_) #[oe,É2 ø ne q1,q2];ext į;show É2 ø hc.1 (e2 ø hc.2.2.2.1 (É3 ø hc.1 q))
 | some x=>
  have hy:ys[n]?=none:=FC.resolve_left (by rw[hx];simp);ext Ç;ext ì;exact MX (MX (Ä1 (MX (m:=á (Ð i2)) (gQ hh Ě λ g4 ex e4 he=>?_))));have hz4:IsZip g4 Ł:=e4 À7;let#[oe,q1,q2]:=he;have ne:ex≠z:=λ q=>by subst q;rw[hz4] at q1;cases q1;simp at q2
  exact zaP hz4 #[] λ g5 _ e5=>fin g5 ex (λ c o hc q=>?_) #[oe,ů ø ne q1,q2];ext į;show ů ø hc.1 (e4 Ū)
end
abbrev rJ (k:Bool) (l:Addr):Obj:={ cls:=Ç9 (gi k),data:=Ã9 }
abbrev kQ Ĉ:Heap:=(h.push Ž).push (rJ k2 l2)
abbrev kP Ĉ:Heap:=(kQ À2).push { cls:=Ç9 "tuple",data:=.seq [Ð È8,Ð (h.push Ž).objs.size].toArray }
abbrev kO Ĉ:Heap:=(kP À2).push { cls:=Ç9 "tuple",data:=.seq [.none,.none].toArray }
abbrev oq Ĉ:Heap:=(kO À2).push { cls:=Ç9 "zip",data:=.fields [.none,.bool é,.bool é,Ð (kQ À2).objs.size,Ð (kP À2).objs.size].toArray }
def NG (k1 k2:Bool) (l1 l2:Addr) (xs ys:Ar):Meets (Builtin.«zip.__new__» #[[Ç9 "zip",Ð l1,Ð l2],[]]) (λ _ R s=>SQ Ì k1 l1 xs/\SQ Ì k2 l2 ys/\
   R (.ok (.ret (Ð Å3))) { s with heap:=oq ë }):=
 .of_wp λ prog w A R s h=>by
  let#[hp,g,d,tk,os]:=s;let#[q1,q2,h]:=h;have BD:=sub_zip;have m1:SQ (Shared.heap #[hp,g,d,tk,os]) k1 l1 xs:=q1;have m2:SQ (Shared.heap #[hp.push Ž,g,d,tk,os]) k2 l2 ys:=q2.on λ o e=>gV _ e
  wp_walk using made m1,made m2
  show#[_,rfl,h]
section
variable {Ë}{A:Ŕ}{Ä4}{č}
def new {k1 k2:Bool}{l1 l2:Addr}{xs ys:Ar}À0 Á1
  (h:∀ h' z TI TO i1 i2,(∀ b∈ æ,À<=b)->sd ñ->At h' k1 k2 ñ .none 0->(∀ c o,ô c=↑o->Ţ c=↑o)->Q É0 { s with heap:=h' }):
  î Ê (call (Ç9 "zip") [Ð l1,Ð l2]) Ę:=by
 exact callType_new F.called_zip () (F.typeCall_zip_2 ø) (F.newCall_zip_2 ø) (λ obj=>F.args_object_init_3 obj ø) F.entry_zip_new (NG k1 k2 l1 l2 xs ys) #[h1,h2,?_];have z1:(Ý Ž).objs.size=À+1:=ĳ ..;have z2:(kQ ë).objs.size=À+2:=by rw[ĳ,z1]
 have z3:(kP ë).objs.size=À+3:=by rw[ĳ,z2]
 have z4:Å3=À+4:=by rw[ĳ,z3]
 have p1:∀ Ň (o:Obj),o.isFreed=é->(h.push o).get? È8=↑o:=λ h o e=>AW _ e;have u:∀ Ō{b:Addr}{o:Obj}(o':Obj),ŕ b=↑o->(h.push o').get? b=↑o:=λ o' e=>gV _ e;have g5:ž Å3=↑_:=p1 ø rfl;have g4:ž (kP ë).objs.size=↑_:=À5;have g3:ž (kQ ë).objs.size=↑_:=u _ (À5);have g2:ž (Ý Ž).objs.size=↑(rJ k2 l2):=u _ (u _ (À5));have g1:ž À=↑ Ž:=u _ (u _ (u _ (À5)));have a1:=h1.lt;have a2:=h2.lt;rw[z2,z3,z4] at g5;rw[z1,z2] at g3;rw[z3] at g4;rw[z1] at g2;generalize hN:À=N at *;have lt:∀ {m:Nat},m<N->∀ j:Nat,¬ m=N+j:=λ hm j=>⋯;have ne:∀ {i j:Nat},i≠j->¬ (N+i=N+j):=λ A5 e=>A5 ⋯;change _/\_;rw[z4];exact#[#[_,g5,rfl],h _ (N+4) (N+2) (N+3) N (N+1) (λ b hb=>?_) #[?_,?_,?_] #[g5,g3,#[_,_,g4],#[_,g1,rfl,rfl],#[_,g2,rfl,rfl]] λ c o e=>u _ (u _ (u _ (u _ (u _ e))))]
 .simp![Ao,AN,or_false] at hb;have h0:N<=N:=Am N;rcases hb with e | e | e | e | e <;> subst e
  .show Df N 4
  .show Df N 2
  .show Df N 3
  .show h0
  .show Df N 1
 .have e0:∀ É4,i≠0->¬ (N+i=N):=λ hi e=>hi ⋯;have e0':∀ É4,i≠0->¬ (N=N+i):=λ hi e=>hi ⋯;simp![Bj,Ao,AN,or_false,not_or,Dw,and_true,not_false_eq_true];show#[#[ne (),ne (),e0 (),ne ()],#[ne (),e0 (),ne ()],#[e0 (),ne ()],e0' ()]
 .ext Æ7;show#[lt a1 4,lt a1 2,lt a1 3,AB a1,lt a1 1]
 .ext Æ7;show#[lt a2 4,lt a2 2,lt a2 3,AB a2,lt a2 1]
end
end ZP
namespace L2
open PySem ż ă ZP
section
variable {X:Cx}{FH:Aj}{σ:St}{H:Hp}{č}
def Inv.cG {h':Heap}{t':Nat}{fp:È1}(I:Inv X FH σ H s) (k:∀ b o,b∉fp->Ø) (hf:∀ b∈fp,vS X FH H b):Inv X FH σ H { s with heap:=h',toks:=t' }:=by
 have nit:∀ b u,H b=↑u->b∉fp:=λ b u e z=>by rw[(hf b z).1] at e;cases e
 exact I.step (g':=s.gens) (d':=s.drawn) (ch:=fp) (λ b hb=>?_) (λ b o _ _ hc e _=>k b o hc e) (λ b o _ _ hc e _=>#[o.slots,k b o hc e]) (λ _ _ _ _ n=>n)
  (λ b o hc e=>#[o,k b o hc e]) (λ _ _ e=>e) (λ _ _ _ e=>e) (λ b ps e=>#[ŗ,by rw[e];simp]) (λ m hm=>?_) (λ b u e=>?_) I.bare
 .let#[_,q1,_,q2,q3,q4]:=hf b hb;show#[q2,q1,q3,q4]
 .let#[o,es,ep,ho,r]:=hm;show#[o,es,ep,k _ o (λ z=>(hf _ z).2.1 rfl) ho,r]
 .exact (I.zr b u e).vc (λ c v hc q=>k c v ?_ q) (λ _ q=>q) λ _ _ q=>q;rcases hc with z | z
  .rw[z];show nit b u e
  .show nit c _ z
def wW (K:Ab) (H:Hp) (k:Bool) Ç1 (xs:List V):Prop:=match k with
 | true=>yi K H a xs
 | é=>zU K H a xs
def wW.of (I:Inv X FH σ H s) Ç3 Ā{xs:List V}(h:wW X.K H k a xs):∃ Aa:List Ē,Vals xs Aa/\SQ Ì k a Aa.toArray:=by
 cases k with
 | true=>let#[Aa,rv,p,_]:=I.tuple h;show#[Aa,rv,p]
 | é=>let#[Aa,rv,p,_]:=I.list h;show#[Aa,rv,p.isList]
)
example:=`(
example Ê8:=excClassObj
example Ê:=.ref
example ś _:=x ab col dd k0 k1 k2 k3 k5 newId
example č:=h.get?
example À:=č C=↑(Ê8 nm q C N bs (Ê P::F6) true sn sub ś)
example Á:=#[h,g,d,t,os]
example ã:=.type
example ć:=.none
example È:=List.replicate
example Ŭ:=Value.none
example ï:=.fields
example ĕ:=ï ([head,Ê L,ć,rawInt L,ć]++(if pl.isEmpty then È 6 Ŭ else pl)).toArray
example þ _:=x _ _
example š:=base.StaysIn
example Â:=by unfold EntryCells.newEntry newFields;exact MX (zaA ?_ (Al.sizeOk5 þ þ _));have he₁:h₁.get? e=↑oe:=(Ir.2.1 e Dc).trans he;have kb₁:š h₁:=λ b o A3=>(Ir.2.1 b λ hm=>by rw[(hl.mem hm).1] at A3;cases A3).trans (Cg b o A3);generalize DR:({ cls:=ã "traceback",dict:=none,data:=ĕ }:Obj)=tb;have tbd:tb.data=ĕ:=by rw[<- DR]
example Ë:=Option
example í:=Value
example Ĉ:=Ë Addr
example Ã{sn:List Str}{sub:Ad}{ab:Bool}{col:Ë Bool}{dd:Ĉ}{k0 k1 k2 k3 k5:Ë í}:=0
example Ä:=by (with_reducible exact za4 hx ?_;rw[hc])
example ň:=env::outer
example Ü:=Shared->Prop
example ţ{Q:Unit->Ü}:=0
example Å ţ (A6:A.frames=↑(ň)) (hl:s.heap.FunFrames base (ň)) (hf:env.frame=↑L):=0
example Æ:=(model prog w)
example Ç(hx:č x=↑o) (hc:o.cls=Ê C):=0
example À6:=·.setIfInBounds
example Ė:=h₁.objs.size
example ý:=Obj.data_mapFields
example û:=Value.ref
example È1:=h₁.push tb
example Á9:=Obj.isFreed_of_fields
example Å4:=Obj.mapFields
example Ø:=(Å4 (À6 1 (û Ė)))
example Ş:=Ne.symm
example É:=by have Im:Ė ≠e:=BB (An he₁);have hd₃:=ý hd (À6 1 (û Ė));have he₃:=za8 Ø he₂ (Á9 hd₃);have hT₃:=(za9 (È1) Ø (Ş Im)).trans (AW h₁ tbf)
example Ç7:=if_neg
example Â4:=if_pos (show (û T != Ŭ)=true from by simp)
example ě:=Array.getElem?_eq_some_iff.mp
example Ö:=s.heap.get?
example Ì:=by rw[Â4];exact MX (za5 hT HP h3 ?_);rw[Ç7 (show ¬ ((Ŭ == rawInt L)=true) from by simp[rawInt])];exact MX (zaF hT HP (ě h3).1 ?_);have other:∀ b,b≠T->(s.heap.update T (Å4 (À6 3 Ŭ))).get? b=Ö b:=λ b hb=>za9 þ (Ş hb)
example ō{h:Heap}{g:Array GenState}{d:Drawn}{t:Nat}{os:OsState}:=0
example Ł{A:Around}{E:Ag}:=0
example Í Ł ō:=0
example Î:=(Ê8 nm q C N bs bm hdct sn sub ś)
example ü(hq1:mN "__getattribute__"=none) (hq2:mP "__getattribute__"=none) (hq3:mN "__getattr__"=none) (hq4:mP "__getattr__"=none):=0
example ů(BS:mN "__class__"=none) (BF:mP "__class__"=none):=0
example Ä6:=.builtin
example Š:=Ä6 "object.__class__"
example Ç1:=typeLookup
example ó:=Ç1 (ã B) "__class__"=pure ↑(Š)
example ä(hn:h.Ns N mN) (hP:sS h P mP):=0
example Ï ä (hB:ó) ü ů:=0
example Ð:=s.heap.objs.size
example Ñ:=by let#[FB,hb,hB,nm,q,N,bs,sn,sub,ab,col,dd,k0,k1,k2,k3,k5,newId,mN,mP,hC,hn,hP,hm]:=X;have m1:=hm "__getattribute__" (.head _);have m2:=hm "__getattr__" (.tail _ (.head _));have m3:=hm "__class__" (.tail _ (.tail _ (.head _)))
example Ż:=Value.builtin "BaseException.__getattribute__"
example Ò:=Ż == Value.builtin "object.__getattribute__"
example Ó(BS:mN name=none) (BF:mP name=none) (hB:Ç1 (ã B) name=pure none):=0
example Ë4(l:Addr) (items:Ar) (n:Nat):=0
example ź:=Array (Ë í)
example Ô(t:Tok) Ë4 (dd:Ĉ) (sl:ź):=0
example Õ:=PyProof.Rows
example Ê9:=Unit.unit
example Ù:=Q Ê9 { s with heap:=h' }
example Ú{base:Heap}{env:Env}{outer:List Env}{L e:Addr}:=0
example Û:=k.toNat
example Ý:=h.objs.size
example Þ:=(û C::Ê P::F6).contains
example Ī:=s.heap
example ß(Cg:š Ī) (CC:base.get? e=none):=0
example ņ:=(Ê e)
example Ď _:=x Æ (A.mark ↑ ņ)
example à:=(notedBy Ď env (cameBackBy Æ A env E))
example ť:=by assumption
example ĺ _:=x hC hn hP
example á:=by repeat (any_goals (first | ext ť | ext Ä | with_reducible exact s_ ĺ FB.mro FB.ga.lookup hq1 hq2 ?_ | with_reducible exact s_ ĺ FB.mro FB.noGetattr hq3 hq4 ?_ | wp_step))
example â:=za8 _ hT (Á9 (ý HP _))
example å:=xs.length
example æ:=(other b (FP b o hb AH)).trans hb
example ç:=by have nd:=D.nd;simp![Bj,Ao,AN,or_false,not_or] at nd
example è:=by let#[hp,g,d,tk,os]:=s;let#[hl,h]:=h
example ċ:=false
example Ů:=ï [Ê Ý,ć,ć,ć,.bool ċ,ć].toArray
example Ņ:=ã "tuple"
example é:=((h.push { cls:=Ņ,data:=.seq FJ.toArray }).push { cls:=Ê C,data:=Ů }).get?
example ê:=(upd H l (.ext (ST.yQ w l us)))
example ë:=#[λ b o A3=>keep b o (λ q=>by rw[q,CC] at A3;cases A3) (kb₁ b o A3),hl.of_keeps λ b o hb AH=>?_,?_,λ b o hb AH=>?_,λ b o us hb BN=>?_]
example ì:=items.size
example î:=wpAny
example ð:=(λ b o A3=>(other b λ q=>by rw[q,hnT] at A3;cases A3).trans (Cg b o A3))
example ñ:=(upd H r (.ext (uz r j)))
example ò:=Ö l=↑{ cls:=Ņ,dict:=dd,data:=.seq items n,slots:=sl }
example ô:=List Int
example õ:=(do let a <- frameOf env;let pl <- entryPlaceOf L HM;let b <- EntryCells.newEntry head a ć (rawInt L) ć pl;setField ņ 1 b)
example Ŵ:=F6.contains
example ö(hb:Ŵ (ã "object")=true) (hC:À):=0
example ø:=PySem.Spec
example À5:=(hl.of_keeps λ b o hb AH=>#[o,æ,rfl])
example ù _:=x A6 À5 hf ((other e (Ş Im)).trans he) ð CC hd (ě h1).1 h0
example Č:=[].toArray
example Á6:=h.push { cls:=ã "dict",data:=.dict Č }
example ú:=(Á6).update x λ o=>{ cls:=o.cls,dict:=↑ Ý,data:=o.data,slots:=o.slots }
example ÿ(hC:č C=↑ Î) (hn:h.Ns N mN) (hi:mN "__init__"=↑(Ê fI)) (hfI:č fI=↑oI) (D2:oI.cls=ã "function"):=0
example Ā:=sizeLine
example ā:=(.new hp _)
example ſ:=.lst
example Ÿ:=λ(k:Nat)=>V.int (k:Int)
example Ă:=ſ ((List.range j.toNat).map Ÿ)
example ă:=(ã "BaseException")
example Ą:=∀ vs,o.data≠ ï vs
example ą:=by with_reducible exact za4 hC ?_
example Ć:=[z,TI,TO,i1,i2]
example Ŋ{s:Shared}:=0
example Đ{prog:Program}{w:World}:=0
example ĉ Đ Ł Ŋ:=0
example Ê3:=x2.trans e3
example Ċ:=fun Y5 S5 #[m',b,w5] σ5 H5 b1 b2 b3=>#[(Ê3).trans b2,Y5,S5,m',b,b1,b3,w5]
example Á8:=vs[0]?=↑a0
example ď(h0:Á8) (h:∀ h',Heap.j5 base (ň) e oe.cls a0 oe.dict Ī h'->Ù):=0
example đ:=o.data=ï vs->∃ o' HX,h'.get? b=↑o'/\o'.data=ï HX
example Ţ _:=x (vi st) (xi st) (zS st) ć kV
example Ē:=K.lookup f=↑#[oc,od,.func (PySem.W.fnOf x x Ţ dc pm an cd ct),sl]
example ē:=by (with_reducible exact zaE hC ?_;rw[hcB])
example Ĕ:=by have hT5:(Á:Shared).TypeIs (Š) "getset_descriptor":=F.typeOf_object_class
example ė:=by (with_reducible exact zaE hC ?_;rw[Bp])
example Ę(F:ExcBaseFacts B newId Hk F6) (T:OwnTail h F6 bm) {mN:Au}{FJ:Ad}{fI:Addr}{oI:Obj}:=0
example ę:=by let#[oe,vs,oT,ts,he,#[#[rfl,rfl],h0],hd,h1,hnT,Im,hT,HP,h3]:=ht
example Ě:=PySem
example Ĝ:=PySem.W.nsIn K mainGlobals x
example ĝ:=MX (wpAny_frameOf_fun A6 hl hf λ h₁ Ir=>MX (wpAny_entryPlaceOf λ pl Al=>?_))
example Ğ:=(Å4 (À6 3 ((none:Ĉ).elim Ŭ λ f=>rawInt f)))
example Ų(BR:∀ c,o.data≠.cls c):=0
example ğ Ų (Ds:o.dict=↑dx) (Bo:h.Ns1 dx mA) (hv:mA name=↑v):=0
example Ġ:=I.zr.fresh (Am _)
example ġ:=(Ê8 nm' q' P N' bs' bm' hdct' sn' HR ab' HU dd' l0 l1 l2 l3 l5 IK)
example Ģ:=by repeat (any_goals (first | ext ť | wp_step))
example ģ:=(((zH ì 0 lo:Nat):Int) == 0&&(1:Int) == 1&&(zH ì ì hi-zH ì 0 lo) == ì)=true
example Ĥ:=Aa.toArray
example ĥ:=(È Û Aa).flatten.toArray
example Ħ:=keep b _ (FP b o hb AH) hs
example ħ(SF:StoreFacts B F6 sa owner) (hC:À):=0
example Ĩ:=(È Û xs).flatten.length
example ĩ:=by let#[T',n,r]:=x.tr;show#[T',by rw[Heap.size_after_update] at n;show n,r]
example Ê1:=F.slot_int_rmul
example ī _:=x Ê1 (typeIs_int s k t) F.entry_int_rmul (F.args_int_rmul_2 þ)
example Ĭ:=Ö l=↑{ cls:=ã "list",dict:=dd,data:=.seq items n,slots:=sl }
example ĭ:=Builtin.«object.__getattribute__»
example Į:=by let#[Y,S,r1,r2,z]:=hu
example į:=by with_reducible apply dY FB hb ĺ hB m1.1 m1.2 m2.1 m2.2 m3.1 m3.2 hx hc
example È8:=starEach
example Æ5:=[a,b]
example ŝ:=X.env
example İ:=È8 Æ5 ŝ=[(ċ,eval a ŝ),(ċ,eval b ŝ)]
example ı:=HT.zH å 0 lo=0/\HT.zH å å hi=å
example Ĳ:=.Call (.Name "range" p2) [e] [] F_
example ĳ(X:K.In h) (G:h.Ns mainGlobals mg):=0
example Ĵ:=s.heap.push
example ĵ:=Ö b=↑o
example Ķ{ds:List D}:=0
example ķ:=by let#[sl,hs]:=Ir.2.2 b o hb
example ĸ:=.int
example Ĺ:=by let#[f,oc,od,kV,dc,pm,an,cd,ct,sl,a,l,c,k]:=H
example Ļ:=Ë Int
example ļ:=(s1.trans s2).trans s3
example Ľ:=λ z=>c1 (by subst z;cases ds with | nil=>rfl | cons _ _=>simp at hl)
example ľ:=.Call (.Name "set" p2) [e] [] F_
example Ŀ:=#[#[Obj.cls_mapFields þ,Obj.Yj þ],by rw[zcS ()];show h0]
example ŀ:=by let#[u,rfl,ru]:=vals1 r
example ł:=(xs.map λ e=>Value.int e.1 e.2)
example Ń{P:Program}{w:World}:=0
example ń:=by intro xs n h;simp![zo] at h
example Ã0:=MX (za5 he hd h1 ?_)
example Ň:=by unfold leaving noteFrame;simp![hf];exact MX (Ã0)
example ŉ:=(upd H T (wy T))
example ŋ(hc:X.calm=true):=0
example Ō:=by let#[_,o',GG,AH]:=hl.mem hm;rw[hb] at GG;cases GG;show AH us BN
example Ŏ _:=x (λ b o q=>PySem.W.of_hideAll _ q) (PySem.W.hideAll_none _ #[])
example ŏ:=oe.data=ï vs
example Ő _:=x F.slot_tuple_mul hT F.entry_tuple_mul (F.args_tuple_mul_2 þ)
example ő:=codeAny_call_builtin
example Œ:=Builtin.«isinstance.nested»
example œ:=by let#[_,o,ho,AH]:=hl.mem hm;rw[he] at ho;cases ho;show AH vs hd
example Ŕ _:=x X (.Tuple es kk pos') (.Call (.Name "zip" p) Æ5 [] pos)
example ŕ _:=x lo hi
example Ŗ _:=x base e cls a0 ć yP T
example ŗ:=(by simp![zj])
example Ř:=(Ê C)
example ř{X:Cx}:=0
example Ś _:=x Q E Á
example Ŝ(Gi:bm'.contains ă=true) (hm:bm.contains (Ê P)=true):=0
example ş:=by rw[q,hT] at hb;cases hb;show AH ts HP
example Ť:=by let#[it1,rv1,q1]:=g1.of I;let#[it2,IE,q2]:=g2.of I
example Ŧ:=(Builtin.«int.__rmul__» #[[ĸ i t,Ê l],[]])
example ŧ:=#[_,rfl,h]
example Ũ:=(È Û xs).flatten
example ũ:=(ns.map V.int)
example Ū:=String
example ū:=s₁.heap.get?
example ŭ:=by intro X hP hw hK hc i FH s σ H E I hf st hg;subst hP hw hK
example Ű:=.inr
example Ê6:=č b=↑o
example ű:=Ê6->h'.get? b=↑o
example ų:=IntsAre
example ŵ{xs:List V}:=0
example Ŷ{Q:Fin->Ü}:=0
example É8:=(Ê l)
example ŷ:=î Æ A (binaryOp .Mult É8 (ĸ k t)) Q E s
example Ź:=λ S3 Z3 Y3 F3=>#[m,CZ m,Z3,J2,F3,e']
example ż:=rI vU (λ i j=>ĸ (i*j)) x y H Q\/i5 K x y H Q
example Ž:=Bind.checkArgs sa sig #[[Ê x,Hj,v],[]]
example ž _:=x ht (λ z=>AA (r.mi.mp z)) h1 (by rw[<- hl];show hz)
example À0:=checkBuiltinCall
example À1:=ExcAttrBase B F6
example À2:=h₁.get? b=↑o
example À3:=Ĵ { cls:=Ņ,data:=.seq [u1,u2].toArray }
example À4:=by have hx1:(onTheHeap (û C)&&Ò)=ċ:=by rw[hx2];rfl
example À7:=by intro FH s σ H xs us Q I r h
example À8:=(λ x y=>D.tup [x,y])
example À9:=h'.Ns1 Ý (λ y=>if y=name then ↑v else none)
example Á0:=∀ b o,ĵ->(Ą)->b≠T
example Á1{B newId:Ū} {mN mP:Au}:=0
example Á2:=by repeat (any_goals (first | ext ť | ext Ä | wp_step))
example Á3:=List.zipWith
example Á4:=zo K H ds xs
example Á5:=by have he₂:(È1).get? e=↑oe:=gV _ he₁
example Á7:=by decide +kernel
example Â0:=PySem.W.hideAll
example Â1{l:Addr}{Aa:Ad}{k:Int}{t:Tok}{Q:Ag}:=0
example Â2{M:Model}:=0
example Â3{oe:Obj}{vs:Ar}{head a0:í}{HM:Bool}:=0
example Â5:=xa X.stack
example Â6:=R (.ok (.ret Value.notImplemented)) s
example Â7:=(.ext (yQ X.w l us))
example Â8:=mroOf (ã B)=pure F6
example Â9:=(other b q).trans hb
example Ã1 _:=x É8 (ups S l (ſ ((xm ns).map D.int)))
example Ã2:=h S Z Y J x _ hE e1 λ d S1 s1 r1=>?_
example Ã3:=λ q=>hc.1 (by subst q;exists hl.symm)
example Ã4(is:List Nat) (c:Ev->Ë Bool) (b:Sm):=0
example Ã5 _:=x hF (PySem.W.funFrames_hide hS (BH _)) A6
example Ã6:=PySem.W.mg_of X G a
example Ã7:=(û C::bm).contains
example Ã8:=h'.FunFrames base l
example Ã9:=(setFlight ņ none)
example Ä0(I:Inv X FH σ H s):=0
example Ä1{nm q:Str}{C N P x:Addr}{bs F6:Ad}:=0
example Ä2:=È8 [b] ŝ=[(ċ,eval b ŝ)]
example Ä3:=by (with_reducible exact s_ ĺ hm hB BS BF ?_)
example Ä4:=sb.extBut
example Ä5:=Ë (Ev->Ë T)
example Ä7:=items.isEmpty
example Ä8:=Aa.toArray.isEmpty
example Ä9:=us.length
example Å0:=.inl (ZJ S Z _ z ds Q hz hv e hq)
example Å1:=.Name "str" q
example Å2:=Code.quiet_builtin
example Å3:=oT.data=ï ts
example Å5:=#[o,us,keep b o q hb₁,BN]
example Å6:=by (with_reducible exact za4 hD ?_;rw[hDc])
example Å7(base:Heap) (l:List Env) (e:Addr):=0
example Å8:=fun Y' S'=>∃ m',m'<m/\W m' Y' S'
example Å9:=h'.get? x=↑{ o with dict:=↑ Ý }
example Æ0:=λ b o hb AH=>x.slots b o (æ) AH
example Æ1:=by have:Ĩ=Û*å:=#[];rw[this,Ej];show hz
example Æ2(Al:AE X pos []) (IQ:AE X F_ []):=0
example Æ3:=by (with_reducible exact za4 hD ?_;rw[hDd])
example Æ4:=by have tbf:tb.isFreed=ċ:=by rw[<- DR];rfl
example Æ6:=PyProof.Rows.slot_tuple_getitem
example Æ7:=List α
example Æ8:=(È Û items).foldl (·++·) Č
example Æ9:=call_meets
example Ç0:=gq (λ _ _ _=>wK) λ _ _ _=>nofun
example Ç2:=č e=↑oe
example Ç3(lo hi:Ļ):=0
example Ç4:=by ext ń;let#[y,ys,rfl,h1,h2]:=h
example Ç5:=by .subst q;show x.qx þ _ (â) (ý HP _)
example Ç6:=.tup [x,y]
example Ç8:=ns.length<64
example Ç9:=(Ê x)
example È0:=Builtin.«object.__setattr__»
example È2(K:Ab):=0
example È3:=by repeat (first | ext Ä | ext ē | wp_step)
example È4:=e∉(ň).filterMap (·.frame)
example È5:=î M A (leaving env ņ) Q E s
example È6{yP:Ĉ}{T:Addr}:=0
example È7:=by .rename_i c Bg;show absurd Bg (BR c)
example È9:=PySem.W.keepIn K (Ê f)=true
example É0:=by have hh:X.A.handled=none:=I.ok.hd hc
example É1{tk:Tok}:=0
example É2:=wW K H k1 a1 xs
example É3:=wW K H k2 a2 ys
example É4:=λ v z=>by cases z
example É5:=.cons
example É6:=.tup ts
example É7:=h1.elim
example É9:=by rw[q,he] at hb;cases hb;show AH vs hd
example Ê0:=Aa.length
example Ê2:=Ā=16777216
example Ê4:=#[_,ho,rfl]
example Ê5:=Heap.MadeExcOf h h' e Ř FJ
example Ê7:=(Heap.get?_push_at rfl rfl)
example Ë0:=(fin _ oe a0 g0 λ a ha=>?_)
example Ë1{H:Hp}:=0
example Ë2(t:Ë zu):=0
example Ë3:=by intro FH s σ H x y v u Q I rx ry h
example Ë5(he:Ö e=↑oe):=0
def wW.inj Ä0 {k:Bool}{a:Addr}{xs ys:List V}(h:wW X.K H k a xs) (h':wW X.K H k a ys):xs=ys:=by
 cases k with
 | true=>show I.jS h h'
 | ċ=>show I.hX h h'
def Xn È2 (k1 k2:Bool) (a1 a2:Addr):It:=
 #[λ i H=>∃ xs ys x y,É2/\É3/\xs[i]?=↑x/\ys[i]?=↑y,
   λ i H v H'=>∃ p x y,v=Ê p/\H p=none/\H'=upd H p (Ç6)/\(∀ xs,É2->xs[i]?=↑x)/\∀ ys,É3->ys[i]?=↑y,
   λ i H=>∃ xs ys,É2/\É3/\(å<=i\/ys.length<=i)]
def Vc Ń{K:Ab}{es:List Expr}{kk} {pos:Pos}{k1 k2:Bool}{z TI TO i1 i2 a1 a2:Addr}(D:sd z TI TO i1 i2 a1 a2):
  Turn P w K (.Tuple es kk pos) (Xn K k1 k2 a1 a2) Ć z (λ i h=>At h k1 k2 z TI TO i1 i2 a1 a2 ć i) where
 mem:=#[]
 obj:=λ i h st b hb=>by
  let#[q1,q2,#[_,_,q3],#[o1,q4,_,d1],#[o2,q5,_,d2]]:=st;simp![Ao,AN,or_false] at hb;rcases hb with e | e | e | e | e <;> subst e
  .show#[_,q1,É4]
  .show#[_,q2,É4]
  .show#[_,q3,É4]
  .show#[_,q4,λ v z=>by rw[d1] at z;cases z]
  .show#[_,q5,λ v z=>by rw[d2] at z;cases z]
 keep:=λ i h h' st k=>st.keep k
 item:=by
  ext ŭ;let#[xs,ys,x,y,g1,g2,hx,hy]:=hg;ext Ť;let#[u1,e1,r1]:=rv1.get hx;let#[u2,e2,r2]:=IE.get hy;exact ZP.item D st q1 q2 (x:=u1) (y:=u2) (by exists e1) (by exists e2) λ h' S' T' up=>#[_,rfl,?_];exact wpAny_letOwnedTupleGo_zip S'.z λ h2 z2 sb=>?_;have nT:Ð ∉ Ć:=λ hb=>by
   let#[o,ho,_]:=(show ∃ o,Ö Ð=↑o/\True from by
    let#[w1,w2,#[_,_,w3],#[o1,w4,_],#[o2,w5,_]]:=st;simp![Ao,AN,or_false] at hb;rcases hb with e | e | e | e | e <;> rw[e]
    .show#[_,w1,trivial]
    .show#[_,w2,trivial]
    .show#[_,w3,trivial]
    .show#[_,w4,trivial]
    .show#[_,w5,trivial])
   show absurd (An ho) (Cq _)
  have nz:Ð ≠z:=λ e=>nT (by simp[e]);have fr:H Ð=none:=Ġ;have I1:Inv X FH σ (upd H Ð (Ç6)) { s with heap:=À3,toks:=s.toks }:=
   I.laid (o:=Ç6) (λ b u q=>gV _ q) (Am _) #[#[by change 2<=Ā;decide,.new _],[u1,u2],É5 r1 (É5 r2 .nil),IsTup.new þ]
  have Iw:∀ b∈ Ć,upd H Ð (Ç6) b=none:=λ b hb=>by
   rw[zV (λ e=>nT (by rw[<- e];show hb))];show (hf b hb).1
  have kk:∀ b o,b∉ Ć->(À3).get? b=↑o->h2.get? b=↑o:=λ b o hb q=>by
   have FG:b≠z:=λ e=>hb (by simp[e]);by_cases hbs:b=Ð
   .subst hbs;rw[AW _ rfl] at q;cases q;show Ä4 þ nz T'
   .have q':ĵ:=by rw[Heap.get?_push_ne þ _ hbs] at q;show q
    show Ä4 þ FG (up b o hb q')
  have I2:=Inv.cG (h':=h2) (t':=s.toks) (fp:=Ć) I1 kk λ b hb=>#[Iw b hb,(hf b hb).2];exact#[Ê Ð,_,I2,rfl,#[_,x,y,rfl,fr,rfl,λ zs hz=>by rw[hz.inj I g1];show hx,λ zs hz=>by rw[hz.inj I g2];show hy],#[z2,?_,?_,?_,?_],Iw]
  .ext ç;show Ä4 þ (Ş nd.1.1) S'.ti
  .let#[a,b,e]:=S'.to;ext ç;show#[a,b,Ä4 þ (Ş nd.1.2.1) e]
  .ext ç;show S'.s1.on λ o q=>Ä4 þ (Ş nd.1.2.2.1) q
  .ext ç;show S'.s2.on λ o q=>Ä4 þ (Ş nd.1.2.2.2) q
 done:=by
  ext ŭ;let#[xs,ys,g1,g2,hx]:=hg;ext Ť;have l1:=rv1.length;have l2:=IE.length;exact ZP.stop (I.ok.hd hc) D st q1 q2 ?_ λ h' up=>#[rfl,I.cG (t':=s.toks) up hf];rcases hx with hx | hx
  .show .inl (by simp;lia)
  .show Ű (by simp;lia)
 self:=λ _ _ _ _ _ st h=>wpAny_pyIter_zip st.z h
def MM È2 (ta:TA):TI:=fun σ H R=>ta σ H λ vs H1=>∃ a1 a2 k1 k2,vs=[Ê a1,Ê a2]/\(∃ xs,wW K H1 k1 a1 xs)/\(∃ ys,wW K H1 k2 a2 ys)/\R (Xn K k1 k2 a1 a2) H1
theorem Ta {a b:Expr}{ta:TA}{p pos pos':Pos}{es:List Expr}{kk} (hg:Gl X "zip") (hm:X.mg "zip"=none) (ha:PA X Æ5 ta) (hs:İ:=by rfl) (Ij:Ä2:=by rfl):
  PI Ŕ (MM X.K ta):=by
 intro FH s σ H R I h;exact Call_ (rF I hg hm boot_zip (PyProof.Rows.callWith_type1 (zF (ha pos FH s σ H _ I h) λ us s1 #[vs,H1,I1,r1,q1]=>?_) (by rw[hs,Ij]) (by rw[Ij];rfl)));let#[a1,a2,k1,k2,rfl,#[xs,g1],#[ys,g2],q]:=q1;cases r1 with
 | cons r rr=>
  cases rr with
  | cons r' rr=>
   cases rr;cases r;cases r';let#[it1,_,q1]:=g1.of I1;let#[it2,_,q2]:=g2.of I1;exact ZP.new q1 q2 λ h' z TI TO i1 i2 nw D S up=>wpAny_pyIter_zip S.z ?_;show#[z,Ć,_,_,H1,rfl,I1.kept (t':=s1.toks) up,Vc D,S,λ b hb=>I1.gB (nw b hb) (I1.zr.fresh (nw b hb)),q]
end
end L2
namespace L5
open Ě ø L2 L3
open Õ hiding St
section
variable {K:Ab}{a:Expr}{p:Pos}
def Zp (t:ym):wz:=fun Y S R=>t Y S λ ds S1=>∃ d e xs ys,ds=[d,e]/\yg d S1=↑xs/\yg e S1=↑ys/\R #[Á3 À8 xs ys,λ S=>yg d S=↑xs/\yg e S=↑ys] S1
def oh:D->Bool
 | .tup _=>true
 | _=>ċ
def yg.k Ë1{S:SS}{d:D}{v:V}Ķ(r:zj K H d v) (p:zK K H S) (e:yg d S=↑ds):∃ a xs,v=Ê a/\wW K H (oh d) a xs/\Á4:=by
 by_cases q:∃ ts,d=É6
 .let#[ts,rfl]:=q;cases e;simp![zj] at r;let#[a,xs,h1,h2,h3]:=r;show#[a,xs,h1,h2,h3]
 .let#[a,xs,h1,h2,h3]:=tj r p e λ ts z=>q #[ts,z];exact#[a,xs,h1,?_,h3];have:oh d=ċ:=by cases d <;> first | rfl | show absurd #[_,rfl] q
  rw[this];show h2
end
section
variable {ř}{a b:Expr}{tA:ym}{pos p pos':Pos}{es:List Expr}{kk:Nat}
def SY (hm:X.mg "zip"=none) (ha:xc X Æ5 tA) (hg:Gl X "zip") (hs:İ) (Ij:Ä2):
  u7 Ŕ (Zp tA):=by
 exact#[fun Y S Q Q' hq z=>ha.mo Y S þ (λ ds S1 #[d,e,xs,ys,h1,h2,h3,h4]=>#[d,e,xs,ys,h1,h2,h3,hq þ h4]) z,PI.imp (Ta hg hm ha.pa hs Ij) fun σ H R hu=>?_];ext Į;exact xW.go ha.mo r1 r2 z λ ds S1 vs H1 h1 q1 e1 p1=>?_;let#[d,e,xs,ys,rfl,s1,s2,h]:=h1;let#[v,u,rfl,d1,d2]:=q1.two;let#[a1,us,rfl,g1,g2]:=yg.k d1 p1 s1;let#[a2,ws,rfl,g3,g4]:=yg.k d2 p1 s2;exact#[a1,a2,oh d,oh e,rfl,#[us,g1],#[ws,g3],h _ H1 e1 p1 λ i H2 S2 x1 x2 hk=>?_];let#[b1,us2,q1,m1,m2]:=yg.k (zj.ext x1 d d1) x2 hk.1;cases q1;let#[b2,ws2,q2,m3,m4]:=yg.k (zj.ext x1 e d2) x2 hk.2;cases q2;have l1:=m2.length;have l2:=m4.length;exact#[λ dd hd=>?_,λ hl=>#[us2,ws2,m1,m3,?_]]
 .rw[List.getElem?_zipWith] at hd;split at hd
  .rename_i dx dy hx hy;cases hd;let#[x,hx',rx]:=m2.get hx;let#[y,hy',ry]:=m4.get hy;exact#[#[us2,ws2,x,y,m1,m3,hx',hy'],λ v H' q=>?_];let#[pp,x',y',rfl,hp,rfl,f1,f2]:=q;have ex:x'=x:=by have:=f1 _ m1;rw[hx'] at this;show (Bm this).symm
   have ey:y'=y:=by have:=f2 _ m3;rw[hy'] at this;show (Bm this).symm
   subst ex ey;exact#[.new hp _,x2.new hp,?_];simp![zj];show#[pp,_,rfl,yi.of yr,zo.ext ā _ (É5 rx (É5 ry .nil))]
  .cases hd
 .have Il:(Á3 À8 xs ys).length<=i:=hl;rw[List.length_zipWith] at Il;lia
@[simp] def pk:List T->Ë (List T)
 | [x,y]=>(wo x).bind λ xs=>(wo y).map λ ys=>Á3 (λ a b=>T.tup Æ5) xs ys
 | _=>none
theorem cR {S:SS}:∀ {ts us:List T}{ds es:List D},zp S ts ds->zp S us es->zp S (Á3 (λ a b=>T.tup Æ5) ts us) (Á3 À8 ds es)
 | [],us,ds,es,h,h'=>by simp![zp] at h;subst h;exists zp.nil
 | t::ts,[],ds,es,h,h'=>by simp![zp] at h';subst h';exists zp.nil
 | t::ts,u::us,ds,es,h,h'=>by
  simp![zp] at h h';let#[c,cs,rfl,h1,h2]:=h;let#[c',cs',rfl,h3,h4]:=h';show zp.cons (qj (zp.cons h1 (zp.cons h3 zp.nil))) (cR h2 h4)
def yg.sx {S S':SS}{d:D}Ķ(h:yg d S=↑ds) (s:Sx S S'):yg d S'=↑ds:=by
 unfold yg at h ⊢;split at h
 .show h
 .show h
 .split at h
  .rename_i q;cases h;rw[s þ q]
  .cases h
 .cases h
def Pe {g:Ev->Ë (List T)}(h:qW g tA):qV ċ (xY pk g) (Zp tA):=λ S Z Y J ts Q hE e hq=>by
 let#[ys,e1,e2]:=Ap.mp e;exact h S Z Y J ys _ hE e1 λ ds S1 s1 r1=>?_;unfold pk at e2;split at e2
 .let#[xs,e3,e4]:=Ap.mp e2;let#[zs,e5,rfl]:=AU.mp e4;let#[d,d',rfl,h1,h2]:=lI r1;let#[es,g1,g2]:=h1.seq e3;let#[G1,g3,g4]:=h2.seq e5;show#[d,d',es,G1,rfl,g1,g3,hq _ S1 s1 (cR g2 g4) λ S'' s=>#[yg.sx g1 s,yg.sx g3 s]]
 .cases e2
end
end L5
namespace HT
open Ě Õ
section
variable {ĉ}
def Kb {t sl:Addr}{items:Ar}{vl vu:í}{lo hi:Ļ}{Q:Ag}(ht:IsTup Ī t items) (hs:s.heap.IsSliceOf sl vl vu ć) (pl:IsPart vl lo) (pu:IsPart vu hi)
  (hw:zH ì 0 lo=0/\zH ì ì hi=ì) (h:Q (Ê t) s):î Æ A (getItem (Ê t) (Ê sl)) Q E s:=by
 have hT:=ht.typeIs;let#[os,e1,e2,e3]:=id hs;have hS:s.TypeIs (Ê sl) "slice":=#[os,e1,e2];unfold getItem
 try with_reducible exact za7 ?_
 first | exact MX (Ac ?_) | skip
 exact MX (wpAny_sequenceKey hT () (MX (zaG (name:=Str.ofString "__getitem__") hT Æ6 (zaB Æ6 hT entry_tuple_getitem ?_ (args_tuple_getitem þ)))));exact MX (m:=Builtin.Tuple.tupleItemsOf (Ê t)) (tupleItemsOf_ ht (MX (zaK hS ?_)));rw[if_pos ()];exact MX (cX hs pl pu ?_);have yes:ģ:=by rw[hw.1,hw.2];simp
 change î þ (if ģ then _ else _) þ s;rw[if_pos yes];exact MX (m:=Builtin.Tuple.tupleIsExact (Ê t)) (MX (zaK hT (Ac ?_)));rw[if_pos ()]
 first
  | show MX (zaI (Ac #[_,rfl,Ac h]))
  | show MX (zaI (MX (Ac (Ac #[_,rfl,Ac h]))))
end
end HT
namespace L2
open Ě ø Õ
section
variable {ř}
def bF È2:V->Ļ->Ļ->Hp->VK->Prop:=λ x lo hi H Q=>∃ a xs,x=Ê a/\yi K H a xs/\(ı)/\Q (Ê a) H
theorem VU:rT X (bF X.K):=by
 intro FH s σ H x v vl vu lo hi sl Q I rx hs pl pu h;let#[a,xs,rfl,hx,hw,q]:=h;cases rx;let#[Aa,r,ht,hz]:=I.tuple hx;have hlen:Aa.toArray.size=å:=by rw[AG];show r.length.symm
 show#["tuple",_,PyProof.Rows.slot_tuple_getitem.lookup,ht.typeIs,HT.Kb ht hs pl pu (by rw[hlen];show hw) #[Ê a,H,I,rfl,q]]
end
end L2
namespace L5
open Ě ø L2 L3
open Õ hiding St
def xC {α:Type}(xs:Æ7) Ç3:Æ7:=(xs.drop (HT.zH å 0 lo)).take (HT.zH å å hi-HT.zH å 0 lo)
section
variable {ř}{K:Ab}{e:Expr}{lo hi:Ë Expr}{te:zu}{tl th:Ë zu}{pos p2:Pos}
def uR Ë2:yt->SS->(Ļ->SS->Prop)->Prop:=fun Y S Q=>match t with
 | none=>Q none S
 | some t=>t Y S λ d S1=>match d with
  | ĸ i=>Q ↑i S1
  | _=>False
def Xl Ë2:Prop:=∀ u,t=↑u->y9 u
def uR.mo (h:Xl tl):∀ Y S (Q Q':Ļ->SS->Prop),(∀ d S',Q d S'->Q' d S')->uR tl Y S Q->uR tl Y S Q':=fun Y S Q Q' hq z=>by
 cases tl with
 | none=>show hq þ z
 | some t=>show h t rfl Y S þ (λ d S1 z=>by cases d <;> first | show hq þ z | show z) z
def WV È2 Ë2:TO:=fun σ H Q=>∃ Y S,yF K H Y σ/\zK K H S/\uR t Y S λ o S1=>∀ H1,Ext H H1->zK K H1 S1->Q o H1
structure js (X:Cx) (e:Ë Expr) Ë2:Prop where
 mo:Xl t
 po:PO X e (WV X.K t)
def SX:js X none none:=#[nofun,λ FH s σ H Q I h=>by
 let#[Y,S,r1,r2,z]:=h;show US FH s σ H Q I (z H (.refl H) r2)]
def SW (h:PD X e te):js X ↑e ↑te:=#[λ u q=>by cases q;show h.mo,λ FH s σ H Q I hu=>by
 exact UR h.pe FH s σ H Q I ?_;ext Į;exact yb.go h.mo r1 r2 z λ d S1 v H1 h1 q1 e1 p1=>?_;cases d with
 | int i=>simp![zj] at q1;show#[i,q1,h1 H1 e1 p1]
 | zm=>show É7
 | bl _=>show É7
 | str _=>show É7
 | err _ _ _=>show É7
 | tup _=>show É7
 | xN _=>show É7
 | ref _=>show É7]
def uN (d:D) Ç3 (S:SS) (Q:DK):Prop:=match d with
 | .tup ds=>Q (.tup (xC ds ŕ)) S
 | d=>∃ ds,yg d S=↑ds/\∀ p,S p=none->Q (Ê p) (ups S p (ſ (xC ds ŕ)))
def uN.mo {d:D}{lo hi:Ļ}{S:SS}{Q Q':DK}(hq:∀ d S',Q d S'->Q' d S') (h:uN d ŕ S Q):uN d ŕ S Q':=by
 unfold uN at h ⊢;split at h
 .show hq þ h
 .let#[ds,h1,h2]:=h;show#[ds,h1,λ p hp=>hq þ (h2 p hp)]
def zo.cut Ë1 Ķ ŵ(h:Á4) Ç3:zo K H (xC ds ŕ) (tP xs ŕ):=by
 have hd:∀ Ķ ŵ(n:Nat),Á4->zo K H (ds.drop n) (xs.drop n):=by
  intro ds
  induction ds with
  | nil=>ext ń;subst h;exists zo.nil
  | cons d ds ih=>
   ext Ç4;cases n with
   | zero=>show É5 h1 h2
   | succ n=>show ih n h2
 have ht:∀ Ķ ŵ(n:Nat),Á4->zo K H (ds.take n) (xs.take n):=by
  intro ds
  induction ds with
  | nil=>ext ń;subst h;exists zo.nil
  | cons d ds ih=>
   ext Ç4;cases n with
   | zero=>show .nil
   | succ n=>show É5 h1 (ih n h2)
 unfold xC tP;rw[h.length];show ht _ (hd _ h)
def Kc ŵ{lo hi:Ļ}(h:ı):tP xs ŕ=xs:=by
 unfold tP;rw[h.1,h.2];simp
abbrev U1 È2:V->Ļ->Ļ->Hp->VK->Prop:=λ x lo hi H Q=>bH K x ŕ H Q\/(bG K x ŕ H Q\/bF K x ŕ H Q)
theorem uN.fits {d:D}{v:V}{lo hi:Ļ}Ë1{S:SS}{Q:VK}(h1:zj K H d v) (h2:zK K H S) (h:uN d ŕ S (xZ K H Q)):U1 K v ŕ H Q:=by
 unfold uN at h;split at h
 .simp![zj] at h1;let#[a,xs,rfl,g1,g2]:=h1;by_cases hw:ı
  .exact Ű (Ű #[a,xs,rfl,g1,hw,h _ H ?_ (.refl H) h2]);simp![zj];exact#[a,xs,rfl,g1,?_];have:=zo.cut g2 ŕ;rw[Kc hw] at this;show this
  .exact Ű (.inl #[a,xs,rfl,g1,hw,λ p hp=>h þ ?_ ā (h2.new hp)]);simp![zj];show#[p,_,rfl,yi.of yr,zo.ext ā _ (zo.cut g2 ŕ)]
 .rename_i hn;let#[ds,e,h]:=h;let#[a,xs,rfl,g1,g2]:=tj h1 h2 e (λ ts z=>hn ts z);show .inl #[a,xs,rfl,g1,λ p hp=>h p (h2.none hp) þ ŗ ā (h2.ups ā #[_,yr,zo.ext ā _ (zo.cut g2 ŕ)])]
def Ys (te:zu) (tl th:Ë zu):zu:=fun Y S Q=>te Y S λ x S1=>uR tl Y S1 λ l S2=>uR th Y S2 λ u S3=>uN x l u S3 Q
def Rz (he:PD X e te) (hl:js X lo tl) (hh:js X hi th):PD X (.Subscript e (.Slice ŕ none p2) pos) (Ys te tl th):=by
 exact#[fun Y S Q Q' hq z=>he.mo Y S þ (λ x S1 z=>uR.mo hl.mo Y S1 þ (λ l S2 z=>uR.mo hh.mo Y S2 þ (λ u S3 z=>uN.mo hq z) z) z) z,
  PE.imp (T3 (VW.or (VV.or VU)) he.pe hl.po hh.po) fun σ H Q hu=>?_]
 ext Į;exact yb.go he.mo r1 r2 z λ x S1 v H1 h1 q1 e1 p1=>?_;exact#[Y,S1,r1.ext e1,p1,uR.mo hl.mo Y S1 þ (λ l S2 h2 H2 e2 p2=>?_) h1];exact#[Y,S2,(r1.ext e1).ext e2,p2,uR.mo hh.mo Y S2 þ (λ u S3 h3 H3 e3 p3=>?_) h2];show uN.fits (zj.ext (e2.trans e3) x q1) p3 (uN.mo (λ d S' z=>z.ext ((e1.trans e2).trans e3)) h3)
@[simp] def tS:Ä5->Ev->Ë (Ļ)
 | none,_=>↑none
 | some f,J=>(f J).bind λ x=>match x with
  | ĸ i=>↑↑i
  | _=>none
def jx (f:Ä5) Ë2:Prop:=∀ S Z Y J y Q,ER S Z Y J->tS f J=↑y->(∀ S',Sx S S'->Q y S')->uR t Y S Q
def Pw:jx none none:=λ S Z Y J y Q hE e hq=>by cases e;show hq S (.refl S)
def Pu {f:Ae}(h:yC f te):jx ↑f ↑te:=λ S Z Y J y Q hE e hq=>by
 let#[x,e1,e2]:=Ap.mp e;exact Ã2;split at e2
 .cases e2;cases Vw.int r1;show hq S1 s1
 .cases e2
@[simp] def oB Ç3:T->Ë T
 | É6=>↑(.tup (xC ts ŕ))
 | ſ ts=>↑(ſ (xC ts ŕ))
 | _=>none
@[simp] def x8 (f:Ae) (lo hi:Ä5):Ae:=fun J=>(f J).bind λ x=>(tS lo J).bind λ l=>(tS hi J).bind λ u=>oB l u x
def zp.cut {S:SS}{ts:List T}Ķ(h:zp S ts ds) Ç3:zp S (xC ts ŕ) (xC ds ŕ):=by
 unfold xC;rw[h.len];show zp.take' _ (zp.drop' _ h)
def PX {f:Ae}{l u:Ä5}(h:yC f te) (hl:jx l tl) (hu:jx u th):xG (x8 f l u) (Ys te tl th):=λ S Z Y J y Q hE e hq=>by
 let#[x,e1,e]:=Ap.mp e;let#[l',e2,e]:=Ap.mp e;let#[u',e3,e]:=Ap.mp e;exact Ã2;exact hl S1 Z Y J l' _ (hE.grow s1) e2 λ S2 s2=>?_;exact hu S2 Z Y J u' _ (hE.grow (s1.trans s2)) e3 λ S3 s3=>?_;have r3:Vw S3 Z x d:=Vw.grow r1 (s2.trans s3);have hz:=(hE.grow (ļ)).zd;unfold oB at e;split at e
 .cases e;let#[ds,rfl,h2]:=r3.tup;show hq _ S3 (ļ) (Cl.of (λ _=>nofun) (qj (zp.cut h2 þ)))
 .cases e;let#[ds,h1,h2]:=r3.seq rfl;have key:∃ ds,yg d S3=↑ds/\∀ p,S3 p=none->Q (Ê p) (ups S3 p (ſ (xC ds l' u'))):=#[ds,h1,λ p hp=>hq þ ((ļ).trans ā) (Cl.cl (ļ) (t8 hz hp (zp.cut h2 þ)))];obtain⟨_,q | ⟨a,q,_⟩,_⟩:=r3.lst
  .subst q;show key
  .subst q;show key
 .cases e
end
end L5
namespace TM
open Ě Õ
def noFill:fillsNumberSlot (Ņ) "mul"=pure ċ:=
 PySem.fillsNumberSlot_seq (id:="tuple.__mul__") (r:=↑(Ä6 "tuple.__rmul__")) F.slot_tuple_mul.lookup (AM) F.slot_tuple_rmul.lookup (AM)
def rep:seqRepeat? (Ņ)=pure ↑(Ä6 "tuple.__mul__"):=by
 have a:=PySem.seqSlot_of (T:="tuple") (name:="__mul__") (id:="tuple.__mul__") F.slot_tuple_mul.lookup (AM);have b:=PySem.seqSlot_of (T:="tuple") (name:="__rmul__") (id:="tuple.__rmul__") F.slot_tuple_rmul.lookup (AM);unfold seqRepeat?;rw[a,b];rfl
def declines (i:Int) Ô:
  Meets Ŧ (λ _ R s=>ò/\Â6):=
 .of_wp λ prog w A R s h=>by
  ext è
  wp_walk
  show ŧ
theorem gD {α:Type}(xs:Æ7):∀ (m:Nat) (acc:Array α),(È m xs.toArray).foldl (·++·) acc=acc++(È m xs).flatten.toArray
 | 0,acc=>#[]
 | m+1,acc=>by
  rw[CK,List.foldl_cons,gD xs m,CK,CU,Array.append_assoc];simp
def N8 (k:Int) Ô (h1:¬ (decide (k < -(2 ^ 63))||decide (k≥2 ^ 63))=true) (h2:¬ (Ä7||k == 1)=true) (h3:¬ (decide (k<=0)||Ä7)=true)
  (h4:¬ (ì*k>(2 ^ 63-1)/8)) (h5:¬ Builtin.Tuple.tupleTooMany (ì*k)=true) (h6:(Æ8).size<=Ā):
  Meets (Builtin.«tuple.__mul__» #[[Ê l,ĸ k t],[]]) (λ _ R s=>ò/\
   R (.ok (.ret (Ê Ð))) { s with heap:=Ĵ { cls:=Ņ,data:=.seq (Æ8) } }):=
 .of_wp λ prog w A R s h=>by
  ext è;have e0:IsTup (Shared.heap #[hp,g,d,tk,os]) l items:=#[_,hl,rfl,n,rfl]
  wp_walk
  rw[Ç7 h1];exact MX (m:=Builtin.Tuple.tupleItemsOf É8) (tupleItemsOf_ e0 ?_);dsimp only;rw[Ç7 h2,Ç7 h3,Ç7 h4,Ç7 h5];show MX (m:=Builtin.Tuple.tupleExact _) (zaA (Ac ŧ) h6)
def N9 Ô:
  Meets (Builtin.«tuple.__mul__» #[[Ê l,ĸ 1 t],[]]) (λ _ R s=>ò/\R (.ok (.ret É8)) s):=
 .of_wp λ prog w A R s h=>by
  ext è;have c:(Ä7||(1:Int) == 1)=true:=#[]
  wp_walk
  show ŧ
section
variable {ĉ}
def times Â1(ht:IsTup Ī l Ĥ) (AA:Aa≠[]) (h0:1<=k) (hz:Ê0*Û<=Ā)
  (one:k=1->Q É8 s) (more:k≠1->Q (Ê Ð) { s with heap:=Ĵ { cls:=Ņ,data:=.seq ĥ } }):
  ŷ:=by
 have hT:=ht.typeIs;let#[#[cls,dd,data,sl],ho,hc,n,hd]:=id ht;simp only at hc hd;subst hc hd;exact wpAny_binaryOp_repeat_ref (T:="tuple") (U:="int") () hT (λ s'=>typeIs_int s' k t) noFill F.fills_int_mul Ê1 rep F.slot_int_index.lookup
  (Æ9 ī (declines k t l Ĥ n dd sl) #[ho,rfl,hT,?_])
 have hlen:0<Ê0:=List.length_pos_iff.mpr AA;have Et:Ä8=ċ:=by cases Aa with
  | nil=>show absurd rfl AA
  | cons a r=>rfl
 by_cases h1:k=1
 .subst h1;show Æ9 Ő (N9 t l Ĥ n dd sl) #[ho,one rfl]
 .have hks:Û<=Ā:=Bc (Nat.le_mul_of_pos_left _ hlen) hz;have hl:Ê2:=rfl;have hk2:k<=16777216:=⋯;have hcast:((Aa.toArray.size:Nat):Int)*k=((Ê0*Û:Nat):Int):=by
   rw[AG,Int.natCast_mul,CY ⋯]
  have hf:(È Û Ĥ).foldl (·++·) Č=ĥ:=by rw[gD];simp
  have C_:(È Û Aa).flatten.length=Û*Ê0:=#[];exact Æ9 Ő (N8 k t l Ĥ n dd sl ?_ ?_ ?_ ?_ ?_ ?_) #[ho,?_]
  .simp![Dl,decide_eq_true_eq,not_or];show#[⋯,⋯]
  .rw[Et];exists h1
  .rw[Et];simp;lia
  .rw[hcast];lia
  .rw[hcast];intro q;unfold Builtin.Tuple.tupleTooMany at q;have:=of_decide_eq_true q;lia
  .rw[hf,AG,C_,Ej];show hz
  .rw[hf];show more h1
end
end TM
namespace L2
open Ě ø Õ
def i5 È2:R2:=λ x y H Q=>∃ a k xs,x=Ê a/\y=ĸ k/\yi K H a xs/\xs≠[]/\1<=k/\å*Û<=Ā/\(k=1->Q (Ê a) H)/\(k≠1->∀ p,H p=none->Q (Ê p) (upd H p (.tup Ũ)))
theorem Q8 ř:yp X (binaryOp .Mult) (i5 X.K):=by
 ext Ë3;let#[a,k,xs,rfl,rfl,hx,AA,h1,hz,q1,q2]:=h;cases rx;let#[t,rfl]:=ry;let#[Aa,r,ht,_]:=I.tuple hx;have hl:=r.length;exact TM.times ž (λ e=>#[Ê a,H,I,rfl,q1 e]) λ e=>?_;have hlen:Ĩ<=Ā:=by
  ext Æ1
 show#[Ê _,_,I.laid (t':=s.toks) (o:=.tup Ũ) (λ b ob q=>gV _ q) (Am _) #[#[hlen,.new _],_,r.rep Û,IsTup.new þ],rfl,q2 e _ (Ġ)]
end L2
namespace L5
open Ě ø L2 L3
open Õ hiding St
section
variable {K:Ab}{a:Expr}
def tJ:yR:=λ x y S Q=>match x,y with
 | ĸ i,ĸ j=>vU i j/\Q (ĸ (i*j)) S
 | .tup ds,ĸ k=>(ds≠[]/\1<=k/\ds.length*Û<=Ā)/\Q (.tup (È Û ds).flatten) S
 | _,_=>False
def iX:T->T->Ë T
 | ĸ i,ĸ j=>if vU i j then ↑(ĸ (i*j)) else none
 | É6,ĸ k=>if ts≠[]/\1<=k/\ts.length*Û<=Ā then ↑(.tup (È Û ts).flatten) else none
 | _,_=>none
def tJ.mo:xx tJ:=λ x y S Q Q' hq h=>by
 unfold tJ at h ⊢;split at h
 .show#[h.1,hq þ h.2]
 .show#[h.1,hq þ h.2]
 .show h.elim
theorem zo.rep Ë1 Ķ ŵ(h:Á4):∀ n:Nat,zo K H (È n ds).flatten (È n xs).flatten
 | 0=>.nil
 | n+1=>by
  rw[CK,CK,CU,CU];show h.append (zo.rep h n)
def tJ.fits:xt K tJ (λ x y H Q=>ż):=λ x y d e H S Q h1 h2 h3 h=>by
 unfold tJ at h;split at h
 .simp![zj] at h1 h2;show .inl #[_,_,h1,h2,h.1,h.2 _ H ŗ (.refl H) h3]
 .rename_i ds k;let#[#[c1,c2,c3],h]:=h;have h1':=h1;simp![zj] at h1 h2;let#[a,xs,rfl,g1,g2]:=h1;have hl:=g2.length;exact Ű #[a,k,xs,rfl,h2,g1,Ľ,c2,by rw[<- hl];show c3,λ e=>?_,λ e p hp=>?_]
  .subst e;exact h _ H ?_ (.refl H) h3;have:(È (1:Int).toNat ds).flatten=ds:=#[];rw[this];show h1'
  .exact h þ ?_ ā (h3.new hp);simp![zj];show#[p,_,rfl,yi.of yr,zo.ext ā _ (zo.rep g2 _)]
 .show h.elim
theorem zp.rep {S:SS}{ts:List T}Ķ(h:zp S ts ds):∀ n:Nat,zp S (È n ts).flatten (È n ds).flatten
 | 0=>.nil
 | n+1=>by
  rw[CK,CK,CU,CU];show h.append (zp.rep h n)
def ZK:Good2 zE iX tJ:=λ S Z x y z d e Q hz hx hy ef hq=>by
 unfold iX at ef;split at ef
 .split at ef
  .rename_i hc;cases ef;cases hx.int;cases hy.int;show#[hc,hq _ S (.refl S) (Cl.of (λ _=>nofun) wj)]
  .cases ef
 .split at ef
  .rename_i hc;cases ef;let#[ds,rfl,h2]:=hx.tup;cases hy.int;have hl:=h2.len;show#[#[Ã3,hc.2.1,by rw[hl];show hc.2.2],hq _ S (.refl S) (Cl.of (λ _=>nofun) (qj (zp.rep h2 _)))]
  .cases ef
 .cases ef
end
end L5
namespace L4
open Ě Õ
section
open L2 ø
def UA Ŋ{vs:Ad}:∀ b o,¬ False->ĵ->((Ĵ (seqObj "list" Č 0)).update Ð (Obj.mapSeq (·++vs.toArray))).get? b=↑o:=λ b o _ q=>by
 rw[zaL þ þ (AB (An q))];show gV _ q
end
end L4
namespace L5
open Ě ø L2 L3
open Õ hiding St
section
variable {ř}
def yS.or {f:í}{r r':List V->Hp->VK->Prop}(h:yS X f r) (h':yS X f r'):yS X f (λ xs H Q=>r xs H Q\/r' xs H Q):=λ FH s σ H xs us Q I rv q=>
 q.elim (λ q=>h FH s σ H xs us Q I rv q) λ q=>h' FH s σ H xs us Q I rv q
end
end L5
namespace L2
open Ě ø Õ
section
variable {ř}
def uz (r:Addr) (j:Int):Heap->Prop:=λ h=>∃ t u v,IsRange h r 0 j 1 t u v
def Ky:yS X (ã "range") (λ xs H Q=>∃ j,xs=[ĸ j]/\∀ r,H r=none->Q (Ê r) ñ):=by
 ext À7;let#[j,rfl,q]:=h;ext ŀ;let#[t,rfl]:=ru;exact call_range_1 #[Ê Ð,_,I.laid (o:=.ext (uz Ð j)) (λ b o e=>gV _ e) (Am _) ?_,rfl,q _ (Ġ)];have here:uz Ð j (Ĵ { cls:=ã "range",data:=ï [ĸ 0 s.toks,ĸ j t,ĸ 1 (s.toks+1)].toArray }):=#[_,_,_,IsRange.new ..];exact#[here,#[_,AW _ rfl],λ h1 h2 S k=>?_];let#[a,b,c,e]:=S;show#[a,b,c,k _ e]
theorem K2 ŋ:yS X (ã "list") (λ xs H Q=>∃ r j,xs=[Ê r]/\H r=↑(.ext (uz r j))/\0<=j/\j<=16777216/\∀ l,H l=none->Q É8 (upd H l (Ă))):=by
 ext À7;let#[a,j,rfl,hr,h0,h1,q]:=h;ext ŀ;cases ru;obtain⟨⟨t,u,v,hR⟩,-,-⟩:=(show xH X.prog X.w H Ī a (.ext (uz a j)) from I.zr a _ hr)
 have AL:Builtin.Range.rangeSize 0 j 1=((j.toNat:Nat):Int):=by rw[rangeSize_one];split <;> lia
 exact call_list_range (n:=j.toNat) (I.ok.hd hc) hR (small_one () () ⋯ ⋯) AL ⋯ λ h' tk acc c k e hi=>?_;exact#[Ê Ð,_,I.laid (o:=Ă) k (Am _) #[?_,acc.toList,c,?_,by exists e],rfl,q _ (Ġ)]
 .have:Ê2:=rfl;simp;lia
 .let#[hn,hi]:=hi;exact ST.Paired.mk (by simp[hn]) λ i a b ha hb=>?_;rw[AQ] at ha;let#[k',hk,rfl]:=AU.mp ha;let#[hk1,hk2]:=AY.mp hk;simp at hk2;subst hk2;let#[w,hw]:=hi i b (by exists hb);subst hw;show#[w,#[]]
end
end L2
namespace L5
open Ě ø L2 L3
open Õ hiding St
section
variable {ř}{K:Ab}{e:Expr}{tA:ym}{pos p F_ p2:Pos}
def sP:xE:=λ ds S Q=>∃ j:Int,ds=[ĸ j]/\0<=j/\j<=16777216/\∀ l,S l=none->Q É8 (ups S l (ſ (vw 0 j.toNat)))
def kC:Ak
 | [ĸ j]=>if 0<=j/\j<=16777216 then ↑(ſ (rangeT 0 j.toNat)) else none
 | _=>none
def Lb:vn zE kC sP:=λ S Z ys z ds Q hz hv e hq=>by
 unfold kC at e;split at e
 .let#[d,rfl,h1]:=vV hv;split at e
  .rename_i hc;cases e;cases h1.int;show#[_,rfl,hc.1,hc.2,λ l hl=>hq þ (.new hl _) (t8 hz hl (ik þ))]
  .cases e
 .cases e
def sP.mo:vm sP:=λ ds S Q Q' hq #[j,h0,h1,h2,h3]=>#[j,h0,h1,h2,λ l hl=>hq þ (h3 l hl)]
theorem Ut Ë1(n:Nat):zo K H (vw 0 n) ((List.range n).map Ÿ):=by
 unfold vw
 induction List.range n with
 | nil=>show .nil
 | cons k l ih=>show É5 (by simp![zj];rw[Ed]) ih
def sP.fits:uB K sP (λ xs H Q=>∃ j,xs=[ĸ j]/\∀ r,H r=none->∃ r' j',[V.ref r]=[Ê r']/\ñ r'=↑(.ext (uz r' j'))/\0<=j'/\j'<=16777216/\
  ∀ l,ñ l=none->Q É8 (upd ñ l (ſ ((List.range j'.toNat).map Ÿ)))):=λ xs ds H S Q h0 h2 h=>by
 let#[j,rfl,c1,c2,h]:=h;let#[x,hx,h1]:=h0.one;subst hx;simp![zj] at h1;subst h1;exact#[j,rfl,λ r hr=>#[r,j,rfl,yr,c1,c2,λ l hl=>?_]];have x1:Ext H ñ:=.new hr _;have Cz:l≠r:=λ z=>by subst z;rw[yr] at hl;cases hl
 have hlH:H l=none:=by rw[zV Cz] at hl;show hl
 have x2:Ext ñ (upd ñ l (Ă)):=.new hl _;show h l (h2.none hlH) þ ŗ (x1.trans x2) ((h2.new hr).ups x2 #[_,yr,Ut _])
def RL (hm:X.mg "list"=none) (Iv:X.mg "range"=none) (ha:xc X [e] tA) ŋ (hg:Gl X "list") (Hn:Gl X "range")
  (he2:Az X e [])
  (he:È8 [Ĳ] ŝ=(ċ,eval (Ĳ) ŝ)::È8 [] ŝ) Æ2:
  PD X (.Call (.Name "list" p) [Ĳ] [] pos) (xR sP tA):=by
 have h:=pP (p:=p) (K2 hc) hg hm PyProof.Rows.boot_list (ud (pP Ky Hn Iv boot_range ha.pa () () he2 IQ) tB he) () () he Al;show#[xR.mo sP.mo ha.mo,PE.imp h λ _ _ _ hu=>cC sP.mo sP.fits ha.mo hu]
end
end L5
namespace ST
open Ě PySem.SetTable ø Õ L2
def MI {us us':Ad}(p:us'.Perm us):∀ {ms:ô},ų us ms->∃ HE,ų us' HE/\HE.Perm ms:=by
 induction p with
 | nil=>intro ms h;show#[ms,h,.refl _]
 | cons x _ ih=>
  intro ms h;cases h with
  | cons n t h=>
   let#[HE,h1,h2]:=ih h;show#[n::HE,É5 n t h1,h2.cons n]
 | swap x y l=>
  intro ms h;cases h with
  | cons n t h=>
   cases h with
   | cons m u h=>show#[m::n::_,É5 m u (É5 n t h),.swap þ _]
 | trans _ _ ih1 ih2=>
  intro ms h;let#[m1,h1,h2]:=ih2 h;let#[m2,h3,h4]:=ih1 h1;show#[m2,h3,h4.trans h2]
theorem qP.at Đ{h:Heap}{a:Addr}{xs:List (Int×Tok)}(S:qP prog w h a xs (sJ w)):yQ w a ł h:=by
 let#[#[es,ep,t,ho,he,T,h1,h2,h3],_]:=S;have hm:7<=t.mask/\t.mask<=127:=by rcases T.mask with e | e | e <;> lia
 have hlen:es.size=å:=by have:=congrArg List.length he;exists this
 show#[es,ep,t,#[ho,fits_of (n:=å) hlen T #[] ⋯,T.wM,h1,h2],by rw[he,AI];rfl]
theorem Z8:∀ xs:List (Int×Tok),ų ł (xs.map (·.1))
 | []=>.nil
 | e::xs=>É5 e.1 e.2 (Z8 xs)
theorem cq:∀ {us:Ad}{ns:ô},ų us ns->Vals ũ us
 | _,_,.nil=>.nil
 | _,_,É5 n t h=>É5 #[t,rfl] (cq h)
section
variable {ř}
def Y8 ŋ:yS X (ã "set") (λ xs H Q=>∃ p,∃ ns:ô,xs=[Ê p]/\zU X.K H p ũ/\Ç8/\
  ∀ (l:Addr) (us:Ad) (ms:ô),H l=none->ų us ms->ms.Nodup->(∀ n,n∈ms↔n∈ns)->Q É8 (upd H l Â7)):=by
 ext À7;let#[p,ns,rfl,hq,GL,q]:=h;ext ŀ;cases ru;let#[Aa,rv,pl,hz]:=I.list hq;have hl:=rv.length;rw[Af] at hl;have iA:ų Aa ns:=intsAre_of rv;have nums:Nums Ĥ ns:=λ i v hv=>by
  have hv':Aa[i]?=↑v:=by exists hv
  have hi:i<ns.length:=by rw[hl];show (AY.mp hv').1
  let#[u,e1,t,e2]:=rv.get (i:=i) (x:=V.int ns[i]) (by simp[hi]);rw[hv'] at e1;cases e1;show#[ns[i],t,e2,by simp[hi]]
 ext É0;exact Kv (A:=X.A) hh pl.isList nums (by rw[AG];lia) λ h' tk xs S U k=>?_;have kk:∀ b o,ĵ->h'.get? b=↑o:=λ b o e=>k b o (An e) e;have hSO:=S.at;exact#[Ê Ð,_,I.laid (t':=tk) (o:=.ext (yQ X.w Ð ł)) kk (Am _) ?_,rfl,q þ (xs.map (·.1)) (Ġ) (Z8 xs) S.nd λ n=>#[λ hn=>?_,λ hn=>?_]]
 .let#[es,ep,t,St,e]:=id hSO;show#[hSO,#[_,St.get],λ h1 h2 S1 k=>S1.vc k]
 .let#[e,he,rfl]:=Av.mp hn;let#[j,_,_,hj]:=U.own e he;show B6 hj
 .let#[j,hj]:=EM.mp hn;show U.all j n (by have:=(AY.mp hj).1;rw[AG];lia) hj
def Kr ŋ:yS X (Ä6 "sorted") (λ xs H Q=>∃ l us,∃ ms:ô,xs=[Ê l]/\H l=↑ Â7/\ų us ms/\ms.length<64/\
  ∀ (p:Addr) (ns:ô),H p=none->ns.Perm ms->ns.Pairwise (·<=·)->Q (Ê p) (upd H p (ſ ũ))):=by
 intro FH s σ H xs us0 Q I r h;let#[l,us,ms,rfl,hl,hm,GL,q]:=h;ext ŀ;cases ru;obtain⟨⟨es,ep,t,S,eu⟩,-,-⟩:=(show xH X.prog X.w H Ī l Â7 from I.zr l _ hl)
 have hlen:es.size=Ä9:=by rw[<- eu];simp
 have Fn:=hm.length;ext É0;have hp:((comes X.w l es ep).toList.map (·.2)).Perm us:=by rw[<- eu];show (mX X.w l es ep).map _
 let#[HE,i1,i2]:=MI hp hm;have Dd:=hp.length_eq;have hl24:Ê2:=rfl;exact L4.ic (N:=λ _=>False) (Out:=λ out=>∃ HD,ų out.toList HD/\HD.Perm HE/\HD.Pairwise (·<=·)) (λ Q' h=>Y2 (by show hh) S (by rw[hlen,Fn];lia) Q' h) (by rw[Dd,Fn];lia) (λ h2 s6 k=>L4.Kj i1 h2 (by rw[Dd,Fn];show GL)) (λ h1=>#[HE,by simpa using i1,.refl _,?_]) λ out h' tk p ho hs IT k D5=>?_
 .have:HE.length<2:=by rw[<- i1.length];show h1
  match HE,this with
  | [],_=>show .nil
  | [_],_=>show DG þ
 .let#[ns,g1,g2,g3]:=ho;let#[e,he]:=D5;exact#[Ê p,_,I.laid (t':=tk) (o:=ſ ũ) (λ b o e=>k b o id e) IT ?_,rfl,q p ns (I.zr.fresh IT) (g2.trans i2) g3];show#[by rw[Af,g2.length_eq,i2.length_eq];lia,out.toList,e,cq g1,by exists he]
end
end ST
namespace L5
open Ě ø L2 L3
open Õ hiding St
def insI (n:Int):ô->ô
 | []=>[n]
 | m::l=>if n<m then n::m::l else if n=m then m::l else m::insI n l
def xm:ô->ô
 | []=>[]
 | n::ns=>insI n (xm ns)
theorem iZ {n k:Int}:∀ {l:ô},k∈insI n l↔k=n\/k∈l
 | []=>by simp[insI]
 | m::l=>by
  unfold insI;split
  .simp
  .split
   .rename_i h;subst h;simp
   .rw[Ao,iZ,Ao];constructor
    .rintro (h | h | h)
     .show Ű (.inl h)
     .show .inl h
     .show Ű (Ű h)
    .rintro (h | h | h)
     .show Ű (.inl h)
     .show .inl h
     .show Ű (Ű h)
theorem mm {k:Int}:∀ {l:ô},k∈xm l↔k∈l
 | []=>.rfl
 | n::l=>by unfold xm;rw[iZ,mm,Ao]
theorem ZC {n:Int}:∀ {l:ô},l.Pairwise (· < ·)->(insI n l).Pairwise (· < ·)
 | [],_=>DG þ
 | m::l,h=>by
  have h':=BJ.mp h;unfold insI;split
  .rename_i c;exact BJ.mpr #[λ x hx=>?_,h];rcases Ao.mp hx with e | e
   .rw[e];show c
   .show Int.lt_trans c (h'.1 x e)
  .split
   .show h
   .rename_i c1 c2;exact BJ.mpr #[λ x hx=>?_,ZC h'.2];rcases iZ.mp hx with e | e
    .rw[e];lia
    .show h'.1 x e
theorem nC:∀ l:ô,(xm l).Pairwise (· < ·)
 | []=>.nil
 | n::l=>ZC (nC l)
theorem WU {l m:ô}(h1:l.Nodup) (h2:l.Pairwise (·<=·)) (h3:m.Pairwise (· < ·)) (h:∀ k,k∈l↔k∈m):l=m:=by
 have nm:m.Nodup:=h3.imp λ h e=>⋯;exact L4.km (r:=λ a b:Int=>a<=b) (λ a b p q=>⋯) ((Ee h1 nm).mpr h) h2 (h3.imp λ h=>⋯)
theorem c8 (l:ô):(xm l).length<=l.length:=by
 have nd:(xm l).Nodup:=(nC l).imp λ h e=>⋯;show ST.kz þ nd λ x hx=>mm.mp hx
section
variable {ř}{K:Ab}{e:Expr}{tA:ym}{pos F_ p p2:Pos}
def mF:xE:=λ ds S Q=>uk ds S Q\/∃ d,∃ ns:ô,ds=[d]/\(∀ ts,d≠ É6)/\yg d S=↑(ns.map D.int)/\Ç8/\∀ l,S l=none->Q Ã1
def qh:Ak
 | [ſ ts]=>match wF ts with
  | some ns=>if Ç8 then ↑(ſ ((xm ns).map T.int)) else none
  | none=>nK [ſ ts]
 | [É6]=>nK [É6]
 | _=>none
def MV:vn zE qh mF:=λ S Z ys z ds Q hz hv e hq=>by
 unfold qh at e;split at e
 .split at e
  .rename_i ns Bo;split at e
   .rename_i hc;cases e;cases om Bo;let#[d,rfl,h1]:=vV hv;let#[es,h2,h3]:=h1.seq rfl;cases uH.mp h3;exact Ű #[d,ns,rfl,?_,h2,hc,λ l hl=>hq þ (.new hl _) (t8 hz hl (uH.mpr rfl))];obtain⟨_,q | ⟨a,q,_⟩,_⟩:=h1.lst <;> subst q <;> show λ _=>nofun
   .cases e
  .show Å0
 .show Å0
 .cases e
theorem mF.mo:vm mF:=λ ds S Q Q' hq h=>by
 rcases h with h | ⟨d,ns,h1,h2,h3,h4,h5⟩
 .show .inl (uk.mo ds S Q Q' hq h)
 .show Ű #[d,ns,h1,h2,h3,h4,λ l hl=>hq þ (h5 l hl)]
def Lz {w:World}ŵ Ë1{S:SS}{Q:VK}{d:D}{ns:ô}(h0:zo K H [d] xs) (h2:zK K H S) (hn:∀ ts,d≠ É6) (e:yg d S=↑(ns.map D.int)) (GL:Ç8) (h:∀ l,S l=none->xZ K H Q Ã1):
  ∃ p,∃ HD:ô,xs=[Ê p]/\zU K H p (HD.map V.int)/\HD.length<64/\
   ∀ (l:Addr) (us:Ad) (ms:ô),H l=none->ų us ms->ms.Nodup->(∀ n,n∈ms↔n∈HD)->
    ∃ l' us',∃ HE:ô,[V.ref l]=[Ê l']/\ê l'=↑(.ext (ST.yQ w l' us'))/\ų us' HE/\HE.length<64/\
     ∀ (p:Addr) (ns:ô),ê p=none->ns.Perm HE->ns.Pairwise (·<=·)->Q (Ê p) (upd ê p (ſ ũ)):=by
 let#[x,hx,h1]:=h0.one;subst hx;let#[a,ys,rfl,g1,g2]:=tj h1 h2 e hn;rw[g2.ints] at g1;exact#[a,ns,rfl,g1,GL,λ l us ms hf hi nd Cy=>#[l,us,ms,rfl,yr,hi,?_,λ p ns2 hp pm srt=>?_]]
 .have:=ST.kz ms ns nd λ x hx=>(Cy x).mp hx;lia
 .have x1:Ext H ê:=.new hf _;have Al:p≠l:=λ z=>by subst z;rw[yr] at hp;cases hp
  have hpH:H p=none:=by rw[zV Al] at hp;show hp
  have x2:Ext ê (upd ê p (ſ (ns2.map V.int))):=.new hp _;have heq:ns2=xm ns:=WU (pm.nodup_iff.mpr nd) srt (nC ns) λ k=>by rw[pm.mem_iff,Cy,mm]
  exact h p (h2.none hpH) þ ŗ (x1.trans x2) ((h2.new hf).ups x2 #[_,yr,?_]);rw[<- heq];show zo.iT ns2
def Rx {k:Nat}(hr:yo k X.A) (hm:X.mg "sorted"=none) (Iv:X.mg "set"=none) (ha:xc X [e] tA) ŋ (hg:Gl X "sorted") (Hn:Gl X "set")
  (he2:Az X e [])
  (he:È8 [ľ] ŝ=(ċ,eval (ľ) ŝ)::È8 [] ŝ) Æ2:
  PD X (.Call (.Name "sorted" p) [ľ] [] pos) (xR mF tA):=by
 have h:=t9 (p:=p) (yS.or (ST.Ks hc) (ST.Kr hc)) hg hm boot_sorted (ud (pP (yS.or (ST.Ku hc hr.units) (ST.Y8 hc)) Hn Iv PyProof.Rows.boot_set ha.pa () () he2 IQ) tB he) () () he Al;exact#[xR.mo mF.mo ha.mo,PE.imp h fun σ H Q hu=>?_];ext Į;exact xW.go ha.mo r1 r2 z λ ds S1 xs H1 h1 q1 e1 p1=>?_;rcases h1 with h1 | ⟨d,ns,rfl,c1,c2,c3,h1⟩
 .let#[p,ys,FI,a1,a2,a3,a4,a5]:=uk.fits (w:=X.w) xs ds H1 S1 Q q1 p1 (uk.mo ds S1 þ (λ d S' z=>z.ext e1) h1);show .inl #[p,ys,FI,a1,a2,a3,a4,λ l us ps b1 b2 b3 b4 b5=>.inl (a5 l us ps b1 b2 b3 b4 b5)]
 .let#[p,HD,a1,a2,a3,a4]:=Lz (w:=X.w) q1 p1 c1 c2 c3 (λ l hl=>(h1 l hl).ext e1);show Ű #[p,HD,a1,a2,a3,λ l us ms b1 b2 b3 b4=>Ű (a4 l us ms b1 b2 b3 b4)]
end
end L5
namespace L5
open Ě L2 L3
def gp:Good2 zE rE gH:=Ç0
def gr:Good2 zE tH gI:=Ç0
end L5
namespace L5
open Ě ø L2 L3
open Õ hiding St
section
variable {ř}{e:Expr}{te:zu}{pos p q:Pos}
def RS (T:Bt X.mg) (he:PD X e te) (hg:Gl X "isinstance") (Hn:Gl X "str") (h1:Az X e [Å1]) (h2:AE X pos [Å1]) (h3:Az X (Å1) []):
  PD X (.Call (.Name "isinstance" p) [e,Å1] [] pos) (o8 "str" te):=ko #[] T.isinstance T.str PyProof.Rows.boot_str Hn () () he hg h1 h2 h3
end
end L5
namespace L3
open Ě Õ L2
section
variable {ř}{pos:Pos}
def wE (E:sj) (W:Nat->yt->SS->Prop) (m:Nat):sj:={ E with nx:=Å8,ct:=Å8,bk:=E.nx }
def mQ (c:yM) (tb:yw):yw:=λ E Y S=>∃ W:Nat->yt->SS->Prop,(∃ m,W m Y S)/\∀ m Y S,W m Y S->
 c Y S λ b S1=>if b=true then tb (wE E W m) Y S1 else E.nx Y S1
def mQ.mo {c:yM}{tb:yw}(hc:vk c) (hb:uA tb):uA (mQ c tb):=λ E E' Y S hE #[W,w0,ws]=>
 #[W,w0,λ m Y S hw=>hc Y S þ (λ b S1 z=>wD (λ z=>hb (wE E W m) (wE E' W m) Y S1 #[λ _ _ q=>q,hE.rt,hE.nx,λ _ _ q=>q] z) (λ z=>hE.nx þ z) z) (ws m Y S hw)]
def SD {c:Expr}{body:List Stmt}{tc:yM}{tb:yw}(hp:PassesOwn (model X.prog X.w) X.A ŝ X.xe) (hc:xF X c tc) (hb:vj X body tb):wI X (.While c body [] pos) (mQ tc tb):=by
 exact#[mQ.mo hc.mo hb.mo,PS.imp (UI hp hc.pt hb.ps) λ D σ H hu=>?_];let#[Y,S,r1,r2,W,#[m0,w0],ws]:=hu;exact#[λ m σ' H'=>Ext H H'/\∃ Y S,yF X.K H' Y σ'/\zK X.K H' S/\W m Y S,#[m0,.refl _,Y,S,r1,r2,w0],?_];rintro m σ2 H2 ⟨x2,Y2,S2,q1,q2,w2⟩;exact w9.go hc.mo q1 q2 (ws m Y2 S2 w2) λ k S3 H3 h3 e3 p3=>wD (λ z=>?_) (λ z=>?_) h3
 .exact#[fun σ' H'=>Ext H H'/\∃ Y S m',m'<m/\yF X.K H' Y σ'/\zK X.K H' S/\W m' Y S,fun σ' H' #[a,Y',S',m',b,c,d,e]=>#[m',b,a,Y',S',c,d,e],Y2,S3,q1.ext e3,p3,?_];show hb.mo (wE (vP X.K H D) W m) _ Y2 S3 #[Ċ,λ _ _ q=>xZ.ext (Ê3) q,λ _ _ q=>xQ.ext (Ê3) q,Ċ] z
 .show z σ2 H3 (q1.ext e3) (Ê3) p3
end
end L3
namespace L5
open Ě Õ L2 L3
def tG Ã4:Nat->Ev->Ë Out
 | 0,_=>none
 | n+1,J=>(c (yX is J)).bind λ k=>if k=true then (b (yX is J)).bind λ o=>match o with
   | .nx J2=>tG is c b n J2
   | .ct J2=>tG is c b n J2
   | .bk J2=>↑(.nx (yX is J2))
   | .rt t=>↑(.rt t)
  else ↑(.nx (yX is J))
def jM (n:Nat) Ã4:Sm:=tG is c b n
def QQ {R:Rk} [Lo R] {n:Nat}{is:List Nat}{c:Ev->Ë Bool}{tc:yM}{b:Sm}{tb:yw}(hc:vD c tc) (hb:yy R b tb):yy R (jM n is c b) (mQ tc tb):=λ S0 Z0 S Z Y J o E F e P=>by
 let#[SB,b1,FB,b2]:=F.rebase;have lo:∀ S' d y,R SB S' Z0 y d->R S0 S' Z0 y d:=λ S' d y r=>Lo.lo b1 (λ _ z=>z) r;exact#[λ m Y' S'=>∃ Z' J',FR SB Z0 S' Z' Y' J'/\tG is c b m J'=↑o,#[n,Z,J,FB,e],λ m Y' S' #[Z',J',F',e']=>?_];cases m with
 | zero=>cases e'
 | succ m=>
  unfold tG at e';let#[k,c1,e']:=Ap.mp e';have G:=F'.yX is;exact hc S' Z' Y' _ k _ G.er c1 λ S3 s3=>?_;cases k with
  | true=>
   rw[if_pos rfl] at e' ⊢;let#[o1,g2,e']:=Ap.mp e';exact hb SB Z0 S3 Z' Y' _ o1 _ (G.grow s3) g2 ?_;cases o1 with
   | nx J2=>show Ź
   | ct J2=>show Ź
   | bk J2=>cases e';show λ S3 Z3 Y3 F3=>P S3 Z3 Y3 ((F3.yX is).back b1 F.z0)
   | rt y=>cases e';show λ d S3 s3 r3=>P d S3 (b1.trans s3) (lo þ _ r3)
  | ċ=>
   rw[Ç7 ()] at e' ⊢;cases e';show P S3 Z' Y' ((G.grow s3).back b1 F.z0)
end L5
namespace TM
open Ě Õ
def Ka (i:Int) Ô:
  Meets Ŧ (λ _ R s=>Ĭ/\Â6):=
 .of_wp λ prog w A R s h=>by
  ext è
  wp_walk
  show ŧ
def mulL Ë4 (x:Int) (u:Tok) (dd:Ĉ) (sl:ź) (hc0:¬(!Builtin.List.listFitsIndex x)=true) (hc1:¬ ì*x.toNat>(2 ^ 63-1)/8) (HQ:¬Builtin.List.listTooLong (ì*x.toNat)=true):
  Meets (Builtin.«list.__mul__» #[[Ê l,ĸ x u],[]]) (λ _ R s=>Ĭ/\R (.ok (.ret (û Ð))) { s with heap:=Ĵ { cls:=ã "list",data:=.seq (List.foldl (λ x1 x2=>x1++x2) Č (È (if Ä7=true then 0 else x.toNat) items)) } }):=
 .of_wp λ prog w A R s h=>by
  ext è
  have AL:=AutoListH.joined_fits HQ
  wp_walk;exact wpAny_ite_false (tx (Nat.not_lt.mpr AL)) ?_;wp_walk;show ŧ
section
variable {ĉ}
def Vk Â1(ht:PlainL Ī l Ĥ) (AA:Aa≠[]) (h0:0<=k) (hz:Ê0*Û<=Ā)  (hk:k<=1000000)
  (more:Q (Ê Ð) { s with heap:=Ĵ { cls:=ã "list",data:=.seq ĥ } }):
  ŷ:=by
 let#[#[cls,dd,data,sl],n,ho,hc,he,hd]:=id ht;simp only at hc hd he;subst hc hd he;have hl:Ê2:=rfl;have Et:Ä8=ċ:=by cases Aa with
  | nil=>show absurd rfl AA
  | cons a r=>rfl
 have hf:List.foldl (λ x1 x2=>x1++x2) Č (È (if Ä8=true then 0 else Û) Ĥ)=ĥ:=by
  rw[Et,Ç7 ()];have:=gD Aa Û Č;exists this
 exact wpAny_binaryOp_repeat_ref (T:="list") (U:="int") () Ê4 (λ s'=>typeIs_int s' k t) noFill_list_mul F.fills_int_mul Ê1 repeat_list F.slot_int_index.lookup
  (Æ9 ī (Ka k t l Ĥ n none sl)
   #[ho,rfl,Ê4,Æ9 F.slot_list_mul Ê4 F.entry_list_mul (F.args_list_mul_2 þ)
    (mulL l Ĥ n k t none sl (by simp[Builtin.List.listFitsIndex];lia) (by simp;lia) (by simp[Builtin.List.listTooLong];lia)) #[ho,?_]])
 rw[hf];show more
end
end TM
namespace L2
open Ě ø Õ
def i6 È2:R2:=λ x y H Q=>∃ a k xs,x=Ê a/\y=ĸ k/\zU K H a xs/\xs≠[]/\0<=k/\k<=1000000/\å*Û<=Ā/\∀ p,H p=none->Q (Ê p) (upd H p (ſ Ũ))
theorem Q9 ř:yp X (binaryOp .Mult) (i6 X.K):=by
 ext Ë3;let#[a,k,xs,rfl,rfl,hx,AA,h1,h2,hz,q]:=h;cases rx;let#[t,rfl]:=ry;let#[Aa,r,ht,_]:=I.list hx;have hl:=r.length;exact TM.Vk ž h2 ?_;have hlen:Ĩ<=Ā:=by
  ext Æ1
 show#[Ê _,_,I.laid (t':=s.toks) (o:=ſ Ũ) (λ b ob q=>gV _ q) (Am _) #[hlen,_,0,r.rep Û,AW _ rfl],rfl,q _ (Ġ)]
end L2
namespace L5
open Ě ø L2 L3
open Õ hiding St
section
variable {ř}{K:Ab}{a b:Expr}{ta tb:zu}{pos:Pos}
def M7:D->Bool
 | .tup _=>true
 | _=>ċ
def kY:yR:=λ x y S Q=>∃ k ds,y=ĸ k/\M7 x=ċ/\yg x S=↑ds/\(ds≠[]/\0<=k/\k<=1000000/\ds.length*Û<=Ā)/\∀ p,S p=none->Q (Ê p) (ups S p (ſ (È Û ds).flatten))
def rP:yR:=λ x y S Q=>tJ x y S Q\/kY x y S Q
def pW:T->T->Ë T
 | ſ ts,ĸ k=>if ts≠[]/\0<=k/\k<=1000000/\ts.length*Û<=Ā then ↑(ſ (È Û ts).flatten) else none
 | x,y=>iX x y
theorem rP.mo:xx rP:=λ x y S Q Q' hq h=>by
 rcases h with h | ⟨k,ds,h1,h2,h3,h4,h5⟩
 .show .inl (tJ.mo x y S Q Q' hq h)
 .show Ű #[k,ds,h1,h2,h3,h4,λ p hp=>hq þ (h5 p hp)]
def kY.fits:xt K kY (i6 K):=λ x y d e H S Q h1 h2 h3 h=>by
 let#[k,ds,rfl,ht,hs,#[c1,c2,c3,c4],h]:=h;simp![zj] at h2;let#[a,xs,rfl,g1,g2]:=tj h1 h3 hs λ ts z=>by subst z;cases ht
 have hl:=g2.length;exact#[a,k,xs,rfl,h2,g1,Ľ,c2,c3,by rw[<- hl];show c4,λ p hp=>?_];show h p (h3.none hp) þ ŗ ā (h3.ups ā #[_,yr,zo.ext ā _ (zo.rep g2 _)])
theorem rP.fits:xt K rP (λ x y H Q=>(ż)\/i6 K x y H Q):=λ x y d e H S Q h1 h2 h3 h=>by
 rcases h with h | h
 .show .inl (tJ.fits x y d e H S Q h1 h2 h3 h)
 .show Ű (kY.fits x y d e H S Q h1 h2 h3 h)
def MY:Good2 zE pW rP:=λ S Z x y z d e Q hz hx hy ef hq=>by
 unfold pW at ef;split at ef
 .rename_i ts k;split at ef
  .rename_i hc;cases ef;let#[ds,g1,g2]:=hx.seq (ts:=ts) rfl;cases hy.int;have hl:=g2.len;exact Ű #[_,ds,rfl,?_,g1,#[Ã3,hc.2.1,hc.2.2.1,by rw[hl];show hc.2.2.2],λ p hp=>hq þ ā (t8 hz hp (zp.rep g2 _))];cases d with
   | tup es=>show absurd hx (by
     intro q;rcases q with q | ⟨us,p,G1,_,q,_⟩
     .simp![Sn] at q;obtain⟨_,⟨q,_⟩ | ⟨_,q,_⟩,_⟩:=q <;> cases q
     .cases q)
   | _=>rfl
  .cases ef
 .show .inl (ZK S Z x y z d e Q hz hx hy ef hq)
def RA (ha:PD X a ta) (hb:PD X b tb):PD X (.BinOp a .Mult b pos) (yB rP ta tb):=rp ((QB.or Q8).or Q9) rP.fits rP.mo ha hb
end
section
variable {α:Type}{P:Æ7->Prop}
def YV (h:∀ a,P [a]) (us:Æ7) (hl:Ä9=1):P us:=match us,hl with | [a],_=>h a
def la (h:∀ a b,P Æ5) (us:Æ7) (hl:Ä9=2):P us:=match us,hl with | Æ5,_=>h a b
def YU (h:∀ a b c,P [a,b,c]) (us:Æ7) (hl:Ä9=3):P us:=match us,hl with | [a,b,c],_=>h a b c
def YT (h:∀ a b c d,P [a,b,c,d]) (us:Æ7) (hl:Ä9=4):P us:=match us,hl with | [a,b,c,d],_=>h a b c d
end
end L5
namespace L5
open Ě ø L2 L3
open Õ hiding St
section
variable {Ń}{K:Ab}{mg:Au}{base h:Heap}{x:Str}{st:Stmt}
def Fx È2 (x:Str) (st:Stmt):Prop:=∃ (f:Addr) (oc:í) (od:Ĉ) (kV dc pm:í) (an:Ĉ) (cd ct:í) (sl:ź),
 Ĝ=↑↑(Ê f)/\Ē/\PySem.W.codeIn K cd x=true/\È9
def Fx.i {f:Addr}{oc:í}{od:Ĉ}{kV dc pm:í}{an:Ĉ}{cd ct:í}{sl:ź}(a:Ĝ=↑↑(Ê f)) (l:Ē) (c:PySem.W.codeIn K cd x=true) (k:È9):Fx K x st:=#[f,oc,od,kV,dc,pm,an,cd,ct,sl,a,l,c,k]
def Fy È2 (mg:Au) (x:Str) (st:Stmt):Prop:=∃ (f:Addr) (fd:FuncData),wZ K x x st f fd/\mg x=↑(Ê f)
def Fx.mk (H:Fx K x st) ĳ:Fy K mg x st:=by
 ext Ĺ;show#[f,_,gz l c k,Ã6]
theorem Fx.law {fa:Addr}{p:Str}(H:Fx K "law" st) ĳ (FA:mg "law"=↑(Ê fa)) (hb:∀ (kV dc pm:í) (an:Ĉ) (cd ct:í) (s:Shared) (v:í),BindsTo s (PySem.W.fnOf "law" "law" Ţ dc pm an cd ct) #[[v],[]] [(p,v)]):∃ fd:FuncData,wZ K "law" "law" st fa fd/\∀ (s:Shared) (v:í),BindsTo s fd #[[v],[]] [(p,v)]:=by
 ext Ĺ;have e:=FA.symm.trans (Ã6);cases e;show#[_,gz l c k,hb kV dc pm an cd ct]
def Cn È2 (x:Str) (t:V):Prop:=∃ u,Ĝ=↑↑u/\L2.RelV t u
def Cn.i {t:V}{u:í}(a:Ĝ=↑↑u) (r:L2.RelV t u):Cn K x t:=#[u,a,r]
def Cn.mk {t:V}(H:Cn K x t) ĳ:∃ u,mg x=↑u/\L2.RelV t u:=by
 let#[u,a,r]:=H;show#[u,Ã6,r]
def LG {R:Rk} [Lo R] {N ps:List Str}{k n:Nat}{g:Sm}(F:Fy K mg x st) (Sc:vF N ps (zS st)) (hn:n=ps.length)
  (hb:∀ (kV doc pm:í) (an:Ĉ) (Ah ct:í) (us:Ad),Ä9=ps.length->bindArgs (PySem.W.fnOf x x Ţ doc pm an Ah ct) #[us,[]]=pure (ps.zip us))
  (FW:∀ (f:Addr) (Ah:í) (A:Around) (outer:List Env) (s:Shared) (H:Hp) (E:XK),yo k (A.deeper (envOfC x (zS st) Ð f Ah))->
   ∃ t,vj (xj yT P w K mg base N x (zS st) f Ah A outer s H E).x9 (xi st) t/\yy R g t):FD P w K mg base x (k+1) ps (zG R (zM N n g)):=by
 let#[f,fd,F,hm]:=F;show LH F hm Sc hn hb (FW f)
end
end L5
namespace Ě
section
variable {Đ}{Í}
variable {nm q:Str}{C N:Addr}{bs bm F6:Ad}{hdct:Bool}{Ã}{B newId Hk:Ū}
def W3 Ę Ŷ
  ÿ
  (hq:∀ h' e,Ý<=e->Ê5->
   î Æ A (call (Ê fI) (Ê e::FJ)) (λ r s'=>r=ć/\Q (.done (.ret ņ)) s') E #[h',g,d,t,os]) (Ge:FJ.length<=Ā):
  î Æ A (Builtin.«type.__call__» #[Ê C::FJ,[]]) Ś:=by
 repeat (first | ext ą | with_reducible exact wpAny_madeBy_exc hC ?_ | wp_step)
 exact codeAny_call_builtin_code (Å2 _ F.quiet) (wpAny_check_new_subT F T hC ?_);exact codeAny_exc_new_subT F T hC ?_ Ge;change î þ þ þ;have up:∀ b o,Ê6->é b=↑o:=λ b o e=>gV _ (gV _ e);have hC₁:=up þ hC;have hfI₁:=up þ hfI;have BV:é (Ý+1)=some
   { cls:=Ê C,data:=Ů }:=by heap_get
 have hcC:Ã7 Ř=true:=#[];unfold isInstance
 repeat (first | with_reducible exact za4 BV ?_ | (with_reducible exact zaE hC₁ ?_;rw[hcC]) | wp_step)
 change î þ (Ç1 Ř _) þ _;exact wpAny_typeLookup_tail hC₁ (hn.keeps up) (T.keeps up) F.mroIs F.init.lookup ?_;rw[hi];exact za7 (MX ?_);unfold bindSpecial;exact MX (zaK (T:="function") #[_,hfI₁,D2] ?_);rw[if_pos ()];exact Ac (MX (za6 (hq _ (Ý+1) (CJ _) #[up,zaQ (CJ _),Ý,BV,zaQ (Am _),?_]) (λ r s' hr=>?_) λ _ _ x=>x))
 .show gV _ Ê7
 .let#[rfl,hQ]:=hr
  wp_walk
  show hQ
def WG Ę{Q:Ag}
  ÿ
  (hq:∀ h' e,Ý<=e->Ê5->
   î Æ (A.under (Ä6 "type.__call__" #[Ê C::FJ,[]])) (call (Ê fI) (Ê e::FJ)) (λ r s'=>r=ć/\Q ņ s') E #[h',g,d,t,os]) (Ge:FJ.length<=Ā):
  î Æ A (call Ř FJ) Ś:=by
 have f1:=tc_lookup;have f2:=tc_bind Ř;have hT:(Á:Shared).TypeIs Ř "type":=#[_,hC,rfl];exact wpAny_call (codeAny_of_tree ?_);change î þ (callAny Ř _) þ _
 repeat (any_goals (first | ext ť | ext ą | wp_step))
 exact#[rfl,?_];show codeAny_call_builtin_at (Å2 _ (AM)) entry_typeCall (wpAny_check_type_call_sub hC (W3 F T hC hn hi hfI D2 (λ h' e hl hm=>hq h' e hl hm) Ge))
def dW Â2{env:Env}Ŋ{x:Sem í}{Q:Flow->Ü}(Gi:bm.contains ă=true) (hh:A.handled=none)
  (hx:î M A x (λ v s₁=>∃ e yP vs sl,v=Ê e/\ū C=↑ Î/\
   ū e=↑{ cls:=Ê C,dict:=yP,data:=ï [Ê vs,ć,ć,ć,.bool ċ,ć].toArray,slots:=sl }/\E ņ s₁) E s):
  î M A (raiseStmt env ↑x none) Q E s:=by
 have hcB:Ã7 ă=true:=by rw[Bu,Gi,CI]
 unfold raiseStmt;exact MX (za6 hx (λ v s₁ h₁=>?_) λ _ _ x=>x);let#[e,yP,vs,sl,rfl,hC,he,hE]:=h₁;let#[hp,g,d,tk,os]:=s₁
 repeat (first | with_reducible exact za4 he ?_ | ext ą | ext ē | wp_step)
 show wpAny_raiseNew_none hh hE
end
end Ě
namespace Ě
open Builtin Builtin.ObjectAttr
section
variable {Đ}{Â2}{Í}
variable {Ä1}{hdct:Bool}{Ã}{Á1}{name:Str}{v:í}
structure sS (h:Heap) (P:Addr) (mP:Au):Prop where
 ex:∃ (c0:í) (dd:Ĉ) (cd:ClassData) (sl:ź),č P=↑{ cls:=c0,dict:=dd,data:=.cls cd,slots:=sl }/\h.Ns cd.ns mP
def s_ {n:Str}{y:Ë í}{Q:Ë í->Ü}
  (hC:č C=↑(Ê8 nm q C N bs (Ê P::F6) hdct sn sub ś)) ä (hbm:Â8) (hB:Ç1 (ã B) n=pure y)
  (h1:mN n=none) (h2:mP n=none) (hq:Q y Á):î M A (Ç1 Ř n) Ś:=by
 let#[c0,pd,cd,sl,hA,hN]:=hP.ex;have Ge:lookupAlong F6 n=pure y:=by rw[typeLookup_eq,hbm] at hB;show hB
 rw[typeLookup_eq];exact MX (wpAny_mroOf_exc hC ?_);rw[lookupAlong_cons];exact MX (wpAny_classOwn_exc hC hn ?_);rw[h1];change î M A (lookupAlong (Ê P::F6) n) Q E _;rw[lookupAlong_cons];exact MX (wpAny_classOwn_cls hA hN ?_);rw[h2];change î M A (lookupAlong F6 n) Q E _;rw[Ge];show Ac hq
def WD {o:Obj}{Hj:í}ţ{sa owner:Ū}ħ Ç (hq:Q Ê9 Á):
  î M A (À0 sa #[[Ê x,Hj,v],[]]) Ś:=by
 have hcB:Þ (ã owner)=true:=by rw[Bu,Bu,SF.hasOwner,CI,CI]
 have ha:=SF.args Ç9 Hj v;simp![À0,SF.kind,SF.split];exact MX ?_;unfold isInstance
 ext È3
 cases E_:Manifest.signature? sa with
 | none=>show Ac hq
 | some sig=>
  simp![argsOk,E_] at ha;have h2:Ž=pure Ê9:=ha;change î M A (Ž) Q E _;rw[h2];show Ac hq
def W4 É1 Ŷ{sa owner:Ū}{o:Obj}ħ ä Ó Ç (FE:o.dict=none) Ų
  (hq:∀ h' ID,Å9->À9->
   (∀ b o,b≠x->ű)->Q (.done (.ret ć)) #[h',g,d,ID,os]):
  î Æ A (È0 #[[Ê x,.str name tk,v],[]]) Ś:=by
 have hpass:=SF.passes Ç9;unfold È0
 repeat (first | rw[refuse_eq] | (rw[refuseLoop_ref,refuseLoop_ref,hpass]) | ext Ä | with_reducible exact wpAny_mroOf_exc hC ?_ | (with_reducible exact s_ ĺ SF.mro hB BS BF ?_) | wp_step)
 rw[FE,Ç7 (by simp[typeHasDict])];split
 .rename_i Bg;cases Bg
 split
 ext È7
 .have hx₁:(Á6).get? x=↑o:=gV _ hx;have C2:x≠ Ý:=AB (An hx);exact MX (wpAny_alloc' ?_);exact MX (wpAny_update' hx₁ ?_);exact Ac ?_;have hgd:(ú).get? Ý
    = ↑{ cls:=ã "dict",data:=.dict Č }:=
   (zaL þ þ C2.symm).trans Ê7
  have BM:(ú).Ns Ý (λ _=>none):=
   #[_,Č,_,hgd,rfl,λ e he=>absurd he #[],λ _=>rfl]
  change î þ (storeInDict Ý (.str name tk) name v) þ _;unfold storeInDict newKeyGuard;exact MX (Ac (MX (wpAny_nsSet1 (Heap.Ns1.of_empty BM) λ h' HF hs=>?_)));let#[oD,esD,epD,hoD,hdD,hcD]:=HF.count (Within.cons name v Within.nil);exact MX (wpAny_lookBehind hoD (by rw[hdD];show pastItsLine_dict (Bc hcD (by rw[Be,Dv,sizeLine_eq];lia))) ?_)
  wp_walk
  exact hq h' _ ?_ HF λ b ob hbx hb=>?_
  .exact (hs.2 x C2).trans (za8 _ hx₁ ?_);have A6:=(Heap.get?_some_iff.mp hx).2;let#[oc,od,odt,H_]:=o;cases odt <;> first | rfl | show A6
  .show (hs.2 b (AB (An hb))).trans ((zaL þ þ hbx).trans (gV _ hb))
def W5 ţ{sa owner:Ū}{o:Obj}ħ ä (Bo:mN "__setattr__"=none) (hps:mP "__setattr__"=none) Ó Ç (FE:o.dict=none) Ų
  (hq:∀ h' ID,Å9->À9->
   (∀ b o,b≠x->ű)->Q Ê9 #[h',g,d,ID,os]):
  î Æ A (setAttr Ç9 name v) Ś:=by
 have f3:=SF.slot.bind Ç9;unfold setAttr callSpecial? specialOf
 repeat (any_goals (first | ext ť | ext Ä | (with_reducible exact s_ ĺ SF.mro SF.slot.lookup Bo hps ?_) | wp_step))
 exact ő SF.slot.plain SF.entry (WD SF hC hx hc (W4 SF ĺ BS BF hB hx hc FE BR λ h' ID h1 h2 h3=>?_))
 ext Ģ
 show hq h' ID h1 h2 h3
end
section
variable {Đ}{Â2}{Í}
variable {nm q:Str}{C N P x dx:Addr}{bs F6:Ad}{Ã}{B newId:Ū}
 {mN mP mA:Au}{name:Str}{v:í}{o:Obj}
def dZ {Hj:í}ţ(hb:Ŵ ă=true) (hC:À)
  Ç (hq:Q Ê9 Á):î M A (À0 "BaseException.__getattribute__" #[[Ê x,Hj],[]]) Ś:=by
 have hk:builtinKind "BaseException.__getattribute__"=↑.slot:=Á7
 have hsplit:splitId "BaseException.__getattribute__"=↑("BaseException","__getattribute__"):=Á7
 have hcB:Þ ă=true:=by rw[Bu,Bu,hb];rfl
 have ha:=F.args_bexc_ga Ç9 Hj;simp![À0,hk,hsplit];exact MX ?_;unfold isInstance
 ext È3
 show hq
def W6 É1 Ŷ
  (hC:À) ä (hm:Â8) Ó Ç ğ (hq:Q (.done (.ret v)) Á):
  î Æ A (ĭ #[[Ê x,.str name tk],[]]) Ś:=by
 unfold ĭ
 repeat (first | ext Ä | ext Ä3 | wp_step)
 split
 ext È7
 unfold instanceDict
 repeat (first | ext Ä | ext ą | wp_step)
 rw[Ds]
 repeat (first | (with_reducible exact wpAny_nsGet Bo.ns ?_;rw[hv]) | wp_step)
 show hq
def W9 {expr:Bool}{Q:Ag}(FB:À1)
  (hC:À) ä ü Ó Ç ğ (hh:handedOut v=pure v) (hq:Q v #[h,g,d,t+1,os]):
  î Æ A (getAttr Ç9 name expr) Ś:=by
 have f3:=FB.ga.bind Ç9;have hx0:(expr&&onTheHeap (Ż))=ċ:=by cases expr <;> rfl
 have hx2:(Ò)=ċ:=Á7
 ext À4
 unfold getAttr getAttrBy
 ext á
 exact ő FB.ga.plain F.entry_bexc_ga (dZ FB.hasBase hC hx hc (W6 ĺ FB.mro BS BF hB hx hc BR Ds Bo hv ?_))
 repeat (any_goals (first | ext ť | (rw[hh];show Ac hq) | wp_step))
end
section
variable {Đ}{Í}
variable {Ä1}{Ã}{Á1}{o:Obj}
def WA {R:Result->Ü}ö
  Ç (hq:R (.ok (.ret Ř)) Á):
  codeAny Æ A (.call (Ä6 "getset_descriptor.__get__") #[[Š,Ê x,Ê C],[]]) R Á:=by
 ext Ĕ;have hcB:Þ (ã (".".intercalate ("object.__class__".cutAt '.').dropLast))=true:=by rw[F.owner_object_class,Bu,Bu,hb];rfl
 exact ő F.slot_gs_get.plain F.entry_gs_get (F.slot_gs_get.check þ þ þ þ hT5 (F.args_gs_get þ _) ?_)
 repeat (any_goals (first | ext ť | ext Ä | ext ē | wp_step))
 exact#[Å2 _ (AM),codeAny_builtin F.entry_object_class ?_]
 ext Á2
def WB É1 Ŷ ö ä (hm:Â8)
  (hB:ó) ů
  Ç (hq:Q (.done (.ret Ř)) Á):
  î Æ A (ĭ #[[Ê x,.str "__class__" tk],[]]) Ś:=by
 ext Ĕ;have f5:=F.typeOf_object_class;have f6:=F.slot_gs_get.lookup;have f7:=F.slot_gs_set.lookup
 repeat (any_goals (first | ext ť | ext Ä | ext Ä3 | wp_step))
 exact WA hb hC hx hc ?_
 ext Ģ
def WC É1{Q:Ag}(FB:À1) ö Ï
  Ç (hq:Q Ř Á):î Æ A (getAttrBy Ç9 (.str "__class__" tk) ċ) Ś:=by
 have f3:=FB.ga.bind Ç9;have hx2:(Ò)=ċ:=Á7
 ext À4
 ext á
 exact ő FB.ga.plain F.entry_bexc_ga (dZ FB.hasBase hC hx hc (WB hb ĺ FB.mro hB BS BF hx hc ?_))
 ext Ģ
def dY {Q:Ë í->Ü}(FB:À1) ö Ï
  Ç (hq:Q ↑ Ř #[h,g,d,t+1,os]):î Æ A (getAttr? Ç9 "__class__") Ś:=by
 unfold getAttr? getAttrBy?
 repeat (any_goals (first | ext ť | with_reducible apply WC FB hb ĺ hB hq1 hq2 hq3 hq4 BS BF hx hc | wp_step))
end
section
variable {Đ}{Í}
variable {nm q:Str}{C N P x D:Addr}{bs F6:Ad}{Ã}{Á1}{o:Obj}
structure eg (h:Heap) (C P:Addr) (B:Ū) (F6:Ad):Prop where
 FB:À1
 hb:Ŵ (ã "object")=true
 hB:ó
 ex:∃ (nm q:Str) (N:Addr) (bs:Ad) (sn:List Str) (sub:Ad) (ab:Bool) (col:Ë Bool) (dd:Ĉ) (k0 k1 k2 k3 k5:Ë í) (newId:Ū) (mN mP:Au),
  À/\h.Ns N mN/\sS h P mP/\
  ∀ n∈(["__getattribute__","__getattr__","__class__"]:List Str),mN n=none/\mP n=none
def W8 É1{dep:Int}Ŷ{oD:Obj}{cD:ClassData}(X:eg h C P B F6) Ç (hD:č D=↑oD) (hDc:oD.cls=ã "type") (hDd:oD.data=.cls cD)
  (hq:∀ t',Q (.done (.ret (.bool (Þ (Ê D))))) #[h,g,d,t',os]):
  î Æ A (Œ #[[Ê x,Ê D,ĸ dep tk],[]]) Ś:=by
 ext Ñ;by_cases he:C=D
 .subst he;have Bp:Þ Ř=true:=#[];rw[Bp] at hq;have Eu:(û C == û C)=true:=#[]
  ext Á2
  show hq _
 .have Eu:(û C == û D)=ċ:=by exists he
  cases Bp:Þ (Ê D) with
  | true=>
   rw[Bp] at hq
   repeat (any_goals (first | ext ť | ext Ä | ext Å6 | ext Æ3 | ext ė | wp_step))
   show hq _
  | ċ=>
   rw[Bp] at hq
   repeat (any_goals (first | ext ť | ext Ä | ext Å6 | ext Æ3 | ext ė | ext į | ext ą | wp_step))
   show hq _
def W7 É1{dep:Int}Ŷ{T:Ū}(X:eg h C P B F6) Ç (hty:typeOf (ã T)=pure (ã "type"))
  (hq:∀ t',Q (.done (.ret (.bool (Ŵ (ã T))))) #[h,g,d,t',os]):
  î Æ A (Œ #[[Ê x,ã T,ĸ dep tk],[]]) Ś:=by
 ext Ñ;have Eu:(û C == Value.type T)=ċ:=rfl;have Bp:Þ (ã T)=Ŵ (ã T):=by rw[Bu,Bu];rfl
 cases hct:Ŵ (ã T) with
 | true=>
  rw[hct] at hq Bp
  repeat (any_goals (first | ext ť | ext Ä | ext ė | wp_step))
  show hq _
 | ċ=>
  rw[hct] at hq Bp
  repeat (any_goals (first | ext ť | ext Ä | ext ė | ext į | ext ą | wp_step))
  show hq _
def dX {c:í}{b:Bool}Ŋ{Q:Ag}(hn:∀ (prog:Program) (w:World) (A:Around) (Q:Fin->Ü) (E:Ag),(∀ t',Q (.done (.ret (.bool b))) { s with toks:=t' })->î Æ A (Œ #[[Ê x,c,rawInt 0],[]]) Q E s)
  (hq:∀ t',Q (.bool b) { s with toks:=t' }):î Æ A (call (Ä6 "isinstance") [Ê x,c]) Q E s:=
 call_isinstance (S:=λ _ R s'=>s'=s/\∀ t',R (.ok (.ret (.bool b))) { s with toks:=t' }) (λ prog w A R s' hs=>by
  let#[rfl,hs]:=hs;exact isinstance_outer (hn prog w þ _ λ t'=>?_) (λ e=>by cases e);show hs t') #[rfl,λ t'=>hq t']
end
namespace Heap
def oQ (h base:Heap) (e:Addr) (cls a0 fl:í) (yP:Ĉ) (T:Addr):Prop:=
 ∃ oe vs oT ts,Ç2/\((oe.cls=cls/\oe.dict=yP)/\Á8)/\ŏ/\vs[1]?=↑(Ê T)/\base.get? T=none/\T≠e/\č T=↑oT/\Å3/\ts[3]?=↑fl
structure j5 Å7 (cls a0:í) (yP:Ĉ) (h h':Heap):Prop where
 stays:š h'
 frames:Ã8
 tr:∃ T,Ý<=T/\h'.oQ Ŗ
 slots:h.UpToSlots h'
 qx:∀ b o vs,Ê6->đ
end Heap
def Obj.Yj (f:Array í->Array í) (o:Obj):(Å4 f o).dict=o.dict:=by
 let#[c,dc,dt,sl]:=o;cases dt <;> rfl
section
variable {Â2}{Ł}{Ŋ}
def dS Ú Â3 Å
  Ë5 ß (hd:ŏ) (AL:1<vs.size) ď:
  î M A õ (λ _ s'=>î M A Ã9 Q E s') E s:=by
 have Dc:È4:=λ hm=>by
  ext œ
 exact ĝ;ext Â
 ext Æ4
 ext Á5;exact zaF he₂ hd AL ?_;ext É;unfold setFlight;exact MX (za5 he₃ hd₃ (x:=Ê Ė) (by simp[AL]) ?_);rw[if_pos (show (û Ė != Ŭ)=true from by simp)];exact zaF hT₃ tbd (by simp![AG,Bh,Be,Dv] <;> lia) (h _ ?_);have keep:∀ b o,b≠e->À2->(((È1).update e Ø).update Ė Ğ).get? b=↑o:=λ b o Co hb=>by
  rw[za9 þ (BB (An hb)),za9 þ (Ş Co)];show gV _ hb
 have FP:∀ b o,ĵ->(Ą)->b≠e:=λ b o hb AH q=>by
  ext É9
 exact ë
 .ext ķ;show#[_,Ħ,rfl]
 .exact#[Ė,by rw[Ir.1];show Am _,_,_,_,_,?_,Ŀ,hd₃,by simp[AL],kb₁.fresh,Im,za8 _ hT₃ (Á9 (ý tbd _)),ý tbd _,by first | (simp;done) | (rcases Al with rfl | ⟨_,_,_,_,_,_,_,rfl⟩ <;> simp)];rw[za9 þ Im];show he₃
 .ext ķ;show#[sl,Ħ]
 .by_cases q:b=e
  .subst q;show#[_,_,(by rw[za9 þ Im];show he₃),hd₃]
  .have hb₁:À2:=(Ir.2.1 b λ hm=>by
    ext Ō).trans hb
   show Å5
def Wz Ú{oe:Obj}{vs:Ar}{a0:í}Å
  Ë5 ß (hd:ŏ) (h1:vs[1]?=↑ ć) ď:È5:=by
 ext Ň;rw[Ç7 ()];show dS A6 hl hf he Cg CC hd (ě h1).1 h0 h
def Wv Ú{cls a0:í}È6 Å (ht:s.heap.oQ Ŗ) ß
  (h:∀ h',Heap.j5 base (ň) e cls a0 yP Ī h'->Ù):È5:=by
 ext ę;ext Ň;ext Ì;have FP:Á0:=λ b o hb AH q=>by
  ext ş
 exact dS ù
  λ h' x=>h h' #[x.stays,x.frames,(by
   ext ĩ),Æ0,λ b o us hb BN=>(by
   by_cases q:b=T
   ext Ç5
   .show x.qx b o us (Â9) BN)]
end
structure Heap.Xi Å7 (cls a0 fl:í) (yP:Ĉ) (h h':Heap):Prop where
 stays:š h'
 frames:Ã8
 tr:∃ T,Ý<=T/\h'.oQ base e cls a0 fl yP T
 slots:h.UpToSlots h'
 qx:∀ b o vs,Ê6->đ
section
variable {Â2}{Ł}{Ŋ}
def W0 Ú Â3 Å
  Ë5 ß (hd:ŏ) (AL:1<vs.size) (h0:Á8)
  (h:∀ h',Heap.Xi base (ň) e oe.cls a0 (rawInt L) oe.dict Ī h'->Ù):
  î M A õ Q E s:=by
 have Dc:È4:=λ hm=>by
  ext œ
 exact ĝ;ext Â
 ext Æ4
 ext Á5;exact zaF he₂ hd AL (h _ ?_);ext É;have keep:∀ b o,b≠e->À2->((È1).update e Ø).get? b=↑o:=λ b o Co hb=>by
  rw[za9 þ (Ş Co)];show gV _ hb
 have FP:∀ b o,ĵ->(Ą)->b≠e:=λ b o hb AH q=>by
  ext É9
 exact ë
 .ext ķ;show#[_,Ħ,rfl]
 .show#[Ė,by rw[Ir.1];show Am _,_,_,_,_,he₃,Ŀ,hd₃,by simp[AL],kb₁.fresh,Im,hT₃,tbd,#[]]
 .ext ķ;show#[sl,Ħ]
 .by_cases q:b=e
  .subst q;show#[_,_,he₃,hd₃]
  .have hb₁:À2:=(Ir.2.1 b λ hm=>by
    ext Ō).trans hb
   show Å5
def Wu Ú{cls a0:í}È6 Å (ht:s.heap.oQ Ŗ) ß
  (h:∀ h',Heap.Xi base (ň) e cls a0 (rawInt L) yP Ī h'->Ù):î M A (noteFrame ņ env) Q E s:=by
 ext ę;unfold noteFrame;simp![hf];exact Ã0;ext Ì;have FP:Á0:=λ b o hb AH q=>by
  ext ş
 exact W0 ù
  λ h' x=>h h' #[x.stays,x.frames,(by
   ext ĩ),Æ0,λ b o us hb BN=>(by
   by_cases q:b=T
   ext Ç5
   .show x.qx b o us (Â9) BN)]
def dR {base:Heap}{l:List Env}{e:Addr}{cls a0 fl:í}È6 ţ
  (Cg:š Ī) (hl:s.heap.FunFrames base l) (ht:s.heap.oQ base e cls a0 fl yP T)
  (h:∀ h',š h'->Ã8->h'.oQ Ŗ->s.heap.UpToSlots h'->(∀ b o vs,ĵ->đ)->Ù):î M A Ã9 Q E s:=by
 let#[oe,vs,oT,ts,he,Bk,hd,h1,hnT,Im,hT,HP,h3]:=ht;have hsz3:3<ts.size:=(ě h3).1;have other:∀ b,b≠T->(s.heap.update T Ğ).get? b=Ö b:=
  λ b hb=>za9 þ (Ş hb)
 have FP:Á0:=λ b o hb AH q=>by
  ext ş
 unfold setFlight;exact Ã0;rw[Â4];exact zaF hT HP hsz3 (h _ ð
  À5 ?_ (λ b o hb AH=>#[o.slots,æ]) λ b o us hb BN=>?_)
 .show#[oe,vs,_,_,(other e (Ş Im)).trans he,Bk,hd,h1,hnT,Im,â,ý HP _,by simp[hsz3]]
 .by_cases q:b=T
  .subst q;show#[_,_,â,ý HP _]
  .show#[o,us,Â9,BN]
end
end Ě
namespace Ě
open Calls Spec
section
variable {Đ}{Â2}{Ł}{env:Env}
variable {nm q:Str}{C N:Addr}{bs bm:Ad}{hdct:Bool}{Ã}{newId:Ū}
variable {nm' q':Str}{P N':Addr}{bs' bm':Ad}{hdct':Bool}{sn':List Str}{HR:Ad}{ab':Bool}{HU:Ë Bool}{dd':Ĉ}{l0 l1 l2 l3 l5:Ë í}{IK:Ū}
def Ww ō{e:Addr}{oe:Obj}{Q:Bool->Ü}
  (hC:č C=↑ Î) (hP:č P=↑ ġ)
  (he:Ç2) (Bk:oe.cls=Ê C) Ŝ
  (hq:Q true Á):î M A (excMatches ņ (Ê P)) Ś:=by
 have hcB:(û P::bm').contains ă=true:=by rw[Bu,Gi,CI]
 have hcP:Ã7 (Ê P)=true:=by rw[Bu,hm,CI]
 have f:=tc_notTuple;unfold excMatches
 repeat (first | (with_reducible exact za4 he ?_;rw[Bk]) | with_reducible exact za4 hP ?_ | (with_reducible exact zaE hP ?_;rw[hcB]) | (with_reducible exact zaE hC ?_;rw[hcP]) | wp_step)
 show hq
def Wx Ŋ{e:Addr}{t:Expr}{n:Str}{b₀:Stmt}{suite:List Stmt}{pos:Pos}{FJ:List ExceptHandler}{Q:Flow->Ü}
  Ŝ
  (h:î Ď (eval t env) (λ c s₁=>c=Ê P/\ū C=↑ Î/\ū P=↑ ġ/\(∃ oe,ū e=↑oe/\oe.cls=Ê C)/\
   î Ď Ã9 (λ _ s₂=>
     î Ď (storeName env n ņ) (λ _ s₃=>
      î Ď (execs (b₀::suite) env)
       (λ f s₄=>î Æ A (do bindName env n ć;unbindBehindTheSuite env n pos) (λ _ s₅=>Q f s₅) E s₄)
       (AsSuiteRaised Ď env n pos à) s₃) à s₂) à s₁) à s):
  î Æ A (handleBy ņ env (.ExceptHandler ↑t ↑n (b₀::suite) pos::FJ)) Q E s:=by
 exact wpAny_handleBy_cons (codeAny_handlers_test (za6 h (λ c s₁ h₁=>?_) λ _ _ y=>y)) (by intro q;cases q);let#[rfl,hC,hP,#[oe,he,Bk],hk]:=h₁;let#[hh,g,d,tk,os]:=s₁;show Ww hC hP he Bk Gi hm (codeAny_handlers_suite_as hk)
end
end Ě
namespace L3
open Ě ø L2
open Õ hiding St
def wy (T:Addr):HO:=.ext λ h=>∃ oT ts,č T=↑oT/\Å3
def Xq (h:Heap) (e:Addr):Prop:=∃ oe vs a0,Ç2/\ŏ/\vs[1]?=↑ ć/\Á8
def qY (h:Heap) (H:Hp) (e:Addr):Prop:=∃ oe vs a0 T oT ts,Ç2/\ŏ/\Á8/\vs[1]?=↑(Ê T)/\T≠e/\H T=↑(wy T)/\č T=↑oT/\Å3/\ts[3]?=↑ ć
def lu (H:Hp) (e:Addr):Prop:=∃ C dx,H e=↑(vb e C dx)
section
variable {Ń}{Ë1}{h h':Heap}
def gE {fs as:List Addr}(zr:yD P w H h) (hf:∀ b∈fs,H b=none/\∀ o,Ê6->Ą) (st:(Â0 h as).StaysIn h') (us:h.UpToSlots h')
  (has:∀ a∈as,a∈fs\/∃ φ:Heap->Prop,H a=↑(.ext φ)/\φ h'/\∃ o,h'.get? a=↑o):Un fs [] H H h h'/\yD P w H h':=by
 have HI:∀ b o,b∉as->ű:=λ b o hb e=>st b o (PySem.W.hideAll_get _ e hb);exact#[#[λ b o e n hb _=>HI b o (λ hm=>?_) e,λ b o e n hb _=>us b o e ((hf b hb).2 o e),λ _ _ _ n _=>n,λ b o e _=>?_,λ _ _ q=>q,λ _ _ _ q=>q,λ _ ps q=>#[Č,by rw[q];simp]],λ a o e=>?_]
 .rcases has b hm with z | ⟨φ,z,_⟩
  .show hb z
  .rw[n] at z;cases z
 .by_cases hm:b∈as
  .rcases has b hm with z | ⟨φ,_,_,z⟩
   .let#[sl,q]:=us b o e ((hf b z).2 o e);show#[_,q]
   .show z
  .show#[o,HI b o hm e]
 .by_cases hm:a∈as
  .rcases has a hm with z | ⟨φ,z,z1,z2⟩
   .rw[(hf a z).1] at e;cases e
   .rw[e] at z;cases z;show#[z1,z2,(zr a _ e).2.2]
  .exact (zr a o e).vc (λ b u hb q=>?_) (λ _ q=>q) λ _ _ q=>q;rcases hb with rfl | hb
   .show HI _ u hm q
   .exact HI _ u (λ hm'=>?_) q;rcases has b hm' with z | ⟨φ,z,_⟩
    .rw[(hf b z).1] at hb;cases hb
    .rw[hb] at z;cases z
def ZX {fs:List Addr}{T:Addr}{oT:Obj}{ts:Ar}(u:Un fs [] H H h h') (zr:yD P w H h') (hk:yD P w H h) (hp:Ý<=T) (e:h'.get? T=↑oT) (hd:Å3):
  H T=none/\Un fs [] H ŉ h h'/\yD P w ŉ h':=by
 have hn:=hk.fresh hp;exact#[hn,#[u.keep,u.slot,λ b o q n x=>by rw[zV (AB (Ba (An q) hp))];show n,u.there,λ b xs q=>by rw[zV (xO q hn)];show q,λ b o xs q=>by rw[zV (xO q hn)];show q,λ b ps q=>#[Č,by rw[zV (xO q hn),q];simp]],λ b o q=>?_];by_cases hb:b=T
 .subst hb;rw[yr] at q;cases q;show#[#[oT,ts,e,hd],#[oT,e],λ h1 h2 #[o,ts,a,b] k=>#[o,ts,k _ a,b]]
 .rw[zV hb] at q;show (zr b o q).vc (λ _ _ _ z=>z) (λ c z=>by rw[zV (xO z hn)];show z) λ c xs z=>by rw[zV (xO z hn)];show z
end
section
variable {ř}{FH:Aj}{σ:St}{Ë1}{Ŋ}{e:Addr}
def gA Ä0:∀ b∈ Â5,H b=none/\∀ o,ĵ->Ą:=λ b hb=>
 #[I.ib b hb,λ o ho=>by
  let#[_,o',GG,hd]:=I.stack.mem hb;rw[ho] at GG;cases GG;show hd]
def Yc Ë1{h:Heap}Ń{C:Addr}{dx:Ĉ}{oe:Obj}(zr:yD P w H h) (he:H e=↑(vb e C dx)) (q:Ç2):oe.cls=Ê C/\oe.dict=dx:=by
 let#[#[o',_,a,b,c,_],_]:=zr e _ he;rw[q] at a;cases a;show#[b,c]
def NX Â2{E:Ag}Ä0 (AR:X.stack=ŝ::X.outer) (A6:X.env.frame=↑X.env.locals) (he:lu H e) (hf:Xq Ī e\/qY Ī H e) ţ
  (hq:∀ h' T,H T=none->Un (Â5) [] H ŉ Ī h'->yD X.prog X.w ŉ h'->qY h' ŉ e->Ù):î M X.A (leaving ŝ ņ) Q E s:=by
 let#[C,dx,hE]:=he;have hF:=I.ok.frames;rw[AR] at hF;have hS:=I.stack;rw[AR] at hS;have fin:∀ (as:List Addr) (oe:Obj) (a0:í),Ö e=↑oe->(∀ a∈as,a=e\/a∈ Â5\/H a=↑(wy a))->
   ∀ h':Heap,Heap.j5 (Â0 Ī as) (ŝ::X.outer) e oe.cls a0 oe.dict Ī h'->Ù:=λ as oe a0 g0 has h' x=>by
  let#[T,hp,oe',HX,oT,ts,a1,#[#[a2,a3],a4],a5,a6,a7,a8,a9,a10,a11]:=x.tr;let#[z1,z2]:=Yc I.zr hE g0;let#[u,zr]:=gE (as:=as) I.zr (gA I) x.stays x.slots λ a ha=>by
   rcases has a ha with z | z | z
   .rw[z];show Ű #[_,hE,#[oe',HX,a1,a2.trans z1,a3.trans z2,a5],oe',a1]
   .show .inl z
   .let#[#[oT,ts,q1,q2],_]:=I.zr a _ z;let#[o',ts',q3,q4]:=x.qx þ _ q1 q2;show Ű #[_,z,#[o',ts',q3,q4],o',q3]
  let#[n,u',BG]:=ZX u zr I.zr hp a9 a10;show hq h' T n u' BG #[oe',HX,a0,T,oT,ts,a1,a5,a4,a6,a8,yr,a9,a10,a11]
 have BH:∀ (r:List Addr),∀ env∈ ŝ::X.outer,∀ a,env.frame=↑a->a∈r++Â5:=λ r env hm a ha=>A8 _ (Dk.mpr #[env,by rw[AR];show hm,ha]);rcases hf with ⟨oe,vs,a0,g0,g1,g2,g3⟩ | ⟨oe,vs,a0,T,oT,ts,g0,g1,g3,g2,g4,g5,g6,g7,g8⟩
 .exact Wz (base:=Â0 Ī ([e]++Â5)) Ã5 g0 Ŏ g1 g2 g3 Ë0;rcases Bb.mp ha with q | q
  .show .inl (A4.mp q)
  .show Ű (.inl q)
 .exact Wv (base:=Â0 Ī ([e,T]++Â5)) Ã5 #[oe,vs,oT,ts,g0,#[#[rfl,rfl],g3],g1,g2,PySem.W.hideAll_none _ #[],g4,g6,g7,g8] Ŏ Ë0;rcases Bb.mp ha with q | q
  .rcases Ao.mp q with q | q
   .show .inl q
   .show Ű (Ű (by rw[A4.mp q];show g5))
  .show Ű (.inl q)
)
example:=`(
example À:=s.heap.objs.size
example Æ:=.ref
example ĭ:=(Æ z)
example ĝ:=Builtin.SmallTypes.ownedTupleIsFree
example É:=false
example Á:=by exact MX (zaR (zaG (name:=Str.ofString "__next__") hT F.slot_zip_next (zaB F.slot_zip_next hT F.entry_zip_next ?_ (F.args_zip_next_1 _))));exact MX (m:=field ĭ 2) (za5 hz rfl (x:=.bool É) rfl ?_);exact MX (m:=field ĭ 3) (za5 hz rfl (x:=Æ TI) rfl ?_);exact MX (m:=seqItems? (Æ TI)) (zaC Cu rfl ?_);exact MX (m:=ĝ ĭ) (aM hz h0 λ g1 Iq e1=>?_);simp![Bd,if_false]
example Â:=[z,TI,TO,i1,i2]
example Ã _:=x z TI TO i1 i2 l1 l2
example đ:=Value
example Ź:=mainGlobals
example ÿ:=Option
example ħ:=PySem.W.nsIn
example Ä{o1 o2:đ}{d1 d2:ÿ Addr}{c1 c2:ClassData}{s1 s2:Array (ÿ đ)}(_:ħ K Ź c=↑↑(Æ C)) (_:ħ K Ź "PurseError"=↑↑(Æ P)) (_:K.lookup C=↑#[o1,d1,.cls c1,s1]) (_:K.lookup P=↑#[o2,d2,.cls c2,s2]) (h:mJ K c=↑(C,P,c1.ns,c2.ns)):=0
example ü:=("__debug__":Str)
example Ö(hn:∀ v s,¬ X.xe v s):=0
example Å(hg:Gl X x) (A2:(x == ü)=É) (he:Az X e es) (Al:AE X Ai es) Ö:=0
example Ĉ:=#[Y,S,r1,r2,z]
example Ç:=λ FH s σ H D Q W hW I Ĉ=>?_
example Ŀ:=.type "list"
example È:=s.heap.push { cls:=Ŀ,data:=.seq ([]:Ad).toArray }
example À8:=(seqObj "list" acc.toList.toArray 0)
example Ê:=h1.push À8
example ï:=.Name
example Ë:=.Call (ï "zip" p2) [a,b] [] F_
example Ì:=#[q',bs',sn',HR,ab',HU,dd',l0,l1,l2,l3,l5,hP]
example Ş:=or_false
example Í:=by let#[nd,f1,f2]:=D;simp![Bj,Ao,AN,Ş,not_or,Dw,and_true,not_false_eq_true] at nd f1 f2;let#[#[n1,n2,n3,n4],#[n5,n6,n7],#[n8,n9],n10]:=nd;let#[a1,a2,a3,a4,a5]:=f1
example Î:=.fields [Æ vs,.none,.none,.none,.bool É,.none].toArray
example Ï:=ns.length
example ŧ:=(zS st)
example ą _:=x (vi st) (xi st) ŧ .none kV doc pm an Ah
example Ś(kV doc pm:đ) (an:ÿ Addr) (Ah ct:đ) (us:Ad):=0
example Ð(hb:∀ Ś,us.length=ps.length->bindArgs (PySem.W.fnOf x x ą ct) #[us,[]]=pure (ps.zip us)):=0
example œ:=Ap.mp e
example ţ _:=x S Z Y J
example Ñ:=by let#[ys,e1,e2]:=œ;let#[y,e3,rfl]:=AU.mp e2;exact h ţ ys _ Fr.er e1 λ ds S1 s1 r1=>#[Z,ys,y,(Fr.er.grow s1).zd,r1,e3,λ d S2 s2 r2=>#[λ he=>?_,λ he=>?_]]
example Ò:=PyProof.Rows
example Ó:=s.heap.get?
example Ü _:=x _ _
example Ć:=wpAny
example Á0:=F.plain_extend_loop
example Ž:=Around.under_plainId
example Æ7:=codeAny_builtin
example Ô:=by intro s acc c hk Z q1 q2 hs hN P hR;exact Æ7 F.entry_extend_loop ?_;rw[Ž Á0 _];change Ć _ A.in1 (pyNext ĭ >>= _) Ü s
example Õ _:=x mg base N qual ŧ f Ah A outer
example Ø _:=x (((Y.set i ↑d).set j ↑d).set i none) S'
example Ù:=(.Call (ï x p) (e::es) [] Ai)
example ŏ _:=x X FH σ
example Ú(I:Inv ŏ H s):=0
example Û:=by let#[#[b,hz],Cu,#[oT,Dn],s1,s2]:=S;have hT:s.TypeIs ĭ "zip":=#[_,hz,rfl];unfold pyNext;ext Á;exact MX ?_;simp![List.forIn_toArray,Di,DF]
example Ý:=X.env
example Ŏ _:=x "__init__" (c++".__init__")
example ń:=PySem.W.keepIn
example Æ5:=PySem.W.isFn K (Æ fI)=true
example Þ:=ń K (Æ C)=true/\ħ K N "__init__"=↑↑(Æ fI)/\Æ5/\wZ K Ŏ st fI fd
example ß:=by rw[typeLookup_type,builtinLookup_eq_fast];kernel_rfl
example Ĵ{K:Ab}:=0
example à{P:Program}{w:World}Ĵ{mg:Au}{base:Heap}:=0
example Ĺ _:=x X.prog X.w
example á _:=x (model Ĺ) X.A
example â:=(λ _ z=>by cases z)
example ã:=Addr->Hp->Prop
example ä:=by rw[hH c (by rw[q];simp)];show q
example å:=#[λ E E' Y S hE z=>ha.mo Y S Ü (λ ds S1 z=>F.mo ds S1 Ü (λ d S2 q=>#[λ y=>hE.rt Ü (q.1 y),λ y=>hE.nx Ü (q.2 y)]) z) z,Ç]
example æ:=ns.getD i 0
example Å8:=swapsWith
example ç(BM:(n == ü)=É) (BR:(n == ("__classdict__":Str))=É) (Cc:Å8 (ï n p3) ↑(ï c p2) p4.line Ý=pure É):=0
example è:=s.heap
example é:=PySem.Spec
example ê:=List Int
example č:=h'.get?
example ë:=(∀ c o,c∉ Â->Ó c=↑o->č c=↑o)
example ì:=Value.ref
example í:=Shared->Prop
example î(AR:X.stack=Ý::X.outer) (A6:X.env.frame=↑X.env.locals):=0
example ð:=#[oe,vs,oT,ts,g0,#[#[rfl,rfl],g3],g1,g2,PySem.W.hideAll_none _ #[],g4,g6,g7,g8]
example ñ:=λ _ _ z=>(hn Ü z).elim
example Ū:=Obj.mapSeq
example ū:=Value.none
example ò:=Ó b=↑o-> (((È).update À (Ū (·.push ū))).update À (Ū (·.pop))).get? b=↑o
example ó:=λ _ _=>False
example À2:=idx.map
example ô:=(À2 λ i=>æ).Pairwise (·<=·)
example Ä0{k1 k2:Bool}:=0
example õ Ä0{z TI TO i1 i2 l1 l2 T0:Addr}{n:Nat}:=0
example Ç1 _:=x r1 r2 z
example ö _:=x Ç1 λ x S1 v H1 h1 q1 e1 p1=>?_
example Á4(hh:A.handled=none):=0
example Ħ _:=x k1 k2 Ã
example ø Á4 (D:sd Ã) (S0:At è Ħ .none 0) (q1:SQ è k1 l1 xs) (q2:SQ è k2 l2 ys):=0
example ù:=(.Try body [.ExceptHandler ↑(ï "PurseError" p1) ↑n [.Assign [ï c p2] (ï n p3) p4] Cd] [] [] pos)
example ú{fa fb:Ae}{ta tb:zu}(ha:yC fa ta) (hb:yC fb tb):=0
example û _:=x (model prog w) A
example ý(hg:Gl X "isinstance") (h1:Az X e [ï cn q]) (h2:AE X pos [ï cn q]) (h3:Az X (ï cn q) []):=0
example þ:=λ _ _ q=>q
example Ā:=[].toArray
example ŵ(h1:SQ è k1 l1 xs) (h2:SQ è k2 l2 ys):=0
example ā(D:sd Ã) (S:Bt è Ħ T0 n) (h0:Ó T0=↑o0) ŵ:=0
example Ă:=#[I.ok,J.os,J.bare,J.base,J.loc,J.cell,J.free,J.vg,J.pin,J.zr,J.len]
example ă _:=x (upd H dx (.xd fv)) e (.ext ψ)
example Ą:=∀ a H',oU H1 H'->jy X.K c f x a H'->Q a H'
example ć:=(hs.2 b (AB (Ba (An e) I.ok.above))).trans
example ĉ:=h1.objs.size
example Ċ:=by rcases yK e with ⟨rfl,hl,e⟩ | ⟨n,e⟩
example ċ:=(.lst (À2 λ i=>V.ref (bs.getD i 0)))
example Č:=by simp![zj]
example Ď(DQ:Loc X.env.scope c) (D1:X.fn c=true\/X.env.scope.names.lookup c=↑.local):=0
example ď:=decide (cn=c)||decide (cn="PurseError")
example Â0:=(s1.trans s2)
example Đ:=by .rw[pE (Sr.sn r2)] at he;rw[if_pos he] at P;show P he d S2 Â0 (Sr.sn r2)
example Ē:=by let#[oe,vs,a0,T,oT,ts,g0,g1,g3,g2,g4,g5,g6,g7,g8]:=hf
example ē(he:PD X e te):=0
example Ĕ(ha:xc X (e::es) tA):=0
example Å6:=Ne.symm
example ĕ _:=x (s1.on λ o q=>e1.extBut Ü (Å6 n3) q) (h1.on λ o q=>e1.extBut Ü a1 q) hx
example Ė:=by let#[x,e1,e2]:=œ;exact hf ţ x _ hE e1 λ d S1 s1 r1=>?_;split at e2
example ė:=(by rw[A9,AF ⋯];rfl)
example Ę:=by change (if c=l then _ else if c∈bs then _ else _)=_
example ę:=.int
example Ě(st:∀ h1 h2:Heap,ψ h1->(∀ o,h1.get? e=↑o->h2.get? e=↑o)->ψ h2):=0
example ě{X:Cx}:=0
example Ĝ:=starEach
example Ğ _:=x FH s σ H
example ğ:=by let#[Y,S,r1,r2,z]:=hu
example Ġ:=#[q,bs,sn,sub,ab,col,dd,k0,k1,k2,k3,k5,hC]
example ġ:=#[P,N,NP,hE]
example Ģ{prog:Program}{w:World}{A:Around}:=0
example ģ:=#[q,bs,sn,sub,ab,col,dd,k0,k1,k2,k3,k5,e]
example Ĥ:=ì ((acc.toList.map rf).getD i 0)
example ĥ _:=x F (hr.mono hk) ha hg A2 he Al hn hW
example Ĩ:=acc.size
example ĩ(K:Ab):=0
example Ī _:=x (a2.trans xT) (a3.keep xT λ b u o _ c=>by rw[zV (xO c hT)];show c)
example ī(Ah:đ) (A:Around) (outer:List Env) (s:Shared) (H:Hp) (E:XK):=0
example Ĭ:=xa X.stack
example Į:=vs.length
example į _:=x T (wy T)
example İ:=#[#[_,_,_,_,hP,IW]]
example ı:=sizeLine
example Ĳ:=by have ue:∀ b,H b=none->b≠e:=λ b a z=>by rw[z,he] at a;cases a
example ĳ:=h.get?
example ĵ{s:Shared}:=0
example Ķ:=List Str
example ķ:=sh K c C P N NP
example ĸ:=λ _ _ q=>q.elim
example ĺ:=PySem
example Ç3{st:Stmt}:=0
example Ļ{c f:Str}Ç3:=0
example ļ _:=x P w K mg base
example Ľ _:=x (g':=s₁.gens) (d':=s₁.drawn) (t':=s₁.toks) (ch:=[])
example ľ:=["self",f]
example ŀ:=Ev->ÿ (List T)
example Ł:=(za9 Ü (Å6 hb)).trans
example ł:=vz d=true
example Ä4:=(É,eval b Ý)
example Ń:=Ĝ [a,b] Ý=[(É,eval a Ý),Ä4]
example Ņ:=List.range
example ņ:=acc.toList
example Ň{σ:St}{H:Hp}:=0
example ň _:=x P w K Õ s H' E
example ŉ:=by have Ax:∀ i∈idx,i<Ï:=λ i hi=>by exists hp.mem_iff.mp hi
example Ŋ:=(λ us s1 #[vs,H1,I1,r,q]=>#[I1.y7,?_])
example ŋ:=(.Call (ï "isinstance" p) [e,ï cn q] [] pos)
example Ō:=List Addr
example ō:=Builtin.SmallTypes.nextOf
example ŷ:=if_neg
example Ő:=by rw[pE (Sr.sn r2)] at he;rw[ŷ (by rw[he];decide)] at P
example ő:=.inr #[_,g5,#[o2,t2,b3,b4],o2,b3]
example Œ:=us b _ q â
example Ŕ:=fun Y S Q Q' hq z=>he.mo Y S Ü (λ y S1 z=>?_) z
example ŕ:=ï "ValueError" q
example Ŗ:=(Æ À)
example ŗ(i:Nat):=0
example Æ2:=List Stmt
example Ř{n c:Str}{body:Æ2}{p1 p2 p3 p4 Cd pos:Pos}:=0
example ř:=absurd
example ś _:=x uX λ i j=>ę (i/j)
example Ŝ _:=x sZ λ i j=>ę (i*j)
example ŝ(nd:ns.Nodup):=0
example ş:=zP y=true
example Š:=(ę (if i<0 then -i else i))
example š:=Ć û (pyNext ĭ) Q E s
example Ţ:=ns.zip ts
example Ť(hc:X.calm=true):=0
example ť:=.Attribute
example Ŧ:=(λ _=>nofun)
example Ũ:=(g J).bind
example ũ:=ns.idxOf k
example Ŭ{ns:ê}:=0
example ŭ _:=x (r1.ext e1) p1 h1 λ y S2 w H2 h2 q2 e2 p2=>?_
example Ů:=Ĝ [Ë] Ý=(É,eval (Ë) Ý)::Ĝ [] Ý
example ů(Eo:xs.size=m) (En:ys.size=m) (hm:m<=ı):=0
example Ű:=sI (m9 (λ _ _ _=>wj) λ _ _ _=>nofun) ha hb
example ű:=backTo pos (Ĝ [] Ý)
example Ų:=#[E.nx,λ d S'=>ł/\E.nx Ø,ó,ó]
example ų(he:lu H e) (hf:qY è H e) {Q:Unit->í}:=0
example Ŵ:=by simp![Sn] at h
example Ŷ:=(.type "ValueError")
example Ÿ:=.cons
example ź:=(ns.map V.int)
example Ż:=ĳ c=↑o->č c=↑o
example ż:=Ó b=↑o->č b=↑o
example ž(hN:X.N.Nodup):=0
example ſ _:=x (λ b c=>us b _ c â) λ b xs c=>us b _ c â
example À0:=by rcases Z with ⟨e,S0⟩ | ⟨T0,e0,S0⟩
example À1:=by simp![zo] at h;let#[x,r,rfl,h1,h2]:=h
example À3(zr:yD P w H h) (he:H e=↑(.ext φ)):=0
example À4(c f:Str):=0
example À5(i j:Nat):=0
example À6:=(a.free c o q n hx)
example À7:=λ _ _ h=>xQ.ext e h
example À9:=R (.ok (.ret res)) { s with heap:=h' }
example Á1:=(.tup [V.int (æ),ys.getD i .zm])
example Á2:=(.Call (ï "sorted" p) [Ë] [] pos)
example Á3{F:Ak}{ga:ŀ}{ua:ym}(h:rX ga ua):=0
example Á5(hx:xs[Ĩ]?=↑x) (hy:ys[Ĩ]?=↑y):=0
example Á6(ns:ê) (ts:List T):=0
example Á7{o e:Expr}{to te:zu}{apos Ai:Pos}:=0
example Á8:=(λ b o q=>PySem.W.of_hideAll _ q)
example Á9:=λ b ps q=>#[Ā,by rw[Œ];simp]
example Â1:=of_decide_eq_false
example Â2:=Ÿ ?_ (ih λ j hj=>Ax j (AD _ hj))
example Â3{f:Str}(h:f∈sO):=0
example Â4 _:=x (hn _ (kS hf)) (HF _ (kS hf)) (cm hf)
example Â5:=(ì C::Æ P::wH).contains (Æ D)
example Â6:=(sortedHeap (Ê) ĉ ņ out).get?
example Â7 _:=x fp N xs ys acc
example Â8:=by rcases hb with e | e | e | e | e <;> subst e
example Â9:=(λ b z=>ř z #[])
example Ã0:=vp Ĺ X.K X.mg X.base x k ps sp
example Ã1:=Value.type
example Ã2:=acc.toList.length
example Ã3(X:K.In h):=0
example Ã4(he:Az X e es) (Al:AE X pos es):=0
example Ã5 _:=x z TI TO (rawInt T0)
example Ã6:=#[oe,vs,he,hc,Ds,Dt]
example Ã7:=g4.objs.size
example Ã8:=by simp;lia
example Ã9{fp:Ō}{N:Nat}{xs ys acc:Ar}:=0
example Ä1:=fun σ H Q hu=>?_
example Ä2:=Heap.size_update
example Ä3:=idx.Perm (Ņ Ï)
example Ä5(BH:X.env.kindOf n=↑.local):=0
example Ä6:=by ext Ŵ;let#[_,h,_]:=h;subst h;rfl
example Ä7{e:Expr}{te:zu}{p q pos:Pos}:=0
example Ä8(ha:PD X a ta) (hb:PD X b tb):=0
example Ä9 _:=x (fI.fits λ _ _ _=>Č) fI.mo ha hb
example Å0:=Q Unit.unit { s with heap:=h' }
example Å1:=.builtin
example Å2:=FuncData
example Å3:=Ext H H'
example Å4{h:Heap}:=0
example Å5:=by let#[Ì,IW,HF]:=hE.par.at I1.y7
example Å7:=PySem.F.attrBase_ValueError
example Å9:=(ny e C va)
example Æ0:=(SP X FH D)
example Æ1:=(Æ a)
example Æ3:=#[hE,h2,h3]
example Æ4:=(vP X.K H D).nx
example Æ6:=e4.extBut
example Æ8:=Builtin.List.listExtendWith
example Æ9:=λ x y=>x.1<=y.1
example Ç0{FH:Aj}:=0
example Ç2(sp:wX) (tA:ym):=0
example Ç4{g:Ae}{te:zu}(hf:yC g te):=0
example Ç5:=by simp![Ao,AN,Ş,not_or] at hc
example Ç6{h h':Heap}:=0
end
section
variable {ě}{Ç0}{Ň}{ĵ}{e:Addr}{M:Model}{A:Around}{E:Ag}
def Nt Ú î ų
  (hq:∀ h' T,H T=none->Un (Ĭ) [] H (upd H į) è h'->yD Ĺ (upd H į) h'->qY h' (upd H į) e->Å0):
  Ć M X.A (noteFrame (Æ e) Ý) (λ _ s₂=>Ć M X.A (setFlight (Æ e) none) Q E s₂) E s:=by
 let#[C,dx,hE]:=he;have hF:=I.ok.frames;rw[AR] at hF;have hS:=I.stack;rw[AR] at hS;ext Ē;have BH:∀ env∈ Ý::X.outer,∀ a,env.frame=↑a->a∈[e,T]++Ĭ:=λ env hm a ha=>A8 _ (Dk.mpr #[env,by rw[AR];show hm,ha]);exact Wu (base:=PySem.W.hideAll è ([e,T]++Ĭ)) hF (PySem.W.funFrames_hide hS BH) A6 ð Á8 (PySem.W.hideAll_none _ #[]) λ h1 x=>?_;let#[T',hp,tr]:=x.tr;exact dR (s:={ s with heap:=h1 }) x.stays x.frames tr λ h2 y1 y2 y3 y4 y5=>?_;let#[oe',HX,oT',ts',a1,#[#[a2,a3],a4],a5,a6,a7,a8,a9,a10,a11]:=y3;let#[z1,z2]:=Yc I.zr hE g0;let#[u,zr]:=gE (as:=[e,T]++Ĭ) I.zr (gA I) y1 (x.slots.trans y4) λ a ha=>by
  rcases Bb.mp ha with q | q
  .rcases Ao.mp q with q | q
   .rw[q];show .inr #[_,hE,#[oe',HX,a1,a2.trans z1,a3.trans z2,a5],oe',a1]
   .rw[A4.mp q];let#[o1,t1,b1,b2]:=x.qx Ü _ g6 g7;let#[o2,t2,b3,b4]:=y5 Ü _ b1 b2;show ő
  .show .inl q
 let#[n,u',BG]:=ZX u zr I.zr hp a9 a10;show hq h2 T' n u' BG #[oe',HX,a0,T',oT',ts',a1,a5,a4,a6,a8,yr,a9,a10,a11]
def Mj Ú ų
  (hq:∀ h',Un (Ĭ) [] H H è h'->yD Ĺ H h'->Å0):Ć M A (setFlight (Æ e) none) Q E s:=by
 let#[C,dx,hE]:=he;ext Ē;have BH:∀ env∈X.stack,∀ a,env.frame=↑a->a∈[T]++Ĭ:=λ env hm a ha=>A8 _ (Dk.mpr #[env,hm,ha]);exact dR (base:=PySem.W.hideAll è ([T]++Ĭ)) Á8 (PySem.W.funFrames_hide I.stack BH) ð λ h2 y1 y2 y3 y4 y5=>?_;let#[u,zr]:=gE (as:=[T]++Ĭ) I.zr (gA I) y1 y4 λ a ha=>by
  rcases Bb.mp ha with q | q
  .rw[A4.mp q];let#[o2,t2,b3,b4]:=y5 Ü _ g6 g7;show ő
  .show .inl q
 show hq h2 u zr
def Lk {i:Nat}{x:Str}{pos:Pos}{Q:Unit->í}Ú ž (hi:X.N[i]?=↑x) (hk:X.env.kindOf x=↑.local)
  (h:∀ s',Inv X FH (σ.set i none) H s'->Q Unit.unit s'):Ć M A (do bindName Ý x .none;unbindBehindTheSuite Ý x pos) Q E s:=by
 let#[m,hn,hl]:=id I.loc;have Bk:(X.env.scope.kind == .class||(X.env.scope.kind == .module&&X.env.locals != X.env.globals))=É:=by rw[I.ok.kind];rfl
 have uT:=I.uT;let#[oL,_,_,hoL,_]:=id hn;exact wpAny_nameGoes_keeps hk hn Bk λ h' v HF hs=>?_;exact h _ #[I.ok,I.os,I.bare,#[λ b o e n hb hx=>?_,λ b o e n hb hx=>?_,I.base.free,λ b o e hx=>?_,I.base.vq,I.base.vM,I.base.vW],#[_,HF,λ j y v' e1 e2 e3=>?_],λ y c e=>?_,I.free,I.vg,λ p hp=>?_,λ b ob e=>?_,by exists I.len]
 .show ć (I.base.keep b o e n hb hx)
 .let#[sl,e1]:=I.base.slot b o e n hb hx;show#[sl,ć e1]
 .let#[o',e1]:=I.base.there b o e hx;show#[o',ć e1]
 .by_cases hj:j=i
  .subst hj;rw[Dh] at e2;simp at e2
  .rw[DJ (Å6 hj)] at e2;let#[u',r',q]:=hl j y v' e1 e2 e3;exact#[u',r',?_];rcases q with ⟨k,e⟩ | ⟨k,c,e,z⟩
   .exact .inl #[k,?_];have:y≠x:=λ e=>hj (iW hN e1 (e▸hi));simp[this,e]
   .show .inr #[k,c,e,z.sameBut hs (uT y c e)]
 .let#[w',z]:=I.cell y c e;show#[w',z.sameBut hs (uT y c e)]
 .let#[e,n,ne,nf,d]:=I.pin p hp;show#[(hs.2 p.1 ne).trans e,n,ne,nf,d]
 .exact (I.zr b ob e).vc (λ c w' hc q=>(hs.2 c ?_).trans q) (λ _ q=>q) þ;rintro rfl;rcases hc with rfl | hc
  .rw[I.free] at e;cases e
  .rw[I.free] at hc;cases hc
end
abbrev sO:Ķ:=["place","pair","way","times","told","name","row"]
def kS Â3:f∈r9:=by
 simp![Ao,AN,Ş] at h ⊢;rcases h with h | h | h | h | h | h | h <;> simp[h]
def cm Â3:typeLookup Ŷ f=pure none:=by
 simp![Ao,AN,Ş] at h;rcases h with rfl | rfl | rfl | rfl | rfl | rfl | rfl <;> (ext ß)
def WS:typeLookup Ŷ "__class__"=pure ↑(Å1 "object.__class__"):=by ext ß
section
variable {Ĵ}{Å4}{c:Str}{C P N NP:Addr}{bm:Ad}
def rW.at (o:rW K c C bm N) Ã3:(∃ (q:Str) (bs:Ad) (sn:Ķ) (sub:Ad) (ab:Bool) (col:ÿ Bool) (dd:ÿ Addr) (k0 k1 k2 k3 k5:ÿ đ),ĳ C=↑(excClassObj c q C N bs bm true sn sub ab col dd k0 k1 k2 k3 k5 "ValueError.__new__"))/\h.Ns N (h.nsMap N)/\∀ n∈r9,h.nsMap N n=none:=by
 let#[ģ,ok,hn]:=o;show#[#[q,bs,sn,sub,ab,col,dd,k0,k1,k2,k3,k5,X Ü e],.of_isNs (PySem.W.isNs_of_in X ok),λ n m=>PySem.W.nsMap_none_of_in X ok (hn n m)]
theorem sh.dU (e:ķ) Ã3:eg h C P "ValueError" wH:=by
 let#[Ġ,hN,hn]:=e.own.at X;let#[Ì,IW,HF]:=e.par.at X;exact#[Å7,(),WS,c,q,N,bs,sn,sub,ab,col,dd,k0,k1,k2,k3,k5,_,_,_,hC,hN,İ,λ n m=>?_];have m':n∈r9:=by
  simp![Ao,AN,Ş] at m ⊢;rcases m with m | m | m <;> simp[m]
 show#[hn n m',HF n m']
end
def ny (e C vs:Addr):HO:=.ext λ h=>ĳ e=↑{ cls:=Æ C,data:=Î }
def di (e C dx vs:Addr):HO:=.ext λ h=>ĳ e=↑{ cls:=Æ C,dict:=↑dx,data:=Î }
section
variable {P:Program}{w:World}{fs:Ō}{H:Hp}{Ç6}{e dx:Addr}{φ ψ:Heap->Prop}{fv:List (Str×V)}
def WZ À3 (hd:h.objs.size<=dx) (k:∀ b o,b≠e->ĳ b=↑o->č b=↑o) (hψ:ψ h') (CB:∃ o,č e=↑o)
  Ě (hx:∃ mA,h'.Ns1 dx mA/\∀ f,eC (fv.lookup f) (mA f)):
  Un fs [] H (upd ă) h h'/\yD P w (upd ă) h':=by
 have hn:H dx=none:=zr.fresh hd;have up:∀ b,b≠e->b≠dx->upd ă b=H b:=λ b a c=>by rw[zV a,zV c]
 ext Ĳ
 have ux:∀ b o,ĳ b=↑o->b≠dx:=λ b o q=>AB (Ba (An q) hd);have us:∀ b u,H b=↑u->(∀ φ,u≠.ext φ)->upd ă b=↑u:=λ b u q n=>by
  rw[up b (qA q he (n _)) (xO q hn)];show q
 exact#[#[λ b o q n _ _=>k b o (ue b n) q,λ b o q n _ _=>#[o.slots,k b o (ue b n) q],λ b o q n _=>by rw[up b (ue b n) (ux b o q)];show n,λ b o q _=>?_,λ b xs q=>Œ,λ b o u q=>Œ,Á9],λ a o q=>?_]
 .by_cases z:b=e
  .rw[z];show CB
  .show#[o,k b o z q]
 .by_cases z:a=e
  .subst z;rw[yr] at q;cases q;show#[hψ,CB,st]
  .rw[zV z] at q;by_cases z':a=dx
   .subst z';rw[yr] at q;cases q;show hx
   .rw[zV z'] at q;exact (zr a o q).vc (λ b u hb c=>k b u ?_ c) ſ;rcases hb with rfl | hb
    .show z
    .show qA hb he (by intro z;cases z)
def cE À3 (hψ:ψ h) Ě:
  Un fs [] H (upd H e (.ext ψ)) h h/\yD P w (upd H e (.ext ψ)) h:=by
 ext Ĳ
 have us:∀ b u,H b=↑u->(∀ φ,u≠.ext φ)->upd H e (.ext ψ) b=↑u:=λ b u q n=>by
  rw[zV (qA q he (n _))];show q
 exact#[#[λ b o q n _ _=>q,λ b o q n _ _=>#[o.slots,q],λ b o q n _=>by rw[zV (ue b n)];show n,λ b o q _=>#[o,q],λ b xs q=>Œ,λ b o u q=>Œ,Á9],λ a o q=>?_];by_cases z:a=e
 .subst z;rw[yr] at q;cases q;show#[hψ,(zr a _ he).2.1,st]
 .rw[zV z] at q;show (zr a o q).vc (λ b u hb c=>c) ſ
end
def Vq ĩ (f:Str):TS:=λ D σ H=>∃ e C vs v c,σ[0]?=↑↑(Æ e)/\σ[1]?=↑↑v/\H e=↑(ny e C vs)/\uW K c C/\
 ∀ dx,H dx=none->dx≠e->D.nx σ (upd (upd H dx (.xd [(f,v)])) e (di e C dx vs))
def UK ě{o value:Expr}{f:Str}{pos pos':Pos}(hf:f∈sO) (ho:PE X o (nF 0)) (hv:PE X value (nF 1)) (hs:Å8 value ↑(ť o f pos') pos.line Ý=pure É):
  PS X (.Assign [ť o f pos'] value pos) (Vq X.K f):=by
 intro FH s σ H D I h;let#[e,C,vs,v,c,h0,h1,h2,ġ,hq]:=h;exact plainObj_wpAny_Assign_Attribute (zF (hv Ğ (λ x H'=>x=v/\H'=H) I #[v,h1,rfl,rfl]) λ u s1 #[y,H1,I1,ry,ey,eH]=>?_) hs;subst ey eH;exact zF (ho FH s1 σ H1 (λ x H'=>x=Æ e/\H'=H1) I1 #[_,h0,rfl,rfl]) λ ov s2 #[x,H2,I2,rx,ex,eH2]=>?_;subst ex eH2;obtain rfl:ov=ì e:=rx;let#[hh,g,d,t,os]:=s2;let#[Ġ,hN,hn]:=hE.own.at I2.y7;let#[Ì,IW,HF]:=hE.par.at I2.y7;have hsa:("__setattr__":Str)∈r9:=#[];have h3:hh.get? e=↑{ cls:=Æ C,data:=Î }:=(I2.zr e _ h2).1;exact W5 PySem.F.store_ValueError hC hN İ (hn _ hsa) (HF _ hsa) Â4 h3 rfl rfl Ŧ λ h' ID z1 z2 z3=>?_;have dn:=I2.zr.fresh (Am hh.objs.size);let#[u',BG]:=WZ (fs:=X.fs) (fv:=[(f,y)]) (ψ:=λ h=>ĳ e=↑{ cls:=Æ C,dict:=↑hh.objs.size,data:=Î }) I2.zr h2 (Am _) z3 z1 #[_,z1] (λ h1 h2 a b=>b _ a) #[_,z2,λ f'=>by
  by_cases Fz:f'=f
  .subst Fz;simp![Bv,beq_self_eq_true,if_true];show ry
  .have:(f' == f)=É:=by exists Fz
   simp![Bv,this,List.lookup_nil,ŷ Fz]
   trivial]
 show#[σ,_,I2.un (t':=ID) u' BG,hq _ dn (xO h2 dn).symm]
def VI ĩ (f:Str):Sp:=λ vs H Q _=>∃ e C va v c,vs=[Æ e,v]/\H e=↑ Å9/\uW K c C/\∀ dx,H dx=none->dx≠e->Q .zm (upd (upd H dx (.xd [(f,v)])) e (di e C dx va))
structure oZ ĩ (mg:Au) À4 (st:Stmt):Prop where
 fl:f∈sO
 ex:∃ (C P N NP fI:Addr) (fd:Å2),ķ/\mg c=↑(Æ C)/\Þ
structure rZ (f:Str) (st:Stmt):Prop where
 sc:vF ľ ľ ŧ
 bd:∃ p1 p2 p3 p4,xi st=[.Assign [ť (ï "self" p1) f p2] (ï f p3) p4]/\∀ env:Env,Å8 (ï f p3) ↑(ť (ï "self" p1) f p2) p4.line env=pure É
 bn:∀ (x q:Str) Ś,us.length=2->bindArgs (PySem.W.fnOf x q ą ct) #[us,[]]=pure ((ľ:Ķ).zip us)
theorem ZY Â3:(f == ü)=É/\(f == ("__classdict__":Str))=É:=by
 simp![Ao,AN,Ş] at h;rcases h with rfl | rfl | rfl | rfl | rfl | rfl | rfl <;> show#[(),()]
def MK à Ļ{fI:Addr}{fd:Å2}(hf:f∈sO) (F:wZ K Ŏ st fI fd) (S:rZ f st):
  wJ ļ yT 1 fI fd ľ (VI K f):=by
 let#[p1,p2,p3,p4,hb,hs]:=S.bd;exact F.ok (k:=0) S.sc (λ vs H Q E #[e,C,va,v,c,h,_]=>by rw[h];rfl) λ Ah A outer s H vs Q E hr h=>?_;rw[hb];let#[e,C,va,v,c',h1,h2,h3,h4]:=h;subst h1;have vis:∀ x∈(ľ:Ķ),lj ŧ x:=λ x m=>(S.sc.par x m).elim .inl (λ z=>.inr (.inl z));show#[_,i9 (UK hf (pv 0 rfl (vis _ #[])) (pv 1 rfl (vis _ #[]) (ZY hf).1 (ZY hf).2) (hs _)),e,C,va,v,c',rfl,rfl,h2,h3,h4]
def Nq Ĵ Å4{N:Addr}{mg:Au}{n:Str}{v:đ}Ã3 (G:h.Ns N mg) (e:ħ K N n=↑↑v):mg n=↑v:=by
 let#[o,es,ep,ho,hd,_,hf]:=G;unfold ħ at e;split at e
 .rename_i c d G1 n' sl q;have:=X Ü q;rw[ho] at this;cases this;cases hd;split at e
  .rename_i en he;cases e;rw[<- hf];unfold nsFind findBy;rw[<- Array.find?_toList,he];rfl
  .split at e <;> cases e
 .cases e
def XP (X:Cx) (FH:Aj) (fl:Bool) (σ:St) (Q:ã) (v:đ) (s':Shared):Prop:=
 ∃ e Gu σ' H',v=Æ e/\(fl=true->Gu=FH/\σ'=σ)/\Inv X Gu σ' H' s'/\lu H' e/\((fl=É/\Xq s'.heap e)\/qY s'.heap H' e)/\Q e H'
def jy ĩ À4 (x:V) (e:Addr) (H':Hp):Prop:=∃ C dx,uW K c C/\H' e=↑(vb e C dx)/\Xd H' f x dx
def wp_raise ě Ļ{e:Expr}{te:TE}{p pos IG:Pos}Ç0 Ň ĵ{Q:ã}{R:Flow->í}
  (G:oZ X.K X.mg c f st) (S:rZ f st) (hr:yo 2 X.A) Ť Ö (hg:Gl X c) (A2:(c == ü)=É) (he:PE X e te)
  (hs:Az X e []) (Al:AE X pos [])
  {W:Ag}(hW:∀ v s',XP X FH É σ Q v s'->W v s') Ú (h:te σ H λ x H1=>Ą):
  Ć á (exec (.Raise ↑(.Call (ï c p) [e] [] pos) none IG) Ý) R W s:=by
 let#[C,P,N,NP,fI,fd,hE,hm,hk,hi,Cj,F]:=G.ex;let#[#[q,bs,sn,sub,ab,col,dd,k0,k1,k2,k3,k5,lk],_,_]:=id hE.own;rw[arm_exec_Raise];exact MX (zaN (dW (C:=C) (nm:=c) (q:=q) (N:=N) (bs:=bs) (bm:=Æ P::wH) (hdct:=true) (sn:=sn) (sub:=sub) (ab:=ab) (col:=col) (dd:=dd) (k0:=k0) (k1:=k1) (k2:=k2) (k3:=k3) (k5:=k5) (newId:="ValueError.__new__")
  (by rw[Bu,show wH.contains (.type "BaseException")=true from by decide,CI]) (I.ok.hd hc) (MX (za6 ?_ (λ v s₃ h₃=>MX (zaN (Ac h₃))) λ _ _ x=>x))))
 exact zaJ (pZ I hg hm ?_ A2);have ha:PA X [e] (lR te lQ):=ud he tB hs;exact PySem.W.callWith_K (h₀:=X.base) I.ok.mod.oa hk (za6 (ha pos Ğ (λ vs H1=>match vs with
  | [x]=>Ą
  | _=>False) I h) Ŋ ñ) hs Al
 obtain⟨x,rfl,q⟩:∃ x,vs=[x]/\Ą:=by
  match vs,q with
  | [x],q=>show#[x,rfl,q]
 obtain⟨u,rfl,r1⟩:∃ u,us=[u]/\RelV x u:=by
  cases r with
  | cons r1 r2=>
   cases r2;show#[_,rfl,r1]
 let#[hh,g,d,t,os]:=s1;have hC:=I1.y7 Ü lk;let#[_,hN,hnn]:=hE.own.at I1.y7;ext Å5;have hfI:∃ oI,hh.get? fI=↑oI/\oI.cls=.type "function":=by
  let#[oc,od,_,_,_,_,_,_,H_,_,lf,_]:=F.ex;have z:=beq_iff_eq.mp Cj;simp![PySem.W.typeIn,lf,Option.map_some] at z;show#[_,I1.y7 Ü lf,Bm z]
 let#[oI,hfI,D2]:=hfI;have T:OwnTail hh wH (Æ P::wH):=.own hP IW (PySem.W.ns_none_of I1.y7 IW hE.b_) .base;exact WG PySem.F.excBase_ValueError T hC hN (Nq I1.y7 hN hi) hfI D2 (λ h' e hle M=>?_) (by change 1<=ı;decide);let#[va,m1,m2,m3]:=M.there;have I2:Inv ŏ (upd H1 e Å9) #[h',g,d,t,os]:=I1.laid (t':=t) M.keeps hle #[m1,#[_,m1],λ h1 h2 a b=>b _ a];have en:H1 e=none:=I1.zr.fresh hle;have r2:Vals [V.ref e,x] [ì e,u]:=Ÿ rfl (Ÿ r1 .nil);have F2:=MK (P:=X.prog) (w:=X.w) (mg:=X.mg) (base:=X.base) G.fl F S;exact wpAny_call (codeAny_mono (F2.run _ X.stack Ü #[[Æ e,u],[]] [Æ e,u] [Æ e,x] (λ v H2=>v=.zm/\∃ dx,upd H1 e Å9 dx=none/\dx≠e/\H2=upd (upd (upd H1 e Å9) dx (.xd [(f,x)])) e (di e C dx va)) E0 ((hr.make C [u] []).mono ()) (I2.gP.make C [u] [])
  (F.binds (ps:=ľ) (S.bn Ü) Ü I2.y7 rfl) r2 #[e,C,va,x,c,rfl,yr,ġ,λ dx n ne=>#[rfl,dx,n,ne,rfl]]) λ r s' IB=>?_)
 cases r with
 | error e=>show IB.elim
 | ok fl=>
  cases fl with
  | ret u'=>
   let#[v,H',I3,rv,ev,dx,n,ne,eH]:=I2.after IB;subst ev eH;have g3:=(I3.zr e _ yr).1;let#[u3,ok3]:=cE (fs:=X.fs) (ψ:=λ h=>∃ oe vs,ĳ e=↑oe/\oe.cls=Æ C/\oe.dict=↑dx/\oe.data=.fields vs) I3.zr yr #[_,_,g3,rfl,rfl,rfl] (λ h1 h2 #[oe,vs,a,b] k=>#[oe,vs,k _ a,b]);have I4:=I3.un (t':=s'.toks) u3 ok3;exact#[rv,e,↑dx,va,_,rfl,I3.y7 Ü lk,g3,hW Ü #[e,FH,σ,_,rfl,nofun,I4,#[C,↑dx,yr],.inl #[rfl,_,_,_,g3,rfl,rfl,rfl],q e _ (λ b o z=>?_) #[C,↑dx,ġ,yr,show _=_ by rw[zV ne,zV ne,yr]]]];have b1:b≠e:=λ y=>by rw[y,en] at z;cases z
   have b2:b≠dx:=λ y=>by rw[<- y,zV b1,z] at n;cases n
   rw[zV b1,zV b1,zV b2,zV b1];show z
  | _=>show False.elim IB
def Un.out {fs:Ō}{L:Addr}{H H1 H2:Hp}{h h1 h2:Heap}(a:Un fs [] H H1 h h1) (b:Un (L::fs) [] H1 H2 h1 h2) (hL:ĳ L=none):Un fs [] H H2 h h2 where
 keep:=λ c o q n hc hx=>b.keep c o (a.keep c o q n hc hx) À6 (λ z=>(Ao.mp z).elim (λ y=>by rw[y,hL] at q;cases q) hc) hx
 slot:=λ c o q n hc hx=>by
  let#[sl,e]:=a.slot c o q n hc hx;let#[sl',e']:=b.slot c _ e À6 (AD _ hc) hx;show#[sl',e']
 free:=λ c o q n hx=>by
  let#[o',e]:=a.there c o q hx;show b.free c o' e À6 hx
 there:=λ c o q hx=>by
  let#[o',e]:=a.there c o q hx;show b.there c o' e hx
 vq:=λ c xs q=>b.vq c xs (a.vq c xs q)
 vM:=λ c o xs q=>b.vM c o xs (a.vM c o xs q)
 vW:=λ c ps q=>by
  let#[m1,e1]:=a.vW c ps q;let#[m2,e2]:=b.vW c _ e1;show#[m1++m2,by rw[e2,Array.append_assoc]]
def lE (P:Program) (w:World):uD:=λ outer H s E v s'=>∃ e H',v=Æ e/\s'.os=s.os/\AllBare s'.gens/\Un (xa outer) [] H H' è s'.heap/\yD P w H' s'.heap/\lu H' e/\qY s'.heap H' e/\E v none H'
section
variable {ě}{k:Nat}{f:Addr}{fd:Å2}{ps:Ķ}{sp:Sp}{x:Str}{p pos:Pos}{e:Expr}{es:List Expr}{t:TA}{Ç0}{Ň}{ĵ}{Q:VK}{Qx:ã}{fl:Bool}
def WK (F:wJ Ĺ X.K X.mg X.base (lE Ĺ) k f fd ps sp) (hr:yo k X.A) (hg:Gl X x) (hm:X.mg x=↑(Æ f)) (hk:ń X.K (Æ f)=true) (hb:Binds X.K fd ps []) Ö
  (ha:PA X (e::es) t) (A2:(x == ü)=É) Ã4
  {W:Ag}(hW:∀ v s',XP X FH fl σ Qx v s'->W v s') Ú (h:t σ H λ vs H1=>sp vs H1 Q λ v _ H'=>∃ a,v=Æ a/\Qx a H'):
  Ć á (eval (.Call (ï x p) (e::es) [] pos) Ý) (EP ŏ Q) W s:=by
 exact zaJ (pZ I hg hm ?_ A2);exact PySem.W.callWith_K (h₀:=X.base) I.ok.mod.oa hk (za6 (ha pos Ğ _ I h) Ŋ ñ) he Al;have hl:us.length=ps.length:=by rw[<- r.length];show F.len Ü Ü q
 have BN:=hb s1 us I1.y7 (by rw[CV];show hl);rw[CV] at BN;exact wpAny_call (codeAny_mono (F.run X.A X.stack s1 H1 #[us,[]] us vs Q _ hr I1.gP BN r q) λ r s' hq=>?_);cases r with
 | error v=>
  let#[a,H',rfl,os,bare,un,zr,ie,f1,a',ea,z]:=hq;cases ea;show hW Ü #[a,FH,σ,H',rfl,λ _=>#[rfl,rfl],I1.YA (ch:=[]) os un zr bare Â9,ie,.inr f1,z]
 | ok fl=>
  cases fl with
  | ret u=>show I1.after hq
  | _=>show False.elim hq
end
abbrev ml (X:Cx) (e:Addr):Cx:={ X with A:=X.A.mark ↑(Æ e),calm:=É }
section
variable {ě}{Ç0}{σ σ':St}{H H':Hp}{s s':Shared}{e:Addr}
def Zy Ú (e:Addr):Inv (ml X e) FH σ H s:=
 #[#[I.ok.mod,I.ok.kind,I.ok.glob,I.ok.blt,I.ok.above,I.ok.inj,I.ok.has,I.ok.qM,nofun,I.ok.frames,I.ok.pB,I.ok.mH,I.ok.bs,I.ok.tQ,I.ok.qy,I.ok.qJ,I.ok.v7,I.ok.sN],I.os,I.bare,I.base,I.loc,I.cell,I.free,I.vg,I.pin,I.zr,I.len]
def MB Ú (J:Inv (ml X e) FH σ' H' s'):Inv X FH σ' H' s':=Ă
def WI {i j:Nat}Ř{D:Ends}{Qx:ã}Ö î
  (hg:Gl X "PurseError") ž (hi:X.N[i]?=↑n) Ä5 (hj:X.N[j]?=↑c) Ď (A5:i≠j)
  ç
  Ú (hb:Ć á (execs body Ý) Æ0 (XP X FH true σ Qx) s)
  (hx:∀ a H',Qx a H'->(∃ cn C dx,uW X.K cn C/\H' a=↑(vb a C dx))/\∀ T,H' T=none->D.nx (((σ.set i ↑ Æ1).set j ↑ Æ1).set i none) (upd H' į)):
  Ć á (exec ù Ý) Æ0 X.xe s:=by
 exact wpAny_Try_except (za6 hb (λ f s₁ q=>?_) λ v s₁ #[a,Gu,σ',H1,ev,es,I1,ie,fly,q]=>?_)
 .cases f with
  | next=>show zaM q
  | _=>show q
 subst ev;let#[rfl,rfl]:=es rfl;let#[#[cn,C,dx,ġ,hEo],q]:=hx a H1 q;have f1:=fly.resolve_left (λ z=>by cases z.1);exact Nt I1 AR A6 ie f1 λ h' T hT un zr f2=>?_;have I2:Inv X Gu σ' (upd H1 į) { s₁ with heap:=h' }:=I1.call Ľ un zr I1.bare Â9;have hEo2:upd H1 į a=↑(vb a C dx):=by rw[zV (xO hEo hT)];show hEo
 let#[#[qn,bs,sn,sub,ab,col,dd,k0,k1,k2,k3,k5,lk],_,_]:=id hE.own;let#[#[q',bs',sn',HR,ab',HU,dd',l0,l1,l2,l3,l5,lp],_,_]:=id hE.par;have mP:X.mg "PurseError"=↑(Æ P):=PySem.W.mg_of I.ok.mod.oa I.ok.mod.glob hE.bW;have aoe:∃ oe,č a=↑oe/\oe.cls=Æ C:=by
  let#[#[oe,vs,z1,z2,_],_]:=I2.zr a _ hEo2;show#[oe,z1,z2]
 exact Wx (bm:=Æ P::wH) (bm':=wH) () (by rw[Bu];simp) (pZ (X:=ml X a) (Zy I2 a) hg mP #[rfl,I2.y7 Ü lk,I2.y7 Ü lp,aoe,?_]);exact Mj I2 #[C,dx,hEo2] f2 λ h2 un2 hok2=>?_;have I3:Inv X Gu σ' (upd H1 į) { s₁ with heap:=h2 }:=Inv.call (s:={ s₁ with heap:=h' }) Ľ I2 un2 hok2 I1.bare Â9;exact nJ I3 hN hi (.inl BH) (v:=Æ a) rfl (λ s4 I4=>?_) (.inr BH);have st:=i9 (bX (X:=ml X a) (i:=j) (pos:=p4) (pos':=p2) hN hj DQ (pv (X:=ml X a) i (pos:=p3) hi (.inl BH) BM BR) Cc D1);have hl:i < σ'.length:=by rw[I1.len];show (AY.mp hi).1
 exact za6 (st Gu s4 Ü { nx:=fun σ2 H2=>σ2=(σ'.set i ↑ Æ1).set j ↑ Æ1/\H2=upd H1 į,rt:=ó } (Zy I4 a) #[Æ a,by rw[Em hl],rfl,rfl]) (λ fl s5 q5=>?_) ñ;cases fl with
 | next=>
  let#[σ5,H5,I5,rfl,rfl]:=q5;show Lk (MB I I5) hN hi BH λ s6 I6=>#[_,_,I6,q T hT]
 | ret _=>let#[_,_,_,_,_,z]:=q5;show z.elim
 | _=>let#[_,_,_,z]:=q5;show z.elim
end
def vz:D->Bool
 | .err Ü _=>true
 | _=>É
def tN ĩ (H:Hp) (R:VK) (Q:ã):DK:=λ d S'=>(vz d=É->xZ K H R d S')/\(ł->∀ a H',zj K H' d Æ1->Å3->zK K H' S'->Q a H')
theorem tN.ext Ĵ{H H':Hp}{R:VK}{Q:ã}(e:Å3) {d:D}{S:SS}(h:tN K H R Q d S):tN K H' R Q d S:=#[λ z=>xZ.ext e (h.1 z),λ z a H2 r x q=>h.2 z a H2 r (e.trans x) q]
def tM ĩ (H:Hp) (D:Ends) (Q:ã):sj:=#[xQ K H D.nx,tN K H D.rt Q,xQ K H D.bk,xQ K H D.ct]
theorem tM.ext Ĵ{H H':Hp}{D:Ends}{Q:ã}(e:Å3):(tM K H D Q).Le (tM K H' D Q):=#[À7,λ _ _ h=>tN.ext e h,À7,À7]
def nB ĩ (t:yw) (Q:ã):TS:=λ D σ H=>∃ Y S,yF K H Y σ/\zK K H S/\t (tM K H D Q) Y S
structure oO (X:Cx) (FH:Aj) (σ:St) (fl:Bool) (Q:ã) (W:Ag):Prop where
 xp:∀ v s',XP X FH fl σ Q v s'->W v s'
 own:fl=É->PassesOwn á Ý W
def oO.any ě{FH Gu:Aj}{σ σ':St}{Q:ã}{W:Ag}(h:oO ŏ É Q W):oO X Gu σ' É Q W:=
 #[λ v s' #[e,p,q,H',h1,_,h3]=>h.xp v s' #[e,p,q,H',h1,nofun,h3],h.own]
structure u5 (X:Cx) (fl:Bool) (st:Stmt) (t:yw):Prop where
 mo:uA t
 px:∀ FH s σ H D Q W,oO ŏ fl Q W->Inv ŏ H s->nB X.K t Q D σ H->Ć á (exec st Ý) Æ0 W s
structure u6 (X:Cx) (fl:Bool) (Hz:Æ2) (t:yw):Prop where
 mo:uA t
 px:∀ FH s σ H D Q W,oO ŏ fl Q W->Inv ŏ H s->nB X.K t Q D σ H->Ć á (execs Hz Ý) Æ0 W s
section
variable {ě}{fl:Bool}{Ç3}{FJ:Æ2}{t u:yw}{pos:Pos}{e:Expr}{te:zu}
def T_ (h:wI X st t) (ht:∀ E Y S,t E Y S->t { E with rt:=ó } Y S) Ö:u5 X fl st t:=by
 exact#[h.mo,λ FH s σ H D Q W hW I Ĉ=>za6 (h.ps Ğ D I #[Y,S,r1,r2,h.mo { tM X.K H D Q with rt:=ó } _ Y S #[þ,ĸ,þ,þ] (ht _ Y S z)]) (þ) ñ]
def Sb:u6 X fl [] gW:=#[λ _ _ _ _ hE h=>hE.nx Ü h,λ FH s σ H D Q W hW I Ĉ=>zaM #[σ,H,I,z σ H r1 (.refl H) r2]]
def TZ (h:u5 X fl st t):u6 X fl [st] t:=#[h.mo,λ FH s σ H D Q W hW I hu=>by
 exact wpAny_execs_cons (zF (h.px Ğ D Q W hW I hu) λ f s1 q=>?_);cases f with
 | next=>show zaM q
 | ret v=>show q
 | brk=>show q
 | cont=>show q]
def Sg (h:u5 X É st t) (h':u6 X É FJ u):u6 X É (st::FJ) (qK t u):=#[qK.mo h.mo h'.mo,λ FH s σ H D Q W hW I Ĉ=>by
 exact wpAny_execs_cons (zF (h.px Ğ { D with nx:=nB X.K u Q D } Q W hW I #[Y,S,r1,r2,h.mo { tM X.K H D Q with nx:=u (tM X.K H D Q) } _ Y S #[fun Y' S' q σ' H' q1 q2 q3=>#[Y',S',q1,q3,h'.mo Ü Y' S' (tM.ext q2) q],þ,þ,þ] z]) λ f s1 q=>?_);cases f with
 | next=>
  let#[σ',H',I',q]:=q;show h'.px FH s1 σ' H' D Q W hW.any I' q
 | ret v=>show q
 | brk=>show q
 | cont=>show q]
def Sd {c:Expr}{p q:Æ2}{tc:yM}(hc:xF X c tc) (h:u6 X fl p t) (h':u6 X fl q u) Ö:u5 X fl (.If c p q pos) (gX tc t u):=by
 exact#[λ E E' Y S hE z=>hc.mo Y S Ü (λ k S1 z=>wD (h.mo Ü Y S1 hE) (h'.mo Ü Y S1 hE) z) z,Ç];exact wpAny_If (za6 (hc.pt Ğ (λ k H1=>if k=true then nB X.K t Q D σ H1 else nB X.K u Q D σ H1) I (w9.go hc.mo Ç1 λ k S1 H1 h1 e1 p1=>wD (λ z=>?_) (λ z=>?_) h1)) (λ k s1 #[H1,I1,q1]=>?_) ñ)
 .show#[Y,S1,r1.ext e1,p1,h.mo Ü Y S1 (tM.ext e1) z]
 .show#[Y,S1,r1.ext e1,p1,h'.mo Ü Y S1 (tM.ext e1) z]
 .cases k with
  | true=>show h.px FH s1 σ H1 D Q W hW I1 q1
  | É=>show h'.px FH s1 σ H1 D Q W hW I1 q1
def gS (te:zu):yw:=λ E Y S=>te Y S λ d S1=>vz d=É/\E.rt d S1
def TV ē Ö:u5 X fl (.Return ↑e pos) (gS te):=by
 exact#[λ E E' Y S hE z=>he.mo Y S Ü (λ _ _ q=>#[q.1,hE.rt Ü q.2]) z,Ç];show wpAny_Return_some (za6 (he.pe Ğ D.rt I (yb.go he.mo Ç1 λ x S1 v H1 h1 q1 e1 p1=>h1.2.1 h1.1 v H1 q1 e1 p1)) (λ v s1 #[x,H1,I1,r1,q1]=>#[x,σ,H1,I1,r1,q1]) ñ)
def Ext.same {H H':Hp}(e:oU H H'):Å3:=#[λ b xs q=>e Ü q,λ b o u q=>e Ü q,λ b u q=>e Ü q,λ b u q=>e Ü q]
def jb À4 (te:zu):yw:=λ E Y S=>te Y S λ d S1=>E.rt (.err c f d) S1
def TY {c f:Str}{si:Stmt}{p Ai:Pos}{k:Nat}(G:oZ X.K X.mg c f si) (Sh:rZ f si) (hr:yo k X.A) ē (hk:2<=k) (hg:Gl X c) Ť (A2:(c == ü)=É)
  (hs:Az X e []) (Al:AE X Ai []) Ö:
  u5 X É (.Raise ↑(.Call (ï c p) [e] [] Ai) none pos) (jb c f te):=by
 exact#[λ E E' Y S hE z=>he.mo Y S Ü (λ _ _ q=>hE.rt Ü q) z,Ç];exact wp_raise G Sh (hr.mono hk) hc hn hg A2 he.pe hs Al hW.xp I (yb.go he.mo Ç1 λ x S1 v H1 h1 q1 e1 p1 a H' sm #[C,dx,hE,h2,h3]=>?_);exact h1.2 rfl a H' ?_ (e1.trans (.same sm)) (p1.same sm);simp![zj];show#[a,C,dx,v,rfl,Æ3,zj.ext (.same sm) x q1]
end
def cz ĩ (sp:wX):Sp:=λ vs H Q E=>∃ ds S,zo K H ds vs/\zK K H S/\sp ds S (tN K H Q λ a H'=>E Æ1 none H')
structure vp (P:Program) (w:World) ĩ (mg:Au) (base:Heap) (x:Str) (k:Nat) (ps:Ķ) (sp:wX):Prop where
 ex:∃ (f:Addr) (fd:Å2),wJ ļ (lE P w) k f fd ps (cz K sp)/\mg x=↑(Æ f)/\ń K (Æ f)=true/\Binds K fd ps []
 mo:j0 sp
section
variable {ě}{fl:Bool}{pos Ai p:Pos}{e:Expr}{es:List Expr}{tA:ym}{x:Str}{k:Nat}{ps:Ķ}{sp:wX}
def jL Ç0 ĵ Ň{Q:ã}{W:Ag}{R:DK}{RV:VK}{Y:yt}{S:SS}(F:Ã0) (hr:yo k X.A) Ĕ Å (hW:oO ŏ fl Q W) Ú (r1:yF X.K H Y σ) (r2:zK X.K H S)
  (z:tA Y S λ ds S1=>sp ds S1 R) (hR:∀ d S',R d S'->tN X.K H RV Q d S'):
  Ć á (eval Ù Ý) (EP ŏ RV) W s:=by
 let#[#[f,fd,h1,h2,h3,h4],hm]:=F;exact WK (Qx:=Q) h1 hr hg h2 h3 h4 hn ha.pa A2 he Al hW.xp I (xW.go ha.mo Ç1 λ ds S1 xs H1 z1 q1 e1 p1=>#[ds,S1,q1,p1,hm ds S1 Ü (λ d S' q=>?_) z1]);have q':=tN.ext e1 (hR d S' q);show#[q'.1,λ y a H' c1 c2 c3=>#[a,rfl,q'.2 y a H' c1 c2 c3]]
def Yp Ç2:yw:=λ E Y S=>tA Y S λ ds S1=>sp ds S1 λ d S2=>(ł->E.rt d S2)/\(vz d=É->E.nx Y S2)
def Yq ŗ Ç2:yw:=λ E Y S=>tA Y S λ ds S1=>sp ds S1 λ d S2=>(ł->E.rt d S2)/\(vz d=É->E.nx (Y.set i ↑d) S2)
def Yo Ç2:yw:=λ E Y S=>tA Y S λ ds S1=>sp ds S1 E.rt
variable (F:Ã0)
include F
theorem Sf {k':Nat}(hr:yo k' X.A) Ĕ (hk:k<=k') Å (hs:Å8 Ù none pos.line Ý=pure É):
  u5 X fl (.Expr Ù pos) (Yp sp tA):=by
 exact å;exact wpAny_Expr_any (zF (jL (RV:=λ _ H'=>D.nx σ H') ĥ I Ç1 λ d S' q=>#[λ y v H' a1 a2 a3=>q.2 y σ H' (r1.ext a2) a2 a3,λ y=>(q.1 y).2 y]) λ v s1 #[x,H1,I1,_,q1]=>#[σ,H1,I1,q1]) I.quiet hs
theorem TU {k':Nat}(hr:yo k' X.A) Ĕ (hk:k<=k') Å:
  u5 X fl (.Return ↑ Ù pos) (Yo sp tA):=by
 exact#[λ E E' Y S hE z=>ha.mo Y S Ü (λ ds S1 z=>F.mo ds S1 Ü (λ d S2 q=>hE.rt Ü q) z) z,Ç];show wpAny_Return_some (zF (jL (RV:=D.rt) ĥ I Ç1 λ d S' q=>q) λ v s1 #[x,H1,I1,r,q1]=>#[x,σ,H1,I1,r,q1])
theorem Si {k' i:Nat}{y:Str}{py:Pos}ž (hr:yo k' X.A) Ĕ (hi:X.N[i]?=↑y) (hx:Loc X.env.scope y) (hf:X.fn y=true\/X.env.scope.names.lookup y=↑.local) (hk:k<=k') Å (hs:Å8 Ù ↑(ï y py) pos.line Ý=pure É):
  u5 X fl (.Assign [ï y py] Ù pos) (Yq i sp tA):=by
 exact å;exact wpAny_Assign_Name (zF (jL (RV:=λ v H'=>D.nx (σ.set i ↑v) H') ĥ I Ç1 λ d S' q=>#[λ y v H' a1 a2 a3=>q.2 y _ H' ((r1.ext a2).set i a1) a2 a3,λ y=>(q.1 y).2 y]) λ v s1 #[x,H1,I1,r,q1]=>?_) hs;show nJ I1 hN hi hx r (λ s2 I2=>#[_,H1,I2,q1]) hf
end
section
variable {à}
def fnX {x qual:Str}Ç3{f:Addr}{fd:Å2}{N ps:Ķ}{k:Nat}{sp:wX}(F:wZ K x qual st f fd) (Sc:vF N ps ŧ) (len:∀ ds S Q,sp ds S Q->ds.length=ps.length)
  (FW:∀ ī,yo k (A.deeper (envOfC qual ŧ À f Ah))->
   ∃ t,u6 (xj yT P w K Õ s H E).x9 É (xi st) t/\∀ ds S Q,sp ds S Q->t { nx:=λ _ S'=>Q .zm S',rt:=Q } (uG N ds) S):
  wJ ļ (lE P w) (k+1) f fd ps (cz K sp):=by
 let#[oc,od,kV,doc,pm,an,Ah,ct,H_,rfl,lk,Bg]:=F.ex;exact ZV lk Bg Sc (λ vs H Q E #[ds,S,r1,_,z]=>by rw[<- r1.length];show len Ü _ z) λ A outer s H vs Q E hr B7=>#[λ D σ H'=>D={ nx:=λ _ H'=>Q .zm H',rt:=Q }/\σ=start N vs/\H'=H,λ FH s1 σ H' D I #[e1,e2,e3]=>?_,rfl,rfl,rfl];subst e1 e2 e3;let#[t,hp,ht]:=FW Ah A outer s H' E hr;let#[ds,S,r1,r2,z]:=B7;have cv:∀ Ç0{σ':St}{H'':Hp}{s':Shared},Inv (xj yT ň).x9 FH σ' H'' s'->Inv (xj (lE P w) ň) FH σ' H'' s':=λ J=>
  Ă
 have ok0:(xj yT ň).x9.Ok:=#[I.ok.mod,I.ok.kind,I.ok.glob,I.ok.blt,I.ok.above,I.ok.inj,I.ok.has,I.ok.qM,I.ok.hd,I.ok.frames,I.ok.pB,I.ok.mH,I.ok.bs,I.ok.tQ,I.ok.qy,I.ok.qJ,I.ok.v7,I.ok.sN];have I0:Inv (xj yT ň).x9 FH (start N vs) H' s1:=#[ok0,I.os,I.bare,I.base,I.loc,I.cell,I.free,I.vg,I.pin,I.zr,I.len];exact za6 (hp.px FH s1 (start N vs) H' { nx:=λ _ H'=>Q .zm H',rt:=Q } (λ e H2=>∀ T,H2 T=none->E (Æ e) none (upd H2 į)) (xj (lE P w) ň).xe #[λ v s' #[e,Gu,σ',H2,ev,_,J,ie,hf,q]=>?_,λ _=>PassesOwn.leaving] I0
  #[uG N ds,S,yF.init r1,r2,hp.mo { nx:=λ _ S'=>tN K H' Q (λ a H2=>E Æ1 none H2) .zm S',rt:=tN K H' Q λ a H2=>E Æ1 none H2 } Ü S #[fun Y S' q σ2 H2 a1 a2 a3=>q.1 rfl .zm H2 (Č) a2 a3,λ d S' q=>#[q.1,λ y a H2 a1 a2 a3 T hT=>?_],ĸ,ĸ] (ht ds S _ z)]) (λ fl s' q=>?_) λ _ _ z=>z
 .subst ev;have J':=cv J;exact NX J' rfl rfl ie (hf.imp And.right id) λ h' T hT un zr f1=>?_;let#[C,dx,hE]:=ie;show#[e,_,rfl,J'.os,J'.bare,Un.out J'.base un (zaQ (Am _)),zr,#[C,dx,by rw[zV (xO hE hT)];show hE],f1,q T hT]
 .have xT:Ext H2 (upd H2 į):=.new hT _;show q.2 y a _ (zj.ext xT d a1) Ī
 .cases fl with
  | ret u=>let#[v,σ',H',J,r,q]:=q;show#[v,σ',H',cv J,r,q]
  | _=>let#[σ',H',J,q]:=q;show#[σ',H',cv J,q]
end
def yF.hole Ĵ{H:Hp}{Y:yt}{σ:St}ŗ (r:yF K H Y σ):yF K H (Y.set i none) (σ.set i none):=by
 exact#[by rw[BZ,BZ];show r.1,λ j c hc=>?_];rw[Dh] at hc ⊢;by_cases hj:i=j
 .subst hj;rw[if_pos rfl] at hc;split at hc <;> cases hc
 .rw[ŷ hj] at hc ⊢;show r.2 j c hc
def gR À5 (t:yw):yw:=λ E Y S=>t Ų Y S
def SG ě{t:yw}À5 Ř ž (hb:u6 X true body t) (A5:i≠j) (hi:X.N[i]?=↑n) (hj:X.N[j]?=↑c)
  (hg:Gl X "PurseError") Ä5 Ď
  ç
  î Ö:
  wI X ù (gR i j t):=by
 exact#[λ E E' Y S hE z=>hb.mo Ų #[E'.nx,λ d S'=>ł/\E'.nx Ø,ó,ó] Y S #[hE.nx,λ d S' q=>#[q.1,hE.nx Ü q.2],þ,þ] z,λ FH s σ H D I Ĉ=>?_];exact WI (Qx:=λ a H'=>∃ d S',ł/\zj X.K H' d Æ1/\Å3/\zK X.K H' S'/\Æ4 Ø) hn AR A6 hg hN hi BH hj DQ D1 A5 BM BR Cc I
  (hb.px Ğ D Ü #[þ,nofun] I #[Y,S,r1,r2,hb.mo #[Æ4,λ d S'=>ł/\Æ4 Ø,ó,ó] _ Y S #[þ,λ d S' q=>#[λ y=>?_,λ y a H' a1 a2 a3=>#[d,S',y,a1,a2,a3,q.2]],ĸ,ĸ] z]) λ a H' #[d,S',hd,a1,a2,a3,q]=>#[?_,λ T hT=>?_]
 .rw[q.1] at y;cases y
 .cases d with
  | err cn f x=>
   simp![zj] at a1;let#[e,C,dx,w,e1,#[h1,h2,h3],_]:=a1;cases e1;show#[cn,C,dx,h1,h2]
  | _=>cases hd
 .have xT:Ext H' (upd H' į):=.new hT _;have rd:=zj.ext xT d a1;show q Ü ((((r1.ext (a2.trans xT)).set i rd).set j rd).hole i) Ī
end L3
namespace L5
open ĺ é L2 L3
open Ò hiding St
def zP:T->Bool
 | .err Ü _=>true
 | _=>É
@[simp] theorem zai À4 (t:T):zP (.err c f t)=true:=rfl
@[simp] theorem zaf:zP .zm=É:=rfl
@[simp] theorem zak (b:Bool):zP (.bl b)=É:=rfl
@[simp] theorem zah (b:Int):zP (ę b)=É:=rfl
@[simp] theorem zae (b:Str):zP (.str b)=É:=rfl
@[simp] theorem zad (b:List T):zP (.tup b)=É:=rfl
@[simp] theorem zag (b:List T):zP (.lst b)=É:=rfl
@[simp] theorem zaj:zP .xh=É:=rfl
def pE {S:SS}{y:T}{d:D}(h:Sn S y d):vz d=zP y:=by
 cases y with
 | tup _=>ext Ä6
 | lst _=>
  ext Ŵ;obtain⟨_,h | ⟨_,h,_⟩,_⟩:=h
  .rw[h.1];rfl
  .subst h;rfl
 | xh=>ext Ŵ;let#[_,_,#[h,_],_]:=h;subst h;rfl
 | err _ _ _=>ext Ä6
 | _=>ext Ŵ;subst h;rfl
def LP {y:T}(h:ş):∀ ts,y≠.lst ts:=λ ts e=>by subst e;cases h
@[simp] def qq À4 (g:Ae):Sm:=fun J=>(g J).map λ y=>.rt (.err c f y)
@[simp] def b7 (g:Ae):Sm:=fun J=>Ũ λ y=>if ş then none else ↑(.rt y)
@[simp] def nA (F:Ak) (g:ŀ):Sm:=fun J=>Ũ λ ys=>(F ys).map λ y=>if ş then .rt y else .nx J
@[simp] def lG ŗ (F:Ak) (g:ŀ):Sm:=fun J=>Ũ λ ys=>(F ys).map λ y=>if ş then .rt y else .nx (J.set i ↑(.im y))
@[simp] def lN À5 (g:Sm):Sm:=fun J=>Ũ λ o=>match o with
 | .nx J'=>↑(.nx J')
 | .rt y=>if ş then ↑(.nx (((J.set i none).set j ↑(.im y)).set i none)) else none
 | _=>none
@[simp] def noE (F:Ak):Ak:=λ ys=>(F ys).bind λ y=>if ş then none else ↑y
section
variable {R:Rk}{g h:Sm}{t:yw}{f:Ae}{te:zu}{S0 S:SS}{Z0 Z:Addr->Prop}{Y:yt}{J:Ev}
def QV [Cl R] {c x:Str}(hf:u9 f te):yy R (qq c x f) (jb c x te):=λ S0 Z0 S Z Y J o E F e P=>by
 let#[y,e1,rfl]:=AU.mp e;exact hf ţ y _ F.er e1 λ d S1 s1 r1=>P _ S1 (F.sx.trans s1) (Cl.of Ŧ ?_);simp![Sn];show#[d,rfl,Sn.sx (uM F.zz) y r1]
def QW [Sr R] (hf:xw R f te):yy R (b7 f) (gS te):=λ S0 Z0 S Z Y J o E F e P=>by
 let#[y,e1,e2]:=œ;split at e2
 .cases e2
 .rename_i hy;cases e2;show hf ţ y _ F.er e1 λ d S1 s1 r1=>#[by rw[pE (Sr.sn r1)];simpa using hy,P d S1 (F.sx.trans s1) (Lo.lo F.sx F.zz r1)]
def aG ŗ:yy zE (pK i) (gS (xb i)):=λ S0 Z0 S Z Y J o E F e P=>by
 have q:=iQ i S0 Z0 ţ o E F e P;unfold pK at e;split at e
 .rename_i ts h;let#[p,ob,h1,_]:=F.er.ow i _ h;have q':xb i Y S E.rt:=q;change xb i Y S λ d S1=>vz d=É/\E.rt d S1;unfold xb at q' ⊢;rw[h1] at q' ⊢;show#[rfl,q']
 .cases e
def Je (S0:SS) (Z0:Addr->Prop) (S:SS) (Z:Addr->Prop) (o:Out) (E:sj):Prop:=match o with
 | .nx J'=>∀ S' Z' Y',FR S0 Z0 S' Z' Y' J'->E.nx Y' S'
 | .rt y=>ş->∀ d S',Sx S S'->Sn (yc S' Z) y d->E.rt d S'
 | _=>True
def oY (g:Sm) (t:yw):Prop:=∀ S0 Z0 S Z Y J o E,FR S0 Z0 ţ->g J=↑o->Je S0 Z0 S Z o E->t E Y S
theorem oY.s [Cl R] (h:oY g t):yy R g t:=λ S0 Z0 S Z Y J o E F e P=>by
 exact h S0 Z0 ţ o E F e ?_;cases o with
 | nx J'=>show P
 | rt y=>show λ hy d S' s r=>P d S' (F.sx.trans s) (Cl.of (LP hy) (Sn.sx (uM F.zz) y r))
 | _=>trivial
def aI [Sr R] Á3:oY (nA F ga) (Yp (zG R F) ua):=λ S0 Z0 S Z Y J o E Fr e P=>by
 ext Ñ
 ext Đ
 .ext Ő;show P S2 Z Y (Fr.grow Â0)
def aJ [Sr R] ŗ Á3:oY (lG i F ga) (Yq i (zG R F) ua):=λ S0 Z0 S Z Y J o E Fr e P=>by
 ext Ñ
 ext Đ
 .ext Ő;show P S2 Z _ ((Fr.grow Â0).qo i (Sr.sn r2))
def FR.hole (h:FR S0 Z0 ţ) ŗ (v:ÿ D):FR S0 Z0 S Z (Y.set i v) (J.set i none):=by
 exact#[#[h.er.zd,λ j t e=>?_,λ j ts e=>?_],by simp[h.len],h.sx,h.z0,h.zz,h.zn,λ j ts p e e'=>?_,λ j k ts us p n e1 e2 e3 e4=>?_]
 .ext Ċ
  .cases e
  .rw[xU n];show h.er.im j t e
 .ext Ċ
  .cases e
  .rw[xU n];show h.er.ow j ts e
 .ext Ċ
  .cases e
  .rw[xU n] at e';show h.fr j ts p e e'
 .rcases yK e1 with ⟨rfl,hl,e⟩ | ⟨n1,e1⟩
  .cases e
  rcases yK e2 with ⟨rfl,hl,e⟩ | ⟨n2,e2⟩
  .cases e
  rw[xU n1] at e3;rw[xU n2] at e4;show h.dj j k ts us p n e1 e2 e3 e4
def QR À5 (hg:oY g t):yy R (lN i j g) (gR i j t):=λ S0 Z0 S Z Y J o E F e P=>by
 let#[o1,e1,e2]:=œ;exact hg S0 Z0 ţ o1 _ F e1 ?_;cases o1 with
 | nx J'=>cases e2;show P
 | rt y=>
  dsimp only at e2 ⊢;split at e2
  .rename_i hy;cases e2;show λ _ d S' s r=>#[by rw[pE r];show hy,P S' Z _ ((((F.grow s).hole i ↑d).qo j r).hole i none)]
  .cases e2
 | _=>trivial
end
section
variable {à}{x:Str}{Ç3}
def LF {R:Rk} [Lo R] {N ps:Ķ}{k n:Nat}{g:Sm}(F:Fy K mg x st) (Sc:vF N ps ŧ) (hn:n=ps.length)
  Ð
  (FW:∀ (f:Addr) ī,yo k (A.deeper (envOfC x ŧ À f Ah))->
   ∃ t,u6 (xj yT ļ N x ŧ f Ah A outer s H E).x9 É (xi st) t/\yy R g t):vp ļ x (k+1) ps (zG R (zM N n g)):=by
 let#[f,fd,F,hm]:=F;exact#[#[f,fd,fnX F Sc (λ ds S Q h=>by rw[h.len,hn]) λ Ah A outer s H E hr=>?_,hm,F.kp,F.binds hb],zG.mo];let#[t,h1,h2]:=FW f Ah A outer s H E hr;show#[t,h1,λ ds S Q h=>YD h2 h]
end
end L5
namespace L3
open ĺ é L2
open Ò hiding St
structure eD ĩ (cn:Str) (D:Addr):Prop where
 top:ħ K Ź cn=↑↑(Æ D)
 own:∃ bm N,rW K cn D bm N
def N3 (o:Obj):ÿ Str:=match o.data with
 | .cls cd=>↑cd.name
 | _=>none
def rW.nm Ĵ{c:Str}{C N:Addr}{bm:Ad}(h:rW K c C bm N):(K.lookup C).bind N3=↑c:=by
 let#[ģ,_]:=h;rw[e];rfl
def MA Ĵ{c cn:Str}{C P N NP D:Addr}(E:ķ) (G:eD K cn D):Â5=(ď):=by
 let#[bm,N',g]:=G.own;by_cases h1:cn=c
 .subst h1;have:=G.top.symm.trans E.top;cases this;simp
 .by_cases h2:cn="PurseError"
  .subst h2;have:=G.top.symm.trans E.bW;cases this;simp
  .have d1:D≠C:=λ z=>by
    subst z;have:=g.nm.symm.trans E.own.nm;cases this;show h1 rfl
   have d2:D≠P:=λ z=>by
    subst z;have:=g.nm.symm.trans E.par.nm;cases this;show h2 rfl
   have b1:(ì D == ì C)=É:=by exists d1
   have b2:(ì D == ì P)=É:=by exists d2
   rw[Bu,Bu,b1,b2,tx h1,tx h2];rfl
inductive j6 ĩ (c:Str):V->Bool->Prop where
 | own {cn:Str}{D:Addr}(g:eD K cn D):j6 K c (Æ D) (ď)
 | val:j6 K c (.ty "ValueError") true
theorem K6 ě:yS X (Å1 "isinstance") (λ xs H Q=>∃ e C dx c k b,xs=[Æ e,k]/\H e=↑(vb e C dx)/\uW X.K c C/\j6 X.K c k b/\Q (.bl b) H):=by
 intro FH s σ H xs us Q I r h;let#[e,C,dx,c,k,b,rfl,h1,#[P,N,NP,h2],h3,q]:=h;cases r with
 | cons ra rb=>
 cases rb with
 | cons rb rc=>
 cases rc;rename_i u1 u2;obtain rfl:u1=ì e:=ra;let#[hh,g,d,t,os]:=s;let#[Ã6,_]:=I.zr e _ h1;cases h3 with
 | @own cn D G=>
  obtain rfl:u2=ì D:=rb;let#[bm,N',o]:=id G.own;let#[#[q1,bs,sn,sub,ab,col,dd,k0,k1,k2,k3,k5,hD],_]:=o.at I.y7;exact dX (b:=Â5) (λ prog w A Q' E hq=>W8 (h2.dU I.y7) he hc hD rfl rfl hq) λ t'=>#[.bl _,H,I.tok t',rfl,?_];rw[MA h2 G];show q
 | val=>
  obtain rfl:u2=Ã1 "ValueError":=rb;show dX (b:=true) (λ prog w A Q' E hq=>W7 (T:="ValueError") (h2.dU I.y7) he hc (by kernel_rfl) hq) λ t'=>#[.bl _,H,I.tok t',rfl,q]
def jc (k:Str->Bool) (te:zu):zu:=fun Y S Q=>te Y S λ x S1=>match x with
 | .err c Ü=>Q (.bl (k c)) S1
 | _=>False
def Yx (f:Str) (te:zu):zu:=fun Y S Q=>te Y S λ x S1=>match x with
 | .err _ f' d=>f'=f/\Q d S1
 | _=>False
section
variable {ě}{Ä7}
def ak {cn:Str}{V0:V}{k:Str->Bool}(hk:∀ c,j6 X.K c V0 (k c)) (hp:PE X (ï cn q) (tC V0)) (T:Bt X.mg) ē ý:
  PD X ŋ (jc k te):=by
 exact#[Ŕ,PE.imp (t9 K6 hg T.isinstance boot_isinstance (ud he.pe (ud hp tB h3) h1) () () h1 h2) Ä1]
 .split at z
  .show hq Ü z
  .show z.elim
 .ext ğ;exact yb.go he.mo ö;cases x with
  | err c f d=>
   simp![zj] at q1;let#[a,C,dx,w,rfl,Æ3,_]:=q1;show#[a,C,dx,c,V0,k c,rfl,h2,hE,hk c,h1 _ H1 (Č) e1 p1]
  | _=>show h1.elim
theorem Qd {f:Str}ē (hf:f∈sO) (hb:attributeBase e f Ý (eval e Ý)=eval e Ý):PD X (ť e f pos) (Yx f te):=by
 exact#[Ŕ,λ FH s σ H Q I hu=>?_]
 .split at z
  .show#[z.1,hq Ü z.2]
  .show z.elim
 ext ğ;exact KO hb (zF (he.pe Ğ (λ x H1=>∃ a C dx c w,x=Æ a/\uW X.K c C/\H1 a=↑(vb a C ↑dx)/\H1 dx=↑(.xd [(f,w)])/\Q w H1) I (yb.go he.mo ö)) λ u s1 #[x,H1,I1,rx,a,C,dx,c,w,ex,ġ,h1,h2,q]=>?_)
 .cases x with
  | err c f' d=>
   simp![zj] at q1;let#[a,C,dx,w,rfl,Æ3,h4]:=q1;let#[rfl,h1]:=h1;cases dx with
   | none=>rw[h3.1] at hf;show ř hf ()
   | some dx=>show#[a,C,dx,c,w,rfl,hE,h2,h3,h1 w H1 h4 e1 p1]
  | _=>show h1.elim
 .subst ex;obtain rfl:u=ì a:=rx;let#[hh,g,d,t,os]:=s1;let#[Ã6,_]:=I1.zr a _ h1;let#[mA,Bo,hr]:=I1.zr dx _ h2;have hv:=hr f;simp![Bv,beq_self_eq_true,if_true] at hv;obtain⟨u',hu',ru⟩:∃ u',mA f=↑u'/\RelV w u':=by
   cases z:mA f with
   | none=>rw[z] at hv;show hv.elim
   | some u'=>rw[z] at hv;show#[u',rfl,hv]
  let#[#[q1,bs,sn,sub,ab,col,dd,k0,k1,k2,k3,k5,hC],hN,hn]:=hE.own.at I1.y7;ext Å5;have m1:("__getattribute__":Str)∈r9:=#[];have m2:("__getattr__":Str)∈r9:=#[];show W9 Å7 hC hN İ (hn _ m1) (HF _ m1) (hn _ m2) (HF _ m2) Â4 he hc (λ c z=>by rw[Dt] at z;cases z) Ds Bo hu' (PySem.W.handedOut_of (MR ru)) #[w,H1,I1.tok _,ru,q]
end
end L3
namespace L5
open ĺ é L2 L3
open Ò hiding St
@[simp] def ug (k:Str->Bool) (g:Ae):Ae:=fun J=>Ũ λ x=>match x with
 | .err c Ü=>↑(.bl (k c))
 | _=>none
@[simp] def kU (f:Str) (g:Ae):Ae:=fun J=>Ũ λ x=>match x with
 | .err _ f' t=>if f'=f then ↑t else none
 | _=>none
def OQ {k:Str->Bool}Ç4:xG (ug k g) (jc k te):=λ S Z Y J y Q hE e hq=>by
 ext Ė
 .cases e2;let#[d',rfl,_]:=Vw.err r1;show hq _ S1 s1 (Cl.of Ŧ wK)
 .cases e2
def aL {f:Str}Ç4:u9 (kU f g) (Yx f te):=λ S Z Y J y Q hE e hq=>by
 ext Ė
 .split at e2
  .rename_i h;cases e2;let#[d',rfl,h2]:=Vw.err r1;show#[h,hq _ S1 s1 h2]
  .cases e2
 .cases e2
end L5
namespace L3
open ĺ é L2
open Ò hiding St
def Ec ĩ (c:Str):Prop:=∃ C P N NP,ķ
def Ec.i Ĵ{c:Str}{C P:Addr}Ä:Ec K c:=#[C,P,_,_,gJ h]
def Ei ĩ À4 (st:Stmt):Prop:=∃ (C P N NP fI:Addr) (fd:Å2),ķ/\Þ
def Ei.i Ĵ Ļ{C P fI:Addr}Ä (k:ń K (Æ C)=true) (n:ħ K c1.ns "__init__"=↑↑(Æ fI)) (g:Æ5)
  {oc:đ}{od an:ÿ Addr}{H_:Array (ÿ đ)}{kV doc pm Ah ct:đ}(l:K.lookup fI=↑#[oc,od,.func (PySem.W.fnOf Ŏ ą ct),H_])
  (cd:PySem.W.codeIn K Ah (c++".__init__")=true) (k2:ń K (Æ fI)=true):Ei K c f st:=#[C,P,_,_,fI,_,gJ h,k,n,g,gz l cd k2]
def Og ĩ (mg:Au) (cn:Str):Prop:=∃ D,eD K cn D/\mg cn=↑(Æ D)
section
variable {Ĵ}{mg:Au}{Å4}{Ļ}
def Ei.mk (H:Ei K c f st) Ã3 (G:h.Ns Ź mg) (hf:f∈sO:=by simp):oZ K mg c f st:=by
 let#[C,P,N,NP,fI,fd,e,k,n,g,F]:=H;show#[hf,C,P,N,NP,fI,fd,e,PySem.W.mg_of X G e.top,k,n,g,F]
def Ec.mk (H:Ec K c) Ã3 (G:h.Ns Ź mg):Og K mg c:=by
 let#[C,P,N,NP,e]:=H;show#[C,#[e.top,_,_,e.own],PySem.W.mg_of X G e.top]
end
def yn (cn:Str) (c:Str):Bool:=ď
section
variable {ě}{Ä7}
def RW {cn:Str}(O:Og X.K X.mg cn) (T:Bt X.mg) ē (hd:(cn == ü)=É) (Hn:Gl X cn) ý:
  PD X ŋ (jc (yn cn) te):=by
 let#[D,o,hm]:=O;show ak (V0:=Æ D) (λ c=>.own o) (iG Hn hm rfl hd) T he hg h1 h2 h3
def KG:bootBuiltins "ValueError"=↑ Ŷ:=by decide +kernel
def iJ (hm:X.mg "ValueError"=none) (T:Bt X.mg) ē (Hn:Gl X "ValueError") (hg:Gl X "isinstance") (h1:Az X e [ŕ]) (h2:AE X pos [ŕ]) (h3:Az X (ŕ) []):
  PD X (.Call (ï "isinstance" p) [e,ŕ] [] pos) (jc (λ _=>true) te):=
 ak (V0:=.ty "ValueError") (λ c=>.val) (ah Hn hm KG rfl () ()) T he hg h1 h2 h3
end
end L3
namespace L5
open ĺ é L2 L3
open Ò hiding St
def QP {R R':Rk} [Lo R'] {F:Ak}{g:ŀ}{u:ym}(h:xw R' (zi F g) (mV (zG R F) u)):yy R' (retS (zi F g)) (Yo (zG R F) u):=aH h
def Y4:Stmt->Æ2
 | .ClassDef Ü _ b Ü Ü Ü _=>b
 | _=>[]
def LI à{x:Str}Ç3{R:Rk}{ps:Ķ}{k:Nat}(F:Fy K mg x st)
  Ð:FD ļ x k ps (zG R λ _=>none):=by
 let#[f,fd,F,hm]:=F;show#[#[f,fd,#[λ vs H Q E #[ds,S,r1,r2,Z,ys,y,_,_,e,_]=>(nomatch e),λ A outer s H args us vs Q E _ _ _ _ #[ds,S,_,_,Z,ys,y,_,_,e,_]=>(nomatch e)],hm,F.kp,F.binds hb],zG.mo]
end L5
namespace L2
open ĺ é Ò
def N4 (i j c:Int):Nat:=if i<j then ((j-i-1)/c+1).toNat else 0
end L2
namespace L3
open ĺ é L2
open Ò hiding St
section
variable {ě}{Ĵ}{e a b c:Expr}{es:List Expr}{tA:ym}{pos p:Pos}
def U0 (lo c:Int) (n:Nat):List D:=(Ņ n).map λ(k:Nat)=>D.int (lo+(k:Int)*c)
def zac (t:ym):wz:=fun Y S R=>t Y S λ ds S1=>match ds with
 | [ę i,ę j,ę c]=>(-(2 ^ 31)<=i/\i<2 ^ 31/\-(2 ^ 31)<=j/\j<2 ^ 31/\0<c/\c<1000000)/\R #[U0 i c (N4 i j c),λ _=>True] S1
 | _=>False
def tL:xE:=λ ds S Q=>match ds with
 | [ę i]=>Q Š S
 | _=>False
def tL.mo:vm tL:=λ ds S Q Q' hq h=>by
 unfold tL at h ⊢;split at h
 .show hq Ü h
 .show h.elim
def tL.fits:uB K tL (λ xs H Q=>∃ i,xs=[ę i]/\Q Š H):=λ xs ds H S Q h0 h2 h=>by
 unfold tL at h;split at h
 .let#[x,rfl,h1]:=h0.one;simp![zj] at h1;subst h1;show#[_,rfl,h _ H (Č) (.refl H) h2]
 .show h.elim
def Qp (hm:X.mg "abs"=none) Ĕ (hg:Gl X "abs") Ã4:PD X (.Call (ï "abs" p) (e::es) [] pos) (xR tL tA):=
 sG (t9 K9 hg hm boot_abs ha.pa () () he Al) tL.mo tL.fits ha.mo
def uX (_ j:Int):Prop:=0<j/\j<2 ^ 200
def sZ (i j:Int):Prop:=i.natAbs<2 ^ 200/\j.natAbs<2 ^ 200
instance (i j:Int):Decidable (uX i j):=by unfold uX;infer_instance
instance (i j:Int):Decidable (sZ i j):=by unfold sZ;infer_instance
def Zb {n:Nat}(h:n<2 ^ 200):n.log2<200:=by
 rcases ET n with h0 | hp
 .rw[h0];decide
 .show (Nat.log2_lt (BB hp)).mpr h
def YG {i:Int}(h:i.natAbs<2 ^ 200):Builtin.Int.intBits i<=2 ^ 20:=by
 have:=Zb h;unfold Builtin.Int.intBits;split <;> lia
def QH:yp X (binaryOp .FloorDiv) (rI ś):=pS λ i j _ _ _ _ _ hc q=>by
 have h1:(0:Int)<j:=hc.1;have h2:j.natAbs<2 ^ 200:=by have:=hc.2;lia
 have h3:=Zb h2;show floordiv_int ⋯ (by rw[Int.fdiv_eq_ediv_of_nonneg i ⋯];show q) (.inl (PyProof.noPylong_of_log2 ⋯))
def QA:yp X (binaryOp .Mult) (rI Ŝ):=pS λ _ _ _ _ _ _ _ hc q=>mul_int q (PySem.IntMulOk.of_bits (YG hc.1) (YG hc.2))
variable {ta tb:zu}
def Qe Ä8:PD X (.BinOp a .FloorDiv b pos) (yB (fI ś) ta tb):=rp QH Ä9
def RB Ä8:PD X (.BinOp a .Mult b pos) (yB (fI Ŝ) ta tb):=rp QA Ä9
end
end L3
namespace L5
open ĺ é L2 L3
open Ò hiding St
structure Wf (mg:Au):Prop extends Bq mg where
 abs:mg "abs"=none
@[simp] def ec:Ak
 | [ę i]=>↑ Š
 | _=>none
def Lj:vn zE ec tL:=λ S Z ys z ds Q hz hv e hq=>by
 unfold ec at e;split at e
 .cases e;let#[d,rfl,h1]:=vV hv;cases h1.int;show hq _ S (.refl S) (Cl.of Ŧ wj)
 .cases e
@[simp] def wx:T->T->ÿ T:=qG ś
@[simp] def vL:T->T->ÿ T:=qG Ŝ
def OW ú:xG (zb wx fa fb) (yB (fI ś) ta tb):=Ű
def Oe ú:xG (zb vL fa fb) (yB (fI Ŝ) ta tb):=Ű
end L5
namespace L3
open ĺ é L2
open Ò hiding St
section
variable {Ĵ}{p:Pos}
def rB (d:D) (S:SS) (ns:ê):Prop:=match d with
 | .xN es=>es=ns.map D.int
 | Æ a=>S a=↑(.lst (ns.map D.int))
 | _=>False
theorem rB.sq {H:Hp}{S:SS}{d:D}{v:V}Ŭ(r:zj K H d v) (p:zK K H S) (h:rB d S ns):∃ a,v=Æ a/\zU K H a ź:=by
 unfold rB at h;split at h
 .subst h;simp![zj] at r;let#[a,xs,r1,r2,r3]:=r;rw[r3.ints] at r2;show#[a,r1,r2.sq]
 .rename_i a;simp![zj] at r;let#[xs,x1,x2]:=p a _ h;rw[x2.ints] at x1;show#[a,r,.inl (.inl x1)]
 .show h.elim
end
end L3
namespace L5
open ĺ é L2 L3
open Ò hiding St
def Vw.ints {S:SS}{Z:Addr->Prop}Ŭ{d:D}(h:Vw S Z (.lst (ns.map T.int)) d):rB d S ns:=by
 rcases h with h | ⟨ts,p,ds,e,rfl,h1,h2,_⟩
 .ext Ŵ;let#[ds,h1,h2]:=h;have e:=uH.mp h2;subst e;rcases h1 with ⟨rfl,_⟩ | ⟨a,rfl,h3⟩
  .rfl
  .show (uL h3).2
 .cases e;rw[uH.mp h2] at h1;show h1
end L5
namespace L2
open ĺ é Ò
section
variable {ě}
def U5 ĩ:V->List V->Hp->VK->Prop:=λ x vs H Q=>∃ (l:Addr) (ns:ê) (k:Int),x=Æ l/\vs=[ę k]/\zU K H l ź/\k∈ns/\Q (ę (ũ:Nat)) H
theorem Z7:∀ Ŭ{us:Ad},Vals ź us->IntsAre us ns
 | [],_,h=>by cases h;show .nil
 | n::ns,us,h=>by
  cases h with
  | cons r rr=>
   let#[t,rfl]:=r;show Ÿ n t (Z7 rr)
theorem NB:Xj X "list.index" (U5 X.K):=by
 intro FH s σ H x vs v us Q I rx rv h;let#[l,ns,k,rfl,rfl,hq,hk,q]:=h;cases rx;let#[u,rfl,ru]:=rv.one;let#[t,rfl]:=ru;let#[Aa,r,pl,hz]:=I.list hq;have hi:IntsAre Aa ns:=Z7 r;let#[#[cls,dd,data,sl],ho,hc,n,hd]:=pl.isList;simp only at hc hd;subst hc hd;have hlen:=hi.length;have hj:ũ<Ï:=EI.mpr hk;have hb:Ï<=ı:=by exists hz
 have h63:ı<2 ^ 62:=()
 exact call_meets PySem.F.slot_list_index #[_,ho,rfl] PySem.F.entry_list_index (PySem.F.args_list_index_2 Ü)
  (PySem.SeqAt.list_indexAt l Aa.toArray n dd sl (ę k t) (isInt k) (ũ) (by simpa [hlen] using hj) ⋯ ?_ ?_) #[ho,λ y hy=>(eq_isInt k t hi y (by exists hy)).at Ü,#[ę _,H,I.tok _,#[_,rfl],q]]
 .change isInt k Aa[ũ]=true;rw[isInt_at k hi _ ⋯ hj];exists EH hj
 .intro j hjs Ax;change isInt k Aa[j]=É;have hjn:j<Ï:=⋯;rw[isInt_at k hi _ (by exists hjs) hjn];show ne_of_lt_idxOf Ax _
end
end L2
namespace L3
open ĺ é L2
open Ò hiding St
section
variable {ě}{Á7}
def Yw (to te:zu):zu:=fun Y S Q=>to Y S λ x S1=>(∃ ns,rB x S1 ns)/\te Y S1 λ y S2=>∃ (ns:ê) (k:Int),rB x S2 ns/\y=ę k/\k∈ns/\Q (ę (ũ:Nat)) S2
def RY (ho:PD X o to) ē
  (Gi:attributeBase o "index" Ý (eval o Ý)=eval o Ý)
  (AX:((backTo Ai (Ĝ [e] Ý)).all (λ x=>!x.1)&&(backToKw Ai (keywordEach [] Ý)).all (λ x=>x.1.isSome)
   && decide ([e].length+([]:List Keyword).length+(if ([]:List Keyword).isEmpty then 0 else 1)<30))=true)
  (Hm:(apos.endLine == Ai.line)=true) (hs:Az X e []) (GK:AE X Ai []):
  PD X (.Call (ť o "index" apos) [e] [] Ai) (Yw to te):=by
 exact#[fun Y S Q Q' hq z=>ho.mo Y S Ü (λ x S1 z=>#[z.1,he.mo Y S1 Ü (λ y S2 #[ns,k,h1,h2,h3,h4]=>#[ns,k,h1,h2,h3,hq Ü h4]) z.2]) z,PE.imp (iH PySem.F.plainAttrs_list PySem.F.slot_list_index PySem.F.type_list_index NB ho.pe (ud he.pe tB hs) Gi AX Hm hs GK) Ä1];ext ğ;exact yb.go ho.mo ö;let#[#[ns,hn],h1]:=h1;let#[a,rfl,sq]:=rB.sq q1 p1 hn;exact#[.inl #[rfl,_,sq],?_];exact yb.go he.mo ŭ;let#[ms,k,g1,rfl,g3,g4]:=h2;let#[b,eb,sq2]:=rB.sq (zj.ext e2 x q1) p2 g1;cases eb;simp![zj] at q2;subst q2;show#[a,ms,k,rfl,rfl,sq2,g3,g4 _ H2 (Č) (e1.trans e2) p2]
end
end L3
namespace L5
open ĺ é L2 L3
open Ò hiding St
def m7:T->T->ÿ T
 | .lst ts,ę k=>(wF ts).bind λ ns=>if k∈ns then ↑(ę (ũ:Nat)) else none
 | _,_=>none
def OU ú:xG (zb m7 fa fb) (Yw ta tb):=λ S Z Y J y Q hE e hq=>by
 unfold zb at e;let#[x,e1,e]:=œ;let#[z,e2,e]:=œ;unfold m7 at e;split at e
 .let#[ns,i1,i2]:=œ;split at i2
  .rename_i hk;cases i2;have ei:=om i1;subst ei;exact ha ţ Ü hE e1 λ d S1 s1 r1=>#[#[ns,Vw.ints r1],?_];exact hb S1 Z Y J Ü (hE.grow s1) e2 λ d2 S2 s2 r2=>?_;cases r2.int;show#[ns,_,Vw.ints (Vw.grow r1 s2),rfl,hk,hq _ S2 Â0 (Cl.of Ŧ wj)]
  .cases i2
 .cases e
end L5
namespace ZP
open ĺ Ò
abbrev eJ (h:Heap) (z TI TO:Addr) (f0 f1:đ):Prop:=
 ĳ z=↑{ cls:=.type "zip",dict:=none,data:=.fields [f0,f1,.bool É,Æ TI,Æ TO].toArray,slots:=Ā }
structure Bt (h:Heap) (k1 k2:Bool) (z TI TO i1 i2 l1 l2 T0:Addr) (n:Nat):Prop where
 z:∃ b:Bool,eJ h Ã5 (.bool b)
 ti:IsPair h TI (Æ i1) (Æ i2)
 to:∃ o,ĳ TO=↑o
 s1:SI h k1 i1 l1 n
 s2:SI h k2 i2 l2 n
section
variable {Ģ}{E:Ag}{ĵ}
def WM {a:Addr}{o:Obj}{Q:ÿ Obj->í}(ha:Ó a=↑o) (h:Q ↑o s):Ć û (loadIfAlive a) Q E s:=fun Γ p _=>by
 change Q (Ó a) s;rw[ha];show h
def aM {z TI TO T0:Addr}{b:Bool}{o:Obj}{Q:Bool->í}(hz:eJ è Ã5 (.bool b)) (h0:Ó T0=↑o)
  (hQ:∀ h',eJ h' Ã5 (.bool true)->Heap.SameBut z è h'->Q É { s with heap:=h' }):Ć û (ĝ ĭ) Q E s:=by
 unfold ĝ;exact MX (m:=field ĭ 0) (za5 hz rfl (x:=rawInt T0) rfl ?_);exact MX (m:=loadIfAlive T0) (WM h0 ?_);simp![Option.isNone_some,Bd,if_false];exact MX (m:=field ĭ 1) (za5 hz rfl (x:=.bool b) rfl ?_);cases b with
 | true=>show Ac (hQ _ hz #[rfl,λ _ _=>rfl])
 | É=>
  exact MX (zaP hz #[] λ g1 Iq e1=>Ac (hQ g1 Iq e1))
def M4 õ{xs ys:Ar}{x y:đ}{o0:Obj}{Q:ÿ đ->í}ā (hx:xs[n]?=↑x) (hy:ys[n]?=↑y)
  (hQ:∀ h',Bt h' Ħ T0 (n+1)->IsPair h' À x y->ë->h'.objs.size=À+1->Q ↑ Ŗ { s with heap:=h' }):
  š:=by
 ext Í;let#[b1,b2,b3,b4,b5]:=f2;ext Û;exact MX (MX (za7 (MX (m:=ō (Æ i1)) (draw ĕ λ g2 s12 e2=>Ac ?_))));exact Ac ?_;have up:∀ c o,c≠z->c≠i1->Ó c=↑o->g2.get? c=↑o:=λ c o c1 c2 q=>e2.extBut Ü c2 (e1.extBut Ü c1 q);exact MX (MX (za7 (MX (m:=ō (Æ i2)) (draw (s2.on λ o q=>up _ o (Å6 n4) (Å6 n10) q) (h2.on λ o q=>up _ o b1 b4 q) hy λ g4 s24 e4=>Ac ?_))));exact Ac (Ac ?_);exact MX (wpAny_newTuple ?_ (show 2<=ı by decide));have sz:Ã7=À:=by rw[e4.1,e2.1,e1.1]
 exact Ac #[Æ Ã7,rfl,Ac ?_];change Q ↑(Æ Ã7) _;rw[sz];have up4:∀ c o,c∉ Â->Ó c=↑o->g4.get? c=↑o:=λ c o hc q=>by
  ext Ç5;show Æ6 Ü hc.2.2.2.2 (up c o hc.1 hc.2.2.2.1 q)
 exact hQ _ #[#[true,gV _ (Æ6 Ü n4 (e2.extBut Ü n3 Iq))],gV _ (Æ6 Ü n7 (up Ü (Å6 n1) n6 Cu)),#[oT,gV _ (Æ6 Ü n9 (up Ü (Å6 n2) n8 Dn))],s12.on λ o q=>gV _ (Æ6 Ü n10 q),s24.on λ o q=>gV _ q] ?_ (λ c o hc q=>gV _ (up4 c o hc q)) (by rw[Heap.size_push,sz]);have:(g4.push { cls:=.type "tuple",data:=.seq [x,y].toArray }).get? Ã7=↑{ cls:=.type "tuple",data:=.seq [x,y].toArray }:=AW _ rfl;rw[sz] at this;show this
def VC õ{xs ys:Ar}{o0:Obj}{Q:ÿ đ->í}Á4 ā (hx:xs[n]?=none)
  (hQ:∀ h',ë->Q none { s with heap:=h' }):
  š:=by
 ext Í;ext Û;exact MX (MX (za7 (MX (m:=ō (Æ i1)) (gQ hh ĕ λ g2 ex e2 he=>?_))));let#[oe,q1,q2]:=he;exact MX (wpAny_isInstance (T:="StopIteration") (b:=true) #[oe,q1,q2] isSubtype_stop (Ac (hQ _ λ c o hc q=>?_)));ext Ç5;show e2 Ü hc.2.2.2.1 (e1.extBut Ü hc.1 q)
end
def tW (h:Heap) (fp:Ō) (N:Nat) (xs ys acc:Ar):Prop:=∀ (j:Nat) v,acc[j]?=↑v->∃ b x y,v=Æ b/\(N<=b/\b∉fp)/\IsPair h b x y/\xs[j]?=↑x/\ys[j]?=↑y
def tW.on Ç6 Ã9(p:tW h Â7) (k:∀ c o,c∉fp->Ż):tW h' Â7:=λ j v e=>
 let #[b,x,y,e1,e2,e3,e4]:=p j v e;#[b,x,y,e1,e2,k b _ e2.2 e3,e4]
theorem tW.push Å4 Ã9{b:Addr}{x y:đ}(p:tW h Â7) (hb:N<=b/\b∉fp) (hi:IsPair h b x y) Á5:tW h fp N xs ys (acc.push (Æ b)):=λ j v e=>by
 rw[EG] at e;split at e
 .rename_i q;cases e;subst q;show#[b,x,y,rfl,hb,hi,hx,hy]
 .show p j v e
def Zt (h:Heap) (k1 k2:Bool) (z TI TO i1 i2 l1 l2:Addr) (acc:Ar):Prop:=
 (Ĩ=0/\At h Ħ .none 0)\/∃ T0,acc[0]?=↑(Æ T0)/\Bt h Ħ T0 Ĩ
theorem Zt.lt Å4 Ä0{z TI TO i1 i2 l1 l2:Addr}{acc:Ar}(Z:Zt h Ħ acc):∀ b∈ Â,b<h.objs.size:=λ b hb=>by
 simp![Ao,AN,Ş] at hb;rcases Z with ⟨_,S⟩ | ⟨_,_,S⟩
 .let#[q1,q2,#[_,_,q3],q4,q5]:=S;ext Â8
  .show An q1
  .show An q2
  .show An q3
  .show q4.lt
  .show q5.lt
 .let#[#[_,q1],q2,#[_,q3],q4,q5]:=S;ext Â8
  .show An q1
  .show An q2
  .show An q3
  .show q4.lt
  .show q5.lt
def Bt.keep Ç6 õ(S:Bt h Ħ T0 n) (f:∀ b∈ Â,∀ o,ĳ b=↑o->č b=↑o):Bt h' Ħ T0 n:=
 #[let #[b,e]:=S.z;#[b,f z #[] _ e],f TI #[] _ S.ti,let #[o,e]:=S.to;#[o,f TO #[] _ e],S.s1.on (f i1 #[]),S.s2.on (f i2 #[])]
section
variable {Ģ}{R:Result->í}{E:Ag}{ĵ}{Ä0}{z TI TO i1 i2 l1 l2 S:Addr}{xs ys acc:Ar}
def M3 {x y:đ}{Q:ÿ đ->í}{fp:Ō}(D:sd Ã) (Z:Zt è Ħ acc) {N:Nat}(P:tW è Â7) ŵ Á5
  (hQ:∀ h',Zt h' Ħ (acc.push Ŗ)->IsPair h' À x y->ë->Q ↑ Ŗ { s with heap:=h' }):
  š:=by
 ext À0
 .rw[e] at hx hy;exact item D S0 h1 h2 hx hy λ h' S' T' up=>hQ h' (.inr #[À,?_,?_]) T' up
  .rw[EG,if_pos e.symm]
  .rw[Eb,e];let#[q1,q2,#[_,_,q3],q4,q5]:=S';show#[#[É,q1],q2,#[_,q3],q4,q5]
 .let#[b,x',y',e,_,hi,_]:=P 0 _ e0;cases e;exact M4 D S0 hi h1 h2 hx hy λ h' S' T' up _=>hQ h' (.inr #[T0,?_,?_]) T' up
  .rw[EG,ŷ,e0];have:=(Array.getElem?_eq_some_iff.mp e0).1;lia
  .rw[Eb];show S'
def gather {m N:Nat}(res:đ) Á4 (D:sd Ã) (hS:S∉ Â) (h1S:l1≠S) (h2S:l2≠S) ů:
  ∀ (k:Nat) (s:Shared) (acc:Ar) (c:Nat),Ĩ+k=m->Zt è Ħ acc->SQ è k1 l1 xs->SQ è k2 l2 ys->Ó S=↑{ cls:=Ŀ,dict:=none,data:=.seq acc c,slots:=Ā }->
  N<=À->tW è (S::Â) N xs ys acc->
  (∀ h' Ic c',(∀ b o,b∉S::Â->ż)->č S=↑{ cls:=Ŀ,dict:=none,data:=.seq Ic c',slots:=Ā }->Ic.size=m->tW h' (S::Â) N xs ys Ic->À9)->
  codeAny û (Å1 "list.extend.loop" #[[Æ S,Æ z,res],[]]) R s:=by
 have J_:∀ Ç6,(∀ c o,c∉ Â->Ż)->∀ c o,c∉S::Â->Ż:=λ f c o hc q=>f c o (λ z=>hc (AD _ z)) q;intro k
 induction k with
 | zero=>
  ext Ô;have fin:∀ h',ë->À9:=λ h' up=>hR h' acc c (J_ up) (up S _ hS hs) ⋯ (P.on (J_ up));have hx:xs[Ĩ]?=none:=by rw[Array.getElem?_eq_none_iff];lia
  exact MX ?_;ext À0
  .rw[e] at hx;show stop hh D S0 q1 q2 (.inl hx) λ h' up=>Ac (fin h' up)
  .let#[b,x,y,e,_,hi,_]:=P 0 _ e0;cases e;show VC hh D S0 hi q1 q2 hx λ h' up=>Ac (fin h' up)
 | succ k ih=>
  ext Ô;have C2:Ĩ<xs.size:=⋯;have hys:Ĩ<ys.size:=⋯;have nN:À ∉S::Â:=λ hb=>by
   rcases Ao.mp hb with e | hb
   .show ř (An hs) (by rw[e];show Cq _)
   .show ř (Z.lt _ hb) (Cq _)
  exact MX (M3 D Z P q1 q2 (Bf C2) (Bf hys) λ h' Z' T' up=>?_);have hS':=up S _ hS hs;have P':=(P.on (J_ up)).push #[hN,nN] T' (Bf C2) (Bf hys);change Ć _ A.in1 (updateSeq S (·.push Ŗ) >>= _) Ü _;have IJ:∀ b o,b≠S->č b=↑o->(h'.update S (Ū (·.push Ŗ))).get? b=↑o:=λ b o hb e=>Ł e;have ne:∀ b∈ Â,b≠S:=λ b hb e=>hS (e▸hb);exact MX (zaT hS' rfl (Ac #[plainId_quiet Á0 _,ih _ (acc.push Ŗ) _ (by rw[Eb];lia) ?_ ?_ ?_ (za8 _ hS' rfl) ?_ ?_ λ h'' Ic c' k1 k2 k3 k4=>?_])
   ⋯ (by change (acc.push _).size<=ı+1;rw[Eb];lia))
  .rcases Z' with ⟨e,_⟩ | ⟨T0,e0,S0⟩
   .simp at e
   .show .inr #[T0,e0,S0.keep λ b hb o e=>IJ b o (ne b hb) e]
  .show (q1.on λ o e=>IJ _ o h1S (up l1 o D.f1 e))
  .show (q2.on λ o e=>IJ _ o h2S (up l2 o D.f2 e))
  .rw[Ä2];show Bc hN (Bl (An T'))
  .show P'.on λ c o hc e=>IJ c o (λ e=>hc (e▸Aw)) e
  .show hR h'' Ic c' (λ b o hb e=>k1 b o hb (IJ b o (λ e=>hb (e▸Aw)) (J_ up b o hb e))) k2 k3 k4
def Ny:typeLookup (.type "zip") "__len__"=pure none:=by ext ß
def Nz:typeLookup (.type "zip") "__length_hint__"=pure none:=by ext ß
def Km {m:Nat}{Q:List đ->í}ø ů
  (h:∀ h' acc,(∀ b o,b∉ Â->ż)->Ĩ=m->tW h' Â À xs ys acc->À<=h'.objs.size->Q ņ { s with heap:=h' }):Ć û (collect ĭ) Q E s:=by
 have Z0:Zt è Ħ Ā:=.inl #[rfl,S0];have hS:À ∉ Â:=λ hb=>ř (Z0.lt _ hb) (Cq _);have hSI:À ≠z:=λ e=>hS (by simp[e]);unfold collect;exact MX (wpAny_runValue (Æ7 F.entry_proto_collect ?_));rw[Ž F.plain_proto_collect _];change Ć _ A.in1 (newList [] >>= λ l=>again (Å1 "list.__iadd__" #[[l,Æ z],[]])) Ü s;exact MX (zaA ?_);exact Ac #[plainId_quiet F.plain_list_iadd _,Æ7 F.entry_list_iadd ?_];rw[Ž F.plain_list_iadd _];change Ć _ A.in1 (Æ8 Ŗ ĭ Ŗ) Ü _;unfold Æ8;have up:∀ b o,Ó b=↑o->(È).get? b=↑o:=λ b o e=>gV _ e;exact MX (zaK (T:="zip") #[_,up Ü S0.z,rfl] ?_);have h1:Builtin.List.listSameRef Ŗ ĭ=É:=by simp[Builtin.List.listSameRef,hSI]
 have h2:(Ã1 "zip" == Ã1 "list")=É:=()
 have h3:(Ã1 "zip" == Ã1 "tuple")=É:=()
 simp![h1,h2,h3,Bool.or_false,Bd,if_false];exact MX (wpAny_pyIter_zip (up Ü S0.z) ?_);exact MX (za7 ?_);unfold Builtin.List.listLengthHint;have hT:Shared.TypeIs { s with heap:=È } ĭ "zip":=#[_,up Ü S0.z,rfl];exact MX (wpAny_specialOf hT Ny ?_);change Ć _ A.in1 (specialOf (ì z) (Str.ofString "__length_hint__") >>= _) Ü _;exact MX (wpAny_specialOf hT Nz ?_);exact Ac ?_;change Ć _ A.in1 (rule "list.extend.makes-room" >>= λ _=>Builtin.List.listTouch Ŗ >>= λ _=>
  again (Å1 "list.extend.loop" #[[Æ À,Æ z,Æ À],[]])) Ü _
 exact MX (zaI ?_);have hS₁:(È).get? À=↑{ cls:=Ŀ,data:=.seq ([]:Ad).toArray }:=AW _ rfl;exact MX ?_;change Ć _ A.in1 (updateSeq À (·.push .none) >>= λ _=>updateSeq À (·.pop)) Ü _;exact MX (zaT hS₁ rfl ?_);have hS₂:=za8 (Ū (·.push ū)) hS₁ rfl;exact zaT hS₂ rfl ?_;have hS₃:=za8 (Ū (·.pop)) hS₂ rfl;have IJ:∀ b o,b≠ À->ò:=
  λ b o hb e=>Ł (Ł (up b o e))
 have old:∀ b o,ò:=λ b o e=>IJ b o (AB (An e)) e;exact Ac #[plainId_quiet Á0 _,gather (k1:=k1) (k2:=k2) (N:=À) _ (by show hh) D hS (AB q1.lt) (AB q2.lt) Eo En hm m _ Ā _ #[]
  (.inl #[rfl,S0.keep λ b _ o e=>old b o e]) (q1.on λ o e=>old _ o e) (q2.on λ o e=>old _ o e) hS₃ (by rw[Ä2,Ä2,Heap.size_push];show CJ _) (λ j v e=>by simp at e) λ h' Ic c' k1 k2 k3 k4=>?_]
 change Ć _ A (load À >>= _) Ü _;exact MX (wpAny_load k2 ?_);exact Ac (h h' Ic (λ b o hb e=>k1 b o (λ z=>(Ao.mp z).elim (AB (An e)) hb) (old b o e)) k3 (λ j v e=>?_) (Bl (An k2)));let#[b,x,y,e1,e2,e3]:=k4 j v e;show#[b,x,y,e1,#[e2.1,λ z=>e2.2 (AD _ z)],e3]
end
end ZP
namespace ZP
open ĺ PySem.W PySem.Calls Ò L2 L4
def rA (ns:ê) À5:Bool:=decide (æ<ns.getD j 0)
theorem N5 (ns:ê):Ord (rA ns):=by
 exact#[λ a b c h1 h2=>?_,λ a b h=>?_]
 .unfold Le rA at *;have:=Â1 h1;have:=Â1 h2;show tx ⋯
 .unfold Le rA at *;have:=of_decide_eq_true h;show tx ⋯
def qT (h:Heap):List đ->ê->Prop:=Paired λ v n=>∃ b t y,v=Æ b/\IsPair h b (ę n t) y
theorem qT.rL Å4:∀ {vs:Ad}Ŭ,qT h vs ns->∃ fs,KatTups h vs fs/\fs.length=Į/\∀ v∈fs,∃ n t,v=Value.int n t
 | _,_,.nil=>#[[],KatTups.nil,rfl,λ _ hv=>ř hv #[]]
 | _,_,Ÿ (b:=n) #[b,t,y,hv,hi] r=>by
  let#[fs,h1,h2,h3]:=qT.rL r;subst hv;show#[ę n t::fs,KatTups.cons hi rfl rfl rfl h1,by simp[h2],λ v hv=>(Ao.mp hv).elim (λ e=>#[n,t,e]) (h3 v)]
def getD_inj Ŭ ŝ {i j:Nat}(hi:i<Ï) (hj:j<Ï) (h:æ=ns.getD j 0):i=j:=by
 simp![A9,AF hi,AF hj,Option.getD_some] at h;show (EY nd).mp h
def eF (vs:Ad) (ns:ê) (out:Ar):Prop:=
 ∃ idx:List Nat,idx.Perm (Ņ Į)/\out.toList=À2 (λ i=>vs.getD i ū)/\ô
section
variable {Ģ}{E:Ag}{ĵ}
theorem qT.ask {vs:Ad}Ŭ{b:Bool}(r:qT è vs ns) ŝ {i j:Nat}(hi:i<Į) (hj:j<Į) {C:Bool->í}(h:C (rA ns i j) s):kas_ask prog w A (tuples' b) vs i j C s:=by
 have hl:=Paired.length r;let#[b1,t1,y1,e1,g1]:=Paired.at' r hi ū (0:Int);let#[b2,t2,y2,e2,g2]:=Paired.at' r hj ū (0:Int);unfold kas_ask;rw[e1,e2];exact kat_lt g1 rfl g2 rfl ?_;exact kat_cons (SeqAt.EqAt.int_int _ t1 _ t2 prog w Ü (kat_go (λ e=>kat_yes ?_) λ e=>kat_no ?_))
 .have e':æ=ns.getD j 0:=by exists e
  have ij:=getD_inj nd ⋯ ⋯ e';subst ij;rw[e1] at e2;cases e2;cases (show ↑_=↑_ from g1.symm.trans g2);exact kat_cons (SeqAt.EqAt.same y1 prog w Ü (kat_yes (kat_nil ?_)));have:rA ns i i=É:=by unfold rA;show tx ⋯
  rw[this] at h;show h
 .cases b&&(0:Nat) == 0 with
  | true=>show kat_lt_int h
  | É=>show kat_one Ü (lt_int h)
theorem Ki {vs:Ad}Ŭ(r:qT è vs ns) ŝ (h2:2<=Į) (GL:Į<64):Core prog w A E vs (eF vs ns) s:=by
 let#[fs,t,hl,hf]:=r.rL;unfold Core;exact kat_kind (T:=.type "int") t ⋯ (λ v hv=>?_) rfl #[rfl,?_]
 .let#[n,t,rfl]:=hf v hv;show Looks.of_pure rfl
 .exact kat_run (ks:=vs) (Q:=λ st HJ=>HJ=s/\failedOf st=none/\eF vs ns ((arrOf st).map (·.2))/\(arrOf st).size=Į) (G:=λ p HJ=>HJ=s/\xo Į p/\wV (rA ns) p Į) rfl h2 GL (λ p st s' hs ha C_ hg=>?_) ?_
  .let#[h1,h3,h4]:=hg;exact#[h1,C_,#[p.toList,?_,?_,?_],by rw[ha,CT];show hs]
   .have:=Array.Perm.toList h3;exists this
   .rw[kat_snds rfl ha]
   .rw[B8,CH];intro i j hi hj A5;have:=h4 i j (Bl A5) (by rw[<- hs];exists hj);simp![Bw] at hi hj;unfold Le rA at this;have:=Â1 this;simp![DE,Bf hi,Bf hj,Option.getD_some] at this;simp![CF];lia
  .show lH (λ i j C hi hj hC=>r.ask nd hi hj hC) (yq.mono (λ p hp=>#[rfl,hp]) (nL (N5 ns) ⋯))
variable {Ä0}{z TI TO i1 i2 l1 l2:Addr}{xs ys:Ar}
def sortedZ Ŭ{Q:Ag}ø (Eo:xs.size=Ï) (hI:∀ ŗ n,ns[i]?=↑n->∃ t,xs[i]?=↑(ę n t)) ŝ (En:ys.size=Ï) (hm:Ï<64)
  (fin:∀ h' l n (bs:Ō) (idx:List Nat),(∀ b o,b∉ Â->ż)->À<=l->bs.length=Ï->(∀ (j:Nat) b,bs[j]?=↑b->À<=b/\b≠l/\∃ x y,IsPair h' b x y/\xs[j]?=↑x/\ys[j]?=↑y)->
   Ä3->ô->č l=↑{ cls:=Ŀ,data:=.seq (À2 λ i=>ì (bs.getD i 0)).toArray n }->Q (Æ l) { s with heap:=h' }):
  Ć û (call (Å1 "sorted") [Æ z]) Q E s:=by
 have BE:Ï<=ı:=by
  have:ı=16777216:=rfl;lia
 exact Calls.call_function_entry kind_sorted plain_sorted entry_sorted (args_sorted1 _) ?_;unfold Builtin.«sorted»;exact MX (m:=checkCount "sorted" 1 1 _) (Ac (MX (Km (by show hh) D S0 q1 q2 Eo En BE λ h1 acc up hz P mono=>?_)));have E5:Ã2=Ï:=by exists hz
 exact MX (wpAny_newList ?_ ⋯);have there:(Ê).get? ĉ=↑ À8:=AW _ rfl;have keep:∀ b o,h1.get? b=↑o->(Ê).get? b=↑o:=λ b o q=>gV _ q;have nX:∀ h6:Heap,(∀ b o,h1.get? b=↑o->h6.get? b=↑o)->qT h6 ņ ns:=λ h6 k=>by
  exact ST.Paired.mk E5 λ i v n hv hn=>?_;let#[b,x,y,e1,_,e3,e4,_]:=P i v (by exists hv);let#[t,e5]:=hI i n hn;rw[e4] at e5;cases e5;show#[b,t,y,e1,k Ü e3]
 change Ć Ü Ü _ { s with heap:=Ê };exact MX (za7 (zaB slot_list_sort #[_,there,rfl] entry_list_sort (Zd (Out:=eF ņ ns) there ⋯ (λ h2 s6 k=>Ki (nX _ λ b o q=>k b o (AB (An q)) (keep b o q)) nd h2 ⋯) (λ h1=>?_) λ out g1 g2=>#[_,rfl,?_]) (args_list_sort _)))
 .exact#[Ņ Ã2,.refl _,?_,?_]
  .exact DD #[] λ i h1 h2=>?_;simp at h1;simp[h1]
  .rw[B8,CH];intro i j hi hj A5;simp at hi hj h1;lia
 .let#[idx,p1,p2,p3]:=g1;rw[E5] at p1;exact Ac #[_,rfl,?_];have key:∀ v∈ ņ,∃ b,v=ì b:=λ v hv=>by
   let#[i,hi,e]:=BX.mp hv;let#[b,_,_,e1,_]:=P i v (by rw[<- BK,AF hi,e]);show#[b,e1]
  have old:∀ b o,b≠ ĉ->h1.get? b=↑o->Â6 b=↑o:=λ b o hb q=>by
   unfold sortedHeap;rw[zaL Ü Ü hb];exact gV _ (gV _ ?_);rw[zaL Ü Ü hb];show keep b o q
  let rf:đ->Addr:=λ v=>match v with | Æ b=>b | _=>0
  have hrf:∀ i,i<Ï->acc.toList.getD i ū=Ĥ:=λ i hi=>by
   have Ib:i<Ã2:=⋯;let#[b,e]:=key ņ[i] (B3 Ib);rw[A9,A9,AQ,AF Ib,e];rfl
  have eout:out.toList=À2 λ i=>Ĥ:=by
   rw[p2];show CP λ i hi=>hrf i (by exists p1.mem_iff.mp hi)
  obtain⟨ep,g6⟩:∃ ep,((((Ê).update ĉ (Ū λ _=>Ā)).push (seqObj "tuple" acc.toList.toArray 0)).push (seqObj "list" Ā 0)).get? ĉ=↑(seqObj "list" Ā ep):=#[_,gV _ (gV _ (get?_update_seq there (λ _=>Ā)))];obtain⟨en,gf⟩:∃ en,Â6 ĉ=↑{ cls:=Ŀ,data:=.seq (À2 λ i=>Ĥ).toArray en }:=by
   have:=get?_update_seq g6 (λ _=>out);rw[<- eout,Array.toArray_toList];show#[_,this]
  exact fin _ ĉ en (acc.toList.map rf) idx (λ b o hb q=>old b o (AB (An (up b o hb q))) (up b o hb q)) mono (by rw[Af];show E5) (λ j b hb=>?_) p1 p3 gf
  .rw[AQ] at hb;let#[v,e1,e2]:=AU.mp hb;let#[c,x,y,e3,e4,e5,e6]:=P j v (by exists e1);subst e3;cases e2;have:=An e5;show#[e4.1,AB this,x,y,old Ü (AB this) e5,e6]
end
end ZP
namespace L2
open ĺ é Ò ZP
section
variable {ě}{Ç0}{Ň}{ĵ}
def Inv.many {H':Hp}{h':Heap}{t':Nat}Ú (k:∀ b u,Ó b=↑u->č b=↑u) (hH:∀ b,b<À->H' b=H b)
  (new:∀ b o,À<=b->H' b=↑o->xH Ĺ H' h' b o):Inv ŏ H' { s with heap:=h',toks:=t' }:=by
 have old:∀ b o,H b=↑o->H' b=↑o:=λ b o e=>by rw[hH b (I.zr.lt e)];show e
 exact I.un #[λ b o q _ _ _=>k b o q,λ b o q _ _ _=>#[o.slots,k b o q],λ b o q n _=>by rw[hH b (An q)];show n,λ b o q _=>#[o,k b o q],λ b xs q=>old b _ q,λ b o u q=>old b _ q,λ b ps q=>#[Ā,by rw[old b _ q];simp]] λ b o e=>?_;rcases BO b À with hb | hb
 .rw[hH b hb] at e;show (I.zr b o e).vc (λ c v _ q=>k c v q) (λ c q=>old c _ q) λ c xs q=>old c _ q
 .show new b o hb e
abbrev bI ĩ:List V->Hp->VK->Prop:=λ vs H Q=>∃ a1 a2 k1 k2,∃ (ns:ê) (ys:List V),vs=[Æ a1,Æ a2]/\wW K H k1 a1 ź/\wW K H k2 a2 ys/\ys.length=Ï/\Ï<64/\ns.Nodup/\
 ∀ (l:Addr) (idx:List Nat) (bs:Ō) (H':Hp),H l=none->(∀ b,H b≠none->H' b=H b)->bs.length=Ï->(∀ ŗ b,bs[i]?=↑b->H' b=↑ Á1)->H' l=↑ ċ->
  Ä3->ô->Q (Æ l) H'
def T2 {a b:Expr}{ta:TA}{p pos p2 F_:Pos}Ť (hg:Gl X "sorted") (hm:X.mg "sorted"=none) (Hn:Gl X "zip") (Iv:X.mg "zip"=none) (ha:PA X [a,b] ta)
  (he:Ů:=by rfl) (Al:AE X pos []:=by rfl)
  (hs:Ń:=by rfl) (Ij:Ĝ [b] Ý=[Ä4]:=by rfl) (C8:ű=[]:=by rfl):
  PE X Á2 (nH (bI X.K) ta):=by
 intro FH s σ H Q I h;exact zaJ (rF I hg hm boot_sorted (PyProof.Rows.callWith_builtin1 ?_ he Al) () ());rw[he];change Ć Ü (spliced ((É,eval (Ë) Ý)::ű)) Ü s;rw[C8];exact Calls.spliced_cons ?_;exact zaJ (rF I Hn Iv boot_zip (PyProof.Rows.callWith_type1 (zF (ha F_ Ğ _ I h) λ us s1 #[vs,H1,I1,r1,q1]=>?_) (by rw[hs,Ij]) (by rw[Ij];rfl)) () ());let#[a1,a2,k1,k2,ns,ys,rfl,g1,g2,hl,GL,nd,q]:=q1;cases r1 with
 | cons r rr=>
 cases rr with
 | cons r' rr=>
 cases rr;cases r;cases r';let#[it1,v1,q1]:=g1.of I1;let#[it2,v2,q2]:=g2.of I1;have l1:=v1.length;have l2:=v2.length;rw[Af] at l1;exact ZP.new q1 q2 λ h1 z TI TO i1 i2 nw D S up=>?_;exact Calls.spliced_nil ?_;exact ZP.sortedZ (ns:=ns) (by show I1.ok.hd hc) D S (q1.on λ o e=>up _ o e) (q2.on λ o e=>up _ o e) (by exists l1.symm) (λ i n hn=>?_) nd (Ã8) GL λ h' l en bs idx old Il hbl hb hp E8 hgl=>?_
 .let#[u,e1,e2]:=v1.get (i:=i) (x:=V.int n) (by rw[AQ,hn];rfl);let#[t,rfl]:=e2;show#[t,by exists e1]
 have szu:s1.heap.objs.size<=ĉ:=by
  have:=nw z #[];have:=An S.z;show Bc ‹_› (Bl this)
 have keep:∀ c o,s1.heap.get? c=↑o->č c=↑o:=λ c o e=>old c o (λ hc=>ř (nw c hc) (Nat.not_le.mpr (An e))) (up c o e);have at_:∀ ŗ c,bs[i]?=↑c->∃ t y,IsPair h' c (ę (æ) t) y/\RelV (ys.getD i .zm) y:=λ i c hc=>by
  let#[_,_,x,y,e1,e2,e3]:=hb i c hc;have hi:i<Ï:=by have:=(AY.mp hc).1;lia
  let#[u,f1,f2]:=v1.get (i:=i) (x:=V.int ns[i]) (by rw[AQ,AF hi];rfl);let#[t,rfl]:=f2;let#[u2,f3,f4]:=v2.get (i:=i) (x:=ys.getD i .zm) ė;have e4:it1.toArray[i]?=↑(ę ns[i] t):=by exists f1
  have e5:it2.toArray[i]?=↑u2:=by exists f3
  rw[e2] at e4;cases e4;rw[e3] at e5;cases e5;have en:æ=ns[i]:=by simp[hi]
  rw[en];show#[t,_,e1,f4]
 have inj:∀ À5 c,bs[i]?=↑c->bs[j]?=↑c->i=j:=λ i j c hi hj=>by
  let#[t,y,e1,_]:=at_ i c hi;let#[t',y',e2,_]:=at_ j c hj;have e3:=e1.symm.trans e2;simp![Option.some.injEq,Obj.mk.injEq,Data.seq.injEq,Array.mk.injEq,List.cons.injEq,Value.int.injEq] at e3;have Ib:=(AY.mp hi).1;have HN:=(AY.mp hj).1;exact getD_inj nd ⋯ ⋯ ?_;show e3.2.2.1.1.1.1
 let H':Hp:=λ c=>if c=l then ↑ ċ else if c∈bs then ↑(.tup [V.int (ns.getD (bs.idxOf c) 0),ys.getD (bs.idxOf c) .zm]) else H1 c
 have Hl:H' l=↑ ċ:=if_pos rfl;have Hb:∀ ŗ c,bs[i]?=↑c->H' c=↑ Á1:=λ i c hc=>by
  have hm:=B6 hc;have Ax:=EI.mpr hm;have e:bs.idxOf c=i:=inj Ü c (by rw[AF Ax,EH Ax]) hc;ext Ę;rw[ŷ (hb i c hc).2.1,if_pos hm,e]
 have Ho:∀ c,c<s1.heap.objs.size->H' c=H1 c:=λ c hc=>by
  ext Ę;rw[ŷ (λ e=>by rw[e] at hc;show ř (Ba hc szu) (Nat.not_lt.mpr Il)),ŷ (λ hm=>?_)];let#[i,hi]:=List.getElem?_of_mem hm;show ř (Ba hc szu) (Nat.not_lt.mpr (hb i c hi).1)
 exact#[Æ l,H',I1.many (t':=s1.toks) keep Ho λ c o hc e=>?_,rfl,q l idx bs H' (I1.zr.fresh (Bc szu Il)) (λ c hn=>Ho c ?_) hbl Hb Hl hp E8]
 .by_cases e1:c=l
  .subst e1;rw[Hl] at e;cases e;exact#[by rw[Af,hp.length_eq,B5];show Bc (Bl GL) (),_,en,?_,hgl];exact ST.Paired.mk #[] λ j x y hx hy=>?_;rw[AQ] at hx hy;let#[i,hi,rfl]:=AU.mp hx;rw[hi] at hy;cases hy;show rfl
  .by_cases e2:c∈bs
   .let#[i,hi]:=List.getElem?_of_mem e2;rw[Hb i c hi] at e;cases e;let#[t,y,f1,f2]:=at_ i c hi;show#[#[(show 2<=ı by decide),_,f1,rfl],[ę (æ) t,y],Ÿ #[t,rfl] (Ÿ f2 .nil),_,f1,rfl,_,rfl]
   .have e3:H' c=H1 c:=by
     ext Ę;rw[ŷ e1,ŷ e2]
    rw[e3,I1.zr.fresh hc] at e;cases e
 .cases q0:H1 c with
  | none=>show ř q0 hn
  | some u=>show I1.zr.lt q0
end
end L2
namespace L5
open ĺ é L2 L3
open Ò hiding St
section
variable {ě}{Ĵ}{a b:Expr}{tA:ym}{pos p F_ p2:Pos}
def rO:xE:=λ ds S Q=>∃ d e,∃ (ns:ê) (es:List D),ds=[d,e]/\yg d S=↑(ns.map D.int)/\yg e S=↑es/\es.length=Ï/\Ï<64/\ns.Nodup/\
 ∀ l (idx:List Nat),S l=none->Ä3->ô->Q (Æ l) (ups S l (.lst (À2 λ i=>D.tup [ę (æ),es.getD i .zm])))
def rO.mo:vm rO:=λ ds S Q Q' hq #[d,e,ns,es,h0,h1,h2,h3,h4,h5,h6]=>#[d,e,ns,es,h0,h1,h2,h3,h4,h5,λ l idx a b c=>hq Ü (h6 l idx a b c)]
def rO.fits:uB K rO (bI K):=λ xs ds H S Q h0 h2 h=>by
 let#[d,e,ns,es,rfl,s1,s2,hl,GL,nd,h]:=h;let#[v,u,rfl,d1,d2]:=h0.two;let#[a1,us,rfl,g1,g2]:=yg.k d1 h2 s1;let#[a2,ws,rfl,g3,g4]:=yg.k d2 h2 s2;cases zo.ints g2;have l4:=g4.length;exact#[a1,a2,oh d,oh e,ns,ws,rfl,g1,g3,⋯,GL,nd,λ l idx bs H' hf hH hbl hb Il hp hs=>?_];have ext:Å3:=#[λ c x q=>ä,λ c o u q=>ä,λ c u q=>ä,λ c u q=>ä];exact h l idx (h2.none hf) hp hs _ H' (Č) ext λ c o q=>?_;by_cases hc:c=l
 .subst hc;rw[rj] at q;cases q;exact#[_,Il,?_];ext ŉ
  clear hp hs Il
  induction idx with
  | nil=>show .nil
  | cons i idx ih=>
   have hi:=Ax i Aw;let#[y,e1,e2]:=g4.get (i:=i) (d:=es.getD i .zm) ė;exact Â2;simp![zj];exact#[_,_,rfl,yi.of (hb i (bs.getD i 0) ė),?_];exact Ÿ (Č) (Ÿ ?_ .nil);have e3:ws.getD i V.zm=y:=by simp[e1]
   rw[e3];show zj.ext ext _ e2
 .rw[uZ hc] at q;show (h2 c o q).keep ext λ v q=>ä
def Rw (hm:X.mg "sorted"=none) (Iv:X.mg "zip"=none) (ha:xc X [a,b] tA) Ť (hg:Gl X "sorted") (Hn:Gl X "zip")
  (he:Ů) (Al:AE X pos [])
  (hs:Ń) (Ij:Ĝ [b] Ý=[Ä4]) (C8:ű=[]):
  PD X Á2 (xR rO tA):=
 sG (T2 hc hg hm Hn Iv ha.pa he Al hs Ij C8) rO.mo rO.fits ha.mo
def p9 Á6:List (Int×T):=(Ţ).mergeSort λ x y=>decide (x.1<=y.1)
def cO Á6:(p9 ns ts).Perm (Ţ):=List.mergeSort_perm Ü
def VA Á6:(p9 ns ts).Pairwise Æ9:=by
 have:=List.pairwise_mergeSort (le:=λ x y:Int×T=>decide (x.1<=y.1)) (λ x y z h1 h2=>by simp at h1 h2 ⊢;lia) (λ x y=>Ã8) (Ţ);show this.imp λ h=>by exists h
theorem cN Ŭ{ts:List T}(hl:ts.length=Ï) ŝ {l:List (Int×T)}(hp:l.Perm (Ţ)) (hs:l.Pairwise Æ9):l=p9 ns ts:=by
 have nd':((Ţ).map Prod.fst).Nodup:=by rw[List.map_fst_zip ⋯];show nd
 have up:∀ {m:List (Int×T)},m.Perm (Ţ)->m.Pairwise (Æ9)->m.Pairwise λ x y=>x.1<y.1:=λ{m} p s=>by
  have n1:(m.map Prod.fst).Nodup:=((p.map _).nodup_iff).mpr nd';have n2:m.Pairwise λ x y=>x.1≠y.1:=by rw[List.Nodup,B8] at n1;show n1
  show (s.and n2).imp λ h=>⋯
 show L4.km (r:=λ x y=>x.1<y.1) (λ x y h1 h2=>⋯) (hp.trans (cO ns ts).symm) (up hp hs) (up (cO ns ts) (VA ns ts))
def p8:Ak
 | [x,y]=>(wo x).bind λ xs=>(wF xs).bind λ ns=>(wo y).bind λ ts=>if ts.length=Ï/\Ï<64/\ns.Nodup then ↑(.lst ((p9 ns ts).map λ q=>.tup [ę q.1,q.2])) else none
 | _=>none
def MU:vn zE p8 rO:=λ S Z ys z ds Q hz hv e hq=>by
 unfold p8 at e;split at e
 .let#[d,d2,rfl,h1,h2]:=lI hv;let#[xs,e1,e]:=œ;let#[ns,e2,e]:=œ;let#[ts,e3,e]:=œ;split at e
  .rename_i hc;cases e;cases om e2;let#[es1,g1,g2]:=h1.seq e1;let#[es,g3,g4]:=h2.seq e3;cases uH.mp g2;have l4:=g4.len;exact#[d,d2,ns,es,rfl,g1,g3,⋯,hc.2.1,hc.2.2,λ l idx hl hp hs=>hq Ü (.new hl _) (t8 hz hl ?_)];ext ŉ
   have eq:p9 ns ts=À2 λ i=>(æ,ts.getD i .zm):=by
    exact (cN hc.1 hc.2.2 ?_ (by rw[B8] at hs ⊢;show hs)).symm;have:(Ţ)=(Ņ Ï).map λ i=>(æ,ts.getD i .zm):=by
     exact DD (Ã8) λ i h1 h2=>?_;have h3:i<Ï/\i<ts.length:=by simp at h1;lia
     simp[h3.1,h3.2]
    rw[this];show hp.map _
   rw[eq,AI];clear eq hp hs
   induction idx with
   | nil=>show .nil
   | cons i idx ih=>
    have hi:=Ax i Aw;let#[y,f1,f2]:=g4.mB (i:=i) (t:=ts.getD i .zm) ė;exact Â2;exact qj (Ÿ wj (Ÿ ?_ .nil));have f3:es.getD i D.zm=y:=by simp[f1]
    rw[f3];show f2
  .cases e
 .cases e
end
end L5
namespace L3
open ĺ é Ò L2
theorem zo.erase Ĵ{H:Hp}:∀ {ds:List D}{xs:List V}(k:Nat),zo K H ds xs->zo K H (ds.eraseIdx k) (xs.eraseIdx k)
 | [],xs,k,h=>by simp![zo] at h;subst h;exists (show zo K H [] [] by simp![zo])
 | d::ds,xs,0,h=>by
  ext À1;exists h2
 | d::ds,xs,k+1,h=>by
  ext À1;rw[Dx,Dx];show Ÿ h1 (zo.erase k h2)
section
variable {ě}{Ĵ}{Á7}
def mR (to te:zu):zu:=fun Y S Q=>to Y S λ x S1=>match x with
 | Æ p=>(∃ ds,S1 p=↑(.lst ds))/\te Y S1 λ y S2=>∃ k:Nat,∃ ds d,y=ę k/\S2 p=↑(.lst ds)/\k<2 ^ 62/\ds[k]?=↑d/\Q d (ups S2 p (.lst (ds.eraseIdx k)))
 | _=>False
theorem R3 {e0:Expr}(Fd:PE X e0 (jZ X.K "list" bJ (yb X.K to) (lR (yb X.K te) lQ))) (h:y9 to) (h':y9 te):PD X e0 (mR to te):=by
 exact#[fun Y S Q Q' hq z=>h Y S Ü (λ x S1 z=>by
  cases x with
  | ref p=>show#[z.1,h' Y S1 Ü (λ y S2 #[k,ds,d,a,b,c,d',w]=>#[k,ds,d,a,b,c,d',hq Ü w]) z.2]
  | _=>show z) z,PE.imp Fd Ä1]
 ext ğ;exact yb.go h ö;cases x with
 | ref p=>
  let#[#[ds,hd],h1]:=h1;simp![zj] at q1;subst q1;let#[xs,g1,g2]:=p1 Ü hd;exact#[.inl #[rfl,xs,zU.of g1],?_];exact yb.go h' ŭ;let#[k,Iz,d,rfl,b1,b2,b3,b4]:=h2;simp![zj] at q2;subst q2;let#[Gb,g3,g4]:=p2 Ü b1;let#[y,f1,f2]:=g4.get b3;have hk:=(AY.mp f1).1;exact#[p,Gb,k,k,y,rfl,rfl,g3,⋯,⋯,?_,f1,?_]
  .have n0:¬ ((k:Int)<0):=⋯;have n1:(decide (0<=(k:Int))&&decide ((k:Int)<Gb.length))=true:=Ã8
   unfold seqIndex?;simp![ŷ n0,if_pos n1,BW]
  .have e4:Ext H2 (upd H2 p (.lst (Gb.eraseIdx k))):=.lst g3 _;show b4 Ü (zj.ext e4 d f2) ((e1.trans e2).trans e4) (p2.ups e4 #[_,yr,zo.ext e4 _ (zo.erase k g4)])
 | _=>show h1.elim
)
example:=`(
example À:=(zc 0)
example Ç:=false
example Á _:=x (retS (cS (.bl Ç))) zI
example Â:=(zc 1)
example ß:=(cI 2)
example Ã:=(zb zg À ß)
example È:=(cI 1)
example Ä:=(zb zg À È)
example Ê:=(cI 0)
example Å:=(zb zg À Ê)
example Æ:=xj yT P w K mg base N x (zS st) f Ah A outer s H E
example À7:=us.length
example Û:=Option
example ń:=Value
example É(hb:∀ (kV doc pm:ń) (an:Û Addr) (Ah ct:ń) (us:Ad),À7=ps.length->bindArgs (PySem.W.fnOf x x (vi st) (xi st) (zS st) .none kV doc pm an Ah ct) #[us,[]]=pure (ps.zip us):=by intro _ _ _ _ _ _;first | show YV λ _=>rfl | show la λ _ _=>rfl | show YU λ _ _ _=>rfl | show YT λ _ _ _ _=>rfl):=0
example Ł:=(yJ X N' scope cl C s H fp)
example õ(hc:X.calm=true):=0
example Ë(_:Hq scope N'=true) (hi:u7 X tg iter ti) (hg:∀ cl C s H fp,N'.Nodup->vC Ł tg g) (hf:∀ cl C s H fp,N'.Nodup->oW Ł ifs HY) (he:∀ cl C s H fp,N'.Nodup->PD Ł elt te) (nd:N'.Nodup) õ:=0
example è:=(cI 3)
example Ì:=(zb zg À è)
example Ě:=(zl 2)
example Í:=(za Ě ze)
example Î:=List Int
example Ï:=(wU λ bs=>bs.all id)
example Ĥ:=List Kx
example Ð:=List (Ĥ)
example Ñ:=(cS .zm)
example Ò:=(zl 0)
example Ó:=(zv Ç)
example Ô:=List Str
example Õ _:=x zg Â
example Ö _:=x (xK 4 (zZ (zx 0) (zZ (zx 1) (zZ (zx 2) (zZ (zx 3) xX))))) xk
example Ķ:=h.objs.size
example þ:=.ref
example ċ:=.fields [þ Ķ,.none,.none,.none,.bool Ç,.none].toArray
example Á5:=.type "tuple"
example Ø:=((h.push { cls:=Á5,data:=.seq FJ.toArray }).push { cls:=þ C,data:=ċ }).get?
example ş:=.str
example Ù:=(cS (ş "keeper"))
example Ú:=(zi zJ (za À ze))
example Ü:=(zc 2)
example š:=bs.length
example Ý:=r.length=š/\∀ (i:Nat) x b,r[i]?=↑x->bs[i]?=↑b->b.1<=x/\x<=b.2
example Ä0:=s.heap.objs.size
example ķ:=yo k (A.deeper (envOfC x (zS st) Ä0 f Ah))
example Þ:=Hs hs->N.Nodup->(Æ).x9.N=N->(Æ).x9.env.scope=zS st->ķ-> ∃ t,vj (Æ).x9 (xi st) t/\yy R g t
example à:=decide
example á:=(zc 3)
example Č:=(FI.map yE)
example ġ:=.lst
example Á1:=λ i=>ys.getD i V.zm
example â:=ġ ((vK Č).map Á1)
example Ĳ:=(cI 12)
example ã:=(za Ĳ ze)
example ä(hC:h.get? C=↑(excClassObj nm q C N bs bm hdct sn sub ab col dd k0 k1 k2 k3 k5 newId)) (hn:h.Ns N mN) (hi:mN "__init__"=none):=0
example Ä6:=Shared
example å(Ah:ń) (A:Around) (outer:List Env) (s:Ä6) (H:Hp) (E:XK):=0
example ļ:=(zl 3)
example Ã0:=(za ļ ze)
example æ:=(za Ě Ã0)
example ç _:=x (zx 0) xk
example é:=(zl 1)
example ê _:=x Sc hc hi (λ cl C s H fp=>hg cl C s H fp nd) (λ cl C s H fp=>hf cl C s H fp nd) (λ cl C s H fp=>he cl C s H fp nd)
example ë:=ts.length
example ì:=FI.length
example í:=("__debug__":Str)
example î:=(zv true)
example ï:=.int
example ð:=(zb Õ Ê)
example ñ:=(zb Õ È)
example ò:=List (Int×Int)
example ó(Sc:vF N ps (zS st):=by show mE) (hn:n=ps.length:=by rfl):=0
example ô:=(cS (ş "taker"))
example ö:=(.ListComp elt [#[tg,iter,ifs,0]] scope pos)
example Ã3:=(za Ä ze)
example ø:=(zi zJ Ã3)
example Å6:=(FN "tuple" À)
example ù:=(yf (zX Å6))
example ú:=vs.length
example û:=List T
example ü:=.tup
example ý:=(model prog w)
example ÿ:=.of_wp λ M A E s Q h=>by let#[hp,g,d,tk,os]:=s;wp_walk;show#[_,rfl,h]
example Ā:=(za Ã ze)
example Ļ:=(zc 4)
example ā:=(zi yz (za Ļ ze))
example Ă:=HT.lexLt
example ă:=[a,b,c,d]
example Ą:=List (Û Nat)
example ą{prog:Program}{w:World}{A:Around}{E:Ag}:=0
example Ć _:=x _ _ _
example ć:=(cI 4)
example Â5 _:=x outer s H E trivial Sc.nd rfl rfl hr
example Ĉ _:=x F Sc hn hb λ f Ah A outer s H E hr=>FW f Ah A Â5
example ĉ _:=x _ _
example Ċ:=by with_reducible first | show aK _ | exact sI (R:=xr) ZL ?_ ?_ | exact iR (R:=xr) ?_ | apply aL
example č:=rs.map
example Ď:=(za Â ze)
example Ů:=(zl 4)
example ď:=(za ļ (za Ů ze))
example Đ:=List (Î)
example đ:=by rw[AJ] at h;simp![zo,rG,zj] at h;let#[x,ys,rfl,rfl,h3]:=h;rw[nV h3];rfl
example Ē:=PyProof.Rows
example ē:=KeysAre
example Ĕ:=(za (tupS (za (zb zg Å È) (za (zb zg Å Ê) ze))) (za Ä (za é Í)))
example ĕ:=by obtain⟨_,q | ⟨a,q,_⟩,_⟩:=h1.lst <;> subst q <;> show λ _=>nofun
example Ė:=(cI 5)
example ė:=(zb Õ ß)
example Ę:=(za Ñ ze)
example ę:=(za Ò ze)
example ě:=(za Ì ze)
example ų:=ü ts
example Ĝ:=∀ ts,t=ų->∀ r∈ts,zY r=true
example ĝ(F:ExcBaseFacts B newId Hk F6) (T:OwnTail h F6 bm) {mN:Au}{FJ:Ad}:=0
example Ğ _:=x (xK 2 (zZ (zx 0) (zZ (zx 1) xX))) xk
example ğ:=#[hp,g,d,tk,os]
example Ġ:=os.length
example Ģ:=Ä6->Prop
example ģ:=FI.getD i []
example ĥ:=r.map
example ľ:=.Name
example Ħ:=.Call (ľ "set" p2) [e] [] F_
example ħ(he:zP t=Ç):=0
example Ã7:=PySem.W.nsIn
example Ŗ:=(þ C)
example Ĩ:=PySem.W.keepIn K Ŗ=true/\Ã7 K N "__init__"=↑none
example ĩ _:=x (qq "NoFloor" "" Ñ) zI
example Ī:=X.env
example ī:=by change (f J).bind _=_;rw[h]
example Ĭ(t:T):=0
example Á7:=rs.length
example ĭ:=by let#[rs,rfl,hr]:=bt ha;have hl:Á7<=16777216:=by exists hz'
example Į:=(_:Ô)
example į:=(za é ze)
example İ:=λ p hp=>?_
example ı{α:Type}:=0
example ĳ:=.cons
example Ĵ _:=x [none] (yW À) ç
example ĵ:=s.heap.get?
example ĸ:=by let#[a,b,c,d,rfl]:=vI (show p.length=4 from (hr p hp).2.1)
example Ĺ:=by decide +kernel
example ĺ:=kat_nil (by simpa [Ă] using h)
example Ľ _:=x xq (cI 10)
example Ŀ:=n.toNat
example ŀ:=[none,↑1]
example ł _:=x ["thing"] 1
example Å9{k:Nat}:=0
example Ń Å9(hr:yo k X.A) (ha:PD X a ta) (hb:PD X b tb):=0
example Ņ:=Value.none
example ņ:=.bl (à (i<j))
example Ň:=(za (zl 5) ze)
example ň:=(za Ò (za ñ ze))
example ŉ:=(zi nh (za (zi ni (za Ò (za È ze))) (za é Í)))
example Ŋ:=(.im (ü (č zh)))
example ŋ:=(ts.all λ r=>zQ r (sb Ġ))
example Ō:=ì<64/\kX FI/\ ∀ l,H l=none->Q (þ l) (upd H l (â))
example ō:=by intro f Ah A outer s H E hc nd hN hS hr;show#[_,pA,kr]
example Ŏ:=by let#[d,rfl,h1]:=vV hv;let#[es,h2,h3]:=h1.seq rfl
example ŏ:=(ts.all λ r=>zQ r (wb n))
example Ő:=by let#[x,h1,h2]:=Ap.mp h;let#[q,h3,rfl]:=AU.mp h2
example ő(hd:(x == í)=Ç:=by decide):=0
example Œ:=wpAny
example œ:=à (y.2=.local)||à (y.2=.free)||à (y.2=.cell)
example Ŕ:=Ev->Û Bool
example ŕ:=(cI 13)
example ŗ:=List (Ô × Ą)
example Ř:=(by with_reducible first | show gn | show gp | show gr)
example ř:=(FN "int" À)
example Ś:=(zi listS Ā)
example ś:=[↑(.im (ų)),↑(.im (ü (bs.map sF)))]
example Ŝ:=by change (xA (ĥ zR)).map _=_;rw[p_ r];rfl
example ŝ:=ns.length
example Ş:=o.data=.seq Aa n
example Š:=T.int
example Ţ(hi:ē items.toList ns) (hj:ē Gh.toList ms):=0
example Å1:=X.env.scope
example ţ(_:Ht N' pick) (_:Å1=esc) (_:X.N=N):=0
example Ť(hs:∀ x,foldedSetIterable iter Ī x=pure x):=0
example ť{u:Ev->Û (û)}{xs:û}:=0
example Ŧ:=(∀ b o,¬ False->ĵ b=↑o->h6.get? b=↑o)
example ŧ:=List.range
example Ũ:=.bl (Ă (yE r) (yE q))
example ũ:=PySem.Spec
example Ū:=#[h',g,d,t,os]
example ū:=assignEach
example Ŭ:=(cI 8)
example ŭ:=(zb Õ è)
example ů:=(zC (yL ù (zw (zb î Ú (zi zJ Ď)))) Á)
example Ű:=(ts.map rowOf).map fst
example ű:=p.toNat
example Ų:=PySem
example Ŵ:=(by simp![zj])
example ŵ:=(cS (.bl true))
example Ŷ:=(.bool (lexLt ns ms))
example ŷ:=hq _ S (.refl S) (Cl.of (λ _=>nofun) wK)
example Ÿ:=#[h,g,d,t,os]
example Ź:=(za (zi listS ě) ze)
example ź{n:Nat}{lt:Nat->Nat->Bool}{P:α->Prop}:=0
example Ż:=J.set j ↑(.own (ġ (us.eraseIdx Ŀ)))
example ż:=by change (c J).bind _=o;rw[e];show e'
example Ž:=(ts.zip bs).all λ p=>wh p.1 p.2.1 p.2.2
example ž:=by simp![zp] at h;let#[c,cs,rfl,h1,h2]:=h
example ſ:=by assumption
example À0:=Paired
example À1:=Aa.toList.head?=↑f
example À2:=(FN "bool" À)
example À3:=(zZ (zx 7) (zZ (zx 8) (zZ (zx 9) xX)))
example À4{b:Bool}:=0
example À5:=by have:=(kl Č).mem_iff.mp hi;rw[AO,Af] at this
example À6 _:=x P w K mg base x (k+1) ps (zG R (zM N n g))
example À8:=by change (g J).bind _=_;rw[h]
example À9:=(za Ê (za (zb yu (zi zJ Ā) È) ze))
example Á0:=by generalize Bo:č fst=ns at *;simp![ha,Bi]
example Á2:=xf zh _ rs ?_ hl İ
example Á3:=by rw[<- CS,lF,List.zip_map_left,AI];rfl
example Á4:=[none,none,none,none,↑3]
example Á6:=Paired.length
example Á8:=xs.length
example Á9:=(zb zT á È)
example Â0:=by change (f J).map _=_;rw[h];rfl
example Â1:=(zb zT Ü È)
example Â2:=(zb zg á Ê)
example Â3{c:Ŕ}{g h:Sm}{J:Ev}{o:Û Out}:=0
example Â4:=by show oE hS hN;rfl;ext Ĺ
example Â6:=List α
example Â7:=Looks.of_pure rfl
example Â8:=decide_eq_true_eq
example Â9:=(za Ê ze)
example Ã1:=(za Ê ã)
example Ã2:=(za Ò Í)
example Ã4:=(1:Int)<=(ë:Int)
example Ã5(he:Az X e es) (Al:AE X pos es):=0
example Ã6:=yq.at (nL (n:=ì) (kf FI) ⋯)
example Ã8:=(zb zT (zb Ľ (cI 45)) (cI 9))
example Ã9 _:=x (aB hr) uO.fits uO.mo ha hb (tE _)
example Ä1:=(zw (zb Ó (zb zy ñ Ė) È))
example Ä2:=(za Ñ (za (cS (ş "0")) ze))
example Ä3 _:=x xB (zc 9)
example Ä4 _:=x zg (zc 8)
example Ä5:=by let#[u,rfl,ru]:=vals1 r;cases ru
example Ä7:=compareOp
example Ä8:=wpAny_loadPart'
example Ä9:=ys.length
example Å0:=Heap.MadeExcOf h h' e Ŗ FJ
example Å2:=[a,b,c]
example Å3:=(ye ze)
example Å4:=[none,none,none,none]
example Å5:=(yW Ì)
example Å7:=ns.map Š
example Å8{ds:List D}:=0
example Æ0(A2:(c == í)=Ç):=0
example Æ1 _:=x mh mh fit_le fit_le xP.mo xP.mo
example Æ2{ys:List V}:=0
def RF (ho:PD X o to) (he:PD X e te)
  (Gi:attributeBase o "pop" Ī (eval o Ī)=eval o Ī)
  (AX:((backTo Ai (starEach [e] Ī)).all (λ x=>!x.1)&&(backToKw Ai (keywordEach [] Ī)).all (λ x=>x.1.isSome)
   && à ([e].length+([]:List Keyword).length+(if ([]:List Keyword).isEmpty then 0 else 1)<30))=true)
  (Hm:(apos.endLine == Ai.line)=true) (hs:Az X e []) (GK:AE X Ai []):
  PD X (.Call (.Attribute o "pop" apos) [e] [] Ai) (mR to te):=
 R3 (iH PySem.F.plainAttrs_list PySem.F.slot_list_pop PySem.F.type_list_pop NA ho.pe (ud he.pe tB hs) Gi AX Hm hs GK) ho.mo he.mo
end
end L3
namespace L5
open Ų L2 L3
@[simp] def jo (i j:Nat) (f:Ae):Sm:=fun J=>match J[i]?,J[j]? with
 | some ↑(.own (ġ ts)),↑↑(.own (ġ us))=>(f J).bind λ y=>match y with
  | ï n=>if i≠j/\ë<sizeLine/\0<=n/\Ŀ<À7/\À7<2 ^ 62 then ↑(.nx ((Ż).set i ↑(.own (ġ (ts++[us.getD Ŀ .zm]))))) else none
  | _=>none
 | _,_=>none
theorem zp.erase {S:SS}:∀ {ts:û}Å8(k:Nat),zp S ts ds->zp S (ts.eraseIdx k) (ds.eraseIdx k)
 | [],ds,k,h=>by simp![zp] at h;subst h;exists zp.nil
 | t::ts,ds,0,h=>by
  ext ž;exists h2
 | t::ts,ds,k+1,h=>by
  ext ž;rw[Dx,Dx];show ĳ h1 (zp.erase k h2)
def Pd {R:Rk}{f:Ae}{te:zu}(i j:Nat) (hf:yC f te):yy R (jo i j f) (gY (uS (xb i) (mR (xb j) te))):=λ S0 Z0 S Z Y J o E F e P=>by
 unfold jo at e;split at e
 .rename_i ts us hi hj;let#[y,e1,e2]:=Ap.mp e;split at e2
  .rename_i n;split at e2
   .rename_i hc;cases e2;let#[nij,hl,hn,hk,hu]:=hc;let#[p,ob,h1,h2,h3,h4]:=F.er.ow i _ hi;let#[q,oc,g1,g2,g3,g4]:=F.er.ow j _ hj;obtain⟨ds,rfl⟩:∃ ds,ob=ġ ds:=by
     cases ob with
     | lst ds=>show#[ds,rfl]
     | _=>show h3.elim
    obtain⟨es,rfl⟩:∃ ds,oc=ġ ds:=by
     cases oc with
     | lst ds=>show#[ds,rfl]
     | _=>show g3.elim
    replace h3:zp (yc S Z) ts ds:=h3;replace g3:zp (yc S Z) us es:=g3;change uS (xb i) (mR (xb j) te) Y S _;unfold uS mR xb;rw[h1];exact#[#[ds,h2],?_];rw[g1];exact#[#[es,g2],hf S Z Y J ĉ F.er e1 λ d S1 s1 r1=>?_];cases r1.int;have F1:=F.grow s1;have g3':=zp.sx (ui (Z:=Z) s1) us g3;let#[c,c1,c2]:=g3'.mB (i:=Ŀ) (t:=us.getD Ŀ .zm) (by rw[A9,AF hk];rfl);exact#[Ŀ,es,c,by rw[CY hn],s1 ĉ g2,⋯,c1,?_];have F2:=F1.mut (us:=ġ (us.eraseIdx Ŀ)) (es:=ġ (es.eraseIdx Ŀ)) j hj g1 (zp.erase _ g3');have hi2:(Ż)[i]?=↑↑(.own (ġ ts)):=by rw[DJ (Ne.symm nij)];show hi
    let#[p',ob',k1,k2,k3,k4]:=F2.er.ow i _ hi2;rw[h1] at k1;cases k1;obtain⟨Iz,rfl⟩:∃ ds,ob'=ġ ds:=by
     cases ob' with
     | lst ds=>show#[ds,rfl]
     | _=>show k3.elim
    replace k3:zp _ ts Iz:=k3;dsimp only;rw[k2];exact#[by rw[k3.len];show hl,P _ Z Y (F2.mut (us:=ġ (ts++[us.getD Ŀ .zm])) (es:=ġ (Iz++[c])) i hi2 h1 (k3.append (ĳ ?_ .nil)))];rw[show yc (ups S1 q (ġ (es.eraseIdx Ŀ))) Z=yc S1 Z from ZI g4];show c2
   .cases e2
  .cases e2
 .cases e
end L5
namespace HT
open Ų Ē
inductive qX:ń->Int->Prop
 | int (n:Int) (t:Tok):qX (ï n t) n
 | bl (b:Bool):qX (.bool b) (if b=true then 1 else 0)
inductive ē:List ń->Î->Prop
 | nil:ē [] []
 | cons {v:ń}{n:Int}{vs:Ad}{ns:Î}:qX v n->ē vs ns->ē (v::vs) (n::ns)
theorem KeysAre.length:∀ {vs:Ad}{ns:Î},ē vs ns->ú=ŝ
 | _,_,.nil=>rfl
 | _,_,ĳ _ h=>congrArg (· + 1) h.length
section
open PySem.SeqAt
def NL (a:Bool) (b:Int) (u:Tok):Gives (Builtin.«int.__lt__» #[[.bool a,ï b u],[]]) (.val (Value.bool (à ((if a=true then (1:Int) else 0)<b)))):=
 ÿ
def MS (a:Bool) (b:Int) (u:Tok):Gives (Builtin.«int.__gt__» #[[.bool a,ï b u],[]]) (.val (Value.bool (à ((if a=true then (1:Int) else 0)>b)))):=
 ÿ
theorem Yf (A:Around) (s:Ä6) {v w:ń}{a c:Int}(hv:qX v a) (hw:qX w c):∃ e,SeqAt.EqAt A s v w e/\(e=true↔a=c):=by
 cases hv with
 | int a t=>
  cases hw with
  | int c u=>show#[(a == c),SeqAt.EqAt.int_int a t c u,#[]]
  | bl b=>show#[_,SeqAt.EqAt.int_bool a t b,#[]]
 | bl a=>
  cases hw with
  | int c u=>show#[_,SeqAt.EqAt.bool_int a c u,#[]]
  | bl b=>show#[_,SeqAt.EqAt.bool_bool a b,by cases a <;> cases b <;> simp]
def bC (A:Around) (s:Ä6) {v u:ń}{a c:Int}(hv:qX v a) (hu:qX u c) (prog:Program) (w:World) (E:Ag) (Q:Ag) (h:Q (.bool (à (a<c))) s):
  Œ ý A (richCompare .Lt v u) Q E s:=by
 cases hv with
 | int a t=>
  cases hu with
  | int c u=>show (PyProof.Rows.lt_int h:Œ ý A (Ä7 .Lt (ï a t) (ï c u)) Q E s)
  | bl b=>
   exact rc_sub_first_or (typeIs_int s a t) rfl () PySem.F.sub_bool_int PySem.F.slot_bool_gt_refl (call_gives PySem.F.slot_bool_gt_refl rfl PySem.F.entry_int_gt (PySem.F.args_int_gt_2 ĉ) (MS b a t) #[nofun,?_]) (.inl rfl);show h
 | bl a=>
  cases hu with
  | int c u=>show rc_left_or rfl (typeIs_int s c u) () PySem.F.sub_int_bool PySem.F.slot_bool_lt (call_gives PySem.F.slot_bool_lt rfl PySem.F.entry_int_lt (PySem.F.args_int_lt_2 ĉ) (NL a c u) #[nofun,h]) (.inl rfl)
  | bl b=>
   exact (PyProof.Rows.lt_bool (p:=a) (q:=b) ?_:Œ ý A (Ä7 .Lt (.bool a) (.bool b)) Q E s);cases a <;> cases b <;> show h
end
section
open PySem.SeqAt
open PySem.AutoSeq1 (Ä8)
open PySem.MeetsSeq PySem.MeetsSeq2 PySem.MeetsSeq3
def Vg (l b:Addr) (items Gh:Ar) (n n2:Nat) (dd JZ:Û Addr) (sl I_:Array (Û ń)) (ns ms:Î) Ţ:
  Meets (Builtin.«tuple.__lt__» #[[þ l,þ b],[]])
   (λ _ R s=>ĵ l=↑{ cls:=Á5,dict:=dd,data:=.seq items n,slots:=sl }/\ĵ b=↑{ cls:=Á5,dict:=JZ,data:=.seq Gh n2,slots:=I_ }/\
    R (.ok (.ret Ŷ)) s):=
 .of_wp λ prog w A R s h=>by
  let#[hp,g,d,tk,os]:=s;let#[hl,hb,h]:=h
  have f2:=AutoSeq1.sub_tuple_tuple;have z1:items.size=ŝ:=by rw[<- hi.length];simp
  have z2:Gh.size=ms.length:=by rw[<- hj.length];simp
  wp_walk using Ä8 hl,Ä8 hb,wpAny_forIn_list _ (λ FJ b s'=>b.1=none/\s'=ğ/\∃ (vs ws:Ad) (HD HE:Î),FJ=vs.zip ws/\
   ē vs HD/\ē ws HE/\HD.length+Gh.size=HE.length+items.size/\R (.ok (.ret (.bool (lexLt HD HE)))) ğ) _
  case turn=>
   rintro⟨y,x⟩ FJ b s' ⟨IC,rfl,vs,ws,HD,HE,hz,E7,Ep,hlen,hR⟩;cases E7 with
   | nil=>rw[List.zip_nil_left] at hz;cases hz
   | cons ka E6=>
    cases Ep with
    | nil=>rw[List.zip_nil_right] at hz;cases hz
    | cons kc E4=>
     rw[Ea] at hz
     injection hz with hyx Ge
     injection hyx with hy hx
     subst hy hx;rw[rD] at hR;simp![Be] at hlen;let#[e,he,Ci]:=Yf A.in1 ğ ka kc;exact MX (he prog w ĉ ?_);cases e with
     | true=>
      rw[if_pos (Ci.mp rfl)] at hR
      wp_walk
      show#[rfl,rfl,_,_,_,_,Ge,E6,E4,⋯,hR]
     | Ç=>
      rw[if_neg (λ q=>absurd (Ci.mpr q) BC)] at hR;have hri:=bC A.in1 ğ ka kc prog w
      wp_walk using hri
      show#[_,rfl,by exists hR]
  case fin=>
   rintro⟨b1,b2⟩ s' ⟨IC,rfl,vs,ws,HD,HE,hz,E7,Ep,hlen,hR⟩;simp only at IC;subst IC;have hv:lexLt HD HE=à (items.size<Gh.size):=by
    cases E7 with
    | nil=>
     cases Ep with
     | nil=>
      simp![Dv] at hlen;rw[NU];show (tx ⋯).symm
     | cons kc hw=>
      simp![Dv,Be] at hlen;rw[NV];show (tp ⋯).symm
    | cons ka hv=>
     cases Ep with
     | nil=>
      simp![Dv,Be] at hlen;rw[NW];show (tx ⋯).symm
     | cons kc hw=>
      rw[Ea] at hz;cases hz
   rw[hv] at hR
   wp_walk
   show#[_,rfl,by simpa [Builtin.Tuple.tupleCompareSizes] using hR]
  case h=>
   show#[rfl,rfl,items.toList,Gh.toList,ns,ms,rfl,hi,hj,⋯,h]
end
section
variable {ą}{s:Ä6}
def NK {l b:Addr}{items Gh:Ar}{ns ms:Î}{Q:Ag}(hl:IsTup s.heap l items) (hb:IsTup s.heap b Gh) Ţ
  (hu:A.units<cLine) (h:Q Ŷ s):Œ ý A (Ä7 .Lt (þ l) (þ b)) Q E s:=by
 let#[#[cls,dd,data,sl],ho,hc,n,hd]:=id hl;let#[#[cls2,JZ,data2,I_],Iu,HQ,n2,hd2]:=id hb;simp only at hc hd HQ hd2;subst hc hd HQ hd2;show richCompare_meets_room (op:=.Lt) #[_,ho,rfl] #[_,Iu,rfl] PySem.F.slot_tuple_lt PySem.F.entry_tuple_lt (PySem.F.args_tuple_lt_2 ĉ) (Vg l b items Gh n n2 dd JZ sl I_ ns ms hi hj)
  #[ho,Iu,show Value.bool (lexLt ns ms)≠Value.notImplemented/\Q Ŷ s from #[(λ x=>nomatch x),h]] hu
end
end HT
namespace L4
open Ų PySem.W PySem.Calls Ē L2 HT
section
variable {M:Model}{A:Around}{E:Ag}{s:Ä6}
theorem aW {α β:Type}{f:α->Sem β}:∀ {l:Â6}{rs:List β}{Q:List β->Ģ},À0 (λ v r=>∀ (Q':β->Ģ),Q' r s->Œ M A (f v) Q' E s) l rs->Q rs s->Œ M A (l.mapM f) Q E s
 | _,_,_,.nil,h=>by rw[List.mapM_nil];show Ac h
 | _,_,Q,ĳ (b:=r) hf t,h=>by
  rw[List.mapM_cons];show MX (hf _ (MX (aW (Q:=λ bs s'=>Œ M A (pure (r::bs)) Q E s') t (Ac h))))
def Mo {vs fs tys:Ad}{T0:ń}{Q:SortKind->Ģ}(t:KatTups s.heap vs fs) (hT:À0 (λ v T=>Looks M s.heap (typeOf v) T) fs tys) (h0:tys.head?=↑T0) (Cf:(tys.all λ x=>x == T0)=Ç) (h:Q (tuples' Ç) s):
  Œ M A (keyKind' vs.toArray) Q E s:=by
 rw[kat_kind_eq,List.mapM_toArray,map_eq_pure_bind];exact MX (MX (kat_firsts vs _ t (Ac ?_)));have Ay:((fs.map some).toArray.all λ x=>x.isSome)=true:=#[];rw[if_pos Ay];exact MX (zaI ?_);have hfm:((fs.map some).toArray.filterMap id)=fs.toArray:=#[];rw[hfm,oneTypeOnly'_eq,List.mapM_toArray,map_eq_pure_bind];have hT':À0 (λ v r=>∀ (Q':Ag),Q' r s->Œ M A (typeOf v) Q' E s) fs tys:=by
  clear h0 Cf t Ay hfm
  induction hT with
  | nil=>show .nil
  | cons a _ ih=>show ĳ (λ Q' q=>a.here q) ih
 exact MX (MX (MX (aW hT' (Ac ?_))));have e0:tys.toArray[0]?=↑T0:=by rw[<- h0];cases tys <;> simp
 have e1:(tys.toArray.all λ x=>x == T0)=Ç:=by rw[<- Cf];simp
 rw[e0];simp![e1,Bd,if_false];show Ac (Ac h)
end
section
variable {ą}{s:Ä6}{Q:Bool->Ģ}
def tZ (v:ń):Prop:=∃ n t,v=Value.int n t
theorem Ze À4:∀ (ns ms:Î) (us ws:Ad) (i:Nat),ē us ns->ē ws ms->(b=true->i=0->(∀ v,us.head?=↑v->tZ v)/\∀ v,ws.head?=↑v->tZ v)->Q (Ă ns ms) s->KatLex prog w A b (à (ŝ<ms.length)) Q (us.zip ws) i s
 | _,_,_,_,_,.nil,.nil,_,h=>ĺ
 | _,_,_,_,_,.nil,ĳ ĉ,_,h=>ĺ
 | _,_,_,_,_,ĳ ĉ,.nil,_,h=>ĺ
 | n::ns,m::ms,_,_,i,ĳ (v:=v) ku hu,ĳ (v:=v') kw hw,hb,h=>by
  rw[HT.rD] at h;let#[e,he,Ci]:=Yf A s ku kw;exact kat_cons (he prog w ĉ (kat_go (λ e1=>kat_yes ?_) λ e1=>kat_no ?_))
  .rw[if_pos (Ci.mp e1)] at h;rw[show à ((n::ns).length<(m::ms).length)=à (ŝ<ms.length) by simp];show Ze ns ms ĉ (i+1) hu hw (λ _ z=>⋯) h
  .rw[if_neg (λ q=>by rw[Ci.mpr q] at e1;cases e1)] at h;cases hc:b&&i == 0 with
   | true=>
    rw[AK,beq_iff_eq] at hc;let#[h1,h2]:=hb hc.1 hc.2;let#[_,_,rfl]:=h1 _ rfl;let#[_,_,rfl]:=h2 _ rfl;cases ku;cases kw;show kat_lt_int h
   | Ç=>show kat_one ĉ (bC A s ku kw prog w ĉ h)
abbrev Jd (h:Heap) (v:ń) (r:Î):Prop:=r≠[]/\∃ b o Aa n,v=þ b/\h.get? b=↑o/\o.cls=Á5/\Ş/\ē Aa.toList r
def qQ (h:Heap):List ń->Đ->Prop:=À0 (Jd h)
theorem qQ.rL {h:Heap}:∀ {vs:Ad}{FI:Đ},qQ h vs FI->∃ fs,KatTups h vs fs/\À0 (λ v f=>∃ b o Aa n,v=þ b/\h.get? b=↑o/\Ş/\À1) vs fs/\∀ v∈fs,tZ v\/∃ b,v=Value.bool b
 | _,_,.nil=>#[[],KatTups.nil,.nil,nofun]
 | _,_,ĳ #[AA,b,o,Aa,n,hv,ho,hc,hd,hi] r=>by
  let#[fs,h1,h2,h3]:=qQ.rL r;subst hv;let#[Aa]:=Aa;cases hi with
  | nil=>show absurd rfl AA
  | cons k _=>
   exact#[_::fs,KatTups.cons ho hc hd rfl h1,ĳ #[b,o,_,n,rfl,ho,hd,rfl] h2,λ v hv=>?_];rcases Ao.mp hv with rfl | hv
   .cases k with
    | int _ t=>show .inl #[_,t,rfl]
    | bl b=>show .inr #[b,rfl]
   .show h3 v hv
def qQ.ask {vs fs:Ad}{FI:Đ}À4(r:qQ s.heap vs FI) (f:À0 (λ v f=>∃ b o Aa n,v=þ b/\ĵ b=↑o/\Ş/\À1) vs fs) (hb:b=true->∀ v∈fs,tZ v)
  {i j:Nat}(hi:i<ú) (hj:j<ú) {C:Bool->Ģ}(h:C (sD FI i j) s):kas_ask prog w A (tuples' b) vs i j C s:=by
 let#[_,b1,o1,its1,n1,e1,g1,_,d1,q1]:=Paired.at' r hi Ņ [];let#[_,b2,o2,GQ,n2,e2,g2,_,d2,q2]:=Paired.at' r hj Ņ [];have hl:ú=fs.length:=Á6 f;have first:∀ Å9{bb:Addr}{oo:Obj}{ii:Ar}{nn:Nat},k<ú->vs.getD k Ņ=þ bb->ĵ bb=↑oo->oo.data=.seq ii nn->b=true->∀ v,ii.toList.head?=↑v->tZ v:=λ{k bb oo ii nn} hk ev eo ed Ex v hv=>by
  let#[b3,o3,its3,n3,f1,f2,f3,f4]:=Paired.at' f hk Ņ Ņ;rw[ev] at f1;cases f1;rw[eo] at f2;cases f2;rw[ed] at f3;cases f3;rw[hv] at f4;cases f4;exact hb Ex _ ?_;have:k<fs.length:=⋯;simp![A9,AF this,Option.getD_some] at *;show B3 this
 unfold kas_ask;rw[e1,e2];exact kat_lt g1 d1 g2 d2 ?_;have l1:=q1.length;have l2:=q2.length;rw[Bw] at l1 l2;rw[l1,l2];show Ze Ć _ 0 q1 q2 (λ Ex _=>#[first hi e1 g1 d1 Ex,first hj e2 g2 d2 Ex]) h
def mI ı(lt:Nat->Nat->Bool):KasT α->α
 | .ret a=>a
 | .ask i j k=>mI lt (k (lt i j))
theorem yq.ev ı ź:∀ {t:KasT α},yq n lt t P->yq n lt t λ a=>a=mI lt t/\P a
 | .ret _,h=>#[rfl,h]
 | .ask i j k,h=>#[h.1,h.2.1,yq.ev h.2.2]
theorem yq.at ı ź:∀ {t:KasT α},yq n lt t P->P (mI lt t)
 | .ret _,h=>h
 | .ask i j k,h=>yq.at (t:=k (lt i j)) h.2.2
def vK (FI:Đ):List Nat:=if ì<2 then ŧ ì else (mI (sD FI) (kas_sort ì)).toList
theorem kl (FI:Đ):(vK FI).Perm (ŧ ì):=by
 unfold vK;split
 .show .refl _
 .have h:=(Ã6).1;exists Array.Perm.toList h
theorem UU (FI:Đ):((vK FI).map λ i=>ģ).Pairwise λ a b=>Ă b a=Ç:=by
 unfold vK;split
 .rw[CH];intro i j hi hj A5;simp at hi hj;lia
 .have h:=Ã6;show cQ h.1.size h.2
def oX (vs:Ad) (FI:Đ) (out:Ar):Prop:=out.toList=(vK FI).map λ i=>vs.getD i Ņ
theorem Kg {vs:Ad}{FI:Đ}(r:qQ s.heap vs FI) (h2:2<=ú) (GL:ú<64) (h1:∃ b o Aa n f,vs.head?=↑(þ b)/\ĵ b=↑o/\Ş/\À1/\tZ f):Core prog w A E vs (oX vs FI) s:=by
 let#[fs,t,f,hf]:=r.rL;have hl:ú=fs.length:=Á6 f;have Cz:ú=ì:=Á6 r;have f0:∃ v,fs.head?=↑v/\tZ v:=by
  let#[b,o,Aa,n,v,a1,a2,a3,a4,a5]:=h1;cases f with
  | nil=>cases a1
  | cons g _=>
   let#[b3,o3,its3,n3,f1,f2,f3,f4]:=g;cases a1;cases f1;rw[a2] at f2;cases f2;rw[a3] at f3;cases f3;rw[a4] at f4;cases f4;show#[_,rfl,a5]
 have run:∀ b:Bool,(b=true->∀ v∈fs,tZ v)->Œ ý A ((sortRuns').run (SortSt.mk' (tuples' b) (vs.toArray.zip vs.toArray) [].toArray 7 none)) (λ r HJ=>HJ=s/\failedOf r.2=none/\oX vs FI ((arrOf r.2).map (·.2))/\(arrOf r.2).size=ú) E s:=λ b hb=>by
  exact kat_run (ks:=vs) (Q:=λ st HJ=>HJ=s/\failedOf st=none/\oX vs FI ((arrOf st).map (·.2))/\(arrOf st).size=ú) (G:=λ p HJ=>HJ=s/\p=mI (sD FI) (kas_sort ú)/\xo ú p/\wV (sD FI) p ú) rfl h2 GL (λ p st s' hs ha C_ hg=>?_) ?_
  .let#[h1,h3,h4]:=hg;exact#[h1,C_,?_,by rw[ha,CT];show hs];unfold oX vK;rw[kat_snds rfl ha,if_neg ⋯,<- Cz,<- h3]
  .show lH (λ i j C hi hj hC=>r.ask f hb hi hj hC) (yq.mono (λ p hp=>#[rfl,hp]) (yq.ev (nL (kf FI) ⋯)))
 unfold Core;by_cases Ay:∀ v∈fs,tZ v
 .exact kat_kind (T:=.type "int") t ⋯ (λ v hv=>?_) rfl #[rfl,run true λ _=>Ay];let#[n,t,rfl]:=Ay v hv;show Â7
 .let#[v0,e0,n0,t0,rfl]:=f0;have ty:À0 (λ v T=>Looks ý s.heap (typeOf v) T) fs (fs.map λ v=>match v with | ï ĉ=>Value.type "int" | _=>Value.type "bool"):=by
   clear Ay e0 f hl t run h1
   induction fs with
   | nil=>show .nil
   | cons v fs ih=>
    exact ĳ ?_ (ih λ u hu=>hf u (AD _ hu));rcases hf v Aw with ⟨n,t,rfl⟩ | ⟨b,rfl⟩
    .show Â7
    .show Â7
  exact Mo (T0:=.type "int") t ty ?_ ?_ #[rfl,run Ç nofun]
  .cases fs with
   | nil=>cases e0
   | cons v fs=>cases e0;rfl
  .rw[<- EF,Bz,AV];intro z;exact Ay λ v hv=>?_;have:=z v hv;rcases hf v hv with h | ⟨b,rfl⟩
   .show h
   .cases this
end
inductive Kx
 | i (n:Int)
 | b (c:Bool)
def Kx.k:Kx->Int
 | .i n=>n
 | .b c=>if c=true then 1 else 0
def Kx.v:Kx->V
 | .i n=>ï n
 | .b c=>.bl c
abbrev yE (r:Ĥ):Î:=ĥ Kx.k
def xu (FI:Ð):Ð:=(vK Č).map λ i=>ģ
theorem bD ı(l:Â6) (d:α):(ŧ l.length).map (λ i=>l.getD i d)=l:=by
 exact DD #[] λ i h1 h2=>?_;simp[h2]
def qi (FI:Ð):(xu FI).Perm FI:=by
 have h:=(kl Č).map λ i=>ģ;rw[Af,bD] at h;show h
def Mp (FI:Ð) (i:Nat):yE (ģ)=(FI.map yE).getD i []:=by
 by_cases h:i<ì <;> simp[h]
def VQ (FI:Ð):((xu FI).map yE).Pairwise λ a b=>Ă b a=Ç:=by
 have h:=UU Č;unfold xu;rw[AI];have e:(yE ∘ λ i=>ģ)=λ i=>(FI.map yE).getD i []:=funext (Mp FI);rw[e];show h
theorem my:∀ {r:Ĥ}{us:Ad},Vals (ĥ Kx.v) us->ē us (yE r)
 | [],_,.nil=>.nil
 | .i n::r,_,ĳ h t=>by
  let#[tk,rfl]:=h;show ĳ (ï n tk) (my t)
 | .b c::r,_,ĳ h t=>by
  cases h;show ĳ (.bl c) (my t)
theorem cp Æ2{us:Ad}(h:Vals ys us):∀ (is:List Nat),(∀ i∈is,i<Ä9)->Vals (is.map Á1) (is.map λ i=>us.getD i Ņ)
 | [],_=>.nil
 | i::is,hi=>by
  have h1:=hi i Aw;exact ĳ ?_ (cp h is λ j hj=>hi j (AD _ hj));let#[u,e1,e2]:=h.get (AF h1);simp![A9,e1,AF h1,Option.getD_some];show e2
section
variable {X:Cx}
def i7 (K:Ab):R2:=λ x y H Q=>∃ a b,∃ r q:Ĥ,x=þ a/\y=þ b/\yi K H a (ĥ Kx.v)/\yi K H b (q.map Kx.v)/\Q (Ũ) H
theorem QD (hu:X.A.units<cLine):yp X (Ä7 .Lt) (i7 X.K):=by
 intro FH s σ H x y v u Q I rx ry h;let#[a,b,r,q0,rfl,rfl,ha,hb,q]:=h;cases rx;cases ry;let#[Aa,r1,p1,_]:=I.tuple ha;let#[GQ,r2,p2,_]:=I.tuple hb;show HT.NK p1 p2 (by exists my r1) (by exists my r2) hu #[.bl _,H,I,rfl,q]
abbrev eB (K:Ab) (H:Hp) (v:V) (r:Ĥ):Prop:=r≠[]/\∃ b,v=V.ref b/\yi K H b (ĥ Kx.v)
def kX (FI:Ð):Prop:=ì<2\/∃ n r rs,FI=(.i n::r)::rs
def Kt:yS X (.builtin "sorted") (λ xs H Q=>∃ p ys,∃ FI:Ð,xs=[þ p]/\zU X.K H p ys/\À0 (eB X.K H) ys FI/\Ō):=by
 intro FH s σ H xs us Q I r h;let#[p,ys,FI,rfl,hq,hr,GL,h1,q]:=h;ext Ä5;let#[Aa,rv,pl,hz]:=I.list hq;have hly:Ä9=ì:=Á6 hr;have Fq:Ä9=Aa.length:=rv.length;have Ha:∀ h6:Heap,Ŧ->qQ h6 Aa Č:=λ h6 k=>by
  clear q GL hz h1 hly Fq pl hq
  induction hr generalizing Aa with
  | nil=>cases rv;show .nil
  | cons g t ih=>
   cases rv with
   | cons r1 rv=>
    exact ĳ ?_ (ih _ rv);let#[AA,b,e1,hb]:=g;rw[e1] at r1;cases r1;let#[GQ,IE,#[o,e,hc,n,hd],_]:=I.tuple hb;show#[λ z=>AA (Du.mp z),b,o,_,n,rfl,k ĉ id e,hc,hd,by exists my IE]
 have first:2<=Aa.length->∀ h6:Heap,Ŧ->∃ b o,∃ (is:Ar) (n:Nat) (f:ń),Aa.head?=↑(þ b)/\h6.get? b=↑o/\o.data=.seq is n/\is.toList.head?=↑f/\tZ f:=λ h2 h6 k=>by
  rcases h1 with h1 | ⟨n,r0,rs,rfl⟩
  .lia
  .cases hr with
   | cons g _=>
    cases rv with
    | cons r1 rv=>
     obtain⟨-,b,e1,hb⟩:=g;rw[e1] at r1;cases r1;let#[GQ,IE,#[o,e,hc,m,hd],_]:=I.tuple hb;cases IE with
     | cons r2 _=>
      let#[tk,rfl]:=r2;show#[b,o,_,m,_,rfl,k ĉ id e,hd,rfl,n,tk,rfl]
 have sz:Ä0<=((s.heap.push (seqObj "list" [].toArray 0)).update Ä0 (Obj.mapSeq (·++Aa.toArray))).objs.size:=by rw[Heap.size_update,size_push'];show CJ _
 exact ic (N:=λ _=>False) (Out:=oX Aa Č) (λ Q' h=>collect_list pl.isList (h _ s.toks UA sz) (by rw[<- Fq];show hz)) (by rw[<- Fq];show hz) (λ h2 s6 k=>Kg (Ha _ k) h2 ⋯ (first h2 _ k)) (λ h2=>?_) λ out h' tk l ho hs hp k D5=>?_
 .unfold oX vK;rw[Af,if_pos ⋯,show ì=Aa.length by lia,bD]
 .let#[e,he]:=D5;have hb:∀ i∈vK Č,i<Ä9:=λ i hi=>by
   ext À5;lia
  exact#[þ l,_,I.laid (t':=tk) (o:=â) (λ b o e=>k b o id e) hp #[?_,out.toList,e,?_,by exists he],rfl,q l (I.zr.fresh hp)]
  .rw[Af,(kl _).length_eq,B5,Af,<- hly];show hz
  .rw[show out.toList=_ from ho];show cp rv _ hb
end
end L4
namespace L5
open Ų ũ L2 L3 L4
open Ē hiding St
def zR:Kx->T
 | .i n=>ï n
 | .b c=>.bl c
def rG:Kx->D
 | .i n=>ï n
 | .b c=>.bl c
def kT (r:Ĥ):T:=ü (ĥ zR)
def kD (r:Ĥ):D:=ü (ĥ rG)
def qD:T->Û Kx
 | ï n=>↑(.i n)
 | .bl c=>↑(.b c)
 | _=>none
def xA:û->Û (Ĥ)
 | []=>↑[]
 | t::ts=>(qD t).bind λ x=>(xA ts).map (x::·)
def qw:û->Û (Ð)
 | []=>↑[]
 | ų::us=>(xA ts).bind λ r=>(qw us).map (r::·)
 | _::_=>none
theorem mv:∀ {ts:û}{r:Ĥ},xA ts=↑r->ts=ĥ zR
 | [],r,h=>by cases h;rfl
 | t::ts,r,h=>by
  ext Ő;rw[mv h3];cases t with
  | int n=>cases h1;rfl
  | bl c=>cases h1;rfl
  | _=>cases h1
theorem bx:∀ {ts:û}{rs:Ð},qw ts=↑rs->ts=č kT
 | [],r,h=>by cases h;rfl
 | t::ts,r,h=>by
  cases t with
  | tup us=>
   ext Ő;rw[bx h3,mv h1];rfl
  | _=>cases h
theorem p_:∀ r:Ĥ,xA (ĥ zR)=↑r
 | []=>rfl
 | .i n::r=>Ŝ
 | .b c::r=>Ŝ
theorem iw:∀ rs:Ð,qw (č kT)=↑rs
 | []=>rfl
 | r::rs=>by
  change (xA (ĥ zR)).bind (λ q=>(qw (č kT)).map (q::·))=_;rw[p_,iw rs];rfl
theorem cV {S:SS}:∀ {x:Kx}{d:D},Sn S (zR x) d↔d=rG x
 | .i n,d=>by simp![zR,Sn,rG]
 | .b c,d=>by simp![zR,Sn,rG]
theorem pD {S:SS}:∀ {r:Ĥ}Å8,zp S (ĥ zR) ds↔ds=ĥ rG
 | [],ds=>by simp![BA,zp]
 | x::r,ds=>by
  rw[AJ];simp![zp];constructor
  .rintro⟨c,cs,rfl,h1,h2⟩;rw[cV.mp h1,pD.mp h2];rfl
  .rintro rfl;show#[_,_,rfl,cV.mpr rfl,pD.mpr rfl]
theorem lZ {S:SS}:∀ {rs:Ð}Å8,zp S (č kT) ds↔ds=č kD
 | [],ds=>by simp![BA,zp]
 | r::rs,ds=>by
  rw[AJ];simp![zp,kT,Sn];constructor
  .rintro⟨c,cs,rfl,⟨es,rfl,h1⟩,h⟩;rw[lZ.mp h,pD.mp h1];rfl
  .rintro rfl;show#[kD r,_,rfl,#[_,rfl,pD.mpr rfl],lZ.mpr rfl]
section
variable {K:Ab}{H:Hp}
theorem nV:∀ {r:Ĥ}{xs:List V},zo K H (ĥ rG) xs->xs=ĥ Kx.v
 | [],xs,h=>by simpa only [BA,zo] using h
 | .i n::r,xs,h=>by
  ext đ
 | .b c::r,xs,h=>by
  ext đ
theorem bq:∀ {FI:Ð}Æ2,zo K H (FI.map kD) ys->(∀ r∈FI,r≠[])->À0 (eB K H) ys FI
 | [],ys,h,_=>by simp![BA,zo] at h;subst h;show .nil
 | r::FI,ys,h,hn=>by
  rw[AJ] at h;simp![zo,kD,zj] at h;let#[x,ys',rfl,#[a,xs,rfl,g1,g2],h3]:=h;rw[nV g2] at g1;show ĳ #[hn r Aw,a,rfl,g1] (bq h3 λ r' hr=>hn r' (AD _ hr))
theorem b9:∀ Å8 Æ2(i:Nat) (d:D) (v:V),zo K H ds ys->i<ds.length->zj K H (ds.getD i d) (ys.getD i v)
 | [],_,_,_,_,_,h=>absurd h (Nat.not_lt_zero _)
 | c::ds,ys,i,d,v,h,hi=>by
  simp![zo] at h;let#[x,ys',rfl,h1,h2]:=h;cases i with
  | zero=>show h1
  | succ i=>show b9 i d v h2 (by exists hi)
theorem b8 {FI:Ð}Æ2(h:zo K H (FI.map kD) ys):∀ (is:List Nat),(∀ i∈is,i<ì)->zo K H ((is.map λ i=>ģ).map kD) (is.map Á1)
 | [],_=>by simp![BA,zo]
 | i::is,hi=>by
  have h1:=hi i Aw;have h2:=b9 i (kD []) V.zm h (by rw[Af];show h1);have e:(FI.map kD).getD i (kD [])=kD (ģ):=by simp[h1]
  rw[e] at h2;simp![AJ,zo];show#[_,_,rfl,h2,b8 h is λ j hj=>hi j (AD _ hj)]
end
def rM (FI:Ð):Bool:=à (ì<2)||match FI with
 | (.i _::_)::_=>true
 | _=>Ç
def LB {FI:Ð}(h:rM FI=true):kX FI:=by
 unfold rM at h;rw[Dl,Â8] at h;rcases h with h | h
 .show .inl h
 .split at h
  .show .inr #[_,_,_,rfl]
  .cases h
section
variable {X:Cx}{K:Ab}{a b e:Expr}{es:List Expr}{ta tb:zu}{tA:ym}{pos p:Pos}
def uO:yR:=λ x y S Q=>(∃ i j,x=ï i/\y=ï j/\Q (ņ) S)\/∃ r q:Ĥ,x=kD r/\y=kD q/\Q (Ũ) S
def vx:T->T->Û T
 | ï i,ï j=>↑(ņ)
 | ų,ü us=>(xA ts).bind λ r=>(xA us).map λ q=>Ũ
 | _,_=>none
def uO.mo:xx uO:=λ x y S Q Q' hq h=>h.imp (λ#[i,j,h1,h2,h3]=>#[i,j,h1,h2,hq ĉ h3]) λ#[r,q,h1,h2,h3]=>#[r,q,h1,h2,hq ĉ h3]
def uO.fits:xt K uO (λ x y H Q=>vJ (λ i j=>ņ) x y H Q\/i7 K x y H Q):=λ x y d e H S Q h1 h2 h3 h=>by
 rcases h with ⟨i,j,rfl,rfl,h⟩ | ⟨r,q,rfl,rfl,h⟩
 .simp![zj] at h1 h2;show .inl #[_,_,h1,h2,h _ H Ŵ (.refl H) h3]
 .simp![kD,zj] at h1 h2;let#[a,xs,rfl,g1,g2]:=h1;let#[b,ys,rfl,g3,g4]:=h2;rw[nV g2] at g1;rw[nV g4] at g3;show .inr #[a,b,r,q,rfl,rfl,g1,g3,h _ H Ŵ (.refl H) h3]
def gn:Good2 zE vx uO:=λ S Z x y z d e Q hz hx hy ef hq=>by
 unfold vx at ef;split at ef
 .cases ef;cases hx.int;cases hy.int;show .inl #[_,_,rfl,rfl,ŷ]
 .let#[ns,e1,e2]:=Ap.mp ef;let#[ms,e3,rfl]:=AU.mp e2;cases mv e1;cases mv e3;let#[ds,rfl,h2]:=hx.tup;let#[es,rfl,h4]:=hy.tup;cases pD.mp h2;cases pD.mp h4;show .inr #[ns,ms,rfl,rfl,ŷ]
 .cases ef
def aB Å9(hr:yo k X.A):yp X (Ä7 .Lt) (λ x y H Q=>vJ (λ i j=>ņ) x y H Q\/i7 X.K x y H Q):=QE.or (QD (by have:=hr.units;lia))
def RI Ń:PD X (.Compare a [.Lt] [b] pos) (yB uO ta tb):=n_ Ã9
def Su Ń:xF X (.Compare a [.Lt] [b] pos) (vQ (yB uO ta tb)):=pQ Ã9
def rN:xE:=λ ds S Q=>∃ d,∃ FI:Ð,ds=[d]/\(∀ ts,d≠ ų)/\yg d S=↑(FI.map kD)/\ì<64/\(∀ r∈FI,r≠[])/\kX FI/\∀ l,S l=none->Q (þ l) (ups S l (ġ ((xu FI).map kD)))
def vX:Ak
 | [ġ ts]=>(qw ts).bind λ rs=>if Á7<64/\(∀ r∈rs,r.isEmpty=Ç)/\rM rs=true then ↑(ġ ((xu rs).map kT)) else none
 | _=>none
def MW:vn zE vX rN:=λ S Z ys z ds Q hz hv e hq=>by
 unfold vX at e;split at e
 .let#[rs,e1,e2]:=Ap.mp e;split at e2
  .rename_i hc;cases e2;cases bx e1;ext Ŏ;cases lZ.mp h3;exact#[d,rs,rfl,?_,h2,hc.1,λ r hr z=>?_,LB hc.2.2,λ l hl=>hq ĉ (.new hl _) (t8 hz hl (lZ.mpr rfl))]
   .ext ĕ
   .have:=hc.2.1 r hr;rw[z] at this;cases this
  .cases e2
 .cases e
def rN.mo:vm rN:=λ ds S Q Q' hq #[d,FI,h0,h1,h2,h3,h4,h5,h6]=>#[d,FI,h0,h1,h2,h3,h4,h5,λ l hl=>hq ĉ (h6 l hl)]
def rN.fits:uB K rN (λ xs H Q=>∃ p ys,∃ FI:Ð,xs=[þ p]/\zU K H p ys/\À0 (eB K H) ys FI/\Ō):=λ xs ds H S Q h0 h2 h=>by
 let#[d,FI,rfl,hn,e,GL,AA,hf,h]:=h;let#[x,hx,h1]:=h0.one;subst hx;let#[a,ys,rfl,g1,g2]:=tj h1 h2 e hn;exact#[_,ys,FI,rfl,g1,bq g2 AA,GL,hf,λ l hl=>?_];have x1:Ext H (upd H l (â)):=.new hl _;exact h l (h2.none hl) ĉ Ŵ x1 (h2.ups x1 #[_,yr,zo.ext x1 _ ?_]);exact b8 g2 _ λ i hi=>?_;ext À5;show this
def Ry (hm:X.mg "sorted"=none) (ha:xc X (e::es) tA) (hg:Gl X "sorted") Ã5:PD X (.Call (ľ "sorted" p) (e::es) [] pos) (xR rN tA):=
 sG (t9 Kt hg hm boot_sorted ha.pa () () he Al) rN.mo rN.fits ha.mo
end
end L5
namespace ST
open Ų PySem.SetTable ũ Ē L2
section
variable {X:Cx}
theorem K5:yS X (.builtin "len") (λ xs H Q=>∃ l us,xs=[þ l]/\H l=↑(.ext (yQ X.w l us))/\À7<64/\Q (ï À7) H):=by
 intro FH s σ H xs us0 Q I r h;let#[l,us,rfl,hl,GL,q]:=h;ext Ä5;obtain⟨⟨es,ep,t,S,eu⟩,-,-⟩:=(show xH X.prog X.w H s.heap l (.ext (yQ X.w l us)) from I.zr l _ hl)
 have hlen:es.size=À7:=by rw[<- eu];simp
 exact call_len_set S.get #[rfl,rfl,rfl] rfl S.fits ⋯ ?_;rw[hlen];show#[ï _,H,I.tok _,#[_,rfl],q]
end
end ST
namespace L5
open Ų ũ L2 L3
open Ē hiding St
section
variable {X:Cx}{e:Expr}{tA:ym}{pos F_ p p2:Pos}
def mG:xE:=λ ds S Q=>∃ d,∃ ns:Î,ds=[d]/\(∀ ts,d≠ ų)/\yg d S=↑(ns.map D.int)/\ŝ<64/\Q (ï (xm ns).length) S
def hG:Ak
 | [ġ ts]=>(wF ts).bind λ ns=>if ŝ<64 then ↑(ï (xm ns).length) else none
 | _=>none
def La:vn zE hG mG:=λ S Z ys z ds Q hz hv e hq=>by
 unfold hG at e;split at e
 .let#[ns,Bo,e]:=Ap.mp e;split at e
  .rename_i hc;cases e;cases om Bo;ext Ŏ;cases uH.mp h3;exact#[d,ns,rfl,?_,h2,hc,hq _ S (.refl S) (Cl.of (λ _=>nofun) wj)];ext ĕ
  .cases e
 .cases e
def mG.mo:vm mG:=λ ds S Q Q' hq #[d,ns,h1,h2,h3,h4,h5]=>#[d,ns,h1,h2,h3,h4,hq ĉ h5]
def RK (hm:X.mg "len"=none) (Iv:X.mg "set"=none) (ha:xc X [e] tA) õ (hg:Gl X "len") (Hn:Gl X "set")
  (he2:Az X e [])
  (he:starEach [Ħ] Ī=(Ç,eval (Ħ) Ī)::starEach [] Ī) (Al:AE X pos []) (IQ:AE X F_ []):
  PD X (.Call (ľ "len" p) [Ħ] [] pos) (xR mG tA):=by
 have h:=t9 (p:=p) ST.K5 hg hm PySem.boot_len (ud (pP (ST.Y8 hc) Hn Iv PyProof.Rows.boot_set ha.pa () () he2 IQ) tB he) () () he Al;exact#[xR.mo mG.mo ha.mo,PE.imp h fun σ H Q hu=>?_];let#[Y,S,r1,r2,z]:=hu;exact xW.go ha.mo r1 r2 z λ ds S1 xs H1 h1 q1 e1 p1=>?_;let#[d,ns,rfl,c1,c2,c3,h1]:=h1;let#[x,hx,g0]:=q1.one;subst hx;let#[a,ys,rfl,g1,g2]:=tj g0 p1 c2 c1;rw[g2.ints] at g1;exact#[a,ns,rfl,g1,c3,λ l us ms hf hi nd Cy=>?_];have el:ms.length=(xm ns).length:=(((Ee nd ((nC ns).imp λ h e=>⋯)).mpr λ k=>by rw[Cy,mm])).length_eq;have hul:=hi.length;have CO:=c8 ns;exact#[l,us,rfl,yr,⋯,?_];rw[hul,el];show (h1.ext e1) ĉ Ŵ (.new hf _) (p1.new hf)
end
end L5
namespace Ų
section
variable {ą}{h:Heap}{g:Array GenState}{d:Drawn}{t:Nat}{os:OsState}
variable {nm q:Str}{C N:Addr}{bs bm F6:Ad}{hdct:Bool}{sn:Ô}{sub:Ad}{ab:Bool}{col:Û Bool}{dd:Û Addr}{k0 k1 k2 k3 k5:Û ń}{B newId Hk:String}
def W2 ĝ{Q:Fin->Ģ}
  ä
  (hq:∀ h' e,Ķ<=e->Å0->Q (.done (.ret (þ e))) Ū) (Ge:FJ.length<=sizeLine):
  Œ ý A (Builtin.«type.__call__» #[þ C::FJ,[]]) Q E Ÿ:=by
 repeat (first | with_reducible exact za4 hC ?_ | with_reducible exact wpAny_madeBy_exc hC ?_ | wp_step)
 exact codeAny_call_builtin_code (Code.quiet_builtin _ F.quiet) (wpAny_check_new_subT F T hC ?_);exact codeAny_exc_new_subT F T hC ?_ Ge;change Œ Ć Ć;have up:∀ b o,h.get? b=↑o->Ø b=↑o:=λ b o e=>gV _ (gV _ e);have hC₁:=up ĉ hC;have BV:Ø (Ķ+1)=some
   { cls:=þ C,data:=ċ }:=by heap_get
 have hcC:(Value.ref C::bm).contains Ŗ=true:=#[];unfold isInstance
 repeat (first | with_reducible exact za4 BV ?_ | (with_reducible exact zaE hC₁ ?_;rw[hcC]) | wp_step)
 change Œ ĉ (typeLookup Ŗ _) Ć;exact wpAny_typeLookup_tail hC₁ (hn.keeps up) (T.keeps up) F.mroIs F.init.lookup ?_;rw[hi];exact za7 (MX (wpAny_of_eq (F.init.bind _) ?_));exact MX (wpAny_call (codeAny_call_builtin F.init.plain F.initEntry (wpAny_check_init_subT F (T.keeps up) hC₁ BV rfl ?_)))
 wp_walk
 rw[if_neg (show ¬ ([].append FJ).toArray.size>sizeLine from Nat.not_lt_of_le Ge)]
 wp_walk
 exact hq ĉ (CJ _) #[λ b o hb=>?_,zaQ (CJ _),Ķ+2,?_,zaQ ⋯,?_]
 .rw[za9 ĉ (BB (CQ (An hb)))];show gV _ (up ĉ hb)
 .rw[za8 _ (gV _ BV) rfl];simp![Heap.size_push];rfl
 .rw[za9 ĉ (show Ķ+1≠ Ķ+2 by lia)];show Heap.get?_push_at (by simp![Heap.size_push]) rfl
def WE ĝ{Q:Ag}
  ä
  (hq:∀ h' e,Ķ<=e->Å0->Q (þ e) Ū) (Ge:FJ.length<=sizeLine):
  Œ ý A (call Ŗ FJ) Q E Ÿ:=by
 have f1:=tc_lookup;have f2:=tc_bind Ŗ;have hT:(Ÿ:Ä6).TypeIs Ŗ "type":=#[_,hC,rfl];exact wpAny_call (codeAny_of_tree ?_);change Œ ĉ (callAny Ŗ _) Ć
 repeat (any_goals (first | ext ſ | with_reducible exact za4 hC ?_ | wp_step))
 exact#[rfl,?_];show codeAny_call_builtin_at (Code.quiet_builtin _ (AM)) entry_typeCall (wpAny_check_type_call_sub hC (W2 F T hC hn hi hq Ge))
end
end Ų
namespace L3
open Ų ũ L2
open Ē hiding St
def o_ (K:Ab) (mg:Au) (c:Str):Prop:=∃ C P N NP,sh K c C P N NP/\mg c=↑ Ŗ/\Ĩ
def Ez (K:Ab) (c:Str):Prop:=∃ C P N NP,sh K c C P N NP/\Ĩ
def Ez.i {K:Ab}{c:Str}{C P:Addr}{o1 o2:ń}{d1 d2:Û Addr}{c1 c2:ClassData}{s1 s2:Array (Û ń)}(_:Ã7 K mainGlobals c=↑↑ Ŗ) (_:Ã7 K mainGlobals "PurseError"=↑↑(þ P)) (_:K.lookup C=↑#[o1,d1,.cls c1,s1]) (_:K.lookup P=↑#[o2,d2,.cls c2,s2])
  (h:mJ K c=↑(C,P,c1.ns,c2.ns)) (k:PySem.W.keepIn K Ŗ=true) (n:Ã7 K c1.ns "__init__"=↑none):Ez K c:=#[C,P,_,_,gJ h,k,n]
def Ez.mk {K:Ab}{mg:Au}{h:Heap}{c:Str}(H:Ez K c) (X:K.In h) (G:h.Ns mainGlobals mg):o_ K mg c:=by
 let#[C,P,N,NP,e,k,n]:=H;show#[C,P,N,NP,e,PySem.W.mg_of X G e.top,k,n]
def WJ {X:Cx}{c:Str}{p pos IG:Pos}{FH:Aj}{σ:St}{H:Hp}{s:Ä6}{Q:Addr->Hp->Prop}{R:Flow->Ģ}
  (G:o_ X.K X.mg c) õ (hg:Gl X c) Æ0
  {W:Ag}(hW:∀ v s',XP X FH Ç σ Q v s'->W v s') (I:Inv X FH σ H s) (h:∀ a H',oU H H'->jy X.K c "" .zm a H'->Q a H'):
  Œ (model X.prog X.w) X.A (exec (.Raise ↑(.Call (ľ c p) [] [] pos) none IG) Ī) R W s:=by
 let#[C,P,N,NP,hE,hm,hk,hi]:=G;let#[#[q,bs,sn,sub,ab,col,dd,k0,k1,k2,k3,k5,lk],_,_]:=id hE.own;rw[arm_exec_Raise];exact MX (zaN (dW (C:=C) (nm:=c) (q:=q) (N:=N) (bs:=bs) (bm:=þ P::wH) (hdct:=true) (sn:=sn) (sub:=sub) (ab:=ab) (col:=col) (dd:=dd) (k0:=k0) (k1:=k1) (k2:=k2) (k3:=k3) (k5:=k5) (newId:="ValueError.__new__")
  (by rw[Bu,show wH.contains (.type "BaseException")=true from by decide,CI]) (I.ok.hd hc) (MX (za6 ?_ (λ v s₃ h₃=>MX (zaN (Ac h₃))) λ _ _ x=>x))))
 exact zaJ (pZ I hg hm ?_ A2);exact PySem.W.callWith_K0 I.y7 hk ?_;let#[hh,g,d,t,os]:=s;have hC:=I.y7 ĉ lk;let#[_,hN,hnn]:=hE.own.at I.y7;let#[#[q',bs',sn',HR,ab',HU,dd',l0,l1,l2,l3,l5,hP],IW,HF]:=hE.par.at I.y7;have T:OwnTail hh wH (þ P::wH):=.own hP IW (PySem.W.ns_none_of I.y7 IW hE.b_) .base;exact WE PySem.F.excBase_ValueError T hC hN (PySem.W.ns_none_of I.y7 hN hi) (λ h' e hle M=>?_) ();let#[va,m1,m2,m3]:=M.there;have I2:Inv X FH σ (upd H e (ny e C va)) Ū:=I.laid (t':=t) M.keeps hle #[m1,#[_,m1],λ h1 h2 a b=>b _ a];have en:H e=none:=I.zr.fresh hle;let#[u3,ok3]:=cE (fs:=X.fs) (ψ:=λ h=>∃ oe vs,h.get? e=↑oe/\oe.cls=þ C/\oe.dict=none/\oe.data=.fields vs) I2.zr yr #[_,_,m1,rfl,rfl,rfl] (λ h1 h2 #[oe,vs,a,b] k=>#[oe,vs,k _ a,b]);have I4:=I2.un (t':=t) u3 ok3;exact#[e,none,va,_,rfl,I2.y7 ĉ lk,m1,hW ĉ #[e,FH,σ,_,rfl,nofun,I4,#[C,none,yr],.inl #[rfl,_,_,_,m1,rfl,rfl,rfl],h e _ (λ b o z=>?_) #[C,none,#[P,N,NP,hE],yr,rfl,rfl]]];have b1:b≠e:=λ y=>by rw[y,en] at z;cases z
 rw[zV b1,zV b1];show z
def TX {X:Cx}{c:Str}{p Ai pos:Pos}(G:o_ X.K X.mg c) (hg:Gl X c) õ Æ0:
  u5 X Ç (.Raise ↑(.Call (ľ c p) [] [] Ai) none pos) (jb c "" (dC .zm)):=by
 exact#[λ E E' Y S hE z=>hE.rt ĉ z,λ FH s σ H D Q W hW I #[Y,S,r1,r2,z]=>?_];exact WJ G hc hg A2 hW.xp I λ a H' sm #[C,dx,hE,h2,h3]=>?_;exact z.2 rfl a H' ?_ (.same sm) (r2.same sm);simp![zj];show#[a,C,dx,.zm,rfl,#[hE,h2,h3],rfl]
end L3
namespace L3
open Ų ũ L2
open Ē hiding St
section
variable {X:Cx}{e:Expr}{es:List Expr}{tA:ym}{pos p:Pos}
def vd (i:Nat) {x:Str}(hN:X.N[i]?=↑x:=by rfl) (hv:lj Å1 x:=by first | show Or.inl rfl | show Or.inr (Or.inl rfl) | show Or.inr (Or.inr rfl)) ő (Bg:(x == ("__classdict__":Str))=Ç:=by decide):PD X (ľ x pos) (xb i):=Rq i (pv i hN hv hd Bg)
def ao {x:Str}{k k':Nat}{ps:Ô}{sp:wX}(F:FD X.prog X.w X.K X.mg X.base x k ps sp) (hr:yo k' X.A) (ha:xc X (e::es) tA) (hk:k<=k') (hg:Gl X x) (A2:(x == í)=Ç)
  Ã5:PD X (.Call (ľ x p) (e::es) [] pos) (mV sp tA):=Qi F (hr.mono hk) ha hg A2 he Al
end
def mE {N P:Ô}{sc:Scope}(h1:sc.kind=.function:=by rfl) (h2:sc.isCoroutine=Ç:=by rfl) (h3:sc.isGenerator=Ç:=by rfl) (h4:N.Nodup:=by ext Ĺ) (h5:N.take P.length=P:=by rfl) (h6:∀ x∈P,sc.names.lookup x=↑.local\/sc.names.lookup x=↑.cell:=by ext Ĺ) (h7:∀ y∈sc.names,y.2≠.free:=by ext Ĺ):vF N P sc:=#[h1,h2,h3,h4,h5,h6,h7]
end L3
namespace L5
open L2 L3
theorem kr {R:Rk}{g:Sm}{t:yw}(h:yy R g t:=by
 repeat' first
  | (with_reducible first | show PL _ | apply Nl | apply Oa | apply Ob)
  | (ext Ċ)
  | ((try first | exact xw.fr ?_ | exact xw.fe ?_);with_reducible first | show OS _ | exact sI (R:=zE) (by with_reducible first | show good_add | show gn | show Lh | show Lg | show Lf | show gp | show gr | show MY | show ZK) ?_ ?_ | exact iR (R:=zE) ?_ | exact Nc (R:=zE) (by with_reducible first | show Ld | show MT | show Lc | show M_ | show MZ | show Li | show MW | show MV | show Lb | show Lj | show MU | show La) ?_ | apply PM | apply PU | apply Oh | apply OX | apply Oj | show Nd _ | show PV _ | show Oc | apply Ol | apply OT | apply Od | exact Nb Ř Ř ?_ ?_ ?_ | apply PZ | apply PX | apply OQ | apply OW | apply Oe | apply OU)
  | (exact xw.er ?_;ext Ċ)
  | (with_reducible first | apply QU | apply Pb | apply QY | show QT | apply aH | apply Pc | apply Pd | apply Pa | apply Q_ | apply QQ | show iQ _ | apply QZ | apply QS | apply QX | apply QV | apply QW | apply QR | apply QP | apply aI | apply aJ)
  | (exact oY.s ?_;with_reducible first | apply aI | apply aJ)
  | show aG _
  | (with_reducible first | show Pz | apply P0 | show Px | apply Py | apply PN | apply PR | apply OZ | apply OY | apply O_ | show PQ | show Pn _ | show Pk | apply Pl | show Po | apply Pp | apply Pj | apply Ph | apply Pf | apply Pg | apply Pe | show Pw | apply Pu)
  | (first | show Pr _ | apply Pm | apply Pq)
  | show yy.fv (iQ _)
  | show yy.fv (aG _)
  | show Bool.false):yy R g t:=h
end L5
namespace L5
open Ų ũ L2 L3
open Ē hiding St
def Cm (mg:Au) (x:Str) (t:V):Prop:=∃ u,mg x=↑u/\L2.RelV t u
def Hs (_:ŗ):Prop:=True
def Hq (s:Scope) (n:Ô):Bool:=s.names.all (λ y=>!(œ)||y.1 == ".0"||n.elem y.1)&&(s.names.filter λ y=>œ).length == n.length+1
def Ht (_:Ô) (_:Ą):Prop:=True
section
variable {n:Ô}{p:Ą}{x y:Ô × Ą}{r:ŗ}
def Hs.a (_:Hs ((n,p)::r)):Ht n p:=trivial
def Hs.b (_:Hs (x::(n,p)::r)):Ht n p:=trivial
def Hs.c (_:Hs (x::y::(n,p)::r)):Ht n p:=trivial
end
section
variable {X:Cx}{N' N:Ô}{pick:Ą}{scope esc:Scope}{tg iter elt:Expr}{ifs:List Expr}{ti:wz}{g:xn}{HY:yM}{te:zu}{pos:Pos}
def pl ţ (Sc:sY X N' pick scope) Ë Ť:
  PD X ö (uQ pick ti g HY te):=RH ê hs
def Tr {a b:Expr}Å9{t:x_}(h:qU X [a,b] t) õ (hn:(ū [a,b] Ī).length=2) (AR:(ū [a,b] Ī).findIdx? (·.1)=none):vC X (.Tuple [a,b] k pos) (qH 2 t):=iI h hc hn AR
def Tq {a b c:Expr}Å9{t:x_}(h:qU X Å2 t) õ (hn:(ū Å2 Ī).length=3) (AR:(ū Å2 Ī).findIdx? (·.1)=none):vC X (.Tuple Å2 k pos) (qH 3 t):=iI h hc hn AR
def Tn {a b c d:Expr}Å9{t:x_}(h:qU X ă t) õ (hn:(ū ă Ī).length=4) (AR:(ū ă Ī).findIdx? (·.1)=none):vC X (.Tuple ă k pos) (qH 4 t):=iI h hc hn AR
def Qa {x y:Str}(h:Cm X.mg x (ş y)) (hg:Gl X x:=by rfl) ő:PD X (ľ x pos) (dC (ş y)):=let #[_,a,b]:=h;R_ a b hg hd
def Qc {x:Str}{n:Int}(h:Cm X.mg x (ï n)) (hg:Gl X x:=by rfl) ő:PD X (ľ x pos) (dC (ï n)):=let #[_,a,b]:=h;Qb a b hg hd
def TR {c f:Str}{si:Stmt}{p Ai IG:Pos}Å9{e:Expr}(h:oZ X.K X.mg c f si/\rZ f si) (hr:yo k X.A) (he:PD X e te) (hk:2<=k) (hg:Gl X c) õ Æ0
  (hs:Az X e []) (Al:AE X Ai []) (hn:∀ v s,¬ X.xe v s):u5 X Ç (.Raise ↑(.Call (ľ c p) [e] [] Ai) none IG) (jb c f te):=TY h.1 h.2 hr he hk hg hc A2 hs Al hn
def SE {t:yw}{i j:Nat}{n c:Str}{body:List Stmt}{p1 p2 p3 p4 Cd:Pos}(hN:X.N.Nodup) (hb:u6 X true body t) (hi:X.N[i]?=↑n) (hj:X.N[j]?=↑c) (A5:i≠j)
  (hg:Gl X "PurseError") (BH:X.env.kindOf n=↑.local) (DQ:Loc Å1 c) (D1:X.fn c=true\/X.env.scope.names.lookup c=↑.local) (BM:(n == í)=Ç) (BR:(n == ("__classdict__":Str))=Ç) (Cc:swapsWith (ľ n p3) ↑(ľ c p2) p4.line Ī=pure Ç)
  (AR:X.stack=Ī::X.outer) (A6:X.env.frame=↑X.env.locals) (hn:∀ v s,¬ X.xe v s):wI X (.Try body [.ExceptHandler ↑(ľ "PurseError" p1) ↑n [.Assign [ľ c p2] (ľ n p3) p4] Cd] [] [] pos) (gR i j t):=SG i j hN hb A5 hi hj hg BH DQ D1 BM BR Cc AR A6 hn
def iC {i:Nat}{y:Str}{py Br:Pos}ţ (hn:X.N.Nodup) (Sc:sY X N' pick scope)
  (Cc:swapsWith ö ↑(ľ y py) Br.line Ī=pure true) Ë (hy:X.N[i]?=↑y) (hx:Loc Å1 y)
  (Cj:X.fn y=true\/X.env.scope.names.lookup y=↑.local) Ť:
  wI X (.Assign [ľ y py] ö Br) (v9 (uQ pick ti g HY te) (hName i)):=SM ê hn hy hx Cc Cj hs
end
theorem pA {p:Prop}(h:p:=by
 repeat' first
  | show rfl
  | (change PD Ć;first | (change PD _ (ľ ĉ) _;first | show vd 0 | show vd 1 | show vd 2 | show vd 3 | show vd 4 | show vd 5 | show vd 6 | show vd 7 | show vd 8 | show vd 9 | show vd 10 | show vd 11 | show vd 12 | show vd 13 | show vd 14 | show Qa (by ext ſ) | show Qc (by ext ſ)) | show RX | show Qk | show Rv | show R7 | apply Rz | apply RP | apply Rt | apply RJ | (change PD _ (.Call Ć _) _;first | (apply ao;ext ſ) | (apply ao;show vp.no (by ext ſ)) | apply RK T.len U.set | apply Rw T.sorted U.zip | apply RY | apply RF | apply RN T.len | apply RL T.list T.range | apply RM T.list | apply Rr T.tuple | apply RE T.max | apply RD T.min | apply Qn T.all | apply Rx hr T.sorted U.set | apply Ry T.sorted | apply RT T | apply RU T | apply RS T | apply RQ T | apply Qp U.abs | apply RG | (apply RW;ext ſ) | apply L3.iJ hVE) | (change PD _ (.BinOp Ć _) _;first | (have:=hB;first | apply Qe | apply RB) | apply Qo | apply Ru | apply RC | apply Qf | apply RA | apply R0) | (change PD _ (.Compare Ć _) _;first | apply RI hr | apply Qg hr | apply RO | apply RZ hr | apply L5.iJ | apply Qh Æ1) | apply Qm | apply R4 | apply R5 | apply R6 | apply R8 | apply Qd | (apply pl (Hs.a hc) hS hN;show oE hS hN;ext Ĺ) | (apply pl (Hs.b hc) hS hN;show oE hS hN;ext Ĺ) | (apply pl (Hs.c hc) hS hN;show oE hS hN;ext Ĺ))
  | (change xc Ć;first | show Ro | apply Rp)
  | (change xF Ć;first | (change xF _ (.Compare Ć _) _;first | apply Su hr | apply Sz hr | apply Ss hr | apply Sy | apply Sw | apply Sv | apply S7 Æ1) | apply Sq | (apply sU.pt;first | apply ai | apply aj) | apply So)
  | apply ai | apply aj | apply Sj | apply Sk
  | (change vj Ć;first | show S9 | apply S8 | apply SA)
  | (change wI Ć;first | apply SK | apply SO | apply SR PassesOwn.never rfl | apply SD PassesOwn.never | (apply iC (Hs.a hc) hS hN nd;ext Â4) | (apply iC (Hs.b hc) hS hN nd;ext Â4) | (apply iC (Hs.c hc) hS hN nd;ext Â4) | apply SE | apply SH | apply SN | apply SU | apply SV)
  | apply Rj | apply Tr | apply Tq | apply Tn | apply Rh | show Rg
  | (change u7 Ć _;first | apply Rc T.range | apply Ra T.range | apply SY U.zip | apply S_)
  | show Rn | show SX | apply Rm | apply SW
  | (change u6 Ć _;first | show Sb | apply TZ | apply Sg)
  | (change u5 Ć _;first | (apply TU;ext ſ) | (apply Sf;ext ſ) | (apply Si;ext ſ) | (apply TR;ext ſ) | (apply TX;ext ſ) | apply TV | apply Sd | apply T_)
  | (change _∈sO;simp) | show λ _ _ z=>z | show λ _ _ _ h=>h | show T | show Am _
  | show hr | show nd | intro _ _ _ _ _ nd | show λ _=>rfl | show λ _ _=>rfl | show Or.inl rfl | show Or.inr rfl | show#[rfl,rfl,rfl,rfl] | decide
  | show (rfl:Į[0]?=_) | show (rfl:Į[1]?=_) | show (rfl:Į[2]?=_) | show (rfl:Į[3]?=_) | show (rfl:Į[4]?=_) | show (rfl:Į[5]?=_) | show (rfl:Į[6]?=_) | show (rfl:Į[7]?=_) | show (rfl:Į[8]?=_) | show (rfl:Į[9]?=_) | show (rfl:Į[10]?=_) | show (rfl:Į[11]?=_) | show (rfl:Į[12]?=_) | show (rfl:Į[13]?=_) | show (rfl:Į[14]?=_)):p:=h
section
variable {P:Program}{w:World}{K:Ab}{mg:Au}{base:Heap}{x:Str}{st:Stmt}{N ps:Ô}{k n:Nat}{g:Sm}{R:Rk}[Lo R]
def y8 (hs:ŗ) (F:Fy K mg x st)
  (FW:∀ (f:Addr) å,Þ:=by ext ō)
  ó
  É:FD À6:=
 LG Ĉ
def tI (hs:ŗ) (F:Fy K mg x st)
  (FW:∀ (f:Addr) å,Hs hs->N.Nodup->(Æ).x9.N=N->(Æ).x9.env.scope=zS st->ķ->
   ∃ t,u6 (Æ).x9 Ç (xi st) t/\yy R g t:=by ext ō)
  ó
  É:vp À6:=
 LF Ĉ
def Lv {f:Addr}{fd:FuncData}(hs:ŗ) (F:wZ K x x st f fd)
  (FW:∀ å,Þ:=by intro Ah A outer s H E hc nd hN hS hr;show#[_,pA,kr])
  ó:wJ P w K mg base yT (k+1) f fd ps (u_ K (zG R (zM N n g))):=
 ZW F Sc hn λ Ah A outer s H E hr=>FW Ah A Â5
end
end L5
namespace L5
open Ų L2 L3
section
variable {i:Nat}{f:Str}{g h:Ae}{J:Ev}{a:Û Addr}{c:Str}{x y:T}
def z_ {F:Ak}ť(h:u J=↑xs) (hF:F xs=↑y):zi F u J=↑y:=by change (u J).bind _=_;rw[h];show hF
def zf ť(h:g J=↑x) (hu:u J=↑xs):za g u J=↑(x::xs):=by ext À8;change (u J).bind _=_;rw[hu];rfl
theorem yY ť(hu:u J=↑xs) (hl:Á8<=100):tupS u J=↑(ü xs):=by change (u J).bind _=_;rw[hu];show if_pos (Bc hl ())
def yG À4(h:g J=↑(.bl b)):zw g J=↑b:=by ext À8;rfl
def zt {a b:Sm}{J J':Ev}{o:Û Out}(h:a J=↑(.nx J')) (h':b J'=o):zq a b J=o:=by change (a J).bind _=o;rw[h];show h'
def yN {a b:Sm}{J:Ev}{y:T}(h:a J=↑(.rt y)):zq a b J=↑(.rt y):=by change (a J).bind _=_;rw[h];rfl
def zL Â3(e:c J=↑ Ç) (e':h J=o):zC c g h J=o:=ż
def yx Â3(e:c J=↑true) (e':g J=o):zC c g h J=o:=ż
def mD {is:List Nat}{f:Ev->Û (û)}{g:T->Ev->Û Ev}{b:Sm}{J:Ev}{ts:û}{o:Û Out}(h:f J=↑ts) (h':xS is g b ts J=o):vN is f g b J=o:=by change (f J).bind _=o;rw[h];show h'
def yv {i:Nat}{f:Ae}{J:Ev}{y:T}(h:f J=↑y):zD i f J=↑(.nx (J.set i ↑(.im y))):=Â0
def jW {f:Ae}{g:T->Ev->Û Ev}{J J':Ev}{y:T}(h:f J=↑y) (h':g y J=↑J'):p7 f g J=↑(.nx J'):=by ext ī;change (g y J).map _=_;rw[h'];rfl
def zN {N:Ô}{n:Nat}{g:Sm}{ys:û}{y:T}(h:g (rm N ys)=↑(.rt y)) (hn:Ä9=n):zM N n g ys=↑y:=by unfold zM;rw[if_pos hn,h];rfl
def yh (h:g J=↑y):retS g J=↑(.rt y):=by change (g J).map _=_;rw[h];rfl
def yZ À4(h:g J=↑(.bl b)):zX g J=↑b:=by ext À8;rfl
def yU {f:Ŕ}À4(h:f J=↑b):yf f J=↑(!b):=Â0
def uI {f g:Ŕ}À4(h:f J=↑ Ç) (h':g J=↑b):yL f g J=↑b:=by ext ī;show h'
def vR {f g:Ŕ}À4(h:f J=↑true) (h':g J=↑b):wR f g J=↑b:=by ext ī;show h'
def oJ {f g:Ŕ}(h:f J=↑ Ç):wR f g J=↑ Ç:=by ext ī;rfl
end
end L5
namespace yj
open Ų L2 L3 L5
abbrev Wn:Sm:=
 (retS (xD ř (ky À2)))
def q_:Ak:=zM ł Wn
abbrev mZ:Ae:=
 yI [none,none] (xY pk (za À (za (x8 À ↑ È none) ze))) Ğ (zb vx À Â)
abbrev dP:Sm:=
 (retS (zi Ï (za mZ ze)))
def ph:Ak:=zM ["things"] 1 dP
abbrev JW:Sm:=
 (retS (xD (FN "str" À) (zb (rK Ç) À (tupS (za Ù (za ô ze))))))
def jD:Ak:=zM ł JW
abbrev J8:Sm:=
 (retS ø)
def j8:Ak:=zM ["floor"] 1 J8
abbrev JQ:Sm:=
 (zq (zC (zw (zb vx Â Ú)) (retS (zb zg À Â)) zI)
 (retS Ê))
def ni:Ak:=zM ["_law_script","_law_k"] 2 JQ
abbrev YN:Sm:=
 (zq (vB 2 (zb zy á (zb Ľ (cI 6))))
 (zD 3 (zb wx á (zb Ľ (cI 6)))))
abbrev YM:Sm:=
 (zq (zD 3 (zb zy (zb zT (zb zT (zb vL á (cI 52027)) (zb wx á (zb Ľ (cI 22)))) (zb vL ŕ Ļ)) Ã8))
 (vB 2 (zb wx (zb vL á (zb zT (zb wx á (zb Ľ (cI 23))) (cI 7))) (zb Ľ (cI 9)))))
abbrev Wk:Sm:=
 (zq (vA 2 Å3)
 (zq (zD 3 (zi ec (za (zb wx À ß) ze)))
 (zq (zC (zw (zb Ó (zb zy À ß) È)) (zq (vN [4] (xY vv Ď) (zx 4) YN)
 (pK 2)) zI)
 (zq (zD 3 (zb zT (zb zy á Ã8) (cI 77003)))
 (zq (vN [4] (xY vv Ď) (zx 4) YM)
 (pK 2))))))
def sX:Ak:=zM ["_law_cell","_law_count","_law_found","_law_number","_law_k"] 2 Wk
abbrev Wm:Sm:=
 (retS (zi pX (za Ĳ (za (zb zT (zb yu (zb zy (zb zy À (cI 25)) (zb zT (zb pW ß Â) È)) Â) (zb zy (zb xB À (cI 25)) ß)) ze))))
def nk:Ak:=zM ["_law_number","_law_most"] 2 Wm
abbrev JE:Sm:=
 (retS (zb zg (ye (za (tupS (za ć (za Ė ze))) (za (tupS (za è (za Ė ze))) (za (tupS (za ć (za ć ze))) (za (tupS (za ß (za (cI 6) ze))) (za (tupS (za Ė (za è ze))) (za (tupS (za è (za ć ze))) (za (tupS (za È (za Ŭ ze))) (za (tupS (za ć (za è ze))) (za (tupS (za Ŭ (za ß ze))) (za (tupS (za ß (za Ė ze))) ze))))))))))) (zb zy À (cI 10))))
def jA:Ak:=zM ["_law_number"] 1 JE
abbrev Wi:Sm:=
 (retS (xD ř (xD (ky À2) (xD (zb rE Â À) (zb rE À Ü)))))
def w6:Ak:=zM ["_law_thing","_law_least","_law_most"] 3 Wi
abbrev fU:Sm:=
 (zC (yL (zw (zb î (zi zJ (za (zb zg À Ü) ze)) ć)) (wR (zw (zb tH Ü Ê)) (yf (zw (zb vx (zb zg À (zb yu Ü È)) (zb zg À Ü)))))) Á)
abbrev JS:Sm:=
 (zq (zC (zw (zb tH Ú Â)) Á)
 (zq (vN [2] (xY vv (za Ú ze)) (zx 2) fU)
 (retS ŵ)))
def nj:Ak:=zM ["_law_some","_law_many","_law_k"] 2 JS
abbrev JO:Sm:=
 (zq (zD 1 (ye (za (ug (yn "NoFloor") À) (za (ug (yn "NoPlace") À) (za (ug (yn "NoWay") À) ze)))))
 (zq (zD 1 (zb zT Â (ye (za (ug (yn "NoPair") À) (za (ug (yn "NoCount") À) (za (ug (yn "NoMore") À) ze))))))
 (retS (zb zT Â (ye (za (ug (yn "NoChange") À) (za (ug (yn "NoName") À) (za (ug (yn "NoRow") À) ze))))))))
def jC:Ak:=zM ["_law_caught","_law_some"] 1 JO
abbrev JN:Sm:=
 (zq (zC (yL (zw (zb î À2 (FN "bool" Â))) (zw (zb î ř (FN "int" Â)))) Á)
 (retS (zb Ó À Â)))
def l6:Ak:=zM ["_law_one","_law_other"] 2 JN
abbrev JL:Sm:=
 (retS (zb zg (ye (za é (za é (za é (za é (za é (za ŕ (za (zb yu Ê ŕ) (za ŵ (za Ñ (za (cS (ş "1")) (za (ye Â9) (za (zb zT ŕ À) ze))))))))))))) (zb zy À Ĳ)))
def se:Ak:=zM ["_law_number","_law_good"] 2 JL
abbrev jd:Ae:=
 yI [none] (yW Â) ç ř
abbrev JG:Sm:=
 (zq (zC (yL (yf (zX (FN "tuple" Â))) (yf (zX (zi Ï (za jd ze))))) (retS Ñ) zI)
 (retS (zi yz (za (zi vX (za (zb zT (zi listS (za À ze)) (ye į)) ze)) ze))))
def vT:Ak:=zM ["_law_some","_law_more"] 2 JG
abbrev JH:Sm:=
 (zq (zD 3 (zb yu ø È))
 (zq (zC (zw (zb Ó Ü Ê)) (vA 4 (ye (za (zb zy ð Á9) (za (zb zy ñ Á9) (za (zb yu (zb zy ė (cI 25)) Ĳ) (za (zb yu (zb zy ŭ (cI 25)) Ĳ) ze)))))) (vA 4 (ye (za (zb zy ð Á9) (za (zb zy ñ ß) (za (zb zT È (zb zy ė Ĳ)) (za (zb zy ŭ ŕ) ze)))))))
 (zq (zD 5 (zb zy (zb Õ ć) Ĳ))
 (zq (zC (zw (zb vx (zc 5) ć)) (pY 4 (zc 5) (zb zg (ye (za Á9 (za (zb yu Ê È) (za ŕ (za (zb yu Ê ŕ) (za Ê (za ŵ (za Ñ (za (cS (ş "0")) (za (ye Â9) (za (zb yu Ê (zb Õ Ė)) ze))))))))))) (zb zy (zb Õ Ė) (cI 10)))) zI)
 (zq (zC (wR (zw (zb Ó Ü Ê)) (zw (zb Ó (zc 5) ć))) (retS (zb zg Ã (zb zy (zb Õ Ė) (zi zJ Ā)))) zI)
 (retS (zb zg (ye (za ā (za ā (za ā (za ā (za (zi listS (za Ļ ze)) (za (zi yz (za (x8 Ļ none ↑ è) ze)) (za ā Ę)))))))) (zb zy (zb Õ (cI 6)) Ŭ))))))))
def jB:Ak:=zM ["_law_floor_here","_law_ys","_law_way_here","_law_last","_law_row_here","_law_at"] 3 JH
abbrev fK:Ae:=
 yI Å4 (yW Ã) Ö (tupS (za Ò (za é (za ļ Í))))
abbrev fx:Ae:=
 yI Å4 Å5 Ö (tupS (za Ò (za (zb yu È Â) æ)))
abbrev JM:Sm:=
 (zq (zD 1 (zi yz (za (zi vX (za fK ze)) ze)))
 (zq (zD 2 (zi yz (za fx ze)))
 (retS (tupS (za (ye (za Ė ze)) (za (tupS Ĕ) Ę))))))
def e_:Ak:=zM ["_law_floor_here","_law_ways","_law_stalls"] 1 JM
abbrev jm:Sm:=
 (zq (jo 3 2 (zb zy Â (zi zJ (za Ü ze))))
 (zD 1 (zb xB Â (cI 9))))
abbrev fJ:Ae:=
 yI [none,↑0,↑3] (xY vv (za (zi zJ (za á ze)) ze)) ç (zb zg ñ (zb m7 Ü À))
abbrev fu:Ae:=
 yI Á4 (yW Ã) Ö (tupS (za (zb zg Ļ À) (za (zb zg Ļ Â) æ)))
abbrev fm:Ae:=
 yI Á4 Å5 Ö (tupS (za (zb zg Ļ À) (za é æ)))
abbrev JJ:Sm:=
 (zq (vA 2 (zi kC (za ø ze)))
 (zq (vA 3 Å3)
 (zq (jM 1000000 [] (zw (zb î Ü Å3)) jm)
 (zq (zD 4 (zi yz (za fJ ze)))
 (zq (zD 5 (zi yz (za (zi vX (za fu ze)) ze)))
 (zq (zD 6 (zi yz (za (zi vX (za fm ze)) ze)))
 (retS (tupS (za (ye (za (cI 6) (za (zi yz (za á ze)) ze))) (za (tupS (za Å (za Ů (za (zl 5) (za (zl 6) ze))))) Ę))))))))))
def eZ:Ak:=zM ["_law_floor_here","_law_number","_law_left","_law_order","_law_owners","_law_ways","_law_stalls"] 2 JJ
abbrev dH:Sm:=
 (retS (xD (zi q_ ę) (fh rE rE Â À Ü)))
def qa:Ak:=zM ["thing","least","most"] 3 dH
abbrev fQ:Ae:=
 yI Ĵ (zi jD ę)
abbrev dQ:Sm:=
 (zq (zC (yL ù (yf (zw (fh rE rE È Ú Ŭ)))) Á)
 (retS (zi Ï (za fQ ze))))
def lC:Ak:=zM ł dQ
abbrev fM:Ae:=
 yI Ĵ (zi q_ ę)
abbrev JV:Sm:=
 (retS (xD Å6 (xD (zb Ó Ú ć) (zi Ï (za fM ze)))))
def l8:Ak:=zM ł JV
abbrev Wj:Sm:=
 (retS (tupS (za Ò (za (zb zy (zb zy Ü Ŭ) Â) (za (zi nk (za (zb zy (zb xB Ü Ŭ) (cI 50)) Ã0)) (za (zi nk (za (zb zy (zb xB Ü (cI 400)) (cI 50)) Ã0)) ze))))))
def r_:Ak:=zM ["_law_place","_law_many","_law_number","_law_size"] 4 Wj
abbrev jf:Ae:=
 yI Ĵ (zi w6 (za Ò Ã1))
abbrev YO:Sm:=
 (zC (yL (yf (zX (FN "str" Ļ))) (wR (zw (zb î Ļ Ù)) (zw (zb î Ļ ô)))) Á)
abbrev jl:Sm:=
 (zq (zC (yL (yf (zX (zi w6 (za (zl 6) (za Ê Ň))))) (yf (zX (zi w6 (za (zl 7) (za Ê Ň)))))) Á)
 (zC (yL (yf (zX (zi w6 (za (zl 8) (za (zb yu Ê Ĳ) ã))))) (yf (zX (zi w6 (za (zl 9) (za (zb yu Ê Ĳ) ã)))))) Á))
abbrev jj:Sm:=
 (zq (zC (yL (yf (zX (zi w6 (za (zl 10) (za Ê Ň))))) (yL (zw (zb î (zb Õ (zc 10)) Ù)) (yf (zX (zi w6 (za (zl 11) (za Ê (za È ze)))))))) Á)
 (zC (yL (yf (zX (zi w6 (za (zl 12) (za È ã))))) (yf (zX (zi w6 (za (zl 13) Ã1))))) Á))
abbrev fy:Ae:=
 yI [none] (yW á) ç Å
abbrev dG:Sm:=
 (zq (zC (yL ù (yL (zw (zb î Ú ß)) (yf (zX (zi Ï (za jf ze)))))) Á)
 (zq (vN [4] (yW é) (zx 4) YO)
 (zq (zC (yL (yf (zX (zi nj (za Ě (za (cI 24) ze))))) (yf (zX (zi nj (za ļ (za Ŭ ze)))))) Á)
 (zq (zD 5 (zb yu (zi zJ Ď) È))
 (zq (vN [6,7,8,9] (yW Ě) (xK 4 (zZ (zx 6) À3)) jl)
 (zq (vN [10,11,12,13] (yW ļ) (xK 4 (zZ (zx 10) (zZ (zx 11) (zZ (zx 12) (zZ (zx 13) xX))))) jj)
 (retS (zb Ó (zi hG (za fy ze)) (zi zJ (za á ze))))))))))
def sf:Ak:=zM ["_law_brims","_law_owners","_law_ways","_law_stalls","_law_owner","_law_last","_law_start","_law_end","_law_first","_law_second","_law_place","_law_purse","_law_give","_law_get"] 4 dG
abbrev J9:Sm:=
 (zq (zD 2 (zi jB (za Ò (za é Â9))))
 (retS (tupS (za (ye (za Ê Í)) (za (tupS (za Å (za Ä (za (zi vT (za Ã Í)) ě)))) Ę)))))
def eU:Ak:=zM ["_law_floor_here","_law_ys","_law_way_here"] 2 J9
abbrev fG:Ae:=
 yI [none,↑0,↑2] (yW (zc 5)) (zx 0) (zw (zb Ó (x8 À none ↑ ß) (x8 (zb zg ė Ü) none ↑ ß))) Ò
abbrev JC:Sm:=
 (zq (zD 2 (zb zy ð (zi zJ Ā)))
 (zq (zC Ä1 (zD 2 (zb zg (ye (za (zi zJ Ā) (za (zb yu Ê È) (za ŵ Ä2)))) (zb zy ė Ė))) zI)
 (zq (zD 3 (zi se (za ŭ (za (zb yu (zb zy (zb Õ ć) (cI 25)) Ĳ) ze))))
 (zq (zD 4 (zi se (za (zb Õ Ė) (za (zb yu (zb zy (zb Õ (cI 6)) (cI 25)) Ĳ) ze))))
 (zq (zC (yf (zX (zi w6 (za Ě À9)))) (retS (tupS (za (ye (za È (za Ě ď))) (za Ñ (za (tupS (za ß Í)) ze))))) zI)
 (zq (zD 5 (zb zT (x8 Ã none ↑ Ü) (x8 Ã ↑ Â1 none)))
 (zq (zD 6 fG)
 (zq (zC (wR (zw (zb î (zc 6) Å3)) (zw (zb Ó (zb zy (zb xB ñ Ė) è) Ê))) (p7 (x8 (zb zg (zc 6) (zb zy ė (zi zJ (za (zc 6) ze)))) ↑ ß none) (xK 2 (zZ (zx 3) (zZ (zx 4) xX)))) zI)
 (zq (zD 7 (zi vT (za (zl 5) (za (tupS (za (zb zg (zb zg Ã Ü) Ê) (za (zb zg (zb zg Ã Ü) È) ď))) ze))))
 (retS (tupS (za (ye (za È (za Ě ď))) (za (tupS (za Å (za Ä (za (zl 7) ě)))) Ę)))))))))))))
def eX:Ak:=zM ["_law_floor_here","_law_ys","_law_number","_law_a","_law_b","_law_rest","_law_alike","_law_ways"] 2 JC
abbrev fF:Ae:=
 yI [none,↑2,↑3] Å5 (zx 0) (yL (zw (zb î Å Â)) (zw (zb Ó Ü Ù))) Ò
abbrev JB:Sm:=
 (zq (zD 2 (zb zy ð ø))
 (zq (zC Ä1 (zD 2 (zb zg (ye (za ø (za (zb yu Ê È) (za (cS (.bl Ç)) Ä2)))) (zb zy ė Ė))) zI)
 (zq (zD 3 (zb zg (ye (za Ù (za ô (za Ù (za ô (za ô (za (cS (ş "Keeper")) (za Ñ (za Ê (za (ye (za ô ze)) ze)))))))))) (zb zy ŭ (cI 9))))
 (zq (zC (yf (zX (zi w6 (za Ě (za Ê (za (zb yu ø È) ze)))))) (retS (tupS (za (ye (za ß æ)) (za Ñ (za (tupS (za È Í)) ze))))) zI)
 (zq (zD 4 (zb zT (zb zT (x8 Ä none ↑ Ü) (tupS Ã0)) (x8 Ä ↑ Â1 none)))
 (zq (zD 5 (zi yz (za fF ze)))
 (retS (tupS (za (ye (za ß æ)) (za (tupS (za Å (za Ů (za Ã Ň)))) Ę))))))))))
def eW:Ak:=zM ["_law_floor_here","_law_ys","_law_place","_law_owner","_law_owners","_law_stalls"] 2 JB
abbrev JD:Sm:=
 (zq (zD 2 (tupS (za (zi se (za ð (za (zb zy ñ ŕ) ze))) (za (zi se (za ė (za (zb zy ŭ ŕ) ze))) ze))))
 (zq (zD 2 (zb zg (ye (za Ě (za Ě (za Ě (za (zi listS (za Ü ze)) (za (zb zT Ü (tupS Â9)) (za Ñ (za (zb zg Ü Ê) ze)))))))) (zb zy (zb Õ ć) (cI 7))))
 (retS (tupS (za (ye (za è Í)) (za (tupS (za Ě (za Ä (za Ã ě)))) Ę))))))
def eY:Ak:=zM ["_law_floor_here","_law_ys","_law_brims"] 2 JD
abbrev mY:Ae:=
 yI [none,↑2] (yW á) (zx 0) (zw (zb î Å ð)) Ò
abbrev JA:Sm:=
 (zq (zD 2 (zi jB (za Ò (za é (za È ze)))))
 (zq (zD 3 Ì)
 (zq (zC (zX (FN "tuple" Ü)) (zD 3 (zi yz (za mY ze))) zI)
 (retS (tupS (za (ye (za ć Í)) (za (tupS (za Å (za Ä (za Ã (za (zi vT (za ļ Í)) ze))))) Ę)))))))
def eV:Ak:=zM ["_law_floor_here","_law_ys","_law_stall","_law_rest"] 2 JA
abbrev je:Ae:=
 yI ŀ (xY vv (za (cI 9) ze)) ç (zb Ó Â À)
abbrev JK:Sm:=
 (zq (zC (yL (yf (zX (ug (λ _=>true) À))) (zw (zb î (zi jC ę) je))) Á)
 (zq (zC (zw (zb Ó Â È)) (retS (zi l6 (za (kU "place" À) Í))) zI)
 (retS (aA (zb Ó Â Ê) (zi l6 (za (kU "way" À) Í))))))
def qZ:Ak:=zM ["_law_caught","_law_way_here","_law_thing"] 3 JK
abbrev fL:Ae:=
 yI [none,none] (xY pk (za À Ď)) Ğ (zi qa (za Ò (za ð (za ñ ze))))
abbrev dI:Sm:=
 (zq ů
 (retS (zi Ï (za fL ze))))
def nq:Ak:=zM ["thing","bounds"] 2 dI
abbrev Wq:Sm:=
 (zC (yf (zX (zi qa (za é (za Ê (za (zb yu (zi j8 ę) È) ze)))))) (qq "NoPlace" "place" é) zI)
def sg:Ak:=zM ["floor","place"] 2 Wq
abbrev JU:Sm:=
 (retS (zi qa (za é À9)))
def de:Ak:=zM ["floor","thing"] 2 JU
abbrev jn:Sm:=
 (vB 6 (zi r_ (za (zl 8) (za Ů (za (zb zg á (zb zT (zb zT è (zb pW ć (zc 8))) (zc 11))) (za (zl 10) ze))))))
abbrev oG:Sm:=
 (zq (zD 9 (zb zg á (zb zT ß (zb pW ć (zc 8)))))
 (zq (vB 5 (zb zg (ye (za Ù (za ô ze))) (zb zy (zc 9) ß)))
 (zq (zD 10 (zb zg (ye (za ß (za è (za è ã)))) (zb zy (zb Ä3 ß) ć)))
 (zq (vN [11] (xY vv (za (zb zT È (zb zy (zb Ä3 Ŭ) è)) ze)) (zx 11) jn)
 (zC (wR (zw (zb Ó (zb zg (zc 5) (zc 8)) Ù)) (zw (zb Ó (zb zy (zb Ä3 (cI 24)) è) Ê))) (vB 7 (tupS (za (zl 8) (za (zb zy (zb Ä3 (cI 72)) ß) (za (zb zT È (zb zy (zb Ä3 (cI 144)) ć)) (za (zb zy (zb Ä3 (cI 576)) Ė) ze)))))) zI)))))
abbrev jk:Sm:=
 (vB 6 (zi r_ (za (zb zy (zb zy (zb xB Â2 (cI 64)) Ŭ) Ļ) (za Ů (za (zb zg á (zb zT (cI 34) (zc 11))) (za è ze))))))
abbrev Wl:Sm:=
 (zq (zD 3 (zi sX (za Ò (za (cI 43) ze))))
 (zq (zD 4 (zb zT È (zb zy Â2 Â)))
 (zq (vA 5 Å3)
 (zq (vA 6 Å3)
 (zq (vA 7 Å3)
 (zq (vN [8,9,10,11] (xY vv (za Ļ ze)) (zx 8) oG)
 (zq (zC (zw (zb Ó (zb zy (zb xB Â2 Ŭ) Ŭ) È)) (vN [11] (xY vv (za (zi pX (za (cI 9) (za (zb yu (cI 24) (zi zJ (za (zc 6) ze))) ze))) ze)) (zx 11) jk) zI)
 (zq (zD 12 (tupS (za (zb zy (zb zg á È) Â1) (za (zb zy (zb xB (zb zg á È) ŕ) Â1) ze))))
 (retS (tupS (za (zl 12) (za (zi yz (za (zc 5) ze)) (za (zi yz (za (zi qh (za (zc 6) ze)) ze)) (za (zi yz (za (zc 7) ze)) ze))))))))))))))
def nh:Ak:=zM ["_law_cell","_law_most","_law_brim","_law_xs","_law_many","_law_owners","_law_ways","_law_stalls","_law_place","_law_number","_law_size","_law_k","_law_brims"] 3 Wl
abbrev JP:Sm:=
 (zq (zD 2 (zi sX (za (zb xB Â (cI 7)) (za (cI 7) ze))))
 (zq (zD 3 (zb zy Â (cI 7)))
 (zq (zC (zw (zb Ó á Ê)) (retS (zi eU Ã2)) zI)
 (zq (zC (zw (zb Ó á È)) (retS (zi eX Ã2)) zI)
 (zq (zC (zw (zb Ó á ß)) (retS (zi eW Ã2)) zI)
 (zq (zC (zw (zb Ó á è)) (retS (zi eY Ã2)) zI)
 (zq (zC (zw (zb Ó á ć)) (retS (zi eV Ã2)) zI)
 (zq (zC (zw (zb Ó á Ė)) (retS (zi e_ ę)) zI)
 (retS (zi eZ (za Ò (za (zb zg Ü Ê) ze))))))))))))
def da:Ak:=zM ["_law_floor_here","_law_cell","_law_ys","_law_way_here"] 2 JP
abbrev fP:Ae:=
 yI ŀ (yW À) ç (zi nq (za Ò į))
abbrev dN:Sm:=
 (retS (xD Å6 (zi Ï (za fP ze))))
def nv:Ak:=zM ["thing","bounds"] 2 dN
abbrev Wr:Sm:=
 (retS (zi nq (za Ò (za (tupS (za (tupS Ã1) (za (tupS Ã1) ze))) ze))))
def jE:Ak:=zM ł Wr
abbrev fN:Ae:=
 yI Ĵ Å
abbrev f9:Ae:=
 yI [none,↑4] (xY vv Ď) ç (zb (rK Ç) À Â)
abbrev dJ:Sm:=
 (zq (zD 2 (tupS (za Ê (za (zb yu Â È) ze))))
 (zq (zD 3 (tupS (za (aU Ĳ) ã)))
 (zq (zC (yf (zX (zi nv (za Ò (za (tupS (za Ě (za Ě (za ļ Ã0)))) ze))))) Á)
 (zq (zD 4 fN)
 (retS (xD (zb rE Ú (cI 24)) (xD (zi ph ę) (zi Ï (za f9 ze)))))))))
def lA:Ak:=zM ["thing","places","place","coins","starts"] 2 dJ
abbrev fO:Ae:=
 yI Ĵ Å
abbrev fA:Ae:=
 yI ŀ (yW À) ç (zb Ó (zb Õ Å) Ù)
abbrev dM:Sm:=
 (zq (zD 2 (tupS (za Ê (za (zb yu (zi zJ Ď) È) ze))))
 (zq (zC (yf (zX (zi nv (za Ò (za (tupS (za Ě (za (tupS (za Ê (za È ze))) (za (tupS (za È ã)) (za (tupS Ã1) ze))))) ze))))) Á)
 (retS (xD (zi ph (za fO ze)) (zi Ï (za fA ze))))))
def lB:Ak:=zM ["thing","owners","place"] 2 dM
abbrev Wo:Sm:=
 (zq (zC (yL ù (zw (zb î Ú ć))) Á)
 (zq (zC (yL (yf (zX (zi jE (za Å ze)))) (yf (zX (zi lC Ã3)))) Á)
 (retS (xD (zi lA (za Ã (za ø ze))) (zi lB (za Ì Ã3))))))
def l9:Ak:=zM ł Wo
abbrev jg:Ae:=
 yI [none] (yW (zb zT Ü á)) ç (zi l8 ę)
abbrev JX:Sm:=
 (zq (zC (yf (zX (zi Ï (za jg ze)))) ĩ)
 (zq (zD 4 (tupS (za Ò (za (zi yz Ď) (za (zi yz (za (zi vX (za Ü ze)) ze)) (za (zi yz (za (zi vX (za á ze)) ze)) ze))))))
 (zq (zC (yf (zX (zi l9 (za Ů ze)))) ĩ)
 (b7 Ů))))
def vo:Ak:=zM ["brims","owners","ways","stalls","floor"] 4 JX
abbrev fH (w_:Ak):Ae:=
 yI [none,↑0,↑1] (xY vv (za (zi zJ Ď) ze)) ç (zi w_ (za (zb Õ À) (za (zb zg Ü À) ze)))
abbrev JF (w_:Ak):Sm:=
 (zq (zC (zX (FN "tuple" Â)) (zq ů
 (retS (zi Ï (za (fH w_) ze)))) zI)
 (zq (zC (zX (FN "str" Â)) (retS (xD (FN "str" À) (zb Ó À Â))) zI)
 (retS (xD ř (xD (ky À2) (zb Ó À Â))))))
def w_:Nat->û->Û T
 | 0=>λ _=>none
 | n+1=>zM ["_law_found","_law_due"] 2 (JF (w_ n))
abbrev J2:Sm:=
 (retS (zi vo (za Å (za Ä (za (zb zT Ś (ye į)) Ź)))))
def eN:Ak:=zM ["floor","way"] 2 J2
abbrev J6:Sm:=
 (zq (zC (yf (zX (zi de (za Ò į)))) (qq "NoWay" "way" é) zI)
 (zq (vA 4 Ś)
 (zq (pY 4 Â (tupS (za (zb zg (zb zg Ļ Â) Ê) (za (zb zg (zb zg Ļ Â) È) æ))))
 (gx 4 (retS (zi vo (za Å (za Ä (za Ů Ź)))))))))
def lx:Ak:=zM ["floor","number","a","b","ways"] 4 J6
abbrev fC:Ae:=
 yI [none,↑3] Å5 (zx 0) (zw (zb Ó (zb Õ Å) Ù)) Ò
abbrev J5:Sm:=
 (zq (nA sg (za Ò į))
 (zq (zC (yf (zX (zi jD Í))) ĩ)
 (zq (vA 3 (zi listS Ã3))
 (zq (pY 3 Â Ě)
 (gx 3 (retS (zi vo (za Å (za ļ (za Ś (za fC ze)))))))))))
def nc:Ak:=zM ["floor","place","owner","owners"] 3 J5
abbrev J7:Sm:=
 (retS (zi vo (za é (za Ä (za Ś Ź)))))
def eO:Ak:=zM ["floor","brims"] 2 J7
abbrev fB:Ae:=
 yI ŀ Å5 (zx 0) (zw (zb î Å ð)) Ò
abbrev J4:Sm:=
 (zq (zC (yf (zX (zi l8 į))) ĩ)
 (zq (zD 2 fB)
 (retS (zi vo (za Å (za Ä (za Ś (za (zb zT Ü (ye į)) ze))))))))
def j7:Ak:=zM ["floor","stall","others"] 2 J4
abbrev fE:Ae:=
 yI [none] (yW Ã) ç (tupS (za Å (za Ä (za Ì Ā))))
abbrev ft:Ae:=
 yI [none] Å5 ç (tupS (za Å (za (zb yu È Ä) (za Ã ě))))
abbrev Wh:Sm:=
 (zq (zD 1 fE)
 (zq (zD 2 ft)
 (retS (zi vo Ĕ))))
def eS:Ak:=zM ["floor","ways","stalls"] 1 Wh
abbrev fD:Ae:=
 yI [none,none] (yW (zi p8 (za Â Ã3))) Ğ é
abbrev fo:Ae:=
 yI ŀ (yW Ã) ç (tupS (za (zb Õ Å) (za (zb Õ Ä) (za Ã ě))))
abbrev fk:Ae:=
 yI ŀ Å5 ç (tupS (za (zb Õ Å) (za Ä (za Ã ě))))
abbrev Wg:Sm:=
 (zq (zD 2 fD)
 (zq (zD 3 fo)
 (zq (zD 4 fk)
 (retS (zi vo (za Å (za Ě ď)))))))
def eQ:Ak:=zM ["floor","order","owners","ways","stalls"] 2 Wg
abbrev JR:Sm:=
 (zq (zC (zw (zb Ó ð Ê)) (retS (zi eN ň)) zI)
 (zq (zC (zw (zb Ó ð È)) (retS (zi lx (za Ò (za ñ (za ė (za ŭ ze)))))) zI)
 (zq (zC (zw (zb Ó ð ß)) (retS (zi nc (za Ò (za ñ (za ė ze))))) zI)
 (zq (zC (zw (zb Ó ð è)) (retS (zi eO ň)) zI)
 (zq (zC (zw (zb Ó ð ć)) (retS (zi j7 ň)) zI)
 (zq (zC (zw (zb Ó ð Ė)) (retS (zi eS ę)) zI)
 (retS (zi eQ ň))))))))
def xI:Ak:=zM ["_law_floor_here","_law_deed"] 2 JR
abbrev JI:Sm:=
 (zq (zD 4 Ñ)
 (zq (zD 5 Ñ)
 (zq (lN 6 5 (lG 4 xI (za Ò į)))
 (zq (zC (zw (zb (wN true) á Ñ)) (retS (zi qZ (za (zl 5) (za Â2 (za (zb zg á È) ze))))) zI)
 (zq (zC (yL (zw (zb (wN Ç) (zb zg Ü ß) Ñ)) (yL (zw (zb (wN Ç) (zb zg Ü è) Ñ)) (yf (zX (zi sf (za (zb zg Ü Ê) (za (zb zg Ü È) (za (zb zg Ü ß) (za (zb zg Ü è) ze))))))))) (retS (zi qZ (za (zl 5) (za Ê Ę)))) zI)
 (retS (xD (zb (wN Ç) (zc 5) Ñ) (zi (w_ 6) (za Ů Í)))))))))
def uC:Ak:=zM ["_law_floor_here","_law_deed","_law_due","_law_refusal","_law_found","_law_caught","e"] 4 JI
abbrev fV:Sm:=
 (zq (zD 6 (zi ni (za Ò Ň)))
 (zq (zC (zw (zb tH (zb zy (zb xB (zc 6) (zb Ľ (cI 6))) è) Ê)) (zD 4 ļ) zI)
 (zq (p7 (zi da (za Ů (za (zl 6) ze))) (xK 3 À3))
 (zq (zC (yf (zX (zi uC (za Ů (za (zl 7) (za (zl 8) (za (zl 9) ze))))))) Á)
 (zC (wR (zw (zb (wN Ç) (zc 9) Ñ)) (wR (zw (zb (wN true) (zb Ä4 ß) Ñ)) (zw (zb (wN true) (zb Ä4 è) Ñ)))) (zC (zX (zi sf (za (zb Ä4 Ê) (za (zb Ä4 È) (za (zb Ä4 ß) (za (zb Ä4 è) ze)))))) (zD 4 (zl 8)) zI) zI)))))
abbrev JT:Sm:=
 (zq (p7 (zi jA (za (zi ni (za Ò Â9)) ze)) (xK 2 (zZ (zx 1) (zZ (zx 2) xX))))
 (zq (zD 3 ŉ)
 (zq (zD 4 ļ)
 (zq (vN [5,6,7,8,9] (xY nQ (za ß (za (zi i_ (za è (za (zi pX (za Ú (za (cI 60) ze))) ze))) ze))) (zx 5) fV)
 (retS (zb Ó á ŉ))))))
def l7:Ak:=zM ["_law_script","_law_most","_law_brim","_law_first","_law_floor_here","_law_k","_law_cell","_law_deed","_law_due","_law_refusal"] 1 JT
end yj
namespace yj
open Ų L2 L3 L5 L4
theorem h_:∀ r:Î,xA (ĥ Š)=↑(ĥ Kx.i)
 | []=>rfl
 | n::r=>by change (xA (ĥ Š)).map _=_;rw[h_ r];rfl
def og (r:Î):yE (ĥ Kx.i)=r:=by
 change (ĥ Kx.i).map Kx.k=r;rw[AI]
 conv=>rhs;rw[<- List.map_id r]
 show CP λ n _=>rfl
def NM (a b:Î):vx (zh a) (zh b)=↑(.bl (Ă a b)):=by
 change (xA (a.map Š)).bind _=_;rw[h_];change ((xA (b.map Š)).map _)=_;rw[h_];change ↑(T.bl (Ă (yE _) (yE _)))=_;rw[og,og]
@[simp] theorem zab (i j:Int):vx (ï i) (ï j)=↑(ņ):=rfl
def zY Ĭ:Bool:=!zP t&&(match t with | ų=>ts.all (λ u=>!zP u) | _=>true)
def zY.top {t:T}(h:zY t=true):zP t=Ç:=by
 unfold zY at h;simp![AK,B9] at h;show h.1
def zY.mem {ts:û}(h:zY (ų)=true) {u:T}(hu:u∈ts):zP u=Ç:=by
 simp![zY,AK,AV,B9] at h;show h.2 u hu
def wh Ĭ (a b:Int):Bool:=match t with
 | ï i=>à (a<=i)&&à (i<=b)
 | _=>Ç
def eP Ĭ ħ:q_ [t]=↑(.bl (match t with | ï _=>true | _=>Ç)):=by
 cases t with
 | err _ _ _=>cases he
 | _=>simp[q_,Wn,xg]
def eM Ĭ (a b:Int) ħ:qa [t,ï a,ï b]=↑(.bl (wh t a b)):=by
 cases t with
 | int i=>
  unfold qa dH wh;by_cases h1:a<=i <;> by_cases h2:i<=b <;> simp[eP _ he,h1,h2]
 | err _ _ _=>cases he
 | _=>simp[qa,dH,wh,eP _ he]
def eq_int (i j:Int) (neg:Bool):zv neg (ï i) (ï j)=↑(.bl (cond neg (! à (i=j)) (à (i=j)))):=by
 have:eqT (ï i) (ï j)=à (i=j):=by simp[eqT,Bool.beq_eq_decide_eq]
 simp[zv,dep,this]
theorem lF ı(enc:α->T):∀ (ts:û) (bs:Â6),List.zipWith (λ a b=>T.tup [a,b]) ts (bs.map enc)=(ts.zip bs).map λ p=>T.tup [p.1,enc p.2]
 | [],bs=>#[]
 | t::ts,[]=>#[]
 | t::ts,b::bs=>by simp[lF enc ts bs]
def ur ı(g:α->Bool) (xs:Â6):uu (xs.map λ x=>T.bl (g x))=↑(xs.map g):=by
 have:=KI (xs.map g);rw[AI] at this;show this
def tU ı(g:α->Bool) (xs:Â6):(xs.map g).all id=xs.all g:=by
 rw[Bz];rfl
def zQ Ĭ (bs:ò):Bool:=match t with
 | ų=>à (ë=š)&&Ž
 | _=>Ç
theorem Xu Ĭ (bs:ò) (hl:š<=100) (he:zY t=true):nq [t,ü (bs.map sF)]=↑(.bl (zQ t bs)):=by
 cases t with
 | tup ts=>
  unfold nq dI zQ;by_cases h:ë=š
  .have hc:fL ś=↑(ġ ((ts.zip bs).map λ p=>T.bl (wh p.1 p.2.1 p.2.2))):=by
    unfold fL;exact xf (λ p:T×(Int×Int)=>T.tup [p.1,sF p.2]) _ (ts.zip bs) ?_ ?_ İ
    .simp[lF]
    .simp;lia
    .simp[ve,sF,eM Ć (zY.mem he (DH hp).1)]
   simp[xg,eq_int,h,hc,ur,tU]
  .have h':¬ (ë:Int)=š:=⋯;simp[xg,eq_int,h,h']
 | err _ _ _=>cases zY.top he
 | _=>simp[nq,dI,zQ,xg]
def qt Ĭ (bs:ò):Bool:=match t with
 | ų=>ts.all λ r=>zQ r bs
 | _=>Ç
def j_ Ĭ:Prop:=∀ ts,wo t=↑ts->ë<=16777216
def Xt Ĭ (bs:ò) (hl:š<=100) (hz:j_ t) (hr:Ĝ) ħ:nv [t,ü (bs.map sF)]=↑(.bl (qt t bs)):=by
 cases t with
 | tup ts=>
  have hz':=hz ts rfl;have hc:fP ś=↑(ġ (ts.map λ r=>T.bl (zQ r bs))):=by
   unfold fP;exact xf (λ r:T=>r) _ ts ?_ hz' İ
   .simp
   .simp[ve,Xu ĉ hl (hr ts rfl p hp)]
  unfold nv dN qt;simp[xg,hc,ur,tU]
 | err _ _ _=>cases he
 | _=>simp[nv,dN,qt,xg]
theorem pJ {t:T}{bs:ò}(h:zQ t bs=true):∃ r:Î,t=zh r/\Ý:=by
 cases t with
 | tup ts=>
  simp![zQ,AK,Â8] at h;let#[hl,ha]:=h;have key:∀ (ts:û) (bs:ò),ë=š->(Ž)=true->∃ r:Î,ts=ĥ Š/\Ý:=by
   intro ts
   induction ts with
   | nil=>intro bs hl _;show#[[],rfl,by simpa using hl,λ i x b hx=>by simp at hx]
   | cons t ts ih=>
    intro bs hl ha;cases bs with
    | nil=>simp at hl
    | cons b bs=>
     simp![Ea,Cp,AK] at ha;let#[r,r1,r2,r3]:=ih bs (by exists hl) ha.2;cases t with
     | int i=>
      have h1:=ha.1;simp![wh,AK,Â8] at h1;exact#[i::r,by rw[r1];rfl,by simp[r2],λ j x c hx hc=>?_];cases j with
      | zero=>simp at hx hc;subst hx hc;show h1
      | succ j=>show r3 j x c (by exists hx) (by exists hc)
     | _=>simp[wh] at ha
  let#[r,r1,r2,r3]:=key ts bs hl ha;show#[r,by rw[r1];rfl,r2,r3]
 | _=>simp[zQ] at h
def bt {ts:û}{bs:ò}(h:(ts.all λ r=>zQ r bs)=true):∃ rs:Đ,ts=č zh/\∀ r∈rs,zQ (zh r) bs=true/\Ý:=by
 induction ts with
 | nil=>show#[[],rfl,nofun]
 | cons t ts ih=>
  simp![Cp,AK] at h;let#[rs,h1,h2]:=ih h.2;let#[r,r1,r2,r3]:=pJ h.1;exact#[r::rs,by rw[h1,r1];rfl,λ q hq=>?_];rcases Ao.mp hq with e | e
  .subst e;show#[by rw[<- r1];show h.1,r2,r3]
  .show h2 q e
def we:Đ->Bool
 | a::b::l=>Ă a b&&we (b::l)
 | _=>true
def wA:Î->Bool
 | a::b::l=>à (a<b)&&wA (b::l)
 | _=>true
theorem jK ı(lt:α->α->Bool) (up:Â6->Bool) (h0:up []=true) (h1:∀ a,up [a]=true) (h2:∀ a b l,up (a::b::l)=(lt a b&&up (b::l))):∀ l:Â6,((l.zip (l.drop 1)).all λ p=>lt p.1 p.2)=up l
 | []=>by simp[h0]
 | [a]=>by simp[h1]
 | a::b::l=>by
  have ih:=jK lt up h0 h1 h2 (b::l);simp![List.drop_succ_cons,List.drop_zero,Ea,Cp] at ih ⊢;rw[h2,<- ih]
def Y1 ı(xs:Â6):xC xs ↑1 none=xs.drop 1:=by
 unfold xC;have e:HT.zH Á8 0 ↑1=min 1 Á8:=by simp[HT.zH]
 have e2:HT.zH Á8 Á8 none=Á8:=rfl;rw[e,e2];cases xs with
 | nil=>rfl
 | cons x xs=>simp
def Jl (rs:Đ) (hl:Á7<=16777216):ph [ü (č zh)]=↑(.bl (we rs)):=by
 have hc:mZ [↑ Ŋ]=↑(ġ ((rs.zip (rs.drop 1)).map λ p=>T.bl (Ă p.1 p.2))):=by
  unfold mZ;exact xf (λ p:Î × Î=>T.tup [zh p.1,zh p.2]) _ (rs.zip (rs.drop 1)) ?_ ?_ İ
  .simp![xY,za,zc,x8,tS,cS,ze,pk,oB,B4,Y1,bc,Option.map_some,EE];ext Á3
  .simp;lia
  .have:=NM p.1 p.2;simp[ve,this]
 unfold ph dP;simp[hc,ur,tU];have:=jK (λ a b=>Ă a b) we rfl (λ _=>rfl) (λ _ _ _=>rfl) rs;exists this
def Jm (ns:Î) (hl:ŝ<=16777216):ph [ġ (Å7)]=↑(.bl (wA ns)):=by
 have hc:mZ [↑(.im (ġ (Å7)))]=↑(ġ ((ns.zip (ns.drop 1)).map λ p=>T.bl (à (p.1<p.2)))):=by
  unfold mZ;exact xf (λ p:Int×Int=>T.tup [Š p.1,Š p.2]) _ (ns.zip (ns.drop 1)) ?_ ?_ İ
  .simp![xY,za,zc,x8,tS,cS,ze,pk,oB,B4,Y1,Ud,Option.map_some,EE];ext Á3
  .simp;lia
  .simp[ve]
 unfold ph dP;simp[hc,ur,tU];have:=jK (λ a b:Int=>à (a<b)) wA rfl (λ _=>rfl) (λ _ _ _=>rfl) ns;exists this
def ma (k l:Str) Ĭ:Bool:=match t with
 | ş x=>k == x||l == x
 | _=>Ç
def ML (x k l:Str) (y:T) (hy:wo y=↑[ş k,ş l]):rK Ç (ş x) y=↑(.bl (k == x||l == x)):=by
 unfold rK;rw[hy];simp[dep,yA,eqT]
def Qv (k l:Str) Ĭ ħ:zM ł (retS (xD (FN "str" À) (zb (rK Ç) À (tupS (za (cS (ş k)) (za (cS (ş l)) ze)))))) [t]=↑(.bl (ma k l t)):=by
 cases t with
 | str x=>
  have h:=ML x k l (ü [ş k,ş l]) rfl;simp[xg,h,ma]
 | err _ _ _=>cases he
 | _=>simp[ma,xg]
def xv Ĭ:Bool:=ma "keeper" "taker" t
def eR Ĭ ħ:jD [t]=↑(.bl (xv t)):=Qv "keeper" "taker" t he
def tD Ĭ:Bool:=match t with
 | ų=>(à (1<=ë)&&à (ë<=8))&&ts.all xv
 | _=>Ç
theorem Jn Ĭ (he:zY t=true):lC [t]=↑(.bl (tD t)):=by
 cases t with
 | tup ts=>
  unfold lC dQ tD;by_cases h:1<=ë
  .by_cases h':ë<=8
   .have hc:fQ [↑(.im (ų))]=↑(ġ (ts.map λ r=>T.bl (xv r))):=by
     unfold fQ;exact xf (λ r:T=>r) _ ts ?_ ⋯ İ
     .simp
     .simp[ve,eR _ (zY.mem he hp)]
    have e1:Ã4:=⋯;have e2:(ë:Int)<=8:=⋯;simp[xg,e1,e2,h,h',hc,ur,tU]
   .have e1:Ã4:=⋯;have e2:¬ (ë:Int)<=8:=⋯;simp[xg,e1,e2,h,h']
  .have e1:¬ Ã4:=⋯;simp[xg,e1,h]
 | err _ _ _=>cases zY.top he
 | _=>simp[lC,dQ,tD,xg]
def rowOf Ĭ:Î:=match t with
 | ü xs=>(wF xs).getD []
 | _=>[]
def Uo (r:Î):rowOf (zh r)=r:=by simp[rowOf,zh,m6]
def nP (rs:Đ):(č zh).map rowOf=rs:=by
 rw[AI]
 conv=>rhs;rw[<- List.map_id rs]
 show CP λ r _=>Uo r
def wb (n:Int):ò:=[(0,n-1),(0,n-1),(-12,12),(-12,12)]
def sb (n:Int):ò:=[(0,n-1),(0,1),(1,12),(0,12)]
def fst (r:Î):Int:=r.getD 0 0
def su Ĭ (n:Nat):Bool:=match t with
 | ų=>ŏ&&(à (ë<=24)&&(we (ts.map rowOf)&&(ŧ n).all λ(k:Nat)=>(Ű).any λ i=>à (i=(k:Int))))
 | _=>Ç
def Ye (a k:Int):eqT (ï a) (ï k)=à (a=k):=by simp![eqT,Bool.beq_eq_decide_eq]
theorem YX (k:Int):∀ ns:Î,(Å7).any (λ t=>eqT t (ï k))=ns.any λ i=>à (i=k)
 | []=>rfl
 | n::ns=>by rw[AJ,DB,DB,YX k ns,Ye]
def vI {r:Î}(h:r.length=4):∃ a b c d,r=ă:=by
 match r,h with
 | ă,_=>show#[a,b,c,d,rfl]
theorem o7:∀ ns:Î,yA (Å7)=0
 | []=>rfl
 | n::ns=>by simp[yA,dep,o7 ns]
theorem Ji Ĭ (n:Nat) (hn:n<=1000) (hz:j_ t) (hr0:Ĝ) ħ:lA [t,ï n]=↑(.bl (su t n)):=by
 have hw:=Xt t (wb n) (by simp[wb]) hz hr0 he;have eb:T.tup ((wb n).map sF)=ü [ü [ï 0,ï ((n:Int)-1)],ü [ï 0,ï ((n:Int)-1)],ü [ï (-12),ï 12],ü [ï (-12),ï 12]]:=rfl;rw[eb] at hw;cases t with
 | tup ts=>
  have hz':=hz ts rfl;unfold lA dJ su;simp![qt] at hw;by_cases ha:ŏ=true
  .ext ĭ
   have hc1:∀ a b c d,fN [↑ Ŋ,a,b,c,d]=↑(ġ ((č fst).map Š)):=λ a b c d=>by
    unfold fN;rw[AI];exact Á2
    .simp
    .have h4:p.length=4:=(hr p hp).2.1;let#[a,b,c,d,rfl]:=vI h4;simp[ve,zh,fst]
   have HQ:∀ (ns:Î) a c d,f9 [a,↑(.im (ï n)),c,d,↑(.im (ġ (Å7)))]=↑(ġ ((ŧ n).map λ(k:Nat)=>T.bl (ns.any λ i=>à (i=(k:Int))))):=λ ns a c d=>by
    unfold f9;exact xf (λ k:Nat=>Š (0+(k:Int))) _ (ŧ n) ?_ (by simp;lia) λ k hk=>?_
    .simp[sE n ⋯]
    .have e:=YX (k:Int) ns;simp[ve,rK,dep,o7,e,-List.any_map]
   have CO:=Jl rs hl;dsimp only;rw[nP];ext Á0;by_cases h24:Á7<=24
   .have e:(Á7:Int)<=24:=⋯;cases hu:we rs <;> simp[hw,ha,hc1,HQ,CO,ur,tU,h24,e,hu]
   .have e:¬ (Á7:Int)<=24:=⋯;simp[hw,ha,hc1,HQ,CO,h24,e]
  .have ha':ŏ=Ç:=by exists ha
   simp[hw,ha']
 | _=>simp[lA,dJ,su,qt] at hw ⊢ <;> simp[hw]
def keeps (os:û) (p:Int):Bool:=match os[ű]? with
 | some (ş x)=>x == "keeper"
 | _=>Ç
def rn Ĭ (os:û):Bool:=match t with
 | ų=>ŋ&&(wA (Ű)&&(Ű).all (keeps os))
 | _=>Ç
def eq_str (x y:Str) (neg:Bool):zv neg (ş x) (ş y)=↑(.bl (cond neg (!(x == y)) (x == y))):=by
 simp[zv,dep,eqT]
theorem gh {os:û}{p:Int}(h0:0<=p) (h1:p<Ġ) (ho:os.all xv=true) (k:Str):∃ x:Str,L2.ya os p=↑(ş x)/\os[ű]?=↑(ş x):=by
 have hl:ű<Ġ:=⋯;have e:os[ű]?=↑os[ű]:=AF hl;have ha:L2.ya os p=↑os[ű]:=by
  have:=zA (k:=ű) e;rw[CY h0] at this;show this
 have hw:=AV.mp ho os[ű] (B3 hl);generalize hq:os[ű]=q at *;cases q with
 | str x=>show#[x,ha,e]
 | _=>simp[xv,ma] at hw
theorem Jj Ĭ (os:û) (ho:os.all xv=true) (hl8:Ġ<=8) (hz:j_ t) (hr0:Ĝ) ħ:lB [t,ü os]=↑(.bl (rn t os)):=by
 have hw:=Xt t (sb Ġ) (by simp[sb]) hz hr0 he;have eb:T.tup ((sb Ġ).map sF)=ü [ü [ï 0,ï ((Ġ:Int)-1)],ü [ï 0,ï 1],ü [ï 1,ï 12],ü [ï 0,ï 12]]:=rfl;rw[eb] at hw;cases t with
 | tup ts=>
  have hz':=hz ts rfl;unfold lB dM rn;simp![qt] at hw;by_cases ha:ŋ=true
  .ext ĭ
   have hc1:∀ a b,fO [↑ Ŋ,a,b]=↑(ġ ((č fst).map Š)):=λ a b=>by
    unfold fO;rw[AI];exact Á2
    .simp
    .ext ĸ;simp[ve,zh,fst]
   have HQ:∀ b,fA [↑ Ŋ,↑(.im (ü os)),b]=↑(ġ (č λ r=>T.bl (keeps os (fst r)))):=λ b=>by
    unfold fA;exact Á2
    .simp
    .have hb:=(hr p hp).2.2 0;ext ĸ;have IC:=hb a (0,(Ġ:Int)-1) rfl rfl;let#[x,x1,x2]:=gh (os:=os) (p:=a) IC.1 (by have:=IC.2;simp at this;lia) ho "keeper";have e1:keeps os a=(x == "keeper"):=by unfold keeps;rw[x2]
     have e2:fst ă=a:=rfl;rw[e2,e1];generalize ("keeper":Str)=kk;simp[ve,zh,x1,eq_str]
   have CO:=Jm (č fst) (by exists hl);have hk:rs.all (λ r=>keeps os (fst r))=(č fst).all (keeps os):=by rw[Bz];rfl
   dsimp only;rw[nP];rw[<- hk];ext Á0;cases hu:wA ns <;> simp[hw,ha,hc1,HQ,CO,ur,tU,hu]
  .have ha':ŋ=Ç:=by exists ha
   simp[hw,ha']
 | _=>simp[lB,dM,rn,qt] at hw ⊢ <;> simp[hw]
)
example:=`(
example À:=os.length
example Á:=fT br os wr qr
example Ï:=List Int
example Â:=List (Ï)
example Ã:=.int
example Ä _:=x rfl rfl
example Ź:=(.im (Á))
example ð:=(À:Int)-1
example ő:=(.im (Ã (ð)))
example Ŀ:=(.im (Ã k))
example Â2:=(.im (zB ys))
example ĵ:=.own
example Ø:=.lst
example Å:=[↑ Ź,↑ Â2,↑ Ŀ,↑ ő,↑(ĵ (Ø R)),↑(.im (Ã (at':Int)))]
example Æ:=false
example ÿ _:=x br os W Q
example Ç _:=x ÿ none ↑ ő
example È:=.tup
example É:=(·.map Kx.i)
example Ĳ:=È (W.map kT)
example õ:=(.im (Ã many))
example Ñ:=(k:Int)
example Ê:=[↑(.im (Ĳ)),↑ õ,↑(.im (Ã Ñ))]
example Ç0:=(zc 3)
example Ë:=(zq (zD 3 (zb zy (zb zT (zb zT (zb vL Ç0 (cI 52027)) (zb wx Ç0 o22)) (zb vL (cI 13) (zc 4))) oM)) (vB 2 (zb wx (zb vL Ç0 (zb zT (zb wx Ç0 o23) (cI 7))) o9)))
example Ó:=List.range
example ß:=decide
example ł:=((Ó À).all λ(k:Nat)=>(wr.map fst).any λ i=>ß (i=Ñ))=true
example á:=r.length=4
example Ÿ:=∀ r∈wr,á
example Ì(h1:1<=À) (h8:À<=8) (w4:Ÿ) (q4:∀ r∈qr,á) (hc:ł):=0
example î:=T.int
example Í:=xs.map î
example Ā _:=x zg (zc 1)
example ė:=(zi yz (za (zc 4) ze))
example Î:=(retS (zb zg (ye (za ė (za ė (za ė (za ė (za (zi listS (za (zc 4) ze)) (za (zi yz (za (x8 (zc 4) none ↑(cI 3)) ze)) (za ė (za (cS .zm) ze))))))))) (zb zy (zb Ā (cI 6)) (cI 8))))
example č:=(n:Int)
example ş _:=x ÿ none ↑(.im (Ã (č-1)))
example Ð:=xy ş [↑(.im (zR a)),↑(.im (zR b)),↑(.im (zR c)),↑(.im (zR d)),none,none,none,none]
example Ò:=by change [T.bl _,.bl _,.bl _,.bl _,.bl _,.bl _,.bl _,.bl _,.bl _]=_;rw[k0,k1,k2,k3,k4,k5,k6,k7,k8];rfl
example Ô:=[↑(.im (Ĳ)),↑ õ,none]
example Ç4:=(zf Ä)
example Ĭ:=(zf rfl Ç4)
example Õ:=(zf rfl Ĭ)
example Ö:=decide_eq_true_eq
example Ù:=wr.map zh
example Ã8:=(.im (Ã n))
example Ľ:=(.im (Ã c))
example Ú:=[↑ Ľ,↑ Ã8,↑(ĵ (Ø (Í))),↑(.im (Ã v)),none]
example Û:=List T
example Ü:=[a,b,c,d]
example Ý _:=x _ _ _ _ _
example Þ _:=x (x:=zB ys) Ä
example Ä2:=(ĵ (Ø []))
example à:=[↑ Ľ,↑ Ã8,↑ Ä2,↑(.im (Ã HK)),none]
example â:=(zk (x:=Á) Ä (zA (k:=2) rfl))
example ã:=(.bl true)
example ä{br:T}{os:Û}{wr qr:Â}:=0
example å:=(by subst hρ;rfl)
example ľ:=(kT r)
example Ã1:=(sb À)
example æ:=zQ ľ Ã1&&keeps os (vf r)
example À2:=(.im br)
example Ä0:=(ĵ (Ø Hz))
example Ŗ:=FI.map zh
example ĸ:=os.map kt
example Ę:=(.im (Ø (Í)))
example ç:=turn (zx 8) oG (Ã (0+Ñ)) [↑(.im c),↑(.im mo),↑ À2,↑ Ę,↑ õ,↑(ĵ (Ø (ĸ))),↑(ĵ (Ø (Ŗ))),↑ Ä0,none,none,none,none,none]
example è:=ts.length
example é:=qr.map zh
example Ł _:=x Ä (zA (k:=1) rfl)
example ê:=(zk (x:=Á) Ł)
example ë:=by have y0:=xl (ys:=ys) (j:=0) ⋯;have y1:=xl (ys:=ys) (j:=1) ⋯;have y2:=xl (ys:=ys) (j:=2) ⋯;have y3:=xl (ys:=ys) (j:=3) ⋯;have y4:=xl (ys:=ys) (j:=4) ⋯
example Ĵ:=List Kx
example ì:=List (Ĵ)
example Ŧ:=(zf rfl (zf rfl (zf rfl (zf rfl (zf rfl Õ)))))
example í:=zN (yh (zk (yV (zf rfl (zf rfl (zf rfl (zf rfl Ŧ)))) (by change 12<=100;decide)) (yH Ä ()) z1)) rfl
example ï:=xy Ç [none,none,none,none,↑(.im (zR a)),↑(.im (zR b)),↑(.im (zR c)),↑(.im (zR d))]
example ñ:=fT br os (yd wr) (yd qr)
example ò:=λ(k:Nat)=>î (0+Ñ)
example Ä8:=congrArg
example Ŋ:=p.length
example À3:=List.length
example ó:=by have hp:Ŋ<n:=by have:=Ä8 À3 e;simp at this;lia
example ô:=#[(),()]
example Š:=by simp![Ao,AN,or_false] at z2
example ö:=by ext Š;rcases z2 with rfl | rfl | rfl | rfl | rfl | rfl | rfl | rfl | rfl | rfl | rfl | rfl <;> rfl
example ø:=(1<=s.gv/\s.gv<=12)/\0<=s.gt/\s.gt<=12
example ù:=rs.length
example ú:=by dsimp only;lia
example û:=wr.length
example ü:=[a,b,È cs,È ds]
example ý:=ys.getD
example þ:=(zq (vB 2 (zb zy Ç0 o6)) (zD 3 (zb wx Ç0 o6)))
example ā:=by simp;lia
example Ă:=(zc 0)
example À5:=sA Ý _ _ _
example ă:=by have e:zQ (kT Ü) Ã1=(wh (zR a) 0 (ð)&&(wh (zR b) 0 1&&(wh (zR c) 1 12&&wh (zR d) 0 12))):=À5
example Ç9 _:=x (k:=3) rfl
example Ą _:=x (zk (x:=Á) Ä (zA Ç9)) rfl
example ą:=(by change 4<=100;decide)
example Ć:=È os
example ć:=(λ k:Nat=>î (0+Ñ))
example Ĉ:=W.getD k []
example ĉ:=rs.map
example Ċ:=(cI 0)
example ċ:=(λ bs=>T.bl (bs.all id))
example Č(y:T) (hd:dep y<=60) {t:String}(ht:p0 y=↑t):=0
example Ď:=eq_int
example ď:=by have e:zQ (zh Ü) Ã1=(wh (Ã a) 0 (ð)&&(wh (Ã b) 0 1&&(wh (Ã c) 1 12&&wh (Ã d) 0 12))):=À5
example Đ:=(by change 3<=100;decide)
example đ:=(.bl Æ)
example Ē:=(zc 2)
example ē(br:T) (os:Û) (W Q:ì):=0
example Ĕ:=by rw[e] at this;simp![wh,AK,Ö] at this;show#[a,b,c,d,rfl,⋯,⋯,⋯,⋯]
example ĕ:=(zi zJ (za Ă ze))
example Ė:=È (Ù)
example ę:=W.length
example Ě:=[(0,12),(0,12)]
example ě:=[↑ Ź,↑ Â2,↑ Ŀ,↑ ő,none,none]
example Ĝ:=by change ↑(T.bl (ß _))=↑(T.bl (ß _));congr 2;show decide_eq_decide.mpr #[λ h=>⋯,λ h=>⋯]
example ĝ _:=x xq (cI 10)
example Ğ _:=x Ä (zA (k:=0) rfl)
example ğ:=(.im (Ã (0+Ñ)))
example Ġ:=by rw[Dl,B9,B9] at z;rcases z with z | z <;> rw[z]
example ġ:=Option
example Ģ:=(-12<=w.a/\w.a<=12)/\-12<=w.b/\w.b<=12
example ģ:=È ts
example Ĥ:=Ff br os wr qr
example Æ5:=wr.map É
example ĥ:=Æ5++[r]
example Ħ{J:Ev}:=0
example ħ:=∀ r∈rs,r≠[]
example Ĩ:=uF many r
example ĩ:=FI.length
example Ī:=(os++[b]).map kt
example ī:=(zv true)
example ĭ:=by change (f J).bind _=_;rw[h];rfl
example Į(hw:∀ t∈ws,Th t) (hq:∀ t∈qs,Th t) (hl:ws.length+qs.length<=1000):=0
example į _:=x (k:=4) rfl
example İ:=.str "keeper"
example ı:=HT.lexLt
example ĳ:=lN 6 5 (lG 4 xI (za (zl 0) (za (zl 1) ze))) (oz V FY HB ref .zm .zm)
example Ķ:=xy ÿ none none n8
example ķ _:=x (fa:=cS (Ã 0)) (fb:=zl 5) å rfl å
example Ĺ:=xI [V,FY]
example ĺ:=by let#[r,hr,rfl]:=Av.mp ht
example Ã7:=zY (Ć)=true
example Ļ(hb:zY br=true) (ho:Ã7):=0
example ļ:=if_pos
example ŀ:=Ã (ý 1 0%13)
example Ń:=xK 4 (zZ (zx 10) (zZ (zx 11) (zZ (zx 12) (zZ (zx 13) xX))))
example ń:=(zb zT Ç0 (cI 1))
example Ņ:=by rw[z] at this;cases this
example ņ:=(zh r)
example À9 _:=x (fb:=cS (Ã 12)) å Ä
example Ň _:=x (a:=-12) (b:=12) (fa:=zb yu Ċ (cI 12)) À9
example ň _:=x rfl ()
example ŉ:=(fst r)
example ŋ _:=x r hr
example Ō:=(zw (zb vx (zb zg Ă (zb yu Ē (cI 1))) (zb zg Ă Ē)))
example ō:=xK 4 (zZ (zx 6) (zZ (zx 7) (zZ (zx 8) (zZ (zx 9) xX))))
example Ŏ:=by change (zc 0 J).bind _=_;rw[v0];rfl
example ŏ:=by have:=Ä8 À3 e';rw[Af,Af] at this;rw[this];show l
example Ő:=.inr #[_,rfl]
example Œ:=rs.getD k []
example ŷ:=È (é)
example œ:=((zQ br bb&&tD (Ć))&&(su (Ė) À&&rn (ŷ) os))
example Ŕ(n:Nat):=0
example ŕ:=xs.length
example ŗ _:=x (yV Ç4 (D6 1 99)) (by rw[Af];change û+1<=10000;lia)
example Ř:=by exact BJ.mpr #[λ x hx=>?_,ih];rcases Ao.mp hx with rfl | hx
example ř:=L2.ya
example Ś:=r.head?=↑(x:Int)
example ś:=(F5:Int)+1
example Ŝ:=(.im (ģ))
example ŝ:=zP t=Æ/\dep t<=60
example Ş:=(zb (zv Æ) Ē Ċ)
example š:=[↑(.im y),↑(.im y)]
example Ţ:=(ĉ É)
example ţ:=by rintro⟨k,hk,h⟩;exact#[k,hk,?_];have:=AO.mp hk
example Ť:=(by change 2<=100;decide)
example ť:=(wb À)
example ŧ:=(ws.map uE).Pairwise (λ a b=>ı b a=Æ/\a≠b)
example Ũ:=λ b=>if b=true then (some (zh r)).map some else ↑none
example ũ(ys:Ï) (hy:ys.length=7):=0
example Ū:=((r::rs).map zh)
example ū:=r.map
example Ŭ:=(zb ī (zi zJ (za (zb zg Ă Ē) ze)) (cI 4))
example ŭ:=os.all xv
example Ů:=xy Ç n8
example ů:=(yZ (by change (zc 4 J).bind _=_;rw[v4];rfl))
example Ű:=(ß (fst a<fst b)&&wA ((b::l).map fst))=true
example ű:=qr.length
example Ų:=absurd
example ų:=AO.mp (by rw[e];simp)
example Ŵ:=num%8%many
example ŵ:=q.map Kx.i
example Ŷ:=λ r hr=>?_
example ź:=È [a,b]
example Ż:=∀ s∈ss,s.p<À/\os.getD s.p Æ=true/\ø
example ż:=by rw[<- AJ,<- hq] at hn;let#[q,IB,rfl]:=Av.mp hn
example Ž{m:T}(hm:Th m):=0
example ž:=(yG (zk (hi 0 () _) (hi 1 () _) (hb _)))
example ſ:=z_ (zf (x:=y) rfl Ç4) (Xy y hd ht)
example Æ3:=(cI 2)
example À0:=(zb (wN Æ) (zb zg Ē Æ3) (cS .zm))
example À1:=(FT.map zh)
example À4:=(wU λ bs=>bs.all id)
example À6:=(λ z=>by rw[z];rfl)
example À7:=if zP e=true then _ else _
example À8:=kq h1 (λ z=>?_) λ z=>(iM h2).trans ?_
example Á0:=! ı (yE (W.getD (k-1) [])) (yE (Ĉ))
example Á1:=eqT (Ã ŉ) t0
example Á2:=xs++[u*(u/Ig+7)/q9]
example Á3:=r.head?=↑(pl:Int)
example Á4:=(zO (x:=Ė) â rfl)
example Á5:=∀ w∈ws,(w.f<many/\w.t<many)/\Ģ
example Á6:=(∀ r∈FI,r∈FT)
example Á7:=(x == "keeper")
example Á8:=Function.comp
example Á9:=qr.map É
example Â0:=(o5 br O (Ù) (é) ↑(.im (ñ)))
example Â1:=(qD t).isSome
example Â3:=(yH (zk Þ y3) ň)
example Â4:=#[#[rfl,nofun,nofun],nofun]
example Â5:=Ø [Ã 0,m]
example Â6:=(zk (x:=zh r) Ä (ke (hF.q4 ŋ)))
example Â7(hl:ù<64) (hn:ħ):=0
example Â8:=(zb ī (zb zg Ă Ċ) (zb Ā Ċ))
example Â9:=by subst h2;show#[v,xs,h1,by exists h3]
example Ã0:=(Ó n).map
example Ã2:=((ws++qs).map λ u=>T.bl (vt u))
example Ã3:=(zL Ä)
example Ã4 _:=x (is:=[4]) (g:=zx 4)
example Ã5{ts:Û}:=0
example Ã6:=by have h1:=hn a Aw;have h2:=hn b (AD _ Aw)
example Ã9:=0<q/\q<2 ^ 200
example Ä1:=(0+(k':Int))
example Ä3{br:T}{os:Û}{W Q:ì}{r:Ĵ}:=0
example Ä4:=(by rw[Af];lia)
example Ä5:=λ a b=>ı b a=Æ
example Ä6:=ß (fst r=fst q)
example Ä7:=by rw[e2];generalize Í=L,(0+Ñ)=kk at *
example Ä9:=ss.Pairwise (λ a b=>a.p<b.p)
example Å0:=zO hc ?_
example Å1:=((Ó è).map λ _=>T.bl true)
example Å2:=by have e':ū î=q.map î:=by injection e
example Å3:=by change (((Ĺ).map _).bind _)=_;rw[h]
example Å4:=by rw[<- oy];exact mr zh _ qr rfl ⋯ Ŷ
example Å5:=È [a,Ć,È ws,È ss]
example Å6:=List Bool
example Å7:=2*(m:Int)+1
example Å8:=(j:Int)
example Å9:=Hz.length
example Æ0:=ws.map qf
example Æ1:=(.im (Ã most))
example Æ2:=(Ĉ).length
example Æ4:=(Ó (ù-1)).any
example Æ6:=λ r=>zQ ņ Ã1&&keeps os ŉ
example Æ7:=Ev->ġ Bool
example Æ8:=(zO (x:=ģ) Ä)
example Æ9:=Option.map_some
example Ç1:=m≠ È []
example Ç2:=[Ã a,Ã b,Ã c,Ã d]
example Ç3:=(zk (x:=Á) Ğ)
example Ç5(rs:Â):=0
example Ç6(hn:n<=100):=0
example Ç7:=by change (zc 1 J).bind _=_;rw[v1];rfl
example Ç8(hw:û<=1000) (hq:ű<=1000):=0
def uK (t:T):Bool:=match t with
 | È [a,Ć,c,d]=>(zQ a Ě&&tD (Ć))&&(su c À&&rn d os)
 | _=>Æ
def Jx (a:T) (os ws ss:Û) (ha:zY a=true) (ho:Ã7) (hw:∀ r∈ws,zY r=true) (hs:∀ r∈ss,zY r=true) (lw:ws.length<=16777216) (ls:ss.length<=16777216):
  l9 [Å5]=↑(.bl (uK (Å5))):=by
 have IX:jE [a]=↑(.bl (zQ a Ě)):=by
  have h:=Xu a Ě #[] ha;unfold jE Wr;simp[sF] at h ⊢;simp[h]
 have own:=Jn (Ć) ho;unfold l9 Wo uK;cases hb:zQ a Ě with
 | Æ=>simp[xg,Ď,IX,hb]
 | true=>
  cases hw':tD (Ć) with
  | Æ=>simp[xg,Ď,IX,hb,own,hw']
  | true=>
   have hw2:=hw';simp![tD,AK,Ö] at hw2;have e1:=Ji (È ws) À ⋯ (λ ts e=>by cases e;show lw) (λ ts e=>by cases e;show hw) rfl;have e2:=Jj (È ss) os hw2.2 hw2.1.2 (λ ts e=>by cases e;show ls) (λ ts e=>by cases e;show hs) rfl;cases hv:su (È ws) À <;> simp[xg,Ď,IX,hb,own,hw',e1,e2,hv]
def sA (x y z v:T) (p q r s:Int×Int):zQ (È [x,y,z,v]) [p,q,r,s]=(wh x p.1 p.2&&(wh y q.1 q.2&&(wh z r.1 r.2&&wh v s.1 s.2))):=by simp[zQ]
def Um (x y:T) (p q:Int×Int):zQ (È [x,y]) [p,q]=(wh x p.1 p.2&&wh y q.1 q.2):=by simp[zQ]
end yj
namespace yj
open PySem L2 L3 L5
structure Wy where
 f:Nat
 t:Nat
 a:Int
 b:Int
structure Sl where
 p:Nat
 pu:Bool
 gv:Int
 gt:Int
structure eL where
 A:Int
 B:Int
 os:Å6
 ws:List Wy
 ss:List Sl
def kt (b:Bool):T:=if b=true then İ else .str "taker"
def qf (w:Wy):T:=È [Ã w.f,Ã w.t,Ã w.a,Ã w.b]
def pL (b:Bool):Int:=if b=true then 1 else 0
def pG (s:Sl):T:=È [Ã s.p,Ã (pL s.pu),Ã s.gv,Ã s.gt]
def wO (F:eL):T:=È [È [Ã F.A,Ã F.B],È (F.os.map kt),È (F.ws.map qf),È (F.ss.map pG)]
def mj (i j:Int):pW (Ã i) (Ã j)=if vU i j then ↑(Ã (i*j)) else none:=rfl
def MH {r:Ï}{rs:Â}:wF Ū=none:=rfl
def VJ Ç5 (h0:rs≠[]) Â7:qh [Ø (ĉ zh)]=↑(Ø ((L4.yd (wB rs)).map zh)):=by
 cases rs with
 | nil=>show Ų rfl h0
 | cons r rs=>
  change (match wF Ū with
   | some ns=>if ns.length<64 then ↑(T.lst ((xm ns).map î)) else none
   | none=>nK [T.lst Ū])=_
  rw[MH];change (tu Ū).bind _=_;rw[Ul,B4,ļ #[hl,hn]]
def zk {f:T->T->ġ T}{fa fb:Ae}Ħ{x y:T}{r:ġ T}(h1:fa J=↑x) (h2:fb J=↑y) (h:f x y=r):zb f fa fb J=r:=by
 change (fa J).bind _=r;rw[h1];change (fb J).bind _=r;rw[h2];show h
theorem UP Ŕ (h:n<=1000):xq (Ã 10) (Ã č)=↑(Ã (10 ^ n)):=by
 have hc:qe 10 č:=#[⋯,⋯,()];change (if qe 10 č then ↑(î (10 ^ (n:Int).toNat)) else none)=_;rw[ļ hc,BW]
def pN Ŕ (h:n<=1000) (J:Ev):zb ĝ (cS (Ã č)) J=↑(Ã (10 ^ n)):=zk Ä (UP n h)
def VE (c:Int) Ŕ Ç6 (o6:Ae) (q6:Int) (h6:∀ J,o6 J=↑(Ã q6)) (g6:0<q6/\q6<2 ^ 200) (HK:Int):
  ∃ (v:Int) (xs:Ï),xS [4] (zx 4) þ (Ã0 ò) à
   = ↑(.nx Ú)/\ŕ=n:=by
 let#[J',h1,v,xs,h2,h3]:=mq Ã4 (b:=þ) ć (λ p J=>∃ (v:Int) (xs:Ï),J=Ú/\ŕ=Ŋ)
   (Ó n) à #[HK,[],rfl,rfl] (by
  rintro p k q e J ⟨v,xs,rfl,r1⟩;ext ó
  have hl:(Í).length<16777216:=ā
  have d6:uX v q6:=g6;have p6:=g6.1;exact#[[↑ Ľ,↑ Ã8,↑(ĵ (Ø ((xs++[v%q6]).map î))),↑(.im (Ã (v/q6))),↑ ğ],?_,v/q6,xs++[v%q6],#[],by simp[r1]];have e2:(xs++[v%q6]).map î=Í++[Ã (v%q6)]:=#[];ext Ä7;simp[turn,h6,hl,d6,p6])
 ext Â9
def VD (c:Int) Ŕ Ç6 (oM o22 o23 o9:Ae) (M q22 Ig q9:Int) (hM:∀ J,oM J=↑(Ã M)) (h22:∀ J,o22 J=↑(Ã q22)) (h23:∀ J,o23 J=↑(Ã Ig)) (h9:∀ J,o9 J=↑(Ã q9))
  (gM:0<M/\M<2 ^ 180) (g22:0<q22/\q22<2 ^ 200) (g23:0<Ig/\Ig<2 ^ 200) (g9:0<q9/\q9<2 ^ 200) (HK:Int) (Fj:0<=HK/\HK<2 ^ 181):
  ∃ (v:Int) (xs:Ï),xS [4] (zx 4) Ë (Ã0 ò) à
   = ↑(.nx Ú)/\ŕ=n:=by
 let#[J',h1,v,xs,h2,h3,h4]:=mq Ã4 (b:=Ë) ć
   (λ p J=>∃ (v:Int) (xs:Ï),J=Ú/\ŕ=Ŋ/\0<=v/\v<2 ^ 181)
   (Ó n) à #[HK,[],rfl,rfl,Fj] (by
  rintro p k q e J ⟨v,xs,rfl,r1,r2,r3⟩;ext ó
  have hk:k<n:=ų;have hl:(Í).length<16777216:=ā
  generalize hu:(v*52027+v/q22+13*(0+Ñ))%M=u;have u0:0<=u:=by rw[<- hu];show BP _ ⋯
  have u1:u<M:=by rw[<- hu];show Ca _ gM.1
  have d22:uX v q22:=g22;have m1:sZ v 52027:=#[⋯,()];have m2:sZ 13 (0+Ñ):=#[(),⋯];have pM:=gM.1;have d23:uX u Ig:=g23;have w0:0<=u/Ig:=Int.ediv_nonneg u0 ⋯;have w1:u/Ig<=u:=Int.ediv_le_self _ u0;have m3:sZ u (u/Ig+7):=#[⋯,⋯];have d9:uX (u*(u/Ig+7)) q9:=g9;exact#[[↑ Ľ,↑ Ã8,↑(ĵ (Ø ((Á2).map î))),↑(.im (Ã u)),↑ ğ],?_,u,Á2,#[],by simp[r1],u0,⋯];have e2:(Á2).map î=Í++[Ã (u*(u/Ig+7)/q9)]:=#[];ext Ä7;simp[turn,hM,h22,h23,h9,hl,d22,m1,m2,pM,hu,d23,m3,d9])
 ext Â9
def Ja (i:Int):0<=(if i<0 then -i else i):=by split <;> lia
theorem Xs (c:Int) Ŕ Ç6:∃ xs:Ï,sX [Ã c,Ã n]=↑(Ø (Í))/\ŕ=n:=by
 obtain⟨q6,h6,g6⟩:∃ q:Int,(∀ J,zb ĝ (cI 6) J=↑(Ã q))/\Ã9:=#[_,pN 6 (),AM];obtain⟨q9,h9,g9⟩:∃ q:Int,(∀ J,zb ĝ (cI 9) J=↑(Ã q))/\Ã9:=#[_,pN 9 (),AM];obtain⟨q22,h22,g22⟩:∃ q:Int,(∀ J,zb ĝ (cI 22) J=↑(Ã q))/\Ã9:=#[_,pN 22 (),AM];obtain⟨Ig,h23,g23⟩:∃ q:Int,(∀ J,zb ĝ (cI 23) J=↑(Ã q))/\Ã9:=#[_,pN 23 (),AM];obtain⟨M,hM,gM⟩:∃ q:Int,(∀ J,zb zT (zb ĝ (cI 45)) (cI 9) J=↑(Ã q))/\0<q/\q<2 ^ 180:=#[10 ^ 45+9,fun J=>zk (pN 45 () J) Ä,AM];have hr:=sE n ⋯;unfold sX Wk YN YM;have a0:=Ja (c/2);generalize ha:(if c/2<0 then -(c/2) else c/2)=num at *;have hnm0:0<=num%M:=BP _ ⋯;have hnm1:num%M<M:=Ca _ gM.1;have pM:=gM.1;have d2:uX c 2:=ô;let#[v1,G_,e1,l1]:=VE c n hn _ q6 h6 g6 num;let#[v2,xs2,e2,l2]:=VD c n hn _ _ _ _ M q22 Ig q9 hM h22 h23 h9 gM g22 g23 g9 (num%M+77003) #[⋯,⋯];generalize zb zT (zb ĝ (cI 45)) (cI 9)=oM,zb ĝ (cI 6)=o6,zb ĝ (cI 9)=o9,zb ĝ (cI 22)=o22,zb ĝ (cI 23)=o23 at *;generalize hb1:þ=b1 at *;generalize hb2:Ë=b2 at *;by_cases h:c%2=1
 .exact#[G_,?_,l1];generalize G_.map î=L1,Ã0 (ò)=R at *;simp[d2,ha,h,hr,e1,Ď]
 .exact#[xs2,?_,l2];generalize xs2.map î=L2',Ã0 (ò)=R at *;simp[d2,ha,h,hr,hM,pM,e2,Ď]
theorem X3 (x:Int) (m:Nat) (h:m<=12):∃ y,nk [Ã x,Ã m]=↑(Ã y)/\-12<=y/\y<=12:=by
 have m1:vU 2 (m:Int):=.inl ô;have m2:(0:Int)<Å7:=⋯;have d:xJ x 25:=ô;have a0:=BP (x%25) (b:=Å7) ⋯;have b0:0<=x/25%2:=BP _ ();exact#[if x%25%(Å7)-m+x/25%2<12 then x%25%(Å7)-m+x/25%2 else 12,by simp[nk,Wm,mj,m1,m2,d],?_,?_]
 .split <;> lia
 .split <;> lia
def uF (many:Nat) (r:Ï):Prop:=∃ (f t:Nat) (a b:Int),r=[(f:Int),(t:Int),a,b]/\f<many/\t<many/\(-12<=a/\a<=12)/\-12<=b/\b<=12
theorem Xr (place many:Nat) (num:Int) (sz:Nat) (hp:place<many) (hs:sz<=12):∃ r,(Ĩ/\r.head?=↑(place:Int))/\r_ [Ã place,Ã many,Ã num,Ã sz]=↑ ņ:=by
 have d8:xJ num 8:=ô;have d400:xJ num 400:=ô;let#[a,ha,a1]:=X3 (num/8%50) sz hs;let#[b,hb,b1]:=X3 (num/400%50) sz hs;have DW:(0:Int)<many:=⋯;have t0:0<=Ŵ:=BP _ ⋯;have t1:Ŵ<many:=Ca _ DW;have hm':0<many:=⋯;exact#[[(place:Int),((Ŵ).toNat:Int),a,b],#[#[place,(Ŵ).toNat,a,b,rfl,hp,⋯,a1,b1],rfl],?_];rw[CY t0];have hr:zh [(place:Int),Ŵ,a,b]=È [Ã place,Ã (Ŵ),Ã a,Ã b]:=rfl;rw[hr];unfold r_ Wj;generalize nk=fa at *;simp[d8,d400,ha,hb,hm']
def mz {xs:Ï}{j:Nat}(h:j<ŕ):∃ v,ř (Í) Å8=↑(Ã v):=#[xs.getD j 0,zA (by simp[h])]
theorem Mm (b:Bool):zv Æ (kt b) (İ)=↑(.bl b):=by
 have h:(("taker":Str) == ("keeper":Str))=Æ:=()
 cases b
 .change zv Æ (.str "taker") (İ)=_;simp[zv,dep,eqT,h]
 .change zv Æ (İ) (İ)=_;simp[zv,dep,eqT]
def YW (b:Sm) (n many pl:Nat) (E:Û->ġ L5.W->Ev) (hE:∀ r x,yX [11] (E r x)=E r none) Ç6
  (ht:∀ k<n,∀ FI:Û,ĩ<=1000->∃ r,(Ĩ/\Á3)/\turn (zx 11) b (Ã (0+Ñ)) (E FI none)=↑(.nx (E (FI++[zh r]) ↑ ğ)))
  (FI:Â) (hl:ĩ<=100) (hr:∀ r∈FI,Ĩ):
  ∃ FT:Â,xS [11] (zx 11) b (Ã0 ò) (E (Ŗ) none)=↑(.nx (E À1 none))/\FT.length=ĩ+n/\(∀ r∈FT,Ĩ)/\Á6/\(0<n->∃ r∈FT,Á3):=by
 let#[J',h1,FT,h2,h3,h4,h5,h6]:=mq (is:=[11]) (g:=zx 11) (b:=b) ć (λ p J=>∃ FT:Â,J=E À1 none/\FT.length=ĩ+Ŋ/\(∀ r∈FT,Ĩ)/\Á6/\(0<Ŋ->∃ r∈FT,Á3))
   (Ó n) (E (Ŗ) none) #[FI,hE _ _,rfl,hr,λ _ h=>h,λ h=>Ų h #[]] (by
  rintro p k q e J ⟨FT,rfl,u1,u2,u3,u4⟩;ext ó
  have hk:k<n:=ų;let#[r,#[v1,v3],v2]:=ht k hk À1 (ā);exact#[_,v2,FT++[r],by rw[hE];simp,by simp![Bh,List.length_singleton,u1];lia,λ r' IA=>?_,λ r' h=>CW _ (u3 r' h),λ _=>#[r,#[],v3]];rcases Bb.mp IA with h | h
  .show u2 r' h
  .cases A4.mp h;show v1)
 subst h2;show#[FT,h1,by simpa using h3,h4,h5,λ h=>h6 (by exists h)]
def UW (c mo br:T) (xs:Ï) (hx:ŕ=43) (many:Nat) (hm:many<=8) (os:Å6) (FI:Â) (Hz:Û) (k:Nat) (hk:k<many) (ho:À=k) (hrl:ĩ<=3*k) (hr:∀ r∈FI,Ĩ) (hs:Å9<=k):
  ∃ (b:Bool) (FT:Â) (HA:Û) (nu sz:Int),ç
   = ↑(.nx [↑(.im c),↑(.im mo),↑ À2,↑ Ę,↑ õ,↑(ĵ (Ø (Ī))),↑(ĵ (Ø À1)),↑(ĵ (Ø HA)),↑ ğ,↑(.im (Ã nu)),↑(.im (Ã sz)),none,none])
   /\ FT.length<=3*(k+1)/\(∀ r∈FT,Ĩ)/\Á6/\(∃ r∈FT,r.head?=↑ Ñ)/\HA.length<=k+1/\(HA=Hz\/(b=true/\∃ s:Sl,(s.p=k/\ø)/\HA=Hz++[pG s])):=by
 let#[v,hv]:=mz (xs:=xs) (j:=2+4*k) ⋯;have hv':ř (Í) (2+4*Ñ)=↑(Ã v):=hv;obtain⟨b,hb⟩:∃ b:Bool,ř [T.str "keeper",T.str "taker"] (v%2)=↑(kt b):=by
  rcases Int.emod_two_eq v with h | h <;> rw[h]
  .show#[true,rfl]
  .show#[Æ,rfl]
 obtain⟨sz,AL,sz1⟩:∃ sz:Nat,ř [î 2,î 3,î 3,î 12] (v/2%4)=↑(Ã (sz:Int))/\sz<=12:=by
  have h0:0<=v/2%4:=BP _ ();have h1:v/2%4<4:=Ca _ ();generalize v/2%4=z at *;obtain h | h | h | h:z=0\/z=1\/z=2\/z=3:=⋯
  all_goals subst h
  .show#[2,rfl,()]
  .show#[3,rfl,()]
  .show#[3,rfl,()]
  .show#[12,rfl,()]
 obtain⟨n1,hn1,n0,n3⟩:∃ n:Nat,1+v/8%3=č/\0<n/\n<=3:=#[(1+v/8%3).toNat,⋯,⋯,⋯];let#[FT,g1,g2,g3,g4,g5]:=YW jn n1 many k (λ rs x=>[↑(.im c),↑(.im mo),↑ À2,↑ Ę,↑ õ,↑(ĵ (Ø (Ī))),↑(ĵ (Ø rs)),↑ Ä0,↑(.im (Ã Ñ)),↑(.im (Ã v)),↑(.im (Ã sz)),x,none]) (λ _ _=>rfl) ⋯
  (λ k' HS rs hrs=>by
   let#[v2,hv2]:=mz (xs:=xs) (j:=3+4*k+k') ⋯;have hv2':ř (Í) (3+4*Ñ+Ä1)=↑(Ã v2):=by rw[<- hv2];congr 1;lia
   let#[r,hr1,hr2]:=Xr k many v2 sz hk ⋯;exact#[r,hr1,?_];have m1:vU 4 Ñ:=.inl ô;have C3:ù<16777216:=⋯;unfold turn jn;generalize r_=fw,Í=XL,Ī=OL,zh r=rr,Ä1=kk at *;generalize hk4:Ñ=kI at *;simp[mj,m1,hv2',hr2,C3])
  FI ⋯ hr
 have C5:=sE n1 ⋯;have Ce:(ĸ).length<16777216:=ā
 have Bs:ř (Ī) Ñ=↑(kt b):=zA (by rw[B2,CM (ā)];simp[ho]);have AR:Å9<16777216:=⋯;have Ft:=Mm b;have m1:vU 4 Ñ:=.inl ô;have d2:xJ v 2:=ô;have d8:xJ v 8:=ô;have d24:xJ v 24:=ô;have d72:xJ v 72:=ô;have d144:xJ v 144:=ô;have d576:xJ v 576:=ô;have fin:∀ HA:Û,(if b=true/\v/24%3=0 then Hz++[È [Ã k,Ã (v/72%2),Ã (1+v/144%4),Ã (v/576%5)]] else Hz)=HA->ç
   = ↑(.nx [↑(.im c),↑(.im mo),↑ À2,↑ Ę,↑ õ,↑(ĵ (Ø (Ī))),↑(ĵ (Ø À1)),↑(ĵ (Ø HA)),↑ ğ,↑(.im (Ã v)),↑(.im (Ã sz)),none,none]):=λ HA he=>by
  have e2:Ī=ĸ++[kt b]:=#[];unfold turn oG;rw[e2] at g1 Bs ⊢;simp![Ed] at g1 C5 ⊢;generalize jn=bb,(Ó n1).map (λ(k:Nat)=>î Ñ)=RR,FT.map zh=L2',Ŗ=L1',Í=XL,ĸ=OL,(T.str "taker")=s2 at *;generalize hs1:(T.str "keeper")=s1 at *;generalize kt b=kb at *;generalize hkI:Ñ=kI at *;generalize Eu:zv=ee at *;have hee0:ee Æ (Ã (v/24%3)) (Ã 0)=↑(.bl (ß (v/24%3=0))):=by rw[<- Eu];show Ď _ _ _
  by_cases hb1:b=true
  .subst hb1;by_cases hz:v/24%3=0
   .rw[ļ #[rfl,hz]] at he;subst he;rw[hz] at hee0;simp[mj,m1,hv',hb,Ce,d2,AL,d8,hn1,C5,g1,Bs,Ft,d24,hee0,hz,AR,d72,d144,d576]
   .rw[if_neg (λ h=>hz h.2)] at he;subst he;simp[mj,m1,hv',hb,Ce,d2,AL,d8,hn1,C5,g1,Bs,Ft,d24,hee0,hz]
  .have hb2:b=Æ:=by exists hb1
   subst hb2;rw[if_neg (λ h=>hb1 h.1)] at he;subst he;simp[mj,m1,hv',hb,Ce,d2,AL,d8,hn1,C5,g1,Bs,Ft]
 exact#[b,FT,_,v,sz,fin _ rfl,⋯,g3,g4,g5 n0,?_,?_]
 .split
  .simp;lia
  .lia
 .split
  .rename_i FG;have hp:v/72%2=0\/v/72%2=1:=⋯;exact .inr #[FG.1,#[k,ß (v/72%2=1),1+v/144%4,v/576%5],#[rfl,ú,ú,ú],?_];rcases hp with h | h <;> simp[pG,pL,h]
  .show .inl rfl
def uE (w:Wy):Ï:=[(w.f:Int),(w.t:Int),w.a,w.b]
theorem WH {w v:Wy}(h:uE w=uE v):w=v:=by
 let#[f,t,a,b]:=w;let#[f',t',a',b']:=v;simp![uE,List.cons.injEq,and_true] at h;let#[h1,h2,rfl,rfl]:=h;have e1:f=f':=⋯;have e2:t=t':=⋯;subst e1 e2;rfl
theorem bp {many:Nat}:∀ l:Â,(∀ r∈l,Ĩ)->∃ ws:List Wy,l=ws.map uE/\Á5
 | [],_=>#[[],rfl,nofun]
 | r::l,h=>by
  let#[ws,e1,e2]:=bp l λ x hx=>h x (AD _ hx);let#[f,t,a,b,rfl,hf,ht,hc]:=h r Aw;exact#[#[f,t,a,b]::ws,by rw[e1];rfl,λ w hw=>?_];rcases Ao.mp hw with x | x
  .subst x;show#[#[hf,ht],hc]
  .show e2 w x
def VL {many:Nat}Ç5 (h0:rs≠[]) (hl:ù<64) (hw:∀ r∈rs,Ĩ):
  ∃ ws:List Wy,qh [Ø (ĉ zh)]=↑(Ø (Æ0))/\ws.length<=ù/\(Á5)/\(∀ w:Wy,w∈ws↔uE w∈rs)/\ŧ:=by
 have hn:ħ:=λ r hr=>by let#[f,t,a,b,rfl,_]:=hw ŋ;simp
 have hm:∀ r,r∈L4.yd (wB rs)↔r∈rs:=λ r=>by rw[(L4.wg _).mem_iff,mn]
 let#[ws,e1,e2]:=bp (many:=many) (L4.yd (wB rs)) λ r hr=>hw r ((hm r).mp hr);exact#[ws,?_,?_,e2,λ w=>?_,?_]
 .rw[VJ rs h0 hl hn,e1,AI];rfl
 .have:=Ä8 À3 e1;rw[(L4.wg _).length_eq,Af] at this;have:=iU rs;lia
 .rw[<- hm,e1];constructor
  .show λ h=>Av.mpr #[w,h,rfl]
  .intro h;let#[v,hv,e]:=Av.mp h;rw[<- WH e];show hv
 .rw[<- e1];show (L4.ig _).and ((L4.wg _).nodup_iff.mpr (kx rs))
structure Gf (os:Å6) (ws:List Wy) (ss:List Sl):Prop where
 n1:1<=À
 n8:À<=8
 wr:∀ w∈ws,(w.f<À/\w.t<À)/\Ģ
 wl:ws.length<=24
 wp:ŧ
 way:∀ x<À,∃ w∈ws,w.f=x
 sr:Ż
 sp:Ä9
 sl:ss.length<=8
def Jw (c:Int) (most F5:Nat) (h1:1<=most) (h8:most<=8) (hb:F5<=12):
  ∃ F:eL,nh [Ã c,Ã most,Ã F5]=↑(wO F)/\Gf F.os F.ws F.ss/\(0<=F.A/\F.A<=F5)/\0<=F.B/\F.B<=F5:=by
 let#[xs,C2,hx]:=Xs c 43 ();have DN:sX [Ã c,Ã 43]=↑(Ø (Í)):=C2;let#[v0,hv0]:=mz (xs:=xs) (j:=0) ⋯;let#[v1,hv1]:=mz (xs:=xs) (j:=1) ⋯;have hv0':ř (Í) 0=↑(Ã v0):=hv0;have hv1':ř (Í) 1=↑(Ã v1):=hv1;have Fm:(0:Int)<most:=⋯;have hmoN:0<most:=h1;obtain⟨many,hmany,m1,m8⟩:∃ n:Nat,1+v0%most=č/\1<=n/\n<=8:=by
  have:=BP v0 (b:=(most:Int)) ⋯;have:=Ca v0 Fm;show#[(1+v0%most).toNat,⋯,⋯,⋯]
 let#[J',g1,os,FI,Hz,g2,g3,g4,g5,g6,g7,ss,hss,hsg,B7]:=mq (is:=[8,9,10,11]) (g:=zx 8) (b:=oG) ć
   (λ p J=>∃ (os:Å6) (FI:Â) (Hz:Û),J=[↑ Ľ,↑ Æ1,↑(.im (Ã F5)),↑ Ę,↑ õ,↑(ĵ (Ø (ĸ))),↑(ĵ (Ø (Ŗ))),↑ Ä0,none,none,none,none,none]
    /\ À=Ŋ/\ĩ<=3*Ŋ/\(∀ r∈FI,Ĩ)/\(∀ x∈p,∃ r∈FI,Ś)/\Å9<=Ŋ/\∃ ss:List Sl,Hz=ss.map pG/\(Ż)/\Ä9)
   (Ó many) [↑ Ľ,↑ Æ1,↑(.im (Ã F5)),↑ Ę,↑ õ,↑ Ä2,↑ Ä2,↑ Ä2,none,none,none,none,none] #[[],[],[],rfl,rfl,#[],nofun,nofun,#[],[],rfl,nofun,.nil] (by
  rintro p k q e J ⟨os,FI,Hz,rfl,r1,r2,r3,r4,r5,ss,r6,r7,r8⟩;have hk:k<many:=ų;have hpk:Ŋ=k:=by
   have h2:=Ä8 (λ l=>l[Ŋ]?) e;simp![CM (Am _),Nat.sub_self,EE] at h2;let#[h3,h4]:=AY.mp h2;exists h4
  let#[b,FT,HA,nu,sz,t1,t2,t3,t4,t5,t6,t7]:=UW (Ã c) (Ã most) (Ã F5) xs hx many m8 os FI Hz k hk ⋯ ⋯ r3 ⋯;have grow:∀ s∈ss,s.p<(os++[b]).length/\(os++[b]).getD s.p Æ=true/\ø:=λ s hs=>by
   let#[a1,a2,a3]:=r7 s hs;exact#[ā,?_,a3];rw[A9,CL a1,<- A9];show a2
  exact#[_,t1,os++[b],FT,HA,rfl,by simp[r1],ā,t3,λ x hx=>?_,ā,by
   rcases t7 with rfl | ⟨hb,s,⟨s0,s1⟩,rfl⟩
   .show#[ss,r6,grow,r8]
   .exact#[ss++[s],by rw[r6];simp,λ z hz=>?_,EV.mpr #[r8,#[],λ a ha c hc=>?_]]
    .rcases Bb.mp hz with h | h
     .show grow z h
     .cases A4.mp h;exact#[ā,?_,s1];rw[s0,A9,CM ⋯,show k-À=0 by lia,hb];rfl
    .cases A4.mp hc;have:=(r7 a ha).1;lia]
  rcases Bb.mp hx with h | h
  .let#[r,y1,y2]:=r4 x h;show#[r,t4 r y1,y2]
  .cases A4.mp h;show t5)
 subst g2;rw[B5] at g3 g4 g7;obtain⟨n9,hn9,n9'⟩:∃ n:Nat,(if 24-(ĩ:Int)<9 then 24-(ĩ:Int) else 9)=č/\n<=9:=by
  split
  .show#[24-ĩ,⋯,⋯]
  .show#[9,rfl,⋯]
 obtain⟨pl,Al,pl1⟩:∃ n:Nat,v0/64%8%many=č/\n<many:=by
  have:=BP (v0/64%8) (b:=(many:Int)) ⋯;have:=Ca (v0/64%8) (b:=(many:Int)) ⋯;show#[(v0/64%8%many).toNat,⋯,⋯]
 have d64:xJ v0 64:=ô;have DW:0<many:=m1;let#[IH,k1,k2,k3,k4,_]:=YW jk n9 many pl (λ rs x=>[↑ Ľ,↑ Æ1,↑(.im (Ã F5)),↑ Ę,↑ õ,↑(ĵ (Ø (ĸ))),↑(ĵ (Ø rs)),↑ Ä0,none,none,none,x,none]) (λ _ _=>rfl) ⋯
  (λ k' HS rs hrs=>by
   let#[v2,hv2]:=mz (xs:=xs) (j:=34+k') ⋯;have hv2':ř (Í) (34+Ä1)=↑(Ã v2):=by rw[<- hv2];congr 1;lia
   let#[r,hr1,hr2]:=Xr pl many v2 3 pl1 ⋯;have hr2':r_ [Ã pl,Ã many,Ã v2,Ã 3]=↑ ņ:=hr2;exact#[r,hr1,?_];have C3:ù<16777216:=⋯;unfold turn jk;generalize r_=fw,Í=XL,ĸ=OL,zh r=rr,Ä1=kk at *;simp[hv0',d64,DW,Al,hv2',hr2',C3])
  FI ⋯ g5
 have fin:∃ Hh:Â,(if v0/8%8=1 then IH else FI)=Hh/\Hh≠[]/\Hh.length<=24/\(∀ r∈Hh,Ĩ)/\∀ x<many,∃ r∈Hh,Ś:=by
  exact#[_,rfl,?_];have hx:∀ x<many,∃ r∈FI,Ś:=λ x hx=>g6 x (AO.mpr hx);have hx2:∀ x<many,∃ r∈IH,Ś:=λ x hh=>by
   let#[r,y1,y2]:=hx x hh;show#[r,k4 r y1,y2]
  split
  .exact#[λ e=>?_,⋯,k3,hx2];let#[r,y,_]:=hx2 0 DW;rw[e] at y;cases y
  .exact#[λ e=>?_,⋯,g5,hx];let#[r,y,_]:=hx 0 DW;rw[e] at y;cases y
 let#[Hh,e3,r0,r1,r2,r3]:=fin;let#[ws,w1,w2,w3,w4,w5]:=VL Hh r0 ⋯ r2;have Ey:(0:Int)<ś:=⋯;have A0:=BP v1 (b:=ś) ⋯;have A1:=Ca v1 Ey;have B0:=BP (v1/13) (b:=ś) ⋯;have B1:=Ca (v1/13) Ey;have BE:ss.length=Å9:=by rw[hss,Af]
 exact#[#[v1%(ś),v1/13%(ś),os,ws,ss],?_,#[ú,ú,λ w hw=>by dsimp only;rw[g3];show w3 w hw,ú,w5,λ x hx=>?_,hsg,B7,ú],ú]
 .have C5:=sE many ⋯;have hrg9:=sE n9 ⋯;have d8:xJ v0 8:=ô;have d13:xJ v1 13:=ô;have hlen:zJ [Ø (Ŗ)]=↑(Ã ĩ):=#[];have Fo:(ĸ).length<=16777216:=ā
  have hls:Å9<=16777216:=⋯;have hlw:(Æ0).length<=16777216:=ā
  have hq:=Ď (v0/8%8) 1 Æ;change nh _=↑(È [È [Ã (v1%(ś)),Ã (v1/13%(ś))],È (ĸ),È (Æ0),È (ss.map pG)]);rw[<- hss];unfold nh Wl;generalize oG=bb2,jk=bb3,sX=fs,Í=XL,(Ó many).map (ò)=R1,(Ó n9).map (ò)=R9,ĸ=OL at *;by_cases h:v0/8%8=1
  .rw[ļ h] at e3;subst e3;rw[h] at hq;generalize Æ0=WL at *;generalize hrr:Ŗ=RR at *;generalize IH.map zh=RR2 at *;have Cz:RR.length=ĩ:=by rw[<- hrr,Af]
   generalize zv=ee,qh=sv at *;simp[DN,hv0',Fm,hmoN,hmany,C5,g1,d8,hq,h,Cz,hn9,hrg9,k1,hv1',Ey,d13,w1,Fo,hls,hlw]
  .rw[if_neg h] at e3;subst e3;generalize Æ0=WL,Ŗ=RR,zv=ee,qh=sv at *;simp[DN,hv0',Fm,hmoN,hmany,C5,g1,d8,hq,h,hv1',Ey,d13,w1,Fo,hls,hlw]
 .dsimp only at hx;rw[g3] at hx;let#[r,y1,y2]:=r3 x hx;let#[f,t,a,b,rfl,hf,ht,_]:=r2 r y1;exact#[#[f,t,a,b],(w4 _).mpr y1,?_];have:(f:Int)=(x:Int):=by exists y2
  dsimp only;lia
end yj
namespace yj
open PySem L2 L3 L5 L4
def zO {F:Ak}{g:Ae}Ħ{x:T}{r:ġ T}(h:g J=↑x) (hF:F [x]=r):zi F (za g ze) J=r:=by change ((g J).bind _).bind _=_;rw[h];show hF
def oK {f g:Ae}Ħ{r:ġ T}(h:f J=↑ ã) (h':g J=r):xD f g J=r:=by change (f J).bind _=_;rw[h];show h'
def Y_ {f g:Ae}Ħ(h:f J=↑ đ):xD f g J=↑ đ:=ĭ
def KU {f g:Ae}Ħ{a b:Bool}(h:f J=↑(.bl a)) (h':a=true->g J=↑(.bl b)):xD f g J=↑(.bl (a&&b)):=by
 cases a with
 | true=>show oK h (h' rfl)
 | Æ=>show Y_ h
def rq {f g:Æ7}Ħ(h:f J=↑true):yL f g J=↑true:=ĭ
def rz {f g:Æ7}Ħ{a b:Bool}(h:f J=↑a) (h':a=Æ->g J=↑b):yL f g J=↑(a||b):=by
 cases a with
 | true=>show rq h
 | Æ=>show uI h (h' rfl)
theorem yV {u:Ev->ġ (Û)}Ħ{xs:Û}(hu:u J=↑xs) (hl:ŕ<=100):ye u J=↑(Ø xs):=by change (u J).bind _=_;rw[hu];show ļ (Bc hl ())
def sC (r:Ï):zh r=kT (ū Kx.i):=by
 change T.tup (ū î)=T.tup ((ū Kx.i).map zR);rw[AI];rfl
def vH Ç5:ĉ zh=(ĉ É).map kT:=by
 rw[AI];show CP λ r _=>sC r
def lX Ç5:xu Ţ=(yd rs).map É:=by
 have hp:=qi Ţ;obtain⟨qs,hq⟩:∃ qs:Â,xu Ţ=qs.map É:=by
  have all:∀ r∈xu Ţ,∃ q:Ï,r=ŵ:=λ r hr=>by
   let#[q,_,rfl]:=Av.mp (hp.mem_iff.mp hr);show#[q,rfl]
  generalize xu Ţ=l at all
  induction l with
  | nil=>show#[[],rfl]
  | cons r l ih=>
   let#[q,rfl]:=all r Aw;let#[qs,rfl]:=ih λ x hx=>all x (AD _ hx);show#[q::qs,rfl]
 have e:∀ l:Â,(l.map É).map yE=l:=λ l=>by
  rw[AI]
  conv=>rhs;rw[<- List.map_id l]
  show CP λ r _=>og r
 have CO:=VQ Ţ;have hpm:=hp.map yE;rw[hq,e] at CO;rw[hq,e,e] at hpm;rw[hq,lW hpm CO]
def nM Ç5 Â7:vX [Ø (ĉ zh)]=↑(Ø ((yd rs).map zh)):=by
 rw[vH,vH];change (qw _).bind _=_;rw[iw];have hf:rM Ţ=true:=by
  cases rs with
  | nil=>rfl
  | cons r rs=>
   cases r with
   | nil=>show Ų rfl (hn _ Aw)
   | cons n r=>simp[rM]
 exact (ļ #[by rw[Af];show hl,Ŷ,hf]).trans ?_
 .rw[lX]
 .let#[q,hq,rfl]:=Av.mp hr;have:=hn q hq;cases q with
  | nil=>show Ų rfl this
  | cons _ _=>rfl
def VP (rs:ì) Â7 (hf:rM rs=true):vX [Ø (ĉ kT)]=↑(Ø ((xu rs).map kT)):=by
 change (qw _).bind _=_;rw[iw];exact ļ #[hl,Ŷ,hf];have:=hn ŋ;cases r with
 | nil=>show Ų rfl this
 | cons _ _=>rfl
def NN (r q:Ĵ):vx ľ (kT q)=↑(.bl (ı (yE r) (yE q))):=by
 change (xA (ū zR)).bind _=_;rw[p_];change ((xA (q.map zR)).map _)=_;rw[p_];rfl
def uU (W:ì) (k:Nat):Bool:=ß (Æ2 ≠4)||(ß (0<k)&&Á0)
def uv (W:ì) (many:Nat):Bool:=ß (ę<=many)&&!(Ó ę).any (uU W)
theorem X2 (W:ì) (many:Nat) (hl:ę<=1000):nj [Ĳ,Ã many]=↑(.bl (uv W many)):=by
 have hlen:zi zJ (za Ă ze) Ô=↑(Ã ę):=by
  exact zO (x:=Ĳ) rfl ?_;change ↑(î ((W.map kT).length:Nat))=_;rw[Af]
 have Fw:zw (zb tH ĕ (zc 1)) Ô=↑(ß ((ę:Int)>many)):=yG (zk hlen Ä);have Bs:∀ k,k<ę->ř (W.map kT) Ñ=↑(kT (Ĉ)):=λ k hk=>zA (by simp[hk]);exact zN ?_ rfl;unfold uv;by_cases hm:ę<=many
 .have Fv:zw (zb tH ĕ (zc 1)) Ô=↑ Æ:=by rw[Fw,tx ⋯]
  rw[tp hm,Bi];have Ik:=rC (is:=[2]) (g:=zx 2) (b:=fU) ć (uU W) đ Ô (Ó ę) Ô rfl (λ k hk=>by
   have HS:k<ę:=AO.mp hk;exact#[[↑(.im (Ĳ)),↑ õ,↑ ğ],rfl,?_];rw[Ed];change fU Ê=_;have e1:zb zg Ă Ē Ê=↑(kT (Ĉ)):=zk Ä (Bs k HS);have t1:zw Ŭ Ê=↑(ß (Æ2 ≠4)):=by
    exact yG (zk (zO e1 (show zJ [kT (Ĉ)]=↑(Ã (Æ2:Nat)) from ?_)) rfl ?_)
    .change ↑(î ((Ĉ).map zR).length)=_;rw[Af]
    .rw[Ď];generalize Æ2=n;by_cases h:n=4
     .subst h;rfl
     .have h':¬ č=4:=⋯;rw[tx h',tp h];rfl
   have t2:zw (zb tH Ē Ċ) Ê=↑(ß (0<k)):=by
    exact yG (zk Ä ?_);change ↑(T.bl (ß (Ñ>0)))=_;by_cases h:0<k
    .rw[tp h,tp ⋯]
    .rw[tx h,tx ⋯]
   have t3:0<k->yf Ō Ê=↑(Á0):=λ h=>by
    have h1:=Bs (k-1) ⋯;rw[show ((k-1:Nat):Int)=Ñ-1 by lia] at h1;show yU (yG (zk (zk Ä h1) e1 (NN _ _)))
   have tt:yL (zw Ŭ) (wR (zw (zb tH Ē Ċ)) (yf Ō)) Ê=↑(uU W k):=by
    exact rz t1 λ _=>?_;by_cases h:0<k
    .rw[tp h] at t2 ⊢;rw[Bi];show vR t2 (t3 h)
    .rw[tx h] at t2 ⊢;show oJ t2
   cases hb:uU W k with
   | true=>show yx (hb▸tt) rfl
   | Æ=>show zL (hb▸tt) rfl)
  have DS:xY vv (za ĕ ze) Ô=↑((Ó ę).map ò):=by
   change (za _ ze _).bind _=_;rw[zf hlen rfl];show sE ę ⋯
  exact zt (zL Fv rfl) ?_;cases ha:(Ó ę).any (uU W) with
  | true=>rw[ha] at Ik;show yN (mD DS Ik)
  | Æ=>rw[ha] at Ik;show zt (mD DS Ik) rfl
 .rw[tp ⋯] at Fw;rw[tx hm,DI];show yN (yx Fw rfl)
def j9 (t:T) (a b:Int) (he:zP t=Æ):w6 [t,Ã a,Ã b]=↑(.bl (wh t a b)):=by
 unfold w6 Wi wh;cases t with
 | int i=>by_cases h1:a<=i <;> by_cases h2:i<=b <;> simp[xg,h1,h2]
 | err _ _ _=>cases he
 | _=>simp[xg]
abbrev bb:List (Int×Int):=Ě
theorem KD Ħ{br:T}(h0:J[0]?=↑↑ À2) (he:zY br=true):yL (yf (zX (FN "tuple" Ă))) (yL (zw (zb ī ĕ Æ3)) (yf (zX (zi À4 (za jf ze))))) J=↑(!zQ br bb):=by
 have v0:zc 0 J=↑br:=by unfold zc;rw[h0]
 cases br with
 | tup ts=>
  have i0:FN "tuple" Ă J=↑ ã:=by ext Ŏ
  exact uI (yU (b:=true) (yZ i0)) ?_;have hl:zw (zb ī ĕ Æ3) J=↑(! ß (è=2)):=by
   exact yG (zk (zO v0 rfl) rfl ?_);rw[Ď];by_cases h:è=2
   .rw[h];rfl
   .have h':¬ (è:Int)=2:=⋯;rw[tx h,tx h'];rfl
  have e:(!zQ (ģ) bb)=(! ß (è=2)||!(ts.zip bb).all λ p=>wh p.1 p.2.1 p.2.2):=by
   change (!(ß (è=2)&&_))=_;rw[D_]
  rw[e];exact rz hl λ h2=>yU (yZ ?_);rw[CD,Ö] at h2
  match ts,h2 with
  | [x,y],_=>
   have ex:=zY.mem he (u:=x) #[];have ey:=zY.mem he (u:=y) #[];have hc:jf J=↑(Ø ([x,y].map λ t=>T.bl (wh t 0 12))):=by
    unfold jf;exact xf (λ t:T=>t) _ [x,y] ?_ #[] λ t ht=>?_
    .ext Ŏ
    .have et:=zY.mem he ht;change (zi w6 _ [↑(.im t)]).map some=_;rw[z_ (xs:=[t,Ã 0,Ã 12]) rfl (j9 t 0 12 et)];rfl
   exact Å0;change (uu (([x,y]:Û).map λ t=>T.bl (wh t 0 12))).map ċ=_;rw[ur (λ t:T=>wh t 0 12)];rfl
 | err _ _ _=>cases zY.top he
 | _=>show rq (yU (b:=Æ) (yZ (by ext Ŏ)))
theorem Qu (o:T) (he:zP o=Æ) Ħ(h:J[4]?=↑↑(.im o)):yL (yf (zX (FN "str" (zc 4)))) (wR (zw (zb ī (zc 4) (cS (İ)))) (zw (zb ī (zc 4) (cS (.str "taker"))))) J=↑(!xv o):=by
 have v4:zc 4 J=↑o:=by unfold zc;rw[h]
 cases o with
 | str x=>
  exact uI (yU (b:=true) ů) ?_;have t1:∀ z:Str,zw (zb ī (zc 4) (cS (.str z))) J=↑(!(x == z)):=λ z=>yG (zk v4 rfl (eq_str x z true));have e:(!xv (.str x))=(! Á7&&!(x == "taker")):=by
   change (!(("keeper":Str) == x||("taker":Str) == x))=_;rw[Bool.not_or,BEq.comm (a:=("keeper":Str)),BEq.comm (a:=("taker":Str))]
  rw[e];cases h1:Á7 with
  | true=>show oJ (by rw[t1,h1];rfl)
  | Æ=>show vR (by rw[t1,h1];rfl) (t1 _)
 | err _ _ _=>cases he
 | _=>show rq (yU (b:=Æ) ů)
def Mk (x:Kx):zP (zR x)=Æ:=by cases x <;> rfl
def rh {i:Nat}Ħ{x:Kx}{fa fb:Ae}{a b:Int}(h:zl i J=↑(zR x)) (ha:fa J=↑(Ã a)) (hb:fb J=↑(Ã b)):yf (zX (zi w6 (za (zl i) (za fa (za fb ze))))) J=↑(!wh (zR x) a b):=
 yU (yZ (z_ (zf h (zf ha (zf hb rfl))) (j9 _ _ _ (Mk x))))
def xy ē (o l:ġ L5.W) (s:List (ġ L5.W)):Ev:=↑ À2::↑(.im (Ć))::↑(.im (Ĳ))::↑(.im (È (Q.map kT)))::o::l::s
abbrev n8:List (ġ L5.W):=[none,none,none,none,none,none,none,none]
def kh {r:Ĵ}(h:á):∃ a b c d,r=Ü:=by
 match r,h with
 | Ü,_=>show#[a,b,c,d,rfl]
def kq {c:Æ7}Ħ{b:Bool}{k:Sm}{o:ġ Out}(h:c J=↑b) (h1:b=true->↑(Out.rt đ)=o) (h2:b=Æ->k J=o):zq (zC c (retS (cS đ)) zI) k J=o:=by
 cases b with
 | true=>show (yN (yx h rfl)).trans (h1 rfl)
 | Æ=>show zt (zL h rfl) (h2 rfl)
def iM {c:Æ7}Ħ{b:Bool}(h:c J=↑b):zC c (retS (cS đ)) zI J=↑(if b=true then .rt đ else .nx J):=by
 cases b with
 | true=>show yx h rfl
 | Æ=>show zL h rfl
def WN ē Ŕ (r:Ĵ) (h:á):∃ J',yX [6,7,8,9] J'=xy ş n8/\
  turn (ō) jl ľ (xy ş n8)=↑(if (!zQ ľ (wb n))=true then .rt đ else .nx J'):=by
 let#[a,b,c,d,rfl]:=kh h;exact#[Ð,rfl,?_];change jl (Ð)=_;have e:zQ (kT Ü) (wb n)=(wh (zR a) 0 (č-1)&&(wh (zR b) 0 (č-1)&&(wh (zR c) (-12) 12&&wh (zR d) (-12) 12))):=À5;rw[e];generalize hρ:Ð=J;have h1:=rz (rh (i:=6) (J:=J) (x:=a) (a:=0) (b:=č-1) ķ) λ _=>rh (i:=7) (x:=b) (a:=0) (b:=č-1) ķ;have h2:=rz (rh (i:=8) (J:=J) (x:=c) Ň) λ _=>rh (i:=9) (x:=d) Ň;exact À8
 .ext Ġ
  .rfl
  .rw[DI,CG];rfl
 .rw[ED,CD,CD] at z;rw[z.1,z.2,Bi,Bi,D_]
def KQ {os:Û}{i:Int}(h:0<=i/\i<À) (ho:ŭ=true):∃ x:Str,ř os i=↑(.str x)/\keeps os i=Á7:=by
 let#[x,x1,x2]:=gh h.1 h.2 ho "keeper";show#[x,x1,by unfold keeps;rw[x2]]
def vf (r:Ĵ):Int:=(yE r).getD 0 0
def VH ē (ho:ŭ=true) (r:Ĵ) (h:á):∃ J',yX [10,11,12,13] J'=Ů/\
  turn (Ń) jj ľ (Ů)=↑(if (!(æ))=true then .rt đ else .nx J'):=by
 let#[a,b,c,d,rfl]:=kh h;exact#[ï,rfl,?_];change jj (ï)=_;ext ă;rw[e];generalize hρ:ï=J;have h0:=rh (i:=10) (J:=J) (x:=a) (a:=0) (b:=ð) ķ;have hb:=rh (i:=11) (J:=J) (x:=b) (a:=0) (b:=1) (fa:=cS (Ã 0)) (fb:=cS (Ã 1)) å Ä;have h2:=rz (rh (i:=12) (J:=J) (x:=c) (a:=1) (b:=12) (fa:=cS (Ã 1)) À9) λ _=>rh (i:=13) (x:=d) (a:=0) (b:=12) (fa:=cS (Ã 0)) À9;cases ha:wh (zR a) 0 (ð) with
 | Æ=>
  rw[ha] at h0;show yN (yx (rq h0) rfl)
 | true=>
  rw[ha] at h0;cases a with
  | b _=>cases ha
  | i p=>
   have hp:0<=p/\p<À:=by
    have z:(ß (0<=p)&&ß (p<=ð))=true:=ha;rw[AK,Ö,Ö] at z;lia
   let#[x,x1,x2]:=KQ hp ho;have ef:vf [Kx.i p,b,c,d]=p:=rfl;rw[ef,x2];have hk:zw (zb ī (zb Ā (zc 10)) (cS (İ))) J=↑(! Á7):=by
    subst hρ;show yG (zk (zk (x:=Ć) Ä x1) rfl (eq_str x "keeper" true))
   have h1:=uI h0 (rz hk λ _=>hb);exact À8
   .ext Ġ
    .rw[CG];rfl
    .rw[DI,CG,DI];rfl
   .rw[ED,CD,CD] at z;rw[z.1,z.2,Bi,Bi,DC,D_]
def uJ ē:Bool:=
 zQ br bb&&(ŭ&&((uv W 24&&uv Q 8)&&(W.all (λ r=>zQ ľ ť)&&(Q.all (λ r=>æ)&&ß ((xm (Q.map vf)).length=Q.length)))))
theorem lb {α:Type}(p:α->Bool):∀ l:List α,l.any (λ x=>!p x)=!l.all p
 | []=>rfl
 | a::l=>by rw[DB,Cp,lb p l,D_]
def YS {W:ì}{m:Nat}(h:uv W m=true):ę<=m/\∀ r∈W,á:=by
 unfold uv at h;rw[AK,Ö,B9,List.any_eq_false] at h;exact#[h.1,Ŷ];let#[k,hk,rfl]:=List.getElem_of_mem hr;have:=h.2 k (AO.mpr hk);unfold uU at this;rw[Dl,not_or] at this;have e:Ĉ=W[k]:=by simp[hk]
 rw[e] at this;exists this.1
def gC {is:List Nat}{f:Ev->ġ (Û)}{g:T->Ev->ġ Ev}{b k:Sm}Ħ Ã5{c:Bool}{o:ġ Out}(hf:f J=↑ts) (hl:xS is g b ts J=↑(if (!c)=true then .rt đ else .nx J)) (h1:c=Æ->↑(Out.rt đ)=o) (h2:c=true->k J=o):zq (vN is f g b) k J=o:=by
 cases c with
 | Æ=>show (yN (mD hf hl)).trans (h1 rfl)
 | true=>show zt (mD hf hl) (h2 rfl)
def L9 {Q:ì}(h:∀ r∈Q,á) {os:Û}(hr:(Q.all λ r=>æ)=true):∀ r∈Q,zg ľ (Ã 0)=↑(Ã (vf r)):=λ r Dp=>by
 let#[a,b,c,d,rfl]:=kh (h r Dp);have:=AV.mp hr _ Dp;rw[AK] at this;ext ă;rw[e,AK] at this;cases a with
 | i n=>rfl
 | b c=>cases this.1.1
theorem ly ē (hbr:zY br=true) (Ce:Ã7) (DU:À<=1000) (hw:ę<=1000) (hq:Q.length<=1000):sf [br,Ć,Ĳ,È (Q.map kT)]=↑(.bl (uJ ÿ)):=by
 exact zN ?_ rfl;change dG (Ķ)=_;unfold dG uJ;exact kq (KD (J:=Ķ) rfl hbr) (λ z=>?_) λ z=>?_
 .rw[B9] at z;rw[z];rfl
 rw[CD] at z;rw[z,Bi];have l1:=rC Ã4 (b:=YO) (λ t:T=>t) (λ o=>!xv o) đ (Ķ) os (Ķ) rfl (λ o ho=>#[xy ÿ ↑(.im o) none n8,rfl,(iM (Qu o (zY.mem Ce ho) (J:=xy ÿ ↑(.im o) none n8) rfl)).trans rfl]);rw[D9,lb] at l1;exact gC (ts:=os) rfl l1 À6 λ z1=>?_;rw[z1,Bi];have a1:=X2 W 24 hw;have a2:=X2 Q 8 hq;have h3:=rz (f:=yf (zX (zi nj (za (zl 2) (za (cI 24) ze))))) (g:=yf (zX (zi nj (za (zl 3) (za (cI 8) ze))))) (J:=Ķ) (yU (yZ (z_ Ĭ a1))) λ _=>yU (yZ (z_ Ĭ a2));exact kq h3 (λ z=>?_) λ z2=>?_
 .ext Ġ
  .rfl
  .rw[CG];rfl
 rw[ED,CD,CD] at z2;rw[z2.1,z2.2,Bi,Bi];obtain⟨-,w4⟩:=YS z2.1;let#[q8,q4]:=YS z2.2;exact zt (J':=Ů) (yv (zk (zO (x:=Ć) Ä) Ä)) ?_;have l2:=rC (is:=[6,7,8,9]) (g:=ō) (b:=jl) kT (λ r=>!zQ ľ ť) đ (Ů) W (Ů) rfl (λ r hr=>WN ÿ À r (w4 ŋ));rw[lb] at l2;exact gC (ts:=W.map kT) rfl l2 À6 λ z3=>?_;rw[z3,Bi];have l3:=rC (is:=[10,11,12,13]) (g:=Ń) (b:=jj) kT (λ r=>!(æ)) đ (Ů) Q (Ů) rfl (λ r hr=>VH ÿ z1 r (q4 ŋ));rw[lb] at l3;exact gC (ts:=Q.map kT) rfl l3 À6 λ z4=>?_;rw[z4,Bi];have hc:fy (Ů)=↑(Ø ((Q.map vf).map î)):=by
  unfold fy;rw[AI];exact xf kT _ Q rfl ⋯ Ŷ;change (zb zg Ă Ċ [↑(.im ľ)]).map some=_;rw[zk Ä (L9 q4 z4 ŋ)];rfl
 exact yh (zk (x:=Ã ((xm (Q.map vf)).length:Nat)) (Å0) (zO (x:=È (Q.map kT)) Ä) ?_)
 .change (wF ((Q.map vf).map î)).bind _=_;rw[m6,B4,ļ Ä4]
 .rw[Ď,Af];ext Ĝ
theorem cy:∀ rs:Â,we rs=(Ó (ù-1)).all λ k=>ı (Œ) (rs.getD (k+1) [])
 | []=>rfl
 | [a]=>rfl
 | a::b::l=>by
  have ih:=cy (b::l);rw[we,ih];simp![Be,EL];rw[EU,Cp,Bz];rfl
def ZR Ç5 (k:Nat):(ĉ É).getD k []=(Œ).map Kx.i:=by
 by_cases h:k<ù <;> simp[h]
theorem YQ Ç5 (h4:∀ r∈rs,á):(!(Ó (ĉ É).length).any (uU Ţ))=we rs:=by
 have hb:∀ k,k<ù->uU Ţ k=(ß (0<k)&&! ı (rs.getD (k-1) []) (Œ)):=λ k hk=>by
  unfold uU;rw[ZR,ZR,og,og,Af];have e:Œ=rs[k]:=by simp[hk]
  have:(Œ).length=4:=by rw[e];show h4 _ (B3 hk)
  rw[tx (λ z=>z this),Bool.false_or]
 rw[Af,cy];cases hr:rs with
 | nil=>rfl
 | cons a l=>
  rw[<- hr];have hl:ù=(ù-1)+1:=by rw[hr];rfl
  conv=>lhs;rw[hl,EU,DB,List.any_map]
  rw[hb 0 (by rw[hr];show D8 _)];change (!(Æ||Æ4 (uU _ ∘ Nat.succ)))=_;rw[Bool.false_or];have e:Æ4 (uU Ţ ∘ Nat.succ)=Æ4 λ k=>! ı (Œ) (rs.getD (k+1) []):=by
   rw[Dm,Cr,Cr];constructor
   .ext ţ;rw[Á8,hb (k+1) ⋯,tp (D8 k),Bi] at h;show h
   .ext ţ;rw[Á8,hb (k+1) ⋯,tp (D8 k),Bi];show h
  rw[e,lb,Bool.not_not]
theorem ZD {n:Int}:∀ {l:Ï},l.Pairwise (· < ·)->n∈l->(insI n l).length<=l.length
 | [],_,h=>Ų h #[]
 | m::l,hp,h=>by
  have IT:=BJ.mp hp;unfold insI;split
  .rename_i c;rcases Ao.mp h with e | e
   .lia
   .have:=IT.1 n e;lia
  .split
   .show Am _
   .rename_i c1 c2;have:=ZD IT.2 ((Ao.mp h).resolve_left c2);rw[Be,Be];lia
theorem ZE {n:Int}:∀ l:Ï,(insI n l).length<=l.length+1
 | []=>Am _
 | m::l=>by
  have:=ZE (n:=n) l;unfold insI;split
  .show Am _
  .split
   .show CJ _
   .rw[Be,Be];lia
theorem c7:∀ {ns:Ï},(xm ns).length=ns.length->ns.Nodup
 | [],_=>.nil
 | n::ns,h=>by
  have h1:=c8 ns;have h2:=ZE (n:=n) (xm ns);have h:(insI n (xm ns)).length=ns.length+1:=h;have hn:n∉ns:=λ z=>by
   have:=ZD (nC ns) (mm.mpr z);lia
  show Bj.mpr #[hn,c7 ⋯]
theorem MJ {n:Int}:∀ {l:Ï},(∀ m∈l,n<m)->insI n l=n::l
 | [],_=>rfl
 | m::l,h=>by
  unfold insI;rw[ļ (h m Aw)]
theorem c9:∀ {ns:Ï},ns.Pairwise (· < ·)->xm ns=ns
 | [],_=>rfl
 | n::ns,h=>by
  have h':=BJ.mp h;change insI n (xm ns)=_;rw[c9 h'.2,MJ h'.1]
theorem c5:∀ {ns:Ï},wA ns=true->ns.Pairwise (· < ·)
 | [],_=>.nil
 | [a],_=>DG _ _
 | a::b::l,h=>by
  simp![wA,AK,Ö] at h;have ih:=c5 h.2;ext Ř
  .show h.1
  .show Int.lt_trans h.1 ((BJ.mp ih).1 x hx)
theorem cx:∀ {rs:Â},(ħ)->we rs=true->(ĉ fst).Nodup->wA (ĉ fst)=true
 | [],_,_,_=>rfl
 | [a],_,_,_=>rfl
 | a::b::l,hn,h,nd=>by
  simp![we,AK] at h;have ih:=cx (λ r hr=>hn r (AD _ hr)) h.2 (Bj.mp nd).2;have AA:fst a≠fst b:=λ z=>(Bj.mp nd).1 (by rw[z];show Aw);have Ax:fst a<fst b:=by
   ext Ã6;cases a with
   | nil=>show Ų rfl h1
   | cons x a=>
    cases b with
    | nil=>show Ų rfl h2
    | cons y b=>
     rw[HT.rD,if_neg (show ¬ x=y from AA)] at h;show of_decide_eq_true h.1
  change Ű;rw[tp Ax,ih];rfl
theorem kW:∀ {rs:Â},(ħ)->wA (ĉ fst)=true->we rs=true
 | [],_,_=>rfl
 | [a],_,_=>rfl
 | a::b::l,hn,h=>by
  have h:Ű:=h;rw[AK,Ö] at h;have ih:=kW (λ r hr=>hn r (AD _ hr)) h.2;ext Ã6;change (ı a b&&we (b::l))=true;rw[ih,DC];cases a with
  | nil=>show Ų rfl h1
  | cons x a=>
   cases b with
   | nil=>show Ų rfl h2
   | cons y b=>
    have h3:x<y:=h.1;rw[HT.rD,if_neg ⋯];show tp h3
theorem jQ {hi:Int}:∀ (ns:Ï) (a:Int),wA (a::ns)=true->(∀ n∈a::ns,n<hi)->((a::ns).length:Int)<=hi-a
 | [],a,_,h=>by have:=h a Aw;change (1:Int)<=_;lia
 | b::ns,a,h,hh=>by
  simp![wA,AK,Ö] at h;have ih:=jQ ns b h.2 λ n hn=>hh n (AD _ hn);rw[Be] at ih ⊢;have:=h.1;rw[Be];lia
def ZT (r:Ï):vf (ū Kx.i)=fst r:=by unfold vf;rw[og];rfl
def L8 (qr:Â):(Á9).map vf=qr.map fst:=by
 rw[AI];show CP λ r _=>ZT r
def Xa (qr:Â) (p:Ĵ->Bool) (q:Ï->Bool) (h:∀ r,p (ū Kx.i)=q r):(Á9).all p=qr.all q:=by
 rw[Bz];congr 1;show funext h
abbrev fT (br:T) (os:Û) (wr qr:Â):T:=È [br,Ć,Ė,ŷ]
def Mf ä Ì:
  uJ br os (Æ5) (Á9)=uK (Á):=by
 have eo:tD (Ć)=ŭ:=by
  change ((ß (1<=À)&&ß (À<=8))&&ŭ)=_;rw[tp h1,tp h8];rfl
 have ew:su (Ė) À=(uv (Æ5) 24&&wr.all λ r=>zQ ņ ť):=by
  change (((Ù).all λ r=>zQ r ť)&&(ß ((Ù).length<=24)&&(we ((Ù).map rowOf)&&_)))=_;rw[nP,hc,DC,Af,Bz];unfold uv;rw[YQ wr w4,Af,Bool.and_comm];rfl
 have qne:∀ r∈qr,r≠[]:=λ r hr z=>by have:=q4 ŋ;ext Ņ
 have es:rn (ŷ) os=(uv (Á9) 8&&((qr.all Æ6)&&ß ((xm (qr.map fst)).length=ű))):=by
  change (((é).all λ r=>zQ r Ã1)&&(wA (((é).map rowOf).map fst)&&(((é).map rowOf).map fst).all (keeps os)))=_;rw[nP,Bz,Bz];unfold uv;rw[YQ qr q4,Af,Dm];simp![AK,AV,Ö,Á8];constructor
  .rintro⟨a1,a2,a3⟩;have hp:=c5 a2;exact#[#[?_,kW qne a2],λ r hr=>#[a1 ŋ,a3 ŋ],by rw[c9 hp,Af]];cases hq:qr with
   | nil=>show A_ _
   | cons r l=>
    have hb:∀ q∈qr,0<=fst q/\fst q<À:=λ q IB=>by
     let#[a,b,c,d,rfl]:=vI (q4 q IB);have:=a1 _ IB;ext ď;rw[e,AK] at this;have z:(ß (0<=a)&&ß (a<=ð))=true:=this.1;rw[AK,Ö,Ö] at z;change 0<=a/\a<_;lia
    rw[hq,AJ] at a2;have hl:=jQ (hi:=À) (l.map fst) ŉ a2 λ n hn=>by
     ext ż;show (hb q IB).2
    have:=(hb r (by rw[hq];show Aw)).1;rw[Be,Af] at hl;rw[Be];lia
  .rintro⟨⟨-,a2⟩,a3,a4⟩;exact#[λ r hr=>(a3 ŋ).1,cx qne a2 (c7 (by rw[a4,Af])),λ r hr=>(a3 ŋ).2]
 have e1:=Xa wr (λ r=>zQ ľ ť) (λ r=>zQ ņ ť) λ r=>by rw[sC]
 have e2:=Xa qr (λ r=>æ) (Æ6) λ r=>by rw[sC,ZT]
 change uJ br os _ _=œ
 unfold uJ;rw[e1,e2,L8,Af,eo,ew,es];generalize zQ br bb=a;generalize ŭ=b;generalize uv _ 24=c;generalize uv _ 8=d;cases a <;> cases b <;> cases c <;> cases d <;> simp
def gK (r:Ĵ):Bool:=match r with
 | [.i _,.i _,.i _,.i _]=>true
 | _=>Æ
def Lp {r:Ĵ}(h:gK r=true):∃ q:Ï,r=ŵ/\q.length=4:=by
 unfold gK at h;split at h
 .show#[[_,_,_,_],rfl,rfl]
 .cases h
def bz {r:Ĵ}(h:gK r=Æ) {p q s t:Int×Int}:zQ ľ [p,q,s,t]=Æ:=by
 rw[<- EF];intro z;have hz:(ß ((ū zR).length=4)&&_)=true:=z;rw[AK,Ö,Af] at hz;let#[a,b,c,d,rfl]:=kh hz.1;have e:zQ (kT Ü) [p,q,s,t]=(wh (zR a) p.1 p.2&&(wh (zR b) q.1 q.2&&(wh (zR c) s.1 s.2&&wh (zR d) t.1 t.2))):=À5;rw[e] at z;simp![AK] at z;cases a with
 | b _=>cases z.1
 | i _=>
  cases b with
  | b _=>cases z.2.1
  | i _=>
   cases c with
   | b _=>cases z.2.2.1
   | i _=>
    cases d with
    | b _=>cases z.2.2.2
    | i _=>cases h
def Zk Ä3(hr:r∈W) (h:gK r=Æ):uJ ÿ=Æ:=by
 have:(W.all λ r=>zQ ľ ť)=Æ:=by
  rw[D7];show#[r,hr,by rw[show zQ ľ ť=Æ from bz h];show BC]
 unfold uJ;rw[this];simp
def Mg Ä3(hr:r∈Q) (h:gK r=Æ):uJ ÿ=Æ:=by
 have:(Q.all λ r=>æ)=Æ:=by
  rw[D7];show#[r,hr,by rw[show zQ ľ Ã1=Æ from bz h];show BC]
 unfold uJ;rw[this];simp
abbrev NF:T:=.err "NoFloor" "" .zm
def qF (t:T):Bool:=match t with
 | Ã _=>true
 | _=>Æ
def vt (t:T):Bool:=match t with
 | ģ=>ß (è=4)&&ts.all qF
 | _=>Æ
def Jh (t:T) (he:zP t=Æ):q_ [t]=↑(.bl (qF t)):=by
 rw[eP t he];cases t <;> rfl
theorem df (t:T) (he:zY t=true) (hl:∀ ts,t=ģ->è<=1000):l8 [t]=↑(.bl (vt t)):=by
 exact zN (yh ?_) rfl;cases t with
 | tup ts=>
  exact oK rfl ?_;have h1:zb (zv Æ) ĕ (cI 4) [↑ Ŝ]=↑(.bl (ß (è=4))):=by
   exact zk Æ8 rfl ?_;rw[Ď];ext Ĝ
  exact KU h1 λ h4=>?_;have hc:fM [↑ Ŝ]=↑(Ø (ts.map λ u=>T.bl (qF u))):=by
   unfold fM;exact xf (λ u:T=>u) _ ts ?_ (by have:=hl ts rfl;lia) λ u hu=>?_
   .rw[D9];rfl
   .change (zi q_ (za (zl 0) ze) [↑(.im u)]).map some=_;rw[zO rfl (Jh u (zY.mem he hu))];rfl
  exact Å0;change (uu (ts.map λ u=>T.bl (qF u))).map ċ=_;rw[ur,Æ9,tU]
 | err _ _ _=>cases zY.top he
 | _=>show Y_ rfl
theorem Z9:∀ Ã5,ts.all qF=true->∃ r:Ï,ts=ū î
 | [],_=>#[[],rfl]
 | t::ts,h=>by
  rw[Cp,AK] at h;let#[r,rfl]:=Z9 h.2;cases t with
  | int n=>show#[n::r,rfl]
  | _=>cases h.1
def Uq {t:T}(h:vt t=true):∃ r:Ï,t=zh r/\á:=by
 cases t with
 | tup ts=>
  have h:(ß (è=4)&&ts.all qF)=true:=h;rw[AK,Ö] at h;let#[r,rfl]:=Z9 h.2;show#[r,rfl,by rw[<- h.1,Af]]
 | _=>cases h
def kg {r:Ï}(h:á):vt ņ=true:=by
 change (ß ((ū î).length=4)&&(ū î).all qF)=true;rw[Af,tp h,Bz,Bi,AV];intro x _;rfl
structure Th (t:T):Prop where
 e:zY t=true
 l:∀ ts,t=ģ->è<=1000
 d:∀ ts,t=ģ->∀ u∈ts,dep u<=60
def pV (r:Ï):zY ņ=true:=by
 change (!zP ņ&&(ū î).all λ u=>!zP u)=true;rw[show zP ņ=Æ from rfl,Bz];change r.all _=true;rw[AV];intro x _;rfl
def Th.row {r:Ï}(h:á):Th ņ:=#[pV r,λ ts e=>by cases e;rw[Af];lia,λ ts e u hu=>by
 cases e;let#[n,_,rfl]:=Av.mp hu;simp[dep]]
section
variable {br O:T}{os ws qs:Û}
def o5 (br O:T) (ws qs:Û) (v:ġ L5.W):Ev:=[↑ À2,↑(.im O),↑(.im (Ø ws)),↑(.im (Ø qs)),v]
theorem YB Į:zi À4 (za jg ze) (o5 br O ws qs none)=↑(.bl ((ws++qs).all vt)):=by
 have hc:jg (o5 br O ws qs none)=↑(Ø Ã2):=by
  unfold jg;exact xf (λ u:T=>u) _ (ws++qs) ?_ (by rw[Bh];lia) λ u hu=>?_
  .rw[D9];change (zb zT Ē Ç0 _).bind _=_;rw[zk (x:=Ø ws) (y:=Ø qs) Ä (ļ (Bc hl ()))];rfl
  .have ht:Th u:=(Bb.mp hu).elim (hw u) (hq u);change (zi l8 (za (zl 0) ze) [↑(.im u)]).map some=_;rw[zO rfl (df u ht.e ht.l)];rfl
 exact Å0;change (uu Ã2).map ċ=_;rw[ur,Æ9,tU]
def X0 Į (hb:(ws++qs).all vt=Æ):vo [br,O,Ø ws,Ø qs]=↑NF:=by
 have h:=YB (br:=br) (O:=O) hw hq hl;rw[hb] at h;show zN (yN (yx (yU (yZ h)) rfl)) rfl
def pb {wr qr:Â}(hO:wo O=↑os) Ļ (BL:û<64) (BQ:ű<64) (w4:Ÿ) (q4:∀ r∈qr,á):
  vo [br,O,Ø (Ù),Ø (é)]=↑(if uK (ñ)=true then ñ else NF):=by
 have tw:∀ t∈ Ù,Th t:=λ t ht=>by ext ĺ;show .row (w4 ŋ)
 have tq:∀ t∈ é,Th t:=λ t ht=>by ext ĺ;show .row (q4 ŋ)
 have h:=YB (br:=br) (O:=O) tw tq (by rw[Af,Af];lia);have Ay:(Ù++é).all vt=true:=by
  rw[EC,Bz,Bz,AK,AV,AV];show#[λ r hr=>kg (w4 ŋ),λ r hr=>kg (q4 ŋ)]
 rw[Ay] at h;have ne:∀ {l:Â},(∀ r∈l,á)->∀ r∈l,r≠[]:=λ h r hr z=>by have:=h ŋ;ext Ņ
 have s1:=nM wr BL (ne w4);have s2:=nM qr BQ (ne q4);have nr:∀ l:Â,∀ r∈l.map zh,zY r=true:=λ l r hr=>by let#[q,_,rfl]:=Av.mp hr;show pV q
 have sl:∀ l:Â,l.length<64->((yd l).map zh).length<=16777216:=λ l hl=>by rw[Af,(wg l).length_eq];lia
 have hf:=Jx br os ((yd wr).map zh) ((yd qr).map zh) hb ho (nr _) (nr _) (sl wr BL) (sl qr BQ);have hO':∀ v,zi yz (za (zc 1) ze) (o5 br O (Ù) (é) v)=↑(Ć):=λ v=>by
  exact zO (x:=O) rfl ?_;change (wo O).map T.tup=_;rw[hO];rfl
 have ht:tupS (za (zl 0) (za (zi yz (za (zc 1) ze)) (za (zi yz (za (zi vX (za Ē ze)) ze)) (za (zi yz (za (zi vX (za Ç0 ze)) ze)) ze)))) (o5 br O (Ù) (é) none)=↑(ñ):=
  yY (zf rfl (zf (hO' none) (zf (zO (zO rfl s1) rfl) (zf (zO (zO rfl s2) rfl) rfl)))) ą
 exact zN (zt (zL (yU (b:=true) (yZ h)) rfl) (zt (yv ht) ?_)) rfl;change zq _ _ Â0=_;have hi:zX (zi l9 (za (zl 4) ze)) Â0=↑(uK (ñ)):=yZ (zO rfl hf);cases hv:uK (ñ) with
 | true=>
  rw[hv] at hi;show zt (zL (yU (b:=true) hi) rfl) rfl
 | Æ=>
  rw[hv] at hi;show yN (yx (yU (b:=Æ) hi) rfl)
end
theorem lJ:∀ {rs:Â},we rs=true->rs.Pairwise Ä5
 | [],_=>.nil
 | [a],_=>DG _ _
 | a::b::l,h=>by
  simp![we,AK] at h;have ih:=lJ h.2;have Bx:=kF a b h.1;ext Ř
  .show Bx
  .show kE a b x Bx ((BJ.mp ih).1 x hx)
def lV {rs:Â}(h:rs.Pairwise Ä5):yd rs=rs:=(lW (.refl _) h).symm
structure Ff (br:T) (os:Û) (wr qr:Â):Prop where
 b:zQ br bb=true
 n1:1<=À
 n8:À<=8
 o:ŭ=true
 w:∀ r∈wr,zQ ņ ť=true
 wl:û<=24
 wu:we wr=true
 wc:ł
 q:∀ r∈qr,zQ ņ Ã1=true
 qu:wA (qr.map fst)=true
 qk:∀ r∈qr,keeps os ŉ=true
def Z_ ä(h:uK (Á)=true):Ĥ:=by
 have h:œ=true:=h;simp![AK,tD,su,rn,Ö,nP,Af,Bz] at h;let#[#[hb,#[o1,o2],o3],#[w1,w2,w3,w4],q1,q2,q3]:=h;show#[hb,o1,o2,o3,λ r hr=>AV.mp w1 ŋ,w2,w3,w4,λ r hr=>AV.mp q1 ŋ,q2,λ r hr=>by
  simp![AV,Á8] at q3;show q3 ŋ]
section
variable {ä}(h:Ĥ)
include h
theorem Ff.w4:Ÿ:=λ r hr=>by
 let#[q,e,l,_]:=pJ (h.w ŋ);ext Å2
 ext ŏ
theorem Ff.q4:∀ r∈qr,á:=λ r hr=>by
 let#[q,e,l,_]:=pJ (h.q ŋ);ext Å2
 ext ŏ
theorem Ff.wv {r:Ï}(hr:r∈wr):∃ a b c d:Int,r=Ü/\(0<=a/\a<À)/\(0<=b/\b<À)/\(-12<=c/\c<=12)/\-12<=d/\d<=12:=by
 let#[a,b,c,d,rfl]:=vI (h.w4 ŋ);have e:zQ (zh Ü) ť=(wh (Ã a) 0 (ð)&&(wh (Ã b) 0 (ð)&&(wh (Ã c) (-12) 12&&wh (Ã d) (-12) 12))):=À5;have:=h.w _ hr;ext Ĕ
theorem Ff.qv {r:Ï}(hr:r∈qr):∃ a b c d:Int,r=Ü/\(0<=a/\a<À)/\(b=0\/b=1)/\(1<=c/\c<=12)/\0<=d/\d<=12:=by
 let#[a,b,c,d,rfl]:=vI (h.q4 ŋ);ext ď;have:=h.q _ hr;ext Ĕ
theorem Ff.ql:ű<=8:=by
 cases hq:qr with
 | nil=>show A_ _
 | cons r l=>
  have h2:=h.qu;rw[hq,AJ] at h2;have hl:=jQ (hi:=À) (l.map fst) ŉ h2 λ n hn=>by
   ext ż;let#[a,b,c,d,rfl,z,_]:=h.qv IB;show z.2
  let#[a,b,c,d,rfl,z,_]:=h.qv (by rw[hq];show Aw);have h0:0<=fst Ü:=z.1;have:=h.n8;rw[Be,Af] at hl;rw[Be];lia
theorem Ff.nb:zY br=true:=by
 let#[r,rfl,_]:=pJ h.b;show pV r
theorem Ff.no:Ã7:=by
 change (!zP (Ć)&&os.all λ u=>!zP u)=true;rw[show zP (Ć)=Æ from rfl,CN,Bi,AV];intro u hu;have:=AV.mp h.o u hu;cases u with
 | err _ _ _=>cases this
 | _=>rfl
theorem Ff.qp:qr.Pairwise Ä5:=lJ (kW (λ r hr z=>by have:=h.q4 ŋ;ext Ņ) h.qu)
theorem Ff.ws:yd wr=wr:=lV (lJ h.wu)
theorem Ff.qs:yd qr=qr:=lV h.qp
end
def same_int Ŕ (i:Int):w_ (n+1) [Ã i,Ã i]=↑ ã:=by
 exact zN (zt Ã3 (zt Ã3 (yh (oK rfl (oK rfl (zk Ä ?_)))))) rfl;rw[Ď,tp rfl];rfl
def same_str Ŕ (s:Str):w_ (n+1) [.str s,.str s]=↑ ã:=by
 exact zN (zt Ã3 (yN (yx rfl (yh (oK rfl (zk Ä ?_)))))) rfl;rw[eq_str,beq_self_eq_true];rfl
theorem kd Ŕ (ts:Û) (hl:è<=1000) (h:∀ t∈ts,w_ n [t,t]=↑ ã):w_ (n+1) [ģ,ģ]=↑ ã:=by
 have hc:fH (w_ n) [↑ Ŝ,↑ Ŝ]=↑(Ø Å1):=by
  unfold fH;exact xf ć _ (Ó è) ?_ (by rw[B5];lia) λ k hk=>?_
  .show sE è ⋯
  .have HS:k<è:=AO.mp hk;have e:ř ts Ñ=↑ts[k]:=zA (AF HS);have e2:=h ts[k] (B3 HS);simp[ve,e,e2]
 exact zN (yN (yx rfl (zt (zL (uI (yU (b:=true) (yZ rfl)) (yG (zk Æ8 Æ8 ?_))) rfl) (yh (Å0))))) rfl
 .rw[Ď,tp rfl];rfl
 .change (uu Å1).map ċ=_;rw[ur (λ _=>true)];simp
def bg Ŕ (r:Ï) (hl:r.length<=1000):w_ (n+2) [zh r,zh r]=↑ ã:=kd (n+1) _ (by rw[Af];show hl) λ t ht=>by
 let#[i,_,rfl]:=Av.mp ht;show same_int n i
def ar {o:T}(h:xv o=true):∃ s:Str,o=.str s:=by
 cases o with
 | str s=>show#[s,rfl]
 | _=>cases h
theorem Uh ä(h:Ĥ):w_ 6 [Á,Á]=↑ ã:=by
 have FI:∀ rs:Â,ù<=100->(∀ r∈rs,á)->w_ 5 [È (ĉ zh),È (ĉ zh)]=↑ ã:=λ rs h1 h2=>kd 4 _ Ä4 λ t ht=>by
  ext ĺ;show bg 2 r (by rw[h2 ŋ];decide)
 have h1:=h.wl;have h2:=h.ql;have h3:=h.n8;exact kd 5 _ (by change 4<=1000;decide) λ t ht=>?_;simp![Ao,AN,or_false] at ht;rcases ht with rfl | rfl | rfl | rfl
 .let#[r,rfl,hr,_]:=pJ h.b;show bg 3 r (by rw[hr];decide)
 .show kd 4 _ ⋯ λ t ht=>by
   let#[s,rfl]:=ar (AV.mp h.o t ht);show same_str 3 s
 .show FI wr ⋯ h.w4
 .show FI qr ⋯ h.q4
def eq_self (t:T) (h:dep t<=60) (neg:Bool):zv neg t t=↑(.bl (cond neg Æ true)):=by
 unfold zv;rw[ļ #[h,h],gO];rfl
def aQ:List Str:=["NoFloor","NoPlace","NoWay","NoPair","NoCount","NoMore","NoChange","NoName","NoRow"]
def qI (c:Str):Û:=aQ.map λ k=>T.bl (yn k c)
def lg {f g:Ae}Ħ{ts us:Û}(h:f J=↑(Ø ts)) (h':g J=↑(Ø us)) (hl:è+us.length<=10000):zb zT f g J=↑(Ø (ts++us)):=zk h h' (ļ (Bc hl ()))
def Jy (c f:Str) (y:T):jC [.err c f y]=↑(Ø (qI c)):=
 zN (zt (yv (yV Õ Đ)) (zt (yv (lg rfl (yV Õ Đ) (by change 3+3<=10000;decide))) (yh (lg (ts:=[.bl (yn "NoFloor" c),.bl (yn "NoPlace" c),.bl (yn "NoWay" c),.bl (yn "NoPair" c),.bl (yn "NoCount" c),.bl (yn "NoMore" c)]) (us:=[.bl (yn "NoChange" c),.bl (yn "NoName" c),.bl (yn "NoRow" c)]) rfl (yV Õ Đ) (by change 6+3<=10000;decide))))) rfl
def mx (k:Int):Û:=(Ó 9).map λ(j:Nat)=>T.bl (ß (k=0+Å8))
theorem KA (a c:ġ L5.W) (k:Int):je [a,↑ Ŀ,c]=↑(Ø (mx k)):=by
 unfold je;exact xf (λ j:Nat=>î (0+Å8)) _ (Ó 9) (sE 9 ()) () λ j hj=>?_;change (zb (zv Æ) (zc 1) Ă [↑(.im (Ã (0+Å8))),↑ Ŀ]).map some=_;rw[zk Ä (Ď k (0+Å8) Æ)];rfl
theorem Yn:∀ bs:Å6,yA (bs.map T.bl)=0
 | []=>rfl
 | b::bs=>by rw[AJ,yA,Yn bs];rfl
def iz {c f:Str}{y:T}{k:Int}{HC:T}(h:qI c=mx k):yL (yf (zX (ug (λ _=>true) Ă))) (zw (zb ī (zi jC (za (zl 0) ze)) je)) [↑(.im (.err c f y)),↑ Ŀ,↑(.im HC)]=↑ Æ:=by
 exact uI (yU (b:=true) (yZ rfl)) (yG (zk (zO rfl (Jy c f y)) (KA _ _ k) ?_));rw[<- h,eq_self _ ?_ true];rfl;have e:qI c=(aQ.map λ k=>yn k c).map T.bl:=by unfold qI;rw[AI];rfl
 rw[e,dep,Yn];decide
set_option maxRecDepth 10000 in
theorem Ly:qI "NoFloor"=mx 0:=by
 have k0:yn "NoFloor" "NoFloor"=true:=()
 have k1:yn "NoPlace" "NoFloor"=Æ:=()
 have k2:yn "NoWay" "NoFloor"=Æ:=()
 have k3:yn "NoPair" "NoFloor"=Æ:=()
 have k4:yn "NoCount" "NoFloor"=Æ:=()
 have k5:yn "NoMore" "NoFloor"=Æ:=()
 have k6:yn "NoChange" "NoFloor"=Æ:=()
 have k7:yn "NoName" "NoFloor"=Æ:=()
 have k8:yn "NoRow" "NoFloor"=Æ:=()
 ext Ò
theorem Lx:qI "NoPlace"=mx 1:=by
 have k0:yn "NoFloor" "NoPlace"=Æ:=()
 have k1:yn "NoPlace" "NoPlace"=true:=()
 have k2:yn "NoWay" "NoPlace"=Æ:=()
 have k3:yn "NoPair" "NoPlace"=Æ:=()
 have k4:yn "NoCount" "NoPlace"=Æ:=()
 have k5:yn "NoMore" "NoPlace"=Æ:=()
 have k6:yn "NoChange" "NoPlace"=Æ:=()
 have k7:yn "NoName" "NoPlace"=Æ:=()
 have k8:yn "NoRow" "NoPlace"=Æ:=()
 ext Ò
theorem Lw:qI "NoWay"=mx 2:=by
 have k0:yn "NoFloor" "NoWay"=Æ:=()
 have k1:yn "NoPlace" "NoWay"=Æ:=()
 have k2:yn "NoWay" "NoWay"=true:=()
 have k3:yn "NoPair" "NoWay"=Æ:=()
 have k4:yn "NoCount" "NoWay"=Æ:=()
 have k5:yn "NoMore" "NoWay"=Æ:=()
 have k6:yn "NoChange" "NoWay"=Æ:=()
 have k7:yn "NoName" "NoWay"=Æ:=()
 have k8:yn "NoRow" "NoWay"=Æ:=()
 ext Ò
theorem Xy Č:l6 [y,y]=↑ ã:=by
 have hi:∀ i,i<2->∀ ty:String,FN ty (zc i) š=↑(.bl (xg t ty)):=λ i hi ty=>by
  change (zc i š).bind _=_;have e:zc i š=↑y:=by
   match i,hi with
   | 0,_=>rfl
   | 1,_=>rfl
  rw[e];change (p0 y).map _=_;rw[ht];rfl
 have hb:∀ b:Bool,zv true (.bl b) (.bl b)=↑ đ:=λ b=>eq_self _ (by simp[dep]) true;show zN (zt (zL (uI ž ž) rfl) (yh (zk Ä (eq_self y hd Æ)))) rfl
def bB:qZ [NF,Ã 0,.zm]=↑ ã:=
 zN (zt (zL (iz Ly) rfl) (zt Ã3 rfl)) rfl
def Ux Č:qZ [.err "NoPlace" "place" y,Ã 1,y]=↑ ã:=
 zN (zt (zL (iz Lx) rfl) (yN (yx rfl (yh (ſ))))) rfl
def Uw Č:qZ [.err "NoWay" "way" y,Ã 2,y]=↑ ã:=by
 exact zN (zt (zL (iz Lw) rfl) (zt Ã3 (yh ?_))) rfl;change (zb (zv Æ) (zc 1) Ċ _).bind _=_;rw[zk (x:=Ã 2) Ä (Ď 2 0 Æ)];change zi l6 (za (kU "way" Ă) (za (zl 2) ze)) [↑(.im (.err "NoWay" "way" y)),↑(.im (Ã 2)),↑(.im y)]=_;show ſ
section
variable {V FY HB:T}
def oz (V FY HB ref f c:T):Ev:=[↑(.im V),↑(.im FY),↑(.im HB),↑(.im ref),↑(.im f),↑(.im c),none]
def jU {ref e:T}(h:Ĺ=↑e) (he:zP e=true):ĳ=↑(.nx (oz V FY HB ref .zm e)):=by
 ext Å3;change ((À7:Out) |> λ o=>(some o).bind _)=_;simp![he,if_true];change (À7)=_;rw[ļ he];rfl
theorem Vh {ref e:T}(h:Ĺ=↑e) (he:zP e=Æ):ĳ=↑(.nx (oz V FY HB ref e .zm)):=by
 ext Å3;change (some (À7:Out)).bind _=_;rw[if_neg (by rw[he];show BC)];rfl
def b6 {k:Int}{HC e:T}(h:Ĺ=↑e) (he:zP e=true) (hr:qZ [e,Ã k,HC]=↑ ã):uC [V,FY,HB,È [Ã k,HC]]=↑ ã:=
 zN (zt rfl (zt rfl (zt (jU h he) (yN (yx rfl (yh (z_ Õ hr))))))) rfl
def iy {a b c d:T}(h:Ĺ=↑NF) (hn:c=.zm\/d=.zm) (hc:∃ x,wN Æ c .zm=↑(.bl x)):uC [V,FY,È Ü,.zm]=↑ ã:=by
 exact zN (zt rfl (zt rfl (zt (jU h rfl) (zt Ã3 (yN (yx ?_ (yh (z_ Õ bB)))))))) rfl;rcases hn with rfl | rfl
 .show rq rfl
 .let#[x,hx]:=hc;have t1:zw À0 (oz V FY (È [a,b,c,.zm]) .zm .zm NF)=↑x:=yG (zk (x:=c) Ä hx);cases x with
  | true=>show rq t1
  | Æ=>show uI t1 (rq rfl)
def nR {a b:T}{cs ds:Û}{g:Bool}(h:Ĺ=↑(if g=true then È ü else NF)) (hf:sf ü=↑(.bl g)) (hs:g=true->w_ 6 [È ü,È ü]=↑ ã):
  uC [V,FY,È ü,.zm]=↑ ã:=by
 have hl:∀ f c,yL (zw À0) (yL (zw (zb (wN Æ) (zb zg Ē (cI 3)) (cS .zm))) (yf (zX (zi sf (za (zb zg Ē Ċ) (za (zb zg Ē (cI 1)) (za (zb zg Ē Æ3) (za (zb zg Ē (cI 3)) ze)))))))) (oz V FY (È ü) .zm f c)=↑(!g):=λ f c=>
  uI rfl (uI rfl (yU (yZ (z_ (zf rfl Õ) hf))))
 cases g with
 | Æ=>show zN (zt rfl (zt rfl (zt (jU h rfl) (zt Ã3 (yN (yx (hl _ _) (yh (z_ Õ bB)))))))) rfl
 | true=>show zN (zt rfl (zt rfl (zt (Vh h rfl) (zt Ã3 (zt (zL (hl _ _) rfl) (yh (oK rfl (z_ Ĭ (hs rfl)))))))) ) rfl
end
def IL (t:T) (he:zP t=Æ):FN "int" Ă [↑(.im t)]=↑(.bl Â1):=by
 cases t with
 | err _ _ _=>cases he
 | _=>rfl
theorem Zm:∀ ts:Û,(xA ts).isSome=ts.all λ t=>Â1
 | []=>rfl
 | t::ts=>by
  rw[Cp,<- Zm ts];change ((qD t).bind λ x=>(xA ts).map (x::·)).isSome=_;cases qD t with
  | none=>rfl
  | some x=>cases xA ts <;> rfl
theorem bu Ħ Ã5(h:J[1]?=↑↑ Ŝ) (he:zY (ģ)=true) (hl:è<=1000):yL (yf (zX (FN "tuple" (zc 1)))) (yf (zX (zi À4 (za jd ze)))) J=↑(!(xA ts).isSome):=by
 have v1:zc 1 J=↑(ģ):=by unfold zc;rw[h]
 have hc:jd J=↑(Ø (ts.map λ t=>T.bl Â1)):=by
  unfold jd;exact xf (λ t:T=>t) _ ts ?_ ⋯ λ t ht=>?_
  .rw[D9];ext Ç7
  .change (FN "int" Ă [↑(.im t)]).map some=_;rw[IL t (zY.mem he ht)];rfl
 exact uI (yU (b:=true) (yZ (by ext Ç7))) (yU (yZ (Å0)));change (uu (ts.map λ t=>T.bl Â1)).map ċ=_;rw[ur,Æ9,tU,Zm]
def eT {wr:Â}Ž (h:∀ ts,m=ģ->xA ts=none):vT [Ė,m]=↑.zm:=by
 cases m with
 | tup ts=>
  have z:=bu (J:=[↑(.im (Ė)),↑ Ŝ]) (ts:=ts) rfl hm.e (hm.l ts rfl);rw[h ts rfl] at z;show zN (yN (yx z rfl)) rfl
 | err _ _ _=>cases zY.top hm.e
 | _=>show zN (yN (yx (rq (yU (b:=Æ) (yZ rfl))) rfl)) rfl
def LA {wr:Â}(r:Ĵ) (hn:∀ r∈wr,r≠[]):rM (ĥ)=true:=by
 cases wr with
 | nil=>rfl
 | cons q wr=>
  cases q with
  | nil=>show Ų rfl (hn _ Aw)
  | cons n q=>simp[rM]
theorem ng {wr:Â}{r:Ĵ}(hm:Th ľ) (hr:r≠[]) (hl:û<60) (h4:Ÿ):vT [Ė,kT r]=↑(È ((xu (ĥ)).map kT)):=by
 have hn:∀ r∈wr,r≠[]:=λ r hr z=>by have:=h4 ŋ;ext Ņ
 have z:=bu (J:=[↑(.im (Ė)),↑(.im ľ)]) (ts:=ū zR) rfl hm.e (hm.l _ rfl);rw[p_] at z;have hs:=VP (ĥ) (by rw[Bh,Af];change û+1<64;lia) (λ q hq=>by
  rcases Bb.mp hq with hq | hq
  .let#[p,hp,rfl]:=Av.mp hq;intro e;show hn p hp (Du.mp e)
  .rw[A4.mp hq];show hr) (LA r hn)
 exact zN (zt (zL z rfl) (yh (zO (zO (x:=Ø ((ĥ).map kT)) ?_ hs) rfl))) rfl;rw[B2,<- vH];show lg (zO (x:=Ė) Ä) ŗ
theorem jV Ž (hn:Ç1):(∃ q:Ï,m=zh q/\q.length=4)\/(vt m=Æ/\((∃ r,m=kT r/\r≠[]/\gK r=Æ)\/∀ ts,m=ģ->xA ts=none)):=by
 cases hr:vt m with
 | true=>show .inl (Uq hr)
 | Æ=>
  exact .inr #[rfl,?_];cases m with
  | tup ts=>
   cases hk:xA ts with
   | none=>show .inr λ us e=>by cases e;show hk
   | some r=>
    cases mv hk;exact .inl #[r,rfl,λ z=>hn (by rw[z];rfl),?_];rw[<- EF];intro z;let#[q,rfl,h4]:=Lp z;have:vt (zh q)=true:=kg h4;rw[sC] at this;rw[show T.tup ((ŵ).map zR)=kT (ŵ) from rfl,this] at hr;cases hr
  | _=>show .inr λ us e=>by cases e
def t_ (V:T):Prop:=∃ br os wr qr,V=Á/\Ĥ
def Nx (HB ref:T):Prop:=(∃ k th,ref=È [k,th])\/(ref=.zm/\∃ a b c d,HB=È Ü/\((c=.zm\/∃ cs,c=È cs)/\(d=.zm\/∃ ds,d=È ds))/\(∀ cs ds,c=È cs->d=È ds->∃ g,sf Ü=↑(.bl g)/\(g=true->t_ HB)))
def qc (V z:T):Prop:=∃ FY HB ref,z=È [FY,HB,ref]/\uC [V,FY,HB,ref]=↑ ã/\Nx HB ref
def Mh ä Ļ (DU:À<=1000) Ç8 Ì:
  sf [br,Ć,Ė,ŷ]=↑(.bl (uK (Á))):=by
 have:=ly br os (Æ5) (Á9) hb ho DU (by rw[Af];show hw) (by rw[Af];show hq);rw[<- vH,<- vH,Mf h1 h8 w4 q4 hc] at this;show this
def made {V FY br:T}{os:Û}{wr qr:Â}(ha:Ĺ=↑(if uK (Á)=true then Á else NF)) Ļ Ç8 Ì:
  uC [V,FY,Á,.zm]=↑ ã/\Nx (Á) .zm:=by
 have hf:=Mh hb ho ⋯ hw hq h1 h8 w4 q4 hc;exact#[nR ha hf λ h=>Uh (Z_ h),.inr #[rfl,_,_,_,_,rfl,#[Ő,Ő],λ cs ds _ _=>#[_,hf,λ h=>#[_,_,_,_,rfl,Z_ h]]]]
def pC {wr:Â}(h:Ÿ):∀ r∈yd wr,á:=λ r hr=>h r ((wg wr).mem_iff.mp hr)
def gZ {n:Nat}{as bs:Ï}(h:∀ x∈as,x∈bs) (hc:((Ó n).all λ(k:Nat)=>as.any λ i=>ß (i=Ñ))=true):((Ó n).all λ(k:Nat)=>bs.any λ i=>ß (i=Ñ))=true:=by
 rw[AV] at hc ⊢;intro k hk;let#[x,hx,e]:=Cr.mp (hc k hk);show Cr.mpr #[x,h x hx,e]
def yH {f g:Ae}Ħ{i j:Int}(h1:f J=↑(Ã i)) (h2:g J=↑(Ã j)) (h:0<j):zb zy f g J=↑(Ã (i%j)):=zk h1 h2 (by simp[h])
theorem UZ {L:Û}{i:Int}(h0:0<=i) (h1:i<L.length):∃ y,ř L i=↑y/\y∈L:=by
 have hl:i.toNat<L.length:=⋯;have e:ř L i=↑L[i.toNat]:=by
  have:=zA (k:=i.toNat) (AF hl);rw[CY h0] at this;show this
 show#[_,e,B3 hl]
def vZ {L:Û}(x:Int) Ŕ (hn:n=L.length) (h:0<n):∃ y,ř L (x%č)=↑y/\y∈L:=UZ (BP _ ⋯) (by have:=Ca x (b:=č) ⋯;lia)
theorem M1 {n k:Nat}(h:k<n):L2.wC n Ñ=↑k:=by
 unfold L2.wC;rw[ļ ⋯,ļ ⋯,BW]
def hJ {n:Nat}{f v:Ae}Ħ Ã5{k:Nat}{z:T}(h0:J[n]?=↑↑(ĵ (Ø ts))) (hv:v J=↑z) (hf:f J=↑(Ã Ñ)) (hk:k<è):pY n f v J=↑(.nx (J.set n ↑(ĵ (Ø (ts.set k z))))):=by
 change (v J).bind _=_;rw[hv];change (f J).bind _=_;rw[hf];change (match J[n]?,(î Ñ) with | some ↑(ĵ (Ø ts)),Ã k=>(L2.wC è k).map λ j=>Out.nx (J.set n ↑(ĵ (Ø (ts.set j z)))) | _,_=>none)=_;rw[h0];change (L2.wC è Ñ).map _=_;rw[M1 hk];rfl
def oH {i:Nat}{f:Ae}Ħ Ã5(h:f J=↑(Ø ts)):vA i f J=↑(.nx (J.set i ↑(ĵ (Ø ts)))):=ĭ
def qz Ã5(h:∀ t∈ts,zP t=Æ):zY (ģ)=true:=by
 change (!zP (ģ)&&ts.all λ u=>!zP u)=true;rw[show zP (ģ)=Æ from rfl,CN,Bi,AV];intro u hu;rw[h u hu];rfl
theorem Th.tup Ã5(h:∀ t∈ts,ŝ) (hl:è<=1000):Th (ģ):=#[qz λ t ht=>(h t ht).1,λ us e=>by cases e;show hl,λ us e u hu=>by cases e;show (h u hu).2]
def zB (ys:Ï):T:=Ø (ys.map î)
def xl {ys:Ï}{j:Nat}(h:j<ys.length):ř (ys.map î) Å8=↑(Ã (ý j 0)):=zA (by simp[h])
section
variable {ä}(hF:Ĥ)
include hF
theorem Ff.d_:wr≠[]:=λ z=>by
 have h:=hF.wc;have:=AV.mp h 0 (AO.mpr hF.n1);ext Ņ
theorem Xv ũ (k:Int):∃ m,jB [Á,zB ys,Ã k]=↑m/\Th m/\Ç1:=by
 have hn1:=hF.n1;have hn8:=hF.n8;ext ë;have y5:=xl (ys:=ys) (j:=5) ⋯;have y6:=xl (ys:=ys) (j:=6) ⋯;generalize ý 0 0=v0 at y0;generalize ý 1 0=v1 at y1;generalize ý 2 0=v2 at y2;generalize ý 3 0=v3 at y3;generalize ý 4 0=v4 at y4;generalize ý 5 0=v5 at y5;generalize ý 6 0=v6 at y6;obtain⟨at',ha⟩:∃ j:Nat,Å8=v4%12:=#[(v4%12).toNat,⋯]
 suffices h:∀ R:Û,R.length=4->(∀ t∈R,ŝ)->∃ m,(zq (zC (wR (zw Ş) (zw (zb (zv Æ) (zc 5) (cI 4)))) (retS (zb zg (zb zg Ă Æ3) (zb zy (zb Ā (cI 5)) (zi zJ (za (zb zg Ă Æ3) ze))))) zI)
   Î)
   Å=↑(.rt m)/\Th m/\Ç1 by
  have put:∀ R:Û,R.length=4->(∀ t∈R,ŝ)->∃ R':Û,R'.length=4/\(∀ t∈R',ŝ)/\zC (zw (zb vx (zc 5) (cI 4))) (pY 4 (zc 5) (zb zg (ye (za ń (za (zb yu Ċ (cI 1)) (za (cI 13) (za (zb yu Ċ (cI 13)) (za Ċ (za (cS ã) (za (cS .zm) (za (cS (.str "0")) (za (ye (za Ċ ze)) (za (zb yu Ċ (zb Ā (cI 5))) ze))))))))))) (zb zy (zb Ā (cI 5)) (cI 10)))) zI
    Å=↑(.nx [↑ Ź,↑ Â2,↑ Ŀ,↑ ő,↑(ĵ (Ø R')),↑(.im (Ã (at':Int)))]):=λ R hR hE=>by
   have t1:zw (zb vx (zc 5) (cI 4)) Å=↑(ß ((at':Int)<4)):=rfl;by_cases h4:at'<4
   .rw[tp ⋯] at t1;let#[z,z1,z2]:=vZ (L:=[Ã (ð+1),Ã (0-1),Ã 13,Ã (0-13),Ã 0,.bl true,.zm,.str "0",Ø [Ã 0],Ã (0-v5)]) v5 10 ň;have hz:zP z=Æ/\dep z<=60:=by
     ext Š;rcases z2 with rfl | rfl | rfl | rfl | rfl | rfl | rfl | rfl | rfl | rfl <;> show#[rfl,by simp[dep,yA]]
    exact#[R.set at' z,by rw[BZ];show hR,λ t ht=>?_,yx t1 (hJ (k:=at') rfl (zk (yV (zf rfl (zf rfl (zf rfl (zf rfl (zf rfl (zf rfl (zf rfl (zf rfl (zf rfl (zf (zk rfl (zk Þ y5) rfl) rfl)))))))))) (by change 10<=100;decide)) (yH (zk Þ y5) ň) z1) rfl ⋯)];rcases EB ht with h | h
    .show hE t h
    .rw[h];show hz
   .rw[tx ⋯] at t1;show#[R,hR,hE,zL t1 rfl]
  have lst:∃ a b c d:Int,zC (zw Ş) (vA 4 (ye (za (zb zy (zb Ā Ċ) ń) (za (zb zy (zb Ā (cI 1)) ń) (za (zb yu (zb zy (zb Ā Æ3) (cI 25)) (cI 12)) (za (zb yu (zb zy (zb Ā (cI 3)) (cI 25)) (cI 12)) ze)))))) (vA 4 (ye (za (zb zy (zb Ā Ċ) ń) (za (zb zy (zb Ā (cI 1)) Æ3) (za (zb zT (cI 1) (zb zy (zb Ā Æ3) (cI 12))) (za (zb zy (zb Ā (cI 3)) (cI 13)) ze))))))
    ě=↑(.nx [↑ Ź,↑ Â2,↑ Ŀ,↑ ő,↑(ĵ (Ø Ç2)),none]):=by
   have tk:zw Ş ě=↑(ß (k=0)):=yG (zk Ä (Ď k 0 Æ));have hp:(0:Int)<ð+1:=⋯;by_cases hk:k=0
   .rw[tp hk] at tk;show#[_,_,_,_,yx tk (oH (yV (zf (yH (zk Þ y0) rfl hp) (zf (yH (zk Þ y1) rfl hp) (zf (zk (yH (zk Þ y2) ň) Ä) (zf (zk Â3 Ä) rfl)))) ą))]
   .rw[tx hk] at tk;show#[_,_,_,_,zL tk (oH (yV (zf (yH (zk Þ y0) rfl hp) (zf (yH (zk Þ y1) ň) (zf (zk rfl (yH (zk Þ y2) ň) rfl) (zf Â3 rfl)))) ą))]
  let#[a,b,c,d,hl]:=lst;let#[R',r1,r2,r3]:=put Ç2 rfl (by simp[dep]);let#[m,m1,m2]:=h R' r1 r2;exact#[m,zN (zt (yv (zk (zO ê rfl) Ä)) (zt hl (zt (yv (y:=Ã (at':Int)) ?_) (zt r3 m1)))) rfl,m2];rw[ha];show yH (zk Þ y4) ň
 intro R hR hE;have l3:û ≠0:=λ z=>hF.d_ (List.eq_nil_of_length_eq_zero z);have last:∃ m,Î
   Å=↑(.rt m)/\Th m/\Ç1:=by
  let#[z,z1,z2]:=vZ (L:=[È R,È R,È R,È R,Ø R,È (xC R none ↑3),È R,.zm]) v6 8 ň;exact#[z,yh (zk (yV Ŧ (by change 8<=100;decide)) (yH (zk Þ y6) ň) z1),?_];have FF:xC R none ↑3=R.take 3:=by
   match R,hR with
   | Ü,_=>rfl
  have tR:Th (È R)/\T.tup R≠ È []:=#[È hE ⋯,λ z=>by injection z with z;rw[z] at hR;cases hR];ext Š;rcases z2 with rfl | rfl | rfl | rfl | rfl | rfl | rfl | rfl
  .show tR
  .show tR
  .show tR
  .show tR
  .show Â4
  .rw[FF];exact#[È (λ t ht=>hE t (EN ht)) (by rw[B_];lia),λ z=>?_]
   injection z with z
   have:=Ä8 À3 z;rw[B_,hR] at this;cases this
  .show tR
  .show Â4
 by_cases hc:k=0/\at'=4
 .let#[y,y1',y2']:=vZ (L:=Ù) v5 û (by rw[Af]) ⋯;let#[r,hr,rfl]:=Av.mp y2';have h4:=hF.w4 ŋ;exact#[zh r,yN (yx (vR (yG (zk Ä (by rw[Ď,tp hc.1];rfl))) (yG (zk Ä (by rw[Ď,tp ⋯];rfl)))) (yh (zk â (yH (zk Þ y5) (zO (x:=Ė) â (show zJ [Ė]=↑(Ã (û:Nat)) by change ↑(î ((Ù).length:Nat))=_;rw[Af])) ⋯) y1'))),.row h4,λ z=>?_]
  injection z with z
  have:=Ä8 À3 z;rw[Af,h4] at this;cases this
 .let#[m,m1,m2]:=last;exact#[m,zt (zL ?_ rfl) m1,m2];have tk:zw Ş Å=↑(ß (k=0)):=yG (zk Ä (Ď k 0 Æ));by_cases hk:k=0
  .rw[tp hk] at tk;exact vR tk (yG (zk Ä ?_));rw[Ď,tx (λ z=>hc #[hk,⋯])];rfl
  .rw[tx hk] at tk;show oJ tk
end
def yO {V d:T}{ds:Û}{k:Nat}(_:d=Ø (Ã k::ds)) (j:Int):zw (zb (zv Æ) (zb Ā Ċ) (cS (Ã j))) [↑(.im V),↑(.im (Ø (Ã k::ds)))]=↑(ß (Ñ=j)):=
 yG (zk (zk (x:=Ø (Ã k::ds)) Ğ) rfl (Ď k j Æ))
section
variable {ä}(hF:Ĥ)
include hF
theorem Ff.ck:û<60:=by have:=hF.wl;lia
theorem cj {m r:T}(h:vo [br,Ć,Ø (Ù++[m]),Ø (é)]=↑r):xI [Á,Â5]=↑r:=by
 have hl:=hF.wl;have h1:eN [Á,m]=↑r:=zN (yh (z_ (zf Ç3 (zf ê (zf (lg Á4 ŗ) (zf (zO (x:=ŷ) Ą) rfl)))) h)) rfl;show zN (yN (yx (yO (k:=0) rfl 0) (yh (z_ (zf rfl (zf (zk (x:=Â5) Ł) rfl)) h1)))) rfl
theorem lP {l:Â}(h4:∀ r∈l,á):∀ t∈l.map zh,Th t:=λ t ht=>by
 ext ĺ;show .row (h4 ŋ)
theorem LV Ž (hn:Ç1):∃ R,vT [Ė,m]=↑R/\uC [Á,Â5,È [br,Ć,R,ŷ],.zm]=↑ ã/\Nx (È [br,Ć,R,ŷ]) .zm:=by
 have BL:=hF.wl;have BQ:=hF.ql;have bad:vt m=Æ->xI [Á,Â5]=↑NF:=λ h=>cj hF (X0 (λ t ht=>by
   rcases Bb.mp ht with ht | ht
   .show lP hF hF.w4 t ht
   .rw[A4.mp ht];show hm) (lP hF hF.q4) (by rw[Bh,Af,Af];change û+1+ű<=1000;lia) (by
   rw[EC,EC,Cp,h];simp))
 rcases jV hm hn with ⟨q,rfl,h4⟩ | ⟨hr,⟨r,rfl,r0,rg⟩ | hk⟩
 .have Ip:∀ r∈wr++[q],á:=λ r hr=>by
   rcases Bb.mp hr with hr | hr
   .show hF.w4 ŋ
   .rw[A4.mp hr];show h4
  have q0:ŵ ≠[]:=λ z=>by rw[Du.mp z] at h4;cases h4
  have e:xu (Æ5++[ŵ])=(yd (wr++[q])).map É:=by
   rw[<- lX,B2];rfl
  have hR:vT [Ė,zh q]=↑(È ((yd (wr++[q])).map zh)):=by
   rw[sC];rw[sC] at hm;rw[ng hm q0 hF.ck hF.w4,e,<- vH]
  have hl:(yd (wr++[q])).length=û+1:=by rw[(wg _).length_eq,Bh];rfl
  have ha:=pb (br:=br) (O:=Ć) (os:=os) (wr:=wr++[q]) (qr:=qr) rfl hF.nb hF.no (by rw[Bh];change û+1<64;lia) ⋯ Ip hF.q4;rw[hF.qs,B2] at ha;show#[_,hR,made (cj hF ha) hF.nb hF.no ⋯ ⋯ hF.n1 hF.n8 (pC Ip) hF.q4 (gZ (λ x hx=>by
   let#[r,hr,rfl]:=Av.mp hx;show Av.mpr #[r,(wg _).mem_iff.mpr (CW _ hr),rfl]) hF.wc)]
 .have hR:=ng (wr:=wr) hm r0 hF.ck hF.w4;have hs:r∈xu (ĥ):=(qi _).mem_iff.mpr (A8 _ Aw);have hl:(xu (ĥ)).length=û+1:=by rw[(qi _).length_eq,Bh,Af];rfl
  have hf:=ly br os (xu (ĥ)) (Á9) hF.nb hF.no (by have:=hF.n8;lia) ⋯ Ä4;rw[<- vH,Zk hs rg] at hf;show#[_,hR,nR (g:=Æ) (bad hr) hf nofun,.inr #[rfl,_,_,_,_,rfl,#[Ő,Ő],λ cs ds _ _=>#[Æ,hf,nofun]]]
 .show#[_,eT hm hk,iy (bad hr) (.inl rfl) #[true,rfl],.inr #[rfl,_,_,_,_,rfl,#[.inl rfl,Ő],λ cs ds h _=>by cases h]]
theorem Jo ũ:∃ z,eU [Á,zB ys]=↑z/\qc (Á) z:=by
 let#[m,m1,m2,m3]:=Xv hF ys hy 0;let#[R,r1,r2,r3]:=LV hF m2 m3;exact#[_,zN (zt (yv (z_ Õ m1)) (yh (yY (zf (yV Ĭ Ť) (zf (yY (zf Ç3 (zf ê (zf (z_ (zf â Ç4) r1) (zf Ą)))) ą) Ç4)) Đ))) rfl,_,_,_,rfl,r2,r3]
theorem KC {m r:T}(h:vo [m,Ć,Ø (Ù),Ø (é)]=↑r):xI [Á,Ø [Ã 3,m]]=↑r:=by
 have h1:eO [Á,m]=↑r:=zN (yh (z_ (zf rfl (zf ê (zf Á4 (zf (zO (x:=ŷ) Ą) rfl)))) h)) rfl;show zN (zt (zL (yO Ç9 0) rfl) (zt (zL (yO Ç9 1) rfl) (zt (zL (yO Ç9 2) rfl) (yN (yx (yO Ç9 3) (yh (z_ (zf rfl (zf (zk (x:=Ø [Ã 3,m]) Ł) rfl)) h1))))))) rfl
theorem Xx (n g:Int):∃ y,se [Ã n,Ã g]=↑y/\zP y=Æ:=by
 let#[z,z1,z2]:=vZ (L:=[Ã g,Ã g,Ã g,Ã g,Ã g,Ã 13,Ã (0-13),.bl true,.zm,.str "1",Ø [Ã 0],Ã (13+n)]) n 12 ň;exact#[z,í,?_];ext ö
theorem Ju ũ:∃ z,eY [Á,zB ys]=↑z/\qc (Á) z:=by
 have BL:=hF.wl;have BQ:=hF.ql;ext ë;let#[a,a1,a2]:=Xx hF (ý 0 0) (ý 1 0%13);let#[b,b1,b2]:=Xx hF (ý 2 0) (ý 3 0%13);let#[m,m1,m2]:=vZ (L:=[ź,ź,ź,Ø [a,b],È [a,b,Ã 0],.zm,a]) (ý 4 0) 7 ň;have hm:zY m=true\/(m=a):=by
  have Bx:∀ t∈[a,b],zP t=Æ:=by simp[a2,b2]
  simp![Ao,AN,or_false] at m2;rcases m2 with rfl | rfl | rfl | rfl | rfl | rfl | rfl
  .show .inl (qz Bx)
  .show .inl (qz Bx)
  .show .inl (qz Bx)
  .show .inl rfl
  .show .inl (qz (by simp[a2,b2]))
  .show .inl rfl
  .show .inr rfl
 have ha':zY a=true:=by
  let#[z,z1,z2]:=vZ (L:=[ŀ,ŀ,ŀ,ŀ,ŀ,Ã 13,Ã (0-13),.bl true,.zm,.str "1",Ø [Ã 0],Ã (13+ý 0 0)]) (ý 0 0) 12 ň;have e:se [Ã (ý 0 0),ŀ]=↑z:=í;rw[a1] at e;cases e;ext ö
 have hmn:zY m=true:=hm.elim id λ e=>e▸ha';have hf:=pb (br:=m) (O:=Ć) (os:=os) (wr:=wr) (qr:=qr) rfl hmn hF.no ⋯ ⋯ hF.w4 hF.q4;rw[hF.ws,hF.qs] at hf;have hh:=made (KC hF hf) hmn hF.no ⋯ ⋯ hF.n1 hF.n8 hF.w4 hF.q4 hF.wc;exact#[_,zN (zt (yv (yY (zf (z_ (zf (zk Þ y0) (zf (yH (zk Þ y1) ň) rfl)) a1) (zf (z_ (zf (zk Þ y2) (zf Â3 rfl)) b1) rfl)) Ť)) (zt (yv (zk (yV (zf rfl (zf rfl (zf rfl (zf (zO (x:=ź) Ä) (zf (zk (x:=ź) (y:=È [Ã 0]) Ä rfl) (zf rfl (zf (zk (x:=ź) Ğ) rfl))))))) (by change 7<=100;decide)) (yH (zk Þ y4) ň) m1)) (yh (yY (zf (yV Ĭ Ť) (zf (yY (zf rfl (zf ê (zf â (zf Ą)))) ą) Ç4)) Đ)))) rfl,_,_,_,rfl,hh.1,hh.2]
end
theorem oy {α β:Type}(c:α->Bool) (g:α->β):∀ l:List α,l.filterMap (λ x=>if c x=true then ↑(g x) else none)=(l.filter c).map g
 | []=>rfl
 | a::l=>by
  rw[DL,List.filter_cons,oy c g l];cases c a <;> rfl
def ke {r:Ï}(h:á):ř (ū î) 0=↑(Ã ŉ):=by
 match r,h with
 | Ü,_=>rfl
section
variable {ä}(hF:Ĥ)
include hF
theorem cP Ž (h:vt m=Æ):xI [Á,Ø [Ã 4,m]]=↑NF:=by
 have hi:=df m hm.e hm.l;rw[h] at hi;have h1:j7 [Á,m]=↑NF:=zN (yN (yx (yU (yZ (zO rfl hi))) rfl)) rfl;show zN (zt (zL (yO į 0) rfl) (zt (zL (yO į 1) rfl) (zt (zL (yO į 2) rfl) (zt (zL (yO į 3) rfl) (yN (yx (yO į 4) (yh (z_ (zf rfl (zf (zk (x:=Ø [Ã 4,m]) Ł) rfl)) h1)))))))) rfl
def wq (q:Ï) (qr:Â):Â:=qr.filter λ r=>! Ä6
omit hF in
theorem aw {q:Ï}{qr:Â}{r:Ï}(h:r∈wq q qr):r∈qr:=(C0.mp h).1
theorem VG {q:Ï}(h4:q.length=4) {z:T}(h:vo [br,Ć,Ø (Ù),Ø ((wq q qr++[q]).map zh)]=↑z):xI [Á,Ø [Ã 4,zh q]]=↑z:=by
 have BQ:=hF.ql;have hi:=df (zh q) (pV q) (Th.row h4).l;rw[kg h4] at hi;have hlen:(wq q qr).length<=ű:=EA _ _;have hc:fB [↑ Ź,↑(.im (zh q)),none]=↑(Ø ((wq q qr).map zh)):=by
  unfold fB wq;ext Å4;change ((zw Â8 [↑(.im ņ),↑(.im (zh q))]).bind Ũ)=_;rw[yG (zk Â6 (zk (x:=zh q) Ä (ke h4)) (Ď ŉ (fst q) true))];change (if (! Ä6)=true then _ else _)=_;cases Ä6 <;> rfl
 have h1:j7 [Á,zh q]=↑z:=by
  exact zN (zt (zL (yU (b:=true) (yZ (zO rfl hi))) rfl) (zt (yv hc) (yh (z_ (zf Ç3 (zf ê (zf Á4 (zf (lg rfl (yV Ç4 (D6 1 99)) ?_) rfl)))) ?_)))) rfl
  .rw[Af];change (wq q qr).length+1<=10000;lia
  .rw[B2] at h;show h
 show zN (zt (zL (yO į 0) rfl) (zt (zL (yO į 1) rfl) (zt (zL (yO į 2) rfl) (zt (zL (yO į 3) rfl) (yN (yx (yO į 4) (yh (z_ (zf rfl (zf (zk (x:=Ø [Ã 4,zh q]) Ł) rfl)) h1)))))))) rfl
theorem Md Ã5{t0:T}{us:Û}(e:ts=t0::us) (hd:dep t0<=60) (y:T):mY [↑ Ź,↑(.im y),↑ Ŝ,↑(.im (ŷ))]=↑(Ø ((qr.filter λ r=>! Á1).map zh)):=by
 have BQ:=hF.ql;subst e;unfold mY;ext Å4;change ((zw Â8 [↑(.im ņ),↑(.im (È (t0::us)))]).bind Ũ)=_;have he:zv true (Ã ŉ) t0=↑(.bl (! Á1)):=ļ #[by simp[dep],hd];rw[yG (zk Â6 (zk (x:=È (t0::us)) Ğ) he)];change (if (! Á1)=true then _ else _)=_;cases Á1 <;> rfl
)
example:=`(
example Á _:=x br os wr qr
example À:=fT Á
example Â _:=x rfl rfl
example ļ:=(zf Â)
example Ã:=(zf rfl ļ)
example Ä:=.int
example Å:=(.im (À))
example Æ:=(.im (zB ys))
example İ _:=x Â (zA (k:=1) rfl)
example Ç:=(zk (x:=À) İ)
example È:=(by change 4<=100;decide)
example ş:=zh [x,y]
example Ô:=fT (ş) os wr qr
example ą:=(by change 2<=100;decide)
example Ŀ:=(zk (x:=ş) (zk (x:=Ô) Â (zA (k:=0) rfl)) Â)
example É:=(zf (x:=zh [y,x]) (yY (zf Ŀ (zf Ŀ rfl)) ą) (zf (zk (x:=Ô) İ) Ã))
example Ê:=(k:Int)
example Ë:=List Int
example Ì:=ord.length
example Í:=os.length
example ü _:=x zg (zc 1)
example ň:=(cI 1)
example ū:=.bl true
example Ű:=(za (cS .zm) (za (cS (.str "0")) ze))
example Ŕ:=(cI 2)
example á _:=x zg (zc 0)
example Ă:=(zb á Ŕ)
example Ž:=(zi zJ (za Ă ze))
example å:=false
example Ý:=(zb (zv å) (zb zy (zb ü ň) (cI 5)) ň)
example Ň:=(cI 0)
example Î _:=x (zw Ý) (zD 2 (zb zg (ye (za Ž (za (zb yu Ň ň) (za (cS (ū)) Ű)))) (zb zy (zb ü Ŕ) (cI 5)))) zI
example Ï:=.tup
example í:=[a,b,c,d]
example Ð:=(zk (x:=zh í) Â rfl)
example Ĥ _:=x (Ä (most:Int)) (Ä (F5:Int)) (wO F)
example Ñ:=(vh (xM ns) Ĥ (wO F) n5)
example Š:=.inr #[_,rfl]
example Ò:=.inr #[rfl,_,_,_,_,rfl,#[Š,Š],λ cs ds _ _=>#[å,hf,nofun]]
example Ó:=[↑ Å,↑(.im (Ä c)),↑ Æ,↑(.im (Ä (c%7)))]
example ø:=(zf rfl Ã)
example ľ:=(zf rfl ø)
example Õ:=(zf rfl (zf rfl (zf rfl (zf rfl (zf rfl ľ)))))
example Ö:=by let#[a,b,c,d,rfl]:=vI h;rfl
example Ø:=(by change 3<=100;decide)
example Ù:=(by rw[Af];lia)
example œ:=by simp[dep]
example Ú:=#[rfl,œ,_,rfl]
example Û:=(zk (x:=À) Â (zA (k:=0) rfl))
example Ü:=(zW ord)
example Þ:=.lst
example ß:=(·.map Kx.i)
example à:=wr.map
example ă:=List.range
example â(hp:ord.Perm (ă Ì)):=0
example ã _:=x (x:=zB ys) Â
example ä _:=x rfl ⋯ λ r hr=>?_
example Ū:=(.im ow)
example î:=(p:Int)
example Œ:=(.im (Ä î))
example æ:=[↑ Å,↑ Œ,↑ Ū,none]
example ř:=Ï os
example Ģ:=(à zh)
example ç:=∃ R,vT [Ï (FJ.map zh),m]=↑R/\uC [À,Þ [Ä 4,m],Ï [br,ř,Ï Ģ,R],.zm]=↑(ū)/\Nx (Ï [br,ř,Ï Ģ,R]) .zm
example Ŭ:=(.own (Þ Ü))
example è:=[↑ Å,↑(.im (Ä y)),↑(.own (Þ [])),↑ Ŭ,a,b,c]
example ŗ _:=x (k:=2) rfl
example é:=(zk (x:=À) Â (zA ŗ))
example ê:=wr.length
example ë:=List (Ë)
example ì:=.str "keeper"
example Á2:=Ï [Ä f,Ä t]
example ï _:=x (Ï [Ä x,Ä y]) (Á2)
example ú:=y_ wr k
example ė:=Ï ((ú).map zh)
example Á1:=(Þ (al.map zh))
example Č:=(.im (Ä Ê))
example ð:=[↑ Å,↑ Æ,↑ Č,↑(.im a),↑(.im b),↑(.im (ė)),↑(.im Á1),none]
example ñ:=os.set p ow
example ò:=[f,t,c,d]
example À0 _:=x zg (zc 8)
example ó:=(zi sf (za (zb À0 Ň) (za (zb À0 ň) (za (zb À0 Ŕ) (za (zb À0 (cI 3)) ze)))))
example ô:=by have y0:=xl (ys:=ys) (j:=0) ⋯;have y1:=xl (ys:=ys) (j:=1) ⋯;have y2:=xl (ys:=ys) (j:=2) ⋯;have y3:=xl (ys:=ys) (j:=3) ⋯
example õ:=r.length=4
example ö{br:T}{os:List T}{wr qr:ë}(hF:Ff Á):=0
example Â5:=(Ä (2+Ê))
example ù:=[↑(.im Â5),↑(.im (Ä v)),none,none,none]
example Ş:=(zc 2)
example Ą:=qr.map
example Ż:=Ï (Ą zh)
example û:=zC (zX (FN "tuple" Ş)) (zD 3 (zi yz (za mY ze))) zI [↑ Å,↑ Æ,↑(.im m),↑(.im (Ż))]
example ý:=by have BL:=hF.wl;have BQ:=hF.ql
example þ:=qr.filter λ r=>!eqT (Ä (fst r)) t0
example ŏ:=(i:Int)
example Ė:=xs.length
example ÿ:=by change (if ŏ<0 then (ŏ+(Ė:Int)).toNat else min (i:Int).toNat Ė)=i;rw[if_neg ⋯];lia
example Ā:=by simp[dep,yA]
example ā:=(zb á ň)
example ĥ:=ord.idxOf
example Ć:=os.getD (ĥ j) .zm
example ć _:=x 0 ((Í:Int)-1)
example Ĉ:=(r0::IY).map zh
example ĉ:=[↑(.im (Ä a)),↑(.im (Ä b)),↑(.im (Ä c)),↑(.im (Ä d)),↑ Ŭ]
example Ċ:=vy p ow qr
example ċ:=Ï [Ä f,Ä t,a,b]
example č:=ys.getD
example Ď:=left.length
example ď:=(zb (zv true) Ş (ye ze))
example Ĭ:=T.int
example Đ:=(show zJ [Ï Ģ]=↑(Ä (ê:Nat)) by change ↑(Ĭ ((à zh).length:Nat))=_;rw[Af])
example đ:=decide
example Ē:=[↑ Å,↑ Æ,↑(.im (Ä (v0%(ê:Int)))),none,none,none,none,none]
example ē:=by obtain⟨a,b,c,d,rfl,-⟩:=hF.wv hr
example Ĕ _:=x _ _ _ _
example ĕ _:=x _ _ _
example Ę:=ns.length
example ę:=[↑(.im (Ô)),v1,v2]
example Ě:=if_pos
example ě:=ord.map λ k:Nat=>Ê
example Ĝ:=zO (x:=xM ns) rfl (by change ↑(Ĭ ((ns.map Ĭ).length:Nat))=_;rw[Af])
example À5:=(.im pl)
example ĝ:=[↑ Å,↑ Æ,↑ À5,↑(.im a),↑(.im b),none,none,none]
example ű:=by rw[AI];exact xf zh _ wr ä
example Ğ:=by ext ű;obtain⟨a,b,c,d,rfl,h1,h2,-⟩:=hF.wv hr
example ğ:=by simp![Ao,AN,or_false] at q2;rcases q2 with rfl | rfl | rfl | rfl | rfl <;> show Ú
example Ġ:=[↑(.im x5),↑(.im x6),↑(.im FY),↑(.im HB),↑(.im ref)]
example ġ:=List Nat
example ģ:=(zb tH (zb zy (zb xB (zc 6) (zb xq (cI 10) (cI 6))) (cI 3)) Ň)
example Ħ:=à (tm ord)
example ħ:=Ą (sy ord)
example Ĩ:=[↑ Å,↑ Æ,↑(.im (Ä (č 0 0%(Í:Int)))),none,none,none]
example ĩ:=by rw[AI];exact xf zh _ qr ä;obtain⟨a,b,c,d,rfl,h1,-⟩:=hF.qv hr
example Ī _:=x (xM ns) a b V0
example Ł _:=x rfl ()
example ī:=(yv (zk (yV Õ (by change 9<=100;decide)) (yH (zk ã y3) Ł) o1))
example ĭ:=(zb (zv å) (zb zy (zb xB (zb ü ň) (cI 5)) (cI 3)) Ň)
example Į:=Þ [Ä 1,pl,a,b]
example į:=(uP V x left ord)
example ı:=(zk (x:=À) Â (zA (k:=3) rfl))
example Ĳ:=(zk (x:=Ï Ü) rfl Ð (pU ⋯))
example ĳ:=(wg _).length_eq
example Ĵ:=by rw[AI];exact xf zh _ qr ä;obtain⟨a,b,c,d,rfl,-⟩:=hF.qv hr;rfl
example ĵ:=by change (đ ((0:Int)<=p)&&đ (î<=(Í:Int)-1))=true;rw[tp ⋯,tp ⋯];rfl
example Ķ _:=x (left.eraseIdx i) (ord++[left[i]])
example ķ:=(zb (zv å) (zc 3) (cS (Ä j)))
example ĸ:=uf os ord
example Ĺ _:=x pl 0 ((ê:Int)-1)
example ĺ _:=x zy (zc 1) (zi zJ (za Ş ze))
example Ļ _:=x zJ (za (zc 0) ze)
example Ľ:=eqT ow (ì)
example ŀ:=(no ⋯ (no ⋯ (yes h z1)))
example Â4:=F.os.map kt
example ł _:=x (zh [F.A,F.B]) (Â4) (F.ws.map uE) (F.ss.map il)
example Ń:=wq q qr
example ń:=(j:Int)
example Ņ:=(zk (x:=Þ Ü) Â (pU ⋯))
example ņ _:=x sg (za (zl 0) (za (zl 1) ze))
example ŉ:=yG (zk (yH (zk ã y1) Ł) rfl (eq_int _ 1 å))
example Ŋ:=(wg _).mem_iff.mpr
example ŋ:=zh [x,y,z,v]
example Ō:=by have q0:q.map Kx.i≠[]:=λ z=>by rw[Du.mp z] at h4;cases h4
example ō{k:Nat}(hk:k<ê) {f t c d:Int}(hr:wr[k]?=↑ ò):=0
example Ŏ:=.err "NoPlace" "place" pl
example Ő:=sizeLine=16777216
example ő:=Option
example ŕ:=(.im (Ï Ü))
example Ŗ(ys:Ë) (hy:ys.length=7):=0
example Ř:=by have Bs:L2.ya Ģ Ê=↑(zh ò):=zA (by rw[AQ,hr];rfl)
example Ś:=(zW left).length
example ś:=ord.getD
example Ŝ _:=x hF.nb hF.no
example ŝ _:=x ⋯ ⋯
example š:=(ă (m-2)).map λ(k:Nat)=>Ĭ ((2:Int)+Ê)
example Ţ:=by change dep (Ï (r.map Ĭ))<=1;rw[dep,o7];decide
example ţ:=xu ((ú).map ß++[r])
example Ť:=(zk (x:=zh ò) (zk (x:=Þ Ģ) Â Bs) Â)
example ť:=((min Ę 60:Nat):Int)
example Ŧ{α:Type}(xs:List α) (i:Nat) (h:i<=Ė):=0
example ŧ:=fT (zh [y,x]) os (yd (à mw)) (Ą ms)
example Ũ _:=x rfl (zk (x:=zh [Ê,b,c,d]) Â rfl) Bs
example ũ:=by rw[(qi _).length_eq,Bh,Af];rfl
example ŭ _:=x (k:=5) rfl
example Ů _:=x (k:=6) rfl
example ů:=qc (À) z
example Ų:=xu (FJ.map ß++[r])
example ų:=Þ [Ä 2,pl,ow]
example Ŵ:=(F.os.length:Int)-1
example ŵ:=by change (sg [À,Ä î]).map _=_;rw[hc];rfl
example Ŷ{r:Ë}(h:õ):=0
example ŷ:=! đ (fst r=î)||Ľ
example Ÿ:=(zb ü (zb á Ň))
example Ź:=(za ā ze)
example ź:=(yv (yH (zk ã y0) (hlen Ĕ) ⋯))
example ż:=Av.mpr
example ž:=by .rw[tx h] at t1;show#[_,Ú,zL t1 rfl]
example ſ:=by rw[hv] at hw;let#[i,rfl,i0,i1]:=cb hv
example À1:=[À,zB ys]
example À2:=hF.q4
example À3:=decide_eq_true_eq
example À4:=wh pl ć
example À6:=.str "taker"
example À7 _:=x (y:=Þ []) Â
example À8:=(za Ă (za (zb á (cI 3)) ze))
example À9:=fT br (ĸ) (yd (Ħ)) (yd (ħ))
example Á0:=Þ ((Ċ).map zh)
example Á3:=(zb (zv true) (zc 6) (ye ze))
example Á4:=(vR rfl (vR Â))
example Á5{p:Nat}(h:p<Ì):=0
example Á6:=(qi _).mem_iff.mpr (A8 _ Aw)
example Á7:=(zf rfl (zf (yY Ã ą) rfl))
example Á8:=(za (zi Ļ) (za (cI 60) ze))
example Á9:=by rw[z] at this;cases this
example Â0:=(đ (a<=i)&&đ (i<=b))=true
example Â1:=zv å ow (ì)=↑(.bl (Ľ))
example Â2:=(zW ord).length
example Â3:=λ j:Nat=>T.tup [Ä ń,Ć]
example Â6:=(z_ (zf (z_ Ã hc1) Ã) f1)
example Â7{wr:ë}{k:Nat}:=0
example Â8(V:T) (x:Int) (left ord:ġ):=0
theorem Jp Ŗ:∃ z,eV À1=↑z/\ů:=by
 ext ý;let#[m,m1,m2,m3]:=Xv hF ys hy 1
 suffices h:∃ FJ:ë,(∀ r∈FJ,r∈qr)/\FJ.length<=qr.length/\û=↑(.nx [↑ Å,↑ Æ,↑(.im m),↑(.im (Ï (FJ.map zh)))])/\
   ç by
  obtain⟨FJ,-,-,h1,R,r1,r2,r3⟩:=h;show#[_,zN (zt (yv (z_ ø m1)) (zt (yv ı) (zt h1 (yh (yY (zf (yV Ã ą) (zf (yY (zf Û (zf Ç (zf é (zf (z_ Ã r1) rfl)))) È) ļ)) Ø))))) rfl,_,_,_,rfl,r2,r3]
 have Hi:∀ ts,m=Ï ts->∃ t0 us,ts=t0::us/\û=↑(.nx [↑ Å,↑ Æ,↑(.im m),↑(.im (Ï ((þ).map zh)))]):=λ ts e=>by
  subst e;cases ts with
  | nil=>show absurd rfl m3
  | cons t0 us=>show#[t0,us,rfl,yx rfl (yv (zO (Md hF rfl (m2.d _ rfl t0 Aw) (zB ys)) rfl))]
 have sub:∀ t0:T,(∀ r∈qr.filter (λ r=>!eqT (Ä (fst r)) t0),r∈qr)/\(þ).length<=qr.length:=λ t0=>#[λ r hr=>(C0.mp hr).1,EA _ _];rcases jV m2 m3 with ⟨q,rfl,h4⟩ | ⟨hr,⟨r,rfl,r0,rg⟩ | hk⟩
 .let#[t0,us,e,hi]:=Hi _ rfl;have e0:t0=Ä (fst q):=by
   match q,h4 with
   | í,_=>cases e;rfl
  have eo:(þ)=Ń:=by
   rw[e0];unfold wq;exact List.filter_congr λ r _=>?_;rw[Ye]
  rw[eo] at hi;have BD:=sub t0;rw[eo] at BD;exact#[Ń,BD.1,BD.2,hi,?_];have JY:∀ r∈ Ń++[q],õ:=λ r hr=>by
   rcases Bb.mp hr with hr | hr
   .show À2 r (aw hr)
   .rw[A4.mp hr];show h4
  ext Ō
  have es:xu ((Ń).map ß++[q.map Kx.i])=(yd (Ń++[q])).map ß:=by
   rw[<- lX,B2];rfl
  have hR:vT [Ï ((Ń).map zh),zh q]=↑(Ï ((yd (Ń++[q])).map zh)):=by
   rw[sC];rw[sC] at m2;rw[ng m2 q0 (by have:=BD.2;lia) (λ r hr=>À2 r (aw hr)),es,<- vH]
  have hl:(yd (Ń++[q])).length=(Ń).length+1:=by rw[ĳ,Bh];rfl
  have ha:=pb (br:=br) (O:=ř) (os:=os) (wr:=wr) (qr:=Ń++[q]) rfl Ŝ ⋯ (by rw[Bh];have:=BD.2;change (Ń).length+1<64;lia) hF.w4 JY;rw[hF.ws] at ha;show#[_,hR,made (VG hF h4 ha) Ŝ ⋯ (by have:=BD.2;lia) hF.n1 hF.n8 hF.w4 (pC JY) hF.wc]
 .let#[t0,us,e,hi]:=Hi _ rfl;let#[s1,s2]:=sub t0;generalize (þ)=FJ at hi s1 s2;exact#[FJ,s1,s2,hi,?_];have hR:=ng (wr:=FJ) m2 r0 ⋯ λ r hr=>À2 r (s1 r hr);have hs:r∈ Ų:=Á6;have hl:(Ų).length=FJ.length+1:=ũ
  have hf:=ly br os (à ß) (Ų) Ŝ (by have:=hF.n8;lia) Ù ⋯;rw[<- vH,Mg hs rg] at hf;show#[_,hR,nR (g:=å) (cP hF m2 hr) hf nofun,Ò]
 .have fin:∀ FJ:ë,ç:=λ FJ=>
   #[_,eT m2 hk,iy (cP hF m2 hr) (.inr rfl) #[å,rfl],.inr #[rfl,_,_,_,_,rfl,#[Š,.inl rfl],λ cs ds _ h=>by cases h]]
  by_cases ht:∃ ts,m=Ï ts
  .let#[ts,e]:=ht;obtain⟨t0,us,-,hi⟩:=Hi ts e;show#[_,(sub t0).1,(sub t0).2,hi,fin _]
  .exact#[qr,λ r hr=>hr,Am _,zL ?_ rfl,fin qr];cases m with
   | tup ts=>show absurd #[ts,rfl] ht
   | err _ _ _=>cases zY.top m2.e
   | _=>rfl
end
theorem Yy Ŧ:xC xs none ↑ ŏ=xs.take i:=by
 unfold xC;have e:HT.zH Ė Ė ↑ ŏ=i:=by
  ext ÿ
 have e2:HT.zH Ė 0 none=0:=rfl;rw[e,e2];simp
theorem Yz Ŧ:xC xs ↑ ŏ none=xs.drop i:=by
 unfold xC;have e:HT.zH Ė 0 ↑ ŏ=i:=by
  ext ÿ
 have e2:HT.zH Ė Ė none=Ė:=rfl;rw[e,e2];rw[List.take_of_length_le #[]]
def qm {f:Ae}{lo hi:ő (Ev->ő T)}{J:Ev}{l u:ő Int}{x:T}{r:ő T}(h:f J=↑x) (h1:tS lo J=↑l) (h2:tS hi J=↑u) (h3:oB l u x=r):x8 f lo hi J=r:=by
 change (f J).bind _=_;rw[h];change (tS lo J).bind _=_;rw[h1];change (tS hi J).bind _=_;rw[h2];show h3
def jh {g:Ae}{J:Ev}{i:Int}(h:g J=↑(Ä i)):tS ↑g J=↑↑i:=by
 change (g J).bind _=_;rw[h];rfl
def V_ (os:List T) (p:Nat) (o:T) (h:p<Í):os.take p++[o]++os.drop (p+1)=os.set p o:=by
 rw[zcT,Ě h,DM];rfl
def Qw {N:List Str}{n:Nat}{g:Sm}{ys:List T}{J':Ev}(h:g (rm N ys)=↑(.nx J')) (hn:ys.length=n):zM N n g ys=↑.zm:=by unfold zM;rw[Ě hn,h];rfl
structure Pt (t:T):Prop where
 e:zY t=true
 d:dep t<=60
 t:∃ s,p0 t=↑s
def cb {t:T}{a b:Int}(h:wh t a b=true):∃ i,t=Ä i/\a<=i/\i<=b:=by
 cases t with
 | int i=>
  have h:Â0:=h;rw[AK,À3,À3] at h;show#[i,rfl,h]
 | _=>cases h
section
variable {ö}
include hF
theorem dg {pl:T}(hp:Pt pl):sg [À,pl]=↑(if À4=true then .zm else Ŏ):=by
 have hl:j8 [À]=↑(Ä (Í:Nat)):=zN (yh (zO Ç rfl)) rfl;have hw:=eM pl ć (zY.top hp.e);have z:yf (zX (zi qa (za (zl 1) (za Ň (za (zb yu (zi j8 (za (zl 0) ze)) ň) ze))))) [↑ Å,↑ À5]=↑(! À4):=yU (yZ (z_ (zf rfl (zf rfl (zf (zk (zO rfl hl) Â) rfl))) hw));unfold sg Wq;cases hv:À4 with
 | true=>
  rw[hv] at z;show Qw (zL z rfl) rfl
 | å=>
  rw[hv] at z;show zN (yx z rfl) rfl
theorem iK {pl ow z:T}(h:nc [À,pl,ow]=↑z):xI [À,ų]=↑z:=
 zN (zt (zL (yO ŗ 0) rfl) (zt (zL (yO ŗ 1) rfl) (yN (yx (yO ŗ 2) (yh (z_ (zf rfl (zf (zk (x:=ų) İ) (zf (zk (x:=ų) Â (zA ŗ)) rfl))) h)))))) rfl
def vy (p:Nat) (ow:T) (qr:ë):ë:=qr.filter λ r=>ŷ
theorem Qr {p:Nat}(hp:p<Í) {ow z:T}(ho:xv ow=true) (h:vo [br,Þ (ñ),Þ Ģ,Á0]=↑z):nc [À,Ä î,ow]=↑z:=by
 have BQ:=hF.ql;have hc:=dg hF (pl:=Ä î) Ú;have hw:wh (Ä î) ć=true:=by
  ext ĵ
 rw[hw,Ě rfl] at hc;have hx:nA ņ æ=↑(.nx æ):=by
  ext ŵ
 have Dr:zP ow=å:=by
  cases ow with
  | str _=>rfl
  | _=>cases ho
 have hdo:dep ow<=60:=by
  cases ow with
  | str _=>simp[dep]
  | _=>cases ho
 have hi:=eR ow Dr;rw[ho] at hi;have Bp:fC [↑ Å,↑ Œ,↑ Ū,↑(.im (Þ (ñ)))]=↑(Á0):=by
  unfold fC vy;rw[<- oy];exact mr zh _ qr ä;obtain⟨a,b,c,d,rfl,ha,-⟩:=hF.qv hr;have hk:=hF.qk _ hr;change ((zw (zb (zv å) Ÿ (cS (ì))) [↑(.im (zh í)),↑(.im (Þ (ñ)))]).bind λ b'=>if b'=true then (some (zh í)).map some else ↑none)=_;obtain⟨k,hka⟩:∃ k:Nat,a=Ê:=#[a.toNat,⋯];subst hka;have hkl:k<Í:=⋯;have ek:fst [Ê,b,c,d]=Ê:=rfl;rw[ek] at hk ⊢;by_cases Fs:k=p
  .subst Fs;have Bs:L2.ya (os.set k ow) Ê=↑ow:=zA (by rw[Em hkl]);have he:Â1:=Ě #[hdo,œ];rw[yG (zk (zk (x:=Þ (os.set k ow)) Ũ) rfl he)];rw[tp rfl,C1,Bool.false_or];change (if Ľ=true then _ else _)=_;cases Ľ <;> rfl
  .let#[x,x1,x2]:=gh (os:=os) (p:=Ê) ŝ hF.o "keeper";have hx':(x == ("keeper":Str))=true:=by
    unfold keeps at hk;rw[x2] at hk;show hk
   have Bs:L2.ya (ñ) Ê=↑(.str x):=zA (by
    rw[DJ (λ z=>Fs z.symm)];rw[BW] at x2;show x2)
   rw[yG (zk (zk (x:=Þ (ñ)) Ũ) rfl (eq_str x "keeper" å)),hx'];rw[tx (λ z:Ê=î=>Fs ⋯)];rfl
 show zN (zt hx (zt (zL (yU (b:=true) (yZ (zO rfl hi))) rfl) (zt (oH (zO (x:=ř) Ç rfl)) (zt (hJ (k:=p) Â rfl hp) (yh (z_ (zf Û (zf rfl (zf (zO (x:=Ï Ģ) é rfl) (zf Bp rfl)))) h)))))) rfl
theorem Qs {p:Nat}(hp:p<Í) {ow:T}(he:zP ow=å) (ho:xv ow=å):nc [À,Ä î,ow]=↑NF:=by
 have hc:=dg hF (pl:=Ä î) Ú;have hw:wh (Ä î) ć=true:=by
  ext ĵ
 rw[hw,Ě rfl] at hc;have hx:nA ņ æ=↑(.nx æ):=by
  ext ŵ
 have hi:=eR ow he;rw[ho] at hi;show zN (zt hx (yN (yx (yU (b:=å) (yZ (zO rfl hi))) rfl))) rfl
theorem Qt {pl ow:T}(hp:Pt pl) (h:À4=å):nc [À,pl,ow]=↑(Ŏ):=by
 have hc:=dg hF hp;rw[h,if_neg BC] at hc;have hx:nA ņ [↑ Å,↑ À5,↑ Ū,none]=↑(.rt (Ŏ)):=by
  change (sg [À,pl]).map _=_;rw[hc];rfl
 show zN (yN hx) rfl
theorem Jr Ŗ:∃ z,eW À1=↑z/\ů:=by
 ext ý;have hn1:=hF.n1;have hn8:=hF.n8;ext ô;let#[ow,o1,o2]:=vZ (L:=[ì,À6,ì,À6,À6,.str "Keeper",.zm,Ä 0,Þ [À6]]) (č 3 0) 9 Ł;have Fg:zP ow=å/\dep ow<=60:=by
  simp![Ao,AN,or_false] at o2;rcases o2 with rfl | rfl | rfl | rfl | rfl | rfl | rfl | rfl | rfl <;> show#[rfl,Ā]
 let#[q,q1,q2]:=vZ (L:=[Ä (Í:Nat),Ä (0-1),.bl å,.zm,.str "0"]) (č 2 0) 5 Ł;have Fb:Pt q:=by
  ext ğ
 have hlen:∀ v2 v3 v4 v5,zi zJ Ź [↑ Å,↑ Æ,v2,v3,v4,v5]=↑(Ä (Í:Nat)):=λ _ _ _ _=>zO Ç rfl;obtain⟨pl,Al,h2⟩:∃ pl,Pt pl/\zC (zw Ý) (zD 2 (zb zg (ye (za (zi zJ Ź) (za (zb yu Ň ň) (za (cS (.bl å)) Ű)))) (zb zy (zb ü Ŕ) (cI 5)))) zI
   Ĩ=↑(.nx [↑ Å,↑ Æ,↑ À5,none,none,none]):=by
  have t1:zw Ý Ĩ=↑(đ (č 1 0%5=1)):=ŉ;by_cases h:č 1 0%5=1
  .rw[tp h] at t1;show#[q,Fb,yx t1 (yv (zk (yV (zf (hlen Ĕ) ľ) (by change 5<=100;decide)) (yH (zk ã y2) Ł) q1))]
  ext ž
 have hw:yf (zX (zi w6 (za (zl 2) (za Ň (za (zb yu (zi zJ Ź) ň) ze))))) [↑ Å,↑ Æ,↑ À5,↑ Ū,none,none]=↑(! À4):=yU (yZ (z_ (zf rfl (zf rfl (zf (zk (hlen Ĕ) Â) rfl))) (j9 pl 0 _ (zY.top Al.e))));cases hv:À4 with
 | å=>
  rw[hv] at hw;let#[s,hs]:=Al.t;show#[_,zN (zt ź (zt h2 (zt ī (yN (yx hw (yh (yY (zf (yV ø Ø) Á7) Ø))))))) rfl,
   _,_,_,rfl,b6 (iK hF (Qt hF Al hv)) rfl (Ux pl Al.d hs),.inl #[_,_,rfl]]
 | true=>
  ext ſ;obtain⟨p,rfl⟩:∃ p:Nat,i=î:=#[i.toNat,⋯];have hp:p<Í:=⋯;have BE:zb zT (zb zT (x8 ā none ↑ Ş) (tupS (za (zl 3) ze))) (x8 ā ↑(zb zT Ş ň) none) [↑ Å,↑ Æ,↑ Œ,↑ Ū,none,none]=↑(Ï (ñ)):=by
   rw[<- V_ os p ow hp];exact zk (zk (x:=Ï (os.take p)) (y:=Ï [ow]) (qm (x:=ř) Ç rfl (jh rfl) ?_) rfl (Ě ?_)) (qm (x:=ř) (l:=↑(î+1)) Ç (jh rfl) rfl (show oB ↑(î+1) none (ř)=↑(Ï (os.drop (p+1))) from ?_)) (Ě ?_)
   .change ↑(T.tup (xC os none ↑ î))=_;rw[Yy os p ⋯]
   .have:Ő:=rfl;rw[B_];change _+1<=_;lia
   .change ↑(T.tup (xC os _ none))=_;rw[show (î+1)=((p+1:Nat):Int) by lia,Yz os (p+1) ⋯]
   .have:Ő:=rfl;rw[Bh,B_,Dj];change _+1+_<=_;lia
  have Bp:∀ v4 v5,fF [↑ Å,↑ Æ,↑ Œ,↑ Ū,v4,v5]=↑(Á0):=λ v4 v5=>by
   unfold fF vy;rw[<- oy];exact mr zh _ qr ä;change ((yL (zw (zb (zv true) (zb á Ň) (zc 1))) (zw (zb (zv å) Ş (cS (ì)))) [↑(.im (zh r)),↑ Œ,↑ Ū]).bind λ b=>if b=true then (some (zh r)).map some else ↑none)=_;have he:Â1:=Ě #[Fg.2,œ];rw[rz (yG (zk (zk (x:=zh r) Â (ke (À2 r hr))) rfl (eq_int (fst r) î true))) λ _=>yG (zk Â he)];change (if (ŷ)=true then _ else _)=_;cases (ŷ) <;> rfl
  have ksub:∀ r∈ Ċ,r∈qr:=λ r hr=>(C0.mp hr).1;have klen:(Ċ).length<=qr.length:=EA _ _;have k4:∀ r∈ Ċ,õ:=λ r hr=>À2 r (ksub r hr);have Cf:zY (Ï (ñ))=true:=qz λ t ht=>by
   rcases EB ht with h | h
   .show zY.mem hF.no h
   .rw[h];show Fg.1
  have E9:(ñ).length=Í:=BZ;have key:uC [À,Þ [Ä 2,Ä î,ow],fT br (ñ) wr (Ċ),.zm]=↑(ū)/\Nx (fT br (ñ) wr (Ċ)) .zm:=by
   cases how:xv ow with
   | true=>
    have hf:=pb (br:=br) (O:=Þ (ñ)) (os:=ñ) (wr:=wr) (qr:=Ċ) rfl hF.nb Cf ŝ hF.w4 k4;rw[hF.ws,lV (rs:=Ċ) (hF.qp.filter _)] at hf;show made (iK hF (Qr hF hp how hf)) hF.nb Cf ŝ ŝ hF.w4 k4 (by rw[E9];show hF.wc)
   | å=>
    have hf:=ly br (ñ) (à ß) ((Ċ).map ß) hF.nb Cf ⋯ Ù Ù;have hb:uJ br (ñ) (à ß) ((Ċ).map ß)=å:=by
     have:(ñ).all xv=å:=by
      rw[D7];show#[ow,BX.mpr #[p,⋯,List.getElem_set_self _],by rw[how];show BC]
     unfold uJ;rw[this];simp
    rw[<- vH,<- vH,hb] at hf;show#[nR (g:=å) (iK hF (Qs hF hp Fg.1 how)) hf nofun,Ò]
  show#[_,zN (zt ź (zt h2 (zt ī (zt (zL hw rfl) (zt (yv BE) (zt (yv (zO (Bp _ _) rfl)) (yh (yY (zf (yV ø Ø) (zf (yY (zf Û (zf rfl (zf é ļ))) È) ļ)) Ø)))))))) rfl,
   _,_,_,rfl,key.1,key.2]
end
def VO {a b:ë}(h:a.Perm b):yd a=yd b:=lW ((wg a).trans h) (ig a)
def y_ (wr:ë) (k:Nat):ë:=wr.take k++wr.drop (k+1)
def ir Â7(h:k<ê) (q:Ë):(wr.set k q).Perm (ú++[q]):=by
 rw[zcT,Ě h];unfold y_;rw[DM];show List.Perm.append_left _ (EK q _).symm
def iq Â7{r:Ë}(h:r∈ ú):r∈wr:=(Bb.mp h).elim (λ h=>EN h) λ h=>EO h
def bo Â7:(ú).length<=ê:=by
 unfold y_;rw[Bh,B_,Dj];lia
section
variable {ö}
include hF
theorem Xz {pl:T}(hp:Pt pl):de [À,pl]=↑(.bl (wh Ĺ)):=
 zN (yh (z_ (zf rfl (zf rfl (zf (zk (zO (x:=Ï Ģ) é Đ) Â) rfl))) (eM Ĺ (zY.top hp.e)))) rfl
theorem ff {pl a b z:T}(h:lx [À,pl,a,b]=↑z):xI [À,Į]=↑z:=
 zN (zt (zL (yO (k:=1) rfl 0) rfl) (yN (yx (yO (k:=1) rfl 1) (yh (z_ (zf rfl (zf (zk (x:=Į) İ) (zf (zk (x:=Į) Â (zA ŗ)) (zf (zk (x:=Į) Â (zA (k:=3) rfl)) rfl)))) h))))) rfl
theorem Kn {pl a b:T}(hp:Pt pl) (h:wh Ĺ=å):lx [À,pl,a,b]=↑(.err "NoWay" "way" pl):=by
 have hi:=Xz hF hp;rw[h] at hi;show zN (yN (yx (yU (b:=å) (yZ (z_ Ã hi))) rfl)) rfl
theorem Y3 ō {a b z:T}(h:vo [br,ř,Þ ((à zh).set k (ċ)),Þ (Ą zh)]=↑z):lx [À,Ä Ê,a,b]=↑z:=by
 have hi:=Xz hF (pl:=Ä Ê) Ú;have hw:wh (Ä Ê) 0 ((ê:Int)-1)=true:=by
  change (đ ((0:Int)<=k)&&đ (Ê<=(ê:Int)-1))=true;rw[tp ⋯,tp ⋯];rfl
 rw[hw] at hi;ext Ř;show zN (zt (zL (yU (b:=true) (yZ (z_ Ã hi))) rfl) (zt (oH (zO (x:=Ï Ģ) é rfl)) (zt (hJ (k:=k) rfl (yY (zf Ť (zf Ť Ã)) È) rfl (by rw[Af];show hk)) (yh (z_ (zf Û (zf Ç (zf rfl (zf (zO (x:=Ż) ı rfl) rfl)))) h))))) rfl
theorem LW ō {a b:T}(ha:zP a=å/\dep a<=60) (hb:zP b=å/\dep b<=60):
  ∃ R,vT [ė,ċ]=↑R/\uC [À,Þ [Ä 1,Ä Ê,a,b],Ï [br,ř,R,Ż],.zm]=↑(ū)/\Nx (Ï [br,ř,R,Ż]) .zm:=by
 ext ý;have hrl:=bo (wr:=wr) (k:=k);have hm:Th (ċ):=Ï (by simp[ha.1,ha.2,hb.1,hb.2,dep]) (by change 4<=1000;decide);have r4:∀ r∈ ú,õ:=λ r hr=>hF.w4 r (iq hr);have bad:vt (ċ)=å->xI [À,Þ [Ä 1,Ä Ê,a,b]]=↑NF:=λ h=>by
  exact ff hF (Y3 hF hk hr (X0 (λ u hu=>?_) (lP hF À2) (by rw[BZ,Af,Af];lia) ?_))
  .rcases EB hu with h | h
   .show lP hF hF.w4 u h
   .rw[h];show hm
  .rw[D7];show#[_,CW _ (BX.mpr #[k,by rw[BZ,Af];show hk,List.getElem_set_self _]),by rw[h];show BC]
 rcases jV hm (λ z=>by cases z) with ⟨q,e,h4⟩ | ⟨IA,⟨r,e,r0,rg⟩ | hn⟩
 .have Ip:∀ r∈ ú++[q],õ:=λ r hr=>by
   rcases Bb.mp hr with hr | hr
   .show r4 r hr
   .rw[A4.mp hr];show h4
  have s4:∀ r∈wr.set k q,õ:=λ r hr=>Ip r ((ir hk q).mem_iff.mp hr);ext Ō
  have es:xu ((ú).map ß++[q.map Kx.i])=(yd (ú++[q])).map ß:=by
   rw[<- lX,B2];rfl
  have hR:vT [ė,ċ]=↑(Ï ((yd (ú++[q])).map zh)):=by
   rw[e] at hm ⊢;rw[sC] at hm ⊢;rw[ng hm q0 ⋯ r4,es,<- vH]
  have hl:(yd (ú++[q])).length=(ú).length+1:=by rw[ĳ,Bh];rfl
  have C9:=pb (br:=br) (O:=ř) (os:=os) (wr:=wr.set k q) (qr:=qr) rfl Ŝ (by rw[BZ];lia) ⋯ s4 À2;rw[hF.qs,VO (ir hk q),List.map_set,<- e] at C9;have fq:fst q=f:=by
   let#[x,y,z,v,rfl]:=vI h4;have e':[Ĭ f,Ĭ t,a,b]=[Ĭ x,Ä y,Ä z,Ä v]:=by injection e
   injection e' with e1 e2
   injection e1 with e1
   show e1.symm
  exact#[_,hR,made (ff hF (Y3 hF hk hr C9)) Ŝ ŝ hF.n1 hF.n8 (pC Ip) À2 (gZ (λ x hx=>?_) hF.wc)];let#[r,Dp,rfl]:=Av.mp hx;let#[j,hj,hje]:=List.getElem_of_mem Dp;by_cases Dq:j=k
  .subst Dq;have:r=ò:=by
    rw[AF hj,hje] at hr
    injection hr
   rw[this];show ż #[q,Ŋ (A8 _ Aw),fq]
  .exact ż #[r,Ŋ ((ir hk q).mem_iff.mp (BX.mpr #[j,by rw[BZ];show hj,?_])),rfl];rw[List.getElem_set_ne (λ z=>Dq z.symm)];show hje
 .have hm':=hm;rw[e] at hm';have hR:=ng (wr:=ú) hm' r0 ⋯ r4;rw[<- e] at hR;have hs:r∈ ţ:=Á6;have hl:(ţ).length=(ú).length+1:=ũ
  have hf:=ly br os (ţ) (Ą ß) Ŝ (by have:=hF.n8;lia) ⋯ Ù;rw[<- vH,Zk hs rg] at hf;show#[_,hR,nR (g:=å) (bad IA) hf nofun,Ò]
 .show#[_,eT hm hn,iy (bad IA) (.inl rfl) #[true,rfl],.inr #[rfl,_,_,_,_,rfl,#[.inl rfl,Š],λ cs ds h _=>by cases h]]
theorem Xw (n g:Int):∃ y,se [Ä n,Ä g]=↑y/\zP y=å/\dep y<=60:=by
 let#[z,z1,z2]:=vZ (L:=[Ä g,Ä g,Ä g,Ä g,Ä g,Ä 13,Ä (0-13),ū,.zm,.str "1",Þ [Ä 0],Ä (13+n)]) n 12 Ł;exact#[z,zN (yh (zk (yV (zf rfl (zf rfl (zf rfl Õ))) (by change 12<=100;decide)) (yH Â ()) z1)) rfl,?_];simp![Ao,AN,or_false] at z2;rcases z2 with rfl | rfl | rfl | rfl | rfl | rfl | rfl | rfl | rfl | rfl | rfl | rfl <;> show#[rfl,Ā]
include hF
theorem Jt Ŗ:∃ z,eX À1=↑z/\ů:=by
 ext ý;have l0:0<ê:=List.length_pos_iff.mpr hF.d_;ext ô;have y4:=xl (ys:=ys) (j:=4) ⋯;have y5:=xl (ys:=ys) (j:=5) ⋯;have y6:=xl (ys:=ys) (j:=6) ⋯;let#[a,a1,a2]:=Xw hF (č 3 0) (č 4 0%25-12);let#[b,b1,b2]:=Xw hF (č 5 0) (č 6 0%25-12);generalize č 0 0=v0 at y0;generalize č 1 0=v1 at y1;generalize č 2 0=v2 at y2;generalize č 3 0=v3 at y3 a1;generalize č 4 0=v4 at y4 a1;generalize č 5 0=v5 at y5 b1;generalize č 6 0=v6 at y6 b1;let#[q,q1,q2]:=vZ (L:=[Ä (ê:Nat),Ä (0-1),ū,.zm,.str "0"]) v2 5 Ł;have Fb:Pt q:=by
  ext ğ
 have hV2:∀ J:Ev,J[0]?=↑↑ Å->zb á Ŕ J=↑(Ï Ģ):=fun J h=>zk (x:=À) (by unfold zc;rw[h]) rfl (zA ŗ)
 have hlen:∀ J:Ev,J[0]?=↑↑ Å->zi zJ (za Ă ze) J=↑(Ä (ê:Nat)):=fun J h=>zO (hV2 J h) Đ
 obtain⟨pl,Al,h2⟩:∃ pl,Pt pl/\zC Î
   Ē=↑(.nx [↑ Å,↑ Æ,↑ À5,none,none,none,none,none]):=by
  have t1:zw Ý Ē=↑(đ (v1%5=1)):=ŉ;by_cases h:v1%5=1
  .rw[tp h] at t1;show#[q,Fb,yx t1 (yv (zk (yV (zf (hlen _ rfl) ľ) (by change 5<=100;decide)) (yH (zk ã y2) Ł) q1))]
  ext ž
 have hw:yf (zX (zi w6 (za (zl 2) (za Ň (za (zb yu Ž ň) ze))))) ĝ=↑(!wh Ĺ):=yU (yZ (z_ (zf rfl (zf rfl (zf (zk (hlen _ rfl) Â) rfl))) (j9 pl 0 _ (zY.top Al.e))));have pre:∀ {k:Sm}{o:ő Out},k ĝ=o->(zq (zD 2 (zb zy (zb ü Ň) Ž)) (zq (zC Î) (zq (zD 3 (zi se (za (zb ü (cI 3)) (za (zb yu (zb zy (zb ü (cI 4)) (cI 25)) (cI 12)) ze)))) (zq (zD 4 (zi se (za (zb ü (cI 5)) (za (zb yu (zb zy (zb ü (cI 6)) (cI 25)) (cI 12)) ze)))) k)))) [↑ Å,↑ Æ,none,none,none,none,none,none]=o:=λ{k o} hk=>
  zt (yv (yH (zk ã y0) (hlen _ rfl) ⋯)) (zt h2 (zt (yv (z_ (zf (zk ã y3) (zf (zk (yH (zk ã y4) Ł) Â) rfl)) a1)) (zt (yv (z_ (zf (zk ã y5) (zf (zk (yH (zk ã y6) Ł) Â) rfl)) b1)) hk)))
 cases hv:wh Ĺ with
 | å=>
  rw[hv] at hw;let#[s,hs]:=Al.t;show#[_,zN (pre (yN (yx hw (yh (yY (zf (yV ľ È) Á7) Ø))))) rfl,_,_,_,rfl,b6 (ff hF (Kn hF Al hv)) rfl (Uw pl Al.d hs),.inl #[_,_,rfl]]
 | true=>
  ext ſ;obtain⟨k,rfl⟩:∃ k:Nat,i=Ê:=#[i.toNat,⋯];have hk:k<ê:=⋯;obtain⟨f,t,c,d,A6,-⟩:=hF.wv (B3 hk);have hr:wr[k]?=↑ ò:=by rw[AF hk,A6]
  ext Ř;have hrl:=bo (wr:=wr) (k:=k);have Ge:zb zT (x8 Ă none ↑ Ş) (x8 Ă ↑(zb zT Ş ň) none) [↑ Å,↑ Æ,↑ Č,↑(.im a),↑(.im b),none,none,none]=↑(ė):=by
   have e:(ú).map zh=(à zh).take k++(à zh).drop (k+1):=by unfold y_;rw[B2,Dy,CS]
   rw[e];exact zk (x:=Ï ((à zh).take k)) (y:=Ï ((à zh).drop (k+1))) (qm (hV2 _ rfl) rfl (jh rfl) ?_) (qm (l:=↑(Ê+1)) (hV2 _ rfl) (jh rfl) rfl ?_) (Ě ?_)
   .change ↑(T.tup (xC _ none ↑ Ê))=_;rw[Yy _ k Ù]
   .change ↑(T.tup (xC _ _ none))=_;rw[show (Ê+1)=((k+1:Nat):Int) by lia,Yz _ (k+1) Ù]
   .have:Ő:=rfl;rw[B_,Dj,Af];lia
  obtain⟨al,al1,hal⟩:∃ al:ë,(∀ r∈al,r∈wr)/\fG [↑ Å,↑ Æ,↑ Č,↑(.im a),↑(.im b),↑(.im (ė)),none,none]=↑ Á1:=by
   exact#[(ú).filter λ r=>eqT (Ï ((r.map Ĭ).take 2)) (Á2),λ r hr=>iq (C0.mp hr).1,?_];unfold fG;rw[<- oy];exact mr zh _ (ú) ä;obtain⟨x,y,z,v,rfl,-⟩:=hF.wv (iq hr);change ((zw (zb (zv å) (x8 (zc 0) none ↑ Ŕ) (x8 (zb zg (zb ü Ŕ) Ş) none ↑ Ŕ)) [↑(.im (ŋ)),↑ Å,↑ Č]).bind λ b=>if b=true then (some (ŋ)).map some else ↑none)=_;have he:zv å ï=↑(.bl (eqT ï)):=Ě #[Ā,Ā];rw[yG (zk (x:=Ï [Ä x,Ä y]) (y:=Á2) (qm (x:=ŋ) Â Â) (qm (x:=zh ò) (zk é rfl Bs) Â rfl) he)];change (if eqT ï=true then _ else _)=↑(if eqT ï=true then _ else _);cases eqT ï <;> rfl
  obtain⟨a',b',ha',IC,h3⟩:∃ a' b',(zP a'=å/\dep a'<=60)/\(zP b'=å/\dep b'<=60)/\zC (wR (zw Á3) (zw ĭ)) (p7 (x8 (zb zg (zc 6) (zb zy (zb ü Ŕ) (zi zJ (za (zc 6) ze)))) ↑ Ŕ none) (xK 2 (zZ (zx 3) (zZ (zx 4) xX)))) zI
    ð=↑(.nx [↑ Å,↑ Æ,↑ Č,↑(.im a'),↑(.im b'),↑(.im (ė)),↑(.im Á1),none]):=by
   have d5:xJ v1 5:=#[(),()];have t2:zw ĭ ð=↑(đ (v1/5%3=0)):=yG (zk (yH (zk (zk ã y1) rfl (by simp[d5])) Ł) rfl (eq_int _ 0 å));cases De:al with
   | nil=>
    exact#[a,b,a2,b2,zL (oJ (yG (zk (x:=Þ []) À7 ?_))) rfl];show eq_self (Þ []) (Ā) true
   | cons r0 IY=>
    have t1:∀ (e5 e7:ő L5.W),zw Á3 [↑ Å,↑ Æ,↑ Č,↑(.im a),↑(.im b),e5,↑(.im (Þ (Ĉ))),e7]=↑true:=λ e5 e7=>by
     have hd:dep (Þ (Ĉ))<=60:=by
      have hdr:∀ l:ë,yA (l.map zh)<=1:=λ l=>by
       induction l with
       | nil=>simp[yA]
       | cons r l ih=>
        have:dep (zh r)<=1:=by
         ext Ţ
        rw[AJ,yA];lia
      have:=hdr (r0::IY);rw[dep];lia
     exact yG (zk (x:=Þ (Ĉ)) À7 ?_);unfold zv;rw[Ě #[hd,Ā]];rfl
    by_cases h:v1/5%3=0
    .rw[De,tp h] at t2;let#[m,m1,m2]:=vZ (L:=Ĉ) v2 (r0::IY).length (by rw[Af]) (D8 _);let#[r,Dp,rfl]:=Av.mp m2;obtain⟨x,y,z,v,rfl,-⟩:=hF.wv (al1 r (by rw[De];show Dp));exact#[Ä z,Ä v,#[rfl,œ],#[rfl,œ],yx (vR (t1 _ _) t2) (jW (y:=Ï [Ä z,Ä v]) (qm (x:=ŋ) (zk (x:=Þ (Ĉ)) rfl (yH (zk ã y2) (zO (x:=Þ (Ĉ)) rfl (show zJ [Þ (Ĉ)]=↑(Ä ((r0::IY).length:Nat)) by change ↑(Ĭ ((Ĉ).length:Nat))=_;rw[Af])) (by rw[Be];lia)) m1) Â rfl) rfl)]
    .rw[De,tx h] at t2;show#[a,b,a2,b2,zL (vR (t1 _ _) t2) rfl]
  let#[R,r1,r2,r3]:=LW hF hk hr ha' IC;have hix2:∀ J:Ev,J[0]?=↑↑ Å->J[2]?=↑↑ Č->zb zg Ă Ş J=↑(zh ò):=fun J h h'=>zk (y:=Ä Ê) (hV2 J h) (by unfold zc;rw[h']) Bs
  show#[_,zN (pre (zt (zL hw rfl) (zt (yv Ge) (zt (yv hal) (zt h3 (zt (yv (z_ (zf rfl (zf (yY (zf (zk (hix2 _ Â) Â) (zf (zk (hix2 _ Â) Â) Ã)) È) rfl)) r1)) (yh (yY (zf (yV ľ È) (zf (yY (zf Û (zf Ç (zf rfl (zf ı rfl)))) È) ļ)) Ø)))))))) rfl,_,_,_,rfl,r2,r3]
end
def mw:Ë->Ë
 | í=>[a,b,d,c]
 | r=>r
def ms:Ë->Ë
 | í=>[a,1-b,c,d]
 | r=>r
def N7 Ŷ:(mw r).length=4:=Ö
def ND Ŷ:(ms r).length=4:=Ö
def N6 Ŷ:fst (mw r)=fst r:=Ö
def NC Ŷ:fst (ms r)=fst r:=Ö
def kB {f:Ë->Ë}{l:ë}(hf:∀ {r:Ë},õ->(f r).length=4) (h:∀ r∈l,õ):∀ r∈l.map f,õ:=λ r hr=>by
 let#[q,hq,rfl]:=Av.mp hr;show hf (h q hq)
section
variable {ö}
include hF
theorem Ff.YC:∃ x y:Int,br=ş:=by
 let#[r,rfl,hr,_]:=pJ hF.b
 match r,hr with
 | [x,y],_=>show#[x,y,rfl]
theorem Js:∃ z,e_ [À]=↑z/\ů:=by
 ext ý;let#[x,y,rfl]:=hF.YC;have Ip:=kB N7 hF.w4;have JY:=kB ND À2;have qs:yd (Ą ms)=Ą ms:=by
  exact lV (lJ (kW (λ r hr z=>by have:=JY r hr;ext Á9) ?_));have e:(Ą ms).map fst=Ą fst:=by
   rw[AI];show CP λ r hr=>NC (À2 r hr)
  rw[e];show hF.qu
 have hs:=nM (à mw) Ù (λ r hr z=>by have:=Ip r hr;ext Á9);have l1:∀ v1 v2,fK ę=↑(Þ ((à mw).map zh)):=λ v1 v2=>by
  unfold fK;ext ű;ext ē;rfl
 have l2:∀ v1 v2,fx ę=↑(Þ ((Ą ms).map zh)):=λ v1 v2=>by
  unfold fx;ext Ĵ
 have p1:∀ v1 v2,fE ę=↑(Þ ((à mw).map zh)):=λ v1 v2=>by
  unfold fE;ext ű;ext ē;rfl
 have p2:∀ v1 v2,ft ę=↑(Þ ((Ą ms).map zh)):=λ v1 v2=>by
  unfold ft;ext Ĵ
 have C9:=pb (br:=zh [y,x]) (O:=ř) (os:=os) (wr:=à mw) (qr:=Ą ms) rfl (pV _) hF.no Ù Ù Ip JY;rw[qs] at C9;have ha:xI [Ô,Þ [Ä 5]]=↑(if uK (ŧ)=true then ŧ else NF):=by
  have h1:eS [Ô]=_:=zN (N:=["floor","ways","stalls"]) (n:=1) (g:=Wh) (ys:=[Ô]) (zt (yv (p1 _ _)) (zt (yv (p2 _ _)) (yh (z_ É C9)))) rfl;show zN (zt (zL (yO ŭ 0) rfl) (zt (zL (yO ŭ 1) rfl) (zt (zL (yO ŭ 2) rfl) (zt (zL (yO ŭ 3) rfl) (zt (zL (yO ŭ 4) rfl) (yN (yx (yO ŭ 5) (yh (z_ ļ h1)))))))) ) rfl
 have hl:(yd (à mw)).length=ê:=by rw[ĳ,Af]
 have hh:=made ha (pV _) hF.no ⋯ Ù hF.n1 hF.n8 (pC Ip) JY (gZ (λ v hv=>by
  let#[r,hr,rfl]:=Av.mp hv;show ż #[mw r,Ŋ (ż #[r,hr,rfl]),N6 (hF.w4 r hr)]) hF.wc)
 show#[_,zN (zt (yv (zO (zO (l1 _ _) hs) rfl)) (zt (yv (zO (l2 _ _) rfl)) (yh (yY (zf (yV ļ (D6 1 99)) (zf (yY É È) ļ)) Ø)))) rfl,_,_,_,rfl,hh.1,hh.2]
end
def zW (l:ġ):List T:=l.map λ k:Nat=>Ĭ Ê
def iV (l:ġ):zW l=(l.map λ k:Nat=>Ê).map Ĭ:=by unfold zW;rw[AI];rfl
def ne_nil (l:ġ):zv true (Þ (zW l)) (Þ [])=↑(.bl (!l.isEmpty)):=by
 have h1:dep (Þ (zW l))<=60:=by
  rw[dep,iV,o7];decide
 unfold zv;rw[Ě #[h1,Ā]];cases l with
 | nil=>simp[zW,eqT,wQ]
 | cons a l=>simp[zW,eqT,wQ]
theorem Yd {α β:Type}(f:α->β):∀ (l:List α) (i:Nat),(l.map f).eraseIdx i=(l.eraseIdx i).map f
 | [],_=>rfl
 | _::_,0=>rfl
 | a::l,i+1=>by simp[Yd f l i]
def uP Â8:Ev:=[↑(.im V),↑(.im (Ä x)),↑(.own (Þ (zW left))),↑ Ŭ,none,none,none]
theorem Qy Â8 (i:Nat) (hi:x%(Ď:Int)=ŏ) (CA:i<Ď) (hb:Ď+Ì<=100):jm į=↑(.nx (uP V (x/9) Ķ)):=by
 have a1:(zW left).eraseIdx i=zW (left.eraseIdx i):=Yd ĕ;have a2:zW (ord++[left[i]])=zW ord++[(zW left).getD i .zm]:=by
  unfold zW;rw[B2,A9,AQ,AF CA];rfl
 have a3:Ś=Ď:=by unfold zW;rw[Af]
 have a4:Â2=Ì:=by unfold zW;rw[Af]
 have hl:Ő:=rfl;have hm:zb ĺ į=↑(Ä ŏ):=by
  rw[<- hi];exact yH rfl (zO (x:=Þ (zW left)) rfl ?_) ⋯;change ↑(Ĭ (Ś:Nat))=_;rw[a3]
 have hp:jo 3 2 (zb ĺ) į=↑(.nx (uP V x Ķ)):=by
  change ((zb ĺ) į).bind _=_;rw[hm];change (if (3:Nat)≠2/\Â2<sizeLine/\0<=ŏ/\(i:Int).toNat<Ś/\Ś<2 ^ 62 then _ else _)=_;rw[Ě #[(),⋯,⋯,by rw[BW];lia,⋯],BW,a1,<- a2];rfl
 have d9:xJ x 9:=#[(),()];show zt hp (yv (zk Â (by simp[d9])))
def NR {c:Ev->ő Bool}{b:Sm}{n:Nat}{J J':Ev}{o:ő Out}(hc:c J=↑true) (hb:b J=↑(.nx J')) (h:tG [] c b n J'=o):tG [] c b (n+1) J=o:=by
 unfold tG;change (c J).bind _=_;rw[hc];change (b J).bind _=_;rw[hb];show h
theorem ax (V:T):∀ (k:Nat) (left ord:ġ) (x:Int),Ď=k->Ď+Ì<=100->∀ m,k<m->∃ x' ord',ord'.Perm (ord++left)/\
  tG [] (zw ď) jm m į=↑(.nx (uP V x' [] ord'))
 | k,left,ord,x,hk,hb,0,hm=>⋯
 | 0,left,ord,x,hk,hb,m+1,hm=>by
  cases left with
  | cons _ _=>cases hk
  | nil=>
   have h:zw ď (uP V x [] ord)=↑ å:=yG (zk (x:=Þ (zW [])) À7 (ne_nil []));exact#[x,ord,by rw[CV],?_];unfold tG;change (zw ď (uP V x [] ord)).bind _=_;rw[h];rfl
 | k+1,left,ord,x,hk,hb,m+1,hm=>by
  have hl:(0:Int)<Ď:=⋯;have AA:left.isEmpty=å:=by cases left with | nil=>cases hk | cons _ _=>rfl
  have h:=ne_nil left;rw[AA] at h;have g0:=BP x (Int.ne_of_gt hl);have g1:=Ca x hl;obtain⟨i,hi⟩:∃ i:Nat,x%(Ď:Int)=ŏ:=#[(x%(Ď:Int)).toNat,by rw[CY g0]];have CA:i<Ď:=⋯;let#[x',ord',p,e]:=ax V k Ķ (x/9) (by rw[EJ CA];lia) (by rw[EJ CA,Bh];change _+(_+1)<=100;lia) m ⋯;exact#[x',ord',p.trans ?_,NR (yG (zk (x:=Þ (zW left)) À7 h)) (Qy V x left ord i hi CA hb) e];rw[DM];exact List.Perm.append_left ord ?_;have:=ST.gL left i left[i] (AF CA);exists this.symm
section
variable {ord:ġ}{os:List T}
def md â {j:Nat}(hj:j<Ì):ĥ j<Ì/\ś (ĥ j) 0=j:=by
 have hm:j∈ord:=hp.mem_iff.mpr (AO.mpr hj);have Ax:=EI.mpr hm;show#[Ax,by rw[A9,AF Ax];show EH Ax]
def ay â:ord.Nodup:=hp.nodup_iff.mpr Eh
def Qz â {p q:Nat}(h1:p<Ì) (h2:q<Ì) (h:ś p 0=ś q 0):p=q:=by
 rw[A9,AF h1,A9,AF h2] at h;show (EY (ay hp)).mp h
def az â Á5:ś p 0<Ì:=by
 have:ś p 0∈ord:=by rw[A9,AF h];show B3 h
 show AO.mp (hp.mem_iff.mp this)
def Q0 â Á5:ĥ (ś p 0)=p:=
 Qz hp (md hp (az hp h)).1 h (md hp (az hp h)).2
def Nr Á5:L2.ya Ü î=↑(Ä ((ś p 0:Nat):Int)):=by
 exact zA ?_;unfold zW;rw[AQ,AF h,A9,AF h];rfl
theorem ZF (j:Nat):∀ l:ġ,(l.map λ k:Nat=>Ê).idxOf ń=l.idxOf j
 | []=>rfl
 | a::l=>by
  rw[AJ,List.idxOf_cons,List.idxOf_cons,ZF j l];have:((a:Int) == ń)=(a == j):=by
   rw[Dm];simp;lia
  rw[this]
def Jv â {j:Nat}(hj:j<Ì):m7 (Þ Ü) (Ä ń)=↑(Ä ((ĥ j:Nat):Int)):=by
 have hm:ń ∈ ě:=ż #[j,hp.mem_iff.mpr (AO.mpr hj),rfl];change ((wF Ü).bind λ ns=>if ń ∈ns then ↑(Ĭ (ns.idxOf ń:Nat)) else none)=_;rw[iV,m6,B4,Ě hm,ZF]
def uf (os:List T) (ord:ġ):List T:=(ă Ì).map λ j=>Ć
def V9 â (hn:Í=Ì) (h8:Ì<=8):
  p8 [Ï Ü,ř]=↑(Þ ((ă Ì).map Â3)):=by
 have hl:Í=(ě).length:=by rw[Af];show hn
 have nd:(ě).Nodup:=B8.mpr ((ay hp).imp λ h e=>h ⋯);have e:p9 (ě) os=(ă Ì).map λ j:Nat=>(ń,Ć):=by
  exact (cN hl nd ?_ ?_).symm
  .have e1:(ě).zip os=ord.map λ j:Nat=>(ń,Ć):=by
    exact DD (by simp[hn]) λ i h1 h2=>?_;have hi:i<Ì:=by exists h2
    have h3:=Q0 hp hi;rw[A9,AF hi] at h3;have h4:ĥ ord[i]=i:=h3;simp[h4,show i<Í by lia]
   rw[e1];show hp.symm.map _
  .exact B8.mpr (List.pairwise_lt_range.imp λ h=>?_);change (_:Int)<=_;lia
 unfold p8;simp![bc,B4,iV,m6];rw[Ě #[hl,by rw[Af];lia,nd],e,AI];rfl
def oI (ord:ġ) (a:Int):Int:=((ś a.toNat 0:Nat):Int)
def tm (ord:ġ):Ë->Ë
 | í=>[oI ord a,oI ord b,c,d]
 | r=>r
def sy (ord:ġ):Ë->Ë
 | í=>[oI ord a,b,c,d]
 | r=>r
theorem pU {a:Int}(h:0<=a/\a<Ì):L2.ya Ü a=↑(Ä (oI ord a)):=by
 have:=Nr (ord:=ord) (p:=a.toNat) ⋯;rw[CY h.1] at this;show this
end
section
variable {ö}
include hF
theorem Jq (x:Int):∃ z,eZ [À,Ä x]=↑z/\ů:=by
 ext ý;have hn8:=hF.n8;have hn1:=hF.n1;let#[x',ord,p,e]:=ax (À) Í (ă Í) [] x B5 (by rw[B5];change Í+0<=100;lia) 1000000 ⋯;have hl:Ì=Í:=by rw[p.length_eq,List.nil_append,B5]
 have hp:ord.Perm (ă Ì):=by rw[hl];exists p
 have hr:zi kC (za (zi zJ Ź) ze) [↑ Å,↑(.im (Ä x)),none,none,none,none,none]=↑(Þ (zW (ă Í))):=by
  exact zO (zO Ç rfl) ?_;change (if (0:Int)<=(Í:Int)/\(Í:Int)<=16777216 then ↑(T.lst (rangeT 0 (Í:Int).toNat)) else none)=_;rw[Ě ⋯,BW];simp[rangeT,zW]
 have Ip:∀ r∈ Ħ,õ:=kB (f:=tm ord) (λ h=>Ö) hF.w4;have JY:∀ r∈ ħ,õ:=kB (f:=sy ord) (λ h=>Ö) À2;have ne:∀ {l:ë},(∀ r∈l,õ)->∀ r∈l,r≠[]:=λ h r hr z=>by have:=h r hr;ext Á9
 have s1:=nM (Ħ) Ù (ne Ip);have s2:=nM (ħ) Ù (ne JY);have H_:(ĸ).length=Í:=by unfold uf;rw[Af,B5,hl]
 have osm:∀ t∈ ĸ,t∈os:=λ t ht=>by
  let#[j,hj,rfl]:=Av.mp ht;have:=(md hp (AO.mp hj)).1;rw[A9,AF ⋯];show B3 ⋯
 have Cf:zY (Ï (ĸ))=true:=qz λ t ht=>zY.mem hF.no (osm t ht);have l1:∀ y a b c,fJ è=↑(Þ (ĸ)):=λ y a b c=>by
  unfold fJ uf;exact xf (λ k:Nat=>Ĭ (0+Ê)) _ (ă Ì) ?_ (by rw[B5];lia) λ j hj=>?_
  .change (za (zi zJ (za (zc 3) ze)) ze _).bind _=_;rw[zf (x:=Ä (Ì:Nat)) (zO (x:=Þ Ü) rfl (by change ↑(Ĭ (Â2:Nat))=_;unfold zW;rw[Af])) rfl];show sE Ì ⋯
  .have HN:=AO.mp hj;have hi:=(md hp HN).1;change (zb zg (zb ü ň) (zb m7 Ş (zc 0)) [↑(.im (Ä (0+ń))),↑ Å,↑ Ŭ]).map some=_;rw[Ed,zk (x:=ř) Ç (zk (x:=Þ Ü) Â (Jv hp HN)) (zA (AF (show ĥ j<Í by lia)))];rw[A9,AF (show ĥ j<Í by lia)];rfl
 have l2:∀ y a b c,fu è=↑(Þ ((Ħ).map zh)):=λ y a b c=>by
  unfold fu;ext Ğ;change (tupS (za (zb zg (zc 4) (zc 0)) (za (zb zg (zc 4) (zc 1)) (za (zl 2) (za (zl 3) ze)))) ĉ).map some=_;rw[yY (zf Ņ (zf Ņ Ã)) È];rfl
 have l3:∀ y a b c,fm è=↑(Þ ((ħ).map zh)):=λ y a b c=>by
  unfold fm;ext ĩ;change (tupS (za (zb zg (zc 4) (zc 0)) (za (zl 1) (za (zl 2) (za (zl 3) ze)))) ĉ).map some=_;rw[yY (zf Ņ ø) È];rfl
 have p1:fD [↑ Å,↑ ŕ,none,none,none]=↑(Þ (ĸ)):=by
  unfold fD uf;exact xf (Â3) _ (ă Ì) ?_ (by rw[B5];lia) λ j hj=>rfl;change (zi p8 (za (zc 1) Ź) _).bind _=_;rw[z_ (zf rfl (zf Ç rfl)) (V9 hp hl.symm ⋯)];rfl
 have p2:∀ v,fo [↑ Å,↑ ŕ,v,none,none]=↑(Þ ((Ħ).map zh)):=λ v=>by
  unfold fo;ext Ğ;change (tupS (za Ÿ (za (zb ü ā) À8)) [↑(.im (zh í)),↑ ŕ]).map some=_;rw[yY (zf Ĳ (zf Ĳ (zf Ð (zf Ð rfl)))) È];rfl
 have p3:∀ v u,fk [↑ Å,↑ ŕ,v,u,none]=↑(Þ ((ħ).map zh)):=λ v u=>by
  unfold fk;ext ĩ;change (tupS (za Ÿ (za ā À8)) [↑(.im (zh í)),↑ ŕ]).map some=_;rw[yY (zf Ĳ (zf Ð (zf Ð (zf Ð rfl)))) È];rfl
 have C9:=pb (br:=br) (O:=Þ (ĸ)) (os:=ĸ) (wr:=Ħ) (qr:=ħ) rfl hF.nb Cf Ù Ù Ip JY;have ha:xI [À,Þ [Ä 6,Ï Ü]]=↑(if uK (À9)=true then À9 else NF):=by
  have h1:eQ [À,Ï Ü]=_:=zN (N:=["floor","order","owners","ways","stalls"]) (n:=2) (g:=Wg) (ys:=[À,Ï Ü]) (zt (yv p1) (zt (yv (p2 _)) (zt (yv (p3 _ _)) (yh (z_ (zf Û ø) C9))))) rfl;show zN (zt (zL (yO Ů 0) rfl) (zt (zL (yO Ů 1) rfl) (zt (zL (yO Ů 2) rfl) (zt (zL (yO Ů 3) rfl) (zt (zL (yO Ů 4) rfl) (zt (zL (yO Ů 5) rfl) (yh (z_ (zf rfl (zf (zk (x:=Þ [Ä 6,Ï Ü]) İ) rfl)) h1)))))))) rfl
 have ll1:(yd (Ħ)).length=ê:=by rw[ĳ,Af]
 have ll2:(yd (ħ)).length=qr.length:=by rw[ĳ,Af]
 have hh:=made ha hF.nb Cf ŝ ŝ (pC Ip) (pC JY) (by
  rw[H_,AV];intro k hk;have HS:k<Ì:=by rw[hl];show AO.mp hk
  let#[h1,h2]:=md hp HS;let#[v,hv,Er]:=Cr.mp (AV.mp hF.wc (ĥ k) (AO.mpr ⋯));let#[r,hr,rfl]:=Av.mp hv;ext ē;rw[À3] at Er;have Er:a=((ĥ k:Nat):Int):=Er;exact Cr.mpr #[Ê,ż #[tm ord í,Ŋ (ż #[_,hr,rfl]),?_],tp rfl];change oI ord a=Ê
  unfold oI;rw[Er,BW,h2])
 show#[_,zN (zt (oH hr) (zt (oH (yV Ł)) (zt (show jM 1000000 [] (zw ď) jm (uP (À) x (ă Í) [])=_ from e) (zt (yv (zO (l1 Ĕ) rfl)) (zt (yv (zO (zO (l2 Ĕ) s1) rfl)) (zt (yv (zO (zO (l3 Ĕ) s2) rfl)) (yh (yY (zf (yV (zf rfl (zf (zO (x:=Þ Ü) Â) rfl)) ą) (zf (yY (zf Û ø) È) ļ)) Ø)))))))) rfl,_,_,_,rfl,hh.1,hh.2]
include hF
theorem Jz (c:Int):∃ z,da [À,Ä c]=↑z/\ů:=by
 let#[ys,h1,hy]:=Xs (c/7) 7 ();have h1:sX [Ä (c/7),Ä 7]=↑(zB ys):=h1;have d7:xJ c 7:=#[(),()];have pre:∀ {k:Sm}{o:ő Out},k Ó=o->zq (zD 2 (zi sX (za (zb xB (zc 1) (cI 7)) (za (cI 7) ze)))) (zq (zD 3 (zb zy (zc 1) (cI 7))) k) [↑ Å,↑(.im (Ä c)),none,none]=o:=λ h=>
  zt (yv (z_ (zf (zk Â (by simp[d7])) ļ) h1)) (zt (yv (yH Â ())) h)
 have q:∀ j:Int,zw ķ Ó=↑(đ (c%7=j)):=λ j=>yG (zk Â (eq_int (c%7) j å));have no:∀ {j:Int}{g k:Sm}{o:ő Out},c%7≠j->k Ó=o->zq (zC (zw ķ) g zI) k Ó=o:=λ{j g k o} hj h=>zt (zL (by rw[q j,tx hj]) rfl) h;have yes:∀ {j:Int}{F:Ak}{k:Sm}{z:T},c%7=j->F À1=↑z->zq (zC (zw ķ) (retS (zi F (za (zl 0) (za (zl 2) ze)))) zI) k Ó=↑(.rt z):=λ{j F k z} hj h=>yN (yx (by rw[q j,tp hj]) (yh (z_ Ã h)));have y0:=xl (ys:=ys) (j:=0) ⋯;have hw:c%7=0\/c%7=1\/c%7=2\/c%7=3\/c%7=4\/c%7=5\/c%7=6:=⋯;rcases hw with h | h | h | h | h | h | h
 .let#[z,z1,z2]:=Jo hF ys hy;show#[z,zN (pre (yes h z1)) rfl,z2]
 .let#[z,z1,z2]:=Jt hF ys hy;show#[z,zN (pre (no ⋯ (yes h z1))) rfl,z2]
 .let#[z,z1,z2]:=Jr hF ys hy;show#[z,zN (pre ŀ) rfl,z2]
 .let#[z,z1,z2]:=Ju hF ys hy;show#[z,zN (pre (no ⋯ ŀ)) rfl,z2]
 .let#[z,z1,z2]:=Jp hF ys hy;show#[z,zN (pre (no ⋯ (no ⋯ ŀ))) rfl,z2]
 .let#[z,z1,z2]:=Js hF;show#[z,zN (pre (no ⋯ (no ⋯ (no ⋯ (no ⋯ (no ⋯ (yN (yx (by rw[q 5,tp h]) (yh (z_ ļ z1)))))))))) rfl,z2]
 .let#[z,z1,z2]:=Jq hF (č 0 0);show#[z,zN (pre (no ⋯ (no ⋯ (no ⋯ (no ⋯ (no ⋯ (no ⋯ (yh (z_ (zf rfl (zf (zk ã y0) rfl)) z1))))))))) rfl,z2]
end
def il (s:Sl):Ë:=[(s.p:Int),pL s.pu,s.gv,s.gt]
theorem bU:∀ {rs:ë},rs.Pairwise (λ a b=>HT.lexLt b a=å/\a≠b)->we rs=true
 | [],_=>rfl
 | [a],_=>rfl
 | a::b::l,h=>by
  have h':=BJ.mp h;let#[h1,h2]:=h'.1 b Aw;change (HT.lexLt a b&&we (b::l))=true;rw[bU h'.2,DC];cases Bx:HT.lexLt a b with
  | true=>rfl
  | å=>show absurd (hZ a b Bx h1) h2
theorem bV:∀ {ns:Ë},ns.Pairwise (· < ·)->wA ns=true
 | [],_=>rfl
 | [a],_=>rfl
 | a::b::l,h=>by
  have h':=BJ.mp h;change (đ (a<b)&&wA (b::l))=true;rw[bV h'.2,tp (h'.1 b Aw)];rfl
def Ml (b:Bool):xv (kt b)=true:=by cases b <;> decide
theorem LD {F:eL}(h:Gf F.os F.ws F.ss) (hA:0<=F.A/\F.A<=12) (hB:0<=F.B/\F.B<=12):wO F=fT ł/\Ff ł:=by
 have e1:F.ws.map qf=(F.ws.map uE).map zh:=by rw[AI];rfl
 have e2:F.ss.map pG=(F.ss.map il).map zh:=by rw[AI];rfl
 exact#[by unfold wO;rw[e1,e2];rfl,?_];have IZ:∀ {a b i:Int},a<=i->i<=b->wh (Ä i) a b=true:=λ{a b i} h1 h2=>by
  change Â0;rw[tp h1,tp h2];rfl
 exact#[?_,by rw[Af];show h.n1,by rw[Af];show h.n8,?_,λ r hr=>?_,by rw[Af];show h.wl,bU h.wp,?_,λ r hr=>?_,?_,λ r hr=>?_]
 .change zQ (Ï [Ä F.A,Ä F.B]) bb=true;rw[Um,IZ hA.1 hA.2,IZ hB.1 hB.2];rfl
 .rw[Bz,AV];intro b _;show Ml b
 .let#[w,hw,rfl]:=Av.mp hr;let#[#[a1,a2],#[a3,a4],a5,a6]:=h.wr w hw;change zQ (Ï [Ä (w.f:Int),Ä (w.t:Int),Ä w.a,Ä w.b]) (wb (Â4).length)=true;rw[Af];show (sA Ĕ Ĕ).trans (by rw[IZ ⋯ (show (w.f:Int)<=Ŵ by lia),IZ ⋯ (show (w.t:Int)<=Ŵ by lia),IZ a3 a4,IZ a5 a6];rfl)
 .rw[Af,AV];intro k hk;let#[w,hw,hwf]:=h.way k (AO.mp hk);exact Cr.mpr #[(w.f:Int),ż #[uE w,ż #[w,hw,rfl],rfl],?_];rw[hwf,tp rfl]
 .let#[s,hs,rfl]:=Av.mp hr;let#[a1,a2,#[a3,a4],a5,a6]:=h.sr s hs;have hp:0<=pL s.pu/\pL s.pu<=1:=by cases s.pu <;> decide
  change zQ (Ï [Ä (s.p:Int),Ä (pL s.pu),Ä s.gv,Ä s.gt]) (sb (Â4).length)=true;rw[Af];show (sA Ĕ Ĕ).trans (by rw[IZ ⋯ (show (s.p:Int)<=Ŵ by lia),IZ hp.1 hp.2,IZ a3 a4,IZ a5 a6];rfl)
 .exact bV ?_;rw[AI];exact B8.mpr (h.sp.imp λ{a b} Bx=>?_);change (a.p:Int)<(b.p:Int);lia
 .let#[s,hs,rfl]:=Av.mp hr;obtain⟨a1,a2,-⟩:=h.sr s hs;change keeps (Â4) (s.p:Int)=true;unfold keeps;rw[BW,AQ,AF a1];rw[A9,AF a1] at a2;have a2:F.os[s.p]=true:=a2;rw[a2];change ((("keeper":Str) == "keeper"))=true;show beq_self_eq_true _
theorem dh (ns:Ë) (k:Nat):∃ v,ni [xM ns,Ä Ê]=↑(Ä v):=by
 have hl:zi Ļ [↑(.im (xM ns)),↑ Č]=↑(Ä (Ę:Nat)):=Ĝ;have ht:zw (zb vx (zc 1) (zi Ļ)) [↑(.im (xM ns)),↑ Č]=↑(đ (Ê<(Ę:Int))):=yG (zk rfl hl rfl);by_cases h:k<Ę
 .rw[tp ⋯] at ht;show#[_,zN (yN (yx ht (yh (zk (x:=xM ns) Â (xl h))))) rfl]
 .rw[tx ⋯] at ht;show#[0,zN (zt (zL ht rfl) rfl) rfl]
theorem Jk (c:Int):∃ most F5:Nat,jA [Ä c]=↑(Ï [Ä (most:Int),Ä (F5:Int)])/\1<=most/\most<=8/\F5<=12:=by
 let#[z,z1,z2]:=vZ (L:=[Ï [Ä 4,Ä 5],Ï [Ä 3,Ä 5],Ï [Ä 4,Ä 4],Ï [Ä 2,Ä 6],Ï [Ä 5,Ä 3],Ï [Ä 3,Ä 4],Ï [Ä 1,Ä 8],Ï [Ä 4,Ä 3],Ï [Ä 8,Ä 2],Ï [Ä 2,Ä 5]]) c 10 Ł;have h:jA [Ä c]=↑z:=zN (yh (zk (yV (zf rfl Õ) (by change 10<=100;decide)) (yH Â ()) z1)) rfl;rw[h];simp![Ao,AN,or_false] at z2;rcases z2 with rfl | rfl | rfl | rfl | rfl | rfl | rfl | rfl | rfl | rfl
 .show#[4,5,rfl,(),(),()]
 .show#[3,5,rfl,(),(),()]
 .show#[4,4,rfl,(),(),()]
 .show#[2,6,rfl,(),(),()]
 .show#[5,3,rfl,(),(),()]
 .show#[3,4,rfl,(),(),()]
 .show#[1,8,rfl,(),(),()]
 .show#[4,3,rfl,(),(),()]
 .show#[8,2,rfl,(),(),()]
 .show#[2,5,rfl,(),(),()]
def vh (s a b V0 V:T) (r:List (ő L5.W)):Ev:=↑(.im s)::↑(.im a)::↑(.im b)::↑(.im V0)::↑(.im V)::r
abbrev n5:List (ő L5.W):=[none,none,none,none,none]
def N1 (s a b V0 V x5 x6 FY HB ref:T) (hV:t_ V) (h:Nx HB ref):∃ V',t_ V'/\(zC (wR (zw (zb (wN å) (zc 9) (cS .zm))) (wR (zw (zb (wN true) (zb À0 Ŕ) (cS .zm))) (zw (zb (wN true) (zb À0 (cI 3)) (cS .zm))))) (zC (zX ó) (zD 4 (zl 8)) zI) zI)
  (vh s a b V0 V Ġ)=↑(.nx (vh s a b V0 V' Ġ)):=by
 rcases h with ⟨k,th,rfl⟩ | ⟨rfl,p,q,c,d,rfl,⟨hc,hd⟩,hl⟩
 .show#[V,hV,zL (oJ rfl) rfl]
 .rcases hc with rfl | ⟨cs,rfl⟩
  .show#[V,hV,zL (vR rfl (oJ rfl)) rfl]
  .rcases hd with rfl | ⟨ds,rfl⟩
   .show#[V,hV,zL Á4 rfl]
   .let#[g,hg,hf]:=hl cs ds Â;have ht:zX ó (vh s a b V0 V [↑(.im x5),↑(.im x6),↑(.im FY),↑(.im (Ï [p,q,Ï cs,Ï ds])),↑(.im .zm)])=↑g:=yZ (z_ ľ hg);cases g with
    | true=>show#[_,hf rfl,yx Á4 (yx ht rfl)]
    | å=>show#[V,hV,yx Á4 (zL ht rfl)]
theorem Mb (ns:Ë) (a b V0 V:T) (h0:t_ V0) (hV:t_ V) (k:Nat):∃ V',t_ V'/\∃ J',turn (zx 5) fV Â5 (vh Ī V n5)=↑(.nx J')/\yX [5,6,7,8,9] J'=vh Ī V' n5:=by
 let#[v,hv]:=dh ns (2+k);rw[show ((2+k:Nat):Int)=2+Ê by lia] at hv;have hp:=pN 6 ();have IT:∀ J:Ev,zb xq (cI 10) (cI 6) J=↑(Ä (10 ^ 6)):=hp;have dv:xJ v (10 ^ 6):=#[(),()];obtain⟨V1,hV1,h2⟩:∃ V1,t_ V1/\zC (zw ģ) (zD 4 (zl 3)) zI (vh Ī V ù)=↑(.nx (vh Ī V1 ù)):=by
  have t:zw ģ (vh Ī V ù)=↑(đ (v/10 ^ 6%3>0)):=yG (zk (yH (zk (x:=Ä v) rfl (IT _) (Ě (e:=none) dv)) Ł) Â);cases ht:đ (v/10 ^ 6%3>0) with
  | true=>rw[ht] at t;show#[V0,h0,yx t rfl]
  | å=>rw[ht] at t;show#[V,hV,zL t rfl]
 let#[br,os,wr,qr,rfl,hF]:=id hV1;let#[z,z1,FY,HB,ref,rfl,z2,z3]:=Jz hF v;let#[V',hV',h3]:=N1 Ī (À) Â5 (Ä v) FY HB ref hV1 z3;exact#[V',hV',_,zt (yv (z_ Ã hv)) (zt h2 (zt (jW (J':=vh Ī (À) [↑(.im Â5),↑(.im (Ä v)),↑(.im FY),↑(.im HB),↑(.im ref)]) (z_ Ã z1) rfl) (zt (zL (yU (b:=true) (yZ (z_ ľ z2))) rfl) h3))),rfl]
def Yl (l:ë):yA (l.map zh)<=1:=by
 induction l with
 | nil=>simp[yA]
 | cons r l ih=>
  have:dep (zh r)<=1:=by
   ext Ţ
  rw[AJ,yA];lia
theorem Ym:∀ {os:List T},os.all xv=true->yA os=0
 | [],_=>by simp[yA]
 | o::os,h=>by
  rw[Cp,AK] at h;let#[s,rfl]:=ar h.1;rw[yA,Ym h.2];simp[dep]
def L_ {V:T}(h:t_ V):dep V<=60:=by
 let#[br,os,wr,qr,rfl,hF]:=h;let#[x,y,rfl]:=hF.YC;have h1:=Yl wr;have h2:=Yl qr;have h3:=Ym hF.o;have h4:dep (ş)<=1:=by change dep (Ï ([x,y].map Ĭ))<=1;rw[dep,o7];decide
 change dep (Ï [_,ř,Ï Ģ,Ż])<=60;simp![dep,yA];have h4':dep (ş)<=1:=h4;generalize dep (ş)=d0 at h4' ⊢;generalize yA Ģ=d1 at h1 ⊢;generalize yA (Ą zh)=d2 at h2 ⊢;rw[h3];lia
theorem Mc (ns:Ë) (_:Ę<=63):l7 [xM ns]=↑(ū):=by
 rename_i hn;let#[c0,hc0]:=dh ns 0;let#[c1,hc1]:=dh ns 1;let#[most,F5,hs,m1,m8,b12]:=Jk c0;let#[F,f1,f2,f3,f4]:=Jw c1 most F5 m1 m8 b12;let#[e,hF]:=LD f2 ŝ;have hV:t_ (wO F):=#[_,_,_,_,e,hF];have hd:=L_ hV;obtain⟨m,hm,m3,m60⟩:∃ m:Nat,zi i_ (za (cI 3) (za (zi pX Á8) ze)) Ñ=↑(Ä (m:Int))/\3<=m/\m<=60:=by
  have hl:zi Ļ Ñ=↑(Ä (Ę:Nat)):=Ĝ;have h1:zi pX Á8 Ñ=↑(Ä ť):=by
   exact z_ (zf hl ļ) ?_;change ↑(Ĭ (if (60:Int)<(Ę:Int) then 60 else (Ę:Int)))=_;congr 2;split <;> lia
  exact#[max 3 (min Ę 60),z_ (zf rfl (zf h1 rfl)) ?_,⋯,⋯];change ↑(Ĭ (if ť>3 then ť else 3))=_;congr 2;split <;> lia
 let#[J',p1,V',p2,p3]:=mq (is:=[5,6,7,8,9]) (g:=zx 5) (b:=fV) (λ k:Nat=>Ĭ ((2:Int)+Ê)) (λ _ J=>∃ V,J=vh (xM ns) Ĥ V n5/\t_ V) (ă (m-2)) Ñ #[_,rfl,hV] (by
  rintro p k q e J ⟨V,rfl,hV1⟩;let#[V2,h2,J2,h3,h4]:=Mb ns Ĥ V hV hV1 k;show#[J2,h3,V2,h4,h2])
 subst p2;have hr:=Ur 2 m () ⋯;have hr:nQ [Ä 2,Ä (m:Int)]=↑(š):=hr;exact zN (zt (jW (J':=[↑(.im (xM ns)),↑(.im (Ä (most:Int))),↑(.im (Ä (F5:Int))),none,none,none,none,none,none,none]) (zO (z_ Ã hc0) hs) rfl) (zt (yv Â6) (zt (yv rfl) (zt (mD (ts:=š) ?_ p1) (yh (zk rfl Â6 (eq_self _ hd å))))))) rfl;change (za Ŕ (za _ ze) Ñ).bind _=_;rw[zf rfl (zf hm rfl)];show hr
end yj
namespace PySem.W.Fast
def te5058545326811080933:=0
)
local macro_rules|`(command|example:=$s:str)=>do
 let mut r:Array Lean.Syntax:=.empty
 let mut n:=0
 let mut k:=0
 for c in s.getString.toList do
  let a:=c.toNat
  n:=n*62+(if a>96 then a-61 else if a>64 then a-55 else a-48)
  k:=k+1
  if k==11 then
   let i:=Lean.mkIdent (.mkSimple s!"tw{n}")
   r:=r.push (<-`(command|theorem $i:ident:True:=trivial))
   n:=0
   k:=0
 return Lean.mkNullNode r
example:="JrmagCpc1lwKvCICEV6HWX4B5vDSxvkCvKGnR5mlnS7T2758ZK2Kkvj14x8lgwpTaz0IFW0n7IapbA5xS4e5eZeHJoyJv3eExtq6HGP73KPZMxFtRfiZi92Fc9QLBLxWzXWe5YcI6NA58iD5WBEeG8BgZgKMPbJoN0k0045roA0B1Pg8JucS98j8pe3FITdAA5E9aH99W8VXvL7Qv8zlh7ZKi5qhB19vamL8XZ08Jj0AEzBR3w5POI3v1jkaOIBTSe5lzVpG1Z368Sc7M867FkSOSmnr0v4c8Wz3wNZ5e6gUcpuDEYs985gcJM2Ujzh6ZtTr4crZby0dxTCsQNyWUBQzzeyB9sjP8wMbfpQAKn7FAUAemuKbNjHPBOqNcKruq6KJ9WT0RfdrCXlM0cMOo8a0WkLnlKyvIfDgpJWdN3Gya2g9pEkMbPzbKe7uHVNlq1V09XvERnucYnJFHluukkPIU3egad1MVau7EomRTkdSixvBJvlvV1MCH4JEPdKjQ5vKB7q42TwnSSbUFJK9I7DDJTB05fXkyhvTwy75pGpYWXXjP2FG67RRRSTpJQAptg9uJZRKkzRzCcTBOQDFJHVY615tP1sK0YTQz704ItgYOe6l6XQ7o8fP2Du2k47qRzh2Kl4eI7FwVyYyOMLb1F03VOT05D92tEiSGYEm693jIf3ObBHaW4F85824VLkbHZgVTrVmvEG744UaK9G0UIIbwAi9oq2KBJNJ9onwzM0F2iYsiYm94c33VNtD2T8HMiCmjh7mM5caN2S9O3HYLrgr2sxuSyr9ktCEmHPwJeASnIAlcn90FMbXQ8qDVD6Ro9lG1D9v2zbd6h19MveTEYGCSA1sRUYNJEXFqAZ9N24jSQE8KcaHlOPDCD9HdyzrtrMdhX0wEycstzTqI9DKpoc51s4DEw1fJtLw2RxIxn6ed7wBDt422hz1Muco61gqMQG5wxQ9544P7sPlICuFWAqwiWHYV5FlEMgQPrg2F6emxcxXUc3WAhYhPJ4fUbL5hdpd05OaqDFQJalLflGs9BrVoFhBaUa58DPKTo2xHV23ydC3e4ky40DdxvSHf3n4yFQvPc2nt78sFlBLZOcNzG298duy7ohY2f1KuAK5KZT3kK90oEhiATRQKjlKShyOL5G4BXZqC4obBKHjuq4ZJbqlzFwfzUwTo3Pa6RP5nJsjcM4CnjBKInLZ3q2yUYXBNXn5I3ZMu04D7UsiF3QNAq8qoTx7F6voIOlDP6FDMLDAnDl842QZ9vqNsfjSFnhn9PRJwNpH05lCCwqaxdHcdxril0anh3PpFfOqlXK0GKYtN4JenZz0YLfhb8fE5g7IwUEGjfFPI7LZF7CNNxqnK6f2gtWf2zBH3zxQUmI42YGbJhZdOSravL4IbGZty6bpDZq4KgB6oHD0qTihDPhQr36CTenU9JZGpIKv5jMkflyu38L8eZtA6n5GVwCM0QF9ot6kK9BASFduA9jRe7iEUcBYLQth9UUECThBFTTQe6bpjDLHW3BjmkhykAw8wzPSx2If5OZTlGBaXRqLhBvSMSKlW3KOJHY97u3y22xTYdzaN5Xg29VfjxqWOZG3p3txWNNWvlAvcCRQR3DWtBrV4bx8TYOW7ZlK49Wxeun0Gou0I4h2ZGKkvRhzXdprGCb7PeEMnQVt97noSlyEduW9AfvfYt2eccJDEK2UBg2jmAPKpBLJe3nC36eR36godZWHDiE3HTOTIuG6hULVHpRMX4LLr0VHf3n78V3ygCUntP4GLAn3rpu4PgKB6wazq2Nss90ySyAG6cQ4EBkBC6ArnASE23no0C3EQSDB89hSgYmj58GRexSlvBRl2TCJTEhS4R3Gof2l2Jdm2AAP8AHdvbhKL5ra15Nn0ShWK6x7SdkKYng7xwuKMlDfwuJerw6hsa7lfINW3CYOpbYQ4GmXPTXT1uXHSKlOt07mogK9hcGwmVmSGFn86E9BVN9fLKn2YOF3GhYJuqGsLb7kMj8sOvtwCo4kA4TTM7ob2vZwBgmTbtMBRQj7n4dEdMMz4qJzI9DkiooO40OYRprxJmNoJCP3GyMmP8GLZ1G6GVttYmGEtK4cysRhJFaI4LUUV0kSATm29lZFTLyFz8KoMEKQ2g9tjgxYNnXoj2mg25XaTf52HiIX3hURE25DqRQ545k1fjAbMMu3IsAAkHegq2tfZU326vQXq1ExRaO1BJfHNpTiWP6zair2ImhIfCVC4rCuoDaXL3NpKZ9YC0oDgeIdTP2ya6F15DUehqT7M316JIvmbTy4IpmPCN7I93x1jIUh2f8DJ944yxbTdWz0V7ls8xu43tclFqxaUF0NyQhLcUHfTkiDG8DcMphpJz8I0Bb9Ihn0lHAbEfGIrOpQcITCHnJI4bjWCPCMyFxXypv3X33sYOlqE3AuLiduLKBeSdf1p7bmSS5suZCo3AJu7t8h65NL0rfMtPMz8t6TGdBqueO3vBHFBsKQKd9vccYMg5qK80Z86ow9PmEjHQIa9jxdWEjHbwVGAVtYS8KwmG7D6W8rH73ICKsIJI6LAEFcciWzbOg08tdzHgwUbt4GhYVYxDjrq48IgMAuvLra3q7QxZjfxqE4zYaW5H98Dw5RxJM8ckpO0LVaeNrqWBEzJUSmMG8E9oWGuN3jgYYhho8nWE6RXS7SMGjQLYJ3E4ki4yWyVuL9SvMHUjJ9i5XgOR4ffQEF5Vv1tDWmrtghLs0c9WpQaL1JNck1yGarFflzCFKtClxAmqs3OF35Nn2LzNlN8pw5oVj9v6o476d4tlgRXw2h5IYKLTd9pF7a8irepq1G75kKaoenboM5TuyydXUVd4LqMx2BirxH806EYg6XzhAXHsBzP9tyDIoA5bAfj4a9Gu1HSa3jU6BK47mB6IFHwsHSGKWRoLvZ8zA05vajd6wiegJ6fy8O8VKPRLKpQYbqo8eYLK9LIyfBI2i8KRVubWzB3DHLQWh1ALB2yCJRk8wPY43ZFOYomQVOD4tB0wDAEV3faAJ5KHWLn9teL83MfUkahc297PQpEwyPSgfAwBFDJri1G2DYG638zlTE55mkesuXSdWu01kDYe66xnZLmzvHQakECH7wF4FkaPaCUKV03rToJSY3E4pPY7CREbdBUKlyqWA2vbBztrFeQifLZ1foU2RLVUISKH1HQENz3Vq1TOH4ZwMVdeG4Yd4Y2cbb80hD1ENoIRwr87RWvlI8XNwKn2GuFlhDBDCn5nuqfhziZKNaOy25rSUsLUHLGxOD8hY5Lw8r91DnMe8Zz2IQnB0KkHnl2v3q9N1bDfOcNgoeCnt0q35BUO3Crd0fB399QddpD1I9iYYrI8gT15rUpP3nMrF63COFggWb0RKZOnpe4SCKeFkDFmxQgYPg9AOq6Iws3qHA9oC1PuUaMP4pyYbpUjTm3IA6s9oCILRhGVFevaWNLrfDM6wAQJhbvxE26kjsdaAjtLkm0E6wvXxT9ERq07K6XAmHr7emA97Hoj7LuoEH4A9l90lwSD6UnPbxEddveRCRR2R9BpD0OINnsZ4bstaIIlNcgCTOcdSMIzIj6aw4wpMASvTCWfFALtlhIJ6CHSXkL9ZZJ8SF4pdIaPHU9xXsdukWTRuAsRL6V5GQ1VHhoXuzn9Eg00dnquypFdsnHyoMQc56UUpGupRAHsRahT6otnzrYkRfxIBRcfPA7HkfI1Z8tDsZEl662WgU1bmEW79e5ewoeNza1AaPbMApeEBrFjGunIzjok6J0BGN7UrIwt0vZBLg1MU8394IfEpZ7linIMhsRw2oBgmCt5WyTUcdmY8I0FxcMsHrvAaELdXrtgHR4Z8zKYP68wS1TZejgspCsbIdJnwEAXAeZ3EUxXGHYfFaDHcbKqQ459J0CwPhlkCNYR7upFF5O0kTc4kJsfAXMB99JNxPcYYzPbXHK3SouXOgGn9R2Trn9e5Jf3tzNZEH4g0O0S60Ujohmbv88gLjWUlt6X6n4WEkMyD3JKfERdM7kkPsBBTQ9RWaJqqIpzJhmfqPYqLpcKwgvG0KYLo2mQCvlwKvBI6VddIuIolBlosdixCseu46BEi1wEHB0GYX6U20dDPAAbqliHBXtfFIyAgkkhtJhZ3yWmXwHUua6CLN7fOVuCkSCDraoYuF8PIGQfbeYy1qzWHu0uJ9WnBffK2gncry64ltEQafgeI8DPhGicMQ584HVl1QNimJRMRNZCtl9xyP6T0nE7hPtf14eUjI7JnwC2FoEF7NT2wk19mMg4JFAXOk49rfLGxaL4WwPZrD05tk4SZO1vCJsHXOdFF1K0V99TTaerdD2Bp1clcE5vL1fOCygfwivo49cnYF7h1ksAhDsnJ4aW34JYUTxOu9xRQBk5AUw7xW8QHRsQjbdmbDw7uSttcM7ni3LtUQWcLnO3dJX8vYx2d8Nh8NgwTeOKLVs1ftI1DBRghH6OfDXv9R3M16bekOEgxGBs3t0b3QhTHcp0NQa3C5ASX44SWzFdyoSW3HKiYUzJGxAwB8CRV7WdJnWLqqWoN1yrw56fChDqyVN7Y8Klle2EABY3IN4YxhQyLIJKW72hDMYM8108VZGRAKURZEvlmxFtT9tB7geYqiDbwDR3G1kLWXz799EslzNZRLjLo5hSXJSJbRawIMQKWrXi9yjHqYxZV84fCrJiX9hhuwvaYEe7fXcMaDfW7H9P93mYXDNJQnGJygukeOLWqEti8b5MTKugN5P3OnRICFVbpScsMg3LwlnJtSOVAY25RP2MmvItH0zi4J3PszkE9oXicLGNnrk8QD5qn9kGy8Gr8zo6WiHosAA1mnz8yl977Y8NGRz8sSE6lR0Hfj0MjY8WPyXxn4SCNANz1dmRr3Hk2Mi9R6PH81rBzz76gKCcnv7BtJzRQmzCx6y0UcFTxgLM1SElthhCDzaIJFbgKBZCy63cTHEv4oLz7AWbTRStJ6Xl9taFFoaOhfa2vvAAMsq5eW1NHb2S026vM5iuqnG3MvnW3ipmhWsqOeXLX9BLMVAQJS2dTGvORD7IYLEfljN7dGm77Upu812jzQa72LT7EUSbxgLblqgutro87AgmVPppEVAA3NTaLSwiL5CGWlg3oKGoZG0b4aSiYDDbu0hFlZqdTnKKJhmqZBukNlU9PdwBz3mp203PnLEQKosACGrK1PurEZY1"
example:=`(
example Æ _:=x K mg
example À _:=x P w Æ base
example Á _:=x P w Æ
example Â _:=x l.prog w base T U
example É _:=x X G
example Ñ:=by replace FK:=pT Â (h32.mk É) FK
example Î:=by ext Ñ;ext Ñ
example Ã:=by ext Î;ext Ñ
example Ä:=mainGlobals
example Å:=PySem.W.nsIn
example Ç _:=x 2 ["_law_floor_here","_law_ys"]
example È:=y8 [] F
example Ê:=#[mE,#[_,_,_,_,rfl,λ _=>rfl],λ _ _ _ _ _ _ _ _=>la λ _ _=>rfl]
example Ë(Ga:Cm mg "KEEPER" (.str "keeper")):=0
example Ì(FQ:Cm mg "MOST_COINS" (.int 12)):=0
example Í:=[none,↑1]
example Ï(FL:qd À):=0
example Ð:=(.Pass #[0,0,0,0])
example Ò:=K w.params
example Ó:=[none]
example Ô(FZ:o_ Æ "NoFloor"):=0
example Õ:=["thing"]
example Ö:=[none,none,none,none,↑3]
example Ø _:=x "_law_same" (top 52)
example Ù _:=x fd ["_law_script"] (u_ K (zG zE l7))
example Ú _:=x K Ä
example Û:=[none,none,none,none]
end PySem.W.Fast
namespace yj
open PySem L2 L3 L5
open PyProof.Rows hiding St
def top (i:Nat):Stmt:=PySem.Challenge.pw_purseborder_k61_floors_made.main.body.getD i Ð
abbrev kK:Stmt:=(Y4 (top 4)).getD 0 Ð
abbrev kJ:Stmt:=(Y4 (top 6)).getD 0 Ð
def M6:rZ "place" kK:=Ê
def M5:rZ "way" kJ:=Ê
set_option maxHeartbeats 0
section
variable (P:Program)(w:World)(K:Ab)(mg:Au)(base:Heap)
abbrev du:=FD À "is_whole" 1 Õ (zG zE q_)
abbrev dE:=FD À "are_rising" 1 ["things"] (zG zE ph)
abbrev dB:=FD À "is_owner" 1 Õ (zG zE jD)
abbrev XA:=FD À "places_of" 1 ["floor"] (zG zE j8)
abbrev XU:=FD À "_law_cell_at" 1 ["_law_script","_law_k"] (zG xr ni)
abbrev dk:=FD À "_law_stirred" 1 ["_law_cell","_law_count"] (zG zE sX)
abbrev XY:=FD À "_law_amount" 1 ["_law_number","_law_most"] (zG zE nk)
abbrev XI:=FD À "_law_sized" 1 ["_law_number"] (zG xr jA)
abbrev jG:=FD À "_law_whole" 1 ["_law_thing","_law_least","_law_most"] (zG zE w6)
abbrev XX:=FD À "_law_are_rows" 1 ["_law_some","_law_many"] (zG zE nj)
abbrev XS:=FD À "_law_flags" 1 ["_law_caught"] (zG zE jC)
abbrev XQ:=FD À "_law_like" 1 ["_law_one","_law_other"] (zG zE l6)
abbrev dq:=FD À "_law_odd" 1 ["_law_number","_law_good"] (zG xr se)
abbrev jH:=FD À "_law_rows" 1 ["_law_some","_law_more"] (zG zE vT)
abbrev dm:=FD À "_law_row" 1 ["_law_floor_here","_law_ys","_law_way_here"] (zG xr jB)
abbrev XO:=FD À "_law_mirrored" 1 ["_law_floor_here"] (zG zE e_)
abbrev XM:=FD À "_law_renumbered" 1 ["_law_floor_here","_law_number"] (zG zE eZ)
abbrev jI:=FD À "is_whole_within" 2 ["thing","least","most"] (zG zE qa)
abbrev Wd:=FD À "are_owners" 2 Õ (zG zE lC)
abbrev dA:=FD À "is_row" 2 Õ (zG zE l8)
abbrev XH:=FD À "_law_way" 2 ["_law_place","_law_many","_law_number","_law_size"] (zG zE r_)
abbrev dr:=FD À "_law_is_floor" 2 ["_law_brims","_law_owners","_law_ways","_law_stalls"] (zG zE sf)
abbrev XC:=FD À "_law_with_way" Ç (zG zE eU)
abbrev XF:=FD À "_law_with_coins" Ç (zG zE eX)
abbrev XE:=FD À "_law_with_owner" Ç (zG zE eW)
abbrev XG:=FD À "_law_with_brims" Ç (zG zE eY)
abbrev XD:=FD À "_law_with_stall" Ç (zG zE eV)
abbrev XN:=FD À "_law_refused" 2 ["_law_caught","_law_way_here","_law_thing"] (zG zE qZ)
abbrev dw:=FD À "is_row_within" 3 ["thing","bounds"] (zG zE nq)
abbrev Wa:=vp À "check_place" 3 ["floor","place"] (zG zE sg)
abbrev XZ:=FD À "is_way" 3 ["floor","thing"] (zG zE de)
abbrev XR:=FD À "_law_floor" 3 ["_law_cell","_law_most","_law_brim"] (zG zE nh)
abbrev XT:=FD À "_law_drawn" 3 ["_law_floor_here","_law_cell"] (zG zE da)
abbrev dD:=FD À "are_rows_within" 4 ["thing","bounds"] (zG zE nv)
abbrev We:=FD À "are_brims" 4 Õ (zG zE jE)
abbrev Wb:=FD À "are_ways" 5 ["thing","places"] (zG zE lA)
abbrev Wc:=FD À "are_stalls" 5 ["thing","owners"] (zG zE lB)
abbrev X_:=FD À "is_floor" 6 Õ (zG zE l9)
abbrev qd:=vp À "floor_of" 7 ["brims","owners","ways","stalls"] (zG xr vo)
abbrev jF (n:Nat):=FD À "_law_same" (n+1) ["_law_found","_law_due"] (zG zE (w_ n))
abbrev J0:=jF À 6
abbrev X4:=vp À "with_way" 8 ["floor","way"] (zG xr eN)
abbrev X7:=vp À "with_coins" 8 ["floor","number","a","b"] (zG xr lx)
abbrev X6:=vp À "with_owner" 8 ["floor","place","owner"] (zG xr nc)
abbrev X8:=vp À "with_brims" 8 ["floor","brims"] (zG xr eO)
abbrev X5:=vp À "with_stall" 8 ["floor","stall"] (zG xr j7)
abbrev XB:=vp À "mirrored" 8 ["floor"] (zG xr eS)
abbrev X9:=vp À "renumbered" 8 ["floor","order"] (zG xr eQ)
abbrev XW:=vp À "_law_asked" 9 ["_law_floor_here","_law_deed"] (zG xr xI)
abbrev XJ:=FD À "_law_right" 10 ["_law_floor_here","_law_deed","_law_due","_law_refusal"] (zG zE uC)
variable {K mg}(T:Bt mg)(U:Wf mg)
include T U
theorem OI (F:Fy Æ "is_whole" (top 17)):du À:=
 È
theorem Ni (F:Fy Æ "are_rising" (top 21)):dE À:=
 y8 [(["one","other"],[none,none])] F
theorem OO (F:Fy Æ "is_owner" (top 23)) Ë (Hf:Cm mg "TAKER" (.str "taker")):dB À:=
 È
theorem P_ (F:Fy Æ "places_of" (top 28)):XA À:=
 È
theorem OB (F:Fy Æ "_law_cell_at" (top 43)):XU À:=
 È
theorem Ox (F:Fy Æ "_law_stirred" (top 44)):dk À:=
 y8 [] F (by intro f Ah A outer s H E hc nd hN hS hr;have hB:=trivial;show#[_,pA,kr])
theorem OE (F:Fy Æ "_law_amount" (top 45)):XY À:=
 È
theorem Oy (F:Fy Æ "_law_sized" (top 48)):XI À:=
 È
theorem Ov (F:Fy Æ "_law_whole" (top 49)):jG À:=
 È
theorem OD (F:Fy Æ "_law_are_rows" (top 50)):XX À:=
 È
theorem O9 (F:Fy Æ "_law_flags" (top 53)) (Gq:Og Æ "NoChange") (GB:Og Æ "NoCount") (GA:Og Æ "NoFloor") (GP:Og Æ "NoMore") (GO:Og Æ "NoName") (GN:Og Æ "NoPair") (Gz:Og Æ "NoPlace") (Hd:Og Æ "NoRow") (Hc:Og Æ "NoWay"):XS À:=
 È
theorem O6 (F:Fy Æ "_law_like" (top 54)):XQ À:=
 È
theorem O4 (F:Fy Æ "_law_odd" (top 55)):dq À:=
 È
theorem Oz (F:Fy Æ "_law_rows" (top 56)):jH À:=
 y8 [(["_law_part"],Ó)] F
theorem O0 (F:Fy Æ "_law_row" (top 57)):dm À:=
 È
theorem O5 (F:Fy Æ "_law_mirrored" (top 63)):XO À:=
 y8 [(["_law_start","_law_end","_law_first","_law_second"],Û),(["_law_place","_law_purse","_law_give","_law_get"],Û)] F
theorem O2 (F:Fy Æ "_law_renumbered" (top 64)):XM À:=
 y8 [(["_law_place","_law_floor_here","_law_order"],[none,↑0,↑3]),(["_law_start","_law_end","_law_a","_law_b","_law_order"],Ö),(["_law_place","_law_purse","_law_give","_law_get","_law_order"],Ö)] F
theorem OH (F:Fy Æ "is_whole_within" (top 18)) (Gr:du À):jI À:=
 È
theorem Nj (F:Fy Æ "are_owners" (top 24)) (F8:Cm mg "MOST_PLACES" (.int 8)) (Gs:dB À):Wd À:=
 y8 [(["owner"],Ó)] F
theorem OM (F:Fy Æ "is_row" (top 33)) (Gr:du À):dA À:=
 y8 [(["number"],Ó)] F
theorem Ow (F:Fy Æ "_law_way" (top 46)) (GX:XY À):XH À:=
 È
theorem O7 (F:Fy Æ "_law_is_floor" (top 51)) (Gy:XX À) (F0:jG À):dr À:=
 y8 [(["_law_brim"],Ó),(["_law_stall"],Ó)] F
theorem Om (F:Fy Æ "_law_with_way" (top 58)) (GD:dm À) (F7:jH À):XC À:=
 È
theorem Ot (F:Fy Æ "_law_with_coins" (top 59)) (GF:dq À) (F7:jH À) (F0:jG À):XF À:=
 y8 [(["_law_way_here","_law_floor_here","_law_number"],[none,↑0,↑2])] F
theorem Oq (F:Fy Æ "_law_with_owner" (top 60)) (F0:jG À):XE À:=
 y8 [(["_law_stall","_law_place","_law_owner"],[none,↑2,↑3])] F
theorem Ou (F:Fy Æ "_law_with_brims" (top 61)) (GF:dq À):XG À:=
 È
theorem Oo (F:Fy Æ "_law_with_stall" (top 62)) (GD:dm À) (F7:jH À):XD À:=
 y8 [(["_law_one","_law_stall"],[none,↑2])] F
theorem O3 (F:Fy Æ "_law_refused" (top 67)) (hVE:mg "ValueError"=none) (Hw:XQ À) (G6:XS À):XN À:=
 y8 [(["_law_k","_law_way_here"],Í)] F
theorem OK (F:Fy Æ "is_row_within" (top 19)) (FO:jI À):dw À:=
 y8 [(["number","bound"],[none,none])] F
theorem Na (F:Fy Æ "check_place" (top 29)) (GC:oZ Æ "NoPlace" "place" kK/\rZ "place" kK) (FO:jI À) (G2:XA À):Wa À:=
 tI [] F
theorem OJ (F:Fy Æ "is_way" (top 31)) (FO:jI À):XZ À:=
 È
theorem O8 (F:Fy Æ "_law_floor" (top 47)) (F9:dk À) (HH:XH À):XR À:=
 È
theorem OA (F:Fy Æ "_law_drawn" (top 65)) (F9:dk À) (Gp:XM À) (Gw:XC À) (Gm:XF À) (Gk:XE À) (Gn:XG À) (Gj:XD À) (Gx:XO À):XT À:=
 È
theorem Nh (F:Fy Æ "are_rows_within" (top 20)) (FX:dw À):dD À:=
 y8 [(["row","bounds"],Í)] F
theorem Nk (F:Fy Æ "are_brims" (top 22)) Ì (FX:dw À):We À:=
 È
theorem Nf (F:Fy Æ "are_ways" (top 25)) Ì (Gg:Cm mg "MOST_WAYS" (.int 24)) (FU:dD À) (Gd:dE À):Wb À:=
 y8 [(["way"],Ó),(["start","starts"],[none,↑4])] F
theorem Ng (F:Fy Æ "are_stalls" (top 26)) Ë Ì (FU:dD À) (Gd:dE À):Wc À:=
 y8 [(["stall"],Ó),(["stall","owners"],Í)] F
theorem OP (F:Fy Æ "is_floor" (top 27)) (Hy:Wb À) (GZ:Wc À) (G9:We À) (G0:Wd À):X_ À:=
 È
theorem OV (F:Fy Æ "floor_of" (top 34)) Ô (Hx:X_ À) (GY:dA À):qd À:=
 tI [(["row"],Ó)] F
theorem pT {n:Nat}(F:Fy Æ Ø) (FK:jF À n):jF À (n+1):=by
 have hh:n+1+1=n+1+1:=⋯;change FD À _ (n+1+1) _ _;rw[hh];show y8 [(["_law_k","_law_found","_law_due"],[none,↑0,↑1])] F
theorem Nm (F:Fy Æ Ø):jF À 0:=LI F (λ _ _ _ _ _ _=>la λ _ _=>rfl)
theorem PB (F:Fy Æ "with_way" (top 35)) Ï:X4 À:=
 tI [] F
theorem PJ (F:Fy Æ "with_coins" (top 36)) (He:oZ Æ "NoWay" "way" kJ/\rZ "way" kJ) Ï (HV:XZ À):X7 À:=
 tI [] F
theorem PH (F:Fy Æ "with_owner" (top 37)) Ë Ô (GJ:Wa À) Ï (Gs:dB À):X6 À:=
 tI [(["stall","owners"],[none,↑3])] F
theorem PK (F:Fy Æ "with_brims" (top 38)) Ï:X8 À:=
 tI [] F
theorem PC (F:Fy Æ "with_stall" (top 39)) Ô Ï (GY:dA À):X5 À:=
 tI [(["other","stall"],Í)] F
theorem Oi (F:Fy Æ "mirrored" (top 40)) Ï:XB À:=
 tI [(["way"],Ó),(["stall"],Ó)] F
theorem PY (F:Fy Æ "renumbered" (top 41)) Ï:X9 À:=
 tI [(["number","owner"],[none,none]),(["way","order"],Í),(["stall","order"],Í)] F
theorem OC (F:Fy Æ "_law_asked" (top 66)) (GW:X9 À) (Hu:X4 À) (GU:X7 À) (GS:X6 À) (GV:X8 À) (GR:X5 À) (Hv:XB À):XW À:=
 tI [] F
theorem O1 (F:Fy Æ "_law_right" (top 68)) (G8:XW À) (GH:XN À) (FK:J0 À) (F4:dr À):XJ À:=
 È
theorem OG {f:Addr}{fd:FuncData}(F:wZ K "law" "law" (top 69) f fd) (G3:XI À) (G5:XR À) (GI:XU À) (G7:XT À) (G4:XJ À) (F4:dr À):wJ À yT 11 f Ù:=
 Lv [] F
end
def all_mk {l:PySem.W.OpenLaw}{w:World}{K:Ab}{h:Heap}{mg:Au}{fa:Addr}(X:K.In h) (G:h.Ns Ä mg) (FA:mg "law"=↑(.ref fa))
  (h0:Fx K "is_whole" (top 17)) (h1:Fx K "is_whole_within" (top 18)) (h2:Fx K "is_row_within" (top 19)) (h3:Fx K "are_rows_within" (top 20)) (h4:Fx K "are_rising" (top 21)) (h5:Fx K "are_brims" (top 22)) (h6:Fx K "is_owner" (top 23)) (h7:Fx K "are_owners" (top 24)) (h8:Fx K "are_ways" (top 25)) (h9:Fx K "are_stalls" (top 26)) (h10:Fx K "is_floor" (top 27)) (h11:Fx K "places_of" (top 28)) (h12:Fx K "check_place" (top 29)) (h13:Fx K "is_way" (top 31)) (h14:Fx K "is_row" (top 33)) (h15:Fx K "floor_of" (top 34)) (h16:Fx K "with_way" (top 35)) (h17:Fx K "with_coins" (top 36)) (h18:Fx K "with_owner" (top 37)) (h19:Fx K "with_brims" (top 38)) (h20:Fx K "with_stall" (top 39)) (h21:Fx K "mirrored" (top 40)) (h22:Fx K "renumbered" (top 41)) (h23:Fx K "_law_cell_at" (top 43)) (h24:Fx K "_law_stirred" (top 44)) (h25:Fx K "_law_amount" (top 45)) (h26:Fx K "_law_way" (top 46)) (h27:Fx K "_law_floor" (top 47)) (h28:Fx K "_law_sized" (top 48)) (h29:Fx K "_law_whole" (top 49)) (h30:Fx K "_law_are_rows" (top 50)) (h31:Fx K "_law_is_floor" (top 51)) (h32:Fx K Ø) (h33:Fx K "_law_flags" (top 53)) (h34:Fx K "_law_like" (top 54)) (h35:Fx K "_law_odd" (top 55)) (h36:Fx K "_law_rows" (top 56)) (h37:Fx K "_law_row" (top 57)) (h38:Fx K "_law_with_way" (top 58)) (h39:Fx K "_law_with_coins" (top 59)) (h40:Fx K "_law_with_owner" (top 60)) (h41:Fx K "_law_with_brims" (top 61)) (h42:Fx K "_law_with_stall" (top 62)) (h43:Fx K "_law_mirrored" (top 63)) (h44:Fx K "_law_renumbered" (top 64)) (h45:Fx K "_law_drawn" (top 65)) (h46:Fx K "_law_asked" (top 66)) (h47:Fx K "_law_refused" (top 67)) (h48:Fx K "_law_right" (top 68)) (h49:Fx K "law" (top 69))
  (Ga:Cn K "KEEPER" (.str "keeper"))
  (FQ:Cn K "MOST_COINS" (.int 12))
  (F8:Cn K "MOST_PLACES" (.int 8))
  (Gg:Cn K "MOST_WAYS" (.int 24))
  (Hf:Cn K "TAKER" (.str "taker"))
  (FZ:Ez K "NoFloor")
  (GC:Ei K "NoPlace" "place" kK)
  (He:Ei K "NoWay" "way" kJ)
  (Gq:Ec K "NoChange")
  (GB:Ec K "NoCount")
  (GA:Ec K "NoFloor")
  (GP:Ec K "NoMore")
  (GO:Ec K "NoName")
  (GN:Ec K "NoPair")
  (Gz:Ec K "NoPlace")
  (Hd:Ec K "NoRow")
  (Hc:Ec K "NoWay")
  (hVE:Å Ú "ValueError"=↑none)
  (y0:Å Ú "set"=↑none) (y1:Å Ú "zip"=↑none) (y2:Å Ú "enumerate"=↑none) (y3:Å Ú "abs"=↑none)
  (z0:Å Ú "len"=↑none) (z1:Å Ú "range"=↑none) (z2:Å Ú "any"=↑none) (z3:Å Ú "all"=↑none) (z4:Å Ú "sorted"=↑none) (z5:Å Ú "isinstance"=↑none) (z6:Å Ú "bool"=↑none) (z7:Å Ú "int"=↑none) (z8:Å Ú "str"=↑none) (z9:Å Ú "list"=↑none) (z10:Å Ú "tuple"=↑none) (z11:Å Ú "max"=↑none) (z12:Å Ú "min"=↑none):
  ∃ fd:FuncData,(∀ (s:Shared) (v:Value),BindsTo s fd #[[v],[]] [("_law_script",v)])/\∀ base:Heap,K.In base->base.Ns Ä mg->wJ l.prog w Æ base yT 11 fa Ù:=by
 have T:Bt mg:=#[Bn É z0,Bn É z1,Bn É z2,Bn É z3,Bn É z4,Bn É z5,Bn É z6,Bn É z7,Bn É z8,Bn É z9,Bn É z10,Bn É z11,Bn É z12];have U:Wf mg:=#[#[Bn É y0,Bn É y1,Bn É y2],Bn É y3];replace Ga:=Ga.mk É;replace FQ:=FQ.mk É;replace F8:=F8.mk É;replace Gg:=Gg.mk É;replace Hf:=Hf.mk É;replace FZ:=FZ.mk É;have GC:=And.intro (GC.mk É) M6;have He:=And.intro (He.mk É) M5;replace Gq:=Gq.mk É;replace GB:=GB.mk É;replace GA:=GA.mk É;replace GP:=GP.mk É;replace GO:=GO.mk É;replace GN:=GN.mk É;replace Gz:=Gz.mk É;replace Hd:=Hd.mk É;replace Hc:=Hc.mk É;replace hVE:=Bn É hVE;let#[fd,Fl,hb]:=h49.law É FA λ _ _ _ _ _ _ _ _=>.of_eq rfl;exact#[fd,hb,λ base _ _=>?_];have Gr:=OI Â (h0.mk É);have Gd:=Ni Â (h4.mk É);have Gs:=OO Â (h6.mk É) Ga Hf;have G2:=P_ Â (h11.mk É);have GI:=OB Â (h23.mk É);have F9:=Ox Â (h24.mk É);have GX:=OE Â (h25.mk É);have G3:=Oy Â (h28.mk É);have F0:=Ov Â (h29.mk É);have Gy:=OD Â (h30.mk É);have G6:=O9 Â (h33.mk É) Gq GB GA GP GO GN Gz Hd Hc;have Hw:=O6 Â (h34.mk É);have GF:=O4 Â (h35.mk É);have F7:=Oz Â (h36.mk É);have GD:=O0 Â (h37.mk É);have Gx:=O5 Â (h43.mk É);have Gp:=O2 Â (h44.mk É);have FO:=OH Â (h1.mk É) Gr;have G0:=Nj Â (h7.mk É) F8 Gs;have GY:=OM Â (h14.mk É) Gr;have HH:=Ow Â (h26.mk É) GX;have F4:=O7 Â (h31.mk É) Gy F0;have Gw:=Om Â (h38.mk É) GD F7;have Gm:=Ot Â (h39.mk É) GF F7 F0;have Gk:=Oq Â (h40.mk É) F0;have Gn:=Ou Â (h41.mk É) GF;have Gj:=Oo Â (h42.mk É) GD F7;have GH:=O3 Â (h47.mk É) hVE Hw G6;have FX:=OK Â (h2.mk É) FO;have GJ:=Na Â (h12.mk É) GC FO G2;have HV:=OJ Â (h13.mk É) FO;have G5:=O8 Â (h27.mk É) F9 HH;have G7:=OA Â (h45.mk É) F9 Gp Gw Gm Gk Gn Gj Gx;have FU:=Nh Â (h3.mk É) FX;have G9:=Nk Â (h5.mk É) FQ FX;have Hy:=Nf Â (h8.mk É) FQ Gg FU Gd;have GZ:=Ng Â (h9.mk É) Ga FQ FU Gd;have Hx:=OP Â (h10.mk É) Hy GZ G9 G0;have FL:=OV Â (h15.mk É) FZ Hx GY;have FK:=Nm Â (h32.mk É);ext Ã;ext Ã;have Hu:=PB Â (h16.mk É) FL;have GU:=PJ Â (h17.mk É) He FL HV;have GS:=PH Â (h18.mk É) Ga FZ GJ FL Gs;have GV:=PK Â (h19.mk É) FL;have GR:=PC Â (h20.mk É) FZ FL GY;have Hv:=Oi Â (h21.mk É) FL;have GW:=PY Â (h22.mk É) FL;have G8:=OC Â (h46.mk É) GW Hu GU GS GV GR Hv;have G4:=O1 Â (h48.mk É) G8 GH FK F4;show OG Â Fl G3 G5 GI G7 G4 F4
def walk {l:PySem.W.OpenLaw}{q:Program}{loose:List Str}{XP:(Str->Option Value)->Heap->Prop}{YP:World->Heap->Prop}{d:DefRec}{K:Params->Ab}(hn:l.most=↑63) (D3:d.params.defaults=[])
  (hY:∀ (w:World) (h:Heap),YP w h->(Ò).In h)
  (F:∀ (w:World) (mg:Au) (fa:Addr) (h:Heap),(Ò).In h->h.Ns Ä mg->mg d.name=↑(.ref fa)->
   ∃ fd:FuncData,(∀ (s:Shared) (u:Value),BindsTo s fd #[[u],[]] [("_law_script",u)])/\∀ base:Heap,(Ò).In base->base.Ns Ä mg->wJ l.prog w (Ò) mg base yT 11 fa fd ["_law_script"] (u_ (Ò) (zG zE l7))):
  PySem.W.WalkO q loose XP YP l.row.toRowW d [] (λ f vs=>PySem.call f vs):=
 L2.WR (n:=63) (k:=11) (x:="_law_script") (CX:=λ _=>yT) (sp:=λ w=>u_ (Ò) (zG zE l7)) hn () D3 #[rfl,(),()] hY F (λ _ _ a ns hl hO hS=>Mi Mc hO hS hl) λ _ _ _ _ _ z=>z
end yj
)

open PySem PySem.W PyProof.Rows
set_option maxHeartbeats 0 in
theorem PySem.Challenge.cw_purseborder_k61_floors_made_holds : PySem.Challenge.rw_purseborder_k61_floors_made.Holds := by
 w_on;o_law;k_head;(case hw=>w_witness2)
 k_fill
 refine yj.walk (l:=PySem.Challenge.rw_purseborder_k61_floors_made) rfl rfl (λ w h Y=>PySem.W.kIn_of Y) ?F
 case F=>
  intro w mg fa h KX G DX;refine' yj.all_mk KX G DX ?_ ?_ ?_ ?_ ?_ ?_ ?_ ?_ ?_ ?_ ?_ ?_ ?_ ?_ ?_ ?_ ?_ ?_ ?_ ?_ ?_ ?_ ?_ ?_ ?_ ?_ ?_ ?_ ?_ ?_ ?_ ?_ ?_ ?_ ?_ ?_ ?_ ?_ ?_ ?_ ?_ ?_ ?_ ?_ ?_ ?_ ?_ ?_ ?_ ?_ ?_ ?_ ?_ ?_ ?_ ?_ ?_ ?_ ?_ ?_ ?_ ?_ ?_ ?_ ?_ ?_ ?_ ?_ ?_ ?_ ?_ ?_ ?_ ?_ ?_ ?_ ?_ ?_ ?_ ?_ ?_ ?_ ?_ ?_ ?_
  all_goals first | exact L3.Ei.i (by k_is) (by k_is) (by k_is) (by k_is) (by kernel_rfl) (by k_is) (by k_is) (by k_is) (by k_is) (by k_is) (by k_is) | exact L3.Ec.i (by k_is) (by k_is) (by k_is) (by k_is) (by kernel_rfl) | exact L3.Ez.i (by k_is) (by k_is) (by k_is) (by k_is) (by kernel_rfl) (by k_is) (by k_is) | exact L5.Fx.i (by k_is) (by k_is) (by k_is) (by k_is) | k_is | exact L5.Cn.i (by k_is) (by exact⟨_,rfl⟩)
