import PyProof.Rows.All
import Wide.All
import OpenK.AllK
import Wide.FinOn
import Lean
import PyProof.EqAt
import PyProof.EqKinds
import PyProof.TupleCall
import PySem.SetOps
import PyProof.SetScanFacts
import PyProof.TupleKey
import PyProof.SetKind
import PyProof.SetRoads
import PyProof.IsRules
import PyProof.ZipIter
import PyProof.TupleIter
import PyProof.ListMulRoad
import PyProof.FactsAll.tuple
import PyProof.ListRange
import PyProof.Draws
import PyProof.EnumFor
import PyProof.Rows.ListMul
import PyProof.AutoListH
import PyProof.ExcInit
import PyProof.ExcClass2
import PyProof.InstStore
import PyProof.InstStoreFacts
import PyProof.ExcArgsOwn
import PyProof.IsInstance
import PyProof.IsInstanceH
import PyProof.StationsW
import PyProof.Rows.CatchOwn
import PyProof.FactsAll.dict_1
import PyProof.Rows.SortRuns
import PyProof.Rows.Range3
import PyProof.FitsBits
import PyProof.MinMaxWalk
import PyProof.WalkInts
import PyProof.Rows.MinMaxN
import PySem.Challenge.RW_purseborder_k82_whole_keeper_goes_on
set_option Elab.async false
set_option linter.all false
set_option maxRecDepth 100000
set_option genSizeOf false
set_option compiler.extract_closed false
set_option bootstrap.genMatcherCode false
abbrev Af:=PySem.Value->PySem.Shared->Prop
abbrev Aj:=List (PySem.Addr×PySem.Obj)
abbrev Ah:=List PySem.Value
abbrev AA:=PySem.Str->Option PySem.Value
abbrev AB:=Array PySem.Value
def AR {p:Prop}[Decidable p](h:decide p=true:=by decide +kernel):p:=of_decide_eq_true h
noncomputable section
def gV:=@PySem.wpAny_bind
def za1:=@PySem.Heap.get?_push_of_some
def za2:=@decide_eq_true
def za3:=@decide_eq_false
def za4:=@PySem.wpAny_field
def za5:=@PySem.wpAny_mono
def za6:=@PySem.wpAny_holding
def za7:=@PySem.wpAny_call_entry
def za8:=@PySem.wpAny_setState_of
def za9:=@PySem.wpAny_newObj_type
def zaA:=@PySem.wpAny_seqItems
def zaB:=@PySem.wpAny_callSpecial?_slot
def zaC:=@PySem.wpAny_rule
def zaD:=@PySem.wpAny_truthy_bool
def zaE:=@PySem.wpAny_passesOwn
def zaF:=@PySem.wpAny_typeOf
def zaG:=@PySem.Heap.get?_update_self
def zaH:=@PySem.wpAny_attempt
def zaI:=@PySem.wpAny_setField_rec
def zaJ:=@PySem.wpAny_pyIter_list
def zaK:=@PySem.wpAny_askSetting
def zaL:=@PySem.wpAny_setField
def zaM:=@PySem.wpAny_Call_Name_kw
def zaN:=@PySem.Heap.get?_update_other
def zaO:=@PySem.wpAny_pyIter_tuple
def zaP:=@PySem.Heap.get?_update_ne
def Al:=@List.mem_cons_self
def An:=@Option.bind_eq_some_iff
def Av:=@List.mem_cons_of_mem
def AF:=@Option.map_eq_some_iff
def Bi:=@List.not_mem_nil
def Bm:=@List.mem_append_left
def Bl:=@List.lookup_cons
def Bu:=@List.nodup_cons
def Br:=@List.pairwise_cons
def Bx:=@List.getElem?_append_right
def Bw:=@Nat.lt_or_ge
def BF:=@List.map_nil
def BE:=@List.any_cons
def BM:=@Nat.ne_of_gt
def BL:=@Array.toList_append
def BK:=@List.drop_left
def BQ:=@List.append_nil
def BP:=@List.mem_iff_getElem
def B5:=@List.replicate_succ
def B4:=@Nat.lt_trans
def B0:=@Array.toList_push
def BZ:=@List.take_left
def Cc:=@List.length_take
def Cb:=@List.mem_iff_getElem?
def Ca:=@Int.zero_add
def B_:=@List.mem_flatMap
def Cr:=@List.getElem?_append_left
def Cq:=@List.flatten_cons
def Cp:=@Nat.lt_succ_of_lt
def Co:=@Int.natCast_succ
def Cj:=@Int.add_mul
def CB:=@Array.getElem?_eq_none
def CA:=@List.take_append_drop
def Cz:=@List.map_congr_left
def Cy:=@List.find?_cons
def Cw:=@Array.getElem_toList
def Cv:=@Int.toNat_natCast
def Cu:=@Int.mul_nonneg
def CU:=@Bool.false_ne_true
def CT:=@Bool.and_false
def CS:=@List.getElem?_eq_none
def CQ:=@List.pairwise_iff_getElem
def CP:=@List.reverse_append
def CO:=@Nat.zero_add
def CN:=@Nat.le_add_right
def CM:=@List.mem_of_find?_eq_some
def Dj:=@List.filterMap_cons
def Di:=@List.getElem?_replicate
def Dh:=@List.length_set
def Dg:=@List.pairwise_append
def Df:=@List.pairwise_singleton
def De:=@List.take_of_length_le
def Dd:=@List.drop_eq_getElem_cons
def Dc:=@List.drop_zero
def C_:=@List.drop_drop
def C9:=@List.zipIdx_cons
def C8:=@List.foldl_cons
def C7:=@List.pairwise_map
def C6:=@Nat.mod_lt
def C5:=@List.getElem?_cons_succ
def C4:=@List.toList_toArray
def C3:=@List.mem_map_of_mem
def DV:=@List.of_mem_zip
def DU:=@Option.isSome_iff_exists
def DT:=@List.length_drop
def DS:=@List.forIn_cons
def DR:=@List.lookup_append
def DQ:=@List.getElem?_set
def DP:=@Nat.add_sub_cancel_left
def DN:=@List.perm_append_comm
def DM:=@List.mem_of_mem_drop
def DL:=@Array.toList_reverse
def DJ:=@List.length_eq_zero_iff
def DI:=@List.length_nil
def DH:=@Array.size_map
def DG:=@Bool.and_self
def DF:=@Nat.eq_zero_or_pos
def DE:=@Nat.lt_trichotomy
def DD:=@Array.getElem?_setIfInBounds
def DC:=@List.map_take
def DB:=@List.map_drop
def DA:=@List.ext_getElem
def Dz:=@List.length_filter_le
def Es:=@List.mem_filterMap
def Er:=@List.getElem?_take_of_lt
def Ep:=@Nat.lt_of_le_of_lt
def Eo:=@List.getElem_range
def En:=@Array.toList_extract
def Em:=@List.extract_eq_drop_take
def El:=@Nat.min_eq_left
def Ek:=@List.mem_of_mem_take
def Ej:=@Array.toList_map
def Eh:=@List.nodup_range
def Eg:=@List.perm_ext_iff_of_nodup
def Ef:=@Bool.or_eq_true
def Ee:=@Int.lt_of_le_of_lt
def Ed:=@Int.mul_le_mul_of_nonneg_right
def Eb:=@List.mem_zipIdx_iff_getElem?
def zcQ:=@List.dropLast_concat_getLast
def AH:=@List.size_toArray
def A5:=@List.getElem?_eq_getElem
def AN:=@List.getElem?_eq_some_iff
def AE:=@List.getElem?_map
def Ao:=@Nat.le_refl
def Ak:=@List.mem_cons
def Ay:=@List.map_cons
def AD:=@List.length_map
def Ax:=@PySem.Heap.lt_size
def AK:=@PySem.Heap.get?_push_size
def Aw:=@List.mem_map
def Bo:=@List.getD_eq_getElem?_getD
def CZ:=@Bool.not_false
def AI:=@Nat.ne_of_lt
def AY:=@List.mem_append_right
def CY:=@Bool.not_true
def Au:=@List.mem_singleton
def Bh:=@List.mem_of_getElem?
def BC:=@Array.getElem?_eq_getElem
def AG:=@List.mem_append
def AX:=@List.length_cons
def AQ:=@List.mem_range
def Bn:=@PySem.W.mg_none_of
def BB:=@Nat.lt_of_lt_of_le
def A9:=@Bool.false_eq_true
def CW:=@List.length_range
def A8:=@Int.le_refl
def Bk:=@Bool.eq_iff_iff
def A7:=@List.mem_filter
def Bv:=@Option.bind_some
def Bg:=@List.any_eq_true
def Ad:=@PySem.wpAny_pure
def A3:=@Array.length_toList
def Bf:=@Array.getElem?_toList
def Be:=@Nat.zero_le
def Bb:=@Option.some.inj
def A0:=@List.map_map
def A6:=@List.length_append
def BA:=@List.getElem_mem
def CV:=@List.length_pos_iff
def Bj:=@Nat.le_trans
def B7:=@Nat.lt_irrefl
def B6:=@Nat.lt_succ_self
def BG:=@Nat.le_of_lt
def BN:=@List.all_eq_true
def Cd:=@Bool.and_eq_true
def Bz:=@List.map_append
def AW:=@List.append_assoc
def Dl:=@Int.emod_nonneg
def Dk:=@Int.emod_lt_of_pos
section
theorem E_0_1{p:Prop}{G:Prop}(h:p) (f:p->G):G:=f h
theorem E_0_2{p q:Prop}{G:Prop}(h:p/\q) (f:p->q->G):G:=E_0_1 h.2 (f h.1)
theorem E_1_1{α:Sort _}{p:α->Prop}{G:Prop}(h:∃ a,p a) (f:∀ a,p a->G):G:=h.elim λ a h=>E_0_1 h (f a)
theorem E_0_3{p q r:Prop}{G:Prop}(h:p/\q/\r) (f:p->q->r->G):G:=E_0_2 h.2 (f h.1)
theorem E_1_2{α:Sort _}{p q:α->Prop}{G:Prop}(h:∃ a,p a/\q a) (f:∀ a,p a->q a->G):G:=h.elim λ a h=>E_0_2 h (f a)
theorem E_2_1{α β:Sort _}{p:α->β->Prop}{G:Prop}(h:∃ a b,p a b) (f:∀ a b,p a b->G):G:=h.elim λ a h=>E_1_1 h (f a)
theorem E_0_4{p q r s:Prop}{G:Prop}(h:p/\q/\r/\s) (f:p->q->r->s->G):G:=E_0_3 h.2 (f h.1)
theorem E_1_3{α:Sort _}{p q r:α->Prop}{G:Prop}(h:∃ a,p a/\q a/\r a) (f:∀ a,p a->q a->r a->G):G:=h.elim λ a h=>E_0_3 h (f a)
theorem E_2_2{α β:Sort _}{p q:α->β->Prop}{G:Prop}(h:∃ a b,p a b/\q a b) (f:∀ a b,p a b->q a b->G):G:=h.elim λ a h=>E_1_2 h (f a)
theorem E_3_1{α β γ:Sort _}{p:α->β->γ->Prop}{G:Prop}(h:∃ a b c,p a b c) (f:∀ a b c,p a b c->G):G:=h.elim λ a h=>E_2_1 h (f a)
theorem E_0_5{p q r s t:Prop}{G:Prop}(h:p/\q/\r/\s/\t) (f:p->q->r->s->t->G):G:=E_0_4 h.2 (f h.1)
theorem E_1_4{α:Sort _}{p q r s:α->Prop}{G:Prop}(h:∃ a,p a/\q a/\r a/\s a) (f:∀ a,p a->q a->r a->s a->G):G:=h.elim λ a h=>E_0_4 h (f a)
theorem E_2_3{α β:Sort _}{p q r:α->β->Prop}{G:Prop}(h:∃ a b,p a b/\q a b/\r a b) (f:∀ a b,p a b->q a b->r a b->G):G:=h.elim λ a h=>E_1_3 h (f a)
theorem E_3_2{α β γ:Sort _}{p q:α->β->γ->Prop}{G:Prop}(h:∃ a b c,p a b c/\q a b c) (f:∀ a b c,p a b c->q a b c->G):G:=h.elim λ a h=>E_2_2 h (f a)
theorem E_4_1{α β γ δ:Sort _}{p:α->β->γ->δ->Prop}{G:Prop}(h:∃ a b c d,p a b c d) (f:∀ a b c d,p a b c d->G):G:=h.elim λ a h=>E_3_1 h (f a)
theorem E_0_6{p q r s t u:Prop}{G:Prop}(h:p/\q/\r/\s/\t/\u) (f:p->q->r->s->t->u->G):G:=E_0_5 h.2 (f h.1)
theorem E_1_5{α:Sort _}{p q r s t:α->Prop}{G:Prop}(h:∃ a,p a/\q a/\r a/\s a/\t a) (f:∀ a,p a->q a->r a->s a->t a->G):G:=h.elim λ a h=>E_0_5 h (f a)
theorem E_2_4{α β:Sort _}{p q r s:α->β->Prop}{G:Prop}(h:∃ a b,p a b/\q a b/\r a b/\s a b) (f:∀ a b,p a b->q a b->r a b->s a b->G):G:=h.elim λ a h=>E_1_4 h (f a)
theorem E_3_3{α β γ:Sort _}{p q r:α->β->γ->Prop}{G:Prop}(h:∃ a b c,p a b c/\q a b c/\r a b c) (f:∀ a b c,p a b c->q a b c->r a b c->G):G:=h.elim λ a h=>E_2_3 h (f a)
theorem E_4_2{α β γ δ:Sort _}{p q:α->β->γ->δ->Prop}{G:Prop}(h:∃ a b c d,p a b c d/\q a b c d) (f:∀ a b c d,p a b c d->q a b c d->G):G:=h.elim λ a h=>E_3_2 h (f a)
theorem E_5_1{α β γ δ ε:Sort _}{p:α->β->γ->δ->ε->Prop}{G:Prop}(h:∃ a b c d e,p a b c d e) (f:∀ a b c d e,p a b c d e->G):G:=h.elim λ a h=>E_4_1 h (f a)
theorem E_0_7{p q r s t u v:Prop}{G:Prop}(h:p/\q/\r/\s/\t/\u/\v) (f:p->q->r->s->t->u->v->G):G:=E_0_6 h.2 (f h.1)
theorem E_1_6{α:Sort _}{p q r s t u:α->Prop}{G:Prop}(h:∃ a,p a/\q a/\r a/\s a/\t a/\u a) (f:∀ a,p a->q a->r a->s a->t a->u a->G):G:=h.elim λ a h=>E_0_6 h (f a)
theorem E_2_5{α β:Sort _}{p q r s t:α->β->Prop}{G:Prop}(h:∃ a b,p a b/\q a b/\r a b/\s a b/\t a b) (f:∀ a b,p a b->q a b->r a b->s a b->t a b->G):G:=h.elim λ a h=>E_1_5 h (f a)
theorem E_3_4{α β γ:Sort _}{p q r s:α->β->γ->Prop}{G:Prop}(h:∃ a b c,p a b c/\q a b c/\r a b c/\s a b c) (f:∀ a b c,p a b c->q a b c->r a b c->s a b c->G):G:=h.elim λ a h=>E_2_4 h (f a)
theorem E_4_3{α β γ δ:Sort _}{p q r:α->β->γ->δ->Prop}{G:Prop}(h:∃ a b c d,p a b c d/\q a b c d/\r a b c d) (f:∀ a b c d,p a b c d->q a b c d->r a b c d->G):G:=h.elim λ a h=>E_3_3 h (f a)
theorem E_5_2{α β γ δ ε:Sort _}{p q:α->β->γ->δ->ε->Prop}{G:Prop}(h:∃ a b c d e,p a b c d e/\q a b c d e) (f:∀ a b c d e,p a b c d e->q a b c d e->G):G:=h.elim λ a h=>E_4_2 h (f a)
theorem E_6_1{α β γ δ ε ζ:Sort _}{p:α->β->γ->δ->ε->ζ->Prop}{G:Prop}(h:∃ a b c d e f,p a b c d e f) (f:∀ a b c d e f,p a b c d e f->G):G:=h.elim λ a h=>E_5_1 h (f a)
theorem E_0_8{p q r s t u v w:Prop}{G:Prop}(h:p/\q/\r/\s/\t/\u/\v/\w) (f:p->q->r->s->t->u->v->w->G):G:=E_0_7 h.2 (f h.1)
theorem E_1_7{α:Sort _}{p q r s t u v:α->Prop}{G:Prop}(h:∃ a,p a/\q a/\r a/\s a/\t a/\u a/\v a) (f:∀ a,p a->q a->r a->s a->t a->u a->v a->G):G:=h.elim λ a h=>E_0_7 h (f a)
theorem E_2_6{α β:Sort _}{p q r s t u:α->β->Prop}{G:Prop}(h:∃ a b,p a b/\q a b/\r a b/\s a b/\t a b/\u a b) (f:∀ a b,p a b->q a b->r a b->s a b->t a b->u a b->G):G:=h.elim λ a h=>E_1_6 h (f a)
theorem E_3_5{α β γ:Sort _}{p q r s t:α->β->γ->Prop}{G:Prop}(h:∃ a b c,p a b c/\q a b c/\r a b c/\s a b c/\t a b c) (f:∀ a b c,p a b c->q a b c->r a b c->s a b c->t a b c->G):G:=h.elim λ a h=>E_2_5 h (f a)
theorem E_4_4{α β γ δ:Sort _}{p q r s:α->β->γ->δ->Prop}{G:Prop}(h:∃ a b c d,p a b c d/\q a b c d/\r a b c d/\s a b c d) (f:∀ a b c d,p a b c d->q a b c d->r a b c d->s a b c d->G):G:=h.elim λ a h=>E_3_4 h (f a)
theorem E_5_3{α β γ δ ε:Sort _}{p q r:α->β->γ->δ->ε->Prop}{G:Prop}(h:∃ a b c d e,p a b c d e/\q a b c d e/\r a b c d e) (f:∀ a b c d e,p a b c d e->q a b c d e->r a b c d e->G):G:=h.elim λ a h=>E_4_3 h (f a)
theorem E_6_2{α β γ δ ε ζ:Sort _}{p q:α->β->γ->δ->ε->ζ->Prop}{G:Prop}(h:∃ a b c d e f,p a b c d e f/\q a b c d e f) (f:∀ a b c d e f,p a b c d e f->q a b c d e f->G):G:=h.elim λ a h=>E_5_2 h (f a)
theorem E_7_1{α β γ δ ε ζ η:Sort _}{p:α->β->γ->δ->ε->ζ->η->Prop}{G:Prop}(h:∃ a b c d e f g,p a b c d e f g) (f:∀ a b c d e f g,p a b c d e f g->G):G:=h.elim λ a h=>E_6_1 h (f a)
theorem E_0_9{p q r s t u v w x:Prop}{G:Prop}(h:p/\q/\r/\s/\t/\u/\v/\w/\x) (f:p->q->r->s->t->u->v->w->x->G):G:=E_0_8 h.2 (f h.1)
theorem E_1_8{α:Sort _}{p q r s t u v w:α->Prop}{G:Prop}(h:∃ a,p a/\q a/\r a/\s a/\t a/\u a/\v a/\w a) (f:∀ a,p a->q a->r a->s a->t a->u a->v a->w a->G):G:=h.elim λ a h=>E_0_8 h (f a)
theorem E_2_7{α β:Sort _}{p q r s t u v:α->β->Prop}{G:Prop}(h:∃ a b,p a b/\q a b/\r a b/\s a b/\t a b/\u a b/\v a b) (f:∀ a b,p a b->q a b->r a b->s a b->t a b->u a b->v a b->G):G:=h.elim λ a h=>E_1_7 h (f a)
theorem E_3_6{α β γ:Sort _}{p q r s t u:α->β->γ->Prop}{G:Prop}(h:∃ a b c,p a b c/\q a b c/\r a b c/\s a b c/\t a b c/\u a b c) (f:∀ a b c,p a b c->q a b c->r a b c->s a b c->t a b c->u a b c->G):G:=h.elim λ a h=>E_2_6 h (f a)
theorem E_4_5{α β γ δ:Sort _}{p q r s t:α->β->γ->δ->Prop}{G:Prop}(h:∃ a b c d,p a b c d/\q a b c d/\r a b c d/\s a b c d/\t a b c d) (f:∀ a b c d,p a b c d->q a b c d->r a b c d->s a b c d->t a b c d->G):G:=h.elim λ a h=>E_3_5 h (f a)
theorem E_5_4{α β γ δ ε:Sort _}{p q r s:α->β->γ->δ->ε->Prop}{G:Prop}(h:∃ a b c d e,p a b c d e/\q a b c d e/\r a b c d e/\s a b c d e) (f:∀ a b c d e,p a b c d e->q a b c d e->r a b c d e->s a b c d e->G):G:=h.elim λ a h=>E_4_4 h (f a)
theorem E_6_3{α β γ δ ε ζ:Sort _}{p q r:α->β->γ->δ->ε->ζ->Prop}{G:Prop}(h:∃ a b c d e f,p a b c d e f/\q a b c d e f/\r a b c d e f) (f:∀ a b c d e f,p a b c d e f->q a b c d e f->r a b c d e f->G):G:=h.elim λ a h=>E_5_3 h (f a)
theorem E_7_2{α β γ δ ε ζ η:Sort _}{p q:α->β->γ->δ->ε->ζ->η->Prop}{G:Prop}(h:∃ a b c d e f g,p a b c d e f g/\q a b c d e f g) (f:∀ a b c d e f g,p a b c d e f g->q a b c d e f g->G):G:=h.elim λ a h=>E_6_2 h (f a)
theorem E_8_1{α β γ δ ε ζ η θ:Sort _}{p:α->β->γ->δ->ε->ζ->η->θ->Prop}{G:Prop}(h:∃ a b c d e f g h,p a b c d e f g h) (f:∀ a b c d e f g h,p a b c d e f g h->G):G:=h.elim λ a h=>E_7_1 h (f a)
theorem E_0_10{p q r s t u v w x y:Prop}{G:Prop}(h:p/\q/\r/\s/\t/\u/\v/\w/\x/\y) (f:p->q->r->s->t->u->v->w->x->y->G):G:=E_0_9 h.2 (f h.1)
theorem E_1_9{α:Sort _}{p q r s t u v w x:α->Prop}{G:Prop}(h:∃ a,p a/\q a/\r a/\s a/\t a/\u a/\v a/\w a/\x a) (f:∀ a,p a->q a->r a->s a->t a->u a->v a->w a->x a->G):G:=h.elim λ a h=>E_0_9 h (f a)
theorem E_2_8{α β:Sort _}{p q r s t u v w:α->β->Prop}{G:Prop}(h:∃ a b,p a b/\q a b/\r a b/\s a b/\t a b/\u a b/\v a b/\w a b) (f:∀ a b,p a b->q a b->r a b->s a b->t a b->u a b->v a b->w a b->G):G:=h.elim λ a h=>E_1_8 h (f a)
theorem E_3_7{α β γ:Sort _}{p q r s t u v:α->β->γ->Prop}{G:Prop}(h:∃ a b c,p a b c/\q a b c/\r a b c/\s a b c/\t a b c/\u a b c/\v a b c) (f:∀ a b c,p a b c->q a b c->r a b c->s a b c->t a b c->u a b c->v a b c->G):G:=h.elim λ a h=>E_2_7 h (f a)
theorem E_4_6{α β γ δ:Sort _}{p q r s t u:α->β->γ->δ->Prop}{G:Prop}(h:∃ a b c d,p a b c d/\q a b c d/\r a b c d/\s a b c d/\t a b c d/\u a b c d) (f:∀ a b c d,p a b c d->q a b c d->r a b c d->s a b c d->t a b c d->u a b c d->G):G:=h.elim λ a h=>E_3_6 h (f a)
theorem E_5_5{α β γ δ ε:Sort _}{p q r s t:α->β->γ->δ->ε->Prop}{G:Prop}(h:∃ a b c d e,p a b c d e/\q a b c d e/\r a b c d e/\s a b c d e/\t a b c d e) (f:∀ a b c d e,p a b c d e->q a b c d e->r a b c d e->s a b c d e->t a b c d e->G):G:=h.elim λ a h=>E_4_5 h (f a)
theorem E_6_4{α β γ δ ε ζ:Sort _}{p q r s:α->β->γ->δ->ε->ζ->Prop}{G:Prop}(h:∃ a b c d e f,p a b c d e f/\q a b c d e f/\r a b c d e f/\s a b c d e f) (f:∀ a b c d e f,p a b c d e f->q a b c d e f->r a b c d e f->s a b c d e f->G):G:=h.elim λ a h=>E_5_4 h (f a)
theorem E_7_3{α β γ δ ε ζ η:Sort _}{p q r:α->β->γ->δ->ε->ζ->η->Prop}{G:Prop}(h:∃ a b c d e f g,p a b c d e f g/\q a b c d e f g/\r a b c d e f g) (f:∀ a b c d e f g,p a b c d e f g->q a b c d e f g->r a b c d e f g->G):G:=h.elim λ a h=>E_6_3 h (f a)
theorem E_8_2{α β γ δ ε ζ η θ:Sort _}{p q:α->β->γ->δ->ε->ζ->η->θ->Prop}{G:Prop}(h:∃ a b c d e f g h,p a b c d e f g h/\q a b c d e f g h) (f:∀ a b c d e f g h,p a b c d e f g h->q a b c d e f g h->G):G:=h.elim λ a h=>E_7_2 h (f a)
theorem E_9_1{α β γ δ ε ζ η θ ι:Sort _}{p:α->β->γ->δ->ε->ζ->η->θ->ι->Prop}{G:Prop}(h:∃ a b c d e f g h i,p a b c d e f g h i) (f:∀ a b c d e f g h i,p a b c d e f g h i->G):G:=h.elim λ a h=>E_8_1 h (f a)
theorem E_0_11{p q r s t u v w x y z:Prop}{G:Prop}(h:p/\q/\r/\s/\t/\u/\v/\w/\x/\y/\z) (f:p->q->r->s->t->u->v->w->x->y->z->G):G:=E_0_10 h.2 (f h.1)
theorem E_1_10{α:Sort _}{p q r s t u v w x y:α->Prop}{G:Prop}(h:∃ a,p a/\q a/\r a/\s a/\t a/\u a/\v a/\w a/\x a/\y a) (f:∀ a,p a->q a->r a->s a->t a->u a->v a->w a->x a->y a->G):G:=h.elim λ a h=>E_0_10 h (f a)
theorem E_2_9{α β:Sort _}{p q r s t u v w x:α->β->Prop}{G:Prop}(h:∃ a b,p a b/\q a b/\r a b/\s a b/\t a b/\u a b/\v a b/\w a b/\x a b) (f:∀ a b,p a b->q a b->r a b->s a b->t a b->u a b->v a b->w a b->x a b->G):G:=h.elim λ a h=>E_1_9 h (f a)
theorem E_3_8{α β γ:Sort _}{p q r s t u v w:α->β->γ->Prop}{G:Prop}(h:∃ a b c,p a b c/\q a b c/\r a b c/\s a b c/\t a b c/\u a b c/\v a b c/\w a b c) (f:∀ a b c,p a b c->q a b c->r a b c->s a b c->t a b c->u a b c->v a b c->w a b c->G):G:=h.elim λ a h=>E_2_8 h (f a)
theorem E_4_7{α β γ δ:Sort _}{p q r s t u v:α->β->γ->δ->Prop}{G:Prop}(h:∃ a b c d,p a b c d/\q a b c d/\r a b c d/\s a b c d/\t a b c d/\u a b c d/\v a b c d) (f:∀ a b c d,p a b c d->q a b c d->r a b c d->s a b c d->t a b c d->u a b c d->v a b c d->G):G:=h.elim λ a h=>E_3_7 h (f a)
theorem E_5_6{α β γ δ ε:Sort _}{p q r s t u:α->β->γ->δ->ε->Prop}{G:Prop}(h:∃ a b c d e,p a b c d e/\q a b c d e/\r a b c d e/\s a b c d e/\t a b c d e/\u a b c d e) (f:∀ a b c d e,p a b c d e->q a b c d e->r a b c d e->s a b c d e->t a b c d e->u a b c d e->G):G:=h.elim λ a h=>E_4_6 h (f a)
theorem E_6_5{α β γ δ ε ζ:Sort _}{p q r s t:α->β->γ->δ->ε->ζ->Prop}{G:Prop}(h:∃ a b c d e f,p a b c d e f/\q a b c d e f/\r a b c d e f/\s a b c d e f/\t a b c d e f) (f:∀ a b c d e f,p a b c d e f->q a b c d e f->r a b c d e f->s a b c d e f->t a b c d e f->G):G:=h.elim λ a h=>E_5_5 h (f a)
theorem E_7_4{α β γ δ ε ζ η:Sort _}{p q r s:α->β->γ->δ->ε->ζ->η->Prop}{G:Prop}(h:∃ a b c d e f g,p a b c d e f g/\q a b c d e f g/\r a b c d e f g/\s a b c d e f g) (f:∀ a b c d e f g,p a b c d e f g->q a b c d e f g->r a b c d e f g->s a b c d e f g->G):G:=h.elim λ a h=>E_6_4 h (f a)
theorem E_8_3{α β γ δ ε ζ η θ:Sort _}{p q r:α->β->γ->δ->ε->ζ->η->θ->Prop}{G:Prop}(h:∃ a b c d e f g h,p a b c d e f g h/\q a b c d e f g h/\r a b c d e f g h) (f:∀ a b c d e f g h,p a b c d e f g h->q a b c d e f g h->r a b c d e f g h->G):G:=h.elim λ a h=>E_7_3 h (f a)
theorem E_9_2{α β γ δ ε ζ η θ ι:Sort _}{p q:α->β->γ->δ->ε->ζ->η->θ->ι->Prop}{G:Prop}(h:∃ a b c d e f g h i,p a b c d e f g h i/\q a b c d e f g h i) (f:∀ a b c d e f g h i,p a b c d e f g h i->q a b c d e f g h i->G):G:=h.elim λ a h=>E_8_2 h (f a)
theorem E_1_11{α:Sort _}{p q r s t u v w x y z:α->Prop}{G:Prop}(h:∃ a,p a/\q a/\r a/\s a/\t a/\u a/\v a/\w a/\x a/\y a/\z a) (f:∀ a,p a->q a->r a->s a->t a->u a->v a->w a->x a->y a->z a->G):G:=h.elim λ a h=>E_0_11 h (f a)
theorem E_2_10{α β:Sort _}{p q r s t u v w x y:α->β->Prop}{G:Prop}(h:∃ a b,p a b/\q a b/\r a b/\s a b/\t a b/\u a b/\v a b/\w a b/\x a b/\y a b) (f:∀ a b,p a b->q a b->r a b->s a b->t a b->u a b->v a b->w a b->x a b->y a b->G):G:=h.elim λ a h=>E_1_10 h (f a)
theorem E_3_9{α β γ:Sort _}{p q r s t u v w x:α->β->γ->Prop}{G:Prop}(h:∃ a b c,p a b c/\q a b c/\r a b c/\s a b c/\t a b c/\u a b c/\v a b c/\w a b c/\x a b c) (f:∀ a b c,p a b c->q a b c->r a b c->s a b c->t a b c->u a b c->v a b c->w a b c->x a b c->G):G:=h.elim λ a h=>E_2_9 h (f a)
theorem E_4_8{α β γ δ:Sort _}{p q r s t u v w:α->β->γ->δ->Prop}{G:Prop}(h:∃ a b c d,p a b c d/\q a b c d/\r a b c d/\s a b c d/\t a b c d/\u a b c d/\v a b c d/\w a b c d) (f:∀ a b c d,p a b c d->q a b c d->r a b c d->s a b c d->t a b c d->u a b c d->v a b c d->w a b c d->G):G:=h.elim λ a h=>E_3_8 h (f a)
theorem E_5_7{α β γ δ ε:Sort _}{p q r s t u v:α->β->γ->δ->ε->Prop}{G:Prop}(h:∃ a b c d e,p a b c d e/\q a b c d e/\r a b c d e/\s a b c d e/\t a b c d e/\u a b c d e/\v a b c d e) (f:∀ a b c d e,p a b c d e->q a b c d e->r a b c d e->s a b c d e->t a b c d e->u a b c d e->v a b c d e->G):G:=h.elim λ a h=>E_4_7 h (f a)
theorem E_6_6{α β γ δ ε ζ:Sort _}{p q r s t u:α->β->γ->δ->ε->ζ->Prop}{G:Prop}(h:∃ a b c d e f,p a b c d e f/\q a b c d e f/\r a b c d e f/\s a b c d e f/\t a b c d e f/\u a b c d e f) (f:∀ a b c d e f,p a b c d e f->q a b c d e f->r a b c d e f->s a b c d e f->t a b c d e f->u a b c d e f->G):G:=h.elim λ a h=>E_5_6 h (f a)
theorem E_7_5{α β γ δ ε ζ η:Sort _}{p q r s t:α->β->γ->δ->ε->ζ->η->Prop}{G:Prop}(h:∃ a b c d e f g,p a b c d e f g/\q a b c d e f g/\r a b c d e f g/\s a b c d e f g/\t a b c d e f g) (f:∀ a b c d e f g,p a b c d e f g->q a b c d e f g->r a b c d e f g->s a b c d e f g->t a b c d e f g->G):G:=h.elim λ a h=>E_6_5 h (f a)
theorem E_8_4{α β γ δ ε ζ η θ:Sort _}{p q r s:α->β->γ->δ->ε->ζ->η->θ->Prop}{G:Prop}(h:∃ a b c d e f g h,p a b c d e f g h/\q a b c d e f g h/\r a b c d e f g h/\s a b c d e f g h) (f:∀ a b c d e f g h,p a b c d e f g h->q a b c d e f g h->r a b c d e f g h->s a b c d e f g h->G):G:=h.elim λ a h=>E_7_4 h (f a)
theorem E_9_3{α β γ δ ε ζ η θ ι:Sort _}{p q r:α->β->γ->δ->ε->ζ->η->θ->ι->Prop}{G:Prop}(h:∃ a b c d e f g h i,p a b c d e f g h i/\q a b c d e f g h i/\r a b c d e f g h i) (f:∀ a b c d e f g h i,p a b c d e f g h i->q a b c d e f g h i->r a b c d e f g h i->G):G:=h.elim λ a h=>E_8_3 h (f a)
end
open Lean in
def eKM (a:Array Term) (e:Term):MacroM (TSyntax `tactic):=do
 let n:=a.size
 if n<3||n>12 then Macro.throwUnsupported
 let f<-(List.range n).toArray.mapM λ k=>`(tacticSeq|refine $(mkIdent (.mkSimple s!"E_{n-1-k}_{k+1}")):ident $e ?_)
 let mut ts:=#[<-`(tactic|first $[|$f]*)]
 if e.raw.isIdent then ts:=ts.push (<-`(tactic|try clear $(⟨e.raw⟩):ident))
 let mut xs:Array Term:=#[]
 for x in a do
  if x.raw.isOfKind ``Lean.Parser.Term.hole||x.raw.isIdent&&x.raw.getId != `rfl then xs:=xs.push x
  else
   let y:Term<-withFreshMacroScope `(y)
   xs:=xs.push y
   ts:=ts.push (<-`(tactic|intro $xs:term*))
   xs:=#[]
   ts:=ts.push (<-if x.raw.isIdent then `(tactic|obtain $(⟨x.raw⟩):ident:=$y) else `(tactic|let $x:term:=$y))
 if xs.size>0 then ts:=ts.push (<-`(tactic|intro $xs:term*))
 `(tactic|($[$ts:tactic]*))
open Lean in
def czXX (T:NameMap (List Syntax)):Nat->Syntax->List Syntax
|0,s=>[s]
|n+1,s=>match s with
 |.ident _ _ v _=>(T.find? v).getD [s]
 |.node i k a=>
  match if k== ``Lean.Elab.Tactic.Ext.ext then T.find? s[1][0][0][0].getId else if k== ``Lean.Parser.Term.implicitBinder&&s[2].getNumArgs==0 then T.find? s[1][0].getId else none with
  |some r=>if r.head!.isOfKind ``Lean.Parser.Term.byTactic then r.head![1][0][0].getArgs.toList else r
  |_=>let b:=a.toList.flatMap (czXX T n)
   [.node i k (match b with
    |[f,x]=>if k== ``Lean.Parser.Term.app&&f.isOfKind k then #[f[0],mkNullNode (f[1].getArgs++x.getArgs)] else b.toArray
    |_=>b.toArray)]
 |_=>[s]
open Lean in
def czYY (q:Syntax):Array Syntax:=(q[1].getArgs.foldl (λ(T,a) c=>
 let e:=c[1]
 let z:=czXX T 9999
 if c.isOfKind ``Lean.Parser.Command.declaration&&e.isOfKind ``Lean.Parser.Command.example then
  let b:=e[1][0].getArgs
  let v:=e[2][1]
  (T.insert b[0]!.getId (if b.size==1 then z v else if b[1]!.isOfKind ``Lean.Parser.Term.hole then v[1].getArgs.toList.flatMap z else (b.toList.drop 1).flatMap z),a)
 else (T,a++z c)) ((∅:NameMap (List Syntax)),#[])).2
local macro_rules(kind:=Lean.Parser.Command.declaration)|s=>do
 unless s[1][2][1].isOfKind ``Lean.Parser.Command.quot do Lean.Macro.throwUnsupported
 return Lean.mkNullNode (czYY s[1][2][1])
open Lean in
def zRc:Nat->Term->MacroM (TSyntax `rcasesPat)
|0,_=>Macro.throwUnsupported
|n+1,t=>match t with
 |`(#[$xs,*])=>do let ys<-xs.getElems.mapM (zRc n);`(rcasesPat|⟨$[$ys:rcasesPat],*⟩)
 |`(_)=>`(rcasesPat|_)
 |`($x:ident)=>`(rcasesPat|$x:ident)
 |_=>Macro.throwUnsupported
local macro_rules|`(tactic|let $p:term:=$e)=>do let q<-zRc 9 p;`(tactic|obtain $q:rcasesPat:=$e)
local macro_rules|`(tactic|let #[$a,*]:=$e)=>do let q<-zRc 9 (<-`(#[$a,*]));let t<-eKM a.getElems e;`(tactic|first|$t:tactic|obtain $q:rcasesPat:=$e)
local macro_rules|`(tactic|simp! [$a,*] $[$l:location]?)=>`(tactic|simp only [$a,*] $[$l:location]?)
local macro_rules|`(tactic|exists $e)=>`(tactic|simpa using $e)
local macro_rules|`(tactic|show $e)=>`(tactic|refine $e)
local macro_rules|`(tactic|exact $e)=>`(tactic|refine $e)
local macro_rules|`(#[])=>`(by simp)|`(#[$xs,*])=>`(⟨$xs,*⟩)
local macro_rules|`(↑$x)=>`(some $x)
local macro_rules|`(⋯)=>`(by lia)
local macro_rules|`(())=>`(by decide)
abbrev Ac:=PySem.W.Frag
local macro_rules(kind:=Lean.Parser.Command.declaration)|s=>do
 if s[0][4].getNumArgs>0||![``Lean.Parser.Command.definition,``Lean.Parser.Command.abbrev].contains s[1].getKind then Lean.Macro.throwUnsupported
 return s.setArg 0 (s[0].setArg 4 (Lean.mkNullNode [Lean.mkNode ``Lean.Parser.Command.noncomputable [Lean.mkAtom "noncomputable"].toArray].toArray))
example:=`(
example Ð _:=x X E6 σ
example À:=Inv Ð H s
example ò _:=x X.prog X.w
example Á _:=x (model ò) X.A
example Ý:=Shared
example Ł(H:Hp):=0
example Â(E6:Aj) (s:Ý) (σ:St) Ł:=0
example Ã:=s.heap.objs.size
example í:=.int
example Ţ:=.fields [í lo t,í hi u,í 1 v].toArray
example Ä:=s.heap.push { cls:=.type "range",data:=Ţ }
example Ĺ:=.inl
example Å(hf:X.fn x=true\/X.env.scope.names.lookup x=↑.local:=by first | show Ĺ rfl | show .inr rfl | assumption):=0
example Â8:=X.env.cells.lookup
example Æ:=Â8 x=↑c
example ç _:=x σ H
example ń _:=x E6 s ç
example Ç _:=x ń _ I h
example È:=by intro X hP hw hK hc i E6 s σ H E I hf st hg;subst hP hw hK
example É:=#[x,H1,I1,r1,q1]
example Í:=X.env.locals
example ū:=(∀ x c,Æ->c≠b)/\∀ p∈X.pn++E6,p.1≠b
example ê:=X.s₀.heap.objs.size
example Ê(B9:∀ b∈ch,(b∈X.ex\/ê<=b)/\b≠ Í/\ū):=0
example Ë:=Value
example Ì:=Hp->Prop
example Î:=by let#[f0,f1,f2,f3,f4,f5]:=hf it #[]
example Ş{H:Hp}:=0
example É1{s:Ý}:=0
example Ï{E6:Aj}{σ:St}Ş É1:=0
example Ñ:=by rw[show xM f v ((k,x)::r)=(if k=f then (k,v)::r else (k,x)::xM f v r) from rfl];by_cases hk:k=f
example â:=false
example Ò(hd:(x == ("__debug__":Str))=â:=by decide):=0
example Ā:=h'.get?
example æ:=h.get?
example Ó:=æ b=↑u->Ā b=↑u
example Ä3:=PySem.W.emptyDict
example Ô:=s.heap.push Ä3
example Æ5:=(Ĺ rfl)
example Õ:=k _ _ Æ5 e
example Ö(I:À):=0
example Ø(hN:X.N.Nodup) (hi:X.N[i]?=↑x) (hx:Loc X.env.scope x):=0
example Ù:=#[ok.mod,ok.kind,ok.glob,ok.blt,ok.above,ok.inj,ok.has,ok.mV,ok.hd,ok.frames,ok.lV,ok.fW,ok.bs,ok.r_,ok.nF,ok.m8,ok.ur,ok.qI]
example Ļ:=s.toks
example Ú:=λ h' eb=>#[rfl,I.turned (t':=Ļ) (λ b o hb e=>eb b o hb e) f0 f1 f3 f4 f5]
example Û:=by intro E6 s σ H Q I h
example Ü:=["enumerate","zip","dict_itemiterator","dict_reverseitemiterator","odict_iterator","itertools.zip_longest","itertools.pairwise"].contains n
example Þ:=X.env
example ß:=s.heap.get?
example à:=wpAny
example Ő(ha:PE X a ta):=0
example á Ő (hb:PE X b tb):=0
example Ņ _:=x σ H1
example ã _:=x E6 s1 Ņ
example ä:=by intro E6 s σ H D I h
example å:=by have I1:Inv Ð H { s with heap:=h' }:=I.turned (t':=Ļ) (λ b o hb e=>(sb.2 b hb).trans e) f0 f1 f3 f4 f5;let#[o,e,c,d]:=id E7
example è(X:Cx):=0
example é:=.ref
example ŕ:=Program
example ë{P:ŕ}{w:World}:=0
example Į _:=x σ' H'
example ì:=Inv X E6 Į s'
example Ŗ:=I.base.free
example Ŀ:=λ b o e n hb hx=>?_
example î:=#[Ŀ,Ŀ,Ŗ,λ b o e hx=>?_,I.base.tq,I.base.sS,I.base.rq]
example ï:=by intro E6 s σ H x y v u Q I rx ry h
example ð:=sizeLine
example ñ:=s.heap
example ó:=List Addr
example ô:=(hs.2 b (AI (BB (Ax e) (I.ok.mV x c Cg hc)))).trans
example Æ9:=.builtin
example õ:=A.under (Æ9 "type.__call__" #[é C::us,kw])
example ö:=H b=none
example ø{A:Around}:=0
example ù:=by intro E6 s σ H xs us Q I r h;let#[i,j,rfl,q]:=h;let#[u,w',rfl,#[t,rfl],#[t',rfl]]:=vals2 r
example ú:=(zD (h pos ń _ I hq) λ us s1 #[xs,H1,I1,r,z,q]=>#[by rw[<- r.length];show z,?_])
example û _:=x b o e
example ü:=PySem.W.instObj
example ý:=by rw[List.getElem?_set_ne (Ne.symm hj)] at e2;let#[u',r',q]:=hl j y v' e1 e2 e3;exact#[u',r',?_]
example þ:=List (Str×V)
example ÿ:=by let#[o',e1]:=I.base.there û hx
example ā:=PySem.W.findIn
example Ă:=(model prog w)
example ă{pos:Pos}:=0
example Ą:=by let#[σ3,H3,I3,n3]:=q3;let#[m',hm,w3]:=hN σ3 H3 n3;show#[m',hm,σ3,H3,I3,w3]
example ą:=by let#[t,rfl]:=rx
example Ć:=List V
example ţ:=(.tup xs)
example ć:=∀ b xs,H b=↑ ţ->H' b=↑ ţ
example Ĉ:=(hs.2 b (AI (BB (Ax e) I.ok.above))).trans
example À0(mu:lp (H x)) (he:e=x\/H e=↑(.own x)):=0
example ĉ À0 (k:∀ b u,b≠e->Ó) (C2:∃ u,Ā e=↑u):=0
example Œ _:=x Q E s
example Å0:=à Á (f (í i t) (í j u)) Œ
example Ř:=(g i j)
example Ċ:=Q (í Ř Ļ) { s with toks:=Ļ+1 }->Å0
example ŭ _:=x E6 s2 σ H2 x y v
example ċ:=(eT ha hb I h λ v u s2 x y H2 I2 rx ry q=>ho ŭ u Q I2 rx ry q)
example Á2(s:Ý) (Q:Af) (E:Af):=0
example Č(i j:Int) (t u:Tok) Á2:=0
example č:=s1.heap.objs.size
example Ď:=RelV v u
example ď:=#[_,rfl]
example Đ:=by let#[o',FC,ep',FL,r']:=hm;rw[ho] at FL;cases FL;show#[_,FC,ep',hL,r']
example đ:=(.ins C dx fs)
example Ē:=ß p.1=↑p.2/\H p.1=none/\p.1≠ Í/\p.1∉X.fs/\∀ v,p.2.data≠.cell v
example ē:=#[y,H2,I2,r2,q2]
example Ĕ:=#[H1,I1,q1]
example Å9:=PySem.W.plainGet
example Ä5(X:K.In ñ) (I:ph ñ x dx C mA):=0
example ĕ Ä5 (hg:Å9 K C name=true):=0
example Ė:=if_neg
example ė:=X.base.get? b=↑o
example Ę{Q:Unit->Ý->Prop}:=0
example ę{f:Ë->Ë->Sem Ë}:=0
example Ě:=beq_eq_false_iff_ne.mpr
example ě:=xs.length
example Ĝ:=by rw[yj (tF q hn)];show q
example ĝ:=h.objs.size
example Ğ:=æ b=↑o
example ğ:=compareOp
example Æ4 _:=x K (é C)
example Ġ:=ā Æ4 "__setattr__"=↑↑(Æ9 "object.__setattr__")
example ġ:=by subst hj;rw[hi] at e1;cases e1;rw[List.getElem?_set_self hiσ] at e2;cases e2
example Ģ:=sc.names.lookup x
example ģ:=Hp->VK->Prop
example Ĥ:=(I.ok.hd hc)
example ĥ{X:Cx}:=0
example Ħ:=by let#[sl,e1]:=I.base.slot û n hb hx
example ħ:=by let#[e,n,ne,nf,d]:=I.pin p hp
example Ĩ:=by subst e;let#[o,e,c,d]:=st;show#[o,e,λ v z=>by rw[d] at z;cases z]
example ĩ:=Inv Ð H' { s with heap:=h',gens:=g',drawn:=d',toks:=t' }
example Ī:=k b o (λ z=>hc (by simp[z])) e
example ī:=Vals xs us
example Ĭ:=ß b=↑o
example ĭ:=I.ok.kind
example į:=∀ b ps,H b=↑(.qu ps)->∃ more,H' b=↑(.qu (ps++more))
example İ:=(.Name x pos)
example ı:=I.tok _
example Ĳ:=X.calm=true
example ĳ:=List.lookup
example Ĵ:=by rcases sN hv with ⟨j,u,rfl,rfl⟩ | ⟨y,u,rfl,rfl⟩
example ĵ(h:Heap):=0
example É0{x:Str}:=0
example È7{u:Ë}:=0
example Ķ É0{v:V}È7:=0
example ķ{E6:Aj}É1{σ:St}Ş:=0
example ĸ:=by ext ï;let#[i,j,rfl,rfl,q]:=h;ext ą;let#[t',rfl]:=ry
example È5:=fs.lookup
example ĺ:=∀ f,wt (È5 f) (mA f)
example ļ{xs:Ć}{us:Ah}:=0
example Ľ(K:Ac):=0
example ľ _:=x X.xe s
example ŀ:=by rcases sN hb with ⟨j,u,rfl,e⟩ | ⟨y,u,rfl,e⟩
example ł:=∀ b∈fp,H' b=none
example Ń _:=x P w H h
example ņ:=List Expr
example Ň:=.cons
example ň:=if_pos
example ŉ:=yL Ń
example Ŋ:=PySem.W.hasDictIn K C=true
example ŋ:=I1.laid (t':=s1.toks) (λ b u e=>za1 _ e) (Ao _) ?_
example Ō(hg:Gl X x) (hm:X.mg x=none) (hv:bootBuiltins x=↑u):=0
example ō(a:Addr):=0
example Ŏ(ha:PT X a tA):=0
example ŏ:=by intro wh E6 s σ H Q I h
example ő(e:H a=↑ đ) (c:uC X.K C):=0
example œ:=o.data=.seq Aa n/\Aa.size<=ð/\Vals xs Aa.toList
example Ŕ _:=x (by simp![AH];lia) #[H,ı,by rw[Zx r];show q]
example ŗ:=(ha Ç)
example Ç0{t':Nat}:=0
example ř{g':Array GenState}Ç0{d':Drawn}{ch:ó}:=0
example Ś:=by have e:b=it:=by exists hb
example ś:=Option
example Ŝ:=(I.base.keep û n hb hx)
example ŝ:=St->Ì
example ş _:=x K H a xs
example Š _:=x H a xs
example š:=(by rw[I.ok.glob];show I.mod.glob.keeps I.bk)
example Ť:=∀ b o u,H b=↑(.wb o u)->H' b=↑(.wb o u)
example ť:=X.s₀.heap.get? b=↑o
example Ŧ:=s.heap.FunFrames
example ŧ(w:World):=0
example Ũ:=by let#[_,_,_,_,o,_,_,e,_]:=x;show Ax e
example ũ{h:Heap}:=0
example Ū{b:Addr}{o:Obj}:=0
example Ŭ:=∀ name,PySem.W.lookIn name od=↑(mA name)
example Ů:=decide
example ů:=Aa.toArray
example Ű:=(é f)
example ű:=[].toArray
example Ų:=Inv Ð H' s'
example ų:=.BoolOp
example Ŵ:=assignEach
example ŵ:=PySem.W.plainGet_of hg
example Ŷ{E:Af}:=0
example ŷ:=wpAny_execs_nil
example Ÿ(E6:Aj) (σ:St):=0
example Ź:=∀ b∈fp,ue X E6 H b
example ź:=λ i h h' st k=>st.at λ o e=>k it #[] o e
example Ż:=behindInMarks op b=â
example ż:=by let#[m,#[o,es,ep,ho,r],_]:=id I.loc
example Ž:=æ a=↑{ cls:=.none,data:=.fields ps }
example ž:=(((hi-lo).toNat:Nat):Int)-((0:Nat):Int)
example ſ:=λ h' tk k=>#[_,H,I.kept k,?_,q]
example À1{pl:Sem Bool}{Q:Ë ×List Ë->Ý->Prop}:=0
example À2:=xs[i]?=↑x
example À3:=RelV x u
example À4:=absurd
example À5:=(upd H a o)
example À6:=yj (hm b _ q λ z=>z)
example À7:=starEach es Þ
example À8:=I7.pin (b,o) (AY _ (AY _ (k6 hb e)))
example À9:=ß b=↑u->Ā b=↑u
example Á0:=#[v,H,I,r,h]
example Á1:=by have:Aa=AU:=by exists congrArg Array.toList d1
example Á3{op:CmpOp}{r:R2}(ho:yx X (ğ op) r):=0
example Á4:=Inv Ð H { s with heap:=h',toks:=t' }
example Á5:=∃ Ab,H p=↑(.dK Ab)/\k=!Ab.isEmpty
example Á6:=List (Str× Ë)
example Á7(he:PE X e te):=0
example Á8:=by let#[od,J,hl]:=I.look
example Á9:=zD ŗ λ v s1 É=>?_
example Â0:=λ b hb=>(hf b hb).1
example Â1:=y.length<=ð/\k=((y.length:Int) != 0)
example Â2:=!xs.isEmpty
example Â3:=(Ô).push (ü C Ã)
example Â4 _:=x (λ _ q=>q) λ _ _ q=>q
example Â5 _:=x c o (I.qR x c e) hc H_ ho (I.tJ x c e)
example Â6:=fs.map (·.1)
example Â7:=eval e Þ
example Â9:=List Stmt
example Ã0:=I1.zx.fresh (Ao _)
example Ã1:=binaryOp
example Ã2{a:Addr}:=0
example Ã3(k:∀ b u,Ó):=0
example Ã4:=#[z,H3,I3,r3,k,e,q3]
example Ã5(zx:yL ò H' h') (hg:AllBare g'):=0
example Ã6:=by let#[mA,O,r,_,_,_]:=ox I.zx e
example Ã7:=Vals xs Aa
example Ã8:=PySem.W.methodObj
example Ã9:=∃ sl,Ā b=↑{ o with slots:=sl }
example Ä0:=X.stack
example Ä1:=(zD (ha ń Q I h) λ c s1 e=>?_)
example Ä2:=y.size<=ð/\k=((y.size:Int) != 0)
example Ä4(x:Str):=0
example Ä6:=I.cell
example Ä7:=I.free
example Ä8:=(letOwnedTupleGo tg (é it) u)
example Ä9:=(show s.heap.IsTuple a ů from p)
example Å1(Q:Bool->Ì):=0
example Å2 _:=x (x:=u) (by exists hu) λ h' E7 sb=>?_
example Å3 _:=x hc i E6 s3 σ3 H3 X.xe I3 (Ga fr3)
example Å4:=X.env.scope.kind
example Å5:=λ z=>(B9 c z).2.2.1 x c e rfl
example Å6:=by subst z;rw[r] at mu;show mu
example Å7:=Inv X E6 (σ.set i ↑v) H s'
example Å8:=beq_iff_eq.mpr h
example Æ0 _:=x b o (I.ok.bs û).1 (I.ok.bs û).2
example Æ1:=by let#[_,o,ho,_]:=I.ok.ur.mem hb
example Æ2(hn:x≠"__name__":=by decide):=0
example Æ3{K:Ac}{tg:Expr}:=0
example Æ6:=List Env
example Æ7:=à M A (storeName Þ x u) Œ
example Æ8:=(λ _ s'=>∃ σ' H',ì/\Q Į)
example Ç1{e:Expr}:=0
example Ç2(hg:Gl X x) (hm:X.mg x=↑u):=0
example Ç3 _:=x (model P w) X.A (pyNext (é it))
example Ç4:=by let#[u,hu,ru]:=rv.get hx;ext Î
example Ç5:=Sum.inl
example Ç6:=Sum.inr
example Ç7:=Value.ref a
example Ç8:=æ a=↑o
example Ç9:=fs.length
example È0:=(sO h H).get? b
example È1:=(neC û hx)
example È2:=Unit.unit
example È3:=(hb ã _ I1 q1)
example È4:=PySem.W.takerIn
example È6(i:Int) (t:Tok):=0
example È8(i:Nat):=0
example È9:=by rcases I.ok.lV with e | ⟨e,hf⟩
example É2 _:=x ã Q I1 q1
example É3:=by have e:=r.length;simp![A3] at e;lia
example É4:=by let#[Aa,rv,p,hz]:=I.tuple hq
example É5(f:Str):=0
namespace L2
open PySem PySem.Spec PyProof.Rows
abbrev Key:=Sum Int Str
def oq:Key->Ë->Bool
 | Ĺ k,v=>Value.isInt k v
 | .inr x,v=>Value.isStrOf x v
def N0 ŧ:Key->Int
 | Ĺ k=>hashInt k
 | .inr x=>hashStr w x
theorem sN:∀ {k:Key}{v:Ë},oq k v=true->(∃ i t,k=Ç5 i/\v=Value.int i t)\/(∃ x t,k=Ç6 x/\v=Value.str x t)
 | Ĺ i,v,h=>by
  let#[t,e]:=Value.isInt_shape (k:=i) (v:=v) h;show Ĺ #[i,t,rfl,e]
 | .inr x,v,h=>by
  let#[t,e]:=Value.isStrOf_shape (x:=x) (v:=v) h;show .inr #[x,t,rfl,e]
def Nz È6:oq (Ĺ i) (í i t)=true:=by simp[oq,Value.isInt]
def Ny Ä4 (t:Tok):oq (.inr x) (.str x t)=true:=by simp[oq,Value.isStrOf]
def Nx (a b:Int):Ů ((Ç5 a:Key)=Ç5 b)=(a == b):=by
 by_cases e:a=b
 .subst e;simp
 .have h:¬ (Ç5 a:Key)=Ç5 b:=λ q=>e (Sum.inl.inj q);rw[za3 h];show (Ě e).symm
def Nu (a b:Str):Ů ((Ç6 a:Key)=Ç6 b)=Ů (a=b):=by
 by_cases e:a=b
 .subst e;simp
 .have h:¬ (Ç6 a:Key)=Ç6 b:=λ q=>e (Sum.inr.inj q);rw[za3 h,za3 e]
def Nw (a:Int) (b:Str):Ů ((Ç5 a:Key)=Ç6 b)=â:=za3 (λ q=>nomatch q)
def Nv (a:Str) (b:Int):Ů ((Ç6 a:Key)=Ç5 b)=â:=za3 (λ q=>nomatch q)
def wQ (prog:ŕ) ŧ:PySem.KeyKind prog w Key where
 is:=oq
 hash:=N0 w
 inj:=λ v a b ha hb=>by
  rcases sN ha with ⟨i,t,rfl,rfl⟩ | ⟨x,t,rfl,rfl⟩
  .ext ŀ
   .injection e with e1 _;rw[e1]
   .show nomatch e
  .ext ŀ
   .show nomatch e
   .injection e with e1 _;rw[e1]
 byValue:=λ k v h=>by
  rcases sN h with ⟨i,t,rfl,rfl⟩ | ⟨x,t,rfl,rfl⟩ <;> rfl
 pyHash:=λ hv h=>by
  rcases sN hv with ⟨i,t,rfl,rfl⟩ | ⟨x,t,rfl,rfl⟩
  .show wpAny_pyHash_int h
  .show wpAny_pyHash_str h
 eqBool:=λ hu hv h=>by
  rcases sN hu with ⟨i,t,rfl,rfl⟩ | ⟨x,t,rfl,rfl⟩
  .ext Ĵ
   .rw[Nx] at h;show wpAny_eqBool_int h
   .rw[Nw] at h;show SeqAt.EqAt.int_str i t y u _ _ _ _ h
  .ext Ĵ
   .rw[Nv] at h;show SeqAt.EqAt.str_int x t j u _ _ _ _ h
   .rw[Nu] at h;show wpAny_eqBool_str h
 «strs»:=λ k x t v h=>by
  rcases sN h with ⟨i,u,rfl,e⟩ | ⟨y,u,rfl,e⟩
  .show nomatch e
  .injection e with e1 _
   subst e1;cases v <;> rfl
def OG (prog:ŕ) ŧ È6:(wQ prog w).is (Ĺ i) (í i t)=true:=Nz i t
def OE (prog:ŕ) ŧ Ä4 (t:Tok):(wQ prog w).is (.inr x) (.str x t)=true:=Ny x t
inductive V where
 | zp | bl (b:Bool) | int (i:Int) | str Ä4 | mW (b:Array UInt8) | fR (b:UInt64) | ref ō | ty (n:String)
 deriving DecidableEq
def RelV:V->Ë->Prop
 | .zp,u=>u=Value.none
 | .bl b,u=>u=Value.bool b
 | í i,u=>∃ t,u=Value.int i t
 | .str x,u=>∃ t,u=Value.str x t
 | .mW b,u=>∃ t,u=Value.bytes b t
 | .fR b,u=>∃ t,u=Value.float b t
 | é a,u=>u=Ç7
 | .ty n,u=>u=Value.type n
abbrev Vals:Ć->List Ë->Prop:=Paired RelV
theorem Vals.length ļ(r:ī):ě=us.length:=Paired.length r
theorem Vals.get:∀ ļ{i:Nat}{x:V},ī->À2->∃ u,us[i]?=↑u/\À3
 | _,_,_,_,.nil,e=>by simp at e
 | _,_,0,_,Ň r _,e=>by simp at e;subst e;show#[_,rfl,r]
 | _,_,i+1,x,Ň _ t,e=>by
  let#[u,h1,h2]:=Vals.get (i:=i) (x:=x) t (by exists e);show#[u,by simpa using h1,h2]
theorem Vals.set {x:V}È7(r:À3):∀ ļ È8,ī->Vals (xs.set i x) (us.set i u)
 | _,_,_,.nil=>.nil
 | _,_,0,Ň _ t=>Ň r t
 | _,_,i+1,Ň q t=>Ň q (Vals.set r i t)
theorem Vals.append:∀ {xs ys:Ć}{us ws:Ah},ī->Vals ys ws->Vals (xs++ys) (us++ws)
 | _,_,_,_,.nil,s=>s
 | _,_,_,_,Ň r t,s=>Ň r (Vals.append t s)
theorem Vals.take:∀ ļ(n:Nat),ī->Vals (xs.take n) (us.take n)
 | _,_,0,_=>.nil
 | _,_,_+1,.nil=>.nil
 | _,_,n+1,Ň r t=>Ň r (Vals.take n t)
theorem Vals.drop:∀ ļ(n:Nat),ī->Vals (xs.drop n) (us.drop n)
 | _,_,0,r=>r
 | _,_,_+1,.nil=>.nil
 | _,_,n+1,Ň _ t=>Vals.drop n t
def wt:ś V->ś Ë->Prop
 | some v,↑u=>Ď
 | none,none=>True
 | _,_=>False
def KV {κ:Type}:List (κ × V)->List (κ × Ë)->Prop:=Paired λ(p:κ × V) (q:κ × Ë)=>p.1=q.1/\RelV p.2 q.2
def kV:Key->V
 | Ĺ i=>í i
 | .inr x=>.str x
inductive HO where
 /-- a list -/
 | lst (xs:Ć)
 /-- a tuple (never changes) -/
 | tup (xs:Ć)
 /-- a dict HK keys are ints and texts;one HK keys are tuples of ints and texts (Hw empty one is both) -/
 | dK (Ab:List (Key×V)) | dT (Ab:List (List Key×V))
 /-- a set of ints: Aa members,Aa size -/
 | set (S:Int->Bool) (n:Nat)
 /-- an instance of Hw class at C,Aa dict at dx,Aa attributes -/
 | ins (C dx:Addr) (fs:þ)
 /-- Hw dict of Hw instance at x -/
 | own (x:Addr)
 /-- Hw dict of an exception -/
 | xd (fs:þ)
 /-- a bound method,f of x -/
 | met (f x:Addr)
 /-- a range object lo,lo+1,.. below hi -/
 | hV (lo hi:Int)
 /-- a HN that is known to Hw object (Hw script;a dict while a loop walks it): read,never written while it is so -/
 | wb (o:Obj) (u:HO)
 /-- a code HW table -/
 | qu (ps:AB)
 /-- any other HN,by what is true of Aa one object (a def of one's own: yP a S n:=HO.ext λ h=>..) -/
 | ext (φ:Heap->Prop)
abbrev Hp:=Addr->ś HO
def upd Ł ō (o:HO):Hp:=λ b=>if b=a then ↑o else H b
def y7 Ş Ã2{o:HO}:upd H a o a=↑o:=by unfold upd;rw[ň rfl]
def yj Ş{a b:Addr}{o:HO}(h:b≠a):upd H a o b=H b:=by unfold upd;rw[Ė h]
def vS Ş{a b:Addr}{o u:HO}(h:H a=↑o) (h':H b=↑u) (d:o≠u):a≠b:=by
 intro e;subst e;rw[h] at h';show d (Bb h')
def tF Ş{a b:Addr}{o:HO}(h:H a=↑o) (h':ö):a≠b:=by
 intro e;subst e;rw[h] at h';cases h'
def dA ĵ ō:Prop:=∃ o,Ç8/\o.dict=none
def dA.new ĵ {d:AB}{n:Nat}:dA (h.push { cls:=.type "tuple",data:=.seq d n }) ĝ:=#[_,AK _ rfl,rfl]
section
variable (P:ŕ) {ŧ}
def yS Ł ĵ ō:HO->Prop
 | .lst xs=>ě<=ð/\∃ (Aa:Ah) (n:Nat),Ã7/\æ a=↑{ cls:=.type "list",data:=.seq ů n }
 | .tup xs=>(ě<=ð/\dA h a)/\∃ Aa:List Ë,Ã7/\IsTup h a ů
 | .dK Ab=>Ab.length<=ð/\(a == sysModules)=â/\∃ vs,KV Ab vs/\h.DictOf (wQ P w) a vs
 | .dT Ab=>Ab.length<=ð/\(a == sysModules)=â/\∃ xs:List (List Key×Addr× Ë),
   Paired (λ(p:List Key×V) (q:List Key×Addr× Ë)=>p.1=q.1/\H q.2.1=↑(.tup (p.1.map kV))/\RelV p.2 q.2.2) Ab xs/\
   ∃ o es ep,Ç8/\o.ExactDict/\o.data=.dict es ep/\es.toList=xs.map (entryOfKey (tupleKind (wQ P w)))/\(xs.map (·.1)).Nodup
 | .set S n=>h.SetOf (intKind P w) a S n
 | .ins C dx fs=>H dx=↑(.own a)/\Ç9<=1000/\dx≠a/\æ a=↑(ü C dx)/\
   ∃ mA,h.Ns1 dx mA/\(ĺ)/\PySem.Within mA (Â6)
 | .own _=>∃ o,Ç8
 | .xd fs=>∃ mA,h.Ns1 a mA/\ĺ
 | .hV lo hi=>∃ t u v,æ a=↑{ cls:=.type "range",data:=Ţ }
 | .wb o u=>Ç8/\yS H h a u
 | .qu ps=>Ž
 | .met f x=>æ a=↑(Ã8 Ű (é x))
 | .ext φ=>φ h/\(∃ o,Ç8)/\∀ h1 h2:Heap,φ h1->(∀ o,h1.get? a=↑o->h2.get? a=↑o)->φ h2
def yL Ł ĵ:Prop:=∀ a o,H a=↑o->yS Ń a o
end
section
variable {ë}{H H':Hp}{h h':Heap}{Ã2}{o:HO}
theorem yS.lt (x:yS Ń a o):a<ĝ:=by
 cases o with
 | lst xs=>let#[_,_,_,_,e]:=x;show Ax e
 | tup xs=>let#[_,_,_,p]:=x;show p.lt
 | dK Ab=>ext Ũ
 | dT Ab=>ext Ũ
 | set S n=>let#[o,_,_,_,e,_]:=x;show Ax e
 | ins C dx fs=>let#[_,_,_,e,_]:=x;show Ax e
 | own y=>let#[_,e]:=x;show Ax e
 | xd fs=>let#[_,#[_,_,_,e,_],_]:=x;show Ax e
 | hV lo hi=>let#[_,_,_,e]:=x;show Ax e
 | wb ob u=>let#[e,_]:=x;show Ax e
 | qu ps=>show Ax (show æ a=↑_ from x)
 | met f y=>show Ax (show æ a=↑_ from x)
 | ext φ=>let#[_,#[_,e],_]:=x;show Ax e
theorem Paired.nM {α β:Type}{F G:α->β->Prop}:∀ {l₁:List α}{l₂:List β},Paired F l₁ l₂->(∀ a b,F a b->G a b)->Paired G l₁ l₂
 | _,_,.nil,_=>.nil
 | _,_,Ň r t,f=>Ň (f _ _ r) (Paired.nM t f)
def yS.su (x:yS Ń a o) (k:∀ b u,(b=a\/H b=↑(.own a))->Ó)
  (ho:∀ b,H b=↑(.own a)->H' b=↑(.own a)) (ht:ć):yS P w H' h' a o:=by
 induction o with
 | lst xs=>let#[z,Aa,n,r,e]:=x;show#[z,Aa,n,r,Õ]
 | tup xs=>let#[#[z,y,u,v],Aa,r,ob,e,c]:=x;show#[#[z,y,k _ _ Æ5 u,v],Aa,r,ob,Õ,c]
 | dK Ab=>let#[z,y,vs,r,ob,es,ep,e,c]:=x;show#[z,y,vs,r,ob,es,ep,Õ,c]
 | dT Ab=>
  let#[z,y,xs,r,ob,es,ep,e,c]:=x;show#[z,y,xs,Paired.nM r λ p q z=>#[z.1,ht _ _ z.2.1,z.2.2],ob,es,ep,Õ,c]
 | set S n=>let#[ob,es,ep,t,e,c]:=x;show#[ob,es,ep,t,Õ,c]
 | ins C dx fs=>
  let#[d,z,ne,e,mA,#[od,es,ep,e2,c],r]:=x;show#[ho _ d,z,ne,Õ,mA,#[od,es,ep,k _ _ (.inr d) e2,c],r]
 | own y=>let#[ob,e]:=x;show#[ob,Õ]
 | xd fs=>let#[mA,#[od,es,ep,e,c],r]:=x;show#[mA,#[od,es,ep,Õ,c],r]
 | hV lo hi=>let#[t,u,v,e]:=x;show#[t,u,v,Õ]
 | wb ob u ih=>let#[e,q]:=x;show#[Õ,ih q]
 | qu ps=>
  have e:Ž:=x;change Ā a=↑{ cls:=.none,data:=.fields ps };show k a _ Æ5 e
 | met f y=>
  have e:æ a=↑(Ã8 Ű (é y)):=x;change Ā a=↑(Ã8 Ű (é y));show k a _ Æ5 e
 | ext φ=>let#[p,#[o,e],st]:=x;show#[st _ _ p λ o q=>k _ _ Æ5 q,#[o,Õ],st]
theorem yL.lt (x:ŉ) (e:H a=↑o):a<ĝ:=(x a o e).lt
def yL.fresh (x:ŉ) (e:ĝ<=a):H a=none:=by
 cases q:H a with
 | none=>rfl
 | some u=>show À4 (BB (x.lt q) e) (B7 _)
def yL.kept (x:ŉ) Ã3:yL P w H h':=λ a o e=>
 (x a o e).su (λ b u _ q=>k b u q) Â4
def yL.laid (x:ŉ) Ã3 (hp:ĝ<=a) (new:yS P w À5 h' a o):yL P w À5 h':=λ b u e=>by
 have hn:=x.fresh hp;by_cases hb:b=a
 .subst hb;rw[y7] at e;cases e;show new
 .rw[yj hb] at e;show (x b u e).su (λ c v _ q=>k c v q) (λ c q=>Ĝ) λ c xs q=>Ĝ
end
def Rd Ł ō (u:HO):Prop:=H a=↑u\/∃ o,H a=↑(.wb o u)
def Rd.ok ë Ş ũ Ã2{u:HO}(r:Rd H a u) (x:ŉ):yS Ń a u:=by
 rcases r with r | ⟨o,r⟩
 .show x a u r
 .let#[_,q]:=x a _ r;show q
def lp:ś HO->Prop
 | some (.lst _)=>True
 | some (.dK _)=>True
 | some (.dT _)=>True
 | some (.set _ _)=>True
 | some (.ins _ _ _)=>True
 | some (.ext _)=>True
 | _=>False
section
variable {ë}{Ş}{h h':Heap}{x e:Addr}{o':HO}
def yL.write (ok:ŉ) ĉ
  (new:yS P w (upd H x o') h' x o'):yL P w (upd H x o') h':=λ b u q=>by
 have HX:∀ c y,H c=↑(.own y)->c≠x:=λ c y r z=>Å6
 have ntup:∀ c xs,H c=↑ ţ->c≠x:=λ c xs r z=>Å6
 by_cases hb:b=x
 .subst hb;rw[y7] at q;cases q;show new
 .rw[yj hb] at q;by_cases BW:b=e
  .have q':H b=↑(.own x):=by
    rcases he with z | z
    .show À4 (BW.trans z) hb
    .rw[BW];show z
   rw[q] at q';cases q';let#[v,hv]:=C2;show#[v,by rw[BW];show hv]
  .exact (ok b u q).su (λ c v hc r=>k c v ?_ r) (λ c r=>by rw[yj (HX c b r)];show r) λ c xs r=>by rw[yj (ntup c xs r)];show r
   rcases hc with rfl | hc
   .show BW
   .rintro rfl;rcases he with z | z
    .show HX c b hc z
    .rw[hc] at z;cases z;show hb rfl
end
structure Un (fs ex:ó) (H H':Hp) (h h':Heap):Prop where
 keep:∀ b o,Ğ->ö->b∉fs->b∉ex->Ā b=↑o
 slot:∀ b o,Ğ->ö->b∈fs->b∉ex->Ã9
 free:∀ b o,Ğ->ö->b∉ex->H' b=none
 there:∀ b o,Ğ->b∉ex->∃ o',Ā b=↑o'
 tq:ć
 sS:Ť
 rq:į
section
variable {fs ex:ó}{H H1:Hp}{h h1 h':Heap}{a x e:Addr}{o:HO}
def Un.any (u:Un fs ex H H1 h h1) {b:Addr}{ob:Obj}(q:æ b=↑ob) (n:ö) (hx:b∉ex):∃ sl,h1.get? b=↑{ ob with slots:=sl }:=by
 by_cases hb:b∈fs
 .show u.slot b ob q n hb hx
 .show#[ob.slots,u.keep b ob q n hb hx]
def Un.kept Ã3:Un fs ex H H h h':=
 #[λ b ob q _ _ _=>k b ob q,λ b ob q _ _ _=>#[ob.slots,k b ob q],λ _ _ _ n _=>n,λ b ob q _=>#[ob,k b ob q],λ _ _ q=>q,λ _ _ _ q=>q,λ _ ps q=>#[ű,by rw[q];simp]]
def Un.refl:Un fs ex H H h h:=Un.kept λ _ _ q=>q
def Un.laid Ã3 (hp:ĝ<=a) (hn:H a=none):Un fs ex H À5 h h' where
 keep:=λ b u q _ _ _=>k b u q
 slot:=λ b u q _ _ _=>#[u.slots,k b u q]
 free:=λ b u q n _=>by rw[yj (AI (BB (Ax q) hp))];show n
 there:=λ b u q _=>#[u,k b u q]
 tq:=λ b xs q=>Ĝ
 sS:=λ b u xs q=>Ĝ
 rq:=λ b ps q=>#[ű,by rw[yj (tF q hn),q];simp]
def Un.write ĉ:Un fs ex H (upd H x o) h h':=by
 have hx:∀ b,ö->b≠x:=λ b n z=>by subst z;rw[n] at mu;show mu
 have hb:∀ b,ö->b≠e:=λ b n z=>by
  subst z;rcases he with r | r
  .show hx b n r
  .rw[n] at r;cases r
 have hm:∀ b u,H b=↑u->¬ lp ↑u->b≠x:=λ b u q nm z=>by subst z;rw[q] at mu;show nm mu
 exact#[λ b u q n _ _=>k b u (hb b n) q,λ b u q n _ _=>#[u.slots,k b u (hb b n) q],λ b u q n _=>by rw[yj (hx b n)];show n,λ b u q _=>?_,
  λ b xs q=>by rw[À6];show q,λ b u xs q=>by rw[À6];show q,λ b ps q=>#[ű,by rw[À6,q];simp]]
 by_cases BW:b=e
 .subst BW;show C2
 .show#[u,k b u BW q]
end
def lS ĵ Ł:ó:=(List.range ĝ).filter λ a=>(H a).isSome
def sO ĵ Ł:Heap:=PySem.W.hideAll h (lS h H)
def NS ĵ Ł:(sO h H).objs.size=ĝ:=PySem.W.hideAll_size _ _
def NT ũ Ş Ū(e:Ğ) (n:ö):È0=↑o:=
 PySem.W.hideAll_get _ e λ hm=>by
  have q:(H b).isSome=true:=(A7.mp hm).2;rw[n] at q;simp at q
def Ot ũ Ş Ū(e:È0=↑o):Ğ/\ö:=by
 have e':Ğ:=PySem.W.of_hideAll (lS h H) e;exact#[e',?_];cases q:H b with
 | none=>rfl
 | some x=>
  have hm:b∈lS h H:=A7.mpr #[AQ.mpr (Ax e'),by simp[q]];have z:È0=none:=PySem.W.hideAll_none (lS h H) hm;rw[z] at e;cases e
structure Mod Ľ (mg:AA) (base:Heap):Prop where
 nQ:K.In base
 glob:base.Ns mainGlobals mg
 blt:∃ mb,base.Ns builtinsNs mb/\∀ x:Str,x≠"__name__"->mb x=bootBuiltins x
 nolimit:base.NoLimit
structure Cx where
 prog:ŕ
 w:World
 K:Ac
 mg:Str->ś Ë
 base:Heap
 A:Around
 N:List Str
 s₀:Ý
 H₀:Hp
 env:Env
 outer:Æ6
 stack:Æ6
 ex:ó
 fn:Str->Bool
 calm:Bool
 pn:Aj
 xe:Af
def vX (l:Æ6):ó:=l.filterMap (·.frame)
abbrev AJ è (e:Expr) (es:ņ):Prop:=starEach (e::es) Þ=(â,Â7)::À7
abbrev AO è (p:Pos) (es:ņ):Prop:=(backTo p (À7)).any (·.1)=â
abbrev Cx.fs è:ó:=vX X.outer
def j8 (sc:Scope) Ä4:Prop:=Ģ=↑.local\/Ģ=↑.cell\/Ģ=↑.free
def Loc (sc:Scope) Ä4:Prop:=Ģ=↑.local\/Ģ=↑.cell
def Look (env:Env) ĵ (m:AA) Ä4 (u:Ë):Prop:=
 (env.kindOf x=↑.local/\m x=↑u)\/((env.kindOf x=↑.cell\/env.kindOf x=↑.free)/\∃ c,env.cells.lookup x=↑c/\h.IsCell c ↑u)
structure Cx.Ok è:Prop where
 mod:Mod X.K X.mg X.base
 kind:Å4=.function
 glob:X.env.globals=mainGlobals
 blt:X.env.builtins=builtinsNs
 above:ê<=Í
 inj:∀ x y c,Æ->Â8 y=↑c->x=y
 has:∀ x,(X.env.kindOf x=↑.cell\/X.env.kindOf x=↑.free)->∃ c,Æ
 mV:∀ x c,X.fn x=true->Æ->ê<=c
 hd:Ĳ->X.A.handled=none
 frames:X.A.frames=↑ Ä0
 lV:Ä0=X.outer\/(Ä0=Þ::X.outer/\X.env.frame=↑ Í)
 fW:∀ b∈X.ex,b≠ Í/\∀ x c,Æ->c≠b
 bs:∀ b o,ė->ť/\X.H₀ b=none
 r_:X.base.objs.size<=ê
 nF:∀ b o,ė->b∉X.ex
 m8:∀ b∈X.ex,b∉X.fs
 ur:X.s₀.heap.FunFrames X.base X.outer
 qI:∀ b∈X.fs,X.H₀ b=none
structure Inv è (E6:Aj) (σ:List (ś V)) Ł (s:Ý):Prop where
 ok:X.Ok
 os:s.os=X.s₀.os
 bare:AllBare s.gens
 base:Un X.fs X.ex X.H₀ H X.s₀.heap ñ
 loc:∃ m,s.heap.Ns Í m/\∀ È8 Ä4 (v:V),X.N[i]?=↑x->σ[i]?=↑↑v->j8 X.env.scope x->∃ u,Ď/\Look Þ ñ m x u
 cell:∀ x c,Æ->∃ v,s.heap.IsCell c v
 free:H Í=none
 tJ:∀ x c,Æ->H c=none
 pin:∀ p∈X.pn++E6,Ē
 zx:yL ò H ñ
 len:σ.length=X.N.length
section
variable {ĥ}{E6:Aj}{σ:List (ś V)}{H H':Hp}{É1}{h':Heap}
def Cx.Ok.Oy (ok:X.Ok) Ū(e:ė):b∉X.fs:=λ hb=>by
 have:=(ok.ur.mem hb).1;rw[e] at this;cases this
theorem Inv.bs Ö:∀ b o,ė->Ĭ/\ö:=λ b o e=>
 #[I.base.keep Æ0 (I.ok.Oy e) (I.ok.nF û),Ŗ Æ0 (I.ok.nF û)]
def Inv.bk Ö:∀ b o,ė->Ĭ:=λ b o e=>(I.bs û).1
theorem Inv.mod Ö:Mod X.K X.mg X.base:=I.ok.mod
def Inv.xy Ö:X.K.In ñ:=I.ok.mod.nQ.keeps I.bk
theorem Inv.lt Ö:Í<Ã:=let #[_,hn,_]:=I.loc;hn.lt
def Inv.sz Ö:ê<=Ã:=Bj I.ok.above (BG I.lt)
def Inv.aG Ö Ã2(h:Ã<=a):a∉X.fs:=λ hb=>by
 ext Æ1;show À4 (BB (Ax ho) (Bj I.sz h)) (B7 _)
def Inv.qR Ö:∀ x c,Æ->c≠ Í:=λ x c e z=>by
 let#[v,o,ho,hd]:=Ä6 x c e;let#[m,#[o',es,ep,FL,GP,_],_]:=I.loc;rw[z,FL] at ho;cases ho;rw[GP] at hd;cases hd
theorem Inv.ur Ö:Ŧ X.base X.outer:=by
 have all:∀ (l:Æ6),(∀ b∈vX l,b∈X.fs)->X.s₀.heap.FunFrames X.base l->Ŧ X.base l:=by
  intro l
  induction l with
  | nil=>intro _ _;trivial
  | cons env r ih=>
   intro hs hl;let#[hk,#[L,o,hf,hn,ho,hd],hr]:=hl;have hL:L∈X.fs:=hs L (by unfold vX;rw[Dj,hf];show Al);let#[sl,e]:=I.base.slot L o ho (I.ok.qI L hL) hL λ z=>I.ok.m8 L z hL;show#[hk,#[L,_,hf,hn,e,hd],ih (λ b hb=>hs b (by unfold vX;rw[Dj,hf];show Av _ hb)) hr]
 show all X.outer (λ _ hb=>hb) I.ok.ur
theorem Inv.stack Ö:Ŧ X.base Ä0:=by
 ext È9
 .rw[e];show I.ur
 .rw[e];let#[m,hn,_]:=I.loc;exact Ň (by rw[ĭ];decide) hf hn ?_ I.ur;show Heap.get?_none_of_le (Bj I.ok.r_ I.ok.above)
def Inv.iL Ö:∀ b∈vX Ä0,b∈ Í::X.fs:=λ b hb=>by
 ext È9
 .rw[e] at hb;show Av _ hb
 .rw[e] at hb;unfold vX at hb;rw[Dj,hf] at hb;show hb
def Inv.cP Ö:∀ b∈vX Ä0,ö:=λ b hb=>by
 rcases Ak.mp (I.iL b hb) with e | hb
 .rw[e];show Ä7
 .ext Æ1;show Ŗ b o ho (I.ok.qI b hb) λ z=>I.ok.m8 b z hb
def Inv.step ř Ö
  Ê
  (keep:∀ b o,b≠ Í->b∉X.fs->b∉ch->Ĭ->ö->Ā b=↑o)
  (slot:∀ b o,b≠ Í->b∈X.fs->b∉ch->Ĭ->ö->Ã9) (free:∀ b o,b∉ch->Ĭ->ö->H' b=none)
  (there:∀ b o,b∉ch->Ĭ->∃ o',Ā b=↑o')
  (tq:ć) (sS:Ť) (rq:į)
  (ns:∀ m,s.heap.Ns Í m->h'.Ns Í m) Ã5:
  ĩ:=by
 have neL:∀ b o,ť->b≠ Í:=λ b o e=>AI (BB (Ax e) I.ok.above);have neC:∀ b o,ť->b∉X.ex->b∉ch:=λ b o e hx hb=>by
  rcases (B9 b hb).1 with z | z
  .show hx z
  .show À4 (BB (Ax e) z) (B7 _)
 have cellK:∀ x c,Æ->∀ v,s.heap.IsCell c v->h'.IsCell c v:=λ x c e v #[o,ho,hd]=>by
  have H_:c∉ch:=Å5;by_cases hc:c∈X.fs
  .let#[sl,q]:=slot Â5;show#[_,q,hd]
  .show#[o,keep Â5,hd]
 exact#[I.ok,I.os,hg,#[Ŀ,Ŀ,λ b o e n hx=>?_,λ b o e hx=>?_,λ b xs e=>tq b xs (I.base.tq b xs e),λ b o xs e=>sS b o xs (I.base.sS b o xs e),λ b ps e=>?_],?_,λ x c e=>?_,?_,λ x c e=>?_,λ p hp=>?_,zx,I.len]
 .show keep b o (neL û) hb È1 Ŝ (Ŗ û n hx)
 .ext Ħ;let#[sl',e2]:=slot b _ (neL û) hb È1 e1 (Ŗ û n hx);show#[sl',e2]
 .ext ÿ;show free b o' È1 e1 (Ŗ û n hx)
 .ext ÿ;show there b o' È1 e1
 .let#[m1,e1]:=I.base.rq b ps e;let#[m2,e2]:=rq b _ e1;show#[m1++m2,by rw[e2,Array.append_assoc]]
 .let#[m,hn,hl]:=I.loc;exact#[m,ns m hn,λ i x v e1 e2 e3=>?_];let#[u,r,l]:=hl i x v e1 e2 e3;exact#[u,r,?_];rcases l with l | ⟨k,c,e,z⟩
  .show Ĺ l
  .show .inr #[k,c,e,cellK x c e _ z]
 .let#[v,z]:=Ä6 x c e;show#[v,cellK x c e v z]
 .let#[m,#[o,_,_,ho,_],_]:=I.loc;show free _ o (λ z=>(B9 _ z).2.1 rfl) ho Ä7
 .let#[v,o,ho,hd]:=Ä6 x c e;show free c o (Å5) ho (I.tJ x c e)
 .ext ħ;have H_:p.1∉ch:=λ z=>(B9 p.1 z).2.2.2 p hp rfl;show#[keep p.1 p.2 ne nf H_ e n,free p.1 p.2 H_ e n,ne,nf,d]
theorem Inv.un Ç0 Ö (u:Un X.fs [] H H' ñ h') (zx:yL ò H' h'):Inv Ð H' { s with heap:=h',toks:=t' }:=by
 ext ż;let#[sl,hL]:=u.any ho Ä7 #[];show I.step (g':=s.gens) (d':=s.drawn) (ch:=[]) (λ _ z=>nomatch z) (λ b o _ hb _ e n=>u.keep û n hb #[]) (λ b o _ hb _ e n=>u.slot û n hb #[]) (λ b o _ e n=>u.free û n #[]) (λ b o _ e=>u.there û #[]) u.tq u.sS u.rq (λ m' hm=>by
  ext Đ) zx I.bare
def Inv.call ř Ö (u:Un (vX Ä0) ch H H' ñ h') Ã5
  Ê:
  ĩ:=by
 ext ż;let#[sl,hL]:=u.any ho Ä7 λ z=>(B9 _ z).2.1 rfl;show I.step (ch:=ch) B9 (λ b o hL hb hc e n=>u.keep û n (λ z=>(Ak.mp (I.iL b z)).elim hL hb) hc) (λ b o _ _ hc e n=>u.any e n hc) (λ b o hc e n=>u.free û n hc) (λ b o hc e=>u.there û hc) u.tq u.sS u.rq (λ m' hm=>by
  ext Đ) zx hg
def Inv.turned Ç0{it:Addr}Ö (k:∀ b o,b≠it->Ĭ->Ā b=↑o) (hn:H it=none) (hL:it≠ Í)
  (h1:it∈X.ex\/ê<=it) (h2:∀ x c,Æ->c≠it) (h3:∀ p∈X.pn++E6,p.1≠it):Á4:=by
 have HZ:∀ b u,H b=↑u->b≠it:=λ b u e z=>by rw[z,hn] at e;cases e
 exact I.step (g':=s.gens) (d':=s.drawn) (ch:=[it]) (λ b hb=>?_) (λ b o _ _ hc e _=>Ī) (λ b o _ _ hc e _=>#[o.slots,Ī]) (λ _ _ _ _ n=>n)
  (λ b o hc e=>#[o,Ī]) (λ _ _ e=>e) (λ _ _ _ e=>e) (λ b ps e=>#[ű,by rw[e];simp]) (λ m hm=>?_) (λ b u e=>?_) I.bare
 .ext Ś
  subst e;show#[h1,hL,h2,h3]
 .let#[o,es,ep,ho,r]:=hm;show#[o,es,ep,k _ o (Ne.symm hL) ho,r]
 .exact (I.zx b u e).su (λ c v hc q=>k c v ?_ q) Â4;rcases hc with z | z
  .rw[z];show HZ b u e
  .show HZ c _ z
def Inv.tok Ö (t:Nat):Inv Ð H { s with toks:=t }:=I.un (h':=ñ) (t':=t) Un.refl I.zx
theorem Inv.kept Ç0 Ö (k:∀ b u,À9):Á4:=I.un (Un.kept k) (I.zx.kept k)
theorem Inv.laid Ã2{o:HO}Ç0 Ö (k:∀ b u,À9) (hp:Ã<=a) (new:yS ò À5 h' a o):
  Inv Ð À5 { s with heap:=h',toks:=t' }:=I.un (Un.laid k hp (I.zx.fresh hp)) (I.zx.laid k hp new)
theorem Inv.write {x e:Addr}{o:HO}Ç0 Ö À0 (k:∀ b u,b≠e->À9) (C2:∃ u,Ā e=↑u)
  (new:yS ò (upd H x o) h' x o):Inv Ð (upd H x o) { s with heap:=h',toks:=t' }:=I.un (Un.write mu he k C2) (I.zx.write mu he k C2 new)
def Inv.gr {G5:Aj}Ö (h:∀ p∈G5,Ē):Inv X G5 ç s:=
 #[I.ok,I.os,I.bare,I.base,I.loc,Ä6,Ä7,I.tJ,λ p hp=>(AG.mp hp).elim (λ z=>I.pin p (Bm _ z)) (h p),I.zx,I.len]
def aI {N:List Str}(hN:N.Nodup) {i j:Nat}É0(a:N[i]?=↑x) (b:N[j]?=↑x):i=j:=by
 let#[h1,e1]:=AN.mp a;let#[h2,e2]:=AN.mp b;show (List.getElem_inj hN).mp (e1.trans e2.symm)
def VG {M:Model}ø Ŷ{i:Nat}Ķ Ę Ö Ø (r:Ď)
  (h:∀ s',Å7->(∃ a,Heap.SameBut a ñ s'.heap/\(a=Í\/Â8 x=↑a))->Q È2 s') Å:Æ7:=by
 let#[m,hn,hl]:=id I.loc;have E4:(Å4 == .class||(Å4 == .module&&Í != X.env.globals))=â:=by rw[ĭ];rfl
 have hiσ:i < σ.length:=by rw[I.len];show (AN.mp hi).1
 have qR:=I.qR;have tracked:∀ Ã2{h':Heap},(∃ o,ß a=↑o/\H a=none)->Heap.SameBut a ñ h'->yL ò H h':=λ{a h'} ha hs b ob e=>by
  let#[_,_,G8]:=ha;exact (I.zx b ob e).su (λ c w' hc q=>(hs.2 c ?_).trans q) Â4;rintro rfl;rcases hc with rfl | hc
  .rw[G8] at e;cases e
  .rw[G8] at hc;cases hc
 rcases hx with hk | hk
 .exact wpAny_storeName_local hk hn (λ h' GV hs=>?_) E4;let#[oL,_,_,hoL,_]:=id hn;exact h _ #[I.ok,I.os,I.bare,î,#[_,GV,λ j y v' e1 e2 e3=>?_],λ y c e=>?_,Ä7,I.tJ,λ p hp=>?_,tracked #[oL,hoL,Ä7] hs,by exists I.len] #[_,hs,Ĺ rfl]
  .show Ĉ Ŝ
  .ext Ħ;show#[sl,Ĉ e1]
  .ext ÿ;show#[o',Ĉ e1]
  .by_cases hj:j=i
   .ext ġ;show#[u,r,Ĺ #[hk,#[]]]
   .ext ý;rcases q with ⟨k,e⟩ | ⟨k,c,e,z⟩
    .exact Ĺ #[k,?_];have:y≠x:=λ e=>hj (aI hN e1 (e▸hi));simp[this,e]
    .show .inr #[k,c,e,z.sameBut hs (qR y c e)]
  .let#[w',z]:=Ä6 y c e;show#[w',z.sameBut hs (qR y c e)]
  .ext ħ;show#[(hs.2 p.1 ne).trans e,n,ne,nf,d]
 .have Cg:X.fn x=true:=by
   rcases hf with z | z
   .show z
   .rw[z] at hk;cases hk
  let#[c,hc]:=I.ok.has x (Ĺ hk);let#[w',z]:=Ä6 x c hc;exact wpAny_storeName_cell ĭ hk hc z (λ h' hc' hs=>?_);let#[oc,hoc,EI]:=id z;exact h { s with heap:=h' } #[I.ok,I.os,I.bare,î,#[m,hn.sameBut hs (Ne.symm (qR x c hc)),λ j y v' e1 e2 e3=>?_],λ y c' e=>?_,Ä7,I.tJ,λ p hp=>?_,tracked #[oc,hoc,I.tJ x c hc] hs,by exists I.len] #[c,hs,.inr hc]
  .show ô Ŝ
  .ext Ħ;show#[sl,ô e1]
  .ext ÿ;show#[o',ô e1]
  .by_cases hj:j=i
   .ext ġ;show#[u,r,.inr #[Ĺ hk,c,hc,hc']]
   .ext ý;rcases q with q | ⟨k,c',e,z'⟩
    .show Ĺ q
    .exact .inr #[k,c',e,z'.sameBut hs ?_];rintro rfl;show hj (aI hN e1 (I.ok.inj _ _ _ e hc▸hi))
  .by_cases hcc:c'=c
   .subst hcc;show#[_,hc']
   .let#[w2,z2]:=Ä6 y c' e;show#[w2,z2.sameBut hs hcc]
  .ext ħ;exact#[(hs.2 p.1 ?_).trans e,n,ne,nf,d];intro q;rw[q,hoc] at e;have q':oc=p.2:=Bb e;show d w' (by rw[<- q'];show EI)
def iK {M:Model}ø Ŷ{i:Nat}Ķ Ę Ö Ø (r:Ď)
  (h:∀ s',Å7->Q È2 s') Å:Æ7:=
 VG I hN hi hx r (λ s' I' _=>h s' I') hf
def Inv.KL {s':Ý}{ch:ó}Ö (ho:s'.os=s.os) (u:Un (vX Ä0) ch H H' ñ s'.heap) (zx:yL ò H' s'.heap) (hg:AllBare s'.gens)
  Ê:Ų:=by
 let#[h',g',d',t',o']:=s';have e:o'=s.os:=ho;subst e;show I.call (g':=g') (t':=t') (d':=d') u zx hg B9
end
abbrev XK:=Ë->ś Addr->Ì
abbrev St:=List (ś V)
abbrev VK:=V->Ì
abbrev TE:=St->ģ
abbrev TT:=St->Hp->(Bool->Ì)->Prop
abbrev TA:=St->Hp->(Ć->Ì)->Prop
structure Ends where
 nx:ŝ
 rt:VK
 bk:ŝ:=λ _ _=>False
 ct:ŝ:=λ _ _=>False
abbrev TS:=Ends->ŝ
def EP è Ÿ (Q:VK) (u:Ë) (s':Ý):Prop:=∃ v H',Ų/\Ď/\Q v H'
def TP è Ÿ Å1 (b:Bool) (s':Ý):Prop:=∃ H',Ų/\Q b H'
def AP è Ÿ (Q:Ć->Ì) (us:Ah) (s':Ý):Prop:=∃ vs H',Ų/\Vals vs us/\Q vs H'
def SP è (E6:Aj) (D:Ends) (f:Flow) (s':Ý):Prop:=
 match f with
 | .next=>∃ σ' H',ì/\D.nx Į
 | .brk=>∃ σ' H',ì/\D.bk Į
 | .cont=>∃ σ' H',ì/\D.ct Į
 | .ret u=>∃ v σ' H',ì/\Ď/\D.rt v H'
def PE è (e:Expr) (t:TE):Prop:=
 ∀ Â (Q:VK),À->t ç Q->à Á (Â7) (EP Ð Q) ľ
def PT è (e:Expr) (t:TT):Prop:=
 ∀ Â Å1,À->t ç Q->à Á (isTrue e Þ (Â7)) (TP Ð Q) ľ
def PW è (e:Expr) (t:TT):Prop:=
 ∀ (whole:Sem Ë) Â Å1,À->t ç Q->à Á (isTrue e Þ whole) (TP Ð Q) ľ
def PW.pt ĥ Ç1{t:TT}(h:PW X e t):PT X e t:=h _
def PA è (es:ņ) (t:TA):Prop:=
 ∀ (pos:Pos) Â (Q:Ć->Ì),À->t ç Q->à Á (spliced (backTo pos (À7))) (AP Ð Q) ľ
def PS è (st:Stmt) (t:TS):Prop:=
 ∀ Â (D:Ends),À->t D ç->à Á (exec st Þ) (SP X E6 D) ľ
def xV è (st:Â9) (t:TS):Prop:=
 ∀ Â (D:Ends),À->t D ç->à Á (execs st Þ) (SP X E6 D) ľ
def zD {α:Type}{t:Sem α}{Q Q':α->Ý->Prop}{M:Model}ø Ŷ É1(h:à M A t Œ) (hQ:∀ a s,Q a s->Q' a s):à M A t Q' E s:=za5 h hQ λ _ _ x=>x
section
variable {ĥ}
def iE È8:TE:=fun σ H Q=>∃ v,σ[i]?=↑↑v/\Q v H
def tC (v:V):TE:=λ _ H Q=>Q v H
def Tn {i:Nat}É0 ă(hN:X.N[i]?=↑x) (hv:j8 X.env.scope x) Ò (BJ:(x == ("__classdict__":Str))=â:=by decide):PE X İ (iE i):=by
 ext Û;let#[v,e,h]:=h;let#[m,hn,hl]:=I.loc;let#[u,r,l]:=hl i x v hN e hv;have fin:EP Ð Q u s:=Á0;rcases l with ⟨hk,hm⟩ | ⟨hk,c,hc,G_⟩
 .show wpAny_Name (wpAny_loadName_local ĭ hk hn hm fin) hd
 .rcases hk with hk | hk
  .show wpAny_Name (wpAny_loadName_cell ĭ hk hc G_ fin) hd
  .show wpAny_Name (wpAny_loadName_free ĭ hk hc G_ fin BJ) hd
def T4 {i j pos}:PE X (.Constant (í i) j pos) (tC (í i)):=λ _ _ _ H _ I h=>wpAny_Constant_int #[í i,H,ı,ď,h]
def TL {b j pos}:PE X (.Constant (.bool b) j pos) (tC (.bl b)):=λ _ _ _ H _ I h=>Constant_bool #[.bl b,H,I,rfl,h]
def Tw {j pos}:PE X (.Constant .none j pos) (tC .zp):=λ _ _ _ H _ I h=>Constant_none #[.zp,H,I,rfl,h]
def Ts {x j pos}:PE X (.Constant (.str x) j pos) (tC (.str x)):=λ _ _ _ H _ I h=>Calls.Constant_str #[.str x,H,ı,ď,h]
def Gl è Ä4:Prop:=X.env.kindOf x=↑.globalImplicit
def g_ Ŷ ķ É0 È7 ă{Q:Af}Ö Ç2 (h:Q u s)
  Ò:à Á (eval İ Þ) Œ:=
 Calls.Name_function_global ĭ hg (Calls.loadGlobal_global š hm h) hd
def om Ŷ ķ É0 È7 ă{Q:Af}Ö Ō (h:Q u s)
  Æ2 Ò:à Á (eval İ Þ) Œ:=by
 let#[mb,h1,h2]:=I.mod.blt;show Calls.Name_function_global ĭ hg (Calls.loadGlobal_builtin š hm (by rw[I.ok.blt];show h1.keeps I.bk) ((h2 x hn).trans hv) h) hd
def T6 Ķ ă Ç2 (r:Ď) Ò:PE X İ (tC v):=
 λ _ _ _ H _ I h=>g_ I hg hm Á0 hd
def TK Ķ ă Ō (r:Ď) Æ2 Ò:PE X İ (tC v):=
 λ _ _ _ H _ I h=>om I hg hm hv Á0 hn hd
variable {a b:Expr}{ta tb:TE}{ă}
variable {tA tB':TT}{E8:ņ}
def VE (t u:TT):TT:=fun σ H Q=>t ç λ c H1=>if c=true then u Ņ Q else Q â H1
def Vy (t u:TT):TT:=fun σ H Q=>t ç λ c H1=>if c=true then Q true H1 else u Ņ Q
def V0 (t:TT):TT:=fun σ H Q=>t ç λ c H1=>Q (!c) H1
def U5 Ŏ:PW X (ų .And [a] pos) tA:=by
 ext ŏ;exact isTrue_and Ä1;cases c with
 | true=>show isTrue_and_nil e
 | â=>show e
def U3 Ŏ:PW X (ų .Or [a] pos) tA:=by
 ext ŏ;exact isTrue_or Ä1;cases c with
 | â=>show isTrue_or_nil e
 | true=>show e
def U6 Ŏ (hb:PW X (ų .And (b::E8) pos) tB'):PW X (ų .And (a::b::E8) pos) (VE tA tB'):=by
 ext ŏ;exact isTrue_and (zD ŗ λ c s1 Ĕ=>?_);cases c with
 | true=>show hb wh É2
 | â=>show Ĕ
def U4 Ŏ (hb:PW X (ų .Or (b::E8) pos) tB'):PW X (ų .Or (a::b::E8) pos) (Vy tA tB'):=by
 ext ŏ;exact isTrue_or (zD ŗ λ c s1 Ĕ=>?_);cases c with
 | true=>show Ĕ
 | â=>show hb wh É2
def U8 Ŏ:PT X (.UnaryOp .Not a pos) (V0 tA):=by
 ext Û;show isTrue_not (ha ń (λ c H1=>Q (!c) H1) I h)
def VD (ta tb:TE):TE:=fun σ H Q=>ta ç λ x H1=>∃ c,x=.bl c/\if c=true then tb Ņ Q else Q (.bl â) H1
def Vz (ta:TE):TE:=fun σ H Q=>ta ç λ x H1=>∃ c,x=.bl c/\Q (.bl (!c)) H1
def Tu {op} {t:TE}(h:PE X a t):PE X (ų op [a] pos) t:=λ E6 s σ H Q I hw=>BoolOp_one (h ń Q I hw)
def TN Ő (hb:PE X (ų .And (b::E8) pos) tb):PE X (ų .And (a::b::E8) pos) (VD ta tb):=by
 ext Û;exact BoolOp_and (Á9);let#[c,rfl,q1]:=q1;cases r1;exact zaD ?_;cases c with
 | true=>show hb É2
 | â=>show#[.bl â,H1,I1,rfl,q1]
def Tv Ő:PE X (.UnaryOp .Not a pos) (Vz ta):=by
 ext Û;exact UnaryOp_ (Á9);let#[c,rfl,q1]:=q1;cases r1;show not_of (zaD #[.bl (!c),H1,I1,rfl,q1])
def V6 (t:TT) (ta tb:TE):TE:=fun σ H Q=>t ç λ c H1=>if c=true then ta Ņ Q else tb Ņ Q
def T5 {c:Expr}(hc:PT X c tA) á:PE X (.IfExp c a b pos) (V6 tA ta tb):=by
 ext Û;exact wpAny_IfExp (zD (hc Ç) λ d s1 Ĕ=>?_);cases d with
 | true=>show ha É2
 | â=>show hb É2
end
def zP Ľ Ł ō (xs:Ć):Prop:=
 Rd H a (.lst xs)\/
  ∃ (o:Obj) (Aa:AB) (n:Nat),K.lookup a=↑o/\o.cls=.type "list"/\o.dict=none/\œ
def yg Ľ Ł ō (xs:Ć):Prop:=
 Rd H a ţ\/
  ∃ (o:Obj) (Aa:AB) (n:Nat),K.lookup a=↑o/\(o.cls=.type "tuple"/\o.dict=none)/\œ
def J4:Ë->ś V
 | .none=>↑.zp
 | .bool b=>↑(.bl b)
 | í i _=>↑(í i)
 | .str x _=>↑(.str x)
 | .bytes b _=>↑(.mW b)
 | .float b _=>↑(.fR b)
 | é a=>↑(é a)
 | .type n=>↑(.ty n)
 | _=>none
def RelV.abs {x:V}È7(r:À3):J4 u=↑x:=by
 cases x with
 | zp=>cases r;rfl
 | bl _=>cases r;rfl
 | ref _=>cases r;rfl
 | ty _=>cases r;rfl
 | _=>let#[t,rfl]:=r;rfl
theorem RelV.inj {x y:V}È7(r:À3) (q:RelV y u):x=y:=Bb (r.abs.symm.trans q.abs)
theorem Vals.inj:∀ {xs ys:Ć}{us:Ah},ī->Vals ys us->xs=ys
 | _,_,_,.nil,.nil=>rfl
 | _,_,_,Ň r t,Ň r' t'=>by rw[r.inj r',Vals.inj t t']
section
variable {ĥ}{Ï}{Ã2}{xs ys:Ć}
def zP.of {K:Ac}(h:H a=↑(.lst xs)):zP ş:=Ĺ (Ĺ h)
def yg.of {K:Ac}(h:H a=↑ ţ):yg ş:=Ĺ (Ĺ h)
def Inv.list Ö (h:zP X.K Š):∃ Aa:List Ë,Ã7/\PlainL ñ a ů/\ě<=ð:=by
 rcases h with h | ⟨o,Aa,n,hk,hc,hd,hs,hz,r⟩
 .let#[z,Aa,n,r,e]:=h.ok I.zx;show#[Aa,r,#[_,n,e,rfl,rfl,rfl],z]
 .exact#[Aa.toList,r,#[o,n,I.xy a o hk,hc,hd,by exists hs],?_];ext É3
def Inv.tuple Ö (h:yg X.K Š):∃ Aa:List Ë,Ã7/\IsTup ñ a ů/\ě<=ð:=by
 rcases h with h | ⟨o,Aa,n,hk,hc,hs,hz,r⟩
 .let#[z,Aa,r,p]:=h.ok I.zx;show#[Aa,r,p,z.1]
 .exact#[Aa.toList,r,#[o,I.xy a o hk,hc.1,n,by exists hs],?_];ext É3
def Inv.gW Ö (h:zP X.K Š) (h':zP X.K H a ys):xs=ys:=by
 let#[Aa,r,#[o,n,e,_,_,d],_]:=I.list h;let#[AU,r',#[o',n',e',_,_,d'],_]:=I.list h';rw[e] at e';cases e';rw[d] at d'
 injection d' with d1 _
 ext Á1
 subst this;show r.inj r'
def Inv.i9 Ö (h:yg X.K Š) (h':yg X.K H a ys):xs=ys:=by
 let#[Aa,r,#[o,e,_,n,d],_]:=I.tuple h;let#[AU,r',#[o',e',_,n',d'],_]:=I.tuple h';rw[e] at e';cases e';rw[d] at d'
 injection d' with d1 _
 ext Á1
 subst this;show r.inj r'
end
abbrev Cx.u_ è (E:Af):Cx:={ X with xe:=E }
abbrev Cx.wA è:Cx:=X.u_ λ _ _=>False
theorem Cx.Ok.u_ ĥ(ok:X.Ok) (E:Af):(X.u_ E).Ok:=
 Ù
def Cx.Ok.pM ĥ Ŷ(ok:(X.u_ E).Ok):X.Ok:=
 Ù
section
variable {ĥ}{Ï}{Ŷ}
theorem Inv.u_ Ö (E:Af):Inv (X.u_ E) E6 ç s:=#[I.ok.u_ E,I.os,I.bare,I.base,I.loc,Ä6,Ä7,I.tJ,I.pin,I.zx,I.len]
theorem Inv.pM (I:Inv (X.u_ E) E6 ç s):À:=#[I.ok.pM,I.os,I.bare,I.base,I.loc,Ä6,Ä7,I.tJ,I.pin,I.zx,I.len]
theorem SP.pM {D:Ends}{f:Flow}{s':Ý}(h:SP (X.u_ E) E6 D f s'):SP X E6 D f s':=by
 cases f with
 | ret u=>let#[v,σ',H',I,r,q]:=h;show#[v,σ',H',I.pM,r,q]
 | _=>let#[σ',H',I,q]:=h;show#[σ',H',I.pM,q]
theorem xV.wA {st:Â9}{t:TS}(h:xV X.wA st t):xV X st t:=λ E6 s σ H D I hw=>
 za5 (h ń D (I.u_ _) hw) (λ _ _ q=>q.pM) λ _ _ z=>False.elim z
end
section
variable {ĥ}{st:Stmt}{E8:Â9}{t u:TS}{Ç1}{te:TE}{ă}
def V2:TS:=λ D σ H=>D.nx ç
def Vu (t u:TS):TS:=λ D σ H=>t { D with nx:=u D } ç
def UB:xV X [] V2:=λ _ _ σ H _ I h=>ŷ #[σ,H,I,h]
def UC (h1:PS X st t) (h2:xV X E8 u):xV X (st::E8) (Vu t u):=by
 ext ä;exact wpAny_execs_cons (zD (h1 ń { D with nx:=u D } I h) λ f s1 q=>?_);cases f with
 | next=>
  let#[σ',H',I',q]:=q;show h2 E6 s1 Į D I' q
 | ret v=>show q
 | _=>show q
def UA (h1:PS X st t):xV X [st] t:=by
 ext ä;exact wpAny_execs_cons (zD (h1 ń D I h) λ f s1 q=>?_);cases f with
 | next=>show ŷ q
 | ret v=>show q
 | _=>show q
def Inv.quiet Ï Ö:interactive Þ=â:=by simp[interactive,ĭ]
def V9 (te:TE):TS:=λ D σ H=>te ç λ _ H1=>D.nx Ņ
def UL Á7 (hs:swapsWith e none pos.line Þ=pure â:=by rfl):PS X (.Expr e pos) (V9 te):=by
 ext ä;show wpAny_Expr_any (zD (he Ç) λ v s1 É=>#[σ,H1,I1,q1]) I.quiet hs
def Vv (te:TE):TS:=λ D σ H=>te ç D.rt
def UH Á7:PS X (.Return ↑e pos) (Vv te):=by
 ext ä;show wpAny_Return_some (zD (he Ç) λ v s1 É=>#[x,σ,H1,I1,r1,q1])
def V5 (c:TT) (t u:TS):TS:=λ D σ H=>c ç λ b H1=>if b=true then t D Ņ else u D Ņ
def UI {c:Expr}{a b:Â9}{tc:TT}(hc:PT X c tc) (ha:xV X a t) (hb:xV X b u):PS X (.If c a b pos) (V5 tc t u):=by
 ext ä;exact wpAny_If (zD (hc Ç) λ d s1 Ĕ=>?_);cases d with
 | true=>show ha ã D I1 q1
 | â=>show hb ã D I1 q1
end
abbrev TG:=V->St->Hp->(ŝ)->Prop
abbrev sW:=Ć->St->Hp->(ŝ)->Prop
def PG è (target:Expr) (t:TG):Prop:=
 ∀ Â (v:V) (u:Ë) (Q:ŝ),À->Ď->t v ç Q->
  à Á (assign target Þ u) Æ8 ľ
def tZ è (ts:ņ) (t:sW):Prop:=
 ∀ Â (vs:Ć) (us:Ah) (Q:ŝ),À->Vals vs us->t vs ç Q->
  à Á (assignInOrder ((Ŵ ts Þ).map (·.2)) us) Æ8 ľ
abbrev dr:=V->V->V->Hp->(Ì)->Prop
def XH è (t:dr):Prop:=
 ∀ Â (o i v:V) (ov iv u:Ë) (Q:Ì),À->RelV o ov->RelV i iv->Ď->t o i v H Q->
  à Á (setItem ov iv u) (λ _ s'=>∃ H',Ų/\Q H') ľ
section
variable {ĥ}{ă}
def o9 È8:TG:=λ v σ H Q=>Q (σ.set i ↑v) H
def Td {i:Nat}É0 Ø Å:PG X İ (o9 i):=by
 intro E6 s σ H v u Q I r h;show wpAny_assign_Name (iK I hN hi hx r (λ s' I'=>#[_,H,I',h]) hf)
def MU:sW:=λ vs σ H Q=>vs=[]/\Q ç
def MV (t:TG) (u:sW):sW:=λ vs σ H Q=>∃ v r,vs=v::r/\t v ç fun σ' H'=>u r Į Q
def U_:tZ X [] MU:=by
 intro E6 s σ H vs us Q I r h;let#[e,h]:=h;subst e;cases r;show assignInOrder_nil #[σ,H,I,h]
def Ta Ç1{es:ņ}{t:TG}{u:sW}(h1:PG X e t) (h2:tZ X es u)
  (hs:(Ŵ (e::es) Þ).map (·.2)=assign e Þ::(Ŵ es Þ).map (·.2):=by rfl):tZ X (e::es) (MV t u):=by
 intro E6 s σ H vs us Q I r h;let#[v,vr,e1,h]:=h;subst e1;cases r with
 | cons r rr=>
  rw[hs];exact assignInOrder_cons (zD (h1 ń _ _ _ I r h) λ _ s1 #[σ1,H1,I1,q1]=>?_);show h2 E6 s1 σ1 H1 _ _ Q I1 rr q1
def ZT Ľ (n:Nat) (t:sW):TG:=λ v σ H Q=>∃ a xs,v=é a/\yg ş/\ě=n/\t xs ç Q
def Tb {es:ņ}{k:Nat}{t:sW}{n:Nat}(hc:Ĳ) (h:tZ X es t)
  (hn:(Ŵ es Þ).length=n:=by rfl) (AL:(Ŵ es Þ).findIdx? (·.1)=none:=by rfl):PG X (.Tuple es k pos) (ZT X.K n t):=by
 intro E6 s σ H v u Q I r hw;let#[a,xs,e1,hq,hl,hw]:=hw;subst e1;cases r;let#[Aa,rv,ht,hz]:=I.tuple hq;exact assign_Tuple_tuple Ĥ ht (by simp[hn,<- hl,rv.length]) AL λ h' hx=>?_;have I1:Inv Ð H { s with heap:=h' }:=I.kept (t':=Ļ) λ b o e=>hx b o (AI (Ax e)) e;show h E6 _ ç xs _ Q I1 (by exists rv) hw
def MT (to ti:TE) (t:dr):TG:=λ v σ H Q=>to ç λ o H1=>ti Ņ λ i H2=>t o i v H2 λ H3=>Q σ H3
def Tc {o i:Expr}{to ti:TE}{t:dr}(ho:PE X o to) (hi:PE X i ti) (hs:XH X t)
  (ha:∀ v,assign (.Subscript o i pos) Þ v=(do
   let ov <- holding [v] (eval o Þ)
   let iv <- holding [v,ov] (eval i Þ)
   standAt pos
   holding [v,ov,iv] (setItem ov iv v)
   release [v,ov,iv] []):=by intro _;rfl):PG X (.Subscript o i pos) (MT to ti t):=by
 intro E6 s σ H v u Q I r h;rw[ha];exact gV (za6 (zD (ho Ç) λ ov s1 É=>?_));exact gV (za6 (zD (hi ã _ I1 q1) λ iv s2 ē=>?_));exact gV (wpAny_standAt (gV (za6 (zD (hs ŭ ov iv u _ I2 r1 r2 r q2) λ _ s3 #[H3,I3,q3]=>?_))));show wpAny_release #[σ,H3,I3,q3]
def o_ (te:TE) (g:TG):TS:=λ D σ H=>te ç λ x H1=>g x Ņ D.nx
def bQ {tg e:Expr}{te:TE}{g:TG}Á7 (hg:PG X tg g) (hs:swapsWithSole [tg] e pos.line Þ=pure â:=by rfl) (hw:swappedStores [tg] e Þ=pure none:=by rfl)
  (h1:(Ŵ [tg] Þ).map (·.2)=[assign tg Þ]:=by rfl):PS X (.Assign [tg] e pos) (o_ te g):=by
 ext ä;exact wpAny_Assign_stores (zD (he Ç) λ v s1 É=>?_) hs hw;rw[h1];show zD (hg ã x v _ I1 r1 q1) λ _ s2 q=>q
def UG {i:Nat}É0 Ç1{te:TE}{pos':Pos}Ø Á7 (hs:swapsWith e ↑(.Name x pos') pos.line Þ=pure â:=by rfl) Å:
  PS X (.Assign [.Name x pos'] e pos) (o_ te (o9 i)):=by
 ext ä;exact wpAny_Assign_Name (zD (he Ç) λ v s1 #[y,H1,I1,r1,q1]=>?_) hs;show iK I1 hN hi hx r1 (λ s2 I2=>#[_,H1,I2,q1]) hf
def Vp (c:TT) (tb:TS):TS:=λ D σ H=>∃ W:Nat->ŝ,(∃ m,W m ç)/\∀ m σ H,W m ç->
 c ç λ b H1=>if b=true then ∃ N:ŝ,(∀ σ' H',N Į->∃ m',m'<m/\W m' Į)/\tb { D with nx:=N,ct:=N,bk:=D.nx } Ņ else D.nx Ņ
def UD {c:Expr}{body:Â9}{tc:TT}{tb:TS}(hp:PassesOwn Á Þ X.xe) (hc:PT X c tc) (hb:xV X body tb):PS X (.While c body [] pos) (Vp tc tb):=by
 ext ä;let#[W,#[m0,w0],turn]:=h;exact wpAny_While (codeAny_whileLoop (λ n s'=>∃ σ' H',ì/\W n Į) ?_ m0 #[σ,H,I,w0]);rintro n s1 ⟨σ1,H1,I1,w1⟩;exact zaE hp (zD (hc E6 s1 σ1 H1 _ I1 (turn n σ1 H1 w1)) λ b s2 #[H2,I2,q2]=>?_);cases b with
 | true=>
  let#[N,hN,q2]:=q2;rw[ň rfl];exact zaE hp (zD (hb E6 s2 σ1 H2 _ I2 q2) λ f s3 q3=>?_);cases f with
  | next=>
   ext Ą
  | cont=>
   ext Ą
  | brk=>show q3
  | ret v=>show q3
 | â=>
  rw[Ė CU];show ŷ #[σ1,H2,I2,q2]
end
structure It where
 go:Nat->Ì
 pH:Nat->Hp->V->Ì
 stop:Nat->Ì
def ue è (E6:Aj) Ł (b:Addr):Prop:=
 ö/\b≠ Í/\b∉X.fs/\(b∈X.ex\/ê<=b)/\ū
theorem Inv.kX ĥ{E6:Aj}{σ:St}{H H':Hp}É1{b:Addr}Ö (hb:Ã<=b) (hn:H' b=none):ue X E6 H' b:=by
 exact#[hn,BM (BB I.lt hb),I.aG hb,.inr (Bj I.sz hb),λ x c e z=>?_,λ p hp z=>?_]
 .let#[v,q]:=Ä6 x c e;show À4 (BB q.lt (by rw[z];show hb)) (B7 _)
 .show À4 (BB (Ax (I.pin p hp).1) (by rw[z];show hb)) (B7 _)
structure Turn (P:ŕ) ŧ Ľ (tg:Expr) (J:It) (fp:ó) (it:Addr) (tn:Nat->Heap->Prop):Prop where
 mem:it∈fp
 obj:∀ i h,tn i h->∀ b∈fp,∃ o,Ğ/\∀ v,o.data≠.cell v
 keep:∀ i h h',tn i h->(∀ b∈fp,∀ o,Ğ->Ā b=↑o)->tn i h'
 item:∀ è,X.prog=P->X.w=w->X.K=K->Ĳ->∀ È8 Â (E:Af),À->(Ź)->tn i ñ->J.go i H->
  à Ç3 (λ r s1=>∃ u,r=↑u/\
   à (model P w) X.A Ä8 (λ _ s2=>∃ x H',Inv Ð H' s2/\À3/\J.pH i H x H'/\tn (i+1) s2.heap/\ł) E s1) E s
 done:∀ è,X.prog=P->X.w=w->X.K=K->Ĳ->∀ È8 Â (E:Af),À->(Ź)->tn i ñ->J.stop i H->
  à Ç3 (λ r s1=>r=none/\Inv Ð H s1) E s
 self:∀ (A:Around) È8 Á2,tn i ñ->Q (é it) s->à (model P w) A (pyIter (é it)) Œ
abbrev TI:=St->Hp->(It->Ì)->Prop
def XI è Ÿ (tg:Expr) (R:It->Ì) (itv:Ë) (s2:Ý):Prop:=
 ∃ (it:Addr) (fp:ó) (tn:Nat->Heap->Prop) (J:It) (H':Hp),itv=é it/\Inv Ð H' s2/\Turn ò X.K tg J fp it tn/\tn 0 s2.heap/\(∀ b∈fp,ue X E6 H' b)/\R J H'
def PI è (tg iter:Expr) (wi:TI):Prop:=
 ∀ Â (R:It->Ì),À->wi ç R->
  à Á (eval iter Þ) (λ v s1=>à Á (pyIter v) (XI Ð tg R) X.xe s1) ľ
def fF {M:Model}ø Ŷ É1{tg:Expr}{it:Addr}È7{o:Obj}{n:String}{vs:AB}Ę(ho:ß it=↑o) (hc:o.cls=.type n) (hd:o.data=.fields vs)
  (hn:Ü=â) (hQ:Q È2 s):à M A Ä8 Œ:=by
 unfold letOwnedTupleGo;cases tg <;> first
  | show Ad hQ
  | (cases u <;> first
    | show Ad hQ
    | (exact gV (wpAny_load ho ?_)
       rw[hc,hd];change à M A (if (Ü&&vs[0]? == ↑(rawInt _))=true then _ else _) Œ;rw[Ė (by intro h;rw[hn,Bool.false_and] at h;cases h)];show Ad hQ))
def XS Ľ ō:It:=
 #[λ i H=>∃ xs x,zP ş/\À2,λ i H x H'=>H'=H/\∀ xs,zP ş->À2,λ i H=>∃ xs,zP ş/\ě<=i]
def XR Ľ ō:It:=
 #[λ i H=>∃ xs x,yg ş/\À2,λ i H x H'=>H'=H/\∀ xs,yg ş->À2,λ i H=>∃ xs,yg ş/\ě<=i]
def jH (lo:Int) (n:Nat):It:=#[λ i _=>i<n,λ i H x H'=>H'=H/\x=í (lo+i),λ i _=>n<=i]
def Vj ë Æ3(a it:Addr):Turn P w K tg (XS K a) [it] it (λ i h=>h.IsListIter it a i) where
 mem:=#[]
 obj:=λ i h st b hb=>by
  ext Ś
  ext Ĩ
 keep:=ź
 item:=by
  ext È;let#[xs,x,hq,hx]:=hg;let#[Aa,rv,p,hz]:=I.list hq;ext Ç4;exact wpAny_pyNext_list_item st p.isList Å2;ext å;show#[u,rfl,fF (s:={ s with heap:=h' }) e c d () #[x,H,I1,ru,#[rfl,λ ys hy=>by rw[I.gW hy hq];show hx],E7,Â0]]
 done:=by
  ext È;let#[xs,hq,hx]:=hg;let#[Aa,rv,p,hz]:=I.list hq;ext Î;have hl:=rv.length;show wpAny_pyNext_list_end Ĥ st p.isList (by simp;lia) Ú
 self:=λ _ _ _ _ _ st h=>wpAny_pyIter_listiter st h
def Vh ë Æ3(a it:Addr):Turn P w K tg (XR K a) [it] it (λ i h=>h.IsTupleIter it a i) where
 mem:=#[]
 obj:=λ i h st b hb=>by
  ext Ś
  ext Ĩ
 keep:=ź
 item:=by
  ext È;let#[xs,x,hq,hx]:=hg;ext É4;ext Ç4;exact wpAny_pyNext_tuple_item st Ä9 Å2;ext å;show#[u,rfl,fF (s:={ s with heap:=h' }) e c d () #[x,H,I1,ru,#[rfl,λ ys hy=>by rw[I.i9 hy hq];show hx],E7,Â0]]
 done:=by
  ext È;let#[xs,hq,hx]:=hg;ext É4;ext Î;have hl:=rv.length;show wpAny_pyNext_tuple_end Ĥ st Ä9 (by simp;lia) Ú
 self:=λ _ _ _ _ _ st h=>wpAny_pyIter_tupleiter st h
def Vi ë Æ3(it:Addr) (lo:Int) (n:Nat):Turn P w K tg (jH lo n) [it] it (λ i h=>IsRangeIter h it (lo+(i:Nat)*1) ((n:Int)-(i:Nat)) 1) where
 mem:=#[]
 obj:=λ i h st b hb=>by
  ext Ś
  subst e;show#[_,st,λ v z=>by
   have z':Data.fields _=Data.cell v:=z;cases z']
 keep:=λ i h h' st k=>k it #[] _ st
 item:=by
  ext È;ext Î;have W:=Walks.range (prog:=X.prog) (w:=X.w) Ĥ it lo 1 n;exact W.item i s _ _ hg st λ v h' tk hv E7 kk=>?_;let#[t,rfl]:=hv;have I1:Inv Ð H { s with heap:=h',toks:=tk }:=I.turned (λ b o hb e=>kk b o (by exists hb) e) f0 f1 f3 f4 f5;exact#[_,rfl,fF (s:={ s with heap:=h',toks:=tk }) (n:="range_iterator") E7 rfl rfl () #[í (lo+i),H,I1,#[t,?_],#[rfl,rfl],E7,Â0]];rw[Int.mul_one]
 done:=by
  ext È;ext Î;show wpAny_pyNext_range_end Ĥ st (by have:n<=i:=hg;lia) Ú
 self:=λ _ _ _ _ _ st h=>wpAny_pyIter_rangeiter st h
section
variable {ĥ}{tg:Expr}
def Uv Ï{R:It->Ì}Ŷ{lo hi:Int}{t u v:Tok}{tk:Nat}Ö (h1:-(2 ^ 62)<=lo) (h2:lo<2 ^ 62) (h3:-(2 ^ 62)<=hi) (h4:hi<2 ^ 62)
  (q:R (jH lo (hi-lo).toNat) H):à Á (pyIter (é Ã)) (XI Ð tg R) E { s with heap:=Ä,toks:=tk }:=by
 exact wpAny_pyIter_range (IsRange.new ..) (small_one h1 h2 h3 h4) ?_;have I1:Inv Ð H { s with heap:=Ä,toks:=tk }:=I.kept λ b o e=>za1 _ e;exact#[(Ä).objs.size,[(Ä).objs.size],_,_,H,rfl,
  I1.kept (t':=tk) λ b o e=>za1 _ e,Vi _ lo (hi-lo).toNat,?_,λ b hb=>?_,q]
 .have e1:lo+((0:Nat):Int)*1=lo:=#[];have e2:ž=Builtin.Range.rangeSize lo hi 1:=by rw[rangeSize_one];split <;> lia
  change IsRangeIter _ _ (lo+((0:Nat):Int)*1) (ž) 1;rw[e1,e2];show AK _ rfl
 .have e:b=(Ä).objs.size:=by exists hb
  subst e;show I1.kX (Ao _) (Ã0)
def ZH (ta:TA):TI:=fun σ H R=>ta ç λ vs H1=>∃ j:Int,vs=[í j]/\-(2 ^ 62)<=j/\j<2 ^ 62/\R (jH 0 j.toNat) H1
theorem UY {a:Expr}{ta:TA}{p pos:Pos}(hg:Gl X "range") (hm:X.mg "range"=none) (ha:PA X [a] ta) (hs:starEach [a] Þ=[(â,eval a Þ)]:=by rfl):PI X tg (.Call (.Name "range" p) [a] [] pos) (ZH ta):=by
 intro E6 s σ H R I h;exact Call_ (om I hg hm boot_range (PyProof.Rows.callWith_type1 (zD (ha pos Ç) λ us s1 #[vs,H1,I1,r1,q1]=>?_) hs rfl));let#[j,e,q1,q2,q]:=q1;subst e;cases r1 with
 | cons r rr=>
  cases rr;let#[t,rfl]:=r;show call_range_1 (Uv I1 ⋯ ⋯ q1 q2 (by exists q))
def V7 (wi:TI) (g:TG) (tb:TS):TS:=λ D σ H=>wi ç λ J H1=>∃ W:Nat->Nat->ŝ,(∃ m,W 0 m Ņ)/\∀ i m σ H,W i m ç->
 (J.stop i H/\D.nx ç)\/(J.go i H/\∃ N:ŝ,(∀ σ' H',N Į->∃ m',m'<m/\W (i+1) m' Į)/\∀ x H',J.pH i H x H'->g x σ H' fun σ2 H2=>tb { D with nx:=N,ct:=N,bk:=D.nx } σ2 H2)
def ny (fp:ó) ĵ:Aj:=fp.filterMap λ b=>(æ b).map λ o=>(b,o)
def k6 {fp:ó}ũ Ū(hb:b∈fp) (e:Ğ):(b,o)∈ny fp h:=Es.mpr #[b,hb,by rw[e];rfl]
def Oq {fp:ó}ũ{p:Addr×Obj}(hp:p∈ny fp h):p.1∈fp/\æ p.1=↑p.2:=by
 let#[b,hb,e]:=Es.mp hp;cases q:æ b with
 | none=>rw[q] at e;cases e
 | some o=>
  rw[q] at e;have e':(b,o)=p:=Bb e;subst e';show#[hb,q]
def Inv.pinned Ï{fp:ó}Ö (hf:Ź) (ho:∀ b∈fp,∃ o,Ĭ/\∀ v,o.data≠.cell v):Inv X (E6++ny fp ñ) ç s:=
 I.gr λ p hp=>(AG.mp hp).elim (λ z=>I.pin p (AY _ z)) λ z=>by
  let#[hb,e]:=Oq z;let#[f0,f1,f2,_]:=hf p.1 hb;let#[o,e',d]:=ho p.1 hb;rw[e] at e';cases e';show#[e,f0,f1,f2,d]
def Inv.oW {E6 pl:Aj}{σ:St}Ş É1(I:Inv X (E6++pl) ç s):À:=I.gr λ p hp=>I.pin p (AY _ (Bm _ hp))
def UJ {iter:Expr}{body:Â9}{wi:TI}{g:TG}{tb:TS}ă(hp:PassesOwn Á Þ X.xe) (hc:Ĳ) (hi:PI X tg iter wi) (hg:PG X tg g) (hb:xV X body tb)
  (hs:∀ x,foldedSetIterable iter Þ x=pure x:=by intro _;rfl):PS X (.For tg iter body [] pos) (V7 wi g tb):=by
 ext ä;exact wpAny_For (zD (hi Ç) λ v s1 h1=>zD h1 λ itv s2 h2=>?_) hs;let#[it,fp,tn,J,H2,e,I2,T,Hx,f2,W,#[m0,w0],turn]:=h2;subst e;have Ga:∀ {H':Hp},(ł)->∀ b∈fp,ue X E6 H' b:=λ hn b hb=>#[hn b hb,(f2 b hb).2];exact codeAny_forLoop_any (λ n s'=>∃ i σ' H',ì/\tn i s'.heap/\(ł)/\W i n Į) ?_ m0 #[0,σ,H2,I2,Hx,λ b hb=>(f2 b hb).1,w0];rintro n s3 ⟨i,σ3,H3,I3,Fp,fr3,w3⟩;rcases turn i n σ3 H3 w3 with ⟨stop,qn⟩ | ⟨go,N,hN,step⟩
 .exact zaE hp (zD (T.done X rfl rfl rfl Å3 Fp stop) λ r s4 #[hr,I4]=>?_);subst hr;show ŷ #[σ3,H3,I4,qn]
 .exact zaE hp (zD (T.item X rfl rfl rfl Å3 Fp go) λ r s4 #[u,hr,h4]=>?_);subst hr;exact zaE hp (zD h4 λ _ s5 #[x,H5,I5,r5,y5,GZ,fr5]=>?_);have I5':=I5.pinned (Ga fr5) (T.obj _ _ GZ);exact zaE hp (zD (hg _ s5 σ3 H5 x u _ I5' r5 (step x H5 y5)) λ _ s6 #[σ6,H6,I6,q6]=>?_);exact zaE hp (zD (hb _ s6 σ6 H6 _ I6 q6) λ f s7 q7=>?_);have again:∀ {σ7:St}{H7:Hp},Inv X (E6++ny fp s5.heap) σ7 H7 s7->N σ7 H7->∃ m,m<n/\∃ i σ' H',Inv X E6 Į s7/\tn i s7.heap/\(ł)/\W i m Į:=λ{σ7 H7} I7 n7=>by
   let#[m',hm,w7]:=hN σ7 H7 n7;exact#[m',hm,i+1,σ7,H7,I7.oW,T.keep _ _ _ GZ λ b hb o e=>(À8).1,λ b hb=>?_,w7];let#[o,e,d]:=T.obj _ _ GZ b hb;show (À8).2.1
  cases f with
  | brk=>let#[σ7,H7,I7,q7]:=q7;show#[σ7,H7,I7.oW,q7]
  | ret v=>let#[x7,σ7,H7,I7,r7,q7]:=q7;show#[x7,σ7,H7,I7.oW,r7,q7]
  | _=>let#[σ7,H7,I7,n7]:=q7;show again I7 n7
end
abbrev R2:=V->V->ģ
def yx è (f:Ë->Ë->Sem Ë) (r:R2):Prop:=
 ∀ Â (x y:V) (v u:Ë) (Q:VK),À->RelV x v->RelV y u->r x y H Q->
  à Á (f v u) (EP Ð Q) ľ
def dn è (f:Ë->Sem Ë) (r:V->ģ):Prop:=
 ∀ Â (x:V) (v:Ë) (Q:VK),À->RelV x v->r x H Q->
  à Á (f v) (EP Ð Q) ľ
def yF è (f:Ë) (r:Ć->ģ):Prop:=
 ∀ Â (xs:Ć) (us:Ah) (Q:VK),À->ī->r xs H Q->
  à Á (call f us) (EP Ð Q) ľ
def J5 è (r:V->Hp->(Bool->Ì)->Prop):Prop:=
 ∀ Â (x:V) (v:Ë) Å1,À->RelV x v->r x H Q->
  à Á (truthy v) (TP Ð Q) ľ
def oZ (r:R2) (ta tb:TE):TE:=fun σ H Q=>ta ç λ x H1=>tb Ņ λ y H2=>r x y H2 Q
def Vq (r:V->ģ) (ta:TE):TE:=fun σ H Q=>ta ç λ x H1=>r x H1 Q
def rI (C:Int->Int->Prop) (g:Int->Int->V):R2:=λ x y H Q=>∃ i j,x=í i/\y=í j/\C i j/\Q Ř H
def vA (g:Int->Int->V):R2:=λ x y H Q=>∃ i j,x=í i/\y=í j/\Q Ř H
def rU (g:Int->V):V->ģ:=λ x H Q=>∃ i,x=í i/\Q (g i) H
section
variable {ĥ}{a b:Expr}{ta tb:TE}{ă}
def eT á ķ{R:V->V->Ì}Ö
  (h:ta ç λ x H1=>tb Ņ λ y H2=>R x y H2) {Q:Af}ę
  (hf:∀ v u s2 x y H2,Inv Ð H2 s2->RelV x v->RelV y u->R x y H2->à Á (f v u) Q X.xe s2):
  à Á (eval a Þ) (λ v s₁=>à Á (eval b Þ) (λ u s₂=>à Á (f v u) Q X.xe s₂) X.xe s₁) ľ:=by
 exact Á9;exact zD È3 λ u s2 ē=>?_;show hf v u s2 x y H2 I2 r1 r2 q2
def Tt {op:Operator}{r:R2}(ho:yx X (Ã1 op) r) á:PE X (.BinOp a op b pos) (oZ r ta tb):=by
 ext Û;show wpAny_BinOp ċ
def Tq {op:UnaryOp}{r:V->ģ}(ho:dn X (unaryOp op) r) Ő:PE X (.UnaryOp op a pos) (Vq r ta):=by
 ext Û;show UnaryOp_ (zD ŗ λ v s1 É=>ho ã x v Q I1 r1 q1)
def pY ę{C:Int->Int->Prop}{g:Int->Int->Int}
  (rule:∀ Č,C i j->Ċ):
  yx X f (rI C λ i j=>í Ř):=by
 ext ï;let#[i,j,rfl,rfl,hc,q]:=h;ext ą;let#[t',rfl]:=ry;show rule i j t t' s _ _ hc #[í Ř,H,ı,ď,q]
def a9 ę{g:Int->Int->Int}
  (rule:∀ Č,Ċ):
  yx X f (vA λ i j=>í Ř):=by
 ext ĸ;show rule i j t t' s _ _ #[í Ř,H,ı,ď,q]
def ku ę{g:Int->Int->Bool}
  (rule:∀ Č,Q (.bool Ř) s->Å0):
  yx X f (vA λ i j=>.bl Ř):=by
 ext ĸ;show rule i j t t' s _ _ #[.bl Ř,H,I,rfl,q]
def pF (i j:Int):Prop:=0<j/\j<1073741824
def qp (i j:Int):Prop:=0<=j/\j<=1000000/\i.natAbs<2 ^ 64
def rg (i j:Int):Prop:=(-(2 ^ 64)<i/\i<2 ^ 64)\/(-(2 ^ 64)<j/\j<2 ^ 64)
def rg.ok {i j:Int}(h:rg i j):IntMulOk i j:=by
 rcases h with ⟨h1,h2⟩ | ⟨h1,h2⟩
 .show .of_left (intBits_le_64 h1 h2)
 .show .of_right (intBits_le_64 h1 h2)
def Qz:yx X (Ã1 .Add) (vA λ i j=>í (i+j)):=a9 λ _ _ _ _ _ _ _ q=>add_int q
def Qk:yx X (Ã1 .Sub) (vA λ i j=>í (i-j)):=a9 λ _ _ _ _ _ _ _ q=>sub_int q
def Qp:yx X (Ã1 .Mult) (rI rg λ i j=>í (i*j)):=pY λ _ _ _ _ _ _ _ hc q=>mul_int q hc.ok
def Qx:yx X (Ã1 .FloorDiv) (rI pF λ i j=>í (i/j)):=pY λ i j _ _ _ _ _ hc q=>by
 have h1:(0:Int)<j:=hc.1;have h2:j<1073741824:=hc.2;show floordiv_int ⋯ (by rw[Int.fdiv_eq_ediv_of_nonneg i ⋯];show q) (Ĺ (PyProof.noPylong_small ⋯))
def Qq:yx X (Ã1 .Mod) (rI (λ _ j=>0<j) λ i j=>í (i%j)):=pY λ i j _ _ _ _ _ hc q=>by
 have h1:(0:Int)<j:=hc;show mod_int' ⋯ (by rw[Int.fmod_eq_emod_of_nonneg i ⋯];show q)
def Ql:yx X (Ã1 .Pow) (rI qp λ i j=>í (i ^ j.toNat)):=pY λ _ _ _ _ _ _ _ hc q=>pow_int_small hc.1 hc.2.1 hc.2.2 q
def Vc {f:Ë->Sem Ë}{g:Int->Int}
  (rule:∀ È6 Á2,Q (í (g i) Ļ) { s with toks:=Ļ+1 }->à Á (f (í i t)) Œ):
  dn X f (rU λ i=>í (g i)):=by
 intro E6 s σ H x v Q I rx h;let#[i,rfl,q]:=h;ext ą;show rule i t s _ _ #[í (g i),H,ı,ď,q]
def Vb:dn X (unaryOp .USub) (rU λ i=>í (-i)):=Vc λ _ _ _ _ _ q=>neg_int q
end
section
variable {ĥ}{a b c:Expr}{ta tb tc:TE}{ă}
def Yc Ï{Q:VK}{k k':Bool}Ö (q:Q (.bl k) H) (e:k=k'):EP Ð Q (.bool k') s:=by
 subst e;show#[.bl k,H,I,rfl,q]
def Qr:yx X (ğ .Lt) (vA λ i j=>.bl (Ů (i<j))):=ku λ _ _ _ _ _ _ _ q=>lt_int q
def kr:yx X (ğ .LtE) (vA λ i j=>.bl (Ů (i<=j))):=ku λ _ _ _ _ _ _ _ q=>le_int q
def Qu:yx X (ğ .Gt) (vA λ i j=>.bl (Ů (j<i))):=ku λ _ _ _ _ _ _ _ q=>gt_int q
def Qv:yx X (ğ .GtE) (vA λ i j=>.bl (Ů (j<=i))):=ku λ _ _ _ _ _ _ _ q=>ge_int q
def Qs:yx X (ğ .Is) (λ x y H Q=>y=.zp/\Q (.bl (Ů (x=.zp))) H):=by
 ext ï;let#[rfl,q]:=h;cases ry;exact is_none_gen (Yc I q ?_);cases x <;> first
  | (cases rx;rfl)
  | (ext ą;rfl)
def au:yx X (ğ .IsNot) (λ x y H Q=>y=.zp/\Q (.bl (! Ů (x=.zp))) H):=by
 ext ï;let#[rfl,q]:=h;cases ry;exact isnot_none_gen (Yc I q ?_);cases x <;> first
  | (cases rx;rfl)
  | (ext ą;rfl)
def yx.or ę{r r':R2}(h:yx X f r) (h':yx X f r'):yx X f (λ x y H Q=>r x y H Q\/r' x y H Q):=by
 intro E6 s σ H x y v u Q I rx ry q;rcases q with q | q
 .show h ń x y v u Q I rx ry q
 .show h' ń x y v u Q I rx ry q
def uG (b:Expr) {op:CmpOp}(h:op≠.In:=by decide) (h2:op≠.NotIn:=by decide):Ż:=by
 have e1:(op == CmpOp.In)=â:=by cases op <;> first | rfl | show À4 rfl h
 have e2:(op == CmpOp.NotIn)=â:=by cases op <;> first | rfl | show À4 rfl h2
 cases b <;> simp[behindInMarks,e1,e2]
def TF Á3 á (hm:Ż):PE X (.Compare a [op] [b] pos) (oZ r ta tb):=by
 ext Û;show wpAny_Compare1 ċ hm
def Vs (t:TE):TT:=fun σ H Q=>t ç λ x H'=>∃ k,x=.bl k/\Q k H'
def U9 Á3 á (hm:Ż):PT X (.Compare a [op] [b] pos) (Vs (oZ r ta tb)):=by
 ext Û;exact wpAny_isTrue_Compare1 (zD ŗ λ v s1 É=>zD È3 λ u s2 ē=>
  zD (ho ŭ u _ I2 r1 r2 q2) λ c s3 Ã4=>?_) hm
 subst e;cases r3;show zaD #[H3,I3,q3]
def cN (r r':R2) (ta tb tc:TE):TE:=fun σ H Q=>ta ç λ x H1=>tb Ņ λ y H2=>r x y H2 λ z H3=>∃ k,z=.bl k/\
 (if k=true then tc σ H3 λ w' H4=>r' y w' H4 Q else Q (.bl â) H3)
def TH {op Hc:CmpOp}{r r':R2}(ho:yx X (ğ op) r) (FL:yx X (ğ Hc) r') á (hc:PE X c tc)
  (hm:lastMarks [op,Hc] [b,c]=â:=by with_unfolding_all rfl):PE X (.Compare a [op,Hc] [b,c] pos) (cN r r' ta tb tc):=by
 ext Û;exact Compare_chain (zD ŗ λ v s1 É=>chain_link (zD È3 λ u s2 ē=>
  zD (ho ŭ u _ I2 r1 r2 q2) λ d s3 Ã4=>?_)) hm
 subst e;cases r3;exact zaD ?_;cases k with
 | â=>show ite_ff #[.bl â,H3,I3,rfl,q3]
 | true=>show ite_tt (chain_last (zD (hc E6 s3 σ H3 _ I3 q3) λ w' s4 #[z',H4,I4,r4,q4]=>FL E6 s4 σ H4 y z' u w' Q I4 r2 r4 q4))
def dq Ľ (x:V) Ł (k:Bool):Prop:=
 match x with
 | .zp=>k=â
 | .bl b=>k=b
 | í i=>k=(i != 0)
 | .str y=>Â1
 | .mW y=>Ä2
 | é p=>(∃ xs,zP K H p xs/\k=Â2)\/(∃ xs,yg K H p xs/\k=Â2)\/Á5
 | _=>False
def NA {κ:Type}{Ab:List (κ × V)}{vs:List (κ × Ë)}(r:KV Ab vs):(!vs.isEmpty)=!Ab.isEmpty:=by
 cases r <;> rfl
def Zx {xs:Ć}{Aa:Ah}(r:Ã7):(!Aa.toArray.isEmpty)=Â2:=by
 cases r <;> simp
def qD:(ð:Nat)<2 ^ 63:=by rw[sizeLine_eq];decide
theorem Vm:J5 X (λ x H Q=>∃ k,dq X.K x H k/\Q k H):=by
 intro E6 s σ H x v Q I rx h;let#[k,e,q]:=h;have hl:=qD;have hs:ð=16777216:=sizeLine_eq;cases x with
 | zp=>
  cases rx;have e':k=â:=e;subst e';show truthy_none #[H,I,q]
 | bl b=>
  cases rx;have e':k=b:=e;subst e';show zaD #[H,I,q]
 | int i=>
  ext ą;have e':k=(i != 0):=e;subst e';show PySem.P.truthy_int #[H,I,q]
 | str y=>
  ext ą;obtain⟨hy,e'⟩:Â1:=e;subst e';show PySem.P.truthy_str ⋯ #[H,ı,q]
 | mW y=>
  ext ą;obtain⟨hy,e'⟩:Ä2:=e;subst e';show PySem.W.truthy_bytes ⋯ #[H,ı,q]
 | ref p=>
  cases rx;have e':(∃ xs,zP X.K H p xs/\k=Â2)\/(∃ xs,yg X.K H p xs/\k=Â2)\/Á5:=e;rcases e' with ⟨xs,hx,e'⟩ | ⟨xs,hx,e'⟩ | ⟨Ab,hx,e'⟩
  .subst e';let#[Aa,r,pl,hz]:=I.list hx;have hlen:=r.length;show wpAny_truthy_list pl.isList Ŕ
  .subst e';let#[Aa,r,pl,hz]:=I.tuple hx;have hlen:=r.length;show truthy_tuple pl Ŕ
  .subst e';obtain⟨hz,hS,vs,r,m⟩:Ab.length<=ð/\(p == sysModules)=â/\∃ vs,KV Ab vs/\s.heap.DictOf (wQ ò) p vs:=I.zx p _ hx;have hlen:Ab.length=vs.length:=Paired.length r;show wpAny_truthy_dict hS m ⋯ #[H,ı,by rw[NA r];show q]
 | _=>show (show False from e).elim
def U7 Ő (he:∀ whole,isTrue a Þ whole=(do let v <- whole;standAt a.pos;holding [v] (truthy v))):
  PT X a (fun σ H Q=>ta ç λ x H'=>∃ k,dq X.K x H' k/\Q k H'):=by
 ext Û;show isTrue_plain (zD ŗ λ v s1 É=>Vm ã x v Q I1 r1 q1) (he _)
def vals1 {x:V}{us:Ah}(r:Vals [x] us):∃ u,us=[u]/\À3:=by
 cases r with
 | cons r1 r2=>cases r2;show#[_,rfl,r1]
def vals2 {x y:V}{us:Ah}(r:Vals [x,y] us):∃ u w',us=[u,w']/\À3/\RelV y w':=by
 cases r with
 | cons r1 r2=>
  cases r2 with
  | cons r3 r4=>cases r4;show#[_,_,rfl,r1,r3]
def KJ:yF X (Æ9 "abs") (λ xs H Q=>∃ i,xs=[í i]/\Q (í (if i<0 then -i else i)) H):=by
 intro E6 s σ H xs us Q I r h;let#[i,rfl,q]:=h;let#[u,rfl,t,rfl]:=vals1 r;show call_abs_int λ u tk=>#[í (if i<0 then -i else i),H,ı,ď,q]
def K7 (hc:Ĳ):yF X (Æ9 "max") (λ xs H Q=>∃ i j,xs=[í i,í j]/\Q (í (if j>i then j else i)) H):=by
 ext ù;exact max_two_ints Ĥ ſ;by_cases hj:j>i
 .rw[ň hj,ň hj];show ď
 .rw[Ė hj,Ė hj];show ď
def K6 (hc:Ĳ):yF X (Æ9 "min") (λ xs H Q=>∃ i j,xs=[í i,í j]/\Q (í (if j<i then j else i)) H):=by
 ext ù;exact min_two_ints Ĥ ſ;by_cases hj:j<i
 .rw[ň hj,ň hj];show ď
 .rw[Ė hj,Ė hj];show ď
end
structure ph ĵ (x dx C:Addr) (mA:AA):Prop where
 obj:æ x=↑(ü C dx)
 ns:h.Ns1 dx mA
 ne:dx≠x
def OY ũ{dx:Addr}{mA:AA}(n:h.Ns1 dx mA):∃ od,æ dx=↑od/\Ŭ:=by
 let#[o,es,ep,ho,hd,hk,_,hm]:=n;exact#[o,ho,λ name=>?_];have e:=hm name;unfold nsFind findBy at e;rw[<- Array.find?_toList] at e;unfold PySem.W.lookIn;rw[hd];dsimp only;split
 .rename_i y q;rw[q] at e;show congrArg some e
 .rename_i q;rw[q] at e;have a:es.toList.any (·.refKey)=â:=by
   rw[List.any_eq_false];intro y hy;let#[z,t,ES]:=hk y (Array.mem_toList_iff.mp hy);simp[DictEntry.refKey,ES]
  have a':¬ es.toList.any (·.refKey)=true:=by rw[a];show CU
  rw[Ė a'];show congrArg some e
def ph.look ũ{x dx C:Addr}{mA:AA}(I:ph h x dx C mA):∃ od,PySem.W.InstAt h x (ü C dx) C ↑od/\Ŭ:=
 let #[od,ho,hl]:=OY I.ns
 #[od,#[I.obj,rfl,rfl,ho],hl]
section
variable {prog:ŕ}{w:World}{ø}{Ŷ}{É1}{K:Ac}{x dx C f:Addr}{mA:AA}{name:Str}{v:Ë}
def get_map {expr:Bool}{Q:Af}ĕ (hh:Ŋ)
  (ha:ā Æ4 name=↑none) (hv:mA name=↑v) (Hf:PySem.W.handedIn v=true) (h:Q v { s with toks:=Ļ+1 }):
  à Ă A (getAttr (é x) name expr) Œ:=by
 ext Á8;show PySem.W.get_value X J (ŵ).1 (PySem.W.findObj_own hh ha rfl (by rw[hl,hv])) Hf h
def MP À1 ĕ
  (hf:ā Æ4 name=↑↑ Ű) (ht:PySem.W.isFn K Ű=true) (hv:mA name=none) (h:Q (é f,[é x]) s):
  à Ă A (getMethod (é x) name pl) Œ:=by
 ext Á8;show PySem.W.method_fn X J (ŵ).1 (ŵ).2 hf (beq_iff_eq.mp ht) (by change (PySem.W.lookIn name od).map (·.isSome)=↑ â;rw[hl,hv];rfl) h
def VY {ns:List Str}Ę Ä5
  (hs:Ġ) (hp:PySem.W.plainOver K C=true) (ht:È4 K C name=↑none) (hh:Ŋ)
  (hw:PySem.Within mA ns) (hsz:ns.length<=ð)
  (h:∀ h',ph h' x dx C (λ y=>if y=name then ↑v else mA y)->Heap.SameBut dx ñ h'->Q È2 { s with heap:=h',toks:=Ļ+2 }):
  à Ă A (setAttr (é x) name v) Œ:=by
 ext Á8;exact PySem.W.set_plain X J hs (PySem.W.osa_open (s:={ s with toks:=Ļ+1 }) (r:=none) X J hp ht λ b=>?_);let#[cd,hc,GP]:=PySem.W.any_some hh;have hx:ß x=↑#[é C,↑dx,.plain,ű]:=I.obj;exact gV (Ad (gV (gV (wpAny_loadPart hx (gV (PySem.W.Looks.here (s:={ s with toks:=Ļ+1 }) (PySem.W.looks_clsIn X hc) ?_))))));rw[GP];exact Ad (a:=↑dx) (gV (Ad (gV ?_)));exact wpAny_nsSet1 (s:={ s with toks:=Ļ+1 }) I.ns λ h' hn2 Hg=>?_;let#[oD,esD,epD,hoD,hdD,hcD]:=hn2.count (PySem.Within.cons name v hw);exact gV (wpAny_lookBehind hoD (by rw[hdD];show pastItsLine_dict (Bj hcD (by rw[AX];lia))) ?_);show Ad (h _ #[(Hg.2 _ (Ne.symm I.ne)).trans I.obj,hn2,I.ne] Hg)
def OO {R:Result->Ý->Prop}{vs:Ah}{kw:Á6}(X:K.In ñ) (hm:PySem.W.makesIn K C=true)
  (hi:ā Æ4 "__init__"=↑↑ Ű) (hf:PySem.W.typeIn K Ű=↑(.type "function"))
  (h:codeAny Ă (A.under (Æ9 "type.__call__" #[é C::vs,kw])) (.call Ű #[é (Ã+1)::vs,kw]) (PySem.W.InitBack (Ã+1) R)
   { s with heap:=Â3 }):
  codeAny Ă A (.call (é C) #[vs,kw]) R s:=by
 let#[hh,g,d,t,os]:=s;show PySem.W.make_core (PySem.W.makes_of X hm) (PySem.W.looks_findIn X hi) (λ self=>PySem.W.bind_fn X self hf) Æ5 h
end
def xM É5 (v:V):þ->þ
 | []=>[(f,v)]
 | (g,x)::r=>if g=f then (g,v)::r else (g,x)::xM f v r
theorem Za (f g:Str) (v:V):∀ fs:þ,(xM f v fs).lookup g=if g=f then ↑v else È5 g
 | []=>by
  change ĳ g [(f,v)]=_;by_cases h:g=f
  .have hb:(g == f)=true:=Å8;simp![ĳ,hb,ň h]
  .have hb:(g == f)=â:=Ě h;simp![ĳ,hb,Ė h]
 | (k,x)::r=>by
  have ih:=Za f g v r;ext Ñ
  .rw[ň hk];by_cases h:g=k
   .have hb:(g == k)=true:=Å8;simp![ĳ,hb,ň (h.trans hk)]
   .have hb:(g == k)=â:=Ě h;simp![ĳ,hb,Ė (λ e:g=f=>h (e.trans hk.symm))]
  .rw[Ė hk];by_cases h:g=k
   .have hb:(g == k)=true:=Å8;simp![ĳ,hb,Ė (λ e:g=f=>hk (h.symm.trans e))]
   .have hb:(g == k)=â:=Ě h;simp![ĳ,hb];show ih
theorem ff É5 (v:V):∀ fs:þ,f∈(xM f v fs).map (·.1)/\∀ g,g∈ Â6->g∈(xM f v fs).map (·.1)
 | []=>#[by simp[xM],λ g h=>by simp at h]
 | (k,x)::r=>by
  let#[i1,i2]:=ff f v r;ext Ñ
  .rw[ň hk];subst hk;show#[#[],λ g h=>by exists h]
  .rw[Ė hk];exact#[?_,λ g h=>?_]
   .rw[Ay];show Av _ i1
   .rw[Ay] at h ⊢;rcases Ak.mp h with e | e
    .show Ak.mpr (Ĺ e)
    .show Av _ (i2 g e)
theorem Zg É5 (v:V):∀ fs:þ,(xM f v fs).length<=Ç9+1
 | []=>by simp[xM]
 | (k,x)::r=>by
  have ih:=Zg f v r;ext Ñ
  .rw[ň hk,AX,AX];lia
  .rw[Ė hk,AX,AX];lia
def wt.some_of {v:V}{o:ś Ë}(r:wt ↑v o):∃ u,o=↑u/\Ď:=by
 cases o with
 | none=>show (show False from r).elim
 | some u=>show#[u,rfl,r]
def wt.none_of {o:ś Ë}(r:wt none o):o=none:=by
 cases o with
 | none=>rfl
 | some u=>show (show False from r).elim
def NW {v:V}È7(r:Ď):PySem.W.handedIn u=true:=by
 cases v with
 | zp=>cases (show u=Value.none from r);rfl
 | bl b=>cases (show u=Value.bool b from r);rfl
 | int i=>let#[t,e]:=(show ∃ t,u=Value.int i t from r);cases e;rfl
 | str x=>let#[t,e]:=(show ∃ t,u=Value.str x t from r);cases e;rfl
 | mW b=>let#[t,e]:=(show ∃ t,u=Value.bytes b t from r);cases e;rfl
 | fR b=>let#[t,e]:=(show ∃ t,u=Value.float b t from r);cases e;rfl
 | ref a=>cases (show u=Ç7 from r);rfl
 | ty n=>cases (show u=Value.type n from r);rfl
section
variable {ë}{Ş}{ũ}{a C dx:Addr}{fs:þ}
def ox (zx:ŉ) (e:H a=↑ đ):∃ mA,ph h a dx C mA/\(ĺ)/\PySem.Within mA (Â6)/\Ç9<=1000/\H dx=↑(.own a):=by
 let#[d,z,ne,ob,mA,n,r,q]:=(show yS Ń a đ from zx a _ e)
 show#[mA,#[ob,n,ne],r,q,z,d]
end
structure uC Ľ (C:Addr):Prop where
 pg:Å9 K C Str.empty=true
 hd:Ŋ
 po:PySem.W.plainOver K C=true
 sa:Ġ
def uC.get {K:Ac}{C:Addr}(c:uC K C) É5:Å9 K C f=true:=c.pg
def pj Ľ (C:Addr) É5:Prop:=ā Æ4 f=↑none
def pj.HP {K:Ac}{C:Addr}{f:Str}(n:pj K C f):È4 K C f=↑none:=by
 unfold È4;rw[show ā Æ4 f=↑none from n];rfl
structure Meth Ľ (C:Addr) (m:Str) (f:Addr):Prop where
 at_:ā Æ4 m=↑↑ Ű
 fn:PySem.W.isFn K Ű=true
 kp:PySem.W.keepIn K Ű=true
section
variable {ĥ}{Ï}{a C dx:Addr}{fs:þ}{f:Str}{v:V}{ø}{Ŷ}
def MO {b:Bool}{Q:Af}Ö ő (n:pj X.K C f) (l:È5 f=↑v)
  (h:∀ u s',Inv Ð H s'->Ď->Q u s'):à (model ò) A (getAttr (é a) f b) Œ:=by
 ext Ã6;let#[u,hu,ru]:=wt.some_of (v:=v) (o:=mA f) (by rw[<- l];show r f);show get_map I.xy O (c.get f) c.hd n hu (NW ru) (h u _ (ı) ru)
def ZR {m:Str}{g:Addr}À1 Ö ő (k:Meth X.K C m g) (l:È5 m=none)
  (h:Q (é g,[é a]) s):à (model ò) A (getMethod (é a) m pl) Œ:=by
 ext Ã6;have hn:mA m=none:=wt.none_of (by rw[<- l];show r m);show MP I.xy O (c.get m) k.at_ k.fn hn h
def VX {y:V}È7 Ę Ö ő (n:pj X.K C f) (hl:Ç9<1000) (ry:RelV y u)
  (h:∀ s',Inv Ð (upd H a (.ins C dx (xM f y fs))) s'->Q È2 s'):à (model ò) A (setAttr (é a) f u) Œ:=by
 let#[mA,O,r,wi,_,ho]:=ox I.zx e;have hz:(Â6).length<=ð:=by rw[AD,sizeLine_eq];lia
 exact VY I.xy O c.sa c.po n.HP c.hd wi hz λ h' O' sb=>h _ ?_;have hd:∃ o,Ā dx=↑o:=let #[o,_,_,e',_]:=O'.ns;#[o,e']
 exact I.write (x:=a) (e:=dx) (by rw[e];show True.intro) (.inr ho) (λ b q hb z=>(sb.2 b hb).trans z) hd ?_;exact#[by rw[yj O.ne];show ho,?_,O.ne,O'.obj,_,O'.ns,λ g=>?_,λ g hg=>?_]
 .have:=Zg f y fs;lia
 .change wt ((xM f y fs).lookup g) (if g=f then ↑u else mA g);rw[Za];by_cases q:g=f
  .rw[ň q,ň q];show ry
  .rw[Ė q,Ė q];show r g
 .by_cases q:g=f
  .rw[q];show (ff f y fs).1
  .exact (ff f y fs).2 g (wi g λ z=>hg ?_);change (if g=f then ↑u else mA g)=none;rw[Ė q];show z
def Inv.made Ö:Inv Ð (upd (upd H Ã (.own (Ã+1))) (Ã+1) (.ins C Ã []))
  { s with heap:=Â3 }:=by
 have e1:(Ô).get? Ã=↑ Ä3:=AK ñ rfl;have e2:(Â3).get? (Ã+1)=↑(ü C Ã):=by
  have:=AK (Ô) (o:=ü C Ã) rfl
  rwa [Heap.size_push] at this
 have e3:(Ô).Ns Ã (λ _=>none):=#[Ä3,ű,_,e1,rfl,(λ e he=>À4 he #[]),λ _=>rfl];have I1:=I.laid (a:=Ã) (o:=.own (Ã+1)) (h':=Ô) (t':=Ļ) (λ b u q=>za1 _ q) (Ao _) #[_,e1];exact I1.laid (a:=Ã+1) (o:=.ins C Ã []) (t':=Ļ) (λ b u q=>za1 _ q) (Nat.le_of_eq (Heap.size_push _ _)) ?_;have ne:Ã ≠ Ã+1:=AI (B6 _);exact#[by rw[yj ne,y7],Be _,ne,e2,λ _=>none,(Heap.Ns1.of_empty e3).at λ o q=>za1 _ q,λ _=>True.intro,λ y hy=>À4 rfl hy]
def Ji {prog:ŕ}{w:World}{env:Env}Ç1{f:Str}ă É1{Q:Af}(hb:attributeBase e f env (eval e env)=eval e env)
  (h:à Ă A (eval e env) (λ o s₁=>à Ă A (getAttr o f true) Q E s₁) E s):à Ă A (eval (.Attribute e f pos) env) Œ:=
 Attribute_any_ h (by rw[arm_eval_Attribute,hb])
end
def V8 Ľ (ta:TE) É5:TE:=fun σ H Q=>ta ç λ x H1=>∃ a C dx fs v,x=é a/\H1 a=↑ đ/\uC K C/\pj K C f/\È5 f=↑v/\Q v H1
def Ud Ľ (ta tv:TE) É5:TS:=λ D σ H=>tv ç λ y H1=>ta Ņ λ x H2=>∃ a C dx fs,x=é a/\H2 a=↑ đ/\uC K C/\pj K C f/\Ç9<1000/\
 D.nx σ (upd H2 a (.ins C dx (xM f y fs)))
section
variable {ĥ}{o e value:Expr}{f:Str}{pos pos':Pos}{ta tv:TE}
def T7 (he:PE X e ta) (hb:attributeBase e f Þ (Â7)=Â7):PE X (.Attribute e f pos) (V8 X.K ta f):=by
 ext Û;exact Ji hb (zD (he Ç) λ u s1 #[x,H1,I1,rx,a,C,dx,fs,v,ex,ea,c,n,l,q]=>?_);subst ex;obtain rfl:u=Ç7:=rx;show MO I1 ea c n l λ u' s2 I2 ru=>#[v,H1,I2,ru,q]
def UK (ha:PE X o ta) (hv:PE X value tv) (hs:swapsWith value ↑(.Attribute o f pos') pos.line Þ=pure â):PS X (.Assign [.Attribute o f pos'] value pos) (Ud X.K ta tv f):=by
 ext ä;exact plainObj_wpAny_Assign_Attribute (zD (hv Ç) λ u s1 #[y,H1,I1,ry,q]=>zD (ha ã _ I1 q) λ ov s2 #[x,H2,I2,rx,a,C,dx,fs,ex,ea,c,n,l,q2]=>?_) hs;subst ex;obtain rfl:ov=Ç7:=rx;show VX I2 ea c n l ry λ s3 I3=>#[σ,_,I3,q2]
end
structure yh (k:Nat) (A:Around):Prop where
 hd:A.handled=none
 dp:A.depth+3*k+5<recursionLimit
 un:A.units+16*k+200<cLine
def yh.mono {j k:Nat}ø(r:yh k A) (h:j<=k):yh j A:=#[r.hd,by have:=r.dp;lia,by have:=r.un;lia]
theorem yh.deeper {k:Nat}ø(r:yh (k+1) A) (env:Env):yh k (A.deeper env):=
 #[r.hd,by have:=r.dp;change A.depth+1+3*k+5<_;lia,by have:=r.un;change A.units+3+16*k+200<_;lia]
def OP ø{C:Addr}{us:Ah}{kw:Á6}:(õ).depth=A.depth+1:=by
 first | rfl | simp[Around.under,Code.weight,Code.isCreation,Code.isGuard,Code.isCaller,Code.frames,Code.isFrame,guardIds]
def OM ø{C:Addr}{us:Ah}{kw:Á6}:(õ).units=A.units+1:=by
 first | rfl | simp[Around.under,Code.cUnits,Code.frames,Code.isFrame]
def yh.make {k:Nat}ø(r:yh (k+1) A) (C:Addr) (us:Ah) (kw:Á6):yh k (õ):=
 #[r.hd,by have:=r.dp;rw[OP];lia,by have:=r.un;rw[OM];lia]
theorem yh.depth {k:Nat}ø(r:yh k A):A.depth<recursionLimit:=by have:=r.dp;lia
theorem yh.units {k:Nat}ø(r:yh k A):A.units+64<cLine:=by have:=r.un;lia
def iG:TA:=λ _ H Q=>Q [] H
def iI (ta:TE) (tr:TA):TA:=fun σ H Q=>ta ç λ x H1=>tr Ņ λ xs H2=>Q (x::xs) H2
section
variable {ĥ}{Ç1}{es:ņ}{te:TE}{t:TA}{ă}
def pX:PA X [] iG:=λ _ _ _ _ H Q I h=>Calls.spliced_nil #[[],H,I,.nil,h]
def qA (ha:PE X e te) (hr:PA X es t) (hs:AJ X e es:=by rfl):PA X (e::es) (iI te t):=by
 intro pos E6 s σ H Q I h;rw[hs];change à _ _ (spliced ((â,Â7)::backTo pos (À7))) _ _ s;exact Calls.spliced_cons (zD ŗ λ u s1 É=>?_);show zD (hr pos ã _ I1 q1) λ us s2 #[xs,H2,I2,r2,q2]=>#[x::xs,H2,I2,Ň r1 r2,q2]
def Vr (t:TA):TE:=fun σ H Q=>t ç λ xs H1=>ě<=ð/\∀ p,H1 p=none->Q (é p) (upd H1 p ţ)
def V4 (t:TA):TE:=fun σ H Q=>t ç λ xs H1=>ě<=ð/\∀ p,H1 p=none->Q (é p) (upd H1 p (.lst xs))
def Tr {x1} (h:PA X es t):PE X (.Tuple es x1 pos) (Vr t):=by
 intro E6 s σ H Q I hq;exact wpAny_Tuple_spliced ú;have hf:H1 č=none:=Ã0;exact#[é č,upd H1 č ţ,ŋ,rfl,q _ hf];show#[#[z,.new _],us,r,#[_,AK _ rfl,rfl,_,rfl]]
def Tz (h:PA X es t):PE X (.List es pos) (V4 t):=by
 intro E6 s σ H Q I hq;exact wpAny_List_spliced ú;have hf:H1 č=none:=Ã0;exact#[é č,upd H1 č (.lst xs),ŋ,rfl,q _ hf];show#[z,us,0,r,AK _ rfl]
end
abbrev Sp:=Ć->Hp->VK->XK->Prop
abbrev uZ:=Æ6->Hp->Ý->XK->Ë->Ý->Prop
structure pC (P:ŕ) ŧ Ľ (mg:AA) (base:Heap) (A:Around) (outer:Æ6) (s:Ý) Ł:Prop where
 frames:A.frames=↑outer
 mod:Mod K mg base
 bs:∀ b o,base.get? b=↑o->Ĭ/\ö
 r_:base.objs.size<=Ã
 ur:Ŧ base outer
 qI:∀ b∈vX outer,ö
 zx:yL P w H ñ
 bare:AllBare s.gens
)
example:=`(
example À:=s.heap.objs.size
example Š:=.cell
example ş:=env.scope.kind == .function
example ó:=NameKind.free
example Á:=(k == ó&&ş&&env.kindOf n == ↑ Š)
example Ŧ:=.lst
example Ų:=ys.length
example Ó:=.ref
example È7:=(Ó D)
example ñ:=sizeLine
example Â:=∀ i m σ H,W i m σ H->(J.stop i H/\Q È7 H)\/(J.go i H/\∀ x H',J.pH i H x H'->g x σ H' fun σ2 H2=>tc σ2 H2 λ b H3=> if b=true then te σ2 H3 λ y H4=>∃ ys m',H4 D=↑(Ŧ ys)/\Ų<ñ/\m'<m/\W (i+1) m' σ2 (upd H4 D (Ŧ (ys++[y]))) else ∃ m',m'<m/\W (i+1) m' σ2 H3)
example Ö:=scope
example Ã:=(y4 X N' Ö cl C s H fp)
example Ä:=(.ListComp elt [#[tg,iter,ifs,0]] Ö pos)
example ň _:=x X.prog X.w
example Å _:=x (model ň) X.A
example î _:=x X E6 σ
example Æ:=Inv î H s
example Ç:=items.size
example Ĭ:=s₁.heap
example Ľ:=.bool true
example È _:=x callerA (.call (Ó fa) #[[Ó a],[]]) (λ r s'=>r=.ok (.ret (Ľ))/\OldK Ĭ s'.heap/\s'.os=s₁.os/\AllBare s'.gens) s₁
example ë:=scope.names
example É:=(x,ó)∈ ë
example Ù:=Shared
example Ê{E6:Aj}{σ:St}{H:Hp}{s:Ù}:=0
example Ë:=Option
example Ì:=xs.length
example õ:=NameKind.cell
example È4:=(n,k)
example Í:=(names.map λ È4=>if Á then (n,õ) else È4).lookup x
example Ķ:=.type
example Î:=Ķ "list"
example Æ1 _:=x kV doc pm an Ai ct
example Ï:=PySem.W.fnOf x qual (v_ st) (yZ st) (zW st) .none Æ1
example Ð(hg:∀ cl C s H fp,PG Ã tg g) (hf:∀ cl C s H fp,PF Ã ifs tc) (he:∀ cl C s H fp,PE Ã elt te):=0
example Ñ:=List.lookup x ((if Á=true then (n,õ) else È4)::_)
example â:=Value
example Ĥ:=wpAny
example Ś(H:Hp):=0
example É0(s:Ù):=0
example ù(E6:Aj) É0 (σ:St) Ś:=0
example œ:=.builtin
example Õ:=List V
example Ł _:=x (EP î Q) X.xe
example Ò:=∀ ù (x:V) (xs:Õ) (v:â) (us:Ah) (Q:VK),Æ->RelV x v->Vals xs us->r x xs H Q-> Ĥ Å (call (œ id) (v::us)) Ł s
example Ô(hb:Binds X.K fd ps ds) (hd:Vals dvs ds) (hx:Passes CX X E):=0
example Ø:=PySem.mem_of_lookup
example Ú:=s3.heap.push { cls:=Ķ "slice",data:=.fields [vl,vu,.none].toArray }
example ı:=Ë Int
example Û:=V->ı->ı->Hp->VK->Prop
example Ü:=scope.names.lookup
example Ý(F:wL ň X.K X.mg X.base CX k f fd ps sp):=0
example Ů _:=x _ _
example Þ _:=x Ů _
example Ç0{P:Program}{w:World}{K:Ac}:=0
example ß Ç0{mg:AA}{base:Heap}:=0
example Ã5:=by let#[j,h1,h2,h3,h4,h5]:=dg he
example à:=by ext Ã5;let#[w,ew,GG]:=r.get h2;have hl:=r.length;have hn:=qD;have fin:EP î Q w s:=#[z,H,I,GG,q]
example á:=List Str
example ã:=by rw[yj (vS q h (by intro z;cases z))];show q
example ä(he:AJ X e es:=by rfl) (Ap:AO X pos es:=by rfl):=0
example å _:=x P w K mg base
example ī:=false
example æ(BI:(x == ("__debug__":Str))=ī:=by decide):=0
example ç:=by intro E6 s σ H Q I h
example ġ(K:Ac):=0
example è ġ Ś:=0
example é:=envOfC qual Ö À f cd
example À5:=zG Ç Ç hi
example Ŗ:=zG Ç 0 lo
example ê:=(items.toList.drop (Ŗ)).take (À5-Ŗ)
example ì:=Õ->Hp->VK->Prop
example í:=X.env.scope.names.lookup
example ą:=outer
example ï(A:Around) (ą:List Env) É0 Ś:=0
example À8:=by intro value slice E6 s σ H x y v u Q I rx ry h hs
example ð:=by ext À8;let#[p,xs,i,z,rfl,rfl,hq,he,q]:=h;cases rx;let#[t,rfl]:=ry
example ò _:=x E6 s σ H
example ô:=cl.lookup x
example ö _:=x X (.Call (.Name x p) (e::es) [] pos)
example ø _:=x rfl hs GQ S.kind (λ y hy e=>e▸S.uniq y hy) (zD (hi ò _ I h) λ v s1 h1=>zD h1 λ itv s2 h2=>?_)
example ú:=List (Str×Addr)
example û:=Aa.toArray
example ť{x:Str}:=0
example ü{kindOf:Str->Ë NameKind}ť:=0
example ý:=by let#[Aa,r',pl,hz]:=I.list hq;have hlen:=r'.length
example Ÿ:=(Ao _)
example þ:=I.zx.fresh Ÿ
example ÿ:=H2.objs.size
example Ā(e:Ext H H'):=0
example ā _:=x (zD (ha pos ò _ I h) λ us s1 #[vs,H1,I1,r1,q1]=>hc E6 s1 σ H1 vs us Q I1 r1 q1) he Ap
example Ă:=by let#[x,r,h1,h2,h3]:=h
example ă:=(∀ d S',Q d S'->Q' d S')->t δ S Q->t δ S Q'
example đ:=X.env
example Ą:=by ext ç;let#[cl,GQ,c1,c2]:=YM (Ö:=Ö) (env:=đ) λ y hy hk=>I.ok.has y.1 (S.free y hy hk)
example Ç6:=(1:Int)
example À7:=HT.zG
example ţ:=sliceBounds
example Ć:=by simp![ţ,À7,Option.getD_none,show Ç6>0 by decide,if_true];by_cases h:i<0
example Æ8:=by let#[u,rfl,rx]:=vals1 r;cases rx
example Ž:=by intro E6 s σ H xs us Q I r h
example ć:=by ext Ž;let#[p,ys,rfl,hq,q]:=h;ext Æ8
example Ç2:=sp vs H Q E
example Ő:=ps.length
example Ç5:=vs.length
example Ĉ:=∀ vs H Q E,Ç2->Ç5=Ő
example ĉ{q:Program}{loose:á}{XP:(Str->Ë â)->Heap->Prop}{YP:World->Heap->Prop}{d:DefRec}:=0
example Ĳ:=(n:Int)
example Ċ:=if v<0 then (v+Ĳ).toNat else min v.toNat n
example ů _:=x K H
example ċ:=zk ů ds xs
example Č:=by simpa only [zg] using h
example č:=List (Ë Nat)
example Ď _:=x kindOf ((p,w)::P.zip vs) m
example ď:=absurd
example Â0:=(by simp![AH] <;> lia)
example Đ _:=x Â0 #[.int Ų,H,I.tok _,#[s.toks+1,by rw[AH,hlen]],q]
example Ē:=False.elim
example ē:=if_neg
example Ĕ:=λ p hp=>ď (show p∈([]:Aj) from hp) #[]
example ĕ:=(((Ŗ:Nat):Int) == 0&&Ç6 == 1&&(À5-Ŗ) == Ç)=true
example Ė:=Builtin.Tuple.tupleExact _
example È2:=ns.map
example ė:=(È2 V.int)
example Ę:=s.heap.get?
example ę(BD:∀ b∈fp,ue X E6 H b):=0
example Ě:=(Ŧ xs)
example Ã8:=s.heap.IsSliceOf sl vl vu .none
example ě(hs:Ã8) (pl:IsPart vl lo) (pu:IsPart vu hi):=0
example Ĝ:=Builtin.Slice.slicePlaces
example ĝ:=by rw[yj (tF q h)];show q
example Ğ _:=x (zD (ha pos ò _ I h) λ us s1 #[vs,H1,I1,r,q]=>#[I1.xy,?_]) he Ap
example ğ:=if_pos
example ū _:=x A ą s H
example Ġ:=(xQ CX å N qual Ö f Ai ū E)
example Ģ(ha:PA X (e::es) t):=0
example ģ(S:rf X N' pick Ö) (hc:X.calm=true):=0
example ĥ:=Hp->Prop
example Ħ:=À7 Ì 0 lo
example ħ:=Aa.toArray.size
example Ĩ:=by .let#[_,_,_,_,o,_,_,e,ex,_]:=I.zx p _ hk;show#[o,e,ex]
example ĩ{xs:Õ}:=0
example Ī _:=x ho hc hd (λ h' c' kp e=>fin Aa r' hz h' c' kp e) Â0
example ĭ _:=x lo hi
example Į:=by let#[oc,od,kV,doc,pm,an,Ai,ct,Gz,rfl,lk,BJ]:=F.ex
example į:=.inl
example İ:=List Int
example ĳ:=(Ad #[_,rfl,Ad h])
example Ĵ:=(PySem.W.fnOf name qual params body Ö dV Æ1)
example ĵ(hs:∀ x,foldedSetIterable iter đ x=pure x:=by intro _;rfl):=0
example ķ:=((zG n 0 lo:Nat):Int)
example Ã1(w:World):=0
example ĸ(P:Program) Ã1:=0
example Ĺ:=by exact#[#[o,e,ex.1],λ a e2=>?_];cases e2;show#[o,e,ex.2.1]
example ĺ:=by let#[it,fp,tn,J,H2,e,I2,T,Hx,f2,rd]:=h2;subst e
example Ļ:=Value.ref (À+1)
example ļ:=[].toArray
example ľ:=(own++cl).lookup
example Ŀ(I:Æ):=0
example ŀ{x qual:Str}{st:Stmt}{f:Addr}:=0
example ł{K:Ac}{H H':Hp}:=0
example Ń:=by let#[Aa,r',pl,hz]:=I.tuple hq
example ń:=mainGlobals
example Ņ:=List (Str×NameKind)
example ņ:=X.env.cells.lookup x
example À6:=.seq
example Ň:=À6 vs.toArray
example ŉ:=∀ É0 (u:â),BindsTo s fd #[[u],[]] [(x,u)]
example Ŋ:=compEnvC Ö cl C đ
example ŋ _:=x q loose XP YP l.row.toRowW d [] (λ f vs=>PySem.call f vs)
example Ō:=PySem.W.codeIn K Ai qual=true
example ō:=by rcases Ak.mp hx with q | q
example Ŏ:=PyProof.Rows
example ŏ:=PySem.W.nsIn
example ő _:=x he c1 c2 I2 T Hx f2 rd λ C D oC H' s' hC J' ho hn q=>?_
example Œ:=FuncData
example Ŕ:=.inr
example ŕ:=K.lookup
example ŗ:=s₁.heap.get?
example Ř:=λ _ _ _=>False
example ř:=List D
example ś{Ö:Scope}:=0
example Ŝ{p:Addr}:=0
example ŝ:=Builtin.Slice.sliceAdjust
example Ş:=((i:Int)+(m:Int)*1).toNat
example š:=.free
example Ã4 _:=x (start N vs) H
example Ţ:=t { nx:=λ _ H'=>Q .zp H',rt:=Q } Ã4
example É2:=List Addr
example Ť{fp:É2}{tn:Nat->Heap->Prop}{J:It}{cl:ú}:=0
example ŧ:=Builtin.List.listTooLong
example Ũ:=IntsAre vs ns
example ũ:=(assign (.Name y py) đ)
example Ū:=Paired.nM h λ p q z=>#[z.1,zg.ext e p.2 z.2]
example Ŭ{X:Cx}:=0
example Ç7:=s.heap.push
example ŭ:=Ç7 { cls:=Ķ "dict",data:=.dict ļ }
example Ű:=Ë Addr
example ű:=(vs++dvs)
example ų:=env.cells.lookup
example Ŵ:=SS->Prop
example ŵ _:=x (i:=i) (Bu.mp nd).2 (by exists h1) (by exists h2) hk
example Ŷ:=by intro E6 s σ H x v vl vu lo hi sl Q I rx hs pl pu h
example ŷ:=X.stack
example Ź:=own.lookup
example ź:=BD b hb
example Ż(lo hi:ı):=0
example ż(c:Str) (C:Addr):=0
example ž:=by simp![zg] at h ⊢;let#[a,xs,h1,h2,h3]:=h
example ſ:=ForInStep.yield
example À0{p pos:Pos}{e:Expr}{es:List Expr}{t:TA}:=0
example À1:=(∀ b∈fp,H' b=none)
example À2(vs:Õ) (Q:VK) (E:XK):=0
example À3:=(ps.zip us)
example À4:=PySem.W.keepIn
example À9:=by rw[Ay] at h;simp![zk,zg] at h;ext Ă;subst h1 h2
example Á0:=#[cl,?_,λ x d hx=>?_,λ x hx=>?_]
example Á1:=I8.pin (b,o) (AY _ (AY _ (k6 hb e)))
example Á2:=ď (show b∈([]:É2) from z) #[]
example Á3:=if x=y then lexLt xs ys else decide (x<y)
example Á4:=(r.drop (Ħ)).take (À7 Ì Ì hi-Ħ)
example Á5:=Heap.size_push
example Á6:=Paired λ p q=>p.1=q.1/\zg ů p.2 q.2
example Á7:=Inv Ã [] σ' H' s'
example Á8:=Option.none
example Á9:=Ę p=↑{ cls:=Î,data:=À6 û n }
example Â1:=(if v<0 then max (v+Ĳ) 0 else min v Ĳ)
example Â2:=Ę l=↑{ cls:=Î,data:=À6 û n }
example Â3 _:=x X.K H p ys
example Â4:=by have e':b=a:=hA b (by rw[q];simp);subst e'
example Â5:=cellsFrom
example Â6:=s.heap.update
example Â7:=ns.length
example Â8:=(x,õ)∈ ë
example Â9:=λ _ _ z=>Ē z
example Ã0:=by ext ç;exact zaM (om I hg hm hv ?_ hn BI)
example Ã2:=by simp at h
example Ã3{σ':St}{H':Hp}{s':Ù}{oC:Obj}:=0
example Ã6:=sc.names.lookup x
example Ã7:=PyProof.Rows.slot_tuple_getitem
example Ã9:=λ b ob q=>za1 _ q
example Ä0:=s3.heap.objs.size
example Ä1:=Obj.mapSeq
example Ä2:=K w.params
example Ä3:=ô=↑c
example Ä4:=uj pick σ
example Ä5:=Inv X (E6++[(C,oC)]) σ H' s'
example Ä6{A:Around}:=0
example Ä7:=by let#[z,Aa,n,r,hl,e]:=I.gT hH
example Ä8:=codeAny_mono
example Ä9:=λ v hv=>(Bu.mp nd).1 (DV hv).1
example Å0:=(by rw[hk];show#[_,I',q])
example Å1(sp:Sp) (dvs:Õ) (E:XK) (t:TA):=0
example Å2:=by rcases e2 x d hx with q | ⟨q1,q2⟩
example Å3:=Nat->Nat->St->ĥ
example Å4{binds:List (Str× â)}{m:AA}:=0
example Å5(hn:x≠"__name__":=by decide):=0
example Å6 _:=x (C,oC) (AY _ (AY _ (Au.mpr rfl)))
example Å7:=by have:x≠n:=by rintro rfl;show h v Al
example Å8{P:á}{vs:Ah}{i:Nat}{m:AA}:=0
example Å9:=by intro E6 s σ H x vs v us Q I rx rv h
example Æ0(hn:l.most=↑n):=0
example Æ2(T:Turn ň X.K tg J fp it tn):=0
example Æ3:=(λ v H2=>v=.zp/\Q (Ó x) H2)
example Æ4:=xQ CX å N qual Ö f cd ū E
example Æ5:=ŗ a=↑{ cls:=Î,data:=Ň }
example Æ6(hg:Gl X x) (hm:X.mg x=none):=0
example Æ7(X:Cx) (id:String) (r:V->ì):=0
example Æ9(a:Addr):=0
example Ç1:=by simp![zk] at h
example Ç3:=codeAny
example Ç4:=(model P w)
example Ç8:=pl.isList
example Ç9:=(upd H p (Ŧ (xs.set j v)))
example È0{a:Addr}:=0
example È1:=Aa.length
example È3:=(ô).isSome
example È5:=h.objs.size
example È6:=pushCells_keeps
example È8:=by simpa only [BF,zk] using h
example È9:=(upd H p u)
example É1{fd:Œ}{ps:á}:=0
example É3{us:Ah}:=0
example É4:=by ext ç;exact zaM (g_ I hg hm ?_ BI)
example É5{n:Nat}:=0
example É6 _:=x ů a xs
example É7:=by cases rx;let#[u,rfl,ru]:=rv.one
example É8 _:=x [Ó a] H (λ v _=>v=.bl true) Ř
example É9{env:Env}:=0
example Ê0 _:=x hc i [] s3 σ3 H3 _ I3 (Ga fr3)
example Ê1(r:zN ů S):=0
def CE (ą:List Env) ĸ Ś É0 (Q:VK) (u:â) (s':Ù):Prop:=
 ∃ v H',s'.os=s.os/\AllBare s'.gens/\Un (vX ą) [] H H' s.heap s'.heap/\yL P w H' s'.heap/\RelV v u/\Q v H'
def CR (CX:uZ) (ą:List Env) ĸ Ś É0 (Q:VK) (E:XK) (r:Result) (s':Ù):Prop:=
 match r with
 | .ok (.ret u)=>CE ą P w H s Q u s'
 | .ok _=>False
 | .error e=>CX ą H s E e s'
structure wL ĸ ġ (mg:AA) (base:Heap) (CX:uZ) (k:Nat) (f:Addr) (fd:Œ) (ps:á) (sp:Sp):Prop where
 len:Ĉ
 run:∀ ï (args:Args) (us:Ah) À2,yh k A->pC å ū->BindsTo s fd args À3->Vals vs us->Ç2->
  Ç3 Ç4 A (.call (Ó f) args) (CR CX ą P w H s Q E) s
def pC.make ß Ä6{ą:List Env}{s:Ù}{H:Hp}(e:pC å ū) (C:Addr) (us:Ah) (kw:List (Str× â)):
  pC å (A.under (œ "type.__call__" #[Ó C::us,kw])) ą s H:=#[by first | show e.frames | (simpa [Around.under,Code.envs,Code.isFrame,pushEnvs] using e.frames),e.mod,e.bs,e.r_,e.ur,e.qI,e.zx,e.bare]
section
variable {Ŭ}{E6:Aj}{σ:St}{H:Hp}{s s':Ù}
def Inv.Yl Ŀ:pC ň X.K X.mg X.base X.A ŷ s H:=
 #[I.ok.frames,I.ok.mod,I.bs,Bj I.ok.r_ I.sz,I.stack,I.cP,I.zx,I.bare]
theorem Inv.after {Q:VK}{u:â}Ŀ (h:CE ŷ ň H s Q u s'):EP î Q u s':=by
 let#[v,H',os,bare,un,zx,r,q]:=h;let#[hh,g,d,t,HV]:=s';obtain rfl:HV=s.os:=os;show#[v,H',I.call (h':=hh) (g':=g) (d':=d) (t':=t) (ch:=[]) un zx bare (λ b z=>ď z #[]),r,q]
end
def cO Å1:TE:=fun σ H Q=>t σ H λ vs H1=>sp ű H1 Q E
def V3 (C:Addr) Å1:TE:=fun σ H Q=>t σ H λ vs H1=>∀ x dx,H1 x=none->H1 dx=none->dx≠x->
 sp (Ó x::ű) (upd (upd H1 dx (.own x)) x (.ins C dx [])) Æ3 E
def Binds ġ (fd:Œ) (ps:á) (ds:Ah):Prop:=
 ∀ É0 (us:Ah),K.In s.heap->(us++ds).length=Ő->BindsTo s fd #[us,[]] (ps.zip (us++ds))
def Binds.all {K:Ac}É1(h:∀ us:List â,us.length=Ő->bindArgs fd #[us,[]]=pure À3):Binds K fd ps []:=λ s us _ hl=>by
 rw[BQ] at hl ⊢;show .of_eq (h us hl)
def Passes (CX:uZ) (X:Cx) (E:XK):Prop:=∀ (E6:Aj) (σ:St) Ś É0 (e:â) (s':Ù),Æ->CX ŷ H s E e s'->X.xe e s'
section
variable {Ŭ}{CX:uZ}{k:Nat}{f C:Addr}{É1}{sp:Sp}{dvs:Õ}{ds:Ah}{E:XK}{ť}{À0}
def iZ Ê{Q:VK}É3{vs:Õ}Ý (hr:yh k X.A) Ô
  Ŀ (r:Vals vs us) (h:sp ű H Q E):Ĥ Å (call (Ó f) us) Ł s:=by
 have r2:Vals ű (us++ds):=r.append hd;have hl:(us++ds).length=Ő:=by rw[<- r2.length];show F.len Þ _ h
 exact wpAny_call (Ä8 (F.run X.A ŷ s H #[us,[]] (us++ds) ű Q E hr I.Yl (hb s us I.xy hl) r2 h) λ r s' hq=>?_);cases r with
 | error e=>show hx E6 σ H s e s' I hq
 | ok fl=>
  cases fl with
  | ret u=>show I.after hq
  | _=>show Ē hq
def TJ Ý (hr:yh k X.A) (hg:Gl X x) (hm:X.mg x=↑(Ó f)) (hk:À4 X.K (Ó f)=true) Ô
  Ģ æ ä:
  PE ö (cO sp dvs E t):=by
 ext É4;exact PySem.W.callWith_K (h₀:=X.base) I.ok.mod.nQ hk Ğ;show iZ F hr hb hd hx I1 r q
structure Mk ġ (C f:Addr):Prop where
 makes:PySem.W.makesIn K C=true
 init:PySem.W.findIn K (Ó C) "__init__"=↑↑(Ó f)
 fn:PySem.W.isFn K (Ó f)=true
 kp:À4 K (Ó C)=true
def Ui Ê{Q:VK}É3{vs:Õ}(M:Mk X.K C f) Ý (hr:yh (k+1) X.A) Ô Ŀ (r:Vals vs us)
  (h:∀ x dx,H x=none->H dx=none->dx≠x->sp (Ó x::ű) (upd (upd H dx (.own x)) x (.ins C dx [])) Æ3 E):
  Ĥ Å (call (Ó C) us) Ł s:=by
 have hq:=h (À+1) À (I.zx.fresh (Nat.le_succ _)) (þ) (AI (B6 _));have I2:=Inv.made (C:=C) I;have r2:Vals (V.ref (À+1)::ű) (Ļ::(us++ds)):=.cons rfl (r.append hd);have hl:(Ļ::us++ds).length=Ő:=by
  have e:=r2.length;rw[F.len Þ _ hq] at e;show e.symm
 exact wpAny_call (OO (f:=f) I.xy M.makes M.init (beq_iff_eq.mp M.fn) (Ä8 (F.run _ ŷ Ů #[Ļ::us,[]] (Ļ::(us++ds)) Ů E (hr.make C us [])
  (I2.Yl.make C us []) (hb _ (Ļ::us) I2.xy hl) r2 hq) λ r s' Hh=>?_))
 cases r with
 | error e=>show hx E6 σ Ů e s' I2 Hh
 | ok fl=>
  cases fl with
  | ret u=>
   let#[v,H',I3,rv,ev,q3]:=I2.after Hh;subst ev;show#[rv,#[V.ref (À+1),H',I3,rfl,q3]]
  | _=>show Ē Hh
def Tx (M:Mk X.K C f) Ý (hr:yh (k+1) X.A) (hg:Gl X x) (hm:X.mg x=↑(Ó C)) Ô
  Ģ æ ä:
  PE ö (V3 C sp dvs E t):=by
 ext É4;exact PySem.W.callWith_K (h₀:=X.base) I.ok.mod.nQ M.kp Ğ;show Ui M F hr hb hd hx I1 r q
end
structure vc (N P:á) (sc:Scope):Prop where
 kind:sc.kind=.function
 co:sc.isCoroutine=ī
 gen:sc.isGenerator=ī
 nd:N.Nodup
 pre:N.take P.length=P
 par:∀ x∈P,Ã6=↑.local\/Ã6=↑ Š
 Ox:∀ y∈sc.names,y.2≠ š
theorem Xo ü:∀ Å4,(∀ v,(x,v)∉binds)->bindL kindOf binds m x=m x
 | [],_,_=>rfl
 | (n,v)::r,m,h=>by
  unfold bindL;rw[Xo λ w hw=>h w (Av _ hw)];split
  .ext Å7
   simp[this]
  .rfl
theorem Xq ü:∀ Å4,(∀ v,(x,v)∉binds)->bindC kindOf binds m x=m x
 | [],_,_=>rfl
 | (n,v)::r,m,h=>by
  unfold bindC;rw[Xq λ w hw=>h w (Av _ hw)];split
  .rfl
  .ext Å7
   simp[this]
theorem Xp ü{v:â}:∀ Å8,P.Nodup->P[i]?=↑x->vs[i]?=↑v->kindOf x=↑.local->
  bindL kindOf (P.zip vs) m x=↑v
 | [],_,_,_,_,h,_,_=>Ã2
 | _::_,[],_,_,_,_,h,_=>Ã2
 | p::P,w::vs,0,m,nd,h1,h2,hk=>by
  simp at h1 h2;subst h1;subst h2;change bindL Ď p=_;unfold bindL;rw[Xo Ä9,ğ hk];simp
 | p::P,w::vs,i+1,m,nd,h1,h2,hk=>by
  change bindL Ď x=_;unfold bindL;show Xp ŵ
theorem Xr ü{v:â}:∀ Å8,P.Nodup->P[i]?=↑x->vs[i]?=↑v->kindOf x≠↑.local->
  bindC kindOf (P.zip vs) m x=↑v
 | [],_,_,_,_,h,_,_=>Ã2
 | _::_,[],_,_,_,_,h,_=>Ã2
 | p::P,w::vs,0,m,nd,h1,h2,hk=>by
  simp at h1 h2;subst h1;subst h2;change bindC Ď p=_;unfold bindC;rw[Xq Ä9,ē hk];simp
 | p::P,w::vs,i+1,m,nd,h1,h2,hk=>by
  change bindC Ď x=_;unfold bindC;show Xr ŵ
def start (N:á) (vs:Õ):St:=vs.map some++List.replicate (N.length-Ç5) none
def xQ (CX:uZ) ĸ ġ (mg:AA) (base:Heap) (N:á) (qual:Str) (Ö:Scope) (f:Addr) (cd:â) ï (E:XK):Cx where
 prog:=P
 w:=w
 K:=K
 mg:=mg
 base:=base
 A:=A.deeper (é)
 N:=N
 s₀:=s
 H₀:=H
 env:=é
 ą:=ą
 stack:=é::ą
 ex:=[]
 calm:=true
 fn:=λ _=>true
 pn:=[]
 xe:=λ e s'=>Ĥ Ç4 (A.deeper (é)) (leaving (é) e) (λ _ HS=>CX ą H s E e HS) (λ e' HS=>CX ą H s E e' HS) s'
def YW {sc:Scope}É5 ť(h:Ã6=↑ Š):∃ c,(Â5 n sc.names []).lookup x=↑c:=by
 have q:=PySem.W.cellsFrom_some sc.names n [] (į h);show DU.mp q
def ND {CX:uZ}ß{N ps:á}{qual:Str}ś{f:Addr}{cd:â}Ä6{ą:List Env}{s s1:Ù}{H:Hp}{E:XK}É3{vs:Õ}
  (S:vc N ps Ö) (hd:A.handled=none) (e0:pC å ū) (hl:Ç5=Ő) (r:Vals vs us)
  (x:InCallC s À (bindL (é).kindOf À3 λ _=>none) (Â5 (À+1) ë []) (bindC (é).kindOf À3 λ _=>none) s1):
  Inv (Æ4) [] Ã4 s1:=by
 have Ap:Ő<=N.length:=by have:=congrArg List.length S.pre;rw[Cc] at this;lia
 let#[h1,tk,rfl,hk]:=x.done;have HY:∀ b:Addr,b∉(Æ4).ex:=λ b z=>Á2;exact#[#[e0.mod,S.kind,rfl,rfl,Ao _,λ y z c h1 h2=>?_,λ y hy=>?_,λ y c _ h=>?_,λ _=>hd,Around.frames_deeper e0.frames,Ŕ #[rfl,rfl],λ b z=>ď z (HY b),e0.bs,e0.r_,λ b _ _=>HY b,λ b z=>ď z (HY b),e0.ur,e0.qI],
  rfl,e0.bare,Un.kept hk,#[_,x.toInCall.ns,λ i y v h1 h2 h3=>?_],λ y c h=>#[_,x.cell y c h],e0.zx.fresh Ÿ,λ y c h=>?_,Ĕ,e0.zx.kept hk,?_]
 .show name_of_addr x.apart (Ø h1) (Ø h2)
 .have hy:Ü y=↑ Š\/Ü y=↑ š:=hy;rcases hy with hy | hy
  .show YW hy
  .show ď rfl (S.Ox _ (Ø hy))
 .show BG (x.above y c (Ø h))
 .have hi:i<Ç5:=by
   unfold start at h2;by_cases hi:i<Ç5
   .show hi
   .rw[Bx (by exists hi)] at h2;rw[Di] at h2;split at h2 <;> cases h2
  have ha:vs[i]?=↑v:=by
   unfold start at h2;rw[Cr (by exists hi),AE] at h2;cases e:vs[i]? with
   | none=>rw[e] at h2;cases h2
   | some a=>rw[e] at h2;cases h2;rfl
  let#[u,hu,rv]:=r.get ha;have hp:ps[i]?=↑y:=by
   rw[<- S.pre,Er ⋯];show h1
  have ndP:ps.Nodup:=by rw[<- S.pre];show S.nd.sublist (List.take_sublist Ů)
  exact#[u,rv,?_];rcases S.par y (Bh hp) with k | k
  .show į #[k,Xp ndP hp hu k]
  .let#[c,e]:=YW (n:=À+1) k;exact Ŕ #[į k,c,e,?_];have q:=x.cell y c e;rw[Xr ndP hp hu (by change Ü y≠_;rw[k];decide)] at q;show q
 .show e0.zx.fresh (BG (x.above y c (Ø h)))
 .unfold start;change _=N.length;rw[A6,AD,List.length_replicate];lia
def M_ {CX:uZ}ß{k:Nat}{f:Addr}{name qual:Str}{params:Arguments}{body:List Stmt}ś{dV kV doc pm Ai ct oc:â}{an od:Ű}
  {Gz:Array (Ë â)}{N ps:á}{sp:Sp}(lk:ŕ f=↑#[oc,od,.func Ĵ,Gz]) (BJ:Ō) (S:vc N ps Ö)
  (len:Ĉ)
  (E9:∀ ï À2,yh k (A.deeper (envOfC qual Ö À f Ai))->Ç2->
   ∃ t,xV Ġ body t/\Ţ):
  wL å CX (k+1) f Ĵ ps sp:=by
 exact#[len,λ A ą s H args us vs Q E hr e0 hb r Ct=>?_];have hl:=len Þ _ Ct;have KX:K.In s.heap:=e0.mod.nQ.keeps λ b o e=>(e0.bs b o e).1;have lim:s.heap.NoLimit:=e0.mod.nolimit.keeps λ b o e=>(e0.bs b o e).1;have IX:∀ y∈ps.zip us,Ü y.1=↑.local\/(Ü y.1=↑ Š/\((Â5 (À+1) ë []).lookup y.1).isSome=true):=λ#[n,v] hy=>by
  rcases S.par n (DV hy).1 with q | q
  .show į q
  .show Ŕ #[q,PySem.W.cellsFrom_some Þ (į q)]
 exact codeAny_call_function hr.depth (KX Ů lk) rfl S.co S.gen rfl (PySem.W.codeRec_of KX BJ) (hb Þ _ ?_);exact wpAny_newFunctionEnv_cells S.kind IX λ env he s1 x=>?_;subst he;exact#[lim.keeps x.toInCall.keep,codeAny_func ?_];let#[t,ht,hq]:=E9 ū vs Q E (hr.deeper _) Ct;have I:Inv Ġ [] Ã4 s1:=ND S hr.hd e0 hl r x;exact za5 (ht [] s1 Ã4 _ I hq) (λ fl s' hs=>?_) λ e s' hs=>hs;have fin:∀ {σ':St}{H':Hp}{v:V}{u:â},Inv Ġ [] σ' H' s'->RelV v u->Q v H'->CE ą P w H s Q u s':=
  λ{σ' H' v u} J rv q=>#[v,H',J.os,J.bare,J.base,J.zx,rv,q]
 cases fl with
 | ret u=>
  let#[v,σ',H',J,rv,q]:=hs;show fin J rv q
 | next=>
  let#[σ',H',J,q]:=hs;show fin (v:=V.zp) (u:=Value.none) J rfl q
 | brk=>
  let#[_,_,_,q]:=hs;show Ē q
 | cont=>
  let#[_,_,_,q]:=hs;show Ē q
section
variable {Ŭ}{ť}{À0}{id T:String}{r:ì}
def lU (r:ì) (t:TA):TE:=fun σ H Q=>t σ H λ vs H1=>r vs H1 Q
def uE (hc:yF X (œ id) r) Æ6 (hv:bootBuiltins x=↑(œ id)) Ģ Å5 æ
  ä:PE ö (lU r t):=by
 ext Ã0;show PyProof.Rows.callWith_builtin1 ā
def nA (hc:yF X (Ķ T) r) Æ6 (hv:bootBuiltins x=↑(Ķ T)) Ģ Å5 æ
  ä:PE ö (lU r t):=by
 ext Ã0;show PyProof.Rows.callWith_type1 ā
end
end L2
namespace HT
open PySem Ŏ
def lexLt:İ->İ->Bool
 | [],[]=>ī
 | [],_::_=>true
 | _::_,[]=>ī
 | x::xs,y::ys=>Á3
def qE (x y:Int) (xs ys:İ):lexLt (x::xs) (y::ys)=Á3:=rfl
section
variable {prog:Program}{w:World}{Ä6}{E:Af}{s:Ù}
def zG (n d:Nat):ı->Nat
 | none=>d
 | some v=>Ċ
def Uc (n d:Nat) (hd:d<=n) (o:ı):zG n d o<=n:=by
 cases o with
 | none=>show hd
 | some v=>
  change (Ċ)<=n;by_cases hv:v<0
  .rw[ğ hv];lia
  .rw[ē hv];show Nat.min_le_right Ů
def YN (v:Int) (n d:Nat):Â1=((zG n d ↑v:Nat):Int):=by
 change Â1=(((Ċ):Nat):Int)
 by_cases hv:v<0
 .simp![ğ hv];lia
 .simp![ē hv];lia
theorem J1 Ż (n:Nat):ŝ ĭ 1 Ĳ=(ķ,((zG n n hi:Nat):Int)):=by
 have h1:¬ (Ç6<0):=⋯;unfold ŝ;simp![h1,if_false];exact Prod.ext ?_ ?_
 .cases lo with
  | none=>rfl
  | some v=>show YN v n 0
 .cases hi with
  | none=>rfl
  | some v=>show YN v n n
theorem UQ (i j:Nat):Ĝ (i:Int) (j:Int) 1=j-i:=by
 unfold Ĝ;have h1:Ç6>0:=⋯;simp![h1,if_true,Int.ediv_one];split <;> lia
def cZ {v:â}{o:ı}{Q:ı->Ù->Prop}(p:IsPart v o) (h:Q o s):Ĥ (model prog w) A (Builtin.Slice.slicePartIndex v) Q E s:=by
 cases p with
 | none=>show slicePart_none h
 | int i t=>show slicePart_int h
def c_ {sl:Addr}{vl vu:â}{lo hi:ı}É5{Q:Int×Int×Nat->Ù->Prop}ě
  (h:Q (ķ,1,zG n n hi-zG n 0 lo) s):Ĥ (model prog w) A (Builtin.Slice.sliceApplied (Ó sl) (pure Ĳ)) Q E s:=by
 let#[os,Dq,hcs,Ea]:=id hs;unfold Builtin.Slice.sliceApplied Builtin.Slice.sliceFields;exact gV (gV (za4 Dq Ea (x:=vl) rfl (gV (za4 Dq Ea (x:=vu) rfl (gV (za4 Dq Ea (x:=.none) rfl (Ad ?_)))))));exact gV (slicePart_none ?_);change Ĥ Ů (if (Ç6 == 0)=true then _ else _) Ů s;rw[ē ()];exact gV (cZ pl (gV (cZ pu (gV (Ad ?_)))));change Ĥ Ů (match ŝ ĭ 1 Ĳ with | (lo,hi)=>pure (lo,Ç6,Ĝ ĭ 1)) Ů s;rw[J1 ĭ n];change Ĥ Ů (pure (ķ,Ç6,Ĝ ķ ((zG n n hi:Nat):Int) 1)) Ů s;rw[UQ];show Ad h
theorem UT (xs:AB) (i k:Nat):((List.range k).filterMap λ(m:Nat)=>xs[Ş]?).toArray=((xs.toList.drop i).take k).toArray:=by
 have e:(λ(m:Nat)=>xs[Ş]?)=λ m=>xs[i+m]?:=by
  funext m;have:Ş=i+m:=⋯;rw[this]
 rw[e];have:=pick_run xs i k;rw[List.filterMap_map] at this;have e2:((λ x=>xs[x]?) ∘ λ x=>i+x)=λ m=>xs[i+m]?:=rfl;rw[e2] at this;rw[this]
def MQ {t sl:Addr}{items:AB}{vl vu:â}{lo hi:ı}{Q:Af}(ht:IsTup s.heap t items) ě
  (hw:¬ (Ŗ=0/\À5=Ç))
  (h:Q (Ó À) { s with heap:=Ç7 { cls:=Ķ "tuple",data:=À6 (ê).toArray } })
  (hsz:Ç<=ñ):Ĥ (model prog w) A (getItem (Ó t) (Ó sl)) Q E s:=by
 have Gk:sizeOk (À6 (ê).toArray):=by
  change (ê).toArray.size<=ñ;rw[AH,Cc,DT,A3];lia
 have hj:À5<=Ç:=Uc Ů Ÿ hi;let#[os,Dq,hcs,Ea]:=id hs;have hTs:s.TypeIs (Ó sl) "slice":=#[os,Dq,hcs];unfold getItem
 try with_reducible exact za6 ?_
 first | exact gV (Ad ?_) | skip
 exact gV (wpAny_sequenceKey ht.typeIs () ?_);exact gV (zaB (name:=Str.ofString "__getitem__") ht.typeIs Ã7
  (za7 Ã7 ht.typeIs entry_tuple_getitem ?_ (args_tuple_getitem Ů)))
 change Ĥ Ů (Builtin.Tuple.tupleItemsOf (Ó t) >>= _) Ů s;exact gV (tupleItemsOf_ ht ?_);exact gV (zaF hTs ?_);rw[ğ ()];exact gV (c_ hs pl pu ?_);have EK:¬ (ĕ):=by
  intro q;rw[Cd,Cd] at q;have q1:((Ŗ:Nat):Int)=0:=eq_of_beq q.1.1;have q2:À5-Ŗ=Ç:=eq_of_beq q.2;show hw #[⋯,⋯]
 change Ĥ Ů (if ĕ then _ else _) Ů s;rw[ē EK,UT]
 first
  | show gV (m:=Ė) (za9 ĳ Gk)
  | show gV (m:=Ė) (za9 (gV (Ad ĳ)) Gk)
  | show gV (gV (m:=Ė) (za9 (Ad ĳ) Gk))
  | show gV (gV (m:=Ė) (za9 ĳ Gk))
end
end HT
namespace L2
open PySem PySem.Spec Ŏ
abbrev TO:=St->Hp->(ı->ĥ)->Prop
def PO (X:Cx) (e:Ë Expr) (t:TO):Prop:=
 ∀ ù (Q:ı->ĥ),Æ->t σ H Q->
  Ĥ Å (evalPart e đ) (λ u s'=>∃ o H',Inv î H' s'/\IsPart u o/\Q o H') X.xe s
def V1:TO:=λ _ H Q=>Q none H
def Vx (t:TE):TO:=fun σ H Q=>t σ H λ x H1=>∃ i,x=.int i/\Q ↑i H1
def intsAre_of {ns:İ}:∀ É3,Vals ė us->IntsAre us ns:=by
 induction ns with
 | nil=>intro us r;rw[BF] at r;cases r;show .nil
 | cons n ns ih=>
  intro us r;rw[Ay] at r;cases r with
  | cons r1 r2=>
   let#[t,e]:=r1;subst e;show .cons n t (ih r2)
section
variable {Ŭ}{e:Expr}{te:TE}{lo hi:Ë Expr}{tl th:TO}{pos p2:Pos}
def bV:PO X none V1:=by
 ext ç;rw[evalPart_none];show Ad #[none,H,I,.none,h]
def bU (h:PE X e te):PO X ↑e (Vx te):=by
 intro E6 s σ H Q I hw;rw[evalPart_some];exact zD (h ò _ I hw) λ u s1 #[x,H1,I1,r1,q1]=>?_;let#[i,rfl,q]:=q1;let#[t,rfl]:=r1;show#[↑i,H1,I1,.int i t,q]
def qd (X:Cx) (r:Û):Prop:=
 ∀ ù (x:V) (v vl vu:â) Ż (sl:Addr) (Q:VK),Æ->RelV x v->Ã8->IsPart vl lo->IsPart vu hi->r x ĭ H Q->
  ∃ T id,typeLookup (Ķ T) "__getitem__"=pure ↑(œ id)/\s.TypeIs v T/\Ĥ Å (getItem v (Ó sl)) Ł s
def qd.or {r r':Û}(h:qd X r) (h':qd X r'):qd X (λ x lo hi H Q=>r x ĭ H Q\/r' x ĭ H Q):=by
 intro E6 s σ H x v vl vu lo hi sl Q I rx hs pl pu q;rcases q with q | q
 .show h ò x v vl vu ĭ sl Q I rx hs pl pu q
 .show h' ò x v vl vu ĭ sl Q I rx hs pl pu q
def Vt (r:Û) (te:TE) (tl th:TO):TE:=fun σ H Q=>te σ H λ x H1=>tl σ H1 λ l H2=>th σ H2 λ u H3=>r x l u H3 Q
theorem ae {r:Û}(hr:qd X r) (he:PE X e te) (hl:PO X lo tl) (hu:PO X hi th):PE X (.Subscript e (.Slice ĭ none p2) pos) (Vt r te tl th):=by
 ext ç;exact Subscript_ (zD (he ò _ I h) λ v s1 #[x,H1,I1,r1,q1]=>?_);exact wpAny_Slice (zD (hl E6 s1 σ H1 _ I1 q1) λ vl s2 #[l,H2,I2,pl,q2]=>zD (hu E6 s2 σ H2 _ I2 q2) λ vu s3 #[u,H3,I3,pu,q3]=>?_);rw[evalPart_none];exact Ad ?_;have I4:Inv î H3 { s3 with heap:=Ú }:=I3.kept (t':=s3.toks) Ã9;let#[T,id,hT,ht,hg]:=hr E6 { s3 with heap:=Ú } σ H3 x v vl vu l u Ä0 Q I4 r1 (Heap.IsSliceOf.new ..) pl pu q3;change Ĥ Å (subscriptTail e (.Slice ĭ none p2) v (Ó Ä0)) Ł { s3 with heap:=Ú };show tail_any (ops:=[Ó Ä0,v]) ht hT hg (by with_unfolding_all rfl)
def uS (xs:Õ) Ż:Õ:=(xs.drop (Ħ)).take (À7 Ì Ì hi-Ħ)
def YH (xs:Õ) Ż:(uS xs ĭ).length<=Ì:=by
 unfold uS;rw[Cc,DT];lia
def bD ġ:Û:=λ x lo hi H Q=>∃ a xs,x=Ó a/\yg É6/\
 ¬ (Ħ=0/\À7 Ì Ì hi=Ì)/\∀ p,H p=none->Q (Ó p) (upd H p (.tup (uS xs ĭ)))
theorem bf:qd X (bD X.K):=by
 ext Ŷ;let#[a,xs,rfl,hx,hw,q]:=h;cases rx;let#[Aa,r,ht,hz]:=I.tuple hx;have hlen:ħ=Ì:=by rw[AH];show r.length.symm
 exact#["tuple",_,PyProof.Rows.slot_tuple_getitem.lookup,ht.typeIs,?_];exact HT.MQ ht hs pl pu (by rw[hlen];show hw) ?_ (by rw[hlen];show hz);rw[hlen];exact#[Ó À,_,I.laid (t':=s.toks) (o:=.tup (uS xs ĭ)) (Ã9) Ÿ ?_,rfl,q _ (þ)];show#[#[Bj (YH xs ĭ) hz,.new _],_,Á4,IsTup.new Ů]
def Vals.O0 ĩ É3(r:Vals xs us):us=[]↔xs=[]:=by
 cases r with
 | _=>simp
end
def wV (n:Nat) (i:Int):Ë Nat:=if 0<=i then (if i<n then ↑i.toNat else none) else if -Ĳ<=i then ↑(i+n).toNat else none
def zT {α:Type}(xs:List α) (i:Int):Ë α:=(wV Ì i).bind λ j=>xs[j]?
theorem Zt É5{i:Int}{j:Nat}(h:wV n i=↑j):seqIndex? i n=↑j/\j<n/\-Ĳ<=i/\i<n:=by
 unfold wV at h;by_cases h0:0<=i
 .rw[ğ h0] at h;by_cases h1:i<n
  .rw[ğ h1] at h;have e:i.toNat=j:=Bb h;show#[by rw[seqIndex_of h0 h1,e],⋯,⋯,h1]
  .rw[ē h1] at h;cases h
 .rw[ē h0] at h;by_cases h1:-Ĳ<=i
  .rw[ğ h1] at h;have e:(i+n).toNat=j:=Bb h;show#[by rw[seqIndex_neg ⋯ h1,e],⋯,h1,⋯]
  .rw[ē h1] at h;cases h
def dg {α:Type}{xs:List α}{i:Int}{v:α}(h:zT xs i=↑v):∃ j,seqIndex? i Ì=↑j/\xs[j]?=↑v/\j<Ì/\-(Ì:Int)<=i/\i<Ì:=by
 unfold zT at h;cases e:wV Ì i with
 | none=>rw[e] at h;cases h
 | some j=>
  rw[e] at h;let#[h1,h2,h3,h4]:=Zt e;show#[j,h1,h,h2,h3,h4]
def XG (b:Expr):Prop:=∀ o i,subscripted b ī o i=operate [o,i] (getItem o i)
def sY (X:Cx) (r:R2):Prop:=
 ∀ (value slice:Expr) ù (x y:V) (v u:â) (Q:VK),Æ->RelV x v->RelV y u->r x y H Q->
  subscripted slice ī v u=operate [v,u] (getItem v u)->Ĥ Å (subscriptTail value slice v u) Ł s
def J8 Æ7:Prop:=
 Ò
section
variable {Ŭ}{a b:Expr}{ta tb:TE}{pos:Pos}
def sY.or {r r':R2}(h:sY X r) (h':sY X r'):sY X (λ x y H Q=>r x y H Q\/r' x y H Q):=by
 intro value slice E6 s σ H x y v u Q I rx ry q hs;rcases q with q | q
 .show h value slice ò x y v u Q I rx ry q hs
 .show h' value slice ò x y v u Q I rx ry q hs
def T3 {r:R2}(hr:sY X r) (ha:PE X a ta) (hb:PE X b tb) (hs:XG b):PE X (.Subscript a b pos) (oZ r ta tb):=by
 ext ç;show Subscript_ (eT ha hb I h λ v u s2 x y H2 I2 rx ry q=>hr a b E6 s2 σ H2 x y v u Q I2 rx ry q (hs Ů))
def bI ġ:R2:=λ x y H Q=>∃ p xs i v,x=Ó p/\y=.int i/\zP ů p xs/\zT xs i=↑v/\Q v H
def bG ġ:R2:=λ x y H Q=>∃ p xs i v,x=Ó p/\y=.int i/\yg ů p xs/\zT xs i=↑v/\Q v H
def bH:R2:=λ x y H Q=>∃ z i c,x=.str z/\y=.int i/\z.length<=ñ/\zT z.cps.toList i=↑c/\Q (.str #[[c].toArray]) H
theorem N6:sY X (bI X.K):=by
 ext ð;let#[Aa,r,pl,hz]:=I.list hq;ext à;by_cases h0:0<=i
 .have hj:i.toNat=j:=by
   rw[seqIndex_of h0 h5] at h1;show Bb h1
  show item_listR Ç8 h0 ⋯ (by rw[hj];exists ew) fin hs
 .have hj:(i+(ħ:Int)).toNat=j:=by
   rw[seqIndex_neg ⋯ h4] at h1;rw[AH,<- hl];show Bb h1
  show subscriptTail_builtinR (x:=w) pl.isList.typeIs slot_list_getitem.lookup
   (wpAny_getItem_list_neg (Q:=λ r s'=>r=w/\EP î Q r s') Ç8 ⋯ (by rw[AH] <;> lia) ⋯ (by rw[hj];exists ew) #[rfl,fin]) hs
theorem N3:sY X (bG X.K):=by
 ext ð;let#[Aa,r,pl,hz]:=I.tuple hq;ext à;show subscriptTail_builtinR (x:=w) pl.typeIs slot_tuple_getitem.lookup
  (getItem_tuple (j:=j) (Q:=λ r s'=>r=w/\EP î Q r s') pl ⋯ ⋯ (by rw[AH,<- hl];show h1) (by exists ew) #[rfl,fin]) hs
theorem N4:sY X bH:=by
 ext À8;let#[z,i,c,rfl,rfl,hz,he,q]:=h;let#[t,rfl]:=rx;let#[t',rfl]:=ry;ext Ã5;have hl:z.cps.toList.length=z.length:=by simp[Str.length]
 rw[hl] at h1 h4 h5;have hn:=qD;show tail_any (typeIs_str s z t) slot_str_getitem.lookup (getItem_str (c:=c) (by
  have e1:decide (i < -(2 ^ 63:Int))=ī:=za3 ⋯;have e2:decide (i≥2 ^ 63)=ī:=za3 ⋯;rw[e1,e2,Bool.or_false]) (by rw[h1];exists h2) #[.str #[[c].toArray],H,I.tok _,#[_,rfl],q]) hs
def bJ ġ:R2:=λ x y H Q=>bI K x y H Q\/bG K x y H Q\/bH x y H Q
def N5:sY X (bJ X.K):=N6.or (N3.or N4)
def OL (Aa:Ah) (n j:Nat) (u:â):Ä1 (·.setIfInBounds j u) { cls:=Î,data:=À6 û n }={ cls:=Î,data:=À6 (Aa.set j u).toArray n }:=by
 simp[Ä1]
theorem Inv.lst Ê Ŝ ĩ Ŀ (h:H p=↑ Ě):
  ∃ (Aa:Ah) (n:Nat),Vals xs Aa/\Á9/\Ì<=ñ:=by
 let#[z,Aa,n,r,e]:=I.zx p _ h;show#[Aa,n,r,e,z]
def Inv.OW Ê Ŝ{xs ys:Õ}{Aa AU:Ah}{n n':Nat}{f:Obj->Obj}Ŀ (h:H p=↑ Ě)
  (ho:Á9) (hf:f { cls:=Î,data:=À6 û n }={ cls:=Î,data:=À6 AU.toArray n' }) (r:Vals ys AU) (hz:Ų<=ñ) (t:Nat):
  Inv î (upd H p (Ŧ ys)) { s with heap:=Â6 p f,toks:=t }:=by
 have e:(Â6 p f).get? p=↑{ cls:=Î,data:=À6 AU.toArray n' }:=by
  rw[zaG f ho (by rw[hf] <;> rfl),hf]
 exact I.write (x:=p) (e:=p) (by rw[h];trivial) (į rfl) (λ b u hb q=>(zaN Ů (Ne.symm hb)).trans q) #[_,e] ?_;show#[hz,AU,n',r,e]
def U0:V->V->V->Hp->(ĥ)->Prop:=λ o i v H Q=>∃ p xs k j,o=Ó p/\i=.int k/\H p=↑ Ě/\wV Ì k=↑j/\Q Ç9
theorem set_list:XH X U0:=by
 intro E6 s σ H o i v ov iv u Q I ro ri rv h;let#[p,xs,k,j,rfl,rfl,hp,hj,q]:=h;cases ro;let#[t,rfl]:=ri;let#[Aa,n,r,ho,hz]:=I.lst hp;let#[h1,h2,h3,h4]:=Zt hj;have hl:=r.length;have hn:=qD;have I':Inv î Ç9 { s with heap:=Â6 p (Ä1 (·.setIfInBounds j u)) }:=
  I.OW hp ho (OL Aa n j u) (r.set rv j) (by rw[Dh];show hz) s.toks
 by_cases h0:0<=k
 .have hk:k.toNat=j:=by
   rw[seqIndex_of h0 h4] at h1;show Bb h1
  show PySem.W.ki_setAt ho h0 ⋯ (by rw[AH,<- hl];show h4) Å0
 .have hk:(k+(ħ:Int)).toNat=j:=by
   rw[seqIndex_neg ⋯ h3] at h1;rw[AH,<- hl];show Bb h1
  show PySem.W.ki_setBack ho ⋯ (by rw[AH,<- hl];show h3) ⋯ Å0
def VP Ż (n:Nat):(ţ ĭ none n).1=((À7 n 0 lo:Nat):Int)/\(ţ ĭ none n).2.1=((À7 n n hi:Nat):Int)/\(ţ ĭ none n).2.2=1:=by
 exact#[?_,?_,rfl]
 .cases lo with
  | none=>simp[ţ,À7]
  | some i=>
   ext Ć
   .simp![h,if_true] <;> lia
   .simp![h,if_false] <;> lia
 .cases hi with
  | none=>simp[ţ,À7]
  | some i=>
   ext Ć
   .simp![h,if_true] <;> lia
   .simp![h,if_false] <;> lia
def VQ (Aa:Ah) Ż:slicePick û ĭ none=((Aa.drop (À7 È1 0 lo)).take (À7 È1 È1 hi-À7 È1 0 lo)).toArray:=by
 let#[h1,h2,h3]:=VP ĭ ħ;unfold slicePick;rw[h1,h2,h3];simp![sliceRange_one,pick_run,AH] <;> rfl
def bE ġ:Û:=λ x lo hi H Q=>∃ a xs,x=Ó a/\zP É6/\∀ p,H p=none->Q (Ó p) (upd H p (Ŧ (uS xs ĭ)))
theorem VT:qd X (bE X.K):=by
 ext Ŷ;let#[a,xs,rfl,hx,q]:=h;cases rx;let#[Aa,r,ht,hz]:=I.list hx;have hlen:=r.length;exact#["list",_,slot_list_getitem.lookup,ht.isList.typeIs,?_];exact wpAny_getItem_list_slice ht.isList hs pl pu .none #[] ?_ (by rw[AH] <;> lia);rw[VQ,<- hlen];exact#[Ó À,_,I.laid (t':=s.toks) (o:=Ŧ (uS xs ĭ)) (Ã9) Ÿ ?_,rfl,q _ (þ)];show#[Bj (YH xs ĭ) hz,_,0,Á4,AK _ rfl]
theorem KC:yF X (œ "len") (λ xs H Q=>∃ p ys,xs=[Ó p]/\(zP Â3\/yg Â3)/\Q (.int Ų) H):=by
 ext ć;have hn:=qD;rcases hq with hq | hq
 .ext ý;show Calls.call_len_list Ç8 Đ
 .ext Ń;have hlen:=r'.length;show len_tuple pl Đ
theorem KA:yF X (œ "len") (λ xs H Q=>∃ z,xs=[.str z]/\z.length<=ñ/\Q (.int z.length) H):=by
 ext Ž;let#[z,rfl,hz,q]:=h;let#[u,rfl,t,rfl]:=vals1 r;have hn:=qD;show len_str ⋯ #[.int z.length,H,I.tok _,#[_,rfl],q]
def yF.or {f:â}{r r':ì}(h:yF X f r) (h':yF X f r'):yF X f (λ xs H Q=>r xs H Q\/r' xs H Q):=by
 intro E6 s σ H xs us Q I rs q;rcases q with q | q
 .show h ò xs us Q I rs q
 .show h' ò xs us Q I rs q
theorem K8:yF X (Î) (λ xs H Q=>∃ p ys,xs=[Ó p]/\(zP Â3\/yg Â3)/\∀ l,H l=none->Q (Ó l) (upd H l (Ŧ ys))):=by
 ext ć;have fin:∀ (Aa:Ah),Vals ys Aa->Ų<=ñ->∀ (h':Heap) (c':Nat),(∀ b o',Ę b=↑o'->h'.get? b=↑o')->
   h'.get? À=↑{ cls:=Î,dict:=none,data:=À6 û c',slots:=ļ }->EP î Q (Ó À) { s with heap:=h' }:=λ Aa r' hz h' c' kp e=>
  #[Ó À,_,I.laid (t':=s.toks) kp Ÿ (show yS ň _ h' _ (Ŧ ys) from #[hz,Aa,c',r',e]),rfl,q _ (þ)]
 rcases hq with hq | hq
 .ext ý;let#[o,ho,hc,n,hd]:=Ç8;show call_list_seq p (į rfl) Ī
 .ext Ń;have hlen:=r'.length;let#[o,ho,hc,n,hd]:=pl;show call_list_seq p (Ŕ rfl) Ī
theorem Kw:yF X (Ķ "tuple") (λ xs H Q=>∃ p ys,xs=[Ó p]/\((zP Â3/\∀ l,H l=none->Q (Ó l) (upd H l (.tup ys)))\/(yg Â3/\Q (Ó p) H))):=by
 ext Ž;let#[p,ys,rfl,h]:=h;ext Æ8;rcases h with ⟨hq,q⟩ | ⟨hq,q⟩
 .ext ý;exact call_tuple_list Ç8 (λ h' kp=>?_) Â0;have I1:Inv î H { s with heap:=h' }:=I.kept (t':=s.toks) kp;have I2:Inv î (upd H h'.objs.size (.tup ys)) { s with heap:=h'.push { cls:=Ķ "tuple",data:=À6 û } }:=
   I1.laid (t':=s.toks) (λ b o e=>za1 _ e) Ÿ (show yS ň Þ (.tup ys) from #[#[hz,.new _],Aa,r',IsTup.new Ů])
  show#[Ó h'.objs.size,_,I2,rfl,q _ (I1.zx.fresh Ÿ)]
 .ext Ń;show call_tuple_same pl #[Ó p,H,I,rfl,q]
def cK ġ (T:String) (x:V) Ś:Prop:=match x with
 | .str _=>T="str"
 | .int _=>T="int"
 | Ó p=>(T="list"/\∃ xs,zP ů p xs)\/(T="tuple"/\∃ o,ŕ p=↑o/\o.cls=Ķ "tuple"/\o.dict=none)\/
   (T="dict"/\((∃ Ab,H p=↑(.dK Ab))\/∃ Ab,H p=↑(.dT Ab)))\/(T="set"/\∃ S n,H p=↑(.set S n))
 | _=>False
def Vd Ê{T:String}{x:V}{v:â}Ŀ (r:RelV x v) (ty:cK X.K T x H):
  s.TypeIs v T/\∀ a,v=Ó a->∃ ob,Ę a=↑ob/\ob.dict=none:=by
 cases x with
 | str z=>
  let#[t,rfl]:=r;cases (show T="str" from ty);show#[typeIs_str s z t,λ _ e=>nomatch e]
 | int i=>
  let#[t,rfl]:=r;cases (show T="int" from ty);show#[typeIs_int s i t,λ _ e=>nomatch e]
 | ref p=>
  cases r;rcases ty with ⟨rfl,xs,hq⟩ | ⟨rfl,o,hk,hc,hd⟩ | ⟨rfl,hk⟩ | ⟨rfl,S,n,hk⟩
  .let#[Aa,_,pl,_]:=I.list hq;exact#[pl.isList.typeIs,λ a e=>?_];cases e;let#[o,n,e,c,hd,_]:=pl;show#[o,e,hd]
  .exact#[#[o,I.xy p o hk,hc],λ a e=>?_];cases e;show#[o,I.xy _ o hk,hd]
  .have z:∃ o,Ę p=↑o/\o.ExactDict:=by
    rcases hk with ⟨Ab,hk⟩ | ⟨Ab,hk⟩
    ext Ĩ
    ext Ĩ
   let#[o,e,ex]:=z;ext Ĺ
  .let#[o,_,_,_,e,ex,_]:=I.zx p _ hk;ext Ĺ
 | _=>show Ē ty
def iJ ġ (T:String) (r:V->ì) (to:TE) (t:TA):TE:=fun σ H Q=>to σ H λ x H1=>cK K T x H1/\t σ H1 λ xs H2=>r x xs H2 Q
variable {o e:Expr}{es:List Expr}{to:TE}{t:TA}{name:Str}{apos Aq:Pos}{T id:String}{r:V->ì}
def af (pa:PlainAttrs T) (slot:Slot T name id) (hty:typeOf (œ id)=pure (Ķ "method_descriptor")) (hm:J8 X id r) (ho:PE X o to) Ģ
  (F6:attributeBase o name đ (eval o đ)=eval o đ:=by rfl)
  (AZ:((backTo Aq (starEach (e::es) đ)).all (λ x=>!x.1)&&(backToKw Aq (keywordEach [] đ)).all (λ x=>x.1.isSome)
   && decide ((e::es).length+([]:List Keyword).length+(if ([]:List Keyword).isEmpty then 0 else 1)<30))=true:=by rfl)
  (F4:(apos.endLine == Aq.line)=true:=by rfl) (hs:AJ X e es:=by rfl) (FI:AO X Aq es:=by rfl):
  PE X (.Call (.Attribute o name apos) (e::es) [] Aq) (iJ X.K T r to t):=by
 ext ç;exact wpAny_Call_method_late F6 AZ F4 rfl (zD (ho ò _ I h) λ v s1 #[x,H1,I1,r1,ty,q1]=>?_);let#[h1,h2]:=Vd I1 r1 ty;exact#[T,id,pa,slot,hty,h1,h2,?_];have hA:=ha Aq E6 s1 σ H1 _ I1 q1;rw[hs] at hA ⊢;exact Calls.callWith_builtin (by change (ī||(backTo Aq (starEach es đ)).any (·.1))=ī;rw[FI] <;> rfl) (Calls.evalArgs_plain ?_);show zD hA λ us s2 #[vs,H2,I2,r2,q2]=>hm E6 s2 σ H2 x vs v us Q I2 r1 r2 q2
end
def XM Æ7:Prop:=
 Ò
theorem Vals.one:∀ {x:V}É3,Vals [x] us->∃ u,us=[u]/\RelV x u
 | _,_,.cons r .nil=>#[_,rfl,r]
theorem Vals.rep ĩ É3(h:Vals xs us):∀ k:Nat,Vals (List.replicate k xs).flatten (List.replicate k us).flatten
 | 0=>.nil
 | k+1=>by
  rw[B5,B5,Cq,Cq];show Vals.append h (Vals.rep h k)
section
variable {Ŭ}{Ê}{l:Addr}{xs ys:Õ}
def Inv.aW {Aa AU:Ah}É5{f:Array â->Array â}{t':Nat}Ŀ (hH:H l=↑ Ě)
  (e:Â2) (hf:f û=AU.toArray) (hv:Vals ys AU) (hz:Ų<=ñ):
  Inv î (upd H l (Ŧ ys)) { s with heap:=Â6 l (Ä1 f),toks:=t' }:=by
 have q:=PySem.IsL.update e f;rw[hf] at q;exact I.write (x:=l) (e:=l) (by rw[hH];show trivial) (į rfl) (λ b' u hb hu=>(zaN s.heap (Ä1 f) (Ne.symm hb)).trans hu) #[_,q] ?_;show#[hz,AU,_,hv,q]
def Inv.OZ {Aa:Ah}{t':Nat}Ŀ (hv:Vals ys Aa) (hz:Ų<=ñ):
  Inv î (upd H À (Ŧ ys)) { s with heap:=Ç7 { cls:=Î,data:=À6 û },toks:=t' }:=
 I.laid (λ _ _ q=>za1 _ q) Ÿ #[hz,Aa,0,hv,AK _ rfl]
theorem Inv.fresh Ŀ:H À=none:=þ
def Inv.gT Ŀ (hH:H l=↑ Ě):Ì<=ñ/\∃ (Aa:Ah) (n:Nat),Vals xs Aa/\Ì=È1/\Â2:=by
 let#[z,Aa,n,r,e]:=I.zx l _ hH;show#[z,Aa,n,r,r.length,e]
theorem Ov É5(h:n<=ñ):ŧ n=ī:=by
 unfold ŧ;show za3 ⋯
def bN:V->ì:=λ x vs H Q=>∃ l xs y,x=Ó l/\vs=[y]/\H l=↑ Ě/\Ì<ñ/\Q .zp (upd H l (Ŧ (xs++[y])))
theorem aP:XM X "list.append" bN:=by
 ext Å9;let#[l,xs,y,rfl,rfl,hH,hz,q]:=h;ext É7;ext Ä7;exact call_meets F.slot_list_append #[_,e,rfl] F.entry_list_append (F.args_list_append_2 Ů) (PySem.list_append l û n u (by rw[AH];lia)) #[e,?_];exact#[.zp,_,I.aW (AU:=Aa++[u]) hH e #[] (r.append (.cons ru .nil)) ?_,rfl,q];rw[A6,List.length_singleton];lia
def bL:V->ì:=λ x vs H Q=>∃ l b xs zs,x=Ó l/\vs=[Ó b]/\H l=↑ Ě/\H b=↑(Ŧ zs)/\Ì+zs.length<=ñ/\Q .zp (upd H l (Ŧ (xs++zs)))
theorem OC:XM X "list.extend" bL:=by
 ext Å9;let#[l,b,xs,zs,rfl,rfl,hH,hB,hz,q]:=h;ext É7;cases ru;ext Ä7;let#[z2,Fz,n2,r2,hl2,e2]:=I.gT hB;have hsz:ħ+Fz.toArray.size<=ñ:=by rw[AH,AH];lia
 have IW:¬ (!Aa.toArray.isEmpty&&ŧ (ħ+Fz.toArray.size))=true:=by
  rw[Ov hsz,CT];show CU
 exact call_meets F.slot_list_extend #[_,e,rfl] F.entry_list_extend (F.args_list_extend_2 Ů)
  (AutoSeq1.list_extend_list_list_0 l û n b Fz.toArray n2 IW (by rw[AH];lia) ⋯) #[e,e2,?_]
 exact#[.zp,_,I.aW (AU:=Aa++Fz) hH e #[] (r.append r2) ?_,rfl,q];rw[A6];lia
end
end L2
namespace WC
open PySem PySem.W PySem.Calls Ŏ
def NH {P:Params}{h:Heap}:∀ (ns:İ) (vs:Ah),WellAll P h vs (È2 WData.int)->Ũ:=by
 intro ns
 induction ns with
 | nil=>
  intro vs w;rw[BF] at w;cases w;show .nil
 | cons n ns ih=>
  intro vs w;rw[Ay] at w;cases w with
  | cons a b=>
   cases a;show .cons Ů (ih _ b)
def Ub {l:OpenLaw}É5 Æ0 {P:Params}{h:Heap}{args:List WData}{vals:Ah}
  (Ce:l.row.toRowW.claim.pre args=true) (Ew:WellAll P h vals args):
  ∃ a vs ns,vals=[Value.ref a]/\args=[WData.list (È2 WData.int)]/\h.get? a=↑{ cls:=Î,data:=Ň }/\Ũ/\Â7<=n:=by
 have DX:WShape.hasAll [] args [.list .int]=true:=(pre_splitW Ce).1;have hc:l.pre.holds [] { args:=args }=true:=(pre_splitW Ce).2;let#[d,r,rfl,h1,h2]:=hasAllW_cons DX;obtain rfl:=hasAllW_nil h2;let#[xs,rfl,h3]:=hasW_list h1;let#[ns,rfl]:=items_int h3;have hlen:Â7<=n:=by
  unfold OpenLaw.pre at hc;have h4:(WTm.not (.lt (.lit (.int Ĳ)) (.len (.arg 0)))).holds [] { args:=[.list (È2 .int)] }=true:=by
   have h4:=(holds_andW hc).1;rw[hn] at h4;show h4
  have h5:=condW_of h4 (w_not (w_lt w_lit (w_len_list (w_arg rfl))));rw[AD] at h5;exact Nat.le_of_not_lt λ q=>?_;have q':Ĳ<((Â7:Nat):Int):=⋯
  first
   | (rw[za2 q'] at h5;show ď h5 ())
   | (simp at h5;lia)
 cases Ew with
 | cons w1 w2=>
  cases w2;cases w1 with
  | list ho AM=>show#[_,_,ns,rfl,rfl,ho,NH ns _ AM,hlen]
def UO (l:OpenLaw) (args:List WData):l.row.toRowW.claim.post args (Ľ) args=true:=
 postW_of (r:=l.row.toRowW) (X:=(true == true))
  (show WShape.has [] (Ľ) .bool=true by first | rfl | decide | simp[WShape.has,WShape.arms,WShape.armsAll])
  (show (WTm.eq .res (.lit (Ľ))).value [] { args:=args,res:=↑(Ľ),after:=args }=↑(.bool (true == true)) from w_eq_bool (w_res rfl) w_lit) rfl
def Jj {l:OpenLaw}É5 ĉ
  Æ0 (Dx:d.params.defaults=[])
  (call:∀ Ã1 (s₀ s₁:Ù) (mg mb:AA) (fa:Addr) (o:Obj) (pm cd doc:â) Æ9 (vs:Ah) (ns:İ),
   Ground q loose [] XP w s₀ mg mb Ĭ->YP w Ĭ->
   ŗ fa=↑o->o.data=.func (docDef d.name d.params d.body d.scope pm cd doc)->s₁.heap.CodeRec cd d.name->mg d.name=↑(Ó fa)->
   Æ5->Ũ->Â7<=n->s₁.gens=ļ->
   Ç3 (model l.prog w) È):
  WalkO ŋ:=by
 intro w s₀ s₁ mg mb G Y fa o pm cd doc dV kV ho hd BJ hD Ds hg args vals as Ce Dt hrd Ew hlo;obtain rfl:dV=.none:=Dflts.none hD Dx;obtain rfl:kV=.none:=Dflts.noKw hD;let#[a,vs,ns,rfl,rfl,CI,hints,hlen]:=Ub hn Ce Ew;exact enter_call (Ä8 (call w s₀ s₁ mg mb fa o pm cd doc a vs ns G Y ho (fd_plain hd) BJ Ds CI hints hlen hg) λ r s' hq=>?_);let#[rfl,h2,h3,h4]:=hq;show#[į #[Ľ,Ľ,[],rfl,λ _=>rfl,Ľ,UO l _,λ _=>#[List.Pairwise.nil,λ _ hm=>(nomatch hm)]],h2,h3,h4]
end WC
namespace L2
open PySem PySem.Spec Ŏ
theorem c9:∀ {vs:Ah}{ns:İ},Ũ->Vals ė vs
 | _,_,.nil=>.nil
 | _,_,.cons n t h=>.cons #[t,rfl] (c9 h)
def jB Ś:Prop:=∀ b,H b=none\/∃ o xs,H b=↑(.wb o Ě)
def Nq Ç0{mg mb:AA}{CX:uZ}{k:Nat}{fa a:Addr}{fd:Œ}ť{sp:Sp}{s₁:Ù}{vs:Ah}{ns:İ}
  (KX:K.In Ĭ) (C0:s₁.heap.Ns ń mg) (hb:s₁.heap.Ns builtinsNs mb) (hbb:∀ x:Str,x≠"__name__"->mb x=bootBuiltins x) (EM:s₁.heap.NoLimit) (hg:s₁.gens=ļ)
  (ha:Æ5) (hi:Ũ) (hl:Â7<=ñ) (hr:yh k callerA)
  (F:∀ base:Heap,K.In base->base.Ns ń mg->wL å CX k fa fd [x] sp) (IZ:ŉ)
  (Ct:∀ H:Hp,jB H->zP ů a ė->sp É8)
  (hCX:∀ H e s',CX [] H s₁ (Ř) e s'->False):
  Ç3 Ç4 È:=by
 have rv:=c9 hi;have lenV:=hi.length;have core:∀ H:Hp,jB H->zP ů a ė->yL P w H Ĭ->(∀ b,H b≠none->b=a)->(H a≠none->ŕ a=none)->
   Ç3 Ç4 È:=by
  intro H hO hS zx hA hK;have Gr:∀ {b:Addr}{o:Obj},ŗ b=↑o->H b=none->(sO Ĭ H).get? b=↑o:=λ e n=>NT e n;have HY:∀ {b:Addr}{o:Obj}{es:Array DictEntry}{ep:Nat},ŗ b=↑o->o.data=.dict es ep->H b=none:=λ{b o es ep} e d=>by
   cases q:H b with
   | none=>rfl
   | some u=>
    ext Â4;rw[ha] at e;cases e;have d':Data.seq vs.toArray _=Data.dict es ep:=d;cases d'
  have nsK:∀ {b:Addr}{m:AA},s₁.heap.Ns b m->(sO Ĭ H).Ns b m:=λ{b m} #[o,es,ep,e,d,r]=>#[o,es,ep,Gr e (HY e d),d,r];have hKb:K.In (sO Ĭ H):=λ b o e=>Gr (KX b o e) (by
   cases q:H b with
   | none=>rfl
   | some u=>
    ext Â4;rw[hK (by rw[q];simp)] at e;cases e)
  have hM:Mod K mg (sO Ĭ H):=#[hKb,nsK C0,#[mb,nsK hb,hbb],let #[mc,h1,h2]:=EM;#[mc,nsK h1,h2]];have e0:pC P w K mg (sO Ĭ H) callerA [] s₁ H:=#[rfl,hM,λ b o e=>Ot e,Nat.le_of_eq (NS Ů),trivial,λ b hb=>ď (show b∈([]:É2) from hb) #[],zx,.of_eq hg];exact Ä8 ((F _ hKb (nsK C0)).run callerA [] s₁ H #[[Ó a],[]] [Ó a] [Ó a] Ů hr e0 (IZ s₁ (Ó a)) (.cons rfl .nil) (Ct H hO hS)) λ r s' h=>?_;cases r with
  | error e=>show (hCX H e s' h).elim
  | ok fl=>
   cases fl with
   | ret u=>
    let#[v,H',os,bare,un,EG,r',q]:=h;have q':v=.bl true:=q;subst q';obtain rfl:u=Value.bool true:=r';exact#[rfl,OldK.of_keep λ b o e=>?_,os,bare];cases q:H b with
    | none=>show un.keep b o e q (by intro z;show Á2) #[]
    | some u=>
     rcases hO b with z | ⟨ob,xs,z⟩
     .rw[q] at z;cases z
     .have z2:=un.sS b ob _ z;let#[e1,_]:=zx b _ z;let#[e2,_]:=EG b _ z2;rw[e] at e1;cases e1;show e2
   | _=>show Ē h
 cases hk:ŕ a with
 | some o=>
  have e:=KX a o hk;rw[ha] at e;cases e;exact core (λ _=>none) (λ _=>į rfl) (Ŕ #[_,vs.toArray,_,hk,rfl,rfl,rfl,by rw[AH,lenV];show hl,by exists rv]) (λ b u z=>by have z':(none:Ë HO)=↑u:=z;cases z') (λ b z=>ď rfl z) λ z=>ď rfl z
 | none=>
  exact core (λ b=>if b=a then ↑(.wb { cls:=Î,data:=Ň } (Ŧ ė)) else none) (λ b=>?_) (į (Ŕ #[{ cls:=Î,data:=Ň },ğ rfl])) (λ b u z=>?_) (λ b z=>?_) λ _=>hk
  .by_cases hb:b=a
   .show Ŕ #[_,_,ğ hb]
   .show į (ē hb)
  .by_cases hb:b=a
   .have z':=(ğ hb).symm.trans z;cases z';subst hb;show#[ha,by rw[AD];show hl,vs,_,rv,ha]
   .have z':=(ē hb).symm.trans z;cases z'
  .by_cases hb:b=a
   .show hb
   .show ď (ē hb) z
def WV {l:PySem.W.OpenLaw}{n k:Nat}ĉ{K:Params->Ac}{CX:World->uZ}{sp:World->Sp}ť
  Æ0 (hn2:n<=ñ) (Dx:d.params.defaults=[]) (hr:yh k callerA)
  (hY:∀ Ã1 (h:Heap),YP w h->(Ä2).In h)
  (F:∀ Ã1 (mg:AA) (fa:Addr) (h:Heap),(Ä2).In h->h.Ns ń mg->mg d.name=↑(Ó fa)->
   ∃ fd:Œ,(ŉ)/\
    ∀ base:Heap,(Ä2).In base->base.Ns ń mg->wL l.prog w (Ä2) mg base (CX w) k fa fd [x] (sp w))
  (Ct:∀ Ã1 Ś Æ9 (ns:İ),Â7<=n->jB H->zP (Ä2) H a ė->sp w É8)
  (hCX:∀ Ã1 Ś É0 (e:â) (s':Ù),CX w [] H s (Ř) e s'->False):
  PySem.W.WalkO ŋ:=by
 exact WC.Jj hn Dx λ w s₀ s₁ mg mb fa o pm cd doc a vs ns G Y ho hd BJ Ds CI hints hlen hg=>?_;have KX:=hY w _ Y;let#[fd,hb,hF]:=F w mg fa _ KX G.T.g Ds;show Nq KX G.T.g G.T.b G.T.builtins G.T.nolimit hg CI hints (Bj hlen hn2) hr hF hb (λ H hO hS=>Ct w H a ns hlen hO hS) λ H e s'=>hCX w H s₁ e s'
def v_ (s:Stmt):Arguments:=match s with
 | .FunctionDef _ a Þ Þ Ů=>a
 | _=>{ posonlyargs:=[],args:=[],vararg:=none,kwonlyargs:=[],kw_defaults:=[],kwarg:=none,defaults:=[] }
def yZ (s:Stmt):List Stmt:=match s with
 | .FunctionDef Ů b Þ Þ _=>b
 | _=>[]
def zW (s:Stmt):Scope:=match s with
 | .FunctionDef Þ Þ sc Þ=>sc
 | _=>{ kind:=.function,names:=[],isGenerator:=ī,isCoroutine:=ī }
abbrev xa:uZ:=λ _ _ _ _ _ _=>False
abbrev E0:XK:=Ř
def km Ŭ:Passes xa X E0:=λ _ _ _ _ _ _ _ h=>h.elim
structure vI ġ (x qual:Str) (st:Stmt) (f:Addr) (fd:Œ):Prop where
 ex:∃ (oc:â) (od:Ű) (kV doc pm:â) (an:Ű) (Ai ct:â) (Gz:Array (Ë â)),
  fd=Ï/\ŕ f=↑#[oc,od,.func fd,Gz]/\Ō
 kp:À4 K (Ó f)=true
section
variable {ß}
def vI.ok ŀ{fd:Œ}{N ps:á}{k:Nat}{sp:Sp}(F:vI K x qual st f fd) (S:vc N ps (zW st)) (len:Ĉ)
  (E9:∀ (Ai:â) ï À2,yh k (A.deeper (envOfC qual (zW st) À f Ai))->Ç2->
   ∃ t,xV (xQ xa å N qual (zW st) f Ai ū E).wA (yZ st) t/\Ţ):wL å xa (k+1) f fd ps sp:=by
 ext Į;exact M_ lk BJ S len λ A ą s H vs Q E hr Ct=>?_;let#[t,h,q]:=E9 Ai ū vs Q E hr Ct;show#[t,h.wA,q]
def vI.binds ŀ É1(F:vI K x qual st f fd)
  (h:∀ (kV doc pm:â) (an:Ű) (Ai ct:â) (us:Ah),us.length=Ő->bindArgs (Ï) #[us,[]]=pure À3):Binds K fd ps []:=by
 ext Į;show .all (h Æ1)
def kW ŀ{oc:â}{od an:Ű}{Gz:Array (Ë â)}{kV doc pm Ai ct:â}(l:ŕ f=↑#[oc,od,.func (Ï),Gz])
  (c:Ō) (k:À4 K (Ó f)=true):vI K x qual st f (Ï):=#[#[oc,od,kV,doc,pm,an,Ai,ct,Gz,rfl,l,c],k]
end
def ft Ä6{k:Nat}(hr:yh k A):A.units+1<cLine:=Ep (Nat.add_le_add_left (by decide:1<=64) _) hr.units
section
variable {Ŭ}
def pv (i:Nat) ť{pos:Pos}(hN:X.N[i]?=↑x:=by rfl) (hv:j8 X.env.scope x:=by first | show Or.inl rfl | show Or.inr (Or.inl rfl) | show Or.inr (Or.inr rfl)) (hd:(x == ("__debug__":Str))=ī:=by decide)
  (BJ:(x == ("__classdict__":Str))=ī:=by decide):PE X (.Name x pos) (iE i):=Tn hN hv hd BJ
end
end L2
namespace PySem
theorem eD É9:∀ (l:Ņ) (acc:ú),(∀ y∈l,y.2=š->∃ c,ų y.1=↑c)->
  ∃ cl,(forIn l acc (λ(x:Str×NameKind) r=>if (x.2 == ó)=true then do let a <- cellOf env x.1;pure (ſ ((x.1,a)::r)) else pure (ſ r)):Sem (ú))=pure cl/\
   (∀ x c,Ä3->acc.lookup x=↑c\/((x,ó)∈l/\ų x=↑c))/\(∀ x,(x,ó)∈l\/(acc.lookup x).isSome->È3)
 | [],acc,_=>#[acc,rfl,λ x c h=>į h,λ x h=>by exists h]
 | È4::l,acc,h=>by
  by_cases hk:k=š
  .subst hk;let#[c,hc]:=h (n,š) Al rfl;let#[cl,e1,e2,e3]:=eD l ((n,c)::acc) λ y hy=>h y (Av _ hy);exact Á0
   .rw[DS];simp![beq_self_eq_true,if_true,cellOf,hc];show e1
   .ext Å2
    .rw[Bl] at q;cases Dm:x == n with
     | true=>
      rw[Dm] at q;have:x=n:=by exists Dm
      subst this;exact Ŕ #[Al,?_];rw[hc];show q
     | ī=>rw[Dm] at q;show į q
    .show Ŕ #[Av _ q1,q2]
   .exact e3 x ?_;rcases hx with hx | hx
    .ext ō
     .have:x=n:=congrArg Prod.fst q;subst this;show Ŕ (by simp[Bl])
     .show į q
    .exact Ŕ ?_;rw[Bl];cases x == n <;> simp[hx]
  .have hb:(k == ó)=ī:=by exists hk
   let#[cl,e1,e2,e3]:=eD l acc λ y hy=>h y (Av _ hy);exact Á0
   .rw[DS];simp![hb,A9,if_false];show e1
   .ext Å2
    .show į q
    .show Ŕ #[Av _ q1,q2]
   .exact e3 x ?_;rcases hx with hx | hx
    .ext ō
     .show ď (congrArg Prod.snd q).symm hk
     .show į q
    .show Ŕ hx
def YM ś É9(h:∀ y∈ ë,y.2=š->∃ c,ų y.1=↑c):
  ∃ cl,closureFor Ö env=pure cl/\(∀ x c,Ä3->É/\ų x=↑c)/\∀ x,É->È3:=by
 let#[cl,e1,e2,e3]:=eD (env:=env) ë [] h;exact#[cl,?_,λ x c hx=>?_,λ x hx=>e3 x (į hx)]
 .simp![closureFor];rw[e1];rfl
 .rcases e2 x c hx with q | q
  .simp at q
  .show q
theorem a_ É9:∀ {names:Ņ}ť,names.lookup x=↑ š->
  Í=↑ Š\/
  Í=↑ š
 | [],_,h=>Ã2
 | È4::r,x,h=>by
  have ih:=@a_ env r x;change Ñ=_\/Ñ=_;cases hx:x == n with
  | true=>
   simp![Bl,hx] at h;cases h;by_cases hc:(ó == ó&&ş&&env.kindOf n == ↑ Š)=true
   .rw[ğ hc];simp[Bl,hx]
   .rw[ē hc];simp[Bl,hx]
  | ī=>
   simp![Bl,hx] at h;by_cases hc:Á=true
   .rw[ğ hc];simp![Bl,hx];show ih h
   .rw[ē hc];simp![Bl,hx];show ih h
theorem b8 É9:∀ {names:Ņ}ť,
  (Í=↑ Š\/
  Í=↑ š)->(x,ó)∈names\/(x,õ)∈names
 | [],_,h=>Ã2
 | È4::r,x,h=>by
  have ih:=@b8 env r x;have h':Ñ=↑ Š\/Ñ=↑ š:=h;cases hx:x == n with
  | true=>
   have Dm:x=n:=by exists hx
   subst Dm;by_cases hc:(k == ó&&ş&&env.kindOf x == ↑ Š)=true
   .simp![Cd] at hc;have:k=š:=by exists hc.1.1
    subst this;show į Al
   .rw[ē hc] at h';simp![Bl,beq_self_eq_true] at h';rcases h' with q | q
    .cases Bb q;show Ŕ Al
    .cases Bb q;show į Al
  | ī=>
   exact (ih ?_).imp (Av _) (Av _);by_cases hc:Á=true
   .rw[ğ hc] at h';simp![Bl,hx] at h';show h'
   .rw[ē hc] at h';simp![Bl,hx] at h';show h'
theorem eI:∀ (names:Ņ) (h:Heap) (acc:ú),∃ own,Â5 È5 names acc=own++acc/\(∀ p∈own,(p.1,õ)∈names/\È5<=p.2/\(pushCells h names).IsCell p.2 none)/\
  (own.Pairwise λ x y=>x.2≠y.2)/\∀ x,(x,õ)∈names->(Ź x).isSome
 | [],h,acc=>#[[],rfl,λ _ hp=>(by cases hp),.nil,λ _ hx=>(by cases hx)]
 | È4::r,h,acc=>by
  unfold Â5 pushCells;split
  .rename_i hk;have Gm:k=Š:=by exists hk
   subst Gm;let#[own,e1,e2,e3,e4]:=eI r (h.push { cls:=Ķ "cell",data:=Š none }) ((n,È5)::acc);rw[Á5] at e1 e2;exact#[own++[(n,È5)],by rw[e1,AW];rfl,λ p hp=>?_,?_,λ x hx=>?_]
   .rcases AG.mp hp with q | q
    .let#[f1,f2,f3]:=e2 p q;show#[Av _ f1,⋯,f3]
    .cases Au.mp q;show#[Al,Ao _,_,È6 Þ _ (AK _ rfl),rfl]
   .exact Dg.mpr #[e3,Df Ů,λ a ha b hb=>?_];cases Au.mp hb;show BM (e2 a ha).2.1
   .rw[DR,Option.isSome_or];ext ō
    .cases q;simp[Bl]
    .rw[e4 x q];rfl
  .rename_i hk;let#[own,e1,e2,e3,e4]:=eI r h acc;exact#[own,e1,λ p hp=>#[Av _ (e2 p hp).1,(e2 p hp).2],e3,λ x hx=>?_];ext ō
   .cases q;simp at hk
   .show e4 x q
def O5 {M:Model}Ä6{E:Af}{s:Ù}ś{globals:Addr}{closure:ú}{qual:Str}É9{Q:Env->Ù->Prop}
  (hQ:∀ h',h'=pushCells (ŭ) ë->Q (newEnv Ö À globals (Â5 (À+1) ë closure) qual none .none ↑env builtinsNs) { s with heap:=h' }):
  Ĥ M A (newFunctionEnv Ö globals closure [] qual none .none ↑env) Q E s:=by
 simp![newFunctionEnv,Option.isSome_some,if_true];exact gV (wpAny_alloc ?_);exact gV (wpAny_layCells _ (λ name kind cells=>by cases hkc:kind == õ <;> simp[hkc]) Þ _ ?_);rw[show ({ s with heap:=ŭ }:Ù).heap.objs.size=À+1 from Á5 ..];simp![List.forIn_nil];show gV (Ad (Ad (hQ _ rfl)))
end PySem
namespace L2
open PySem PySem.Spec Ŏ
def uj (pick:č) (σ:St):St:=pick.map λ o=>o.bind λ i=>(σ[i]?).join
def y4 (X:Cx) (N':á) (Ö:Scope) (cl:ú) (C:Addr) É0 Ś (ex:É2):Cx:=
 { X with N:=N',s₀:=s,H₀:=H,env:=Ŋ,ą:=ŷ,stack:=ŷ,ex:=ex,fn:=λ x=>decide (Ü x=↑ Š),pn:=[],xe:=λ _ _=>False }
def pW (N N':á) (pick:č) (Ö:Scope):Bool:=(N'.zip pick).all λ p=>match p.2 with
 | none=>true
 | some j=>decide (N[j]?=↑p.1)&&decide (Ü p.1=↑ š)
structure rf (X:Cx) (N':á) (pick:č) (Ö:Scope):Prop where
 kind:scope.kind=.function
 uniq:∀ y∈ ë,Ü y.1=↑y.2
 free:∀ y∈ ë,y.2=š->í y.1=↑ Š\/í y.1=↑ š
 len:pick.length=N'.length
 ok:pW X.N N' pick Ö=true
def pW.get {N N':á}{pick:č}ś(h:pW N N' pick Ö=true) {i j:Nat}ť(h1:N'[i]?=↑x) (h2:pick[i]?=↑↑j):N[j]?=↑x/\Ü x=↑ š:=by
 unfold pW at h;have hm:(x,↑j)∈N'.zip pick:=by
  exact Bh (i:=i) ?_;rw[List.getElem?_zip_eq_some];show#[h1,h2]
 have q:=BN.mp h _ hm;simp![Cd,decide_eq_true_eq] at q;show q
def uj.get {pick:č}{σ:St}{i:Nat}{v:V}(h:(Ä4)[i]?=↑↑v):∃ j,pick[i]?=↑↑j/\σ[j]?=↑↑v:=by
 unfold uj at h;rw[AE] at h;cases e:pick[i]? with
 | none=>rw[e] at h;cases h
 | some o=>
  rw[e] at h;cases o with
  | none=>simp at h
  | some j=>
   exact#[j,rfl,?_];simp![Option.map_some,Option.some.injEq,Bv] at h;cases q:σ[j]? with
   | none=>rw[q] at h;simp at h
   | some w=>rw[q] at h;simp at h;rw[h]
def PF (X:Cx) (ifs:List Expr) (t:TT):Prop:=∀ ù (Q:Bool->ĥ),Æ->t σ H Q->
 Ĥ Å (forIn ifs true λ c r=>if r=true then do let ok <- isTrue c đ (eval c đ);pure (ſ ok) else pure (ſ r)) (TP î Q) X.xe s
def Ti Ŭ:PF X [] (λ _ H Q=>Q true H):=λ _ _ _ H _ I h=>wpAny_tests_nil #[H,I,h]
def Th Ŭ{c:Expr}{t:TT}(h:PT X c t):PF X [c] t:=λ E6 s σ H Q I q=>wpAny_tests_one (h ò Q I q)
def iH (pick:č) (wi:TI) (g:TG) (tc:TT) (te:TE):TE:=fun σ H Q=>wi σ H λ J H1=>∀ D,H1 D=none->∃ W:Å3,(∃ m,W 0 m (Ä4) (upd H1 D (Ŧ [])))/\
 Â
section
variable {Ŭ}{Ê}{N':á}{pick:č}{ś}{cl:ú}{C:Addr}{fp:É2}
def NG (S:rf X N' pick Ö) Ŀ ę (Ar:∀ b∈fp,b<À)
  {h1:Heap}(c1:∀ x c,Ä3->(É/\ņ=↑c)\/(Â8/\C<c/\h1.IsCell c none)) (c2:∀ x,É\/Â8->È3) (c3:∀ x y c,Ä3->cl.lookup y=↑c->x=y)
  {m1:AA}{t':Nat}(hC:À<C) (old:∀ b o,Ę b=↑o->h1.get? b=↑o) (C0:h1.Ns C m1)
  (hD:h1.get? À=↑{ cls:=Î,data:=À6 ļ 0 }):
  Inv Ã [] (Ä4) (upd H À (Ŧ [])) { s with heap:=h1,toks:=t' }:=by
 have hDn:H À=none:=þ;have hCn:H C=none:=I.zx.fresh (BG hC);have cf:∀ x c,Ä3->(∃ v,h1.IsCell c v)/\(c<À\/C<c)/\upd H À (Ŧ []) c=none:=λ x c e=>by
  rcases c1 x c e with ⟨_,q⟩ | ⟨_,q1,q2⟩
  .let#[v,o,z1,z2]:=I.cell x c q;have hl:=Ax z1;show#[#[v,o,old Ů z1,z2],į hl,by rw[yj (AI hl)];show I.tJ x c q]
  .show#[#[_,q2],Ŕ q1,by rw[yj (BM (B4 hC q1))];show I.zx.fresh (BG (B4 hC q1))]
 exact#[#[I.ok.mod,S.kind,I.ok.glob,I.ok.blt,BG hC,c3,λ x hx=>?_,λ x c hf e=>?_,I.ok.hd,I.ok.frames,į rfl,
  λ b hb=>#[AI (B4 (Ar b hb) hC),λ x c e=>?_],I.bs,Bj I.ok.r_ I.sz,λ b o e hb=>?_,λ b hb z=>?_,I.stack,I.cP],
  rfl,I.bare,Un.laid old Ÿ hDn,#[m1,C0,λ i x v e1 e2 e3=>?_],λ x c e=>?_,?_,λ x c e=>?_,Ĕ,I.zx.laid old Ÿ ?_,?_]
 .show DU.mp (c2 x (b8 hx))
 .have FZ:=of_decide_eq_true (show decide (Ü x=↑ Š)=true from hf);rcases c1 x c e with ⟨q,_⟩ | ⟨_,q,_⟩
  .rw[S.uniq _ q] at FZ;cases FZ
  .show BG (B4 hC q)
 .rcases c1 x c e with ⟨_,q⟩ | ⟨_,q,_⟩
  .show (ź).2.2.2.2.1 x c q
  .show BM (B4 (B4 (Ar b hb) hC) q)
 .rcases (ź).2.2.2.1 with z | z
  .show I.ok.nF b o e z
  .show ď (BB (Ax (I.ok.bs b o e).1) z) (B7 _)
 .rcases Ak.mp (I.iL b z) with q | q
  .show (ź).2.1 q
  .show (ź).2.2.1 q
 .let#[j,p1,p2]:=uj.get e2;let#[q1,q2]:=pW.get S.ok e1 p1;let#[m0,n0,l0]:=I.loc;have hm:É:=Ø q2;have hk:í x=↑ Š\/í x=↑ š:=S.free _ hm rfl;let#[u,r,l]:=l0 j x v q1 p2 (Ŕ hk);exact#[u,r,Ŕ #[a_ q2,?_]];rcases l with ⟨k,_⟩ | ⟨_,c,e,z⟩
  .have k':í x=↑.local:=k;rcases hk with hk | hk <;> (rw[k'] at hk;cases hk)
  .let#[c',e']:=DU.mp (c2 x (į hm));have e'':ņ=↑c':=by
    rcases c1 x c' e' with ⟨_,q⟩ | ⟨q,_⟩
    .show q
    .have:=S.uniq _ q;rw[q2] at this;cases this
   rw[e] at e'';cases e'';let#[o,z1,z2]:=z;show#[c,e',o,old Ů z1,z2]
 .show (cf x c e).1
 .change upd H À (Ŧ []) C=none;rw[yj (BM hC)];show hCn
 .show (cf x c e).2.2
 .show#[Be _,[],0,.nil,hD]
 .change (Ä4).length=N'.length;unfold uj;rw[AD];show S.len
def NC Ã3 Ŀ ę (hC:À<C)
  (I':Á7) (hoC:s'.heap.get? C=↑oC):Ä5:=by
 have J:Inv î H' s':=I.KL (ch:=fp) I'.os I'.base I'.zx I'.bare λ b hb=>#[(ź).2.2.2.1,(ź).2.1,(ź).2.2.2.2.1,(ź).2.2.2.2.2];exact J.gr λ p hp=>(AG.mp hp).elim (λ z=>J.pin p (AY _ z)) λ z=>?_;obtain rfl:p=(C,oC):=Au.mp z;exact#[hoC,I'.free,BM (B4 I.lt hC),I.aG (BG hC),λ v hv=>?_];let#[m,#[o,es,ep,ho,hd,_],_]:=I'.loc;have FL:s'.heap.get? C=↑o:=ho;rw[hoC] at FL;cases FL;rw[hd] at hv;cases hv
def Z6 Ã3{h':Heap}Ŀ (hC:À<C) (J:Inv X (E6++[(C,oC)]) σ' H' s') (hs:Heap.SameBut C s'.heap h'):Inv X E6 σ' H' { s' with heap:=h' }:=by
 have J':=J.oW;have hp:=J.pin Å6;have lt:∀ c,c<À->c≠C:=λ c h=>AI (B4 h hC);exact J'.turned (t':=s'.toks) (it:=C) (λ b o hb e=>hs.extBut b o hb e) hp.2.1 hp.2.2.1 (Ŕ (Bj I.sz (BG hC))) (λ x c e z=>?_) (λ p hq z=>?_)
 .let#[v,q]:=I.cell x c e;show lt c q.lt z
 .show lt p.1 (Ax (I.pin p hq).1) z
end
section
variable {Ŭ}{N':á}{pick:č}{ś}{elt iter tg:Expr}{ifs:List Expr}{pos:Pos}{wi:TI}{g:TG}{tc:TT}{te:TE}
def Nk Ê{it C:Addr}Ť{W:Å3}{Q:V->ĥ}{R:Result->Ù->Prop}{D:Addr}
  (hc:X.calm=true) (hg:PG Ã tg g) (hf:PF Ã ifs tc) (he:PE Ã elt te)
  Æ2 ę (GL:∀ b∈fp,b≠C/\b∉vX ŷ/\∀ x c,Ä3->c≠b)
  (turn:Â)
  (fin:∀ σ' H' s',Á7->Q È7 H'->R (.ok .next) s')
  {m0:Nat}{σ0:St}{H0:Hp}{s0:Ù}(I0:Inv Ã [] σ0 H0 s0) (t0:tn 0 s0.heap) (f0:∀ b∈fp,H0 b=none) (w0:W 0 m0 σ0 H0):
  Ç3 Å (.compLoop Ä 0 (Ó it) È7 (Ŋ)) R s0:=by
 have Ga:∀ {H':Hp},À1->∀ b∈fp,ue Ã [] H' b:=λ hn b hb=>#[hn b hb,(GL b hb).1,(GL b hb).2.1,į hb,(GL b hb).2.2,Ĕ];exact codeAny_loop rfl (λ n s'=>∃ i σ' H',Á7/\tn i s'.heap/\À1/\W i n σ' H') (λ n s3 hI=>?_) m0 #[0,σ0,H0,I0,t0,f0,w0];let#[i,σ3,H3,I3,Fp,fr3,w3]:=hI;change Ĥ _ X.A ((compTurn Ä 0 (Ó it) È7 (Ŋ)).onRaise (λ x=>do noteFrame x (Ŋ);theTreesLotGoes x)) Ů s3;exact wpAny_noted ?_;rw[compTurn_list];exact gV (wpAny_standAt (gV ?_));rcases turn i n σ3 H3 w3 with ⟨stop,qn⟩ | ⟨go,step⟩
 .exact zD (T.done Ã rfl rfl rfl Ê0 Fp stop) λ r s4 #[hr,I4]=>?_;subst hr;show Ad (fin σ3 H3 s4 I4 qn)
 .exact zD (T.item Ã rfl rfl rfl Ê0 Fp go) λ r s4 #[u,hr,h4]=>?_;subst hr;exact gV (zD h4 λ _ s5 #[x,H5,I5,r5,y5,GZ,fr5]=>?_);have I5':=I5.pinned (Ga fr5) (T.obj Ů GZ);exact gV (za5 (hg _ s5 σ3 H5 x u _ I5' r5 (step x H5 y5)) (λ _ s6 #[σ6,H6,I6,q6]=>?_) Â9);exact gV (za5 (hf _ s6 σ6 H6 _ I6 q6) (λ ok s7 #[H7,I7,q7]=>?_) Â9);have back:∀ {H8:Hp}{s8:Ù},Inv Ã ([]++ny fp s5.heap) σ6 H8 s8->(∃ m',m'<n/\W (i+1) m' σ6 H8)->∃ m,m<n/\∃ i σ' H',Inv Ã [] σ' H' s8/\tn i s8.heap/\À1/\W i m σ' H':=λ{H8 s8} I8 #[m',hm,w8]=>by
   exact#[m',hm,i+1,σ6,H8,I8.oW,T.keep Þ GZ λ b hb o e=>(Á1).1,λ b hb=>?_,w8];let#[o,e,d]:=T.obj Ů GZ b hb;show (Á1).2.1
  cases ok with
  | ī=>
   rw[ē CU] at q7;show Ad #[rfl,back I7 q7]
  | true=>
   rw[ğ rfl] at q7;exact gV (gV (za5 (he _ s7 σ6 H7 _ I7 q7) (λ uy s8 #[y,H8,I8,r8,ys,m',e8,z8,hm,w8]=>?_) Â9));exact gV (za5 (aP (X:=y4 X N' Ö cl C s H fp) _ s8 σ6 H8 È7 [y] È7 [uy] (λ _ H9=>W (i+1) m' σ6 H9) I8 rfl (.cons r8 .nil) #[D,ys,y,rfl,rfl,e8,z8,w8]) (λ _ s9 #[_,H9,I9,_,q9]=>?_) Â9);show Ad (Ad #[rfl,back I9 #[m',hm,q9]])
def Zm Ê{it:Addr}Ť{Q:V->ĥ}{E:Af}{RR:â->Addr->Result->Ù->Prop}
  ģ Ð
  (c1:∀ x c,Ä3->É/\ņ=↑c) (c2:∀ x,É->È3)
  Ŀ Æ2 (t0:tn 0 s.heap) ę
  (rd:∀ D,H D=none->∃ W:Å3,(∃ m,W 0 m (Ä4) (upd H D (Ŧ [])))/\
   Â)
  (fin:∀ C D oC H' s',À<C->Ä5->s'.heap.get? C=↑oC->(∃ m,s'.heap.Ns C m)->Q È7 H'->RR È7 C (.ok .next) s'):
  Ĥ Å (newList []) (λ acc s₃=>Ĥ Å (newFunctionEnv Ö X.env.globals cl [] X.env.qual none .none ↑ đ) (λ cenv s₄=>
   Ç3 Å (.compStart Ä 0 (Ó it) acc { cenv with Ö:=relabel Ö đ }) (RR acc cenv.locals) s₄) E s₃) E s:=by
 exact za9 (O5 λ h₁ eh=>?_);dsimp only at eh ⊢;generalize hH2:Ç7 { cls:=Î,dict:=none,data:=À6 ([]:Ah).toArray }=H2 at eh ⊢;have hC:ÿ=À+1:=by rw[<- hH2,Á5]
 have Ar:À<ÿ:=by rw[hC];show B6 _
 have up:∀ b o,H2.get? b=↑o->h₁.get? b=↑o:=λ b o e=>by rw[eh];show È6 Þ _ (za1 _ e)
 have old:∀ b o,Ę b=↑o->h₁.get? b=↑o:=λ b o e=>up b o (hH2▸za1 _ e);have A4:h₁.get? À=↑{ cls:=Î,data:=À6 ļ 0 }:=up Ů (hH2▸AK _ rfl);have hns₁:h₁.Ns ÿ λ _=>none:=by rw[eh];show (Heap.Ns.new H2 (Ķ "dict")).keeps (È6 Ů)
 let#[own,o1,o2,o3,o4]:=eI ë (H2.push { cls:=Ķ "dict",data:=.dict ļ }) cl;rw[Á5] at o1 o2;rw[<- eh] at o2;rw[o1];have d1:∀ x c,ľ x=↑c->(É/\ņ=↑c)\/(Â8/\ÿ<c/\h₁.IsCell c none):=λ x c e=>by
  rw[DR] at e;cases q:Ź x with
  | some c'=>
   rw[q] at e;cases e;show Ŕ (o2 _ (Ø q))
  | none=>rw[q] at e;show į (c1 x c e)
 have d2:∀ x,É\/Â8->(ľ x).isSome:=λ x hx=>by
  rw[DR,Option.isSome_or];rcases hx with hx | hx
  .rw[c2 x hx,Bool.or_true]
  .rw[o4 x hx];rfl
 have d3:∀ x y c,ľ x=↑c->ľ y=↑c->x=y:=λ x y c e1 e2=>by
  rw[DR] at e1 e2;have low:∀ x c,Ä3->c<ÿ:=λ x c e=>by
   let#[v,q]:=I.cell x c (c1 x c e).2;show B4 q.lt Ar
  have hi:∀ x c,Ź x=↑c->ÿ<c:=λ x c e=>(o2 _ (Ø e)).2.1;cases q1:Ź x with
  | some c1'=>
   rw[q1] at e1;cases e1;cases q2:Ź y with
   | some c2'=>rw[q2] at e2;cases e2;show PySem.name_of_addr o3 (Ø q1) (Ø q2)
   | none=>rw[q2] at e2;show ď (low y _ e2) (Nat.lt_asymm (hi x _ q1))
  | none=>
   rw[q1] at e1;cases q2:Ź y with
   | some c2'=>rw[q2] at e2;cases e2;show ď (low x _ e1) (Nat.lt_asymm (hi y _ q2))
   | none=>rw[q2] at e2;show I.ok.inj x y c (c1 x c e1).2 (c1 y c e2).2
 have Dw:∀ b∈fp,b<À:=λ b hb=>by
  let#[o,e,_]:=T.obj Ů t0 b hb;show Ax e
 have hDn:H À=none:=þ;let#[W,#[m0,w0],turn]:=rd À hDn;have I0:=NG (t':=s.toks) S I BD Dw d1 d2 d3 Ar old hns₁ A4;have t1:tn 0 h₁:=T.keep Þ t0 λ b _ o e=>old b o e;have AL:∀ b∈fp,b≠ ÿ/\b∉vX ŷ/\∀ x c,ľ x=↑c->c≠b:=λ b hb=>I0.ok.fW b hb |> λ q=>#[q.1,I0.ok.m8 b hb,q.2]
 have loop:Ç3 Å (.compLoop Ä 0 (Ó it) (Ó À) (compEnvC Ö (own++cl) ÿ đ)) (RR (Ó À) ÿ) { s with heap:=h₁ }:=by
  exact Nk (σ:=σ) hc (hg Þ Ů) (hf Þ Ů) (he Þ Ů) T BD AL turn (fun σ' H' s' I' q=>?_) I0 t1 (λ b hb=>?_) w0
  .let#[m,hn,_]:=I'.loc;have GV:s'.heap.Ns ÿ m:=hn;let#[oC,es,ep,ho,hr]:=id GV;show fin Ů oC H' s' Ar (NC I BD Ar I' ho) ho #[m,GV] q
  .change upd H À (Ŧ []) b=none;rw[yj (AI (Dw b hb))];show (ź).1
 show codeAny_compStart_list loop (T.self _ 0 Þ t1 loop)
def T2 ģ (hi:PI X tg iter wi) Ð
  ĵ:PE X Ä (iH pick wi g tc te):=by
 ext Ą;rw[eval_ListComp];exact wpAny_comprehension_free (use:=none) ø;ext ĺ;exact Zm (RR:=λ acc C=>compPost Å X.xe none (EP î Q) acc C) S hc hg hf ő;let#[m,hn]:=hn;show#[m,hn,λ h' FQ=>#[Ó D,H',Z6 I2 hC J' FQ,rfl,q]]
def UE {i:Nat}{y:Str}{py Bp:Pos}ģ (hi:PI X tg iter wi) Ð
  (hN:X.N.Nodup) (hy:X.N[i]?=↑y) (hx:Loc X.env.scope y)
  (Cs:swapsWith Ä ↑(.Name y py) Bp.line đ=pure true:=by rfl)
  (Cg:X.fn y=true\/í y=↑.local:=by first | show į rfl | show Ŕ rfl | assumption)
  ĵ:PS X (.Assign [.Name y py] Ä Bp) (o_ (iH pick wi g tc te) (o9 i)):=by
 ext Ą;rw[exec_Assign_Name_used Þ _ Cs];exact gV (wpAny_standAt (gV ?_));change Ĥ _ X.A (do let _ <- comprehension Ä Ö đ _ (newList []) ī (eval iter đ) ↑ ũ) Ů s;exact gV (za5 (wpAny_comprehension_free (use:=↑ ũ) (Q:=λ _ s'=>SP X E6 Q .next s') ø) (λ _ s' hq=>Ad (Ad hq)) λ _ _ e=>e)
 ext ĺ;exact Zm (Q:=λ x H1=>o9 i x σ H1 Q.nx) (RR:=λ acc C=>compPost Å X.xe ↑ ũ (λ _ s'=>SP X E6 Q .next s') acc C) S hc hg hf ő;change Ĥ _ X.A (assign (.Name y py) đ È7) Þ;exact wpAny_assign_Name (iK J' hN hy hx (v:=Ó D) rfl (λ s3 J3=>?_) Cg);have hp:=(J3.pin Å6).1;let#[m,o,es,ep,FL,hr]:=hn;have:o=oC:=Bb (FL.symm.trans ho);subst this;show#[m,#[o,es,ep,hp,hr],λ h' FQ=>#[_,H',Z6 I2 hC J3 FQ,q]]
end
end L2
namespace L3
open PySem PySem.Spec L2
open Ŏ hiding St
inductive D where
 | zp | bl (b:Bool) | int (i:Int) | str (x:Str) | tup (ds:ř) | x_ (ds:ř) | ref Æ9 | err (c f:Str) (d:D)
def oO è Æ9 (xs:Õ):Prop:=
 (∃ o,H a=↑(.wb o Ě))\/
  ∃ (o:Obj) (Aa:AB) (n:Nat),ŕ a=↑o/\o.cls=Î/\o.dict=none/\o.data=À6 Aa n/\Aa.size<=ñ/\Vals xs Aa.toList
def oO.sq {K:Ac}{H:Hp}È0 ĩ(h:oO É6):zP É6:=by
 rcases h with h | h
 .show į (Ŕ h)
 .show Ŕ h
abbrev Xj:List â:=[Ķ "ValueError",Ķ "Exception",Ķ "BaseException",Ķ "object"]
abbrev aJ:á:=["__getattribute__","__getattr__","__class__","__setattr__","place","pair","way","times","told","name","row"]
def XJ ġ ż (bm:Ah) (N:Addr):Prop:=
 (∃ (q:Str) (bs:Ah) (sn:á) (sub:Ah) (ab:Bool) (col:Ë Bool) (dd:Ű) (k0 k1 k2 k3 k5:Ë â),ŕ C=↑(excClassObj c q C N bs bm true sn sub ab col dd k0 k1 k2 k3 k5 "ValueError.__new__"))/\
 PySem.W.nsOkIn K N=true/\∀ n∈aJ,ŏ K N n=↑none
structure Ie ġ (c:Str) (C P N NP:Addr):Prop where
 own:XJ K c C (Ó P::Xj) N
 par:XJ K "PurseError" P Xj NP
 top:ŏ K ń c=↑↑(Ó C)
 zad:ŏ K ń "PurseError"=↑↑(Ó P)
 zae:ŏ K NP "__init__"=↑none
def lC ġ ż:Prop:=∃ P N NP,Ie K c C P N NP
def ownIn ġ ż (bm:Ah):Ű:=match ŕ C with
 | some #[Ķ "type",_,.cls cd,sl]=>(match cd.mro,sl.toList with
  | Ó C'::bm',[_,_,_,_,↑(œ n),_]=>if C' == C&&n == "ValueError.__new__"&&!cd.hasDel&&bm' == bm&&cd.hasDict&&cd.name == c&&PySem.W.nsOkIn K cd.ns&&aJ.all (λ n=>ŏ K cd.ns n == ↑none) then ↑cd.ns else none
  | _,_=>none)
 | _=>none
def s_ (e C:Addr) (dx:Ű):HO:=.ext λ h=>∃ oe vs,h.get? e=↑oe/\oe.cls=Ó C/\oe.dict=dx/\oe.data=.fields vs
def Xd Ś (f:Str) (w:V):Ű->Prop
 | some x=>H x=↑(.xd [(f,w)])
 | none=>f=""/\w=.zp
mutual
def zg è:D->V->Prop
 | .zp,v=>v=.zp
 | .bl b,v=>v=.bl b
 | .int i,v=>v=.int i
 | .str x,v=>v=.str x
 | .tup ds,v=>∃ a xs,v=Ó a/\yg É6/\ċ
 | .x_ ds,v=>∃ a xs,v=Ó a/\oO É6/\ċ
 | Ó a,v=>v=Ó a
 | .err c f d,v=>∃ e C dx w,v=Ó e/\(lC K c C/\H e=↑(s_ e C dx)/\Xd H f w dx)/\zg ů d w
def zk è:ř->Õ->Prop
 | [],xs=>xs=[]
 | d::ds,xs=>∃ x r,xs=x::r/\zg ů d x/\zk ů ds r
end
structure Ext (H H':Hp):Prop where
 tup:∀ b xs,H b=↑(.tup xs)->H' b=↑(.tup xs)
 wb:∀ b o u,H b=↑(.wb o u)->H' b=↑(.wb o u)
 ext:∀ b φ,H b=↑(.ext φ)->H' b=↑(.ext φ)
 xd:∀ b fs,H b=↑(.xd fs)->H' b=↑(.xd fs)
def Ext.refl Ś:Ext H H:=#[λ _ _ h=>h,λ _ _ _ h=>h,λ _ _ h=>h,λ _ _ h=>h]
def Ext.trans {H H1 H2:Hp}(a:Ext H H1) (b:Ext H1 H2):Ext H H2:=#[λ c xs h=>b.tup c xs (a.tup c xs h),λ c o u h=>b.wb c o u (a.wb c o u h),λ c u h=>b.ext c u (a.ext c u h),λ c u h=>b.xd c u (a.xd c u h)]
def Ext.new {H:Hp}Ŝ(h:H p=none) (o:HO):Ext H (upd H p o):=
 #[λ b xs q=>ĝ,λ b ob u q=>ĝ,λ b u q=>ĝ,λ b u q=>ĝ]
theorem Ext.lst {H:Hp}Ŝ ĩ(h:H p=↑ Ě) (o:HO):Ext H (upd H p o):=
 #[λ b ys q=>ã,λ b ob u q=>ã,λ b u q=>ã,λ b u q=>ã]
def Ext.lZ ł È0 ĩ Ā (h:yg É6):yg K H' a xs:=by
 rcases h with (h | ⟨o,h⟩) | h
 .show į (į (e.tup Ů h))
 .show į (Ŕ #[o,e.wb Þ h])
 .show Ŕ h
def Ext.l_ ł È0 ĩ Ā (h:oO É6):oO K H' a xs:=by
 rcases h with ⟨o,h⟩ | h
 .show į #[o,e.wb Þ h]
 .show Ŕ h
section
variable {ł}
def Xd.ext {H H':Hp}{f:Str}{w:V}{dx:Ű}(h:Xd H f w dx) Ā:Xd H' f w dx:=by
 cases dx with
 | none=>show h
 | some x=>show e.xd Ů h
mutual
theorem zg.ext Ā:∀ (d:D) {v:V},zg ů d v->zg K H' d v
 | .zp,v,h=>Č
 | .bl b,v,h=>Č
 | .int i,v,h=>Č
 | .str x,v,h=>Č
 | Ó a,v,h=>Č
 | .err c f d,v,h=>by
  simp![zg] at h ⊢;let#[a,C,dx,w,h1,#[h2,h3,h4],h5]:=h;show#[a,C,dx,w,h1,#[h2,e.ext Ů h3,h4.ext e],zg.ext e d h5]
 | .tup ds,v,h=>by
  ext ž;show#[a,xs,h1,e.lZ h2,zk.ext e ds h3]
 | .x_ ds,v,h=>by
  ext ž;show#[a,xs,h1,e.l_ h2,zk.ext e ds h3]
theorem zk.ext Ā:∀ (ds:ř) ĩ,ċ->zk K H' ds xs
 | [],xs,h=>by simpa only [zk] using h
 | d::ds,xs,h=>by
  simp![zk] at h ⊢;ext Ă;show#[x,r,h1,zg.ext e d h2,zk.ext e ds h3]
end
theorem zk.length:∀ {ds:ř}ĩ,ċ->ds.length=Ì
 | [],xs,h=>by ext Ç1;subst h;rfl
 | d::ds,xs,h=>by
  ext Ç1;let#[x,r,h1,_,h3]:=h;subst h1;simp[zk.length h3]
theorem zk.get:∀ {ds:ř}ĩ{i:Nat}{d:D},ċ->ds[i]?=↑d->∃ x,xs[i]?=↑x/\zg ů d x
 | [],_,i,d,_,e=>by simp at e
 | c::ds,xs,i,d,h,e=>by
  ext Ç1;ext Ă;subst h1;cases i with
  | zero=>simp at e;subst e;show#[x,rfl,h2]
  | succ i=>
   let#[y,e1,e2]:=zk.get (i:=i) h3 (by exists e);show#[y,by simpa using e1,e2]
theorem zk.append:∀ {ds es:ř}{xs ys:Õ},ċ->zk ů es ys->zk ů (ds++es) (xs++ys)
 | [],es,xs,ys,h,h'=>by ext Ç1;subst h;exists h'
 | d::ds,es,xs,ys,h,h'=>by
  ext Ç1;ext Ă;subst h1;change zk ů (d::(ds++es)) (x::(r++ys));simp![zk];show#[x,r++ys,rfl,h2,zk.append h3 h']
def zk.nil:zk ů [] []:=by simp![zk]
def zk.cons {d:D}{ds:ř}{x:V}ĩ(h:zg ů d x) (h':ċ):zk ů (d::ds) (x::xs):=by
 simp![zk];show#[x,xs,rfl,h,h']
def zk.snoc {d:D}{ds:ř}{x:V}ĩ(h':ċ) (h:zg ů d x):zk ů (ds++[d]) (xs++[x]):=h'.append (.cons h .nil)
theorem zk.ints:∀ {ns:İ}ĩ,zk ů (È2 D.int) xs->xs=È2 V.int
 | [],xs,h=>È8
 | n::ns,xs,h=>by
  ext À9;rw[Ay,zk.ints h3]
theorem zk.gF:∀ (ns:İ),zk ů (È2 D.int) ė
 | []=>.nil
 | n::ns=>.cons (by simp![zg]) (zk.gF ns)
theorem zk.bools:∀ {ns:List Bool}ĩ,zk ů (È2 D.bl) xs->xs=È2 V.bl
 | [],xs,h=>È8
 | n::ns,xs,h=>by
  ext À9;rw[Ay,zk.bools h3]
end
inductive O where
 | lst (ds:ř)
 | yv (Ab:List (Key×D))
 | obj (c:Str) (fs:List (Str×D))
abbrev SS:=Addr->Ë O
def yU è:List (Key×D)->List (Key×V)->Prop:=Á6
def ud è:List (Str×D)->List (Str×V)->Prop:=Á6
def rb ġ ż:Prop:=ŏ K ń c=↑↑(Ó C)
def qY è Æ9:O->Prop
 | Ŧ ds=>∃ xs,H a=↑ Ě/\ċ
 | .yv Ab=>∃ vs,H a=↑(.dK vs)/\yU ů Ab vs
 | .obj c fs=>∃ C dx vs,rb K c C/\H a=↑(.ins C dx vs)/\ud ů fs vs
def zN è (S:SS):Prop:=∀ a o,S a=↑o->qY ů a o
def ups (S:SS) Æ9 (o:O):SS:=λ b=>if b=a then ↑o else S b
def tf {S:SS}È0{o:O}:ups S a o a=↑o:=by unfold ups;rw[ğ rfl]
def sr {S:SS}{a b:Addr}{o:O}(h:b≠a):ups S a o b=S b:=by unfold ups;rw[ē h]
def Sx (S S':SS):Prop:=∀ b o,S b=↑o->S' b=↑o
def Sx.refl (S:SS):Sx S S:=λ _ _ h=>h
def Sx.trans {S S1 S2:SS}(a:Sx S S1) (b:Sx S1 S2):Sx S S2:=λ c o h=>b c o (a c o h)
def Sx.new {S:SS}Ŝ(h:S p=none) (o:O):Sx S (ups S p o):=λ b u q=>by
 rw[sr (by intro z;subst z;rw[h] at q;cases q)];show q
theorem Sx.none {S S':SS}(e:Sx S S') Ŝ(h:S' p=Á8):S p=Á8:=by
 cases q:S p with
 | none=>rfl
 | some o=>rw[e p o q] at h;cases h
section
variable {ł}{S:SS}
def qY.has È0{o:O}(h:qY ů a o):H a≠none:=by
 cases o with
 | lst ds=>let#[xs,h,_]:=h;rw[h];simp
 | yv Ab=>let#[xs,h,_]:=h;rw[h];simp
 | obj c fs=>let#[C,dx,vs,_,h,_]:=h;rw[h];simp
theorem zN.none Ê1 Ŝ(h:H p=Á8):S p=Á8:=by
 cases q:S p with
 | none=>rfl
 | some o=>show ď h (r p o q).has
theorem yU.ext Ā {Ab:List (Key×D)}{vs:List (Key×V)}(h:yU ů Ab vs):yU K H' Ab vs:=
 Ū
theorem ud.ext Ā {fs:List (Str×D)}{vs:List (Str×V)}(h:ud ů fs vs):ud K H' fs vs:=
 Ū
def qY.keep È0{o:O}Ā (k:∀ u,H a=↑u->H' a=↑u) (h:qY ů a o):qY K H' a o:=by
 cases o with
 | lst ds=>let#[xs,h1,h2]:=h;show#[xs,k _ h1,zk.ext e ds h2]
 | yv Ab=>let#[xs,h1,h2]:=h;show#[xs,k _ h1,h2.ext e]
 | obj c fs=>let#[C,dx,vs,h0,h1,h2]:=h;show#[C,dx,vs,h0,k _ h1,h2.ext e]
theorem zN.keep Ā (k:∀ a u o,S a=↑o->H a=↑u->H' a=↑u) Ê1:zN K H' S:=λ a o h=>(r a o h).keep e λ u q=>k a u o h q
theorem zN.new Ŝ{u:HO}(hp:H p=Á8) Ê1:zN K È9 S:=
 r.keep (Ext.new hp u) λ a v o _ q=>by rw[yj (tF q hp)];show q
theorem zN.ups Ŝ{u:HO}{o:O}(e:Ext H È9) (hn:qY K È9 p o) Ê1:zN K È9 (ups S p o):=λ a o' h=>by
 by_cases ha:a=p
 .subst ha;rw[tf] at h;cases h;show hn
 .rw[sr ha] at h;show (r a o' h).keep e λ v q=>by rw[yj ha];show q
end
abbrev yc:=List (Ë D)
def yJ è (δ:yc) (σ:St):Prop:=δ.length=σ.length/\∀ (i:Nat) (d:D),δ[i]?=↑↑d->∃ v,σ[i]?=↑↑v/\zg ů d v
theorem yJ.ext ł{δ:yc}{σ:St}Ā (r:yJ ů δ σ):yJ K H' δ σ:=#[r.1,λ i d h=>by
 let#[v,h1,h2]:=r.2 i d h;show#[v,h1,zg.ext e d h2]]
theorem yJ.set {K:Ac}{H:Hp}{δ:yc}{σ:St}(i:Nat) {d:D}{v:V}(r:yJ ů δ σ) (h:zg ů d v):yJ ů (δ.set i ↑d) (σ.set i ↑v):=by
 exact#[by rw[Dh,Dh];show r.1,λ j c hc=>?_];rw[DQ] at hc ⊢;by_cases hj:i=j
 .subst hj;rw[ğ rfl] at hc ⊢;by_cases hl:i < δ.length
  .rw[ğ hl] at hc;rw[ğ (by rw[<- r.1];show hl)];cases hc;show#[v,rfl,h]
  .rw[ē hl] at hc;cases hc
 .rw[ē hj] at hc ⊢;show r.2 j c hc
abbrev DK:=D->Ŵ
abbrev zv:=yc->SS->DK->Prop
abbrev yA:=yc->SS->(Bool->Ŵ)->Prop
abbrev ym:=yc->SS->(ř->Ŵ)->Prop
def yo (t:zv):Prop:=∀ δ S (Q Q':DK),ă
def vb (t:yA):Prop:=∀ δ S (Q Q':Bool->Ŵ),ă
def se (t:ym):Prop:=∀ δ S (Q Q':ř->Ŵ),ă
def we è (Q:VK):DK:=λ d S'=>∀ v H',zg K H' d v->Ext H H'->zN K H' S'->Q v H'
def mH è (Q:Bool->ĥ):Bool->Ŵ:=λ b S'=>∀ H',Ext H H'->zN K H' S'->Q b H'
def LI è (Q:Õ->ĥ):ř->Ŵ:=λ ds S'=>∀ vs H',zk K H' ds vs->Ext H H'->zN K H' S'->Q vs H'
def vq è (Q:St->ĥ):yc->Ŵ:=fun δ S'=>∀ σ H',yJ K H' δ σ->Ext H H'->zN K H' S'->Q σ H'
)
example:=`(
example ź:=by dsimp only
example À:=by ext ź;lia
example ī:=a.toList
example Ŀ:=b.toList
example Á _:=x lb ī Ŀ
example Ŭ:=zetaHave
example Â:=by dsimp -zeta -Ŭ +zetaDelta only
example Ã:=wpS_bind
example Ä0(ha:PD X a ta):=0
example Ä Ä0 (hb:PD X b tb):=0
example Å:=wpS_pure
example ß:=Keyed
example ē:=ß->ß->Bool
example Æ{prog:Program}{w:World}{A:Around}{E:Af}{s:Shared}{κ:SortKind}{D:ß->Prop}{lb:ē}:=0
example Ç:=a.toList.drop
example È:=a.toList.take
example É:=Array ß
example û:=underBinder
example Ê:=by extract_lets -û
example Ë:=L.length
example À5:=s.heap.objs.size
example Ť:=#[_,AK _ rfl,rfl,rfl]
example ĩ:=λ i=>bs.getD i true
example Ì:=#[À5,_,_,_,_,_,ĩ,rfl,Walks.list (A:=X.A.in1) (I.ok.hd hc) À5 p (AI Ar) Aa.toArray,#[Ť,pl.isList.push _],λ i v s' Q' E' hv Hh=>?_,λ h' tk hk=>?_]
example Í:=by let#[δ,S,r1,r2,z]:=hu
example Î:=b.toList.drop
example Ï _:=x lb left key
example ò:=by let#[δ,S,r1,r2,h]:=hu
example ï:=λ x S1 v H1 h1 q1 e1 p1=>?_
example È7:=zK.go
example ſ _:=x r1 r2
example Ð:=by ext ò;exact È7 ha.mo ſ h ï
example ū:=c.2.1
example Ñ:=Inv ū c.2.2.1 c.2.2.2.1
example Ò:=by simp![zg]
example Ó:=b.toList.take
example Ô:=Up.app.mp
example Ă:=P.length
example ł:=X.length
example Õ:=Ă+ł
example Ö _:=x δ S
example Ø:=false
example Ā _:=x _ _
example Ù _:=x δ S Ā
example à:=a.size
example è(G:Asks prog w A E s κ D lb):=0
example ó:=SortSt
example È3{st:ó}:=0
example À6:=ó->Prop
example Ú è {a b:É}È3{Q:É->À6}(Hr:∀ x∈ ī,D x) (Ho:∀ x∈ Ŀ,D x) (sa:Up lb ī) (sb:Up lb Ŀ) (na:0<à):=0
example Ä9:=yq Ï (e i)
example Ď _:=x (λ i=>Ä9) n
example ţ _:=x ?step ?fin
example Ė:=c.1=none
example Û _:=x (I:=λ k c E_=>E_=E7/\Ė/\c.2.2-ū<=n-k/\Cut Ď ū c.2.2) (Q:=λ c E_=>E_=E7/\Ė/\c.2.2<=ū/\Cut Ď ū c.2.2) ţ
example Ü:=fun σ H Q hu=>?_
example ď _:=x σ H Q
example Ý(hi:∀ σ H Q,t' ď->t ď):=0
example Þ:=by let#[u,rfl,ru]:=vals1 r;cases ru;let#[Aa,rv,pl,hz]:=I.list hq;have hl:=rv.length;rw[AD] at hl;have Ar:p<À5:=by let#[o,n,e,_]:=pl;show Ax e
example á _:=x (model prog w) A E s
example â _:=x G (by rw[ax];show λ x hx=>inX x (by rw[FA];show AY _ hx)) (by rw[ay];show λ x hx=>inY x (by rw[Fv];show Bm _ hx)) (by rw[ax];show uR) (by rw[ay];show uL2) n1 n2
example ŷ:=failedOf st
example ã:=by rw[ax,ay] at hr;exact Ã (wpS_modify (Ã (wpS_get (Å ?_))));change Q (Option.isNone (ŷ)) _;have e:Option.isNone (ŷ)=true:=by rw[hf];rfl
example ä:=by simpa [yq] using this
example Ç9 _:=x E6 s ď I (hi ď q)
example å:=λ E6 s σ H Q I q=>h Ç9
example æ:=by rcases g2 with ⟨o,rfl,ho⟩ | ⟨rfl,g3,g4⟩
example ŧ _:=x K H
example Ŗ:=Int->Int->D
example ç{g:Ŗ}{g':Int->Int->V}(hg:∀ i j H,zg ŧ (g i j) (g' i j)):=0
example é:=(.refl H)
example ê:=L'.length
example ú:=b.size
example Ŧ:=(à-c.2.2.1)+(ú-c.2.2.2.1)
example ë:=Ė/\Ñ/\Ŧ+1<=(à-ia)+(ú-ib)
example ì:=onlyGivenNames
example ė:=r1.ext e1
example ŕ:=e1.trans
example í _:=x (ė) p1 z λ y S2 w H2 h2 q2 e2 p2=>h2 w H2 q2 (ŕ e2) p2
example î:=by .show h.elim
example ð:=by rintro⟨r,l,o⟩ E_ ⟨rfl,rfl,h1,g1,g2,g3,g4⟩;dsimp only at h1 g1 g2 g3 g4 ⊢;show Å (h o g2 (λ i hi=>g3 i ⋯) g4)
example ñ:=arrOf st
example Ê2:=StateT
example ô:=Ê2 σ Sem α
example Ë3 _:=x M A E s
example õ:=wpS Ë3 m Q st
example š:=(y0::Y').length
example Â5:=pendingOf st
example ö _:=x (((Â5).setIfInBounds i (Ă,ł+š,pa)).eraseIdxIfInBounds (i+1)) g (ŷ)
example ø:=yJ ŧ δ σ
example ù:=by let#[δ,S,r1,r2,h']:=hu;exact xY.go h.mo ſ h' λ ds S1 xs H1 h1 q1 e1 p1=>#[by rw[<- q1.length];show h1.1,λ p hp=>?_]
example Â7{pos:Pos}:=0
example ž{f:yK}{r:R2}{ta tb:zv}:=0
example ü{a b:Expr}{op:CmpOp}Â7 ž(ho:yx X (compareOp op) r) (hr:xC X.K f r) (hf:wK f):=0
example ý:=by let#[x,hx,h1]:=h0.one;subst hx
example þ:=λ x hx y hy=>?_
example ÿ _:=x ha.mo hb.mo
example ā:=by rintro k ⟨r,l,o⟩ E_ _ BO ⟨rfl,rfl,h1,h2⟩;dsimp only at h1 h2 ⊢;let#[g1,g2,g3,g4]:=h2;split
example ă:=yi (λ Fn=>?_) λ Fn=>?_
example Ą:=by dsimp -zeta -Ŭ only [Ge];exact Ã (lJ ?_);have FX:Gs (setG E7 g):=by let#[g0,rfl]:=g1;show#[_,rfl]
example ą:=SS->Prop
example Ê7:=Unit.unit
example Ć:=wpS Ë3 (jp Ê7 x) Q st
example ć:=drop_cons
example Ĉ:=λ p hp q hq=>?_
example ĉ:=zN ŧ S
example Ċ:=False
example ċ:=fun δ5 S5 w5 σ5 H5 b1 b2 b3=>#[((x2.trans x3).trans a2).trans b2,δ5,S5,b1,b3,w5]
example Č:=wpS_forRange
example č:=by exists Fn
example Đ:=by rw[e];show#[.bl _,H,I.kept (t':=tk) λ b o eo=>hk b o (by exists AI (Ax eo)) (za1 _ eo),rfl,q]
example đ:=by dsimp -zeta -Ŭ only
example Ē:=by rw[Au] at hq;subst hq
example Ĕ:=out.toList
example Ç0:=by simp![zg] at h1 h2
example Ū:=by let#[a,xs,rfl,r1,r2]:=h1
example ĕ:=by rename_i q;ext Ç0;ext Ū;let#[x',e1,e2]:=r2.zT q
example Ę:=lb y x=Ø
example ę:=Mh Á out.toList.reverse (È ia) (Ó ib)
example Æ3:=kindOf st
example Ě(hk:Æ3=κ):=0
example ě _:=x δ S1
example Ĝ:=by rintro⟨r,l,o⟩ E_ ⟨rfl,rfl,h1,h2⟩;dsimp only at h1 h2 ⊢;show#[rfl,rfl,⋯,h2]
example Ç7:=Option Nat
example ĝ{left:Bool}{key:ß}{arr:É}{base n hint:Nat}È3{Q:Ç7->À6}:=0
example Ê0:=(.lst ds)
example Ğ:=some Ê0
example ğ:=.inl
example Ġ:=by exists hz
example ġ{e:Expr}:=0
example Ģ:=by simp![zg] at r;subst r
example ģ:=by let#[h1,h2,h3]:=h
example Ĥ:=#[δ,S,r1,r2,mo Ù (λ d S' q v H' a b c=>k d S' v H' q a b c) h]
example ĥ:=hq Ā h
example Ħ:=by exact Ã (xv ex ?_)
example ħ:=yO.fits λ _ _ _=>Ò
example Ĩ:=by rintro k ⟨r,l,o⟩ E7 _ BO ⟨rfl,rfl,h1,h2,h3,h4⟩;dsimp only at h1 h2 h3 h4 ⊢
example Ī:=by .exact Ã (lJ (Å #[?_,rfl,g3,À]));let#[g,rfl]:=g1;show#[_,rfl]
example Ĭ:=Ã (xv ey ?_)
example ĭ:=R0++[x1]
example Ë0:=Ė/\Ñ/\ū+c.2.2.1+1<=ia+ib
example Į _:=x (Q:=λ c E7=>Gs E7/\(Fin c.1\/Ë0)) ţ
example į:=λ D σ H hu=>?_
example İ:=∀ d δ S (Q Q':yc->ą),(∀ δ S,Q Ö->Q' Ö)->t d Ö Q->t d Ö Q'
example ı:=Ã (xv ey (Ã (xv ex (Ã (G.ask (Ho y my) (Hr x mx) (gk g1) ?_)))))
example Ĳ:=List Expr
example ĳ:=ds.length
example Ĵ:=Å #[rfl,rfl,À,À,g2,λ i hi=>mono i _ (by dsimp only at hi;lia) q c,g4]
example ĵ:=by rintro⟨r,c⟩ E7 ⟨⟨g,rfl⟩,out,rfl,hr⟩;show Å (h Ā hr)
example Ķ _:=x (λ x hx=>Hr x (inA _ x hx)) (Ho y my) (gk FX) ⋯ sA λ L R FA hL hR=>?_
example ķ:=a.extract
example ĸ:=Å #[g1,_,rfl,ho]
example Ĺ:=by split at h
example ĺ:=wx.go hb.mo (ė) p1 z λ y S2 H2 h2 e2 p2=>h2 H2 (ŕ e2) p2
example Ļ:=Å #[rfl,rfl,À,À,À,g3,λ i hi B8=>F0 _ i hi B8 c]
example ļ:=I.items.length
example Ľ:=List ß
example ľ:=List.Perm.append_right
example ŀ:=by rintro⟨r,l,o⟩ E7 ⟨rfl,rfl,h1,h2,h3,h4⟩;dsimp only at h1 h2 h3 h4 ⊢
example Ł:=by have gk:∀ {E7},Gs E7->kindOf E7=κ:=λ hg=>by let#[g,rfl]:=hg;show hk
example Ë2{H:Hp}:=0
example Ń{σ:St}Ë2:=0
example ń _:=x yO.mo ha hb (uG _)
example Ņ _:=x x hx y hy
example ņ _:=x (fI.fits λ _ _ _=>Ò) fI.mo ha hb
example Ň:=List.Perm.append_left
example ň(ha:yo ta) (hb:yo tb):=0
example ŉ:=by intro E6 s σ H xs us Q I r h;let#[p,bs,rfl,hq,q]:=h;ext Þ
example Ŋ:=by rw[Au] at hp;subst hp
example ŋ:=by rcases AG.mp hq with hq | hq
example Ō:=by have q:l+(o-l)/2<n:=⋯;exact Ã (oU G (he _ q) (hd _ q) dk hk ?_);ext ź
example Ŷ:=(.new hl _)
example ō:=by simp![zg];show#[l,xs,rfl,yg.of y7,zk.ext Ŷ _ r2]
example Ŏ:=by rintro⟨r,out,Fh,Fe,ac,bc⟩ E7 ⟨g1,g2,g3,g4⟩
example ŏ:=.ref p
example Ő:=λ E6 s σ H v w Q I r q=>h E6 s σ H v w Q I r (hi v ď q)
example ő:=by exists he
example Œ(K:Ac):=0
example Å7:=List D
example œ Ë2{ds:Å7}{xs:List V}:=0
example Ŕ _:=x lb a b
example ŗ:=λ ds S1 xs H1 h1 q1 e1 p1=>?_
example Ř:=G.as (by have:=hR x hx;ext ä)
example ř:=List V->Hp->VK->Prop
example Ś:=wpS_mono
example ś:=out.push
example Ŝ:=yi (λ _=>?_) λ _=>?_
example ŝ:=by rintro⟨r,l,o⟩ E7 ⟨rfl,rfl,hc⟩;dsimp only at hc ⊢
example Ş{out:É}{ia ib:Nat}:=0
example ş:=PE.imp
example Š:=.inr
example Ţ(hf:X.fn x=true\/X.env.scope.names.lookup x=↑.local):=0
example ť:=#[rfl,rfl,by have:=hc.2.1;ext ź;lia,hc]
example Ũ _:=x ta tb
example ũ:=(λ z=>?_)
example ŭ{X:Cx}:=0
example Ů(r1:ø) (r2:ĉ) (h:t Ö R):=0
example ů:=∀ x y,P x y->wpS Ë3 (jp Ê7 x y) Q st
example Ű:=.int
example ű:=(∀ d S',Q d S'->Q' d S')
example Ų:=(ñ).extract (Ă+Ë) (Õ)
example ų:=by let Fin (r:Option (É)):Prop:=∃ out,r=↑out/\Res Á Ĕ
example Ŵ:=hq Ā z
example ŵ:=.tup ds
example Ÿ:=λ _=>AV _ trivial
example Ź{i:Nat}:=0
example Ż:=decide
example ż:=Mg Á Ĕ (Ç ia) (Î ib)
example Ž:=by have:=hL x hx;ext ä
example À0:=Å #[rfl,rfl,‹_›,g1,g2,g3,g4]
example À1:=by cases e;simp![zg] at r;let#[a,xs,h1,h2,h3]:=r
example À2:=Ext H H'
example À3:=λ E6 s σ H Q I q=>h E6 s ď I (hi Q σ H q)
example À4:=λ _=>True
example À7:=b.extract
example À8:=by rename_i e;let#[a,ys,rfl,q,r]:=zV.sq h1 h2 e
example À9 _:=x (λ x hx=>Ho x (yY _ x hx)) (Hr x mx) (gk FX) ⋯
example Á0:=by extract_lets -û +ì z1 z2 z3 z4 z5 z6 z7 z8 z9 ik ij
example Á1:=∀ st,P st->wpS Ë3 (jp Ê7) Q st
example Á2:=by dsimp only at g2 g3 g4;show#[g1,Š #[g2,g3,À]]
example Á3:=Array.toList out
example Á4:=yi (λ he=>?_) λ he=>yi (λ hf=>?_) λ hf=>?_
example Á5{K:Ac}{H H':Hp}:=0
example Á6(hc:X.calm=true):=0
example Á7:=wpS á (fL left key arr base n hint) Q st
example Á8:=yi (λ hz=>?_) λ hz=>?_
example È0:=by simp![zg] at q1
example Á9:=by ext È0;let#[a,xs,rfl,g1,g2]:=q1
example Â0(h:∀ out g,Res Á Ĕ->Q out (setG st g)):=0
example Â1:=I1.kept (t':=s1.toks) λ b o eo=>za1 _ eo
example Â2(hi:X.N[i]?=↑x) (hx:Loc X.env.scope x):=0
example Â3:=by rw[BZ,List.take_take,El ⋯] at this;show this
example Â4:=Å #[rfl,rfl,cut _ h2 (ğ ‹_›)]
example Â6(X:Cx) (e:Expr):=0
example Â8 _:=x ha.pe hb.pe
example Â9:=by simp![zg] at r;let#[a,xs,rfl,r1,r2]:=r
example Ã0 _:=x â (λ y hy x hx=>?_) (þ) hk λ out g hr=>?_
example Ã1:=λ _ _ q=>q
example Ã2:=List.range
example Ã3:=by exists hy
example Ã4:=congrArg
example Ã5:=by rcases AG.mp hx with hx | hx
example Ã6:=Å (key (Up.app.mpr #[uX,uY,?_]))
example Ã7:=P++L++(ĭ)++(y0::GD)
example Ã8:=λ v H2 r x q=>h v H2 r (e.trans x) q
example Ã9:=seg.getD i (Value.none,Value.none)
example Ä1(he:PD X e te):=0
example Ä2:=by ext Â;have AL:st=setG st (gallopOf st):=rfl
example Ä3:=.BoolOp
example Ä4:=by rcases AG.mp hy with hy | hy
example Ä5:=zk ŧ ds xs
example Ä6:=(.new hp _)
example Ä7:=λ _ _ h=>vq.ext e h
example Ä8:=assignEach es X.env
example Å0{lb:ē}{a b out A B A1 A2 B1 B2:Ľ}:=0
example Å1:=by let#[y,ey,my]:=tU (a:=b) (i:=Fe-1) ⋯
example Å2:=λ i hi B8=>F0 (hint-l) i ⋯ B8 h4
example Å3:=List.drop_of_length_le (by exists q)
example Å4:=c5 Ge (À4) (λ g _=>?G7) λ AV=>?Hm
example Å5(hi:∀ D σ H,t' D σ H->t D σ H):=0
example Å6 _:=x (ė) p1 h1 λ y S2 w H2 h2 q2 e2 p2=>?_
example Å8:=.Compare
example Å9:=#[h.1,hq Ā h.2]
example Æ0:=sizeLine
example Æ1:=h H é p
example Æ2:=#[z.1,hq Ā z.2]
example Æ4:=λ i hi=>mono i (hint+l) ⋯ h3 h4
example Æ5:=Å #[rfl,rfl,cut _ h2 (Š c)]
example Æ6:=lb x y=Ø
example Æ7:=m.done (he.imp (λ q=>?_) λ q=>?_)
example Æ8:=take_snoc
example Æ9{Q:Bool->Hp->Prop}:=0
example Ç1(hi:∀ v σ H Q,t' v ď->t v ď):=0
example Ç2 _:=x (Q:=λ c E7=>Gs E7/\(Fin c.1\/ë)) ţ
example Ç3:=by have:=Ã4 List.length FA;simp at this;lia
example Ç4:=λ k S1 H1 h1 e1 p1=>vm ũ ũ h1
example Ç5:=Q (!ds.isEmpty) S
example Ç6:=λ v σ H Q hu=>?_
example Ç8:=out.toList.length
example È1:=by have:=Ã4 List.length FV;simp at this;lia
example È2(i:Nat):=0
example È4:=(Ext.refl H)
example È5:=λ l hl=>h Ā ?_ Ŷ (h2.new hl)
example È6:=λ x H' q=>?_
example È8:=by rw[r2.isEmpty]
example È9:=(((ŕ x2).trans x3).trans a2)
example É0:=(ñ).toList.drop
example É1 _:=x H1 e1 p1
example É2:=by rw[BK,List.drop_take] at this;show this
example É3:=by simp![A9,if_false]
example É4:=by have sA:Up lb (Ç Fh):=(Ô g3.2.1).2.1
example É5:=by let Gs (E7:ó):Prop:=∃ g,E7=setG st g
example É6(lb:ē) (a b:Ľ):=0
example É7:=List Stmt
example É8:=zg ŧ d x
example É9:=(yu f Ũ)
example Ê1:=h x' H e2 é h3
example Ê3:=by simpa using h1
example Ê4:=by have sB:Up lb (Î Fe):=(Ô g3.2.2).2.1
example Ê5:=List Bool
example Ê6:=arr.toList.drop
example Ê8:=Ã (wpS_get ?_)
example Ê9:=(Ô sB).2.2
example Ë1{S:SS}:=0
example Ë4:=by have sA:Up lb (È Fh):=(Ô g3.2.1).1
example Ë5:=by have sB:Up lb (Ó Fe):=(Ô g3.2.2).1
def we.ext Á5{Q:VK}(e:À2) {d:D}Ë1(h:we ŧ Q d S):we K H' Q d S:=Ã8
def mH.ext Á5 Æ9(e:À2) {d:Bool}Ë1(h:mH ŧ Q d S):mH K H' Q d S:=λ H2 x q=>h H2 (e.trans x) q
def vq.ext Á5{Q:St->Hp->Prop}(e:À2) {d:yc}Ë1(h:vq ŧ Q d S):vq K H' Q d S:=Ã8
def zK Œ (t:zv):TE:=fun σ H Q=>∃ δ S,ø/\ĉ/\t Ö (we ŧ Q)
def wx Œ (t:yA):TT:=fun σ H Q=>∃ δ S,ø/\ĉ/\t Ö (mH ŧ Q)
def xY Œ (t:ym):TA:=fun σ H Q=>∃ δ S,ø/\ĉ/\t Ö (LI ŧ Q)
structure PD Â6 (t:zv):Prop where
 mo:yo t
 pe:PE X e (zK X.K t)
structure xm Â6 (t:yA):Prop where
 mo:vb t
 pt:PT X e (wx X.K t)
structure y_ (X:Cx) (es:Ĳ) (t:ym):Prop where
 mo:se t
 pa:PA X es (xY X.K t)
def ş ŭ ġ{t t':TE}(h:PE X e t) Ý:PE X e t':=å
def PT.imp ŭ ġ{t t':TT}(h:PT X e t) Ý:PT X e t':=å
def PA.imp ŭ{e:Ĳ}{t t':TA}(h:PA X e t) Ý:PA X e t':=λ pos E6 s σ H Q I q=>h pos Ç9
def PS.imp ŭ{e:Stmt}{t t':TS}(h:PS X e t) Å5:PS X e t':=À3
def xV.imp ŭ{e:É7}{t t':TS}(h:xV X e t) Å5:xV X e t':=À3
section
variable {ŭ}{K:Ac}
def È7 {t:zv}Ń{Q:VK}{δ:yc}Ë1{R:DK}(mo:yo t) Ů (k:∀ d S' v H',R d S'->zg K H' d v->À2->zN K H' S'->Q v H'):zK K t ď:=
 Ĥ
def wx.go {t:yA}Ń Æ9{δ:yc}Ë1{R:Bool->ą}(mo:vb t) Ů (k:∀ d S' H',R d S'->À2->zN K H' S'->Q d H'):wx K t ď:=
 #[δ,S,r1,r2,mo Ù (λ d S' q H' b c=>k d S' H' q b c) h]
def xY.go {t:ym}Ń{Q:List V->Hp->Prop}{δ:yc}Ë1{R:Å7->ą}(mo:se t) Ů (k:∀ d S' v H',R d S'->zk K H' d v->À2->zN K H' S'->Q v H'):xY K t ď:=
 Ĥ
def yd È2:zv:=fun δ S Q=>match δ[i]? with
 | some ↑d=>Q d S
 | _=>Ċ
def dC (d:D):zv:=λ _ S Q=>Q d S
def Rb È2 {x:Str}Â7(h:PE X (.Name x pos) (iE i)):PD X (.Name x pos) (yd i):=by
 exact#[fun δ S Q Q' hq h=>?_,ş h Ü]
 .unfold yd at h ⊢;ext Ĺ
  .show ĥ
  .show h
 .ext ò;unfold yd at h;ext Ĺ
  .rename_i d e;let#[v,h1,h2]:=r1.2 i d e;show#[v,h1,h v H h2 È4 r2]
  ext î
def dC.mo (d:D):yo (dC d):=λ _ _ _ _ hq h=>ĥ
def nB ġ{d:D}{v:V}(h:PE X e (tC v)) (r:∀ H,zg X.K H d v):PD X e (dC d):=
 #[dC.mo d,ş h λ _ H _ #[_,_,_,r2,h]=>h v H (r H) È4 r2]
def RH {i j pos}:PD X (.Constant (Ű i) j pos) (dC (Ű i)):=nB T4 λ _=>Ò
def Qb {i j pos}:PD X (.Constant (.bool i) j pos) (dC (.bl i)):=nB TL λ _=>Ò
def Rq {j pos}:PD X (.Constant .none j pos) (dC .zp):=nB Tw λ _=>Ò
def Rh {x j pos}:PD X (.Constant (.str x) j pos) (dC (.str x)):=nB Ts λ _=>Ò
abbrev yK:=D->D->SS->DK->Prop
def wK (f:yK):Prop:=∀ x y S (Q Q':DK),ű->f x y S Q->f x y S Q'
def xC Œ (f:yK) (r:R2):Prop:=∀ x y d e H S Q,É8->zg ŧ e y->ĉ->f d e S (we ŧ Q)->r x y H Q
def yu (f:yK) (ta tb:zv):zv:=fun δ S Q=>ta Ö λ x S1=>tb ě λ y S2=>f x y S2 Q
def yu.mo {f:yK}{ta tb:zv}(hf:wK f) ň:yo É9:=fun δ S Q Q' hq h=>
 ha Ù (λ x S1 h=>hb ě Ā (λ y S2 h=>hf x y S2 Ā hq h) h) h
def lO ž(hr:xC K f r) (hf:wK f) ň Ń{Q:VK}(h:zK K É9 ď):oZ r (zK K ta) (zK K tb) ď:=by
 let#[δ,S,r1,r2,h]:=h;exact È7 ha ſ h ï;exact È7 hb Å6;show hr v w x y H2 S2 Q (zg.ext e2 x q1) q2 p2 (hf x y S2 Ā (λ d S' z=>z.ext (ŕ e2)) h2)
def rE {a b:Expr}{op:Operator}Â7 ž(ho:yx X (binaryOp op) r) (hr:xC X.K f r) (hf:wK f) Ä:PD X (.BinOp a op b pos) É9:=
 #[yu.mo hf ÿ,ş (Tt ho Â8) λ _ _ _ h=>lO hr hf ÿ h]
def nC ü Ä (hm:behindInMarks op b=Ø):PD X (Å8 a [op] [b] pos) É9:=
 #[yu.mo hf ÿ,ş (TF ho Â8 hm) λ _ _ _ h=>lO hr hf ÿ h]
def ua (t:zv):yA:=fun δ S Q=>t Ö λ x S1=>match x with
 | .bl b=>Q b S1
 | _=>Ċ
def ua.mo {t:zv}(h:yo t):vb (ua t):=fun δ S Q Q' hq q=>h Ù (λ d S' z=>by
 cases d <;> first
  | show Ŵ
  | show z) q
def rD ü Ä (hm:behindInMarks op b=Ø):xm X (Å8 a [op] [b] pos) (ua É9):=by
 exact#[ua.mo (yu.mo hf ÿ),PT.imp (U9 ho Â8 hm) fun σ H Q h=>?_];let#[δ,S,r1,r2,h]:=h;exact lO hr hf ÿ #[δ,S,r1,r2,yu.mo hf ÿ Ù (λ d S' z v H' a b c=>?_) h];cases d with
 | bl k=>simp![zg] at a;show#[k,a,z H' b c]
 | _=>show z.elim
def fI (C:Int->Int->Prop) (g:Ŗ):yK:=λ x y S Q=>match x,y with
 | Ű i,Ű j=>C i j/\Q (g i j) S
 | _,_=>Ċ
def fI.mo {C:Int->Int->Prop}{g:Ŗ}:wK (fI C g):=λ x y S Q Q' hq h=>by
 unfold fI at h ⊢;ext Ĺ
 .show Å9
 ext î
def yO (g:Ŗ):yK:=λ x y S Q=>match x,y with
 | Ű i,Ű j=>Q (g i j) S
 | _,_=>Ċ
def yO.mo {g:Ŗ}:wK (yO g):=λ x y S Q Q' hq h=>by
 unfold yO at h ⊢;ext Ĺ
 .show ĥ
 ext î
def fI.fits {C:Int->Int->Prop}ç:xC K (fI C g) (rI C g'):=λ x y d e H S Q h1 h2 h3 h=>by
 unfold fI at h;ext Ĺ
 .ext Ç0;show#[_,_,h1,h2,h.1,h.2 _ H (hg Ā H) È4 h3]
 ext î
def yO.fits ç:xC K (yO g) (vA g'):=λ x y d e H S Q h1 h2 h3 h=>by
 unfold yO at h;ext Ĺ
 .ext Ç0;show#[_,_,h1,h2,h _ H (hg Ā H) È4 h3]
 ext î
variable {a b:Expr}{ta tb:zv}{Â7}
def Rg Ä:PD X (.BinOp a .Sub b pos) (yu (yO λ i j=>Ű (i-j)) Ũ):=rE Qk (ħ) yO.mo ha hb
def Rv Ä:PD X (.BinOp a .Mod b pos) (yu (fI (λ _ j=>0<j) λ i j=>Ű (i%j)) Ũ):=rE Qq ņ
def RQ Ä:PD X (.BinOp a .FloorDiv b pos) (yu (fI pF λ i j=>Ű (i/j)) Ũ):=rE Qx ņ
def Rn Ä:PD X (.BinOp a .Pow b pos) (yu (fI qp λ i j=>Ű (i ^ j.toNat)) Ũ):=rE Ql ņ
abbrev fT:yK:=yO λ i j=>.bl (Ż (i<j))
abbrev ja:yK:=yO λ i j=>.bl (Ż (i<=j))
abbrev fU:yK:=yO λ i j=>.bl (Ż (j<i))
abbrev fV:yK:=yO λ i j=>.bl (Ż (j<=i))
def Ld:xC K fT (vA λ i j=>.bl (Ż (i<j))):=ħ
def fit_le:xC K ja (vA λ i j=>.bl (Ż (i<=j))):=ħ
def Lf:xC K fU (vA λ i j=>.bl (Ż (j<i))):=ħ
def Lg:xC K fV (vA λ i j=>.bl (Ż (j<=i))):=ħ
def RB Ä:PD X (Å8 a [.LtE] [b] pos) (yu ja Ũ):=nC kr fit_le ń
def RO Ä:PD X (Å8 a [.GtE] [b] pos) (yu fV Ũ):=nC Qv Lg ń
def TY Ä:xm X (Å8 a [.Lt] [b] pos) (ua (yu fT Ũ)):=rD Qr Ld ń
def TZ Ä:xm X (Å8 a [.LtE] [b] pos) (ua (yu ja Ũ)):=rD kr fit_le ń
def Sg Ä:xm X (Å8 a [.Gt] [b] pos) (ua (yu fU Ũ)):=rD Qu Lf ń
end
section
variable {ŭ}{K:Ac}{a b c:Expr}{ta tb:zv}{Â7}
def mS (ta tb:zv):zv:=fun δ S Q=>ta Ö λ x S1=>match x with
 | .bl k=>if k=true then tb ě Q else Q (.bl Ø) S1
 | _=>Ċ
def mN (ta:zv):zv:=fun δ S Q=>ta Ö λ x S1=>match x with
 | .bl k=>Q (.bl (!k)) S1
 | _=>Ċ
def vm {c:Prop} [Decidable c] {A B A' B':Prop}(h1:A->A') (h2:B->B') (h:if c then A else B):if c then A' else B':=by
 by_cases q:c
 .rw[if_pos q] at h ⊢;show h1 h
 .rw[if_neg q] at h ⊢;show h2 h
def mS.mo ň:yo (mS Ũ):=fun δ S Q Q' hq h=>ha Ù (λ x S1 z=>by
 cases x <;> first
  | show vm (hb ě Ā hq) (hq Ā) z
  | show z) h
def mN.mo (ha:yo ta):yo (mN ta):=fun δ S Q Q' hq h=>ha Ù (λ x S1 z=>by
 cases x <;> first
  | show Ŵ
  | show z) h
def Ro {op} {t:zv}(h:PD X a t):PD X (Ä3 op [a] pos) t:=#[h.mo,Tu h.pe]
variable {E8:Ĳ}
theorem Qe Ä0 (hb:PD X (Ä3 .And (b::E8) pos) tb):PD X (Ä3 .And (a::b::E8) pos) (mS Ũ):=by
 exact#[mS.mo ÿ,ş (TN Â8) Ü];ext Ð;cases x with
 | bl k=>
  ext È0;exact#[k,q1,vm ũ ũ h1]
  .show È7 hb.mo í
  .show z _ H1 (Ò) e1 p1
 | _=>show h1.elim
theorem Rp Ä0:PD X (.UnaryOp .Not a pos) (mN ta):=by
 exact#[mN.mo ha.mo,ş (Tv ha.pe) Ü];ext Ð;cases x with
 | bl k=>
  ext È0;show#[k,q1,h1 _ H1 (Ò) e1 p1]
 | _=>show h1.elim
def mF (t u:yA):yA:=fun δ S Q=>t Ö λ k S1=>if k=true then u ě Q else Q Ø S1
def mD (t u:yA):yA:=fun δ S Q=>t Ö λ k S1=>if k=true then Q true S1 else u ě Q
def mE (t:yA):yA:=fun δ S Q=>t Ö λ k S1=>Q (!k) S1
variable {t u:yA}
def mF.mo (h:vb t) (h':vb u):vb (mF t u):=fun δ S _ _ hq z=>h Ù (λ k S1 z=>vm (h' ě Ā hq) (hq Ā) z) z
def mD.mo (h:vb t) (h':vb u):vb (mD t u):=fun δ S _ _ hq z=>h Ù (λ k S1 z=>vm (hq Ā) (h' ě Ā hq) z) z
def mE.mo (h:vb t):vb (mE t):=fun δ S _ _ hq z=>h Ù (λ k S1 z=>Ŵ) z
structure sX Â6 (t:yA):Prop where
 mo:vb t
 pw:PW X e (wx X.K t)
def PW.imp ġ{t t':TT}(h:PW X e t) Ý:PW X e t':=λ whole E6 s σ H Q I q=>h whole Ç9
theorem sX.pt ġ{t:yA}(h:sX X e t):xm X e t:=#[h.mo,PW.pt h.pw]
def TR (h:xm X a t):sX X (Ä3 .And [a] pos) t:=#[h.mo,U5 h.pt]
def TQ (h:xm X a t):sX X (Ä3 .Or [a] pos) t:=#[h.mo,U3 h.pt]
def ah (ha:xm X a t) (hb:sX X (Ä3 .And (b::E8) pos) u):sX X (Ä3 .And (a::b::E8) pos) (mF t u):=by
 exact#[mF.mo ÿ,PW.imp (U6 ha.pt hb.pw) Ü];ext ò;exact wx.go ha.mo ſ h λ k S1 H1 h1 e1 p1=>vm ũ (λ z=>z É1) h1;show ĺ
def ag (ha:xm X a t) (hb:sX X (Ä3 .Or (b::E8) pos) u):sX X (Ä3 .Or (a::b::E8) pos) (mD t u):=by
 exact#[mD.mo ÿ,PW.imp (U4 ha.pt hb.pw) Ü];ext ò;exact wx.go ha.mo ſ h λ k S1 H1 h1 e1 p1=>vm (λ z=>z É1) ũ h1;show ĺ
def TV (ha:xm X a t):xm X (.UnaryOp .Not a pos) (mE t):=by
 exact#[mE.mo ha.mo,PT.imp (U8 ha.pt) Ü];ext ò;show wx.go ha.mo ſ h λ k S1 H1 h1 e1 p1=>h1 É1
def mP (t:yA) (ta tb:zv):zv:=fun δ S Q=>t Ö λ k S1=>if k=true then ta ě Q else tb ě Q
def mP.mo (h:vb t) ň:yo (mP t Ũ):=fun δ S _ _ hq z=>h Ù (λ k S1 z=>vm (ha ě Ā hq) (hb ě Ā hq) z) z
def RJ (hc:xm X c t) Ä:PD X (.IfExp c a b pos) (mP t Ũ):=by
 exact#[mP.mo hc.mo ÿ,ş (T5 hc.pt Â8) Ü];ext ò;exact wx.go hc.mo ſ h Ç4
 .show È7 ha.mo í
 .show È7 hb.mo í
def vL (d:D) (S:SS) (Q:Bool->ą):Prop:=match d with
 | .zp=>Q Ø S
 | .bl k=>Q k S
 | Ű i=>Q (i != 0) S
 | .str x=>x.length<=Æ0/\Q ((x.length:Int) != 0) S
 | ŵ=>Ç5
 | .x_ ds=>Ç5
 | ŏ=>match S p with
  | Ğ=>Ç5
  | some (.yv Ab)=>Q (!Ab.isEmpty) S
  | _=>Ċ
 | .err Ā _=>Ċ
def Yu (ta:zv):yA:=fun δ S Q=>ta Ö λ x S1=>vL x S1 Q
def vL.mo {d:D}Ë1{Q Q':Bool->ą}(hq:∀ k S',Q k S'->Q' k S') (h:vL d S Q):vL d S Q':=by
 cases d with
 | str x=>show Å9
 | err _ _ _=>show h.elim
 | ref p=>
  unfold vL at h ⊢;dsimp only at h ⊢;ext Ĺ
  .show ĥ
  .show ĥ
  .show h
 | _=>show ĥ
theorem zk.isEmpty œ(h:Ä5):ds.isEmpty=xs.isEmpty:=by
 have:=h.length;cases ds <;> cases xs <;> simp_all
def J7 {α β:Type}{F:α->β->Prop}{xs:List α}{ys:List β}(h:Paired F xs ys):xs.isEmpty=ys.isEmpty:=by cases h <;> rfl
def vL.fits Ë2{d:D}{v:V}Ë1 Æ9(r:zg ŧ d v) (p:ĉ) (h:vL d S (mH ŧ Q)):∃ k,dq K v H k/\Q k H:=by
 cases d with
 | zp=>ext Ģ;show#[Ø,rfl,Æ1]
 | bl k=>ext Ģ;show#[k,rfl,Æ1]
 | int i=>ext Ģ;show#[_,rfl,Æ1]
 | str x=>ext Ģ;show#[_,#[h.1,rfl],h.2 H é p]
 | err _ _ _=>show h.elim
 | tup ds=>
  ext Â9;show#[_,Š (ğ #[xs,r1,È8]),Æ1]
 | x_ ds=>
  ext Â9;show#[_,ğ #[xs,r1.sq,È8],Æ1]
 | ref a=>
  ext Ģ;unfold vL at h;dsimp only at h;ext Ĺ
  .rename_i ds e;let#[xs,e1,r2]:=p a _ e;show#[_,ğ #[xs,zP.of e1,È8],Æ1]
  .rename_i Ab e;let#[xs,e1,r2]:=p a _ e;show#[_,Š (Š #[xs,e1,by rw[J7 r2]]),Æ1]
  ext î
def TU Ä0 (he:∀ whole,isTrue a X.env whole=(do let v <- whole;standAt a.pos;holding [v] (truthy v))):xm X a (Yu ta):=by
 exact#[fun δ S Q Q' hq h=>ha.mo Ù (λ x S1 z=>vL.mo hq z) h,PT.imp (U7 ha.pe he) Ü];ext Ð;show vL.fits q1 p1 (vL.mo (λ k S' z=>z.ext e1) h1)
def oH:ym:=λ _ S Q=>Q [] S
def qP (te:zv) (tr:ym):ym:=fun δ S Q=>te Ö λ x S1=>tr ě λ xs S2=>Q (x::xs) S2
variable {ġ}{es:Ĳ}{te:zv}{tA:ym}
def qP.mo (h:yo te) (h':se tA):se (qP te tA):=fun δ S _ _ hq z=>h Ù (λ x S1 z=>h' ě Ā (λ xs S2 z=>Ŵ) z) z
def S_:y_ X [] oH:=#[λ _ _ _ _ hq h=>ĥ,PA.imp pX fun σ H Q #[_,_,_,r2,h]=>h [] H .nil é r2]
def Ra (ha:PD X e te) (hr:y_ X es tA) (hs:AJ X e es):y_ X (e::es) (qP te tA):=by
 exact#[qP.mo ha.mo hr.mo,PA.imp (qA ha.pe hr.pa hs) Ü];ext Ð;exact xY.go hr.mo (ė) p1 h1 λ xs S2 w H2 h2 q2 e2 p2=>?_;show h2 (v::w) H2 (.cons (zg.ext e2 x q1) q2) (ŕ e2) p2
def Y1 (t:ym):zv:=fun δ S Q=>t Ö λ ds S1=>ĳ<=Æ0/\Q (ŵ) S1
def Y9 (t:ym):zv:=fun δ S Q=>t Ö λ ds S1=>ĳ<=Æ0/\∀ p,S1 p=none->Q (ŏ) (ups S1 p Ê0)
def Rf {k} (h:y_ X es tA):PD X (.Tuple es k pos) (Y1 tA):=by
 exact#[fun δ S _ _ hq z=>h.mo Ù (λ ds S1 z=>Æ2) z,ş (Tr h.pa) Ü];ext ù;exact h1.2 Ā ?_ (ŕ Ä6) (p1.new hp);simp![zg];show#[p,xs,rfl,yg.of y7,zk.ext Ä6 ds q1]
theorem R7 (h:y_ X es tA):PD X (.List es pos) (Y9 tA):=by
 exact#[fun δ S _ _ hq z=>h.mo Ù (λ ds S1 z=>#[z.1,λ p hp=>hq Ā (z.2 p hp)]) z,ş (Tz h.pa) Ü];ext ù;exact h1.2 p (p1.none hp) Ā (Ò) (ŕ Ä6) ?_;show p1.ups Ä6 #[xs,y7,zk.ext Ä6 ds q1]
def wG:yK:=λ x y S Q=>match x,y with
 | ŵ,Ű i=>match zT ds i with
  | some d=>Q d S
  | none=>Ċ
 | .x_ ds,Ű i=>match zT ds i with
  | some d=>Q d S
  | none=>Ċ
 | ŏ,Ű i=>match S p with
  | Ğ=>match zT ds i with
   | some d=>Q d S
   | none=>Ċ
  | _=>Ċ
 | _,_=>Ċ
def wG.mo:wK wG:=λ x y S Q Q' hq h=>by
 unfold wG at h ⊢;ext Ĺ
 .skip
  ext Ĺ
  .show ĥ
  .show h
 .skip
  ext Ĺ
  .show ĥ
  .show h
 .skip
  ext Ĺ
  .skip
   ext Ĺ
   .show ĥ
   .show h
  ext î
 ext î
theorem zk.zT œ{i:Int}{d:D}(h:Ä5) (e:L2.zT ds i=↑d):∃ x,L2.zT xs i=↑x/\É8:=by
 unfold L2.zT at e ⊢;rw[h.length] at e;cases q:wV xs.length i with
 | none=>rw[q] at e;cases e
 | some j=>
  rw[q] at e;show h.get e
def wG.fits:xC K wG (bJ K):=λ x y d e H S Q h1 h2 h3 h=>by
 unfold wG at h;ext Ĺ
 .ext Ĺ
  .ext ĕ;show Š (ğ #[a,xs,_,x',rfl,h2,r1,e1,Ê1])
  ext î
 .ext Ĺ
  .ext ĕ;show ğ #[a,xs,_,x',rfl,h2,r1.sq,e1,Ê1]
  ext î
 .ext Ĺ
  .rename_i q0;ext Ĺ
   .rename_i q;ext Ç0;subst h1;let#[xs,r1,r2]:=h3 Ā q0;let#[x',e1,e2]:=r2.zT q;show ğ #[_,xs,_,x',rfl,h2,zP.of r1,e1,Ê1]
   ext î
  ext î
 ext î
def RC Ä (hs:XG b):PD X (.Subscript a b pos) (yu wG Ũ):=
 #[yu.mo wG.mo ÿ,ş (T3 N5 Â8 hs) λ _ _ _ h=>lO wG.fits wG.mo ÿ h]
abbrev xt:=Å7->SS->DK->Prop
def vF (f:xt):Prop:=∀ ds S (Q Q':DK),ű->f ds S Q->f ds S Q'
def uA Œ (f:xt) (r:ř):Prop:=∀ xs ds H S Q,Ä5->ĉ->f ds S (we ŧ Q)->r xs H Q
def xr (f:xt) (t:ym):zv:=fun δ S Q=>t Ö λ ds S1=>f ds S1 Q
def xr.mo {f:xt}(hf:vF f) (h:se tA):yo (xr f tA):=fun δ S _ _ hq z=>h Ù (λ ds S1 z=>hf ds S1 Ā hq z) z
def cJ {f:xt}{r:ř}(hf:vF f) (hr:uA K f r) (h:se tA) Ń{Q:VK}(hu:zK K (xr f tA) ď):lU r (xY K tA) ď:=by
 let#[δ,S,r1,r2,h']:=hu;exact xY.go h ſ h' ŗ;show hr xs ds H1 S1 Q q1 p1 (hf ds S1 Ā (λ d S' z=>z.ext e1) h1)
def uF {f:xt}{r:ř}ġ(h:PE X e (lU r (xY X.K tA))) (hf:vF f) (hr:uA X.K f r) (ha:se tA):PD X e (xr f tA):=
 #[xr.mo hf ha,ş h λ _ _ _ hu=>cJ hf hr ha hu]
def zV (d:D) (S:SS):Option (Å7):=match d with
 | ŵ=>↑ds
 | .x_ ds=>↑ds
 | ŏ=>match S p with
  | Ğ=>↑ds
  | _=>none
 | _=>none
theorem zV.sq Ë2 Ë1{d:D}{v:V}{ds:Å7}(r:zg ŧ d v) (p:ĉ) (e:zV d S=↑ds):∃ a xs,v=.ref a/\(zP ŧ a xs\/yg ŧ a xs)/\Ä5:=by
 unfold zV at e;split at e
 .ext À1;show#[a,xs,h1,Š h2,h3]
 .ext À1;show#[a,xs,h1,ğ h2.sq,h3]
 .split at e
  .rename_i q;cases e;ext Ģ;let#[xs,h1,h2]:=p Ā q;show#[_,xs,rfl,ğ (zP.of h1),h2]
  .cases e
 .cases e
def zk.one Ë2{d:D}{xs:List V}(h:zk ŧ [d] xs):∃ x,xs=[x]/\É8:=by
 simp![zk] at h;let#[x,r,rfl,h2,rfl]:=h;show#[x,rfl,h2]
def zk.two Ë2{d d':D}{xs:List V}(h:zk ŧ [d,d'] xs):∃ x y,xs=[x,y]/\É8/\zg ŧ d' y:=by
 simp![zk] at h;let#[x,r,rfl,h2,y,r',rfl,h3,rfl]:=h;show#[x,y,rfl,h2,h3]
def u3:xt:=λ ds S Q=>match ds with
 | [d]=>match zV d S with
  | some ds=>Q (Ű ĳ) S
  | none=>match d with
   | .str z=>z.length<=Æ0/\Q (Ű z.length) S
   | _=>Ċ
 | _=>Ċ
def u3.mo:vF u3:=λ ds S Q Q' hq h=>by
 unfold u3 at h ⊢;ext Ĺ
 .skip
  ext Ĺ
  .show ĥ
  .ext Ĺ
   .show Å9
   ext î
 ext î
abbrev U1 Œ:ř:=λ xs H Q=>(∃ p ys,xs=[ŏ]/\(zP ŧ p ys\/yg ŧ p ys)/\Q (Ű ys.length) H)\/(∃ z,xs=[.str z]/\z.length<=Æ0/\Q (Ű z.length) H)
def u3.fits:uA K u3 (U1 K):=λ xs ds H S Q h0 h2 h=>by
 unfold u3 at h;ext Ĺ
 .ext ý;ext Ĺ
  .ext À8;exact ğ #[a,ys,rfl,q,?_];rw[<- r.length];show h _ H (Ò) é h2
  .ext Ĺ
   .simp![zg] at h1;subst h1;show Š #[_,rfl,h.1,h.2 _ H (Ò) é h2]
   ext î
 ext î
def uz:xt:=λ ds S Q=>match ds with
 | [d]=>match zV d S with
  | some ds=>∀ p,S p=none->Q (ŏ) (ups S p Ê0)
  | none=>Ċ
 | _=>Ċ
def uz.mo:vF uz:=λ ds S Q Q' hq h=>by
 unfold uz at h ⊢;ext Ĺ
 .skip
  ext Ĺ
  .show λ p hp=>hq Ā (h p hp)
  ext î
 ext î
def uz.fits:uA K uz (λ xs H Q=>∃ p ys,xs=[ŏ]/\(zP ŧ p ys\/yg ŧ p ys)/\∀ l,H l=none->Q (.ref l) (upd H l (.lst ys))):=λ xs ds H S Q h0 h2 h=>by
 unfold uz at h;ext Ĺ
 .ext ý;ext Ĺ
  .ext À8;exact#[a,ys,rfl,q,λ l hl=>?_];show h l (h2.none hl) Ā (Ò) Ŷ (h2.ups Ŷ #[ys,y7,zk.ext Ŷ _ r])
  ext î
 ext î
def uv:xt:=λ ds S Q=>match ds with
 | [ŵ]=>Q (ŵ) S
 | [.x_ ds]=>Q (ŵ) S
 | [ŏ]=>match S p with
  | Ğ=>Q (ŵ) S
  | _=>Ċ
 | _=>Ċ
def uv.mo:vF uv:=λ ds S Q Q' hq h=>by
 unfold uv at h ⊢;ext Ĺ
 .show ĥ
 .show ĥ
 .skip
  ext Ĺ
  .show ĥ
  ext î
 ext î
def uv.fits:uA K uv (λ xs H Q=>∃ p ys,xs=[ŏ]/\((zP ŧ p ys/\∀ l,H l=none->Q (.ref l) (upd H l (.tup ys)))\/(yg ŧ p ys/\Q (ŏ) H))):=λ xs ds H S Q h0 h2 h=>by
 unfold uv at h;ext Ĺ
 .ext ý;have h1':=h1;simp![zg] at h1;ext Ū;show#[a,xs,rfl,Š #[r1,h _ H h1' é h2]]
 .ext ý;simp![zg] at h1;ext Ū;exact#[a,xs,rfl,ğ #[r1.sq,È5]];ext ō
 .ext ý;ext Ĺ
  .rename_i e;simp![zg] at h1;subst h1;let#[xs,r1,r2]:=h2 Ā e;exact#[_,xs,rfl,ğ #[zP.of r1,È5]];ext ō
  ext î
 ext î
def vY (g:Ŗ):xt:=λ ds S Q=>match ds with
 | [Ű i,Ű j]=>Q (g i j) S
 | _=>Ċ
def vY.mo {g:Ŗ}:vF (vY g):=λ ds S Q Q' hq h=>by
 unfold vY at h ⊢;ext Ĺ
 .show ĥ
 ext î
def vY.fits ç:uA K (vY g) (λ xs H Q=>∃ i j,xs=[Ű i,Ű j]/\Q (g' i j) H):=λ xs ds H S Q h0 h2 h=>by
 unfold vY at h;ext Ĺ
 .let#[x,y,hx,h1,h3]:=h0.two;subst hx;simp![zg] at h1 h3;subst h1 h3;show#[_,_,rfl,h _ H (hg Ā H) é h2]
 ext î
def zag:yK:=λ x y S Q=>match x,y with
 | ŏ,.ref q=>match S p,S q with
  | Ğ,↑(.lst es)=>ĳ+es.length<=Æ0/\∀ r,S r=none->Q (.ref r) (ups S r (.lst (ds++es)))
  | _,_=>Ċ
 | _,_=>Ċ
def rZ (to te:zv):zv:=fun δ S Q=>to Ö λ x S1=>match x with
 | ŏ=>(∃ ds,S1 p=↑ Ê0)/\te ě λ y S2=>match S2 p with
  | Ğ=>ĳ<Æ0/\Q .zp (ups S2 p (.lst (ds++[y])))
  | _=>Ċ
 | _=>Ċ
def rZ.mo {to te:zv}(h:yo to) (h':yo te):yo (rZ to te):=fun δ S Q Q' hq z=>h Ù (λ x S1 z=>by
 cases x with
 | ref p=>
  exact#[z.1,h' ě Ā (λ y S2 w=>?_) z.2];split at w
  .show#[w.1,hq Ā w.2]
  .show w.elim
 | _=>show z) z
theorem Qc {o e:Expr}{to te:zv}{e0:Expr}(EE:PE X e0 (iJ X.K "list" bN (zK X.K to) (iI (zK X.K te) iG))) (h:yo to) (h':yo te):PD X e0 (rZ to te):=by
 exact#[rZ.mo h h',ş EE Ü];ext Í;exact È7 h ſ z ï;cases x with
 | ref p=>
  let#[#[ds,hd],h1]:=h1;ext È0;subst q1;let#[xs,g1,g2]:=p1 Ā hd;exact#[ğ #[rfl,xs,zP.of g1],?_];exact È7 h' Å6;split at h2
  .rename_i GW e3;let#[Fg,g3,g4]:=p2 Ā e3;exact#[p,Fg,w,rfl,rfl,g3,by rw[<- g4.length];show h2.1,?_];have e4:Ext H2 (upd H2 p (.lst (Fg++[w]))):=.lst g3 _;show h2.2 Ā (Ò) ((ŕ e2).trans e4) (p2.ups e4 #[_,y7,zk.ext e4 _ (g4.snoc q2)])
  .show h2.elim
 | _=>show h1.elim
end
structure qm where
 nx:yc->ą
 rt:DK
 bk:yc->ą:=λ _ _=>Ċ
 ct:yc->ą:=λ _ _=>Ċ
abbrev yC:=qm->yc->ą
structure qm.Le (E E':qm):Prop where
 nx:∀ δ S,E.nx Ö->E'.nx Ö
 rt:∀ d S,E.rt d S->E'.rt d S
 bk:∀ δ S,E.bk Ö->E'.bk Ö
 ct:∀ δ S,E.ct Ö->E'.ct Ö
def sd (t:yC):Prop:=∀ E E' δ S,qm.Le E E'->t E Ö->t E' Ö
def tN Œ (H:Hp) (D:Ends):qm:=#[vq ŧ D.nx,we ŧ D.rt,vq ŧ D.bk,vq ŧ D.ct]
theorem tN.ext Á5{D:Ends}(e:À2):(tN ŧ D).Le (tN K H' D):=#[Ä7,λ _ _ h=>we.ext e h,Ä7,Ä7]
def iz Œ (t:yC):TS:=λ D σ H=>∃ δ S,ø/\ĉ/\t (tN ŧ D) Ö
structure xW (X:Cx) (st:Stmt) (t:yC):Prop where
 mo:sd t
 ps:PS X st (iz X.K t)
structure xB (X:Cx) (st:É7) (t:yC):Prop where
 mo:sd t
 ps:xV X st (iz X.K t)
section
variable {ŭ}{K:Ac}{st:Stmt}{E8:É7}{t u:yC}{Â7}{ġ}{te:zv}
def Y5:yC:=λ E δ S=>E.nx Ö
def mL (t u:yC):yC:=λ E δ S=>t { E with nx:=u E } Ö
def mL.mo (h:sd t) (h':sd u):sd (mL t u):=λ E E' δ S hE z=>h { E with nx:=u E } { E' with nx:=u E' } Ö #[fun δ S q=>h' E E' Ö hE q,hE.rt,hE.bk,hE.ct] z
def Sj:xB X [] Y5:=#[λ _ _ _ _ hE h=>hE.nx Ā h,xV.imp UB λ D σ H #[δ,S,r1,r2,h]=>h σ H r1 é r2]
def Si (h:xW X st t):xB X [st] t:=#[h.mo,UA h.ps]
def Sk (h:xW X st t) (h':xB X E8 u):xB X (st::E8) (mL t u):=by
 exact#[mL.mo h.mo h'.mo,xV.imp (UC h.ps h'.ps) į];ext Í;exact#[δ,S,r1,r2,h.mo { tN X.K H D with nx:=u (tN X.K H D) } _ Ö #[fun δ' S' q σ' H' q1 q2 q3=>?_,Ã1,Ã1,Ã1] z];show#[δ',S',q1,q3,h'.mo Ā δ' S' (tN.ext q2) q]
def mR (te:zv):yC:=λ E δ S=>te Ö λ _ S1=>E.nx ě
def SA Ä1 (hs:swapsWith e none pos.line X.env=pure Ø):xW X (.Expr e pos) (mR te):=by
 exact#[λ E E' δ S hE z=>he.mo Ù (λ _ _ q=>hE.nx Ā q) z,PS.imp (UL he.pe hs) į];ext Í;show È7 he.mo ſ z λ x S1 v H1 h1 q1 e1 p1=>h1 σ H1 (ė) e1 p1
def mM (te:zv):yC:=λ E δ S=>te Ö E.rt
def Su Ä1:xW X (.Return ↑e pos) (mM te):=by
 exact#[λ E E' δ S hE z=>he.mo Ù (λ _ _ q=>hE.rt Ā q) z,PS.imp (UH he.pe) į];ext Í;show È7 he.mo ſ z λ x S1 v H1 h1 q1 e1 p1=>h1 v H1 q1 e1 p1
def YB (c:yA) (t u:yC):yC:=λ E δ S=>c Ö λ k S1=>if k=true then t E ě else u E ě
def S8 {c:Expr}{p q:É7}{tc:yA}(hc:xm X c tc) (h:xB X p t) (h':xB X q u):xW X (.If c p q pos) (YB tc t u):=by
 exact#[λ E E' δ S hE z=>hc.mo Ù (λ k S1 z=>vm (h.mo Ā ě hE) (h'.mo Ā ě hE) z) z,PS.imp (UI hc.pt h.ps h'.ps) į];ext Í;exact wx.go hc.mo ſ z Ç4
 .show#[δ,S1,ė,p1,h.mo Ā ě (tN.ext e1) z]
 .show#[δ,S1,ė,p1,h'.mo Ā ě (tN.ext e1) z]
abbrev xf:=D->yc->SS->(yc->ą)->Prop
abbrev xU:=Å7->yc->SS->(yc->ą)->Prop
def lq (t:xf):Prop:=İ
def XO (t:xU):Prop:=İ
def oV Œ (t:xf):TG:=λ v σ H Q=>∃ d δ S,zg ŧ d v/\ø/\ĉ/\t d Ö (vq ŧ Q)
def cH Œ (t:xU):sW:=λ v σ H Q=>∃ d δ S,zk ŧ d v/\ø/\ĉ/\t d Ö (vq ŧ Q)
structure vD Â6 (t:xf):Prop where
 mo:lq t
 pg:PG X e (oV X.K t)
structure qZ (X:Cx) (es:Ĳ) (t:xU):Prop where
 mo:XO t
 pg:tZ X es (cH X.K t)
def PG.imp ġ{t t':TG}(h:PG X e t) Ç1:PG X e t':=Ő
def tZ.imp {e:Ĳ}{t t':sW}(h:tZ X e t) Ç1:tZ X e t':=Ő
def hName È2:xf:=λ d δ S Q=>Q (δ.set i ↑d) S
def SW ġ Ź(h:PG X e (o9 i)):vD X e (hName i):=
 #[λ _ _ _ _ _ hq z=>Ŵ,PG.imp h λ v σ H Q #[d,δ,S,r1,r2,r3,z]=>z _ H (r2.set i r1) é r3]
def fw:xU:=λ ds δ S Q=>ds=[]/\Q Ö
def fy (t:xf) (u:xU):xU:=λ ds δ S Q=>match ds with
 | d::r=>t d Ö fun δ' S'=>u r δ' S' Q
 | []=>Ċ
def SO:qZ X [] fw:=by
 exact#[λ _ _ _ _ _ hq z=>Æ2,tZ.imp U_ Ç6];let#[d,δ,S,r1,r2,r3,z1,z2]:=hu;subst z1;simp![zk] at r1;show#[r1,z2 σ H r2 é r3]
def SR ġ{es:Ĳ}{t:xf}{u:xU}(h:vD X e t) (h':qZ X es u) (hs:(assignEach (e::es) X.env).map (·.2)=assign e X.env::(Ä8).map (·.2)):qZ X (e::es) (fy t u):=by
 exact#[λ ds δ S Q Q' hq z=>?_,tZ.imp (Ta h.pg h'.pg hs) Ç6]
 .cases ds with
  | nil=>show z
  | cons d r=>show h.mo d Ù (fun δ' S' z=>h'.mo r δ' S' Ā hq z) z
 .let#[ds,δ,S,r1,r2,r3,z]:=hu;cases ds with
  | nil=>show z.elim
  | cons d r=>
   simp![zk] at r1;let#[x,xs,rfl,q1,q2]:=r1;exact#[x,xs,rfl,d,δ,S,q1,r2,r3,h.mo d Ù (fun δ' S' z σ' H' g1 g2 g3=>?_) z];show#[r,δ',S',zk.ext g2 r q2,g1,g3,h'.mo r δ' S' Ā (fun δ2 S2 z2=>vq.ext g2 z2) z]
def qH (n:Nat) (t:xU):xf:=λ d δ S Q=>match d with
 | ŵ=>ĳ=n/\t ds Ö Q
 | _=>Ċ
def SU ġ{n:Nat}{t:xU}(h:PG X e (ZT X.K n (cH X.K t))) (hm:XO t):vD X e (qH n t):=by
 exact#[λ d δ S Q Q' hq z=>?_,PG.imp h Ç6]
 .cases d with
  | tup ds=>show#[z.1,hm ds Ù hq z.2]
  | _=>show z
 .let#[d,δ,S,r1,r2,r3,z]:=hu;cases d with
  | tup ds=>
   simp![zg] at r1;let#[a,xs,rfl,q1,q2]:=r1;show#[a,xs,rfl,q1,by rw[<- q2.length];show z.1,ds,δ,S,q2,r2,r3,z.2]
  | _=>show z.elim
def wH (te:zv) (g:xf):yC:=λ E δ S=>te Ö λ x S1=>g x ě E.nx
def wH.mo {g:xf}(h:yo te) (h':lq g):sd (wH te g):=λ E E' δ S hE z=>h Ù (λ x S1 q=>h' x ě Ā (fun δ S q=>hE.nx Ā q) q) z
def W_ {g:xf}(h:yo te) (h':lq g) {D:Ends}Ń(hu:iz K (wH te g) D σ H):o_ (zK K te) (oV K g) D σ H:=by
 ext Í;exact È7 h ſ z ï;show#[x,δ,S1,q1,ė,p1,h' x ě Ā (fun δ S q=>vq.ext e1 q) h1]
def SE {tg e:Expr}{g:xf}Ä1 (hg:vD X tg g) (hs:swapsWithSole [tg] e pos.line X.env=pure Ø) (hw:swappedStores [tg] e X.env=pure none)
  (h1:(assignEach [tg] X.env).map (·.2)=[assign tg X.env]):xW X (.Assign [tg] e pos) (wH te g):=
 #[wH.mo he.mo hg.mo,PS.imp (bQ he.pe hg.pg hs hw h1) λ _ _ _ hu=>W_ he.mo hg.mo hu]
def Ss {e0:Stmt}Ź(h:PS X e0 (o_ (zK X.K te) (o9 i))) (hm:yo te):xW X e0 (wH te (hName i)):=by
 exact#[wH.mo hm λ _ _ _ _ _ hq z=>Ŵ,PS.imp h į];ext Í;exact È7 hm ſ z ï;show h1 _ H1 ((ė).set i q1) e1 p1
end
structure lE where
 items:Å7
 keep:ą
abbrev wj:=yc->SS->(lE->ą)->Prop
def jG (t:wj):Prop:=∀ δ S (Q Q':lE->ą),(∀ I S',Q I S'->Q' I S')->t Ö Q->t Ö Q'
def dB Œ (H1:Hp) (J:It) (I:lE):Prop:=∀ È2 (H:Hp) (S:SS),Ext H1 H->ĉ->I.keep S->
 (∀ d,I.items[i]?=↑d->J.go i H/\∀ x H',J.pH i H x H'->À2/\zN K H' S/\zg K H' d x)/\(ļ<=i->J.stop i H)
def LJ Œ (H:Hp) (R:It->Hp->Prop):lE->ą:=λ I S1=>∀ J H1,Ext H H1->zN K H1 S1->dB K H1 J I->R J H1
def vg Œ (t:wj):TI:=fun σ H R=>∃ δ S,ø/\ĉ/\t Ö (LJ ŧ R)
structure uW (X:Cx) (tg iter:Expr) (t:wj):Prop where
 mo:jG t
 pi:PI X tg iter (vg X.K t)
def PI.imp ŭ{tg e:Expr}{t t':TI}(h:PI X tg e t) Ý:PI X tg e t':=å
section
variable {ŭ}{K:Ac}{tg e:Expr}{Â7}
theorem zk.at œ Ź{d:D}{x:V}(r:Ä5) (h1:ds[i]?=↑d) (h2:xs[i]?=↑x):É8:=by
 let#[y,e1,e2]:=r.get h1;rw[h2] at e1;cases e1;show e2
def vQ (lo:Int) (n:Nat):Å7:=(Ã2 n).map λ(k:Nat)=>D.int (lo+(k:Int))
def Ux {lo:Int}{n i:Nat}{d:D}(h:(vQ lo n)[i]?=↑d):i<n/\d=Ű (lo+(i:Int)):=by
 unfold vQ at h;rw[AE] at h;cases q:(Ã2 n)[i]? with
 | none=>rw[q] at h;cases h
 | some j=>
  rw[q] at h;let#[h1,h2]:=AN.mp q;rw[CW] at h1;rw[Eo] at h2;subst h2;cases h;show#[h1,rfl]
def Uw (lo:Int) (n:Nat):(vQ lo n).length=n:=by unfold vQ;rw[AD,CW]
def dB.range {H1:Hp}{lo:Int}{n:Nat}:dB K H1 (jH lo n) #[vQ lo n,À4]:=λ i H S _ x2 _=>by
 exact#[λ d hd=>?_,λ hl=>by rw[show (lE.mk (vQ lo n) À4).items=vQ lo n from rfl,Uw] at hl;show hl];let#[h1,rfl]:=Ux hd;exact#[h1,È6];let#[rfl,rfl]:=q;show#[.refl _,x2,Ò]
def fj (t:ym):wj:=fun δ S R=>t Ö λ ds S1=>match ds with
 | [Ű j]=>(-(2 ^ 62)<=j/\j<2 ^ 62)/\R #[vQ 0 j.toNat,À4] S1
 | _=>Ċ
variable {tA:ym}
def SM (h:PI X tg e (ZH (xY X.K tA))) (hm:se tA):uW X tg e (fj tA):=by
 exact#[fun δ S Q Q' hq z=>hm Ù (λ ds S1 z=>?_) z,PI.imp h fun σ H R hu=>?_]
 .split at z
  .show Æ2
  .show z.elim
 .ext Í;exact xY.go hm ſ z ŗ;split at h1
  .let#[x,rfl,q]:=q1.one;simp![zg] at q;subst q;show#[_,rfl,h1.1.1,h1.1.2,h1.2 _ É1 .range]
  .show h1.elim
def mQ (ti:wj) (g:xf) (tb:yC):yC:=λ E δ S=>ti Ö λ I S1=>∃ W:Nat->yc->ą,W 0 ě/\(∀ i δ S,W i Ö->I.keep S)/\
 (∀ i d δ S,I.items[i]?=↑d->W i Ö->g d Ö fun δ2 S2=>tb { E with nx:=W (i+1),ct:=W (i+1),bk:=E.nx } δ2 S2)/\∀ δ S,W ļ Ö->E.nx Ö
def mQ.mo {ti:wj}{g:xf}{tb:yC}(hi:jG ti) (hg:lq g) (hb:sd tb):sd (mQ ti g tb):=λ E E' δ S hE z=>hi Ù (λ I S1 #[W,w0,wk,ws,wd]=>by
 exact#[W,w0,wk,λ i d δ S hd hw=>hg d Ù (fun δ2 S2 z=>hb { E with nx:=W (i+1),ct:=W (i+1),bk:=E.nx } { E' with nx:=W (i+1),ct:=W (i+1),bk:=E'.nx } δ2 S2 #[Ã1,hE.rt,hE.nx,Ã1] z) (ws i d Ö hd hw),fun δ S q=>hE.nx Ā (wd Ö q)]) z
def S9 {iter:Expr}{body:É7}{ti:wj}{g:xf}{tb:yC}(hp:PassesOwn (model X.prog X.w) X.A X.env X.xe) Á6 (hi:uW X tg iter ti) (hg:vD X tg g) (hb:xB X body tb)
  (hs:∀ x,foldedSetIterable iter X.env x=pure x):xW X (.For tg iter body [] pos) (mQ ti g tb):=by
 exact#[mQ.mo hi.mo hg.mo hb.mo,PS.imp (UJ hp hc hi.pi hg.pg hb.ps hs) į];ext Í;exact#[δ,S,r1,r2,hi.mo Ù (λ I S1 hW J H1 e1 p1 rep=>?_) z];let#[W,w0,wk,ws,wd]:=hW;exact#[λ i m σ H2=>m=ļ-i/\i<=ļ/\Ext H1 H2/\∃ δ S,yJ X.K H2 δ σ/\zN X.K H2 S/\W i Ö,#[_,rfl,Be _,.refl _,δ,S1,ė,p1,w0],?_];rintro i m σ2 H2 ⟨rfl,FU,x2,δ2,S2,q1,q2,w2⟩;let#[g1,g2]:=rep i H2 S2 x2 q2 (wk i δ2 S2 w2);by_cases hl:i<ļ
 .have hd:I.items[i]?=↑I.items[i]:=by simp[hl]
  let#[go,yl]:=g1 _ hd;exact Š #[go,fun σ' H'=>Ext H1 H'/\∃ δ S,yJ X.K H' δ σ'/\zN X.K H' S/\W (i+1) Ö,fun σ' H' q=>#[_,⋯,rfl,hl,q],λ x H3 hy=>?_];let#[x3,p3,d3]:=yl x H3 hy;exact#[_,δ2,S2,d3,q1.ext x3,p3,hg.mo _ δ2 S2 Ā (fun δ4 S4 z4 σ4 H4 a1 a2 a3=>?_) (ws i _ δ2 S2 hd w2)];exact#[δ4,S4,a1,a3,hb.mo Ā δ4 S4 #[ċ,λ _ _ q=>we.ext È9 q,λ _ _ q=>vq.ext È9 q,ċ] z4]
 .have e:i=ļ:=⋯;subst e;show ğ #[g2 (Ao _),wd δ2 S2 w2 σ2 H2 q1 (ŕ x2) q2]
abbrev wJ:=Å7->SS->DK->Prop
def qj (sp:wJ):Prop:=∀ ds S (Q Q':DK),ű->sp ds S Q->sp ds S Q'
def vx Œ (sp:wJ):Sp:=λ vs H Q _=>∃ ds S,zk ŧ ds vs/\ĉ/\sp ds S (we ŧ Q)
def jk (sp:wJ) (t:ym):zv:=fun δ S Q=>t Ö λ ds S1=>sp ds S1 Q
def Qa {sp:wJ}{E:XK}ġ(h:PE X e (cO (vx X.K sp) [] E (xY X.K tA))) (hs:qj sp) (hm:se tA):PD X e (jk sp tA):=by
 exact#[fun δ S Q Q' hq z=>hm Ù (λ ds S1 z=>hs ds S1 Ā hq z) z,ş h Ü];ext Í;exact xY.go hm ſ z ŗ;rw[BQ];show#[ds,S1,q1,p1,hs ds S1 Ā (λ d S' q=>we.ext e1 q) h1]
def vN (N:List Str) (ds:Å7):yc:=ds.map some++List.replicate (N.length-ĳ) none
theorem yJ.init Ë2{N:List Str}{ds:Å7}{vs:List V}(r:zk ŧ ds vs):yJ ŧ (vN N ds) (start N vs):=by
 have hl:=r.length;exact#[by unfold vN L2.start;simp[hl],λ i d h=>?_];unfold vN at h;have hi:i<ĳ:=by
  rcases Bw i ĳ with q | q
  .show q
  .rw[Bx (by exists q),Di] at h;split at h <;> cases h
 rw[Cr (by exists hi),AE] at h;cases q:ds[i]? with
 | none=>rw[q] at h;cases h
 | some d'=>
  rw[q] at h;cases h;let#[x,e1,e2]:=r.get q;exact#[x,?_,e2];unfold L2.start;rw[Cr (by exists by lia),AE,e1];rfl
def kU {P:Program}{w:World}{K:Ac}{mg:AA}{base:Heap}{x qual:Str}{st:Stmt}{f:Addr}{fd:FuncData}{N ps:List Str}{k:Nat}{sp:wJ}(F:vI K x qual st f fd) (Sc:vc N ps (zW st))
  (len:∀ ds S Q,sp ds S Q->ĳ=ps.length)
  (E9:∀ (Ai:Value) (A:Around) (outer:List Env) (s:Shared) (H:Hp) (E:XK),yh k (A.deeper (envOfC qual (zW st) À5 f Ai))->
   ∃ t,xB (xQ xa P w K mg base N qual (zW st) f Ai A outer s H E).wA (yZ st) t/\∀ ds S Q,sp ds S Q->t { nx:=λ _ S'=>Q .zp S',rt:=Q } (vN N ds) S):wL P w K mg base xa (k+1) f fd ps (vx K sp):=by
 exact F.ok Sc (λ vs H Q E h=>?_) λ Ai A outer s H vs Q E hr h=>?_
 .let#[ds,S,r1,_,z]:=h;rw[<- r1.length];show len Ā _ z
 .let#[ds,S,r1,r2,z]:=h;let#[t,ht,hq]:=E9 Ai A outer s H E hr;exact#[_,ht.ps,vN N ds,S,.init r1,r2,ht.mo { nx:=λ _ S'=>we ŧ Q .zp S',rt:=we ŧ Q } Ā _ #[fun δ S' q σ' H' _ b c=>q .zp H' (Ò) b c,Ã1,λ _ _ q=>False.elim q,λ _ _ q=>False.elim q] (hq ds S _ z)]
def uk (pick:List (Ç7)) (δ:yc):yc:=pick.map λ o=>o.bind λ i=>(δ[i]?).join
theorem yJ.pick Ë2{δ:yc}{σ:St}(r:ø) (pick:List (Ç7)):yJ ŧ (uk pick δ) (uj pick σ):=by
 exact#[by unfold uk uj;simp,λ i d h=>?_];unfold uk at h;rw[AE] at h;cases q:pick[i]? with
 | none=>rw[q] at h;cases h
 | some o=>
  rw[q] at h;cases o with
  | none=>simp at h
  | some j=>
   simp![Option.map_some,Bv,Option.some.injEq] at h;have hj:δ[j]?=↑↑d:=by
    cases q2:δ[j]? with
    | none=>rw[q2] at h;cases h
    | some o2=>rw[q2] at h;simp![Option.join_some] at h;rw[h]
   let#[v,e1,e2]:=r.2 j d hj;exact#[v,?_,e2];unfold uj;rw[AE,q];simp[e1]
def qU (δ δ':yc):Prop:=δ.length=δ'.length/\∀ È2 d,δ[i]?=↑↑d->δ'[i]?=↑↑d
def qU.rep Ë2{δ δ':yc}{σ:St}(h:qU δ δ') (r:yJ ŧ δ' σ):ø:=#[h.1.trans r.1,λ i d q=>r.2 i d (h.2 i d q)]
structure oP (X:Cx) (ifs:Ĳ) (t:yA):Prop where
 mo:vb t
 pf:PF X ifs (wx X.K t)
def PF.imp {ifs:Ĳ}{t t':TT}(h:PF X ifs t) Ý:PF X ifs t':=å
def Yt:yA:=λ _ S Q=>Q true S
def SY:oP X [] Yt:=#[λ _ _ _ _ hq z=>Ŵ,PF.imp Ti λ _ H _ #[_,_,_,r2,z]=>z H é r2]
def SX {c:Expr}{t:yA}(h:xm X c t):oP X [c] t:=#[h.mo,Th h.pt]
end
end L3
namespace L2
open PySem PySem.Spec PyProof.Rows
def NN Œ (tl:TE):TI:=fun σ H R=>tl σ H λ x H1=>∃ a,x=.ref a/\(((∃ xs,zP K H1 a xs)/\R (XS K a) H1)\/((∃ xs,yg K H1 a xs)/\R (XR K a) H1))
def UX ŭ{tg l:Expr}{tl:TE}(hl:PE X l tl):PI X tg l (NN X.K tl):=by
 intro E6 s σ H R I h;exact zD (hl E6 s σ H _ I h) λ v s1 #[x,H1,I1,r1,a,hx,q1]=>?_;subst hx;cases r1;have new:∀ b∈[s1.heap.objs.size],ue X E6 H1 b:=λ b hb=>by
  obtain rfl:b=s1.heap.objs.size:=Au.mp hb;show I1.kX (Ao _) (I1.zx.fresh (Ao _))
 rcases q1 with ⟨⟨xs,hq⟩,q⟩ | ⟨⟨xs,hq⟩,q⟩
 .let#[Aa,_,pl,_]:=I1.list hq;show zaJ pl.isList #[_,_,_,_,H1,rfl,Â1,Vj a _,Ť,new,q]
 .let#[Aa,_,pt,_]:=I1.tuple hq;show zaO (show s1.heap.IsTuple a Aa.toArray from pt) #[_,_,_,_,H1,rfl,Â1,Vh a _,Ť,new,q]
def range_all (bs:Ê5):(Ã2 bs.length).all (ĩ)=bs.all id:=by
 rw[Bk,BN,BN];constructor
 .intro h b hb;let#[i,hi,rfl]:=BP.mp hb;have:=h i (AQ.mpr hi);simpa [hi] using this
 .intro h i hi;have FU:=AQ.mp hi;have:=h bs[i] (BA FU);simpa [FU] using this
def range_any (bs:Ê5):(Ã2 bs.length).any (ĩ)=bs.any id:=by
 rw[Bk,Bg,Bg];constructor
 .rintro⟨i,hi,h⟩;have FU:=AQ.mp hi;show#[bs[i],BA FU,by simpa [FU] using h]
 .rintro⟨b,hb,h⟩;let#[i,hi,rfl]:=BP.mp hb;show#[i,AQ.mpr hi,by simpa [hi] using h]
theorem Xh {bs:Ê5}{Aa:Ah}(r:Vals (bs.map V.bl) Aa) Ź{v:Value}(h:Aa.toArray[i]?=↑v):v=.bool (bs.getD i true):=by
 have hl:=r.length;rw[AD] at hl;have h':Aa[i]?=↑v:=by exists h
 have hi:i<bs.length:=by
  rw[hl];rcases Bw i Aa.length with q | q
  .show q
  .rw[CS q] at h';cases h'
 let#[u,e1,e2]:=r.get (i:=i) (x:=.bl bs[i]) (by simp[hi]);rw[h'] at e1;cases e1;have:v=.bool bs[i]:=e2;rw[this];simp[hi]
section
variable {ŭ}
theorem KI Á6:yF X (.builtin "all") (λ xs H Q=>∃ p,∃ bs:Ê5,xs=[ŏ]/\zP X.K H p (bs.map V.bl)/\Q (.bl (bs.all id)) H):=by
 ext ŉ
 exact call_all_walk (zaJ pl.isList ?_);exact Ì
 .rw[Xh rv hv];show zaD Hh
 .have e:(Ã2 Aa.toArray.size).all (ĩ)=bs.all id:=by rw[AH,<- hl,range_all]
  ext Đ
theorem KH Á6:yF X (.builtin "any") (λ xs H Q=>∃ p,∃ bs:Ê5,xs=[ŏ]/\zP X.K H p (bs.map V.bl)/\Q (.bl (bs.any id)) H):=by
 ext ŉ
 exact call_any_walk (zaJ pl.isList ?_);exact Ì
 .rw[Xh rv hv];show zaD Hh
 .have e:(Ã2 Aa.toArray.size).any (ĩ)=bs.any id:=by rw[AH,<- hl,range_any]
  ext Đ
end
end L2
namespace L3
open PySem PySem.Spec L2
open PyProof.Rows hiding St
structure Bt (mg:AA):Prop where
 len:mg "len"=none
 range:mg "range"=none
 any:mg "any"=none
 all:mg "all"=none
 sorted:mg "sorted"=none
 isinstance:mg "isinstance"=none
 bool:mg "bool"=none
 int:mg "int"=none
 str:mg "str"=none
 list:mg "list"=none
 tuple:mg "tuple"=none
 max:mg "max"=none
 min:mg "min"=none
section
variable {ŭ}{a e:Expr}{es:Ĳ}{te:zv}{pos p:Pos}
def jm {N':List Str}{pick:List (Ç7)}{scope HE:Scope}{N:List Str}(hE:X.env.scope=HE:=by rfl) (hN:X.N=N:=by rfl) (h1:scope.kind=.function:=by rfl)
  (h2:scope.names.all (λ y=>Ż (scope.names.lookup y.1=↑y.2))=true:=by decide +kernel)
  (h4:scope.names.all (λ y=>! Ż (y.2=.free)||(Ż (HE.names.lookup y.1=↑.cell)||Ż (HE.names.lookup y.1=↑.free)))=true:=by decide +kernel)
  (h5:pick.length=N'.length:=by rfl) (h6:pW N N' pick scope=true:=by decide +kernel):rf X N' pick scope:=by
 exact#[h1,λ y hy=>of_decide_eq_true (BN.mp h2 y hy),λ y hy hf=>?_,h5,by rw[hN];show h6];have:=BN.mp h4 y hy;rw[za2 hf] at this;rw[hE];exists this
def SV È2 {x:Str}(hN:X.N.Nodup) Â2 Ţ:vD X (.Name x pos) (hName i):=
 SW (Td hN hi hx hf)
def gy {k:Nat}{t:xU}{n:Nat}(h:qZ X es t) Á6 (hn:(Ä8).length=n) (AL:(Ä8).findIdx? (·.1)=none):vD X (.Tuple es k pos) (qH n t):=
 SU (Tb hc h.pg hn AL) h.mo
def Sq È2 {x:Str}{pos':Pos}(hN:X.N.Nodup) Ä1 Â2 (hs:swapsWith e ↑(.Name x pos') pos.line X.env=pure Ø)
  Ţ:xW X (.Assign [.Name x pos'] e pos) (wH te (hName i)):=
 Ss (UG hN hi hx he.pe hs hf) he.mo
def fh (te:zv):wj:=fun δ S R=>te Ö λ x S1=>match x with
 | ŵ=>R #[ds,À4] S1
 | .x_ ds=>R #[ds,À4] S1
 | ŏ=>match S1 p with
  | Ğ=>R #[ds,λ S=>S p=↑ Ê0] S1
  | _=>Ċ
 | _=>Ċ
def SJ {tg:Expr}(h:PD X e te):uW X tg e (fh te):=by
 exact#[fun δ S Q Q' hq z=>h.mo Ù (λ x S1 z=>?_) z,?_]
 .cases x with
  | ref p=>
   dsimp only at z ⊢;split at z
   .show Ŵ
   .show z.elim
  | x_ ds=>show Ŵ
  | tup ds=>show Ŵ
  | _=>show z
 .exact PI.imp (UX h.pe) fun σ H R hu=>?_
  ext Í;exact È7 h.mo ſ z ï;cases x with
  | tup ds=>
   ext Á9;exact#[a,rfl,Š #[#[xs,g1],h1 _ É1 λ i H2 S2 x1 x2 _=>#[λ d hd=>?_,λ hl=>#[xs,x1.lZ g1,by rw[<- g2.length];show hl]]]];let#[y,hy,_]:=g2.get hd;exact#[#[xs,y,x1.lZ g1,hy],È6];let#[rfl,q]:=q;show#[.refl _,x2,(zk.ext x1 ds g2).at hd (q xs (x1.lZ g1))]
  | ref p=>
   dsimp only at h1;split at h1
   .rename_i ds e2;ext È0;subst q1;let#[xs0,g1,_]:=p1 Ā e2;exact#[p,rfl,ğ #[#[xs0,zP.of g1],h1 _ É1 λ i H2 S2 x1 x2 hk=>?_]];let#[xs,g3,g4]:=x2 Ā hk;exact#[λ d hd=>?_,λ hl=>#[xs,zP.of g3,by rw[<- g4.length];show hl]];let#[y,hy,_]:=g4.get hd;exact#[#[xs,y,zP.of g3,hy],È6];let#[rfl,q]:=q;show#[.refl _,x2,g4.at hd (q xs (zP.of g3))]
   .show h1.elim
  | x_ ds=>
   ext Á9;exact#[a,rfl,ğ #[#[xs,g1.sq],h1 _ É1 λ i H2 S2 x1 x2 _=>#[λ d hd=>?_,λ hl=>#[xs,(x1.l_ g1).sq,by rw[<- g2.length];show hl]]]];let#[y,hy,_]:=g2.get hd;exact#[#[xs,y,(x1.l_ g1).sq,hy],È6];let#[rfl,q]:=q;show#[.refl _,x2,(zk.ext x1 ds g2).at hd (q xs (x1.l_ g1).sq)]
  | _=>show h1.elim
end
end L3
namespace TS
open PySem PyProof.Rows
abbrev gS:ß->ß->Ê2 ó Sem (Option Bool):=sortPriv% PySem.Builtin.lt
abbrev fZ:É->Nat->Ê2 ó Sem ß:=sortPriv% PySem.Builtin.elem
abbrev fL:Bool->ß->É->Nat->Nat->Nat->Ê2 ó Sem (Ç7):=sortPriv% PySem.Builtin.gallop
abbrev OH:Nat->Ê2 ó Sem Unit:=sortPriv% PySem.Builtin.setMinGallop
abbrev Zc:É->É->Ê2 ó Sem (É):=sortPriv% PySem.Builtin.mergeLo
abbrev ZI:É->É->Ê2 ó Sem (É):=sortPriv% PySem.Builtin.mergeHi
structure Asks (prog:Program) (w:World) (A:Around) (E:Af) (s:Shared) (κ:SortKind) (D:ß->Prop) (lb:ē):Prop where
 ask:∀ {x y:ß}È3{Q:Option Bool->À6},D x->D y->Æ3=κ->Q ↑(lb x y) st->wpS á (gS x y) Q st
 tr:∀ {a b c:ß},lb b a=Ø->lb c b=Ø->lb c a=Ø
 as:∀ {a b:ß},lb a b=true->lb b a=Ø
section
variable {Æ}
def Asks.refl è (a:ß):lb a a=Ø:=by
 cases h:lb a a with
 | Ø=>rfl
 | true=>rw[G.as h] at h;cases h
def xv {arr:É}Ź{x:ß}È3{Q:ß->À6}(hx:arr[i]?=↑x) (h:Q x st):wpS á (fZ arr i) Q st:=by
 have e:fZ arr i=elem' arr i:=rfl;rw[e,elem'_eq,hx];show Å h
def yq (lb:ē) (left:Bool) (key x:ß):Bool:=if left=true then lb x key else !lb key x
def oU è {left:Bool}{key x:ß}{arr:É}Ź È3{Q:Option Bool->À6}(hx:arr[i]?=↑x) (dx:D x) (dk:D key)
  Ě (h:Q ↑(yq Ï x) st):
  wpS á (do let x <- fZ arr i;if left=true then gS x key else do let r <- gS key x;pure (r.map (λ x=>!x))) Q st:=by
 exact Ã (xv hx ?_);unfold yq at h;cases left with
 | true=>show G.ask dx dk hk h
 | Ø=>show Ã (G.ask dk dx hk (Å h))
def Cut (P:Nat->Bool) (n lo hi:Nat):Prop:=lo<=hi/\hi<=n/\(∀ i,i<lo->P i=true)/\∀ i,hi<=i->i<n->P i=Ø
def WM è ĝ{e:Nat->ß}
  (he:∀ i,i<n->arr[base+i]?=↑(e i)) (hd:∀ i,i<n->D (e i)) (dk:D key) Ě (hh:hint<n)
  (mono:∀ i j,i<=j->j<n->yq Ï (e j)=true->Ä9=true)
  (h:∀ k,k<=n->(∀ i,i<k->Ä9=true)->(∀ i,k<=i->i<n->Ä9=Ø)->Q ↑k st):
  Á7:=by
 have F0:∀ i j,i<=j->j<n->Ä9=Ø->yq Ï (e j)=Ø:=λ i j Ba hj hi=>by
  cases c:yq Ï (e j) with
  | Ø=>rfl
  | true=>rw[mono i j Ba hj c] at hi;cases hi
 unfold fL;exact Ã (oU G (he hint hh) (hd _ hh) dk hk ?_);ext ź;cases hP:yq Ï (e hint) with
 | true=>
  simp![if_true];exact Ã (Ś (Č (I:=λ k c E7=>E7=st/\Ė/\k<c.2.2/\ū<c.2.2/\hint+ū<n/\yq Ï (e (hint+ū))=true)
   (Q:=λ c E7=>E7=st/\Ė/\Cut Ď (hint+ū+1) (hint+min c.2.2 (n-hint))) ţ #[rfl,rfl,#[],#[],by simpa using hh,by exists hP]) ?post)
  case step=>
   ext Ĩ;have cut:∀ m,l<m->(n-hint<=m\/yq Ï (e (hint+m))=Ø)->Cut Ď (hint+l+1) (hint+min m (n-hint)):=λ m hm hc=>
    #[⋯,⋯,Æ4,λ i hi B8=>by
     rcases hc with hc | hc
     .lia
     .show F0 (hint+m) i ⋯ B8 hc]
   split
   .show Â4
   .rename_i EK;exact Ã (oU G (he (hint+o) ⋯) (hd _ ⋯) dk hk ?_);ext ź;cases c:yq Ï (e (hint+o)) with
    | Ø=>show Æ5
    | true=>show Å #[rfl,rfl,by change k+1<2*o+1;lia,by change o<2*o+1;lia,by change hint+o<n;lia,c]
  case fin=>
   ext ŀ;show#[rfl,rfl,⋯,⋯,Æ4,λ i hi B8=>⋯]
  case post=>
   ext ŝ;exact Ã (Ś (Č Û ť) ?post)
   case step=>
    ext ā
    .show À0
    .ext Ō;cases c:yq Ï (e (l+(o-l)/2)) with
     | true=>show Ĵ
     | Ø=>show Ļ
   case fin=>
    ext Ĝ
   case post=>
    ext ð
 | Ø=>
  ext É3;exact Ã (Ś (Č (I:=λ k c E7=>E7=st/\Ė/\k<c.2.2/\ū<c.2.2/\ū<=hint/\yq Ï (e (hint-ū))=Ø)
   (Q:=λ c E7=>E7=st/\Ė/\Cut Ď (hint+1-min c.2.2 (hint+1)) (hint-ū)) ţ #[rfl,rfl,#[],#[],#[],by exists hP]) ?post)
  case step=>
   ext Ĩ;have cut:∀ m,l<m->(hint+1<=m\/yq Ï (e (hint-m))=true)->Cut Ď (hint+1-min m (hint+1)) (hint-l):=λ m hm hc=>
    #[⋯,⋯,λ i hi=>by
     rcases hc with hc | hc
     .lia
     .show mono i (hint-m) ⋯ ⋯ hc,Å2]
   split
   .show Â4
   .rename_i EK;exact Ã (oU G (he (hint-o) ⋯) (hd _ ⋯) dk hk ?_);ext ź;cases c:yq Ï (e (hint-o)) with
    | true=>show Æ5
    | Ø=>show Å #[rfl,rfl,by change k+1<2*o+1;lia,by change o<2*o+1;lia,by change o<=hint;lia,c]
  case fin=>
   ext ŀ;show#[rfl,rfl,⋯,⋯,λ i hi=>⋯,Å2]
  case post=>
   ext ŝ;exact Ã (Ś (Č Û ť) ?post)
   case step=>
    ext ā
    .show À0
    .ext Ō;cases c:yq Ï (e (l+(o-l)/2)) with
     | true=>show Ĵ
     | Ø=>show Ļ
   case fin=>
    ext Ĝ
   case post=>
    ext ð
end
section
variable {σ α X Y:Type}{M:Model}{A:Around}{E:Af}{s:Shared}{Q:α->σ->Prop}{st:σ}
def il (jp:Unit->ô) {m:ô}(P:σ->Prop) (hv:Á1) (hb:(Á1)->õ):õ:=hb hv
def WK (jp:Unit->X->ô) {m:ô}(P:X->σ->Prop) (hv:∀ x st,P x st->Ć) (hb:(∀ x st,P x st->Ć)->õ):õ:=hb hv
def c5 (jp:Unit->X->ô) {m:ô}(P:X->Prop) (hv:∀ x,P x->Ć) (hb:(∀ x,P x->Ć)->õ):õ:=hb hv
def lK (jp:Unit->X->Y->ô) {m:ô}(P:X->Y->Prop) (hv:ů) (hb:(ů)->õ):õ:=hb hv
end
theorem jc (a:É) È2:(ķ i à).toList=Ç i:=by
 rw[En,Em,De #[]]
def oE (a:É) (i k:Nat):(ķ i (i+k)).toList=(Ç i).take k:=by
 rw[En,Em,DP]
def jb (a:É) (n:Nat):(ķ 0 n).toList=È n:=by
 rw[En,Em];simp
abbrev Up (lb:ē) (l:Ľ):Prop:=l.Pairwise λ x y=>Ę
def Res É6 (out:Ľ):Prop:=out.Perm (a++b)/\Up lb out
def Mg É6 (out A B:Ľ):Prop:=(out++(A++B)).Perm (a++b)/\Up lb (out++A)/\Up lb (out++B)
section
variable {Å0}
def Up.app {l r:Ľ}:Up lb (l++r)↔Up lb l/\Up lb r/\∀ x∈l,∀ y∈r,Ę:=Dg
def Mg.rJ (h:Mg Ŕ out (A1++A2) B) (hl:∀ x∈A1,∀ y∈B,Ę):Mg Ŕ (out++A1) A2 B:=by
 ext ģ;exact#[Ê3,by simpa using h2,?_];rw[Up.app] at h3 ⊢;rw[<- AW] at h2;exact#[(Ô h2).1,h3.2.1,þ];ext Ã5
 .show h3.2.2 Ņ
 .show hl Ņ
def Mg.rH (h:Mg Ŕ out A (B1++B2)) (hl:∀ x∈B1,∀ y∈A,Ę):Mg Ŕ (out++B1) A B2:=by
 ext ģ;exact#[List.Perm.trans ?_ h1,?_,by exists h3]
 .rw[AW];exact Ň _ ?_;rw[<- AW,<- AW];show ľ _ DN
 .rw[Up.app] at h2 ⊢;rw[<- AW] at h3;exact#[(Ô h3).1,h2.2.1,þ];ext Ã5
  .show h2.2.2 Ņ
  .show hl Ņ
def Mg.done (h:Mg Ŕ out A B) (he:A=[]\/B=[]):Res Ŕ (out++A++B):=by
 ext ģ;exact#[Ê3,?_];rcases he with rfl | rfl
 .exists h3
 .exists h2
theorem Mg.last (h:Mg Ŕ out A B) (hl:∀ x∈B,∀ y∈A,Ę):Res Ŕ (out++B++A):=by
 have:=(Mg.rH (B1:=B) (B2:=[]) (by exists h) hl).done (Š rfl);exists this
theorem ć {a:É}Ź{x:ß}(h:a[i]?=↑x):Ç i=[x]++Ç (i+1):=by
 have hi:i<a.toList.length:=by
  rcases Bw i à with h' | h'
  .exists h'
  .rw[CB h'] at h;cases h
 rw[Dd hi];have:ī[i]=x:=by
  rw[BC (by exists hi)] at h;exists h
 rw[this];rfl
def tU {a:É}Ź(h:i<à):∃ x,a[i]?=↑x/\x∈ ī:=#[a[i],by simp[h],#[]]
end
section
variable {Æ}
def pL è ĝ(seg:Ľ) (hs:base+n<=arr.size)
  (Dn:(Ê6 base).take n=seg) (hD:∀ x∈seg,D x) (dk:D key) Ě (hh:hint<n) (srt:Up lb seg)
  (h:∀ L R,seg=L++R->(∀ x∈L,yq Ï x=true)->(∀ x∈R,yq Ï x=Ø)->Q ↑ Ë st):
  Á7:=by
 have hlen:seg.length=n:=by rw[<- Dn];simp;lia
 have ev:∀ i (hi:i<n),Ã9=seg[i]'⋯:=λ i hi=>by simp[hlen,hi]
 have srt':=CQ.mp srt;exact WM G (e:=λ i=>Ã9) (λ i hi=>?_) (λ i hi=>?_) dk hk hh (λ i j Ba hj hb=>?_) λ k BO h1 h2=>?_
 .rw[ev i hi];subst Dn;have:base+i<arr.size:=⋯;simp[this]
 .rw[ev i hi];show hD _ (BA _)
 .rcases Nat.lt_or_eq_of_le Ba with Ar | rfl
  .have q:=srt' i j ⋯ ⋯ Ar;rw[ev j hj] at hb;rw[ev i ⋯];unfold yq at hb ⊢;cases left with
   | Ø=>
    simp![A9,if_false,Bool.not_eq_true'] at hb ⊢;show G.tr q hb
   | true=>
    simp![if_true] at hb ⊢;cases c:lb seg[i] key with
    | true=>rfl
    | Ø=>rw[G.tr c q] at hb;cases hb
  .show hb
 .have:=h (seg.take k) (seg.drop k) (CA k seg).symm (λ x hx=>?_) λ x hx=>?_
  .rwa [Cc,hlen,El BO] at this
  .let#[i,hi,rfl]:=BP.mp hx;have FU:i<k:=by rw[Cc] at hi;lia
   have:=h1 i FU;rw[ev i ⋯] at this;exists this
  .let#[i,hi,rfl]:=BP.mp hx;have FU:k+i<n:=by rw[DT] at hi;lia
   have:=h2 (k+i) ⋯ FU;rw[ev _ FU] at this;exists this
def yi {σ α:Type}{M:Model}{c:Prop}{dc:Decidable c}{m1 m2:ô}{Q:α->σ->Prop}{st:σ}(h1:c->wpS Ë3 m1 Q st) (h2:¬ c->wpS Ë3 m2 Q st):wpS Ë3 (if c then m1 else m2) Q st:=by
 by_cases h:c
 .rw[if_pos h];show h1 h
 .rw[if_neg h];show h2 h
abbrev setG (st:ó) (g:Nat):ó:=SortSt.mk' (Æ3) (ñ) (Â5) g (ŷ)
def lJ {g:Nat}È3{Q:Unit->À6}(h:Q Ê7 (setG st g)):wpS á (OH g) Q st:=by
 show wpS_modify h
def pJ {r:String}È3{Q:Unit->À6}(h:Q Ê7 st):wpS á (liftM (rule r):Ê2 ó Sem Unit) Q st:=wpS_lift (zaC #[rfl,h])
def WJ Ú (nb:0<ú) (Gf:∀ y,b[0]?=↑y->∀ x∈ ī,Æ6) (F5:∀ x∈ Ç (à-1),∀ y∈ Ŀ,Æ6) Ě
  Â0:wpS á (Zc a b) Q st:=by
 have inA:∀ i,∀ x∈ Ç i,x∈ ī:=λ i x hx=>DM hx;have yY:∀ i,∀ x∈ Î i,x∈ Ŀ:=λ i x hx=>DM hx;have Fs:∀ Ş,ż->à<=ia\/ú<=ib->
   Res Á (out++ķ ia à++À7 ib ú).toList:=λ m he=>by
  rw[BL,BL,jc,jc];exact Æ7
  .show Å3
  .show Å3
 have Gp:∀ Ş,ż->ia+1=à->
   Res Á (out++À7 ib ú++ķ ia à).toList:=λ{out ia ib} m he=>by
  rw[BL,BL,jc,jc];exact m.last λ x hx y hy=>F5 y ?_ x (yY _ x hx);rw[<- he];show hy
 let#[b0,e0,m0]:=tU nb;unfold Zc;exact Ã (pJ ?_)
 ext Ê
 ext Â;exact Ã (xv e0 ?_)
 ext Ê
 ext Ä2;have Hd:Mg Á ([b0].toArray:É).toList (Ç 0) (Î 1):=by
  have e1:Ŀ=[b0]++Î 1:=by
   have:=ć e0;rwa [Dc] at this
  exact#[?_,?_,?_]
  .rw[Dc];change ([b0]++(ī++Î 1)).Perm _
   conv=>rhs;rw[e1]
   rw[<- AW,<- AW];show ľ _ DN
  .rw[Dc];show Br.mpr #[λ x hx=>Gf b0 e0 x hx,sa]
  .rw[e1] at sb;show sb
 exact Á8
 .have hz:1=ú:=Ġ
  rw[AL];show Å (h Ā (Fs Hd (Š ⋯)))
 have hz:1≠ ú:=Ġ
 exact yi (λ hy=>?_) λ hy=>?_
 .have hy:0+1=à:=Ã3
  rw[AL];show Å (h Ā (Gp Hd hy))
 have hy:1≠ à:=Ã3
 exact Ê8
 ext Ê
 ext Â;let Inv (out:É) (ia ib:Nat):Prop:=ż/\ia+1<à/\ib<ú
 ext ų
 ext É5
 ext Ł
 exact Ã (Ś (Č (I:=λ k c E7=>Gs E7/\Ė/\Ñ/\Ŧ+k+1<=à+ú)
  (Q:=λ c E7=>Gs E7/\Fin c.1) ţ #[#[_,AL],rfl,#[Hd,À,À],À]) ?post)
 case post=>
  ext ĵ
 case fin=>
  rintro⟨r,out,ia,ib,mg⟩ E7 ⟨_,_,⟨_,h1,h2⟩,h3⟩;dsimp only at h1 h2 h3;lia
 case step=>
  rintro k ⟨r,out,ia,ib,mg⟩ E7 _ BO ⟨hg,rfl,hI,CF⟩;dsimp only at hI CF
  ext Ê
  ext Â;exact Ã (Ś (Č (I:=λ k c E7=>Gs E7/\Ė/\Ñ/\Ŧ+min k 1<=(à-ia)+(ú-ib))
   Ç2 #[hg,rfl,hI,À]) ?post)
  case fin=>
   ext Ŏ;ext Á2
  case step=>
   rintro k ⟨r,out,Fh,Fe,ac,bc⟩ E7 _ BO ⟨g1,rfl,⟨g3,g4,g5⟩,g6⟩;dsimp only at g3 g4 g5 g6
   ext Ê
   ext Â;let#[x,ex,mx]:=tU (a:=a) (i:=Fh) ⋯;let#[y,ey,my]:=tU g5;exact ı;ext ź;ext É4;ext Ê4;rw[ć ex] at sA;rw[ć ey] at sB;cases c:lb y x with
   | true=>
    simp![if_true];exact Ĭ;have m':Mg Á (ś y).toList (Ç Fh) (Î (Fe + 1)):=by
     rw[B0];rw[ć ey] at g3;exact g3.rH Ĉ;ext Ŋ;rw[ć ex] at hq;ext ŋ
     .ext Ē;show G.as c
     .show G.tr (G.as c) ((Ô sA).2.2 x Al q hq)
    exact ă
    .have Fn:Fe + 1=ú:=č
     show Å #[g1,ğ #[_,rfl,Fs m' (Š ⋯)]]
    .have Fn:Fe + 1≠ ú:=č
     exact Ŝ
     .show Å #[g1,Š #[rfl,#[m',g4,À],À]]
     .show Å #[g1,rfl,#[m',g4,À],À]
   | Ø=>
    ext É3;ext Ħ;have m':Mg Á (ś x).toList (Ç (Fh + 1)) (Î Fe):=by
     rw[B0];rw[ć ex] at g3;exact g3.rJ Ĉ;ext Ŋ;rw[ć ey] at hq;ext ŋ
     .ext Ē;show c
     .show G.tr c (Ê9 y Al q hq)
    exact ă
    .have Fn:Fh + 1+1=à:=č
     show Å #[g1,ğ #[_,rfl,Gp m' Fn]]
    .have Fn:Fh + 1+1≠ à:=č
     exact Ŝ
     .show Å #[g1,Š #[rfl,#[m',À,g5],À]]
     .show Å #[g1,rfl,#[m',À,g5],À]
  case post=>
   rintro⟨r,out,Fh,Fe,ac,bc⟩ E7 ⟨g1,g2⟩;dsimp only at g2
   ext Ê
   ext Â;ext æ
   .show ĸ
   try ext đ
   exact Ã (pJ ?_);exact Ã (Ś (Č (I:=λ k c E7=>Gs E7/\ë)
    Ç2 #[g1,rfl,g3,g4]) ?post)
   case fin=>
    ext Ŏ;show#[g1,Š #[g2,g3,g4]]
   case post=>
    rintro⟨r,out,Fh,Fe,mg',ac,bc⟩ E7 ⟨g1,g2⟩;dsimp only at g2;ext ź;ext æ
    .show ĸ
    ext Ī
   case step=>
    rintro k ⟨r,out,Fh,Fe,mg',ac,bc⟩ E7 _ BO ⟨g1,rfl,⟨g3,g4,g5⟩,g6⟩;dsimp only at g3 g4 g5 g6
    ext Á0
    ext Â;let#[y,ey,my]:=tU g5;ext Ê4;ext É4;rw[ć ey] at sB
    extract_lets -û +ì Ge
    exact Å4
    case Hm=>
     clear_value Ge
     show yi (Ÿ) Ÿ
    ext Ą
    exact Ĭ;exact Ã (pL G (Ç Fh) ⋯ (by rw[De #[]]) Ķ);have EN:∀ x∈L,∀ z∈ Î Fe,lb z x=Ø:=λ x hx z hz=>by
     have q:Ę:=Ž
     rw[ć ey] at hz;rcases AG.mp hz with hz | hz
     .rw[Au] at hz;subst hz;show q
     .show G.tr q (Ê9 y Al z hz)
    have EC:∀ x∈R,Æ6:=λ x hx=>Ř;have eR:Ç (Fh + Ë)=R:=by rw[<- C_,FA,BK]
    have eL:(Ç Fh).take Ë=L:=by rw[FA,BZ]
    have m1:Mg Á (out++ķ Fh (Fh + Ë)).toList (Ç (Fh + Ë)) (Î Fe):=by
     rw[BL,oE,eL,eR];rw[FA] at g3;show g3.rJ EN
    have lL:Ë<=à-Fh:=by
     ext Ç3
    ext đ
    extract_lets -û +ì y1
    dsimp -zeta -Ŭ only [y1]
    extract_lets -û +ì Gb
    exact lK Gb (λ out Fu=>Mg Á (Á3) (Ç Fu) (Î Fe)/\Ç Fu=R/\Fu+1<à/\Fh<=Fu) (λ out Fu #[m2,e2,l2,rN]=>?IQ) λ AV=>?Hl
    case Hl=>
     clear_value Gb
     ext ź;exact yi (λ G2=>Á4) λ G2=>?_
     .show Å #[FX,ğ #[_,rfl,Gp m1 (ő)]]
     .have hf:Fh + Ë=à:=by exists hf
      show Å #[FX,ğ #[_,rfl,Fs m1 (ğ ⋯)]]
     .have hf:Fh + Ë ≠ à:=by exists hf
      have he:Fh + Ë+1≠ à:=ő
      show AV Ā #[m1,eR,⋯,⋯]
     .have h0:Ë=0:=⋯;rw[h0] at eR;show AV Ā #[g3,eR,g4,⋯]
    .dsimp -zeta -Ŭ only [Gb];exact Ĭ
     ext Ê
     ext Â;have m3:Mg Á (ś y).toList (Ç Fu) (Î (Fe + 1)):=by
      rw[B0];rw[ć ey] at m2;exact m2.rH Ĉ;ext Ŋ;rw[e2] at hq;show EC q hq
     exact ă
     .have Fn:Fe + 1=ú:=č
      show Å #[FX,ğ #[_,rfl,Fs m3 (Š ⋯)]]
     have Fn:Fe + 1≠ ú:=č
     let#[x,ex,mx]:=tU (a:=a) (i:=Fu) ⋯;have HR:Up lb (Ç Fu):=(Ô m2.2.1).2.1;rw[ć ex] at HR;ext Ħ;exact Ã (pL G (Î (Fe + 1)) ⋯ (by rw[De #[]]) À9 (Ô m3.2.2).2.1 λ L' R' FV Hn HD=>?_);have D0:∀ z∈L',∀ q∈ Ç Fu,lb q z=Ø:=λ z hz q hq=>by
      have c:lb z x=true:=by have:=Hn z hz;ext ä
      rw[ć ex] at hq;ext ŋ
      .ext Ē;show G.as c
      .show G.tr (G.as c) ((Ô HR).2.2 x Al q hq)
     have EB:∀ z∈R',lb z x=Ø:=λ z hz=>by have:=HD z hz;ext ä
     have HF:Î (Fe + 1+ê)=R':=by rw[<- C_,FV,BK]
     have eL':(Î (Fe + 1)).take ê=L':=by rw[FV,BZ]
     have m4:Mg Á (ś y++À7 (Fe + 1) (Fe + 1+ê)).toList (Ç Fu) (Î (Fe + 1+ê)):=by
      rw[BL,oE,eL',HF];rw[FV] at m3;show m3.rH D0
     have lL':ê<=ú-(Fe + 1):=by
      ext È1
     ext đ
     extract_lets -û +ì y2
     dsimp -zeta -Ŭ only [y2]
     extract_lets -û +ì He
     exact lK He (λ out Gw=>Mg Á (Á3) (Ç Fu) (Î Gw)/\Î Gw=R'/\Gw<ú/\Fe + 1<=Gw) (λ out Gw #[m5,e5,l5,le5]=>?hv3) λ AV=>?hb3
     case hb3=>
      clear_value He
      ext ź;exact yi (λ hk1=>yi (λ he=>?_) λ he=>?_) λ hk1=>?_
      .have he:Fe + 1+ê=ú:=ő
       show Å #[FX,ğ #[_,rfl,Fs m4 (Š ⋯)]]
      .have he:Fe + 1+ê ≠ ú:=ő
       show AV Ā #[m4,HF,⋯,⋯]
      .have h0:ê=0:=⋯;rw[h0] at HF;show AV Ā #[m3,HF,⋯,⋯]
     .dsimp only[He];ext Ħ;have m6:Mg Á (ś x).toList (Ç (Fu+1)) (Î Gw):=by
       rw[B0];rw[ć ex] at m5;exact m5.rJ Ĉ;ext Ŋ;rw[e5] at hq;show EB q hq
      exact yi (λ hz=>Å #[FX,ğ #[_,rfl,Gp m6 (Ġ)]]) λ hz=>?_;have hz:Fu+1+1≠ à:=Ġ
      show yi (λ _=>Å #[FX,Š #[rfl,#[m6,À,l5],À]]) λ _=>Å #[FX,rfl,#[m6,À,l5],À]
end
def Mh É6 (out A B:Ľ):Prop:=(A++B++out).Perm (a++b)/\Up lb (A++out)/\Up lb (B++out)
section
variable {Å0}
def Mh.rJ (h:Mh Ŕ out (A1++A2) B) (hl:∀ x∈B,∀ y∈A2,Ę):Mh Ŕ (A2++out) A1 B:=by
 ext ģ;exact#[List.Perm.trans ?_ h1,by simpa using h2,?_]
 .rw[<- AW];exact ľ _ ?_;rw[AW,AW];show Ň _ DN
 .rw[Up.app] at h3 ⊢;rw[AW] at h2;exact#[h3.1,(Ô h2).2.1,þ];ext Ä4
  .show hl Ņ
  .show h3.2.2 Ņ
def Mh.rH (h:Mh Ŕ out A (B1++B2)) (hl:∀ x∈A,∀ y∈B2,Ę):Mh Ŕ (B2++out) A B1:=by
 ext ģ;exact#[Ê3,?_,by exists h3];rw[Up.app] at h2 ⊢;rw[AW] at h3;exact#[h2.1,(Ô h3).2.1,þ];ext Ä4
 .show hl Ņ
 .show h2.2.2 Ņ
def Mh.done (h:Mh Ŕ out A B) (he:A=[]\/B=[]):Res Ŕ (A++B++out):=by
 ext ģ;exact#[h1,?_];rcases he with rfl | rfl
 .exists h3
 .exists h2
theorem Mh.first (h:Mh Ŕ out A B) (hl:∀ x∈B,∀ y∈A,Ę):Res Ŕ (B++A++out):=by
 have:=(Mh.rJ (A1:=[]) (A2:=A) (by exists h) hl).done (ğ rfl);exists this
def Æ8 {a:É}Ź{x:ß}(h:a[i]?=↑x):È (i+1)=È i++[x]:=by
 rw[List.take_add_one];have:ī[i]?=↑x:=by exists h
 rw[this];rfl
end
section
variable {Æ}
def WL Ú (nb:0<ú) (Gf:∀ y∈ Ó 1,∀ x∈ ī,Æ6) (F5:∀ x,a[à-1]?=↑x->∀ y∈ Ŀ,Æ6) Ě
  Â0:wpS á (ZI a b) Q st:=by
 have inA:∀ i,∀ x∈ È i,x∈ ī:=λ i x hx=>Ek hx;have yY:∀ i,∀ x∈ Ó i,x∈ Ŀ:=λ i x hx=>Ek hx;have Fs:∀ Ş,ę->ia=0\/ib=0->
   Res Á (ķ 0 ia++À7 0 ib++out.reverse).toList:=λ m he=>by
  rw[BL,BL,jb,jb,DL];exact Æ7 <;> rw[q,List.take_zero]
 have FY:∀ Ş,ę->ib=1->
   Res Á (À7 0 ib++ķ 0 ia++out.reverse).toList:=λ{out ia ib} m he=>by
  rw[BL,BL,jb,jb,DL];subst he;show m.first λ x hx y hy=>Gf x hx y (inA _ y hy)
 let#[a0,e0,m0]:=tU (a:=a) (i:=à-1) ⋯;unfold ZI;exact Ã (pJ ?_)
 ext Ê
 ext Â;exact Ã (xv e0 ?_)
 ext Ê
 ext Ä2;have Hd:Mh Á ([a0].toArray:É).toList.reverse (È (à-1)) (Ó ú):=by
  have e1:ī=È (à-1)++[a0]:=by
   have:=Æ8 e0;rw[show à-1+1=à by lia,De #[]] at this;show this
  have e2:Ó ú=Ŀ:=De #[];rw[e2];exact#[?_,?_,?_]
  .change ((È (à-1)++Ŀ)++[a0]).Perm _
   conv=>rhs;rw[e1]
   rw[AW,AW];show Ň _ DN
  .change Up lb (È (à-1)++[a0]);rw[<- e1];show sa
  .change Up lb (Ŀ++[a0]);rw[Up.app];exact#[sb,Df Ā,þ];rw[Au] at hy;subst hy;show F5 _ e0 x hx
 exact Á8
 .have hz:à-1=0:=Ġ
  rw[AL];show Å (h Ā (Fs Hd (ğ hz)))
 have hz:à-1≠0:=Ġ
 exact yi (λ hy=>?_) λ hy=>?_
 .have hy:ú=1:=Ã3
  rw[AL];show Å (h Ā (FY Hd hy))
 have hy:ú ≠1:=Ã3
 exact Ê8
 ext Ê
 ext Â;let Inv (ia ib:Nat) (out:É):Prop:=ę/\1<=ia/\ia<=à/\2<=ib/\ib<=ú
 ext ų
 ext É5
 ext Ł
 exact Ã (Ś (Č (I:=λ k c E7=>Gs E7/\Ė/\Ñ/\ū+c.2.2.1+k+1<=à+ú)
  (Q:=λ c E7=>Gs E7/\Fin c.1) ţ #[#[_,AL],rfl,#[Hd,À,À,À,À],À]) ?post)
 case post=>
  ext ĵ
 case fin=>
  rintro⟨r,ia,ib,out,mg⟩ E7 ⟨_,_,⟨_,h1,h2,h4,h5⟩,h3⟩;dsimp only at h1 h2 h3 h4;lia
 case step=>
  rintro k ⟨r,ia,ib,out,mg⟩ E7 _ BO ⟨hg,rfl,hI,CF⟩;dsimp only at hI CF
  ext Ê
  ext Â;exact Ã (Ś (Č (I:=λ k c E7=>Gs E7/\Ė/\Ñ/\ū+c.2.2.1+min k 1<=ia+ib)
   Į #[hg,rfl,hI,À]) ?post)
  case fin=>
   rintro⟨r,Fh,Fe,out,ac,bc⟩ E7 ⟨g1,g2,g3,g4⟩;ext Á2
  case step=>
   rintro k ⟨r,Fh,Fe,out,ac,bc⟩ E7 _ BO ⟨g1,rfl,⟨g3,g4,g4',g5,g5'⟩,g6⟩;dsimp only at g3 g4 g4' g5 g5' g6
   ext Ê
   ext Â;let#[x,ex,mx]:=tU (a:=a) (i:=Fh-1) ⋯;ext Å1;have tx:=Æ8 ex;have ty:=Æ8 ey;rw[show Fh-1+1=Fh by lia] at tx;rw[show Fe-1+1=Fe by lia] at ty;exact ı;ext ź;ext Ë4;ext Ë5;rw[tx] at sA;rw[ty] at sB;cases c:lb y x with
   | true=>
    simp![if_true];ext Ħ;have m':Mh Á (ś x).toList.reverse (È (Fh-1)) (Ó Fe):=by
     rw[B0,CP];rw[tx] at g3;exact g3.rJ Ĉ;ext Ē;rw[ty] at hp;rcases AG.mp hp with hp | hp
     .show G.tr (Ê9 p hp y Al) (G.as c)
     .ext Ŋ;show G.as c
    exact ă
    .have Fn:Fh-1=0:=č
     show Å #[g1,ğ #[_,rfl,Fs m' (ğ Fn)]]
    .have Fn:Fh-1≠0:=č
     exact Ŝ
     .show Å #[g1,Š #[rfl,#[m',À,À,g5,g5'],À]]
     .show Å #[g1,rfl,#[m',À,À,g5,g5'],À]
   | Ø=>
    ext É3;exact Ĭ;have m':Mh Á (ś y).toList.reverse (È Fh) (Ó (Fe-1)):=by
     rw[B0,CP];rw[ty] at g3;exact g3.rH Ĉ;ext Ē;rw[tx] at hp;rcases AG.mp hp with hp | hp
     .show G.tr ((Ô sA).2.2 p hp x Al) c
     .ext Ŋ;show c
    exact ă
    .have Fn:Fe-1=1:=č
     show Å #[g1,ğ #[_,rfl,FY m' Fn]]
    .have Fn:Fe-1≠1:=č
     exact Ŝ
     .show Å #[g1,Š #[rfl,#[m',g4,g4',À,À],À]]
     .show Å #[g1,rfl,#[m',g4,g4',À,À],À]
  case post=>
   rintro⟨r,Fh,Fe,out,ac,bc⟩ E7 ⟨g1,g2⟩;dsimp only at g2
   ext Ê
   ext Â;ext æ
   .show ĸ
   try ext đ
   exact Ã (pJ ?_);exact Ã (Ś (Č (I:=λ k c E7=>Gs E7/\Ë0)
    Į #[g1,rfl,g3,g4]) ?post)
   case fin=>
    rintro⟨r,Fh,Fe,out,mg',ac,bc⟩ E7 ⟨g1,g2,g3,g4⟩;show#[g1,Š #[g2,g3,g4]]
   case post=>
    rintro⟨r,Fh,Fe,out,mg',ac,bc⟩ E7 ⟨g1,g2⟩;dsimp only at g2;ext ź;ext æ
    .show ĸ
    ext Ī
   case step=>
    rintro k ⟨r,Fh,Fe,out,mg',ac,bc⟩ E7 _ BO ⟨g1,rfl,⟨g3,g4,g4',g5,g5'⟩,g6⟩;dsimp only at g3 g4 g4' g5 g5' g6
    ext Á0
    ext Â;ext Å1;have ty:=Æ8 ey;rw[show Fe-1+1=Fe by lia] at ty;ext Ë5;ext Ë4;rw[ty] at sB
    extract_lets -û +ì Ge
    exact Å4
    case Hm=>
     clear_value Ge
     show yi (Ÿ) Ÿ
    ext Ą
    exact Ĭ;exact Ã (pL G (È Fh) ⋯ (by rw[Dc]) Ķ);have EN:∀ z∈ Ó Fe,∀ x∈R,lb x z=Ø:=λ z hz x hx=>by
     have q:Æ6:=Ř;rw[ty] at hz;rcases AG.mp hz with hz | hz
     .show G.tr (Ê9 z hz y Al) q
     .rw[Au] at hz;subst hz;show q
    have EC:∀ x∈L,Ę:=λ x hx=>Ž
    have lL:Ë+R.length=Fh:=by
     ext Ç3
    have eL:È Ë=L:=by
     have:=Ã4 (List.take Ë) FA;ext Â3
    have eR:(ķ Ë Fh).toList=R:=by
     rw[show Fh=Ë+(Fh-Ë) by lia,oE];have:=Ã4 (List.drop Ë) FA;ext É2
    have m1:Mh Á (out++(ķ Ë Fh).reverse).toList.reverse (È Ë) (Ó Fe):=by
     rw[BL,CP,DL,List.reverse_reverse,eR,eL];rw[FA] at g3;show g3.rJ EN
    ext đ
    extract_lets -û +ì y1 y1b
    dsimp -zeta -Ŭ only [y1,y1b]
    extract_lets -û +ì Gb
    exact lK Gb (λ Fu out=>Mh Á (Á3).reverse (È Fu) (Ó Fe)/\È Fu=L/\1<=Fu/\Fu<=Fh) (λ Fu out #[m2,e2,l2,rN]=>?IQ) λ AV=>?Hl
    case Hl=>
     clear_value Gb
     ext ź;exact yi (λ G2=>yi (λ he=>?_) λ he=>?_) λ G2=>?_
     .show Å #[FX,ğ #[_,rfl,Fs m1 (ğ (ő))]]
     .have he:Ë ≠0:=ő
      show AV Ā #[m1,eL,⋯,⋯]
     .have h0:Ë=Fh:=⋯;show AV Ā #[g3,by rw[<- h0];show eL,g4,⋯]
    .dsimp -zeta -Ŭ only [Gb]
     ext Ê
     ext Â;exact Ĭ
     ext Ê
     ext Â;have m3:Mh Á (ś y).toList.reverse (È Fu) (Ó (Fe-1)):=by
      rw[B0,CP];rw[ty] at m2;exact m2.rH Ĉ;ext Ē;rw[e2] at hp;show EC p hp
     exact ă
     .have Fn:Fe-1=1:=č
      show Å #[FX,ğ #[_,rfl,FY m3 Fn]]
     have Fn:Fe-1≠1:=č
     let#[x,ex,mx]:=tU (a:=a) (i:=Fu-1) ⋯;have tx:=Æ8 ex;rw[show Fu-1+1=Fu by lia] at tx;have HR:Up lb (È Fu):=(Ô m2.2.1).1;rw[tx] at HR;ext Ħ;exact Ã (pL G (Ó (Fe-1)) ⋯ (by rw[Dc]) À9 (Ô m3.2.2).1 λ L' R' FV Hn HD=>?_);have D0:∀ q∈ È Fu,∀ z∈R',lb z q=Ø:=λ q hq z hz=>by
      have c:lb z x=Ø:=by have:=HD z hz;ext ä
      rw[tx] at hq;ext ŋ
      .show G.tr ((Ô HR).2.2 q hq x Al) c
      .ext Ē;show c
     have EB:∀ z∈L',lb x z=Ø:=λ z hz=>G.as (by have:=Hn z hz;ext ä);have lL':ê+R'.length=Fe-1:=by
      ext È1
     have eL':Ó ê=L':=by
      have:=Ã4 (List.take ê) FV;ext Â3
     have HF:(À7 ê (Fe-1)).toList=R':=by
      rw[show Fe-1=ê+(Fe-1-ê) by lia,oE];have:=Ã4 (List.drop ê) FV;ext É2
     have m4:Mh Á (ś y++(À7 ê (Fe-1)).reverse).toList.reverse (È Fu) (Ó ê):=by
      rw[BL,CP,DL,List.reverse_reverse,HF,eL'];rw[FV] at m3;show m3.rH D0
     ext đ
     extract_lets -û +ì y2 y2b
     dsimp -zeta -Ŭ only [y2,y2b]
     extract_lets -û +ì He
     exact lK He (λ Gw out=>Mh Á (Á3).reverse (È Fu) (Ó Gw)/\Ó Gw=L'/\2<=Gw/\Gw+1<=Fe) (λ Gw out #[m5,e5,l5,le5]=>?hv3) λ AV=>?hb3
     case hb3=>
      clear_value He
      ext ź;exact yi (λ hk1=>Á4) λ hk1=>?_
      .show Å #[FX,ğ #[_,rfl,FY m4 (ő)]]
      .show Å #[FX,ğ #[_,rfl,Fs m4 (Š (by exists hf))]]
      .have he:ê ≠1:=ő
       have hf:ê ≠0:=by exists hf
       show AV Ā #[m4,eL',⋯,⋯]
      .have h0:ê=Fe-1:=⋯;show AV Ā #[m3,by rw[<- h0];show eL',⋯,⋯]
     .dsimp only[He];ext Ħ;have m6:Mh Á (ś x).toList.reverse (È (Fu-1)) (Ó Gw):=by
       rw[B0,CP];rw[tx] at m5;exact m5.rJ Ĉ;ext Ē;rw[e5] at hp;show EB p hp
      exact yi (λ hz=>Å #[FX,ğ #[_,rfl,Fs m6 (ğ (Ġ))]]) λ hz=>?_;have hz:Fu-1≠0:=Ġ
      show yi (λ _=>Å #[FX,Š #[rfl,#[m6,À,À,l5,À],À]])
       λ _=>Å #[FX,rfl,#[m6,À,À,l5,À],À]
end
theorem bO (o:Nat):∀ (l:Ľ) (k:Nat) (arr:É),o+k+l.length<=arr.size->
  ((l.zipIdx k).foldl (λ a x=>a.setIfInBounds (o+x.2) x.1) arr).toList=arr.toList.take (o+k)++l++Ê6 (o+k+l.length)
 | [],k,arr,h=>#[]
 | p::l,k,arr,h=>by
  simp![AX] at h;rw[C9,C8,bO o l (k+1) _ (by rw[Array.size_setIfInBounds];lia)];rw[Array.toList_setIfInBounds];have hl:o+k<arr.toList.length:=by rw[A3];lia
  have e1:(arr.toList.set (o+k) p).take (o+(k+1))=arr.toList.take (o+k)++[p]:=by
   rw[show o+(k+1)=o+k+1 by lia,List.take_add_one,List.take_set_of_le (Ao _)];simp![A3] at hl;simp[hl]
  have e2:(arr.toList.set (o+k) p).drop (o+(k+1)+l.length)=Ê6 (o+k+(l.length+1)):=by
   rw[List.drop_set_of_lt ⋯];congr 1;lia
  rw[e1,e2,AX];simp
section
variable {Æ}
def WE {σ:Type}{M:Model}{st E7:σ}{Q:PUnit->σ->Prop}(h:Q ⟨⟩ E7):wpS Ë3 (set E7:Ê2 σ Sem PUnit) Q st:=by
 unfold wpS;rw[StateT.run_set];show Ad #[rfl,h]
def WI è Ź È3{Q:Bool->À6}{P X Y S:Ľ}{pa pb:Nat}(hX:X≠[]) (hY:Y≠[])
  (e1:(Â5)[i]?=↑(Ă,ł,pa)) (e2:(Â5)[i+1]?=↑(Õ,Y.length,pb)) (ha:(ñ).toList=P++(X++(Y++S)))
  (hD:∀ x∈(ñ).toList,D x) Ě (hf:ŷ=none) (uX:Up lb X) (uY:Up lb Y)
  (h:∀ M GR g,M.Perm (X++Y)->Up lb M->Array.toList GR=P++(M++S)->
   Q true (SortSt.mk' (Æ3) GR (((Â5).setIfInBounds i (Ă,ł+Y.length,pa)).eraseIdxIfInBounds (i+1)) g (ŷ))):
  wpS á (mergeAt' i) Q st:=by
 obtain⟨y0,Y',rfl⟩:∃ y Y',Y=y::Y':=by cases Y with | nil=>show absurd rfl hY | cons y Y'=>show#[y,Y',rfl]
 have hsz:(ñ).size=Õ+š+S.length:=by
  rw[<- A3,ha];simp;lia
 have inX:∀ x∈X,D x:=λ x hx=>hD x (by rw[ha];simp[hx]);have inY:∀ x∈y0::Y',D x:=λ x hx=>hD x (by rw[ha];show AY _ (AY _ (Bm _ hx)));have eX:(É0 Ă).take ł=X:=by rw[ha,BK,BZ]
 have eY:(É0 (Õ)).take š=y0::Y':=by
  rw[ha,<- C_,BK,BK,BZ]
 have ey:(ñ)[Õ]?=↑y0:=by
  rw[<- Bf,ha,Bx ⋯,Bx ⋯];simp
 have key:∀ {g:Nat},Up lb (X++y0::Y')->Q true (SortSt.mk' (Æ3) (ñ) ö):=
  λ u=>h Ā _ (List.Perm.refl _) u (by rw[ha];simp)
 unfold mergeAt';exact Ê8;rw[e1,e2];ext ź;exact Ã (WE (Ĭ));have lX:0<ł:=CV.mpr hX;exact Ã (pL G X (by change Õ<=(ñ).size;lia) eX inX (inY y0 Al) hk lX uX λ L R FA hL hR=>?_);ext ź;have Hn:∀ x∈L,∀ y∈y0::Y',Ę:=λ x hx y hy=>by
  have q:lb y0 x=Ø:=Ž
  rcases Ak.mp hy with rfl | hy
  .show q
  .show G.tr q ((Br.mp uY).1 y hy)
 have HD:∀ x∈R,lb x y0=Ø:=λ x hx=>Ř;have lLR:Ë+R.length=ł:=by rw[FA];simp
 exact Á8
 .have hz:ł-Ë=0:=Ġ
  have:R=[]:=DJ.mp ⋯;subst this;rw[BQ] at FA;exact Ã6;rw[FA];show Hn
 have hz:ł-Ë ≠0:=Ġ
 obtain⟨R0,x1,rfl⟩:∃ R0 x1,R=ĭ:=#[R.dropLast,R.getLast (λ e=>by subst e;simp at lLR;lia),(zcQ _).symm];have ex:(ñ)[Ă+Ë+(ł-Ë)-1]?=↑x1:=by
  rw[<- Bf,ha,FA];have e:Ă+Ë+((L++(ĭ)).length-Ë)-1=Ă+(Ë+R0.length):=by simp;lia
  rw[e,Bx ⋯,DP,AW,Bx ⋯,DP,AW,Bx ⋯];simp
 have mx1:x1∈X:=by rw[FA];simp
 ext Ħ;exact Ã (pL G (y0::Y') (by change Õ+š<=(ñ).size;lia) eY inY (inX x1 mx1) hk #[] uY λ L2 R2 Fv hL2 hR2=>?_);ext ź;have leX:∀ x∈X,lb x1 x=Ø:=λ x hx=>by
  rw[FA] at hx uX;rw[<- AW] at hx uX;ext Ã5
  .show (Ô uX).2.2 x hx x1 Al
  .rw[Au] at hx;subst hx;show G.refl _
 have I_:∀ x∈X,∀ y∈R2,Ę:=λ x hx y hy=>by
  have q:lb y x1=Ø:=by have:=hR2 y hy;ext ä
  show G.tr (leX x hx) q
 exact yi (λ hw=>?_) λ hw=>?_
 .have hw:L2.length=0:=by exists hw
  have:L2=[]:=DJ.mp hw;subst this;rw[List.nil_append] at Fv;exact Ã6;rw[Fv];show I_
 have hw:L2.length≠0:=by exists hw
 have lLR2:L2.length+R2.length=š:=by rw[Fv];simp
 have ax:(Ų).toList=ĭ:=by
  rw[show Õ=Ă+Ë+(ł-Ë) by lia,oE,<- C_,ha,BK];rw[FA,AW,BK];have e:(L++(ĭ)).length-Ë=(ĭ).length:=#[];rw[e,BZ]
 have ay:((ñ).extract (Õ) (Õ+L2.length)).toList=L2:=by
  rw[oE,<- C_,ha,BK,BK,Fv,AW,BZ]
 obtain⟨GD,rfl⟩:∃ GD,L2=y0::GD:=by
  cases L2 with
  | nil=>show absurd rfl hw
  | cons q GD=>injection Fv with h1 h2;subst h1;show#[_,rfl]
 have uR:Up lb (ĭ):=by rw[FA] at uX;show (Ô uX).2.1
 have uL2:Up lb (y0::GD):=by rw[Fv] at uY;show (Ô uY).1
 have hyx:∀ y∈y0::GD,lb x1 y=Ø:=λ y hy=>G.as (by have:=hL2 y hy;ext ä);have ends:∀ (out:É) (g:Nat),Res lb (ĭ) (y0::GD) Ĕ->
   Q true (SortSt.mk' (Æ3) (List.foldl (λ a x=>a.setIfInBounds (Ă+Ë+x.snd) x.fst) (ñ) out.toList.zipIdx) ö):=λ out g hr=>by
  have lo:Ç8=R0.length+1+(GD.length+1):=by rw[hr.1.length_eq];simp;lia
  have memo:∀ z∈ Ĕ,z∈ ĭ\/z∈y0::GD:=λ z hz=>AG.mp (hr.1.mem_iff.mp hz);exact h (L++(Ĕ++R2)) Ā ?_ ?_ ?_
  .rw[Fv]
   conv=>rhs;rw[FA]
   rw[AW];exact Ň _ ?_;rw[<- AW];show ľ _ hr.1
  .exact Up.app.mpr #[by rw[FA] at uX;show (Ô uX).1,Up.app.mpr #[hr.2,by rw[Fv] at uY;show (Ô uY).2.1,þ],þ]
   .rcases memo x hx with hx | hx
    .show I_ x (by rw[FA];show AY _ hx) y hy
    .rw[Fv] at uY;show (Ô uY).2.2 Ņ
   .ext Ä4
    .rcases memo y hy with hy | hy
     .rw[FA] at uX;show (Ô uX).2.2 Ņ
     .show Hn x hx y (by rw[Fv];show Bm _ hy)
    .show Hn x hx y (by rw[Fv];show AY _ hy)
  .simp![A6,AX,DI] at lLR lLR2;have e:=bO (Ă+Ë) Ĕ 0 (ñ) (by rw[hsz];simp![AX];lia);rw[Nat.add_zero] at e;rw[e];have e3:(ñ).toList=Ã7++R2++S:=by rw[ha,Fv,FA];simp
   have e4:(ñ).toList.take (Ă+Ë)=P++L:=by
    rw[e3];simp![AW];rw[<- AW P L,show Ă+Ë=(P++L).length by simp,BZ]
   have e5:É0 (Ă+Ë+Ç8)=R2++S:=by
    rw[e3,AW (Ã7)];rw[show Ă+Ë+Ç8=(Ã7).length by simp[lo];lia,BK]
   rw[e4,e5];simp
 have n1:0<(Ų).size:=by rw[<- A3,ax];simp
 have n2:0<((ñ).extract (Õ) (Õ+(y0::GD).length)).size:=by rw[<- A3,ay];simp
 have lx1:(ĭ).drop ((Ų).size-1)=[x1]:=by
  rw[<- A3,ax];simp
 exact yi (λ hb=>?_) λ hb=>?_
 .exact Ã (WJ Ã0)
  .rw[ax] at hx;rw[<- Bf,ay] at hy;have:y0=y:=Ã3
   subst this;show HD x hx
  .rw[ax,lx1,Au] at hx;subst hx;rw[ay] at hy;show hyx y hy
  .ext ã
   rw[e];show ends out g hr
 .exact Ã (WL Ã0)
  .rw[ax] at hx;rw[ay] at hy;have:y=y0:=Ã3
   subst this;show HD x hx
  .have e:x1=x:=by
    rw[<- Bf,<- A3,ax] at hx;exists hx
   subst e;rw[ay] at hy;show hyx y hy
  .ext ã
   rw[e];show ends out g hr
)
example:=`(
example À:=(flat rp).length
example Á:=arrOf
example Â _:=x ‹_› hA
example Đ:=by dsimp only
example Ã:=by ext Đ;lia
example Ä(I:Inv X E6 σ H s):=0
example Å:=(Á st).size
example Æ _:=x (model prog w) A
example õ:=zj S ts ds
example æ _:=x X.K H
example Ħ(p:zN æ S):=0
example À4:=zk æ ds xs
example í{ds:List D}:=0
example Ĉ:=List T
example Ä2{ts:Ĉ}:=0
example ľ{xs:List V}:=0
example Ç Ħ Ä2 í ľ{Aa:Ah}(h1:õ) (h2:À4) (h3:Vals xs Aa):=0
example È:=wpS_bind
example É(G:Asks prog w A E s κ D lb):=0
example ē:=List Key
example ó:=Value
example Á8:=List (ē ×Addr× ó)
example ŵ:=List (ē ×V)
example Ê{Ab:ŵ}{xs:Á8}(r:KT H Ab xs):=0
example Ë{k:Nat}(hr:yh k X.A) (ha:PD X a ta) (hb:PD X b tb):=0
example Ĝ:=List (κ × V)
example Ì{Ab:Ĝ}{vs:List (κ × ó)}(r:KV Ab vs):=0
example Í:=(Á st).toList
example Î:=by let#[_,_,q,g]:=h2.rX p r2;cases q
example Ĥ:=vs.toArray
example Ï:=vs.toArray.zip Ĥ
example Ð:=List Int
example Ñ:=pendingOf
example Š _:=x _ _
example Ò _:=x Š _
example Ó _:=x ⋯ ⋯
example à:=Keyed
example ň:=List à
example Ô:=List (ň ×Nat)
example Õ:=false
example Ö:=wpS_pure
example Ŏ:=Shared
example Ø{prog:Program}{w:World}{A:Around}{E:Af}{s:Ŏ}:=0
example Ä0:=(by change X.A.units+1+_<_;lia)
example Ù _:=x (λ y hy=>X9 I a3 a6 g2 w1 a4 a1 rx (A:=X.A.in1) Ä0 Ä0 (by exists hy)) #[.bl _,H,I,rfl,?_]
example Ú(he:AJ X e es) (Ap:AO X pos es):=0
example Û:=(Á st)
example Ü:=if_neg
example Ý:=(seqObj "list" Ĥ 0)
example Þ:=if_pos
example ń{H:Hp}:=0
example ß{E6:Aj}{σ:St}ń{s:Ŏ}:=0
example á:=by let#[_,_,_,_,_,q,_]:=h2.sV r2;cases q
example ò:=[].toArray
example Á4:=s.heap.update a (Obj.mapSeq λ _=>ò)
example â:=(((Á4).push (seqObj "tuple" Ĥ 0)).push (seqObj "list" ò 0)).get?
example Æ2:=(lo+i)
example ġ:=Á E7
example ã:=lb (el (ġ) (lo+k)) (el (ġ) Æ2)
example ŗ:=(Á Fp)
example ä:=(mirror ŗ lo (lo+m) ((lo+m-lo)/2))
example å:=λ kv=>decide (kv.1=k)
example ç:=by simp![dep] at hn hu Hz;let#[e1,e2,q]:=el hn hu Hz g1 g2 r1 r2 v1 v2;exact en (λ z=>by cases hq z;rfl) ?_;rw[fX,<- e1,<- e2]
example è:=vs.length
example é _:=x e (λ z=>nomatch z) fin
example ê:=HT.lexLt
example ë(he:PD X e te) (hg:Gl X "isinstance"):=0
example ì:=sizeLine
example î:=ts.length
example ï:=nomatch h2.flat r2
example ð:=by let#[_,_,_,q,_]:=h2.tG p r2;cases q
example ñ:=List (Ð)
example À2:=s.heap.get?
example ô:=À2 b=↑o
example À7 _:=x κ lb a₀
example ö(I:SI À7 st rp E8):=0
example ø(hk:kindOf Fo=κ) (hD:∀ x∈(Á Fo).toList,D x):=0
example ù:=by let#[_,_,_,q,_]:=h2.tp r2;cases q
example ú:=by intro E6 s σ H x y v u Q I rx ry h;let#[S,d,e,t,u',a1,a2,a3,a4,a5,a6,a7,q]:=h
example û:=c.1=none
example ü(ha:y_ X (e::es) tA):=0
example ý:=List (Key×V)
example þ:=by have e:=hZ G (lo:=lo) (p:=Á E_) (i:=m-(q+1)) (j:=m) Ó p6;rw[show lo+(m-(q+1))=lo+m-(q+1) by lia] at e
example ÿ _:=x Š Â
example Ā:=by dsimp only at q1;subst q1
example Â9:=tupleKind (wQ P w)
example ŋ:=Ab.length
example Ã0:=(a == sysModules)=Õ
example ā:=ŋ<=ì/\Ã0/\ ∃ xs,KT H Ab xs/\h.DictOfH (Â9) a xs
example Ă:=onlyGivenNames
example ă:=X.length
example Ą:=by dsimp -zeta -zetaHave +zetaDelta only
example ą:=by rw[e] at e';cases e';rw[c] at c'
example Ć:=(Ñ FG).size
example ć:=.ref
example ĉ:=Array à
example Ċ:=PySem.W.kia_one
example ċ:=.Name
example Č:=by let#[_,_,#[o,e,c,_],_]:=I.tuple h1
example Ŵ:=(tW Aa ts u)
example č:=by rw[show Aa.toArray.any Ŵ=Aa.any Ŵ by simp,X8 I a3 a6 g2 w1];show q
example Ď _:=x X.prog X.w
example ď:=SortSt
example đ:=Bs lo Fo st
example Ē:=underBinder
example Ĕ:=ŋ<=ì/\Ã0/\∃ vs,KV Ab vs/\h.DictOf (wQ P w) a vs
example ĕ:=(Á Fo).size
example Ė:=wpS_forRange
example ė:=(bubble ŗ (lo+k) (lo+k-(lo+l)))
example Ę:=s.heap.objs.size
example ę:=o.data=.seq Aa n/\IntsAre Aa.toList r
example Ě:=h1.length.trans (r1.length.trans (r2.length.symm.trans h2.length.symm))
example ě:=Option
example ĝ:=(·.2)
example Ğ:=ts.any λ t=>eqT t u
example ğ _:=x κ lb Í E7 rp
example Ġ:=by exact È (wpS_get ?_)
example Ģ:=(flat P).length
example ģ(ok:yL P w H h):=0
example ĥ:=zg æ d x
example ħ:=gV (seqEpoch_at g6 rfl (gV (listUpdate_at g6 rfl ?_ (Be _) ?_)))
example Ĩ ľ{us:Ah}{l:Addr}(g:õ) (r:zk K H ds xs) (v:Vals xs us):=0
example ĩ:=by simp![zg] at r
example Ī:=à->à->Bool
example ī:=.cons
example Ĭ:=A.units
example ĭ:=by rw[h1.length,h2.length,h3.length]
example Į:=(show False from r).elim
example į{P:Program}{w:World}:=0
example İ:=rp.length
example ı:=True.intro
example Ĳ _:=x (e::es) [] pos
example ĳ _:=x ha.pa () () he Ap
example Ĵ{a:Addr}:=0
example ĵ{vs:Ah}{rows:ñ}:=0
example Ķ(e2:L2.zT ds i=↑d) (h:Q d S):=0
example ķ:=(Á E_)
example ĸ(ry:RelV y u):=0
example Ĺ:=failedOf
example ĺ:=G.refl _
example Ļ:=∃ X Fi,SI κ lb Í Fp rp (X++Fi)/\ă=m/\Up lb X/\X≠[]
example ļ:=(.dK Ab)
example Ľ{d:D}{x:V}:=0
example Ŀ:=(Ñ st).modify ((Ñ st).size-1) λ x=>(x.1,x.2.1,pw)
example ŀ:=((ġ).toList.drop À).take n
example Ł:=kat_nil (by simpa [ê] using h)
example ł:=(ts.getD j .zp)
example Ń:=H a=↑(.dK vs)
example Ņ:=(ċ "isinstance" p)
example ņ:=λ z=>e (h1.trans z)
example Ň:=by have q:=h1.flat r1;subst q
example ŉ:=Ę<=h1.objs.size->Q' vs { s with heap:=h1,toks:=tk }
example Ŋ:=us.length
example Ō{i j:Nat}:=0
example ō:=r.1.length
example ŏ:=of_decide_eq_false
example Ő:=cLine
example ő _:=x Æ E s
example Œ{S:SS}:=0
example œ:=(el (mirror p Æ2 (lo+j) ((lo+j-Æ2)/2)) k)
example Ŕ:=by let#[a',Fg,GW,q,k1,k2,k3]:=h2.tG p r2;cases q
example ŕ:=Ö #[rfl,GU,I4,ne4]
example Ã9:=SortSt.mk'
example Ŗ:=(Á (Ã9 general' (Ï) ò 7 none)).map ĝ
example À5:=putK Ab k v
example Ř:=by have hl:(À5).length<=ì:=by have:=Zf Ab k v;lia
example ř:=(mirror Û i j ((j-i)/2))
example Ś:=by let#[a',Fg,GW,q,k1,k2,k3]:=h2.tp r2;cases q
example ś:=.int
example Ŝ:=by simp![zg]
example ŝ:=by simp[eqT]
example Ş:=h1.symm.trans
example Ÿ:=.tup
example ş:=H b=↑(Ÿ (k.map kV))
example š(K:Ac) (H:Hp):=0
example Ţ _:=x vC.fits vC.mo ha hb (uG _)
example ţ:=wpS_mono
example Ť:=by have q:=h.flat r;subst q
example ť:=by let#[_,_,_,_,_,q,g,_]:=h2.sV r2;cases q
example Ŧ:=ê b a=Õ
example ŧ:=(show ty=_ from hx)
example Ũ{a C:Addr}{dx:ě Addr}:=0
example ũ(h2:H a=↑(s_ a C dx)):=0
example Ū:=(Ab.map λ kv=>if kv.1=k then (kv.1,y) else kv)
example ū _:=x hk hD Ó ?_
example Ŭ(t u:T) {A:Around}{d e:D}{x y:V}{a b:ó}:=0
example ŭ:=by simp;lia
example Ů:=PyProof.Rows
example ů:=List (V× Ð)
example Ű:=by have:=h i (j-1) Ó;rw[show lo+(j-1)=lo+j-1 by lia] at this
example ű:=by let#[o',_,e',c',_]:=kP I h2;ext ą;cases c'
example Ų:=.tuple_list ‹_› Â
example ų:=di I a3 t u' (A:=X.A) Ó a4 a5 a1 a2 rx ry
example Ŷ:=by let#[_,_,#[o,n,e,c,_],_]:=I.list h1
example ŷ:=by .rw[<- Bf,ep,Bx (by rw[rn];lia),rn];simp
example Ź _:=x GO () () he hg h1 h2 h3
example ź:=by rcases AG.mp hr with hr | hr
example Ż:=by by_cases e:p.1=k
example Æ6:=List.length
example ż:=by have:=congrArg Æ6 I.arr;rw[A6,A3] at this
example Ž:=.list_tuple ‹_› Â
example ž:=dh I p h1 h2 h3 u (j:=j) (by simp[hj])
example ſ:=ď->Prop
example À0:=(el ķ (lo+m))
example À1:=List (Nat×Nat×Nat)
example À3:=by cases h
example À6 _:=x ?step ?fin
example À8:=by have q:=h2.flat r2;cases q;rfl
example À9:=(.bl (cond neg (!eqT t u) (eqT t u)))
example Á0(e:S p=↑(.lst ds)):=0
example Á1{i:Int}{d:D}{Q:DK}:=0
example Á2(hu:X.A.units+64<Ő):=0
example Á3:=Array.perm_iff_toList_perm.mp B.perm
example Á5:=(mirror Û lo (lo+n) ((lo+n-lo)/2))
example Á6:=(bubble Û i (i-j))
example Á7:=λ x hx=>hD x (I.perm.mem_iff.mp hx)
example Á9:=by simp![bne_self_eq_false,A9,if_false]
example Â0:=by ext ĩ;let#[a,xs,rfl,g1,_]:=r;cases h
example Â1 _:=x (tupleKind_room_in1 hu) (kK I.zx eb) dd
example Â2:=lb (el p (lo+b)) (el p (lo+a))=Õ
example Â3:=Ö (h n st g1 g2 (Bs.refl Š) g3)
example Â4:=min (Å-À) _
example Â5:=(call (.builtin "sorted") [ć a])
example Â6:=ps.map (·.1)
example Â7:=(uJ ty T)
example Â8:=H e=↑(s_ e C dx)
example Ã1{κ:SortKind}{D:à->Prop}{lb:Ī}:=0
example Ã2:=by rename_i e;cases h;let#[xs,g1,_]:=p Š e
example Ã3 _:=x (.type ty) (.type T)
example Ã4:=by ext Đ;rw[e];show h
example Ã5:=û/\∃ rp,SI ğ (X++Fi)/\rp≠[]
example Ã6:=by rintro⟨r,u⟩ E7 ⟨q1,q2,q3⟩
example Ã7 _:=x Ď X.xe _ #[.bl _,H,I,rfl,q]
example Ã8 _:=x (aw hr.units) uM.fits uM.mo ha hb hm
example Ä1{arr:ĉ}{i:Nat}(h:i<arr.size):=0
example Ä3:=by ext ĩ;let#[a,xs,rfl,g1,g2]:=r
example Ä4:=(λ FK=>by cases FK)
example Ä5:=by subst this;rw[i8 I p ts us g3 k3 g2 k2]
example Ä6:=ċ "tuple" q
example Ä7:=by simp[x9]
example Ä8{y:V}{u:ó}:=0
example Ä9:=.bool_tuple _ Â
example Å0:=(.bl (cond neg (!(Ğ)) (Ğ)))
example Å1{α β:Type}{F:α->β->Prop}:=0
example Å2 _:=x vY.mo (vY.fits λ _ _ _=>Ŝ) ha.mo
example Å3 _:=x A s (ć l) (ć l')
example Å4:=Nat->Nat->StateT ď Sem Unit
example Å5:=decide (ns.length<ms.length)
example Å6:=by have e:j=k:=⋯;subst e;by_cases hi:i=j
example Å7:=.tuple_bool _ Â
example Å8:=Sn S t d
example Å9{h:Heap}:=0
example Æ0:=by simp![Sn] at h
example Æ1:=kindOf st
example Æ3:=È (pK G (Bs.refl lo _) ū)
example Æ4:=absurd
example Æ5:=I.runs
example Æ7:=s.heap
example Æ8:=get?_update_seq
example Æ9:=(qs.map ĝ)
example Ç0:=H a=↑ ļ
example Ç1:=ċ "bool" q
example Ç2:=is.toArray.size
example Ç3:=Hy.toArray.size
example Ç4:=.bool_list _ Â
example Ç5:=(Ab.any å)
example Ç6:=valueAt
example Ç7(lb:Ī) (arr:ĉ) (lo k:Nat):=0
example Ç8 _:=x lb p lo
example Ç9:=by subst this;show ĺ
example È0:=.list_bool _ Â
example È1(rows:ñ):=0
example È2(h1:yg æ a xs):=0
example È3:=by let#[o',e',c']:=Z9 I h2;ext ą
example È4(hm:behindInMarks .In b=Õ):=0
end
abbrev OT:Nat->Nat->StateT ď Sem (ě Bool):=sortPriv% PySem.Builtin.ltAt
abbrev Ug:Å4:=sortPriv% PySem.Builtin.reverseSlice
abbrev O8:Å4:=sortPriv% PySem.Builtin.moveDown
def el (arr:ĉ) (i:Nat):à:=(arr[i]?).getD (Value.none,Value.none)
def m9 {p q:ĉ}Ō(h:p[i]?=q[j]?):el p i=el q j:=by unfold el;rw[h]
def Ys Ä1:arr[i]?=↑(el arr i):=by unfold el;simp[h]
def LB Ä1:el arr i∈arr.toList:=by unfold el;simp[h]
structure Bs (lo:Nat) (Fo st:ď):Prop where
 kind:Æ1=kindOf Fo
 pend:Ñ st=Ñ Fo
 fail:Ĺ st=Ĺ Fo
 perm:(Á st).Perm (Á Fo)
 pre:∀ i,i<lo->Û[i]?=(Á Fo)[i]?
section
variable {lo:Nat}{Fo st:ď}{lb:Ī}
theorem Bs.refl (lo:Nat) (st:ď):Bs lo st st:=#[rfl,rfl,rfl,Array.Perm.refl _,λ _ _=>rfl]
theorem Bs.size (B:đ):Å=ĕ:=B.perm.size_eq
def Bs.rev (B:đ) Ō(hi:lo<=i) (hj:j<=ĕ):Bs lo Fo (setArr st ř):=
 #[B.kind,B.pend,B.fail,(mirror_perm Ò _).trans B.perm,λ k hk=>by
  change ř[k]?=_;rw[getElem?_mirror_all (by rw[B.size];show hj),Ü ⋯];show B.pre k hk]
def ni {arr:ĉ}Ō(hj:j<=arr.size) (k:Nat):el (mirror arr i j ((j-i)/2)) k=if i<=k/\k<j then el arr (i+j-1-k) else el arr k:=by
 have e:=getElem?_mirror_all (xs:=arr) (i:=i) (j:=j) hj k;split
 .rename_i h;rw[Þ h] at e;show m9 e
 .rename_i h;rw[Ü h] at e;show m9 e
def w_ Ç7:Prop:=∀ i j,i<=j->j<k->lb (el arr (lo+j)) (el arr Æ2)=Õ
def uB Ç7:Prop:=∀ i j,i<=j->j<k->lb (el arr Æ2) (el arr (lo+j))=Õ
end
section
variable {Ø}{Ã1}{lo:Nat}{Fo st:ď}
def w_.next É {p:ĉ}{k:Nat}(h:w_ Ç8 k) (hk:1<=k) (hl:lb (el p (lo+k)) (el p (lo+k-1))=Õ):w_ Ç8 (k+1):=λ i j Ba hj=>by
 by_cases ET:j<k
 .show h i j Ba ET
 .ext Å6
  .subst hi;show ĺ
  .ext Ű;show G.tr this hl
def uB.next É {p:ĉ}{k:Nat}(h:uB Ç8 k) (hk:1<=k) (hl:lb (el p (lo+k-1)) (el p (lo+k))=Õ):uB Ç8 (k+1):=λ i j Ba hj=>by
 by_cases ET:j<k
 .show h i j Ba ET
 .ext Å6
  .subst hi;show ĺ
  .ext Ű;show G.tr hl this
def cn (lb:Ī) (p:ĉ) (lo m q:Nat):Prop:=∀ a b,m-(q+1)<=a->a<m->m-(q+1)<=b->b<m->Â2
def hZ É {p:ĉ}Ō(hj:lo+j<=p.size) (Ba:i<=j) (he:∀ a b,i<=a->a<j->i<=b->b<j->Â2) (k:Nat):
  lb (el p k) œ=Õ/\lb œ (el p k)=Õ:=by
 rw[ni hj];split
 .rename_i h;have e1:k=lo+(k-lo):=⋯;have e2:lo+i+(lo+j)-1-k=lo+(i+j-1-(k-lo)):=⋯;rw[e2];constructor
  .have:=he (i+j-1-(k-lo)) (k-lo) Ó Ó
   rwa [<- e1] at this
  .have:=he (k-lo) (i+j-1-(k-lo)) Ó Ó
   rwa [<- e1] at this
 .show#[ĺ,ĺ]
def uB.of_eq É {p q:ĉ}{k:Nat}(h:uB Ç8 k) (e:∀ k,lb (el p k) (el q k)=Õ/\lb (el q k) (el p k)=Õ):uB lb q lo k:=λ i j Ba hj=>
 G.tr (e _).1 (G.tr (h i j Ba hj) (e _).2)
def pK É Ō{Q:ě Bool->ſ}(B:đ) ø (hi:i<ĕ) (hj:j<ĕ)
  (h:Q ↑(lb (el Û i) (el Û j)) st):wpS ő (OT i j) Q st:=by
 change wpS ő (ltAt' i j) Q st;rw[ltAt'_eq];ext Ġ;have mem:∀ {i},i<ĕ->D (el Û i):=λ q=>hD _ ((Á3).mem_iff.mp (LB (by rw[B.size];show q)));change wpS Ò _ (do let x <- elem' Û i;let y <- elem' Û j;lt' x y) Q st;rw[elem'_eq,elem'_eq,Ys (show i<Å by rw[B.size];show hi),Ys (show j<Å by rw[B.size];show hj)];show È (Ö (È (Ö (G.ask (mem hi) (mem hj) (B.kind.trans hk) h))))
def lI Ō{Q:Unit->ſ}(h:Q Unit.unit (setArr st ř)):wpS ő (Ug i j) Q st:=by
 change wpS ő (reverseSlice' i j) Q st;rw[reverseSlice'_eq];show wpS_modify h
def WN É {nrem:Nat}{Q:ě Nat->ſ}ø (h1:1<=nrem) (hn:lo+nrem<=ĕ)
  (h:∀ n st,1<=n->n<=nrem->đ->w_ lb Û lo n->Q ↑n st):wpS ő (countRun' lo nrem) Q Fo:=by
 have one:∀ p:ĉ,w_ Ç8 1/\uB Ç8 1:=λ p=>#[λ i j Ba hj=>by
   have:i=j:=⋯;ext Ç9,λ i j Ba hj=>by
   have:i=j:=⋯;ext Ç9]
 unfold countRun';exact È (ţ (Ė (I:=λ k c st=>st=Fo/\û/\c.2=k/\w_ lb (Á Fo) lo k)
  (Q:=λ c st=>st=Fo/\û/\1<=c.2/\c.2<=nrem/\w_ lb (Á Fo) lo c.2/\(c.2=nrem\/lb (el (Á Fo) (lo+c.2)) (el (Á Fo) (lo+c.2-1))=true)) À6 #[rfl,rfl,rfl,(one _).1]) ?post)
 case step=>
  rintro k ⟨r,n⟩ st ha hb ⟨q1,q2,q3,hs⟩;dsimp only at q2 q3;subst q1 q2 q3
  try ext Đ
  exact Æ3;cases c:lb (el Û (lo+n)) (el Û (lo+n-1)) with
  | true=>show Ö #[rfl,rfl,ha,Ã,hs,.inr c]
  | Õ=>show Ö #[rfl,rfl,rfl,hs.next G ha c]
 case fin=>
  rintro⟨r,n⟩ st ⟨rfl,hr,GV,hs⟩;dsimp only at hr GV hs;subst GV;show#[rfl,hr,Ã,Ã,hs,.inl (Ã)]
 case post=>
 rintro⟨r,n⟩ st ⟨q1,hr,g1,g2,g3,g4⟩;dsimp only at hr g1 g2 g3 g4;subst q1 hr
 extract_lets -Ē +Ă w1 w2
 ext Ą;exact yi (λ hz=>Â3) λ hz=>?_;have hz:n≠nrem:=by exists hz
 have g4:=g4.resolve_left hz
 extract_lets -Ē +Ă Ge
 exact il Ge (λ E7=>Bs lo st E7/\uB lb (ġ) lo n/\lb (el (ġ) (lo+n)) (el (ġ) (lo+n-1))=true) (λ E7 hs=>?G7) λ AV=>?Hm
 case Hm=>
  clear_value Ge
  exact yi (λ hn1=>?_) λ hn1=>?_
  .exact Æ3;cases c:lb (el Û lo) (el Û (lo+n-1)) with
   | true=>show Â3
   | Õ=>
    exact È (lI (AV _ #[(Bs.refl lo st).rev (Ao _) ⋯,?_,?_]))
    .have all:∀ a b,0<=a->a<n->0<=b->b<n->lb (el Û (lo+b)) (el Û (lo+a))=Õ:=λ a b _ ha _ hb=>by
      have c1:=g3 a (n-1) Ó;have c2:=g3 0 b ⋯ hb;rw[show lo+(n-1)=lo+n-1 by lia] at c1;show G.tr c1 (G.tr c c2)
     have e:=hZ G (lo:=lo) (p:=Á st) (i:=0) (j:=n) Ó all;show uB.of_eq G (λ i j Ba hj=>all Š (Be _) hj (Be _) ⋯) e
    .change lb (el Á5 (lo+n)) (el Á5 (lo+n-1))=true;rw[ni ⋯,ni ⋯,Ü ⋯,Þ ⋯];rw[show lo+(lo+n)-1-(lo+n-1)=lo by lia];cases q:lb (el Û (lo+n)) (el Û lo) with
     | true=>rfl
     | Õ=>
      have c2:=g3 0 (n-1) Ó;rw[show lo+(n-1)=lo+n-1 by lia] at c2;rw[G.tr c q] at g4;cases g4
  .have e:n=1:=⋯;subst e;show AV _ #[Bs.refl Š,(one _).2,g4]
 case G7=>
 let#[b1,b2,b3]:=hs;dsimp -zeta -zetaHave only [Ge];exact È (pJ ?_);exact È (ţ (Ė (I:=λ k c E_=>û/\c.2.1=k/\Bs lo st E_/\uB lb ķ lo k/\c.2.2+1<=k/\cn lb ķ lo k c.2.2)
  (Q:=λ c E_=>û/\n+1<=c.2.1/\c.2.1<=nrem/\Bs lo st E_/\uB lb ķ lo c.2.1/\c.2.2+1<=c.2.1/\cn lb ķ lo c.2.1 c.2.2) À6
  #[rfl,rfl,b1,b2.next G g1 (G.as b3),Ã,λ a b a1 a2 b1 b2=>?one]) ?post)
 case one=>
  have:a=b:=by dsimp only at a1 b1;lia
  ext Ç9
 case fin=>
  rintro⟨r,m,q⟩ E_ ⟨p1,p2,p3,p4,p5,p6⟩;dsimp only at p1 p2 p3 p4 p5 p6;subst p2;show#[p1,Ã,Ã,p3,p4,p5,p6]
 case step=>
  rintro k ⟨r,m,q⟩ E_ ha hb ⟨p1,p2,p3,p4,p5,p6⟩;dsimp only at p1 p2 p3 p4 p5 p6;subst p1 p2;ext Đ;have szz:=p3.size;have blk1:∀ p:ĉ,cn Ç8 (m+1) 0:=λ p a b a1 a2 b1 b2=>by
   have:a=b:=⋯;ext Ç9
  exact È (pK G p3 ū);cases c:lb À0 (el ķ (lo+m-1)) with
  | true=>
   ext Đ;simp![if_true];exact yi (λ h0=>?_) λ h0=>?_
   .exact È (lI (Ö #[rfl,rfl,p3.rev Ó,?_,Ã,blk1 _]));ext þ;show (p4.of_eq G e).next G ⋯ (G.tr (e _).1 (G.tr (G.as c) (e _).2))
   .show Ö #[rfl,rfl,p3,p4.next G ⋯ (G.as c),Ã,blk1 _]
  | Õ=>
   ext Đ;simp![A9,if_false];exact È (pK G p3 ū);cases d:lb (el ķ (lo+m-1)) À0 with
   | true=>show Ö #[rfl,Ã,Ã,p3,p4,p5,p6]
   | Õ=>
    exact Ö #[rfl,rfl,p3,p4.next G ⋯ d,Ã,λ a b a1 a2 b1 b2=>?_];dsimp only at a1 b1;have ex:∀ x,x<m->m-(q+1)<=x->lb À0 (el ķ (lo+x))=Õ/\lb (el ķ (lo+x)) À0=Õ:=λ x hx GA=>by
     have y1:=p6 x (m-1) GA hx Ó;have y2:=p6 (m-1) x Ó GA hx;rw[show lo+(m-1)=lo+m-1 by lia] at y1 y2;show#[G.tr y1 c,G.tr d y2]
    by_cases ha:a=m
    .by_cases hb':b=m
     .subst ha;subst hb';show ĺ
     .subst ha;show (ex b Ó).2
    .by_cases hb':b=m
     .subst hb';show (ex a Ó).1
     .show p6 a b Ó Ó
 case post=>
 rintro⟨r,m,q⟩ E_ ⟨p1,p2,p2',p3,p4,p5,p6⟩;dsimp only at p1 p2 p2' p3 p4 p5 p6;subst p1
 extract_lets -Ē +Ă w3 w4 w5 w6
 ext Ą
 extract_lets -Ē +Ă Gb
 exact il Gb (λ E7=>Bs lo st E7/\uB lb (ġ) lo m) (λ Fp hs=>?IQ) λ AV=>?Hl
 case Hl=>
  clear_value Gb
  have szz:=p3.size;exact yi (λ h0=>?_) λ h0=>AV _ #[p3,p4];exact È (lI (AV _ #[p3.rev Ó,?_]));ext þ;show p4.of_eq G e
 case IQ=>
 let#[c1,c2]:=hs;have szz:=c1.size;dsimp only[Gb];exact È (lI ?_);have c3:=c1.rev (i:=lo) (j:=lo+m) (Ao _) ⋯;have s3:w_ lb (Á (setArr Fp ä)) lo m:=λ i j Ba hj=>by
  change lb (el ä (lo+j)) (el ä Æ2)=Õ;rw[ni ⋯,ni ⋯,Þ ⋯,Þ ⋯];have:=c2 (m-1-j) (m-1-i) Ó
  rwa [show lo+(m-1-j)=lo+(lo+m)-1-(lo+j) by lia,show lo+(m-1-i)=lo+(lo+m)-1-Æ2 by lia] at this
 generalize setArr Fp ä=FG at c3 s3 ⊢;exact È (ţ (Ė (I:=λ k c st=>st=FG/\û/\c.2=k/\w_ lb (Á FG) lo k)
  (Q:=λ c st=>st=FG/\û/\1<=c.2/\c.2<=nrem/\w_ lb (Á FG) lo c.2) À6 #[rfl,rfl,rfl,s3]) ?post)
 case step=>
  rintro k ⟨r,n'⟩ E7 ha hb ⟨q1,q2,q3,hs⟩;dsimp only at q2 q3;subst q1 q2 q3
  try ext Đ
  exact È (pK G c3 ū);cases c:lb (el (ġ) (lo+n')) (el (ġ) (lo+n'-1)) with
  | true=>show Ö #[rfl,rfl,Ã,Ã,hs]
  | Õ=>show Ö #[rfl,rfl,rfl,hs.next G ⋯ c]
 case fin=>
  rintro⟨r,n'⟩ E7 ⟨q1,hr,GV,hs⟩;dsimp only at hr GV hs;subst q1 GV;show#[rfl,hr,Ã,Ã,hs]
 case post=>
  rintro⟨r,n'⟩ E7 ⟨q1,hr,t1,t2,t3⟩;dsimp only at hr t1 t2 t3;subst q1 hr;show Ö (h n' _ t1 t2 c3 t3)
def WH Ō{Q:Unit->ſ}(h:Q Unit.unit (setArr st Á6)):wpS ő (O8 i j) Q st:=by
 change wpS ő (moveDown' i j) Q st;rw[moveDown'_eq];show wpS_modify h
def Bs.mv (B:đ) Ō(hi:i<ĕ) (hj:lo<=j) (Ba:j<=i):Bs lo Fo (setArr st Á6):=
 #[B.kind,B.pend,B.fail,(bubble_perm Ò).trans B.perm,λ k hk=>by
  change Á6[k]?=_;rw[getElem?_bubble (by rw[B.size];show hi) _ ⋯,Ü ⋯,Ü ⋯];show B.pre k hk]
def WO É {n ok:Nat}{Q:Bool->ſ}ø (hn:lo+n<=ĕ) (h1:1<=ok) (zx:ok<=n) (B:đ)
  (hs:w_ lb Û lo ok) (h:∀ st,đ->w_ lb Û lo n->Q true st):wpS ő (binarySort' lo n ok) Q st:=by
 unfold binarySort';exact È (ţ (Ė (I:=λ k c st=>û/\đ/\w_ lb Û lo k) (Q:=λ c st=>û/\đ/\w_ lb Û lo n) À6 #[rfl,B,by rw[Nat.max_eq_left h1];show hs]) ?post)
 case post=>
  ext Ã6;ext Ā;show Ö (h _ q2 q3)
 case fin=>
  ext Ã6;rw[show max (max ok 1) n=n by lia] at q3;show#[q1,q2,q3]
 case step=>
  rintro k ⟨r,u⟩ E7 ha hb ⟨q1,q2,q3⟩;ext Ā;ext Đ;have szz:=q2.size;exact È (ţ (Ė (I:=λ m c st=>st=E7/\û/\c.2.2-c.2.1<=k-m/\c.2.1<=c.2.2/\c.2.2<=k/\(∀ i,i<c.2.1->ã=Õ)/\∀ i,c.2.2<=i->i<k->ã=true)
   (Q:=λ c st=>st=E7/\û/\c.2.1<=k/\(∀ i,i<c.2.1->ã=Õ)/\∀ i,c.2.1<=i->i<k->ã=true) À6
   #[rfl,rfl,Ã,Ã,Ã,λ i hi=>Æ4 hi (Nat.not_lt_zero _),λ i hi EV=>by dsimp only at hi;lia]) ?post)
  case fin=>
   rintro⟨r,l,rr⟩ Fp ⟨p1,p2,p3,p4,p5,p6,p7⟩;dsimp only at p1 p2 p3 p4 p5 p6 p7;have:l=rr:=⋯;subst this;show#[p1,p2,p5,p6,p7]
  case step=>
   rintro m ⟨r,l,rr⟩ Fp ha' hb' ⟨p1,p2,p3,p4,p5,p6,p7⟩;dsimp only at p1 p2 p3 p4 p5 p6 p7;subst p1 p2;ext Đ;exact yi (λ DZ=>?_) λ DZ=>?_
   .have:l=rr:=⋯;subst this;show Ö #[rfl,rfl,p5,p6,p7]
   .exact È (pK G q2 ū);cases c:lb (el ŗ (lo+k)) (el ŗ (lo+(l+rr)/2)) with
    | true=>
     exact Ö #[rfl,rfl,Ã,Ã,Ã,p6,λ i hi EV=>?_];dsimp only at hi;cases q:lb (el ŗ (lo+k)) (el ŗ Æ2) with
     | true=>rfl
     | Õ=>rw[G.tr (q3 ((l+rr)/2) i hi EV) q] at c;cases c
    | Õ=>
     exact Ö #[rfl,rfl,Ã,Ã,p5,λ i hi=>?_,p7];dsimp only at hi;show G.tr (q3 i ((l+rr)/2) Ó) c
  case post=>
   rintro⟨r,l,rr⟩ Fp ⟨p1,p2,p3,a2,a3⟩;dsimp only at p1 p2 p3 a2 a3;subst p1 p2;ext Đ;exact È (WH (Ö #[rfl,q2.mv Ó ⋯,λ i j Ba hj=>?_]));change lb (el ė (lo+j)) (el ė Æ2)=Õ;have ev:∀ x,el ė (lo+x)=if x=l then el ŗ (lo+k) else if l<x/\x<=k then el ŗ (lo+(x-1)) else el ŗ (lo+x):=λ x=>by
    have e:=getElem?_bubble (xs:=Á Fp) (src:=lo+k) ⋯ (lo+k-(lo+l)) ⋯ (lo+x);by_cases h1:x=l
    .rw[Þ ⋯] at e;rw[Þ h1];show m9 e
    .rw[Ü ⋯] at e;rw[Ü h1];by_cases h2:l<x/\x<=k
     .rw[Þ ⋯,show lo+x-1=lo+(x-1) by lia] at e;rw[Þ h2];show m9 e
     .rw[Ü ⋯] at e;rw[Ü h2];show m9 e
   rw[ev i,ev j];by_cases hi:i=l
   .rw[Þ hi];by_cases Gn:j=l
    .rw[Þ Gn];show ĺ
    .rw[Ü Gn,Þ #[⋯,⋯]];show G.as (a3 (j-1) Ó)
   .rw[Ü hi];by_cases Gn:j=l
    .rw[Þ Gn,Ü ⋯];show a2 i ⋯
    .rw[Ü Gn];by_cases hi2:l<i/\i<=k
     .rw[Þ hi2,Þ #[⋯,⋯]];show q3 Š Ó
     .rw[Ü hi2];by_cases hj2:l<j/\j<=k
      .rw[Þ hj2];show q3 Š Ó
      .rw[Ü hj2];show q3 Š Ba ⋯
end
abbrev OQ:Nat->StateT ď Sem Bool:=sortPriv% PySem.Builtin.mergeAt
abbrev L_:Nat->Nat->StateT ď Sem (ě Nat):=sortPriv% PySem.Builtin.countRun
def vh:Nat->Ô->À1
 | _,[]=>[]
 | o,r::rs=>(o,ō,r.2)::vh (o+ō) rs
def flat (rp:Ô):ň:=(rp.map (·.1)).flatten
def oB (a b:Ô):flat (a++b)=flat a++flat b:=by unfold flat;simp
def oA (r:ň ×Nat) (b:Ô):flat (r::b)=r.1++flat b:=by unfold flat;simp
theorem pO:∀ (a b:Ô) (o:Nat),vh o (a++b)=vh o a++vh (o+(flat a).length) b
 | [],b,o=>by simp[vh,flat]
 | r::a,b,o=>by
  change (o,ō,r.2)::vh (o+ō) (a++b)=_;rw[pO a b,oA,A6];change _=(o,ō,r.2)::(vh (o+ō) a++_);rw[Nat.add_assoc]
theorem rn:∀ (a:Ô) (o:Nat),(vh o a).length=a.length
 | [],_=>rfl
 | _::a,o=>by simp[vh,rn a]
def VH {α:Type}{l:List α}{i:Nat}(h:i+1<l.length):∃ P a b S,l=P++a::b::S/\P.length=i:=by
 exact#[l.take i,l[i],l[i+1],l.drop (i+2),?_,ŭ];rw[<- Dd,<- Dd,CA]
theorem aR {α:Type}(f:α->α):∀ (l:List α) (x:α),(l++[x]).modify l.length f=l++[f x]
 | [],x=>#[]
 | a::l,x=>by simp[aR f l x]
structure SI (κ:SortKind) (lb:Ī) (a₀:ň) (st:ď) (rp:Ô) (E8:ň):Prop where
 kind:Æ1=κ
 fail:Ĺ st=none
 pend:(Ñ st).toList=vh 0 rp
 arr:Í=flat rp++E8
 runs:∀ r∈rp,r.1≠[]/\Up lb r.1
 perm:(Á st).toList.Perm a₀
section
variable {Ø}{Ã1}{a₀:ň}{st:ď}{rp:Ô}{E8:ň}
def SI.ki ö:(Ñ st).size=İ:=by rw[<- A3,I.pend,rn]
def SI.many ö:İ<=À:=by
 have:=Æ5;clear I
 induction rp with
 | nil=>simp
 | cons r rp ih=>
  have h1:=(this r Al).1;have:=ih λ r hr=>this r (Av _ hr);rw[oA,A6,AX];have:0<ō:=CV.mpr h1;lia
def SI.merge É (hD:∀ x∈a₀,D x) ö {i:Nat}(hi:i+1<İ) {Q:Bool->ſ}
  (h:∀ E7 G0,SI À7 E7 G0 E8->G0.length+1=İ->Q true E7):wpS ő (OQ i) Q st:=by
 let#[P,#[X,pa],#[Y,pb],S,rfl,rfl]:=VH hi;change wpS ő (mergeAt' P.length) Q st;have hX:=Æ5 (X,pa) #[];have hY:=Æ5 (Y,pb) #[];have ep:(Ñ st).toList=vh 0 P++(Ģ,ă,pa)::(Ģ+ă,Y.length,pb)::vh (Ģ+ă+Y.length) S:=by
  rw[I.pend,pO,CO];rfl
 have ea:Í=flat P++(X++(Y++(flat S++E8))):=by rw[I.arr,oB,oA,oA];simp
 exact WI G (P:=flat P) (X:=X) (Y:=Y) (S:=flat S++E8) hX.1 hY.1 (pa:=pa) (pb:=pb) ?_ ?_ ea (Á7) I.kind I.fail hX.2 hY.2 λ M GR g hm hu e=>?_
 ext ŷ
 ext ŷ
 .have hl:M.length=ă+Y.length:=by rw[hm.length_eq,A6]
  exact h _ (P++(M,pa)::S) #[I.kind,I.fail,?_,?_,?_,?_] (ŭ)
  .change (((Ñ st).setIfInBounds P.length (Ģ,ă+Y.length,pa)).eraseIdxIfInBounds (P.length+1)).toList=_;rw[Array.toList_eraseIdxIfInBounds,Array.toList_setIfInBounds,ep,pO,CO];have e1:∀ (L:À1) (x y z:Nat×Nat×Nat) (R:À1) (n:Nat),n=L.length->((L++x::y::R).set n z).eraseIdx (n+1)=L++z::R:=λ L x y z R n hn=>by
    subst hn;rw[List.set_append_right Š (Ao _),Nat.sub_self,List.set_cons_zero,List.eraseIdx_append_of_length_le ⋯,DP];rfl
   rw[e1 Ò Ò (rn P 0).symm];change _=vh 0 P++(Ģ,M.length,pa)::vh (Ģ+M.length) S;rw[hl,Nat.add_assoc]
  .change GR.toList=_;rw[e,oB,oA];simp
  .intro r hr;ext ź
   .show Æ5 r (Bm _ hr)
   .rcases Ak.mp hr with rfl | hr
    .exact#[λ e0=>?_,hu];dsimp only at e0;rw[e0] at hl;have:0<ă:=CV.mpr hX.1;simp at hl;lia
    .show Æ5 r (AY _ (Av _ (Av _ hr)))
  .change GR.toList.Perm a₀;exact List.Perm.trans ?_ I.perm;rw[e,ea];exact List.Perm.append_left _ ?_;rw[<- AW X];show List.Perm.append_right _ hm
def SI.run ö {n:Nat}{E7:ď}(B:Bs À st E7) (hs:w_ lb (ġ) À n) (h1:1<=n) (hn:À+n<=Å):
  ∃ X Fi,SI À7 E7 rp (X++Fi)/\ă=n/\Up lb X:=by
 have hsz:=B.size;have e1:(ġ).toList.take À=flat rp:=by
  have e2:(ġ).toList.take À=(Á st).toList.take À:=by
   apply List.ext_getElem?;intro i;by_cases hi:i<À
   .rw[Er hi,Er hi,Bf,Bf];show B.pre i hi
   .rw[CS (by rw[Cc];lia),CS (by rw[Cc];lia)]
  rw[e2,I.arr,BZ]
 have lx:((ŀ)).length=n:=ŭ
 exact#[ŀ,((ġ).toList.drop À).drop n,#[B.kind.trans I.kind,B.fail.trans I.fail,by rw[B.pend];show I.pend,?_,Æ5,(Á3).trans I.perm],lx,?_]
 .rw[CA]
  conv=>rhs;rw[<- e1]
  rw[show (List.take À (ġ).toList).length=À by rw[e1]] at *;rw[CA]
 .change List.Pairwise Š;rw[CQ];intro i j hi hj Ba;rw[lx] at hi hj;have q:=hs i j ⋯ hj;have ge:∀ k,k<n->∀ Gm,(ŀ)[k]'Gm=el (ġ) (À+k):=λ k hk Gm=>by
   have:À+k<(ġ).size:=⋯;simp[el,this]
  rw[ge i hi,ge j hj];show q
def N7 {c:Prop}{dc:Decidable c}{a b n:Nat}(h1:a+1<n) (h2:b+1<n):(if c then a else b)+1<n:=by split <;> assumption
theorem SI.pw {a₀:ň}{rp:Ô}{E8:ň}ö (Az:rp≠[]) (pw:Nat):
  ∃ G0,SI À7 (Ã9 (Æ1) Û (Ŀ) (gallopOf st) (Ĺ st)) G0 E8/\flat G0=flat rp:=by
 obtain⟨P,⟨X,p⟩,rfl⟩:∃ P r,rp=P++[r]:=#[rp.dropLast,rp.getLast Az,(zcQ Az).symm];have ef:flat (P++[(X,pw)])=flat (P++[(X,p)]):=by rw[oB,oB];rfl
 exact#[P++[(X,pw)],#[I.kind,I.fail,?_,by rw[ef];show I.arr,λ r hr=>?_,I.perm],ef]
 .change (Ŀ).toList=_;have hs:(Ñ st).size-1=(vh 0 P).length:=by rw[I.ki,rn];simp
  rw[hs,Array.toList_modify,I.pend,pO,pO];show aR Ò
 .ext ź
  .show Æ5 r (Bm _ hr)
  .rw[Au] at hr;subst hr;show Æ5 (X,p) #[]
theorem SI.push {a₀:ň}{rp:Ô}{X E8:ň}(I:SI À7 st rp (X++E8)) (h1:X≠[]) (hu:Up lb X):
  SI À7 (Ã9 (Æ1) Û ((Ñ st).push (À,ă,0)) (gallopOf st) (Ĺ st)) (rp++[(X,0)]) E8:=by
 exact#[I.kind,I.fail,?_,?_,λ r hr=>?_,I.perm]
 .change ((Ñ st).push (À,ă,0)).toList=_;rw[B0,I.pend,pO,CO];rfl
 .change Í=_;rw[I.arr,oB];simp[flat]
 .ext ź
  .show Æ5 r hr
  .rw[Au] at hr;subst hr;show#[h1,hu]
def WG É {Q:Unit->ſ}(hk:Æ1=κ) (hf:Ĺ st=none) (hp:Ñ st=ò) (hD:∀ x∈ Í,D x)
  (h:∀ E7,Ĺ E7=none->(ġ).toList.Perm Í->Up lb (ġ).toList->Q Unit.unit E7):wpS ő sortRuns' Q st:=by
 have I0:SI κ lb Í st [] Í:=#[hk,hf,by rw[hp];rfl,rfl,λ _ hr=>Æ4 hr #[],List.Perm.refl _];have hsz:∀ {E7 rp E8},SI ğ E8->(ġ).size=Å:=λ I=>by
  have:=I.perm.length_eq;exists this
 unfold sortRuns';ext Ġ
 extract_lets -Ē
 ext Ą;exact È (ţ (Ė (I:=λ k c E7=>û/\∃ rp E8,SI ğ E8/\À=c.2/\min k Å<=c.2/\c.2<=Å)
  (Q:=λ c E7=>û/\∃ rp,SI ğ []/\À=Å) À6 #[rfl,[],_,I0,rfl,Ã,Ã]) ?post)
 case fin=>
  rintro⟨r,lo⟩ E7 ⟨q1,rp,E8,I,q2,q3,q4⟩;dsimp only at q1 q2 q3 q4;have hz:=hsz I;have e:À=Å:=by
   have:max 0 Å=Å:=⋯;have q3:min (max 0 Å) Å<=lo:=q3;lia
  have:E8=[]:=by
   ext ż;show DJ.mp ⋯
  subst this;show#[q1,rp,I,e]
 case step=>
  rintro k ⟨r,lo⟩ E7 _ BO ⟨q1,rp,E8,I,q2,q3,q4⟩;dsimp only at q1 q2 q3 q4;subst q1;have hz:=hsz I;have D0:Å=À+E8.length:=by
   ext ż;lia
  extract_lets -Ē +Ă v1 v2
  ext Ą;exact yi (λ CK=>?_) λ CK=>?_
  .have CK:Å<=lo:=CK;have:E8=[]:=DJ.mp ⋯;subst this;show Ö #[rfl,rp,I,⋯]
  have CK:¬ Å<=lo:=CK;subst q2;have dd:∀ x∈(ġ).toList,D x:=Á7;change wpS ő (L_ À (Å-À) >>= _) _ E7;exact È (WN G (lo:=À) (nrem:=Å-À) I.kind dd Ó λ n Hx n1 n2 B hs=>?_);dsimp -zeta -zetaHave only
  extract_lets -Ē +Ă v3
  extract_lets -Ē +Ă Ge
  exact WK Ge (λ m Fp=>Ļ) (λ m Fp hX=>?G7) λ AV=>?Hm
  case Hm=>
   clear_value Ge
   have conv:∀ {m Fp},Bs À E7 Fp->w_ lb ŗ À m->1<=m->m<=Å-À->Ļ:=λ B hs h1 h2=>by
    let#[X,Fi,I',lx,ux]:=I.run B hs h1 ⋯;show#[X,Fi,I',lx,ux,λ e=>by subst e;simp at lx;lia]
   exact yi (λ Ar=>?_) λ Ar=>AV Š (conv B hs n1 n2);exact È (pJ (È (WO G (lo:=À) I.kind dd ?_ n1 ?_ B hs λ Fp B3 hs3=>?_)))
   .change À+Â4<=(ġ).size;lia
   .change n<=Â4;lia
   .exact yi Ä4 λ _=>AV Š (conv B3 hs3 ?_ ?_)
    .change 1<=Â4;lia
    .change Â4<=_;lia
  case G7=>
  let#[X,Fi,I3,rfl,ux,nx]:=hX;dsimp -zeta -zetaHave only [Ge];ext Ġ
  extract_lets -Ē +Ă Gb
  exact il Gb (λ FG=>∃ G0,SI κ lb Í FG G0 (X++Fi)) (λ FG hs4=>?IQ) λ AV=>?Hl
  case IQ=>
   dsimp only[Gb];let#[G0,I4]:=hs4;have e4:(flat G0).length=À:=by
    have l3:=congrArg Æ6 I3.arr;have l4:=congrArg Æ6 I4.arr;have z3:=hsz I3;have z4:=hsz I4;rw[A6,A3] at l3 l4;lia
   have I5:=I4.push nx ux;rw[e4] at I5;exact È (wpS_modify (Ö #[rfl,_,_,I5,?_,?_,?_]))
   .change _=À+ă;rw[oB,A6,e4];simp[flat]
   .change min (k+1) _<=À+ă;have:0<ă:=CV.mpr nx;lia
   .change À+ă<=_;have:=congrArg Æ6 I3.arr;have z3:=hsz I3;rw[A6,A6,A3] at this;lia
  case Hl=>
  clear_value Gb
  cases hb:(Ñ Fp).back? with
  | none=>show AV _ #[rp,I3]
  | some t=>
   let#[s1,n1',p1]:=t;have Az:rp≠[]:=λ e=>by
    subst e;have:=I3.ki;have e0:Ñ Fp=ò:=Array.size_eq_zero_iff.mp (by exists this);rw[e0] at hb;simp at hb
   try ext Đ
   exact È (ţ (Ė (I:=λ k c E7=>Ã5) (Q:=λ c E7=>Ã5)
    ?GF ?fin2 #[rfl,rp,I3,Az]) ?GH)
   case fin2=>show λ c E7 hc=>hc
   case GF=>
    rintro k' ⟨r,u⟩ FG _ _ ⟨q1,GU,I4,ne4⟩;ext Ā
    try ext Đ
    ext Ġ;have ps:=I4.ki;change wpS ő (match (if Ć>1 then (Ñ FG)[Ć-2]? else none) with | some (a,b,c)=>_ | x=>_) _ FG;by_cases h2:Ć>1
    .rw[Þ h2];cases ht:(Ñ FG)[Ć-2]? with
     | none=>show ŕ
     | some t=>
      let#[x1,x2,x3]:=t
      try ext Đ
      exact yi (λ _=>ŕ) λ _=>?_;exact È (I4.merge G hD (i:=Ć-2) ⋯ λ GZ HU I5 l5=>?_);exact yi Ä4 λ _=>Ö #[rfl,HU,I5,λ e=>?_];subst e;simp at l5;lia
    .rw[Ü h2];show ŕ
   case GH=>
    rintro⟨r,u⟩ FG ⟨q1,GU,I4,ne4⟩;ext Ā
    try ext Đ
    exact È (wpS_modify ?_);let#[HU,I5,_]:=I4.pw ne4 _;show AV _ #[HU,I5]
 case post=>
  rintro⟨r,lo⟩ st1 ⟨q1,rp,I,e⟩;ext Ā
  try ext Đ
  exact È (ţ (Ė (I:=λ k c E7=>û/\∃ rp,SI ğ []/\(İ<=1\/İ+k<=Å)) (Q:=λ c E7=>û/\∃ rp,SI ğ []/\İ<=1)
    ?GF ?fin2 #[rfl,rp,I,.inr (by have:=I.many;lia)]) ?GH)
  case fin2=>
   rintro⟨r,u⟩ E7 ⟨q1,rp,I,q2⟩;exact#[q1,rp,I,?_];have q2:İ<=1\/İ+max 0 Å<=Å:=q2;lia
  case GF=>
   rintro k' ⟨r,u⟩ FG _ Gm ⟨q1,GU,I4,l4⟩;ext Ā
   try ext Đ
   ext Ġ;have ps:=I4.ki;exact yi (λ h1=>?_) λ h1=>?_
   .have h1:Ć<=1:=h1;show Ö #[rfl,GU,I4,⋯]
   have h1:¬ Ć<=1:=h1;exact È (I4.merge G hD ?_ λ GZ HU I5 l5=>?_)
   .exact N7 (show Ć-2-1+1<GU.length by lia) (show Ć-2+1<GU.length by lia)
   .show yi Ä4 λ _=>Ö #[rfl,HU,I5,⋯]
  case GH=>
   rintro⟨r,u⟩ FG ⟨q1,GU,I4,l4⟩;ext Ā;exact Ö (h _ I4.fail I4.perm ?_);rw[I4.arr,BQ]
   match GU,l4,I4.runs with
   | [],_,_=>show List.Pairwise.nil
   | [x],_,hr=>
    have:=(hr x Al).2;rw[oA];simpa [flat] using this
end
end TS
namespace L4
open PySem PySem.W PySem.Calls Ů
section
variable {Ø}
def Core (prog:Program) (w:World) (A:Around) (E:Af) (vs:Ah) (Out:Array ó->Prop) (s6:Ŏ):Prop:=
 wpAny Æ (keyKind' Ĥ) (fun κ s'=>s'=s6/\wpAny Æ ((sortRuns').run (Ã9 κ (Ï) ò 7 none))
  (λ r HS=>HS=s6/\Ĺ r.2=none/\Out ((Á r.2).map ĝ)/\(Á r.2).size=è) E s') E s6
def Na Ĵ{vs:Ah}{n:Nat}{P:PySem.Fin->Ŏ->Prop}{Out:Array ó->Prop}(ho:À2 a=↑(seqObj "list" Ĥ n)) (hz:è<=ì)
  (core:2<=è->∀ s6:Ŏ,(∀ b o,b≠a->ô->s6.heap.get? b=↑o)->Core prog w A E vs Out s6) (short:è<2->Out Ĥ)
  (fin:∀ out:Array ó,Out out->out.size=è->P (.done (.ret .none)) { s with heap:=sortedHeap Æ7 a vs out }):
  wpAny Æ (Builtin.«list.sort» #[[ć a],[]]) P E s:=by
 have ha:a<Ę:=Ax ho;obtain⟨e1,g1⟩:∃ e1,(Á4).get? a=↑(seqObj "list" ò e1):=#[_,Æ8 ho (λ _=>ò)];have Fn:vs.toArray.size<=ì:=by rw[AH];show hz
 have g6:â a=↑(seqObj "list" ò e1):=za1 _ (za1 _ g1);have keep:∀ b o,b≠a->ô->â b=↑o:=
  λ b o hb e=>za1 _ (za1 _ (by rw[zaP Ò _ hb];show e))
 rw[list_sort_plain];exact gV (listItems_at ho rfl (gV (listUpdate_at ho rfl (gV (seqEpoch_at g1 rfl (gV (wpAny_newTuple (gV (wpAny_newList (za6 ?_))) (by exists hz))))) Fn (Be _))));by_cases h2:vs.toArray.size<2
 .rw[Þ h2,Þ h2];have e2:Ŗ=Ĥ:=by
   change (Ï).map ĝ=Ĥ;apply Array.ext #[];intro i h1 h2;simp
  exact gV (Ad ?_);ext Đ;rw[StateT.run_pure];exact gV (Ad ?_);ext Đ;exact ħ
  .ext Á9;have q:=fin _ (e2▸short (by exists h2)) (by rw[e2];simp);show Ad q
  .change ((Ŗ)).size<=ì+1;rw[e2];lia
 .rw[Ü h2,Ü h2];have h2':2<=è:=by exists h2
  exact gV (za5 (core h2' _ keep) (fun κ s7 #[hs,h7]=>?_) λ _ _ z=>z);subst hs;exact gV (za5 h7 (λ r s8 #[hs,hf,EF,hsz]=>?_) λ _ _ z=>z);subst hs;obtain⟨⟨⟩,st⟩:=r;exact ħ
  .have FZ:Ĺ st=none:=hf;rw[FZ];ext Á9;show Ad (fin _ EF (by rw[DH];show hsz))
  .change ((Á st).map ĝ).size<=ì+1;rw[DH];have:Å=è:=hsz;lia
def VM Å9{vs:Ah}(out:AB):∃ e,(sortedHeap (h.push Ý) h.objs.size vs out).get? h.objs.size=↑(seqObj "list" out e):=by
 have there:(h.push Ý).get? h.objs.size=↑ Ý:=AK _ rfl;show#[_,Æ8 (za1 _ (za1 _ (Æ8 there λ _=>ò))) λ _=>out]
def cR Ĵ{vs:Ah}{Q:Af}{Out:Array ó->Prop}{N:Addr->Prop}
  (C:∀ Q':List ó->Ŏ->Prop,(∀ h1 tk,(∀ b o,¬ N b->ô->h1.get? b=↑o)->ŉ)->wpAny (model prog w) A.in1 (collect (ć a)) Q' E s) (hz:è<=ì)
  (core:2<=è->∀ s6:Ŏ,(∀ b o,¬ N b->ô->s6.heap.get? b=↑o)->Core prog w A.in1.in1 E vs Out s6) (short:è<2->Out Ĥ)
  (fin:∀ (out:AB) (h':Heap) (tk l:Nat),Out out->out.size=è->Ę<=l->(∀ b o,¬ N b->ô->h'.get? b=↑o)->(∃ e,h'.get? l=↑(seqObj "list" out e))->Q (ć l) { s with heap:=h',toks:=tk }):
  wpAny Æ Â5 Q E s:=by
 exact Calls.call_function_entry kind_sorted plain_sorted entry_sorted (args_sorted1 _) ?_;unfold Builtin.«sorted»;exact gV (m:=checkCount "sorted" 1 1 _) (Ad (gV (C _ λ h1 tk k1 k2=>gV (wpAny_newList ?_ hz))));have hoL:(h1.push Ý).get? h1.objs.size=↑ Ý:=AK _ rfl;change wpAny Ò Š { s with heap:=h1.push Ý,toks:=tk };exact gV (za6 (za7 slot_list_sort #[_,hoL,rfl] entry_list_sort (Na hoL hz (λ h2 s6 k=>core h2 s6 λ b o n q=>k b o (AI (Ax (k1 b o n q))) (za1 _ (k1 b o n q))) short λ out g1 g2=>#[_,rfl,?_]) (args_list_sort _)));exact Ad #[_,rfl,fin out _ tk h1.objs.size g1 g2 k2 (λ b o n q=>?_) (VM out)];have q1:=k1 b o n q;have hb:=AI (Ax q1);unfold sortedHeap;rw[zaP Ò _ hb];exact za1 _ (za1 _ ?_);rw[zaP Ò _ hb];show za1 _ q1
end
end L4
namespace L4
open PySem PySem.W PySem.Calls Ů L2
theorem gY:∀ a b:Ð,ê a b=true->Ŧ
 | [],[],h=>À3
 | [],_::_,_=>rfl
 | _::_,[],h=>À3
 | x::a,y::b,h=>by
  rw[HT.qE] at h ⊢;by_cases e:x=y
  .subst e;rw[Þ rfl] at h ⊢;show gY a b h
  .rw[Ü e] at h;rw[Ü (Ne.symm e)];have:=of_decide_eq_true h;show za3 ⋯
theorem Ze:∀ a b:Ð,ê a b=Õ->Ŧ->a=b
 | [],[],_,_=>rfl
 | [],_::_,h,_=>À3
 | _::_,[],_,h=>À3
 | x::a,y::b,h,h'=>by
  rw[HT.qE] at h h';by_cases e:x=y
  .subst e;rw[Þ rfl] at h h';rw[Ze a b h h']
  .rw[Ü e] at h;rw[Ü (Ne.symm e)] at h';have h1:=ŏ h;have h2:=ŏ h';lia
theorem gX:∀ a b c:Ð,Ŧ->ê c b=Õ->ê c a=Õ
 | [],[],[],_,_=>rfl
 | [],[],_::_,_,h=>h
 | [],_::_,[],_,h=>À3
 | [],_::_,_::_,_,_=>rfl
 | _::_,[],_,h,_=>À3
 | _::_,_::_,[],_,h=>À3
 | x::a,y::b,z::c,h,h'=>by
  rw[HT.qE] at h h' ⊢;by_cases e1:y=x
  .subst e1;rw[Þ rfl] at h;by_cases e2:z=y
   .subst e2;rw[Þ rfl] at h' ⊢;show gX a b c h h'
   .rw[Ü e2] at h' ⊢;show h'
  .rw[Ü e1] at h;have h1:=ŏ h;by_cases e2:z=y
   .subst e2;rw[Ü e1];show h
   .rw[Ü e2] at h';have h2:=ŏ h';rw[Ü ⋯];show za3 ⋯
theorem gu {α:Type}{r:α->α->Prop}(an:∀ a b,r a b->r b a->a=b):∀ {l₁ l₂:List α},l₁.Perm l₂->l₁.Pairwise r->l₂.Pairwise r->l₁=l₂
 | [],l₂,h,_,_=>(List.nil_perm.mp h).symm
 | a::l₁,[],h,_,_=>Æ4 (List.perm_nil.mp h) #[]
 | a::l₁,b::l₂,h,h1,h2=>by
  have BX:a=b:=by
   have ha:a∈b::l₂:=h.mem_iff.mp Al;have hb:b∈a::l₁:=h.mem_iff.mpr Al;rcases Ak.mp ha with e | ha
   .show e
   .rcases Ak.mp hb with e | hb
    .show e.symm
    .show an Š (List.rel_of_pairwise_cons h1 hb) (List.rel_of_pairwise_cons h2 ha)
  subst BX;rw[gu an (List.Perm.cons_inv h) (Br.mp h1).2 (Br.mp h2).2]
def xo È1:ñ:=rows.mergeSort λ a b=>! ê b a
def t6 È1:(xo rows).Perm rows:=List.mergeSort_perm Š
def iQ È1:(xo rows).Pairwise λ a b=>Ŧ:=by
 have:=List.pairwise_mergeSort (le:=λ a b:Ð=>! ê b a) (λ a b c h1 h2=>by simp at h1 h2 ⊢;show gX a b c h1 h2)
  (λ a b=>by
   cases h:ê b a with
   | Õ=>simp
   | true=>simp[gY b a h]) rows
 show this.imp λ h=>by exists h
def cT {rows out:ñ}(hp:out.Perm rows) (hs:out.Pairwise λ a b=>Ŧ):out=xo rows:=
 gu (λ a b h1 h2=>Ze a b h2 h1) (hp.trans (t6 rows).symm) hs (iQ rows)
section
variable {Ø}{Q:Bool->Ŏ->Prop}
theorem Zq {b:Bool}:∀ (ns ms:Ð) (us ws:Ah) (i:Nat),IntsAre us ns->IntsAre ws ms->Q (ê ns ms) s->KatLex prog w A b (Å5) Q (us.zip ws) i s
 | [],[],_,_,_,.nil,.nil,h=>Ł
 | [],_::_,_,_,_,.nil,ī Ò,h=>Ł
 | _::_,[],_,_,_,ī Ò,.nil,h=>Ł
 | n::ns,m::ms,_,_,i,ī _ t hu,ī _ u hw,h=>by
  rw[HT.qE] at h;exact kat_cons (SeqAt.EqAt.int_int n t m u prog w Š (kat_go (λ e=>kat_yes ?_) λ e=>kat_no ?_))
  .have e':n=m:=by exists e
   rw[Þ e'] at h;rw[show decide ((n::ns).length<(m::ms).length)=Å5 by simp];show Zq ns ms Š (i+1) hu hw h
  .have e':¬ n=m:=by exists e
   rw[Ü e'] at h;cases b&&i == 0 with
   | true=>show kat_lt_int h
   | Õ=>show kat_one Š (lt_int h)
def qX (h:Heap):List ó->ñ->Prop:=Paired λ v r=>r≠[]/\∃ b o Aa n,v=ć b/\h.get? b=↑o/\o.cls=.type "tuple"/\ę
theorem qX.Yb Å9:∀ ĵ,qX h vs rows->∃ fs,KatTups h vs fs/\fs.length=è/\∀ v∈fs,∃ n t,v=Value.int n t
 | _,_,.nil=>#[[],KatTups.nil,rfl,λ _ hv=>Æ4 hv #[]]
 | _,_,ī #[Az,b,o,Aa,n,hv,ho,hc,hd,hi] r=>by
  let#[fs,h1,h2,h3]:=qX.Yb r;subst hv;let#[Aa]:=Aa;cases hi with
  | nil=>show Æ4 rfl Az
  | cons k t _=>show#[ś k t::fs,KatTups.cons ho hc hd rfl h1,by simp[h2],λ v hv=>(Ak.mp hv).elim (λ e=>#[k,t,e]) (h3 v)]
theorem Paired.at' Å1:∀ {l₁:List α}{l₂:List β}{i:Nat},Paired F l₁ l₂->i<l₁.length->∀ (d:α) (e:β),F (l₁.getD i d) (l₂.getD i e)
 | _,_,_,.nil,h,_,_=>Æ4 h #[]
 | _,_,0,ī r _,_,_,_=>r
 | _,_,i+1,ī _ t,h,d,e=>by exists Paired.at' (i:=i) t (by exists h) d e
def du (vs:Ah) È1 (out:AB):Prop:=
 ∃ ps:List (ó × Ð),ps.Perm (vs.zip rows)/\out.toList=Â6/\(ps.map ĝ).Pairwise λ a b=>Ŧ
def rowOf (h:Heap):ó->Ð
 | ć b=>match h.get? b with
  | some o=>match o.data with
   | .seq Aa _=>Aa.toList.map numOf
   | _=>[]
  | none=>[]
 | _=>[]
def Ou {vs:Ah}{ns:Ð}(h:IntsAre vs ns):vs.map numOf=ns:=by
 induction h with
 | nil=>rfl
 | cons n t _ ih=>rw[Ay,ih];rfl
def hJ Å9{b:Addr}{o:Obj}{Aa:AB}{n:Nat}{r:Ð}(e:h.get? b=↑o) (d:o.data=.seq Aa n) (q:IntsAre Aa.toList r):rowOf h (ć b)=r:=by
 change (match h.get? b with | some o=>(match o.data with | .seq Aa _=>Aa.toList.map numOf | _=>[]) | none=>[])=r;rw[e];ext Đ;rw[d];show Ou q
def Jm {b:Bool}:TS.Asks prog w A E s (tuples' b) (λ x=>∃ a o Aa n r,x.1=ć a/\À2 a=↑o/\ę)
  λ x y=>ê (rowOf Æ7 x.1) (rowOf Æ7 y.1):=by
 exact#[λ{x y st Q} hx hy hk h=>?_,λ h1 h2=>gX Ò h1 h2,λ h=>gY Š h];let#[a1,o1,its1,n1,r1,e1,g1,d1,q1]:=hx;let#[a2,o2,Fz,n2,r2,e2,g2,d2,q2]:=hy;rw[e1,e2,hJ g1 d1 q1,hJ g2 d2 q2] at h;change wpS ő (lt' x y) Q st;rw[lt'_eq];ext Ġ;rw[hk,e1,e2];have l1:=q1.length;have l2:=q2.length;rw[A3] at l1 l2;exact È (wpS_lift (zaH (kat_lt g1 d1 g2 d2 ?_)));rw[l1,l2];show Zq Ò _ 0 q1 q2 #[rfl,Ö h]
theorem Um Å9:∀ ĵ,qX h vs rows->(Ï).toList.map (λ x=>(x.1,rowOf h x.1))=vs.zip rows:=by
 intro vs rows r;have:(Ï).toList=vs.zip vs:=#[];rw[this]
 induction r with
 | nil=>rfl
 | cons g _ ih=>
  let#[_,b,o,Aa,n,rfl,h1,_,h2,h3]:=g;rw[List.zip_cons_cons,Ay,List.zip_cons_cons,ih #[]];ext Đ;rw[hJ h1 h2 h3]
theorem cy {α:Type}:∀ {vs:List α}{x:α × α},x∈vs.zip vs->x.2=x.1
 | _::_,_,h=>(Ak.mp h).elim (λ e=>by rw[e]) cy
def Ul Å9 ĵ(r:qX h vs rows):∀ x∈vs.zip vs,∃ a o Aa n r,x.1=ć a/\h.get? a=↑o/\ę:=by
 induction r with
 | nil=>intro x hx;cases hx
 | cons g _ ih=>
  intro x hx;rcases Ak.mp hx with rfl | hx
  .let#[_,b,o,Aa,n,e,h1,_,h2,h3]:=g;show#[b,o,Aa,n,_,e,h1,h2,h3]
  .show ih x hx
theorem Kf ĵ(r:qX Æ7 vs rows) (h2:2<=è):Core prog w A E vs (du vs rows) s:=by
 let#[fs,t,hl,hf]:=r.Yb;have zz:(Ï).toList=vs.zip vs:=#[];unfold Core;exact kat_kind (T:=.type "int") t ⋯ (λ v hv=>?_) rfl #[rfl,?_]
 .let#[n,t,rfl]:=hf v hv;show Looks.of_pure rfl
 .exact za5 (TS.WG (E:=E) (s:=s) Jm (st:=Ã9 _ (Ï) ò 7 none) (Q:=λ _ st=>Ĺ st=none/\du vs rows ((Á st).map ĝ)/\Å=è)
   rfl rfl rfl (λ x hx=>Ul r x (by rw[<- zz];show hx)) λ st FZ hp hu=>?_) (λ a s' z=>#[z.1,z.2]) λ _ _ z=>z
  have hp:(Á st).toList.Perm (Ï).toList:=hp;exact#[FZ,#[(Á st).toList.map λ x=>(x.1,rowOf Æ7 x.1),?_,?_,?_],by exists hp.length_eq]
  .rw[<- Um r];show hp.map _
  .rw[Ej,A0];show Cz λ x hx=>cy (by rw[<- zz];show hp.mem_iff.mp hx)
  .rw[A0,C7];show hu
end
section
variable {X:Cx}
def Paired.perm Å1{l l':List α}(p:l'.Perm l):∀ {m:List β},Paired F l m->∃ m',m'.Perm m/\Paired F l' m':=by
 induction p with
 | nil=>intro m h;show#[m,.refl _,h]
 | cons x _ ih=>
  intro m h;cases h with
  | cons a h=>
   let#[m',h1,h2]:=ih h;show#[_,h1.cons _,ī a h2]
 | swap x y l=>
  intro m h;cases h with
  | cons a h=>
   cases h with
   | cons b h=>show#[_,.swap Ò,ī b (ī a h)]
 | trans _ _ ih1 ih2=>
  intro m h;let#[m1,h1,h2]:=ih2 h;let#[m2,h3,h4]:=ih1 h2;show#[m2,h3.trans h1,h4]
abbrev XE š (v:V) (r:Ð):Prop:=r≠[]/\∃ b,v=V.ref b/\yg K H b (r.map V.int)
abbrev qf š (ys:List V) È1:Prop:=Paired (XE K H) ys rows
abbrev VR š:List ó->ů->Prop:=Paired λ u q=>RelV q.1 u/\XE K H q.1 q.2
theorem VR.of {K:Ac}ń:∀ {ys:List V}ĵ,Vals ys vs->qf K H ys rows->VR K H vs (ys.zip rows)
 | _,_,_,.nil,.nil=>.nil
 | _,_,_,ī r t,ī r' t'=>ī #[r,r'] (VR.of t t')
abbrev lj (qs:ů) (H:Hp) (Q:VK):Prop:=∀ p (ps:ů),H p=none->ps.Perm qs->(ps.map ĝ).Pairwise (λ a b=>Ŧ)->Q (ć p) (upd H p (.lst (Â6)))
def iP {E6:Aj}{σ:L2.St}ń{s:Ŏ}Ĵ{vs:Ah}{qs:ů}{Q:VK}Ä
  (C:∀ Q':List ó->Ŏ->Prop,(∀ h1 tk,(∀ b o,¬ False->ô->h1.get? b=↑o)->ŉ)->wpAny (model Ď) X.A.in1 (collect (ć a)) Q' X.xe s)
  (hv:VR æ vs qs) (FW:qs.length<256) (q:lj qs H Q):wpAny (model Ď) X.A Â5 (EP X E6 σ Q) X.xe s:=by
 have hl:è=qs.length:=Paired.length hv;have hz:qs.length<=ì:=Bj (BG FW) ();have Gh:∀ h6:Heap,(∀ b o,¬ False->ô->h6.get? b=↑o)->qX h6 vs Æ9:=λ h6 k=>by
  clear q hl FW hz C
  induction hv with
  | nil=>show .nil
  | cons g t ih=>
   exact ī ?_ ih;let#[r1,Az,b,e1,hb]:=g;rw[e1] at r1;cases r1;let#[Fz,Hb,#[o,e,hc,n,hd],_]:=I.tuple hb;show#[Az,b,o,_,n,rfl,k Š id e,hc,hd,by exists intsAre_of Hb]
 exact cR (Out:=du vs Æ9) C ⋯ (λ h2 s6 k=>Kf (Gh _ k) h2) (λ h1=>#[vs.zip Æ9,.refl _,by rw[List.map_fst_zip (ŭ)],?_]) λ out h' tk p ho hs hp k E5=>?_
 .rw[List.map_snd_zip (ŭ),CQ];intro i j hi hj Ba;simp at hi hj;lia
 .let#[ps,g1,g2,g3]:=ho;let#[e,he]:=E5;have z:Paired (λ p q=>RelV q.1 p.1/\p.2=q.2) (vs.zip Æ9) qs:=by
   clear g1 hs hl FW hz C Gh q
   induction hv with
   | nil=>show .nil
   | cons a _ ih=>show ī #[a.1,rfl] ih
  let#[G1,q1,q2]:=Paired.perm g1 z;have f:Vals (G1.map (·.1)) (Â6)/\G1.map ĝ=ps.map ĝ:=by
   clear q1 g1 g2 g3
   induction q2 with
   | nil=>show#[.nil,rfl]
   | cons a _ ih=>show#[ī a.1 ih.1,by rw[Ay,Ay,ih.2,a.2]]
  exact#[ć p,_,I.laid (t':=tk) (o:=.lst (G1.map (·.1))) (λ b o e=>k b o id e) hp #[?_,out.toList,e,by rw[g2];show f.1,by exists he],rfl,q p G1 (I.zx.fresh hp) q1 (by rw[f.2];show g3)];rw[AD,q1.length_eq];show hz
end
end L4
namespace L2
open PySem PySem.Spec Ů
def uJ (ty T:String):Bool:=ty == T||(ty == "bool"&&T == "int")
def lQ (ty T:String):Bool:=PySem.W.kitMeta T&&decide ((fastBuiltinMro ty).map (λ l=>l.contains (Value.type T))=↑ Â7)
def Vf:(["NoneType","bool","int","str","tuple","list","dict"].all λ ty=>["int","bool","tuple","list","str"].all λ T=>lQ ty T)=true:=by decide +kernel
def Nt {K:Ac}{ty T:String}(h:lQ ty T=true):PySem.W.kitOne K Ã3=↑ Â7:=by
 unfold lQ at h;rw[Cd] at h;unfold PySem.W.kitOne;split
 .rename_i e;have e':ty=T:=by have:=eq_of_beq e;injection this
  subst e';simp[uJ]
 .change (if PySem.W.kitMeta T=true then PySem.W.subIn K Ã3 else none)=_;rw[Þ h.1];show of_decide_eq_true h.2
def XD š:V->String->Prop
 | .zp,t=>t="NoneType"
 | .bl _,t=>t="bool"
 | ś _,t=>t="int"
 | .str _,t=>t="str"
 | ć a,t=>(t="tuple"/\∃ xs,yg K H a xs)\/(t="list"/\∃ xs,zP K H a xs)\/(t="dict"/\∃ Ab,Ç0)
 | _,_=>False
def KG {X:Cx}:yF X (.builtin "isinstance") (λ xs H Q=>∃ x T ty,xs=[x,.ty T]/\XD æ x ty/\lQ ty T=true/\Q (.bl Â7) H):=by
 intro E6 s σ H xs us Q I r h;let#[x,T,ty,rfl,hx,hT,q]:=h;let#[u,c,rfl,ru,rc]:=vals2 r;cases (show c=Value.type T from rc);have e:PySem.W.kitOne X.K Ã3=↑ Â7:=Nt hT;have fin:∀ tk,EP X E6 σ Q (.bool Â7) { s with toks:=tk }:=λ tk=>#[.bl _,H,I.tok tk,rfl,q];cases x with
 | zp=>cases (show u=Value.none from ru);cases ŧ;show Ċ PySem.W.kitx_none I.xy ı é
 | bl y=>cases (show u=Value.bool y from ru);cases ŧ;show Ċ PySem.W.kitx_bool I.xy ı é
 | int i=>let#[t,rfl]:=(show ∃ t,u=Value.int i t from ru);cases ŧ;show Ċ PySem.W.kitx_int I.xy ı é
 | str y=>let#[t,rfl]:=(show ∃ t,u=Value.str y t from ru);cases ŧ;show Ċ PySem.W.kitx_str I.xy ı é
 | ref a=>
  cases (show u=Value.ref a from ru);rcases hx with ⟨rfl,ys,hq⟩ | ⟨rfl,ys,hq⟩ | ⟨rfl,Ab,hq⟩
  .let#[Aa,_,#[o,h1,h2,_],_]:=I.tuple hq;show Ċ PySem.W.kitx_tuple I.xy #[o,h1,h2] é
  .let#[Aa,_,#[o,n,h1,h2,_],_]:=I.list hq;show Ċ PySem.W.kitx_list I.xy #[o,h1,h2] é
  .let#[_,_,vs,_,p]:=(show yS Ď H Æ7 a ļ from I.zx a _ hq)
   let#[o,es,ep,h1,h2,_]:=p;show Ċ PySem.W.kitx_dict I.xy #[o,h1,h2.1] é
 | _=>show hx.elim
end L2
namespace L3
open PySem PySem.Spec L2
open Ů hiding St
section
variable {X:Cx}{K:Ac}{a e:Expr}{es:List Expr}{te:zv}{tA:ym}{pos p q:Pos}
def RA (hm:X.mg "len"=none) ü (hg:Gl X "len") Ú:PD X (.Call (ċ "len" p) Ĳ) (xr u3 tA):=
 uF (uE (KC.or KA) hg hm PySem.boot_len ĳ) u3.mo u3.fits ha.mo
def R9 (hm:X.mg "list"=none) ü (hg:Gl X "list") Ú:PD X (.Call (ċ "list" p) Ĳ) (xr uz tA):=
 uF (nA K8 hg hm PyProof.Rows.boot_list ĳ) uz.mo uz.fits ha.mo
def Rc (hm:X.mg "tuple"=none) ü (hg:Gl X "tuple") Ú:PD X (.Call (ċ "tuple" p) Ĳ) (xr uv tA):=
 uF (nA Kw hg hm PyProof.Rows.boot_tuple ĳ) uv.mo uv.fits ha.mo
abbrev Yg:xt:=vY λ i j=>ś (if j>i then j else i)
abbrev Yf:xt:=vY λ i j=>ś (if j<i then j else i)
def R1 (hm:X.mg "max"=none) ü (hc:X.calm=true) (hg:Gl X "max") Ú:PD X (.Call (ċ "max" p) Ĳ) (xr Yg tA):=
 uF (uE (K7 hc) hg hm boot_max ĳ) Å2
def Rw (hm:X.mg "min"=none) ü (hc:X.calm=true) (hg:Gl X "min") Ú:PD X (.Call (ċ "min" p) Ĳ) (xr Yf tA):=
 uF (uE (K6 hc) hg hm boot_min ĳ) Å2
def v8 (r:Ð):D:=Ÿ (r.map D.int)
theorem zk.kl ń:∀ {ps:ů},(∀ q∈ps,zg K H (v8 q.2) q.1)->zk K H ((ps.map ĝ).map v8) (Â6)
 | [],_=>.nil
 | q::ps,h=>ī (h q Al) (zk.kl λ q hq=>h q (Av _ hq))
theorem zk.lG ń:∀ {rows:ñ}{ys:List V},zk K H (rows.map v8) ys->∀ q∈ys.zip rows,zg K H (v8 q.2) q.1
 | [],ys,_,q,hq=>by simp at hq
 | r::rows,ys,h,q,hq=>by
  rw[Ay] at h;simp![zk] at h;let#[x,HI,rfl,h1,h3]:=h;rcases Ak.mp hq with e | hq
  .subst e;show h1
  .show zk.lG h3 q hq
theorem kc ń:∀ {rows:ñ}{ys:List V},zk K H (rows.map v8) ys->(∀ r∈rows,r≠[])->L4.qf K H ys rows
 | [],ys,h,_=>by simp![BF,zk] at h;subst h;show .nil
 | r::rows,ys,h,hn=>by
  rw[Ay] at h;simp![zk,v8,zg] at h;let#[x,HI,rfl,#[a,xs,rfl,g1,g2],h3]:=h;rw[g2.ints] at g1;show ī #[hn r Al,a,rfl,g1] (kc h3 λ r' hr=>hn r' (Av _ hr))
def SK {tg:Expr}(hm:X.mg "range"=none) (ha:y_ X [a] tA) (hg:Gl X "range") (hs:starEach [a] X.env=[(Õ,eval a X.env)]):uW X tg (.Call (ċ "range" p) [a] [] pos) (fj tA):=SM (UY hg hm ha.pa hs) ha.mo
def rj (d:D) (S:SS):ě String:=match d with
 | .zp=>↑"NoneType"
 | .bl _=>↑"bool"
 | ś _=>↑"int"
 | .str _=>↑"str"
 | Ÿ _=>↑"tuple"
 | .x_ _=>↑"list"
 | ć p=>match S p with
  | some (.lst _)=>↑"list"
  | some (.yv _)=>↑"dict"
  | _=>none
 | .err Ò=>none
def mO (T:String) (te:zv):zv:=fun δ S Q=>te δ S λ x S1=>match rj x S1 with
 | some ty=>Q (.bl Â7) S1
 | _=>False
theorem rj.ok ń{d:D}{v:V}Œ{ty:String}(r:zg K H d v) (p:zN K H S) (h:rj d S=↑ty):XD K H v ty/\ty∈["NoneType","bool","int","str","tuple","list","dict"]:=by
 cases d with
 | err _ _ _=>cases h
 | tup ds=>
  ext Â0;show#[.inl #[rfl,xs,g1],#[]]
 | x_ ds=>
  ext Â0;show#[.inr (.inl #[rfl,xs,g1.sq]),#[]]
 | ref a=>
  ext ĩ;subst r;unfold rj at h;dsimp only at h;split at h
  .ext Ã2;show#[.inr (.inl #[rfl,xs,zP.of g1]),#[]]
  .ext Ã2;show#[.inr (.inr #[rfl,xs,g1]),#[]]
  .cases h
 | _=>ext ĩ;subst r;cases h;show#[rfl,#[]]
def gz {T:String}{x:Str}(hT:T∈["int","bool","tuple","list","str"]) (hm:X.mg "isinstance"=none) (Hk:X.mg x=none) (hv:bootBuiltins x=↑(.type T)) (GO:Gl X x) (hn:x≠"__name__") (hd:(x == ("__debug__":Str))=Õ) ë
  (h1:AJ X e [ċ x q]) (h2:AO X pos [ċ x q]) (h3:AJ X (ċ x q) []):
  PD X (.Call Ņ [e,ċ x q] [] pos) (mO T te):=by
 exact#[fun δ S Q Q' hq z=>he.mo δ S Š (λ y S1 z=>?_) z,PE.imp (uE KG hg hm boot_isinstance (qA he.pe (qA (TK (v:=.ty T) GO Hk hv rfl hn hd) pX h3) h1) () () h1 h2) fun σ H Q hu=>?_]
 .split at z
  .show hq Š z
  .show z
 .let#[δ,S,r1,r2,z]:=hu;exact zK.go he.mo r1 r2 z λ y S1 v H1 z1 q1 e1 p1=>?_;split at z1
  .rename_i ty ht;let#[g1,g2]:=rj.ok q1 p1 ht;exact#[v,T,ty,rfl,g1,?_,z1 _ H1 (Ŝ) e1 p1];show BN.mp (BN.mp Vf ty g2) T hT
  .show z1.elim
def RG (T:Bt X.mg) ë (GO:Gl X "bool") (h1:AJ X e [Ç1]) (h2:AO X pos [Ç1]) (h3:AJ X (Ç1) []):
  PD X (.Call Ņ [e,Ç1] [] pos) (mO "bool" te):=gz #[] T.isinstance T.bool PyProof.Rows.boot_bool Ź
def RF (T:Bt X.mg) ë (GO:Gl X "int") (h1:AJ X e [ċ "int" q]) (h2:AO X pos [ċ "int" q]) (h3:AJ X (ċ "int" q) []):
  PD X (.Call Ņ [e,ċ "int" q] [] pos) (mO "int" te):=gz #[] T.isinstance T.int PyProof.Rows.boot_int Ź
def RE (T:Bt X.mg) ë (GO:Gl X "tuple") (h1:AJ X e [Ä6]) (h2:AO X pos [Ä6]) (h3:AJ X (Ä6) []):
  PD X (.Call Ņ [e,Ä6] [] pos) (mO "tuple" te):=gz #[] T.isinstance T.tuple PyProof.Rows.boot_tuple Ź
def R5 {o:Expr}{to:zv}{apos Aq:Pos}(ho:PD X o to) (he:PD X e te)
  (F6:attributeBase o "append" X.env (eval o X.env)=eval o X.env)
  (AZ:((backTo Aq (starEach [e] X.env)).all (λ x=>!x.1)&&(backToKw Aq (keywordEach [] X.env)).all (λ x=>x.1.isSome)
   && decide ([e].length+([]:List Keyword).length+(if ([]:List Keyword).isEmpty then 0 else 1)<30))=true)
  (F4:(apos.endLine == Aq.line)=true) (hs:AJ X e []) (FI:AO X Aq []):
  PD X (.Call (.Attribute o "append" apos) [e] [] Aq) (rZ to te):=
 Qc (o:=o) (e:=e) (af PySem.F.plainAttrs_list PySem.F.slot_list_append PySem.F.type_list_append aP ho.pe (qA he.pe pX hs) F6 AZ F4 hs FI) ho.mo he.mo
structure FD (P:Program) (w:World) (K:Ac) (mg:AA) (base:Heap) (x:Str) (k:Nat) (ps:List Str) (sp:wJ):Prop where
 ex:∃ (f:Addr) (fd:FuncData),wL P w K mg base xa k f fd ps (vx K sp)/\mg x=↑(ć f)/\PySem.W.keepIn K (ć f)=true/\Binds K fd ps []
 mo:qj sp
def R_ {x:Str}{k:Nat}{ps:List Str}{sp:wJ}(F:FD Ď X.K X.mg X.base x k ps sp) (hr:yh k X.A) ü (hg:Gl X x) (BI:(x == ("__debug__":Str))=Õ)
  Ú:PD X (.Call (ċ x p) Ĳ) (jk sp tA):=by
 let#[#[f,fd,h1,h2,h3,h4],hm]:=F;show Qa (E:=E0) (TJ h1 hr hg h2 h3 h4 .nil km ha.pa BI he Ap) hm ha.mo
end
def Lq Œ{p:Addr}í{Q:DK}Á0 (h:Q (Ÿ ds) S):uv [ć p] S Q:=by
 unfold uv;ext Ã4
def Lr Œ{d:D}í{Q:DK}(e:zV d S=↑ds) (h:∀ p,S p=none->Q (ć p) (ups S p (.lst ds))):uz [d] S Q:=by
 unfold uz;ext Ã4
def Ls Œ{d:D}í{Q:DK}(e:zV d S=↑ds) (h:Q (ś ds.length) S):u3 [d] S Q:=by
 unfold u3;ext Ã4
def Vl Œ{p:Addr}í{Q:Bool->SS->Prop}Á0 (h:Q (!ds.isEmpty) S):vL (ć p) S Q:=by
 unfold vL;ext Ã4
def Lx Œ{p:Addr}í Á1 Á0 Ķ:wG (ć p) (ś i) S Q:=by
 unfold wG;ext Đ;rw[e];ext Đ;rw[e2];show h
def Lu Œ í Á1 Ķ:wG (Ÿ ds) (ś i) S Q:=by
 unfold wG;ext Đ;rw[e2];show h
def Lv Œ í Á1 Ķ:wG (.x_ ds) (ś i) S Q:=by
 unfold wG;ext Đ;rw[e2];show h
inductive T where
 | zp | bl (b:Bool) | int (i:Int) | str (x:Str) | tup (ts:Ĉ) | lst (ts:Ĉ) | xh | err (c f:Str) (t:T)
mutual
def eqT:T->T->Bool
 | .zp,.zp=>true
 | .bl a,.bl b=>a == b
 | .bl a,ś b=>(if a then 1 else 0) == b
 | ś a,.bl b=>a == (if b then 1 else 0)
 | ś a,ś b=>a == b
 | .str a,.str b=>a == b
 | Ÿ a,Ÿ b=>x9 a b
 | .lst a,.lst b=>x9 a b
 | .xh,.xh=>true
 | .err a b t,.err c d u=>a == c&&(b == d&&eqT t u)
 | _,_=>Õ
def x9:Ĉ->Ĉ->Bool
 | [],[]=>true
 | a::as,b::bs=>eqT a b&&x9 as bs
 | _,_=>Õ
end
mutual
def dep:T->Nat
 | Ÿ ts=>1+xI ts
 | .lst ts=>1+xI ts
 | .xh=>Ő
 | .err Ò=>Ő
 | _=>0
def xI:Ĉ->Nat
 | []=>0
 | t::ts=>max (dep t) (xI ts)
end
def gD:Ĉ->Bool
 | []=>true
 | ś _::ts=>gD ts
 | _=>Õ
def Q0 (ns:Ð):gD (ns.map T.int)=true:=by
 induction ns with
 | nil=>rfl
 | cons n ns ih=>show ih
mutual
def Sn (S:SS):T->D->Prop
 | .zp,d=>d=.zp
 | .bl b,d=>d=.bl b
 | ś i,d=>d=ś i
 | .str x,d=>d=.str x
 | Ÿ ts,d=>∃ ds,d=Ÿ ds/\õ
 | .lst ts,d=>∃ ds,((d=.x_ ds/\gD ts=true)\/∃ a,d=ć a/\S a=↑(.lst ds))/\õ
 | .xh,d=>∃ a Ab,(d=ć a/\Ab=[])/\S a=↑(.yv Ab)
 | .err c f t,d=>∃ x,d=.err c f x/\Sn S t x
def zj (S:SS):Ĉ->List D->Prop
 | [],ds=>ds=[]
 | t::ts,ds=>∃ c cs,ds=c::cs/\Sn S t c/\zj S ts cs
end
mutual
theorem fY:∀ t:T,eqT t t=true
 | .zp=>ŝ
 | .bl b=>ŝ
 | ś i=>ŝ
 | .str x=>ŝ
 | Ÿ ts=>by simp![eqT];show je ts
 | .lst ts=>by simp![eqT];show je ts
 | .xh=>ŝ
 | .err Š t=>by simp[eqT,fY t]
theorem je:∀ ts:Ĉ,x9 ts ts=true
 | []=>Ä7
 | t::ts=>by simp![x9,fY t,je ts,DG]
end
theorem fX:∀ ts us:Ĉ,x9 ts us=((List.range (min î Ŋ)).all (λ j=>eqT ł (us.getD j .zp))&&î == Ŋ)
 | [],[]=>Ä7
 | [],_::_=>Ä7
 | _::_,[]=>Ä7
 | t::ts,u::us=>by
  simp![x9,fX ts us,AX];rw[show min (î+1) (Ŋ+1)=min î Ŋ+1 by lia,List.range_succ_eq_map,List.all_cons,List.all_map];have:(î+1 == Ŋ+1)=(î == Ŋ):=by rw[Bk];simp
  rw[this,Bool.and_assoc];rfl
theorem zj.length Œ:∀ Ä2 í,õ->î=ds.length
 | [],ds,h=>by simp![zj] at h;subst h;rfl
 | t::ts,ds,h=>by
  simp![zj] at h;let#[c,cs,rfl,_,h2]:=h;simp[zj.length h2]
section
variable {X:Cx}{ß}{Œ}
theorem Z2 Ä Ĵ{xs ys:List V}È2 (h2:zP æ a ys):False:=by
 ext Č;let#[_,_,#[o',n,e',c',_],_]:=I.list h2;ext ą
 injection c' with q
 show Æ4 q ()
def Sn.tG Ħ Ä2 Ľ(h:Sn S (.lst ts) d) (r:ĥ):∃ a xs ds,x=ć a/\zP æ a xs/\À4/\õ:=by
 ext Æ0;obtain⟨ds,⟨h,_⟩ | ⟨a,h,e⟩,h2⟩:=h
 .subst h;ext Ä3;show#[a,xs,ds,rfl,g1.sq,g2,h2]
 .subst h;ext ĩ;let#[xs,g1,g2]:=p Š e;show#[a,xs,ds,r,zP.of g1,g2,h2]
def Sn.tp Ä2 Ľ(h:Sn S (Ÿ ts) d) (r:ĥ):∃ a xs ds,x=ć a/\yg æ a xs/\À4/\õ:=by
 ext Æ0;let#[ds,rfl,h2]:=h;ext Ä3;show#[a,xs,ds,rfl,g1,g2,h2]
def Sn.rX Ħ Ľ(h:Sn S .xh d) (r:ĥ):∃ a vs,x=ć a/\Ń:=by
 ext Æ0;let#[a,Ab,#[rfl,_],e]:=h;ext ĩ;let#[xs,g1,g2]:=p Š e;show#[a,xs,r,g1]
def Z9 Ä Ĵ{vs:ý}(h:Ń):∃ o,À2 a=↑o/\o.cls=.type "dict":=by
 let#[_,_,_,_,o,_,_,e,c]:=(show yS Ď H Æ7 a (.dK vs) from I.zx a _ h)
 show#[o,e,c.1.1]
theorem Z5 Ä Ĵ ľ{vs:ý}È2 (h2:Ń):False:=by
 ext Č;ext È3
 injection c' with q
 show Æ4 q ()
theorem Z8 Ä Ĵ ľ{vs:ý}(h1:zP æ a xs) (h2:Ń):False:=by
 ext Ŷ;ext È3
 injection c' with q
 show Æ4 q ()
theorem Sn.flat {t:T}Ľ(h:Å8) (r:ĥ):match t with
  | .zp=>x=.zp
  | .bl b=>x=.bl b
  | ś i=>x=ś i
  | .str y=>x=.str y
  | _=>True:=by
 cases t <;> first
  | trivial
  | (ext Æ0;subst h;simpa only [zg] using r)
def Sn.sV {c f:Str}{t:T}Ľ(h:Sn S (.err c f t) d) (r:ĥ):∃ e C dx w y,x=ć e/\(lC X.K c C/\Â8/\Xd H f w dx)/\Sn S t y/\zg æ y w:=by
 ext Æ0;let#[y,rfl,h]:=h;ext ĩ;let#[e,C,dx,w,r1,r2,r3]:=r;show#[e,C,dx,w,y,r1,r2,h,r3]
def kP Ä {e C:Addr}{dx:ě Addr}(h:Â8):∃ oe vs,À2 e=↑oe/\oe.cls=ć C/\oe.dict=dx/\oe.data=.fields vs:=(show yS Ď H Æ7 e (s_ e C dx) from I.zx e _ h).1
def Z4 Ä Ũ ľ È2 ũ:False:=by
 ext Č;ext ű
def Z7 Ä Ũ ľ(h1:zP æ a xs) ũ:False:=by
 ext Ŷ;ext ű
def ZA Ä Ũ{vs:ý}(h1:Ń) ũ:False:=by
 rw[h1] at h2;cases h2
def NF Ä {e C C':Addr}{dx dx':ě Addr}(h1:Â8) (h2:H e=↑(s_ e C' dx')):C=C'/\dx=dx':=by
 let#[o,_,e1,c1,d1,_]:=kP I h1;let#[o',_,e2,c2,d2,_]:=kP I h2;rw[e1] at e2;cases e2;rw[c1] at c2;rw[d1] at d2;cases c2;cases d2;show#[rfl,rfl]
def Xd.inj ń{f f':Str}{w w':V}{dx:ě Addr}(h1:Xd H f w dx) (h2:Xd H f' w' dx):f=f'/\w=w':=by
 cases dx with
 | none=>show#[h1.1.trans h2.1.symm,h1.2.trans h2.2.symm]
 | some x=>have:=Ş h2;cases this;show#[rfl,rfl]
def lC.inj {K:Ac}{c c':Str}{C:Addr}(h1:lC K c C) (h2:lC K c' C):c=c':=by
 let#[_,_,_,#[#[#[_,_,_,_,_,_,_,_,_,_,_,_,a],_],_,_,_,_]]:=h1;let#[_,_,_,#[#[#[_,_,_,_,_,_,_,_,_,_,_,_,b],_],_,_,_,_]]:=h2;rw[a] at b;cases b;rfl
mutual
theorem lP Ä Ħ:∀ (t u:T) {d e:D}{x:V},Å8->Sn S u e->ĥ->zg æ e x->t=u
 | Ÿ ts,u,d,e,x,h1,h2,r1,r2=>by
  let#[a,xs,ds,rfl,g1,g2,g3]:=h1.tp r1;cases u with
  | xh=>ext Î;show (Z5 I g1 g).elim
  | err _ _ _=>ext ť;show (Z4 I g1 g.2.1).elim
  | tup us=>
   ext Ś;have:=I.i9 g1 k1;ext Ä5
  | lst us=>
   ext Ŕ;show (Z2 I g1 k1).elim
  | _=>show ï
 | .lst ts,u,d,e,x,h1,h2,r1,r2=>by
  let#[a,xs,ds,rfl,g1,g2,g3]:=h1.tG p r1;cases u with
  | xh=>ext Î;show (Z8 I g1 g).elim
  | err _ _ _=>ext ť;show (Z7 I g1 g.2.1).elim
  | lst us=>
   ext Ŕ;have:=I.gW g1 k1;ext Ä5
  | tup us=>
   ext Ś;show (Z2 I k1 g1).elim
  | _=>show ï
 | .zp,u,d,e,x,h1,h2,r1,r2=>by
  ext Ň;cases u with
  | xh=>ext Î
  | err _ _ _=>ext á
  | zp=>rfl
  | tup us=>ext ù
  | lst us=>ext ð
  | _=>show ï
 | .bl b,u,d,e,x,h1,h2,r1,r2=>by
  ext Ň;cases u with
  | xh=>ext Î
  | err _ _ _=>ext á
  | bl _=>ext À8
  | tup us=>ext ù
  | lst us=>ext ð
  | _=>show ï
 | ś b,u,d,e,x,h1,h2,r1,r2=>by
  ext Ň;cases u with
  | xh=>ext Î
  | err _ _ _=>ext á
  | int _=>ext À8
  | tup us=>ext ù
  | lst us=>ext ð
  | _=>show ï
 | .str b,u,d,e,x,h1,h2,r1,r2=>by
  ext Ň;cases u with
  | xh=>ext Î
  | err _ _ _=>ext á
  | str _=>ext À8
  | tup us=>ext ù
  | lst us=>ext ð
  | _=>show ï
 | .err c f t,u,d,e,x,h1,h2,r1,r2=>by
  let#[a,C,dx,w,y,rfl,#[g1,g2,g3],g4,g5]:=h1.sV r1;cases u with
  | err c' f' t'=>
   let#[a',C',dx',w',y',q,#[k1,k2,k3],k4,k5]:=h2.sV r2;cases q;let#[rfl,rfl]:=NF I g2 k2;let#[rfl,rfl]:=g3.inj k3;cases g1.inj k1;rw[lP I p t t' g4 k4 g5 k5]
  | xh=>ext Î;show (ZA I g g2).elim
  | tup us=>let#[_,_,_,q,k1,_]:=h2.tp r2;cases q;show (Z4 I k1 g2).elim
  | lst us=>let#[_,_,_,q,k1,_]:=h2.tG p r2;cases q;show (Z7 I k1 g2).elim
  | _=>show ï
 | .xh,u,d,e,x,h1,h2,r1,r2=>by
  let#[a,vs,rfl,g]:=h1.rX p r1;cases u with
  | xh=>rfl
  | err _ _ _=>let#[_,_,_,_,_,q,g',_]:=h2.sV r2;cases q;show (ZA I g g'.2.1).elim
  | tup us=>let#[_,_,_,q,g1,_]:=h2.tp r2;cases q;show (Z5 I g1 g).elim
  | lst us=>let#[_,_,_,q,g1,_]:=h2.tG p r2;cases q;show (Z8 I g1 g).elim
  | _=>show ï
theorem i8 Ä Ħ:∀ (ts us:Ĉ) {ds es:List D}ľ,õ->zj S us es->À4->zk æ es xs->ts=us
 | [],us,ds,es,xs,h1,h2,r1,r2=>by
  have e:=Ě;cases us with
  | nil=>rfl
  | cons _ _=>simp at e
 | t::ts,[],ds,es,xs,h1,h2,r1,r2=>by
  have e:=Ě;simp at e
 | t::ts,u::us,ds,es,xs,h1,h2,r1,r2=>by
  simp![zj] at h1 h2;let#[c,cs,rfl,a1,a2]:=h1;let#[c',Hu,rfl,b1,b2]:=h2;simp![zk] at r1 r2;let#[y,ys,rfl,g1,g2]:=r1;let#[y',HI,q,k1,k2]:=r2;cases q;rw[lP I p t u a1 b1 g1 k1,i8 I p ts us a2 b2 g2 k2]
end
theorem zj.get Ä2 í(h:õ):∀ {j:Nat},j<î->∃ c,ds[j]?=↑c/\Sn S ł c:=by
 induction ts generalizing ds with
 | nil=>intro j hj;simp at hj
 | cons t ts ih=>
  intro j hj;simp![zj] at h;let#[c,cs,rfl,h1,h2]:=h;cases j with
  | zero=>show#[c,rfl,h1]
  | succ j=>
   let#[c',e,h3]:=ih h2 (j:=j) (by exists hj);show#[c',by simpa using e,by exists h3]
theorem jj:∀ Ä2{j:Nat},j<î->dep ł<=xI ts
 | [],j,h=>by simp at h
 | t::ts,0,_=>by simp![xI,List.getD_cons_zero];lia
 | t::ts,j+1,h=>by
  have:=jj (ts:=ts) (j:=j) (by exists h);simp![xI,List.getD_cons_succ];lia
inductive qV š (S:SS) (s:Ŏ):T->ó->Prop
 | zp:qV K H S s .zp .none
 | bl {b:Bool}:qV K H S s (.bl b) (.bool b)
 | int {i:Int}{k:Tok}:qV K H S s (ś i) (ś i k)
 | str {i:Str}{k:Tok}:qV K H S s (.str i) (.str i k)
 | tup Ä2 í Ĩ (h:s.heap.IsTuple l us.toArray):qV K H S s (Ÿ ts) (ć l)
 | lst Ä2 í Ĩ (h:s.heap.IsList l us.toArray):qV K H S s (.lst ts) (ć l)
def bj Ä Ħ {t:T}Ľ{a:ó}(h:Å8) (r:ĥ) (v:RelV x a) (z:dep t<Ő):qV æ S s t a:=by
 cases t with
 | zp=>ext Ť;cases v;show .zp
 | bl _=>ext Ť;cases v;show .bl
 | int _=>ext Ť;let#[_,rfl]:=v;show ś
 | str _=>ext Ť;let#[_,rfl]:=v;show .str
 | tup _=>let#[l,xs,ds,rfl,g,r,q]:=h.tp r;cases v;let#[_,w,i,_]:=I.tuple g;show Ÿ q r w i
 | lst _=>let#[l,xs,ds,rfl,g,r,q]:=h.tG p r;cases v;let#[_,w,i,_]:=I.list g;show .lst q r w i.isList
 | _=>simp![dep] at z;lia
abbrev J3 (A:Around) (s:Ŏ) (a b:ó) (k:Bool):Prop:=SeqAt.EqAt A s a b k/\SeqAt.RcAt A s a b k/\SeqAt.RcNeAt A s a b (!k)
theorem Ju Ä Ħ:∀ (n:Nat) Ŭ,dep t<n->Ĭ+dep t<Ő->Ĭ+dep u<Ő->Å8->Sn S u e->ĥ->zg æ e y->RelV x a->RelV y b->J3 A s a b (eqT t u):=by
 intro n
 induction n with
 | zero=>intros;lia
 | succ n ih=>
  intro t u A d e x y a b hn hu Hz h1 h2 r1 r2 v1 v2;have hq:a=b->t=u:=λ z=>by subst z;have:=v1.inj v2;subst this;show lP I p t u h1 h2 r1 r2
  have c1:=bj I p h1 r1 v1 ⋯;have c2:=bj I p h2 r2 v2 ⋯;clear h1 h2 r1 r2 v1 v2;have hA:Ĭ<Ő:=⋯;have el:∀ {ts us:Ĉ}{ds GW:List D}{xs Fg:List V}{is Hy:Ah},1+xI ts<n+1->Ĭ+(1+xI ts)<Ő->Ĭ+(1+xI us)<Ő->õ->zj S us GW->À4->zk æ GW Fg->Vals xs is->Vals Fg Hy->Ç2=î/\Ç3=Ŋ/\
    ∀ (j:Nat) (h1:j<Ç2) (h2:j<Ç3),SeqAt.EqAt A.in1 s is.toArray[j] Hy.toArray[j] (eqT ł (us.getD j .zp)):=by
   intro ts us ds GW xs Fg is Hy a1 a2 a3 g1 g2 r1 r2 v1 v2;have e1:Ç2=î:=by rw[AH,<- v1.length,<- r1.length,<- g1.length]
   have e2:Ç3=Ŋ:=by rw[AH,<- v2.length,<- r2.length,<- g2.length]
   exact#[e1,e2,λ j h1 h2=>?_];let#[_,k1,s1]:=g1.get (e1▸h1);let#[_,k2,s2]:=g2.get (e2▸h2);let#[_,f1,q1]:=r1.get k1;let#[_,f2,q2]:=r2.get k2;let#[w1,o1,m1]:=v1.get f1;let#[w2,o2,m2]:=v2.get f2;have y1:=jj (e1▸h1);have y2:=jj (e2▸h2);let#[_,z1]:=AN.mp o1;let#[_,z2]:=AN.mp o2;rw[List.getElem_toArray,List.getElem_toArray,z1,z2];show (ih Š (A:=A.in1) ⋯ (by change Ĭ+1+_<_;lia) (by change Ĭ+1+_<_;lia) s1 s2 q1 q2 m1 m2).1
  have en:∀ {l l':Addr}{ts us:Ĉ},(Value.ref l=ć l'->ts=us)->SeqAt.RcAt Å3 (x9 ts us)/\SeqAt.RcNeAt Å3 (!x9 ts us)->J3 Å3 (x9 ts us):=λ{l l' ts us} h q=>by
   exact#[?_,q];by_cases z:l=l'
   .subst z;rw[h rfl,je];show .same _
   .show .of_refs z q.1
  cases c1 <;> cases c2 <;> simp![eqT,CY,CZ]
  .show#[.same _,.none_none,.none_none]
  .show#[.none_bool _,.none_bool _,.none_bool _]
  .show#[.none_int Š,.none_int Š,.none_int Š]
  .show#[.none_str Š,.none_str Š,.none_str Š]
  .show#[.none_tuple Â,.none_tuple Â,.none_tuple Â]
  .show#[.none_list Â,.none_list Â,.none_list Â]
  .show#[.bool_none _,.bool_none _,.bool_none _]
  .show#[.bool_bool Š,.bool_bool Š,.bool_bool Š]
  .show#[.bool_int Ò,.bool_int Ò,.bool_int Ò]
  .show#[.bool_str Ò,.bool_str Ò,.bool_str Ò]
  .show#[Ä9,Ä9,Ä9]
  .show#[Ç4,Ç4,Ç4]
  .show#[.int_none Š,.int_none Š,.int_none Š]
  .show#[.int_bool Ò,.int_bool Ò,.int_bool Ò]
  .show#[.int_int Ò _,.int_int Ò _,.int_int Ò _]
  .show#[.int_str Ò _,.int_str Ò _,.int_str Ò _]
  .show#[.int_tuple ÿ,.int_tuple ÿ,.int_tuple ÿ]
  .show#[.int_list ÿ,.int_list ÿ,.int_list ÿ]
  .show#[.str_none Š,.str_none Š,.str_none Š]
  .show#[.str_bool Ò,.str_bool Ò,.str_bool Ò]
  .show#[.str_int Ò _,.str_int Ò _,.str_int Ò _]
  .show#[.str_str Ò _,.str_str Ò _,.str_str Ò _]
  .show#[.str_tuple ÿ,.str_tuple ÿ,.str_tuple ÿ]
  .show#[.str_list ÿ,.str_list ÿ,.str_list ÿ]
  .show#[.tuple_none Â,.tuple_none Â,.tuple_none Â]
  .show#[Å7,Å7,Å7]
  .show#[.tuple_int ÿ,.tuple_int ÿ,.tuple_int ÿ]
  .show#[.tuple_str ÿ,.tuple_str ÿ,.tuple_str ÿ]
  .rename_i g1 r1 v1 k1 _ _ _ _ _ g2 r2 v2 k2;ext ç;show#[.tuples k1 k2 hA q,.tuples k1 k2 hA q]
  .show#[Ų,Ų,Ų]
  .show#[.list_none Â,.list_none Â,.list_none Â]
  .show#[È0,È0,È0]
  .show#[.list_int ÿ,.list_int ÿ,.list_int ÿ]
  .show#[.list_str ÿ,.list_str ÿ,.list_str ÿ]
  .show#[Ž,Ž,Ž]
  .rename_i i1 _ g1 r1 v1 k1 _ _ _ i2 _ g2 r2 v2 k2;ext ç;by_cases z:i1.toArray.size=i2.toArray.size
   .rw[<- z,Nat.min_self,beq_self_eq_true,Bool.and_true];show#[.lists k1 k2 z hA q,.lists k1 k2 z hA q]
   .rw[beq_eq_false_iff_ne.mpr z,CT];have z':=bne_iff_ne.mpr z;show#[.lists_lengths k1 k2 z' hA,.lists_lengths k1 k2 z' hA]
def di Ä Ħ Ŭ(hu:Ĭ+dep t<Ő) (Hz:Ĭ+dep u<Ő) (h1:Å8) (h2:Sn S u e) (r1:ĥ) (r2:zg æ e y) (v1:RelV x a) (v2:RelV y b):J3 A s a b (eqT t u):=Ju I p _ t u (B6 _) hu Hz h1 h2 r1 r2 v1 v2
end
def gm (K:Ac) (neg:Bool):R2:=λ x y H Q=>∃ S d e t u,zg K H d x/\zg K H e y/\zN K H S/\Å8/\Sn S u e/\dep t<=60/\dep u<=60/\Q À9 H
def vC (neg:Bool):yK:=λ x y S Q=>∃ t u,Sn S t x/\Sn S u y/\dep t<=60/\dep u<=60/\Q À9 S
def vC.mo {neg:Bool}:wK (vC neg):=λ _ _ _ _ _ hq #[t,u,a,b,c,d,h]=>#[t,u,a,b,c,d,hq Š h]
def vC.fits {K:Ac}{neg:Bool}:xC K (vC neg) (gm K neg):=λ x y d e H S Q h1 h2 h3 #[t,u,a,b,c,c',h]=>#[S,d,e,t,u,h1,h2,h3,a,b,c,c',h _ H (Ŝ) (.refl H) h3]
section
variable {X:Cx}{a b:Expr}{ta tb:zv}{pos:Pos}
theorem az Á2:yx X (compareOp .Eq) (gm X.K Õ):=by
 ext ú;show (ų).2.1 Ã7
theorem Qm Á2:yx X (compareOp .NotEq) (gm X.K true):=by
 ext ú;show (ų).2.2 Ã7
def RT Ë:PD X (.Compare a [.Eq] [b] pos) (yu (vC Õ) ta tb):=nC (az hr.units) Ţ
def Sh Ë:xm X (.Compare a [.Eq] [b] pos) (ua (yu (vC Õ) ta tb)):=rD (az hr.units) Ţ
def TX Ë:xm X (.Compare a [.NotEq] [b] pos) (ua (yu (vC true) ta tb)):=rD (Qm hr.units) Ţ
def bK (K:Ac) (neg:Bool):R2:=λ x y H Q=>∃ S d e u ts ds,zg K H d x/\zg K H e y/\zN K H S/\Sn S u d/\zV e S=↑ds/\õ/\dep u<=60/\xI ts<=60/\Q Å0 H
def uM (neg:Bool):yK:=λ x y S Q=>∃ u ts ds,Sn S u x/\zV y S=↑ds/\õ/\dep u<=60/\xI ts<=60/\Q Å0 S
def uM.mo {neg:Bool}:wK (uM neg):=λ _ _ _ _ _ hq #[u,ts,ds,a,b,c,d,e,h]=>#[u,ts,ds,a,b,c,d,e,hq Š h]
def uM.fits {K:Ac}{neg:Bool}:xC K (uM neg) (bK K neg):=λ x y d e H S Q h1 h2 h3 #[u,ts,ds,a,b,c,c',c2,h]=>#[S,d,e,u,ts,ds,h1,h2,h3,a,b,c,c',c2,h _ H (Ŝ) (.refl H) h3]
open Classical in
def tW (Aa:Ah) (ts:Ĉ) (u:T) (v:ó):Bool:=if h:∃ j,Aa[j]?=↑v then eqT (ts.getD (Classical.choose h) .zp) u else Õ
def dh ß Œ Ä Ç (u:T) {j:Nat}{v:ó}(hj:Aa[j]?=↑v):
  tW Aa ts u v=eqT ł u:=by
 have h:∃ j,Aa[j]?=↑v:=#[j,hj];unfold tW;rw[dif_pos h];have hc:=Classical.choose_spec h;have lt:∀ i,Aa[i]?=↑v->i<î:=λ i hi=>by
  ext ĭ;show (AN.mp hi).1
 let#[c1,e1,s1]:=h1.get (lt _ hc);let#[c2,e2,s2]:=h1.get (lt _ hj);let#[x1,f1,r1]:=h2.get e1;let#[x2,f2,r2]:=h2.get e2;let#[v1,g1,q1]:=h3.get f1;let#[v2,g2,q2]:=h3.get f2;rw[hc] at g1;cases g1;rw[hj] at g2;cases g2;have hx:=q1.inj q2;subst hx;rw[lP I p Š s1 s2 r1 r2]
theorem X8 ß Œ Ä Ç (u:T):Aa.any Ŵ=Ğ:=by
 have hl:î=Aa.length:=by ext ĭ
 rw[Bk,Bg,Bg];constructor
 .rintro⟨v,hv,h⟩;let#[j,hj,rfl]:=BP.mp hv;rw[ž] at h;have Gn:j<î:=⋯;show#[ts[j],BA Gn,by simpa [Gn] using h]
 .rintro⟨t,ht,h⟩;let#[j,hj,rfl]:=BP.mp ht;have Gn:j<Aa.length:=⋯;show#[Aa[j],BA Gn,by rw[dh I p h1 h2 h3 u (j:=j) (by simp[Gn])];simpa [hj] using h]
def X9 ß Œ Ä Ç {u:T}Ľ{v:ó}(hu:Sn S u d) (hd:ĥ) (hx:RelV x v) {A:Around}(b1:Ĭ+xI ts<Ő) (b2:Ĭ+dep u<Ő) {y:ó}(hy:y∈Aa):
  SeqAt.EqAt A s y v (tW Aa ts u y):=by
 let#[j,hj,rfl]:=BP.mp hy;have hjt:j<î:=by ext ĭ;show hj
 rw[ž];let#[c1,e1,s1]:=h1.get hjt;let#[x1,f1,r1]:=h2.get e1;let#[v1,g1,q1]:=h3.get f1;have:Aa[j]=v1:=by
  have:=AN.mp g1;show this.2
 rw[this];have:=jj hjt;show (di I p _ u (A:=A) ⋯ b2 s1 hu r1 hd q1 hx).1
theorem aw Á2:yx X (compareOp .In) (bK X.K Õ):=by
 intro E6 s σ H x y v w Q I rx ry h;let#[S,d,e,u,ts,ds,a1,a2,a3,a4,a5,a6,a7,a8,q]:=h;let#[l,xs,rfl,g1,g2]:=zV.sq a2 a3 a5;cases ry;rcases g1 with g1 | g1
 .let#[Aa,w1,pl,_]:=I.list g1;exact SeqAt.in_listAt Ŵ pl.isList Ù;ext č
 .let#[Aa,w1,pt,_]:=I.tuple g1;exact SeqAt.in_tupleAt Ŵ pt Ù;ext č
def RI Ë È4:PD X (.Compare a [.In] [b] pos) (yu (uM Õ) ta tb):=nC Ã8
def Sf Ë È4:xm X (.Compare a [.In] [b] pos) (ua (yu (uM Õ) ta tb)):=rD Ã8
end
end L3
namespace L2
open PySem PySem.Spec Ů
section
variable {κ:Type}[DecidableEq κ]
def wu (Ab:Ĝ) (k:κ):ě V:=(Ab.find? å).map ĝ
def putK (Ab:Ĝ) (k:κ) (v:V):Ĝ:=
 if Ç5=true then Ab.map (λ kv=>if kv.1=k then (kv.1,v) else kv) else Ab++[(k,v)]
def ix {p:κ × V}{r:Ĝ}{k:κ}(e:p.1=k):wu (p::r) k=↑p.2:=by simp[wu,Cy,e]
def iy {p:κ × V}{r:Ĝ}{k:κ}(e:¬ p.1=k):wu (p::r) k=wu r k:=by simp[wu,Cy,e]
theorem cA (k:κ):∀ Ab:Ĝ,Ç5=(wu Ab k).isSome
 | []=>rfl
 | p::r=>by
  rw[BE];ext Ż
  .simp![ix e,za2 e,Bool.true_or,Option.isSome_some]
  .rw[iy e,za3 e,Bool.false_or];show cA k r
def Zf (Ab:Ĝ) (k:κ) (v:V):(À5).length<=ŋ+1:=by
 unfold putK;split
 .rw[AD];lia
 .rw[A6,AX,DI];lia
def wt.N8 {o:ě V}{u:ě ó}(r:wt o u):o.isSome=u.isSome:=by
 cases o with
 | none=>cases u with
  | none=>rfl
  | some _=>show Į
 | some _=>cases u with
  | none=>show Į
  | some _=>rfl
theorem wt.getD {o:ě V}{u:ě ó}{d:V}{d':ó}(r:wt o u) (rd:RelV d d'):RelV (o.getD d) (u.getD d'):=by
 cases o with
 | none=>cases u with
  | none=>show rd
  | some _=>show Į
 | some _=>cases u with
  | none=>show Į
  | some _=>show r
def KV.val Ì (k:κ):wt (wu Ab k) (Ç6 vs k):=by
 unfold KV at r
 induction r with
 | nil=>show ı
 | @cons p q ps qs h t ih=>
  let#[h1,h2]:=h;ext Ż
  .have e':q.1=k:=Ş e;have b:Ç6 (q::qs) k=↑q.2:=by simp[Ç6,Cy,e']
   rw[ix e,b];show h2
  .have e':¬ q.1=k:=ņ;have b:Ç6 (q::qs) k=Ç6 qs k:=by simp[Ç6,Cy,e']
   rw[iy e,b];show ih
theorem KV.any Ì (k:κ):Ç5=vs.any å:=by
 unfold KV at r
 induction r with
 | nil=>rfl
 | cons h t ih=>rw[BE,BE,ih,h.1]
def KV.t8 Ì (k:κ) Ä8 ĸ:
  KV Ū (vs.map λ kv=>if kv.1=k then (kv.1,u) else kv):=by
 unfold KV at r ⊢
 induction r with
 | nil=>show .nil
 | @cons p q ps qs h t ih=>
  rw[Ay,Ay];exact ī ?_ ih;let#[h1,h2]:=h;ext Ż
  .rw[Þ e,Þ (Ş e)];show#[h1,ry]
  .rw[Ü e,Ü (ņ)];show#[h1,h2]
def KV.put Ì (k:κ) Ä8 ĸ:KV (putK Ab k y) (stored vs k u):=by
 unfold putK stored;rw[r.any k];by_cases e:(vs.any å)=true
 .rw[Þ e,Þ e];show r.t8 k ry
 .rw[Ü e,Ü e];show Paired.snoc r #[rfl,ry]
theorem KV.length Ì:ŋ=è:=Paired.length r
end
def kM į{k:Key}{u:ó}(r:RelV (kV k) u):(wQ P w).is k u=true:=by
 cases k with
 | inl i=>let#[t,e]:=(show ∃ t,u=Value.int i t from r);subst e;show OG P w i t
 | inr x=>let#[t,e]:=(show ∃ t,u=Value.str x t from r);subst e;show OE P w x t
theorem Zv į:∀ {ks:ē}{us:Ah},Vals (ks.map kV) us->ItemsAre (wQ P w) ks us
 | [],_,r=>by rw[BF] at r;cases r;show .nil
 | k::ks,_,r=>by
  rw[Ay] at r;cases r with
  | cons h t=>show ī (kM h) (Zv t)
abbrev KT (H:Hp):ŵ->Á8->Prop:=Paired λ p q=>p.1=q.1/\H q.2.1=↑(Ÿ (p.1.map kV))/\RelV p.2 q.2.2
def KT.val ń Ê (k:ē):wt (wu Ab k) ((atKey xs k).map ĝ):=by
 induction r with
 | nil=>show ı
 | @cons p q ps qs h t ih=>
  let#[h1,_,h2]:=h;ext Ż
  .have e':q.1=k:=Ş e;have b:atKey (q::qs) k=↑q.2:=by simp[atKey,Cy,e']
   rw[ix e,b];show h2
  .have e':¬ q.1=k:=ņ;have b:atKey (q::qs) k=atKey qs k:=by simp[atKey,Cy,e']
   rw[iy e,b];show ih
def KT.t8 ń Ê (k:ē) Ä8 ĸ:
  KT H Ū (xs.map (putAt k u)):=by
 induction r with
 | nil=>show .nil
 | @cons p q ps qs h t ih=>
  rw[Ay,Ay];exact ī ?_ ih;let#[h1,h2,h3]:=h;unfold putAt;ext Ż
  .rw[Þ e,Þ (Ş e)];show#[h1,h2,ry]
  .rw[Ü e,Ü (ņ)];show#[h1,h2,h3]
def KT.put ń Ê (k:ē) {b:Addr}Ä8(hb:ş) ĸ:
  KT H (putK Ab k y) (storedH xs k b u):=by
 have e:Ç5=(atKey xs k).isSome:=by
  rw[cA,(r.val k).N8,Option.isSome_map]
 unfold putK storedH;rw[e];by_cases q:(atKey xs k).isSome=true
 .rw[Þ q,Þ q];show r.t8 k ry
 .rw[Ü q,Ü q];show Paired.snoc r #[rfl,hb,ry]
def KT.keeps {H H':Hp}Ê (ht:∀ b ys,H b=↑(Ÿ ys)->H' b=↑(Ÿ ys)):KT H' Ab xs:=
 Paired.nM r λ _ _ z=>#[z.1,ht Š z.2.1,z.2.2]
section
variable {į}{ń}{Å9}{Ĵ}
def b9 {u:HO}ģ (e:Rd H a u):yS P w H h a u:=e.ok ok
def oG {Ab:ý}ģ (e:Rd H a ļ):Ĕ:=
 show yS P w H h a ļ from b9 ok e
def LK {Ab:ý}ģ (e:Ç0):Ĕ:=oG ok (.inl e)
def kK {ks:ē}ģ (e:H a=↑(Ÿ (ks.map kV))):(Â9).is h ks a:=by
 let#[_,Aa,r,o,h1,h2,n,h3]:=(show yS P w H h a (Ÿ (ks.map kV)) from ok a _ e)
 show#[o,Aa.toArray,n,h1,h2,h3,by exists Zv r]
def mG {Ab:ŵ}ģ (e:Rd H a (.dT Ab)):ā:=by
 let#[z,y,xs,r,o,es,ep,h1,h2,h3,h4,h5]:=(show yS P w H h a (.dT Ab) from b9 ok e)
 exact#[z,y,xs,r,o,es,ep,h1,h2,h3,h4,λ x hx=>?_,h5];have all:∀ {l:ŵ}{m:Á8},KT H l m->∀ x∈m,(Â9).is h x.1 x.2.1:=by
  intro l m q
  induction q with
  | nil=>intro x hx;show nomatch hx
  | @cons p q ps qs hq t ih=>
   intro x hx;rcases Ak.mp hx with e | hx
   .subst e;show kK ok (by rw[<- hq.1];show hq.2.1)
   .show ih x hx
 show all r x hx
def LF {Ab:ŵ}ģ (e:H a=↑(.dT Ab)):ā:=mG ok (.inl e)
end
def ra (H:Hp) (a:Addr) (y:V) (r:ě V):Prop:=
 (∃ Ab k,Rd H a ļ/\y=kV k/\r=wu Ab k)\/∃ Ab k b,Rd H a (.dT Ab)/\y=ć b/\ş/\r=wu Ab k
def lD (H:Hp) (a:Addr) (y v:V) (H':Hp):Prop:=
 (∃ Ab k,Ç0/\y=kV k/\ŋ<ì/\H'=upd H a (.dK (À5)))\/
 ∃ Ab k b,H a=↑(.dT Ab)/\y=ć b/\ş/\ŋ<ì/\H'=upd H a (.dT (À5))
theorem ra.k ń Ĵ{Ab:ý}{k:Key}(e:Ç0):ra H a (kV k) (wu Ab k):=.inl #[Ab,k,.inl e,rfl,rfl]
theorem lD.k ń Ĵ{Ab:ý}{k:Key}{v:V}(e:Ç0) (hl:ŋ<ì):lD H a (kV k) v (upd H a (.dK (À5))):=.inl #[Ab,k,e,rfl,hl,rfl]
section
variable {X:Cx}{ß}{Ĵ}{y v:V}{u r:ó}{o:ě V}{A:Around}{E:Af}
theorem Inv.big Ä:sysModules<Ę:=by
 have h:mainGlobals<Ę:=(I.mod.glob.keeps I.bk).lt;show B4 () h
def LV {Q:Af}(hu:Ĭ+1<Ő) Ä (g:ra H a y ↑v) ĸ (h:∀ w' s',Inv X E6 σ H s'->RelV v w'->Q w' s'):
  wpAny (model Ď) A (getItem (ć a) u) Q E s:=by
 rcases g with ⟨Ab,k,e,ey,l⟩ | ⟨Ab,k,b,e,ey,eb,l⟩
 .subst ey;let#[z,hd,vs,rel,dd]:=oG I.zx e;let#[w',hw,GG]:=wt.some_of (v:=v) (o:=Ç6 vs k) (by rw[l];show rel.val k);show wpAny_getItem_of (kM ry) dd.mapOf hw (h w' _ (I.tok _) GG)
 .subst ey;cases (show u=Value.ref b from ry);let#[z,hd,xs,rel,dd]:=mG I.zx e;let#[w',hw,GG]:=wt.some_of (v:=v) (o:=(atKey xs k).map ĝ) (by rw[l];show rel.val k);let#[p,hp,oz]:=AF.mp hw;exact wpAny_getItem_heap Â1 hp ?_;rw[oz];show h w' _ (I.tok _) GG
def Y0 {h':Heap}{t':Nat}{ob:HO}Ä (mu:lp (H a)) (hs:Heap.SameBut a Æ7 h') (he:∃ q,h'.get? a=↑q) (new:yS Ď (upd H a ob) h' a ob):
  Inv X E6 σ (upd H a ob) { s with heap:=h',toks:=t' }:=
 I.write (x:=a) (e:=a) mu (.inl rfl) (λ b q hb z=>(hs.2 b hb).trans z) he new
def LL į{H':Hp}{h':Heap}{Ab:ý}{vs:List (Key× ó)}(z:ŋ<=ì) (hd:Ã0) (rel:KV Ab vs) (dd:h'.DictOf (wQ P w) a vs):
  yS P w H' h' a ļ:=#[z,hd,vs,rel,dd]
def LS {H':Hp}{Q:Unit->Ŏ->Prop}(hu:Ĭ+1<Ő) Ä (g:lD H a y v H') ĸ (rv:RelV v r) (h:∀ s',Inv X E6 σ H' s'->Q Unit.unit s'):
  wpAny (model Ď) A (setItem (ć a) u r) Q E s:=by
 rcases g with ⟨Ab,k,e,ey,l,eH⟩ | ⟨Ab,k,b,e,ey,eb,l,eH⟩
 .subst ey eH;let#[z,hd,vs,rel,dd]:=LK I.zx e;have hz:è<=ì:=by rw[<- rel.length];show z
  ext Ř
  exact wpAny_setItem_pairs (hsz:=hz) (kM ry) dd λ h' dd' hs=>h _ ?_;have he:∃ q,h'.get? a=↑q:=let #[q,_,_,hq,_]:=dd';#[q,hq]
  show Y0 I (by rw[e];show ı) hs he (LL hl hd (rel.put k rv) dd')
 .subst ey eH;cases (show u=Value.ref b from ry);let#[z,hd,xs,rel,dd]:=LF I.zx e;have hz:xs.length<=ì:=by rw[<- Paired.length rel];show z
  ext Ř
  exact wpAny_setItem_heap (hsz:=hz) Â1 λ h' dd' hs=>h _ ?_;let#[q,es,ep,hq,h2,h3,h4,_,h5]:=dd';exact Y0 I (by rw[e];show ı) hs #[q,hq] #[hl,hd,_,(rel.put k eb rv).keeps λ c ys ec=>?_,q,es,ep,hq,h2,h3,h4,h5];rw[yj (vS ec e (λ z=>nomatch z))];show ec
)
example:=`(
example À:=by simp![zj] at h;let#[c,cs,rfl,h1,h2]:=h
example Ú:=List (Key×D)
example Á{Ab:Ú}{vs:List (Key×V)}:=0
example ä{ds:List D}:=0
example Â{ts:List T}ä:=0
example Ã{X:Cx}{E6:Aj}{σ:St}{H:Hp}{s:Shared}{a:Addr}:=0
example Ä:=by rw[yj (vS q h (by intro z;cases z))];show q
example Å:=zj S ts ds
example Æ:=by exact#[dd.typeIs,λ b q=>?_,hd];cases q;let#[ob,_,_,h1,h2,_]:=dd;show#[ob,h1,h2.2.1]
example å:=by simp![zj] at h;subst h
example Ç:=by ext å;exists zj.nil
example È(hu:X.A.units+1<cLine) (ho:PE X o td):=0
example É _:=x PySem.F.slot_dict_get dd.typeIs PySem.F.entry_dict_get (PySem.F.args_dict_get_3 _ _ _)
example Õ:=by let#[δ,S,r1,r2,z]:=hu
example Ê:=by ext Õ;exact zK.go ho.mo r1 r2 z λ x S1 w H1 h1 q1 e1 p1=>?_
example Ë{k:Nat}(hr:yh k X.A) (ho:PD X o td):=0
example Ì _:=x (model prog w) A
example Í:=by simpa only [Sn] using q
example Î:=by subst ex;obtain rfl:u=Value.ref a:=rx
example Ï:=λ kv=>decide (kv.1=k)
example é:=.Subscript
example Ð:=é o i pos'
example Ñ(I:Inv X E6 σ H s):=0
example Ò:=yU K H Ab vs
example Ó{d:D}{v:V}(r:zg K H d v):=0
example Ô:=(.Call (.Attribute o "get" apos) [e,f] [] Aq)
example Ö:=(e1.trans e2).trans e3
example Ø _:=x (r1.ext e1) p1 h1 λ y S2 w2 H2 h2 q2 e2 p2=>?_
example Ù:=(.inl k)
example Û:=by simp![Sn] at q ⊢
example ê:=X.env
example Ü:=backTo Aq (starEach [e,f] ê)
example Ý:=λ kv=>if kv.1=k then (kv.1,v) else kv
example Þ:=(r1.ext e1).ext e2
example ß:=.ref
example à:=Sn S t d
example á:=by let#[z,hd,vs,rel,dd]:=oG I.zx e
example â _:=x E6 s1 σ H1 _ I1 q1
example ã:=Ab.length
example æ(m:M2 X o "get" apos e f Aq):=0
example ç _:=x (k:=Sum.inl k) g1
example è:=#[y,by simpa using e1,e2]
example ë:=(.yv Ab)
end
section
variable {Ã}{Ab:List (Key×V)}{A:Around}{E:Af}
theorem LU {Q:Af}Ñ (e:Rd H a (.dK Ab)) (h:∀ t s',Inv X E6 σ H s'->Q (.int ã t) s'):wpAny (model X.prog X.w) A (call (.builtin "len") [ß a]) Q E s:=by
 ext á;exact call_len_dict hd dd (by rw[<- rel.length];rw[sizeLine_eq] at z;lia) ?_;rw[<- rel.length];show h _ _ (I.tok _)
end
def dw (i:Expr):Prop:=∀ ov iv,subscripted i false ov iv=operate [ov,iv] (getItem ov iv)
def VF {prog:Program}{w:World}{A:Around}{E:Af}{s:Shared}{env:Env}{value slice:Expr}{pos:Pos}{T id:String}{Q:Af}
  (hl:typeLookup (.type T) "__getitem__"=pure ↑(.builtin id)) (hs:dw slice)
  (h:wpAny Ì (eval value env) (λ o s₁=>wpAny Ì (eval slice env) (λ i s₂=>s₂.TypeIs o T/\wpAny Ì (getItem o i) Q E s₂) E s₁) E s):
  wpAny Ì (eval (é value slice pos) env) Q E s:=by
 exact Subscript_ (za5 h (λ o s₁ h₁=>za5 h₁ (λ i s₂ h₂=>?_) λ _ _ x=>x) λ _ _ x=>x);let#[hT,h₂]:=h₂;unfold subscriptTail;exact gV ?_;rw[getitemInPython_of_ne hT.not_modules];exact gV (wpAny_specialOf hT hl ?_);have fin:wpAny Ì (subscripted slice false o i) (λ r s₃=>wpAny Ì (letTemporaryGo value o r >>= λ _=>pure r) Q E s₃) E s₂:=by
  rw[hs o i];show wpAny_operating (za5 h₂ (λ r s₃ h₃=>gV (wpAny_letTemporaryGo (Ad h₃))) λ _ _ x=>x)
 first
  | show Ad (gV fin)
  | show gV (Ad (gV fin))
  | show gV fin
def LN Ã{y:V}{o:Option V}Ñ (g:ra H a y o):s.TypeIs (ß a) "dict":=by
 rcases g with ⟨Ab,k,e,_,_⟩ | ⟨Ab,k,b,e,_,_,_⟩
 .let#[_,_,vs,_,dd]:=oG I.zx e;show dd.typeIs
 .let#[_,_,xs,_,dd]:=mG I.zx e;show dd.typeIs
def VC (td ty:TE):TE:=fun σ H Q=>td σ H λ x H1=>ty σ H1 λ y H2=>∃ a v,x=ß a/\ra H2 a y ↑v/\Q v H2
def Ue (td ty tv:TE):TS:=λ D σ H=>tv σ H λ v H1=>td σ H1 λ x H2=>ty σ H2 λ y H3=>∃ a H4,x=ß a/\lD H3 a y v H4/\D.nx σ H4
section
variable {X:Cx}{o i value:Expr}{pos pos':Pos}{td ty tv:TE}
def TC È (hi:PE X i ty) (hs:dw i):PE X (é o i pos) (VC td ty):=by
 intro E6 s σ H Q I h;exact VF PySem.F.slot_dict_getitem.lookup hs (zD (ho E6 s σ H _ I h) λ u s1 #[x,H1,I1,rx,q1]=>zD (hi â) λ iv s2 #[y,H2,I2,ry,a,v,ex,g,q2]=>?_);ext Î;show#[LN I2 g,LV hu I2 g ry λ w' s3 I3 GG=>#[v,H2,I3,GG,q2]]
def UM È (hi:PE X i ty) (hv:PE X value tv) (hs:swapsWith value ↑(Ð) pos.line ê=pure false):
  PS X (.Assign [Ð] value pos) (Ue td ty tv):=by
 intro E6 s σ H D I h;exact wpAny_Assign_Subscript (zD (hv E6 s σ H _ I h) λ r s1 #[v,H1,I1,rv,q1]=>zD (ho â) λ u s2 #[x,H2,I2,rx,q2]=>zD (hi E6 s2 σ H2 _ I2 q2) λ iv s3 #[y,H3,I3,ry,a,H4,ex,g,q3]=>?_) hs;ext Î;show LS hu I3 g ry rv λ s4 I4=>#[σ,H4,I4,q3]
end
def LM {P:Program}{w:World}{H:Hp}(h:Heap) (hb:sysModules<h.objs.size):yS P w H (h.push { cls:=.type "dict",data:=.dict [].toArray }) h.objs.size (.dK []):=
 #[Be _,beq_eq_false_iff_ne.mpr (Ne.symm (AI hb)),[],.nil,Heap.DictOf.new h]
def VA:TE:=λ _ H Q=>∀ p,H p=none->Q (ß p) (upd H p (.dK []))
section
variable {X:Cx}{pos:Pos}
def T9:PE X (.Dict [] [] pos) VA:=λ E6 s σ H Q I h=>
 wpAny_Dict_empty #[ß s.heap.objs.size,_,I.laid (a:=s.heap.objs.size) (o:=.dK []) (t':=s.toks) (λ _ _ q=>za1 _ q) (Ao _) (LM s.heap I.big),rfl,h _ (I.zx.fresh (Ao _))]
end
structure M2 (X:Cx) (o:Expr) (m:Str) (apos:Pos) (e f:Expr) (Aq:Pos):Prop where
 base:attributeBase o m ê (eval o ê)=eval o ê
 mr:((Ü).all (λ x=>!x.1)&&(backToKw Aq (keywordEach [] ê)).all (λ x=>x.1.isSome)
  && decide (([e,f]:List Expr).length+([]:List Keyword).length+(if ([]:List Keyword).isEmpty then 0 else 1)<30))=true
 line:(apos.endLine == Aq.line)=true
 trees:Ü=[(false,eval e ê),(false,eval f ê)]
def XU (H:Hp) (a:Addr):Prop:=(∃ Ab,Rd H a (.dK Ab))\/∃ Ab,Rd H a (.dT Ab)
def NB Ã Ñ (d:XU H a):
  s.TypeIs (ß a) "dict"/\(∀ b,Value.ref a=ß b->∃ ob,s.heap.get? b=↑ob/\ob.dict=none)/\(a == sysModules)=false:=by
 rcases d with ⟨Ab,e⟩ | ⟨Ab,e⟩
 .let#[_,hd,vs,_,dd]:=oG I.zx e;ext Æ
 .let#[_,hd,xs,_,dd]:=mG I.zx e;ext Æ
section
variable {Ã}{y d:V}{u r:Value}{o:Option V}{A:Around}{E:Af}
def LW {Q:Af}(hu:A.units+1<cLine) Ñ (g:ra H a y o) (ry:RelV y u) (rd:RelV d r) (h:∀ w' s',Inv X E6 σ H s'->RelV (o.getD d) w'->Q w' s'):
  wpAny (model X.prog X.w) A (call (.builtin "dict.get") [ß a,u,r]) Q E s:=by
 rcases g with ⟨Ab,k,e,ey,l⟩ | ⟨Ab,k,b,e,ey,eb,l⟩
 .subst ey;ext á;exact call_meetsIn É (meets_dict_get_default (wQ X.prog X.w) a (kM ry) hd r) #[_,dd.mapOf,h _ _ (I.tok _) ?_];rw[l];show (rel.val k).getD rd
 .subst ey;cases (show u=Value.ref b from ry);let#[z,hd,xs,rel,dd]:=mG I.zx e;exact call_meetsIn É (meetsH_dict_get_default (tupleKind (wQ X.prog X.w)) a b hd r) #[tupleKind_room_in1 hu,k,xs,kK I.zx eb,dd,h _ _ (I.tok _) ?_];rw[l];show (rel.val k).getD rd
end
def VB (td ty tx:TE):TE:=fun σ H Q=>td σ H λ x H1=>∃ a,x=ß a/\XU H1 a/\ty σ H1 λ y H2=>tx σ H2 λ z H3=>∃ o,ra H3 a y o/\Q (o.getD z) H3
section
variable {X:Cx}{o e f:Expr}{apos Aq:Pos}{td ty tx:TE}
def TB È (he:PE X e ty) (hf:PE X f tx) æ:PE X Ô (VB td ty tx):=by
 intro E6 s σ H Q I h;exact wpAny_Call_method m.base m.mr m.line PySem.F.plainAttrs_dict PySem.F.slot_dict_get PySem.F.type_dict_get (zD (ho E6 s σ H _ I h) λ u s1 #[x,H1,I1,rx,a,ex,d,q1]=>?_);ext Î;let#[t1,t2,_]:=NB I1 d;exact#[t1,t2,?_];rw[m.trees];exact Calls.callWith_builtin rfl (Calls.evalArgs_plain (Calls.spliced_cons (zD (he â) λ iv s2 #[y,H2,I2,ry,q2]=>
  Calls.spliced_cons (zD (hf E6 s2 σ H2 _ I2 q2) λ fv s3 #[z,H3,I3,rz,ov,g,q3]=>Calls.spliced_nil ?_))))
 show LW hu I3 g ry rz λ w' s4 I4 GG=>#[_,H3,I4,GG,q3]
end
end L2
namespace L3
open PySem PySem.Spec L2
open PyProof.Rows hiding St
def uh (Ab:Ú) (k:Key):Option D:=(Ab.find? Ï).map (·.2)
def putD (Ab:Ú) (k:Key) (v:D):Ú:=
 if (Ab.any Ï)=true then Ab.map (Ý) else Ab++[(k,v)]
section
variable {K:Ac}{H:Hp}
theorem yU.val:∀ Á,Ò->∀ k,(uh Ab k=none/\wu vs k=none)\/∃ d v,uh Ab k=↑d/\wu vs k=↑v/\zg K H d v
 | _,_,.nil,k=>.inl #[rfl,rfl]
 | (a,d)::Ab,(b,v)::vs,.cons #[e,r] t,k=>by
  have e':a=b:=e;subst e';by_cases h:a=k
  .subst h;show .inr #[d,v,by simp[uh],by simp[wu],r]
  .rcases yU.val t k with ⟨h1,h2⟩ | ⟨d',v',h1,h2,h3⟩
   .show .inl #[by simpa [uh,h] using h1,by simpa [wu,h] using h2]
   .show .inr #[d',v',by simpa [uh,h] using h1,by simpa [wu,h] using h2,h3]
theorem yU.any Á(h:Ò) (k:Key):(Ab.any Ï)=vs.any Ï:=by
 induction h with
 | nil=>rfl
 | cons r _ ih=>rw[BE,BE,ih,r.1]
def yU.len Á(h:Ò):ã=vs.length:=Paired.length h
theorem yU.t8 {k:Key}Ó:∀ Á,Ò->yU K H (Ab.map λ kv=>if kv.1=k then (kv.1,d) else kv) (vs.map Ý)
 | _,_,.nil=>.nil
 | (a1,a2)::_,(b1,b2)::_,.cons #[e,q] t=>by
  have e':a1=b1:=e;subst e';exact .cons ?_ (yU.t8 r t);by_cases hk:a1=k
  .simp[hk,r]
  .simpa [hk] using q
theorem yU.snoc {k:Key}Ó:∀ Á,Ò->yU K H (Ab++[(k,d)]) (vs++[(k,v)])
 | _,_,.nil=>.cons #[rfl,r] .nil
 | _,_,.cons q t=>.cons q (yU.snoc r t)
def yU.put Á(h:Ò) (k:Key) Ó:yU K H (putD Ab k d) (putK vs k v):=by
 unfold putD putK;rw[h.any k];split
 .show yU.t8 r h
 .show yU.snoc r h
end
section
variable {X:Cx}{o i e f v:Expr}{td ty tx tv:zv}{pos pos' apos Aq:Pos}
def YD:zv:=λ _ S Q=>∀ p,S p=none->Q (ß p) (ups S p (.yv []))
theorem RW:PD X (.Dict [] [] pos) YD:=by
 exact#[λ _ _ _ _ hq z p hp=>hq _ _ (z p hp),PE.imp T9 fun σ H Q hu p hp=>?_];ext Õ;show z p (r2.none hp) _ _ (by simp![zg]) (.new hp _) (r2.ups (.new hp _) #[[],y7,.nil])
def YG (td ty:zv):zv:=fun δ S Q=>td δ S λ x S1=>ty δ S1 λ y S2=>∃ p Ab k d,x=ß p/\y=.int k/\S2 p=↑ ë/\uh Ab Ù=↑d/\Q d S2
def RV Ë (hi:PD X i ty) (hs:dw i):PD X (é o i pos) (YG td ty):=by
 exact#[fun δ S Q Q' hq z=>ho.mo δ S _ _ (λ x S1 z=>hi.mo δ S1 _ _ (λ y S2 #[p,Ab,k,d,a,b,c,e,h]=>#[p,Ab,k,d,a,b,c,e,hq _ _ h]) z) z,PE.imp (TC (ft hr) ho.pe hi.pe hs) fun σ H Q hu=>?_];ext Ê;exact zK.go hi.mo Ø;let#[p,Ab,k,d,rfl,rfl,c1,c2,h]:=h2;simp![zg] at q1 q2;subst q1 q2;let#[vs,g1,g2]:=p2 _ _ c1;rcases yU.val g2 Ù with ⟨n1,_⟩ | ⟨d',v',n1,n2,n3⟩
 .rw[c2] at n1;cases n1
 .rw[c2] at n1;cases n1;show#[p,v',rfl,n2▸ra.k ç,h v' H2 n3 (e1.trans e2) p2]
def YF (td ty tx:zv):zv:=fun δ S Q=>td δ S λ x S1=>∃ p,x=ß p/\(∃ Ab,S1 p=↑ ë)/\ty δ S1 λ y S2=>tx δ S2 λ z S3=>∃ k Ab,y=.int k/\S3 p=↑ ë/\Q ((uh Ab Ù).getD z) S3
def RX Ë (he:PD X e ty) (hf:PD X f tx) æ:PD X Ô (YF td ty tx):=by
 exact#[fun δ S Q Q' hq z=>ho.mo δ S _ _ (λ x S1 #[p,a,b,z]=>#[p,a,b,he.mo δ S1 _ _ (λ y S2 z=>hf.mo δ S2 _ _ (λ w S3 #[k,Ab,a,b,h]=>#[k,Ab,a,b,hq _ _ h]) z) z]) z,PE.imp (TB (ft hr) ho.pe he.pe hf.pe m) fun σ H Q hu=>?_];ext Ê;let#[p,rfl,#[kvs0,c0],h1]:=h1;simp![zg] at q1;subst q1;let#[vs0,g0,_]:=p1 _ _ c0;exact#[p,rfl,.inl #[vs0,.inl g0],?_];exact zK.go he.mo Ø;exact zK.go hf.mo (Þ) p2 h2 λ y3 S3 w3 H3 h3 q3 e3 p3=>?_;let#[k,Ab,rfl,c1,h]:=h3;simp![zg] at q2;subst q2;let#[vs,g1,g2]:=p3 _ _ c1;exact#[wu vs Ù,ra.k ç,?_];rcases yU.val g2 Ù with ⟨n1,n2⟩ | ⟨d',v',n1,n2,n3⟩
 .rw[n1] at h;rw[n2];show h _ H3 q3 (Ö) p3
 .rw[n1] at h;rw[n2];show h _ H3 n3 (Ö) p3
def YE (td ty tv:zv):yC:=λ E δ S=>tv δ S λ v S1=>td δ S1 λ x S2=>ty δ S2 λ y S3=>∃ p Ab k,x=ß p/\y=.int k/\S3 p=↑ ë/\ã<sizeLine/\E.nx δ (ups S3 p (.yv (putD Ab Ù v)))
theorem Ext.dK {H:Hp}{p:Addr}{Ab:List (Key×V)}(h:H p=↑(.dK Ab)) (o:HO):Ext H (upd H p o):=
 #[λ b ys q=>Ä,λ b ob u q=>Ä,λ b u q=>Ä,λ b u q=>Ä]
theorem SD Ë (hi:PD X i ty) (hv:PD X v tv) (hs:swapsWith v ↑(Ð) pos.line ê=pure false):xW X (.Assign [Ð] v pos) (YE td ty tv):=by
 exact#[λ E E' δ S hE z=>hv.mo δ S _ _ (λ w S1 z=>ho.mo δ S1 _ _ (λ x S2 z=>hi.mo δ S2 _ _ (λ y S3 #[p,Ab,k,a,b,c,d,h]=>#[p,Ab,k,a,b,c,d,hE.nx _ _ h]) z) z) z,PS.imp (UM (ft hr) ho.pe hi.pe hv.pe hs) λ D σ H hu=>?_];ext Õ;exact zK.go hv.mo r1 r2 z λ w S1 w1 H1 h1 q1 e1 p1=>?_;exact zK.go ho.mo (r1.ext e1) p1 h1 λ x S2 w2 H2 h2 q2 e2 p2=>?_;exact zK.go hi.mo (Þ) p2 h2 λ y S3 w3 H3 h3 q3 e3 p3=>?_;let#[p,Ab,k,rfl,rfl,c1,c2,h]:=h3;simp![zg] at q2 q3;subst q2 q3;let#[vs,g1,g2]:=p3 _ _ c1;have e4:Ext H3 (upd H3 p (.dK (putK vs Ù w1))):=.dK g1 _;exact#[p,_,rfl,lD.k ç (by rw[<- g2.len];show c2),?_];show h σ _ (((Þ).ext e3).ext e4) ((Ö).trans e4) (p3.ups e4 #[_,y7,(yU.put g2 _ (zg.ext (e2.trans e3) w q1)).ext e4])
def KD:yF X (.builtin "len") (λ xs H Q=>∃ p Ab,xs=[ß p]/\H p=↑(.dK Ab)/\Q (.int ã) H):=by
 intro E6 s σ H xs us Q I r h;let#[p,Ab,rfl,e,q]:=h;let#[u,rfl,ru]:=vals1 r;cases ru;show LU I (.inl e) λ t s' I'=>#[.int _,H,I',#[_,rfl],q]
def Yh:xt:=λ ds S Q=>∃ p Ab,ds=[ß p]/\S p=↑ ë/\Q (.int ã) S
def RU {es:List Expr}{tA:ym}{p:Pos}(hm:X.mg "len"=none) (ha:y_ X (e::es) tA) (hg:Gl X "len") (he:AJ X e es) (Ap:AO X pos es):PD X (.Call (.Name "len" p) (e::es) [] pos) (xr Yh tA):=
 uF (uE KD hg hm PySem.boot_len ha.pa () () he Ap) (λ _ _ _ _ hq #[p,Ab,a,b,h]=>#[p,Ab,a,b,hq _ _ h]) (λ xs ds H S Q h0 h2 #[p,Ab,a,b,h]=>by
  subst a;let#[x,rfl,h1]:=h0.one;simp![zg] at h1;subst h1;let#[vs,g1,g2]:=h2 _ _ b;exact#[p,vs,rfl,g1,?_];rw[<- g2.len];show h _ H (by simp![zg]) (.refl H) h2) ha.mo
end
end L3
namespace L3
open PySem L2
section
variable {S S':SS}
mutual
theorem Sn.sx (h:Sx S S'):∀ (t:T) {d:D},à->Sn S' t d
 | .zp,d,q=>Í
 | .bl b,d,q=>Í
 | .int i,d,q=>Í
 | .str x,d,q=>Í
 | .tup ts,d,q=>by
  ext Û;let#[ds,q1,q2]:=q;show#[ds,q1,zj.sx h ts q2]
 | .lst ts,d,q=>by
  ext Û;let#[ds,q1,q2]:=q;exact#[ds,?_,zj.sx h ts q2];rcases q1 with q1 | ⟨a,q1,q3⟩
  .show .inl q1
  .show .inr #[a,q1,h _ _ q3]
 | .err _ _ t,d,q=>by
  ext Û;let#[x,q1,q2]:=q;show#[x,q1,Sn.sx h t q2]
 | .xh,d,q=>by
  ext Û;let#[a,Ab,q1,q2]:=q;show#[a,Ab,q1,h _ _ q2]
theorem zj.sx (h:Sx S S'):∀ (ts:List T) ä,Å->zj S' ts ds
 | [],ds,q=>by simpa only [zj] using q
 | t::ts,ds,q=>by
  simp![zj] at q ⊢;let#[c,cs,q1,q2,q3]:=q;show#[c,cs,q1,Sn.sx h t q2,zj.sx h ts q3]
end
def zj.nil:zj S [] []:=by simp![zj]
def zj.cons {t:T}{ts:List T}{d:D}ä(h:à) (h':Å):zj S (t::ts) (d::ds):=by
 simp![zj];show#[d,ds,rfl,h,h']
theorem zj.append:∀ {ts us:List T}{ds es:List D},Å->zj S us es->zj S (ts++us) (ds++es)
 | [],us,ds,es,h,h'=>by ext å;exists h'
 | t::ts,us,ds,es,h,h'=>by
  ext À;show zj.cons h1 (zj.append h2 h')
theorem zj.fG:∀ Â{i:Nat}{t:T},Å->ts[i]?=↑t->∃ d,ds[i]?=↑d/\à
 | [],_,i,t,_,e=>by simp at e
 | u::ts,ds,i,t,h,e=>by
  ext À;cases i with
  | zero=>simp at e;subst e;show#[c,rfl,h1]
  | succ i=>
   let#[y,e1,e2]:=zj.fG (i:=i) h2 (by exists e);show è
theorem zj.fK:∀ Â{i:Nat}{d:D},Å->ds[i]?=↑d->∃ t,ts[i]?=↑t/\à
 | [],ds,i,t,h,e=>by ext å;simp at e
 | u::ts,ds,i,t,h,e=>by
  ext À;cases i with
  | zero=>simp at e;subst e;show#[u,rfl,h1]
  | succ i=>
   let#[y,e1,e2]:=zj.fK (i:=i) h2 (by exists e);show è
def zj.len Â(h:Å):ds.length=ts.length:=(L3.zj.length h).symm
theorem zj.at Â{i:Int}{t:T}(h:Å) (e:L2.zT ts i=↑t):∃ d,L2.zT ds i=↑d/\à:=by
 unfold L2.zT at e ⊢;rw[h.len];cases q:L2.wV ts.length i with
 | none=>rw[q] at e;cases e
 | some j=>
  rw[q] at e;show h.fG e
theorem zj.bo:∀ Â{t:T}{d:D}(i:Nat),Å->à->zj S (ts.set i t) (ds.set i d)
 | [],ds,t,d,i,h,_=>Ç
 | u::ts,ds,t,d,0,h,hd=>by
  ext À;show zj.cons hd h2
 | u::ts,ds,t,d,i+1,h,hd=>by
  ext À;show zj.cons h1 (zj.bo i h2 hd)
theorem zj.take':∀ Â(n:Nat),Å->zj S (ts.take n) (ds.take n)
 | ts,ds,0,h=>by exists zj.nil
 | [],ds,n+1,h=>Ç
 | t::ts,ds,n+1,h=>by
  ext À;show zj.cons h1 (zj.take' n h2)
theorem zj.drop':∀ Â(n:Nat),Å->zj S (ts.drop n) (ds.drop n)
 | ts,ds,0,h=>h
 | [],ds,n+1,h=>Ç
 | t::ts,ds,n+1,h=>by
  ext À;show zj.drop' n h2
def zj.empty Â(h:Å):ds.isEmpty=ts.isEmpty:=by
 have:=h.len;cases ds <;> cases ts <;> simp_all
theorem zj.Xm:∀ {bs:List Bool}ä,zj S (bs.map T.bl) ds->ds=bs.map D.bl
 | [],ds,h=>by simpa only [BF,zj] using h
 | b::bs,ds,h=>by
  rw[Ay] at h;simp![zj,Sn] at h;let#[c,cs,rfl,rfl,h3]:=h;rw[zj.Xm h3];rfl
end
end L3
)
local macro_rules|`(tactic|cases $e:ident)=>`(tactic|first|(injection $e:ident with z;subst z)|cases ($e))
example:=`(
example À:=Option
example Œ _:=x S Z
example Á _:=x Œ δ ρ
example Â:=by rcases yG e with ⟨rfl,hl,e⟩ | ⟨n,e⟩
example č:=Int×Int
example Ã:=List (č)
example Ô:=List T
example Ä:=Ev->À (Ô)
example Â2:=λ d S1 s1 r1=>?_
example ū _:=x _ hE e1
example Å _:=x ū Â2
example ĸ:=(y4 X N' scope cl C s H fp)
example Æ(Sc:rf X N' pick scope) (hc:X.calm=true) (hi:uW X tg iter ti) (hg:∀ cl C s H fp,vD ĸ tg g) (hf:∀ cl C s H fp,oP ĸ ifs F_) (he:∀ cl C s H fp,PD ĸ elt te):=0
example Ç(E9:∀ (Ai:Value) (A:Around) (outer:List Env) (s:Shared) (H:Hp) (E:XK),yh k (A.deeper (envOfC x (zW st) s.heap.objs.size f Ai))-> ∃ t,xB (xQ xa P w K mg base N x (zW st) f Ai A outer s H E).wA (yZ st) t/\yn R g t):=0
example È:=Addr->Prop
example É:=Ev->À Ev
example Ê(i:Nat):=0
example Ë:=by rcases h with h | ⟨_,_,_,h,_⟩
example Ì _:=x S (.refl S)
example Í:=List (Key×T)
example Î:=by rcases yG e' with ⟨rfl,hl,e'⟩ | ⟨n,e'⟩
example Ï:=(λ _=>nofun)
example Ð:=An.mp e
example Ñ:=Ev->À Bool
example Ò _:=x (g:=oV X.K g) (tc:=wx X.K F_) (te:=zK X.K te) Sc hc hi.pi (λ cl C s H fp=>(hg cl C s H fp).pg) (λ cl C s H fp=>(hf cl C s H fp).pf) (λ cl C s H fp=>(he cl C s H fp).pe)
example Ó:=(zB Œ)
example Ş:=AF.mp
example Ŵ:=by let#[d,rfl,h1]:=vJ hv
example Õ:=by ext Ŵ;let#[ts,e1,rfl]:=Ş e;let#[es,h2,h3]:=h1.seq e1
example ä:=(s1.trans s2)
example Ć:=hE.grow s1
example ċ _:=x S1 Z δ ρ
example Ö _:=x ċ y _ (Ć) e2 λ d S2 s2 r2=>hq d S2 ä (Cl.cl s1 r2)
example Ø:=(f ρ).bind
example ĝ _:=x S0 Z0
example Ù:=FR ĝ Á
example ş:=by simp[h.len]
example Ú:=#[#[h.er.zd,λ j t e=>?_,λ j ts e=>?_],ş,h.sx,h.z0,h.zz,h.zn,λ j ts p e e'=>?_,λ j k ts us p n e1 e2 e3 e4=>?_]
example ă:=.lst
example Û:=ă ts
example Ü:=zY M h n
example Ĺ(M:Nat):=0
example Ý Ĺ (h:Int):=0
example Þ:=by rcases yG e1 with ⟨rfl,hl,e⟩ | ⟨n1,e1⟩
example ß:=T->T->À T
example à:=way M h k
example Ū _:=x δ S
example ż:=by unfold yd;rw[h1]
example á:=by let#[p,b,h1,h2,h3]:=kq hE h;change yd i Ū _;ext ż
example Ś:=(xs.map enc)
example ŕ{g:T->É}:=0
example Ź:=List (À Nat)
example Ã5:=xs.length
example Ĝ:=List α
example â{pick:Ź}{it:Ä}ŕ{c:Ñ}{f:Ae}{ρ:Ev}(xs:Ĝ) (hi:it ρ=↑ Ś) (hl:Ã5<=16777216):=0
example ã:=by let#[x,e1,e0]:=Ð;let#[xs,e2,e3]:=An.mp e0;cases e3;exact h Á x Å;exact h' ċ xs _ (Ć) e2 λ ds S2 s2 r2=>?_
example å:=if_neg
example æ:=I.items.length
example Ã0:=by let#[x,e1,e2]:=Ð
example ç:=by ext Ã0;exact h Á x Å
example è{a:Í}{b:List (Key×D)}:=0
example é:=if_pos
example ê:=.int
example ë:=by obtain⟨ds,rfl | ⟨a,rfl,h1⟩,h2⟩:=Vw.lst r1
example ì(ha:yz fa ta) (hb:yz fb tb):=0
example í:=sizeLine
example î:=(.ListComp elt [#[tg,iter,ifs,0]] scope pos)
example Ō:=(.ref p)
example ï:=δ[i]?=↑↑ Ō
example ð:=o6 (by rw[h.len];show hl)
example ñ{α:Type}:=0
example ò:=by cases h
example ó:=g y ρ=↑ρ'-> (∀ δ',ER Œ δ' ρ'->qU B δ'->δ'.length=ρ'.length->Q δ' S)->t d Ū Q
example ô:=List Int
example õ{g:Int->Int->T}{g':Int->Int->D}(h:∀ i j S,Sn S (g i j) (g' i j)) (n:∀ i j ts,g i j≠ Û):=0
example ö:=by rcases yG e2 with ⟨rfl,hl,e⟩ | ⟨n2,e2⟩
example ø:=Sx S S'
example ù(pick:Ź):=0
example ú:=by rcases yG e2 with ⟨rfl,hl,_⟩ | ⟨n2,e2⟩
example û:=sI (o5 (λ _ _ _=>wy) λ _ _ _=>nofun) ha hb
example Ä3{δ:yc}{ρ:Ev}:=0
example ü{Z:È}Ä3:=0
example Ã6:=trivial
example ý:=hq _ S1 s1 h2 λ _ _=>Ã6
example þ:=hq _ Ì (Cl.of Ï wy)
example ŗ:=ρ.set
example ÿ:=(ŗ i ↑(.im y))
example ņ:=decide
example Ā:=λ kv=>ņ (kv.1=k)
example ā:=∀ ρ,I p ρ->∃ ρ',turn g b (enc x) ρ=↑(.nx ρ')/\I (p++[x]) (yt is ρ')
example Ă:=by let#[y',h1,h2]:=lW e;cases h2
example Ň{R:Rk}:=0
example Ř:=List Str
example Ą Ň [Lo R] {x:Str}{st:Stmt}{N ps:Ř}{k n:Nat}{g:Sm}(F:vI K x x st f fd):=0
example ą:=∀ a,Z a->S a≠none
example ć:=by .simpa only [Sn] using h
example Ĉ{f:Ae}{te:zv}:=0
example ĉ:=xs.size
example Ċ _:=x _ _
example Č:=(Cl.of Ï vy)
example Ď:=ρ[i]?
example ď:=below xs j
example Đ{ds:List D}:=0
example đ(f:Ae):=0
example Ē:=zj Ó ts ds
example ē:=some ↑(.own (.yv Ab))
example Ĕ:=(M+1)
example ĕ:=by let#[q1,q2]:=uK q
example Ė:=by simp![zj] at r;let#[c,cs,rfl,r1,r2]:=r;let#[ρ1,e1,e2]:=Ð
example ė:=R S S' Z y d
example Ę:=hq S1 s1
example ę:=by cases h;rfl
example Ě(ρ:Ev):=0
example ě(ps:Ã):=0
example ů:=h.er.ow
example Ğ:=by let#[p',ds,h1,h2,h3,h4]:=ů i ts e;rw[ed] at h1;cases h1
example ğ _:=x hi.mo (hg [] 0 s H []).mo (hf [] 0 s H []).mo (he [] 0 s H []).mo
example Ġ:=(zB S' λ a=>Z a\/a=p)
example ġ:=by let#[y,e1,e2]:=Ð
example Ģ:=.tup
example ģ:=h.fr i ts p e ed
example Ĥ:=F.grow s1
example ĥ _:=x Á y _ F.er e1
example Ħ(g:T->É):=0
example ħ(S:SS) (Z:È):=0
example Ĩ:=List Bool
example ĩ:=by rename_i t h;cases e;let#[d,h1,h2]:=hE.im i _ h;ext ż
example Ī:=.inl
example ī:=(g ρ).bind
example Ĭ:=(ps.map vP)
example ĭ:=(uP pick ti g F_ te)
example Į{y:T}{d:D}:=0
example Â9:=by let#[b,e1,e2]:=Ð
example Ŕ:=by split at e2
example į:=by ext Â9;exact h Á b ū λ S1 s1=>?_;ext Ŕ
example İ:=(Ü).2
example ı:=some ↑(.own (Û))
example Ĳ:=δ.length=ρ.length
example ĳ:=runEnd M i-i
example Ĵ:=by rename_i hb;rw[é hb]
example Á8:=by let#[xs,e1,e2]:=Ð
example ĵ:=by ext Á8;exact h Á xs ū λ ds S1 s1 r1=>?_
example Ķ:=by simp![Sn] at r;let#[ds,rfl,r]:=r;simp![xD] at e;split at e
example ķ:=(uk pick δ)
example ĺ:=∃ bs:Ĩ,zV d S=↑(bs.map D.bl)/\Q (.bl (g bs)) S
example Ļ:=zZ S a b
example ļ:=(yt is ρ)
example Ľ:=bits h
example ľ{S:SS}:=0
example Ŀ:=(r.getD 0 0,r.getD 1 0)
example ŀ:=by rename_i hb;rw[å hb]
example Ł:=by let#[Z,ys,y,hz,r,e,hq]:=hs;unfold zO at e;split at e
example ł:=by simp![Sn]
example Ń(enc:α->T):=0
example ń(hs:∀ x,foldedSetIterable iter X.env x=pure x):=0
example Ņ(hr:uV xs.toList):=0
example ň{t:T}{d:D}(r:Sn S t d):=0
example Ŗ:=by cases e2
example ŉ:=by ext Ŗ;change Q (!ds.isEmpty) S1;rw[h2.empty];show Ę
example Ŋ:=(zB S' Z)
example ŋ:=zj.sx
example ō:=ts.length
example Ŏ:=List Nat
example ŏ:=xq is g b ys ρ2
example Ő:=#[p,Al,A8 _,A8 _]
example ő:=(show 0<M+1 by lia)
example œ{S S':SS}:=0
example ř:=(∀ i:Nat,pick[i]?=↑none->B[i]?=↑none)
example ś{ts:Ô}:=0
example Ŝ _:=x n e1 e2 e3 e4
example ŝ(hf:xX f te):=0
example Š(Ab:Í) (k:Key):=0
example š:=below.go xs j f lo hi
example Ţ:=by let#[p,ob,h1,h2,h3,h4]:=F.er.ow i _ h
example ţ:=by rcases yG e with ⟨rfl,Gx,e⟩ | ⟨n,e⟩
example Ť:=by simp![zg] at r
example ť:=Sn.sx
example Ŧ:=ER Á
example ŧ:=.inr
example Ũ:=.str
example ũ:=Ô->É
example Ŭ{xs:Array Nat}:=0
example ŭ:=by have:lo=hi:=⋯;subst this;show#[h3,h4,h5]
example Ů:=by let#[hi,e]:=Array.getElem?_eq_some_iff.mp h
example Ű:=(hName i)
example ű:=ys.length
example Ų:=hq #[ds,_] S1 s1 h2 λ Hv s=>s Ċ h1
example ų:=λ S3 Z3 δ3 F3=>#[Z3,ρ2,F3,e']
example ŵ(ha:y_ X (e::es) tA) (hc:X.calm=true):=0
example Ŷ(Sc:vc N ps (zW st)) (hn:n=ps.length):=0
example ŷ:=False
example Ÿ:=h' ċ y _ (Ć) e2 λ S2 s2=>hq S2 ä
example ź(hp:S p=none):=0
example Ż{f:Ae}{t:zv}:=0
example Ž:=by let#[y,e1,rfl]:=Ş e
example ž(hM:vE M) (h:Int) (e:Nat) (he:e<=M):=0
example ſ:=(yd i)
example À0:=(∀ c S',ø->R S S' Z z c->Q c S')
example À1:=Ď=↑↑(.own ts)
example À2:=(∀ δ',FR ĝ Œ δ' ρ'->Q δ' S)
example À3:=λ kv=>if kv.1=k then (kv.1,d) else kv
example À4:=(Ü).1
example À5(R:Rk):=0
example À6(h:yz f t):=0
example À7{Q:DK}(hs:zL R (zO N n g) ds S Q):=0
example À8:=by unfold runEnd;split <;> lia
example À9:=Sn (zB S λ a=>Z a/\a≠p) (Û) Ō
example Á0:=(λ b o hb q=>by rw[sr hb];show q)
example Á1:=((x2.trans x3).trans a2).trans x5
example Á2:=hq _ Ì (Cl.of (n Ċ) (h Ċ _))
example Á3:=λ j k us vs q n e1 e2 e3 e4=>?_
example Á4(he:AJ X e es) (Ap:AO X pos es):=0
example Á5:=(by exists hi)
example Á6:=by simp;lia
example Á7:=y9.mpr #[q,Al,A8 _,A8 _]
example Á9:=by rintro⟨v,hv,hg⟩;have:=hl v hv
example Â0:=#[v,hv,by simp[wD];lia]
example Â1:=#[d,h1,ť (qG s hp) t h2]
example Â3(h:T->À (À T)):=0
example Â4 _:=x pick g c f ρ
example Â5:=by ext Ť;let#[a,xs,rfl,_]:=r;rfl
example Â6:=xq is g b Ś ρ=↑(.nx ρ')
example Â7:=((à).i*5+1+(à).perturb/32)
example Â8:=by cases Vw.int r1
example Ã1(h:i<ĉ):=0
example Ã2:=Sn Ó y d
example Ã3:=Vw Œ y d
example Ã4:=Decidable
example Ã7:=(wY λ a z=>z.1)
example Ã8:=λ b o q=>?_
example Ã9:=(by simp![zg])
example Ä0:=by dsimp only;rw[h1]
example Ä1{p:Addr}(h:Ù):=0
example Ä2(hg:yn R g t) (hh:yn R h u):=0
example Ä4(k j:Key) (d:T):=0
example Ä5:=by rename_i c;rcases Ak.mp hp with e | e
namespace L5
open PySem L2 L3
def zB ħ:SS:=open Classical in λ a=>if Z a then none else S a
section
variable {œ}{Z Z':È}{a p:Addr}
def wX (h:¬ Z a):zB Œ a=S a:=å h
def nX (h:Z a):zB Œ a=none:=é h
def uK {o:O}(h:zB Œ a=↑o):¬ Z a/\S a=↑o:=by
 by_cases z:Z a
 .rw[nX z] at h;cases h
 .rw[wX z] at h;show#[z,h]
def nY ħ:Sx Ó S:=λ _ _ h=>(uK h).2
def wC (h:ø):Sx Ó Ŋ:=λ b o q=>by
 ext ĕ;rw[wX q1];show h Ċ q2
def wY (h:∀ a,Z' a->Z a):Sx Ó (zB S Z'):=λ b o q=>by
 ext ĕ;rw[wX (λ z=>q1 (h _ z))];show q2
def qG (h:ø) ź:Sx Ó Ġ:=λ b o q=>by
 ext ĕ;rw[wX]
 .show h Ċ q2
 .rintro (z | z)
  .show q1 z
  .subst z;rw[hp] at q2;cases q2
theorem NR {o:O}(h:Z p):zB (ups S p o) Z=zB Œ:=by
 funext b;by_cases z:Z b
 .rw[nX z,nX z]
 .rw[wX z,wX z,sr (λ e=>z (by rw[e];show h))]
end
inductive C where
 | lst (ts:Ô) | yv (Ab:Í) | obj (a:À Addr) (c:Str) (fs:List (Str×T))
def zZ {κ:Type}(S:SS):List (κ × T)->List (κ × D)->Prop
 | [],l=>l=[]
 | (k,t)::r,l=>∃ d m,l=(k,d)::m/\Sn S t d/\zZ S r m
theorem zZ.sx {κ:Type}œ(h:ø):∀ {a:List (κ × T)}{b:List (κ × D)},Ļ->zZ S' a b
 | [],_,q=>q
 | (k,t)::r,_,q=>by
  let#[d,m,q1,q2,q3]:=q;show#[d,m,q1,ť h t q2,zZ.sx h q3]
def xl (S:SS):C->O->Prop
 | Û,ă ds=>zj S ts ds
 | .yv a,.yv b=>Ļ
 | .obj _ c a,.obj c' b=>c=c'/\Ļ
 | _,_=>ŷ
theorem xl.sx œ(h:ø):∀ {c:C}{o:O},xl S c o->xl S' c o
 | Û,ă ds,q=>ŋ h ts q
 | .yv a,.yv b,q=>zZ.sx h q
 | .obj Ċ _,.obj Ċ,q=>#[q.1,zZ.sx h q.2]
def adr:C->È
 | .obj ↑q Ċ,p=>q=p
 | _,_=>True
inductive W where
 | im (t:T) | own (c:C)
abbrev Ev:=List (À W)
abbrev Ae:=Ev->À T
abbrev Am:=Ô->À T
structure ER ħ (δ:yc) Ě:Prop where
 zd:ą
 im:∀ Ê t,Ď=↑↑(.im t)->∃ d,δ[i]?=↑↑d/\Sn Ó t d
 ow:∀ Ê c,Ď=↑↑(.own c)->∃ p o,ï/\S p=↑o/\xl Ó c o/\Z p
def Vw ħ (y:T) (d:D):Prop:=Ã2\/∃ ts p ds,y=Û/\d=.ref p/\S p=↑(ă ds)/\Ē/\Z p
abbrev Rk:=SS->SS->(È)->T->D->Prop
def XF:Rk:=λ _ S' Z y d=>Vw S' Z y d
def xK:Rk:=λ _ S' Z y d=>Sn Ŋ y d
def zE:Rk:=λ S S' Z y d=>Sn Ŋ y d/\∀ ts,y=Û->∃ p ds,d=.ref p/\S p=none/\S' p=↑(ă ds)/\zj Ġ ts ds
class Cl À5:Prop where
 cl:∀ {S S1 S':SS}{Z:È}Į,Sx S S1->R S1 S' Z y d->ė
 of:∀ œ{Z:È}Į,(∀ ts,y≠ Û)->Sn Ŋ y d->ė
instance:Cl XF:=#[λ _ h=>h,λ _ h=>Ī h]
instance:Cl xK:=#[λ _ h=>h,λ _ h=>h]
instance:Cl zE:=#[λ s h=>#[h.1,λ ts e=>by
 let#[p,ds,h1,h2,h3]:=h.2 ts e;show#[p,ds,h1,s.none h2,h3]],λ n h=>#[h,λ ts e=>absurd e (n ts)]]
section
variable {œ}{ü}{Į}
def ER.grow (h:Ŧ) (s:ø):ER S' Z δ ρ:=
 #[λ a z q=>h.zd a z (s.none q),λ i t e=>by
  let#[d,h1,h2]:=h.im i t e;show#[d,h1,ť (wC s) t h2],λ i ts e=>by
  let#[p,ds,h1,h2,h3,h4]:=h.ow i ts e;show#[p,ds,h1,s Ċ h2,xl.sx (wC s) h3,h4]]
def Vw.grow (h:Ã3) (s:ø):Vw S' Z y d:=by
 rcases h with h | ⟨ts,p,ds,h1,h2,h3,h4,h5⟩
 .show Ī (ť (wC s) y h)
 .show ŧ #[ts,p,ds,h1,h2,s Ċ h3,ŋ (wC s) ts h4,h5]
def Vw.sn (h:Ã3):Sn S y d:=by
 rcases h with h | ⟨ts,p,ds,rfl,rfl,h3,h4,_⟩
 .show ť (nY Œ) y h
 .ext ł;show#[ds,ŧ #[p,rfl,h3],ŋ (nY Œ) ts h4]
theorem Vw.zp (h:Vw Œ .zp d):d=.zp:=by
 ext Ë
 ext ć
 .cases h
theorem Vw.bl {b:Bool}(h:Vw Œ (.bl b) d):d=.bl b:=by
 ext Ë
 ext ć
 .cases h
theorem Vw.int {b:Int}(h:Vw Œ (ê b) d):d=ê b:=by
 ext Ë
 ext ć
 .cases h
theorem Vw.str {b:Str}(h:Vw Œ (Ũ b) d):d=Ũ b:=by
 ext Ë
 ext ć
 .cases h
theorem Vw.tup ś(h:Vw Œ (Ģ ts) d):∃ ds,d=Ģ ds/\Ē:=by
 ext Ë
 ext ć
 .cases h
theorem Vw.lst ś(h:Vw Œ (Û) d):∃ ds,(d=.x_ ds\/∃ a,d=.ref a/\S a=↑(ă ds))/\Ē:=by
 rcases h with h | ⟨us,p,ds,h1,h2,h3,h4,_⟩
 .simp![Sn] at h;let#[ds,h1,h2]:=h;exact#[ds,?_,h2];rcases h1 with h1 | ⟨a,h1,h3⟩
  .show Ī h1.1
  .show ŧ #[a,h1,(uK h3).2]
 .cases h1;show#[ds,ŧ #[p,h2,h3],h4]
def vz:T->À (Ô)
 | Ģ ts=>↑ts
 | Û=>↑ts
 | _=>none
@[simp] theorem zab (ts:Ô):vz (Ģ ts)=↑ts:=rfl
@[simp] theorem zac (ts:Ô):vz (Û)=↑ts:=rfl
def Vw.seq ś(h:Ã3) (e:vz y=↑ts):∃ ds,zV d S=↑ds/\Ē:=by
 cases y with
 | tup us=>cases e;let#[ds,rfl,h2]:=h.tup;show#[ds,rfl,h2]
 | lst us=>
  cases e;obtain⟨ds,h1 | ⟨a,rfl,h1⟩,h2⟩:=h.lst
  .subst h1;show#[ds,rfl,h2]
  .show#[ds,by unfold zV;ext Ä0,h2]
 | _=>cases e
theorem Vw.xh (h:Vw Œ .xh d):∃ a Ab,(d=.ref a/\Ab=[])/\S a=↑(.yv Ab):=by
 ext Ë
 .simp![Sn] at h;let#[a,Ab,h1,h2]:=h;show#[a,Ab,h1,(uK h2).2]
 .cases h
def iT:Sn S .zp .zp:=by ext ł
def vy {b:Bool}:Sn S (.bl b) (.bl b):=by ext ł
def wy {i:Int}:Sn S (ê i) (ê i):=by ext ł
def VO {x:Str}:Sn S (Ũ x) (Ũ x):=by ext ł
def pQ ś Đ(h:zj S ts ds):Sn S (Ģ ts) (Ģ ds):=by ext ł;show#[ds,rfl,h]
def sE ś Đ{p:Addr}(hz:ą) ź (h:Ē):zE S (ups S p (ă ds)) Z (Û) Ō:=by
 have nz:¬ Z p:=λ z=>hz p z hp;have s:Sx S (ups S p (ă ds)):=.new hp _;exact#[?_,λ us e=>?_]
 .ext ł;show#[ds,ŧ #[p,rfl,by rw[wX nz,tf]],ŋ (wC s) ts h]
 .cases e;show#[p,ds,rfl,hp,tf,ŋ (qG s hp) ts h]
end
def xu À5 đ (t:zv):Prop:=∀ S Z δ ρ y Q,Ŧ->f ρ=↑y->(∀ d S',ø->ė->Q d S')->t Ū Q
abbrev xX:=xu xK
abbrev yz:=xu XF
abbrev xn:=xu zE
def xu.imp {R R':Rk}Ż(h:xu R f t) (i:∀ S S' Z y d,ė->R' S S' Z y d):xu R' f t:=λ S Z δ ρ y Q hE e hq=>h Á y Q hE e λ d S' s r=>hq d S' s (i Ċ Ċ _ r)
def xu.er Ż(h:xX f t):yz f t:=h.imp λ _ _ _ _ _ r=>Ī r
def xu.fe Ż(h:xn f t):xX f t:=h.imp λ _ _ _ _ _ r=>r.1
def xu.fr Ż(h:xn f t):yz f t:=h.fe.er
@[simp] def zi Ê:Ae:=fun ρ=>match Ď with
 | some ↑(.im t)=>↑t
 | _=>none
@[simp] def zc Ê:Ae:=fun ρ=>match Ď with
 | some ↑(.im t)=>↑t
 | ı=>↑(Û)
 | _=>none
@[simp] def cS (t:T):Ae:=λ _=>↑t
@[simp] abbrev cI (i:Int):Ae:=cS (ê i)
def aB Ê:xX (zi i) ſ:=λ S Z δ ρ y Q hE e hq=>by
 unfold zi at e;split at e
 .ext ĩ;show hq d Ì h2
 .cases e
def Pg Ê:yz (zc i) ſ:=λ S Z δ ρ y Q hE e hq=>by
 unfold zc at e;split at e
 .ext ĩ;show hq d Ì (Ī h2)
 .rename_i ts h;cases e;let#[p,o,h1,h2,h3,h4]:=hE.ow i _ h;ext ż;cases o with
  | lst ds=>show hq _ Ì (ŧ #[ts,p,ds,rfl,rfl,h2,h3,h4])
  | _=>show h3.elim
 .cases e
def PB (i:Int):xn (cS (ê i)) (dC (ê i)):=λ S Z δ ρ y Q hE e hq=>by cases e;show þ
def PV (i:Bool):xn (cS (.bl i)) (dC (.bl i)):=λ S Z δ ρ y Q hE e hq=>by cases e;show hq _ Ì Č
def Pn (i:Str):xn (cS (Ũ i)) (dC (Ũ i)):=λ S Z δ ρ y Q hE e hq=>by cases e;show hq _ Ì (Cl.of Ï VO)
def Pt:xn (cS .zp) (dC .zp):=λ S Z δ ρ y Q hE e hq=>by cases e;show hq _ Ì (Cl.of Ï iT)
@[simp] def zb (f:ß) (fa fb:Ae):Ae:=fun ρ=>(fa ρ).bind λ x=>(fb ρ).bind λ y=>f x y
def Good2 À5 (f:ß) (g:yK):Prop:=∀ S Z x y z d e Q,(ą)->Vw Œ x d->Vw Œ y e->f x y=↑z->À0->g d e S Q
def sI Ň [Cl R] {f:ß}{g:yK}{fa fb:Ae}{ta tb:zv}(hg:Good2 R f g) ì:xu R (zb f fa fb) (yu g ta tb):=λ S Z δ ρ y Q hE e hq=>by
 unfold zb at e;let#[x,e1,e]:=Ð;let#[z,e2,e]:=Ð;exact ha Á x Å;exact hb ċ z _ (Ć) e2 λ d2 S2 s2 r2=>?_;show hg S2 Z x z y d d2 Q ((hE.grow ä).zd) (Vw.grow r1 s2) r2 e λ c S' s r=>hq c S' ((s1.trans s2).trans s) (Cl.cl ä r)
@[simp] def i2 (g:Int->Int->T):ß
 | ê i,ê j=>↑(g i j)
 | _,_=>none
instance {i j:Int}:Ã4 (rg i j):=by unfold rg;infer_instance
instance {i j:Int}:Ã4 (pF i j):=by unfold pF;infer_instance
instance {i j:Int}:Ã4 (qp i j):=by unfold qp;infer_instance
@[simp] def rQ (C:Int->Int->Prop) [∀ i j,Ã4 (C i j)] (g:Int->Int->T):ß
 | ê i,ê j=>if C i j then ↑(g i j) else none
 | _,_=>none
def mf õ:Good2 zE (i2 g) (yO g'):=λ S Z x y z d e Q hz hx hy ef hq=>by
 unfold i2 at ef;split at ef
 .cases ef;cases hx.int;cases hy.int;show Á2
 .cases ef
def o5 {C:Int->Int->Prop} [∀ i j,Ã4 (C i j)] õ:Good2 zE (rQ C g) (fI C g'):=λ S Z x y z d e Q hz hx hy ef hq=>by
 unfold rQ at ef;split at ef
 .split at ef
  .rename_i hh;cases ef;cases hx.int;cases hy.int;show#[hh,Á2]
  .cases ef
 .cases ef
@[simp] def yB:ß:=i2 λ i j=>ê (i-j)
@[simp] def zS:ß:=rQ (λ _ j=>0<j) λ i j=>ê (i%j)
@[simp] def yI:ß:=rQ pF λ i j=>ê (i/j)
@[simp] def xN:ß:=rQ qp λ i j=>ê (i ^ j.toNat)
@[simp] def ltI:ß:=i2 λ i j=>.bl (ņ (i<j))
@[simp] def oj:ß:=i2 λ i j=>.bl (ņ (i<=j))
@[simp] def ma:ß:=i2 λ i j=>.bl (ņ (j<i))
@[simp] def o8:ß:=i2 λ i j=>.bl (ņ (j<=i))
section
variable {fa fb:Ae}{ta tb:zv}
def Pm ì:xn (zb yB fa fb) (yu (yO λ i j=>ê (i-j)) ta tb):=sI (mf (λ _ _ _=>wy) λ _ _ _=>nofun) ha hb
def Px ì:xn (zb zS fa fb) (yu (fI (λ _ j=>0<j) λ i j=>ê (i%j)) ta tb):=û
def PK ì:xn (zb yI fa fb) (yu (fI pF λ i j=>ê (i/j)) ta tb):=û
def Pq ì:xn (zb xN fa fb) (yu (fI qp λ i j=>ê (i ^ j.toNat)) ta tb):=û
end
def zU (neg:Bool):ß:=λ x y=>if dep x<=60/\dep y<=60 then ↑(.bl (cond neg (!eqT x y) (eqT x y))) else none
def rP (neg:Bool):ß:=λ x y=>match vz y with
 | some ts=>if dep x<=60/\xI ts<=60 then ↑(.bl (cond neg (!(ts.any λ t=>eqT t x)) (ts.any λ t=>eqT t x))) else none
 | none=>none
def MK {neg:Bool}:Good2 zE (zU neg) (vC neg):=λ S Z x y z d e Q hz hx hy ef hq=>by
 unfold zU at ef;split at ef
 .rename_i h;cases ef;show#[x,y,hx.sn,hy.sn,h.1,h.2,hq _ Ì Č]
 .cases ef
def MJ {neg:Bool}:Good2 zE (rP neg) (uM neg):=λ S Z x y z d e Q hz hx hy ef hq=>by
 unfold rP at ef;split at ef
 .rename_i ts ht;split at ef
  .rename_i h;cases ef;let#[ds,h1,h2]:=hy.seq ht;show#[x,ts,ds,hx.sn,h1,ŋ (nY Œ) ts h2,h.1,h.2,hq _ Ì Č]
  .cases ef
 .cases ef
@[simp] def zh:ß:=λ x y=>match vz x,y with
 | some ts,ê i=>L2.zT ts i
 | _,_=>none
def ZM:Good2 xK zh wG:=λ S Z x y z d e Q hz hx hy ef hq=>by
 unfold zh at ef;split at ef
 .rename_i ts i ht;cases hy.int;let#[ds,h1,h2]:=hx.seq ht;let#[c,h3,h4]:=h2.at ef;unfold zV at h1;split at h1
  .cases h1;show Lu h3 (hq c Ì h4)
  .cases h1;show Lv h3 (hq c Ì h4)
  .split at h1
   .rename_i q;cases h1;show Lx q h3 (hq c Ì h4)
   .cases h1
  .cases h1
 .cases ef
@[simp] def zai:ß
 | ê i,ê j=>↑(ê (i+j))
 | Ũ i,Ũ j=>if i.length+j.length<=í then ↑(Ũ (i++j)) else none
 | Û,ă us=>if ō+us.length<=í then ↑(ă (ts++us)) else none
 | Ģ ts,Ģ us=>if ō+us.length<=í then ↑(Ģ (ts++us)) else none
 | _,_=>none
def zah:yK:=λ x y S Q=>match x,y with
 | ê i,ê j=>Q (ê (i+j)) S
 | Ũ i,Ũ j=>i.length+j.length<=í/\Q (Ũ (i++j)) S
 | Ģ ds,Ģ es=>ds.length+es.length<=í/\Q (Ģ (ds++es)) S
 | .zp,_=>ŷ
 | .bl _,_=>ŷ
 | ê _,_=>ŷ
 | Ũ _,_=>ŷ
 | Ģ _,_=>ŷ
 | x,y=>match zV x S,zV y S with
  | some ds,↑es=>(∀ ts,y≠ Ģ ts)/\ds.length+es.length<=í/\∀ r,S r=none->Q (.ref r) (ups S r (ă (ds++es)))
  | _,_=>ŷ
def vw (f:Ñ) (t:yA):Prop:=∀ S Z δ ρ y Q,Ŧ->f ρ=↑y->(∀ S',ø->Q y S')->t Ū Q
@[simp] def zQ đ:Ñ:=fun ρ=>Ø λ x=>match x with
 | .bl b=>↑b
 | _=>none
@[simp] def iC:T->À Bool
 | .zp=>↑false
 | .bl b=>↑b
 | ê i=>↑(i != 0)
 | Ũ x=>if x.length<=í then ↑((x.length:Int) != 0) else none
 | Ģ ts=>↑(!ts.isEmpty)
 | Û=>↑(!ts.isEmpty)
 | .xh=>none
 | .err Ċ _=>none
@[simp] def yT đ:Ñ:=fun ρ=>Ø iC
@[simp] def rV (f g:Ñ):Ñ:=fun ρ=>Ø λ b=>if b=true then g ρ else ↑false
@[simp] def vp (f g:Ñ):Ñ:=fun ρ=>Ø λ b=>if b=true then ↑true else g ρ
@[simp] def wc (f:Ñ):Ñ:=fun ρ=>(f ρ).map (!·)
section
variable {f g:Ae}{t u:zv}{fb gb:Ñ}{tb ub:yA}{Ň}
def Pj À6:vw (zQ f) (ua t):=λ S Z δ ρ y Q hE e hq=>by
 ext ç;ext Ŕ
 .ext Ŗ;cases Vw.bl r1;show Ę
 .ext Ŗ
def Pl À6:vw (yT f) (Yu t):=λ S Z δ ρ y Q hE e hq=>by
 ext ç;cases x with
 | zp=>cases Vw.zp r1;ext Ŗ;show Ę
 | bl b=>cases Vw.bl r1;ext Ŗ;show Ę
 | int b=>ext Â8;ext Ŗ;show Ę
 | str b=>
  cases Vw.str r1;simp![iC] at e2;ext Ŕ
  .rename_i hh;ext Ŗ;show#[hh,Ę]
  .ext Ŗ
 | tup ts=>
  let#[ds,rfl,h2]:=Vw.tup r1;ext ŉ
 | lst ts=>
  ext ë
  .ext ŉ
  .ext Ŗ;exact Vl h1 ?_;rw[h2.empty];show Ę
 | _=>ext Ŗ
def PN (h:vw fb tb) (h':vw gb ub):vw (rV fb gb) (mF tb ub):=λ S Z δ ρ y Q hE e hq=>by
 ext į
 .ext Ĵ;show Ÿ
 .ext ŀ;ext Ŗ;show Ę
def PL (h:vw fb tb) (h':vw gb ub):vw (vp fb gb) (mD tb ub):=λ S Z δ ρ y Q hE e hq=>by
 ext į
 .ext Ĵ;ext Ŗ;show Ę
 .ext ŀ;show Ÿ
def PM (h:vw fb tb):vw (wc fb) (mE tb):=λ S Z δ ρ y Q hE e hq=>by
 unfold wc at e;let#[b,e1,rfl]:=Ş e;show h Á b ū λ S1 s1=>Ę
@[simp] def tX (f g:Ae):Ae:=fun ρ=>Ø λ x=>match x with
 | .bl k=>if k=true then g ρ else ↑(.bl false)
 | _=>none
@[simp] def gJ đ:Ae:=fun ρ=>Ø λ x=>match x with
 | .bl k=>↑(.bl (!k))
 | _=>none
@[simp] def fq (c:Ñ) (f g:Ae):Ae:=fun ρ=>(c ρ).bind λ b=>if b=true then f ρ else g ρ
def PX [Cl R] À6 (h':xu R g u):xu R (tX f g) (mS t u):=λ S Z δ ρ y Q hE e hq=>by
 ext ç;ext Ŕ
 .cases Vw.bl r1;ext Ŕ
  .rename_i hb;dsimp only;rw[é hb];show h' Ö
  .rename_i hb;dsimp only;rw[å hb];ext Ŗ;show hq _ S1 s1 Č
 .ext Ŗ
def Pr [Cl R] À6:xu R (gJ f) (mN t):=λ S Z δ ρ y Q hE e hq=>by
 ext ç;ext Ŕ
 .cases Vw.bl r1;ext Ŗ;show hq _ S1 s1 Č
 .ext Ŗ
def PH [Cl R] (hc:vw fb tb) (h:xu R f t) (h':xu R g u):xu R (fq fb f g) (mP tb t u):=λ S Z δ ρ y Q hE e hq=>by
 ext Â9;exact hc Á b ū λ S1 s1=>?_;ext Ŕ
 .ext Ĵ;show h Ö
 .ext ŀ;show h' Ö
end
def lh ħ:Ô->List D->Prop
 | [],ds=>ds=[]
 | t::ts,ds=>∃ c cs,ds=c::cs/\Vw Œ t c/\lh Œ ts cs
def pd (f:Ä) (t:ym):Prop:=∀ S Z δ ρ ys Q,Ŧ->f ρ=↑ys->(∀ ds S',ø->lh S' Z ys ds->Q ds S')->t Ū Q
def t_ (f:Ä) (t:ym):Prop:=∀ S Z δ ρ ys Q,Ŧ->f ρ=↑ys->(∀ ds S',ø->zj Ŋ ys ds->Q ds S')->t Ū Q
@[simp] def zf:Ä:=λ _=>↑[]
@[simp] def za đ (g:Ä):Ä:=fun ρ=>Ø λ x=>ī λ xs=>↑(x::xs)
section
variable {f:Ae}{g:Ä}{t:zv}{u:ym}
def Pe:pd zf oH:=λ S Z δ ρ y Q hE e hq=>by cases e;show hq [] Ì rfl
def Pc:t_ zf oH:=λ S Z δ ρ y Q hE e hq=>by cases e;show hq [] Ì .nil
def Pf À6 (h':pd g u):pd (za f g) (qP t u):=λ S Z δ ρ y Q hE e hq=>by
 ext ã;show hq _ S2 ä #[d,ds,rfl,Vw.grow r1 s2,r2]
def Pd (h:xX f t) (h':t_ g u):t_ (za f g) (qP t u):=λ S Z δ ρ y Q hE e hq=>by
 ext ã;show hq _ S2 ä (.cons (ť (wC s2) x r1) r2)
@[simp] def tupS (g:Ä):Ae:=fun ρ=>ī λ xs=>if Ã5<=í then ↑(Ģ xs) else none
@[simp] def xp (g:Ä):Ae:=fun ρ=>ī λ xs=>if Ã5<=í then ↑(ă xs) else none
def Ph (h:t_ g u):xn (tupS g) (Y1 u):=λ S Z δ ρ y Q hE e hq=>by
 ext Á8;ext Ŕ
 .rename_i hl;ext Ŗ;exact h Á xs ū λ ds S1 s1 r1=>#[by rw[r1.len];show hl,hq _ S1 s1 (Cl.of Ï (pQ r1))]
 .ext Ŗ
def Py (h:t_ g u):xn (xp g) (Y9 u):=λ S Z δ ρ y Q hE e hq=>by
 ext Á8;ext Ŕ
 .rename_i hl;ext Ŗ;exact h Á xs ū λ ds S1 s1 r1=>#[by rw[r1.len];show hl,λ p hp=>hq Ċ (s1.trans (.new hp _)) (Cl.cl s1 (sE (Ć).zd hp r1))]
 .ext Ŗ
end
@[simp] def zt (F:Am) (g:Ä):Ae:=fun ρ=>ī F
def vH À5 (F:Am) (f:xt):Prop:=∀ S Z ys z ds Q,(ą)->lh Œ ys ds->F ys=↑z->À0->f ds S Q
def PU Ň [Cl R] {F:Am}{f:xt}{g:Ä}{u:ym}(hf:vH R F f) (h:pd g u):xu R (zt F g) (xr f u):=λ S Z δ ρ y Q hE e hq=>by
 ext ĵ;show hf S1 Z xs y ds Q (Ć).zd r1 e2 λ c S' s r=>hq c S' (s1.trans s) (Cl.cl s1 r)
@[simp] def xx:Am
 | [Ũ z]=>if z.length<=í then ↑(ê z.length) else none
 | [y]=>(vz y).map λ ts=>ê ō
 | _=>none
def vJ ľ{Z:È}{y:T}Đ(h:lh Œ [y] ds):∃ d,ds=[d]/\Ã3:=by
 let#[c,cs,rfl,h1,h2]:=h;cases h2;show#[c,rfl,h1]
def c7 ľ{Z:È}{y z:T}Đ(h:lh Œ [y,z] ds):∃ d e,ds=[d,e]/\Ã3/\Vw Œ z e:=by
 let#[c,cs,rfl,h1,c2,cs2,rfl,h2,h3]:=h;cases h3;show#[c,c2,rfl,h1,h2]
def MH:vH zE xx u3:=λ S Z ys z ds Q hz hv e hq=>by
 unfold xx at e;split at e
 .ext Ŵ;split at e
  .rename_i hl;cases e;cases h1.str;show#[hl,þ]
  .cases e
 .ext Õ;exact Ls h2 ?_;rw[h3.len];show þ
 .cases e
@[simp] def listS:Am
 | [y]=>(vz y).map ă
 | _=>none
def MG:vH zE listS uz:=λ S Z ys z ds Q hz hv e hq=>by
 unfold listS at e;split at e
 .ext Õ;show Lr h2 λ p hp=>hq Ċ (.new hp _) (sE hz hp h3)
 .cases e
@[simp] def rl:Am
 | [y]=>(vz y).map Ģ
 | _=>none
def M8:vH zE rl uv:=λ S Z ys z ds Q hz hv e hq=>by
 unfold rl at e;split at e
 .rename_i y;ext Õ;have k:Q (Ģ es) S:=hq _ Ì (Cl.of Ï (pQ h3));unfold zV at h2;split at h2
  .cases h2;show k
  .cases h2;show k
  .split at h2
   .rename_i q;cases h2;show Lq q k
   .cases h2
  .cases h2
 .cases e
@[simp] def nW (g:Int->Int->Int):Am
 | [ê i,ê j]=>↑(ê (g i j))
 | _=>none
def ZN {g:Int->Int->Int}:vH zE (nW g) (vY λ i j=>ê (g i j)):=λ S Z ys z ds Q hz hv e hq=>by
 unfold nW at e;split at e
 .let#[d,d',rfl,h1,h2]:=c7 hv;cases e;cases h1.int;cases h2.int;show þ
 .cases e
@[simp] def rL:Am:=nW λ i j=>if j>i then j else i
@[simp] def wR:Am:=nW λ i j=>if j<i then j else i
def qa:Ô->À (Ĩ)
 | []=>↑[]
 | .bl b::ts=>(qa ts).map (b::·)
 | _::_=>none
theorem Xl:∀ ś{bs:Ĩ},qa ts=↑bs->ts=bs.map T.bl
 | [],bs,h=>ę
 | .bl b::ts,bs,h=>by
  unfold qa at h;let#[cs,h1,rfl]:=Ş h;rw[Ay,<- Xl h1]
 | .zp::ts,bs,h=>ò
 | ê _::ts,bs,h=>ò
 | Ũ _::ts,bs,h=>ò
 | Ģ _::ts,bs,h=>ò
 | ă _::ts,bs,h=>ò
def Jb (bs:Ĩ):qa (bs.map T.bl)=↑bs:=by
 induction bs with
 | nil=>rfl
 | cons b bs ih=>rw[Ay];unfold qa;rw[ih];rfl
@[simp] def mX (g:Ĩ->Bool):Am
 | [Û]=>(qa ts).map λ bs=>.bl (g bs)
 | _=>none
def vZ (g:Ĩ->Bool):xt:=λ ds S Q=>match ds with
 | [Ģ _]=>ŷ
 | [d]=>ĺ
 | _=>ŷ
def ML {g:Ĩ->Bool}:vH zE (mX g) (vZ g):=λ S Z ys z ds Q hz hv e hq=>by
 unfold mX at e;split at e
 .ext Ŵ;let#[bs,e1,rfl]:=Ş e;cases Xl e1;let#[es,h2,h3]:=h1.seq rfl;cases h3.Xm;have key:ĺ:=#[bs,h2,hq _ Ì Č];obtain⟨_,q | ⟨a,q,_⟩,_⟩:=h1.lst
  .subst q;show key
  .subst q;show key
 .cases e
structure FR (S0:SS) (Z0:È) ħ (δ:yc) Ě:Prop where
 er:Ŧ
 len:Ĳ
 sx:Sx S0 S
 z0:∀ a,Z0 a->S0 a≠none
 zz:∀ a,Z0 a->Z a
 zn:∀ a,Z a->Z0 a\/S0 a=none
 fr:∀ Ê ts p,À1->ï->S0 p=none/\adr ts p
 dj:∀ (i j:Nat) ts us p,i≠j->À1->ρ[j]?=↑↑(.own us)->ï->δ[j]?=↑↑ Ō->ŷ
def yG ñ{l:Ĝ}{i j:Nat}{a b:α}(h:(l.set i a)[j]?=↑b):(i=j/\i<l.length/\b=a)\/(i≠j/\l[j]?=↑b):=by
 rw[DQ] at h;by_cases e:i=j
 .subst e;rw[é rfl] at h;by_cases hl:i<l.length
  .rw[é hl] at h;cases h;show Ī #[rfl,hl,rfl]
  .rw[å hl] at h;cases h
 .rw[å e] at h;show ŧ #[e,h]
def wZ ñ{l:Ĝ}{i j:Nat}{a:α}(h:i≠j):(l.set i a)[j]?=l[j]?:=by rw[DQ,å h]
def o6 ñ{l:Ĝ}{i:Nat}{a:α}(h:i<l.length):(l.set i a)[i]?=↑a:=by rw[DQ,é rfl,é h]
section
variable {S0 S S':SS}{Z0 Z:È}{Ä3}{Į}
theorem FR.grow (h:Ù) (s:ø):FR ĝ S' Z δ ρ:=#[h.er.grow s,h.len,h.sx.trans s,h.z0,h.zz,h.zn,h.fr,h.dj]
theorem FR.pS (h:Ù) Ê (r:Ã2):FR ĝ Œ (δ.set i ↑d) ÿ:=by
 exact Ú
 .ext Â
  .cases e;show#[d,ð,r]
  .rw[wZ n];show h.er.im j t e
 .ext Â
  .cases e
  .rw[wZ n];show ů j ts e
 .ext Â
  .cases e
  .rw[wZ n] at e';show h.fr j ts p e e'
 .ext Þ
  .cases e
  ext ö
  .cases e
  rw[wZ n1] at e3;rw[wZ n2] at e4;show h.dj j k ts us p Ŝ
theorem FR.iX {ts:C}{ds:O}Ä1 (s:ø) Ê ź (hd:S' p=↑ds) (r:xl Ġ ts ds) (ha:adr ts p:=by show Ã6):
  FR ĝ S' (λ a=>Z a\/a=p) (δ.set i ↑ Ō) (ŗ i ↑(.own ts)):=by
 have np:∀ (j:Nat) us q,ρ[j]?=↑↑(.own us)->δ[j]?=↑↑(.ref q)->q≠p:=λ j us q e e' z=>by
  subst z;let#[p',GW,h1,h2,_]:=ů j us e;rw[e'] at h1;cases h1;rw[hp] at h2;cases h2
 exact#[#[λ a z=>?_,λ j t e=>?_,λ j us e=>?_],ş,h.sx.trans s,h.z0,λ a z=>Ī (h.zz a z),λ a z=>z.elim (h.zn a) (λ q=>ŧ (by subst q;show h.sx.none hp)),λ j us q e e'=>?_,Á3]
 .rcases z with z | rfl
  .show λ q=>h.er.zd a z (s.none q)
  .rw[hd];nofun
 .ext Â
  .cases e
  .rw[wZ n];let#[d,h1,h2]:=h.er.im j t e;show Â1
 .ext Â
  .cases e;show#[p,ds,ð,hd,r,ŧ rfl]
  .rw[wZ n];let#[q,es,h1,h2,h3,h4]:=ů j us e;show#[q,es,h1,s Ċ h2,xl.sx (qG s hp) h3,Ī h4]
 .ext Â
  .rw[ð] at e';cases e';cases e;show#[h.sx.none hp,ha]
  .rw[wZ n] at e';show h.fr j us q e e'
 .ext Þ
  .rcases yG e2 with ⟨rfl,_,_⟩ | ⟨n2,e2⟩
   .show n rfl
   .rw[ð] at e3;cases e3;rw[wZ n2] at e4;show np k vs p e2 e4 rfl
  .ext ú
   .rw[ð] at e4;cases e4;rw[wZ n1] at e3;show np j us p e1 e3 rfl
   .rw[wZ n1] at e3;rw[wZ n2] at e4;show h.dj j k us vs q Ŝ
def FR.forget (h:Ù) Ê:FR ĝ Œ δ (ŗ i none):=by
 exact Ú
 .ext Â
  .cases e
  .show h.er.im j t e
 .ext Â
  .cases e
  .show ů j ts e
 .ext Â
  .cases e
  .show h.fr j ts p e e'
 .ext Þ
  .cases e
  ext ö
  .cases e
  show h.dj j k ts us p Ŝ
@[simp] def yt (is:Ŏ) Ě:Ev:=is.foldl (fun ρ i=>ŗ i none) ρ
theorem FR.yt:∀ (is:Ŏ) {ρ:Ev},Ù->FR ĝ Œ δ ļ
 | [],_,h=>h
 | i::is,_,h=>FR.yt is (h.forget i)
def FR.freeze ś Ä1 Ê (e:Ď=↑↑(.own (Û))) (ed:ï):
  FR ĝ S (λ a=>Z a/\a≠p) δ (ŗ i ↑(.im (Û)))/\À9:=by
 let#[p',o,h1,h2,h3,h4]:=ů i _ e;rw[ed] at h1;cases h1;obtain⟨ds,rfl⟩:∃ ds,o=ă ds:=by
  cases o with
  | lst ds=>show#[ds,rfl]
  | _=>show h3.elim
 replace h3:Ē:=h3;have hS:À9:=by
  ext ł;show#[ds,ŧ #[p,rfl,by rw[wX (λ z=>z.2 rfl)];show h2],ŋ Ã7 ts h3]
 exact#[?_,hS];exact#[#[λ a z=>h.er.zd a z.1,λ j t e'=>?_,λ j us e'=>?_],ş,h.sx,h.z0,λ a z=>#[h.zz a z,λ q=>?_],λ a z=>h.zn a z.1,λ j us q e' ed'=>?_,Á3]
 .ext Î
  .cases e';show#[_,ed,hS]
  .let#[d,g1,g2]:=h.er.im j t e';show#[d,g1,ť Ã7 t g2]
 .ext Î
  .cases e'
  .let#[q,es,g1,g2,g3,g4]:=ů j us e';show#[q,es,g1,g2,xl.sx Ã7 g3,g4,λ z=>by subst z;show h.dj i j _ us q n e e' ed g1]
 .subst q;show h.z0 a z (h.fr i _ a e ed).1
 .ext Î
  .cases e'
  .show h.fr j us q e' ed'
 .ext Þ
  .cases e
  ext ö
  .cases e
  show h.dj j k us vs q Ŝ
def FR.mut {ts us:C}{es:O}Ä1 Ê (e:À1) (ed:ï) (r:xl Ó us es) (ha:adr ts p->adr us p:=by show λ _=>Ã6):
  FR ĝ (ups S p es) Z δ (ŗ i ↑(.own us)):=by
 ext Ğ;have hh:zB (ups S p es) Z=zB Œ:=NR h4;let#[hpn,hpa]:=ģ;exact#[#[λ a z=>?_,λ j t e'=>?_,λ j vs e'=>?_],ş,Ã8,h.z0,h.zz,h.zn,λ j vs q e' ed'=>?_,λ j k vs ws q n e1 e2 e3 e4=>?_]
 .by_cases hp:a=p
  .subst hp;rw[tf];nofun
  .rw[sr hp];show h.er.zd a z
 .rw[hh];ext Î
  .cases e'
  .show h.er.im j t e'
 .rw[hh];ext Î
  .cases e';show#[p,es,ed,tf,r,h4]
  .let#[q,FC,g1,g2,g3,g4]:=ů j vs e';exact#[q,FC,g1,?_,g3,g4];rw[sr (λ z=>by subst z;show h.dj i j ts vs q n e e' ed g1)];show g2
 .rw[sr (λ z=>by subst z;rw[hpn] at q;cases q)];show h.sx b o q
 .rcases yG e' with ⟨rfl,hl,_⟩ | ⟨n,e'⟩
  .rw[ed] at ed';cases ed';rename_i e';cases e';show#[hpn,ha hpa]
  .show h.fr j vs q e' ed'
 .rcases yG e1 with ⟨rfl,hl,_⟩ | ⟨n1,e1⟩
  .ext ú
   .show n rfl
   .show h.dj _ k ts ws q n e e2 e3 e4
  .ext ú
   .show h.dj j _ vs ts q n e1 e e3 e4
   .show h.dj j k vs ws q Ŝ
def gj (S0 S:SS) (Z:È):SS:=open Classical in λ a=>if S0 a=none/\Z a then none else S a
def kg {a:Addr}(h:¬ (S0 a=none/\Z a)):gj S0 Œ a=S a:=å h
def gh {a:Addr}(h:S0 a=none/\Z a):gj S0 Œ a=none:=é h
def FR.rebase (h:Ù):∃ S1,Sx S0 S1/\FR S1 Z0 Á/\Sx Ó S1:=by
 exact#[gj S0 Œ,Ã8,#[h.er,h.len,Ã8,λ a z=>?_,h.zz,λ a z=>?_,λ i ts p e ed=>?_,h.dj],Ã8]
 .rw[kg (λ z=>by rw[z.1] at q;cases q)];show h.sx Ċ q
 .by_cases w:S0 b=none/\Z b
  .rw[gh w] at q;cases q
  .rw[kg w] at q;show q
 .rw[kg (λ q=>h.z0 a z q.1)];show h.er.zd a (h.zz a z)
 .rcases h.zn a z with w | w
  .show Ī w
  .show ŧ (gh #[w,z])
 .ext Ğ;show#[gh #[(ģ).1,h4],(ģ).2]
 .ext ĕ;rw[kg (λ z=>q1 z.2)];show q2
def FR.back {S1:SS}(h:FR S1 Z0 Á) (s:Sx S0 S1) (z0:∀ a,Z0 a->S0 a≠none):Ù:=#[h.er,h.len,s.trans h.sx,z0,h.zz,λ a z=>(h.zn a z).imp id s.none,λ i ts p e ed=>#[s.none (ģ).1,(ģ).2],h.dj]
def FR.Ua {S1:SS}{Z1:È}(h:Ù) (b:Sx (zB S1 Z1) S0) (zz:∀ a,Z0 a->Z1 a):Sx (zB S1 Z1) Ó:=λ a o q=>by
 have q0:=b Ċ q;ext ĕ;rw[wX]
 .show h.sx Ċ q0
 .intro z;rcases h.zn a z with w | w
  .show q1 (zz a w)
  .rw[w] at q0;cases q0
end
inductive Out where
 | nx Ě | rt (t:T) | bk Ě | ct Ě
abbrev Sm:=Ev->À Out
def J6 À5 (S0:SS) (Z0:È) (o:Out) (E:qm):Prop:=match o with
 | .nx ρ=>∀ S Z δ,Ù->E.nx Ū
 | .bk ρ=>∀ S Z δ,Ù->E.bk Ū
 | .ct ρ=>∀ S Z δ,Ù->E.ct Ū
 | .rt y=>∀ d S,Sx S0 S->R S0 S Z0 y d->E.rt d S
def yn À5 (g:Sm) (t:yC):Prop:=∀ S0 Z0 S Z δ ρ o E,Ù->g ρ=↑o->J6 R ĝ o E->t E Ū
class Lo À5:Prop extends Cl R where
 lo:∀ {S0 S S':SS}{Z0 Z:È}Į,Sx S0 S->(∀ a,Z0 a->Z a)->ė->R S0 S' Z0 y d
instance:Lo xK:=#[λ _ z h=>ť (wY z) _ h]
instance:Lo zE:=#[λ s z h=>#[ť (wY z) _ h.1,λ ts e=>by
 let#[p,ds,h1,h2,h3,h4]:=h.2 ts e;show#[p,ds,h1,s.none h2,h3,ŋ (wY λ a q=>q.imp (z a) id) ts h4]]]
@[simp] def zm (g h:Sm):Sm:=fun ρ=>ī λ o=>match o with
 | .nx ρ'=>h ρ'
 | o=>↑o
@[simp] def yk:Sm:=fun ρ=>↑(.nx ρ)
@[simp] def zF Ê đ:Sm:=fun ρ=>(f ρ).map λ y=>.nx ÿ
@[simp] def vv Ê đ:Sm:=fun ρ=>Ø λ y=>match y with
 | Û=>↑(.nx (ŗ i ↑(.own (Û))))
 | y=>↑(.nx ÿ)
@[simp] def qM đ:Sm:=fun ρ=>(f ρ).map λ _=>.nx ρ
@[simp] def retS đ:Sm:=fun ρ=>(f ρ).map .rt
@[simp] def qz Ê:Sm:=fun ρ=>match Ď with
 | ı=>↑(.rt (Û))
 | _=>none
@[simp] def z_ (c:Ñ) (g h:Sm):Sm:=fun ρ=>(c ρ).bind λ b=>if b=true then g ρ else h ρ
@[simp] def fN Ê Ě:Ev:=match Ď with
 | ı=>ŗ i ↑(.im (Û))
 | _=>ρ
@[simp] def fM Ê (g:Sm):Sm:=fun ρ=>g (fN i ρ)
section
variable {Ň}{g h:Sm}{t u:yC}{Ĉ}
def Q4 Ä2:yn R (zm g h) (mL t u):=λ S0 Z0 S Z δ ρ o E F e P=>by
 let#[o1,e1,e2]:=Ð;exact hg ĝ Á o1 { E with nx:=u E } F e1 ?_;cases o1 with
 | nx ρ1=>show λ S1 Z1 δ1 F1=>hh ĝ S1 Z1 δ1 ρ1 o E F1 e2 P
 | rt y=>ext Ŗ;show P
 | bk y=>ext Ŗ;show P
 | ct y=>ext Ŗ;show P
def Q3:yn R yk Y5:=λ S0 Z0 S Z δ ρ o E F e P=>by cases e;show P Œ δ F
def QL Ê ŝ:yn R (zF i f) (wH te Ű):=λ S0 Z0 S Z δ ρ o E F e P=>by
 ext Ž;show hf ĥ λ d S1 s1 r1=>P S1 Z _ ((Ĥ).pS i r1)
def QK Ê (hf:xn f te):yn R (vv i f) (wH te Ű):=λ S0 Z0 S Z δ ρ o E F e P=>by
 ext ġ;exact hf ĥ Â2;cases y with
 | lst ts=>
  ext Ŗ;let#[p,ds,rfl,h1,h2,h3]:=r1.2 ts rfl;show P S1 Ċ (F.iX (ts:=Û) (ds:=ă ds) s1 i h1 h2 h3)
 | _=>ext Ŗ;show P S1 Z _ ((Ĥ).pS i r1.1)
def QH (hf:yz f te):yn R (qM f) (mR te):=λ S0 Z0 S Z δ ρ o E F e P=>by
 ext Ž;show hf ĥ λ d S1 s1 r1=>P S1 Z _ (Ĥ)
def Q6 [Lo R] (hf:xu R f te):yn R (retS f) (mM te):=λ S0 Z0 S Z δ ρ o E F e P=>by
 ext Ž;show hf ĥ λ d S1 s1 r1=>P d S1 (F.sx.trans s1) (Lo.lo F.sx F.zz r1)
def aA Ê:yn zE (qz i) (mM ſ):=λ S0 Z0 S Z δ ρ o E F e P=>by
 unfold qz at e;split at e
 .rename_i ts h;cases e;ext Ţ;obtain⟨ds,rfl⟩:∃ ds,ob=ă ds:=by
   cases ob with
   | lst ds=>show#[ds,rfl]
   | _=>show h3.elim
  replace h3:Ē:=h3;have hn:=(F.fr i _ p h h1).1;have nz:¬ Z0 p:=λ z=>F.z0 p z hn;change yd i Ū E.rt;ext ż;exact P _ S F.sx #[?_,λ us e=>?_]
  .ext ł;show#[ds,ŧ #[p,rfl,by rw[wX nz];show h2],ŋ (wY F.zz) ts h3]
  .cases e;show#[p,ds,rfl,hn,h2,ŋ (wY λ a q=>q.elim (F.zz a) λ q=>q▸h4) ts h3]
 .cases e
def yn.fv (h:yn zE g t):yn xK g t:=λ S0 Z0 S Z δ ρ o E F e P=>by
 exact h ĝ Á o E F e ?_;cases o with
 | rt y=>show λ d S s r=>P d S s r.1
 | _=>show P
def QD {c:Ñ}{tc:yA}(hc:vw c tc) Ä2:yn R (z_ c g h) (YB tc t u):=λ S0 Z0 S Z δ ρ o E F e P=>by
 ext Â9;exact hc Á b _ F.er e1 λ S1 s1=>?_;ext Ŕ
 .ext Ĵ;show hg ĝ ċ o E (Ĥ) e2 P
 .ext ŀ;show hh ĝ ċ o E (Ĥ) e2 P
def FR.fz {S0 S:SS}{Z0 Z:È}Ä3(F:Ù) Ê:∃ Z',FR ĝ S Z' δ (fN i ρ):=by
 unfold fN;split
 .rename_i ts h;let#[p,ds,h1,_]:=F.er.ow i _ h;show#[_,(F.freeze i h h1).1]
 .show#[Z,F]
def QE Ê (hg:yn R g t):yn R (fM i g) t:=λ S0 Z0 S Z δ ρ o E F e P=>by
 let#[Z',F']:=F.fz i;show hg ĝ S Z' δ _ o E F' e P
def ll Ħ (t:xf):Prop:=∀ S0 Z0 S Z δ ρ ρ' y d Q,Ù->Ã2->g y ρ=↑ρ'->À2->t d Ū Q
def jC (g:ũ) (t:xU):Prop:=∀ S0 Z0 S Z δ ρ ρ' ys ds Q,Ù->zj Ó ys ds->g ys ρ=↑ρ'->À2->t ds Ū Q
@[simp] def zy Ê:T->É:=λ y ρ=>↑ ÿ
@[simp] def wa:ũ
 | [],ρ=>↑ρ
 | _::_,_=>none
@[simp] def yf Ħ (h:ũ):ũ
 | y::ys,ρ=>(g y ρ).bind fun ρ'=>h ys ρ'
 | [],_=>none
@[simp] def xD (n:Nat) (g:ũ):T->É
 | Ģ ys,ρ=>if ű=n then g ys ρ else none
 | _,_=>none
def QW Ê:ll (zy i) Ű:=λ S0 Z0 S Z δ ρ ρ' y d Q F r e hq=>by cases e;show hq _ (F.pS i r)
def QT:jC wa fw:=λ S0 Z0 S Z δ ρ ρ' ys ds Q F r e hq=>by
 cases ys with
 | nil=>simp![zj] at r;subst r;cases e;show#[rfl,hq _ F]
 | cons _ _=>cases e
def QU ŕ{h:ũ}{t:xf}{u:xU}(hg:ll g t) (hh:jC h u):jC (yf g h) (fy t u):=λ S0 Z0 S Z δ ρ ρ' ys ds Q F r e hq=>by
 cases ys with
 | nil=>cases e
 | cons y ys=>
  ext Ė;show hg ĝ Á ρ1 y c _ F r1 e1 fun δ1 F1=>hh ĝ Œ δ1 ρ1 ρ' ys cs Q F1 r2 e2 hq
def QV {n:Nat}{g:ũ}{t:xU}(hg:jC g t):ll (xD n g) (qH n t):=λ S0 Z0 S Z δ ρ ρ' y d Q F r e hq=>by
 cases y with
 | tup ys=>
  ext Ķ
  .rename_i hl;show#[by rw[r.len];show hl,hg ĝ Á ρ' ys ds Q F r e hq]
  .cases e
 | _=>cases e
@[simp] def qv đ Ħ:Sm:=fun ρ=>Ø λ y=>(g y ρ).map .nx
def Q2 ŕ{tg:xf}ŝ (hg:ll g tg):yn R (qv f g) (wH te tg):=λ S0 Z0 S Z δ ρ o E F e P=>by
 ext ġ;let#[ρ',e3,rfl]:=Ş e2;show hf ĥ λ d S1 s1 r1=>hg ĝ ċ ρ' y d _ (Ĥ) r1 e3 fun δ' F'=>P S1 Z δ' F'
def q_ (free:Bool) (f:Ä) (ti:wj):Prop:=∀ S Z δ ρ ts Q,Ŧ->f ρ=↑ts->(∀ I S',ø->zj Ŋ ts I.items->(∀ Hv,Sx (if free=true then zB S' Z else S') Hv->I.keep Hv)->Q I S')->ti Ū Q
@[simp] def xk đ:Ä:=fun ρ=>Ø vz
def QP Ĉ(hf:yz f te):q_ false (xk f) (fh te):=λ S Z δ ρ ts Q hE e hq=>by
 ext ġ;exact hf Á y Å;cases y with
 | tup us=>
  ext Ŗ;let#[ds,rfl,h2]:=Vw.tup r1;show ý
 | lst us=>
  ext Ŗ;ext ë
  .show ý
  .ext Ä0;show Ų
 | _=>ext Ŗ
def QQ Ĉ ŝ:q_ true (xk f) (fh te):=λ S Z δ ρ ts Q hE e hq=>by
 ext ġ;exact hf Á y Å;cases y with
 | tup us=>
  ext Ŗ;let#[ds,rfl,h2]:=Vw.tup (Ī r1);show ý
 | lst us=>
  ext Ŗ;have r2:=r1;unfold xK at r2;simp![Sn] at r2;obtain⟨ds,⟨rfl,_⟩ | ⟨a,rfl,h1⟩,h2⟩:=r2
  .show ý
  .dsimp only;rw[(uK h1).2];show Ų
 | _=>ext Ŗ
def rangeT (lo:Int) (n:Nat):Ô:=(List.range n).map λ(k:Nat)=>T.int (lo+(k:Int))
def cX ľ(lo:Int) (n:Nat):zj S (rangeT lo n) (vQ lo n):=by
 unfold rangeT vQ
 induction List.range n with
 | nil=>show .nil
 | cons k l ih=>show .cons wy ih
def inR (j:Int):Bool:=ņ (-100000000<=j)&&ņ (j<=100000000)
def ZG {j:Int}:inR j=true↔-100000000<=j/\j<=100000000:=by simp[inR]
def NL {j:Int}(h:inR j=true):-(2 ^ 62)<=j/\j<2 ^ 62:=by have:=ZG.mp h;lia
def v9:Ô->À (Ô)
 | [ê j]=>if inR j=true then ↑(rangeT 0 j.toNat) else none
 | _=>none
@[simp] def wW (F:Ô->À (Ô)) (g:Ä):Ä:=fun ρ=>ī F
def QR {b:Bool}{g:Ä}{tA:ym}(h:pd g tA):q_ b (wW v9 g) (fj tA):=λ S Z δ ρ ts Q hE e hq=>by
 let#[ys,e1,e2]:=Ð;exact h Á ys ū λ ds S1 s1 r1=>?_;unfold v9 at e2;ext Ŕ
 .ext Ŕ
  .rename_i hc;ext Ŗ;let#[d,rfl,h1]:=vJ r1;cases h1.int;show#[NL hc,hq _ S1 s1 (cX Ċ) λ _ _=>Ã6]
  .ext Ŗ
 .ext Ŗ
def xq (is:Ŏ) Ħ (b:Sm):Ô->Ev->À Out
 | [],ρ=>↑(.nx ļ)
 | y::ys,ρ=>(g y ļ).bind fun ρ1=>(b ρ1).bind λ o=>match o with
  | .nx ρ2=>ŏ
  | .ct ρ2=>ŏ
  | .bk ρ2=>↑(.nx (yt is ρ2))
  | .rt t=>↑(.rt t)
@[simp] def xG (is:Ŏ) (f:Ä) Ħ (b:Sm):Sm:=fun ρ=>Ø λ ts=>xq is g b ts ρ
def QF {is:Ŏ}{fi:Ä}{ti:wj}ŕ{tg:xf}{b:Sm}{tb:yC} [Lo R] (hi:q_ true fi ti) (hg:ll g tg) (hb:yn R b tb):yn R (xG is fi g b) (mQ ti tg tb):=λ S0 Z0 S Z δ ρ o E F e P=>by
 let#[ts,e1,e2]:=Ð;exact hi Á ts _ F.er e1 λ I S1 s1 r1 hk=>?_;rw[é rfl] at hk;let#[SB,b1,FB,b2]:=(Ĥ).rebase;have lo:∀ S' d y,R SB S' Z0 y d->R S0 S' Z0 y d:=λ S' d y r=>Lo.lo b1 (λ _ z=>z) r;have zz:=F.zz;exact#[λ i δ' S'=>∃ Z' ρ',FR SB Z0 S' Z' δ' ρ'/\xq is g b (ts.drop i) ρ'=↑o,#[Z,ρ,FB,e2],λ i δ' S' #[Z',ρ',F',_]=>hk S' (b2.trans F'.sx),λ i d δ' S' hd #[Z',ρ',F',e']=>?_,fun δ' S' #[Z',ρ',F',e']=>?_]
 .let#[y,hy,r2]:=r1.fK hd;have Ar:=(AN.mp hy).1;have EZ:ts.drop i=y::ts.drop (i+1):=by
   rw[Dd Ar,(AN.mp hy).2]
  rw[EZ] at e';unfold xq at e';let#[ρ1,g1,e']:=An.mp e';let#[o1,g2,e']:=An.mp e';exact hg SB Z0 S' Z' δ' _ ρ1 y d _ (F'.yt is) (ť (F'.Ua b2 zz) y r2) g1 fun δ2 F2=>?_
  exact hb SB Z0 S' Z' δ2 ρ1 o1 _ F2 g2 ?_;cases o1 with
  | nx ρ2=>show ų
  | ct ρ2=>show ų
  | bk ρ2=>cases e';show λ S3 Z3 δ3 F3=>P S3 Z3 δ3 ((F3.yt is).back b1 F.z0)
  | rt y=>cases e';show λ d S3 s3 r3=>P d S3 (b1.trans s3) (lo Ċ _ r3)
 .rw[show æ=ō from r1.len,List.drop_length] at e';unfold xq at e';cases e';show P S' Z' δ' ((F'.yt is).back b1 F.z0)
end
@[simp] def wg Ê đ:Sm:=fun ρ=>match Ď with
 | ı=>Ø λ y=>if ō<í then ↑(.nx (ŗ i ↑(.own (ă (ts++[y]))))) else none
 | _=>none
section
variable {Ň}{Ĉ}
def QM Ê ŝ:yn R (wg i f) (mR (rZ ſ te)):=λ S0 Z0 S Z δ ρ o E F e P=>by
 unfold wg at e;split at e
 .rename_i ts h;ext ġ;ext Ŕ
  .rename_i hl;ext Ŗ;ext Ţ;obtain⟨ds,rfl⟩:∃ ds,ob=ă ds:=by
    cases ob with
    | lst ds=>show#[ds,rfl]
    | _=>show h3.elim
   replace h3:Ē:=h3;change rZ ſ te Ū _;unfold rZ yd;rw[h1];exact#[#[ds,h2],hf ĥ Â2];dsimp only;rw[s1 Ċ h2];have F1:=Ĥ;exact#[by rw[h3.len];show hl,P _ Z δ (F1.mut (us:=ă (ts++[y])) (es:=ă (ds++[d])) i h h1 ((ŋ (wC s1) ts h3).append (.cons r1 .nil)))]
  .ext Ŗ
 .cases e
end
def uP ù (ti:wj) (g:xf) (tc:yA) (te:zv):zv:=fun δ S Q=>ti Ū λ I S1=>æ<=í/\(∀ S,Sx S1 S->I.keep S)/\∀ p,S1 p=none->∃ W:Nat->SS->List D->Prop,W 0 S1 []/\
 (∀ i S S' acc,(∀ b o,b≠p->S b=↑o->S' b=↑o)->W i S acc->W i S' acc)/\
 (∀ i d S acc,I.items[i]?=↑d->Sx S1 S->S p=↑(ă acc)->W i S acc->g d ķ S fun δ2 S2=>qU ķ δ2/\tc δ2 S2 λ b S3=>if b=true then te δ2 S3 λ y S4=>Sx S S4/\W (i+1) S4 (acc++[y]) else Sx S S3/\W (i+1) S3 acc)/\
 ∀ S2 acc,Sx S1 S2->S2 p=↑(ă acc)->W æ S2 acc->Q Ō S2
@[simp] def q8 ù Ě:Ev:=pick.map λ o=>o.bind λ i=>(Ď).join
def qQ Â3:Ô->À (Ô)
 | []=>↑[]
 | y::ys=>(h y).bind λ o=>(qQ h ys).map λ zs=>match o with
  | some z=>z::zs
  | none=>zs
@[simp] def sM ù Ħ (c:Ñ) đ Ě (y:T):À (À T):=
 (g y (q8 pick ρ)).bind fun ρ2=>(c ρ2).bind λ b=>if b=true then (f ρ2).map some else ↑none
def xE ù (it:Ä) Ħ (c:Ñ) đ:Ae:=fun ρ=>(it ρ).bind λ ts=>if ō<=í then (qQ (sM Â4) ts).map ă else none
@[simp] def u4:Ñ:=λ _=>↑true
def Pk:vw u4 Yt:=λ S Z δ ρ y Q hE e hq=>by cases e;show hq Ì
def jE ù Ħ (t:xf):Prop:=∀ B S Z δ ρ ρ' y d Q,ř->qU B δ->Ĳ->Ŧ->Ã2->ó
def jD ù (g:ũ) (t:xU):Prop:=∀ B S Z δ ρ ρ' y d Q,ř->qU B δ->Ĳ->Ŧ->zj Ó y d->ó
theorem ER.pS ľ ü Į(h:Ŧ) (hl:Ĳ) Ê (r:Ã2):ER Œ (δ.set i ↑d) ÿ:=by
 exact#[h.zd,λ j t e=>?_,λ j ts e=>?_]
 .ext ţ
  .cases e;show#[d,o6 (by rw[hl];show Gx),r]
  .rw[wZ n];show h.im j t e
 .ext ţ
  .cases e
  .rw[wZ n];show h.ow j ts e
variable {pick:Ź}
theorem Q_ Ê (hi:pick[i]?=↑none:=by rfl):jE pick (zy i) Ű:=λ B S Z δ ρ ρ' y d Q hB hs hl hE r e hq=>by
 cases e;exact hq _ (hE.pS hl i r) #[by rw[Dh];show hs.1,λ j c q=>?_] (by simp[hl]);by_cases hj:i=j
 .subst hj;rw[hB i hi] at q;cases q
 .rw[wZ hj];show hs.2 j c q
def QX:jD pick wa fw:=λ B S Z δ ρ ρ' y d Q hB hs hl hE r e hq=>by
 cases y with
 | nil=>simp![zj] at r;subst r;cases e;show#[rfl,hq _ hE hs hl]
 | cons _ _=>cases e
def QY ŕ{h:ũ}{t:xf}{u:xU}(hg:jE pick g t) (hh:jD pick h u):jD pick (yf g h) (fy t u):=λ B S Z δ ρ ρ' y d Q hB hs hl hE r e hq=>by
 cases y with
 | nil=>cases e
 | cons y ys=>
  ext Ė;show hg B Á ρ1 y c _ hB hs hl hE r1 e1 fun δ1 E1 s1 l1=>hh B Œ δ1 ρ1 ρ' ys cs Q hB s1 l1 E1 r2 e2 hq
def QZ {n:Nat}{g:ũ}{t:xU}(hg:jD pick g t):jE pick (xD n g) (qH n t):=λ B S Z δ ρ ρ' y d Q hB hs hl hE r e hq=>by
 cases y with
 | tup ys=>
  ext Ķ
  .rename_i hn;show#[by rw[r.len];show hn,hg B Á ρ' ys ds Q hB hs hl hE r e hq]
  .cases e
 | _=>cases e
def bZ {ρ:Ev}{i:Nat}{w:W}(h:(q8 pick ρ)[i]?=↑↑w):∃ j:Nat,pick[i]?=↑↑j/\ρ[j]?=↑↑w:=by
 unfold q8 at h;rw[AE] at h;cases q:pick[i]? with
 | none=>rw[q] at h;cases h
 | some o=>
  rw[q] at h;cases o with
  | none=>simp at h
  | some j=>
   simp![Option.map_some,Bv,Option.some.injEq] at h;exact#[j,rfl,?_];cases q2:ρ[j]? with
   | none=>rw[q2] at h;cases h
   | some o2=>rw[q2] at h;simp![Option.join_some] at h;rw[h]
def b_ {δ:yc}{i j:Nat}{d:D}(h:pick[i]?=↑↑j) (h':δ[j]?=↑↑d):ķ[i]?=↑↑d:=by
 unfold uk;rw[AE,h];simp[h']
def ER.UU ľ ü(h:Ŧ):ER Œ ķ (q8 pick ρ):=by
 exact#[h.zd,λ i t e=>?_,λ i ts e=>?_]
 .let#[j,h1,h2]:=bZ e;let#[d,h3,h4]:=h.im j t h2;show#[d,b_ h1 h3,h4]
 .let#[j,h1,h2]:=bZ e;let#[p,ds,h3,h4]:=h.ow j ts h2;show#[p,ds,b_ h1 h3,h4]
def ER.hide œ ü{p:Addr}(h:Ŧ) (s:ø) ź (Hj:S' p≠none):ER S' (λ a=>Z a\/a=p) δ ρ:=by
 exact#[λ a z q=>?_,λ i t e=>?_,λ i ts e=>?_]
 .rcases z with z | rfl
  .show h.zd a z (s.none q)
  .show Hj q
 .let#[d,h1,h2]:=h.im i t e;show Â1
 .let#[q,ds,h1,h2,h3,h4]:=h.ow i ts e;show#[q,ds,h1,s Ċ h2,xl.sx (qG s hp) h3,Ī h4]
def Pz {it:Ä}{ti:wj}ŕ{tg:xf}{c:Ñ}{tc:yA}Ĉ{b:Bool}(hi:q_ b it ti) (hg:jE pick g tg) (hc:vw c tc) ŝ:
  xn (xE pick it g c f) (uP pick ti tg tc te):=λ S Z δ ρ y Q hE e hq=>by
 let#[ts,e1,e2]:=Ð;ext Ŕ
 case isFalse=>ext Ŗ
 rename_i hlen;let#[zs,e3,rfl]:=Ş e2;exact hi Á ts ū λ I S1 s1 r1 hk=>#[by rw[r1.len];show hlen,λ S' s'=>hk S' ?_,λ p hp=>?_]
 .cases b
  .show s'
  .show (nY Ċ).trans s'
 have E1:=Ć;have nz:¬ Z p:=λ z=>E1.zd p z hp;exact#[λ i S' acc=>∃ us ws,zj Ġ us acc/\qQ (sM Â4) (ts.drop i)=↑ws/\zs=us++ws,#[[],zs,.nil,e3,rfl],λ i S' Hv acc hh #[us,ws,h1,h2]=>#[us,ws,ŋ (λ a o q=>?_) us h1,h2],λ i d S2 acc hd s2 A4 #[us,ws,h1,h2,h3]=>?_,λ S2 acc s2 A4 #[us,ws,h1,h2,h3]=>?_]
 .ext ĕ;rw[wX q1];show hh a o (λ z=>q1 (ŧ z)) q2
 .let#[x,hx,rx]:=r1.fK hd;have Ar:=(AN.mp hx).1;have EZ:ts.drop i=x::ts.drop (i+1):=by rw[Dd Ar,(AN.mp hx).2]
  rw[EZ] at h2;unfold qQ at h2;let#[o,o1,h2]:=An.mp h2;let#[F9,o2,rfl]:=Ş h2;have E2:=(E1.hide s2 hp (by rw[A4];nofun)).UU (pick:=pick);unfold sM at o1;let#[ρ2,g1,o1]:=An.mp o1;let#[bb,g2,o1]:=An.mp o1;exact hg ķ S2 Ċ _ ρ2 x d _ (λ j hj=>?_) #[rfl,λ _ _ q=>q] (by unfold uk q8;simp) E2 (ť (qG s2 hp) x rx) g1 fun δ2 E3 l3 _=>#[l3,?_]
  .unfold uk;rw[AE,hj];rfl
  exact hc S2 _ δ2 ρ2 bb _ E3 g2 λ S3 s3=>?_;split at o1
  .ext Ĵ;let#[z,g3,rfl]:=Ş o1;exact hf S3 _ δ2 ρ2 z _ (E3.grow s3) g3 λ dz S4 s4 r4=>#[s3.trans s4,us++[z],F9,?_,o2,by rw[h3];simp];show (ŋ (wC (s3.trans s4)) us h1).append (.cons r4 .nil)
  .ext ŀ;cases o1;show#[s3,us,F9,ŋ (wC s3) us h1,o2,h3]
 .rw[show æ=ō from r1.len,List.drop_length] at h2;cases h2;rw[BQ] at h3;subst h3;exact hq _ S2 ä #[?_,λ vs e=>?_]
  .ext ł;show#[acc,ŧ #[p,rfl,by rw[wX nz];show A4],ŋ (wY λ a z=>Ī z) zs h1]
  .cases e;show#[p,acc,rfl,s1.none hp,A4,h1]
class Sr À5:Prop extends Lo R where
 sn:∀ œ{Z:È}Į,ė->Sn Ŋ y d
instance:Sr xK:=#[λ h=>h]
instance:Sr zE:=#[λ h=>h.1]
def zL À5 (F:Am):wJ:=λ ds S Q=>∃ Z ys y,(ą)/\zj Ó ys ds/\F ys=↑y/\∀ d S',ø->ė->Q d S'
def zL.mo Ň{F:Am}:qj (zL R F):=λ _ _ _ _ hq #[Z,ys,y,h1,h2,h3,h4]=>#[Z,ys,y,h1,h2,h3,λ d S' s r=>hq Ċ (h4 d S' s r)]
def gE Ň [Lo R] {F:Am}{g:Ä}{u:ym}(h:t_ g u):xu R (zt F g) (jk (zL R F) u):=λ S Z δ ρ y Q hE e hq=>by
 ext ĵ;show#[Z,xs,y,(Ć).zd,r1,e2,λ d S' s r=>hq d S' (s1.trans s) (Cl.cl s1 r)]
@[simp] def r0 (N:Ř) (ys:Ô):Ev:=ys.map (λ y=>↑(.im y))++List.replicate (N.length-ű) none
@[simp] def aq:À Out->À T
 | some (.rt y)=>↑y
 | some (.nx _)=>↑.zp
 | _=>none
@[simp] def zO (N:Ř) (n:Nat) (g:Sm):Am:=λ ys=>if ű=n then aq (g (r0 N ys)) else none
theorem zL.len Ň{N:Ř}{n:Nat}{g:Sm}Đ ľ À7:ds.length=n:=by
 ext Ł
 .rename_i h;rw[r.len];show h
 .cases e
theorem lY {N:Ř}Đ{i:Nat}{d:D}(h:ds[i]?=↑d):(vN N ds)[i]?=↑↑d:=by
 have hi:=(AN.mp h).1;unfold vN;rw[Cr Á5,AE,h];rfl
theorem lW {N:Ř}{ys:Ô}{i:Nat}{w:W}(h:(r0 N ys)[i]?=↑↑w):∃ y,ys[i]?=↑y/\w=.im y:=by
 unfold r0 at h;have hi:i<ű:=by
  rcases Bw i ű with q | q
  .show q
  .rw[Bx (by exists q),Di] at h;split at h <;> cases h
 rw[Cr Á5,AE] at h;cases q:ys[i]? with
 | none=>rw[q] at h;cases h
 | some y=>rw[q] at h;cases h;show#[y,rfl,rfl]
def Ja Ň [Lo R] {N:Ř}{n:Nat}{g:Sm}{t:yC}(h:yn R g t) Đ ľ À7:t { nx:=λ _ S'=>Q .zp S',rt:=Q } (vN N ds) S:=by
 ext Ł
 case isFalse=>cases e
 obtain⟨o,e1,e2⟩:∃ o,g (r0 N ys)=↑o/\aq ↑o=↑y:=by
  cases q:g (r0 N ys) with
  | none=>rw[q] at e;cases e
  | some o=>show#[o,rfl,by rw[<- q];show e]
 exact h Œ Œ Ċ o _ #[#[hz,λ i t e=>?_,λ i ts e=>?_],?_,.refl S,hz,λ _ z=>z,λ _ z=>Ī z,λ i ts p e _=>?_,λ i j ts us p _ e _ _ _=>?_] e1 ?_
 .ext Ă;let#[d,h3,h4]:=r.fG h1;show#[d,lY h3,h4]
 .ext Ă
 .unfold vN r0;have:=r.len;simp[this]
 .ext Ă
 .ext Ă
 .cases o with
  | rt y'=>ext Ŗ;show λ d S' s r=>hq d S' s r
  | nx ρ'=>
   ext Ŗ;show λ S' Z' δ' F=>hq .zp S' F.sx (Cl.of Ï iT)
  | _=>ext Ŗ
def xb Š:À T:=(Ab.find? Ā).map (·.2)
def tB Š (v:T):Í:=
 if (Ab.any Ā)=true then Ab.map (λ kv=>if kv.1=k then (kv.1,v) else kv) else Ab++[(k,v)]
section
variable {ľ}
theorem zZ.len:∀ è,Ļ->b.length=a.length
 | [],_,h=>ę
 | (k,t)::r,_,h=>by
  let#[d,m,rfl,_,h2]:=h;simp[zZ.len h2]
theorem zZ.val:∀ è(k:Key),Ļ->(xb a k=none/\uh b k=none)\/∃ t d,xb a k=↑t/\uh b k=↑d/\Sn S t d
 | [],_,k,h=>by cases h;show Ī #[rfl,rfl]
 | (j,t)::r,_,k,h=>by
  let#[d,m,rfl,h1,h2]:=h;by_cases e:j=k
  .subst e;show ŧ #[t,d,by simp[xb],by simp[uh],h1]
  .rcases zZ.val k h2 with ⟨g1,g2⟩ | ⟨t',d',g1,g2,g3⟩
   .show Ī #[by simpa [xb,e] using g1,by simpa [uh,e] using g2]
   .show ŧ #[t',d',by simpa [xb,e] using g1,by simpa [uh,e] using g2,g3]
theorem zZ.any:∀ è(k:Key),Ļ->(b.any Ā)=a.any Ā
 | [],_,k,h=>ę
 | (j,t)::r,_,k,h=>by
  let#[d,m,rfl,h1,h2]:=h;rw[BE,BE,zZ.any k h2]
theorem zZ.t8 {k:Key}ň:∀ è,Ļ->zZ S (a.map λ kv=>if kv.1=k then (kv.1,t) else kv) (b.map À3)
 | [],_,h=>ę
 | (j,u)::a,_,h=>by
  let#[e,m,rfl,h1,h2]:=h;rw[Ay,Ay];by_cases q:j=k
  .rw[é q,é q];show#[d,_,rfl,r,zZ.t8 r h2]
  .rw[å q,å q];show#[e,_,rfl,h1,zZ.t8 r h2]
theorem zZ.snoc {k:Key}ň:∀ è,Ļ->zZ S (a++[(k,t)]) (b++[(k,d)])
 | [],_,h=>by cases h;show#[d,[],rfl,r,rfl]
 | (j,u)::a,_,h=>by
  let#[e,m,rfl,h1,h2]:=h;show#[e,_,rfl,h1,zZ.snoc r h2]
def zZ.put è(h:Ļ) (k:Key) ň:zZ S (tB a k t) (putD b k d):=by
 unfold tB putD;rw[h.any k];split
 .show zZ.t8 r h
 .show zZ.snoc r h
end
@[simp] def Yv Ê:Sm:=fun ρ=>↑(.nx (ŗ i ↑(.own (.yv []))))
@[simp] def mI Ê đ:Ae:=fun ρ=>Ø λ y=>match Ď,y with
 | ē,ê k=>xb Ab (Ī k)
 | _,_=>none
@[simp] def ei Ê (f g:Ae):Ae:=fun ρ=>Ø λ y=>ī λ z=>match Ď,y with
 | ē,ê k=>↑((xb Ab (Ī k)).getD z)
 | _,_=>none
@[simp] def eg Ê (f v:Ae):Sm:=fun ρ=>(v ρ).bind λ z=>Ø λ y=>match Ď,y with
 | ē,ê k=>if Ab.length<í then ↑(.nx (ŗ i ↑(.own (.yv (tB Ab (Ī k) z))))) else none
 | _,_=>none
@[simp] def ji Ê:Ae:=fun ρ=>match Ď with
 | ē=>↑(ê Ab.length)
 | _=>none
def kq ľ ü(hE:Ŧ) {i:Nat}{Ab:Í}(h:Ď=↑↑(.own (.yv Ab))):∃ p b,ï/\S p=↑(.yv b)/\zZ Ó Ab b:=by
 let#[p,o,h1,h2,h3,_]:=hE.ow i _ h;cases o with
 | yv b=>show#[p,b,h1,h2,h3]
 | _=>show h3.elim
section
variable {Ň}{f g v:Ae}{ty tx tv:zv}
def QJ Ê:yn R (Yv i) (wH YD Ű):=λ S0 Z0 S Z δ ρ o E F e P=>by
 cases e;intro p hp;show P Ċ _ (F.iX (ts:=.yv []) (ds:=.yv []) (.new hp _) i hp tf rfl)
def aE Ê (hf:yz f ty):xX (mI i f) (YG ſ ty):=λ S Z δ ρ y Q hE e hq=>by
 ext Ã0;ext Ŕ
 .rename_i Ab k h;ext á;exact hf Á _ Å;ext Â8;rcases (zZ.sx (wC s1) h3).val (Ī k) with ⟨g1,_⟩ | ⟨t,d,g1,g2,g3⟩
  .rw[g1] at e2;ext Ŗ
  .rw[g1] at e2;ext Ŗ;show#[p,b,k,d,rfl,rfl,s1 Ċ h2,g2,hq d S1 s1 g3]
 .ext Ŗ
def aF Ê (hf:yz f ty) (hg:xX g tx):xX (ei i f g) (YF ſ ty tx):=λ S Z δ ρ y Q hE e hq=>by
 let#[x,e1,e]:=Ð;let#[z,e2,e3]:=Ð;split at e3
 .rename_i Ab k h;cases e3;ext á;exact#[p,rfl,#[b,h2],hf Á _ Å];ext Â8;exact hg ċ z _ (Ć) e2 λ dz S2 s2 r2=>#[k,b,rfl,ä Ċ h2,?_];rcases (zZ.sx (wC ä) h3).val (Ī k) with ⟨g1,g2⟩ | ⟨t,d,g1,g2,g3⟩
  .rw[g2];rw[g1] at hq;show hq _ S2 ä r2
  .rw[g2];rw[g1] at hq;show hq _ S2 ä g3
 .cases e3
def QI Ê (hf:yz f ty) (hv:xX v tv):yn R (eg i f v) (YE ſ ty tv):=λ S0 Z0 S Z δ ρ o E F e P=>by
 let#[z,e1,e]:=Ð;let#[x,e2,e3]:=Ð;split at e3
 .rename_i Ab k h;split at e3
  .rename_i hl;cases e3;exact hv Á z _ F.er e1 λ dz S1 s1 r1=>?_;have F1:=Ĥ;let#[p,b,h1,h2,h3]:=kq F1.er h;change yd i δ S1 _;ext ż;exact hf ċ Ċ F1.er e2 λ d S2 s2 r2=>?_;cases Vw.int r2;have h4:=zZ.sx (wC s2) h3;show#[p,b,k,rfl,rfl,s2 Ċ h2,by rw[h4.len];show hl,P _ Z δ ((F1.grow s2).mut (us:=.yv (tB Ab (Ī k) z)) (es:=.yv (putD b (Ī k) dz)) i h h1 (h4.put _ (ť (wC s2) z r1)))]
  .cases e3
 .cases e3
def PQ Ê:xn (ji i) (xr Yh (qP ſ oH)):=λ S Z δ ρ y Q hE e hq=>by
 unfold ji at e;split at e
 .rename_i Ab h;cases e;ext á;exact#[p,b,rfl,h2,?_];rw[h3.len];show þ
 .cases e
end
@[simp] def nG đ:Ae:=fun ρ=>Ø λ x=>match x with
 | ê i=>↑(ê (-i))
 | _=>none
def Y7 (ta:zv):zv:=fun δ S Q=>ta Ū λ x S1=>match x with
 | ê i=>Q (ê (-i)) S1
 | _=>ŷ
def Pu Ĉ(h:yz f te):xn (nG f) (Y7 te):=λ S Z δ ρ y Q hE e hq=>by
 ext ç;ext Ŕ
 .ext Â8;ext Ŗ;show hq _ S1 s1 (Cl.of Ï wy)
 .ext Ŗ
def ME:vH zE rL Yg:=ZN
def MD:vH zE wR Yf:=ZN
def uq:Ô->À (ô)
 | []=>↑[]
 | ê i::ts=>(uq ts).map (i::·)
 | _::_=>none
def vi:Ô->À (List (ô))
 | []=>↑[]
 | Ģ r::ts=>(uq r).bind λ x=>(vi ts).map (x::·)
 | _::_=>none
def yM (r:ô):T:=Ģ (r.map T.int)
theorem fm:∀ ś{is:ô},uq ts=↑is->ts=is.map T.int
 | [],is,h=>ę
 | ê b::ts,is,h=>by
  unfold uq at h;let#[cs,h1,rfl]:=Ş h;rw[Ay,<- fm h1]
 | .zp::ts,bs,h=>ò
 | .bl _::ts,bs,h=>ò
 | Ũ _::ts,bs,h=>ò
 | Ģ _::ts,bs,h=>ò
 | ă _::ts,bs,h=>ò
theorem i_:∀ ś{rs:List (ô)},vi ts=↑rs->ts=rs.map yM
 | [],is,h=>ę
 | Ģ r::ts,is,h=>by
  unfold vi at h;let#[x,h1,h]:=An.mp h;let#[cs,h2,rfl]:=Ş h;rw[Ay,<- i_ h2,fm h1];rfl
 | .zp::ts,bs,h=>ò
 | .bl _::ts,bs,h=>ò
 | Ũ _::ts,bs,h=>ò
 | ê _::ts,bs,h=>ò
 | ă _::ts,bs,h=>ò
def ZD (is:ô):uq (is.map T.int)=↑is:=by
 induction is with
 | nil=>rfl
 | cons b bs ih=>rw[Ay];unfold uq;rw[ih];rfl
def kd (rs:List (ô)):vi (rs.map yM)=↑rs:=by
 induction rs with
 | nil=>rfl
 | cons b bs ih=>
  change vi (Ģ (b.map T.int)::bs.map yM)=_;unfold vi;rw[ZD,ih];rfl
theorem qy ľ:∀ {is:ô}Đ,zj S (is.map T.int) ds↔ds=is.map D.int
 | [],ds=>by simp![BF,zj]
 | i::is,ds=>by
  rw[Ay];simp![zj,Sn];constructor
  .rintro⟨c,cs,rfl,rfl,h⟩;rw[qy.mp h];rfl
  .rintro rfl;show#[ê i,_,rfl,rfl,qy.mpr rfl]
theorem pP ľ:∀ {rs:List (ô)}Đ,zj S (rs.map yM) ds↔ds=rs.map v8
 | [],ds=>by simp![BF,zj]
 | r::rs,ds=>by
  rw[Ay];simp![zj,yM,Sn];constructor
  .rintro⟨c,cs,rfl,⟨es,rfl,h1⟩,h⟩;rw[pP.mp h,qy.mp h1];rfl
  .rintro rfl;show#[v8 r,_,rfl,#[_,rfl,qy.mpr rfl],pP.mpr rfl]
@[simp] def Ve:T->À String
 | .zp=>↑"NoneType"
 | .bl _=>↑"bool"
 | ê _=>↑"int"
 | Ũ _=>↑"str"
 | Ģ _=>↑"tuple"
 | ă _=>↑"list"
 | .xh=>↑"dict"
 | .err Ċ _=>none
@[simp] def Ft (ty:String) đ:Ae:=fun ρ=>Ø λ x=>(Ve x).map λ t=>.bl (uJ t ty)
theorem Vw.err ľ{Z:È}{c f:Str}{t:T}{d:D}(h:Vw Œ (.err c f t) d):∃ x,d=.err c f x/\Sn Ó t x:=by
 ext Ë
 ext ć
 .cases h
def PC {ty:String}Ĉ(hf:yz f te):xn (Ft ty f) (mO ty te):=λ S Z δ ρ y Q hE e hq=>by
 ext Ã0;let#[n,e3,rfl]:=Ş e2;exact hf Á x Å;have key:rj d S1=↑n:=by
  rw[<- e3];cases x with
  | zp=>cases Vw.zp r1;rfl
  | bl _=>cases Vw.bl r1;rfl
  | int _=>ext Â8;rfl
  | str _=>cases Vw.str r1;rfl
  | tup _=>let#[ds,rfl,_]:=Vw.tup r1;rfl
  | lst _=>
   ext ë
   .rfl
   .unfold rj;ext Ä0;rfl
  | xh=>
   let#[a,Ab,#[rfl,_],h1]:=Vw.xh r1;unfold rj;ext Ä0;rfl
  | err _ _ _=>cases e3
 rw[key];show hq _ S1 s1 Č
@[simp] def isNone:T->Bool
 | .zp=>true
 | _=>false
def ou:D->Bool
 | .zp=>true
 | _=>false
def zu (p:č):T:=Ģ [ê p.1,ê p.2]
def pT (ns:ô):T:=ă (ns.map ê)
@[simp] theorem zaa:í=16777216:=rfl
def Nb {n:Nat}(h:n<=10000):n<=í:=Bj h ()
theorem xS ñ{xs:Ĝ}{k:Nat}{x:α}(h:xs[k]?=↑x):L2.zT xs (k:Int)=↑x:=by
 unfold L2.zT L2.wV;have hk:=(AN.mp h).1;rw[é ⋯,é ⋯];exists h
@[simp] theorem X3 ñ{xs:Ĝ}{x:α}:L2.zT (xs++[x]) (-1)=↑x:=by
 unfold L2.zT L2.wV;rw[å ⋯,é (Á6)];have:(-1+((xs++[x]).length:Int)).toNat=Ã5:=Á6
 rw[Bv,this];simp
@[simp] theorem u6 ñ{x:α}{xs:Ĝ}:L2.zT (x::xs) 0=↑x:=xS (k:=0) rfl
@[simp] theorem u5 ñ{x y:α}{xs:Ĝ}:L2.zT (x::y::xs) 1=↑y:=xS (k:=1) rfl
@[simp] theorem Jl ñ{x y z:α}{xs:Ĝ}:L2.zT (x::y::z::xs) 2=↑z:=xS (k:=2) rfl
@[simp] theorem Jk ñ{x y z w:α}{xs:Ĝ}:L2.zT (x::y::z::w::xs) 3=↑w:=xS (k:=3) rfl
theorem eC ñ Ń (g:α->À T) Â3:∀ (xs:Ĝ),(∀ x∈xs,h (enc x)=↑(g x))->qQ h Ś=↑(xs.filterMap g)
 | [],_=>rfl
 | x::xs,hh=>by
  rw[Ay];unfold qQ;rw[hh x Al,eC enc g h xs λ y hy=>hh y (Av _ hy)];cases q:g x <;> simp[q]
def Kh ñ Ń (g:α->T) Â3 (xs:Ĝ) (hh:∀ x∈xs,h (enc x)=↑↑(g x)):qQ h Ś=↑(xs.map g):=by
 rw[eC enc (λ x=>↑(g x)) h xs hh];simp
def sL ñ Ń (h:α->T) â
  (hh:∀ x∈xs,sM Â4 (enc x)=↑↑(h x)):xE pick it g c f ρ=↑(ă (xs.map h)):=by
 unfold xE;rw[hi,Bv,é (by rw[AD];show hl),Kh enc h _ xs hh];rfl
def Zl ñ Ń (h:α->À T) â
  (hh:∀ x∈xs,sM Â4 (enc x)=↑(h x)):xE pick it g c f ρ=↑(ă (xs.filterMap h)):=by
 unfold xE;rw[hi,Bv,é (by rw[AD];show hl),eC enc h _ xs hh];rfl
section
variable {ñ}{is:Ŏ}{ŕ}{b:Sm}
def turn Ħ (b:Sm) (y:T) Ě:À Out:=(g y ρ).bind b
theorem kG (y:T) (ys:Ô) Ě:xq is g b (y::ys) ρ=(turn g b y ļ).bind λ o=>match o with
  | .nx ρ2=>ŏ
  | .ct ρ2=>ŏ
  | .bk ρ2=>↑(.nx (yt is ρ2))
  | .rt t=>↑(.rt t):=by
 unfold turn;rw[xq];cases g y ļ <;> rfl
theorem aY Ń (I:Ĝ->Ev->Prop):∀ (xs:Ĝ) (pre:Ĝ) Ě,I pre ļ->
  (∀ p x q,pre++xs=p++x::q->ā)->∃ ρ',Â6/\I (pre++xs) ρ'
 | [],pre,ρ,h,_=>#[yt is ρ,by rw[BF,xq],by exists h]
 | x::xs,pre,ρ,h,hs=>by
  let#[ρ',h1,h2]:=hs pre x xs rfl _ h;rw[Ay,kG,h1];have ih:=aY enc I xs (pre++[x]) ρ' h2 λ p y q e=>hs p y q (by rw[<- e];simp);exists ih
def uI Ń (I:Ĝ->Ev->Prop) (xs:Ĝ) Ě (h:I [] ļ)
  (hs:∀ p x q,xs=p++x::q->ā):∃ ρ',Â6/\I xs ρ':=aY enc I xs [] ρ h hs
end
theorem ke (n:Nat) (h:n<=100000):v9 [ê (n:Int)]=↑((List.range n).map λ(k:Nat)=>T.int (0+(k:Int))):=by
 change (if inR (n:Int)=true then ↑(rangeT 0 (n:Int).toNat) else none)=_;rw[é (ZG.mpr #[⋯,⋯])];rfl
def qt (a:Key) (b:T) (Ab:Í) (j:Key):xb ((a,b)::Ab) j=if a=j then ↑b else xb Ab j:=by
 by_cases h:a=j <;> simp[xb,h]
theorem cC Ä4:∀ Ab:Í,xb (Ab.map À3) j=(xb Ab j).map λ x=>if j=k then d else x
 | []=>rfl
 | (a,b)::Ab=>by
  have ih:=cC k j d Ab;rw[Ay];by_cases hk:a=k
  .rw[é hk,qt,qt,ih];by_cases hj:a=j
   .subst hj;subst hk;simp
   .rw[å hj,å hj]
  .rw[å hk,qt,qt,ih];by_cases hj:a=j
   .subst hj;simp[hk]
   .rw[å hj,å hj]
theorem cB Ä4:∀ Ab:Í,(∀ kv∈Ab,¬ kv.1=k)->xb (Ab++[(k,d)]) j=if j=k then ↑d else xb Ab j
 | [],_=>by
  change xb [(k,d)] j=_;rw[qt];by_cases h:j=k
  .subst h;simp
  .rw[å h,å (λ z=>h z.symm)]
 | (a,b)::Ab,hn=>by
  have ih:=cB k j d Ab λ kv EO=>hn kv (Av _ EO);have ha:¬ a=k:=hn (a,b) Al;change xb ((a,b)::(Ab++[(k,d)])) j=_;rw[qt,qt,ih];by_cases hj:a=j
  .subst hj;simp[ha]
  .rw[å hj,å hj]
def X7 Š:(Ab.any Ā)=(xb Ab k).isSome:=by
 unfold xb;rw[Option.isSome_map,Bk,Bg,List.find?_isSome]
def WW (Ab:Í) Ä4:xb (tB Ab k d) j=if j=k then ↑d else xb Ab j:=by
 unfold tB;split
 .rename_i h;rw[X7] at h;rw[cC];by_cases hj:j=k
  .subst hj;let#[x,hx]:=DU.mp h;simp[hx]
  .simp[hj]
 .rename_i h;show cB k j d Ab λ kv EO z=>h (Bg.mpr #[kv,EO,za2 z])
def Nd Š (d:T):(tB Ab k d).length=if (xb Ab k).isSome=true then Ab.length else Ab.length+1:=by
 have e:=X7 Ab k;unfold tB;rw[e];split <;> simp
def vP (p:č):ô:=[p.1,p.2]
def sD ě:Ã:=(L4.xo Ĭ).map λ r=>Ŀ
def cV ě:(sD ps).map vP=L4.xo Ĭ:=by
 unfold sD;rw[A0]
 conv=>rhs;rw[<- List.map_id (L4.xo Ĭ)]
 exact Cz λ r hr=>?_;let#[p,_,rfl]:=Aw.mp ((L4.t6 _).mem_iff.mp hr);rfl
def iR ě:(sD ps).Perm ps:=by
 have h:=L4.t6 Ĭ;have:(sD ps).Perm ((ps.map vP).map λ r=>Ŀ):=h.map _
 rwa [A0,show ((λ r:ô=>Ŀ) ∘ vP)=id from rfl,List.map_id] at this
def rN (p q:č):Prop:=p.1<q.1\/(p.1=q.1/\p.2<=q.2)
def cU ě:(sD ps).Pairwise rN:=by
 have h:=L4.iQ Ĭ;rw[<- cV,C7] at h;exact h.imp λ{p q} CH=>?_;unfold vP at CH;rw[HT.qE,HT.qE] at CH;unfold rN;by_cases e:q.1=p.1
 .rw[é e] at CH;by_cases e2:q.2=p.2
  .lia
  .rw[å e2] at CH;have:=of_decide_eq_false CH;lia
 .rw[å e] at CH;have:=of_decide_eq_false CH;lia
def Uk ě:vi (ps.map zu)=↑ Ĭ:=by
 have:=kd Ĭ
 rwa [A0,show yM ∘ vP=zu from rfl] at this
def wD (q p:č):Bool:=ņ (p.1<=q.1)&&ņ (p.2<=q.2)
def zI ě (q:č):Bool:=ps.any (wD q)
def y9 {ps:Ã}{q:č}:zI ps q=true↔∃ p∈ps,p.1<=q.1/\p.2<=q.2:=by
 unfold zI wD;simp[Bg]
def Ka {ps qs:Ã}(h:ps.Perm qs) (q:č):zI ps q=zI qs q:=by
 rw[Bk,y9,y9];show#[λ#[p,h1,h2]=>#[p,h.mem_iff.mp h1,h2],λ#[p,h1,h2]=>#[p,h.mem_iff.mpr h1,h2]]
def Kc (ps qs:Ã) (q:č):zI (ps++qs) q=(zI ps q||zI qs q):=by
 unfold zI;rw[List.any_append]
def vG ě:Prop:=ps.Pairwise λ p q=>p.1<q.1/\q.2<p.2
theorem vG.eq:∀ {ps qs:Ã},vG ps->vG qs->(∀ q,zI ps q=zI qs q)->ps=qs
 | [],[],_,_,_=>rfl
 | [],q::qs,_,_,h=>by
  have:=h q;rw[show zI [] q=false from rfl] at this;have h2:zI (q::qs) q=true:=Á7;rw[h2] at this;cases this
 | p::ps,[],_,_,h=>by
  have:=h p;rw[show zI [] p=false from rfl] at this;have h2:zI (p::ps) p=true:=y9.mpr Ő;rw[h2] at this;cases this
 | p::ps,q::qs,hp,hq,h=>by
  have hp1:=Br.mp hp;have hq1:=Br.mp hq;have a1:∃ r∈q::qs,r.1<=p.1/\r.2<=p.2:=y9.mp (by rw[<- h];show y9.mpr Ő);have a2:∃ r∈p::ps,r.1<=q.1/\r.2<=q.2:=y9.mp (by rw[h];show Á7);let#[r,hr,r1,r2]:=a1;let#[u,hu,u1,u2]:=a2;have qr:q.1<=r.1:=by
   rcases Ak.mp hr with e | e
   .subst e;show A8 _
   .show Int.le_of_lt (hq1.1 r e).1
  have pu:p.1<=u.1:=by
   rcases Ak.mp hu with e | e
   .subst e;show A8 _
   .show Int.le_of_lt (hp1.1 u e).1
  have e1:p.1=q.1:=⋯;have er:r=q:=by
   rcases Ak.mp hr with e | e
   .show e
   .have:=(hq1.1 r e).1;lia
  have eu:u=p:=by
   rcases Ak.mp hu with e | e
   .show e
   .have:=(hp1.1 u e).1;lia
  subst er eu;have e2:u.2=r.2:=⋯;have epq:u=r:=Prod.ext e1 e2;subst epq;rw[vG.eq hp1.2 hq1.2 λ x=>?_];have hx:=h x;unfold zI at hx ⊢;rw[BE,BE] at hx;cases g:wD x u with
  | false=>rw[g] at hx;exists hx
  | true=>
   have gx:u.1<=x.1/\u.2<=x.2:=by simpa [wD] using g
   have key:∀ {l:Ã},(∀ v∈l,u.1<v.1/\v.2<u.2)->l.any (wD x)=l.any (wD (x.1,u.2-1)):=by
    intro l hl;rw[Bk,Bg,Bg];constructor
    .ext Á9;have hg':v.1<=x.1/\v.2<=x.2:=by simpa [wD] using hg
     show Â0
    .ext Á9;have hg':v.1<=x.1/\v.2<=u.2-1:=by simpa [wD] using hg
     show Â0
   rw[key hp1.1,key hq1.1];have hy:=h (x.1,u.2-1);unfold zI at hy;rw[BE,BE] at hy;have gn:wD (x.1,u.2-1) u=false:=by
    unfold wD;rw[show ņ (u.2<=(x.1,u.2-1).2)=false from za3 (by change ¬ u.2<=u.2-1;lia),CT]
   rw[gn] at hy;exists hy
def tS (l:À Int) (x:Int):Bool:=match l with
 | none=>true
 | some m=>ņ (x<m)
def yH:Ã->À Int->Ã
 | [],_=>[]
 | p::ps,l=>if tS l p.2=true then p::yH ps ↑p.2 else yH ps l
def vk ě:Ã:=yH (sD ps) none
theorem md:∀ ě (l:À Int) (q:č),q∈yH ps l->q∈ps/\∀ m,l=↑m->q.2<m
 | [],l,q,h=>by simp[yH] at h
 | p::ps,l,q,h=>by
  unfold yH at h;split at h
  .rename_i c;have hm:∀ m,l=↑m->p.2<m:=λ m e=>by subst e;simpa [tS] using c
   rcases Ak.mp h with e | e
   .subst e;show#[Al,hm]
   .let#[h1,h2]:=md ps _ q e;show#[Av _ h1,λ m e=>by have:=h2 _ rfl;have:=hm m e;lia]
  .let#[h1,h2]:=md ps _ q h;show#[Av _ h1,h2]
theorem f9:∀ ě (l:À Int),ps.Pairwise rN->vG (yH ps l)
 | [],l,_=>by simp[yH,vG]
 | p::ps,l,h=>by
  have h1:=Br.mp h;unfold yH;split
  .exact Br.mpr #[λ q hq=>?_,f9 ps _ h1.2];let#[g1,g2]:=md ps _ q hq;have:=h1.1 q g1;have:=g2 _ rfl;unfold rN at *;lia
  .show f9 ps _ h1.2
theorem fA:∀ ě (l:À Int),ps.Pairwise rN->∀ p∈ps,(∃ q∈yH ps l,q.1<=p.1/\q.2<=p.2)\/∃ m,l=↑m/\m<=p.2
 | [],l,_,p,hp=>by cases hp
 | r::ps,l,h,p,hp=>by
  have h1:=Br.mp h;unfold yH;split
  .ext Ä5
   .subst e;show Ī Ő
   .rcases fA ps ↑r.2 h1.2 p e with ⟨q,q1,q2⟩ | ⟨m,e1,e2⟩
    .show Ī #[q,Av _ q1,q2]
    .cases e1;have:=h1.1 p e;unfold rN at this;show Ī #[r,Al,⋯,e2]
  .ext Ä5
   .subst e;cases l with
    | none=>simp[tS] at c
    | some m=>show ŧ #[m,rfl,by simpa [tS] using c]
   .show fA ps l h1.2 p e
def gZ ě:vG (vk ps):=f9 Ċ (cU ps)
def Ng {ps:Ã}{q:č}(h:q∈vk ps):q∈ps:=(iR ps).mem_iff.mp (md Ċ q h).1
theorem oh ě (q:č):zI (vk ps) q=zI ps q:=by
 rw[<- Ka (iR ps) q,Bk,y9,y9];constructor
 .rintro⟨p,h1,h2⟩;show#[p,(md Ċ p h1).1,h2]
 .rintro⟨p,h1,h2⟩;rcases fA (sD ps) none (cU ps) p h1 with ⟨r,r1,r2⟩ | ⟨m,e,_⟩
  .show#[r,r1,⋯,⋯]
  .cases e
end L5
namespace L2
open PySem PySem.Spec PyProof.Rows
section
variable {X:Cx}
def bM (K:Ac):R2:=λ x y H Q=>∃ l b xs zs,x=.ref l/\y=.ref b/\zP K H l xs/\zP K H b zs/\Ã5+zs.length<=í/\∀ p,H p=none->Q Ō (upd H p (ă (xs++zs)))
theorem Qy:yx X (binaryOp .Add) (bM X.K):=by
 intro E6 s σ H x y v u Q I rx ry h;let#[l,b,xs,zs,rfl,rfl,hH,hB,hz,q]:=h;cases rx;cases ry;let#[Aa,r,p1,_]:=I.list hH;let#[Fz,r2,p2,_]:=I.list hB;let#[#[cls,dd,data,sl],ho,hc,n,hd]:=p1.isList;let#[#[cls2,dd2,data2,sl2],ho2,HB,n2,hd2]:=p2.isList;simp only at hc hd HB hd2;subst hc hd HB hd2;have e:Aa.toArray++Fz.toArray=(Aa++Fz).toArray:=#[];exact concat_meets #[_,ho,rfl] #[_,ho2,rfl] noFill_list_add seq_list_add PySem.F.slot_list_add PySem.F.entry_list_add (PySem.F.args_list_add_2 Ċ) (list_addW l b Aa.toArray Fz.toArray n n2 dd dd2 sl sl2 (by rw[AH,AH,<- r.length,<- r2.length];show hz)) #[ho,ho2,?_];rw[e];show#[.ref _,_,I.OZ (t':=s.toks) (r.append r2) (by rw[A6];lia),rfl,q _ I.fresh]
end
end L2
namespace L5
open PySem PySem.Spec L2 L3
open PyProof.Rows hiding St
section
variable {X:Cx}{K:Ac}{a b c e:Expr}{es:List Expr}{ta tc te:zv}{tA:ym}{pos p:Pos}
def rA {H:Hp}ľ{d:D}{v:V}Đ(r:zg K H d v) (p:zN K H S) (e:zV d S=↑ds) (n:∀ ts,d≠ Ģ ts):∃ a xs,v=.ref a/\zP K H a xs/\zk K H ds xs:=by
 unfold zV at e;split at e
 .show absurd rfl (n _)
 .cases e;ext Ť;let#[a,xs,h1,h2,h3]:=r;show#[a,xs,h1,h2.sq,h3]
 .split at e
  .rename_i q;cases e;ext Ť;subst r;let#[xs,h1,h2]:=p Ċ q;show#[_,xs,rfl,zP.of h1,h2]
  .cases e
 .cases e
def vZ.mo {g:Ĩ->Bool}:vF (vZ g):=λ ds S Q Q' hq h=>by
 unfold vZ at h ⊢;split at h
 .show h.elim
 .let#[bs,h1,h2]:=h;show#[bs,h1,hq Ċ h2]
 .show h.elim
def vZ.fits {g:Ĩ->Bool}:uA K (vZ g) (λ xs H Q=>∃ p,∃ bs:Ĩ,xs=[.ref p]/\zP K H p (bs.map V.bl)/\Q (.bl (g bs)) H):=λ xs ds H S Q h0 h2 h=>by
 unfold vZ at h;split at h
 .show h.elim
 .rename_i d hn;let#[x,hx,h1]:=h0.one;subst hx;let#[bs,e,h]:=h;let#[a,ys,rfl,g1,g2]:=rA h1 h2 e (λ ts z=>hn ts z);rw[g2.bools] at g1;show#[a,bs,rfl,g1,h _ H Ã9 (.refl H) h2]
 .show h.elim
def Qf (hm:X.mg "all"=none) ŵ (hg:Gl X "all") Á4:PD X (.Call (.Name "all" p) (e::es) [] pos) (xr (vZ λ bs=>bs.all id) tA):=
 uF (uE (KI hc) hg hm boot_all ha.pa () () he Ap) vZ.mo vZ.fits ha.mo
def Qd (hm:X.mg "any"=none) ŵ (hg:Gl X "any") Á4:PD X (.Call (.Name "any" p) (e::es) [] pos) (xr (vZ λ bs=>bs.any id) tA):=
 uF (uE (KH hc) hg hm boot_any ha.pa () () he Ap) vZ.mo vZ.fits ha.mo
def Zw {H:Hp}{d:D}{v:V}(r:zg K H d v):ņ (v=.zp)=ou d:=by
 cases d with
 | tup _=>ext Â5
 | x_ _=>ext Â5
 | err _ _ _=>ext Ť;let#[a,_,_,_,rfl,_]:=r;rfl
 | _=>ext Ť;subst r;rfl
theorem Rr (ha:PD X a ta):PD X (.UnaryOp .USub a pos) (Y7 ta):=by
 exact#[fun δ S Q Q' hq h=>ha.mo Ū Ċ (λ x S1 z=>by
  cases x <;> first
   | show hq Ċ z
   | show z) h,PE.imp (Tq Vb ha.pe) fun σ H Q hu=>?_]
 let#[δ,S,r1,r2,h]:=hu;exact zK.go ha.mo r1 r2 h λ x S1 v H1 h1 q1 e1 p1=>?_;cases x with
 | int i=>simp![zg] at q1;show#[i,q1,h1 _ H1 Ã9 e1 p1]
 | _=>show h1.elim
section
variable {N':Ř}{pick:Ź}{scope:Scope}{tg elt iter:Expr}{ifs:List Expr}{ti:wj}{g:xf}{F_:yA}
def uP.mo (hi:jG ti):yo ĭ:=fun δ S Q Q' hq z=>hi Ū Ċ (λ I S1 #[h1,h2,h3]=>#[h1,h2,λ p hp=>by
 let#[W,w0,w1,w2,w3]:=h3 p hp;show#[W,w0,w1,w2,λ S2 acc a b c=>hq Ċ (w3 S2 acc a b c)]]) z
theorem cF (hi:jG ti) (hg:lq g) (hc:vb F_) (he:yo te) {σ:St}{H:Hp}{Q:VK}(hu:zK K ĭ σ H Q):iH pick (vg K ti) (oV K g) (wx K F_) (zK K te) σ H Q:=by
 let#[δ,S,r1,r2,z]:=hu;exact#[δ,S,r1,r2,hi Ū Ċ (λ I S1 hF J H1 e1 p1 rep D hD=>?_) z];let#[hlen,hk,hF]:=hF;have hS1:S1 D=none:=p1.none hD;let#[W,w0,wm,HJ,wfin]:=hF D hS1;exact#[λ i m σ H2=>m=æ-i/\i<=æ/\Ext H1 H2/\yJ K H2 ķ σ/\∃ S2 acc,zN K H2 S2/\Sx S1 S2/\S2 D=↑(ă acc)/\acc.length<=i/\W i S2 acc,#[_,rfl,Be _,.new hD _,((r1.ext e1).pick pick).ext (.new hD _),ups S1 D (ă []),[],?_,.new hS1 _,tf,Ao _,?_],?_]
 .show p1.ups (.new hD _) #[[],y7,.nil]
 .show wm 0 S1 _ [] Á0 w0
 rintro i m σ2 H2 ⟨rfl,FU,x2,q1,S2,acc,q2,sx,hS2,A4,hW⟩;let#[g1,g2]:=rep i H2 S2 x2 q2 (hk S2 sx);by_cases hl:i<æ
 .have hd:I.items[i]?=↑I.items[i]:=by simp[hl]
  let#[go,yl]:=g1 _ hd;exact ŧ #[go,λ x H3 hy=>?_];let#[x3,p3,d3]:=yl x H3 hy;exact#[_,_,S2,d3,q1.ext x3,p3,hg Ċ S2 Ċ (fun δ4 S4 z4 σ4 H4 a1 a2 a3=>?_) (HJ i _ S2 acc hd sx hS2 hW)];let#[hle,z4]:=z4;exact wx.go hc a1 a3 z4 λ b S5 H5 z5 x5 p5=>vm (λ z5=>?_) (λ z5=>?_) z5
  .exact zK.go he (a1.ext x5) p5 z5 λ y S6 v H6 z6 q6 x6 p6=>?_;let#[s6,hW6]:=z6;let#[ys,h6,r6]:=p6 Ċ (s6 Ċ hS2);have e6:Ext H6 (upd H6 D (ă (ys++[v]))):=ă h6 _;have hlen2:ű<=i:=by rw[<- r6.length];show A4
   exact#[ys,æ-(i+1),h6,⋯,⋯,rfl,hl,((Á1).trans x6).trans e6,hle.rep ((a1.ext (x5.trans x6)).ext e6),ups S6 D (ă (acc++[y])),acc++[y],?_,λ b o hb=>?_,tf,Á6,?_]
   .show p6.ups e6 #[_,y7,zk.ext e6 _ (r6.snoc q6)]
   .rw[sr (by intro q;subst q;rw[hS1] at hb;cases hb)];show s6 Ċ (sx Ċ hb)
   .show wm _ S6 Ċ Á0 hW6
  .let#[s5,hW5]:=z5;show#[æ-(i+1),⋯,rfl,hl,Á1,hle.rep (a1.ext x5),S5,acc,p5,sx.trans s5,s5 Ċ hS2,⋯,hW5]
 .have e:i=æ:=⋯;subst e;show Ī #[g2 (Ao _),wfin S2 acc sx hS2 hW _ H2 Ã9 (e1.trans x2) q2]
def R6 Æ
  ń:
  PD X î ĭ:=
 #[uP.mo hi.mo,λ E6 s σ H Q I hu=>T2 Ò hs E6 s σ H Q I (cF ğ hu)]
def Sz {i:Nat}{y:Str}{py Bp:Pos}Æ
  (hN:X.N.Nodup) (hy:X.N[i]?=↑y) (hx:Loc X.env.scope y)
  (Cs:swapsWith î ↑(.Name y py) Bp.line X.env=pure true)
  (Cg:X.fn y=true\/X.env.scope.names.lookup y=↑.local)
  ń:
  xW X (.Assign [.Name y py] î Bp) (wH ĭ Ű):=by
 exact#[wH.mo (uP.mo hi.mo) λ _ _ _ _ _ hq z=>hq Ċ z,λ E6 s σ H D I hu=>UE Ò hN hy hx Cs Cg hs E6 s σ H D I ?_];let#[δ,S,r1,r2,z]:=hu;exact cF ğ #[δ,S,r1,r2,uP.mo hi.mo Ū Ċ (λ x S1 z v H1 q1 e1 p1=>?_) z];show z _ H1 ((r1.ext e1).set i q1) e1 p1
end
end
section
variable {P:Program}{w:World}{K:Ac}{mg:AA}{base:Heap}{f:Addr}{fd:FuncData}
def ZX Ą Ŷ
  Ç:wL P w K mg base xa (k+1) f fd ps (vx K (zL R (zO N n g))):=
 kU F Sc (λ ds S Q h=>by rw[h.len,hn]) λ Ai A outer s H E hr=>by
  let#[t,h1,h2]:=E9 Ai A outer s H E hr;show#[t,h1,λ ds S Q h=>Ja h2 h]
def Lp Ą (hm:mg x=↑(.ref f)) Ŷ
  (hb:∀ (kV doc pm:Value) (an:À Addr) (Ai ct:Value) (us:Ah),us.length=ps.length->bindArgs (PySem.W.fnOf x x (v_ st) (yZ st) (zW st) .none kV doc pm an Ai ct) #[us,[]]=pure (ps.zip us))
  Ç:FD P w K mg base x (k+1) ps (zL R (zO N n g)):=
 #[#[f,fd,ZX F Sc hn E9,hm,F.kp,F.binds hb],zL.mo]
def Nr Ň [Sr R] {F:Am}(hF:∀ ns:ô,ns.length<=63->F [ă (ns.map T.int)]=↑(.bl true)) {H:Hp}{a:Addr}{ns:ô}{E:XK}(hO:jB H) (hS:zP K H a (ns.map V.int)) (hl:ns.length<=63):vx K (zL R F) [.ref a] H (λ v _=>v=.bl true) E:=by
 have hFz:oO K H a (ns.map V.int):=by
  rcases hS with (h | h) | h
  .rcases hO a with z | ⟨o,xs,z⟩
   .rw[h] at z;cases z
   .rw[h] at z;cases z
  .show Ī h
  .show ŧ h
 exact#[[.x_ (ns.map D.int)],λ _=>none,.cons ?_ .nil,(λ a o z=>nomatch z),λ _=>ŷ,[ă (ns.map T.int)],.bl true,nofun,.cons ?_ .nil,hF ns hl,λ d S' s r v H' rv _ _=>?_]
 .simp![zg];show#[a,_,rfl,hFz,zk.gF ns]
 .ext ł;show#[_,Ī #[rfl,Q0 ns],qy.mpr rfl]
 .have:=Sr.sn r;simp![Sn] at this;subst this;simpa only [zg] using rv
end
end L5
namespace ST
open PySem PySem.SetTable
def uV (xs:Ŏ):Prop:=xs.Pairwise (· < ·)
def fJ Ŭ{m d:Nat}(h:m<ĉ):xs.getD m d=xs[m]:=by simp[Array.getD,h]
theorem eU (xs:Array Nat) (j:Nat) Ņ:∀ (f lo hi:Nat),hi-lo<=f->lo<=hi->hi<=ĉ->(∀ i Ã1,i<lo->xs[i]<j)->(∀ i Ã1,hi<=i->j<=xs[i])->
  š<=ĉ/\(∀ i Ã1,i<š->xs[i]<j)/\∀ i Ã1,š<=i->j<=xs[i]
 | 0,lo,hi,h1,h2,h3,h4,h5=>by
  unfold below.go;ext ŭ
 | f+1,lo,hi,h1,h2,h3,h4,h5=>by
  unfold below.go;have wN:∀ i k (hi:i<ĉ) (hk:k<ĉ),i<=k->xs[i]<=xs[k]:=λ i k hi hk EV=>by
   rcases Bw i k with q | q
   .have r:=CQ.mp hr i k Á5 (by exists hk) q;rw[Cw,Cw] at r;show BG r
   .have:i=k:=⋯;subst this;show Ao _
  by_cases hl:lo<hi
  .rw[é hl];dsimp only;have hm:(lo+hi)/2<ĉ:=⋯;rw[fJ hm];by_cases c:xs[(lo+hi)/2]<j
   .rw[é c];exact eU xs j hr f _ hi ⋯ ⋯ h3 (λ i FU Ar=>?_) h5;have:=wN i ((lo+hi)/2) FU hm ⋯;lia
   .rw[å c];exact eU xs j hr f lo _ ⋯ ⋯ ⋯ h4 (λ i FU CK=>?_);have:=wN ((lo+hi)/2) i hm FU CK;lia
  .rw[å hl];ext ŭ
def ju Ŭ{j:Nat}Ņ:ď<=ĉ/\(∀ i Ã1,i<ď->xs[i]<j)/\∀ i Ã1,ď<=i->j<=xs[i]:=
 eU xs j hr ĉ 0 ĉ ⋯ ⋯ (Ao _) (λ i h q=>⋯) (λ i h q=>⋯)
theorem below_at Ŭ{j i:Nat}Ņ (h:xs[i]?=↑j):ď=i:=by
 let#[h1,h2,h3]:=ju (j:=j) hr;ext Ů;have a:¬ i<ď:=λ q=>by have:=h2 i hi q;lia
 have b:¬ ď<i:=λ q=>by
  have:=h3 (ď) ⋯ (Ao _);have r:=CQ.mp hr (ď) i (Á6) Á5 q;simp at r;lia
 lia
def Je Ŭ{j:Nat}Ņ:(xs[ď]?=↑j)↔j∈xs.toList:=by
 constructor
 .intro h;ext Ů;rw[<- e];simp
 .intro h;let#[i,hi,e]:=BP.mp h;have hx:xs[i]?=↑j:=by
   simp at hi;simp[hi] at e ⊢;show e
  rw[below_at hr hx];show hx
def u7 Ĺ (p:Probe):Probe:=
 if p.more>0 then { p with j:=p.j+1,more:=p.more-1 } else
 let (i,perturb):=leap M p.i p.perturb
 { p with j:=i,more:=ĳ,i,perturb }
def dm (t:SetTable) (p:Probe):t.advance p=u7 t.mask p:=rfl
def pU (M i perturb:Nat):Probe:={ j:=i,more:=ĳ,i:=i,perturb:=perturb,dummy:=none }
def way Ý:Nat->Probe
 | 0=>pU M (Ľ%Ĕ) (Ľ)
 | k+1=>u7 M (à)
def Jx Ĺ (p:Probe) (h:p.dummy=none):(u7 M p).dummy=none:=by
 unfold u7;split
 .show h
 .show h
theorem iw Ý:∀ k,(à).dummy=none
 | 0=>rfl
 | k+1=>Jx M _ (iw M h k)
def zY Ý:Nat->Nat×Nat
 | 0=>(Ľ%Ĕ,Ľ)
 | n+1=>leap M À4 İ
theorem iY (M i pt:Nat) (h:Int) (k:Nat) (hk:à=pU M i pt):∀ m,m<=ĳ->way M h (k+m)={ j:=i+m,more:=ĳ-m,i:=i,perturb:=pt,dummy:=none }
 | 0,_=>by rw[Nat.add_zero,hk];rfl
 | m+1,hm=>by
  have ih:=iY M i pt h k hk m ⋯;change u7 M (way M h (k+m))=_;rw[ih];unfold u7;rw[é (by change ĳ-m>0;lia)];simp![Probe.mk.injEq];show#[⋯,⋯,Ã6,Ã6,Ã6]
def Uj (M i:Nat):ĳ<=9:=by ext À8
theorem bq Ý (n k:Nat) (hk:à=pU M À4 İ):way M h (k+(runEnd M À4-À4)+1)=pU M (zY M h (n+1)).1 (zY M h (n+1)).2:=by
 have:=iY M Ċ h k hk _ (Ao _);change u7 M (way M h (k+_))=_;rw[this];unfold u7;rw[å (by change ¬ _-_-(_-_)>0;lia)];rfl
theorem bu Ý:∀ n,∃ k,k<=10*n/\à=pU M À4 İ
 | 0=>#[0,⋯,rfl]
 | n+1=>by
  let#[k,h1,h2]:=bu M h n;have:=Uj M À4;show#[_,⋯,bq M h n k h2]
def Jc (h:Int):Ľ<2 ^ 64:=by
 unfold bits;have h1:=Dl h (show (2 ^ 64:Int)≠0 by decide);have h2:=Dk h (show (0:Int)<2 ^ 64 by decide);lia
theorem aa Ý:∀ n,İ*32 ^ n<=Ľ
 | 0=>by simp[zY]
 | n+1=>by
  have ih:=aa M h n;change (İ/32)*32 ^ (n+1)<=_;have:İ/32*32<=İ:=Nat.div_mul_le_self Ċ
  calc İ/32*32 ^ (n+1)=(İ/32*32)*32 ^ n:=by rw[Nat.pow_succ,Nat.mul_comm (32 ^ n) 32,Nat.mul_assoc]
   _<=İ*32 ^ n:=Nat.mul_le_mul_right _ this
   _<=_:=ih
theorem Tj Ý (n:Nat) (hn:13<=n):İ=0:=by
 rcases DF İ with q | q
 .show q
 .have h1:=aa M h n;have h2:=Jc h;have h3:32 ^ 13<=32 ^ n:=Nat.pow_le_pow_right () hn;have h4:1*32 ^ n<=İ*32 ^ n:=Nat.mul_le_mul_right _ q;have h5:(2:Nat) ^ 64<32 ^ 13:=()
  lia
def sG Ĺ Ê:Nat->Nat
 | 0=>i
 | n+1=>(sG M i n*5+1)%Ĕ
theorem Zi Ý:∀ n,(zY M h (13+n)).1=sG M (zY M h 13).1 n
 | 0=>rfl
 | n+1=>by
  have ih:=Zi M h n;have hz:=Tj M h (13+n) ⋯;change ((zY M h (13+n)).1*5+1+(zY M h (13+n)).2/32)%Ĕ=_;rw[hz,ih];rfl
theorem nE (M i:Nat):∀ a b,sG M i (a+b)=sG M (sG M i a) b
 | a,0=>rfl
 | a,b+1=>by
  change (sG M i (a+b)*5+1)%Ĕ=_;rw[nE M i a b];rfl
def nD Ĺ:Nat->Nat->Ŏ
 | 0,_=>[]
 | n+1,i=>i::nD M n ((i*5+1)%Ĕ)
theorem gC Ĺ:∀ n i x,x∈nD M n i->∃ k,k<n/\sG M i k=x
 | 0,i,x,h=>ò
 | n+1,i,x,h=>by
  rcases Ak.mp h with e | e
  .show#[0,⋯,e.symm]
  .let#[k,h1,h2]:=gC M n _ x e;show#[k+1,⋯,by rw[Nat.add_comm,nE];show h2]
def vE Ĺ:Prop:=M=7\/M=31\/M=127
theorem Qj Ĺ (hM:vE M):(∀ e,e<=M->e∈nD M Ĕ 0)/\sG M 0 Ĕ=0:=by
 have key:∀ M,((List.range Ĕ).all λ e=>(nD M Ĕ 0).contains e)=true->∀ e,e<=M->e∈nD M Ĕ 0:=λ M h e he=>by
  have:=BN.mp h e (AQ.mpr ⋯);exists this
 rcases hM with rfl | rfl | rfl
 .show#[key 7 (AR),AR]
 .show#[key 31 (AR),AR]
 .show#[key 127 (AR),AR]
theorem Qi Ĺ (hM:vE M) (i e:Nat) (hi:i<=M) (he:e<=M):∃ n,n<=M/\sG M i n=e:=by
 let#[h1,h2]:=Qj M hM;let#[a,a1,a2]:=gC M Ċ _ (h1 i hi);let#[b,b1,b2]:=gC M Ċ _ (h1 e he);rcases Bw b a with q | q
 .exact#[M+1+b-a,⋯,?_];rw[<- a2,<- nE,show a+(M+1+b-a)=Ĕ+b by lia,nE,h2,b2]
 .exact#[b-a,⋯,?_];rw[<- a2,<- nE,show a+(b-a)=b by lia,b2]
theorem Nh Ý:∀ n,À4<=M
 | 0=>by have:=C6 (Ľ) ő;change Ľ%Ĕ<=M;lia
 | n+1=>by
  have:=C6 (À4*5+1+İ/32) ő;change (_%Ĕ:Nat)<=M;lia
theorem Zj Ĺ ž:∃ n,n<M+14/\À4=e:=by
 let#[n,h1,h2]:=Qi M hM (zY M h 13).1 e (Nh M h 13) he;show#[13+n,⋯,by rw[Zi,h2]]
theorem WT Ĺ ž:∃ k,k<10*(M+15)/\(à).j=e:=by
 let#[n,h1,h2]:=Zj M hM h e he;let#[k,k1,k2]:=bu M h n;show#[k,⋯,by rw[k2];show h2]
theorem c6 Ý:∀ k,(à).j+(à).more<=M/\(à).i<=M
 | 0=>by
  have h1:Ľ%Ĕ<=M:=by have:=C6 (Ľ) ő;lia
  exact#[?_,h1];change Ľ%Ĕ+(runEnd M (Ľ%Ĕ)-Ľ%Ĕ)<=M;ext À8
 | k+1=>by
  let#[h1,h2]:=c6 M h k;change (u7 M (à)).j+(u7 M (à)).more<=M/\(u7 M (à)).i<=M;unfold u7;split
  .rename_i c;show#[by change (à).j+1+((à).more-1)<=M;lia,h2]
  .have h3:Â7%Ĕ<=M:=by have:=C6 Â7 ő;lia
   exact#[?_,h3];change _%Ĕ+(runEnd M (_%Ĕ)-_%Ĕ)<=M;ext À8
def iu Ý (k:Nat):(à).j<=M:=by have:=(c6 M h k).1;lia
structure Tab (t:SetTable) (hs:ô):Prop where
 mask:vE t.mask
 rW:t.dummies=[].toArray
 len:t.place.size=hs.length
 wN:uV t.place.toList
 top:∀ j∈t.place.toList,j<=t.mask
 nr:∀ Ê h j,hs[i]?=↑h->t.place[i]?=↑j->∃ k,(way t.mask h k).j=j/\∀ k'<k,(way t.mask h k').j∈t.place.toList
theorem Tab.live {t:SetTable}{hs:ô}(T:Tab t hs) {i j:Nat}(h:t.place[i]?=↑j):t.slot j=.live i:=by
 unfold SetTable.slot;dsimp only;rw[below_at T.wN h,é (by rw[h];simp)]
)
example:=`(
example À:=s.heap.objs.size
example ì _:=x prog w
example Á:=intKind ì
example Â:=(rk ì).hash
example Ĵ:=Value
example Ò:=Array (Int× Ĵ)
example đ:=SetTable
example Ã{es:Ò}{ep:Nat}{t:đ}:=0
example Ä:=List Int
example Å:=w.params.followText "set-order"
example Ŕ:=(Á).hash
example ż:=Value.int
example Æ:=insertAt es p (Ŕ n,ż n tk)
example Ç _:=x (model ì) A
example È:=xs.length
example É{prog:Program}{w:World}:=0
example Ê:=t.mask
example à:=t.place
example ğ:=below à j
example Ë:=insertAt à (ğ) j
example Ì:=t.place.toList
example ě:=xs.map
example û:=(·.1)
example Í:=ě û
example Ć:=(Ad ?_)
example æ:=by dsimp only
example Î:=by exact gV (zaH (zaB (name:=Str.ofString "__next__") (qF ho) pR (za7 pR (qF ho) Ym ?_ (X5 _))));exact gV Ć;ext æ;exact gV (wpAny_fieldsOf ho rfl ?_);dsimp only[rawInt];exact gV (gV (za8 S.get rfl S.fits Ć))
example Ï:=owner
example Ä1:=Value.ref
example Ð:=insertAt es p (Â key,Ä1 b)
example Œ:=es.map û
example Ş:=t.plain
example Ñ:=by let#[t',order,h1,h2,h3,h4,h5,h6,h7]:=Zo hM t.finger (t.movedTo M) t.led Ş (Œ) (by rw[hsz];lia);rw[hsz] at h6;have Ar:∀ k∈order.toList,k<È:=λ k hk=>by exists h6.mem_iff.mp hk
example Ó:=(vi ts).bind λ rs=>if rs.length<64/\∀ r∈rs,r≠[] then ↑(.lst ((L4.xo (w9 rs)).map yM)) else none
example Ô:=λ e=>(Ŕ e.1,ż e.1 e.2)
example ė _:=x _ _
example ô:=wpAny
example Õ:=by exact gV ?_;change ô ė (forIn items ė) ė s;rw[<- Array.forIn_toList];exact wpAny_forIn_list _ (λ E8 r s'=>r.1=none/\s'=s/\∀ v∈E8,∃ n t,v=.int n t) _ ?_ ?_ ė #[rfl,rfl,items_int hi]
example Ö{t:đ}{hs:Ä}(T:Tab t hs):=0
example Ø:=es.size
example ċ:=s.heap.get?
example Ù:=∀ b o,b<À->ċ b=↑o->h'.get? b=↑o
example Ä3:=h.get?
example ţ:=.set es ep t
example ê:=.type "set"
example Ú:=Ä3 a=↑{ cls:=ê,dict:=none,data:=ţ }
example Ŏ:=Option
example Û:=Array (Ŏ Nat)
example Ü:=(upd H l (.ext (ST.yP w l us)))
example Ý:=order.filterMap (es[·]?)
example Þ:=Shared->Prop
example ß:=s.heap.push
example á:=(zY M h n).1
example â:=by unfold SetTable.tooFull at this;rw[FO,Cf] at this;exists this
example ã _:=x (by rw[typeLookup_type,builtinLookup_eq_fast];kernel_rfl) (AR) (AR) (AR) (by first | show .inl (AR) | show .inr (AR)) (by rw[isSubtype_type];kernel_rfl)
example ä:=s.heap
example ĺ:=codeAny_builtin
example ð:=.ref
example ĵ:=Around.under_plainId
example å:=by exact ĺ F.entry_set_update_loop ?_;rw[ĵ F.plain_set_update_loop _];change ô _ A.in1 (pyNext (ð I) >>= _) ė s
example ç:=by .rintro⟨r1,r2⟩ s' ⟨hr,rfl,_⟩;simp only at hr;subst hr;show Ad h
example è:=order.toList.filterMap λ k=>xs[k]?
example é:=λ e=>Ŕ e.1
example ë _:=x a es ep
example í:=comes w ë
example î:=h _ H (by simp![zg,cond]) (.refl H) h3
example ï:=by exact (Fd.map _).nodup_iff.mpr ?_;rw[Bz,List.nodup_append];exact#[C1,#[],λ x hx y hy=>?_];simp at hy;subst hy;show λ e=>hm (e▸hx)
example ñ _:=x (prog:=prog) (w:=w)
example ò:=by let#[h',g',d',tk',HV]:=s';obtain rfl:g'=s.gens:=hm.gens;obtain rfl:d'=s.drawn:=hm.drawn;obtain rfl:HV=s.os:=hm.os
example ó:=(lives M Ï).map
example õ:=(Â key)
example ö:=Heap.SameBut.update
example ø{a:Addr}:=0
example ù(hh:A.handled=none):=0
example ú:=layClean.free M Ï (turns M) (bits h%(M+1)) (bits h)
example Ã5:=AK _ rfl
example ü _:=x _ [] ⋯ (Be _) #[#[_,Ã5,rfl,rfl],F7.push _] ?_ ?_ #[λ e he=>(by cases he),λ j r hj=>⋯] ?_
example ý:=Ä1 e.2
example þ:=ě λ e=>Â e.1
example ÿ:=false
example Ā:=List (Ä ×Addr)
example ā:=IsTupleKey
example Ă:=by have:=congrArg List.length X.es;exists this
example ş:=(·.2)
example ă:=ps.map ş
example Ŗ(w:World):=0
example Ą(prog:Program) Ŗ:=0
example ĥ:=by kernel_rfl
example ą _:=x (o:=['r','o','t','a','r','e','t','i','_','t','e','s']) (ĥ) ak
example ć:=if_neg
example Ĉ:=List (Ä)
example ĉ(S:va w ä ë t):=0
example Ä6:=(ð À)
example Ċ:=(Ù)->Q Ä6 { s with heap:=h',toks:=tk }
example Č:=by simp![CY,A9,if_false]
example č:=List.range
example Ď:=t.put j
example ď:=PyProof.Rows
example Đ:=(s1.trans s2).trans s3
example Ē:=hs.length
example ē:=#[.inl rfl,rfl,rfl,.nil,λ j hj=>(by cases hj),λ i g j hg=>(by cases hg)]
example Ĕ:=by repeat (any_goals (first | assumption | wp_step))
example ĕ:=Ï[j]?=↑↑k
example Ė:=owner.setIfInBounds j ↑m
example Ę:=by let#[#[slot,h1,h2],S]:=st
example ę:=∃ (i:Nat) (e:Ä ×Addr),à[i]?=↑(way Ê õ m).j/\xs[i]?=↑e/\e.1≠key
example Ě{Q:Bool->Þ}:=0
example Ĝ:=by have Fd:(è).Perm xs:=(h6.filterMap _).trans (by rw[List.filterMap_getElem?_range_length])
example ĝ:=by intro E6 s σ H x y v u Q I rx ry h;let#[c,d,rfl,rfl,q]:=h;cases rx;cases ry
example Ğ:=List (κ × β)
example Ġ{s:Shared}:=0
example ġ:=xs.take p
example Ģ:=by simp![A9,if_false]
example ģ:=t.place.size
example Ĥ:=Fd.length_eq
example Ħ:=(ß L0).objs.size
example ħ{M:Nat}(hM:vE M):=0
example Ŵ:=sizeLine
example Ĩ:=by have:Ŵ=16777216:=rfl
example ĩ _:=x val Aa ks
example Ő:=(wM w)
example Ī:=(ß Ő).objs.size
example ī:=if_pos
example Ĭ:=xs.drop p
example ĭ:=wpAny_storeSet_of ho rfl ?_ BS
example į _:=x Q E s
example Į:=ô Ç (call (ê) [ð l]) į
example İ:=by rintro v E8 r s' ⟨hr,rfl,AM⟩
example ı:=probe.go
example Ĳ:=Option.none
example ĳ:=Array.getElem?_eq_some_iff.mp
example Ķ:=Ä3 b=↑o->h'.get? b=↑o
example ķ:=Aa[i]?=↑v
example ĸ:=by rw[e] at this;show this.trans (List.perm_append_singleton ė).symm
example Ĺ:=by rw[Array.toList_filterMap,List.map_filterMap];congr 1;funext k
example Ļ:=gV (za8 S.get rfl S.fits ?_)
example ļ:=List (Int×Tok)
example Ľ:=by have hT:=hk.typeIs;let#[o,items,n,ho,_,hd,hi]:=hk
example ľ:=Heap.SameBut
example Ŀ:=key∈ Í/\Fg=xs\/key∉ Í/\Fg.Perm (xs++[(key,b)])
example ŀ:=by have hlen:Ø=È:=by have:=congrArg List.length he;exists this
example Ł:=by .simp![zg] at h2;exact .inr #[h2,?_];rw[Zw h1];show î
example ł(hf:wK f) (hg:wK g) (ha:yo ta) (hb:yo tb) (hc:yo tc):=0
example Ã6{h:Heap}:=0
example Ń Ã6{es:Ò}{t:đ}{xs:Ā}(X:qo ñ h es t xs):=0
example ń:=(way Ê h K).j
example Ņ:=Obj.putSet
example ņ:=PySem.SetTable
example Ň:=v1::v2::E8
example ň(hM:vE M) (hw:sizeAbove wanted=M+1) (AZ:È*5<M*3):=0
example ŉ:=gV (za8 ho rfl X.fits ?_)
example Ŋ:=ě λ e=>(V.ref e.2,e.1)
example ŋ(i:Nat):=0
example Ō(h':Heap) (tk:Nat):=0
example ō:=by unfold SetTable.relaid;rw[hw,Nat.add_sub_cancel];show h1
example ŏ:=SetTable.fill
example ő:=by generalize hT:(Ď)=P at *;let#[t1,p]:=P;dsimp only at *
example œ:=t.place.getD i 0
example ŕ:=(Cl.of (λ _=>nofun) vy)
example ŗ(hl:s.heap.IsList l Aa\/s.heap.IsTuple l Aa):=0
example Ř(a:Addr) (es:Ò) (ep:Nat):=0
example ř:=by rw[AD] at p1;have CG:(Ď).1.plain=true:=by rw[p2];show Ap
example Ś:=by let#[e,he,rfl]:=Aw.mp hx
example ś:=way Ê h k
example Ŝ:=owner.size
example ŝ:=L.size
example Š:=(ó û).toArray.toList
example š:=Around
example Ţ:=λ u hu=>AM u (Av _ hu)
example Ť:=by .simp![zg] at h1 h2;show .inl #[_,_,h1,h2,î]
example ť:=(Ď).1={ t with place:=insertAt à (Ď).2 j }
example Ŧ:=[].toArray
example ŧ:=Aa.size
example Ũ:=Å=ÿ->slot=slotAt t i
example ũ:=(e1.trans e2).trans e3
example Ū:=(way Ê h k1).j
example ū:=∃ c d,x=.bl c/\y=.bl d/\Q (.bl (c == d)) H
example Ŭ:=by simp[FN,DC,DB]
example ŭ(hashes:Array Int) (hl:hashes.size<=M+1):=0
example Ů:=es.toList.findIdx? (λ e=>(Á).is n e.2)
example ů:=(Ë).toList
example Ű:=∃ c d,x=.bl c/\y=.bl d/\Q (.bl (c != d)) H
example ű _:=x (A:=A.in1.in1.in1) (by simp[hh]) _ l IV Aa
example Ų:=runEnd M á
example ų:=t.fits Ø=true
example ŵ:=#[es,ep,t,ho,X,BH,Ap,AZ]
example Ŷ:=by rcases X.tab.mask with e | e | e <;> lia
example ŷ:=slotAt t (i+1)
example Ÿ:=rows.length
example Ź:=(.ext (yP X.w l us))
example ź:=es.toList
example Ż:=if_true
example Ž(val:κ->β->Ĵ) (Aa:AB) (ks:List κ):=0
example ž:=by have:=(mT w ë).length_eq
example ſ:=by unfold turns;lia
example À0:=t.relaid (Œ) wanted=↑(t',order)
example À1 _:=x a (ð b) õ true fuel
example À2:=(Â e.1,ý)
example À3:=setSearchFrom
example À4:=maxHeartbeats
example À5:=plainId_quiet
example À6:=(sb.2 c (λ z=>hc (z▸Al))).trans e
example À7:=by rcases Ak.mp hm with q | q
example À8(l:Addr) (us:Ah) (ps:List (V× Ä)):=0
example À9:=(í).toList.map ş
example Á0:=(Obj.mapSeq (·.push Value.none))
example Á1(hu:A.units<cLine):=0
example Á2:=by have Ar:(Ď).1.led=led:=by rw[p2];show BH
example Á3:=by rw[FZ];simp![CZ,CT,A9,if_false]
example Á4:=owner.getD
example Á5:=(Í).Nodup
example Á6:=#[λ e he=>?_,λ j r hj CD=>?_]
example Á7:=PySem.Spec
example Á8:=(oI f g ta tb tc)
example Á9:=by rw[AE] at hg;let#[e,e1,e2]:=AF.mp hg
example Â0{led:Bool}:=0
example Â1:=by have F7:FN.length=È+1:=by rw[Ĥ];simp
example Â2(ho:ċ I=↑(rO a slot i n ep)):=0
example Â3:=Classical.em
example Â4:=setAddHashed
example Â5:=(.bl (cond neg (c != d) (c == d)))
example Â6:=∃ (e:Nat),e<=M/\Ï[e]?=↑ Ĳ
example Â7:=∃ k c,v=ð c/\ā (Á) ä k c
example Â8:=t.led=led/\Ş=true/\È*5<Ê*3
example Â9:=#[[ê,a],[]]
example Ã0:=by exact gV (za8 ho hd X.fits ?_);ext æ
example Ã1:=∀ q'<q,qh Ï (way M h q').j
example Ã2:=by have hsz:(Œ).size=È:=by rw[DH,hlen]
example Ã3:=ć (by rw[T.rW];simp[has])
example Ã4:=.builtin
example Ã7:=by let#[u,rfl,ru]:=vals1 r;cases ru
example Ã8:=toList_insertAt
example Ã9:=λ k=>hashes.toList.getD k 0
example Ä0:=(ð a)
example Ä2:=unsupported
example Ä4:=by unfold ŏ;rw[p3.rW,p3.len];simp;lia
example Ä5:=Au.mp q
example Ä7:=za1 _ (za1 _ e)
example Ä8:=va w h ë t
example Ä9:=Builtin.List.listLengthHint
example Å0:=Builtin.List.listExtendWith
example Å1:=(zaN ė (Ne.symm hb)).trans
example Å2:=ps.map û
example Å3:=(∀ q∈ps,q∈ys.zip rows)
example Å4{α:Type}:=0
example Å5(M:Nat) (Ï:Û):=0
example Å6(L:Lay M hs Ï m) (hm:m<=M):=0
example Å7{E:Af}:=0
theorem Tab.empty Ö {j:Nat}(h:j∉ Ì):t.slot j=.empty:=by
 unfold SetTable.slot;ext æ;have n1:¬ (à[ğ]? == ↑j)=true:=λ q=>h ((Je T.wN).mp (by exists q));rw[ć n1,Ã3]
theorem Tab.at Ö {j:Nat}(h:j∈ Ì):∃ (i:Nat) (g:Int),à[i]?=↑j/\hs[i]?=↑g:=by
 let#[i,hi,e]:=BP.mp h;have FU:i<ģ:=by exists hi
 exact#[i,hs[i]'(by rw[<- T.len];show FU),?_,#[]];rw[BC FU];rw[Cw] at e;rw[e]
theorem ZO Ö {hashAt:Nat->Int}(hA:∀ ŋ g,hs[i]?=↑g->hashAt i=g) (h:Int):∀ (f k:Nat),(∃ e,k<=e/\e<k+f/\(way Ê h e).j∉ Ì)->
  ∃ k1,k<=k1/\(∀ m,k<=m->m<k1->∃ (i:Nat) (g:Int),à[i]?=↑(way Ê h m).j/\hs[i]?=↑g/\g≠h)/\
   (Ū ∉ Ì/\ı t hashAt h f (ś)=↑(.empty Ū none)\/
    ∃ i,à[i]?=↑ Ū/\hs[i]?=↑h/\ı t hashAt h f (ś)=↑(.candidate Ū i (way Ê h (k1+1))))
 | 0,k,#[e,h1,h2,_]=>⋯
 | f+1,k,#[e,h1,h2,h3]=>by
  by_cases hm:(ś).j∈ Ì
  .let#[i,g,p1,p2]:=T.at hm;by_cases hg:g=h
   .exact#[k,Ao _,λ m a b=>⋯,.inr #[i,p1,by rw[<- hg];show p2,?_]];unfold ı;rw[T.live p1];ext æ;rw[hA i g p2,ī (by simp[hg]),dm];rfl
   .have Az:e≠k:=λ q=>by subst q;show h3 hm
    let#[k1,q1,q2,q3]:=ZO T hA h f (k+1) #[e,⋯,⋯,h3];have eq:ı t hashAt h (f+1) (ś)=ı t hashAt h f (way Ê h (k+1)):=by
     conv=>lhs;unfold ı
     rw[T.live p1];ext æ;rw[hA i g p2,ć (by simp[hg]),dm];rfl
    rw[eq];exact#[k1,⋯,λ m a b=>?_,q3];rcases Nat.eq_or_lt_of_le a with w | w
    .subst w;show#[i,g,p1,p2,hg]
    .show q2 m w b
  .exact#[k,Ao _,λ m a b=>⋯,.inl #[hm,?_]];unfold ı;rw[T.empty hm,iw]
def aH {xs ys:List Nat}(hx:xs.Nodup) (h:∀ x∈xs,x∈ys):È<=ys.length:=by
 induction xs generalizing ys with
 | nil=>simp
 | cons x xs ih=>
  have h1:=Bu.mp hx;have hxy:=h x Al;have:=ih h1.2 (ys:=ys.erase x) λ z hz=>by
   have Az:z≠x:=λ e=>h1.1 (e▸hz);show (List.mem_erase_of_ne Az).mpr (h z (Av _ hz))
  rw[List.length_erase_of_mem hxy] at this;have hp:=List.length_pos_of_mem hxy;simp![AX];lia
theorem least {P:Nat->Prop}(k:Nat) (h:P k):∃ m,m<=k/\P m/\∀ m'<m,¬ P m':=by
 induction k using Nat.strongRecOn with
 | ind k ih=>
  rcases Â3 (∃ m',m'<k/\P m') with ⟨m',h1,h2⟩ | q
  .let#[m,g1,g2]:=ih m' h1 h2;show#[m,⋯,g2]
  .show#[k,Ao _,h,λ m' hm hp=>q #[m',hm,hp]]
theorem MY {xs:List Nat}{M:Nat}(h:È<=M):∃ e,e<=M/\e∉xs:=by
 rcases Â3 (∃ e,e<=M/\e∉xs) with q | q
 .show q
 .have:=aH (xs:=č (M+1)) (ys:=xs) Eh λ e he=>by
   have:=AQ.mp he;rcases Â3 (e∈xs) with w | w
   .show w
   .show absurd #[e,⋯,w] q
  simp at this;lia
def dD (t:đ) (h:Int) (j:Nat):Prop:=j∉ Ì/\∃ k,(ś).j=j/\∀ k'<k,(way Ê h k').j∈ Ì
theorem Tab.first Ö (hl:Ē<=Ê) (h:Int):∃ K,K<10*(Ê+15)/\ń ∉ Ì/\∀ k'<K,(way Ê h k').j∈ Ì:=by
 let#[e,e1,e2]:=MY (xs:=Ì) (M:=Ê) (by rw[A3,T.len];show hl);let#[k,k1,k2]:=WT Ê T.mask h e e1;let#[K,q1,q2,q3]:=least (P:=λ n=>(way Ê h n).j∉ Ì) k (by rw[k2];show e2);show#[K,⋯,q2,λ k' hk=>Classical.not_not.mp (q3 k' hk)]
def Uo {xs:List Nat}{j p:Nat}(h:uV xs) (h1:∀ x∈ ġ,x<j) (h2:∀ x∈ Ĭ,j<x):uV (ġ++j::Ĭ):=by
 exact Dg.mpr #[h.sublist (List.take_sublist ė),Br.mpr #[h2,h.sublist (List.drop_sublist ė)],λ a ha b hb=>?_];rcases Ak.mp hb with e | e
 .subst e;show h1 a ha
 .have:=h1 a ha;have:=h2 b e;lia
theorem ox Å4{xs:List α}{p i:Nat}{x y:α}(hp:p<=È) (h:(ġ++x::Ĭ)[i]?=↑y):(i=p/\y=x)\/(i<p/\xs[i]?=↑y)\/(p<i/\xs[i-1]?=↑y):=by
 have hl:(ġ).length=p:=by rw[Cc];lia
 rcases DE i p with q | q | q
 .rw[Cr ⋯,List.getElem?_take,ī q] at h;show .inr (.inl #[q,h])
 .subst q;rw[Bx ⋯,hl] at h;simp at h;show .inl #[rfl,h.symm]
 .rw[Bx ⋯,hl] at h;obtain⟨d,hd⟩:∃ d,i-p=d+1:=#[i-p-1,⋯];rw[hd] at h;simp![C5,List.getElem?_drop] at h;exact .inr (.inr #[q,?_]);rw[show i-1=p+d by lia];show h
theorem Tab.put Ö {h:Int}{j:Nat}(F:dD t h j):
  (Ď).2<=Ē/\ť/\Tab (Ď).1 (hs.take (Ď).2++h::hs.drop (Ď).2):=by
 let#[b1,b2,b3]:=ju (xs:=à) (j:=j) T.wN;let#[fn,K,k1,k2]:=F;have e2:(Ď).2=ğ:=rfl;have e1:ť:=by
  change ({ t with place:=Ë,dummies:=_ }:đ)=_;rw[Ã3,e2]
 have pl:ů=t.place.toList.take (ğ)++j::t.place.toList.drop (ğ):=Ã8 ė _;have old:∀ x∈ Ì,x∈ ů:=λ x hx=>by
  rw[pl];have:=CA (ğ) Ì;rw[<- this] at hx;rcases AG.mp hx with q | q
  .show Bm _ q
  .show AY _ (Av _ q)
 rw[e2] at e1 ⊢;exact#[by rw[<- T.len];show b1,e1,?_];rw[e1];exact#[T.mask,T.rW,?_,?_,?_,?_]
 .change (Ë).size=_;rw[<- A3,pl];simp[T.len]
 .change uV ů;rw[pl];exact Uo T.wN (λ x hx=>?_) (λ x hx=>?_)
  .let#[i,hi,e]:=BP.mp hx;rw[Cc] at hi;rw[List.getElem_take,Cw] at e;rw[<- e];show b2 i (by simp at hi;lia) ⋯
  .let#[i,hi,e]:=BP.mp hx;rw[DT] at hi;rw[List.getElem_drop,Cw] at e;have h3:=b3 (ğ+i) (by simp at hi;lia) ⋯;have hm:x∈ Ì:=DM hx;have Az:x≠j:=λ q=>fn (q▸hm);lia
 .intro x hx;change x<=Ê;have hx:x∈ ů:=hx;rw[pl] at hx;rcases AG.mp hx with q | q
  .show T.top x (Ek q)
  .rcases Ak.mp q with e | e
   .subst e;rw[<- k1];show iu ė _
   .show T.top x (DM e)
 .intro i g x hg hx;change ∃ k,(way Ê g k).j=x/\∀ k'<k,(way Ê g k').j∈ ů;have hx:(Ë)[i]?=↑x:=hx;rw[<- Bf,pl] at hx;have Ap:ğ<=t.place.toList.length:=by exists b1
  have ED:ğ<=Ē:=by rw[<- T.len];show b1
  rcases ox Ap hx with ⟨c1,c2⟩ | ⟨c1,c2⟩ | ⟨c1,c2⟩ <;> rcases ox ED hg with ⟨d1,d2⟩ | ⟨d1,d2⟩ | ⟨d1,d2⟩ <;> first
   | lia
   | (subst c2 d2;show#[K,k1,λ k' hk=>old _ (k2 k' hk)])
   | (let#[k,g1,g2]:=T.nr _ g x d2 (by rw[<- Bf];show c2)
      show#[k,g1,λ k' hk=>old _ (g2 k' hk)])
def qh (Ï:Û) (j:Nat):Prop:=∃ k,ĕ
theorem Li {P:Nat->Bool}{n k:Nat}(h:(č n).find? P=↑k):k<n/\P k=true/\∀ k'<k,P k'=ÿ:=by
 let#[h1,as,bs,h2,h3]:=List.find?_eq_some_iff_append.mp h;have hlen:as.length=k:=by
  have e:(č n)[as.length]?=↑k:=by rw[h2];simp
  have:=(AN.mp e)
  let#[q1,q2]:=this;rw[Eo] at q2;show q2
 have hk:k<n:=by
  have:k∈ č n:=by rw[h2];simp
  show AQ.mp this
 exact#[hk,h1,λ k' Gm=>?_];have:k'∈as:=by
  have e:(č n)[k']?=↑k':=List.getElem?_range ⋯;rw[h2,Cr ⋯] at e;show Bh e
 have:=h3 k' this;exists this
def getD_none {Ï:Û}{j:Nat}(h:((Á4 j ↑0).isNone)=true):Ï[j]?=↑none:=by
 unfold Array.getD at h;split at h
 .rename_i hj;have e:Ï[j]=none:=by exists h
  rw[BC hj,e]
 .simp at h
def ZS {Ï:Û}{j:Nat}(hj:j<Ŝ) (h:((Á4 j ↑0).isNone)=ÿ):qh Ï j:=by
 unfold Array.getD at h;rw[dif_pos hj] at h;cases q:Ï[j] with
 | none=>simp[q] at h
 | some k=>show#[k,by rw[BC hj,q]]
theorem ZU Å5 (hsz:Ŝ=M+1) (h:Int):∀ (fuel n kn:Nat),way M h kn=pU M á (zY M h n).2->(∀ q<kn,qh Ï (way M h q).j)->
  (∃ n',n<=n'/\n'<n+fuel/\Ï[(zY M h n').1]?=↑none)->
  ∃ j q,layClean.free M Ï fuel á (zY M h n).2=↑j/\(way M h q).j=j/\Ï[j]?=↑none/\Ã1
 | 0,n,kn,_,_,#[n',h1,h2,_]=>⋯
 | fuel+1,n,kn,hk,ho,#[n',h1,h2,h3]=>by
  have hre:Ų+1-á=Ų-á+1:=by unfold runEnd;split <;> lia
  have Gj:∀ m,m<=Ų-á->(way M h (kn+m)).j=á+m:=λ m hm=>by rw[iY M ė h kn hk m hm]
  unfold layClean.free;cases hf:(č (Ų+1-á)).find? (λ k=>(Á4 (á+k) ↑0).isNone) with
  | some k=>
   let#[f1,f2,f3]:=Li hf;exact#[_,kn+k,rfl,Gj k ⋯,getD_none f2,λ q' hq=>?_];rcases Bw q' kn with w | w
   .show ho q' w
   .have e:(way M h q').j=á+(q'-kn):=by
     have:=Gj (q'-kn) ⋯
     rwa [show kn+(q'-kn)=q' by lia] at this
    have hle:=iu M h q';rw[e] at hle ⊢;show ZS ⋯ (f3 (q'-kn) ⋯)
  | none=>
   have f3:=List.find?_eq_none.mp hf;have occ:∀ m,m<=Ų-á->qh Ï (á+m):=λ m hm=>by
    have hle:=iu M h (kn+m);rw[Gj m hm] at hle;show ZS ⋯ (Bool.eq_false_iff.mpr (f3 m (AQ.mpr ⋯)))
   have Az:n'≠n:=λ e=>by
    subst e;let#[k,Gm]:=occ 0 (Be _);rw[Nat.add_zero] at Gm;rw[Gm] at h3;cases h3
   ext æ;let#[j,q,r1,r2]:=ZU M Ï hsz h fuel (n+1) _ (bq M h n kn hk) (λ q hq=>by
    rcases Bw q kn with w | w
    .show ho q w
    .have e:=Gj (q-kn) ⋯;rw[show kn+(q-kn)=q by lia] at e;rw[e];show occ _ ⋯) #[n',⋯,⋯,h3]
   show#[j,q,r1,r2]
structure Lay (M:Nat) (hs:Ä) (Ï:Û) (m:Nat):Prop where
 size:Ŝ=M+1
 below:∀ (j k:Nat),ĕ->k<m
 each:∀ (k:Nat),k<m->∃ (j:Nat),ĕ
 once:∀ (i j k:Nat),Ï[i]?=↑↑k->ĕ->i=j
 nr:∀ (j k:Nat) h,ĕ->hs[k]?=↑h->∃ q,(way M h q).j=j/\Ã1
theorem Lay.none ħ {hs:Ä}{Ï:Û}{m:Nat}Å6:Â6:=by
 rcases Â3 (Â6) with q | q
 .show q
 .exfalso;have AM:∀ (e:Nat),e<=M->∃ (k:Nat),Ï[e]?=↑↑k:=λ e he=>by
   have Ar:e<Ŝ:=by rw[ŝ];lia
   cases w:Ï[e] with
   | none=>show absurd #[e,he,by rw[BC Ar,w]] q
   | some k=>show#[k,by rw[BC Ar,w]]
  have:=aH (xs:=(č (M+1)).map λ e=>((Ï[e]?).getD Ĳ).getD 0) (ys:=č m) (by
   exact C7.mpr (List.Pairwise.imp_of_mem ?_ Eh);intro a b ha hb Az e;exact Az ?_;let#[k,hk]:=AM a (by have:=AQ.mp ha;lia);let#[k',Gm]:=AM b (by have:=AQ.mp hb;lia);rw[hk,Gm] at e;simp at e;subst e;show L.once a b k hk Gm) (λ x hx=>by
   ext Ś;let#[k,hk]:=AM e (by have:=AQ.mp he;lia);rw[hk];show AQ.mpr (L.below e k hk))
  simp at this;lia
def ka Å4{xs:Array α}{j i:Nat}{a b:α}(h:(xs.setIfInBounds j a)[i]?=↑b):(i=j/\b=a)\/(i≠j/\xs[i]?=↑b):=by
 rw[DD] at h;by_cases e:j=i
 .subst e;rw[ī rfl] at h;split at h
  .cases h;show .inl #[rfl,rfl]
  .cases h
 .rw[ć e] at h;show .inr #[λ q=>e q.symm,h]
def Lay.step ħ {hs:Ä}{Ï:Û}{m:Nat}{h:Int}Å6 (hh:hs[m]?=↑h):
  ∃ j,ú=↑j/\Lay M hs (Ė) (m+1):=by
 let#[e,e1,e2]:=L.none hM hm;let#[n',n1,n2]:=Zj M hM h e e1;let#[j,q,r1,r2,r3,r4]:=ZU M Ï ŝ h (turns M) 0 0 rfl (λ q hq=>⋯) #[n',⋯,ſ,by rw[n2];show e2];have hj:j<Ŝ:=(ĳ r3).1;have keep:∀ x,qh Ï x->qh (Ė) x:=λ x #[k,hk]=>by
  have Az:j≠x:=λ w=>by subst w;rw[r3] at hk;cases hk
  show#[k,by rw[DD,ć Az];show hk]
 have self:(Ė)[j]?=↑↑m:=by rw[DD,ī rfl,ī hj]
 exact#[j,r1,#[by simp[ŝ],λ x k hx=>?_,λ k hk=>?_,λ x y k hx hy=>?_,λ x k g hx hg=>?_]]
 .rcases ka hx with ⟨_,w⟩ | ⟨_,w⟩
  .cases w;lia
  .have:=L.below x k w;lia
 .rcases Bw k m with w | w
  .let#[x,hx]:=L.each k w;have Az:j≠x:=λ w=>by subst w;rw[r3] at hx;cases hx
   show#[x,by rw[DD,ć Az];show hx]
  .have:k=m:=⋯;subst this;show#[j,self]
 .rcases ka hx with ⟨w1,w⟩ | ⟨w1,w⟩ <;> rcases ka hy with ⟨v1,v⟩ | ⟨v1,v⟩
  .lia
  .cases w;have:=L.below y _ v;lia
  .cases v;have:=L.below x _ w;lia
  .show L.once x y k w v
 .rcases ka hx with ⟨w1,w⟩ | ⟨w1,w⟩
  .cases w;rw[hh] at hg;cases hg;subst w1;show#[q,r2,λ q' hq=>keep _ (r4 q' hq)]
  .let#[q,g1,g2]:=L.nr x k g w hg;show#[q,g1,λ q' hq=>keep _ (g2 q' hq)]
theorem Zn ħ {hs:Ä}(hl:Ē<=M+1):∀ (E8:Ä) (Ï:Û) (m:Nat),m<=Ē->hs.drop m=E8->Lay M hs Ï m->
  ∃ GI,E8.foldl (λ acc h=>do
   let (Ï,k) <- acc
   let j <- ú
   pure (owner.setIfInBounds j ↑k,k+1)) ↑(Ï,m)=↑(GI,Ē)/\Lay M hs GI Ē
 | [],Ï,m,hl2,hd,L=>by
  have hm:Ē<=m:=List.drop_eq_nil_iff.mp hd;have e:m=Ē:=⋯;subst e;show#[Ï,rfl,L]
 | h::E8,Ï,m,hl2,hd,L=>by
  have hm:hs[m]?=↑h:=by
   have:=congrArg (λ l=>l[0]?) hd;exists this
  have Ar:m<Ē:=(AN.mp hm).1;let#[j,j1,j2]:=L.step hM ⋯ hm;have GP:hs.drop (m+1)=E8:=by
   have:=congrArg List.tail hd;exists this
  let#[o',h1,h2]:=Zn hM hl E8 _ (m+1) ⋯ GP j2;exact#[o',?_,h2];rw[C8,<- h1];change _=_;congr 1;change ((ú).bind λ j=>↑(Ė,m+1))=_;rw[j1];rfl
theorem Nl (M:Nat) (hs:Ä):Lay M hs (Array.replicate (M+1) Ĳ) 0:=by
 have no:∀ (j k:Nat),(Array.replicate (M+1) (Ĳ:Ŏ Nat))[j]?≠↑↑k:=λ j k h=>by
  rw[Array.getElem?_replicate] at h;split at h <;> cases h
 show#[#[],λ j k h=>absurd h (no j k),λ k hk=>⋯,λ i j k h=>absurd h (no i k),λ j k h e=>absurd e (no j k)]
theorem Nm ħ ŭ:∃ Ï,layClean M hashes=↑ Ï/\Lay M hashes.toList Ï hashes.size:=by
 let#[o,h1,h2]:=Zn hM (hs:=hashes.toList) (by exists hl) hashes.toList _ 0 (Be _) #[] (Nl M _);exact#[o,?_,by exists h2];unfold layClean;rw[<- Array.foldl_toList,h1];rfl
def lives Å5:List (Nat×Nat):=(č (M+1)).filterMap λ j=>(Á4 j Ĳ).map (j,·)
theorem getD_some {Ï:Û}{j k:Nat}:Á4 j Ĳ=↑k↔ ĕ:=by
 unfold Array.getD;split
 .rename_i h;rw[BC h];simp
 .rename_i h;rw[CB ⋯];simp
theorem qC {M:Nat}{Ï:Û}(hs:Ŝ=M+1) {j k:Nat}:(j,k)∈lives M Ï ↔ ĕ:=by
 unfold lives;rw[Es];constructor
 .rintro⟨x,hx,e⟩;let#[y,e1,e2]:=AF.mp e;cases (e2);show getD_some.mp e1
 .intro h;have hj:=(ĳ h).1;show#[j,AQ.mpr ⋯,by rw[getD_some.mpr h];rfl]
def Zd Å5:(lives M Ï).Pairwise λ a b=>a.1<b.1:=by
 unfold lives;rw[List.pairwise_filterMap];exact List.Pairwise.imp ?_ List.pairwise_lt_range;intro a b BX x hx y hy;let#[_,_,e1]:=AF.mp hx;let#[_,_,e2]:=AF.mp hy;subst e1 e2;show BX
def Zo ħ (finger moves:Nat) (led plain:Bool) ŭ:
  ∃ t order,laid M finger moves led plain hashes=↑(t,order)/\Ê=M/\t.finger=finger/\t.led=led/\Ş=plain/\order.toList.Perm (č hashes.size)/\Tab t (order.toList.map Ã9):=by
 let#[Ï,h1,L]:=Nm hM hashes hl;exact#[_,_,by unfold laid;rw[h1];rfl,rfl,rfl,rfl,rfl,?_,?_]
 .change (ó ş).toArray.toList.Perm _;rw[C4];exact (Eg ?_ Eh).mpr λ k=>?_
  .exact C7.mpr (List.Pairwise.imp_of_mem ?_ (Zd M Ï));intro a b ha hb BX e;have h2:=(qC ŝ (j:=a.1) (k:=a.2)).mp ha;have h3:=(qC ŝ (j:=b.1) (k:=b.2)).mp hb;have e:a.2=b.2:=e;rw[e] at h2;have:=L.once ė _ h2 h3;lia
  .rw[AQ];constructor
   .intro h;let#[#[j,k'],h2,rfl]:=Aw.mp h;show L.below j _ ((qC ŝ).mp h2)
   .intro h;let#[j,hj]:=L.each k h;show Aw.mpr #[(j,k),(qC ŝ).mpr hj,rfl]
 .have pl:∀ x,x∈ ó û ↔qh Ï x:=λ x=>by
   constructor
   .intro h;let#[#[j,k],h2,rfl]:=Aw.mp h;show#[k,(qC ŝ).mp h2]
   .rintro⟨k,hk⟩;show Aw.mpr #[(x,k),(qC ŝ).mpr hk,rfl]
  exact#[hM,rfl,?_,?_,?_,?_]
  .change (ó û).toArray.size=((ó ş).toArray.toList.map _).length;simp
  .change uV Š;rw[C4];show C7.mpr (Zd M Ï)
  .intro x hx;change x<=M;have hx:x∈ Š:=hx;rw[C4] at hx;let#[k,hk]:=(pl x).mp hx;have:=(ĳ hk).1;rw[ŝ] at this;lia
  .intro i g x hg hx;have hx:(ó û).toArray[i]?=↑x:=hx;have hg:((ó ş).toArray.toList.map Ã9)[i]?=↑g:=hg;rw[List.getElem?_toArray,AE] at hx;rw[C4,AE,AE] at hg;let#[p,p1,p2]:=AF.mp hx;rw[p1] at hg;simp![Option.map_some,Option.some.injEq] at hg;let#[j,k]:=p;cases p2;have hm:=(qC ŝ).mp (Bh p1);have hk:=L.below ė hm;let#[q,q1,q2]:=L.nr _ k g hm (by rw[<- hg];simp[hk]);exact#[q,q1,λ q' hq=>?_];change _∈ Š;rw[C4];show (pl _).mpr (q2 q' hq)
section
variable {É}{A:š}{Å7}{Ġ}
abbrev rk Ą:HeapKind ì (Ä):=tupleKind (Á)
def items_int {ks:Ä}{vs:Ah}(h:ItemsAre (Á) ks vs):∀ v∈vs,∃ n t,v=.int n t:=by
 induction h with
 | nil=>intro v hv;cases hv
 | cons h1 _ ih=>
  intro v hv;rcases Ak.mp hv with rfl | hv
  .let#[t,e]:=Value.isInt_shape h1;show#[_,t,e]
  .show ih v hv
def aK {ks:Ä}ø Ě(hk:ā (Á) ä ks a) (h:Q ÿ s):ô Ç (ofAClassStatement 8 Ä0) į:=by
 ext Ľ;unfold ofAClassStatement;exact gV (zaF hT ?_);change ô ė (pure true >>= _) ė s;exact gV Ć;ext Č;exact gV (zaA ho hd ?_);ext æ;ext Õ
 .ext İ;let#[m,t,rfl]:=AM v Al;change ô ė (pure ÿ >>= _) ė _;exact gV Ć;ext Ģ;show Ad #[rfl,rfl,Ţ]
 ext ç
def NU {ks:Ä}ø Ě(hk:ā (Á) ä ks a) (h:Q true s):ô Ç (hashByValue 8 Ä0) į:=by
 ext Ľ;unfold hashByValue;exact gV (wpAny_specialOf hT F.slot_tuple_hash.lookup ?_);ext æ;exact gV (zaA ho hd ?_);ext Õ
 .ext İ;let#[m,t,rfl]:=AM v Al;change ô ė (pure true >>= _) ė _;exact gV Ć;ext Č;show Ad #[rfl,rfl,Ţ]
 ext ç
def Va {ks:Ä}{b:Addr}Ě(hk:ā (Á) ä ks b) (l:Ah) (hl:∀ v∈l,Â7) (h:Q ÿ s):
  ô Ç (searchCouldBeSeen (ð b) l) į:=by
 unfold searchCouldBeSeen;exact gV ?_;exact wpAny_forIn_list _ (λ E8 r s'=>r.1=none/\s'=s/\∀ v∈E8,Â7) _ ?_ ?_ ė #[rfl,rfl,hl]
 .ext İ;let#[k,c,rfl,hc]:=AM v Al;have Fi:∀ u∈E8,∃ k c,u=Ä1 c/\ā (Á) s'.heap k c:=Ţ;ext æ;by_cases e:(b == c||(carriedByValue (ð b)&&carriedByValue (ð c)))=true
  .rw[ī e];show Ad #[rfl,rfl,Fi]
  .rw[ć e];exact gV ((rk ì).quiet hk ?_);ext Č;exact gV ((rk ì).quiet hc ?_);ext Č;exact gV (aK hk ?_);ext Ģ;exact gV (aK hc ?_);ext Ģ;show Ad #[rfl,rfl,Fi]
 ext ç
structure qo (h:Heap) (es:Ò) (t:đ) (xs:Ā):Prop where
 es:ź=ě λ e=>À2
 is:∀ e∈xs,ā (Á) h e.1 e.2
 tab:Tab t (þ)
 mr:È<=Ê
theorem qo.fits Ń:ų:=by
 have hl:Ø=È:=Ă
 have h1:=X.tab.len;rw[AD] at h1;have h2:=X.mr;unfold SetTable.fits ŏ;rw[X.tab.rW,hl,h1];simp;lia
def qo.at Ń {i:Nat}{e:Ä ×Addr}(he:xs[i]?=↑e):es[i]?=↑ À2:=by
 rw[<- Bf,X.es,AE,he];rfl
theorem bp ø{o:Obj}Ã{xs:Ā}{key:Ä}{b:Addr}{Q:SetFound->Þ}
  Á1 (ho:ċ a=↑o) (hd:o.data=ţ) (X:qo ñ ä es t xs) (hb:ā (Á) ä key b)
  (h1:key∈ Í->Q (.there none) s) (h2:key∉ Í->∀ j,dD t õ j->Q (.free j ÿ) s):
  ∀ (fuel k:Nat) (Gg:Ŏ Probe),Gg.getD (t.probeStart õ)=way Ê õ k->(∀ m<k,ę)->(∃ K,k<=K/\K<k+fuel/\K<10*(Ê+15)/\(way Ê õ K).j∉ Ì/\∀ m<K,(way Ê õ m).j∈ Ì)->
   ô Ç (À3 À1 Gg) į
 | 0,k,Gg,_,_,#[K,q1,q2,_]=>⋯
 | fuel+1,k,Gg,AL,IU,#[K,q1,q2,q3,q4,q5]=>by
  have T:=X.tab;have EH:t.gaveWay=ÿ:=by
   unfold SetTable.gaveWay;rcases T.mask with e | e | e <;> rw[e] <;> rfl
  unfold À3;ext Ã0;rw[EH];ext Ģ;have hA:∀ ŋ g,(þ)[i]?=↑g->((es[i]?).map û).getD 0=g:=λ i g hg=>by
   ext Á9;rw[X.at e1];show e2
  let#[k1,g1,g2,g3]:=ZO T (hashAt:=λ i=>((es[i]?).map û).getD 0) hA õ (10*turns Ê) k #[K,q1,ſ,q4];rw[AL];have look:∀ ŋ g,(þ)[i]?=↑g->∃ e,xs[i]?=↑e/\Â e.1=g:=λ i g hg=>by
   ext Á9;show#[e,e1,e2]
  have FT:∀ m<k1,ę:=λ m hm=>by
   rcases Bw m k with c | c
   .show IU m c
   .let#[i,g,p1,p2,p3]:=g2 m c hm;let#[e,e1,e2]:=look i g p2;show#[i,e,p1,e1,λ q=>p3 (by rw[<- e2,q])]
  rcases g3 with ⟨n1,n2⟩ | ⟨i,n1,n2,n3⟩
  .have n2':t.probe _ õ (way Ê õ k)=_:=n2;simp![SetTable.probe] at n2' ⊢
   erw [n2]
   ext æ;exact Ad (h2 (λ hm=>?_) _ #[n1,k1,rfl,λ m hm=>?_])
   .let#[e,he,ek]:=Aw.mp hm;let#[i,hi]:=Cb.mp he;have hh:(þ)[i]?=↑ õ:=by rw[AE,hi,<- ek];rfl
    have hil:i<ģ:=by rw[T.len];show (AN.mp hh).1
    let#[kk,w1,w2]:=T.nr i ė hh (BC hil);rcases DE kk k1 with c | c | c
    .let#[i',e',p1,p2,p3]:=FT kk c;rw[w1] at p1;have:i=i':=by
      rw[<- below_at T.wN (BC hil),<- below_at T.wN p1]
     subst this;rw[hi] at p2;cases p2;show p3 ek
    .subst c;rw[w1] at n1;show n1 #[]
    .show n1 (w2 k1 c)
   .let#[i',e',p1,_]:=FT m hm;show Bh (by rw[Bf];show p1)
  .simp![SetTable.probe]
   erw [n3]
   ext æ;let#[e,e1,e2]:=look i _ n2;have D_:=X.at e1;have hey:=X.is e (Bh e1);have main:ô Ç (holding [ý] (eqBool (ð e.2) (ð b)) >>= λ equal=>setState a >>= λ x=>match x with
     | (FC,_,t')=>if (true&&equal)=true then pure (SetFound.there none) else
      match t'.sameMemory t.moves Ê with
      | some same=>
       have jp:=λ FE=>match FE with
        | none=>do
         rule "set.search.anew"
         À3 À1 none
        | some i'=>if equal=true then pure (SetFound.there ↑i') else À3 À1 ↑(way Ê õ (k1+1))
       match if same=true then t'.slot (way Ê õ k1).j else Slot.empty with
       | .live i'=>match FC[i']? with
        | some (_,y')=>do
         let r <- isSame y' (ð e.2)
         let FE <- pure (if r=true then ↑i' else none)
         jp FE
        | none=>do
         let FE <- pure none
         jp FE
       | _=>do
        let FE <- pure none
        jp FE
      | _=>Ä2 "set.changed-during-lookup:is-the-new-block-at-the-old-address") į:=by
    exact gV (za6 ((rk ì).eqBool hu hey hb ?_));ext Ã0;by_cases hk:e.1=key
    .rw[za2 hk];simp![DG,Ż];show Ad (h1 (Aw.mpr #[e,Bh e1,hk]))
    .rw[za3 hk];simp![CT,A9,if_false];have sm:t.sameMemory t.moves Ê=↑true:=by unfold SetTable.sameMemory;simp
     rw[sm];ext æ;rw[ī rfl,T.live n1];ext æ;rw[D_];ext æ;exact gV (wpAny_isSame_ref_self ?_);exact gV Ć;rw[ī rfl];ext æ;have hKk:k1<K:=by
      rcases DE K k1 with c | c | c
      .let#[i',e',p1,_]:=FT K c;show absurd (Bh (by rw[Bf];show p1)) q4
      .subst c;show absurd (Bh (by rw[Bf];show n1)) q4
      .show c
     exact bp hu ho hd X hb h1 h2 fuel (k1+1) _ rfl (λ m hm=>?_) #[K,⋯,⋯,q3,q4,q5];rcases Bw m k1 with c | c
     .show FT m c
     .have:m=k1:=⋯;subst this;show#[i,e,n1,e1,hk]
   rw[D_];by_cases hl:t.led=true
   .rw[hl];ext Č;show main
   .have Gx:t.led=ÿ:=by exists hl
    rw[Gx];simp![CZ,Ż];exact gV (Va hb _ (λ v hv=>?_) ?_)
    .let#[p,hp,rfl]:=Aw.mp hv;rw[Array.toList_filter,A7,X.es] at hp;let#[#[e',he',rfl],_]:=(And.intro (Aw.mp hp.1) hp.2)
     show#[e'.1,e'.2,rfl,X.is e' he']
    .ext Ģ;show main
structure qe Ą (h:Heap) (a:Addr) (xs:Ā) (led:Bool):Prop where
 ex:∃ es ep t,Ú/\qo ñ h es t xs/\Â8
 nd:Á5
def iB {h h':Heap}{ks:Ä}{b a:Addr}Ã{c:Ĵ}{d:Ŏ Addr}{sl:Array (Ŏ Ĵ)}(x:ā (Á) h ks b) (ho:Ä3 a=↑{ cls:=c,dict:=d,data:=ţ,slots:=sl }) (hs:ľ a h h'):ā (Á) h' ks b:=by
 let#[o',items,n,FL,hc,GP,hi]:=x;have Az:b≠a:=by
  rintro rfl;obtain rfl:o'=_:=Bb (FL.symm.trans ho);cases GP
 show#[o',items,n,(hs.2 b Az).trans FL,hc,GP,hi]
theorem kh Ã6 ø{es FC:Ò}{ep:Nat}{t t':đ}(ho:Ú):(h.update a (Ņ FC t')).get? a=↑{ cls:=ê,dict:=none,data:=.set FC (ep+1) t' }:=by
 have e:Ņ FC t' { cls:=ê,dict:=none,data:=ţ }={ cls:=ê,dict:=none,data:=.set FC (ep+1) t' }:=putSet_of FC t' rfl;have:=zaG (Ņ FC t') ho (by rw[e];rfl);rw[e] at this;show this
theorem gs {α β:Type}(l:List α) (f:α->β) (d:β):∀ (order:List Nat),(∀ k∈order,k<l.length)->order.map (λ k=>(l.map f).getD k d)=(order.filterMap λ k=>l[k]?).map f
 | [],_=>rfl
 | k::order,h=>by
  have hk:=h k Al;have ih:=gs l f d order λ j hj=>h j (Av _ hj);rw[Ay,Dj,A5 hk];ext æ;rw[Ay,ih];congr 1;simp[hk]
def Us ø Ã{xs:Ā}Â0{wanted M:Nat}{Q:Unit->Þ}
  (ho:ċ a=↑{ cls:=ê,dict:=none,data:=ţ }) (X:qo ñ ä es t xs) (BH:t.led=led) (Ap:Ş=true) ň (C1:Á5)
  (h:∀ h' Fg,ľ a ä h'->qe ì h' a Fg led->Fg.Perm xs->Q Unit.unit { s with heap:=h' }):ô Ç (setRelay a wanted) į:=by
 have hlen:Ø=È:=Ă
 have EW:(Œ).toList=þ:=by rw[Ej,X.es,A0];rfl
 ext Ã2
 ext Ñ
 unfold setRelay;exact ŉ;ext æ;rw[ć (by rw[hw];rcases hM with e | e | e <;> rw[e] <;> decide)];have hr:À0:=by
  ext ō
 rw[hr];have BV:(Ý).toList=(è).map λ e=>À2:=by
  ext Ĺ;rw[<- Bf,X.es,AE]
 ext Ĝ;have BR:(Ý).size=Ø:=by
  rw[<- A3,BV,AD,Ĥ,hlen]
 exact gV (m:=_) ?_;change ô ė (do
  let ↑(t,order):=↑(t',order) | Ä2 "internal:set-table-without-room"
  let FC:=Ý
  if FC.size != Ø then Ä2 "internal:set-table-lost-an-element"
  pure (FC,t)) ė _
 ext æ;rw[ć (by rw[BR];simp)];exact Ad ?_;have BS:(Ý).size<=Ŵ:=by
  rw[BR,hlen];ext Ĩ;rcases hM with e | e | e <;> subst e <;> lia
 exact ĭ;have sb:=ö ä a (Ņ (Ý) t');exact h ė sb #[#[_,ep+1,t',kh ho,#[BV,λ e he=>iB (X.is e (Fd.mem_iff.mp he)) ho sb,?_,?_],by rw[h4];show BH,by rw[h5];show Ap,?_],(Fd.map _).nodup_iff.mpr C1] Fd
 .rw[<- gs xs (λ e=>Â e.1) 0 order.toList Ar,<- EW];show h7
 .rw[Ĥ,h2];lia
 .rw[Ĥ,h2];show AZ
theorem bh (n:Nat) (M:Nat) (hM:vE M) (h1:n*5<M*3) (h2:M*3<=(n+1)*5) (hn:n<70):∃ M',vE M'/\sizeAbove (grown (n+1))=M' + 1/\(n+1)*5<M'*3:=by
 rcases hM with e | e | e <;> subst e
 .have:n=4:=⋯;subst this;show#[31,.inr (.inl rfl),AR,⋯]
 .have:n=18:=⋯;subst this;show#[127,.inr (.inr rfl),AR,⋯]
 .lia
def J2 ø{xs:Ā}{key:Ä}{b:Addr}Â0 Ě Á1 (S:qe ì ä a xs led) (hb:ā (Á) ä key b) (hn:È<70)
  (h:∀ h' Fg r,ľ a ä h'->qe ì h' a Fg led->(Ŀ)->Q r { s with heap:=h' }):
  ô Ç (Â4 a (ð b) õ) į:=by
 let#[ŵ,C1]:=S;have hlen:Ø=È:=Ă
 unfold Â4 setAddHashedIn;exact za6 (ŉ);ext æ;rw[ć (by simp[byScan,Value.scannable])];let#[K,k1,k2,k3]:=X.tab.first (by rw[AD];show X.mr) õ;have hmk:Ê<=127:=Ŷ
 exact gV ?_;unfold setSearch;exact bp (key:=key) (b:=b) hu ho rfl X hb (λ hm=>?_) (λ hm j F=>?_) 100000 0 none rfl (λ m hm=>⋯) #[K,⋯,⋯,k1,k2,k3]
 .ext æ;exact Ad ?_;have:=h ä xs ÿ #[rfl,λ _ _=>rfl] #[ŵ,C1] (.inl #[hm,rfl]);show this
 .ext æ;exact ŉ;ext æ;let#[p1,p2,p3]:=X.tab.put F;ext ř
  have Cf:(Ď).1.mask=Ê:=by rw[p2]
  ext Á2
  ext ő;rw[CG];simp![Ż];exact gV (NU hb ?_);simp![Ż];let FN:=ġ++(key,b)::Ĭ
  have Fd:FN.Perm (xs++[(key,b)]):=by
   have e:ġ++Ĭ=xs:=CA p xs;have:FN.Perm ((key,b)::(ġ++Ĭ)):=List.perm_middle;ext ĸ
  ext Â1
  have Gy:(Ð).toList=FN.map λ e=>À2:=by
   rw[Ã8,X.es];ext Ŭ
  have GK:(Ð).size=È+1:=by rw[<- A3,Gy,AD,F7]
  have BS:(Ð).size<=Ŵ:=by
   rw[GK];ext Ĩ;lia
  exact gV (ĭ);have sb:=ö ä a (Ņ (Ð) t1);have HA:=kh (FC:=Ð) (t':=t1) ho;have hm7:7<=Ê:=Ŷ
  have X1:qo ñ (s.heap.update a (Ņ (Ð) t1)) (Ð) t1 FN:=by
   exact#[Gy,λ e he=>?_,?_,by rw[F7,Cf];lia]
   .rcases AG.mp (Fd.mem_iff.mp he) with q | q
    .show iB (X.is e q) ho sb
    .cases Ä5;show iB hb ho sb
   .have:FN.map (λ e=>Â e.1)=(þ).take p++Â key::(þ).drop p:=by ext Ŭ
    rw[this];show p3
  have GN:(FN.map û).Nodup:=by
   ext ï
  by_cases hf:t1.tooFull=true
  .rw[hf];simp![CZ,DG,Ż];have FO:t1.fill=È+1:=by
    ext Ä4
   have FJ:Ê*3<=(È+1)*5:=by
    have:=hf;ext â
   let#[M',g1,g2,g3]:=bh È Ê X.tab.mask AZ FJ hn;rw[hlen];exact gV (Us (led:=led) HA X1 Ar CG g1 g2 (by rw[F7];show g3) GN λ h' Fg sb' S' pm=>?_);exact Ad ?_;show h h' Fg true (sb.trans sb') S' (.inr #[hm,pm.trans Fd])
  .have FZ:t1.tooFull=ÿ:=by exists hf
   ext Á3;exact Ad ?_;have FO:t1.fill=È+1:=by
    ext Ä4
   have FJ:(È+1)*5<Ê*3:=by
    have:=FZ;ext â
   show h _ FN true sb #[#[_,ep+1,t1,HA,X1,Ar,CG,by rw[F7,Cf];show FJ],GN] (.inr #[hm,Fd])
end
def sJ Ŗ:Bool:=! Å
def wM Ŗ:Obj:={ cls:=ê,dict:=none,data:=.set Ŧ 0 (.fresh 0 0 (sJ w)) }
section
variable {É}{A:š}{Å7}{Ġ}
set_option À4 3200000 in
def Kk (a:Ĵ) {Q:Af}(h:Q Ä6 { s with heap:=ß Ő }):
  codeAny Ç (.call (Ã4 "set.__new__") Â9) (wants Q E) s:=by
 exact codeAny_of_tree ?_;change ô _ A.in1 (checkBuiltinCall "set.__new__" Â9 >>= λ _=>again (Ã4 "set.__new__" Â9)) ė s;exact gV (wpAny_of_eq (F.newCall_set_1 a) (Ad #[À5 F.plain_set_new _,ĺ F.entry_set_new ?_]));rw[ĵ F.plain_set_new _];unfold Builtin.«set.__new__» Builtin.Frozenset.newClass newSet setsByText;have sub:=sub_set_self;let#[hp,g,d,tk,os]:=s;ext æ
 wp_walk
 exact zaK Ć;ext æ;simp![newObj];show gV (wpAny_alloc (Ad (Ad h)))
def VZ Ã6 ø(ho:Ä3 a=↑ Ő):qe ì h a [] (sJ w):=
 #[#[Ŧ,0,_,ho,#[rfl,λ e he=>(by cases he),ē,#[]],rfl,rfl,by change 0*5<7*3;lia],.nil]
end
end ST
namespace ST
open PySem ņ ď
section
variable {κ β:Type}[DecidableEq κ]{val:κ->β->Ĵ}{Aa:AB}{ks:List κ}{i:Nat}{xs Fg:Ğ}
structure Up Ž ŋ (xs:Ğ):Prop where
 own:∀ e∈xs,∃ j,j<i/\Aa[j]?=↑(val e.1 e.2)/\ks[j]?=↑e.1
 all:∀ (j:Nat) r,j<i->ks[j]?=↑r->r∈ Í
theorem gK:∀ (l m:List κ),l.Nodup->(∀ x∈l,x∈m)->l.length<=m.length
 | [],m,_,_=>Be _
 | x::l,m,hn,hs=>by
  have h1:=Bu.mp hn;have hx:=hs x Al;have:=gK l (m.erase x) h1.2 λ z hz=>(List.mem_erase_of_ne (λ e:z=x=>h1.1 (by rw[<- e];show hz))).mpr (hs z (Av _ hz));rw[List.length_erase_of_mem hx] at this;have:=List.length_pos_of_mem hx;simp![AX];lia
def Up.len (U:Up ĩ i xs) (nd:Á5):È<=i:=by
 have:=gK (ě λ e=>↑e.1) ((č i).map λ j=>ks[j]?) (by
  have:(ě λ e=>↑e.1)=(Í).map some:=by rw[A0];rfl
  rw[this];show List.Pairwise.map _ (λ a b h e=>h (Bb e)) nd) λ x hx=>by
  ext Ś;let#[j,h1,_,h3]:=U.own e he;show Aw.mpr #[j,AQ.mpr h1,h3]
 exists this
def Up.step {key:κ}{b:β}(U:Up ĩ i xs) (hi:Aa[i]?=↑(val key b)) (hr:ks[i]?=↑key)
  (h:Ŀ):Up ĩ (i+1) Fg:=by
 have eqi:∀ j:Nat,j<i+1->¬ j<i->j=i:=λ j a b=>⋯;rcases h with ⟨hm,rfl⟩ | ⟨_,hp⟩
 .exact Á6
  .let#[j,h1,h2]:=U.own e he;show#[j,Cp h1,h2]
  .by_cases q:j<i
   .show U.all j r q CD
   .rw[eqi j hj q,hr] at CD;cases CD;show hm
 .exact Á6
  .rcases AG.mp (hp.mem_iff.mp he) with q | q
   .let#[j,h1,h2]:=U.own e q;show#[j,Cp h1,h2]
   .cases Ä5;show#[i,B6 i,hi,hr]
  .rw[(hp.map û).mem_iff,Bz];by_cases q:j<i
   .show Bm _ (U.all j r q CD)
   .rw[eqi j hj q,hr] at CD;cases CD;show AY _ Al
structure Kd Ą (A:š) Ž (Sa:Addr) (wr:List Addr) (Se:Heap->Ğ->Prop) (Tp:Heap->Prop):Prop where
 nd:∀ {h xs},Se h xs->Á5
 keep:∀ {h h' xs i},(∀ b o,b∉wr->Ķ)->Up ĩ i xs->Se h xs->Se h' xs
 kL:∀ {h h'},(∀ b o,b∉Sa::wr->Ķ)->Tp h->Tp h'
 add:∀ Ġ{xs:Ğ}{i:Nat}{v:Ĵ}Ě Å7,Tp ä->Se ä xs->È<70->ķ->
  (∀ h' tk Fg rr k b,v=val k b->ks[i]?=↑k->ľ Sa ä h'->s.toks<=tk->Se h' Fg->(k∈ Í/\Fg=xs\/k∉ Í/\Fg.Perm (xs++[(k,b)]))->Q rr { s with heap:=h',toks:=tk })->
  ô Ç (setAdd Sa v) į
variable {É}{A:š}{R:Result->Þ}{I:Addr}{fp wr:List Addr}{G:Array GenState->Array GenState->Prop}{n:Nat}{P:Nat->Ĵ->Prop}{St:Nat->Þ}{Sa:Addr}{Se:Heap->Ğ->Prop}{Tp:Heap->Prop}
def aZ (W:WalksS ì A.in1 I fp wr G n (λ i v=>P i v) St) (D:Kd ì A.in1 ĩ Sa wr Se Tp) (hSf:Sa∉fp) (hP:∀ i v,P i v->ķ) (hn:n<70):
  ∀ (k i:Nat) (s:Shared) (xs:Ğ),n-i=k->i<=n->St i s->Se ä xs->Tp ä->Up ĩ i xs->
   (∀ s' Fg,Moved (Sa::wr) G s s'->Se s'.heap Fg->Up ĩ n Fg->R (.ok (.ret .none)) s')->
   codeAny Ç (Ã4 "set.update.loop" #[[ð Sa,ð I],[]]) R s:=by
 have more:∀ b∈wr,b∈Sa::wr:=λ b hb=>Av _ hb;intro k
 induction k with
 | zero=>
  intro i s xs hk hi AL hS hT hU hR;have e:i=n:=⋯;subst e;ext å;show gV (W.done s ė AL λ s' hm=>Ad (hR s' xs (hm.mono more) (D.keep hm.heap hU hS) hU))
 | succ k ih=>
  intro i s xs hk hi AL hS hT hU hR;have Ar:i<n:=⋯;ext å;exact gV (W.item i s ė Ar AL λ v s1 hPv hst1 hm=>?_);have hv:=hP i v hPv;have T1:=D.kL (λ b o hb e=>hm.heap b o (λ z=>hb (more _ z)) e) hT;have hl:È<70:=by have:=hU.len (D.nd hS);lia
  change ô _ A.in1 (holding [v] (setAdd Sa v) >>= _) ė s1;exact gV (za6 (D.add T1 (D.keep hm.heap hU hS) hl hv λ h' tk Fg rr key b ev hr sb ht S' hx=>?_));subst ev;have fr:=W.frame (i+1) s1 h' tk hst1 ht λ c hc o e=>(sb.2 c (λ z:c=Sa=>hSf (z▸hc))).trans e;exact Ad #[À5 F.plain_set_update_loop _,ih (i+1) _ Fg ⋯ Ar fr S' (D.kL (λ c o hc e=>À6) T1) (hU.step hv hr hx) λ s2 xs2 Hk S2 U2=>?_];exact hR s2 xs2 (Moved.trans W.gtrans ((hm.mono more).then_heap ht λ c o hc e=>?_) Hk) S2 U2;show À6
end
section
variable {É}{A:š}{Aa:AB}{rows:Ĉ}{Sa:Addr}{wr:List Addr}
def oM Ą (h:Heap) (Aa:AB) (rows:Ĉ):Prop:=∀ ŋ v,ķ->∃ b r,v=ð b/\rows[i]?=↑r/\ā (Á) h r b
def oM.at {h h':Heap}(T:oM ì h Aa rows) (k:∀ ŋ b,Aa[i]?=↑(ð b)->∀ o,Ķ):oM ì h' Aa rows:=λ i v hv=>by
 let#[b,r,rfl,h1,o,items,m,h2,h3]:=T i v hv;show#[b,r,rfl,h1,o,items,m,k i b hv o h2,h3]
abbrev cD:Ä->Addr->Ĵ:=λ _ b=>ð b
def N1 Â0(hSw:Sa∉wr) Á1 (Dr:∀ ŋ b,Aa[i]?=↑(ð b)->b∉Sa::wr):Kd ì A cD Aa rows Sa wr (λ h xs=>qe ì h Sa xs led) (λ h=>oM ì h Aa rows) where
 nd:=λ S=>S.nd
 keep:=λ{h h' xs i} k U S=>by
  let#[#[es,ep,t,ho,X,r],nd]:=S;exact#[#[es,ep,t,k Sa _ hSw ho,#[X.es,λ e he=>?_,X.tab,X.mr],r],nd];let#[o,items,m,g1,g2]:=X.is e he;let#[j,_,h2,_]:=U.own e he;show#[o,items,m,k ė (λ z=>Dr j e.2 h2 (Av _ z)) g1,g2]
 kL:=λ k T=>T.at λ i b hi o e=>k b o (Dr i b hi) e
 add:=λ{s xs i v Q E} T S hl hv hQ=>by
  let#[b,r,rfl,hr,hb]:=T i v hv;unfold setAdd;exact za6 (gV ((rk ì).pyHash (k:=r) (a:=b) (A:=A) hu hb ?_));show J2 (s:={ s with toks:=s.toks+(rk ì).draws r }) (A:=A) hu S hb hl λ h' Fg rr sb S' hx=>hQ h' _ Fg rr r b rfl hr sb (CN ė) S' hx
end
section
variable {É}{A:š}{Å7}{Ġ}
set_option À4 6400000 in
def YY {κ β:Type} [DecidableEq κ] {val:κ->β->Ĵ}{ks:List κ}{Se:Heap->Ğ->Prop}{Tp:Heap->Prop}{l:Addr}{Aa:AB}{Q:Af}ù ŗ (hn:ŧ<70)
  (D:Kd ì A.in1.in1.in1 ĩ À [À+1] Se Tp) (hS0:∀ h,Ä3 À=↑ Ő->Se h []) (hT0:∀ h,(∀ b o,ċ b=↑o->Ä3 b=↑o)->Tp h)
  (h:∀ Ō xs,Se h' xs->Up ĩ ŧ xs->Ċ):
  Į:=by
 let#[c,tl,hmro]:=F.called_set.mro;have made:=F.called_set.made;have subm:=F.called_set.sub;exact wpAny_call (codeAny_of_tree ?_);change ô ė (callAny (ê) _) ė _;exact Ad #[Code.quiet_builtin _ (AR),ĺ F.entry_type_call ?_];rw[Around.under_plain (weight_type_call_type "set" [ð l] []) rfl];have nt:=F.called_set.notType;have cc:=F.called_set.canCreate;have tc:=F.typeCall_set_1 (ð l)
 ext Ĕ
 exact codeAny_mono (Kk (ð l) (E:=E) (Q:=λ obj s₁=>obj=ð À/\s₁={ s with heap:=ß Ő }) #[rfl,rfl]) λ r s₁ hr=>?_;cases r with
 | error e=>show hr
 | ok fl=>
  cases fl with
  | ret obj=>
   let#[rfl,rfl]:=hr;have hS:(ß Ő).get? À=↑ Ő:=Ã5;have hTy:Shared.TypeIs { s with heap:=ß Ő } Ä6 "set":=#[_,hS,rfl];have li:=F.called_set.init.lookup;have bi:=F.called_set.init.bind Ä6
   ext Ĕ
   let s1:Shared:={ s with heap:=ß Ő }
   exact codeAny_mono (codeAny_call_builtin (R:=wants (λ r s₂=>r=.none/\∃ h' tk xs,s₂={ s with heap:=h',toks:=tk }/\Se h' xs/\Up ĩ ŧ xs/\
     Ù) E) F.called_set.init.plain F.entry_set_init (check_set_init_1 hTy ?_)) λ r₂ s₂ hr₂=>?_
   .have hsz:Ī=À+1:=Heap.size_push ė;have szne:À ≠ Ī:=by rw[hsz];show AI (B6 _)
    have low:∀ b:Addr,b<À->b≠ Ī:=λ b hb=>by rw[hsz];show AI (Cp hb)
    rw[<- hsz] at D;rcases hl with hl | hl
    all_goals
     let#[#[ocls,odict,odata,oslots],hol,CL,nl,hdl]:=id hl;simp only at CL hdl;subst CL hdl;have hol1:=za1 Ő hol;have sls:=F.sub_list_set;have slf:=F.sub_list_frozenset;have sts:=F.sub_tuple_set;have stf:=F.sub_tuple_frozenset;have nd:(Value.type "list" == Value.type "dict")=ÿ:=()
     have nd':(Value.type "tuple" == Value.type "dict")=ÿ:=()
     have hlS:l<À:=Ax hol;have IV:l≠ Ī:=low l hlS;have F7:=hl.push Ő;unfold Builtin.«set.__init__» noKeywords Builtin.Frozenset.updateFrom;generalize hPI:pyIter=PI;unfold wM at *
     wp_walk
     subst hPI
     first | exact zaJ F7 (gV (wpAny_runValue ?_)) | exact zaO F7 (gV (wpAny_runValue ?_))
     first
      | exact aZ (A:=A.in1.in1) (P:=λ i v=>ķ) ((Walks.list ű).toS) D ?_ (λ _ _ q=>q) hn ŧ 0 ü
      | exact aZ (A:=A.in1.in1) (P:=λ i v=>ķ) ((Walks.tuple ű).toS) D ?_ (λ _ _ q=>q) hn ŧ 0 ü
     .intro hm;ext À7
      .show szne q
      .show BM hlS (Ä5)
     .show hS0 _ (za1 _ hS)
     .show hT0 _ λ b o e=>Ä7
     .intro s' Fg hm S' U';ext ò;exact Ad (Ad #[rfl,h',tk',Fg,rfl,S',U',λ b o hb e=>?_]);exact hm.heap b o (λ q=>?_) (Ä7);rcases Ak.mp q with q | q
      .show AI hb q
      .show low b hb (Ä5)
   .cases r₂ with
    | error e=>show hr₂
    | ok fl₂=>
     cases fl₂ with
     | ret r=>
      let#[rfl,h',tk,xs,rfl,g1,g2,g3]:=hr₂
      ext Ĕ
      show h h' tk xs g1 g2 g3
     | _=>show hr₂.elim
  | _=>show hr.elim
def K3 {l:Addr}{Aa:AB}{rows:Ĉ}{Q:Af}ù (hu:A.units+64<cLine) ŗ (hT:oM ì ä Aa rows) (hn:ŧ<70)
  (h:∀ Ō xs,qe ì h' À xs (sJ w)->Up cD Aa rows ŧ xs->Ċ):
  Į:=by
 exact YY hh hl hn (N1 #[] (show A.units+1+1+1<cLine by lia) λ i b hb hm=>?_) (λ h e=>VZ e) (λ h k=>hT.at λ i b _ o e=>k b o e) h;let#[b',r,e,_,o,_,_,ho,_]:=hT i _ hb;cases e;have:=Ax ho;ext À7
 .show AI this q
 .show AI (Cp this) (Ä5)
end
end ST
namespace ST
open PySem ņ
section facts
def ak:Manifest.owners.lookup (String.ofList ['r','o','t','a','r','e','t','i','_','t','e','s'].reverse)=↑Manifest.sig_set_iterator:=ĥ
def pR:Slot "set_iterator" "__next__" "set_iterator.__next__":=
 .of (Ï:="set_iterator") (n:="__next__") ã
def Ym:entryFor table "set_iterator.__next__"=↑Builtin.«set_iterator.__next__»:=entryFor_of_tree (ĥ)
theorem X5 (a:Ĵ):argsOk "set_iterator.__next__" #[[a],[]]:=by
 unfold argsOk;rw[signature?_of (id:="set_iterator.__next__") (n:=['_','_','t','x','e','n','_','_']) ą]
 kernel_rfl
def L9:entryFor table "set.__iter__"=↑Builtin.«frozenset.__iter__»:=entryFor_alias (id':="frozenset.__iter__") (ĥ) rfl (AR) (ĥ)
def bg:Slot "set_iterator" "__iter__" "set_iterator.__iter__":=
 .of (Ï:="set_iterator") (n:="__iter__") ã
def L8:entryFor table "set_iterator.__iter__"=↑Builtin.«dict_keyiterator.__iter__»:=entryFor_alias (id':="dict_keyiterator.__iter__") (ĥ) rfl (AR) (ĥ)
theorem Jn (a:Ĵ):argsOk "set_iterator.__iter__" #[[a],[]]:=by
 unfold argsOk;rw[signature?_of (id:="set_iterator.__iter__") (n:=['_','_','r','e','t','i','_','_']) ą]
 kernel_rfl
end facts
theorem Yi Å4:∀ (l:List α) ŋ (x:α),l[i]?=↑x->l.Perm (x::l.eraseIdx i)
 | [],i,x,h=>by simp at h
 | y::l,0,x,h=>by simp at h;subst h;simp
 | y::l,i+1,x,h=>by
  have ih:=Yi l i x (by exists h);rw[List.eraseIdx_cons_succ];show (ih.cons y).trans (.swap x y _)
theorem bX Å4(next:Nat->Nat):∀ (f k:Nat) (left:List α) (out:Array α),left.length=f->(pickOrder.go next f k left out).toList.Perm (out.toList++left)
 | 0,k,left,out,h=>by
  cases left with
  | nil=>unfold pickOrder.go;simp
  | cons _ _=>simp at h
 | f+1,k,left,out,h=>by
  unfold pickOrder.go;have Ar:next k%left.length<left.length:=C6 _ ⋯;rw[A5 Ar];ext æ;exact (bX next f (k+1) ė (by rw[List.length_eraseIdx_of_lt Ar];lia)).trans ?_;rw[B0,AW];show (Yi left ė (A5 Ar)).symm.append_left _
theorem US Å4(next:Nat->Nat) (xs:Array α):(pickOrder next xs).toList.Perm xs.toList:=by
 unfold pickOrder;exists bX next xs.size 0 xs.toList Ŧ #[]
def comes Ŗ Ř:Ò:=if Å=true then pickOrder (w.params.setOrder a ep) es else es
def mT Ŗ Ř:(í).toList.Perm ź:=by
 unfold comes;split
 .show US ė
 .show .refl _
def rO (a:Addr) (slot i n ep:Nat):Obj:={ cls:=.type "set_iterator",data:=.fields [rawInt slot,rawInt i,ð a,rawInt n,rawInt ep].toArray }
def slotAt (t:đ):Nat->Nat
 | 0=>0
 | i+1=>œ+1
theorem Jd {t:đ}(hr:uV Ì):∀ i,i<=ģ->below à (slotAt t i)=i
 | 0,_=>by
  let#[h1,h2,h3]:=ju (xs:=à) (j:=0) hr;rcases DF (below à 0) with q | q
  .show q
  .have:=h2 0 ⋯ q;lia
 | i+1,hi=>by
  have hd:œ=à[i]:=fJ ⋯;change below à (œ+1)=i+1;rw[hd];let#[h1,h2,h3]:=ju (xs:=à) (j:=à[i] + 1) hr;have wN:∀ a b (ha:a<ģ) (hb:b<ģ),a<b->à[a]<à[b]:=λ a b ha hb BX=>by
   have r:=CQ.mp hr a b (by exists ha) (by exists hb) BX;rw[Cw,Cw] at r;show r
  rcases DE (below à (à[i] + 1)) (i+1) with q | q | q
  .have:=h3 i ⋯ ⋯;lia
  .show q
  .have a:=h2 (i+1) ⋯ q;have b:=wN i (i+1) ⋯ ⋯ ⋯;lia
structure va Ŗ (h:Heap) Ř (t:đ):Prop where
 get:Ú
 fits:ų
 wN:uV Ì
 led:t.led=sJ w
 plain:Ş=true
theorem va.size {w:World}Ã6 ø Ã(S:Ä8):ģ=Ø:=by
 have:=S.fits;simp![SetTable.fits,Cd,beq_iff_eq] at this;show this.1
section
variable {É}{A:š}{Å7}{Ġ}
def aL ø Ã{i:Nat}{Q:Ŏ (Ĵ ×Nat)->Þ}ĉ (hi:i<=Ø) (slot:Nat) (hs:Ũ)
  (h:∀ Fq,(Å=ÿ->Fq=ŷ)->Q ((í)[i]?.map λ e=>(e.2,Fq)) s):ô Ç (setNext a slot i ep) į:=by
 unfold setNext setsByText;exact Ļ;ext æ;exact gV (gV (zaK Ć));change ô _ A (if Å=true then _ else _) į;cases hb:Å with
 | true=>
  rw[ī rfl,ć #[]];unfold setWalk setsByText;exact gV (Ļ);ext æ;exact gV (gV (zaK Ć));change ô _ A (if Å=true then _ else _) _ E s;rw[ī hb];exact gV (zaK Ć);exact Ad ?_;have:=h slot (λ q=>by rw[hb] at q;cases q);unfold comes at this;rw[ī hb] at this;show this
 | ÿ=>
  rw[ć #[]];split
  .rename_i hd;have GP:(! Ş&&decide (Ø>1))=true:=hd;rw[S.plain] at GP;simp at GP
  .change ô _ A ((if (!t.led&&!es.isEmpty)=true then Ä2 "set:maker-not-led" else pure Unit.unit) >>= _) į;have hl:t.led=true:=by rw[S.led];unfold sJ;rw[hb];rfl
   rw[ć (by rw[hl];simp)];exact gV (Ad Ć);have BS:=hs hb;have hz:=S.size;rw[BS,Jd S.wN i (by rw[hz];show hi)];have:=h (ŷ) (λ _=>rfl);unfold comes at this;rw[ć (by rw[hb];simp)] at this;rcases Bw i Ø with q | q
   .have hp:i<ģ:=by rw[hz];show q
    rw[BC q] at this;rw[BC q,BC hp];have e:ŷ=à[i] + 1:=by change œ+1=_;rw[fJ hp]
    rw[e] at this;show this
   .rw[CB q] at this;rw[CB q];show this
def qF {a I:Addr}{slot i n ep:Nat}Â2:s.TypeIs (ð I) "set_iterator":=#[_,ho,rfl]
def cM (k:Nat):((k:Int)).toNat=k:=Cv k
def VV {I a:Addr}Ã{i slot:Nat}{e:Int× Ĵ}{Q:Ŏ Ĵ->Þ}(ho:ċ I=↑(rO a slot i Ø ep)) ĉ (hs:Ũ) (he:(í)[i]?=↑e)
  (hi:i<Ø) (h:∀ h' Fq,(Å=ÿ->Fq=ŷ)->h'.get? I=↑(rO a Fq (i+1) Ø ep)->ľ I ä h'->Q ↑e.2 { s with heap:=h' }):ô Ç (pyNext (ð I)) į:=by
 unfold pyNext;ext Î;rw[ć #[]];exact gV (aL S ⋯ slot hs λ Fq FQ=>?_);rw[cM] at FQ ⊢;rw[he];dsimp only[Option.map_some];exact gV (zaL ho rfl #[] ?_);have o1:=zaG (Obj.mapFields (·.set! 0 (ż (Fq:Int) 0))) ho rfl;exact gV (zaL o1 rfl #[] ?_);have o2:=zaG (Obj.mapFields (·.set! 1 (ż ((i:Int)+1) 0))) o1 rfl;exact Ad #[_,rfl,Ad (h _ Fq FQ o2 ((ö ..).trans (ö ..)))]
def VW {I a:Addr}Ã{slot:Nat}{Q:Ŏ Ĵ->Þ}ù (ho:ċ I=↑(rO a slot Ø Ø ep)) ĉ (hs:Å=ÿ->slot=slotAt t Ø)
  (h:∀ h',Heap.ExtBut I ä h'->Q none { s with heap:=h' }):ô Ç (pyNext (ð I)) į:=by
 have hn:(í)[Ø]?=none:=by
  ext ž;simp![A3] at this;rw[CB ⋯]
 unfold pyNext;ext Î;rw[ć #[]];exact gV (aL S #[] slot (by exists hs) λ Fq FQ=>?_);rw[cM,hn];dsimp only[Option.map_none];exact gV (zaL ho rfl #[] ?_);exact gV ?_;simp![newExc,newTuple];exact gV (za9 ?_ (by size_fits));exact gV (m:=firstArgMember ė) (wpAny_of_eq (a:=Value.none) (by first | rfl | (simp![firstArgMember];rfl)) (za9 ?_ (by size_fits)));unfold raiseNew;exact gV (wpAny_handled ?_);rw[show A.in1.handled=none from hh];exact gV ((Ad (wpAny_throw ?_)));exact gV ((wpAny_isInstance (T:="StopIteration") (b:=true) #[_,Ã5,rfl] isSubtype_stop ?_));show Ad (h _ (((ö ..).extBut.push _).push _))
def VU {I a:Addr}{slot i n ep:Nat}{Q:Af}Â2 (h:Q (ð I) s):ô Ç (pyIter (ð I)) į:=by
 exact wpAny_pyIter_slot (qF ho) bg (za7 bg (qF ho) L8 ?_ (Jn _));show Ad #[_,rfl,"set_iterator",_,qF ho,pR.lookup,h]
def va.keep {h h':Heap}ø Ã(S:Ä8) (k:∀ o,Ä3 a=↑o->h'.get? a=↑o):va w h' ë t:=#[k _ S.get,S.fits,S.wN,S.led,S.plain]
def WU ù (I a:Addr) (Az:a≠I) (es:Ò) (ep:Nat) (t:đ):
  Walks ì A I [I,a] [I] Ø (λ i v=>∃ e,(í)[i]?=↑e/\v=e.2) (λ i h=>(∃ slot,(Ũ)/\Ä3 I=↑(rO a slot i Ø ep))/\Ä8) where
 sub:=λ b hb=>by simp at hb;simp[hb]
 frame:=λ _ _ _ st k=>by
  ext Ę;show#[#[slot,h1,k I #[] _ h2],S.keep λ o e=>k a #[] o e]
 item:=λ i s Q E hi st hQ=>by
  ext Ę;have hl:i<(í).size:=by
   ext ž;simp![A3] at this;lia
  exact VV h2 S h1 (BC hl) hi λ h' Fq g1 g2 g3=>?_;show hQ _ h' s.toks #[_,BC hl,rfl] #[#[Fq,g1,g2],S.keep λ o e=>(g3.2 a Az).trans e] λ b o hb e=>(g3.2 b (λ z=>hb (by simp[z]))).trans e
 done:=λ s Q E st hQ=>by
  ext Ę;show VW hh h2 S h1 λ h' g=>hQ h' s.toks λ b o hb e=>g b o (λ z=>hb (by simp[z])) e
 self:=λ _ _ _ _ st hQ=>by
  ext Ę;show VU h2 hQ
def O_:typeLookup (ê) "__len__"=pure ↑(Ã4 "set.__len__"):=F.slot_set_len.lookup
def split_len:splitId "set.__len__"=↑("set","__len__"):=by decide +kernel
def Ow ø Ã Ě ĉ (h:Q ÿ s):ô Ç (setDrawn a) į:=by
 unfold setDrawn setsByText;exact Ļ;ext æ;exact gV (gV (zaK (Ad Ć)));change Q (! Å&&(! Ş&&decide (Ø>1))) s;rw[S.plain];exists h
set_option À4 4000000 in
theorem Oz ø Ã Ě ĉ (h:Q ÿ s):ô Ç (Ä9 Ä0) į:=by
 have Ty:s.TypeIs Ä0 "set":=#[_,S.get,rfl];unfold Ä9;exact gV (wpAny_specialOf Ty O_ ?_);ext æ;rw[split_len];ext æ;exact gV (wpAny_isInstance (b:=true) Ty sub_set_self ?_);rw[ć ()];rw[ī (AR)];exact gV (zaF Ty ?_);show Ad h
set_option À4 4000000 in
def Ki ø Ã{Q:List Ĵ->Þ}ù ĉ (hn:Ø<=Ŵ)
  (h:∀ Ō,(Ù)->À<=h'.objs.size->Q (À9) { s with heap:=h',toks:=tk }):ô Ç (collect Ä0) į:=by
 have ha:a<À:=Ax S.get;unfold collect;exact gV (wpAny_runValue (ĺ F.entry_proto_collect ?_));rw[ĵ F.plain_proto_collect _];change ô _ A.in1 (newList [] >>= λ l=>again (Ã4 "list.__iadd__" #[[l,ð a],[]])) ė s;exact gV (za9 (Ad #[À5 F.plain_list_iadd _,ĺ F.entry_list_iadd ?_]));rw[ĵ F.plain_list_iadd _];let L0:Obj:={ cls:=.type "list",data:=.seq ([]:Ah).toArray }
 have S1:va w (ß L0) ë t:=S.keep λ o e=>za1 _ e;have T1:Shared.TypeIs { s with heap:=ß L0 } Ä0 "set":=#[_,S1.get,rfl];change ô _ A.in1 (Å0 Ä6 Ä0 Ä6) ė { s with heap:=ß L0 };unfold Å0;exact gV (zaF T1 ?_);have Az:À ≠a:=BM ha;have c1:Builtin.List.listSameRef Ä6 Ä0=ÿ:=by simp[Builtin.List.listSameRef,Az]
 rw[ć (by rw[c1];decide)];exact gV (wpAny_pyIter_slot T1 F.slot_set_iter (za7 F.slot_set_iter T1 L9 ?_ (F.args_set_iter_1 _)));exact gV (gV (Ad Ć));exact gV (gV (gV (za8 S1.get rfl S1.fits (Ad Ć))));exact gV (Ow S1 ?_);rw[ć ()];exact gV Ć;exact gV (wpAny_setEpoch_of S1.get rfl S1.fits ?_);exact gV (za9 (Ad #[_,rfl,"set_iterator",_,#[_,Ã5,rfl],pR.lookup,?_]));let I:=Ħ
 let h2:=(ß L0).push (rO a 0 0 Ø ep)
 have S2:va w h2 ë t:=S1.keep λ o e=>za1 _ e;have hI:h2.get? I=↑(rO a 0 0 Ø ep):=Ã5;have hL:h2.get? À=↑L0:=za1 _ (Ã5);have hsz:Ħ=À+1:=Heap.size_push ė;change ô _ A.in1 ė _ { s with heap:=h2 };exact gV (za6 (Oz (s:={ s with heap:=h2 }) S2 ?_));rw[ī (AR)];exact gV (zaC ?_);exact gV ?_;change ô _ A.in1 (updateSeq À (·.push .none) >>= λ _=>updateSeq À (·.pop)) ė { s with heap:=h2 };exact gV (wpAny_updateSeq hL rfl ?_);have hL2:=zaG Á0 hL rfl;exact wpAny_updateSeq hL2 rfl ?_;have hL3:=zaG (Obj.mapSeq (·.pop)) hL2 rfl;let h3:=(h2.update À Á0).update À (Obj.mapSeq (·.pop))
 have oth:∀ b o,b≠ À->h2.get? b=↑o->h3.get? b=↑o:=λ b o hb e=>Å1 (Å1 e);have haI:a≠I:=by change a≠ Ħ;rw[hsz];show AI (Cp ha)
 have hIn:I≠ À:=by change Ħ ≠_;rw[hsz];show BM (B6 _)
 exact Ad #[À5 F.plain_extend_loop _,codeAny_extend_loopS ((WU (A:=A.in1) hh I a haI es ep t).toS) hn À ?_ _ Ø 0 { s with heap:=h3 } Ŧ _ rfl (Be _) #[#[0,λ _=>rfl,oth I _ hIn hI],S2.keep λ o e=>oth a o (Ne.symm Az) e] hL3 (ItemsOf.nil _) λ s' acc c' hm hS' A4=>?_]
 .intro hm;ext À7
  .show hIn q.symm
  .show Az (Ä5)
 .exact gV (wpAny_load hS' Ć);ext ò;have hcm:(í).size=Ø:=by
   ext ž;exists this
  have e:acc.toList=À9:=by
   exact List.ext_getElem? λ j=>?_;rw[AE];rcases Bw j Ø with q | q
   .have Du:j<acc.size:=by rw[A4.1];show q
    have hj:acc[j]?=↑acc[j]:=BC Du;let#[e,e1,e2]:=A4.2 j _ hj;rw[Bf,Bf,hj,e1,e2];rfl
   .rw[Bf,Bf,CB (by rw[A4.1];show q),CB (by rw[hcm];show q)];rfl
  rw[e];exact h h' tk' (λ b o hb e=>hm.heap b o (λ q=>?_) (oth b o (AI hb) (Ä7))) ?_
  .rcases Ak.mp q with q | q
   .show AI hb q
   .have q':b=Ħ:=Ä5;rw[hsz] at q';show AI (Cp hb) q'
  .show BG (Ax hS')
end
end ST
namespace ST
open PySem ņ ď L4
section
variable {É}{A:š}{Å7}{Ġ}
def YK ø Ã ù ĉ (hz:Ø<=Ŵ) (Q':List Ĵ->Þ)
  (h:∀ h1 tk,(∀ b o,¬ False->ċ b=↑o->h1.get? b=↑o)->À<=h1.objs.size->Q' (À9) { s with heap:=h1,toks:=tk }):ô Ç (collect Ä0) Q' E s:=
 Ki hh S hz λ h1 tk k1 k2=>h h1 tk (λ b o _ q=>k1 b o (Ax q) q) k2
end
end ST
namespace ST
open PySem ņ Á7 ď L2
def yP Ŗ (a:Addr) (us:Ah):Heap->Prop:=λ h=>∃ es ep t,Ä8/\es.toList.map ş=us
def yP.su {w:World}ø{us:Ah}{h1 h2:Heap}(S:yP w a us h1) (k:∀ o,h1.get? a=↑o->h2.get? a=↑o):yP w a us h2:=by
 let#[es,ep,t,S,e]:=S;show#[es,ep,t,S.keep k,e]
def qe.at É Ã6 ø{xs:Ā}(S:qe ì h a xs (sJ w)):yP w a (ě λ e=>ý) h:=by
 let#[#[es,ep,t,ho,X,h1,h2,h3],_]:=S;show#[es,ep,t,#[ho,X.fits,X.tab.wN,h1,h2],by rw[X.es,A0];rfl]
section
variable {X:Cx}
theorem Zu:∀ {ns:Ä}{us:Ah},Vals (ns.map V.int) us->∀ É,ItemsAre (Á) ns us
 | [],_,.nil,_,_=>.nil
 | n::ns,_,.cons r t,prog,w=>by
  let#[tk,rfl]:=r;show .cons (intKind_is ė ė) (Zu t)
def K0 (hc:X.calm=true) (hu:X.A.units+64<cLine):yF X (ê) (λ xs H Q=>∃ p ys,∃ rows:Ĉ,xs=[ð p]/\(zP X.K H p ys\/yg X.K H p ys)/\L4.qf X.K H ys rows/\Ÿ<64/\
  ∀ À8,H l=none->Vals (Å2) us->Å3->(ă).Nodup->(∀ r∈rows,r∈ ă)->Q (ð l) (upd H l Ź)):=by
 intro E6 s σ H xs us Q I r h;let#[p,ys,rows,rfl,hq,hr,FW,q]:=h;ext Ã7;obtain⟨Aa,rv,pl,hz⟩:∃ Aa,Vals ys Aa/\(s.heap.IsList p Aa.toArray\/s.heap.IsTuple p Aa.toArray)/\True:=by
  rcases hq with hq | hq
  .let#[Aa,rv,pl,_]:=I.list hq;show#[Aa,rv,.inl pl.isList,trivial]
  .let#[Aa,rv,pl,_]:=I.tuple hq;show#[Aa,rv,.inr pl,trivial]
 have hl:=rv.length;have DZ:ys.length=Ÿ:=Paired.length hr;have tq:oM X.prog X.w ä Aa.toArray rows:=λ i v hv=>by
  have Hf:ķ:=by exists hv
  have hi:i<Aa.length:=(AN.mp Hf).1;let#[Az,b,hb,hsq]:=L4.Paired.at' hr (i:=i) ⋯ V.zp ([]:Ä);have hy:ys[i]?=↑(V.ref b):=by
   rw[A5 ⋯];have:ys.getD i V.zp=ys[i]'⋯:=by simp[show i<ys.length by lia]
   rw[this] at hb;rw[hb]
  let#[v',e1,e2]:=rv.get hy;rw[Hf] at e1;cases e1;cases (show v=Ä1 b from e2);let#[Fz,Hb,#[o,e,CL,n,hd],_]:=I.tuple hsq;exact#[b,rows.getD i [],rfl,?_,o,Fz.toArray,n,e,CL,hd,by exists Zu Hb];simp[show i<Ÿ by lia]
 have hh:X.A.handled=none:=I.ok.hd hc;exact K3 (A:=X.A) hh hu pl tq (by rw[AH];lia) λ h' tk xs S U k=>?_;have kk:∀ b o,ċ b=↑o->h'.get? b=↑o:=λ b o e=>k b o (Ax e) e;have BU:H À=none:=I.zx.fresh (Ao _);have HC:=S.at;have vals:Vals ((Ŋ).map û) (ě λ e=>ý):=by
  clear S U HC
  induction xs with
  | nil=>show .nil
  | cons e xs ih=>show .cons rfl ih
 have snd:(Ŋ).map ş=Í:=by rw[A0];rfl
 exact#[ð À,_,I.laid (t':=tk) (o:=.ext (yP X.w À (ě λ e=>ý))) kk (Ao _) ?_,rfl,q ė (Ŋ) BU vals (λ x hx=>?_) (by rw[snd];show S.nd) λ r IT=>?_]
 .let#[es,ep,t,St,e]:=id HC;show#[HC,#[_,St.get],λ h1 h2 S1 k=>S1.su k]
 .ext Ś;let#[j,j1,j2,j3]:=U.own e he;have Gn:Aa[j]?=↑(ý):=by exists j2
  have Du:j<ys.length:=by rw[hl];show (AN.mp Gn).1
  let#[v',e2,e3]:=rv.get (A5 Du);rw[Gn] at e2;cases e2;let#[Az,b,hb,_]:=L4.Paired.at' hr (i:=j) ⋯ V.zp ([]:Ä);have:ys.getD j V.zp=ys[j]:=by simp[Du]
  rw[this] at hb;rw[hb] at e3;cases (show ý=Ä1 b from e3);exact Bh (i:=j) ?_;rw[List.getElem?_zip_eq_some];show#[by rw[A5 Du,hb],j3]
 .rw[snd];let#[j,hj]:=Cb.mp IT;show U.all j r (by have:=(AN.mp hj).1;rw[AH];lia) hj
theorem Paired.mk {α β:Type}{F:α->β->Prop}:∀ {l:List α}{m:List β},l.length=m.length->(∀ ŋ a b,l[i]?=↑a->m[i]?=↑b->F a b)->Paired F l m
 | [],[],_,_=>.nil
 | a::l,b::m,h,f=>.cons (f 0 a b rfl rfl) (Paired.mk (by exists h) λ i x y hx hy=>f (i+1) x y (by exists hx) (by exists hy))
 | [],_::_,h,_=>by simp at h
 | _::_,[],h,_=>by simp at h
theorem Kz (hc:X.calm=true):yF X (Ã4 "sorted") (λ xs H Q=>∃ l us vs,∃ rs:Ĉ,xs=[ð l]/\H l=↑ Ź/\Vals vs us/\L4.qf X.K H vs rs/\rs.length<64/\L4.lj (vs.zip rs) H Q):=by
 intro E6 s σ H xs us0 Q I r h;let#[l,us,vs,rs,rfl,hl,hv,hr,FW,q]:=h;ext Ã7;obtain⟨⟨es,ep,t,S,eu⟩,-,-⟩:=(show yS X.prog X.w H ä l Ź from I.zx l _ hl)
 have hp:((comes X.w l es ep).toList.map ş).Perm us:=by rw[<- eu];show (mT X.w l es ep).map _
 let#[qs,q1,q2]:=L4.Paired.perm hp (L4.VR.of hv hr);have hzl:(vs.zip rs).length<256:=by rw[List.length_zip];lia
 have D_:Ø<=Ŵ:=by
  have h1:us.length=(vs.zip rs).length:=Paired.length (L4.VR.of hv hr);have h2:=congrArg List.length eu;rw[AD,A3] at h2;ext Ĩ;lia
 show L4.iP I (λ Q' h=>YK (by show I.ok.hd hc) S D_ Q' h) q2 (by rw[q1.length_eq];show hzl) λ p ps hf hp hs=>q p ps hf (hp.trans q1) hs
end
end ST
namespace L5
open PySem Á7 L2 L3
open ď hiding St
def w9:Ĉ->Ĉ
 | []=>[]
 | r::rs=>if r∈w9 rs then w9 rs else r::w9 rs
theorem nK {r:Ä}:∀ {rs:Ĉ},r∈w9 rs↔r∈rs
 | []=>.rfl
 | x::rs=>by
  unfold w9;split
  .rename_i h;rw[nK,Ak];show#[.inr,λ h'=>h'.elim (λ e=>e▸nK.mp h) id]
  .rw[Ak,Ak,nK]
theorem gG:∀ rs:Ĉ,(w9 rs).Nodup
 | []=>.nil
 | x::rs=>by
  unfold w9;split
  .show gG rs
  .rename_i h;show Bu.mpr #[h,gG rs]
theorem gH:∀ rs:Ĉ,(w9 rs).length<=rs.length
 | []=>Ao _
 | x::rs=>by
  unfold w9;have:=gH rs;split <;> simp![AX] <;> lia
def uw:xt:=λ ds S Q=>match ds with
 | [d]=>∃ rows:Ĉ,zV d S=↑(rows.map v8)/\Ÿ<64/\(∀ r∈rows,r≠[])/\∀ l,S l=none->Q (ð l) (ups S l (.lst ((L4.xo (w9 rows)).map v8)))
 | _=>False
def nc:Am
 | [.lst ts]=>Ó
 | [.tup ts]=>Ó
 | _=>none
def ZL:vH zE nc uw:=λ S Z ys z ds Q hz hv e hq=>by
 have key:∀ y ts,ys=[y]->vz y=↑ts->(Ó)=↑z->uw ds S Q:=λ y ts ey et e'=>by
  subst ey;let#[d,rfl,h1]:=vJ hv;let#[rs,e1,e2]:=An.mp e';split at e2
  .rename_i hc;cases e2;cases i_ e1;let#[es,h2,h3]:=h1.seq et;cases pP.mp h3;show#[rs,h2,hc.1,hc.2,λ l hl=>hq ė (.new hl _) (sE hz hl (pP.mpr rfl))]
  .cases e2
 unfold nc at e;split at e
 .show key ė rfl rfl e
 .show key ė rfl rfl e
 .cases e
section
variable {K:Ac}{e:Expr}{p:Pos}
def uw.mo:vF uw:=λ ds S Q Q' hq h=>by
 unfold uw at h ⊢;split at h
 .let#[rows,h1,h2,h3,h4]:=h;show#[rows,h1,h2,h3,λ l hl=>hq ė (h4 l hl)]
 .show h.elim
def uw.fits {w:World}:uA K uw (λ xs H Q=>∃ p ys,∃ rows:Ĉ,xs=[ð p]/\(zP K H p ys\/yg K H p ys)/\L4.qf K H ys rows/\Ÿ<64/\
  ∀ À8,H l=none->Vals (Å2) us->Å3->(ă).Nodup->(∀ r∈rows,r∈ ă)->
   ∃ l' G4 vs',∃ rs':Ĉ,[V.ref l]=[ð l']/\Ü l'=↑(.ext (ST.yP w l' G4))/\Vals vs' G4/\L4.qf K Ü vs' rs'/\rs'.length<64/\L4.lj (vs'.zip rs') Ü Q):=λ xs ds H S Q h0 h2 h=>by
 unfold uw at h;split at h
 .rename_i d;let#[x,hx,h1]:=h0.one;subst hx;let#[rows,e,FW,Az,h]:=h;obtain⟨a,ys,rfl,g1,g2⟩:∃ a xs,x=ð a/\(zP K H a xs\/yg K H a xs)/\zk K H (rows.map v8) xs:=by
   by_cases hn:∃ ts,d=.tup ts
   .let#[ts,rfl]:=hn;cases e;simp![zg] at h1;let#[a,xs,q1,q2,q3]:=h1;show#[a,xs,q1,.inr q2,q3]
   .let#[a,ys,q1,q2,q3]:=rA h1 h2 e (λ ts z=>hn #[ts,z]);show#[a,ys,q1,.inl q2,q3]
  exact#[a,ys,rows,rfl,g1,kc g2 Az,FW,λ l us ps hf hv sub nd all=>?_];have mem:∀ r,r∈ ă ↔r∈rows:=λ r=>#[λ h=>by
   let#[q,hq,rfl]:=Aw.mp h;show (DV (sub q hq)).2,all r]
  have x1:Ext H Ü:=.new hf _;have g3:zk K H ((ă).map v8) (Å2):=zk.kl λ q hq=>zk.lG g2 q (sub q hq);have Dp:(ă).Perm (w9 rows):=(Eg nd (gG rows)).mpr λ r=>by rw[mem,nK]
  have Et:(Å2).zip (ă)=ps:=by rw[List.zip_map',List.map_id''];intro a;rfl
  exact#[l,us,Å2,ă,rfl,y7,hv,kc (zk.ext x1 _ g3) λ r hr=>Az r ((mem r).mp hr),by rw[Dp.length_eq];have:=gH rows;lia,λ p qs hp hi hs=>?_];rw[Et] at hi;have heq:=L4.cT ((hi.map ş).trans Dp) hs;have Ap:p≠l:=λ z=>by subst z;rw[y7] at hp;cases hp
  have hpH:H p=none:=by rw[yj Ap] at hp;show hp
  have x2:Ext Ü (upd Ü p (.lst (qs.map û))):=.new hp _;have r1:zN K Ü S:=h2.new hf;exact h p (h2.none hpH) ė (by simp![zg]) (x1.trans x2) (r1.ups x2 #[_,y7,?_]);rw[<- heq];show zk.ext (x1.trans x2) _ (zk.kl λ q hq=>zk.lG g2 q (sub q (hi.mem_iff.mp hq)))
 .show h.elim
end
end L5
namespace ST
open PySem ņ ď
theorem ZQ Ö (h:Int):∀ (f k K:Nat),k<=K->K<k+f->ń ∉ Ì->(∀ m<K,(way Ê h m).j∈ Ì)->ı t (λ _=>h+1) h f (ś)=↑(.empty ń none)
 | 0,k,K,h1,h2,_,_=>⋯
 | f+1,k,K,h1,h2,h3,h4=>by
  by_cases e:k=K
  .subst e;unfold ı;rw[T.empty h3,iw]
  .let#[i,g,p1,_]:=T.at (h4 k ⋯);have ih:=ZQ T h f (k+1) K ⋯ ⋯ h3 h4
   conv=>lhs;unfold ı
   rw[T.live p1];ext æ;rw[ć (by intro q;have:=eq_of_beq q;lia),dm];show ih
theorem MZ Ö (hl:Ē<=Ê) (h:Int):∃ j,t.freeSlot h=↑(j,ÿ)/\dD t h j:=by
 let#[K,k1,k2,k3]:=T.first hl h;exact#[ń,?_,#[k2,K,rfl,k3]];have g:=ZQ T h (10*turns Ê) 0 K (Be _) (ſ) k2 k3;unfold SetTable.freeSlot;have e:t.probe (λ _=>h+1) h (t.probeStart h)=↑(.empty ń none):=g;rw[e];rfl
structure qW Ą (h:Heap) (a:Addr) (xs:ļ) (led:Bool):Prop where
 ex:∃ es ep t,Ú/\ź=ě (Ô)/\Tab t (ě é)/\Â8
 nd:Á5
section
variable {É}{A:š}{Å7}{Ġ}
def fits_of {es:Ò}{t:đ}{hs:Ä}{n:Nat}(h1:Ø=n) (T:Tab t hs) (h2:Ē=n) (h3:n<=Ê):ų:=by
 have l:=T.len;unfold SetTable.fits ŏ;rw[T.rW,h1,l,h2];simp;lia
def nV {n m:Int}{t:Tok}:(Á).is n (.int m t)=true↔n=m:=by
 constructor
 .intro h;let#[t',e]:=Value.isInt_shape (show Value.isInt n (.int m t)=true from h);cases e;rfl
 .rintro rfl;show intKind_is ė ė
def LA {es:Ò}{xs:ļ}(h:ź=ě (Ô)):ElemsOf (Á) ź:=λ e he=>by
 rw[h] at he;let#[x,_,rfl]:=Aw.mp he;show#[#[x.1,nV.mpr rfl,rfl],rfl]
def Ut {es:Ò}{t:đ}{xs:ļ}{M wanted:Nat}(he:ź=ě (Ô)) ň:
  ∃ FC t',∃ Fg:ļ,relayAll t es wanted=(FC,t',ÿ)/\FC.toList=Fg.map (Ô)/\Fg.Perm xs/\Tab t' (Fg.map é)/\t'.mask=M/\t'.led=t.led/\t'.plain=Ş/\FC.size=Ø:=by
 ext ŀ
 have EW:(Œ).toList=ě é:=by rw[Ej,he,A0];rfl
 ext Ã2
 ext Ñ
 have hr:À0:=by
  ext ō
 have BV:(Ý).toList=(è).map Ô:=by
  ext Ĺ;rw[<- Bf,he,AE]
 ext Ĝ;have BR:(Ý).size=Ø:=by
  rw[<- A3,BV,AD,Ĥ,hlen]
 have hT:Tab t' ((è).map é):=by
  rw[<- gs xs (é) 0 order.toList Ar,<- EW];show h7
 exact#[_,t',_,?_,BV,Fd,hT,h2,h4,h5,BR];have zI:coversAll order Ø=true:=by
  unfold coversAll;rw[List.isPerm_iff,hlen];show h6
 have fit:t'.fits (Ý).size=true:=fits_of (n:=È) (by rw[BR,hlen]) hT (by rw[AD,Ĥ]) (by rw[h2];lia);unfold relayAll;rw[hr];ext æ;rw[zI,fit];rfl
def add_int ø{xs:ļ}{n:Int}{tk:Tok}Â0 Ě(S:qW ì ä a xs led) (hn:È<70)
  (h:∀ h' Fg r,ľ a ä h'->qW ì h' a Fg led->(n∈ Í/\Fg=xs\/n∉ Í/\Fg.Perm (xs++[(n,tk)]))->Q r { s with heap:=h' }):
  ô Ç (Â4 a (.int n tk) (Ŕ n)) į:=by
 have S0:=S;let#[#[es,ep,t,ho,he,T,BH,Ap,AZ],C1]:=S;ext ŀ
 have hm7:7<=Ê/\Ê<=127:=by rcases T.mask with e | e | e <;> lia
 have fit:ų:=fits_of (n:=È) hlen T #[] ⋯;have hel:=LA ñ he;unfold Â4 setAddHashedIn;exact za6 (gV (za8 ho rfl fit ?_));ext æ;have bs:byScan (.int n tk) es=true:=by
  have h1:decide (Ø<scanBound)=true:=za2 (by unfold scanBound;lia);have h2:es.all (·.2.scannable)=true:=by
   rw[Array.all_eq_true_iff_forall_mem];intro e hm;show (hel e (by exists hm)).2
  unfold byScan;rw[h1,h2];rfl
 rw[ī bs];exact gV ?_;unfold setAddByScan;exact gV (zaC (gV (wpAny_setScan_of (k:=n) (nV.mpr rfl) ho rfl fit hel ?_)));have G9:(Ů).isSome=true↔n∈ Í:=by
  rw[he,List.findIdx?_isSome,Bg];constructor
  .rintro⟨e,hm,q⟩;let#[x,hx,rfl]:=Aw.mp hm;show Aw.mpr #[x,hx,(nV.mp q).symm]
  .intro hm;let#[x,hx,rfl]:=Aw.mp hm;show#[_,Aw.mpr #[x,hx,rfl],nV.mpr rfl]
 cases hc:Ů with
 | some j=>
  ext æ;have hm:=G9.mp (by rw[hc];rfl);exact Ad ?_;ext æ;show Ad (h ä xs ÿ #[rfl,λ _ _=>rfl] S0 (.inl #[hm,rfl]))
 | none=>
  ext æ;have hm:n∉ Í:=λ q=>by have:=G9.mpr q;rw[hc] at this;cases this
  let#[j,fs,F]:=MZ T (by rw[AD];lia) (Ŕ n);let#[p1,p2,p3]:=T.put F;ext ř
  have Cf:(Ď).1.mask=Ê:=by rw[p2]
  ext Á2
  ext ő;let FN:=ġ++(n,tk)::Ĭ
  have Fd:FN.Perm (xs++[(n,tk)]):=by
   have e:ġ++Ĭ=xs:=CA p xs;have:FN.Perm ((n,tk)::(ġ++Ĭ)):=List.perm_middle;ext ĸ
  ext Â1
  have Gy:(Æ).toList=FN.map Ô:=by
   rw[Ã8,he];ext Ŭ
  have GK:(Æ).size=È+1:=by rw[<- A3,Gy,AD,F7]
  have T1:Tab t1 (FN.map é):=by
   have:FN.map (é)=(ě é).take p++Ŕ n::(ě é).drop p:=by ext Ŭ
   rw[this];show p3
  have fit1:t1.fits (Æ).size=true:=fits_of (n:=È+1) GK T1 (by rw[AD,F7]) (by rw[Cf];lia);have Dt:layNew t es (Ŕ n) (.int n tk)=(Æ,t1,ÿ,ÿ):=by
   unfold layNew;rw[fs];ext æ;rw[hT];ext æ;unfold SetTable.orStandIn;rw[fit1];rfl
  have BS:(Æ).size<=Ŵ:=by
   rw[GK];ext Ĩ;lia
  have GN:(FN.map û).Nodup:=by
   ext ï
  have HA:=kh (FC:=Æ) (t':=t1) ho;have sb:=ö ä a (Ņ (Æ) t1);have FO:t1.fill=È+1:=by
   have l:=T1.len;rw[AD,F7] at l;unfold ŏ;rw[T1.rW,l];simp
  rw[Dt];ext æ;exact gV (m:=pure Unit.unit) Ć;rw[CG];simp![Ż];exact gV (m:=pure true) Ć;simp![Ż];exact gV (ĭ);by_cases hf:t1.tooFull=true
  .rw[hf];simp![CZ,DG,Ż];have FJ:Ê*3<=(È+1)*5:=by
    have:=hf;ext â
   let#[M',g1,g2,g3]:=bh È Ê T.mask AZ FJ hn;let#[es2,t2,xs2,r1,r2,r3,r4,r5,r6,r7,r8]:=Ut ñ (t:=t1) Gy g1 (wanted:=grown (Æ).size) (by rw[GK];show g2) (by rw[F7];show g3);rw[r1];ext æ;exact gV (m:=pure Unit.unit) (Ad (gV (wpAny_storeSet_of HA rfl ?_ (by rw[r8];show BS))));exact Ad ?_;ext æ;exact Ad (h _ xs2 true (sb.trans (ö _ a _)) #[#[es2,ep+1+1,t2,kh HA,r2,r4,by rw[r6];show Ar,by rw[r7];show CG,by rw[r3.length_eq,F7,r5];show g3],(r3.map _).nodup_iff.mpr GN] (.inr #[hm,r3.trans Fd]))
  .have FZ:t1.tooFull=ÿ:=by exists hf
   ext Á3;have FJ:(È+1)*5<Ê*3:=by
    have:=FZ;ext â
   exact Ad ?_;ext æ;show Ad (h _ FN true sb #[#[_,ep+1,t1,HA,Gy,T1,Ar,CG,by rw[F7,Cf];show FJ],GN] (.inr #[hm,Fd]))
end
def Nums (Aa:AB) (ns:Ä):Prop:=∀ ŋ v,ķ->∃ n t,v=.int n t/\ns[i]?=↑n
section
variable {É}{A:š}{Å7}{Ġ}{Aa:AB}{ns:Ä}
def N2 Â0{Sa:Addr}{wr:List Addr}(hSw:Sa∉wr) (hN:Nums Aa ns):Kd ì A ż Aa ns Sa wr (λ h xs=>qW ì h Sa xs led) (λ _=>True) where
 nd:=λ S=>S.nd
 keep:=λ k _ S=>let #[#[es,ep,t,ho,r],nd]:=S;#[#[es,ep,t,k ė hSw ho,r],nd]
 kL:=λ _ T=>T
 add:=λ{s xs i v Q E} _ S hl hv hQ=>by
  let#[m,t,rfl,hr]:=hN i v hv;unfold setAdd;exact za6 (gV ((Á).pyHash (A:=A) (k:=m) (nV.mpr rfl) ?_));show add_int (s:={ s with toks:=s.toks+1 }) (A:=A) S hl λ h' Fg rr sb S' hx=>hQ h' _ Fg rr m t rfl hr sb (CN ė) S' hx
def V_ Ã6 ø(ho:Ä3 a=↑ Ő):qW ì h a [] (sJ w):=
 #[#[Ŧ,0,_,ho,rfl,ē,rfl,rfl,by change 0*5<7*3;lia],.nil]
def K2 {l:Addr}{Q:Af}ù (hl:s.heap.IsList l Aa) (hT:Nums Aa ns) (hn:ŧ<70)
  (h:∀ Ō xs,qW ì h' À xs (sJ w)->Up ż Aa ns ŧ xs->Ċ):
  Į:=
 YY hh (.inl hl) hn (N2 #[] hT) (λ h e=>V_ e) (λ _ _=>trivial) h
end
end ST
namespace L4
open PySem ď
def Kg É{A:š}Å7 Ġ{vs:Ah}{ns:Ä}(hI:IntsAre vs ns) (h2:2<=vs.length) (FW:vs.length<64):
  Core ì A E vs (λ out=>∃ Gu,IntsAre out.toList Gu/\Gu.Perm ns/\Gu.Pairwise (·<=·)) s:=by
 obtain⟨v1,v2,E8,rfl⟩:∃ v1 v2 E8,vs=Ň:=by
  match vs,h2 with
  | Ň,_=>show#[v1,v2,E8,rfl]
 unfold Core;rw[keyKind_ints hI];exact Ad #[rfl,?_];exact za5 (wpS_sortRuns (a₀:=pairsOf (Ň)) (st:=SortSt.mk' oneType' ((Ň).toArray.zip (Ň).toArray) Ŧ 7 none)
   (Q:=λ _ E7=>(arrOf E7).Perm (pairsOf (Ň))/\failedOf E7=none/\SortedTo (arrOf E7) (pairsOf (Ň)).size)
   hI.intKeys #[Array.Perm.refl _,rfl,rfl,rfl] (by rw[pairsOf_size];simp) (by rw[pairsOf_size];show FW) λ E7 a1 a2 a3=>#[a1,a2,a3]) ?_ λ _ _ e=>e
 rintro⟨⟨⟩,E7⟩ s' ⟨rfl,hp,hf,hs⟩;show#[rfl,hf,sorted_out hI hp hs,by rw[hp.size_eq,pairsOf_size]]
end L4
namespace L5
open PySem Á7 L2 L3
open ď hiding St
structure Bq (mg:AA):Prop where
 set:mg "set"=none
 zip:mg "zip"=none
 enumerate:mg "enumerate"=none
section
variable {X:Cx}{K:Ac}{a b c e:Expr}{ta tb tc:zv}{pos:Pos}{fa fb fc:Ae}
def oI (f g:yK) (ta tb tc:zv):zv:=fun δ S Q=>ta δ S λ x S1=>tb δ S1 λ y S2=>f x y S2 λ z S3=>match z with
 | .bl k=>if k=true then tc δ S3 λ w S4=>g y w S4 Q else Q (.bl ÿ) S3
 | _=>False
def oI.mo {f g:yK}ł:yo Á8:=fun δ S Q Q' hq h=>
 ha δ S ė (λ x S1 h=>hb δ S1 ė (λ y S2 h=>hf x y S2 ė (λ z S3 h=>by
  cases z <;> first
   | show vm (hc δ S3 ė λ w S4 h=>hg y w S4 ė hq h) (hq ė) h
   | show h) h) h) h
theorem WZ {f g:yK}{r r':R2}(hr:xC K f r) (IT:xC K g r') ł {σ:St}{H:Hp}{Q:VK}(h:zK K Á8 σ H Q):cN r r' (zK K ta) (zK K tb) (zK K tc) σ H Q:=by
 let#[δ,S,r1,r2,h]:=h;exact zK.go ha r1 r2 h λ x S1 v H1 h1 q1 e1 p1=>?_;exact zK.go hb (r1.ext e1) p1 h1 λ y S2 w H2 h2 q2 e2 p2=>?_;exact hr v w x y H2 S2 _ (zg.ext e2 x q1) q2 p2 (hf x y S2 ė (λ d S3 z v3 H3 q3 e3 p3=>?_) h2);cases d with
 | bl k=>
  simp![zg] at q3;exact#[k,q3,vm (λ z=>?_) (λ z=>?_) z]
  .exact zK.go hc (r1.ext (ũ)) p3 z λ w4 S4 v4 H4 h4 q4 e4 p4=>?_;show IT w v4 y w4 H4 S4 Q (zg.ext (e3.trans e4) y q2) q4 p4 (hg y w4 S4 ė (λ d S' z=>z.ext ((ũ).trans e4)) h4)
  .show z _ H3 (by simp![zg]) (ũ) p3
 | _=>show z.elim
@[simp] def YV (f g:T->T->Ŏ T) (fa fb fc:Ae):Ae:=fun ρ=>(fa ρ).bind λ x=>(fb ρ).bind λ y=>(f x y).bind λ b=>match b with
 | .bl k=>if k=true then (fc ρ).bind λ z=>g y z else ↑(.bl ÿ)
 | _=>none
def PR {f g:T->T->Ŏ T}{F G:yK}(hf:Good2 zE f F) (hg:Good2 zE g G) (ha:yz fa ta) (hb:yz fb tb) (hc:yz fc tc):xn (YV f g fa fb fc) (oI F G ta tb tc):=λ S Z δ ρ y Q hE e hq=>by
 let#[x1,e1,e]:=An.mp e;let#[x2,e2,e]:=An.mp e;let#[b,e3,e]:=An.mp e;exact ha S Z δ ρ x1 _ hE e1 λ d1 S1 s1 r1=>?_;exact hb S1 Z δ ρ x2 _ (hE.grow s1) e2 λ d2 S2 s2 r2=>?_;exact hf S2 Z x1 x2 b d1 d2 _ (hE.grow (s1.trans s2)).zd (Vw.grow r1 s2) r2 e3 λ c S3 s3 r3=>?_;split at e
 .have:=r3.1;simp![Sn] at this;subst this;split at e
  .rename_i hk;let#[x4,e4,e5]:=An.mp e;ext æ;rw[ī hk];exact hc S3 Z δ ρ x4 _ (hE.grow (Đ)) e4 λ d4 S4 s4 r4=>?_;show hg S4 Z x2 x4 y d2 d4 Q (hE.grow ((Đ).trans s4)).zd (Vw.grow r2 (s3.trans s4)) r4 e5 λ c' S5 s5 r5=>hq c' S5 (((Đ).trans s4).trans s5) (Cl.cl ((Đ).trans s4) r5)
  .rename_i hk;ext æ;rw[ć hk];cases e;show hq _ S3 (Đ) ŕ
 .cases e
def RY {op Hc:CmpOp}{f g:yK}{r r':R2}(ho:yx X (compareOp op) r) (FL:yx X (compareOp Hc) r') (hr:xC X.K f r) (IT:xC X.K g r') (hf:wK f) (hg:wK g) (ha:PD X a ta) (hb:PD X b tb) (hc:PD X c tc)
  (hm:lastMarks [op,Hc] [b,c]=ÿ:=by with_unfolding_all rfl):PD X (.Compare a [op,Hc] [b,c] pos) Á8:=
 #[oI.mo hf hg ha.mo hb.mo hc.mo,PE.imp (TH ho FL ha.pe hb.pe hc.pe hm) λ _ _ _ h=>WZ hr IT hf hg ha.mo hb.mo hc.mo h]
end
end L5
namespace L2
open PySem Á7 ď
section
variable {X:Cx}
def Qt:yx X (compareOp .Is) (λ x y H Q=>ū):=by
 ext ĝ;show is_bool #[.bl _,H,I,rfl,q]
def av:yx X (compareOp .IsNot) (λ x y H Q=>Ű):=by
 ext ĝ;show isnot_bool #[.bl _,H,I,rfl,q]
end
end L2
namespace L5
open PySem Á7 L2 L3
open ď hiding St
section
variable {X:Cx}{K:Ac}{a b c e o i v:Expr}{es:List Expr}{ta tb td ty tv:zv}{pos p pos':Pos}
def ltS:T->T->Ŏ T
 | .int i,.int j=>↑(.bl (decide (i<j)))
 | .tup ts,.tup us=>(uq ts).bind λ ns=>(uq us).map λ ms=>.bl (HT.lexLt ns ms)
 | _,_=>none
def xH (neg:Bool):yK:=λ x y S Q=>match x,y with
 | .bl c,.bl d=>Q Â5 S
 | x,.zp=>Q (.bl (cond neg (!ou x) (ou x))) S
 | _,_=>False
def wB (neg:Bool):T->T->Ŏ T
 | .bl c,.bl d=>↑ Â5
 | x,.zp=>↑(.bl (cond neg (!isNone x) (isNone x)))
 | _,_=>none
def xH.mo {neg:Bool}:wK (xH neg):=λ x y S Q Q' hq h=>by
 unfold xH at h ⊢;split at h
 .show hq ė h
 .show hq ė h
 .show h.elim
def xH.fits:xC K (xH ÿ) (λ x y H Q=>(ū)\/(y=.zp/\Q (.bl (decide (x=.zp))) H)):=λ x y d e H S Q h1 h2 h3 h=>by
 unfold xH at h;split at h
 ext Ť
 ext Ł
 .show h.elim
def xH.Ya:xC K (xH true) (λ x y H Q=>(Ű)\/(y=.zp/\Q (.bl (!decide (x=.zp))) H)):=λ x y d e H S Q h1 h2 h3 h=>by
 unfold xH at h;split at h
 ext Ť
 ext Ł
 .show h.elim
def N9 {S:SS}{Z:Addr->Prop}{x:T}{d:D}(hx:Vw S Z x d):ou d=isNone x:=by
 cases x with
 | zp=>cases hx.zp;rfl
 | bl _=>cases hx.bl;rfl
 | int _=>cases hx.int;rfl
 | str _=>cases hx.str;rfl
 | tup _=>let#[ds,rfl,_]:=hx.tup;rfl
 | lst _=>obtain⟨ds,rfl | ⟨a,rfl,h1⟩,h2⟩:=hx.lst <;> rfl
 | xh=>let#[a,Ab,#[rfl,_],h1]:=hx.xh;rfl
 | err _ _ _=>let#[x,rfl,_]:=hx.err;rfl
def MI {neg:Bool}:Good2 zE (wB neg) (xH neg):=λ S Z x y z d e Q hz hx hy ef hq=>by
 unfold wB at ef;split at ef
 .cases ef;cases hx.bl;cases hy.bl;show hq _ S (.refl S) ŕ
 .cases ef;cases hy.zp;have key:Q (.bl (cond neg (!ou d) (ou d))) S:=by
   rw[N9 hx];show hq _ S (.refl S) ŕ
  unfold xH;cases d <;> show key
 .cases ef
)
example:=`(
example À:=s.heap.objs.size
example Ř:=Str.ofString "__next__"
example Ç:=.ref
example ŧ:=.none
example Å5:=(Ç z)
example ß:=false
example Á:=by exact gV (zaH (zaB (name:=Ř) hT F.slot_zip_next (za7 F.slot_zip_next hT F.entry_zip_next ?_ (F.args_zip_next_1 _))));exact gV (m:=field Å5 2) (za4 hz rfl (x:=.bool ß) rfl ?_);exact gV (m:=field Å5 3) (za4 hz rfl (x:=Ç TI) rfl ?_);exact gV (m:=seqItems? (Ç TI)) (zaA DW rfl ?_);exact gV (m:=Builtin.SmallTypes.ownedTupleIsFree Å5) (gV (m:=field Å5 0) (za4 hz rfl (x:=ŧ) rfl (Ad ?_)));simp![if_true]
example Þ:=.int
example Â:=by let#[ol,g1,_,n,g2]:=hl;exact gV (zaB (name:=Ř) ht F.slot_tuple_iterator_next (za7 F.slot_tuple_iterator_next ht F.entry_tuple_iterator_next ?_ (F.args_tuple_iterator_next_1 _)));exact gV (m:=field (Ç it) 0) (za4 e1 e3 (x:=Ç l) rfl ?_);dsimp only;rw[if_neg (show ¬ ((Value.ref l == Value.none)=true) from CU)];exact gV (m:=field (Ç it) 1) (za4 e1 e3 (x:=Þ i 0) rfl ?_)
example Ã:=PyProof.Rows
example Å8:=e1.extBut
example Å4:=IsPair
example ò:=Builtin.SmallTypes.nextOf
example Û _:=x _ _
example À7:=wpAny_onRaise
example æ:=Ne.symm
example Ċ _:=x (s1.on λ o q=>Å8 Û (æ n3) q) (h1.on λ o q=>Å8 Û a1 q) hx
example Ä:=by exact gV (gV (À7 (gV (m:=ò (Ç i1)) (draw Ċ λ g2 s12 e2=>Ad ?_))));have to2:Å4 g2 TO a b:=e2.extBut Û n8 (Å8 Û (æ n2) Ex);exact gV (zaA to2 rfl (gV (wpAny_updateSeq_pair to2 λ g3 to3 e3=>gV (wpAny_letGo (Ad ?_)))))
example ŗ:=or_false
example Å:=by let#[nd,f1,f2]:=D;simp![Bu,Ak,Bi,ŗ,not_or,List.nodup_nil,and_true,not_false_eq_true] at nd f1 f2;let#[#[n1,n2,n3,n4],#[n5,n6,n7],#[n8,n9],n10]:=nd;let#[a1,a2,a3,a4,a5]:=f1;let#[b1,b2,b3,b4,b5]:=f2;let#[hz,DW,#[a,b,Ex],s1,s2]:=S
example Æ:=[z,TI,TO,i1,i2]
example ů:=Shared
example È{prog:Program}{w:World}{A:Around}{E:Af}{s:ů}:=0
example É:=Option
example ģ _:=x z TI TO .ellipsis
example Ê:=by unfold pyNext;ext Á;exact gV (zaC (gV (za4 hz rfl (x:=Ç TO) rfl (gV (zaI hz #[] λ g1 G6 e1=>?_)))));replace G6:IsZip g1 ģ:=G6;exact gV ?_;simp![C9,List.zipIdx_nil,DS,List.forIn_nil]
example Ë:=PySem.Spec
example Ú:=s.heap.push
example Ā:=[].toArray
example Ì:=Ú (seqObj "list" Ā 0)
example Ŭ _:=x k1 k2
example è:=s.heap
example Í _:=x Ŭ è l1 l2
example Ŧ:=wpAny
example á _:=x (model prog w) A
example Î:=Ŧ á (ò (Ç it)) Q E s
example Ï:=List.replicate
example Ð:=xs.length
example Ñ:=by have nd:=D.nd;simp![Bu,Ak,Bi,ŗ,not_or] at nd
example Ò:=by intro X hP hw hK hc i E6 s σ H E I hf st hg;subst hP hw hK
example Ó:=(upd H l (.ext (ST.yP w l us)))
example Ô:=s.heap.get?
example Õ:=by let#[δ,S,r1,r2,z]:=hu
example Ö:=.fields [ŧ,.bool ß,Ç À,rawInt 0,ŧ,ŧ].toArray
example Ø:=List Int
example Ù:=(upd H r (.ext (u9 r j)))
example Ü _:=x z TI TO i1 i2 l1 l2
example î:=.type
example ĸ:=î "StopIteration"
example Â7:=(∃ o,h'.get? e=↑o/\o.cls=ĸ)
example Ý(hx:xs[i]?=none) (hE:∀ h' e,Heap.ExtBut it è h'->Â7->E (Ç e) { s with heap:=h' }):=0
example Å7:=e3.extBut
example à:=by have up:∀ c o,c≠z->c≠i1->c≠TO->Ô c=↑o->g3.get? c=↑o:=λ c o c1 c2 c3 q=>Å7 Û c3 (e2.extBut Û c2 (Å8 Û c1 q))
example â:=by simp![Ak,Bi,ŗ] at hb
example ã:=items.size
example Ã1:=List.range
example Ő:=λ(k:Nat)=>V.int (k:Int)
example û:=.lst
example ä:=û ((Ã1 j.toNat).map Ő)
example å(ha:PD X a ta) (hb:PD X b tb):=0
example ç:=by simp![zg]
example Ŋ:=(Ç l)
example é:=by have ht:=hit.typeIs;let#[oi,e1,e2,e3]:=id hit;ext Â;dsimp only;exact gV (m:=seqItems? Ŋ) (zaA g1 g2 ?_)
example Ĥ _:=x (v_ st) (yZ st) (zW st) ŧ kV
example ê:=K.lookup f=↑#[oc,od,.func (PySem.W.fnOf x x Ĥ dc pm an cd ct),sl]
example Æ5:=x2.trans e3
example ë:=fun δ5 S5 #[m',b,w5] σ5 H5 b1 b2 b3=>#[(Æ5).trans b2,δ5,S5,m',b,b1,b3,w5]
example ì:=PySem
example í:=X.env
example Ä0(k1 k2:Bool):=0
example ï Ä0 (h:Heap) (l1 l2:Addr):=0
example ð{es:List Expr}:=0
example ñ:=Ô c=↑o->h'.get? c=↑o
example ó:=.new hp _
example ô:=Value
example õ:=Þ (if b<a then b else a)
example ö:=.Subscript o i pos'
example ø:=by intro E6 s σ H xs us Q I r h
example Ÿ{k:Bool}:=0
example ù Ÿ{l:Addr}{xs:AB}:=0
example Æ7:=AutoSeq1.wpAny_loadPart' hl
example ú:=by wp_walk using Æ7,made hL
example Ã0:=vs.toArray
example ü:=(Ì).update À (Obj.mapSeq (·++Ã0))
example Ç0{xs:List V}:=0
example ŉ{ds:List D}:=0
example ý ŉ Ç0:=0
example þ:=by let#[u,rfl,ru]:=vals1 r;cases ru
example ÿ(hc:X.calm=true):=0
example ā:=PySem.W.nsIn K mainGlobals x
example Ă _:=x (s2.on λ o q=>up _ o (æ n4) (æ n10) (æ n9) q) (h2.on λ o q=>up _ o b1 b4 b3 q) hy
example ĝ{X:Cx}:=0
example Ç4{K:Ac}:=0
example ă ĝ Ç4{e:Expr}:=0
example Ą:=I.zx.fresh (Ao _)
example ą{it l:Addr}{i:Nat}{xs:AB}:=0
example Ů(h1:SQ è k1 l1 xs) (h2:SQ è k2 l2 ys):=0
example Ć(D:jI Ü) (S:At è Ŭ Ü ŧ n) Ů:=0
example ć:=sizeLine
example Ĉ:=(((zG ã 0 lo:Nat):Int) == 0&&(1:Int) == 1&&(zG ã ã hi-zG ã 0 lo) == ã)=true
example ĉ:=g5.objs.size
example ċ:=Ô l=↑{ cls:=î "list",dict:=dd,data:=.seq items n,slots:=sl }
example Č:=by let#[hp,g,d,tk,os]:=s
example č:=(zD (ha pos E6 s σ H _ I h) λ us s1 #[vs,H1,I1,r1,q1]=>?_)
example Ď:=k.toNat
example ď:=by simp![Ak,Bi,ŗ,not_or] at hc
example Đ{k1 k2:Bool}{z TI TO i1 i2 l1 l2:Addr}:=0
example đ:=HT.zG Ð 0 lo=0/\HT.zG Ð Ð hi=Ð
example À6:=.Name
example Ē:=.Call (À6 "range" p2) [e] [] FH
example Ń:=An.mp e
example Ŷ _:=x Z δ ρ
example ē:=by let#[ys,e1,e2]:=Ń;exact h S Ŷ ys _ hE e1 λ ds S1 s1 r1=>?_
example Ĕ(X:K.In h) (G:h.Ns mainGlobals mg):=0
example ĕ:=by let#[f,oc,od,kV,dc,pm,an,cd,ct,sl,a,l,c,k]:=H
example Ė:=#[_,rfl,h]
example ė:=Heap.size_push
example Ę:=starEach
example ę:=É Int
example Ě:=(s1.trans s2).trans s3
example ě:=s1.heap.objs.size
example Ĝ:=.Call (À6 "set" p2) [e] [] FH
example Ğ:=(xs.map λ e=>Value.int e.1 e.2)
example ğ:=mf (λ _ _ _=>vy) λ _ _ _=>nofun
example Ġ(he:AJ X e es) (Ap:AO X pos es):=0
example ġ:=by intro xs n h;simp![zk] at h
example Ģ:=î "tuple"
example ĥ:=by have ex:x'=x:=by have:=f1 _ m1;rw[GA] at this;show (Bb this).symm
example Ħ:=.cons
example ħ(hit:s.heap.IsTupleIter it l i) (hl:s.heap.IsTuple l xs):=0
example Ĩ _:=x X (.Tuple es kk pos') (.Call (À6 "enumerate" p) [a] [] pos)
example ĩ _:=x (T:="StopIteration") (b:=true) #[o,ho,hc] isSubtype_stop
example Ī:=by let#[d,rfl,h1]:=vJ hv
example ī _:=x lo hi
example Ĭ{P:Program}{w:World}Ç4:=0
example ĭ:=by ext Õ;exact xY.go ha.mo r1 r2 z λ ds S1 vs H1 h1 q1 e1 p1=>?_
example Į(hh:A.handled=none):=0
example į:=by have q':Ô b=↑o:=by rw[Heap.get?_push_ne Û _ Dy] at q;show q
example İ:=by let#[x,hx,h1]:=h0.one;subst hx
example À3 _:=x K H
example ı:=zk À3 ds xs
example Ĳ:=[a,b]
example ĳ:=sb.extBut
example Ĵ:=us.length
example Ŵ:=î "enumerate"
example Æ6:=Ú (vV k l)
example ĵ:=(Æ6).push { cls:=Ŵ,data:=Ö }
example Ķ:=by let#[it1,rv1,q1]:=g1.of I;let#[it2,Hb,q2]:=g2.of I
example ķ _:=x X (.Tuple es kk pos') (.Call (À6 "zip" p) Ĳ [] pos)
example Ĺ:=AK _ rfl
example ĺ:=Aa.toArray
example Ļ:=I.ok.hd hc
example ļ:=(ns.map V.int)
example Ľ(K:Ac):=0
example ľ{fa fb:Ae}{ta tb:zv}(ha:yz fa ta) (hb:yz fb tb):=0
example Ŀ:=(x == ("__debug__":Str))=ß
example ŀ:=(show h.IsTuple l xs from x)
example Ł:=Ô b=↑o->h'.get? b=↑o
example ł:=λ S3 Z3 δ3 F3=>#[m,B6 m,Z3,ρ2,F3,e']
example ń:=xs[i]?=↑x
example Ņ:=λ b hb=>I1.kX (nw b hb) (I1.zx.fresh (nw b hb))
example ņ:=IntsAre
example Ň:=Ú { cls:=Ģ,data:=.seq [Þ i tk,u].toArray }
example ň(n:Nat):=0
example ŋ:=.tup
example Ō:=(show h.IsList l xs from x)
example ō:=g5.push { cls:=Ģ,data:=.seq [x,y].toArray }
example Ä4:=(ß,eval a í)
example Ä2:=(ß,eval b í)
example Ŏ:=Ę Ĳ í=[Ä4,Ä2]
example ŏ:=List T
example ő _:=x δ S
example Œ _:=x pE λ i j=>Þ (i/j)
example œ _:=x pD λ i j=>Þ (i*j)
example Ŕ _:=x Û hc.2.2.2.2 (up c o hc.1 hc.2.2.2.1 hc.2.2.1 q)
example ŕ:=by ext Å;have hT:s.TypeIs Å5 "zip":=#[_,hz,rfl]
example Ŗ:=e5.extBut
example ř:=(Þ (if i<0 then -i else i))
example Ś(k:Bool):=0
example ś:=Heap.SameBut it è h'->Q x { s with heap:=h' }
example Ŝ:=Ú { cls:=Ģ,data:=.seq [u1,u2].toArray }
example ŝ:=SQ è k l xs
example Ş:=(vV k1 l1)
example ş:=(oy Í).get?
example Š:=s.toks
example š:=List.zipWith
example Ţ:=(λ x y=>D.tup [x,y])
example ţ:=List α
example Ť:=sI (o5 (λ _ _ _=>wy) λ _ _ _=>nofun) ha hb
example ť _:=x k1 k2 h l1 l2
example Ũ:=u _ (p1 Û rfl)
example ũ:=λ v z=>by cases z
example Ū:=[Value.int a t1,Value.int b t2].toArray
example ū:=λ z=>hb (by simp[z])
example ŭ _:=x Û n4 (Å7 Û n2 (e2.extBut Û n3 G6))
example Ű:=hq _ S (.refl S) (Cl.of (λ _=>nofun) wy)
example ű:=(by simp;lia)
example Ų:=h S Ŷ x _ hE e1 λ d S1 s1 r1=>?_
example ų:=(.ext (yP X.w l us))
example ŵ{H:Hp}:=0
example ŷ(l:Addr):=0
example Ź(ha:y_ X (e::es) tA):=0
example ź:=r1.ext e1
example Ż:=(Shared.heap #[hp,g,d,tk,os])
example ż:=h1.elim
example Ž:=xs=[Ç p]
example ž:=É Addr
example ſ:=by let#[a1,us,rfl,g1,g2]:=zV.k d1 p1 s1
example À0:=(e1.trans e2).trans
example À1:=(∀ c o,c∉ Æ->ñ)
example À2:=PySem.W.mg_of X G a
example À4(I:Inv X E6 σ H s):=0
example À5(is:List Nat) (c:Ev->É Bool) (b:Sm):=0
example À8:=λ zs hz=>by rw[hz.inj I g1];show hx
example À9:=h _ H1 e1 p1 λ i H2 S2 x1 x2 hk=>?_
example Á0:=#[by change 2<=ć;decide,.new _]
example Á1:=(ups S l (û ((vg ns).map D.int)))
example Á2:=fun δ' S'=>∃ m',m'<m/\W m' δ' S'
example Á3:=by simpa [BX,argBest] using hP.symm
example Á4 _:=x I1 kk λ b hb=>#[FZ b hb,(hf b hb).2]
example Á5:=É (Ev->É T)
example Á6:=.inl (ZL S Z _ z ds Q hz hv e hq)
example Á7:=ŋ [Þ i,x]
example Á8:=Array (É ô)
example Á9:=[Þ a,Þ b]
example Â0{tA:ym}{pos p:Pos}:=0
example Â1:=(show X.A.in1.handled=none from Ļ)
example Â2:=by rcases hb with e | e | e | e | e <;> subst e
example Â3:=by exact#[ó,x2.new hp,?_];simp![zg]
example Â4(Ap:AO X pos []) (Hi:AO X FH []):=0
example Â5:=#[o,f o ho,r]
example Â6:=.fields [Ç l,Þ 0 0].toArray
example Â8:=(kR Í).objs.size
example Â9:=PyProof.Rows.slot_tuple_getitem
example Ã2 _:=x (av.or au) xH.Ya xH.mo ha hb (uG _)
example Ã3(lo hi:ę):=0
example Ã4:=by ext ġ;let#[y,ys,rfl,h1,h2]:=h
example Ã5 _:=x r1 r2 z λ x S1 v H1 h1 q1 e1 p1=>?_
example Ã6 _:=x ha.pa () ()
example Ã7 _:=x () () he Ap
example Ã8:=ns.length<64
example Ã9:=by simp[hi]
example Ä1:=(.Compare a [.IsNot] [b] pos)
example Ä3:=fun σ H Q hu=>?_
example Ä5(ha:y_ X [e] tA):=0
example Ä6 _:=x (fI.fits λ _ _ _=>ç) fI.mo ha hb
example Ä7:=zk.ext (ó) _ (zk.cut g2 ī)
example Ä8:=(by rw[<- rv.length];show hz)
example Ä9:=[e,it]
example Å0:=PySem.W.keepIn K (Ç f)=true
example Å1(hit:SI è k it l i) (hl:ŝ):=0
example Å2:=(f ρ).bind
example Å3:=SQ h k l xs
example Å6:=e4.extBut
example Å9:=wq À3 k1 a1 xs
example Æ0:=wq À3 k2 a2 ys
example Æ1:=λ v z=>by rw[d1] at z;cases z
example Æ2:=PyProof.Rows.callWith_type1
example Æ3:=Builtin.List.listExtendWith
example Æ4:=rows.length<256
example Æ8:=#[_,ho,rfl]
example Æ9{Q:Af}:=0
example Ç1{g:Ev->É (ŏ)}(h:pd g tA):=0
example Ç2(t:É zv):=0
example Ç3:=by let#[Aa,rv,pl,hz]:=I.list hq
def RD å:PD X Ä1 (yu (xH true) ta tb):=nC Ã2
def Sb å:xm X (.Compare a [.Is] [b] pos) (ua (yu (xH ß) ta tb)):=rD (Qt.or Qs) xH.fits xH.mo ha hb (uG _)
def T_ å:xm X Ä1 (ua (yu (xH true) ta tb)):=rD Ã2
def YA (td ty tv:zv):yC:=λ E δ S=>tv ő λ v S1=>td δ S1 λ x S2=>ty δ S2 λ y S3=>∃ p ds k j,x=Ç p/\y=Þ k/\S3 p=↑(û ds)/\wV ds.length k=↑j/\E.nx δ (ups S3 p (û (ds.set j v)))
theorem zk.set ŵ{d:D}{x:V}(h:zg À3 d x):∀ ý(j:Nat),ı->zk À3 (ds.set j d) (xs.set j x)
 | [],xs,j,r=>by simp![zk] at r;subst r;show .nil
 | c::ds,xs,0,r=>by
  simp![zk] at r;let#[y,ys,rfl,_,r2]:=r;show Ħ h r2
 | c::ds,xs,j+1,r=>by
  simp![zk] at r;let#[y,ys,rfl,r1,r2]:=r;show Ħ r1 (zk.set h j r2)
def S7 (ho:PD X o td) (hi:PD X i ty) (hv:PD X v tv) (hs:swapsWithSole [ö] v pos.line í=pure ß) (hw:swappedStores [ö] v í=pure none)
  (h1:(assignEach [ö] í).map (·.2)=[assign (ö) í])
  (ha:∀ v,assign (ö) í v=(do
   let ov <- holding [v] (eval o í)
   let iv <- holding [v,ov] (eval i í)
   standAt pos'
   holding [v,ov,iv] (setItem ov iv v)
   release [v,ov,iv] [])):xW X (.Assign [ö] v pos) (YA td ty tv):=by
 exact#[λ E E' δ S hE z=>hv.mo ő Û (λ w S1 z=>ho.mo δ S1 Û (λ x S2 z=>hi.mo δ S2 Û (λ y S3 #[p,ds,k,j,a,b,c,d,h]=>#[p,ds,k,j,a,b,c,d,hE.nx Û h]) z) z) z,PS.imp (bQ hv.pe (Tc ho.pe hi.pe set_list ha) hs hw h1) λ D σ H hu=>?_];ext Õ;exact zK.go hv.mo r1 r2 z λ w S1 w1 H1 h1 q1 e1 p1=>?_;exact zK.go ho.mo (ź) p1 h1 λ x S2 w2 H2 h2 q2 e2 p2=>?_;exact zK.go hi.mo ((ź).ext e2) p2 h2 λ y S3 w3 H3 h3 q3 e3 p3=>?_;let#[p,ds,k,j,rfl,rfl,c1,c2,h]:=h3;simp![zg] at q2 q3;subst q2 q3;let#[xs,g1,g2]:=p3 Û c1;have e4:Ext H3 (upd H3 p (û (xs.set j w1))):=û g1 _;exact#[p,xs,k,j,rfl,rfl,g1,by rw[<- g2.length];show c2,?_];show h σ _ ((((ź).ext e2).ext e3).ext e4) ((À0 e3).trans e4) (p3.ups e4 #[_,y7,zk.ext e4 _ (zk.set (zg.ext (e2.trans e3) w q1) j g2)])
@[simp] def nN ň (f v:Ae):Sm:=fun ρ=>(v ρ).bind λ z=>Å2 λ y=>match ρ[n]?,y with
 | some ↑(.own (û ts)),Þ k=>(wV ts.length k).map λ j=>.nx (ρ.set n ↑(.own (û (ts.set j z))))
 | _,_=>none
def QC {R:Rk}ň {f v:Ae}(hf:yz f ty) (hv:xX v tv):yn R (nN n f v) (YA (yd n) ty tv):=λ S0 Z0 S Z δ ρ o E F e P=>by
 let#[z,e1,e]:=Ń;let#[x,e2,e3]:=Ń;split at e3
 .rename_i ts k h;let#[j,hj,rfl]:=AF.mp e3;exact hv S Ŷ z _ F.er e1 λ dz S1 s1 r1=>?_;have F1:=F.grow s1;let#[p,ob,h1,h2,h3,h4]:=F1.er.ow n _ h;cases ob with
  | lst ds=>
   change yd n δ S1 _;unfold yd;rw[h1];exact hf S1 Ŷ Û F1.er e2 λ d S2 s2 r2=>?_;cases Vw.int r2;have h5:zj (zB S2 Z) ts ds:=zj.sx (wC s2) ts h3;show#[p,ds,k,j,rfl,rfl,s2 Û h2,by rw[h5.len];show hj,P _ Z δ ((F1.grow s2).mut (us:=û (ts.set j z)) (es:=û (ds.set j dz)) n h h1 (h5.bo j (Sn.sx (wC s2) z r1)))]
  | _=>show h3.elim
 .cases e3
def RK {x y:Str}{u:ô}(hm:X.mg x=↑u) (r:RelV (.str y) u) (hg:Gl X x) (hd:Ŀ):PD X (À6 x pos) (dC (.str y)):=nB (T6 hg hm r hd) λ _=>ç
end
end L5
namespace ZP
open ì Ã
def fk Ś:String:=cond k "tuple_iterator" "list_iterator"
def SI (h:Heap) Ś (it l:Addr) (i:Nat):Prop:=∃ o,h.get? it=↑o/\o.cls=î (fk k)/\o.data=.fields [Ç l,Þ i 0].toArray
def SQ (h:Heap) Ś ŷ (xs:AB):Prop:=match k with
 | true=>h.IsTuple l xs
 | ß=>h.IsList l xs
def SI.on {h h':Heap}Ÿ{it l:Addr}{i:Nat}(x:SI h k it l i) (f:∀ o,h.get? it=↑o->h'.get? it=↑o):SI h' k it l i:=
 let #[o,ho,r]:=x;Â5
def SQ.on {h h':Heap}ù(x:Å3) (f:∀ o,h.get? l=↑o->h'.get? l=↑o):SQ h' k l xs:=by
 cases k with
 | true=>let#[o,ho,r]:=ŀ;show Â5
 | ß=>let#[o,ho,r]:=Ō;show Â5
def SQ.lt {h:Heap}ù(x:Å3):l<h.objs.size:=by
 cases k with
 | true=>let#[o,ho,_]:=ŀ;show Ax ho
 | ß=>let#[o,ho,_]:=Ō;show Ax ho
theorem SQ.cls {h:Heap}ù(x:Å3):∃ o,h.get? l=↑o/\o.cls=î (cond k "tuple" "list"):=by
 cases k with
 | true=>let#[o,ho,c,_]:=ŀ;show#[o,ho,c]
 | ß=>let#[o,ho,c,_]:=Ō;show#[o,ho,c]
section
variable {È}
def made ù Æ9(hl:ŝ)
  (hQ:Q (Ç À) { s with heap:=Ú { cls:=î (fk k),data:=Â6 } }):Ŧ á (pyIter Ŋ) Q E s:=by
 cases k with
 | true=>show zaO hl hQ
 | ß=>show zaJ hl hQ
def LH ą{x:ô}Æ9 ħ (hx:ń)
  (hQ:∀ h',h'.IsTupleIter it l (i+1)->ś):Î:=by
 ext é;simp![Cv,hx];have there:=zaG (Obj.mapFields λ y=>y.setIfInBounds 1 (rawInt ((i:Int)+1))) e1 (Obj.isFreed_of_fields (Obj.data_mapFields e3 _));exact gV (zaL e1 e3 #[] (Ad #[x,rfl,Ad (hQ _ #[_,there,(Obj.cls_mapFields ..).trans e2,?_] (Heap.SameBut.update ..))]));rw[Obj.data_mapFields e3];simp[rawInt]
def L6 ą Æ9 Į ħ Ý:Î:=by
 ext é;simp![Cv,hx];exact gV (zaC (gV (zaL e1 e3 #[] ?_)));exact gV (m:=newExc (ĸ) []) ?_;simp![newExc,newTuple];exact gV (za9 (gV (m:=firstArgMember Û) (wpAny_of_eq (a:=Value.none) (by first | rfl | (simp![firstArgMember];rfl)) (za9 ?_ (by size_fits)))) (by size_fits));simp![raiseNew];exact gV (wpAny_handled ?_);rw[show A.in1.handled=none from hh];show gV (Ad (wpAny_throw (hE Û (((Heap.SameBut.update ..).extBut.push _).push _) #[_,Ĺ,rfl])))
def draw Ÿ ą{x:ô}Æ9 Å1 (hx:ń)
  (hQ:∀ h',SI h' k it l (i+1)->ś):Î:=by
 cases k with
 | true=>show LH hit hl hx hQ
 | ß=>show wpAny_nextOf_list_item hit hl hx hQ
def jh Ÿ ą Æ9 Į Å1 Ý:Î:=by
 cases k with
 | true=>show L6 hh hit hl hx hE
 | ß=>show wpAny_nextOf_list_end hh hit hl hx hE
structure jI (z TI TO i1 i2 l1 l2:Addr):Prop where
 nd:[z,TI,TO,i1,i2].Nodup
 f1:l1∉ Æ
 f2:l2∉ Æ
structure At (h:Heap) Ä0 (z TI TO i1 i2 l1 l2:Addr) (f0:ô) ň:Prop where
 z:IsZip h z TI TO f0
 ti:Å4 h TI (Ç i1) (Ç i2)
 to:∃ a b,Å4 h TO a b
 s1:SI h k1 i1 l1 n
 s2:SI h k2 i2 l2 n
def At.keep {h h':Heap}Đ{f0:ô}{n:Nat}(S:At h Ŭ Ü f0 n) (f:∀ b∈ Æ,∀ o,h.get? b=↑o->h'.get? b=↑o):At h' Ŭ Ü f0 n:=
 #[f z #[] _ S.z,f TI #[] _ S.ti,let #[a,b,e]:=S.to;#[a,b,f TO #[] _ e],S.s1.on (f i1 #[]),S.s2.on (f i2 #[])]
def item Đ{n:Nat}{xs ys:AB}{x y:ô}{Q:É ô->ů->Prop}Ć (hx:xs[n]?=↑x) (hy:ys[n]?=↑y)
  (hQ:∀ h',At h' Ŭ Ü (rawInt À) (n+1)->Å4 h' À x y->À1->Q ↑(Ç À) { s with heap:=h' }):
  Ŧ á (pyNext Å5) Q E s:=by
 ext ŕ;ext Ê;ext Ä;replace to3:Å4 g3 TO x b:=to3;ext à;exact gV (gV (À7 (gV (m:=ò (Ç i2)) (draw Ă λ g4 s24 e4=>Ad ?_))));have to4:Å4 g4 TO x b:=Å6 Û n9 to3;exact gV (zaA to4 rfl (gV (wpAny_updateSeq_pair to4 λ g5 to5 e5=>gV (wpAny_letGo (Ad (Ad ?_))))));replace to5:Å4 g5 TO x y:=to5;exact gV (zaA to5 rfl (gV (wpAny_newTuple ?_)));have sz:ĉ=À:=by rw[e5.1,e4.1,e3.1,e2.1,e1.1]
 have hz5:IsZip g5 ģ:=Ŗ Û n2 (Å6 ŭ);have up5:∀ c o,c∉ Æ->Ô c=↑o->g5.get? c=↑o:=λ c o hc q=>by
  ext ď;show Ŗ Û hc.2.2.1 (Å6 Ŕ)
 have ti5:Å4 g5 TI (Ç i1) (Ç i2):=Ŗ Û n5 (Å6 Û n7 (up Û (æ n1) n6 n5 DW));have s15:SI g5 k1 i1 l1 (n+1):=s12.on λ o q=>Ŗ Û (æ n8) (Å6 Û n10 (Å7 Û (æ n8) q));have s25:SI g5 k2 i2 l2 (n+1):=s24.on λ o q=>Ŗ Û (æ n9) q;have lz:z<ĉ:=Ax hz5;exact gV (m:=Builtin.SmallTypes.ownedTupleHandOut Å5 (Ç ĉ)) ?_;have hz6:IsZip (ō) ģ:=za1 _ hz5;exact gV (zaI hz6 #[] λ g7 hz7 e7=>?_);replace hz7:IsZip g7 z TI TO (rawInt ĉ):=hz7;exact zaI hz7 #[] λ g8 hz8 e8=>?_;replace hz8:IsZip g8 z TI TO (rawInt ĉ):=hz8;have up8:∀ c o,c≠z->(ō).get? c=↑o->g8.get? c=↑o:=λ c o c1 q=>e8.extBut Û c1 (e7.extBut Û c1 q);have T8:Å4 g8 ĉ x y:=up8 Û (BM lz) (Ĺ);have HM:∀ c o,c≠z->g5.get? c=↑o->g8.get? c=↑o:=λ c o c1 q=>up8 c o c1 (za1 _ q);rw[sz] at hz8 T8;exact Ad #[Ç ĉ,rfl,Ad ?_];change Q ↑(Ç ĉ) _;rw[sz];exact hQ g8 #[hz8,HM Û (æ n1) ti5,#[x,y,HM Û (æ n2) to5],s15.on λ o q=>HM _ o (æ n3) q,s25.on λ o q=>HM _ o (æ n4) q] T8 λ c o hc q=>HM c o (λ e=>hc (by simp[e])) (up5 c o hc q)
def stop Đ{n:Nat}{xs ys:AB}{Q:É ô->ů->Prop}Į Ć (Ci:xs[n]?=none\/ys[n]?=none)
  (hQ:∀ h',À1->Q none { s with heap:=h' }):
  Ŧ á (pyNext Å5) Q E s:=by
 ext ŕ;have fin:∀ (h':Heap) (e:Addr),À1->Â7->
   Ŧ á (do if <- isInstance (Ç e) (ĸ) then pure none else throw (Ç e)) Q E { s with heap:=h' }:=λ h' e k1 k2=>by
  let#[o,ho,hc]:=k2;show gV (wpAny_isInstance ĩ (Ad (hQ _ k1)))
 ext Ê;cases hx:xs[n]? with
 | none=>
  exact gV (gV (À7 (gV (m:=ò (Ç i1)) (jh hh Ċ λ g2 ex e2 he=>?_))));have hz2:IsZip g2 ģ:=e2 Û n3 G6;let#[oe,q1,q2]:=he;have ne:ex≠z:=λ q=>by subst q;rw[hz2] at q1;cases q1;simp at q2
  exact zaI hz2 #[] λ g3 _ e3=>fin g3 ex (λ c o hc q=>?_) #[oe,Å7 Û ne q1,q2];ext ď;show Å7 Û hc.1 (e2 Û hc.2.2.2.1 (Å8 Û hc.1 q))
 | some x=>
  have hy:ys[n]?=none:=Ci.resolve_left (by rw[hx];simp);ext Ä;ext à;exact gV (gV (À7 (gV (m:=ò (Ç i2)) (jh hh Ă λ g4 ex e4 he=>?_))));have hz4:IsZip g4 ģ:=e4 ŭ;let#[oe,q1,q2]:=he;have ne:ex≠z:=λ q=>by subst q;rw[hz4] at q1;cases q1;simp at q2
  exact zaI hz4 #[] λ g5 _ e5=>fin g5 ex (λ c o hc q=>?_) #[oe,Ŗ Û ne q1,q2];ext ď;show Ŗ Û hc.1 (e4 Ŕ)
end
abbrev vV Ś ŷ:Obj:={ cls:=î (fk k),data:=Â6 }
abbrev oz ï:Heap:=(h.push Ş).push (vV k2 l2)
abbrev kS ï:Heap:=(oz ť).push { cls:=Ģ,data:=.seq [Ç h.objs.size,Ç (h.push Ş).objs.size].toArray }
abbrev kR ï:Heap:=(kS ť).push { cls:=Ģ,data:=.seq [ŧ,ŧ].toArray }
abbrev oy ï:Heap:=(kR ť).push { cls:=î "zip",data:=.fields [ŧ,.bool ß,.bool ß,Ç (oz ť).objs.size,Ç (kS ť).objs.size].toArray }
def OI Ä0 (l1 l2:Addr) (xs ys:AB):Meets (Builtin.«zip.__new__» #[[î "zip",Ç l1,Ç l2],[]]) (λ _ R s=>SQ è k1 l1 xs/\SQ è k2 l2 ys/\
   R (.ok (.ret (Ç Â8))) { s with heap:=oy Í }):=
 .of_wp λ prog w A R s h=>by
  ext Č;let#[q1,q2,h]:=h;have Ey:=sub_zip;have m1:SQ Ż k1 l1 xs:=q1;have m2:SQ (Shared.heap #[hp.push Ş,g,d,tk,os]) k2 l2 ys:=q2.on λ o e=>za1 _ e
  wp_walk using made m1,made m2
  show Ė
section
variable {È}
def new {k1 k2:Bool}{l1 l2:Addr}{xs ys:AB}Æ9 Ů
  (h:∀ h' z TI TO i1 i2,(∀ b∈ Æ,À<=b)->jI Ü->At h' Ŭ Ü ŧ 0->(∀ c o,ñ)->Q Å5 { s with heap:=h' }):
  Ŧ á (call (î "zip") [Ç l1,Ç l2]) Q E s:=by
 exact callType_new F.called_zip () (F.typeCall_zip_2 Û) (F.newCall_zip_2 Û) (λ obj=>F.args_object_init_3 obj Û) F.entry_zip_new (OI Ŭ l1 l2 xs ys) #[h1,h2,?_];have z1:(Ú Ş).objs.size=À+1:=ė ..;have z2:(oz Í).objs.size=À+2:=by rw[ė,z1]
 have z3:(kS Í).objs.size=À+3:=by rw[ė,z2]
 have z4:Â8=À+4:=by rw[ė,z3]
 have p1:∀ (h:Heap) (o:Obj),o.isFreed=ß->(h.push o).get? h.objs.size=↑o:=λ h o e=>AK _ e;have u:∀ {h:Heap}{b:Addr}{o:Obj}(o':Obj),h.get? b=↑o->(h.push o').get? b=↑o:=λ o' e=>za1 _ e;have g5:ş Â8=↑_:=p1 Û rfl;have g4:ş (kS Í).objs.size=↑_:=Ũ;have g3:ş (oz Í).objs.size=↑_:=u _ (Ũ);have g2:ş (Ú Ş).objs.size=↑(vV k2 l2):=u _ (u _ (Ũ));have g1:ş À=↑ Ş:=u _ (u _ (u _ (Ũ)));have a1:=h1.lt;have a2:=h2.lt;rw[z2,z3,z4] at g5;rw[z1,z2] at g3;rw[z3] at g4;rw[z1] at g2;generalize hN:À=N at *;have lt:∀ {m:Nat},m<N->∀ j:Nat,¬ m=N+j:=λ hm j=>⋯;have ne:∀ {i j:Nat},i≠j->¬ (N+i=N+j):=λ Ba e=>Ba ⋯;change _/\_;rw[z4];exact#[#[_,g5,rfl],h _ (N+4) (N+2) (N+3) N (N+1) (λ b hb=>?_) #[?_,?_,?_] #[g5,g3,#[_,_,g4],#[_,g1,rfl,rfl],#[_,g2,rfl,rfl]] λ c o e=>u _ (u _ (u _ (u _ (u _ e))))]
 .ext â;have h0:N<=N:=Ao N;ext Â2
  .show CN N 4
  .show CN N 2
  .show CN N 3
  .show h0
  .show CN N 1
 .have e0:∀ {i:Nat},i≠0->¬ (N+i=N):=λ hi e=>hi ⋯;have e0':∀ {i:Nat},i≠0->¬ (N=N+i):=λ hi e=>hi ⋯;simp![Bu,Ak,Bi,ŗ,not_or,List.nodup_nil,and_true,not_false_eq_true];show#[#[ne (),ne (),e0 (),ne ()],#[ne (),e0 (),ne ()],#[e0 (),ne ()],e0' ()]
 .simp![Ak,Bi,ŗ,not_or];show#[lt a1 4,lt a1 2,lt a1 3,AI a1,lt a1 1]
 .simp![Ak,Bi,ŗ,not_or];show#[lt a2 4,lt a2 2,lt a2 3,AI a2,lt a2 1]
end
end ZP
namespace L2
open ì Ë Ã ZP
section
variable {ĝ}{E6:Aj}{σ:St}{ŵ}{s:ů}
def Inv.lR {h':Heap}{t':Nat}{fp:List Addr}À4 (k:∀ b o,b∉fp->Ł) (hf:∀ b∈fp,ue X E6 H b):Inv X E6 σ H { s with heap:=h',toks:=t' }:=by
 have HZ:∀ b u,H b=↑u->b∉fp:=λ b u e z=>by rw[(hf b z).1] at e;cases e
 exact I.step (g':=s.gens) (d':=s.drawn) (ch:=fp) (λ b hb=>?_) (λ b o _ _ hc e _=>k b o hc e) (λ b o _ _ hc e _=>#[o.slots,k b o hc e]) (λ _ _ _ _ n=>n)
  (λ b o hc e=>#[o,k b o hc e]) (λ _ _ e=>e) (λ _ _ _ e=>e) (λ b ps e=>#[Ā,by rw[e];simp]) (λ m hm=>?_) (λ b u e=>?_) I.bare
 .let#[_,q1,_,q2,q3,q4]:=hf b hb;show#[q2,q1,q3,q4]
 .let#[o,es,ep,ho,r]:=hm;show#[o,es,ep,k _ o (λ z=>(hf _ z).2.1 rfl) ho,r]
 .exact (I.zx b u e).su (λ c v hc q=>k c v ?_ q) (λ _ q=>q) λ _ _ q=>q;rcases hc with z | z
  .rw[z];show HZ b u e
  .show HZ c _ z
def wq Ľ (H:Hp) Ś (a:Addr) (xs:List V):Prop:=match k with
 | true=>yg À3 a xs
 | ß=>zP À3 a xs
def wq.of À4 Ÿ{a:Addr}Ç0(h:wq X.K H k a xs):∃ Aa:List ô,Vals xs Aa/\SQ è k a ĺ:=by
 cases k with
 | true=>let#[Aa,rv,p,_]:=I.tuple h;show#[Aa,rv,p]
 | ß=>let#[Aa,rv,p,_]:=I.list h;show#[Aa,rv,p.isList]
def wq.inj À4 Ÿ{a:Addr}{xs ys:List V}(h:wq X.K H k a xs) (h':wq X.K H k a ys):xs=ys:=by
 cases k with
 | true=>show I.i9 h h'
 | ß=>show I.gW h h'
def XQ Ľ Ä0 (a1 a2:Addr):It:=
 #[λ i H=>∃ xs ys x y,Å9/\Æ0/\ń/\ys[i]?=↑y,
   λ i H v H'=>∃ p x y,v=Ç p/\H p=none/\H'=upd H p (ŋ [x,y])/\(∀ xs,Å9->ń)/\∀ ys,Æ0->ys[i]?=↑y,
   λ i H=>∃ xs ys,Å9/\Æ0/\(Ð<=i\/ys.length<=i)]
def Vg Ĭ ð{kk} {pos:Pos}{k1 k2:Bool}{z TI TO i1 i2 a1 a2:Addr}(D:jI z TI TO i1 i2 a1 a2):
  Turn P w K (.Tuple es kk pos) (XQ K Ŭ a1 a2) Æ z (λ i h=>At h Ŭ z TI TO i1 i2 a1 a2 ŧ i) where
 mem:=#[]
 obj:=λ i h st b hb=>by
  let#[q1,q2,#[_,_,q3],#[o1,q4,_,d1],#[o2,q5,_,d2]]:=st;ext â;ext Â2
  .show#[_,q1,ũ]
  .show#[_,q2,ũ]
  .show#[_,q3,ũ]
  .show#[_,q4,Æ1]
  .show#[_,q5,λ v z=>by rw[d2] at z;cases z]
 keep:=λ i h h' st k=>st.keep k
 item:=by
  ext Ò;let#[xs,ys,x,y,g1,g2,hx,hy]:=hg;ext Ķ;let#[u1,e1,r1]:=rv1.get hx;let#[u2,e2,r2]:=Hb.get hy;exact ZP.item D st q1 q2 (x:=u1) (y:=u2) (by exists e1) (by exists e2) λ h' S' T' up=>#[_,rfl,?_];exact wpAny_letOwnedTupleGo_zip S'.z λ h2 z2 sb=>?_;have nT:À ∉ Æ:=λ hb=>by
   let#[o,ho,_]:=(show ∃ o,Ô À=↑o/\True from by
    let#[w1,w2,#[_,_,w3],#[o1,w4,_],#[o2,w5,_]]:=st;ext â;rcases hb with e | e | e | e | e <;> rw[e]
    .show#[_,w1,trivial]
    .show#[_,w2,trivial]
    .show#[_,w3,trivial]
    .show#[_,w4,trivial]
    .show#[_,w5,trivial])
   show absurd (Ax ho) (B7 _)
  have nz:À ≠z:=λ e=>nT (by simp[e]);have fr:H À=none:=Ą;have I1:Inv X E6 σ (upd H À (ŋ [x,y])) { s with heap:=Ŝ,toks:=Š }:=
   I.laid (o:=ŋ [x,y]) (λ b u q=>za1 _ q) (Ao _) #[Á0,[u1,u2],Ħ r1 (Ħ r2 .nil),IsTup.new Û]
  have FZ:∀ b∈ Æ,upd H À (ŋ [x,y]) b=none:=λ b hb=>by
   rw[yj (λ e=>nT (by rw[<- e];show hb))];show (hf b hb).1
  have kk:∀ b o,b∉ Æ->(Ŝ).get? b=↑o->h2.get? b=↑o:=λ b o hb q=>by
   have hbz:b≠z:=λ e=>hb (by simp[e]);by_cases Dy:b=À
   .subst Dy;rw[Ĺ] at q;cases q;show ĳ Û nz T'
   .ext į
    show ĳ Û hbz (up b o hb q')
  have I2:=Inv.lR (h':=h2) (t':=Š) (fp:=Æ) Á4;exact#[Ç À,_,I2,rfl,#[_,x,y,rfl,fr,rfl,À8,λ zs hz=>by rw[hz.inj I g2];show hy],#[z2,?_,?_,?_,?_],FZ]
  .ext Ñ;show ĳ Û (æ nd.1.1) S'.ti
  .let#[a,b,e]:=S'.to;ext Ñ;show#[a,b,ĳ Û (æ nd.1.2.1) e]
  .ext Ñ;show S'.s1.on λ o q=>ĳ Û (æ nd.1.2.2.1) q
  .ext Ñ;show S'.s2.on λ o q=>ĳ Û (æ nd.1.2.2.2) q
 done:=by
  ext Ò;let#[xs,ys,g1,g2,hx]:=hg;ext Ķ;have l1:=rv1.length;have l2:=Hb.length;exact ZP.stop (Ļ) D st q1 q2 ?_ λ h' up=>#[rfl,I.lR (t':=Š) up hf];rcases hx with hx | hx
  .show .inl ű
  .show .inr ű
 self:=λ _ _ _ _ _ st h=>wpAny_pyIter_zip st.z h
def NM Ľ (ta:TA):TI:=fun σ H R=>ta σ H λ vs H1=>∃ a1 a2 k1 k2,vs=[Ç a1,Ç a2]/\(∃ xs,wq K H1 k1 a1 xs)/\(∃ ys,wq K H1 k2 a2 ys)/\R (XQ K Ŭ a1 a2) H1
theorem UW {a b:Expr}{ta:TA}{p pos pos':Pos}ð{kk} (hg:Gl X "zip") (hm:X.mg "zip"=none) (ha:PA X Ĳ ta) (hs:Ŏ:=by rfl) (Hg:Ę [b] í=[Ä2]:=by rfl):
  PI ķ (NM X.K ta):=by
 intro E6 s σ H R I h;exact Call_ (om I hg hm boot_zip (Æ2 č (by rw[hs,Hg]) (by rw[Hg];rfl)));let#[a1,a2,k1,k2,rfl,#[xs,g1],#[ys,g2],q]:=q1;cases r1 with
 | cons r rr=>
  cases rr with
  | cons r' rr=>
   cases rr;cases r;cases r';let#[it1,_,q1]:=g1.of I1;let#[it2,_,q2]:=g2.of I1;exact ZP.new q1 q2 λ h' z TI TO i1 i2 nw D S up=>wpAny_pyIter_zip S.z ?_;show#[z,Æ,_,_,H1,rfl,I1.kept (t':=s1.toks) up,Vg D,S,Ņ,q]
end
end L2
namespace L5
open ì Ë L2 L3
open Ã hiding St
section
variable {Ç4}{a:Expr}{p:Pos}
def Zr (t:ym):wj:=fun δ S R=>t ő λ ds S1=>∃ d e xs ys,ds=[d,e]/\zV d S1=↑xs/\zV e S1=↑ys/\R #[š Ţ xs ys,λ S=>zV d S=↑xs/\zV e S=↑ys] S1
def nR:D->Bool
 | ŋ _=>true
 | _=>ß
def zV.k ŵ{S:SS}{d:D}{v:V}ŉ(r:zg À3 d v) (p:zN À3 S) (e:zV d S=↑ds):∃ a xs,v=Ç a/\wq À3 (nR d) a xs/\ı:=by
 by_cases q:∃ ts,d=ŋ ts
 .let#[ts,rfl]:=q;cases e;simp![zg] at r;let#[a,xs,h1,h2,h3]:=r;show#[a,xs,h1,h2,h3]
 .let#[a,xs,h1,h2,h3]:=rA r p e λ ts z=>q #[ts,z];exact#[a,xs,h1,?_,h3];have:nR d=ß:=by cases d <;> first | rfl | show absurd #[_,rfl] q
  rw[this];show h2
end
section
variable {ĝ}{a b:Expr}{tA:ym}{pos p pos':Pos}{ð}{kk:Nat}
def SH (hm:X.mg "zip"=none) (ha:y_ X Ĳ tA) (hg:Gl X "zip") (hs:Ŏ) (Hg:Ę [b] í=[Ä2]):
  uW ķ (Zr tA):=by
 exact#[fun δ S Q Q' hq z=>ha.mo ő Û (λ ds S1 #[d,e,xs,ys,h1,h2,h3,h4]=>#[d,e,xs,ys,h1,h2,h3,hq Û h4]) z,PI.imp (UW hg hm ha.pa hs Hg) fun σ H R hu=>?_];ext ĭ;let#[d,e,xs,ys,rfl,s1,s2,h]:=h1;let#[v,u,rfl,d1,d2]:=q1.two;ext ſ;let#[a2,ws,rfl,g3,g4]:=zV.k d2 p1 s2;exact#[a1,a2,nR d,nR e,rfl,#[us,g1],#[ws,g3],À9];let#[b1,HL,q1,m1,m2]:=zV.k (zg.ext x1 d d1) x2 hk.1;cases q1;let#[b2,GY,q2,m3,m4]:=zV.k (zg.ext x1 e d2) x2 hk.2;cases q2;have l1:=m2.length;have l2:=m4.length;exact#[λ dd hd=>?_,λ hl=>#[HL,GY,m1,m3,?_]]
 .rw[List.getElem?_zipWith] at hd;split at hd
  .rename_i dx dy hx hy;cases hd;let#[x,GA,rx]:=m2.get hx;let#[y,hy',ry]:=m4.get hy;exact#[#[HL,GY,x,y,m1,m3,GA,hy'],λ v H' q=>?_];let#[pp,x',y',rfl,hp,rfl,f1,f2]:=q;ext ĥ
   have ey:y'=y:=by have:=f2 _ m3;rw[hy'] at this;show (Bb this).symm
   subst ex ey;ext Â3;show#[pp,_,rfl,yg.of y7,zk.ext (ó) _ (Ħ rx (Ħ ry .nil))]
  .cases hd
 .have Gx:(š Ţ xs ys).length<=i:=hl;rw[List.length_zipWith] at Gx;lia
@[simp] def ig:ŏ->É (ŏ)
 | [x,y]=>(vz x).bind λ xs=>(vz y).map λ ys=>š (λ a b=>T.tup Ĳ) xs ys
 | _=>none
theorem cW {S:SS}:∀ {ts us:ŏ}{ds es:List D},zj S ts ds->zj S us es->zj S (š (λ a b=>T.tup Ĳ) ts us) (š Ţ ds es)
 | [],us,ds,es,h,h'=>by simp![zj] at h;subst h;exists zj.nil
 | t::ts,[],ds,es,h,h'=>by simp![zj] at h';subst h';exists zj.nil
 | t::ts,u::us,ds,es,h,h'=>by
  simp![zj] at h h';let#[c,cs,rfl,h1,h2]:=h;let#[c',Hu,rfl,h3,h4]:=h';show zj.cons (pQ (zj.cons h1 (zj.cons h3 zj.nil))) (cW h2 h4)
def zV.sx {S S':SS}{d:D}ŉ(h:zV d S=↑ds) (s:Sx S S'):zV d S'=↑ds:=by
 unfold zV at h ⊢;split at h
 .show h
 .show h
 .split at h
  .rename_i q;cases h;rw[s Û q]
  .cases h
 .cases h
def QO Ç1:q_ ß (wW ig g) (Zr tA):=λ S Z δ ρ ts Q hE e hq=>by
 ext ē;unfold ig at e2;split at e2
 .let#[xs,e3,e4]:=An.mp e2;let#[zs,e5,rfl]:=AF.mp e4;let#[d,d',rfl,h1,h2]:=c7 r1;let#[es,g1,g2]:=h1.seq e3;let#[FC,g3,g4]:=h2.seq e5;show#[d,d',es,FC,rfl,g1,g3,hq _ S1 s1 (cW g2 g4) λ Hv s=>#[zV.sx g1 s,zV.sx g3 s]]
 .cases e2
end
end L5
namespace HT
open ì Ã
section
variable {È}
def LX {t sl:Addr}{items:AB}{vl vu:ô}{lo hi:ę}Æ9(ht:IsTup è t items) (hs:s.heap.IsSliceOf sl vl vu ŧ) (pl:IsPart vl lo) (pu:IsPart vu hi)
  (hw:zG ã 0 lo=0/\zG ã ã hi=ã) (h:Q (Ç t) s):Ŧ á (getItem (Ç t) (Ç sl)) Q E s:=by
 have hT:=ht.typeIs;let#[os,e1,e2,e3]:=id hs;have hS:s.TypeIs (Ç sl) "slice":=#[os,e1,e2];unfold getItem
 try with_reducible exact za6 ?_
 first | exact gV (Ad ?_) | skip
 exact gV (wpAny_sequenceKey hT () (gV (zaB (name:=Str.ofString "__getitem__") hT Â9 (za7 Â9 hT entry_tuple_getitem ?_ (args_tuple_getitem Û)))));exact gV (m:=Builtin.Tuple.tupleItemsOf (Ç t)) (tupleItemsOf_ ht (gV (zaF hS ?_)));rw[if_pos ()];exact gV (c_ hs pl pu ?_);have yes:Ĉ:=by rw[hw.1,hw.2];simp
 change Ŧ Û (if Ĉ then _ else _) Û s;rw[if_pos yes];exact gV (m:=Builtin.Tuple.tupleIsExact (Ç t)) (gV (zaF hT (Ad ?_)));rw[if_pos ()]
 first
  | show gV (zaC (Ad #[_,rfl,Ad h]))
  | show gV (zaC (gV (Ad (Ad #[_,rfl,Ad h]))))
end
end HT
namespace L2
open ì Ë Ã
section
variable {ĝ}
def bC Ľ:V->ę->ę->Hp->VK->Prop:=λ x lo hi H Q=>∃ a xs,x=Ç a/\yg À3 a xs/\(đ)/\Q (Ç a) H
theorem VS:qd X (bC X.K):=by
 intro E6 s σ H x v vl vu lo hi sl Q I rx hs pl pu h;let#[a,xs,rfl,hx,hw,q]:=h;cases rx;let#[Aa,r,ht,hz]:=I.tuple hx;have hlen:Aa.toArray.size=Ð:=by rw[AH];show r.length.symm
 show#["tuple",_,PyProof.Rows.slot_tuple_getitem.lookup,ht.typeIs,HT.LX ht hs pl pu (by rw[hlen];show hw) #[Ç a,H,I,rfl,q]]
end
end L2
namespace L5
open ì Ë L2 L3
open Ã hiding St
def tQ {α:Type}(xs:ţ) Ã3:ţ:=(xs.drop (HT.zG Ð 0 lo)).take (HT.zG Ð Ð hi-HT.zG Ð 0 lo)
section
variable {ă}{lo hi:É Expr}{te:zv}{tl th:É zv}{pos p2:Pos}
def uQ Ç2:yc->SS->(ę->SS->Prop)->Prop:=fun δ S Q=>match t with
 | none=>Q none S
 | some t=>t ő λ d S1=>match d with
  | Þ i=>Q ↑i S1
  | _=>False
def XN Ç2:Prop:=∀ u,t=↑u->yo u
def uQ.mo (h:XN tl):∀ δ S (Q Q':ę->SS->Prop),(∀ d S',Q d S'->Q' d S')->uQ tl ő Q->uQ tl ő Q':=fun δ S Q Q' hq z=>by
 cases tl with
 | none=>show hq Û z
 | some t=>show h t rfl ő Û (λ d S1 z=>by cases d <;> first | show hq Û z | show z) z
def WY Ľ Ç2:TO:=fun σ H Q=>∃ δ S,yJ À3 δ σ/\zN À3 S/\uQ t ő λ o S1=>∀ H1,Ext H H1->zN K H1 S1->Q o H1
structure jA (X:Cx) (e:É Expr) Ç2:Prop where
 mo:XN t
 po:PO X e (WY X.K t)
def SG:jA X none none:=#[nofun,λ E6 s σ H Q I h=>by
 let#[δ,S,r1,r2,z]:=h;show bV E6 s σ H Q I (z H (.refl H) r2)]
def SF (h:PD X e te):jA X ↑e ↑te:=#[λ u q=>by cases q;show h.mo,λ E6 s σ H Q I hu=>by
 exact bU h.pe E6 s σ H Q I ?_;ext Õ;exact zK.go h.mo r1 r2 z λ d S1 v H1 h1 q1 e1 p1=>?_;cases d with
 | int i=>simp![zg] at q1;show#[i,q1,h1 H1 e1 p1]
 | zp=>show ż
 | bl _=>show ż
 | str _=>show ż
 | err _ _ _=>show ż
 | tup _=>show ż
 | x_ _=>show ż
 | ref _=>show ż]
def uL (d:D) Ã3 (S:SS) (Q:DK):Prop:=match d with
 | ŋ ds=>Q (ŋ (tQ ds ī)) S
 | d=>∃ ds,zV d S=↑ds/\∀ p,S p=none->Q (Ç p) (ups S p (û (tQ ds ī)))
def uL.mo {d:D}{lo hi:ę}{S:SS}{Q Q':DK}(hq:∀ d S',Q d S'->Q' d S') (h:uL d ī S Q):uL d ī S Q':=by
 unfold uL at h ⊢;split at h
 .show hq Û h
 .let#[ds,h1,h2]:=h;show#[ds,h1,λ p hp=>hq Û (h2 p hp)]
def zk.cut ŵ ý(h:ı) Ã3:zk À3 (tQ ds ī) (uS xs ī):=by
 have hd:∀ ý ň,ı->zk À3 (ds.drop n) (xs.drop n):=by
  intro ds
  induction ds with
  | nil=>ext ġ;subst h;exists zk.nil
  | cons d ds ih=>
   ext Ã4;cases n with
   | zero=>show Ħ h1 h2
   | succ n=>show ih n h2
 have ht:∀ ý ň,ı->zk À3 (ds.take n) (xs.take n):=by
  intro ds
  induction ds with
  | nil=>ext ġ;subst h;exists zk.nil
  | cons d ds ih=>
   ext Ã4;cases n with
   | zero=>show .nil
   | succ n=>show Ħ h1 (ih n h2)
 unfold tQ uS;rw[h.length];show ht _ (hd _ h)
def LY Ç0{lo hi:ę}(h:đ):uS xs ī=xs:=by
 unfold uS;rw[h.1,h.2];simp
abbrev Uz Ľ:V->ę->ę->Hp->VK->Prop:=λ x lo hi H Q=>bE K x ī H Q\/(bD K x ī H Q\/bC K x ī H Q)
theorem uL.fits {d:D}{v:V}{lo hi:ę}ŵ{S:SS}{Q:VK}(h1:zg À3 d v) (h2:zN À3 S) (h:uL d ī S (we À3 Q)):Uz K v ī H Q:=by
 unfold uL at h;split at h
 .simp![zg] at h1;let#[a,xs,rfl,g1,g2]:=h1;by_cases hw:đ
  .exact .inr (.inr #[a,xs,rfl,g1,hw,h _ H ?_ (.refl H) h2]);simp![zg];exact#[a,xs,rfl,g1,?_];have:=zk.cut g2 ī;rw[LY hw] at this;show this
  .exact .inr (.inl #[a,xs,rfl,g1,hw,λ p hp=>h Û ?_ (ó) (h2.new hp)]);simp![zg];show#[p,_,rfl,yg.of y7,Ä7]
 .rename_i hn;let#[ds,e,h]:=h;let#[a,xs,rfl,g1,g2]:=rA h1 h2 e (λ ts z=>hn ts z);show .inl #[a,xs,rfl,g1,λ p hp=>h p (h2.none hp) Û (ç) (ó) (h2.ups (ó) #[_,y7,Ä7])]
def Y3 (te:zv) (tl th:É zv):zv:=fun δ S Q=>te ő λ x S1=>uQ tl δ S1 λ l S2=>uQ th δ S2 λ u S3=>uL x l u S3 Q
def Rl (he:PD X e te) (hl:jA X lo tl) (hh:jA X hi th):PD X (.Subscript e (.Slice ī none p2) pos) (Y3 te tl th):=by
 exact#[fun δ S Q Q' hq z=>he.mo ő Û (λ x S1 z=>uQ.mo hl.mo δ S1 Û (λ l S2 z=>uQ.mo hh.mo δ S2 Û (λ u S3 z=>uL.mo hq z) z) z) z,
  PE.imp (ae (VT.or (bf.or VS)) he.pe hl.po hh.po) Ä3]
 ext Õ;exact zK.go he.mo Ã5;exact#[δ,S1,ź,p1,uQ.mo hl.mo δ S1 Û (λ l S2 h2 H2 e2 p2=>?_) h1];exact#[δ,S2,(ź).ext e2,p2,uQ.mo hh.mo δ S2 Û (λ u S3 h3 H3 e3 p3=>?_) h2];show uL.fits (zg.ext (e2.trans e3) x q1) p3 (uL.mo (λ d S' z=>z.ext (À0 e3)) h3)
@[simp] def eS:Á5->Ev->É (ę)
 | none,_=>↑none
 | some f,ρ=>Å2 λ x=>match x with
  | Þ i=>↑↑i
  | _=>none
def jF (f:Á5) Ç2:Prop:=∀ S Z δ ρ y Q,ER S Ŷ->eS f ρ=↑y->(∀ S',Sx S S'->Q y S')->uQ t ő Q
def Pb:jF none none:=λ S Z δ ρ y Q hE e hq=>by cases e;show hq S (.refl S)
def Pa {f:Ae}(h:yz f te):jF ↑f ↑te:=λ S Z δ ρ y Q hE e hq=>by
 let#[x,e1,e2]:=Ń;exact Ų;split at e2
 .cases e2;cases Vw.int r1;show hq S1 s1
 .cases e2
@[simp] def ez Ã3:T->É T
 | ŋ ts=>↑(ŋ (tQ ts ī))
 | û ts=>↑(û (tQ ts ī))
 | _=>none
@[simp] def iW (f:Ae) (lo hi:Á5):Ae:=fun ρ=>Å2 λ x=>(eS lo ρ).bind λ l=>(eS hi ρ).bind λ u=>ez l u x
def zj.cut {S:SS}{ts:ŏ}ŉ(h:zj S ts ds) Ã3:zj S (tQ ts ī) (tQ ds ī):=by
 unfold tQ;rw[h.len];show zj.take' _ (zj.drop' _ h)
def Po {f:Ae}{l u:Á5}(h:yz f te) (hl:jF l tl) (hu:jF u th):xn (iW f l u) (Y3 te tl th):=λ S Z δ ρ y Q hE e hq=>by
 let#[x,e1,e]:=Ń;let#[l',e2,e]:=Ń;let#[u',e3,e]:=Ń;exact Ų;exact hl S1 Ŷ l' _ (hE.grow s1) e2 λ S2 s2=>?_;exact hu S2 Ŷ u' _ (hE.grow (s1.trans s2)) e3 λ S3 s3=>?_;have r3:Vw S3 Z x d:=Vw.grow r1 (s2.trans s3);have hz:=(hE.grow (Ě)).zd;unfold ez at e;split at e
 .cases e;let#[ds,rfl,h2]:=r3.tup;show hq _ S3 (Ě) (Cl.of (λ _=>nofun) (pQ (zj.cut h2 Û)))
 .cases e;let#[ds,h1,h2]:=r3.seq rfl;have key:∃ ds,zV d S3=↑ds/\∀ p,S3 p=none->Q (Ç p) (ups S3 p (û (tQ ds l' u'))):=#[ds,h1,λ p hp=>hq Û ((Ě).trans (ó)) (Cl.cl (Ě) (sE hz hp (zj.cut h2 Û)))];obtain⟨_,q | ⟨a,q,_⟩,_⟩:=r3.lst
  .subst q;show key
  .subst q;show key
 .cases e
end
end L5
namespace TM
open ì Ã
theorem ZW {α:Type}(xs:ţ):∀ (m:Nat) (acc:Array α),(Ï m xs.toArray).foldl (·++·) acc=acc++(Ï m xs).flatten.toArray
 | 0,acc=>#[]
 | m+1,acc=>by
  rw[B5,C8,ZW xs m,B5,Cq,Array.append_assoc];simp
end TM
namespace L5
open ì Ë L2 L3
open Ã hiding St
section
variable {Ç4}
theorem zk.rep ŵ ý(h:ı):∀ n:Nat,zk À3 (Ï n ds).flatten (Ï n xs).flatten
 | 0=>.nil
 | n+1=>by
  rw[B5,B5,Cq,Cq];show h.append (zk.rep h n)
theorem zj.rep {S:SS}{ts:ŏ}ŉ(h:zj S ts ds):∀ n:Nat,zj S (Ï n ts).flatten (Ï n ds).flatten
 | 0=>.nil
 | n+1=>by
  rw[B5,B5,Cq,Cq];show h.append (zj.rep h n)
end
end L5
namespace L4
open ì Ã
section
variable {È}
def Kj {l:Addr}{vs:Ah}{Q:List ô->ů->Prop}(hl:IsTup è l Ã0) (hz:vs.length<=ć)
  (h:Q vs { s with heap:=ü }):Ŧ á (collect Ŋ) Q E s:=by
 let#[o,ho,hc,n,hd]:=id hl;have new:(Ì).get? À=↑(seqObj "list" Ā 0):=Ĺ;have FL:(Ì).get? l=↑o:=za1 _ ho;unfold collect;exact gV (wpAny_runValue (codeAny_builtin entry_proto_collect' (gV (m:=newList []) (wpAny_newList (Ad #[Code.quiet_builtin _ (AR),codeAny_builtin entry_list_iadd' ?_])))));change Ŧ Û (Æ3 (Ç À) Ŋ (Ç À)) Û { s with heap:=Ì };unfold Æ3;exact gV (zaF (T:="tuple") #[o,FL,hc] ?_);rw[if_pos (by rw[show (Value.type "tuple" == Value.type "tuple")=true from rfl];simp)];exact gV (listItems_at FL hd (gV (listItems_at (xs:=Ā) (n:=0) new rfl ?_)));rw[if_neg #[]];exact gV (listUpdate_at (xs:=Ā) (n:=0) new rfl (Ad ?_) (Be _) (by change (Ā++Ã0).size<=ć+1;simp![Array.size_append,AH,DI];lia));exact gV (m:=load À) (wpAny_load (get?_update_seq new _) ?_);change Ŧ Û (pure ((Ā:AB)++Ã0).toList) Q E _;have e:((Ā:AB)++Ã0).toList=vs:=#[];rw[e];show Ad h
end
section
open L2 Ë
variable {ĝ}
def bP {s:ů}{vs:Ah}:∀ b o,¬ False->Ô b=↑o->(ü).get? b=↑o:=λ b o _ q=>by
 rw[zaP Û Û (AI (Ax q))];show za1 _ q
theorem Kx:yF X (.builtin "sorted") (λ xs H Q=>∃ p ys,∃ rows:List (Ø),Ž/\(zP X.K H p ys\/yg X.K H p ys)/\qf X.K H ys rows/\Æ4/\lj (ys.zip rows) H Q):=by
 ext ø;let#[p,ys,rows,rfl,hq,hr,FW,q]:=h;ext þ;have hl:(ys.zip rows).length<256:=by rw[List.length_zip];lia
 have sz:∀ vs:List ô,À<=(ü).objs.size:=λ vs=>by rw[Heap.size_update,size_push'];show Nat.le_succ _
 rcases hq with hq | hq
 .ext Ç3;show iP I (λ Q' h=>collect_list pl.isList (h _ Š bP (sz Aa)) Ä8) (VR.of rv hr) hl q
 .let#[Aa,rv,pl,hz]:=I.tuple hq;show iP I (λ Q' h=>Kj pl Ä8 (h _ Š bP (sz Aa))) (VR.of rv hr) hl q
end
end L4
namespace L5
open ì Ë L2 L3
open Ã hiding St
section
variable {ă}{ð}{Â0}
def rR:xt:=λ ds S Q=>∃ d,∃ rows:List (Ø),ds=[d]/\zV d S=↑(rows.map v8)/\Æ4/\(∀ r∈rows,r≠[])/\∀ l,S l=none->Q Ŋ (ups S l (û ((L4.xo rows).map v8)))
def r9:Am
 | [y]=>(vz y).bind λ ts=>(vi ts).bind λ rs=>if rs.length<256/\∀ r∈rs,r≠[] then ↑(û ((L4.xo rs).map yM)) else none
 | _=>none
def MA:vH zE r9 rR:=λ S Z ys z ds Q hz hv e hq=>by
 unfold r9 at e;split at e
 .ext Ī;let#[ts,e0,e]:=Ń;let#[rs,e1,e2]:=Ń;split at e2
  .rename_i hc;cases e2;cases i_ e1;let#[es,h2,h3]:=h1.seq e0;cases pP.mp h3;show#[d,rs,rfl,h2,hc.1,hc.2,λ l hl=>hq Û (.new hl _) (sE hz hl (pP.mpr rfl))]
  .cases e2
 .cases e
def rR.mo:vF rR:=λ ds S Q Q' hq #[d,rows,h0,h1,h2,h3,h4]=>#[d,rows,h0,h1,h2,h3,λ l hl=>hq Û (h4 l hl)]
def yF.or {f:ô}{r r':List V->Hp->VK->Prop}(h:yF X f r) (h':yF X f r'):yF X f (λ xs H Q=>r xs H Q\/r' xs H Q):=λ E6 s σ H xs us Q I rv q=>
 q.elim (λ q=>h E6 s σ H xs us Q I rv q) λ q=>h' E6 s σ H xs us Q I rv q
def rR.fits:uA K rR (λ xs H Q=>∃ p ys,∃ rows:List (Ø),Ž/\(zP À3 p ys\/yg À3 p ys)/\L4.qf À3 ys rows/\Æ4/\L4.lj (ys.zip rows) H Q):=λ xs ds H S Q h0 h2 h=>by
 let#[d,rows,rfl,e,FW,Az,h]:=h;ext İ;let#[a,ys,rfl,g1,g2]:=zV.sq h1 h2 e;have hl:=g2.length;rw[AD] at hl;exact#[_,ys,rows,rfl,g1,kc g2 Az,FW,λ l ps hf hp hs=>?_];have heq:=L4.cT (rows:=rows) (by have:=hp.map (·.2);rwa [List.map_snd_zip ⋯] at this) hs;have hx:Ext H (upd H l (û (ps.map (·.1)))):=.new hf _;exact h l (h2.none hf) Û (ç) hx (h2.ups hx #[_,y7,?_]);rw[<- heq];show zk.ext hx _ (zk.kl λ q hq=>zk.lG g2 q (hp.mem_iff.mp hq))
def Rj (hm:X.mg "sorted"=none) Ź (hg:Gl X "sorted") Ġ:PD X (.Call (À6 "sorted" p) (e::es) [] pos) (xr rR tA):=
 uF (uE L4.Kx hg hm boot_sorted Ã6 he Ap) rR.mo rR.fits ha.mo
end
end L5
namespace L2
open ì Ë Ã
section
variable {ĝ}
def u9 (r:Addr) (j:Int):Heap->Prop:=λ h=>∃ t u v,IsRange h r 0 j 1 t u v
def K4:yF X (î "range") (λ xs H Q=>∃ j,xs=[Þ j]/\∀ r,H r=none->Q (Ç r) Ù):=by
 ext ø;let#[j,rfl,q]:=h;let#[u,rfl,ru]:=vals1 r;let#[t,rfl]:=ru;exact call_range_1 #[Ç À,_,I.laid (o:=.ext (u9 À j)) (λ b o e=>za1 _ e) (Ao _) ?_,rfl,q _ (Ą)];have here:u9 À j (Ú { cls:=î "range",data:=.fields [Þ 0 Š,Þ j t,Þ 1 (Š+1)].toArray }):=#[_,_,_,IsRange.new ..];exact#[here,#[_,Ĺ],λ h1 h2 S k=>?_];let#[a,b,c,e]:=S;show#[a,b,c,k _ e]
theorem K9 ÿ:yF X (î "list") (λ xs H Q=>∃ r j,xs=[Ç r]/\H r=↑(.ext (u9 r j))/\0<=j/\j<=16777216/\∀ l,H l=none->Q Ŋ (upd H l (ä))):=by
 ext ø;let#[a,j,rfl,hr,h0,h1,q]:=h;ext þ;obtain⟨⟨t,u,v,hR⟩,-,-⟩:=(show yS X.prog X.w H è a (.ext (u9 a j)) from I.zx a _ hr)
 have hsz:Builtin.Range.rangeSize 0 j 1=((j.toNat:Nat):Int):=by rw[rangeSize_one];split <;> lia
 exact call_list_range (n:=j.toNat) (Ļ) hR (small_one () () ⋯ ⋯) hsz ⋯ λ h' tk acc c k e hi=>?_;exact#[Ç À,_,I.laid (o:=ä) k (Ao _) #[?_,acc.toList,c,?_,by exists e],rfl,q _ (Ą)]
 .have:ć=16777216:=rfl;simp;lia
 .let#[hn,hi]:=hi;exact ST.Paired.mk (by simp[hn]) λ i a b ha hb=>?_;rw[AE] at ha;let#[k',hk,rfl]:=AF.mp ha;let#[hk1,hk2]:=AN.mp hk;simp at hk2;subst hk2;let#[w,hw]:=hi i b (by exists hb);subst hw;show#[w,#[]]
end
end L2
namespace L5
open ì Ë L2 L3
open Ã hiding St
section
variable {ă}{tA:ym}{pos p FH p2:Pos}
def sU:xt:=λ ds S Q=>∃ j:Int,ds=[Þ j]/\0<=j/\j<=16777216/\∀ l,S l=none->Q Ŋ (ups S l (û (vQ 0 j.toNat)))
def kE:Am
 | [Þ j]=>if 0<=j/\j<=16777216 then ↑(û (rangeT 0 j.toNat)) else none
 | _=>none
def MF:vH zE kE sU:=λ S Z ys z ds Q hz hv e hq=>by
 unfold kE at e;split at e
 .ext Ī;split at e
  .rename_i hc;cases e;cases h1.int;show#[_,rfl,hc.1,hc.2,λ l hl=>hq Û (.new hl _) (sE hz hl (cX Û))]
  .cases e
 .cases e
def sU.mo:vF sU:=λ ds S Q Q' hq #[j,h0,h1,h2,h3]=>#[j,h0,h1,h2,λ l hl=>hq Û (h3 l hl)]
theorem Ur ŵ ň:zk À3 (vQ 0 n) ((Ã1 n).map Ő):=by
 unfold vQ
 induction Ã1 n with
 | nil=>show .nil
 | cons k l ih=>show Ħ (by simp![zg];rw[Ca]) ih
def sU.fits:uA K sU (λ xs H Q=>∃ j,xs=[Þ j]/\∀ r,H r=none->∃ r' j',[V.ref r]=[Ç r']/\Ù r'=↑(.ext (u9 r' j'))/\0<=j'/\j'<=16777216/\
  ∀ l,Ù l=none->Q Ŋ (upd Ù l (û ((Ã1 j'.toNat).map Ő)))):=λ xs ds H S Q h0 h2 h=>by
 let#[j,rfl,c1,c2,h]:=h;ext İ;simp![zg] at h1;subst h1;exact#[j,rfl,λ r hr=>#[r,j,rfl,y7,c1,c2,λ l hl=>?_]];have x1:Ext H Ù:=.new hr _;have DZ:l≠r:=λ z=>by subst z;rw[y7] at hl;cases hl
 have hlH:H l=none:=by rw[yj DZ] at hl;show hl
 have x2:Ext Ù (upd Ù l (ä)):=.new hl _;show h l (h2.none hlH) Û (ç) (x1.trans x2) ((h2.new hr).ups x2 #[_,y7,Ur _])
def R8 (hm:X.mg "list"=none) (Hk:X.mg "range"=none) Ä5 ÿ (hg:Gl X "list") (GO:Gl X "range")
  (IY:AJ X e [])
  (he:Ę [Ē] í=(ß,eval (Ē) í)::Ę [] í) Â4:
  PD X (.Call (À6 "list" p) [Ē] [] pos) (xr sU tA):=by
 have h:=nA (p:=p) (K9 hc) hg hm PyProof.Rows.boot_list (qA (nA K4 GO Hk boot_range Ã6 IY Hi) pX he) Ã7;show#[xr.mo sU.mo ha.mo,PE.imp h λ _ _ _ hu=>cJ sU.mo sU.fits ha.mo hu]
end
end L5
namespace ST
open ì PySem.SetTable Ë Ã L2
def NJ {us G4:Ah}(p:G4.Perm us):∀ {ms:Ø},ņ us ms->∃ Gv,ņ G4 Gv/\Gv.Perm ms:=by
 induction p with
 | nil=>intro ms h;show#[ms,h,.refl _]
 | cons x _ ih=>
  intro ms h;cases h with
  | cons n t h=>
   let#[Gv,h1,h2]:=ih h;show#[n::Gv,Ħ n t h1,h2.cons n]
 | swap x y l=>
  intro ms h;cases h with
  | cons n t h=>
   cases h with
   | cons m u h=>show#[m::n::_,Ħ m u (Ħ n t h),.swap Û _]
 | trans _ _ ih1 ih2=>
  intro ms h;let#[m1,h1,h2]:=ih2 h;let#[m2,h3,h4]:=ih1 h1;show#[m2,h3,h4.trans h2]
theorem qW.at {prog:Program}{w:World}{h:Heap}{a:Addr}{xs:List (Int×Tok)}(S:qW prog w h a xs (sJ w)):yP w a Ğ h:=by
 let#[#[es,ep,t,ho,he,T,h1,h2,h3],_]:=S;have hm:7<=t.mask/\t.mask<=127:=by rcases T.mask with e | e | e <;> lia
 have hlen:es.size=Ð:=by have:=congrArg List.length he;exists this
 show#[es,ep,t,#[ho,fits_of (n:=Ð) hlen T #[] ⋯,T.wN,h1,h2],by rw[he,A0];rfl]
theorem ZC:∀ xs:List (Int×Tok),ņ Ğ (xs.map (·.1))
 | []=>.nil
 | e::xs=>Ħ e.1 e.2 (ZC xs)
theorem c8:∀ {us:Ah}{ns:Ø},ņ us ns->Vals ļ us
 | _,_,.nil=>.nil
 | _,_,Ħ n t h=>Ħ #[t,rfl] (c8 h)
section
variable {ĝ}
def K1 ÿ:yF X (î "set") (λ xs H Q=>∃ p,∃ ns:Ø,Ž/\zP X.K H p ļ/\Ã8/\
  ∀ ŷ (us:Ah) (ms:Ø),H l=none->ņ us ms->ms.Nodup->(∀ n,n∈ms↔n∈ns)->Q Ŋ (upd H l ų)):=by
 ext ø;let#[p,ns,rfl,hq,FW,q]:=h;ext þ;ext Ç3;have hl:=rv.length;rw[AD] at hl;have iA:ņ Aa ns:=intsAre_of rv;have nums:Nums ĺ ns:=λ i v hv=>by
  have Hf:Aa[i]?=↑v:=by exists hv
  have hi:i<ns.length:=by rw[hl];show (AN.mp Hf).1
  let#[u,e1,t,e2]:=rv.get (i:=i) (x:=V.int ns[i]) (Ã9);rw[Hf] at e1;cases e1;show#[ns[i],t,e2,Ã9]
 have hh:X.A.handled=none:=Ļ;exact K2 (A:=X.A) hh pl.isList nums (by rw[AH];lia) λ h' tk xs S U k=>?_;have kk:∀ b o,Ł:=λ b o e=>k b o (Ax e) e;have HC:=S.at;exact#[Ç À,_,I.laid (t':=tk) (o:=.ext (yP X.w À Ğ)) kk (Ao _) ?_,rfl,q Û (xs.map (·.1)) (Ą) (ZC xs) S.nd λ n=>#[λ hn=>?_,λ hn=>?_]]
 .let#[es,ep,t,St,e]:=id HC;show#[HC,#[_,St.get],λ h1 h2 S1 k=>S1.su k]
 .let#[e,he,rfl]:=Aw.mp hn;let#[j,_,_,hj]:=U.own e he;show Bh hj
 .let#[j,hj]:=Cb.mp hn;show U.all j n (by have:=(AN.mp hj).1;rw[AH];lia) hj
def Ky ÿ:yF X (.builtin "sorted") (λ xs H Q=>∃ l us,∃ ms:Ø,xs=[Ç l]/\H l=↑ ų/\ņ us ms/\ms.length<64/\
  ∀ (p:Addr) (ns:Ø),H p=none->ns.Perm ms->ns.Pairwise (·<=·)->Q (Ç p) (upd H p (û ļ))):=by
 intro E6 s σ H xs us0 Q I r h;let#[l,us,ms,rfl,hl,hm,FW,q]:=h;ext þ;obtain⟨⟨es,ep,t,S,eu⟩,-,-⟩:=(show yS X.prog X.w H è l ų from I.zx l _ hl)
 have hlen:es.size=Ĵ:=by rw[<- eu];simp
 have EL:=hm.length;have hh:X.A.handled=none:=Ļ;have hp:((comes X.w l es ep).toList.map (·.2)).Perm us:=by rw[<- eu];show (mT X.w l es ep).map _
 let#[Gv,i1,i2]:=NJ hp hm;have CL:=hp.length_eq;have hl24:ć=16777216:=rfl;exact L4.cR (N:=λ _=>False) (Out:=λ out=>∃ Gu,ņ out.toList Gu/\Gu.Perm Gv/\Gu.Pairwise (·<=·)) (λ Q' h=>YK (by show hh) S (by rw[hlen,EL];lia) Q' h) (by rw[CL,EL];lia) (λ h2 s6 k=>L4.Kg i1 h2 (by rw[CL,EL];show FW)) (λ h1=>#[Gv,by simpa using i1,.refl _,?_]) λ out h' tk p ho hs Hj k E5=>?_
 .have:Gv.length<2:=by rw[<- i1.length];show h1
  match Gv,this with
  | [],_=>show .nil
  | [_],_=>show Df Û
 .let#[ns,g1,g2,g3]:=ho;let#[e,he]:=E5;exact#[Ç p,_,I.laid (t':=tk) (o:=û ļ) (λ b o e=>k b o id e) Hj ?_,rfl,q p ns (I.zx.fresh Hj) (g2.trans i2) g3];show#[by rw[AD,g2.length_eq,i2.length_eq];lia,out.toList,e,c8 g1,by exists he]
end
end ST
namespace L5
open ì Ë L2 L3
open Ã hiding St
def insI (n:Int):Ø->Ø
 | []=>[n]
 | m::l=>if n<m then n::m::l else if n=m then m::l else m::insI n l
def vg:Ø->Ø
 | []=>[]
 | n::ns=>insI n (vg ns)
theorem gR {n k:Int}:∀ {l:Ø},k∈insI n l↔k=n\/k∈l
 | []=>by simp[insI]
 | m::l=>by
  unfold insI;split
  .simp
  .split
   .rename_i h;subst h;simp
   .rw[Ak,gR,Ak];constructor
    .rintro (h | h | h)
     .show .inr (.inl h)
     .show .inl h
     .show .inr (.inr h)
    .rintro (h | h | h)
     .show .inr (.inl h)
     .show .inl h
     .show .inr (.inr h)
theorem kz {k:Int}:∀ {l:Ø},k∈vg l↔k∈l
 | []=>.rfl
 | n::l=>by unfold vg;rw[gR,kz,Ak]
theorem ZE {n:Int}:∀ {l:Ø},l.Pairwise (· < ·)->(insI n l).Pairwise (· < ·)
 | [],_=>Df Û
 | m::l,h=>by
  have h':=Br.mp h;unfold insI;split
  .rename_i c;exact Br.mpr #[λ x hx=>?_,h];rcases Ak.mp hx with e | e
   .rw[e];show c
   .show Int.lt_trans c (h'.1 x e)
  .split
   .show h
   .rename_i c1 c2;exact Br.mpr #[λ x hx=>?_,ZE h'.2];rcases gR.mp hx with e | e
    .rw[e];lia
    .show h'.1 x e
theorem cG:∀ l:Ø,(vg l).Pairwise (· < ·)
 | []=>.nil
 | n::l=>ZE (cG l)
theorem WX {l m:Ø}(h1:l.Nodup) (h2:l.Pairwise (·<=·)) (h3:m.Pairwise (· < ·)) (h:∀ k,k∈l↔k∈m):l=m:=by
 have nm:m.Nodup:=h3.imp λ h e=>⋯;exact L4.gu (r:=λ a b:Int=>a<=b) (λ a b p q=>⋯) ((Eg h1 nm).mpr h) h2 (h3.imp λ h=>⋯)
section
variable {ă}{tA:ym}{pos FH p p2:Pos}
def mw:xt:=λ ds S Q=>uw ds S Q\/∃ d,∃ ns:Ø,ds=[d]/\(∀ ts,d≠ ŋ ts)/\zV d S=↑(ns.map D.int)/\Ã8/\∀ l,S l=none->Q Ŋ Á1
def sC:Am
 | [û ts]=>match uq ts with
  | some ns=>if Ã8 then ↑(û ((vg ns).map T.int)) else none
  | none=>nc [û ts]
 | [ŋ ts]=>nc [ŋ ts]
 | _=>none
def M9:vH zE sC mw:=λ S Z ys z ds Q hz hv e hq=>by
 unfold sC at e;split at e
 .split at e
  .rename_i ns C0;split at e
   .rename_i hc;cases e;cases fm C0;ext Ī;let#[es,h2,h3]:=h1.seq rfl;cases qy.mp h3;exact .inr #[d,ns,rfl,?_,h2,hc,λ l hl=>hq Û (.new hl _) (sE hz hl (qy.mpr rfl))];obtain⟨_,q | ⟨a,q,_⟩,_⟩:=h1.lst <;> subst q <;> show λ _=>nofun
   .cases e
  .show Á6
 .show Á6
 .cases e
theorem mw.mo:vF mw:=λ ds S Q Q' hq h=>by
 rcases h with h | ⟨d,ns,h1,h2,h3,h4,h5⟩
 .show .inl (uw.mo ds S Q Q' hq h)
 .show .inr #[d,ns,h1,h2,h3,h4,λ l hl=>hq Û (h5 l hl)]
def Lc {w:World}Ç0 ŵ{S:SS}{Q:VK}{d:D}{ns:Ø}(h0:zk À3 [d] xs) (h2:zN À3 S) (hn:∀ ts,d≠ ŋ ts) (e:zV d S=↑(ns.map D.int)) (FW:Ã8) (h:∀ l,S l=none->we À3 Q Ŋ Á1):
  ∃ p,∃ Gu:Ø,Ž/\zP À3 p (Gu.map V.int)/\Gu.length<64/\
   ∀ ŷ (us:Ah) (ms:Ø),H l=none->ņ us ms->ms.Nodup->(∀ n,n∈ms↔n∈Gu)->
    ∃ l' G4,∃ Gv:Ø,[V.ref l]=[Ç l']/\Ó l'=↑(.ext (ST.yP w l' G4))/\ņ G4 Gv/\Gv.length<64/\
     ∀ (p:Addr) (ns:Ø),Ó p=none->ns.Perm Gv->ns.Pairwise (·<=·)->Q (Ç p) (upd Ó p (û ļ)):=by
 ext İ;let#[a,ys,rfl,g1,g2]:=rA h1 h2 e hn;rw[g2.ints] at g1;exact#[a,ns,rfl,g1,FW,λ l us ms hf hi nd A_=>#[l,us,ms,rfl,y7,hi,?_,λ p ns2 hp pm srt=>?_]]
 .have:=ST.gK ms ns nd λ x hx=>(A_ x).mp hx;lia
 .have x1:Ext H Ó:=.new hf _;have Ap:p≠l:=λ z=>by subst z;rw[y7] at hp;cases hp
  have hpH:H p=none:=by rw[yj Ap] at hp;show hp
  have x2:Ext Ó (upd Ó p (û (ns2.map V.int))):=ó;have heq:ns2=vg ns:=WX (pm.nodup_iff.mpr nd) srt (cG ns) λ k=>by rw[pm.mem_iff,A_,kz]
  exact h p (h2.none hpH) Û (ç) (x1.trans x2) ((h2.new hf).ups x2 #[_,y7,?_]);rw[<- heq];show zk.gF ns2
def Ri {k:Nat}(hr:yh k X.A) (hm:X.mg "sorted"=none) (Hk:X.mg "set"=none) Ä5 ÿ (hg:Gl X "sorted") (GO:Gl X "set")
  (IY:AJ X e [])
  (he:Ę [Ĝ] í=(ß,eval (Ĝ) í)::Ę [] í) Â4:
  PD X (.Call (À6 "sorted" p) [Ĝ] [] pos) (xr mw tA):=by
 have h:=uE (p:=p) (yF.or (ST.Kz hc) (ST.Ky hc)) hg hm boot_sorted (qA (nA (yF.or (ST.K0 hc hr.units) (ST.K1 hc)) GO Hk PyProof.Rows.boot_set Ã6 IY Hi) pX he) Ã7;exact#[xr.mo mw.mo ha.mo,PE.imp h Ä3];ext Õ;exact xY.go ha.mo r1 r2 z λ ds S1 xs H1 h1 q1 e1 p1=>?_;rcases h1 with h1 | ⟨d,ns,rfl,c1,c2,c3,h1⟩
 .let#[p,ys,rows,a1,a2,a3,a4,a5]:=uw.fits (w:=X.w) xs ds H1 S1 Q q1 p1 (uw.mo ds S1 Û (λ d S' z=>z.ext e1) h1);show .inl #[p,ys,rows,a1,a2,a3,a4,λ l us ps b1 b2 b3 b4 b5=>.inl (a5 l us ps b1 b2 b3 b4 b5)]
 .let#[p,Gu,a1,a2,a3,a4]:=Lc (w:=X.w) q1 p1 c1 c2 c3 (λ l hl=>(h1 l hl).ext e1);show .inr #[p,Gu,a1,a2,a3,λ l us ms b1 b2 b3 b4=>.inr (a4 l us ms b1 b2 b3 b4)]
end
end L5
namespace L5
open ì Ë L2 L3
open Ã hiding St
section
variable {ĝ}{e st:Expr}
def qB:Sm:=λ _=>none
def Y6:yC:=λ _ _ _=>False
def Sy {st:Stmt}:xW X st Y6:=#[λ _ _ _ _ _ h=>h.elim,λ _ _ _ _ _ _ #[_,_,_,_,h]=>h.elim]
def Q8 {R:Rk}:yn R qB Y6:=λ S0 Z0 S Z δ ρ o E F e P=>by cases e
end
end L5
namespace L5
open ì L2 L3
def fC:Good2 zE oj ja:=ğ
def fD:Good2 zE ma fU:=ğ
def fE:Good2 zE o8 fV:=ğ
end L5
namespace L3
open ì Ã L2
section
variable {ĝ}{pos:Pos}
def wE (E:qm) (W:Nat->yc->SS->Prop) (m:Nat):qm:={ E with nx:=Á2,ct:=Á2,bk:=E.nx }
def mK (c:yA) (tb:yC):yC:=λ E δ S=>∃ W:Nat->yc->SS->Prop,(∃ m,W m ő)/\∀ m δ S,W m ő->
 c ő λ b S1=>if b=true then tb (wE E W m) δ S1 else E.nx δ S1
def mK.mo {c:yA}{tb:yC}(hc:vb c) (hb:sd tb):sd (mK c tb):=λ E E' δ S hE #[W,w0,ws]=>
 #[W,w0,λ m δ S hw=>hc ő Û (λ b S1 z=>vm (λ z=>hb (wE E W m) (wE E' W m) δ S1 #[λ _ _ q=>q,hE.rt,hE.nx,λ _ _ q=>q] z) (λ z=>hE.nx Û z) z) (ws m ő hw)]
def So {c:Expr}{body:List Stmt}{tc:yA}{tb:yC}(hp:PassesOwn (model X.prog X.w) X.A í X.xe) (hc:xm X c tc) (hb:xB X body tb):xW X (.While c body [] pos) (mK tc tb):=by
 exact#[mK.mo hc.mo hb.mo,PS.imp (UD hp hc.pt hb.ps) λ D σ H hu=>?_];let#[δ,S,r1,r2,W,#[m0,w0],ws]:=hu;exact#[λ m σ' H'=>Ext H H'/\∃ δ S,yJ X.K H' δ σ'/\zN X.K H' S/\W m ő,#[m0,.refl _,δ,S,r1,r2,w0],?_];rintro m σ2 H2 ⟨x2,δ2,S2,q1,q2,w2⟩;exact wx.go hc.mo q1 q2 (ws m δ2 S2 w2) λ k S3 H3 h3 e3 p3=>vm (λ z=>?_) (λ z=>?_) h3
 .exact#[fun σ' H'=>Ext H H'/\∃ δ S m',m'<m/\yJ X.K H' δ σ'/\zN X.K H' S/\W m' ő,fun σ' H' #[a,δ',S',m',b,c,d,e]=>#[m',b,a,δ',S',c,d,e],δ2,S3,q1.ext e3,p3,?_];show hb.mo (wE (tN X.K H D) W m) _ δ2 S3 #[ë,λ _ _ q=>we.ext (Æ5) q,λ _ _ q=>vq.ext (Æ5) q,ë] z
 .show z σ2 H3 (q1.ext e3) (Æ5) p3
end
end L3
namespace L5
open ì Ã L2 L3
def wU À5:Nat->Ev->É Out
 | 0,_=>none
 | n+1,ρ=>(c (yt is ρ)).bind λ k=>if k=true then (b (yt is ρ)).bind λ o=>match o with
   | .nx ρ2=>wU is c b n ρ2
   | .ct ρ2=>wU is c b n ρ2
   | .bk ρ2=>↑(.nx (yt is ρ2))
   | .rt t=>↑(.rt t)
  else ↑(.nx (yt is ρ))
def lM ň À5:Sm:=wU is c b n
def Q1 {R:Rk} [Lo R] {n:Nat}{is:List Nat}{c:Ev->É Bool}{tc:yA}{b:Sm}{tb:yC}(hc:vw c tc) (hb:yn R b tb):yn R (lM n is c b) (mK tc tb):=λ S0 Z0 S Z δ ρ o E F e P=>by
 let#[SB,b1,FB,b2]:=F.rebase;have lo:∀ S' d y,R SB S' Z0 y d->R S0 S' Z0 y d:=λ S' d y r=>Lo.lo b1 (λ _ z=>z) r;exact#[λ m δ' S'=>∃ Z' ρ',FR SB Z0 S' Z' δ' ρ'/\wU is c b m ρ'=↑o,#[n,Z,ρ,FB,e],λ m δ' S' #[Z',ρ',F',e']=>?_];cases m with
 | zero=>cases e'
 | succ m=>
  unfold wU at e';let#[k,c1,e']:=An.mp e';have G:=F'.yt is;exact hc S' Z' δ' _ k _ G.er c1 λ S3 s3=>?_;cases k with
  | true=>
   rw[if_pos rfl] at e' ⊢;let#[o1,g2,e']:=An.mp e';exact hb SB Z0 S3 Z' δ' _ o1 _ (G.grow s3) g2 ?_;cases o1 with
   | nx ρ2=>show ł
   | ct ρ2=>show ł
   | bk ρ2=>cases e';show λ S3 Z3 δ3 F3=>P S3 Z3 δ3 ((F3.yt is).back b1 F.z0)
   | rt y=>cases e';show λ d S3 s3 r3=>P d S3 (b1.trans s3) (lo Û _ r3)
  | ß=>
   rw[if_neg ()] at e' ⊢;cases e';show P S3 Z' δ' ((G.grow s3).back b1 F.z0)
end L5
namespace ZP
open ì Ã
def OJ Ś ŷ (xs:AB):Meets (Builtin.«enumerate.__new__» #[[Ŵ,Ç l],[]]) (λ _ R s=>ŝ/\
   R (.ok (.ret (Ç (Æ6).objs.size))) { s with heap:=ĵ }):=
 .of_wp λ prog w A R s h=>by
  ext Č;let#[q,h]:=h;have Ey:=sub_enumerate;have hL:SQ Ż k l xs:=q;let#[#[c,yv,dt,sl],hl,hc]:=q.cls;replace hc:c=î (cond k "tuple" "list"):=hc;subst hc
  wp_walk using Æ7
  exact wpAny_stack_any λ st=>Ad ?_;split
  .rename_i c _ _ _ _ _;cases (c == Value.type "enumerate")
   .ext ú
    show Ė
   .ext ú
    show Ė
  .ext ú
   show Ė
section
variable {È}
def L1 ù Æ9(hL:ŝ)
  (h:∀ h',IsEnum h' (À+1) À 0 ŧ->SI h' k À l 0->(∀ b o,Ł)->Q (Ç (À+1)) { s with heap:=h' }):
  Ŧ á (call (Ŵ) [Ç l]) Q E s:=by
 exact callType_new F.called_enumerate () (F.typeCall_enumerate_1 _) (F.newCall_enumerate_1 _) (λ obj=>F.args_object_init_2 obj _) F.entry_enumerate_new (OJ k l xs) #[hL,?_];have hz:(Æ6).objs.size=À+1:=ė ..;change _/\_;rw[hz];have he:IsEnum (ĵ) (À+1) À 0 ŧ:=by
  have:=AK (Æ6) (o:={ cls:=Ŵ,data:=Ö }) rfl;rw[hz] at this;show this
 show#[#[_,he,rfl],h _ he #[_,za1 _ (Ĺ),rfl,rfl] λ b o x=>za1 _ (za1 _ x)]
def LG Į Ś (it l:Addr) (Az:l≠it) (xs:AB):Draws prog w A it [it,l] xs.size (λ i v=>xs[i]?=↑v) (λ i h=>SI h k it l i/\Å3) where
 live:=λ _ _ st=>let #[o,ho,_]:=st.1;#[o,ho]
 frame:=λ _ _ _ st hk=>#[st.1.on λ o e=>hk it #[] o e,st.2.on λ o e=>hk l #[] o e]
 item:=λ i s Q E hi st hQ=>draw st.1 st.2 (x:=xs[i]) (Ã9) λ h' EU FQ=>hQ _ h' Š (Ã9) #[EU,st.2.on λ o e=>(FQ.2 l Az).trans e] FQ
 done:=λ s Q E st hE=>jh hh st.1 st.2 #[] hE
end
end ZP
namespace L2
open ì Ë Ã ZP
section
variable {ĝ}{E6:Aj}{σ:St}{ŵ}{s:ů}
def XT Ľ Ś (a:Addr):It:=
 #[λ i H=>∃ xs x,wq À3 k a xs/\ń,
   λ i H v H'=>∃ p x,v=Ç p/\H p=none/\H'=upd H p (Á7)/\∀ xs,wq À3 k a xs->ń,
   λ i H=>∃ xs,wq À3 k a xs/\Ð<=i]
def Vk Ĭ ð{kk} {pos:Pos}Ÿ{e it a:Addr}(EY:e≠it) (hea:e≠a) (hai:a≠it):
  Turn P w K (.Tuple es kk pos) (XT K k a) Ä9 e (λ i h=>(∃ old,IsEnum h e it i old)/\SI h k it a i) where
 mem:=#[]
 obj:=λ i h st b hb=>by
  let#[#[old,q1],o1,q2,_,d1]:=st;ext â;rcases hb with e | e <;> subst e
  .show#[_,q1,ũ]
  .show#[_,q2,Æ1]
 keep:=λ i h h' st k=>#[let #[old,q]:=st.1;#[old,k e #[] _ q],st.2.on λ o q=>k it #[] o q]
 item:=by
  ext Ò;let#[xs,x,g1,hx]:=hg;let#[Aa,rv,q1]:=g1.of I;let#[u1,e1,r1]:=rv.get hx;let#[#[old,he],si]:=st;have Ar:i<Aa.toArray.size:=by have:=(AN.mp e1).1;exists this
  have D:=LG (prog:=X.prog) (w:=X.w) (A:=X.A.in1) Â1 k it a hai ĺ;exact wpAny_pyNext_enum_itemD D he #[si,q1] Ar EY (by simp[EY,hea]) λ u h' tk hP ho FQ hT hsz hk=>#[_,rfl,?_];have hu:u=u1:=by simp![List.getElem?_toArray,e1] at hP;show (Bb hP).symm
  subst hu;have nT:À ∉ Ä9:=λ hb=>by
   ext â;let#[oi,qi,_]:=si;rcases hb with z | z
   .show absurd (Ax he) (by rw[<- z];show B7 _)
   .show absurd (Ax qi) (by rw[<- z];show B7 _)
  have ne:À ≠e:=λ z=>nT (by simp[z]);exact wpAny_letOwnedTupleGo_enum ho λ h2 IY sb=>?_;have fr:H À=none:=Ą;have I1:Inv X E6 σ (upd H À (Á7)) { s with heap:=Ň,toks:=Š }:=
   I.laid (o:=Á7) (λ b u q=>za1 _ q) (Ao _) #[Á0,[Þ i tk,u],Ħ #[tk,rfl] (Ħ r1 .nil),IsTup.new Û]
  have FZ:∀ b∈ Ä9,upd H À (Á7) b=none:=λ b hb=>by
   rw[yj (λ z=>nT (by rw[<- z];show hb))];show (hf b hb).1
  have kk:∀ b o,b∉ Ä9->(Ň).get? b=↑o->h2.get? b=↑o:=λ b o hb q=>by
   have BW:b≠e:=ū;have hbi:b≠it:=ū;by_cases Dy:b=À
   .subst Dy;rw[Ĺ] at q;cases q;show ĳ Û BW hT
   .ext į
    show ĳ Û BW (hk b o BW hbi q')
  have I2:=Inv.lR (h':=h2) (t':=tk+1) (fp:=Ä9) Á4;exact#[Ç À,_,I2,rfl,#[_,x,rfl,fr,rfl,À8],#[#[_,by exists IY],FQ.1.on λ o q=>(sb.2 it (æ EY)).trans q],FZ]
 done:=by
  ext Ò;let#[xs,g1,hx]:=hg;let#[Aa,rv,q1]:=g1.of I;have l1:=rv.length;let#[#[old,he],si]:=st;have hT:s.TypeIs (Ç e) "enumerate":=#[_,he,rfl];unfold pyNext;exact gV (zaH (zaB (name:=Ř) hT F.slot_enumerate_next
   (za7 F.slot_enumerate_next hT F.entry_enumerate_next ?_ (F.args_enumerate_next_1 _))))
  change Ŧ Û (field (Ç e) 2 >>= _) Û _;exact gV (za4 he rfl (x:=Ç it) rfl ?_);exact gV (jh Â1 si q1 ű λ h' x he' GA=>?_);let#[o,ho,hc]:=GA;exact gV (wpAny_isInstance ĩ ?_);show Ad #[rfl,I.lR (t':=Š) (fp:=Ä9) (λ b o hb q=>he' b o (ū) q) hf]
 self:=λ _ _ _ _ _ st h=>let #[_,q]:=st.1;wpAny_pyIter_enum q h
def NQ Ľ (ta:TA):TI:=fun σ H R=>ta σ H λ vs H1=>∃ a k,vs=[Ç a]/\(∃ xs,wq K H1 k a xs)/\R (XT K k a) H1
theorem UZ {a:Expr}{ta:TA}{p pos pos':Pos}ð{kk} (hg:Gl X "enumerate") (hm:X.mg "enumerate"=none) (ha:PA X [a] ta) (hs:Ę [a] í=[Ä4]:=by rfl):
  PI Ĩ (NQ X.K ta):=by
 intro E6 s σ H R I h;exact Call_ (om I hg hm boot_enumerate (Æ2 č (by rw[hs];rfl) rfl));let#[a1,k,rfl,#[xs,g1],q]:=q1;cases r1 with
 | cons r rr=>
  cases rr;cases r;let#[it1,_,q1]:=g1.of I1;have la:=q1.lt;exact ZP.L1 q1 λ h' E S up=>wpAny_pyIter_enum E ?_;have nw:∀ b∈[ě+1,ě],ě<=b:=λ b hb=>by
   ext â;rcases hb with z | z <;> rw[z]
   .show Nat.le_succ _
   .show Ao _
  show#[_,[ě+1,ě],_,_,H1,rfl,I1.kept (t':=s1.toks) up,Vk (Nat.succ_ne_self _) (BM (Cp la)) (AI la),#[#[_,E],S],Ņ,q]
end
end L2
namespace L5
open ì Ë L2 L3
open Ã hiding St
def tL (k:Nat):List D->List D
 | []=>[]
 | d::ds=>ŋ [Þ k,d]::tL (k+1) ds
def qL (k:Nat):ŏ->ŏ
 | []=>[]
 | d::ds=>ŋ [Þ k,d]::qL (k+1) ds
theorem Yr:∀ (ds:List D) (k i:Nat),(tL k ds)[i]?=(ds[i]?).map λ d=>D.tup [Þ ((k+i:Nat):Int),d]
 | [],k,i=>by simp[tL]
 | d::ds,k,0=>by simp[tL]
 | d::ds,k,i+1=>by
  unfold tL;rw[C5,C5,Yr ds (k+1) i,show k+1+i=k+(i+1) from by lia]
theorem Yq:∀ (ds:List D) (k:Nat),(tL k ds).length=ds.length
 | [],k=>rfl
 | d::ds,k=>by unfold tL;rw[AX,Yq ds];rfl
theorem cY {S:SS}:∀ {ts:ŏ}ŉ(k:Nat),zj S ts ds->zj S (qL k ts) (tL k ds)
 | [],ds,k,h=>by simp![zj] at h;subst h;show zj.nil
 | t::ts,ds,k,h=>by
  simp![zj] at h;let#[c,cs,rfl,h1,h2]:=h;show zj.cons (pQ (zj.cons (by simp![Sn]) (zj.cons h1 zj.nil))) (cY (k+1) h2)
section
variable {ĝ}{a:Expr}{tA:ym}{pos p pos':Pos}{ð}{kk:Nat}
def Zs (t:ym):wj:=fun δ S R=>t ő λ ds S1=>∃ d xs,ds=[d]/\zV d S1=↑xs/\R #[tL 0 xs,λ S=>zV d S=↑xs] S1
def SN (hm:X.mg "enumerate"=none) (ha:y_ X [a] tA) (hg:Gl X "enumerate") (hs:Ę [a] í=[Ä4]):
  uW Ĩ (Zs tA):=by
 exact#[fun δ S Q Q' hq z=>ha.mo ő Û (λ ds S1 #[d,xs,h1,h2,h4]=>#[d,xs,h1,h2,hq Û h4]) z,PI.imp (UZ hg hm ha.pa hs) fun σ H R hu=>?_];ext ĭ;let#[d,xs,rfl,s1,h]:=h1;let#[v,rfl,d1]:=q1.one;ext ſ;exact#[a1,nR d,rfl,#[us,g1],À9];let#[b1,HL,q1,m1,m2]:=zV.k (zg.ext x1 d d1) x2 hk;cases q1;have l1:=m2.length;exact#[λ dd hd=>?_,λ hl=>#[HL,m1,?_]]
 .rw[Yr,CO] at hd;let#[dx,hx,rfl]:=AF.mp hd;let#[x,GA,rx]:=m2.get hx;exact#[#[HL,x,m1,GA],λ v H' q=>?_];let#[pp,x',rfl,hp,rfl,f1]:=q;ext ĥ
  subst ex;ext Â3;show#[pp,_,rfl,yg.of y7,zk.ext (ó) _ (Ħ (ç) (Ħ rx .nil))]
 .have Gx:(tL 0 xs).length<=i:=hl;rw[Yq] at Gx;lia
@[simp] def jf:ŏ->É (ŏ)
 | [x]=>(vz x).map λ xs=>qL 0 xs
 | _=>none
def QS Ç1:q_ ß (wW jf g) (Zs tA):=λ S Z δ ρ ts Q hE e hq=>by
 ext ē;unfold jf at e2;split at e2
 .let#[xs,e3,rfl]:=AF.mp e2;let#[d,rfl,h1]:=vJ r1;let#[es,g1,g2]:=h1.seq e3;show#[d,es,rfl,g1,hq _ S1 s1 (cY 0 g2) λ Hv s=>zV.sx g1 s]
 .cases e2
end
end L5
namespace TM
open ì Ã
def LR (i:Int) (t:Tok) ŷ (items:AB) ň (dd:ž) (sl:Á8):
  Meets (Builtin.«int.__rmul__» #[[Þ i t,Ç l],[]]) (λ _ R s=>ċ/\R (.ok (.ret Value.notImplemented)) s):=
 .of_wp λ prog w A R s h=>by
  ext Č;let#[hl,h]:=h
  wp_walk
  show Ė
def mulL ŷ (items:AB) ň (x:Int) (u:Tok) (dd:ž) (sl:Á8) (hc0:¬(!Builtin.List.listFitsIndex x)=true) (hc1:¬ ã*x.toNat>(2 ^ 63-1)/8) (HB:¬Builtin.List.listTooLong (ã*x.toNat)=true):
  Meets (Builtin.«list.__mul__» #[[Ç l,Þ x u],[]]) (λ _ R s=>ċ/\R (.ok (.ret (Value.ref À))) { s with heap:=Ú { cls:=î "list",data:=.seq (List.foldl (λ x1 x2=>x1++x2) Ā (Ï (if items.isEmpty=true then 0 else x.toNat) items)) } }):=
 .of_wp λ prog w A R s h=>by
  ext Č;let#[hl,h]:=h
  have hsz:=AutoListH.joined_fits HB
  wp_walk;exact wpAny_ite_false (za3 (Nat.not_lt.mpr hsz)) ?_;wp_walk;show Ė
section
variable {È}
def Vo {l:Addr}{Aa:Ah}{k:Int}{t:Tok}Æ9(ht:PlainL è l ĺ) (Az:Aa≠[]) (h0:0<=k) (hz:Aa.length*Ď<=ć)  (hk:k<=1000000)
  (more:Q (Ç À) { s with heap:=Ú { cls:=î "list",data:=.seq (Ï Ď Aa).flatten.toArray } }):
  Ŧ á (binaryOp .Mult Ŋ (Þ k t)) Q E s:=by
 let#[#[cls,dd,data,sl],n,ho,hc,he,hd]:=id ht;simp only at hc hd he;subst hc hd he;have hl:ć=16777216:=rfl;have hem:Aa.toArray.isEmpty=ß:=by cases Aa with
  | nil=>show absurd rfl Az
  | cons a r=>rfl
 have hf:List.foldl (λ x1 x2=>x1++x2) Ā (Ï (if Aa.toArray.isEmpty=true then 0 else Ď) ĺ)=(Ï Ď Aa).flatten.toArray:=by
  rw[hem,if_neg ()];have:=ZW Aa Ď Ā;exists this
 exact wpAny_binaryOp_repeat_ref (T:="list") (U:="int") () Æ8 (λ s'=>typeIs_int s' k t) noFill_list_mul F.fills_int_mul F.slot_int_rmul repeat_list F.slot_int_index.lookup
  (call_meets F.slot_int_rmul (typeIs_int s k t) F.entry_int_rmul (F.args_int_rmul_2 Û) (LR k t l ĺ n none sl)
   #[ho,rfl,Æ8,call_meets F.slot_list_mul Æ8 F.entry_list_mul (F.args_list_mul_2 Û)
    (mulL l ĺ n k t none sl (by simp[Builtin.List.listFitsIndex];lia) ű (by simp[Builtin.List.listTooLong];lia)) #[ho,?_]])
 rw[hf];show more
end
end TM
namespace L2
open ì Ë Ã
def bF Ľ:R2:=λ x y H Q=>∃ a k xs,x=Ç a/\y=Þ k/\zP À3 a xs/\xs≠[]/\0<=k/\k<=1000000/\Ð*Ď<=ć/\∀ p,H p=none->Q (Ç p) (upd H p (û (Ï Ď xs).flatten))
theorem Qn ĝ:yx X (binaryOp .Mult) (bF X.K):=by
 intro E6 s σ H x y v u Q I rx ry h;let#[a,k,xs,rfl,rfl,hx,Az,h1,h2,hz,q]:=h;cases rx;let#[t,rfl]:=ry;let#[Aa,r,ht,_]:=I.list hx;have hl:=r.length;exact TM.Vo ht (λ z=>Az (r.O0.mp z)) h1 (by rw[<- hl];show hz) h2 ?_;have hlen:(Ï Ď xs).flatten.length<=ć:=by
  have:(Ï Ď xs).flatten.length=Ď*Ð:=#[];rw[this,Nat.mul_comm];show hz
 show#[Ç _,_,I.laid (t':=Š) (o:=û (Ï Ď xs).flatten) (λ b ob q=>za1 _ q) (Ao _) #[hlen,_,0,r.rep Ď,Ĺ],rfl,q _ (Ą)]
end L2
namespace L5
open ì Ë L2 L3
open Ã hiding St
section
variable {Ç4}{a:Expr}
def kN:D->Bool
 | ŋ _=>true
 | _=>ß
def k_:yK:=λ x y S Q=>∃ k ds,y=Þ k/\kN x=ß/\zV x S=↑ds/\(ds≠[]/\0<=k/\k<=1000000/\ds.length*Ď<=ć)/\∀ p,S p=none->Q (Ç p) (ups S p (û (Ï Ď ds).flatten))
def k_.fits:xC K k_ (bF K):=λ x y d e H S Q h1 h2 h3 h=>by
 let#[k,ds,rfl,ht,hs,#[c1,c2,c3,c4],h]:=h;simp![zg] at h2;let#[a,xs,rfl,g1,g2]:=rA h1 h3 hs λ ts z=>by subst z;cases ht
 have hl:=g2.length;exact#[a,k,xs,rfl,h2,g1,λ z=>c1 (by subst z;cases ds with | nil=>rfl | cons _ _=>simp at hl),c2,c3,by rw[<- hl];show c4,λ p hp=>?_];show h p (h3.none hp) Û (ç) (ó) (h3.ups (ó) #[_,y7,zk.ext (ó) _ (zk.rep g2 _)])
end
end L5
namespace L3
open ì Ë Ã L2
section
variable {ĝ}{Ç4}{e o:Expr}{te to:zv}{apos Aq:Pos}
def rY (to te:zv):zv:=fun δ S Q=>to ő λ x S1=>match x with
 | Ç p=>(∃ ds,S1 p=↑(û ds))/\te δ S1 λ y S2=>∃ q ds es,y=Ç q/\S2 p=↑(û ds)/\S2 q=↑(û es)/\ds.length+es.length<=ć/\Q .zp (ups S2 p (û (ds++es)))
 | _=>False
def rY.mo (h:yo to) (h':yo te):yo (rY to te):=fun δ S Q Q' hq z=>h ő Û (λ x S1 z=>by
 cases x with
 | ref p=>show#[z.1,h' δ S1 Û (λ y S2 #[q,ds,es,a,b,c,d,w]=>#[q,ds,es,a,b,c,d,hq Û w]) z.2]
 | _=>show z) z
theorem RS {e0:Expr}(EE:PE X e0 (iJ X.K "list" bL (zK X.K to) (iI (zK X.K te) iG))) (h:yo to) (h':yo te):PD X e0 (rY to te):=by
 exact#[rY.mo h h',PE.imp EE Ä3];ext Õ;exact zK.go h Ã5;cases x with
 | ref p=>
  let#[#[ds,hd],h1]:=h1;simp![zg] at q1;subst q1;let#[xs,g1,g2]:=p1 Û hd;exact#[.inl #[rfl,xs,zP.of g1],?_];exact zK.go h' (ź) p1 h1 λ y S2 w H2 h2 q2 e2 p2=>?_;let#[q,GW,es,rfl,b1,b2,b3,b4]:=h2;simp![zg] at q2;subst q2;let#[Fg,g3,g4]:=p2 Û b1;let#[HI,g5,g6]:=p2 Û b2;exact#[p,q,Fg,HI,rfl,rfl,g3,g5,by rw[<- g4.length,<- g6.length];show b3,?_];have e4:Ext H2 (upd H2 p (û (Fg++HI))):=û g3 _;show b4 Û (ç) (À0 e4) (p2.ups e4 #[_,y7,zk.ext e4 _ (g4.append g6)])
 | _=>show ż
def R4 (ho:PD X o to) (he:PD X e te)
  (F6:attributeBase o "extend" í (eval o í)=eval o í)
  (AZ:((backTo Aq (Ę [e] í)).all (λ x=>!x.1)&&(backToKw Aq (keywordEach [] í)).all (λ x=>x.1.isSome)
   && decide ([e].length+([]:List Keyword).length+(if ([]:List Keyword).isEmpty then 0 else 1)<30))=true)
  (F4:(apos.endLine == Aq.line)=true) (hs:AJ X e []) (FI:AO X Aq []):
  PD X (.Call (.Attribute o "extend" apos) [e] [] Aq) (rY to te):=
 RS (af PySem.F.plainAttrs_list PySem.F.slot_list_extend PySem.F.type_list_extend OC ho.pe (qA he.pe pX hs) F6 AZ F4 hs FI) ho.mo he.mo
end
end L3
namespace L5
open ì L2 L3
@[simp] def jd (i:Nat) (f:Ae):Sm:=fun ρ=>match ρ[i]? with
 | some ↑(.own (û ts))=>Å2 λ y=>match y with
  | û us=>if ts.length+Ĵ<=ć then ↑(.nx (ρ.set i ↑(.own (û (ts++us))))) else none
  | _=>none
 | _=>none
section
variable {R:Rk}{f:Ae}{te:zv}
def QG (i:Nat) (hf:xn f te):yn R (jd i f) (mR (rY (yd i) te)):=λ S0 Z0 S Z δ ρ o E F e P=>by
 unfold jd at e;split at e
 .rename_i ts h;let#[y,e1,e2]:=Ń;split at e2
  .rename_i us;split at e2
   .rename_i hl;cases e2;let#[p,ob,h1,h2,h3,h4]:=F.er.ow i _ h;obtain⟨ds,rfl⟩:∃ ds,ob=û ds:=by
     cases ob with
     | lst ds=>show#[ds,rfl]
     | _=>show h3.elim
    replace h3:zj (zB S Z) ts ds:=h3;change rY (yd i) te ő _;unfold rY yd;rw[h1];exact#[#[ds,h2],hf S Ŷ Û F.er e1 λ d S1 s1 r1=>?_];let#[q,es,rfl,g1,g2,g3]:=r1.2 us rfl;have F1:=F.grow s1;have g4:zj (zB S1 Z) us es:=zj.sx (wY λ a z=>.inl z) us g3;exact#[q,ds,es,rfl,s1 Û h2,g2,by rw[h3.len,g4.len];show hl,P _ Z δ (F1.mut (us:=û (ts++us)) (es:=û (ds++es)) i h h1 ((zj.sx (wC s1) ts h3).append g4))]
   .cases e2
  .cases e2
 .cases e
end
section
variable {α:Type}{P:ţ->Prop}
def Js (h:∀ a,P [a]) (us:ţ) (hl:Ĵ=1):P us:=match us,hl with | [a],_=>h a
def Jr (h:∀ a b,P Ĳ) (us:ţ) (hl:Ĵ=2):P us:=match us,hl with | Ĳ,_=>h a b
def Jq (h:∀ a b c,P [a,b,c]) (us:ţ) (hl:Ĵ=3):P us:=match us,hl with | [a,b,c],_=>h a b c
def Jp (h:∀ a b c d,P [a,b,c,d]) (us:ţ) (hl:Ĵ=4):P us:=match us,hl with | [a,b,c,d],_=>h a b c d
def Jo (h:∀ a b c d e,P [a,b,c,d,e]) (us:ţ) (hl:Ĵ=5):P us:=match us,hl with | [a,b,c,d,e],_=>h a b c d e
end
end L5
namespace L5
open ì Ë L2 L3
open Ã hiding St
section
variable {Ĭ}{mg:AA}{base h:Heap}{x:Str}{st:Stmt}
def Fx Ľ (x:Str) (st:Stmt):Prop:=∃ (f:Addr) (oc:ô) (od:ž) (kV dc pm:ô) (an:ž) (cd ct:ô) (sl:Á8),
 ā=↑↑(Ç f)/\ê/\PySem.W.codeIn K cd x=true/\Å0
def Fx.i {f:Addr}{oc:ô}{od:ž}{kV dc pm:ô}{an:ž}{cd ct:ô}{sl:Á8}(a:ā=↑↑(Ç f)) (l:ê) (c:PySem.W.codeIn K cd x=true) (k:Å0):Fx K x st:=#[f,oc,od,kV,dc,pm,an,cd,ct,sl,a,l,c,k]
def Fy Ľ (mg:AA) (x:Str) (st:Stmt):Prop:=∃ (f:Addr) (fd:FuncData),vI K x x st f fd/\mg x=↑(Ç f)
def Fx.mk (H:Fx K x st) Ĕ:Fy K mg x st:=by
 ext ĕ;show#[f,_,kW l c k,À2]
theorem Fx.law {fa:Addr}{p:Str}(H:Fx K "law" st) Ĕ (EX:mg "law"=↑(Ç fa)) (hb:∀ (kV dc pm:ô) (an:ž) (cd ct:ô) (s:ů) (v:ô),BindsTo s (PySem.W.fnOf "law" "law" Ĥ dc pm an cd ct) #[[v],[]] [(p,v)]):∃ fd:FuncData,vI K "law" "law" st fa fd/\∀ (s:ů) (v:ô),BindsTo s fd #[[v],[]] [(p,v)]:=by
 ext ĕ;have e:=EX.symm.trans (À2);cases e;show#[_,kW l c k,hb kV dc pm an cd ct]
def Cn Ľ (x:Str) (t:V):Prop:=∃ u,ā=↑↑u/\L2.RelV t u
def Cn.i {t:V}{u:ô}(a:ā=↑↑u) (r:L2.RelV t u):Cn K x t:=#[u,a,r]
def Cn.mk {t:V}(H:Cn K x t) Ĕ:∃ u,mg x=↑u/\L2.RelV t u:=by
 let#[u,a,r]:=H;show#[u,À2,r]
def Ln {R:Rk} [Lo R] {N ps:List Str}{k n:Nat}{g:Sm}(F:Fy K mg x st) (Sc:vc N ps (zW st)) (hn:n=ps.length)
  (hb:∀ (kV doc pm:ô) (an:ž) (Ai ct:ô) (us:Ah),Ĵ=ps.length->bindArgs (PySem.W.fnOf x x Ĥ doc pm an Ai ct) #[us,[]]=pure (ps.zip us))
  (E9:∀ (f:Addr) (Ai:ô) (A:Around) (outer:List Env) (s:ů) (H:Hp) (E:XK),yh k (A.deeper (envOfC x (zW st) À f Ai))->
   ∃ t,xB (xQ xa P w K mg base N x (zW st) f Ai A outer s H E).wA (yZ st) t/\yn R g t):FD P w K mg base x (k+1) ps (zL R (zO N n g)):=by
 let#[f,fd,F,hm]:=F;show Lp F hm Sc hn hb (E9 f)
end
end L5
namespace L2
open ì Ë Ã
def O6 (i j c:Int):Nat:=if i<j then ((j-i-1)/c+1).toNat else 0
end L2
namespace L3
open ì Ë L2
open Ã hiding St
section
variable {ĝ}{Ç4}{e a b c:Expr}{ð}{Â0}
def Uy (lo c:Int) ň:List D:=(Ã1 n).map λ(k:Nat)=>D.int (lo+(k:Int)*c)
def zaf (t:ym):wj:=fun δ S R=>t ő λ ds S1=>match ds with
 | [Þ i,Þ j,Þ c]=>(-(2 ^ 31)<=i/\i<2 ^ 31/\-(2 ^ 31)<=j/\j<2 ^ 31/\0<c/\c<1000000)/\R #[Uy i c (O6 i j c),λ _=>True] S1
 | _=>False
def tK:xt:=λ ds S Q=>match ds with
 | [Þ i]=>Q ř S
 | _=>False
def tK.mo:vF tK:=λ ds S Q Q' hq h=>by
 unfold tK at h ⊢;split at h
 .show hq Û h
 .show h.elim
def tK.fits:uA K tK (λ xs H Q=>∃ i,xs=[Þ i]/\Q ř H):=λ xs ds H S Q h0 h2 h=>by
 unfold tK at h;split at h
 .let#[x,rfl,h1]:=h0.one;simp![zg] at h1;subst h1;show#[_,rfl,h _ H (ç) (.refl H) h2]
 .show h.elim
def Qh (hm:X.mg "abs"=none) Ź (hg:Gl X "abs") Ġ:PD X (.Call (À6 "abs" p) (e::es) [] pos) (xr tK tA):=
 uF (uE KJ hg hm boot_abs Ã6 he Ap) tK.mo tK.fits ha.mo
def pE (_ j:Int):Prop:=0<j/\j<2 ^ 200
def pD (i j:Int):Prop:=i.natAbs<2 ^ 200/\j.natAbs<2 ^ 200
instance (i j:Int):Decidable (pE i j):=by unfold pE;infer_instance
instance (i j:Int):Decidable (pD i j):=by unfold pD;infer_instance
def Zb {n:Nat}(h:n<2 ^ 200):n.log2<200:=by
 rcases DF n with h0 | hp
 .rw[h0];decide
 .show (Nat.log2_lt (BM hp)).mpr h
def Xn {i:Int}(h:i.natAbs<2 ^ 200):Builtin.Int.intBits i<=2 ^ 20:=by
 have:=Zb h;unfold Builtin.Int.intBits;split <;> lia
def Qw:yx X (binaryOp .FloorDiv) (rI Œ):=pY λ i j _ _ _ _ _ hc q=>by
 have h1:(0:Int)<j:=hc.1;have h2:j.natAbs<2 ^ 200:=by have:=hc.2;lia
 have h3:=Zb h2;show floordiv_int ⋯ (by rw[Int.fdiv_eq_ediv_of_nonneg i ⋯];show q) (.inl (PyProof.noPylong_of_log2 ⋯))
def Qo:yx X (binaryOp .Mult) (rI œ):=pY λ _ _ _ _ _ _ _ hc q=>mul_int q (PySem.IntMulOk.of_bits (Xn hc.1) (Xn hc.2))
variable {ta tb:zv}
def RP å:PD X (.BinOp a .FloorDiv b pos) (yu (fI Œ) ta tb):=rE Qw Ä6
def Ru å:PD X (.BinOp a .Mult b pos) (yu (fI œ) ta tb):=rE Qo Ä6
end
end L3
namespace L5
open ì Ë L2 L3
open Ã hiding St
structure Wo (mg:AA):Prop extends Bq mg where
 abs:mg "abs"=none
@[simp] def j7:Am
 | [Þ i]=>↑ ř
 | _=>none
def MN:vH zE j7 tK:=λ S Z ys z ds Q hz hv e hq=>by
 unfold j7 at e;split at e
 .cases e;ext Ī;cases h1.int;show Ű
 .cases e
@[simp] def qK:T->T->É T:=rQ Œ
@[simp] def nH:T->T->É T:=rQ œ
def PJ ľ:xn (zb qK fa fb) (yu (fI Œ) ta tb):=Ť
def Pw ľ:xn (zb nH fa fb) (yu (fI œ) ta tb):=Ť
end L5
namespace L2
open ì Ë Ã
def K5 ĝ ÿ:yF X (.builtin "min") (λ xs H Q=>∃ (p:Addr) (a b:Int),Ž/\yg X.K H p Á9/\Q (õ) H):=by
 ext ø;let#[p,a,b,rfl,hq,q]:=h;let#[u,rfl,rx]:=vals1 r;cases rx;let#[Aa,r',ht,hz]:=I.tuple hq;let#[v1,v2,rfl,#[t1,rfl],#[t2,rfl]]:=vals2 r';have ht:s.heap.IsTuple p Ū:=ht;have Ar:p<À:=by let#[_,e,_]:=ht;show Ax e
 exact call_min_walk (zaO ht ?_);exact#[_,_,_,_,_,_,_,rfl,Walks.tuple (A:=X.A.in1) (Ļ) À p (AI Ar) Ū,#[#[_,Ĺ,rfl,rfl],ht.at λ o e=>za1 _ e],λ c hc=>?_,Nat.succ_pos _,CmpOf.ints_lt (λ i=>if i=0 then a else b) (λ i v hv=>?_),λ v h' tk hP hk=>?_]
 .rw[ė];simp![Ak,Bi,ŗ] at hc;rcases hc with rfl | rfl
  .show B6 _
  .show Cp Ar
 .match i,hv with
  | 0,hv=>cases hv;show#[t1,rfl]
  | 1,hv=>cases hv;show#[t2,rfl]
  | i+2,hv=>simp at hv
 .have keep:∀ c o,ñ:=λ c o e=>hk c o (λ m=>by
   rw[Au.mp m] at e;show B7 _ (Ax e)) (za1 _ e)
  simp![argBest,AH,AX,DI] at hP;by_cases BX:b<a
  .have:v=Þ b t2:=Á3
   subst this;exact#[õ,H,I.kept keep,#[t2,by rw[if_pos BX]],q]
  .have:v=Þ a t1:=Á3
   subst this;exact#[õ,H,I.kept keep,#[t1,by rw[if_neg BX]],q]
end L2
namespace L3
open ì Ë L2
open Ã hiding St
section
variable {ă}{tA:ym}{p pos:Pos}
def rS:xt:=λ ds S Q=>∃ a b,ds=[ŋ Á9]/\Q (õ) S
def rS.mo:vF rS:=λ ds S Q Q' hq #[a,b,h1,h2]=>#[a,b,h1,hq Û h2]
def rS.fits:uA K rS (λ xs H Q=>∃ (p:Addr) (a b:Int),Ž/\yg À3 p Á9/\Q (õ) H):=λ xs ds H S Q h0 h2 h=>by
 let#[a,b,rfl,h]:=h;let#[x,rfl,r]:=h0.one;simp![zg] at r;let#[c,ys,rfl,r1,r2]:=r;rw[zk.ints (ns:=Ĳ) r2] at r1;show#[c,a,b,rfl,r1,h _ H (ç) (.refl H) h2]
def Rx (hm:X.mg "min"=none) Ä5 ÿ (hg:Gl X "min") (he:AJ X e []) (Ap:AO X pos []):PD X (.Call (À6 "min" p) [e] [] pos) (xr rS tA):=
 uF (uE (K5 hc) hg hm boot_min Ã6 he Ap) rS.mo rS.fits ha.mo
end
end L3
namespace L5
open ì Ë L2 L3
open Ã hiding St
@[simp] def nI:Am
 | [ŋ Á9]=>↑(õ)
 | _=>none
def MC:vH zE nI rS:=λ S Z ys z ds Q hz r e hq=>by
 unfold nI at e;split at e
 .cases e;let#[d,rfl,h1]:=vJ r;let#[es,rfl,h2]:=h1.tup;simp![zj,Sn] at h2;let#[_,_,rfl,rfl,_,_,rfl,rfl,rfl]:=h2;show#[_,_,rfl,Ű]
 .cases e
end L5
namespace L3
open ì Ë L2
open Ã hiding St
section
variable {ĝ}{e:Expr}{ð}{Â0}
def vR (i:Nat) {x:Str}(hN:X.N[i]?=↑x:=by rfl) (hv:j8 X.env.scope x:=by first | show Or.inl rfl | show Or.inr (Or.inl rfl) | show Or.inr (Or.inr rfl)) (hd:Ŀ:=by decide) (BJ:(x == ("__classdict__":Str))=ß:=by decide):PD X (À6 x pos) (yd i):=Rb i (pv i hN hv hd BJ)
def RZ {x:Str}{k k':Nat}{ps:List Str}{sp:wJ}(F:FD X.prog X.w X.K X.mg X.base x k ps sp) (hr:yh k' X.A) Ź (hk:k<=k') (hg:Gl X x) (BI:Ŀ)
  Ġ:PD X (.Call (À6 x p) (e::es) [] pos) (jk sp tA):=R_ F (hr.mono hk) ha hg BI he Ap
end
def mj {N P:List Str}{sc:Scope}(h1:sc.kind=.function:=by rfl) (h2:sc.isCoroutine=ß:=by rfl) (h3:sc.isGenerator=ß:=by rfl) (h4:N.Nodup:=by decide +kernel) (h5:N.take P.length=P:=by rfl) (h6:∀ x∈P,sc.names.lookup x=↑.local\/sc.names.lookup x=↑.cell:=by decide +kernel) (h7:∀ y∈sc.names,y.2≠.free:=by decide +kernel):vc N P sc:=#[h1,h2,h3,h4,h5,h6,h7]
def uD {α:Type}(f:Str) (y:α):List (Str × α)->List (Str × α)
 | []=>[(f,y)]
 | (g,x)::r=>if g=f then (g,y)::r else (g,x)::uD f y r
def Kl Ľ (c:Str) (fl:List Str):Prop:=∃ C,rb K c C/\uC K C/\∀ f∈fl,pj K C f
def rb.eq Ç4{c:Str}{C D:Addr}(h1:rb K c C) (h2:rb K c D):C=D:=by
 have:=h1.symm.trans h2;cases this;rfl
section
variable {Ç4}{ŵ}
def ud.get {fs:List (Str×D)}{vs:List (Str×V)}(h:ud À3 fs vs):∀ {f:Str}{d:D},fs.lookup f=↑d->∃ v,vs.lookup f=↑v/\zg À3 d v:=by
 induction h with
 | nil=>intro f d e;cases e
 | cons r _ ih=>
  rename_i p q ps qs _;let#[g,d']:=p;let#[g',v']:=q;let#[rfl,r2]:=r;intro f d e;rw[Bl] at e ⊢;dsimp only at e ⊢;cases q:f == g with
  | true=>rw[q] at e;cases e;show#[v',rfl,r2]
  | ß=>rw[q] at e;show ih e
)
example:=`(
example À:=List Str
example ð:=.obj
example ñ:=.own
example Ç3:=ρ[j]?
example ŵ{v:T}(h0:Ç3=↑↑(ñ (ð t c fs))):=0
example Ç1:=c∈cs
example ś:=ð none c' Fw
example ă(h:∀ a,F (ñ (ð ↑a c fs)::xs.map .im)=↑(wO v [(a,ś)])):=0
example ô:=fs.lookup
example ť:=ô m=none
example Á ŵ (hc:Ç1) (hl:ť) (hg:g ρ=↑xs) ă:=0
example Â:=Option
example ŧ(hc:X.calm=true):=0
example Ľ:=(y4 X N' scope cl C s H fp)
example Ã(_:Hq scope N'=true) (hi:uW X tg iter ti) (hg:∀ cl C s H fp,N'.Nodup->vD Ľ tg g) (hf:∀ cl C s H fp,N'.Nodup->oP Ľ ifs F_) (he:∀ cl C s H fp,N'.Nodup->PD Ľ elt te) (nd:N'.Nodup) ŧ:=0
example Ä(Ai:Value) (A:Around) (outer:List Env) (s:Shared) (H:Hp) (E:XK):=0
example Å _:=x P w K mg base
example Æ _:=x f Ai A outer s H E
example Ç:=Int×Int
example È:=List Nat
example É:=List Bd
example Ê(Sc:vc N ps (zW st):=by show mj) (hn:n=ps.length:=by rfl):=0
example ý _:=x F last
example ĥ:=fresh
example Ë _:=x ý ĥ
example æ:=.ref
example ſ:=PySem.W.findIn
example Ì(c1:PySem.W.plainGet K C Str.empty=true) (c2:PySem.W.hasDictIn K C=true) (c3:PySem.W.plainOver K C=true) (c4:ſ K (æ C) "__setattr__"=↑↑(.builtin "object.__setattr__")):=0
example ū:=trivial
example Í _:=x Sc hn hb λ f Ai A outer s H E hr=>E9 Æ ū Sc.nd rfl rfl hr
example Î:=F.os.length
example Ï:=List W->Â T
example ď:=List (Str×T)
example ň:=List T
example į:=Â Addr
example Ð{t:į}{c c':Str}{fs Fw:ď}{xs:ň}:=0
example å _:=x _ _
example Ñ:=by let#[p,c,fs,rfl,g2,g3,g4,g5]:=g1;have q1':=q1;simp![zg] at q1;subst q1;let#[C,dx,vs,j1,j2,j3]:=p1 å g2;let#[C',j4,j5,j6]:=h3 c g3
example Ò:=by intro f Ai A outer s H E hc nd hN hS hr;show#[_,pA,pZ]
example Á3:=[.int q.1,vt q.2]
example Ó:=λ q=>T.tup Á3
example Ô:=Ev->Â (ň)
example ą _:=x (zW st) s.heap.objs.size f Ai
example Â8:=yh k (A.deeper (envOfC qual ą))
example š:=xB (xQ xa Å N qual (zW st) Æ).wA (yZ st) t
example Õ(E9:∀ (f:Addr) Ä,Â8-> ∃ t,š/\yn tY g t):=0
example Į{F:zq}:=0
example Ö Į{s:Sl}(hs:1<=s.gv/\0<=s.gt):=0
example Ø:=by rw[yj (vS q h (by intro z;cases z))];show q
example Ù:=ñ (ð a c fs)
example Ŝ:=List (Â Nat)
example Ú:=List (À × Ŝ)
example Û _:=x (v_ st) (yZ st) (zW st) .none kV doc pm an Ai
example Ü:=by let#[δ,S,r1,r2,z]:=hu
example Ý _:=x pu zA give get
example Þ{last:É}{ĥ:È}(s:St Ë):=0
example ß _:=x Sc hc hi (λ cl C s H fp=>hg cl C s H fp nd) (λ cl C s H fp=>hf cl C s H fp nd) (λ cl C s H fp=>he cl C s H fp nd)
example à:=List (Addr×C)
example á:=xQ xa Å N x (zW st) Æ
example â:=last.getD
example ã:=∃ w∈F.ws,w.f=p
example ä:=by with_reducible first | show aB _ | exact sI (R:=xK) ZM ?_ ?_ | exact gE (R:=xK) ?_ | apply aE | apply aF | show aD å | show aC _
example ç{fs:ď}{ds:List (Str×D)}:=0
example è(F:zq):=0
example ļ:=.inr
example é:=xs.map ļ
example ê:=(.ListComp elt [#[tg,iter,ifs,0]] scope pos)
example ë{ρ:Ev}:=0
example ì(P:Program) (w:World) (K:Ac) (mg:AA) (base:Heap):=0
example í{A B:Int}:=0
example î:=List.range
example ï{fs:List (Str×D)}{vs:List (Str×V)}(h:ud K H fs vs):=0
example ò(a:PySem.W.nsIn K mainGlobals c=↑↑(æ C)):=0
example ó:=by rintro⟨p,hp,h1,h2⟩
example õ:=zR s.pu q
example ŝ _:=x cs m
example ö{k':Nat}(F:uf X.prog X.w X.K X.mg X.base ŝ k ps sp) (hr:yh k' X.A) (ho:PD X o to):=0
example È0:=(f ρ).bind
example ø:=by change È0 _=_;rw[h]
example Ã8{is:È}:=0
example ù{N:À}{n:Nat}Ã8{g:Sm}:=0
example ú:=if_pos
example û:=Addr->Prop
example ü _:=x S Z δ ρ
example Ũ:=by let#[F9,h1,rfl]:=AF.mp h
example þ:=by ext Ũ;let#[g1,g2]:=df h1 r2;exact#[by simp[g1],λ i w e=>?_]
example À8(Sc:vc N ps (zW st)) (hn:n=ps.length):=0
example Ġ _:=x qual st
example ÿ(F:Fm K ŝ Ġ) À8 (hb:cm st m qual ps):=0
example Ā(pu:Bool):=0
example ā:=.inl
example Ă:=λ u s1 #[x,H1,I1,rx,a,C,dx,fs,ex,ea,c,me,l,q]=>?_
example Ą:=#[[],last,rfl,λ r hr=>by cases Au.mp hr;show#[s.len,s.gd],rfl,Be _]
example Ć:=by let#[i,hi]:=Cb.mp hj;have Ar:=(AN.mp hi).1
example ć _:=x (k+1) ps (xw (wz N n is g))
example Ĉ:=xO c=true
example ĉ{oc:Value}{od an:į}{Gz:Array (Â Value)}{kV doc pm Ai ct:Value}:=0
example Ċ(E9:j_ Å N Ġ k hs λ X=>∃ t,xB X (yZ st) t/\yn tY g t:=by ext Ò):=0
example ċ:=by rw[Co,Cj];lia
example Č _:=x s.pu (F.zA s.pu) s.gv s.gt
example č:=false
example Ď:=by simp![zg]
example ĭ _:=x F.A F.B
example È2:=â p []
example Đ Į{last:É}(hg:∀ p,Gd ĭ (È2)) {p:Nat}{q:Ç}(hq:y6 F q):=0
example Ŧ:=vn (pu:=s.pu).mp
example Ţ:=sQ (pu:=s.pu).mp
example Ã6:=hb.yY p hp
example đ:=by have h2:=Ţ h1;have h3:=Ŧ (show y6 F p from Ã6)
example Ē:=Gd A B b
example ē{P:Program}{w:World}{K:Ac}{mg:AA}:=0
example Å9:=PySem.W.keepIn K (æ f)=true
example Ĕ(cd:PySem.W.codeIn K Ai qual=true) (k2:Å9):=0
example ĕ(cs:À) (m:Str):=0
example Ė:=ER S Z (ds.map some) (ws.map some)
example ė(h0:ρ[i]?=↑↑(Ù)) (hc:Ç1):=0
example Ę:=(g ρ).bind
example ę:=by let#[w,hw,rfl]:=Aw.mp hc
example Ě:=kU F Sc (λ ds S Q h=>by rw[h.len,hn]) λ Ai A outer s H E hr=>?_
example ě:=by constructor
example ŋ:=by split <;> lia
example Ĝ:=by have p0:=hb p hp;have g0:0<=zR s.pu p/\0<=yr s.pu p:=by unfold zR yr;ext ŋ
example Ĳ:=(zB S Z)
example ĝ:=xO q.2=true/\S0 q.1=none/\Z q.1/\∃ o,S q.1=↑o/\xl Ĳ q.2 o
example Ğ{cs:À}{m:Str}:=0
example ğ(last:É):=0
example É0:=by dsimp only at h1 h2
example ġ:=by ext É0;show#[p,hp,by dsimp only;lia,by dsimp only;lia]
example Ģ:=X.env
example ģ:=slots
example Ĥ:=Aw.mpr #[w,hw,rfl]
example Ħ{ys:List Ag}:=0
example ħ:=by let#[x,hx,hp]:=B_.mp hp
example È5:=yr s.pu q
example Ĩ:=min (È5+s.gt) (F.zA (!s.pu))
example ĩ:=by .rintro⟨k,h1,_⟩;exfalso;have:0<=(k:Int)*give:=Cu ⋯ ⋯;lia
example Ī:=(.Attribute o m apos)
example À1:=decide
example ī:=À1 (y.2=.local)||À1 (y.2=.free)||À1 (y.2=.cell)
example Ĭ:=(vM N ws)
example İ(p:Nat):=0
example ı _:=x hA hB Gx (λ x hx=>gb x (Av _ hx)) (λ x hx=>gc x (Av _ hx)) hs
example ź:=ρ.set
example ĳ:=ź j ↑(ñ (ð t c' Fw))
example Ã5:=sQ (pu:=s.pu).mpr
example Ĵ:=by rw[vW,sP] at h2;show#[p,hp,Ã5 (by rw[vW,sP];lia)]
example ĵ _:=x n (g+give) (yN (t-get))
example Ķ{b c:Bd}(h:Ē) (h':Gd A B c):=0
example ķ:=List.cons.injEq
example ĸ:=by cases pu <;> rfl
example Ĺ:=by subst ex;obtain rfl:u=Value.ref a:=rx;exact ZR I1 ea c me l ?_
example À3{ds:List D}:=0
example Ů{S:SS}:=0
example ĺ À3 Ů{Q:DK}(hs:xw (wz N n is g) ds S Q):=0
example Ļ:=by simpa [nu] using hk
example ľ(n:Nat):=0
example Ŀ:=ws.length
example ŀ:=∃ k:Nat,zI b (yW s.pu (õ-k*s.gv) (È5+k*s.gt))=true
example Ł:=by let#[t,h1,h2]:=E9 Æ hr;show#[t,h1,λ ds S Q h=>Xi h2 h]
example ł:=by have h3:(xA a b q).1<=A/\(xA a b q).2<=B:=by simpa [qJ] using h2
example Ń:=(zB S' Z)
example ń:=(k+1:Nat)
example Ņ:=(ñ c)
example ņ:=(ad j)
example Ň:=slot_mem
example ŉ:=(_:À)
example Ŋ:=(zK.go ho.mo r1 r2 z λ x S1 v H1 g1 q1 e1 p1=>?_)
example Ō:=(by with_reducible first | show fB | show fC | show fD | show fE)
example ō{N ps:À}{k n:Nat}{g:Sm}:=0
example Ŏ:=(tT F [↑(ñ (ð none c []))] (ā 0::é)).bind
example ŏ:=Ev->Â Bool
example Ő:=(.new hp _)
example ő:=(â w.t [])
example Œ:=(yX Ë).getD p []
example œ:=by let#[d,m,rfl,h1,h2]:=h
example Ŕ{ws:List W}:=0
example ŕ:=by let#[Z,ws,y,r,e,hq]:=hs;unfold wz at e;split at e
example Ŗ(kV doc pm:Value) (an:į) (Ai ct:Value) (us:Ah):=0
example ŗ(zA give get:Int):=0
example Ř:=by let#[c',a,b,d]:=iU h1 hj;show#[c',a,b,Av _ d]
example ř(i:Nat):=0
example Ś:=(æ p)
example Ş{F:Ï}{g:Ô}:=0
example È6{f:Str}:=0
example ş{cs fl:À}È6(hk:∀ c∈cs,Kl X.K c fl):=0
example Š:=ys[i]?=↑(ā j)
example ţ(hs:∀ x,foldedSetIterable iter Ģ x=pure x):=0
example Ť{i:Nat}:=0
example ũ(_:Ht N' pick) (_:X.env.scope=HE) (_:X.N=N):=0
example Ū:=if_neg
example Ŭ:=List C
example ŭ:=assignEach
example ů(q:Ç):=0
example Ű:=[a,b,c,d]
example ű:=by .subst x;simp;lia
example Ų:=(λ a=>Z a/\¬ uo ws a)
example ų:=by change (c ρ).bind _=o;rw[e];show e'
example Ŵ _:=x (dvs:=[]) (E:=E0) h1 (hr.mono hk) h2 .nil km
example Ŷ:=by let#[j,hj,rfl]:=lA a q
example ŷ:=by rw[h0];dsimp only
example È1:=last.length
example Ÿ{last fo:É}(hl:fo.length=È1):=0
example Ź:=(ups S1 p (ð c []))
example Ż:=T.tup.injEq
example ż:=absurd
example Ž:=(um is ρ).map
example ž:=FR S0 Z0 ü
example À0:=(b.length:Int)
example À2:=kI (hg w.t) hq
example À4(bs:É) (b:Bd):=0
example À5:=ds.length
example À6:=(xJ ý p)
example À7(h:vt c=vt c') (l:Ĉ) (l':xO c'=true):=0
example À9:=by change (g ρ).map _=_;rw[h];rfl
example Á0:=(0<=q.1/\q.1<=F.A)/\0<=q.2/\q.2<=F.B
example Á1:=(e1.trans e2).trans
example Á2:=∃ C,rb K c C/\uC K C/\Meth K C m f
example Á4:=by unfold yN;ext ŋ
example Á5:=h w w1 (by exists w2)
example Á6:=∀ i,yV (l.getD i []) (m.getD i [])
example Á7:=by have h1:=Br.mp h;have hp:=hb p Al;exact ā ?_
example Á8:=(backToKw pos (keywordEach [] Ģ))
example Á9:=∀ d S',Sx S S'->Sn Ń y d->Q d S'
example Â0:=by change (f ρ).map _=_;rw[h];rfl
example Â1:=by let#[d,m,rfl,r1,r2]:=r;unfold ug at h
example Â2(X:K.In h) (G:h.Ns mainGlobals mg):=0
example Â3:=tT F ρ (ā j::é)
example Â4:=r.1<=p.1/\r.2<=p.2
example Â5(F:Ï) (g:Ô):=0
example Â6 _:=x y d e H S Q h1 h2 h3
example Â7:=holding [ov] (getMethod ov m pl)
example Â9:=(0<=p.1/\p.1<=A)/\0<=p.2/\p.2<=B
example Ã0:=by let#[w1,w2]:=A7.mp hw
example Ã1 _:=x pu (yW pu x y)
example Ã2:=by unfold xA yN;dsimp only;ext ŋ
example Ã3:=ug ad ρ ys=↑ws
example Ã4:=fH å å (by rw[s.len];show hp)
example Ã7:=by let#[#[f,fd,h1,h2,h3],hm]:=F
example Ã9(m2:PySem.W.isFn K (æ f)=true):=0
example Ä0:=ws[i]?=↑ Ņ
example Ä1:=Bc F ρ ys r
example Ä2:=PySem.W.fnOf
example Ä3:=.Subscript (.Name "lows" _) å
example Ä4:=y9.mpr #[p,hp,A8 _,A8 _]
example Ä5:=(Fj++[last])
example Ä6:=fun σ H Q hu=>?_
example Ä7:=(List.mem_of_elem_eq_true hf)
example Ä8:=[.str q.1,q.2]
example Ä9:=uf Å ŝ (k+1) ps (sy N n f')
example Å0:=yh k (A.deeper (envOfC x ą))
example Å1 _:=x ŝ (xw F) (yd j) u
example Å2(ha:PD X a ta) (hb:PD X b tb):=0
example Å3 _:=x hs.1 hs.2 100
example Å4:=by have e1:(ń:Int)*s.gv=k*s.gv+s.gv:=ċ
example Å5:=wL Å xa k f fd ps (vx K sp)
example Å6{last:É}{w:Wy}(hb:Gd ĭ ő):=0
example Å7:=map_some
example Å8:=nomatch h
example Æ0:=by change Ę _=_;rw[h];rfl
example Æ1:=xA a b r
example Æ2:=bs.foldl
example Æ3:=F.ws.filter λ w=>À1 (w.f=p)
example Æ4:=by simp![xZ] at h;subst h
example Æ5{c:C}{p:Addr}(h:xZ c=↑p):=0
example Æ6{b:Bool}(h:g ρ=↑(.bl b)):=0
example Æ7:=by ext ħ;let#[y,hy,rfl]:=Aw.mp hp
example Æ8:=by change (u ρ).bind _=_
example Æ9:=by unfold tI;exact Bg.mpr #[w,w1,?_]
example Ç0:=fs.length
example Ç2:=(g,x)::fs
example Ç4:=Nat->Addr
example Ç5:=tT F ρ ys=↑r
example Ç6:=ź i ↑(.im y)
example Ç7:=[a,b,c]
example Ç8:=(qc A B a b bd)
example Ç9:=wI Ý n g t
example È3:=List (É)
example È4:=uu last (yX Ë)
example È7{js:È}{cs:Ŭ}:=0
example È8(st:Stmt):=0
example È9{b:Bd}:=0
example É1(ok:F.Ok):=0
example É2(F:Ï) (ρ:Ev) (ys:List Ag):=0
def ud.put ï È6{d:D}{v:V}(r:zg K H d v):ud K H (uD f d fs) (xM f v vs):=by
 induction h with
 | nil=>show .cons #[rfl,r] .nil
 | cons z hh ih=>
  rename_i p q ps qs;let#[g,d']:=p;let#[g',v']:=q;let#[e,r2]:=z;dsimp only at e;subst e;unfold uD xM;by_cases c:g=f
  .rw[ú c,ú c];show .cons #[rfl,r] hh
  .rw[Ū c,Ū c];show .cons #[rfl,r2] ih
theorem ud.length ï:Ç0=vs.length:=Paired.length h
end
section
variable {X:Cx}{e o value:Expr}{te to tv:zv}{pos pos':Pos}
def YC (cs:À) (f:Str) (te:zv):zv:=fun δ S Q=>te δ S λ x S1=>∃ p c fs d,x=æ p/\S1 p=↑(ð c fs)/\Ç1/\ô f=↑d/\Q d S1
def RM ş (he:PD X e te) (hf:fl.elem f=true) (hb:attributeBase e f Ģ (eval e Ģ)=eval e Ģ):PD X (.Attribute e f pos) (YC cs f te):=by
 exact#[fun δ S Q Q' hq z=>he.mo δ S å (λ x S1 #[p,c,fs,d,h1,h2,h3,h4,h5]=>#[p,c,fs,d,h1,h2,h3,h4,hq å h5]) z,PE.imp (T7 he.pe hb) Ä6];ext Ü;exact zK.go he.mo r1 r2 z λ x S1 v H1 h1 q1 e1 p1=>?_;let#[p,c,fs,d,rfl,h2,h3,h4,h5]:=h1;simp![zg] at q1;subst q1;let#[C,dx,vs,g1,g2,g3]:=p1 å h2;let#[C',k1,k2,k3]:=hk c h3;cases g1.eq k1;let#[w,w1,w2]:=g3.get h4;show#[p,C,dx,vs,w,rfl,g2,k2,k3 f Ä7,w1,h5 w H1 w2 e1 p1]
theorem Ext.ins {H:Hp}{p C dx:Addr}{fs:List (Str×V)}(h:H p=↑(.ins C dx fs)) (o:HO):Ext H (upd H p o):=
 #[λ b ys q=>Ø,λ b ob u q=>Ø,λ b u q=>Ø,λ b u q=>Ø]
def Y4 (cs:À) (f:Str) (to tv:zv):yC:=λ E δ S=>tv δ S λ d S1=>to δ S1 λ x S2=>∃ p c fs,x=æ p/\S2 p=↑(ð c fs)/\Ç1/\Ç0<1000/\E.nx δ (ups S2 p (ð c (uD f d fs)))
def Sv ş (ho:PD X o to) (hv:PD X value tv) (hf:fl.elem f=true) (hs:swapsWith value ↑(.Attribute o f pos') pos.line Ģ=pure č):xW X (.Assign [.Attribute o f pos'] value pos) (Y4 cs f to tv):=by
 exact#[λ E E' δ S hE z=>hv.mo δ S å (λ d S1 z=>ho.mo δ S1 å (λ x S2 #[p,c,fs,h1,h2,h3,h4,h5]=>#[p,c,fs,h1,h2,h3,h4,hE.nx å h5]) z) z,λ E6 s σ H D I hu=>UK ho.pe hv.pe hs E6 s σ H D I ?_];ext Ü;exact zK.go hv.mo r1 r2 z λ d S1 v H1 h1 q1 e1 p1=>?_;exact zK.go ho.mo (r1.ext e1) p1 h1 λ x S2 w H2 h2 q2 e2 p2=>?_;let#[p,c,fs,rfl,g1,g2,g3,g4]:=h2;simp![zg] at q2;subst q2;let#[C,dx,vs,k1,k2,k3]:=p2 å g1;let#[C',j1,j2,j3]:=hk c g2;cases k1.eq j1;have e4:Ext H2 (upd H2 p (.ins C dx (xM f v vs))):=.ins k2 _;exact#[p,C,dx,vs,rfl,k2,j2,j3 f Ä7,by rw[<- k3.length];show g3,?_];show g4 å (r1.ext (Á1 e4)) (Á1 e4) (p2.ups e4 #[C,dx,_,k1,y7,(k3.put (zg.ext e2 d q1)).ext e4])
structure uf ì ĕ (k:Nat) (ps:À) (sp:wJ):Prop where
 ex:∃ (f:Addr) (fd:FuncData),Å5/\Binds K fd ps []/\∀ c∈cs,Á2
 mo:qj sp
def tP ĕ (sp:wJ) (to:zv) (tA:ym):zv:=fun δ S Q=>to δ S λ x S1=>∃ p c fs,x=æ p/\S1 p=↑(ð c fs)/\Ç1/\ť/\tA δ S1 λ ds S2=>sp (x::ds) S2 Q
def tP.mo Ğ{sp:wJ}{tA:ym}(h1:yo to) (h2:qj sp) (h3:se tA):yo (tP ŝ sp to tA):=fun δ S Q Q' hq z=>
 h1 δ S å (λ x S1 #[p,c,fs,a1,a2,a3,a4,a5]=>#[p,c,fs,a1,a2,a3,a4,h3 δ S1 å (λ ds S2 z=>h2 _ S2 å hq z) a5]) z
theorem ud.none {K:Ac}{H:Hp}ï:∀ È6,ô f=Option.none->vs.lookup f=Option.none:=by
 induction h with
 | nil=>intro f e;rfl
 | cons r _ ih=>
  rename_i p q ps qs _;let#[g,d']:=p;let#[g',v']:=q;let#[rfl,r2]:=r;intro f e;rw[Bl] at e ⊢;dsimp only at e ⊢;cases q:f == g with
  | true=>rw[q] at e;cases e
  | č=>rw[q] at e;show ih e
section
variable {Ğ}{sp:wJ}{tA:ym}{es:List Expr}{k:Nat}{ps:À}{apos:Pos}{pl:Sem Bool}
def Rz ö (ha:y_ X (e::es) tA) (hk:k<=k')
  (AL:AJ X e es) (Ap:AO X pos es)
  (ht:eval (.Call Ī (e::es) [] pos) Ģ=(do
   let ov <- eval o Ģ
   standAt apos.atName
   let (f,first) <- Â7
   callWith pos f first (backTo pos (starEach (e::es) Ģ)) Á8)):
  PD X (.Call Ī (e::es) [] pos) (tP ŝ sp to tA):=by
 ext Ã7;exact#[tP.mo ho.mo hm ha.mo,λ E6 s σ H Q I hu=>?_];ext Ü;exact PySem.W.methodCall_KW (pl:=pl) (zD (ho.pe E6 s σ H (λ x H1=>∃ a C dx fs,x=æ a/\H1 a=↑(.ins C dx fs)/\uC X.K C/\Meth X.K C m f/\ť/\xY X.K tA σ H1 λ vs H2=>vx X.K sp (æ a::vs) H2 Q E0) I Ŋ) Ă) ht
 .ext Ñ;cases j1.eq j4;exact#[p,C,dx,vs,rfl,j2,j5,j6,j3.none g4,δ,S1,r1.ext e1,p1,ha.mo δ S1 å (λ ds S2 z xs H2 a1 a2 a3=>#[æ p::ds,S2,.cons (Ď) a1,a3,hm _ S2 å (λ d S' q=>we.ext (e1.trans a2) q) z]) g5]
 .ext Ĺ;exact PySem.W.callWith_K (first:=[æ a]) (h₀:=X.base) I.ok.mod.nQ me.kp (zD (ha.pa pos E6 s1 σ H1 _ I1 q) λ us s2 #[vs,H2,I2,r,q2]=>#[I2.xy,?_]) AL Ap;show iZ (us:=æ a::us) (vs:=æ a::vs) Ŵ I2 (.cons rfl r) (by rw[BQ];show q2)
def Ry ö (hk:k<=k')
  (ht:eval (.Call Ī [] [] pos) Ģ=(do
   let ov <- eval o Ģ
   standAt apos.atName
   let (f,first) <- Â7
   callWith pos f first (backTo pos (starEach [] Ģ)) Á8)):
  PD X (.Call Ī [] [] pos) (tP ŝ sp to oH):=by
 ext Ã7;exact#[tP.mo ho.mo hm (λ _ _ _ _ hq z=>hq å z),λ E6 s σ H Q I hu=>?_];ext Ü;exact PySem.W.methodCall_KW (pl:=pl) (zD (ho.pe E6 s σ H (λ x H1=>∃ a C dx fs,x=æ a/\H1 a=↑(.ins C dx fs)/\uC X.K C/\Meth X.K C m f/\ť/\vx X.K sp [æ a] H1 Q E0) I Ŋ) Ă) ht
 .ext Ñ;cases j1.eq j4;show#[p,C,dx,vs,rfl,j2,j5,j6,j3.none g4,[æ p],S1,.cons (Ď) .nil,p1,hm _ S1 å (λ d S' q=>we.ext e1 q) g5]
 .ext Ĺ;show PySem.W.callWith_K0 (first:=[æ a]) I1.xy me.kp (iZ (us:=[æ a]) (vs:=[æ a]) Ŵ I1 (.cons rfl .nil) (by rw[BQ];show q))
structure jZ ì (c:Str) (k:Nat) (ps:À) (sp:wJ):Prop where
 ex:∃ (C f:Addr) (fd:FuncData),Å5/\Binds K fd ps []/\rb K c C/\Mk K C f/\mg c=↑(æ C)
 mo:qj sp
def Y8 (c:Str) (sp:wJ) (tA:ym):zv:=fun δ S Q=>tA δ S λ ds S1=>∀ p,S1 p=none->sp (æ p::ds) Ź λ d S2=>d=.zp/\Q Ś S2
def R3 {c:Str}{k':Nat}{p:Pos}(F:jZ X.prog X.w X.K X.mg X.base c k ps sp) (hr:yh k' X.A) (ha:y_ X (e::es) tA) (hk:k+1<=k') (hg:Gl X c) (BI:(c == ("__debug__":Str))=č)
  (he:AJ X e es) (Ap:AO X pos es):PD X (.Call (.Name c p) (e::es) [] pos) (Y8 c sp tA):=by
 let#[#[C,f,fd,h1,h2,h3,h4,h5],hm]:=F;exact#[fun δ S Q Q' hq z=>ha.mo δ S å (λ ds S1 z p hp=>hm å å (λ d S2 q=>#[q.1,hq å q.2]) (z p hp)) z,PE.imp (Tx (E:=E0) h4 h1 (hr.mono hk) hg h5 h2 .nil km ha.pa BI he Ap) Ä6];ext Ü;exact xY.go ha.mo r1 r2 z λ ds S1 xs H1 z1 q1 e1 p1 x dx hx hdx Az=>?_;have e0:Ext (upd H1 dx (ñ x)) (upd (upd H1 dx (ñ x)) x (.ins C dx [])):=.new (by rw[yj (Ne.symm Az)];show hx) _;have e2:=(Ext.new hdx (ñ x)).trans e0;rw[BQ];exact#[æ x::ds,ups S1 x (ð c []),.cons (Ď) (zk.ext e2 ds q1),(p1.new hdx).ups e0 #[C,dx,[],h3,y7,.nil],?_]
 .exact hm å å (λ d S2 q v H2 a1 a2 a3=>?_) (z1 x (p1.none hx));let#[rfl,q]:=q;simp![zg] at a1;show#[a1,q (æ x) H2 (Ď) (Á1 a2) a3]
end
end
end L3
namespace L5
open PySem PySem.Spec L2 L3
open PyProof.Rows hiding St
@[simp] def x8 (cs:À) ř (f:Str):Ae:=fun ρ=>match ρ[i]? with
 | some ↑(ñ (ð _ c fs))=>if Ç1 then ô f else none
 | _=>none
@[simp] def rC (cs:À) ř (f:Str) (g:Ae):Sm:=fun ρ=>Ę λ y=>match ρ[i]? with
 | some ↑(Ù)=>if Ç1/\Ç0<1000 then ↑(.nx (ź i ↑(ñ (ð a c (uD f y fs))))) else none
 | _=>none
def XC {a:į}{c c':Str}{fs Fw:ď}{p:Addr}(h:adr (ð a c fs) p):adr (ð a c' Fw) p:=by cases a <;> show h
theorem zZ.Yd Ů:∀ ç,zZ S fs ds->∀ È6{t:T},ô f=↑t->∃ d,ds.lookup f=↑d/\Sn S t d
 | [],_,_,_,_,e=>by cases e
 | Ç2,ds,h,f,t,e=>by
  ext œ;rw[Bl] at e ⊢;cases q:f == g with
  | true=>rw[q] at e;cases e;show#[d,rfl,h1]
  | č=>rw[q] at e;show zZ.Yd h2 e
theorem zZ.fP Ů:∀ ç,zZ S fs ds->∀ È6,ô f=none->ds.lookup f=none
 | [],_,h,_,_=>by cases h;rfl
 | Ç2,ds,h,f,e=>by
  ext œ;rw[Bl] at e ⊢;cases q:f == g with
  | true=>rw[q] at e;cases e
  | č=>rw[q] at e;show zZ.fP h2 e
theorem zZ.ZY Ů:∀ ç,zZ S fs ds->À5=Ç0
 | [],_,h=>by cases h;rfl
 | Ç2,ds,h=>by
  ext œ;rw[AX,AX,zZ.ZY h2]
theorem zZ.ZV Ů È6{t:T}{d:D}(r:Sn S t d):∀ ç,zZ S fs ds->zZ S (uD f t fs) (uD f d ds)
 | [],_,h=>by cases h;show#[d,[],rfl,r,rfl]
 | Ç2,ds,h=>by
  let#[d',m,rfl,h1,h2]:=h;unfold uD;by_cases c:g=f
  .rw[ú c,ú c];show#[d,m,rfl,r,h2]
  .rw[Ū c,Ū c];show#[d',_,rfl,h1,zZ.ZV r h2]
def ko Ů{Z:û}{δ:yc}ë(hE:ER ü) Ť{a:į}{c:Str}{fs:ď}(h:ρ[i]?=↑↑(Ù)):∃ p b,δ[i]?=↑↑ Ś/\S p=↑(ð c b)/\zZ Ĳ fs b:=by
 let#[p,o,h1,h2,h3,_]:=hE.ow i _ h;cases o with
 | obj c' b=>let#[rfl,h3]:=h3;show#[p,b,h1,h2,h3]
 | _=>show h3.elim
section
variable {R:Rk}{g:Ae}{tg:zv}
def aD {cs:À}ř (f:Str):xX (x8 cs i f) (YC cs f (yd i)):=λ S Z δ ρ y Q hE e hq=>by
 unfold x8 at e;split at e
 .rename_i a c fs h;split at e
  .rename_i hc;let#[p,b,h1,h2,h3]:=ko hE h;let#[d,d1,d2]:=h3.Yd e;change yd i δ S _;unfold yd;rw[h1];show#[p,c,b,d,rfl,h2,hc,d1,hq d S (.refl S) d2]
  .cases e
 .cases e
def Q7 {cs:À}ř (f:Str) (hg:xX g tg):yn R (rC cs i f g) (Y4 cs f (yd i) tg):=λ S0 Z0 S Z δ ρ o E F e P=>by
 let#[z,e1,e3]:=An.mp e;split at e3
 .rename_i a c fs h;split at e3
  .rename_i hl;cases e3;exact hg ü z _ F.er e1 λ dz S1 s1 r1=>?_;have F1:=F.grow s1;let#[p,b,h1,h2,h3]:=ko F1.er h;change yd i δ S1 _;unfold yd;rw[h1];show#[p,c,b,rfl,h2,hl.1,by rw[h3.ZY];show hl.2,P _ Z δ (F1.mut (us:=ð a c (uD f z fs)) (es:=ð c (uD f dz b)) i h h1 #[rfl,h3.ZV r1] XC)]
  .cases e3
 .cases e3
end
@[simp] def vM (N:À) (ws:List W):Ev:=ws.map some++List.replicate (N.length-Ŀ) none
theorem iM {N:À}Ŕ Ť{w:W}(h:Ĭ[i]?=↑↑w):ws[i]?=↑w:=by
 unfold vM at h;have hi:i<Ŀ:=by
  rcases Bw i Ŀ with q | q
  .show q
  .rw[Bx (by exists q),Di] at h;split at h <;> cases h
 rw[Cr (by exists hi),AE] at h;cases q:ws[i]? with
 | none=>rw[q] at h;cases h
 | some y=>rw[q] at h;cases h;rfl
def Å7 {α:Type}{l:List α}Ť{x:α}(h:l[i]?=↑x):(l.map some)[i]?=↑↑x:=by rw[AE,h];rfl
def rF {α:Type}{l:List α}Ť{x:α}(h:(l.map some)[i]?=↑↑x):l[i]?=↑x:=by
 rw[AE] at h;cases q:l[i]? with
 | none=>rw[q] at h;cases h
 | some y=>rw[q] at h;cases h;rfl
def ER.start Ů{Z:û}{N:À}Ŕ À3(h:Ė):ER S Z (vN N ds) Ĭ:=by
 exact#[h.zd,λ i t e=>?_,λ i c e=>?_]
 .let#[d,h1,h2]:=h.im i t (Å7 (iM e));show#[d,lY (rF h1),h2]
 .let#[p,o,h1,h2]:=h.ow i c (Å7 (iM e));show#[p,o,lY (rF h1),h2]
def sy (N:À) ľ (f:Ae):wJ:=λ ds S Q=>∃ Z ws y,Ė/\À5=n/\f Ĭ=↑y/\Á9
def sy.mo {N:À}{n:Nat}{f:Ae}:qj (sy N n f):=λ _ _ _ _ hq #[Z,ws,y,h1,h2,h3,h4]=>#[Z,ws,y,h1,h2,h3,λ d S' s r=>hq å (h4 d S' s r)]
@[simp] def t9 ĕ (N:À) (f:Ae) (j:Nat):Ae:=fun ρ=>match Ç3 with
 | some ↑(Ù)=>if Ç1/\ť then f (vM N [Ù]) else none
 | _=>none
def aC {cs N:À}{m:Str}{f:Ae}(j:Nat):xX (t9 ŝ N f j) (tP ŝ (sy N 1 f) (yd j) oH):=λ S Z δ ρ y Q hE e hq=>by
 unfold t9 at e;split at e
 .rename_i a c fs h;split at e
  .rename_i hc;let#[p,o,h1,h2,h3,h4]:=hE.ow j _ h;let#[p',b,h1',h2',h5]:=ko hE h;rw[h1] at h1';cases h1';change yd j δ S _;unfold yd;rw[h1];exact#[p,c,b,rfl,h2',hc.1,h5.fP hc.2,Z,[Ù],y,#[hE.zd,λ i t q=>?_,λ i c' q=>?_],rfl,e,λ d S' s r=>hq d S' s r]
   .have:=rF q;cases i with
    | zero=>cases this
    | succ i=>cases this
   .have:=rF q;cases i with
    | zero=>cases this;show#[p,o,rfl,h2,h3,h4]
    | succ i=>cases this
  .cases e
 .cases e
def xZ:C->į
 | ð a å=>a
 | _=>none
@[simp] def vj (a:į):C->C
 | ð _ c fs=>ð a c fs
 | c=>c
def xO:C->Bool
 | ð å _=>true
 | _=>č
def vt:C->T
 | ð _ c fs=>.tup [.str c,.tup (fs.map λ q=>.tup Ä8)]
 | _=>.zp
def wO (v:T) (L:à):T:=.lst [v,.tup (L.map λ q=>.tup Á3)]
theorem ZZ:∀ {a b:ď},(a.map λ q=>T.tup Ä8)=b.map (λ q=>T.tup Ä8)->a=b
 | [],[],_=>rfl
 | [],_::_,h=>Å8
 | _::_,[],h=>Å8
 | (x,y)::a,(x',y')::b,h=>by
  simp![Ay,ķ,Ż,T.str.injEq,and_true] at h;rw[ZZ h.2,h.1.1,h.1.2]
def YL {c c':C}À7:vj none c=vj none c':=by
 cases c with
 | obj a k fs=>
  cases c' with
  | obj a' k' Fw=>
   simp![vt,Ż,ķ,T.str.injEq,and_true] at h;rw[vj,vj,h.1,ZZ h.2]
  | _=>cases l'
 | _=>cases l
def kf Ů{a:į}{c:C}{o:O}:xl S (vj a c) o↔xl S c o:=by
 cases c <;> cases o <;> show Iff.rfl
def Km Ů{c c':C}{o:O}À7 (r:xl S c o):xl S c' o:=by
 rw[<- kf (a:=none),<- YL h l l',kf];show r
def h_ {c:C}(h:xZ c=none):vj none c=c:=by
 cases c with
 | obj a k fs=>ext Æ4;rfl
 | _=>rfl
def iD {a:į}{c:C}(l:Ĉ):xZ (vj a c)=a:=by
 cases c with
 | obj _ k fs=>rfl
 | _=>cases l
def Nc Æ5:Ĉ:=by
 cases c with
 | obj a k fs=>rfl
 | _=>cases h
def Jy Æ5:adr c p:=by
 cases c with
 | obj a k fs=>ext Æ4;rfl
 | _=>cases h
def Jz {c c':C}{p:Addr}(h:adr c p):adr (vj (xZ c) c') p:=by
 cases c' with
 | obj a' k' Fw=>
  cases c with
  | obj a k fs=>show XC h
  | _=>show ū
 | _=>show ū
def J0 {c:C}{p q:Addr}(h:xZ c=↑q) (h':adr c p):q=p:=by
 cases c with
 | obj a k fs=>ext Æ4;show h'
 | _=>cases h
def LZ (Z:û) (L:à):û:=λ a=>Z a\/∃ c,(a,c)∈L
def tY:Rk:=λ S S' Z y d=>(∃ ts,y=.lst ts)->∃ v L,y=wO v L/\Sn (zB S' (LZ Z L)) v d/\∀ q∈L,xO q.2=true/\S q.1=none/\∃ o,S' q.1=↑o/\xl (zB S' (LZ Z L)) q.2 o
instance:Cl tY:=#[λ s h e=>by
 let#[v,L,h1,h2,h3]:=h e;show#[v,L,h1,h2,λ q hq=>#[(h3 q hq).1,s.none (h3 q hq).2.1,(h3 q hq).2.2]],λ n _ #[ts,e]=>ż e (n ts)]
instance:Lo tY:=#[λ{S0 S S' Z0 Z y d} s z h e=>by
 let#[v,L,h1,h2,h3]:=h e;have le:∀ a,LZ Z0 L a->LZ Z L a:=λ a q=>q.imp (z a) id;exact#[v,L,h1,Sn.sx (wY le) v h2,λ q hq=>?_];let#[g1,g2,o,g3,g4]:=h3 q hq;show#[g1,s.none g2,o,g3,xl.sx (wY le) g4]]
def nP (ρ:Ev) ř:Â (Addr×C):=match ρ[i]? with
 | some ↑ Ņ=>(xZ c).map λ p=>(p,c)
 | _=>none
@[simp] def um:È->Ev->Â (à)
 | [],_=>↑[]
 | i::is,ρ=>(nP ρ i).bind λ q=>Ž (q::·)
@[simp] def gf (is:È) (f:Ae):Sm:=fun ρ=>È0 λ y=>Ž λ L=>.rt (wO y L)
@[simp] def ao (is:È):Â Out->Â T
 | some (.rt y)=>↑y
 | some (.nx ρ)=>Ž (wO .zp)
 | _=>none
@[simp] def wz (N:À) ľ (is:È) (g:Sm):Ï:=λ ws=>if Ŀ=n then ao is (g Ĭ) else none
section
variable {S0 S:SS}{Z0 Z:û}{δ:yc}{ë}
theorem FR.nP Ť{q:Addr×C}(F:ž) (h:L5.nP ρ i=↑q):ĝ:=by
 unfold L5.nP at h;split at h
 .rename_i c hc;let#[p,hp,rfl]:=AF.mp h;let#[p',o,h1,h2,h3,h4]:=F.er.ow i c hc;let#[f1,f2]:=F.fr i c p' hc h1;cases J0 hp f2;show#[Nc hp,f1,h4,o,h2,h3]
 .cases h
theorem FR.um (F:ž):∀ Ã8{L:à},L5.um is ρ=↑L->∀ q∈L,ĝ
 | [],L,h,q,hq=>by cases h;cases hq
 | i::is,L,h,q,hq=>by
  let#[r,h1,h2]:=An.mp h;let#[L',h3,rfl]:=AF.mp h2;rcases Ak.mp hq with rfl | hq
  .show F.nP h1
  .show FR.um F h3 q hq
def FR.b7 Ã8{L:à}{v:T}{d:D}(F:ž) (h:L5.um is ρ=↑L) (hv:Sn Ĳ v d):tY S0 S Z0 (wO v L) d:=λ _=>by
 have f:=F.um h;have le:∀ a,LZ Z0 L a->Z a:=λ a q=>q.elim (F.zz a) λ#[c,hc]=>(f _ hc).2.2.1;exact#[v,L,rfl,Sn.sx (wY le) v hv,λ q hq=>?_];let#[g1,g2,_,o,g3,g4]:=f q hq;show#[g1,g2,o,g3,xl.sx (wY le) g4]
def Q5 {f:Ae}{te:zv}Ã8(hf:xX f te):yn tY (gf is f) (mM te):=λ S0 Z0 S Z δ ρ o E F e P=>by
 let#[y,e1,e2]:=An.mp e;let#[L,e3,rfl]:=AF.mp e2;show hf ü y _ F.er e1 λ d S1 s1 r1=>P d S1 (F.sx.trans s1) ((F.grow s1).b7 e3 r1)
end
structure J9 (S:SS) (Z:û) (ws:List W) (ds:List D):Prop where
 er:Ė
 len:À5=Ŀ
 tg:∀ ř c p,Ä0->ds[i]?=↑ Ś->xZ c=↑p
 dj:∀ (i j:Nat) c c' p,i≠j->Ä0->ws[j]?=↑(ñ c')->ds[i]?=↑ Ś->ds[j]?=↑ Ś->False
def uo (ws:List W) (a:Addr):Prop:=∃ c,W.own c∈ws/\xZ c=↑a
def xw (F:Ï):wJ:=λ ds S Q=>∃ Z ws y,J9 S Z ws ds/\F ws=↑y/\∀ d S',Sx (zB S (uo ws)) S'->tY (zB S (uo ws)) S' Ų y d->Q d S'
def xw.mo {F:Ï}:qj (xw F):=λ _ _ _ _ hq #[Z,ws,y,h1,h2,h3]=>#[Z,ws,y,h1,h2,λ d S' s r=>hq å (h3 d S' s r)]
theorem xw.len ù ĺ:À5=n:=by
 ext ŕ
 .rename_i h;rw[r.len];show h
 .cases e
def Xi ù{t:yC}(h:yn tY g t) ĺ:t { nx:=λ _ S'=>Q .zp S',rt:=Q } (vN N ds) S:=by
 ext ŕ
 case isFalse=>cases e
 obtain⟨o,e1,e2⟩:∃ o,g Ĭ=↑o/\ao is ↑o=↑y:=by
  cases q:g Ĭ with
  | none=>rw[q] at e;cases e
  | some o=>show#[o,rfl,by rw[<- q];show e]
 have hA:∀ ř (c:C) (p:Addr),Ĭ[i]?=↑↑ Ņ->(vN N ds)[i]?=↑↑ Ś->Ä0/\ds[i]?=↑ Ś:=λ i c p a b=>by
  have a':=iM a;let#[p',o',k1,_]:=r.er.ow i c (Å7 a');have k2:=lY (N:=N) (rF k1);rw[b] at k2;cases k2;show#[a',rF k1]
 exact h (zB S (uo ws)) Ų S Z å o _ #[r.er.start,?_,nY å,λ a z=>?_,λ a z=>z.1,λ a z=>?_,λ i c p a b=>?_,λ i j c c' p n a a' b b'=>?_] e1 ?_
 .unfold vN vM;have:=r.len;simp[this]
 .rw[wX z.2];show r.er.zd a z.1
 .by_cases q:uo ws a
  .show ļ (nX q)
  .show ā #[z,q]
 .let#[a',b']:=hA i c p a b;have tg:=r.tg i c p a' b';show#[nX #[c,Bh a',tg],Jy tg]
 .let#[a1,b1]:=hA i c p a b;let#[a2,b2]:=hA j c' p a' b';show r.dj i j c c' p n a1 a2 b1 b2
 .cases o with
  | rt y'=>cases e2;show λ d S' s r=>hq d S' s r
  | nx ρ'=>
   let#[L,e3,rfl]:=AF.mp e2;show λ S' Z' δ' F=>hq .zp S' F.sx (F.b7 e3 iT)
  | _=>cases e2
abbrev Ag:=Nat ⊕ T
@[simp] def ģ:List Ag->È
 | []=>[]
 | ā j::r=>j::ģ r
 | ļ _::r=>ģ r
@[simp] def ug (ad:Ç4) (ρ:Ev):List Ag->Â (List W)
 | []=>↑[]
 | ā j::r=>match Ç3 with
  | some ↑ Ņ=>if Ĉ then (ug ad ρ r).map (ñ (vj ↑ ņ c)::·) else none
  | _=>none
 | ļ t::r=>(ug ad ρ r).map (.im t::·)
@[simp] def pG (ad:Ç4):È->Ŭ->à
 | j::js,c::cs=>(ad j,c)::pG ad js cs
 | _,_=>[]
def Bc É2 (r:T× Ŭ):Prop:=(r.2.length=(ģ ys).length/\∀ c∈r.2,Ĉ/\xZ c=none)/\∀ ad,∃ ws,Ã3/\F ws=↑(wO r.1 (pG ad (ģ ys) r.2))
def tT É2:Â (T× Ŭ):=open Classical in if h:∃ r,Ä1 then ↑h.choose else none
def aj {v v':T}{L L':à}(h:wO v L=wO v' L'):v=v'/\(L.map Ó)=L'.map Ó:=by
 simp![wO,T.lst.injEq,ķ,Ż,and_true] at h;show h
def ai {L L':à}(h:(L.map Ó)=L'.map Ó) {q:Addr×C}(hq:q∈L'):∃ q'∈L,q'.1=q.1/\vt q'.2=vt q.2:=by
 have:=C3 (f:=λ q:Addr×C=>T.tup Á3) hq;rw[<- h] at this;let#[q',h1,h2]:=Aw.mp this;simp![Ż,ķ,T.int.injEq,and_true] at h2;show#[q',h1,Int.ofNat.inj h2.1,h2.2]
theorem zip_inj {ad:Ç4}:∀ {js:È}{cs Hu:Ŭ},cs.length=js.length->Hu.length=js.length->(∀ c∈cs,Ĉ/\xZ c=none)->(∀ c∈Hu,Ĉ/\xZ c=none)->
  ((pG ad js cs).map Ó)=(pG ad js Hu).map (Ó)->cs=Hu
 | [],[],[],_,_,_,_,_=>rfl
 | [],_::_,_,h,_,_,_,_=>Å8
 | [],[],_::_,_,h,_,_,_=>Å8
 | _::_,[],_,h,_,_,_,_=>Å8
 | _::_,_::_,[],_,h,_,_,_=>Å8
 | j::js,c::cs,c'::Hu,h,h',l,l',e=>by
  simp![pG,Ay,ķ,Ż,T.int.injEq,and_true,true_and] at e;have a:=YL e.1 (l c Al).1 (l' c' Al).1;rw[h_ (l c Al).2,h_ (l' c' Al).2] at a;rw[a,zip_inj (Nat.succ.inj h) (Nat.succ.inj h') (λ x hx=>l x (Av _ hx)) (λ x hx=>l' x (Av _ hx)) e.2]
def Jh {F:Ï}ë Ħ{r:T× Ŭ}(h:Ä1):Ç5:=by
 have hx:∃ r,Ä1:=#[r,h];unfold tT;rw[dif_pos hx];let#[#[h1,h2],h3]:=hx.choose_spec;let#[#[g1,g2],g3]:=h;let#[ws,w1,w2]:=h3 λ _=>0;let#[F9,w3,w4]:=g3 λ _=>0;rw[w1] at w3;cases w3;rw[w2] at w4;let#[e1,e2]:=aj (Bb w4);have e3:=zip_inj h1 g1 h2 g2 e2;show congrArg some (Prod.ext e1 e3)
def Xs {F:Ï}ë Ħ{r:T× Ŭ}(h:Ç5):Ä1:=by
 unfold tT at h;split at h
 .rename_i hx;cases h;show hx.choose_spec
 .cases h
def qw (ρ:Ev) (j:Nat):į:=match Ç3 with
 | some ↑ Ņ=>xZ c
 | _=>none
@[simp] def tj:È->Ŭ->Ev->Ev
 | j::js,c::cs,ρ=>tj js cs (ź j ↑(ñ (vj (qw ρ j) c)))
 | _,_,ρ=>ρ
theorem cE:∀ È7 ë,(tj js cs ρ).length=ρ.length
 | [],_,_=>#[]
 | _::_,[],_=>#[]
 | j::js,c::cs,ρ=>by rw[tj,cE,Dh]
theorem lN:∀ È7 ë{k:Nat}{w:W},js.Nodup->(tj js cs ρ)[k]?=↑↑w->(∃ (c:C) (i:Nat),js[i]?=↑k/\cs[i]?=↑c/\w=ñ (vj (qw ρ k) c))\/ρ[k]?=↑↑w/\∀ i:Nat,js[i]?=↑k->cs.length<=i
 | [],_,ρ,k,w,_,h=>ļ #[by simpa using h,λ i e=>by simp at e]
 | _::_,[],ρ,k,w,_,h=>ļ #[by simpa using h,λ i e=>#[]]
 | j::js,c::cs,ρ,k,w,nd,h=>by
  rw[tj] at h;let#[nj,nd]:=Bu.mp nd;rcases lN nd h with ⟨c',i,h1,h2,h3⟩ | ⟨h1,h2⟩
  .have kj:j≠k:=λ e=>nj (by rw[e];show Bh h1);exact ā #[c',i+1,h1,h2,?_];rw[h3];unfold qw;rw[wZ kj]
  .rcases yG h1 with ⟨rfl,hl,e⟩ | ⟨n,e⟩
   .cases e;show ā #[c,0,rfl,rfl,rfl]
   .exact ļ #[e,λ i q=>?_];cases i with
    | zero=>cases q;show ż rfl n
    | succ i=>show Nat.succ_le_succ (h2 i q)
def lF (S:SS) (Z:û) (δ:yc):List Ag->List D->Prop
 | [],ds=>ds=[]
 | ā j::r,ds=>∃ d m,ds=d::m/\δ[j]?=↑↑d/\lF S Z δ r m
 | ļ t::r,ds=>∃ d m,ds=d::m/\Sn Ĳ t d/\lF S Z δ r m
section
variable {S0 S S':SS}{Z0 Z:û}{δ:yc}{ë}{ad:Ç4}
theorem df:∀ Ħ Ŕ À3,Ã3->lF S Z δ ys ds->À5=Ŀ/\∀ ř w,ws[i]?=↑w->∃ d,ds[i]?=↑d/\
  ((∃ t,w=.im t/\Sn Ĳ t d)\/∃ j c,Š/\Ç3=↑↑ Ņ/\Ĉ/\w=ñ (vj ↑ ņ c)/\δ[j]?=↑↑d)
 | [],ws,ds,h,r=>by
  cases h;have r:ds=[]:=r;subst r;show#[rfl,λ i w e=>nomatch e]
 | ā j::ys,ws,ds,h,r=>by
  ext Â1;split at h
  .rename_i c hc;split at h
   .rename_i hl;ext þ;cases i with
    | zero=>cases e;show#[d,rfl,ļ #[j,c,rfl,hc,hl,rfl,r1]]
    | succ i=>show g2 i w e
   .cases h
  .cases h
 | ļ t::ys,ws,ds,h,r=>by
  ext Â1;ext þ;cases i with
  | zero=>cases e;show#[d,rfl,ā #[t,rfl,r1]]
  | succ i=>show g2 i w e
theorem Ň:∀ Ħ{i j:Nat},Š->j∈ ģ ys
 | ā k::ys,i,j,h=>by
  cases i with
  | zero=>cases h;show Al
  | succ i=>show Av _ (Ň (ys:=ys) h)
 | ļ t::ys,i,j,h=>by
  cases i with
  | zero=>cases h
  | succ i=>show Ň (ys:=ys) h
theorem iV:∀ Ħ{i i' j:Nat},(ģ ys).Nodup->Š->ys[i']?=↑(ā j)->i=i'
 | ā k::ys,i,i',j,nd,h,h'=>by
  let#[nk,nd]:=Bu.mp nd;cases i with
  | zero=>
   cases h;cases i' with
   | zero=>rfl
   | succ i'=>show ż (Ň (ys:=ys) h') nk
  | succ i=>
   cases i' with
   | zero=>cases h';show ż (Ň (ys:=ys) h) nk
   | succ i'=>rw[iV nd h h']
 | ļ t::ys,i,i',j,nd,h,h'=>by
  cases i with
  | zero=>cases h
  | succ i=>
   cases i' with
   | zero=>cases h'
   | succ i'=>rw[iV (ys:=ys) nd h h']
theorem iU:∀ Ħ Ŕ{j:Nat},Ã3->j∈ ģ ys->∃ c,Ç3=↑↑ Ņ/\Ĉ/\W.own (vj ↑ ņ c)∈ws
 | ā k::ys,ws,j,h,hj=>by
  unfold ug at h;split at h
  .rename_i c hc;split at h
   .rename_i hl;ext Ũ;rcases Ak.mp hj with rfl | hj
    .show#[c,hc,hl,Al]
    .ext Ř
   .cases h
  .cases h
 | ļ t::ys,ws,j,h,hj=>by
  unfold ug at h;ext Ũ;ext Ř
theorem ie:∀ È7{i j:Nat}{c:C},js[i]?=↑j->cs[i]?=↑c->(ad j,c)∈pG ad js cs
 | k::js,c'::cs,i,j,c,h,h'=>by
  cases i with
  | zero=>cases h;cases h';show Al
  | succ i=>show Av _ (ie (js:=js) (cs:=cs) h h')
def YX {F:Ï}Ħ À3{r:T× Ŭ}{Q:DK}(Fr:ž) (ar:lF S Z δ ys ds) (nd:(ģ ys).Nodup) (h:Ç5)
  (hQ:∀ d S',Sx Ĳ Ń->FR S0 Z0 S' Z δ (tj (ģ ys) r.2 ρ)->Sn Ń r.1 d->Q d S'):xw F ds S Q:=by
 let#[#[hl,ht],hb]:=Xs h;let#[ws,hw,hF]:=hb λ(j:Nat)=>match δ[j]? with
  | some ↑ Ś=>p
  | _=>0
 generalize hA:(λ(j:Nat)=>match δ[j]? with
  | some ↑(D.ref p)=>p
  | _=>0)=ad at hw hF
 have ha:∀ (j:Nat) p,δ[j]?=↑↑ Ś->ad j=p:=λ j p e=>by rw[<- hA];dsimp only;rw[e]
 let#[g1,g2]:=df hw ar;have st:∀ j∈ ģ ys,∃ c o,Ç3=↑↑ Ņ/\Ĉ/\δ[j]?=↑↑(æ ņ)/\S ņ=↑o/\Z ņ/\S0 ņ=none/\uo ws ņ:=λ j hj=>by
  let#[c,a,b,m]:=iU hw hj;let#[p,o,h1,h2,h3,h4]:=Fr.er.ow j c a;cases ha j p h1;show#[c,o,a,b,h1,h2,h4,(Fr.fr j c _ a h1).1,_,m,iD b]
 have wo:∀ ř c,Ä0->∃ j c0,Š/\Ç3=↑↑(ñ c0)/\c=vj ↑ ņ c0/\ds[i]?=↑(æ ņ)/\xO c0=true:=λ i c e=>by
  obtain⟨d,h1,⟨t,h2,_⟩ | ⟨j,c0,h2,h3,h4,h5,h6⟩⟩:=g2 i _ e
  .cases h2
  .let#[_,_,_,_,k,_]:=st j (Ň h2);rw[h6] at k;cases k;cases h5;show#[j,c0,h2,h3,rfl,h1,h4]
 have lA:∀ a,uo ws a->∃ j∈ ģ ys,ad j=a:=λ a #[c,m,t]=>by
  let#[i,hi]:=Cb.mp m;let#[j,c0,k1,k2,k3,_,k5]:=wo i c hi;rw[k3,iD k5] at t;cases t;show#[j,Ň k1,rfl]
 exact#[Z,ws,_,#[#[Fr.er.zd,λ i t e=>?_,λ i c e=>?_],g1,λ i c p e e'=>?_,λ i i' c c' p n e1 e2 e3 e4=>?_],hF,λ d S' s rk=>?_]
 .obtain⟨d,h1,⟨t',h2,h3⟩ | ⟨j,c,_,_,_,h5,_⟩⟩:=g2 i _ (rF e)
  .cases h2;show#[d,Å7 h1,h3]
  .cases h5
 .let#[j,c0,k1,k2,k3,k4,k5]:=wo i c (rF e);let#[p,o,h1,h2,h3,h4]:=Fr.er.ow j c0 k2;cases ha j p h1;subst k3;show#[_,o,Å7 k4,h2,kf.mpr h3,h4]
 .let#[j,c0,k1,k2,k3,k4,k5]:=wo i c e;rw[e'] at k4;cases k4;subst k3;show iD k5
 .let#[j,c0,k1,k2,k3,k4,k5]:=wo i c e1;let#[j',c0',k1',k2',k3',k4',k5']:=wo i' c' e2;rw[e3] at k4;rw[e4] at k4';have kk:ad j=ad j':=by
   simp![Option.some.injEq,D.ref.injEq] at k4 k4';rw[<- k4,<- k4']
  have nj:j≠j':=λ e=>n (iV nd k1 (e▸k1'));let#[_,_,_,_,d1,_]:=st j (Ň k1);let#[_,_,_,_,d2,_]:=st j' (Ň k1');rw[<- kk] at d2;show Fr.dj j j' c0 c0' _ nj k2 k2' d1 d2
 .let#[v,L,p1,p2,p3]:=rk #[_,rfl];let#[q1,q2]:=aj p1.symm;subst q1;have zl:∀ a,Z a->LZ Ų L a:=λ a z=>by
   by_cases q:uo ws a
   .ext Ŷ;ext Ć;let#[q',m1,m2,_]:=ai q2 (ie (ad:=ad) hi (c:=r.2[i]'(by rw[hl];show Ar)) (by simp[hl,Ar]));dsimp only at m2;show ļ #[q'.2,by rw[<- m2];show m1]
   .show ā #[z,q]
  have sx:Sx Ĳ Ń:=λ a o q=>by
   let#[n,e]:=uK q;rw[wX n];exact s a o ?_;rw[wX]
   .show e
   .intro q;ext Ŷ;let#[_,_,_,_,_,_,z,_]:=st j hj;show n z
  have keep:∀ a o,¬ uo ws a->S a=↑o->S' a=↑o:=λ a o n e=>s a o (by rw[wX n];show e);have nw:∀ (i j:Nat) c,(ģ ys)[i]?=↑j->r.2[i]?=↑c->∃ o,S' ņ=↑o/\xl Ń c o:=λ i j c hi hc=>by
   let#[q',m1,m2,m3]:=ai q2 (ie (ad:=ad) hi hc);let#[k1,k2,o,k3,k4]:=p3 q' m1;dsimp only at m2 m3;show#[o,by rw[<- m2];show k3,Km m3 k1 (ht c (Bh hc)).1 (xl.sx (wY zl) k4)]
  have old:∀ (k:Nat) c,ρ[k]?=↑↑ Ņ->∃ p o,δ[k]?=↑↑ Ś/\S p=↑o/\xl Ĳ c o/\Z p:=λ k c e=>Fr.er.ow k c e;have was:∀ (k:Nat) c,(tj (ģ ys) r.2 ρ)[k]?=↑↑ Ņ->∃ c0,ρ[k]?=↑↑(ñ c0)/\∀ p,δ[k]?=↑↑ Ś->adr c0 p->adr c p:=λ k c e=>by
   rcases lN nd e with ⟨c1,i,h1,h2,h3⟩ | ⟨h1,_⟩
   .let#[c0,o,a1,a2,a3,_]:=st k (Bh h1);cases h3;exact#[c0,a1,λ p _ q=>?_];have:qw ρ k=xZ c0:=by unfold qw;rw[a1]
    rw[this];show Jz q
   .show#[c,h1,λ _ _ q=>q]
  exact hQ d S' sx #[#[λ a z=>?_,λ k t e=>?_,λ k c e=>?_],by rw[cE];show Fr.len,λ b o e=>?_,Fr.z0,Fr.zz,Fr.zn,λ k c p e e'=>?_,λ k k' c c' p n e1 e2 e3 e4=>?_] (Sn.sx (wY zl) _ p2)
  .by_cases q:uo ws a
   .ext Ŷ;ext Ć;let#[o,k1,_]:=nw i j (r.2[i]'(by rw[hl];show Ar)) hi (by simp[hl,Ar]);rw[k1];nofun
   .cases w:S a with
    | none=>show ż w (Fr.er.zd a z)
    | some o=>rw[keep a o q w];nofun
  .rcases lN nd e with ⟨c1,i,_,_,h3⟩ | ⟨h1,_⟩
   .cases h3
   .let#[d,a,b]:=Fr.er.im k t h1;show#[d,a,Sn.sx sx t b]
  .rcases lN nd e with ⟨c1,i,h1,h2,h3⟩ | ⟨h1,h2⟩
   .let#[c0,o,a1,a2,a3,a4,a5,_]:=st k (Bh h1);let#[o',b1,b2]:=nw i k c1 h1 h2;cases h3;show#[_,o',a3,b1,kf.mpr b2,a5]
   .let#[p,o,a1,a2,a3,a4]:=Fr.er.ow k c h1;exact#[p,o,a1,keep p o (λ q=>?_) a2,xl.sx sx a3,a4];let#[j,hj,rfl]:=lA p q;let#[c0,o',b1,b2,b3,_]:=st j hj;ext Ć;by_cases kj:k=j
    .subst kj;show ż (h2 i hi) (by rw[hl];show Nat.not_le.mpr Ar)
    .show Fr.dj k j c c0 _ kj h1 b1 a1 b3
  .exact keep b o (λ q=>?_) (Fr.sx b o e);let#[j,hj,rfl]:=lA b q;let#[_,_,_,_,_,_,_,z,_]:=st j hj;rw[z] at e;cases e
  .let#[c0,k1,k2]:=was k c e;let#[f1,f2]:=Fr.fr k c0 p k1 e';show#[f1,k2 p e' f2]
  .let#[c0,k1,_]:=was k c e1;let#[c0',k1',_]:=was k' c' e2;show Fr.dj k k' c0 c0' p n k1 k1' e3 e4
end
theorem ng:∀ (xs:ň),ģ (é)=[]
 | []=>rfl
 | _::xs=>ng xs
theorem de Ů{Z:û}{δ:yc}:∀ {xs:ň}À3,zj Ĳ xs ds->lF S Z δ (é) ds
 | [],ds,h=>by simp![zj] at h;show h
 | x::xs,ds,h=>by
  simp![zj] at h;let#[c,m,rfl,h1,h2]:=h;show#[c,m,rfl,h1,de h2]
@[simp] def og ĕ (j:Nat) Â5 (k:T->Ev->Ev):Sm:=fun ρ=>match Ç3 with
 | some ↑(ñ (ð _ c fs))=>if Ç1/\ť then Ę λ xs=>(Â3).map λ r=>.nx (k r.1 (tj [j] r.2 ρ)) else none
 | _=>none
@[simp] def rK ĕ (j:Nat) Â5:Sm:=og ŝ j F g λ _ ρ=>ρ
@[simp] def k7 ĕ (i j:Nat) Â5:Sm:=og ŝ j F g λ y ρ=>Ç6
section
variable {R:Rk}{Ğ}{Ş}{u:ym}
def aU {j:Nat}{kk:T->Ev->Ev}(h:t_ g u) {S0 S:SS}{Z0 Z:û}{δ:yc}ë{o:Out}{Q:DK}(Fr:ž) (e:og ŝ j F g kk ρ=↑o)
  (hQ:∀ y ρ',o=.nx (kk y ρ')->∀ d S',Sx Ĳ Ń->FR S0 Z0 S' Z δ ρ'->Sn Ń y d->Q d S'):tP Å1 δ S Q:=by
 unfold og at e;split at e
 .rename_i a c fs hj;split at e
  .rename_i hc;let#[xs,e1,e2]:=An.mp e;let#[r,e3,rfl]:=AF.mp e2;let#[p,b,h1,h2,h3]:=ko Fr.er hj;change yd j δ S _;unfold yd;rw[h1];exact#[p,c,b,rfl,h2,hc.1,h3.fP hc.2,h ü xs _ Fr.er e1 λ ds S1 s1 r1=>?_];have sl:ģ (ā j::é)=[j]:=by rw[ģ,ng]
   exact YX (ys:=ā j::é) (Fr.grow s1) #[æ p,ds,rfl,h1,de r1] (by rw[sl];simp) e3 λ d S' sx F' rr=>?_;rw[sl] at F';show hQ å rfl d S' ((wC s1).trans sx) F' rr
  .cases e
 .cases e
def QA {j:Nat}(h:t_ g u):yn R (rK ŝ j F g) (mR (tP Å1)):=λ S0 Z0 S Z δ ρ o E Fr e P=>aU h Fr e λ y ρ' q d S' _ F' _=>by
 subst q;show P S' Z δ F'
def QB {i j:Nat}(h:t_ g u):yn R (k7 ŝ i j F g) (wH (tP Å1) (hName i)):=λ S0 Z0 S Z δ ρ o E Fr e P=>aU h Fr e λ y ρ' q d S' _ F' r=>by
 subst q;show P S' Z _ (F'.pS i r)
@[simp] def gQ (c:Str) ř Â5:Sm:=fun ρ=>Ę λ xs=>Ŏ λ r=>match r with
 | (.zp,[c'])=>↑(.nx (ź i ↑(ñ c')))
 | _=>none
def Q9 {c:Str}Ť(h:t_ g u):yn R (gQ c i F g) (wH (Y8 c (xw F) u) (hName i)):=λ S0 Z0 S Z δ ρ o E Fr e P=>by
 let#[xs,e1,e2]:=An.mp e;let#[r,e3,e4]:=An.mp e2;split at e4
 .rename_i c';cases e4;exact h ü xs _ Fr.er e1 λ ds S1 s1 r1 p hp=>?_;have F1:=Fr.grow s1;have nz:¬ Z p:=λ z=>F1.er.zd p z hp;have sn:Sx S1 Ź:=.new hp _;have FF:FR S1 Z Ź (λ a=>Z a\/a=p) [↑ Ś] [↑(ñ (ð none c []))]:=by
   exact#[#[λ a z=>?_,λ k t q=>?_,λ k c' q=>?_],rfl,sn,F1.er.zd,λ a z=>ā z,λ a z=>z.imp id λ e=>by rw[e];show hp,λ k c' q a b=>?_,λ k k' c' c'' q n a b d f=>?_]
   .rcases z with z | rfl
    .show λ q=>F1.er.zd a z (sn.none q)
    .rw[tf];nofun
   .cases k with
    | zero=>cases q
    | succ k=>cases q
   .cases k with
    | zero=>cases q;show#[p,ð c [],rfl,tf,#[rfl,rfl],ļ rfl]
    | succ k=>cases q
   .cases k with
    | zero=>cases a;cases b;show#[hp,ū]
    | succ k=>cases a
   .cases k with
    | zero=>
     cases k' with
     | zero=>show n rfl
     | succ k'=>cases b
    | succ k=>cases a
  have sl:ģ (ā 0::é)=[0]:=by rw[ģ,ng]
  have ht:=(Xs e3).1.2 c' #[];exact YX (ys:=ā 0::é) FF #[æ p,ds,rfl,rfl,de (zj.sx (qG sn hp) xs r1)] (by rw[sl];simp) e3 λ d S' _ F' rr=>?_;rw[sl] at F';let#[q,ob,k1,k2,k3,_]:=F'.er.ow 0 (vj none c') rfl;cases k1;rw[h_ ht.2] at k3;have rr:Sn (zB S' λ a=>Z a\/a=p) .zp d:=rr;simp![Sn] at rr;exact#[rr,P S' å (F1.iX F'.sx i hp k2 k3 ?_)];cases c' with
  | obj a k fs=>
   have:=ht.2;simp![xZ] at this;subst this;show ū
  | _=>show ū
 .cases e4
end
def dv (f:Ae) (t:yC):Prop:=∀ S Z δ ρ y Q,ER ü->f ρ=↑y->(Á9)->t { nx:=λ _ S'=>Q .zp S',rt:=Q } δ S
def QN {f:Ae}{te:zv}(h:xX f te):dv f (mM te):=λ S Z δ ρ y Q hE e hq=>h ü y _ hE e hq
section
variable {ē}{base h:Heap}{c m qual:Str}{cs:À}{st:Stmt}
def Ck (K:Ac) (m:Str) (f:Addr) (c:Str):Prop:=Á2
def Ck.i {C f:Addr}ò (b:ſ K (æ C) m=↑↑(æ f)) Ì Ã9 (m3:Å9):Ck K m f c:=#[C,a,#[c1,c2,c3,c4],b,m2,m3]
def Fm (K:Ac) (cs:À) (m qual:Str) È8:Prop:=∃ (f:Addr) (fd:FuncData),vI K m Ġ f fd/\∀ c∈cs,Ck K m f c
def Fm.i1 {f:Addr}ĉ(k:Ck K m f c) (l:K.lookup f=↑#[oc,od,.func (Ä2 m qual Û ct),Gz])
  Ĕ:Fm K [c] m Ġ:=#[f,_,kW l cd k2,λ x hx=>by cases Au.mp hx;show k]
def Fc (K:Ac) (c qual:Str) È8:Prop:=∃ (C f:Addr) (fd:FuncData),vI K "__init__" Ġ f fd/\rb K c C/\Mk K C f
def Fc.i {C f:Addr}ĉ ò (b:ſ K (æ C) "__init__"=↑↑(æ f)) (l:K.lookup f=↑#[oc,od,.func (Ä2 "__init__" qual Û ct),Gz])
  Ĕ (m1:PySem.W.makesIn K C=true) Ã9 (m3:PySem.W.keepIn K (æ C)=true):Fc K c Ġ:=#[C,f,_,kW l cd k2,a,m1,b,m2,m3]
def Kl.i {fl:À}{C:Addr}ò Ì (n:fl.all (λ f=>ſ K (æ C) f == ↑none)=true):Kl K c fl:=#[C,a,#[c1,c2,c3,c4],λ f hf=>beq_iff_eq.mp (BN.mp n f hf)]
abbrev cm È8 (m qual:Str) (ps:À):Prop:=∀ Ŗ,us.length=ps.length->bindArgs (Ä2 m qual Û ct) #[us,[]]=pure (ps.zip us)
variable {ō}{Ã8}
def Lk ÿ
  Õ:uf Å ŝ ć:=by
 let#[f,fd,F,hc]:=F;exact#[#[f,fd,Ě,F.binds hb,hc],xw.mo];ext Ł
def Lj {f':Ae}ÿ
  (E9:∀ (f:Addr) Ä,Â8->
   ∃ t,š/\dv f' t):Ä9:=by
 let#[f,fd,F,hc]:=F;exact#[#[f,fd,kU F Sc (λ ds S Q h=>?_) λ Ai A outer s H E hr=>?_,F.binds hb,hc],sy.mo]
 .let#[Z,ws,y,h1,h2,_]:=h;rw[h2,hn]
 .let#[t,h1,h2]:=E9 Æ hr;exact#[t,h1,λ ds S Q h=>?_];let#[Z,ws,y,r1,r2,r3,r4]:=h;show h2 S Z å y Q r1.start r3 r4
def Lm (F:Fc K c Ġ) Â2 À8 (hb:cm st "__init__" qual ps)
  Õ:jZ Å c ć:=by
 let#[C,f,fd,F,hc,hk]:=F;exact#[#[C,f,fd,Ě,F.binds hb,hc,hk,PySem.W.mg_of X G hc],xw.mo];ext Ł
end
def Kn:Stmt->List Stmt
 | .ClassDef å _ b å å å _=>b
 | _=>[]
end L5
namespace L5
open PySem L2 L3
theorem cz (ad:Ç4) (ρ:Ev):∀ xs:ň,ug ad ρ (é)=↑(xs.map .im)
 | []=>rfl
 | x::xs=>by rw[Ay,ug,cz ad ρ xs];rfl
def Xt {F:Ï}ë{j:Nat}Ð ŵ ă:
  Â3=↑(v,[ś]):=by
 exact Jh #[#[by rw[ģ,ng];rfl,λ x hx=>by cases Au.mp hx;show#[rfl,rfl]],λ ad=>#[ñ (ð ↑ ņ c fs)::xs.map .im,?_,?_]]
 .rw[ug,h0];change (if xO (ð t c fs)=true then _ else none)=_;rw[ú (show xO (ð t c fs)=true from rfl),cz];rfl
 .rw[h ņ,ģ,ng];rfl
def aV Ğ{j:Nat}Ş{k:T->Ev->Ev}ë Ð Á:og ŝ j F g k ρ=↑(.nx (k v (ĳ))):=by
 unfold og;ext ŷ;rw[ú #[hc,hl],hg];change ((Â3).map _)=_;rw[Xt h0 h];change ↑(Out.nx (k v (tj [j] [ś] ρ)))=_;have:qw ρ j=t:=by unfold qw;rw[h0];rfl
 rw[tj,this];rfl
def nL Ğ{j:Nat}Ş ë Ð Á:rK ŝ j F g ρ=↑(.nx (ĳ)):=aV h0 hc hl hg h
def OK Ğ{i j:Nat}Ş ë Ð Á:k7 ŝ i j F g ρ=↑(.nx ((ĳ).set i ↑(.im v))):=aV (k:=λ y ρ=>Ç6) h0 hc hl hg h
def OD {c c':Str}Ť Ş ë{xs:ň}{Fw:ď}(hg:g ρ=↑xs) (h:∀ a,F (ñ (ð ↑a c [])::xs.map .im)=↑(wO .zp [(a,ś)])):gQ c i F g ρ=↑(.nx (ź i ↑(ñ (ś)))):=by
 change Ę _=_;rw[hg];change Ŏ _=_;rw[Xt rfl h];rfl
section
variable {cs:À}{Ť}{È6}{g h:Ae}{ë}{a:į}{c:Str}{fs Fw:ď}{x y:T}
def pV ė (hl:Ç0<1000) (hg:g ρ=↑y) (hp:uD f y fs=Fw):rC cs i f g ρ=↑(.nx (ź i ↑(ñ (ð a c Fw)))):=by
 change Ę _=_;rw[hg];dsimp only[Option.bind];ext ŷ;rw[ú #[hc,hl],hp]
def o7 ė (hl:ô f=↑y):x8 cs i f ρ=↑y:=by
 unfold x8;ext ŷ;rw[ú hc,hl]
def jg (h:g ρ=↑y):qM g ρ=↑(.nx ρ):=À9
def zw {F:Am}{u:Ô}{xs:ň}(h:u ρ=↑xs) (hF:F xs=↑y):zt F u ρ=↑y:=by ext Æ8;rw[h];show hF
def zo {u:Ô}{xs:ň}(h:g ρ=↑x) (hu:u ρ=↑xs):za g u ρ=↑(x::xs):=by change Ę _=_;rw[h];ext Æ8;rw[hu];rfl
theorem yD {u:Ô}{xs:ň}(hu:u ρ=↑xs) (hl:xs.length<=100):tupS u ρ=↑(.tup xs):=by ext Æ8;rw[hu];show ú (Bj hl ())
def zJ Æ6:zQ g ρ=↑b:=Æ0
theorem tV {ts:ň}(h0:ρ[i]?=↑↑(ñ (.lst ts))) (h:g ρ=↑y) (hl:ts.length<=10000):wg i g ρ=↑(.nx (ź i ↑(ñ (.lst (ts++[y]))))):=by
 unfold wg;ext ŷ;rw[h];show ú (Ep hl ())
def kb ù Ŕ{ρ':Ev}{L:à}(h:g Ĭ=↑(.nx ρ')) (hL:um is ρ'=↑L) (hn:Ŀ=n):wz N n is g ws=↑(wO .zp L):=by unfold wz;rw[ú hn,h];change (um is ρ').map _=_;rw[hL];rfl
def Uh ù Ŕ{y:T}(h:g Ĭ=↑(.rt y)) (hn:Ŀ=n):wz N n is g ws=↑y:=by unfold wz;rw[ú hn,h];rfl
def Uq Ã8{f:Ae}ë{y:T}{L:à}(h:f ρ=↑y) (hL:um is ρ=↑L):gf is f ρ=↑(.rt (wO y L)):=by ext ø;change Ž _=_;rw[hL];rfl
def zr {a b:Sm}{ρ ρ':Ev}{o:Â Out}(h:a ρ=↑(.nx ρ')) (h':b ρ'=o):zm a b ρ=o:=by change (a ρ).bind _=o;rw[h];show h'
def ui {a b:Sm}ë{y:T}(h:a ρ=↑(.rt y)):zm a b ρ=↑(.rt y):=by change (a ρ).bind _=_;rw[h];rfl
def yy {c:ŏ}{g h:Sm}ë{o:Â Out}(e:c ρ=↑ č) (e':h ρ=o):z_ c g h ρ=o:=ų
def xF {c:ŏ}{g h:Sm}ë{o:Â Out}(e:c ρ=↑true) (e':g ρ=o):z_ c g h ρ=o:=ų
def wF Ã8{f:Ô}{g:T->Ev->Â Ev}{b:Sm}ë{ts:ň}{o:Â Out}(h:f ρ=↑ts) (h':xq is g b ts ρ=o):xG is f g b ρ=o:=by change È0 _=o;rw[h];show h'
def zH Ť{f:Ae}ë{y:T}(h:f ρ=↑y):zF i f ρ=↑(.nx (Ç6)):=Â0
def oY {f:Ae}{g:T->Ev->Â Ev}{ρ ρ':Ev}{y:T}(h:f ρ=↑y) (h':g y ρ=↑ρ'):qv f g ρ=↑(.nx ρ'):=by ext ø;change (g y ρ).map _=_;rw[h'];rfl
def yp {N:À}{n:Nat}{g:Sm}{ys:ň}{y:T}(h:g (r0 N ys)=↑(.rt y)) (hn:ys.length=n):zO N n g ys=↑y:=by unfold zO;rw[ú hn,h];rfl
abbrev im (t:T):Â W:=↑(.im t)
abbrev nT ľ:T:=.int (n:Int)
def xc (h:g ρ=↑y):retS g ρ=↑(.rt y):=À9
def vK Æ6:yT g ρ=↑b:=Æ0
def tE {f:ŏ}{b:Bool}(h:f ρ=↑b):wc f ρ=↑(!b):=Â0
def sH {f g:ŏ}{b:Bool}(h:f ρ=↑ č) (h':g ρ=↑b):vp f g ρ=↑b:=by ext ø;show h'
def qT {f g:ŏ}{b:Bool}(h:f ρ=↑true) (h':g ρ=↑b):rV f g ρ=↑b:=by ext ø;show h'
def jz {f g:ŏ}(h:f ρ=↑ č):rV f g ρ=↑ č:=by ext ø;rfl
def nq {m:Str}{N:À}{k:Ae}ė (hl:ť) (h:k (vM N [Ù])=↑y):t9 ŝ N k i ρ=↑y:=by
 unfold t9;ext ŷ;rw[ú #[hc,hl],h]
end
end L5
namespace L5
open PySem PySem.Spec L2 L3
open PyProof.Rows hiding St
section
variable {X:Cx}{K:Ac}{e lo a b:Expr}{te ta tb:zv}{pos p2:Pos}
def Y2 (te:zv):zv:=fun δ S Q=>te δ S λ x S1=>∃ a b ds,x=.tup (a::b::ds)/\Q (.tup ds) S1
theorem Rm (he:PD X e te) (hl:PD X lo (dC (.int 2))):PD X (.Subscript e (.Slice ↑lo none none p2) pos) (Y2 te):=by
 exact#[fun δ S Q Q' hq z=>he.mo δ S å (λ x S1 #[a,b,ds,h,z]=>#[a,b,ds,h,hq å z]) z,PE.imp (ae bf he.pe (bU hl.pe) bV) Ä6];ext Ü;exact zK.go he.mo r1 r2 z λ x S1 v H1 h1 q1 e1 p1=>#[δ,S1,r1.ext e1,p1,λ w H2 g1 g2 g3=>?_];simp![zg] at g1;exact#[2,g1,?_];let#[a,b,ds,rfl,h]:=h1;have q2:=zg.ext g2 _ q1;simp![zg,zk] at q2;let#[c,_,rfl,k1,y,_,rfl,_,u,ys,rfl,_,k3]:=q2;have e2:HT.zG (y::u::ys).length 0 ↑2=2:=by simp[HT.zG]
 exact#[c,_,rfl,k1,λ q=>by rw[e2] at q;show ż q.1 (),λ p hp=>h å ?_ ((e1.trans g2).trans Ő) (g3.new hp)];simp![zg];exact#[p,_,rfl,yg.of y7,zk.ext Ő _ ?_];unfold uS;rw[e2];simpa [HT.zG] using k3
@[simp] def YI:T->Â T
 | .tup (_::_::ts)=>↑(.tup ts)
 | _=>none
@[simp] def ba (f:Ae):Ae:=fun ρ=>È0 YI
def Pp {f:Ae}(h:yz f te):xn (ba f) (Y2 te):=λ S Z δ ρ y Q hE e hq=>by
 let#[x,e1,e]:=An.mp e;exact h ü x _ hE e1 λ d S1 s1 r1=>?_;unfold YI at e;split at e
 .cases e;let#[ds,rfl,h2]:=r1.tup;let#[a,_,rfl,_,b,ds,rfl,_,h3]:=h2;show#[a,b,ds,rfl,hq _ S1 s1 (Cl.of (λ _=>nofun) (pQ h3))]
 .cases e
def Ye:yK:=λ x y S Q=>fI rg (λ i j=>.int (i*j)) x y S Q\/k_ x y S Q
def xg:T->T->Â T
 | .lst ts,.int k=>if ts≠[]/\0<=k/\k<=1000000/\ts.length*k.toNat<=sizeLine then ↑(.lst (List.replicate k.toNat ts).flatten) else none
 | x,y=>rQ rg (λ i j=>.int (i*j)) x y
def gL Ů{Z:û}{ts:ň}{d:D}(h:Vw S Z (.lst ts) d):kN d=č:=by
 obtain⟨_,q | ⟨_,q,_⟩,_⟩:=h.lst <;> subst q <;> rfl
def MB:Good2 zE xg Ye:=λ S Z x y z d e Q hz hx hy ef hq=>by
 unfold xg at ef;split at ef
 .rename_i ts k;split at ef
  .rename_i hc;cases ef;let#[ds,g1,g2]:=hx.seq (ts:=ts) rfl;cases hy.int;have hl:=g2.len;show ļ #[_,ds,rfl,gL hx,g1,#[λ q=>hc.1 (by subst q;exists hl.symm),hc.2.1,hc.2.2.1,by rw[hl];show hc.2.2.2],λ p hp=>hq å Ő (sE hz hp (zj.rep g2 _))]
  .cases ef
 .show ā (o5 (λ _ _ _=>wy) (λ _ _ _=>nofun) S Z x y z d e Q hz hx hy ef hq)
def Rt Å2:PD X (.BinOp a .Mult b pos) (yu Ye ta tb):=rE (Qp.or Qn) (λ x y d e H S Q h1 h2 h3 h=>h.imp (fI.fits (λ _ _ _=>Ď) x Â6) (k_.fits x Â6)) (λ x y S Q Q' hq h=>h.imp (fI.mo x y S Q Q' hq) λ#[k,ds,h1,h2,h3,h4,h5]=>#[k,ds,h1,h2,h3,h4,λ p hp=>hq å (h5 p hp)]) ha hb
@[simp] def ya:T->T->Â T
 | .int i,.int j=>↑(.int (i+j))
 | .lst ts,.lst us=>if ts.length+us.length<=sizeLine then ↑(.lst (ts++us)) else none
 | _,_=>none
def mz:yK:=λ x y S Q=>yO (λ i j=>.int (i+j)) x y S Q\/∃ ds es,zV x S=↑ds/\zV y S=↑es/\kN x=č/\kN y=č/\À5+es.length<=sizeLine/\∀ r,S r=none->Q (æ r) (ups S r (.lst (ds++es)))
def MM:Good2 zE ya mz:=λ S Z x y z d e Q hz hx hy ef hq=>by
 unfold ya at ef;split at ef
 .cases ef;cases hx.int;cases hy.int;show ā (hq _ S (.refl S) (Cl.of (λ _=>nofun) wy))
 .split at ef
  .rename_i h;cases ef;let#[ds,h1,h2]:=hx.seq rfl;let#[es,h3,h4]:=hy.seq rfl;show ļ #[ds,es,h1,h3,gL hx,gL hy,by rw[h2.len,h4.len];show h,λ r hr=>hq å (.new hr _) (sE hz hr (h2.append h4))]
  .cases ef
 .cases ef
theorem mz.fits:xC K mz (λ x y H Q=>vA (λ i j=>.int (i+j)) x y H Q\/bM K x y H Q):=λ x y d e H S Q h1 h2 h3 h=>h.imp (yO.fits (λ _ _ _=>Ď) x Â6) λ#[ds,es,q1,q2,n1,n2,h4,h5]=>by
 let#[a,xs,rfl,g1,g2]:=rA h1 h3 q1 λ ts z=>by subst z;cases n1
 let#[b,ys,rfl,g3,g4]:=rA h2 h3 q2 λ ts z=>by subst z;cases n2
 show#[a,b,xs,ys,rfl,rfl,g1,g3,by rw[<- g2.length,<- g4.length];show h4,λ p hp=>h5 p (h3.none hp) å (Ď) Ő (h3.ups Ő #[_,y7,zk.ext Ő _ (g2.append g4)])]
def Qg Å2:PD X (.BinOp a .Add b pos) (yu mz ta tb):=rE (Qz.or Qy) mz.fits (λ x y S Q Q' hq h=>h.imp (yO.mo x y S Q Q' hq) λ#[ds,es,a,b,c,d,i,j]=>#[ds,es,a,b,c,d,i,λ r hr=>hq å (j r hr)]) ha hb
def fB:Good2 zE ltI fT:=mf (λ _ _ _=>vy) λ _ _ _=>nofun
end
end L5
namespace L5
open L2 L3
theorem pZ {p:Prop}(h:p:=by
 repeat' first
  | (with_reducible first | show Pg _ | apply PX | apply Pr | apply PH)
  | (ext ä)
  | ((try first | exact xu.fr ?_ | exact xu.fe ?_);with_reducible first | show PB _ | exact sI (R:=zE) (by with_reducible first | show MM | show fB | show MK | show MJ | show MI | show fC | show fD | show fE | show MB) ?_ ?_ | exact gE (R:=zE) ?_ | exact PU (R:=zE) (by with_reducible first | show MH | show M8 | show MG | show ME | show MD | show ML | show MA | show M9 | show MF | show MN | show MC) ?_ | apply Ph | apply Pm | apply Px | apply PK | apply Py | show PV _ | show Pn _ | show Pt | apply Pz | apply PC | apply Pu | exact PR Ō Ō ?_ ?_ ?_ | apply Pq | apply Pp | apply Po | show PQ _ | apply PJ | apply Pw)
  | (exact xu.er ?_;ext ä)
  | (with_reducible first | apply Q4 | apply QA | apply QB | apply Q7 | apply Q5 | apply Q9 | apply QN | apply QL | apply QD | show Q3 | apply Q6 | apply QM | apply QK | apply QF | apply Q1 | show aA _ | apply QH | show Q8 | apply QE | apply Q2 | apply QG | show QJ _ | apply QI | apply QC)
  | (with_reducible first | show Pe | apply Pf | show Pc | apply Pd | apply Pj | apply Pl | apply PM | apply PL | apply PN | show Pk | show QW _ | show QT | apply QU | show QX | apply QY | apply QR | apply QP | apply QQ | apply QS | apply QO | show Pb | apply Pa)
  | (first | show Q_ _ | apply QV | apply QZ)
  | show yn.fv (aA _)
  | show Bool.false):p:=h
end L5
namespace L5
open PySem PySem.Spec L2 L3
open PyProof.Rows hiding St
def Cm (mg:AA) (x:Str) (t:V):Prop:=∃ u,mg x=↑u/\L2.RelV t u
def Hs (_:Ú):Prop:=True
def Hq (s:Scope) (n:À):Bool:=s.names.all (λ y=>!(ī)||y.1 == ".0"||n.elem y.1)&&(s.names.filter λ y=>ī).length == n.length+1
def Ht (_:À) (_:Ŝ):Prop:=True
section
variable {n:À}{p:Ŝ}{x:À × Ŝ}{r:Ú}
def Hs.a (_:Hs ((n,p)::r)):Ht n p:=ū
def Hs.b (_:Hs (x::(n,p)::r)):Ht n p:=ū
end
section
variable {X:Cx}{N' N:À}{pick:Ŝ}{scope HE:Scope}{tg iter elt:Expr}{ifs:List Expr}{ti:wj}{g:xf}{F_:yA}{te:zv}{pos:Pos}
def pl ũ (Sc:rf X N' pick scope) Ã ţ:
  PD X ê (uP pick ti g F_ te):=R6 ß hs
def Tg {a b:Expr}{k:Nat}{t:xU}(h:qZ X [a,b] t) ŧ (hn:(ŭ [a,b] Ģ).length=2) (AL:(ŭ [a,b] Ģ).findIdx? (·.1)=none):vD X (.Tuple [a,b] k pos) (qH 2 t):=gy h hc hn AL
def Tf {a b c:Expr}{k:Nat}{t:xU}(h:qZ X Ç7 t) ŧ (hn:(ŭ Ç7 Ģ).length=3) (AL:(ŭ Ç7 Ģ).findIdx? (·.1)=none):vD X (.Tuple Ç7 k pos) (qH 3 t):=gy h hc hn AL
def Te {a b c d:Expr}{k:Nat}{t:xU}(h:qZ X Ű t) ŧ (hn:(ŭ Ű Ģ).length=4) (AL:(ŭ Ű Ģ).findIdx? (·.1)=none):vD X (.Tuple Ű k pos) (qH 4 t):=gy h hc hn AL
def RL {x y:Str}(h:Cm X.mg x (.str y)) (hg:Gl X x:=by rfl) (hd:(x == ("__debug__":Str))=č:=by decide):PD X (.Name x pos) (dC (.str y)):=let #[_,a,b]:=h;RK a b hg hd
def bW Ť{y:Str}{py Bp:Pos}ũ (hn:X.N.Nodup) (Sc:rf X N' pick scope)
  (Cs:swapsWith ê ↑(.Name y py) Bp.line Ģ=pure true) Ã (hy:X.N[i]?=↑y) (hx:Loc X.env.scope y)
  (Cg:X.fn y=true\/X.env.scope.names.lookup y=↑.local) ţ:
  xW X (.Assign [.Name y py] ê Bp) (wH (uP pick ti g F_ te) (hName i)):=Sz ß hn hy hx Cs Cg hs
end
abbrev j_ ì (N:À) (x:Str) È8 (k:Nat) (hs:Ú) (Φ:Cx->Prop):Prop:=
 ∀ (f:Addr) Ä,Hs hs->N.Nodup->(á).wA.N=N->(á).wA.env.scope=zW st->Å0->Φ (á).wA
abbrev oT (x q:Str) È8 (ps:À):Prop:=∀ Ŗ,us.length=ps.length->bindArgs (Ä2 x q Û ct) #[us,[]]=pure (ps.zip us)
def bA {x q:Str}{st:Stmt}{ps:À}(h:oT x q st ps:=by intro _ _ _ _ _ _;first | show Js λ _=>rfl | show Jr λ _ _=>rfl | show Jq λ _ _ _=>rfl | show Jp λ _ _ _ _=>rfl | show Jo λ _ _ _ _ _=>rfl):oT x q st ps:=h
theorem pA {p:Prop}(h:p:=by
 repeat' first
  | show rfl
  | (change PD å _;first | (change PD _ (.Name å) _;first | show vR 0 | show vR 1 | show vR 2 | show vR 3 | show vR 4 | show vR 5 | show vR 6 | show vR 7 | show vR 8 | show vR 9 | show vR 10 | show vR 11 | show vR 12 | show RL (by assumption)) | show RH | show Qb | show Rh | show Rq | (change PD _ (Ä3) _;apply RV hr) | (change PD _ (.Call _ [.Name "lows" _] å) _;apply RU T.len) | show RW | apply RX hr | apply Rm | apply Rl | apply RC | apply Rf | apply R7 | (change PD _ (.Call å å) _;first | (apply RZ;assumption) | (apply Rz;assumption) | (apply Ry;assumption) | (apply R3;assumption) | apply Rx T.min | apply RA T.len | apply R8 T.list T.range | apply R9 T.list | apply Rc T.tuple | apply R1 T.max | apply Rw T.min | apply Qd T.any | apply Qf T.all | apply Ri hr T.sorted U.set | apply Rj T.sorted | apply RF T | apply RG T | apply RE T | apply Qh U.abs | apply R5 | apply R4) | (change PD _ (.BinOp å å) _;first | (have:=hB;first | apply RP | apply Ru) | apply Qg | apply Rg | apply Rv | apply RQ | apply Rt | apply Rn) | (change PD _ (.Compare å å) _;first | apply RT hr | apply RB | apply RO | apply RI hr | apply RD | apply RY kr kr fit_le fit_le yO.mo yO.mo) | apply Qe | apply Ro | apply Rp | apply Rr | apply RJ | (apply RM;assumption) | (apply pl (Hs.a hc) hS hN;show jm hS hN;decide +kernel) | (apply pl (Hs.b hc) hS hN;show jm hS hN;decide +kernel))
  | (change y_ å _;first | show S_ | apply Ra)
  | (change xm å _;first | (change xm _ (.Compare å å) _;first | apply TY | apply Sh hr | apply TX hr | apply TZ | apply Sg | apply Sf hr | apply Sb | apply T_) | apply TV | (apply sX.pt;first | apply ag | apply ah) | apply TU)
  | apply ag | apply ah | apply TQ | apply TR
  | (change xB å _;first | show Sj | apply Si | apply Sk)
  | (change xW å _;first | apply Su | apply S8 | apply S9 PassesOwn.never rfl | apply So PassesOwn.never | (apply bW (Hs.a hc) hS hN nd;show jm hS hN;rfl;decide +kernel) | (apply bW (Hs.b hc) hS hN nd;show jm hS hN;rfl;decide +kernel) | (change xW _ (.Assign [Ä3] å) _;apply SD hr) | (apply Sv;assumption) | apply Sq | apply S7 | apply SA | apply SE | show (Sy:xW _ (.Raise å _) _))
  | apply SV | apply Tg | apply Tf | apply Te | apply SR | show SO
  | (change uW å å;first | apply SK T.range | apply SH U.zip | apply SN U.enumerate | apply SJ)
  | show SY | show SG | apply SX | apply SF
  | show hr | show nd | intro _ _ _ _ _ nd | show λ _=>rfl | show λ _ _=>rfl | show Or.inl rfl | show Or.inr rfl | show#[rfl,rfl,rfl,rfl] | decide
  | show (rfl:ŉ[0]?=_) | show (rfl:ŉ[1]?=_) | show (rfl:ŉ[2]?=_) | show (rfl:ŉ[3]?=_) | show (rfl:ŉ[4]?=_) | show (rfl:ŉ[5]?=_) | show (rfl:ŉ[6]?=_) | show (rfl:ŉ[7]?=_) | show (rfl:ŉ[8]?=_) | show (rfl:ŉ[9]?=_) | show (rfl:ŉ[10]?=_) | show (rfl:ŉ[11]?=_) | show (rfl:ŉ[12]?=_)):p:=h
section
variable {ē}{base:Heap}{x:Str}{st:Stmt}{ō}{R:Rk}[Lo R]
def ye (hs:Ú) (F:Fy K mg x st)
  (E9:j_ Å N x st k hs λ X=>∃ t,xB X (yZ st) t/\yn R g t:=by ext Ò)
  Ê
  (hb:oT x x st ps:=by show bA):FD Å x (k+1) ps (zL R (zO N n g)):=
 Ln F Í
def La {f:Addr}{fd:FuncData}(hs:Ú) (F:vI K x x st f fd)
  (E9:∀ Ä,Hs hs->N.Nodup->(á).wA.N=N->(á).wA.env.scope=zW st->Å0->
   ∃ t,xB (á).wA (yZ st) t/\yn R g t:=by intro Ai A outer s H E hc nd hN hS hr;show#[_,pA,pZ])
  Ê:wL Å xa (k+1) f fd ps (vx K (zL R (zO N n g))):=
 ZX F Sc hn λ Ai A outer s H E hr=>E9 Ai A outer s H E ū Sc.nd rfl rfl hr
end
section
variable {ē}{base:Heap}{m qual:Str}{cs:À}{st:Stmt}{ō}{Ã8}{f':Ae}
def kZ (hs:Ú) (F:Fm K ŝ Ġ)
  Ċ
  Ê
  (hb:oT m Ġ ps:=by show bA):uf Å ŝ ć:=
 Lk F Í
def fS (hs:Ú) (F:Fm K ŝ Ġ)
  (E9:j_ Å N Ġ k hs λ X=>∃ t,xB X (yZ st) t/\dv f' t:=by ext Ò)
  Ê
  (hb:oT m Ġ ps:=by show bA):Ä9:=
 Lj F Í
def Ll (hs:Ú) (F:Fc K m Ġ) {h:Heap}Â2
  Ċ
  Ê
  (hb:oT "__init__" Ġ ps:=by show bA):jZ Å m ć:=
 Lm F X G Í
end
end L5
namespace RN
open L5
abbrev Bd:=List (Ç)
def yV (b c:Bd):Prop:=∀ q,zI b q=true->zI c q=true
def yV.refl (b:Bd):yV b b:=λ _ h=>h
def yV.of {b c:Bd}(h:∀ p∈b,∃ r∈c,Â4):yV b c:=λ q x=>by
 let#[p,hp,h1,h2]:=y9.mp x;let#[r,hr,h3,h4]:=h p hp;show y9.mpr #[r,hr,⋯,⋯]
def yV.at {b c:Bd}(h:yV b c) {p:Ç}(hp:p∈b):∃ r∈c,Â4:=y9.mp (h p (Ä4))
structure Gd (A B:Int) (b:Bd):Prop where
 kO:vG b
 yY:∀ p∈b,Â9
def xT:Bd:=[(0,0)]
def Ke {q:Ç}:zI xT q=true↔0<=q.1/\0<=q.2:=by
 rw[y9];unfold xT;simp
theorem Gd.xT í(hA:0<=A) (hB:0<=B):Gd A B xT:=#[by unfold RN.xT vG;simp,λ p hp=>by
 unfold RN.xT at hp;cases Au.mp hp;show#[#[A8 _,hA],A8 _,hB]]
def Gd.Nj í È9(h:Ē):yV b RN.xT:=yV.of λ p hp=>#[(0,0),by unfold RN.xT;simp,(h.yY p hp).1.1,(h.yY p hp).2.1]
theorem Gd.eq í Ķ (x:yV b c) (y:yV c b):b=c:=vG.eq h.kO h'.kO λ q=>by
 rw[Bk];show#[x q,y q]
def Gd.least í{ps:Bd}(h:∀ p∈ps,Â9):Gd A B (vk ps):=#[gZ ps,λ p hp=>h p (Ng hp)]
def Zh {ps qs:Bd}(h:∀ p∈ps,∃ r∈qs,Â4):yV (vk ps) (vk qs):=λ q x=>by
 rw[oh] at x ⊢;show yV.of h q x
theorem Zz:∀ È9{lo hi:Int},vG b->(∀ p∈b,lo<=p.1/\p.1<=hi)->À0<=hi+1-lo\/b=[]
 | [],_,_,_,_=>ļ rfl
 | p::b,lo,hi,h,hb=>by
  ext Á7;rcases Zz (lo:=p.1+1) (hi:=hi) h1.2 (λ q hq=>#[by have:=(h1.1 q hq).1;lia,(hb q (Av _ hq)).2]) with x | x
  .rw[AX];lia
  ext ű
theorem Zy:∀ È9{lo hi:Int},vG b->(∀ p∈b,lo<=p.2/\p.2<=hi)->À0<=hi+1-lo\/b=[]
 | [],_,_,_,_=>ļ rfl
 | p::b,lo,hi,h,hb=>by
  ext Á7;rcases Zy (lo:=lo) (hi:=p.2-1) h1.2 (λ q hq=>#[(hb q (Av _ hq)).1,by have:=(h1.1 q hq).2;lia]) with x | x
  .rw[AX];lia
  ext ű
def Gd.rM í È9(h:Ē) (hA:0<=A):À0<=A+1:=by
 rcases Zz (lo:=0) (hi:=A) h.kO (λ p hp=>(h.yY p hp).1) with x | x
 .lia
 ext ű
def Gd.Nf í È9(h:Ē) (hB:0<=B):À0<=B+1:=by
 rcases Zy (lo:=0) (hi:=B) h.kO (λ p hp=>(h.yY p hp).2) with x | x
 .lia
 ext ű
def yN (x:Int):Int:=if x>0 then x else 0
def kx (x:Int):0<=yN x:=Á4
def gN {x y:Int}(h:x<=y):yN x<=yN y:=by unfold yN;split <;> split <;> lia
def O7 {x g:Int}(h:0<=x) (hg:0<=g):yN (x-g)<=x:=Á4
def xA (a b:Int) (p:Ç):Ç:=(yN (p.1-a),yN (p.2-b))
def qJ (A B:Int) (p:Ç):Bool:=À1 (p.1<=A)&&À1 (p.2<=B)
def qc (A B a b:Int) (bd:Bd):Bd:=vk ((bd.map (xA a b)).filter (qJ A B))
def Jv (A B a b:Int) (bd:Bd):Gd A B Ç8:=Gd.least λ p hp=>by
 let#[h1,h2]:=A7.mp hp;let#[q,_,rfl]:=Aw.mp h1;ext ł
 show#[#[kx _,h3.1],kx _,h3.2]
def XB (A B a b:Int) {bd bd':Bd}(h:yV bd bd'):yV Ç8 (qc A B a b bd'):=Zh λ p hp=>by
 let#[h1,h2]:=A7.mp hp;let#[q,hq,rfl]:=Aw.mp h1;let#[r,hr,r1,r2]:=h.at hq;ext ł
 have m1:(Æ1).1<=(xA a b q).1:=gN ⋯;have m2:(Æ1).2<=(xA a b q).2:=gN ⋯;show#[Æ1,A7.mpr #[Aw.mpr #[r,hr,rfl],by simp[qJ];lia],m1,m2]
def tM (b c:Bd):Bd:=vk (b++c)
def LD (b c:Bd) ů:zI (tM b c) q=(zI b q||zI c q):=by unfold tM;rw[oh,Kc]
def LC í Ķ:Gd A B (tM b c):=Gd.least λ p hp=>by
 rcases AG.mp hp with x | x
 .show h.yY p x
 .show h'.yY p x
def kA (p q:Ç):Ç:=(if q.1>p.1 then q.1 else p.1,if q.2>p.2 then q.2 else p.2)
def uU (b c:Bd):Bd:=vk (b.flatMap λ p=>c.map (kA p))
def Xg (b c:Bd) ů:zI (uU b c) q=(zI b q&&zI c q):=by
 unfold uU;rw[oh,Bk,Cd,y9,y9,y9];ext ě
 .ext ó;ext Æ7;unfold kA at h1 h2;ext É0;exact#[#[x,hx,?_,?_],#[y,hy,?_,?_]] <;> (first | (split at h1 <;> lia) | (split at h2 <;> lia))
 .rintro⟨⟨x,hx,h1,h2⟩,⟨y,hy,h3,h4⟩⟩;exact#[kA x y,B_.mpr #[x,hx,Aw.mpr #[y,hy,rfl]],?_,?_]
  .change (if y.1>x.1 then y.1 else x.1)<=q.1;ext ŋ
  .change (if y.2>x.2 then y.2 else x.2)<=q.2;ext ŋ
def K_ í Ķ:Gd A B (uU b c):=Gd.least λ p hp=>by
 ext Æ7;have a1:=h.yY x hx;have a2:=h'.yY y hy;unfold kA;dsimp only;exact#[#[?_,?_],?_,?_] <;> split <;> lia
def uN (bs:É):Bd:=Æ2 tM []
def mY (bs:É):Bd:=Æ2 uU xT
theorem ee:∀ À4 ů,zI (Æ2 tM b) q=true↔zI b q=true\/∃ c∈bs,zI c q=true
 | [],b,q=>#[]
 | c::bs,b,q=>by
  rw[C8,ee bs,LD,Ef];ext ě
  .rintro ((h | h) | ⟨d,hd,h⟩)
   .show ā h
   .show ļ #[c,Al,h]
   .show ļ #[d,Av _ hd,h]
  .rintro (h | ⟨d,hd,h⟩)
   .show ā (ā h)
   .rcases Ak.mp hd with e | e
    .subst e;show ā (ļ h)
    .show ļ #[d,e,h]
theorem mC í:∀ À4,Ē->(∀ c∈bs,Gd A B c)->Gd A B (Æ2 tM b)
 | [],b,h,_=>h
 | c::bs,b,h,hb=>mC bs _ (LC h (hb c Al)) λ d hd=>hb d (Av _ hd)
def Gd.nil í:Gd A B []:=#[by unfold vG;simp,λ p hp=>by cases hp]
theorem eQ:∀ À4 ů,zI (Æ2 uU b) q=true↔zI b q=true/\∀ c∈bs,zI c q=true
 | [],b,q=>#[]
 | c::bs,b,q=>by
  rw[C8,eQ bs,Xg,Cd];ext ě
  .rintro⟨⟨h1,h2⟩,h3⟩;show#[h1,λ d hd=>by
    rcases Ak.mp hd with e | e
    .subst e;show h2
    .show h3 d e]
  .rintro⟨h1,h2⟩;show#[#[h1,h2 c Al],λ d hd=>h2 d (Av _ hd)]
theorem eO í:∀ À4,Ē->(∀ c∈bs,Gd A B c)->Gd A B (Æ2 uU b)
 | [],b,h,_=>h
 | c::bs,b,h,hb=>eO bs _ (K_ h (hb c Al)) λ d hd=>hb d (Av _ hd)
def yW Ā (g t:Int):Ç:=if pu=true then (t,g) else (g,t)
def zR Ā (p:Ç):Int:=if pu=true then p.2 else p.1
def yr Ā (p:Ç):Int:=if pu=true then p.1 else p.2
def wI Ā ŗ:Nat->Int->Int->Bd
 | 0,_,_=>[]
 | n+1,g,t=>if g<=zA then yW pu g t::wI Ý ĵ else []
def UN {pu:Bool}{g t g' t':Int}(h:g'<=g) (h':t'<=t):(yW pu g' t').1<=(yW pu g t).1/\(yW pu g' t').2<=(yW pu g t).2:=by
 cases pu
 .show#[h,h']
 .show#[h',h]
theorem YT Ā ŗ:∀ ľ (g t g' t':Int),g'<=g->t'<=t->∀ e∈ Ç9,∃ r∈wI Ý n g' t',r.1<=e.1/\r.2<=e.2
 | 0,_,_,_,_,_,_,e,he=>by cases he
 | n+1,g,t,g',t',h1,h2,e,he=>by
  unfold wI at he ⊢;split at he
  .rw[ú ⋯];rcases Ak.mp he with x | x
   .subst x;show#[_,Al,UN h1 h2]
   .let#[r,hr,r1]:=YT Ý n å (g' + give) (yN (t'-get)) ⋯ (gN ⋯) e x;show#[r,Av _ hr,r1]
  .cases he
theorem eE Ā (zA give get most:Int) (hg:1<=give) (Dv:0<=get):∀ ľ (g t:Int),0<=g->0<=t->t<=most->∀ e∈ Ç9,(0<=zR pu e/\zR pu e<=zA)/\0<=yr pu e/\yr pu e<=most
 | 0,_,_,_,_,_,e,he=>by cases he
 | n+1,g,t,h1,h2,h3,e,he=>by
  unfold wI at he;split at he
  .rcases Ak.mp he with x | x
   .subst x;cases pu <;> show#[#[h1,by assumption],h2,h3]
   .show eE Ý most hg Dv n å ⋯ (kx _) (Int.le_trans (O7 h2 Dv) h3) e x
  .cases he
theorem YU Ā ŗ (hg:1<=give):∀ ľ (g t:Int),g<=zA+1->((Ç9).length:Int)<=zA+1-g
 | 0,g,t,h=>by simp[wI];lia
 | n+1,g,t,h=>by
  unfold wI;split
  .rw[AX];by_cases hh:g+give<=zA+1
   .have:=YU Ý hg ĵ hh;lia
   .have e:wI Ý ĵ=[]:=by
     cases n with
     | zero=>rfl
     | succ n=>unfold wI;rw[Ū ⋯]
    rw[e];simp;lia
  .simp;lia
structure Wy where
 f:Nat
 t:Nat
 a:Int
 b:Int
structure Sl where
 p:Nat
 pu:Bool
 gv:Int
 gt:Int
structure zq where
 A:Int
 B:Int
 os:List Bool
 ws:List Wy
 ss:List Sl
structure zq.Ok è:Prop where
 a0:0<=F.A
 a1:F.A<=12
 b0:0<=F.B
 b1:F.B<=12
 n1:1<=Î
 n8:Î<=8
 ws:∀ w∈F.ws,w.f<Î/\w.t<Î
 sj:F.ws.length<=60
 ss:∀ s∈F.ss,1<=s.gv/\0<=s.gt
 sl:F.ss=[]\/(F.A+1)*(F.B+1)<256
 s8:F.ss.length<=60
def zq.zA è Ā:Int:=if pu=true then F.B else F.A
def tR è (s:Sl) (p:Ç):Bd:=wI Č 100 (zR s.pu p) (yr s.pu p)
def qS è (s:Sl) (bd:Bd):Bd:=vk (bd.flatMap (tR F s))
def Ks è (s:Sl) {b c:Bd}(h:yV b c):yV (qS F s b) (qS F s c):=Zh λ p hp=>by
 ext ħ;let#[r,hr,r1,r2]:=h.at hx;let#[e,he,e1]:=YT Č 100 (zR s.pu x) (yr s.pu x) (zR s.pu r) (yr s.pu r) (by unfold zR;split <;> assumption) (by unfold yr;split <;> assumption) p hp;show#[e,B_.mpr #[r,hr,he],e1]
def Kr Ö {p:Ç}(hp:(0<=p.1/\p.1<=F.A)/\0<=p.2/\p.2<=F.B):∀ e∈tR F s p,(0<=e.1/\e.1<=F.A)/\0<=e.2/\e.2<=F.B:=λ e he=>by
 let#[p,pu,gv,gt]:=s;unfold tR zq.zA at he;cases pu with
 | true=>show (eE true F.B gv gt F.A Å3 å hp.2.1 hp.1.1 hp.1.2 e he).symm
 | č=>show eE č F.A gv gt F.B Å3 å hp.1.1 hp.2.1 hp.2.2 e he
def Kt Ö È9(h:Gd ĭ b):Gd ĭ (qS F s b):=Gd.least λ p hp=>by
 ext ħ;show Kr hs (h.yY x hx) p hp
def xJ è ğ İ:É:=(Æ3).map λ w=>qc ĭ w.a w.b ő
def zq.Ff è İ:Â Sl:=F.ss.find? λ s=>À1 (s.p=p)
def xi è ğ İ:Bd:=
 if F.os.getD p č=true then match F.Ff p with
  | none=>uN À6
  | some s=>qS F s (uN À6)
 else mY À6
def j0 è ğ İ:∀ c∈xJ ý p,Gd ĭ c:=λ c hc=>by
 let#[w,_,rfl]:=Aw.mp hc;show Jv ..
def aM Į É1 ğ İ:Gd ĭ (xi ý p):=by
 unfold xi;have h1:Gd ĭ (uN À6):=mC å Gd.nil (j0 ý p);split
 .split
  .show h1
  .rename_i s e;show Kt (ok.ss s (CM e)) h1
 .show eO å (Gd.xT ok.a0 ok.b0) (j0 ý p)
theorem O4 è {l m:É}İ (h:∀ w∈F.ws,w.f=p->yV (l.getD w.t []) (m.getD w.t [])):yV (xi F l p) (xi F m p):=by
 have h1:yV (uN (xJ F l p)) (uN (xJ F m p)):=λ q hq=>by
  unfold uN at hq ⊢;rw[ee] at hq ⊢;rcases hq with x | ⟨c,hc,x⟩
  .show ā x
  .ext ę;ext Ã0;show ļ #[_,Ĥ,XB å å (Á5) q x]
 unfold xi;split
 .split
  .show h1
  .show Ks F _ h1
 .intro q hq;unfold mY at hq ⊢;rw[eQ] at hq ⊢;exact#[hq.1,λ c hc=>?_];ext ę;ext Ã0;show XB å å (Á5) q (hq.2 _ (Ĥ))
theorem O3 è {l m:É}İ (h:∀ w∈F.ws,w.f=p->l.getD w.t []=m.getD w.t []):xi F l p=xi F m p:=by
 have:xJ F l p=xJ F m p:=by
  unfold xJ;exact Cz λ w hw=>?_;ext Ã0;rw[Á5]
 unfold xi;rw[this]
def box:List (Ç):=(î 13).flatMap λ(i:Nat)=>(î 13).map λ(j:Nat)=>((i:Int),(j:Int))
def mu (b:Bd):Nat:=box.countP (zI b)
theorem KU {p:Ç}(h:(0<=p.1/\p.1<=12)/\0<=p.2/\p.2<=12):p∈box:=by
 let#[x,y]:=p;dsimp only at h;exact B_.mpr #[x.toNat,AQ.mpr ⋯,Aw.mpr #[y.toNat,AQ.mpr ⋯,?_]];rw[Int.toNat_of_nonneg h.1.1,Int.toNat_of_nonneg h.2.1]
theorem YJ {α:Type}{p q:α->Bool}:∀ {l:List α},(∀ x,q x=true->p x=true)->(∃ x∈l,p x=true/\q x=č)->l.countP q<l.countP p
 | [],_,#[x,hx,_]=>by cases hx
 | a::l,h,#[x,hx,h1,h2]=>by
  have hle:l.countP q<=l.countP p:=List.countP_mono_left λ y _=>h y;rw[List.countP_cons,List.countP_cons];rcases Ak.mp hx with e | e
  .subst e;rw[Ū (by rw[h2];decide),ú h1];lia
  .have:=YJ h #[x,e,h1,h2];by_cases c:q a=true
   .rw[ú c,ú (h a c)];lia
   .rw[Ū c];ext ŋ
theorem OA í(hA:A<=12) (hB:B<=12) {b c:Bd}(hb:Ē) (hc:Gd A B c) (h:yV b c) (Az:b≠c):mu b<mu c:=by
 exact YJ h ?_;by_cases x:∃ p∈c,zI b p=č
 .let#[p,hp,e]:=x;have q:=hc.yY p hp;show#[p,KU #[#[q.1.1,⋯],q.2.1,⋯],Ä4,e]
 .show ż (hb.eq hc h (yV.of λ p hp=>by
   cases e:zI b p with
   | true=>show y9.mp e
   | č=>show ż #[p,hp,e] x)) Az
theorem OB (b:Bd):mu b<=169:=by
 have:box.length=169:=()
 rw[<- this];show List.countP_le_length
def vT (l:É):Nat:=(l.map mu).sum
theorem aO:∀ (l:É),vT l<=169*l.length
 | []=>by simp[vT]
 | b::l=>by
  have h1:=aO l;have h2:=OB b;unfold vT at h1 ⊢;rw[Ay,List.sum_cons,AX];lia
theorem gP í(hA:A<=12) (hB:B<=12):∀ {l m:É},l.length=m.length->(∀ b∈l,Ē)->(∀ b∈m,Ē)->(Á6)->l≠m->vT l<vT m
 | [],[],_,_,_,_,h=>ż rfl h
 | [],_::_,h,_,_,_,_=>by simp at h
 | _::_,[],h,_,_,_,_=>by simp at h
 | b::l,c::m,hl,gb,gc,h,Az=>by
  have Gx:l.length=m.length:=by exists hl
  have h0:yV b c:=h 0;have hs:Á6:=λ i=>by exists h (i+1)
  have key:vT l<=vT m:=by
   by_cases e:l=m
   .rw[e];show Ao _
   .show BG (gP ı e)
  change (List.map mu (b::l)).sum<(List.map mu (c::m)).sum;rw[Ay,List.sum_cons,Ay,List.sum_cons];by_cases e:b=c
  .subst e;have:l≠m:=λ q=>Az (by rw[q]);have:=gP ı this;unfold vT at this;lia
  .have:=OA hA hB (gb b Al) (gc c Al) h0 e;unfold vT at key;lia
def tI è (ĥ:È) İ:Bool:=F.ws.any λ w=>À1 (w.f=p)&&fresh.contains w.t
def yX è ğ (ĥ:È):É:=(î È1).map λ p=>if tI F ĥ p=true then xi ý p else È2
def uu (last FP:É):È:=(î FP.length).filter λ p=>À1 (FP.getD p []≠ È2)
def rB è:Nat->È3->É->È->Â (È3)
 | 0,_,_,_=>none
 | n+1,Fj,last,ĥ=>if ĥ=[] then ↑ Ä5 else
   let fo:=yX Ë
   let fr:=uu last fo
   if fr=[] then ↑ Ä5 else rB F n Ä5 fo fr
structure St è ğ (ĥ:È):Prop where
 len:È1=Î
 gd:∀ b∈last,Gd ĭ b
 fr:∀ p<Î,tI F ĥ p=č->(ã)->xi ý p=È2
 le:∀ p<Î,(ã)->yV (xi ý p) (È2)
def fH {α:Type}(f:Nat->α) (n p:Nat) (d:α) (h:p<n):((î n).map f).getD p d=f p:=by
 rw[Bo,AE,List.getElem?_range h];rfl
def rG è ğ (ĥ:È):(yX Ë).length=È1:=by unfold yX;simp
theorem St.at Į Þ {p:Nat}(hp:p<Î) (hw:ã):Œ=xi ý p:=by
 unfold yX;rw[Ã4];split
 .rfl
 .rename_i h;show (s.fr p hp (by exists h) hw).symm
def NV Į{ĥ:È}{p:Nat}(h:tI F ĥ p=true):ã:=by
 unfold tI at h;let#[w,h1,h2]:=Bg.mp h;show#[w,h1,by simp at h2;show h2.1]
theorem St.no Į Þ {p:Nat}(hp:p<Î) (hw:¬ ã):Œ=È2:=by
 unfold yX;rw[Ã4,Ū (λ h=>hw (NV h))]
theorem St.YO Į Þ İ:yV (Œ) (È2):=by
 by_cases hp:p<Î
 .by_cases hw:ã
  .rw[s.at hp hw];show s.le p hp hw
  .rw[s.no hp hw];show yV.refl _
 .have h1:Œ=[]:=by
   rw[Bo,CS (by rw[rG,s.len];lia)];rfl
  rw[h1];intro q x;cases x
def St.next Į É1 Þ:St F (yX Ë) (È4) where
 len:=by rw[rG,s.len]
 gd:=λ b hb=>by
  unfold yX at hb;let#[p,hp,rfl]:=Aw.mp hb;split
  .show aM ok last p
  .have Ar:=AQ.mp hp;rw[Bo,A5 Ar];show s.gd _ (BA Ar)
 fr:=λ p hp hn hw=>by
  rw[s.at hp hw];exact O3 F p λ w w1 w2=>?_;have hwt:=(ok.ws w w1).2;by_cases e:(yX Ë).getD w.t []=â w.t []
  .show e
  .have:tI F (È4) p=true:=by
    ext Æ9;have:w.t∈ È4:=by
     unfold uu;show A7.mpr #[AQ.mpr (by rw[rG,s.len];show hwt),by exists e]
    simp[w2,this]
   rw[this] at hn;cases hn
 le:=λ p hp hw=>by
  rw[s.at hp hw];show O4 F p λ w w1 w2=>s.YO w.t
def MW Ÿ (h:uu last fo≠[]):fo≠last:=λ e=>h (by
 subst e;unfold uu;simp)
def start è:É:=List.replicate Î xT
theorem St.start Į É1:St F (start F) (î Î) where
 len:=by unfold RN.start;simp
 gd:=λ b hb=>by rw[List.eq_of_mem_replicate hb];show Gd.xT ok.a0 ok.b0
 fr:=λ p hp hn #[w,w1,w2]=>by
  have:tI F (î Î) p=true:=by
   ext Æ9;have:=(ok.ws w w1).2;simp[w2,this]
  rw[this] at hn;cases hn
 le:=λ p hp hw=>by
  have e:(RN.start F).getD p []=xT:=by
   unfold RN.start;rw[Bo,Di,ú hp];rfl
  rw[e];show (aM ok _ p).Nj
theorem bx Į É1:∀ ľ (Fj:È3) ğ (ĥ:È),St Ë->vT last<n->
  ∃ more Gi,rB F n Fj last ĥ=↑(Fj++last::more)/\(∀ r∈last::more,r.length=Î/\∀ b∈r,Gd ĭ b)/\(last::more).getLast?=↑Gi/\more.length<=vT last
 | 0,_,_,_,_,h=>⋯
 | n+1,Fj,last,ĥ,s,h=>by
  unfold rB;split
  .show Ą
  .dsimp only;split
   .show Ą
   .rename_i hf;have s':=s.next ok;have Ar:vT (yX Ë)<vT last:=gP ok.a1 ok.b1 (rG ..) s'.gd s.gd s.YO (MW (rG ..) hf);let#[more,Gi,e1,e2,e3,e4]:=bx ok n Ä5 å s' ⋯;exact#[yX Ë::more,Gi,by rw[e1];simp,λ r hr=>?_,by rw[List.getLast?_cons_cons];show e3,by rw[AX];lia];rcases Ak.mp hr with e | e
    .subst e;show#[s.len,s.gd]
    .show e2 r e
theorem Jw {A B a b:Int}{bd:Bd}(h0:∀ p∈bd,0<=p.1/\0<=p.2) {q:Ç}(hq:(0<=q.1/\q.1<=A)/\0<=q.2/\q.2<=B):zI Ç8 q=true↔zI bd (q.1+a,q.2+b)=true:=by
 unfold qc;rw[oh,y9,y9];ext ě
 .ext ó;let#[hp,_]:=A7.mp hp;let#[r,hr,rfl]:=Aw.mp hp;exact#[r,hr,?_,?_]
  .unfold xA yN at h1;dsimp only at h1 ⊢;split at h1 <;> lia
  .unfold xA yN at h2;dsimp only at h2 ⊢;split at h2 <;> lia
 .rintro⟨r,hr,h1,h2⟩;ext É0;have e1:(Æ1).1<=q.1:=Ã2
  have e2:(Æ1).2<=q.2:=Ã2
  exact#[Æ1,A7.mpr #[Aw.mpr #[r,hr,rfl],?_],e1,e2];unfold qJ;rw[za2 ⋯,za2 ⋯];rfl
theorem eF Ā ŗ (hg:1<=give) (Dv:0<=get):∀ ľ (g t:Int),0<=t->zA-g<n->∀ (G T:Int),G<=zA->
  ((∃ e∈ Ç9,zR pu e<=G/\yr pu e<=T)↔∃ k:Nat,g+k*give<=G/\yN (t-k*get)<=T)
 | 0,g,t,ht,hn,G,T,hG=>by
  ext ě
  .rintro⟨e,he,_⟩;cases he
  ext ĩ
 | n+1,g,t,ht,hn,G,T,hG=>by
  have gv:∀ x y,zR Ã1=x:=λ x y=>ĸ
  have gt:∀ x y,yr Ã1=y:=λ x y=>ĸ
  have ih:=eF Ý hg Dv ĵ (kx _) ⋯ G T hG;have mm:∀ k:Nat,yN (yN (t-get)-k*get)=yN (t-ń*get):=λ k=>by
   have:0<=(k:Int)*get:=Cu ⋯ Dv;have e:(ń:Int)*get=k*get+get:=ċ
   rw[e];unfold yN;split <;> split <;> (try split) <;> lia
  have gg:∀ k:Nat,g+give+k*give=g+ń*give:=λ k=>by
   rw[Co,Cj];lia
  unfold wI;split
  .rename_i hgb;ext ě
   .rintro⟨e,he,h1,h2⟩;rcases Ak.mp he with rfl | he
    .rw[gv] at h1;rw[gt] at h2;exact#[0,by simpa using h1,?_];unfold yN;split <;> simp at * <;> lia
    .let#[k,k1,k2]:=ih.mp #[e,he,h1,h2];show#[k+1,by rw[<- gg];show k1,by rw[<- mm];show k2]
   .rintro⟨k,k1,k2⟩;cases k with
    | zero=>
     exact#[_,Al,by rw[gv];simpa using k1,?_];rw[gt];unfold yN at k2;split at k2 <;> simp at * <;> lia
    | succ k=>
     let#[e,he,h1]:=ih.mpr #[k,by rw[gg];show k1,by rw[mm];show k2];show#[e,Av _ he,h1]
  .rename_i hgb;ext ě
   .rintro⟨e,he,_⟩;cases he
   ext ĩ
def sQ {pu:Bool}{p q:Ç}:(p.1<=q.1/\p.2<=q.2)↔zR pu p<=zR pu q/\yr pu p<=yr pu q:=by
 cases pu
 .show Iff.rfl
 .show And.comm
def Ku Ö (hA:F.A<=12) (hB:F.B<=12) È9(hb:∀ p∈b,0<=p.1/\0<=p.2) {q:Ç}(hq:Á0):
  zI (qS F s b) q=true↔ ŀ:=by
 have hbr:F.zA s.pu<=12:=by unfold zq.zA;split <;> assumption
 have hqb:õ<=F.zA s.pu:=by unfold zR zq.zA;ext ŋ
 have hq0:0<=õ/\0<=È5:=by unfold zR yr;ext ŋ
 have gv:∀ x y,zR s.pu (yW s.pu x y)=x:=λ x y=>by cases s.pu <;> rfl
 have gt:∀ x y,yr s.pu (yW s.pu x y)=y:=λ x y=>by cases s.pu <;> rfl
 unfold qS;rw[oh,y9];ext ě
 .rintro⟨e,he,n_⟩;let#[p,hp,he]:=B_.mp he;let#[h1,h2]:=Ţ n_;ext Ĝ
  let#[k,k1,k2]:=(eF Č Å3 å g0.2 ⋯ å hqb).mp #[e,he,h1,h2];exact#[k,y9.mpr #[p,hp,Ã5 #[by rw[gv];lia,?_]]];rw[gt];unfold yN at k2;split at k2 <;> lia
 .rintro⟨k,hk⟩;let#[p,hp,n_]:=y9.mp hk;let#[h1,h2]:=Ţ n_;rw[gv] at h1;rw[gt] at h2;ext Ĝ
  let#[e,he,h3]:=(eF Č Å3 (zR s.pu p) (yr s.pu p) g0.2 ⋯ (õ) (È5) hqb).mpr #[k,⋯,Á4];show#[e,B_.mpr #[p,hp,he],Ã5 h3]
def yb è:Nat->É
 | 0=>start F
 | k+1=>(î Î).map λ p=>xi F (yb F k) p
theorem ot è:∀ k,(yb F k).length=Î
 | 0=>by unfold yb start;simp
 | k+1=>by unfold yb;simp
theorem O2 Į Þ (hw:∀ p<Î,ã):yX Ë=(î Î).map λ p=>xi ý p:=by
 exact DA (by rw[rG,s.len];simp) λ i h1 h2=>?_;have hi:i<Î:=by exists h2
 have e:=s.at hi (hw i hi);rw[Bo,A5 h1] at e;exists e
def MX Ÿ (h:uu last fo=[]):fo=last:=by
 exact DA hl λ i h1 h2=>?_;have:i∉uu last fo:=by rw[h];simp
 unfold uu at this;rw[A7] at this;have e:fo.getD i []=â i []:=Classical.byContradiction λ Az=>this #[AQ.mpr h1,by exists Az];rw[Bo,A5 h1,Bo,A5 h2] at e;exists e
theorem bz Į É1 (hw:∀ p<Î,ã):∀ ľ (Fj:È3) (k:Nat) (ĥ:È) (res:È3),St F (yb F k) ĥ->ĥ ≠[]->Fj=(î k).map (yb F)->
  rB F n Fj (yb F k) ĥ=↑res->∃ m,res=(î (m+1)).map (yb F)/\yb F (m+1)=yb F m
 | 0,_,_,_,_,_,_,_,h=>by cases h
 | n+1,Fj,k,ĥ,res,s,hf,ht,h=>by
  unfold rB at h;rw[Ū hf] at h;dsimp only at h;have e:yX F (yb F k) ĥ=yb F (k+1):=O2 s hw;have et:Fj++[yb F k]=(î (k+1)).map (yb F):=by rw[ht,List.range_succ,Bz];rfl
  rw[e,et] at h;split at h
  .rename_i BU;cases h;show#[k,rfl,MX (by rw[ot,ot]) BU]
  .rename_i BU;have s':=s.next ok;rw[e] at s';show bz ok hw n _ (k+1) _ res s' BU rfl h
def y6 è ů:Prop:=Á0
def tw è ů (w:Wy):Â (Ç):=if q.1+w.a<0\/q.2+w.b<0 then none else ↑(min (q.1+w.a) F.A,min (q.2+w.b) F.B)
def xj è ğ ů (w:Wy):Bool:=match tw F q w with
 | none=>č
 | some r=>zI ő r
def qq è İ:List Wy:=Æ3
def uc è (s:Sl):Nat->Ç->List (Ç)
 | 0,q=>[q]
 | n+1,q=>q::if s.gv<=õ then uc F s n (yW s.pu (õ-s.gv) (Ĩ)) else []
def yR è İ ů:List (Ç):=match F.Ff p with
 | none=>[q]
 | some s=>uc F s 20 q
def mh è ğ İ ů:Bool:=
 if F.os.getD p č=true then (yR F p q).any λ r=>(qq F p).any (xj ý r) else (qq F p).all (xj ý q)
def Kb í È9(hb:Ē) (x y:Int):zI b (min x A,min y B)=zI b (x,y):=by
 rw[Bk,y9,y9];ext ě
 .ext ó;ext ġ
 .ext ó;have:=Ã6;ext ġ
def Ni Į Å6 ů:xj ý q w=zI ő (q.1+w.a,q.2+w.b):=by
 unfold xj tw;by_cases h:q.1+w.a<0\/q.2+w.b<0
 .rw[ú h]
  symm
  rw[<- Bool.not_eq_true,y9];ext ó;have:=Ã6;ext É0;lia
 .rw[Ū h];show Kb hb å
def kI Į Å6 {q:Ç}(hq:y6 F q):zI (qc ĭ w.a w.b ő) q=xj ý q w:=by
 rw[Ni hb,Bk];show Jw (λ p hp=>#[(Ã6).1.1,(Ã6).2.1]) hq
def f_ Đ:zI (uN À6) q=(qq F p).any (xj ý q):=by
 rw[Bk,uN,ee,Bg];ext ě
 .rintro (h | ⟨c,hc,h⟩)
  .cases h
  .unfold xJ at hc;ext ę;show#[w,hw,by rw[<- À2];show h]
 .rintro⟨w,hw,h⟩;show ļ #[_,Ĥ,by rw[À2];show h]
def KZ Đ:zI (mY À6) q=(qq F p).all (xj ý q):=by
 rw[Bk,mY,eQ,BN];ext ě
 .rintro⟨_,h⟩ w hw;rw[<- À2];show h _ (Ĥ)
 .intro h;exact#[Ke.mpr #[hq.1.1,hq.2.1],λ c hc=>?_];unfold xJ at hc;ext ę;rw[À2];show h w hw
def vW Ā (x y:Int):zR Ã1=x:=ĸ
def sP Ā (x y:Int):yr Ã1=y:=ĸ
def nu Ā ů:yW pu (zR pu q) (yr pu q)=q:=ĸ
def vn Į{pu:Bool}{q:Ç}:y6 F q↔(0<=zR pu q/\zR pu q<=F.zA pu)/\0<=yr pu q/\yr pu q<=F.zA (!pu):=by
 unfold y6 zq.zA;cases pu
 .show Iff.rfl
 .show And.comm
theorem jn Ö:∀ ľ {q:Ç},y6 F q->∀ r∈uc F s n q,y6 F r
 | 0,q,h,r,hr=>by cases Au.mp hr;show h
 | n+1,q,h,r,hr=>by
  unfold uc at hr;rcases Ak.mp hr with rfl | hr
  .show h
  .split at hr
   .rename_i hg;exact jn hs n ?_ r hr;have h':=Ŧ h;rw[vn (pu:=s.pu),vW,sP];lia
   .cases hr
theorem YS Ö È9(hb:Gd ĭ b):∀ ľ {q:Ç},y6 F q->õ<n->
  ((ŀ)↔(uc F s n q).any (zI b)=true)
 | 0,q,h,hn=>by
  have:=(Ŧ h).1.1;lia
 | n+1,q,h,hn=>by
  have h':=Ŧ h;have cut:∀ x y,zI b (yW s.pu x y)=zI b (yW s.pu x (min y (F.zA (!s.pu)))):=λ x y=>by
   rw[Bk,y9,y9];ext ě
   .rintro⟨p,hp,h1⟩;ext đ;ext Ĵ
   .rintro⟨p,hp,h1⟩;have h2:=Ţ h1;ext Ĵ
  unfold uc;rw[BE,Ef];by_cases hg:s.gv<=õ
  .rw[ú hg];have hi:y6 F (yW s.pu (õ-s.gv) (Ĩ)):=by
    rw[vn (pu:=s.pu),vW,sP];lia
   have ih:=YS hs hb n hi (by rw[vW];lia);rw[vW,sP] at ih;have sh:∀ k:Nat,zI b (yW s.pu (õ-s.gv-k*s.gv) (Ĩ+k*s.gt))=zI b (yW s.pu (õ-ń*s.gv) (È5+ń*s.gt)):=λ k=>by
    ext Å4
    have e2:(ń:Int)*s.gt=k*s.gt+s.gt:=ċ
    have k0:0<=(k:Int)*s.gt:=Cu ⋯ hs.2;rw[e1,e2,cut,cut (õ-(k*s.gv+s.gv))];congr 2
    .lia
    .lia
   rw[<- ih];ext ě
   .rintro⟨k,hk⟩;cases k with
    | zero=>show ā (Ļ)
    | succ k=>show ļ #[k,by rw[sh];show hk]
   .rintro (hk | ⟨k,hk⟩)
    .show#[0,Ļ]
    .show#[k+1,by rw[<- sh];show hk]
  .rw[Ū hg];ext ě
   .rintro⟨k,hk⟩;cases k with
    | zero=>show ā (Ļ)
    | succ k=>
     exfalso;let#[p,hp,h1]:=y9.mp hk;ext đ;rw[vW] at h2;ext Å4
     have k0:0<=(k:Int)*s.gv:=Cu ⋯ ⋯;rw[e1] at h2;lia
   .rintro (hk | hk)
    .show#[0,Ļ]
    .cases hk
)
example:=`(
example À _:=x rfl rfl
example Á:=(ze À rfl)
example Â:=(cI 0)
example Ã:=.int
example Ä:=(cI 1)
example Å:=Int×Int
example ú:=(zc 0)
example Æ _:=x zh ú
example Ç:=F.os.length
example È:=false
example ŧ:=fr.contains w.t
example É:=(F.ws.filter λ w=>ŧ).map λ w=>(w.f:Int)
example Ê:=["Keeper"]
example Ë:=(zc 1)
example Ì:=(ze (ze À (xP ())) rfl (yw ()))
example Í:=(of_decide_eq_true rfl)
example Î:=(by simp;lia)
example Ï:=(qs.getLast?.map (·.2))
example Ð:=(zc 3)
example Ñ:=(zi 0)
example Ò:=(zc 2)
example Ó:=Option
example Ô:=(cI 2)
example Õ _:=x none none
example Ö:=.lst
example Ã8:=(zi 3)
example Ø:=(za Ã8 zf)
example Ù:=if_pos
example Ú:=(.str "keeper")
example Û _:=x (retS (cS (.bl È))) yk
example Ü:=(k:Int)
example Ý:=List (Å)
example Þ:=T.int
example ß:=(zi 1)
example Ŏ{F:zq}:=0
example à Ŏ(ok:F.Ok):=0
example á:=List Bd
example Ť _:=x (Ã c) (nT most) (nT zA)
example â _:=x Ť xs (1+r) (os.map kt)
example ã:=(zb Æ Â)
example û:=.tup
example ä:=û [Ã F.A,Ã F.B]
example å:=by obtain⟨m,rfl⟩:∃ k,m=k+1:=#[m-1,⋯]
example æ _:=x xN (cI 10)
example ç:=congrArg
example è:=List Int
example ć:=zC F
example Å1:=oS [Ã c,nT most,nT zA]
example ģ:=F.ss.Pairwise (λ a b=>a.p≠b.p)
example é:=∃ F:zq,Å1=↑(ć)/\F.Ok/\(∀ x<Ç,∃ w∈F.ws,w.f=x)/\ģ
example ê:=List.range
example ë:=(zU È)
example ì:=(x8 Ê 0 "stand")
example í:=(cI 3)
example ą:=(zi 2)
example î:=(za ß (za ą zf))
example ï:=sC [Ö (GS.map zX)]=↑(Ö (F8.map zX))->F8.length<=24->Å1=↑(zC #[A,B,os,F8,ss])
example ð(F:zq):=0
example Ř:=vn (pu:=s.pu).mp
example œ:=F.zA s.pu
example ñ:=by have:=Ř hq;have:œ<=12:=by have:=ok.a1;have:=ok.b1;unfold zq.zA;split <;> assumption
example ò:=(by rw[e];simp)
example ó _:=x zh Ë
example ô:=(cS .zp)
example õ:=(yf (zy 6) (yf (zy 7) wa))
example ö:=(za Ñ (za ß zf))
example ø _:=x (zQ (zb ë (ji 3) Ô)) (wg 4 (tupS (za (zi 5) (za (zt rL (za (mI 3 Â) (za (mI 3 Ä) zf))) zf)))) yk
example ś:=(zy 0)
example ù:=(xD 2 (yf ś (yf (zy 1) wa)))
example ü _:=x (ze (ze (ze À hv0) rfl (xP ())) rfl (yw ())) rfl
example ý _:=x F last
example ı:=vB (l s) x.2
example þ:=∃ w∈sF (l (!s)) sh x.1 (ı),(w.1<=y.1\/w.1<=z.1)/\(w.2<=y.2\/w.2<=z.2)
example ÿ:=(zb Æ Ô)
example ų:=(ps.map zu)
example Ā:=(.im (Ö ų))
example ā:=(λ z=>↑(T.bl z))
example ě:=(za (zi 5) zf)
example ĺ:=(za (zi 5) (za (zi 6) zf))
example Ă _:=x (zQ (zb ë Ð Â)) (tupS ĺ) (tupS (za (zi 6) ě))
example ă:=p.length
example Ą:=∀ o,_->cu [im (ä),im (yE s),im (zu q),im (nT k),none,none,none]=o
example Ć:=(zc 5)
example Ĉ:=(zb Æ Ä)
example ĉ:=(zc 4)
example ŋ:=(zi 4)
example Ċ:=(za ŋ zf)
example ċ:=decide
example Č:=RN.start F
example č:=zR s.pu q
example Ď:=if_neg
example ď:=(zc 7)
example Đ:=(ve F p).find? (λ wi=>xj F l r wi.1)
example đ:=(zb zh Ð Ä)
example Ē:=(.bl true)
example ē:=List T
example Ĕ:=p++[rk s x]
example ĕ:=(ws.map zX)
example Ė:=fr.map λ(k:Nat)=>Þ Ü
example ė:=ws.length
example Ę:=(ss.map yE)
example ę _:=x (Ã i) (Ã j)
example Ě _:=x c mo br xs many (os.map kt++[kt b])
example Ĝ:=.own
example ĝ:=Bool->Ó Int
example Ğ:=Ö (bs.map bT)
example ğ:=(n:Int)
example Ġ:=l.length
example ġ:=List Wy
example Ħ _:=x F.A F.B
example Ģ:=Gd Ħ b
example Ĥ:=∀ r,qs++yH r Ï=yH (p++r) none
example ĥ:=(za Ñ zf)
example ħ:=(zb zh Ð Â)
example Ĩ:=[↑a0,↑a1,none,none,none,none,none,none]
example ĩ:=(p:Int)
example Ī:=(yW s.pu (č-s.gv) (min (yr s.pu q+s.gt) (F.zA (!s.pu))))
example ī:=eq_int
example Ĭ:=λ w=>ċ (w.f=p)
example ĭ:=(ze À (yw ()))
example Į:=by have g2:Gd A B x:=h x ò;have l1:=g1.rM hA.1;have l2:=g2.rM hA.1
example į:=λ wi=>ċ (wi.1.f=p)
example İ:=(za (cS (.str "taker")) zf)
example Ĳ:=(zJ (ze (ze À CJ) rfl t1))
example Ä2:=F.ws.map zX
example ť:=L2.zT
example ĳ:=ť (Ä2) (i:Int)
example Ĵ(p:Nat):=0
example ĵ:=(zU true)
example Ķ:=F.os.getD p È
example ķ:=(zb ó Â)
example ĸ:=(zb ó Ä)
example Ĺ:=(za Ë zf)
example Ļ:=(za Â (za Â zf))
example ļ:=List Nat
example Ľ:=[û [Ã 0,Ã 0]]
example ľ:=λ k:Nat=>Þ (0+Ü)
example Ŀ:=((ws++new).map zX)
example Ų:=(zc 6)
example ŀ _:=x 3 Ų (zt wR (za ď (za (ei 3 Ų (zi 7)) zf)))
example Ł _:=x (is:=[2]) (g:=zy 2)
example ł:=(tupS (za í (za í zf)))
example Ń:=(x8 Ê 0 "floor")
example ń:=by dsimp only;lia
example Ä8:=im (nT p)
example Ä7:=im (ć)
example Ņ:=[Ä7,Ä8,im (rT l),none,none]
example ņ:=pre++[last]
example Ň:=(im (nT k))
example ň:=(xs.map Þ)
example ŉ{p:Nat}(hp:p<Ç):=0
example Ŋ:=(cI 4)
example Ō:=xS (by rw[AE,hw];rfl)
example ō:=by subst h2;show yp (zr (zH rfl) (zr (wF rfl h1) rfl)) rfl
example ŏ:=(retS ô)
example Ő:=(zQ (zb (wB È) ď ô))
example ő:=ç List.length e
example Œ:=(λ z=>↑(Þ z))
example Ŕ:=((r::rs).map yM)
example ŕ:=1<=s.gv/\0<=s.gt
example Ŗ _:=x ya (zb æ (cI 45)) (cI 9)
example ŗ{g:T->Ev->Ó Ev}:=0
example ř:=(zb ó Ô)
example Ś:=(cI 8)
example Ŝ:=List W->Ó T
example ŝ:=(b.map zu)
example Ş:=(yt is ρ)
example ş:=#[⋯,⋯]
example Š:=by simp[zC]
example š:=yb F m
example Ţ{ρ:Ev}:=0
example ţ(n:Nat):=0
example Ŧ:=by cases pu <;> rfl
example Ũ:=(za (zb zh ã Â) zf)
example ũ:=(za (zb zh ã Ä) zf)
example Ū:=[↑(.im (ć)),↑(.im (Ã p)),none]
example ū:=(v*52027+v/q22+13*Ü)
example Ŭ:=û [û [Ã 0,Ã A],û [Ã 0,Ã B]]
example ŭ _:=x zh Ò
example Ů{α:Type}(enc:α->T):=0
example ů _:=x rfl (ze À (eK F s.pu))
example Ű:=if Ü*s.gv<=č then ↑(uT F s q k) else none
example ű:=wR [Ã y,(xb d (.inl k)).getD (Ã y)]
example Ŵ:=(vB (l s) y.2)
example ŵ:=û [Ã w.f,Ã w.t,Ã w.a,Ã w.b]
example Ŷ:=yX ý fr
example ŷ:=λ(k:Nat)=>Þ (0+Ü)
example Ÿ(q:Å):=0
example Ź _:=x Á rfl
example ź:=(xp zf)
example Ż:=List (è)
example ż:=List α
example Ž:=xs.length
example ž:=ws.map vd
example ſ{i j:Int}:=0
example À0:=yH (p++[x]++r) none
example À1:=bd.map (xA w.a w.b)
example À2:=zh (ć) (Ã 3)=↑(û (F.ss.map yE))
example À3:=(yD (zo rfl (zo (ze Á À) rfl)) Í)
example À4:=(zb zh ì Â)
example À5:=(rows.map yM)
example À6:=(F.os.map kt)
example À7(b o:Ý) (hl:b.length+o.length<256):=0
example À8{a0 a1 a2:W}{d:List (Key×T)}{S:ē}:=0
example À9(b c:Bd) (hl:b.length+c.length<256):=0
example Á0:=λ c hc=>h c (by rw[e];simp[hc])
example Á1:=["borders","joined","border"]
example Á2:=(Option.bind · _)
example Á3:=wU is c b (n+1) ρ
example Á4 _:=x 2000 [] (Č) (ê Ç)
example Á5{i:Nat}{w:Wy}(hw:F.ws[i]?=↑w):=0
example Á6 _:=x (t9 Ê "steps" ["self"] cw 5) (zc 8)
example Á7:=[8,9,10,11]
example Á8:=(za ą Ø)
example Á9:=L4.xo rows
example Â0:=List (á)
example Â1:=(Ö ((o.map (rk true)).map yM))
example Â2:=(wi.2:Int)
example Â3 _:=x (zJ Á) rfl
example Â4:=(Ĝ (.yv d))
example Â5:=(Ö ((F.ws.filter Ĭ).map zX))
example Â6:=0<q/\q<2 ^ 200
example Â7(bs:á) (h:∀ b∈bs,Gd A B b):=0
example Â8:=(t9 Ê "where" ["self"] cv 5)
example Â9:=(Ö ((b.map (rk È)).map yM))
example Ã0:=by rw[List.foldl_append];rfl
example Ã1:=w.f=pl/\w.t<many
example Ã2 _:=x yI (zc 9)
example Ã3 _:=x [3,4] (yT Ò) jw
example Ã4 _:=x c mo br xs many (os.map kt) ĕ Ę
example Ã5:=(zr (wF (nU rfl ⋯) e) rfl)
example Ã6 _:=x [] (zQ (zb oj Ć (zb Æ Ð))) Xv
example Ã7:=(xk (zb Æ í))
example Ã9:=(cS Ú)
example Ä0:=l true
example Ä1:=(zJ (ze À ht))
example Ä3:=(p.foldl tM [])
example Ä4:=(p.foldl uU xT)
example Ä5:=(zw rfl (dF F))
example Ä6:=l.getD p []
example Ä9:=(zJ (ze (ze Ź ho) rfl tk))
example Å0:=(qT Ĳ (zJ (ze Ì rfl t2)))
example Å2(m:Nat):=0
theorem O1 à {last:á}(hg:∀ p,Gd Ħ (last.getD p [])) Ĵ {q:Å}(hq:y6 F q):zI (xi ý p) q=mh ý p q:=by
 have ge:Gd Ħ (uN (xJ ý p)):=mC _ _ Gd.nil (j0 ý p);unfold xi mh yR;by_cases ho:Ķ=true
 .rw[Ù ho,Ù ho];cases hs:F.Ff p with
  | none=>simp![BE,List.any_nil,Bool.or_false];show f_ hg hq
  | some s=>
   have FQ:=ok.ss s (CM hs);have hgv:č<20:=by
    ext ñ
    lia
   rw[Bk];dsimp only;rw[Ku FQ ok.a1 ok.b1 (λ p hp=>#[(ge.yY p hp).1.1,(ge.yY p hp).2.1]) hq,YS FQ ge 20 hq ⋯,Bg,Bg];constructor
   .rintro⟨r,hr,h⟩;show#[r,hr,by rw[<- f_ hg (jn FQ 20 hq r hr)];show h]
   .rintro⟨r,hr,h⟩;show#[r,hr,by rw[f_ hg (jn FQ 20 hq r hr)];show h]
 .rw[Ď ho,Ď ho];show KZ hg hq
end RN
namespace zM
open PySem L2 L3 L5
abbrev cq:Sm:=
 (retS (tX (Ft "int" ú) (gJ (Ft "bool" ú))))
def p8:Am:=zO ["thing"] 1 cq
abbrev Ws:Sm:=
 (retS (zt xx (za Ĉ zf)))
def oQ:Am:=zO ["floor"] 1 Ws
abbrev WB:Sm:=
 (retS (tX (zb o8 ã ķ) (zb o8 Ĉ ĸ)))
def lB:Am:=zO ["pair","other"] 2 WB
abbrev m_:Sm:=
 (z_ (vp (wc (yT Ë)) (zQ (zb ltI (zb ŭ Ä) (zb zh (zb ó (nG Ä)) Ä)))) (wg 1 ą) yk)
abbrev Wu:Sm:=
 (zm (vv 1 ź)
 (zm (xG [2] (xk (zt r9 (za ú zf))) (zy 2) m_)
 (retS (zt rl Ĺ))))
def px:Am:=zO ["pairs","least","pair"] 1 Wu
abbrev Xv:Sm:=
 (zm (wg 4 (fq Ă))
 (zm (zF 5 (zb ya Ć ř))
 (zF 6 (zt rL (za Â (za (zb yB Ų (zb ó í)) zf))))))
abbrev Ii:Sm:=
 (zm (zF 3 ĸ)
 (zm (vv 4 ź)
 (zm (zF 5 (zb ŭ Ð))
 (zm (zF 6 (zb ŭ (zb yB Ä Ð)))
 (zm (lM 1000000 Ã6)
 (qz 4))))))
def dG:Am:=zO ["brims","stall","pair","purse","pairs","given","got"] 3 Ii
abbrev Wq:Sm:=
 (zm (zF 3 (ba (zb zh ÿ Ò)))
 (zm (zF 4 (zb ya ķ ħ))
 (zm (zF 5 (zb ya ĸ đ))
 (zm (z_ (vp (zQ (zb ltI ĉ Â)) (zQ (zb ltI Ć Â))) ŏ yk)
 (retS (tupS (za (zt wR (za ĉ Ũ)) (za (zt wR (za Ć ũ)) zf))))))))
def lu:Am:=zO ["floor","pair","way","coins","first","second"] 3 Wq
abbrev cu:Sm:=
 (zm (zF 4 ĸ)
 (zm (zF 5 (zb yB (zb ŭ ĉ) (zb xg Ð ř)))
 (zm (z_ (zQ (zb ltI Ć Â)) ŏ yk)
 (zm (zF 6 (zt wR (za (zb ya (zb ŭ (zb yB Ä ĉ)) (zb xg Ð (zb ó í))) (za (zb Æ (zb yB Ä ĉ)) zf))))
 (zm (z_ (zQ (zb ë ĉ Â)) (retS (tupS ĺ)) yk)
 (retS (tupS (za (zi 6) ě))))))))
def l9:Am:=zO ["brims","stall","pair","times","purse","left","got"] 4 cu
abbrev Wz:Sm:=
 (zm (z_ (zQ (zb ltI Ë (zt xx (za ú zf)))) (retS (zb Æ Ë)) yk)
 (retS Â))
def sZ:Am:=zO ["_law_script","_law_k"] 2 Wz
abbrev Xx:Sm:=
 (zm (wg 2 (zb zS Ð (zb æ (cI 6))))
 (zF 3 (zb qK Ð (zb æ (cI 6)))))
abbrev eW:Sm:=
 (zm (zF 3 (zb zS (zb ya (zb ya (zb nH Ð (cI 52027)) (zb qK Ð (zb æ (cI 22)))) (zb nH (cI 13) ĉ)) (zb Ŗ)))
 (wg 2 (zb qK (zb nH Ð (zb ya (zb qK Ð (zb æ (cI 23))) (cI 7))) (zb æ (cI 9)))))
abbrev Wv:Sm:=
 (zm (vv 2 ź)
 (zm (zF 3 (zt j7 (za (zb qK ú Ô) zf)))
 (zm (z_ (zQ (zb ë (zb zS ú Ô) Ä)) (zm (xG [4] (wW v9 Ĺ) (zy 4) Xx)
 (qz 2)) yk)
 (zm (zF 3 (zb ya (zb zS Ð (zb Ŗ)) (cI 77003)))
 (zm (xG [4] (wW v9 Ĺ) (zy 4) eW)
 (qz 2))))))
def jL:Am:=zO ["_law_cell","_law_count","_law_found","_law_number","_law_k"] 2 Wv
abbrev Iv:Sm:=
 (retS (zt wR (za (cI 12) (za (zb ya (zb yB (zb zS (zb zS ú (cI 25)) (zb ya (zb xg Ô Ë) Ä)) Ë) (zb zS (zb yI ú (cI 25)) Ô)) zf))))
def jO:Am:=zO ["_law_number","_law_most"] 2 Iv
abbrev Ip:Sm:=
 (retS (zb zh (xp (za ł (za (tupS (za Ô (za Ŋ zf))) (za (tupS (za Ŋ (za Ô zf))) (za (tupS (za Ä (za (cI 6) zf))) (za ł (za (tupS (za Ô (za í zf))) (za (tupS (za Ś (za Ä zf))) (za ł (za (tupS (za Ô (za Ŋ zf))) (za (tupS (za Ŋ (za Ô zf))) zf))))))))))) (zb zS ú (cI 10))))
def jM:Am:=zO ["_law_number"] 1 Ip
abbrev jx:Sm:=
 (z_ (rV (zQ (zb ë Ų Ë)) (zQ (zb ma Ð Â))) (zm (nN 5 ď (zb yB (zb ŭ ď) (zb xg Ð (zc 8))))
 (nN 5 (zb yB Ä ď) (zt wR (za (zb zh ã (zb yB Ä ď)) (za (zb ya (zb ŭ (zb yB Ä ď)) (zb xg Ð (zc 9))) zf))))) yk)
abbrev W2:Sm:=
 (zm (vv 5 (zt listS (za Ò zf)))
 (zm (xG [6,7,8,9] Ã7 (xD 4 (yf (zy 6) (yf (zy 7) (yf (zy 8) (yf (zy 9) wa))))) jx)
 (zm (vv 5 (tupS (za (zb ya (zb zh Ć Â) (zb zh (zb zh ÿ ĉ) Ô)) (za (zb ya (zb zh Ć Ä) (zb zh (zb zh ÿ ĉ) í)) zf))))
 (zm (z_ (zQ (zb ltI (zt nI (za Ć zf)) Â)) ŏ yk)
 (retS (tupS (za (zb zh (zb zh ÿ ĉ) Ä) (za (tupS (za (zt wR (za (zb zh Ć Â) Ũ)) (za (zt wR (za (zb zh Ć Ä) ũ)) zf))) zf))))))))
def dS:Am:=zO ["_law_floor_here","_law_place","_law_pair","_law_times","_law_way_here","_law_held_here","_law_start_here","_law_purse","_law_give","_law_get"] 5 W2
abbrev e_:Sm:=
 (z_ (zQ (zb ë ĉ Ë)) (retS (zb oj (zb xg Ð Ų) (zb ŭ Ć))) yk)
abbrev W0:Sm:=
 (zm (z_ (vp (wc (yT (Ft "int" Ð))) (vp (yT (Ft "bool" Ð)) (zQ (zb ltI Ð Â)))) Û)
 (zm (xG [4,5,6,7] Ã7 (xD 4 (yf (zy 4) (yf (zy 5) õ))) e_)
 (retS (zb ë Ð Â))))
def dR:Am:=zO ["_law_floor_here","_law_place","_law_pair","_law_times","_law_start_here","_law_purse","_law_give","_law_get"] 4 W0
abbrev KQ:Ae:=
 xE [none,↑0,↑1] (wW v9 (za (zt xx (za ÿ zf)) zf)) ś (zQ (zb ë (zb zh (zb zh ř ú) Â) Ò)) Ñ
abbrev Im:Sm:=
 (retS KQ)
def ly:Am:=zO ["_law_floor_here","_law_place"] 2 Im
abbrev jq:Ae:=
 xE [none,none,↑1] (xk ú) ù u4 (tX (zb o8 (zb ŭ Â) ú) (zb o8 (zb ŭ Ä) Ë))
abbrev Wx:Sm:=
 (retS (zt (mX λ bs=>bs.any id) (za jq zf)))
def ql:Am:=zO ["_law_border","_law_pair"] 2 Wx
abbrev cp:Sm:=
 (zm (zF 3 (zb zS Ò (zt xx (za Ĉ zf))))
 (zm (zF 4 (tupS (za (zb zS (zb yI Ò (cI 10)) (zb ya (zb zh ã Â) Ä)) (za (zb zS (zb yI Ò (cI 1000)) (zb ya (zb zh ã Ä) Ä)) zf))))
 (zm (zF 5 (zb ó Ð))
 (zm (z_ (rV (zQ (zb ĵ Ć (tupS zf))) (zQ (zb ma (zb zS (zb yI Ò (cI 100000)) í) Â))) (zm (qv (zb zh Ć (zb zS (zb yI Ò (zb æ (cI 6))) (zt xx (za Ć zf)))) (xD 2 õ))
 (zF 4 (tupS (za (zt rL (za Â (za (zb yB Ų (zb yI (zb zS (zb yI Ò (zb æ Ś)) (cI 5)) Ŋ)) zf))) (za (zt rL (za Â (za (zb yB ď (zb yI (zb zS (zb yI Ò (zb æ (cI 9))) (cI 5)) Ŋ)) zf))) zf))))) yk)
 (retS (tupS (za Ã8 Ċ)))))))
def dN:Am:=zO ["_law_floor_here","_law_told","_law_number","_law_place","_law_pair","_law_border","_law_x","_law_y"] 3 cp
abbrev cv:Ae:=
 ì
abbrev cw:Ae:=
 (x8 Ê 0 "done")
abbrev W4:Sm:=
 (retS (tX (zt p8 ĥ) (YV oj oj Ë ú Ò)))
def pz:Am:=zO ["thing","least","most"] 3 W4
abbrev W6:Sm:=
 (retS (tX (zt p8 ĥ) (zb o8 ú Â)))
def jQ:Am:=zO ["thing"] 1 W6
abbrev jt:Ae:=
 xE [none,↑1] (xk ú) ś u4 (zt lB (za ß ĥ))
abbrev W7:Sm:=
 (retS (zt (mX λ bs=>bs.any id) (za jt zf)))
def jR:Am:=zO ["border","pair"] 2 W7
abbrev Xe:Ae:=
 xE [none] (xk ú) ś u4 (tupS (za ã (za Â (za Ĉ zf))))
abbrev Y_:Ae:=
 xE [none] (xk Ë) ś u4 (tupS (za ã (za Ä (za Ĉ zf))))
abbrev Xy:Sm:=
 (zm (eg ŀ)
 (z_ ø))
abbrev IB:Sm:=
 (zm (zF 2 (zb ya Xe Y_))
 (zm (Yv 3)
 (zm (vv 4 ź)
 (zm (xG [5,6,7] (xk (zt r9 (za Ò zf))) (xD 3 (yf (zy 5) õ)) Xy)
 (fM 4 (retS (zt px Ċ)))))))
def jS:Am:=zO ["border","other","steps","lows","shared","first","side","second"] 2 IB
abbrev W8:Sm:=
 (retS (zt px (za (zb ya (zt listS (za ú zf)) (zt listS Ĺ)) zf)))
def l7:Am:=zO ["border","other"] 2 W8
abbrev eJ:Ae:=
 xE [none,↑1] (xk Ò) ś u4 (tupS (za (zt rL (za Â (za (zb yB ã ř) zf))) (za (zt rL (za Â (za (zb yB Ĉ (zb ó í)) zf))) zf)))
abbrev KN:Ae:=
 xE [none,↑0] (xk Ð) ś (yT (zt lB (za ß ĥ))) Ñ
abbrev IG:Sm:=
 (zm (zF 3 eJ)
 (retS (zt px (za KN zf))))
def cg:Am:=zO ["brims","way","border","pairs"] 3 IG
abbrev Io:Sm:=
 (retS (tupS (za Ñ (za (zb zS (zb zS Ò Ś) Ë) (za (zt jO (za (zb zS (zb yI Ò Ś) (cI 50)) Ø)) (za (zt jO (za (zb zS (zb yI Ò (cI 400)) (cI 50)) Ø)) zf))))))
def jK:Am:=zO ["_law_place","_law_many","_law_number","_law_size"] 4 Io
abbrev Iu:Sm:=
 (zm (zF 1 (zt jL (za Ñ (za (cI 9) zf))))
 (zm (zF 2 (tupS (za (zb ya Ś (zb zS ķ (cI 5))) (za (zb ya Ś (zb zS ĸ (cI 5))) zf))))
 (zm (zF 3 (zb ya Ś (zb zS ř (zb yB (zt nI (za Ò zf)) (cI 7)))))
 (zm (zF 4 (zb zS (zb ó í) Ô))
 (zm (qv (zb zh (xp (za (tupS (za Ã8 (za (zb yB Â Ð) zf))) (za (tupS (za (zb yB Â Ð) Ø)) zf))) ĉ) (xD 2 (yf (zy 5) (yf (zy 6) wa))))
 (zm (zF 7 (iW (tupS (za Ã9 (za (zb zh (xp (za Ã9 İ)) (zb zS (zb yI (zb ó Ŋ) Ô) Ô)) zf))) none ↑(zb ya Ä (zb zS (zb ó Ŋ) Ô))))
 (zm (vv 8 (xp (za (tupS (za Â (za (zb yB (zt xx (za ď zf)) Ä) ĺ))) zf)))
 (zm (z_ (zQ (zb ë (zt xx (za ď zf)) Ô)) (wg 8 (tupS (za Ä (za Â Ļ)))) yk)
 (zm (z_ (zQ (zb ë (zb zS (zb ó (cI 5)) Ô) Ä)) (wg 8 (tupS (za Â (za Â (za (zb yB (zb yB Â Ä) (zb zS (zb ó (cI 6)) í)) (za (zb yB Â (zb zS (zb ó (cI 7)) í)) zf)))))) yk)
 (retS (tupS (za ą (za (zi 7) (za (zt rl (za (zt r9 (za (zc 8) zf)) zf)) (za (tupS (za (tupS (za Â (za ŋ (za Ä (za Ä zf))))) zf)) zf)))))))))))))))
def dQ:Am:=zO ["_law_cell","_law_xs","_law_brims","_law_need","_law_purse","_law_a","_law_b","_law_owners","_law_ways_here"] 1 Iu
abbrev Iq:Sm:=
 (zm (z_ (vp (wc (yT (Ft "tuple" Ð))) (vp (zQ (zb ĵ (zt xx (za Ð zf)) Ô)) (wc (yT (zt dR (za Ñ (za ß (za ą (za ħ zf))))))))) Û)
 (zm (z_ (vp (wc (yT (Ft "int" đ))) (yT (Ft "bool" đ))) Û)
 (retS (zb (rP È) đ (zt ly ö)))))
def jN:Am:=zO ["_law_floor_here","_law_place","_law_pair","_law_found"] 4 Iq
abbrev jr:Ae:=
 xE [none,none] (wW ig (za ú Ĺ)) ù u4 (zt pz (za Ñ (za ķ (za ĸ zf))))
abbrev W5:Sm:=
 (zm (z_ (vp (wc (yT (Ft "tuple" ú))) (zQ (zb ĵ (zt xx (za ú zf)) (zt xx Ĺ)))) Û)
 (retS (zt (mX λ bs=>bs.all id) (za jr zf))))
def jP:Am:=zO ["thing","bounds"] 2 W5
abbrev Iz:Sm:=
 (z_ (wc (yT (zt pz (za ß (za Â (za (zb yB (zt oQ ĥ) Ä) zf)))))) qB yk)
def l8:Am:=zO ["floor","place"] 2 Iz
abbrev Xz:Sm:=
 (zF 1 (zt l7 î))
abbrev ID:Sm:=
 (zm (zF 1 (tupS zf))
 (zm (xG [2] (xk Ñ) (zy 2) Xz)
 (retS ß)))
def d_:Am:=zO Á1 1 ID
abbrev X0:Sm:=
 (zF 1 (zt jS î))
abbrev IE:Sm:=
 (zm (zF 1 (tupS (za (tupS Ļ) zf)))
 (zm (xG [2] (xk Ñ) (zy 2) X0)
 (retS ß)))
def cb:Am:=zO Á1 1 IE
abbrev Iw:Sm:=
 (retS (zt pz (za ß (za Â (za (zb yB (zt xx (za ÿ zf)) Ä) zf)))))
def dU:Am:=zO ["floor","thing"] 2 Iw
abbrev Il:Sm:=
 (zm (zF 4 (zt lu (za Ñ î)))
 (retS (tX (zb (wB true) ĉ ô) (zt jR (za (zb zh Ð (zb zh (zb zh ÿ Ò) Ä)) Ċ)))))
def dM:Am:=zO ["floor","pair","way","held","behind"] 4 Il
abbrev eZ:Sm:=
 (wg 6 (zt jK (za (zi 8) (za ŋ (za (zb zh Ð (zb ya (zb ya í (zb xg Ŋ (zc 8))) (zc 11))) (za (zi 10) zf))))))
abbrev jv:Sm:=
 (zm (zF 9 (zb zh Ð (zb ya Ô (zb xg Ŋ (zc 8)))))
 (zm (wg 5 (zb zh (xp (za Ã9 İ)) (zb zS (zc 9) Ô)))
 (zm (zF 10 (zb zh (xp (za Ô (za í (za í (za (cI 12) zf))))) (zb zS (zb Ã2 Ô) Ŋ)))
 (zm (xG [11] (wW v9 (za (zb ya Ä (zb zS (zb Ã2 Ś) í)) zf)) (zy 11) eZ)
 (z_ (rV (zQ (zb ë (zb zh Ć (zc 8)) Ã9)) (zQ (zb ë (zb zS (zb Ã2 (cI 24)) í) Â))) (wg 7 (tupS (za (zi 8) (za (zb zS (zb Ã2 (cI 72)) Ô) (za (zb ya Ä (zb zS (zb Ã2 (cI 144)) Ŋ)) (za (zb zS (zb Ã2 (cI 576)) (cI 5)) zf)))))) yk)))))
abbrev eV:Sm:=
 (wg 6 (zt jK (za (zb zS (zb zS (zb yI ħ (cI 64)) Ś) ĉ) (za ŋ (za (zb zh Ð (zb ya (cI 34) (zc 11))) (za í zf))))))
abbrev Ir:Sm:=
 (zm (zF 3 (zt jL (za Ñ (za (cI 43) zf))))
 (zm (zF 4 (zb ya Ä (zb zS ħ Ë)))
 (zm (vv 5 ź)
 (zm (vv 6 ź)
 (zm (vv 7 ź)
 (zm (xG Á7 (wW v9 (za ĉ zf)) (zy 8) jv)
 (zm (z_ (zQ (zb ë (zb zS (zb yI ħ Ś) Ś) Ä)) (xG [11] (wW v9 (za (zt wR (za (cI 9) (za (zb yB (cI 24) (zt xx (za Ų zf))) zf))) zf)) (zy 11) eV) yk)
 (zm (zF 12 (tupS (za (zb zS đ (zb ya Ò Ä)) (za (zb zS (zb yI đ (cI 13)) (zb ya Ò Ä)) zf))))
 (retS (tupS (za (zi 12) (za (zt rl (za Ć zf)) (za (zt rl (za (zt sC (za Ų zf)) zf)) (za (zt rl (za ď zf)) zf))))))))))))))
def oS:Am:=zO ["_law_cell","_law_most","_law_brim","_law_xs","_law_many","_law_owners","_law_ways_here","_law_stalls","_law_place","_law_number","_law_size","_law_k","_law_brims"] 3 Ir
abbrev IL:Sm:=
 (z_ (vp (zQ (zb (wB È) ì ô)) (zQ (zb ĵ (zb zh (zb zh Ń Ä) À4) Ë))) qB yk)
def jY:Ŝ:=wz ["self","owner"] 2 [0] IL
abbrev IA:Sm:=
 (z_ (wc (yT (zt jP (za ß (za (tupS (za (tupS (za Â Ũ)) (za (tupS (za Â ũ)) zf))) zf))))) qB yk)
def dY:Am:=zO ["floor","pair"] 2 IA
abbrev KO:Ae:=
 xE [none,none,↑1] (wW jf (za ÿ zf)) ù (zQ (zb ë ķ Ò)) Ñ
abbrev Ig:Sm:=
 (zm (qM (zt l8 ö))
 (retS KO))
def lr:Am:=zO ["floor","place"] 2 Ig
abbrev mZ:Sm:=
 (z_ (zQ (zb ë (zb ŭ Â) Ë)) (retS ą) yk)
abbrev Wr:Sm:=
 (zm (qM (zt l8 ö))
 (zm (xG [2] Ã7 (zy 2) mZ)
 ŏ))
def pk:Am:=zO ["floor","place","stall"] 2 Wr
abbrev Iy:Sm:=
 (z_ (vp (wc (yT (zt dU (za Ñ (za ą zf))))) (zQ (zb ĵ (zb zh (zb zh ÿ Ò) Â) Ë))) qB yk)
def dX:Am:=zO ["floor","place","way"] 3 Iy
abbrev X2:Sm:=
 (jd 4 (zt dG (za ã (za Ã8 ě))))
abbrev IH:Sm:=
 (zm (zF 3 (zt pk ö))
 (zm (z_ (zQ (zb (wB È) Ð ô)) (retS ą) yk)
 (zm (vv 4 ź)
 (zm (xG [5] (xk ą) (zy 5) X2)
 (fM 4 (retS (zt px Ċ)))))))
def cj:Am:=zO ["floor","place","border","stall","pairs","pair"] 3 IH
abbrev ic:Sm:=
 (zm (z_ (zQ (zb ë Ð Â)) (retS (tupS (za (zb ŭ Â) (za (zb ŭ Ä) zf)))) yk)
 (zm (zF 4 (zt pk ö))
 (zm (z_ (zQ (zb (wB È) ĉ ô)) ŏ yk)
 (retS (zt l9 (za ã (za ŋ Á8)))))))
def p9:Am:=zO ["floor","place","pair","times","stall"] 4 ic
abbrev cx:Ae:=
 (zb zh (zt lr (za Ń (za À4 zf))) Â)
abbrev Xc:Ae:=
 xE [none,↑0] (xk (zt lr ö)) ś u4 (zb zh ř ú)
abbrev YZ:Ae:=
 xE [none,↑0,↑2] (xk Ð) ś u4 (zt cg (za ķ (za Ñ (za (zb ŭ Ĉ) zf))))
abbrev Wt:Sm:=
 (zm (zF 3 Xc)
 (zm (zF 4 YZ)
 (zm (z_ (zQ (zb ë (zb zh Ĉ Ë) Ã9)) (retS (zt cj (za Ñ (za ß (za (zt d_ Ċ) zf))))) yk)
 (retS (zt cb Ċ)))))
def dI:Am:=zO ["floor","place","last","ways","ahead"] 3 Wt
abbrev Ik:Sm:=
 (zm (z_ (wc (yT (zt jQ Ø))) qB yk)
 (zm (zF 4 (zt p9 (za Ñ (za ß Á8))))
 (zm (z_ (zQ (zb (wB È) ĉ ô)) qB yk)
 (retS ŋ))))
def dJ:Am:=zO ["floor","place","pair","times","ready"] 4 Ik
abbrev da:Sm:=
 (z_ (yT (zt dM (za Ñ (za (zi 6) (za (zi 7) Ø))))) (retS (tupS (za (zi 5) (za (zi 7) zf)))) yk)
abbrev Xu:Sm:=
 (zm (xG [7] (xk ŋ) (zy 7) da)
 (zm (zF 5 (zb ya Ć Ä))
 (zF 6 (zt p9 (za Ñ (za ß (za ą ě)))))))
abbrev W9:Sm:=
 (zm (zF 4 (zt lr ö))
 (zm (zF 5 Â)
 (zm (zF 6 ą)
 (zm (lM 1000000 [7] (zQ (zb (wB true) Ų ô)) Xu)
 ŏ))))
def dW:Am:=zO ["floor","place","pair","held","ways","times","ready","way"] 4 W9
abbrev Xb:Ae:=
 xE [none,↑2] (xk ÿ) ś (zQ (zb (rP È) Ĉ Ë)) ã
abbrev Xw:Sm:=
 (nN 3 ĉ (zt dI (za Ñ (za ŋ (za ß zf)))))
abbrev Ij:Sm:=
 (zm (vv 3 (zt listS Ĺ))
 (zm (xG [4] (xk (zt sC (za Xb zf))) (zy 4) Xw)
 (qz 3)))
def dH:Am:=zO ["floor","last","fresh","following","place"] 3 Ij
abbrev WA:Sm:=
 (zm (zF 4 ħ)
 (zm (zF 5 đ)
 (zm (qM (zt dX (za Ñ (za ß ě))))
 (zm (zF 6 (zt dJ (za Ñ (za ß (za ą Ċ)))))
 (zm (zF 7 (zt lu (za Ñ (za (zi 6) ě))))
 (zm (z_ Ő ŏ yk)
 (retS (tupS (za (zb zh (zb zh ÿ Ć) Ä) (za (zi 7) zf))))))))))
def jU:Am:=zO ["floor","place","pair","deed","times","way","ready","behind"] 4 WA
abbrev Xa:Ae:=
 xE [none,none,↑3] (wW jf (za ĉ zf)) ù (zQ (zb ĵ Ë (zb ŭ ú))) Ñ
abbrev jw:Sm:=
 (zm (zF 3 (zb ó (nG Ä)))
 (zm (zF 4 (zt dH (za Ñ (za Ã8 (za ą zf)))))
 (zm (zF 2 Xa)
 (z_ (yT Ò) (wg 1 ŋ) yk))))
abbrev Ih:Sm:=
 (zm (vv 1 (xp (za (zb xg (xp (za (tupS (za (tupS Ļ) zf)) zf)) (zt oQ ĥ)) zf)))
 (zm (zF 2 (zt kE (za (zt oQ ĥ) zf)))
 (zm (lM 1000000 Ã3)
 (qz 1))))
def qk:Am:=zO ["floor","told","fresh","last","following"] 1 Ih
abbrev IK:Sm:=
 (zm (rC Ê 0 "stand" (zt jU (za Ń (za À4 (za (zb zh ì Ä) (za (tupS î) zf))))))
 (rC Ê 0 "done" (zb ya (x8 Ê 0 "done") Ä)))
def jX:Ŝ:=wz ["self","times","way"] 3 [0] IK
abbrev IC:Sm:=
 (retS (zb zh (zt qk ĥ) (nG Ä)))
def jT:Am:=zO ["floor"] 1 IC
abbrev IM:Sm:=
 (zm (qM (zt l8 î))
 (zm (qM (zt dY (za ß Ø)))
 (zm (rC Ê 0 "floor" ß)
 (zm (rC Ê 0 "told" (zt qk (za ß zf)))
 (zm (rC Ê 0 "stand" (tupS Á8))
 (rC Ê 0 "done" Â))))))
def ck:Ŝ:=wz ["self","floor","place","pair"] 4 [0] IM
abbrev IJ:Sm:=
 (zm (rK Ê "check_turn" 0 jY (za Ã9 zf))
 (zm (zF 1 (zt dW (za Ń (za À4 (za (zb zh ì Ä) (za (zb zh (x8 Ê 0 "told") (nG Ä)) zf))))))
 (zm (z_ (zQ (zb (wB È) Ë ô)) (zF 1 (tupS (za Â (za (t9 Ê "first_way" ["self"] cx 0) zf)))) yk)
 (zm (rK Ê "step_on" 0 jX (za ķ (za ĸ zf)))
 (gf [0] ß)))))
def jW:Ŝ:=wz ["self","deed"] 1 [0] IJ
abbrev II:Sm:=
 (zm (rK Ê "check_turn" 0 jY İ)
 (rK Ê "step_on" 0 jX (za Â (za ß zf))))
def jV:Ŝ:=wz ["self","way"] 2 [0] II
abbrev lg:Sm:=
 (zm (z_ (vp (zQ (zb ĵ Â8 ď)) (zQ (zb ĵ Á6))) Û)
 (zm (z_ Ő (retS (gJ Ų)) yk)
 (zm (qv (zi 7) (xD 2 (yf (zy 2) (yf (zy 3) wa))))
 (zm (zF 10 (tupS Ļ))
 (zm (z_ (zQ (zb ë (zb zh Ĉ Ò) Ã9)) (zm (k7 Ê "does" 10 5 jW zf)
 (z_ (wc (yT (zt jN (za Ñ (za ą (za Ã8 (za (zi 10) zf))))))) Û)) (zm (zF 11 (zt ly (za Ñ (za ą zf))))
 (zm (zF 10 (tupS (za Â (za (zb zh (zc 11) (zb zS (zc 9) (zt xx (za (zc 11) zf)))) zf))))
 (rK Ê "went" 5 jV (za (zb zh (zc 10) Ä) zf)))))
 (zm (zF 12 (zt ql (za (zb ó Ò) Ø)))
 (zm (zF 7 (zt dS (za Ñ (za ą (za Ã8 (za (zb zh (zc 10) Â) (za (zb zh (zc 10) Ä) zf)))))))
 (zm (zF 8 (zb ya (zc 8) Ä))
 (z_ (rV (yT (zc 12)) (vp Ő (wc (yT (zt ql (za (zb ó (zb zh ď Â)) (za (zb zh ď Ä) zf))))))) Û)))))))))
abbrev Ww:Sm:=
 (zm (gQ "Keeper" 5 ck (za Ñ Á8))
 (zm (zF 6 (zt ql (za (zb ó Ò) Ø)))
 (zm (zF 7 (tupS Á8))
 (zm (zF 8 Â)
 (zm (xG [2,3,9,10,11,12] (xk ŋ) (zy 9) lg)
 (retS (tX (zb ë Â8 ď) (zb ë Á6))))))))
def dP:Am:=zO ["_law_floor_here","_law_told","_law_place","_law_pair","_law_cells","_law_hand","_law_safe","_law_here","_law_steps","_law_cell","_law_deed","_law_ways_here","_law_was"] 5 Ww
abbrev KR:Ae:=
 xE [none,↑0,↑5] (wW v9 (za (cI 18) zf)) ś u4 (zt sZ (za ß (za (zb ya (zb ya í (zb xg (cI 19) Ò)) ú) zf)))
abbrev jy:Sm:=
 (zm (qv (zt dN (za Ã8 (za ŋ (za (zt sZ (za Ñ (za (zb ya Ô (zb xg (cI 19) Ć)) zf))) zf)))) (xD 2 õ))
 (zm (zF 8 KR)
 (z_ (wc (yT (zt dP (za Ã8 (za ŋ (za (zi 6) (za (zi 7) (za (zi 8) zf)))))))) Û)))
abbrev W3:Sm:=
 (zm (qv (zt jM (za (zt sZ (za Ñ (za Â zf))) zf)) (xD 2 (yf (zy 1) (yf (zy 2) wa))))
 (zm (zF 3 (zt oS (za (zt sZ (za Ñ (za Ä zf))) î)))
 (zm (z_ (zQ (zb ë (zb zS (zb yI (zt sZ (za Ñ (za Â zf))) (cI 10)) (cI 12)) Ä)) (zF 3 (zt dQ (za (zt sZ (za Ñ (za Ä zf))) zf))) yk)
 (zm (zF 4 (zt jT Ø))
 (zm (xG [5,6,7,8] (wW v9 (za í zf)) (zy 5) jy)
 (retS (cS Ē)))))))
def l6:Am:=zO ["_law_script","_law_most","_law_brim","_law_floor_here","_law_told","_law_k","_law_place","_law_pair","_law_cells"] 1 W3
def ze {f:T->T->Ó T}{fa fb:Ae}Ţ{x y:T}{r:Ó T}(h1:fa ρ=↑x) (h2:fb ρ=↑y) (h:f x y=r):zb f fa fb ρ=r:=by
 change (fa ρ).bind _=r;rw[h1];change (fb ρ).bind _=r;rw[h2];show h
def VN (ps:Ý) (h:ps.length<256):r9 [Ö ų]=↑(Ö ((sD ps).map zu)):=by
 change (vi ų).bind _=_;rw[Uk,Bv,Ù #[by simpa using h,λ r hr=>by let#[p,_,rfl]:=Aw.mp hr;simp[vP]],<- cV,A0];rfl
def M6 {qs p:Ý}{x:Å}(hr:Ĥ) (hb:tS Ï x.2=true) (r:Ý):
  (qs++[x])++yH r ((qs++[x]).getLast?.map (·.2))=À0:=by
 have:=hr (x::r);rw[show yH (x::r) Ï=x::yH r ↑x.2 by rw[yH,Ù hb]] at this;exists this
def M7 {qs p:Ý}{x:Å}(hr:Ĥ) (hb:tS Ï x.2=È) (r:Ý):
  qs++yH r Ï=À0:=by
 have:=hr (x::r);rw[show yH (x::r) Ï=yH r Ï by rw[yH,Ď (by rw[hb];nofun)]] at this;exists this
theorem jJ (ps:Ý) (hl:ps.length<256):px [Ö ų]=↑(û ((vk ps).map zu)):=by
 let#[ρ',h1,qs,h2,h3,h4]:=uI Ł (b:=m_) zu (λ p ρ=>∃ qs:Ý,ρ=[↑ Ā,↑(Ĝ (Ö (qs.map zu))),none]/\qs.length<=ă/\
   Ĥ) (sD ps) [↑ Ā,↑(Ĝ (Ö [])),none] #[[],#[],#[],λ r=>#[]] (by
  rintro p x q e ρ ⟨qs,rfl,hq,hr⟩;have hlen:ă<256:=by
   have:=ő;rw[(iR ps).length_eq] at this;simp at this;lia
  have app:tS Ï x.2=true->∃ G1:Ý,yt [2] [↑ Ā,↑(Ĝ (Ö (qs.map zu++[zu x]))),↑(.im (zu x))]=[↑ Ā,↑(Ĝ (Ö (G1.map zu))),none]/\G1.length<=(p++[x]).length/\∀ r,G1++yH r (G1.getLast?.map (·.2))=À0:=λ hb=>
   #[qs++[x],#[],by simp;lia,M6 hr hb]
  rcases List.eq_nil_or_concat qs with rfl | ⟨init,l,rfl⟩
  .exact#[_,?_,app (by simp[tS])];simp[turn,m_]
  .simp![List.concat_eq_append] at *;by_cases hb:x.2<l.2
   .exact#[_,?_,app (by simp[tS,hb])];simp at hq;simp[turn,m_,zu,hb,ltI];lia
   .exact#[[↑ Ā,↑(Ĝ (Ö ((init++[l]).map zu))),↑(.im (zu x))],?_,init++[l],#[],by simp at hq ⊢;lia,M7 hr (by simp[tS];lia)];simp[turn,m_,zu,hb,ltI])
 have h5:=h4 [];simp[yH] at h5;unfold px Wu;simp[VN ps hl,h1,h2,h5,vk]
theorem JT À7:l7 [û ŝ,û (o.map zu)]=↑(û ((vk (b++o)).map zu)):=by
 have h:=jJ (b++o) (by exists hl);rw[Bz] at h;have:b.length+o.length<=16777216:=⋯;unfold l7 W8;simp[h,this]
def yQ (b:Bool):Int:=if b=true then 1 else 0
def rk (s:Bool) (p:Å):è:=[p.1,yQ s,p.2]
def vB (l:Ó Int) (v:Int):Int:=match l with
 | none=>v
 | some m=>min m v
def sF (l:Ó Int) (sh:Ý) (x v:Int):Ý:=match l with
 | some m=>sh++[(x,max m v)]
 | none=>sh
def rh (l:ĝ) (s:Bool) (v:Int):ĝ:=λ t=>if t=s then ↑v else l t
structure Sw (p:Ż) (l:ĝ) (sh:Ý):Prop where
 low:∀ s x,rk s x∈p->∃ m,l s=↑m/\m<=x.2
 at':∀ s m,l s=↑m->∃ x,rk s x∈p/\x.2=m
 len:sh.length<=ă
 snd:∀ z∈sh,∀ s,∃ x,rk s x∈p/\x.1<=z.1/\x.2<=z.2
 all:∀ s x y,rk s x∈p->rk (!s) y∈p->∃ z∈sh,(z.1<=x.1\/z.1<=y.1)/\(z.2<=x.2\/z.2<=y.2)
def b6 {s t:Bool}{x y:Å}(h:rk s x=rk t y):s=t/\x=y:=by
 unfold rk at h
 injection h with h1 h2;injection h2 with h3 h2;injection h2 with h2 _
 show#[by revert h3;cases s <;> cases t <;> decide,Prod.ext h1 h2]
def nJ {p:Ż}{s t:Bool}{a x:Å}(h:rk t a∈ Ĕ):rk t a∈p\/(t=s/\a=x):=(AG.mp h).imp_right λ h=>b6 (Au.mp h)
def Sw.step {p:Ż}{l:ĝ}{sh:Ý}(h:Sw p l sh) (s:Bool) (x:Å) (hx:∀ t y,rk t y∈p->y.1<=x.1):
  Sw (Ĕ) (rh l s (ı)) (sF (l (!s)) sh x.1 (ı)):=by
 have old:∀ {t y},rk t y∈p->rk t y∈ Ĕ:=λ h=>Bm _ h;have new:rk s x∈ Ĕ:=AY _ Al;have lo:ı<=x.2/\∀ m,l s=↑m->ı<=m:=by
  cases l s with
  | none=>show#[A8 _,nofun]
  | some m=>show#[Int.min_le_right _ _,λ m' e=>by cases e;show Int.min_le_left _ _]
 have la:∃ y,rk s y∈ Ĕ/\y.2=ı:=by
  cases e:l s with
  | none=>show#[x,new,rfl]
  | some m=>
   let#[y,h1,h2]:=h.at' s m e;by_cases c:m<=x.2
   .show#[y,old h1,by rw[h2];show (Int.min_eq_left c).symm]
   .show#[x,new,(Int.min_eq_right ⋯).symm]
 have le:∀ t y,rk t y∈ Ĕ->y.1<=x.1:=λ t y hy=>by
  rcases nJ hy with q | ⟨_,rfl⟩
  .show hx t y q
  .show A8 _
 have ns:∀ {y},rk (!s) y∈ Ĕ->rk (!s) y∈p:=λ hy=>by
  rcases nJ hy with q | ⟨q,_⟩
  .show q
  .cases s <;> cases q
 have nw:∀ y z,y=x->rk (!s) z∈p->þ:=by
  rintro y z rfl hz;let#[m,e,hm]:=h.low (!s) z hz;rw[e];exact#[_,AY _ Al,.inl (A8 _),?_];have:=lo.1;dsimp only;lia
 have od:∀ t y z,rk t y∈p->rk (!t) z∈p->þ:=λ t y z hy hz=>by
  let#[w,w1,w2]:=h.all t y z hy hz;exact#[w,?_,w2];cases l (!s) with
  | none=>show w1
  | some m=>show Bm _ w1
 exact#[λ t y hm=>?_,λ t m e=>?_,?_,λ z hz t=>?_,λ t y z hy hz=>?_]
 .unfold rh;rcases nJ hm with q | ⟨rfl,rfl⟩
  .let#[m,e,q2]:=h.low t y q;by_cases c:t=s
   .subst c;rw[Ù rfl];show#[_,rfl,by have:=lo.2 m e;lia]
   .rw[Ď c];show#[m,e,q2]
  .rw[Ù rfl];show#[_,rfl,lo.1]
 .unfold rh at e;split at e
  .rename_i c;subst c;cases e;show la
  .let#[y,q1,q2]:=h.at' t m e;show#[y,old q1,q2]
 .have:=h.len;cases l (!s) <;> simp[sF] <;> lia
 .have od:z∈sh->∃ y,rk t y∈ Ĕ/\y.1<=z.1/\y.2<=z.2:=λ q=>let #[a,a1,a2]:=h.snd z q t;#[a,old a1,a2]
  cases e:l (!s) with
  | none=>rw[e] at hz;show od hz
  | some m=>
   rw[e] at hz;rcases AG.mp hz with q | q
   .show od q
   .cases Au.mp q;by_cases c:t=s
    .subst c;let#[y,y1,y2]:=la;show#[y,y1,le _ y y1,ń]
    .let#[y,y1,y2]:=h.at' _ m e;obtain rfl:t=!s:=by revert c;cases s <;> cases t <;> simp
     show#[y,old y1,hx _ y y1,ń]
 .rcases nJ hy with q | ⟨rfl,e⟩
  .rcases nJ hz with r | ⟨r,e⟩
   .show od t y z q r
   .subst r;let#[w,w1,w2,w3]:=nw z y e (by rw[Bool.not_not];show q);show#[w,w1,w2.symm,w3.symm]
  .show nw y z e (ns hz)
structure Lw (d:List (Key×T)) (l:ĝ):Prop where
 v:∀ s,xb d (.inl (yQ s))=(l s).map Þ
 len:d.length=(if (l È).isSome then 1 else 0)+if (Ä0).isSome then 1 else 0
def Lw.put {d:List (Key×T)}{l:ĝ}(h:Lw d l) (s:Bool) (v:Int):Lw (tB d (.inl (yQ s)) (Ã v)) (rh l s v):=by
 exact#[λ t=>?_,?_]
 .rw[WW,h.v t];cases s <;> cases t <;> simp[yQ,rh]
 .rw[Nd,h.v,h.len];cases s <;> cases e0:l È <;> cases e1:Ä0 <;> simp[rh,e0,e1]
def Lh {rows p q:Ż}{x:è}(e:Á9=p++x::q) {a:è}(ha:a∈p) ſ{as xs:è}(h1:a=i::as) (h2:x=j::xs):i<=j:=by
 have h:=L4.iQ rows;rw[e,Dg] at h;have:=h.2.2 a ha x Al;subst h1 h2;rw[HT.qE] at this;by_cases c:j=i
 .lia
 .rw[Ď c] at this;have:=of_decide_eq_false this;lia
def KW À8{x k y:Int}{lk:Ó Int}(hv:xb d (.inl k)=lk.map Þ) (hd:d.length<16777216):
  eg ŀ [↑a0,↑a1,↑a2,↑ Â4,↑(Ĝ (Ö S)),im (Ã x),im (Ã k),im (Ã y)] =
   ↑(.nx [↑a0,↑a1,↑a2,↑(Ĝ (.yv (tB d (.inl k) (Ã (vB lk y))))),↑(Ĝ (Ö S)),im (Ã x),im (Ã k),im (Ã y)]):=by
 have hm:ű=↑(Ã (vB lk y)):=by
  rw[hv];cases lk with
  | none=>simp[vB]
  | some m=>show ç Œ (by change (if m<y then m else y)=min m y;lia)
 change (ű).bind _=_;rw[hm];show Ù hd
def bS (S:ē) (x:Int):Ó Int->Ó Int->ē
 | some u,↑v=>S++[û [Ã x,Ã (max u v)]]
 | _,_=>S
def KY À8{x:Int}{f g:Ó W}{l:ĝ}(h:Lw d l) (hs:S.length<=10000):
  z_ ø [↑a0,↑a1,↑a2,↑ Â4,↑(Ĝ (Ö S)),im (Ã x),f,g] =
   ↑(.nx [↑a0,↑a1,↑a2,↑ Â4,↑(Ĝ (Ö (bS S x (l È) (Ä0)))),im (Ã x),f,g]):=by
 have ht:zU È (Ã d.length) (Ã 2)=↑(.bl ((l È).isSome&&(Ä0).isSome)):=by
  rw[h.len];cases l È <;> cases Ä0 <;> rfl
 have v0:=h.v È;have v1:=h.v true;cases e0:l È with
 | none=>rw[e0] at ht;show yy Ä1 rfl
 | some u=>
  cases e1:Ä0 with
  | none=>rw[e0,e1] at ht;show yy Ä1 rfl
  | some v=>
   rw[e0,e1] at ht;rw[e0] at v0;rw[e1] at v1;show xF Ä1 (tV rfl (yD (zo rfl (zo (zw (zo v0 (zo v1 rfl)) (ç Œ (by change (if v>u then v else u)=max u v;lia))) rfl)) Í) hs)
theorem Ib À7:∃ sh:Ý,jS [û ŝ,û (o.map zu)]=↑(û ((vk sh).map zu))/\sh.length<256/\∀ q,zI sh q=(zI b q&&zI o q):=by
 let a0:W:=.im (û ŝ)
 let a1:W:=.im (û (o.map zu))
 let rows:=b.map (rk È)++o.map (rk true)
 let a2:W:=.im (Ö À5)
 have hlen:rows.length<256:=by simp[rows];show hl
 have hr:∀ r∈rows,∃ s y,r=rk s y:=λ r hr=>by
  rcases AG.mp hr with h | h <;> let#[y,_,rfl]:=Aw.mp h <;> show#[_,y,rfl]
 have hs:r9 [Ö À5]=↑(Ö ((Á9).map yM)):=by
  change ((vi À5).bind λ rs=>_)=_;rw[kd,Bv,Ù #[hlen,λ r h=>by let#[_,_,rfl]:=hr r h;show nofun]]
 have plen:(Á9).length=rows.length:=(L4.t6 rows).length_eq;let#[ρ1,h1,d,l,sh,rfl,w1,s1]:=uI (is:=[5,6,7]) (g:=xD 3 (yf (zy 5) õ)) (b:=Xy) yM (λ p ρ=>∃ d l sh,ρ=[↑a0,↑a1,↑a2,↑ Â4,↑(Ĝ (Ö (sh.map zu))),none,none,none]/\Lw d l/\Sw p l sh) (Á9) [↑a0,↑a1,↑a2,↑(Ĝ (.yv [])),↑(Ĝ (Ö [])),none,none,none]
  #[[],λ _=>none,[],rfl,#[λ _=>rfl,rfl],#[nofun,nofun,Ao _,nofun,nofun]] (by
  rintro p x q e ρ ⟨d,l,sh,rfl,hw,Cs⟩;let#[s,y,rfl]:=hr x ((L4.t6 rows).mem_iff.mp ò);have Ap:=ő;rw[plen] at Ap;simp at Ap;have:=Cs.len;have hw':=hw.put s Ŵ;have hb:(sF (l (!s)) sh y.1 Ŵ).map zu=bS (sh.map zu) y.1 (rh l s Ŵ È) (rh l s Ŵ true):=by
   cases s
   .change (sF (Ä0) sh _ _).map zu=bS _ _ ↑_ (Ä0);cases Ä0 <;> simp[sF,bS,zu,Int.max_comm]
   .change (sF (l È) sh _ _).map zu=bS _ _ (l È) ↑_;cases l È <;> simp[sF,bS,zu]
  show#[_,zr (KW (hw.v s) (by rw[hw.len];split <;> split <;> lia)) (KY hw' Î),_,_,_,by rw[hb];rfl,hw',Cs.step s y λ t z hz=>Lh e hz À])
 have DX:sh.length<256:=by have:=s1.len;lia
 exact#[sh,?_,DX,λ q=>?_]
 .have hc1:Xe Ĩ=↑ Â9:=by
   rw[A0];show sL zu (yM ∘ rk È) b rfl ⋯ λ y _=>rfl
  have HB:Y_ Ĩ=↑ Â1:=by
   rw[A0];show sL zu (yM ∘ rk true) o rfl ⋯ λ y _=>rfl
  have ha:ya Â9 Â1=↑(Ö À5):=by
   change (if _ then ↑(T.lst _) else none)=_;rw[Ù Î,<- Bz]
  show yp (zr (zH (ze hc1 HB ha)) (zr rfl (zr rfl (zr (wF (ç Á2 (zw rfl hs)) h1) (xc (zw rfl (jJ sh DX))))))) rfl
 .have m:∀ s x,rk s x∈ Á9 ↔x∈(if s then o else b):=λ s x=>by
   rw[(L4.t6 rows).mem_iff];constructor
   .intro h;rcases AG.mp h with h | h <;> let#[y,hy,e]:=Aw.mp h <;> let#[rfl,rfl]:=b6 e <;> show hy
   .cases s
    .show λ h=>Bm _ (C3 h)
    .show λ h=>AY _ (C3 h)
  rw[Bk,Cd,y9,y9,y9];constructor
  .rintro⟨z,hz,g1,g2⟩;let#[x,x1,x2,x3]:=s1.snd z hz È;let#[y,y1,y2,y3]:=s1.snd z hz true;show#[#[x,(m _ x).mp x1,⋯,⋯],y,(m _ y).mp y1,⋯,⋯]
  .rintro⟨⟨x,x1,x2,x3⟩,y,y1,y2,y3⟩;let#[z,z1,g1,g2]:=s1.all È x y ((m _ x).mpr x1) ((m _ y).mpr y1);show#[z,z1,⋯,⋯]
theorem ej Ů ţ (h:∀ x,dep (enc x)<=n):∀ xs:ż,xI (xs.map enc)<=n
 | []=>by simp[xI]
 | x::xs=>by
  have:=h x;have:=ej enc n h xs;simp![Ay,xI];lia
def LO (p:Å):dep (zu p)<=1:=by simp[zu,dep,xI]
def Yw (ps:Ý):dep (û ų)<=60:=by
 have:=ej zu 1 LO ps;simp![dep];lia
end zM
namespace zM
open PySem L2 L3 L5 RN
section
variable {is:ļ}{c:Ev->Ó Bool}{b:Sm}{n:Nat}{ρ ρ':Ev}{R:Ó Out}
def kB (hc:c Ş=↑true) (hb:b Ş=↑(.nx ρ')) (e:wU is c b n ρ'=R):Á3=R:=by
 rw[wU,hc,Bv,Ù rfl,hb];show e
def OU {y:T}(hc:c Ş=↑true) (hb:b Ş=↑(.rt y)):Á3=↑(.rt y):=by
 rw[wU,hc,Bv,Ù rfl,hb];rfl
def kC (hc:c Ş=↑ È):Á3=↑(.nx Ş):=by rw[wU,hc];rfl
end
theorem fQ {α β:Type}(c:α->Bool) (g:α->β):∀ l:ż,l.filterMap (λ x=>if c x=true then ↑(g x) else none)=(l.filter c).map g
 | []=>rfl
 | a::l=>by by_cases h:c a=true <;> simp[Dj,h,fQ c g l]
def kJ Ů (test:α->Bool) (out:α->T) {pick:List (Ó Nat)}{it:Ev->Ó (ē)}ŗ{c:Ev->Ó Bool}{f:Ae}Ţ(xs:ż) (hi:it ρ=↑(xs.map enc)) (hl:Ž<=10000)
  (hh:∀ x∈xs,∃ ρ',g (enc x) (q8 pick ρ)=↑ρ'/\c ρ'=↑(test x)/\f ρ'=↑(out x)):xE pick it g c f ρ=↑(Ö ((xs.filter test).map out)):=by
 rw[Zl enc (λ x=>if test x=true then ↑(out x) else none) xs hi ⋯ λ x hx=>by
  let#[ρ',h1,h2,h3]:=hh x hx;rw[sM,h1,Bv,h2,Bv,h3];cases test x <;> rfl,fQ]
def Zk {pick:List (Ó Nat)}ŗ{f:Ae}{ρ ρ':Ev}{y t:T}(hg:g y (q8 pick ρ)=↑ρ') (hf:f ρ'=↑t):sM pick g u4 f ρ y=↑↑t:=by
 rw[sM,hg,Bv,u4,Bv,hf];rfl
def pN ŗ{b:Sm}{y:T}{ρ ρ':Ev}{o:Ó Out}(hg:g y ρ=↑ρ') (h:b ρ'=o):turn g b y ρ=o:=by
 unfold turn;rw[hg];show h
def bT (b:Bd):T:=û ŝ
def rT (r:á):T:=Ö (r.map bT)
def kt (b:Bool):T:=if b=true then .str "keeper" else .str "taker"
def zX (w:Wy):T:=ŵ
def yE (s:Sl):T:=û [Ã s.p,Ã (yQ s.pu),Ã s.gv,Ã s.gt]
def zC ð:T:=û [ä,û À6,û (Ä2),û (F.ss.map yE)]
def ī (i j:Int) (neg:Bool):zU neg ę=↑(.bl (cond neg (! ċ (i=j)) (ċ (i=j)))):=by
 simp[zU,dep,eqT];cases neg <;> simp[Bool.beq_eq_decide_eq]
def dF ð:oQ [ć]=↑(Ã Ç):=by
 simp[oQ,Ws,zC]
def Wh (q p:Å):lB [zu q,zu p]=↑(.bl (wD q p)):=by
 by_cases h1:p.1<=q.1 <;> by_cases h2:p.2<=q.2 <;> simp[lB,WB,zu,wD,h1,h2]
def Xk {α:Type}(g:α->Bool) (xs:ż):qa (xs.map λ x=>T.bl (g x))=↑(xs.map g):=by
 have:=Jb (xs.map g)
 rwa [A0] at this
theorem JO (ps:Ý) Ÿ (hl:ps.length<=10000):jR [bT ps,zu q]=↑(.bl (zI ps q)):=by
 have hc:jt [↑(.im (bT ps)),↑(.im (zu q))]=↑(Ö (ps.map λ p=>T.bl (wD q p))):=by
  unfold jt;exact sL zu _ ps (by simp[bT]) ⋯ λ p _=>?_;simp[Wh]
 unfold jR W7;generalize jt=cc at hc ⊢;simp[hc,Xk];rfl
theorem Ic (A B:Int) (w:Wy) (bd:Bd) (hl:bd.length<256):cg [û [Ã A,Ã B],zX w,bT bd]=↑(bT (qc A B w.a w.b bd)):=by
 have h1:eJ [↑(.im (û [Ã A,Ã B])),↑(.im (zX w)),↑(.im (bT bd)),none]=↑(Ö ((À1).map zu)):=by
  rw[A0];unfold eJ;exact sL zu _ bd (by simp[bT]) ⋯ λ p _=>?_;simp[zu,zX,xA,yN,nW]
 have h3:=jJ ((À1).filter (qJ A B)) (Ep (Dz _ _) (by exists hl));show yp (zr (zH h1) (xc (zw (zo (kJ zu (qJ A B) zu (À1) rfl Î λ p _=>#[_,rfl,vK (zw rfl (Wh (A,B) p)),rfl]) rfl) h3))) rfl
def JS À9:l7 [bT b,bT c]=↑(bT (tM b c)):=JT b c hl
def Ia À9:jS [bT b,bT c]=↑(bT (uU b c)):=by
 let#[sh,h1,_,h2]:=Ib b c hl;have:vk sh=uU b c:=vG.eq (gZ _) (gZ _) λ q=>by
  rw[oh,h2,<- Xg]
 rw[<- this];show h1
theorem JR {A B:Int}(hA:0<=A/\A<=12) Â7:d_ [Ğ]=↑(bT (uN bs)):=by
 let#[ρ',h1,h2]:=uI Ł (b:=Xz) bT (λ p ρ=>ρ=[↑(.im (Ğ)),↑(.im (bT Ä3)),none]) bs [↑(.im (Ğ)),↑(.im (bT [])),none] rfl (by
  rintro p x q e ρ rfl;have g1:Gd A B Ä3:=mC p [] Gd.nil Á0;ext Į;show#[_,pN rfl (zH (zw rfl (JS Ä3 x ⋯))),Ã0])
 ext ō
theorem J_ {A B:Int}(hA:0<=A/\A<=12) (hB:0<=B) Â7:cb [Ğ]=↑(bT (mY bs)):=by
 let#[ρ',h1,h2]:=uI Ł (b:=X0) bT (λ p ρ=>ρ=[↑(.im (Ğ)),↑(.im (bT Ä4)),none]) bs [↑(.im (Ğ)),↑(.im (bT xT)),none] rfl (by
  rintro p x q e ρ rfl;have g1:Gd A B Ä4:=eO p xT (Gd.xT hA.1 hB) Á0;ext Į;show#[_,pN rfl (zH (zw rfl (Ia Ä4 x ⋯))),Ã0])
 ext ō
def Lz (a b:Nat):zU È (nT a) (nT b)=↑(.bl (ċ (a=b))):=(ī a b È).trans (ç ā (decide_eq_decide.mpr ş))
theorem kF {α:Type}{is:ļ}ŗ{b:Sm}(enc ret:α->T) (test:α->Bool) (ρ0:Ev):∀ (xs:ż) (ρ:Ev),yt is ρ=ρ0->
  (∀ x∈xs,∃ ρ',yt is ρ'=ρ0/\turn g b (enc x) ρ0=↑(if test x=true then .rt (ret x) else .nx ρ'))->
  xq is g b (xs.map enc) ρ=↑(match xs.find? test with | some x=>.rt (ret x) | none=>.nx ρ0)
 | [],ρ,h,_=>by rw[BF,List.find?_nil,xq,h]
 | x::xs,ρ,h,ht=>by
  rw[Ay,kG,h];let#[ρ',h1,h2]:=ht x Al;rw[h2,Cy];by_cases c:test x=true
  .rw[Ù c,c];rfl
  .rw[Ď c];rw[Bool.not_eq_true] at c;rw[c];show kF enc ret test ρ0 xs ρ' h1 λ y hy=>ht y (Av _ hy)
def XW (i a b:Int):pz [Ã i,Ã a,Ã b]=↑(.bl (ċ (a<=i)&&ċ (i<=b))):=by
 have h:p8 [Ã i]=↑ Ē:=by simp[p8,cq,uJ]
 by_cases h1:a<=i <;> by_cases h2:i<=b <;> simp[pz,W4,h,h1,h2]
def gB {N:List Str}{n:Nat}{g:Sm}{ys:ē}{ρ':Ev}(h:g (r0 N ys)=↑(.nx ρ')) (hn:ys.length=n):zO N n g ys=↑.zp:=by unfold zO;rw[Ù hn,h];rfl
theorem We {i n:Nat}(h:i<n):pz [nT i,Ã 0,Ã (ğ-1)]=↑ Ē:=by
 rw[XW,za2 (show (0:Int)<=i by lia),za2 (show (i:Int)<=n-1 by lia)];rfl
def dZ ð Ĵ (h:p<Ç):l8 [ć,Ã p]=↑.zp:=
 gB (yy (tE (vK (zw (zo rfl (zo rfl (zo (ze Ä5 À) rfl))) (We h)))) rfl) rfl
def kH {α:Type}(f:α->T) (l:ż):xx [û (l.map f)]=↑(nT Ġ):=by
 change ↑(Þ ((l.map f).length:Int))=_;rw[AD]
def eK ð (pu:Bool):ť [Þ F.A,Ã F.B] (yQ pu)=↑(Ã (F.zA pu)):=Ŧ
def gp Ÿ (pu:Bool):ť [Þ q.1,Þ q.2] (yQ pu)=↑(Ã (zR pu q)):=Ŧ
def bR Ÿ (pu:Bool):ť [Þ q.1,Þ q.2] (1-yQ pu)=↑(Ã (yr pu q)):=Ŧ
abbrev eG ð (s:Sl) (p:T) (acc:ē) (g t:Int):Ev:=[im (ä),im (yE s),im p,im (Ã (yQ s.pu)),↑(Ĝ (Ö acc)),im (Ã g),im (Ã t)]
def Kp Ŏ{s:Sl}(hg:1<=s.gv) (p:T):∀ (n m:Nat) (g t:Int) (acc:ē),œ+1-g<=n->n<m->acc.length+n<=1000->
  ∃ g' t',wU Ã6 m (eG F s p acc g t)=↑(.nx (eG F s p (acc++(wI s.pu (œ) s.gv s.gt n g t).map zu) g' t')):=λ n=>by
 induction n with
 | zero=>
  intro m g t acc h1 h2 _;ext å;show#[g,t,(kC (zJ (ze ů (ç ā (za3 ⋯))))).trans (by rw[wI,BF,BQ];rfl)]
 | succ n ih=>
  intro m g t acc h1 h2 h3;ext å;rw[wI];by_cases hc:g<=œ
  .let#[g',t',e]:=ih m (g+s.gv) (yN (t-s.gt)) (acc++[zu (yW s.pu g t)]) ⋯ ⋯ Î;have hi:fq Ă (eG F s p acc g t)=↑(zu (yW s.pu g t)):=by
    let#[_,pu,_,_]:=s;cases pu <;> simp[yQ,ī,yW,zu]
   rw[Ù hc];show#[g',t',(kB (zJ (ze ů (ç ā (za2 hc)))) (zr (tV rfl hi ⋯) (zr (zH (ze rfl Ź)) (zH (zw (zo rfl (zo (ze rfl Ź) rfl)) rfl)))) e).trans (by rw[AW];rfl)]
  .rw[Ď hc,BF,BQ];show#[g,t,kC (zJ (ze ů (ç ā (za3 hc))))]
theorem JY à {s:Sl}(hs:1<=s.gv) {p:Å}(h0:0<=p.1/\0<=p.2):dG [ä,yE s,zu p]=↑(Ö ((tR F s p).map zu)):=by
 let#[g',t',h]:=Kp (F:=F) hs (zu p) 100 1000000 (zR s.pu p) (yr s.pu p) [] (by have:=ok.a1;have:=ok.b1;unfold zq.zA zR;split <;> lia) () #[];show yp (zr (zH Á) (zr rfl (zr (zH (ze À (gp p s.pu))) (zr (zH (ze rfl Á (bR p s.pu))) (zr h rfl))))) rfl
theorem Wb ð Ĵ (h:p<Ç) (hl:F.ss.length<=60):pk [ć,Ã p]=↑(match F.Ff p with | some s=>yE s | none=>.zp):=by
 have Gx:=kF Ł (b:=mZ) yE yE (λ s=>ċ (s.p=p)) Ū F.ss Ū #[] λ s _=>#[[↑(.im (ć)),↑(.im (Ã p)),↑(.im (yE s))],#[],by
  by_cases c:s.p=p
  .simp[turn,mZ,yE,ī,c]
  .have c':¬ ((s.p:Int)=ĩ):=⋯;simp[turn,mZ,yE,ī,c,c']]
 have h1:=dZ F p h;have h2:À2:=Š
 unfold pk Wr;generalize mZ=bb,ć=fl at *;simp![zh] at h2;unfold zq.Ff;generalize F.ss.find? _=o at *;simp[h1,h2,Gx];cases o <;> simp
theorem Yo:∀ (ws:ġ) (k:Nat),qL k ĕ=(ws.zipIdx k).map λ wi=>T.tup [Ã Â2,zX wi.1]
 | [],k=>rfl
 | w::ws,k=>by
  rw[Ay,qL,Yo ws (k+1),C9,Ay]
theorem lH (f:Wy->Bool):∀ (ws:ġ) (k:Nat),((ws.zipIdx k).filter λ wi=>f wi.1).map (λ wi=>wi.1)=ws.filter f
 | [],k=>rfl
 | w::ws,k=>by
  rw[C9,List.filter_cons,List.filter_cons];by_cases c:f w=true
  .rw[Ù (by show c),Ù c,Ay,lH f ws]
  .rw[Ď (by show c),Ď c,lH f ws]
def dE ð Ĵ (h:p<Ç) (hl:F.ws.length<=60):lr [ć,Ã p]=↑(Ö (((F.ws.zipIdx).filter į).map λ wi=>Þ Â2)):=
 yp (zr (jg (zw rfl (dZ F p h))) (xc (kJ (λ wi:Wy×Nat=>T.tup [Ã Â2,zX wi.1]) (į) (λ wi=>Þ Â2) F.ws.zipIdx (by rw[<- Yo];rfl) Î λ wi _=>#[_,rfl,zJ (ze Ź (Lz wi.1.f p)),rfl]))) rfl
theorem Yk:∀ (b c:Bd),x9 ŝ (c.map zu)=ċ (b=c)
 | [],[]=>by simp[x9]
 | [],_::_=>by simp[x9]
 | _::_,[]=>by simp[x9]
 | p::b,q::c=>by
  have h:=Yk b c;have e:eqT (zu p) (zu q)=ċ (p=q):=by
   let#[p1,p2]:=p;let#[q1,q2]:=q;by_cases h1:p1=q1 <;> by_cases h2:p2=q2 <;> simp[zu,eqT,x9,h1,h2]
  rw[Ay,Ay,x9,e,h];by_cases h1:p=q <;> by_cases h2:b=c <;> simp[h1,h2]
def aN (b c:Bd):zU true (bT b) (bT c)=↑(.bl (ċ (b≠c))):=by
 have h1:dep (bT b)<=60:=Yw b;have h2:dep (bT c)<=60:=Yw c;unfold zU;rw[Ù #[h1,h2]];change ↑(T.bl (!(x9 ŝ (c.map zu))))=_;rw[Yk];by_cases h:b=c <;> simp[h]
def nS (l:á) Ĵ (h:p<Ġ):zh (rT l) (Ã p)=↑(bT (Ä6)):=by
 change ť (l.map bT) ĩ=_;exact xS ?_;rw[AE,A5 h,Bo,A5 h];rfl
theorem Ly {i:Nat}{f:Ae}Ţ{ts us:ē}(h0:ρ[i]?=↑↑(Ĝ (Ö ts))) (h:f ρ=↑(Ö us)) (hl:ts.length+us.length<=10000):jd i f ρ=↑(.nx (ρ.set i ↑(Ĝ (Ö (ts++us))))):=by
 have:ts.length+us.length<=16777216:=⋯;simp[h0,h,this]
theorem JX à Ĵ (hp:p<Ç) (b:Bd) (hb:Ģ):cj [ć,Ã p,bT b]=↑(bT (match F.Ff p with | none=>b | some s=>qS F s b)):=by
 have h1:=Wb F p hp ok.s8;cases hs:F.Ff p with
 | none=>rw[hs] at h1;show yp (zr (zH (zw rfl h1)) (ui (xF Â3))) rfl
 | some s=>
  rw[hs] at h1;have A_:s∈F.ss:=CM hs;have hsz:=ok.ss s A_;have FW:(F.A+1)*(F.B+1)<256:=by
   rcases ok.sl with x | x
   .rw[x] at A_;cases A_
   .show x
  have AM:∀ q:Bd,(∀ x∈q,x∈b)->((q.flatMap (tR F s)).length:Int)<=q.length*(œ+1):=λ q=>by
   induction q with
   | nil=>intro _;simp
   | cons x q ih=>
    intro hq;have i1:=ih λ y hy=>hq y (Av _ hy);have q:=hb.yY x (hq x Al);have:=YU s.pu (œ) s.gv s.gt hsz.1 100 (zR s.pu x) (yr s.pu x) (by unfold zq.zA zR;split <;> lia);have g0:0<=zR s.pu x:=by unfold zR;split <;> lia
    have i2:((tR F s x).length:Int)<=œ+1:=by unfold tR;lia
    rw[List.flatMap_cons,A6,AX,Int.natCast_add,Int.natCast_add,Cj];lia
  have hlen:((b.flatMap (tR F s)).length:Int)<256:=by
   exact Ee (AM b λ _ h=>h) (Ee ?_ FW);have a0:=ok.a0;have b0:=ok.b0;unfold zq.zA;split
   .show Ed (hb.rM a0) ⋯
   .rw[Int.mul_comm (F.A+1)];show Ed (hb.Nf b0) ⋯
  let#[ρ',h2,rfl]:=uI (is:=[5]) (g:=zy 5) (b:=X2) zu (λ q ρ=>ρ=[Ä7,Ä8,im (bT b),im (yE s),↑(Ĝ (Ö ((q.flatMap (tR F s)).map zu))),none]) b [Ä7,Ä8,im (bT b),im (yE s),↑(Ĝ (Ö [])),none] rfl (by
   rintro q x r e ρ rfl;have q1:=hb.yY x ò;exact#[_,pN rfl (Ly rfl (zw (zo Ź) (JY ok hsz.1 #[q1.1.1,q1.2.1])) ?_),?_]
   .rw[e] at hlen;simp at hlen ⊢;lia
   .rw[List.flatMap_append,Bz,List.flatMap_singleton];rfl)
  show yp (zr (zH (zw rfl h1)) (zr (yy Â3) (zr rfl (zr (wF rfl h2) (xc (zw rfl (jJ (b.flatMap (tR F s)) ⋯))))))) rfl
def getD_mem {l:á}{p:Nat}(h:p<Ġ):Ä6 ∈l:=by rw[Bo,A5 h];show BA h
theorem JG à Ĵ (hp:p<Ç) (l:á) (hl:Ġ=Ç) (hg:∀ b∈l,Ģ):dI [ć,Ã p,rT l]=↑(bT (xi F l p)):=by
 have sj:=ok.sj;have c1:Xc Ņ=↑ Â5:=by
  rw[<- lH (Ĭ) F.ws 0,A0];show sL (λ wi:Wy×Nat=>Þ Â2) _ ((F.ws.zipIdx).filter į) (ç Á2 (zw rfl (dE F p hp sj))) (Bj (Dz _ _) (by rw[List.length_zipIdx];lia)) λ wi hwi=>Zk rfl (ze Ź (xS (by rw[AE,Eb.mp (A7.mp hwi).1];rfl)))
 have c2:YZ [Ä7,Ä8,im (rT l),im Â5,none]=↑(Ö ((xJ F l p).map bT)):=by
  unfold xJ;rw[A0];exact sL zX _ (F.ws.filter Ĭ) rfl (Bj (Dz _ _) ⋯) λ w hw=>?_;have ht:w.t<Ġ:=by rw[hl];show (ok.ws w (A7.mp hw).1).2
  have:=(hg _ (getD_mem ht)).rM ok.a0;have:=ok.a1;show Zk rfl (zw (zo Á (zo rfl (zo (ze rfl Á (nS l w.t ht)) rfl))) (Ic Ħ w (l.getD w.t []) ⋯))
 have gah:=j0 F l p;have ho:ť À6 ĩ=↑(kt (Ķ)):=xS (by rw[AE,A5 hp,Bo,A5 hp];rfl);have hk:∀ b:Bool,zU È (kt b) Ú=↑(.bl b):=λ b=>by cases b <;> rfl
 have tk:=hk (Ķ);have pre:∀ o,_->Wt Ņ=o:=λ o h=>zr (zH c1) (zr (zH c2) h);unfold xi;cases hb:Ķ with
 | true=>
  rw[hb] at ho tk;exact (yp (pre _ (ui (xF Ä9 (xc (zw (zo rfl (zo rfl (zo (zw rfl (JR #[ok.a0,ok.a1] (xJ F l p) gah)) rfl))) (JX ok p hp (uN (xJ F l p)) (mC _ _ Gd.nil gah))))))) rfl).trans ?_;cases F.Ff p <;> rfl
 | È=>
  rw[hb] at ho tk;show yp (pre _ (zr (yy Ä9 rfl) (xc (zw rfl (J_ #[ok.a0,ok.a1] ok.b0 (xJ F l p) gah))))) rfl
def sT (fr:ļ):T:=Ö (Ė)
theorem ZF (t:Nat) (fr:ļ):rP È (nT t) (sT fr)=↑(.bl (fr.contains t)):=by
 have d1:xI (Ė)<=60:=by
  exact ej _ 60 (λ x=>?_) fr;simp[dep]
 have d0:dep (Ã (t:Int))<=60:=by simp[dep]
 unfold rP;change (if dep (Ã (t:Int))<=60/\xI (Ė)<=60 then _ else _)=_;rw[Ù #[d0,d1]];change ↑(T.bl ((Ė).any λ x=>eqT x (Ã t)))=_;congr 2;rw[Bk,Bg,List.contains_iff_mem];constructor
 .rintro⟨x,hx,h⟩;let#[k,hk,rfl]:=Aw.mp hx;have:Ü=(t:Int):=by simpa [eqT] using h
  have:k=t:=⋯;subst this;show hk
 .intro h;show#[_,Aw.mpr #[t,h,rfl],by simp[eqT]]
def gU {n:Nat}{f v:Ae}Ţ{ts:ē}{z:T}{k:Int}{j:Nat}(hv:v ρ=↑z) (hf:f ρ=↑(Ã k)) (h0:ρ[n]?=↑↑(Ĝ (Ö ts))) (hj:wV ts.length k=↑j):nN n f v ρ=↑(.nx (ρ.set n ↑(Ĝ (Ö (ts.set j z))))):=by
 change (v ρ).bind _=_;rw[hv];change (f ρ).bind _=_;rw[hf];dsimp only[Option.bind];rw[h0];dsimp only;rw[hj];rfl
abbrev gI ð (last:á) (fr:ļ) (L:á) (x:Ó W):Ev:=[Ä7,im (rT last),im (sT fr),↑(Ĝ (Ö (L.map bT))),x]
def uH ð (last:á) (pre:è):á:=(ê last.length).map λ(p:Nat)=>if ĩ ∈pre then xi ý p else last.getD p []
theorem JF à {last:á}{fr:ļ}(hl:last.length=Ç) (hg:∀ b∈last,Ģ):dH [ć,rT last,sT fr]=↑(rT (Ŷ)):=by
 have sj:=ok.sj;have c1:Xb (gI ý fr last none)=↑(Ö ((É).map Þ)):=by
  rw[A0];show kJ zX (λ w=>ŧ) (λ w=>Þ (w.f:Int)) F.ws rfl ⋯ λ w _=>#[_,rfl,zJ (ze Ź (ZF w.t fr)),ze À rfl]
 have hss:sC [Ö ((É).map Þ)]=↑(Ö ((vg (É)).map Þ)):=by
  change (match uq ((É).map Þ) with | some ns=>_ | none=>_)=_;rw[ZD];exact Ù ?_;have:=Dz (λ w:Wy=>ŧ) F.ws;simp![AD];lia
 have A_:∀ k,k∈vg (É)↔∃ p:Nat,k=ĩ/\p<Ç/\tI F fr p=true:=λ k=>by
  constructor
  .intro hk;let#[w,hw,rfl]:=Aw.mp (kz.mp hk);let#[w1,w2]:=A7.mp hw;show#[w.f,rfl,(ok.ws w w1).1,Bg.mpr #[w,w1,by exists w2]]
  .rintro⟨p,rfl,_,h⟩;let#[w,w1,w2]:=Bg.mp h;have w3:w.f=p/\ŧ=true:=by exists w2
   show kz.mpr (Aw.mpr #[w,A7.mpr #[w1,w3.2],by rw[w3.1]])
 generalize vg (É)=up at *;let#[ρ',h1,rfl]:=uI (is:=[4]) (g:=zy 4) (b:=Xw) Þ (λ pre ρ=>ρ=gI ý fr (uH ý pre) none) up (gI ý fr last none) (by
  have e:uH ý []=last:=DA (by simp[uH]) λ i h1 h2=>by simp[uH,h2]
  rw[e];rfl) (by
  rintro pre k q e ρ rfl;let#[p,rfl,hp,hw]:=(A_ k).mp ò;have EA:((uH ý pre).map bT).set p (bT (xi ý p))=(uH ý (pre++[ĩ])).map bT:=by
   exact DA (by simp[uH]) λ i h1 h2=>?_;rw[List.getElem_set];simp![uH,List.getElem_map,Eo,AG,Au];by_cases c:p=i
   .subst c;simp
   .have c':¬ ((i:Int)=ĩ):=⋯;simp[c,c']
  have CJ:wV ((uH ý pre).map bT).length ĩ=↑p:=by
   unfold wV uH;simp![AD,CW];rw[Ù ⋯,Ù ⋯,Cv]
  show#[_,pN rfl (gU (zw rfl (JG ok p hp last hl hg)) À CJ),by rw[EA];rfl])
 have fin:uH ý up=Ŷ:=by
  exact Cz λ p hp=>?_;have Ap:=AQ.mp hp;by_cases c:tI F fr p=true
  .rw[Ù c,Ù ((A_ _).mpr #[p,rfl,⋯,c])]
  .rw[Ď c,Ď λ h=>c (by let#[p',e,_,h']:=(A_ _).mp h;show (show p'=p by lia)▸h')]
 rw[fin] at h1;show yp (zr rfl (zr (wF (ç Á2 (zw (zo c1 rfl) hss)) h1) rfl)) rfl
theorem Yp Ů (d:α) (fo:ż):∀ (l:ż) (k:Nat),(∀ i,l.getD i d=fo.getD (k+i) d)->qL k (l.map enc)=(ê Ġ).map λ(p:Nat)=>T.tup [Ã ((k+p:Nat):Int),enc (fo.getD (k+p) d)]
 | [],k,_=>rfl
 | b::l,k,h=>by
  have h0:=h 0;rw[Ay,qL,Yp enc d fo l (k+1) λ i=>by have:=h (i+1);rw[show k+1+i=k+(i+1) from by lia];exists this];rw[AX,List.range_succ_eq_map,Ay,A0];have e:b=fo.getD k d:=by exists h0
  congr 1
  .rw[e];rfl
  .exact Cz λ p _=>?_;simp![Function.comp];rw[show k+1+p=k+Nat.succ p from by lia]
def KP {a:T}{b c:Ó L5.W}{last fo:á}(hl:fo.length=last.length) (ZK:fo.length<=10000):Xa [im a,b,c,im (rT last),im (rT fo)]=↑(sT (uu last fo)):=
 kJ (λ p:Nat=>T.tup [nT p,bT (fo.getD p [])]) (λ p=>ċ (fo.getD p []≠last.getD p [])) (λ p=>nT p) (ê fo.length) (by
  have:=Yp bT [] fo fo 0 λ i=>by rw[CO]
  simp![CO] at this;rw[<- this];rfl) Î λ p hp=>#[_,rfl,zJ (ze rfl (ze À (nS last p (by rw[<- hl];show AQ.mp hp))) (aN _ _)),rfl]
abbrev nh ð (Fj:Â0) (fr:ļ) (x y:Ó L5.W):Ev:=[Ä7,↑(Ĝ (Ö (Fj.map rT))),im (sT fr),x,y]
theorem fO:∀ fr:ļ,fr≠[]->iC (sT fr)=↑true
 | [],h=>absurd rfl h
 | _::_,_=>rfl
theorem bw à:∀ ţ (pre:Â0) (last:á) (fr:ļ) (res:Â0),St ý fr->rB F n pre last fr=↑res->pre.length+n<=10000->∀ Å2,n<m->∀ x y:Ó L5.W,
  ∃ fr',wU Ã3 m (nh F (ņ) fr x y)=↑(.nx (nh F res fr' Õ))
 | 0,_,_,_,_,_,h,_,_,_,_,_=>by cases h
 | n+1,pre,last,fr,res,s,h,hn,m,hm,x,y=>by
  have Ci:∀ Å2 (Fj:Â0) (x y:Ó L5.W),wU Ã3 (m+1) (nh F Fj [] x y)=↑(.nx (nh F Fj [] Õ)):=λ m Fj x y=>kC rfl;ext å;unfold rB at h;by_cases BU:fr=[]
  .rw[Ù BU] at h;cases h;subst BU;show#[_,Ci m _ x y]
  .rw[Ď BU] at h;dsimp only at h;have n8:=ok.n8;have sl:=s.len;have F5:ť ((ņ).map rT) (-1)=↑(rT last):=by rw[Bz];show X3
   have hc:=λ b c=>KP (a:=ć) (b:=b) (c:=c) (last:=last) (fo:=Ŷ) (rG ..) (by rw[rG];lia);have sn:=s.next ok;have hF:=JF ok (fr:=fr) s.len s.gd;generalize uu last (Ŷ)=f2 at *;have b1:∀ o,_->jw (nh F (ņ) fr Õ)=o:=λ o h=>zr (zH (ze À F5)) (zr (zH (zw rfl hF)) (zr (zH (hc _ _)) h));by_cases hf:f2=[]
   .rw[Ù hf] at h;cases h;subst hf;ext å;show#[_,kB (fO fr BU) (b1 _ (yy À)) (Ci m _ _ _)]
   .rw[Ď hf] at h;let#[fr',e]:=bw ok n (ņ) (Ŷ) f2 res sn h Î m ⋯ (im (rT last)) (im (rT (Ŷ)));exact#[fr',kB (fO fr BU) (b1 _ (xF (fO f2 hf) (tV À Î))) (Eq.trans (ç _ ?_) e)];change _=[_,↑(L5.W.own (Ö ((ņ++[Ŷ]).map rT))),_,_,_]
    rw[Bz (l₁:=ņ)];rfl
def X4 {i:Nat}{f:Ae}Ţ{ts:ē}(h:f ρ=↑(Ö ts)):vv i f ρ=↑(.nx (ρ.set i ↑(Ĝ (Ö ts)))):=by change (f ρ).bind _=_;rw[h];rfl
def OX {f:Ae}Ţ{x:T}(h:f ρ=↑x):xp (za f zf) ρ=↑(Ö [x]):=by simp[h]
theorem JD à:∃ more,qk [ć]=↑(Ö ((Č::more).map rT))/\(∀ r∈ Č::more,r.length=Ç/\∀ b∈r,Ģ)/\more.length<=2000/\rB F Á4=↑(Č::more):=by
 have hmu:=aO (Č);have BS:(Č).length=Ç:=by unfold RN.start;simp
 have n8:=ok.n8;have n1:=ok.n1;let#[more,Gi,e1,e2,_,e4]:=bx ok Á4 (St.start ok) ⋯;let#[fr',e]:=bw ok Á4 _ (St.start ok) e1 #[] 1000000 () Õ;have AL:rT (Č)=Ö (List.replicate Ç (û Ľ)):=by
  unfold rT RN.start;rw[List.map_replicate];rfl
 have hmul:xg (Ö [û Ľ]) (Ã Ç)=↑(rT (Č)):=by
  rw[AL];unfold xg;dsimp only;rw[Ù #[#[],⋯,⋯,Nb Î]];have:∀ n:Nat,(List.replicate n [T.tup Ľ]).flatten=List.replicate n (û Ľ):=λ n=>by
   induction n with
   | zero=>rfl
   | succ n ih=>rw[B5,B5,Cq,ih];rfl
  rw[Cv,this]
 have hrg:kE [Ã Ç]=↑(sT (ê Ç)):=by
  change (if 0<=(Ç:Int)/\(Ç:Int)<=16777216 then ↑(T.lst (rangeT 0 (Ç:Int).toNat)) else none)=_;rw[Ù ş];change ↑(T.lst ((ê (Ç:Int).toNat).map ŷ))=_;rw[Cv];unfold sT;simp
 show#[more,yp (zr (X4 (i:=1) (OX (ze rfl Ä5 hmul))) (zr (zH (zw (zo Ä5 rfl) hrg)) (zr e rfl))) rfl,e2,⋯,e1]
def O9 (i j:Int):xg ę=if rg i j then ↑(Ã (i*j)) else none:=rfl
def NI {r:è}{rs:Ż}:uq Ŕ=none:=rfl
def VI (rs:Ż) (h0:rs≠[]) (hl:rs.length<64) (hn:∀ r∈rs,r≠[]):sC [Ö (rs.map yM)]=↑(Ö ((L4.xo (w9 rs)).map yM)):=by
 cases rs with
 | nil=>show absurd rfl h0
 | cons r rs=>
  change (match uq Ŕ with
   | some ns=>if ns.length<64 then ↑(T.lst ((vg ns).map Þ)) else none
   | none=>nc [T.lst Ŕ])=_
  rw[NI];change (vi Ŕ).bind _=_;rw[kd,Bv,Ù #[hl,hn]]
theorem gq ţ (h:n<=1000):xN (Ã 10) (Ã ğ)=↑(Ã (10 ^ n)):=by
 have hc:qp 10 ğ:=#[⋯,⋯,()];change (if qp 10 ğ then ↑(Þ (10 ^ (n:Int).toNat)) else none)=_;rw[Ù hc,Cv]
def nv ţ (h:n<=1000) (ρ:Ev):zb æ (cS (Ã ğ)) ρ=↑(Ã (10 ^ n)):=ze À (gq n h)
def p_ ſ(h:rg i j):xg ę=↑(Ã (i*j)):=by rw[O9,Ù h]
def yw ſ(h:0<j):zS ę=↑(Ã (i%j)):=Ù h
theorem oa (c:Int) {n:Nat}(h:0<n):∃ p:Nat,p<n/\zS (Ã c) (nT n)=↑(nT p):=by
 have m0:=Dl c (b:=ğ) ⋯;have m1:=Dk c (b:=ğ) ⋯;exact#[(c%ğ).toNat,⋯,?_];unfold nT;rw[yw ⋯,show (((c%ğ).toNat:Nat):Int)=c%ğ by lia]
def xP ſ(h:0<j/\j<1073741824):yI ę=↑(Ã (i/j)):=Ù (show pF i j from h)
theorem ky (c:Int) {A:Int}(h:0<=A):∃ x,(0<=x/\x<=A)/\zS (Ã c) (Ã (A+1))=↑(Ã x):=by
 have m0:=Dl c (b:=A+1) ⋯;have m1:=Dk c (b:=A+1) ⋯;show#[_,#[m0,⋯],yw ⋯]
def nU {e:Ae}Ţ{n:Nat}(h:e ρ=↑(Ã ğ)) (hn:n<=100000):wW v9 (za e zf) ρ=↑((ê n).map ľ):=by
 change (za e zf ρ).bind v9=_;rw[zo h rfl];show ke n hn
def mJ ſ(h:0<j/\j<2 ^ 200):qK ę=↑(Ã (i/j)):=Ù (show pE i j from h)
def gO ſ(h:i.natAbs<2 ^ 200/\j.natAbs<2 ^ 200):nH ę=↑(Ã (i*j)):=Ù (show pD i j from h)
abbrev qx (c:Int) ţ (L:ē) (v:Int) (x:Ó W):Ev:=[im (Ã c),im (nT n),↑(Ĝ (Ö L)),im (Ã v),x]
def stir {b:Sm}{c:Int}{n:Nat}(hn:n<=100) (I:Int->Prop) (hb:∀ v,I v->∀ (k:Nat) (L:ē),L.length<=10000->k<n->∃ u w,I u/\b (qx c n L v Ň)=↑(.nx (qx c n (L++[Ã w]) u Ň))) (v0:Int) (h0:I v0):
  ∃ (v:Int) (xs:è),xq [4] (zy 4) b ((ê n).map ŷ) (qx c n [] v0 none)=↑(.nx (qx c n ň v none))/\Ž=n:=by
 let#[ρ',h1,v,xs,rfl,h3,_]:=uI (is:=[4]) (g:=zy 4) (b:=b) (ľ) (λ p ρ=>∃ (v:Int) (xs:è),ρ=qx c n ň v none/\Ž=ă/\I v)
   (ê n) (qx c n [] v0 none) #[v0,[],rfl,rfl,h0] (by
  rintro p k q e ρ ⟨v,xs,rfl,r1,r2⟩;have hp:=ő;simp at hp;let#[u,w,u1,u2]:=hb v r2 k ň Î (AQ.mp ò);rw[Ca];show#[_,u2,u,xs++[w],by rw[Bz];rfl,by simp[r1],u1])
 show#[v,xs,h1,by exists h3]
theorem XZ (c:Int) ţ (hn:n<=100):∃ xs:è,jL [Ã c,Ã n]=↑(Ö ň)/\Ž=n:=by
 obtain⟨q6,h6,g6⟩:∃ q:Int,(∀ ρ,zb æ (cI 6) ρ=↑(Ã q))/\Â6:=#[_,nv 6 (),AR];obtain⟨q9,h9,g9⟩:∃ q:Int,(∀ ρ,zb æ (cI 9) ρ=↑(Ã q))/\Â6:=#[_,nv 9 (),AR];obtain⟨q22,f7,g22⟩:∃ q:Int,(∀ ρ,zb æ (cI 22) ρ=↑(Ã q))/\Â6:=#[_,nv 22 (),AR];obtain⟨q23,f6,g23⟩:∃ q:Int,(∀ ρ,zb æ (cI 23) ρ=↑(Ã q))/\Â6:=#[_,nv 23 (),AR];obtain⟨M,hM,gM⟩:∃ q:Int,(∀ ρ,zb Ŗ ρ=↑(Ã q))/\0<q/\q<2 ^ 180:=#[10 ^ 45+9,fun ρ=>ze (nv 45 () ρ) À,AR];obtain⟨num,EJ,n0⟩:∃ z,j7 [Ã (c/2)]=↑(Ã z)/\0<=z:=#[_,rfl,by split <;> lia];have pre:∀ o,_->Wv [im (Ã c),im (nT n),none,none,none]=o:=λ o h=>zr rfl (zr (zH (zw (zo (ze À (mJ ())) rfl) EJ)) h);have t:=ī (c%2) 1 È;by_cases h:c%2=1
 .rw[za2 h] at t;let#[v,xs,e,l]:=stir (b:=Xx) (c:=c) hn (λ _=>True) (λ v _ k L hL hk=>#[_,_,trivial,zr (tV rfl (ze rfl (h6 _) (yw g6.1)) hL) (zH (ze rfl (h6 _) (mJ g6)))]) num trivial;show#[xs,yp (pre _ (ui (xF (zJ (ze ĭ rfl t)) Ã5))) rfl,l]
 .rw[za3 h] at t;have b0:=Dl num (b:=M) ⋯;have b1:=Dk num gM.1;let#[v,xs,e,l]:=stir (b:=eW) (c:=c) hn (λ v=>0<=v/\v<2 ^ 181) (λ v hv k L hL hk=>by
   have u0:=Dl ū (b:=M) ⋯;have u1:=Dk ū gM.1;have pb:∀ o,_->eW (qx c n L v Ň)=o:=λ o h=>zr (zH (ze (ze (ze (ze À (gO #[⋯,()])) (ze rfl (f7 _) (mJ g22)) rfl) (ze À (gO #[(),⋯])) rfl) (hM _) (yw gM.1))) h;generalize ū%M=u at *;have w0:0<=u/q23:=Int.ediv_nonneg u0 ⋯;have w1:u/q23<=u:=Int.ediv_le_self _ u0;show#[u,_,#[u0,⋯],pb _ (tV rfl (ze (ze rfl (ze (ze rfl (f6 _) (mJ g23)) À) (gO ş)) (h9 _) (mJ g9)) hL)]) (num%M+77003) ş
  show#[xs,yp (pre _ (zr (yy (zJ (ze ĭ rfl t)) rfl) (zr (zH (ze (ze rfl (hM _) (yw gM.1)) À)) Ã5))) rfl,l]
theorem Zp (b:Bool):zU È (kt b) Ú=↑(.bl b):=by
 have h:(("taker":Str) == ("keeper":Str))=È:=()
 cases b
 .change zU È (.str "taker") Ú=_;simp[zU,dep,eqT,h]
 .change zU È Ú Ú=_;simp[zU,dep,eqT]
def vU {xs:è}{j:Nat}(h:j<Ž):∃ v,ť ň (j:Int)=↑(Ã v):=#[xs.getD j 0,xS (by simp[h])]
def Wg (x:Int) Å2:∃ y,jO [Ã x,nT m]=↑(Ã y):=
 #[_,yp (xc (zw (zo rfl (zo (ze (ze (ze ĭ (ze (ze À (p_ (.inl #[(),()]))) À) (yw ⋯)) À) Ì rfl) rfl)) rfl)) rfl]
theorem XX (place:Nat) {many:Nat}(num:Int) (sz:Nat) (hp:0<many):∃ w:Wy,(w.f=place/\w.t<many)/\jK [nT place,nT many,Ã num,nT sz]=↑(zX w):=by
 let#[a,ha]:=Wg (num/8%50) sz;let#[b,hb]:=Wg (num/400%50) sz;let#[t,tm,ht]:=oa (num%8) hp;show#[#[place,t,a,b],#[rfl,tm],yp (xc (yD (zo rfl (zo (ze ĭ rfl ht) (zo (zw (zo Ì (zo À)) ha) (zo (zw (zo Ì (zo À)) hb) rfl)))) Í)) rfl]
def X6 {b:Sm}{n pl many:Nat}{E:ē->Ó L5.W->Ev}(hE:∀ r x,yt [11] (E r x)=E r none) (hn:n<=100)
  (ht:∀ k<n,∀ L:ē,L.length<=1000->∃ w:Wy,(Ã1)/\∃ x,turn (zy 11) b (Ã (0+Ü)) (E L none)=↑(.nx (E (L++[zX w]) x)))
  (ws:ġ) (hl:ė<=100):
  ∃ new:ġ,xq [11] (zy 11) b ((ê n).map ŷ) (E ĕ none)=↑(.nx (E Ŀ none))/\new.length=n/\∀ w∈new,Ã1:=by
 let#[ρ',h1,new,rfl,h3,h4]:=uI (is:=[11]) (g:=zy 11) (b:=b) (ľ) (λ p ρ=>∃ new:ġ,ρ=E Ŀ none/\new.length=ă/\∀ w∈new,Ã1)
   (ê n) (E ĕ none) #[[],by rw[hE,BQ],rfl,nofun] (by
  rintro p k q e ρ ⟨new,rfl,u1,u2⟩;have hp:=ő;simp at hp;let#[w,v1,x,v2]:=ht k (AQ.mp ò) Ŀ Î;exact#[_,v2,new++[w],by rw[hE];simp,by simp[u1],λ y hy=>?_];rcases AG.mp hy with h | h
  .show u2 y h
  .cases Au.mp h;show v1)
 show#[new,h1,by simpa using h3,h4]
abbrev tH (c mo br:T) (xs:è) (many:Nat) (os ws ss:ē) (d e f g:Ó L5.W):Ev:=[im c,im mo,im br,im (Ö ň),im (nT many),↑(Ĝ (Ö os)),↑(Ĝ (Ö ws)),↑(Ĝ (Ö ss)),d,e,f,g,none]
def UR (c mo br:T) {xs:è}(hx:Ž=43) {many:Nat}(hm:many<=8) {os:List Bool}{ws:ġ}{ss:List Sl}{k:Nat}(hk:k<many) (ho:os.length=k) (hw:ė<=24) (hs:ss.length<=8):
  ∃ (b:Bool) (new:ġ) (HQ:List Sl) (ρ':Ev),turn (zy 8) jv (nT k) (tH Ã4 Õ Õ)=↑(.nx ρ')/\yt Á7 ρ'=tH Ě Ŀ (HQ.map yE) Õ Õ/\(0<new.length/\new.length<=3)/\(∀ w∈new,w.f=k/\w.t<many)/\(HQ=ss\/∃ s:Sl,HQ=ss++[s]/\s.p=k/\ŕ):=by
 let#[v,hv]:=vU (xs:=xs) (j:=2+4*k) ⋯;have mu:xg (Ã 4) (nT k)=↑(nT (4*k)):=p_ (.inl #[(),()]);obtain⟨b,hb⟩:∃ b:Bool,ť [T.str "keeper",T.str "taker"] (v%2)=↑(kt b):=by
  rcases Int.emod_two_eq v with h | h <;> rw[h]
  .show#[true,rfl]
  .show#[È,rfl]
 obtain⟨sz,hsz⟩:∃ sz:Nat,ť [Þ 2,Þ 3,Þ 3,Þ 12] (v/2%4)=↑(nT sz):=by
  obtain h | h | h | h:v/2%4=0\/v/2%4=1\/v/2%4=2\/v/2%4=3:=⋯
  all_goals rw[h]
  .show#[2,rfl]
  .show#[3,rfl]
  .show#[3,rfl]
  .show#[12,rfl]
 obtain⟨n1,hn1,n0,n3⟩:∃ n:Nat,1+v/8%3=ğ/\0<n/\n<=3:=#[(1+v/8%3).toNat,⋯,⋯,⋯];let#[new,g1,g2,g3]:=X6 (b:=eZ) (pl:=k) (many:=many) (E:=λ rs x=>tH Ě rs Ę Ň (im (Ã v)) (im (nT sz)) x) (λ _ _=>rfl) (n:=n1) ⋯
  (λ k' Gm L hL=>by
   let#[u,hu]:=vU (xs:=xs) (j:=3+4*k+k') ⋯;let#[w,IP,GB]:=XX k u sz (Nat.zero_lt_of_lt hk);rw[Ca];show#[w,IP,im (nT k'),(tV rfl (zw (zo rfl (zo rfl (zo (ze rfl (ze (ze rfl (ze À mu) rfl) À) hu) (zo À)))) GB) ⋯:eZ (tH Ě L Ę Ň (im (Ã v)) (im (nT sz)) (im (nT k')))=_)])
  ws ⋯
 have CJ:ť (os.map kt++[kt b]) Ü=↑(kt b):=xS (by rw[Bx Î];simp[ho]);have pre:∀ o,_->jv (tH Ã4 Ň Õ none)=o:=λ o h=>zr (zH (ze rfl (ze rfl (ze À mu) rfl) hv)) (zr (tV rfl (ze rfl ĭ hb) Î) (zr (zH (ze rfl Ì hsz)) (zr (wF (nU (n:=n1) (ze rfl Ì (ç Œ hn1)) ⋯) g1) h)));have t1:=Zp b;have t2:=ī (v/24%3) 0 È;cases b with
 | È=>show#[È,new,ss,_,pre _ (yy (jz Ĳ) rfl),rfl,⋯,g3,.inl rfl]
 | true=>
  by_cases h:v/24%3=0
  .rw[za2 h] at t2;obtain⟨pu,DY⟩:∃ pu:Bool,v/72%2=yQ pu:=by
    rcases Int.emod_two_eq (v/72) with h | h
    .show#[È,h]
    .show#[true,h]
   exact#[true,new,ss++[#[k,pu,1+v/144%4,v/576%5]],_,pre _ (xF Å0 (tV rfl (yD (zo rfl (zo (ze (ze À (xP ())) rfl (by rw[yw (),DY])) (zo (ze rfl Ì rfl) (zo Ì rfl)))) Í) Î)),?_,⋯,g3,.inr #[_,rfl,rfl,ń,ń]];rw[Bz (l₁:=ss)];rfl
  .rw[za3 h] at t2;show#[true,new,ss,_,pre _ (yy Å0 rfl),rfl,⋯,g3,.inl rfl]
def vd (w:Wy):è:=[(w.f:Int),(w.t:Int),w.a,w.b]
def bB (r:è):Wy:=#[(r.getD 0 0).toNat,(r.getD 1 0).toNat,r.getD 2 0,r.getD 3 0]
def VJ {ws:ġ}(h0:ws≠[]) (hl:ė<64):
  ∃ F9:ġ,sC [Ö ĕ]=↑(Ö (F9.map zX))/\F9.length<=ė/\∀ w,w∈F9↔w∈ws:=by
 have hm:∀ r,r∈L4.xo (w9 (ž))↔r∈ ž:=λ r=>by rw[(L4.t6 _).mem_iff,nK]
 have hn:∀ r∈ ž,∃ w∈ws,vd w=r:=λ r hr=>Aw.mp hr;exact#[(L4.xo (w9 (ž))).map bB,?_,?_,λ w=>#[λ h=>?_,λ h=>Aw.mpr #[vd w,(hm _).mpr (C3 h),rfl]]]
 .have:=VI (ž) (λ e=>h0 (List.map_eq_nil_iff.mp e)) (by rw[AD];show hl) (λ r hr=>by let#[w,_,rfl]:=hn r hr;show nofun);rw[A0] at this;exact this.trans (ç (λ l=>↑(T.lst l)) ?_);rw[A0];exact Cz λ r hr=>?_;let#[w,_,rfl]:=hn r ((hm r).mp hr);rfl
 .have:=gH (ž);rw[AD] at this ⊢;rw[(L4.t6 _).length_eq];show this
 .let#[r,hr,rfl]:=Aw.mp h;let#[w,hw,rfl]:=hn r ((hm r).mp hr);show hw
theorem lT {l:ē}(h:Ġ<=10000):rl [Ö l]=↑(û l):=by
 have:Ġ<=16777216:=⋯;simp[this]
def JQ (c:Int) (most zA:Nat) (h1:1<=most) (h8:most<=8) (hb:zA<=6):
  é:=by
 let#[xs,Eu,hx]:=XZ c 43 ();let#[v0,hv0]:=vU (xs:=xs) (j:=0) ⋯;let#[v1,G7]:=vU (xs:=xs) (j:=1) ⋯;let#[r,rm,hr]:=oa v0 h1;let#[A,hA,mA]:=ky v1 (A:=(zA:Int)) ⋯;let#[B,hB,mB]:=ky (v1/13) (A:=(zA:Int)) ⋯;let#[ρ',g1,os,ws,ss,rfl,i1,i2,i3,i4,i5,i6,i7]:=uI (is:=Á7) (g:=zy 8) (b:=jv) (ľ)
   (λ p ρ=>∃ (os:List Bool) (ws:ġ) (ss:List Sl),ρ=tH â ĕ Ę Õ Õ
    /\ os.length=ă/\ė<=3*ă/\(∀ w∈ws,w.f<1+r/\w.t<1+r)/\(∀ x<ă,∃ w∈ws,w.f=x)/\ss.length<=ă/\(∀ s∈ss,s.p<ă/\ŕ)/\ss.Pairwise (λ a b=>a.p≠b.p))
   (ê (1+r)) (tH Ť xs (1+r) [] [] [] Õ Õ) #[[],[],[],rfl,rfl,#[],nofun,nofun,#[],nofun,.nil] (by
  rintro p k q e ρ ⟨os,ws,ss,rfl,r1,r2,r3,r4,r5,r6,r7⟩;have hk:k<1+r:=AQ.mp ò;have hpk:k=ă:=by
   have h2:=ç (λ l=>l[ă]?) e;simp![Bx (Ao _),Nat.sub_self,List.getElem?_cons_zero] at h2;let#[h3,h4]:=AN.mp h2;exists h4.symm
  let#[b,new,HQ,ρ',t1,t2,t3,t4,t5]:=UR Ť hx (many:=1+r) ⋯ hk (r1.trans hpk.symm) (ws:=ws) ⋯ (ss:=ss) ⋯;rw[Ca,A6,List.length_singleton];exact#[ρ',t1,os++[b],ws++new,HQ,by rw[t2,Bz (l₁:=os)];rfl,by simp[r1],by rw[A6];lia,λ w hw=>?_,λ x hx=>?_,?_]
  .rcases AG.mp hw with h | h
   .show r3 w h
   .have:=t4 w h;lia
  .by_cases h:x<ă
   .let#[w,h1,h2]:=r4 x h;show#[w,Bm _ h1,h2]
   .show#[new[0],AY _ (BA t3.1),by have:=t4 _ (BA t3.1);lia]
  .have g:∀ s∈ss,s.p<ă+1/\ŕ:=λ s hs=>by have:=r6 s hs;lia
   rcases t5 with rfl | ⟨s,rfl,s1,s2⟩
   .show#[⋯,g,r7]
   .exact#[by simp;lia,λ z hz=>?_,Dg.mpr #[r7,#[],λ a ha d hd=>?_]]
    .rcases AG.mp hz with h | h
     .show g z h
     .cases Au.mp h;lia
    .cases Au.mp hd;have:=r6 a ha;lia)
 rw[CW] at i1 i2 i4 i5 i6;have run:∀ GS F8:ġ,_->ï:=λ GS F8 h j1 hl=>yp (zr (zH (zw rfl Eu)) (zr (zH (ze rfl (ze (ze À hv0) rfl hr) rfl)) (zr rfl (zr rfl (zr rfl (zr (wF (nU (n:=1+r) rfl ⋯) g1) (zr (ρ':=tH â (GS.map zX) Ę Õ Õ) h (zr (zH (yD (zo (ze (ze À G7) Á mA) (zo (ze (ze (ze À G7) rfl (xP ())) Á mB) rfl)) Í)) (xc (yD (zo rfl (zo (zw rfl (lT Î)) (zo (zw (zo (zw rfl j1) rfl) (lT Î)) (zo (zw rfl (lT Î)) rfl)))) Í)))))))))) rfl;have fin:∀ GS:ġ,GS.length<=24->(∀ w∈GS,w.f<1+r/\w.t<1+r)->(∀ w∈ws,w∈GS)->(∀ F8:ġ,ï)->é:=λ GS ZJ ho hi h=>by
  let#[w0,GJ,_]:=i4 0 ⋯;let#[F8,j1,j2,j3]:=VJ (ws:=GS) (λ e=>by rw[e] at hi;show nomatch hi _ GJ) ⋯;show#[_,h F8 j1 ⋯,#[hA.1,show A<=12 by lia,hB.1,show B<=12 by lia,show 1<=os.length by lia,show os.length<=8 by lia,λ w hw=>by rw[i1];show ho w ((j3 w).mp hw),show F8.length<=60 by lia,λ s hs=>(i6 s hs).2,.inr (Ee (Int.mul_le_mul (c:=7) (d:=7) (show A+1<=7 by lia) (show B+1<=7 by lia) (show 0<=B+1 by lia) ()) ()),show ss.length<=60 by lia],λ x hx=>by
   let#[w,q1,q2]:=i4 x (i1▸hx);show#[w,(j3 w).mpr (hi w q1),q2],i7]
 have t:=ī (v0/8%8) 1 È;by_cases h:v0/8%8=1
 .rw[za2 h] at t;obtain⟨n9,hn9,n9'⟩:∃ n:Nat,wR [Ã 9,Ã (24-(ė:Int))]=↑(nT n)/\n<=9/\ė+n<=24:=by
   by_cases z:24-(ė:Int)<9
   .show#[24-ė,by simp[z,nT];lia,⋯]
   .show#[9,by simp[z,nT],⋯]
  let#[pl,plm,Ap]:=oa (v0/64%8) (n:=1+r) ⋯;have hlen:xx [Ö ĕ]=↑(nT ė):=#[];let#[new,k1,k2,k3]:=X6 (b:=eV) (pl:=pl) (many:=1+r) (E:=λ rs x=>tH â rs Ę Õ none x) (λ _ _=>rfl) (n:=n9) ⋯
   (λ k' Gm L hL=>by
    let#[u,hu]:=vU (xs:=xs) (j:=34+k') ⋯;let#[w,IP,GB]:=XX pl u 3 (Nat.zero_lt_of_lt plm);rw[Ca];show#[w,IP,im (nT k'),(tV rfl (zw (zo (ze ü Ap) (zo rfl (zo (ze rfl Á hu) (zo À)))) GB) ⋯:eV (tH â L Ę Õ none (im (nT k')))=_)])
   ws ⋯
  exact fin (ws++new) (by rw[A6];lia) (λ w hw=>?_) (λ w hw=>Bm _ hw) λ F8=>run _ F8 (xF (zJ (ze ü t)) (wF (nU (zw (zo rfl (zo (ze rfl (zw rfl hlen) rfl) rfl)) hn9) ⋯) k1));rcases AG.mp hw with h | h
  .show i3 w h
  .have:=k3 w h;lia
 .rw[za3 h] at t;show fin ws ⋯ i3 (λ _ h=>h) λ F8=>run _ F8 (yy (zJ (ze ü t)) rfl)
def mi (x y:Int):(if y<x then y else x)=min x y:=by split <;> lia
def sv (o:Ó (Å)):T:=match o with
 | none=>.zp
 | some r=>zu r
def mq ð:zh (ć) (Ã 0)=↑(ä):=Š
def kY ð:zh (ć) (Ã 1)=↑(û À6):=Š
def ml ð:zh (ć) (Ã 2)=↑(û (Ä2)):=Š
def Z_ ð:À2:=Š
theorem Wa ð Ÿ Á5:lu [ć,zu q,Ã (i:Int)]=↑(sv (tw F q w)):=by
 have GJ:=mq F;have GB:=ml F;have hi:ĳ=↑(ŵ):=Ō;unfold lu Wq tw zu;generalize Ä2=WS,ć=fl at *;simp![zh] at GJ GB;by_cases h1:q.1+w.a<0
 .simp[h1,ltI,sv,GB,hi]
 .by_cases h2:q.2+w.b<0
  .simp[h1,h2,ltI,sv,GB,hi]
  .simp[h1,h2,ltI,sv,GJ,GB,hi,mi,zu]
def XA {a b:Ae}Ţ{y:Ó T}(ha:a ρ=↑ Ē) (hb:b ρ=y):tX a b ρ=y:=by
 change (a ρ).bind _=_;rw[ha];show hb
def Jt {a b:Ae}Ţ(ha:a ρ=↑(.bl È)):tX a b ρ=↑(.bl È):=by
 change (a ρ).bind _=_;rw[ha];rfl
theorem JI Ŏ{l:á}{q:Å}Á5 (ht:w.t<Ġ) (hb:(l.getD w.t []).length<=10000):dM [ć,zu q,Ã (i:Int),rT l]=↑(.bl (xj F l q w)):=by
 have GB:=ml F;have hi:ĳ=↑(zX w):=Ō;have h2:=Wa F q hw;unfold xj;cases ho:tw F q w with
 | none=>rw[ho] at h2;show yp (zr (zH (zw rfl h2)) (xc (Jt Á))) rfl
 | some r=>rw[ho] at h2;show yp (zr (zH (zw rfl h2)) (xc (XA Á (zw (zo (ze rfl (ze (ze (ze À GB) rfl hi) À) (nS l w.t ht)) rfl) (JO (l.getD w.t []) r hb))))) rfl
def uT ð (s:Sl) Ÿ (k:Nat):Å:=yW s.pu (č-k*s.gv) (min (yr s.pu q+k*s.gt) (F.zA (!s.pu)))
theorem jo Ŏ{s:Sl}(hs:ŕ):∀ ţ {q:Å},y6 F q->č<n->∀ k:Nat,(uc F s n q)[k]?=Ű
 | 0,q,h,hn,_=>by
  have:=(Ř h).1.1;lia
 | n+1,q,h,hn,0=>by
  have h':=Ř h;unfold uc uT;rw[List.getElem?_cons_zero,Ù Î];simp![Int.natCast_zero,Int.zero_mul,Int.sub_zero,Int.add_zero];rw[Int.min_eq_left h'.2.2,nu]
 | n+1,q,h,hn,k+1=>by
  have h':=Ř h;have e1:((k+1:Nat):Int)*s.gv=k*s.gv+s.gv:=by rw[Co,Cj];lia
  have e2:((k+1:Nat):Int)*s.gt=k*s.gt+s.gt:=by rw[Co,Cj];lia
  have k0:0<=Ü*s.gt:=Cu ⋯ hs.2;have k1:0<=Ü*s.gv:=Cu ⋯ ⋯;unfold uc;rw[C5];by_cases hg:s.gv<=č
  .rw[Ù hg];have hi:y6 F Ī:=by
    rw[vn (pu:=s.pu),vW,sP];lia
   rw[jo hs n hi (by rw[vW];lia) k,vW];unfold uT;rw[vW,sP,e1,e2];by_cases hk:Ü*s.gv<=č-s.gv
   .rw[Ù hk,Ù ⋯];congr 2
    .lia
    .lia
   .rw[Ď hk,Ď ⋯]
  .rw[Ď hg,e1,Ď ⋯];rfl
def KS ð (pu:Bool):ť [Þ F.A,Ã F.B] (1-yQ pu)=↑(Ã (F.zA (!pu))):=Ŧ
theorem JW Ŏ{s:Sl}{q:Å}{k:Nat}(hk:k<=100):l9 [ä,yE s,zu q,Ã Ü]=↑(sv (Ű)):=by
 have mu:∀ j,xg (nT k) (Ã j)=↑(Ã (k*j)):=λ j=>p_ (.inl ş);have pre:Ą:=λ o h=>zr (zH Á) (zr (zH (ze (ze À (gp q s.pu)) (ze rfl Á (mu s.gv)) rfl)) h);by_cases h:Ü*s.gv<=č
 .rw[Ù h];have p2:Ą:=λ o g=>pre _ (zr (yy (zJ (ze À (ç ā (za3 ⋯)))) rfl) (zr (zH (zw (zo (ze (ze rfl Á (bR q s.pu)) (ze rfl Á (mu s.gt)) rfl) (zo (ze rfl Á (KS F s.pu)) rfl)) (ç Œ (mi _ _)))) g));unfold uT;have t:=ī (yQ s.pu) 0 È;cases DY:s.pu with
  | true=>rw[DY] at p2 t;show yp (p2 _ (zr (yy (zJ (ze À t)) rfl) (xc (yD rfl Í)))) rfl
  | È=>rw[DY] at p2 t;show yp (p2 _ (ui (xF (zJ (ze À t)) (xc (yD rfl Í))))) rfl
 .rw[Ď h];show yp (pre _ (ui (xF (zJ (ze À (ç ā (za2 ⋯)))) rfl))) rfl
def oJ ð Ĵ Ÿ:(yR F p q)[0]?=↑q:=by
 unfold yR;cases F.Ff p with
 | none=>rfl
 | some s=>rfl
theorem Wd à ŉ {q:Å}(hq:y6 F q) {k:Nat}(hk:k<=100):p9 [ć,Ã ĩ,zu q,Ã Ü]=↑(sv (yR F p q)[k]?):=by
 cases k with
 | zero=>
  rw[oJ];unfold p9 ic sv zu;simp[ī]
 | succ k=>
  have G2:¬ (Ü+1=0):=⋯;have h1:=Wb F p hp ok.s8;have GJ:=mq F;unfold yR;cases hs:F.Ff p with
  | none=>
   rw[hs] at h1;have i1:wB È .zp .zp=↑ Ē:=rfl;unfold p9 ic;generalize pk=f1,l9=f2,ć=fl,zu q=pq at *;simp[ī,G2,h1,i1,sv]
  | some s=>
   rw[hs] at h1;have FQ:=ok.ss s (CM hs);have hgv:č<20:=by
    ext ñ
    lia
   have h2:=JW (F:=F) (s:=s) (q:=q) (k:=k+1) hk;rw[<- jo FQ 20 hq ⋯] at h2;rw[Co] at h2;have i1:wB È (yE s) .zp=↑(.bl È):=rfl;unfold p9 ic;dsimp only;generalize (uc F s 20 q)[k+1]?=oo,pk=f1,l9=f2,ć=fl,zu q=pq at *;dsimp only at h1;generalize yE s=sl at *;simp![zh] at GJ;simp[ī,G2,h1,i1,GJ,h2]
def ve ð Ĵ:List (Wy×Nat):=F.ws.zipIdx.filter į
def ip Ŏ{p:Nat}{wi:Wy×Nat}(h:wi∈ve F p):F.ws[wi.2]?=↑wi.1/\wi.1.f=p:=by
 let#[h1,h2]:=A7.mp h;show#[Eb.mp h1,of_decide_eq_true h2]
def WR Ŏ{p:Nat}(t:Wy->Bool):(ve F p).any (λ wi=>t wi.1)=(qq F p).any t:=by
 unfold qq;rw[<- lH (Ĭ) F.ws 0,List.any_map];rfl
theorem YR Ŏ{s:Sl}:∀ ţ Ÿ,(uc F s n q).length<=n+1
 | 0,q=>by unfold uc;simp
 | n+1,q=>by
  unfold uc;rw[AX];split
  .have:=YR n (F:=F) (s:=s) Ī;lia
  .simp
def YQ ð Ĵ Ÿ:(yR F p q).length<=21:=by
 unfold yR;cases F.Ff p with
 | none=>simp
 | some s=>show YR 20 q
structure Fix ð (l:á):Prop where
 ok:F.Ok
 len:Ġ=Ç
 gd:∀ b∈l,Ģ
 pw:ģ
 go:∀ p<Ç,∀ q,y6 F q->zI (Ä6) q=mh F l p q
section
variable {Ŏ}{l:á}
def Fix.at (X:Fix F l) ŉ:Gd Ħ (Ä6):=by
 have Hj:p<Ġ:=by rw[X.len];show hp
 rw[Bo,A5 Hj];show X.gd _ (BA Hj)
def Fix.sz (X:Fix F l):∀ b∈l,b.length<=10000:=λ b hb=>by
 have:=(X.gd b hb).rM X.ok.a0;have:=X.ok.a1;lia
def gA ŉ:ť À6 ĩ=↑(kt (Ķ)):=xS (by rw[AE,Bo,A5 hp];rfl)
end
def Lb à (hpw:ģ) {m:Nat}(hg:∀ b∈ š,Ģ) (AL:yb F (m+1)=š):Fix F (š):=by
 exact#[ok,ot F m,hg,hpw,λ p hp q hq=>?_];have hg':∀ p,Gd Ħ ((š).getD p []):=λ p=>by
  rcases Bw p (š).length with h | h
  .rw[Bo,A5 h];show hg _ (BA h)
  .rw[Bo,CS h];show Gd.nil
 have e:(š).getD p []=xi F (š) p:=by
  have:(yb F (m+1)).getD p []=xi F (š) p:=fH (λ p=>xi F (š) p) Ç p [] hp;rw[AL] at this;show this
 rw[e];show O1 ok hg' p hq
def oX (Fj:Â0):T:=Ö (Fj.map rT)
structure qg ð Å2:Prop where
 fx:Fix F (š)
 gd:∀ k,k<=m->∀ b∈yb F k,Ģ
def tu ð Å2:Â0:=(ê (m+1)).map (yb F)
section
variable {Ŏ}{m:Nat}
def Vn ð Å2:(tu F m).length=m+1:=by unfold tu;simp
def cL:ť ((tu F m).map rT) (-1)=↑(rT (š)):=by
 unfold tu;rw[List.range_succ,Bz,Bz];show X3
end
abbrev Sd:=Ó (Nat×(Å))
def vO (o:Sd):T:=match o with
 | none=>.zp
 | some x=>û [Ã (x.1:Int),zu x.2]
def xR ð (r:Å) (w:Wy):Sd:=(tw F r w).map λ x=>(w.t,x)
def hF ð Å2 (st:Sd) ţ:List (Str×T):=[("floor",ć),("told",oX (tu F m)),("stand",vO st),("done",Ã ğ)]
theorem JC (A B:Int) Ÿ (h:(0<=q.1/\q.1<=A)/\0<=q.2/\q.2<=B):jP [zu q,Ŭ]=↑ Ē:=by
 have hc:jr [↑(.im (zu q)),↑(.im (Ŭ))]=↑(Ö ([(q.1,A),(q.2,B)].map λ x:Å=>T.bl true)):=by
  unfold jr;exact sL (λ x:Å=>T.tup [Ã x.1,û [Ã 0,Ã x.2]]) _ [(q.1,A),(q.2,B)] (by simp[zu]) #[] λ x hx=>?_;have GA:0<=x.1/\x.1<=x.2:=by
   simp![Ak,List.mem_nil_iff,or_false] at hx;rcases hx with rfl | rfl
   .show h.1
   .show h.2
  simp[XW,GA]
 unfold jP W5;have it:uJ "tuple" "tuple"=true:=()
 generalize jr=cc at *;simp[zu] at hc;simp[zu,it,ī,hc,qa]
def JZ ð Ÿ (h:(0<=q.1/\q.1<=F.A)/\0<=q.2/\q.2<=F.B):dY [ć,zu q]=↑.zp:=
 gB (yy (tE (vK (zw (zo rfl (zo (yD (zo À3 (zo À3 rfl)) Í) rfl)) (JC Ħ q h)))) rfl) rfl
def Wf à ŉ {q r:Å}(hq:y6 F q) {k i:Nat}{w:Wy}(hk:k<=100) (hr:(yR F p q)[k]?=↑r) (hw:F.ws[i]?=↑w) (hf:w.f=p):
  jU [ć,Ã ĩ,zu q,û [Ã Ü,Ã (i:Int)]]=↑(vO (xR F r w)):=by
 have h1:dU [ć,nT i]=↑ Ē:=yp (xc (zw (zo rfl (zo rfl (zo (ze (zw (zo Ź) (kH zX F.ws)) À) rfl))) (We (AN.mp hw).1))) rfl;have h2:ĳ=↑(zX w):=Ō;have h4:=ī (w.f:Int) ĩ true;rw[hf,za2 rfl] at h4;have h3:dX [ć,nT p,nT i]=↑.zp:=gB (yy (sH (tE (vK (zw rfl h1))) (zJ (ze (ze (ze Ź h2) À) rfl (by rw[hf];show h4)))) rfl) rfl;have h5:=Wd ok hp hq hk;rw[hr] at h5;have h6:jQ [nT k]=↑ Ē:=by
  have:p8 [Ã Ü]=↑ Ē:=by simp[p8,cq,uJ]
  simp[jQ,W6,this]
 have h7:dJ [ć,nT p,zu q,nT k]=↑(zu r):=yp (zr (yy (tE (vK (zw rfl h6))) rfl) (zr (zH (zw rfl h5)) (zr (yy Â3) rfl))) rfl;have h8:=Wa F r hw;have pre:∀ o,_->WA [Ä7,Ä8,im (zu q),im (û [nT k,nT i]),none,none,none,none]=o:=λ o h=>zr (zH Á) (zr (zH Á) (zr (jg (zw rfl h3)) (zr (zH (zw rfl h7)) (zr (zH (zw rfl h8)) h))));unfold xR;cases hs:tw F r w with
 | none=>rw[hs] at pre;show yp (pre _ (ui (xF Â3))) rfl
 | some x=>rw[hs] at pre;show yp (pre _ (zr (yy Â3) (xc (yD (zo (ze (ze Ź h2) À) rfl) Í)))) rfl
def uO ð (l:á) Ĵ:Nat->Ý->Ó (Nat×Nat)
 | _,[]=>none
 | k,r::cs=>match Đ with
  | some wi=>↑(k,wi.2)
  | none=>uO F l p (k+1) cs
def dT (o:Ó (Nat×Nat)):T:=match o with
 | none=>.zp
 | some x=>û [Ã (x.1:Int),Ã (x.2:Int)]
theorem Yy Ŏ{l:á}{p:Nat}:∀ {cs:Ý}{k:Nat}{x:Nat×Nat},uO F l p k cs=↑x->k<=x.1/\∃ r w,cs[x.1-k]?=↑r/\F.ws[x.2]?=↑w/\w.f=p/\xj F l r w=true
 | [],k,x,h=>by cases h
 | r::cs,k,x,h=>by
  unfold uO at h;cases ho:Đ with
  | some wi=>
   rw[ho] at h;cases h;let#[h1,h2]:=ip (CM ho);show#[Ao _,r,wi.1,#[],h1,h2,by exists List.find?_some ho]
  | none=>
   rw[ho] at h;let#[h1,r',w,h2,h3]:=Yy h;exact#[⋯,r',w,?_,h3];rw[show x.1-k=(x.1-(k+1))+1 by lia,C5];show h2
theorem Yz Ŏ{l:á}{p:Nat}:∀ {cs:Ý}{k:Nat},(cs.any λ r=>(qq F p).any (xj F l r))=true->∃ x,uO F l p k cs=↑x
 | [],k,h=>by cases h
 | r::cs,k,h=>by
  unfold uO;cases ho:Đ with
  | some wi=>show#[_,rfl]
  | none=>
   exact Yz ?_;rw[BE,<- WR,Ef] at h;rcases h with h | h
   .rw[List.find?_eq_none] at ho;let#[wi,h1,h2]:=Bg.mp h;show absurd h2 (ho wi h1)
   .show h
)
example:=`(
example Ĳ:=of_decide_eq_true
example À:=Ĳ rfl
example Á _:=x rfl rfl
example Â _:=x none none none
example Ç:=.int
example Ĵ:=yQ s.pu
example Ã _:=x (im (nT s.p)) (im (Ç (Ĵ))) (im (Ç s.gv)) (im (Ç s.gt))
example ĵ:=(p,q)
example Ō _:=x F m
example Ä _:=x Ō ↑ ĵ
example Ê:=F.os.length
example Å:=∀ x<Ê,∃ w∈F.ws,w.f=x
example Æ:=Int×Int
example Ø:=.str "keeper"
example Ď:=xp (za (cS (Ø)) (za (cS (.str "taker")) zf))
example ı _:=x zh (zc 1)
example ā _:=x (zb ı (cI 4)) (cI 2)
example È:=(za (cS (Ø)) (za (zb zh (Ď) (zb zS (zb yI ā) (cI 2))) zf))
example Ð:=T.int
example Ó:=(k:Int)
example ĩ:=λ k:Nat=>Ð (0+Ó)
example ě:=vf F p
example É:=(ě).map ĩ
example Ë:=os.length
example ã:=im (nT p)
example Ņ:=.tup
example Þ:=Ņ [nT k,nT i]
example í:=im (zu q)
example đ:=im (Ç c)
example Ì _:=x sf cs (ã) (í) (đ) (im (Þ)) z
example Ĝ:=Option
example ü _:=x Ō st
example ă:=hF ü n
example Í{cs:List Str}{i:Nat}{a:Ĝ Addr}{c:Str}{st:Sd}{n:Nat}{ρ:Ev}(h0:ρ[i]?=↑↑(.own (.obj a c (ă)))) (hc:c∈cs):=0
example Î _:=x rfl y8
example Ï:=F.ss.Pairwise (λ a b=>a.p≠b.p)
example Ñ:=false
example Ò _:=x F p q
example Ô(hq:y6 F q):=0
example Õ:=(zJ (ze Á rfl))
example Ö{p:Nat}:=0
example Ù _:=x rfl (yw ())
example Ú _:=x c xs A B N a b pu os
example Û:=qO F l p q k (zu r)
example Ľ:=zC F
example Ü:=im (Ľ)
example Ý:=F.os.getD p Ñ
example Ī:=eq_int
example ù:=congrArg
example ß:=((Ī _ _ _).trans (ù (λ b=>↑(T.bl b)) (decide_eq_decide.mpr ⋯)))
example à:=qk [Ľ]=↑(oX (tu Ō))
example á:=decide
example â:=(.bl true)
example Ġ:=(yR Ò)
example ä:=Ġ[k]?=↑r
example ņ:=ve F p
example å:=(ņ).find? (λ wi=>xj F l r wi.1)
example æ:=#[0,Ë-1,a,b]
example ď:=(À)
example ç:=(yD rfl ď)
example è:=(yb Ō)
example é:=by split <;> lia
example ê:=(ze (sR Î) Á)
example ë:=(xR F r w)
example ì:=cp [Ü,im (rT l),đ,none,none,none,none,none]
example î:=(zJ (ze (ze (ze Á (kY F)) rfl (gA hp)) rfl (by rw[ho];show tk)))
example ï(hp:p<Ê):=0
example ð(ok:F.Ok):=0
example ñ _:=x ↑a "Keeper"
example ĺ(F:zq):=0
example ò ĺ (m:Nat):=0
example ó:=(zJ (ze (ze (ze (zw rfl (pB ns 0)) rfl (xP ())) Ù) rfl t))
example ô:=zI ((yb Ō).getD p []) q=true
example õ:=.lst (cs.map Ð)
example ö _:=x Â none
example ø:=(by change (zb zh _ _ _).bind _=_;rw[ze Á (Z_ F)];rfl)
example ú:=xD 4 (yf (zy 6) (yf (zy 7) (yf (zy 8) (yf (zy 9) wa))))
example û:=(zJ (ze Á hq))
example ý:=(nT k)
example þ:=(ze Á u5)
example ÿ:=List.range
example Ā(R:qg Ō):=0
example Ă:=[Ľ,nT p,zu q,Þ]
example Ą:=turn (zy 9) lg (Ç c) (tD ü st n n sf cs Â Â)
example ą:=yr s.pu q+Ó*s.gt
example Ć:=by dsimp only;lia
example ć:=ns.getD
example Ĉ _:=x Î Á (XY (m:=m) (q:=q) (n:=n) hp (by rw[ho];rfl))
example ĉ:=F.ws[i]?=↑w
example Ċ:=(cI 0)
example ċ:=(cI 1)
example Č{q:Æ}:=0
example č _:=x (ze (ze Á f2) rfl h2) rfl
example Đ:=(n+1)
example Ē:=Ņ (os.map kt)
example ē(a:Addr):=0
example Ĕ:=if_pos
example ĕ:=(ze Á u6)
example Ė:=(sg F k).f
example ė:=F.zA (!s.pu)
example Ę(p:Nat) (q:Æ) (k:Nat):=0
example ę:=(if x.2+w.b<x.1+w.a then x.2+w.b else x.1+w.a)
example Ě:=F.ws.length
example ĝ:=(zc 7)
example Ğ:=List Int
example ğ _:=x Î rfl
example ġ:=(p:Int)
example Ģ:=hW a Ä n
example ģ:=R.fx.ok
example Ĥ:=(s.p:Int)
example ĥ:=(.nx ρ')
example Ħ:=by have hg:=vn (pu:=s.pu).mp hq;have:=Xf ok s.pu
example ħ:=(ze (nq ğ (o7 ğ)) rfl hn)
example Ĩ:=((ņ).map λ wi=>Ð (wi.2:Int))
example ī:=Ó*s.gv<=zR s.pu q
example Ĭ:=uT F s q k
example ĭ:=ws.map
example Į:=(.lst (xs.map Ð))
example į:=#[À,À]
example İ _:=x (ze Á f0) rfl
example ĳ:=L2.zT
example Ķ(n:Nat):=0
example ķ:=xj F è r w=true
example ĸ:=if_neg
example Ĺ:=kD ns (nT most) (nT zA) Ō ö
example Ļ _:=x Ò k
example ļ(hk:k<=100):=0
example ľ:=(zJ (ze Á ne))
example Ŀ:=#[0,0,0-1-v6%3,0-v7%3]
example ŀ:=[5,6,7,8]
example Ł:=(vO st)
example ł:=List Wy
example Ń:=(zo (zw rfl (pB ns 1)) rfl)
example ń(gw:Å):=0
example Ň:=["Keeper"]
example ň:=(nT i)
example ŉ:=s.p=p
example Ŋ:=im (rT è)
example ŋ:=[2,3,9,10,11,12]
example ō{F:zq}:=0
example Ŏ:=xq is g b (xs.map enc) ρ
abbrev qO ĺ (l:List Bd) Ę (r:T):Ev:=[Ü,ã,í,im (rT l),im (.lst Ĩ),im ý,im r,none]
section
variable {ō}{ð}{l:List Bd}(hl:l.length=Ê)(hb:∀ b∈l,b.length<=10000) {Ö}{Č}
include ok hl hb
theorem LQ {r:Æ}{k:Nat}:xq [7] (zy 7) da Ĩ (Û)=↑(match å with | some wi=>.rt (Ņ [nT k,nT wi.2]) | none=>.nx (Û)):=
 (kF (is:=[7]) (g:=zy 7) (b:=da) (λ wi:Wy×Nat=>Ð (wi.2:Int)) (λ wi=>Ņ [nT k,nT wi.2]) (λ wi=>xj F l r wi.1) (Û) (ņ) (Û) rfl λ wi hw=>by
  let#[h1,h2]:=ip hw;have ht:wi.1.t<l.length:=by rw[hl];show (ok.ws wi.1 (Bh h1)).2
  have h3:=JI (F:=F) (q:=r) h1 ht (hb _ (getD_mem ht));cases hc:xj F l r wi.1 with
  | true=>rw[hc] at h3;show#[Û,rfl,pN rfl (xF (vK (zw rfl h3)) (xc ç))]
  | Ñ=>rw[hc] at h3;show#[(Û).set 7 (im (nT wi.2)),rfl,pN rfl (yy (vK (zw rfl h3)) rfl)]).trans (by cases å <;> rfl)
theorem Yx ï Ô:∀ (cs:List (Æ)) (k m:Nat),(yR Ò).drop k=cs->k+cs.length<=21->cs.length<m->
  ∃ ρ',wU [7] (zQ (zb (wB true) (zc 6) (cS .zp))) Xu m (qO F l p q k (sv Ġ[k]?))=↑(match uO F l p k cs with | some x=>.rt (dT ↑x) | none=>.nx ρ')
 | [],k,m+1,h,_,_=>by
  have:=ù List.length h;simp at this;rw[CS ⋯];show#[_,kC Õ]
 | r::cs,k,m+1,h,hk,hm=>by
  have hr:ä:=by
   have:=ù (λ x=>x[0]?) h;exists this
  have hd:(yR Ò).drop (k+1)=cs:=by
   have:=ù List.tail h;rw[List.tail_drop] at this;exists this
  rw[AX] at hk hm;have hf:=LQ ok hl hb (p:=p) (q:=q) (k:=k) (r:=r);rw[hr];unfold uO;cases ho:å with
  | some wi=>rw[ho] at hf;show#[[],OU Õ (ui (wF rfl hf))]
  | none=>
   rw[ho] at hf;let#[ρ',e]:=Yx hp hq cs (k+1) m hd ⋯ ⋯;show#[ρ',kB Õ (zr (wF rfl hf) (zr (zH (ze Á rfl)) (zH (zw rfl (Wd ok hp hq (k:=k+1) ⋯))))) e]
theorem JV ï Ô:dW [Ľ,Ç ġ,zu q,rT l]=↑(dT (uO F l p 0 Ġ)):=by
 have hl21:=YQ Ò;let#[ρ',hw]:=Yx ok hl hb hp hq Ġ 0 1000000 rfl ⋯ ⋯;rw[oJ] at hw;have pre:∀ o,_->W9 [Ü,ã,í,im (rT l),none,none,none,none]=o:=λ o h=>zr (zH (zw rfl (dE F p hp ok.sj))) (zr (zH rfl) (zr (zH rfl) h));cases hd:uO F l p 0 Ġ with
 | some x=>rw[hd] at hw;show yp (pre _ (ui hw)) rfl
 | none=>rw[hd] at hw;show yp (pre _ (zr hw rfl)) rfl
end
section
variable {ō}{m:Nat}
abbrev hW ē ò (st:Sd) Ķ:W:=.own (.obj ñ (ă))
abbrev nZ (v:T) ē ò (st:Sd) Ķ:T:=wO v [(a,.obj none "Keeper" (ă))]
def y8:("Keeper":Str)∈(Ň:List Str):=Au.mpr rfl
def JN (hr:à) Ö ï Č Ô ē:
  ck [.own (.obj ñ []),.im (Ľ),.im (nT p),.im (zu q)]=↑(nZ .zp a Ä 0):=
 kb (L:=[(a,.obj ñ (hF Ä 0))]) (zr (jg (zw rfl (dZ F p hp))) (zr (jg (zw rfl (JZ F q hq))) (zr (pV Î ď Á) (zr (pV Î ď (zw rfl hr) rfl) (zr (pV Î ď ç rfl) (pV Î ď Á)))))) Á
def sR Í:x8 cs i "stand" ρ=↑ Ł:=o7 h0 hc rfl
def kT Í:x8 cs i "floor" ρ=↑(Ľ):=o7 h0 hc rfl
def XY Ö Č{n:Nat}{s:T}ï (hs:kt (Ý)=s) ē:jY [Ģ,.im s]=↑(nZ .zp a Ä n):=by
 have h2:=gA (F:=F) hp;have h3:zU true (kt (Ý)) s=↑(.bl Ñ):=by rw[<- hs];cases Ý <;> simp[kt,zU,dep,eqT]
 show kb (L:=[(a,.obj ñ (hF Ä n))]) (yy (sH (zJ ê) (zJ (ze (ze (ze (kT Î) rfl (kY F)) (ze (sR Î) rfl (r:=↑(nT p)) rfl) h2) rfl h3))) rfl) Á
def X_ Ö Č{n k i:Nat}{st:Sd}(h:jU Ă=↑ Ł) ē:
  jX [Ģ,.im ý,.im ň]=↑(nZ .zp a ü Đ):=
 kb (L:=[(a,.obj ñ (hF ü Đ))]) (zr (pV (fs:=hF Ä n) (Fw:=ă) Î ď (zw (zo (kT Î) (zo ê (zo ê (zo ç rfl)))) h) rfl) (pV (fs:=ă) (Fw:=hF ü Đ) Î ď (ze (o7 ğ) Á) rfl)) Á
def JA ð Ö ï (ho:Ý=Ñ) Č Ô {i n:Nat}{w:Wy}(hw:ĉ) (hf:w.f=p) ē:
  jV [Ģ,.im ň]=↑(nZ .zp a Ō (xR F q w) Đ):=
 kb (L:=[(a,.obj ñ (hF Ō (xR F q w) Đ))]) (zr (nL (xs:=[.str "taker"]) Ĉ) (nL (xs:=[nT 0,nT i]) Î Á (X_ (m:=m) (n:=n) (k:=0) (Wf ok hp hq () (oJ Ò) hw hf)))) Á
end
theorem JP (b:Bd) (q:Æ) (hl:b.length<=100):ql [bT b,zu q]=↑(.bl (zI b q)):=by
 have hc:jq [↑(.im (bT b)),↑(.im (zu q))]=↑(.lst (b.map λ p=>T.bl (wD q p))):=by
  unfold jq;exact sL zu _ b (by simp[bT]) ⋯ λ p _=>?_;unfold wD;by_cases h:q.1≥p.1 <;> simp[sM,zu,h]
 unfold ql Wx;generalize jq=cc,bT b=bt,zu q=pq at *;simp[hc,Xk];rfl
section
variable {ō}{m:Nat}
def WQ Ö(h:∃ w∈F.ws,w.f=p):∃ wi r,ņ=wi::r:=by
 cases q:ņ with
 | cons wi r=>show#[wi,r,rfl]
 | nil=>
  let#[w,hw,hf]:=h;let#[i,hi]:=Cb.mp hw;have:(w,i)∈ ņ:=A7.mpr #[Eb.mpr hi,za2 hf];rw[q] at this;cases this
def JU Ā ń Ö ï (ho:Ý=true) Č Ô:
  ∃ (k i:Nat) (r:Æ) (w:Wy),(k<=100/\ä/\ĉ/\w.f=p)/\(ô->ķ)/\∀ Ķ ē,jW [Ģ]=↑(nZ (Þ) a Ō ë Đ):=by
 have h1:=JV ģ (l:=yb Ō) (ot Ō) R.fx.sz hp hq;let#[wi,rr,hwn]:=WQ (gw p hp);let#[IP,GB]:=ip (F:=F) (p:=p) (wi:=wi) (by rw[hwn];show Al);have w1:=dE F p hp R.fx.ok.sj;rw[show (F.ws.zipIdx.filter λ wi=>á (wi.1.f=p))=ņ from rfl,hwn,Ay] at w1;have key:∃ (k i:Nat) (r:Æ) (w:Wy),(k<=100/\ä/\ĉ/\w.f=p)/\(ô->ķ)/\∀ Ķ ē,
   z_ (zQ (zb (wB Ñ) (zc 1) (cS .zp))) (zF 1 (tupS (za Ċ (za (t9 Ň "first_way" ["self"] cx 0) zf)))) yk [↑(Ģ),im (dT (uO F è p 0 Ġ))]=↑(.nx [↑(Ģ),im (Þ)]):=by
  cases hd:uO F è p 0 Ġ with
  | none=>
   exact#[0,wi.2,q,wi.1,#[(),oJ Ò,IP,GB],λ hc=>?_,λ n a=>xF Õ (zH (yD (zo rfl (zo (nq ğ (ze (zw (zo (kT Î) (zo ê rfl)) w1) rfl u6)) rfl)) ď))];rw[R.fx.go p hp q hq] at hc;unfold mh at hc;rw[Ĕ ho] at hc;let#[x,hx]:=Yz (k:=0) hc;rw[hd] at hx;cases hx
  | some x=>
   let#[_,r,w,g1,g2,g3,g4]:=Yy hd;rw[Nat.sub_zero] at g1;have hl:=(AN.mp g1).1;have:=YQ Ò;show#[x.1,x.2,r,w,#[⋯,g1,g2,g3],λ _=>g4,λ n a=>yy Õ rfl]
 let#[k,i,r,w,#[k0,k1,k2,k3],k4,k5]:=key;show#[k,i,r,w,#[k0,k1,k2,k3],k4,λ n a=>Uh (zr (nL (xs:=[Ø]) Ĉ) (zr (zH (zw (zo (kT Î) (zo ê (zo ê (zo (ze (o7 ğ) rfl cL) rfl)))) h1)) (zr (k5 n a) (zr (nL (xs:=[nT k,nT i]) ğ (zo ĕ (zo þ rfl)) (X_ (m:=m) (n:=n) (Wf ģ hp hq k0 k1 k2 k3))) (Uq (L:=[(a,.obj ñ (hF Ō ë Đ))]) Á))))) rfl]
def sg ĺ (k:Nat):Wy:=F.ws.getD k #[0,0,0,0]
def vf ĺ (p:Nat):List Nat:=(ÿ Ě).filter λ k=>á (Ė=p)
def iq {p k:Nat}:k∈ ě ↔∃ w,F.ws[k]?=↑w/\w.f=p:=by
 unfold vf sg;rw[A7,AQ,Bo];constructor
 .rintro⟨h1,h2⟩;rw[A5 h1] at h2 ⊢;show#[_,rfl,Ĳ h2]
 .rintro⟨w,h1,h2⟩;exact#[(AN.mp h1).1,?_];rw[h1];show za2 h2
theorem Wc (hl:Ě<=60) (p:Nat):ly [Ľ,nT p]=↑(.lst (É)):=by
 exact yp (xc ((Zl (ĩ) (λ k=>if á (Ė=p)=true then ↑(Ð (0+Ó)) else none) (ÿ Ě) ?_ (by rw[CW];show Bj hl ()) λ k hk=>?_).trans (by rw[fQ];rfl))) rfl
 .change (za _ _ _).bind _=_;rw[zo (zw (zo (ze Á (ml F)) rfl) (y:=nT Ě) (ù (λ n:Nat=>↑(Ð n)) (AD ..))) rfl];show ke _ ⋯
 .have hw:ĳ (F.ws.map zX) (0+Ó)=↑(zX (sg F k)):=by
   rw[Ca];exact xS ?_;unfold sg;rw[AE,Bo,A5 (AQ.mp hk)];rfl
  have hq:=Ī (Ė:Int) ġ Ñ;rw[show á ((Ė:Int)=ġ)=á (Ė=p) from decide_eq_decide.mpr ⋯] at hq;change (zQ _ _).bind _=_;rw[zJ (ze (ze (ze (ze Á (ml F)) rfl hw) rfl u6) rfl hq)];by_cases h:Ė=p
  .rw[za2 h];rfl
  .rw[za3 h];rfl
def iO Ö{s:Sl}(h:F.Ff p=↑s):s∈F.ss/\ŉ:=#[CM h,by have:=List.find?_some h;exists this]
def oK ĺ Ę:Bool:=match F.Ff p with
 | some s=>á (ī)
 | none=>á (k=0)
def Xf ð (pu:Bool):F.zA pu<=12:=by
 have:=ok.a1;have:=ok.b1;unfold zq.zA;split <;> assumption
theorem Kv ð Ö Č Ô (k:Nat):oK Ļ=(Ġ[k]?).isSome:=by
 unfold oK yR;cases h:F.Ff p with
 | none=>
  dsimp only;cases k with
  | zero=>rfl
  | succ k=>rfl
 | some s=>
  have hs:=ok.ss s (iO h).1;ext Ħ;dsimp only;rw[jo hs 20 hq ⋯ k];by_cases c:ī
  .rw[Ĕ c,za2 c];rfl
  .rw[ĸ c,za3 c];rfl
abbrev mU ĺ Ę (a b c d:Ĝ W):Ev:=[Ü,ã,í,im ý,a,b,c,d]
theorem JK Ö Č{k:Nat}ļ:dR [Ľ,nT p,zu q,nT k]=↑(.bl (oK Ļ)):=by
 have hl:=kF (is:=[4,5,6,7]) (g:=xD 4 (yf (zy 4) (yf (zy 5) (yf (zy 6) (yf (zy 7) wa))))) (b:=e_) yE (λ s=>.bl (á (ī))) (λ s:Sl=>á (ŉ)) (mU Ļ ö) F.ss (mU Ļ ö) rfl λ s hs=>#[mU Ļ Ã,rfl,by
  have hq:=Ī Ĥ ġ Ñ;have hm:xg ý (Ç s.gv)=↑(Ç (k*s.gv)):=p_ (.inl #[⋯,⋯]);change e_ (mU Ļ Ã)=_;by_cases h:ŉ
  .rw[za2 (show Ĥ=p by rw[h])] at hq;rw[Ĕ (za2 h)];show xF û (xc (ze (ze Á hm) (ze Á (gp q s.pu)) rfl))
  .rw[za3 (show ¬ Ĥ=p by lia)] at hq;rw[ĸ (by simp[h])];show yy û rfl]
 have Ar:ltI ý (Ç 0)=↑(.bl Ñ):=ù (λ b=>↑(T.bl b)) (za3 ⋯);have pre:∀ o,_->W0 (mU Ļ ö)=o:=λ o h=>zr (yy (sH rfl (sH rfl (zJ (ze Á Ar)))) rfl) h;have fr:=wF (f:=xk (zb zh (zc 0) (cI 3))) ø hl;unfold oK zq.Ff;generalize F.ss.find? _=o at *;cases o with
 | none=>show yp (pre _ (zr fr (xc (ze Á ß)))) rfl
 | some s=>show yp (pre _ (ui fr)) rfl
abbrev qb ĺ (p:Nat) (q:Æ) (k i:Nat) (x:Æ) (a b c d:Ĝ W):Ev:=[Ü,ã,í,im ý,im ň,↑(.own (.lst [Ç x.1,Ç x.2])),a,b,c,d]
theorem Jf Ö{q x:Æ}{k i:Nat}ļ (s:Sl):∃ ρ',turn (ú) jx (yE s) (qb Ļ i x ö)=↑ ĥ/\yt [6,7,8,9] ρ'=qb Ļ i (if ŉ/\0<k then Ĭ else x) ö:=by
 have hq:=Ī Ĥ ġ Ñ;change ∃ ρ',jx (qb Ļ i x Ã)=↑ ĥ/\_;by_cases h:ŉ
 .rw[show á (Ĥ=ġ)=true from za2 (by rw[h])] at hq;have gt:ma ý (Ç 0)=↑(.bl (á (0<Ó))):=rfl;by_cases G2:0<k
  .rw[za2 ⋯] at gt;have m:∀ j,xg ý (Ç j)=↑(Ç (Ó*j)):=λ j=>p_ (.inl #[⋯,⋯]);obtain⟨j,j',y,a1,a2,a3,a4,a5,a6,a7⟩:∃ (j j':Nat) (y:Æ),wV 2 (Ĵ)=↑j/\wV 2 (1-Ĵ)=↑j'/\([Ð x.1,Ð x.2].set j (Ç (zR s.pu q-Ó*s.gv)))=[Ð y.1,Ð y.2]/\[Ð y.1,Ð y.2].set j' (Ç (min (ą) (ė)))=[Ð (Ĭ).1,Ð (Ĭ).2]/\ĳ [Ð q.1,Ð q.2] (Ĵ)=↑(Ç (zR s.pu q))/\ĳ [Ð q.1,Ð q.2] (1-Ĵ)=↑(Ç (yr s.pu q))/\ĳ [Ð F.A,Ð F.B] (1-Ĵ)=↑(Ç (ė)):=by
    unfold uT;cases s.pu
    .show#[0,1,(q.1-Ó*s.gv,x.2),rfl,rfl,rfl,rfl,rfl,rfl,rfl]
    .show#[1,0,(x.1,q.2-Ó*s.gv),rfl,rfl,rfl,rfl,rfl,rfl,rfl]
   rw[Ĕ #[h,G2]];have e1:=gU (n:=5) (f:=zc 7) (v:=zb yB (zb zh (zc 2) ĝ) (zb xg (zc 3) (zc 8))) (ρ:=qb Ļ i x Ã) (ze (ze Á a5) (ze Á (m s.gv)) rfl) Á a1;rw[a3] at e1;have sb:∀ y,zb yB ċ ĝ (qb Ļ i y Ã)=↑(Ç (1-Ĵ)):=λ y=>ze Á rfl;have e2:=gU (n:=5) (z:=Ç (min (ą) (ė))) (v:=zt wR (za (zb zh (zb zh (zc 0) Ċ) (zb yB ċ ĝ)) (za (zb ya (zb zh (zc 2) (zb yB ċ ĝ)) (zb xg (zc 3) (zc 9))) zf))) (zw (zo (ze (ze Á (mq F)) (sb y) a7) (zo (ze (ze rfl (sb y) a6) (ze Á (m s.gt)) rfl) rfl)) (by
    change ↑(Ð (if ą<ė then ą else ė))=_;rw[mi,Int.min_comm])) (sb y) rfl a2
   rw[a4] at e2;show#[_,xF (qT û (zJ (ze Á gt))) (zr e1 e2),rfl]
  .rw[za3 ⋯] at gt;rw[ĸ (λ z=>G2 z.2)];show#[_,yy (qT û (zJ (ze Á gt))) rfl,rfl]
 .rw[show á (Ĥ=ġ)=Ñ from za3 ⋯] at hq;rw[ĸ (λ z=>h z.1)];show#[_,yy (jz û) rfl,rfl]
theorem cQ:∀ {ss:List Sl},ss.Pairwise (λ a b=>a.p≠b.p)->∀ {s s':Sl},s∈ss->s'∈ss->s.p=s'.p->s=s'
 | [],_,_,_,h,_,_=>by cases h
 | a::l,hp,s,s',h,h',e=>by
  let#[h1,h2]:=Br.mp hp;rcases Ak.mp h with r1 | r1
  .rcases Ak.mp h' with r2 | r2
   .rw[r1,r2]
   .show absurd (r1▸e) (h1 s' r2)
  .rcases Ak.mp h' with r2 | r2
   .show absurd (r2▸e.symm) (h1 s r1)
   .show cQ h2 r1 r2 e
theorem Kq ð (pw:Ï) Ö{q r:Æ}Ô {k:Nat}(hr:ä):(k=0->r=q)/\(0<k->∃ s∈F.ss,ŉ/\r=Ĭ):=by
 exact#[λ e=>?_,λ e=>?_]
 .subst e;rw[oJ] at hr;cases hr;rfl
 .unfold yR at hr;cases h:F.Ff p with
  | none=>
   rw[h] at hr;obtain⟨k,rfl⟩:∃ j,k=j+1:=#[k-1,⋯];cases hr
  | some s=>
   rw[h] at hr;let#[h1,h2]:=iO h;have hs:=ok.ss s h1;ext Ħ;dsimp only at hr;rw[jo hs 20 hq ⋯ k] at hr;split at hr
   .cases hr;show#[s,h1,h2,rfl]
   .cases hr
def JL ð (pw:Ï) Ö{q r:Æ}Ô {k i:Nat}{w:Wy}ļ (hr:ä) (hw:ĉ):
  dS [Ľ,Ç ġ,zu q,Ç Ó,Ç (i:Int)]=↑(vO ë):=by
 let#[c1,c2]:=Kq ok pw hq hr;let#[ρ',g1,x,g2,g3]:=uI (is:=[6,7,8,9]) (g:=ú) (b:=jx) yE
  (λ pre ρ=>∃ x,ρ=qb Ļ i x ö/\((x=q/\∀ s∈pre,¬ (ŉ/\0<k))\/∃ s∈pre,ŉ/\0<k/\x=Ĭ)) F.ss (qb Ļ i q ö) #[q,rfl,.inl #[rfl,nofun]] (by
   rintro pre s post e ρ ⟨x,rfl,hx⟩;let#[ρ',h1,h2]:=Jf (F:=F) (p:=p) (q:=q) (x:=x) (i:=i) hk s;exact#[ρ',h1,_,h2,?_];by_cases c:ŉ/\0<k
   .rw[Ĕ c];show .inr #[s,#[],c.1,c.2,rfl]
   .rw[ĸ c];rcases hx with ⟨e1,e2⟩ | ⟨s',e1,e2⟩
    .exact .inl #[e1,λ y hy=>?_];rcases AG.mp hy with hy | hy
     .show e2 y hy
     .cases Au.mp hy;show c
    .show .inr #[s',Bm _ e1,e2])
 have hx:x=r:=by
  rcases DF k with k0 | k0
  .rcases g3 with ⟨e,_⟩ | ⟨_,_,_,z,_⟩
   .rw[e,c1 k0]
   .lia
  .let#[s,a1,a2,a3]:=c2 k0;rcases g3 with ⟨_,e⟩ | ⟨s',b1,b2,_,b3⟩
   .show absurd #[a2,k0] (e s a1)
   .rw[b3,a3,cQ pw b1 a1 (by rw[b2,a2])]
 subst hx g2;have f0:=mq F;have f2:=ml F;have h2:ĳ (F.ws.map zX) (i:Int)=↑(zX w):=xS (by rw[AE,hw];rfl);have lt:ltI (Ç ę) (Ç 0)=↑(.bl (á (ę<0))):=rfl;have pre:∀ o,_->W2 [Ü,ã,í,im ý,im ň,none,none,none,none,none]=o:=λ o h=>
  zr (ρ':=qb Ļ i q ö) rfl (zr (wF (ts:=F.ss.map yE) ø g1) (zr (ρ':=[Ü,ã,í,im ý,im ň,im (zu (x.1+w.a,x.2+w.b)),none,none,none,none]) (by
   change (tupS _ _).bind _=_;rw[yD (zo (ze ĕ (ze č Jl) rfl) (zo (ze þ (ze č Jk) rfl) rfl)) ď];rfl) h))
 unfold xR tw;by_cases c:x.1+w.a<0\/x.2+w.b<0
 .rw[za2 (é)] at lt;rw[Ĕ c];show yp (pre _ (ui (xF (zJ (ze (zw Á) rfl lt)) rfl))) rfl
 .rw[za3 (é)] at lt;rw[ĸ c];have mn:∀ a b:Int,wR [Ç a,Ç b]=↑(Ç (min a b)):=λ a b=>by
   change ↑(Ð (if b<a then b else a))=_;rw[mi]
  show yp (pre _ (zr (yy (zJ (ze (zw Á) rfl lt)) rfl) (xc (yD (zo (ze č u5) (zo (yD (zo (zw (zo ĕ (zo (ze İ u6) rfl)) (mn _ _)) (zo (zw (zo þ (zo (ze İ u5) rfl)) (mn _ _)) rfl)) ď) rfl)) ď)))) rfl
def NK {p i:Nat}(h:i∈ ě):rP Ñ ň (.lst (É))=↑ â:=by
 simp![Ca];change rP Ñ ň (sT (ě))=_;rw[ZF,List.contains_iff_mem.mpr h]
def JM (hl:Ě<=60) Ö Č{k i:Nat}ļ (hc:oK Ļ=true) (hi:i∈ ě):jN Ă=↑ â:=by
 have h1:=JK (F:=F) (p:=p) (q:=q) hk;rw[hc] at h1;show yp (zr (yy (sH (tE (b:=true) rfl) (sH (zJ (ze Á (Ī 2 2 true))) (tE (vK (zw (zo rfl (zo rfl (zo rfl (zo ĕ rfl)))) h1))))) rfl) (zr (yy (sH (tE (b:=true) rfl) rfl) rfl) (xc (ze þ (zw rfl (Wc hl p)) (NK hi))))) rfl
def kQ {x y:Int}(h1:0<=x) (h2:x<=F.A) (h3:0<=y) (h4:y<=F.B):y6 F (x,y):=#[#[h1,h2],h3,h4]
def JH ð {l:List Bd}(hl:l.length=Ê) (hg:∀ b∈l,Gd F.A F.B b) (c:Int):
  ∃ (p:Nat) (q:Æ),dN [Ľ,rT l,Ç c]=↑(vO ↑ ĵ)/\p<Ê/\y6 F q:=by
 let#[p,pl,hp]:=oa c ok.n1;let#[x,hx,mx]:=ky (c/10) ok.a0;let#[y,hy,my]:=ky (c/1000) ok.b0;have gb:=hg (l.getD p []) (by rw[Bo,A5 ⋯];show BA _);have f0:=mq F;have ir:=nS l p ⋯;have ne:=aN (l.getD p []) [];generalize l.getD p []=b at *;have d:∀ j:Int,0<j/\j<1073741824->yI (Ç c) (Ç j)=↑(Ç (c/j)):=λ j h=>xP h;have pre:∀ o,_->ì=o:=λ o h=>
  zr (zH (ze rfl (zw (zo (ze Á (kY F)) rfl) (kH _ _)) hp)) (zr (zH (yD (zo (ze (ze Á (d 10 ())) (ze (ze İ u6) Á) mx) (zo (ze (ze Á (d 1000 ())) (ze (ze İ u5) Á) my) rfl)) ď)) (zr (zH (ze Á ir)) h))
 suffices h:∃ q,ì=↑(.rt (vO ↑ ĵ))/\y6 F q by
  let#[q,h1,h2]:=h;show#[p,q,yp h1 rfl,pl,h2]
 have t2:=ze (f:=ma) (fb:=cS (Ç 0)) (ze (fa:=zb yI (zc 2) (cI 100000)) (ρ:=[Ü,im (rT l),đ,ã,im (zu (x,y)),im (bT b),none,none]) (f:=zS) (fb:=cS (Ç 3)) (ze Á (d 100000 ())) Ù) rfl (r:=↑(.bl (á (0<c/100000%3)))) rfl;by_cases hb0:b=[]
 .rw[za3 (by simp[hb0])] at ne;show#[(x,y),pre _ (zr (yy (jz ľ) rfl) rfl),kQ hx.1 hx.2 hy.1 hy.2]
 rw[za2 hb0] at ne;by_cases hc3:0<c/100000%3
 .rw[za2 hc3] at t2;let#[j,jl,hj]:=oa (c/10 ^ 6) (CV.mpr hb0);have bi:ĳ (b.map zu) (j:Int)=↑(zu b[j]):=xS (by rw[AE,A5 jl];rfl);have gi:=gb.yY b[j] (BA jl);generalize b[j]=r at *;have dd:∀ k:Nat,k<=1000->(0:Int)<10 ^ k/\(10:Int) ^ k<1073741824->∃ e,(0<=e/\e<=1)/\∀ ρ:Ev,ρ[2]?=↑(đ)->zb yI (zb zS (zb yI (zc 2) (zb xN (cI 10) (cS ý))) (cI 5)) (cI 4) ρ=↑(Ç e):=λ k hk hd=>#[c/10 ^ k%5/4,⋯,fun ρ h=>
   ze (ze (ze (show zc 2 ρ=↑(Ç c) by unfold zc;rw[h]) (ze Á (gq k hk)) (d _ hd)) Ù) rfl (xP ())]
  let#[e8,h8,k8]:=dd 8 () ();let#[e9,h9,k9]:=dd 9 () ();exact#[(if 0<r.1-e8 then r.1-e8 else 0,if 0<r.2-e9 then r.2-e9 else 0),pre _ (zr (xF (qT ľ (zJ t2)) (zr (oY (ze rfl (ze (ze rfl (ze Á (gq 6 ())) (d _ ())) (zw rfl (kH _ _)) hj) bi) rfl) (zH (yD (zo (zw (zo rfl (zo (ze rfl (k8 _ rfl) rfl) rfl)) rfl) (zo (zw (zo rfl (zo (ze rfl (k9 _ rfl) rfl) rfl)) rfl) rfl)) ď)))) rfl),?_];show kQ (é) (é) (é) (é)
 .rw[za3 hc3] at t2;show#[(x,y),pre _ (zr (yy (qT ľ (zJ t2)) rfl) rfl),kQ hx.1 hx.2 hy.1 hy.2]
end
theorem Uu ō ð ń (pw:Ï):∃ m,m<=2000/\à/\qg Ō:=by
 let#[more,hr,hn,hmo,hR]:=JD ok;have n1:=ok.n1;have Az:ÿ Ê ≠[]:=λ h=>by
  have h2:=ù List.length h;rw[CW] at h2;rw[h2] at n1;show absurd n1 ()
 let#[m,e,AL]:=bz ok gw 2000 [] 0 (ÿ Ê) _ (St.start ok) Az rfl hR;have ht:RN.start F::more=tu Ō:=e;have el:=ù List.length ht;rw[Vn] at el;rw[ht] at hr hn;have hgk:∀ k,k<=m->∀ b∈yb F k,Gd F.A F.B b:=λ k hk=>(hn (yb F k) (Aw.mpr #[k,AQ.mpr ⋯,rfl])).2;show#[m,by simp at el;lia,hr,Lb ok pw (hgk m (Ao _)) AL,hgk]
section
variable {ō}{m:Nat}
def j9 ĺ (st:Sd):Prop:=∀ x,st=↑x->x.1<Ê/\y6 F x.2
def Ko ð Ö{q r:Æ}Ô (h:r∈yR Ò):y6 F r:=by
 unfold yR at h;cases e:F.Ff p with
 | none=>rw[e] at h;cases Au.mp h;show hq
 | some s=>rw[e] at h;show jn (ok.ss s (iO e).1) 20 hq r h
def Jg ð {r:Æ}(hr:y6 F r) {w:Wy}(hw:w∈F.ws):j9 F ë:=λ x e=>by
 unfold xR at e;let#[y,h1,rfl]:=AF.mp e;exact#[(ok.ws w hw).2,?_];unfold tw at h1;have:=ok.a0;have:=ok.b0;split at h1
 .cases h1
 .cases h1;show kQ ⋯ ⋯ ⋯ ⋯
def vo ò:Sd->Bool
 | none=>Ñ
 | some x=>zI ((yb Ō).getD x.1 []) x.2
def Yn {r:Æ}{w:Wy}(h:ķ):vo Ō ë=true:=by
 unfold xj at h;unfold xR;cases e:tw F r w with
 | none=>rw[e] at h;cases h
 | some x=>rw[e] at h;show h
theorem L7 Ā Ö ï (ho:Ý=Ñ) Č Ô {w:Wy}(hw:w∈F.ws) (hf:w.f=p) (h:vo Ä=true):vo Ō (xR F q w)=true:=by
 have h:ô:=h;rw[R.fx.go p hp q hq] at h;unfold mh at h;rw[ĸ (by rw[ho];decide)] at h;show Yn (BN.mp h w (A7.mpr #[hw,za2 hf]))
end
theorem aX {α:Type}{is:List Nat}{g:T->Ev->Ĝ Ev}{b:Sm}(enc:α->T) (v:T) (I:List α->Ev->Prop):∀ (xs:List α) (pre:List α) (ρ:Ev),I pre (yt is ρ)->
  (∀ p x q,pre++xs=p++x::q->∀ ρ,I p ρ->turn g b (enc x) ρ=↑(.rt v)\/∃ ρ',turn g b (enc x) ρ=↑ ĥ/\I (p++[x]) (yt is ρ'))->Ŏ=↑(.rt v)\/∃ ρ',Ŏ=↑ ĥ/\I (pre++xs) ρ'
 | [],pre,ρ,h,_=>.inr #[yt is ρ,by rw[BF,xq],by exists h]
 | x::xs,pre,ρ,h,hs=>by
  rcases hs pre x xs rfl _ h with h1 | ⟨ρ',h1,h2⟩
  .show .inl (by rw[Ay,kG,h1];rfl)
  .have ih:=aX enc v I xs (pre++[x]) ρ' h2 λ p y q e=>hs p y q (by rw[<- e];simp);rw[Ay,kG,h1];exists ih
def Yj (neg:Bool) (st:Sd):zU neg Ł Ł=↑(.bl (cond neg Ñ true)):=by
 have h:dep Ł<=60:=by
  cases st with
  | none=>simp[vO,dep]
  | some x=>simp[vO,zu,dep,xI]
 unfold zU;rw[Ĕ #[h,h],fY];cases neg <;> rfl
section
variable {ō}{m:Nat}
abbrev hO ò (st:Sd) Ķ:Ĝ W:=↑(.own (.obj none "Keeper" (ă)))
abbrev tD ò (h st:Sd) (n k:Nat) (sf:Bool) (cs:T) (a b c d e f:Ĝ W):Ev:=
 [Ü,Ŋ,a,b,im cs,hO Ō h n,im (.bl sf),im Ł,im ý,c,d,e,f]
def LP Ā ń Ö Č ï Ô Ķ (sf:Bool) (cs:T) (c:Int):
  ∃ (k i:Nat) (r:Æ) (w:Wy) (z:Ĝ W),(k<=100/\ä/\ĉ)/\(vo Ä=true->vo Ō ë=true)/\
   z_ (zQ (zb (zU Ñ) (zb zh (zb zh (zc 0) ċ) (zc 2)) (cS (Ø)))) (zm (k7 Ň "does" 10 5 jW zf)
    (z_ (wc (yT (zt jN (za (zi 0) (za (zi 2) (za (zi 3) (za (zi 10) zf))))))) (retS (cS (.bl Ñ))) yk)) (zm (zF 11 (zt ly (za (zi 0) (za (zi 2) zf))))
    (zm (zF 10 (tupS (za Ċ (za (zb zh (zc 11) (zb zS (zc 9) (zt xx (za (zc 11) zf)))) zf))))
    (rK Ň "went" 5 jV (za (zb zh (zc 10) ċ) zf)))) (tD Ä ↑ ĵ n n sf cs (ã) (í) (đ) (im (Ņ [Ç 0,Ç 0])) none none)
   = ↑(.nx (tD Ō ë ↑ ĵ Đ n Ì none)):=by
 have tk:=Zp (Ý);cases ho:Ý with
 | true=>
  rw[ho] at tk;let#[k,i,r,w,#[g0,g1,g2,g3],g4,g5]:=JU R gw hp ho hq;have hc:oK Ļ=true:=by rw[Kv ģ hq,g1];rfl
  show#[k,i,r,w,none,#[g0,g1,g2],λ h=>Yn (g4 h),xF î (zr (OK (xs:=[]) Î Á (g5 n)) (yy (tE (vK (zw (xs:=Ă) rfl (JM R.fx.ok.sj g0 hc (iq.mpr #[w,g2,g3]))))) rfl))]
 | Ñ=>
  rw[ho] at tk;let#[w0,GJ,hf0]:=gw p hp;let#[i0,hi0]:=Cb.mp GJ;have ne:ě ≠[]:=λ z=>by
   have:=iq.mpr #[w0,hi0,hf0];rw[z] at this;cases this
  let#[j,jl,hj]:=oa c (CV.mpr ne);let#[w,g1,g2]:=iq.mp (BA jl);have CJ:ĳ (É) (j:Int)=↑(nT (ě)[j]):=xS (by rw[AE,A5 jl];simp);have hlen:xx [.lst (É)]=↑(nT (ě).length):=by
   change ↑(Ð ((É).length:Int))=_;rw[AD]
  show#[0,(ě)[j],q,w,_,#[(),oJ Ò,g1],L7 R hp ho hq (Bh g1) g2,yy î (zr (zH (zw rfl (Wc R.fx.ok.sj p))) (zr (zH (yD (zo rfl (zo (ze rfl (ze rfl (zw rfl hlen) hj) CJ) rfl)) ď)) (nL (xs:=[nT (ě)[j]]) ğ (zo þ rfl) (JA (m:=m) (n:=n) ģ hp ho hq g1 g2))))]
def fu Ā Ö ï (q:Æ) {f g:Ae}{ρ:Ev}(h1:f ρ=↑(nT p)) (h2:g ρ=↑(zu q)) (h0:ρ[1]?=↑(Ŋ)):
  zt ql (za (zb ı f) (za g zf)) ρ=↑(.bl (vo Ä)):=
 zw (zo (ze (show zc 1 ρ=_ by unfold zc;rw[h0]) h1 (nS è p (by rw[ot];show hp))) (zo h2 rfl)) (JP _ q (by have:=(R.fx.at hp).rM R.fx.ok.a0;have:=R.fx.ok.a1;lia))
def UP Ā ń {st:Sd}(hs:j9 F st) Ķ {sf:Bool}(hd:sf=true->vo ü=true) (cs:T) (c:Int):
  Ą=↑(.rt â)\/∃ ρ',Ą=↑ ĥ/\
   ∃ E7,yt ŋ ρ'=tD Ō E7 E7 Đ Đ sf cs Â Â/\j9 F E7/\(sf=true->vo Ō E7=true):=by
 have hn:zU true (nT n) (nT n)=↑(.bl Ñ):=by rw[Ī,za2 rfl];rfl
 have pre:∀ o,_->lg (tD ü st n n sf cs none none (đ) Â)=o:=λ o h=>zr (yy (sH (zJ (ze (nq ğ (sR Î)) rfl (Yj true st))) (zJ ħ)) rfl) h;cases st with
 | none=>
  cases sf with
  | true=>cases hd rfl
  | Ñ=>show .inl (pre _ (ui (xF Õ rfl)))
 | some x=>
  let#[p,q]:=x;let#[hp,hq]:=hs _ rfl;exact .inr ?_;let#[k,i,r,w,z,#[k1,k2,k3],k4,k5]:=LP R gw hp hq n sf cs c;have sk:=Jg ģ (Ko ģ hq (Bh k2)) (Bh k3);have t7:rV (yT (zc 12)) (vp (zQ (zb (wB Ñ) ĝ (cS .zp))) (wc (yT (zt ql (za (zb ı (zb zh ĝ Ċ)) (za (zb zh ĝ ċ) zf))))))
    (tD Ō ë ë Đ Đ Ì (im (.bl (vo Ä))))=↑ Ñ:=by
   cases he:vo Ä with
   | Ñ=>show jz (vK rfl)
   | true=>
    have e2:=k4 he;cases hb:xR F r w with
    | none=>rw[hb] at e2;cases e2
    | some y=>
     rw[hb] at e2 sk;have h:=fu R (sk y rfl).1 y.2 (f:=zb zh ĝ Ċ) (g:=zb zh ĝ ċ) (ρ:=tD Ō ↑y ↑y Đ Đ Ì (im â)) ĕ þ rfl;rw[show vo Ō ↑(y.1,y.2)=true from e2] at h;show qT (vK rfl) (sH Õ (tE (vK h)))
  show#[_,pre _ (zr (yy Õ rfl) (zr (oY Á) (zr (zH ç) (zr k5 (zr (zH (fu R hp q Á rfl)) (zr (zH (zw (zo rfl (zo rfl (zo rfl (zo ĕ (zo þ rfl))))) (JL ģ R.fx.pw hq k1 k2 k3))) (zr (zH (y:=nT Đ) (ze Á rfl)) (yy t7 rfl)))))))),xR F r w,rfl,sk,λ h=>k4 (hd h)]
def JE Ā (hr:à) ń Ö ï Č Ô (cs:Ğ):
  dP [Ľ,rT è,nT p,zu q,õ]=↑ â:=by
 have hl:=aX (is:=ŋ) (g:=zy 9) (b:=lg) Ð â
  (λ pre ρ=>∃ st,ρ=tD ü st pre.length pre.length (vo Ä) (õ) Â Â/\j9 F st/\(vo Ä=true->vo ü=true))
  cs [] (tD Ä ↑ ĵ 0 0 (vo Ä) (õ) (ã) (í) ö) #[↑ ĵ,rfl,λ x e=>by cases e;show#[hp,hq],id] (by
   rintro pre c post _ ρ ⟨st,rfl,h1,h2⟩;rcases UP R gw h1 pre.length h2 (õ) c with h | ⟨ρ',g1,E7,g2,g3,g4⟩
   .show .inl h
   .exact .inr #[ρ',g1,E7,?_,g3,g4];rw[g2,A6];rfl)
 have pre:∀ o,_->Ww [Ü,Ŋ,ã,í,im (õ),none,none,none,none,none,none,none,none]=o:=λ o h=>
  zr (OD (xs:=[Ľ,nT p,zu q]) rfl (JN hr hp hq)) (zr (zH (fu R hp q Á rfl)) (zr (zH ç) (zr (zH rfl) h)))
 rcases hl with hl | ⟨ρ',hl,st,rfl,h1,h2⟩
 .show yp (pre _ (ui (wF rfl hl))) rfl
 .have hn:zU Ñ (nT cs.length) (nT cs.length)=↑ â:=by rw[Ī,za2 rfl];rfl
  rw[List.nil_append] at hl;show yp (pre _ (zr (wF rfl hl) (xc (y:=.bl true) (XA (ze (nq ğ (sR Î)) rfl (Yj Ñ st)) ħ)))) rfl
end
def VL {ws:ł}(hl:ws.length<256):∃ F9:ł,r9 [.lst (ĭ zX)]=↑(.lst (F9.map zX))/\F9.length=ws.length/\∀ w,w∈F9↔w∈ws:=by
 have hm:∀ r,r∈L4.xo (ĭ vd)↔r∈ ĭ vd:=λ r=>(L4.t6 _).mem_iff;have hn:∀ r∈ ĭ vd,∃ w∈ws,vd w=r:=λ r hr=>Aw.mp hr;exact#[(L4.xo (ĭ vd)).map bB,?_,by rw[AD,(L4.t6 _).length_eq,AD],λ w=>#[λ h=>?_,λ h=>Aw.mpr #[vd w,(hm _).mpr (C3 h),rfl]]]
 .change (vi (ĭ zX)).bind _=_;rw[show ĭ zX=(ĭ vd).map yM by rw[A0];rfl,kd,Bv,Ĕ #[by rw[AD];show hl,λ r hr=>by let#[w,_,rfl]:=hn r hr;show nofun]];exact ù (λ l=>↑(T.lst l)) ?_;rw[A0];exact Cz λ r hr=>?_;let#[w,_,rfl]:=hn r ((hm r).mp hr);rfl
 .let#[r,hr,rfl]:=Aw.mp h;let#[w,hw,rfl]:=hn r ((hm r).mp hr);show hw
theorem OV {u:Ev->Ĝ (List T)}{ρ:Ev}{xs:List T}(hu:u ρ=↑xs) (hl:xs.length<=100):xp u ρ=↑(.lst xs):=by
 change (u ρ).bind _=_;rw[hu];show Ĕ (Bj hl ())
abbrev qN (c:Int) (xs:Ğ) (A B N a b:Int) (pu:Bool) (os:List Bool) (ws:ł):Ev:=[đ,im Į,im (Ņ [Ç A,Ç B]),im (Ç N),im (Ç (yQ pu)),im (Ç a),im (Ç b),im (Ē),↑(.own (.lst (ĭ zX)))]
def aQ {c:Int}{xs:Ğ}{A B N a b:Int}{pu:Bool}{os:List Bool}{ws:ł}{f:Ev->Ĝ Bool}{g:Ae}{t:Bool}{w:Wy}(hl:ws.length<=10) (hf:f (qN Ú ws)=↑t) (hg:g (qN Ú ws)=↑(zX w)):
  z_ f (wg 8 g) yk (qN Ú ws)=↑(.nx (qN Ú (if t=true then ws++[w] else ws))):=by
 cases t with
 | Ñ=>show yy hf rfl
 | true=>
  exact xF hf ?_;rw[Ĕ rfl];exact (tV (i:=8) rfl hg (by rw[AD];lia)).trans ?_;unfold qN;rw[Bz];rfl
theorem JJ (c:Int):∃ F:zq,dQ [Ç c]=↑(Ľ)/\F.Ok/\(Å)/\Ï:=by
 let#[xs,Eu,hx]:=XZ c 9 ();let#[v0,h0]:=vU (xs:=xs) (j:=0) ⋯;let#[v1,h1]:=vU (xs:=xs) (j:=1) ⋯;let#[v2,h2]:=vU (xs:=xs) (j:=2) ⋯;let#[v3,h3]:=vU (xs:=xs) (j:=3) ⋯;let#[v4,h4]:=vU (xs:=xs) (j:=4) ⋯;let#[v5,h5]:=vU (xs:=xs) (j:=5) ⋯;let#[v6,h6]:=vU (xs:=xs) (j:=6) ⋯;let#[v7,h7]:=vU (xs:=xs) (j:=7) ⋯;obtain⟨A,hA,eA⟩:∃ A:Int,(8<=A/\A<=12)/\ya (Ç 8) (Ç (v0%5))=↑(Ç A):=#[8+v0%5,⋯,rfl];obtain⟨B,hB,eB⟩:∃ B:Int,(8<=B/\B<=12)/\ya (Ç 8) (Ç (v1%5))=↑(Ç B):=#[8+v1%5,⋯,rfl];obtain⟨M,hM,eM⟩:∃ M:Int,8<=M/\nI [Ņ [Ç A,Ç B]]=↑(Ç M):=#[if B<A then B else A,é,rfl];obtain⟨N,eN⟩:∃ N:Int,ya (Ç 8) (Ç (v2%(M-7)))=↑(Ç N):=#[_,rfl];obtain⟨pu,eP⟩:∃ pu:Bool,v3%2=yQ pu:=by
  rcases (show v3%2=0\/v3%2=1 by lia) with h | h
  .show#[Ñ,h]
  .show#[true,h]
 obtain⟨a,b,eab⟩:∃ a b:Int,ĳ [T.tup [Ç N,Ç (0-N)],Ņ [Ç (0-N),Ç N]] (yQ pu)=↑(Ņ [Ç a,Ç b]):=by
  cases pu
  .show#[_,_,u6]
  .show#[_,_,u5]
 obtain⟨o,eo⟩:∃ o:Bool,ĳ [T.str "keeper",T.str "taker"] (v4/2%2)=↑(kt o):=by
  rcases (show v4/2%2=0\/v4/2%2=1 by lia) with h | h
  .rw[h];show#[true,u6]
  .rw[h];show#[Ñ,u5]
 obtain⟨os,ho,eos⟩:∃ os:List Bool,(os=[true]\/os=[true,o])/\ez none ↑(1+v4%2) (Ņ [Ø,kt o])=↑(Ē):=by
  rcases (show v4%2=0\/v4%2=1 by lia) with h | h
  .rw[h];show#[[true],.inl rfl,rfl]
  .rw[h];show#[[true,o],.inr rfl,rfl]
 have hn:1<=Ë/\Ë<=2:=by rcases ho with rfl | rfl <;> show į
 have hlen:xx [Ē]=↑(nT Ë):=kH kt os;obtain⟨G3,e1,l1,g1,f1⟩:∃ G3:ł,(if á (Ë=2)=true then [æ]++[#[1,0,0,0]] else [æ])=G3/\G3.length<=2/\(∀ w∈G3,w.f<Ë/\w.t<Ë)/\∀ x<Ë,∃ w∈G3,w.f=x:=by
  exact#[_,rfl,?_];rcases (show Ë=1\/Ë=2 by lia) with h | h <;> rw[h]
  .rw[ĸ ()];exact#[À,λ w hw=>?_,λ x hx=>#[_,Al,?_]]
   .cases Au.mp hw;show į
   .dsimp only;lia
  .rw[Ĕ ()];exact#[À,λ w hw=>?_,λ x hx=>?_]
   .rcases Ak.mp hw with rfl | hw
    .show į
    .cases Au.mp hw;show į
   .rcases (show x=0\/x=1 by lia) with rfl | rfl
    .show#[_,Al,rfl]
    .show#[_,Av _ Al,rfl]
 obtain⟨GY,e2,l2,g2,f2⟩:∃ GY:ł,(if á (v5%2=1)=true then G3++[Ŀ] else G3)=GY/\GY.length<=3/\(∀ w∈GY,w.f<Ë/\w.t<Ë)/\∀ x<Ë,∃ w∈GY,w.f=x:=by
  exact#[_,rfl,?_];split
  .exact#[by rw[A6];simp;lia,λ w hw=>?_,λ x hx=>?_]
   .rcases AG.mp hw with hw | hw
    .show g1 w hw
    .cases Au.mp hw;show#[hn.1,hn.1]
   .let#[w,h1,h2]:=f1 x hx;show#[w,Bm _ h1,h2]
  .show#[⋯,g1,f1]
 let#[ws,w1,w2,w3]:=VL (ws:=GY) ⋯;have t1:zQ (zb (zU Ñ) (zt xx (za ĝ zf)) (cI 2)) (qN Ú [æ])=↑(á (Ë=2)):=zJ (ze (zw rfl hlen) rfl ß);have t2:zQ (zb (zU Ñ) (zb zS (zb ı (cI 5)) (cI 2)) ċ) (qN Ú G3)=↑(á (v5%2=1)):=zJ (ze (ze (ze Á h5) Ù) rfl (Ī _ _ _));have m1:=aQ (w:=#[1,0,0,0]) ď t1 (g:=tupS (za ċ (za Ċ (za Ċ (za Ċ zf))))) ç;rw[e1] at m1;have m2:=aQ (w:=Ŀ) ⋯ t2 (g:=tupS (za Ċ (za Ċ (za (zb yB (zb yB Ċ ċ) (zb zS (zb ı (cI 6)) (cI 3))) (za (zb yB Ċ (zb zS (zb ı (cI 7)) (cI 3))) zf))))) (yD (zo rfl (zo rfl (zo (ze rfl (ze (ze Á h6) Ù) rfl) (zo (ze rfl (ze (ze Á h7) Ù) rfl) rfl)))) ď);rw[e2] at m2;have GJ:zX æ=Ņ [Ç 0,Ç ((Ë:Int)-1),Ç a,Ç b]:=by
  unfold zX;rw[show (((Ë-1:Nat)):Int)=(Ë:Int)-1 by lia];rfl
 have BS:∀ ρ:Ev,ρ[1]?=↑(im Į)->iW (tupS È) none ↑(zb ya ċ (zb zS ā)) ρ=↑(Ē):=fun ρ h=>by
  have hv:zc 1 ρ=↑ Į:=by unfold zc;rw[h]
  have q1:tupS È ρ=↑(Ņ [Ø,kt o]):=yD (xs:=[Ø,kt o]) (zo (ρ:=ρ) (g:=cS (Ø)) rfl (zo (ze (fa:=Ď) rfl (ze (ze (ze hv (fb:=cS (Ç 4)) rfl h4) (fb:=cS (Ç 2)) rfl (xP ())) (fb:=cS (Ç 2)) Ù) eo) rfl)) ď;have q2:zb ya ċ (zb zS ā) ρ=↑(Ç (1+v4%2)):=ze rfl (ze (ze hv rfl h4) Ù) rfl;change (tupS _ ρ).bind _=_;rw[q1];change ((zb ya _ _ ρ).bind _).bind _=_;rw[q2];show eos
 exact#[#[A,B,os,ws,[#[0,pu,1,1]]],?_,#[Ć,hA.2,Ć,hB.2,hn.1,Ć,λ w hw=>g2 w ((w3 w).mp hw),Ć,λ s hs=>by cases Au.mp hs;show į,.inr ?_,À],λ x hx=>?_,Df _ _]
 .show yp (zr (zH (zw (xs:=[Ç c,nT 9]) rfl Eu)) (zr (zH (yD (zo (ze rfl (ze (ze Á h0) Ù) eA) (zo (ze rfl (ze (ze Á h1) Ù) eB) rfl)) ď)) (zr (zH (ze rfl (ze (ze Á h2) (ze (zw rfl eM) Á) (yw ⋯)) eN)) (zr (zH (y:=Ç (yQ pu)) (ze (ze Á h3) rfl (by rw[<- eP];show yw ()))) (zr (oY (ze Á eab) rfl) (zr (zH (BS _ rfl)) (zr (X4 (ts:=[zX æ]) (by rw[GJ];show OV (zo (yD (zo rfl (zo (ze (zw rfl hlen) Á) rfl)) ď) rfl) ď)) (zr m1 (zr m2 (xc (yD (zo rfl (zo rfl (zo (zw (zo (zw rfl w1) rfl) (lT (by rw[AD];lia))) (zo (yD (zo ç rfl) ď) rfl)))) ď))))))))))) rfl
 .dsimp only;have h1:(A+1)*(B+1)<=13*(B+1):=Ed ⋯ ⋯;lia
 .let#[w,h1,h2]:=f2 x hx;show#[w,(w3 w).mpr h1,h2]
theorem pB (ns:Ğ) (k:Nat):sZ [pT ns,nT k]=↑(Ç (ć k 0)):=by
 unfold sZ Wz pT;by_cases h:k<ns.length
 .have e:ĳ (ns.map Ð) Ó=↑(Ç (ć k 0)):=xS (by simp[h]);simp[h,e,ltI]
 .simp[h,ltI]
abbrev kD (ns:Ğ) (a b:T) ò (c d e f:Ĝ W):Ev:=[im (pT ns),im a,im b,Ü,Ŋ,c,d,e,f]
def Nn ō{m:Nat}Ā (hr:à) ń (ns:Ğ) (a b:T) (k:Nat) (hk:k<3):
  ∃ ρ',turn (zy 5) jy (Ç (0+Ó)) (kD ns a b Ō ö)=↑ ĥ/\yt ŀ ρ'=kD ns a b Ō ö:=by
 rw[Ca];have mu:xg (Ç 19) ý=↑(Ç (19*Ó)):=p_ (.inl #[(),()]);let#[p,q,s1,s2,s3]:=JH ģ (ot Ō) (R.gd m (Ao _)) (ć (2+19*k) 0);have Ap:=JE R hr gw s2 s3 ((ÿ 18).map λ j=>ć (3+19*k+j) 0);rw[A0] at Ap;show#[_,zr (oY (zw (zo rfl (zo rfl (zo (zw (zo rfl (zo (ze rfl (ze Á mu) rfl) rfl)) (pB ns (2+19*k))) rfl))) s1) rfl) (zr (zH (sL (λ j:Nat=>Ð (0+(j:Int))) (λ j=>Ð (ć (3+19*k+j) 0)) (ÿ 18) (ke 18 ()) () λ j hj=>ù (Option.map some) (zw (zo rfl (zo (ze (ze rfl (ze Á mu) rfl) rfl (by change ↑(Ð (3+19*Ó+(0+(j:Int))))=_;rw[Ca];congr 2)) rfl)) (pB ns _)))) (yy (tE (vK (zw rfl Ap))) rfl)),rfl]
theorem JB (v:Int):∃ most zA:Nat,jM [Ç v]=↑(Ņ [nT most,nT zA])/\(1<=most/\most<=8)/\zA<=6:=by
 obtain⟨m,hm,m10⟩:∃ m:Nat,v%10=(m:Int)/\m<10:=#[(v%10).toNat,⋯,⋯];have hs:∃ L:List (Nat×Nat),m<L.length/\L.all (λ x=>á ((1<=x.1/\x.1<=8)/\x.2<=6))=true/\∀ y,ĳ (L.map λ x=>T.tup [nT x.1,nT x.2]) (v%10)=↑y->jM [Ç v]=↑y:=
  #[[(3,3),(2,4),(4,2),(1,6),(3,3),(2,3),(8,1),(3,3),(2,4),(4,2)],m10,(),λ y h=>yp (xc (ze rfl (ze Á (yw ())) h)) rfl]
 let#[L,hl,ha,h]:=hs;show#[L[m].1,L[m].2,h _ (by rw[hm];show xS (by rw[AE,A5 hl];rfl)),Ĳ (BN.mp ha _ (BA hl))]
theorem Np (ns:Ğ) (_:ns.length<=63):l6 [pT ns]=↑ â:=by
 let#[most,zA,z1,z2,z3]:=JB (ć 0 0);let#[G,g1,g2,g3,g4]:=JQ (ć 1 0) most zA z2.1 z2.2 z3;let#[S,s1,s2,s3,s4]:=JJ (ć 1 0);have fin:∀ F:zq,F.Ok->(Å)->Ï->zm (zF 4 (zt jT (za (zi 3) zf))) (zm (xG ŀ (wW v9 (za (cI 3) zf)) (zy 5) jy) (retS (cS â))) [im (pT ns),im (nT most),im (nT zA),Ü,none,none,none,none,none]=↑(.rt â):=λ F ok gw pw=>by
  let#[m,_,hr,R]:=Uu ok gw pw;let#[ρ',l1,l2]:=uI (is:=ŀ) (g:=zy 5) (b:=jy) (ĩ) (λ _ ρ=>ρ=Ĺ) (ÿ 3) (Ĺ) rfl (by
   rintro pre k post e ρ rfl;show Nn R hr gw ns _ _ k (AQ.mp (by rw[e];simp)))
  have hb:jT [Ľ]=↑(rT è):=yp (xc (ze (zw rfl hr) rfl cL)) rfl;show zr (zH (zw rfl hb)) (zr (wF (ke 3 ()) l1) rfl)
 have t:=Ī (ć 0 0/10%12) 1 Ñ;have pre:∀ o,_->W3 [im (pT ns),none,none,none,none,none,none,none,none]=o:=λ o h=>zr (oY (zw (zo (zw rfl (pB ns 0)) rfl) z1) rfl) (zr (zH (zw Ń g1)) h);by_cases h:ć 0 0/10%12=1
 .rw[za2 h] at t;show yp (pre _ (zr (xF ó (zH (zw Ń s1))) (fin S s2 s3 s4))) rfl
 .rw[za3 h] at t;show yp (pre _ (zr (yy ó rfl) (fin G g2 g3 g4))) rfl
end zM
namespace PySem.W.Fast
def te6706334292620787462:=0
)
local macro_rules|`(command|example:=$s:str)=>do
 let mut r:Array Lean.Syntax:=.empty
 let mut n:=0
 let mut k:=0
 for c in s.getString.toList do
  let a:=c.toNat
  n:=n*62+(if a>96 then a-61 else if a>64 then a-55 else a-48)
  k:=k+1
  if k==11 then
   let i:=Lean.mkIdent (.mkSimple s!"tw{n}")
   r:=r.push (<-`(command|theorem $i:ident:True:=trivial))
   n:=0
   k:=0
 return Lean.mkNullNode r
example:="EAANqFBoczj57RRHI5khWT2wY7j7bBkFADXF9jnEKZIJ2zZmoK8cB6dBwM4q1ltUU63WnDyaI0nwI9b9hzjOjjbyIq5GZWopgu603NnZ0OFgsp8krSLBkUps20zyC18FGPuu1efc2CNay6C4u0Q41lVH1P0JDqR8jp6njCxHDcizFpMvLU2B3IVG7PJAqqbG2rlwJUD3B93MxUPY6BFC4V8vjSdRCoFzKmikkqyBQpM9DDZmry4uBg2Y117GnGnjb2jiDCNoBIF92NNuCEq2vpFl38I2u49fvxHneNOzrAXniZEOX7dw7HEMs8Sy8TIDlqu4lfGmVDGCb2lGUHncbAru8oQtWK6V6aAebxYwiIM41pavliHDlKI5qYjDCJe3O5hun38jxVMSKHh5oCuTQQ044bZkb8S1iGI4fQ2TU2gYVIcze6UucGLsBmRN7KLZzPqIshftdB75ynI0DrqloRVqAG81mbfOkUVhGFNgqrtFJ1EEfXYyx2FvW02o75NkDZjU64V91vIn8PozIDN2Mka3XU8LVedGqUCE8d5tqChdrG69HJgiZe59XVlB5lUhbuMMKbI09PmGRFxdJ2EoA8fxGsrpqDlGowSDjkuC1tZ9Q24BLdl70hmMEMEYea70cWwlQPzIPIhrDyXJVw81FPGaiR78v8c2Z9J5jWZ59n4wAs4zru9yKAo6xAAgtEmi6ZKYkkvjAvf2pLoGha20a5CAVNytBJlpMAttoEx3j3gDGDeLPClMyNA7KZ8aBsLOyLJtCYUM1OQV11Dlh7oSWFZS4sRJyAEY5QI9AsougYCR9uLW9EHcJRoW91cIOMJ64me97mq944M3yWR6O5qqaAJrKbLJ4W2tRQk6dKm5d73FIkzRHeRZMng2Nfq9Wa6gtxvVLZLCZvgZtAoKeAfWTaTMwKGgATnoEjytpSFDbgTwxrSDDsKWrvQNOTdm6CfX545DbkjKA3Af4yPGUY3IR2iTJmuyYzAiEF5KHNGqdDMRiNaG5SAv1jtmiTK0OZULPT9izCoKgU8JtCFxSCYFT48EOCLC6pOtGmkHNXOsOjk1DpAIgpTVrfKhGrSJFeqE000JFU3I3vXn7a2KbqznlDAKVXKECcguujAvsXhqRQ2MPDVicQFjanEQ7HPaexYHDoo4KNc0vw8Tmk1gnOh0XcrfuFdO3iyx6L4PCkqEqAPaT2h6bYzG0RDIrR0sYGAYB4oVF1RC7LPqLHygLl8ThnDOQlG6vWfYpBkSLj5APYuMfCRFV7trtps8FSXgHl6wpc0GaWV8yuUq1M2bGpFkZafnjdp9NFB6UzM9tbI313BnoWLRbjoFXYzbElNBxNCKOLOzlvDGF1h6E0SD1fuVFBai4n0tcSq9lqAzCgMagJL5WQVl0WW2v0hyBane9HotIHflGvg1fpAG9QoFmmspgzApx4SzZgh3SIxeakpn6cRXBvxiZOrXqBZ7AQ7A5naCXQ5pqSOdhD78fKTy20uUpJ9iDcUMcKrFbEz0nuhQxwtydc13tf8W8GQL92wkDrJNMHDvFhetnxcfW1KJwrdLEwjJrJ2Mssbq53hRc1GHqckRMOI430QbupSn1tD9wIy4JiA6LM6LNDZRacf0AKfxwxFbrAd6CMzDiZDd8X0IwmZCEqMgFNIE1OOwlhA39H2J80c60g7ZB32rv3KssNe2kXskkxkABZ7huCXGnyGNyIPZdpGHLfYj16uCEx14qJ7IPX5kFMPIuJJtl7XtSbMcl0dfNWDHQhuTATn31hYoG4ABc8gu1EqdKOGWEq2j6NVRp39Qt733cPFTIhM8kUiUxBjG8pyezc2lmCEldtoG8UZqyIdAeYsQwntKCDTZEd95xMh9SC3s6ZzbAVI9fj3PNlmgf9lATUj458YFALpnHuVvGdu55AeD8z4W7K0n6tEn38wEiK7Kd6DOEpaA58X1SpMSvOgK3bUeTSQr68BnyZnZeCBAvDJ2DYt15dOQEO8CKSr0GUwKTZFv9xXSGiHF2axps8K0pA1F3lHKxukv4XDiFR4V18JLSfqZQRjbMlD8qzGoiCvIBCrRjCWoLvzm9VA2UoqJSKQ7Nv6ABbsMJh5rtwxydhzSg8rf19yC4oHL9eYtDsmA1vLI1UYghpUWIN7uVaPKEBQDI3dBYE1bzYfW3aJevDsDdwp5TBzqkfTDGzD1o2tOolbcNFLw1aO8ohpRJ0dqi8nKRnmCpv4hTORsIO9m3gOcEulcKDGBE8PBrJUY3VxGDrsjP8yBVtNflJFimpC5aXdrlQz7WJItGBfgcrPJ9sPDWiXa767D5nIiLvKNPX1KSlKuS197E1FGXEtUx2tBIjDUTqNTf9h4Akm5ZqHRNZ8Q0XMrd4kKbJj0D65Zldzj75econkrHI7DGAblpRClUW8g8WWolf6Qr3crVhTG0wOZ96DYNKchjDbGM5GosfGK4Y6lOYgQ9pAfP23WjDm8W29j0zZQfwuCRe18IWafASS2We8ltotTaVNCuBNDqzbaFY9gHgAwSkFfq0Y8DU2doKMUK8E9I7cY6bjHz2lhBt9TqPbFCvS1l94XnuxJZsiIUEebNI7yFM4td1py42YKgKW67DQcAycBNNyHLjU1DWTiUdnsuoGLnuyN0JbQf4wwDcFgIyrk4JqdQwack0NHUDBbCmOfIm8OW2GCpMXbZ7Exiaws97yh1FWLsmJhol57gGH6ahrcEtHZUacO1TYWZDz1ikRkiQIi3ntEso1YODmCEqVFV4bVqsAKPGS3tkPoID7312NSMyUm5gSGB0EaBc3DdNAweNxqYM5zx2jfVkxYR4f2X5xxZIIj6uaHETapSVW1YVKn5UsslSF7rh9u854xU1N5D1hCrsNNGS7CnSsn7hLKUBpjnoK6Iz5Aymvw6VwVd74qurKqIKNNFh1yDPPaFUJ50y1EPsQDlJG1s17H790eA59hIsAfEHQj8w2VvOMV3e5GuVeJKTTbBPLChltxtcGxg41zta0wBHuX3CZXLVXBzvV2za6AptVECyIiD9dFQdnzr4zbJ5SMhXOAAs8l4JFx0LWD42E8nb9Tmm9Qtyks4oO2B10NsDw8uPWIA6x5FSFFGjeJ42mR01Alq72qGXe19tMvv5sthp985DyO3lpVeYQxfi0H3XCDI5tjuiD4T4V1GWoKM8gWP6TxOg8C4oUPkdD0L4QIYyJi737nbnCAfA8oGAOPyI2sklBFDeSBITN3C0NwePcLDiuC5bErHxDpx9iUuyYhl11702lMES7NIT3T7991KxI0IvOZu6HvBGIcS7WVq6Xti2XudnvsLfx0DSZ51o8gU1rHhfKqjUbpFu2LZLA0dLCAxEJxMINdiEI6GFsys7gL6iEDoYbjSeUBa2IpBCb3OMWjLJfwp9WzDEvc9puF3YCtqbuKzsEFxULA6U2Q8DfkXBFpk473URWDptAzIX8CIyKxifPI2PixFTWXgvCKYAVBU12qV5s5lnz72KNZ76H9S0XfBJW6eKX1QezcGI3MTyGFr1A0E5lfQObXx9gsHOGWwBDYHod9M8gb8MkGCx1gwYeZMFVEe89dnMOvtnXPCaus6sbnYekBUmXYFf2AF1FDMUUu5SE2gHCqt3XZtC2S4jAVX9My90qCgmtKVK48bN3qIkYrLPnY4JxL8wEgsVoDC9tTtQOQANS3dBuHlIKJjdJStaz4PCaMFBu3skje0Oq7DqMnw2IY7uFLc5sTqukJeRCNAlo4BuHjaFIe3eGnLCkUFEMcCUdjGmg5J35uRfFUGM0sVPdOmYrYzATR66WXcnbJHMAeIWh0b8mE6ST0ORbwQyGgtEWhEPsRw8WpXqSoJisLJUnKELemQqRDirDNRontc421Esd2xDzip1Ym6721NDc018iCry9XyHWLMAqSkHlamE0jimK7IlB33BZDSqIunjxHG6XDC6RryKBE73djq2XnwZ8DZWDIDSXoT9RZHFjWODX1AvUR9U19D7I34IO1899xA40WWeJZVLqCbAqMsXfnIFd40BkZkG6gO7jHmmuGNK9a4RB7ymnHvvuy2HKb0zRSytmk8R6KYXT2cQOEzYmClWZcuE6mhWqTD9Fbg9uDnOdKUzA2EMSYH5ZNDdO1xiZrEFNZQMJNISW8ck6en2jIVmNv1GjQ9xQmUbuKAm2JEq0ZfMYb0tDCMZNaDmuYBCij0ecKNK0DISgjqkRbupZHxH5Y8yg8VvE45pmMgjTWt7Gq7d18ltBQAFXkBkexamJ8gRBE1oEu5VBbBXYs5k3JEG5atdZknd7zEZxgmNhUHcz4MJIjApJWCw5kemRn4E4Z17vSX5eIcuBgIyEnfD5ypZoERaUeiBVjvc5GTiDZjsCEK7nyxXnk8uQC19eSsb18MzU8afWQUyhNkyKnjwcyedaag4SUe6cQdO2NIB9lMFe5iYz01pjinEs5DuAvc5zezNSfj85pNdzA4yzCDS6Sm01VyPGLDVkhdYHpTZC4xq6zUg18y0BWE6xk00Pe1EmWUREaYfn8Tdn18BtlhaGGvCLiIqSa50LSu5qYhP18FoTtSPzablcCmBdX53dOldCg6ckk5LELaJfN2polIdirBgpKNDxzSMuGi6vbSFMZlA4DebIGOzLuXDHuEPhD2Cj6ApcAv776nYD8UA2REcnLHb6cjIFmbd1Q31F5inivPHQ3I7TZloDgaLJ5DdPe2yTTHFF4E9QLuwYW01Uj3VyckgXPD8ieyMLBCFh6crlh2LLCeo7t8isdAhZ5S1sVeexMECvQI1DzWeVinx4KpSosevpYAh5EqQrEVMKgF4XpFTGzvK1mChGY2DVPg298TfHDV3oQcyDhX9hVqAlCtAmNg9JVusN8FUkUA60pzif2jsJONXl3Sg3t7nfv3tbIgJhh5fg9IwwgEmacAoF9APA0PCUV1lqh6I6jhNxETEGrmIcmQat2uQIY6d6LVV8XkWDE5hlEbiPbbADHas6J3bBWpCcR3UYaZMg1G5zG9OVpMwCHRJ2TRzS4b32LK95CIEopICc2h4tkVwoQA3xviEVNkUyKVxDq6q2so301yxbKCBexi4MKeNfkuAMc9w9r4lpUYNsGHkt6cwJNLIBtBgbSl3YZvB04xxKq9MBeK6zqJ5OaxOk6Lyo42VTD4O07zFRDC4ivzGN7gjfaeBE8DET6EhgeBGU0uZMA5eCW7lLUMJaawCrg3KVGg9uOolyjG7j4r0tvdIC"
example:=`(
example À _:=x P w K mg base
example Á _:=x P w K mg
example Ì:=by cases C;cases d1;cases d2
example Â:=by ext Ì;cases d3;cases d4;cases d5
example Ã _:=x l.prog w base T U H C Q X
example Î:=by ext Â;cases d6;cases d7
example Ä:=by ext Î;cases d8;cases d9;cases Gq
example Å:=mainGlobals
example Ñ _:=x Ã G d1 d2 d3 d4
example Æ _:=x Ñ d5 d6 d7
example Ç _:=x Ñ d5 d6
example È _:=x Ñ d5
example É:=PySem.W.nsIn
example Ê:=["Keeper"]
example Ë _:=x X G
example Í _:=x Æ d8 d9 Gq GC
example Ï:=K w.params
example Ð _:=x Ã G d1 d2 d3
example Ò:=by ext Ä;cases GC;cases GX
example Ó:=["self"]
example Ô:=["floor","place","pair","times"]
example Õ _:=x fd ["_law_script"] (vx K (zL zE l6))
example Ö:=["floor","told","stand","done"]
example Ø _:=x K Å
example Ù:=["floor","place"]
end PySem.W.Fast
namespace zM
open PySem L2 L3 L5
open PyProof.Rows hiding St
def top (i:Nat):Stmt:=PySem.Challenge.pw_purseborder_k82_whole_keeper_goes_on.main.body.getD i (.Pass #[0,0,0,0])
def met (i j:Nat):Stmt:=(Kn (top i)).getD j (.Pass #[0,0,0,0])
set_option maxHeartbeats 0
structure HH (K:Ac):Prop where
 h0:Fx K "is_whole" (top 10)
 h1:Fx K "is_whole_within" (top 11)
 h2:Fx K "is_from_nought_on" (top 12)
 h3:Fx K "is_row_within" (top 13)
 h4:Fx K "places_of" (top 14)
 h5:Fx K "check_place" (top 15)
 h6:Fx K "check_pair" (top 16)
 h7:Fx K "ways_from" (top 17)
 h8:Fx K "stall_at" (top 18)
 h9:Fx K "at_or_above" (top 20)
 M5:Fx K "least_pairs" (top 21)
 M4:Fx K "holds" (top 22)
 n_:Fx K "both" (top 23)
 M3:Fx K "either" (top 24)
 M1:Fx K "border_ahead_of_way" (top 26)
 M0:Fx K "pairs_ahead_of_changes" (top 27)
 ZK:Fx K "border_ahead_of_changes" (top 28)
 Mz:Fx K "border_of_either" (top 29)
 My:Fx K "border_of_all" (top 30)
 Mx:Fx K "next_border" (top 31)
 Mw:Fx K "next_round" (top 32)
 Mv:Fx K "rounds" (top 33)
 f7:Fx K "is_way" (top 35)
 f6:Fx K "step_by" (top 36)
 ZJ:Fx K "change_by" (top 37)
 Mu:Fx K "change_at" (top 38)
 Mt:Fx K "check_way_from" (top 39)
 Ms:Fx K "made_ready" (top 40)
 Mr:Fx K "behind_deed" (top 41)
 Mq:Fx K "borders" (top 43)
 Mp:Fx K "leads_into" (top 44)
 Mo:Fx K "deed_into" (top 45)
 Mn:Fx K "_law_cell_at" (top 50)
 Mm:Fx K "_law_stirred" (top 51)
 Ml:Fx K "_law_amount" (top 52)
 Mj:Fx K "_law_way" (top 53)
 Mi:Fx K "_law_floor" (top 54)
 Mf:Fx K "_law_deep" (top 55)
 Me:Fx K "_law_sized" (top 56)
 Md:Fx K "_law_behind" (top 57)
 Mc:Fx K "_law_can" (top 58)
 Mb:Fx K "_law_ways" (top 59)
 Ma:Fx K "_law_is_deed" (top 60)
 N_:Fx K "_law_held" (top 61)
 NZ:Fx K "_law_start" (top 62)
 NY:Fx K "_law_played" (top 63)
 NX:Fx K "law" (top 64)
 OS:Fc K "Keeper" "Hand.__init__" (met 47 0)
 m1:Fm K Ê "where" "Hand.where" (met 47 1)
 m2:Fm K Ê "steps" "Hand.steps" (met 47 2)
 m3:Fm K Ê "check_turn" "Hand.check_turn" (met 47 3)
 m4:Fm K Ê "first_way" "Hand.first_way" (met 47 4)
 m5:Fm K Ê "step_on" "Hand.step_on" (met 47 5)
 m6:Fm K Ê "does" "Keeper.does" (met 48 0)
 m7:Fm K Ê "went" "Keeper.went" (met 48 1)
 fg:Kl K "Keeper" Ö
 MS:Cn K "KEEPER" (.str "keeper")
 MR:Cn K "TAKER" (.str "taker")
 y0:É Ø "set"=↑none
 y1:É Ø "zip"=↑none
 y2:É Ø "enumerate"=↑none
 y3:É Ø "abs"=↑none
 z0:É Ø "len"=↑none
 z1:É Ø "range"=↑none
 z2:É Ø "any"=↑none
 z3:É Ø "all"=↑none
 z4:É Ø "sorted"=↑none
 z5:É Ø "isinstance"=↑none
 z6:É Ø "bool"=↑none
 z7:É Ø "int"=↑none
 z8:É Ø "str"=↑none
 z9:É Ø "list"=↑none
 ik:É Ø "tuple"=↑none
 ij:É Ø "max"=↑none
 WD:É Ø "min"=↑none
structure CC (K:Ac) (mg:AA):Prop where
 c0:Cm mg "KEEPER" (.str "keeper")
 c1:Cm mg "TAKER" (.str "taker")
structure KK (K:Ac):Prop where
 k0:∀ c∈(Ê:List Str),Kl K c Ö
section
variable (P:Program)(w:World)(K:Ac)(mg:AA)(base:Heap)
structure D1:Prop where
 x0:FD À "is_whole" 1 ["thing"] (zL zE p8)
 x1:FD À "places_of" 1 ["floor"] (zL zE oQ)
 x2:FD À "at_or_above" 1 ["pair","other"] (zL zE lB)
 x3:FD À "least_pairs" 1 ["pairs"] (zL zE px)
 x4:FD À "pairs_ahead_of_changes" 1 ["brims","stall","pair"] (zL zE dG)
structure D2:Prop where
 x0:FD À "step_by" 1 ["floor","pair","way"] (zL zE lu)
 x1:FD À "change_by" 1 ["brims","stall","pair","times"] (zL zE l9)
 x2:FD À "_law_cell_at" 1 ["_law_script","_law_k"] (zL xK sZ)
 x3:FD À "_law_stirred" 1 ["_law_cell","_law_count"] (zL zE jL)
 x4:FD À "_law_amount" 1 ["_law_number","_law_most"] (zL zE jO)
structure D3:Prop where
 x0:FD À "_law_sized" 1 ["_law_number"] (zL xK jM)
 x1:FD À "_law_behind" 1 ["_law_floor_here","_law_place","_law_pair","_law_times","_law_way_here"] (zL zE dS)
 x2:FD À "_law_can" 1 ["_law_floor_here","_law_place","_law_pair","_law_times"] (zL zE dR)
 x3:FD À "_law_ways" 1 ["_law_floor_here","_law_place"] (zL zE ly)
 x4:FD À "_law_held" 1 ["_law_border","_law_pair"] (zL zE ql)
structure D4:Prop where
 x0:FD À "_law_start" 1 ["_law_floor_here","_law_told","_law_number"] (zL zE dN)
 x1:uf À Ê "where" 1 Ó (sy Ó 1 cv)
 x2:uf À Ê "steps" 1 Ó (sy Ó 1 cw)
structure D5:Prop where
 x0:FD À "is_whole_within" 2 ["thing","least","most"] (zL zE pz)
 x1:FD À "is_from_nought_on" 2 ["thing"] (zL zE jQ)
 x2:FD À "holds" 2 ["border","pair"] (zL zE jR)
 x3:FD À "both" 2 ["border","other"] (zL zE jS)
 x4:FD À "either" 2 ["border","other"] (zL zE l7)
structure D6:Prop where
 x0:FD À "border_ahead_of_way" 2 ["brims","way","border"] (zL zE cg)
 x1:FD À "_law_way" 2 ["_law_place","_law_many","_law_number","_law_size"] (zL zE jK)
 x2:FD À "_law_deep" 2 ["_law_cell"] (zL zE dQ)
 x3:FD À "_law_is_deed" 2 ["_law_floor_here","_law_place","_law_pair","_law_found"] (zL zE jN)
structure D7:Prop where
 x0:FD À "is_row_within" 3 ["thing","bounds"] (zL zE jP)
 x1:FD À "check_place" 3 Ù (zL zE l8)
 x2:FD À "border_of_either" 3 ["borders"] (zL xK d_)
 x3:FD À "border_of_all" 3 ["borders"] (zL xK cb)
 x4:FD À "is_way" 3 ["floor","thing"] (zL zE dU)
structure D8:Prop where
 x0:FD À "leads_into" 3 ["floor","pair","way","held"] (zL zE dM)
 x1:FD À "_law_floor" 3 ["_law_cell","_law_most","_law_brim"] (zL zE oS)
 x2:uf À Ê "check_turn" 3 ["self","owner"] (xw jY)
structure D9:Prop where
 x0:FD À "check_pair" 4 ["floor","pair"] (zL zE dY)
 x1:FD À "ways_from" 4 Ù (zL zE lr)
 x2:FD À "stall_at" 4 Ù (zL xK pk)
 x3:FD À "check_way_from" 4 ["floor","place","way"] (zL zE dX)
structure Wn:Prop where
 x0:FD À "border_ahead_of_changes" 5 ["floor","place","border"] (zL xK cj)
 x1:FD À "change_at" 5 Ô (zL zE p9)
 x2:uf À Ê "first_way" 5 Ó (sy Ó 1 cx)
structure Wm:Prop where
 x0:FD À "next_border" 6 ["floor","place","last"] (zL xK dI)
 x1:FD À "made_ready" 6 Ô (zL xK dJ)
 x2:FD À "deed_into" 6 ["floor","place","pair","held"] (zL zE dW)
structure Wl:Prop where
 x0:FD À "next_round" 7 ["floor","last","fresh"] (zL zE dH)
 x1:FD À "behind_deed" 7 ["floor","place","pair","deed"] (zL zE jU)
structure Wk:Prop where
 x0:FD À "rounds" 8 ["floor"] (zL zE qk)
 x1:uf À Ê "step_on" 8 ["self","times","way"] (xw jX)
structure Wj:Prop where
 x0:FD À "borders" 9 ["floor"] (zL xK jT)
 x1:jZ À "Keeper" 9 ["self","floor","place","pair"] (xw ck)
 x2:uf À Ê "does" 9 Ó (xw jW)
 x3:uf À Ê "went" 9 ["self","way"] (xw jV)
structure Wi:Prop where
 x0:FD À "_law_played" 11 ["_law_floor_here","_law_told","_law_place","_law_pair","_law_cells"] (zL zE dP)
variable {K mg}(T:Bt mg)(U:Wo mg){h:Heap}(H:HH K)(C:CC K mg)(Q:KK K)(X:K.In h)(G:h.Ns Å mg)
include T U H C Q X G
theorem Oo:D1 À:=by
 cases C;show#[ye [] (H.h0.mk Ë),
  ye [] (H.h4.mk Ë),
  ye [] (H.h9.mk Ë),
  ye [] (H.M5.mk Ë),
  ye [] (H.M0.mk Ë)]
variable (d1:D1 À)
include d1
theorem Oe:D2 À:=by
 cases C;cases d1;show#[ye [] (H.f6.mk Ë),
  ye [] (H.ZJ.mk Ë),
  ye [] (H.Mn.mk Ë),
  ye [] (H.Mm.mk Ë) (by intro f Ai A outer s H E hc nd hN hS hr;have hB:=trivial;show#[_,pA,pZ]),
  ye [] (H.Ml.mk Ë)]
variable (d2:D2 À)
include d2
theorem Od:D3 À:=by
 ext Ì;show#[ye [] (H.Me.mk Ë),
  ye [] (H.Md.mk Ë),
  ye [] (H.Mc.mk Ë),
  ye [(["_law_k","_law_floor_here","_law_place"],[none,↑0,↑1])] (H.Mb.mk Ë),
  ye [(["_law_x","_law_y","_law_pair"],[none,none,↑1])] (H.N_.mk Ë)]
variable (d3:D3 À)
include d3
theorem Oc:D4 À:=by
 ext Ì;cases d3;show#[ye [] (H.NZ.mk Ë),
  (have:=Q.k0;fS [] H.m1),
  (have:=Q.k0;fS [] H.m2)]
variable (d4:D4 À)
include d4
theorem Ob:D5 À:=by
 ext Ì;cases d3;cases d4;show#[ye [] (H.h1.mk Ë),
  ye [] (H.h2.mk Ë),
  ye [(["own","pair"],[none,↑1])] (H.M4.mk Ë),
  ye [(["pair"],[none])] (H.n_.mk Ë),
  ye [] (H.M3.mk Ë)]
variable (d5:D5 À)
include d5
theorem Oa:D6 À:=by
 ext Â;show#[ye [(["pair","way"],[none,↑1]),(["pair","brims"],[none,↑0])] (H.M1.mk Ë),
  ye [] (H.Mj.mk Ë),
  ye [] (H.Mf.mk Ë),
  ye [] (H.Ma.mk Ë)]
variable (d6:D6 À)
include d6
theorem P_:D7 À:=by
 ext Â;cases d6;show#[ye [(["number","bound"],[none,none])] (H.h3.mk Ë),
  ye [] (H.h5.mk Ë),
  ye [] (H.Mz.mk Ë),
  ye [] (H.My.mk Ë),
  ye [] (H.f7.mk Ë)]
variable (d7:D7 À)
include d7
theorem PZ:D8 À:=by
 ext Î;show#[ye [] (H.Mp.mk Ë),
  ye [] (H.Mi.mk Ë),
  (have:=Q.k0;kZ [] H.m3)]
variable (d8:D8 À)
include d8
theorem PY:D9 À:=by
 ext Î;cases d8;show#[ye [] (H.h6.mk Ë),
  ye [(["number","way","place"],[none,none,↑1])] (H.h7.mk Ë),
  ye [] (H.h8.mk Ë),
  ye [] (H.Mt.mk Ë)]
variable (d9:D9 À)
include d9
theorem Om:Wn À:=by
 ext Î;cases d8;cases d9;show#[ye [] (H.ZK.mk Ë),
  ye [] (H.Mu.mk Ë),
  (have:=Q.k0;fS [] H.m4)]
variable (Gq:Wn À)
include Gq
theorem Ol:Wm À:=by
 ext Ä;show#[ye [(["number","floor"],[none,↑0]),(["way","floor","last"],[none,↑0,↑2])] (H.Mx.mk Ë),
  ye [] (H.Ms.mk Ë),
  ye [] (H.Mo.mk Ë)]
variable (GC:Wm À)
include GC
theorem Oj:Wl À:=by
 ext Ä;cases GC;show#[ye [(["way","fresh"],[none,↑2])] (H.Mw.mk Ë),
  ye [] (H.Mr.mk Ë)]
variable (GX:Wl À)
include GX
theorem Oi:Wk À:=by
 ext Ò;show#[ye [(["place","border","last"],[none,none,↑3])] (H.Mv.mk Ë),
  (have:=Q.k0;kZ [] H.m5)]
variable (Ha:Wk À)
include Ha
theorem Oh:Wj À:=by
 ext Ò;cases Ha;show#[ye [] (H.Mq.mk Ë),
  (have:=Q.k0;Ll [] H.OS Ë),
  (have:=Q.k0;kZ [] H.m6),
  (have:=Q.k0;kZ [] H.m7)]
variable (HG:Wj À)
include HG
theorem Og:Wi À:=by
 ext Ò;cases Ha;cases HG;show#[ye [] (H.NY.mk Ë)]
variable (d15:Wi À)
include d15
theorem P0 {f:Addr}{fd:FuncData}(F:vI K "law" "law" (top 64) f fd):wL À xa 12 f Õ:=by
 ext Ò;cases Ha;cases HG;cases d15;show La [(["_law_j","_law_script","_law_k"],[none,↑0,↑5])] F
end
def all_mk {l:PySem.W.OpenLaw}{w:World}{K:Ac}{h:Heap}{mg:AA}{fa:Addr}(X:K.In h) (G:h.Ns Å mg) (EX:mg "law"=↑(.ref fa)) (H:HH K):
  ∃ fd:FuncData,(∀ (s:Shared) (v:Value),BindsTo s fd #[[v],[]] [("_law_script",v)])/\∀ base:Heap,K.In base->base.Ns Å mg->wL l.prog w K mg base xa 12 fa Õ:=by
 have T:Bt mg:=#[Bn Ë H.z0,Bn Ë H.z1,Bn Ë H.z2,Bn Ë H.z3,Bn Ë H.z4,Bn Ë H.z5,Bn Ë H.z6,Bn Ë H.z7,Bn Ë H.z8,Bn Ë H.z9,Bn Ë H.ik,Bn Ë H.ij,Bn Ë H.WD];have U:Wo mg:=#[#[Bn Ë H.y0,Bn Ë H.y1,Bn Ë H.y2],Bn Ë H.y3];have fg:=H.fg;have C:CC K mg:=#[H.MS.mk Ë,H.MR.mk Ë];have Q:KK K:=#[λ c hc=>by cases Au.mp hc;show fg];let#[fd,Fl,hb]:=H.NX.law Ë EX λ _ _ _ _ _ _ _ _=>.of_eq rfl;exact#[fd,hb,λ base _ _=>?_];have d1:=Oo Ã G;have d2:=Oe Ã G d1;have d3:=Od Ã G d1 d2;have d4:=Oc Ð;have d5:=Ob Ñ;have d6:=Oa È;have d7:=P_ Ç;have d8:=PZ Æ;have d9:=PY Æ d8;have Gq:=Om Æ d8 d9;have GC:=Ol Æ d8 d9 Gq;have GX:=Oj Í;have Ha:=Oi Í GX;have HG:=Oh Í GX Ha;have d15:=Og Í GX Ha HG;show P0 Í GX Ha HG d15 Fl
def walk {l:PySem.W.OpenLaw}{q:Program}{loose:List Str}{XP:(Str->Option Value)->Heap->Prop}{YP:World->Heap->Prop}{d:DefRec}{K:Params->Ac}(hn:l.most=↑63) (Dx:d.params.defaults=[])
  (hY:∀ (w:World) (h:Heap),YP w h->(Ï).In h)
  (F:∀ (w:World) (mg:AA) (fa:Addr) (h:Heap),(Ï).In h->h.Ns Å mg->mg d.name=↑(.ref fa)->
   ∃ fd:FuncData,(∀ (s:Shared) (u:Value),BindsTo s fd #[[u],[]] [("_law_script",u)])/\∀ base:Heap,(Ï).In base->base.Ns Å mg->wL l.prog w (Ï) mg base xa 12 fa fd ["_law_script"] (vx (Ï) (zL zE l6))):
  PySem.W.WalkO q loose XP YP l.row.toRowW d [] (λ f vs=>PySem.call f vs):=
 L2.WV (n:=63) (k:=12) (x:="_law_script") (CX:=λ _=>xa) (sp:=λ w=>vx (Ï) (zL zE l6)) hn () Dx #[rfl,(),()] hY F (λ _ _ a ns hl hO hS=>Nr Np hO hS hl) λ _ _ _ _ _ z=>z
end zM
)

open PySem PySem.W PyProof.Rows
set_option maxHeartbeats 0 in
theorem PySem.Challenge.cw_purseborder_k82_whole_keeper_goes_on_holds : PySem.Challenge.rw_purseborder_k82_whole_keeper_goes_on.Holds := by
 w_on;o_law;k_head;(case hw=>w_witness2)
 k_fill
 refine zM.walk (l:=PySem.Challenge.rw_purseborder_k82_whole_keeper_goes_on) rfl rfl (λ w h Y=>PySem.W.kIn_of Y) ?F
 case F=>
  intro w mg fa h KX G Ds;refine' zM.all_mk KX G Ds ⟨?_,?_,?_,?_,?_,?_,?_,?_,?_,?_,?_,?_,?_,?_,?_,?_,?_,?_,?_,?_,?_,?_,?_,?_,?_,?_,?_,?_,?_,?_,?_,?_,?_,?_,?_,?_,?_,?_,?_,?_,?_,?_,?_,?_,?_,?_,?_,?_,?_,?_,?_,?_,?_,?_,?_,?_,?_,?_,?_,?_,?_,?_,?_,?_,?_,?_,?_,?_,?_,?_,?_,?_,?_,?_,?_⟩
  all_goals first | exact L3.Ei.i (by k_is) (by k_is) (by k_is) (by k_is) (by kernel_rfl) (by k_is) (by k_is) (by k_is) (by k_is) (by k_is) (by k_is) | exact L3.Ec.i (by k_is) (by k_is) (by k_is) (by k_is) (by kernel_rfl) | exact L3.Ez.i (by k_is) (by k_is) (by k_is) (by k_is) (by kernel_rfl) (by k_is) (by k_is) | exact L5.Fx.i (by k_is) (by k_is) (by k_is) (by k_is) | exact L5.Fm.i1 (L5.Ck.i (by k_is) (by k_is) (by k_is) (by k_is) (by k_is) (by k_is) (by k_is) (by k_is)) (by k_is) (by k_is) (by k_is) | exact L5.Fm.i2 (L5.Ck.i (by k_is) (by k_is) (by k_is) (by k_is) (by k_is) (by k_is) (by k_is) (by k_is)) (L5.Ck.i (by k_is) (by k_is) (by k_is) (by k_is) (by k_is) (by k_is) (by k_is) (by k_is)) (by k_is) (by k_is) (by k_is) | exact L5.Fc.i (by k_is) (by k_is) (by k_is) (by k_is) (by k_is) (by k_is) (by k_is) (by k_is) | exact L5.Kl.i (by k_is) (by k_is) (by k_is) (by k_is) (by k_is) (by kernel_rfl) | k_is | exact L5.Cn.i (by k_is) (by exact⟨_,rfl⟩)
