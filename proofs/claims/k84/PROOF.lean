import PyProof.Rows.All
import Wide.All
import OpenK.AllK
import Wide.FinOn
import Lean
import PyProof.EqAt
import PyProof.EqKinds
import PyProof.TupleCall
import PySem.SetOps
import PyProof.SetScanFacts
import PyProof.TupleKey
import PyProof.SetKind
import PyProof.SetRoads
import PyProof.IsRules
import PyProof.ZipIter
import PyProof.TupleIter
import PyProof.ListMulRoad
import PyProof.FactsAll.tuple
import PyProof.ListRange
import PyProof.Draws
import PyProof.EnumFor
import PyProof.Rows.ListMul
import PyProof.AutoListH
import PyProof.ExcInit
import PyProof.ExcClass2
import PyProof.InstStore
import PyProof.InstStoreFacts
import PyProof.ExcArgsOwn
import PyProof.IsInstance
import PyProof.IsInstanceH
import PyProof.StationsW
import PyProof.Rows.CatchOwn
import PyProof.FactsAll.dict_1
import PyProof.Rows.Range3
import PyProof.FitsBits
import PyProof.MinMaxWalk
import PyProof.WalkInts
import PyProof.Rows.MinMaxN
import PySem.Challenge.RW_purseborder_k84_whole_hand_against_hand
set_option Elab.async false
set_option linter.all false
set_option maxRecDepth 100000
set_option genSizeOf false
set_option compiler.extract_closed false
set_option bootstrap.genMatcherCode false
abbrev Aj:=PySem.Value->PySem.Shared->Prop
abbrev Ak:=List (PySem.Addr×PySem.Obj)
abbrev Ai:=List PySem.Value
abbrev Aq:=PySem.Str->Option PySem.Value
abbrev AB:=Array PySem.Value
def AU {p:Prop}[Decidable p](h:decide p=true:=by decide +kernel):p:=of_decide_eq_true h
noncomputable section
def gV:=@PySem.wpAny_bind
def tp:=@PySem.Heap.get?_push_of_some
def za2:=@decide_eq_false
def za3:=@decide_eq_true
def za4:=@PySem.wpAny_mono
def za5:=@PySem.wpAny_field
def za6:=@PySem.wpAny_loadPart_at
def za7:=@PySem.Heap.get?_update_other
def za8:=@PySem.Heap.get?_update_self
def za9:=@PySem.wpAny_holding
def zaA:=@PySem.wpAny_newObj_type
def zaB:=@PySem.wpAny_setState_of
def zaC:=@PySem.wpAny_call_entry
def zaD:=@PySem.wpAny_setField
def zaE:=@PySem.wpAny_seqItems
def zaF:=@PySem.wpAny_isSubtype_exc
def zaG:=@PySem.wpAny_callSpecial?_slot
def zaH:=@PySem.wpAny_truthy_bool
def zaI:=@PySem.wpAny_execs_nil
def zaJ:=@PySem.wpAny_passesOwn
def zaK:=@PySem.wpAny_setField_rec
def zaL:=@PySem.wpAny_Call_Name_kw
def zaM:=@PySem.wpAny_pyIter_list
def zaN:=@PySem.wpAny_askSetting
def zaO:=@PySem.Heap.get?_none_of_le
def zaP:=@PySem.wpAny_pyIter_tuple
def zaQ:=@PySem.Heap.get?_update_ne
def Al:=@Option.bind_eq_some_iff
def Au:=@List.mem_cons_self
def Ay:=@List.mem_cons_of_mem
def Ax:=@Option.map_eq_some_iff
def A6:=@List.not_mem_nil
def Bj:=@List.lookup_cons
def Bp:=@Nat.ne_of_gt
def Bo:=@List.nodup_cons
def Bn:=@Nat.lt_or_ge
def BD:=@List.map_nil
def BC:=@List.pairwise_cons
def BB:=@List.any_cons
def BK:=@List.contains_cons
def BR:=@List.append_nil
def B4:=@List.mem_append_left
def B3:=@Bool.false_ne_true
def B2:=@List.replicate_succ
def B1:=@Nat.lt_trans
def Ca:=@List.mem_iff_getElem
def B_:=@Nat.lt_succ_of_lt
def B9:=@List.mem_flatMap
def Cr:=@List.getElem?_append_right
def Cq:=@List.getElem?_append_left
def Cp:=@List.flatten_cons
def Co:=@List.mem_iff_getElem?
def Cj:=@Int.mul_nonneg
def Ci:=@Int.natCast_succ
def Cg:=@Int.add_mul
def CA:=@List.length_set
def Cz:=@List.find?_cons
def Cy:=@Array.getElem_toList
def Cw:=@Int.toNat_natCast
def Cv:=@Int.zero_add
def Cu:=@List.mem_of_find?_eq_some
def CQ:=@List.mem_filterMap
def CP:=@List.getElem?_replicate
def CO:=@Bool.and_false
def CN:=@List.getElem?_set
def CM:=@Array.getElem?_eq_none
def CL:=@Nat.le_add_right
def Dc:=@List.filterMap_cons
def C_:=@Nat.le_succ
def C9:=@List.length_take
def C8:=@Bool.or_true
def C7:=@List.getElem?_eq_none
def C6:=@Array.size_map
def C5:=@List.ext_getElem
def C4:=@List.pairwise_map
def C3:=@List.pairwise_iff_getElem
def C2:=@List.map_congr_left
def C1:=@Nat.mod_lt
def C0:=@List.getElem?_cons_succ
def CZ:=@List.toList_toArray
def CY:=@Nat.zero_add
def CW:=@List.length_filter_le
def DU:=@List.of_mem_zip
def DT:=@Option.isSome_iff_exists
def DS:=@List.forIn_cons
def DR:=@List.pairwise_append
def DQ:=@List.lookup_append
def DP:=@List.getElem_range
def DN:=@Array.getD_eq_getD_getElem?
def DM:=@Bool.and_self
def DL:=@List.length_nil
def DJ:=@Nat.eq_zero_or_pos
def DI:=@Nat.lt_trichotomy
def DH:=@List.getElem?_range
def DG:=@Array.getElem?_setIfInBounds
def DF:=@List.foldl_cons
def DE:=@List.map_take
def DD:=@List.map_drop
def DC:=@List.zipIdx_cons
def DB:=@Bool.or_eq_true
def DA:=@List.mem_map_of_mem
def Et:=@Array.append_assoc
def Es:=@List.getElem?_set_self
def Er:=@List.getElem?_set_ne
def Ep:=@List.any_eq_false
def Eo:=@List.length_drop
def En:=@Nat.lt_of_le_of_lt
def Em:=@List.append_assoc
def El:=@List.pairwise_singleton
def Ek:=@List.nodup_range
def Ej:=@List.take_append_drop
def Eh:=@List.find?_eq_none
def Eg:=@List.perm_ext_iff_of_nodup
def Ef:=@Int.mul_le_mul_of_nonneg_right
def Ee:=@Bool.not_eq_true
def Ed:=@Int.lt_of_le_of_lt
def Eb:=@List.mem_zipIdx_iff_getElem?
def Ea:=@List.find?_some
def zcJ:=@Array.getElem?_setIfInBounds_ne
def AK:=@List.size_toArray
def A8:=@List.getElem?_eq_getElem
def AQ:=@List.getElem?_eq_some_iff
def AG:=@List.getElem?_map
def An:=@Nat.le_refl
def Am:=@List.mem_cons
def Az:=@List.map_cons
def AM:=@List.length_map
def Ar:=@PySem.Heap.lt_size
def AJ:=@PySem.Heap.get?_push_size
def Aw:=@List.mem_map
def Bi:=@List.getD_eq_getElem?_getD
def CT:=@Bool.not_false
def AF:=@Nat.ne_of_lt
def A2:=@List.mem_append_right
def CS:=@Bool.not_true
def AI:=@List.mem_singleton
def AW:=@List.mem_of_getElem?
def Bv:=@Array.getElem?_eq_getElem
def A5:=@List.mem_append
def A1:=@List.length_cons
def AO:=@List.mem_range
def Bk:=@PySem.W.mg_none_of
def Bf:=@Nat.lt_of_lt_of_le
def Bs:=@Bool.false_eq_true
def Cs:=@List.length_range
def A4:=@Int.le_refl
def Bh:=@Bool.eq_iff_iff
def A7:=@List.mem_filter
def Ba:=@Option.bind_some
def A_:=@List.any_eq_true
def Ae:=@PySem.wpAny_pure
def BG:=@Array.length_toList
def BP:=@Array.getElem?_toList
def AZ:=@Nat.zero_le
def Be:=@Option.some.inj
def A3:=@List.map_map
def BO:=@List.length_append
def BF:=@List.getElem_mem
def Br:=@Nat.le_trans
def B6:=@Nat.lt_irrefl
def B5:=@Nat.lt_succ_self
def BE:=@Nat.le_of_lt
def BL:=@List.all_eq_true
def BN:=@Bool.and_eq_true
def Bu:=@List.map_append
def De:=@Int.emod_nonneg
def Dd:=@Int.emod_lt_of_pos
section
theorem E_0_1{p:Prop}{G:Prop}(h:p) (f:p->G):G:=f h
theorem E_0_2{p q:Prop}{G:Prop}(h:p/\q) (f:p->q->G):G:=E_0_1 h.2 (f h.1)
theorem E_1_1{α:Sort _}{p:α->Prop}{G:Prop}(h:∃ a,p a) (f:∀ a,p a->G):G:=h.elim λ a h=>E_0_1 h (f a)
theorem E_0_3{p q r:Prop}{G:Prop}(h:p/\q/\r) (f:p->q->r->G):G:=E_0_2 h.2 (f h.1)
theorem E_1_2{α:Sort _}{p q:α->Prop}{G:Prop}(h:∃ a,p a/\q a) (f:∀ a,p a->q a->G):G:=h.elim λ a h=>E_0_2 h (f a)
theorem E_2_1{α β:Sort _}{p:α->β->Prop}{G:Prop}(h:∃ a b,p a b) (f:∀ a b,p a b->G):G:=h.elim λ a h=>E_1_1 h (f a)
theorem E_0_4{p q r s:Prop}{G:Prop}(h:p/\q/\r/\s) (f:p->q->r->s->G):G:=E_0_3 h.2 (f h.1)
theorem E_1_3{α:Sort _}{p q r:α->Prop}{G:Prop}(h:∃ a,p a/\q a/\r a) (f:∀ a,p a->q a->r a->G):G:=h.elim λ a h=>E_0_3 h (f a)
theorem E_2_2{α β:Sort _}{p q:α->β->Prop}{G:Prop}(h:∃ a b,p a b/\q a b) (f:∀ a b,p a b->q a b->G):G:=h.elim λ a h=>E_1_2 h (f a)
theorem E_3_1{α β γ:Sort _}{p:α->β->γ->Prop}{G:Prop}(h:∃ a b c,p a b c) (f:∀ a b c,p a b c->G):G:=h.elim λ a h=>E_2_1 h (f a)
theorem E_0_5{p q r s t:Prop}{G:Prop}(h:p/\q/\r/\s/\t) (f:p->q->r->s->t->G):G:=E_0_4 h.2 (f h.1)
theorem E_1_4{α:Sort _}{p q r s:α->Prop}{G:Prop}(h:∃ a,p a/\q a/\r a/\s a) (f:∀ a,p a->q a->r a->s a->G):G:=h.elim λ a h=>E_0_4 h (f a)
theorem E_2_3{α β:Sort _}{p q r:α->β->Prop}{G:Prop}(h:∃ a b,p a b/\q a b/\r a b) (f:∀ a b,p a b->q a b->r a b->G):G:=h.elim λ a h=>E_1_3 h (f a)
theorem E_3_2{α β γ:Sort _}{p q:α->β->γ->Prop}{G:Prop}(h:∃ a b c,p a b c/\q a b c) (f:∀ a b c,p a b c->q a b c->G):G:=h.elim λ a h=>E_2_2 h (f a)
theorem E_4_1{α β γ δ:Sort _}{p:α->β->γ->δ->Prop}{G:Prop}(h:∃ a b c d,p a b c d) (f:∀ a b c d,p a b c d->G):G:=h.elim λ a h=>E_3_1 h (f a)
theorem E_0_6{p q r s t u:Prop}{G:Prop}(h:p/\q/\r/\s/\t/\u) (f:p->q->r->s->t->u->G):G:=E_0_5 h.2 (f h.1)
theorem E_1_5{α:Sort _}{p q r s t:α->Prop}{G:Prop}(h:∃ a,p a/\q a/\r a/\s a/\t a) (f:∀ a,p a->q a->r a->s a->t a->G):G:=h.elim λ a h=>E_0_5 h (f a)
theorem E_2_4{α β:Sort _}{p q r s:α->β->Prop}{G:Prop}(h:∃ a b,p a b/\q a b/\r a b/\s a b) (f:∀ a b,p a b->q a b->r a b->s a b->G):G:=h.elim λ a h=>E_1_4 h (f a)
theorem E_3_3{α β γ:Sort _}{p q r:α->β->γ->Prop}{G:Prop}(h:∃ a b c,p a b c/\q a b c/\r a b c) (f:∀ a b c,p a b c->q a b c->r a b c->G):G:=h.elim λ a h=>E_2_3 h (f a)
theorem E_4_2{α β γ δ:Sort _}{p q:α->β->γ->δ->Prop}{G:Prop}(h:∃ a b c d,p a b c d/\q a b c d) (f:∀ a b c d,p a b c d->q a b c d->G):G:=h.elim λ a h=>E_3_2 h (f a)
theorem E_5_1{α β γ δ ε:Sort _}{p:α->β->γ->δ->ε->Prop}{G:Prop}(h:∃ a b c d e,p a b c d e) (f:∀ a b c d e,p a b c d e->G):G:=h.elim λ a h=>E_4_1 h (f a)
theorem E_0_7{p q r s t u v:Prop}{G:Prop}(h:p/\q/\r/\s/\t/\u/\v) (f:p->q->r->s->t->u->v->G):G:=E_0_6 h.2 (f h.1)
theorem E_1_6{α:Sort _}{p q r s t u:α->Prop}{G:Prop}(h:∃ a,p a/\q a/\r a/\s a/\t a/\u a) (f:∀ a,p a->q a->r a->s a->t a->u a->G):G:=h.elim λ a h=>E_0_6 h (f a)
theorem E_2_5{α β:Sort _}{p q r s t:α->β->Prop}{G:Prop}(h:∃ a b,p a b/\q a b/\r a b/\s a b/\t a b) (f:∀ a b,p a b->q a b->r a b->s a b->t a b->G):G:=h.elim λ a h=>E_1_5 h (f a)
theorem E_3_4{α β γ:Sort _}{p q r s:α->β->γ->Prop}{G:Prop}(h:∃ a b c,p a b c/\q a b c/\r a b c/\s a b c) (f:∀ a b c,p a b c->q a b c->r a b c->s a b c->G):G:=h.elim λ a h=>E_2_4 h (f a)
theorem E_4_3{α β γ δ:Sort _}{p q r:α->β->γ->δ->Prop}{G:Prop}(h:∃ a b c d,p a b c d/\q a b c d/\r a b c d) (f:∀ a b c d,p a b c d->q a b c d->r a b c d->G):G:=h.elim λ a h=>E_3_3 h (f a)
theorem E_5_2{α β γ δ ε:Sort _}{p q:α->β->γ->δ->ε->Prop}{G:Prop}(h:∃ a b c d e,p a b c d e/\q a b c d e) (f:∀ a b c d e,p a b c d e->q a b c d e->G):G:=h.elim λ a h=>E_4_2 h (f a)
theorem E_6_1{α β γ δ ε ζ:Sort _}{p:α->β->γ->δ->ε->ζ->Prop}{G:Prop}(h:∃ a b c d e f,p a b c d e f) (f:∀ a b c d e f,p a b c d e f->G):G:=h.elim λ a h=>E_5_1 h (f a)
theorem E_0_8{p q r s t u v w:Prop}{G:Prop}(h:p/\q/\r/\s/\t/\u/\v/\w) (f:p->q->r->s->t->u->v->w->G):G:=E_0_7 h.2 (f h.1)
theorem E_1_7{α:Sort _}{p q r s t u v:α->Prop}{G:Prop}(h:∃ a,p a/\q a/\r a/\s a/\t a/\u a/\v a) (f:∀ a,p a->q a->r a->s a->t a->u a->v a->G):G:=h.elim λ a h=>E_0_7 h (f a)
theorem E_2_6{α β:Sort _}{p q r s t u:α->β->Prop}{G:Prop}(h:∃ a b,p a b/\q a b/\r a b/\s a b/\t a b/\u a b) (f:∀ a b,p a b->q a b->r a b->s a b->t a b->u a b->G):G:=h.elim λ a h=>E_1_6 h (f a)
theorem E_3_5{α β γ:Sort _}{p q r s t:α->β->γ->Prop}{G:Prop}(h:∃ a b c,p a b c/\q a b c/\r a b c/\s a b c/\t a b c) (f:∀ a b c,p a b c->q a b c->r a b c->s a b c->t a b c->G):G:=h.elim λ a h=>E_2_5 h (f a)
theorem E_4_4{α β γ δ:Sort _}{p q r s:α->β->γ->δ->Prop}{G:Prop}(h:∃ a b c d,p a b c d/\q a b c d/\r a b c d/\s a b c d) (f:∀ a b c d,p a b c d->q a b c d->r a b c d->s a b c d->G):G:=h.elim λ a h=>E_3_4 h (f a)
theorem E_5_3{α β γ δ ε:Sort _}{p q r:α->β->γ->δ->ε->Prop}{G:Prop}(h:∃ a b c d e,p a b c d e/\q a b c d e/\r a b c d e) (f:∀ a b c d e,p a b c d e->q a b c d e->r a b c d e->G):G:=h.elim λ a h=>E_4_3 h (f a)
theorem E_6_2{α β γ δ ε ζ:Sort _}{p q:α->β->γ->δ->ε->ζ->Prop}{G:Prop}(h:∃ a b c d e f,p a b c d e f/\q a b c d e f) (f:∀ a b c d e f,p a b c d e f->q a b c d e f->G):G:=h.elim λ a h=>E_5_2 h (f a)
theorem E_7_1{α β γ δ ε ζ η:Sort _}{p:α->β->γ->δ->ε->ζ->η->Prop}{G:Prop}(h:∃ a b c d e f g,p a b c d e f g) (f:∀ a b c d e f g,p a b c d e f g->G):G:=h.elim λ a h=>E_6_1 h (f a)
theorem E_0_9{p q r s t u v w x:Prop}{G:Prop}(h:p/\q/\r/\s/\t/\u/\v/\w/\x) (f:p->q->r->s->t->u->v->w->x->G):G:=E_0_8 h.2 (f h.1)
theorem E_1_8{α:Sort _}{p q r s t u v w:α->Prop}{G:Prop}(h:∃ a,p a/\q a/\r a/\s a/\t a/\u a/\v a/\w a) (f:∀ a,p a->q a->r a->s a->t a->u a->v a->w a->G):G:=h.elim λ a h=>E_0_8 h (f a)
theorem E_2_7{α β:Sort _}{p q r s t u v:α->β->Prop}{G:Prop}(h:∃ a b,p a b/\q a b/\r a b/\s a b/\t a b/\u a b/\v a b) (f:∀ a b,p a b->q a b->r a b->s a b->t a b->u a b->v a b->G):G:=h.elim λ a h=>E_1_7 h (f a)
theorem E_3_6{α β γ:Sort _}{p q r s t u:α->β->γ->Prop}{G:Prop}(h:∃ a b c,p a b c/\q a b c/\r a b c/\s a b c/\t a b c/\u a b c) (f:∀ a b c,p a b c->q a b c->r a b c->s a b c->t a b c->u a b c->G):G:=h.elim λ a h=>E_2_6 h (f a)
theorem E_4_5{α β γ δ:Sort _}{p q r s t:α->β->γ->δ->Prop}{G:Prop}(h:∃ a b c d,p a b c d/\q a b c d/\r a b c d/\s a b c d/\t a b c d) (f:∀ a b c d,p a b c d->q a b c d->r a b c d->s a b c d->t a b c d->G):G:=h.elim λ a h=>E_3_5 h (f a)
theorem E_5_4{α β γ δ ε:Sort _}{p q r s:α->β->γ->δ->ε->Prop}{G:Prop}(h:∃ a b c d e,p a b c d e/\q a b c d e/\r a b c d e/\s a b c d e) (f:∀ a b c d e,p a b c d e->q a b c d e->r a b c d e->s a b c d e->G):G:=h.elim λ a h=>E_4_4 h (f a)
theorem E_6_3{α β γ δ ε ζ:Sort _}{p q r:α->β->γ->δ->ε->ζ->Prop}{G:Prop}(h:∃ a b c d e f,p a b c d e f/\q a b c d e f/\r a b c d e f) (f:∀ a b c d e f,p a b c d e f->q a b c d e f->r a b c d e f->G):G:=h.elim λ a h=>E_5_3 h (f a)
theorem E_7_2{α β γ δ ε ζ η:Sort _}{p q:α->β->γ->δ->ε->ζ->η->Prop}{G:Prop}(h:∃ a b c d e f g,p a b c d e f g/\q a b c d e f g) (f:∀ a b c d e f g,p a b c d e f g->q a b c d e f g->G):G:=h.elim λ a h=>E_6_2 h (f a)
theorem E_8_1{α β γ δ ε ζ η θ:Sort _}{p:α->β->γ->δ->ε->ζ->η->θ->Prop}{G:Prop}(h:∃ a b c d e f g h,p a b c d e f g h) (f:∀ a b c d e f g h,p a b c d e f g h->G):G:=h.elim λ a h=>E_7_1 h (f a)
theorem E_0_10{p q r s t u v w x y:Prop}{G:Prop}(h:p/\q/\r/\s/\t/\u/\v/\w/\x/\y) (f:p->q->r->s->t->u->v->w->x->y->G):G:=E_0_9 h.2 (f h.1)
theorem E_1_9{α:Sort _}{p q r s t u v w x:α->Prop}{G:Prop}(h:∃ a,p a/\q a/\r a/\s a/\t a/\u a/\v a/\w a/\x a) (f:∀ a,p a->q a->r a->s a->t a->u a->v a->w a->x a->G):G:=h.elim λ a h=>E_0_9 h (f a)
theorem E_2_8{α β:Sort _}{p q r s t u v w:α->β->Prop}{G:Prop}(h:∃ a b,p a b/\q a b/\r a b/\s a b/\t a b/\u a b/\v a b/\w a b) (f:∀ a b,p a b->q a b->r a b->s a b->t a b->u a b->v a b->w a b->G):G:=h.elim λ a h=>E_1_8 h (f a)
theorem E_3_7{α β γ:Sort _}{p q r s t u v:α->β->γ->Prop}{G:Prop}(h:∃ a b c,p a b c/\q a b c/\r a b c/\s a b c/\t a b c/\u a b c/\v a b c) (f:∀ a b c,p a b c->q a b c->r a b c->s a b c->t a b c->u a b c->v a b c->G):G:=h.elim λ a h=>E_2_7 h (f a)
theorem E_4_6{α β γ δ:Sort _}{p q r s t u:α->β->γ->δ->Prop}{G:Prop}(h:∃ a b c d,p a b c d/\q a b c d/\r a b c d/\s a b c d/\t a b c d/\u a b c d) (f:∀ a b c d,p a b c d->q a b c d->r a b c d->s a b c d->t a b c d->u a b c d->G):G:=h.elim λ a h=>E_3_6 h (f a)
theorem E_5_5{α β γ δ ε:Sort _}{p q r s t:α->β->γ->δ->ε->Prop}{G:Prop}(h:∃ a b c d e,p a b c d e/\q a b c d e/\r a b c d e/\s a b c d e/\t a b c d e) (f:∀ a b c d e,p a b c d e->q a b c d e->r a b c d e->s a b c d e->t a b c d e->G):G:=h.elim λ a h=>E_4_5 h (f a)
theorem E_6_4{α β γ δ ε ζ:Sort _}{p q r s:α->β->γ->δ->ε->ζ->Prop}{G:Prop}(h:∃ a b c d e f,p a b c d e f/\q a b c d e f/\r a b c d e f/\s a b c d e f) (f:∀ a b c d e f,p a b c d e f->q a b c d e f->r a b c d e f->s a b c d e f->G):G:=h.elim λ a h=>E_5_4 h (f a)
theorem E_7_3{α β γ δ ε ζ η:Sort _}{p q r:α->β->γ->δ->ε->ζ->η->Prop}{G:Prop}(h:∃ a b c d e f g,p a b c d e f g/\q a b c d e f g/\r a b c d e f g) (f:∀ a b c d e f g,p a b c d e f g->q a b c d e f g->r a b c d e f g->G):G:=h.elim λ a h=>E_6_3 h (f a)
theorem E_8_2{α β γ δ ε ζ η θ:Sort _}{p q:α->β->γ->δ->ε->ζ->η->θ->Prop}{G:Prop}(h:∃ a b c d e f g h,p a b c d e f g h/\q a b c d e f g h) (f:∀ a b c d e f g h,p a b c d e f g h->q a b c d e f g h->G):G:=h.elim λ a h=>E_7_2 h (f a)
theorem E_9_1{α β γ δ ε ζ η θ ι:Sort _}{p:α->β->γ->δ->ε->ζ->η->θ->ι->Prop}{G:Prop}(h:∃ a b c d e f g h i,p a b c d e f g h i) (f:∀ a b c d e f g h i,p a b c d e f g h i->G):G:=h.elim λ a h=>E_8_1 h (f a)
theorem E_0_11{p q r s t u v w x y z:Prop}{G:Prop}(h:p/\q/\r/\s/\t/\u/\v/\w/\x/\y/\z) (f:p->q->r->s->t->u->v->w->x->y->z->G):G:=E_0_10 h.2 (f h.1)
theorem E_1_10{α:Sort _}{p q r s t u v w x y:α->Prop}{G:Prop}(h:∃ a,p a/\q a/\r a/\s a/\t a/\u a/\v a/\w a/\x a/\y a) (f:∀ a,p a->q a->r a->s a->t a->u a->v a->w a->x a->y a->G):G:=h.elim λ a h=>E_0_10 h (f a)
theorem E_2_9{α β:Sort _}{p q r s t u v w x:α->β->Prop}{G:Prop}(h:∃ a b,p a b/\q a b/\r a b/\s a b/\t a b/\u a b/\v a b/\w a b/\x a b) (f:∀ a b,p a b->q a b->r a b->s a b->t a b->u a b->v a b->w a b->x a b->G):G:=h.elim λ a h=>E_1_9 h (f a)
theorem E_3_8{α β γ:Sort _}{p q r s t u v w:α->β->γ->Prop}{G:Prop}(h:∃ a b c,p a b c/\q a b c/\r a b c/\s a b c/\t a b c/\u a b c/\v a b c/\w a b c) (f:∀ a b c,p a b c->q a b c->r a b c->s a b c->t a b c->u a b c->v a b c->w a b c->G):G:=h.elim λ a h=>E_2_8 h (f a)
theorem E_4_7{α β γ δ:Sort _}{p q r s t u v:α->β->γ->δ->Prop}{G:Prop}(h:∃ a b c d,p a b c d/\q a b c d/\r a b c d/\s a b c d/\t a b c d/\u a b c d/\v a b c d) (f:∀ a b c d,p a b c d->q a b c d->r a b c d->s a b c d->t a b c d->u a b c d->v a b c d->G):G:=h.elim λ a h=>E_3_7 h (f a)
theorem E_5_6{α β γ δ ε:Sort _}{p q r s t u:α->β->γ->δ->ε->Prop}{G:Prop}(h:∃ a b c d e,p a b c d e/\q a b c d e/\r a b c d e/\s a b c d e/\t a b c d e/\u a b c d e) (f:∀ a b c d e,p a b c d e->q a b c d e->r a b c d e->s a b c d e->t a b c d e->u a b c d e->G):G:=h.elim λ a h=>E_4_6 h (f a)
theorem E_6_5{α β γ δ ε ζ:Sort _}{p q r s t:α->β->γ->δ->ε->ζ->Prop}{G:Prop}(h:∃ a b c d e f,p a b c d e f/\q a b c d e f/\r a b c d e f/\s a b c d e f/\t a b c d e f) (f:∀ a b c d e f,p a b c d e f->q a b c d e f->r a b c d e f->s a b c d e f->t a b c d e f->G):G:=h.elim λ a h=>E_5_5 h (f a)
theorem E_7_4{α β γ δ ε ζ η:Sort _}{p q r s:α->β->γ->δ->ε->ζ->η->Prop}{G:Prop}(h:∃ a b c d e f g,p a b c d e f g/\q a b c d e f g/\r a b c d e f g/\s a b c d e f g) (f:∀ a b c d e f g,p a b c d e f g->q a b c d e f g->r a b c d e f g->s a b c d e f g->G):G:=h.elim λ a h=>E_6_4 h (f a)
theorem E_8_3{α β γ δ ε ζ η θ:Sort _}{p q r:α->β->γ->δ->ε->ζ->η->θ->Prop}{G:Prop}(h:∃ a b c d e f g h,p a b c d e f g h/\q a b c d e f g h/\r a b c d e f g h) (f:∀ a b c d e f g h,p a b c d e f g h->q a b c d e f g h->r a b c d e f g h->G):G:=h.elim λ a h=>E_7_3 h (f a)
theorem E_9_2{α β γ δ ε ζ η θ ι:Sort _}{p q:α->β->γ->δ->ε->ζ->η->θ->ι->Prop}{G:Prop}(h:∃ a b c d e f g h i,p a b c d e f g h i/\q a b c d e f g h i) (f:∀ a b c d e f g h i,p a b c d e f g h i->q a b c d e f g h i->G):G:=h.elim λ a h=>E_8_2 h (f a)
theorem E_1_11{α:Sort _}{p q r s t u v w x y z:α->Prop}{G:Prop}(h:∃ a,p a/\q a/\r a/\s a/\t a/\u a/\v a/\w a/\x a/\y a/\z a) (f:∀ a,p a->q a->r a->s a->t a->u a->v a->w a->x a->y a->z a->G):G:=h.elim λ a h=>E_0_11 h (f a)
theorem E_2_10{α β:Sort _}{p q r s t u v w x y:α->β->Prop}{G:Prop}(h:∃ a b,p a b/\q a b/\r a b/\s a b/\t a b/\u a b/\v a b/\w a b/\x a b/\y a b) (f:∀ a b,p a b->q a b->r a b->s a b->t a b->u a b->v a b->w a b->x a b->y a b->G):G:=h.elim λ a h=>E_1_10 h (f a)
theorem E_3_9{α β γ:Sort _}{p q r s t u v w x:α->β->γ->Prop}{G:Prop}(h:∃ a b c,p a b c/\q a b c/\r a b c/\s a b c/\t a b c/\u a b c/\v a b c/\w a b c/\x a b c) (f:∀ a b c,p a b c->q a b c->r a b c->s a b c->t a b c->u a b c->v a b c->w a b c->x a b c->G):G:=h.elim λ a h=>E_2_9 h (f a)
theorem E_4_8{α β γ δ:Sort _}{p q r s t u v w:α->β->γ->δ->Prop}{G:Prop}(h:∃ a b c d,p a b c d/\q a b c d/\r a b c d/\s a b c d/\t a b c d/\u a b c d/\v a b c d/\w a b c d) (f:∀ a b c d,p a b c d->q a b c d->r a b c d->s a b c d->t a b c d->u a b c d->v a b c d->w a b c d->G):G:=h.elim λ a h=>E_3_8 h (f a)
theorem E_5_7{α β γ δ ε:Sort _}{p q r s t u v:α->β->γ->δ->ε->Prop}{G:Prop}(h:∃ a b c d e,p a b c d e/\q a b c d e/\r a b c d e/\s a b c d e/\t a b c d e/\u a b c d e/\v a b c d e) (f:∀ a b c d e,p a b c d e->q a b c d e->r a b c d e->s a b c d e->t a b c d e->u a b c d e->v a b c d e->G):G:=h.elim λ a h=>E_4_7 h (f a)
theorem E_6_6{α β γ δ ε ζ:Sort _}{p q r s t u:α->β->γ->δ->ε->ζ->Prop}{G:Prop}(h:∃ a b c d e f,p a b c d e f/\q a b c d e f/\r a b c d e f/\s a b c d e f/\t a b c d e f/\u a b c d e f) (f:∀ a b c d e f,p a b c d e f->q a b c d e f->r a b c d e f->s a b c d e f->t a b c d e f->u a b c d e f->G):G:=h.elim λ a h=>E_5_6 h (f a)
theorem E_7_5{α β γ δ ε ζ η:Sort _}{p q r s t:α->β->γ->δ->ε->ζ->η->Prop}{G:Prop}(h:∃ a b c d e f g,p a b c d e f g/\q a b c d e f g/\r a b c d e f g/\s a b c d e f g/\t a b c d e f g) (f:∀ a b c d e f g,p a b c d e f g->q a b c d e f g->r a b c d e f g->s a b c d e f g->t a b c d e f g->G):G:=h.elim λ a h=>E_6_5 h (f a)
theorem E_8_4{α β γ δ ε ζ η θ:Sort _}{p q r s:α->β->γ->δ->ε->ζ->η->θ->Prop}{G:Prop}(h:∃ a b c d e f g h,p a b c d e f g h/\q a b c d e f g h/\r a b c d e f g h/\s a b c d e f g h) (f:∀ a b c d e f g h,p a b c d e f g h->q a b c d e f g h->r a b c d e f g h->s a b c d e f g h->G):G:=h.elim λ a h=>E_7_4 h (f a)
theorem E_9_3{α β γ δ ε ζ η θ ι:Sort _}{p q r:α->β->γ->δ->ε->ζ->η->θ->ι->Prop}{G:Prop}(h:∃ a b c d e f g h i,p a b c d e f g h i/\q a b c d e f g h i/\r a b c d e f g h i) (f:∀ a b c d e f g h i,p a b c d e f g h i->q a b c d e f g h i->r a b c d e f g h i->G):G:=h.elim λ a h=>E_8_3 h (f a)
end
open Lean in
def eKM (a:Array Term) (e:Term):MacroM (TSyntax `tactic):=do
 let n:=a.size
 if n<3||n>12 then Macro.throwUnsupported
 let f<-(List.range n).toArray.mapM λ k=>`(tacticSeq|refine $(mkIdent (.mkSimple s!"E_{n-1-k}_{k+1}")):ident $e ?_)
 let mut ts:=#[<-`(tactic|first $[|$f]*)]
 if e.raw.isIdent then ts:=ts.push (<-`(tactic|try clear $(⟨e.raw⟩):ident))
 let mut xs:Array Term:=#[]
 for x in a do
  if x.raw.isOfKind ``Lean.Parser.Term.hole||x.raw.isIdent&&x.raw.getId != `rfl then xs:=xs.push x
  else
   let y:Term<-withFreshMacroScope `(y)
   xs:=xs.push y
   ts:=ts.push (<-`(tactic|intro $xs:term*))
   xs:=#[]
   ts:=ts.push (<-if x.raw.isIdent then `(tactic|obtain $(⟨x.raw⟩):ident:=$y) else `(tactic|let $x:term:=$y))
 if xs.size>0 then ts:=ts.push (<-`(tactic|intro $xs:term*))
 `(tactic|($[$ts:tactic]*))
open Lean in
def czXX (T:NameMap (List Syntax)):Nat->Syntax->List Syntax
|0,s=>[s]
|n+1,s=>match s with
 |.ident _ _ v _=>(T.find? v).getD [s]
 |.node i k a=>
  match if k== ``Lean.Elab.Tactic.Ext.ext then T.find? s[1][0][0][0].getId else if k== ``Lean.Parser.Term.implicitBinder&&s[2].getNumArgs==0 then T.find? s[1][0].getId else none with
  |some r=>if r.head!.isOfKind ``Lean.Parser.Term.byTactic then r.head![1][0][0].getArgs.toList else r
  |_=>let b:=a.toList.flatMap (czXX T n)
   [.node i k (match b with
    |[f,x]=>if k== ``Lean.Parser.Term.app&&f.isOfKind k then #[f[0],mkNullNode (f[1].getArgs++x.getArgs)] else b.toArray
    |_=>b.toArray)]
 |_=>[s]
open Lean in
def czYY (q:Syntax):Array Syntax:=(q[1].getArgs.foldl (λ(T,a) c=>
 let e:=c[1]
 let z:=czXX T 9999
 if c.isOfKind ``Lean.Parser.Command.declaration&&e.isOfKind ``Lean.Parser.Command.example then
  let b:=e[1][0].getArgs
  let v:=e[2][1]
  (T.insert b[0]!.getId (if b.size==1 then z v else if b[1]!.isOfKind ``Lean.Parser.Term.hole then v[1].getArgs.toList.flatMap z else (b.toList.drop 1).flatMap z),a)
 else (T,a++z c)) ((∅:NameMap (List Syntax)),#[])).2
local macro_rules(kind:=Lean.Parser.Command.declaration)|s=>do
 unless s[1][2][1].isOfKind ``Lean.Parser.Command.quot do Lean.Macro.throwUnsupported
 return Lean.mkNullNode (czYY s[1][2][1])
open Lean in
def zRc:Nat->Term->MacroM (TSyntax `rcasesPat)
|0,_=>Macro.throwUnsupported
|n+1,t=>match t with
 |`(#[$xs,*])=>do let ys<-xs.getElems.mapM (zRc n);`(rcasesPat|⟨$[$ys:rcasesPat],*⟩)
 |`(_)=>`(rcasesPat|_)
 |`($x:ident)=>`(rcasesPat|$x:ident)
 |_=>Macro.throwUnsupported
local macro_rules|`(tactic|let $p:term:=$e)=>do let q<-zRc 9 p;`(tactic|obtain $q:rcasesPat:=$e)
local macro_rules|`(tactic|let #[$a,*]:=$e)=>do let q<-zRc 9 (<-`(#[$a,*]));let t<-eKM a.getElems e;`(tactic|first|$t:tactic|obtain $q:rcasesPat:=$e)
local macro_rules|`(tactic|simp! [$a,*] $[$l:location]?)=>`(tactic|simp only [$a,*] $[$l:location]?)
local macro_rules|`(tactic|exists $e)=>`(tactic|simpa using $e)
local macro_rules|`(tactic|show $e)=>`(tactic|refine $e)
local macro_rules|`(tactic|exact $e)=>`(tactic|refine $e)
local macro_rules|`(#[])=>`(by simp)|`(#[$xs,*])=>`(⟨$xs,*⟩)
local macro_rules|`(↑$x)=>`(some $x)
local macro_rules|`(⋯)=>`(by lia)
local macro_rules|`(())=>`(by decide)
abbrev Ac:=PySem.W.Frag
local macro_rules(kind:=Lean.Parser.Command.declaration)|s=>do
 if s[0][4].getNumArgs>0||![``Lean.Parser.Command.definition,``Lean.Parser.Command.abbrev].contains s[1].getKind then Lean.Macro.throwUnsupported
 return s.setArg 0 (s[0].setArg 4 (Lean.mkNullNode [Lean.mkNode ``Lean.Parser.Command.noncomputable [Lean.mkAtom "noncomputable"].toArray].toArray))
example:=`(
example Î _:=x X EW σ
example À:=Inv Î H s
example Á:=s.heap.objs.size
example è _:=x X.prog X.w
example Â _:=x (model è) X.A
example Ð:=Shared
example Ņ(H:Hp):=0
example Ã(EW:Ak) (s:Ð) (σ:St) Ņ:=0
example Ë1:=.type
example ó:=.int
example Â1:=.fields [ó lo t,ó hi u,ó 1 v].toArray
example Ä:=s.heap.push { cls:=Ë1 "range",data:=Â1 }
example î _:=x σ H
example Ľ _:=x EW s î
example Å _:=x Ľ _ I h
example ŏ:=.inl
example Æ(hf:X.fn x=true\/X.env.scope.names.lookup x=↑.local:=by first | show ŏ rfl | show .inr rfl | assumption):=0
example Ç:=#[x,H1,I1,r1,q1]
example É5:=X.env.cells.lookup
example È:=É5 x=↑c
example É:=Value
example Ê:=items.size
example Ë:=by intro X hP hw hK hc i EW s σ H E I hf st hg;subst hP hw hK
example À3{s:Ð}:=0
example Ò0{EW:Ak}:=0
example Ō{H:Hp}:=0
example Ò1{σ:St}:=0
example Ì Ò0 Ò1 Ō À3:=0
example Í:=by intro EW s σ H Q I h
example ÿ:=X.s₀.heap.objs.size
example Â6:=(∀ x c,È->c≠b)/\∀ p∈X.pn++EW,p.1≠b
example Ô:=X.env.locals
example Ï(B8:∀ b∈ch,(b∈X.ex\/ÿ<=b)/\b≠ Ô/\Â6):=0
example æ:=false
example Ñ:=(x == ("__debug__":Str))=æ
example Ò:=Hp->Prop
example Ó:=xs.length
example Ð2:=Program
example Õ{P:Ð2}{w:World}:=0
example Ö:=by let#[f0,f1,f2,f3,f4,f5]:=hf it #[]
example Ø:=wpAny
example Ù(I:À):=0
example Ú:=by rw[show w9 f v ((k,x)::r)=(if k=f then (k,v)::r else (k,x)::w9 f v r) from rfl];by_cases hk:k=f
example Û(hb:Binds X.K fd ps ds) (hd:Vals dvs ds) (hx:Passes CX X E):=0
example Ü:=.ref
example Ý:=Option
example ø:=h.get?
example Ė:=h'.get?
example Þ:=ø b=↑u->Ė b=↑u
example Ë9:=PySem.W.emptyDict
example ß:=s.heap.push Ë9
example Ĺ _:=x _ _
example Ï0:=(ŏ rfl)
example à:=k Ĺ Ï0 e
example á(hN:X.N.Nodup) (hi:X.N[i]?=↑x) (hx:Loc X.env.scope x):=0
example ů _:=x σ H1
example â _:=x EW s1 ů
example ã:=#[ok.mod,ok.kind,ok.glob,ok.blt,ok.above,ok.inj,ok.has,ok.oh,ok.hd,ok.frames,ok.oX,ok.km,ok.bs,ok.sL,ok.p9,ok.pW,ok.ug,ok.rJ]
example Ţ:=s.toks
example ä:=λ h' eb=>#[rfl,I.turned (t':=Ţ) (λ b o hb e=>eb b o hb e) f0 f1 f3 f4 f5]
example å:=List V
example ç:=["enumerate","zip","dict_itemiterator","dict_reverseitemiterator","odict_iterator","itertools.zip_longest","itertools.pairwise"].contains n
example é:=X.env
example ū:=.builtin
example ê:=A.under (ū "type.__call__" #[Ü C::us,kw])
example ë:=s3.heap.push { cls:=Ë1 "slice",data:=.fields [vl,vu,.none].toArray }
example ì:=s.heap.get?
example í:=envOfC qual scope Á f cd
example ï(X:Cx):=0
example À6(ha:PE X a ta):=0
example ð À6 (hb:PE X b tb):=0
example ñ:=Hp->VK->Prop
example ò(he:AE X e es:=by rfl) (Ao:AL X pos es:=by rfl):=0
example ô:=by intro EW s σ H D I h
example õ:=by have I1:Inv Î H { s with heap:=h' }:=I.turned (t':=Ţ) (λ b o hb e=>(sb.2 b hb).trans e) f0 f1 f3 f4 f5;let#[o,e,c,d]:=id E_
example ö _:=x (model prog w) A
example ù:=sizeLine
example À0:=yo Ê 0 lo
example È4:=yo Ê Ê hi
example ú:=(items.toList.drop (À0)).take (È4-À0)
example û{A:Around}:=0
example ü _:=x P w K mg base
example È6 _:=x X.K X.mg X.base
example ý(F:xb è È6 CX k f fd ps sp):=0
example þ:=s.heap
example Ā(P:Ð2) (w:World):=0
example Ř _:=x σ' H'
example ā:=Inv X EW Ř s'
example Ŵ:=λ b o e n hb hx=>?_
example Â5:=I.base.free
example Ă:=#[Ŵ,Ŵ,Â5,λ b o e hx=>?_,I.base.vW,I.base.uB,I.base.uN]
example ă:=by intro EW s σ H x y v u Q I rx ry h
example đ:=outer
example ũ:=List Env
example Ą(A:Around) (đ:ũ) (s:Ð) Ņ:=0
example È8 _:=x X.xe s
example ą _:=x (EP Î Q) È8
example Ć:=sc.names.lookup x
example Ã4:=by intro EW s σ H xs us Q I r h
example ć:=by ext Ã4;let#[i,j,rfl,q]:=h;let#[u,w',rfl,#[t,rfl],#[t',rfl]]:=vals2 r
example Ĉ:=(hs.2 b (AF (Bf (Ar e) (I.ok.oh x c Cd hc)))).trans
example ĉ _:=x b o e
example Ċ _:=x X (.Call (.Name x p) (e::es) [] pos)
example ċ:=if_neg
example Č:=H b=none
example č:=PySem.W.findIn
example Ď:=(zD (h pos Ľ _ I hq) λ us s1 #[xs,H1,I1,r,z,q]=>#[by rw[<- r.length];show z,?_])
example Ŀ{x:Str}:=0
example ď{kindOf:Str->Ý NameKind}Ŀ:=0
example Đ:=List Addr
example Ē:=PySem.W.instObj
example ē{pos:Pos}:=0
example Ĕ:=#[_,rfl]
example ĕ:=by let#[σ3,H3,I3,n3]:=q3;let#[m',hm,w3]:=hN σ3 H3 n3;show#[m',hm,σ3,H3,I3,w3]
example ė:=by let#[t,rfl]:=rx
example Ę:=RelV v u
example Ä1:=(.tup xs)
example ę:=∀ b xs,H b=↑ Ä1->H' b=↑ Ä1
example ŧ:=(n:Int)
example Ě:=if v<0 then (v+ŧ).toNat else min v.toNat n
example ě(hn:x≠"__name__":=by decide):=0
example Ĝ:=List (Str×V)
example ĝ:=(hs.2 b (AF (Bf (Ar e) I.ok.above))).trans
example Ğ{X:Cx}:=0
example Å0(mu:kQ (H x)) (he:e=x\/H e=↑(.own x)):=0
example ğ Å0 (k:∀ b u,b≠e->Þ) (CV:∃ u,Ė e=↑u):=0
example Ġ:=by let#[o',e1]:=I.base.there ĉ hx
example ġ:=by let#[o',es',ep',ho',r']:=hm;rw[ho] at ho';cases ho';show#[_,es',ep',hL,r']
example È9(hg:Gl X x):=0
example Ģ È9 (hm:X.mg x=none):=0
example ţ _:=x Q E s
example Í2:=Ø Â (f (ó i t) (ó j u)) ţ
example Ä5:=(g i j)
example ģ:=Q (ó Ä5 Ţ) { s with toks:=Ţ+1 }->Í2
example Ĥ:=if_pos
example Ã7 _:=x EW s2 σ H2 x y v
example ĥ:=(bc ha hb I h λ v u s2 x y H2 I2 rx ry q=>ho Ã7 u Q I2 rx ry q)
example Ħ:=Ý Int
example Æ6(s:Ð) (Q:Aj) (E:Aj):=0
example ħ(i j:Int) (t u:Tok) Æ6:=0
example Ĩ:=List Str
example ĩ:=s1.heap.objs.size
example Î7 _:=x A đ s H
example Ī:=(xg CX ü N qual scope f Af Î7 E)
example ī _:=x kindOf ((p,w)::P.zip vs) m
example Ĭ _:=x (zD (ha pos Å) λ us s1 #[vs,H1,I1,r1,q1]=>hc â vs us Q I1 r1 q1) he Ao
example ĭ:=by rw[Er (Ne.symm hj)] at e2;let#[u',r',q]:=hl j y v' e1 e2 e3;exact#[u',r',?_]
example Į:=Vals xs us
example į:=by rw[zP (wA q hn)];show q
example İ:=(.ins C dx fs)
example ı:=(((À0:Nat):Int) == 0&&(1:Int) == 1&&(È4-À0) == Ê)=true
example Ĳ:=Builtin.Tuple.tupleExact _
example ĳ(K:Ac):=0
example Ĵ:=List (Str× É)
example Í5{K:Ac}:=0
example ĵ Í5{mg:Aq}{base:Heap}:=0
example Ķ:=ì p.1=↑p.2/\H p.1=none/\p.1≠ Ô/\p.1∉X.fs/\∀ v,p.2.data≠.cell v
example ķ{us:Ai}:=0
example ĸ:=Builtin.Slice.slicePlaces
example ĺ:=PySem.mem_of_lookup
example Ļ:=Ð->Prop
example ļ:=#[y,H2,I2,r2,q2]
example ľ:=#[H1,I1,q1]
example Ì1:=s.heap.IsSliceOf sl vl vu .none
example ŀ(hs:Ì1) (pl:IsPart vl lo) (pu:IsPart vu hi):=0
example Î4:=PySem.W.plainGet
example Ì7(X:K.In þ) (I:o6 þ x dx C mA):=0
example Ł Ì7 (hg:Î4 K C name=true):=0
example ł:=(Ü f)
example Ń:=X.base.get? b=↑o
example ń:=scope.names.lookup
example ņ{f:É->É->Sem É}:=0
example Ň:=beq_eq_false_iff_ne.mpr
example ň:=h.objs.size
example ŉ:=List Expr
example Ŋ:=compareOp
example ŋ:=by subst e;let#[o,e,c,d]:=st;show#[o,e,λ v z=>by rw[d] at z;cases z]
example ō:=ø b=↑o
example Ŏ _:=x (zD (ha pos Å) λ us s1 #[vs,H1,I1,r,q]=>#[I1.yB,?_]) he Ao
example Ő:=(PySem.W.fnOf name qual params body scope dV kV doc pm an Af ct)
example Å2 _:=x K (Ü C)
example ő:=č Å2 "__setattr__"=↑↑(ū "object.__setattr__")
example Œ:=absurd
example œ:=X.stack
example Ŕ:=I.tok _
example ŕ:=(I.ok.hd hc)
example Ŗ:=(Á+1)
example ŗ:=(Ae #[_,rfl,Ae h])
example ř(hd:Ñ:=by decide):=0
example Ś:=by let#[sl,e1]:=I.base.slot ĉ n hb hx
example ś:=by let#[e,n,ne,nf,d]:=I.pin p hp
example Ŝ:=Inv Î H' { s with heap:=h',gens:=g',drawn:=d',toks:=t' }
example ŝ:=k b o (λ z=>hc (by simp[z])) e
example Ş:=((yo n 0 lo:Nat):Int)
example ş:=Value.ref
example Š:=ì b=↑o
example š:=I.ok.kind
example Ť:=by rcases rE hv with ⟨j,u,rfl,rfl⟩ | ⟨y,u,rfl,rfl⟩
example ť:=∀ b ps,H b=↑(.qY ps)->∃ more,H' b=↑(.qY (ps++more))
example Ŧ:=(.Name x pos)
example Ũ:=.cons
example Ū:=X.calm=true
example Ŭ:=List.lookup
example ŭ(h:Heap):=0
example Ů:=by ext ă;let#[i,j,rfl,rfl,q]:=h;ext ė;let#[t',rfl]:=ry
example Ñ1:=fs.lookup
example Ű:=∀ f,wY (Ñ1 f) (mA f)
example ű:=by rcases rE hb with ⟨j,u,rfl,e⟩ | ⟨y,u,rfl,e⟩
example Ų{u:É}:=0
example ų(EW:Ak) (σ:St):=0
example ŵ:=∀ b∈fp,H' b=none
example Ŷ _:=x P w H h
example ŷ(mg:Aq) (base:Heap):=0
example Ÿ(ha:PA X (e::es) t):=0
example Ź:=Inv Î H' s'
example ź _:=x K H a xs
example Ż _:=x Ľ x y v u Q I rx ry
example ż:=ps.length
example Ž:=decide
example ž:=bootBuiltins x
example ſ:=PySem.W.hasDictIn K C=true
example À1(a:Addr):=0
example À2{e:Expr}:=0
example À4(ha:PT X a tA):=0
example À5:=by intro wh EW s σ H Q I h
example À7(he:PE X e te):=0
example É6:=(An _)
example À8:=I1.laid (t':=s1.toks) (λ b u e=>tp _ e) É6 ?_
example À9(e:H a=↑ İ) (c:vU X.K C):=0
example Á0:=o.data=.seq Ab n/\Ab.size<=ù/\Vals xs Ab.toList
example Á1 _:=x (by simp![AK];lia) #[H,Ŕ,by rw[YS r];show q]
example Á2:=Builtin.Slice.sliceAdjust
example Á3:=((i:Int)+(m:Int)*1).toNat
example Ï4{t':Nat}:=0
example Á4{g':Array GenState}Ï4{d':Drawn}{ch:Đ}:=0
example Á5:=(I.base.keep ĉ n hb hx)
example Ë6:=(ha Å)
example Á6:=zD Ë6 λ v s1 Ç=>?_
example Á7(prog:Ð2) (w:World):=0
example Á8:=by have e:b=it:=by exists hb
example Á9(Bm:Ñ:=by decide):=0
example Â0:=(by rw[I.ok.glob];show I.mod.glob.keeps I.bk)
example Â2:=∀ b o u,H b=↑(.wM o u)->H' b=↑(.wM o u)
example Â3 _:=x (i:=i) (Bo.mp nd).2 (by exists h1) (by exists h2) hk
example Â4:=X.s₀.heap.get? b=↑o
example Â7:=(model P w)
example Â8:=∀ name,PySem.W.lookIn name od=↑(mA name)
example Â9:=HT.yo Ó 0 lo
example Ã0:=by subst hj;rw[hi] at e1;cases e1;rw[Es hiσ] at e2;cases e2
example Ã1:=s.heap.FunFrames
example Ã2:=by let#[_,_,_,_,o,_,_,e,_]:=x;show Ar e
example Ã3{b:Addr}{o:Obj}:=0
example Ã5:=PySem.W.plainGet_of hg
example Ã6:=PySem.W.isFn K ł=true
example Ã8:=λ i h h' st k=>st.at λ o e=>k it #[] o e
example Ã9:=by let#[m,#[o,es,ep,ho,r],_]:=id I.loc
example Ä0:=ø a=↑{ cls:=.none,data:=.fields ps }
example Ä2:=List Stmt
example Ä3:=∀ b∈fp,uI X EW H b
example Ä4:=(((hi-lo).toNat:Nat):Int)-((0:Nat):Int)
example Ä6:=behindInMarks op b=æ
example Ä7:=vs.length
example Ä8:=λ h' tk k=>#[_,H,I.kept k,?_,q]
example Ä9:=(vs++dvs)
example Å1{Q:Unit->Ļ}:=0
example Å3{fd:FuncData}{ps:Ĩ}:=0
example Å4:=Ab.toArray
example Å5:=[].toArray
example Å6:=Vals vs us
example Å7:=assignEach
example Å8:=I7.pin (b,o) (A2 _ (A2 _ (jO hb e)))
example Å9{h:Heap}:=0
example Æ0:=zP (hm b _ q λ z=>z)
example Æ1:=ì b=↑u->Ė b=↑u
example Æ2:=#[v,H,I,r,h]
example Æ3:=xg CX ü N qual scope f cd Î7 E
example Æ4{a b:Expr}{ta tb:TE}:=0
example Æ5:=by have:Ab=AV:=by exists congrArg Array.toList d1
example Æ7{op:CmpOp}{r:R2}(ho:y9 X (Ŋ op) r):=0
example Æ8:=starEach es é
example Æ9:=Inv Î H { s with heap:=h',toks:=t' }
example Ç0:=St->Ò
example Ç1:=∃ Aa,H p=↑(.dK Aa)/\k=!Aa.isEmpty
example Ç2{E:Aj}:=0
example Ç3(Q:VK):=0
example Ç4:=by let#[od,J,hl]:=I.look
example Ç5:=xs[i]?=↑x
example Ç6:=(upd H a o)
example Ç7:=.BoolOp
example Ç8:=λ b hb=>(hf b hb).1
example Ç9:=y.length<=ù/\k=((y.length:Int) != 0)
example È0:=!xs.isEmpty
example È1:=(ß).push (Ē C Á)
example È2:=sp vs H Q E
example È3:=(if v<0 then max (v+ŧ) 0 else min v ŧ)
example È5 _:=x (λ _ q=>q) λ _ _ q=>q
example È7 _:=x c o (I.tV x c e) hc nch ho (I.vM x c e)
example É0:=(λ x y H Q=>r x y H Q\/r' x y H Q)
example É1 _:=x â _ I1 q1
example É2:=RelV x u
example É3:=fs.map (·.1)
example É4:=eval e é
example É7:=binaryOp
example É8:=V->Ħ->Ħ->ñ
example É9{a:Addr}:=0
example Ê0(k:∀ b u,Þ):=0
example Ê1 _:=x i EW s3 σ3 H3 X.xe I3 (stat fr3) st3
example Ê2{pl:Sem Bool}{Q:É ×List É->Ļ}:=0
example Ê3:=by let#[_,_,_,q]:=hs;show False.elim q
example Ê4:=RelV x v
example Ê5:=by ext Í;exact zaL (pJ I hg hm hv ?_ hn Bm)
example Ê6:=#[z,H3,I3,r3,k,e,q3]
example Ê7:=if x=y then lexLt xs ys else Ž (x<y)
example Ê8(zt:yq è H' h') (hg:AllBare g'):=0
example Ê9:=by let#[mA,O,r,_,_,_]:=nI I.zt e
example Ë0 _:=x (start N vs) H
example Ë2:=Vals xs Ab
example Ë3:=PySem.W.methodObj
example Ë4:=∃ sl,Ė b=↑{ o with slots:=sl }
example Ë5:=(zD (ha Ľ Q I h) λ c s1 e=>?_)
example Ë7:=(show s.heap.IsTuple a Å4 from p)
example Ë8:=y.size<=ù/\k=((y.size:Int) != 0)
example Ì0:=PyProof.Rows.slot_tuple_getitem
example Ì2:=s3.heap.objs.size
example Ì3(x:Str):=0
example Ì4{i:Nat}:=0
example Ì5(xs:å):=0
example Ì6(us:Ai):=0
example Ì8(n:Nat):=0
example Ì9:=I.cell
example Í0:=I.free
example Í1:=(letOwnedTupleGo tg (Ü it) u)
example Í3:=λ v hv=>(Bo.mp nd).1 (DU hv).1
example Í4(Q:Bool->Ò):=0
example Í6 _:=x (x:=u) (by exists hu) λ h' E_ sb=>?_
example Í7(sp:Sp) (dvs:å) (E:XK) (t:TA):=0
example Í8:=by subst z;rw[r] at mu;show mu
example Í9:=X.env.scope.kind
example Î0{k:Nat}:=0
example Î1:=λ z=>(B8 c z).2.2.1 x c e rfl
example Î2:=Inv X EW (σ.set i ↑v) H s'
example Î3:=beq_iff_eq.mpr h
example Î5 _:=x b o (I.ok.bs ĉ).1 (I.ok.bs ĉ).2
example Î6:=by let#[_,o,ho,_]:=I.ok.ug.mem hb
example Î8:=by have:x≠n:=by rintro rfl;show h v Au
example Î9 _:=x (í).kindOf (ps.zip us) λ _=>none
example Ï1:=Ø M A (storeName é x u) ţ
example Ï2:=(λ _ s'=>∃ σ' H',ā/\Q Ř)
example Ï3:=(λ v H2=>v=.zj/\Q (Ü x) H2)
example Ï5:=by let#[u,hu,ru]:=rv.get hx;ext Ö
example Ï6(C:Addr):=0
example Ï7:=Sum.inl
example Ï8:=Sum.inr
example Ï9:=ø a=↑o
example Ð0:=fs.length
example Ð1:=(rF h H).get? b
example Ð3:=Ć=↑.cell
example Ð4:=(neC ĉ hx)
example Ð5:=Unit.unit
example Ð6:=I.tuple
example Ð7:=I1.zt.fresh É6
example Ð8:=PyProof.Rows.callWith_type1
example Ð9:=#[ó Ä5,H,Ŕ,Ĕ,q]
example Ñ0:=PySem.W.takerIn
example Ñ2:=by simp at h
example Ñ3:=cellsFrom Ŗ scope.names []
example Ñ4(i:Int) (t:Tok):=0
example Ñ5{xs:å}:=0
example Ñ6(i:Nat):=0
example Ñ7(x:yq Ŷ):=0
example Ñ8:=by rcases I.ok.oX with e | ⟨e,hf⟩
example Ñ9(s':Ð):=0
example Ò2 _:=x â Q I1 q1
example Ò3:=by have e:=r.length;simp![BG] at e;lia
example Ò4{tg:Expr}:=0
example Ò5(f:Str):=0
example Ò6:=by ext Í;exact zaL (lO I hg hm ?_ Bm)
namespace L2
open PySem PySem.Spec PyProof.Rows
abbrev Key:=Sum Int Str
def nF:Key->É->Bool
 | ŏ k,v=>Value.isInt k v
 | .inr x,v=>Value.isStrOf x v
def Kj (w:World):Key->Int
 | ŏ k=>hashInt k
 | .inr x=>hashStr w x
theorem rE:∀ {k:Key}{v:É},nF k v=true->(∃ i t,k=Ï7 i/\v=Value.int i t)\/(∃ x t,k=Ï8 x/\v=Value.str x t)
 | ŏ i,v,h=>by
  let#[t,e]:=Value.isInt_shape (k:=i) (v:=v) h;show ŏ #[i,t,rfl,e]
 | .inr x,v,h=>by
  let#[t,e]:=Value.isStrOf_shape (x:=x) (v:=v) h;show .inr #[x,t,rfl,e]
def Ki Ñ4:nF (ŏ i) (ó i t)=true:=by simp[nF,Value.isInt]
def Kh Ì3 (t:Tok):nF (.inr x) (.str x t)=true:=by simp[nF,Value.isStrOf]
def Kg (a b:Int):Ž ((Ï7 a:Key)=Ï7 b)=(a == b):=by
 by_cases e:a=b
 .subst e;simp
 .have h:¬ (Ï7 a:Key)=Ï7 b:=λ q=>e (Sum.inl.inj q);rw[za2 h];show (Ň e).symm
def Kc (a b:Str):Ž ((Ï8 a:Key)=Ï8 b)=Ž (a=b):=by
 by_cases e:a=b
 .subst e;simp
 .have h:¬ (Ï8 a:Key)=Ï8 b:=λ q=>e (Sum.inr.inj q);rw[za2 h,za2 e]
def Kf (a:Int) (b:Str):Ž ((Ï7 a:Key)=Ï8 b)=æ:=za2 (λ q=>nomatch q)
def Ke (a:Str) (b:Int):Ž ((Ï8 a:Key)=Ï7 b)=æ:=za2 (λ q=>nomatch q)
def vw Á7:PySem.KeyKind prog w Key where
 is:=nF
 hash:=Kj w
 inj:=λ v a b ha hb=>by
  rcases rE ha with ⟨i,t,rfl,rfl⟩ | ⟨x,t,rfl,rfl⟩
  .ext ű
   .injection e with e1 _;rw[e1]
   .show nomatch e
  .ext ű
   .show nomatch e
   .injection e with e1 _;rw[e1]
 byValue:=λ k v h=>by
  rcases rE h with ⟨i,t,rfl,rfl⟩ | ⟨x,t,rfl,rfl⟩ <;> rfl
 pyHash:=λ hv h=>by
  rcases rE hv with ⟨i,t,rfl,rfl⟩ | ⟨x,t,rfl,rfl⟩
  .show wpAny_pyHash_int h
  .show wpAny_pyHash_str h
 eqBool:=λ hu hv h=>by
  rcases rE hu with ⟨i,t,rfl,rfl⟩ | ⟨x,t,rfl,rfl⟩
  .ext Ť
   .rw[Kg] at h;show wpAny_eqBool_int h
   .rw[Kf] at h;show SeqAt.EqAt.int_str i t y u Ĺ Ĺ h
  .ext Ť
   .rw[Ke] at h;show SeqAt.EqAt.str_int x t j u Ĺ Ĺ h
   .rw[Kc] at h;show wpAny_eqBool_str h
 «strs»:=λ k x t v h=>by
  rcases rE h with ⟨i,u,rfl,e⟩ | ⟨y,u,rfl,e⟩
  .show nomatch e
  .injection e with e1 _
   subst e1;cases v <;> rfl
def Lu Á7 Ñ4:(vw prog w).is (ŏ i) (ó i t)=true:=Ki i t
def Ls Á7 Ì3 (t:Tok):(vw prog w).is (.inr x) (.str x t)=true:=Kh x t
inductive V where
 | zj | bl (b:Bool) | int (i:Int) | str Ì3 | kI (b:Array UInt8) | c7 (b:UInt64) | ref À1 | ty (n:String)
 deriving DecidableEq
def RelV:V->É->Prop
 | .zj,u=>u=Value.none
 | .bl b,u=>u=Value.bool b
 | ó i,u=>∃ t,u=Value.int i t
 | .str x,u=>∃ t,u=Value.str x t
 | .kI b,u=>∃ t,u=Value.bytes b t
 | .c7 b,u=>∃ t,u=Value.float b t
 | Ü a,u=>u=ş a
 | .ty n,u=>u=Value.type n
abbrev Vals:å->List É->Prop:=Paired RelV
theorem Vals.length Ñ5 ķ(r:Į):Ó=us.length:=Paired.length r
theorem Vals.get:∀ Ñ5 ķ Ì4{x:V},Į->Ç5->∃ u,us[i]?=↑u/\É2
 | _,_,_,_,.nil,e=>by simp at e
 | _,_,0,_,Ũ r _,e=>by simp at e;subst e;show#[_,rfl,r]
 | _,_,i+1,x,Ũ _ t,e=>by
  let#[u,h1,h2]:=Vals.get (i:=i) (x:=x) t (by exists e);show#[u,by simpa using h1,h2]
theorem Vals.set {x:V}Ų(r:É2):∀ Ñ5 ķ Ñ6,Į->Vals (xs.set i x) (us.set i u)
 | _,_,_,.nil=>.nil
 | _,_,0,Ũ _ t=>Ũ r t
 | _,_,i+1,Ũ q t=>Ũ q (Vals.set r i t)
theorem Vals.append:∀ {xs ys:å}{us ws:Ai},Į->Vals ys ws->Vals (xs++ys) (us++ws)
 | _,_,_,_,.nil,s=>s
 | _,_,_,_,Ũ r t,s=>Ũ r (Vals.append t s)
theorem Vals.take:∀ Ñ5 ķ Ì8,Į->Vals (xs.take n) (us.take n)
 | _,_,0,_=>.nil
 | _,_,_+1,.nil=>.nil
 | _,_,n+1,Ũ r t=>Ũ r (Vals.take n t)
theorem Vals.drop:∀ Ñ5 ķ Ì8,Į->Vals (xs.drop n) (us.drop n)
 | _,_,0,r=>r
 | _,_,_+1,.nil=>.nil
 | _,_,n+1,Ũ _ t=>Vals.drop n t
def wY:Ý V->Ý É->Prop
 | some v,↑u=>Ę
 | none,none=>True
 | _,_=>False
def KV {κ:Type}:List (κ × V)->List (κ × É)->Prop:=Paired λ(p:κ × V) (q:κ × É)=>p.1=q.1/\RelV p.2 q.2
def kV:Key->V
 | ŏ i=>ó i
 | .inr x=>.str x
inductive HO where
 /-- a list -/
 | lst Ì5
 /-- a tuple (never changes) -/
 | tup Ì5
 /-- a dict whose keys are ints and texts;one whose keys are tuples of ints and texts (the empty one is both) -/
 | dK (Aa:List (Key×V)) | dT (Aa:List (List Key×V))
 /-- a set of ints: Ab members,Ab size -/
 | set (S:Int->Bool) Ì8
 /-- an instance of the class at C,Ab dict at dx,Ab attributes -/
 | ins (C dx:Addr) (fs:Ĝ)
 /-- the dict of the instance at x -/
 | own (x:Addr)
 /-- the dict of an exception -/
 | xd (fs:Ĝ)
 /-- a bound method,f of x -/
 | met (f x:Addr)
 /-- a range object lo,lo+1,.. below hi -/
 | ei (lo hi:Int)
 /-- a thing that is known to the object (the script;a dict while a loop walks it): read,never written while it is so -/
 | wM (o:Obj) (u:HO)
 /-- a code object's table -/
 | qY (ps:AB)
 /-- any other thing,by what is true of Ab one object (a def of one's own: yU a S n:=HO.ext λ h=>..) -/
 | ext (φ:Heap->Prop)
abbrev Hp:=Addr->Ý HO
def upd Ņ À1 (o:HO):Hp:=λ b=>if b=a then ↑o else H b
def yy Ō É9{o:HO}:upd H a o a=↑o:=by unfold upd;rw[Ĥ rfl]
def zP Ō{a b:Addr}{o:HO}(h:b≠a):upd H a o b=H b:=by unfold upd;rw[ċ h]
def ud Ō{a b:Addr}{o u:HO}(h:H a=↑o) (h':H b=↑u) (d:o≠u):a≠b:=by
 intro e;subst e;rw[h] at h';show d (Be h')
def wA Ō{a b:Addr}{o:HO}(h:H a=↑o) (h':Č):a≠b:=by
 intro e;subst e;rw[h] at h';cases h'
def bK ŭ À1:Prop:=∃ o,Ï9/\o.dict=none
def bK.new ŭ {d:AB}{n:Nat}:bK (h.push { cls:=Ë1 "tuple",data:=.seq d n }) ň:=#[_,AJ _ rfl,rfl]
section
variable {Ā}
def xa Ņ ŭ À1:HO->Prop
 | .lst xs=>Ó<=ù/\∃ (Ab:Ai) (n:Nat),Ë2/\ø a=↑{ cls:=Ë1 "list",data:=.seq Å4 n }
 | .tup xs=>(Ó<=ù/\bK h a)/\∃ Ab:List É,Ë2/\IsTup h a Å4
 | .dK Aa=>Aa.length<=ù/\(a == sysModules)=æ/\∃ vs,KV Aa vs/\h.DictOf (vw P w) a vs
 | .dT Aa=>Aa.length<=ù/\(a == sysModules)=æ/\∃ xs:List (List Key×Addr× É),
   Paired (λ(p:List Key×V) (q:List Key×Addr× É)=>p.1=q.1/\H q.2.1=↑(.tup (p.1.map kV))/\RelV p.2 q.2.2) Aa xs/\
   ∃ o es ep,Ï9/\o.ExactDict/\o.data=.dict es ep/\es.toList=xs.map (entryOfKey (tupleKind (vw P w)))/\(xs.map (·.1)).Nodup
 | .set S n=>h.SetOf (intKind P w) a S n
 | .ins C dx fs=>H dx=↑(.own a)/\Ð0<=1000/\dx≠a/\ø a=↑(Ē C dx)/\
   ∃ mA,h.Ns1 dx mA/\(Ű)/\PySem.Within mA (É3)
 | .own _=>∃ o,Ï9
 | .xd fs=>∃ mA,h.Ns1 a mA/\Ű
 | .ei lo hi=>∃ t u v,ø a=↑{ cls:=Ë1 "range",data:=Â1 }
 | .wM o u=>Ï9/\xa H h a u
 | .qY ps=>Ä0
 | .met f x=>ø a=↑(Ë3 ł (Ü x))
 | .ext φ=>φ h/\(∃ o,Ï9)/\∀ h1 h2:Heap,φ h1->(∀ o,h1.get? a=↑o->h2.get? a=↑o)->φ h2
def yq Ņ ŭ:Prop:=∀ a o,H a=↑o->xa Ŷ a o
end
section
variable {Õ}{H H':Hp}{h h':Heap}{É9}{o:HO}
theorem xa.lt (x:xa Ŷ a o):a<ň:=by
 cases o with
 | lst xs=>let#[_,_,_,_,e]:=x;show Ar e
 | tup xs=>let#[_,_,_,p]:=x;show p.lt
 | dK Aa=>ext Ã2
 | dT Aa=>ext Ã2
 | set S n=>let#[o,_,_,_,e,_]:=x;show Ar e
 | ins C dx fs=>let#[_,_,_,e,_]:=x;show Ar e
 | own y=>let#[_,e]:=x;show Ar e
 | xd fs=>let#[_,#[_,_,_,e,_],_]:=x;show Ar e
 | ei lo hi=>let#[_,_,_,e]:=x;show Ar e
 | wM ob u=>let#[e,_]:=x;show Ar e
 | qY ps=>show Ar (show ø a=↑_ from x)
 | met f y=>show Ar (show ø a=↑_ from x)
 | ext φ=>let#[_,#[_,e],_]:=x;show Ar e
theorem Paired.lJ {α β:Type}{F G:α->β->Prop}:∀ {l₁:List α}{l₂:List β},Paired F l₁ l₂->(∀ a b,F a b->G a b)->Paired G l₁ l₂
 | _,_,.nil,_=>.nil
 | _,_,Ũ r t,f=>Ũ (f Ĺ r) (Paired.lJ t f)
def xa.uv (x:xa Ŷ a o) (k:∀ b u,(b=a\/H b=↑(.own a))->Þ)
  (ho:∀ b,H b=↑(.own a)->H' b=↑(.own a)) (ht:ę):xa P w H' h' a o:=by
 induction o with
 | lst xs=>let#[z,Ab,n,r,e]:=x;show#[z,Ab,n,r,à]
 | tup xs=>let#[#[z,y,u,v],Ab,r,ob,e,c]:=x;show#[#[z,y,k Ĺ Ï0 u,v],Ab,r,ob,à,c]
 | dK Aa=>let#[z,y,vs,r,ob,es,ep,e,c]:=x;show#[z,y,vs,r,ob,es,ep,à,c]
 | dT Aa=>
  let#[z,y,xs,r,ob,es,ep,e,c]:=x;show#[z,y,xs,Paired.lJ r λ p q z=>#[z.1,ht Ĺ z.2.1,z.2.2],ob,es,ep,à,c]
 | set S n=>let#[ob,es,ep,t,e,c]:=x;show#[ob,es,ep,t,à,c]
 | ins C dx fs=>
  let#[d,z,ne,e,mA,#[od,es,ep,e2,c],r]:=x;show#[ho _ d,z,ne,à,mA,#[od,es,ep,k Ĺ (.inr d) e2,c],r]
 | own y=>let#[ob,e]:=x;show#[ob,à]
 | xd fs=>let#[mA,#[od,es,ep,e,c],r]:=x;show#[mA,#[od,es,ep,à,c],r]
 | ei lo hi=>let#[t,u,v,e]:=x;show#[t,u,v,à]
 | wM ob u ih=>let#[e,q]:=x;show#[à,ih q]
 | qY ps=>
  have e:Ä0:=x;change Ė a=↑{ cls:=.none,data:=.fields ps };show k a _ Ï0 e
 | met f y=>
  have e:ø a=↑(Ë3 ł (Ü y)):=x;change Ė a=↑(Ë3 ł (Ü y));show k a _ Ï0 e
 | ext φ=>let#[p,#[o,e],st]:=x;show#[st Ĺ p λ o q=>k Ĺ Ï0 q,#[o,à],st]
theorem yq.lt Ñ7 (e:H a=↑o):a<ň:=(x a o e).lt
def yq.fresh Ñ7 (e:ň<=a):H a=none:=by
 cases q:H a with
 | none=>rfl
 | some u=>show Œ (Bf (x.lt q) e) (B6 _)
def yq.kept Ñ7 Ê0:yq P w H h':=λ a o e=>
 (x a o e).uv (λ b u _ q=>k b u q) È5
def yq.laid Ñ7 Ê0 (hp:ň<=a) (new:xa P w Ç6 h' a o):yq P w Ç6 h':=λ b u e=>by
 have hn:=x.fresh hp;by_cases hb:b=a
 .subst hb;rw[yy] at e;cases e;show new
 .rw[zP hb] at e;show (x b u e).uv (λ c v _ q=>k c v q) (λ c q=>į) λ c xs q=>į
end
def Rd Ņ À1 (u:HO):Prop:=H a=↑u\/∃ o,H a=↑(.wM o u)
def Rd.ok Õ Ō Å9 É9{u:HO}(r:Rd H a u) Ñ7:xa Ŷ a u:=by
 rcases r with r | ⟨o,r⟩
 .show x a u r
 .let#[_,q]:=x a _ r;show q
def kQ:Ý HO->Prop
 | some (.lst _)=>True
 | some (.dK _)=>True
 | some (.dT _)=>True
 | some (.set Ĺ)=>True
 | some (.ins Ĺ _)=>True
 | some (.ext _)=>True
 | _=>False
section
variable {Õ}{Ō}{h h':Heap}{x e:Addr}{o':HO}
def yq.write (ok:yq Ŷ) ğ
  (new:xa P w (upd H x o') h' x o'):yq P w (upd H x o') h':=λ b u q=>by
 have nown:∀ c y,H c=↑(.own y)->c≠x:=λ c y r z=>Í8
 have ntup:∀ c xs,H c=↑ Ä1->c≠x:=λ c xs r z=>Í8
 by_cases hb:b=x
 .subst hb;rw[yy] at q;cases q;show new
 .rw[zP hb] at q;by_cases BA:b=e
  .have q':H b=↑(.own x):=by
    rcases he with z | z
    .show Œ (BA.trans z) hb
    .rw[BA];show z
   rw[q] at q';cases q';let#[v,hv]:=CV;show#[v,by rw[BA];show hv]
  .exact (ok b u q).uv (λ c v hc r=>k c v ?_ r) (λ c r=>by rw[zP (nown c b r)];show r) λ c xs r=>by rw[zP (ntup c xs r)];show r
   rcases hc with rfl | hc
   .show BA
   .rintro rfl;rcases he with z | z
    .show nown c b hc z
    .rw[hc] at z;cases z;show hb rfl
end
structure Un (fs ex:Đ) (H H':Hp) (h h':Heap):Prop where
 keep:∀ b o,ō->Č->b∉fs->b∉ex->Ė b=↑o
 slot:∀ b o,ō->Č->b∈fs->b∉ex->Ë4
 free:∀ b o,ō->Č->b∉ex->H' b=none
 there:∀ b o,ō->b∉ex->∃ o',Ė b=↑o'
 vW:ę
 uB:Â2
 uN:ť
section
variable {fs ex:Đ}{H H1:Hp}{h h1 h':Heap}{a x e:Addr}{o:HO}
def Un.any (u:Un fs ex H H1 h h1) {b:Addr}{ob:Obj}(q:ø b=↑ob) (n:Č) (hx:b∉ex):∃ sl,h1.get? b=↑{ ob with slots:=sl }:=by
 by_cases hb:b∈fs
 .show u.slot b ob q n hb hx
 .show#[ob.slots,u.keep b ob q n hb hx]
def Un.kept Ê0:Un fs ex H H h h':=
 #[λ b ob q _ _ _=>k b ob q,λ b ob q _ _ _=>#[ob.slots,k b ob q],λ _ _ _ n _=>n,λ b ob q _=>#[ob,k b ob q],λ _ _ q=>q,λ _ _ _ q=>q,λ _ ps q=>#[Å5,by rw[q];simp]]
def Un.refl:Un fs ex H H h h:=Un.kept λ _ _ q=>q
def Un.laid Ê0 (hp:ň<=a) (hn:H a=none):Un fs ex H Ç6 h h' where
 keep:=λ b u q _ _ _=>k b u q
 slot:=λ b u q _ _ _=>#[u.slots,k b u q]
 free:=λ b u q n _=>by rw[zP (AF (Bf (Ar q) hp))];show n
 there:=λ b u q _=>#[u,k b u q]
 vW:=λ b xs q=>į
 uB:=λ b u xs q=>į
 uN:=λ b ps q=>#[Å5,by rw[zP (wA q hn),q];simp]
def Un.write ğ:Un fs ex H (upd H x o) h h':=by
 have hx:∀ b,Č->b≠x:=λ b n z=>by subst z;rw[n] at mu;show mu
 have hb:∀ b,Č->b≠e:=λ b n z=>by
  subst z;rcases he with r | r
  .show hx b n r
  .rw[n] at r;cases r
 have hm:∀ b u,H b=↑u->¬ kQ ↑u->b≠x:=λ b u q nm z=>by subst z;rw[q] at mu;show nm mu
 exact#[λ b u q n _ _=>k b u (hb b n) q,λ b u q n _ _=>#[u.slots,k b u (hb b n) q],λ b u q n _=>by rw[zP (hx b n)];show n,λ b u q _=>?_,
  λ b xs q=>by rw[Æ0];show q,λ b u xs q=>by rw[Æ0];show q,λ b ps q=>#[Å5,by rw[Æ0,q];simp]]
 by_cases BA:b=e
 .subst BA;show CV
 .show#[u,k b u BA q]
end
def jm ŭ Ņ:Đ:=(List.range ň).filter λ a=>(H a).isSome
def rF ŭ Ņ:Heap:=PySem.W.hideAll h (jm h H)
def KI ŭ Ņ:(rF h H).objs.size=ň:=PySem.W.hideAll_size Ĺ
def KJ Å9 Ō Ã3(e:ō) (n:Č):Ð1=↑o:=
 PySem.W.hideAll_get _ e λ hm=>by
  have q:(H b).isSome=true:=(A7.mp hm).2;rw[n] at q;simp at q
def MV Å9 Ō Ã3(e:Ð1=↑o):ō/\Č:=by
 have e':ō:=PySem.W.of_hideAll (jm h H) e;exact#[e',?_];cases q:H b with
 | none=>rfl
 | some x=>
  have hm:b∈jm h H:=A7.mpr #[AO.mpr (Ar e'),by simp[q]];have z:Ð1=none:=PySem.W.hideAll_none (jm h H) hm;rw[z] at e;cases e
structure Mod ĳ ŷ:Prop where
 pL:K.In base
 glob:base.Ns mainGlobals mg
 blt:∃ mb,base.Ns builtinsNs mb/\∀ x:Str,x≠"__name__"->mb x=ž
 nolimit:base.NoLimit
structure Cx where
 prog:Ð2
 w:World
 K:Ac
 mg:Str->Ý É
 base:Heap
 A:Around
 N:Ĩ
 s₀:Ð
 H₀:Hp
 env:Env
 đ:ũ
 stack:ũ
 ex:Đ
 fn:Str->Bool
 calm:Bool
 pn:Ak
 xe:Aj
def yY (l:ũ):Đ:=l.filterMap (·.frame)
abbrev AE ï (e:Expr) (es:ŉ):Prop:=starEach (e::es) é=(æ,É4)::Æ8
abbrev AL ï (p:Pos) (es:ŉ):Prop:=(backTo p (Æ8)).any (·.1)=æ
abbrev Cx.fs ï:Đ:=yY X.outer
def gf (sc:Scope) Ì3:Prop:=Ć=↑.local\/Ð3\/Ć=↑.free
def Loc (sc:Scope) Ì3:Prop:=Ć=↑.local\/Ð3
def Look (env:Env) ŭ (m:Aq) Ì3 (u:É):Prop:=
 (env.kindOf x=↑.local/\m x=↑u)\/((env.kindOf x=↑.cell\/env.kindOf x=↑.free)/\∃ c,env.cells.lookup x=↑c/\h.IsCell c ↑u)
structure Cx.Ok ï:Prop where
 mod:Mod È6
 kind:Í9=.function
 glob:X.env.globals=mainGlobals
 blt:X.env.builtins=builtinsNs
 above:ÿ<=Ô
 inj:∀ x y c,È->É5 y=↑c->x=y
 has:∀ x,(X.env.kindOf x=↑.cell\/X.env.kindOf x=↑.free)->∃ c,È
 oh:∀ x c,X.fn x=true->È->ÿ<=c
 hd:Ū->X.A.handled=none
 frames:X.A.frames=↑ œ
 oX:œ=X.outer\/(œ=é::X.outer/\X.env.frame=↑ Ô)
 km:∀ b∈X.ex,b≠ Ô/\∀ x c,È->c≠b
 bs:∀ b o,Ń->Â4/\X.H₀ b=none
 sL:X.base.objs.size<=ÿ
 p9:∀ b o,Ń->b∉X.ex
 pW:∀ b∈X.ex,b∉X.fs
 ug:X.s₀.heap.FunFrames X.base X.outer
 rJ:∀ b∈X.fs,X.H₀ b=none
structure Inv ï (EW:Ak) (σ:List (Ý V)) Ņ (s:Ð):Prop where
 ok:X.Ok
 os:s.os=X.s₀.os
 bare:AllBare s.gens
 base:Un X.fs X.ex X.H₀ H X.s₀.heap þ
 loc:∃ m,s.heap.Ns Ô m/\∀ Ñ6 Ì3 (v:V),X.N[i]?=↑x->σ[i]?=↑↑v->gf X.env.scope x->∃ u,Ę/\Look é þ m x u
 cell:∀ x c,È->∃ v,s.heap.IsCell c v
 free:H Ô=none
 vM:∀ x c,È->H c=none
 pin:∀ p∈X.pn++EW,Ķ
 zt:yq è H þ
 len:σ.length=X.N.length
section
variable {Ğ}{Ò0}{σ:List (Ý V)}{H H':Hp}{À3}{h':Heap}
def Cx.Ok.La (ok:X.Ok) Ã3(e:Ń):b∉X.fs:=λ hb=>by
 have:=(ok.ug.mem hb).1;rw[e] at this;cases this
theorem Inv.bs Ù:∀ b o,Ń->Š/\Č:=λ b o e=>
 #[I.base.keep Î5 (I.ok.La e) (I.ok.p9 ĉ),Â5 Î5 (I.ok.p9 ĉ)]
def Inv.bk Ù:∀ b o,Ń->Š:=λ b o e=>(I.bs ĉ).1
theorem Inv.mod Ù:Mod È6:=I.ok.mod
def Inv.yB Ù:X.K.In þ:=I.ok.mod.pL.keeps I.bk
theorem Inv.lt Ù:Ô<Á:=let #[_,hn,_]:=I.loc;hn.lt
def Inv.sz Ù:ÿ<=Á:=Br I.ok.above (BE I.lt)
def Inv.Yq Ù É9(h:Á<=a):a∉X.fs:=λ hb=>by
 ext Î6;show Œ (Bf (Ar ho) (Br I.sz h)) (B6 _)
def Inv.tV Ù:∀ x c,È->c≠ Ô:=λ x c e z=>by
 let#[v,o,ho,hd]:=Ì9 x c e;let#[m,#[o',es,ep,ho',hd',_],_]:=I.loc;rw[z,ho'] at ho;cases ho;rw[hd'] at hd;cases hd
theorem Inv.ug Ù:Ã1 X.base X.outer:=by
 have all:∀ (l:ũ),(∀ b∈yY l,b∈X.fs)->X.s₀.heap.FunFrames X.base l->Ã1 X.base l:=by
  intro l
  induction l with
  | nil=>intro _ _;trivial
  | cons env r ih=>
   intro hs hl;let#[hk,#[L,o,hf,hn,ho,hd],hr]:=hl;have hL:L∈X.fs:=hs L (by unfold yY;rw[Dc,hf];show Au);let#[sl,e]:=I.base.slot L o ho (I.ok.rJ L hL) hL λ z=>I.ok.pW L z hL;show#[hk,#[L,_,hf,hn,e,hd],ih (λ b hb=>hs b (by unfold yY;rw[Dc,hf];show Ay _ hb)) hr]
 show all X.outer (λ _ hb=>hb) I.ok.ug
theorem Inv.stack Ù:Ã1 X.base œ:=by
 ext Ñ8
 .rw[e];show I.ug
 .rw[e];let#[m,hn,_]:=I.loc;exact Ũ (by rw[š];decide) hf hn ?_ I.ug;show zaO (Br I.ok.sL I.ok.above)
def Inv.fM Ù:∀ b∈yY œ,b∈ Ô::X.fs:=λ b hb=>by
 ext Ñ8
 .rw[e] at hb;show Ay _ hb
 .rw[e] at hb;unfold yY at hb;rw[Dc,hf] at hb;show hb
def Inv.fN Ù:∀ b∈yY œ,Č:=λ b hb=>by
 rcases Am.mp (I.fM b hb) with e | hb
 .rw[e];show Í0
 .ext Î6;show Â5 b o ho (I.ok.rJ b hb) λ z=>I.ok.pW b z hb
def Inv.step Á4 Ù
  Ï
  (keep:∀ b o,b≠ Ô->b∉X.fs->b∉ch->Š->Č->Ė b=↑o)
  (slot:∀ b o,b≠ Ô->b∈X.fs->b∉ch->Š->Č->Ë4) (free:∀ b o,b∉ch->Š->Č->H' b=none)
  (there:∀ b o,b∉ch->Š->∃ o',Ė b=↑o')
  (vW:ę) (uB:Â2) (uN:ť)
  (ns:∀ m,s.heap.Ns Ô m->h'.Ns Ô m) Ê8:
  Ŝ:=by
 have neL:∀ b o,Â4->b≠ Ô:=λ b o e=>AF (Bf (Ar e) I.ok.above);have neC:∀ b o,Â4->b∉X.ex->b∉ch:=λ b o e hx hb=>by
  rcases (B8 b hb).1 with z | z
  .show hx z
  .show Œ (Bf (Ar e) z) (B6 _)
 have cellK:∀ x c,È->∀ v,s.heap.IsCell c v->h'.IsCell c v:=λ x c e v #[o,ho,hd]=>by
  have nch:c∉ch:=Î1;by_cases hc:c∈X.fs
  .let#[sl,q]:=slot È7;show#[_,q,hd]
  .show#[o,keep È7,hd]
 exact#[I.ok,I.os,hg,#[Ŵ,Ŵ,λ b o e n hx=>?_,λ b o e hx=>?_,λ b xs e=>vW b xs (I.base.vW b xs e),λ b o xs e=>uB b o xs (I.base.uB b o xs e),λ b ps e=>?_],?_,λ x c e=>?_,?_,λ x c e=>?_,λ p hp=>?_,zt,I.len]
 .show keep b o (neL ĉ) hb Ð4 Á5 (Â5 ĉ n hx)
 .ext Ś;let#[sl',e2]:=slot b _ (neL ĉ) hb Ð4 e1 (Â5 ĉ n hx);show#[sl',e2]
 .ext Ġ;show free b o' Ð4 e1 (Â5 ĉ n hx)
 .ext Ġ;show there b o' Ð4 e1
 .let#[m1,e1]:=I.base.uN b ps e;let#[m2,e2]:=uN b _ e1;show#[m1++m2,by rw[e2,Et]]
 .let#[m,hn,hl]:=I.loc;exact#[m,ns m hn,λ i x v e1 e2 e3=>?_];let#[u,r,l]:=hl i x v e1 e2 e3;exact#[u,r,?_];rcases l with l | ⟨k,c,e,z⟩
  .show ŏ l
  .show .inr #[k,c,e,cellK x c e _ z]
 .let#[v,z]:=Ì9 x c e;show#[v,cellK x c e v z]
 .let#[m,#[o,_,_,ho,_],_]:=I.loc;show free _ o (λ z=>(B8 _ z).2.1 rfl) ho Í0
 .let#[v,o,ho,hd]:=Ì9 x c e;show free c o (Î1) ho (I.vM x c e)
 .ext ś;have nch:p.1∉ch:=λ z=>(B8 p.1 z).2.2.2 p hp rfl;show#[keep p.1 p.2 ne nf nch e n,free p.1 p.2 nch e n,ne,nf,d]
theorem Inv.un Ï4 Ù (u:Un X.fs [] H H' þ h') (zt:yq è H' h'):Inv Î H' { s with heap:=h',toks:=t' }:=by
 ext Ã9;let#[sl,hL]:=u.any ho Í0 #[];show I.step (g':=s.gens) (d':=s.drawn) (ch:=[]) (λ _ z=>nomatch z) (λ b o _ hb _ e n=>u.keep ĉ n hb #[]) (λ b o _ hb _ e n=>u.slot ĉ n hb #[]) (λ b o _ e n=>u.free ĉ n #[]) (λ b o _ e=>u.there ĉ #[]) u.vW u.uB u.uN (λ m' hm=>by
  ext ġ) zt I.bare
def Inv.call Á4 Ù (u:Un (yY œ) ch H H' þ h') Ê8
  Ï:
  Ŝ:=by
 ext Ã9;let#[sl,hL]:=u.any ho Í0 λ z=>(B8 _ z).2.1 rfl;show I.step (ch:=ch) B8 (λ b o hL hb hc e n=>u.keep ĉ n (λ z=>(Am.mp (I.fM b z)).elim hL hb) hc) (λ b o _ _ hc e n=>u.any e n hc) (λ b o hc e n=>u.free ĉ n hc) (λ b o hc e=>u.there ĉ hc) u.vW u.uB u.uN (λ m' hm=>by
  ext ġ) zt hg
def Inv.turned Ï4{it:Addr}Ù (k:∀ b o,b≠it->Š->Ė b=↑o) (hn:H it=none) (hL:it≠ Ô)
  (h1:it∈X.ex\/ÿ<=it) (h2:∀ x c,È->c≠it) (h3:∀ p∈X.pn++EW,p.1≠it):Æ9:=by
 have nit:∀ b u,H b=↑u->b≠it:=λ b u e z=>by rw[z,hn] at e;cases e
 exact I.step (g':=s.gens) (d':=s.drawn) (ch:=[it]) (λ b hb=>?_) (λ b o _ _ hc e _=>ŝ) (λ b o _ _ hc e _=>#[o.slots,ŝ]) (λ _ _ _ _ n=>n)
  (λ b o hc e=>#[o,ŝ]) (λ _ _ e=>e) (λ _ _ _ e=>e) (λ b ps e=>#[Å5,by rw[e];simp]) (λ m hm=>?_) (λ b u e=>?_) I.bare
 .ext Á8
  subst e;show#[h1,hL,h2,h3]
 .let#[o,es,ep,ho,r]:=hm;show#[o,es,ep,k _ o (Ne.symm hL) ho,r]
 .exact (I.zt b u e).uv (λ c v hc q=>k c v ?_ q) È5;rcases hc with z | z
  .rw[z];show nit b u e
  .show nit c _ z
def Inv.tok Ù (t:Nat):Inv Î H { s with toks:=t }:=I.un (h':=þ) (t':=t) Un.refl I.zt
theorem Inv.kept Ï4 Ù (k:∀ b u,Æ1):Æ9:=I.un (Un.kept k) (I.zt.kept k)
theorem Inv.laid É9{o:HO}Ï4 Ù (k:∀ b u,Æ1) (hp:Á<=a) (new:xa è Ç6 h' a o):
  Inv Î Ç6 { s with heap:=h',toks:=t' }:=I.un (Un.laid k hp (I.zt.fresh hp)) (I.zt.laid k hp new)
theorem Inv.write {x e:Addr}{o:HO}Ï4 Ù Å0 (k:∀ b u,b≠e->Æ1) (CV:∃ u,Ė e=↑u)
  (new:xa è (upd H x o) h' x o):Inv Î (upd H x o) { s with heap:=h',toks:=t' }:=I.un (Un.write mu he k CV) (I.zt.write mu he k CV new)
def Inv.eG {pins':Ak}Ù (h:∀ p∈pins',Ķ):Inv X pins' î s:=
 #[I.ok,I.os,I.bare,I.base,I.loc,Ì9,Í0,I.vM,λ p hp=>(A5.mp hp).elim (λ z=>I.pin p (B4 _ z)) (h p),I.zt,I.len]
def eX {N:Ĩ}(hN:N.Nodup) {i j:Nat}Ŀ(a:N[i]?=↑x) (b:N[j]?=↑x):i=j:=by
 let#[h1,e1]:=AQ.mp a;let#[h2,e2]:=AQ.mp b;show (List.getElem_inj hN).mp (e1.trans e2.symm)
def TZ {M:Model}û Ç2 Ì4 Ŀ{v:V}Ų Å1 Ù á (r:Ę)
  (h:∀ s',Î2->(∃ a,Heap.SameBut a þ s'.heap/\(a=Ô\/É5 x=↑a))->Q Ð5 s') Æ:Ï1:=by
 let#[m,hn,hl]:=id I.loc;have Bg:(Í9 == .class||(Í9 == .module&&Ô != X.env.globals))=æ:=by rw[š];rfl
 have hiσ:i < σ.length:=by rw[I.len];show (AQ.mp hi).1
 have tV:=I.tV;have tracked:∀ É9{h':Heap},(∃ o,ì a=↑o/\H a=none)->Heap.SameBut a þ h'->yq è H h':=λ{a h'} ha hs b ob e=>by
  let#[_,_,hfree]:=ha;exact (I.zt b ob e).uv (λ c w' hc q=>(hs.2 c ?_).trans q) È5;rintro rfl;rcases hc with rfl | hc
  .rw[hfree] at e;cases e
  .rw[hfree] at hc;cases hc
 rcases hx with hk | hk
 .exact wpAny_storeName_local hk hn (λ h' hn' hs=>?_) Bg;let#[oL,_,_,hoL,_]:=id hn;exact h _ #[I.ok,I.os,I.bare,Ă,#[_,hn',λ j y v' e1 e2 e3=>?_],λ y c e=>?_,Í0,I.vM,λ p hp=>?_,tracked #[oL,hoL,Í0] hs,by exists I.len] #[_,hs,ŏ rfl]
  .show ĝ Á5
  .ext Ś;show#[sl,ĝ e1]
  .ext Ġ;show#[o',ĝ e1]
  .by_cases hj:j=i
   .ext Ã0;show#[u,r,ŏ #[hk,#[]]]
   .ext ĭ;rcases q with ⟨k,e⟩ | ⟨k,c,e,z⟩
    .exact ŏ #[k,?_];have:y≠x:=λ e=>hj (eX hN e1 (e▸hi));simp[this,e]
    .show .inr #[k,c,e,z.sameBut hs (tV y c e)]
  .let#[w',z]:=Ì9 y c e;show#[w',z.sameBut hs (tV y c e)]
  .ext ś;show#[(hs.2 p.1 ne).trans e,n,ne,nf,d]
 .have Cd:X.fn x=true:=by
   rcases hf with z | z
   .show z
   .rw[z] at hk;cases hk
  let#[c,hc]:=I.ok.has x (ŏ hk);let#[w',z]:=Ì9 x c hc;exact wpAny_storeName_cell š hk hc z (λ h' hc' hs=>?_);let#[oc,hoc,EE]:=id z;exact h { s with heap:=h' } #[I.ok,I.os,I.bare,Ă,#[m,hn.sameBut hs (Ne.symm (tV x c hc)),λ j y v' e1 e2 e3=>?_],λ y c' e=>?_,Í0,I.vM,λ p hp=>?_,tracked #[oc,hoc,I.vM x c hc] hs,by exists I.len] #[c,hs,.inr hc]
  .show Ĉ Á5
  .ext Ś;show#[sl,Ĉ e1]
  .ext Ġ;show#[o',Ĉ e1]
  .by_cases hj:j=i
   .ext Ã0;show#[u,r,.inr #[ŏ hk,c,hc,hc']]
   .ext ĭ;rcases q with q | ⟨k,c',e,z'⟩
    .show ŏ q
    .exact .inr #[k,c',e,z'.sameBut hs ?_];rintro rfl;show hj (eX hN e1 (I.ok.inj Ĺ _ e hc▸hi))
  .by_cases BI:c'=c
   .subst BI;show#[_,hc']
   .let#[w2,z2]:=Ì9 y c' e;show#[w2,z2.sameBut hs BI]
  .ext ś;exact#[(hs.2 p.1 ?_).trans e,n,ne,nf,d];intro q;rw[q,hoc] at e;have q':oc=p.2:=Be e;show d w' (by rw[<- q'];show EE)
def jq {M:Model}û Ç2 Ì4 Ŀ{v:V}Ų Å1 Ù á (r:Ę)
  (h:∀ s',Î2->Q Ð5 s') Æ:Ï1:=
 TZ I hN hi hx r (λ s' I' _=>h s' I') hf
def Inv.WB {s':Ð}{ch:Đ}Ù (ho:s'.os=s.os) (u:Un (yY œ) ch H H' þ s'.heap) (zt:yq è H' s'.heap) (hg:AllBare s'.gens)
  Ï:Ź:=by
 let#[h',g',d',t',o']:=s';have e:o'=s.os:=ho;subst e;show I.call (g':=g') (t':=t') (d':=d') u zt hg B8
end
abbrev XK:=É->Ý Addr->Ò
abbrev St:=List (Ý V)
abbrev VK:=V->Ò
abbrev TE:=St->ñ
abbrev TT:=St->Hp->(Bool->Ò)->Prop
abbrev TA:=St->Hp->(å->Ò)->Prop
structure Ends where
 nx:Ç0
 rt:VK
 bk:Ç0:=λ _ _=>False
 ct:Ç0:=λ _ _=>False
abbrev TS:=Ends->Ç0
def EP ï ų Ç3 (u:É) Ñ9:Prop:=∃ v H',Ź/\Ę/\Q v H'
def TP ï ų Í4 (b:Bool) Ñ9:Prop:=∃ H',Ź/\Q b H'
def AP ï ų (Q:å->Ò) Ì6 Ñ9:Prop:=∃ vs H',Ź/\Å6/\Q vs H'
def SP ï (EW:Ak) (D:Ends) (f:Flow) Ñ9:Prop:=
 match f with
 | .next=>∃ σ' H',ā/\D.nx Ř
 | .brk=>∃ σ' H',ā/\D.bk Ř
 | .cont=>∃ σ' H',ā/\D.ct Ř
 | .ret u=>∃ v σ' H',ā/\Ę/\D.rt v H'
def PE ï (e:Expr) (t:TE):Prop:=
 ∀ Ã Ç3,À->t î Q->Ø Â (É4) ą
def PT ï (e:Expr) (t:TT):Prop:=
 ∀ Ã Í4,À->t î Q->Ø Â (isTrue e é (É4)) (TP Î Q) È8
def PW ï (e:Expr) (t:TT):Prop:=
 ∀ (whole:Sem É) Ã Í4,À->t î Q->Ø Â (isTrue e é whole) (TP Î Q) È8
def PW.pt Ğ À2{t:TT}(h:PW X e t):PT X e t:=h _
def PA ï (es:ŉ) (t:TA):Prop:=
 ∀ (pos:Pos) Ã (Q:å->Ò),À->t î Q->Ø Â (spliced (backTo pos (Æ8))) (AP Î Q) È8
def PS ï (st:Stmt) (t:TS):Prop:=
 ∀ Ã (D:Ends),À->t D î->Ø Â (exec st é) (SP X EW D) È8
def wH ï (st:Ä2) (t:TS):Prop:=
 ∀ Ã (D:Ends),À->t D î->Ø Â (execs st é) (SP X EW D) È8
def zD {α:Type}{t:Sem α}{Q Q':α->Ļ}{M:Model}û Ç2 À3(h:Ø M A t ţ) (hQ:∀ a s,Q a s->Q' a s):Ø M A t Q' E s:=za4 h hQ λ _ _ x=>x
section
variable {Ğ}
def fG Ñ6:TE:=fun σ H Q=>∃ v,σ[i]?=↑↑v/\Q v H
def tC (v:V):TE:=λ _ H Q=>Q v H
def RX Ì4 Ŀ ē(hN:X.N[i]?=↑x) (hv:gf X.env.scope x) ř (Bz:(x == ("__classdict__":Str))=æ:=by decide):PE X Ŧ (fG i):=by
 ext Í;let#[v,e,h]:=h;let#[m,hn,hl]:=I.loc;let#[u,r,l]:=hl i x v hN e hv;have fin:EP Î Q u s:=Æ2;rcases l with ⟨hk,hm⟩ | ⟨hk,c,hc,hcell⟩
 .show wpAny_Name (wpAny_loadName_local š hk hn hm fin) hd
 .rcases hk with hk | hk
  .show wpAny_Name (wpAny_loadName_cell š hk hc hcell fin) hd
  .show wpAny_Name (wpAny_loadName_free š hk hc hcell fin Bz) hd
def Qj {i j pos}:PE X (.Constant (ó i) j pos) (tC (ó i)):=λ _ _ _ H _ I h=>wpAny_Constant_int #[ó i,H,Ŕ,Ĕ,h]
def Qt {b j pos}:PE X (.Constant (.bool b) j pos) (tC (.bl b)):=λ _ _ _ H _ I h=>Constant_bool #[.bl b,H,I,rfl,h]
def Qe {j pos}:PE X (.Constant .none j pos) (tC .zj):=λ _ _ _ H _ I h=>Constant_none #[.zj,H,I,rfl,h]
def R_ {x j pos}:PE X (.Constant (.str x) j pos) (tC (.str x)):=λ _ _ _ H _ I h=>Calls.Constant_str #[.str x,H,Ŕ,Ĕ,h]
def Gl ï Ì3:Prop:=X.env.kindOf x=↑.globalImplicit
def lO Ç2 Ò0 À3 Ò1 Ō Ŀ Ų ē{Q:Aj}Ù È9 (hm:X.mg x=↑u) (h:Q u s)
  ř:Ø Â (eval Ŧ é) ţ:=
 Calls.Name_function_global š hg (Calls.loadGlobal_global Â0 hm h) hd
def pJ Ç2 Ò0 À3 Ò1 Ō Ŀ Ų ē{Q:Aj}Ù Ģ (hv:ž=↑u) (h:Q u s)
  ě ř:Ø Â (eval Ŧ é) ţ:=by
 let#[mb,h1,h2]:=I.mod.blt;show Calls.Name_function_global š hg (Calls.loadGlobal_builtin Â0 hm (by rw[I.ok.blt];show h1.keeps I.bk) ((h2 x hn).trans hv) h) hd
def ZN Ŀ{v:V}Ų ē È9 (hm:X.mg x=↑u) (r:Ę) ř:PE X Ŧ (tC v):=
 λ _ _ _ H _ I h=>lO I hg hm Æ2 hd
def Qs Ŀ{v:V}Ų ē Ģ (hv:ž=↑u) (r:Ę) ě ř:PE X Ŧ (tC v):=
 λ _ _ _ H _ I h=>pJ I hg hm hv Æ2 hn hd
variable {Æ4}{ē}
variable {tA tB':TT}{EX:ŉ}
def TX (t u:TT):TT:=fun σ H Q=>t î λ c H1=>if c=true then u ů Q else Q æ H1
def T5 (t u:TT):TT:=fun σ H Q=>t î λ c H1=>if c=true then Q true H1 else u ů Q
def T7 (t:TT):TT:=fun σ H Q=>t î λ c H1=>Q (!c) H1
def Rm À4:PW X (Ç7 .And [a] pos) tA:=by
 ext À5;exact isTrue_and Ë5;cases c with
 | true=>show isTrue_and_nil e
 | æ=>show e
def Rj À4:PW X (Ç7 .Or [a] pos) tA:=by
 ext À5;exact isTrue_or Ë5;cases c with
 | æ=>show isTrue_or_nil e
 | true=>show e
def Rn À4 (hb:PW X (Ç7 .And (b::EX) pos) tB'):PW X (Ç7 .And (a::b::EX) pos) (TX tA tB'):=by
 ext À5;exact isTrue_and (zD Ë6 λ c s1 ľ=>?_);cases c with
 | true=>show hb wh Ò2
 | æ=>show ľ
def Rl À4 (hb:PW X (Ç7 .Or (b::EX) pos) tB'):PW X (Ç7 .Or (a::b::EX) pos) (T5 tA tB'):=by
 ext À5;exact isTrue_or (zD Ë6 λ c s1 ľ=>?_);cases c with
 | true=>show ľ
 | æ=>show hb wh Ò2
def Rp À4:PT X (.UnaryOp .Not a pos) (T7 tA):=by
 ext Í;show isTrue_not (ha Ľ (λ c H1=>Q (!c) H1) I h)
def TV (ta tb:TE):TE:=fun σ H Q=>ta î λ x H1=>∃ c,x=.bl c/\if c=true then tb ů Q else Q (.bl æ) H1
def T6 (ta:TE):TE:=fun σ H Q=>ta î λ x H1=>∃ c,x=.bl c/\Q (.bl (!c)) H1
def Qc {op} {t:TE}(h:PE X a t):PE X (Ç7 op [a] pos) t:=λ EW s σ H Q I hw=>BoolOp_one (h Ľ Q I hw)
def Qu À6 (hb:PE X (Ç7 .And (b::EX) pos) tb):PE X (Ç7 .And (a::b::EX) pos) (TV ta tb):=by
 ext Í;exact BoolOp_and (Á6);let#[c,rfl,q1]:=q1;cases r1;exact zaH ?_;cases c with
 | true=>show hb Ò2
 | æ=>show#[.bl æ,H1,I1,rfl,q1]
def Qd À6:PE X (.UnaryOp .Not a pos) (T6 ta):=by
 ext Í;exact UnaryOp_ (Á6);let#[c,rfl,q1]:=q1;cases r1;show not_of (zaH #[.bl (!c),H1,I1,rfl,q1])
def TJ (t:TT) (ta tb:TE):TE:=fun σ H Q=>t î λ c H1=>if c=true then ta ů Q else tb ů Q
def Qk {c:Expr}(hc:PT X c tA) ð:PE X (.IfExp c a b pos) (TJ tA ta tb):=by
 ext Í;exact wpAny_IfExp (zD (hc Å) λ d s1 ľ=>?_);cases d with
 | true=>show ha Ò2
 | æ=>show hb Ò2
end
def zU ĳ Ņ À1 Ì5:Prop:=
 Rd H a (.lst xs)\/
  ∃ (o:Obj) (Ab:AB) (n:Nat),K.lookup a=↑o/\o.cls=Ë1 "list"/\o.dict=none/\Á0
def yk ĳ Ņ À1 Ì5:Prop:=
 Rd H a Ä1\/
  ∃ (o:Obj) (Ab:AB) (n:Nat),K.lookup a=↑o/\(o.cls=Ë1 "tuple"/\o.dict=none)/\Á0
def GD:É->Ý V
 | .none=>↑.zj
 | .bool b=>↑(.bl b)
 | ó i _=>↑(ó i)
 | .str x _=>↑(.str x)
 | .bytes b _=>↑(.kI b)
 | .float b _=>↑(.c7 b)
 | Ü a=>↑(Ü a)
 | Ë1 n=>↑(.ty n)
 | _=>none
def RelV.abs {x:V}Ų(r:É2):GD u=↑x:=by
 cases x with
 | zj=>cases r;rfl
 | bl _=>cases r;rfl
 | ref _=>cases r;rfl
 | ty _=>cases r;rfl
 | _=>let#[t,rfl]:=r;rfl
theorem RelV.inj {x y:V}Ų(r:É2) (q:RelV y u):x=y:=Be (r.abs.symm.trans q.abs)
theorem Vals.inj:∀ {xs ys:å}ķ,Į->Vals ys us->xs=ys
 | _,_,_,.nil,.nil=>rfl
 | _,_,_,Ũ r t,Ũ r' t'=>by rw[r.inj r',Vals.inj t t']
section
variable {Ğ}{Ì}{É9}{xs ys:å}
def zU.of Í5(h:H a=↑(.lst xs)):zU ź:=ŏ (ŏ h)
def yk.of Í5(h:H a=↑ Ä1):yk ź:=ŏ (ŏ h)
def Inv.list Ù (h:zU X.K H a xs):∃ Ab:List É,Ë2/\PlainL þ a Å4/\Ó<=ù:=by
 rcases h with h | ⟨o,Ab,n,hk,hc,hd,hs,hz,r⟩
 .let#[z,Ab,n,r,e]:=h.ok I.zt;show#[Ab,r,#[_,n,e,rfl,rfl,rfl],z]
 .exact#[Ab.toList,r,#[o,n,I.yB a o hk,hc,hd,by exists hs],?_];ext Ò3
def Inv.tuple Ù (h:yk X.K H a xs):∃ Ab:List É,Ë2/\IsTup þ a Å4/\Ó<=ù:=by
 rcases h with h | ⟨o,Ab,n,hk,hc,hs,hz,r⟩
 .let#[z,Ab,r,p]:=h.ok I.zt;show#[Ab,r,p,z.1]
 .exact#[Ab.toList,r,#[o,I.yB a o hk,hc.1,n,by exists hs],?_];ext Ò3
def Inv.dq Ù (h:zU X.K H a xs) (h':zU X.K H a ys):xs=ys:=by
 let#[Ab,r,#[o,n,e,_,_,d],_]:=I.list h;let#[AV,r',#[o',n',e',_,_,d'],_]:=I.list h';rw[e] at e';cases e';rw[d] at d'
 injection d' with d1 _
 ext Æ5
 subst this;show r.inj r'
def Inv.fw Ù (h:yk X.K H a xs) (h':yk X.K H a ys):xs=ys:=by
 let#[Ab,r,#[o,e,_,n,d],_]:=Ð6 h;let#[AV,r',#[o',e',_,n',d'],_]:=Ð6 h';rw[e] at e';cases e';rw[d] at d'
 injection d' with d1 _
 ext Æ5
 subst this;show r.inj r'
end
abbrev Cx.t_ ï (E:Aj):Cx:={ X with xe:=E }
abbrev Cx.xA ï:Cx:=X.t_ λ _ _=>False
theorem Cx.Ok.t_ Ğ(ok:X.Ok) (E:Aj):(X.t_ E).Ok:=
 ã
def Cx.Ok.oW Ğ Ç2(ok:(X.t_ E).Ok):X.Ok:=
 ã
section
variable {Ğ}{Ì}{Ç2}
theorem Inv.t_ Ù (E:Aj):Inv (X.t_ E) EW î s:=#[I.ok.t_ E,I.os,I.bare,I.base,I.loc,Ì9,Í0,I.vM,I.pin,I.zt,I.len]
theorem Inv.oW (I:Inv (X.t_ E) EW î s):À:=#[I.ok.oW,I.os,I.bare,I.base,I.loc,Ì9,Í0,I.vM,I.pin,I.zt,I.len]
theorem SP.oW {D:Ends}{f:Flow}{s':Ð}(h:SP (X.t_ E) EW D f s'):SP X EW D f s':=by
 cases f with
 | ret u=>let#[v,σ',H',I,r,q]:=h;show#[v,σ',H',I.oW,r,q]
 | _=>let#[σ',H',I,q]:=h;show#[σ',H',I.oW,q]
theorem wH.xA {st:Ä2}{t:TS}(h:wH X.xA st t):wH X st t:=λ EW s σ H D I hw=>
 za4 (h Ľ D (I.t_ _) hw) (λ _ _ q=>q.oW) λ _ _ z=>False.elim z
end
section
variable {Ğ}{st:Stmt}{EX:Ä2}{t u:TS}{À2}{te:TE}{ē}
def TB:TS:=λ D σ H=>D.nx î
def T2 (t u:TS):TS:=λ D σ H=>t { D with nx:=u D } î
def Rr:wH X [] TB:=λ _ _ σ H _ I h=>zaI #[σ,H,I,h]
def Rt (h1:PS X st t) (h2:wH X EX u):wH X (st::EX) (T2 t u):=by
 ext ô;exact wpAny_execs_cons (zD (h1 Ľ { D with nx:=u D } I h) λ f s1 q=>?_);cases f with
 | next=>
  let#[σ',H',I',q]:=q;show h2 EW s1 Ř D I' q
 | ret v=>show q
 | _=>show q
def ZE (h1:PS X st t):wH X [st] t:=by
 ext ô;exact wpAny_execs_cons (zD (h1 Ľ D I h) λ f s1 q=>?_);cases f with
 | next=>show zaI q
 | ret v=>show q
 | _=>show q
def Inv.quiet Ì Ù:interactive é=æ:=by simp[interactive,š]
def TN (te:TE):TS:=λ D σ H=>te î λ _ H1=>D.nx ů
def R0 À7 (hs:swapsWith e none pos.line é=pure æ:=by rfl):PS X (.Expr e pos) (TN te):=by
 ext ô;show wpAny_Expr_any (zD (he Å) λ v s1 Ç=>#[σ,H1,I1,q1]) I.quiet hs
def T3 (te:TE):TS:=λ D σ H=>te î D.rt
def Rw À7:PS X (.Return ↑e pos) (T3 te):=by
 ext ô;show wpAny_Return_some (zD (he Å) λ v s1 Ç=>#[x,σ,H1,I1,r1,q1])
def TH (c:TT) (t u:TS):TS:=λ D σ H=>c î λ b H1=>if b=true then t D ů else u D ů
def Rx {c:Expr}{a b:Ä2}{tc:TT}(hc:PT X c tc) (ha:wH X a t) (hb:wH X b u):PS X (.If c a b pos) (TH tc t u):=by
 ext ô;exact wpAny_If (zD (hc Å) λ d s1 ľ=>?_);cases d with
 | true=>show ha â D I1 q1
 | æ=>show hb â D I1 q1
end
abbrev TG:=V->St->Hp->(Ç0)->Prop
abbrev rN:=å->St->Hp->(Ç0)->Prop
def PG ï (target:Expr) (t:TG):Prop:=
 ∀ Ã (v:V) (u:É) (Q:Ç0),À->Ę->t v î Q->
  Ø Â (assign target é u) Ï2 È8
def sQ ï (ts:ŉ) (t:rN):Prop:=
 ∀ Ã (vs:å) Ì6 (Q:Ç0),À->Å6->t vs î Q->
  Ø Â (assignInOrder ((Å7 ts é).map (·.2)) us) Ï2 È8
abbrev bD:=V->V->V->Hp->(Ò)->Prop
def Vu ï (t:bD):Prop:=
 ∀ Ã (o i v:V) (ov iv u:É) (Q:Ò),À->RelV o ov->RelV i iv->Ę->t o i v H Q->
  Ø Â (setItem ov iv u) (λ _ s'=>∃ H',Ź/\Q H') È8
section
variable {Ğ}{ē}
def nU Ñ6:TG:=λ v σ H Q=>Q (σ.set i ↑v) H
def RO Ì4 Ŀ á Æ:PG X Ŧ (nU i):=by
 intro EW s σ H v u Q I r h;show wpAny_assign_Name (jq I hN hi hx r (λ s' I'=>#[_,H,I',h]) hf)
def JN:rN:=λ vs σ H Q=>vs=[]/\Q î
def JO (t:TG) (u:rN):rN:=λ vs σ H Q=>∃ v r,vs=v::r/\t v î fun σ' H'=>u r Ř Q
def RJ:sQ X [] JN:=by
 intro EW s σ H vs us Q I r h;let#[e,h]:=h;subst e;cases r;show assignInOrder_nil #[σ,H,I,h]
def RK À2{es:ŉ}{t:TG}{u:rN}(h1:PG X e t) (h2:sQ X es u)
  (hs:(Å7 (e::es) é).map (·.2)=assign e é::(Å7 es é).map (·.2):=by rfl):sQ X (e::es) (JO t u):=by
 intro EW s σ H vs us Q I r h;let#[v,vr,e1,h]:=h;subst e1;cases r with
 | cons r rr=>
  rw[hs];exact assignInOrder_cons (zD (h1 Ľ Ĺ _ I r h) λ _ s1 #[σ1,H1,I1,q1]=>?_);show h2 EW s1 σ1 H1 Ĺ Q I1 rr q1
def Xu ĳ Ì8 (t:rN):TG:=λ v σ H Q=>∃ a xs,v=Ü a/\yk ź/\Ó=n/\t xs î Q
def RL {es:ŉ}Î0{t:rN}{n:Nat}(hc:Ū) (h:sQ X es t)
  (hn:(Å7 es é).length=n:=by rfl) (AD:(Å7 es é).findIdx? (·.1)=none:=by rfl):PG X (.Tuple es k pos) (Xu X.K n t):=by
 intro EW s σ H v u Q I r hw;let#[a,xs,e1,hq,hl,hw]:=hw;subst e1;cases r;let#[Ab,rv,ht,hz]:=Ð6 hq;exact assign_Tuple_tuple ŕ ht (by simp[hn,<- hl,rv.length]) AD λ h' hx=>?_;have I1:Inv Î H { s with heap:=h' }:=I.kept (t':=Ţ) λ b o e=>hx b o (AF (Ar e)) e;show h EW _ î xs _ Q I1 (by exists rv) hw
def JM (to ti:TE) (t:bD):TG:=λ v σ H Q=>to î λ o H1=>ti ů λ i H2=>t o i v H2 λ H3=>Q σ H3
def RM {o i:Expr}{to ti:TE}{t:bD}(ho:PE X o to) (hi:PE X i ti) (hs:Vu X t)
  (ha:∀ v,assign (.Subscript o i pos) é v=(do
   let ov <- holding [v] (eval o é)
   let iv <- holding [v,ov] (eval i é)
   standAt pos
   holding [v,ov,iv] (setItem ov iv v)
   release [v,ov,iv] []):=by intro _;rfl):PG X (.Subscript o i pos) (JM to ti t):=by
 intro EW s σ H v u Q I r h;rw[ha];exact gV (za9 (zD (ho Å) λ ov s1 Ç=>?_));exact gV (za9 (zD (hi É1) λ iv s2 ļ=>?_));exact gV (wpAny_standAt (gV (za9 (zD (hs Ã7 ov iv u _ I2 r1 r2 r q2) λ _ s3 #[H3,I3,q3]=>?_))));show wpAny_release #[σ,H3,I3,q3]
def mV (te:TE) (g:TG):TS:=λ D σ H=>te î λ x H1=>g x ů D.nx
def ZG {tg e:Expr}{te:TE}{g:TG}À7 (hg:PG X tg g) (hs:swapsWithSole [tg] e pos.line é=pure æ:=by rfl) (hw:swappedStores [tg] e é=pure none:=by rfl)
  (h1:(Å7 [tg] é).map (·.2)=[assign tg é]:=by rfl):PS X (.Assign [tg] e pos) (mV te g):=by
 ext ô;exact wpAny_Assign_stores (zD (he Å) λ v s1 Ç=>?_) hs hw;rw[h1];show zD (hg â x v _ I1 r1 q1) λ _ s2 q=>q
def ZF Ì4 Ŀ À2{te:TE}{pos':Pos}á À7 (hs:swapsWith e ↑(.Name x pos') pos.line é=pure æ:=by rfl) Æ:
  PS X (.Assign [.Name x pos'] e pos) (mV te (nU i)):=by
 ext ô;exact wpAny_Assign_Name (zD (he Å) λ v s1 #[y,H1,I1,r1,q1]=>?_) hs;show jq I1 hN hi hx r1 (λ s2 I2=>#[_,H1,I2,q1]) hf
def Tu (c:TT) (tb:TS):TS:=λ D σ H=>∃ W:Nat->Ç0,(∃ m,W m î)/\∀ m σ H,W m î->
 c î λ b H1=>if b=true then ∃ N:Ç0,(∀ σ' H',N Ř->∃ m',m'<m/\W m' Ř)/\tb { D with nx:=N,ct:=N,bk:=D.nx } ů else D.nx ů
def Ru {c:Expr}{body:Ä2}{tc:TT}{tb:TS}(hp:PassesOwn Â é X.xe) (hc:PT X c tc) (hb:wH X body tb):PS X (.While c body [] pos) (Tu tc tb):=by
 ext ô;let#[W,#[m0,w0],turn]:=h;exact wpAny_While (codeAny_whileLoop (λ n s'=>∃ σ' H',ā/\W n Ř) ?_ m0 #[σ,H,I,w0]);rintro n s1 ⟨σ1,H1,I1,w1⟩;exact zaJ hp (zD (hc EW s1 σ1 H1 _ I1 (turn n σ1 H1 w1)) λ b s2 #[H2,I2,q2]=>?_);cases b with
 | true=>
  let#[N,hN,q2]:=q2;rw[Ĥ rfl];exact zaJ hp (zD (hb EW s2 σ1 H2 _ I2 q2) λ f s3 q3=>?_);cases f with
  | next=>
   ext ĕ
  | cont=>
   ext ĕ
  | brk=>show q3
  | ret v=>show q3
 | æ=>
  rw[ċ B3];show zaI #[σ1,H2,I2,q2]
end
structure It where
 go:Nat->Ò
 oV:Nat->Hp->V->Ò
 stop:Nat->Ò
def uI ï (EW:Ak) Ņ (b:Addr):Prop:=
 Č/\b≠ Ô/\b∉X.fs/\(b∈X.ex\/ÿ<=b)/\Â6
theorem Inv.kf Ğ Ò0 Ò1{H H':Hp}À3{b:Addr}Ù (hb:Á<=b) (hn:H' b=none):uI X EW H' b:=by
 exact#[hn,Bp (Bf I.lt hb),I.Yq hb,.inr (Br I.sz hb),λ x c e z=>?_,λ p hp z=>?_]
 .let#[v,q]:=Ì9 x c e;show Œ (Bf q.lt (by rw[z];show hb)) (B6 _)
 .show Œ (Bf (Ar (I.pin p hp).1) (by rw[z];show hb)) (B6 _)
structure Turn Ā ĳ (tg:Expr) (J:It) (fp:Đ) (it:Addr) (tn:Nat->Heap->Prop):Prop where
 mem:it∈fp
 obj:∀ i h,tn i h->∀ b∈fp,∃ o,ō/\∀ v,o.data≠.cell v
 keep:∀ i h h',tn i h->(∀ b∈fp,∀ o,ō->Ė b=↑o)->tn i h'
 item:∀ ï,X.prog=P->X.w=w->X.K=K->Ū->∀ Ñ6 Ã (E:Aj),À->(Ä3)->tn i þ->J.go i H->
  Ø Â7 X.A (pyNext (Ü it)) (λ r s1=>∃ u,r=↑u/\
   Ø Â7 X.A Í1 (λ _ s2=>∃ x H',Inv Î H' s2/\É2/\J.oV i H x H'/\tn (i+1) s2.heap/\ŵ) E s1) E s
 done:∀ ï,X.prog=P->X.w=w->X.K=K->Ū->∀ Ñ6 Ã (E:Aj),À->(Ä3)->tn i þ->J.stop i H->
  Ø Â7 X.A (pyNext (Ü it)) (λ r s1=>r=none/\Inv Î H s1) E s
 self:∀ (A:Around) Ñ6 Æ6,tn i þ->Q (Ü it) s->Ø Â7 A (pyIter (Ü it)) ţ
abbrev TI:=St->Hp->(It->Ò)->Prop
def bF ï ų (tg:Expr) (R:It->Ò) (itv:É) (s2:Ð):Prop:=
 ∃ (it:Addr) (fp:Đ) (tn:Nat->Heap->Prop) (J:It) (H':Hp),itv=Ü it/\Inv Î H' s2/\Turn è X.K tg J fp it tn/\tn 0 s2.heap/\(∀ b∈fp,uI X EW H' b)/\R J H'
def PI ï (tg iter:Expr) (wi:TI):Prop:=
 ∀ Ã (R:It->Ò),À->wi î R->
  Ø Â (eval iter é) (λ v s1=>Ø Â (pyIter v) (bF Î tg R) X.xe s1) È8
def ik {M:Model}û Ç2 À3 Ò4{it:Addr}Ų{o:Obj}{n:String}{vs:AB}Å1(ho:ì it=↑o) (hc:o.cls=Ë1 n) (hd:o.data=.fields vs)
  (hn:ç=æ) (hQ:Q Ð5 s):Ø M A Í1 ţ:=by
 unfold letOwnedTupleGo;cases tg <;> first
  | show Ae hQ
  | (cases u <;> first
    | show Ae hQ
    | (exact gV (wpAny_load ho ?_)
       rw[hc,hd];change Ø M A (if (ç&&vs[0]? == ↑(rawInt _))=true then _ else _) ţ;rw[ċ (by intro h;rw[hn,Bool.false_and] at h;cases h)];show Ae hQ))
def V2 ĳ À1:It:=
 #[λ i H=>∃ xs x,zU ź/\Ç5,λ i H x H'=>H'=H/\∀ xs,zU ź->Ç5,λ i H=>∃ xs,zU ź/\Ó<=i]
def V1 ĳ À1:It:=
 #[λ i H=>∃ xs x,yk ź/\Ç5,λ i H x H'=>H'=H/\∀ xs,yk ź->Ç5,λ i H=>∃ xs,yk ź/\Ó<=i]
def gr (lo:Int) Ì8:It:=#[λ i _=>i<n,λ i H x H'=>H'=H/\x=ó (lo+i),λ i _=>n<=i]
def Ti Õ Í5 Ò4(a it:Addr):Turn P w K tg (V2 K a) [it] it (λ i h=>h.IsListIter it a i) where
 mem:=#[]
 obj:=λ i h st b hb=>by
  ext Á8
  ext ŋ
 keep:=Ã8
 item:=by
  ext Ë;let#[xs,x,hq,hx]:=hg;let#[Ab,rv,p,hz]:=I.list hq;ext Ï5;exact wpAny_pyNext_list_item st p.isList Í6;ext õ;show#[u,rfl,ik (s:={ s with heap:=h' }) e c d () #[x,H,I1,ru,#[rfl,λ ys hy=>by rw[I.dq hy hq];show hx],E_,Ç8]]
 done:=by
  ext Ë;let#[xs,hq,hx]:=hg;let#[Ab,rv,p,hz]:=I.list hq;ext Ö;have hl:=rv.length;show wpAny_pyNext_list_end ŕ st p.isList (by simp;lia) ä
 self:=λ _ _ _ _ _ st h=>wpAny_pyIter_listiter st h
def Tf Õ Í5 Ò4(a it:Addr):Turn P w K tg (V1 K a) [it] it (λ i h=>h.IsTupleIter it a i) where
 mem:=#[]
 obj:=λ i h st b hb=>by
  ext Á8
  ext ŋ
 keep:=Ã8
 item:=by
  ext Ë;let#[xs,x,hq,hx]:=hg;let#[Ab,rv,p,hz]:=Ð6 hq;ext Ï5;exact wpAny_pyNext_tuple_item st Ë7 Í6;ext õ;show#[u,rfl,ik (s:={ s with heap:=h' }) e c d () #[x,H,I1,ru,#[rfl,λ ys hy=>by rw[I.fw hy hq];show hx],E_,Ç8]]
 done:=by
  ext Ë;let#[xs,hq,hx]:=hg;let#[Ab,rv,p,hz]:=Ð6 hq;ext Ö;have hl:=rv.length;show wpAny_pyNext_tuple_end ŕ st Ë7 (by simp;lia) ä
 self:=λ _ _ _ _ _ st h=>wpAny_pyIter_tupleiter st h
def Th Õ Í5 Ò4(it:Addr) (lo:Int) Ì8:Turn P w K tg (gr lo n) [it] it (λ i h=>IsRangeIter h it (lo+(i:Nat)*1) (ŧ-(i:Nat)) 1) where
 mem:=#[]
 obj:=λ i h st b hb=>by
  ext Á8
  subst e;show#[_,st,λ v z=>by
   have z':Data.fields _=Data.cell v:=z;cases z']
 keep:=λ i h h' st k=>k it #[] _ st
 item:=by
  ext Ë;ext Ö;have W:=Walks.range (prog:=X.prog) (w:=X.w) ŕ it lo 1 n;exact W.item i s Ĺ hg st λ v h' tk hv E_ kk=>?_;let#[t,rfl]:=hv;have I1:Inv Î H { s with heap:=h',toks:=tk }:=I.turned (λ b o hb e=>kk b o (by exists hb) e) f0 f1 f3 f4 f5;exact#[_,rfl,ik (s:={ s with heap:=h',toks:=tk }) (n:="range_iterator") E_ rfl rfl () #[ó (lo+i),H,I1,#[t,?_],#[rfl,rfl],E_,Ç8]];rw[Int.mul_one]
 done:=by
  ext Ë;ext Ö;show wpAny_pyNext_range_end ŕ st (by have:n<=i:=hg;lia) ä
 self:=λ _ _ _ _ _ st h=>wpAny_pyIter_rangeiter st h
section
variable {Ğ}{Ò4}
def SY Ì{R:It->Ò}Ç2{lo hi:Int}{t u v:Tok}{tk:Nat}Ù (h1:-(2 ^ 62)<=lo) (h2:lo<2 ^ 62) (h3:-(2 ^ 62)<=hi) (h4:hi<2 ^ 62)
  (q:R (gr lo (hi-lo).toNat) H):Ø Â (pyIter (Ü Á)) (bF Î tg R) E { s with heap:=Ä,toks:=tk }:=by
 exact wpAny_pyIter_range (IsRange.new ..) (small_one h1 h2 h3 h4) ?_;have I1:Inv Î H { s with heap:=Ä,toks:=tk }:=I.kept λ b o e=>tp _ e;exact#[(Ä).objs.size,[(Ä).objs.size],_,_,H,rfl,
  I1.kept (t':=tk) λ b o e=>tp _ e,Th _ lo (hi-lo).toNat,?_,λ b hb=>?_,q]
 .have e1:lo+((0:Nat):Int)*1=lo:=#[];have e2:Ä4=Builtin.Range.rangeSize lo hi 1:=by rw[rangeSize_one];split <;> lia
  change IsRangeIter Ĺ (lo+((0:Nat):Int)*1) (Ä4) 1;rw[e1,e2];show AJ _ rfl
 .have e:b=(Ä).objs.size:=by exists hb
  subst e;show I1.kf É6 (Ð7)
def Xj (ta:TA):TI:=fun σ H R=>ta î λ vs H1=>∃ j:Int,vs=[ó j]/\-(2 ^ 62)<=j/\j<2 ^ 62/\R (gr 0 j.toNat) H1
theorem RH {a:Expr}{ta:TA}{p pos:Pos}(hg:Gl X "range") (hm:X.mg "range"=none) (ha:PA X [a] ta) (hs:starEach [a] é=[(æ,eval a é)]:=by rfl):PI X tg (.Call (.Name "range" p) [a] [] pos) (Xj ta):=by
 intro EW s σ H R I h;exact Call_ (pJ I hg hm boot_range (Ð8 (zD (ha pos Å) λ us s1 #[vs,H1,I1,r1,q1]=>?_) hs rfl));let#[j,e,q1,q2,q]:=q1;subst e;cases r1 with
 | cons r rr=>
  cases rr;let#[t,rfl]:=r;show call_range_1 (SY I1 ⋯ ⋯ q1 q2 (by exists q))
def TK (wi:TI) (g:TG) (tb:TS):TS:=λ D σ H=>wi î λ J H1=>∃ W:Nat->Nat->Ç0,(∃ m,W 0 m ů)/\∀ i m σ H,W i m î->
 (J.stop i H/\D.nx î)\/(J.go i H/\∃ N:Ç0,(∀ σ' H',N Ř->∃ m',m'<m/\W (i+1) m' Ř)/\∀ x H',J.oV i H x H'->g x σ H' fun σ2 H2=>tb { D with nx:=N,ct:=N,bk:=D.nx } σ2 H2)
def lx (fp:Đ) ŭ:Ak:=fp.filterMap λ b=>(ø b).map λ o=>(b,o)
def jO {fp:Đ}Å9 Ã3(hb:b∈fp) (e:ō):(b,o)∈lx fp h:=CQ.mpr #[b,hb,by rw[e];rfl]
def MU {fp:Đ}Å9{p:Addr×Obj}(hp:p∈lx fp h):p.1∈fp/\ø p.1=↑p.2:=by
 let#[b,hb,e]:=CQ.mp hp;cases q:ø b with
 | none=>rw[q] at e;cases e
 | some o=>
  rw[q] at e;have e':(b,o)=p:=Be e;subst e';show#[hb,q]
def Inv.pinned Ì{fp:Đ}Ù (hf:Ä3) (ho:∀ b∈fp,∃ o,Š/\∀ v,o.data≠.cell v):Inv X (EW++lx fp þ) î s:=
 I.eG λ p hp=>(A5.mp hp).elim (λ z=>I.pin p (A2 _ z)) λ z=>by
  let#[hb,e]:=MU z;let#[f0,f1,f2,_]:=hf p.1 hb;let#[o,e',d]:=ho p.1 hb;rw[e] at e';cases e';show#[e,f0,f1,f2,d]
def Inv.mR {EW pl:Ak}Ò1 Ō À3(I:Inv X (EW++pl) î s):À:=I.eG λ p hp=>I.pin p (A2 _ (B4 _ hp))
def Ry {iter:Expr}{body:Ä2}{wi:TI}{g:TG}{tb:TS}ē(hp:PassesOwn Â é X.xe) (hc:Ū) (hi:PI X tg iter wi) (hg:PG X tg g) (hb:wH X body tb)
  (hs:∀ x,foldedSetIterable iter é x=pure x:=by intro _;rfl):PS X (.For tg iter body [] pos) (TK wi g tb):=by
 ext ô;exact wpAny_For (zD (hi Å) λ v s1 h1=>zD h1 λ itv s2 h2=>?_) hs;let#[it,fp,tn,J,H2,e,I2,T,st2,f2,W,#[m0,w0],turn]:=h2;subst e;have stat:∀ {H':Hp},(ŵ)->∀ b∈fp,uI X EW H' b:=λ hn b hb=>#[hn b hb,(f2 b hb).2];exact codeAny_forLoop_any (λ n s'=>∃ i σ' H',ā/\tn i s'.heap/\(ŵ)/\W i n Ř) ?_ m0 #[0,σ,H2,I2,st2,λ b hb=>(f2 b hb).1,w0];rintro n s3 ⟨i,σ3,H3,I3,st3,fr3,w3⟩;rcases turn i n σ3 H3 w3 with ⟨stop,qn⟩ | ⟨go,N,hN,step⟩
 .exact zaJ hp (zD (T.done X rfl rfl rfl hc Ê1 stop) λ r s4 #[hr,I4]=>?_);subst hr;show zaI #[σ3,H3,I4,qn]
 .exact zaJ hp (zD (T.item X rfl rfl rfl hc Ê1 go) λ r s4 #[u,hr,h4]=>?_);subst hr;exact zaJ hp (zD h4 λ _ s5 #[x,H5,I5,r5,y5,st5,fr5]=>?_);have I5':=I5.pinned (stat fr5) (T.obj Ĺ st5);exact zaJ hp (zD (hg _ s5 σ3 H5 x u _ I5' r5 (step x H5 y5)) λ _ s6 #[σ6,H6,I6,q6]=>?_);exact zaJ hp (zD (hb _ s6 σ6 H6 _ I6 q6) λ f s7 q7=>?_);have again:∀ {σ7:St}{H7:Hp},Inv X (EW++lx fp s5.heap) σ7 H7 s7->N σ7 H7->∃ m,m<n/\∃ i σ' H',Inv X EW Ř s7/\tn i s7.heap/\(ŵ)/\W i m Ř:=λ{σ7 H7} I7 n7=>by
   let#[m',hm,w7]:=hN σ7 H7 n7;exact#[m',hm,i+1,σ7,H7,I7.mR,T.keep Ĺ _ st5 λ b hb o e=>(Å8).1,λ b hb=>?_,w7];let#[o,e,d]:=T.obj Ĺ st5 b hb;show (Å8).2.1
  cases f with
  | brk=>let#[σ7,H7,I7,q7]:=q7;show#[σ7,H7,I7.mR,q7]
  | ret v=>let#[x7,σ7,H7,I7,r7,q7]:=q7;show#[x7,σ7,H7,I7.mR,r7,q7]
  | _=>let#[σ7,H7,I7,n7]:=q7;show again I7 n7
end
abbrev R2:=V->V->ñ
def y9 ï (f:É->É->Sem É) (r:R2):Prop:=
 ∀ Ã (x y:V) (v u:É) Ç3,À->Ê4->RelV y u->r x y H Q->
  Ø Â (f v u) ą
def bB ï (f:É->Sem É) (r:V->ñ):Prop:=
 ∀ Ã (x:V) (v:É) Ç3,À->Ê4->r x H Q->
  Ø Â (f v) ą
def yL ï (f:É) (r:å->ñ):Prop:=
 ∀ Ã Ì5 Ì6 Ç3,À->Į->r xs H Q->
  Ø Â (call f us) ą
def GJ ï (r:V->Hp->(Bool->Ò)->Prop):Prop:=
 ∀ Ã (x:V) (v:É) Í4,À->Ê4->r x H Q->
  Ø Â (truthy v) (TP Î Q) È8
def mU (r:R2) (ta tb:TE):TE:=fun σ H Q=>ta î λ x H1=>tb ů λ y H2=>r x y H2 Q
def Tv (r:V->ñ) (ta:TE):TE:=fun σ H Q=>ta î λ x H1=>r x H1 Q
def rI (C:Int->Int->Prop) (g:Int->Int->V):R2:=λ x y H Q=>∃ i j,x=ó i/\y=ó j/\C i j/\Q Ä5 H
def uc (g:Int->Int->V):R2:=λ x y H Q=>∃ i j,x=ó i/\y=ó j/\Q Ä5 H
def rU (g:Int->V):V->ñ:=λ x H Q=>∃ i,x=ó i/\Q (g i) H
section
variable {Ğ}{Æ4}{ē}
def bc ð Ò0 À3 Ò1 Ō{R:V->V->Ò}Ù
  (h:ta î λ x H1=>tb ů λ y H2=>R x y H2) {Q:Aj}ņ
  (hf:∀ v u s2 x y H2,Inv Î H2 s2->Ê4->RelV y u->R x y H2->Ø Â (f v u) Q X.xe s2):
  Ø Â (eval a é) (λ v s₁=>Ø Â (eval b é) (λ u s₂=>Ø Â (f v u) Q X.xe s₂) X.xe s₁) È8:=by
 exact Á6;exact zD (hb É1) λ u s2 ļ=>?_;show hf v u s2 x y H2 I2 r1 r2 q2
def Qb {op:Operator}{r:R2}(ho:y9 X (É7 op) r) ð:PE X (.BinOp a op b pos) (mU r ta tb):=by
 ext Í;show wpAny_BinOp ĥ
def RY {op:UnaryOp}{r:V->ñ}(ho:bB X (unaryOp op) r) À6:PE X (.UnaryOp op a pos) (Tv r ta):=by
 ext Í;show UnaryOp_ (zD Ë6 λ v s1 Ç=>ho â x v Q I1 r1 q1)
def nA ņ{C:Int->Int->Prop}{g:Int->Int->Int}
  (rule:∀ ħ,C i j->ģ):
  y9 X f (rI C λ i j=>ó Ä5):=by
 ext ă;let#[i,j,rfl,rfl,hc,q]:=h;ext ė;let#[t',rfl]:=ry;show rule i j t t' s Ĺ hc Ð9
def Yh ņ{g:Int->Int->Int}
  (rule:∀ ħ,ģ):
  y9 X f (uc λ i j=>ó Ä5):=by
 ext Ů;show rule i j t t' s Ĺ Ð9
def jD ņ{g:Int->Int->Bool}
  (rule:∀ ħ,Q (.bool Ä5) s->Í2):
  y9 X f (uc λ i j=>.bl Ä5):=by
 ext Ů;show rule i j t t' s Ĺ #[.bl Ä5,H,I,rfl,q]
def oQ (i j:Int):Prop:=0<j/\j<1073741824
def qT (i j:Int):Prop:=0<=j/\j<=1000000/\i.natAbs<2 ^ 64
def rY (i j:Int):Prop:=(-(2 ^ 64)<i/\i<2 ^ 64)\/(-(2 ^ 64)<j/\j<2 ^ 64)
def rY.ok {i j:Int}(h:rY i j):IntMulOk i j:=by
 rcases h with ⟨h1,h2⟩ | ⟨h1,h2⟩
 .show .of_left (intBits_le_64 h1 h2)
 .show .of_right (intBits_le_64 h1 h2)
def OY:y9 X (É7 .Add) (uc λ i j=>ó (i+j)):=Yh λ _ _ _ _ _ _ _ q=>add_int q
def OJ:y9 X (É7 .Sub) (uc λ i j=>ó (i-j)):=Yh λ _ _ _ _ _ _ _ q=>sub_int q
def OP:y9 X (É7 .Mult) (rI rY λ i j=>ó (i*j)):=nA λ _ _ _ _ _ _ _ hc q=>mul_int q hc.ok
def OW:y9 X (É7 .FloorDiv) (rI oQ λ i j=>ó (i/j)):=nA λ i j _ _ _ _ _ hc q=>by
 have h1:(0:Int)<j:=hc.1;have h2:j<1073741824:=hc.2;show floordiv_int ⋯ (by rw[Int.fdiv_eq_ediv_of_nonneg i ⋯];show q) (ŏ (PyProof.noPylong_small ⋯))
def OQ:y9 X (É7 .Mod) (rI (λ _ j=>0<j) λ i j=>ó (i%j)):=nA λ i j _ _ _ _ _ hc q=>by
 have h1:(0:Int)<j:=hc;show mod_int' ⋯ (by rw[Int.fmod_eq_emod_of_nonneg i ⋯];show q)
def OK:y9 X (É7 .Pow) (rI qT λ i j=>ó (i ^ j.toNat)):=nA λ _ _ _ _ _ _ _ hc q=>pow_int_small hc.1 hc.2.1 hc.2.2 q
def Ta {f:É->Sem É}{g:Int->Int}
  (rule:∀ Ñ4 Æ6,Q (ó (g i) Ţ) { s with toks:=Ţ+1 }->Ø Â (f (ó i t)) ţ):
  bB X f (rU λ i=>ó (g i)):=by
 intro EW s σ H x v Q I rx h;let#[i,rfl,q]:=h;ext ė;show rule i t s Ĺ #[ó (g i),H,Ŕ,Ĕ,q]
def U_:bB X (unaryOp .USub) (rU λ i=>ó (-i)):=Ta λ _ _ _ _ _ q=>neg_int q
end
section
variable {Ğ}{a b c:Expr}{ta tb tc:TE}{ē}
def XA Ì{Q:VK}{k k':Bool}Ù (q:Q (.bl k) H) (e:k=k'):EP Î Q (.bool k') s:=by
 subst e;show#[.bl k,H,I,rfl,q]
def OS:y9 X (Ŋ .Lt) (uc λ i j=>.bl (Ž (i<j))):=jD λ _ _ _ _ _ _ _ q=>lt_int q
def jC:y9 X (Ŋ .LtE) (uc λ i j=>.bl (Ž (i<=j))):=jD λ _ _ _ _ _ _ _ q=>le_int q
def OU:y9 X (Ŋ .Gt) (uc λ i j=>.bl (Ž (j<i))):=jD λ _ _ _ _ _ _ _ q=>gt_int q
def Yf:y9 X (Ŋ .GtE) (uc λ i j=>.bl (Ž (j<=i))):=jD λ _ _ _ _ _ _ _ q=>ge_int q
def Yd:y9 X (Ŋ .Is) (λ x y H Q=>y=.zj/\Q (.bl (Ž (x=.zj))) H):=by
 ext ă;let#[rfl,q]:=h;cases ry;exact is_none_gen (XA I q ?_);cases x <;> first
  | (cases rx;rfl)
  | (ext ė;rfl)
def Yb:y9 X (Ŋ .IsNot) (λ x y H Q=>y=.zj/\Q (.bl (! Ž (x=.zj))) H):=by
 ext ă;let#[rfl,q]:=h;cases ry;exact isnot_none_gen (XA I q ?_);cases x <;> first
  | (cases rx;rfl)
  | (ext ė;rfl)
def y9.or ņ{r r':R2}(h:y9 X f r) (h':y9 X f r'):y9 X f É0:=by
 intro EW s σ H x y v u Q I rx ry q;rcases q with q | q
 .show h Ż q
 .show h' Ż q
def u6 (b:Expr) {op:CmpOp}(h:op≠.In:=by decide) (h2:op≠.NotIn:=by decide):Ä6:=by
 have e1:(op == CmpOp.In)=æ:=by cases op <;> first | rfl | show Œ rfl h
 have e2:(op == CmpOp.NotIn)=æ:=by cases op <;> first | rfl | show Œ rfl h2
 cases b <;> simp[behindInMarks,e1,e2]
def Qp Æ7 ð (hm:Ä6):PE X (.Compare a [op] [b] pos) (mU r ta tb):=by
 ext Í;show wpAny_Compare1 ĥ hm
def Tx (t:TE):TT:=fun σ H Q=>t î λ x H'=>∃ k,x=.bl k/\Q k H'
def Rq Æ7 ð (hm:Ä6):PT X (.Compare a [op] [b] pos) (Tx (mU r ta tb)):=by
 ext Í;exact wpAny_isTrue_Compare1 (zD Ë6 λ v s1 Ç=>zD (hb É1) λ u s2 ļ=>
  zD (ho Ã7 u _ I2 r1 r2 q2) λ c s3 Ê6=>?_) hm
 subst e;cases r3;show zaH #[H3,I3,q3]
def aW (r r':R2) (ta tb tc:TE):TE:=fun σ H Q=>ta î λ x H1=>tb ů λ y H2=>r x y H2 λ z H3=>∃ k,z=.bl k/\
 (if k=true then tc σ H3 λ w' H4=>r' y w' H4 Q else Q (.bl æ) H3)
def Qq {op op':CmpOp}{r r':R2}(ho:y9 X (Ŋ op) r) (ho':y9 X (Ŋ op') r') ð (hc:PE X c tc)
  (hm:lastMarks [op,op'] [b,c]=æ:=by with_unfolding_all rfl):PE X (.Compare a [op,op'] [b,c] pos) (aW r r' ta tb tc):=by
 ext Í;exact Compare_chain (zD Ë6 λ v s1 Ç=>chain_link (zD (hb É1) λ u s2 ļ=>
  zD (ho Ã7 u _ I2 r1 r2 q2) λ d s3 Ê6=>?_)) hm
 subst e;cases r3;exact zaH ?_;cases k with
 | æ=>show ite_ff #[.bl æ,H3,I3,rfl,q3]
 | true=>show ite_tt (chain_last (zD (hc EW s3 σ H3 _ I3 q3) λ w' s4 #[z',H4,I4,r4,q4]=>ho' EW s4 σ H4 y z' u w' Q I4 r2 r4 q4))
def bC ĳ (x:V) Ņ (k:Bool):Prop:=
 match x with
 | .zj=>k=æ
 | .bl b=>k=b
 | ó i=>k=(i != 0)
 | .str y=>Ç9
 | .kI y=>Ë8
 | Ü p=>(∃ xs,zU K H p xs/\k=È0)\/(∃ xs,yk K H p xs/\k=È0)\/Ç1
 | _=>False
def Ku {κ:Type}{Aa:List (κ × V)}{vs:List (κ × É)}(r:KV Aa vs):(!vs.isEmpty)=!Aa.isEmpty:=by
 cases r <;> rfl
def YS Ñ5{Ab:Ai}(r:Ë2):(!Ab.toArray.isEmpty)=È0:=by
 cases r <;> simp
def pG:(ù:Nat)<2 ^ 63:=by rw[sizeLine_eq];decide
theorem Tr:GJ X (λ x H Q=>∃ k,bC X.K x H k/\Q k H):=by
 intro EW s σ H x v Q I rx h;let#[k,e,q]:=h;have hl:=pG;have hs:ù=16777216:=sizeLine_eq;cases x with
 | zj=>
  cases rx;have e':k=æ:=e;subst e';show truthy_none #[H,I,q]
 | bl b=>
  cases rx;have e':k=b:=e;subst e';show zaH #[H,I,q]
 | int i=>
  ext ė;have e':k=(i != 0):=e;subst e';show PySem.P.truthy_int #[H,I,q]
 | str y=>
  ext ė;obtain⟨hy,e'⟩:Ç9:=e;subst e';show PySem.P.truthy_str ⋯ #[H,Ŕ,q]
 | kI y=>
  ext ė;obtain⟨hy,e'⟩:Ë8:=e;subst e';show PySem.W.truthy_bytes ⋯ #[H,Ŕ,q]
 | ref p=>
  cases rx;have e':(∃ xs,zU X.K H p xs/\k=È0)\/(∃ xs,yk X.K H p xs/\k=È0)\/Ç1:=e;rcases e' with ⟨xs,hx,e'⟩ | ⟨xs,hx,e'⟩ | ⟨Aa,hx,e'⟩
  .subst e';let#[Ab,r,pl,hz]:=I.list hx;have hlen:=r.length;show wpAny_truthy_list pl.isList Á1
  .subst e';let#[Ab,r,pl,hz]:=Ð6 hx;have hlen:=r.length;show truthy_tuple pl Á1
  .subst e';obtain⟨hz,hS,vs,r,m⟩:Aa.length<=ù/\(p == sysModules)=æ/\∃ vs,KV Aa vs/\s.heap.DictOf (vw è) p vs:=I.zt p _ hx;have hlen:Aa.length=Ä7:=Paired.length r;show wpAny_truthy_dict hS m ⋯ #[H,Ŕ,by rw[Ku r];show q]
 | _=>show (show False from e).elim
def Ro À6 (he:∀ whole,isTrue a é whole=(do let v <- whole;standAt a.pos;holding [v] (truthy v))):
  PT X a (fun σ H Q=>ta î λ x H'=>∃ k,bC X.K x H' k/\Q k H'):=by
 ext Í;show isTrue_plain (zD Ë6 λ v s1 Ç=>Tr â x v Q I1 r1 q1) (he _)
def vals1 {x:V}ķ(r:Vals [x] us):∃ u,us=[u]/\É2:=by
 cases r with
 | cons r1 r2=>cases r2;show#[_,rfl,r1]
def vals2 {x y:V}ķ(r:Vals [x,y] us):∃ u w',us=[u,w']/\É2/\RelV y w':=by
 cases r with
 | cons r1 r2=>
  cases r2 with
  | cons r3 r4=>cases r4;show#[_,_,rfl,r1,r3]
def HW:yL X (ū "abs") (λ xs H Q=>∃ i,xs=[ó i]/\Q (ó (if i<0 then -i else i)) H):=by
 ext Ã4;let#[i,rfl,q]:=h;let#[u,rfl,t,rfl]:=vals1 r;show call_abs_int λ u tk=>#[ó (if i<0 then -i else i),H,Ŕ,Ĕ,q]
def HJ (hc:Ū):yL X (ū "max") (λ xs H Q=>∃ i j,xs=[ó i,ó j]/\Q (ó (if j>i then j else i)) H):=by
 ext ć;exact max_two_ints ŕ Ä8;by_cases hj:j>i
 .rw[Ĥ hj,Ĥ hj];show Ĕ
 .rw[ċ hj,ċ hj];show Ĕ
def HI (hc:Ū):yL X (ū "min") (λ xs H Q=>∃ i j,xs=[ó i,ó j]/\Q (ó (if j<i then j else i)) H):=by
 ext ć;exact min_two_ints ŕ Ä8;by_cases hj:j<i
 .rw[Ĥ hj,Ĥ hj];show Ĕ
 .rw[ċ hj,ċ hj];show Ĕ
def HR:yL X (Ë1 "int") (λ xs H Q=>(∃ i,xs=[ó i]/\Q (ó i) H)\/∃ k,xs=[.bl k]/\Q (ó (if k then 1 else 0)) H):=by
 ext Ã4;rcases h with ⟨i,rfl,q⟩ | ⟨k,rfl,q⟩
 .let#[u,rfl,t,rfl]:=vals1 r;show call_int_int #[ó i,H,I,Ĕ,q]
 .let#[u,rfl,r1]:=vals1 r;cases r1;show call_int_bool #[ó (if k then 1 else 0),H,Ŕ,Ĕ,q]
end
structure o6 ŭ (x dx C:Addr) (mA:Aq):Prop where
 obj:ø x=↑(Ē C dx)
 ns:h.Ns1 dx mA
 ne:dx≠x
def LD Å9{dx:Addr}{mA:Aq}(n:h.Ns1 dx mA):∃ od,ø dx=↑od/\Â8:=by
 let#[o,es,ep,ho,hd,hk,_,hm]:=n;exact#[o,ho,λ name=>?_];have e:=hm name;unfold nsFind findBy at e;rw[<- Array.find?_toList] at e;unfold PySem.W.lookIn;rw[hd];dsimp only;split
 .rename_i y q;rw[q] at e;show congrArg some e
 .rename_i q;rw[q] at e;have a:es.toList.any (·.refKey)=æ:=by
   rw[Ep];intro y hy;let#[z,t,EJ]:=hk y (Array.mem_toList_iff.mp hy);simp[DictEntry.refKey,EJ]
  have a':¬ es.toList.any (·.refKey)=true:=by rw[a];show B3
  rw[ċ a'];show congrArg some e
def o6.look Å9{x dx C:Addr}{mA:Aq}(I:o6 h x dx C mA):∃ od,PySem.W.InstAt h x (Ē C dx) C ↑od/\Â8:=
 let #[od,ho,hl]:=LD I.ns
 #[od,#[I.obj,rfl,rfl,ho],hl]
section
variable {prog:Ð2}{w:World}{û}{Ç2}{À3}{Í5}{x dx C f:Addr}{mA:Aq}{name:Str}{v:É}
def get_map {expr:Bool}{Q:Aj}Ł (hh:ſ)
  (ha:č Å2 name=↑none) (hv:mA name=↑v) (hv':PySem.W.handedIn v=true) (h:Q v { s with toks:=Ţ+1 }):
  Ø ö (getAttr (Ü x) name expr) ţ:=by
 ext Ç4;show PySem.W.get_value X J (Ã5).1 (PySem.W.findObj_own hh ha rfl (by rw[hl,hv])) hv' h
def JI Ê2 Ł
  (hf:č Å2 name=↑↑ ł) (ht:Ã6) (hv:mA name=none) (h:Q (Ü f,[Ü x]) s):
  Ø ö (getMethod (Ü x) name pl) ţ:=by
 ext Ç4;show PySem.W.method_fn X J (Ã5).1 (Ã5).2 hf (beq_iff_eq.mp ht) (by change (PySem.W.lookIn name od).map (·.isSome)=↑ æ;rw[hl,hv];rfl) h
def S7 {ns:Ĩ}Å1 Ì7
  (hs:ő) (hp:PySem.W.plainOver K C=true) (ht:Ñ0 K C name=↑none) (hh:ſ)
  (hw:PySem.Within mA ns) (hsz:ns.length<=ù)
  (h:∀ h',o6 h' x dx C (λ y=>if y=name then ↑v else mA y)->Heap.SameBut dx þ h'->Q Ð5 { s with heap:=h',toks:=Ţ+2 }):
  Ø ö (setAttr (Ü x) name v) ţ:=by
 ext Ç4;exact PySem.W.set_plain X J hs (PySem.W.osa_open (s:={ s with toks:=Ţ+1 }) (r:=none) X J hp ht λ b=>?_);let#[cd,hc,hd']:=PySem.W.any_some hh;have hx:ì x=↑#[Ü C,↑dx,.plain,Å5]:=I.obj;exact gV (Ae (gV (gV (wpAny_loadPart hx (gV (PySem.W.Looks.here (s:={ s with toks:=Ţ+1 }) (PySem.W.looks_clsIn X hc) ?_))))));rw[hd'];exact Ae (a:=↑dx) (gV (Ae (gV ?_)));exact wpAny_nsSet1 (s:={ s with toks:=Ţ+1 }) I.ns λ h' hn2 hs2=>?_;let#[oD,esD,epD,hoD,hdD,hcD]:=hn2.count (PySem.Within.cons name v hw);exact gV (wpAny_lookBehind hoD (by rw[hdD];show pastItsLine_dict (Br hcD (by rw[A1];lia))) ?_);show Ae (h _ #[(hs2.2 _ (Ne.symm I.ne)).trans I.obj,hn2,I.ne] hs2)
def L6 {R:Result->Ļ}{vs:Ai}{kw:Ĵ}(X:K.In þ) (hm:PySem.W.makesIn K C=true)
  (hi:č Å2 "__init__"=↑↑ ł) (hf:PySem.W.typeIn K ł=↑(Ë1 "function"))
  (h:codeAny (model prog w) (A.under (ū "type.__call__" #[Ü C::vs,kw])) (.call ł #[Ü Ŗ::vs,kw]) (PySem.W.InitBack Ŗ R)
   { s with heap:=È1 }):
  codeAny ö (.call (Ü C) #[vs,kw]) R s:=by
 let#[hh,g,d,t,os]:=s;show PySem.W.make_core (PySem.W.makes_of X hm) (PySem.W.looks_findIn X hi) (λ self=>PySem.W.bind_fn X self hf) Ï0 h
end
def w9 Ò5 (v:V):Ĝ->Ĝ
 | []=>[(f,v)]
 | (g,x)::r=>if g=f then (g,v)::r else (g,x)::w9 f v r
theorem Y5 (f g:Str) (v:V):∀ fs:Ĝ,(w9 f v fs).lookup g=if g=f then ↑v else Ñ1 g
 | []=>by
  change Ŭ g [(f,v)]=_;by_cases h:g=f
  .have hb:(g == f)=true:=Î3;simp![Ŭ,hb,Ĥ h]
  .have hb:(g == f)=æ:=Ň h;simp![Ŭ,hb,ċ h]
 | (k,x)::r=>by
  have ih:=Y5 f g v r;ext Ú
  .rw[Ĥ hk];by_cases h:g=k
   .have hb:(g == k)=true:=Î3;simp![Ŭ,hb,Ĥ (h.trans hk)]
   .have hb:(g == k)=æ:=Ň h;simp![Ŭ,hb,ċ (λ e:g=f=>h (e.trans hk.symm))]
  .rw[ċ hk];by_cases h:g=k
   .have hb:(g == k)=true:=Î3;simp![Ŭ,hb,ċ (λ e:g=f=>hk (h.symm.trans e))]
   .have hb:(g == k)=æ:=Ň h;simp![Ŭ,hb];show ih
theorem dD Ò5 (v:V):∀ fs:Ĝ,f∈(w9 f v fs).map (·.1)/\∀ g,g∈ É3->g∈(w9 f v fs).map (·.1)
 | []=>#[by simp[w9],λ g h=>Ñ2]
 | (k,x)::r=>by
  let#[i1,i2]:=dD f v r;ext Ú
  .rw[Ĥ hk];subst hk;show#[#[],λ g h=>by exists h]
  .rw[ċ hk];exact#[?_,λ g h=>?_]
   .rw[Az];show Ay _ i1
   .rw[Az] at h ⊢;rcases Am.mp h with e | e
    .show Am.mpr (ŏ e)
    .show Ay _ (i2 g e)
theorem YA Ò5 (v:V):∀ fs:Ĝ,(w9 f v fs).length<=Ð0+1
 | []=>by simp[w9]
 | (k,x)::r=>by
  have ih:=YA f v r;ext Ú
  .rw[Ĥ hk,A1,A1];lia
  .rw[ċ hk,A1,A1];lia
def wY.some_of {v:V}{o:Ý É}(r:wY ↑v o):∃ u,o=↑u/\Ę:=by
 cases o with
 | none=>show (show False from r).elim
 | some u=>show#[u,rfl,r]
def wY.none_of {o:Ý É}(r:wY none o):o=none:=by
 cases o with
 | none=>rfl
 | some u=>show (show False from r).elim
def KO {v:V}Ų(r:Ę):PySem.W.handedIn u=true:=by
 cases v with
 | zj=>cases (show u=Value.none from r);rfl
 | bl b=>cases (show u=Value.bool b from r);rfl
 | int i=>let#[t,e]:=(show ∃ t,u=Value.int i t from r);cases e;rfl
 | str x=>let#[t,e]:=(show ∃ t,u=Value.str x t from r);cases e;rfl
 | kI b=>let#[t,e]:=(show ∃ t,u=Value.bytes b t from r);cases e;rfl
 | c7 b=>let#[t,e]:=(show ∃ t,u=Value.float b t from r);cases e;rfl
 | ref a=>cases (show u=ş a from r);rfl
 | ty n=>cases (show u=Value.type n from r);rfl
section
variable {Õ}{Ō}{Å9}{a C dx:Addr}{fs:Ĝ}
def nI (zt:yq Ŷ) (e:H a=↑ İ):∃ mA,o6 h a dx C mA/\(Ű)/\PySem.Within mA (É3)/\Ð0<=1000/\H dx=↑(.own a):=by
 let#[d,z,ne,ob,mA,n,r,q]:=(show xa Ŷ a İ from zt a _ e)
 show#[mA,#[ob,n,ne],r,q,z,d]
end
structure vU ĳ Ï6:Prop where
 pg:Î4 K C Str.empty=true
 hd:ſ
 po:PySem.W.plainOver K C=true
 sa:ő
def vU.get Í5{C:Addr}(c:vU K C) Ò5:Î4 K C f=true:=c.pg
def o7 ĳ Ï6 Ò5:Prop:=č Å2 f=↑none
def o7.taker Í5{C:Addr}{f:Str}(n:o7 K C f):Ñ0 K C f=↑none:=by
 unfold Ñ0;rw[show č Å2 f=↑none from n];rfl
structure Meth ĳ Ï6 (m:Str) (f:Addr):Prop where
 at_:č Å2 m=↑↑ ł
 fn:Ã6
 kp:PySem.W.keepIn K ł=true
section
variable {Ğ}{Ì}{a C dx:Addr}{fs:Ĝ}{f:Str}{v:V}{û}{Ç2}
def JH {b:Bool}{Q:Aj}Ù À9 (n:o7 X.K C f) (l:Ñ1 f=↑v)
  (h:∀ u s',Inv Î H s'->Ę->Q u s'):Ø (model è) A (getAttr (Ü a) f b) ţ:=by
 ext Ê9;let#[u,hu,ru]:=wY.some_of (v:=v) (o:=mA f) (by rw[<- l];show r f);show get_map I.yB O (c.get f) c.hd n hu (KO ru) (h u _ (Ŕ) ru)
def il {m:Str}{g:Addr}Ê2 Ù À9 (k:Meth X.K C m g) (l:Ñ1 m=none)
  (h:Q (Ü g,[Ü a]) s):Ø (model è) A (getMethod (Ü a) m pl) ţ:=by
 ext Ê9;have hn:mA m=none:=wY.none_of (by rw[<- l];show r m);show JI I.yB O (c.get m) k.at_ k.fn hn h
def Sz {y:V}Ų Å1 Ù À9 (n:o7 X.K C f) (hl:Ð0<1000) (ry:RelV y u)
  (h:∀ s',Inv Î (upd H a (.ins C dx (w9 f y fs))) s'->Q Ð5 s'):Ø (model è) A (setAttr (Ü a) f u) ţ:=by
 let#[mA,O,r,wi,_,ho]:=nI I.zt e;have hz:(É3).length<=ù:=by rw[AM,sizeLine_eq];lia
 exact S7 I.yB O c.sa c.po n.taker c.hd wi hz λ h' O' sb=>h _ ?_;have hd:∃ o,Ė dx=↑o:=let #[o,_,_,e',_]:=O'.ns;#[o,e']
 exact I.write (x:=a) (e:=dx) (by rw[e];show True.intro) (.inr ho) (λ b q hb z=>(sb.2 b hb).trans z) hd ?_;exact#[by rw[zP O.ne];show ho,?_,O.ne,O'.obj,_,O'.ns,λ g=>?_,λ g hg=>?_]
 .have:=YA f y fs;lia
 .change wY ((w9 f y fs).lookup g) (if g=f then ↑u else mA g);rw[Y5];by_cases q:g=f
  .rw[Ĥ q,Ĥ q];show ry
  .rw[ċ q,ċ q];show r g
 .by_cases q:g=f
  .rw[q];show (dD f y fs).1
  .exact (dD f y fs).2 g (wi g λ z=>hg ?_);change (if g=f then ↑u else mA g)=none;rw[ċ q];show z
def Inv.made Ù:Inv Î (upd (upd H Á (.own Ŗ)) Ŗ (.ins C Á []))
  { s with heap:=È1 }:=by
 have e1:(ß).get? Á=↑ Ë9:=AJ þ rfl;have e2:(È1).get? Ŗ=↑(Ē C Á):=by
  have:=AJ (ß) (o:=Ē C Á) rfl
  rwa [Heap.size_push] at this
 have e3:(ß).Ns Á (λ _=>none):=#[Ë9,Å5,_,e1,rfl,(λ e he=>Œ he #[]),λ _=>rfl];have I1:=I.laid (a:=Á) (o:=.own Ŗ) (h':=ß) (t':=Ţ) (λ b u q=>tp _ q) É6 #[_,e1];exact I1.laid (a:=Á+1) (o:=.ins C Á []) (t':=Ţ) (λ b u q=>tp _ q) (Nat.le_of_eq (Heap.size_push Ĺ)) ?_;have ne:Á ≠ Á+1:=AF (B5 _);exact#[by rw[zP ne,yy],AZ _,ne,e2,λ _=>none,(Heap.Ns1.of_empty e3).at λ o q=>tp _ q,λ _=>True.intro,λ y hy=>Œ rfl hy]
def Gr {prog:Ð2}{w:World}{env:Env}À2{f:Str}ē À3{Q:Aj}(hb:attributeBase e f env (eval e env)=eval e env)
  (h:Ø ö (eval e env) (λ o s₁=>Ø ö (getAttr o f true) Q E s₁) E s):Ø ö (eval (.Attribute e f pos) env) ţ:=
 Attribute_any_ h (by rw[arm_eval_Attribute,hb])
end
def TL ĳ (ta:TE) Ò5:TE:=fun σ H Q=>ta î λ x H1=>∃ a C dx fs v,x=Ü a/\H1 a=↑ İ/\vU K C/\o7 K C f/\Ñ1 f=↑v/\Q v H1
def SF ĳ (ta tv:TE) Ò5:TS:=λ D σ H=>tv î λ y H1=>ta ů λ x H2=>∃ a C dx fs,x=Ü a/\H2 a=↑ İ/\vU K C/\o7 K C f/\Ð0<1000/\
 D.nx σ (upd H2 a (.ins C dx (w9 f y fs)))
section
variable {Ğ}{o e value:Expr}{f:Str}{pos pos':Pos}{ta tv:TE}
def Ql (he:PE X e ta) (hb:attributeBase e f é (É4)=É4):PE X (.Attribute e f pos) (TL X.K ta f):=by
 ext Í;exact Gr hb (zD (he Å) λ u s1 #[x,H1,I1,rx,a,C,dx,fs,v,ex,ea,c,n,l,q]=>?_);subst ex;obtain rfl:u=ş a:=rx;show JH I1 ea c n l λ u' s2 I2 ru=>#[v,H1,I2,ru,q]
def Rz (ha:PE X o ta) (hv:PE X value tv) (hs:swapsWith value ↑(.Attribute o f pos') pos.line é=pure æ):PS X (.Assign [.Attribute o f pos'] value pos) (SF X.K ta tv f):=by
 ext ô;exact plainObj_wpAny_Assign_Attribute (zD (hv Å) λ u s1 #[y,H1,I1,ry,q]=>zD (ha â _ I1 q) λ ov s2 #[x,H2,I2,rx,a,C,dx,fs,ex,ea,c,n,l,q2]=>?_) hs;subst ex;obtain rfl:ov=ş a:=rx;show Sz I2 ea c n l ry λ s3 I3=>#[σ,_,I3,q2]
end
structure ya (k:Nat) (A:Around):Prop where
 hd:A.handled=none
 dp:A.depth+3*k+5<recursionLimit
 un:A.units+16*k+200<cLine
def ya.mono {j k:Nat}û(r:ya k A) (h:j<=k):ya j A:=#[r.hd,by have:=r.dp;lia,by have:=r.un;lia]
theorem ya.deeper Î0 û(r:ya (k+1) A) (env:Env):ya k (A.deeper env):=
 #[r.hd,by have:=r.dp;change A.depth+1+3*k+5<_;lia,by have:=r.un;change A.units+3+16*k+200<_;lia]
def L7 û{C:Addr}ķ{kw:Ĵ}:(ê).depth=A.depth+1:=by
 first | rfl | simp[Around.under,Code.weight,Code.isCreation,Code.isGuard,Code.isCaller,Code.frames,Code.isFrame,guardIds]
def L1 û{C:Addr}ķ{kw:Ĵ}:(ê).units=A.units+1:=by
 first | rfl | simp[Around.under,Code.cUnits,Code.frames,Code.isFrame]
def ya.make Î0 û(r:ya (k+1) A) Ï6 Ì6 (kw:Ĵ):ya k (ê):=
 #[r.hd,by have:=r.dp;rw[L7];lia,by have:=r.un;rw[L1];lia]
theorem ya.depth Î0 û(r:ya k A):A.depth<recursionLimit:=by have:=r.dp;lia
theorem ya.units Î0 û(r:ya k A):A.units+64<cLine:=by have:=r.un;lia
def fH:TA:=λ _ H Q=>Q [] H
def fK (ta:TE) (tr:TA):TA:=fun σ H Q=>ta î λ x H1=>tr ů λ xs H2=>Q (x::xs) H2
section
variable {Ğ}{À2}{es:ŉ}{te:TE}{t:TA}{ē}
def p8:PA X [] fH:=λ _ _ _ _ H Q I h=>Calls.spliced_nil #[[],H,I,.nil,h]
def rl (ha:PE X e te) (hr:PA X es t) (hs:AE X e es:=by rfl):PA X (e::es) (fK te t):=by
 intro pos EW s σ H Q I h;rw[hs];change Ø Ĺ (spliced ((æ,É4)::backTo pos (Æ8))) Ĺ s;exact Calls.spliced_cons (zD Ë6 λ u s1 Ç=>?_);show zD (hr pos É1) λ us s2 #[xs,H2,I2,r2,q2]=>#[x::xs,H2,I2,Ũ r1 r2,q2]
def Tw (t:TA):TE:=fun σ H Q=>t î λ xs H1=>Ó<=ù/\∀ p,H1 p=none->Q (Ü p) (upd H1 p Ä1)
def TF (t:TA):TE:=fun σ H Q=>t î λ xs H1=>Ó<=ù/\∀ p,H1 p=none->Q (Ü p) (upd H1 p (.lst xs))
def RZ {x1} (h:PA X es t):PE X (.Tuple es x1 pos) (Tw t):=by
 intro EW s σ H Q I hq;exact wpAny_Tuple_spliced Ď;have hf:H1 ĩ=none:=Ð7;exact#[Ü ĩ,upd H1 ĩ Ä1,À8,rfl,q _ hf];show#[#[z,.new _],us,r,#[_,AJ _ rfl,rfl,_,rfl]]
def Qg (h:PA X es t):PE X (.List es pos) (TF t):=by
 intro EW s σ H Q I hq;exact wpAny_List_spliced Ď;have hf:H1 ĩ=none:=Ð7;exact#[Ü ĩ,upd H1 ĩ (.lst xs),À8,rfl,q _ hf];show#[z,us,0,r,AJ _ rfl]
end
abbrev Sp:=å->Hp->VK->XK->Prop
abbrev uK:=ũ->Hp->Ð->XK->É->Ļ
structure oK Ā ĳ ŷ Ą:Prop where
 frames:A.frames=↑ đ
 mod:Mod K mg base
 bs:∀ b o,base.get? b=↑o->Š/\Č
 sL:base.objs.size<=Á
 ug:Ã1 base đ
 rJ:∀ b∈yY đ,Č
 zt:yq P w H þ
 bare:AllBare s.gens
def CE (đ:ũ) Ā Ņ (s:Ð) Ç3 (u:É) Ñ9:Prop:=
 ∃ v H',s'.os=s.os/\AllBare s'.gens/\Un (yY đ) [] H H' þ s'.heap/\yq P w H' s'.heap/\Ę/\Q v H'
def CR (CX:uK) (đ:ũ) Ā Ņ (s:Ð) Ç3 (E:XK) (r:Result) Ñ9:Prop:=
 match r with
 | .ok (.ret u)=>CE đ P w H s Q u s'
 | .ok _=>False
 | .error e=>CX đ H s E e s'
structure xb Ā ĳ ŷ (CX:uK) (k:Nat) (f:Addr) (fd:FuncData) (ps:Ĩ) (sp:Sp):Prop where
 len:∀ vs H Q E,È2->Ä7=ż
 run:∀ Ą (args:Args) Ì6 (vs:å) Ç3 (E:XK),ya k A->oK ü Î7->BindsTo s fd args (ps.zip us)->Å6->È2->
  codeAny Â7 A (.call ł args) (CR CX đ P w H s Q E) s
def xb.imp Õ ĵ{CX:uK}Î0{f:Addr}Å3{sp sp':Sp}(F:xb ü CX k f fd ps sp)
  (h:∀ vs H Q E,sp' vs H Q E->È2):xb ü CX k f fd ps sp':=
 #[λ vs H Q E q=>F.len vs H Q E (h Ĺ Ĺ q),λ A đ s H args us vs Q E hr he hb hv hs=>F.run Î7 args us vs Q E hr he hb hv (h Ĺ Ĺ hs)]
def oK.make Õ ĵ û{đ:ũ}À3 Ō(e:oK ü Î7) Ï6 Ì6 (kw:Ĵ):
  oK ü (ê) đ s H:=#[by first | show e.frames | (simpa [Around.under,Code.envs,Code.isFrame,pushEnvs] using e.frames),e.mod,e.bs,e.sL,e.ug,e.rJ,e.zt,e.bare]
section
variable {Ğ}{Ò0}{Ò1}{Ō}{s s':Ð}
def Inv.cE Ù:oK è È6 X.A œ s H:=
 #[I.ok.frames,I.ok.mod,I.bs,Br I.ok.sL I.sz,I.stack,I.fN,I.zt,I.bare]
theorem Inv.after {Q:VK}Ų Ù (h:CE œ è H s Q u s'):EP Î Q u s':=by
 let#[v,H',os,bare,un,zt,r,q]:=h;let#[hh,g,d,t,os']:=s';obtain rfl:os'=s.os:=os;show#[v,H',I.call (h':=hh) (g':=g) (d':=d) (t':=t) (ch:=[]) un zt bare (λ b z=>Œ z #[]),r,q]
end
def aX Í7:TE:=fun σ H Q=>t î λ vs H1=>sp Ä9 H1 Q E
def TC Ï6 Í7:TE:=fun σ H Q=>t î λ vs H1=>∀ x dx,H1 x=none->H1 dx=none->dx≠x->
 sp (Ü x::Ä9) (upd (upd H1 dx (.own x)) x (.ins C dx [])) Ï3 E
def Binds ĳ (fd:FuncData) (ps:Ĩ) (ds:Ai):Prop:=
 ∀ (s:Ð) Ì6,K.In þ->(us++ds).length=ż->BindsTo s fd #[us,[]] (ps.zip (us++ds))
def Binds.all Í5 Å3(h:∀ us:List É,us.length=ż->bindArgs fd #[us,[]]=pure (ps.zip us)):Binds K fd ps []:=λ s us _ hl=>by
 rw[BR] at hl ⊢;show .of_eq (h us hl)
def Passes (CX:uK) ï (E:XK):Prop:=∀ ų Ņ (s:Ð) (e:É) Ñ9,À->CX œ H s E e s'->X.xe e s'
section
variable {Ğ}{CX:uK}{Î0}{f C:Addr}{Å3}{sp:Sp}{dvs:å}{ds:Ai}{E:XK}{Ŀ}{p pos:Pos}{À2}{es:ŉ}{t:TA}
def f_ Ì{Q:VK}ķ{vs:å}ý (hr:ya k X.A) Û
  Ù (r:Å6) (h:sp Ä9 H Q E):Ø Â (call ł us) ą:=by
 have r2:Vals Ä9 (us++ds):=r.append hd;have hl:(us++ds).length=ż:=by rw[<- r2.length];show F.len Ĺ Ĺ h
 exact wpAny_call (codeAny_mono (F.run X.A œ s H #[us,[]] (us++ds) Ä9 Q E hr I.cE (hb s us I.yB hl) r2 h) λ r s' hq=>?_);cases r with
 | error e=>show hx EW î s e s' I hq
 | ok fl=>
  cases fl with
  | ret u=>show I.after hq
  | _=>show False.elim hq
def Qr ý (hr:ya k X.A) È9 (hm:X.mg x=↑ ł) (hk:PySem.W.keepIn X.K ł=true) Û
  Ÿ Á9 ò:
  PE Ċ (aX sp dvs E t):=by
 ext Ò6;exact PySem.W.callWith_K (h₀:=X.base) I.ok.mod.pL hk Ŏ;show f_ F hr hb hd hx I1 r q
structure Mk ĳ (C f:Addr):Prop where
 makes:PySem.W.makesIn K C=true
 init:č Å2 "__init__"=↑↑ ł
 fn:Ã6
 kp:PySem.W.keepIn Å2=true
def SH Ì{Q:VK}ķ{vs:å}(M:Mk X.K C f) ý (hr:ya (k+1) X.A) Û Ù (r:Å6)
  (h:∀ x dx,H x=none->H dx=none->dx≠x->sp (Ü x::Ä9) (upd (upd H dx (.own x)) x (.ins C dx [])) Ï3 E):
  Ø Â (call (Ü C) us) ą:=by
 have hq:=h Ŗ Á (I.zt.fresh (C_ _)) (I.zt.fresh É6) (AF (B5 _));have I2:=Inv.made (C:=C) I;have r2:Vals (V.ref Ŗ::Ä9) (ş Ŗ::(us++ds)):=Ũ rfl (r.append hd);have hl:(ş Ŗ::us++ds).length=ż:=by
  have e:=r2.length;rw[F.len Ĺ Ĺ hq] at e;show e.symm
 exact wpAny_call (L6 (f:=f) I.yB M.makes M.init (beq_iff_eq.mp M.fn) (codeAny_mono (F.run _ œ Ĺ #[ş Ŗ::us,[]] (ş Ŗ::(us++ds)) Ĺ E (hr.make C us [])
  (I2.cE.make C us []) (hb _ (ş Ŗ::us) I2.yB hl) r2 hq) λ r s' hq'=>?_))
 cases r with
 | error e=>show hx EW σ Ĺ e s' I2 hq'
 | ok fl=>
  cases fl with
  | ret u=>
   let#[v,H',I3,rv,ev,q3]:=I2.after hq';subst ev;show#[rv,#[V.ref Ŗ,H',I3,rfl,q3]]
  | _=>show False.elim hq'
def Qf (M:Mk X.K C f) ý (hr:ya (k+1) X.A) È9 (hm:X.mg x=↑(Ü C)) Û
  Ÿ Á9 ò:
  PE Ċ (TC C sp dvs E t):=by
 ext Ò6;exact PySem.W.callWith_K (h₀:=X.base) I.ok.mod.pL M.kp Ŏ;show SH M F hr hb hd hx I1 r q
end
structure we (N P:Ĩ) (sc:Scope):Prop where
 kind:sc.kind=.function
 co:sc.isCoroutine=æ
 gen:sc.isGenerator=æ
 nd:N.Nodup
 pre:N.take P.length=P
 par:∀ x∈P,Ć=↑.local\/Ð3
 M_:∀ y∈sc.names,y.2≠.free
theorem WR ď:∀ {binds:Ĵ}{m:Aq},(∀ v,(x,v)∉binds)->bindL kindOf binds m x=m x
 | [],_,_=>rfl
 | (n,v)::r,m,h=>by
  unfold bindL;rw[WR λ w hw=>h w (Ay _ hw)];split
  .ext Î8
   simp[this]
  .rfl
theorem WU ď:∀ {binds:Ĵ}{m:Aq},(∀ v,(x,v)∉binds)->bindC kindOf binds m x=m x
 | [],_,_=>rfl
 | (n,v)::r,m,h=>by
  unfold bindC;rw[WU λ w hw=>h w (Ay _ hw)];split
  .rfl
  .ext Î8
   simp[this]
theorem WT ď{v:É}:∀ {P:Ĩ}{vs:Ai}Ì4{m:Aq},P.Nodup->P[i]?=↑x->vs[i]?=↑v->kindOf x=↑.local->
  bindL kindOf (P.zip vs) m x=↑v
 | [],_,_,_,_,h,_,_=>Ñ2
 | _::_,[],_,_,_,_,h,_=>Ñ2
 | p::P,w::vs,0,m,nd,h1,h2,hk=>by
  simp at h1 h2;subst h1;subst h2;change bindL ī p=_;unfold bindL;rw[WR Í3,Ĥ hk];simp
 | p::P,w::vs,i+1,m,nd,h1,h2,hk=>by
  change bindL ī x=_;unfold bindL;show WT Â3
theorem WV ď{v:É}:∀ {P:Ĩ}{vs:Ai}Ì4{m:Aq},P.Nodup->P[i]?=↑x->vs[i]?=↑v->kindOf x≠↑.local->
  bindC kindOf (P.zip vs) m x=↑v
 | [],_,_,_,_,h,_,_=>Ñ2
 | _::_,[],_,_,_,_,h,_=>Ñ2
 | p::P,w::vs,0,m,nd,h1,h2,hk=>by
  simp at h1 h2;subst h1;subst h2;change bindC ī p=_;unfold bindC;rw[WU Í3,ċ hk];simp
 | p::P,w::vs,i+1,m,nd,h1,h2,hk=>by
  change bindC ī x=_;unfold bindC;show WV Â3
def start (N:Ĩ) (vs:å):St:=vs.map some++List.replicate (N.length-Ä7) none
def xg (CX:uK) Ā ĳ ŷ (N:Ĩ) (qual:Str) (scope:Scope) (f:Addr) (cd:É) Ą (E:XK):Cx where
 prog:=P
 w:=w
 K:=K
 mg:=mg
 base:=base
 A:=A.deeper (í)
 N:=N
 s₀:=s
 H₀:=H
 env:=í
 đ:=đ
 stack:=í::đ
 ex:=[]
 calm:=true
 fn:=λ _=>true
 pn:=[]
 xe:=λ e s'=>Ø Â7 (A.deeper (í)) (leaving (í) e) (λ _ s''=>CX đ H s E e s'') (λ e' s''=>CX đ H s E e' s'') s'
def W9 {sc:Scope}{n:Nat}Ŀ(h:Ð3):∃ c,(cellsFrom n sc.names []).lookup x=↑c:=by
 have q:=PySem.W.cellsFrom_some sc.names n [] (ŏ h);show DT.mp q
def Kz {CX:uK}Õ ĵ{N ps:Ĩ}{qual:Str}{scope:Scope}{f:Addr}{cd:É}û{đ:ũ}{s s1:Ð}Ō{E:XK}ķ{vs:å}
  (S:we N ps scope) (hd:A.handled=none) (e0:oK ü Î7) (hl:Ä7=ż) (r:Å6)
  (x:InCallC s Á (bindL Î9) (Ñ3) (bindC Î9) s1):
  Inv (Æ3) [] Ë0 s1:=by
 have Ao:ż<=N.length:=by have:=congrArg List.length S.pre;rw[C9] at this;lia
 let#[h1,tk,rfl,hk]:=x.done;have noA:∀ b:Addr,b∉(Æ3).ex:=λ b z=>Œ (show b∈([]:Đ) from z) #[];exact#[#[e0.mod,S.kind,rfl,rfl,An _,λ y z c h1 h2=>?_,λ y hy=>?_,λ y c _ h=>?_,λ _=>hd,Around.frames_deeper e0.frames,.inr #[rfl,rfl],λ b z=>Œ z (noA b),e0.bs,e0.sL,λ b _ _=>noA b,λ b z=>Œ z (noA b),e0.ug,e0.rJ],
  rfl,e0.bare,Un.kept hk,#[_,x.toInCall.ns,λ i y v h1 h2 h3=>?_],λ y c h=>#[_,x.cell y c h],e0.zt.fresh É6,λ y c h=>?_,λ p hp=>Œ (show p∈([]:Ak) from hp) #[],e0.zt.kept hk,?_]
 .show name_of_addr x.apart (ĺ h1) (ĺ h2)
 .have hy:ń y=↑.cell\/ń y=↑.free:=hy;rcases hy with hy | hy
  .show W9 hy
  .show Œ rfl (S.M_ _ (ĺ hy))
 .show BE (x.above y c (ĺ h))
 .have hi:i<Ä7:=by
   unfold start at h2;by_cases hi:i<Ä7
   .show hi
   .rw[Cr (by exists hi)] at h2;rw[CP] at h2;split at h2 <;> cases h2
  have ha:vs[i]?=↑v:=by
   unfold start at h2;rw[Cq (by exists hi),AG] at h2;cases e:vs[i]? with
   | none=>rw[e] at h2;cases h2
   | some a=>rw[e] at h2;cases h2;rfl
  let#[u,hu,rv]:=r.get ha;have hp:ps[i]?=↑y:=by
   rw[<- S.pre,List.getElem?_take_of_lt ⋯];show h1
  have ndP:ps.Nodup:=by rw[<- S.pre];show S.nd.sublist (List.take_sublist Ĺ)
  exact#[u,rv,?_];rcases S.par y (AW hp) with k | k
  .show ŏ #[k,WT ndP hp hu k]
  .let#[c,e]:=W9 (n:=Á+1) k;exact .inr #[ŏ k,c,e,?_];have q:=x.cell y c e;rw[WV ndP hp hu (by change ń y≠_;rw[k];decide)] at q;show q
 .show e0.zt.fresh (BE (x.above y c (ĺ h)))
 .unfold start;change _=N.length;rw[BO,AM,List.length_replicate];lia
def Xy {CX:uK}Õ ĵ Î0{f:Addr}{name qual:Str}{params:Arguments}{body:Ä2}{scope:Scope}{dV kV doc pm Af ct oc:É}{an od:Ý Addr}
  {osl:Array (Ý É)}{N ps:Ĩ}{sp:Sp}(lk:K.lookup f=↑#[oc,od,.func Ő,osl]) (Bz:PySem.W.codeIn K Af qual=true) (S:we N ps scope)
  (len:∀ vs H Q E,È2->Ä7=ż)
  (EY:∀ Ą (vs:å) Ç3 (E:XK),ya k (A.deeper (envOfC qual scope Á f Af))->È2->
   ∃ t,wH Ī body t/\t { nx:=λ _ H'=>Q .zj H',rt:=Q } Ë0):
  xb ü CX (k+1) f Ő ps sp:=by
 exact#[len,λ A đ s H args us vs Q E hr e0 hb r B7=>?_];have hl:=len Ĺ Ĺ B7;have KX:K.In þ:=e0.mod.pL.keeps λ b o e=>(e0.bs ĉ).1;have lim:s.heap.NoLimit:=e0.mod.nolimit.keeps λ b o e=>(e0.bs ĉ).1;have hkind:∀ y∈ps.zip us,ń y.1=↑.local\/(ń y.1=↑.cell/\((Ñ3).lookup y.1).isSome=true):=λ#[n,v] hy=>by
  rcases S.par n (DU hy).1 with q | q
  .show ŏ q
  .show .inr #[q,PySem.W.cellsFrom_some Ĺ _ (ŏ q)]
 exact codeAny_call_function hr.depth (KX Ĺ lk) rfl S.co S.gen rfl (PySem.W.codeRec_of KX Bz) (hb Ĺ Ĺ ?_);exact wpAny_newFunctionEnv_cells S.kind hkind λ env he s1 x=>?_;subst he;exact#[lim.keeps x.toInCall.keep,codeAny_func ?_];let#[t,ht,hq]:=EY Î7 vs Q E (hr.deeper _) B7;have I:Inv Ī [] Ë0 s1:=Kz S hr.hd e0 hl r x;exact za4 (ht [] s1 Ë0 _ I hq) (λ fl s' hs=>?_) λ e s' hs=>hs;have fin:∀ {σ':St}{H':Hp}{v:V}Ų,Inv Ī [] Ř s'->Ę->Q v H'->CE đ P w H s Q u s':=
  λ{σ' H' v u} J rv q=>#[v,H',J.os,J.bare,J.base,J.zt,rv,q]
 cases fl with
 | ret u=>
  let#[v,σ',H',J,rv,q]:=hs;show fin J rv q
 | next=>
  let#[σ',H',J,q]:=hs;show fin (v:=V.zj) (u:=Value.none) J rfl q
 | brk=>
  ext Ê3
 | cont=>
  ext Ê3
section
variable {Ğ}{Ŀ}{p pos:Pos}{À2}{es:ŉ}{t:TA}{id T:String}{r:å->ñ}
def jo (r:å->ñ) (t:TA):TE:=fun σ H Q=>t î λ vs H1=>r vs H1 Q
def uQ (hc:yL X (ū id) r) Ģ (hv:ž=↑(ū id)) Ÿ ě Á9
  ò:PE Ċ (jo r t):=by
 ext Ê5;show PyProof.Rows.callWith_builtin1 Ĭ
def nv (hc:yL X (Ë1 T) r) Ģ (hv:ž=↑(Ë1 T)) Ÿ ě Á9
  ò:PE Ċ (jo r t):=by
 ext Ê5;show Ð8 Ĭ
end
end L2
namespace HT
open PySem PyProof.Rows
def lexLt:List Int->List Int->Bool
 | [],[]=>æ
 | [],_::_=>true
 | _::_,[]=>æ
 | x::xs,y::ys=>Ê7
def pH (x y:Int) (xs ys:List Int):lexLt (x::xs) (y::ys)=Ê7:=rfl
section
variable {prog:Ð2}{w:World}{û}{Ç2}{À3}
def yo (n d:Nat):Ħ->Nat
 | none=>d
 | some v=>Ě
def SE (n d:Nat) (hd:d<=n) (o:Ħ):yo n d o<=n:=by
 cases o with
 | none=>show hd
 | some v=>
  change (Ě)<=n;by_cases hv:v<0
  .rw[Ĥ hv];lia
  .rw[ċ hv];show Nat.min_le_right Ĺ
def Wz (v:Int) (n d:Nat):È3=((yo n d ↑v:Nat):Int):=by
 change È3=(((Ě):Nat):Int)
 by_cases hv:v<0
 .simp![Ĥ hv];lia
 .simp![ċ hv];lia
theorem GB (lo hi:Ħ) Ì8:Á2 lo hi 1 ŧ=(Ş,((yo n n hi:Nat):Int)):=by
 have h1:¬ ((1:Int)<0):=⋯;unfold Á2;simp![h1,if_false];exact Prod.ext ?_ ?_
 .cases lo with
  | none=>rfl
  | some v=>show Wz v n 0
 .cases hi with
  | none=>rfl
  | some v=>show Wz v n n
theorem R8 (i j:Nat):ĸ (i:Int) (j:Int) 1=j-i:=by
 unfold ĸ;have h1:(1:Int)>0:=⋯;simp![h1,if_true,Int.ediv_one];split <;> lia
def Ze {v:É}{o:Ħ}{Q:Ħ->Ļ}(p:IsPart v o) (h:Q o s):Ø ö (Builtin.Slice.slicePartIndex v) ţ:=by
 cases p with
 | none=>show slicePart_none h
 | int i t=>show slicePart_int h
def Sq {sl:Addr}{vl vu:É}{lo hi:Ħ}{n:Nat}{Q:Int×Int×Nat->Ļ}ŀ
  (h:Q (Ş,1,yo n n hi-yo n 0 lo) s):Ø ö (Builtin.Slice.sliceApplied (Ü sl) (pure ŧ)) ţ:=by
 let#[os,Dj,hcs,D_]:=id hs;unfold Builtin.Slice.sliceApplied Builtin.Slice.sliceFields;exact gV (gV (za5 Dj D_ (x:=vl) rfl (gV (za5 Dj D_ (x:=vu) rfl (gV (za5 Dj D_ (x:=.none) rfl (Ae ?_)))))));exact gV (slicePart_none ?_);change Ø Ĺ (if ((1:Int) == 0)=true then _ else _) Ĺ s;rw[ċ ()];exact gV (Ze pl (gV (Ze pu (gV (Ae ?_)))));change Ø Ĺ (match Á2 lo hi 1 ŧ with | (lo,hi)=>pure (lo,(1:Int),ĸ lo hi 1)) Ĺ s;rw[GB lo hi n];change Ø Ĺ (pure (Ş,(1:Int),ĸ Ş ((yo n n hi:Nat):Int) 1)) Ĺ s;rw[R8];show Ae h
theorem RC (xs:AB) (i k:Nat):((List.range k).filterMap λ(m:Nat)=>xs[Á3]?).toArray=((xs.toList.drop i).take k).toArray:=by
 have e:(λ(m:Nat)=>xs[Á3]?)=λ m=>xs[i+m]?:=by
  funext m;have:Á3=i+m:=⋯;rw[this]
 rw[e];have:=pick_run xs i k;rw[List.filterMap_map] at this;have e2:((λ x=>xs[x]?) ∘ λ x=>i+x)=λ m=>xs[i+m]?:=rfl;rw[e2] at this;rw[this]
def JJ {t sl:Addr}{items:AB}{vl vu:É}{lo hi:Ħ}{Q:Aj}(ht:IsTup þ t items) ŀ
  (hw:¬ (À0=0/\È4=Ê))
  (h:Q (Ü Á) { s with heap:=s.heap.push { cls:=Ë1 "tuple",data:=.seq (ú).toArray } })
  (hsz:Ê<=ù):Ø ö (getItem (Ü t) (Ü sl)) ţ:=by
 have htake:sizeOk (.seq (ú).toArray):=by
  change (ú).toArray.size<=ù;rw[AK,C9,Eo,BG];lia
 have hj:È4<=Ê:=SE Ĺ É6 hi;let#[os,Dj,hcs,D_]:=id hs;have hTs:s.TypeIs (Ü sl) "slice":=#[os,Dj,hcs];unfold getItem
 try with_reducible exact za9 ?_
 first | exact gV (Ae ?_) | skip
 exact gV (wpAny_sequenceKey ht.typeIs () ?_);exact gV (zaG (name:=Str.ofString "__getitem__") ht.typeIs Ì0
  (zaC Ì0 ht.typeIs entry_tuple_getitem ?_ (args_tuple_getitem Ĺ)))
 change Ø Ĺ (Builtin.Tuple.tupleItemsOf (Ü t) >>= _) Ĺ s;exact gV (tupleItemsOf_ ht ?_);exact gV (wpAny_typeOf hTs ?_);rw[Ĥ ()];exact gV (Sq hs pl pu ?_);have hno:¬ (ı):=by
  intro q;rw[BN,BN] at q;have q1:((À0:Nat):Int)=0:=eq_of_beq q.1.1;have q2:È4-À0=Ê:=eq_of_beq q.2;show hw #[⋯,⋯]
 change Ø Ĺ (if ı then _ else _) Ĺ s;rw[ċ hno,RC]
 first
  | show gV (m:=Ĳ) (zaA ŗ htake)
  | show gV (m:=Ĳ) (zaA (gV (Ae ŗ)) htake)
  | show gV (gV (m:=Ĳ) (zaA (Ae ŗ) htake))
  | show gV (gV (m:=Ĳ) (zaA ŗ htake))
end
end HT
namespace L2
open PySem PySem.Spec PyProof.Rows
abbrev TO:=St->Hp->(Ħ->Ò)->Prop
def PO ï (e:Ý Expr) (t:TO):Prop:=
 ∀ Ã (Q:Ħ->Ò),À->t î Q->
  Ø Â (evalPart e é) (λ u s'=>∃ o H',Ź/\IsPart u o/\Q o H') È8
def T9:TO:=λ _ H Q=>Q none H
def T4 (t:TE):TO:=fun σ H Q=>t î λ x H1=>∃ i,x=ó i/\Q ↑i H1
def intsAre_of {ns:List Int}:∀ ķ,Vals (ns.map V.int) us->IntsAre us ns:=by
 induction ns with
 | nil=>intro us r;rw[BD] at r;cases r;show .nil
 | cons n ns ih=>
  intro us r;rw[Az] at r;cases r with
  | cons r1 r2=>
   let#[t,e]:=r1;subst e;show Ũ n t (ih r2)
section
variable {Ğ}{À2}{te:TE}{lo hi:Ý Expr}{tl th:TO}{pos p2:Pos}
def R6:PO X none T9:=by
 ext Í;rw[evalPart_none];show Ae #[none,H,I,.none,h]
def R5 (h:PE X e te):PO X ↑e (T4 te):=by
 intro EW s σ H Q I hw;rw[evalPart_some];exact zD (h Ľ _ I hw) λ u s1 Ç=>?_;let#[i,rfl,q]:=q1;let#[t,rfl]:=r1;show#[↑i,H1,I1,ó i t,q]
def Vq ï (r:É8):Prop:=
 ∀ Ã (x:V) (v vl vu:É) (lo hi:Ħ) (sl:Addr) Ç3,À->Ê4->Ì1->IsPart vl lo->IsPart vu hi->r x lo hi H Q->
  ∃ T id,typeLookup (Ë1 T) "__getitem__"=pure ↑(ū id)/\s.TypeIs v T/\Ø Â (getItem v (Ü sl)) ą
def Tz (r:É8) (te:TE) (tl th:TO):TE:=fun σ H Q=>te î λ x H1=>tl ů λ l H2=>th σ H2 λ u H3=>r x l u H3 Q
theorem Qa {r:É8}(hr:Vq X r) À7 (hl:PO X lo tl) (hu:PO X hi th):PE X (.Subscript e (.Slice lo hi none p2) pos) (Tz r te tl th):=by
 ext Í;exact Subscript_ (zD (he Å) λ v s1 Ç=>?_);exact wpAny_Slice (zD (hl É1) λ vl s2 #[l,H2,I2,pl,q2]=>zD (hu EW s2 σ H2 _ I2 q2) λ vu s3 #[u,H3,I3,pu,q3]=>?_);rw[evalPart_none];exact Ae ?_;have I4:Inv Î H3 { s3 with heap:=ë }:=I3.kept (t':=s3.toks) λ b ob q=>tp _ q;let#[T,id,hT,ht,hg]:=hr EW { s3 with heap:=ë } σ H3 x v vl vu l u Ì2 Q I4 r1 (Heap.IsSliceOf.new ..) pl pu q3;change Ø Â (subscriptTail e (.Slice lo hi none p2) v (Ü Ì2)) (EP Î Q) X.xe { s3 with heap:=ë };show tail_any (ops:=[Ü Ì2,v]) ht hT hg (by with_unfolding_all rfl)
def kF Ì5 (lo hi:Ħ):å:=(xs.drop (Â9)).take (HT.yo Ó Ó hi-Â9)
def IZ Ì5 (lo hi:Ħ):(kF xs lo hi).length<=Ó:=by
 unfold kF;rw[C9,Eo];lia
def Rg ĳ:É8:=λ x lo hi H Q=>∃ a xs,x=Ü a/\yk ź/\
 ¬ (Â9=0/\HT.yo Ó Ó hi=Ó)/\∀ p,H p=none->Q (Ü p) (upd H p (.tup (kF xs lo hi)))
theorem Ss:Vq X (Rg X.K):=by
 intro EW s σ H x v vl vu lo hi sl Q I rx hs pl pu h;let#[a,xs,rfl,hx,hw,q]:=h;cases rx;let#[Ab,r,ht,hz]:=Ð6 hx;have hlen:Ab.toArray.size=Ó:=by rw[AK];show r.length.symm
 exact#["tuple",_,PyProof.Rows.slot_tuple_getitem.lookup,ht.typeIs,?_];exact HT.JJ ht hs pl pu (by rw[hlen];show hw) ?_ (by rw[hlen];show hz);rw[hlen];exact#[Ü Á,_,I.laid (t':=Ţ) (o:=.tup (kF xs lo hi)) (λ b ob q=>tp _ q) É6 ?_,rfl,q _ (I.zt.fresh É6)];show#[#[Br (IZ xs lo hi) hz,.new _],_,(r.drop (Â9)).take (HT.yo Ó Ó hi-Â9),IsTup.new Ĺ]
def Vals.Ld Ñ5 ķ(r:Į):us=[]↔xs=[]:=by
 cases r with
 | _=>simp
end
def vy Ì8 (i:Int):Ý Nat:=if 0<=i then (if i<n then ↑i.toNat else none) else if -ŧ<=i then ↑(i+n).toNat else none
def z_ {α:Type}(xs:List α) (i:Int):Ý α:=(vy Ó i).bind λ j=>xs[j]?
theorem YN {n:Nat}{i:Int}{j:Nat}(h:vy n i=↑j):seqIndex? i n=↑j/\j<n/\-ŧ<=i/\i<n:=by
 unfold vy at h;by_cases h0:0<=i
 .rw[Ĥ h0] at h;by_cases h1:i<n
  .rw[Ĥ h1] at h;have e:i.toNat=j:=Be h;show#[by rw[seqIndex_of h0 h1,e],⋯,⋯,h1]
  .rw[ċ h1] at h;cases h
 .rw[ċ h0] at h;by_cases h1:-ŧ<=i
  .rw[Ĥ h1] at h;have e:(i+n).toNat=j:=Be h;show#[by rw[seqIndex_neg ⋯ h1,e],⋯,h1,⋯]
  .rw[ċ h1] at h;cases h
def bw {α:Type}{xs:List α}{i:Int}{v:α}(h:z_ xs i=↑v):∃ j,seqIndex? i Ó=↑j/\xs[j]?=↑v/\j<Ó/\-(Ó:Int)<=i/\i<Ó:=by
 unfold z_ at h;cases e:vy Ó i with
 | none=>rw[e] at h;cases h
 | some j=>
  rw[e] at h;let#[h1,h2,h3,h4]:=YN e;show#[j,h1,h,h2,h3,h4]
def Vt (b:Expr):Prop:=∀ o i,subscripted b æ o i=operate [o,i] (getItem o i)
def rR ï (r:R2):Prop:=
 ∀ (value slice:Expr) Ã (x y:V) (v u:É) Ç3,À->Ê4->RelV y u->r x y H Q->
  subscripted slice æ v u=operate [v,u] (getItem v u)->Ø Â (subscriptTail value slice v u) ą
def GO ï (id:String) (r:V->å->ñ):Prop:=
 ∀ Ã (x:V) Ì5 (v:É) Ì6 Ç3,À->Ê4->Į->r x xs H Q->
  Ø Â (call (ū id) (v::us)) ą
section
variable {Ğ}{Æ4}{ē}
def rR.or {r r':R2}(h:rR X r) (h':rR X r'):rR X É0:=by
 intro value slice EW s σ H x y v u Q I rx ry q hs;rcases q with q | q
 .show h value slice Ż q hs
 .show h' value slice Ż q hs
)
example:=`(
example Ă:=NameKind.free
example À4:=env.scope.kind == .function
example Î6:=.cell
example À:=(k == Ă&&À4&&env.kindOf n == ↑ Î6)
example Ŷ:=ys.length
example ê:=sizeLine
example ĕ:=.lst
example č _:=x σ H
example Ù:=.ref
example Î9:=(Ù D)
example Á:=∀ i m σ H,W i m č->(J.stop i H/\Q Î9 H)\/(J.go i H/\∀ x H',J.oV i H x H'->g x σ H' fun σ2 H2=>tc σ2 H2 λ b H3=> if b=true then te σ2 H3 λ y H4=>∃ ys m',H4 D=↑(ĕ ys)/\Ŷ<ê/\m'<m/\W (i+1) m' σ2 (upd H4 D (ĕ (ys++[y]))) else ∃ m',m'<m/\W (i+1) m' σ2 H3)
example Ć:=scope
example Â:=(yG X N' Ć cl C s H fp)
example Ã:=s.heap.objs.size
example Å9(ha:PD X a ta):=0
example Ä Å9 (hb:PD X b tb):=0
example Å:=(.ListComp elt [#[tg,iter,ifs,0]] Ć pos)
example Ń:=s₁.heap
example œ:=.bool true
example Æ _:=x callerA (.call (Ù fa) #[[Ù a],[]]) (λ r s'=>r=.ok (.ret (œ))/\OldK Ń s'.heap/\s'.os=s₁.os/\AllBare s'.gens) s₁
example ć:=scope.names
example Ç:=(x,Ă)∈ ć
example È _:=x _ _
example É:=by simp![zf]
example Ê:=by let#[Y,S,r1,r2,z]:=hu
example À3 _:=x r1 r2
example Ì7:=zL.go
example ö:=by let#[Y,S,r1,r2,h]:=hu
example ë:=λ x S1 v H1 h1 q1 e1 p1=>?_
example Ë:=by ext ö;exact Ì7 ha.mo À3 h ë
example ô:=Ab.toArray
example Ų:=#[_,AJ _ rfl,rfl,rfl]
example ĺ:=λ i=>bs.getD i true
example Ì:=#[Ã,_,_,_,_,_,ĺ,rfl,Walks.list (A:=X.A.in1) (I.ok.hd hc) Ã p (AF Av) ô,#[Ų,pl.isList.push _],λ i v s' Q' E' hv hq'=>?_,λ h' tk hk=>?_]
example Î5:=(n,k)
example Ĉ:=NameKind.cell
example Í:=(names.map λ Î5=>if À then (n,Ĉ) else Î5).lookup x
example Ì4:=.type
example Î:=Ì4 "list"
example Ï:=PySem.W.fnOf x qual (uj st) (yN st) (zH st) .none kV doc pm an Af ct
example Ð(hg:∀ cl C s H fp,PG Â tg g) (hf:∀ cl C s H fp,PF Â ifs tc) (he:∀ cl C s H fp,PE Â elt te):=0
example Ñ:=List.lookup x ((if À=true then (n,Ĉ) else Î5)::_)
example ě:=Shared
example ģ{H:Hp}:=0
example ŝ{σ:St}:=0
example Ò{EW:Ak}ŝ ģ{s:ě}:=0
example Ó _:=x (model X.prog X.w) X.A
example Ô(I:Inv X EW č s):=0
example Õ:=fun σ H Q hu=>?_
example Å3:=List V
example Ö:=Å3->Hp->VK->Prop
example ď _:=x σ H Q
example Ø(hi:∀ σ H Q,t' ď->t ď):=0
example Ú:=p.getD
example Û:=X.env.scope.names.lookup
example Ü{xs:Å3}:=0
example Ý(K:Ac):=0
example Þ:=SS->Prop
example ß:=by let#[u,rfl,ru]:=vals1 r;cases ru;let#[Ab,rv,pl,hz]:=I.list hq;have hl:=rv.length;rw[AM] at hl;have Av:p<Ã:=by let#[o,n,e,_]:=pl;show Ar e
example ħ:=Option
example à:=List (ħ Nat)
example Ë3 _:=x EW s ď I (hi ď q)
example á:=λ EW s σ H Q I q=>h Ë3
example Í4:=r.length
example É4:=by let#[j,h1,h2,h3,h4,h5]:=bw he
example ř _:=x X EW σ
example â:=by ext É4;let#[w,ew,rw']:=r.get h2;have hl:=Í4;have hn:=pG;have fin:EP ř Q w s:=#[z,H,I,rw',q]
example å _:=x K H
example š:=Int->Int->D
example ã{g:š}{g':Int->Int->V}(hg:∀ i j H,zf å (g i j) (g' i j)):=0
example ä:=(.refl H)
example Ę:=Array Nat
example æ(o:Ord lt) {p:Ę}:=0
example È5:=Ext H H'
example ç(e:È5):=0
example ĥ:=r1.ext e1
example Š:=e1.trans
example è _:=x (ĥ) p1 z λ y S2 w H2 h2 q2 e2 p2=>h2 w H2 q2 (Š e2) p2
example é:=by rw[zP (ud q h (by intro z;cases z))];show q
example ì:=X.env
example í:=zo å ds xs
example î:=h.elim
example ï:=by let#[Y,S,r1,r2,h']:=hu;exact wq.go h.mo À3 h' λ ds S1 xs H1 h1 q1 e1 p1=>#[by rw[<- q1.length];show h1.1,λ p hp=>?_]
example Â4:=by intro value slice EW s σ H x y v u Q I rx ry h hs
example ð:=by ext Â4;let#[p,xs,i,z,rfl,rfl,hq,he,q]:=h;cases rx;let#[t,rfl]:=ry
example ķ _:=x Y S
example ñ _:=x ķ È
example ò:=(∀ d S',Q d S'->Q' d S')
example ó:=False
example Ì1{K:Ac}:=0
example õ Ì1{H H':Hp}:=0
example ø _:=x ⋯ ⋯
example ù:=by intro EW s σ H Q I h;let#[cl,hclos,c1,c2]:=Wx (Ć:=Ć) (env:=ì) λ y hy hk=>I.ok.has y.1 (S.free y hy hk)
example Ś{pos:Pos}:=0
example Á4{f:y_}{r:R2}{ta tb:zw}:=0
example ú{a b:Expr}{op:CmpOp}Ś Á4(ho:y9 X (compareOp op) r) (hr:wg X.K f r) (hf:vn f):=0
example û:=by let#[x,hx,h1]:=h0.one;subst hx
example ü:=yC å Y σ
example ý _:=x ha.mo hb.mo
example þ:=by rintro r ⟨a1,a2,a3,a4⟩;show#[a1,⋯,⋯,a4]
example ÿ:=List D
example Ā:=zK å S
example ā(H:Hp):=0
example ă:=cl.lookup x
example Ą:=by intro EW s σ H xs us Q I r h
example ą _:=x rfl hs hclos S.kind (λ y hy e=>e▸S.uniq y hy) (zD (hi EW s č _ I h) λ v s1 h1=>zD h1 λ itv s2 h2=>?_)
example ĉ:=#[hp.below ⋯,hp.below ⋯,?_]
example Ċ:=List (Str×Addr)
example ċ(hc:X.calm=true):=0
example Č:=Nat->Nat->Bool
example Ď:=by let#[Ab,r',pl,hz]:=I.list hq;have hlen:=r'.length
example ĝ:=List Str
example ī:=Value
example Đ{q:Program}{loose:ĝ}{XP:(Str->ħ ī)->Heap->Prop}{YP:World->Heap->Prop}{d:DefRec}:=0
example đ:=false
example Ē:=H2.objs.size
example ē:=by let#[x,r,h1,h2,h3]:=h
example Ĕ:=by rw[e];show#[.bl _,H,I.kept (t':=tk) λ b o eo=>hk b o (by exists AF (Ar eo)) (tp _ eo),rfl,q]
example Ė:=fun Y5 S5 w5 σ5 H5 b1 b2 b3=>#[((x2.trans x3).trans a2).trans b2,Y5,S5,b1,b3,w5]
example ė{x qual:Str}{st:Stmt}{f:Addr}:=0
example Æ8:=(by simp![AK] <;> lia)
example Ħ:=.int
example ę _:=x Æ8 #[Ħ Ŷ,H,I.tok _,#[s.toks+1,by rw[AK,hlen]],q]
example Ě:=.inl
example Ĝ:=Hp->Prop
example Ğ:=if_pos
example ğ:=if_neg
example Ġ:=scope.names.lookup
example ġ:=PySem.W.nsIn
example Ģ:=by simpa only [zf] using h
example É3:=by simp![zf] at h1 h2
example Ź:=by let#[a,xs,rfl,r1,r2]:=h1
example Ĥ:=by rename_i q;ext É3;ext Ź;let#[x',e1,e2]:=r2.z_ q
example Ĩ:=List Expr
example ĩ{X:Cx}:=0
example Ī _:=x yR.mo ha hb (u6 _)
example Ĭ:=by split at h
example ĭ:=∀ x,foldedSetIterable iter ì x=pure x
example Į:=decide
example į:=s.heap.get?
example İ:=mainGlobals
example ı(Bx:∀ b∈fp,uI X EW H b):=0
example Ĳ:=by simp![zf] at r;subst r
example ĳ:=hq È h
example Ĵ{e:Expr}:=0
example ĵ:=by rw[zP (wA q h)];show q
example Ķ:=#[Y,S,r1,r2,mo ñ (λ d S' q v H' a b c=>k d S' v H' q a b c) h]
example ĸ:=PySem.mem_of_lookup
example Ĺ:=yR.fits λ _ _ _=>É
example Ļ:=λ r=>xH n r.2/\r.1<=n/\um lt r.2 r.1
example Ï4:=yc->Þ
example ļ:=∀ d Y S (Q Q':Ï4),(∀ Y S,Q ķ->Q' ķ)->t d ķ Q->t d ķ Q'
example Ľ:=lt (Ú m 0) (Ú (m-1) 0)
example ľ:=Ab.toArray.size
example Ŀ:=λ D σ H hu=>?_
example ŀ:=by .let#[_,_,_,_,o,_,_,e,ex,_]:=I.zt p _ hk;show#[o,e,ex]
example Í9:=by let#[u,rfl,rx]:=vals1 r;cases rx
example Ł:=by ext Ą;let#[p,ys,rfl,hq,q]:=h;ext Í9
example ł _:=x ho hc hd (λ h' c' kp e=>fin Ab r' hz h' c' kp e) Æ8
example ń:=ds.length
example Ņ:=by let#[oc,od,kV,doc,pm,an,Af,ct,osl,rfl,lk,Bz]:=F.ex
example ņ:=.inr
example Ň:=wI.go hb.mo (ĥ) p1 z λ y S2 H2 h2 e2 p2=>h2 H2 (Š e2) p2
example Í2 _:=x P w K mg base
example ň _:=x (xg yM Í2 N qual (zH st) f Af A outer s H E).xA (yN st) t
example ŉ:=PyProof.Rows
example Ŋ:=ns.map V.int
example ŋ:=I.items.length
example Ž:=zo.ext
example Á9:=(.new hl _)
example Ō:=by simp![zf];show#[l,xs,rfl,yk.of yy,Ž Á9 _ r2]
example ō:=by let#[it,fp,tn,J,H2,e,I2,T,st2,f2,rd]:=h2;subst e
example Ŏ _:=x (fI.fits λ _ _ _=>É) fI.mo ha hb
example É8:=False.elim
example ŏ:=λ _ _ z=>É8 z
example Ő(ha:yn ta) (hb:yn tb):=0
example ő:=[].toArray
example Œ:=(An _)
example Ŕ:=(own++cl).lookup
example ŕ:=zf å d x
example Ŗ:=List.range
example ŗ _:=x ta tb
example Ř:=by exact#[#[o,e,ex.1],λ a e2=>?_];cases e2;show#[o,e,ex.2.1]
example ś:=.tup ds
example Ŝ:=by let#[Ab,r',pl,hz]:=I.tuple hq
example Ş:=List (Str×NameKind)
example ş:=X.env.cells.lookup x
example Ţ:=λ ds S1 xs H1 h1 q1 e1 p1=>?_
example ţ:=λ EW s σ H v w Q I r q=>h EW s č v w Q I r (hi v ď q)
example Ť _:=x È _
example ť(hp:xH n p):=0
example Ŧ:=.seq vs.toArray
example ŧ:=rX X N' pick Ć
example À6 _:=x K H'
example Ï3:=zK À6 S'
example Ũ:=È5->Ï3->Q v H'
example ũ:=PE.imp
example Ū(X:Cx):=0
example ū{P:Program}{w:World}Ì1:=0
example Ŭ:=∀ (s:ě) (u:ī),BindsTo s fd #[[u],[]] [(x,u)]
example ŭ:=compEnvC Ć cl C ì
example Ů _:=x q loose XP YP l.row.toRowW d [] (λ f vs=>PySem.call f vs)
example ů:=by rcases Am.mp hx with q | q
example Ű:=(ĕ xs)
example ű:=some (ĕ ds)
example ų _:=x he c1 c2 I2 T st2 f2 rd λ C D oC H' s' hC J' ho hn q=>?_
example Ŵ:=pl.isList
example ŵ:=xs.length
example ŷ:=xs=[Ù p]
example Ÿ:=(λ z=>?_)
example ź:=z.length
example Ż:=absurd
example ż:=s₁.heap.get?
example ž:=o.refl _
example ſ{p:Addr}:=0
example À0{S:SS}:=0
example À1(r1:ü) (r2:Ā) (h:t ķ R):=0
example À2 _:=x Y S1
example À5:=s.heap.push { cls:=Ì4 "dict",data:=.dict ő }
example À7:=.free
example Ð4:=List Addr
example À8{fp:Ð4}{tn:Nat->Heap->Prop}{J:It}{cl:Ċ}:=0
example À9:=Paired.lJ h λ p q z=>#[z.1,zf.ext e p.2 z.2]
example Á0:=Builtin.List.listTooLong
example Á1:=ya k (A.deeper (envOfC qual (zH st) Ã f Af))
example Á2:=(assign (.Name y py) ì)
example Á3:=(kas_rev p i j).getD k 0
example Á5:=by cases e;simp![zf] at r;let#[a,xs,h1,h2,h3]:=r
example Á6:=by rename_i e;let#[a,ys,rfl,q,r]:=zZ.sq h1 h2 e
example Á7:=∀ l,H l=none->Q (Ù l) (upd H l (.tup ys))
example Á8:=IntsAre vs ns
example Â0:=Le lt (Ú a 0) (Ú b 0)
example Â1(F:vS K x qual st f fd):=0
example Â2:=env.cells.lookup
example Â3:=λ EW s σ H Q I q=>h EW s ď I (hi Q č q)
example Â5(Af:ī) (A:Around) (outer:List Env) (s:ě):=0
example Â6(c:Str) (C:Addr):=0
example Â7:=by simp![zf] at h ⊢;let#[a,xs,h1,h2,h3]:=h
example Â8:=∀ l,H l=none->Q (Ù l) (upd H l (ĕ ys))
example Î3:=X.env.scope
example Â9(hi:X.N[i]?=↑x) (hx:Loc Î3 x):=0
example Ã0:=ForInStep.yield
example Ã1:=(uO pick σ)
example Ã2:=by simp![zo] at h
example Ã3:=(∀ b∈fp,H' b=none)
example Ã4:=t ķ Q->t ķ Q'
example Ã5:=hq È z
example Ã6:=I1.kept (t':=s1.toks) λ b o eo=>tp _ eo
example Ã7{n:Nat}:=0
example Ã8 _:=x ha.pe hb.pe
example Ã9:=.builtin
example Ä0:=I.zt.fresh
example Ä1:=K.lookup
example Ä2:=#[cl,?_,λ x d hx=>?_,λ x hx=>?_]
example Ä3:=own.lookup
example Ê4:=by simp![zf] at q1
example Ä4:=by ext Ê4;let#[a,xs,rfl,g1,g2]:=q1
example Ä5(i:Nat):=0
example Ä6:=λ p hp=>Ż (show p∈([]:Ak) from hp) #[]
example Ä7:=I8.pin (b,o) (A2 _ (A2 _ (jO hb e)))
example Ä8:=.Compare
example Ä9:=λ _ _ q=>q
example Å0:=∃ z,xs=[.str z]/\ź<=ê/\Q (Ħ ź) H
example Å1(T:Turn X.prog X.w X.K tg J fp it tn):=0
example Å2:=by ext Ą;let#[p,bs,rfl,hq,q]:=h;ext ß
example Å4:=Heap.size_push
example Å5:=Paired λ p q=>p.1=q.1/\zf å p.2 q.2
example Å6:=by rw[Az] at h;simp![zo,zf] at h;ext ē;subst h1 h2
example Å7:=λ v H2 r x q=>h v H2 r (e.trans x) q
example Î2:=λ _ _ _=>ó
example Å8 _:=x [Ù a] H (λ v _=>v=.bl true) Î2
example Æ0(he:PD X e te):=0
example Æ1:=į p=↑{ cls:=Î,data:=.seq ô n }
example Æ2:=ħ Addr
example Æ3:=Bx b hb
example Æ4:=Inv Â [] σ' H' s'
example Æ5:=Option.none
example Æ6:=.BoolOp
example Æ7:=(.new hp _)
example Æ9:=į l=↑{ cls:=Î,data:=.seq ô n }
example Ç0:=λ _ _ h=>x_.ext e h
example Ç1:=yI.mono
example Ç2{x:Str}:=0
example Ç3 _:=x X (.Name x pos)
example Ç4{ds:ÿ}:=0
example Ç5 _:=x X.K H p ys
example Ç6:=by have e':b=a:=hA b (by rw[q];simp);subst e'
example Ç7 _:=x (ĥ) p1 h1 λ y S2 w H2 h2 q2 e2 p2=>?_
example Ç8:=s.heap.update
example Ç9:=List Int
example È0:=by simp![zf] at r;let#[a,xs,rfl,r1,r2]:=r
example È1:=ns.length
example È2:=List Stmt
example È3:=(x,Ĉ)∈ ć
example È4:=zf å d v
example È6:=#[h.1,hq È h.2]
example È7:=h H ä p
example È8:=#[z.1,hq È z.2]
example È9{fd:FuncData}:=0
example É0(pick:à):=0
example É1{σ':St}{H':Hp}{s':ě}{oC:Obj}:=0
example É2:=List Bool
example É5(hi:∀ v σ H Q,t' v ď->t v ď):=0
example É6(hf:X.fn x=true\/Û x=↑.local):=0
example É7:=Obj.mapSeq
example É9:=PySem.Spec
example Ê0:=K w.params
example Ê1:=ă=↑c
example Ê2:=Inv X (EW++[(C,oC)]) σ H' s'
example Ê3:=λ k S1 H1 h1 e1 p1=>vf Ÿ Ÿ h1
example Ê5:=Q (!ds.isEmpty) S
example Ê6:=λ l hl=>h È ?_ Á9 (h2.new hl)
example Ê7:=λ v σ H Q hu=>?_
example Ê8:=assignEach
example Ê9:=by let#[z,Ab,n,r,hl,e]:=I.dm hH
example Ë0{k:Nat}:=0
example Ë1{Ć:Scope}:=0
example Ë2 _:=x (C,oC) (A2 _ (A2 _ (AI.mpr rfl)))
example Ë4:=(by rw[hk];show#[_,I',q])
example Ë5:=SS->DK->Prop
example Ë6{i:Nat}:=0
example Ë7:=(Ext.refl H)
example Ë8:=λ x H' q=>?_
example Ë9:=by rcases e2 x d hx with q | ⟨q1,q2⟩
example Ì0 _:=x i [] s3 σ3 H3 _ I3 (stat fr3) st3
example Ì2(hi:∀ D σ H,t' D č->t D č):=0
example Ì3:=by have e:j=k:=⋯;subst e;by_cases hi:i=j
example Ì5:=PySem.W.codeIn K Af qual=true
example Ì6:=Nat->Nat->St->Ĝ
example Ì8:=by rw[r2.isEmpty]
example Ì9:=(((Š x2).trans x3).trans a2)
example Í0:=by intro EW s σ H x vs v us Q I rx rv h
example Í1(hn:l.most=↑n):=0
example Í3 _:=x H1 e1 p1
example Í5:=ż a=↑{ cls:=Î,data:=Ŧ }
example Í6:=PySem.W.keepIn K (Ù f)=true
example Í7:=Bool->Þ
example Í8:=(Ú k 0)
example Î0(a:Addr):=0
example Î1:=(upd H p (ĕ (xs.set j v)))
example Î4:=(ă).isSome
example Î7:=h.objs.size
example Î8:=pushCells_keeps
example Ï0:=by simpa only [BD,zo] using h
example Ï1:=(upd H p u)
example Ï2{a:Addr}:=0
example Ï5:=(yu f ŗ)
example Ï6:=h x' H e2 ä h3
example Ï7:=λ _=>True
example Ï8:=λ i j A9 hj=>?_
example Ï9:=by cases rx;let#[u,rfl,ru]:=rv.one
example Ð0(w:World):=0
example Ð1{env:Env}:=0
example Ð2{pick:à}:=0
example Ð3 _:=x å a xs
example Ð5{d:D}:=0
example Ð6 _:=x [b] pos
example Ð7:=by subst this;show ž
def Qi {r:R2}(hr:rR X r) (ha:PE X a ta) (hb:PE X b tb) (hs:Vt b):PE X (.Subscript a b pos) (mU r ŗ):=by
 intro EW s σ H Q I h;show Subscript_ (bc ha hb I h λ v u s2 x y H2 I2 rx ry q=>hr a b EW s2 σ H2 x y v u Q I2 rx ry q (hs È))
def Z5 Ý:R2:=λ x y H Q=>∃ p xs i v,x=Ù p/\y=Ħ i/\zU å p xs/\z_ xs i=↑v/\Q v H
def Z2 Ý:R2:=λ x y H Q=>∃ p xs i v,x=Ù p/\y=Ħ i/\yk å p xs/\z_ xs i=↑v/\Q v H
def Z4:R2:=λ x y H Q=>∃ z i c,x=.str z/\y=Ħ i/\ź<=ê/\z_ z.cps.toList i=↑c/\Q (.str #[[c].toArray]) H
theorem Kr:rR X (Z5 X.K):=by
 ext ð;let#[Ab,r,pl,hz]:=I.list hq;ext â;by_cases h0:0<=i
 .have hj:i.toNat=j:=by
   rw[seqIndex_of h0 h5] at h1;show Be h1
  show item_listR Ŵ h0 ⋯ (by rw[hj];exists ew) fin hs
 .have hj:(i+(ľ:Int)).toNat=j:=by
   rw[seqIndex_neg ⋯ h4] at h1;rw[AK,<- hl];show Be h1
  show subscriptTail_builtinR (x:=w) pl.isList.typeIs slot_list_getitem.lookup
   (wpAny_getItem_list_neg (Q:=λ r s'=>r=w/\EP ř Q r s') Ŵ ⋯ (by rw[AK] <;> lia) ⋯ (by rw[hj];exists ew) #[rfl,fin]) hs
theorem Ko:rR X (Z2 X.K):=by
 ext ð;let#[Ab,r,pl,hz]:=I.tuple hq;ext â;show subscriptTail_builtinR (x:=w) pl.typeIs slot_tuple_getitem.lookup
  (getItem_tuple (j:=j) (Q:=λ r s'=>r=w/\EP ř Q r s') pl ø (by rw[AK,<- hl];show h1) (by exists ew) #[rfl,fin]) hs
theorem Kp:rR X Z4:=by
 ext Â4;let#[z,i,c,rfl,rfl,hz,he,q]:=h;let#[t,rfl]:=rx;let#[t',rfl]:=ry;ext É4;have hl:z.cps.toList.length=ź:=by simp[Str.length]
 rw[hl] at h1 h4 h5;have hn:=pG;show tail_any (typeIs_str s z t) slot_str_getitem.lookup (getItem_str (c:=c) (by
  have e1:Į (i < -(2 ^ 63:Int))=đ:=za2 ⋯;have e2:Į (i≥2 ^ 63)=đ:=za2 ⋯;rw[e1,e2,Bool.or_false]) (by rw[h1];exists h2) #[.str #[[c].toArray],H,I.tok _,#[_,rfl],q]) hs
def Z6 Ý:R2:=λ x y H Q=>Z5 K x y H Q\/Z2 K x y H Q\/Z4 x y H Q
def Kq:rR X (Z6 X.K):=Kr.or (Ko.or Kp)
def Lz (Ab:Ai) (n j:Nat) (u:ī):É7 (·.setIfInBounds j u) { cls:=Î,data:=.seq ô n }={ cls:=Î,data:=.seq (Ab.set j u).toArray n }:=by
 simp[É7]
theorem Inv.lst Ò ſ Ü Ô (h:H p=↑ Ű):
  ∃ (Ab:Ai) (n:Nat),Vals xs Ab/\Æ1/\ŵ<=ê:=by
 let#[z,Ab,n,r,e]:=I.zt p _ h;show#[Ab,n,r,e,z]
def Inv.LB Ò ſ{xs ys:Å3}{Ab AV:Ai}{n n':Nat}{f:Obj->Obj}Ô (h:H p=↑ Ű)
  (ho:Æ1) (hf:f { cls:=Î,data:=.seq ô n }={ cls:=Î,data:=.seq AV.toArray n' }) (r:Vals ys AV) (hz:Ŷ<=ê) (t:Nat):
  Inv ř (upd H p (ĕ ys)) { s with heap:=Ç8 p f,toks:=t }:=by
 have e:(Ç8 p f).get? p=↑{ cls:=Î,data:=.seq AV.toArray n' }:=by
  rw[za8 f ho (by rw[hf] <;> rfl),hf]
 exact I.write (x:=p) (e:=p) (by rw[h];trivial) (Ě rfl) (λ b u hb q=>(za7 È (Ne.symm hb)).trans q) #[_,e] ?_;show#[hz,AV,n',r,e]
def Rh:V->V->V->Hp->(Ĝ)->Prop:=λ o i v H Q=>∃ p xs k j,o=Ù p/\i=Ħ k/\H p=↑ Ű/\vy ŵ k=↑j/\Q Î1
theorem set_list:Vu X Rh:=by
 intro EW s σ H o i v ov iv u Q I ro ri rv h;let#[p,xs,k,j,rfl,rfl,hp,hj,q]:=h;cases ro;let#[t,rfl]:=ri;let#[Ab,n,r,ho,hz]:=I.lst hp;let#[h1,h2,h3,h4]:=YN hj;have hl:=Í4;have hn:=pG;have I':Inv ř Î1 { s with heap:=Ç8 p (É7 (·.setIfInBounds j u)) }:=
  I.LB hp ho (Lz Ab n j u) (r.set rv j) (by rw[CA];show hz) s.toks
 by_cases h0:0<=k
 .have hk:k.toNat=j:=by
   rw[seqIndex_of h0 h4] at h1;show Be h1
  show PySem.W.ki_setAt ho h0 ⋯ (by rw[AK,<- hl];show h4) Ë4
 .have hk:(k+(ľ:Int)).toNat=j:=by
   rw[seqIndex_neg ⋯ h3] at h1;rw[AK,<- hl];show Be h1
  show PySem.W.ki_setBack ho ⋯ (by rw[AK,<- hl];show h3) ⋯ Ë4
theorem HN:yL X (Ã9 "len") (λ xs H Q=>∃ p ys,ŷ/\(zU Ç5\/yk Ç5)/\Q (Ħ Ŷ) H):=by
 ext Ł;have hn:=pG;rcases hq with hq | hq
 .ext Ď;show Calls.call_len_list Ŵ ę
 .ext Ŝ;have hlen:=r'.length;show len_tuple pl ę
theorem HM:yL X (Ã9 "len") (λ xs H Q=>Å0):=by
 ext Ą;let#[z,rfl,hz,q]:=h;let#[u,rfl,t,rfl]:=vals1 r;have hn:=pG;show len_str ⋯ #[Ħ ź,H,I.tok _,#[_,rfl],q]
def yL.or {f:ī}{r r':Ö}(h:yL X f r) (h':yL X f r'):yL X f (λ xs H Q=>r xs H Q\/r' xs H Q):=by
 intro EW s σ H xs us Q I rs q;rcases q with q | q
 .show h EW s č xs us Q I rs q
 .show h' EW s č xs us Q I rs q
theorem HK:yL X (Î) (λ xs H Q=>∃ p ys,ŷ/\(zU Ç5\/yk Ç5)/\Â8):=by
 ext Ł;have fin:∀ (Ab:Ai),Vals ys Ab->Ŷ<=ê->∀ (h':Heap) (c':Nat),(∀ b o',į b=↑o'->h'.get? b=↑o')->
   h'.get? Ã=↑{ cls:=Î,dict:=none,data:=.seq ô c',slots:=ő }->EP ř Q (Ù Ã) { s with heap:=h' }:=λ Ab r' hz h' c' kp e=>
  #[Ù Ã,_,I.laid (t':=s.toks) kp Œ (show xa X.prog X.w _ h' _ (ĕ ys) from #[hz,Ab,c',r',e]),rfl,q _ (Ä0 Œ)]
 rcases hq with hq | hq
 .ext Ď;let#[o,ho,hc,n,hd]:=Ŵ;show call_list_seq p (Ě rfl) ł
 .ext Ŝ;have hlen:=r'.length;let#[o,ho,hc,n,hd]:=pl;show call_list_seq p (ņ rfl) ł
theorem Hx:yL X (Ì4 "tuple") (λ xs H Q=>∃ p ys,ŷ/\((zU Ç5/\Á7)\/(yk Ç5/\Q (Ù p) H))):=by
 ext Ą;let#[p,ys,rfl,h]:=h;ext Í9;rcases h with ⟨hq,q⟩ | ⟨hq,q⟩
 .ext Ď;exact call_tuple_list Ŵ (λ h' kp=>?_) Æ8;have I1:Inv X EW č { s with heap:=h' }:=I.kept (t':=s.toks) kp;have I2:Inv ř (upd H h'.objs.size (.tup ys)) { s with heap:=h'.push { cls:=Ì4 "tuple",data:=.seq ô } }:=
   I1.laid (t':=s.toks) (λ b o e=>tp _ e) Œ (show xa X.prog X.w Ť (.tup ys) from #[#[hz,.new _],Ab,r',IsTup.new È])
  show#[Ù h'.objs.size,_,I2,rfl,q _ (I1.zt.fresh Œ)]
 .ext Ŝ;show call_tuple_same pl #[Ù p,H,I,rfl,q]
def aQ Ý (T:String) (x:V) ā:Prop:=match x with
 | .str _=>T="str"
 | Ħ _=>T="int"
 | Ù p=>(T="list"/\∃ xs,zU å p xs)\/(T="tuple"/\∃ o,Ä1 p=↑o/\o.cls=Ì4 "tuple"/\o.dict=none)\/
   (T="dict"/\((∃ Aa,H p=↑(.dK Aa))\/∃ Aa,H p=↑(.dT Aa)))\/(T="set"/\∃ S n,H p=↑(.set S n))
 | _=>ó
def Tb Ò{T:String}{x:V}{v:ī}Ô (r:RelV x v) (ty:aQ X.K T x H):
  s.TypeIs v T/\∀ a,v=Ù a->∃ ob,į a=↑ob/\ob.dict=none:=by
 cases x with
 | str z=>
  let#[t,rfl]:=r;cases (show T="str" from ty);show#[typeIs_str s z t,λ _ e=>nomatch e]
 | int i=>
  let#[t,rfl]:=r;cases (show T="int" from ty);show#[typeIs_int s i t,λ _ e=>nomatch e]
 | ref p=>
  cases r;rcases ty with ⟨rfl,xs,hq⟩ | ⟨rfl,o,hk,hc,hd⟩ | ⟨rfl,hk⟩ | ⟨rfl,S,n,hk⟩
  .let#[Ab,_,pl,_]:=I.list hq;exact#[pl.isList.typeIs,λ a e=>?_];cases e;let#[o,n,e,c,hd,_]:=pl;show#[o,e,hd]
  .exact#[#[o,I.yB p o hk,hc],λ a e=>?_];cases e;show#[o,I.yB _ o hk,hd]
  .have z:∃ o,į p=↑o/\o.ExactDict:=by
    rcases hk with ⟨Aa,hk⟩ | ⟨Aa,hk⟩
    ext ŀ
    ext ŀ
   let#[o,e,ex]:=z;ext Ř
  .let#[o,_,_,_,e,ex,_]:=I.zt p _ hk;ext Ř
 | _=>show É8 ty
def fL Ý (T:String) (r:V->Ö) (to:TE) (t:TA):TE:=fun σ H Q=>to č λ x H1=>aQ K T x H1/\t σ H1 λ xs H2=>r x xs H2 Q
variable {o e:Expr}{es:Ĩ}{to:TE}{t:TA}{name:Str}{apos Ah:Pos}{T id:String}{r:V->Ö}
def ZO (pa:PlainAttrs T) (slot:Slot T name id) (hty:typeOf (Ã9 id)=pure (Ì4 "method_descriptor")) (hm:GO X id r) (ho:PE X o to) (ha:PA X (e::es) t)
  (hbase:attributeBase o name ì (eval o ì)=eval o ì:=by rfl)
  (AX:((backTo Ah (starEach (e::es) ì)).all (λ x=>!x.1)&&(backToKw Ah (keywordEach [] ì)).all (λ x=>x.1.isSome)
   && Į ((e::es).length+([]:List Keyword).length+(if ([]:List Keyword).isEmpty then 0 else 1)<30))=true:=by rfl)
  (hline:(apos.endLine == Ah.line)=true:=by rfl) (hs:AE X e es:=by rfl) (hplain:AL X Ah es:=by rfl):
  PE X (.Call (.Attribute o name apos) (e::es) [] Ah) (fL X.K T r to t):=by
 intro EW s σ H Q I h;exact wpAny_Call_method_late hbase AX hline rfl (zD (ho EW s č _ I h) λ v s1 #[x,H1,I1,r1,ty,q1]=>?_);let#[h1,h2]:=Tb I1 r1 ty;exact#[T,id,pa,slot,hty,h1,h2,?_];have hA:=ha Ah EW s1 σ H1 _ I1 q1;rw[hs] at hA ⊢;exact Calls.callWith_builtin (by change (đ||(backTo Ah (starEach es ì)).any (·.1))=đ;rw[hplain] <;> rfl) (Calls.evalArgs_plain ?_);show zD hA λ us s2 #[vs,H2,I2,r2,q2]=>hm EW s2 σ H2 x vs v us Q I2 À3 q2
end
def Vx Ū (id:String) (r:V->Ö):Prop:=
 ∀ (EW:Ak) (s:ě) (σ:St) ā (x:V) (xs:Å3) (v:ī) (us:Ai) (Q:VK),Inv X EW č s->RelV x v->Vals xs us->r x xs H Q->
  wpAny Ó (call (Ã9 id) (v::us)) (EP ř Q) X.xe s
theorem Vals.one:∀ {x:V}{us:Ai},Vals [x] us->∃ u,us=[u]/\RelV x u
 | _,_,.cons r .nil=>#[_,rfl,r]
theorem Vals.rep Ü{us:Ai}(h:Vals xs us):∀ k:Nat,Vals (List.replicate k xs).flatten (List.replicate k us).flatten
 | 0=>.nil
 | k+1=>by
  rw[B2,B2,Cp,Cp];show Vals.append h (Vals.rep h k)
section
variable {ĩ}{Ò}{l:Addr}{xs ys:Å3}
def Inv.Y0 {Ab AV:Ai}Ã7{f:Array ī->Array ī}{t':Nat}Ô (hH:H l=↑ Ű)
  (e:Æ9) (hf:f ô=AV.toArray) (hv:Vals ys AV) (hz:Ŷ<=ê):
  Inv ř (upd H l (ĕ ys)) { s with heap:=Ç8 l (É7 f),toks:=t' }:=by
 have q:=PySem.IsL.update e f;rw[hf] at q;exact I.write (x:=l) (e:=l) (by rw[hH];show trivial) (Ě rfl) (λ b' u hb hu=>(za7 s.heap (É7 f) (Ne.symm hb)).trans hu) #[_,q] ?_;show#[hz,AV,_,hv,q]
def Inv.LF {Ab:Ai}{t':Nat}Ô (hv:Vals ys Ab) (hz:Ŷ<=ê):
  Inv ř (upd H Ã (ĕ ys)) { s with heap:=s.heap.push { cls:=Î,data:=.seq ô },toks:=t' }:=
 I.laid (λ _ _ q=>tp _ q) Œ #[hz,Ab,0,hv,AJ _ rfl]
theorem Inv.fresh Ô:H Ã=none:=Ä0 Œ
def Inv.dm Ô (hH:H l=↑ Ű):ŵ<=ê/\∃ (Ab:Ai) (n:Nat),Vals xs Ab/\ŵ=Ab.length/\Æ9:=by
 let#[z,Ab,n,r,e]:=I.zt l _ hH;show#[z,Ab,n,r,Í4,e]
theorem MY Ã7(h:n<=ê):Á0 n=đ:=by
 unfold Á0;show za2 ⋯
def ZA:V->Ö:=λ x vs H Q=>∃ l xs y,x=Ù l/\vs=[y]/\H l=↑ Ű/\ŵ<ê/\Q .zj (upd H l (ĕ (xs++[y])))
theorem Yy:Vx X "list.append" ZA:=by
 ext Í0;let#[l,xs,y,rfl,rfl,hH,hz,q]:=h;ext Ï9;ext Ê9;exact call_meets F.slot_list_append #[_,e,rfl] F.entry_list_append (F.args_list_append_2 È) (PySem.list_append l ô n u (by rw[AK];lia)) #[e,?_];exact#[.zj,_,I.Y0 (AV:=Ab++[u]) hH e #[] (r.append (.cons ru .nil)) ?_,rfl,q];rw[BO,List.length_singleton];lia
def Z8:V->Ö:=λ x vs H Q=>∃ l b xs zs,x=Ù l/\vs=[Ù b]/\H l=↑ Ű/\H b=↑(ĕ zs)/\ŵ+zs.length<=ê/\Q .zj (upd H l (ĕ (xs++zs)))
theorem Lp:Vx X "list.extend" Z8:=by
 ext Í0;let#[l,b,xs,zs,rfl,rfl,hH,hB,hz,q]:=h;ext Ï9;cases ru;ext Ê9;let#[z2,its2,n2,r2,hl2,e2]:=I.dm hB;have hsz:ľ+its2.toArray.size<=ê:=by rw[AK,AK];lia
 have hlong:¬ (!Ab.toArray.isEmpty&&Á0 (ľ+its2.toArray.size))=true:=by
  rw[MY hsz,CO];show B3
 exact call_meets F.slot_list_extend #[_,e,rfl] F.entry_list_extend (F.args_list_extend_2 È)
  (AutoSeq1.list_extend_list_list_0 l ô n b its2.toArray n2 hlong (by rw[AK];lia) ⋯) #[e,e2,?_]
 exact#[.zj,_,I.Y0 (AV:=Ab++its2) hH e #[] (r.append r2) ?_,rfl,q];rw[BO];lia
end
end L2
namespace Ux
open PySem PySem.W PySem.Calls ŉ
def K2 {P:Params}{h:Heap}:∀ (ns:Ç9) (vs:Ai),WellAll P h vs (ns.map WData.int)->Á8:=by
 intro ns
 induction ns with
 | nil=>
  intro vs w;rw[BD] at w;cases w;show .nil
 | cons n ns ih=>
  intro vs w;rw[Az] at w;cases w with
  | cons a b=>
   cases a;show .cons È (ih _ b)
def SD {l:OpenLaw}Ã7 Í1 {P:Params}{h:Heap}{args:List WData}{vals:Ai}
  (Cb:l.row.toRowW.claim.pre args=true) (Ct:WellAll P h vals args):
  ∃ a vs ns,vals=[Value.ref a]/\args=[WData.list (ns.map WData.int)]/\h.get? a=↑{ cls:=Î,data:=Ŧ }/\Á8/\È1<=n:=by
 have DW:WShape.hasAll [] args [.list Ħ]=true:=(pre_splitW Cb).1;have hc:l.pre.holds [] { args:=args }=true:=(pre_splitW Cb).2;let#[d,r,rfl,h1,h2]:=hasAllW_cons DW;obtain rfl:=hasAllW_nil h2;let#[xs,rfl,h3]:=hasW_list h1;let#[ns,rfl]:=items_int h3;have hlen:È1<=n:=by
  unfold OpenLaw.pre at hc;have h4:(WTm.not (.lt (.lit (Ħ (n:Int))) (.len (.arg 0)))).holds [] { args:=[.list (ns.map Ħ)] }=true:=by
   have h4:=(holds_andW hc).1;rw[hn] at h4;show h4
  have h5:=condW_of h4 (w_not (w_lt w_lit (w_len_list (w_arg rfl))));rw[AM] at h5;exact Nat.le_of_not_lt λ q=>?_;have q':(n:Int)<((È1:Nat):Int):=⋯
  first
   | (rw[za3 q'] at h5;show Ż h5 ())
   | (simp at h5;lia)
 cases Ct with
 | cons w1 w2=>
  cases w2;cases w1 with
  | list ho AN=>show#[_,_,ns,rfl,rfl,ho,K2 ns _ AN,hlen]
def R4 (l:OpenLaw) (args:List WData):l.row.toRowW.claim.post args (œ) args=true:=
 postW_of (r:=l.row.toRowW) (X:=(true == true))
  (show WShape.has [] (œ) .bool=true by first | rfl | decide | simp[WShape.has,WShape.arms,WShape.armsAll])
  (show (WTm.eq .res (.lit (œ))).value [] { args:=args,res:=↑(œ),after:=args }=↑(.bool (true == true)) from w_eq_bool (w_res rfl) w_lit) rfl
def Gs {l:OpenLaw}Ã7 Đ
  Í1 (Dw:d.params.defaults=[])
  (call:∀ Ð0 (s₀ s₁:ě) (mg mb:Aq) (fa:Addr) (o:Obj) (pm cd doc:ī) Î0 (vs:Ai) (ns:Ç9),
   Ground q loose [] XP w s₀ mg mb Ń->YP w Ń->
   ż fa=↑o->o.data=.func (docDef d.name d.params d.body d.scope pm cd doc)->s₁.heap.CodeRec cd d.name->mg d.name=↑(Ù fa)->
   Í5->Á8->È1<=n->s₁.gens=ő->
   codeAny (model l.prog w) Æ):
  WalkO Ů:=by
 intro w s₀ s₁ mg mb G Y fa o pm cd doc dV kV ho hd Bz hD Dn hg args vals as Cb Dq hrd Ct hlo;obtain rfl:dV=.none:=Dflts.none hD Dw;obtain rfl:kV=.none:=Dflts.noKw hD;let#[a,vs,ns,rfl,rfl,CH,hints,hlen]:=SD hn Cb Ct;exact enter_call (codeAny_mono (call w s₀ s₁ mg mb fa o pm cd doc a vs ns G Y ho (fd_plain hd) Bz Dn CH hints hlen hg) λ r s' hq=>?_);let#[rfl,h2,h3,h4]:=hq;show#[Ě #[œ,œ,[],rfl,λ _=>rfl,œ,R4 l _,λ _=>#[List.Pairwise.nil,λ _ hm=>(nomatch hm)]],h2,h3,h4]
end Ux
namespace L2
open PySem É9 ŉ
theorem aG:∀ {vs:Ai}{ns:Ç9},Á8->Vals (Ŋ) vs
 | _,_,.nil=>.nil
 | _,_,.cons n t h=>.cons #[t,rfl] (aG h)
def gh ā:Prop:=∀ b,H b=none\/∃ o xs,H b=↑(.wM o Ű)
def LY ū{mg mb:Aq}{CX:uK}Ë0{fa a:Addr}È9 Ç2{sp:Sp}{s₁:ě}{vs:Ai}{ns:Ç9}
  (KX:K.In Ń) (CU:s₁.heap.Ns İ mg) (hb:s₁.heap.Ns builtinsNs mb) (hbb:∀ x:Str,x≠"__name__"->mb x=bootBuiltins x) (EH:s₁.heap.NoLimit) (hg:s₁.gens=ő)
  (ha:Í5) (hi:Á8) (hl:È1<=ê) (hr:ya k callerA)
  (F:∀ base:Heap,K.In base->base.Ns İ mg->xb Í2 CX k fa fd [x] sp) (hbind:Ŭ)
  (B7:∀ H:Hp,gh H->zU å a (Ŋ)->sp Å8)
  (hCX:∀ H e s',CX [] H s₁ (Î2) e s'->ó):
  codeAny (model P w) Æ:=by
 have rv:=aG hi;have lenV:=hi.length;have core:∀ H:Hp,gh H->zU å a (Ŋ)->yq P w H Ń->(∀ b,H b≠none->b=a)->(H a≠none->Ä1 a=none)->
   codeAny (model P w) Æ:=by
  intro H hO hS zt hA hK;have base_of:∀ {b:Addr}{o:Obj},ż b=↑o->H b=none->(rF Ń H).get? b=↑o:=λ e n=>KJ e n;have noA:∀ {b:Addr}{o:Obj}{es:Array DictEntry}{ep:Nat},ż b=↑o->o.data=.dict es ep->H b=none:=λ{b o es ep} e d=>by
   cases q:H b with
   | none=>rfl
   | some u=>
    ext Ç6;rw[ha] at e;cases e;have d':Data.seq vs.toArray _=Data.dict es ep:=d;cases d'
  have nsK:∀ {b:Addr}{m:Aq},s₁.heap.Ns b m->(rF Ń H).Ns b m:=λ{b m} #[o,es,ep,e,d,r]=>#[o,es,ep,base_of e (noA e d),d,r];have hKb:K.In (rF Ń H):=λ b o e=>base_of (KX b o e) (by
   cases q:H b with
   | none=>rfl
   | some u=>
    ext Ç6;rw[hK (by rw[q];simp)] at e;cases e)
  have hM:Mod K mg (rF Ń H):=#[hKb,nsK CU,#[mb,nsK hb,hbb],let #[mc,h1,h2]:=EH;#[mc,nsK h1,h2]];have e0:oK P w K mg (rF Ń H) callerA [] s₁ H:=#[rfl,hM,λ b o e=>MV e,Nat.le_of_eq (KI È),trivial,λ b hb=>Ż (show b∈([]:Ð4) from hb) #[],zt,.of_eq hg];exact codeAny_mono ((F _ hKb (nsK CU)).run callerA [] s₁ H #[[Ù a],[]] [Ù a] [Ù a] È hr e0 (hbind s₁ (Ù a)) (.cons rfl .nil) (B7 H hO hS)) λ r s' h=>?_;cases r with
  | error e=>show (hCX H e s' h).elim
  | ok fl=>
   cases fl with
   | ret u=>
    let#[v,H',os,bare,un,BW,r',q]:=h;have q':v=.bl true:=q;subst q';obtain rfl:u=Value.bool true:=r';exact#[rfl,OldK.of_keep λ b o e=>?_,os,bare];cases q:H b with
    | none=>show un.keep b o e q (by intro z;show Ż (show b∈([]:Ð4) from z) #[]) #[]
    | some u=>
     rcases hO b with z | ⟨ob,xs,z⟩
     .rw[q] at z;cases z
     .have z2:=un.uB b ob _ z;let#[e1,_]:=zt b _ z;let#[e2,_]:=BW b _ z2;rw[e] at e1;cases e1;show e2
   | _=>show É8 h
 cases hk:Ä1 a with
 | some o=>
  have e:=KX a o hk;rw[ha] at e;cases e;exact core (λ _=>none) (λ _=>Ě rfl) (ņ #[_,vs.toArray,_,hk,rfl,rfl,rfl,by rw[AK,lenV];show hl,by exists rv]) (λ b u z=>by have z':(none:ħ HO)=↑u:=z;cases z') (λ b z=>Ż rfl z) λ z=>Ż rfl z
 | none=>
  exact core (λ b=>if b=a then ↑(.wM { cls:=Î,data:=Ŧ } (ĕ (Ŋ))) else none) (λ b=>?_) (Ě (ņ #[{ cls:=Î,data:=Ŧ },Ğ rfl])) (λ b u z=>?_) (λ b z=>?_) λ _=>hk
  .by_cases hb:b=a
   .show ņ #[_,_,Ğ hb]
   .show Ě (ğ hb)
  .by_cases hb:b=a
   .have z':=(Ğ hb).symm.trans z;cases z';subst hb;show#[ha,by rw[AM];show hl,vs,_,rv,ha]
   .have z':=(ğ hb).symm.trans z;cases z'
  .by_cases hb:b=a
   .show hb
   .show Ż (ğ hb) z
def UQ {l:PySem.W.OpenLaw}{n k:Nat}Đ{K:Params->Ac}{CX:World->uK}{sp:World->Sp}Ç2
  Í1 (hn2:n<=ê) (Dw:d.params.defaults=[]) (hr:ya k callerA)
  (hY:∀ Ð0 (h:Heap),YP w h->(Ê0).In h)
  (F:∀ Ð0 (mg:Aq) (fa:Addr) (h:Heap),(Ê0).In h->h.Ns İ mg->mg d.name=↑(Ù fa)->
   ∃ fd:FuncData,(Ŭ)/\
    ∀ base:Heap,(Ê0).In base->base.Ns İ mg->xb l.prog w (Ê0) mg base (CX w) k fa fd [x] (sp w))
  (B7:∀ Ð0 ā Î0 (ns:Ç9),È1<=n->gh H->zU (Ê0) H a (Ŋ)->sp w Å8)
  (hCX:∀ Ð0 ā (s:ě) (e:ī) (s':ě),CX w [] H s (Î2) e s'->ó):
  PySem.W.WalkO Ů:=by
 exact Ux.Gs hn Dw λ w s₀ s₁ mg mb fa o pm cd doc a vs ns G Y ho hd Bz Dn CH hints hlen hg=>?_;have KX:=hY w _ Y;let#[fd,hb,hF]:=F w mg fa _ KX G.T.g Dn;show LY KX G.T.g G.T.b G.T.builtins G.T.nolimit hg CH hints (Br hlen hn2) hr hF hb (λ H hO hS=>B7 w H a ns hlen hO hS) λ H e s'=>hCX w H s₁ e s'
def uj (s:Stmt):Arguments:=match s with
 | .FunctionDef _ a È È È È=>a
 | _=>{ posonlyargs:=[],args:=[],vararg:=none,kwonlyargs:=[],kw_defaults:=[],kwarg:=none,defaults:=[] }
def yN (s:Stmt):È2:=match s with
 | .FunctionDef È b È È Ť=>b
 | _=>[]
def zH (s:Stmt):Scope:=match s with
 | .FunctionDef È È È sc Ť=>sc
 | _=>{ kind:=.function,names:=[],isGenerator:=đ,isCoroutine:=đ }
abbrev yM:uK:=λ _ _ _ _ _ _=>ó
abbrev E0:XK:=Î2
def jA ĩ:Passes yM X E0:=λ _ _ _ _ _ _ _ h=>î
structure vS Ý (x qual:Str) (st:Stmt) (f:Addr) (fd:FuncData):Prop where
 ex:∃ (oc:ī) (od:Æ2) (kV doc pm:ī) (an:Æ2) (Af ct:ī) (osl:Array (ħ ī)),
  fd=Ï/\Ä1 f=↑#[oc,od,.func fd,osl]/\Ì5
 kp:Í6
section
variable {ū}{mg:Aq}{base:Heap}
def vS.ok ė È9{N ps:ĝ}Ë0{sp:Sp}Â1 (S:we N ps (zH st)) (len:∀ vs H Q E,sp vs H Q E->vs.length=ps.length)
  (EY:∀ Â5 ā (vs:Å3) (Q:VK) (E:XK),Á1->sp vs H Q E->
   ∃ t,wH ň/\t { nx:=λ _ H'=>Q .zj H',rt:=Q } (start N vs) H):xb Í2 yM (k+1) f fd ps sp:=by
 ext Ņ;exact Xy lk Bz S len λ A outer s H vs Q E hr B7=>?_;let#[t,h,q]:=EY Af A outer s H vs Q E hr B7;show#[t,h.xA,q]
def vS.binds ė È9{ps:ĝ}Â1
  (h:∀ (kV doc pm:ī) (an:Æ2) (Af ct:ī) (us:Ai),us.length=ps.length->bindArgs (Ï) #[us,[]]=pure (ps.zip us)):Binds K fd ps []:=by
 ext Ņ;show .all (h kV doc pm an Af ct)
def ke ė{oc:ī}{od an:Æ2}{osl:Array (ħ ī)}{kV doc pm Af ct:ī}(l:Ä1 f=↑#[oc,od,.func (Ï),osl])
  (c:Ì5) (k:Í6):vS K x qual st f (Ï):=#[#[oc,od,kV,doc,pm,an,Af,ct,osl,rfl,l,c],k]
end
def dU {A:Around}Ë0(hr:ya k A):A.units+1<cLine:=En (Nat.add_le_add_left (by decide:1<=64) _) hr.units
section
variable {ĩ}
def pv Ä5 Ç2 Ś(hN:X.N[i]?=↑x:=by rfl) (hv:gf Î3 x:=by first | show Or.inl rfl | show Or.inr (Or.inl rfl) | show Or.inr (Or.inr rfl)) (hd:(x == ("__debug__":Str))=đ:=by decide)
  (Bz:(x == ("__classdict__":Str))=đ:=by decide):PE Ç3 (fG i):=RX hN hv hd Bz
end
def bE (H H':Hp):Prop:=∀ b o,H b=↑o->H' b=↑o
end L2
namespace PySem
theorem cT Ð1:∀ (l:Ş) (acc:Ċ),(∀ y∈l,y.2=À7->∃ c,Â2 y.1=↑c)->
  ∃ cl,(forIn l acc (λ(x:Str×NameKind) r=>if (x.2 == Ă)=true then do let a <- cellOf env x.1;pure (Ã0 ((x.1,a)::r)) else pure (Ã0 r)):Sem (Ċ))=pure cl/\
   (∀ x c,Ê1->acc.lookup x=↑c\/((x,Ă)∈l/\Â2 x=↑c))/\(∀ x,(x,Ă)∈l\/(acc.lookup x).isSome->Î4)
 | [],acc,_=>#[acc,rfl,λ x c h=>Ě h,λ x h=>by exists h]
 | Î5::l,acc,h=>by
  by_cases hk:k=À7
  .subst hk;let#[c,hc]:=h (n,À7) Au rfl;let#[cl,e1,e2,e3]:=cT l ((n,c)::acc) λ y hy=>h y (Ay _ hy);exact Ä2
   .rw[DS];simp![beq_self_eq_true,if_true,cellOf,hc];show e1
   .ext Ë9
    .rw[Bj] at q;cases Df:x == n with
     | true=>
      rw[Df] at q;have:x=n:=by exists Df
      subst this;exact ņ #[Au,?_];rw[hc];show q
     | đ=>rw[Df] at q;show Ě q
    .show ņ #[Ay _ q1,q2]
   .exact e3 x ?_;rcases hx with hx | hx
    .ext ů
     .have:x=n:=congrArg Prod.fst q;subst this;show ņ (by simp[Bj])
     .show Ě q
    .exact ņ ?_;rw[Bj];cases x == n <;> simp[hx]
  .have hb:(k == Ă)=đ:=by exists hk
   let#[cl,e1,e2,e3]:=cT l acc λ y hy=>h y (Ay _ hy);exact Ä2
   .rw[DS];simp![hb,Bs,if_false];show e1
   .ext Ë9
    .show Ě q
    .show ņ #[Ay _ q1,q2]
   .exact e3 x ?_;rcases hx with hx | hx
    .ext ů
     .show Ż (congrArg Prod.snd q).symm hk
     .show Ě q
    .show ņ hx
def Wx Ë1 Ð1(h:∀ y∈ ć,y.2=À7->∃ c,Â2 y.1=↑c):
  ∃ cl,closureFor Ć env=pure cl/\(∀ x c,Ê1->Ç/\Â2 x=↑c)/\∀ x,Ç->Î4:=by
 let#[cl,e1,e2,e3]:=cT (env:=env) ć [] h;exact#[cl,?_,λ x c hx=>?_,λ x hx=>e3 x (Ě hx)]
 .simp![closureFor];rw[e1];rfl
 .rcases e2 x c hx with q | q
  .simp at q
  .show q
theorem Y4 Ð1:∀ {names:Ş}Ç2,names.lookup x=↑ À7->
  Í=↑ Î6\/
  Í=↑ À7
 | [],_,h=>by simp at h
 | Î5::r,x,h=>by
  have ih:=@Y4 env r x;change Ñ=_\/Ñ=_;cases hx:x == n with
  | true=>
   simp![Bj,hx] at h;cases h;by_cases hc:(Ă == Ă&&À4&&env.kindOf n == ↑ Î6)=true
   .rw[Ğ hc];simp[Bj,hx]
   .rw[ğ hc];simp[Bj,hx]
  | đ=>
   simp![Bj,hx] at h;by_cases hc:À=true
   .rw[Ğ hc];simp![Bj,hx];show ih h
   .rw[ğ hc];simp![Bj,hx];show ih h
theorem Zx Ð1:∀ {names:Ş}Ç2,
  (Í=↑ Î6\/
  Í=↑ À7)->(x,Ă)∈names\/(x,Ĉ)∈names
 | [],_,h=>by simp at h
 | Î5::r,x,h=>by
  have ih:=@Zx env r x;have h':Ñ=↑ Î6\/Ñ=↑ À7:=h;cases hx:x == n with
  | true=>
   have Df:x=n:=by exists hx
   subst Df;by_cases hc:(k == Ă&&À4&&env.kindOf x == ↑ Î6)=true
   .simp![BN] at hc;have:k=À7:=by exists hc.1.1
    subst this;show Ě Au
   .rw[ğ hc] at h';simp![Bj,beq_self_eq_true] at h';rcases h' with q | q
    .cases Be q;show ņ Au
    .cases Be q;show Ě Au
  | đ=>
   exact (ih ?_).imp (Ay _) (Ay _);by_cases hc:À=true
   .rw[Ğ hc] at h';simp![Bj,hx] at h';show h'
   .rw[ğ hc] at h';simp![Bj,hx] at h';show h'
theorem cX:∀ (names:Ş) (h:Heap) (acc:Ċ),∃ own,cellsFrom Î7 names acc=own++acc/\(∀ p∈own,(p.1,Ĉ)∈names/\Î7<=p.2/\(pushCells h names).IsCell p.2 none)/\
  (own.Pairwise λ x y=>x.2≠y.2)/\∀ x,(x,Ĉ)∈names->(Ä3 x).isSome
 | [],h,acc=>#[[],rfl,λ _ hp=>(by cases hp),.nil,λ _ hx=>(by cases hx)]
 | Î5::r,h,acc=>by
  unfold cellsFrom pushCells;split
  .rename_i hk;have hk':k=Î6:=by exists hk
   subst hk';let#[own,e1,e2,e3,e4]:=cX r (h.push { cls:=Ì4 "cell",data:=Î6 none }) ((n,Î7)::acc);rw[Å4] at e1 e2;exact#[own++[(n,Î7)],by rw[e1,Em];rfl,λ p hp=>?_,?_,λ x hx=>?_]
   .rcases A5.mp hp with q | q
    .let#[f1,f2,f3]:=e2 p q;show#[Ay _ f1,⋯,f3]
    .cases AI.mp q;show#[Au,An _,_,Î8 È È (AJ _ rfl),rfl]
   .exact DR.mpr #[e3,El È,λ a ha b hb=>?_];cases AI.mp hb;show Bp (e2 a ha).2.1
   .rw[DQ,Option.isSome_or];ext ů
    .cases q;simp[Bj]
    .rw[e4 x q];rfl
  .rename_i hk;let#[own,e1,e2,e3,e4]:=cX r h acc;exact#[own,e1,λ p hp=>#[Ay _ (e2 p hp).1,(e2 p hp).2],e3,λ x hx=>?_];ext ů
   .cases q;simp at hk
   .show e4 x q
def Li {M:Model}{A:Around}{E:Aj}{s:ě}Ë1{globals:Addr}{closure:Ċ}{qual:Str}Ð1{Q:Env->ě->Prop}
  (hQ:∀ h',h'=pushCells (À5) ć->Q (newEnv Ć Ã globals (cellsFrom (Ã+1) ć closure) qual none .none ↑env builtinsNs) { s with heap:=h' }):
  wpAny M A (newFunctionEnv Ć globals closure [] qual none .none ↑env) Q E s:=by
 simp![newFunctionEnv,Option.isSome_some,if_true];exact gV (wpAny_alloc ?_);exact gV (wpAny_layCells _ (λ name kind cells=>by cases hkc:kind == Ĉ <;> simp[hkc]) È È ?_);rw[show ({ s with heap:=À5 }:ě).heap.objs.size=Ã+1 from Å4 ..];simp![List.forIn_nil];show gV (Ae (Ae (hQ _ rfl)))
end PySem
namespace L2
open PySem É9 ŉ
def uO É0 (σ:St):St:=pick.map λ o=>o.bind λ i=>(σ[i]?).join
def yG Ū (N':ĝ) (Ć:Scope) (cl:Ċ) (C:Addr) (s:ě) ā (ex:Ð4):Cx:=
 { X with N:=N',s₀:=s,H₀:=H,env:=ŭ,outer:=X.stack,stack:=X.stack,ex:=ex,fn:=λ x=>Į (Ġ x=↑ Î6),pn:=[],xe:=λ _ _=>ó }
def nu (N N':ĝ) É0 (Ć:Scope):Bool:=(N'.zip pick).all λ p=>match p.2 with
 | none=>true
 | some j=>Į (N[j]?=↑p.1)&&Į (Ġ p.1=↑ À7)
structure rX Ū (N':ĝ) É0 (Ć:Scope):Prop where
 kind:scope.kind=.function
 uniq:∀ y∈ ć,Ġ y.1=↑y.2
 free:∀ y∈ ć,y.2=À7->Û y.1=↑ Î6\/Û y.1=↑ À7
 len:pick.length=N'.length
 ok:nu X.N N' pick Ć=true
def nu.get {N N':ĝ}Ð2 Ë1(h:nu N N' pick Ć=true) {i j:Nat}Ç2(h1:N'[i]?=↑x) (h2:pick[i]?=↑↑j):N[j]?=↑x/\Ġ x=↑ À7:=by
 unfold nu at h;have hm:(x,↑j)∈N'.zip pick:=by
  exact AW (i:=i) ?_;rw[List.getElem?_zip_eq_some];show#[h1,h2]
 have q:=BL.mp h _ hm;simp![BN,decide_eq_true_eq] at q;show q
def uO.get Ð2 ŝ Ë6{v:V}(h:Ã1[i]?=↑↑v):∃ j,pick[i]?=↑↑j/\σ[j]?=↑↑v:=by
 unfold uO at h;rw[AG] at h;cases e:pick[i]? with
 | none=>rw[e] at h;cases h
 | some o=>
  rw[e] at h;cases o with
  | none=>simp at h
  | some j=>
   exact#[j,rfl,?_];simp![Option.map_some,Option.some.injEq,Ba] at h;cases q:σ[j]? with
   | none=>rw[q] at h;simp at h
   | some w=>rw[q] at h;simp at h;rw[h]
def PF Ū (ifs:Ĩ) (t:TT):Prop:=∀ (EW:Ak) (s:ě) (σ:St) ā (Q:Bool->Ĝ),Inv X EW č s->t ď->
 wpAny Ó (forIn ifs true λ c r=>if r=true then do let ok <- isTrue c ì (eval c ì);pure (Ã0 ok) else pure (Ã0 r)) (TP ř Q) X.xe s
def RU ĩ:PF X [] (λ _ H Q=>Q true H):=λ _ _ _ H _ I h=>wpAny_tests_nil #[H,I,h]
def RT ĩ{c:Expr}{t:TT}(h:PT X c t):PF X [c] t:=λ EW s σ H Q I q=>wpAny_tests_one (h EW s ď I q)
def fJ É0 (wi:TI) (g:TG) (tc:TT) (te:TE):TE:=fun σ H Q=>wi č λ J H1=>∀ D,H1 D=none->∃ W:Ì6,(∃ m,W 0 m Ã1 (upd H1 D (ĕ [])))/\
 Á
section
variable {ĩ}{Ò}{N':ĝ}{Ð2}{Ë1}{cl:Ċ}{C:Addr}{fp:Ð4}
def K1 (S:ŧ) Ô ı (Av:∀ b∈fp,b<Ã)
  {h1:Heap}(c1:∀ x c,Ê1->(Ç/\ş=↑c)\/(È3/\C<c/\h1.IsCell c none)) (c2:∀ x,Ç\/È3->Î4) (c3:∀ x y c,Ê1->cl.lookup y=↑c->x=y)
  {m1:Aq}{t':Nat}(hC:Ã<C) (old:∀ b o,į b=↑o->h1.get? b=↑o) (CU:h1.Ns C m1)
  (hD:h1.get? Ã=↑{ cls:=Î,data:=.seq ő 0 }):
  Inv Â [] Ã1 (upd H Ã (ĕ [])) { s with heap:=h1,toks:=t' }:=by
 have hDn:H Ã=none:=Ä0 Œ;have hCn:H C=none:=Ä0 (BE hC);have cf:∀ x c,Ê1->(∃ v,h1.IsCell c v)/\(c<Ã\/C<c)/\upd H Ã (ĕ []) c=none:=λ x c e=>by
  rcases c1 x c e with ⟨_,q⟩ | ⟨_,q1,q2⟩
  .let#[v,o,z1,z2]:=I.cell x c q;have hl:=Ar z1;show#[#[v,o,old È z1,z2],Ě hl,by rw[zP (AF hl)];show I.vM x c q]
  .show#[#[_,q2],ņ q1,by rw[zP (Bp (B1 hC q1))];show Ä0 (BE (B1 hC q1))]
 exact#[#[I.ok.mod,S.kind,I.ok.glob,I.ok.blt,BE hC,c3,λ x hx=>?_,λ x c hf e=>?_,I.ok.hd,I.ok.frames,Ě rfl,
  λ b hb=>#[AF (B1 (Av b hb) hC),λ x c e=>?_],I.bs,Br I.ok.sL I.sz,λ b o e hb=>?_,λ b hb z=>?_,I.stack,I.fN],
  rfl,I.bare,Un.laid old Œ hDn,#[m1,CU,λ i x v e1 e2 e3=>?_],λ x c e=>?_,?_,λ x c e=>?_,Ä6,I.zt.laid old Œ ?_,?_]
 .show DT.mp (c2 x (Zx hx))
 .have hf':=of_decide_eq_true (show Į (Ġ x=↑ Î6)=true from hf);rcases c1 x c e with ⟨q,_⟩ | ⟨_,q,_⟩
  .rw[S.uniq _ q] at hf';cases hf'
  .show BE (B1 hC q)
 .rcases c1 x c e with ⟨_,q⟩ | ⟨_,q,_⟩
  .show (Æ3).2.2.2.2.1 x c q
  .show Bp (B1 (B1 (Av b hb) hC) q)
 .rcases (Æ3).2.2.2.1 with z | z
  .show I.ok.p9 b o e z
  .show Ż (Bf (Ar (I.ok.bs b o e).1) z) (B6 _)
 .rcases Am.mp (I.fM b z) with q | q
  .show (Æ3).2.1 q
  .show (Æ3).2.2.1 q
 .let#[j,p1,p2]:=uO.get e2;let#[q1,q2]:=nu.get S.ok e1 p1;let#[m0,n0,l0]:=I.loc;have hm:Ç:=ĸ q2;have hk:Û x=↑ Î6\/Û x=↑ À7:=S.free _ hm rfl;let#[u,r,l]:=l0 j x v q1 p2 (ņ hk);exact#[u,r,ņ #[Y4 q2,?_]];rcases l with ⟨k,_⟩ | ⟨_,c,e,z⟩
  .have k':Û x=↑.local:=k;rcases hk with hk | hk <;> (rw[k'] at hk;cases hk)
  .let#[c',e']:=DT.mp (c2 x (Ě hm));have e'':ş=↑c':=by
    rcases c1 x c' e' with ⟨_,q⟩ | ⟨q,_⟩
    .show q
    .have:=S.uniq _ q;rw[q2] at this;cases this
   rw[e] at e'';cases e'';let#[o,z1,z2]:=z;show#[c,e',o,old È z1,z2]
 .show (cf x c e).1
 .change upd H Ã (ĕ []) C=none;rw[zP (Bp hC)];show hCn
 .show (cf x c e).2.2
 .show#[AZ _,[],0,.nil,hD]
 .change (uO pick σ).length=N'.length;unfold uO;rw[AM];show S.len
def Ky É1 Ô ı (hC:Ã<C)
  (I':Æ4) (hoC:s'.heap.get? C=↑oC):Ê2:=by
 have J:Inv ř H' s':=I.WB (ch:=fp) I'.os I'.base I'.zt I'.bare λ b hb=>#[(Æ3).2.2.2.1,(Æ3).2.1,(Æ3).2.2.2.2.1,(Æ3).2.2.2.2.2];exact J.eG λ p hp=>(A5.mp hp).elim (λ z=>J.pin p (A2 _ z)) λ z=>?_;obtain rfl:p=(C,oC):=AI.mp z;exact#[hoC,I'.free,Bp (B1 I.lt hC),I.Yq (BE hC),λ v hv=>?_];let#[m,#[o,es,ep,ho,hd,_],_]:=I'.loc;have ho':s'.heap.get? C=↑o:=ho;rw[hoC] at ho';cases ho';rw[hd] at hv;cases hv
def YZ É1{h':Heap}Ô (hC:Ã<C) (J:Inv X (EW++[(C,oC)]) σ' H' s') (hs:Heap.SameBut C s'.heap h'):Inv X EW σ' H' { s' with heap:=h' }:=by
 have J':=J.mR;have hp:=J.pin Ë2;have lt:∀ c,c<Ã->c≠C:=λ c h=>AF (B1 h hC);exact J'.turned (t':=s'.toks) (it:=C) (λ b o hb e=>hs.extBut b o hb e) hp.2.1 hp.2.2.1 (ņ (Br I.sz (BE hC))) (λ x c e z=>?_) (λ p hq z=>?_)
 .let#[v,q]:=I.cell x c e;show lt c q.lt z
 .show lt p.1 (Ar (I.pin p hq).1) z
end
section
variable {ĩ}{N':ĝ}{Ð2}{Ë1}{elt iter tg:Expr}{ifs:Ĩ}{Ś}{wi:TI}{g:TG}{tc:TT}{te:TE}
def LR Ò{it C:Addr}À8{W:Ì6}{Q:V->Ĝ}{R:Result->ě->Prop}{D:Addr}
  ċ (hg:PG Â tg g) (hf:PF Â ifs tc) (he:PE Â elt te)
  Å1 ı (hstat:∀ b∈fp,b≠C/\b∉yY X.stack/\∀ x c,Ê1->c≠b)
  (turn:Á)
  (fin:∀ σ' H' s',Æ4->Q Î9 H'->R (.ok .next) s')
  {m0:Nat}{σ0:St}{H0:Hp}{s0:ě}(I0:Inv Â [] σ0 H0 s0) (t0:tn 0 s0.heap) (f0:∀ b∈fp,H0 b=none) (w0:W 0 m0 σ0 H0):
  codeAny Ó (.compLoop Å 0 (Ù it) Î9 (ŭ)) R s0:=by
 have stat:∀ {H':Hp},Ã3->∀ b∈fp,uI Â [] H' b:=λ hn b hb=>#[hn b hb,(hstat b hb).1,(hstat b hb).2.1,Ě hb,(hstat b hb).2.2,Ä6];exact codeAny_loop rfl (λ n s'=>∃ i σ' H',Æ4/\tn i s'.heap/\Ã3/\W i n σ' H') (λ n s3 hI=>?_) m0 #[0,σ0,H0,I0,t0,f0,w0];let#[i,σ3,H3,I3,st3,fr3,w3]:=hI;change wpAny _ X.A ((compTurn Å 0 (Ù it) Î9 (ŭ)).onRaise (λ x=>do noteFrame x (ŭ);theTreesLotGoes x)) È s3;exact wpAny_noted ?_;rw[compTurn_list];exact gV (wpAny_standAt (gV ?_));rcases turn i n σ3 H3 w3 with ⟨stop,qn⟩ | ⟨go,step⟩
 .exact zD (T.done Â rfl rfl rfl hc Ì0 stop) λ r s4 #[hr,I4]=>?_;subst hr;show Ae (fin σ3 H3 s4 I4 qn)
 .exact zD (T.item Â rfl rfl rfl hc Ì0 go) λ r s4 #[u,hr,h4]=>?_;subst hr;exact gV (zD h4 λ _ s5 #[x,H5,I5,r5,y5,st5,fr5]=>?_);have I5':=I5.pinned (stat fr5) (T.obj È st5);exact gV (za4 (hg _ s5 σ3 H5 x u _ I5' r5 (step x H5 y5)) (λ _ s6 #[σ6,H6,I6,q6]=>?_) ŏ);exact gV (za4 (hf _ s6 σ6 H6 _ I6 q6) (λ ok s7 #[H7,I7,q7]=>?_) ŏ);have back:∀ {H8:Hp}{s8:ě},Inv Â ([]++lx fp s5.heap) σ6 H8 s8->(∃ m',m'<n/\W (i+1) m' σ6 H8)->∃ m,m<n/\∃ i σ' H',Inv Â [] σ' H' s8/\tn i s8.heap/\Ã3/\W i m σ' H':=λ{H8 s8} I8 #[m',hm,w8]=>by
   exact#[m',hm,i+1,σ6,H8,I8.mR,T.keep Ť st5 λ b hb o e=>(Ä7).1,λ b hb=>?_,w8];let#[o,e,d]:=T.obj È st5 b hb;show (Ä7).2.1
  cases ok with
  | đ=>
   rw[ğ B3] at q7;show Ae #[rfl,back I7 q7]
  | true=>
   rw[Ğ rfl] at q7;exact gV (gV (za4 (he _ s7 σ6 H7 _ I7 q7) (λ uy s8 #[y,H8,I8,r8,ys,m',e8,z8,hm,w8]=>?_) ŏ));exact gV (za4 (Yy (X:=yG X N' Ć cl C s H fp) _ s8 σ6 H8 Î9 [y] Î9 [uy] (λ _ H9=>W (i+1) m' σ6 H9) I8 rfl (.cons r8 .nil) #[D,ys,y,rfl,rfl,e8,z8,w8]) (λ _ s9 #[_,H9,I9,_,q9]=>?_) ŏ);show Ae (Ae #[rfl,back I9 #[m',hm,q9]])
def YG Ò{it:Addr}À8{Q:V->Ĝ}{E:Aj}{RR:ī->Addr->Result->ě->Prop}
  (S:ŧ) ċ Ð
  (c1:∀ x c,Ê1->Ç/\ş=↑c) (c2:∀ x,Ç->Î4)
  Ô Å1 (t0:tn 0 s.heap) ı
  (rd:∀ D,H D=none->∃ W:Ì6,(∃ m,W 0 m Ã1 (upd H D (ĕ [])))/\
   Á)
  (fin:∀ C D oC H' s',Ã<C->Ê2->s'.heap.get? C=↑oC->(∃ m,s'.heap.Ns C m)->Q Î9 H'->RR Î9 C (.ok .next) s'):
  wpAny Ó (newList []) (λ acc s₃=>wpAny Ó (newFunctionEnv Ć X.env.globals cl [] X.env.qual none .none ↑ ì) (λ cenv s₄=>
   codeAny Ó (.compStart Å 0 (Ù it) acc { cenv with Ć:=relabel Ć ì }) (RR acc cenv.locals) s₄) E s₃) E s:=by
 exact zaA (Li λ h₁ eh=>?_);dsimp only at eh ⊢;generalize hH2:s.heap.push { cls:=Î,dict:=none,data:=.seq ([]:Ai).toArray }=H2 at eh ⊢;have hC:Ē=Ã+1:=by rw[<- hH2,Å4]
 have Av:Ã<Ē:=by rw[hC];show B5 _
 have up:∀ b o,H2.get? b=↑o->h₁.get? b=↑o:=λ b o e=>by rw[eh];show Î8 È È (tp _ e)
 have old:∀ b o,į b=↑o->h₁.get? b=↑o:=λ b o e=>up b o (hH2▸tp _ e);have A0:h₁.get? Ã=↑{ cls:=Î,data:=.seq ő 0 }:=up È (hH2▸AJ _ rfl);have hns₁:h₁.Ns Ē λ _=>none:=by rw[eh];show (Heap.Ns.new H2 (Ì4 "dict")).keeps (Î8 È)
 let#[own,o1,o2,o3,o4]:=cX ć (H2.push { cls:=Ì4 "dict",data:=.dict ő }) cl;rw[Å4] at o1 o2;rw[<- eh] at o2;rw[o1];have d1:∀ x c,Ŕ x=↑c->(Ç/\ş=↑c)\/(È3/\Ē<c/\h₁.IsCell c none):=λ x c e=>by
  rw[DQ] at e;cases q:Ä3 x with
  | some c'=>
   rw[q] at e;cases e;show ņ (o2 _ (ĸ q))
  | none=>rw[q] at e;show Ě (c1 x c e)
 have d2:∀ x,Ç\/È3->(Ŕ x).isSome:=λ x hx=>by
  rw[DQ,Option.isSome_or];rcases hx with hx | hx
  .rw[c2 x hx,C8]
  .rw[o4 x hx];rfl
 have d3:∀ x y c,Ŕ x=↑c->Ŕ y=↑c->x=y:=λ x y c e1 e2=>by
  rw[DQ] at e1 e2;have low:∀ x c,Ê1->c<Ē:=λ x c e=>by
   let#[v,q]:=I.cell x c (c1 x c e).2;show B1 q.lt Av
  have hi:∀ x c,Ä3 x=↑c->Ē<c:=λ x c e=>(o2 _ (ĸ e)).2.1;cases q1:Ä3 x with
  | some c1'=>
   rw[q1] at e1;cases e1;cases q2:Ä3 y with
   | some c2'=>rw[q2] at e2;cases e2;show PySem.name_of_addr o3 (ĸ q1) (ĸ q2)
   | none=>rw[q2] at e2;show Ż (low y _ e2) (Nat.lt_asymm (hi x _ q1))
  | none=>
   rw[q1] at e1;cases q2:Ä3 y with
   | some c2'=>rw[q2] at e2;cases e2;show Ż (low x _ e1) (Nat.lt_asymm (hi y _ q2))
   | none=>rw[q2] at e2;show I.ok.inj x y c (c1 x c e1).2 (c1 y c e2).2
 have Du:∀ b∈fp,b<Ã:=λ b hb=>by
  let#[o,e,_]:=T.obj È t0 b hb;show Ar e
 have hDn:H Ã=none:=Ä0 Œ;let#[W,#[m0,w0],turn]:=rd Ã hDn;have I0:=K1 (t':=s.toks) S I Bx Du d1 d2 d3 Av old hns₁ A0;have t1:tn 0 h₁:=T.keep Ť t0 λ b _ o e=>old b o e;have AD:∀ b∈fp,b≠ Ē/\b∉yY X.stack/\∀ x c,Ŕ x=↑c->c≠b:=λ b hb=>I0.ok.km b hb |> λ q=>#[q.1,I0.ok.pW b hb,q.2]
 have loop:codeAny Ó (.compLoop Å 0 (Ù it) (Ù Ã) (compEnvC Ć (own++cl) Ē ì)) (RR (Ù Ã) Ē) { s with heap:=h₁ }:=by
  exact LR (σ:=σ) hc (hg È Ť) (hf È Ť) (he È Ť) T Bx AD turn (fun σ' H' s' I' q=>?_) I0 t1 (λ b hb=>?_) w0
  .let#[m,hn,_]:=I'.loc;have hn':s'.heap.Ns Ē m:=hn;let#[oC,es,ep,ho,hr]:=id hn';show fin È oC H' s' Av (Ky I Bx Av I' ho) ho #[m,hn'] q
  .change upd H Ã (ĕ []) b=none;rw[zP (AF (Du b hb))];show (Æ3).1
 show codeAny_compStart_list loop (T.self _ 0 Ť t1 loop)
def Qh (S:ŧ) ċ (hi:PI X tg iter wi) Ð
  (hs:ĭ:=by intro _;rfl):PE X Å (fJ pick wi g tc te):=by
 ext ù;rw[eval_ListComp];exact wpAny_comprehension_free (use:=none) ą;ext ō;exact YG (RR:=λ acc C=>compPost Ó X.xe none (EP ř Q) acc C) S hc hg hf ų;let#[m,hn]:=hn;show#[m,hn,λ h' hs'=>#[Ù D,H',YZ I2 hC J' hs',rfl,q]]
def Rv Ë6{y:Str}{py Bl:Pos}(S:ŧ) ċ (hi:PI X tg iter wi) Ð
  (hN:X.N.Nodup) (hy:X.N[i]?=↑y) (hx:Loc Î3 y)
  (BH:swapsWith Å ↑(.Name y py) Bl.line ì=pure true:=by rfl)
  (Cd:X.fn y=true\/Û y=↑.local:=by first | show Ě rfl | show ņ rfl | assumption)
  (hs:ĭ:=by intro _;rfl):PS X (.Assign [.Name y py] Å Bl) (mV (fJ pick wi g tc te) (nU i)):=by
 ext ù;rw[exec_Assign_Name_used È È BH];exact gV (wpAny_standAt (gV ?_));change wpAny _ X.A (do let _ <- comprehension Å Ć ì _ (newList []) đ (eval iter ì) ↑ Á2) È s;exact gV (za4 (wpAny_comprehension_free (use:=↑ Á2) (Q:=λ _ s'=>SP X EW Q .next s') ą) (λ _ s' hq=>Ae (Ae hq)) λ _ _ e=>e)
 ext ō;exact YG (Q:=λ x H1=>nU i x σ H1 Q.nx) (RR:=λ acc C=>compPost Ó X.xe ↑ Á2 (λ _ s'=>SP X EW Q .next s') acc C) S hc hg hf ų;change wpAny _ X.A (assign (.Name y py) ì Î9) Ť;exact wpAny_assign_Name (jq J' hN hy hx (v:=Ù D) rfl (λ s3 J3=>?_) Cd);have hp:=(J3.pin Ë2).1;let#[m,o,es,ep,ho',hr]:=hn;have:o=oC:=Be (ho'.symm.trans ho);subst this;show#[m,#[o,es,ep,hp,hr],λ h' hs'=>#[_,H',YZ I2 hC J3 hs',q]]
end
end L2
namespace L3
open PySem É9 L2
open ŉ hiding St
inductive D where
 | zj | bl (b:Bool) | int (i:Int) | str (x:Str) | tup (ds:ÿ) | vb (ds:ÿ) | ref Î0 | err (c f:Str) (d:D)
def ml Ý ā Î0 (xs:Å3):Prop:=
 (∃ o,H a=↑(.wM o Ű))\/
  ∃ (o:Obj) (Ab:AB) (n:Nat),Ä1 a=↑o/\o.cls=Î/\o.dict=none/\o.data=.seq Ab n/\Ab.size<=ê/\Vals xs Ab.toList
def ml.sq Ì1 ģ Ï2 Ü(h:ml Ð3):zU Ð3:=by
 rcases h with h | h
 .show Ě (ņ h)
 .show ņ h
abbrev uG:List ī:=[Ì4 "ValueError",Ì4 "Exception",Ì4 "BaseException",Ì4 "object"]
abbrev jF:ĝ:=["__getattribute__","__getattr__","__class__","__setattr__","place","pair","way","times","told","name","row"]
def qL Ý Â6 (bm:Ai) (N:Addr):Prop:=
 (∃ (q:Str) (bs:Ai) (sn:ĝ) (sub:Ai) (ab:Bool) (col:ħ Bool) (dd:Æ2) (k0 k1 k2 k3 k5:ħ ī),Ä1 C=↑(excClassObj c q C N bs bm true sn sub ab col dd k0 k1 k2 k3 k5 "ValueError.__new__"))/\
 PySem.W.nsOkIn K N=true/\∀ n∈jF,ġ K N n=↑none
structure qQ Ý (c:Str) (C P N NP:Addr):Prop where
 own:qL K c C (Ù P::uG) N
 par:qL K "PurseError" P uG NP
 top:ġ K İ c=↑↑(Ù C)
 ZD:ġ K İ "PurseError"=↑↑(Ù P)
 RA:ġ K NP "__init__"=↑none
def qR Ý Â6:Prop:=∃ P N NP,qQ K c C P N NP
def ownIn Ý Â6 (bm:Ai):Æ2:=match Ä1 C with
 | some #[Ì4 "type",_,.cls cd,sl]=>(match cd.mro,sl.toList with
  | Ù C'::bm',[_,_,_,_,↑(Ã9 n),_]=>if C' == C&&n == "ValueError.__new__"&&!cd.hasDel&&bm' == bm&&cd.hasDict&&cd.name == c&&PySem.W.nsOkIn K cd.ns&&jF.all (λ n=>ġ K cd.ns n == ↑none) then ↑cd.ns else none
  | _,_=>none)
 | _=>none
def ZY Ì1{c:Str}{C N:Addr}{bm:Ai}(h:ownIn K c C bm=↑N):qL K c C bm N:=by
 unfold ownIn at h;ext Ĭ
 .rename_i dd cd sl ho;ext Ĭ
  .rename_i C' bm' k0 k1 k2 k3 n k5 hm hs;ext Ĭ
   .rename_i hc;cases h;simp![BN,beq_iff_eq,Bool.not_eq_true',BL] at hc;let#[#[#[#[#[#[#[rfl,rfl],Dx],rfl],hhd],rfl],zt],hn]:=hc;let#[nm,bs,mro,ns,qn,hd,sn,sub,ab,col,del]:=cd;dsimp only at hm Dx zt hn hhd;subst hm Dx hhd;have BU:sl=[k0,k1,k2,k3,↑(Ã9 "ValueError.__new__"),k5].toArray:=by
     let#[l]:=sl;simp only at hs;rw[hs]
    subst BU;show#[#[qn,bs,sn,sub,ab,col,dd,k0,k1,k2,k3,k5,ho],zt,hn]
   .cases h
  .cases h
 .cases h
def iy Ý (c:Str):ħ (Addr×Addr×Addr×Addr):=match ġ K İ c,ġ K İ "PurseError" with
 | some ↑(Ù C),↑↑(Ù P)=>(match ownIn K c C (Ù P::uG),ownIn K "PurseError" P uG with
  | some N,↑NP=>if ġ K NP "__init__" == ↑none then ↑(C,P,N,NP) else none
  | _,_=>none)
 | _,_=>none
def XI Ì1{c:Str}{C P N NP:Addr}(h:iy K c=↑(C,P,N,NP)):qQ K c C P N NP:=by
 unfold iy at h;ext Ĭ
 .rename_i h1 h2;ext Ĭ
  .rename_i h3 h4;ext Ĭ
   .rename_i h5;cases h;show#[ZY h3,ZY h4,h1,h2,beq_iff_eq.mp h5]
   .cases h
  .cases h
 .cases h
def vT (e C:Addr) (dx:Æ2):HO:=.ext λ h=>∃ oe vs,h.get? e=↑oe/\oe.cls=Ù C/\oe.dict=dx/\oe.data=.fields vs
def Xd ā (f:Str) (w:V):Æ2->Prop
 | some x=>H x=↑(.xd [(f,w)])
 | none=>f=""/\w=.zj
mutual
def zf Ý ā:D->V->Prop
 | .zj,v=>v=.zj
 | .bl b,v=>v=.bl b
 | Ħ i,v=>v=Ħ i
 | .str x,v=>v=.str x
 | ś,v=>∃ a xs,v=Ù a/\yk Ð3/\í
 | .vb ds,v=>∃ a xs,v=Ù a/\ml Ð3/\í
 | Ù a,v=>v=Ù a
 | .err c f d,v=>∃ e C dx w,v=Ù e/\(qR K c C/\H e=↑(vT e C dx)/\Xd H f w dx)/\zf å d w
def zo Ý ā:ÿ->Å3->Prop
 | [],xs=>xs=[]
 | d::ds,xs=>∃ x r,xs=x::r/\ŕ/\zo å ds r
end
structure Ext (H H':Hp):Prop where
 tup:∀ b xs,H b=↑(.tup xs)->H' b=↑(.tup xs)
 wM:∀ b o u,H b=↑(.wM o u)->H' b=↑(.wM o u)
 ext:∀ b φ,H b=↑(.ext φ)->H' b=↑(.ext φ)
 xd:∀ b fs,H b=↑(.xd fs)->H' b=↑(.xd fs)
def Ext.refl ā:Ext H H:=#[λ _ _ h=>h,λ _ _ _ h=>h,λ _ _ h=>h,λ _ _ h=>h]
def Ext.trans {H H1 H2:Hp}(a:Ext H H1) (b:Ext H1 H2):Ext H H2:=#[λ c xs h=>b.tup c xs (a.tup c xs h),λ c o u h=>b.wM c o u (a.wM c o u h),λ c u h=>b.ext c u (a.ext c u h),λ c u h=>b.xd c u (a.xd c u h)]
def Ext.new ģ ſ(h:H p=none) (o:HO):Ext H (upd H p o):=
 #[λ b xs q=>ĵ,λ b ob u q=>ĵ,λ b u q=>ĵ,λ b u q=>ĵ]
theorem Ext.lst ģ ſ Ü(h:H p=↑ Ű) (o:HO):Ext H (upd H p o):=
 #[λ b ys q=>é,λ b ob u q=>é,λ b u q=>é,λ b u q=>é]
def Ext.ju õ Ï2 Ü ç (h:yk Ð3):yk À6 a xs:=by
 rcases h with (h | ⟨o,h⟩) | h
 .show Ě (Ě (e.tup È h))
 .show Ě (ņ #[o,e.wM Ť h])
 .show ņ h
def Ext.jv õ Ï2 Ü ç (h:ml Ð3):ml À6 a xs:=by
 rcases h with ⟨o,h⟩ | h
 .show Ě #[o,e.wM Ť h]
 .show ņ h
section
variable {õ}
def Xd.ext {H H':Hp}{f:Str}{w:V}{dx:Æ2}(h:Xd H f w dx) ç:Xd H' f w dx:=by
 cases dx with
 | none=>show h
 | some x=>show e.xd È h
mutual
theorem zf.ext ç:∀ (d:D) {v:V},È4->zf À6 d v
 | .zj,v,h=>Ģ
 | .bl b,v,h=>Ģ
 | Ħ i,v,h=>Ģ
 | .str x,v,h=>Ģ
 | Ù a,v,h=>Ģ
 | .err c f d,v,h=>by
  simp![zf] at h ⊢;let#[a,C,dx,w,h1,#[h2,h3,h4],h5]:=h;show#[a,C,dx,w,h1,#[h2,e.ext È h3,h4.ext e],zf.ext e d h5]
 | ś,v,h=>by
  ext Â7;show#[a,xs,h1,e.ju h2,Ž e ds h3]
 | .vb ds,v,h=>by
  ext Â7;show#[a,xs,h1,e.jv h2,Ž e ds h3]
theorem Ž ç:∀ (ds:ÿ) Ü,í->zo À6 ds xs
 | [],xs,h=>by simpa only [zo] using h
 | d::ds,xs,h=>by
  simp![zo] at h ⊢;ext ē;show#[x,r,h1,zf.ext e d h2,Ž e ds h3]
end
theorem zo.length:∀ Ç4 Ü,í->ń=ŵ
 | [],xs,h=>by ext Ã2;subst h;rfl
 | d::ds,xs,h=>by
  ext Ã2;let#[x,r,h1,_,h3]:=h;subst h1;simp[zo.length h3]
theorem zo.get:∀ Ç4 Ü Ë6 Ð5,í->ds[i]?=↑d->∃ x,xs[i]?=↑x/\ŕ
 | [],_,i,d,_,e=>by simp at e
 | c::ds,xs,i,d,h,e=>by
  ext Ã2;ext ē;subst h1;cases i with
  | zero=>simp at e;subst e;show#[x,rfl,h2]
  | succ i=>
   let#[y,e1,e2]:=zo.get (i:=i) h3 (by exists e);show#[y,by simpa using e1,e2]
theorem zo.append:∀ {ds es:ÿ}{xs ys:Å3},í->zo å es ys->zo å (ds++es) (xs++ys)
 | [],es,xs,ys,h,h'=>by ext Ã2;subst h;exists h'
 | d::ds,es,xs,ys,h,h'=>by
  ext Ã2;ext ē;subst h1;change zo å (d::(ds++es)) (x::(r++ys));simp![zo];show#[x,r++ys,rfl,h2,zo.append h3 h']
def zo.nil:zo å [] []:=by simp![zo]
def zo.cons Ð5 Ç4{x:V}Ü(h:ŕ) (h':í):zo å (d::ds) (x::xs):=by
 simp![zo];show#[x,xs,rfl,h,h']
def zo.snoc Ð5 Ç4{x:V}Ü(h':í) (h:ŕ):zo å (ds++[d]) (xs++[x]):=h'.append (.cons h .nil)
theorem zo.ints:∀ {ns:Ç9}Ü,zo å (ns.map D.int) xs->xs=Ŋ
 | [],xs,h=>Ï0
 | n::ns,xs,h=>by
  ext Å6;rw[Az,zo.ints h3]
theorem zo.eS:∀ (ns:Ç9),zo å (ns.map D.int) (Ŋ)
 | []=>.nil
 | n::ns=>.cons (É) (zo.eS ns)
theorem zo.bools:∀ {ns:É2}Ü,zo å (ns.map D.bl) xs->xs=ns.map V.bl
 | [],xs,h=>Ï0
 | n::ns,xs,h=>by
  ext Å6;rw[Az,zo.bools h3]
end
inductive O where
 | lst (ds:ÿ)
 | zW (Aa:List (Key×D))
 | obj (c:Str) (fs:List (Str×D))
abbrev SS:=Addr->ħ O
def xh Ý ā:List (Key×D)->List (Key×V)->Prop:=Å5
def uH Ý ā:List (Str×D)->List (Str×V)->Prop:=Å5
def sU Ý Â6:Prop:=ġ K İ c=↑↑(Ù C)
def oz Ý ā Î0:O->Prop
 | ĕ ds=>∃ xs,H a=↑ Ű/\í
 | .zW Aa=>∃ vs,H a=↑(.dK vs)/\xh å Aa vs
 | .obj c fs=>∃ C dx vs,sU K c C/\H a=↑(.ins C dx vs)/\uH å fs vs
def zK Ý ā (S:SS):Prop:=∀ a o,S a=↑o->oz å a o
def ups (S:SS) Î0 (o:O):SS:=λ b=>if b=a then ↑o else S b
def se À0 Ï2{o:O}:ups S a o a=↑o:=by unfold ups;rw[Ğ rfl]
def sW À0{a b:Addr}{o:O}(h:b≠a):ups S a o b=S b:=by unfold ups;rw[ğ h]
def Sx (S S':SS):Prop:=∀ b o,S b=↑o->S' b=↑o
def Sx.refl (S:SS):Sx S S:=λ _ _ h=>h
def Sx.trans {S S1 S2:SS}(a:Sx S S1) (b:Sx S1 S2):Sx S S2:=λ c o h=>b c o (a c o h)
def Sx.new À0 ſ(h:S p=none) (o:O):Sx S (ups S p o):=λ b u q=>by
 rw[sW (by intro z;subst z;rw[h] at q;cases q)];show q
theorem Sx.none {S S':SS}(e:Sx S S') ſ(h:S' p=Æ5):S p=Æ5:=by
 cases q:S p with
 | none=>rfl
 | some o=>rw[e p o q] at h;cases h
section
variable {õ}{À0}
def oz.has Ï2{o:O}(h:oz å a o):H a≠none:=by
 cases o with
 | lst ds=>let#[xs,h,_]:=h;rw[h];simp
 | zW Aa=>let#[xs,h,_]:=h;rw[h];simp
 | obj c fs=>let#[C,dx,vs,_,h,_]:=h;rw[h];simp
theorem zK.none (r:Ā) ſ(h:H p=Æ5):S p=Æ5:=by
 cases q:S p with
 | none=>rfl
 | some o=>show Ż h (r p o q).has
theorem xh.ext ç {Aa:List (Key×D)}{vs:List (Key×V)}(h:xh å Aa vs):xh À6 Aa vs:=
 À9
theorem uH.ext ç {fs:List (Str×D)}{vs:List (Str×V)}(h:uH å fs vs):uH À6 fs vs:=
 À9
def oz.keep Ï2{o:O}ç (k:∀ u,H a=↑u->H' a=↑u) (h:oz å a o):oz À6 a o:=by
 cases o with
 | lst ds=>let#[xs,h1,h2]:=h;show#[xs,k _ h1,Ž e ds h2]
 | zW Aa=>let#[xs,h1,h2]:=h;show#[xs,k _ h1,h2.ext e]
 | obj c fs=>let#[C,dx,vs,h0,h1,h2]:=h;show#[C,dx,vs,h0,k _ h1,h2.ext e]
theorem zK.keep ç (k:∀ a u o,S a=↑o->H a=↑u->H' a=↑u) (r:Ā):zK À6 S:=λ a o h=>(r a o h).keep e λ u q=>k a u o h q
def zK.same (e:bE H H') (r:Ā):zK À6 S:=r.keep #[λ b xs q=>e È q,λ b o u q=>e È q,λ b u q=>e È q,λ b u q=>e È q] λ a u _ _ q=>e a u q
theorem zK.new ſ{u:HO}(hp:H p=Æ5) (r:Ā):zK K Ï1 S:=
 r.keep (Ext.new hp u) λ a v o _ q=>by rw[zP (wA q hp)];show q
theorem zK.ups ſ{u:HO}{o:O}(e:Ext H Ï1) (hn:oz K Ï1 p o) (r:Ā):zK K Ï1 (ups S p o):=λ a o' h=>by
 by_cases ha:a=p
 .subst ha;rw[se] at h;cases h;show hn
 .rw[sW ha] at h;show (r a o' h).keep e λ v q=>by rw[zP ha];show q
end
abbrev yc:=List (ħ D)
def yC Ý ā (Y:yc) (σ:St):Prop:=Y.length=σ.length/\∀ Ä5 (d:D),Y[i]?=↑↑d->∃ v,σ[i]?=↑↑v/\È4
theorem yC.ext õ{Y:yc}ŝ ç (r:ü):yC À6 Y σ:=#[r.1,λ i d h=>by
 let#[v,h1,h2]:=r.2 i d h;show#[v,h1,zf.ext e d h2]]
theorem yC.set Ì1 ģ{Y:yc}ŝ Ä5 Ð5{v:V}(r:ü) (h:È4):yC å (Y.set i ↑d) (σ.set i ↑v):=by
 exact#[by rw[CA,CA];show r.1,λ j c hc=>?_];rw[CN] at hc ⊢;by_cases hj:i=j
 .subst hj;rw[Ğ rfl] at hc ⊢;by_cases hl:i < Y.length
  .rw[Ğ hl] at hc;rw[Ğ (by rw[<- r.1];show hl)];cases hc;show#[v,rfl,h]
  .rw[ğ hl] at hc;cases hc
 .rw[ğ hj] at hc ⊢;show r.2 j c hc
abbrev DK:=D->Þ
abbrev zw:=yc->Ë5
abbrev yx:=yc->SS->(Í7)->Prop
abbrev zY:=yc->SS->(ÿ->Þ)->Prop
def yn (t:zw):Prop:=∀ Y S (Q Q':DK),ò->Ã4
def vA (t:yx):Prop:=∀ Y S (Q Q':Í7),ò->Ã4
def sS (t:zY):Prop:=∀ Y S (Q Q':ÿ->Þ),ò->Ã4
def wF Ý ā (Q:VK):DK:=λ d S'=>∀ v H',zf À6 d v->Ũ
def kx Ý ā (Q:Bool->Ĝ):Í7:=λ b S'=>∀ H',È5->Ï3->Q b H'
def II Ý ā (Q:Å3->Ĝ):ÿ->Þ:=λ ds S'=>∀ vs H',zo À6 ds vs->È5->Ï3->Q vs H'
def x_ Ý ā (Q:St->Ĝ):Ï4:=fun Y S'=>∀ σ H',yC À6 Y σ->È5->Ï3->Q σ H'
def wF.ext õ{Q:VK}ç Ð5 À0(h:wF å Q d S):wF À6 Q d S:=Å7
def kx.ext õ{Q:Bool->Ĝ}ç {d:Bool}À0(h:kx å Q d S):kx À6 Q d S:=λ H2 x q=>h H2 (e.trans x) q
def x_.ext õ{Q:St->Ĝ}ç {d:yc}À0(h:x_ å Q d S):x_ À6 Q d S:=Å7
def zL Ý (t:zw):TE:=fun σ H Q=>∃ Y S,ü/\Ā/\t ķ (wF å Q)
def wI Ý (t:yx):TT:=fun σ H Q=>∃ Y S,ü/\Ā/\t ķ (kx å Q)
def wq Ý (t:zY):TA:=fun σ H Q=>∃ Y S,ü/\Ā/\t ķ (II å Q)
structure PD Ū (e:Expr) (t:zw):Prop where
 mo:yn t
 pe:PE X e (zL X.K t)
structure xu Ū (e:Expr) (t:yx):Prop where
 mo:vA t
 pt:PT X e (wI X.K t)
structure yS Ū (es:Ĩ) (t:zY):Prop where
 mo:sS t
 pa:PA X es (wq X.K t)
def ũ ĩ Ĵ{t t':TE}(h:PE X e t) Ø:PE X e t':=á
def PT.imp ĩ Ĵ{t t':TT}(h:PT X e t) Ø:PT X e t':=á
def PA.imp ĩ{e:Ĩ}{t t':TA}(h:PA X e t) Ø:PA X e t':=λ pos EW s σ H Q I q=>h pos Ë3
def PS.imp ĩ{e:Stmt}{t t':TS}(h:PS X e t) Ì2:PS X e t':=Â3
def wH.imp ĩ{e:È2}{t t':TS}(h:wH X e t) Ì2:wH X e t':=Â3
section
variable {ĩ}{Ì1}
def Ì7 {t:zw}ŝ ģ{Q:VK}{Y:yc}À0{R:DK}(mo:yn t) À1 (k:∀ d S' v H',R d S'->zf À6 d v->Ũ):zL K t ď:=
 Ķ
def wI.go {t:yx}ŝ ģ{Q:Bool->Ĝ}{Y:yc}À0{R:Í7}(mo:vA t) À1 (k:∀ d S' H',R d S'->È5->Ï3->Q d H'):wI K t ď:=
 #[Y,S,r1,r2,mo ñ (λ d S' q H' b c=>k d S' H' q b c) h]
def wq.go {t:zY}ŝ ģ{Q:Å3->Ĝ}{Y:yc}À0{R:ÿ->Þ}(mo:sS t) À1 (k:∀ d S' v H',R d S'->zo À6 d v->Ũ):wq K t ď:=
 Ķ
def zX Ä5:zw:=fun Y S Q=>match Y[i]? with
 | some ↑d=>Q d S
 | _=>ó
def dC (d:D):zw:=λ _ S Q=>Q d S
def Pp Ä5 Ç2 Ś(h:PE Ç3 (fG i)):PD Ç3 (zX i):=by
 exact#[fun Y S Q Q' hq h=>?_,ũ h Õ]
 .unfold zX at h ⊢;ext Ĭ
  .show ĳ
  .show h
 .ext ö;unfold zX at h;ext Ĭ
  .rename_i d e;let#[v,h1,h2]:=r1.2 i d e;show#[v,h1,h v H h2 Ë7 r2]
  .show î
def dC.mo (d:D):yn (dC d):=λ _ _ _ _ hq h=>ĳ
def ly Ĵ Ð5{v:V}(h:PE X e (tC v)) (r:∀ H,zf X.K H d v):PD X e (dC d):=
 #[dC.mo d,ũ h λ _ H _ #[_,_,_,r2,h]=>h v H (r H) Ë7 r2]
def Oo {i j pos}:PD X (.Constant (Ħ i) j pos) (dC (Ħ i)):=ly Qj λ _=>É
def O8 {i j pos}:PD X (.Constant (.bool i) j pos) (dC (.bl i)):=ly Qt λ _=>É
def PC {j pos}:PD X (.Constant .none j pos) (dC .zj):=ly Qe λ _=>É
def Pu {x j pos}:PD X (.Constant (.str x) j pos) (dC (.str x)):=ly R_ λ _=>É
abbrev y_:=D->D->Ë5
def vn (f:y_):Prop:=∀ x y S (Q Q':DK),ò->f x y S Q->f x y S Q'
def wg Ý (f:y_) (r:R2):Prop:=∀ x y d e H S Q,ŕ->zf å e y->Ā->f d e S (wF å Q)->r x y H Q
def yu (f:y_) (ta tb:zw):zw:=fun Y S Q=>ta ķ λ x S1=>tb À2 λ y S2=>f x y S2 Q
def yu.mo {f:y_}{ta tb:zw}(hf:vn f) Ő:yn Ï5:=fun Y S Q Q' hq h=>
 ha ñ (λ x S1 h=>hb À2 È (λ y S2 h=>hf x y S2 È hq h) h) h
def jh Á4(hr:wg K f r) (hf:vn f) Ő ŝ ģ{Q:VK}(h:zL K Ï5 ď):mU r (zL K ta) (zL K tb) ď:=by
 let#[Y,S,r1,r2,h]:=h;exact Ì7 ha À3 h ë;exact Ì7 hb Ç7;show hr v w x y H2 S2 Q (zf.ext e2 x q1) q2 p2 (hf x y S2 È (λ d S' z=>z.ext (Š e2)) h2)
def qj {a b:Expr}{op:Operator}Ś Á4(ho:y9 X (binaryOp op) r) (hr:wg X.K f r) (hf:vn f) Ä:PD X (.BinOp a op b pos) Ï5:=
 #[yu.mo hf ý,ũ (Qb ho Ã8) λ _ _ _ h=>jh hr hf ý h]
def l4 ú Ä (hm:behindInMarks op b=đ):PD X (Ä8 a [op] Ð6) Ï5:=
 #[yu.mo hf ý,ũ (Qp ho Ã8 hm) λ _ _ _ h=>jh hr hf ý h]
def uk (t:zw):yx:=fun Y S Q=>t ķ λ x S1=>match x with
 | .bl b=>Q b S1
 | _=>ó
def uk.mo {t:zw}(h:yn t):vA (uk t):=fun Y S Q Q' hq q=>h ñ (λ d S' z=>by
 cases d <;> first
  | show Ã5
  | show z) q
def rj ú Ä (hm:behindInMarks op b=đ):xu X (Ä8 a [op] Ð6) (uk Ï5):=by
 exact#[uk.mo (yu.mo hf ý),PT.imp (Rq ho Ã8 hm) fun σ H Q h=>?_];let#[Y,S,r1,r2,h]:=h;exact jh hr hf ý #[Y,S,r1,r2,yu.mo hf ý ñ (λ d S' z v H' a b c=>?_) h];cases d with
 | bl k=>simp![zf] at a;show#[k,a,z H' b c]
 | _=>show z.elim
def fI (C:Int->Int->Prop) (g:š):y_:=λ x y S Q=>match x,y with
 | Ħ i,Ħ j=>C i j/\Q (g i j) S
 | _,_=>ó
def fI.mo {C:Int->Int->Prop}{g:š}:vn (fI C g):=λ x y S Q Q' hq h=>by
 unfold fI at h ⊢;ext Ĭ
 .show È6
 .show î
def yR (g:š):y_:=λ x y S Q=>match x,y with
 | Ħ i,Ħ j=>Q (g i j) S
 | _,_=>ó
def yR.mo {g:š}:vn (yR g):=λ x y S Q Q' hq h=>by
 unfold yR at h ⊢;ext Ĭ
 .show ĳ
 .show î
def fI.fits {C:Int->Int->Prop}ã:wg K (fI C g) (rI C g'):=λ x y d e H S Q h1 h2 h3 h=>by
 unfold fI at h;ext Ĭ
 .ext É3;show#[_,_,h1,h2,h.1,h.2 _ H (hg È H) Ë7 h3]
 .show î
def yR.fits ã:wg K (yR g) (uc g'):=λ x y d e H S Q h1 h2 h3 h=>by
 unfold yR at h;ext Ĭ
 .ext É3;show#[_,_,h1,h2,h _ H (hg È H) Ë7 h3]
 .show î
variable {a b:Expr}{ta tb:zw}{Ś}
def Pt Ä:PD X (.BinOp a .Sub b pos) (yu (yR λ i j=>Ħ (i-j)) ŗ):=qj OJ (Ĺ) yR.mo ha hb
def PL Ä:PD X (.BinOp a .Mod b pos) (yu (fI (λ _ j=>0<j) λ i j=>Ħ (i%j)) ŗ):=qj OQ Ŏ
def Oy Ä:PD X (.BinOp a .FloorDiv b pos) (yu (fI oQ λ i j=>Ħ (i/j)) ŗ):=qj OW Ŏ
def Pz Ä:PD X (.BinOp a .Pow b pos) (yu (fI qT λ i j=>Ħ (i ^ j.toNat)) ŗ):=qj OK Ŏ
abbrev cA:y_:=yR λ i j=>.bl (Į (i<j))
abbrev iu:y_:=yR λ i j=>.bl (Į (i<=j))
abbrev cB:y_:=yR λ i j=>.bl (Į (j<i))
abbrev iw:y_:=yR λ i j=>.bl (Į (j<=i))
def JW:wg K cA (uc λ i j=>.bl (Į (i<j))):=Ĺ
def fit_le:wg K iu (uc λ i j=>.bl (Į (i<=j))):=Ĺ
def JX:wg K cB (uc λ i j=>.bl (Į (j<i))):=Ĺ
def X7:wg K iw (uc λ i j=>.bl (Į (j<=i))):=Ĺ
def Ob Ä:PD X (Ä8 a [.LtE] Ð6) (yu iu ŗ):=l4 jC fit_le Ī
def Ow Ä:PD X (Ä8 a [.GtE] Ð6) (yu iw ŗ):=l4 Yf X7 Ī
def QA Ä:xu X (Ä8 a [.Lt] Ð6) (uk (yu cA ŗ)):=rj OS JW Ī
def QB Ä:xu X (Ä8 a [.LtE] Ð6) (uk (yu iu ŗ)):=rj jC fit_le Ī
def QF Ä:xu X (Ä8 a [.Gt] Ð6) (uk (yu cB ŗ)):=rj OU JX Ī
def QG Ä:xu X (Ä8 a [.GtE] Ð6) (uk (yu iw ŗ)):=rj Yf X7 Ī
end
section
variable {ĩ}{Ì1}{a b c:Expr}{ta tb:zw}{Ś}
def md (ta tb:zw):zw:=fun Y S Q=>ta ķ λ x S1=>match x with
 | .bl k=>if k=true then tb À2 Q else Q (.bl đ) S1
 | _=>ó
def k7 (ta:zw):zw:=fun Y S Q=>ta ķ λ x S1=>match x with
 | .bl k=>Q (.bl (!k)) S1
 | _=>ó
def vf {c:Prop} [Decidable c] {A B A' B':Prop}(h1:A->A') (h2:B->B') (h:if c then A else B):if c then A' else B':=by
 by_cases q:c
 .rw[Ğ q] at h ⊢;show h1 h
 .rw[ğ q] at h ⊢;show h2 h
def md.mo Ő:yn (md ŗ):=fun Y S Q Q' hq h=>ha ñ (λ x S1 z=>by
 cases x <;> first
  | show vf (hb À2 È hq) (hq È) z
  | show z) h
def k7.mo (ha:yn ta):yn (k7 ta):=fun Y S Q Q' hq h=>ha ñ (λ x S1 z=>by
 cases x <;> first
  | show Ã5
  | show z) h
def P0 {op} {t:zw}(h:PD X a t):PD X (Æ6 op [a] pos) t:=#[h.mo,Qc h.pe]
variable {EX:Ĩ}
theorem OB Å9 (hb:PD X (Æ6 .And (b::EX) pos) tb):PD X (Æ6 .And (a::b::EX) pos) (md ŗ):=by
 exact#[md.mo ý,ũ (Qu Ã8) Õ];ext Ë;cases x with
 | bl k=>
  ext Ê4;exact#[k,q1,vf Ÿ Ÿ h1]
  .show Ì7 hb.mo è
  .show z _ H1 (É) e1 p1
 | _=>show h1.elim
theorem PB Å9:PD X (.UnaryOp .Not a pos) (k7 ta):=by
 exact#[k7.mo ha.mo,ũ (Qd ha.pe) Õ];ext Ë;cases x with
 | bl k=>
  ext Ê4;show#[k,q1,h1 _ H1 (É) e1 p1]
 | _=>show h1.elim
def kq (t u:yx):yx:=fun Y S Q=>t ķ λ k S1=>if k=true then u À2 Q else Q đ S1
def nW (t u:yx):yx:=fun Y S Q=>t ķ λ k S1=>if k=true then Q true S1 else u À2 Q
def nX (t:yx):yx:=fun Y S Q=>t ķ λ k S1=>Q (!k) S1
variable {t u:yx}
def kq.mo (h:vA t) (h':vA u):vA (kq t u):=fun Y S _ _ hq z=>h ñ (λ k S1 z=>vf (h' À2 È hq) (hq È) z) z
def nW.mo (h:vA t) (h':vA u):vA (nW t u):=fun Y S _ _ hq z=>h ñ (λ k S1 z=>vf (hq È) (h' À2 È hq) z) z
def nX.mo (h:vA t):vA (nX t):=fun Y S _ _ hq z=>h ñ (λ k S1 z=>Ã5) z
structure rP Ū (e:Expr) (t:yx):Prop where
 mo:vA t
 pw:PW X e (wI X.K t)
def PW.imp Ĵ{t t':TT}(h:PW X e t) Ø:PW X e t':=λ whole EW s σ H Q I q=>h whole Ë3
theorem rP.pt Ĵ{t:yx}(h:rP X e t):xu X e t:=#[h.mo,PW.pt h.pw]
def Q6 (h:xu X a t):rP X (Æ6 .And [a] pos) t:=#[h.mo,Rm h.pt]
def Q5 (h:xu X a t):rP X (Æ6 .Or [a] pos) t:=#[h.mo,Rj h.pt]
def ZR (ha:xu X a t) (hb:rP X (Æ6 .And (b::EX) pos) u):rP X (Æ6 .And (a::b::EX) pos) (kq t u):=by
 exact#[kq.mo ý,PW.imp (Rn ha.pt hb.pw) Õ];ext ö;exact wI.go ha.mo À3 h λ k S1 H1 h1 e1 p1=>vf Ÿ (λ z=>z Í3) h1;show Ň
def ZQ (ha:xu X a t) (hb:rP X (Æ6 .Or (b::EX) pos) u):rP X (Æ6 .Or (a::b::EX) pos) (nW t u):=by
 exact#[nW.mo ý,PW.imp (Rl ha.pt hb.pw) Õ];ext ö;exact wI.go ha.mo À3 h λ k S1 H1 h1 e1 p1=>vf (λ z=>z Í3) Ÿ h1;show Ň
def Q8 (ha:xu X a t):xu X (.UnaryOp .Not a pos) (nX t):=by
 exact#[nX.mo ha.mo,PT.imp (Rp ha.pt) Õ];ext ö;show wI.go ha.mo À3 h λ k S1 H1 h1 e1 p1=>h1 Í3
def kC (t:yx) (ta tb:zw):zw:=fun Y S Q=>t ķ λ k S1=>if k=true then ta À2 Q else tb À2 Q
def kC.mo (h:vA t) Ő:yn (kC t ŗ):=fun Y S _ _ hq z=>h ñ (λ k S1 z=>vf (ha À2 È hq) (hb À2 È hq) z) z
def Oq (hc:xu X c t) Ä:PD X (.IfExp c a b pos) (kC t ŗ):=by
 exact#[kC.mo hc.mo ý,ũ (Qk hc.pt Ã8) Õ];ext ö;exact wI.go hc.mo À3 h Ê3
 .show Ì7 ha.mo è
 .show Ì7 hb.mo è
def uu (d:D) (S:SS) (Q:Í7):Prop:=match d with
 | .zj=>Q đ S
 | .bl k=>Q k S
 | Ħ i=>Q (i != 0) S
 | .str x=>x.length<=ê/\Q ((x.length:Int) != 0) S
 | ś=>Ê5
 | .vb ds=>Ê5
 | Ù p=>match S p with
  | ű=>Ê5
  | some (.zW Aa)=>Q (!Aa.isEmpty) S
  | _=>ó
 | .err Ť=>ó
def cJ (ta:zw):yx:=fun Y S Q=>ta ķ λ x S1=>uu x S1 Q
def uu.mo Ð5 À0{Q Q':Í7}(hq:∀ k S',Q k S'->Q' k S') (h:uu d S Q):uu d S Q':=by
 cases d with
 | str x=>show È6
 | err _ _ _=>show î
 | ref p=>
  unfold uu at h ⊢;dsimp only at h ⊢;ext Ĭ
  .show ĳ
  .show ĳ
  .show h
 | _=>show ĳ
theorem zo.isEmpty ģ Ç4 Ü(h:í):ds.isEmpty=xs.isEmpty:=by
 have:=h.length;cases ds <;> cases xs <;> simp_all
def GL {α β:Type}{F:α->β->Prop}{xs:List α}{ys:List β}(h:Paired F xs ys):xs.isEmpty=ys.isEmpty:=by cases h <;> rfl
def uu.fits ģ Ð5{v:V}À0{Q:Bool->Ĝ}(r:È4) (p:Ā) (h:uu d S (kx å Q)):∃ k,bC K v H k/\Q k H:=by
 cases d with
 | zj=>ext Ĳ;show#[đ,rfl,È7]
 | bl k=>ext Ĳ;show#[k,rfl,È7]
 | int i=>ext Ĳ;show#[_,rfl,È7]
 | str x=>ext Ĳ;show#[_,#[h.1,rfl],h.2 H ä p]
 | err _ _ _=>show î
 | tup ds=>
  ext È0;show#[_,ņ (Ě #[xs,r1,Ì8]),È7]
 | vb ds=>
  ext È0;show#[_,Ě #[xs,r1.sq,Ì8],È7]
 | ref a=>
  ext Ĳ;unfold uu at h;dsimp only at h;ext Ĭ
  .rename_i ds e;let#[xs,e1,r2]:=p a _ e;show#[_,Ě #[xs,zU.of e1,Ì8],È7]
  .rename_i Aa e;let#[xs,e1,r2]:=p a _ e;show#[_,ņ (ņ #[xs,e1,by rw[GL r2]]),È7]
  .show î
def Q7 Å9 (he:∀ whole,isTrue a ì whole=(do let v <- whole;standAt a.pos;holding [v] (truthy v))):xu X a (cJ ta):=by
 exact#[fun Y S Q Q' hq h=>ha.mo ñ (λ x S1 z=>uu.mo hq z) h,PT.imp (Ro ha.pe he) Õ];ext Ë;show uu.fits q1 p1 (uu.mo (λ k S' z=>z.ext e1) h1)
def tw:zY:=λ _ S Q=>Q [] S
def t6 (te:zw) (tr:zY):zY:=fun Y S Q=>te ķ λ x S1=>tr À2 λ xs S2=>Q (x::xs) S2
variable {Ĵ}{es:Ĩ}{te:zw}{tA:zY}
def t6.mo (h:yn te) (h':sS tA):sS (t6 te tA):=fun Y S _ _ hq z=>h ñ (λ x S1 z=>h' À2 È (λ xs S2 z=>Ã5) z) z
def Pn:yS X [] tw:=#[λ _ _ _ _ hq h=>ĳ,PA.imp p8 fun σ H Q #[_,_,_,r2,h]=>h [] H .nil ä r2]
def Po (ha:PD X e te) (hr:yS X es tA) (hs:AE X e es):yS X (e::es) (t6 te tA):=by
 exact#[t6.mo ha.mo hr.mo,PA.imp (rl ha.pe hr.pa hs) Õ];ext Ë;exact wq.go hr.mo (ĥ) p1 h1 λ xs S2 w H2 h2 q2 e2 p2=>?_;show h2 (v::w) H2 (.cons (zf.ext e2 x q1) q2) (Š e2) p2
def cN (t:zY):zw:=fun Y S Q=>t ķ λ ds S1=>ń<=ê/\Q (ś) S1
def Wk (t:zY):zw:=fun Y S Q=>t ķ λ ds S1=>ń<=ê/\∀ p,S1 p=none->Q (Ù p) (ups S1 p (ĕ ds))
def Pr {k} (h:yS X es tA):PD X (.Tuple es k pos) (cN tA):=by
 exact#[fun Y S _ _ hq z=>h.mo ñ (λ ds S1 z=>È8) z,ũ (RZ h.pa) Õ];ext ï;exact h1.2 È ?_ (Š Æ7) (p1.new hp);simp![zf];show#[p,xs,rfl,yk.of yy,Ž Æ7 ds q1]
theorem PY (h:yS X es tA):PD X (.List es pos) (Wk tA):=by
 exact#[fun Y S _ _ hq z=>h.mo ñ (λ ds S1 z=>#[z.1,λ p hp=>hq È (z.2 p hp)]) z,ũ (Qg h.pa) Õ];ext ï;exact h1.2 p (p1.none hp) È (É) (Š Æ7) ?_;show p1.ups Æ7 #[xs,yy,Ž Æ7 ds q1]
def vh:y_:=λ x y S Q=>match x,y with
 | ś,Ħ i=>match z_ ds i with
  | some d=>Q d S
  | none=>ó
 | .vb ds,Ħ i=>match z_ ds i with
  | some d=>Q d S
  | none=>ó
 | Ù p,Ħ i=>match S p with
  | ű=>match z_ ds i with
   | some d=>Q d S
   | none=>ó
  | _=>ó
 | _,_=>ó
def vh.mo:vn vh:=λ x y S Q Q' hq h=>by
 unfold vh at h ⊢;ext Ĭ
 .skip
  ext Ĭ
  .show ĳ
  .show h
 .skip
  ext Ĭ
  .show ĳ
  .show h
 .skip
  ext Ĭ
  .skip
   ext Ĭ
   .show ĳ
   .show h
  .show î
 .show î
theorem zo.z_ ģ Ç4 Ü{i:Int}Ð5(h:í) (e:L2.z_ ds i=↑d):∃ x,L2.z_ xs i=↑x/\ŕ:=by
 unfold L2.z_ at e ⊢;rw[h.length] at e;cases q:vy ŵ i with
 | none=>rw[q] at e;cases e
 | some j=>
  rw[q] at e;show h.get e
def vh.fits:wg K vh (Z6 K):=λ x y d e H S Q h1 h2 h3 h=>by
 unfold vh at h;ext Ĭ
 .ext Ĭ
  .ext Ĥ;show ņ (Ě #[a,xs,_,x',rfl,h2,r1,e1,Ï6])
  .show î
 .ext Ĭ
  .ext Ĥ;show Ě #[a,xs,_,x',rfl,h2,r1.sq,e1,Ï6]
  .show î
 .ext Ĭ
  .rename_i q0;ext Ĭ
   .rename_i q;ext É3;subst h1;let#[xs,r1,r2]:=h3 È q0;let#[x',e1,e2]:=r2.z_ q;show Ě #[_,xs,_,x',rfl,h2,zU.of r1,e1,Ï6]
   .show î
  .show î
 .show î
def Oc Ä (hs:Vt b):PD X (.Subscript a b pos) (yu vh ŗ):=
 #[yu.mo vh.mo ý,ũ (Qi Kq Ã8 hs) λ _ _ _ h=>jh vh.fits vh.mo ý h]
abbrev xF:=ÿ->Ë5
def vQ (f:xF):Prop:=∀ ds S (Q Q':DK),ò->f ds S Q->f ds S Q'
def uJ Ý (f:xF) (r:Ö):Prop:=∀ xs ds H S Q,í->Ā->f ds S (wF å Q)->r xs H Q
def xD (f:xF) (t:zY):zw:=fun Y S Q=>t ķ λ ds S1=>f ds S1 Q
def xD.mo {f:xF}(hf:vQ f) (h:sS tA):yn (xD f tA):=fun Y S _ _ hq z=>h ñ (λ ds S1 z=>hf ds S1 È hq z) z
def aP {f:xF}{r:Ö}(hf:vQ f) (hr:uJ K f r) (h:sS tA) ŝ ģ{Q:VK}(hu:zL K (xD f tA) ď):jo r (wq K tA) ď:=by
 let#[Y,S,r1,r2,h']:=hu;exact wq.go h À3 h' Ţ;show hr xs ds H1 S1 Q q1 p1 (hf ds S1 È (λ d S' z=>z.ext e1) h1)
def uR {f:xF}{r:Ö}Ĵ(h:PE X e (jo r (wq X.K tA))) (hf:vQ f) (hr:uJ X.K f r) (ha:sS tA):PD X e (xD f tA):=
 #[xD.mo hf ha,ũ h λ _ _ _ hu=>aP hf hr ha hu]
def zZ (d:D) (S:SS):ħ (ÿ):=match d with
 | ś=>↑ds
 | .vb ds=>↑ds
 | Ù p=>match S p with
  | ű=>↑ds
  | _=>none
 | _=>none
theorem zZ.sq ģ À0 Ð5{v:V}Ç4(r:È4) (p:Ā) (e:zZ d S=↑ds):∃ a xs,v=Ù a/\(zU Ð3\/yk Ð3)/\í:=by
 unfold zZ at e;split at e
 .ext Á5;show#[a,xs,h1,ņ h2,h3]
 .ext Á5;show#[a,xs,h1,Ě h2.sq,h3]
 .split at e
  .rename_i q;cases e;ext Ĳ;let#[xs,h1,h2]:=p È q;show#[_,xs,rfl,Ě (zU.of h1),h2]
  .cases e
 .cases e
def zo.one ģ Ð5 Ü(h:zo å [d] xs):∃ x,xs=[x]/\ŕ:=by
 ext Ã2;let#[x,r,rfl,h2,rfl]:=h;show#[x,rfl,h2]
def zo.two ģ{d d':D}Ü(h:zo å [d,d'] xs):∃ x y,xs=[x,y]/\ŕ/\zf å d' y:=by
 ext Ã2;let#[x,r,rfl,h2,y,r',rfl,h3,rfl]:=h;show#[x,y,rfl,h2,h3]
def tf:xF:=λ ds S Q=>match ds with
 | [d]=>match zZ d S with
  | some ds=>Q (Ħ ń) S
  | none=>match d with
   | .str z=>ź<=ê/\Q (Ħ ź) S
   | _=>ó
 | _=>ó
def tf.mo:vQ tf:=λ ds S Q Q' hq h=>by
 unfold tf at h ⊢;ext Ĭ
 .skip
  ext Ĭ
  .show ĳ
  .ext Ĭ
   .show È6
   .show î
 .show î
abbrev Ri Ý:Ö:=λ xs H Q=>(∃ p ys,ŷ/\(zU å p ys\/yk å p ys)/\Q (Ħ Ŷ) H)\/(Å0)
def tf.fits:uJ K tf (Ri K):=λ xs ds H S Q h0 h2 h=>by
 unfold tf at h;ext Ĭ
 .ext û;ext Ĭ
  .ext Á6;exact Ě #[a,ys,rfl,q,?_];rw[<- Í4];show h _ H (É) ä h2
  .ext Ĭ
   .simp![zf] at h1;subst h1;show ņ #[_,rfl,h.1,h.2 _ H (É) ä h2]
   .show î
 .show î
def u_:xF:=λ ds S Q=>match ds with
 | [d]=>match zZ d S with
  | some ds=>∀ p,S p=none->Q (Ù p) (ups S p (ĕ ds))
  | none=>ó
 | _=>ó
def u_.mo:vQ u_:=λ ds S Q Q' hq h=>by
 unfold u_ at h ⊢;ext Ĭ
 .skip
  ext Ĭ
  .show λ p hp=>hq È (h p hp)
  .show î
 .show î
def u_.fits:uJ K u_ (λ xs H Q=>∃ p ys,ŷ/\(zU å p ys\/yk å p ys)/\Â8):=λ xs ds H S Q h0 h2 h=>by
 unfold u_ at h;ext Ĭ
 .ext û;ext Ĭ
  .ext Á6;exact#[a,ys,rfl,q,λ l hl=>?_];show h l (h2.none hl) È (É) Á9 (h2.ups Á9 #[ys,yy,Ž Á9 _ r])
  .show î
 .show î
def uY:xF:=λ ds S Q=>match ds with
 | [ś]=>Q (ś) S
 | [.vb ds]=>Q (ś) S
 | [Ù p]=>match S p with
  | ű=>Q (ś) S
  | _=>ó
 | _=>ó
def uY.mo:vQ uY:=λ ds S Q Q' hq h=>by
 unfold uY at h ⊢;ext Ĭ
 .show ĳ
 .show ĳ
 .skip
  ext Ĭ
  .show ĳ
  .show î
 .show î
def uY.fits:uJ K uY (λ xs H Q=>∃ p ys,ŷ/\((zU å p ys/\Á7)\/(yk å p ys/\Q (Ù p) H))):=λ xs ds H S Q h0 h2 h=>by
 unfold uY at h;ext Ĭ
 .ext û;have h1':=h1;simp![zf] at h1;ext Ź;show#[a,xs,rfl,ņ #[r1,h _ H h1' ä h2]]
 .ext û;simp![zf] at h1;ext Ź;exact#[a,xs,rfl,Ě #[r1.sq,Ê6]];ext Ō
 .ext û;ext Ĭ
  .rename_i e;simp![zf] at h1;subst h1;let#[xs,r1,r2]:=h2 È e;exact#[_,xs,rfl,Ě #[zU.of r1,Ê6]];ext Ō
  .show î
 .show î
def uC (g:š):xF:=λ ds S Q=>match ds with
 | [Ħ i,Ħ j]=>Q (g i j) S
 | _=>ó
def uC.mo {g:š}:vQ (uC g):=λ ds S Q Q' hq h=>by
 unfold uC at h ⊢;ext Ĭ
 .show ĳ
 .show î
def uC.fits ã:uJ K (uC g) (λ xs H Q=>∃ i j,xs=[Ħ i,Ħ j]/\Q (g' i j) H):=λ xs ds H S Q h0 h2 h=>by
 unfold uC at h;ext Ĭ
 .let#[x,y,hx,h1,h3]:=h0.two;subst hx;simp![zf] at h1 h3;subst h1 h3;show#[_,_,rfl,h _ H (hg È H) ä h2]
 .show î
def qE (to te:zw):zw:=fun Y S Q=>to ķ λ x S1=>match x with
 | Ù p=>(∃ ds,S1 p=↑(ĕ ds))/\te À2 λ y S2=>match S2 p with
  | ű=>ń<ê/\Q .zj (ups S2 p (ĕ (ds++[y])))
  | _=>ó
 | _=>ó
def qE.mo {to te:zw}(h:yn to) (h':yn te):yn (qE to te):=fun Y S Q Q' hq z=>h ñ (λ x S1 z=>by
 cases x with
 | ref p=>
  exact#[z.1,h' À2 È (λ y S2 w=>?_) z.2];split at w
  .show#[w.1,hq È w.2]
  .show w.elim
 | _=>show z) z
theorem O9 {o e:Expr}{to te:zw}{e0:Expr}(EB:PE X e0 (fL X.K "list" ZA (zL X.K to) (fK (zL X.K te) fH))) (h:yn to) (h':yn te):PD X e0 (qE to te):=by
 exact#[qE.mo h h',ũ EB Õ];ext Ê;exact Ì7 h À3 z ë;cases x with
 | ref p=>
  let#[#[ds,hd],h1]:=h1;ext Ê4;subst q1;let#[xs,g1,g2]:=p1 È hd;exact#[Ě #[rfl,xs,zU.of g1],?_];exact Ì7 h' Ç7;split at h2
  .rename_i ds' e3;let#[E8,g3,g4]:=p2 È e3;exact#[p,E8,w,rfl,rfl,g3,by rw[<- g4.length];show h2.1,?_];have e4:Ext H2 (upd H2 p (ĕ (E8++[w]))):=ĕ g3 _;show h2.2 È (É) ((Š e2).trans e4) (p2.ups e4 #[_,yy,Ž e4 _ (g4.snoc q2)])
  .show h2.elim
 | _=>show h1.elim
end
structure rV where
 nx:Ï4
 rt:DK
 bk:Ï4:=λ _ _=>ó
 ct:Ï4:=λ _ _=>ó
abbrev ye:=rV->Ï4
structure rV.Le (E E':rV):Prop where
 nx:∀ Y S,E.nx ķ->E'.nx ķ
 rt:∀ d S,E.rt d S->E'.rt d S
 bk:∀ Y S,E.bk ķ->E'.bk ķ
 ct:∀ Y S,E.ct ķ->E'.ct ķ
def tF (t:ye):Prop:=∀ E E' Y S,rV.Le E E'->t E ķ->t E' ķ
def uE Ý ā (D:Ends):rV:=#[x_ å D.nx,wF å D.rt,x_ å D.bk,x_ å D.ct]
theorem uE.ext õ{D:Ends}ç:(uE å D).Le (uE À6 D):=#[Ç0,λ _ _ h=>wF.ext e h,Ç0,Ç0]
def ft Ý (t:ye):TS:=λ D σ H=>∃ Y S,ü/\Ā/\t (uE å D) ķ
structure xN Ū (st:Stmt) (t:ye):Prop where
 mo:tF t
 ps:PS X st (ft X.K t)
structure xG Ū (st:È2) (t:ye):Prop where
 mo:tF t
 ps:wH X st (ft X.K t)
section
variable {ĩ}{Ì1}{st:Stmt}{EX:È2}{t u:ye}{Ś}{Ĵ}{te:zw}
def cP:ye:=λ E Y S=>E.nx ķ
def pY (t u:ye):ye:=λ E Y S=>t { E with nx:=u E } ķ
def pY.mo (h:tF t) (h':tF u):tF (pY t u):=λ E E' Y S hE z=>h { E with nx:=u E } { E' with nx:=u E' } ķ #[fun Y S q=>h' E E' ķ hE q,hE.rt,hE.bk,hE.ct] z
def QJ:xG X [] cP:=#[λ _ _ _ _ hE h=>hE.nx È h,wH.imp Rr λ D σ H #[Y,S,r1,r2,h]=>h č r1 ä r2]
def QI (h:xN X st t):xG X [st] t:=#[h.mo,ZE h.ps]
def QK (h:xN X st t) (h':xG X EX u):xG X (st::EX) (pY t u):=by
 exact#[pY.mo h.mo h'.mo,wH.imp (Rt h.ps h'.ps) Ŀ];ext Ê;exact#[Y,S,r1,r2,h.mo { uE X.K H D with nx:=u (uE X.K H D) } _ ķ #[fun Y' S' q σ' H' q1 q2 q3=>?_,Ä9,Ä9,Ä9] z];show#[Y',S',q1,q3,h'.mo È Y' S' (uE.ext q2) q]
def n_ (te:zw):ye:=λ E Y S=>te ķ λ _ S1=>E.nx À2
def QX Æ0 (hs:swapsWith e none pos.line ì=pure đ):xN X (.Expr e pos) (n_ te):=by
 exact#[λ E E' Y S hE z=>he.mo ñ (λ _ _ q=>hE.nx È q) z,PS.imp (R0 he.pe hs) Ŀ];ext Ê;show Ì7 he.mo À3 z λ x S1 v H1 h1 q1 e1 p1=>h1 σ H1 (ĥ) e1 p1
def pZ (te:zw):ye:=λ E Y S=>te ķ E.rt
def QQ Æ0:xN X (.Return ↑e pos) (pZ te):=by
 exact#[λ E E' Y S hE z=>he.mo ñ (λ _ _ q=>hE.rt È q) z,PS.imp (Rw he.pe) Ŀ];ext Ê;show Ì7 he.mo À3 z λ x S1 v H1 h1 q1 e1 p1=>h1 v H1 q1 e1 p1
def kB (c:yx) (t u:ye):ye:=λ E Y S=>c ķ λ k S1=>if k=true then t E À2 else u E À2
def QV {c:Expr}{p q:È2}{tc:yx}(hc:xu X c tc) (h:xG X p t) (h':xG X q u):xN X (.If c p q pos) (kB tc t u):=by
 exact#[λ E E' Y S hE z=>hc.mo ñ (λ k S1 z=>vf (h.mo È À2 hE) (h'.mo È À2 hE) z) z,PS.imp (Rx hc.pt h.ps h'.ps) Ŀ];ext Ê;exact wI.go hc.mo À3 z Ê3
 .show#[Y,S1,ĥ,p1,h.mo È À2 (uE.ext e1) z]
 .show#[Y,S1,ĥ,p1,h'.mo È À2 (uE.ext e1) z]
abbrev xt:=D->yc->SS->(Ï4)->Prop
abbrev wG:=ÿ->yc->SS->(Ï4)->Prop
def kR (t:xt):Prop:=ļ
def Vy (t:wG):Prop:=ļ
def mQ Ý (t:xt):TG:=λ v σ H Q=>∃ d Y S,È4/\ü/\Ā/\t d ķ (x_ å Q)
def aO Ý (t:wG):rN:=λ v σ H Q=>∃ d Y S,zo å d v/\ü/\Ā/\t d ķ (x_ å Q)
structure uo Ū (e:Expr) (t:xt):Prop where
 mo:kR t
 pg:PG X e (mQ X.K t)
structure o5 Ū (es:Ĩ) (t:wG):Prop where
 mo:Vy t
 pg:sQ X es (aO X.K t)
def PG.imp Ĵ{t t':TG}(h:PG X e t) É5:PG X e t':=ţ
def sQ.imp {e:Ĩ}{t t':rN}(h:sQ X e t) É5:sQ X e t':=ţ
def hName Ä5:xt:=λ d Y S Q=>Q (Y.set i ↑d) S
def Pk Ĵ Ë6(h:PG X e (nU i)):uo X e (hName i):=
 #[λ _ _ _ _ _ hq z=>Ã5,PG.imp h λ v σ H Q #[d,Y,S,r1,r2,r3,z]=>z _ H (r2.set i r1) ä r3]
def dW:wG:=λ ds Y S Q=>ds=[]/\Q ķ
def dX (t:xt) (u:wG):wG:=λ ds Y S Q=>match ds with
 | d::r=>t d ķ fun Y' S'=>u r Y' S' Q
 | []=>ó
def Pf:o5 X [] dW:=by
 exact#[λ _ _ _ _ _ hq z=>È8,sQ.imp RJ Ê7];let#[d,Y,S,r1,r2,r3,z1,z2]:=hu;subst z1;simp![zo] at r1;show#[r1,z2 č r2 ä r3]
def Pg Ĵ{es:Ĩ}{t:xt}{u:wG}(h:uo X e t) (h':o5 X es u) (hs:(Ê8 (e::es) ì).map (·.2)=assign e ì::(Ê8 es ì).map (·.2)):o5 X (e::es) (dX t u):=by
 exact#[λ ds Y S Q Q' hq z=>?_,sQ.imp (RK h.pg h'.pg hs) Ê7]
 .cases ds with
  | nil=>show z
  | cons d r=>show h.mo d ñ (fun Y' S' z=>h'.mo r Y' S' È hq z) z
 .let#[ds,Y,S,r1,r2,r3,z]:=hu;cases ds with
  | nil=>show z.elim
  | cons d r=>
   simp![zo] at r1;let#[x,xs,rfl,q1,q2]:=r1;exact#[x,xs,rfl,d,Y,S,q1,r2,r3,h.mo d ñ (fun Y' S' z σ' H' g1 g2 g3=>?_) z];show#[r,Y',S',Ž g2 r q2,g1,g3,h'.mo r Y' S' È (fun Y2 S2 z2=>x_.ext g2 z2) z]
def pQ (n:Nat) (t:wG):xt:=λ d Y S Q=>match d with
 | ś=>ń=n/\t ds ķ Q
 | _=>ó
def Ph Ĵ Ã7{t:wG}(h:PG X e (Xu X.K n (aO X.K t))) (hm:Vy t):uo X e (pQ n t):=by
 exact#[λ d Y S Q Q' hq z=>?_,PG.imp h Ê7]
 .cases d with
  | tup ds=>show#[z.1,hm ds ñ hq z.2]
  | _=>show z
 .let#[d,Y,S,r1,r2,r3,z]:=hu;cases d with
  | tup ds=>
   simp![zf] at r1;let#[a,xs,rfl,q1,q2]:=r1;show#[a,xs,rfl,q1,by rw[<- q2.length];show z.1,ds,Y,S,q2,r2,r3,z.2]
  | _=>show z.elim
def wQ (te:zw) (g:xt):ye:=λ E Y S=>te ķ λ x S1=>g x À2 E.nx
def wQ.mo {g:xt}(h:yn te) (h':kR g):tF (wQ te g):=λ E E' Y S hE z=>h ñ (λ x S1 q=>h' x À2 È (fun Y S q=>hE.nx È q) q) z
def UX {g:xt}(h:yn te) (h':kR g) {D:Ends}ŝ ģ(hu:ft K (wQ te g) D č):mV (zL K te) (mQ K g) D č:=by
 ext Ê;exact Ì7 h À3 z ë;show#[x,Y,S1,q1,ĥ,p1,h' x À2 È (fun Y S q=>x_.ext e1 q) h1]
def QZ {tg e:Expr}{g:xt}Æ0 (hg:uo X tg g) (hs:swapsWithSole [tg] e pos.line ì=pure đ) (hw:swappedStores [tg] e ì=pure none)
  (h1:(Ê8 [tg] ì).map (·.2)=[assign tg ì]):xN X (.Assign [tg] e pos) (wQ te g):=
 #[wQ.mo he.mo hg.mo,PS.imp (ZG he.pe hg.pg hs hw h1) λ _ _ _ hu=>UX he.mo hg.mo hu]
def QP {e0:Stmt}Ë6(h:PS X e0 (mV (zL X.K te) (nU i))) (hm:yn te):xN X e0 (wQ te (hName i)):=by
 exact#[wQ.mo hm λ _ _ _ _ _ hq z=>Ã5,PS.imp h Ŀ];ext Ê;exact Ì7 hm À3 z ë;show h1 _ H1 ((ĥ).set i q1) e1 p1
end
structure mH where
 items:ÿ
 keep:Þ
abbrev wV:=yc->SS->(mH->Þ)->Prop
def gp (t:wV):Prop:=∀ Y S (Q Q':mH->Þ),(∀ I S',Q I S'->Q' I S')->Ã4
def kS Ý (H1:Hp) (J:It) (I:mH):Prop:=∀ Ä5 ā (S:SS),Ext H1 H->Ā->I.keep S->
 (∀ d,I.items[i]?=↑d->J.go i H/\∀ x H',J.oV i H x H'->È5/\zK À6 S/\zf À6 d x)/\(ŋ<=i->J.stop i H)
def IJ Ý ā (R:It->Ĝ):mH->Þ:=λ I S1=>∀ J H1,Ext H H1->zK K H1 S1->kS K H1 J I->R J H1
def vD Ý (t:wV):TI:=fun σ H R=>∃ Y S,ü/\Ā/\t ķ (IJ å R)
structure tE Ū (tg iter:Expr) (t:wV):Prop where
 mo:gp t
 pi:PI X tg iter (vD X.K t)
def PI.imp ĩ{tg e:Expr}{t t':TI}(h:PI X tg e t) Ø:PI X tg e t':=á
section
variable {ĩ}{Ì1}{tg e:Expr}{Ś}
theorem zo.at ģ Ç4 Ü Ë6 Ð5{x:V}(r:í) (h1:ds[i]?=↑d) (h2:xs[i]?=↑x):ŕ:=by
 let#[y,e1,e2]:=r.get h1;rw[h2] at e1;cases e1;show e2
def uz (lo:Int) (n:Nat):ÿ:=(Ŗ n).map λ(k:Nat)=>D.int (lo+(k:Int))
def Rb {lo:Int}{n i:Nat}Ð5(h:(uz lo n)[i]?=↑d):i<n/\d=Ħ (lo+(i:Int)):=by
 unfold uz at h;rw[AG] at h;cases q:(Ŗ n)[i]? with
 | none=>rw[q] at h;cases h
 | some j=>
  rw[q] at h;let#[h1,h2]:=AQ.mp q;rw[Cs] at h1;rw[DP] at h2;subst h2;cases h;show#[h1,rfl]
def Ra (lo:Int) (n:Nat):(uz lo n).length=n:=by unfold uz;rw[AM,Cs]
def kS.range {H1:Hp}{lo:Int}Ã7:kS K H1 (gr lo n) #[uz lo n,Ï7]:=λ i H S _ x2 _=>by
 exact#[λ d hd=>?_,λ hl=>by rw[show (mH.mk (uz lo n) Ï7).items=uz lo n from rfl,Ra] at hl;show hl];let#[h1,rfl]:=Rb hd;exact#[h1,Ë8];let#[rfl,rfl]:=q;show#[.refl _,x2,É]
def dH (t:zY):wV:=fun Y S R=>t ķ λ ds S1=>match ds with
 | [Ħ j]=>(-(2 ^ 62)<=j/\j<2 ^ 62)/\R #[uz 0 j.toNat,Ï7] S1
 | _=>ó
variable {tA:zY}
def Pd (h:PI X tg e (Xj (wq X.K tA))) (hm:sS tA):tE X tg e (dH tA):=by
 exact#[fun Y S Q Q' hq z=>hm ñ (λ ds S1 z=>?_) z,PI.imp h fun σ H R hu=>?_]
 .split at z
  .show È8
  .show z.elim
 .ext Ê;exact wq.go hm À3 z Ţ;split at h1
  .let#[x,rfl,q]:=q1.one;simp![zf] at q;subst q;show#[_,rfl,h1.1.1,h1.1.2,h1.2 _ Í3 .range]
  .show h1.elim
def kD (ti:wV) (g:xt) (tb:ye):ye:=λ E Y S=>ti ķ λ I S1=>∃ W:Nat->Ï4,W 0 À2/\(∀ i Y S,W i ķ->I.keep S)/\
 (∀ i d Y S,I.items[i]?=↑d->W i ķ->g d ķ fun Y2 S2=>tb { E with nx:=W (i+1),ct:=W (i+1),bk:=E.nx } Y2 S2)/\∀ Y S,W ŋ ķ->E.nx ķ
def kD.mo {ti:wV}{g:xt}{tb:ye}(hi:gp ti) (hg:kR g) (hb:tF tb):tF (kD ti g tb):=λ E E' Y S hE z=>hi ñ (λ I S1 #[W,w0,wk,ws,wd]=>by
 exact#[W,w0,wk,λ i d Y S hd hw=>hg d ñ (fun Y2 S2 z=>hb { E with nx:=W (i+1),ct:=W (i+1),bk:=E.nx } { E' with nx:=W (i+1),ct:=W (i+1),bk:=E'.nx } Y2 S2 #[Ä9,hE.rt,hE.nx,Ä9] z) (ws i d ķ hd hw),fun Y S q=>hE.nx È (wd ķ q)]) z
def QW {iter:Expr}{body:È2}{ti:wV}{g:xt}{tb:ye}(hp:PassesOwn Ó ì X.xe) ċ (hi:tE X tg iter ti) (hg:uo X tg g) (hb:xG X body tb)
  (hs:ĭ):xN X (.For tg iter body [] pos) (kD ti g tb):=by
 exact#[kD.mo hi.mo hg.mo hb.mo,PS.imp (Ry hp hc hi.pi hg.pg hb.ps hs) Ŀ];ext Ê;exact#[Y,S,r1,r2,hi.mo ñ (λ I S1 hW J H1 e1 p1 rep=>?_) z];let#[W,w0,wk,ws,wd]:=hW;exact#[λ i m σ H2=>m=ŋ-i/\i<=ŋ/\Ext H1 H2/\∃ Y S,yC X.K H2 Y σ/\zK X.K H2 S/\W i ķ,#[_,rfl,AZ _,.refl _,Y,S1,ĥ,p1,w0],?_];rintro i m σ2 H2 ⟨rfl,hi',x2,Y2,S2,q1,q2,w2⟩;let#[g1,g2]:=rep i H2 S2 x2 q2 (wk i Y2 S2 w2);by_cases hl:i<ŋ
 .have hd:I.items[i]?=↑I.items[i]:=by simp[hl]
  let#[go,yl]:=g1 _ hd;exact ņ #[go,fun σ' H'=>Ext H1 H'/\∃ Y S,yC X.K H' Y σ'/\zK X.K H' S/\W (i+1) ķ,fun σ' H' q=>#[_,⋯,rfl,hl,q],λ x H3 hy=>?_];let#[x3,p3,d3]:=yl x H3 hy;exact#[_,Y2,S2,d3,q1.ext x3,p3,hg.mo _ Y2 S2 È (fun Y4 S4 z4 σ4 H4 a1 a2 a3=>?_) (ws i _ Y2 S2 hd w2)];exact#[Y4,S4,a1,a3,hb.mo È Y4 S4 #[Ė,λ _ _ q=>wF.ext Ì9 q,λ _ _ q=>x_.ext Ì9 q,Ė] z4]
 .have e:i=ŋ:=⋯;subst e;show Ě #[g2 Œ,wd Y2 S2 w2 σ2 H2 q1 (Š x2) q2]
abbrev yZ:=ÿ->Ë5
def tG (sp:yZ):Prop:=∀ ds S (Q Q':DK),ò->sp ds S Q->sp ds S Q'
def vV Ý (sp:yZ):Sp:=λ vs H Q _=>∃ ds S,zo å ds vs/\Ā/\sp ds S (wF å Q)
def kE (sp:yZ) (t:zY):zw:=fun Y S Q=>t ķ λ ds S1=>sp ds S1 Q
def O7 {sp:yZ}{E:XK}Ĵ(h:PE X e (aX (vV X.K sp) [] E (wq X.K tA))) (hs:tG sp) (hm:sS tA):PD X e (kE sp tA):=by
 exact#[fun Y S Q Q' hq z=>hm ñ (λ ds S1 z=>hs ds S1 È hq z) z,ũ h Õ];ext Ê;exact wq.go hm À3 z Ţ;rw[BR];show#[ds,S1,q1,p1,hs ds S1 È (λ d S' q=>wF.ext e1 q) h1]
def vE (N:ĝ) (ds:ÿ):yc:=ds.map some++List.replicate (N.length-ń) none
theorem yC.init ģ{N:ĝ}Ç4{vs:Å3}(r:zo å ds vs):yC å (vE N ds) (start N vs):=by
 have hl:=Í4;exact#[by unfold vE L2.start;simp[hl],λ i d h=>?_];unfold vE at h;have hi:i<ń:=by
  rcases Bn i ń with q | q
  .show q
  .rw[Cr (by exists q),CP] at h;split at h <;> cases h
 rw[Cq (by exists hi),AG] at h;cases q:ds[i]? with
 | none=>rw[q] at h;cases h
 | some d'=>
  rw[q] at h;cases h;let#[x,e1,e2]:=r.get q;exact#[x,?_,e2];unfold L2.start;rw[Cq (by exists by lia),AG,e1];rfl
def kd ū{mg:Aq}{base:Heap}ė È9{N ps:ĝ}Ë0{sp:yZ}Â1 (Sc:we N ps (zH st))
  (len:∀ ds S Q,sp ds S Q->ń=ps.length)
  (EY:∀ Â5 ā (E:XK),Á1->
   ∃ t,xG ň/\∀ ds S Q,sp ds S Q->t { nx:=λ _ S'=>Q .zj S',rt:=Q } (vE N ds) S):xb Í2 yM (k+1) f fd ps (vV K sp):=by
 exact F.ok Sc (λ vs H Q E h=>?_) λ Af A outer s H vs Q E hr h=>?_
 .let#[ds,S,r1,_,z]:=h;rw[<- r1.length];show len Ť z
 .let#[ds,S,r1,r2,z]:=h;let#[t,ht,hq]:=EY Af A outer s H E hr;exact#[_,ht.ps,vE N ds,S,.init r1,r2,ht.mo { nx:=λ _ S'=>wF å Q .zj S',rt:=wF å Q } Ť #[fun Y S' q σ' H' _ b c=>q .zj H' (É) b c,Ä9,λ _ _ q=>É8 q,λ _ _ q=>É8 q] (hq ds S _ z)]
def uP É0 (Y:yc):yc:=pick.map λ o=>o.bind λ i=>(Y[i]?).join
theorem yC.pick ģ{Y:yc}ŝ(r:ü) É0:yC å (uP pick Y) Ã1:=by
 exact#[by unfold uP uO;simp,λ i d h=>?_];unfold uP at h;rw[AG] at h;cases q:pick[i]? with
 | none=>rw[q] at h;cases h
 | some o=>
  rw[q] at h;cases o with
  | none=>simp at h
  | some j=>
   simp![Option.map_some,Ba,Option.some.injEq] at h;have hj:Y[j]?=↑↑d:=by
    cases q2:Y[j]? with
    | none=>rw[q2] at h;cases h
    | some o2=>rw[q2] at h;simp![Option.join_some] at h;rw[h]
   let#[v,e1,e2]:=r.2 j d hj;exact#[v,?_,e2];unfold uO;rw[AG,q];simp[e1]
def ot (Y Y':yc):Prop:=Y.length=Y'.length/\∀ Ä5 d,Y[i]?=↑↑d->Y'[i]?=↑↑d
def ot.rep ģ{Y Y':yc}ŝ(h:ot Y Y') (r:yC å Y' σ):ü:=#[h.1.trans r.1,λ i d q=>r.2 i d (h.2 i d q)]
structure mq Ū (ifs:Ĩ) (t:yx):Prop where
 mo:vA t
 pf:PF X ifs (wI X.K t)
def PF.imp {ifs:Ĩ}{t t':TT}(h:PF X ifs t) Ø:PF X ifs t':=á
def XT:yx:=λ _ S Q=>Q true S
def Pm:mq X [] XT:=#[λ _ _ _ _ hq z=>Ã5,PF.imp RU λ _ H _ #[_,_,_,r2,z]=>z H ä r2]
def Pl {c:Expr}{t:yx}(h:xu X c t):mq X [c] t:=#[h.mo,RT h.pt]
end
end L3
namespace L2
open PySem É9 ŉ
def KC Ý (tl:TE):TI:=fun σ H R=>tl č λ x H1=>∃ a,x=Ù a/\(((∃ xs,zU K H1 a xs)/\R (V2 K a) H1)\/((∃ xs,yk K H1 a xs)/\R (V1 K a) H1))
def RF ĩ{tg l:Expr}{tl:TE}(hl:PE X l tl):PI X tg l (KC X.K tl):=by
 intro EW s σ H R I h;exact zD (hl EW s č _ I h) λ v s1 #[x,H1,I1,r1,a,hx,q1]=>?_;subst hx;cases r1;have new:∀ b∈[s1.heap.objs.size],uI X EW H1 b:=λ b hb=>by
  obtain rfl:b=s1.heap.objs.size:=AI.mp hb;show I1.kf Œ (I1.zt.fresh Œ)
 rcases q1 with ⟨⟨xs,hq⟩,q⟩ | ⟨⟨xs,hq⟩,q⟩
 .let#[Ab,_,pl,_]:=I1.list hq;show zaM Ŵ #[_,_,_,_,H1,rfl,Ã6,Ti a _,Ų,new,q]
 .let#[Ab,_,pt,_]:=I1.tuple hq;show zaP (show s1.heap.IsTuple a ô from pt) #[_,_,_,_,H1,rfl,Ã6,Tf a _,Ų,new,q]
def range_all (bs:É2):(Ŗ bs.length).all (ĺ)=bs.all id:=by
 rw[Bh,BL,BL];constructor
 .intro h b hb;let#[i,hi,rfl]:=Ca.mp hb;have:=h i (AO.mpr hi);simpa [hi] using this
 .intro h i hi;have hi':=AO.mp hi;have:=h bs[i] (BF hi');simpa [hi'] using this
def range_any (bs:É2):(Ŗ bs.length).any (ĺ)=bs.any id:=by
 rw[Bh,A_,A_];constructor
 .rintro⟨i,hi,h⟩;have hi':=AO.mp hi;show#[bs[i],BF hi',by simpa [hi'] using h]
 .rintro⟨b,hb,h⟩;let#[i,hi,rfl]:=Ca.mp hb;show#[i,AO.mpr hi,by simpa [hi] using h]
theorem WM {bs:É2}{Ab:Ai}(r:Vals (bs.map V.bl) Ab) Ë6{v:ī}(h:ô[i]?=↑v):v=.bool (bs.getD i true):=by
 have hl:=Í4;rw[AM] at hl;have h':Ab[i]?=↑v:=by exists h
 have hi:i<bs.length:=by
  rw[hl];rcases Bn i Ab.length with q | q
  .show q
  .rw[C7 q] at h';cases h'
 let#[u,e1,e2]:=r.get (i:=i) (x:=.bl bs[i]) (by simp[hi]);rw[h'] at e1;cases e1;have:v=.bool bs[i]:=e2;rw[this];simp[hi]
section
variable {ĩ}
theorem HV ċ:yL X (Ã9 "all") (λ xs H Q=>∃ p,∃ bs:É2,ŷ/\zU X.K H p (bs.map V.bl)/\Q (.bl (bs.all id)) H):=by
 ext Å2
 exact call_all_walk (zaM Ŵ ?_);exact Ì
 .rw[WM rv hv];show zaH hq'
 .have e:(Ŗ ľ).all (ĺ)=bs.all id:=by rw[AK,<- hl,range_all]
  ext Ĕ
theorem HU ċ:yL X (Ã9 "any") (λ xs H Q=>∃ p,∃ bs:É2,ŷ/\zU X.K H p (bs.map V.bl)/\Q (.bl (bs.any id)) H):=by
 ext Å2
 exact call_any_walk (zaM Ŵ ?_);exact Ì
 .rw[WM rv hv];show zaH hq'
 .have e:(Ŗ ľ).any (ĺ)=bs.any id:=by rw[AK,<- hl,range_any]
  ext Ĕ
end
end L2
namespace L3
open PySem É9 L2
open ŉ hiding St
structure Bt (mg:Aq):Prop where
 len:mg "len"=none
 range:mg "range"=none
 any:mg "any"=none
 all:mg "all"=none
 sorted:mg "sorted"=none
 isinstance:mg "isinstance"=none
 bool:mg "bool"=none
 int:mg "int"=none
 str:mg "str"=none
 list:mg "list"=none
 tuple:mg "tuple"=none
 max:mg "max"=none
 min:mg "min"=none
section
variable {ĩ}{a e:Expr}{es:Ĩ}{te:zw}{pos p:Pos}
def iJ {N':ĝ}Ð2{Ć esc:Scope}{N:ĝ}(hE:Î3=esc:=by rfl) (hN:X.N=N:=by rfl) (h1:scope.kind=.function:=by rfl)
  (h2:scope.names.all (λ y=>Į (Ġ y.1=↑y.2))=true:=by decide +kernel)
  (h4:scope.names.all (λ y=>! Į (y.2=À7)||(Į (esc.names.lookup y.1=↑ Î6)||Į (esc.names.lookup y.1=↑ À7)))=true:=by decide +kernel)
  (h5:pick.length=N'.length:=by rfl) (h6:nu N N' pick Ć=true:=by decide +kernel):ŧ:=by
 exact#[h1,λ y hy=>of_decide_eq_true (BL.mp h2 y hy),λ y hy hf=>?_,h5,by rw[hN];show h6];have:=BL.mp h4 y hy;rw[za3 hf] at this;rw[hE];exists this
def Pj Ä5 Ç2(hN:X.N.Nodup) Â9 É6:uo Ç3 (hName i):=
 Pk (RO hN hi hx hf)
def eK Ë0{t:wG}Ã7(h:o5 X es t) ċ (hn:(Ê8 es ì).length=n) (AD:(Ê8 es ì).findIdx? (·.1)=none):uo X (.Tuple es k pos) (pQ n t):=
 Ph (RL hc h.pg hn AD) h.mo
def QO Ä5 Ç2{pos':Pos}(hN:X.N.Nodup) Æ0 Â9 (hs:swapsWith e ↑(.Name x pos') pos.line ì=pure đ)
  É6:xN X (.Assign [.Name x pos'] e pos) (wQ te (hName i)):=
 QP (ZF hN hi hx he.pe hs hf) he.mo
def dG (te:zw):wV:=fun Y S R=>te ķ λ x S1=>match x with
 | ś=>R #[ds,Ï7] S1
 | .vb ds=>R #[ds,Ï7] S1
 | Ù p=>match S1 p with
  | ű=>R #[ds,λ S=>S p=↑(ĕ ds)] S1
  | _=>ó
 | _=>ó
def Pa {tg:Expr}(h:PD X e te):tE X tg e (dG te):=by
 exact#[fun Y S Q Q' hq z=>h.mo ñ (λ x S1 z=>?_) z,?_]
 .cases x with
  | ref p=>
   dsimp only at z ⊢;split at z
   .show Ã5
   .show z.elim
  | vb ds=>show Ã5
  | tup ds=>show Ã5
  | _=>show z
 .exact PI.imp (RF h.pe) fun σ H R hu=>?_
  ext Ê;exact Ì7 h.mo À3 z ë;cases x with
  | tup ds=>
   ext Ä4;exact#[a,rfl,ņ #[#[xs,g1],h1 _ Í3 λ i H2 S2 x1 x2 _=>#[λ d hd=>?_,λ hl=>#[xs,x1.ju g1,by rw[<- g2.length];show hl]]]];let#[y,hy,_]:=g2.get hd;exact#[#[xs,y,x1.ju g1,hy],Ë8];let#[rfl,q]:=q;show#[.refl _,x2,(Ž x1 ds g2).at hd (q xs (x1.ju g1))]
  | ref p=>
   dsimp only at h1;split at h1
   .rename_i ds e2;ext Ê4;subst q1;let#[xs0,g1,_]:=p1 È e2;exact#[p,rfl,Ě #[#[xs0,zU.of g1],h1 _ Í3 λ i H2 S2 x1 x2 hk=>?_]];let#[xs,g3,g4]:=x2 È hk;exact#[λ d hd=>?_,λ hl=>#[xs,zU.of g3,by rw[<- g4.length];show hl]];let#[y,hy,_]:=g4.get hd;exact#[#[xs,y,zU.of g3,hy],Ë8];let#[rfl,q]:=q;show#[.refl _,x2,g4.at hd (q xs (zU.of g3))]
   .show h1.elim
  | vb ds=>
   ext Ä4;exact#[a,rfl,Ě #[#[xs,g1.sq],h1 _ Í3 λ i H2 S2 x1 x2 _=>#[λ d hd=>?_,λ hl=>#[xs,(x1.jv g1).sq,by rw[<- g2.length];show hl]]]];let#[y,hy,_]:=g2.get hd;exact#[#[xs,y,(x1.jv g1).sq,hy],Ë8];let#[rfl,q]:=q;show#[.refl _,x2,(Ž x1 ds g2).at hd (q xs (x1.jv g1).sq)]
  | _=>show h1.elim
end
end L3
namespace L4
open PySem PySem.W ŉ
def yI {α:Type}(n:Nat) (lt:Č):KasT α->(α->Prop)->Prop
 | .ret a,Q=>Q a
 | .ask i j k,Q=>i<n/\j<n/\yI n lt (k (lt i j)) Q
theorem Ç1 {α:Type}Ã7{lt:Č}{Q Q':α->Prop}(hq:∀ a,Q a->Q' a):∀ {t:KasT α},yI n lt t Q->yI n lt t Q'
 | .ret _,h=>hq _ h
 | .ask Ť,h=>#[h.1,h.2.1,Ç1 hq h.2.2]
theorem yI.bind {α β:Type}Ã7{lt:Č}{f:α->KasT β}{Q:β->Prop}:∀ {t:KasT α},yI n lt t (λ a=>yI n lt (f a) Q)->yI n lt (t.bind f) Q
 | .ret _,h=>h
 | .ask Ť,h=>#[h.1,h.2.1,yI.bind h.2.2]
section
variable {Ã7}{lt:Č}
def Le (lt:Č) (a b:Nat):Prop:=lt b a=đ
structure Ord (lt:Č):Prop where
 tr:∀ a b c,Le lt a b->Le lt b c->Le lt a c
 as:∀ a b,lt a b=true->Le lt a b
def Ord.refl (o:Ord lt) (a:Nat):Le lt a a:=by
 cases h:lt a a with
 | đ=>show h
 | true=>show o.as a a h
def xH (n:Nat) (p:Ę):Prop:=p.Perm (Ŗ n).toArray
theorem xH.size {p:Ę}(h:xH n p):p.size=n:=by rw[Array.Perm.size_eq h];simp
theorem xH.below {p:Ę}(h:xH n p) Ë6(hi:i<n):Ú i 0<n:=by
 have hs:=h.size;have hm:Ú i 0∈p:=by
  rw[DN,Bv ⋯];show Array.getElem_mem ⋯
 have:Ú i 0∈(Ŗ n).toArray:=(Array.Perm.mem_iff h).mp hm;exists this
def kb {p q:Ę}{i j:Nat}(h:p[i]?=q[j]?):Ú i 0=q.getD j 0:=by rw[DN,DN,h]
def um (lt:Č) (p:Ę) (k:Nat):Prop:=∀ i j,i<=j->j<k->Le lt (Ú i 0) (Ú j 0)
def sT (lt:Č) (p:Ę) (k:Nat):Prop:=∀ i j,i<=j->j<k->Le lt (Ú j 0) (Ú i 0)
def um.next æ Ë0(h:um lt p k) (hk:1<=k) (hl:Le lt (Ú (k-1) 0) Í8):um lt p (k+1):=λ i j A9 hj=>by
 by_cases EL:j<k
 .show h i j A9 EL
 .ext Ì3
  .subst hi;show ž
  .show o.tr Ť (h i (j-1) ø) hl
def sT.next æ Ë0(h:sT lt p k) (hk:1<=k) (hl:Le lt Í8 (Ú (k-1) 0)):sT lt p (k+1):=λ i j A9 hj=>by
 by_cases EL:j<k
 .show h i j A9 EL
 .ext Ì3
  .subst hi;show ž
  .show o.tr Ť hl (h i (j-1) ø)
theorem bx æ ť:∀ (f a:Nat),1<=a->a+f<=n->um lt p a->
  yI n lt (kas_asc p f a) λ m=>a<=m/\m<=a+f/\um lt p m/\(m=a+f\/Ľ=true)
 | 0,a,_,_,hs=>#[An _,An _,hs,Ě rfl]
 | f+1,a,h1,h2,hs=>by
  exact ĉ;cases c:lt (Ú a 0) (Ú (a-1) 0) with
  | true=>show#[An _,⋯,hs,ņ c]
  | đ=>
   exact Ç1 ?_ (bx o hp f (a+1) ø (hs.next o h1 c));rintro m ⟨g1,g2,g3,g4⟩;show#[⋯,⋯,g3,g4.imp (λ e=>⋯) id]
def lg {p:Ę}ť (i j:Nat):xH n (kas_rev p i j):=Array.Perm.trans (mirror_perm È È) hp
theorem lh {p:Ę}ť {i j:Nat}(hj:j<=n) (k:Nat):Á3=if i<=k/\k<j then Ú (i+j-1-k) 0 else Ú k 0:=by
 have e:=getElem?_mirror_all (xs:=p) (i:=i) (j:=j) (by rw[hp.size];show hj) k;split
 .rename_i h;rw[Ğ h] at e;show kb e
 .rename_i h;rw[ğ h] at e;show kb e
def rev_eq æ ť {i j:Nat}(hj:j<=n) (he:∀ a b,i<=a->a<j->i<=b->b<j->Â0) (k:Nat):
  Le lt (Á3) Í8/\Le lt Í8 (Á3):=by
 rw[lh hp hj];split
 .rename_i h;show#[he È ø h.1 h.2,he È h.1 h.2 ø]
 .show#[ž,ž]
def sT.of_eq (o:Ord lt) {p q:Ę}Ë0(h:sT lt p k) (e:∀ k,Le lt (q.getD k 0) Í8/\Le lt Í8 (q.getD k 0)):sT lt q k:=λ i j A9 hj=>
 o.tr Ť (e j).1 (o.tr Ť (h i j A9 hj) (e i).2)
def aj (lt:Č) (p:Ę) (m q:Nat):Prop:=∀ a b,m-(q+1)<=a->a<m->m-(q+1)<=b->b<m->Â0
theorem iG (o:Ord lt):∀ (f:Nat) (p:Ę) (m q:Nat),xH n p->1<=m->m+f<=n->sT lt p m->q+1<=m->aj lt p m q->
  yI n lt (kas_desc f p m q) λ r=>xH n r.1/\m<=r.2.1/\r.2.1<=m+f/\sT lt r.1 r.2.1/\r.2.2+1<=r.2.1/\aj lt r.1 r.2.1 r.2.2
 | 0,p,m,q,hp,_,_,hd,hq,hb=>#[hp,An _,An _,hd,hq,hb]
 | f+1,p,m,q,hp,h1,h2,hd,hq,hb=>by
  have one:∀ p':Ę,aj lt p' (m+1) 0:=λ p' a b a1 a2 b1 b2=>by
   have:a=b:=⋯;ext Ð7
  exact ĉ;cases c:Ľ with
  | true=>
   dsimp only;rw[Ğ rfl];have hl:=o.as È c;by_cases h0:q>0
   .rw[Ğ h0];have e:=rev_eq o hp (i:=m-(q+1)) (j:=m) ⋯ hb;have hp':=lg hp (m-(q+1)) m;exact Ç1 ?_ (iG o f _ (m+1) 0 hp' ø ((hd.of_eq o e).next o h1 (o.tr Ť (e m).1 (o.tr Ť hl (e (m-1)).2))) ⋯ (one _));ext þ
   .rw[ğ h0];exact Ç1 ?_ (iG o f _ (m+1) 0 hp ø (hd.next o h1 hl) ⋯ (one _));ext þ
  | đ=>
   dsimp only;rw[ğ B3];exact ĉ;cases d:lt (Ú (m-1) 0) (Ú m 0) with
   | true=>show#[hp,An _,(by change m<=m+(f+1);lia),hd,hq,hb]
   | đ=>
    dsimp only;rw[ğ B3];exact Ç1 ?_ (iG o f _ (m+1) (q+1) hp ø (hd.next o h1 d) ⋯ λ a b a1 a2 b1 b2=>?_)
    .ext þ
    .by_cases ha:a=m
     .by_cases hb':b=m
      .subst ha;subst hb';show ž
      .subst ha;show o.tr Ť d (hb (a-1) b ø ø)
     .by_cases hb':b=m
      .subst hb';show o.tr Ť (hb a (b-1) ø ø) c
      .show hb a b ø ø
theorem aV æ{m:Nat}ť (h1:1<=m) (h2:m<=n) (hd:sT lt p m):yI n lt (kas_tail3 m n p) Ļ:=by
 exact yI.bind (Ç1 ?_ (bx o (lg hp 0 m) (n-m) m h1 ⋯ Ï8))
 .rintro k ⟨a1,a2,a3,_⟩;show#[lg hp 0 m,⋯,a3]
 .rw[lh hp h2,lh hp h2,Ğ #[AZ _,⋯],Ğ #[AZ _,hj]];show hd È ø
theorem XY æ{m:Nat}ť (h1:1<=m) (h2:m<n) (hd:sT lt p m) (hl:Ľ=true):yI n lt (kas_descPart m n p) Ļ:=by
 exact yI.bind (Ç1 ?_ (iG o (n-(m+1)) p (m+1) 0 hp ø (hd.next o h1 (o.as È hl)) ⋯ λ a b a1 a2 b1 b2=>?_))
 .rintro⟨p',m',q'⟩ ⟨a1,a2,a3,a4,a5,a6⟩;dsimp only at a1 a2 a3 a4 a5 a6 ⊢;by_cases h0:q'>0
  .rw[Ğ h0];show aV o (lg a1 È) ø (a4.of_eq o (rev_eq o a1 (i:=m'-(q' + 1)) (j:=m') ⋯ a6))
  .rw[ğ h0];show aV o a1 ø a4
 .have:a=b:=⋯;ext Ð7
theorem Hc æ ť (h1:1<=n):yI n lt (kas_count n p) Ļ:=by
 exact yI.bind (Ç1 ?_ (bx o hp (n-1) 1 Œ ⋯ Ï8))
 .rintro m ⟨a1,a2,a3,a4⟩;by_cases hm:m=n
  .rw[Ğ (by simp[hm])];show#[hp,⋯,a3]
  .rw[ğ (by simp[hm])];have hl:Ľ=true:=a4.resolve_left ⋯;by_cases h2:m>1
   .rw[Ğ h2];exact ĉ;cases c:lt (Ú 0 0) (Ú (m-1) 0) with
    | true=>show#[hp,⋯,a3]
    | đ=>
     dsimp only;rw[ğ B3];have all:∀ a b,0<=a->a<m->0<=b->b<m->Â0:=λ a b _ ha _ hb=>
      o.tr Ť (a3 a (m-1) ø) (o.tr Ť c (a3 0 b ⋯ hb))
     have e:=rev_eq o hp (i:=0) (j:=m) ⋯ all;exact XY o (lg hp 0 m) ø (λ i j A9 hj=>o.tr Ť (e j).1 (o.tr Ť (all È (AZ _) hj (AZ _) ⋯) (e i).2)) ?_;rw[lh hp ⋯,lh hp ⋯,ğ ⋯,Ğ ⋯];cases q:lt (Ú m 0) (Ú (0+m-1-(m-1)) 0) with
     | true=>rfl
     | đ=>
      have:=o.tr Ť (all (m-1) (0+m-1-(m-1)) (AZ _) ⋯ (AZ _) ⋯) q;unfold Le at this;rw[this] at hl;cases hl
   .rw[ğ h2];have e:m=1:=⋯;subst e;exact XY o hp Œ ⋯ (Ï8) hl;have:i=j:=⋯;ext Ð7
 .have:i=j:=⋯;ext Ð7
)
example:=`(
example À(I:Inv X EW σ H s):=0
example Á _:=x ‹_› hA
example Â:=Option
example Ã:=by rcases yE e with ⟨rfl,hl,e⟩ | ⟨n,e⟩
example Ç:=List T
example À1{ts:Ç}:=0
example ü{ds:List D}:=0
example Ä À1 ü:=0
example Å _:=x S Z Y J
example Ľ{H:Hp}:=0
example Ç6:=Shared
example Æ{EW:Ak}{σ:St}Ľ{s:Ç6}:=0
example È _:=x _ _
example ă:=Value
example ĥ:=List Key
example Æ8:=List (ĥ ×Addr× ă)
example Ä5:=List (ĥ ×V)
example É{Aa:Ä5}{xs:Æ8}(r:KT H Aa xs):=0
example Ê:=zk S ts ds
example Ë:=by simp![zk] at h;let#[c,cs,rfl,h1,h2]:=h
example ď:=List Int
example Ì:=List (ď)
example ŷ:=decide
example Í:=λ kv=>ŷ (kv.1=k)
example Î:=by let#[_,_,q,g]:=h2.qC p r2;cases q
example Ï _:=x S (.refl S)
example Ĭ:=List (κ × V)
example Ð{Aa:Ĭ}{vs:List (κ × ă)}(r:KV Aa vs):=0
example Ñ(he:AE X e es) (Ao:AL X pos es):=0
example Ò:=by rcases yE e' with ⟨rfl,hl,e'⟩ | ⟨n,e'⟩
example Ð5 _:=x _ hE e1
example Ó _:=x Ð5 λ d S1 s1 r1=>?_
example Ô:=List (Key×V)
example Õ:=Addr->Prop
example Ö:=by rcases h with h | ⟨_,_,_,h,_⟩
example Ø:=if_neg
example Ù:=.lst ts
example Ú:=vs.length
example Æ1:=by let#[d,rfl,h1]:=vC hv
example Û:=by ext Æ1;let#[ts,e1,rfl]:=Ax.mp e;let#[es,h2,h3]:=h1.seq e1
example Ü:=if_pos
example ŗ _:=x _ (hE.grow s1) e2
example Ĳ:=(s1.trans s2)
example Ç5 _:=x S1 Z Y J
example Ý _:=x Ç5 y ŗ λ d S2 s2 r2=>hq d S2 Ĳ (Cl.cl s1 r2)
example Þ{k:Nat}(hr:ya k X.A) (ha:PD X a ta) (hb:PD X b tb):=0
example Ê4:=(by change X.A.units+1+_<_;lia)
example ß _:=x (λ y hy=>Vm I a3 a6 g2 w1 a4 a1 rx (A:=X.A.in1) Ê4 Ê4 (by exists hy)) #[.bl _,H,I,rfl,?_]
example ř _:=x S0 Z0
example à:=FR ř Å
example Ã8:=by simp[h.len]
example á:=#[#[h.er.zd,λ j t e=>?_,λ j ts e=>?_],Ã8,h.sx,h.z0,h.zz,h.zn,λ j ts p e e'=>?_,λ j k ts us p n e1 e2 e3 e4=>?_]
example â:=vs.toArray
example ã:=.ref
example ä:=sizeLine
example å:=(λ _=>nofun)
example æ:=false
example ç:=by rw[zP (ud q h (by intro z;cases z))];show q
example è:=by rcases yE e1 with ⟨rfl,hl,e⟩ | ⟨n1,e1⟩
example é:=Ev->Â (Ç)
example ê(i:Nat):=0
example ë _:=x X.K H
example ì _:=x (model prog w) A
example ş{xs:List V}:=0
example Æ4:=zo ë ds xs
example í ş{Ab:Ai}(h1:Ê) (h2:Æ4) (h3:Vals xs Ab):=0
example î:=T->T->Â T
example č:=Al.mp e
example ï:=by let#[x,e1,e0]:=č;let#[xs,e2,e3]:=Al.mp e0;cases e3;exact h Å x Ó;exact h' Ç5 xs ŗ λ ds S2 s2 r2=>?_
example È3:=List (Key×D)
example ð{Aa:È3}{vs:Ô}:=0
example ñ:=ts.length
example ò:=.int
example ĕ:=[].toArray
example Å5:=s.heap.update a (Obj.mapSeq λ _=>ĕ)
example ó:=(((Å5).push (seqObj "tuple" â 0)).push (seqObj "list" ĕ 0)).get?
example ô:=HT.lexLt
example õ:=(zB S Z)
example ö _:=x e (λ z=>nomatch z) fin
example ø:=Ev->Â Bool
example ù:=by let#[_,_,_,_,_,q,_]:=h2.rL r2;cases q
example ú _:=x X.prog X.w
example û(ha:yS X (e::es) tA):=0
example ý:=nomatch h2.flat r2
example þ(he:PD X e te) (hg:Gl X "isinstance"):=0
example ÿ:=by let#[x,e1,e2]:=č;exact h Å x Ó
example Ā(ha:yD fa ta) (hb:yD fb tb):=0
example ā:=s.heap.objs.size
example Ă:=Aa.length
example Ą:=by simp![dep] at hn hu hu';let#[e1,e2,q]:=el hn hu hu' g1 g2 r1 r2 v1 v2;exact en (λ z=>by cases hq z;rfl) ?_;rw[cC,<- e1,<- e2]
example Æ2:=s.heap.get?
example ą:=Æ2 b=↑o
example Ć{a:Addr}:=0
example ć:=nQ (by rw[h.len];show hl)
example Ĉ:=by intro EW s σ H x y v u Q I rx ry h;let#[S,d,e,t,u',a1,a2,a3,a4,a5,a6,a7,q]:=h
example ĉ:=Ev->Â Ev
example Ċ:=(seqObj "list" â 0)
example ċ{g:Int->Int->T}{g':Int->Int->D}(h:∀ i j S,Sn S (g i j) (g' i j)) (n:∀ i j ts,g i j≠ Ù):=0
example Č:=by let#[Y,S,r1,r2,z]:=hu
example Ď:=by rcases yE e2 with ⟨rfl,hl,e⟩ | ⟨n2,e2⟩
example Đ:=by let#[_,_,_,q,_]:=h2.sk p r2;cases q
example đ:=by rcases yE e2 with ⟨rfl,hl,_⟩ | ⟨n2,e2⟩
example Ē:=.cons
example ē:=.Name
example Ĕ(p:zK ë S):=0
example Ė:=Ç6->Prop
example Æ5:=(Aa.any Í)
example Ç1:=λ kv=>if kv.1=k then (kv.1,v) else kv
example ė:=if Æ5=true then Aa.map (Ç1) else Aa++[(k,v)]
example Ę:=(a == sysModules)=æ
example ę:=Sx S S'
example Ě:=rp (nP (λ _ _ _=>wx) λ _ _ _=>nofun) ha hb
example ů _:=x È _
example ě _:=x PySem.F.slot_dict_get dd.typeIs PySem.F.entry_dict_get (PySem.F.args_dict_get_3 ů)
example Ĝ:=by let#[_,_,_,q,_]:=h2.sf r2;cases q
example ĝ:=(.dK Aa)
example Ğ:=PySem.W.kia_one
example ğ:=hq _ S1 s1 h2 λ _ _=>trivial
example Ġ:=by let#[_,_,#[o,e,c,_],_]:=I.tuple h1
example Â9:=(sO Ab ts u)
example ġ:=by rw[show Ab.toArray.any Â9=Ab.any Â9 by simp,Vl I a3 a6 g2 w1];show q
example Ģ{P:Program}{w:World}:=0
example ģ:=(·.2)
example Ĥ:=Sn S t d
example Ħ:=(f J).bind
example ħ{d:D}:=0
example Ĩ:=by exact#[dd.typeIs,λ b q=>?_,hd];cases q;let#[ob,_,_,h1,h2,_]:=dd;show#[ob,h1,h2.2.1]
example ĩ _:=x ha.pa () () he Ao
example Ī:=.tup
example ī:=.lst ds
example ś:=cLine
example ĭ(hu:X.A.units+1<ś) (ho:PE X o td):=0
example Į:=h1.length.trans (r1.length.trans (r2.length.symm.trans h2.length.symm))
example į:=ts.any λ t=>eqT t u
example İ _:=x (e::es) [] pos
example ı:=by simp![zf]
example ĳ(ry:RelV y u):=0
example Ĵ:=by rw[e] at e';cases e';rw[c] at c'
example ĵ{k:Nat}(hr:ya k X.A) (ho:PD X o td):=0
example Ķ:=A.units
example ķ ş{us:Ai}{l:Addr}(g:Ê) (r:zo K H ds xs) (v:Vals xs us):=0
example ĸ _:=x È Á
example Ĺ(ok:yq P w H h):=0
example ĺ:=by rcases g with ⟨Aa,k,e,ey,l⟩ | ⟨Aa,k,b,e,ey,eb,l⟩
example É6:=vs.toArray.zip â
example Ļ:=(arrOf (SortSt.mk' general' (É6) ĕ 7 none)).map ģ
example À5:=(ã p)
example ļ:=Y[i]?=↑↑ À5
example ľ{A:Around}:=0
example Ŀ:=zf ë d x
example È0:=Value.ref
example ŀ:=by subst ey;cases (show u=È0 b from ry);let#[z,hd,xs,rel,dd]:=ku I.zt e
example È2:=tupleKind (vw P w)
example Ł:=Ă<=ä/\Ę/\ ∃ xs,KT H Aa xs/\h.DictOfH (È2) a xs
example ł:=gV (seqEpoch_at g6 rfl (gV (listUpdate_at g6 rfl ?_ (AZ _) ?_)))
example Ń:=.inl
example ń:=by simp![zf] at r
example Ņ:=by simpa only [Sn] using q
example ņ:=hq S1 s1
example Ň{S:SS}:=0
example ň:=by rw[h1.length,h2.length,h3.length]
example ŉ:=hq _ Ï (Cl.of å wx)
example Ŋ:=p.getD
example ŋ:=λ a b=>ô b a=æ
example Ō:=by cases h
example ō:=by let#[z,hd,vs,rel,dd]:=nZ I.zt e
example Ŏ:=by subst ex;obtain rfl:u=È0 a:=rx
example É8:=False
example ŏ:=(show É8 from r).elim
example Ő:=hq _ Ï (Cl.of å vp)
example ő:=by .simpa only [Sn] using h
example Œ:=True.intro
example Ż:=X.env
example œ:=(backToKw Ah (keywordEach [] Ż)).all (λ x=>x.1.isSome)
example Ŕ:=List Bool
example ŕ:=h.fr i ts p e ed
example Ŗ(e2:L2.z_ ds i=↑d) (h:Q d S):=0
example Ê1:=h.er.ow
example Ř:=by let#[p',ds,h1,h2,h3,h4]:=Ê1 i ts e;rw[ed] at h1;cases h1
example Ś(S:SS) (Z:Õ):=0
example Ŝ:=∀ a,Z a->S a≠none
example ŝ:=zk õ ts ds
example Ş:=(J.set i ↑(.im y))
example Í7:=by let#[b,e1,e2]:=č
example Š:=by ext Í7;exact h Å b Ð5 λ S1 s1=>?_;split at e2
example š:=.nil
example Ţ:=kat_nil (by simpa [ô] using h)
example ţ:=(ts.getD j .zj)
example Ť:=by rename_i t h;cases e;let#[d,h1,h2]:=hE.im i _ h;unfold zX;rw[h1]
example ť:=H a=↑(.dK vs)
example Ŧ{X:Cx}:=0
example ŧ:=wpAny
example Ũ:=(ē "isinstance" p)
example ũ:=.bl b
example Ū:=λ z=>e (h1.trans z)
example ū:=.Subscript o i pos'
example Ŭ:=by have q:=h1.flat r1;subst q
example ŭ:=PyProof.Rows
example Ů:=xh K H Aa vs
example Ű:=by ext Č;exact zL.go ho.mo r1 r2 z λ x S1 w H1 h1 q1 e1 p1=>?_
example ű:=ā<=h1.objs.size->Q' vs { s with heap:=h1,toks:=tk }
example Ų:=us.length
example ų:=∃ bs:Ŕ,zZ d S=↑(bs.map D.bl)/\Q (.bl (g bs)) S
example Ŵ:=by let#[q1,q2]:=tQ q
example ŵ:=by obtain⟨ds,rfl | ⟨a,rfl,h1⟩,h2⟩:=Vw.lst r1
example Ŷ:=of_decide_eq_false
example Ÿ:=Ă<=ä/\Ę/\∃ vs,KV Aa vs/\h.DictOf (vw P w) a vs
example Ź:=by let#[a',E8,ds',q,k1,k2,k3]:=h2.sk p r2;cases q
example Æ6:=putK Aa k v
example ź:=by have hl:(Æ6).length<=ä:=by have:=Y9 Aa k v;lia
example ż:=by let#[a',E8,ds',q,k1,k2,k3]:=h2.sf r2;cases q
example Ï8 _:=x ⋯ ⋯
example Ž:=b7 I a3 t u' (A:=X.A) Ï8 a4 a5 a1 a2 rx ry
example Ë4:=.Call
example ž:=(Ë4 (.Attribute o "get" apos) [e,f] [] Ah)
example ſ:=by dsimp only
example À0{vs:Ai}{rows:Ì}:=0
example À2:=by simp![Sn] at h
example À3:=by have q:=h.flat r;subst q
example À4:=Paired.length
example À6:=.str
example À7:=by simp[eqT]
example À8:=by let#[_,_,_,_,_,q,g,_]:=h2.rL r2;cases q
example À9 _:=x uh.fits uh.mo ha hb (u6 _)
example Á0:=h1.symm.trans
example Á1:=(Aa.map λ kv=>if kv.1=k then (kv.1,y) else kv)
example Á2(K:Ac) (H:Hp):=0
example Á3{a C:Addr}{dx:Â Addr}:=0
example Á4(h2:H a=↑(vT a C dx)):=0
example Á5 _:=x Å y _ F.er e1
example Á6:=(show ty=_ from hx)
example Á7:=by simp![zk] at h;subst h
example Á8:=by let#[_,_,#[o,n,e,c,_],_]:=I.list h1
example Á9 _:=x (r1.ext e1) p1 h1 λ y S2 w2 H2 h2 q2 e2 p2=>?_
example Â0:=by cases e2;change Q (!ds.isEmpty) S1;rw[h2.empty];show ņ
example Â1:=by let#[y,e1,e2]:=č
example Â2:=.tuple_list ‹_› Á
example Â3:=H b=↑(Ī (k.map kV))
example Â4:=(e1.trans e2).trans e3
example Â5 _:=x hg2 () () he hg h1 h2 h3
example Í4:=(.zW Aa)
example Â6:=∃ a Aa,(d=ã a/\Aa=[])/\S a=↑ Í4
example Â7:=by let#[y,e1,rfl]:=Ax.mp e
example Â8:=List (V× ď)
example Ã0:=bz I p h1 h2 h3 u (j:=j) (by simp[hj])
example Ã1:=tupleKind_room_in1 hu
example Ã2:=by let#[o',_,e',c',_]:=ic I h2;ext Ĵ;cases c'
example Ã3:=.list_tuple ‹_› Á
example Ã4:=(if ([]:List Keyword).isEmpty then 0 else 1)
example Ã5:=(zB S' λ a=>Z a\/a=p)
example Ä0 _:=x S' Z y d
example Ã6:=R S Ä0
example Ã7:=J[i]?=↑↑(.own ts)
example Ã9(rows:Ì):=0
example Ä1:=by rename_i hb;rw[Ü hb]
example Ä2 _:=x n e1 e2 e3 e4
example Ä3:=(model ú)
example Ä4:=by have q:=h2.flat r2;cases q;rfl
example Ä6:=by rename_i hb;rw[Ø hb]
example Ä7:=(g J).bind
example Ä8:=hq #[ds,_] S1 s1 h2 λ S'' s=>s È h1
example Ä9{p:Addr}:=0
example Å0(neg:Bool):=0
example Å1:=lt (Ŋ k 0) (Ŋ i 0)
example Å2:=(.bl (cond neg (!eqT t u) (eqT t u)))
example Å3(hu:X.A.units+64<ś):=0
example Å4{v:V}(r:zf K H d v):=0
example Å6{α:Type}{l:List α}:=0
example Å7{neg:Bool}:=0
example Å8:=by ext ń;let#[a,xs,rfl,g1,_]:=r;cases h
example Å9:=by have:l=r:=⋯;subst this;show#[h2,ha,hb]
example Æ0:=by by_cases e:p.1=k
example Æ3:=h.objs.size
example Æ7:=(.own (Ù))
example Æ9:=by simp![bne_self_eq_false,Bs,if_false]
example Ç0:=by rename_i e;cases h;let#[xs,g1,_]:=p È e
example Ç2:=(∀ c S',ę->R S S' Z z c->Q c S')
example Ç3:=h' Ç5 y ŗ λ S2 s2=>hq S2 Ĳ
example Ç4:=Sn (zB S λ a=>Z a/\a≠p) (Ù) À5
example Ç7:=.builtin
example Ç8:=ps.map (·.1)
example Ç9:=(tP ty T)
example È1:=H e=↑(vT e C dx)
example È4:=(r1.ext e1).ext e2
example È5:=(zB S' Z)
example È6:=by simp![Sn]
example È7:=F.grow s1
example È8 _:=x (.type ty) (.type T)
example È9:=by ext ſ;rw[e];show h
example É0{S S':SS}:=0
example É1(f:Ad):=0
example É2:=by simp![Sn] at q ⊢
example É3{f:Ad}{t:zw}:=0
example É4 _:=x ú X.xe _ #[.bl _,H,I,rfl,q]
example É5:=List.range
example É7:=Value.none
example É9:=backTo Ah (starEach [e,f] Ż)
example Ê0:=Vw S Z y d
example Ê2:=λ j k us vs q n e1 e2 e3 e4=>?_
example Ê3:=(∀ Y',FR ř S Z Y' J'->Q Y' S)
example Ê5:=by ext ń;let#[a,xs,rfl,g1,g2]:=r
example Ê6:=by subst this;rw[fu I p ts us g3 k3 g2 k2]
example Ê7 _:=x EW s1 σ H1 _ I1 q1
example Ê8(h:yD f t):=0
example Ê9:=absurd
example Ë0:=ē "tuple" q
example Ë1:=by simp[xZ]
example Ë2{y:V}{u:ă}:=0
example Ë3:=by let#[xs,e1,e2]:=č
example Ë5:=fun σ H Q hu=>?_
example Ë6:=is'.toArray.size
example Ë7:=.bool_tuple _ Á
example Ë8:=(.bl (cond neg (!(į)) (į)))
example Ë9:=Inv X EW σ H s'
example Ì0:=zk.sx
example Ì1:=hq _ Ï (Cl.of (n È) (h ů))
example Ì2 _:=x È È
example Ì3{α β:Type}{F:α->β->Prop}:=0
example Ì4 _:=x uC.mo (uC.fits λ _ _ _=>ı) ha.mo
example Ì5 _:=x A s (ã l) (ã l')
example Ì6 _:=x _ H (ı) (.refl H)
example Ì7:=(call (Ç7 "sorted") [ã a])
example Ì8:=.tuple_bool _ Á
example Ì9:=by cases e2;show hq _ S1 s1 (Cl.of å vp)
example Í0:=l.length
example Í1:=(apos.endLine == Ah.line)=true
example Í2:=S p=none
example Í3:=(.dT Aa)
example Í5{b:Bool}:=0
example Í6(m:M2 X o "get" apos e f Ah):=0
example Í8:=get?_update_seq
example Í9:=(qs.map ģ)
example Î0:=by cases e2;show ņ
example Î1:=String
example Î2:=H a=↑ ĝ
example Î3:=ē "bool" q
example Î4:=S p=↑(ī)
example Î5:=(ò i)
example Î6:=t::ts
example Î7:=#[c,rfl,h1]
example Î8:=is.toArray.size
example Î9:=.bool_list _ Á
example Ï0:=valueAt
example Ï1:=(I.tok _)
example Ï2:=.list_bool _ Á
example Ï3:=.new hp _
example Ï4:=#[y,by simpa using e1,e2]
example Ï5:=Decidable
example Ï6:=(vg λ a z=>z.1)
example Ï7:=λ b o q=>?_
example Ï9(ts:Ç):=0
example Ð0(h1:yk ë a xs):=0
example Ð1:=by let#[o',e',c']:=Xb I h2;ext Ĵ
example Ð2{Aa:Ô}:=0
example Ð3(H:Hp) (a:Addr):=0
example Ð4 _:=x (k:=Sum.inl k) g1
example Ð6(hg:zV R g t) (hh:zV R h u):=0
theorem eF {p:Array Nat}{k:Nat}(hp:xH n p) (hk:k<n) (hs:um lt p k) (o:Ord lt):∀ (f l r:Nat),r-l<=f->l<=r->r<=k->(∀ i,i<l->Le lt (Ŋ i 0) (Ŋ k 0))->(∀ i,r<=i->i<k->Å1=true)->
  yI n lt (kas_place p k f l r) λ m=>m<=k/\(∀ i,i<m->Le lt (Ŋ i 0) (Ŋ k 0))/\(∀ i,m<=i->i<k->Å1=true)
 | 0,l,r,h0,h1,h2,ha,hb=>by
  ext Å9
 | f+1,l,r,h0,h1,h2,ha,hb=>by
  unfold kas_place;by_cases Dp:l≥r
  .rw[Ü Dp];ext Å9
  .rw[Ø Dp];exact#[hp.below hk,hp.below ⋯,?_];cases c:lt (Ŋ k 0) (Ŋ ((l+r)/2) 0) with
   | true=>
    ext ſ;rw[Ü rfl];exact eF hp hk hs o f l ((l+r)/2) Ï8 ⋯ ha λ i hi DY=>?_;cases q:Å1 with
    | true=>rfl
    | æ=>
     have:=o.tr ů (hs ((l+r)/2) i hi DY) q;unfold Le at this;rw[this] at c;cases c
   | æ=>
    ext ſ;rw[Ø B3];exact eF hp hk hs o f ((l+r)/2+1) r Ï8 h2 (λ i hi=>?_) hb;show o.tr ů (hs i ((l+r)/2) Ï8) c
theorem WW (o:Ord lt):∀ (f:Nat) (p:Array Nat) (k:Nat),xH n p->k+f=n->um lt p k->yI n lt (kas_bin f p k) λ r=>xH n r/\um lt r n
 | 0,p,k,hp,h1,hs=>by
  have:k=n:=⋯;subst this;show#[hp,hs]
 | f+1,p,k,hp,h1,hs=>by
  exact yI.bind (yI.mono ?_ (eF hp ⋯ hs o k 0 k ⋯ (AZ _) (An _) (λ i hi=>Ê9 hi (Nat.not_lt_zero _)) λ i hi DY=>Ê9 DY ⋯));rintro l ⟨a1,a2,a3⟩;exact WW o f _ (k+1) (Array.Perm.trans (bubble_perm ů) hp) ⋯ λ i j A9 hj=>?_;have ev:∀ x,(bubble p k (k-l)).getD x 0=if x=l then Ŋ k 0 else if l<x/\x<=k then Ŋ (x-1) 0 else Ŋ x 0:=λ x=>by
   have e:=getElem?_bubble (xs:=p) (src:=k) (by rw[hp.size];lia) (k-l) ⋯ x;rw[show k-(k-l)=l by lia] at e;split
   .rename_i h;rw[Ü h] at e;show kb e
   .rename_i h;rw[Ø h] at e;split
    .rename_i h';rw[Ü h'] at e;show kb e
    .rename_i h';rw[Ø h'] at e;show kb e
  rw[ev i,ev j];by_cases hi:i=l
  .rw[Ü hi];by_cases hj':j=l
   .rw[Ü hj'];show o.refl _
   .rw[Ø hj',Ü #[⋯,⋯]];show o.as È (a3 (j-1) Ï8)
  .rw[Ø hi];by_cases hj':j=l
   .rw[Ü hj',Ø ⋯];show a2 i ⋯
   .rw[Ø hj'];by_cases hi2:l<i/\i<=k
    .rw[Ü hi2,Ü #[⋯,⋯]];show hs È Ï8
    .rw[Ø hi2];by_cases hj2:l<j/\j<=k
     .rw[Ü hj2];show hs È Ï8
     .rw[Ø hj2];show hs È A9 ⋯
theorem Sh (o:Ord lt) (h1:1<=n):yI n lt (kas_sort n) λ r=>xH n r/\um lt r n:=by
 have hp:xH n (É5 n).toArray:=Array.Perm.refl _;exact yI.bind (yI.mono ?_ (Hc o hp h1));rintro⟨m,p⟩ ⟨a1,a2,a3⟩;dsimp only at a1 a2 a3 ⊢;by_cases hm:m<n
 .rw[Ü hm];exact WW o _ p (max m 1) a1 ⋯ ?_;by_cases h0:m=0
  .subst h0;intro i j A9 hj;have:i=j:=⋯;subst this;show o.refl _
  .rw[show max m 1=m by lia];show a3
 .rw[Ø hm];have:m=n:=⋯;subst this;show#[a1,a3]
end
end L4
namespace L4
open PySem PySem.W PySem.Calls ŭ
section
variable {prog:Program}{w:World}{ľ}{E:Aj}{s:Ç6}
def Core (prog:Program) (w:World) (A:Around) (E:Aj) (vs:Ai) (Out:Array ă->Prop) (s6:Ç6):Prop:=
 ŧ ì (keyKind' â) (fun κ s'=>s'=s6/\ŧ ì ((sortRuns').run (SortSt.mk' κ (É6) ĕ 7 none))
  (λ r s''=>s''=s6/\failedOf r.2=none/\Out ((arrOf r.2).map ģ)/\(arrOf r.2).size=Ú) E s') E s6
def LH Ć{vs:Ai}{n:Nat}{P:PySem.Fin->Ė}{Out:Array ă->Prop}(ho:Æ2 a=↑(seqObj "list" â n)) (hz:Ú<=ä)
  (core:2<=Ú->∀ s6:Ç6,(∀ b o,b≠a->ą->s6.heap.get? b=↑o)->Core prog w A E vs Out s6) (short:Ú<2->Out â)
  (fin:∀ out:Array ă,Out out->out.size=Ú->P (.done (.ret .none)) { s with heap:=sortedHeap s.heap a vs out }):
  ŧ ì (Builtin.«list.sort» #[[ã a],[]]) P E s:=by
 have ha:a<ā:=Ar ho;obtain⟨e1,g1⟩:∃ e1,(Å5).get? a=↑(seqObj "list" ĕ e1):=#[_,Í8 ho (λ _=>ĕ)];have hz':vs.toArray.size<=ä:=by rw[AK];show hz
 have g6:ó a=↑(seqObj "list" ĕ e1):=tp _ (tp _ g1);have keep:∀ b o,b≠a->ą->ó b=↑o:=
  λ b o hb e=>tp _ (tp _ (by rw[zaQ Ì2 hb];show e))
 rw[list_sort_plain];exact gV (listItems_at ho rfl (gV (listUpdate_at ho rfl (gV (seqEpoch_at g1 rfl (gV (wpAny_newTuple (gV (wpAny_newList (za9 ?_))) (by exists hz))))) hz' (AZ _))));by_cases h2:vs.toArray.size<2
 .rw[Ü h2,Ü h2];have e2:Ļ=â:=by
   change (É6).map ģ=â;apply Array.ext #[];intro i h1 h2;simp
  exact gV (Ae ?_);ext ſ;rw[StateT.run_pure];exact gV (Ae ?_);ext ſ;exact ł
  .ext Æ9;have q:=fin _ (e2▸short (by exists h2)) (by rw[e2];simp);show Ae q
  .change ((Ļ)).size<=ä+1;rw[e2];lia
 .rw[Ø h2,Ø h2];have h2':2<=Ú:=by exists h2
  exact gV (za4 (core h2' _ keep) (fun κ s7 #[hs,h7]=>?_) λ _ _ z=>z);subst hs;exact gV (za4 h7 (λ r s8 #[hs,hf,EC,hsz]=>?_) λ _ _ z=>z);subst hs;obtain⟨⟨⟩,st⟩:=r;exact ł
  .have hf':failedOf st=none:=hf;rw[hf'];ext Æ9;show Ae (fin _ EC (by rw[C6];show hsz))
  .change ((arrOf st).map ģ).size<=ä+1;rw[C6];have:(arrOf st).size=Ú:=hsz;lia
def Sg {h:Heap}{vs:Ai}(out:AB):∃ e,(sortedHeap (h.push Ċ) Æ3 vs out).get? Æ3=↑(seqObj "list" out e):=by
 have there:(h.push Ċ).get? Æ3=↑ Ċ:=AJ _ rfl;show#[_,Í8 (tp _ (tp _ (Í8 there λ _=>ĕ))) λ _=>out]
def aZ Ć{vs:Ai}{Q:Aj}{Out:Array ă->Prop}{N:Õ}
  (C:∀ Q':List ă->Ė,(∀ h1 tk,(∀ b o,¬ N b->ą->h1.get? b=↑o)->ű)->ŧ (model prog w) A.in1 (collect (ã a)) Q' E s) (hz:Ú<=ä)
  (core:2<=Ú->∀ s6:Ç6,(∀ b o,¬ N b->ą->s6.heap.get? b=↑o)->Core prog w A.in1.in1 E vs Out s6) (short:Ú<2->Out â)
  (fin:∀ (out:AB) (h':Heap) (tk l:Nat),Out out->out.size=Ú->ā<=l->(∀ b o,¬ N b->ą->h'.get? b=↑o)->(∃ e,h'.get? l=↑(seqObj "list" out e))->Q (ã l) { s with heap:=h',toks:=tk }):
  ŧ ì Ì7 Q E s:=by
 exact Calls.call_function_entry kind_sorted plain_sorted entry_sorted (args_sorted1 _) ?_;unfold Builtin.«sorted»;exact gV (m:=checkCount "sorted" 1 1 _) (Ae (gV (C _ λ h1 tk k1 k2=>gV (wpAny_newList ?_ hz))));have hoL:(h1.push Ċ).get? h1.objs.size=↑ Ċ:=AJ _ rfl;change ŧ È ů { s with heap:=h1.push Ċ,toks:=tk };exact gV (za9 (zaC slot_list_sort #[_,hoL,rfl] entry_list_sort (LH hoL hz (λ h2 s6 k=>core h2 s6 λ b o n q=>k b o (AF (Ar (k1 b o n q))) (tp _ (k1 b o n q))) short λ out g1 g2=>#[_,rfl,?_]) (args_list_sort _)));exact Ae #[_,rfl,fin out _ tk h1.objs.size g1 g2 k2 (λ b o n q=>?_) (Sg out)];have q1:=k1 b o n q;have hb:=AF (Ar q1);unfold sortedHeap;rw[zaQ Ì2 hb];exact tp _ (tp _ ?_);rw[zaQ Ì2 hb];show tp _ q1
end
end L4
namespace L4
open PySem PySem.W PySem.Calls ŭ L2
theorem du:∀ a b:ď,ô a b=true->ô b a=æ
 | [],[],h=>Ō
 | [],_::_,_=>rfl
 | _::_,[],h=>Ō
 | x::a,y::b,h=>by
  rw[HT.pH] at h ⊢;by_cases e:x=y
  .subst e;rw[Ü rfl] at h ⊢;show du a b h
  .rw[Ø e] at h;rw[Ø (Ne.symm e)];have:=of_decide_eq_true h;show za2 ⋯
theorem Y8:∀ a b:ď,ô a b=æ->ô b a=æ->a=b
 | [],[],_,_=>rfl
 | [],_::_,h,_=>Ō
 | _::_,[],_,h=>Ō
 | x::a,y::b,h,h'=>by
  rw[HT.pH] at h h';by_cases e:x=y
  .subst e;rw[Ü rfl] at h h';rw[Y8 a b h h']
  .rw[Ø e] at h;rw[Ø (Ne.symm e)] at h';have h1:=Ŷ h;have h2:=Ŷ h';lia
theorem dr:∀ a b c:ď,ô b a=æ->ô c b=æ->ô c a=æ
 | [],[],[],_,_=>rfl
 | [],[],_::_,_,h=>h
 | [],_::_,[],_,h=>Ō
 | [],_::_,_::_,_,_=>rfl
 | _::_,[],_,h,_=>Ō
 | _::_,_::_,[],_,h=>Ō
 | x::a,y::b,z::c,h,h'=>by
  rw[HT.pH] at h h' ⊢;by_cases e1:y=x
  .subst e1;rw[Ü rfl] at h;by_cases e2:z=y
   .subst e2;rw[Ü rfl] at h' ⊢;show dr a b c h h'
   .rw[Ø e2] at h' ⊢;show h'
  .rw[Ø e1] at h;have h1:=Ŷ h;by_cases e2:z=y
   .subst e2;rw[Ø e1];show h
   .rw[Ø e2] at h';have h2:=Ŷ h';rw[Ø ⋯];show za2 ⋯
theorem eJ {α:Type}{r:α->α->Prop}(an:∀ a b,r a b->r b a->a=b):∀ {l₁ l₂:List α},l₁.Perm l₂->l₁.Pairwise r->l₂.Pairwise r->l₁=l₂
 | [],l₂,h,_,_=>(List.nil_perm.mp h).symm
 | a::l₁,[],h,_,_=>Ê9 (List.perm_nil.mp h) #[]
 | a::l₁,b::l₂,h,h1,h2=>by
  have B0:a=b:=by
   have ha:a∈b::l₂:=h.mem_iff.mp Au;have hb:b∈a::l₁:=h.mem_iff.mpr Au;rcases Am.mp ha with e | ha
   .show e
   .rcases Am.mp hb with e | hb
    .show e.symm
    .show an È (List.rel_of_pairwise_cons h1 hb) (List.rel_of_pairwise_cons h2 ha)
  subst B0;rw[eJ an (List.Perm.cons_inv h) (BC.mp h1).2 (BC.mp h2).2]
def wu Ã9:Ì:=rows.mergeSort λ a b=>! ô b a
def qd Ã9:(wu rows).Perm rows:=List.mergeSort_perm È
def fR Ã9:(wu rows).Pairwise ŋ:=by
 have:=List.pairwise_mergeSort (le:=λ a b:ď=>! ô b a) (λ a b c h1 h2=>by simp at h1 h2 ⊢;show dr a b c h1 h2)
  (λ a b=>by
   cases h:ô b a with
   | æ=>simp
   | true=>simp[du b a h]) rows
 show this.imp λ h=>by exists h
def a_ {rows out:Ì}(hp:out.Perm rows) (hs:out.Pairwise ŋ):out=wu rows:=
 eJ (λ a b h1 h2=>Y8 a b h2 h1) (hp.trans (qd rows).symm) hs (fR rows)
def mZ Ã9 (i j:Nat):Bool:=ô (rows.getD i []) (rows.getD j [])
def SM Ã9:Ord (mZ rows):=#[λ _ _ _ h1 h2=>dr ů h1 h2,λ _ _ h=>du È h]
section
variable {prog:Program}{w:World}{ľ}{E:Aj}{s:Ç6}{Q:Bool->Ė}
theorem YK Í5:∀ (ns ms:ď) (us ws:Ai) ê,IntsAre us ns->IntsAre ws ms->Q (ô ns ms) s->KatLex prog w A b (ŷ (ns.length<ms.length)) Q (us.zip ws) i s
 | [],[],_,_,_,š,š,h=>Ţ
 | [],_::_,_,_,_,š,Ē ů,h=>Ţ
 | _::_,[],_,_,_,Ē ů,š,h=>Ţ
 | n::ns,m::ms,_,_,i,Ē _ t hu,Ē _ u hw,h=>by
  rw[HT.pH] at h;exact kat_cons (SeqAt.EqAt.int_int n t m u prog w È (kat_go (λ e=>kat_yes ?_) λ e=>kat_no ?_))
  .have e':n=m:=by exists e
   rw[Ü e'] at h;rw[show ŷ ((n::ns).length<(m::ms).length)=ŷ (ns.length<ms.length) by simp];show YK ns ms È (i+1) hu hw h
  .have e':¬ n=m:=by exists e
   rw[Ø e'] at h;cases b&&i == 0 with
   | true=>show kat_lt_int h
   | æ=>show kat_one È (lt_int h)
def oy (h:Heap):List ă->Ì->Prop:=Paired λ v r=>r≠[]/\∃ b o Ab n,v=ã b/\h.get? b=↑o/\o.cls=.type "tuple"/\o.data=.seq Ab n/\IntsAre Ab.toList r
theorem oy.X8 {h:Heap}:∀ À0,oy h vs rows->∃ fs,KatTups h vs fs/\fs.length=Ú/\∀ v∈fs,∃ n t,v=Value.int n t
 | _,_,š=>#[[],KatTups.nil,rfl,λ _ hv=>Ê9 hv #[]]
 | _,_,Ē #[AA,b,o,Ab,n,hv,ho,hc,hd,hi] r=>by
  let#[fs,h1,h2,h3]:=oy.X8 r;subst hv;let#[Ab]:=Ab;cases hi with
  | nil=>show Ê9 rfl AA
  | cons k t _=>show#[ò k t::fs,KatTups.cons ho hc hd rfl h1,by simp[h2],λ v hv=>(Am.mp hv).elim (λ e=>#[k,t,e]) (h3 v)]
theorem Paired.at' Ì3:∀ {l₁:List α}{l₂:List β}{i:Nat},Paired F l₁ l₂->i<l₁.length->∀ (d:α) (e:β),F (l₁.getD i d) (l₂.getD i e)
 | _,_,_,š,h,_,_=>Ê9 h #[]
 | _,_,0,Ē r _,_,_,_=>r
 | _,_,i+1,Ē _ t,h,d,e=>by exists Paired.at' (i:=i) t (by exists h) d e
def oy.ask À0 Í5(r:oy s.heap vs rows) {i j:Nat}(hi:i<Ú) (hj:j<Ú) {C:Bool->Ė}(h:C (mZ rows i j) s):kas_ask prog w A (tuples' b) vs i j C s:=by
 let#[_,b1,o1,its1,n1,e1,g1,_,d1,q1]:=Paired.at' r hi É7 [];let#[_,b2,o2,its2,n2,e2,g2,_,d2,q2]:=Paired.at' r hj É7 [];unfold kas_ask;rw[e1,e2];exact kat_lt g1 d1 g2 d2 ?_;have l1:=q1.length;have l2:=q2.length;rw[BG] at l1 l2;rw[l1,l2];show YK Ì2 0 q1 q2 h
theorem aB {α:Type}{n:Nat}{lt:Nat->Nat->Bool}{cmp:Nat->Nat->(Bool->Ė)->Ė}{Q:α->Ė}(hc:∀ i j C,i<n->j<n->C (lt i j) s->cmp i j C s):∀ {t:KasT α},yI n lt t (λ a=>Q a s)->t.kasWp cmp Q s
 | .ret _,h=>h
 | .ask i j _,h=>hc i j _ h.1 h.2.1 (aB hc h.2.2)
def bH (vs:Ai) Ã9 (out:AB):Prop:=
 ∃ ps:List (ă × ď),ps.Perm (vs.zip rows)/\out.toList=Ç8/\(ps.map ģ).Pairwise ŋ
theorem Uy {α β:Type}{l:List α}{m:List β}(h:Í0=m.length) (a:α) (b:β):(É5 Í0).map (λ i=>(l.getD i a,m.getD i b))=l.zip m:=by
 exact C5 (by simp;lia) λ i h1 h2=>?_;have h3:i<Í0/\i<m.length:=by simp at h1;lia
 simp[h3.1,h3.2]
theorem T_ {rows:Ì}{p:Array Nat}{n:Nat}(hn:p.size=n) (h:um (mZ rows) p n):(p.toList.map λ i=>rows.getD i []).Pairwise ŋ:=by
 rw[C4,C3];intro i j hi hj A9;have:=h i j (BE A9) (by rw[<- hn];exists hj);simp![BG] at hi hj;unfold Le mZ at this;simpa [DN,hi,hj] using this
theorem He À0(r:oy s.heap vs rows) (h2:2<=Ú) (h64:Ú<64):Core prog w A E vs (bH vs rows) s:=by
 let#[fs,t,hl,hf]:=r.X8;unfold Core;exact kat_kind (T:=.type "int") t ⋯ (λ v hv=>?_) rfl #[rfl,?_]
 .let#[n,t,rfl]:=hf v hv;show Looks.of_pure rfl
 .exact kat_run (ks:=vs) (Q:=λ st s''=>s''=s/\failedOf st=none/\bH vs rows ((arrOf st).map ģ)/\(arrOf st).size=Ú) (G:=λ p s''=>s''=s/\xH Ú p/\um (mZ rows) p Ú) rfl h2 h64 (λ p st s' hs ha hfl hg=>?_) ?_
  .let#[h1,h3,h4]:=hg;exact#[h1,hfl,#[p.toList.map λ i=>(vs.getD i É7,rows.getD i []),?_,?_,?_],by rw[ha,C6];show hs]
   .rw[<- Uy (À4 r) É7 []];have:=Array.Perm.toList h3;show List.Perm.map _ (by exists this)
   .rw[kat_snds rfl ha,A3];rfl
   .rw[A3];show T_ hs h4
  .show aB (λ i j C hi hj hC=>r.ask hi hj hC) (yI.mono (λ p hp=>#[rfl,hp]) (Sh (SM rows) ⋯))
end
section
variable {Ŧ}
def Paired.perm Ì3{l l':List α}(p:l'.Perm l):∀ {m:List β},Paired F l m->∃ m',m'.Perm m/\Paired F l' m':=by
 induction p with
 | nil=>intro m h;show#[m,.refl _,h]
 | cons x _ ih=>
  intro m h;cases h with
  | cons a h=>
   let#[m',h1,h2]:=ih h;show#[_,h1.cons _,Ē a h2]
 | swap x y l=>
  intro m h;cases h with
  | cons a h=>
   cases h with
   | cons b h=>show#[_,.swap ů,Ē b (Ē a h)]
 | trans _ _ ih1 ih2=>
  intro m h;let#[m1,h1,h2]:=ih2 h;let#[m2,h3,h4]:=ih1 h2;show#[m2,h3.trans h1,h4]
abbrev Vr Á2 (v:V) (r:ď):Prop:=r≠[]/\∃ b,v=V.ref b/\yk K H b (r.map V.int)
abbrev qK Á2 (ys:List V) Ã9:Prop:=Paired (Vr K H) ys rows
abbrev VR Á2:List ă->Â8->Prop:=Paired λ u q=>RelV q.1 u/\Vr K H q.1 q.2
theorem VR.of {K:Ac}Ľ:∀ {ys:List V}À0,Vals ys vs->qK K H ys rows->VR K H vs (ys.zip rows)
 | _,_,_,š,š=>š
 | _,_,_,Ē r t,Ē r' t'=>Ē #[r,r'] (VR.of t t')
abbrev kN (qs:Â8) (H:Hp) (Q:VK):Prop:=∀ p (ps:Â8),H p=none->ps.Perm qs->(ps.map ģ).Pairwise (ŋ)->Q À5 (upd H p (.lst (Ç8)))
def fQ {EW:Ak}{σ:L2.St}Ľ{s:Ç6}Ć{vs:Ai}{qs:Â8}{Q:VK}À
  (C:∀ Q':List ă->Ė,(∀ h1 tk,(∀ b o,¬ É8->ą->h1.get? b=↑o)->ű)->ŧ Ä3 X.A.in1 (collect (ã a)) Q' X.xe s)
  (hv:VR ë vs qs) (h64:qs.length<64) (q:kN qs H Q):ŧ Ä3 X.A Ì7 (EP X EW σ Q) X.xe s:=by
 have hl:Ú=qs.length:=À4 hv;have hz:qs.length<=ä:=Br (BE h64) ();have rows_at:∀ h6:Heap,(∀ b o,¬ É8->ą->h6.get? b=↑o)->oy h6 vs Í9:=λ h6 k=>by
  clear q hl h64 hz C
  induction hv with
  | nil=>show š
  | cons g t ih=>
   exact Ē ?_ ih;let#[r1,AA,b,e1,hb]:=g;rw[e1] at r1;cases r1;let#[its2,rv2,#[o,e,hc,n,hd],_]:=I.tuple hb;show#[AA,b,o,_,n,rfl,k È id e,hc,hd,by exists intsAre_of rv2]
 exact aZ (Out:=bH vs Í9) C ⋯ (λ h2 s6 k=>He (rows_at _ k) h2 ⋯) (λ h1=>#[vs.zip Í9,.refl _,by rw[List.map_fst_zip (by simp;lia)],?_]) λ out h' tk p ho hs hp k EV=>?_
 .rw[List.map_snd_zip (by simp;lia),C3];intro i j hi hj A9;simp at hi hj;lia
 .let#[ps,g1,g2,g3]:=ho;let#[e,he]:=EV;have z:Paired (λ p q=>RelV q.1 p.1/\p.2=q.2) (vs.zip Í9) qs:=by
   clear g1 hs hl h64 hz C rows_at q
   induction hv with
   | nil=>show š
   | cons a _ ih=>show Ē #[a.1,rfl] ih
  let#[qs',q1,q2]:=Paired.perm g1 z;have f:Vals (qs'.map (·.1)) (Ç8)/\qs'.map ģ=ps.map ģ:=by
   clear q1 g1 g2 g3
   induction q2 with
   | nil=>show#[š,rfl]
   | cons a _ ih=>show#[Ē a.1 ih.1,by rw[Az,Az,ih.2,a.2]]
  exact#[ã p,_,I.laid (t':=tk) (o:=.lst (qs'.map (·.1))) (λ b o e=>k b o id e) hp #[?_,out.toList,e,by rw[g2];show f.1,by exists he],rfl,q p qs' (I.zt.fresh hp) q1 (by rw[f.2];show g3)];rw[AM,q1.length_eq];show hz
end
end L4
namespace L2
open PySem PySem.Spec ŭ
def tP (ty T:Î1):Bool:=ty == T||(ty == "bool"&&T == "int")
def jj (ty T:Î1):Bool:=PySem.W.kitMeta T&&ŷ ((fastBuiltinMro ty).map (λ l=>l.contains (Value.type T))=↑ Ç9)
def Td:(["NoneType","bool","int","str","tuple","list","dict"].all λ ty=>["int","bool","tuple","list","str"].all λ T=>jj ty T)=true:=by decide +kernel
def Kb {K:Ac}{ty T:Î1}(h:jj ty T=true):PySem.W.kitOne K È8=↑ Ç9:=by
 unfold jj at h;rw[BN] at h;unfold PySem.W.kitOne;split
 .rename_i e;have e':ty=T:=by have:=eq_of_beq e;injection this
  subst e';simp[tP]
 .change (if PySem.W.kitMeta T=true then PySem.W.subIn K È8 else none)=_;rw[Ü h.1];show of_decide_eq_true h.2
def Vp Á2:V->Î1->Prop
 | .zj,t=>t="NoneType"
 | .bl _,t=>t="bool"
 | ò _,t=>t="int"
 | À6 _,t=>t="str"
 | ã a,t=>(t="tuple"/\∃ xs,yk K H a xs)\/(t="list"/\∃ xs,zU K H a xs)\/(t="dict"/\∃ Aa,Î2)
 | _,_=>É8
def HS Ŧ:yL X (Ç7 "isinstance") (λ xs H Q=>∃ x T ty,xs=[x,.ty T]/\Vp ë x ty/\jj ty T=true/\Q (.bl Ç9) H):=by
 intro EW s σ H xs us Q I r h;let#[x,T,ty,rfl,hx,hT,q]:=h;let#[u,c,rfl,ru,rc]:=vals2 r;cases (show c=Value.type T from rc);have e:PySem.W.kitOne X.K È8=↑ Ç9:=Kb hT;have fin:∀ tk,EP X EW σ Q (.bool Ç9) { s with toks:=tk }:=λ tk=>#[.bl _,H,I.tok tk,rfl,q];cases x with
 | zj=>cases (show u=É7 from ru);cases Á6;show Ğ PySem.W.kitx_none I.yB Œ ö
 | bl y=>cases (show u=Value.bool y from ru);cases Á6;show Ğ PySem.W.kitx_bool I.yB Œ ö
 | int i=>let#[t,rfl]:=(show ∃ t,u=Value.int i t from ru);cases Á6;show Ğ PySem.W.kitx_int I.yB Œ ö
 | str y=>let#[t,rfl]:=(show ∃ t,u=Value.str y t from ru);cases Á6;show Ğ PySem.W.kitx_str I.yB Œ ö
 | ref a=>
  cases (show u=È0 a from ru);rcases hx with ⟨rfl,ys,hq⟩ | ⟨rfl,ys,hq⟩ | ⟨rfl,Aa,hq⟩
  .let#[Ab,_,#[o,h1,h2,_],_]:=I.tuple hq;show Ğ PySem.W.kitx_tuple I.yB #[o,h1,h2] ö
  .let#[Ab,_,#[o,n,h1,h2,_],_]:=I.list hq;show Ğ PySem.W.kitx_list I.yB #[o,h1,h2] ö
  .let#[_,_,vs,_,p]:=(show xa ú H s.heap a ĝ from I.zt a _ hq)
   let#[o,es,ep,h1,h2,_]:=p;show Ğ PySem.W.kitx_dict I.yB #[o,h1,h2.1] ö
 | _=>show hx.elim
end L2
namespace L3
open PySem PySem.Spec L2
open ŭ hiding St
section
variable {Ŧ}{K:Ac}{a e:Expr}{es:List Expr}{te:zw}{tA:zY}{pos p q:Pos}
def Oa (hm:X.mg "len"=none) û (hg:Gl X "len") Ñ:PD X (Ë4 (ē "len" p) İ) (xD tf tA):=
 uR (uQ (HN.or HM) hg hm PySem.boot_len ĩ) tf.mo tf.fits ha.mo
def P_ (hm:X.mg "list"=none) û (hg:Gl X "list") Ñ:PD X (Ë4 (ē "list" p) İ) (xD u_ tA):=
 uR (nv HK hg hm PyProof.Rows.boot_list ĩ) u_.mo u_.fits ha.mo
def Pq (hm:X.mg "tuple"=none) û (hg:Gl X "tuple") Ñ:PD X (Ë4 (ē "tuple" p) İ) (xD uY tA):=
 uR (nv Hx hg hm PyProof.Rows.boot_tuple ĩ) uY.mo uY.fits ha.mo
abbrev XG:xF:=uC λ i j=>ò (if j>i then j else i)
abbrev XF:xF:=uC λ i j=>ò (if j<i then j else i)
def PQ (hm:X.mg "max"=none) û (hc:X.calm=true) (hg:Gl X "max") Ñ:PD X (Ë4 (ē "max" p) İ) (xD XG tA):=
 uR (uQ (HJ hc) hg hm boot_max ĩ) Ì4
def PM (hm:X.mg "min"=none) û (hc:X.calm=true) (hg:Gl X "min") Ñ:PD X (Ë4 (ē "min" p) İ) (xD XF tA):=
 uR (uQ (HI hc) hg hm boot_min ĩ) Ì4
def v_ (r:ď):D:=Ī (r.map D.int)
theorem zo.j9 Ľ:∀ {ps:Â8},(∀ q∈ps,zf K H (v_ q.2) q.1)->zo K H ((ps.map ģ).map v_) (Ç8)
 | [],_=>š
 | q::ps,h=>Ē (h q Au) (zo.j9 λ q hq=>h q (Ay _ hq))
theorem zo.jd Ľ:∀ {rows:Ì}{ys:List V},zo K H (rows.map v_) ys->∀ q∈ys.zip rows,zf K H (v_ q.2) q.1
 | [],ys,_,q,hq=>by simp at hq
 | r::rows,ys,h,q,hq=>by
  rw[Az] at h;simp![zo] at h;let#[x,ys',rfl,h1,h3]:=h;rcases Am.mp hq with e | hq
  .subst e;show h1
  .show zo.jd h3 q hq
theorem jx Ľ:∀ {rows:Ì}{ys:List V},zo K H (rows.map v_) ys->(∀ r∈rows,r≠[])->L4.qK K H ys rows
 | [],ys,h,_=>by simp![BD,zo] at h;subst h;show š
 | r::rows,ys,h,hn=>by
  rw[Az] at h;simp![zo,v_,zf] at h;let#[x,ys',rfl,#[a,xs,rfl,g1,g2],h3]:=h;rw[g2.ints] at g1;show Ē #[hn r Au,a,rfl,g1] (jx h3 λ r' hr=>hn r' (Ay _ hr))
def Pc {tg:Expr}(hm:X.mg "range"=none) (ha:yS X [a] tA) (hg:Gl X "range") (hs:starEach [a] Ż=[(æ,eval a Ż)]):tE X tg (Ë4 (ē "range" p) [a] [] pos) (dH tA):=Pd (RH hg hm ha.pa hs) ha.mo
def qa (d:D) (S:SS):Â Î1:=match d with
 | .zj=>↑"NoneType"
 | .bl _=>↑"bool"
 | ò _=>↑"int"
 | À6 _=>↑"str"
 | Ī _=>↑"tuple"
 | .vb _=>↑"list"
 | ã p=>match S p with
  | some (.lst _)=>↑"list"
  | some (.zW _)=>↑"dict"
  | _=>none
 | .err ů=>none
def kA (T:Î1) (te:zw):zw:=fun Y S Q=>te Y S λ x S1=>match qa x S1 with
 | some ty=>Q (.bl Ç9) S1
 | _=>É8
theorem qa.ok Ľ ħ{v:V}Ň{ty:Î1}(r:zf K H d v) (p:zK K H S) (h:qa d S=↑ty):Vp K H v ty/\ty∈["NoneType","bool","int","str","tuple","list","dict"]:=by
 cases d with
 | err _ _ _=>cases h
 | tup ds=>
  ext Å8;show#[Ń #[rfl,xs,g1],#[]]
 | vb ds=>
  ext Å8;show#[.inr (Ń #[rfl,xs,g1.sq]),#[]]
 | ref a=>
  ext ń;subst r;unfold qa at h;dsimp only at h;split at h
  .ext Ç0;show#[.inr (Ń #[rfl,xs,zU.of g1]),#[]]
  .ext Ç0;show#[.inr (.inr #[rfl,xs,g1]),#[]]
  .cases h
 | _=>ext ń;subst r;cases h;show#[rfl,#[]]
def eL {T:Î1}{x:Str}(hT:T∈["int","bool","tuple","list","str"]) (hm:X.mg "isinstance"=none) (hm2:X.mg x=none) (hv:bootBuiltins x=↑(.type T)) (hg2:Gl X x) (hn:x≠"__name__") (hd:(x == ("__debug__":Str))=æ) þ
  (h1:AE X e [ē x q]) (h2:AL X pos [ē x q]) (h3:AE X (ē x q) []):
  PD X (Ë4 Ũ [e,ē x q] [] pos) (kA T te):=by
 exact#[fun Y S Q Q' hq z=>he.mo Y S È (λ y S1 z=>?_) z,PE.imp (uQ HS hg hm boot_isinstance (rl he.pe (rl (Qs (v:=.ty T) hg2 hm2 hv rfl hn hd) p8 h3) h1) () () h1 h2) Ë5]
 .split at z
  .show hq È z
  .show z
 .ext Č;exact zL.go he.mo r1 r2 z λ y S1 v H1 z1 q1 e1 p1=>?_;split at z1
  .rename_i ty ht;let#[g1,g2]:=qa.ok q1 p1 ht;exact#[v,T,ty,rfl,g1,?_,z1 _ H1 (ı) e1 p1];show BL.mp (BL.mp Td ty g2) T hT
  .show z1.elim
def Oi (T:Bt X.mg) þ (hg2:Gl X "bool") (h1:AE X e [Î3]) (h2:AL X pos [Î3]) (h3:AE X (Î3) []):
  PD X (Ë4 Ũ [e,Î3] [] pos) (kA "bool" te):=eL #[] T.isinstance T.bool PyProof.Rows.boot_bool Â5
def Oh (T:Bt X.mg) þ (hg2:Gl X "int") (h1:AE X e [ē "int" q]) (h2:AL X pos [ē "int" q]) (h3:AE X (ē "int" q) []):
  PD X (Ë4 Ũ [e,ē "int" q] [] pos) (kA "int" te):=eL #[] T.isinstance T.int PyProof.Rows.boot_int Â5
def Oe (T:Bt X.mg) þ (hg2:Gl X "tuple") (h1:AE X e [Ë0]) (h2:AL X pos [Ë0]) (h3:AE X (Ë0) []):
  PD X (Ë4 Ũ [e,Ë0] [] pos) (kA "tuple" te):=eL #[] T.isinstance T.tuple PyProof.Rows.boot_tuple Â5
def PV {o:Expr}{to:zw}{apos Ah:Pos}(ho:PD X o to) (he:PD X e te)
  (hbase:attributeBase o "append" Ż (eval o Ż)=eval o Ż)
  (AX:((backTo Ah (starEach [e] Ż)).all (λ x=>!x.1)&&œ
   && ŷ ([e].length+([]:List Keyword).length+Ã4<30))=true)
  (hline:Í1) (hs:AE X e []) (hplain:AL X Ah []):
  PD X (Ë4 (.Attribute o "append" apos) [e] [] Ah) (qE to te):=
 O9 (o:=o) (e:=e) (ZO PySem.F.plainAttrs_list PySem.F.slot_list_append PySem.F.type_list_append Yy ho.pe (rl he.pe p8 hs) hbase AX hline hs hplain) ho.mo he.mo
structure FD (P:Program) (w:World) (K:Ac) (mg:Aq) (base:Heap) (x:Str) (k:Nat) (ps:List Str) (sp:yZ):Prop where
 ex:∃ (f:Addr) (fd:FuncData),xb P w K mg base yM k f fd ps (vV K sp)/\mg x=↑(ã f)/\PySem.W.keepIn K (ã f)=true/\Binds K fd ps []
 mo:tG sp
def O6 {x:Str}{k:Nat}{ps:List Str}{sp:yZ}(F:FD ú X.K X.mg X.base x k ps sp) (hr:ya k X.A) û (hg:Gl X x) (Bm:(x == ("__debug__":Str))=æ)
  Ñ:PD X (Ë4 (ē x p) İ) (kE sp tA):=by
 let#[#[f,fd,h1,h2,h3,h4],hm]:=F;show O7 (E:=E0) (Qr h1 hr hg h2 h3 h4 š jA ha.pa Bm he Ao) hm ha.mo
end
def Ij Ň Ä9 ü{Q:DK}(e:Î4) (h:Q (Ī ds) S):uY [ã p] S Q:=by
 unfold uY;ext È9
def Ik Ň ħ ü{Q:DK}(e:zZ d S=↑ds) (h:∀ p,Í2->Q À5 (ups S p (ī))):u_ [d] S Q:=by
 unfold u_;ext È9
def Il Ň ħ ü{Q:DK}(e:zZ d S=↑ds) (h:Q (ò ds.length) S):tf [d] S Q:=by
 unfold tf;ext È9
def Tq Ň Ä9 ü{Q:Bool->SS->Prop}(e:Î4) (h:Q (!ds.isEmpty) S):uu À5 S Q:=by
 unfold uu;ext È9
def Ip Ň Ä9 ü{i:Int}ħ{Q:DK}(e:Î4) Ŗ:vh À5 Î5 S Q:=by
 unfold vh;ext ſ;rw[e];ext ſ;rw[e2];show h
def Im Ň ü{i:Int}ħ{Q:DK}Ŗ:vh (Ī ds) Î5 S Q:=by
 unfold vh;ext ſ;rw[e2];show h
def Io Ň ü{i:Int}ħ{Q:DK}Ŗ:vh (.vb ds) Î5 S Q:=by
 unfold vh;ext ſ;rw[e2];show h
inductive T where
 | zj | bl (b:Bool) | int (i:Int) | str (x:Str) | tup Ï9 | lst Ï9 | xl | err (c f:Str) (t:T)
mutual
def eqT:T->T->Bool
 | .zj,.zj=>true
 | .bl a,ũ=>a == b
 | .bl a,ò b=>(if a then 1 else 0) == b
 | ò a,ũ=>a == (if b then 1 else 0)
 | ò a,ò b=>a == b
 | À6 a,À6 b=>a == b
 | Ī a,Ī b=>xZ a b
 | .lst a,.lst b=>xZ a b
 | .xl,.xl=>true
 | .err a b t,.err c d u=>a == c&&(b == d&&eqT t u)
 | _,_=>æ
def xZ:Ç->Ç->Bool
 | [],[]=>true
 | a::as,b::bs=>eqT a b&&xZ as bs
 | _,_=>æ
end
mutual
def dep:T->Nat
 | Ī ts=>1+wa ts
 | Ù=>1+wa ts
 | .xl=>ś
 | .err ů=>ś
 | _=>0
def wa:Ç->Nat
 | []=>0
 | Î6=>max (dep t) (wa ts)
end
def eO:Ç->Bool
 | []=>true
 | ò _::ts=>eO ts
 | _=>æ
def OZ (ns:ď):eO (ns.map T.int)=true:=by
 induction ns with
 | nil=>rfl
 | cons n ns ih=>show ih
mutual
def Sn (S:SS):T->D->Prop
 | .zj,d=>d=.zj
 | ũ,d=>d=ũ
 | ò i,d=>d=ò i
 | À6 x,d=>d=À6 x
 | Ī ts,d=>∃ ds,d=Ī ds/\Ê
 | Ù,d=>∃ ds,((d=.vb ds/\eO ts=true)\/∃ a,d=ã a/\S a=↑(ī))/\Ê
 | .xl,d=>Â6
 | .err c f t,d=>∃ x,d=.err c f x/\Sn S t x
def zk (S:SS):Ç->List D->Prop
 | [],ds=>ds=[]
 | Î6,ds=>∃ c cs,ds=c::cs/\Sn S t c/\zk S ts cs
end
mutual
theorem i9:∀ t:T,eqT t t=true
 | .zj=>À7
 | ũ=>À7
 | ò i=>À7
 | À6 x=>À7
 | Ī ts=>by simp![eqT];show i8 ts
 | Ù=>by simp![eqT];show i8 ts
 | .xl=>À7
 | .err È t=>by simp[eqT,i9 t]
theorem i8:∀ ts:Ç,xZ ts ts=true
 | []=>Ë1
 | Î6=>by simp![xZ,i9 t,i8 ts,DM]
end
theorem cC:∀ ts us:Ç,xZ ts us=((É5 (min ñ Ų)).all (λ j=>eqT ţ (us.getD j .zj))&&ñ == Ų)
 | [],[]=>Ë1
 | [],_::_=>Ë1
 | _::_,[]=>Ë1
 | Î6,u::us=>by
  simp![xZ,cC ts us,A1];rw[show min (ñ+1) (Ų+1)=min ñ Ų+1 by lia,List.range_succ_eq_map,List.all_cons,List.all_map];have:(ñ+1 == Ų+1)=(ñ == Ų):=by rw[Bh];simp
  rw[this,Bool.and_assoc];rfl
theorem zk.length Ň:∀ Ä,Ê->ñ=ds.length
 | [],ds,h=>by ext Á7;rfl
 | Î6,ds,h=>by
  simp![zk] at h;let#[c,cs,rfl,_,h2]:=h;simp[zk.length h2]
section
variable {Ŧ}{Æ}{Ň}
theorem YV À Ć{xs ys:List V}Ð0 (h2:zU ë a ys):É8:=by
 ext Ġ;let#[_,_,#[o',n,e',c',_],_]:=I.list h2;ext Ĵ
 injection c' with q
 show Ê9 q ()
def Sn.sk Ĕ À1 ħ{x:V}(h:Sn S (Ù) d) (r:Ŀ):∃ a xs ds,x=ã a/\zU ë a xs/\Æ4/\Ê:=by
 ext À2;obtain⟨ds,⟨h,_⟩ | ⟨a,h,e⟩,h2⟩:=h
 .subst h;ext Ê5;show#[a,xs,ds,rfl,g1.sq,g2,h2]
 .subst h;ext ń;let#[xs,g1,g2]:=p È e;show#[a,xs,ds,r,zU.of g1,g2,h2]
def Sn.sf À1 ħ{x:V}(h:Sn S (Ī ts) d) (r:Ŀ):∃ a xs ds,x=ã a/\yk ë a xs/\Æ4/\Ê:=by
 ext À2;let#[ds,rfl,h2]:=h;ext Ê5;show#[a,xs,ds,rfl,g1,g2,h2]
def Sn.qC Ĕ ħ{x:V}(h:Sn S .xl d) (r:Ŀ):∃ a vs,x=ã a/\ť:=by
 ext À2;let#[a,Aa,#[rfl,_],e]:=h;ext ń;let#[xs,g1,g2]:=p È e;show#[a,xs,r,g1]
def Xb À Ć{vs:Ô}(h:ť):∃ o,Æ2 a=↑o/\o.cls=.type "dict":=by
 let#[_,_,_,_,o,_,_,e,c]:=(show xa ú H s.heap a (.dK vs) from I.zt a _ h)
 show#[o,e,c.1.1]
theorem YX À Ć ş{vs:Ô}Ð0 (h2:ť):É8:=by
 ext Ġ;ext Ð1
 injection c' with q
 show Ê9 q ()
theorem Xa À Ć ş{vs:Ô}(h1:zU ë a xs) (h2:ť):É8:=by
 ext Á8;ext Ð1
 injection c' with q
 show Ê9 q ()
theorem Sn.flat {t:T}ħ{x:V}(h:Ĥ) (r:Ŀ):match t with
  | .zj=>x=.zj
  | ũ=>x=ũ
  | ò i=>x=ò i
  | À6 y=>x=À6 y
  | _=>True:=by
 cases t <;> first
  | trivial
  | (ext À2;subst h;simpa only [zf] using r)
def Sn.rL {c f:Str}{t:T}ħ{x:V}(h:Sn S (.err c f t) d) (r:Ŀ):∃ e C dx w y,x=ã e/\(qR X.K c C/\È1/\Xd H f w dx)/\Sn S t y/\zf ë y w:=by
 ext À2;let#[y,rfl,h]:=h;ext ń;let#[e,C,dx,w,r1,r2,r3]:=r;show#[e,C,dx,w,y,r1,r2,h,r3]
def ic À {e C:Addr}{dx:Â Addr}(h:È1):∃ oe vs,Æ2 e=↑oe/\oe.cls=ã C/\oe.dict=dx/\oe.data=.fields vs:=(show xa ú H s.heap e (vT e C dx) from I.zt e _ h).1
def YW À Á3 ş Ð0 Á4:É8:=by
 ext Ġ;ext Ã2
def Y_ À Á3 ş(h1:zU ë a xs) Á4:É8:=by
 ext Á8;ext Ã2
def Xc À Á3{vs:Ô}(h1:ť) Á4:É8:=by
 rw[h1] at h2;cases h2
def K0 À {e C C':Addr}{dx dx':Â Addr}(h1:È1) (h2:H e=↑(vT e C' dx')):C=C'/\dx=dx':=by
 let#[o,_,e1,c1,d1,_]:=ic I h1;let#[o',_,e2,c2,d2,_]:=ic I h2;rw[e1] at e2;cases e2;rw[c1] at c2;rw[d1] at d2;cases c2;cases d2;show#[rfl,rfl]
def Xd.inj Ľ{f f':Str}{w w':V}{dx:Â Addr}(h1:Xd H f w dx) (h2:Xd H f' w' dx):f=f'/\w=w':=by
 cases dx with
 | none=>show#[h1.1.trans h2.1.symm,h1.2.trans h2.2.symm]
 | some x=>have:=Á0 h2;cases this;show#[rfl,rfl]
def qR.inj {K:Ac}{c c':Str}{C:Addr}(h1:qR K c C) (h2:qR K c' C):c=c':=by
 let#[_,_,_,#[#[#[_,_,_,_,_,_,_,_,_,_,_,_,a],_],_,_,_,_]]:=h1;let#[_,_,_,#[#[#[_,_,_,_,_,_,_,_,_,_,_,_,b],_],_,_,_,_]]:=h2;rw[a] at b;cases b;rfl
mutual
theorem ji À Ĕ:∀ (t u:T) {d e:D}{x:V},Ĥ->Sn S u e->Ŀ->zf ë e x->t=u
 | Ī ts,u,d,e,x,h1,h2,r1,r2=>by
  let#[a,xs,ds,rfl,g1,g2,g3]:=h1.sf r1;cases u with
  | xl=>ext Î;show (YX I g1 g).elim
  | err _ _ _=>ext À8;show (YW I g1 g.2.1).elim
  | tup us=>
   ext ż;have:=I.fw g1 k1;ext Ê6
  | lst us=>
   ext Ź;show (YV I g1 k1).elim
  | _=>show ý
 | Ù,u,d,e,x,h1,h2,r1,r2=>by
  let#[a,xs,ds,rfl,g1,g2,g3]:=h1.sk p r1;cases u with
  | xl=>ext Î;show (Xa I g1 g).elim
  | err _ _ _=>ext À8;show (Y_ I g1 g.2.1).elim
  | lst us=>
   ext Ź;have:=I.dq g1 k1;ext Ê6
  | tup us=>
   ext ż;show (YV I k1 g1).elim
  | _=>show ý
 | .zj,u,d,e,x,h1,h2,r1,r2=>by
  ext Ŭ;cases u with
  | xl=>ext Î
  | err _ _ _=>ext ù
  | zj=>rfl
  | tup us=>ext Ĝ
  | lst us=>ext Đ
  | _=>show ý
 | ũ,u,d,e,x,h1,h2,r1,r2=>by
  ext Ŭ;cases u with
  | xl=>ext Î
  | err _ _ _=>ext ù
  | bl _=>ext Ä4
  | tup us=>ext Ĝ
  | lst us=>ext Đ
  | _=>show ý
 | ò b,u,d,e,x,h1,h2,r1,r2=>by
  ext Ŭ;cases u with
  | xl=>ext Î
  | err _ _ _=>ext ù
  | int _=>ext Ä4
  | tup us=>ext Ĝ
  | lst us=>ext Đ
  | _=>show ý
 | À6 b,u,d,e,x,h1,h2,r1,r2=>by
  ext Ŭ;cases u with
  | xl=>ext Î
  | err _ _ _=>ext ù
  | str _=>ext Ä4
  | tup us=>ext Ĝ
  | lst us=>ext Đ
  | _=>show ý
 | .err c f t,u,d,e,x,h1,h2,r1,r2=>by
  let#[a,C,dx,w,y,rfl,#[g1,g2,g3],g4,g5]:=h1.rL r1;cases u with
  | err c' f' t'=>
   let#[a',C',dx',w',y',q,#[k1,k2,k3],k4,k5]:=h2.rL r2;cases q;let#[rfl,rfl]:=K0 I g2 k2;let#[rfl,rfl]:=g3.inj k3;cases g1.inj k1;rw[ji I p t t' g4 k4 g5 k5]
  | xl=>ext Î;show (Xc I g g2).elim
  | tup us=>let#[_,_,_,q,k1,_]:=h2.sf r2;cases q;show (YW I k1 g2).elim
  | lst us=>let#[_,_,_,q,k1,_]:=h2.sk p r2;cases q;show (Y_ I k1 g2).elim
  | _=>show ý
 | .xl,u,d,e,x,h1,h2,r1,r2=>by
  let#[a,vs,rfl,g]:=h1.qC p r1;cases u with
  | xl=>rfl
  | err _ _ _=>let#[_,_,_,_,_,q,g',_]:=h2.rL r2;cases q;show (Xc I g g'.2.1).elim
  | tup us=>let#[_,_,_,q,g1,_]:=h2.sf r2;cases q;show (YX I g1 g).elim
  | lst us=>let#[_,_,_,q,g1,_]:=h2.sk p r2;cases q;show (Xa I g1 g).elim
  | _=>show ý
theorem fu À Ĕ:∀ (ts us:Ç) {ds es:List D}ş,Ê->zk S us es->Æ4->zo ë es xs->ts=us
 | [],us,ds,es,xs,h1,h2,r1,r2=>by
  have e:=Į;cases us with
  | nil=>rfl
  | cons _ _=>simp at e
 | Î6,[],ds,es,xs,h1,h2,r1,r2=>by
  have e:=Į;simp at e
 | Î6,u::us,ds,es,xs,h1,h2,r1,r2=>by
  simp![zk] at h1 h2;let#[c,cs,rfl,a1,a2]:=h1;let#[c',cs',rfl,b1,b2]:=h2;simp![zo] at r1 r2;let#[y,ys,rfl,g1,g2]:=r1;let#[y',ys',q,k1,k2]:=r2;cases q;rw[ji I p t u a1 b1 g1 k1,fu I p ts us a2 b2 g2 k2]
end
theorem zk.get Ä(h:Ê):∀ {j:Nat},j<ñ->∃ c,ds[j]?=↑c/\Sn S ţ c:=by
 induction ts generalizing ds with
 | nil=>intro j hj;simp at hj
 | cons t ts ih=>
  intro j hj;ext Ë;cases j with
  | zero=>show Î7
  | succ j=>
   let#[c',e,h3]:=ih h2 (j:=j) (by exists hj);show#[c',by simpa using e,by exists h3]
theorem iH:∀ À1{j:Nat},j<ñ->dep ţ<=wa ts
 | [],j,h=>by simp at h
 | Î6,0,_=>by simp![wa,List.getD_cons_zero];lia
 | Î6,j+1,h=>by
  have:=iH (ts:=ts) (j:=j) (by exists h);simp![wa,List.getD_cons_succ];lia
inductive ou Á2 (S:SS) (s:Ç6):T->ă->Prop
 | zj:ou K H S s .zj .none
 | bl Í5:ou K H S s (ũ) (.bool b)
 | int {i:Int}{k:Tok}:ou K H S s Î5 (ò i k)
 | str {i:Str}{k:Tok}:ou K H S s (À6 i) (À6 i k)
 | tup Ä ķ (h:s.heap.IsTuple l us.toArray):ou K H S s (Ī ts) (ã l)
 | lst Ä ķ (h:s.heap.IsList l us.toArray):ou K H S s (Ù) (ã l)
def Zi À Ĕ {t:T}ħ{x:V}{a:ă}(h:Ĥ) (r:Ŀ) (v:RelV x a) (z:dep t<ś):ou ë S s t a:=by
 cases t with
 | zj=>ext À3;cases v;show .zj
 | bl _=>ext À3;cases v;show .bl
 | int _=>ext À3;let#[_,rfl]:=v;show ò
 | str _=>ext À3;let#[_,rfl]:=v;show À6
 | tup _=>let#[l,xs,ds,rfl,g,r,q]:=h.sf r;cases v;let#[_,w,i,_]:=I.tuple g;show Ī q r w i
 | lst _=>let#[l,xs,ds,rfl,g,r,q]:=h.sk p r;cases v;let#[_,w,i,_]:=I.list g;show .lst q r w i.isList
 | _=>simp![dep] at z;lia
abbrev J3 (A:Around) (s:Ç6) (a b:ă) (k:Bool):Prop:=SeqAt.EqAt A s a b k/\SeqAt.RcAt A s a b k/\SeqAt.RcNeAt A s a b (!k)
theorem G4 À Ĕ:∀ (n:Nat) (t u:T) ľ{d e:D}{x y:V}{a b:ă},dep t<n->Ķ+dep t<ś->Ķ+dep u<ś->Ĥ->Sn S u e->Ŀ->zf ë e y->RelV x a->RelV y b->J3 A s a b (eqT t u):=by
 intro n
 induction n with
 | zero=>intros;lia
 | succ n ih=>
  intro t u A d e x y a b hn hu hu' h1 h2 r1 r2 v1 v2;have hq:a=b->t=u:=λ z=>by subst z;have:=v1.inj v2;subst this;show ji I p t u h1 h2 r1 r2
  have c1:=Zi I p h1 r1 v1 ⋯;have c2:=Zi I p h2 r2 v2 ⋯;clear h1 h2 r1 r2 v1 v2;have hA:Ķ<ś:=⋯;have el:∀ {ts us:Ç}{ds ds':List D}{xs E8:List V}{is is':Ai},1+wa ts<n+1->Ķ+(1+wa ts)<ś->Ķ+(1+wa us)<ś->Ê->zk S us ds'->Æ4->zo ë ds' E8->Vals xs is->Vals E8 is'->Î8=ñ/\Ë6=Ų/\
    ∀ (j:Nat) (h1:j<Î8) (h2:j<Ë6),SeqAt.EqAt A.in1 s is.toArray[j] is'.toArray[j] (eqT ţ (us.getD j .zj)):=by
   intro ts us ds ds' xs E8 is is' a1 a2 a3 g1 g2 r1 r2 v1 v2;have e1:Î8=ñ:=by rw[AK,<- v1.length,<- r1.length,<- g1.length]
   have e2:Ë6=Ų:=by rw[AK,<- v2.length,<- r2.length,<- g2.length]
   exact#[e1,e2,λ j h1 h2=>?_];let#[_,k1,s1]:=g1.get (e1▸h1);let#[_,k2,s2]:=g2.get (e2▸h2);let#[_,f1,q1]:=r1.get k1;let#[_,f2,q2]:=r2.get k2;let#[w1,o1,m1]:=v1.get f1;let#[w2,o2,m2]:=v2.get f2;have y1:=iH (e1▸h1);have y2:=iH (e2▸h2);let#[_,z1]:=AQ.mp o1;let#[_,z2]:=AQ.mp o2;rw[List.getElem_toArray,List.getElem_toArray,z1,z2];show (ih È (A:=A.in1) ⋯ (by change Ķ+1+_<_;lia) (by change Ķ+1+_<_;lia) s1 s2 q1 q2 m1 m2).1
  have en:∀ {l l':Addr}{ts us:Ç},(È0 l=ã l'->ts=us)->SeqAt.RcAt Ì5 (xZ ts us)/\SeqAt.RcNeAt Ì5 (!xZ ts us)->J3 Ì5 (xZ ts us):=λ{l l' ts us} h q=>by
   exact#[?_,q];by_cases z:l=l'
   .subst z;rw[h rfl,i8];show .same _
   .show .of_refs z q.1
  cases c1 <;> cases c2 <;> simp![eqT,CS,CT]
  .show#[.same _,.none_none,.none_none]
  .show#[.none_bool _,.none_bool _,.none_bool _]
  .show#[.none_int È,.none_int È,.none_int È]
  .show#[.none_str È,.none_str È,.none_str È]
  .show#[.none_tuple Á,.none_tuple Á,.none_tuple Á]
  .show#[.none_list Á,.none_list Á,.none_list Á]
  .show#[.bool_none _,.bool_none _,.bool_none _]
  .show#[.bool_bool È,.bool_bool È,.bool_bool È]
  .show#[.bool_int ů,.bool_int ů,.bool_int ů]
  .show#[.bool_str ů,.bool_str ů,.bool_str ů]
  .show#[Ë7,Ë7,Ë7]
  .show#[Î9,Î9,Î9]
  .show#[.int_none È,.int_none È,.int_none È]
  .show#[.int_bool ů,.int_bool ů,.int_bool ů]
  .show#[.int_int Ì2,.int_int Ì2,.int_int Ì2]
  .show#[.int_str Ì2,.int_str Ì2,.int_str Ì2]
  .show#[.int_tuple ĸ,.int_tuple ĸ,.int_tuple ĸ]
  .show#[.int_list ĸ,.int_list ĸ,.int_list ĸ]
  .show#[.str_none È,.str_none È,.str_none È]
  .show#[.str_bool ů,.str_bool ů,.str_bool ů]
  .show#[.str_int Ì2,.str_int Ì2,.str_int Ì2]
  .show#[.str_str Ì2,.str_str Ì2,.str_str Ì2]
  .show#[.str_tuple ĸ,.str_tuple ĸ,.str_tuple ĸ]
  .show#[.str_list ĸ,.str_list ĸ,.str_list ĸ]
  .show#[.tuple_none Á,.tuple_none Á,.tuple_none Á]
  .show#[Ì8,Ì8,Ì8]
  .show#[.tuple_int ĸ,.tuple_int ĸ,.tuple_int ĸ]
  .show#[.tuple_str ĸ,.tuple_str ĸ,.tuple_str ĸ]
  .rename_i g1 r1 v1 k1 _ _ _ _ _ g2 r2 v2 k2;ext Ą;show#[.tuples k1 k2 hA q,.tuples k1 k2 hA q]
  .show#[Â2,Â2,Â2]
  .show#[.list_none Á,.list_none Á,.list_none Á]
  .show#[Ï2,Ï2,Ï2]
  .show#[.list_int ĸ,.list_int ĸ,.list_int ĸ]
  .show#[.list_str ĸ,.list_str ĸ,.list_str ĸ]
  .show#[Ã3,Ã3,Ã3]
  .rename_i i1 _ g1 r1 v1 k1 _ _ _ i2 _ g2 r2 v2 k2;ext Ą;by_cases z:i1.toArray.size=i2.toArray.size
   .rw[<- z,Nat.min_self,beq_self_eq_true,Bool.and_true];show#[.lists k1 k2 z hA q,.lists k1 k2 z hA q]
   .rw[beq_eq_false_iff_ne.mpr z,CO];have z':=bne_iff_ne.mpr z;show#[.lists_lengths k1 k2 z' hA,.lists_lengths k1 k2 z' hA]
def b7 À Ĕ (t u:T) ľ{d e:D}{x y:V}{a b:ă}(hu:Ķ+dep t<ś) (hu':Ķ+dep u<ś) (h1:Ĥ) (h2:Sn S u e) (r1:Ŀ) (r2:zf ë e y) (v1:RelV x a) (v2:RelV y b):J3 A s a b (eqT t u):=G4 I p _ t u (B5 _) hu hu' h1 h2 r1 r2 v1 v2
end
def eB (K:Ac) Å0:R2:=λ x y H Q=>∃ S d e t u,zf K H d x/\zf K H e y/\zK K H S/\Ĥ/\Sn S u e/\dep t<=60/\dep u<=60/\Q Å2 H
def uh Å0:y_:=λ x y S Q=>∃ t u,Sn S t x/\Sn S u y/\dep t<=60/\dep u<=60/\Q Å2 S
def uh.mo Å7:vn (uh neg):=λ _ _ _ _ _ hq #[t,u,a,b,c,d,h]=>#[t,u,a,b,c,d,hq È h]
def uh.fits {K:Ac}Å7:wg K (uh neg) (eB K neg):=λ x y d e H S Q h1 h2 h3 #[t,u,a,b,c,c',h]=>#[S,d,e,t,u,h1,h2,h3,a,b,c,c',h Ì6 h3]
section
variable {Ŧ}{a b:Expr}{ta tb:zw}{pos:Pos}
theorem Yg Å3:y9 X (compareOp .Eq) (eB X.K æ):=by
 ext Ĉ;show (Ž).2.1 É4
theorem OL Å3:y9 X (compareOp .NotEq) (eB X.K true):=by
 ext Ĉ;show (Ž).2.2 É4
def O0 Þ:PD X (.Compare a [.Eq] [b] pos) (yu (uh æ) ta tb):=l4 (Yg hr.units) À9
def QH Þ:xu X (.Compare a [.Eq] [b] pos) (uk (yu (uh æ) ta tb)):=rj (Yg hr.units) À9
def Q9 Þ:xu X (.Compare a [.NotEq] [b] pos) (uk (yu (uh true) ta tb)):=rj (OL hr.units) À9
def Z7 (K:Ac) Å0:R2:=λ x y H Q=>∃ S d e u ts ds,zf K H d x/\zf K H e y/\zK K H S/\Sn S u d/\zZ e S=↑ds/\Ê/\dep u<=60/\wa ts<=60/\Q Ë8 H
def qy Å0:y_:=λ x y S Q=>∃ u ts ds,Sn S u x/\zZ y S=↑ds/\Ê/\dep u<=60/\wa ts<=60/\Q Ë8 S
def qy.mo Å7:vn (qy neg):=λ _ _ _ _ _ hq #[u,ts,ds,a,b,c,d,e,h]=>#[u,ts,ds,a,b,c,d,e,hq È h]
def qy.fits {K:Ac}Å7:wg K (qy neg) (Z7 K neg):=λ x y d e H S Q h1 h2 h3 #[u,ts,ds,a,b,c,c',c2,h]=>#[S,d,e,u,ts,ds,h1,h2,h3,a,b,c,c',c2,h Ì6 h3]
open Classical in
def sO (Ab:Ai) Ï9 (u:T) (v:ă):Bool:=if h:∃ j,Ab[j]?=↑v then eqT (ts.getD (Classical.choose h) .zj) u else æ
def bz Æ Ň À Ĕ Ä í (u:T) {j:Nat}{v:ă}(hj:Ab[j]?=↑v):
  sO Ab ts u v=eqT ţ u:=by
 have h:∃ j,Ab[j]?=↑v:=#[j,hj];unfold sO;rw[dif_pos h];have hc:=Classical.choose_spec h;have lt:∀ i,Ab[i]?=↑v->i<ñ:=λ i hi=>by
  ext ň;show (AQ.mp hi).1
 let#[c1,e1,s1]:=h1.get (lt _ hc);let#[c2,e2,s2]:=h1.get (lt _ hj);let#[x1,f1,r1]:=h2.get e1;let#[x2,f2,r2]:=h2.get e2;let#[v1,g1,q1]:=h3.get f1;let#[v2,g2,q2]:=h3.get f2;rw[hc] at g1;cases g1;rw[hj] at g2;cases g2;have hx:=q1.inj q2;subst hx;rw[ji I p È s1 s2 r1 r2]
theorem Vl Æ Ň À Ĕ Ä í (u:T):Ab.any Â9=į:=by
 have hl:ñ=Ab.length:=by ext ň
 rw[Bh,A_,A_];constructor
 .rintro⟨v,hv,h⟩;let#[j,hj,rfl]:=Ca.mp hv;rw[Ã0] at h;have hj':j<ñ:=⋯;show#[ts[j],BF hj',by simpa [hj'] using h]
 .rintro⟨t,ht,h⟩;let#[j,hj,rfl]:=Ca.mp ht;have hj':j<Ab.length:=⋯;show#[Ab[j],BF hj',by rw[bz I p h1 h2 h3 u (j:=j) (by simp[hj'])];simpa [hj] using h]
def Vm Æ Ň À Ĕ Ä í {u:T}ħ{x:V}{v:ă}(hu:Sn S u d) (hd:Ŀ) (hx:RelV x v) ľ(b1:Ķ+wa ts<ś) (b2:Ķ+dep u<ś) {y:ă}(hy:y∈Ab):
  SeqAt.EqAt A s y v (sO Ab ts u y):=by
 let#[j,hj,rfl]:=Ca.mp hy;have hjt:j<ñ:=by ext ň;show hj
 rw[Ã0];let#[c1,e1,s1]:=h1.get hjt;let#[x1,f1,r1]:=h2.get e1;let#[v1,g1,q1]:=h3.get f1;have:Ab[j]=v1:=by
  have:=AQ.mp g1;show this.2
 rw[this];have:=iH hjt;show (b7 I p _ u (A:=A) ⋯ b2 s1 hu r1 hd q1 hx).1
theorem OT Å3:y9 X (compareOp .In) (Z7 X.K æ):=by
 intro EW s σ H x y v w Q I rx ry h;let#[S,d,e,u,ts,ds,a1,a2,a3,a4,a5,a6,a7,a8,q]:=h;let#[l,xs,rfl,g1,g2]:=zZ.sq a2 a3 a5;cases ry;rcases g1 with g1 | g1
 .let#[Ab,w1,pl,_]:=I.list g1;exact SeqAt.in_listAt Â9 pl.isList ß;ext ġ
 .let#[Ab,w1,pt,_]:=I.tuple g1;exact SeqAt.in_tupleAt Â9 pt ß;ext ġ
def QE Þ (hm:behindInMarks .In b=æ):xu X (.Compare a [.In] [b] pos) (uk (yu (qy æ) ta tb)):=rj (OT hr.units) qy.fits qy.mo ha hb hm
end
end L3
namespace L2
open PySem PySem.Spec ŭ
section
variable {κ:Type}[DecidableEq κ]
def w_ (Aa:Ĭ) (k:κ):Â V:=(Aa.find? Í).map ģ
def putK (Aa:Ĭ) (k:κ) (v:V):Ĭ:=
 ė
def fk {p:κ × V}{r:Ĭ}{k:κ}(e:p.1=k):w_ (p::r) k=↑p.2:=by simp[w_,Cz,e]
def fm {p:κ × V}{r:Ĭ}{k:κ}(e:¬ p.1=k):w_ (p::r) k=w_ r k:=by simp[w_,Cz,e]
theorem aH (k:κ):∀ Aa:Ĭ,Æ5=(w_ Aa k).isSome
 | []=>rfl
 | p::r=>by
  rw[BB];ext Æ0
  .simp![fk e,za3 e,Bool.true_or,Option.isSome_some]
  .rw[fm e,za2 e,Bool.false_or];show aH k r
def Y9 (Aa:Ĭ) (k:κ) (v:V):(Æ6).length<=Ă+1:=by
 unfold putK;split
 .rw[AM];lia
 .rw[BO,A1,DL];lia
def wY.Ks {o:Â V}{u:Â ă}(r:wY o u):o.isSome=u.isSome:=by
 cases o with
 | none=>cases u with
  | none=>rfl
  | some _=>show ŏ
 | some _=>cases u with
  | none=>show ŏ
  | some _=>rfl
theorem wY.getD {o:Â V}{u:Â ă}{d:V}{d':ă}(r:wY o u) (rd:RelV d d'):RelV (o.getD d) (u.getD d'):=by
 cases o with
 | none=>cases u with
  | none=>show rd
  | some _=>show ŏ
 | some _=>cases u with
  | none=>show ŏ
  | some _=>show r
def KV.val Ð (k:κ):wY (w_ Aa k) (Ï0 vs k):=by
 unfold KV at r
 induction r with
 | nil=>show Œ
 | @cons p q ps qs h t ih=>
  let#[h1,h2]:=h;ext Æ0
  .have e':q.1=k:=Á0 e;have b:Ï0 (q::qs) k=↑q.2:=by simp[Ï0,Cz,e']
   rw[fk e,b];show h2
  .have e':¬ q.1=k:=Ū;have b:Ï0 (q::qs) k=Ï0 qs k:=by simp[Ï0,Cz,e']
   rw[fm e,b];show ih
theorem KV.any Ð (k:κ):Æ5=vs.any Í:=by
 unfold KV at r
 induction r with
 | nil=>rfl
 | cons h t ih=>rw[BB,BB,ih,h.1]
def KV.sg Ð (k:κ) Ë2 ĳ:
  KV Á1 (vs.map λ kv=>if kv.1=k then (kv.1,u) else kv):=by
 unfold KV at r ⊢
 induction r with
 | nil=>show š
 | @cons p q ps qs h t ih=>
  rw[Az,Az];exact Ē ?_ ih;let#[h1,h2]:=h;ext Æ0
  .rw[Ü e,Ü (Á0 e)];show#[h1,ry]
  .rw[Ø e,Ø (Ū)];show#[h1,h2]
def KV.put Ð (k:κ) Ë2 ĳ:KV (putK Aa k y) (stored vs k u):=by
 unfold putK stored;rw[r.any k];by_cases e:(vs.any Í)=true
 .rw[Ü e,Ü e];show r.sg k ry
 .rw[Ø e,Ø e];show Paired.snoc r #[rfl,ry]
theorem KV.length Ð:Ă=Ú:=À4 r
end
def j_ Ģ{k:Key}{u:ă}(r:RelV (kV k) u):(vw P w).is k u=true:=by
 cases k with
 | inl i=>let#[t,e]:=(show ∃ t,u=Value.int i t from r);subst e;show Lu P w i t
 | inr x=>let#[t,e]:=(show ∃ t,u=Value.str x t from r);subst e;show Ls P w x t
theorem YQ Ģ:∀ {ks:ĥ}{us:Ai},Vals (ks.map kV) us->ItemsAre (vw P w) ks us
 | [],_,r=>by rw[BD] at r;cases r;show š
 | k::ks,_,r=>by
  rw[Az] at r;cases r with
  | cons h t=>show Ē (j_ h) (YQ t)
abbrev KT (H:Hp):Ä5->Æ8->Prop:=Paired λ p q=>p.1=q.1/\H q.2.1=↑(Ī (p.1.map kV))/\RelV p.2 q.2.2
def KT.val Ľ É (k:ĥ):wY (w_ Aa k) ((atKey xs k).map ģ):=by
 induction r with
 | nil=>show Œ
 | @cons p q ps qs h t ih=>
  let#[h1,_,h2]:=h;ext Æ0
  .have e':q.1=k:=Á0 e;have b:atKey (q::qs) k=↑q.2:=by simp[atKey,Cz,e']
   rw[fk e,b];show h2
  .have e':¬ q.1=k:=Ū;have b:atKey (q::qs) k=atKey qs k:=by simp[atKey,Cz,e']
   rw[fm e,b];show ih
def KT.sg Ľ É (k:ĥ) Ë2 ĳ:
  KT H Á1 (xs.map (putAt k u)):=by
 induction r with
 | nil=>show š
 | @cons p q ps qs h t ih=>
  rw[Az,Az];exact Ē ?_ ih;let#[h1,h2,h3]:=h;unfold putAt;ext Æ0
  .rw[Ü e,Ü (Á0 e)];show#[h1,h2,ry]
  .rw[Ø e,Ø (Ū)];show#[h1,h2,h3]
def KT.put Ľ É (k:ĥ) {b:Addr}Ë2(hb:Â3) ĳ:
  KT H (putK Aa k y) (storedH xs k b u):=by
 have e:Æ5=(atKey xs k).isSome:=by
  rw[aH,(r.val k).Ks,Option.isSome_map]
 unfold putK storedH;rw[e];by_cases q:(atKey xs k).isSome=true
 .rw[Ü q,Ü q];show r.sg k ry
 .rw[Ø q,Ø q];show Paired.snoc r #[rfl,hb,ry]
def KT.keeps {H H':Hp}É (ht:∀ b ys,H b=↑(Ī ys)->H' b=↑(Ī ys)):KT H' Aa xs:=
 Paired.lJ r λ _ _ z=>#[z.1,ht È z.2.1,z.2.2]
section
variable {Ģ}{Ľ}{h:Heap}{Ć}
def Zy {u:HO}Ĺ (e:Rd H a u):xa P w H h a u:=e.ok ok
def nZ Ð2 Ĺ (e:Rd H a ĝ):Ÿ:=
 show xa P w H h a ĝ from Zy ok e
def IK Ð2 Ĺ (e:Î2):Ÿ:=nZ ok (Ń e)
def jY {ks:ĥ}Ĺ (e:H a=↑(Ī (ks.map kV))):(È2).is h ks a:=by
 let#[_,Ab,r,o,h1,h2,n,h3]:=(show xa P w H h a (Ī (ks.map kV)) from ok a _ e)
 show#[o,Ab.toArray,n,h1,h2,h3,by exists YQ r]
def ku {Aa:Ä5}Ĺ (e:Rd H a Í3):Ł:=by
 let#[z,y,xs,r,o,es,ep,h1,h2,h3,h4,h5]:=(show xa P w H h a Í3 from Zy ok e)
 exact#[z,y,xs,r,o,es,ep,h1,h2,h3,h4,λ x hx=>?_,h5];have all:∀ {l:Ä5}{m:Æ8},KT H l m->∀ x∈m,(È2).is h x.1 x.2.1:=by
  intro l m q
  induction q with
  | nil=>intro x hx;show nomatch hx
  | @cons p q ps qs hq t ih=>
   intro x hx;rcases Am.mp hx with e | hx
   .subst e;show jY ok (by rw[<- hq.1];show hq.2.1)
   .show ih x hx
 show all r x hx
def ID {Aa:Ä5}Ĺ (e:H a=↑ Í3):Ł:=ku ok (Ń e)
end
def rW Ð3 (y:V) (r:Â V):Prop:=
 (∃ Aa k,Rd H a ĝ/\y=kV k/\r=w_ Aa k)\/∃ Aa k b,Rd H a Í3/\y=ã b/\Â3/\r=w_ Aa k
def jb Ð3 (y v:V) (H':Hp):Prop:=
 (∃ Aa k,Î2/\y=kV k/\Ă<ä/\H'=upd H a (.dK (Æ6)))\/
 ∃ Aa k b,H a=↑ Í3/\y=ã b/\Â3/\Ă<ä/\H'=upd H a (.dT (Æ6))
theorem rW.k Ľ Ć Ð2{k:Key}(e:Î2):rW H a (kV k) (w_ Aa k):=Ń #[Aa,k,Ń e,rfl,rfl]
theorem jb.k Ľ Ć Ð2{k:Key}{v:V}(e:Î2) (hl:Ă<ä):jb H a (kV k) v (upd H a (.dK (Æ6))):=Ń #[Aa,k,e,rfl,hl,rfl]
section
variable {Ŧ}{Æ}{Ć}{y v:V}{u r:ă}{o:Â V}{ľ}{E:Aj}
theorem Inv.big À:sysModules<ā:=by
 have h:mainGlobals<ā:=(I.mod.glob.keeps I.bk).lt;show B1 () h
def IX {Q:Aj}(hu:Ķ+1<ś) À (g:rW H a y ↑v) ĳ (h:∀ w' s',Ë9->RelV v w'->Q w' s'):
  ŧ Ä3 A (getItem (ã a) u) Q E s:=by
 ext ĺ
 .subst ey;ext ō;let#[w',hw,rw']:=wY.some_of (v:=v) (o:=Ï0 vs k) (by rw[l];show rel.val k);show wpAny_getItem_of (j_ ry) dd.mapOf hw (h w' _ Ï1 rw')
 .ext ŀ;let#[w',hw,rw']:=wY.some_of (v:=v) (o:=(atKey xs k).map ģ) (by rw[l];show rel.val k);let#[p,hp,nM]:=Ax.mp hw;exact wpAny_getItem_heap (Ã1) (jY I.zt eb) dd hp ?_;rw[nM];show h w' _ Ï1 rw'
def Wc {h':Heap}{t':Nat}{ob:HO}À (mu:kQ (H a)) (hs:Heap.SameBut a s.heap h') (he:∃ q,h'.get? a=↑q) (new:xa ú (upd H a ob) h' a ob):
  Inv X EW σ (upd H a ob) { s with heap:=h',toks:=t' }:=
 I.write (x:=a) (e:=a) mu (Ń rfl) (λ b q hb z=>(hs.2 b hb).trans z) he new
def IL Ģ{H':Hp}{h':Heap}Ð2{vs:List (Key× ă)}(z:Ă<=ä) (hd:Ę) (rel:KV Aa vs) (dd:h'.DictOf (vw P w) a vs):
  xa P w H' h' a ĝ:=#[z,hd,vs,rel,dd]
def IV {H':Hp}{Q:Unit->Ė}(hu:Ķ+1<ś) À (g:jb H a y v H') ĳ (rv:RelV v r) (h:∀ s',Inv X EW σ H' s'->Q Unit.unit s'):
  ŧ Ä3 A (setItem (ã a) u r) Q E s:=by
 rcases g with ⟨Aa,k,e,ey,l,eH⟩ | ⟨Aa,k,b,e,ey,eb,l,eH⟩
 .subst ey eH;let#[z,hd,vs,rel,dd]:=IK I.zt e;have hz:Ú<=ä:=by rw[<- rel.length];show z
  ext ź
  exact wpAny_setItem_pairs (hsz:=hz) (j_ ry) dd λ h' dd' hs=>h _ ?_;have he:∃ q,h'.get? a=↑q:=let #[q,_,_,hq,_]:=dd';#[q,hq]
  show Wc I (by rw[e];show Œ) hs he (IL hl hd (rel.put k rv) dd')
 .subst ey eH;cases (show u=È0 b from ry);let#[z,hd,xs,rel,dd]:=ID I.zt e;have hz:xs.length<=ä:=by rw[<- À4 rel];show z
  ext ź
  exact wpAny_setItem_heap (hsz:=hz) (Ã1) (jY I.zt eb) dd λ h' dd' hs=>h _ ?_;let#[q,es,ep,hq,h2,h3,h4,_,h5]:=dd';exact Wc I (by rw[e];show Œ) hs #[q,hq] #[hl,hd,_,(rel.put k eb rv).keeps λ c ys ec=>?_,q,es,ep,hq,h2,h3,h4,h5];rw[zP (ud ec e (λ z=>nomatch z))];show ec
end
section
variable {Ŧ}{Æ}{Ć}{Ð2}{ľ}{E:Aj}
theorem IW {Q:Aj}À (e:Rd H a ĝ) (h:∀ t s',Ë9->Q (ò Ă t) s'):ŧ Ä3 A (call (Ç7 "len") [ã a]) Q E s:=by
 ext ō;exact call_len_dict hd dd (by rw[<- rel.length];rw[sizeLine_eq] at z;lia) ?_;rw[<- rel.length];show h È Ï1
end
def bJ (i:Expr):Prop:=∀ ov iv,subscripted i æ ov iv=operate [ov,iv] (getItem ov iv)
def TY {prog:Program}{w:World}ľ{E:Aj}{s:Ç6}{env:Env}{value slice:Expr}{pos:Pos}{T id:Î1}{Q:Aj}
  (hl:typeLookup (.type T) "__getitem__"=pure ↑(Ç7 id)) (hs:bJ slice)
  (h:ŧ ì (eval value env) (λ o s₁=>ŧ ì (eval slice env) (λ i s₂=>s₂.TypeIs o T/\ŧ ì (getItem o i) Q E s₂) E s₁) E s):
  ŧ ì (eval (.Subscript value slice pos) env) Q E s:=by
 exact Subscript_ (za4 h (λ o s₁ h₁=>za4 h₁ (λ i s₂ h₂=>?_) λ _ _ x=>x) λ _ _ x=>x);let#[hT,h₂]:=h₂;unfold subscriptTail;exact gV ?_;rw[getitemInPython_of_ne hT.not_modules];exact gV (wpAny_specialOf hT hl ?_);have fin:ŧ ì (subscripted slice æ o i) (λ r s₃=>ŧ ì (letTemporaryGo value o r >>= λ _=>pure r) Q E s₃) E s₂:=by
  rw[hs o i];show wpAny_operating (za4 h₂ (λ r s₃ h₃=>gV (wpAny_letTemporaryGo (Ae h₃))) λ _ _ x=>x)
 first
  | show Ae (gV fin)
  | show gV (Ae (gV fin))
  | show gV fin
def IP Ŧ Æ Ć{y:V}{o:Â V}À (g:rW H a y o):s.TypeIs (ã a) "dict":=by
 rcases g with ⟨Aa,k,e,_,_⟩ | ⟨Aa,k,b,e,_,_,_⟩
 .let#[_,_,vs,_,dd]:=nZ I.zt e;show dd.typeIs
 .let#[_,_,xs,_,dd]:=ku I.zt e;show dd.typeIs
def TU (td ty:TE):TE:=fun σ H Q=>td σ H λ x H1=>ty σ H1 λ y H2=>∃ a v,x=ã a/\rW H2 a y ↑v/\Q v H2
def SG (td ty tv:TE):TS:=λ D σ H=>tv σ H λ v H1=>td σ H1 λ x H2=>ty σ H2 λ y H3=>∃ a H4,x=ã a/\jb H3 a y v H4/\D.nx σ H4
section
variable {Ŧ}{o i value:Expr}{pos pos':Pos}{td ty tv:TE}
def Qo ĭ (hi:PE X i ty) (hs:bJ i):PE X (.Subscript o i pos) (TU td ty):=by
 intro EW s σ H Q I h;exact TY PySem.F.slot_dict_getitem.lookup hs (zD (ho EW s σ H _ I h) λ u s1 #[x,H1,I1,rx,q1]=>zD (hi Ê7) λ iv s2 #[y,H2,I2,ry,a,v,ex,g,q2]=>?_);ext Ŏ;show#[IP I2 g,IX hu I2 g ry λ w' s3 I3 rw'=>#[v,H2,I3,rw',q2]]
def R1 ĭ (hi:PE X i ty) (hv:PE X value tv) (hs:swapsWith value ↑(ū) pos.line Ż=pure æ):
  PS X (.Assign [ū] value pos) (SG td ty tv):=by
 intro EW s σ H D I h;exact wpAny_Assign_Subscript (zD (hv EW s σ H _ I h) λ r s1 #[v,H1,I1,rv,q1]=>zD (ho Ê7) λ u s2 #[x,H2,I2,rx,q2]=>zD (hi EW s2 σ H2 _ I2 q2) λ iv s3 #[y,H3,I3,ry,a,H4,ex,g,q3]=>?_) hs;ext Ŏ;show IV hu I3 g ry rv λ s4 I4=>#[σ,H4,I4,q3]
end
def IM Ģ Ľ(h:Heap) (hb:sysModules<Æ3):xa P w H (h.push { cls:=.type "dict",data:=.dict ĕ }) Æ3 (.dK []):=
 #[AZ _,beq_eq_false_iff_ne.mpr (Ne.symm (AF hb)),[],š,Heap.DictOf.new h]
def TQ:TE:=λ _ H Q=>∀ p,H p=none->Q À5 (upd H p (.dK []))
section
variable {Ŧ}{pos:Pos}
def Qm:PE X (.Dict [] [] pos) TQ:=λ EW s σ H Q I h=>
 wpAny_Dict_empty #[ã ā,_,I.laid (a:=ā) (o:=.dK []) (t':=s.toks) (λ _ _ q=>tp _ q) (An _) (IM s.heap I.big),rfl,h _ (I.zt.fresh (An _))]
end
structure M2 (X:Cx) (o:Expr) (m:Str) (apos:Pos) (e f:Expr) (Ah:Pos):Prop where
 base:attributeBase o m Ż (eval o Ż)=eval o Ż
 kg:((É9).all (λ x=>!x.1)&&œ
  && ŷ (([e,f]:List Expr).length+([]:List Keyword).length+Ã4<30))=true
 line:Í1
 trees:É9=[(æ,eval e Ż),(æ,eval f Ż)]
def V4 Ð3:Prop:=(∃ Aa,Rd H a ĝ)\/∃ Aa,Rd H a Í3
def Kw Ŧ Æ Ć À (d:V4 H a):
  s.TypeIs (ã a) "dict"/\(∀ b,È0 a=ã b->∃ ob,Æ2 b=↑ob/\ob.dict=none)/\Ę:=by
 rcases d with ⟨Aa,e⟩ | ⟨Aa,e⟩
 .let#[_,hd,vs,_,dd]:=nZ I.zt e;ext Ĩ
 .let#[_,hd,xs,_,dd]:=ku I.zt e;ext Ĩ
section
variable {Ŧ}{Æ}{Ć}{y d:V}{u r:ă}{o:Â V}{ľ}{E:Aj}
def IY {Q:Aj}(hu:Ķ+1<ś) À (g:rW H a y o) ĳ (rd:RelV d r) (h:∀ w' s',Ë9->RelV (o.getD d) w'->Q w' s'):
  ŧ Ä3 A (call (Ç7 "dict.get") [ã a,u,r]) Q E s:=by
 ext ĺ
 .subst ey;ext ō;exact call_meetsIn ě (meets_dict_get_default (vw ú) a (j_ ry) hd r) #[_,dd.mapOf,h È Ï1 ?_];rw[l];show (rel.val k).getD rd
 .ext ŀ;exact call_meetsIn ě (meetsH_dict_get_default (tupleKind (vw ú)) a b hd r) #[Ã1,k,xs,jY I.zt eb,dd,h È Ï1 ?_];rw[l];show (rel.val k).getD rd
end
def TR (td ty tx:TE):TE:=fun σ H Q=>td σ H λ x H1=>∃ a,x=ã a/\V4 H1 a/\ty σ H1 λ y H2=>tx σ H2 λ z H3=>∃ o,rW H3 a y o/\Q (o.getD z) H3
section
variable {Ŧ}{o e f:Expr}{apos Ah:Pos}{td ty tx:TE}
def Qn ĭ (he:PE X e ty) (hf:PE X f tx) Í6:PE X ž (TR td ty tx):=by
 intro EW s σ H Q I h;exact wpAny_Call_method m.base m.kg m.line PySem.F.plainAttrs_dict PySem.F.slot_dict_get PySem.F.type_dict_get (zD (ho EW s σ H _ I h) λ u s1 #[x,H1,I1,rx,a,ex,d,q1]=>?_);ext Ŏ;let#[t1,t2,_]:=Kw I1 d;exact#[t1,t2,?_];rw[m.trees];exact Calls.callWith_builtin rfl (Calls.evalArgs_plain (Calls.spliced_cons (zD (he Ê7) λ iv s2 #[y,H2,I2,ry,q2]=>
  Calls.spliced_cons (zD (hf EW s2 σ H2 _ I2 q2) λ fv s3 #[z,H3,I3,rz,ov,g,q3]=>Calls.spliced_nil ?_))))
 show IY hu I3 g ry rz λ w' s4 I4 rw'=>#[_,H3,I4,rw',q3]
end
end L2
namespace L3
open PySem PySem.Spec L2
open ŭ hiding St
def uL (Aa:È3) (k:Key):Â D:=(Aa.find? Í).map ģ
def putD (Aa:È3) (k:Key) (v:D):È3:=
 ė
section
variable {K:Ac}{Ľ}
theorem xh.val:∀ ð,Ů->∀ k,(uL Aa k=none/\w_ vs k=none)\/∃ d v,uL Aa k=↑d/\w_ vs k=↑v/\zf K H d v
 | _,_,š,k=>Ń #[rfl,rfl]
 | (a,d)::Aa,(b,v)::vs,Ē #[e,r] t,k=>by
  have e':a=b:=e;subst e';by_cases h:a=k
  .subst h;show .inr #[d,v,by simp[uL],by simp[w_],r]
  .rcases xh.val t k with ⟨h1,h2⟩ | ⟨d',v',h1,h2,h3⟩
   .show Ń #[by simpa [uL,h] using h1,by simpa [w_,h] using h2]
   .show .inr #[d',v',by simpa [uL,h] using h1,by simpa [w_,h] using h2,h3]
theorem xh.any ð(h:Ů) (k:Key):Æ5=vs.any Í:=by
 induction h with
 | nil=>rfl
 | cons r _ ih=>rw[BB,BB,ih,r.1]
def xh.len ð(h:Ů):Ă=Ú:=À4 h
theorem xh.sg {k:Key}ħ Å4:∀ ð,Ů->xh K H (Aa.map λ kv=>if kv.1=k then (kv.1,d) else kv) (vs.map Ç1)
 | _,_,š=>š
 | (a1,a2)::_,(b1,b2)::_,Ē #[e,q] t=>by
  have e':a1=b1:=e;subst e';exact Ē ?_ (xh.sg r t);by_cases hk:a1=k
  .simp[hk,r]
  .simpa [hk] using q
theorem xh.snoc {k:Key}ħ Å4:∀ ð,Ů->xh K H (Aa++[(k,d)]) (vs++[(k,v)])
 | _,_,š=>Ē #[rfl,r] š
 | _,_,Ē q t=>Ē q (xh.snoc r t)
def xh.put ð(h:Ů) (k:Key) ħ Å4:xh K H (putD Aa k d) (putK vs k v):=by
 unfold putD putK;rw[h.any k];split
 .show xh.sg r h
 .show xh.snoc r h
end
section
variable {Ŧ}{o i e f v:Expr}{td ty tx tv:zw}{pos pos' apos Ah:Pos}
def Wn:zw:=λ _ S Q=>∀ p,Í2->Q À5 (ups S p (.zW []))
theorem O3:PD X (.Dict [] [] pos) Wn:=by
 exact#[λ _ _ _ _ hq z p hp=>hq È (z p hp),PE.imp Qm fun σ H Q hu p hp=>?_];ext Č;show z p (r2.none hp) È (ı) (Ï3) (r2.ups (Ï3) #[[],yy,š])
def Wr (td ty:zw):zw:=fun Y S Q=>td Y S λ x S1=>ty Y S1 λ y S2=>∃ p Aa k d,x=ã p/\y=ò k/\S2 p=↑ Í4/\uL Aa (Ń k)=↑d/\Q d S2
def O2 ĵ (hi:PD X i ty) (hs:bJ i):PD X (.Subscript o i pos) (Wr td ty):=by
 exact#[fun Y S Q Q' hq z=>ho.mo Y S È (λ x S1 z=>hi.mo Y S1 È (λ y S2 #[p,Aa,k,d,a,b,c,e,h]=>#[p,Aa,k,d,a,b,c,e,hq È h]) z) z,PE.imp (Qo (dU hr) ho.pe hi.pe hs) Ë5];ext Ű;exact zL.go hi.mo Á9;let#[p,Aa,k,d,rfl,rfl,c1,c2,h]:=h2;simp![zf] at q1 q2;subst q1 q2;let#[vs,g1,g2]:=p2 È c1;rcases xh.val g2 (Ń k) with ⟨n1,_⟩ | ⟨d',v',n1,n2,n3⟩
 .rw[c2] at n1;cases n1
 .rw[c2] at n1;cases n1;show#[p,v',rfl,n2▸rW.k Ð4,h v' H2 n3 (e1.trans e2) p2]
def Wq (td ty tx:zw):zw:=fun Y S Q=>td Y S λ x S1=>∃ p,x=ã p/\(∃ Aa,S1 p=↑ Í4)/\ty Y S1 λ y S2=>tx Y S2 λ z S3=>∃ k Aa,y=ò k/\S3 p=↑ Í4/\Q ((uL Aa (Ń k)).getD z) S3
def O4 ĵ (he:PD X e ty) (hf:PD X f tx) Í6:PD X ž (Wq td ty tx):=by
 exact#[fun Y S Q Q' hq z=>ho.mo Y S È (λ x S1 #[p,a,b,z]=>#[p,a,b,he.mo Y S1 È (λ y S2 z=>hf.mo Y S2 È (λ w S3 #[k,Aa,a,b,h]=>#[k,Aa,a,b,hq È h]) z) z]) z,PE.imp (Qn (dU hr) ho.pe he.pe hf.pe m) Ë5];ext Ű;let#[p,rfl,#[kvs0,c0],h1]:=h1;simp![zf] at q1;subst q1;let#[vs0,g0,_]:=p1 È c0;exact#[p,rfl,Ń #[vs0,Ń g0],?_];exact zL.go he.mo Á9;exact zL.go hf.mo (È4) p2 h2 λ y3 S3 w3 H3 h3 q3 e3 p3=>?_;let#[k,Aa,rfl,c1,h]:=h3;simp![zf] at q2;subst q2;let#[vs,g1,g2]:=p3 È c1;exact#[w_ vs (Ń k),rW.k Ð4,?_];rcases xh.val g2 (Ń k) with ⟨n1,n2⟩ | ⟨d',v',n1,n2,n3⟩
 .rw[n1] at h;rw[n2];show h _ H3 q3 (Â4) p3
 .rw[n1] at h;rw[n2];show h _ H3 n3 (Â4) p3
def Wo (td ty tv:zw):ye:=λ E Y S=>tv Y S λ v S1=>td Y S1 λ x S2=>ty Y S2 λ y S3=>∃ p Aa k,x=ã p/\y=ò k/\S3 p=↑ Í4/\Ă<ä/\E.nx Y (ups S3 p (.zW (putD Aa (Ń k) v)))
theorem Ext.dK Ľ Ä9 Ð2(h:H p=↑ ĝ) (o:HO):Ext H (upd H p o):=
 #[λ b ys q=>ç,λ b ob u q=>ç,λ b u q=>ç,λ b u q=>ç]
theorem QY ĵ (hi:PD X i ty) (hv:PD X v tv) (hs:swapsWith v ↑(ū) pos.line Ż=pure æ):xN X (.Assign [ū] v pos) (Wo td ty tv):=by
 exact#[λ E E' Y S hE z=>hv.mo Y S È (λ w S1 z=>ho.mo Y S1 È (λ x S2 z=>hi.mo Y S2 È (λ y S3 #[p,Aa,k,a,b,c,d,h]=>#[p,Aa,k,a,b,c,d,hE.nx È h]) z) z) z,PS.imp (R1 (dU hr) ho.pe hi.pe hv.pe hs) λ D σ H hu=>?_];ext Č;exact zL.go hv.mo r1 r2 z λ w S1 w1 H1 h1 q1 e1 p1=>?_;exact zL.go ho.mo (r1.ext e1) p1 h1 λ x S2 w2 H2 h2 q2 e2 p2=>?_;exact zL.go hi.mo (È4) p2 h2 λ y S3 w3 H3 h3 q3 e3 p3=>?_;let#[p,Aa,k,rfl,rfl,c1,c2,h]:=h3;simp![zf] at q2 q3;subst q2 q3;let#[vs,g1,g2]:=p3 È c1;have e4:Ext H3 (upd H3 p (.dK (putK vs (Ń k) w1))):=.dK g1 _;exact#[p,_,rfl,jb.k Ð4 (by rw[<- g2.len];show c2),?_];show h σ _ (((È4).ext e3).ext e4) ((Â4).trans e4) (p3.ups e4 #[_,yy,(xh.put g2 _ (zf.ext (e2.trans e3) w q1)).ext e4])
def HP:yL X (Ç7 "len") (λ xs H Q=>∃ p Aa,xs=[ã p]/\H p=↑ ĝ/\Q (ò Ă) H):=by
 intro EW s σ H xs us Q I r h;let#[p,Aa,rfl,e,q]:=h;let#[u,rfl,ru]:=vals1 r;cases ru;show IW I (Ń e) λ t s' I'=>#[ò _,H,I',#[_,rfl],q]
def XH:xF:=λ ds S Q=>∃ p Aa,ds=[ã p]/\S p=↑ Í4/\Q (ò Ă) S
def O1 {es:List Expr}{tA:zY}{p:Pos}(hm:X.mg "len"=none) û (hg:Gl X "len") Ñ:PD X (Ë4 (ē "len" p) İ) (xD XH tA):=
 uR (uQ HP hg hm PySem.boot_len ĩ) (λ _ _ _ _ hq #[p,Aa,a,b,h]=>#[p,Aa,a,b,hq È h]) (λ xs ds H S Q h0 h2 #[p,Aa,a,b,h]=>by
  subst a;let#[x,rfl,h1]:=h0.one;simp![zf] at h1;subst h1;let#[vs,g1,g2]:=h2 È b;exact#[p,vs,rfl,g1,?_];rw[<- g2.len];show h Ì6 h2) ha.mo
end
end L3
namespace L3
open PySem L2
section
variable {É0}
mutual
theorem Sn.sx (h:ę):∀ (t:T) ħ,Ĥ->Sn S' t d
 | .zj,d,q=>Ņ
 | ũ,d,q=>Ņ
 | ò i,d,q=>Ņ
 | À6 x,d,q=>Ņ
 | Ī ts,d,q=>by
  ext É2;let#[ds,q1,q2]:=q;show#[ds,q1,Ì0 h ts q2]
 | Ù,d,q=>by
  ext É2;let#[ds,q1,q2]:=q;exact#[ds,?_,Ì0 h ts q2];rcases q1 with q1 | ⟨a,q1,q3⟩
  .show Ń q1
  .show .inr #[a,q1,h È q3]
 | .err È t,d,q=>by
  ext É2;let#[x,q1,q2]:=q;show#[x,q1,Sn.sx h t q2]
 | .xl,d,q=>by
  ext É2;let#[a,Aa,q1,q2]:=q;show#[a,Aa,q1,h È q2]
theorem Ì0 (h:ę):∀ Ï9 ü,Ê->zk S' ts ds
 | [],ds,q=>by simpa only [zk] using q
 | Î6,ds,q=>by
  simp![zk] at q ⊢;let#[c,cs,q1,q2,q3]:=q;show#[c,cs,q1,Sn.sx h t q2,Ì0 h ts q3]
end
def zk.nil:zk S [] []:=by simp![zk]
def zk.cons {t:T}À1 ħ ü(h:Ĥ) (h':Ê):zk S (Î6) (d::ds):=by
 simp![zk];show#[d,ds,rfl,h,h']
theorem zk.append:∀ {ts us:Ç}{ds es:List D},Ê->zk S us es->zk S (ts++us) (ds++es)
 | [],us,ds,es,h,h'=>by ext Á7;exists h'
 | Î6,us,ds,es,h,h'=>by
  ext Ë;show zk.cons h1 (zk.append h2 h')
theorem zk.cp:∀ Ä{i:Nat}{t:T},Ê->ts[i]?=↑t->∃ d,ds[i]?=↑d/\Ĥ
 | [],_,i,t,_,e=>by simp at e
 | u::ts,ds,i,t,h,e=>by
  ext Ë;cases i with
  | zero=>simp at e;subst e;show Î7
  | succ i=>
   let#[y,e1,e2]:=zk.cp (i:=i) h2 (by exists e);show Ï4
theorem zk.cu:∀ Ä{i:Nat}ħ,Ê->ds[i]?=↑d->∃ t,ts[i]?=↑t/\Ĥ
 | [],ds,i,t,h,e=>by ext Á7;simp at e
 | u::ts,ds,i,t,h,e=>by
  ext Ë;cases i with
  | zero=>simp at e;subst e;show#[u,rfl,h1]
  | succ i=>
   let#[y,e1,e2]:=zk.cu (i:=i) h2 (by exists e);show Ï4
def zk.len Ä(h:Ê):ds.length=ñ:=(L3.zk.length h).symm
theorem zk.at Ä{i:Int}{t:T}(h:Ê) (e:L2.z_ ts i=↑t):∃ d,L2.z_ ds i=↑d/\Ĥ:=by
 unfold L2.z_ at e ⊢;rw[h.len];cases q:L2.vy ñ i with
 | none=>rw[q] at e;cases e
 | some j=>
  rw[q] at e;show h.cp e
theorem zk.Zj:∀ Ä{t:T}ħ ê,Ê->Ĥ->zk S (ts.set i t) (ds.set i d)
 | [],ds,t,d,i,h,_=>by ext Á7;exists zk.nil
 | u::ts,ds,t,d,0,h,hd=>by
  ext Ë;show zk.cons hd h2
 | u::ts,ds,t,d,i+1,h,hd=>by
  ext Ë;show zk.cons h1 (zk.Zj i h2 hd)
def zk.empty Ä(h:Ê):ds.isEmpty=ts.isEmpty:=by
 have:=h.len;cases ds <;> cases ts <;> simp_all
theorem zk.WO:∀ {bs:Ŕ}ü,zk S (bs.map T.bl) ds->ds=bs.map D.bl
 | [],ds,h=>by simpa only [BD,zk] using h
 | b::bs,ds,h=>by
  rw[Az] at h;simp![zk,Sn] at h;let#[c,cs,rfl,rfl,h3]:=h;rw[zk.WO h3];rfl
end
end L3
namespace L5
open PySem L2 L3
def zB Ś:SS:=open Classical in λ a=>if Z a then none else S a
section
variable {É0}{Z Z':Õ}{a p:Addr}
def vz (h:¬ Z a):zB S Z a=S a:=Ø h
def lX (h:Z a):zB S Z a=none:=Ü h
def tQ {o:O}(h:zB S Z a=↑o):¬ Z a/\S a=↑o:=by
 by_cases z:Z a
 .rw[lX z] at h;cases h
 .rw[vz z] at h;show#[z,h]
def nN Ś:Sx õ S:=λ _ _ h=>(tQ h).2
def xW (h:ę):Sx õ È5:=λ b o q=>by
 ext Ŵ;rw[vz q1];show h È q2
def vg (h:∀ a,Z' a->Z a):Sx õ (zB S Z'):=λ b o q=>by
 ext Ŵ;rw[vz (λ z=>q1 (h _ z))];show q2
def pP (h:ę) (hp:Í2):Sx õ Ã5:=λ b o q=>by
 ext Ŵ;rw[vz]
 .show h È q2
 .rintro (z | z)
  .show q1 z
  .subst z;rw[hp] at q2;cases q2
theorem KH {o:O}(h:Z p):zB (ups S p o) Z=zB S Z:=by
 funext b;by_cases z:Z b
 .rw[lX z,lX z]
 .rw[vz z,vz z,sW (λ e=>z (by rw[e];show h))]
end
inductive C where
 | lst Ï9 | zW (Aa:List (Key×T)) | obj (a:Â Addr) (c:Str) (fs:List (Str×T))
def yd {κ:Type}(S:SS):List (κ × T)->List (κ × D)->Prop
 | [],l=>l=[]
 | (k,t)::r,l=>∃ d m,l=(k,d)::m/\Ĥ/\yd S r m
theorem yd.sx {κ:Type}É0(h:ę):∀ {a:List (κ × T)}{b:List (κ × D)},yd S a b->yd S' a b
 | [],_,q=>q
 | (k,t)::r,_,q=>by
  let#[d,m,q1,q2,q3]:=q;show#[d,m,q1,Sn.sx h t q2,yd.sx h q3]
def xE (S:SS):C->O->Prop
 | Ù,ī=>Ê
 | .zW a,.zW b=>yd S a b
 | .obj _ c a,.obj c' b=>c=c'/\yd S a b
 | _,_=>É8
theorem xE.sx É0(h:ę):∀ {c:C}{o:O},xE S c o->xE S' c o
 | Ù,ī,q=>Ì0 h ts q
 | .zW a,.zW b,q=>yd.sx h q
 | .obj ů,.obj È,q=>#[q.1,yd.sx h q.2]
def adr:C->Õ
 | .obj ↑q È,p=>q=p
 | _,_=>True
inductive W where
 | im (t:T) | own (c:C)
abbrev Ev:=List (Â W)
abbrev Ad:=Ev->Â T
abbrev Ap:=Ç->Â T
structure ER Ś (Y:yc) (J:Ev):Prop where
 zd:Ŝ
 im:∀ ê t,J[i]?=↑↑(.im t)->∃ d,Y[i]?=↑↑d/\Sn õ t d
 ow:∀ ê c,J[i]?=↑↑(.own c)->∃ p o,ļ/\S p=↑o/\xE õ c o/\Z p
def Vw Ś (y:T) (d:D):Prop:=Sn õ y d\/∃ ts p ds,y=Ù/\d=ã p/\Î4/\ŝ/\Z p
abbrev Rk:=SS->SS->(Õ)->T->D->Prop
def Vs:Rk:=λ _ S' Z y d=>Vw Ä0
def xm:Rk:=λ _ S' Z y d=>Sn È5 y d
def zJ:Rk:=λ S S' Z y d=>Sn È5 y d/\∀ ts,y=Ù->∃ p ds,d=ã p/\Í2/\S' p=↑(ī)/\zk Ã5 ts ds
class Cl (R:Rk):Prop where
 cl:∀ {S S1 S':SS}{Z:Õ}{y:T}ħ,Sx S S1->R S1 Ä0->Ã6
 of:∀ É0{Z:Õ}{y:T}ħ,(∀ ts,y≠ Ù)->Sn È5 y d->Ã6
instance:Cl Vs:=#[λ _ h=>h,λ _ h=>Ń h]
instance:Cl xm:=#[λ _ h=>h,λ _ h=>h]
instance:Cl zJ:=#[λ s h=>#[h.1,λ ts e=>by
 let#[p,ds,h1,h2,h3]:=h.2 ts e;show#[p,ds,h1,s.none h2,h3]],λ n h=>#[h,λ ts e=>Ê9 e (n ts)]]
section
variable {É0}{Z:Õ}{Y:yc}{J:Ev}{y:T}{ħ}
def ER.grow (h:ER Å) (s:ę):ER S' Z Y J:=
 #[λ a z q=>h.zd a z (s.none q),λ i t e=>by
  let#[d,h1,h2]:=h.im i t e;show#[d,h1,Sn.sx (xW s) t h2],λ i ts e=>by
  let#[p,ds,h1,h2,h3,h4]:=h.ow i ts e;show#[p,ds,h1,s È h2,xE.sx (xW s) h3,h4]]
def Vw.grow (h:Ê0) (s:ę):Vw Ä0:=by
 rcases h with h | ⟨ts,p,ds,h1,h2,h3,h4,h5⟩
 .show Ń (Sn.sx (xW s) y h)
 .show .inr #[ts,p,ds,h1,h2,s È h3,Ì0 (xW s) ts h4,h5]
def Vw.sn (h:Ê0):Sn S y d:=by
 rcases h with h | ⟨ts,p,ds,rfl,rfl,h3,h4,_⟩
 .show Sn.sx (nN S Z) y h
 .simp![Sn];show#[ds,.inr #[p,rfl,h3],Ì0 (nN S Z) ts h4]
theorem Vw.zj (h:Vw S Z .zj d):d=.zj:=by
 ext Ö
 ext ő
 .cases h
theorem Vw.bl Í5(h:Vw S Z (ũ) d):d=ũ:=by
 ext Ö
 ext ő
 .cases h
theorem Vw.int {b:Int}(h:Vw S Z (ò b) d):d=ò b:=by
 ext Ö
 ext ő
 .cases h
theorem Vw.str {b:Str}(h:Vw S Z (À6 b) d):d=À6 b:=by
 ext Ö
 ext ő
 .cases h
theorem Vw.tup À1(h:Vw S Z (Ī ts) d):∃ ds,d=Ī ds/\ŝ:=by
 ext Ö
 ext ő
 .cases h
theorem Vw.lst À1(h:Vw S Z (Ù) d):∃ ds,(d=.vb ds\/∃ a,d=ã a/\S a=↑(ī))/\ŝ:=by
 rcases h with h | ⟨us,p,ds,h1,h2,h3,h4,_⟩
 .ext À2;let#[ds,h1,h2]:=h;exact#[ds,?_,h2];rcases h1 with h1 | ⟨a,h1,h3⟩
  .show Ń h1.1
  .show .inr #[a,h1,(tQ h3).2]
 .cases h1;show#[ds,.inr #[p,h2,h3],h4]
def vF:T->Â (Ç)
 | Ī ts=>↑ts
 | Ù=>↑ts
 | _=>none
@[simp] theorem zab Ï9:vF (Ī ts)=↑ts:=rfl
@[simp] theorem zac Ï9:vF (Ù)=↑ts:=rfl
def Vw.seq À1(h:Ê0) (e:vF y=↑ts):∃ ds,zZ d S=↑ds/\ŝ:=by
 cases y with
 | tup us=>cases e;let#[ds,rfl,h2]:=h.tup;show#[ds,rfl,h2]
 | lst us=>
  cases e;obtain⟨ds,h1 | ⟨a,rfl,h1⟩,h2⟩:=h.lst
  .subst h1;show#[ds,rfl,h2]
  .show#[ds,by unfold zZ;ext ſ;rw[h1],h2]
 | _=>cases e
theorem Vw.xl (h:Vw S Z .xl d):Â6:=by
 ext Ö
 .ext À2;let#[a,Aa,h1,h2]:=h;show#[a,Aa,h1,(tQ h2).2]
 .cases h
def fU:Sn S .zj .zj:=È6
def vp Í5:Sn S (ũ) (ũ):=È6
def wx {i:Int}:Sn S Î5 Î5:=È6
def Sk {x:Str}:Sn S (À6 x) (À6 x):=È6
def o_ Ä(h:Ê):Sn S (Ī ts) (Ī ds):=by simp![Sn];show#[ds,rfl,h]
def qg Ä Ä9(hz:Ŝ) (hp:Í2) (h:ŝ):zJ S (ups S p (ī)) Z (Ù) À5:=by
 have nz:¬ Z p:=λ z=>hz p z hp;have s:Sx S (ups S p (ī)):=Ï3;exact#[?_,λ us e=>?_]
 .simp![Sn];show#[ds,.inr #[p,rfl,by rw[vz nz,se]],Ì0 (xW s) ts h]
 .cases e;show#[p,ds,rfl,hp,se,Ì0 (pP s hp) ts h]
end
def xO (R:Rk) É1 (t:zw):Prop:=∀ S Z Y J y Q,ER Å->f J=↑y->(∀ d S',ę->Ã6->Q d S')->t Y S Q
abbrev xP:=xO xm
abbrev yD:=xO Vs
abbrev xI:=xO zJ
def xO.imp {R R':Rk}É3(h:xO R f t) (i:∀ S S' Z y d,Ã6->R' S Ä0):xO R' f t:=λ S Z Y J y Q hE e hq=>h Å y Q hE e λ d S' s r=>hq d S' s (i È ů r)
def xO.er É3(h:xP f t):yD f t:=h.imp λ _ _ _ _ _ r=>Ń r
def xO.fe É3(h:xI f t):xP f t:=h.imp λ _ _ _ _ _ r=>r.1
def xO.fr É3(h:xI f t):yD f t:=h.fe.er
@[simp] def zh ê:Ad:=fun J=>match J[i]? with
 | some ↑(.im t)=>↑t
 | _=>none
@[simp] def zc ê:Ad:=fun J=>match J[i]? with
 | some ↑(.im t)=>↑t
 | some ↑ Æ7=>↑(Ù)
 | _=>none
@[simp] def cS (t:T):Ad:=λ _=>↑t
@[simp] abbrev cI (i:Int):Ad:=cS Î5
def Yk ê:xP (zh i) (zX i):=λ S Z Y J y Q hE e hq=>by
 unfold zh at e;split at e
 .ext Ť;show hq d Ï h2
 .cases e
def Mg ê:yD (zc i) (zX i):=λ S Z Y J y Q hE e hq=>by
 unfold zc at e;split at e
 .ext Ť;show hq d Ï (Ń h2)
 .rename_i ts h;cases e;let#[p,o,h1,h2,h3,h4]:=hE.ow i _ h;unfold zX;rw[h1];cases o with
  | lst ds=>show hq _ Ï (.inr #[ts,p,ds,rfl,rfl,h2,h3,h4])
  | _=>show h3.elim
 .cases e
def Mz (i:Int):xI (cS Î5) (dC Î5):=λ S Z Y J y Q hE e hq=>by cases e;show ŉ
def MB (i:Bool):xI (cS (.bl i)) (dC (.bl i)):=λ S Z Y J y Q hE e hq=>by cases e;show Ő
def Mn (i:Str):xI (cS (À6 i)) (dC (À6 i)):=λ S Z Y J y Q hE e hq=>by cases e;show hq _ Ï (Cl.of å Sk)
def Mr:xI (cS .zj) (dC .zj):=λ S Z Y J y Q hE e hq=>by cases e;show hq _ Ï (Cl.of å fU)
@[simp] def zb (f:î) (fa fb:Ad):Ad:=fun J=>(fa J).bind λ x=>(fb J).bind λ y=>f x y
def Good2 (R:Rk) (f:î) (g:y_):Prop:=∀ S Z x y z d e Q,(Ŝ)->Vw S Z x d->Vw S Z y e->f x y=↑z->Ç2->g d e S Q
def rp {R:Rk} [Cl R] {f:î}{g:y_}{fa fb:Ad}{ta tb:zw}(hg:Good2 R f g) Ā:xO R (zb f fa fb) (yu g ta tb):=λ S Z Y J y Q hE e hq=>by
 unfold zb at e;let#[x,e1,e]:=č;let#[z,e2,e]:=č;exact ha Å x Ó;exact hb Ç5 z ŗ λ d2 S2 s2 r2=>?_;show hg S2 Z x z y d d2 Q ((hE.grow Ĳ).zd) (Vw.grow r1 s2) r2 e λ c S' s r=>hq c S' ((s1.trans s2).trans s) (Cl.cl Ĳ r)
@[simp] def i2 (g:Int->Int->T):î
 | ò i,ò j=>↑(g i j)
 | _,_=>none
instance {i j:Int}:Ï5 (rY i j):=by unfold rY;infer_instance
instance {i j:Int}:Ï5 (oQ i j):=by unfold oQ;infer_instance
instance {i j:Int}:Ï5 (qT i j):=by unfold qT;infer_instance
@[simp] def qu (C:Int->Int->Prop) [∀ i j,Ï5 (C i j)] (g:Int->Int->T):î
 | ò i,ò j=>if C i j then ↑(g i j) else none
 | _,_=>none
def ka ċ:Good2 zJ (i2 g) (yR g'):=λ S Z x y z d e Q hz hx hy ef hq=>by
 unfold i2 at ef;split at ef
 .cases ef;cases hx.int;cases hy.int;show Ì1
 .cases ef
def nP {C:Int->Int->Prop} [∀ i j,Ï5 (C i j)] ċ:Good2 zJ (qu C g) (fI C g'):=λ S Z x y z d e Q hz hx hy ef hq=>by
 unfold qu at ef;split at ef
 .split at ef
  .rename_i hh;cases ef;cases hx.int;cases hy.int;show#[hh,Ì1]
  .cases ef
 .cases ef
@[simp] def x8:î:=i2 λ i j=>ò (i-j)
@[simp] def yz:î:=qu (λ _ j=>0<j) λ i j=>ò (i%j)
@[simp] def xf:î:=qu oQ λ i j=>ò (i/j)
@[simp] def xS:î:=qu qT λ i j=>ò (i ^ j.toNat)
@[simp] def ltI:î:=i2 λ i j=>.bl (ŷ (i<j))
@[simp] def qo:î:=i2 λ i j=>.bl (ŷ (i<=j))
@[simp] def lZ:î:=i2 λ i j=>.bl (ŷ (j<i))
@[simp] def nS:î:=i2 λ i j=>.bl (ŷ (j<=i))
section
variable {fa fb:Ad}{ta tb:zw}
def Mm Ā:xI (zb x8 fa fb) (yu (yR λ i j=>ò (i-j)) ta tb):=rp (ka (λ _ _ _=>wx) λ _ _ _=>nofun) ha hb
def Mu Ā:xI (zb yz fa fb) (yu (fI (λ _ j=>0<j) λ i j=>ò (i%j)) ta tb):=Ě
def M4 Ā:xI (zb xf fa fb) (yu (fI oQ λ i j=>ò (i/j)) ta tb):=Ě
def Mp Ā:xI (zb xS fa fb) (yu (fI qT λ i j=>ò (i ^ j.toNat)) ta tb):=Ě
end
def zT Å0:î:=λ x y=>if dep x<=60/\dep y<=60 then ↑(.bl (cond neg (!eqT x y) (eqT x y))) else none
def lU Å0:î:=λ x y=>match vF y with
 | some ts=>if dep x<=60/\wa ts<=60 then ↑(.bl (cond neg (!(ts.any λ t=>eqT t x)) (ts.any λ t=>eqT t x))) else none
 | none=>none
def JC Å7:Good2 zJ (zT neg) (uh neg):=λ S Z x y z d e Q hz hx hy ef hq=>by
 unfold zT at ef;split at ef
 .rename_i h;cases ef;show#[x,y,hx.sn,hy.sn,h.1,h.2,Ő]
 .cases ef
def JB Å7:Good2 zJ (lU neg) (qy neg):=λ S Z x y z d e Q hz hx hy ef hq=>by
 unfold lU at ef;split at ef
 .rename_i ts ht;split at ef
  .rename_i h;cases ef;let#[ds,h1,h2]:=hy.seq ht;show#[x,ts,ds,hx.sn,h1,Ì0 (nN S Z) ts h2,h.1,h.2,Ő]
  .cases ef
 .cases ef
@[simp] def zi:î:=λ x y=>match vF x,y with
 | some ts,ò i=>L2.z_ ts i
 | _,_=>none
def Xo:Good2 xm zi vh:=λ S Z x y z d e Q hz hx hy ef hq=>by
 unfold zi at ef;split at ef
 .rename_i ts i ht;cases hy.int;let#[ds,h1,h2]:=hx.seq ht;let#[c,h3,h4]:=h2.at ef;unfold zZ at h1;split at h1
  .cases h1;show Im h3 (hq c Ï h4)
  .cases h1;show Io h3 (hq c Ï h4)
  .split at h1
   .rename_i q;cases h1;show Ip q h3 (hq c Ï h4)
   .cases h1
  .cases h1
 .cases ef
def vm (f:ø) (t:yx):Prop:=∀ S Z Y J y Q,ER Å->f J=↑y->(∀ S',ę->Q y S')->t Y S Q
@[simp] def zO É1:ø:=fun J=>Ħ λ x=>match x with
 | ũ=>↑b
 | _=>none
@[simp] def f9:T->Â Bool
 | .zj=>↑ æ
 | ũ=>↑b
 | ò i=>↑(i != 0)
 | À6 x=>if x.length<=ä then ↑((x.length:Int) != 0) else none
 | Ī ts=>↑(!ts.isEmpty)
 | Ù=>↑(!ts.isEmpty)
 | .xl=>none
 | .err ů=>none
@[simp] def wt É1:ø:=fun J=>Ħ f9
@[simp] def qA (f g:ø):ø:=fun J=>Ħ λ b=>if b=true then g J else ↑ æ
@[simp] def tq (f g:ø):ø:=fun J=>Ħ λ b=>if b=true then ↑true else g J
@[simp] def ui (f:ø):ø:=fun J=>(f J).map (!·)
section
variable {f g:Ad}{t u:zw}{fb gb:ø}{tb ub:yx}{R:Rk}
def Mi Ê8:vm (zO f) (uk t):=λ S Z Y J y Q hE e hq=>by
 ext ÿ;split at e2
 .cases e2;cases Vw.bl r1;show ņ
 .cases e2
def Ml Ê8:vm (wt f) (cJ t):=λ S Z Y J y Q hE e hq=>by
 ext ÿ;cases x with
 | zj=>cases Vw.zj r1;ext Î0
 | bl b=>cases Vw.bl r1;ext Î0
 | int b=>cases Vw.int r1;ext Î0
 | str b=>
  cases Vw.str r1;simp![f9] at e2;split at e2
  .rename_i hh;cases e2;show#[hh,ņ]
  .cases e2
 | tup ts=>
  let#[ds,rfl,h2]:=Vw.tup r1;ext Â0
 | lst ts=>
  ext ŵ
  .ext Â0
  .cases e2;exact Tq h1 ?_;rw[h2.empty];show ņ
 | _=>cases e2
def M7 (h:vm fb tb) (h':vm gb ub):vm (qA fb gb) (kq tb ub):=λ S Z Y J y Q hE e hq=>by
 ext Š
 .ext Ä1;show Ç3
 .ext Ä6;ext Î0
def M5 (h:vm fb tb) (h':vm gb ub):vm (tq fb gb) (nW tb ub):=λ S Z Y J y Q hE e hq=>by
 ext Š
 .ext Ä1;ext Î0
 .ext Ä6;show Ç3
def M6 (h:vm fb tb):vm (ui fb) (nX tb):=λ S Z Y J y Q hE e hq=>by
 unfold ui at e;let#[b,e1,rfl]:=Ax.mp e;show h Å b Ð5 λ S1 s1=>ņ
@[simp] def t8 (f g:Ad):Ad:=fun J=>Ħ λ x=>match x with
 | .bl k=>if k=true then g J else ↑(.bl æ)
 | _=>none
@[simp] def Yp É1:Ad:=fun J=>Ħ λ x=>match x with
 | .bl k=>↑(.bl (!k))
 | _=>none
@[simp] def dQ (c:ø) (f g:Ad):Ad:=fun J=>(c J).bind λ b=>if b=true then f J else g J
def MC [Cl R] Ê8 (h':xO R g u):xO R (t8 f g) (md t u):=λ S Z Y J y Q hE e hq=>by
 ext ÿ;split at e2
 .cases Vw.bl r1;split at e2
  .rename_i hb;ext ſ;rw[Ü hb];show h' Ý
  .rename_i hb;ext ſ;rw[Ø hb];ext Ì9
 .cases e2
def Mq [Cl R] Ê8:xO R (Yp f) (k7 t):=λ S Z Y J y Q hE e hq=>by
 ext ÿ;split at e2
 .cases Vw.bl r1;ext Ì9
 .cases e2
def M1 [Cl R] (hc:vm fb tb) (h:xO R f t) (h':xO R g u):xO R (dQ fb f g) (kC tb t u):=λ S Z Y J y Q hE e hq=>by
 ext Í7;exact hc Å b Ð5 λ S1 s1=>?_;split at e2
 .ext Ä1;show h Ý
 .ext Ä6;show h' Ý
end
def mf Ś:Ç->List D->Prop
 | [],ds=>ds=[]
 | Î6,ds=>∃ c cs,ds=c::cs/\Vw S Z t c/\mf S Z ts cs
def qN (f:é) (t:zY):Prop:=∀ S Z Y J ys Q,ER Å->f J=↑ys->(∀ ds S',ę->mf S' Z ys ds->Q ds S')->t Y S Q
def vP (f:é) (t:zY):Prop:=∀ S Z Y J ys Q,ER Å->f J=↑ys->(∀ ds S',ę->zk È5 ys ds->Q ds S')->t Y S Q
@[simp] def zg:é:=λ _=>↑[]
@[simp] def za É1 (g:é):é:=fun J=>Ħ λ x=>Ä7 λ xs=>↑(x::xs)
section
variable {f:Ad}{g:é}{t:zw}{u:zY}
def Me:qN zg tw:=λ S Z Y J y Q hE e hq=>by cases e;show hq [] Ï rfl
def N_:vP zg tw:=λ S Z Y J y Q hE e hq=>by cases e;show hq [] Ï š
def Mf Ê8 (h':qN g u):qN (za f g) (t6 t u):=λ S Z Y J y Q hE e hq=>by
 ext ï;show hq _ S2 Ĳ #[d,ds,rfl,Vw.grow r1 s2,r2]
def Ma (h:xP f t) (h':vP g u):vP (za f g) (t6 t u):=λ S Z Y J y Q hE e hq=>by
 ext ï;show hq _ S2 Ĳ (Ē (Sn.sx (xW s2) x r1) r2)
@[simp] def tupS (g:é):Ad:=fun J=>Ä7 λ xs=>if xs.length<=ä then ↑(Ī xs) else none
@[simp] def ve (g:é):Ad:=fun J=>Ä7 λ xs=>if xs.length<=ä then ↑(.lst xs) else none
def Mh (h:vP g u):xI (tupS g) (cN u):=λ S Z Y J y Q hE e hq=>by
 ext Ë3;split at e2
 .rename_i hl;cases e2;exact h Å xs Ð5 λ ds S1 s1 r1=>#[by rw[r1.len];show hl,hq _ S1 s1 (Cl.of å (o_ r1))]
 .cases e2
def Mv (h:vP g u):xI (ve g) (Wk u):=λ S Z Y J y Q hE e hq=>by
 ext Ë3;split at e2
 .rename_i hl;cases e2;exact h Å xs Ð5 λ ds S1 s1 r1=>#[by rw[r1.len];show hl,λ p hp=>hq È (s1.trans (Ï3)) (Cl.cl s1 (qg (hE.grow s1).zd hp r1))]
 .cases e2
end
@[simp] def zv (F:Ap) (g:é):Ad:=fun J=>Ä7 F
def vR (R:Rk) (F:Ap) (f:xF):Prop:=∀ S Z ys z ds Q,(Ŝ)->mf S Z ys ds->F ys=↑z->Ç2->f ds S Q
def MA {R:Rk} [Cl R] {F:Ap}{f:xF}{g:é}{u:zY}(hf:vR R F f) (h:qN g u):xO R (zv F g) (xD f u):=λ S Z Y J y Q hE e hq=>by
 ext Ë3;exact h Å xs Ð5 λ ds S1 s1 r1=>?_;show hf S1 Z xs y ds Q (hE.grow s1).zd r1 e2 λ c S' s r=>hq c S' (s1.trans s) (Cl.cl s1 r)
@[simp] def vI:Ap
 | [À6 z]=>if z.length<=ä then ↑(ò z.length) else none
 | [y]=>(vF y).map λ ts=>ò ñ
 | _=>none
def vC Ň{Z:Õ}{y:T}ü(h:mf S Z [y] ds):∃ d,ds=[d]/\Ê0:=by
 let#[c,cs,rfl,h1,h2]:=h;cases h2;show Î7
def aE Ň{Z:Õ}{y z:T}ü(h:mf S Z [y,z] ds):∃ d e,ds=[d,e]/\Ê0/\Vw S Z z e:=by
 let#[c,cs,rfl,h1,c2,cs2,rfl,h2,h3]:=h;cases h3;show#[c,c2,rfl,h1,h2]
def J9:vR zJ vI tf:=λ S Z ys z ds Q hz hv e hq=>by
 unfold vI at e;split at e
 .ext Æ1;split at e
  .rename_i hl;cases e;cases h1.str;show#[hl,ŉ]
  .cases e
 .ext Û;exact Il h2 ?_;rw[h3.len];show ŉ
 .cases e
@[simp] def listS:Ap
 | [y]=>(vF y).map .lst
 | _=>none
def J8:vR zJ listS u_:=λ S Z ys z ds Q hz hv e hq=>by
 unfold listS at e;split at e
 .ext Û;show Ik h2 λ p hp=>hq È (Ï3) (qg hz hp h3)
 .cases e
@[simp] def qX:Ap
 | [y]=>(vF y).map Ī
 | _=>none
def Jz:vR zJ qX uY:=λ S Z ys z ds Q hz hv e hq=>by
 unfold qX at e;split at e
 .rename_i y;ext Û;have k:Q (Ī es) S:=hq _ Ï (Cl.of å (o_ h3));unfold zZ at h2;split at h2
  .cases h2;show k
  .cases h2;show k
  .split at h2
   .rename_i q;cases h2;show Ij q k
   .cases h2
  .cases h2
 .cases e
@[simp] def lW (g:Int->Int->Int):Ap
 | [ò i,ò j]=>↑(ò (g i j))
 | _=>none
def Xp {g:Int->Int->Int}:vR zJ (lW g) (uC λ i j=>ò (g i j)):=λ S Z ys z ds Q hz hv e hq=>by
 unfold lW at e;split at e
 .let#[d,d',rfl,h1,h2]:=aE hv;cases e;cases h1.int;cases h2.int;show ŉ
 .cases e
@[simp] def tN:Ap:=lW λ i j=>if j>i then j else i
@[simp] def wB:Ap:=lW λ i j=>if j<i then j else i
def qF:Ç->Â (Ŕ)
 | []=>↑[]
 | ũ::ts=>(qF ts).map (b::·)
 | _::_=>none
theorem WN:∀ À1{bs:Ŕ},qF ts=↑bs->ts=bs.map T.bl
 | [],bs,h=>by cases h;rfl
 | ũ::ts,bs,h=>by
  unfold qF at h;let#[cs,h1,rfl]:=Ax.mp h;rw[Az,<- WN h1]
 | .zj::ts,bs,h=>Ō
 | ò _::ts,bs,h=>Ō
 | À6 _::ts,bs,h=>Ō
 | Ī _::ts,bs,h=>Ō
 | .lst _::ts,bs,h=>Ō
def Gk (bs:Ŕ):qF (bs.map T.bl)=↑bs:=by
 induction bs with
 | nil=>rfl
 | cons b bs ih=>rw[Az];unfold qF;rw[ih];rfl
@[simp] def iR (g:Ŕ->Bool):Ap
 | [Ù]=>(qF ts).map λ bs=>.bl (g bs)
 | _=>none
def uD (g:Ŕ->Bool):xF:=λ ds S Q=>match ds with
 | [Ī _]=>É8
 | [d]=>ų
 | _=>É8
def JD {g:Ŕ->Bool}:vR zJ (iR g) (uD g):=λ S Z ys z ds Q hz hv e hq=>by
 unfold iR at e;split at e
 .ext Æ1;let#[bs,e1,rfl]:=Ax.mp e;cases WN e1;let#[es,h2,h3]:=h1.seq rfl;cases h3.WO;have key:ų:=#[bs,h2,Ő];obtain⟨_,q | ⟨a,q,_⟩,_⟩:=h1.lst
  .subst q;show key
  .subst q;show key
 .cases e
structure FR (S0:SS) (Z0:Õ) Ś (Y:yc) (J:Ev):Prop where
 er:ER Å
 len:Y.length=J.length
 sx:Sx S0 S
 z0:∀ a,Z0 a->S0 a≠none
 zz:∀ a,Z0 a->Z a
 zn:∀ a,Z a->Z0 a\/S0 a=none
 fr:∀ ê ts p,Ã7->ļ->S0 p=none/\adr ts p
 dj:∀ (i j:Nat) ts us p,i≠j->Ã7->J[j]?=↑↑(.own us)->ļ->Y[j]?=↑↑ À5->É8
def yE Å6{i j:Nat}{a b:α}(h:(l.set i a)[j]?=↑b):(i=j/\i<Í0/\b=a)\/(i≠j/\l[j]?=↑b):=by
 rw[CN] at h;by_cases e:i=j
 .subst e;rw[Ü rfl] at h;by_cases hl:i<Í0
  .rw[Ü hl] at h;cases h;show Ń #[rfl,hl,rfl]
  .rw[Ø hl] at h;cases h
 .rw[Ø e] at h;show .inr #[e,h]
def xM Å6{i j:Nat}{a:α}(h:i≠j):(l.set i a)[j]?=l[j]?:=by rw[CN,Ø h]
def nQ Å6{i:Nat}{a:α}(h:i<Í0):(l.set i a)[i]?=↑a:=by rw[CN,Ü rfl,Ü h]
section
variable {S0 S S':SS}{Z0 Z:Õ}{Y:yc}{J:Ev}{y:T}{ħ}
theorem FR.grow (h:à) (s:ę):FR ř S' Z Y J:=#[h.er.grow s,h.len,h.sx.trans s,h.z0,h.zz,h.zn,h.fr,h.dj]
theorem FR.qe (h:à) ê (r:Sn õ y d):FR ř S Z (Y.set i ↑d) Ş:=by
 exact á
 .ext Ã
  .cases e;show#[d,ć,r]
  .rw[xM n];show h.er.im j t e
 .ext Ã
  .cases e
  .rw[xM n];show Ê1 j ts e
 .ext Ã
  .cases e
  .rw[xM n] at e';show h.fr j ts p e e'
 .ext è
  .cases e
  ext Ď
  .cases e
  rw[xM n1] at e3;rw[xM n2] at e4;show h.dj j k ts us p Ä2
theorem FR.fY {ts:C}{ds:O}Ä9(h:à) (s:ę) ê (hp:Í2) (hd:S' p=↑ds) (r:xE Ã5 ts ds) (ha:adr ts p:=by show trivial):
  FR ř S' (λ a=>Z a\/a=p) (Y.set i ↑ À5) (J.set i ↑(.own ts)):=by
 have np:∀ (j:Nat) us q,J[j]?=↑↑(.own us)->Y[j]?=↑↑(ã q)->q≠p:=λ j us q e e' z=>by
  subst z;let#[p',ds',h1,h2,_]:=Ê1 j us e;rw[e'] at h1;cases h1;rw[hp] at h2;cases h2
 exact#[#[λ a z=>?_,λ j t e=>?_,λ j us e=>?_],Ã8,h.sx.trans s,h.z0,λ a z=>Ń (h.zz a z),λ a z=>z.elim (h.zn a) (λ q=>.inr (by subst q;show h.sx.none hp)),λ j us q e e'=>?_,Ê2]
 .rcases z with z | rfl
  .show λ q=>h.er.zd a z (s.none q)
  .rw[hd];nofun
 .ext Ã
  .cases e
  .rw[xM n];let#[d,h1,h2]:=h.er.im j t e;show#[d,h1,Sn.sx (pP s hp) t h2]
 .ext Ã
  .cases e;show#[p,ds,ć,hd,r,.inr rfl]
  .rw[xM n];let#[q,es,h1,h2,h3,h4]:=Ê1 j us e;show#[q,es,h1,s È h2,xE.sx (pP s hp) h3,Ń h4]
 .ext Ã
  .rw[ć] at e';cases e';cases e;show#[h.sx.none hp,ha]
  .rw[xM n] at e';show h.fr j us q e e'
 .ext è
  .rcases yE e2 with ⟨rfl,_,_⟩ | ⟨n2,e2⟩
   .show n rfl
   .rw[ć] at e3;cases e3;rw[xM n2] at e4;show np k vs p e2 e4 rfl
  .ext đ
   .rw[ć] at e4;cases e4;rw[xM n1] at e3;show np j us p e1 e3 rfl
   .rw[xM n1] at e3;rw[xM n2] at e4;show h.dj j k us vs q Ä2
def FR.forget (h:à) ê:FR ř S Z Y (J.set i none):=by
 exact á
 .ext Ã
  .cases e
  .show h.er.im j t e
 .ext Ã
  .cases e
  .show Ê1 j ts e
 .ext Ã
  .cases e
  .show h.fr j ts p e e'
 .ext è
  .cases e
  ext Ď
  .cases e
  show h.dj j k ts us p Ä2
@[simp] def yt (is:List Nat) (J:Ev):Ev:=is.foldl (fun J i=>J.set i none) J
theorem FR.yt:∀ (is:List Nat) {J:Ev},à->FR ř S Z Y (yt is J)
 | [],_,h=>h
 | i::is,_,h=>FR.yt is (h.forget i)
def FR.freeze À1 Ä9(h:à) ê (e:J[i]?=↑↑ Æ7) (ed:ļ):
  FR ř S (λ a=>Z a/\a≠p) Y (J.set i ↑(.im (Ù)))/\Ç4:=by
 let#[p',o,h1,h2,h3,h4]:=Ê1 i _ e;rw[ed] at h1;cases h1;obtain⟨ds,rfl⟩:∃ ds,o=ī:=by
  cases o with
  | lst ds=>show#[ds,rfl]
  | _=>show h3.elim
 replace h3:ŝ:=h3;have hS:Ç4:=by
  simp![Sn];show#[ds,.inr #[p,rfl,by rw[vz (λ z=>z.2 rfl)];show h2],Ì0 Ï6 ts h3]
 exact#[?_,hS];exact#[#[λ a z=>h.er.zd a z.1,λ j t e'=>?_,λ j us e'=>?_],Ã8,h.sx,h.z0,λ a z=>#[h.zz a z,λ q=>?_],λ a z=>h.zn a z.1,λ j us q e' ed'=>?_,Ê2]
 .ext Ò
  .cases e';show#[_,ed,hS]
  .let#[d,g1,g2]:=h.er.im j t e';show#[d,g1,Sn.sx Ï6 t g2]
 .ext Ò
  .cases e'
  .let#[q,es,g1,g2,g3,g4]:=Ê1 j us e';show#[q,es,g1,g2,xE.sx Ï6 g3,g4,λ z=>by subst z;show h.dj i j _ us q n e e' ed g1]
 .subst q;show h.z0 a z (h.fr i _ a e ed).1
 .ext Ò
  .cases e'
  .show h.fr j us q e' ed'
 .ext è
  .cases e
  ext Ď
  .cases e
  show h.dj j k us vs q Ä2
def FR.mut {ts us:C}{es:O}Ä9(h:à) ê (e:Ã7) (ed:ļ) (r:xE õ us es) (ha:adr ts p->adr us p:=by show λ _=>trivial):
  FR ř (ups S p es) Z Y (J.set i ↑(.own us)):=by
 ext Ř;have hh:zB (ups S p es) Z=zB S Z:=KH h4;let#[hpn,CG]:=ŕ;exact#[#[λ a z=>?_,λ j t e'=>?_,λ j vs e'=>?_],Ã8,Ï7,h.z0,h.zz,h.zn,λ j vs q e' ed'=>?_,λ j k vs ws q n e1 e2 e3 e4=>?_]
 .by_cases hp:a=p
  .subst hp;rw[se];nofun
  .rw[sW hp];show h.er.zd a z
 .rw[hh];ext Ò
  .cases e'
  .show h.er.im j t e'
 .rw[hh];ext Ò
  .cases e';show#[p,es,ed,se,r,h4]
  .let#[q,es',g1,g2,g3,g4]:=Ê1 j vs e';exact#[q,es',g1,?_,g3,g4];rw[sW (λ z=>by subst z;show h.dj i j ts vs q n e e' ed g1)];show g2
 .rw[sW (λ z=>by subst z;rw[hpn] at q;cases q)];show h.sx b o q
 .rcases yE e' with ⟨rfl,hl,_⟩ | ⟨n,e'⟩
  .rw[ed] at ed';cases ed';rename_i e';cases e';show#[hpn,ha CG]
  .show h.fr j vs q e' ed'
 .rcases yE e1 with ⟨rfl,hl,_⟩ | ⟨n1,e1⟩
  .ext đ
   .show n rfl
   .show h.dj _ k ts ws q n e e2 e3 e4
  .ext đ
   .show h.dj j _ vs ts q n e1 e e3 e4
   .show h.dj j k vs ws q Ä2
def eA (S0 S:SS) (Z:Õ):SS:=open Classical in λ a=>if S0 a=none/\Z a then none else S a
def j0 Ć(h:¬ (S0 a=none/\Z a)):eA S0 S Z a=S a:=Ø h
def ez Ć(h:S0 a=none/\Z a):eA S0 S Z a=none:=Ü h
def FR.rebase (h:à):∃ S1,Sx S0 S1/\FR S1 Z0 Å/\Sx õ S1:=by
 exact#[eA S0 S Z,Ï7,#[h.er,h.len,Ï7,λ a z=>?_,h.zz,λ a z=>?_,λ i ts p e ed=>?_,h.dj],Ï7]
 .rw[j0 (λ z=>by rw[z.1] at q;cases q)];show h.sx È q
 .by_cases w:S0 b=none/\Z b
  .rw[ez w] at q;cases q
  .rw[j0 w] at q;show q
 .rw[j0 (λ q=>h.z0 a z q.1)];show h.er.zd a (h.zz a z)
 .rcases h.zn a z with w | w
  .show Ń w
  .show .inr (ez #[w,z])
 .ext Ř;show#[ez #[(ŕ).1,h4],(ŕ).2]
 .ext Ŵ;rw[j0 (λ z=>q1 z.2)];show q2
def FR.back {S1:SS}(h:FR S1 Z0 Å) (s:Sx S0 S1) (z0:∀ a,Z0 a->S0 a≠none):à:=#[h.er,h.len,s.trans h.sx,z0,h.zz,λ a z=>(h.zn a z).imp id s.none,λ i ts p e ed=>#[s.none (ŕ).1,(ŕ).2],h.dj]
def FR.SA {S1:SS}{Z1:Õ}(h:à) (b:Sx (zB S1 Z1) S0) (zz:∀ a,Z0 a->Z1 a):Sx (zB S1 Z1) õ:=λ a o q=>by
 have q0:=b È q;ext Ŵ;rw[vz]
 .show h.sx È q0
 .intro z;rcases h.zn a z with w | w
  .show q1 (zz a w)
  .rw[w] at q0;cases q0
end
inductive Out where
 | nx (J:Ev) | rt (t:T) | bk (J:Ev) | ct (J:Ev)
abbrev Sm:=Ev->Â Out
def GK (R:Rk) (S0:SS) (Z0:Õ) (o:Out) (E:rV):Prop:=match o with
 | .nx J=>∀ S Z Y,à->E.nx Y S
 | .bk J=>∀ S Z Y,à->E.bk Y S
 | .ct J=>∀ S Z Y,à->E.ct Y S
 | .rt y=>∀ d S,Sx S0 S->R S0 S Z0 y d->E.rt d S
def zV (R:Rk) (g:Sm) (t:ye):Prop:=∀ S0 Z0 S Z Y J o E,à->g J=↑o->GK R ř o E->t E Y S
class Lo (R:Rk):Prop extends Cl R where
 lo:∀ {S0 S S':SS}{Z0 Z:Õ}{y:T}ħ,Sx S0 S->(∀ a,Z0 a->Z a)->Ã6->R S0 S' Z0 y d
instance:Lo xm:=#[λ _ z h=>Sn.sx (vg z) _ h]
instance:Lo zJ:=#[λ s z h=>#[Sn.sx (vg z) _ h.1,λ ts e=>by
 let#[p,ds,h1,h2,h3,h4]:=h.2 ts e;show#[p,ds,h1,s.none h2,h3,Ì0 (vg λ a q=>q.imp (z a) id) ts h4]]]
@[simp] def zm (g h:Sm):Sm:=fun J=>Ä7 λ o=>match o with
 | .nx J'=>h J'
 | o=>↑o
@[simp] def yg:Sm:=fun J=>↑(.nx J)
@[simp] def zG ê É1:Sm:=fun J=>(f J).map λ y=>.nx Ş
@[simp] def vO ê É1:Sm:=fun J=>Ħ λ y=>match y with
 | Ù=>↑(.nx (J.set i ↑ Æ7))
 | y=>↑(.nx Ş)
@[simp] def rM É1:Sm:=fun J=>(f J).map λ _=>.nx J
@[simp] def retS É1:Sm:=fun J=>(f J).map .rt
@[simp] def pk ê:Sm:=fun J=>match J[i]? with
 | some ↑ Æ7=>↑(.rt (Ù))
 | _=>none
@[simp] def yf (c:ø) (g h:Sm):Sm:=fun J=>(c J).bind λ b=>if b=true then g J else h J
@[simp] def cy ê (J:Ev):Ev:=match J[i]? with
 | some ↑ Æ7=>J.set i ↑(.im (Ù))
 | _=>J
@[simp] def cx ê (g:Sm):Sm:=fun J=>g (cy i J)
section
variable {R:Rk}{g h:Sm}{t u:ye}{f:Ad}{te:zw}
def Nd Ð6:zV R (zm g h) (pY t u):=λ S0 Z0 S Z Y J o E F e P=>by
 let#[o1,e1,e2]:=č;exact hg ř Å o1 { E with nx:=u E } F e1 ?_;cases o1 with
 | nx J1=>show λ S1 Z1 Y1 F1=>hh ř S1 Z1 Y1 J1 o E F1 e2 P
 | rt y=>cases e2;show P
 | bk y=>cases e2;show P
 | ct y=>cases e2;show P
def Nc:zV R yg cP:=λ S0 Z0 S Z Y J o E F e P=>by cases e;show P S Z Y F
def N6 ê (hf:xP f te):zV R (zG i f) (wQ te (hName i)):=λ S0 Z0 S Z Y J o E F e P=>by
 ext Â7;show hf Á5 λ d S1 s1 r1=>P S1 Z _ ((È7).qe i r1)
def N5 ê (hf:xI f te):zV R (vO i f) (wQ te (hName i)):=λ S0 Z0 S Z Y J o E F e P=>by
 ext Â1;exact hf Á5 λ d S1 s1 r1=>?_;cases y with
 | lst ts=>
  cases e2;let#[p,ds,rfl,h1,h2,h3]:=r1.2 ts rfl;show P S1 È (F.fY (ts:=Ù) (ds:=ī) s1 i h1 h2 h3)
 | _=>cases e2;show P S1 Z _ ((È7).qe i r1.1)
def N2 (hf:yD f te):zV R (rM f) (n_ te):=λ S0 Z0 S Z Y J o E F e P=>by
 ext Â7;show hf Á5 λ d S1 s1 r1=>P S1 Z _ (È7)
def Nl [Lo R] (hf:xO R f te):zV R (retS f) (pZ te):=λ S0 Z0 S Z Y J o E F e P=>by
 ext Â7;show hf Á5 λ d S1 s1 r1=>P d S1 (F.sx.trans s1) (Lo.lo F.sx F.zz r1)
def Yj ê:zV zJ (pk i) (pZ (zX i)):=λ S0 Z0 S Z Y J o E F e P=>by
 unfold pk at e;split at e
 .rename_i ts h;cases e;let#[p,ob,h1,h2,h3,h4]:=F.er.ow i _ h;obtain⟨ds,rfl⟩:∃ ds,ob=ī:=by
   cases ob with
   | lst ds=>show#[ds,rfl]
   | _=>show h3.elim
  replace h3:ŝ:=h3;have hn:=(F.fr i _ p h h1).1;have nz:¬ Z0 p:=λ z=>F.z0 p z hn;change zX i Y S E.rt;unfold zX;rw[h1];exact P _ S F.sx #[?_,λ us e=>?_]
  .simp![Sn];show#[ds,.inr #[p,rfl,by rw[vz nz];show h2],Ì0 (vg F.zz) ts h3]
  .cases e;show#[p,ds,rfl,hn,h2,Ì0 (vg λ a q=>q.elim (F.zz a) λ q=>q▸h4) ts h3]
 .cases e
def Nx {c:ø}{tc:yx}(hc:vm c tc) Ð6:zV R (yf c g h) (kB tc t u):=λ S0 Z0 S Z Y J o E F e P=>by
 ext Í7;exact hc Å b _ F.er e1 λ S1 s1=>?_;split at e2
 .ext Ä1;show hg ř Ç5 o E (È7) e2 P
 .ext Ä6;show hh ř Ç5 o E (È7) e2 P
def FR.fz {S0 S:SS}{Z0 Z:Õ}{Y:yc}{J:Ev}(F:à) ê:∃ Z',FR ř S Z' Y (cy i J):=by
 unfold cy;split
 .rename_i ts h;let#[p,ds,h1,_]:=F.er.ow i _ h;show#[_,(F.freeze i h h1).1]
 .show#[Z,F]
def Ny ê (hg:zV R g t):zV R (cx i g) t:=λ S0 Z0 S Z Y J o E F e P=>by
 let#[Z',F']:=F.fz i;show hg ř S Z' Y _ o E F' e P
def kO (g:T->ĉ) (t:xt):Prop:=∀ S0 Z0 S Z Y J J' y d Q,à->Sn õ y d->g y J=↑J'->Ê3->t d Y S Q
def gj (g:Ç->ĉ) (t:wG):Prop:=∀ S0 Z0 S Z Y J J' ys ds Q,à->zk õ ys ds->g ys J=↑J'->Ê3->t ds Y S Q
@[simp] def zy ê:T->ĉ:=λ y J=>↑ Ş
@[simp] def vd:Ç->ĉ
 | [],J=>↑J
 | _::_,_=>none
@[simp] def yj (g:T->ĉ) (h:Ç->ĉ):Ç->ĉ
 | y::ys,J=>(g y J).bind fun J'=>h ys J'
 | [],_=>none
@[simp] def w6 (n:Nat) (g:Ç->ĉ):T->ĉ
 | Ī ys,J=>if ys.length=n then g ys J else none
 | _,_=>none
def NT ê:kO (zy i) (hName i):=λ S0 Z0 S Z Y J J' y d Q F r e hq=>by cases e;show hq _ (F.qe i r)
def NQ:gj vd dW:=λ S0 Z0 S Z Y J J' ys ds Q F r e hq=>by
 cases ys with
 | nil=>simp![zk] at r;subst r;cases e;show#[rfl,hq _ F]
 | cons _ _=>cases e
def NR {g:T->ĉ}{h:Ç->ĉ}{t:xt}{u:wG}(hg:kO g t) (hh:gj h u):gj (yj g h) (dX t u):=λ S0 Z0 S Z Y J J' ys ds Q F r e hq=>by
 cases ys with
 | nil=>cases e
 | cons y ys=>
  simp![zk] at r;let#[c,cs,rfl,r1,r2]:=r;let#[J1,e1,e2]:=č;show hg ř Å J1 y c _ F r1 e1 fun Y1 F1=>hh ř S Z Y1 J1 J' ys cs Q F1 r2 e2 hq
def NS {n:Nat}{g:Ç->ĉ}{t:wG}(hg:gj g t):kO (w6 n g) (pQ n t):=λ S0 Z0 S Z Y J J' y d Q F r e hq=>by
 cases y with
 | tup ys=>
  simp![Sn] at r;let#[ds,rfl,r]:=r;simp![w6] at e;split at e
  .rename_i hl;show#[by rw[r.len];show hl,hg ř Å J' ys ds Q F r e hq]
  .cases e
 | _=>cases e
@[simp] def mT É1 (g:T->ĉ):Sm:=fun J=>Ħ λ y=>(g y J).map .nx
def Nb {g:T->ĉ}{tg:xt}(hf:xP f te) (hg:kO g tg):zV R (mT f g) (wQ te tg):=λ S0 Z0 S Z Y J o E F e P=>by
 ext Â1;let#[J',e3,rfl]:=Ax.mp e2;show hf Á5 λ d S1 s1 r1=>hg ř Ç5 J' y d _ (È7) r1 e3 fun Y' F'=>P S1 Z Y' F'
def rQ (free:Bool) (f:é) (ti:wV):Prop:=∀ S Z Y J ts Q,ER Å->f J=↑ts->(∀ I S',ę->zk È5 ts I.items->(∀ S'',Sx (if free=true then zB S' Z else S') S''->I.keep S'')->Q I S')->ti Y S Q
@[simp] def xJ É1:é:=fun J=>Ħ vF
def NI {f:Ad}{te:zw}(hf:yD f te):rQ æ (xJ f) (dG te):=λ S Z Y J ts Q hE e hq=>by
 ext Â1;exact hf Å y Ó;cases y with
 | tup us=>
  cases e2;let#[ds,rfl,h2]:=Vw.tup r1;show ğ
 | lst us=>
  cases e2;ext ŵ
  .show ğ
  .ext ſ;rw[h1];show Ä8
 | _=>cases e2
def NJ {f:Ad}{te:zw}(hf:xP f te):rQ true (xJ f) (dG te):=λ S Z Y J ts Q hE e hq=>by
 ext Â1;exact hf Å y Ó;cases y with
 | tup us=>
  cases e2;let#[ds,rfl,h2]:=Vw.tup (Ń r1);show ğ
 | lst us=>
  cases e2;have r2:=r1;unfold xm at r2;simp![Sn] at r2;obtain⟨ds,⟨rfl,_⟩ | ⟨a,rfl,h1⟩,h2⟩:=r2
  .show ğ
  .ext ſ;rw[(tQ h1).2];show Ä8
 | _=>cases e2
def rangeT (lo:Int) (n:Nat):Ç:=(É5 n).map λ(k:Nat)=>T.int (lo+(k:Int))
def Zd Ň(lo:Int) (n:Nat):zk S (rangeT lo n) (uz lo n):=by
 unfold rangeT uz
 induction É5 n with
 | nil=>show š
 | cons k l ih=>show Ē wx ih
def inR (j:Int):Bool:=ŷ (-100000000<=j)&&ŷ (j<=100000000)
def Xi {j:Int}:inR j=true↔-100000000<=j/\j<=100000000:=by simp[inR]
def K6 {j:Int}(h:inR j=true):-(2 ^ 62)<=j/\j<2 ^ 62:=by have:=Xi.mp h;lia
def ua:Ç->Â (Ç)
 | [ò j]=>if inR j=true then ↑(rangeT 0 j.toNat) else none
 | _=>none
@[simp] def xU (F:Ç->Â (Ç)) (g:é):é:=fun J=>Ä7 F
def NL Í5{g:é}{tA:zY}(h:qN g tA):rQ b (xU ua g) (dH tA):=λ S Z Y J ts Q hE e hq=>by
 let#[ys,e1,e2]:=č;exact h Å ys Ð5 λ ds S1 s1 r1=>?_;unfold ua at e2;split at e2
 .split at e2
  .rename_i hc;cases e2;let#[d,rfl,h1]:=vC r1;cases h1.int;show#[K6 hc,hq _ S1 s1 (Zd È) λ _ _=>trivial]
  .cases e2
 .cases e2
)
example:=`(
example À:=s.heap.objs.size
example Ć _:=x prog w
example Á:=(rk Ć).hash
example Ĕ:=SetTable
example ı:=Value
example ū:=Array
example Þ:=ū (Int× ı)
example Â{es:Þ}{ep:Nat}{t:Ĕ}:=0
example Ã:=Option
example Ä:=List Int
example Å:=w.params.followText "set-order"
example ī:=Int×Int
example Æ:=List (ī)
example Ç _:=x (model Ć) A
example È:=yb M h n
example É:=t.place.toList
example Ĭ:=below
example Ø:=t.place
example Ź:=Ĭ Ø j
example Ê:=insertAt Ø (Ź) j
example ő:=(yG X N' scope cl C s H fp)
example ů(hc:X.calm=true):=0
example Ë(Sc:rX X N' pick scope) ů (hi:tE X tg iter ti) (hg:∀ cl C s H fp,uo ő tg g) (hf:∀ cl C s H fp,mq ő ifs tcc) (he:∀ cl C s H fp,PD ő elt te):=0
example ø:=by dsimp only
example Ę:=(Ae ?_)
example Ì:=by exact gV (wpAny_attempt (zaG (name:=Str.ofString "__next__") (pN ho) nc (zaC nc (pN ho) XO ?_ (Vi _))));exact gV Ę;ext ø;exact gV (wpAny_fieldsOf ho rfl ?_);dsimp only[rawInt];exact gV (gV (zaB S.get rfl S.fits Ę))
example Í:=owner
example È5:=Value.ref
example Î:=insertAt es p (Á key,È5 b)
example Ï(EY:∀ (Af:ı) (A:Around) (outer:List Env) (s:Shared) (H:Hp) (E:XK),ya k (A.deeper (envOfC x (zH st) À f Af))-> ∃ t,xG (xg yM P w K mg base N x (zH st) f Af A outer s H E).xA (yN st) t/\zV R g t):=0
example đ{prog:Program}{w:World}:=0
example Ð đ{A:Around}{E:Aj}{s:Shared}:=0
example Ñ:=t.mask
example þ _:=x _ _
example ü:=wpAny
example Ò:=by exact gV ?_;change ü þ (forIn items þ) þ s;rw[<- Array.forIn_toList];exact wpAny_forIn_list _ (λ EX r s'=>r.1=none/\s'=s/\∀ v∈EX,∃ n t,v=.int n t) _ ?_ ?_ þ #[rfl,rfl,items_int hi]
example Ó:=xs.length
example Ô:=(intKind Ć)
example Õ:=List (Key×T)
example Ö _:=x (g:=mQ X.K g) (tc:=wI X.K tcc) (te:=zL X.K te) Sc hc hi.pi (λ cl C s H fp=>(hg cl C s H fp).pg) (λ cl C s H fp=>(hf cl C s H fp).pf) (λ cl C s H fp=>(he cl C s H fp).pe)
example Ù{t:Ĕ}{hs:Ä}(T:Tab t hs):=0
example Ħ:=xs.map
example Į:=(·.1)
example Ú:=Ħ Į
example Û:=s.heap.push
example Ü:=Shared->Prop
example Ý:=if_neg
example ŉ:=.inl
example ß _:=x (by rw[typeLookup_type,builtinLookup_eq_fast];kernel_rfl) (AU) (AU) (AU) (by first | show ŉ (AU) | show .inr (AU)) (by rw[isSubtype_type];kernel_rfl)
example Ã2:=List (Ã Nat)
example ú:=T->Ev->Ã Ev
example Ĵ:=List T
example Ş:=Ev->Ã (Ĵ)
example ć:=List α
example Á9:=Ev->Ã Bool
example à{pick:Ã2}{it:Ş}{g:ú}{c:Á9}{f:Ad}{J:Ev}(xs:ć) (hi:it J=↑(Ħ enc)) (hl:Ó<=16777216):=0
example á:=by .rintro⟨r1,r2⟩ s' ⟨hr,rfl,_⟩;simp only at hr;subst hr;show Ae h
example Ă:=s.heap
example ĳ _:=x es ep t
example â(S:v9 w Ă a ĳ):=0
example Ŋ:=codeAny_builtin
example Ň:=Around.under_plainId
example ê:=.ref
example ã:=by exact Ŋ F.entry_set_update_loop ?_;rw[Ň F.plain_set_update_loop _];change ü _ A.in1 (pyNext (ê I) >>= _) þ s
example ä:=es.size
example å:=.type "set"
example ď:=s.heap.get?
example æ:=∀ b o,b<À->ď b=↑o->h'.get? b=↑o
example ç:=ū (Ã Nat)
example è(M:Nat):=0
example é:=way M h k
example ë:=by let#[p,b,h1,h2,h3]:=jB hE h;change zX i Y S _;unfold zX;rw[h1]
example ì:=comes w a es ep
example í:=by let#[h',g',d',tk',os']:=s';obtain rfl:g'=s.gens:=hm.gens;obtain rfl:d'=s.drawn:=hm.drawn;obtain rfl:os'=s.os:=hm.os
example î:=if_pos
example ï(i:Nat):=0
example ð:=(lives M Í).map
example ñ{a:Õ}{b:List (Key×D)}:=0
example ò:=I.items.length
example ó:=Array.getElem?_eq_some_iff.mp
example ô:=h.get? a=↑{ cls:=å,dict:=none,data:=.set ĳ }
example õ{α:Type}:=0
example ö:=(Á key)
example Ç3:=AJ _ rfl
example ù _:=x _ [] ⋯ (AZ _) #[#[_,Ç3,rfl,rfl],hl1.push _] ?_ ?_ #[λ e he=>(by cases he),λ j r hj=>⋯] ?_
example ł:=bits h
example Ď:=(M+1)
example û:=layClean.free M Í (turns M) (ł%Ď) (ł)
example ý:=È5 e.2
example ÿ:=List.range
example Ā:=(.ListComp elt [#[tg,iter,ifs,0]] scope pos)
example ā:=(È).1
example ă:=Ħ λ e=>Á e.1
example Ą{a:Addr}:=0
example ą:=order.filterMap (es[·]?)
example Ĉ(h:Int):=0
example ĉ:=IsTupleKey
example Ċ:=by have:=congrArg List.length X.es;exists this
example ĸ:=by kernel_rfl
example ċ _:=x (o:=['r','o','t','a','r','e','t','i','_','t','e','s']) (ĸ) ZZ
example Č(hh:A.handled=none):=0
example č:=false
example Đ:=List (Ä ×Addr)
example Ē:=by simp![CS,Bs,if_false]
example ē:=g y J=↑J'-> (∀ Y',ER S Z Y' J'->ot B Y'->Y'.length=J'.length->Q Y' S)->t d Y S Q
example ĕ:=λ kv=>decide (kv.1=k)
example Ė _:=x S Z Y J
example ė:=xs.size
example ę:=by let#[y',h1,h2]:=jr e;cases h2
example Ě:=by repeat (any_goals (first | assumption | wp_step))
example ě:=sizeLine
example Ĝ(pick:Ã2):=0
example ĝ _:=x (prog:=prog) (w:=w)
example Ğ{Z:Addr->Prop}{Y:yc}{J:Ev}:=0
example ğ:=Í[j]?=↑↑k
example Ġ:=owner.setIfInBounds j ↑m
example ġ:=by let#[#[slot,h1,h2],S]:=st
example Ģ:=t.place.size
example ģ:=hs.length
example Ĥ(hM:uq M):=0
example ĥ:=∀ J,I p J->∃ J',turn g b (enc x) J=↑(.nx J')/\I (p++[x]) (yt is J')
example ħ:=runEnd
example Ű:=List Str
example Ĩ{R:Rk} [Lo R] {x:Str}{st:Stmt}{N ps:Ű}{k n:Nat}{g:Sm}(F:vS K x x st f fd):=0
example ĩ:=∃ (i:Nat) (e:Ä ×Addr),Ø[i]?=↑(way Ñ ö m).j/\xs[i]?=↑e/\e.1≠key
example Ī:=Heap.SameBut.update
example ű(w:World):=0
example ĭ(prog:Program) ű:=0
example į _:=x e1 λ d S1 s1 r1=>?_
example İ:=some ↑(.own (.zW Aa))
example Ĳ:=by simp![Bs,if_false]
example ĵ:=by cases h
example Ķ:=(È).2
example ķ:=t.put j
example Ĺ:=(Û L0).objs.size
example ĺ(ps:Æ):=0
example Ļ{Q:Bool->Ü}:=0
example ļ _:=x hi.mo (hg [] 0 s H []).mo (hf [] 0 s H []).mo (he [] 0 s H []).mo
example Ľ _:=x val Ab ks
example ľ:=(tU pick ti g tcc te)
example Ŀ:=ys.length
example ŀ:=List (κ × β)
example À1:=(vq w)
example Ł:=(Û À1).objs.size
example Ń:=Al.mp e
example ń:=by rintro v EX r s' ⟨hr,rfl,AN⟩
example Ņ:=(ps.map ux)
example ņ:=Option.none
example ň:=h.get? b=↑o->h'.get? b=↑o
example ŋ:=gV (zaB S.get rfl S.fits ?_)
example Ō:=List Nat
example ō:=(i+1)
example Ŏ:=by have hT:=hk.typeIs;let#[o,items,n,ho,_,hd,hi]:=hk
example ŏ:=by unfold SetTable.tooFull at this;rw[hfill,Cc] at this;exists this
example Ő:=key∈ Ú/\E8=xs\/key∉ Ú/\E8.Perm (xs++[(key,b)])
example Œ _:=x Q E s
example œ:=∃ k,(way Ñ h k).j=j/\∀ k'<k,(way Ñ h k').j∈ É
example Ŕ{h:Heap}{es:Þ}{t:Ĕ}{xs:Đ}(X:qS ĝ h es t xs):=0
example ŕ:=(f J).bind
example Ŗ:=by cases h;rfl
example ŗ:=PySem.SetTable
example Â4{ds:List D}:=0
example É5{S:SS}:=0
example Ř Â4 É5{Q:DK}(hs:zQ R (zR N n g) ds S Q):=0
example ř:=by let#[Z,ys,y,hz,r,e,hq]:=hs;unfold zR at e;split at e
example Ś:=(r.getD 0 0,r.getD 1 0)
example ś:=gV (zaB ho rfl X.fits ?_)
example Ŝ:=Ħ λ e=>(V.ref e.2,e.1)
example ŝ(a:Addr) (es:Þ) (ep:Nat):=0
example ş:=(uP pick Y)
example Š:=Am.mp
example š:=Ab[i]?=↑v
example Ţ(enc:α->T):=0
example ţ(hs:∀ x,foldedSetIterable iter X.env x=pure x):=0
example Ť:=List (Ä)
example ť(hr:tY xs.toList):=0
example Ŧ:=by have:=(kG w a es ep).length_eq
example ŧ:=(s1.trans s2)
example Ũ{t:T}{d:D}(r:Sn S t d):=0
example ũ:=.lst
example Ū:=#[p,Au,A4 _,A4 _]
example Ŭ:=(show 0<M+1 by lia)
example ŭ:=xs.take p
example Ů:=t.place.getD i 0
example Ų(hl:s.heap.IsList l Ab\/s.heap.IsTuple l Ab):=0
example È8:=(ê À)
example ų:=(æ)->Q È8 { s with heap:=h',toks:=tk }
example Ŵ:=by let#[e,he,rfl]:=Aw.mp hx
example ŵ:=(∀ i:Nat,pick[i]?=↑none->B[i]?=↑none)
example Ŷ:=(·.2)
example ŷ:=PyProof.Rows
example Ÿ:=Ĭ xs j
example ź:=owner.size
example Ż:=L.size
example ż:=(ķ).1={ t with place:=insertAt Ø (ķ).2 j }
example Ž:=(ð Į).toArray.toList
example ž:=λ u hu=>AN u (Ay _ hu)
example ſ:=Heap.SameBut
example À0:=Obj.putSet
example À2:=Å=č->slot=slotAt t i
example À3{i:Nat}:=0
example À4:=xy is g b ys J2
example À5:=(way Ñ h k1).j
example À6(Aa:Õ) (k:Key):=0
example À7:=by unfold ħ;split <;> lia
example À8:=by rcases yE e with ⟨rfl,hl',e⟩ | ⟨n,e⟩
example À9 _:=x (A:=A.in1.in1.in1) (by simp[hh]) _ l hneI Ab
example Á0:=below.go xs j f lo hi
example Á1:=#[es,ep,t,ho,X,BM,Ao,AX]
example Á2:=by have:lo=hi:=⋯;subst this;show#[h3,h4,h5]
example Ç6:=by simp![zf] at r
example Á3:=by ext Ç6;let#[a,xs,rfl,_]:=r;rfl
example Á4(Sc:we N ps (zH st)) (hn:n=ps.length):=0
example Á5(hashes:ū Int) (hl:hashes.size<=M+1):=0
example Á6(val:κ->β->ı) (Ab:AB) (ks:List κ):=0
example Á7{f:Ad}{te:zw}:=0
example Á8:=λ S3 Z3 Y3 F3=>#[Z3,J2,F3,e']
example Â0:=by unfold SetTable.fill;rw[p3.qB,p3.len];simp;lia
example Â1:=by rcases X.tab.mask with e | e | e <;> lia
example Â2:=(Ê).toList
example Â3:=(sb.2 c (λ z=>hc (z▸Au))).trans e
example Â5 _:=x a (ê b) ö true fuel
example Â6:=λ kv=>if kv.1=k then (kv.1,d) else kv
example Ç1:=probe.go
example Â7:=Ç1 t hashAt h f (way Ñ h k)
example Â8:=order.toList.filterMap λ k=>xs[k]?
example Â9:=(yt is J)
example Ã0:=(zB S Z)
example Ã1:=(λ b o hb q=>by rw[sW hb];show q)
example Ã3:=((x2.trans x3).trans a2).trans x5
example Ã4:=xs.drop p
example Ã5:=(Á e.1,ý)
example Ã6:=setSearchFrom
example Ã7:=maxHeartbeats
example Ã8:=plainId_quiet
example Ã9:=(ì).toList.map Ŷ
example Ä0:=(Obj.mapSeq (·.push Value.none))
example Ä1(hu:A.units<cLine):=0
example Ä2(h':Heap) (tk:Nat):=0
example Ä3:=xy is g b (Ħ enc) J=↑(.nx J')
example Ä4:=Y.length=J.length
example Ä5:=by exists hi
example Ä6:=Ab.toArray
example Ä7:=[].toArray
example Ä8:=owner.getD
example Ä9:=#[λ e he=>?_,λ j r hj CB=>?_]
example Å0(he:AE X e es) (Ao:AL X pos es):=0
example Å1:=by rw[AG] at hg;let#[e,e1,e2]:=Ax.mp hg
example Å2(ho:ď I=↑(qq a slot i n ep)):=0
example Å3:=(λ _=>nofun)
example Å4:=by simp;lia
example Å5:=yH.mpr #[q,Au,A4 _,A4 _]
example Å6:=#[v,hv,by simp[vL];lia]
example Å7:=Classical.em
example Å8:=E5.length_eq
example Å9:=wpAny_storeSet_of ho rfl ?_ BU
example Æ0:=by rintro⟨v,hv,hg⟩;have:=hl v hv
example Æ1:=∃ (e:Nat),e<=M/\Í[e]?=↑ ņ
example Æ2:=#[[å,a],[]]
example Æ3(h:T->Ã (Ã T)):=0
example Æ4:=by exact gV (zaB ho hd X.fits ?_);ext ø
example Æ5 _:=x D ?_ (λ _ _ q=>q) hn Ab.size 0 ù
example Æ6:=List.drop_eq_getElem_cons Av
example Æ7:=yd S a b
example Æ8:=Ý (by rw[T.qB];simp[has])
example Æ9:=ħ M i-i
example Ç0:=((é).i*5+1+(é).perturb/32)
example Ç2:=∀ q'<q,qO Í (way M h q').j
example Ç4:=by let#[x,e1,e2]:=Ń
example Ç5:=by constructor
example Ç7(h:i<ė):=0
example Ç8:=by rcases Š hm with q | q
example Ç9:=Option.map_some
example È0:=(by simp![zf])
example È1:=t.plain
example È2:=λ k=>hashes.toList.getD k 0
example È3:=(ê a)
example È4:=∃ k c,v=ê c/\ĉ Ô Ă k c
example È6:=unsupported
example È7:=AI.mp q
example È9:=ü Ç (call (å) [ê l]) Œ
example É0:=v9 w h a ĳ
example É1:=slotAt t ō
example É2:=Builtin.List.listLengthHint
example É3:=Builtin.List.listExtendWith
example É4:=(za7 þ (Ne.symm hb)).trans
example É6{xs:ć}:=0
example É7(k j:Key) (d:T):=0
example É8{xs:ū Nat}:=0
example É9{j:Nat}:=0
example Ê0(L:Lay M hs Í m) (hm:m<=M):=0
example Ê1{M:Nat}:=0
def xy (is:Ō) (g:ú) (b:Sm):Ĵ->Ev->Ã Out
 | [],J=>↑(.nx Â9)
 | y::ys,J=>(g y Â9).bind fun J1=>(b J1).bind λ o=>match o with
  | .nx J2=>À4
  | .ct J2=>À4
  | .bk J2=>↑(.nx (yt is J2))
  | .rt t=>↑(.rt t)
@[simp] def xY (is:Ō) (f:Ş) (g:ú) (b:Sm):Sm:=fun J=>ŕ λ ts=>xy is g b ts J
def Nz {is:Ō}{fi:Ş}{ti:wV}{g:ú}{tg:xt}{b:Sm}{tb:ye} [Lo R] (hi:rQ true fi ti) (hg:kO g tg) (hb:zV R b tb):zV R (xY is fi g b) (kD ti tg tb):=λ S0 Z0 S Z Y J o E F e P=>by
 let#[ts,e1,e2]:=Ń;exact hi Ė ts _ F.er e1 λ I S1 s1 r1 hk=>?_;rw[î rfl] at hk;let#[SB,b1,FB,b2]:=(F.grow s1).rebase;have lo:∀ S' d y,R SB S' Z0 y d->R S0 S' Z0 y d:=λ S' d y r=>Lo.lo b1 (λ _ z=>z) r;have zz:=F.zz;exact#[λ i Y' S'=>∃ Z' J',FR SB Z0 S' Z' Y' J'/\xy is g b (ts.drop i) J'=↑o,#[Z,J,FB,e2],λ i Y' S' #[Z',J',F',_]=>hk S' (b2.trans F'.sx),λ i d Y' S' hd #[Z',J',F',e']=>?_,fun Y' S' #[Z',J',F',e']=>?_]
 .let#[y,hy,r2]:=r1.cu hd;have Av:=(AQ.mp hy).1;have D0:ts.drop i=y::ts.drop ō:=by
   rw[Æ6,(AQ.mp hy).2]
  rw[D0] at e';unfold xy at e';let#[J1,g1,e']:=Al.mp e';let#[o1,g2,e']:=Al.mp e';exact hg SB Z0 S' Z' Y' _ J1 y d _ (F'.yt is) (Sn.sx (F'.SA b2 zz) y r2) g1 fun Y2 F2=>?_
  exact hb SB Z0 S' Z' Y2 J1 o1 _ F2 g2 ?_;cases o1 with
  | nx J2=>show Á8
  | ct J2=>show Á8
  | bk J2=>cases e';show λ S3 Z3 Y3 F3=>P S3 Z3 Y3 ((F3.yt is).back b1 F.z0)
  | rt y=>cases e';show λ d S3 s3 r3=>P d S3 (b1.trans s3) (lo þ _ r3)
 .rw[show ò=ts.length from r1.len,List.drop_length] at e';unfold xy at e';cases e';show P S' Z' Y' ((F'.yt is).back b1 F.z0)
end
@[simp] def vj ï (f:Ad):Sm:=fun J=>match J[i]? with
 | some ↑(.own (ũ ts))=>ŕ λ y=>if ts.length<ě then ↑(.nx (J.set i ↑(.own (ũ (ts++[y]))))) else none
 | _=>none
section
variable {R:Rk}{Á7}
def N7 ï (hf:xP f te):zV R (vj i f) (n_ (qE (zX i) te)):=λ S0 Z0 S Z Y J o E F e P=>by
 unfold vj at e;split at e
 .rename_i ts h;let#[y,e1,e2]:=Ń;split at e2
  .rename_i hl;cases e2;let#[p,ob,h1,h2,h3,h4]:=F.er.ow i _ h;obtain⟨ds,rfl⟩:∃ ds,ob=ũ ds:=by
    cases ob with
    | lst ds=>show#[ds,rfl]
    | _=>show h3.elim
   replace h3:zk Ã0 ts ds:=h3;change qE (zX i) te Y S _;unfold qE zX;rw[h1];exact#[#[ds,h2],hf Ė y _ F.er į];ext ø;rw[s1 þ h2];have F1:=F.grow s1;exact#[by rw[h3.len];show hl,P _ Z Y (F1.mut (us:=ũ (ts++[y])) (es:=ũ (ds++[d])) i h h1 ((zk.sx (xW s1) ts h3).append (.cons r1 .nil)))]
  .cases e2
 .cases e
end
def tU Ĝ (ti:wV) (g:xt) (tc:yx) (te:zw):zw:=fun Y S Q=>ti Y S λ I S1=>ò<=ě/\(∀ S,Sx S1 S->I.keep S)/\∀ p,S1 p=none->∃ W:Nat->SS->List D->Prop,W 0 S1 []/\
 (∀ i S S' acc,(∀ b o,b≠p->S b=↑o->S' b=↑o)->W i S acc->W i S' acc)/\
 (∀ i d S acc,I.items[i]?=↑d->Sx S1 S->S p=↑(ũ acc)->W i S acc->g d ş S fun Y2 S2=>ot ş Y2/\tc Y2 S2 λ b S3=>if b=true then te Y2 S3 λ y S4=>Sx S S4/\W ō S4 (acc++[y]) else Sx S S3/\W ō S3 acc)/\
 ∀ S2 acc,Sx S1 S2->S2 p=↑(ũ acc)->W ò S2 acc->Q (ê p) S2
@[simp] def p7 Ĝ (J:Ev):Ev:=pick.map λ o=>o.bind λ i=>(J[i]?).join
def p_ Æ3:Ĵ->Ã (Ĵ)
 | []=>↑[]
 | y::ys=>(h y).bind λ o=>(p_ h ys).map λ zs=>match o with
  | some z=>z::zs
  | none=>zs
@[simp] def qp Ĝ (g:ú) (c:Á9) (f:Ad) (J:Ev) (y:T):Ã (Ã T):=
 (g y (p7 pick J)).bind fun J2=>(c J2).bind λ b=>if b=true then (f J2).map some else ↑none
def wK Ĝ (it:Ş) (g:ú) (c:Á9) (f:Ad):Ad:=fun J=>(it J).bind λ ts=>if ts.length<=ě then (p_ (qp pick g c f J) ts).map ũ else none
@[simp] def sJ:Á9:=λ _=>↑true
def Mj:vm sJ XT:=λ S Z Y J y Q hE e hq=>by cases e;show hq S (.refl S)
def gm Ĝ (g:ú) (t:xt):Prop:=∀ B S Z Y J J' y d Q,ŵ->ot B Y->Ä4->ER Ė->Sn Ã0 y d->ē
def gk Ĝ (g:Ĵ->Ev->Ã Ev) (t:wG):Prop:=∀ B S Z Y J J' y d Q,ŵ->ot B Y->Ä4->ER Ė->zk Ã0 y d->ē
theorem ER.qe É5 Ğ{y:T}{d:D}(h:ER Ė) (hl:Ä4) ï (r:Sn Ã0 y d):ER S Z (Y.set i ↑d) (J.set i ↑(.im y)):=by
 exact#[h.zd,λ j t e=>?_,λ j ts e=>?_]
 .ext À8
  .cases e;show#[d,nQ (by rw[hl];show hl'),r]
  .rw[xM n];show h.im j t e
 .ext À8
  .cases e
  .rw[xM n];show h.ow j ts e
variable {pick:Ã2}
theorem NZ ï (hi:pick[i]?=↑none:=by rfl):gm pick (zy i) (hName i):=λ B S Z Y J J' y d Q hB hs hl hE r e hq=>by
 cases e;exact hq _ (hE.qe hl i r) #[by rw[CA];show hs.1,λ j c q=>?_] (by simp[hl]);by_cases hj:i=j
 .subst hj;rw[hB i hi] at q;cases q
 .rw[xM hj];show hs.2 j c q
def NW:gk pick vd dW:=λ B S Z Y J J' y d Q hB hs hl hE r e hq=>by
 cases y with
 | nil=>simp![zk] at r;subst r;cases e;show#[rfl,hq _ hE hs hl]
 | cons _ _=>cases e
def NX {g:ú}{h:Ĵ->Ev->Ã Ev}{t:xt}{u:wG}(hg:gm pick g t) (hh:gk pick h u):gk pick (yj g h) (dX t u):=λ B S Z Y J J' y d Q hB hs hl hE r e hq=>by
 cases y with
 | nil=>cases e
 | cons y ys=>
  simp![zk] at r;let#[c,cs,rfl,r1,r2]:=r;let#[J1,e1,e2]:=Ń;show hg B Ė J1 y c _ hB hs hl hE r1 e1 fun Y1 E1 s1 l1=>hh B S Z Y1 J1 J' ys cs Q hB s1 l1 E1 r2 e2 hq
def NY {n:Nat}{g:Ĵ->Ev->Ã Ev}{t:wG}(hg:gk pick g t):gm pick (w6 n g) (pQ n t):=λ B S Z Y J J' y d Q hB hs hl hE r e hq=>by
 cases y with
 | tup ys=>
  simp![Sn] at r;let#[ds,rfl,r]:=r;simp![w6] at e;split at e
  .rename_i hn;show#[by rw[r.len];show hn,hg B Ė J' ys ds Q hB hs hl hE r e hq]
  .cases e
 | _=>cases e
def ZK {J:Ev}À3{w:W}(h:(p7 pick J)[i]?=↑↑w):∃ j:Nat,pick[i]?=↑↑j/\J[j]?=↑↑w:=by
 unfold p7 at h;rw[AG] at h;cases q:pick[i]? with
 | none=>rw[q] at h;cases h
 | some o=>
  rw[q] at h;cases o with
  | none=>simp at h
  | some j=>
   simp![Ç9,Ba,Option.some.injEq] at h;exact#[j,rfl,?_];cases q2:J[j]? with
   | none=>rw[q2] at h;cases h
   | some o2=>rw[q2] at h;simp![Option.join_some] at h;rw[h]
def ZL {Y:yc}{i j:Nat}{d:D}(h:pick[i]?=↑↑j) (h':Y[j]?=↑↑d):ş[i]?=↑↑d:=by
 unfold uP;rw[AG,h];simp[h']
def ER.RD É5 Ğ(h:ER Ė):ER S Z ş (p7 pick J):=by
 exact#[h.zd,λ i t e=>?_,λ i ts e=>?_]
 .let#[j,h1,h2]:=ZK e;let#[d,h3,h4]:=h.im j t h2;show#[d,ZL h1 h3,h4]
 .let#[j,h1,h2]:=ZK e;let#[p,ds,h3,h4]:=h.ow j ts h2;show#[p,ds,ZL h1 h3,h4]
def ER.hide {S S':SS}Ğ{p:Addr}(h:ER Ė) (s:Sx S S') (hp:S p=none) (hp':S' p≠none):ER S' (λ a=>Z a\/a=p) Y J:=by
 exact#[λ a z q=>?_,λ i t e=>?_,λ i ts e=>?_]
 .rcases z with z | rfl
  .show h.zd a z (s.none q)
  .show hp' q
 .let#[d,h1,h2]:=h.im i t e;show#[d,h1,Sn.sx (pP s hp) t h2]
 .let#[q,ds,h1,h2,h3,h4]:=h.ow i ts e;show#[q,ds,h1,s þ h2,xE.sx (pP s hp) h3,ŉ h4]
def Mw {it:Ş}{ti:wV}{g:ú}{tg:xt}{c:Á9}{tc:yx}Á7{b:Bool}(hi:rQ b it ti) (hg:gm pick g tg) (hc:vm c tc) (hf:xP f te):
  xI (wK pick it g c f) (tU pick ti tg tc te):=λ S Z Y J y Q hE e hq=>by
 let#[ts,e1,e2]:=Ń;split at e2
 case isFalse=>cases e2
 rename_i hlen;let#[zs,e3,rfl]:=Ax.mp e2;exact hi Ė ts _ hE e1 λ I S1 s1 r1 hk=>#[by rw[r1.len];show hlen,λ S' s'=>hk S' ?_,λ p hp=>?_]
 .cases b
  .show s'
  .show (nN þ).trans s'
 have E1:=hE.grow s1;have nz:¬ Z p:=λ z=>E1.zd p z hp;exact#[λ i S' acc=>∃ us ws,zk (zB S' λ a=>Z a\/a=p) us acc/\p_ (qp pick g c f J) (ts.drop i)=↑ws/\zs=us++ws,#[[],zs,.nil,e3,rfl],λ i S' S'' acc hh #[us,ws,h1,h2]=>#[us,ws,zk.sx (λ a o q=>?_) us h1,h2],λ i d S2 acc hd s2 A0 #[us,ws,h1,h2,h3]=>?_,λ S2 acc s2 A0 #[us,ws,h1,h2,h3]=>?_]
 .let#[q1,q2]:=tQ q;rw[vz q1];show hh a o (λ z=>q1 (.inr z)) q2
 .let#[x,hx,rx]:=r1.cu hd;have Av:=(AQ.mp hx).1;have D0:ts.drop i=x::ts.drop ō:=by rw[Æ6,(AQ.mp hx).2]
  rw[D0] at h2;unfold p_ at h2;let#[o,o1,h2]:=Al.mp h2;let#[ws',o2,rfl]:=Ax.mp h2;have E2:=(E1.hide s2 hp (by rw[A0];nofun)).RD (pick:=pick);unfold qp at o1;let#[J2,g1,o1]:=Al.mp o1;let#[bb,g2,o1]:=Al.mp o1;exact hg ş S2 þ _ J2 x d _ (λ j hj=>?_) #[rfl,λ _ _ q=>q] (by unfold uP p7;simp) E2 (Sn.sx (pP s2 hp) x rx) g1 fun Y2 E3 l3 _=>#[l3,?_]
  .unfold uP;rw[AG,hj];rfl
  exact hc S2 _ Y2 J2 bb _ E3 g2 λ S3 s3=>?_;split at o1
  .rename_i hb;rw[î hb];let#[z,g3,rfl]:=Ax.mp o1;exact hf S3 _ Y2 J2 z _ (E3.grow s3) g3 λ dz S4 s4 r4=>#[s3.trans s4,us++[z],ws',?_,o2,by rw[h3];simp];show (zk.sx (xW (s3.trans s4)) us h1).append (.cons r4 .nil)
  .rename_i hb;rw[Ý hb];cases o1;show#[s3,us,ws',zk.sx (xW s3) us h1,o2,h3]
 .rw[show ò=ts.length from r1.len,List.drop_length] at h2;cases h2;rw[BR] at h3;subst h3;exact hq _ S2 ŧ #[?_,λ vs e=>?_]
  .simp![Sn];show#[acc,.inr #[p,rfl,by rw[vz nz];show A0],zk.sx (vg λ a z=>ŉ z) zs h1]
  .cases e;show#[p,acc,rfl,s1.none hp,A0,h1]
class Sr (R:Rk):Prop extends Lo R where
 sn:∀ {S S':SS}{Z:Addr->Prop}{y:T}{d:D},R S S' Z y d->Sn (zB S' Z) y d
instance:Sr xm:=#[λ h=>h]
instance:Sr zJ:=#[λ h=>h.1]
def zQ (R:Rk) (F:Ap):yZ:=λ ds S Q=>∃ Z ys y,(∀ a,Z a->S a≠none)/\zk Ã0 ys ds/\F ys=↑y/\∀ d S',Sx S S'->R S S' Z y d->Q d S'
def zQ.mo {R:Rk}{F:Ap}:tG (zQ R F):=λ _ _ _ _ hq #[Z,ys,y,h1,h2,h3,h4]=>#[Z,ys,y,h1,h2,h3,λ d S' s r=>hq þ (h4 d S' s r)]
def eQ {R:Rk} [Lo R] {F:Ap}{g:Ş}{u:zY}(h:vP g u):xO R (zv F g) (kE (zQ R F) u):=λ S Z Y J y Q hE e hq=>by
 let#[xs,e1,e2]:=Ń;exact h Ė xs _ hE e1 λ ds S1 s1 r1=>?_;show#[Z,xs,y,(hE.grow s1).zd,r1,e2,λ d S' s r=>hq d S' (s1.trans s) (Cl.cl s1 r)]
@[simp] def qc (N:Ű) (ys:Ĵ):Ev:=ys.map (λ y=>↑(.im y))++List.replicate (N.length-Ŀ) none
@[simp] def Ya:Ã Out->Ã T
 | some (.rt y)=>↑y
 | some (.nx _)=>↑.zj
 | _=>none
@[simp] def zR (N:Ű) (n:Nat) (g:Sm):Ap:=λ ys=>if Ŀ=n then Ya (g (qc N ys)) else none
theorem zQ.len {R:Rk}{N:Ű}{n:Nat}{g:Sm}Ř:ds.length=n:=by
 ext ř
 .rename_i h;rw[r.len];show h
 .cases e
theorem jt {N:Ű}Â4 À3{d:D}(h:ds[i]?=↑d):(vE N ds)[i]?=↑↑d:=by
 have hi:=(AQ.mp h).1;unfold vE;rw[Cq (Ä5),AG,h];rfl
theorem jr {N:Ű}{ys:Ĵ}À3{w:W}(h:(qc N ys)[i]?=↑↑w):∃ y,ys[i]?=↑y/\w=.im y:=by
 unfold qc at h;have hi:i<Ŀ:=by
  rcases Bn i Ŀ with q | q
  .show q
  .rw[Cr (by exists q),CP] at h;split at h <;> cases h
 rw[Cq (Ä5),AG] at h;cases q:ys[i]? with
 | none=>rw[q] at h;cases h
 | some y=>rw[q] at h;cases h;show#[y,rfl,rfl]
def Gi {R:Rk} [Lo R] {N:Ű}{n:Nat}{g:Sm}{t:ye}(h:zV R g t) Ř:t { nx:=λ _ S'=>Q .zj S',rt:=Q } (vE N ds) S:=by
 ext ř
 case isFalse=>cases e
 obtain⟨o,e1,e2⟩:∃ o,g (qc N ys)=↑o/\Ya ↑o=↑y:=by
  cases q:g (qc N ys) with
  | none=>rw[q] at e;cases e
  | some o=>show#[o,rfl,by rw[<- q];show e]
 exact h S Z S Z þ o _ #[#[hz,λ i t e=>?_,λ i ts e=>?_],?_,.refl S,hz,λ _ z=>z,λ _ z=>ŉ z,λ i ts p e _=>?_,λ i j ts us p _ e _ _ _=>?_] e1 ?_
 .ext ę;let#[d,h3,h4]:=r.cp h1;show#[d,jt h3,h4]
 .ext ę
 .unfold vE qc;have:=r.len;simp[this]
 .ext ę
 .ext ę
 .cases o with
  | rt y'=>cases e2;show λ d S' s r=>hq d S' s r
  | nx J'=>
   cases e2;show λ S' Z' Y' F=>hq .zj S' F.sx (Cl.of Å3 fU)
  | _=>cases e2
def xn À6:Ã T:=(Aa.find? ĕ).map Ŷ
def sj À6 (v:T):Õ:=
 if (Aa.any ĕ)=true then Aa.map (λ kv=>if kv.1=k then (kv.1,v) else kv) else Aa++[(k,v)]
section
variable {É5}
theorem yd.len:∀ ñ,Æ7->b.length=a.length
 | [],_,h=>Ŗ
 | (k,t)::r,_,h=>by
  let#[d,m,rfl,_,h2]:=h;simp[yd.len h2]
theorem yd.val:∀ ñ(k:Key),Æ7->(xn a k=none/\uL b k=none)\/∃ t d,xn a k=↑t/\uL b k=↑d/\Sn S t d
 | [],_,k,h=>by cases h;show ŉ #[rfl,rfl]
 | (j,t)::r,_,k,h=>by
  let#[d,m,rfl,h1,h2]:=h;by_cases e:j=k
  .subst e;show .inr #[t,d,by simp[xn],by simp[uL],h1]
  .rcases yd.val k h2 with ⟨g1,g2⟩ | ⟨t',d',g1,g2,g3⟩
   .show ŉ #[by simpa [xn,e] using g1,by simpa [uL,e] using g2]
   .show .inr #[t',d',by simpa [xn,e] using g1,by simpa [uL,e] using g2,g3]
theorem yd.any:∀ ñ(k:Key),Æ7->(b.any ĕ)=a.any ĕ
 | [],_,k,h=>Ŗ
 | (j,t)::r,_,k,h=>by
  let#[d,m,rfl,h1,h2]:=h;rw[BB,BB,yd.any k h2]
theorem yd.sg {k:Key}Ũ:∀ ñ,Æ7->yd S (a.map λ kv=>if kv.1=k then (kv.1,t) else kv) (b.map Â6)
 | [],_,h=>Ŗ
 | (j,u)::a,_,h=>by
  let#[e,m,rfl,h1,h2]:=h;rw[Az,Az];by_cases q:j=k
  .rw[î q,î q];show#[d,_,rfl,r,yd.sg r h2]
  .rw[Ý q,Ý q];show#[e,_,rfl,h1,yd.sg r h2]
theorem yd.snoc {k:Key}Ũ:∀ ñ,Æ7->yd S (a++[(k,t)]) (b++[(k,d)])
 | [],_,h=>by cases h;show#[d,[],rfl,r,rfl]
 | (j,u)::a,_,h=>by
  let#[e,m,rfl,h1,h2]:=h;show#[e,_,rfl,h1,yd.snoc r h2]
def yd.put ñ(h:Æ7) (k:Key) Ũ:yd S (sj a k t) (putD b k d):=by
 unfold sj putD;rw[h.any k];split
 .show yd.sg r h
 .show yd.snoc r h
end
@[simp] def XW ï:Sm:=fun J=>↑(.nx (J.set i ↑(.own (.zW []))))
@[simp] def ky ï (f:Ad):Ad:=fun J=>ŕ λ y=>match J[i]?,y with
 | İ,.int k=>xn Aa (ŉ k)
 | _,_=>none
@[simp] def cL ï (f g:Ad):Ad:=fun J=>ŕ λ y=>(g J).bind λ z=>match J[i]?,y with
 | İ,.int k=>↑((xn Aa (ŉ k)).getD z)
 | _,_=>none
@[simp] def cK ï (f v:Ad):Sm:=fun J=>(v J).bind λ z=>ŕ λ y=>match J[i]?,y with
 | İ,.int k=>if Aa.length<ě then ↑(.nx (J.set i ↑(.own (.zW (sj Aa (ŉ k) z))))) else none
 | _,_=>none
@[simp] def iE ï:Ad:=fun J=>match J[i]? with
 | İ=>↑(.int Aa.length)
 | _=>none
def jB É5 Ğ(hE:ER Ė) À3{Aa:Õ}(h:J[i]?=↑↑(.own (.zW Aa))):∃ p b,Y[i]?=↑↑(ê p)/\S p=↑(.zW b)/\yd Ã0 Aa b:=by
 let#[p,o,h1,h2,h3,_]:=hE.ow i _ h;cases o with
 | zW b=>show#[p,b,h1,h2,h3]
 | _=>show h3.elim
section
variable {R:Rk}{f g v:Ad}{ty tx tv:zw}
def N4 ï:zV R (XW i) (wQ Wn (hName i)):=λ S0 Z0 S Z Y J o E F e P=>by
 cases e;intro p hp;show P þ _ (F.fY (ts:=.zW []) (ds:=.zW []) (.new hp _) i hp se rfl)
def Yn ï (hf:yD f ty):xP (ky i f) (Wr (zX i) ty):=λ S Z Y J y Q hE e hq=>by
 ext Ç4;split at e2
 .rename_i Aa k h;ext ë;exact hf Ė þ hE į;cases Vw.int r1;rcases (yd.sx (xW s1) h3).val (ŉ k) with ⟨g1,_⟩ | ⟨t,d,g1,g2,g3⟩
  .rw[g1] at e2;cases e2
  .rw[g1] at e2;cases e2;show#[p,b,k,d,rfl,rfl,s1 þ h2,g2,hq d S1 s1 g3]
 .cases e2
def Yo ï (hf:yD f ty) (hg:xP g tx):xP (cL i f g) (Wq (zX i) ty tx):=λ S Z Y J y Q hE e hq=>by
 let#[x,e1,e]:=Ń;let#[z,e2,e3]:=Ń;split at e3
 .rename_i Aa k h;cases e3;ext ë;exact#[p,rfl,#[b,h2],hf Ė þ hE į];cases Vw.int r1;exact hg S1 Z Y J z _ (hE.grow s1) e2 λ dz S2 s2 r2=>#[k,b,rfl,ŧ þ h2,?_];rcases (yd.sx (xW ŧ) h3).val (ŉ k) with ⟨g1,g2⟩ | ⟨t,d,g1,g2,g3⟩
  .rw[g2];rw[g1] at hq;show hq _ S2 ŧ r2
  .rw[g2];rw[g1] at hq;show hq _ S2 ŧ g3
 .cases e3
def N3 ï (hf:yD f ty) (hv:xP v tv):zV R (cK i f v) (Wo (zX i) ty tv):=λ S0 Z0 S Z Y J o E F e P=>by
 let#[z,e1,e]:=Ń;let#[x,e2,e3]:=Ń;split at e3
 .rename_i Aa k h;split at e3
  .rename_i hl;cases e3;exact hv Ė z _ F.er e1 λ dz S1 s1 r1=>?_;have F1:=F.grow s1;let#[p,b,h1,h2,h3]:=jB F1.er h;change zX i Y S1 _;unfold zX;rw[h1];exact hf S1 Z Y J þ F1.er e2 λ d S2 s2 r2=>?_;cases Vw.int r2;have h4:=yd.sx (xW s2) h3;show#[p,b,k,rfl,rfl,s2 þ h2,by rw[h4.len];show hl,P _ Z Y ((F1.grow s2).mut (us:=.zW (sj Aa (ŉ k) z)) (es:=.zW (putD b (ŉ k) dz)) i h h1 (h4.put _ (Sn.sx (xW s2) z r1)))]
  .cases e3
 .cases e3
def M8 ï:xI (iE i) (xD XH (t6 (zX i) tw)):=λ S Z Y J y Q hE e hq=>by
 unfold iE at e;split at e
 .rename_i Aa h;cases e;ext ë;exact#[p,b,rfl,h2,?_];rw[h3.len];show hq _ S (.refl S) (Cl.of Å3 wx)
 .cases e
end
@[simp] def lC (f:Ad):Ad:=fun J=>ŕ λ x=>match x with
 | .int i=>↑(.int (-i))
 | _=>none
def Wi (ta:zw):zw:=fun Y S Q=>ta Y S λ x S1=>match x with
 | .int i=>Q (.int (-i)) S1
 | _=>False
def Ms Á7(h:yD f te):xI (lC f) (Wi te):=λ S Z Y J y Q hE e hq=>by
 ext Ç4;exact h Ė x _ hE į;split at e2
 .cases Vw.int r1;cases e2;show hq _ S1 s1 (Cl.of Å3 wx)
 .cases e2
def J6:vR zJ tN XG:=Xp
def J5:vR zJ wB XF:=Xp
def sv:Ĵ->Ã (Ä)
 | []=>↑[]
 | .int i::ts=>(sv ts).map (i::·)
 | _::_=>none
def vZ:Ĵ->Ã (Ť)
 | []=>↑[]
 | .tup r::ts=>(sv r).bind λ x=>(vZ ts).map (x::·)
 | _::_=>none
def yV (r:Ä):T:=.tup (r.map T.int)
theorem dP:∀ {ts:Ĵ}{is:Ä},sv ts=↑is->ts=is.map T.int
 | [],is,h=>Ŗ
 | .int b::ts,is,h=>by
  unfold sv at h;let#[cs,h1,rfl]:=Ax.mp h;rw[Az,<- dP h1]
 | .zj::ts,bs,h=>ĵ
 | .bl _::ts,bs,h=>ĵ
 | .str _::ts,bs,h=>ĵ
 | .tup _::ts,bs,h=>ĵ
 | ũ _::ts,bs,h=>ĵ
theorem ee:∀ {ts:Ĵ}{rs:Ť},vZ ts=↑rs->ts=rs.map yV
 | [],is,h=>Ŗ
 | .tup r::ts,is,h=>by
  unfold vZ at h;let#[x,h1,h]:=Al.mp h;let#[cs,h2,rfl]:=Ax.mp h;rw[Az,<- ee h2,dP h1];rfl
 | .zj::ts,bs,h=>ĵ
 | .bl _::ts,bs,h=>ĵ
 | .str _::ts,bs,h=>ĵ
 | .int _::ts,bs,h=>ĵ
 | ũ _::ts,bs,h=>ĵ
def Xg (is:Ä):sv (is.map T.int)=↑is:=by
 induction is with
 | nil=>rfl
 | cons b bs ih=>rw[Az];unfold sv;rw[ih];rfl
def eg (rs:Ť):vZ (rs.map yV)=↑rs:=by
 induction rs with
 | nil=>rfl
 | cons b bs ih=>
  change vZ (.tup (b.map T.int)::bs.map yV)=_;unfold vZ;rw[Xg,ih];rfl
theorem q_ É5:∀ {is:Ä}Â4,zk S (is.map T.int) ds↔ds=is.map D.int
 | [],ds=>by simp![BD,zk]
 | i::is,ds=>by
  rw[Az];simp![zk,Sn];ext Ç5
  .rintro⟨c,cs,rfl,rfl,h⟩;rw[q_.mp h];rfl
  .rintro rfl;show#[.int i,_,rfl,rfl,q_.mpr rfl]
theorem oZ É5:∀ {rs:Ť}Â4,zk S (rs.map yV) ds↔ds=rs.map v_
 | [],ds=>by simp![BD,zk]
 | r::rs,ds=>by
  rw[Az];simp![zk,yV,Sn];ext Ç5
  .rintro⟨c,cs,rfl,⟨es,rfl,h1⟩,h⟩;rw[oZ.mp h,q_.mp h1];rfl
  .rintro rfl;show#[v_ r,_,rfl,#[_,rfl,q_.mpr rfl],oZ.mpr rfl]
@[simp] def Tc:T->Ã String
 | .zj=>↑"NoneType"
 | .bl _=>↑"bool"
 | .int _=>↑"int"
 | .str _=>↑"str"
 | .tup _=>↑"tuple"
 | ũ _=>↑"list"
 | .xl=>↑"dict"
 | .err þ _=>none
@[simp] def instS (ty:String) (f:Ad):Ad:=fun J=>ŕ λ x=>(Tc x).map λ t=>.bl (tP t ty)
theorem Vw.err É5{Z:Addr->Prop}{c f:Str}{t:T}{d:D}(h:Vw S Z (.err c f t) d):∃ x,d=.err c f x/\Sn Ã0 t x:=by
 rcases h with h | ⟨_,_,_,h,_⟩
 .simpa only [Sn] using h
 .cases h
def M0 {ty:String}Á7(hf:yD f te):xI (instS ty f) (kA ty te):=λ S Z Y J y Q hE e hq=>by
 ext Ç4;let#[n,e3,rfl]:=Ax.mp e2;exact hf Ė x _ hE į;have key:qa d S1=↑n:=by
  rw[<- e3];cases x with
  | zj=>cases Vw.zj r1;rfl
  | bl _=>cases Vw.bl r1;rfl
  | int _=>cases Vw.int r1;rfl
  | str _=>cases Vw.str r1;rfl
  | tup _=>let#[ds,rfl,_]:=Vw.tup r1;rfl
  | lst _=>
   obtain⟨ds,rfl | ⟨a,rfl,h1⟩,h2⟩:=Vw.lst r1
   .rfl
   .unfold qa;ext ø;rw[h1];rfl
  | xl=>
   let#[a,Aa,#[rfl,_],h1]:=Vw.xl r1;unfold qa;ext ø;rw[h1];rfl
  | err _ _ _=>cases e3
 rw[key];show hq _ S1 s1 (Cl.of Å3 vp)
@[simp] def isNone:T->Bool
 | .zj=>true
 | _=>č
def nH:D->Bool
 | .zj=>true
 | _=>č
def zu (p:ī):T:=.tup [.int p.1,.int p.2]
def ng (ns:Ä):T:=ũ (ns.map .int)
@[simp] theorem zaa:ě=16777216:=rfl
def LI {n:Nat}(h:n<=10000):n<=ě:=Br h ()
theorem wR õ É6{k:Nat}{x:α}(h:xs[k]?=↑x):L2.z_ xs (k:Int)=↑x:=by
 unfold L2.z_ L2.vy;have hk:=(AQ.mp h).1;rw[î ⋯,î ⋯];exists h
@[simp] theorem Vh õ É6{x:α}:L2.z_ (xs++[x]) (-1)=↑x:=by
 unfold L2.z_ L2.vy;rw[Ý ⋯,î (Å4)];have:(-1+((xs++[x]).length:Int)).toNat=Ó:=Å4
 rw[Ba,this];simp
@[simp] theorem v8 õ{x:α}É6:L2.z_ (x::xs) 0=↑x:=wR (k:=0) rfl
@[simp] theorem t7 õ{x y:α}É6:L2.z_ (x::y::xs) 1=↑y:=wR (k:=1) rfl
@[simp] theorem Gv õ{x y z:α}É6:L2.z_ (x::y::z::xs) 2=↑z:=wR (k:=2) rfl
@[simp] theorem Gu õ{x y z w:α}É6:L2.z_ (x::y::z::w::xs) 3=↑w:=wR (k:=3) rfl
theorem cR õ Ţ (g:α->Ã T) Æ3:∀ (xs:ć),(∀ x∈xs,h (enc x)=↑(g x))->p_ h (Ħ enc)=↑(xs.filterMap g)
 | [],_=>rfl
 | x::xs,hh=>by
  rw[Az];unfold p_;rw[hh x Au,cR enc g h xs λ y hy=>hh y (Ay _ hy)];cases q:g x <;> simp[q]
def Hg õ Ţ (g:α->T) Æ3 (xs:ć) (hh:∀ x∈xs,h (enc x)=↑↑(g x)):p_ h (Ħ enc)=↑(Ħ g):=by
 rw[cR enc (λ x=>↑(g x)) h xs hh];simp
def pK õ Ţ (h:α->T) à
  (hh:∀ x∈xs,qp pick g c f J (enc x)=↑↑(h x)):wK pick it g c f J=↑(ũ (Ħ h)):=by
 unfold wK;rw[hi,Ba,î (by rw[AM];show hl),Hg enc h _ xs hh];rfl
def LS õ Ţ (h:α->Ã T) à
  (hh:∀ x∈xs,qp pick g c f J (enc x)=↑(h x)):wK pick it g c f J=↑(ũ (xs.filterMap h)):=by
 unfold wK;rw[hi,Ba,î (by rw[AM];show hl),cR enc h _ xs hh];rfl
section
variable {õ}{is:Ō}{g:ú}{b:Sm}
def turn (g:ú) (b:Sm) (y:T) (J:Ev):Ã Out:=(g y J).bind b
theorem jW (y:T) (ys:Ĵ) (J:Ev):xy is g b (y::ys) J=(turn g b y Â9).bind λ o=>match o with
  | .nx J2=>À4
  | .ct J2=>À4
  | .bk J2=>↑(.nx (yt is J2))
  | .rt t=>↑(.rt t):=by
 unfold turn;rw[xy];cases g y Â9 <;> rfl
theorem Y2 Ţ (I:ć->Ev->Prop):∀ (xs:ć) (pre:ć) (J:Ev),I pre Â9->
  (∀ p x q,pre++xs=p++x::q->ĥ)->∃ J',Ä3/\I (pre++xs) J'
 | [],pre,J,h,_=>#[yt is J,by rw[BD,xy],by exists h]
 | x::xs,pre,J,h,hs=>by
  let#[J',h1,h2]:=hs pre x xs rfl _ h;rw[Az,jW,h1];have ih:=Y2 enc I xs (pre++[x]) J' h2 λ p y q e=>hs p y q (by rw[<- e];simp);exists ih
def uT Ţ (I:ć->Ev->Prop) (xs:ć) (J:Ev) (h:I [] Â9)
  (hs:∀ p x q,xs=p++x::q->ĥ):∃ J',Ä3/\I xs J':=Y2 enc I xs [] J h hs
end
theorem Zr (n:Nat) (h:n<=100000):ua [.int (n:Int)]=↑((ÿ n).map λ(k:Nat)=>T.int (0+(k:Int))):=by
 change (if inR (n:Int)=true then ↑(rangeT 0 (n:Int).toNat) else none)=_;rw[î (Xi.mpr #[⋯,⋯])];rfl
def qW (a:Key) (b:T) (Aa:Õ) (j:Key):xn ((a,b)::Aa) j=if a=j then ↑b else xn Aa j:=by
 by_cases h:a=j <;> simp[xn,h]
theorem aJ É7:∀ Aa:Õ,xn (Aa.map Â6) j=(xn Aa j).map λ x=>if j=k then d else x
 | []=>rfl
 | (a,b)::Aa=>by
  have ih:=aJ k j d Aa;rw[Az];by_cases hk:a=k
  .rw[î hk,qW,qW,ih];by_cases hj:a=j
   .subst hj;subst hk;simp
   .rw[Ý hj,Ý hj]
  .rw[Ý hk,qW,qW,ih];by_cases hj:a=j
   .subst hj;simp[hk]
   .rw[Ý hj,Ý hj]
theorem aI É7:∀ Aa:Õ,(∀ kv∈Aa,¬ kv.1=k)->xn (Aa++[(k,d)]) j=if j=k then ↑d else xn Aa j
 | [],_=>by
  change xn [(k,d)] j=_;rw[qW];by_cases h:j=k
  .subst h;simp
  .rw[Ý h,Ý (λ z=>h z.symm)]
 | (a,b)::Aa,hn=>by
  have ih:=aI k j d Aa λ kv EI=>hn kv (Ay _ EI);have ha:¬ a=k:=hn (a,b) Au;change xn ((a,b)::(Aa++[(k,d)])) j=_;rw[qW,qW,ih];by_cases hj:a=j
  .subst hj;simp[ha]
  .rw[Ý hj,Ý hj]
def Vk À6:(Aa.any ĕ)=(xn Aa k).isSome:=by
 unfold xn;rw[Option.isSome_map,Bh,A_,List.find?_isSome]
def UT (Aa:Õ) É7:xn (sj Aa k d) j=if j=k then ↑d else xn Aa j:=by
 unfold sj;split
 .rename_i h;rw[Vk] at h;rw[aJ];by_cases hj:j=k
  .subst hj;let#[x,hx]:=DT.mp h;simp[hx]
  .simp[hj]
 .rename_i h;show aI k j d Aa λ kv EI z=>h (A_.mpr #[kv,EI,za3 z])
def LK À6 (d:T):(sj Aa k d).length=if (xn Aa k).isSome=true then Aa.length else Aa.length+1:=by
 have e:=Vk Aa k;unfold sj;rw[e];split <;> simp
def ux (p:ī):Ä:=[p.1,p.2]
def s_ ĺ:Æ:=(L4.wu Ņ).map λ r=>Ś
def Zb ĺ:(s_ ps).map ux=L4.wu Ņ:=by
 unfold s_;rw[A3]
 conv=>rhs;rw[<- List.map_id (L4.wu Ņ)]
 exact C2 λ r hr=>?_;let#[p,_,rfl]:=Aw.mp ((L4.qd _).mem_iff.mp hr);rfl
def fS ĺ:(s_ ps).Perm ps:=by
 have h:=L4.qd Ņ;have:(s_ ps).Perm ((ps.map ux).map λ r=>Ś):=h.map _
 rwa [A3,show ((λ r:Ä=>Ś) ∘ ux)=id from rfl,List.map_id] at this
def nE (p q:ī):Prop:=p.1<q.1\/(p.1=q.1/\p.2<=q.2)
def Za ĺ:(s_ ps).Pairwise nE:=by
 have h:=L4.fR Ņ;rw[<- Zb,C4] at h;exact h.imp λ{p q} CF=>?_;unfold ux at CF;rw[HT.pH,HT.pH] at CF;unfold nE;by_cases e:q.1=p.1
 .rw[î e] at CF;by_cases e2:q.2=p.2
  .lia
  .rw[Ý e2] at CF;have:=of_decide_eq_false CF;lia
 .rw[Ý e] at CF;have:=of_decide_eq_false CF;lia
def SK ĺ:vZ (ps.map zu)=↑ Ņ:=by
 have:=eg Ņ
 rwa [A3,show yV ∘ ux=zu from rfl] at this
def vL (q p:ī):Bool:=decide (p.1<=q.1)&&decide (p.2<=q.2)
def zF ĺ (q:ī):Bool:=ps.any (vL q)
def yH {ps:Æ}{q:ī}:zF ps q=true↔∃ p∈ps,p.1<=q.1/\p.2<=q.2:=by
 unfold zF vL;simp[A_]
def I_ {ps qs:Æ}(h:ps.Perm qs) (q:ī):zF ps q=zF qs q:=by
 rw[Bh,yH,yH];show#[λ#[p,h1,h2]=>#[p,h.mem_iff.mp h1,h2],λ#[p,h1,h2]=>#[p,h.mem_iff.mpr h1,h2]]
def Hb (ps qs:Æ) (q:ī):zF (ps++qs) q=(zF ps q||zF qs q):=by
 unfold zF;rw[List.any_append]
def ur ĺ:Prop:=ps.Pairwise λ p q=>p.1<q.1/\q.2<p.2
theorem ur.eq:∀ {ps qs:Æ},ur ps->ur qs->(∀ q,zF ps q=zF qs q)->ps=qs
 | [],[],_,_,_=>rfl
 | [],q::qs,_,_,h=>by
  have:=h q;rw[show zF [] q=č from rfl] at this;have h2:zF (q::qs) q=true:=Å5;rw[h2] at this;cases this
 | p::ps,[],_,_,h=>by
  have:=h p;rw[show zF [] p=č from rfl] at this;have h2:zF (p::ps) p=true:=yH.mpr Ū;rw[h2] at this;cases this
 | p::ps,q::qs,hp,hq,h=>by
  have hp1:=BC.mp hp;have hq1:=BC.mp hq;have a1:∃ r∈q::qs,r.1<=p.1/\r.2<=p.2:=yH.mp (by rw[<- h];show yH.mpr Ū);have a2:∃ r∈p::ps,r.1<=q.1/\r.2<=q.2:=yH.mp (by rw[h];show Å5);let#[r,hr,r1,r2]:=a1;let#[u,hu,u1,u2]:=a2;have qr:q.1<=r.1:=by
   rcases Š hr with e | e
   .subst e;show A4 _
   .show Int.le_of_lt (hq1.1 r e).1
  have pu:p.1<=u.1:=by
   rcases Š hu with e | e
   .subst e;show A4 _
   .show Int.le_of_lt (hp1.1 u e).1
  have e1:p.1=q.1:=⋯;have er:r=q:=by
   rcases Š hr with e | e
   .show e
   .have:=(hq1.1 r e).1;lia
  have eu:u=p:=by
   rcases Š hu with e | e
   .show e
   .have:=(hp1.1 u e).1;lia
  subst er eu;have e2:u.2=r.2:=⋯;have epq:u=r:=Prod.ext e1 e2;subst epq;rw[ur.eq hp1.2 hq1.2 λ x=>?_];have hx:=h x;unfold zF at hx ⊢;rw[BB,BB] at hx;cases g:vL x u with
  | č=>rw[g] at hx;exists hx
  | true=>
   have gx:u.1<=x.1/\u.2<=x.2:=by simpa [vL] using g
   have key:∀ {l:Æ},(∀ v∈l,u.1<v.1/\v.2<u.2)->l.any (vL x)=l.any (vL (x.1,u.2-1)):=by
    intro l hl;rw[Bh,A_,A_];ext Ç5
    .ext Æ0;have hg':v.1<=x.1/\v.2<=x.2:=by simpa [vL] using hg
     show Å6
    .ext Æ0;have hg':v.1<=x.1/\v.2<=u.2-1:=by simpa [vL] using hg
     show Å6
   rw[key hp1.1,key hq1.1];have hy:=h (x.1,u.2-1);unfold zF at hy;rw[BB,BB] at hy;have gn:vL (x.1,u.2-1) u=č:=by
    unfold vL;rw[show decide (u.2<=(x.1,u.2-1).2)=č from za2 (by change ¬ u.2<=u.2-1;lia),CO]
   rw[gn] at hy;exists hy
def sM (l:Ã Int) (x:Int):Bool:=match l with
 | none=>true
 | some m=>decide (x<m)
def yQ:Æ->Ã Int->Æ
 | [],_=>[]
 | p::ps,l=>if sM l p.2=true then p::yQ ps ↑p.2 else yQ ps l
def vJ ĺ:Æ:=yQ (s_ ps) none
theorem l_:∀ ĺ (l:Ã Int) (q:ī),q∈yQ ps l->q∈ps/\∀ m,l=↑m->q.2<m
 | [],l,q,h=>by simp[yQ] at h
 | p::ps,l,q,h=>by
  unfold yQ at h;split at h
  .rename_i c;have hm:∀ m,l=↑m->p.2<m:=λ m e=>by subst e;simpa [sM] using c
   rcases Š h with e | e
   .subst e;show#[Au,hm]
   .let#[h1,h2]:=l_ ps _ q e;show#[Ay _ h1,λ m e=>by have:=h2 _ rfl;have:=hm m e;lia]
  .let#[h1,h2]:=l_ ps _ q h;show#[Ay _ h1,h2]
theorem d_:∀ ĺ (l:Ã Int),ps.Pairwise nE->ur (yQ ps l)
 | [],l,_=>by simp[yQ,ur]
 | p::ps,l,h=>by
  have h1:=BC.mp h;unfold yQ;split
  .exact BC.mpr #[λ q hq=>?_,d_ ps _ h1.2];let#[g1,g2]:=l_ ps _ q hq;have:=h1.1 q g1;have:=g2 _ rfl;unfold nE at *;lia
  .show d_ ps _ h1.2
theorem cb:∀ ĺ (l:Ã Int),ps.Pairwise nE->∀ p∈ps,(∃ q∈yQ ps l,q.1<=p.1/\q.2<=p.2)\/∃ m,l=↑m/\m<=p.2
 | [],l,_,p,hp=>by cases hp
 | r::ps,l,h,p,hp=>by
  have h1:=BC.mp h;unfold yQ;split
  .rename_i c;rcases Š hp with e | e
   .subst e;show ŉ Ū
   .rcases cb ps ↑r.2 h1.2 p e with ⟨q,q1,q2⟩ | ⟨m,e1,e2⟩
    .show ŉ #[q,Ay _ q1,q2]
    .cases e1;have:=h1.1 p e;unfold nE at this;show ŉ #[r,Au,⋯,e2]
  .rename_i c;rcases Š hp with e | e
   .subst e;cases l with
    | none=>simp[sM] at c
    | some m=>show .inr #[m,rfl,by simpa [sM] using c]
   .show cb ps l h1.2 p e
def dw ĺ:ur (vJ ps):=d_ þ (Za ps)
def LN {ps:Æ}{q:ī}(h:q∈vJ ps):q∈ps:=(fS ps).mem_iff.mp (l_ þ q h).1
theorem nD ĺ (q:ī):zF (vJ ps) q=zF ps q:=by
 rw[<- I_ (fS ps) q,Bh,yH,yH];ext Ç5
 .rintro⟨p,h1,h2⟩;show#[p,(l_ þ p h1).1,h2]
 .rintro⟨p,h1,h2⟩;rcases cb (s_ ps) none (Za ps) p h1 with ⟨r,r1,r2⟩ | ⟨m,e,_⟩
  .show#[r,r1,⋯,⋯]
  .cases e
end L5
namespace L2
open PySem PySem.Spec ŷ
section
variable {X:Cx}
def Z9 (K:Ac):R2:=λ x y H Q=>∃ l b xs zs,x=ê l/\y=ê b/\zU K H l xs/\zU K H b zs/\Ó+zs.length<=ě/\∀ p,H p=none->Q (ê p) (upd H p (ũ (xs++zs)))
theorem OX:y9 X (binaryOp .Add) (Z9 X.K):=by
 intro EW s σ H x y v u Q I rx ry h;let#[l,b,xs,zs,rfl,rfl,hH,hB,hz,q]:=h;cases rx;cases ry;let#[Ab,r,p1,_]:=I.list hH;let#[its2,r2,p2,_]:=I.list hB;let#[#[cls,dd,data,sl],ho,hc,n,hd]:=p1.isList;let#[#[cls2,dd2,data2,sl2],ho2,hc2,n2,hd2]:=p2.isList;simp only at hc hd hc2 hd2;subst hc hd hc2 hd2;have e:Ä6++its2.toArray=(Ab++its2).toArray:=#[];exact concat_meets #[_,ho,rfl] #[_,ho2,rfl] noFill_list_add seq_list_add PySem.F.slot_list_add PySem.F.entry_list_add (PySem.F.args_list_add_2 þ) (list_addW l b Ä6 its2.toArray n n2 dd dd2 sl sl2 (by rw[AK,AK,<- r.length,<- r2.length];show hz)) #[ho,ho2,?_];rw[e];show#[ê _,_,I.LF (t':=s.toks) (r.append r2) (by rw[BO];lia),rfl,q _ I.fresh]
end
end L2
namespace L5
open PySem PySem.Spec L2 L3
open ŷ hiding St
section
variable {X:Cx}{K:Ac}{a b c e:Expr}{es:List Expr}{ta tc te:zw}{tA:zY}{pos p:Pos}
def pj {H:Hp}É5{d:D}{v:V}Â4(r:zf K H d v) (p:zK K H S) (e:zZ d S=↑ds) (n:∀ ts,d≠.tup ts):∃ a xs,v=ê a/\zU K H a xs/\zo K H ds xs:=by
 unfold zZ at e;split at e
 .show absurd rfl (n _)
 .cases e;ext Ç6;let#[a,xs,h1,h2,h3]:=r;show#[a,xs,h1,h2.sq,h3]
 .split at e
  .rename_i q;cases e;ext Ç6;subst r;let#[xs,h1,h2]:=p þ q;show#[_,xs,rfl,zU.of h1,h2]
  .cases e
 .cases e
def uD.mo {g:List Bool->Bool}:vQ (uD g):=λ ds S Q Q' hq h=>by
 unfold uD at h ⊢;split at h
 .show h.elim
 .let#[bs,h1,h2]:=h;show#[bs,h1,hq þ h2]
 .show h.elim
def uD.fits {g:List Bool->Bool}:uJ K (uD g) (λ xs H Q=>∃ p,∃ bs:List Bool,xs=[ê p]/\zU K H p (bs.map V.bl)/\Q (.bl (g bs)) H):=λ xs ds H S Q h0 h2 h=>by
 unfold uD at h;split at h
 .show h.elim
 .rename_i d hn;let#[x,hx,h1]:=h0.one;subst hx;let#[bs,e,h]:=h;let#[a,ys,rfl,g1,g2]:=pj h1 h2 e (λ ts z=>hn ts z);rw[g2.bools] at g1;show#[a,bs,rfl,g1,h _ H È0 (.refl H) h2]
 .show h.elim
def OC (hm:X.mg "all"=none) (ha:yS X (e::es) tA) ů (hg:Gl X "all") Å0:PD X (.Call (.Name "all" p) (e::es) [] pos) (xD (uD λ bs=>bs.all id) tA):=
 uR (uQ (HV hc) hg hm boot_all ha.pa () () he Ao) uD.mo uD.fits ha.mo
def OA (hm:X.mg "any"=none) (ha:yS X (e::es) tA) ů (hg:Gl X "any") Å0:PD X (.Call (.Name "any" p) (e::es) [] pos) (xD (uD λ bs=>bs.any id) tA):=
 uR (uQ (HU hc) hg hm boot_any ha.pa () () he Ao) uD.mo uD.fits ha.mo
def YR {H:Hp}{d:D}{v:V}(r:zf K H d v):decide (v=.zj)=nH d:=by
 cases d with
 | tup _=>ext Á3
 | vb _=>ext Á3
 | err _ _ _=>ext Ç6;let#[a,_,_,_,rfl,_]:=r;rfl
 | _=>ext Ç6;subst r;rfl
theorem PH (ha:PD X a ta):PD X (.UnaryOp .USub a pos) (Wi ta):=by
 exact#[fun Y S Q Q' hq h=>ha.mo Y S þ (λ x S1 z=>by
  cases x <;> first
   | show hq þ z
   | show z) h,PE.imp (RY U_ ha.pe) fun σ H Q hu=>?_]
 let#[Y,S,r1,r2,h]:=hu;exact zL.go ha.mo r1 r2 h λ x S1 v H1 h1 q1 e1 p1=>?_;cases x with
 | int i=>simp![zf] at q1;show#[i,q1,h1 _ H1 È0 e1 p1]
 | _=>show h1.elim
section
variable {N':Ű}{pick:Ã2}{scope:Scope}{tg elt iter:Expr}{ifs:List Expr}{ti:wV}{g:xt}{tcc:yx}
def tU.mo (hi:gp ti):yn ľ:=fun Y S Q Q' hq z=>hi Y S þ (λ I S1 #[h1,h2,h3]=>#[h1,h2,λ p hp=>by
 let#[W,w0,w1,w2,w3]:=h3 p hp;show#[W,w0,w1,w2,λ S2 acc a b c=>hq þ (w3 S2 acc a b c)]]) z
theorem aM (hi:gp ti) (hg:kR g) (hc:vA tcc) (he:yn te) {σ:St}{H:Hp}{Q:VK}(hu:zL K ľ σ H Q):fJ pick (vD K ti) (mQ K g) (wI K tcc) (zL K te) σ H Q:=by
 let#[Y,S,r1,r2,z]:=hu;exact#[Y,S,r1,r2,hi Y S þ (λ I S1 hF J H1 e1 p1 rep D hD=>?_) z];let#[hlen,hk,hF]:=hF;have hS1:S1 D=none:=p1.none hD;let#[W,w0,wm,wstep,wfin]:=hF D hS1;exact#[λ i m σ H2=>m=ò-i/\i<=ò/\Ext H1 H2/\yC K H2 ş σ/\∃ S2 acc,zK K H2 S2/\Sx S1 S2/\S2 D=↑(ũ acc)/\acc.length<=i/\W i S2 acc,#[_,rfl,AZ _,.new hD _,((r1.ext e1).pick pick).ext (.new hD _),ups S1 D (ũ []),[],?_,.new hS1 _,se,An _,?_],?_]
 .show p1.ups (.new hD _) #[[],yy,.nil]
 .show wm 0 S1 _ [] Ã1 w0
 rintro i m σ2 H2 ⟨rfl,hi',x2,q1,S2,acc,q2,sx,hS2,A0,hW⟩;let#[g1,g2]:=rep i H2 S2 x2 q2 (hk S2 sx);by_cases hl:i<ò
 .have hd:I.items[i]?=↑I.items[i]:=by simp[hl]
  let#[go,yl]:=g1 _ hd;exact .inr #[go,λ x H3 hy=>?_];let#[x3,p3,d3]:=yl x H3 hy;exact#[_,_,S2,d3,q1.ext x3,p3,hg þ S2 þ (fun Y4 S4 z4 σ4 H4 a1 a2 a3=>?_) (wstep i _ S2 acc hd sx hS2 hW)];let#[hle,z4]:=z4;exact wI.go hc a1 a3 z4 λ b S5 H5 z5 x5 p5=>vf (λ z5=>?_) (λ z5=>?_) z5
  .exact zL.go he (a1.ext x5) p5 z5 λ y S6 v H6 z6 q6 x6 p6=>?_;let#[s6,hW6]:=z6;let#[ys,h6,r6]:=p6 þ (s6 þ hS2);have e6:Ext H6 (upd H6 D (ũ (ys++[v]))):=ũ h6 _;have hlen2:Ŀ<=i:=by rw[<- r6.length];show A0
   exact#[ys,ò-ō,h6,⋯,⋯,rfl,hl,((Ã3).trans x6).trans e6,hle.rep ((a1.ext (x5.trans x6)).ext e6),ups S6 D (ũ (acc++[y])),acc++[y],?_,λ b o hb=>?_,se,Å4,?_]
   .show p6.ups e6 #[_,yy,zo.ext e6 _ (r6.snoc q6)]
   .rw[sW (by intro q;subst q;rw[hS1] at hb;cases hb)];show s6 þ (sx þ hb)
   .show wm _ S6 þ Ã1 hW6
  .let#[s5,hW5]:=z5;show#[ò-ō,⋯,rfl,hl,Ã3,hle.rep (a1.ext x5),S5,acc,p5,sx.trans s5,s5 þ hS2,⋯,hW5]
 .have e:i=ò:=⋯;subst e;show ŉ #[g2 (An _),wfin S2 acc sx hS2 hW _ H2 È0 (e1.trans x2) q2]
def PX Ë
  ţ:
  PD X Ā ľ:=
 #[tU.mo hi.mo,λ EW s σ H Q I hu=>Qh Ö hs EW s σ H Q I (aM ļ hu)]
def QT À3{y:Str}{py Bl:Pos}Ë
  (hN:X.N.Nodup) (hy:X.N[i]?=↑y) (hx:Loc X.env.scope y)
  (BH:swapsWith Ā ↑(.Name y py) Bl.line X.env=pure true)
  (Cd:X.fn y=true\/X.env.scope.names.lookup y=↑.local)
  ţ:
  xN X (.Assign [.Name y py] Ā Bl) (wQ ľ (hName i)):=by
 exact#[wQ.mo (tU.mo hi.mo) λ _ _ _ _ _ hq z=>hq þ z,λ EW s σ H D I hu=>Rv Ö hN hy hx BH Cd hs EW s σ H D I ?_];let#[Y,S,r1,r2,z]:=hu;exact aM ļ #[Y,S,r1,r2,tU.mo hi.mo Y S þ (λ x S1 z v H1 q1 e1 p1=>?_) z];show z _ H1 ((r1.ext e1).set i q1) e1 p1
end
end
section
variable {P:Program}{w:World}{K:Ac}{mg:Aq}{base:Heap}{f:Addr}{fd:FuncData}
def Xz Ĩ Á4
  Ï:xb P w K mg base yM (k+1) f fd ps (vV K (zQ R (zR N n g))):=
 kd F Sc (λ ds S Q h=>by rw[h.len,hn]) λ Af A outer s H E hr=>by
  let#[t,h1,h2]:=EY Af A outer s H E hr;show#[t,h1,λ ds S Q h=>Gi h2 h]
def Ii Ĩ (hm:mg x=↑(ê f)) Á4
  (hb:∀ (kV doc pm:ı) (an:Ã Addr) (Af ct:ı) (us:Ai),us.length=ps.length->bindArgs (PySem.W.fnOf x x (uj st) (yN st) (zH st) .none kV doc pm an Af ct) #[us,[]]=pure (ps.zip us))
  Ï:FD P w K mg base x (k+1) ps (zQ R (zR N n g)):=
 #[#[f,fd,Xz F Sc hn EY,hm,F.kp,F.binds hb],zQ.mo]
def L_ {R:Rk} [Sr R] {F:Ap}(hF:∀ ns:Ä,ns.length<=63->F [ũ (ns.map T.int)]=↑(.bl true)) {H:Hp}Ą{ns:Ä}{E:XK}(hO:gh H) (hS:zU K H a (ns.map V.int)) (hl:ns.length<=63):vV K (zQ R F) [ê a] H (λ v _=>v=.bl true) E:=by
 have hFz:ml K H a (ns.map V.int):=by
  rcases hS with (h | h) | h
  .rcases hO a with z | ⟨o,xs,z⟩
   .rw[h] at z;cases z
   .rw[h] at z;cases z
  .show ŉ h
  .show .inr h
 exact#[[.vb (ns.map D.int)],λ _=>none,.cons ?_ .nil,(λ a o z=>nomatch z),λ _=>False,[ũ (ns.map T.int)],.bl true,nofun,.cons ?_ .nil,hF ns hl,λ d S' s r v H' rv _ _=>?_]
 .simp![zf];show#[a,_,rfl,hFz,zo.eS ns]
 .simp![Sn];show#[_,ŉ #[rfl,OZ ns],q_.mpr rfl]
 .have:=Sr.sn r;simp![Sn] at this;subst this;simpa only [zf] using rv
end
end L5
namespace ST
open PySem ŗ
def tY (xs:Ō):Prop:=xs.Pairwise (· < ·)
def cq É8{m d:Nat}(h:m<ė):xs.getD m d=xs[m]:=by simp[Array.getD,h]
theorem bf (xs:ū Nat) (j:Nat) ť:∀ (f lo hi:Nat),hi-lo<=f->lo<=hi->hi<=ė->(∀ i Ç7,i<lo->xs[i]<j)->(∀ i Ç7,hi<=i->j<=xs[i])->
  Á0<=ė/\(∀ i Ç7,i<Á0->xs[i]<j)/\∀ i Ç7,Á0<=i->j<=xs[i]
 | 0,lo,hi,h1,h2,h3,h4,h5=>by
  unfold below.go;ext Á2
 | f+1,lo,hi,h1,h2,h3,h4,h5=>by
  unfold below.go;have vt:∀ i k (hi:i<ė) (hk:k<ė),i<=k->xs[i]<=xs[k]:=λ i k hi hk DY=>by
   rcases Bn i k with q | q
   .have r:=C3.mp hr i k (Ä5) (by exists hk) q;rw[Cy,Cy] at r;show BE r
   .have:i=k:=⋯;subst this;show An _
  by_cases hl:lo<hi
  .rw[î hl];ext ø;have hm:(lo+hi)/2<ė:=⋯;rw[cq hm];by_cases c:xs[(lo+hi)/2]<j
   .rw[î c];exact bf xs j hr f _ hi ⋯ ⋯ h3 (λ i hi' Av=>?_) h5;have:=vt i ((lo+hi)/2) hi' hm ⋯;lia
   .rw[Ý c];exact bf xs j hr f lo _ ⋯ ⋯ ⋯ h4 (λ i hi' hge=>?_);have:=vt ((lo+hi)/2) i hm hi' hge;lia
  .rw[Ý hl];ext Á2
def iU É8 É9 ť:Ÿ<=ė/\(∀ i Ç7,i<Ÿ->xs[i]<j)/\∀ i Ç7,Ÿ<=i->j<=xs[i]:=
 bf xs j hr ė 0 ė ⋯ ⋯ (An _) (λ i h q=>⋯) (λ i h q=>⋯)
theorem below_at É8{j i:Nat}ť (h:xs[i]?=↑j):Ÿ=i:=by
 let#[h1,h2,h3]:=iU (j:=j) hr;let#[hi,e]:=ó h;have a:¬ i<Ÿ:=λ q=>by have:=h2 i hi q;lia
 have b:¬ Ÿ<i:=λ q=>by
  have:=h3 (Ÿ) ⋯ (An _);have r:=C3.mp hr (Ÿ) i (Å4) (Ä5) q;simp at r;lia
 lia
def Gp É8 É9 ť:(xs[Ÿ]?=↑j)↔j∈xs.toList:=by
 ext Ç5
 .intro h;let#[hi,e]:=ó h;rw[<- e];simp
 .intro h;let#[i,hi,e]:=Ca.mp h;have hx:xs[i]?=↑j:=by
   simp at hi;simp[hi] at e ⊢;show e
  rw[below_at hr hx];show hx
def t9 è (p:Probe):Probe:=
 if p.more>0 then { p with j:=p.j+1,more:=p.more-1 } else
 let (i,perturb):=leap M p.i p.perturb
 { p with j:=i,more:=Æ9,i,perturb }
def b8 (t:Ĕ) (p:Probe):t.advance p=t9 Ñ p:=rfl
def nh (M i perturb:Nat):Probe:={ j:=i,more:=Æ9,i:=i,perturb:=perturb,dummy:=none }
def way è Ĉ:Nat->Probe
 | 0=>nh M (ł%Ď) (ł)
 | k+1=>t9 M (é)
def G7 è (p:Probe) (h:p.dummy=none):(t9 M p).dummy=none:=by
 unfold t9;split
 .show h
 .show h
theorem fj è Ĉ:∀ k,(é).dummy=none
 | 0=>rfl
 | k+1=>G7 M _ (fj M h k)
def yb è Ĉ:Nat->Nat×Nat
 | 0=>(ł%Ď,ł)
 | n+1=>leap M ā Ķ
theorem fZ (M i pt:Nat) Ĉ (k:Nat) (hk:é=nh M i pt):∀ m,m<=Æ9->way M h (k+m)={ j:=i+m,more:=Æ9-m,i:=i,perturb:=pt,dummy:=none }
 | 0,_=>by rw[Nat.add_zero,hk];rfl
 | m+1,hm=>by
  have ih:=fZ M i pt h k hk m ⋯;change t9 M (way M h (k+m))=_;rw[ih];unfold t9;rw[î (by change Æ9-m>0;lia)];simp![Probe.mk.injEq];show#[⋯,⋯,trivial,trivial,trivial]
def SJ (M i:Nat):Æ9<=9:=by ext À7
theorem Zm è Ĉ (n k:Nat) (hk:é=nh M ā Ķ):way M h (k+(ħ M ā-ā)+1)=nh M (yb M h (n+1)).1 (yb M h (n+1)).2:=by
 have:=fZ M þ h k hk _ (An _);change t9 M (way M h (k+_))=_;rw[this];unfold t9;rw[Ý (by change ¬ _-_-(_-_)>0;lia)];rfl
theorem Zn è Ĉ:∀ n,∃ k,k<=10*n/\é=nh M ā Ķ
 | 0=>#[0,⋯,rfl]
 | n+1=>by
  let#[k,h1,h2]:=Zn M h n;have:=SJ M ā;show#[_,⋯,Zm M h n k h2]
def Gm Ĉ:ł<2 ^ 64:=by
 unfold bits;have h1:=De h (show (2 ^ 64:Int)≠0 by decide);have h2:=Dd h (show (0:Int)<2 ^ 64 by decide);lia
theorem ZM è Ĉ:∀ n,Ķ*32 ^ n<=ł
 | 0=>by simp[yb]
 | n+1=>by
  have ih:=ZM M h n;change (Ķ/32)*32 ^ (n+1)<=_;have:Ķ/32*32<=Ķ:=Nat.div_mul_le_self þ
  calc Ķ/32*32 ^ (n+1)=(Ķ/32*32)*32 ^ n:=by rw[Nat.pow_succ,Nat.mul_comm (32 ^ n) 32,Nat.mul_assoc]
   _<=Ķ*32 ^ n:=Nat.mul_le_mul_right _ this
   _<=_:=ih
theorem RW è Ĉ (n:Nat) (hn:13<=n):Ķ=0:=by
 rcases DJ Ķ with q | q
 .show q
 .have h1:=ZM M h n;have h2:=Gm h;have h3:32 ^ 13<=32 ^ n:=Nat.pow_le_pow_right () hn;have h4:1*32 ^ n<=Ķ*32 ^ n:=Nat.mul_le_mul_right _ q;have h5:(2:Nat) ^ 64<32 ^ 13:=()
  lia
def rn è ï:Nat->Nat
 | 0=>i
 | n+1=>(rn M i n*5+1)%Ď
theorem YC è Ĉ:∀ n,(yb M h (13+n)).1=rn M (yb M h 13).1 n
 | 0=>rfl
 | n+1=>by
  have ih:=YC M h n;have hz:=RW M h (13+n) ⋯;change ((yb M h (13+n)).1*5+1+(yb M h (13+n)).2/32)%Ď=_;rw[hz,ih];rfl
theorem l9 (M i:Nat):∀ a b,rn M i (a+b)=rn M (rn M i a) b
 | a,0=>rfl
 | a,b+1=>by
  change (rn M i (a+b)*5+1)%Ď=_;rw[l9 M i a b];rfl
def l8 è:Nat->Nat->Ō
 | 0,_=>[]
 | n+1,i=>i::l8 M n ((i*5+1)%Ď)
theorem eN è:∀ n i x,x∈l8 M n i->∃ k,k<n/\rn M i k=x
 | 0,i,x,h=>ĵ
 | n+1,i,x,h=>by
  rcases Š h with e | e
  .show#[0,⋯,e.symm]
  .let#[k,h1,h2]:=eN M n _ x e;show#[k+1,⋯,by rw[Nat.add_comm,l9];show h2]
def uq è:Prop:=M=7\/M=31\/M=127
theorem OH è Ĥ:(∀ e,e<=M->e∈l8 M Ď 0)/\rn M 0 Ď=0:=by
 have key:∀ M,((ÿ Ď).all λ e=>(l8 M Ď 0).contains e)=true->∀ e,e<=M->e∈l8 M Ď 0:=λ M h e he=>by
  have:=BL.mp h e (AO.mpr ⋯);exists this
 rcases hM with rfl | rfl | rfl
 .show#[key 7 (AU),AU]
 .show#[key 31 (AU),AU]
 .show#[key 127 (AU),AU]
theorem OG è Ĥ (i e:Nat) (hi:i<=M) (he:e<=M):∃ n,n<=M/\rn M i n=e:=by
 let#[h1,h2]:=OH M hM;let#[a,a1,a2]:=eN M þ _ (h1 i hi);let#[b,b1,b2]:=eN M þ _ (h1 e he);rcases Bn b a with q | q
 .exact#[M+1+b-a,⋯,?_];rw[<- a2,<- l9,show a+(M+1+b-a)=Ď+b by lia,l9,h2,b2]
 .exact#[b-a,⋯,?_];rw[<- a2,<- l9,show a+(b-a)=b by lia,b2]
theorem LO è Ĉ:∀ n,ā<=M
 | 0=>by have:=C1 (ł) Ŭ;change ł%Ď<=M;lia
 | n+1=>by
  have:=C1 (ā*5+1+Ķ/32) Ŭ;change (_%Ď:Nat)<=M;lia
theorem YD è Ĥ Ĉ (e:Nat) (he:e<=M):∃ n,n<M+14/\ā=e:=by
 let#[n,h1,h2]:=OG M hM (yb M h 13).1 e (LO M h 13) he;show#[13+n,⋯,by rw[YC,h2]]
theorem UO è Ĥ Ĉ (e:Nat) (he:e<=M):∃ k,k<10*(M+15)/\(é).j=e:=by
 let#[n,h1,h2]:=YD M hM h e he;let#[k,k1,k2]:=Zn M h n;show#[k,⋯,by rw[k2];show h2]
theorem aD è Ĉ:∀ k,(é).j+(é).more<=M/\(é).i<=M
 | 0=>by
  have h1:ł%Ď<=M:=by have:=C1 (ł) Ŭ;lia
  exact#[?_,h1];change ł%Ď+(ħ M (ł%Ď)-ł%Ď)<=M;ext À7
 | k+1=>by
  let#[h1,h2]:=aD M h k;change (t9 M (é)).j+(t9 M (é)).more<=M/\(t9 M (é)).i<=M;unfold t9;split
  .rename_i c;show#[by change (é).j+1+((é).more-1)<=M;lia,h2]
  .have h3:Ç0%Ď<=M:=by have:=C1 Ç0 Ŭ;lia
   exact#[?_,h3];change _%Ď+(ħ M (_%Ď)-_%Ď)<=M;ext À7
def fh è Ĉ (k:Nat):(é).j<=M:=by have:=(aD M h k).1;lia
structure Tab (t:Ĕ) (hs:Ä):Prop where
 mask:uq Ñ
 qB:t.dummies=Ä7
 len:Ģ=ģ
 vt:tY É
 top:∀ j∈ É,j<=Ñ
 lq:∀ ï h j,hs[i]?=↑h->Ø[i]?=↑j->œ
theorem Tab.live Ù {i j:Nat}(h:Ø[i]?=↑j):t.slot j=.live i:=by
 unfold SetTable.slot;ext ø;rw[below_at T.vt h,î (by rw[h];simp)]
theorem Tab.empty Ù É9(h:j∉ É):t.slot j=.empty:=by
 unfold SetTable.slot;ext ø;have n1:¬ (Ø[Ź]? == ↑j)=true:=λ q=>h ((Gp T.vt).mp (by exists q));rw[Ý n1,Æ8]
theorem Tab.at Ù É9(h:j∈ É):∃ (i:Nat) (g:Int),Ø[i]?=↑j/\hs[i]?=↑g:=by
 let#[i,hi,e]:=Ca.mp h;have hi':i<Ģ:=Ä5
 exact#[i,hs[i]'(by rw[<- T.len];show hi'),?_,#[]];rw[Bv hi'];rw[Cy] at e;rw[e]
theorem Xq Ù {hashAt:Nat->Int}(hA:∀ ï g,hs[i]?=↑g->hashAt i=g) Ĉ:∀ (f k:Nat),(∃ e,k<=e/\e<k+f/\(way Ñ h e).j∉ É)->
  ∃ k1,k<=k1/\(∀ m,k<=m->m<k1->∃ (i:Nat) (g:Int),Ø[i]?=↑(way Ñ h m).j/\hs[i]?=↑g/\g≠h)/\
   (À5 ∉ É/\Â7=↑(.empty À5 none)\/
    ∃ i,Ø[i]?=↑ À5/\hs[i]?=↑h/\Â7=↑(.candidate À5 i (way Ñ h (k1+1))))
 | 0,k,#[e,h1,h2,_]=>⋯
 | f+1,k,#[e,h1,h2,h3]=>by
  by_cases hm:(way Ñ h k).j∈ É
  .let#[i,g,p1,p2]:=T.at hm;by_cases hg:g=h
   .exact#[k,An _,λ m a b=>⋯,.inr #[i,p1,by rw[<- hg];show p2,?_]];unfold Ç1;rw[T.live p1];ext ø;rw[hA i g p2,î (by simp[hg]),b8];rfl
   .have AA:e≠k:=λ q=>by subst q;show h3 hm
    let#[k1,q1,q2,q3]:=Xq T hA h f (k+1) #[e,⋯,⋯,h3];have eq:Ç1 t hashAt h (f+1) (way Ñ h k)=Ç1 t hashAt h f (way Ñ h (k+1)):=by
     conv=>lhs;unfold Ç1
     rw[T.live p1];ext ø;rw[hA i g p2,Ý (by simp[hg]),b8];rfl
    rw[eq];exact#[k1,⋯,λ m a b=>?_,q3];rcases Nat.eq_or_lt_of_le a with w | w
    .subst w;show#[i,g,p1,p2,hg]
    .show q2 m w b
  .exact#[k,An _,λ m a b=>⋯,ŉ #[hm,?_]];unfold Ç1;rw[T.empty hm,fj]
def Yr {xs ys:Ō}(hx:xs.Nodup) (h:∀ x∈xs,x∈ys):Ó<=Ŀ:=by
 induction xs generalizing ys with
 | nil=>simp
 | cons x xs ih=>
  have h1:=Bo.mp hx;have hxy:=h x Au;have:=ih h1.2 (ys:=ys.erase x) λ z hz=>by
   have AA:z≠x:=λ e=>h1.1 (e▸hz);show (List.mem_erase_of_ne AA).mpr (h z (Ay _ hz))
  rw[List.length_erase_of_mem hxy] at this;have hp:=List.length_pos_of_mem hxy;simp![A1];lia
theorem least {P:Nat->Prop}(k:Nat) (h:P k):∃ m,m<=k/\P m/\∀ m'<m,¬ P m':=by
 induction k using Nat.strongRecOn with
 | ind k ih=>
  rcases Å7 (∃ m',m'<k/\P m') with ⟨m',h1,h2⟩ | q
  .let#[m,g1,g2]:=ih m' h1 h2;show#[m,⋯,g2]
  .show#[k,An _,h,λ m' hm hp=>q #[m',hm,hp]]
theorem JR {xs:Ō}Ê1(h:Ó<=M):∃ e,e<=M/\e∉xs:=by
 rcases Å7 (∃ e,e<=M/\e∉xs) with q | q
 .show q
 .have:=Yr (xs:=ÿ Ď) (ys:=xs) Ek λ e he=>by
   have:=AO.mp he;rcases Å7 (e∈xs) with w | w
   .show w
   .show absurd #[e,⋯,w] q
  simp at this;lia
def bL (t:Ĕ) Ĉ (j:Nat):Prop:=j∉ É/\œ
theorem Tab.first Ù (hl:ģ<=Ñ) Ĉ:∃ K,K<10*(Ñ+15)/\(way Ñ h K).j∉ É/\∀ k'<K,(way Ñ h k').j∈ É:=by
 let#[e,e1,e2]:=JR (xs:=É) (M:=Ñ) (by rw[BG,T.len];show hl);let#[k,k1,k2]:=UO Ñ T.mask h e e1;let#[K,q1,q2,q3]:=least (P:=λ n=>(way Ñ h n).j∉ É) k (by rw[k2];show e2);show#[K,⋯,q2,λ k' hk=>Classical.not_not.mp (q3 k' hk)]
def SN {xs:Ō}{j p:Nat}(h:tY xs) (h1:∀ x∈ ŭ,x<j) (h2:∀ x∈ Ã4,j<x):tY (ŭ++j::Ã4):=by
 exact DR.mpr #[h.sublist (List.take_sublist þ),BC.mpr #[h2,h.sublist (List.drop_sublist þ)],λ a ha b hb=>?_];rcases Š hb with e | e
 .subst e;show h1 a ha
 .have:=h1 a ha;have:=h2 b e;lia
theorem nI õ É6{p i:Nat}{x y:α}(hp:p<=Ó) (h:(ŭ++x::Ã4)[i]?=↑y):(i=p/\y=x)\/(i<p/\xs[i]?=↑y)\/(p<i/\xs[i-1]?=↑y):=by
 have hl:(ŭ).length=p:=by rw[C9];lia
 rcases DI i p with q | q | q
 .rw[Cq ⋯,List.getElem?_take,î q] at h;show .inr (ŉ #[q,h])
 .subst q;rw[Cr ⋯,hl] at h;simp at h;show ŉ #[rfl,h.symm]
 .rw[Cr ⋯,hl] at h;obtain⟨d,hd⟩:∃ d,i-p=d+1:=#[i-p-1,⋯];rw[hd] at h;simp![C0,List.getElem?_drop] at h;exact .inr (.inr #[q,?_]);rw[show i-1=p+d by lia];show h
theorem Tab.put Ù {h:Int}É9(F:bL t h j):
  (ķ).2<=ģ/\ż/\Tab (ķ).1 (hs.take (ķ).2++h::hs.drop (ķ).2):=by
 let#[b1,b2,b3]:=iU (xs:=Ø) (j:=j) T.vt;let#[fn,K,k1,k2]:=F;have e2:(ķ).2=Ź:=rfl;have e1:ż:=by
  change ({ t with place:=Ê,dummies:=_ }:Ĕ)=_;rw[Æ8,e2]
 have pl:Â2=t.place.toList.take (Ź)++j::t.place.toList.drop (Ź):=toList_insertAt þ _;have old:∀ x∈ É,x∈ Â2:=λ x hx=>by
  rw[pl];have:=Ej (Ź) É;rw[<- this] at hx;rcases A5.mp hx with q | q
  .show B4 _ q
  .show A2 _ (Ay _ q)
 rw[e2] at e1 ⊢;exact#[by rw[<- T.len];show b1,e1,?_];rw[e1];exact#[T.mask,T.qB,?_,?_,?_,?_]
 .change (Ê).size=_;rw[<- BG,pl];simp[T.len]
 .change tY Â2;rw[pl];exact SN T.vt (λ x hx=>?_) (λ x hx=>?_)
  .let#[i,hi,e]:=Ca.mp hx;rw[C9] at hi;rw[List.getElem_take,Cy] at e;rw[<- e];show b2 i (by simp at hi;lia) ⋯
  .let#[i,hi,e]:=Ca.mp hx;rw[Eo] at hi;rw[List.getElem_drop,Cy] at e;have h3:=b3 (Ź+i) (by simp at hi;lia) ⋯;have hm:x∈ É:=List.mem_of_mem_drop hx;have AA:x≠j:=λ q=>fn (q▸hm);lia
 .intro x hx;change x<=Ñ;have hx:x∈ Â2:=hx;rw[pl] at hx;rcases A5.mp hx with q | q
  .show T.top x (List.mem_of_mem_take q)
  .rcases Š q with e | e
   .subst e;rw[<- k1];show fh þ _
   .show T.top x (List.mem_of_mem_drop e)
 .intro i g x hg hx;change ∃ k,(way Ñ g k).j=x/\∀ k'<k,(way Ñ g k').j∈ Â2;have hx:(Ê)[i]?=↑x:=hx;rw[<- BP,pl] at hx;have Ao:Ź<=t.place.toList.length:=by exists b1
  have EA:Ź<=ģ:=by rw[<- T.len];show b1
  rcases nI Ao hx with ⟨c1,c2⟩ | ⟨c1,c2⟩ | ⟨c1,c2⟩ <;> rcases nI EA hg with ⟨d1,d2⟩ | ⟨d1,d2⟩ | ⟨d1,d2⟩ <;> first
   | lia
   | (subst c2 d2;show#[K,k1,λ k' hk=>old _ (k2 k' hk)])
   | (let#[k,g1,g2]:=T.lq _ g x d2 (by rw[<- BP];show c2)
      show#[k,g1,λ k' hk=>old _ (g2 k' hk)])
def qO (Í:ç) (j:Nat):Prop:=∃ k,ğ
theorem JZ {P:Nat->Bool}{n k:Nat}(h:(ÿ n).find? P=↑k):k<n/\P k=true/\∀ k'<k,P k'=č:=by
 let#[h1,as,bs,h2,h3]:=List.find?_eq_some_iff_append.mp h;have hlen:as.length=k:=by
  have e:(ÿ n)[as.length]?=↑k:=by rw[h2];simp
  have:=(AQ.mp e)
  let#[q1,q2]:=this;rw[DP] at q2;show q2
 have hk:k<n:=by
  have:k∈ ÿ n:=by rw[h2];simp
  show AO.mp this
 exact#[hk,h1,λ k' hk'=>?_];have:k'∈as:=by
  have e:(ÿ n)[k']?=↑k':=DH ⋯;rw[h2,Cq ⋯] at e;show AW e
 have:=h3 k' this;exists this
def getD_none {Í:ç}É9(h:((Ä8 j ↑0).isNone)=true):Í[j]?=↑none:=by
 unfold Array.getD at h;split at h
 .rename_i hj;have e:Í[j]=none:=by exists h
  rw[Bv hj,e]
 .simp at h
def Xs {Í:ç}É9(hj:j<ź) (h:((Ä8 j ↑0).isNone)=č):qO Í j:=by
 unfold Array.getD at h;rw[dif_pos hj] at h;cases q:Í[j] with
 | none=>simp[q] at h
 | some k=>show#[k,by rw[Bv hj,q]]
theorem Xv è (Í:ç) (hsz:ź=M+1) Ĉ:∀ (fuel n kn:Nat),way M h kn=nh M ā Ķ->(∀ q<kn,qO Í (way M h q).j)->
  (∃ n',n<=n'/\n'<n+fuel/\Í[(yb M h n').1]?=↑none)->
  ∃ j q,layClean.free M Í fuel ā Ķ=↑j/\(way M h q).j=j/\Í[j]?=↑none/\Ç2
 | 0,n,kn,_,_,#[n',h1,h2,_]=>⋯
 | fuel+1,n,kn,hk,ho,#[n',h1,h2,h3]=>by
  have hre:ħ M ā+1-ā=ħ M ā-ā+1:=by ext À7
  have hwalk:∀ m,m<=ħ M ā-ā->(way M h (kn+m)).j=ā+m:=λ m hm=>by rw[fZ M þ h kn hk m hm]
  unfold layClean.free;cases hf:(ÿ (ħ M ā+1-ā)).find? (λ k=>(Ä8 (ā+k) ↑0).isNone) with
  | some k=>
   let#[f1,f2,f3]:=JZ hf;exact#[_,kn+k,rfl,hwalk k ⋯,getD_none f2,λ q' hq=>?_];rcases Bn q' kn with w | w
   .show ho q' w
   .have e:(way M h q').j=ā+(q'-kn):=by
     have:=hwalk (q'-kn) ⋯
     rwa [show kn+(q'-kn)=q' by lia] at this
    have hle:=fh M h q';rw[e] at hle ⊢;show Xs ⋯ (f3 (q'-kn) ⋯)
  | none=>
   have f3:=Eh.mp hf;have occ:∀ m,m<=ħ M ā-ā->qO Í (ā+m):=λ m hm=>by
    have hle:=fh M h (kn+m);rw[hwalk m hm] at hle;show Xs ⋯ (Bool.eq_false_iff.mpr (f3 m (AO.mpr ⋯)))
   have AA:n'≠n:=λ e=>by
    subst e;let#[k,hk']:=occ 0 (AZ _);rw[Nat.add_zero] at hk';rw[hk'] at h3;cases h3
   ext ø;let#[j,q,r1,r2]:=Xv M Í hsz h fuel (n+1) _ (Zm M h n kn hk) (λ q hq=>by
    rcases Bn q kn with w | w
    .show ho q w
    .have e:=hwalk (q-kn) ⋯;rw[show kn+(q-kn)=q by lia] at e;rw[e];show occ _ ⋯) #[n',⋯,⋯,h3]
   show#[j,q,r1,r2]
structure Lay è (hs:Ä) (Í:ç) (m:Nat):Prop where
 size:ź=M+1
 Ĭ:∀ (j k:Nat),ğ->k<m
 each:∀ (k:Nat),k<m->∃ (j:Nat),ğ
 once:∀ (i j k:Nat),Í[i]?=↑↑k->ğ->i=j
 lq:∀ (j k:Nat) h,ğ->hs[k]?=↑h->∃ q,(way M h q).j=j/\Ç2
theorem Lay.none Ê1 Ĥ {hs:Ä}{Í:ç}{m:Nat}Ê0:Æ1:=by
 rcases Å7 (Æ1) with q | q
 .show q
 .exfalso;have AN:∀ (e:Nat),e<=M->∃ (k:Nat),Í[e]?=↑↑k:=λ e he=>by
   have Av:e<ź:=by rw[Ż];lia
   cases w:Í[e] with
   | none=>show absurd #[e,he,by rw[Bv Av,w]] q
   | some k=>show#[k,by rw[Bv Av,w]]
  have:=Yr (xs:=(ÿ Ď).map λ e=>((Í[e]?).getD ņ).getD 0) (ys:=ÿ m) (by
   exact C4.mpr (List.Pairwise.imp_of_mem ?_ Ek);intro a b ha hb AA e;exact AA ?_;let#[k,hk]:=AN a (by have:=AO.mp ha;lia);let#[k',hk']:=AN b (by have:=AO.mp hb;lia);rw[hk,hk'] at e;simp at e;subst e;show L.once a b k hk hk') (λ x hx=>by
   ext Ŵ;let#[k,hk]:=AN e (by have:=AO.mp he;lia);rw[hk];show AO.mpr (L.below e k hk))
  simp at this;lia
def jw õ{xs:ū α}{j i:Nat}{a b:α}(h:(xs.setIfInBounds j a)[i]?=↑b):(i=j/\b=a)\/(i≠j/\xs[i]?=↑b):=by
 rw[DG] at h;by_cases e:j=i
 .subst e;rw[î rfl] at h;split at h
  .cases h;show ŉ #[rfl,rfl]
  .cases h
 .rw[Ý e] at h;show .inr #[λ q=>e q.symm,h]
def Lay.step Ê1 Ĥ {hs:Ä}{Í:ç}{m:Nat}{h:Int}Ê0 (hh:hs[m]?=↑h):
  ∃ j,û=↑j/\Lay M hs (Ġ) (m+1):=by
 let#[e,e1,e2]:=L.none hM hm;let#[n',n1,n2]:=YD M hM h e e1;let#[j,q,r1,r2,r3,r4]:=Xv M Í Ż h (turns M) 0 0 rfl (λ q hq=>⋯) #[n',⋯,by unfold turns;lia,by rw[n2];show e2];have hj:j<ź:=(ó r3).1;have keep:∀ x,qO Í x->qO (Ġ) x:=λ x #[k,hk]=>by
  have AA:j≠x:=λ w=>by subst w;rw[r3] at hk;cases hk
  show#[k,by rw[DG,Ý AA];show hk]
 have self:(Ġ)[j]?=↑↑m:=by rw[DG,î rfl,î hj]
 exact#[j,r1,#[by simp[Ż],λ x k hx=>?_,λ k hk=>?_,λ x y k hx hy=>?_,λ x k g hx hg=>?_]]
 .rcases jw hx with ⟨_,w⟩ | ⟨_,w⟩
  .cases w;lia
  .have:=L.below x k w;lia
 .rcases Bn k m with w | w
  .let#[x,hx]:=L.each k w;have AA:j≠x:=λ w=>by subst w;rw[r3] at hx;cases hx
   show#[x,by rw[DG,Ý AA];show hx]
  .have:k=m:=⋯;subst this;show#[j,self]
 .rcases jw hx with ⟨w1,w⟩ | ⟨w1,w⟩ <;> rcases jw hy with ⟨v1,v⟩ | ⟨v1,v⟩
  .lia
  .cases w;have:=L.below y _ v;lia
  .cases v;have:=L.below x _ w;lia
  .show L.once x y k w v
 .rcases jw hx with ⟨w1,w⟩ | ⟨w1,w⟩
  .cases w;rw[hh] at hg;cases hg;subst w1;show#[q,r2,λ q' hq=>keep _ (r4 q' hq)]
  .let#[q,g1,g2]:=L.lq x k g w hg;show#[q,g1,λ q' hq=>keep _ (g2 q' hq)]
theorem YH Ê1 Ĥ {hs:Ä}(hl:ģ<=M+1):∀ (EX:Ä) (Í:ç) (m:Nat),m<=ģ->hs.drop m=EX->Lay M hs Í m->
  ∃ owner',EX.foldl (λ acc h=>do
   let (Í,k) <- acc
   let j <- û
   pure (owner.setIfInBounds j ↑k,k+1)) ↑(Í,m)=↑(owner',ģ)/\Lay M hs owner' ģ
 | [],Í,m,hl2,hd,L=>by
  have hm:ģ<=m:=List.drop_eq_nil_iff.mp hd;have e:m=ģ:=⋯;subst e;show#[Í,rfl,L]
 | h::EX,Í,m,hl2,hd,L=>by
  have hm:hs[m]?=↑h:=by
   have:=congrArg (λ l=>l[0]?) hd;exists this
  have Av:m<ģ:=(AQ.mp hm).1;let#[j,j1,j2]:=L.step hM ⋯ hm;have hd':hs.drop (m+1)=EX:=by
   have:=congrArg List.tail hd;exists this
  let#[o',h1,h2]:=YH hM hl EX _ (m+1) ⋯ hd' j2;exact#[o',?_,h2];rw[DF,<- h1];change _=_;congr 1;change ((û).bind λ j=>↑(Ġ,m+1))=_;rw[j1];rfl
theorem LU è (hs:Ä):Lay M hs (Array.replicate Ď ņ) 0:=by
 have no:∀ (j k:Nat),(Array.replicate Ď (ņ:Ã Nat))[j]?≠↑↑k:=λ j k h=>by
  rw[Array.getElem?_replicate] at h;split at h <;> cases h
 show#[#[],λ j k h=>absurd h (no j k),λ k hk=>⋯,λ i j k h=>absurd h (no i k),λ j k h e=>absurd e (no j k)]
theorem LV Ê1 Ĥ Á5:∃ Í,layClean M hashes=↑ Í/\Lay M hashes.toList Í hashes.size:=by
 let#[o,h1,h2]:=YH hM (hs:=hashes.toList) (by exists hl) hashes.toList _ 0 (AZ _) #[] (LU M _);exact#[o,?_,by exists h2];unfold layClean;rw[<- Array.foldl_toList,h1];rfl
def lives è (Í:ç):List (Nat×Nat):=(ÿ Ď).filterMap λ j=>(Ä8 j ņ).map (j,·)
theorem getD_some {Í:ç}{j k:Nat}:Ä8 j ņ=↑k↔ ğ:=by
 unfold Array.getD;split
 .rename_i h;rw[Bv h];simp
 .rename_i h;rw[CM ⋯];simp
theorem pF Ê1{Í:ç}(hs:ź=M+1) {j k:Nat}:(j,k)∈lives M Í ↔ ğ:=by
 unfold lives;rw[CQ];ext Ç5
 .rintro⟨x,hx,e⟩;let#[y,e1,e2]:=Ax.mp e;cases e2;show getD_some.mp e1
 .intro h;have hj:=(ó h).1;show#[j,AO.mpr ⋯,by rw[getD_some.mpr h];rfl]
def Y7 è (Í:ç):(lives M Í).Pairwise λ a b=>a.1<b.1:=by
 unfold lives;rw[List.pairwise_filterMap];exact List.Pairwise.imp ?_ List.pairwise_lt_range;intro a b B0 x hx y hy;let#[_,_,e1]:=Ax.mp hx;let#[_,_,e2]:=Ax.mp hy;subst e1 e2;show B0
def YJ Ê1 Ĥ (finger moves:Nat) (led plain:Bool) Á5:
  ∃ t order,laid M finger moves led plain hashes=↑(t,order)/\Ñ=M/\t.finger=finger/\t.led=led/\È1=plain/\order.toList.Perm (ÿ hashes.size)/\Tab t (order.toList.map È2):=by
 let#[Í,h1,L]:=LV hM hashes hl;exact#[_,_,by unfold laid;rw[h1];rfl,rfl,rfl,rfl,rfl,?_,?_]
 .change (ð Ŷ).toArray.toList.Perm _;rw[CZ];exact (Eg ?_ Ek).mpr λ k=>?_
  .exact C4.mpr (List.Pairwise.imp_of_mem ?_ (Y7 M Í));intro a b ha hb B0 e;have h2:=(pF Ż (j:=a.1) (k:=a.2)).mp ha;have h3:=(pF Ż (j:=b.1) (k:=b.2)).mp hb;have e:a.2=b.2:=e;rw[e] at h2;have:=L.once þ _ h2 h3;lia
  .rw[AO];ext Ç5
   .intro h;let#[#[j,k'],h2,rfl]:=Aw.mp h;show L.below j _ ((pF Ż).mp h2)
   .intro h;let#[j,hj]:=L.each k h;show Aw.mpr #[(j,k),(pF Ż).mpr hj,rfl]
 .have pl:∀ x,x∈ ð Į ↔qO Í x:=λ x=>by
   ext Ç5
   .intro h;let#[#[j,k],h2,rfl]:=Aw.mp h;show#[k,(pF Ż).mp h2]
   .rintro⟨k,hk⟩;show Aw.mpr #[(x,k),(pF Ż).mpr hk,rfl]
  exact#[hM,rfl,?_,?_,?_,?_]
  .change (ð Į).toArray.size=((ð Ŷ).toArray.toList.map _).length;simp
  .change tY Ž;rw[CZ];show C4.mpr (Y7 M Í)
  .intro x hx;change x<=M;have hx:x∈ Ž:=hx;rw[CZ] at hx;let#[k,hk]:=(pl x).mp hx;have:=(ó hk).1;rw[Ż] at this;lia
  .intro i g x hg hx;have hx:(ð Į).toArray[i]?=↑x:=hx;have hg:((ð Ŷ).toArray.toList.map È2)[i]?=↑g:=hg;rw[List.getElem?_toArray,AG] at hx;rw[CZ,AG,AG] at hg;let#[p,p1,p2]:=Ax.mp hx;rw[p1] at hg;simp![Ç9,Option.some.injEq] at hg;let#[j,k]:=p;cases p2;have hm:=(pF Ż).mp (AW p1);have hk:=L.below þ hm;let#[q,q1,q2]:=L.lq _ k g hm (by rw[<- hg];simp[hk]);exact#[q,q1,λ q' hq=>?_];change _∈ Ž;rw[CZ];show (pl _).mpr (q2 q' hq)
section
variable {Ð}
abbrev rk ĭ:HeapKind Ć (Ä):=tupleKind Ô
def items_int {ks:Ä}{vs:Ai}(h:ItemsAre Ô ks vs):∀ v∈vs,∃ n t,v=.int n t:=by
 induction h with
 | nil=>intro v hv;cases hv
 | cons h1 _ ih=>
  intro v hv;rcases Š hv with rfl | hv
  .let#[t,e]:=Value.isInt_shape h1;show#[_,t,e]
  .show ih v hv
def Ys {ks:Ä}Ą Ļ(hk:ĉ Ô Ă ks a) (h:Q č s):ü Ç (ofAClassStatement 8 È3) Œ:=by
 ext Ŏ;unfold ofAClassStatement;exact gV (wpAny_typeOf hT ?_);change ü þ (pure true >>= _) þ s;exact gV Ę;ext Ē;exact gV (zaE ho hd ?_);ext ø;ext Ò
 .ext ń;let#[m,t,rfl]:=AN v Au;change ü þ (pure č >>= _) þ _;exact gV Ę;ext Ĳ;show Ae #[rfl,rfl,ž]
 ext á
def KL {ks:Ä}Ą Ļ(hk:ĉ Ô Ă ks a) (h:Q true s):ü Ç (hashByValue 8 È3) Œ:=by
 ext Ŏ;unfold hashByValue;exact gV (wpAny_specialOf hT F.slot_tuple_hash.lookup ?_);ext ø;exact gV (zaE ho hd ?_);ext Ò
 .ext ń;let#[m,t,rfl]:=AN v Au;change ü þ (pure true >>= _) þ _;exact gV Ę;ext Ē;show Ae #[rfl,rfl,ž]
 ext á
def UY {ks:Ä}{b:Addr}Ļ(hk:ĉ Ô Ă ks b) (l:Ai) (hl:∀ v∈l,È4) (h:Q č s):
  ü Ç (searchCouldBeSeen (ê b) l) Œ:=by
 unfold searchCouldBeSeen;exact gV ?_;exact wpAny_forIn_list _ (λ EX r s'=>r.1=none/\s'=s/\∀ v∈EX,È4) _ ?_ ?_ þ #[rfl,rfl,hl]
 .ext ń;let#[k,c,rfl,hc]:=AN v Au;have rest':∀ u∈EX,∃ k c,u=È5 c/\ĉ Ô s'.heap k c:=ž;ext ø;by_cases e:(b == c||(carriedByValue (ê b)&&carriedByValue (ê c)))=true
  .rw[î e];show Ae #[rfl,rfl,rest']
  .rw[Ý e];exact gV ((rk Ć).quiet hk ?_);ext Ē;exact gV ((rk Ć).quiet hc ?_);ext Ē;exact gV (Ys hk ?_);ext Ĳ;exact gV (Ys hc ?_);ext Ĳ;show Ae #[rfl,rfl,rest']
 ext á
structure qS (h:Heap) (es:Þ) (t:Ĕ) (xs:Đ):Prop where
 es:es.toList=Ħ λ e=>Ã5
 is:∀ e∈xs,ĉ Ô h e.1 e.2
 tab:Tab t (ă)
 kg:Ó<=Ñ
theorem qS.fits Ŕ:t.fits ä=true:=by
 have hl:ä=Ó:=Ċ
 have h1:=X.tab.len;rw[AM] at h1;have h2:=X.kg;unfold SetTable.fits SetTable.fill;rw[X.tab.qB,hl,h1];simp;lia
def qS.at Ŕ À3{e:Ä ×Addr}(he:xs[i]?=↑e):es[i]?=↑ Ã5:=by
 rw[<- BP,X.es,AG,he];rfl
theorem Zk Ą{o:Obj}Â{xs:Đ}{key:Ä}{b:Addr}{Q:SetFound->Ü}
  Ä1 (ho:ď a=↑o) (hd:o.data=.set ĳ) (X:qS ĝ Ă es t xs) (hb:ĉ Ô Ă key b)
  (h1:key∈ Ú->Q (.there none) s) (h2:key∉ Ú->∀ j,bL t ö j->Q (.free j č) s):
  ∀ (fuel k:Nat) (stand:Ã Probe),stand.getD (t.probeStart ö)=way Ñ ö k->(∀ m<k,ĩ)->(∃ K,k<=K/\K<k+fuel/\K<10*(Ñ+15)/\(way Ñ ö K).j∉ É/\∀ m<K,(way Ñ ö m).j∈ É)->
   ü Ç (Ã6 Â5 stand) Œ
 | 0,k,stand,_,_,#[K,q1,q2,_]=>⋯
 | fuel+1,k,stand,AD,hpast,#[K,q1,q2,q3,q4,q5]=>by
  have T:=X.tab;have ED:t.gaveWay=č:=by
   unfold SetTable.gaveWay;rcases T.mask with e | e | e <;> rw[e] <;> rfl
  unfold Ã6;ext Æ4;rw[ED];ext Ĳ;have hA:∀ ï g,(ă)[i]?=↑g->((es[i]?).map Į).getD 0=g:=λ i g hg=>by
   ext Å1;rw[X.at e1];show e2
  let#[k1,g1,g2,g3]:=Xq T (hashAt:=λ i=>((es[i]?).map Į).getD 0) hA ö (10*turns Ñ) k #[K,q1,by unfold turns;lia,q4];rw[AD];have look:∀ ï g,(ă)[i]?=↑g->∃ e,xs[i]?=↑e/\Á e.1=g:=λ i g hg=>by
   ext Å1;show#[e,e1,e2]
  have hpast':∀ m<k1,ĩ:=λ m hm=>by
   rcases Bn m k with c | c
   .show hpast m c
   .let#[i,g,p1,p2,p3]:=g2 m c hm;let#[e,e1,e2]:=look i g p2;show#[i,e,p1,e1,λ q=>p3 (by rw[<- e2,q])]
  rcases g3 with ⟨n1,n2⟩ | ⟨i,n1,n2,n3⟩
  .have n2':t.probe _ ö (way Ñ ö k)=_:=n2;simp![SetTable.probe] at n2' ⊢
   erw [n2]
   ext ø;exact Ae (h2 (λ hm=>?_) _ #[n1,k1,rfl,λ m hm=>?_])
   .let#[e,he,ek]:=Aw.mp hm;let#[i,hi]:=Co.mp he;have hh:(ă)[i]?=↑ ö:=by rw[AG,hi,<- ek];rfl
    have hil:i<Ģ:=by rw[T.len];show (AQ.mp hh).1
    let#[kk,w1,w2]:=T.lq i þ hh (Bv hil);rcases DI kk k1 with c | c | c
    .let#[i',e',p1,p2,p3]:=hpast' kk c;rw[w1] at p1;have:i=i':=by
      rw[<- below_at T.vt (Bv hil),<- below_at T.vt p1]
     subst this;rw[hi] at p2;cases p2;show p3 ek
    .subst c;rw[w1] at n1;show n1 #[]
    .show n1 (w2 k1 c)
   .let#[i',e',p1,_]:=hpast' m hm;show AW (by rw[BP];show p1)
  .simp![SetTable.probe]
   erw [n3]
   ext ø;let#[e,e1,e2]:=look i _ n2;have DZ:=X.at e1;have hey:=X.is e (AW e1);have main:ü Ç (holding [ý] (eqBool (ê e.2) (ê b)) >>= λ equal=>setState a >>= λ x=>match x with
     | (es',_,t')=>if (true&&equal)=true then pure (SetFound.there none) else
      match t'.sameMemory t.moves Ñ with
      | some same=>
       have jp:=λ still=>match still with
        | none=>do
         rule "set.search.anew"
         Ã6 Â5 none
        | some i'=>if equal=true then pure (SetFound.there ↑i') else Ã6 Â5 ↑(way Ñ ö (k1+1))
       match if same=true then t'.slot (way Ñ ö k1).j else Slot.empty with
       | .live i'=>match es'[i']? with
        | some (_,y')=>do
         let r <- isSame y' (ê e.2)
         let still <- pure (if r=true then ↑i' else none)
         jp still
        | none=>do
         let still <- pure none
         jp still
       | _=>do
        let still <- pure none
        jp still
      | _=>È6 "set.changed-during-lookup:is-the-new-block-at-the-old-address") Œ:=by
    exact gV (za9 ((rk Ć).eqBool hu hey hb ?_));ext Æ4;by_cases hk:e.1=key
    .rw[za3 hk];simp![DM,if_true];show Ae (h1 (Aw.mpr #[e,AW e1,hk]))
    .rw[za2 hk];simp![CO,Bs,if_false];have sm:t.sameMemory t.moves Ñ=↑true:=by unfold SetTable.sameMemory;simp
     rw[sm];ext ø;rw[î rfl,T.live n1];ext ø;rw[DZ];ext ø;exact gV (wpAny_isSame_ref_self ?_);exact gV Ę;rw[î rfl];ext ø;have hKk:k1<K:=by
      rcases DI K k1 with c | c | c
      .let#[i',e',p1,_]:=hpast' K c;show absurd (AW (by rw[BP];show p1)) q4
      .subst c;show absurd (AW (by rw[BP];show n1)) q4
      .show c
     exact Zk hu ho hd X hb h1 h2 fuel (k1+1) _ rfl (λ m hm=>?_) #[K,⋯,⋯,q3,q4,q5];rcases Bn m k1 with c | c
     .show hpast' m c
     .have:m=k1:=⋯;subst this;show#[i,e,n1,e1,hk]
   rw[DZ];by_cases hl:t.led=true
   .rw[hl];ext Ē;show main
   .have hl':t.led=č:=by exists hl
    rw[hl'];simp![CT,if_true];exact gV (UY hb _ (λ v hv=>?_) ?_)
    .let#[p,hp,rfl]:=Aw.mp hv;rw[Array.toList_filter,A7,X.es] at hp;let#[#[e',he',rfl],_]:=(And.intro (Aw.mp hp.1) hp.2)
     show#[e'.1,e'.2,rfl,X.is e' he']
    .ext Ĳ;show main
structure qJ ĭ (h:Heap) (a:Addr) (xs:Đ) (led:Bool):Prop where
 ex:∃ es ep t,ô/\qS ĝ h es t xs/\t.led=led/\È1=true/\Ó*5<Ñ*3
 nd:(Ú).Nodup
def fy {h h':Heap}{ks:Ä}{b a:Addr}Â{c:ı}{d:Ã Addr}{sl:ū (Ã ı)}(x:ĉ Ô h ks b) (ho:h.get? a=↑{ cls:=c,dict:=d,data:=.set ĳ,slots:=sl }) (hs:ſ a h h'):ĉ Ô h' ks b:=by
 let#[o',items,n,ho',hc,hd',hi]:=x;have AA:b≠a:=by
  rintro rfl;obtain rfl:o'=_:=Be (ho'.symm.trans ho);cases hd'
 show#[o',items,n,(hs.2 b AA).trans ho',hc,hd',hi]
theorem j8 {h:Heap}Ą{es es':Þ}{ep:Nat}{t t':Ĕ}(ho:ô):(h.update a (À0 es' t')).get? a=↑{ cls:=å,dict:=none,data:=.set es' (ep+1) t' }:=by
 have e:À0 es' t' { cls:=å,dict:=none,data:=.set ĳ }={ cls:=å,dict:=none,data:=.set es' (ep+1) t' }:=putSet_of es' t' rfl;have:=za8 (À0 es' t') ho (by rw[e];rfl);rw[e] at this;show this
theorem eI {α β:Type}(l:ć) (f:α->β) (d:β):∀ (order:Ō),(∀ k∈order,k<l.length)->order.map (λ k=>(l.map f).getD k d)=(order.filterMap λ k=>l[k]?).map f
 | [],_=>rfl
 | k::order,h=>by
  have hk:=h k Au;have ih:=eI l f d order λ j hj=>h j (Ay _ hj);rw[Az,Dc,A8 hk];ext ø;rw[Az,ih];congr 1;simp[hk]
def SU Ą Â{xs:Đ}{led:Bool}{wanted M:Nat}{Q:Unit->Ü}
  (ho:ď a=↑{ cls:=å,dict:=none,data:=.set ĳ }) (X:qS ĝ Ă es t xs) (BM:t.led=led) (Ao:È1=true) Ĥ (hw:sizeAbove wanted=M+1) (AX:Ó*5<M*3) (BQ:(Ú).Nodup)
  (h:∀ h' E8,ſ a Ă h'->qJ Ć h' a E8 led->E8.Perm xs->Q Unit.unit { s with heap:=h' }):ü Ç (setRelay a wanted) Œ:=by
 have hlen:ä=Ó:=Ċ
 have EN:(es.map Į).toList=ă:=by rw[Array.toList_map,X.es,A3];rfl
 have hsz:(es.map Į).size=Ó:=by rw[C6,hlen]
 let#[t',order,h1,h2,h3,h4,h5,h6,h7]:=YJ hM t.finger (t.movedTo M) t.led È1 (es.map Į) (by rw[hsz];lia);rw[hsz] at h6;have Av:∀ k∈order.toList,k<Ó:=λ k hk=>by exists h6.mem_iff.mp hk
 unfold setRelay;exact ś;ext ø;rw[Ý (by rw[hw];rcases hM with e | e | e <;> rw[e] <;> decide)];have hr:t.relaid (es.map Į) wanted=↑(t',order):=by
  unfold SetTable.relaid;rw[hw,Nat.add_sub_cancel];show h1
 rw[hr];have BZ:(ą).toList=(Â8).map λ e=>Ã5:=by
  rw[Array.toList_filterMap,List.map_filterMap];congr 1;funext k;rw[<- BP,X.es,AG]
 have E5:(Â8).Perm xs:=(h6.filterMap _).trans (by rw[List.filterMap_getElem?_range_length]);have BS:(ą).size=ä:=by
  rw[<- BG,BZ,AM,Å8,hlen]
 exact gV (m:=_) ?_;change ü þ (do
  let ↑(t,order):=↑(t',order) | È6 "internal:set-table-without-room"
  let es':=ą
  if es'.size != ä then È6 "internal:set-table-lost-an-element"
  pure (es',t)) þ _
 ext ø;rw[Ý (by rw[BS];simp)];exact Ae ?_;have BU:(ą).size<=ě:=by
  rw[BS,hlen];have:ě=16777216:=rfl;rcases hM with e | e | e <;> subst e <;> lia
 exact Å9;have sb:=Ī Ă a (À0 (ą) t');exact h þ sb #[#[_,ep+1,t',j8 ho,#[BZ,λ e he=>fy (X.is e (E5.mem_iff.mp he)) ho sb,?_,?_],by rw[h4];show BM,by rw[h5];show Ao,?_],(E5.map _).nodup_iff.mpr BQ] E5
 .rw[<- eI xs (λ e=>Á e.1) 0 order.toList Av,<- EN];show h7
 .rw[Å8,h2];lia
 .rw[Å8,h2];show AX
theorem Zh (n:Nat) è Ĥ (h1:n*5<M*3) (h2:M*3<=(n+1)*5) (hn:n<70):∃ M',uq M'/\sizeAbove (grown (n+1))=M' + 1/\(n+1)*5<M'*3:=by
 rcases hM with e | e | e <;> subst e
 .have:n=4:=⋯;subst this;show#[31,.inr (ŉ rfl),AU,⋯]
 .have:n=18:=⋯;subst this;show#[127,.inr (.inr rfl),AU,⋯]
 .lia
def GC Ą{xs:Đ}{key:Ä}{b:Addr}{led:Bool}Ļ Ä1 (S:qJ Ć Ă a xs led) (hb:ĉ Ô Ă key b) (hn:Ó<70)
  (h:∀ h' E8 r,ſ a Ă h'->qJ Ć h' a E8 led->(Ő)->Q r { s with heap:=h' }):
  ü Ç (setAddHashed a (ê b) ö) Œ:=by
 let#[Á1,BQ]:=S;have hlen:ä=Ó:=Ċ
 unfold setAddHashed setAddHashedIn;exact za9 (ś);ext ø;rw[Ý (by simp[byScan,Value.scannable])];let#[K,k1,k2,k3]:=X.tab.first (by rw[AM];show X.kg) ö;have hmk:Ñ<=127:=Â1
 exact gV ?_;unfold setSearch;exact Zk (key:=key) (b:=b) hu ho rfl X hb (λ hm=>?_) (λ hm j F=>?_) 100000 0 none rfl (λ m hm=>⋯) #[K,⋯,⋯,k1,k2,k3]
 .ext ø;exact Ae ?_;have:=h Ă xs č #[rfl,λ _ _=>rfl] #[Á1,BQ] (ŉ #[hm,rfl]);show this
 .ext ø;exact ś;ext ø;let#[p1,p2,p3]:=X.tab.put F;rw[AM] at p1;have CD:(ķ).1.plain=true:=by rw[p2];show Ao
  have Cc:(ķ).1.mask=Ñ:=by rw[p2]
  have Av:(ķ).1.led=led:=by rw[p2];show BM
  generalize hT:(ķ)=P at *;let#[t1,p]:=P;dsimp only at *;rw[CD];simp![if_true];exact gV (KL hb ?_);simp![if_true];let xs1:=ŭ++(key,b)::Ã4
  have E5:xs1.Perm (xs++[(key,b)]):=by
   have e:ŭ++Ã4=xs:=Ej p xs;have:xs1.Perm ((key,b)::(ŭ++Ã4)):=List.perm_middle;rw[e] at this;show this.trans (List.perm_append_singleton þ).symm
  have hl1:xs1.length=Ó+1:=by rw[Å8];simp
  have hes1:(Î).toList=xs1.map λ e=>Ã5:=by
   rw[toList_insertAt,X.es];simp[xs1,DE,DD]
  have hsz1:(Î).size=Ó+1:=by rw[<- BG,hes1,AM,hl1]
  have BU:(Î).size<=ě:=by
   rw[hsz1];have:ě=16777216:=rfl;lia
  exact gV (Å9);have sb:=Ī Ă a (À0 (Î) t1);have ho1:=j8 (es':=Î) (t':=t1) ho;have hm7:7<=Ñ:=Â1
  have X1:qS ĝ (s.heap.update a (À0 (Î) t1)) (Î) t1 xs1:=by
   exact#[hes1,λ e he=>?_,?_,by rw[hl1,Cc];lia]
   .rcases A5.mp (E5.mem_iff.mp he) with q | q
    .show fy (X.is e q) ho sb
    .cases È7;show fy hb ho sb
   .have:xs1.map (λ e=>Á e.1)=(ă).take p++Á key::(ă).drop p:=by simp[xs1,DE,DD]
    rw[this];show p3
  have hnd1:(xs1.map Į).Nodup:=by
   exact (E5.map _).nodup_iff.mpr ?_;rw[Bu,List.nodup_append];exact#[BQ,#[],λ x hx y hy=>?_];simp at hy;subst hy;show λ e=>hm (e▸hx)
  by_cases hf:t1.tooFull=true
  .rw[hf];simp![CT,DM,if_true];have hfill:t1.fill=Ó+1:=by
    ext Â0
   have hfull:Ñ*3<=(Ó+1)*5:=by
    have:=hf;ext ŏ
   let#[M',g1,g2,g3]:=Zh Ó Ñ X.tab.mask AX hfull hn;rw[hlen];exact gV (SU (led:=led) ho1 X1 Av CD g1 g2 (by rw[hl1];show g3) hnd1 λ h' E8 sb' S' pm=>?_);exact Ae ?_;show h h' E8 true (sb.trans sb') S' (.inr #[hm,pm.trans E5])
  .have hf':t1.tooFull=č:=by exists hf
   rw[hf'];simp![CT,CO,Bs,if_false];exact Ae ?_;have hfill:t1.fill=Ó+1:=by
    ext Â0
   have hfull:(Ó+1)*5<Ñ*3:=by
    have:=hf';ext ŏ
   show h _ xs1 true sb #[#[_,ep+1,t1,ho1,X1,Av,CD,by rw[hl1,Cc];show hfull],hnd1] (.inr #[hm,E5])
end
def rD ű:Bool:=! Å
def vq ű:Obj:={ cls:=å,dict:=none,data:=.set Ä7 0 (.fresh 0 0 (rD w)) }
section
variable {Ð}
set_option Ã7 3200000 in
def Hj (a:ı) {Q:Aj}(h:Q È8 { s with heap:=Û À1 }):
  codeAny Ç (.call (.builtin "set.__new__") Æ2) (wants Q E) s:=by
 exact codeAny_of_tree ?_;change ü _ A.in1 (checkBuiltinCall "set.__new__" Æ2 >>= λ _=>again (.builtin "set.__new__" Æ2)) þ s;exact gV (wpAny_of_eq (F.newCall_set_1 a) (Ae #[Ã8 F.plain_set_new _,Ŋ F.entry_set_new ?_]));rw[Ň F.plain_set_new _];unfold Builtin.«set.__new__» Builtin.Frozenset.newClass newSet setsByText;have sub:=sub_set_self;let#[hp,g,d,tk,os]:=s;ext ø
 wp_walk
 exact zaN Ę;ext ø;simp![newObj];show gV (wpAny_alloc (Ae (Ae h)))
def S8 {h:Heap}Ą(ho:h.get? a=↑ À1):qJ Ć h a [] (rD w):=
 #[#[Ä7,0,_,ho,#[rfl,λ e he=>(by cases he),#[ŉ rfl,rfl,rfl,.nil,λ j hj=>(by cases hj),λ i g j hg=>(by cases hg)],#[]],rfl,rfl,by change 0*5<7*3;lia],.nil]
end
end ST
namespace ST
open PySem ŗ ŷ
section
variable {κ β:Type}[DecidableEq κ]{val:κ->β->ı}{Ab:AB}{ks:List κ}{À3}{xs E8:ŀ}
structure Up Á6 ï (xs:ŀ):Prop where
 own:∀ e∈xs,∃ j,j<i/\Ab[j]?=↑(val e.1 e.2)/\ks[j]?=↑e.1
 all:∀ (j:Nat) r,j<i->ks[j]?=↑r->r∈ Ú
theorem eW:∀ (l m:List κ),l.Nodup->(∀ x∈l,x∈m)->l.length<=m.length
 | [],m,_,_=>AZ _
 | x::l,m,hn,hs=>by
  have h1:=Bo.mp hn;have hx:=hs x Au;have:=eW l (m.erase x) h1.2 λ z hz=>(List.mem_erase_of_ne (λ e:z=x=>h1.1 (by rw[<- e];show hz))).mpr (hs z (Ay _ hz));rw[List.length_erase_of_mem hx] at this;have:=List.length_pos_of_mem hx;simp![A1];lia
def Up.len (U:Up Ľ i xs) (nd:(Ú).Nodup):Ó<=i:=by
 have:=eW (Ħ λ e=>↑e.1) ((ÿ i).map λ j=>ks[j]?) (by
  have:(Ħ λ e=>↑e.1)=(Ú).map some:=by rw[A3];rfl
  rw[this];show List.Pairwise.map _ (λ a b h e=>h (Be e)) nd) λ x hx=>by
  ext Ŵ;let#[j,h1,_,h3]:=U.own e he;show Aw.mpr #[j,AO.mpr h1,h3]
 exists this
def Up.step {key:κ}{b:β}(U:Up Ľ i xs) (hi:Ab[i]?=↑(val key b)) (hr:ks[i]?=↑key)
  (h:Ő):Up Ľ ō E8:=by
 have eqi:∀ j:Nat,j<i+1->¬ j<i->j=i:=λ j a b=>⋯;rcases h with ⟨hm,rfl⟩ | ⟨_,hp⟩
 .exact Ä9
  .let#[j,h1,h2]:=U.own e he;show#[j,B_ h1,h2]
  .by_cases q:j<i
   .show U.all j r q CB
   .rw[eqi j hj q,hr] at CB;cases CB;show hm
 .exact Ä9
  .rcases A5.mp (hp.mem_iff.mp he) with q | q
   .let#[j,h1,h2]:=U.own e q;show#[j,B_ h1,h2]
   .cases È7;show#[i,B5 i,hi,hr]
  .rw[(hp.map Į).mem_iff,Bu];by_cases q:j<i
   .show B4 _ (U.all j r q CB)
   .rw[eqi j hj q,hr] at CB;cases CB;show A2 _ Au
structure Kd ĭ (A:Around) Á6 (Sa:Addr) (wr:List Addr) (Se:Heap->ŀ->Prop) (Tp:Heap->Prop):Prop where
 nd:∀ {h xs},Se h xs->(Ú).Nodup
 keep:∀ {h h' xs i},(∀ b o,b∉wr->ň)->Up Ľ i xs->Se h xs->Se h' xs
 jZ:∀ {h h'},(∀ b o,b∉Sa::wr->ň)->Tp h->Tp h'
 add:∀ {s:Shared}{xs:ŀ}À3{v:ı}Ļ{E:Aj},Tp Ă->Se Ă xs->Ó<70->š->
  (∀ h' tk E8 rr k b,v=val k b->ks[i]?=↑k->ſ Sa Ă h'->s.toks<=tk->Se h' E8->(k∈ Ú/\E8=xs\/k∉ Ú/\E8.Perm (xs++[(k,b)]))->Q rr { s with heap:=h',toks:=tk })->
  ü Ç (setAdd Sa v) Œ
variable {đ}{A:Around}{R:Result->Ü}{I:Addr}{fp wr:List Addr}{G:ū GenState->ū GenState->Prop}{n:Nat}{P:Nat->ı->Prop}{St:Nat->Ü}{Sa:Addr}{Se:Heap->ŀ->Prop}{Tp:Heap->Prop}
def Y3 (W:WalksS Ć A.in1 I fp wr G n (λ i v=>P i v) St) (D:Kd Ć A.in1 Ľ Sa wr Se Tp) (hSf:Sa∉fp) (hP:∀ i v,P i v->š) (hn:n<70):
  ∀ (k i:Nat) (s:Shared) (xs:ŀ),n-i=k->i<=n->St i s->Se Ă xs->Tp Ă->Up Ľ i xs->
   (∀ s' E8,Moved (Sa::wr) G s s'->Se s'.heap E8->Up Ľ n E8->R (.ok (.ret .none)) s')->
   codeAny Ç (.builtin "set.update.loop" #[[ê Sa,ê I],[]]) R s:=by
 have more:∀ b∈wr,b∈Sa::wr:=λ b hb=>Ay _ hb;intro k
 induction k with
 | zero=>
  intro i s xs hk hi AD hS hT hU hR;have e:i=n:=⋯;subst e;ext ã;show gV (W.done s þ AD λ s' hm=>Ae (hR s' xs (hm.mono more) (D.keep hm.heap hU hS) hU))
 | succ k ih=>
  intro i s xs hk hi AD hS hT hU hR;have Av:i<n:=⋯;ext ã;exact gV (W.item i s þ Av AD λ v s1 hPv hst1 hm=>?_);have hv:=hP i v hPv;have T1:=D.jZ (λ b o hb e=>hm.heap b o (λ z=>hb (more _ z)) e) hT;have hl:Ó<70:=by have:=hU.len (D.nd hS);lia
  change ü _ A.in1 (holding [v] (setAdd Sa v) >>= _) þ s1;exact gV (za9 (D.add T1 (D.keep hm.heap hU hS) hl hv λ h' tk E8 rr key b ev hr sb ht S' hx=>?_));subst ev;have fr:=W.frame ō s1 h' tk hst1 ht λ c hc o e=>(sb.2 c (λ z:c=Sa=>hSf (z▸hc))).trans e;exact Ae #[Ã8 F.plain_set_update_loop _,ih ō _ E8 ⋯ Av fr S' (D.jZ (λ c o hc e=>Â3) T1) (hU.step hv hr hx) λ s2 xs2 hm2 S2 U2=>?_];exact hR s2 xs2 (Moved.trans W.gtrans ((hm.mono more).then_heap ht λ c o hc e=>?_) hm2) S2 U2;show Â3
end
section
variable {đ}{A:Around}{Ab:AB}{rows:Ť}{Sa:Addr}{wr:List Addr}
def mh ĭ (h:Heap) (Ab:AB) (rows:Ť):Prop:=∀ ï v,š->∃ b r,v=ê b/\rows[i]?=↑r/\ĉ Ô h r b
def mh.at {h h':Heap}(T:mh Ć h Ab rows) (k:∀ ï b,Ab[i]?=↑(ê b)->∀ o,ň):mh Ć h' Ab rows:=λ i v hv=>by
 let#[b,r,rfl,h1,o,items,m,h2,h3]:=T i v hv;show#[b,r,rfl,h1,o,items,m,k i b hv o h2,h3]
abbrev aK:Ä->Addr->ı:=λ _ b=>ê b
def Km {led:Bool}(hSw:Sa∉wr) Ä1 (Dk:∀ ï b,Ab[i]?=↑(ê b)->b∉Sa::wr):Kd Ć A aK Ab rows Sa wr (λ h xs=>qJ Ć h Sa xs led) (λ h=>mh Ć h Ab rows) where
 nd:=λ S=>S.nd
 keep:=λ{h h' xs i} k U S=>by
  let#[#[es,ep,t,ho,X,r],nd]:=S;exact#[#[es,ep,t,k Sa _ hSw ho,#[X.es,λ e he=>?_,X.tab,X.kg],r],nd];let#[o,items,m,g1,g2]:=X.is e he;let#[j,_,h2,_]:=U.own e he;show#[o,items,m,k þ (λ z=>Dk j e.2 h2 (Ay _ z)) g1,g2]
 jZ:=λ k T=>T.at λ i b hi o e=>k b o (Dk i b hi) e
 add:=λ{s xs i v Q E} T S hl hv hQ=>by
  let#[b,r,rfl,hr,hb]:=T i v hv;unfold setAdd;exact za9 (gV ((rk Ć).pyHash (k:=r) (a:=b) (A:=A) hu hb ?_));show GC (s:={ s with toks:=s.toks+(rk Ć).draws r }) (A:=A) hu S hb hl λ h' E8 rr sb S' hx=>hQ h' _ E8 rr r b rfl hr sb (CL þ) S' hx
end
section
variable {Ð}
set_option Ã7 6400000 in
def WA {κ β:Type} [DecidableEq κ] {val:κ->β->ı}{ks:List κ}{Se:Heap->ŀ->Prop}{Tp:Heap->Prop}{l:Addr}{Ab:AB}{Q:Aj}Č Ų (hn:Ab.size<70)
  (D:Kd Ć A.in1.in1.in1 Ľ À [À+1] Se Tp) (hS0:∀ h,h.get? À=↑ À1->Se h []) (hT0:∀ h,(∀ b o,ď b=↑o->h.get? b=↑o)->Tp h)
  (h:∀ Ä2 xs,Se h' xs->Up Ľ Ab.size xs->ų):
  È9:=by
 let#[c,tl,hmro]:=F.called_set.mro;have made:=F.called_set.made;have subm:=F.called_set.sub;exact wpAny_call (codeAny_of_tree ?_);change ü þ (callAny (å) _) þ _;exact Ae #[Code.quiet_builtin _ (AU),Ŋ F.entry_type_call ?_];rw[Around.under_plain (weight_type_call_type "set" [ê l] []) rfl];have nt:=F.called_set.notType;have cc:=F.called_set.canCreate;have tc:=F.typeCall_set_1 (ê l)
 ext Ě
 exact codeAny_mono (Hj (ê l) (E:=E) (Q:=λ obj s₁=>obj=ê À/\s₁={ s with heap:=Û À1 }) #[rfl,rfl]) λ r s₁ hr=>?_;cases r with
 | error e=>show hr
 | ok fl=>
  cases fl with
  | ret obj=>
   let#[rfl,rfl]:=hr;have hS:(Û À1).get? À=↑ À1:=Ç3;have hTy:Shared.TypeIs { s with heap:=Û À1 } È8 "set":=#[_,hS,rfl];have li:=F.called_set.init.lookup;have bi:=F.called_set.init.bind È8
   ext Ě
   let s1:Shared:={ s with heap:=Û À1 }
   exact codeAny_mono (codeAny_call_builtin (R:=wants (λ r s₂=>r=.none/\∃ h' tk xs,s₂={ s with heap:=h',toks:=tk }/\Se h' xs/\Up Ľ Ab.size xs/\
     æ) E) F.called_set.init.plain F.entry_set_init (check_set_init_1 hTy ?_)) λ r₂ s₂ hr₂=>?_
   .have hsz:Ł=À+1:=Heap.size_push þ;have szne:À ≠ Ł:=by rw[hsz];show AF (B5 _)
    have low:∀ b:Addr,b<À->b≠ Ł:=λ b hb=>by rw[hsz];show AF (B_ hb)
    rw[<- hsz] at D;rcases hl with hl | hl
    all_goals
     let#[#[ocls,odict,odata,oslots],hol,CK,nl,hdl]:=id hl;simp only at CK hdl;subst CK hdl;have hol1:=tp À1 hol;have sls:=F.sub_list_set;have slf:=F.sub_list_frozenset;have sts:=F.sub_tuple_set;have stf:=F.sub_tuple_frozenset;have nd:(Value.type "list" == Value.type "dict")=č:=()
     have nd':(Value.type "tuple" == Value.type "dict")=č:=()
     have hlS:l<À:=Ar hol;have hneI:l≠ Ł:=low l hlS;have hl1:=hl.push À1;unfold Builtin.«set.__init__» noKeywords Builtin.Frozenset.updateFrom;generalize hPI:pyIter=PI;unfold vq at *
     wp_walk
     subst hPI
     first | exact zaM hl1 (gV (wpAny_runValue ?_)) | exact zaP hl1 (gV (wpAny_runValue ?_))
     first
      | exact Y3 (A:=A.in1.in1) (P:=λ i v=>š) ((Walks.list À9).toS) Æ5
      | exact Y3 (A:=A.in1.in1) (P:=λ i v=>š) ((Walks.tuple À9).toS) Æ5
     .intro hm;ext Ç8
      .show szne q
      .show Bp hlS (È7)
     .show hS0 _ (tp _ hS)
     .show hT0 _ λ b o e=>tp _ (tp _ e)
     .intro s' E8 hm S' U';ext í;exact Ae (Ae #[rfl,h',tk',E8,rfl,S',U',λ b o hb e=>?_]);exact hm.heap b o (λ q=>?_) (tp _ (tp _ e));rcases Š q with q | q
      .show AF hb q
      .show low b hb (È7)
   .cases r₂ with
    | error e=>show hr₂
    | ok fl₂=>
     cases fl₂ with
     | ret r=>
      let#[rfl,h',tk,xs,rfl,g1,g2,g3]:=hr₂
      ext Ě
      show h h' tk xs g1 g2 g3
     | _=>show hr₂.elim
  | _=>show hr.elim
def HE {l:Addr}{Ab:AB}{rows:Ť}{Q:Aj}Č (hu:A.units+64<cLine) Ų (hT:mh Ć Ă Ab rows) (hn:Ab.size<70)
  (h:∀ Ä2 xs,qJ Ć h' À xs (rD w)->Up aK Ab rows Ab.size xs->ų):
  È9:=by
 exact WA hh hl hn (Km #[] (show A.units+1+1+1<cLine by lia) λ i b hb hm=>?_) (λ h e=>S8 e) (λ h k=>hT.at λ i b _ o e=>k b o e) h;let#[b',r,e,_,o,_,_,ho,_]:=hT i _ hb;cases e;have:=Ar ho;ext Ç8
 .show AF this q
 .show AF (B_ this) (È7)
end
end ST
namespace ST
open PySem ŗ
section facts
def ZZ:Manifest.owners.lookup (String.ofList ['r','o','t','a','r','e','t','i','_','t','e','s'].reverse)=↑Manifest.sig_set_iterator:=ĸ
def nc:Slot "set_iterator" "__next__" "set_iterator.__next__":=
 .of (Í:="set_iterator") (n:="__next__") ß
def XO:entryFor table "set_iterator.__next__"=↑Builtin.«set_iterator.__next__»:=entryFor_of_tree (ĸ)
theorem Vi (a:ı):argsOk "set_iterator.__next__" #[[a],[]]:=by
 unfold argsOk;rw[signature?_of (id:="set_iterator.__next__") (n:=['_','_','t','x','e','n','_','_']) ċ]
 kernel_rfl
def Iy:entryFor table "set.__iter__"=↑Builtin.«frozenset.__iter__»:=entryFor_alias (id':="frozenset.__iter__") (ĸ) rfl (AU) (ĸ)
def Zg:Slot "set_iterator" "__iter__" "set_iterator.__iter__":=
 .of (Í:="set_iterator") (n:="__iter__") ß
def Iw:entryFor table "set_iterator.__iter__"=↑Builtin.«dict_keyiterator.__iter__»:=entryFor_alias (id':="dict_keyiterator.__iter__") (ĸ) rfl (AU) (ĸ)
theorem Gx (a:ı):argsOk "set_iterator.__iter__" #[[a],[]]:=by
 unfold argsOk;rw[signature?_of (id:="set_iterator.__iter__") (n:=['_','_','r','e','t','i','_','_']) ċ]
 kernel_rfl
end facts
theorem XM õ:∀ (l:ć) ï (x:α),l[i]?=↑x->l.Perm (x::l.eraseIdx i)
 | [],i,x,h=>by simp at h
 | y::l,0,x,h=>by simp at h;subst h;simp
 | y::l,i+1,x,h=>by
  have ih:=XM l i x (by exists h);rw[List.eraseIdx_cons_succ];show (ih.cons y).trans (.swap x y _)
theorem ZJ õ(next:Nat->Nat):∀ (f k:Nat) (left:ć) (out:ū α),left.length=f->(pickOrder.go next f k left out).toList.Perm (out.toList++left)
 | 0,k,left,out,h=>by
  cases left with
  | nil=>unfold pickOrder.go;simp
  | cons _ _=>simp at h
 | f+1,k,left,out,h=>by
  unfold pickOrder.go;have Av:next k%left.length<left.length:=C1 _ ⋯;rw[A8 Av];ext ø;exact (ZJ next f (k+1) þ (by rw[List.length_eraseIdx_of_lt Av];lia)).trans ?_;rw[Array.toList_push,Em];show (XM left þ (A8 Av)).symm.append_left _
theorem RB õ(next:Nat->Nat) (xs:ū α):(pickOrder next xs).toList.Perm xs.toList:=by
 unfold pickOrder;exists ZJ next ė 0 xs.toList Ä7 #[]
def comes ű ŝ:Þ:=if Å=true then pickOrder (w.params.setOrder a ep) es else es
def kG ű ŝ:(ì).toList.Perm es.toList:=by
 unfold comes;split
 .show RB þ
 .show .refl _
def qq (a:Addr) (slot i n ep:Nat):Obj:={ cls:=.type "set_iterator",data:=.fields [rawInt slot,rawInt i,ê a,rawInt n,rawInt ep].toArray }
def slotAt (t:Ĕ):Nat->Nat
 | 0=>0
 | i+1=>Ů+1
theorem Gn {t:Ĕ}(hr:tY É):∀ i,i<=Ģ->Ĭ Ø (slotAt t i)=i
 | 0,_=>by
  let#[h1,h2,h3]:=iU (xs:=Ø) (j:=0) hr;rcases DJ (Ĭ Ø 0) with q | q
  .show q
  .have:=h2 0 ⋯ q;lia
 | i+1,hi=>by
  have hd:Ů=Ø[i]:=cq ⋯;change Ĭ Ø (Ů+1)=i+1;rw[hd];let#[h1,h2,h3]:=iU (xs:=Ø) (j:=Ø[i] + 1) hr;have vt:∀ a b (ha:a<Ģ) (hb:b<Ģ),a<b->Ø[a]<Ø[b]:=λ a b ha hb B0=>by
   have r:=C3.mp hr a b (by exists ha) (by exists hb) B0;rw[Cy,Cy] at r;show r
  rcases DI (Ĭ Ø (Ø[i] + 1)) ō with q | q | q
  .have:=h3 i ⋯ ⋯;lia
  .show q
  .have a:=h2 ō ⋯ q;have b:=vt i ō ⋯ ⋯ ⋯;lia
structure v9 ű (h:Heap) ŝ (t:Ĕ):Prop where
 get:ô
 fits:t.fits ä=true
 vt:tY É
 led:t.led=rD w
 plain:È1=true
theorem v9.size {w:World}{h:Heap}Ą Â(S:É0):Ģ=ä:=by
 have:=S.fits;simp![SetTable.fits,BN,beq_iff_eq] at this;show this.1
section
variable {Ð}
def Yt Ą Â À3{Q:Ã (ı ×Nat)->Ü}â (hi:i<=ä) (slot:Nat) (hs:À2)
  (h:∀ slot',(Å=č->slot'=É1)->Q ((ì)[i]?.map λ e=>(e.2,slot')) s):ü Ç (setNext a slot i ep) Œ:=by
 unfold setNext setsByText;exact ŋ;ext ø;exact gV (gV (zaN Ę));change ü _ A (if Å=true then _ else _) Œ;cases hb:Å with
 | true=>
  rw[î rfl,Ý #[]];unfold setWalk setsByText;exact gV (ŋ);ext ø;exact gV (gV (zaN Ę));change ü _ A (if Å=true then _ else _) _ E s;rw[î hb];exact gV (zaN Ę);exact Ae ?_;have:=h slot (λ q=>by rw[hb] at q;cases q);unfold comes at this;rw[î hb] at this;show this
 | č=>
  rw[Ý #[]];split
  .rename_i hd;have hd':(! È1&&decide (ä>1))=true:=hd;rw[S.plain] at hd';simp at hd'
  .change ü _ A ((if (!t.led&&!es.isEmpty)=true then È6 "set:maker-not-led" else pure Unit.unit) >>= _) Œ;have hl:t.led=true:=by rw[S.led];unfold rD;rw[hb];rfl
   rw[Ý (by rw[hl];simp)];exact gV (Ae Ę);have BU:=hs hb;have hz:=S.size;rw[BU,Gn S.vt i (by rw[hz];show hi)];have:=h (É1) (λ _=>rfl);unfold comes at this;rw[Ý (by rw[hb];simp)] at this;rcases Bn i ä with q | q
   .have hp:i<Ģ:=by rw[hz];show q
    rw[Bv q] at this;rw[Bv q,Bv hp];have e:É1=Ø[i] + 1:=by change Ů+1=_;rw[cq hp]
    rw[e] at this;show this
   .rw[CM q] at this;rw[CM q];show this
def pN {a I:Addr}{slot i n ep:Nat}Å2:s.TypeIs (ê I) "set_iterator":=#[_,ho,rfl]
def aU (k:Nat):((k:Int)).toNat=k:=Cw k
def Sv {I a:Addr}Â{i slot:Nat}{e:Int× ı}{Q:Ã ı->Ü}(ho:ď I=↑(qq a slot i ä ep)) â (hs:À2) (he:(ì)[i]?=↑e)
  (hi:i<ä) (h:∀ h' slot',(Å=č->slot'=É1)->h'.get? I=↑(qq a slot' ō ä ep)->ſ I Ă h'->Q ↑e.2 { s with heap:=h' }):ü Ç (pyNext (ê I)) Œ:=by
 unfold pyNext;ext Ì;rw[Ý #[]];exact gV (Yt S ⋯ slot hs λ slot' hs'=>?_);rw[aU] at hs' ⊢;rw[he];dsimp only[Ç9];exact gV (zaD ho rfl #[] ?_);have o1:=za8 (Obj.mapFields (·.set! 0 (Value.int (slot':Int) 0))) ho rfl;exact gV (zaD o1 rfl #[] ?_);have o2:=za8 (Obj.mapFields (·.set! 1 (Value.int ((i:Int)+1) 0))) o1 rfl;exact Ae #[_,rfl,Ae (h _ slot' hs' o2 ((Ī ..).trans (Ī ..)))]
def Sy {I a:Addr}Â{slot:Nat}{Q:Ã ı->Ü}Č (ho:ď I=↑(qq a slot ä ä ep)) â (hs:Å=č->slot=slotAt t ä)
  (h:∀ h',Heap.ExtBut I Ă h'->Q none { s with heap:=h' }):ü Ç (pyNext (ê I)) Œ:=by
 have hn:(ì)[ä]?=none:=by
  ext Ŧ;simp![BG] at this;rw[CM ⋯]
 unfold pyNext;ext Ì;rw[Ý #[]];exact gV (Yt S #[] slot (by exists hs) λ slot' hs'=>?_);rw[aU,hn];dsimp only[Option.map_none];exact gV (zaD ho rfl #[] ?_);exact gV ?_;simp![newExc,newTuple];exact gV (zaA ?_ (by size_fits));exact gV (m:=firstArgMember þ) (wpAny_of_eq (a:=Value.none) (by first | rfl | (simp![firstArgMember];rfl)) (zaA ?_ (by size_fits)));unfold raiseNew;exact gV (wpAny_handled ?_);rw[show A.in1.handled=none from hh];exact gV ((Ae (wpAny_throw ?_)));exact gV ((wpAny_isInstance (T:="StopIteration") (b:=true) #[_,Ç3,rfl] isSubtype_stop ?_));show Ae (h _ (((Ī ..).extBut.push _).push _))
def Su {I a:Addr}{slot i n ep:Nat}{Q:Aj}Å2 (h:Q (ê I) s):ü Ç (pyIter (ê I)) Œ:=by
 exact wpAny_pyIter_slot (pN ho) Zg (zaC Zg (pN ho) Iw ?_ (Gx _));show Ae #[_,rfl,"set_iterator",_,pN ho,nc.lookup,h]
def v9.keep {h h':Heap}Ą Â(S:É0) (k:∀ o,h.get? a=↑o->h'.get? a=↑o):v9 w h' a ĳ:=#[k _ S.get,S.fits,S.vt,S.led,S.plain]
def UP Č (I a:Addr) (AA:a≠I) (es:Þ) (ep:Nat) (t:Ĕ):
  Walks Ć A I [I,a] [I] ä (λ i v=>∃ e,(ì)[i]?=↑e/\v=e.2) (λ i h=>(∃ slot,(À2)/\h.get? I=↑(qq a slot i ä ep))/\É0) where
 sub:=λ b hb=>by simp at hb;simp[hb]
 frame:=λ _ _ _ st k=>by
  ext ġ;show#[#[slot,h1,k I #[] _ h2],S.keep λ o e=>k a #[] o e]
 item:=λ i s Q E hi st hQ=>by
  ext ġ;have hl:i<(ì).size:=by
   ext Ŧ;simp![BG] at this;lia
  exact Sv h2 S h1 (Bv hl) hi λ h' slot' g1 g2 g3=>?_;show hQ _ h' s.toks #[_,Bv hl,rfl] #[#[slot',g1,g2],S.keep λ o e=>(g3.2 a AA).trans e] λ b o hb e=>(g3.2 b (λ z=>hb (by simp[z]))).trans e
 done:=λ s Q E st hQ=>by
  ext ġ;show Sy hh h2 S h1 λ h' g=>hQ h' s.toks λ b o hb e=>g b o (λ z=>hb (by simp[z])) e
 self:=λ _ _ _ _ st hQ=>by
  ext ġ;show Su h2 hQ
def LG:typeLookup (å) "__len__"=pure ↑(.builtin "set.__len__"):=F.slot_set_len.lookup
def split_len:splitId "set.__len__"=↑("set","__len__"):=by decide +kernel
def MZ Ą Â Ļ â (h:Q č s):ü Ç (setDrawn a) Œ:=by
 unfold setDrawn setsByText;exact ŋ;ext ø;exact gV (gV (zaN (Ae Ę)));change Q (! Å&&(! È1&&decide (ä>1))) s;rw[S.plain];exists h
set_option Ã7 4000000 in
theorem Lb Ą Â Ļ â (h:Q č s):ü Ç (É2 È3) Œ:=by
 have Ty:s.TypeIs È3 "set":=#[_,S.get,rfl];unfold É2;exact gV (wpAny_specialOf Ty LG ?_);ext ø;rw[split_len];ext ø;exact gV (wpAny_isInstance (b:=true) Ty sub_set_self ?_);rw[Ý ()];rw[î (AU)];exact gV (wpAny_typeOf Ty ?_);show Ae h
set_option Ã7 4000000 in
def Hh Ą Â{Q:List ı->Ü}Č â (hn:ä<=ě)
  (h:∀ Ä2,(æ)->À<=h'.objs.size->Q (Ã9) { s with heap:=h',toks:=tk }):ü Ç (collect È3) Œ:=by
 have ha:a<À:=Ar S.get;unfold collect;exact gV (wpAny_runValue (Ŋ F.entry_proto_collect ?_));rw[Ň F.plain_proto_collect _];change ü _ A.in1 (newList [] >>= λ l=>again (.builtin "list.__iadd__" #[[l,ê a],[]])) þ s;exact gV (zaA (Ae #[Ã8 F.plain_list_iadd _,Ŋ F.entry_list_iadd ?_]));rw[Ň F.plain_list_iadd _];let L0:Obj:={ cls:=.type "list",data:=.seq ([]:Ai).toArray }
 have S1:v9 w (Û L0) a ĳ:=S.keep λ o e=>tp _ e;have T1:Shared.TypeIs { s with heap:=Û L0 } È3 "set":=#[_,S1.get,rfl];change ü _ A.in1 (É3 È8 È3 È8) þ { s with heap:=Û L0 };unfold É3;exact gV (wpAny_typeOf T1 ?_);have AA:À ≠a:=Bp ha;have c1:Builtin.List.listSameRef È8 È3=č:=by simp[Builtin.List.listSameRef,AA]
 rw[Ý (by rw[c1];decide)];exact gV (wpAny_pyIter_slot T1 F.slot_set_iter (zaC F.slot_set_iter T1 Iy ?_ (F.args_set_iter_1 _)));exact gV (gV (Ae Ę));exact gV (gV (gV (zaB S1.get rfl S1.fits (Ae Ę))));exact gV (MZ S1 ?_);rw[Ý ()];exact gV Ę;exact gV (wpAny_setEpoch_of S1.get rfl S1.fits ?_);exact gV (zaA (Ae #[_,rfl,"set_iterator",_,#[_,Ç3,rfl],nc.lookup,?_]));let I:=Ĺ
 let h2:=(Û L0).push (qq a 0 0 ä ep)
 have S2:v9 w h2 a ĳ:=S1.keep λ o e=>tp _ e;have hI:h2.get? I=↑(qq a 0 0 ä ep):=Ç3;have hL:h2.get? À=↑L0:=tp _ (Ç3);have hsz:Ĺ=À+1:=Heap.size_push þ;change ü _ A.in1 þ _ { s with heap:=h2 };exact gV (za9 (Lb (s:={ s with heap:=h2 }) S2 ?_));rw[î (AU)];exact gV (wpAny_rule ?_);exact gV ?_;change ü _ A.in1 (updateSeq À (·.push .none) >>= λ _=>updateSeq À (·.pop)) þ { s with heap:=h2 };exact gV (wpAny_updateSeq hL rfl ?_);have hL2:=za8 Ä0 hL rfl;exact wpAny_updateSeq hL2 rfl ?_;have hL3:=za8 (Obj.mapSeq (·.pop)) hL2 rfl;let h3:=(h2.update À Ä0).update À (Obj.mapSeq (·.pop))
 have oth:∀ b o,b≠ À->h2.get? b=↑o->h3.get? b=↑o:=λ b o hb e=>É4 (É4 e);have haI:a≠I:=by change a≠ Ĺ;rw[hsz];show AF (B_ ha)
 have hIn:I≠ À:=by change Ĺ ≠_;rw[hsz];show Bp (B5 _)
 exact Ae #[Ã8 F.plain_extend_loop _,codeAny_extend_loopS ((UP (A:=A.in1) hh I a haI ĳ).toS) hn À ?_ _ ä 0 { s with heap:=h3 } Ä7 _ rfl (AZ _) #[#[0,λ _=>rfl,oth I _ hIn hI],S2.keep λ o e=>oth a o (Ne.symm AA) e] hL3 (ItemsOf.nil _) λ s' acc c' hm hS' A0=>?_]
 .intro hm;ext Ç8
  .show hIn q.symm
  .show AA (È7)
 .exact gV (wpAny_load hS' Ę);ext í;have hcm:(ì).size=ä:=by
   ext Ŧ;exists this
  have e:acc.toList=Ã9:=by
   exact List.ext_getElem? λ j=>?_;rw[AG];rcases Bn j ä with q | q
   .have Dr:j<acc.size:=by rw[A0.1];show q
    have hj:acc[j]?=↑acc[j]:=Bv Dr;let#[e,e1,e2]:=A0.2 j _ hj;rw[BP,BP,hj,e1,e2];rfl
   .rw[BP,BP,CM (by rw[A0.1];show q),CM (by rw[hcm];show q)];rfl
  rw[e];exact h h' tk' (λ b o hb e=>hm.heap b o (λ q=>?_) (oth b o (AF hb) (tp _ (tp _ e)))) ?_
  .rcases Š q with q | q
   .show AF hb q
   .have q':b=Ĺ:=È7;rw[hsz] at q';show AF (B_ hb) q'
  .show BE (Ar hS')
end
end ST
namespace ST
open PySem ŗ ŷ L4
section
variable {Ð}
def Wv Ą Â Č â (hz:ä<=ě) (Q':List ı->Ü)
  (h:∀ h1 tk,(∀ b o,¬ False->ď b=↑o->h1.get? b=↑o)->À<=h1.objs.size->Q' (Ã9) { s with heap:=h1,toks:=tk }):ü Ç (collect È3) Q' E s:=
 Hh hh S hz λ h1 tk k1 k2=>h h1 tk (λ b o _ q=>k1 b o (Ar q) q) k2
end
end ST
namespace ST
open PySem ŗ PySem.Spec ŷ L2
def yU ű (a:Addr) (us:Ai):Heap->Prop:=λ h=>∃ es ep t,É0/\es.toList.map Ŷ=us
def yU.uv {w:World}Ą{us:Ai}{h1 h2:Heap}(S:yU w a us h1) (k:∀ o,h1.get? a=↑o->h2.get? a=↑o):yU w a us h2:=by
 let#[es,ep,t,S,e]:=S;show#[es,ep,t,S.keep k,e]
def qJ.at đ{h:Heap}Ą{xs:Đ}(S:qJ Ć h a xs (rD w)):yU w a (Ħ λ e=>ý) h:=by
 let#[#[es,ep,t,ho,X,h1,h2,h3],_]:=S;show#[es,ep,t,#[ho,X.fits,X.tab.vt,h1,h2],by rw[X.es,A3];rfl]
section
variable {X:Cx}
theorem YO:∀ {ns:Ä}{us:Ai},Vals (ns.map V.int) us->∀ đ,ItemsAre Ô ns us
 | [],_,.nil,_,_=>.nil
 | n::ns,_,.cons r t,prog,w=>by
  let#[tk,rfl]:=r;show .cons (intKind_is þ þ) (YO t)
def HB ů (hu:X.A.units+64<cLine):yL X (å) (λ xs H Q=>∃ p ys,∃ rows:Ť,xs=[ê p]/\(zU X.K H p ys\/yk X.K H p ys)/\L4.qK X.K H ys rows/\rows.length<64/\
  ∀ (l:Addr) (us:Ai) (ps:List (V× Ä)),H l=none->Vals (ps.map Į) us->(∀ q∈ps,q∈ys.zip rows)->(ps.map Ŷ).Nodup->(∀ r∈rows,r∈ps.map Ŷ)->Q (ê l) (upd H l (.ext (yU X.w l us)))):=by
 intro EW s σ H xs us Q I r h;let#[p,ys,rows,rfl,hq,hr,h64,q]:=h;let#[u,rfl,ru]:=vals1 r;cases ru;obtain⟨Ab,rv,pl,hz⟩:∃ Ab,Vals ys Ab/\(s.heap.IsList p Ä6\/s.heap.IsTuple p Ä6)/\True:=by
  rcases hq with hq | hq
  .let#[Ab,rv,pl,_]:=I.list hq;show#[Ab,rv,ŉ pl.isList,trivial]
  .let#[Ab,rv,pl,_]:=I.tuple hq;show#[Ab,rv,.inr pl,trivial]
 have hl:=rv.length;have Dp:Ŀ=rows.length:=Paired.length hr;have vW:mh X.prog X.w Ă Ä6 rows:=λ i v hv=>by
  have hv':š:=by exists hv
  have hi:i<Ab.length:=(AQ.mp hv').1;let#[AA,b,hb,hsq]:=L4.Paired.at' hr (i:=i) ⋯ V.zj ([]:Ä);have hy:ys[i]?=↑(V.ref b):=by
   rw[A8 ⋯];have:ys.getD i V.zj=ys[i]'⋯:=by simp[show i<Ŀ by lia]
   rw[this] at hb;rw[hb]
  let#[v',e1,e2]:=rv.get hy;rw[hv'] at e1;cases e1;cases (show v=È5 b from e2);let#[its2,rv2,#[o,e,CK,n,hd],_]:=I.tuple hsq;exact#[b,rows.getD i [],rfl,?_,o,its2.toArray,n,e,CK,hd,by exists YO rv2];simp[show i<rows.length by lia]
 have hh:X.A.handled=none:=I.ok.hd hc;exact HE (A:=X.A) hh hu pl vW (by rw[AK];lia) λ h' tk xs S U k=>?_;have kk:∀ b o,ď b=↑o->h'.get? b=↑o:=λ b o e=>k b o (Ar e) e;have AR:H À=none:=I.zt.fresh (An _);have hSO:=S.at;have vals:Vals ((Ŝ).map Į) (Ħ λ e=>ý):=by
  clear S U hSO
  induction xs with
  | nil=>show .nil
  | cons e xs ih=>show .cons rfl ih
 have snd:(Ŝ).map Ŷ=Ú:=by rw[A3];rfl
 exact#[ê À,_,I.laid (t':=tk) (o:=.ext (yU X.w À (Ħ λ e=>ý))) kk (An _) ?_,rfl,q þ (Ŝ) AR vals (λ x hx=>?_) (by rw[snd];show S.nd) λ r hr'=>?_]
 .let#[es,ep,t,St,e]:=id hSO;show#[hSO,#[_,St.get],λ h1 h2 S1 k=>S1.uv k]
 .ext Ŵ;let#[j,j1,j2,j3]:=U.own e he;have hj':Ab[j]?=↑(ý):=by exists j2
  have Dr:j<Ŀ:=by rw[hl];show (AQ.mp hj').1
  let#[v',e2,e3]:=rv.get (A8 Dr);rw[hj'] at e2;cases e2;let#[AA,b,hb,_]:=L4.Paired.at' hr (i:=j) ⋯ V.zj ([]:Ä);have:ys.getD j V.zj=ys[j]:=by simp[Dr]
  rw[this] at hb;rw[hb] at e3;cases (show ý=È5 b from e3);exact AW (i:=j) ?_;rw[List.getElem?_zip_eq_some];show#[by rw[A8 Dr,hb],j3]
 .rw[snd];let#[j,hj]:=Co.mp hr';show U.all j r (by have:=(AQ.mp hj).1;rw[AK];lia) hj
theorem Paired.mk {α β:Type}{F:α->β->Prop}:∀ {l:ć}{m:List β},l.length=m.length->(∀ ï a b,l[i]?=↑a->m[i]?=↑b->F a b)->Paired F l m
 | [],[],_,_=>.nil
 | a::l,b::m,h,f=>.cons (f 0 a b rfl rfl) (Paired.mk (by exists h) λ i x y hx hy=>f ō x y (by exists hx) (by exists hy))
 | [],_::_,h,_=>by simp at h
 | _::_,[],h,_=>by simp at h
)
example:=`(
example À:=s.heap.objs.size
example È8 _:=x prog w
example ň:=intKind È8
example Á:=(ň).hash
example Ň:=h.get?
example É:=.ref
example Ţ _:=x ab col dd k0 k1 k2 k3 k5 newId
example Â:=Ň C=↑(excClassObj nm q C N bs (É P::E9) true sn sub Ţ)
example â:=Option
example ŀ:=â Addr
example å:=Value
example Ã{sn:List Str}{sub:Ai}{ab:Bool}{col:â Bool}{dd:ŀ}{k0 k1 k2 k3 k5:â å}:=0
example Ĵ:=.none
example Á8:=Str.ofString "__next__"
example Þ:=false
example Í3:=(É z)
example Ì7:=Ae ?_
example Ä:=by exact gV (wpAny_attempt (zaG (name:=Á8) hT F.slot_zip_next (zaC F.slot_zip_next hT F.entry_zip_next ?_ (F.args_zip_next_1 _))));exact gV (m:=field Í3 2) (za5 hz rfl (x:=.bool Þ) rfl ?_);exact gV (m:=field Í3 3) (za5 hz rfl (x:=É TI) rfl ?_);exact gV (m:=seqItems? (É TI)) (zaE DV rfl ?_);exact gV (m:=Builtin.SmallTypes.ownedTupleIsFree Í3) (gV (m:=field Í3 0) (za5 hz rfl (x:=Ĵ) rfl (Ì7)));simp![if_true]
example Å:=(upd H l (.ext (ST.yU w l us)))
example À4:=by dsimp only
example œ:=Value.none
example č:=.int
example Ę:=Value.ref
example Æ:=by let#[ol,g1,_,n,g2]:=hl;exact gV (zaG (name:=Á8) ht F.slot_tuple_iterator_next (zaC F.slot_tuple_iterator_next ht F.entry_tuple_iterator_next ?_ (F.args_tuple_iterator_next_1 _)));exact gV (m:=field (É it) 0) (za5 e1 e3 (x:=É l) rfl ?_);ext À4;rw[if_neg (show ¬ ((Ę l == œ)=true) from B3)];exact gV (m:=field (É it) 1) (za5 e1 e3 (x:=č i 0) rfl ?_)
example Ç _:=x (model È8) A
example Ç8:=or_false
example È:=by let#[nd,f1,f2]:=D;simp![Bo,Am,A6,Ç8,not_or,List.nodup_nil,and_true,not_false_eq_true] at nd f1 f2;let#[#[n1,n2,n3,n4],#[n5,n6,n7],#[n8,n9],n10]:=nd;let#[a1,a2,a3,a4,a5]:=f1;let#[b1,b2,b3,b4,b5]:=f2;let#[hz,DV,#[a,b,Ew],s1,s2]:=S
example Ê:=by (with_reducible exact za6 hx ?_;rw[hc])
example Ë:=PyProof.Rows
example ø:=Ne.symm
example Í2:=IsPair
example Í8:=e1.extBut
example à _:=x _ _
example ĳ _:=x (s1.on λ o q=>Í8 à (ø n3) q) (h1.on λ o q=>Í8 à a1 q) hx
example Ç7:=wpAny_onRaise
example ß:=Builtin.SmallTypes.nextOf
example Ì:=by exact gV (gV (Ç7 (gV (m:=ß (É i1)) (draw ĳ λ g2 s12 e2=>Ì7))));have to2:Í2 g2 TO a b:=e2.extBut à n8 (Í8 à (ø n2) Ew);exact gV (zaE to2 rfl (gV (wpAny_updateSeq_pair to2 λ g3 to3 e3=>gV (wpAny_letGo (Ì7)))))
example Ũ:=.builtin "object.__class__"
example Ý:=.type
example ô:=typeLookup (Ý B) "__class__"=pure ↑(Ũ)
example ż(Dm:mN "__class__"=none) (CG:mP "__class__"=none):=0
example ã(hx:Ň x=↑o) (hc:o.cls=É C):=0
example Í(hB:ô) (hq1:mN "__getattribute__"=none) (hq2:mP "__getattribute__"=none) (hq3:mN "__getattr__"=none) (hq4:mP "__getattr__"=none) ż ã:=0
example Î:=[z,TI,TO,i1,i2]
example Ï:=#[h,g,d,t,os]
example Ð:=by let#[FB,hb,hB,nm,q,N,bs,sn,sub,ab,col,dd,k0,k1,k2,k3,k5,newId,mN,mP,hC,hn,hP,hm]:=X;have m1:=hm "__getattribute__" (.head _);have m2:=hm "__getattr__" (.tail _ (.head _));have m3:=hm "__class__" (.tail _ (.tail _ (.head _)))
example Ì8:=Value.int
example Ñ:=insertAt es p (Á n,Ì8 n tk)
example Ò:=List Int
example Ó{prog:Program}{w:World}:=0
example ó:=Shared->Prop
example É7:=env::outer
example Ô{Q:Unit->ó} (AR:A.frames=↑(É7)) (hl:s.heap.FunFrames base (É7)) (hf:env.frame=↑L):=0
example è{A:Around}{E:Aj}:=0
example Ë9{h:Heap}:=0
example Õ è Ë9{g:Array GenState}{d:Drawn}{t:Nat}{os:OsState}:=0
example Ŗ _:=x z TI TO .ellipsis
example Ö:=by unfold pyNext;ext Ä;exact gV (wpAny_rule (gV (za5 hz rfl (x:=É TO) rfl (gV (zaK hz #[] λ g1 hz1 e1=>?_)))));replace hz1:IsZip g1 Ŗ:=hz1;exact gV ?_;simp![DC,List.zipIdx_nil,DS,List.forIn_nil]
example Ø:=s.heap
example Ù:=List.replicate
example Ê2:=rs.length<64/\∀ r∈rs,r≠[]
example Ė:=.lst
example Ú:=(vZ ts).bind λ rs=>if Ê2 then ↑(Ė ((L4.wu (vc rs)).map yV)) else none
example ă:=[].toArray
example î:=s.heap.push
example Û:=î (seqObj "list" ă 0)
example Ü:=s.heap.get?
example á:=PySem.Spec
example ä:=λ e=>(Á e.1,Ì8 e.1 e.2)
example æ:=by have nd:=D.nd;simp![Bo,Am,A6,Ç8,not_or] at nd
example ç:=(Ę C::É P::E9).contains
example é:=by intro X hP hw hK hc i EW s σ H E I hf st hg;subst hP hw hK
example ê:=xs.length
example Ë3(hn:h.Ns N mN) (hP:kM h P mP):=0
example Æ7:=E9.contains
example ŕ:=Æ7 (Ý "object")=true
example ë(hb:ŕ) (hC:Â) Ë3:=0
example ì _:=x k1 k2 Ø l1 l2
example í:=(upd H r (.ext (tB r j)))
example Ś:=(.ext (yU X.w l us))
example ę:=by let#[u,rfl,ru]:=vals1 r;cases ru
example ï:=by ext ę;obtain⟨⟨es,ep,t,S,eu⟩,-,-⟩:=(show xa X.prog X.w H Ø l Ś from I.zt l _ hl)
example Ë1:=·.setIfInBounds
example Ō:=h₁.objs.size
example ð:=(Ë1 1 (Ę Ō))
example Ĥ:=.fields
example À7:=rawInt
example ñ:=Ĥ [Ĵ,.bool Þ,É À,À7 0,Ĵ,Ĵ].toArray
example ò _:=x z TI TO i1 i2 l1 l2
example À0:=Al.mp e
example õ:=by let#[ys,e1,e2]:=À0;exact h S Z Y J ys _ hE e1 λ ds S1 s1 r1=>?_
example Í5:=e3.extBut
example ö:=by have up:∀ c o,c≠z->c≠i1->c≠TO->Ü c=↑o->g3.get? c=↑o:=λ c o c1 c2 c3 q=>Í5 à c3 (e2.extBut à c2 (Í8 à c1 q))
example Æ3:=h'.get?
example ŵ:=Ý "StopIteration"
example Í6:=(∃ o,Æ3 e=↑o/\o.cls=ŵ)
example Í7:=(É e)
example ù(hx:xs[i]?=none) (hE:∀ h' e,Heap.ExtBut it Ø h'->Í6->E Í7 { s with heap:=h' }):=0
example ú:=by simp![Am,A6,Ç8] at hb
example ſ:=es.size
example û:=by have hlen:ſ=ê:=by have:=congrArg List.length he;exists this
example Á1:=λ(k:Nat)=>V.int (k:Int)
example ü:=Ė ((List.range j.toNat).map Á1)
example ý(ha:PD X a ta) (hb:PD X b tb):=0
example þ{s:Shared}:=0
example ÿ:=PySem
example Ā:=wpAny
example Î6:=x2.trans e3
example ā:=fun Y5 S5 #[m',b,w5] σ5 H5 b1 b2 b3=>#[(Î6).trans b2,Y5,S5,m',b,b1,b3,w5]
example Ă:=sizeLine
example Ų:=(É l)
example Ą:=by have ht:=hit.typeIs;let#[oi,e1,e2,e3]:=id hit;ext Æ;ext À4;exact gV (m:=seqItems? Ų) (zaE g1 g2 ?_);simp![Cw,hx]
example Ë8:=Q Unit.unit { s with heap:=h' }
example ą(h0:vs[0]?=↑a0) (h:∀ h',Heap.gq base (É7) e oe.cls a0 oe.dict Ø h'->Ë8):=0
example ū _:=x (uj st) (yN st) (zH st) Ĵ kV
example Ć:=K.lookup f=↑#[oc,od,.func (PySem.W.fnOf x x ū dc pm an cd ct),sl]
example ć:=X.env
example Ĉ:=Obj.data_mapFields
example Ê6(k1 k2:Bool):=0
example Ä6(h:Heap):=0
example ĉ Ê6 Ä6 (l1 l2:Addr):=0
example Ċ{es:List Expr}:=0
example ċ:=by let#[d,rfl,h1]:=vC hv
example Č:=by let#[Y,S,r1,r2,z]:=hu
example Ď:=.Subscript o i pos'
example ď:=Value.builtin "BaseException.__getattribute__" == Value.builtin "object.__getattribute__"
example Đ:=(by simp![zf])
example đ:=Ĥ ([head,É L,Ĵ,À7 L,Ĵ]++(if pl.isEmpty then Ù 6 œ else pl)).toArray
example Ē:=by (with_reducible exact zaF hC ?_;rw[BI])
example ē{base:Heap}{env:Env}{outer:List Env}{L e:Addr}:=0
example Ĕ:=by have hT5:(Ï:Shared).TypeIs (Ũ) "getset_descriptor":=F.typeOf_object_class
example Î8:=AutoSeq1.wpAny_loadPart' hl
example ĕ:=by wp_walk using Î8,made hL
example É6:=vs.toArray
example ė:=(Û).update À (Obj.mapSeq (·++É6))
example Ě:=(s1.trans s2).trans s3
example ě:=(∀ c o,c∉ Î->Ü c=↑o->Æ3 c=↑o)
example Ĝ:=h _ H (by simp![zf,cond]) (.refl H) h3
example Ì0{k:Bool}:=0
example ĝ Ì0{l:Addr}{xs:AB}:=0
example Ğ:=by have hp:((comes X.w l es ep).toList.map (·.2)).Perm us:=by rw[<- eu];show (kG X.w l es ep).map _
example ğ(hh:A.handled=none):=0
example Ġ:=List (Int×Tok)
example ġ:=PySem.W.nsIn K mainGlobals x
example Ģ:=by let#[x,hx,h1]:=h0.one;subst hx
example ģ _:=x (s2.on λ o q=>up _ o (ø n4) (ø n10) (ø n9) q) (h2.on λ o q=>up _ o b1 b4 b3 q) hy
example ĥ:=I.zt.fresh (An _)
example Ħ(h1:SQ Ø k1 l1 xs) (h2:SQ Ø k2 l2 ys):=0
example ħ:=λ e=>Á e.1
example Ĩ(BX:base.StaysIn Ø) (Cf:base.get? e=none):=0
example ĩ:=List (Ò)
example Ī{it l:Addr}{i:Nat}{xs:AB}:=0
example Ï7:=by intro EW s σ H x y v u Q I rx ry h
example ī:=by ext Ï7;let#[c,d,rfl,rfl,q]:=h;cases rx;cases ry
example Ĭ:=g5.objs.size
example ĭ(hc:X.calm=true):=0
example Î5:=Ü b=↑o
example Į:=Î5->Æ3 b=↑o
example į:=(·.1)
example İ:=t.mask
example ı:=(e1.trans e2).trans
example Ĳ:=.Call (.Name "range" p2) [e] [] pos2
example ĵ{k1 k2:Bool}{z TI TO i1 i2 l1 l2:Addr}:=0
example Ķ:=ps.map (·.2)
example ķ:=Ā Ç (ß (É it)) Q E s
example ĸ:=Obj.mapFields
example Ĺ:=Ü l=↑{ cls:=Ý "list",dict:=dd,data:=.seq items n,slots:=sl }
example ĺ:=by let#[hp,g,d,tk,os]:=s
example Ļ:=by with_reducible apply ay FB hb hC hn hP hB m1.1 m1.2 m2.1 m2.2 m3.1 m3.2 hx hc
example ļ:=(zD (ha pos EW s σ H _ I h) λ us s1 #[vs,H1,I1,r1,q1]=>?_)
example Ľ:=k.toNat
example ľ:=by simp![Am,A6,Ç8,not_or] at hc
example Ŀ:=xs.map
example Ł:=by (with_reducible exact zaF hC ?_;rw[hcB])
example ł:=order.toList.filterMap λ k=>xs[k]?
example Ń:=.Call (.Name "set" p2) [e] [] pos2
example ń(X:K.In h) (G:h.Ns mainGlobals mg):=0
example Ņ:=by intro EW s σ H xs us Q I r h
example ņ:=by let#[f,oc,od,kV,dc,pm,an,cd,ct,sl,a,l,c,k]:=H
example ŉ:=#[_,rfl,h]
example Ŋ:=starEach
example ŋ:=s1.heap.objs.size
example Æ0{X:Cx}:=0
example ō Æ0{K:Ac}:=0
example Ŏ:=ka (λ _ _ _=>vp) λ _ _ _=>nofun
example ŏ:=Obj.isFreed_of_fields
example Ő:=by unfold leaving noteFrame;simp![hf];exact gV (gV (za5 he hd h1 ?_))
example ő:=us.length
example Œ:=.new hp _
example Ŕ:=Ý "tuple"
example ŗ:=by have ex:x'=x:=by have:=f1 _ m1;rw[hx'] at this;show (Be this).symm
example Ř _:=x X (.Tuple es kk pos') (.Call (.Name "enumerate" p) [a] [] pos)
example ř:=IntsAre
example ś:=(Ý "BaseException")
example Ŝ:=Builtin.«isinstance.nested»
example ŝ:=Array.getElem?_eq_some_iff.mp
example Ş(hit:s.heap.IsTupleIter it l i) (hl:s.heap.IsTuple l xs):=0
example ş _:=x (T:="StopIteration") (b:=true) #[o,ho,hc] isSubtype_stop
example Š{P:Program}{w:World}{K:Ac}:=0
example š:=by ext Č;exact wq.go ha.mo r1 r2 z λ ds S1 vs H1 h1 q1 e1 p1=>?_
example ţ:=Heap.SameBut.update
example É5:=[a,b]
example Ť _:=x X (.Tuple es kk pos') (.Call (.Name "zip" p) É5 [] pos)
example ť:=by unfold SetTable.tooFull at this;rw[hfill,Cc] at this;exists this
example Ŧ:=by .simp![zf] at h2;exact .inr #[h2,?_];rw[YR h1];show Ĝ
example ŧ:=(Ŀ λ e=>Ì8 e.1 e.2)
example ũ(hf:vn f) (hg:vn g) (ha:yn ta) (hb:yn tb) (hc:yn tc):=0
example Ū:=by let#[it1,rv1,q1]:=g1.of I;let#[it2,rv2,q2]:=g2.of I
example Ŭ:=sb.extBut
example Å7:=Ý "enumerate"
example Î7:=î (u9 k l)
example ŭ:=(Î7).push { cls:=Å7,data:=ñ }
example Ů:=I.ok.hd hc
example ů:=rows.length<64
example Ű:=by have q':Î5:=by rw[Heap.get?_push_ne à _ Dz] at q;show q
example Ê9:=(Þ,eval b ć)
example Ë6:=(Þ,eval a ć)
example ű:=Ŋ É5 ć=[Ë6,Ê9]
example ų:=v1::v2::EX
example Ŵ:=.cons
example Ŷ:=Heap.size_push
example ŷ:=Ab.toArray
example Ÿ:=List T
example Ź:=(ns.map V.int)
example ź{B newId:String} {mN mP:Aq}:=0
example Ż:=λ l hl=>hq à (.new hl _) (qg hz hl (oZ.mpr rfl))
example Ž:=order.filterMap (es[·]?)
example ž:=(show h.IsTuple l xs from x)
example À1:=xs[i]?=↑x
example À2:=λ b hb=>I1.kf (nw b hb) (I1.zt.fresh (nw b hb))
example À3:=î { cls:=Ŕ,data:=.seq [č i tk,u].toArray }
example À5{ds:List D}:=0
example À6:=s.toks
example À8:=by .simp![zf] at h1 h2;show .inl #[_,_,h1,h2,Ĝ]
example À9:=g5.push { cls:=Ŕ,data:=.seq [x,y].toArray }
example Á0:=λ S3 Z3 Y3 F3=>#[m,B5 m,Z3,J2,F3,e']
example Á2 _:=x à hc.2.2.2.2 (up c o hc.1 hc.2.2.2.1 hc.2.2.1 q)
example Á3:=by ext È;have hT:s.TypeIs Í3 "zip":=#[_,hz,rfl]
example Ï8:=by assumption
example Á4:=by repeat (any_goals (first | ext Ï8 | ext Ê | wp_step))
example Á5 _:=x xC.mo ha hb (u6 _)
example Á6:=(Cl.of (λ _=>nofun) vp)
example Á7:=Heap.SameBut it Ø h'->Q x { s with heap:=h' }
example Á9:=Array (â å)
example Â0:=(show h.IsList l xs from x)
example Â1:=î { cls:=Ŕ,data:=.seq [u1,u2].toArray }
example Â2:=by have Ao:p≠l:=λ z=>by subst z;rw[yy] at hp;cases hp
example Â3:=by with_reducible exact za6 hC ?_
example Â4:=∃ c d,x=.bl c/\y=.bl d/\Q (.bl (c == d)) H
example Â5:=(λ x y=>D.tup [x,y])
example Â6 _:=x (r1.ext e1) p1 h1 λ y S2 w H2 h2 q2 e2 p2=>?_
example Â7 _:=x à n4 (Í5 à n2 (e2.extBut à n3 hz1))
example Â8:=hq _ S1 s1 (fT 0 g2) λ S'' s=>zZ.sx g1 s
example Â9:=hq _ S (.refl S) (Cl.of (λ _=>nofun) wx)
example Ã0:=es.toList.findIdx? (λ e=>(ň).is n e.2)
example Ã1:=SQ Ø k l xs
example Ã2:=by let#[x,rfl,h1]:=h0.one;simp![zf] at h1;subst h1
example Ã3:=∃ c d,x=.bl c/\y=.bl d/\Q (.bl (c != d)) H
example Ã4:=e5.extBut
example Ã5:=(nL ì).get?
example Ã6:=u _ (p1 à rfl)
example Ã7:=λ v z=>by cases z
example Ã8:=List.zipWith
example Ã9:=.tup [č i,x]
example Ä0:=λ z=>hb (by simp[z])
example Ä1 _:=x k1 k2 h l1 l2
example Ä2(us:List α):=0
example Ä3:=AJ _ rfl
example Ä4:=(u9 k1 l1)
example Ä5(l:Addr):=0
example Ä7(k:Bool):=0
example Ä8:=(Shared.heap #[hp,g,d,tk,os])
example Ä9:=(č (if k then 1 else 0))
example Å0{t:SetTable}{hs:Ò}:=0
example Å1{es:Array (Int× å)}:=0
example Å2:=by let#[a1,us,rfl,g1,g2]:=zZ.k d1 p1 s1
example Å3:=by repeat (any_goals (first | ext Ï8 | wp_step))
example Å4:=(way İ h K).j
example Å5:=(by simp;lia)
example Å6(I:Inv X EW σ H s) Ì0{a:Addr}:=0
example Å8:=(E4 b o hb AH)
example Å9(Ao:AL X pos []) (hpl2:AL X pos2 []):=0
example Æ1:=(.builtin "sorted")
example Æ2:=Ă=16777216
example Æ4:=λ zs hz=>by rw[hz.inj I g1];show hx
example Æ5:=h _ H1 e1 p1 λ i H2 S2 x1 x2 hk=>?_
example Æ6:=PySem.W.mg_of X G a
example Æ8(is:List Nat) (c:Ev->â Bool) (b:Sm):=0
example Æ9:=by have hpH:H p=none:=by rw[zP Ao] at hp;show hp
example Ç0 _:=x I1 kk λ b hb=>#[hf' b hb,(hf b hb).2]
example Ç1{nm q:Str}{C N P x:Addr}{bs E9:Ai}:=0
example Ç2:=by rcases T.mask with e | e | e <;> lia
example Ç3:=#[by change 2<=Ă;decide,.new _]
example Ç4:=(ups S l (Ė ((vD ns).map D.int)))
example Ç5:=#[_,rfl,h _ H Đ (.refl H) h2]
example Ç6:=(x1.trans x2)
example Ç9:=.inl (Xn S Z _ z ds Q hz hv e hq)
example È0:=Ā M A (leaving env Í7) Q E s
example È1{Q:Aj}:=0
example È2{Q:â å->ó}:=0
example È3(D:gA ò) (S:At Ø k1 k2 ò Ĵ n):=0
example È4:=by (with_reducible exact za6 hD ?_;rw[hDc])
example È5:=Å l'=↑(.ext (ST.yU w l' us'))
example È6:=fun Y' S'=>∃ m',m'<m/\W m' Y' S'
example È7:=(show X.A.in1.handled=none from Ů)
example È9:=by rcases hb with e | e | e | e | e <;> subst e
example É0:=es.toList=Ŀ (ä)
example É1:=(ma f g ta tb tc)
example É2:=by (with_reducible exact za6 hD ?_;rw[hDd])
example É3:=#[o,f o ho,r]
example É4:=(ig ì).objs.size
example É8(he:AE X e es) (Ao:AL X pos es):=0
example É9:=fits_of (n:=ê) hlen T #[] ⋯
example Ê0:=(.bl (cond neg (c != d) (c == d)))
example Ê1:=.tup [x,y]
example Ê3:=ns.length<64
example Ê4:=by exact#[Œ,x2.new hp,?_];simp![zf]
example Ê5:=by simp[hi]
example Ê7{tk:Tok}{dep:Int}{Q:Fin->ó}:=0
example Ê8:=(.Compare a [.IsNot] [b] pos)
example Ë0:=ExcAttrBase B E9
example Ë2(hit:SI Ø k it l i) (hl:Ã1):=0
example Ë4:=(by rw[<- rv.length];show hz)
example Ë5:=[e,it]
example Ë7:=PySem.W.keepIn K (É f)=true
example Ì1:=by rw[List.length_zip];lia
example Ì2:=.tup ts
example Ì3:=h.elim
example Ì4:=xs=[É p]
example Ì5:=ps.map į
example Ì6:=ys.zip rows
example Ì9:=λ x S1 v H1 h1 q1 e1 p1=>?_
example Í0:=SQ h k l xs
example Í1:=h.objs.size
example Í4:=e4.extBut
example Í9:=wW K H k1 a1 xs
example Î0:=wW K H k2 a2 ys
example Î1:=λ v z=>by rw[d1] at z;cases z
example Î2:=PyProof.Rows.callWith_type1
example Î3:=codeAny_builtin
example Î4:=Builtin.List.listExtendWith
example Î9:=#[_,ho,rfl]
example Ï0:=by decide +kernel
example Ï1{pos p pos':Pos}:=0
example Ï2{xs:List V}:=0
example Ï3(n:Nat):=0
example Ï4(K:Ac):=0
example Ï5{g:Ev->â (Ÿ)}:=0
example Ï6:=by let#[Ab,rv,pl,hz]:=I.list hq
theorem HA ĭ:yL X Æ1 (λ xs H Q=>∃ l us vs,∃ rs:ĩ,xs=[É l]/\H l=↑ Ś/\Vals vs us/\L4.qK X.K H vs rs/\rs.length<64/\L4.kN (vs.zip rs) H Q):=by
 intro EW s σ H xs us0 Q I r h;let#[l,us,vs,rs,rfl,hl,hv,hr,h64,q]:=h;ext ï
 ext Ğ
 let#[qs,q1,q2]:=L4.Paired.perm hp (L4.VR.of hv hr);have hzl:(vs.zip rs).length<64:=Ì1
 have DZ:ſ<=Ă:=by
  have h1:ő=(vs.zip rs).length:=Paired.length (L4.VR.of hv hr);have h2:=congrArg List.length eu;rw[AM,BG] at h2;have:Æ2:=rfl;lia
 show L4.fQ I (λ Q' h=>Wv (by show Ů) S DZ Q' h) q2 (by rw[q1.length_eq];show hzl) λ p ps hf hp hs=>q p ps hf (hp.trans q1) hs
end
end ST
namespace L5
open ÿ á L2 L3
open Ë hiding St
def vc:ĩ->ĩ
 | []=>[]
 | r::rs=>if r∈vc rs then vc rs else r::vc rs
theorem lI {r:Ò}:∀ {rs:ĩ},r∈vc rs↔r∈rs
 | []=>.rfl
 | x::rs=>by
  unfold vc;split
  .rename_i h;rw[lI,Am];show#[.inr,λ h'=>h'.elim (λ e=>e▸lI.mp h) id]
  .rw[Am,Am,lI]
theorem eT:∀ rs:ĩ,(vc rs).Nodup
 | []=>.nil
 | x::rs=>by
  unfold vc;split
  .show eT rs
  .rename_i h;show Bo.mpr #[h,eT rs]
theorem eU:∀ rs:ĩ,(vc rs).length<=rs.length
 | []=>An _
 | x::rs=>by
  unfold vc;have:=eU rs;split <;> simp![A1] <;> lia
def uZ:xF:=λ ds S Q=>match ds with
 | [d]=>∃ rows:ĩ,zZ d S=↑(rows.map v_)/\ů/\(∀ r∈rows,r≠[])/\∀ l,S l=none->Q Ų (ups S l (Ė ((L4.wu (vc rows)).map v_)))
 | _=>False
def mW:Ap
 | [Ė ts]=>Ú
 | [Ì2]=>Ú
 | _=>none
def Xn:vR zJ mW uZ:=λ S Z ys z ds Q hz hv e hq=>by
 have key:∀ y ts,ys=[y]->vF y=↑ts->(Ú)=↑z->uZ ds S Q:=λ y ts ey et e'=>by
  subst ey;ext ċ;let#[rs,e1,e2]:=Al.mp e';split at e2
  .rename_i hc;cases e2;cases ee e1;let#[es,h2,h3]:=h1.seq et;cases oZ.mp h3;show#[rs,h2,hc.1,hc.2,Ż]
  .cases e2
 unfold mW at e;split at e
 .show key à rfl rfl e
 .show key à rfl rfl e
 .cases e
section
variable {K:Ac}{e:Expr}{p:Pos}
def uZ.mo:vQ uZ:=λ ds S Q Q' hq h=>by
 unfold uZ at h ⊢;split at h
 .let#[rows,h1,h2,h3,h4]:=h;show#[rows,h1,h2,h3,λ l hl=>hq à (h4 l hl)]
 .show Ì3
def uZ.fits {w:World}:uJ K uZ (λ xs H Q=>∃ p ys,∃ rows:ĩ,Ì4/\(zU K H p ys\/yk K H p ys)/\L4.qK K H ys rows/\ů/\
  ∀ Ä5 (us:Ai) (ps:List (V× Ò)),H l=none->Vals (Ì5) us->(∀ q∈ps,q∈ Ì6)->(Ķ).Nodup->(∀ r∈rows,r∈ Ķ)->
   ∃ l' us' vs',∃ rs':ĩ,[V.ref l]=[É l']/\È5/\Vals vs' us'/\L4.qK K Å vs' rs'/\rs'.length<64/\L4.kN (vs'.zip rs') Å Q):=λ xs ds H S Q h0 h2 h=>by
 unfold uZ at h;split at h
 .rename_i d;ext Ģ;let#[rows,e,h64,AA,h]:=h;obtain⟨a,ys,rfl,g1,g2⟩:∃ a xs,x=É a/\(zU K H a xs\/yk K H a xs)/\zo K H (rows.map v_) xs:=by
   by_cases hn:∃ ts,d=Ì2
   .let#[ts,rfl]:=hn;cases e;simp![zf] at h1;let#[a,xs,q1,q2,q3]:=h1;show#[a,xs,q1,.inr q2,q3]
   .let#[a,ys,q1,q2,q3]:=pj h1 h2 e (λ ts z=>hn #[ts,z]);show#[a,ys,q1,.inl q2,q3]
  exact#[a,ys,rows,rfl,g1,jx g2 AA,h64,λ l us ps hf hv sub nd all=>?_];have mem:∀ r,r∈ Ķ ↔r∈rows:=λ r=>#[λ h=>by
   let#[q,hq,rfl]:=Aw.mp h;show (DU (sub q hq)).2,all r]
  have x1:Ext H Å:=.new hf _;have g3:zo K H ((Ķ).map v_) (Ì5):=zo.j9 λ q hq=>zo.jd g2 q (sub q hq);have Di:(Ķ).Perm (vc rows):=(Eg nd (eT rows)).mpr λ r=>by rw[mem,lI]
  have Eu:(Ì5).zip (Ķ)=ps:=by rw[List.zip_map',List.map_id''];intro a;rfl
  exact#[l,us,Ì5,Ķ,rfl,yy,hv,jx (zo.ext x1 _ g3) λ r hr=>AA r ((mem r).mp hr),by rw[Di.length_eq];have:=eU rows;lia,λ p qs hp hi hs=>?_];rw[Eu] at hi;have heq:=L4.a_ ((hi.map (·.2)).trans Di) hs;ext Â2
  ext Æ9
  have x2:Ext Å (upd Å p (Ė (qs.map į))):=Œ;have r1:zK K Å S:=h2.new hf;exact h p (h2.none hpH) à Đ Ç6 (r1.ups x2 #[_,yy,?_]);rw[<- heq];show zo.ext Ç6 _ (zo.j9 λ q hq=>zo.jd g2 q (sub q (hi.mem_iff.mp hq)))
 .show Ì3
end
end L5
namespace ST
open ÿ PySem.SetTable Ë
theorem Xr Å0(T:Tab t hs) (h:Int):∀ (f k K:Nat),k<=K->K<k+f->Å4 ∉t.place.toList->(∀ m<K,(way İ h m).j∈t.place.toList)->probe.go t (λ _=>h+1) h f (way İ h k)=↑(.empty Å4 none)
 | 0,k,K,h1,h2,_,_=>⋯
 | f+1,k,K,h1,h2,h3,h4=>by
  by_cases e:k=K
  .subst e;unfold probe.go;rw[T.empty h3,fj]
  .let#[i,g,p1,_]:=T.at (h4 k ⋯);have ih:=Xr T h f (k+1) K ⋯ ⋯ h3 h4
   conv=>lhs;unfold probe.go
   rw[T.live p1];ext À4;rw[if_neg (by intro q;have:=eq_of_beq q;lia),b8];show ih
theorem JS Å0(T:Tab t hs) (hl:hs.length<=İ) (h:Int):∃ j,t.freeSlot h=↑(j,Þ)/\bL t h j:=by
 let#[K,k1,k2,k3]:=T.first hl h;exact#[Å4,?_,#[k2,K,rfl,k3]];have g:=Xr T h (10*turns İ) 0 K (AZ _) (by unfold turns;lia) k2 k3;unfold SetTable.freeSlot;have e:t.probe (λ _=>h+1) h (t.probeStart h)=↑(.empty Å4 none):=g;rw[e];rfl
structure ox (prog:Program) (w:World) Ä6 (a:Addr) (xs:Ġ) (led:Bool):Prop where
 ex:∃ es ep t,Ň a=↑{ cls:=Ý "set",dict:=none,data:=.set es ep t }/\É0/\Tab t (Ŀ ħ)/\t.led=led/\t.plain=true/\ê*5<İ*3
 nd:(Ŀ į).Nodup
section
variable {Ó}{è}{þ}
def fits_of Å1 Å0{n:Nat}(h1:ſ=n) (T:Tab t hs) (h2:hs.length=n) (h3:n<=İ):t.fits ſ=true:=by
 have l:=T.len;unfold SetTable.fits SetTable.fill;rw[T.qB,h1,l,h2];simp;lia
def lS {n m:Int}{t:Tok}:(ň).is n (č m t)=true↔n=m:=by
 constructor
 .intro h;let#[t',e]:=Value.isInt_shape (show Value.isInt n (č m t)=true from h);cases e;rfl
 .rintro rfl;show intKind_is à à
def Iz Å1{xs:Ġ}(h:É0):ElemsOf (ň) es.toList:=λ e he=>by
 rw[h] at he;let#[x,_,rfl]:=Aw.mp he;show#[#[x.1,lS.mpr rfl,rfl],rfl]
def SV Å1{t:SetTable}{xs:Ġ}{M wanted:Nat}(he:É0) (hM:uq M) (hw:sizeAbove wanted=M+1) (AX:ê*5<M*3):
  ∃ es' t',∃ E8:Ġ,relayAll t es wanted=(es',t',Þ)/\es'.toList=E8.map (ä)/\E8.Perm xs/\Tab t' (E8.map ħ)/\t'.mask=M/\t'.led=t.led/\t'.plain=t.plain/\es'.size=ſ:=by
 ext û
 have EN:(es.map į).toList=Ŀ ħ:=by rw[Array.toList_map,he,A3];rfl
 have hsz:(es.map į).size=ê:=by rw[C6,hlen]
 let#[t',order,h1,h2,h3,h4,h5,h6,h7]:=YJ hM t.finger (t.movedTo M) t.led t.plain (es.map į) (by rw[hsz];lia);rw[hsz] at h6;have Av:∀ k∈order.toList,k<ê:=λ k hk=>by exists h6.mem_iff.mp hk
 have hr:t.relaid (es.map į) wanted=↑(t',order):=by
  unfold SetTable.relaid;rw[hw,Nat.add_sub_cancel];show h1
 have BZ:(Ž).toList=(ł).map ä:=by
  rw[Array.toList_filterMap,List.map_filterMap];congr 1;funext k;rw[<- BP,he,AG]
 have E5:(ł).Perm xs:=(h6.filterMap _).trans (by rw[List.filterMap_getElem?_range_length]);have BS:(Ž).size=ſ:=by
  rw[<- BG,BZ,AM,E5.length_eq,hlen]
 have hT:Tab t' ((ł).map ħ):=by
  rw[<- eI xs (ħ) 0 order.toList Av,<- EN];show h7
 exact#[_,t',_,?_,BZ,E5,hT,h2,h4,h5,BS];have zF:coversAll order ſ=true:=by
  unfold coversAll;rw[List.isPerm_iff,hlen];show h6
 have fit:t'.fits (Ž).size=true:=fits_of (n:=ê) (by rw[BS,hlen]) hT (by rw[AM,E5.length_eq]) (by rw[h2];lia);unfold relayAll;rw[hr];ext À4;rw[zF,fit];rfl
def add_int {a:Addr}{xs:Ġ}{n:Int}{tk:Tok}{led:Bool}{Q:Bool->ó}(S:ox È8 Ø a xs led) (hn:ê<70)
  (h:∀ h' E8 r,Heap.SameBut a Ø h'->ox È8 h' a E8 led->(n∈ Ŀ į/\E8=xs\/n∉ Ŀ į/\E8.Perm (xs++[(n,tk)]))->Q r { s with heap:=h' }):
  Ā Ç (setAddHashed a (č n tk) (Á n)) Q E s:=by
 have S0:=S;let#[#[es,ep,t,ho,he,T,BM,Ao,AX],BQ]:=S;ext û
 have hm7:7<=İ/\İ<=127:=Ç2
 have fit:t.fits ſ=true:=É9;have hel:=Iz (prog:=prog) (w:=w) he;unfold setAddHashed setAddHashedIn;exact za9 (gV (zaB ho rfl fit ?_));ext À4;have bs:byScan (č n tk) es=true:=by
  have h1:decide (ſ<scanBound)=true:=za3 (by unfold scanBound;lia);have h2:es.all (·.2.scannable)=true:=by
   rw[Array.all_eq_true_iff_forall_mem];intro e hm;show (hel e (by exists hm)).2
  unfold byScan;rw[h1,h2];rfl
 rw[if_pos bs];exact gV ?_;unfold setAddByScan;exact gV (wpAny_rule (gV (wpAny_setScan_of (k:=n) (lS.mpr rfl) ho rfl fit hel ?_)));have hfind:(Ã0).isSome=true↔n∈ Ŀ į:=by
  rw[he,List.findIdx?_isSome,A_];constructor
  .rintro⟨e,hm,q⟩;let#[x,hx,rfl]:=Aw.mp hm;show Aw.mpr #[x,hx,(lS.mp q).symm]
  .intro hm;let#[x,hx,rfl]:=Aw.mp hm;show#[_,Aw.mpr #[x,hx,rfl],lS.mpr rfl]
 cases hc:Ã0 with
 | some j=>
  ext À4;have hm:=hfind.mp (by rw[hc];rfl);exact Ì7;ext À4;show Ae (h Ø xs Þ #[rfl,λ _ _=>rfl] S0 (.inl #[hm,rfl]))
 | none=>
  ext À4;have hm:n∉ Ŀ į:=λ q=>by have:=hfind.mpr q;rw[hc] at this;cases this
  let#[j,fs,F]:=JS T (by rw[AM];lia) (Á n);let#[p1,p2,p3]:=T.put F;rw[AM] at p1;have CD:(t.put j).1.plain=true:=by rw[p2];show Ao
  have Cc:(t.put j).1.mask=İ:=by rw[p2]
  have Av:(t.put j).1.led=led:=by rw[p2];show BM
  generalize hT:(t.put j)=P at *;let#[t1,p]:=P;dsimp only at *;let xs1:=xs.take p++(n,tk)::xs.drop p
  have E5:xs1.Perm (xs++[(n,tk)]):=by
   have e:xs.take p++xs.drop p=xs:=Ej p xs;have:xs1.Perm ((n,tk)::(xs.take p++xs.drop p)):=List.perm_middle;rw[e] at this;show this.trans (List.perm_append_singleton à).symm
  have hl1:xs1.length=ê+1:=by rw[E5.length_eq];simp
  have hes1:(Ñ).toList=xs1.map ä:=by
   rw[toList_insertAt,he];simp[xs1,DE,DD]
  have hsz1:(Ñ).size=ê+1:=by rw[<- BG,hes1,AM,hl1]
  have T1:Tab t1 (xs1.map ħ):=by
   have:xs1.map (ħ)=(Ŀ ħ).take p++Á n::(Ŀ ħ).drop p:=by simp[xs1,DE,DD]
   rw[this];show p3
  have fit1:t1.fits (Ñ).size=true:=fits_of (n:=ê+1) hsz1 T1 (by rw[AM,hl1]) (by rw[Cc];lia);have Dq:layNew t es (Á n) (č n tk)=(Ñ,t1,Þ,Þ):=by
   unfold layNew;rw[fs];ext À4;rw[hT];ext À4;unfold SetTable.orStandIn;rw[fit1];rfl
  have BU:(Ñ).size<=Ă:=by
   rw[hsz1];have:Æ2:=rfl;lia
  have hnd1:(xs1.map į).Nodup:=by
   exact (E5.map _).nodup_iff.mpr ?_;rw[Bu,List.nodup_append];exact#[BQ,#[],λ x hx y hy=>?_];simp at hy;subst hy;show λ e=>hm (e▸hx)
  have ho1:=j8 (es':=Ñ) (t':=t1) ho;have sb:=ţ Ø a (Obj.putSet (Ñ) t1);have hfill:t1.fill=ê+1:=by
   have l:=T1.len;rw[AM,hl1] at l;unfold SetTable.fill;rw[T1.qB,l];simp
  rw[Dq];ext À4;exact gV (m:=pure Unit.unit) (Ì7);rw[CD];simp![if_true];exact gV (m:=pure true) (Ì7);simp![if_true];exact gV (wpAny_storeSet_of ho rfl ?_ BU);by_cases hf:t1.tooFull=true
  .rw[hf];simp![CT,DM,if_true];have hfull:İ*3<=(ê+1)*5:=by
    have:=hf;ext ť
   let#[M',g1,g2,g3]:=Zh ê İ T.mask AX hfull hn;let#[es2,t2,xs2,r1,r2,r3,r4,r5,r6,r7,r8]:=SV (prog:=prog) (w:=w) (t:=t1) hes1 g1 (wanted:=grown (Ñ).size) (by rw[hsz1];show g2) (by rw[hl1];show g3);rw[r1];ext À4;exact gV (m:=pure Unit.unit) (Ae (gV (wpAny_storeSet_of ho1 rfl ?_ (by rw[r8];show BU))));exact Ì7;ext À4;exact Ae (h _ xs2 true (sb.trans (ţ _ a _)) #[#[es2,ep+1+1,t2,j8 ho1,r2,r4,by rw[r6];show Av,by rw[r7];show CD,by rw[r3.length_eq,hl1,r5];show g3],(r3.map _).nodup_iff.mpr hnd1] (.inr #[hm,r3.trans E5]))
  .have hf':t1.tooFull=Þ:=by exists hf
   rw[hf'];simp![CT,CO,Bs,if_false];have hfull:(ê+1)*5<İ*3:=by
    have:=hf';ext ť
   exact Ì7;ext À4;show Ae (h _ xs1 true sb #[#[_,ep+1,t1,ho1,hes1,T1,Av,CD,by rw[hl1,Cc];show hfull],hnd1] (.inr #[hm,E5]))
end
def Nums (Ab:AB) (ns:Ò):Prop:=∀ (i:Nat) v,Ab[i]?=↑v->∃ n t,v=č n t/\ns[i]?=↑n
section
variable {Ó}{è}{þ}{Ab:AB}{ns:Ò}
def Kn {led:Bool}{Sa:Addr}{wr:List Addr}(hSw:Sa∉wr) (hN:Nums Ab ns):Kd È8 A Ì8 Ab ns Sa wr (λ h xs=>ox È8 h Sa xs led) (λ _=>True) where
 nd:=λ S=>S.nd
 keep:=λ k _ S=>let #[#[es,ep,t,ho,r],nd]:=S;#[#[es,ep,t,k à hSw ho,r],nd]
 jZ:=λ _ T=>T
 add:=λ{s xs i v Q E} _ S hl hv hQ=>by
  let#[m,t,rfl,hr]:=hN i v hv;unfold setAdd;exact za9 (gV ((ň).pyHash (A:=A) (k:=m) (lS.mpr rfl) ?_));show add_int (s:={ s with toks:=À6+1 }) (A:=A) S hl λ h' E8 rr sb S' hx=>hQ h' _ E8 rr m t rfl hr sb (CL à) S' hx
def S9 Ë9{a:Addr}(ho:Ň a=↑(vq w)):ox È8 h a [] (rD w):=
 #[#[ă,0,_,ho,rfl,#[.inl rfl,rfl,rfl,.nil,λ j hj=>(by cases hj),λ i g j hg=>(by cases hg)],rfl,rfl,by change 0*5<7*3;lia],.nil]
def HD {l:Addr}È1 ğ (hl:s.heap.IsList l Ab) (hT:Nums Ab ns) (hn:Ab.size<70)
  (h:∀ (h':Heap) (tk:Nat) xs,ox È8 h' À xs (rD w)->Up Ì8 Ab ns Ab.size xs->(∀ b o,b<À->Į)->Q (É À) { s with heap:=h',toks:=tk }):
  Ā Ç (call (Ý "set") [É l]) Q E s:=
 WA hh (.inl hl) hn (Kn #[] hT) (λ h e=>S9 e) (λ _ _=>trivial) h
end
end ST
namespace L4
open ÿ Ë
def Hf Ó è þ{vs:Ai}{ns:Ò}(hI:ř vs ns) (h2:2<=vs.length) (h64:vs.length<64):
  Core È8 A E vs (λ out=>∃ ns',ř out.toList ns'/\ns'.Perm ns/\ns'.Pairwise (·<=·)) s:=by
 obtain⟨v1,v2,EX,rfl⟩:∃ v1 v2 EX,vs=ų:=by
  match vs,h2 with
  | ų,_=>show#[v1,v2,EX,rfl]
 unfold Core;rw[keyKind_ints hI];exact Ae #[rfl,?_];exact za4 (wpS_sortRuns (a₀:=pairsOf (ų)) (st:=SortSt.mk' oneType' ((ų).toArray.zip (ų).toArray) ă 7 none)
   (Q:=λ _ E_=>(arrOf E_).Perm (pairsOf (ų))/\failedOf E_=none/\SortedTo (arrOf E_) (pairsOf (ų)).size)
   hI.intKeys #[Array.Perm.refl _,rfl,rfl,rfl] (by rw[pairsOf_size];simp) (by rw[pairsOf_size];show h64) λ E_ a1 a2 a3=>#[a1,a2,a3]) ?_ λ _ _ e=>e
 rintro⟨⟨⟩,E_⟩ s' ⟨rfl,hp,hf,hs⟩;show#[rfl,hf,sorted_out hI hp hs,by rw[hp.size_eq,pairsOf_size]]
end L4
namespace L5
open ÿ á L2 L3
open Ë hiding St
structure Bq (mg:Aq):Prop where
 set:mg "set"=none
 zip:mg "zip"=none
 enumerate:mg "enumerate"=none
section
variable {ō}{a b c e:Expr}{ta tb tc:zw}{pos:Pos}{fa fb fc:Ad}
def ma (f g:y_) (ta tb tc:zw):zw:=fun Y S Q=>ta Y S λ x S1=>tb Y S1 λ y S2=>f x y S2 λ z S3=>match z with
 | .bl k=>if k=true then tc Y S3 λ w S4=>g y w S4 Q else Q (.bl Þ) S3
 | _=>False
def ma.mo {f g:y_}ũ:yn É1:=fun Y S Q Q' hq h=>
 ha Y S à (λ x S1 h=>hb Y S1 à (λ y S2 h=>hf x y S2 à (λ z S3 h=>by
  cases z <;> first
   | show vf (hc Y S3 à λ w S4 h=>hg y w S4 à hq h) (hq à) h
   | show h) h) h) h
theorem UW {f g:y_}{r r':R2}(hr:wg K f r) (hr':wg K g r') ũ {σ:St}{H:Hp}{Q:VK}(h:zL K É1 σ H Q):aW r r' (zL K ta) (zL K tb) (zL K tc) σ H Q:=by
 let#[Y,S,r1,r2,h]:=h;exact zL.go ha r1 r2 h Ì9;exact zL.go hb Â6;exact hr v w x y H2 S2 _ (zf.ext e2 x q1) q2 p2 (hf x y S2 à (λ d S3 z v3 H3 q3 e3 p3=>?_) h2);cases d with
 | bl k=>
  simp![zf] at q3;exact#[k,q3,vf (λ z=>?_) (λ z=>?_) z]
  .exact zL.go hc (r1.ext (ı e3)) p3 z λ w4 S4 v4 H4 h4 q4 e4 p4=>?_;show hr' w v4 y w4 H4 S4 Q (zf.ext (e3.trans e4) y q2) q4 p4 (hg y w4 S4 à (λ d S' z=>z.ext ((ı e3).trans e4)) h4)
  .show z _ H3 Đ (ı e3) p3
 | _=>show z.elim
@[simp] def W8 (f g:T->T->â T) (fa fb fc:Ad):Ad:=fun J=>(fa J).bind λ x=>(fb J).bind λ y=>(f x y).bind λ b=>match b with
 | .bl k=>if k=true then (fc J).bind λ z=>g y z else ↑(.bl Þ)
 | _=>none
def M9 {f g:T->T->â T}{F G:y_}(hf:Good2 zJ f F) (hg:Good2 zJ g G) (ha:yD fa ta) (hb:yD fb tb) (hc:yD fc tc):xI (W8 f g fa fb fc) (ma F G ta tb tc):=λ S Z Y J y Q hE e hq=>by
 let#[x1,e1,e]:=À0;let#[x2,e2,e]:=À0;let#[b,e3,e]:=À0;exact ha S Z Y J x1 _ hE e1 λ d1 S1 s1 r1=>?_;exact hb S1 Z Y J x2 _ (hE.grow s1) e2 λ d2 S2 s2 r2=>?_;exact hf S2 Z x1 x2 b d1 d2 _ (hE.grow (s1.trans s2)).zd (Vw.grow r1 s2) r2 e3 λ c S3 s3 r3=>?_;split at e
 .have:=r3.1;simp![Sn] at this;subst this;split at e
  .rename_i hk;let#[x4,e4,e5]:=À0;ext À4;rw[if_pos hk];exact hc S3 Z Y J x4 _ (hE.grow (Ě)) e4 λ d4 S4 s4 r4=>?_;show hg S4 Z x2 x4 y d2 d4 Q (hE.grow ((Ě).trans s4)).zd (Vw.grow r2 (s3.trans s4)) r4 e5 λ c' S5 s5 r5=>hq c' S5 (((Ě).trans s4).trans s5) (Cl.cl ((Ě).trans s4) r5)
  .rename_i hk;ext À4;rw[if_neg hk];cases e;show hq _ S3 (Ě) Á6
 .cases e
def O5 {op op':CmpOp}{f g:y_}{r r':R2}(ho:y9 X (compareOp op) r) (ho':y9 X (compareOp op') r') (hr:wg X.K f r) (hr':wg X.K g r') (hf:vn f) (hg:vn g) ý (hc:PD X c tc)
  (hm:lastMarks [op,op'] [b,c]=Þ:=by with_unfolding_all rfl):PD X (.Compare a [op,op'] [b,c] pos) É1:=
 #[ma.mo hf hg ha.mo hb.mo hc.mo,PE.imp (Qq ho ho' ha.pe hb.pe hc.pe hm) λ _ _ _ h=>UW hr hr' hf hg ha.mo hb.mo hc.mo h]
end
end L5
namespace L2
open ÿ á Ë
section
variable {Æ0}
def Ye:y9 X (compareOp .Is) (λ x y H Q=>Â4):=by
 ext ī;show is_bool #[.bl _,H,I,rfl,q]
def Yc:y9 X (compareOp .IsNot) (λ x y H Q=>Ã3):=by
 ext ī;show isnot_bool #[.bl _,H,I,rfl,q]
end
end L2
namespace L5
open ÿ á L2 L3
open Ë hiding St
section
variable {ō}{a b c e o i v:Expr}{Ċ}{ta tb td ty tv:zw}{Ï1}
def xC (neg:Bool):y_:=λ x y S Q=>match x,y with
 | .bl c,.bl d=>Q Ê0 S
 | x,.zj=>Q (.bl (cond neg (!nH x) (nH x))) S
 | _,_=>False
def yX (neg:Bool):T->T->â T
 | .bl c,.bl d=>↑ Ê0
 | x,.zj=>↑(.bl (cond neg (!isNone x) (isNone x)))
 | _,_=>none
def xC.mo {neg:Bool}:vn (xC neg):=λ x y S Q Q' hq h=>by
 unfold xC at h ⊢;split at h
 .show hq à h
 .show hq à h
 .show Ì3
def xC.fits:wg K (xC Þ) (λ x y H Q=>(Â4)\/(y=.zj/\Q (.bl (decide (x=.zj))) H)):=λ x y d e H S Q h1 h2 h3 h=>by
 unfold xC at h;split at h
 ext À8
 ext Ŧ
 .show Ì3
def xC.X6:wg K (xC true) (λ x y H Q=>(Ã3)\/(y=.zj/\Q (.bl (!decide (x=.zj))) H)):=λ x y d e H S Q h1 h2 h3 h=>by
 unfold xC at h;split at h
 ext À8
 ext Ŧ
 .show Ì3
def Kt {S:SS}{Z:Addr->Prop}{x:T}{d:D}(hx:Vw S Z x d):nH d=isNone x:=by
 cases x with
 | zj=>cases hx.zj;rfl
 | bl _=>cases hx.bl;rfl
 | int _=>cases hx.int;rfl
 | str _=>cases hx.str;rfl
 | tup _=>let#[ds,rfl,_]:=hx.tup;rfl
 | lst _=>obtain⟨ds,rfl | ⟨a,rfl,h1⟩,h2⟩:=hx.lst <;> rfl
 | xl=>let#[a,Aa,#[rfl,_],h1]:=hx.xl;rfl
 | err _ _ _=>let#[x,rfl,_]:=hx.err;rfl
def JA {neg:Bool}:Good2 zJ (yX neg) (xC neg):=λ S Z x y z d e Q hz hx hy ef hq=>by
 unfold yX at ef;split at ef
 .cases ef;cases hx.bl;cases hy.bl;show hq _ S (.refl S) Á6
 .cases ef;cases hy.zj;have key:Q (.bl (cond neg (!nH d) (nH d))) S:=by
   rw[Kt hx];show hq _ S (.refl S) Á6
  unfold xC;cases d <;> show key
 .cases ef
def ZU ý:PD X (.Compare a [.Is] [b] pos) (yu (xC Þ) ta tb):=l4 (Ye.or Yd) xC.fits Á5
def Od ý:PD X Ê8 (yu (xC true) ta tb):=l4 (Yc.or Yb) xC.X6 Á5
def QD ý:xu X (.Compare a [.Is] [b] pos) (uk (yu (xC Þ) ta tb)):=rj (Ye.or Yd) xC.fits Á5
def QC ý:xu X Ê8 (uk (yu (xC true) ta tb)):=rj (Yc.or Yb) xC.X6 Á5
def Wl (td ty tv:zw):ye:=λ E Y S=>tv Y S λ v S1=>td Y S1 λ x S2=>ty Y S2 λ y S3=>∃ p ds k j,x=É p/\y=č k/\S3 p=↑(Ė ds)/\vy ds.length k=↑j/\E.nx Y (ups S3 p (Ė (ds.set j v)))
theorem zo.set {H:Hp}{d:D}{x:V}(h:zf K H d x):∀ À5 Ï2(j:Nat),zo K H ds xs->zo K H (ds.set j d) (xs.set j x)
 | [],xs,j,r=>by simp![zo] at r;subst r;show .nil
 | c::ds,xs,0,r=>by
  simp![zo] at r;let#[y,ys,rfl,_,r2]:=r;show Ŵ h r2
 | c::ds,xs,j+1,r=>by
  simp![zo] at r;let#[y,ys,rfl,r1,r2]:=r;show Ŵ r1 (zo.set h j r2)
def QU (ho:PD X o td) (hi:PD X i ty) (hv:PD X v tv) (hs:swapsWithSole [Ď] v pos.line ć=pure Þ) (hw:swappedStores [Ď] v ć=pure none)
  (h1:(assignEach [Ď] ć).map (·.2)=[assign (Ď) ć])
  (ha:∀ v,assign (Ď) ć v=(do
   let ov <- holding [v] (eval o ć)
   let iv <- holding [v,ov] (eval i ć)
   standAt pos'
   holding [v,ov,iv] (setItem ov iv v)
   release [v,ov,iv] [])):xN X (.Assign [Ď] v pos) (Wl td ty tv):=by
 exact#[λ E E' Y S hE z=>hv.mo Y S à (λ w S1 z=>ho.mo Y S1 à (λ x S2 z=>hi.mo Y S2 à (λ y S3 #[p,ds,k,j,a,b,c,d,h]=>#[p,ds,k,j,a,b,c,d,hE.nx à h]) z) z) z,PS.imp (ZG hv.pe (RM ho.pe hi.pe set_list ha) hs hw h1) λ D σ H hu=>?_];ext Č;exact zL.go hv.mo r1 r2 z λ w S1 w1 H1 h1 q1 e1 p1=>?_;exact zL.go ho.mo (r1.ext e1) p1 h1 λ x S2 w2 H2 h2 q2 e2 p2=>?_;exact zL.go hi.mo ((r1.ext e1).ext e2) p2 h2 λ y S3 w3 H3 h3 q3 e3 p3=>?_;let#[p,ds,k,j,rfl,rfl,c1,c2,h]:=h3;simp![zf] at q2 q3;subst q2 q3;let#[xs,g1,g2]:=p3 à c1;have e4:Ext H3 (upd H3 p (Ė (xs.set j w1))):=Ė g1 _;exact#[p,xs,k,j,rfl,rfl,g1,by rw[<- g2.length];show c2,?_];show h σ _ ((((r1.ext e1).ext e2).ext e3).ext e4) ((ı e3).trans e4) (p3.ups e4 #[_,yy,zo.ext e4 _ (zo.set (zf.ext (e2.trans e3) w q1) j g2)])
@[simp] def lL Ï3 (f v:Ad):Sm:=fun J=>(v J).bind λ z=>(f J).bind λ y=>match J[n]?,y with
 | some ↑(.own (Ė ts)),č k=>(vy ts.length k).map λ j=>.nx (J.set n ↑(.own (Ė (ts.set j z))))
 | _,_=>none
def Nv {R:Rk}Ï3 {f v:Ad}(hf:yD f ty) (hv:xP v tv):zV R (lL n f v) (Wl (zX n) ty tv):=λ S0 Z0 S Z Y J o E F e P=>by
 let#[z,e1,e]:=À0;let#[x,e2,e3]:=À0;split at e3
 .rename_i ts k h;let#[j,hj,rfl]:=Ax.mp e3;exact hv S Z Y J z _ F.er e1 λ dz S1 s1 r1=>?_;have F1:=F.grow s1;let#[p,ob,h1,h2,h3,h4]:=F1.er.ow n _ h;cases ob with
  | lst ds=>
   change zX n Y S1 _;unfold zX;rw[h1];exact hf S1 Z Y J à F1.er e2 λ d S2 s2 r2=>?_;cases Vw.int r2;have h5:zk (zB S2 Z) ts ds:=zk.sx (xW s2) ts h3;show#[p,ds,k,j,rfl,rfl,s2 à h2,by rw[h5.len];show hj,P _ Z Y ((F1.grow s2).mut (us:=Ė (ts.set j z)) (es:=Ė (ds.set j dz)) n h h1 (h5.Zj j (Sn.sx (xW s2) z r1)))]
  | _=>show h3.elim
 .cases e3
def Ot {x y:Str}{u:å}(hm:X.mg x=↑u) (r:RelV (.str y) u) (hg:Gl X x) (hd:(x == ("__debug__":Str))=Þ):PD X (.Name x pos) (dC (.str y)):=ly (ZN hg hm r hd) λ _=>by simp![zf]
end
end L5
namespace ZP
open ÿ Ë
def dJ Ä7:String:=cond k "tuple_iterator" "list_iterator"
def SI Ä6 Ä7 (it l:Addr) (i:Nat):Prop:=∃ o,Ň it=↑o/\o.cls=Ý (dJ k)/\o.data=Ĥ [É l,č i 0].toArray
def SQ Ä6 Ä7 Ä5 (xs:AB):Prop:=match k with
 | true=>h.IsTuple l xs
 | Þ=>h.IsList l xs
def SI.on {h h':Heap}Ì0{it l:Addr}{i:Nat}(x:SI h k it l i) (f:∀ o,Ň it=↑o->Æ3 it=↑o):SI h' k it l i:=
 let #[o,ho,r]:=x;É3
def SQ.on {h h':Heap}ĝ(x:Í0) (f:∀ o,Ň l=↑o->Æ3 l=↑o):SQ h' k l xs:=by
 cases k with
 | true=>let#[o,ho,r]:=ž;show É3
 | Þ=>let#[o,ho,r]:=Â0;show É3
def SQ.lt Ë9 ĝ(x:Í0):l<Í1:=by
 cases k with
 | true=>let#[o,ho,_]:=ž;show Ar ho
 | Þ=>let#[o,ho,_]:=Â0;show Ar ho
theorem SQ.cls Ë9 ĝ(x:Í0):∃ o,Ň l=↑o/\o.cls=Ý (cond k "tuple" "list"):=by
 cases k with
 | true=>let#[o,ho,c,_]:=ž;show#[o,ho,c]
 | Þ=>let#[o,ho,c,_]:=Â0;show#[o,ho,c]
section
variable {Ó}{è}{þ}
def made ĝ È1(hl:Ã1)
  (hQ:Q (É À) { s with heap:=î { cls:=Ý (dJ k),data:=Ĥ [É l,č 0 0].toArray } }):Ā Ç (pyIter Ų) Q E s:=by
 cases k with
 | true=>show zaP hl hQ
 | Þ=>show zaM hl hQ
def IH Ī{x:å}È1 Ş (hx:À1)
  (hQ:∀ h',h'.IsTupleIter it l (i+1)->Á7):ķ:=by
 ext Ą;have there:=za8 (ĸ λ y=>y.setIfInBounds 1 (À7 ((i:Int)+1))) e1 (ŏ (Ĉ e3 _));exact gV (zaD e1 e3 #[] (Ae #[x,rfl,Ae (hQ _ #[_,there,(Obj.cls_mapFields ..).trans e2,?_] (ţ ..))]));rw[Ĉ e3];simp[À7]
def Iv Ī È1 ğ Ş ù:ķ:=by
 ext Ą;exact gV (wpAny_rule (gV (zaD e1 e3 #[] ?_)));exact gV (m:=newExc (ŵ) []) ?_;simp![newExc,newTuple];exact gV (zaA (gV (m:=firstArgMember à) (wpAny_of_eq (a:=œ) (by first | rfl | (simp![firstArgMember];rfl)) (zaA ?_ (by size_fits)))) (by size_fits));simp![raiseNew];exact gV (wpAny_handled ?_);rw[show A.in1.handled=none from hh];show gV (Ae (wpAny_throw (hE à (((ţ ..).extBut.push _).push _) #[_,Ä3,rfl])))
def draw Ì0 Ī{x:å}È1 Ë2 (hx:À1)
  (hQ:∀ h',SI h' k it l (i+1)->Á7):ķ:=by
 cases k with
 | true=>show IH hit hl hx hQ
 | Þ=>show wpAny_nextOf_list_item hit hl hx hQ
def iD Ì0 Ī È1 ğ Ë2 ù:ķ:=by
 cases k with
 | true=>show Iv hh hit hl hx hE
 | Þ=>show wpAny_nextOf_list_end hh hit hl hx hE
structure gA (z TI TO i1 i2 l1 l2:Addr):Prop where
 nd:[z,TI,TO,i1,i2].Nodup
 f1:l1∉ Î
 f2:l2∉ Î
structure At Ä6 Ê6 (z TI TO i1 i2 l1 l2:Addr) (f0:å) Ï3:Prop where
 z:IsZip h z TI TO f0
 ti:Í2 h TI (É i1) (É i2)
 to:∃ a b,Í2 h TO a b
 s1:SI h k1 i1 l1 n
 s2:SI h k2 i2 l2 n
def At.keep {h h':Heap}ĵ{f0:å}{n:Nat}(S:At h k1 k2 ò f0 n) (f:∀ b∈ Î,∀ o,Ň b=↑o->Æ3 b=↑o):At h' k1 k2 ò f0 n:=
 #[f z #[] _ S.z,f TI #[] _ S.ti,let #[a,b,e]:=S.to;#[a,b,f TO #[] _ e],S.s1.on (f i1 #[]),S.s2.on (f i2 #[])]
def item ĵ{n:Nat}{xs ys:AB}{x y:å}È2 È3
  Ħ (hx:xs[n]?=↑x) (hy:ys[n]?=↑y)
  (hQ:∀ h',At h' k1 k2 ò (À7 À) (n+1)->Í2 h' À x y->ě->Q ↑(É À) { s with heap:=h' }):
  Ā Ç (pyNext Í3) Q E s:=by
 ext Á3;ext Ö;ext Ì;replace to3:Í2 g3 TO x b:=to3;ext ö;exact gV (gV (Ç7 (gV (m:=ß (É i2)) (draw ģ λ g4 s24 e4=>Ì7))));have to4:Í2 g4 TO x b:=Í4 à n9 to3;exact gV (zaE to4 rfl (gV (wpAny_updateSeq_pair to4 λ g5 to5 e5=>gV (wpAny_letGo (Ae (Ì7))))));replace to5:Í2 g5 TO x y:=to5;exact gV (zaE to5 rfl (gV (wpAny_newTuple ?_)));have sz:Ĭ=À:=by rw[e5.1,e4.1,e3.1,e2.1,e1.1]
 have hz5:IsZip g5 Ŗ:=Ã4 à n2 (Í4 Â7);have up5:∀ c o,c∉ Î->Ü c=↑o->g5.get? c=↑o:=λ c o hc q=>by
  ext ľ;show Ã4 à hc.2.2.1 (Í4 Á2)
 have ti5:Í2 g5 TI (É i1) (É i2):=Ã4 à n5 (Í4 à n7 (up à (ø n1) n6 n5 DV));have s15:SI g5 k1 i1 l1 (n+1):=s12.on λ o q=>Ã4 à (ø n8) (Í4 à n10 (Í5 à (ø n8) q));have s25:SI g5 k2 i2 l2 (n+1):=s24.on λ o q=>Ã4 à (ø n9) q;have lz:z<Ĭ:=Ar hz5;exact gV (m:=Builtin.SmallTypes.ownedTupleHandOut Í3 (É Ĭ)) ?_;have hz6:IsZip (À9) Ŗ:=tp _ hz5;exact gV (zaK hz6 #[] λ g7 hz7 e7=>?_);replace hz7:IsZip g7 z TI TO (À7 Ĭ):=hz7;exact zaK hz7 #[] λ g8 hz8 e8=>?_;replace hz8:IsZip g8 z TI TO (À7 Ĭ):=hz8;have up8:∀ c o,c≠z->(À9).get? c=↑o->g8.get? c=↑o:=λ c o c1 q=>e8.extBut à c1 (e7.extBut à c1 q);have T8:Í2 g8 Ĭ x y:=up8 à (Bp lz) (Ä3);have up9:∀ c o,c≠z->g5.get? c=↑o->g8.get? c=↑o:=λ c o c1 q=>up8 c o c1 (tp _ q);rw[sz] at hz8 T8;exact Ae #[É Ĭ,rfl,Ì7];change Q ↑(É Ĭ) _;rw[sz];exact hQ g8 #[hz8,up9 à (ø n1) ti5,#[x,y,up9 à (ø n2) to5],s15.on λ o q=>up9 _ o (ø n3) q,s25.on λ o q=>up9 _ o (ø n4) q] T8 λ c o hc q=>up9 c o (λ e=>hc (by simp[e])) (up5 c o hc q)
def stop ĵ{n:Nat}{xs ys:AB}È2 ğ È3
  Ħ (Ce:xs[n]?=none\/ys[n]?=none)
  (hQ:∀ h',ě->Q none { s with heap:=h' }):
  Ā Ç (pyNext Í3) Q E s:=by
 ext Á3;have fin:∀ (h':Heap) (e:Addr),ě->Í6->
   Ā Ç (do if <- isInstance Í7 (ŵ) then pure none else throw Í7) Q E { s with heap:=h' }:=λ h' e k1 k2=>by
  let#[o,ho,hc]:=k2;show gV (wpAny_isInstance ş (Ae (hQ _ k1)))
 ext Ö;cases hx:xs[n]? with
 | none=>
  exact gV (gV (Ç7 (gV (m:=ß (É i1)) (iD hh ĳ λ g2 ex e2 he=>?_))));have hz2:IsZip g2 Ŗ:=e2 à n3 hz1;let#[oe,q1,q2]:=he;have ne:ex≠z:=λ q=>by subst q;rw[hz2] at q1;cases q1;simp at q2
  exact zaK hz2 #[] λ g3 _ e3=>fin g3 ex (λ c o hc q=>?_) #[oe,Í5 à ne q1,q2];ext ľ;show Í5 à hc.1 (e2 à hc.2.2.2.1 (Í8 à hc.1 q))
 | some x=>
  have hy:ys[n]?=none:=Ce.resolve_left (by rw[hx];simp);ext Ì;ext ö;exact gV (gV (Ç7 (gV (m:=ß (É i2)) (iD hh ģ λ g4 ex e4 he=>?_))));have hz4:IsZip g4 Ŗ:=e4 Â7;let#[oe,q1,q2]:=he;have ne:ex≠z:=λ q=>by subst q;rw[hz4] at q1;cases q1;simp at q2
  exact zaK hz4 #[] λ g5 _ e5=>fin g5 ex (λ c o hc q=>?_) #[oe,Ã4 à ne q1,q2];ext ľ;show Ã4 à hc.1 (e4 Á2)
end
abbrev u9 Ä7 Ä5:Obj:={ cls:=Ý (dJ k),data:=Ĥ [É l,č 0 0].toArray }
abbrev nM ĉ:Heap:=(h.push Ä4).push (u9 k2 l2)
abbrev ij ĉ:Heap:=(nM Ä1).push { cls:=Ŕ,data:=.seq [É Í1,É (h.push Ä4).objs.size].toArray }
abbrev ig ĉ:Heap:=(ij Ä1).push { cls:=Ŕ,data:=.seq [Ĵ,Ĵ].toArray }
abbrev nL ĉ:Heap:=(ig Ä1).push { cls:=Ý "zip",data:=Ĥ [Ĵ,.bool Þ,.bool Þ,É (nM Ä1).objs.size,É (ij Ä1).objs.size].toArray }
def Lv Ê6 (l1 l2:Addr) (xs ys:AB):Meets (Builtin.«zip.__new__» #[[Ý "zip",É l1,É l2],[]]) (λ _ R s=>SQ Ø k1 l1 xs/\SQ Ø k2 l2 ys/\
   R (.ok (.ret (É É4))) { s with heap:=nL ì }):=
 .of_wp λ prog w A R s h=>by
  ext ĺ;let#[q1,q2,h]:=h;have Ex:=sub_zip;have m1:SQ Ä8 k1 l1 xs:=q1;have m2:SQ (Shared.heap #[hp.push Ä4,g,d,tk,os]) k2 l2 ys:=q2.on λ o e=>tp _ e
  wp_walk using made m1,made m2
  show ŉ
section
variable {Ó}{è}{þ}
def new {k1 k2:Bool}{l1 l2:Addr}{xs ys:AB}È1 Ħ
  (h:∀ h' z TI TO i1 i2,(∀ b∈ Î,À<=b)->gA ò->At h' k1 k2 ò Ĵ 0->(∀ c o,Ü c=↑o->Æ3 c=↑o)->Q Í3 { s with heap:=h' }):
  Ā Ç (call (Ý "zip") [É l1,É l2]) Q E s:=by
 exact callType_new F.called_zip () (F.typeCall_zip_2 à) (F.newCall_zip_2 à) (λ obj=>F.args_object_init_3 obj à) F.entry_zip_new (Lv k1 k2 l1 l2 xs ys) #[h1,h2,?_];have z1:(î Ä4).objs.size=À+1:=Ŷ ..;have z2:(nM ì).objs.size=À+2:=by rw[Ŷ,z1]
 have z3:(ij ì).objs.size=À+3:=by rw[Ŷ,z2]
 have z4:É4=À+4:=by rw[Ŷ,z3]
 have p1:∀ Ä6 (o:Obj),o.isFreed=Þ->(h.push o).get? Í1=↑o:=λ h o e=>AJ _ e;have u:∀ Ë9{b:Addr}{o:Obj}(o':Obj),Ň b=↑o->(h.push o').get? b=↑o:=λ o' e=>tp _ e;have g5:Ã5 É4=↑_:=p1 à rfl;have g4:Ã5 (ij ì).objs.size=↑_:=Ã6;have g3:Ã5 (nM ì).objs.size=↑_:=u _ (Ã6);have g2:Ã5 (î Ä4).objs.size=↑(u9 k2 l2):=u _ (u _ (Ã6));have g1:Ã5 À=↑ Ä4:=u _ (u _ (u _ (Ã6)));have a1:=h1.lt;have a2:=h2.lt;rw[z2,z3,z4] at g5;rw[z1,z2] at g3;rw[z3] at g4;rw[z1] at g2;generalize hN:À=N at *;have lt:∀ {m:Nat},m<N->∀ j:Nat,¬ m=N+j:=λ hm j=>⋯;have ne:∀ {i j:Nat},i≠j->¬ (N+i=N+j):=λ A9 e=>A9 ⋯;change _/\_;rw[z4];exact#[#[_,g5,rfl],h _ (N+4) (N+2) (N+3) N (N+1) (λ b hb=>?_) #[?_,?_,?_] #[g5,g3,#[_,_,g4],#[_,g1,rfl,rfl],#[_,g2,rfl,rfl]] λ c o e=>u _ (u _ (u _ (u _ (u _ e))))]
 .ext ú;have h0:N<=N:=An N;ext È9
  .show CL N 4
  .show CL N 2
  .show CL N 3
  .show h0
  .show CL N 1
 .have e0:∀ {i:Nat},i≠0->¬ (N+i=N):=λ hi e=>hi ⋯;have e0':∀ {i:Nat},i≠0->¬ (N=N+i):=λ hi e=>hi ⋯;simp![Bo,Am,A6,Ç8,not_or,List.nodup_nil,and_true,not_false_eq_true];show#[#[ne (),ne (),e0 (),ne ()],#[ne (),e0 (),ne ()],#[e0 (),ne ()],e0' ()]
 .simp![Am,A6,Ç8,not_or];show#[lt a1 4,lt a1 2,lt a1 3,AF a1,lt a1 1]
 .simp![Am,A6,Ç8,not_or];show#[lt a2 4,lt a2 2,lt a2 3,AF a2,lt a2 1]
end
end ZP
namespace L2
open ÿ á Ë ZP
section
variable {Æ0}{EW:Ak}{σ:St}{H:Hp}{þ}
def Inv.jk {h':Heap}{t':Nat}{fp:List Addr}(I:Inv X EW σ H s) (k:∀ b o,b∉fp->Į) (hf:∀ b∈fp,uI X EW H b):Inv X EW σ H { s with heap:=h',toks:=t' }:=by
 have nit:∀ b u,H b=↑u->b∉fp:=λ b u e z=>by rw[(hf b z).1] at e;cases e
 exact I.step (g':=s.gens) (d':=s.drawn) (ch:=fp) (λ b hb=>?_) (λ b o _ _ hc e _=>k b o hc e) (λ b o _ _ hc e _=>#[o.slots,k b o hc e]) (λ _ _ _ _ n=>n)
  (λ b o hc e=>#[o,k b o hc e]) (λ _ _ e=>e) (λ _ _ _ e=>e) (λ b ps e=>#[ă,by rw[e];simp]) (λ m hm=>?_) (λ b u e=>?_) I.bare
 .let#[_,q1,_,q2,q3,q4]:=hf b hb;show#[q2,q1,q3,q4]
 .let#[o,es,ep,ho,r]:=hm;show#[o,es,ep,k _ o (λ z=>(hf _ z).2.1 rfl) ho,r]
 .exact (I.zt b u e).uv (λ c v hc q=>k c v ?_ q) (λ _ q=>q) λ _ _ q=>q;rcases hc with z | z
  .rw[z];show nit b u e
  .show nit c _ z
def wW Ï4 (H:Hp) Ä7 (a:Addr) (xs:List V):Prop:=match k with
 | true=>yk K H a xs
 | Þ=>zU K H a xs
def wW.of Å6 Ï2(h:wW X.K H k a xs):∃ Ab:List å,Vals xs Ab/\SQ Ø k a ŷ:=by
 cases k with
 | true=>let#[Ab,rv,p,_]:=I.tuple h;show#[Ab,rv,p]
 | Þ=>let#[Ab,rv,p,_]:=I.list h;show#[Ab,rv,p.isList]
def wW.inj Å6{xs ys:List V}(h:wW X.K H k a xs) (h':wW X.K H k a ys):xs=ys:=by
 cases k with
 | true=>show I.fw h h'
 | Þ=>show I.dq h h'
def Vz Ï4 Ê6 (a1 a2:Addr):It:=
 #[λ i H=>∃ xs ys x y,Í9/\Î0/\À1/\ys[i]?=↑y,
   λ i H v H'=>∃ p x y,v=É p/\H p=none/\H'=upd H p (Ê1)/\(∀ xs,Í9->À1)/\∀ ys,Î0->ys[i]?=↑y,
   λ i H=>∃ xs ys,Í9/\Î0/\(ê<=i\/ys.length<=i)]
def Te Š Ċ{kk} {pos:Pos}{k1 k2:Bool}{z TI TO i1 i2 a1 a2:Addr}(D:gA z TI TO i1 i2 a1 a2):
  Turn P w K (.Tuple es kk pos) (Vz K k1 k2 a1 a2) Î z (λ i h=>At h k1 k2 z TI TO i1 i2 a1 a2 Ĵ i) where
 mem:=#[]
 obj:=λ i h st b hb=>by
  let#[q1,q2,#[_,_,q3],#[o1,q4,_,d1],#[o2,q5,_,d2]]:=st;ext ú;ext È9
  .show#[_,q1,Ã7]
  .show#[_,q2,Ã7]
  .show#[_,q3,Ã7]
  .show#[_,q4,Î1]
  .show#[_,q5,λ v z=>by rw[d2] at z;cases z]
 keep:=λ i h h' st k=>st.keep k
 item:=by
  ext é;let#[xs,ys,x,y,g1,g2,hx,hy]:=hg;ext Ū;let#[u1,e1,r1]:=rv1.get hx;let#[u2,e2,r2]:=rv2.get hy;exact ZP.item D st q1 q2 (x:=u1) (y:=u2) (by exists e1) (by exists e2) λ h' S' T' up=>#[_,rfl,?_];exact wpAny_letOwnedTupleGo_zip S'.z λ h2 z2 sb=>?_;have nT:À ∉ Î:=λ hb=>by
   let#[o,ho,_]:=(show ∃ o,Ü À=↑o/\True from by
    let#[w1,w2,#[_,_,w3],#[o1,w4,_],#[o2,w5,_]]:=st;ext ú;rcases hb with e | e | e | e | e <;> rw[e]
    .show#[_,w1,trivial]
    .show#[_,w2,trivial]
    .show#[_,w3,trivial]
    .show#[_,w4,trivial]
    .show#[_,w5,trivial])
   show absurd (Ar ho) (B6 _)
  have nz:À ≠z:=λ e=>nT (by simp[e]);have fr:H À=none:=ĥ;have I1:Inv X EW σ (upd H À (Ê1)) { s with heap:=Â1,toks:=À6 }:=
   I.laid (o:=Ê1) (λ b u q=>tp _ q) (An _) #[Ç3,[u1,u2],Ŵ r1 (Ŵ r2 .nil),IsTup.new à]
  have hf':∀ b∈ Î,upd H À (Ê1) b=none:=λ b hb=>by
   rw[zP (λ e=>nT (by rw[<- e];show hb))];show (hf b hb).1
  have kk:∀ b o,b∉ Î->(Â1).get? b=↑o->h2.get? b=↑o:=λ b o hb q=>by
   have hbz:b≠z:=λ e=>hb (by simp[e]);by_cases Dz:b=À
   .subst Dz;rw[Ä3] at q;cases q;show Ŭ à nz T'
   .ext Ű
    show Ŭ à hbz (up b o hb q')
  have I2:=Inv.jk (h':=h2) (t':=À6) (fp:=Î) Ç0;exact#[É À,_,I2,rfl,#[_,x,y,rfl,fr,rfl,Æ4,λ zs hz=>by rw[hz.inj I g2];show hy],#[z2,?_,?_,?_,?_],hf']
  .ext æ;show Ŭ à (ø nd.1.1) S'.ti
  .let#[a,b,e]:=S'.to;ext æ;show#[a,b,Ŭ à (ø nd.1.2.1) e]
  .ext æ;show S'.s1.on λ o q=>Ŭ à (ø nd.1.2.2.1) q
  .ext æ;show S'.s2.on λ o q=>Ŭ à (ø nd.1.2.2.2) q
 done:=by
  ext é;let#[xs,ys,g1,g2,hx]:=hg;ext Ū;have l1:=rv1.length;have l2:=rv2.length;exact ZP.stop (Ů) D st q1 q2 ?_ λ h' up=>#[rfl,I.jk (t':=À6) up hf];rcases hx with hx | hx
  .show .inl Å5
  .show .inr Å5
 self:=λ _ _ _ _ _ st h=>wpAny_pyIter_zip st.z h
def KA Ï4 (ta:TA):TI:=fun σ H R=>ta σ H λ vs H1=>∃ a1 a2 k1 k2,vs=[É a1,É a2]/\(∃ xs,wW K H1 k1 a1 xs)/\(∃ ys,wW K H1 k2 a2 ys)/\R (Vz K k1 k2 a1 a2) H1
theorem RE {a b:Expr}{ta:TA}{p pos pos':Pos}Ċ{kk} (hg:Gl X "zip") (hm:X.mg "zip"=none) (ha:PA X É5 ta) (hs:ű:=by rfl) (hs2:Ŋ [b] ć=[Ê9]:=by rfl):
  PI Ť (KA X.K ta):=by
 intro EW s σ H R I h;exact Call_ (pJ I hg hm boot_zip (Î2 ļ (by rw[hs,hs2]) (by rw[hs2];rfl)));let#[a1,a2,k1,k2,rfl,#[xs,g1],#[ys,g2],q]:=q1;cases r1 with
 | cons r rr=>
  cases rr with
  | cons r' rr=>
   cases rr;cases r;cases r';let#[it1,_,q1]:=g1.of I1;let#[it2,_,q2]:=g2.of I1;exact ZP.new q1 q2 λ h' z TI TO i1 i2 nw D S up=>wpAny_pyIter_zip S.z ?_;show#[z,Î,_,_,H1,rfl,I1.kept (t':=s1.toks) up,Te D,S,À2,q]
end
end L2
namespace L5
open ÿ á L2 L3
open Ë hiding St
section
variable {K:Ac}{a:Expr}{p:Pos}
def YL (t:zY):wV:=fun Y S R=>t Y S λ ds S1=>∃ d e xs ys,ds=[d,e]/\zZ d S1=↑xs/\zZ e S1=↑ys/\R #[Ã8 Â5 xs ys,λ S=>zZ d S=↑xs/\zZ e S=↑ys] S1
def lQ:D->Bool
 | .tup _=>true
 | _=>Þ
def zZ.k {H:Hp}{S:SS}{d:D}{v:V}À5(r:zf K H d v) (p:zK K H S) (e:zZ d S=↑ds):∃ a xs,v=É a/\wW K H (lQ d) a xs/\zo K H ds xs:=by
 by_cases q:∃ ts,d=Ì2
 .let#[ts,rfl]:=q;cases e;simp![zf] at r;let#[a,xs,h1,h2,h3]:=r;show#[a,xs,h1,h2,h3]
 .let#[a,xs,h1,h2,h3]:=pj r p e λ ts z=>q #[ts,z];exact#[a,xs,h1,?_,h3];have:lQ d=Þ:=by cases d <;> first | rfl | show absurd #[_,rfl] q
  rw[this];show h2
end
section
variable {Æ0}{a b:Expr}{tA:zY}{Ï1}{Ċ}{kk:Nat}
def Q_ (hm:X.mg "zip"=none) (ha:yS X É5 tA) (hg:Gl X "zip") (hs:ű) (hs2:Ŋ [b] ć=[Ê9]):
  tE Ť (YL tA):=by
 exact#[fun Y S Q Q' hq z=>ha.mo Y S à (λ ds S1 #[d,e,xs,ys,h1,h2,h3,h4]=>#[d,e,xs,ys,h1,h2,h3,hq à h4]) z,PI.imp (RE hg hm ha.pa hs hs2) fun σ H R hu=>?_];ext š;let#[d,e,xs,ys,rfl,s1,s2,h]:=h1;let#[v,u,rfl,d1,d2]:=q1.two;ext Å2;let#[a2,ws,rfl,g3,g4]:=zZ.k d2 p1 s2;exact#[a1,a2,lQ d,lQ e,rfl,#[us,g1],#[ws,g3],Æ5];let#[b1,us2,q1,m1,m2]:=zZ.k (zf.ext x1 d d1) x2 hk.1;cases q1;let#[b2,ws2,q2,m3,m4]:=zZ.k (zf.ext x1 e d2) x2 hk.2;cases q2;have l1:=m2.length;have l2:=m4.length;exact#[λ dd hd=>?_,λ hl=>#[us2,ws2,m1,m3,?_]]
 .rw[List.getElem?_zipWith] at hd;split at hd
  .rename_i dx dy hx hy;cases hd;let#[x,hx',rx]:=m2.get hx;let#[y,hy',ry]:=m4.get hy;exact#[#[us2,ws2,x,y,m1,m3,hx',hy'],λ v H' q=>?_];let#[pp,x',y',rfl,hp,rfl,f1,f2]:=q;ext ŗ
   have ey:y'=y:=by have:=f2 _ m3;rw[hy'] at this;show (Be this).symm
   subst ex ey;ext Ê4;show#[pp,_,rfl,yk.of yy,zo.ext (Œ) _ (Ŵ rx (Ŵ ry .nil))]
  .cases hd
 .have hl':(Ã8 Â5 xs ys).length<=i:=hl;rw[List.length_zipWith] at hl';lia
@[simp] def ff:Ÿ->â (Ÿ)
 | [x,y]=>(vF x).bind λ xs=>(vF y).map λ ys=>Ã8 (λ a b=>T.tup É5) xs ys
 | _=>none
theorem Zc {S:SS}:∀ {ts us:Ÿ}{ds es:List D},zk S ts ds->zk S us es->zk S (Ã8 (λ a b=>T.tup É5) ts us) (Ã8 Â5 ds es)
 | [],us,ds,es,h,h'=>by simp![zk] at h;subst h;exists zk.nil
 | t::ts,[],ds,es,h,h'=>by simp![zk] at h';subst h';exists zk.nil
 | t::ts,u::us,ds,es,h,h'=>by
  simp![zk] at h h';let#[c,cs,rfl,h1,h2]:=h;let#[c',cs',rfl,h3,h4]:=h';show zk.cons (o_ (zk.cons h1 (zk.cons h3 zk.nil))) (Zc h2 h4)
def zZ.sx {S S':SS}{d:D}À5(h:zZ d S=↑ds) (s:Sx S S'):zZ d S'=↑ds:=by
 unfold zZ at h ⊢;split at h
 .show h
 .show h
 .split at h
  .rename_i q;cases h;rw[s à q]
  .cases h
 .cases h
def NH Ï5(h:qN g tA):rQ Þ (xU ff g) (YL tA):=λ S Z Y J ts Q hE e hq=>by
 ext õ;unfold ff at e2;split at e2
 .let#[xs,e3,e4]:=Al.mp e2;let#[zs,e5,rfl]:=Ax.mp e4;let#[d,d',rfl,h1,h2]:=aE r1;let#[es,g1,g2]:=h1.seq e3;let#[es',g3,g4]:=h2.seq e5;show#[d,d',es,es',rfl,g1,g3,hq _ S1 s1 (Zc g2 g4) λ S'' s=>#[zZ.sx g1 s,zZ.sx g3 s]]
 .cases e2
theorem zZ.zB {S:SS}{Z:Addr->Prop}{y:T}{d:D}{ts:Ÿ}(h:Sn (zB S Z) y d) (e:vF y=↑ts):∃ ds,zZ d (zB S Z)=↑ds/\zk (zB S Z) ts ds:=by
 cases y with
 | tup us=>cases e;simp![Sn] at h;let#[ds,rfl,h2]:=h;show#[ds,rfl,h2]
 | lst us=>
  cases e;simp![Sn] at h;obtain⟨ds,⟨rfl,_⟩ | ⟨a,rfl,h1⟩,h2⟩:=h
  .show#[ds,rfl,h2]
  .show#[ds,by unfold zZ;ext À4;rw[h1],h2]
 | _=>cases e
end
end L5
namespace TM
open ÿ Ë
theorem Xx {α:Type}(xs:List α):∀ (m:Nat) (acc:Array α),(Ù m xs.toArray).foldl (·++·) acc=acc++(Ù m xs).flatten.toArray
 | 0,acc=>#[]
 | m+1,acc=>by
  rw[B2,DF,Xx xs m,B2,Cp,Et];simp
end TM
namespace L5
open ÿ á L2 L3
open Ë hiding St
section
variable {K:Ac}
theorem zo.rep {H:Hp}À5 Ï2(h:zo K H ds xs):∀ n:Nat,zo K H (Ù n ds).flatten (Ù n xs).flatten
 | 0=>.nil
 | n+1=>by
  rw[B2,B2,Cp,Cp];show h.append (zo.rep h n)
theorem zk.rep {S:SS}{ts:Ÿ}À5(h:zk S ts ds):∀ n:Nat,zk S (Ù n ts).flatten (Ù n ds).flatten
 | 0=>.nil
 | n+1=>by
  rw[B2,B2,Cp,Cp];show h.append (zk.rep h n)
end
end L5
namespace L4
open ÿ Ë
section
variable {Ó}{è}{þ}
def Hi {l:Addr}{vs:Ai}{Q:List å->ó}(hl:IsTup Ø l É6) (hz:vs.length<=Ă)
  (h:Q vs { s with heap:=ė }):Ā Ç (collect Ų) Q E s:=by
 let#[o,ho,hc,n,hd]:=id hl;have new:(Û).get? À=↑(seqObj "list" ă 0):=Ä3;have ho':(Û).get? l=↑o:=tp _ ho;unfold collect;exact gV (wpAny_runValue (Î3 entry_proto_collect' (gV (m:=newList []) (wpAny_newList (Ae #[Code.quiet_builtin _ (AU),Î3 entry_list_iadd' ?_])))));change Ā à (Î4 (É À) Ų (É À)) à { s with heap:=Û };unfold Î4;exact gV (wpAny_typeOf (T:="tuple") #[o,ho',hc] ?_);rw[if_pos (by rw[show (Value.type "tuple" == Value.type "tuple")=true from rfl];simp)];exact gV (listItems_at ho' hd (gV (listItems_at (xs:=ă) (n:=0) new rfl ?_)));rw[if_neg #[]];exact gV (listUpdate_at (xs:=ă) (n:=0) new rfl (Ì7) (AZ _) (by change (ă++É6).size<=Ă+1;simp![Array.size_append,AK,DL];lia));exact gV (m:=load À) (wpAny_load (get?_update_seq new _) ?_);change Ā à (pure ((ă:AB)++É6).toList) Q E _;have e:((ă:AB)++É6).toList=vs:=#[];rw[e];show Ae h
end
section
open L2 á
variable {Æ0}
def ZC þ{vs:Ai}:∀ b o,¬ False->Î5->(ė).get? b=↑o:=λ b o _ q=>by
 rw[zaQ à à (AF (Ar q))];show tp _ q
theorem Hy:yL X Æ1 (λ xs H Q=>∃ p ys,∃ rows:ĩ,Ì4/\(zU X.K H p ys\/yk X.K H p ys)/\qK X.K H ys rows/\ů/\kN (Ì6) H Q):=by
 ext Ņ;let#[p,ys,rows,rfl,hq,hr,h64,q]:=h;ext ę;have hl:(Ì6).length<64:=Ì1
 have sz:∀ vs:List å,À<=(ė).objs.size:=λ vs=>by rw[Heap.size_update,size_push'];show C_ _
 rcases hq with hq | hq
 .ext Ï6;show fQ I (λ Q' h=>collect_list pl.isList (h _ À6 ZC (sz Ab)) Ë4) (VR.of rv hr) hl q
 .let#[Ab,rv,pl,hz]:=I.tuple hq;show fQ I (λ Q' h=>Hi pl Ë4 (h _ À6 ZC (sz Ab))) (VR.of rv hr) hl q
end
end L4
namespace L5
open ÿ á L2 L3
open Ë hiding St
section
variable {ō}{e:Expr}{Ċ}{tA:zY}{pos p:Pos}
def qw:xF:=λ ds S Q=>∃ d,∃ rows:ĩ,ds=[d]/\zZ d S=↑(rows.map v_)/\ů/\(∀ r∈rows,r≠[])/\∀ l,S l=none->Q Ų (ups S l (Ė ((L4.wu rows).map v_)))
def oY:Ap
 | [y]=>(vF y).bind λ ts=>(vZ ts).bind λ rs=>if Ê2 then ↑(Ė ((L4.wu rs).map yV)) else none
 | _=>none
def J1:vR zJ oY qw:=λ S Z ys z ds Q hz hv e hq=>by
 unfold oY at e;split at e
 .ext ċ;let#[ts,e0,e]:=À0;let#[rs,e1,e2]:=À0;split at e2
  .rename_i hc;cases e2;cases ee e1;let#[es,h2,h3]:=h1.seq e0;cases oZ.mp h3;show#[d,rs,rfl,h2,hc.1,hc.2,Ż]
  .cases e2
 .cases e
def qw.mo:vQ qw:=λ ds S Q Q' hq #[d,rows,h0,h1,h2,h3,h4]=>#[d,rows,h0,h1,h2,h3,λ l hl=>hq à (h4 l hl)]
def yL.or {f:å}{r r':List V->Hp->VK->Prop}(h:yL X f r) (h':yL X f r'):yL X f (λ xs H Q=>r xs H Q\/r' xs H Q):=λ EW s σ H xs us Q I rv q=>
 q.elim (λ q=>h EW s σ H xs us Q I rv q) λ q=>h' EW s σ H xs us Q I rv q
def qw.fits:uJ K qw (λ xs H Q=>∃ p ys,∃ rows:ĩ,Ì4/\(zU K H p ys\/yk K H p ys)/\L4.qK K H ys rows/\ů/\L4.kN (Ì6) H Q):=λ xs ds H S Q h0 h2 h=>by
 let#[d,rows,rfl,e,h64,AA,h]:=h;ext Ģ;let#[a,ys,rfl,g1,g2]:=zZ.sq h1 h2 e;have hl:=g2.length;rw[AM] at hl;exact#[_,ys,rows,rfl,g1,jx g2 AA,h64,λ l ps hf hp hs=>?_];have heq:=L4.a_ (rows:=rows) (by have:=hp.map (·.2);rwa [List.map_snd_zip ⋯] at this) hs;have hx:Ext H (upd H l (Ė (Ì5))):=.new hf _;exact h l (h2.none hf) à Đ hx (h2.ups hx #[_,yy,?_]);rw[<- heq];show zo.ext hx _ (zo.j9 λ q hq=>zo.jd g2 q (hp.mem_iff.mp hq))
def Px (hm:X.mg "sorted"=none) (ha:yS X (e::es) tA) (hg:Gl X "sorted") É8:PD X (.Call (.Name "sorted" p) (e::es) [] pos) (xD qw tA):=
 uR (uQ L4.Hy hg hm boot_sorted ha.pa () () he Ao) qw.mo qw.fits ha.mo
end
end L5
namespace L2
open ÿ á Ë
section
variable {Æ0}
def tB (r:Addr) (j:Int):Heap->Prop:=λ h=>∃ t u v,IsRange h r 0 j 1 t u v
def HF:yL X (Ý "range") (λ xs H Q=>∃ j,xs=[č j]/\∀ r,H r=none->Q (É r) í):=by
 ext Ņ;let#[j,rfl,q]:=h;let#[u,rfl,ru]:=vals1 r;let#[t,rfl]:=ru;exact call_range_1 #[É À,_,I.laid (o:=.ext (tB À j)) (λ b o e=>tp _ e) (An _) ?_,rfl,q _ (ĥ)];have here:tB À j (î { cls:=Ý "range",data:=Ĥ [č 0 À6,č j t,č 1 (À6+1)].toArray }):=#[_,_,_,IsRange.new ..];exact#[here,#[_,Ä3],λ h1 h2 S k=>?_];let#[a,b,c,e]:=S;show#[a,b,c,k _ e]
theorem HL ĭ:yL X (Ý "list") (λ xs H Q=>∃ r j,xs=[É r]/\H r=↑(.ext (tB r j))/\0<=j/\j<=16777216/\∀ l,H l=none->Q Ų (upd H l (ü))):=by
 ext Ņ;let#[a,j,rfl,hr,h0,h1,q]:=h;ext ę;obtain⟨⟨t,u,v,hR⟩,-,-⟩:=(show xa X.prog X.w H Ø a (.ext (tB a j)) from I.zt a _ hr)
 have hsz:Builtin.Range.rangeSize 0 j 1=((j.toNat:Nat):Int):=by rw[rangeSize_one];split <;> lia
 exact call_list_range (n:=j.toNat) (Ů) hR (small_one () () ⋯ ⋯) hsz ⋯ λ h' tk acc c k e hi=>?_;exact#[É À,_,I.laid (o:=ü) k (An _) #[?_,acc.toList,c,?_,by exists e],rfl,q _ (ĥ)]
 .have:Æ2:=rfl;simp;lia
 .let#[hn,hi]:=hi;exact ST.Paired.mk (by simp[hn]) λ i a b ha hb=>?_;rw[AG] at ha;let#[k',hk,rfl]:=Ax.mp ha;let#[hk1,hk2]:=AQ.mp hk;simp at hk2;subst hk2;let#[w,hw]:=hi i b (by exists hb);subst hw;show#[w,#[]]
end
end L2
namespace L5
open ÿ á L2 L3
open Ë hiding St
section
variable {ō}{e:Expr}{tA:zY}{pos p pos2 p2:Pos}
def rK:xF:=λ ds S Q=>∃ j:Int,ds=[č j]/\0<=j/\j<=16777216/\∀ l,S l=none->Q Ų (ups S l (Ė (uz 0 j.toNat)))
def jV:Ap
 | [č j]=>if 0<=j/\j<=16777216 then ↑(Ė (rangeT 0 j.toNat)) else none
 | _=>none
def J7:vR zJ jV rK:=λ S Z ys z ds Q hz hv e hq=>by
 unfold jV at e;split at e
 .ext ċ;split at e
  .rename_i hc;cases e;cases h1.int;show#[_,rfl,hc.1,hc.2,λ l hl=>hq à (.new hl _) (qg hz hl (Zd à))]
  .cases e
 .cases e
def rK.mo:vQ rK:=λ ds S Q Q' hq #[j,h0,h1,h2,h3]=>#[j,h0,h1,h2,λ l hl=>hq à (h3 l hl)]
theorem SR {H:Hp}Ï3:zo K H (uz 0 n) ((List.range n).map Á1):=by
 unfold uz
 induction List.range n with
 | nil=>show .nil
 | cons k l ih=>show Ŵ (by simp![zf];rw[Cv]) ih
def rK.fits:uJ K rK (λ xs H Q=>∃ j,xs=[č j]/\∀ r,H r=none->∃ r' j',[V.ref r]=[É r']/\í r'=↑(.ext (tB r' j'))/\0<=j'/\j'<=16777216/\
  ∀ l,í l=none->Q Ų (upd í l (Ė ((List.range j'.toNat).map Á1)))):=λ xs ds H S Q h0 h2 h=>by
 let#[j,rfl,c1,c2,h]:=h;ext Ģ;simp![zf] at h1;subst h1;exact#[j,rfl,λ r hr=>#[r,j,rfl,yy,c1,c2,λ l hl=>?_]];have x1:Ext H í:=.new hr _;have Dp:l≠r:=λ z=>by subst z;rw[yy] at hl;cases hl
 have hlH:H l=none:=by rw[zP Dp] at hl;show hl
 have x2:Ext í (upd í l (ü)):=.new hl _;show h l (h2.none hlH) à Đ Ç6 ((h2.new hr).ups x2 #[_,yy,SR _])
def PZ (hm:X.mg "list"=none) (hm2:X.mg "range"=none) (ha:yS X [e] tA) ĭ (hg:Gl X "list") (hg2:Gl X "range")
  (he2:AE X e [])
  (he:Ŋ [Ĳ] ć=(Þ,eval (Ĳ) ć)::Ŋ [] ć) Å9:
  PD X (.Call (.Name "list" p) [Ĳ] [] pos) (xD rK tA):=by
 have h:=nv (p:=p) (HL hc) hg hm PyProof.Rows.boot_list (rl (nv HF hg2 hm2 boot_range ha.pa () () he2 hpl2) p8 he) () () he Ao;show#[xD.mo rK.mo ha.mo,PE.imp h λ _ _ _ hu=>aP rK.mo rK.fits ha.mo hu]
end
end L5
namespace ST
open ÿ PySem.SetTable á Ë L2
def K4 {us us':Ai}(p:us'.Perm us):∀ {ms:Ò},ř us ms->∃ ms',ř us' ms'/\ms'.Perm ms:=by
 induction p with
 | nil=>intro ms h;show#[ms,h,.refl _]
 | cons x _ ih=>
  intro ms h;cases h with
  | cons n t h=>
   let#[ms',h1,h2]:=ih h;show#[n::ms',Ŵ n t h1,h2.cons n]
 | swap x y l=>
  intro ms h;cases h with
  | cons n t h=>
   cases h with
   | cons m u h=>show#[m::n::_,Ŵ m u (Ŵ n t h),.swap à _]
 | trans _ _ ih1 ih2=>
  intro ms h;let#[m1,h1,h2]:=ih2 h;let#[m2,h3,h4]:=ih1 h1;show#[m2,h3,h4.trans h2]
theorem ox.at Ó Ë9{a:Addr}{xs:Ġ}(S:ox È8 h a xs (rD w)):yU w a ŧ h:=by
 let#[#[es,ep,t,ho,he,T,h1,h2,h3],_]:=S;have hm:7<=İ/\İ<=127:=Ç2
 ext û
 show#[es,ep,t,#[ho,É9,T.vt,h1,h2],by rw[he,A3];rfl]
theorem Xe:∀ xs:Ġ,ř ŧ (Ŀ į)
 | []=>.nil
 | e::xs=>Ŵ e.1 e.2 (Xe xs)
theorem aF:∀ {us:Ai}{ns:Ò},ř us ns->Vals Ź us
 | _,_,.nil=>.nil
 | _,_,Ŵ n t h=>Ŵ #[t,rfl] (aF h)
section
variable {Æ0}
def HC ĭ:yL X (Ý "set") (λ xs H Q=>∃ p,∃ ns:Ò,Ì4/\zU X.K H p Ź/\Ê3/\
  ∀ Ä5 (us:Ai) (ms:Ò),H l=none->ř us ms->ms.Nodup->(∀ n,n∈ms↔n∈ns)->Q Ų (upd H l Ś)):=by
 ext Ņ;let#[p,ns,rfl,hq,h64,q]:=h;ext ę;ext Ï6;have hl:=rv.length;rw[AM] at hl;have iA:ř Ab ns:=intsAre_of rv;have nums:Nums ŷ ns:=λ i v hv=>by
  have hv':Ab[i]?=↑v:=by exists hv
  have hi:i<ns.length:=by rw[hl];show (AQ.mp hv').1
  let#[u,e1,t,e2]:=rv.get (i:=i) (x:=V.int ns[i]) (Ê5);rw[hv'] at e1;cases e1;show#[ns[i],t,e2,Ê5]
 have hh:X.A.handled=none:=Ů;exact HD (A:=X.A) hh pl.isList nums (by rw[AK];lia) λ h' tk xs S U k=>?_;have kk:∀ b o,Į:=λ b o e=>k b o (Ar e) e;have hSO:=S.at;exact#[É À,_,I.laid (t':=tk) (o:=.ext (yU X.w À ŧ)) kk (An _) ?_,rfl,q à (Ŀ į) (ĥ) (Xe xs) S.nd λ n=>#[λ hn=>?_,λ hn=>?_]]
 .let#[es,ep,t,St,e]:=id hSO;show#[hSO,#[_,St.get],λ h1 h2 S1 k=>S1.uv k]
 .let#[e,he,rfl]:=Aw.mp hn;let#[j,_,_,hj]:=U.own e he;show AW hj
 .let#[j,hj]:=Co.mp hn;show U.all j n (by have:=(AQ.mp hj).1;rw[AK];lia) hj
def Hz ĭ:yL X Æ1 (λ xs H Q=>∃ l us,∃ ms:Ò,xs=[É l]/\H l=↑ Ś/\ř us ms/\ms.length<64/\
  ∀ (p:Addr) (ns:Ò),H p=none->ns.Perm ms->ns.Pairwise (·<=·)->Q (É p) (upd H p (Ė Ź))):=by
 intro EW s σ H xs us0 Q I r h;let#[l,us,ms,rfl,hl,hm,h64,q]:=h;ext ï
 have hlen:ſ=ő:=by rw[<- eu];simp
 have EG:=hm.length;have hh:X.A.handled=none:=Ů;ext Ğ
 let#[ms',i1,i2]:=K4 hp hm;have CK:=hp.length_eq;have hl24:Æ2:=rfl;exact L4.aZ (N:=λ _=>False) (Out:=λ out=>∃ ns',ř out.toList ns'/\ns'.Perm ms'/\ns'.Pairwise (·<=·)) (λ Q' h=>Wv (by show hh) S (by rw[hlen,EG];lia) Q' h) (by rw[CK,EG];lia) (λ h2 s6 k=>L4.Hf i1 h2 (by rw[CK,EG];show h64)) (λ h1=>#[ms',by simpa using i1,.refl _,?_]) λ out h' tk p ho hs hp' k EV=>?_
 .have:ms'.length<2:=by rw[<- i1.length];show h1
  match ms',this with
  | [],_=>show .nil
  | [_],_=>show El à
 .let#[ns,g1,g2,g3]:=ho;let#[e,he]:=EV;exact#[É p,_,I.laid (t':=tk) (o:=Ė Ź) (λ b o e=>k b o id e) hp' ?_,rfl,q p ns (I.zt.fresh hp') (g2.trans i2) g3];show#[by rw[AM,g2.length_eq,i2.length_eq];lia,out.toList,e,aF g1,by exists he]
end
end ST
namespace L5
open ÿ á L2 L3
open Ë hiding St
def insI (n:Int):Ò->Ò
 | []=>[n]
 | m::l=>if n<m then n::m::l else if n=m then m::l else m::insI n l
def vD:Ò->Ò
 | []=>[]
 | n::ns=>insI n (vD ns)
theorem dh {n k:Int}:∀ {l:Ò},k∈insI n l↔k=n\/k∈l
 | []=>by simp[insI]
 | m::l=>by
  unfold insI;split
  .simp
  .split
   .rename_i h;subst h;simp
   .rw[Am,dh,Am];constructor
    .rintro (h | h | h)
     .show .inr (.inl h)
     .show .inl h
     .show .inr (.inr h)
    .rintro (h | h | h)
     .show .inr (.inl h)
     .show .inl h
     .show .inr (.inr h)
theorem jN {k:Int}:∀ {l:Ò},k∈vD l↔k∈l
 | []=>.rfl
 | n::l=>by unfold vD;rw[dh,jN,Am]
theorem Xh {n:Int}:∀ {l:Ò},l.Pairwise (· < ·)->(insI n l).Pairwise (· < ·)
 | [],_=>El à
 | m::l,h=>by
  have h':=BC.mp h;unfold insI;split
  .rename_i c;exact BC.mpr #[λ x hx=>?_,h];rcases Am.mp hx with e | e
   .rw[e];show c
   .show Int.lt_trans c (h'.1 x e)
  .split
   .show h
   .rename_i c1 c2;exact BC.mpr #[λ x hx=>?_,Xh h'.2];rcases dh.mp hx with e | e
    .rw[e];lia
    .show h'.1 x e
theorem aN:∀ l:Ò,(vD l).Pairwise (· < ·)
 | []=>.nil
 | n::l=>Xh (aN l)
theorem UU {l m:Ò}(h1:l.Nodup) (h2:l.Pairwise (·<=·)) (h3:m.Pairwise (· < ·)) (h:∀ k,k∈l↔k∈m):l=m:=by
 have nm:m.Nodup:=h3.imp λ h e=>⋯;exact L4.eJ (r:=λ a b:Int=>a<=b) (λ a b p q=>⋯) ((Eg h1 nm).mpr h) h2 (h3.imp λ h=>⋯)
section
variable {ō}{e:Expr}{tA:zY}{pos pos2 p p2:Pos}
def ki:xF:=λ ds S Q=>uZ ds S Q\/∃ d,∃ ns:Ò,ds=[d]/\(∀ ts,d≠ Ì2)/\zZ d S=↑(ns.map D.int)/\Ê3/\∀ l,S l=none->Q Ų Ç4
def sZ:Ap
 | [Ė ts]=>match sv ts with
  | some ns=>if Ê3 then ↑(Ė ((vD ns).map T.int)) else none
  | none=>mW [Ė ts]
 | [Ì2]=>mW [Ì2]
 | _=>none
def J0:vR zJ sZ ki:=λ S Z ys z ds Q hz hv e hq=>by
 unfold sZ at e;split at e
 .split at e
  .rename_i ns CU;split at e
   .rename_i hc;cases e;cases dP CU;ext ċ;let#[es,h2,h3]:=h1.seq rfl;cases q_.mp h3;exact .inr #[d,ns,rfl,?_,h2,hc,λ l hl=>hq à (.new hl _) (qg hz hl (q_.mpr rfl))];obtain⟨_,q | ⟨a,q,_⟩,_⟩:=h1.lst <;> subst q <;> show λ _=>nofun
   .cases e
  .show Ç9
 .show Ç9
 .cases e
theorem ki.mo:vQ ki:=λ ds S Q Q' hq h=>by
 rcases h with h | ⟨d,ns,h1,h2,h3,h4,h5⟩
 .show .inl (uZ.mo ds S Q Q' hq h)
 .show .inr #[d,ns,h1,h2,h3,h4,λ l hl=>hq à (h5 l hl)]
def JV {w:World}Ï2{H:Hp}{S:SS}{Q:VK}{d:D}{ns:Ò}(h0:zo K H [d] xs) (h2:zK K H S) (hn:∀ ts,d≠ Ì2) (e:zZ d S=↑(ns.map D.int)) (h64:Ê3) (h:∀ l,S l=none->wF K H Q Ų Ç4):
  ∃ p,∃ ns':Ò,Ì4/\zU K H p (ns'.map V.int)/\ns'.length<64/\
   ∀ Ä5 (us:Ai) (ms:Ò),H l=none->ř us ms->ms.Nodup->(∀ n,n∈ms↔n∈ns')->
    ∃ l' us',∃ ms':Ò,[V.ref l]=[É l']/\È5/\ř us' ms'/\ms'.length<64/\
     ∀ (p:Addr) (ns:Ò),Å p=none->ns.Perm ms'->ns.Pairwise (·<=·)->Q (É p) (upd Å p (Ė Ź)):=by
 ext Ģ;let#[a,ys,rfl,g1,g2]:=pj h1 h2 e hn;rw[g2.ints] at g1;exact#[a,ns,rfl,g1,h64,λ l us ms hf hi nd Bb=>#[l,us,ms,rfl,yy,hi,?_,λ p ns2 hp pm srt=>?_]]
 .have:=ST.eW ms ns nd λ x hx=>(Bb x).mp hx;lia
 .have x1:Ext H Å:=.new hf _;ext Â2
  ext Æ9
  have x2:Ext Å (upd Å p (Ė (ns2.map V.int))):=Œ;have heq:ns2=vD ns:=UU (pm.nodup_iff.mpr nd) srt (aN ns) λ k=>by rw[pm.mem_iff,Bb,jN]
  exact h p (h2.none hpH) à Đ Ç6 ((h2.new hf).ups x2 #[_,yy,?_]);rw[<- heq];show zo.eS ns2
def Pw {k:Nat}(hr:ya k X.A) (hm:X.mg "sorted"=none) (hm2:X.mg "set"=none) (ha:yS X [e] tA) ĭ (hg:Gl X "sorted") (hg2:Gl X "set")
  (he2:AE X e [])
  (he:Ŋ [Ń] ć=(Þ,eval (Ń) ć)::Ŋ [] ć) Å9:
  PD X (.Call (.Name "sorted" p) [Ń] [] pos) (xD ki tA):=by
 have h:=uQ (p:=p) (yL.or (ST.HA hc) (ST.Hz hc)) hg hm boot_sorted (rl (nv (yL.or (ST.HB hc hr.units) (ST.HC hc)) hg2 hm2 PyProof.Rows.boot_set ha.pa () () he2 hpl2) p8 he) () () he Ao;exact#[xD.mo ki.mo ha.mo,PE.imp h fun σ H Q hu=>?_];ext Č;exact wq.go ha.mo r1 r2 z λ ds S1 xs H1 h1 q1 e1 p1=>?_;rcases h1 with h1 | ⟨d,ns,rfl,c1,c2,c3,h1⟩
 .let#[p,ys,rows,a1,a2,a3,a4,a5]:=uZ.fits (w:=X.w) xs ds H1 S1 Q q1 p1 (uZ.mo ds S1 à (λ d S' z=>z.ext e1) h1);show .inl #[p,ys,rows,a1,a2,a3,a4,λ l us ps b1 b2 b3 b4 b5=>.inl (a5 l us ps b1 b2 b3 b4 b5)]
 .let#[p,ns',a1,a2,a3,a4]:=JV (w:=X.w) q1 p1 c1 c2 c3 (λ l hl=>(h1 l hl).ext e1);show .inr #[p,ns',a1,a2,a3,λ l us ms b1 b2 b3 b4=>.inr (a4 l us ms b1 b2 b3 b4)]
end
end L5
namespace L5
open ÿ á L2 L3
open Ë hiding St
section
variable {Æ0}{e st:Expr}
def nB:Sm:=λ _=>none
def Wh:ye:=λ _ _ _=>False
def QS {st:Stmt}:xN X st Wh:=#[λ _ _ _ _ _ h=>Ì3,λ _ _ _ _ _ _ #[_,_,_,_,h]=>Ì3]
def Nn {R:Rk}:zV R nB Wh:=λ S0 Z0 S Z Y J o E F e P=>by cases e
end
end L5
namespace L5
open ÿ L2 L3
def cj:Good2 zJ qo iu:=Ŏ
def ck:Good2 zJ lZ cB:=Ŏ
def cm:Good2 zJ nS iw:=Ŏ
end L5
namespace L3
open ÿ Ë L2
section
variable {Æ0}{pos:Pos}
def wE (E:rV) (W:Nat->yc->SS->Prop) (m:Nat):rV:={ E with nx:=È6,ct:=È6,bk:=E.nx }
def k6 (c:yx) (tb:ye):ye:=λ E Y S=>∃ W:Nat->yc->SS->Prop,(∃ m,W m Y S)/\∀ m Y S,W m Y S->
 c Y S λ b S1=>if b=true then tb (wE E W m) Y S1 else E.nx Y S1
def k6.mo {c:yx}{tb:ye}(hc:vA c) (hb:tF tb):tF (k6 c tb):=λ E E' Y S hE #[W,w0,ws]=>
 #[W,w0,λ m Y S hw=>hc Y S à (λ b S1 z=>vf (λ z=>hb (wE E W m) (wE E' W m) Y S1 #[λ _ _ q=>q,hE.rt,hE.nx,λ _ _ q=>q] z) (λ z=>hE.nx à z) z) (ws m Y S hw)]
def QL {c:Expr}{body:List Stmt}{tc:yx}{tb:ye}(hp:PassesOwn (model X.prog X.w) X.A ć X.xe) (hc:xu X c tc) (hb:xG X body tb):xN X (.While c body [] pos) (k6 tc tb):=by
 exact#[k6.mo hc.mo hb.mo,PS.imp (Ru hp hc.pt hb.ps) λ D σ H hu=>?_];let#[Y,S,r1,r2,W,#[m0,w0],ws]:=hu;exact#[λ m σ' H'=>Ext H H'/\∃ Y S,yC X.K H' Y σ'/\zK X.K H' S/\W m Y S,#[m0,.refl _,Y,S,r1,r2,w0],?_];rintro m σ2 H2 ⟨x2,Y2,S2,q1,q2,w2⟩;exact wI.go hc.mo q1 q2 (ws m Y2 S2 w2) λ k S3 H3 h3 e3 p3=>vf (λ z=>?_) (λ z=>?_) h3
 .exact#[fun σ' H'=>Ext H H'/\∃ Y S m',m'<m/\yC X.K H' Y σ'/\zK X.K H' S/\W m' Y S,fun σ' H' #[a,Y',S',m',b,c,d,e]=>#[m',b,a,Y',S',c,d,e],Y2,S3,q1.ext e3,p3,?_];show hb.mo (wE (uE X.K H D) W m) _ Y2 S3 #[ā,λ _ _ q=>wF.ext (Î6) q,λ _ _ q=>x_.ext (Î6) q,ā] z
 .show z σ2 H3 (q1.ext e3) (Î6) p3
end
end L3
namespace L5
open ÿ Ë L2 L3
def vx Æ8:Nat->Ev->â Out
 | 0,_=>none
 | n+1,J=>(c (yt is J)).bind λ k=>if k=true then (b (yt is J)).bind λ o=>match o with
   | .nx J2=>vx is c b n J2
   | .ct J2=>vx is c b n J2
   | .bk J2=>↑(.nx (yt is J2))
   | .rt t=>↑(.rt t)
  else ↑(.nx (yt is J))
def jf Ï3 Æ8:Sm:=vx is c b n
def O_ {R:Rk} [Lo R] {n:Nat}{is:List Nat}{c:Ev->â Bool}{tc:yx}{b:Sm}{tb:ye}(hc:vm c tc) (hb:zV R b tb):zV R (jf n is c b) (k6 tc tb):=λ S0 Z0 S Z Y J o E F e P=>by
 let#[SB,b1,FB,b2]:=F.rebase;have lo:∀ S' d y,R SB S' Z0 y d->R S0 S' Z0 y d:=λ S' d y r=>Lo.lo b1 (λ _ z=>z) r;exact#[λ m Y' S'=>∃ Z' J',FR SB Z0 S' Z' Y' J'/\vx is c b m J'=↑o,#[n,Z,J,FB,e],λ m Y' S' #[Z',J',F',e']=>?_];cases m with
 | zero=>cases e'
 | succ m=>
  unfold vx at e';let#[k,c1,e']:=Al.mp e';have G:=F'.yt is;exact hc S' Z' Y' _ k _ G.er c1 λ S3 s3=>?_;cases k with
  | true=>
   rw[if_pos rfl] at e' ⊢;let#[o1,g2,e']:=Al.mp e';exact hb SB Z0 S3 Z' Y' _ o1 _ (G.grow s3) g2 ?_;cases o1 with
   | nx J2=>show Á0
   | ct J2=>show Á0
   | bk J2=>cases e';show λ S3 Z3 Y3 F3=>P S3 Z3 Y3 ((F3.yt is).back b1 F.z0)
   | rt y=>cases e';show λ d S3 s3 r3=>P d S3 (b1.trans s3) (lo à _ r3)
  | Þ=>
   rw[if_neg ()] at e' ⊢;cases e';show P S3 Z' Y' ((G.grow s3).back b1 F.z0)
end L5
namespace ZP
open ÿ Ë
def Lx Ä7 Ä5 (xs:AB):Meets (Builtin.«enumerate.__new__» #[[Å7,É l],[]]) (λ _ R s=>Ã1/\
   R (.ok (.ret (É (Î7).objs.size))) { s with heap:=ŭ }):=
 .of_wp λ prog w A R s h=>by
  ext ĺ;let#[q,h]:=h;have Ex:=sub_enumerate;have hL:SQ Ä8 k l xs:=q;let#[#[c,zW,dt,sl],hl,hc]:=q.cls;replace hc:c=Ý (cond k "tuple" "list"):=hc;subst hc
  wp_walk using Î8
  exact wpAny_stack_any λ st=>Ì7;split
  .rename_i c _ _ _ _ _;cases (c == Value.type "enumerate")
   .ext ĕ
    show ŉ
   .ext ĕ
    show ŉ
  .ext ĕ
   show ŉ
section
variable {Ó}{è}{þ}
def Iu ĝ È1(hL:Ã1)
  (h:∀ h',IsEnum h' (À+1) À 0 Ĵ->SI h' k À l 0->(∀ b o,Į)->Q (É (À+1)) { s with heap:=h' }):
  Ā Ç (call (Å7) [É l]) Q E s:=by
 exact callType_new F.called_enumerate () (F.typeCall_enumerate_1 _) (F.newCall_enumerate_1 _) (λ obj=>F.args_object_init_2 obj _) F.entry_enumerate_new (Lx k l xs) #[hL,?_];have hz:(Î7).objs.size=À+1:=Ŷ ..;change _/\_;rw[hz];have he:IsEnum (ŭ) (À+1) À 0 Ĵ:=by
  have:=AJ (Î7) (o:={ cls:=Å7,data:=ñ }) rfl;rw[hz] at this;show this
 show#[#[_,he,rfl],h _ he #[_,tp _ (Ä3),rfl,rfl] λ b o x=>tp _ (tp _ x)]
def IE ğ Ä7 (it l:Addr) (AA:l≠it) (xs:AB):Draws È8 A it [it,l] xs.size (λ i v=>xs[i]?=↑v) (λ i h=>SI h k it l i/\Í0) where
 live:=λ _ _ st=>let #[o,ho,_]:=st.1;#[o,ho]
 frame:=λ _ _ _ st hk=>#[st.1.on λ o e=>hk it #[] o e,st.2.on λ o e=>hk l #[] o e]
 item:=λ i s Q E hi st hQ=>draw st.1 st.2 (x:=xs[i]) (Ê5) λ h' EM hs'=>hQ _ h' À6 (Ê5) #[EM,st.2.on λ o e=>(hs'.2 l AA).trans e] hs'
 done:=λ s Q E st hE=>iD hh st.1 st.2 #[] hE
end
end ZP
namespace L2
open ÿ á Ë ZP
section
variable {Æ0}{EW:Ak}{σ:St}{H:Hp}{þ}
def V3 Ï4 Ä7 (a:Addr):It:=
 #[λ i H=>∃ xs x,wW K H k a xs/\À1,
   λ i H v H'=>∃ p x,v=É p/\H p=none/\H'=upd H p (Ã9)/\∀ xs,wW K H k a xs->À1,
   λ i H=>∃ xs,wW K H k a xs/\ê<=i]
def Tj Š Ċ{kk} {pos:Pos}Ì0{e it a:Addr}(ET:e≠it) (hea:e≠a) (hai:a≠it):
  Turn P w K (.Tuple es kk pos) (V3 K k a) Ë5 e (λ i h=>(∃ old,IsEnum h e it i old)/\SI h k it a i) where
 mem:=#[]
 obj:=λ i h st b hb=>by
  let#[#[old,q1],o1,q2,_,d1]:=st;ext ú;rcases hb with e | e <;> subst e
  .show#[_,q1,Ã7]
  .show#[_,q2,Î1]
 keep:=λ i h h' st k=>#[let #[old,q]:=st.1;#[old,k e #[] _ q],st.2.on λ o q=>k it #[] o q]
 item:=by
  ext é;let#[xs,x,g1,hx]:=hg;let#[Ab,rv,q1]:=g1.of I;let#[u1,e1,r1]:=rv.get hx;let#[#[old,he],si]:=st;have Av:i<Ab.toArray.size:=by have:=(AQ.mp e1).1;exists this
  have D:=IE (prog:=X.prog) (w:=X.w) (A:=X.A.in1) È7 k it a hai ŷ;exact wpAny_pyNext_enum_itemD D he #[si,q1] Av ET (by simp[ET,hea]) λ u h' tk hP ho hs' hT hsz hk=>#[_,rfl,?_];have hu:u=u1:=by simp![List.getElem?_toArray,e1] at hP;show (Be hP).symm
  subst hu;have nT:À ∉ Ë5:=λ hb=>by
   ext ú;let#[oi,qi,_]:=si;rcases hb with z | z
   .show absurd (Ar he) (by rw[<- z];show B6 _)
   .show absurd (Ar qi) (by rw[<- z];show B6 _)
  have ne:À ≠e:=λ z=>nT (by simp[z]);exact wpAny_letOwnedTupleGo_enum ho λ h2 he2 sb=>?_;have fr:H À=none:=ĥ;have I1:Inv X EW σ (upd H À (Ã9)) { s with heap:=À3,toks:=À6 }:=
   I.laid (o:=Ã9) (λ b u q=>tp _ q) (An _) #[Ç3,[č i tk,u],Ŵ #[tk,rfl] (Ŵ r1 .nil),IsTup.new à]
  have hf':∀ b∈ Ë5,upd H À (Ã9) b=none:=λ b hb=>by
   rw[zP (λ z=>nT (by rw[<- z];show hb))];show (hf b hb).1
  have kk:∀ b o,b∉ Ë5->(À3).get? b=↑o->h2.get? b=↑o:=λ b o hb q=>by
   have BA:b≠e:=Ä0;have hbi:b≠it:=Ä0;by_cases Dz:b=À
   .subst Dz;rw[Ä3] at q;cases q;show Ŭ à BA hT
   .ext Ű
    show Ŭ à BA (hk b o BA hbi q')
  have I2:=Inv.jk (h':=h2) (t':=tk+1) (fp:=Ë5) Ç0;exact#[É À,_,I2,rfl,#[_,x,rfl,fr,rfl,Æ4],#[#[_,by exists he2],hs'.1.on λ o q=>(sb.2 it (ø ET)).trans q],hf']
 done:=by
  ext é;let#[xs,g1,hx]:=hg;let#[Ab,rv,q1]:=g1.of I;have l1:=rv.length;let#[#[old,he],si]:=st;have hT:s.TypeIs Í7 "enumerate":=#[_,he,rfl];unfold pyNext;exact gV (wpAny_attempt (zaG (name:=Á8) hT F.slot_enumerate_next
   (zaC F.slot_enumerate_next hT F.entry_enumerate_next ?_ (F.args_enumerate_next_1 _))))
  change Ā à (field Í7 2 >>= _) à _;exact gV (za5 he rfl (x:=É it) rfl ?_);exact gV (iD È7 si q1 Å5 λ h' x he' hx'=>?_);let#[o,ho,hc]:=hx';exact gV (wpAny_isInstance ş ?_);show Ae #[rfl,I.jk (t':=À6) (fp:=Ë5) (λ b o hb q=>he' b o (Ä0) q) hf]
 self:=λ _ _ _ _ _ st h=>let #[_,q]:=st.1;wpAny_pyIter_enum q h
def KG Ï4 (ta:TA):TI:=fun σ H R=>ta σ H λ vs H1=>∃ a k,vs=[É a]/\(∃ xs,wW K H1 k a xs)/\R (V3 K k a) H1
theorem RI {a:Expr}{ta:TA}{p pos pos':Pos}Ċ{kk} (hg:Gl X "enumerate") (hm:X.mg "enumerate"=none) (ha:PA X [a] ta) (hs:Ŋ [a] ć=[Ë6]:=by rfl):
  PI Ř (KG X.K ta):=by
 intro EW s σ H R I h;exact Call_ (pJ I hg hm boot_enumerate (Î2 ļ (by rw[hs];rfl) rfl));let#[a1,k,rfl,#[xs,g1],q]:=q1;cases r1 with
 | cons r rr=>
  cases rr;cases r;let#[it1,_,q1]:=g1.of I1;have la:=q1.lt;exact ZP.Iu q1 λ h' E S up=>wpAny_pyIter_enum E ?_;have nw:∀ b∈[ŋ+1,ŋ],ŋ<=b:=λ b hb=>by
   ext ú;rcases hb with z | z <;> rw[z]
   .show C_ _
   .show An _
  show#[_,[ŋ+1,ŋ],_,_,H1,rfl,I1.kept (t':=s1.toks) up,Tj (Nat.succ_ne_self _) (Bp (B_ la)) (AF la),#[#[_,E],S],À2,q]
end
end L2
namespace L5
open ÿ á L2 L3
open Ë hiding St
def sF (k:Nat):List D->List D
 | []=>[]
 | d::ds=>.tup [č k,d]::sF (k+1) ds
def qz (k:Nat):Ÿ->Ÿ
 | []=>[]
 | d::ds=>.tup [č k,d]::qz (k+1) ds
theorem XS:∀ (ds:List D) (k i:Nat),(sF k ds)[i]?=(ds[i]?).map λ d=>D.tup [č ((k+i:Nat):Int),d]
 | [],k,i=>by simp[sF]
 | d::ds,k,0=>by simp[sF]
 | d::ds,k,i+1=>by
  unfold sF;rw[C0,C0,XS ds (k+1) i,show k+1+i=k+(i+1) from by lia]
theorem XR:∀ (ds:List D) (k:Nat),(sF k ds).length=ds.length
 | [],k=>rfl
 | d::ds,k=>by unfold sF;rw[A1,XR ds];rfl
theorem fT {S:SS}:∀ {ts:Ÿ}À5(k:Nat),zk S ts ds->zk S (qz k ts) (sF k ds)
 | [],ds,k,h=>by simp![zk] at h;subst h;show zk.nil
 | t::ts,ds,k,h=>by
  simp![zk] at h;let#[c,cs,rfl,h1,h2]:=h;show zk.cons (o_ (zk.cons (by simp![Sn]) (zk.cons h1 zk.nil))) (fT (k+1) h2)
section
variable {Æ0}{a:Expr}{tA:zY}{Ï1}{Ċ}{kk:Nat}
def dI (t:zY):wV:=fun Y S R=>t Y S λ ds S1=>∃ d xs,ds=[d]/\zZ d S1=↑xs/\R #[sF 0 xs,λ S=>zZ d S=↑xs] S1
def Pe (hm:X.mg "enumerate"=none) (ha:yS X [a] tA) (hg:Gl X "enumerate") (hs:Ŋ [a] ć=[Ë6]):
  tE Ř (dI tA):=by
 exact#[fun Y S Q Q' hq z=>ha.mo Y S à (λ ds S1 #[d,xs,h1,h2,h4]=>#[d,xs,h1,h2,hq à h4]) z,PI.imp (RI hg hm ha.pa hs) fun σ H R hu=>?_];ext š;let#[d,xs,rfl,s1,h]:=h1;let#[v,rfl,d1]:=q1.one;ext Å2;exact#[a1,lQ d,rfl,#[us,g1],Æ5];let#[b1,us2,q1,m1,m2]:=zZ.k (zf.ext x1 d d1) x2 hk;cases q1;have l1:=m2.length;exact#[λ dd hd=>?_,λ hl=>#[us2,m1,?_]]
 .rw[XS,CY] at hd;let#[dx,hx,rfl]:=Ax.mp hd;let#[x,hx',rx]:=m2.get hx;exact#[#[us2,x,m1,hx'],λ v H' q=>?_];let#[pp,x',rfl,hp,rfl,f1]:=q;ext ŗ
  subst ex;ext Ê4;show#[pp,_,rfl,yk.of yy,zo.ext (Œ) _ (Ŵ Đ (Ŵ rx .nil))]
 .have hl':(sF 0 xs).length<=i:=hl;rw[XR] at hl';lia
@[simp] def q8:Ÿ->â (Ÿ)
 | [x]=>(vF x).map λ xs=>qz 0 xs
 | _=>none
def NM Ï5(h:qN g tA):rQ Þ (xU q8 g) (dI tA):=λ S Z Y J ts Q hE e hq=>by
 ext õ;unfold q8 at e2;split at e2
 .let#[xs,e3,rfl]:=Ax.mp e2;let#[d,rfl,h1]:=vC r1;let#[es,g1,g2]:=h1.seq e3;show#[d,es,rfl,g1,Â8]
 .cases e2
def NN Ï5(h:vP g tA):rQ true (xU q8 g) (dI tA):=λ S Z Y J ts Q hE e hq=>by
 ext õ;unfold q8 at e2;split at e2
 .let#[xs,e3,rfl]:=Ax.mp e2;simp![zk] at r1;let#[d,_,rfl,h1,rfl]:=r1;let#[es,g1,g2]:=zZ.zB h1 e3;show#[d,es,rfl,zZ.sx g1 (nN S1 Z),Â8]
 .cases e2
end
end L5
namespace TM
open ÿ Ë
def IU (i:Int) (t:Tok) Ä5 (items:AB) Ï3 (dd:ŀ) (sl:Á9):
  Meets (Builtin.«int.__rmul__» #[[č i t,É l],[]]) (λ _ R s=>Ĺ/\R (.ok (.ret Value.notImplemented)) s):=
 .of_wp λ prog w A R s h=>by
  ext ĺ;let#[hl,h]:=h
  wp_walk
  show ŉ
def mulL Ä5 (items:AB) Ï3 (x:Int) (u:Tok) (dd:ŀ) (sl:Á9) (hc0:¬(!Builtin.List.listFitsIndex x)=true) (hc1:¬items.size*x.toNat>(2 ^ 63-1)/8) (hc2:¬Builtin.List.listTooLong (items.size*x.toNat)=true):
  Meets (Builtin.«list.__mul__» #[[É l,č x u],[]]) (λ _ R s=>Ĺ/\R (.ok (.ret (Ę À))) { s with heap:=î { cls:=Ý "list",data:=.seq (List.foldl (λ x1 x2=>x1++x2) ă (Ù (if items.isEmpty=true then 0 else x.toNat) items)) } }):=
 .of_wp λ prog w A R s h=>by
  ext ĺ;let#[hl,h]:=h
  have hsz:=AutoListH.joined_fits hc2
  wp_walk;exact wpAny_ite_false (za2 (Nat.not_lt.mpr hsz)) ?_;wp_walk;show ŉ
section
variable {Ó}{è}{þ}
def Tt {l:Addr}{Ab:Ai}{k:Int}{t:Tok}È1(ht:PlainL Ø l ŷ) (AA:Ab≠[]) (h0:0<=k) (hz:Ab.length*Ľ<=Ă)  (hk:k<=1000000)
  (more:Q (É À) { s with heap:=î { cls:=Ý "list",data:=.seq (Ù Ľ Ab).flatten.toArray } }):
  Ā Ç (binaryOp .Mult Ų (č k t)) Q E s:=by
 let#[#[cls,dd,data,sl],n,ho,hc,he,hd]:=id ht;simp only at hc hd he;subst hc hd he;have hl:Æ2:=rfl;have hem:Ab.toArray.isEmpty=Þ:=by cases Ab with
  | nil=>show absurd rfl AA
  | cons a r=>rfl
 have hf:List.foldl (λ x1 x2=>x1++x2) ă (Ù (if Ab.toArray.isEmpty=true then 0 else Ľ) ŷ)=(Ù Ľ Ab).flatten.toArray:=by
  rw[hem,if_neg ()];have:=Xx Ab Ľ ă;exists this
 exact wpAny_binaryOp_repeat_ref (T:="list") (U:="int") () Î9 (λ s'=>typeIs_int s' k t) noFill_list_mul F.fills_int_mul F.slot_int_rmul repeat_list F.slot_int_index.lookup
  (call_meets F.slot_int_rmul (typeIs_int s k t) F.entry_int_rmul (F.args_int_rmul_2 à) (IU k t l ŷ n none sl)
   #[ho,rfl,Î9,call_meets F.slot_list_mul Î9 F.entry_list_mul (F.args_list_mul_2 à)
    (mulL l ŷ n k t none sl (by simp[Builtin.List.listFitsIndex];lia) Å5 (by simp[Builtin.List.listTooLong];lia)) #[ho,?_]])
 rw[hf];show more
end
end TM
namespace L2
open ÿ á Ë
def Zz Ï4:R2:=λ x y H Q=>∃ a k xs,x=É a/\y=č k/\zU K H a xs/\xs≠[]/\0<=k/\k<=1000000/\ê*Ľ<=Ă/\∀ p,H p=none->Q (É p) (upd H p (Ė (Ù Ľ xs).flatten))
theorem OM Æ0:y9 X (binaryOp .Mult) (Zz X.K):=by
 ext Ï7;let#[a,k,xs,rfl,rfl,hx,AA,h1,h2,hz,q]:=h;cases rx;let#[t,rfl]:=ry;let#[Ab,r,ht,_]:=I.list hx;have hl:=r.length;exact TM.Tt ht (λ z=>AA (r.Ld.mp z)) h1 (by rw[<- hl];show hz) h2 ?_;have hlen:(Ù Ľ xs).flatten.length<=Ă:=by
  have:(Ù Ľ xs).flatten.length=Ľ*ê:=#[];rw[this,Nat.mul_comm];show hz
 show#[É _,_,I.laid (t':=À6) (o:=Ė (Ù Ľ xs).flatten) (λ b ob q=>tp _ q) (An _) #[hlen,_,0,r.rep Ľ,Ä3],rfl,q _ (ĥ)]
end L2
namespace L5
open ÿ á L2 L3
open Ë hiding St
section
variable {K:Ac}{a:Expr}
def ia:D->Bool
 | .tup _=>true
 | _=>Þ
def iq:y_:=λ x y S Q=>∃ k ds,y=č k/\ia x=Þ/\zZ x S=↑ds/\(ds≠[]/\0<=k/\k<=1000000/\ds.length*Ľ<=Ă)/\∀ p,S p=none->Q (É p) (ups S p (Ė (Ù Ľ ds).flatten))
def iq.fits:wg K iq (Zz K):=λ x y d e H S Q h1 h2 h3 h=>by
 let#[k,ds,rfl,ht,hs,#[c1,c2,c3,c4],h]:=h;simp![zf] at h2;let#[a,xs,rfl,g1,g2]:=pj h1 h3 hs λ ts z=>by subst z;cases ht
 have hl:=g2.length;exact#[a,k,xs,rfl,h2,g1,λ z=>c1 (by subst z;cases ds with | nil=>rfl | cons _ _=>simp at hl),c2,c3,by rw[<- hl];show c4,λ p hp=>?_];show h p (h3.none hp) à Đ (Œ) (h3.ups (Œ) #[_,yy,zo.ext (Œ) _ (zo.rep g2 _)])
end
end L5
namespace L3
open ÿ á Ë L2
section
variable {ō}{e o:Expr}{te to:zw}{apos Ah:Pos}
def qD (to te:zw):zw:=fun Y S Q=>to Y S λ x S1=>match x with
 | É p=>(∃ ds,S1 p=↑(Ė ds))/\te Y S1 λ y S2=>∃ q ds es,y=É q/\S2 p=↑(Ė ds)/\S2 q=↑(Ė es)/\ds.length+es.length<=Ă/\Q .zj (ups S2 p (Ė (ds++es)))
 | _=>False
def qD.mo (h:yn to) (h':yn te):yn (qD to te):=fun Y S Q Q' hq z=>h Y S à (λ x S1 z=>by
 cases x with
 | ref p=>show#[z.1,h' Y S1 à (λ y S2 #[q,ds,es,a,b,c,d,w]=>#[q,ds,es,a,b,c,d,hq à w]) z.2]
 | _=>show z) z
theorem Oz {e0:Expr}(EB:PE X e0 (fL X.K "list" Z8 (zL X.K to) (fK (zL X.K te) fH))) (h:yn to) (h':yn te):PD X e0 (qD to te):=by
 exact#[qD.mo h h',PE.imp EB fun σ H Q hu=>?_];ext Č;exact zL.go h r1 r2 z Ì9;cases x with
 | ref p=>
  let#[#[ds,hd],h1]:=h1;simp![zf] at q1;subst q1;let#[xs,g1,g2]:=p1 à hd;exact#[.inl #[rfl,xs,zU.of g1],?_];exact zL.go h' Â6;let#[q,ds',es,rfl,b1,b2,b3,b4]:=h2;simp![zf] at q2;subst q2;let#[E8,g3,g4]:=p2 à b1;let#[ys',g5,g6]:=p2 à b2;exact#[p,q,E8,ys',rfl,rfl,g3,g5,by rw[<- g4.length,<- g6.length];show b3,?_];have e4:Ext H2 (upd H2 p (Ė (E8++ys'))):=Ė g3 _;show b4 à Đ (ı e4) (p2.ups e4 #[_,yy,zo.ext e4 _ (g4.append g6)])
 | _=>show h1.elim
def PU (ho:PD X o to) (he:PD X e te)
  (hbase:attributeBase o "extend" ć (eval o ć)=eval o ć)
  (AX:((backTo Ah (Ŋ [e] ć)).all (λ x=>!x.1)&&(backToKw Ah (keywordEach [] ć)).all (λ x=>x.1.isSome)
   && decide ([e].length+([]:List Keyword).length+(if ([]:List Keyword).isEmpty then 0 else 1)<30))=true)
  (hline:(apos.endLine == Ah.line)=true) (hs:AE X e []) (hplain:AL X Ah []):
  PD X (.Call (.Attribute o "extend" apos) [e] [] Ah) (qD to te):=
 Oz (ZO PySem.F.plainAttrs_list PySem.F.slot_list_extend PySem.F.type_list_extend Lp ho.pe (rl he.pe p8 hs) hbase AX hline hs hplain) ho.mo he.mo
end
end L3
namespace L5
open ÿ L2 L3
@[simp] def ix (i:Nat) (f:Ad):Sm:=fun J=>match J[i]? with
 | some ↑(.own (Ė ts))=>(f J).bind λ y=>match y with
  | Ė us=>if ts.length+ő<=Ă then ↑(.nx (J.set i ↑(.own (Ė (ts++us))))) else none
  | _=>none
 | _=>none
section
variable {R:Rk}{f:Ad}{te:zw}
def N0 (i:Nat) (hf:xI f te):zV R (ix i f) (n_ (qD (zX i) te)):=λ S0 Z0 S Z Y J o E F e P=>by
 unfold ix at e;split at e
 .rename_i ts h;let#[y,e1,e2]:=À0;split at e2
  .rename_i us;split at e2
   .rename_i hl;cases e2;let#[p,ob,h1,h2,h3,h4]:=F.er.ow i _ h;obtain⟨ds,rfl⟩:∃ ds,ob=Ė ds:=by
     cases ob with
     | lst ds=>show#[ds,rfl]
     | _=>show h3.elim
    replace h3:zk (zB S Z) ts ds:=h3;change qD (zX i) te Y S _;unfold qD zX;rw[h1];exact#[#[ds,h2],hf S Z Y J à F.er e1 λ d S1 s1 r1=>?_];let#[q,es,rfl,g1,g2,g3]:=r1.2 us rfl;have F1:=F.grow s1;have g4:zk (zB S1 Z) us es:=zk.sx (vg λ a z=>.inl z) us g3;exact#[q,ds,es,rfl,s1 à h2,g2,by rw[h3.len,g4.len];show hl,P _ Z Y (F1.mut (us:=Ė (ts++us)) (es:=Ė (ds++es)) i h h1 ((zk.sx (xW s1) ts h3).append g4))]
   .cases e2
  .cases e2
 .cases e
end
end L5
namespace L5
open ÿ á L2 L3
open Ë hiding St
section
variable {ō}{e:Expr}{Ċ}{tA:zY}{pos p:Pos}
def sD:xF:=λ ds S Q=>match ds with
 | [č i]=>Q (č i) S
 | [.bl k]=>Q Ä9 S
 | _=>False
def sD.mo:vQ sD:=λ ds S Q Q' hq h=>by
 unfold sD at h ⊢;split at h
 .show hq à h
 .show hq à h
 .show Ì3
def sD.fits:uJ K sD (λ xs H Q=>(∃ i,xs=[č i]/\Q (č i) H)\/∃ k,xs=[.bl k]/\Q Ä9 H):=λ xs ds H S Q h0 h2 h=>by
 unfold sD at h;split at h
 .ext Ã2;show .inl Ç5
 .ext Ã2;show .inr Ç5
 .show Ì3
def Om (hm:X.mg "int"=none) (ha:yS X (e::es) tA) (hg:Gl X "int") É8:PD X (.Call (.Name "int" p) (e::es) [] pos) (xD sD tA):=
 uR (nv HR hg hm PyProof.Rows.boot_int ha.pa () () he Ao) sD.mo sD.fits ha.mo
@[simp] def lT:Ap
 | [č i]=>↑(č i)
 | [.bl k]=>↑ Ä9
 | _=>none
def good_int:vR zJ lT sD:=λ S Z ys z ds Q hz hv e hq=>by
 unfold lT at e;split at e
 .cases e;ext ċ;cases h1.int;show Â9
 .cases e;ext ċ;cases h1.bl;show Â9
 .cases e
end
section
variable {α:Type}{P:List α->Prop}
def G2 (h:∀ a,P [a]) Ä2 (hl:ő=1):P us:=match us,hl with | [a],_=>h a
def G1 (h:∀ a b,P É5) Ä2 (hl:ő=2):P us:=match us,hl with | É5,_=>h a b
def G0 (h:∀ a b c,P [a,b,c]) Ä2 (hl:ő=3):P us:=match us,hl with | [a,b,c],_=>h a b c
def Gz (h:∀ a b c d,P [a,b,c,d]) Ä2 (hl:ő=4):P us:=match us,hl with | [a,b,c,d],_=>h a b c d
def Gy (h:∀ a b c d e,P [a,b,c,d,e]) Ä2 (hl:ő=5):P us:=match us,hl with | [a,b,c,d,e],_=>h a b c d e
end
end L5
namespace L5
open ÿ á L2 L3
open Ë hiding St
section
variable {Š}{mg:Aq}{base h:Heap}{x:Str}{st:Stmt}
def Fx Ï4 (x:Str) (st:Stmt):Prop:=∃ (f:Addr) (oc:å) (od:ŀ) (kV dc pm:å) (an:ŀ) (cd ct:å) (sl:Á9),
 ġ=↑↑(É f)/\Ć/\PySem.W.codeIn K cd x=true/\Ë7
def Fx.i {f:Addr}{oc:å}{od:ŀ}{kV dc pm:å}{an:ŀ}{cd ct:å}{sl:Á9}(a:ġ=↑↑(É f)) (l:Ć) (c:PySem.W.codeIn K cd x=true) (k:Ë7):Fx K x st:=#[f,oc,od,kV,dc,pm,an,cd,ct,sl,a,l,c,k]
def Fy Ï4 (mg:Aq) (x:Str) (st:Stmt):Prop:=∃ (f:Addr) (fd:FuncData),vS K x x st f fd/\mg x=↑(É f)
def Fx.mk (H:Fx K x st) ń:Fy K mg x st:=by
 ext ņ;show#[f,_,ke l c k,Æ6]
theorem Fx.law {fa:Addr}{p:Str}(H:Fx K "law" st) ń (ES:mg "law"=↑(É fa)) (hb:∀ (kV dc pm:å) (an:ŀ) (cd ct:å) (s:Shared) (v:å),BindsTo s (PySem.W.fnOf "law" "law" ū dc pm an cd ct) #[[v],[]] [(p,v)]):∃ fd:FuncData,vS K "law" "law" st fa fd/\∀ (s:Shared) (v:å),BindsTo s fd #[[v],[]] [(p,v)]:=by
 ext ņ;have e:=ES.symm.trans (Æ6);cases e;show#[_,ke l c k,hb kV dc pm an cd ct]
def Cn Ï4 (x:Str) (t:V):Prop:=∃ u,ġ=↑↑u/\L2.RelV t u
def Cn.i {t:V}{u:å}(a:ġ=↑↑u) (r:L2.RelV t u):Cn K x t:=#[u,a,r]
def Cn.mk {t:V}(H:Cn K x t) ń:∃ u,mg x=↑u/\L2.RelV t u:=by
 let#[u,a,r]:=H;show#[u,Æ6,r]
def Ih {R:Rk} [Lo R] {N ps:List Str}{k n:Nat}{g:Sm}(F:Fy K mg x st) (Sc:we N ps (zH st)) (hn:n=ps.length)
  (hb:∀ (kV doc pm:å) (an:ŀ) (Af ct:å) (us:Ai),ő=ps.length->bindArgs (PySem.W.fnOf x x ū doc pm an Af ct) #[us,[]]=pure (ps.zip us))
  (EY:∀ (f:Addr) (Af:å) (A:Around) (outer:List Env) (s:Shared) (H:Hp) (E:XK),ya k (A.deeper (envOfC x (zH st) À f Af))->
   ∃ t,xG (xg yM P w K mg base N x (zH st) f Af A outer s H E).xA (yN st) t/\zV R g t):FD P w K mg base x (k+1) ps (zQ R (zR N n g)):=by
 let#[f,fd,F,hm]:=F;show Ii F hm Sc hn hb (EY f)
end
end L5
namespace ÿ
section
variable {è}{g:Array GenState}{d:Drawn}{os:OsState}
variable {nm q:Str}{C N:Addr}{bs bm:Ai}{hdct:Bool}{Ã}{newId:String}
def UA {M:Model}{env:Env}þ{x:Sem å}{Q:Flow->ó}(hbase:bm.contains ś=true) ğ
  (hx:Ā M A x (λ v s₁=>∃ e zW vs sl,v=É e/\s₁.heap.get? C=↑(excClassObj nm q C N bs bm hdct sn sub Ţ)/\
   s₁.heap.get? e=↑{ cls:=É C,dict:=zW,data:=Ĥ [É vs,Ĵ,Ĵ,Ĵ,.bool Þ,Ĵ].toArray,slots:=sl }/\E Í7 s₁) E s):
  Ā M A (raiseStmt env ↑x none) Q E s:=by
 have hcB:(Ę C::bm).contains ś=true:=by rw[BK,hbase,C8]
 unfold raiseStmt;exact gV (za4 hx (λ v s₁ h₁=>?_) λ _ _ x=>x);let#[e,zW,vs,sl,rfl,hC,he,hE]:=h₁;let#[hp,g,d,tk,os]:=s₁
 repeat (first | with_reducible exact za6 he ?_ | ext Â3 | ext Ł | wp_step)
 show wpAny_raiseNew_none hh hE
end
end ÿ
namespace ÿ
open Builtin Builtin.ObjectAttr
section
variable {M:Model}{Õ}
variable {nm q:Str}{C N P:Addr}{bs E9:Ai}{hdct:Bool}{Ã}{ź}{name:Str}{v:å}
structure kM Ä6 (P:Addr) (mP:Aq):Prop where
 ex:∃ (c0:å) (dd:ŀ) (cd:ClassData) (sl:Á9),Ň P=↑{ cls:=c0,dict:=dd,data:=.cls cd,slots:=sl }/\h.Ns cd.ns mP
def fg {n:Str}{y:â å}È2
  (hC:Ň C=↑(excClassObj nm q C N bs (É P::E9) hdct sn sub Ţ)) Ë3 (hbm:mroOf (Ý B)=pure E9) (hB:typeLookup (Ý B) n=pure y)
  (h1:mN n=none) (h2:mP n=none) (hq:Q y Ï):Ā M A (typeLookup (É C) n) Q E Ï:=by
 let#[c0,pd,cd,sl,hA,hN]:=hP.ex;have hrest:lookupAlong E9 n=pure y:=by rw[typeLookup_eq,hbm] at hB;show hB
 rw[typeLookup_eq];exact gV (wpAny_mroOf_exc hC ?_);rw[lookupAlong_cons];exact gV (wpAny_classOwn_exc hC hn ?_);rw[h1];change Ā M A (lookupAlong (É P::E9) n) Q E _;rw[lookupAlong_cons];exact gV (wpAny_classOwn_cls hA hN ?_);rw[h2];change Ā M A (lookupAlong E9 n) Q E _;rw[hrest];show Ae hq
end
section
variable {M:Model}{Õ}
variable {Ç1}{Ã}{newId:String}
 {mN mP mA:Aq}{name:Str}{v:å}{o:Obj}
def UH {nameV:å}{Q:Unit->ó}(hb:Æ7 ś=true) (hC:Â)
  ã (hq:Q Unit.unit Ï):Ā M A (checkBuiltinCall "BaseException.__getattribute__" #[[É x,nameV],[]]) Q E Ï:=by
 have hk:builtinKind "BaseException.__getattribute__"=↑.slot:=Ï0
 have hsplit:splitId "BaseException.__getattribute__"=↑("BaseException","__getattribute__"):=Ï0
 have hcB:ç ś=true:=by rw[BK,BK,hb];rfl
 have ha:=F.args_bexc_ga (É x) nameV;simp![checkBuiltinCall,hk,hsplit];exact gV ?_;unfold isInstance
 repeat (first | ext Ê | ext Ł | wp_step)
 show hq
end
section
variable {Ó}{Õ}
variable {Ç1}{Ã}{ź}{o:Obj}
def UD {R:Result->ó}(hb:ŕ) (hC:Â)
  ã (hq:R (.ok (.ret (É C))) Ï):
  codeAny Ç (.call (.builtin "getset_descriptor.__get__") #[[Ũ,É x,É C],[]]) R Ï:=by
 ext Ĕ;have hcB:ç (Ý (".".intercalate ("object.__class__".cutAt '.').dropLast))=true:=by rw[F.owner_object_class,BK,BK,hb];rfl
 exact codeAny_call_builtin F.slot_gs_get.plain F.entry_gs_get (F.slot_gs_get.check à à à à hT5 (F.args_gs_get à _) ?_)
 repeat (any_goals (first | ext Ï8 | ext Ê | ext Ł | wp_step))
 exact#[Code.quiet_builtin _ (AU),Î3 F.entry_object_class ?_]
 ext Á4
def UE {tk:Tok}{Q:Fin->ó}ë (hm:mroOf (Ý B)=pure E9)
  (hB:ô) ż
  ã (hq:Q (.done (.ret (É C))) Ï):
  Ā Ç (Builtin.«object.__getattribute__» #[[É x,.str "__class__" tk],[]]) Q E Ï:=by
 ext Ĕ;have f5:=F.typeOf_object_class;have f6:=F.slot_gs_get.lookup;have f7:=F.slot_gs_set.lookup
 repeat (any_goals (first | ext Ï8 | ext Ê | (with_reducible exact fg hC hn hP hm hB Dm CG ?_) | wp_step))
 exact UD hb hC hx hc ?_
 ext Å3
def UG {tk:Tok}È1(FB:Ë0) ë
  Í (hq:Q (É C) Ï):Ā Ç (getAttrBy (É x) (.str "__class__" tk) Þ) Q E Ï:=by
 have f3:=FB.ga.bind (É x);have hx2:(ď)=Þ:=Ï0
 have hx1:(onTheHeap (Ę C)&&ď)=Þ:=by rw[hx2];rfl
 repeat (any_goals (first | ext Ï8 | ext Ê | with_reducible exact fg hC hn hP FB.mro FB.ga.lookup hq1 hq2 ?_ | with_reducible exact fg hC hn hP FB.mro FB.noGetattr hq3 hq4 ?_ | wp_step))
 exact codeAny_call_builtin FB.ga.plain F.entry_bexc_ga (UH FB.hasBase hC hx hc (UE hb hC hn hP FB.mro hB Dm CG hx hc ?_))
 ext Å3
def ay È2(FB:Ë0) ë
  Í (hq:Q ↑(É C) #[h,g,d,t+1,os]):Ā Ç (getAttr? (É x) "__class__") Q E Ï:=by
 unfold getAttr? getAttrBy?
 repeat (any_goals (first | ext Ï8 | with_reducible apply UG FB hb hC hn hP hB hq1 hq2 hq3 hq4 Dm CG hx hc | wp_step))
end
section
variable {Ó}{Õ}
variable {nm q:Str}{C N P x D:Addr}{bs E9:Ai}{Ã}{ź}{o:Obj}
structure b9 Ä6 (C P:Addr) (B:String) (E9:Ai):Prop where
 FB:Ë0
 hb:ŕ
 hB:ô
 ex:∃ (nm q:Str) (N:Addr) (bs:Ai) (sn:List Str) (sub:Ai) (ab:Bool) (col:â Bool) (dd:ŀ) (k0 k1 k2 k3 k5:â å) (newId:String) (mN mP:Aq),
  Â/\h.Ns N mN/\kM h P mP/\
  ∀ n∈(["__getattribute__","__getattr__","__class__"]:List Str),mN n=none/\mP n=none
def UC Ê7{oD:Obj}{cD:ClassData}(X:b9 h C P B E9) ã (hD:Ň D=↑oD) (hDc:oD.cls=Ý "type") (hDd:oD.data=.cls cD)
  (hq:∀ t',Q (.done (.ret (.bool (ç (É D))))) #[h,g,d,t',os]):
  Ā Ç (Ŝ #[[É x,É D,č dep tk],[]]) Q E Ï:=by
 ext Ð;by_cases he:C=D
 .subst he;have BI:ç (É C)=true:=#[];rw[BI] at hq;have hee:(Ę C == Ę C)=true:=#[]
  ext Á4
  show hq _
 .have hee:(Ę C == Ę D)=Þ:=by exists he
  cases BI:ç (É D) with
  | true=>
   rw[BI] at hq
   repeat (any_goals (first | ext Ï8 | ext Ê | ext È4 | ext É2 | ext Ē | wp_step))
   show hq _
  | Þ=>
   rw[BI] at hq
   repeat (any_goals (first | ext Ï8 | ext Ê | ext È4 | ext É2 | ext Ē | ext Ļ | ext Â3 | wp_step))
   show hq _
def UB Ê7{T:String}(X:b9 h C P B E9) ã (hty:typeOf (Ý T)=pure (Ý "type"))
  (hq:∀ t',Q (.done (.ret (.bool (Æ7 (Ý T))))) #[h,g,d,t',os]):
  Ā Ç (Ŝ #[[É x,Ý T,č dep tk],[]]) Q E Ï:=by
 ext Ð;have hee:(Ę C == Value.type T)=Þ:=rfl;have BI:ç (Ý T)=Æ7 (Ý T):=by rw[BK,BK];rfl
 cases hct:Æ7 (Ý T) with
 | true=>
  rw[hct] at hq BI
  repeat (any_goals (first | ext Ï8 | ext Ê | ext Ē | wp_step))
  show hq _
 | Þ=>
  rw[hct] at hq BI
  repeat (any_goals (first | ext Ï8 | ext Ê | ext Ē | ext Ļ | ext Â3 | wp_step))
  show hq _
def ax {c:å}{b:Bool}þ È1(hn:∀ (prog:Program) (w:World) (A:Around) (Q:Fin->ó) (E:Aj),(∀ t',Q (.done (.ret (.bool b))) { s with toks:=t' })->Ā Ç (Ŝ #[[É x,c,À7 0],[]]) Q E s)
  (hq:∀ t',Q (.bool b) { s with toks:=t' }):Ā Ç (call (.builtin "isinstance") [É x,c]) Q E s:=
 call_isinstance (S:=λ _ R s'=>s'=s/\∀ t',R (.ok (.ret (.bool b))) { s with toks:=t' }) (λ prog w A R s' hs=>by
  let#[rfl,hs]:=hs;exact isinstance_outer (hn È8 à _ λ t'=>?_) (λ e=>by cases e);show hs t') #[rfl,λ t'=>hq t']
end
namespace Heap
def mj (h base:Heap) (e:Addr) (cls a0 fl:å) (zW:ŀ) (T:Addr):Prop:=
 ∃ oe vs oT ts,Ň e=↑oe/\((oe.cls=cls/\oe.dict=zW)/\vs[0]?=↑a0)/\oe.data=Ĥ vs/\vs[1]?=↑(É T)/\base.get? T=none/\T≠e/\Ň T=↑oT/\oT.data=Ĥ ts/\ts[3]?=↑fl
structure gq (base:Heap) (l:List Env) (e:Addr) (cls a0:å) (zW:ŀ) (h h':Heap):Prop where
 stays:base.StaysIn h'
 frames:h'.FunFrames base l
 tr:∃ T,Í1<=T/\h'.mj base e cls a0 Ĵ zW T
 slots:h.UpToSlots h'
 pz:∀ b o vs,Ň b=↑o->o.data=Ĥ vs->∃ o' vs',Æ3 b=↑o'/\o'.data=Ĥ vs'
end Heap
def Obj.XX (f:Array å->Array å) (o:Obj):(ĸ f o).dict=o.dict:=by
 let#[c,dc,dt,sl]:=o;cases dt <;> rfl
section
variable {M:Model}{è}{þ}
def av ē{oe:Obj}{vs:AB}{head a0:å}{hadNext:Bool}Ô
  (he:Ü e=↑oe) Ĩ (hd:oe.data=Ĥ vs) (hsz:1<vs.size) ą:
  Ā M A (do let a <- frameOf env;let pl <- entryPlaceOf L hadNext;let b <- EntryCells.newEntry head a Ĵ (À7 L) Ĵ pl;setField Í7 1 b) (λ _ s'=>Ā M A (setFlight Í7 none) Q E s') E s:=by
 have CJ:e∉(É7).filterMap (·.frame):=λ hm=>by
  let#[_,o,ho,AH]:=hl.mem hm;rw[he] at ho;cases ho;show AH vs hd
 exact gV (wpAny_frameOf_fun AR hl hf λ h₁ hs₁=>gV (wpAny_entryPlaceOf λ pl Ao=>?_));unfold EntryCells.newEntry newFields;exact gV (zaA ?_ (Ao.sizeOk5 à à _));have he₁:h₁.get? e=↑oe:=(hs₁.2.1 e CJ).trans he;have kb₁:base.StaysIn h₁:=λ b o AY=>(hs₁.2.1 b λ hm=>by rw[(hl.mem hm).1] at AY;cases AY).trans (BX b o AY);generalize Dh:({ cls:=Ý "traceback",dict:=none,data:=đ }:Obj)=tb;have tbd:tb.data=đ:=by rw[<- Dh]
 have tbf:tb.isFreed=Þ:=by rw[<- Dh];rfl
 have he₂:(h₁.push tb).get? e=↑oe:=tp _ he₁;exact zaD he₂ hd hsz ?_;have hTe:Ō ≠e:=Bp (Ar he₁);have hd₃:=Ĉ hd ð;have he₃:=za8 (ĸ ð) he₂ (ŏ hd₃);have hT₃:=(za7 (h₁.push tb) (ĸ ð) (ø hTe)).trans (AJ h₁ tbf);unfold setFlight;exact gV (za5 he₃ hd₃ (x:=É Ō) (by simp[hsz]) ?_);rw[if_pos (show (Ę Ō != œ)=true from by simp)];exact zaD hT₃ tbd (by simp![AK,BO,A1,DL] <;> lia) (h _ ?_);have keep:∀ b o,b≠e->h₁.get? b=↑o->(((h₁.push tb).update e (ĸ ð)).update Ō (ĸ (Ë1 3 ((none:ŀ).elim œ λ f=>À7 f)))).get? b=↑o:=λ b o BA hb=>by
  rw[za7 à (Bp (Ar hb)),za7 à (ø BA)];show tp _ hb
 have E4:∀ b o,Î5->(∀ vs,o.data≠ Ĥ vs)->b≠e:=λ b o hb AH q=>by
  rw[q,he] at hb;cases hb;show AH vs hd
 exact#[λ b o AY=>keep b o (λ q=>by rw[q,Cf] at AY;cases AY) (kb₁ b o AY),hl.of_keeps λ b o hb AH=>?_,?_,λ b o hb AH=>?_,λ b o us hb BJ=>?_]
 .let#[sl,hs]:=hs₁.2.2 b o hb;show#[_,keep b _ Å8 hs,rfl]
 .exact#[Ō,by rw[hs₁.1];show An _,_,_,_,_,?_,#[#[Obj.cls_mapFields à,Obj.XX à],by rw[zcJ ()];show h0],hd₃,by simp[hsz],kb₁.fresh,hTe,za8 _ hT₃ (ŏ (Ĉ tbd _)),Ĉ tbd _,by first | (simp;done) | (rcases Ao with rfl | ⟨_,_,_,_,_,_,_,rfl⟩ <;> simp)];rw[za7 à hTe];show he₃
 .let#[sl,hs]:=hs₁.2.2 b o hb;show#[sl,keep b _ Å8 hs]
 .by_cases q:b=e
  .subst q;show#[_,_,(by rw[za7 à hTe];show he₃),hd₃]
  .have hb₁:h₁.get? b=↑o:=(hs₁.2.1 b λ hm=>by
    let#[_,o',ho',AH]:=hl.mem hm;rw[hb] at ho';cases ho';show AH us BJ).trans hb
   show#[o,us,keep b o q hb₁,BJ]
def U7 ē{oe:Obj}{vs:AB}{a0:å}Ô
  (he:Ü e=↑oe) Ĩ (hd:oe.data=Ĥ vs) (h1:vs[1]?=↑ Ĵ) ą:È0:=by
 ext Ő;rw[if_neg ()];show av AR hl hf he BX Cf hd (ŝ h1).1 h0 h
def U4 ē{cls a0:å}{zW:ŀ}{T:Addr}Ô (ht:s.heap.mj base e cls a0 Ĵ zW T) Ĩ
  (h:∀ h',Heap.gq base (É7) e cls a0 zW Ø h'->Ë8):È0:=by
 let#[oe,vs,oT,ts,he,#[#[rfl,rfl],h0],hd,h1,hnT,hTe,hT,yh,h3]:=ht;ext Ő;rw[if_pos (show (Ę T != œ)=true from by simp)];exact gV (za5 hT yh h3 ?_);rw[if_neg (show ¬ ((œ == À7 L)=true) from by simp[À7])];exact gV (zaD hT yh (ŝ h3).1 ?_);have other:∀ b,b≠T->(s.heap.update T (ĸ (Ë1 3 œ))).get? b=Ü b:=λ b hb=>za7 à (ø hb);have E4:∀ b o,Î5->(∀ vs,o.data≠ Ĥ vs)->b≠T:=λ b o hb AH q=>by
  rw[q,hT] at hb;cases hb;show AH ts yh
 exact av AR (hl.of_keeps λ b o hb AH=>#[o,(other b Å8).trans hb,rfl]) hf ((other e (ø hTe)).trans he)
  (λ b o AY=>(other b λ q=>by rw[q,hnT] at AY;cases AY).trans (BX b o AY)) Cf hd (ŝ h1).1 h0
  λ h' x=>h h' #[x.stays,x.frames,(by
   let#[T',n,r]:=x.tr;show#[T',by rw[Heap.size_after_update] at n;show n,r]),λ b o hb AH=>x.slots b o ((other b Å8).trans hb) AH,λ b o us hb BJ=>(by
   by_cases q:b=T
   .subst q;show x.pz à _ (za8 _ hT (ŏ (Ĉ yh _))) (Ĉ yh _)
   .show x.pz b o us ((other b q).trans hb) BJ)]
)
example:=`(
example É3:=c∈cs
example ć:=.obj
example ÿ:=.own
example Ê0(h0:J[j]?=↑↑(ÿ (ć t c fs))):=0
example Ã2:=ć none c' E7
example Ĳ(h:∀ a,F (ÿ (ć ↑a c fs)::xs.map .im)=↑(yA v [(a,Ã2)])):=0
example ï:=fs.lookup m=none
example À Ê0 (hc:É3) (hl:ï) (hg:g J=↑xs) Ĳ:=0
example Á:=Option
example þ:=.int
example ö:=.fields
example Â:=s.heap.push { cls:=.type "range",data:=ö [þ lo t,þ hi u,þ c v].toArray }
example Ã:=List Str
example À1:=Value
example Æ:=.ref
example Ą:=Á Addr
example Į:=(Æ C)
example Ï3:=mainGlobals
example Ż:=PySem.W.nsIn
example å:=Ż K Ï3 c=↑↑ Į
example Ä{o1 o2:À1}{d1 d2:Ą}{c1 c2:ClassData}{s1 s2:Array (Á À1)}(_:å) (_:Ż K Ï3 "PurseError"=↑↑(Æ P)) (_:K.lookup C=↑#[o1,d1,.cls c1,s1]) (_:K.lookup P=↑#[o2,d2,.cls c2,s2]) (h:iy K c=↑(C,P,c1.ns,c2.ns)):=0
example Ŷ:=outer
example Å _:=x mg base N qual (zH st) f Af A Ŷ
example Ç:=List W->Á T
example Ä3:=#[rfl,rfl]
example È:=#[oe,vs,oT,ts,g0,#[Ä3,g3],g1,g2,PySem.W.hideAll_none _ #[],g4,g6,g7,g8]
example À2:=(Æ e)
example œ:=(model prog w)
example É _:=x œ (A.mark ↑ À2)
example Ņ:=List T
example Ê:=Ev->Á (Ņ)
example Ë:=(excClassObj nm q C N bs bm hdct sn sub ab col dd k0 k1 k2 k3 k5 newId)
example Ŀ:=List (Str×T)
example Ì{t:Ą}{c c':Str}{fs E7:Ŀ}{xs:Ņ}:=0
example Í:=false
example Æ3:=PySem.W.findIn
example Î(c1:PySem.W.plainGet K C Str.empty=true) (c2:PySem.W.hasDictIn K C=true) (c3:PySem.W.plainOver K C=true) (c4:Æ3 K Į "__setattr__"=↑↑(.builtin "object.__setattr__")):=0
example Ĺ:=s.heap
example ĺ _:=x T (wU T)
example Ë0:=(upd H ĺ)
example ā:=yY X.stack
example Þ:=Q Unit.unit { s with heap:=h' }
example Î4:=Shared
example ĝ:=Î4->Prop
example Ä8{Q:Unit->ĝ}:=0
example Ï Ä8 (hq:∀ h' T,H T=none->Un (ā) [] H Ë0 Ĺ h'->yq X.prog X.w Ë0 h'->o8 h' Ë0 e->Þ):=0
example Ã6:=s.heap.objs.size
example ê:=ya k (A.deeper (envOfC qual (zH st) Ã6 f Af))
example Ź _:=x yM P w K Å s
example Ð2:=xG (xg Ź H E).xA (yN st) t
example ã(Af:À1) (A:Around) (Ŷ:List Env) (s:Î4) (H:Hp) (E:XK):=0
example Ð(EY:∀ (f:Addr) ã,ê-> ∃ t,Ð2/\zV wX g t):=0
example ç:=X.env
example Î6:=ç::X.outer
example Ñ(AD:X.stack=Î6) (AR:X.env.frame=↑X.env.locals):=0
example Ò _:=x (((Y.set i ↑d).set j ↑d).set i none) S'
example Ç3 _:=x X EW σ
example Ó(I:Inv Ç3 H s):=0
example Ľ:=.none
example ĕ:=h.objs.size
example À9:=ö [Æ ĕ,Ľ,Ľ,Ľ,.bool Í,Ľ].toArray
example Ô:=((h.push { cls:=.type "tuple",data:=.seq EX.toArray }).push { cls:=Æ C,data:=À9 }).get?
example Õ{fs:List (Str×D)}{vs:List (Str×V)}(h:uH K H fs vs):=0
example Ö:=(notedBy É env (cameBackBy œ A env E))
example â _:=x _ _
example Ø:=by let#[p,c,fs,rfl,g2,g3,g4,g5]:=g1;have q1':=q1;simp![zf] at q1;subst q1;let#[C,dx,vs,j1,j2,j3]:=p1 â g2;let#[C',j4,j5,j6]:=h3 c g3
example Ù:=Builtin.Range.rangeSize
example Ú:=PyProof.Rows
example Ë1:=[þ q.1,vN q.2]
example Û:=λ q=>T.tup Ë1
example ø:=Value.ref
example Ì3:=·.setIfInBounds
example Ü:=(Ì3 1 (ø h₁.objs.size))
example Ý:=by let#[Y,S,r1,r2,z]:=hu
example ß:=by rw[zP (ud q h (by intro z;cases z))];show q
example ō:=.Name
example ċ:=("__debug__":Str)
example à(BQ:(n == ċ)=Í) (Dl:(n == ("__classdict__":Str))=Í) (BH:swapsWith (ō n p3) ↑(ō c p2) p4.line ç=pure Í):=0
example á:=ÿ (ć a c fs)
example ä:=#[Y,S,r1,r2,z]
example È7:=(λ b o q=>PySem.W.of_hideAll _ q)
example æ _:=x È7 (PySem.W.hideAll_none _ #[])
example è:=List Nat
example é _:=x (model X.prog X.w) X.A
example ë{P:Program}{w:World}:=0
example ń:=Obj.data_mapFields
example ì:=za8 _ hT (Obj.isFreed_of_fields (ń yh _))
example í:=PySem.Spec
example î:=λ _ _ q=>q
example À7 _:=x [] pos
example ð:=(.Try body [.ExceptHandler ↑(ō "PurseError" p1) ↑n [.Assign [ō c p2] (ō n p3) p4] BV] [] À7)
example ñ:=by simp![zf]
example ò Ä8 (AR:A.frames=↑(env::Ŷ)) (hl:s.heap.FunFrames base (env::Ŷ)) (hf:env.frame=↑L):=0
example ó:=List (Addr×C)
example ş:=.inr
example ô:=xs.map ş
example õ _:=x S Z Y J
example ù:=Addr->Hp->Prop
example ú{fs:Ŀ}{ds:List (Str×D)}:=0
example Ê8:=Value.none
example û:=ö ([head,Æ L,Ľ,rawInt L,Ľ]++(if pl.isEmpty then List.replicate 6 Ê8 else pl)).toArray
example ü(cs:Ã) (m:Str):=0
example ý:=λ _ _=>False
example Ā(hg:Gl X "isinstance") (h1:AE X e [ō cn q]) (h2:AL X pos [ō cn q]) (h3:AE X (ō cn q) []):=0
example Ă:=(f J).bind
example ă:=(other b (E4 b o hb AH)).trans hb
example ą:=by intro X hP hw hK hc i EW s σ H E I hf st hg;subst hP hw hK;let#[f0,f1,f2,f3,f4,f5]:=hf it #[]
example Ð5{H:Hp}:=0
example Ć{EW:Ak}{σ:St}Ð5{s:Î4}:=0
example ŗ(K:Ac):=0
example Ĉ(P:Program) (w:World) ŗ (mg:Aq) (base:Heap):=0
example ĉ _:=x X.prog X.w X.K X.mg X.base
example Ċ{cs:Ã}{m:Str}:=0
example Č:=þ (if b<a then b else a)
example č:=.inl
example Ď:=#[I.ok,J.os,J.bare,J.base,J.loc,J.cell,J.free,J.vM,J.pin,J.zt,J.len]
example ď _:=x qual (uj st) (yN st) (zH st) Ľ kV doc pm an
example Đ:=Addr->Prop
example đ:=PySem.W.keepIn
example Ē _:=x P w K mg base
example ē{J:Ev}:=0
example Ĕ{hdct:Bool}{sn:Ã}{sub:Ai}{ab:Bool}{col:Á Bool}{dd:Ą}{k0 k1 k2 k3 k5:Á À1}:=0
example Ė:=s.heap.get?
example ė:=(excClassObj nm' q' P N' bs' bm' hdct' sn' sub' ab' col' dd' l0 l1 l2 l3 l5 newId')
example Ę:=if_pos
example ę:=(hs.2 b (AF (Bf (Ar e) I.ok.above))).trans
example Ě:=(g J).bind
example ě(hn:∀ v s,¬ X.xe v s):=0
example Ð9{is:è}:=0
example Ĝ{N:Ã}{n:Nat}Ð9{g:Sm}:=0
example Ğ:=by rcases yE e with ⟨rfl,hl,e⟩ | ⟨n,e⟩
example Â6:=by let#[ws',h1,rfl]:=Ax.mp h
example ğ:=by ext Â6;let#[g1,g2]:=bu h1 r2;exact#[by simp[g1],λ i w e=>?_]
example Ã0:=[a,b,c]
example Ġ:=starEach Ã0 ç=[(Í,eval a ç),(Í,eval b ç),(Í,eval c ç)]
example ġ:=J.set j ↑(ÿ (ć t c' E7))
example Å8(Sc:we N ps (zH st)):=0
example Ģ(F:Fm K cs m qual st) Å8 (hn:n=ps.length) (hb:jc st m qual ps):=0
example ģ:=#[h,g,d,t,os]
example Ĥ:=ş #[_,hE,#[oe',vs',a1,a2.trans z1,a3.trans z2,a5],oe',a1]
example Â9:=(.type "BaseException")
example ĥ(hbase:bm'.contains Â9=true) (hm:bm.contains (Æ P)=true):=0
example Ħ _:=x cs m (yr F) (zX j)
example ħ:=wpAny
example Ĩ(Dg:Loc X.env.scope c) (Dv:X.fn c=true\/X.env.scope.names.lookup c=↑.local):=0
example ĩ:=by change zX j Y S _;unfold zX;rw[h1]
example Ī:=decide (cn=c)||decide (cn="PurseError")
example ī:=λ u s1 #[x,H1,I1,rx,a,C,dx,fs,ex,ea,c,me,l,q]=>?_
example ſ:=(zB S' Z)
example ū:=(zB S Z)
example Ĭ:=∀ d S',Sx ū ſ->FR S0 Z0 S' Z Y J'->Sn ſ y d->Q d S'
example ĭ:=∀ vs,o.data≠ ö vs
example į:=slots ys
example İ:=by let#[oe,vs,a0,T,oT,ts,g0,g1,g3,g2,g4,g5,g6,g7,g8]:=hf
example ı{K:Ac}:=0
example ĳ:=#[q',bs',sn',sub',ab',col',dd',l0,l1,l2,l3,l5,hP]
example Ĵ:=by let#[i,hi]:=Co.mp hj;have Av:=(AQ.mp hi).1
example ĵ:=by let#[t,h1,h2]:=EY f Af A Ŷ s H E hr
example Ķ:=(λ b o AY=>(other b λ q=>by rw[q,hnT] at AY;cases AY).trans (BX b o AY))
example ķ:=xB c=true
example ĸ:=h.get?
example Ļ{X:Cx}:=0
example ļ(F:ExcBaseFacts B newId initId E9) (T:OwnTail h E9 bm) {mN:Aq}{EX:Ai}:=0
example ľ:=some ↑(ÿ (ć _ c fs))
example ŀ:=by let#[C,dx,hE]:=he;have hF:=I.ok.frames;rw[AD] at hF;have hS:=I.stack;rw[AD] at hS
example Ł{oc:À1}{od an:Ą}{osl:Array (Á À1)}{kV doc pm Af ct:À1}:=0
example ł:=PySem.W.hideAll
example Ń:=xB q.2=true/\S0 q.1=none/\Z q.1/\∃ o,S q.1=↑o/\xE ū q.2 o
example ņ:=ER S Z (ds.map some) (ws.map some)
example Ň(X:K.In h) (G:h.Ns Ï3 mg):=0
example ň(lo c:Int) (n:Nat):=0
example ŉ:=#[q,bs,sn,sub,ab,col,dd,k0,k1,k2,k3,k5,e]
example Ŋ:=λ _ _ z=>(hn â z).elim
example ŋ:=FR S0 Z0 õ
example Ō:=(setFlight À2 none)
example Ŏ:=by exact gV (za5 he hd h1 ?_);rw[Ę (show (ø T != Ê8)=true from by simp)]
example ŏ:=kd F Sc (λ ds S Q h=>by rw[h.len,hn]) λ Af A Ŷ s H E hr=>?_
example Ő(h0:J[i]?=↑↑(á)) (hc:É3):=0
example ő:=by rename_i p q ps qs _;let#[g,d']:=p;let#[g',v']:=q;let#[rfl,r2]:=r
example Œ:=PySem
example Ŕ:=PySem.W.funFrames_hide
example ŕ:=(λ _ z=>by cases z)
example Ŗ:=List Ag
example Ř _:=x (a2.trans xT) (a3.keep xT λ b u o _ c=>by rw[zP (wA c hT)];show c)
example ř(i:Nat):=0
example Ś{c:Str}:=0
example ś _:=x cs m j F g
example Ŝ _:=x EW s σ H
example ŝ(he:AE X e es) (Ao:AL X pos es):=0
example Ş:=(.Attribute o m apos)
example Š:=(uw N ws)
example š{S:SS}:=0
example Ţ:=starEach [b,c] ç=[(Í,eval b ç),(Í,eval c ç)]
example ţ(F:Ç) (g:Ê):=0
example Ť{k':Nat}(F:tH ĉ cs m k ps sp) (hr:ya k' X.A) (ho:PD X o to):=0
example ť{F:Ç}{g:Ê}:=0
example Ŧ:=by let#[r,e3,e4]:=Ax.mp e2;cases e4
example ŧ:=Array.getElem?_eq_some_iff.mp
example Ũ:=λ EW s σ H D Q W hW I ä=>?_
example ũ:=(-(2 ^ 31)<=i/\i<2 ^ 31/\-(2 ^ 31)<=j/\j<2 ^ 31/\0<c/\c<1000000)
example Ū:=fs.lookup f
example Ŭ:=Ev->Á Bool
example ŭ(ha:yS X (e::es) tA):=0
example Ů{ds:List D}:=0
example Ì8:=đ K (Æ f)=true
example ů(cd:PySem.W.codeIn K Af qual=true) (k2:Ì8):=0
example Ű:=o.data=ö vs->∃ o' vs',h'.get? b=↑o'/\o'.data=ö vs'
example ű:=qQ K c C P N NP
example Ų:=λ _ _ q=>q.elim
example ų:=List.cons.injEq
example Ŵ _:=x P w K Å s
example ŵ(hC:ĸ C=↑ Ë) (hn:h.Ns N mN) (hi:mN "__init__"=none):=0
example ŷ:=by rcases A5.mp ha with q | q
example Ÿ _:=x (g':=s₁.gens) (d':=s₁.drawn) (t':=s₁.toks) (ch:=[])
example ź:=base.StaysIn
example ż:=Al.mp e
example Ž:=by ext Ý;exact zL.go he.mo r1 r2 z λ x S1 v H1 h1 q1 e1 p1=>?_
example ž:=ws.length
example È5:=List Stmt
example À0{n c:Str}{body:È5}{p1 p2 p3 p4 BV pos:Pos}:=0
example À3:=(ÿ c)
example À4:=(ad j)
example À5:=slot_mem
example À6{M:Model}{A:Around}{E:Aj}:=0
example À8:=by let#[c',a,b,d]:=fW h1 hj;show#[c',a,b,Ay _ d]
example Á0:=(zL.go ho.mo r1 r2 z λ x S1 v H1 g1 q1 e1 p1=>?_)
example Á1{fa fb:Ad}{ta tb:zw}(ha:yD fa ta) (hb:yD fb tb):=0
example Á2:=(v7 F [↑(ÿ (ć none c []))] (č 0::ô)).bind
example Á3:=by subst ex;obtain rfl:u=ø a:=rx;exact il I1 ea c me l ?_
example Á4:=by let#[Z,ws,y,r,e,hq]:=hs;unfold xo at e;split at e
example Ï1:=uV d=true
example Á5:=#[E.nx,λ d S'=>Ï1/\E.nx Ò,ý,ý]
example Ð3{base:Heap}:=0
example Á6 Ð3{env:Env}{Ŷ:List Env}{L e:Addr}:=0
example Á7:=by let#[d,m,rfl,h1,h2]:=h
example Á8:=ş #[_,g5,#[o2,t2,b3,b4],o2,b3]
example Á9:=(.Call (ō "isinstance" p) [e,ō cn q] À7)
example Â0:=A2 _ (CQ.mpr #[env,by rw[AD];show hm,ha])
example Â1:=v7 F J (č j::ô)
example Ë4{f:Str}:=0
example Â2{cs fl:Ã}Ë4(hk:∀ c∈cs,Kl X.K c fl):=0
example Â3:=t { nx:=λ _ S'=>Q .zj S',rt:=Q } (vE N ds) S
example Â4 _:=x oP λ i j=>þ (i/j)
example Â5 _:=x oO λ i j=>þ (i*j)
example Â7:=by change Ă _=_;rw[h]
example Â8:=Obj.mapFields
example Ã1:=(þ (if i<0 then -i else i))
example Ã3(k:Nat) (ps:Ã) (sp:yZ):=0
example Ã4{ws:List W}:=0
example Ã5:=(hl.of_keeps λ b o hb AH=>#[o,ă,rfl])
example Ã7:=rp (nP (λ _ _ _=>wx) λ _ _ _=>nofun) ha hb
example Ã8:=ys[i]?=↑(č j)
example Ã9(hc:X.calm=true):=0
example Ä0:=[Value.int a t1,Value.int b t2].toArray
example Ä1:=#[h',g,d,t,os]
example Ä2 _:=x (dvs:=[]) (E:=E0) h1 (hr.mono hk) h2 .nil jA
example Ä4:=hq _ S (.refl S) (Cl.of (λ _=>nofun) wx)
example Ä5:=đ K Į=true/\Ż K N "__init__"=↑none
example Ä6:=(λ a=>Z a/\¬ uU ws a)
example Ä7:=by change (c J).bind _=o;rw[e];show e'
example Ä9{i:Nat}:=0
example Å0(c:Str):=0
example Å1:=by let#[p,b,h1,h2,h3]:=l6 Fr.er hj;ext ĩ
example Å2:=λ y J=>J.set i ↑(.im (.tup [a,y]))
example Å3:=by let#[j,hj,rfl]:=lA a q
example Å4(h:vP g u):=0
example Å5:=[þ i,þ j,þ c]
example Å6{i j:Nat}:=0
example Å7:=(ups S1 p (ć c []))
example Å9:=by simp![Sn] at h;let#[_,h,_]:=h;subst h;rfl
example Æ0(h:vN c=vN c') (l:ķ) (l':xB c'=true):=0
example Æ1:=((tL lo hi c:Nat):Int)-((0:Nat):Int)
example Æ2:=(Æ p)
example Æ4(he:PD X e te):=0
example Æ5:=by rw[h0];dsimp only
example Æ6:=oe.cls=Æ C
example Æ7:=(a.free c o q n hx)
example Æ8:=λ _ _ h=>x_.ext e h
example Æ9:=(e1.trans e2).trans
example Ç0:=∃ C,sU K c C/\vU K C/\Meth K C m f
example Ç1:=T.tup.injEq
example Ç2:=by change (g J).map _=_;rw[h];rfl
example Ç4(j:Nat):=0
example Ç5{Q:DK}(hs:yr (xo N n is g) ds S Q):=0
example Ï9:=List C
example Ç6{js:è}{cs:Ï9}:=0
example Ç7:=by let#[d,m,rfl,r1,r2]:=r;unfold wZ at h
example Ç8:=by ext ĵ;show#[t,h1,λ ds S Q h=>iT h2 h]
example Ç9:=by simpa [B0,argBest] using hP.symm
example È0:=by change (f J).map _=_;rw[h];rfl
example È1:=(backToKw pos (keywordEach [] ç))
example È2:=∀ d S',Sx S S'->Sn ſ y d->Q d S'
example È3:=by let#[n,u',BW]:=X2 u zt I.zt hp a9 a10
example È4:=oe.data=ö vs
example È6:=H e=↑(vT e C dx)
example È8:=FuncData
example È9:=PySem.W.mg_of
example É0:=ds.length
example É1:=[þ a,þ b]
example É2:=List Addr
example É4:=(wC is J).map
example É5:=ws[i]?=↑ À3
example É6:=J.set i ↑(.im y)
example É7{h:Heap}:=0
example É8(i j:Nat):=0
example É9 _:=x e1 λ ds S1 s1 r1=>?_
example Î5:=Ne.symm
example Ê1:=(other e (Î5 hTe)).trans he
example Ê2:=(ø C::Æ P::uG).contains (Æ D)
example Ê3:=holding [ov] (getMethod ov m pl)
example Ê4(e:Addr):=0
example Ê5{es:List Expr}{tA:zY}{pos p:Pos}:=0
example Ê6(BX:ź Ĺ) (Cf:base.get? e=none):=0
example Ê7:=by rw[q] at h;cases h
example Ê9:=ĸ e=↑oe
example Ë2 _:=x X tg (.Call (ō "range" p) Ã0 À7)
example Ë3 _:=x (e::es) À7
example Ë5:=by let#[#[f,fd,h1,h2,h3],hm]:=F
example Ë6{e:Addr}:=0
example Ë7:=by rw[q] at e;cases e
example Ë8(m2:PySem.W.isFn K (Æ f)=true):=0
example Ë9:=(I.ok.hd hc)
example Ì0:=List.range n
example Ì1{f:Ad}:=0
example Ì2:=by let#[xs,e1,e2]:=ż
example Ì4:=∀ b o,Ė b=↑o->(ĭ)->b≠T
example Ì5:=Binds K fd ps []
example Ì6:=fun σ H Q hu=>?_
example Ì7:=(List.mem_of_elem_eq_true hf)
example Ì9:=[.str q.1,q.2]
example Í0:=wZ ad J ys=↑ws
example Í1 _:=x base e cls a0
example Í2(Bw:X.env.kindOf n=↑.local):=0
example Í3{e:Expr}{te:zw}{p q pos:Pos}:=0
example Í4(ha:PD X a ta) (hb:PD X b tb):=0
example Í5 _:=x (fI.fits λ _ _ _=>ñ) fI.mo ha hb
example Í6:=xb Ē yM k f fd ps (vV K sp)
example Í7:=map_some
example Í8:=nomatch h
example Í9:=by change Ě _=_;rw[h];rfl
example Î0:=by rw[q,hT] at hb;cases hb;show AH ts yh
example Î1{b:Bool}:=0
example Î2:=by simp![wJ] at h;subst h
example Î3{c:C}{p:Addr}(h:wJ c=↑p):=0
example Î7:=(fin _ oe a0 g0 λ a ha=>?_)
example Î8:=[e,T]++ā
example Î9:=(SP X EW D)
example Ï0:=(Æ a)
example Ï2:=(uE X.K H D).nx
example Ï4:=rf lo c n
example Ï5:=Heap.MadeExcOf h h' e Į EX
example Ï6:=fs.length
example Ï7:=(g,x)::fs
example Ï8:=Nat->Addr
example Ð0:=Bc F J ys r
example Ð1:=J[j]?=↑↑ À3
example Ð4(zt:yq P w H h):=0
example Ð6(hrest:EX.length<=sizeLine):=0
example Ð7(hg:Gl X c) (Bm:(c == ċ)=Í):=0
example Ð8(f:Str):=0
example Ñ0{ys:Ŗ}:=0
example Ñ1{j:Nat}:=0
end
structure Heap.Vv (base:Heap) (l:List Env) Ê4 (cls a0 fl:À1) (zW:Ą) (h h':Heap):Prop where
 stays:ź h'
 frames:h'.FunFrames base l
 tr:∃ T,ĕ<=T/\h'.mj Í1 fl zW T
 slots:h.UpToSlots h'
 pz:∀ b o vs,ĸ b=↑o->Ű
section
variable {À6}{s:Î4}
def U8 Á6{oe:Obj}{vs:AB}{head a0:À1}{hadNext:Bool}ò
  (he:Ė e=↑oe) Ê6 (hd:È4) (hsz:1<vs.size) (h0:vs[0]?=↑a0)
  (h:∀ h',Heap.Vv base (env::Ŷ) e oe.cls a0 (rawInt L) oe.dict Ĺ h'->Þ):
  ħ M A (do let a <- frameOf env;let pl <- entryPlaceOf L hadNext;let b <- EntryCells.newEntry head a Ľ (rawInt L) Ľ pl;setField À2 1 b) Q E s:=by
 have CJ:e∉(env::Ŷ).filterMap (·.frame):=λ hm=>by
  let#[_,o,ho,AH]:=hl.mem hm;rw[he] at ho;cases ho;show AH vs hd
 exact gV (wpAny_frameOf_fun AR hl hf λ h₁ hs₁=>gV (wpAny_entryPlaceOf λ pl Ao=>?_));unfold EntryCells.newEntry newFields;exact gV (zaA ?_ (Ao.sizeOk5 â â _));have he₁:h₁.get? e=↑oe:=(hs₁.2.1 e CJ).trans he;have kb₁:ź h₁:=λ b o AY=>(hs₁.2.1 b λ hm=>by rw[(hl.mem hm).1] at AY;cases AY).trans (BX b o AY);generalize Dh:({ cls:=.type "traceback",dict:=none,data:=û }:Obj)=tb;have tbd:tb.data=û:=by rw[<- Dh]
 have tbf:tb.isFreed=Í:=by rw[<- Dh];rfl
 have he₂:(h₁.push tb).get? e=↑oe:=tp _ he₁;exact zaD he₂ hd hsz (h _ ?_);have hTe:h₁.objs.size≠e:=Bp (Ar he₁);have hd₃:=ń hd Ü;have he₃:=za8 (Â8 Ü) he₂ (Obj.isFreed_of_fields hd₃);have hT₃:=(za7 (h₁.push tb) (Â8 Ü) (Î5 hTe)).trans (AJ h₁ tbf);have keep:∀ b o,b≠e->h₁.get? b=↑o->((h₁.push tb).update e (Â8 Ü)).get? b=↑o:=λ b o BA hb=>by
  rw[za7 â (Î5 BA)];show tp _ hb
 have E4:∀ b o,Ė b=↑o->(ĭ)->b≠e:=λ b o hb AH q=>by
  rw[q,he] at hb;cases hb;show AH vs hd
 exact#[λ b o AY=>keep b o (λ q=>by rw[q,Cf] at AY;cases AY) (kb₁ b o AY),hl.of_keeps λ b o hb AH=>?_,?_,λ b o hb AH=>?_,λ b o us hb BJ=>?_]
 .let#[sl,hs]:=hs₁.2.2 b o hb;show#[_,keep b _ (E4 b o hb AH) hs,rfl]
 .show#[h₁.objs.size,by rw[hs₁.1];show An _,_,_,_,_,he₃,#[#[Obj.cls_mapFields â,Obj.XX â],by rw[zcJ ()];show h0],hd₃,by simp[hsz],kb₁.fresh,hTe,hT₃,tbd,#[]]
 .let#[sl,hs]:=hs₁.2.2 b o hb;show#[sl,keep b _ (E4 b o hb AH) hs]
 .by_cases q:b=e
  .subst q;show#[_,_,he₃,hd₃]
  .have hb₁:h₁.get? b=↑o:=(hs₁.2.1 b λ hm=>by
    let#[_,o',ho',AH]:=hl.mem hm;rw[hb] at ho';cases ho';show AH us BJ).trans hb
   show#[o,us,keep b o q hb₁,BJ]
def U3 Á6{cls a0:À1}{zW:Ą}{T:Addr}ò (ht:s.heap.mj Í1 Ľ zW T) Ê6
  (h:∀ h',Heap.Vv base (env::Ŷ) e cls a0 (rawInt L) zW Ĺ h'->Þ):ħ M A (noteFrame À2 env) Q E s:=by
 let#[oe,vs,oT,ts,he,#[Ä3,h0],hd,h1,hnT,hTe,hT,yh,h3]:=ht;unfold noteFrame;simp![hf];ext Ŏ;exact gV (za5 hT yh h3 ?_);rw[if_neg (show ¬ ((Ê8 == rawInt L)=true) from by simp[rawInt])];exact gV (zaD hT yh (ŧ h3).1 ?_);have other:∀ b,b≠T->(s.heap.update T (Â8 (Ì3 3 Ê8))).get? b=Ė b:=λ b hb=>za7 â (Î5 hb);have E4:Ì4:=λ b o hb AH q=>by
  ext Î0
 exact U8 AR Ã5 hf (Ê1)
  Ķ Cf hd (ŧ h1).1 h0
  λ h' x=>h h' #[x.stays,x.frames,(by
   let#[T',n,r]:=x.tr;show#[T',by rw[Heap.size_after_update] at n;show n,r]),λ b o hb AH=>x.slots b o (ă) AH,λ b o us hb BJ=>(by
   by_cases q:b=T
   .subst q;show x.pz â _ (ì) (ń yh _)
   .show x.pz b o us ((other b q).trans hb) BJ)]
def au Ð3{l:List Env}Ë6{cls a0 fl:À1}{zW:Ą}{T:Addr}Ä8
  (BX:ź Ĺ) (hl:s.heap.FunFrames base l) (ht:s.heap.mj Í1 fl zW T)
  (h:∀ h',ź h'->h'.FunFrames base l->h'.mj Í1 Ľ zW T->s.heap.UpToSlots h'->(∀ b o vs,Ė b=↑o->Ű)->Þ):ħ M A Ō Q E s:=by
 let#[oe,vs,oT,ts,he,Bg,hd,h1,hnT,hTe,hT,yh,h3]:=ht;have hsz3:3<ts.size:=(ŧ h3).1;have other:∀ b,b≠T->(s.heap.update T (Â8 (Ì3 3 ((none:Ą).elim Ê8 λ f=>rawInt f)))).get? b=Ė b:=
  λ b hb=>za7 â (Î5 hb)
 have E4:Ì4:=λ b o hb AH q=>by
  ext Î0
 unfold setFlight;ext Ŏ;exact zaD hT yh hsz3 (h _ Ķ
  Ã5 ?_ (λ b o hb AH=>#[o.slots,ă]) λ b o us hb BJ=>?_)
 .show#[oe,vs,_,_,Ê1,Bg,hd,h1,hnT,hTe,ì,ń yh _,by simp[hsz3]]
 .by_cases q:b=T
  .subst q;show#[_,_,ì,ń yh _]
  .show#[o,us,(other b q).trans hb,BJ]
end
end Œ
namespace Œ
open Calls Spec
section
variable {prog:Program}{w:World}{À6}{env:Env}
variable {nm q:Str}{C N:Addr}{bs bm:Ai}{Ĕ}{newId:String}
variable {nm' q':Str}{P N':Addr}{bs' bm':Ai}{hdct':Bool}{sn':Ã}{sub':Ai}{ab':Bool}{col':Á Bool}{dd':Ą}{l0 l1 l2 l3 l5:Á À1}{newId':String}
def U5 É7{g:Array GenState}{d:Drawn}{t:Nat}{os:OsState}Ë6{oe:Obj}{Q:Bool->ĝ}
  (hC:ĸ C=↑ Ë) (hP:ĸ P=↑ ė)
  (he:Ê9) (Bg:Æ6) ĥ
  (hq:Q true ģ):ħ M A (excMatches À2 (Æ P)) Q E ģ:=by
 have hcB:(ø P::bm').contains Â9=true:=by rw[BK,hbase,C8]
 have hcP:(ø C::bm).contains (Æ P)=true:=by rw[BK,hm,C8]
 have f:=tc_notTuple;unfold excMatches
 repeat (first | (with_reducible exact za6 he ?_;rw[Bg]) | with_reducible exact za6 hP ?_ | (with_reducible exact zaF hP ?_;rw[hcB]) | (with_reducible exact zaF hC ?_;rw[hcP]) | wp_step)
 show hq
def U6 {s:Î4}Ë6{t:Expr}{n:Str}{b₀:Stmt}{suite:È5}{pos:Pos}{EX:List ExceptHandler}{Q:Flow->ĝ}
  ĥ
  (h:ħ É (eval t env) (λ c s₁=>c=Æ P/\s₁.heap.get? C=↑ Ë/\s₁.heap.get? P=↑ ė/\(∃ oe,s₁.heap.get? e=↑oe/\Æ6)/\
   ħ É Ō (λ _ s₂=>
     ħ É (storeName env n À2) (λ _ s₃=>
      ħ É (execs (b₀::suite) env)
       (λ f s₄=>ħ œ A (do bindName env n Ľ;unbindBehindTheSuite env n pos) (λ _ s₅=>Q f s₅) E s₄)
       (AsSuiteRaised É env n pos Ö) s₃) Ö s₂) Ö s₁) Ö s):
  ħ œ A (handleBy À2 env (.ExceptHandler ↑t ↑n (b₀::suite) pos::EX)) Q E s:=by
 exact wpAny_handleBy_cons (codeAny_handlers_test (za4 h (λ c s₁ h₁=>?_) λ _ _ y=>y)) (by intro q;cases q);let#[rfl,hC,hP,#[oe,he,Bg],hk]:=h₁;let#[hh,g,d,tk,os]:=s₁;show U5 hC hP he Bg hbase hm (codeAny_handlers_suite_as hk)
end
end Œ
namespace L3
open Œ í L2
open Ú hiding St
def wU (T:Addr):HO:=.ext λ h=>∃ oT ts,ĸ T=↑oT/\oT.data=ö ts
def V5 (h:Heap) Ê4:Prop:=∃ oe vs a0,Ê9/\È4/\vs[1]?=↑ Ľ/\vs[0]?=↑a0
def o8 (h:Heap) (H:Hp) Ê4:Prop:=∃ oe vs a0 T oT ts,Ê9/\È4/\vs[0]?=↑a0/\vs[1]?=↑(Æ T)/\T≠e/\H T=↑(wU T)/\ĸ T=↑oT/\oT.data=ö ts/\ts[3]?=↑ Ľ
def kT (H:Hp) Ê4:Prop:=∃ C dx,È6
section
variable {ë}{Ð5}{h h':Heap}
def c6 {fs as:É2}Ð4 (hf:∀ b∈fs,H b=none/\∀ o,ĸ b=↑o->ĭ) (st:(ł h as).StaysIn h') (us:h.UpToSlots h')
  (has:∀ a∈as,a∈fs\/∃ φ:Heap->Prop,H a=↑(.ext φ)/\φ h'/\∃ o,h'.get? a=↑o):Un fs [] H H h h'/\yq P w H h':=by
 have E_:∀ b o,b∉as->ĸ b=↑o->h'.get? b=↑o:=λ b o hb e=>st b o (PySem.W.hideAll_get _ e hb);exact#[#[λ b o e n hb _=>E_ b o (λ hm=>?_) e,λ b o e n hb _=>us b o e ((hf b hb).2 o e),λ _ _ _ n _=>n,λ b o e _=>?_,î,λ _ _ _ q=>q,λ _ ps q=>#[[].toArray,by rw[q];simp]],λ a o e=>?_]
 .rcases has b hm with z | ⟨φ,z,_⟩
  .show hb z
  .rw[n] at z;cases z
 .by_cases hm:b∈as
  .rcases has b hm with z | ⟨φ,_,_,z⟩
   .let#[sl,q]:=us b o e ((hf b z).2 o e);show#[_,q]
   .show z
  .show#[o,E_ b o hm e]
 .by_cases hm:a∈as
  .rcases has a hm with z | ⟨φ,z,z1,z2⟩
   .rw[(hf a z).1] at e;cases e
   .rw[e] at z;cases z;show#[z1,z2,(zt a _ e).2.2]
  .exact (zt a o e).uv (λ b u hb q=>?_) (λ _ q=>q) î;rcases hb with rfl | hb
   .show E_ _ u hm q
   .exact E_ _ u (λ hm'=>?_) q;rcases has b hm' with z | ⟨φ,z,_⟩
    .rw[(hf b z).1] at hb;cases hb
    .rw[hb] at z;cases z
def X2 {fs:É2}{T:Addr}{oT:Obj}{ts:AB}(u:Un fs [] H H h h') (zt:yq P w H h') (hk:yq P w H h) (hp:ĕ<=T) (e:h'.get? T=↑oT) (hd:oT.data=ö ts):
  H T=none/\Un fs [] H Ë0 h h'/\yq P w Ë0 h':=by
 have hn:=hk.fresh hp;exact#[hn,#[u.keep,u.slot,λ b o q n x=>by rw[zP (AF (Bf (Ar q) hp))];show n,u.there,λ b xs q=>by rw[zP (wA q hn)];show q,λ b o xs q=>by rw[zP (wA q hn)];show q,λ b ps q=>#[[].toArray,by rw[zP (wA q hn),q];simp]],λ b o q=>?_];by_cases hb:b=T
 .subst hb;rw[yy] at q;cases q;show#[#[oT,ts,e,hd],#[oT,e],λ h1 h2 #[o,ts,a,b] k=>#[o,ts,k _ a,b]]
 .rw[zP hb] at q;show (zt b o q).uv (λ _ _ _ z=>z) (λ c z=>by rw[zP (wA z hn)];show z) λ c xs z=>by rw[zP (wA z hn)];show z
end
section
variable {Ļ}{Ć}{Ë6}
def cz Ó:∀ b∈ ā,H b=none/\∀ o,Ė b=↑o->ĭ:=λ b hb=>
 #[I.fN b hb,λ o ho=>by
  let#[_,o',ho',hd]:=I.stack.mem hb;rw[ho] at ho';cases ho';show hd]
def XJ Ð5 É7 ë{C:Addr}{dx:Ą}{oe:Obj}Ð4 (he:È6) (q:Ê9):Æ6/\oe.dict=dx:=by
 let#[#[o',_,a,b,c,_],_]:=zt e _ he;rw[q] at a;cases a;show#[b,c]
def LM {M:Model}{E:Aj}Ó Ñ (he:kT H e) (hf:V5 Ĺ e\/o8 Ĺ H e) Ï:ħ M X.A (leaving ç À2) Q E s:=by
 ext ŀ;have fin:∀ (as:É2) (oe:Obj) (a0:À1),Ė e=↑oe->(∀ a∈as,a=e\/a∈ ā\/H a=↑(wU a))->
   ∀ h':Heap,Heap.gq (ł Ĺ as) (Î6) e oe.cls a0 oe.dict Ĺ h'->Þ:=λ as oe a0 g0 has h' x=>by
  let#[T,hp,oe',vs',oT,ts,a1,#[#[a2,a3],a4],a5,a6,a7,a8,a9,a10,a11]:=x.tr;let#[z1,z2]:=XJ I.zt hE g0;let#[u,zt]:=c6 (as:=as) I.zt (cz I) x.stays x.slots λ a ha=>by
   rcases has a ha with z | z | z
   .rw[z];show Ĥ
   .show č z
   .let#[#[oT,ts,q1,q2],_]:=I.zt a _ z;let#[o',ts',q3,q4]:=x.pz â _ q1 q2;show ş #[_,z,#[o',ts',q3,q4],o',q3]
  ext È3;show hq h' T n u' BW #[oe',vs',a0,T,oT,ts,a1,a5,a4,a6,a8,yy,a9,a10,a11]
 have Bw:∀ (r:É2),∀ env∈ Î6,∀ a,env.frame=↑a->a∈r++ā:=λ r env hm a ha=>Â0;rcases hf with ⟨oe,vs,a0,g0,g1,g2,g3⟩ | ⟨oe,vs,a0,T,oT,ts,g0,g1,g3,g2,g4,g5,g6,g7,g8⟩
 .exact U7 (base:=ł Ĺ ([e]++ā)) hF (Ŕ hS (Bw _)) AR g0 æ g1 g2 g3 Î7;ext ŷ
  .show č (AI.mp q)
  .show ş (č q)
 .exact U4 (base:=ł Ĺ (Î8)) hF (Ŕ hS (Bw _)) AR È æ Î7;ext ŷ
  .rcases Am.mp q with q | q
   .show č q
   .show ş (ş (by rw[AI.mp q];show g5))
  .show ş (č q)
end
section
variable {Ļ}{Ć}{Ë6}{À6}
def MX Ó Ñ (he:kT H e) (hf:o8 Ĺ H e) Ï:
  ħ M X.A (noteFrame À2 ç) (λ _ s₂=>ħ M X.A Ō Q E s₂) E s:=by
 ext ŀ;ext İ;have Bw:∀ env∈ Î6,∀ a,env.frame=↑a->a∈ Î8:=λ env hm a ha=>Â0;exact U3 (base:=ł Ĺ (Î8)) hF (Ŕ hS Bw) AR È æ λ h1 x=>?_;let#[T',hp,tr]:=x.tr;exact au (s:={ s with heap:=h1 }) x.stays x.frames tr λ h2 y1 y2 y3 y4 y5=>?_;let#[oe',vs',oT',ts',a1,#[#[a2,a3],a4],a5,a6,a7,a8,a9,a10,a11]:=y3;let#[z1,z2]:=XJ I.zt hE g0;let#[u,zt]:=c6 (as:=Î8) I.zt (cz I) y1 (x.slots.trans y4) λ a ha=>by
  ext ŷ
  .rcases Am.mp q with q | q
   .rw[q];show Ĥ
   .rw[AI.mp q];let#[o1,t1,b1,b2]:=x.pz â _ g6 g7;let#[o2,t2,b3,b4]:=y5 â _ b1 b2;show Á8
  .show č q
 ext È3;show hq h2 T' n u' BW #[oe',vs',a0,T',oT',ts',a1,a5,a4,a6,a8,yy,a9,a10,a11]
def Ka Ó (he:kT H e) (hf:o8 Ĺ H e) Ä8
  (hq:∀ h',Un (ā) [] H H Ĺ h'->yq X.prog X.w H h'->Þ):ħ M A Ō Q E s:=by
 let#[C,dx,hE]:=he;ext İ;have Bw:∀ env∈X.stack,∀ a,env.frame=↑a->a∈[T]++ā:=λ env hm a ha=>A2 _ (CQ.mpr #[env,hm,ha]);exact au (base:=ł Ĺ ([T]++ā)) È7 (Ŕ I.stack Bw) È λ h2 y1 y2 y3 y4 y5=>?_;let#[u,zt]:=c6 (as:=[T]++ā) I.zt (cz I) y1 y4 λ a ha=>by
  ext ŷ
  .rw[AI.mp q];let#[o2,t2,b3,b4]:=y5 â _ g6 g7;show Á8
  .show č q
 show hq h2 u zt
def JG Ä9{x:Str}{pos:Pos}Ä8 Ó (hN:X.N.Nodup) (hi:X.N[i]?=↑x) (hk:X.env.kindOf x=↑.local)
  (h:∀ s',Inv X EW (σ.set i none) H s'->Q Unit.unit s'):ħ M A (do bindName ç x Ľ;unbindBehindTheSuite ç x pos) Q E s:=by
 let#[m,hn,hl]:=id I.loc;have Bg:(X.env.scope.kind == .class||(X.env.scope.kind == .module&&X.env.locals != X.env.globals))=Í:=by rw[I.ok.kind];rfl
 have tV:=I.tV;let#[oL,_,_,hoL,_]:=id hn;exact wpAny_nameGoes_keeps hk hn Bg λ h' v hn' hs=>?_;exact h _ #[I.ok,I.os,I.bare,#[λ b o e n hb hx=>?_,λ b o e n hb hx=>?_,I.base.free,λ b o e hx=>?_,I.base.vW,I.base.uB,I.base.uN],#[_,hn',λ j y v' e1 e2 e3=>?_],λ y c e=>?_,I.free,I.vM,λ p hp=>?_,λ b ob e=>?_,by exists I.len]
 .show ę (I.base.keep b o e n hb hx)
 .let#[sl,e1]:=I.base.slot b o e n hb hx;show#[sl,ę e1]
 .let#[o',e1]:=I.base.there b o e hx;show#[o',ę e1]
 .by_cases hj:j=i
  .subst hj;rw[CN] at e2;simp at e2
  .rw[Er (Î5 hj)] at e2;let#[u',r',q]:=hl j y v' e1 e2 e3;exact#[u',r',?_];rcases q with ⟨k,e⟩ | ⟨k,c,e,z⟩
   .exact č #[k,?_];have:y≠x:=λ e=>hj (eX hN e1 (e▸hi));simp[this,e]
   .show ş #[k,c,e,z.sameBut hs (tV y c e)]
 .let#[w',z]:=I.cell y c e;show#[w',z.sameBut hs (tV y c e)]
 .let#[e,n,ne,nf,d]:=I.pin p hp;show#[(hs.2 p.1 ne).trans e,n,ne,nf,d]
 .exact (I.zt b ob e).uv (λ c w' hc q=>(hs.2 c ?_).trans q) (λ _ q=>q) î;rintro rfl;rcases hc with rfl | hc
  .rw[I.free] at e;cases e
  .rw[I.free] at hc;cases hc
end
abbrev zal:Ã:=["place","pair","way","times","told","name","row"]
def US:typeLookup (.type "ValueError") "__class__"=pure ↑(.builtin "object.__class__"):=by rw[typeLookup_type,builtinLookup_eq_fast];kernel_rfl
section
variable {ı}{É7}{Ś}{C P N NP:Addr}{bm:Ai}
def qL.at (o:qL K c C bm N) (X:K.In h):(∃ (q:Str) (bs:Ai) (sn:Ã) (sub:Ai) (ab:Bool) (col:Á Bool) (dd:Ą) (k0 k1 k2 k3 k5:Á À1),ĸ C=↑(excClassObj c q C N bs bm true sn sub ab col dd k0 k1 k2 k3 k5 "ValueError.__new__"))/\h.Ns N (h.nsMap N)/\∀ n∈jF,h.nsMap N n=none:=by
 let#[ŉ,ok,hn]:=o;show#[#[q,bs,sn,sub,ab,col,dd,k0,k1,k2,k3,k5,X â e],.of_isNs (PySem.W.isNs_of_in X ok),λ n m=>PySem.W.nsMap_none_of_in X ok (hn n m)]
theorem qQ.aw (e:ű) (X:K.In h):b9 h C P "ValueError" uG:=by
 let#[#[q,bs,sn,sub,ab,col,dd,k0,k1,k2,k3,k5,hC],hN,hn]:=e.own.at X;let#[ĳ,hN',hn']:=e.par.at X;exact#[PySem.F.attrBase_ValueError,(),US,c,q,N,bs,sn,sub,ab,col,dd,k0,k1,k2,k3,k5,_,_,_,hC,hN,#[#[_,_,_,_,hP,hN']],λ n m=>?_];have m':n∈jF:=by
  simp![Am,A6,or_false] at m ⊢;rcases m with m | m | m <;> simp[m]
 show#[hn n m',hn' n m']
end
def Fu (e C vs:Addr):HO:=.ext λ h=>ĸ e=↑{ cls:=Æ C,data:=ö [Æ vs,Ľ,Ľ,Ľ,.bool Í,Ľ].toArray }
section
variable {ë}{fs:É2}{Ð5}{É7}{Ë6}{φ ψ:Heap->Prop}
def UZ Ð4 (he:H e=↑(.ext φ)) (hψ:ψ h) (st:∀ h1 h2:Heap,ψ h1->(∀ o,h1.get? e=↑o->h2.get? e=↑o)->ψ h2):
  Un fs [] H (upd H e (.ext ψ)) h h/\yq P w (upd H e (.ext ψ)) h:=by
 have ue:∀ b,H b=none->b≠e:=λ b a z=>by rw[z,he] at a;cases a
 have us:∀ b u,H b=↑u->(∀ φ,u≠.ext φ)->upd H e (.ext ψ) b=↑u:=λ b u q n=>by
  rw[zP (ud q he (n _))];show q
 exact#[#[λ b o q n _ _=>q,λ b o q n _ _=>#[o.slots,q],λ b o q n _=>by rw[zP (ue b n)];show n,λ b o q _=>#[o,q],λ b xs q=>us b _ q ŕ,λ b o u q=>us b _ q ŕ,λ b ps q=>#[[].toArray,by rw[us b _ q ŕ];simp]],λ a o q=>?_];by_cases z:a=e
 .subst z;rw[yy] at q;cases q;show#[hψ,(zt a _ he).2.1,st]
 .rw[zP z] at q;show (zt a o q).uv (λ b u hb c=>c) (λ b c=>us b _ c ŕ) λ b xs c=>us b _ c ŕ
end
def XP (X:Cx) (EW:Ak) (fl:Bool) (σ:St) (Q:ù) (v:À1) (s':Î4):Prop:=
 ∃ e pins' σ' H',v=Æ e/\(fl=true->pins'=EW/\σ'=σ)/\Inv X pins' σ' H' s'/\kT H' e/\((fl=Í/\V5 s'.heap e)\/o8 s'.heap H' e)/\Q e H'
def GN ŗ (c f:Str) (x:V) Ê4 (H':Hp):Prop:=∃ C dx,qR K c C/\H' e=↑(vT e C dx)/\Xd H' f x dx
def Un.out {fs:É2}{L:Addr}{H H1 H2:Hp}{h h1 h2:Heap}(a:Un fs [] H H1 h h1) (b:Un (L::fs) [] H1 H2 h1 h2) (hL:ĸ L=none):Un fs [] H H2 h h2 where
 keep:=λ c o q n hc hx=>b.keep c o (a.keep c o q n hc hx) Æ7 (λ z=>(Am.mp z).elim (λ y=>by rw[y,hL] at q;cases q) hc) hx
 slot:=λ c o q n hc hx=>by
  let#[sl,e]:=a.slot c o q n hc hx;let#[sl',e']:=b.slot c _ e Æ7 (Ay _ hc) hx;show#[sl',e']
 free:=λ c o q n hx=>by
  let#[o',e]:=a.there c o q hx;show b.free c o' e Æ7 hx
 there:=λ c o q hx=>by
  let#[o',e]:=a.there c o q hx;show b.there c o' e hx
 vW:=λ c xs q=>b.vW c xs (a.vW c xs q)
 uB:=λ c o xs q=>b.uB c o xs (a.uB c o xs q)
 uN:=λ c ps q=>by
  let#[m1,e1]:=a.uN c ps q;let#[m2,e2]:=b.uN c _ e1;show#[m1++m2,by rw[e2,Et]]
def oM (P:Program) (w:World):uK:=λ Ŷ H s E v s'=>∃ e H',v=Æ e/\s'.os=s.os/\AllBare s'.gens/\Un (yY Ŷ) [] H H' Ĺ s'.heap/\yq P w H' s'.heap/\kT H' e/\o8 s'.heap H' e/\E v none H'
def xb.never ë ı{mg:Aq}Ð3{k:Nat}{f:Addr}{fd:È8}{ps:Ã}{sp:Sp}(F:xb Ē (oM P w) k f fd ps sp):
  xb Ē yM k f fd ps (λ vs H Q _=>sp vs H Q λ _ _ _=>False):=
 #[λ vs H Q E h=>F.len â â h,λ A Ŷ s H args us vs Q E hr he hb hv hs=>codeAny_mono (F.run A Ŷ s H args us vs Q _ hr he hb hv hs) λ r s' hq=>by
  cases r with
  | error e=>
   let#[_,_,_,_,_,_,_,_,_,z]:=hq;show z.elim
  | ok fl=>cases fl <;> show hq]
abbrev lG (X:Cx) Ê4:Cx:={ X with A:=X.A.mark ↑ À2,calm:=Í }
section
variable {Ļ}{EW:Ak}{σ σ':St}{H H':Hp}{s s':Î4}{Ë6}
def YY Ó Ê4:Inv (lG X e) EW σ H s:=
 #[#[I.ok.mod,I.ok.kind,I.ok.glob,I.ok.blt,I.ok.above,I.ok.inj,I.ok.has,I.ok.oh,nofun,I.ok.frames,I.ok.oX,I.ok.km,I.ok.bs,I.ok.sL,I.ok.p9,I.ok.pW,I.ok.ug,I.ok.rJ],I.os,I.bare,I.base,I.loc,I.cell,I.free,I.vM,I.pin,I.zt,I.len]
def Kx Ó (J:Inv (lG X e) EW σ' H' s'):Inv X EW σ' H' s':=Ď
def UJ Å6 À0{D:Ends}{Qx:ù}ě Ñ
  (hg:Gl X "PurseError") (hN:X.N.Nodup) (hi:X.N[i]?=↑n) Í2 (hj:X.N[j]?=↑c) Ĩ (A9:i≠j)
  à
  Ó (hb:ħ é (execs body ç) Î9 (XP X EW true σ Qx) s)
  (hx:∀ a H',Qx a H'->(∃ cn C dx,qR X.K cn C/\H' a=↑(vT a C dx))/\∀ T,H' T=none->D.nx (((σ.set i ↑ Ï0).set j ↑ Ï0).set i none) (upd H' ĺ)):
  ħ é (exec ð ç) Î9 X.xe s:=by
 exact wpAny_Try_except (za4 hb (λ f s₁ q=>?_) λ v s₁ #[a,pins',σ',H1,ev,es,I1,ie,fly,q]=>?_)
 .cases f with
  | next=>show zaI q
  | _=>show q
 subst ev;let#[rfl,rfl]:=es rfl;let#[#[cn,C,dx,#[P,N,NP,hE],hEo],q]:=hx a H1 q;have f1:=fly.resolve_left (λ z=>by cases z.1);exact MX I1 AD AR ie f1 λ h' T hT un zt f2=>?_;have I2:Inv X pins' σ' (upd H1 ĺ) { s₁ with heap:=h' }:=I1.call Ÿ un zt I1.bare (λ b z=>absurd z #[]);have hEo2:upd H1 ĺ a=↑(vT a C dx):=by rw[zP (wA hEo hT)];show hEo
 let#[#[qn,bs,sn,sub,ab,col,dd,k0,k1,k2,k3,k5,lk],_,_]:=id hE.own;let#[#[q',bs',sn',sub',ab',col',dd',l0,l1,l2,l3,l5,lp],_,_]:=id hE.par;have mP:X.mg "PurseError"=↑(Æ P):=È9 I.ok.mod.pL I.ok.mod.glob hE.ZD;have aoe:∃ oe,h'.get? a=↑oe/\Æ6:=by
  let#[#[oe,vs,z1,z2,_],_]:=I2.zt a _ hEo2;show#[oe,z1,z2]
 exact U6 (bm:=Æ P::uG) (bm':=uG) () (by rw[BK];simp) (lO (X:=lG X a) (YY I2 a) hg mP #[rfl,I2.yB â lk,I2.yB â lp,aoe,?_]);exact Ka I2 #[C,dx,hEo2] f2 λ h2 un2 hok2=>?_;have I3:Inv X pins' σ' (upd H1 ĺ) { s₁ with heap:=h2 }:=Inv.call (s:={ s₁ with heap:=h' }) Ÿ I2 un2 hok2 I1.bare (λ b z=>absurd z #[]);exact jq I3 hN hi (č Bw) (v:=Æ a) rfl (λ s4 I4=>?_) (ş Bw);have st:=ZE (ZF (X:=lG X a) (i:=j) (pos:=p4) (pos':=p2) hN hj Dg (pv (X:=lG X a) i (pos:=p3) hi (č Bw) BQ Dl) BH Dv);have hl:i < σ'.length:=by rw[I1.len];show (AQ.mp hi).1
 exact za4 (st pins' s4 â { nx:=fun σ2 H2=>σ2=(σ'.set i ↑ Ï0).set j ↑ Ï0/\H2=upd H1 ĺ,rt:=ý } (YY I4 a) #[Æ a,by rw[Es hl],rfl,rfl]) (λ fl s5 q5=>?_) Ŋ;cases fl with
 | next=>
  let#[σ5,H5,I5,rfl,rfl]:=q5;show JG (Kx I I5) hN hi Bw λ s6 I6=>#[_,_,I6,q T hT]
 | ret _=>let#[_,_,_,_,_,z]:=q5;show z.elim
 | _=>let#[_,_,_,z]:=q5;show z.elim
end
def uV:D->Bool
 | .err â _=>true
 | _=>Í
def tu ŗ (H:Hp) (R:VK) (Q:ù):DK:=λ d S'=>(uV d=Í->wF K H R d S')/\(Ï1->∀ a H',zf K H' d Ï0->Ext H H'->zK K H' S'->Q a H')
theorem tu.ext ı{H H':Hp}{R:VK}{Q:ù}(e:Ext H H') {d:D}š(h:tu K H R Q d S):tu K H' R Q d S:=#[λ z=>wF.ext e (h.1 z),λ z a H2 r x q=>h.2 z a H2 r (e.trans x) q]
def sH ŗ (H:Hp) (D:Ends) (Q:ù):rV:=#[x_ K H D.nx,tu K H D.rt Q,x_ K H D.bk,x_ K H D.ct]
theorem sH.ext ı{H H':Hp}{D:Ends}{Q:ù}(e:Ext H H'):(sH K H D Q).Le (sH K H' D Q):=#[Æ8,λ _ _ h=>tu.ext e h,Æ8,Æ8]
def mM ŗ (t:ye) (Q:ù):TS:=λ D σ H=>∃ Y S,yC K H Y σ/\zK K H S/\t (sH K H D Q) Y S
structure oq (X:Cx) (EW:Ak) (σ:St) (fl:Bool) (Q:ù) (W:Aj):Prop where
 xp:∀ v s',XP X EW fl σ Q v s'->W v s'
 own:fl=Í->PassesOwn é ç W
def oq.any Ļ{EW pins':Ak}{σ σ':St}{Q:ù}{W:Aj}(h:oq Ç3 Í Q W):oq X pins' σ' Í Q W:=
 #[λ v s' #[e,p,q,H',h1,_,h3]=>h.xp v s' #[e,p,q,H',h1,nofun,h3],h.own]
structure rO (X:Cx) (fl:Bool) (st:Stmt) (t:ye):Prop where
 mo:tF t
 px:∀ EW s σ H D Q W,oq Ç3 fl Q W->Inv Ç3 H s->mM X.K t Q D σ H->ħ é (exec st ç) Î9 W s
structure tD (X:Cx) (fl:Bool) (sts:È5) (t:ye):Prop where
 mo:tF t
 px:∀ EW s σ H D Q W,oq Ç3 fl Q W->Inv Ç3 H s->mM X.K t Q D σ H->ħ é (execs sts ç) Î9 W s
section
variable {Ļ}{fl:Bool}{st:Stmt}{EX:È5}{t u:ye}{pos:Pos}{e:Expr}{te:zw}
def Qz (h:xN X st t) (ht:∀ E Y S,t E Y S->t { E with rt:=ý } Y S) ě:rO X fl st t:=by
 exact#[h.mo,λ EW s σ H D Q W hW I ä=>za4 (h.ps Ŝ D I #[Y,S,r1,r2,h.mo { sH X.K H D Q with rt:=ý } _ Y S #[î,Ų,î,î] (ht _ Y S z)]) (î) Ŋ]
def Q0:tD X fl [] cP:=#[λ _ _ _ _ hE h=>hE.nx â h,λ EW s σ H D Q W hW I ä=>zaI #[σ,H,I,z σ H r1 (.refl H) r2]]
def Qy (h:rO X fl st t):tD X fl [st] t:=#[h.mo,λ EW s σ H D Q W hW I hu=>by
 exact wpAny_execs_cons (zD (h.px Ŝ D Q W hW I hu) λ f s1 q=>?_);cases f with
 | next=>show zaI q
 | ret v=>show q
 | brk=>show q
 | cont=>show q]
def Q4 (h:rO X Í st t) (h':tD X Í EX u):tD X Í (st::EX) (pY t u):=#[pY.mo h.mo h'.mo,λ EW s σ H D Q W hW I ä=>by
 exact wpAny_execs_cons (zD (h.px Ŝ { D with nx:=mM X.K u Q D } Q W hW I #[Y,S,r1,r2,h.mo { sH X.K H D Q with nx:=u (sH X.K H D Q) } _ Y S #[fun Y' S' q σ' H' q1 q2 q3=>#[Y',S',q1,q3,h'.mo â Y' S' (sH.ext q2) q],î,î,î] z]) λ f s1 q=>?_);cases f with
 | next=>
  let#[σ',H',I',q]:=q;show h'.px EW s1 σ' H' D Q W hW.any I' q
 | ret v=>show q
 | brk=>show q
 | cont=>show q]
def Q3 {c:Expr}{p q:È5}{tc:yx}(hc:xu X c tc) (h:tD X fl p t) (h':tD X fl q u) ě:rO X fl (.If c p q pos) (kB tc t u):=by
 exact#[λ E E' Y S hE z=>hc.mo Y S â (λ k S1 z=>vf (h.mo â Y S1 hE) (h'.mo â Y S1 hE) z) z,Ũ];exact wpAny_If (za4 (hc.pt Ŝ (λ k H1=>if k=true then mM X.K t Q D σ H1 else mM X.K u Q D σ H1) I (wI.go hc.mo r1 r2 z λ k S1 H1 h1 e1 p1=>vf (λ z=>?_) (λ z=>?_) h1)) (λ k s1 #[H1,I1,q1]=>?_) Ŋ)
 .show#[Y,S1,r1.ext e1,p1,h.mo â Y S1 (sH.ext e1) z]
 .show#[Y,S1,r1.ext e1,p1,h'.mo â Y S1 (sH.ext e1) z]
 .cases k with
  | true=>show h.px EW s1 σ H1 D Q W hW I1 q1
  | Í=>show h'.px EW s1 σ H1 D Q W hW I1 q1
def We (te:zw):ye:=λ E Y S=>te Y S λ d S1=>uV d=Í/\E.rt d S1
def Qv Æ4 ě:rO X fl (.Return ↑e pos) (We te):=by
 exact#[λ E E' Y S hE z=>he.mo Y S â (λ _ _ q=>#[q.1,hE.rt â q.2]) z,Ũ];show wpAny_Return_some (za4 (he.pe Ŝ D.rt I (zL.go he.mo r1 r2 z λ x S1 v H1 h1 q1 e1 p1=>h1.2.1 h1.1 v H1 q1 e1 p1)) (λ v s1 #[x,H1,I1,r1,q1]=>#[x,σ,H1,I1,r1,q1]) Ŋ)
def Ext.same {H H':Hp}(e:bE H H'):Ext H H':=#[λ b xs q=>e â q,λ b o u q=>e â q,λ b u q=>e â q,λ b u q=>e â q]
def Wf (c f:Str) (te:zw):ye:=λ E Y S=>te Y S λ d S1=>E.rt (.err c f d) S1
end
def mO ŗ (sp:yZ):Sp:=λ vs H Q E=>∃ ds S,zo K H ds vs/\zK K H S/\sp ds S (tu K H Q λ a H'=>E Ï0 none H')
structure VQ Ĉ (x:Str) Ã3:Prop where
 ex:∃ (f:Addr) (fd:È8),xb Ē (oM P w) k f fd ps (mO K sp)/\mg x=↑(Æ f)/\Ì8/\Ì5
 mo:tG sp
def jE (sp:yZ):yZ:=λ ds S Q=>sp ds S λ d S'=>uV d=Í/\Q d S'
def jE.mo {sp:yZ}(h:tG sp):tG (jE sp):=λ ds S Q Q' hq z=>h ds S â (λ d S' q=>#[q.1,hq â q.2]) z
section
variable {Ļ}{x:Str}{k:Nat}{ps:Ã}{sp:yZ}
variable (F:VQ ĉ x k ps sp)
include F
end
section
variable {ë}{ı}{mg:Aq}{Ð3}
def fnX {x qual:Str}{st:Stmt}{f:Addr}{fd:È8}{N ps:Ã}{k:Nat}{sp:yZ}(F:vS K x qual st f fd) Å8 (len:∀ ds S Q,sp ds S Q->É0=ps.length)
  (EY:∀ ã,ê->
   ∃ t,tD (xg Ź H E).xA Í (yN st) t/\∀ ds S Q,sp ds S Q->Â3):
  xb Ē (oM P w) (k+1) f fd ps (mO K sp):=by
 let#[oc,od,kV,doc,pm,an,Af,ct,osl,rfl,lk,Bz]:=F.ex;exact Xy lk Bz Sc (λ vs H Q E #[ds,S,r1,_,z]=>by rw[<- r1.length];show len â _ z) λ A Ŷ s H vs Q E hr B7=>#[λ D σ H'=>D={ nx:=λ _ H'=>Q .zj H',rt:=Q }/\σ=start N vs/\H'=H,λ EW s1 σ H' D I #[e1,e2,e3]=>?_,rfl,rfl,rfl];subst e1 e2 e3;let#[t,hp,ht]:=EY Af A Ŷ s H' E hr;let#[ds,S,r1,r2,z]:=B7;have cv:∀ {EW:Ak}{σ':St}{H'':Hp}{s':Î4},Inv (xg Ź H' E).xA EW σ' H'' s'->Inv (xg (oM P w) Ŵ H' E) EW σ' H'' s':=λ J=>
  Ď
 have ok0:(xg Ź H' E).xA.Ok:=#[I.ok.mod,I.ok.kind,I.ok.glob,I.ok.blt,I.ok.above,I.ok.inj,I.ok.has,I.ok.oh,I.ok.hd,I.ok.frames,I.ok.oX,I.ok.km,I.ok.bs,I.ok.sL,I.ok.p9,I.ok.pW,I.ok.ug,I.ok.rJ];have I0:Inv (xg Ź H' E).xA EW (start N vs) H' s1:=#[ok0,I.os,I.bare,I.base,I.loc,I.cell,I.free,I.vM,I.pin,I.zt,I.len];exact za4 (hp.px EW s1 (start N vs) H' { nx:=λ _ H'=>Q .zj H',rt:=Q } (λ e H2=>∀ T,H2 T=none->E À2 none (upd H2 ĺ)) (xg (oM P w) Ŵ H' E).xe #[λ v s' #[e,pins',σ',H2,ev,_,J,ie,hf,q]=>?_,λ _=>PassesOwn.leaving] I0
  #[vE N ds,S,yC.init r1,r2,hp.mo { nx:=λ _ S'=>tu K H' Q (λ a H2=>E Ï0 none H2) .zj S',rt:=tu K H' Q λ a H2=>E Ï0 none H2 } â S #[fun Y S' q σ2 H2 a1 a2 a3=>q.1 rfl .zj H2 (ñ) a2 a3,λ d S' q=>#[q.1,λ y a H2 a1 a2 a3 T hT=>?_],Ų,Ų] (ht ds S _ z)]) (λ fl s' q=>?_) λ _ _ z=>z
 .subst ev;have J':=cv J;exact LM J' rfl rfl ie (hf.imp And.right id) λ h' T hT un zt f1=>?_;let#[C,dx,hE]:=ie;show#[e,_,rfl,J'.os,J'.bare,Un.out J'.base un (zaO (An _)),zt,#[C,dx,by rw[zP (wA hE hT)];show hE],f1,q T hT]
 .have xT:Ext H2 (upd H2 ĺ):=.new hT _;show q.2 y a _ (zf.ext xT d a1) Ř
 .cases fl with
  | ret u=>let#[v,σ',H',J,r,q]:=q;show#[v,σ',H',cv J,r,q]
  | _=>let#[σ',H',J,q]:=q;show#[σ',H',cv J,q]
end
def yC.hole ı Ð5{Y:yc}{σ:St}ř (r:yC K H Y σ):yC K H (Y.set i none) (σ.set i none):=by
 exact#[by rw[CA,CA];show r.1,λ j c hc=>?_];rw[CN] at hc ⊢;by_cases hj:i=j
 .subst hj;rw[Ę rfl] at hc;split at hc <;> cases hc
 .rw[if_neg hj] at hc ⊢;show r.2 j c hc
def cO É8 (t:ye):ye:=λ E Y S=>t Á5 Y S
def QN Ļ{t:ye}É8 À0(hN:X.N.Nodup) (hb:tD X true body t) (A9:i≠j) (hi:X.N[i]?=↑n) (hj:X.N[j]?=↑c)
  (hg:Gl X "PurseError") Í2 Ĩ
  à
  Ñ ě:
  xN X ð (cO i j t):=by
 exact#[λ E E' Y S hE z=>hb.mo Á5 #[E'.nx,λ d S'=>Ï1/\E'.nx Ò,ý,ý] Y S #[hE.nx,λ d S' q=>#[q.1,hE.nx â q.2],î,î] z,λ EW s σ H D I ä=>?_];exact UJ (Qx:=λ a H'=>∃ d S',Ï1/\zf X.K H' d Ï0/\Ext H H'/\zK X.K H' S'/\Ï2 Ò) hn AD AR hg hN hi Bw hj Dg Dv A9 BQ Dl BH I
  (hb.px Ŝ D â #[î,nofun] I #[Y,S,r1,r2,hb.mo #[Ï2,λ d S'=>Ï1/\Ï2 Ò,ý,ý] _ Y S #[î,λ d S' q=>#[λ y=>?_,λ y a H' a1 a2 a3=>#[d,S',y,a1,a2,a3,q.2]],Ų,Ų] z]) λ a H' #[d,S',hd,a1,a2,a3,q]=>#[?_,λ T hT=>?_]
 .rw[q.1] at y;cases y
 .cases d with
  | err cn f x=>
   simp![zf] at a1;let#[e,C,dx,w,e1,#[h1,h2,h3],_]:=a1;cases e1;show#[cn,C,dx,h1,h2]
  | _=>cases hd
 .have xT:Ext H' (upd H' ĺ):=.new hT _;have rd:=zf.ext xT d a1;show q â ((((r1.ext (a2.trans xT)).set i rd).set j rd).hole i) Ř
end L3
namespace L5
open Œ í L2 L3
open Ú hiding St
def xK:T->Bool
 | .err â _=>true
 | _=>Í
@[simp] theorem zai (c f:Str) (t:T):xK (.err c f t)=true:=rfl
@[simp] theorem zaf:xK .zj=Í:=rfl
@[simp] theorem zak (b:Bool):xK (.bl b)=Í:=rfl
@[simp] theorem zah (b:Int):xK (þ b)=Í:=rfl
@[simp] theorem zae (b:Str):xK (.str b)=Í:=rfl
@[simp] theorem zad (b:Ņ):xK (.tup b)=Í:=rfl
@[simp] theorem zag (b:Ņ):xK (.lst b)=Í:=rfl
@[simp] theorem zaj:xK .xl=Í:=rfl
def ph š{y:T}{d:D}(h:Sn S y d):uV d=xK y:=by
 cases y with
 | tup _=>ext Å9
 | lst _=>
  simp![Sn] at h;obtain⟨_,h | ⟨_,h,_⟩,_⟩:=h
  .rw[h.1];rfl
  .subst h;rfl
 | xl=>simp![Sn] at h;let#[_,_,#[h,_],_]:=h;subst h;rfl
 | err _ _ _=>ext Å9
 | _=>simp![Sn] at h;subst h;rfl
@[simp] def noE (F:Ap):Ap:=λ ys=>(F ys).bind λ y=>if xK y=true then none else ↑y
section
variable {h:Sm}{t:ye}{S0 S:SS}{Z0 Z:Đ}{Y:yc}{ē}
def FR.hole (h:ŋ) ř (v:Á D):FR S0 Z0 S Z (Y.set i v) (J.set i none):=by
 exact#[#[h.er.zd,λ j t e=>?_,λ j ts e=>?_],by simp[h.len],h.sx,h.z0,h.zz,h.zn,λ j ts p e e'=>?_,λ j k ts us p n e1 e2 e3 e4=>?_]
 .ext Ğ
  .cases e
  .rw[xM n];show h.er.im j t e
 .ext Ğ
  .cases e
  .rw[xM n];show h.er.ow j ts e
 .ext Ğ
  .cases e
  .rw[xM n] at e';show h.fr j ts p e e'
 .rcases yE e1 with ⟨rfl,hl,e⟩ | ⟨n1,e1⟩
  .cases e
  rcases yE e2 with ⟨rfl,hl,e⟩ | ⟨n2,e2⟩
  .cases e
  rw[xM n1] at e3;rw[xM n2] at e4;show h.dj j k ts us p n e1 e2 e3 e4
end
end L5
namespace L3
open Œ í L2
open Ú hiding St
structure bG ŗ (cn:Str) (D:Addr):Prop where
 top:Ż K Ï3 cn=↑↑(Æ D)
 own:∃ bm N,qL K cn D bm N
def Lj (o:Obj):Á Str:=match o.data with
 | .cls cd=>↑cd.name
 | _=>none
def qL.nm ı Ś{C N:Addr}{bm:Ai}(h:qL K c C bm N):(K.lookup C).bind Lj=↑c:=by
 let#[ŉ,_]:=h;rw[e];rfl
def Kv ı{c cn:Str}{C P N NP D:Addr}(E:ű) (G:bG K cn D):Ê2=(Ī):=by
 let#[bm,N',g]:=G.own;by_cases h1:cn=c
 .subst h1;have:=G.top.symm.trans E.top;cases this;simp
 .by_cases h2:cn="PurseError"
  .subst h2;have:=G.top.symm.trans E.ZD;cases this;simp
  .have d1:D≠C:=λ z=>by
    subst z;have:=g.nm.symm.trans E.own.nm;cases this;show h1 rfl
   have d2:D≠P:=λ z=>by
    subst z;have:=g.nm.symm.trans E.par.nm;cases this;show h2 rfl
   have b1:(ø D == ø C)=Í:=by exists d1
   have b2:(ø D == ø P)=Í:=by exists d2
   rw[BK,BK,b1,b2,za2 h1,za2 h2];rfl
inductive gz ŗ Å0:V->Bool->Prop where
 | own {cn:Str}{D:Addr}(g:bG K cn D):gz K c (Æ D) (Ī)
 | val:gz K c (.ty "ValueError") true
theorem HQ Ļ:yL X (.builtin "isinstance") (λ xs H Q=>∃ e C dx c k b,xs=[Æ e,k]/\È6/\qR X.K c C/\gz X.K c k b/\Q (.bl b) H):=by
 intro EW s σ H xs us Q I r h;let#[e,C,dx,c,k,b,rfl,h1,#[P,N,NP,h2],h3,q]:=h;cases r with
 | cons ra rb=>
 cases rb with
 | cons rb rc=>
 cases rc;rename_i u1 u2;obtain rfl:u1=ø e:=ra;let#[hh,g,d,t,os]:=s;let#[#[oe,vs,he,hc,EU,D0],_]:=I.zt e _ h1;cases h3 with
 | @own cn D G=>
  obtain rfl:u2=ø D:=rb;let#[bm,N',o]:=id G.own;let#[#[q1,bs,sn,sub,ab,col,dd,k0,k1,k2,k3,k5,hD],_]:=o.at I.yB;exact ax (b:=Ê2) (λ prog w A Q' E hq=>UC (h2.aw I.yB) he hc hD rfl rfl hq) λ t'=>#[.bl _,H,I.tok t',rfl,?_];rw[Kv h2 G];show q
 | val=>
  obtain rfl:u2=Value.type "ValueError":=rb;show ax (b:=true) (λ prog w A Q' E hq=>UB (T:="ValueError") (h2.aw I.yB) he hc (by kernel_rfl) hq) λ t'=>#[.bl _,H,I.tok t',rfl,q]
def cQ (k:Str->Bool) (te:zw):zw:=fun Y S Q=>te Y S λ x S1=>match x with
 | .err c â=>Q (.bl (k c)) S1
 | _=>False
section
variable {Ļ}{Í3}
def Ol {cn:Str}{V0:V}{k:Str->Bool}(hk:∀ c,gz X.K c V0 (k c)) (hp:PE X (ō cn q) (tC V0)) (T:Bt X.mg) Æ4 Ā:
  PD X Á9 (cQ k te):=by
 exact#[fun Y S Q Q' hq z=>he.mo Y S â (λ y S1 z=>?_) z,PE.imp (uQ HQ hg T.isinstance boot_isinstance (rl he.pe (rl hp p8 h3) h1) () () h1 h2) Ì6]
 .split at z
  .show hq â z
  .show z.elim
 .ext Ž;cases x with
  | err c f d=>
   simp![zf] at q1;let#[a,C,dx,w,rfl,#[hE,h2,h3],_]:=q1;show#[a,C,dx,c,V0,k c,rfl,h2,hE,hk c,h1 _ H1 (ñ) e1 p1]
  | _=>show h1.elim
end
end L3
namespace L5
open Œ í L2 L3
open Ú hiding St
@[simp] def dN (k:Str->Bool) (g:Ad):Ad:=fun J=>Ě λ x=>match x with
 | .err c â=>↑(.bl (k c))
 | _=>none
def My {k:Str->Bool}{g:Ad}{te:zw}(hf:yD g te):xI (dN k g) (cQ k te):=λ S Z Y J y Q hE e hq=>by
 let#[x,e1,e2]:=ż;exact hf õ x _ hE e1 λ d S1 s1 r1=>?_;split at e2
 .cases e2;let#[d',rfl,_]:=Vw.err r1;show hq _ S1 s1 (Cl.of (λ _=>nofun) vp)
 .cases e2
end L5
namespace L3
open Œ í L2
open Ú hiding St
def Ec ŗ Å0:Prop:=∃ C P N NP,ű
def Ec.i ı Ś{C P:Addr}Ä:Ec K c:=#[C,P,_,_,XI h]
def Og ŗ (mg:Aq) (cn:Str):Prop:=∃ D,bG K cn D/\mg cn=↑(Æ D)
section
variable {ı}{mg:Aq}{É7}{Ś}
def Ec.mk (H:Ec K c) Ň:Og K mg c:=by
 let#[C,P,N,NP,e]:=H;show#[C,#[e.top,_,_,e.own],È9 X G e.top]
end
def dM (cn:Str) Å0:Bool:=Ī
section
variable {Ļ}{Í3}
def Oj {cn:Str}(O:Og X.K X.mg cn) (T:Bt X.mg) Æ4 (hd:(cn == ċ)=Í) (hg2:Gl X cn) Ā:
  PD X Á9 (cQ (dM cn) te):=by
 let#[D,o,hm]:=O;show Ol (V0:=Æ D) (λ c=>ÿ o) (ZN hg2 hm rfl hd) T he hg h1 h2 h3
end
end L3
namespace L2
open Œ í Ú
def gu ň:It:=#[λ i _=>i<n,λ i H x H'=>H'=H/\x=þ (lo+i*c),λ i _=>n<=i]
def Tg ë ı{tg:Expr}(it:Addr) ň:Turn P w K tg (gu lo c n) [it] it (λ i h=>IsRangeIter h it (lo+(i:Nat)*c) ((n:Int)-(i:Nat)) c) where
 mem:=#[]
 obj:=λ i h st b hb=>by
  have e:b=it:=by exists hb
  subst e;show#[_,st,λ v z=>by
   have z':Data.fields _=Data.cell v:=z;cases z']
 keep:=λ i h h' st k=>k it #[] _ st
 item:=by
  ext ą;have W:=Walks.range (prog:=X.prog) (w:=X.w) Ë9 it lo c n;exact W.item i s â hg st λ v h' tk hv E_ kk=>?_;let#[t,rfl]:=hv;have I1:Inv Ç3 H { s with heap:=h',toks:=tk }:=I.turned (λ b o hb e=>kk b o (by exists hb) e) f0 f1 f3 f4 f5;show#[_,rfl,ik (s:={ s with heap:=h',toks:=tk }) (n:="range_iterator") E_ rfl rfl () #[þ (lo+i*c),H,I1,#[t,rfl],Ä3,E_,λ b hb=>(hf b hb).1]]
 done:=by
  ext ą;show wpAny_pyNext_range_end Ë9 st (by have:n<=i:=hg;lia) λ h' eb=>#[rfl,I.turned (t':=s.toks) (λ b o hb e=>eb b o hb e) f0 f1 f3 f4 f5]
 self:=λ _ _ _ _ _ st h=>wpAny_pyIter_rangeiter st h
def tL (i j c:Int):Nat:=if i<j then ((j-i-1)/c+1).toNat else 0
theorem Yw {i j c:Int}(hc:0<c):((tL i j c:Nat):Int)=Ù i j c:=by
 unfold tL Ù;rw[Ę hc];split
 .rename_i h;have:0<=(j-i-1)/c:=Int.ediv_nonneg ⋯ ⋯;lia
 .rfl
theorem So {a b c:Int}(ha:-(2 ^ 31)<=a) (ha':a<2 ^ 31) (hb:-(2 ^ 31)<=b) (hb':b<2 ^ 31) (hc:0<c) (hc':c<1000000):Builtin.Range.small a b c=true:=by
 have e:=Yw (i:=a) (j:=b) hc;have h1:(b-a-1)/c<=(b-a-1)\/¬ a<b:=by
  by_cases h:a<b
  .show č (Int.ediv_le_self _ ⋯)
  .show ş h
 have h2:0<=Ù a b c/\Ù a b c<=2 ^ 33:=by
  exact#[⋯,?_];unfold Ù;rw[Ę hc];split <;> lia
 have h3:Ù a b c*c<=2 ^ 33*1000000:=by
  exact Int.le_trans (Ef h2.2 ⋯) ?_;show Int.mul_le_mul_of_nonneg_left ⋯ ()
 have h4:0<=Ù a b c*c:=Cj h2.1 ⋯;unfold Builtin.Range.small;simp![Builtin.Range.rangeFitsLong,BN,DB,decide_eq_true_eq,beq_iff_eq,hc,if_true];lia
section
variable {Ļ}{tg:Expr}
def SX Ć{R:It->Hp->Prop}{E:Aj}{lo hi c:Int}{t u v:Tok}{tk:Nat}Ó (h1:-(2 ^ 31)<=lo) (h2:lo<2 ^ 31) (h3:-(2 ^ 31)<=hi) (h4:hi<2 ^ 31) (h5:0<c) (h6:c<1000000)
  (q:R (gu lo c (tL lo hi c)) H):ħ é (pyIter (Æ Ã6)) (bF Ç3 tg R) E { s with heap:=Â,toks:=tk }:=by
 exact wpAny_pyIter_range (IsRange.new ..) (So h1 h2 h3 h4 h5 h6) ?_;have I1:Inv Ç3 H { s with heap:=Â,toks:=tk }:=I.kept λ b o e=>tp _ e;exact#[(Â).objs.size,[(Â).objs.size],_,_,H,rfl,
  I1.kept (t':=tk) λ b o e=>tp _ e,Tg _ lo c (tL lo hi c),?_,λ b hb=>?_,q]
 .have e1:lo+((0:Nat):Int)*c=lo:=#[];have e2:Æ1=Ù lo hi c:=by rw[Yw h5];simp
  change IsRangeIter â (lo+((0:Nat):Int)*c) (Æ1) c;rw[e1,e2];show AJ _ rfl
 .have e:b=(Â).objs.size:=by exists hb
  subst e;show I1.kf (An _) (I1.zt.fresh (An _))
def KD (ta:TA):TI:=fun σ H R=>ta σ H λ vs H1=>∃ i j c:Int,vs=Å5/\ũ/\R (gu i c (tL i j c)) H1
theorem RG {a b c:Expr}{ta:TA}{p pos:Pos}(hg:Gl X "range") (hm:X.mg "range"=none) (ha:PA X Ã0 ta) (hs:Ġ:=by rfl) (hs2:Ţ:=by rfl):
  PI Ë2 (KD ta):=by
 intro EW s σ H R I h;exact Call_ (pJ I hg hm boot_range (PyProof.Rows.callWith_type1 (zD (ha pos Ŝ _ I h) λ us s1 #[vs,H1,I1,r1,q1]=>?_) (by rw[hs,hs2]) (by rw[hs2];rfl)));let#[i,j,c,e,#[q1,q2,q3,q4,q5,q6],q]:=q1;subst e;cases r1 with
 | cons r rr=>
  cases rr with
  | cons r' rr=>
   cases rr with
   | cons r2 rr=>
    cases rr;let#[t,rfl]:=r;let#[t',rfl]:=r';let#[t2,rfl]:=r2;show call_range_3 ⋯ (SX I1 q1 q2 q3 q4 q5 q6 q) (č (PyProof.noPylong_small ⋯))
end
end L2
namespace L3
open Œ í L2
open Ú hiding St
section
variable {Ļ}{ı}{tg e a b c:Expr}{Ê5}
def rf ň:List D:=(Ì0).map λ(k:Nat)=>D.int (lo+(k:Int)*c)
def Rc {lo c:Int}{n i:Nat}{d:D}(h:(Ï4)[i]?=↑d):i<n/\d=þ (lo+(i:Int)*c):=by
 unfold rf at h;rw[AG] at h;cases q:(Ì0)[i]? with
 | none=>ext Ê7
 | some k=>
  rw[q] at h;let#[h1,h2]:=AQ.mp q;rw[Cs] at h1;rw[DP] at h2;subst h2;cases h;show#[h1,rfl]
def kS.S_ {H1:Hp}{lo c:Int}{n:Nat}:kS K H1 (gu lo c n) #[Ï4,λ _=>True]:=λ i H S _ x2 _=>by
 exact#[λ d hd=>?_,λ hl=>by rw[show (mH.mk (Ï4) λ _=>True).items=Ï4 from rfl] at hl;unfold rf at hl;rw[AM,Cs] at hl;show hl];let#[h1,rfl]:=Rc hd;exact#[h1,λ x H' q=>?_];let#[rfl,rfl]:=q;show#[.refl _,x2,ñ]
def YM (t:zY):wV:=fun Y S R=>t Y S λ ds S1=>match ds with
 | Å5=>ũ/\R #[rf i c (tL i j c),λ _=>True] S1
 | _=>False
def zo.three Ð5{d d' d2:D}{xs:List V}(h:zo K H [d,d',d2] xs):∃ x y z,xs=[x,y,z]/\zf K H d x/\zf K H d' y/\zf K H d2 z:=by
 simp![zo] at h;let#[x,r,rfl,h1,y,r',rfl,h2,z,r2,rfl,h3,rfl]:=h;show#[x,y,z,rfl,h1,h2,h3]
def Pb (hm:X.mg "range"=none) (ha:yS X Ã0 tA) (hg:Gl X "range") (hs:Ġ) (hs2:Ţ):tE Ë2 (YM tA):=by
 exact#[fun Y S Q Q' hq z=>ha.mo Y S â (λ ds S1 z=>?_) z,PI.imp (RG hg hm ha.pa hs hs2) fun σ H R hu=>?_]
 .split at z
  .show#[z.1,hq â z.2]
  .show z.elim
 .ext Ý;exact wq.go ha.mo r1 r2 z λ ds S1 xs H1 h1 q1 e1 p1=>?_;split at h1
  .let#[x,y,w,rfl,q,q',q2]:=q1.three;simp![zf] at q q' q2;subst q q' q2;show#[_,_,_,rfl,h1.1,h1.2 _ H1 e1 p1 .S_]
  .show h1.elim
def sE:xF:=λ ds S Q=>match ds with
 | [þ i]=>Q Ã1 S
 | _=>False
def sE.mo:vQ sE:=λ ds S Q Q' hq h=>by
 unfold sE at h ⊢;split at h
 .show hq â h
 .show h.elim
def sE.fits:uJ K sE (λ xs H Q=>∃ i,xs=[þ i]/\Q Ã1 H):=λ xs ds H S Q h0 h2 h=>by
 unfold sE at h;split at h
 .let#[x,rfl,h1]:=h0.one;simp![zf] at h1;subst h1;show#[_,rfl,h _ H (ñ) (.refl H) h2]
 .show h.elim
def OE (hm:X.mg "abs"=none) ŭ (hg:Gl X "abs") ŝ:PD X (.Call (ō "abs" p) Ë3) (xD sE tA):=
 uR (uQ HW hg hm boot_abs ha.pa () () he Ao) sE.mo sE.fits ha.mo
def oP (_ j:Int):Prop:=0<j/\j<2 ^ 200
def oO (i j:Int):Prop:=i.natAbs<2 ^ 200/\j.natAbs<2 ^ 200
instance (i j:Int):Decidable (oP i j):=by unfold oP;infer_instance
instance (i j:Int):Decidable (oO i j):=by unfold oO;infer_instance
def Y6 {n:Nat}(h:n<2 ^ 200):n.log2<200:=by
 rcases DJ n with h0 | hp
 .rw[h0];decide
 .show (Nat.log2_lt (Bp hp)).mpr h
def WQ {i:Int}(h:i.natAbs<2 ^ 200):Builtin.Int.intBits i<=2 ^ 20:=by
 have:=Y6 h;unfold Builtin.Int.intBits;split <;> lia
def OV:y9 X (binaryOp .FloorDiv) (rI Â4):=nA λ i j _ _ _ _ _ hc q=>by
 have h1:(0:Int)<j:=hc.1;have h2:j.natAbs<2 ^ 200:=by have:=hc.2;lia
 have h3:=Y6 h2;show floordiv_int ⋯ (by rw[Int.fdiv_eq_ediv_of_nonneg i ⋯];show q) (č (PyProof.noPylong_of_log2 ⋯))
def OO:y9 X (binaryOp .Mult) (rI Â5):=nA λ _ _ _ _ _ _ _ hc q=>mul_int q (PySem.IntMulOk.of_bits (WQ hc.1) (WQ hc.2))
variable {ta tb:zw}
def Ox Í4:PD X (.BinOp a .FloorDiv b pos) (yu (fI Â4) ta tb):=qj OV Í5
def PK Í4:PD X (.BinOp a .Mult b pos) (yu (fI Â5) ta tb):=qj OO Í5
end
end L3
namespace L5
open Œ í L2 L3
open Ú hiding St
structure Ua (mg:Aq):Prop extends Bq mg where
 abs:mg "abs"=none
@[simp] def h_:Ap
 | [þ i]=>↑ Ã1
 | _=>none
def JF:vR zJ h_ sE:=λ S Z ys z ds Q hz hv e hq=>by
 unfold h_ at e;split at e
 .cases e;let#[d,rfl,h1]:=vC hv;cases h1.int;show Ä4
 .cases e
@[simp] def pV:T->T->Á T:=qu Â4
@[simp] def lD:T->T->Á T:=qu Â5
def M3 Á1:xI (zb pV fa fb) (yu (fI Â4) ta tb):=Ã7
def Mt Á1:xI (zb lD fa fb) (yu (fI Â5) ta tb):=Ã7
def qt (j:Int):Bool:=decide (-1000000<=j)&&decide (j<1000000)
def j7 ň:Ņ:=(Ì0).map λ(k:Nat)=>T.int (lo+(k:Int)*c)
def Sj š ň:zk S (j7 lo c n) (Ï4):=by
 unfold j7 rf
 induction Ì0 with
 | nil=>show .nil
 | cons k l ih=>show .cons wx ih
def lb:Ņ->Á (Ņ)
 | Å5=>if (qt i=true/\qt j=true)/\qt c=true/\0<c then ↑(j7 i c (tL i j c)) else none
 | _=>none
def UR š{Z:Đ}{a b c:T}Ů(h:mf S Z Ã0 ds):∃ d d' d2,ds=[d,d',d2]/\Vw S Z a d/\Vw S Z b d'/\Vw S Z c d2:=by
 let#[d,cs,rfl,h1,d',cs2,rfl,h2,d2,cs3,rfl,h3,h4]:=h;cases h4;show#[d,d',d2,rfl,h1,h2,h3]
def NK Î1{g:Ê}{tA:zY}(h:qN g tA):rQ b (xU lb g) (YM tA):=λ S Z Y J ts Q hE e hq=>by
 let#[ys,e1,e2]:=ż;exact h õ ys _ hE É9;unfold lb at e2;split at e2
 .split at e2
  .rename_i hc;cases e2;let#[d,d',d2,rfl,h1,h2,h3]:=UR r1;cases h1.int;cases h2.int;cases h3.int;simp![qt,BN,decide_eq_true_eq] at hc;show#[#[⋯,⋯,⋯,⋯,⋯,⋯],hq _ S1 s1 (Sj â _) λ _ _=>trivial]
  .cases e2
 .cases e2
end L5
namespace L2
open Œ í Ú
def HG Ļ Ã9:yL X (.builtin "min") (λ xs H Q=>∃ (p:Addr) (a b:Int),xs=[Æ p]/\yk X.K H p É1/\Q (Č) H):=by
 intro EW s σ H xs us Q I r h;let#[p,a,b,rfl,hq,q]:=h;let#[u,rfl,rx]:=vals1 r;cases rx;let#[Ab,r',ht,hz]:=I.tuple hq;let#[v1,v2,rfl,#[t1,rfl],#[t2,rfl]]:=vals2 r';have ht:s.heap.IsTuple p Ä0:=ht;have Av:p<Ã6:=by let#[_,e,_]:=ht;show Ar e
 exact call_min_walk (zaP ht ?_);exact#[_,_,_,_,_,_,_,rfl,Walks.tuple (A:=X.A.in1) Ë9 Ã6 p (AF Av) Ä0,#[#[_,AJ _ rfl,rfl,rfl],ht.at λ o e=>tp _ e],λ c hc=>?_,Nat.succ_pos _,CmpOf.ints_lt (λ i=>if i=0 then a else b) (λ i v hv=>?_),λ v h' tk hP hk=>?_]
 .rw[Heap.size_push];simp![Am,A6,or_false] at hc;rcases hc with rfl | rfl
  .show B5 _
  .show B_ Av
 .match i,hv with
  | 0,hv=>cases hv;show#[t1,rfl]
  | 1,hv=>cases hv;show#[t2,rfl]
  | i+2,hv=>simp at hv
 .have keep:∀ c o,Ė c=↑o->h'.get? c=↑o:=λ c o e=>hk c o (λ m=>by
   rw[AI.mp m] at e;show B6 _ (Ar e)) (tp _ e)
  simp![argBest,AK,A1,DL] at hP;by_cases B0:b<a
  .have:v=þ b t2:=Ç9
   subst this;exact#[Č,H,I.kept keep,#[t2,by rw[Ę B0]],q]
  .have:v=þ a t1:=Ç9
   subst this;exact#[Č,H,I.kept keep,#[t1,by rw[if_neg B0]],q]
end L2
namespace L3
open Œ í L2
open Ú hiding St
section
variable {Ļ}{ı}{e:Expr}{tA:zY}{p pos:Pos}
def qx:xF:=λ ds S Q=>∃ a b,ds=[.tup É1]/\Q (Č) S
def qx.mo:vQ qx:=λ ds S Q Q' hq #[a,b,h1,h2]=>#[a,b,h1,hq â h2]
def qx.fits:uJ K qx (λ xs H Q=>∃ (p:Addr) (a b:Int),xs=[Æ p]/\yk K H p É1/\Q (Č) H):=λ xs ds H S Q h0 h2 h=>by
 let#[a,b,rfl,h]:=h;let#[x,rfl,r]:=h0.one;simp![zf] at r;let#[c,ys,rfl,r1,r2]:=r;rw[zo.ints (ns:=[a,b]) r2] at r1;show#[c,a,b,rfl,r1,h _ H (ñ) (.refl H) h2]
def PN (hm:X.mg "min"=none) (ha:yS X [e] tA) Ã9 (hg:Gl X "min") (he:AE X e []) (Ao:AL X pos []):PD X (.Call (ō "min" p) [e] À7) (xD qx tA):=
 uR (uQ (HG hc) hg hm boot_min ha.pa () () he Ao) qx.mo qx.fits ha.mo
end
end L3
namespace L5
open Œ í L2 L3
open Ú hiding St
@[simp] def dg:Ap
 | [.tup É1]=>↑(Č)
 | _=>none
def J4:vR zJ dg qx:=λ S Z ys z ds Q hz r e hq=>by
 unfold dg at e;split at e
 .cases e;let#[d,rfl,h1]:=vC r;let#[es,rfl,h2]:=h1.tup;simp![zk,Sn] at h2;let#[_,_,rfl,rfl,_,_,rfl,rfl,rfl]:=h2;show#[_,_,rfl,Ä4]
 .cases e
end L5
namespace Œ
section
variable {prog:Program}{w:World}{A:Around}{E:Aj}{É7}{g:Array GenState}{d:Drawn}{t:Nat}{os:OsState}
variable {nm q:Str}{C N:Addr}{bs bm E9:Ai}{Ĕ}{B newId initId:String}
def U9 ļ{Q:Fin->ĝ}
  ŵ
  (hq:∀ h' e,ĕ<=e->Ï5->Q (.done (.ret À2)) Ä1) Ð6:
  ħ œ A (Builtin.«type.__call__» #[Æ C::EX,[]]) Q E ģ:=by
 repeat (first | with_reducible exact za6 hC ?_ | with_reducible exact wpAny_madeBy_exc hC ?_ | wp_step)
 exact codeAny_call_builtin_code (Code.quiet_builtin _ F.quiet) (wpAny_check_new_subT F T hC ?_);exact codeAny_exc_new_subT F T hC ?_ hrest;change ħ â â â;have up:∀ b o,ĸ b=↑o->Ô b=↑o:=λ b o e=>tp _ (tp _ e);have hC₁:=up â hC;have CI:Ô (ĕ+1)=some
   { cls:=Æ C,data:=À9 }:=by heap_get
 have hcC:(ø C::bm).contains Į=true:=#[];unfold isInstance
 repeat (first | with_reducible exact za6 CI ?_ | (with_reducible exact zaF hC₁ ?_;rw[hcC]) | wp_step)
 change ħ â (typeLookup Į _) â _;exact wpAny_typeLookup_tail hC₁ (hn.keeps up) (T.keeps up) F.mroIs F.init.lookup ?_;rw[hi];exact za9 (gV (wpAny_of_eq (F.init.bind _) ?_));exact gV (wpAny_call (codeAny_call_builtin F.init.plain F.initEntry (wpAny_check_init_subT F (T.keeps up) hC₁ CI rfl ?_)))
 wp_walk
 rw[if_neg (show ¬ ([].append EX).toArray.size>sizeLine from Nat.not_lt_of_le hrest)]
 wp_walk
 exact hq â (C_ _) #[λ b o hb=>?_,zaO (C_ _),ĕ+2,?_,zaO ⋯,?_]
 .rw[za7 â (Bp (B_ (Ar hb)))];show tp _ (up â hb)
 .rw[za8 _ (tp _ CI) rfl];simp![Heap.size_push];rfl
 .rw[za7 â (show ĕ+1≠ ĕ+2 by lia)];show Heap.get?_push_at (by simp![Heap.size_push]) rfl
def UI ļ{Q:Aj}
  ŵ
  (hq:∀ h' e,ĕ<=e->Ï5->Q À2 Ä1) Ð6:
  ħ œ A (call Į EX) Q E ģ:=by
 have f1:=tc_lookup;have f2:=tc_bind Į;have hT:(ģ:Î4).TypeIs Į "type":=#[_,hC,rfl];exact wpAny_call (codeAny_of_tree ?_);change ħ â (callAny Į _) â _
 repeat (any_goals (first | assumption | with_reducible exact za6 hC ?_ | wp_step))
 exact#[rfl,?_];show codeAny_call_builtin_at (Code.quiet_builtin _ (AU)) entry_typeCall (wpAny_check_type_call_sub hC (U9 F T hC hn hi hq hrest))
end
end Œ
namespace L3
open Œ í L2
open Ú hiding St
def gy ŗ (mg:Aq) Å0:Prop:=∃ C P N NP,ű/\mg c=↑ Į/\Ä5
def Ez ŗ Å0:Prop:=∃ C P N NP,ű/\Ä5
def Ez.i ı Ś{C P:Addr}Ä (k:đ K Į=true) (n:Ż K c1.ns "__init__"=↑none):Ez K c:=#[C,P,_,_,XI h,k,n]
def Ez.mk ı{mg:Aq}É7 Ś(H:Ez K c) Ň:gy K mg c:=by
 let#[C,P,N,NP,e,k,n]:=H;show#[C,P,N,NP,e,È9 X G e.top,k,n]
def UK Ļ Ś{p pos rpos:Pos}Ć{Q:ù}{R:Flow->ĝ}
  (G:gy X.K X.mg c) Ã9 Ð7
  {W:Aj}(hW:∀ v s',XP X EW Í σ Q v s'->W v s') Ó (h:∀ a H',bE H H'->GN X.K c "" .zj a H'->Q a H'):
  ħ é (exec (.Raise ↑(.Call (ō c p) [] À7) none rpos) ç) R W s:=by
 let#[C,P,N,NP,hE,hm,hk,hi]:=G;let#[#[q,bs,sn,sub,ab,col,dd,k0,k1,k2,k3,k5,lk],_,_]:=id hE.own;rw[arm_exec_Raise];exact gV (wpAny_standAt (UA (C:=C) (nm:=c) (q:=q) (N:=N) (bs:=bs) (bm:=Æ P::uG) (hdct:=true) (sn:=sn) (sub:=sub) (ab:=ab) (col:=col) (dd:=dd) (k0:=k0) (k1:=k1) (k2:=k2) (k3:=k3) (k5:=k5) (newId:="ValueError.__new__")
  (by rw[BK,show uG.contains Â9=true from by decide,C8]) Ë9 (gV (za4 ?_ (λ v s₃ h₃=>gV (wpAny_standAt (Ae h₃))) λ _ _ x=>x))))
 exact zaL (lO I hg hm ?_ Bm);exact PySem.W.callWith_K0 I.yB hk ?_;let#[hh,g,d,t,os]:=s;have hC:=I.yB â lk;let#[_,hN,hnn]:=hE.own.at I.yB;let#[ĳ,hN',hn']:=hE.par.at I.yB;have T:OwnTail hh uG (Æ P::uG):=ÿ hP hN' (PySem.W.ns_none_of I.yB hN' hE.RA) .base;exact UI PySem.F.excBase_ValueError T hC hN (PySem.W.ns_none_of I.yB hN hi) (λ h' e hle M=>?_) ();let#[va,m1,m2,m3]:=M.there;have I2:Inv Ç3 (upd H e (Fu e C va)) Ä1:=I.laid (t':=t) M.keeps hle #[m1,#[_,m1],λ h1 h2 a b=>b _ a];have en:H e=none:=I.zt.fresh hle;let#[u3,eR]:=UZ (fs:=X.fs) (ψ:=λ h=>∃ oe vs,Ê9/\Æ6/\oe.dict=none/\È4) I2.zt yy #[_,_,m1,rfl,rfl,rfl] (λ h1 h2 #[oe,vs,a,b] k=>#[oe,vs,k _ a,b]);have I4:=I2.un (t':=t) u3 eR;exact#[e,none,va,_,rfl,I2.yB â lk,m1,hW â #[e,EW,σ,_,rfl,nofun,I4,#[C,none,yy],č #[rfl,_,_,_,m1,rfl,rfl,rfl],h e _ (λ b o z=>?_) #[C,none,#[P,N,NP,hE],yy,rfl,rfl]]];have b1:b≠e:=λ y=>by rw[y,en] at z;cases z
 rw[zP b1,zP b1];show z
def Qw Ļ Ś{p Ah pos:Pos}(G:gy X.K X.mg c) (hg:Gl X c) Ã9 (Bm:(c == ċ)=Í):
  rO X Í (.Raise ↑(.Call (ō c p) [] [] Ah) none pos) (Wf c "" (dC .zj)):=by
 exact#[λ E E' Y S hE z=>hE.rt â z,Ũ];exact UK G hc hg Bm hW.xp I λ a H' sm #[C,dx,hE,h2,h3]=>?_;exact z.2 rfl a H' ?_ (.same sm) (r2.same sm);simp![zf];show#[a,C,dx,.zj,rfl,#[hE,h2,h3],rfl]
end L3
namespace L3
open Œ í L2
open Ú hiding St
section
variable {Ļ}{e:Expr}{Ê5}
def u5 ř {x:Str}(hN:X.N[i]?=↑x:=by rfl) (hv:gf X.env.scope x:=by first | show Or.inl rfl | show Or.inr (Or.inl rfl) | show Or.inr (Or.inr rfl)) (hd:(x == ċ)=Í:=by decide) (Bz:(x == ("__classdict__":Str))=Í:=by decide):PD X (ō x pos) (zX i):=Pp i (pv i hN hv hd Bz)
def ZV {x:Str}{k k':Nat}{ps:Ã}{sp:yZ}(F:FD ĉ x k ps sp) (hr:ya k' X.A) ŭ (hk:k<=k') (hg:Gl X x) (Bm:(x == ċ)=Í)
  ŝ:PD X (.Call (ō x p) Ë3) (kE sp tA):=O6 F (hr.mono hk) ha hg Bm he Ao
end
def pS {N P:Ã}{sc:Scope}(h1:sc.kind=.function:=by rfl) (h2:sc.isCoroutine=Í:=by rfl) (h3:sc.isGenerator=Í:=by rfl) (h4:N.Nodup:=by decide +kernel) (h5:N.take P.length=P:=by rfl) (h6:∀ x∈P,sc.names.lookup x=↑.local\/sc.names.lookup x=↑.cell:=by decide +kernel) (h7:∀ y∈sc.names,y.2≠.free:=by decide +kernel):we N P sc:=#[h1,h2,h3,h4,h5,h6,h7]
def tK {α:Type}Ð8 (y:α):List (Str × α)->List (Str × α)
 | []=>[(f,y)]
 | (g,x)::r=>if g=f then (g,y)::r else (g,x)::tK f y r
def Kl ŗ Å0 (fl:Ã):Prop:=∃ C,sU K c C/\vU K C/\∀ f∈fl,o7 K C f
def sU.eq ı Ś{C D:Addr}(h1:sU K c C) (h2:sU K c D):C=D:=by
 have:=h1.symm.trans h2;cases this;rfl
section
variable {ı}{Ð5}
def uH.get Õ:∀ Ë4{d:D},Ū=↑d->∃ v,vs.lookup f=↑v/\zf K H d v:=by
 induction h with
 | nil=>intro f d e;cases e
 | cons r _ ih=>
  ext ő;intro f d e;rw[Bj] at e ⊢;dsimp only at e ⊢;cases q:f == g with
  | true=>ext Ë7;show#[v',rfl,r2]
  | Í=>rw[q] at e;show ih e
def uH.put Õ Ë4{d:D}{v:V}(r:zf K H d v):uH K H (tK f d fs) (w9 f v vs):=by
 induction h with
 | nil=>show .cons #[rfl,r] .nil
 | cons z hh ih=>
  rename_i p q ps qs;let#[g,d']:=p;let#[g',v']:=q;let#[e,r2]:=z;dsimp only at e;subst e;unfold tK w9;by_cases c:g=f
  .rw[Ę c,Ę c];show .cons #[rfl,r] hh
  .rw[if_neg c,if_neg c];show .cons #[rfl,r2] ih
theorem uH.length Õ:Ï6=vs.length:=Paired.length h
end
section
variable {Ļ}{e o value:Expr}{te to tv:zw}{pos pos':Pos}
def Wm (cs:Ã) Ð8 (te:zw):zw:=fun Y S Q=>te Y S λ x S1=>∃ p c fs d,x=Æ p/\S1 p=↑(ć c fs)/\É3/\Ū=↑d/\Q d S1
def Ov Â2 Æ4 (hf:fl.elem f=true) (hb:attributeBase e f ç (eval e ç)=eval e ç):PD X (.Attribute e f pos) (Wm cs f te):=by
 exact#[fun Y S Q Q' hq z=>he.mo Y S â (λ x S1 #[p,c,fs,d,h1,h2,h3,h4,h5]=>#[p,c,fs,d,h1,h2,h3,h4,hq â h5]) z,PE.imp (Ql he.pe hb) Ì6];ext Ž;let#[p,c,fs,d,rfl,h2,h3,h4,h5]:=h1;simp![zf] at q1;subst q1;let#[C,dx,vs,g1,g2,g3]:=p1 â h2;let#[C',k1,k2,k3]:=hk c h3;cases g1.eq k1;let#[w,w1,w2]:=g3.get h4;show#[p,C,dx,vs,w,rfl,g2,k2,k3 f Ì7,w1,h5 w H1 w2 e1 p1]
theorem Ext.ins Ð5{p C dx:Addr}{fs:List (Str×V)}(h:H p=↑(.ins C dx fs)) (o:HO):Ext H (upd H p o):=
 #[λ b ys q=>ß,λ b ob u q=>ß,λ b u q=>ß,λ b u q=>ß]
def Wg (cs:Ã) Ð8 (to tv:zw):ye:=λ E Y S=>tv Y S λ d S1=>to Y S1 λ x S2=>∃ p c fs,x=Æ p/\S2 p=↑(ć c fs)/\É3/\Ï6<1000/\E.nx Y (ups S2 p (ć c (tK f d fs)))
def QR Â2 (ho:PD X o to) (hv:PD X value tv) (hf:fl.elem f=true) (hs:swapsWith value ↑(.Attribute o f pos') pos.line ç=pure Í):xN X (.Assign [.Attribute o f pos'] value pos) (Wg cs f to tv):=by
 exact#[λ E E' Y S hE z=>hv.mo Y S â (λ d S1 z=>ho.mo Y S1 â (λ x S2 #[p,c,fs,h1,h2,h3,h4,h5]=>#[p,c,fs,h1,h2,h3,h4,hE.nx â h5]) z) z,λ EW s σ H D I hu=>Rz ho.pe hv.pe hs Ŝ D I ?_];ext Ý;exact zL.go hv.mo r1 r2 z λ d S1 v H1 h1 q1 e1 p1=>?_;exact zL.go ho.mo (r1.ext e1) p1 h1 λ x S2 w H2 h2 q2 e2 p2=>?_;let#[p,c,fs,rfl,g1,g2,g3,g4]:=h2;simp![zf] at q2;subst q2;let#[C,dx,vs,k1,k2,k3]:=p2 â g1;let#[C',j1,j2,j3]:=hk c g2;cases k1.eq j1;have e4:Ext H2 (upd H2 p (.ins C dx (w9 f v vs))):=.ins k2 _;exact#[p,C,dx,vs,rfl,k2,j2,j3 f Ì7,by rw[<- k3.length];show g3,?_];show g4 â (r1.ext (Æ9 e4)) (Æ9 e4) (p2.ups e4 #[C,dx,_,k1,yy,(k3.put (zf.ext e2 d q1)).ext e4])
structure tH Ĉ ü Ã3:Prop where
 ex:∃ (f:Addr) (fd:È8),Í6/\Ì5/\∀ c∈cs,Ç0
 mo:tG sp
def wO ü (sp:yZ) (to:zw) (tA:zY):zw:=fun Y S Q=>to Y S λ x S1=>∃ p c fs,x=Æ p/\S1 p=↑(ć c fs)/\É3/\ï/\tA Y S1 λ ds S2=>sp (x::ds) S2 Q
def wO.mo Ċ{sp:yZ}{tA:zY}(h1:yn to) (h2:tG sp) (h3:sS tA):yn (wO cs m sp to tA):=fun Y S Q Q' hq z=>
 h1 Y S â (λ x S1 #[p,c,fs,a1,a2,a3,a4,a5]=>#[p,c,fs,a1,a2,a3,a4,h3 Y S1 â (λ ds S2 z=>h2 _ S2 â hq z) a5]) z
theorem uH.none ı Ð5 Õ:∀ Ë4,Ū=Option.none->vs.lookup f=Option.none:=by
 induction h with
 | nil=>intro f e;rfl
 | cons r _ ih=>
  ext ő;intro f e;rw[Bj] at e ⊢;dsimp only at e ⊢;cases q:f == g with
  | true=>ext Ë7
  | Í=>rw[q] at e;show ih e
section
variable {Ċ}{sp:yZ}{tA:zY}{es:List Expr}{k:Nat}{ps:Ã}{apos:Pos}{pl:Sem Bool}
def ZT Ť ŭ (hk:k<=k')
  (AD:AE X e es) (Ao:AL X pos es)
  (ht:eval (.Call Ş Ë3) ç=(do
   let ov <- eval o ç
   standAt apos.atName
   let (f,first) <- Ê3
   callWith pos f first (backTo pos (starEach (e::es) ç)) È1)):
  PD X (.Call Ş Ë3) (wO cs m sp to tA):=by
 ext Ë5;exact#[wO.mo ho.mo hm ha.mo,λ EW s σ H Q I hu=>?_];ext Ý;exact PySem.W.methodCall_KW (pl:=pl) (zD (ho.pe Ŝ (λ x H1=>∃ a C dx fs,x=Æ a/\H1 a=↑(.ins C dx fs)/\vU X.K C/\Meth X.K C m f/\ï/\wq X.K tA σ H1 λ vs H2=>vV X.K sp (Æ a::vs) H2 Q E0) I Á0) ī) ht
 .ext Ø;cases j1.eq j4;exact#[p,C,dx,vs,rfl,j2,j5,j6,j3.none g4,Y,S1,r1.ext e1,p1,ha.mo Y S1 â (λ ds S2 z xs H2 a1 a2 a3=>#[Æ p::ds,S2,.cons (ñ) a1,a3,hm _ S2 â (λ d S' q=>wF.ext (e1.trans a2) q) z]) g5]
 .ext Á3;exact PySem.W.callWith_K (first:=[Æ a]) (h₀:=X.base) I.ok.mod.pL me.kp (zD (ha.pa pos EW s1 σ H1 _ I1 q) λ us s2 #[vs,H2,I2,r,q2]=>#[I2.yB,?_]) AD Ao;show f_ (us:=Æ a::us) (vs:=Æ a::vs) Ä2 I2 (.cons rfl r) (by rw[BR];show q2)
def ZS Ť (hk:k<=k')
  (ht:eval (.Call Ş [] À7) ç=(do
   let ov <- eval o ç
   standAt apos.atName
   let (f,first) <- Ê3
   callWith pos f first (backTo pos (starEach [] ç)) È1)):
  PD X (.Call Ş [] À7) (wO cs m sp to tw):=by
 ext Ë5;exact#[wO.mo ho.mo hm (λ _ _ _ _ hq z=>hq â z),λ EW s σ H Q I hu=>?_];ext Ý;exact PySem.W.methodCall_KW (pl:=pl) (zD (ho.pe Ŝ (λ x H1=>∃ a C dx fs,x=Æ a/\H1 a=↑(.ins C dx fs)/\vU X.K C/\Meth X.K C m f/\ï/\vV X.K sp [Æ a] H1 Q E0) I Á0) ī) ht
 .ext Ø;cases j1.eq j4;show#[p,C,dx,vs,rfl,j2,j5,j6,j3.none g4,[Æ p],S1,.cons (ñ) .nil,p1,hm _ S1 â (λ d S' q=>wF.ext e1 q) g5]
 .ext Á3;show PySem.W.callWith_K0 (first:=[Æ a]) I1.yB me.kp (f_ (us:=[Æ a]) (vs:=[Æ a]) Ä2 I1 (.cons rfl .nil) (by rw[BR];show q))
structure ja Ĉ Å0 Ã3:Prop where
 ex:∃ (C f:Addr) (fd:È8),Í6/\Ì5/\sU K c C/\Mk K C f/\mg c=↑ Į
 mo:tG sp
def Wj Å0 (sp:yZ) (tA:zY):zw:=fun Y S Q=>tA Y S λ ds S1=>∀ p,S1 p=none->sp (Æ p::ds) Å7 λ d S2=>d=.zj/\Q Æ2 S2
def PR Ś{k':Nat}{p:Pos}(F:ja ĉ c k ps sp) (hr:ya k' X.A) ŭ (hk:k+1<=k') Ð7
  ŝ:PD X (.Call (ō c p) Ë3) (Wj c sp tA):=by
 let#[#[C,f,fd,h1,h2,h3,h4,h5],hm]:=F;exact#[fun Y S Q Q' hq z=>ha.mo Y S â (λ ds S1 z p hp=>hm â â (λ d S2 q=>#[q.1,hq â q.2]) (z p hp)) z,PE.imp (Qf (E:=E0) h4 h1 (hr.mono hk) hg h5 h2 .nil jA ha.pa Bm he Ao) Ì6];ext Ý;exact wq.go ha.mo r1 r2 z λ ds S1 xs H1 z1 q1 e1 p1 x dx hx EU AA=>?_;have e0:Ext (upd H1 dx (ÿ x)) (upd (upd H1 dx (ÿ x)) x (.ins C dx [])):=.new (by rw[zP (Î5 AA)];show hx) _;have e2:=(Ext.new EU (ÿ x)).trans e0;rw[BR];exact#[Æ x::ds,ups S1 x (ć c []),.cons (ñ) (zo.ext e2 ds q1),(p1.new EU).ups e0 #[C,dx,[],h3,yy,.nil],?_]
 .exact hm â â (λ d S2 q v H2 a1 a2 a3=>?_) (z1 x (p1.none hx));let#[rfl,q]:=q;simp![zf] at a1;show#[a1,q (Æ x) H2 (ñ) (Æ9 a2) a3]
end
end
end L3
namespace L5
open Œ í L2 L3
open Ú hiding St
@[simp] def xr (cs:Ã) ř Ð8:Ad:=fun J=>match J[i]? with
 | ľ=>if É3 then Ū else none
 | _=>none
@[simp] def qh (cs:Ã) ř Ð8 (g:Ad):Sm:=fun J=>Ě λ y=>match J[i]? with
 | some ↑(á)=>if É3/\Ï6<1000 then ↑(.nx (J.set i ↑(ÿ (ć a c (tK f y fs))))) else none
 | _=>none
def Vo {a:Ą}{c c':Str}{fs E7:Ŀ}{p:Addr}(h:adr (ć a c fs) p):adr (ć a c' E7) p:=by cases a <;> show h
theorem yd.XB š:∀ ú,yd S fs ds->∀ Ë4{t:T},Ū=↑t->∃ d,ds.lookup f=↑d/\Sn S t d
 | [],_,_,_,_,e=>by cases e
 | Ï7,ds,h,f,t,e=>by
  ext Á7;rw[Bj] at e ⊢;cases q:f == g with
  | true=>ext Ë7;show#[d,rfl,h1]
  | Í=>rw[q] at e;show yd.XB h2 e
theorem yd.ip š:∀ ú,yd S fs ds->∀ Ë4,Ū=none->ds.lookup f=none
 | [],_,h,_,_=>by cases h;rfl
 | Ï7,ds,h,f,e=>by
  ext Á7;rw[Bj] at e ⊢;cases q:f == g with
  | true=>ext Ë7
  | Í=>rw[q] at e;show yd.ip h2 e
theorem yd.X3 š:∀ ú,yd S fs ds->É0=Ï6
 | [],_,h=>by cases h;rfl
 | Ï7,ds,h=>by
  ext Á7;rw[A1,A1,yd.X3 h2]
theorem yd.Xw š Ë4{t:T}{d:D}(r:Sn S t d):∀ ú,yd S fs ds->yd S (tK f t fs) (tK f d ds)
 | [],_,h=>by cases h;show#[d,[],rfl,r,rfl]
 | Ï7,ds,h=>by
  let#[d',m,rfl,h1,h2]:=h;unfold tK;by_cases c:g=f
  .rw[Ę c,Ę c];show#[d,m,rfl,r,h2]
  .rw[if_neg c,if_neg c];show#[d',_,rfl,h1,yd.Xw r h2]
def l6 š{Z:Đ}{Y:yc}ē(hE:ER õ) Ä9{a:Ą}Ś{fs:Ŀ}(h:J[i]?=↑↑(á)):∃ p b,Y[i]?=↑↑ Æ2/\S p=↑(ć c b)/\yd ū fs b:=by
 let#[p,o,h1,h2,h3,_]:=hE.ow i _ h;cases o with
 | obj c' b=>let#[rfl,h3]:=h3;show#[p,b,h1,h2,h3]
 | _=>show h3.elim
section
variable {R:Rk}{g:Ad}{tg:zw}
def Ym {cs:Ã}ř Ð8:xP (xr cs i f) (Wm cs f (zX i)):=λ S Z Y J y Q hE e hq=>by
 unfold xr at e;split at e
 .rename_i a c fs h;split at e
  .rename_i hc;let#[p,b,h1,h2,h3]:=l6 hE h;let#[d,d1,d2]:=h3.XB e;change zX i Y S _;unfold zX;rw[h1];show#[p,c,b,d,rfl,h2,hc,d1,hq d S (.refl S) d2]
  .cases e
 .cases e
def Nm {cs:Ã}ř Ð8 (hg:xP g tg):zV R (qh cs i f g) (Wg cs f (zX i) tg):=λ S0 Z0 S Z Y J o E F e P=>by
 let#[z,e1,e3]:=ż;split at e3
 .rename_i a c fs h;split at e3
  .rename_i hl;cases e3;exact hg õ z _ F.er e1 λ dz S1 s1 r1=>?_;have F1:=F.grow s1;let#[p,b,h1,h2,h3]:=l6 F1.er h;change zX i Y S1 _;unfold zX;rw[h1];show#[p,c,b,rfl,h2,hl.1,by rw[h3.X3];show hl.2,P _ Z Y (F1.mut (us:=ć a c (tK f z fs)) (es:=ć c (tK f dz b)) i h h1 #[rfl,h3.Xw r1] Vo)]
  .cases e3
 .cases e3
end
@[simp] def uw (N:Ã) (ws:List W):Ev:=ws.map some++List.replicate (N.length-ž) none
theorem fO {N:Ã}Ã4 Ä9{w:W}(h:Š[i]?=↑↑w):ws[i]?=↑w:=by
 unfold uw at h;have hi:i<ž:=by
  rcases Bn i ž with q | q
  .show q
  .rw[Cr (by exists q),CP] at h;split at h <;> cases h
 rw[Cq (by exists hi),AG] at h;cases q:ws[i]? with
 | none=>ext Ê7
 | some y=>ext Ê7;rfl
def Í7 {α:Type}{l:List α}Ä9{x:α}(h:l[i]?=↑x):(l.map some)[i]?=↑↑x:=by rw[AG,h];rfl
def qk {α:Type}{l:List α}Ä9{x:α}(h:(l.map some)[i]?=↑↑x):l[i]?=↑x:=by
 rw[AG] at h;cases q:l[i]? with
 | none=>ext Ê7
 | some y=>ext Ê7;rfl
def ER.start š{Z:Đ}{N:Ã}Ã4 Ů(h:ņ):ER S Z (vE N ds) Š:=by
 exact#[h.zd,λ i t e=>?_,λ i c e=>?_]
 .let#[d,h1,h2]:=h.im i t (Í7 (fO e));show#[d,jt (qk h1),h2]
 .let#[p,o,h1,h2]:=h.ow i c (Í7 (fO e));show#[p,o,jt (qk h1),h2]
def sY (N:Ã) (n:Nat) (f:Ad):yZ:=λ ds S Q=>∃ Z ws y,ņ/\É0=n/\f Š=↑y/\È2
def sY.mo {N:Ã}{n:Nat}Ì1:tG (sY N n f):=λ _ _ _ _ hq #[Z,ws,y,h1,h2,h3,h4]=>#[Z,ws,y,h1,h2,h3,λ d S' s r=>hq â (h4 d S' s r)]
@[simp] def xv ü (N:Ã) (f:Ad) Ç4:Ad:=fun J=>match J[j]? with
 | some ↑(á)=>if É3/\ï then f (uw N [á]) else none
 | _=>none
def Yl {cs N:Ã}{m:Str}Ì1 Ç4:xP (xv cs m N f j) (wO cs m (sY N 1 f) (zX j) tw):=λ S Z Y J y Q hE e hq=>by
 unfold xv at e;split at e
 .rename_i a c fs h;split at e
  .rename_i hc;let#[p,o,h1,h2,h3,h4]:=hE.ow j _ h;let#[p',b,h1',h2',h5]:=l6 hE h;rw[h1] at h1';cases h1';ext ĩ;exact#[p,c,b,rfl,h2',hc.1,h5.ip hc.2,Z,[á],y,#[hE.zd,λ i t q=>?_,λ i c' q=>?_],rfl,e,λ d S' s r=>hq d S' s r]
   .have:=qk q;cases i with
    | zero=>cases this
    | succ i=>cases this
   .have:=qk q;cases i with
    | zero=>cases this;show#[p,o,rfl,h2,h3,h4]
    | succ i=>cases this
  .cases e
 .cases e
def wJ:C->Ą
 | ć a â=>a
 | _=>none
@[simp] def vv (a:Ą):C->C
 | ć _ c fs=>ć a c fs
 | c=>c
def xB:C->Bool
 | ć â _=>true
 | _=>Í
def vN:C->T
 | ć _ c fs=>.tup [.str c,.tup (fs.map λ q=>.tup Ì9)]
 | _=>.zj
def yA (v:T) (L:ó):T:=.lst [v,.tup (L.map λ q=>.tup Ë1)]
theorem X4:∀ {a b:Ŀ},(a.map λ q=>T.tup Ì9)=b.map (λ q=>T.tup Ì9)->a=b
 | [],[],_=>rfl
 | [],_::_,h=>Í8
 | _::_,[],h=>Í8
 | (x,y)::a,(x',y')::b,h=>by
  simp![Az,ų,Ç1,T.str.injEq,and_true] at h;rw[X4 h.2,h.1.1,h.1.2]
def Ww {c c':C}Æ0:vv none c=vv none c':=by
 cases c with
 | obj a k fs=>
  cases c' with
  | obj a' k' E7=>
   simp![vN,Ç1,ų,T.str.injEq,and_true] at h;rw[vv,vv,h.1,X4 h.2]
  | _=>cases l'
 | _=>cases l
def jz š{a:Ą}{c:C}{o:O}:xE S (vv a c) o↔xE S c o:=by
 cases c <;> cases o <;> show Iff.rfl
def Hk š{c c':C}{o:O}Æ0 (r:xE S c o):xE S c' o:=by
 rw[<- jz (a:=none),<- Ww h l l',jz];show r
def ej {c:C}(h:wJ c=none):vv none c=c:=by
 cases c with
 | obj a k fs=>ext Î2;rfl
 | _=>rfl
def fF {a:Ą}{c:C}(l:ķ):wJ (vv a c)=a:=by
 cases c with
 | obj _ k fs=>rfl
 | _=>cases l
def LJ Î3:ķ:=by
 cases c with
 | obj a k fs=>rfl
 | _=>cases h
def G8 Î3:adr c p:=by
 cases c with
 | obj a k fs=>ext Î2;rfl
 | _=>cases h
def G9 {c c':C}{p:Addr}(h:adr c p):adr (vv (wJ c) c') p:=by
 cases c' with
 | obj a' k' E7=>
  cases c with
  | obj a k fs=>show Vo h
  | _=>show trivial
 | _=>show trivial
def GA {c:C}{p q:Addr}(h:wJ c=↑q) (h':adr c p):q=p:=by
 cases c with
 | obj a k fs=>ext Î2;show h'
 | _=>cases h
def LZ (Z:Đ) (L:ó):Đ:=λ a=>Z a\/∃ c,(a,c)∈L
def wX:Rk:=λ S S' Z y d=>(∃ ts,y=.lst ts)->∃ v L,y=yA v L/\Sn (zB S' (LZ Z L)) v d/\∀ q∈L,xB q.2=true/\S q.1=none/\∃ o,S' q.1=↑o/\xE (zB S' (LZ Z L)) q.2 o
instance:Cl wX:=#[λ s h e=>by
 let#[v,L,h1,h2,h3]:=h e;show#[v,L,h1,h2,λ q hq=>#[(h3 q hq).1,s.none (h3 q hq).2.1,(h3 q hq).2.2]],λ n _ #[ts,e]=>absurd e (n ts)]
instance:Lo wX:=#[λ{S0 S S' Z0 Z y d} s z h e=>by
 let#[v,L,h1,h2,h3]:=h e;have le:∀ a,LZ Z0 L a->LZ Z L a:=λ a q=>q.imp (z a) id;exact#[v,L,h1,Sn.sx (vg le) v h2,λ q hq=>?_];let#[g1,g2,o,g3,g4]:=h3 q hq;show#[g1,s.none g2,o,g3,xE.sx (vg le) g4]]
def lN (J:Ev) ř:Á (Addr×C):=match J[i]? with
 | some ↑ À3=>(wJ c).map λ p=>(p,c)
 | _=>none
@[simp] def wC:è->Ev->Á (ó)
 | [],_=>↑[]
 | i::is,J=>(lN J i).bind λ q=>É4 (q::·)
@[simp] def nq (is:è) (f:Ad):Sm:=fun J=>Ă λ y=>É4 λ L=>.rt (yA y L)
@[simp] def Z_ (is:è):Á Out->Á T
 | some (.rt y)=>↑y
 | some (.nx J)=>É4 (yA .zj)
 | _=>none
@[simp] def xo (N:Ã) (n:Nat) (is:è) (g:Sm):Ç:=λ ws=>if ž=n then Z_ is (g Š) else none
section
variable {S0 S:SS}{Z0 Z:Đ}{Y:yc}{ē}
theorem FR.lN Ä9{q:Addr×C}(F:ŋ) (h:L5.lN J i=↑q):Ń:=by
 unfold L5.lN at h;split at h
 .rename_i c hc;let#[p,hp,rfl]:=Ax.mp h;let#[p',o,h1,h2,h3,h4]:=F.er.ow i c hc;let#[f1,f2]:=F.fr i c p' hc h1;cases GA hp f2;show#[LJ hp,f1,h4,o,h2,h3]
 .cases h
theorem FR.wC (F:ŋ):∀ Ð9{L:ó},L5.wC is J=↑L->∀ q∈L,Ń
 | [],L,h,q,hq=>by cases h;cases hq
 | i::is,L,h,q,hq=>by
  let#[r,h1,h2]:=Al.mp h;let#[L',h3,rfl]:=Ax.mp h2;rcases Am.mp hq with rfl | hq
  .show F.lN h1
  .show FR.wC F h3 q hq
def FR.ni Ð9{L:ó}{v:T}{d:D}(F:ŋ) (h:L5.wC is J=↑L) (hv:Sn ū v d):wX S0 S Z0 (yA v L) d:=λ _=>by
 have f:=F.wC h;have le:∀ a,LZ Z0 L a->Z a:=λ a q=>q.elim (F.zz a) λ#[c,hc]=>(f _ hc).2.2.1;exact#[v,L,rfl,Sn.sx (vg le) v hv,λ q hq=>?_];let#[g1,g2,_,o,g3,g4]:=f q hq;show#[g1,g2,o,g3,xE.sx (vg le) g4]
def Nk Ì1{te:zw}Ð9(hf:xP f te):zV wX (nq is f) (pZ te):=λ S0 Z0 S Z Y J o E F e P=>by
 let#[y,e1,e2]:=ż;let#[L,e3,rfl]:=Ax.mp e2;show hf õ y _ F.er e1 λ d S1 s1 r1=>P d S1 (F.sx.trans s1) ((F.grow s1).ni e3 r1)
end
structure GP (S:SS) (Z:Đ) (ws:List W) (ds:List D):Prop where
 er:ņ
 len:É0=ž
 tg:∀ ř c p,É5->ds[i]?=↑ Æ2->wJ c=↑p
 dj:∀ É8 c c' p,i≠j->É5->ws[j]?=↑(ÿ c')->ds[i]?=↑ Æ2->ds[j]?=↑ Æ2->False
def uU (ws:List W) (a:Addr):Prop:=∃ c,W.own c∈ws/\wJ c=↑a
def yr (F:Ç):yZ:=λ ds S Q=>∃ Z ws y,GP S Z ws ds/\F ws=↑y/\∀ d S',Sx (zB S (uU ws)) S'->wX (zB S (uU ws)) S' Ä6 y d->Q d S'
def yr.mo {F:Ç}:tG (yr F):=λ _ _ _ _ hq #[Z,ws,y,h1,h2,h3]=>#[Z,ws,y,h1,h2,λ d S' s r=>hq â (h3 d S' s r)]
theorem yr.len Ĝ Ů š Ç5:É0=n:=by
 ext Á4
 .rename_i h;rw[r.len];show h
 .cases e
def iT Ĝ{t:ye}(h:zV wX g t) Ů š Ç5:Â3:=by
 ext Á4
 case isFalse=>cases e
 obtain⟨o,e1,e2⟩:∃ o,g Š=↑o/\Z_ is ↑o=↑y:=by
  cases q:g Š with
  | none=>ext Ë7
  | some o=>show#[o,rfl,by rw[<- q];show e]
 have hA:∀ ř (c:C) (p:Addr),Š[i]?=↑↑ À3->(vE N ds)[i]?=↑↑ Æ2->É5/\ds[i]?=↑ Æ2:=λ i c p a b=>by
  have a':=fO a;let#[p',o',k1,_]:=r.er.ow i c (Í7 a');have k2:=jt (N:=N) (qk k1);rw[b] at k2;cases k2;show#[a',qk k1]
 exact h (zB S (uU ws)) Ä6 S Z â o _ #[r.er.start,?_,nN â,λ a z=>?_,λ a z=>z.1,λ a z=>?_,λ i c p a b=>?_,λ i j c c' p n a a' b b'=>?_] e1 ?_
 .unfold vE uw;have:=r.len;simp[this]
 .rw[vz z.2];show r.er.zd a z.1
 .by_cases q:uU ws a
  .show ş (lX q)
  .show č #[z,q]
 .let#[a',b']:=hA i c p a b;have tg:=r.tg i c p a' b';show#[lX #[c,AW a',tg],G8 tg]
 .let#[a1,b1]:=hA i c p a b;let#[a2,b2]:=hA j c' p a' b';show r.dj i j c c' p n a1 a2 b1 b2
 .cases o with
  | rt y'=>cases e2;show λ d S' s r=>hq d S' s r
  | nx J'=>
   let#[L,e3,rfl]:=Ax.mp e2;show λ S' Z' Y' F=>hq .zj S' F.sx (F.ni e3 fU)
  | _=>cases e2
abbrev Ag:=Nat ⊕ T
@[simp] def slots:Ŗ->è
 | []=>[]
 | č j::r=>j::slots r
 | ş _::r=>slots r
@[simp] def wZ (ad:Ï8) (J:Ev):Ŗ->Á (List W)
 | []=>↑[]
 | č j::r=>match J[j]? with
  | some ↑ À3=>if ķ then (wZ ad J r).map (ÿ (vv ↑ À4 c)::·) else none
  | _=>none
 | ş t::r=>(wZ ad J r).map (.im t::·)
@[simp] def oU (ad:Ï8):è->Ï9->ó
 | j::js,c::cs=>(ad j,c)::oU ad js cs
 | _,_=>[]
def Bc (F:Ç) (J:Ev) (ys:Ŗ) (r:T× Ï9):Prop:=(r.2.length=(į).length/\∀ c∈r.2,ķ/\wJ c=none)/\∀ ad,∃ ws,Í0/\F ws=↑(yA r.1 (oU ad (į) r.2))
def v7 (F:Ç) (J:Ev) (ys:Ŗ):Á (T× Ï9):=open Classical in if h:∃ r,Ð0 then ↑h.choose else none
def ZX {v v':T}{L L':ó}(h:yA v L=yA v' L'):v=v'/\(L.map Û)=L'.map Û:=by
 simp![yA,T.lst.injEq,ų,Ç1,and_true] at h;show h
def ZW {L L':ó}(h:(L.map Û)=L'.map Û) {q:Addr×C}(hq:q∈L'):∃ q'∈L,q'.1=q.1/\vN q'.2=vN q.2:=by
 have:=DA (f:=λ q:Addr×C=>T.tup Ë1) hq;rw[<- h] at this;let#[q',h1,h2]:=Aw.mp this;simp![Ç1,ų,T.int.injEq,and_true] at h2;show#[q',h1,Int.ofNat.inj h2.1,h2.2]
theorem zip_inj {ad:Ï8}:∀ {js:è}{cs cs':Ï9},cs.length=js.length->cs'.length=js.length->(∀ c∈cs,ķ/\wJ c=none)->(∀ c∈cs',ķ/\wJ c=none)->
  ((oU ad js cs).map Û)=(oU ad js cs').map (Û)->cs=cs'
 | [],[],[],_,_,_,_,_=>rfl
 | [],_::_,_,h,_,_,_,_=>Í8
 | [],[],_::_,_,h,_,_,_=>Í8
 | _::_,[],_,h,_,_,_,_=>Í8
 | _::_,_::_,[],_,h,_,_,_=>Í8
 | j::js,c::cs,c'::cs',h,h',l,l',e=>by
  simp![oU,Az,ų,Ç1,T.int.injEq,and_true,true_and] at e;have a:=Ww e.1 (l c Au).1 (l' c' Au).1;rw[ej (l c Au).2,ej (l' c' Au).2] at a;rw[a,zip_inj (Nat.succ.inj h) (Nat.succ.inj h') (λ x hx=>l x (Ay _ hx)) (λ x hx=>l' x (Ay _ hx)) e.2]
def WY {F:Ç}ē Ñ0{r:T× Ï9}(h:Ð0):v7 F J ys=↑r:=by
 have hx:∃ r,Ð0:=#[r,h];unfold v7;rw[dif_pos hx];let#[#[h1,h2],h3]:=hx.choose_spec;let#[#[g1,g2],g3]:=h;let#[ws,w1,w2]:=h3 λ _=>0;let#[ws',w3,w4]:=g3 λ _=>0;rw[w1] at w3;cases w3;rw[w2] at w4;let#[e1,e2]:=ZX (Be w4);have e3:=zip_inj h1 g1 h2 g2 e2;show congrArg some (Prod.ext e1 e3)
def WX {F:Ç}ē Ñ0{r:T× Ï9}(h:v7 F J ys=↑r):Ð0:=by
 unfold v7 at h;split at h
 .rename_i hx;cases h;show hx.choose_spec
 .cases h
def vo (J:Ev) Ç4:Ą:=match J[j]? with
 | some ↑ À3=>wJ c
 | _=>none
@[simp] def xQ:è->Ï9->Ev->Ev
 | j::js,c::cs,J=>xQ js cs (J.set j ↑(ÿ (vv (vo J j) c)))
 | _,_,J=>J
theorem aL:∀ Ç6 ē,(xQ js cs J).length=J.length
 | [],_,_=>#[]
 | _::_,[],_=>#[]
 | j::js,c::cs,J=>by rw[xQ,aL,CA]
theorem jg:∀ Ç6 ē{k:Nat}{w:W},js.Nodup->(xQ js cs J)[k]?=↑↑w->(∃ (c:C) (i:Nat),js[i]?=↑k/\cs[i]?=↑c/\w=ÿ (vv (vo J k) c))\/J[k]?=↑↑w/\∀ i:Nat,js[i]?=↑k->cs.length<=i
 | [],_,J,k,w,_,h=>ş #[by simpa using h,λ i e=>by simp at e]
 | _::_,[],J,k,w,_,h=>ş #[by simpa using h,λ i e=>#[]]
 | j::js,c::cs,J,k,w,nd,h=>by
  rw[xQ] at h;let#[nj,nd]:=Bo.mp nd;rcases jg nd h with ⟨c',i,h1,h2,h3⟩ | ⟨h1,h2⟩
  .have kj:j≠k:=λ e=>nj (by rw[e];show AW h1);exact č #[c',i+1,h1,h2,?_];rw[h3];unfold vo;rw[xM kj]
  .rcases yE h1 with ⟨rfl,hl,e⟩ | ⟨n,e⟩
   .cases e;show č #[c,0,rfl,rfl,rfl]
   .exact ş #[e,λ i q=>?_];cases i with
    | zero=>cases q;show absurd rfl n
    | succ i=>show Nat.succ_le_succ (h2 i q)
def mK (S:SS) (Z:Đ) (Y:yc):Ŗ->List D->Prop
 | [],ds=>ds=[]
 | č j::r,ds=>∃ d m,ds=d::m/\Y[j]?=↑↑d/\mK S Z Y r m
 | ş t::r,ds=>∃ d m,ds=d::m/\Sn ū t d/\mK S Z Y r m
section
variable {S0 S S':SS}{Z0 Z:Đ}{Y:yc}{ē}{ad:Ï8}
theorem bu:∀ Ñ0 Ã4 Ů,Í0->mK S Z Y ys ds->É0=ž/\∀ ř w,ws[i]?=↑w->∃ d,ds[i]?=↑d/\
  ((∃ t,w=.im t/\Sn ū t d)\/∃ j c,Ã8/\Ð1/\ķ/\w=ÿ (vv ↑ À4 c)/\Y[j]?=↑↑d)
 | [],ws,ds,h,r=>by
  cases h;have r:ds=[]:=r;subst r;show#[rfl,λ i w e=>nomatch e]
 | č j::ys,ws,ds,h,r=>by
  ext Ç7;split at h
  .rename_i c hc;split at h
   .rename_i hl;ext ğ;cases i with
    | zero=>cases e;show#[d,rfl,ş #[j,c,rfl,hc,hl,rfl,r1]]
    | succ i=>show g2 i w e
   .cases h
  .cases h
 | ş t::ys,ws,ds,h,r=>by
  ext Ç7;ext ğ;cases i with
  | zero=>cases e;show#[d,rfl,č #[t,rfl,r1]]
  | succ i=>show g2 i w e
theorem À5:∀ Ñ0 Å6,Ã8->j∈ į
 | č k::ys,i,j,h=>by
  cases i with
  | zero=>cases h;show Au
  | succ i=>show Ay _ (À5 (ys:=ys) h)
 | ş t::ys,i,j,h=>by
  cases i with
  | zero=>cases h
  | succ i=>show À5 (ys:=ys) h
theorem fX:∀ Ñ0{i i' j:Nat},(į).Nodup->Ã8->ys[i']?=↑(č j)->i=i'
 | č k::ys,i,i',j,nd,h,h'=>by
  let#[nk,nd]:=Bo.mp nd;cases i with
  | zero=>
   cases h;cases i' with
   | zero=>rfl
   | succ i'=>show absurd (À5 (ys:=ys) h') nk
  | succ i=>
   cases i' with
   | zero=>cases h';show absurd (À5 (ys:=ys) h) nk
   | succ i'=>rw[fX nd h h']
 | ş t::ys,i,i',j,nd,h,h'=>by
  cases i with
  | zero=>cases h
  | succ i=>
   cases i' with
   | zero=>cases h'
   | succ i'=>rw[fX (ys:=ys) nd h h']
theorem fW:∀ Ñ0 Ã4 Ñ1,Í0->j∈ į->∃ c,Ð1/\ķ/\W.own (vv ↑ À4 c)∈ws
 | č k::ys,ws,j,h,hj=>by
  unfold wZ at h;split at h
  .rename_i c hc;split at h
   .rename_i hl;ext Â6;rcases Am.mp hj with rfl | hj
    .show#[c,hc,hl,Au]
    .ext À8
   .cases h
  .cases h
 | ş t::ys,ws,j,h,hj=>by
  unfold wZ at h;ext Â6;ext À8
theorem g_:∀ Ç6 Å6{c:C},js[i]?=↑j->cs[i]?=↑c->(ad j,c)∈oU ad js cs
 | k::js,c'::cs,i,j,c,h,h'=>by
  cases i with
  | zero=>cases h;cases h';show Au
  | succ i=>show Ay _ (g_ (js:=js) (cs:=cs) h h')
def iO {F:Ç}Ñ0 Ů{r:T× Ï9}{Q:DK}(Fr:ŋ) (ar:mK S Z Y ys ds) (nd:(į).Nodup) (h:v7 F J ys=↑r)
  (hQ:∀ d S',Sx ū ſ->FR S0 Z0 S' Z Y (xQ (į) r.2 J)->Sn ſ r.1 d->Q d S'):yr F ds S Q:=by
 let#[#[hl,ht],hb]:=WX h;let#[ws,hw,hF]:=hb λ(j:Nat)=>match Y[j]? with
  | some ↑ Æ2=>p
  | _=>0
 generalize hA:(λ(j:Nat)=>match Y[j]? with
  | some ↑(D.ref p)=>p
  | _=>0)=ad at hw hF
 have ha:∀ Ç4 p,Y[j]?=↑↑ Æ2->ad j=p:=λ j p e=>by rw[<- hA];dsimp only;rw[e]
 let#[g1,g2]:=bu hw ar;have st:∀ j∈ į,∃ c o,Ð1/\ķ/\Y[j]?=↑↑(Æ À4)/\S À4=↑o/\Z À4/\S0 À4=none/\uU ws À4:=λ j hj=>by
  let#[c,a,b,m]:=fW hw hj;let#[p,o,h1,h2,h3,h4]:=Fr.er.ow j c a;cases ha j p h1;show#[c,o,a,b,h1,h2,h4,(Fr.fr j c _ a h1).1,_,m,fF b]
 have wo:∀ ř c,É5->∃ j c0,Ã8/\J[j]?=↑↑(ÿ c0)/\c=vv ↑ À4 c0/\ds[i]?=↑(Æ À4)/\xB c0=true:=λ i c e=>by
  obtain⟨d,h1,⟨t,h2,_⟩ | ⟨j,c0,h2,h3,h4,h5,h6⟩⟩:=g2 i _ e
  .cases h2
  .let#[_,_,_,_,k,_]:=st j (À5 h2);rw[h6] at k;cases k;cases h5;show#[j,c0,h2,h3,rfl,h1,h4]
 have lA:∀ a,uU ws a->∃ j∈ į,ad j=a:=λ a #[c,m,t]=>by
  let#[i,hi]:=Co.mp m;let#[j,c0,k1,k2,k3,_,k5]:=wo i c hi;rw[k3,fF k5] at t;cases t;show#[j,À5 k1,rfl]
 exact#[Z,ws,_,#[#[Fr.er.zd,λ i t e=>?_,λ i c e=>?_],g1,λ i c p e e'=>?_,λ i i' c c' p n e1 e2 e3 e4=>?_],hF,λ d S' s rk=>?_]
 .obtain⟨d,h1,⟨t',h2,h3⟩ | ⟨j,c,_,_,_,h5,_⟩⟩:=g2 i _ (qk e)
  .cases h2;show#[d,Í7 h1,h3]
  .cases h5
 .let#[j,c0,k1,k2,k3,k4,k5]:=wo i c (qk e);let#[p,o,h1,h2,h3,h4]:=Fr.er.ow j c0 k2;cases ha j p h1;subst k3;show#[_,o,Í7 k4,h2,jz.mpr h3,h4]
 .let#[j,c0,k1,k2,k3,k4,k5]:=wo i c e;rw[e'] at k4;cases k4;subst k3;show fF k5
 .let#[j,c0,k1,k2,k3,k4,k5]:=wo i c e1;let#[j',c0',k1',k2',k3',k4',k5']:=wo i' c' e2;rw[e3] at k4;rw[e4] at k4';have kk:ad j=ad j':=by
   simp![Option.some.injEq,D.ref.injEq] at k4 k4';rw[<- k4,<- k4']
  have nj:j≠j':=λ e=>n (fX nd k1 (e▸k1'));let#[_,_,_,_,d1,_]:=st j (À5 k1);let#[_,_,_,_,d2,_]:=st j' (À5 k1');rw[<- kk] at d2;show Fr.dj j j' c0 c0' _ nj k2 k2' d1 d2
 .let#[v,L,p1,p2,p3]:=rk #[_,rfl];let#[q1,q2]:=ZX p1.symm;subst q1;have zl:∀ a,Z a->LZ Ä6 L a:=λ a z=>by
   by_cases q:uU ws a
   .ext Å3;ext Ĵ;let#[q',m1,m2,_]:=ZW q2 (g_ (ad:=ad) hi (c:=r.2[i]'(by rw[hl];show Av)) (by simp[hl,Av]));dsimp only at m2;show ş #[q'.2,by rw[<- m2];show m1]
   .show č #[z,q]
  have sx:Sx ū ſ:=λ a o q=>by
   let#[n,e]:=tQ q;rw[vz n];exact s a o ?_;rw[vz]
   .show e
   .intro q;ext Å3;let#[_,_,_,_,_,_,z,_]:=st j hj;show n z
  have keep:∀ a o,¬ uU ws a->S a=↑o->S' a=↑o:=λ a o n e=>s a o (by rw[vz n];show e);have nw:∀ É8 c,(į)[i]?=↑j->r.2[i]?=↑c->∃ o,S' À4=↑o/\xE ſ c o:=λ i j c hi hc=>by
   let#[q',m1,m2,m3]:=ZW q2 (g_ (ad:=ad) hi hc);let#[k1,k2,o,k3,k4]:=p3 q' m1;dsimp only at m2 m3;show#[o,by rw[<- m2];show k3,Hk m3 k1 (ht c (AW hc)).1 (xE.sx (vg zl) k4)]
  have old:∀ (k:Nat) c,J[k]?=↑↑ À3->∃ p o,Y[k]?=↑↑ Æ2/\S p=↑o/\xE ū c o/\Z p:=λ k c e=>Fr.er.ow k c e;have was:∀ (k:Nat) c,(xQ (į) r.2 J)[k]?=↑↑ À3->∃ c0,J[k]?=↑↑(ÿ c0)/\∀ p,Y[k]?=↑↑ Æ2->adr c0 p->adr c p:=λ k c e=>by
   rcases jg nd e with ⟨c1,i,h1,h2,h3⟩ | ⟨h1,_⟩
   .let#[c0,o,a1,a2,a3,_]:=st k (AW h1);cases h3;exact#[c0,a1,λ p _ q=>?_];have:vo J k=wJ c0:=by unfold vo;rw[a1]
    rw[this];show G9 q
   .show#[c,h1,î]
  exact hQ d S' sx #[#[λ a z=>?_,λ k t e=>?_,λ k c e=>?_],by rw[aL];show Fr.len,λ b o e=>?_,Fr.z0,Fr.zz,Fr.zn,λ k c p e e'=>?_,λ k k' c c' p n e1 e2 e3 e4=>?_] (Sn.sx (vg zl) _ p2)
  .by_cases q:uU ws a
   .ext Å3;ext Ĵ;let#[o,k1,_]:=nw i j (r.2[i]'(by rw[hl];show Av)) hi (by simp[hl,Av]);rw[k1];nofun
   .cases w:S a with
    | none=>show absurd w (Fr.er.zd a z)
    | some o=>rw[keep a o q w];nofun
  .rcases jg nd e with ⟨c1,i,_,_,h3⟩ | ⟨h1,_⟩
   .cases h3
   .let#[d,a,b]:=Fr.er.im k t h1;show#[d,a,Sn.sx sx t b]
  .rcases jg nd e with ⟨c1,i,h1,h2,h3⟩ | ⟨h1,h2⟩
   .let#[c0,o,a1,a2,a3,a4,a5,_]:=st k (AW h1);let#[o',b1,b2]:=nw i k c1 h1 h2;cases h3;show#[_,o',a3,b1,jz.mpr b2,a5]
   .let#[p,o,a1,a2,a3,a4]:=Fr.er.ow k c h1;exact#[p,o,a1,keep p o (λ q=>?_) a2,xE.sx sx a3,a4];let#[j,hj,rfl]:=lA p q;let#[c0,o',b1,b2,b3,_]:=st j hj;ext Ĵ;by_cases kj:k=j
    .subst kj;show absurd (h2 i hi) (by rw[hl];show Nat.not_le.mpr Av)
    .show Fr.dj k j c c0 _ kj h1 b1 a1 b3
  .exact keep b o (λ q=>?_) (Fr.sx b o e);let#[j,hj,rfl]:=lA b q;let#[_,_,_,_,_,_,_,z,_]:=st j hj;rw[z] at e;cases e
  .let#[c0,k1,k2]:=was k c e;let#[f1,f2]:=Fr.fr k c0 p k1 e';show#[f1,k2 p e' f2]
  .let#[c0,k1,_]:=was k c e1;let#[c0',k1',_]:=was k' c' e2;show Fr.dj k k' c0 c0' p n k1 k1' e3 e4
end
theorem mX:∀ (xs:Ņ),slots (ô)=[]
 | []=>rfl
 | _::xs=>mX xs
theorem bt š{Z:Đ}{Y:yc}:∀ {xs:Ņ}Ů,zk ū xs ds->mK S Z Y (ô) ds
 | [],ds,h=>by simp![zk] at h;show h
 | x::xs,ds,h=>by
  simp![zk] at h;let#[c,m,rfl,h1,h2]:=h;show#[c,m,rfl,h1,bt h2]
@[simp] def rA ü Ç4 ţ (k:T->Ev->Ev):Sm:=fun J=>match J[j]? with
 | ľ=>if É3/\ï then Ě λ xs=>(Â1).map λ r=>.nx (k r.1 (xQ [j] r.2 J)) else none
 | _=>none
@[simp] def rB ü Ç4 ţ:Sm:=rA ś λ _ J=>J
@[simp] def jR ü É8 ţ:Sm:=rA ś λ y J=>É6
section
variable {R:Rk}{Ċ}{ť}{u:zY}
def jP Ñ1{kk:T->Ev->Ev}Å4 {S0 S:SS}{Z0 Z:Đ}{Y:yc}ē{o:Out}{Q:DK}(Fr:ŋ) (e:rA ś kk J=↑o)
  (hQ:∀ y J',o=.nx (kk y J')->Ĭ):wO Ħ u Y S Q:=by
 unfold rA at e;split at e
 .rename_i a c fs hj;split at e
  .rename_i hc;ext Ì2;let#[r,e3,rfl]:=Ax.mp e2;ext Å1;exact#[p,c,b,rfl,h2,hc.1,h3.ip hc.2,h õ xs _ Fr.er É9];have sl:slots (č j::ô)=[j]:=by rw[slots,mX]
   exact iO (ys:=č j::ô) (Fr.grow s1) #[Æ p,ds,rfl,h1,bt r1] (by rw[sl];simp) e3 λ d S' sx F' rr=>?_;rw[sl] at F';show hQ â rfl d S' ((xW s1).trans sx) F' rr
  .cases e
 .cases e
def Nt Ñ1 Å4:zV R (rB ś) (n_ (wO Ħ u)):=λ S0 Z0 S Z Y J o E Fr e P=>jP h Fr e λ y J' q d S' _ F' _=>by
 subst q;show P S' Z Y F'
def Nu Å6 Å4:zV R (jR cs m i j F g) (wQ (wO Ħ u) (hName i)):=λ S0 Z0 S Z Y J o E Fr e P=>jP h Fr e λ y J' q d S' _ F' r=>by
 subst q;show P S' Z _ (F'.qe i r)
@[simp] def di ü É8 (f:Ad) ţ:Sm:=fun J=>Ă λ a=>rA ś (Å2) J
def Nr Å6 Ì1{te:zw}(hf:xP f te) Å4:zV R (di cs m i j f F g) (wQ (cN (t6 te (t6 (wO Ħ u) tw))) (hName i)):=λ S0 Z0 S Z Y J o E Fr e P=>by
 let#[a,e1,e2]:=ż;exact hf õ a _ Fr.er e1 λ da S1 s1 r1=>jP h (Fr.grow s1) e2 λ y J' q d S' sx F' r=>?_;subst q;show#[show 2<=sizeLine by decide,P S' Z _ (F'.qe i (o_ (.cons (Sn.sx sx a r1) (.cons r .nil))))]
@[simp] def nC Å0 ř ţ:Sm:=fun J=>Ě λ xs=>Á2 λ r=>match r with
 | (.zj,[c'])=>↑(.nx (J.set i ↑(ÿ c')))
 | _=>none
def Nq Ś Ä9 Å4:zV R (nC c i F g) (wQ (Wj c (yr F) u) (hName i)):=λ S0 Z0 S Z Y J o E Fr e P=>by
 ext Ì2;let#[r,e3,e4]:=Al.mp e2;split at e4
 .rename_i c';cases e4;exact h õ xs _ Fr.er e1 λ ds S1 s1 r1 p hp=>?_;have F1:=Fr.grow s1;have nz:¬ Z p:=λ z=>F1.er.zd p z hp;have sn:Sx S1 Å7:=.new hp _;have FF:FR S1 Z Å7 (λ a=>Z a\/a=p) [↑ Æ2] [↑(ÿ (ć none c []))]:=by
   exact#[#[λ a z=>?_,λ k t q=>?_,λ k c' q=>?_],rfl,sn,F1.er.zd,λ a z=>č z,λ a z=>z.imp id λ e=>by rw[e];show hp,λ k c' q a b=>?_,λ k k' c' c'' q n a b d f=>?_]
   .rcases z with z | rfl
    .show λ q=>F1.er.zd a z (sn.none q)
    .rw[se];nofun
   .cases k with
    | zero=>cases q
    | succ k=>cases q
   .cases k with
    | zero=>cases q;show#[p,ć c [],rfl,se,Ä3,ş rfl]
    | succ k=>cases q
   .cases k with
    | zero=>cases a;cases b;show#[hp,trivial]
    | succ k=>cases a
   .cases k with
    | zero=>
     cases k' with
     | zero=>show n rfl
     | succ k'=>cases b
    | succ k=>cases a
  have sl:slots (č 0::ô)=[0]:=by rw[slots,mX]
  have ht:=(WX e3).1.2 c' #[];exact iO (ys:=č 0::ô) FF #[Æ p,ds,rfl,rfl,bt (zk.sx (pP sn hp) xs r1)] (by rw[sl];simp) e3 λ d S' _ F' rr=>?_;rw[sl] at F';let#[q,ob,k1,k2,k3,_]:=F'.er.ow 0 (vv none c') rfl;cases k1;rw[ej ht.2] at k3;have rr:Sn (zB S' λ a=>Z a\/a=p) .zj d:=rr;simp![Sn] at rr;exact#[rr,P S' â (F1.fY F'.sx i hp k2 k3 ?_)];cases c' with
  | obj a k fs=>
   have:=ht.2;simp![wJ] at this;subst this;show trivial
  | _=>show trivial
 .cases e4
end
def bI (f:Ad) (t:ye):Prop:=∀ S Z Y J y Q,ER õ->f J=↑y->(È2)->t { nx:=λ _ S'=>Q .zj S',rt:=Q } Y S
def N8 Ì1{te:zw}(h:xP f te):bI f (pZ te):=λ S Z Y J y Q hE e hq=>h õ y _ hE e hq
section
variable {ë}{ı}{mg:Aq}{base h:Heap}{c m qual:Str}{cs:Ã}{st:Stmt}
def Ck ŗ (m:Str) (f:Addr) Å0:Prop:=Ç0
def Ck.i {C f:Addr}(a:å) (b:Æ3 K Į m=↑↑(Æ f)) Î Ë8 (m3:Ì8):Ck K m f c:=#[C,a,#[c1,c2,c3,c4],b,m2,m3]
def Fm ŗ (cs:Ã) (m qual:Str) (st:Stmt):Prop:=∃ (f:Addr) (fd:È8),vS K m qual st f fd/\∀ c∈cs,Ck K m f c
def Fm.i1 {f:Addr}Ł(k:Ck K m f c) (l:K.lookup f=↑#[oc,od,.func (PySem.W.fnOf m ď Af ct),osl])
  ů:Fm K [c] m qual st:=#[f,_,ke l cd k2,λ x hx=>by cases AI.mp hx;show k]
def Fc ŗ (c qual:Str) (st:Stmt):Prop:=∃ (C f:Addr) (fd:È8),vS K "__init__" qual st f fd/\sU K c C/\Mk K C f
def Fc.i {C f:Addr}Ł(a:å) (b:Æ3 K Į "__init__"=↑↑(Æ f)) (l:K.lookup f=↑#[oc,od,.func (PySem.W.fnOf "__init__" ď Af ct),osl])
  ů (m1:PySem.W.makesIn K C=true) Ë8 (m3:đ K Į=true):Fc K c qual st:=#[C,f,_,ke l cd k2,a,m1,b,m2,m3]
def Kl.i {fl:Ã}{C:Addr}(a:å) Î (n:fl.all (λ f=>Æ3 K Į f == ↑none)=true):Kl K c fl:=#[C,a,#[c1,c2,c3,c4],λ f hf=>beq_iff_eq.mp (BL.mp n f hf)]
abbrev jc (st:Stmt) (m qual:Str) (ps:Ã):Prop:=∀ (kV doc pm:À1) (an:Ą) (Af ct:À1) (us:Ai),us.length=ps.length->bindArgs (PySem.W.fnOf m ď Af ct) #[us,[]]=pure (ps.zip us)
variable {N ps:Ã}{k n:Nat}{g:Sm}{Ð9}
def Ie Ģ
  Ð:tH Ē cs m (k+1) ps (yr (xo N n is g)):=by
 let#[f,fd,F,hc]:=F;exact#[#[f,fd,ŏ,F.binds hb,hc],yr.mo];ext Ç8
def Ia {f':Ad}Ģ
  (EY:∀ (f:Addr) ã,ê->
   ∃ t,Ð2/\bI f' t):tH Ē cs m (k+1) ps (sY N n f'):=by
 let#[f,fd,F,hc]:=F;exact#[#[f,fd,kd F Sc (λ ds S Q h=>?_) λ Af A Ŷ s H E hr=>?_,F.binds hb,hc],sY.mo]
 .let#[Z,ws,y,h1,h2,_]:=h;rw[h2,hn]
 .ext ĵ;exact#[t,h1,λ ds S Q h=>?_];let#[Z,ws,y,r1,r2,r3,r4]:=h;show h2 S Z â y Q r1.start r3 r4
def Ig (F:Fc K c qual st) Ň Å8 (hn:n=ps.length) (hb:jc st "__init__" qual ps)
  Ð:ja Ē c (k+1) ps (yr (xo N n is g)):=by
 let#[C,f,fd,F,hc,hk]:=F;exact#[#[C,f,fd,ŏ,F.binds hb,hc,hk,È9 X G hc],yr.mo];ext Ç8
end
def Hl:Stmt->È5
 | .ClassDef â _ b â â â _=>b
 | _=>[]
end L5
namespace L5
open Œ L2 L3
theorem az (ad:Ï8) (J:Ev):∀ xs:Ņ,wZ ad J (ô)=↑(xs.map .im)
 | []=>rfl
 | x::xs=>by rw[Az,wZ,az ad J xs];rfl
def iX {F:Ç}ē Ñ1 Ì{v:T}Ê0 Ĳ:
  Â1=↑(v,[Ã2]):=by
 exact WY #[#[by rw[slots,mX];rfl,λ x hx=>by cases AI.mp hx;show Ä3],λ ad=>#[ÿ (ć ↑ À4 c fs)::xs.map .im,?_,?_]]
 .rw[wZ,h0];change (if xB (ć t c fs)=true then _ else none)=_;rw[Ę (show xB (ć t c fs)=true from rfl),az];rfl
 .rw[h À4,slots,mX];rfl
def dk Ċ Ñ1 ť{k:T->Ev->Ev}ē Ì{v:T}À:rA ś k J=↑(.nx (k v (ġ))):=by
 unfold rA;ext Æ5;rw[Ę #[hc,hl],hg];change ((Â1).map _)=_;rw[iX h0 h];change ↑(Out.nx (k v (xQ [j] [Ã2] J)))=_;have:vo J j=t:=by unfold vo;rw[h0];rfl
 rw[xQ,this];rfl
def pE Ċ Ñ1 ť ē Ì{v:T}À:rB ś J=↑(.nx (ġ)):=dk h0 hc hl hg h
def Yz Ċ Å6 ť ē Ì{v:T}À:jR cs m i j F g J=↑(.nx ((ġ).set i ↑(.im v))):=dk (k:=λ y J=>É6) h0 hc hl hg h
def Ly Ċ Å6 ť Ì1 ē Ì{v a:T}(hf:f J=↑a) À:di cs m i j f F g J=↑(.nx ((ġ).set i ↑(.im (.tup [a,v])))):=by
 change Ă _=_;rw[hf];show dk (k:=Å2) h0 hc hl hg h
def jM {c c':Str}Ä9 ť ē{xs:Ņ}{E7:Ŀ}(hg:g J=↑xs) (h:∀ a,F (ÿ (ć ↑a c [])::xs.map .im)=↑(yA .zj [(a,Ã2)])):nC c i F g J=↑(.nx (J.set i ↑(ÿ (Ã2)))):=by
 change Ě _=_;rw[hg];change Á2 _=_;rw[iX rfl h];rfl
section
variable {cs:Ã}{Ä9}{Ë4}{g h:Ad}{ē}{a:Ą}{Ś}{fs E7:Ŀ}{x y:T}
def nr Ő (hl:Ï6<1000) (hg:g J=↑y) (hp:tK f y fs=E7):qh cs i f g J=↑(.nx (J.set i ↑(ÿ (ć a c E7)))):=by
 change Ě _=_;rw[hg];dsimp only[Option.bind];ext Æ5;rw[Ę #[hc,hl],hp]
def tR Ő (hl:Ū=↑y):xr cs i f J=↑y:=by
 unfold xr;ext Æ5;rw[Ę hc,hl]
def nY (h:g J=↑y):rM g J=↑(.nx J):=Ç2
def zx {F:Ap}{u:Ê}{xs:Ņ}(h:u J=↑xs) (hF:F xs=↑y):zv F u J=↑y:=by change (u J).bind _=_;rw[h];show hF
def zq {u:Ê}{xs:Ņ}(h:g J=↑x) (hu:u J=↑xs):za g u J=↑(x::xs):=by change Ě _=_;rw[h];change (u J).bind _=_;rw[hu];rfl
theorem xR {u:Ê}{xs:Ņ}(hu:u J=↑xs) (hl:xs.length<=100):tupS u J=↑(.tup xs):=by change (u J).bind _=_;rw[hu];show Ę (Br hl ())
def zE Î1(h:g J=↑(.bl b)):zO g J=↑b:=Í9
theorem sN {ts:Ņ}(h0:J[i]?=↑↑(ÿ (.lst ts))) (h:g J=↑y) (hl:ts.length<=10000):vj i g J=↑(.nx (J.set i ↑(ÿ (.lst (ts++[y]))))):=by
 unfold vj;ext Æ5;rw[h];show Ę (En hl ())
def mY Ĝ Ã4{J':Ev}{L:ó}(h:g Š=↑(.nx J')) (hL:wC is J'=↑L) (hn:ž=n):xo N n is g ws=↑(yA .zj L):=by unfold xo;rw[Ę hn,h];change (wC is J').map _=_;rw[hL];rfl
def tJ Ĝ Ã4{y:T}(h:g Š=↑(.rt y)) (hn:ž=n):xo N n is g ws=↑y:=by unfold xo;rw[Ę hn,h];rfl
def Zv Ð9 Ì1 ē{y:T}{L:ó}(h:f J=↑y) (hL:wC is J=↑L):nq is f J=↑(.rt (yA y L)):=by ext Â7;change É4 _=_;rw[hL];rfl
def zp {a b:Sm}{J J':Ev}{o:Á Out}(h:a J=↑(.nx J')) (h':b J'=o):zm a b J=o:=by change (a J).bind _=o;rw[h];show h'
def wy {a b:Sm}ē{y:T}(h:a J=↑(.rt y)):zm a b J=↑(.rt y):=by change (a J).bind _=_;rw[h];rfl
def y6 {c:Ŭ}{g h:Sm}ē{o:Á Out}(e:c J=↑ Í) (e':h J=o):yf c g h J=o:=Ä7
def xq {c:Ŭ}{g h:Sm}ē{o:Á Out}(e:c J=↑true) (e':g J=o):yf c g h J=o:=Ä7
def xX Ð9{f:Ê}{g:T->Ev->Á Ev}{b:Sm}ē{ts:Ņ}{o:Á Out}(h:f J=↑ts) (h':xy is g b ts J=o):xY is f g b J=o:=by change Ă _=o;rw[h];show h'
def zM Ä9 Ì1 ē{y:T}(h:f J=↑y):zG i f J=↑(.nx (É6)):=È0
def fE Ì1{g:T->Ev->Á Ev}{J J':Ev}{y:T}(h:f J=↑y) (h':g y J=↑J'):mT f g J=↑(.nx J'):=by ext Â7;change (g y J).map _=_;rw[h'];rfl
def ym {N:Ã}{n:Nat}{g:Sm}{ys:Ņ}{y:T}(h:g (qc N ys)=↑(.rt y)) (hn:ys.length=n):zR N n g ys=↑y:=by unfold zR;rw[Ę hn,h];rfl
abbrev im (t:T):Á W:=↑(.im t)
abbrev nT (n:Nat):T:=þ (n:Int)
def x9 (h:g J=↑y):retS g J=↑(.rt y):=Ç2
def uM Î1(h:g J=↑(.bl b)):wt g J=↑b:=Í9
def r0 {f:Ŭ}Î1(h:f J=↑b):ui f J=↑(!b):=È0
def ny {f g:Ŭ}Î1(h:f J=↑ Í) (h':g J=↑b):tq f g J=↑b:=by ext Â7;show h'
def om {f g:Ŭ}Î1(h:f J=↑true) (h':g J=↑b):qA f g J=↑b:=by ext Â7;show h'
def hV {f g:Ŭ}(h:f J=↑ Í):qA f g J=↑ Í:=by ext Â7;rfl
def vG {m:Str}{N:Ã}{k:Ad}Ő (hl:ï) (h:k (uw N [á])=↑y):xv cs m N k i J=↑y:=by
 unfold xv;ext Æ5;rw[Ę #[hc,hl],h]
end
end L5
namespace L5
open Œ í L2 L3
open Ú hiding St
abbrev Xm:=Ev->Á (T×Ev)
abbrev Xt:=Ev->Á (Bool×Ev)
def sR (f:Xm) (t:zw):Prop:=∀ S0 Z0 S Z Y J y J' Q,ŋ->f J=↑(y,J')->(Ĭ)->t Y S Q
def qM (f:Xt) (t:yx):Prop:=∀ S0 Z0 S Z Y J b J' Q,ŋ->f J=↑(b,J')->(∀ S',FR S0 Z0 S' Z Y J'->Q b S')->t Y S Q
@[simp] def eC (f:Ŭ):Xt:=fun J=>(f J).map λ y=>(y,J)
@[simp] def fA (f:Xm):Xt:=fun J=>Ă λ r=>match r.1 with
 | .bl b=>↑(b,r.2)
 | _=>none
@[simp] def notM (f:Xt):Xt:=fun J=>(f J).map λ r=>(!r.1,r.2)
@[simp] def orM (f g:Xt):Xt:=fun J=>Ă λ r=>if r.1=true then ↑(true,r.2) else g r.2
@[simp] def andM (f:Ad) (g:Xm):Xm:=fun J=>Ă λ x=>match x with
 | .bl k=>if k=true then g J else ↑(.bl Í,J)
 | _=>none
@[simp] def pD ü Ç4 ţ:Xm:=fun J=>match J[j]? with
 | ľ=>if É3/\ï then Ě λ xs=>(Â1).map λ r=>(r.1,xQ [j] r.2 J) else none
 | _=>none
@[simp] def lF ü Ç4 (F:Ç) (e:Xm):Xm:=fun J=>match J[j]? with
 | ľ=>if É3/\ï then (e J).bind λ q=>(v7 F q.2 [č j,ş q.1]).map λ r=>(r.1,xQ [j] r.2 q.2) else none
 | _=>none
abbrev Ga:=Ev->Á (Ŗ)
def mr (g:Ga) (u:zY):Prop:=∀ S Z Y J ys Q,ER õ->g J=↑ys->(∀ ds S',Sx S S'->mK S' Z Y ys ds->Q ds S')->u Y S Q
@[simp] def lB:Ga:=λ _=>↑[]
@[simp] def fq (f:Ad) (g:Ga):Ga:=fun J=>Ă λ x=>(g J).map (ş x::·)
@[simp] def sr Ç4 (g:Ga):Ga:=fun J=>match J[j]? with
 | some ↑(ÿ _)=>(g J).map (č j::·)
 | _=>none
@[simp] def oj (F:Ç) (g:Ga):Xm:=fun J=>Ě λ ys=>if (į).Nodup then (v7 F J ys).map λ r=>(r.1,xQ (į) r.2 J) else none
section
variable {R:Rk}{Ì1}{t u:zw}{e:Xm}{F:Ç}{Ċ}{Ñ1}
def Mc:mr lB tw:=λ S Z Y J ys Q hE e hq=>by cases e;show hq [] S (.refl S) rfl
def Mb {g:Ga}{u:zY}(h:xP f t) (h':mr g u):mr (fq f g) (t6 t u):=λ S Z Y J ys Q hE e hq=>by
 let#[x,e1,e2]:=ż;let#[xs,e3,rfl]:=Ax.mp e2;show h õ x _ hE e1 λ d S1 s1 r1=>h' S1 Z Y J xs _ (hE.grow s1) e3 λ ds S2 s2 r2=>hq _ S2 (s1.trans s2) #[d,ds,rfl,Sn.sx (xW s2) x r1,r2]
def Md {g:Ga}{u:zY}(h':mr g u):mr (sr j g) (t6 (zX j) u):=λ S Z Y J ys Q hE e hq=>by
 unfold sr at e;split at e
 .rename_i c hc;let#[xs,e3,rfl]:=Ax.mp e;let#[p,o,h1,_]:=hE.ow j c hc;ext ĩ;show h' õ xs _ hE e3 λ ds S2 s2 r2=>hq _ S2 s2 #[_,ds,rfl,h1,r2]
 .cases e
def eP {g:Ê}{u:zY}Å4:sR (pD ś) (wO Ħ u):=λ S0 Z0 S Z Y J y J' Q Fr e hq=>by
 have:rA ś (λ y J=>J++[↑(.im y)]) J=↑(.nx (J'++[↑(.im y)])):=by
  unfold pD at e;unfold rA;split at e
  .rename_i h0;split at e
   .rename_i hc
    try rw[h0]
    dsimp only;rw[Ę hc];ext Ì2;ext Ŧ;rw[e1,Ba,e3];rfl
   .cases e
  .cases e
 exact jP h Fr this λ y' J'' q d S' sx F' r=>?_;have:=Out.nx.inj q;let#[a,b]:=List.append_inj' this rfl;cases b;subst a;show hq d S' sx F' r
def ND (h:sR e t):sR (lF cs m j F e) (wO Ħ (t6 t tw)):=λ S0 Z0 S Z Y J y J' Q Fr e hq=>by
 unfold lF at e;split at e
 .rename_i a c fs hj;split at e
  .rename_i hc;let#[#[v,J1],e1,e2]:=ż;ext Ŧ;ext Å1;exact#[p,c,b,rfl,h2,hc.1,h3.ip hc.2,h S0 Z0 õ v J1 _ Fr e1 λ d S1 s1 F1 r1=>?_];show iO (ys:=[č j,ş v]) F1 #[Æ p,[d],rfl,h1,d,[],rfl,r1,rfl] #[] e3 λ d' S' sx F' rr=>hq d' S' (s1.trans sx) F' rr
  .cases e
 .cases e
def NF {g:Ga}{u:zY}(h:mr g u):sR (oj F g) (kE (yr F) u):=λ S0 Z0 S Z Y J y J' Q Fr e hq=>by
 let#[ys,e1,e2]:=ż;split at e2
 .rename_i nd;ext Ŧ;exact h õ ys _ Fr.er É9;show iO (Fr.grow s1) r1 nd e3 λ d S' sx F' rr=>hq d S' ((xW s1).trans sx) F' rr
 .cases e2
)
example:=`(
example À:=["Keeper","Taker"]
example Á:=Int×Int
example Â:=(cI 0)
example Š _:=x Af A outer s H E
example Ù _:=x rfl rfl
example Ã _:=x Sc hn hb λ f Af A outer s H E hr=>EY f Š trivial Sc.nd Ù hr
example Ů:=ps.length
example É2:=(zH st)
example Ä(Sc:we N ps É2:=by show pS) (hn:n=Ů:=by rfl):=0
example Å:=(cI 1)
example Ě:=(zc 0)
example Æ _:=x zi Ě
example Ç _:=x P w K mg base
example È:=Option
example É:=List Str
example ń:=(zh 2)
example É8:=(za ń zg)
example Đ:=(zh 1)
example Ê:=(za Đ É8)
example Ë:=false
example Á6(hc:X.calm=true):=0
example ŭ:=(yG X N' scope cl C s H fp)
example Ì(_:Hq scope N'=true) (hi:tE X tg iter ti) (hg:∀ cl C s H fp,N'.Nodup->uo ŭ tg g) (hf:∀ cl C s H fp,N'.Nodup->mq ŭ ifs tcc) (he:∀ cl C s H fp,N'.Nodup->PD ŭ elt te) (nd:N'.Nodup) Á6:=0
example Í:=by intro f Af A outer s H E hc nd hN hS hr;show#[_,pA,rq]
example Î:=List Bd
example Ï:=F.os.length
example Ð:=xg yM Ç N x É2 f Š
example Ñ:=(zc 3)
example Ĳ:=List (È Nat)
example Ò:=List (É × Ĳ)
example Ó:=(qs.getLast?.map (·.2))
example Ô:=(zc 1)
example Õ:=(zh 0)
example Ń:=fresh
example Ö _:=x F last Ń
example Ø(Af:Value) (A:Around) (outer:List Env) (s:Shared) (H:Hp) (E:XK):=0
example Ú:=(.Attribute o m apos)
example ä{P:Program}{w:World}{K:Ac}{mg:Aq}{base:Heap}:=0
example Ì6{st:Stmt}{N ps:É}{k n:Nat}:=0
example Û ä{x:Str}Ì6:=0
example Ü:=List Nat
example Ý:=(cS .zj)
example Þ:=.int
example ć _:=x _ _
example ß:=by let#[p,c,fs,rfl,g2,g3,g4,g5]:=g1;simp![zf] at q1;subst q1;let#[C,dx,vs,j1,j2,j3]:=p1 ć g2;let#[C',j4,j5,j6]:=h3 c g3;cases j1.eq j4
example à:=List W->È T
example á:=(zc 2)
example â:=(cI 2)
example ã:=(za Õ (za Đ zg))
example È7{F:zr}:=0
example å È7{s:Sl}(hs:1<=s.gv/\0<=s.gt):=0
example æ:=(zT Ë)
example ç:=List (Á)
example è(F:zr):=0
example é:=if_pos
example ê _:=x (k+1) ps (yr (xo N n is g))
example ë:=(zb Æ Â)
example Ă:=decide
example ì:=F.ws.filter λ w=>Ă (w.f=p)
example í:=(zc 4)
example î _:=x pu zA give get
example ű:=F.zA s.pu
example ï _:=x s.pu (ű) s.gv s.gt
example ð _:=x À "where" ["self"] sV
example ñ:=.lst
example ò:=last.getD
example ó È7(ok:F.Ok):=0
example ô{last:Î}{Ń:Ü}(s:St Ö):=0
example õ:=ya k (A.deeper (envOfC x É2 s.heap.objs.size f Af))
example ö:=(zc 5)
example ø:=(cS (.str "keeper"))
example ù:=(ze Ù rfl)
example ú _:=x Sc hc hi (λ cl C s H fp=>hg cl C s H fp nd) (λ cl C s H fp=>hf cl C s H fp nd) (λ cl C s H fp=>he cl C s H fp nd)
example û _:=x S0 Z0 S Z Y J
example ü:=∃ w∈F.ws,w.f=p
example ý:=by with_reducible first | show Yk _ | exact rp (R:=xm) Xo ?_ ?_ | exact eQ (R:=xm) ?_ | apply Yn | apply Yo | show Ym ć | show Yl _
example þ{A B:Int}:=0
example ÿ _:=x F last p
example Ę:=X.env
example Ā:=(backToKw Ah (keywordEach [] Ę))
example ā(pu:Bool):=0
example ă:=(.ListComp elt [#[tg,iter,ifs,0]] scope pos)
example Ą:=(za (zh 3) zg)
example ą _:=x (λ u s1 #[x,H1,I1,rx,a,C,dx,fs,ex,ea,c,me,l,q]=>?_) λ _ _ z=>(hn ć z).elim
example Ć _:=x À "steps" ["self"] oS
example Ĉ _:=x (zO (zb æ (iE 3) â)) (vj 4 (tupS (za (zh 5) (za (zv tN (za (ky 3 Â) (za (ky 3 Å) zg))) zg)))) yg
example ĉ _:=x hn ht hW I r1 r2 z λ d S' q=>#[λ y v H' a1 a2 a3=>q.2 y σ H' (r1.ext a2) a2 a3,λ y=>(q.1 y).2 y]
example Ċ:=by cases pu <;> rfl
example ċ:=zS s.pu q
example Č:=holding [ov] (getMethod ov m pl)
example č(p:Nat):=0
example Ď:=(.Call Ú (e::es) [] Ah)
example ď:=List.range
example đ(F:vB X.prog X.w X.K X.mg X.base cs m k ps sp):=0
example É3:=T.int
example Ē:=fr.map λ(k:Nat)=>É3 (k:Int)
example ē _:=x F.A F.B
example Ĕ:=by rintro⟨p,hp,h1,h2⟩
example ĕ:=if_neg
example Ė:=(cI 3)
example ė:=by constructor
example Ŭ:=uf (l s) x.2
example ę:=∃ w∈rh (l (!s)) sh x.1 (Ŭ),(w.1<=y.1\/w.1<=z.1)/\(w.2<=y.2\/w.2<=z.2)
example ě:=(zb Æ Å)
example Æ2:=(ps.map zu)
example Ĝ:=(.im (ñ Æ2))
example ĝ(hn:∀ v s,¬ X.xe v s):=0
example Ç3:=(tupS (za (zh 5) (za (zh 6) zg)))
example Ņ:=(za (zh 5) zg)
example Ç6:=(zb æ Ñ Â)
example Ğ _:=x (zO Ç6) Ç3 (tupS (za (zh 6) Ņ))
example ğ _:=x (retS (cS (.bl Ë))) yg
example Ġ:=Gd A B b
example Æ5 _:=x (yN st) t
example ġ _:=x st k hs λ X=>∃ t,xG X Æ5/\zV wX g t
example Ģ:=#[[],last,rfl,λ r hr=>by cases AI.mp hr;show#[s.len,s.gd],rfl,AZ _]
example ģ:=(zb zi Ñ Â)
example Ĥ:=by dsimp only;lia
example Æ7 _:=x 0 "stand"
example ĥ:=(xr À Æ7)
example Ħ(hW:oq X EW σ fl Q W) (I:Inv X EW σ H s) (r1:yC X.K H Y σ) (r2:zK X.K H S):=0
example ħ:=(zb Æ â)
example Ĩ:=(yj (zy 6) (yj (zy 7) vd))
example À7:=(zh 4)
example ĩ:=(za À7 zg)
example Ī:=["Keeper"]
example ī:=vK (pu:=s.pu).mp
example Ĭ:=by let#[t,h1,h2]:=EY f Š hr;show#[t,h1,λ ds S Q h=>iT h2 h]
example ĭ:=(.Call Ú [] [] Ah)
example Į:=by rw[Ci,Cg];lia
example į _:=x xS (cI 10)
example İ:=by split <;> lia
example Î3:=ò p []
example Æ8{last:Î}(hg:∀ p,Gd ē (Î3)):=0
example È8{q:Á}(hq:yp F q):=0
example ı È7 Æ8 {p:Nat}È8:=0
example Ë9:=(by rw[e];simp)
example ĳ:=by have g2:Gd A B x:=h x Ë9;have l1:=g1.rC hA.1;have l2:=g2.rC hA.1
example Î5:=yw s.pu q
example Ĵ:=min (Î5+s.gt) (F.zA (!s.pu))
example ĵ:=by .rintro⟨k,h1,_⟩;exfalso;have:0<=(k:Int)*give:=Cj ⋯ ⋯;lia
example Ķ:=(za Õ zg)
example ķ:=["Taker"]
example ĸ:=p++[rk s x]
example Ĺ _:=x Y S ć (λ d S2 q=>#[λ y=>hE.rt ć (q.1 y),λ y=>hE.nx ć (q.2 y)]) z
example ĺ(last:Î):=0
example Ļ:=by let#[w,hw,rfl]:=Aw.mp hc
example Ë5:=(zy 0)
example ļ:=(w6 2 (yj Ë5 (yj (zy 1) vd)))
example Ï4{is:Ü}:=0
example Ľ{m qual:Str}{cs:É}Ì6{g:Sm}Ï4:=0
example ľ _:=x [0] À "check_turn" 0 oI
example Ŀ:=#[q'.1,λ y a H' c1 c2 c3=>#[a,rfl,q'.2 y a H' c1 c2 c3]]
example ŀ:=by have p0:=hb p hp;have g0:0<=zS s.pu p/\0<=yw s.pu p:=by unfold zS yw;ext İ
example Ł:=F.os.getD p Ë
example ł:=Aw.mpr #[w,hw,rfl]
example ņ:=Bool->È Int
example Ň:=ñ (bs.map bT)
example Ç1:=.ref a
example ň _:=x RV λ v _ H'=>∃ a,v=Ç1/\Q a H'
example ŉ:=by let#[x,hx,hp]:=B9.mp hp
example Ŋ _:=x n (g+give) (yT (t-get))
example ŋ _:=x zi Ô
example É6:=rH (pu:=s.pu).mpr
example Ō:=by rw[uA,rG] at h2;show#[p,hp,É6 (by rw[uA,rG];lia)]
example ō:=∀ r,qs++yQ r Ó=yQ (p++r) none
example Ŏ:=eP h û y J1 _ Fr e1 λ d S' sx F' r=>#[λ he=>?_,λ he=>?_]
example ŏ(F:Fm K cs m qual st):=0
example Ő:=.tup
example ő:=(retS Ý)
example Œ _:=x hA hB hl' (λ x hx=>gb x (Ay _ hx)) (λ x hx=>gc x (Ay _ hx)) hs
example œ:=(zb zi Ñ Å)
example Ŕ _:=x F Sc (λ ds S Q h=>by rw[h.len,hn]) λ Af A outer s H E hr=>?_
example ŕ:=callWith Ah f first (backTo Ah (starEach (e::es) Ę)) Ā
example Ŗ:=(zb (yX true) ö Ý)
example ŗ:=congrArg
example Ř:=∃ k:Nat,zF b (xj s.pu (ċ-k*s.gv) (Î5+k*s.gt))=true
example ř(hb:qU m qual st ps:=by show bA):=0
example Ś:=[↑a0,↑a1,none,none,none,none,none,none]
example ś{b c:Bd}(h:Ġ) (h':Gd A B c):=0
example Å3:=Al.mp e
example Ŝ:=by let#[#[y,J1],e1,e2]:=Å3
example ŝ:=by assumption
example Ş:=List T
example ş:=by subst ex;obtain rfl:u=Value.ref a:=rx;exact il I1 ea c me l ?_
example š(q:Á):=0
example Ţ:=standAt apos.atName
example ţ:=by simpa [lr] using hk
example Ť:=rH (pu:=s.pu).mp
example ť:=(by with_reducible first | show cg | show cj | show ck | show cm)
example Ŧ:=by have h3:(wb a b q).1<=A/\(wb a b q).2<=B:=by simpa [pU] using h2
example Ë2:=(zc 6)
example Ç5:=(zc 7)
example ŧ _:=x 3 Ë2 (zv wB (za Ç5 (za (cL 3 Ë2 (zh 7)) zg)))
example Ũ:=λ v s1 #[x,H1,I1,_,q1]=>#[σ,H1,I1,q1]
example ũ:=(za (cS (.str "taker")) zg)
example Ū:=(yX Ë)
example ū:=by simp;lia
example ů:=(k+1:Nat)
example Ű:=callWith Ah f first (backTo Ah (starEach [] Ę)) Ā
example Ų:=(zT true)
example ų:=(_:É)
example Ŵ:=b.length
example ŵ:=(za Ô zg)
example Ŷ:=(za Â (za Â zg))
example ŷ:=(λ z=>↑(T.bl z))
example Ÿ:=by dsimp only at e2;split at e2
example Ź(b c:Bd):=0
example ź:=(zL.go ho.mo r1 r2 z λ x S1 v H1 g1 q1 e1 p1=>?_)
example Ż:=λ EW s σ H D Q W hW I #[Y,S,r1,r2,z]=>?_
example ż:=[im (zC F),im (nT p),im (rT l),none,none]
example Ž _:=x (is:=[2]) (g:=zy 2)
example ž:=(tupS (za Ė (za â zg)))
example ſ _:=x S0 Z0 S1 Z Y
example À0(P:Program) (w:World) (K:Ac) (mg:Aq) (base:Heap):=0
example À1:=(.new hp _)
example À2:=Ă (y.2=.local)||Ă (y.2=.free)||Ă (y.2=.cell)
example À3:=(ò w.t [])
example À4:=(xk Ö).getD p []
example À5(zA give get:Int):=0
example À6:=by simp![zf]
example À8:=(tupS (za â (za Ė zg)))
example Ï5(cs:É) (m:Str):=0
example À9 Ï5 (j:Nat) (F:à) (g:Ev->È (Ş)):=0
example Á0:=by subst h2;show ym (zp (zM rfl) (zp (xX rfl h1) rfl)) rfl
example Á1(_:Ht N' pick) (_:X.env.scope=esc) (_:X.N=N):=0
example Á2(hs:∀ x,foldedSetIterable iter Ę x=pure x):=0
example Á3:=(zb zi í Â)
example Á4:=[↑(.im (zC F)),↑(.im (Þ p)),none]
example Á5:=by let#[L,e3,rfl]:=Ax.mp e2
example Á7{g:T->Ev->È Ev}:=0
example Ð0 _:=x À "step_on" 0 mG
example Á8:=(rB Ð0 (za Â (za Đ zg)))
example Á9:=(F.ws.zipIdx).filter λ wi=>Ă (wi.1.f=p)
example É7:=hb.xV p hp
example Â0:=by have h2:=Ť h1;have h3:=ī (show yp F p from É7)
example Â1 _:=x (uj st) (yN st) É2 .none kV doc pm an Af
example Â2:=[a,b,c,d]
example Â3:=(za (zb zi ë Â) zg)
example Â4:=(za (zb zi ë Å) zg)
example Â5:=(cS (.bl true))
example Â6:=(za (zb zi í Å) zg)
example Â7:=List (List Int)
example Â8:=wB [Þ y,(xn d (.inl k)).getD (Þ y)]
example Â9(hR:∀ d S',R d S'->tu X.K H RV Q d S'):=0
example Ã0:=by .subst x;simp;lia
example Ã1 _:=x (zS s.pu p) (yw s.pu p)
example Ã2{α:Type}:=0
example Î2:=last.length
example Ã3{last fo:Î}(hl:fo.length=Î2):=0
example Ã4 _:=x rfl (ze Ù (cZ F s.pu))
example Ã5:=by obtain⟨m,rfl⟩:∃ k,m=k+1:=#[m-1,⋯]
example Ã6:=assignEach
example Ã7:=l.length
example Ã8:=(zb ŋ Â)
example Ã9:=(zb ŋ Å)
example Ä0:=(b.map zu)
example Ä1{k':Nat}(hr:ya k' X.A) (ho:PD X o to):=0
example Ä2 _:=x (RV:=λ _ H'=>D.nx σ H') F (hr.mono hk) ho
example Ä3:=Ő [Þ F.A,Þ F.B]
example Ä4 È7{last:Î}{w:Wy}(hb:Gd ē À3):=0
example Ä5 _:=x (model X.prog X.w) X.A
example Ä6:=by have h1:=BC.mp h;have hp:=hb p Au;exact .inl ?_
example Ä7{a0 a1 a2:W}{d:List (Key×T)}{S:Ş}:=0
example Ä8:=(0<=q.1/\q.1<=F.A)/\0<=q.2/\q.2<=F.B
example Ä9:=jX (hg w.t) hq
example Å0:=(.own (.zW d))
example Å1:=(uf (l s) y.2)
example Å2:=by dsimp only at h1 h2
example Å4:=Ev->È Bool
example Å5:=(wC is r.2).map λ L=>.rt (yA r.1 L)
example Å6(bs:Î) (b:Bd):=0
example Å7:=ts.length+us.length
example Å8:=by unfold yT;ext İ
example Å9:=h w w1 (by exists w2)
example Æ0:=∀ i,xi (l.getD i []) (m.getD i [])
example Æ1:=(ve zg)
example Æ3:=yQ (p++[x]++r) none
example Æ4:=bd.map (wb w.a w.b)
example Æ6(n:Nat):=0
example Æ9:=by unfold wb yT;dsimp only;ext İ
example Ç0:=λ c hc=>h c (by rw[e];simp[hc])
example Ç2:=r.1<=p.1/\r.2<=p.2
example Ç4:=(zv vI (za Ě zg))
example Ç7:=["borders","joined","border"]
example Ç8:=(zO (zb Ū í Ý))
example Ç9:=(xv À "first_way" ["self"] mJ 0)
example È0:=(oj gJ (fq À7 (sr 6 (sr 7 lB))))
example È1:=(rows.map yV)
example È2:=(yt is J)
example È3{g:Ev->È (Ş)}{u:zY}(h:vP g u):=0
example È4 _:=x y d e H S Q h1 h2 h3
example È5(g t:Int):=0
example È6:=by split <;> assumption
example È9:=(0<=p.1/\p.1<=A)/\0<=p.2/\p.2<=B
example É0:=by let#[w1,w2]:=A7.mp hw
example É1 _:=x pu (xj pu x y)
example É4:=tS (wz ÿ)
example É5:=nR ć ć (by rw[s.len];show hp)
example É9:=(xr À 0 "floor")
example Ê0:=L4.wu rows
example Ê1:=(ñ ((o.map (rk true)).map yV))
example Ê2:=vx is c b (n+1) J
example Ê3:=(wi.2:Int)
example Ê4:=(zE (ze (ze ù rfl ho) rfl tk))
example Ê5 _:=x (EP X EW σ RV) W s
example Ê6:=by let#[#[f,fd,h1,h2,h3],hm]:=F
example Ê7:=by rw[ĕ (by rw[he];decide)] at e2;cases e2
example Ê8(hs:Ò):=0
example Ê9:=.Subscript (.Name "lows" _) ć
example Ë0:=yH.mpr #[p,hp,A4 _,A4 _]
example Ë1:=(EZ++[last])
example Ë3:=(zb y8 (zb į (cI 45)) (cI 9))
example Ë4:=(zc 9)
example Ë6(AD:AE X e es) (Ao:AL X Ah es):=0
example Ë7(EY:mI Ç N qual ġ:=by ext Í):=0
example Ë8:=(tupS (za (cI 4) (za Å zg)))
example Ì0:=(ñ ((b.map (rk Ë)).map yV))
example Ì1:=by rw[List.foldl_append];rfl
example Ì2(F:Fy K mg x st):=0
example Ì3(ha:PD X a ta) (hb:PD X b tb):=0
example Ì4 _:=x hs.1 hs.2 100
example Ì5:=by have e1:(ů:Int)*s.gv=k*s.gv+s.gv:=Į
example Ì7:=wb a b r
example Ì8:=bs.foldl
example Ì9:=wz F l p
example Í0:=(za À7 (za Â (za Á3 zg)))
example Í1(hr:ya k X.A) (ho:PD X o to):=0
example Í2 _:=x ſ J o J' E (F.grow s1) e2 h1 h2
example Í3:=by ext ŉ;let#[y,hy,rfl]:=Aw.mp hp
example Í4:=by unfold sC;exact A_.mpr #[w,w1,?_]
example Í5 _:=x [] (zO (zb qo ö (zb Æ Ñ))) W_
example Í6 _:=x ["self","times","way"] 3 [0]
example Í7(b o:ç) (hl:Ŵ+o.length<64):=0
example Í8:=[a,b,c]
example Í9:=(qI A B a b bd)
example Î0:=vi î n g t
example Î1:=List α
example Î4:=uX last (xk Ö)
example Î6:=(zc 8)
example Î7:=(xJ (zb Æ Ė))
example Î8:=(rM (zv mz ã))
example Î9:=l true
example Ï0:=(zE (ze Ù ht))
example Ï1:=(p.foldl sG [])
example Ï2:=List (Î)
example Ï3:=(p.foldl tX wc)
example Ï6 _:=x Ç cs m
example Ï7 _:=x cs m sp to
example Ï8(hb:qU x x st ps:=by show bA):=0
example Ï9{b:Bd}:=0
def NG {g:Xm}(h:yD f t) (h':sR g u):sR (andM f g) (md t u):=λ S0 Z0 S Z Y J y J' Q Fr e hq=>by
 let#[x,e1,e2]:=Å3;exact h S Z Y J x _ Fr.er e1 λ d S1 s1 r1=>?_;split at e2
 .cases Vw.bl r1;split at e2
  .rename_i hb;dsimp only;rw[é hb];show h' ſ J y J' _ (Fr.grow s1) e2 λ d S' sx F' r=>hq d S' ((xW s1).trans sx) F' r
  .rename_i hb;dsimp only;rw[ĕ hb];cases e2;show hq _ S1 (xW s1) (Fr.grow s1) vp
 .cases e2
def NA {f:Å4}{t:yx}(h:vm f t):qM (eC f) t:=λ S0 Z0 S Z Y J y J' Q Fr e hq=>by
 let#[x,e1,e2]:=Ax.mp e;cases e2;show h S Z Y J ć Fr.er e1 λ S1 s1=>hq S1 (Fr.grow s1)
def N9 (h:sR e t):qM (fA e) (cJ t):=λ S0 Z0 S Z Y J b J' Q Fr e hq=>by
 let#[x,e1,e2]:=Å3;let#[x,J1]:=x;exact h û x J1 _ Fr e1 λ d S1 s1 F1 r1=>?_;ext Ÿ
 .cases e2;simp![Sn] at r1;subst r1;show hq S1 F1
 .cases e2
def NC {f:Xt}{t:yx}(h:qM f t):qM (notM f) (nX t):=λ S0 Z0 S Z Y J b J' Q Fr e hq=>by
 let#[#[x,J1],e1,e2]:=Ax.mp e;cases e2;show h û x J1 _ Fr e1 λ S1 F1=>hq S1 F1
def NB {f g:Xt}{t u:yx}(h:qM f t) (h':qM g u):qM (orM f g) (nW t u):=λ S0 Z0 S Z Y J b J' Q Fr e hq=>by
 let#[#[x,J1],e1,e2]:=Å3;exact h û x J1 _ Fr e1 λ S1 F1=>?_;ext Ÿ
 .rename_i hb;rw[é hb];cases e2;show hq S1 F1
 .rename_i hb;rw[ĕ hb];show h' ſ J1 b J' _ F1 e2 λ S2 F2=>hq S2 F2
@[simp] def dR (c:Xt) (g h:Sm):Sm:=fun J=>(c J).bind λ r=>if r.1=true then g r.2 else h r.2
def Nw {c:Xt}{tc:yx}{g h:Sm}{t u:ye}(hc:qM c tc) (hg:zV R g t) (hh:zV R h u):zV R (dR c g h) (kB tc t u):=λ S0 Z0 S Z Y J o E F e P=>by
 let#[#[b,J1],e1,e2]:=Å3;exact hc û b J1 _ F e1 λ S1 F1=>?_;ext Ÿ
 .rename_i hb;rw[é hb];show hg ſ J1 o E F1 e2 P
 .rename_i hb;rw[ĕ hb];show hh ſ J1 o E F1 e2 P
@[simp] def iC (e:Xm):Sm:=fun J=>(e J).map λ r=>.nx r.2
def N1 (h:sR e t):zV R (iC e) (n_ t):=λ S0 Z0 S Z Y J o E F e P=>by
 let#[#[y,J1],e1,rfl]:=Ax.mp e;show h û y J1 _ F e1 λ d S1 s1 F1 r1=>P S1 Z Y F1
@[simp] def lj (e:Xm):Sm:=fun J=>(e J).bind λ r=>match r.1 with
 | .bl b=>↑(.rt (.bl b))
 | _=>none
def Nh [Cl R] (h:sR e t):zV R (lj e) (pZ t):=λ S0 Z0 S Z Y J o E F e P=>by
 ext Ŝ;exact h û y J1 _ F e1 λ d S1 s1 F1 r1=>?_;ext Ÿ
 .cases e2;show P d S1 F1.sx (Cl.of (λ _=>nofun) (Sn.sx (vg F1.zz) _ r1))
 .cases e2
@[simp] def jy (is:Ü) (e:Xm):Sm:=fun J=>(e J).bind λ r=>Å5
def Ni Ï4(h:sR e t):zV wX (jy is e) (pZ t):=λ S0 Z0 S Z Y J o E F e P=>by
 ext Ŝ;ext Á5;show h û y J1 _ F e1 λ d S1 s1 F1 r1=>P d S1 F1.sx (F1.ni e3 r1)
end
section
variable {Û}{g:Sm}{Ï4}
def J_ Ì2 (Sc:we N ps É2) (hn:n=Ů) (hb:jc st x x ps)
  (EY:∀ (f:Addr) Ø,õ->
   ∃ t,xG (Ð).xA Æ5/\zV wX g t):FD Ç x ê:=by
 let#[f,fd,F,hm]:=F;exact#[#[f,fd,kd Ŕ,hm,F.kp,F.binds hb],yr.mo];ext Ĭ
end
end L5
namespace L3
open PySem PySem.Spec L2
open PyProof.Rows hiding St
structure vB À0 Ï5 (k:Nat) (ps:É) (sp:yZ):Prop where
 ex:∃ (f:Addr) (fd:FuncData),xb Ç (oM P w) k f fd ps (mO K sp)/\Binds K fd ps []/\∀ c∈cs,∃ C,sU K c C/\vU K C/\Meth K C m f
 mo:tG sp
theorem vB.fd ä{cs:É}{m:Str}{k:Nat}{ps:É}{sp:yZ}(F:vB Ï6 k ps sp):tH Ï6 k ps (jE sp):=by
 let#[#[f,fd,h1,h2],hm]:=F;exact#[#[f,fd,(xb.never h1).imp λ vs H Q E #[ds,S,r1,r2,z]=>#[ds,S,r1,r2,hm ds S ć (λ d S' q=>#[λ _=>q.2,λ z=>?_]) z],h2],jE.mo hm];rw[q.1] at z;cases z
section
variable {X:Cx}{fl:Bool}{pos Ah apos:Pos}{o e:Expr}{es:List Expr}{to:zw}{tA:zY}{cs:É}{m:Str}{k:Nat}{ps:É}{sp:yZ}{pl:Sem Bool}
 {EW:Ak}{s:Shared}{σ:St}{H:Hp}{Q:Addr->Hp->Prop}{W:Aj}{R:DK}{RV:VK}{Y:yc}{S:SS}
def Zt {f:Addr}{fd:FuncData}{sp:Sp}{us:Ai}{vs:List V}(F:xb X.prog X.w X.K X.mg X.base (oM X.prog X.w) k f fd ps sp) (hr:ya k X.A) (hb:Binds X.K fd ps []) (hW:∀ v s',XP X EW fl σ Q v s'->W v s') (I:Inv X EW σ H s) (r:Vals vs us)
  (q:sp vs H ň):wpAny Ä5 (call (.ref f) us) Ê5:=by
 have hl:us.length=Ů:=by rw[<- r.length];show F.len ć ć q
 have BJ:=hb s us I.yB (by rw[BR];show hl);rw[BR] at BJ;exact wpAny_call (codeAny_mono (F.run X.A X.stack s H #[us,[]] us vs RV _ hr I.cE BJ r q) λ r s' hq=>?_);cases r with
 | error v=>
  let#[a,H',rfl,os,bare,un,zt,ie,f1,a',ea,z]:=hq;cases ea;show hW ć #[a,EW,σ,H',rfl,λ _=>#[rfl,rfl],I.WB (ch:=[]) os un zt bare (λ b z=>absurd z #[]),ie,.inr f1,z]
 | ok fl=>
  cases fl with
  | ret u=>show I.after hq
  | _=>show False.elim hq
def UM đ Í1 (ha:yS X (e::es) tA)
  Ë6 ĝ
  (ht:eval Ď Ę=(do
   let ov <- eval o Ę
   Ţ
   let (f,first) <- Č
   ŕ))
  Ħ (z:wO Ï7 tA Y S R) Â9:
  wpAny Ä5 (eval Ď Ę) Ê5:=by
 ext Ê6;exact PySem.W.methodCall_KW (pl:=pl) (za4 (ho.pe EW s σ H (λ x H1=>∃ a C dx fs,x=Ç1/\H1 a=↑(.ins C dx fs)/\vU X.K C/\Meth X.K C m f/\fs.lookup m=none/\wq X.K tA σ H1 λ vs H2=>mO X.K sp (Ç1::vs) H2 ň) I ź) ą) ht
 .ext ß;exact#[p,C,dx,vs,rfl,j2,j5,j6,j3.none g4,Y,S1,r1.ext e1,p1,ha.mo Y S1 ć (λ ds S2 z xs H2 a1 a2 a3=>#[.ref p::ds,S2,.cons (À6) a1,a3,hm _ S2 ć (λ d S' q=>?_) z]) g5];have q':=tu.ext (e1.trans a2) (hR d S' q);show Ŀ
 .ext ş;exact PySem.W.callWith_K (first:=[Ç1]) (h₀:=X.base) I.ok.mod.pL me.kp (za4 (ha.pa Ah EW s1 σ H1 _ I1 q) (λ us s2 #[vs,H2,I2,r,q2]=>#[I2.yB,?_]) λ _ _ z=>(hn ć z).elim) AD Ao;show Zt (us:=Ç1::us) (vs:=Ç1::vs) h1 hr h2 hW.xp I2 (.cons rfl r) q2
def UL đ Í1 ĝ
  (ht:eval ĭ Ę=(do
   let ov <- eval o Ę
   Ţ
   let (f,first) <- Č
   Ű))
  Ħ (z:wO Ï7 tw Y S R) Â9:
  wpAny Ä5 (eval ĭ Ę) Ê5:=by
 ext Ê6;exact PySem.W.methodCall_KW (pl:=pl) (za4 (ho.pe EW s σ H (λ x H1=>∃ a C dx fs,x=Ç1/\H1 a=↑(.ins C dx fs)/\vU X.K C/\Meth X.K C m f/\fs.lookup m=none/\mO X.K sp [Ç1] H1 ň) I ź) ą) ht
 .ext ß;exact#[p,C,dx,vs,rfl,j2,j5,j6,j3.none g4,[.ref p],S1,.cons (À6) .nil,p1,hm _ S1 ć (λ d S' q=>?_) g5];have q':=tu.ext e1 (hR d S' q);show Ŀ
 .ext ş;show PySem.W.callWith_K0 (first:=[Ç1]) I1.yB me.kp (Zt (us:=[Ç1]) (vs:=[Ç1]) h1 hr h2 hW.xp I1 (.cons rfl .nil) q)
def iI Ï5 (sp:yZ) (to:zw) (tA:zY):ye:=λ E Y S=>wO Ï7 tA Y S λ d S2=>(uV d=true->E.rt d S2)/\(uV d=Ë->E.nx Y S2)
variable {đ}
include F
theorem Q2 Ä1 (ha:yS X (e::es) tA) (hk:k<=k')
  Ë6 ĝ
  (ht:eval Ď Ę=(do
   let ov <- eval o Ę
   Ţ
   let (f,first) <- Č
   ŕ))
  (hs:swapsWith Ď none pos.line Ę=pure Ë):
  rO X fl (.Expr Ď pos) (iI Ï7 tA):=by
 exact#[λ E E' Y S hE z=>wO.mo ho.mo F.mo ha.mo Ĺ,Ż];exact wpAny_Expr_any (zD (UM Ä2 ha AD Ao ĉ) Ũ) I.quiet hs
theorem Q1 Ä1 (hk:k<=k') ĝ
  (ht:eval ĭ Ę=(do
   let ov <- eval o Ę
   Ţ
   let (f,first) <- Č
   Ű))
  (hs:swapsWith ĭ none pos.line Ę=pure Ë):
  rO X fl (.Expr ĭ pos) (iI Ï7 tw):=by
 exact#[λ E E' Y S hE z=>wO.mo (tA:=tw) ho.mo F.mo (λ _ _ _ _ hq z=>hq ć z) Ĺ,Ż];exact wpAny_Expr_any (zD (UL Ä2 ĉ) Ũ) I.quiet hs
end
end L3
namespace L5
open PySem PySem.Spec L2 L3
open PyProof.Rows hiding St
@[simp] def Zl (is:Ü) (c:Str):Sm:=fun J=>(wC is J).map λ L=>.rt (yA (.err c "" .zj) L)
@[simp] def ll (is:Ü) (f:Ad):Sm:=fun J=>(f J).bind λ y=>if xK y=true then none else (wC is J).map λ L=>.rt (yA y L)
@[simp] def r9 (is:Ü) À9:Sm:=fun J=>(pD cs m j F g J).bind λ r=>if xK r.1=true then Å5 else ↑(.nx r.2)
@[simp] def vH (F:à):à:=λ ws=>(F ws).bind λ y=>match y with
 | ñ (v::_)=>if xK v=true then none else ↑y
 | _=>none
abbrev Xf:=Ev->È (È T×Ev)
def kP (g:Xf) (t:ye):Prop:=∀ S0 Z0 S Z Y J o J' E,FR û->g J=↑(o,J')->(o=none->∀ S',FR S0 Z0 S' Z Y J'->E.nx Y S')->(∀ y,o=↑y->xK y=true->∀ d S',FR S0 Z0 S' Z Y J'->Sn (zB S' Z) y d->E.rt d S')->t E Y S
@[simp] def pB À9:Xf:=fun J=>(pD cs m j F g J).map λ r=>(if xK r.1=true then ↑r.1 else none,r.2)
@[simp] def nK (c:Å4) (g h:Xf):Xf:=fun J=>(c J).bind λ b=>if b=true then g J else h J
@[simp] def mS (i j:Nat) (g:Xf):Sm:=fun J=>(g J).bind λ r=>match r.1 with
 | none=>↑(.nx r.2)
 | some y=>if xK y=true then ↑(.nx (((r.2.set i none).set j ↑(.im y)).set i none)) else none
section
variable {R:Rk}{f:Ad}{te:zw}{F:à}{cs:É}{m c:Str}{Ï4}{i j:Nat}
def Nf:zV wX (Zl is c) (Wf c "" (dC .zj)):=λ S0 Z0 S Z Y J o E F e P=>by
 let#[L,e3,rfl]:=Ax.mp e;show P _ S F.sx (F.ni e3 (by simp![Sn];show#[.zj,rfl,rfl]))
def Nj (hf:xP f te):zV wX (ll is f) (We te):=λ S0 Z0 S Z Y J o E F e P=>by
 let#[y,e1,e2]:=Å3;split at e2
 .cases e2
 .rename_i hy;ext Á5;show hf S Z Y J y _ F.er e1 λ d S1 s1 r1=>#[by rw[ph (show Sn (zB S1 Z) y d from r1)];simpa using hy,P d S1 (F.sx.trans s1) ((F.grow s1).ni e3 r1)]
def Np È3:zV wX (r9 is cs m j F g) (iI cs m (yr F) (zX j) u):=λ S0 Z0 S Z Y J o E Fr e P=>by
 ext Ŝ;exact Ŏ
 .rw[ph r] at he;dsimp only at e2;rw[é he] at e2;ext Á5;show P d S' F'.sx (F'.ni e3 r)
 .rw[ph r] at he;dsimp only at e2;ext Ê7;show P S' Z Y F'
def NU È3:kP (pB cs m j F g) (iI cs m (yr F) (zX j) u):=λ S0 Z0 S Z Y J o J' E Fr e h1 h2=>by
 let#[#[y,J1],e1,e2]:=Ax.mp e;dsimp only at e2;exact Ŏ
 .rw[ph r] at he;rw[é he] at e2;cases e2;show h2 y rfl he d S' F' r
 .rw[ph r] at he;ext Ê7;show h1 rfl S' F'
def NV {c:Å4}{tc:yx}{g h:Xf}{t u:ye}(hc:vm c tc) (hg:kP g t) (hh:kP h u):kP (nK c g h) (kB tc t u):=λ S0 Z0 S Z Y J o J' E F e h1 h2=>by
 let#[b,e1,e2]:=Å3;exact hc S Z Y J b _ F.er e1 λ S1 s1=>?_;split at e2
 .rename_i hb;rw[é hb];show hg Í2
 .rename_i hb;rw[ĕ hb];show hh Í2
def Na {g:Xf}{t:ye}(hg:kP g t):zV R (mS i j g) (cO i j t):=λ S0 Z0 S Z Y J o E F e P=>by
 let#[#[o1,J1],e1,e2]:=Å3;exact hg û o1 J1 _ F e1 (λ h S' F'=>?_) λ y h he d S' F' r=>?_
 .subst h;cases e2;show P S' Z Y F'
 .subst h;dsimp only at e2;rw[é he] at e2;cases e2;show#[by rw[ph r];show he,P S' Z _ (((F'.hole i ↑d).qe j r).hole i none)]
end
section
variable {ä}{Ľ}
def Ib ŏ (Sc:we N ps É2) (hn:n=Ů) (hb:jc st m qual ps)
  (EY:∀ (f:Addr) Ø,ya k (A.deeper (envOfC qual É2 s.heap.objs.size f Af))->
   ∃ t,tD (xg yM Ç N qual É2 f Š).xA Ë Æ5/\zV wX g t):vB Ï6 ê:=by
 let#[f,fd,F,hc]:=F;exact#[#[f,fd,fnX Ŕ,F.binds hb,hc],yr.mo];ext Ĭ
def vB.no {F:à}(G:vB Ï6 k ps (yr F)):tH Ï6 k ps (yr (vH F)):=by
 let#[#[f,fd,h1,h2],hm]:=G.fd;exact#[#[f,fd,h1.imp λ vs H Q E #[ds,S,r1,r2,Z,ws,y,a1,a2,a3]=>#[ds,S,r1,r2,?_],h2],yr.mo];let#[z,b1,b2]:=Al.mp a2;split at b2
 .rename_i v l;split at b2
  .cases b2
  .rename_i hy;cases b2;exact#[Z,ws,_,a1,b1,λ d S' s r=>#[?_,a3 d S' s r]];let#[v',L,e1,e2,_]:=r #[_,rfl];simp![yA,T.lst.injEq,List.cons.injEq] at e1;rw[ph e2,<- e1.1];exists hy
 .cases b2
def Fm.i2 {c d:Str}{f:Addr}{oc:Value}{od an:È Addr}{osl:Array (È Value)}{kV doc pm Af ct:Value}(k:Ck K m f c) (k':Ck K m f d) (l:K.lookup f=↑#[oc,od,.func (PySem.W.fnOf m qual Â1 ct),osl])
  (cd:PySem.W.codeIn K Af qual=true) (k2:PySem.W.keepIn K (.ref f)=true):Fm K [c,d] m qual st:=#[f,_,ke l cd k2,λ x hx=>by
 rcases Am.mp hx with rfl | hx
 .show k
 .cases AI.mp hx;show k']
end
section
variable {X:Cx}{K:Ac}{e lo a b:Expr}{te ta tb:zw}{pos p2:Pos}
def Wd (te:zw):zw:=fun Y S Q=>te Y S λ x S1=>∃ a b ds,x=Ő (a::b::ds)/\Q (Ő ds) S1
theorem Py (he:PD X e te) (hl:PD X lo (dC (Þ 2))):PD X (.Subscript e (.Slice ↑lo none none p2) pos) (Wd te):=by
 exact#[fun Y S Q Q' hq z=>he.mo Y S ć (λ x S1 #[a,b,ds,h,z]=>#[a,b,ds,h,hq ć z]) z,PE.imp (Qa Ss he.pe (R5 hl.pe) R6) fun σ H Q hu=>?_];let#[Y,S,r1,r2,z]:=hu;exact zL.go he.mo r1 r2 z λ x S1 v H1 h1 q1 e1 p1=>#[Y,S1,r1.ext e1,p1,λ w H2 g1 g2 g3=>?_];simp![zf] at g1;exact#[2,g1,?_];let#[a,b,ds,rfl,h]:=h1;have q2:=zf.ext g2 _ q1;simp![zf,zo] at q2;let#[c,_,rfl,k1,y,_,rfl,_,u,ys,rfl,_,k3]:=q2;have e2:HT.yo (y::u::ys).length 0 ↑2=2:=by simp[HT.yo]
 exact#[c,_,rfl,k1,λ q=>by rw[e2] at q;show absurd q.1 (),λ p hp=>h ć ?_ ((e1.trans g2).trans À1) (g3.new hp)];simp![zf];exact#[p,_,rfl,yk.of yy,zo.ext À1 _ ?_];unfold kF;rw[e2];simpa [HT.yo] using k3
@[simp] def Ws:T->È T
 | Ő (_::_::ts)=>↑(Ő ts)
 | _=>none
@[simp] def Zf (f:Ad):Ad:=fun J=>(f J).bind Ws
def Mo {f:Ad}(h:yD f te):xI (Zf f) (Wd te):=λ S Z Y J y Q hE e hq=>by
 let#[x,e1,e]:=Å3;exact h S Z Y J x _ hE e1 λ d S1 s1 r1=>?_;unfold Ws at e;split at e
 .cases e;let#[ds,rfl,h2]:=r1.tup;let#[a,_,rfl,_,b,ds,rfl,_,h3]:=h2;show#[a,b,ds,rfl,hq _ S1 s1 (Cl.of (λ _=>nofun) (o_ h3))]
 .cases e
def XE:y_:=λ x y S Q=>fI rY (λ i j=>Þ (i*j)) x y S Q\/iq x y S Q
def xx:T->T->È T
 | ñ ts,Þ k=>if ts≠[]/\0<=k/\k<=1000000/\ts.length*k.toNat<=sizeLine then ↑(ñ (List.replicate k.toNat ts).flatten) else none
 | x,y=>qu rY (λ i j=>Þ (i*j)) x y
def eY {S:SS}{Z:Addr->Prop}{ts:Ş}{d:D}(h:Vw S Z (ñ ts) d):ia d=Ë:=by
 obtain⟨_,q | ⟨_,q,_⟩,_⟩:=h.lst <;> subst q <;> rfl
def J2:Good2 zJ xx XE:=λ S Z x y z d e Q hz hx hy ef hq=>by
 unfold xx at ef;split at ef
 .rename_i ts k;split at ef
  .rename_i hc;cases ef;let#[ds,g1,g2]:=hx.seq (ts:=ts) rfl;cases hy.int;have hl:=g2.len;show .inr #[_,ds,rfl,eY hx,g1,#[λ q=>hc.1 (by subst q;exists hl.symm),hc.2.1,hc.2.2.1,by rw[hl];show hc.2.2.2],λ p hp=>hq ć À1 (qg hz hp (zk.rep g2 _))]
  .cases ef
 .show .inl (nP (λ _ _ _=>wx) (λ _ _ _=>nofun) S Z x y z d e Q hz hx hy ef hq)
def PJ Ì3:PD X (.BinOp a .Mult b pos) (yu XE ta tb):=qj (OP.or OM) (λ x y d e H S Q h1 h2 h3 h=>h.imp (fI.fits (λ _ _ _=>À6) x È4) (iq.fits x È4)) (λ x y S Q Q' hq h=>h.imp (fI.mo x y S Q Q' hq) λ#[k,ds,h1,h2,h3,h4,h5]=>#[k,ds,h1,h2,h3,h4,λ p hp=>hq ć (h5 p hp)]) ha hb
@[simp] def y8:T->T->È T
 | Þ i,Þ j=>↑(Þ (i+j))
 | ñ ts,ñ us=>if Å7<=sizeLine then ↑(ñ (ts++us)) else none
 | _,_=>none
def kl:y_:=λ x y S Q=>yR (λ i j=>Þ (i+j)) x y S Q\/∃ ds es,zZ x S=↑ds/\zZ y S=↑es/\ia x=Ë/\ia y=Ë/\ds.length+es.length<=sizeLine/\∀ r,S r=none->Q (.ref r) (ups S r (ñ (ds++es)))
def JE:Good2 zJ y8 kl:=λ S Z x y z d e Q hz hx hy ef hq=>by
 unfold y8 at ef;split at ef
 .cases ef;cases hx.int;cases hy.int;show .inl (hq _ S (.refl S) (Cl.of (λ _=>nofun) wx))
 .split at ef
  .rename_i h;cases ef;let#[ds,h1,h2]:=hx.seq rfl;let#[es,h3,h4]:=hy.seq rfl;show .inr #[ds,es,h1,h3,eY hx,eY hy,by rw[h2.len,h4.len];show h,λ r hr=>hq ć (.new hr _) (qg hz hr (h2.append h4))]
  .cases ef
 .cases ef
theorem kl.fits:wg K kl (λ x y H Q=>uc (λ i j=>Þ (i+j)) x y H Q\/Z9 K x y H Q):=λ x y d e H S Q h1 h2 h3 h=>h.imp (yR.fits (λ _ _ _=>À6) x È4) λ#[ds,es,q1,q2,n1,n2,h4,h5]=>by
 let#[a,xs,rfl,g1,g2]:=pj h1 h3 q1 λ ts z=>by subst z;cases n1
 let#[b,ys,rfl,g3,g4]:=pj h2 h3 q2 λ ts z=>by subst z;cases n2
 show#[a,b,xs,ys,rfl,rfl,g1,g3,by rw[<- g2.length,<- g4.length];show h4,λ p hp=>h5 p (h3.none hp) ć (À6) À1 (h3.ups À1 #[_,yy,zo.ext À1 _ (g2.append g4)])]
def OD Ì3:PD X (.BinOp a .Add b pos) (yu kl ta tb):=qj (OY.or OX) kl.fits (λ x y S Q Q' hq h=>h.imp (yR.mo x y S Q Q' hq) λ#[ds,es,a,b,c,d,i,j]=>#[ds,es,a,b,c,d,i,λ r hr=>hq ć (j r hr)]) ha hb
def cg:Good2 zJ ltI cA:=ka (λ _ _ _=>vp) λ _ _ _=>nofun
end
end L5
namespace L5
open L2 L3
theorem rq {p:Prop}(h:p:=by
 repeat' first
  | (with_reducible first | show Mg _ | apply MC | apply Mq | apply M1)
  | (ext ý)
  | ((try first | exact xO.fr ?_ | exact xO.fe ?_);with_reducible first | show Mz _ | exact rp (R:=zJ) (by with_reducible first | show JE | show cg | show JC | show JB | show JA | show cj | show ck | show cm | show J2) ?_ ?_ | exact eQ (R:=zJ) ?_ | exact MA (R:=zJ) (by with_reducible first | show J9 | show Jz | show J8 | show J6 | show J5 | show JD | show J1 | show J0 | show J7 | show good_int | show JF | show J4) ?_ | apply Mh | apply Mm | apply Mu | apply M4 | apply Mv | show MB _ | show Mn _ | show Mr | apply Mw | apply M0 | apply Ms | exact M9 ť ť ?_ ?_ ?_ | apply Mp | apply Mo | show M8 _ | apply My | apply M3 | apply Mt)
  | (exact xO.er ?_;ext ý)
  | (with_reducible first | apply Nd | apply Nt | apply Nu | apply Nr | apply Nm | apply Nk | apply Nq | apply N8 | apply Nw | apply N1 | apply Nh | apply Ni | show Nf | apply Nj | apply Np | apply Na | apply NV | apply NU | apply NB | apply NC | apply N9 | apply NA | apply NG | apply ND | apply eP | apply NF | show Mc | apply Md | apply Mb | apply N6 | apply Nx | show Nc | apply Nl | apply N7 | apply N5 | apply Nz | apply O_ | show Yj _ | apply N2 | show Nn | apply Ny | apply Nb | apply N0 | show N4 _ | apply N3 | apply Nv)
  | show Ng _
  | (with_reducible first | show Me | apply Mf | show N_ | apply Ma | apply Mi | apply Ml | apply M6 | apply M5 | apply M7 | show Mj | show NT _ | show NQ | apply NR | show NW | apply NX | apply NL | apply NI | apply NJ | apply NM | apply NN | apply NH | apply NK)
  | (first | show NZ _ | apply NS | apply NY)
  | show zV.fv (Yj _)
  | show zV.fv (Ng _)
  | show Bool.false):p:=h
end L5
namespace L5
open PySem PySem.Spec L2 L3
open PyProof.Rows hiding St
def Cm (mg:Aq) (x:Str) (t:V):Prop:=∃ u,mg x=↑u/\L2.RelV t u
def Hs (_:Ò):Prop:=True
def Hq (s:Scope) (n:É):Bool:=s.names.all (λ y=>!(À2)||y.1 == ".0"||n.elem y.1)&&(s.names.filter λ y=>À2).length == n.length+1
def Ht (_:É) (_:Ĳ):Prop:=True
section
variable {n:É}{p:Ĳ}{x:É × Ĳ}{r:Ò}
def Hs.a (_:Hs ((n,p)::r)):Ht n p:=trivial
def Hs.b (_:Hs (x::(n,p)::r)):Ht n p:=trivial
end
section
variable {X:Cx}{N' N:É}{pick:Ĳ}{scope esc:Scope}{tg iter elt:Expr}{ifs:List Expr}{ti:wV}{g:xt}{tcc:yx}{te:zw}{pos:Pos}
def pl Á1 (Sc:rX X N' pick scope) Ì Á2:
  PD X ă (tU pick ti g tcc te):=PX ú hs
def RS {a b:Expr}{k:Nat}{t:wG}(h:o5 X [a,b] t) Á6 (hn:(Ã6 [a,b] Ę).length=2) (AD:(Ã6 [a,b] Ę).findIdx? (·.1)=none):uo X (.Tuple [a,b] k pos) (pQ 2 t):=eK h hc hn AD
def RQ {a b c:Expr}{k:Nat}{t:wG}(h:o5 X Í8 t) Á6 (hn:(Ã6 Í8 Ę).length=3) (AD:(Ã6 Í8 Ę).findIdx? (·.1)=none):uo X (.Tuple Í8 k pos) (pQ 3 t):=eK h hc hn AD
def RP {a b c d:Expr}{k:Nat}{t:wG}(h:o5 X Â2 t) Á6 (hn:(Ã6 Â2 Ę).length=4) (AD:(Ã6 Â2 Ę).findIdx? (·.1)=none):uo X (.Tuple Â2 k pos) (pQ 4 t):=eK h hc hn AD
def Ou {x y:Str}(h:Cm X.mg x (.str y)) (hg:Gl X x:=by rfl) (hd:(x == ("__debug__":Str))=Ë:=by decide):PD X (.Name x pos) (dC (.str y)):=let #[_,a,b]:=h;Ot a b hg hd
def QM {t:ye}{i j:Nat}{n c:Str}{body:List Stmt}{p1 p2 p3 p4 BV:Pos}(hN:X.N.Nodup) (hb:tD X true body t) (hi:X.N[i]?=↑n) (hj:X.N[j]?=↑c) (A9:i≠j)
  (hg:Gl X "PurseError") (Bw:X.env.kindOf n=↑.local) (Dg:Loc X.env.scope c) (Dv:X.fn c=true\/X.env.scope.names.lookup c=↑.local) (BQ:(n == ("__debug__":Str))=Ë) (Dl:(n == ("__classdict__":Str))=Ë) (BH:swapsWith (.Name n p3) ↑(.Name c p2) p4.line Ę=pure Ë)
  (AD:X.stack=Ę::X.outer) (AR:X.env.frame=↑X.env.locals) ĝ:xN X (.Try body [.ExceptHandler ↑(.Name "PurseError" p1) ↑n [.Assign [.Name c p2] (.Name n p3) p4] BV] [] [] pos) (cO i j t):=QN i j hN hb A9 hi hj hg Bw Dg Dv BQ Dl BH AD AR hn
def ZI {i:Nat}{y:Str}{py Bl:Pos}Á1 (hn:X.N.Nodup) (Sc:rX X N' pick scope)
  (BH:swapsWith ă ↑(.Name y py) Bl.line Ę=pure true) Ì (hy:X.N[i]?=↑y) (hx:Loc X.env.scope y)
  (Cd:X.fn y=true\/X.env.scope.names.lookup y=↑.local) Á2:
  xN X (.Assign [.Name y py] ă Bl) (wQ (tU pick ti g tcc te) (hName i)):=QT ú hn hy hx BH Cd hs
end
abbrev mI À0 (N:É) (x:Str) (st:Stmt) (k:Nat) Ê8 (Φ:Cx->Prop):Prop:=
 ∀ (f:Addr) Ø,Hs hs->N.Nodup->(Ð).xA.N=N->(Ð).xA.env.scope=zH st->õ->Φ (Ð).xA
abbrev qU (x q:Str) (st:Stmt) (ps:É):Prop:=∀ (kV doc pm:Value) (an:È Addr) (Af ct:Value) (us:Ai),us.length=Ů->bindArgs (PySem.W.fnOf x q Â1 ct) #[us,[]]=pure (ps.zip us)
def bA {x q:Str}{st:Stmt}{ps:É}(h:qU x q st ps:=by intro _ _ _ _ _ _;first | show G2 λ _=>rfl | show G1 λ _ _=>rfl | show G0 λ _ _ _=>rfl | show Gz λ _ _ _ _=>rfl | show Gy λ _ _ _ _ _=>rfl):qU x q st ps:=h
theorem pA {p:Prop}(h:p:=by
 repeat' first
  | show rfl
  | (change PD ć _;first | (change PD _ (.Name ć) _;first | show u5 0 | show u5 1 | show u5 2 | show u5 3 | show u5 4 | show u5 5 | show u5 6 | show u5 7 | show u5 8 | show u5 9 | show u5 10 | show u5 11 | show u5 12 | show Ou (by ext ŝ)) | show Oo | show O8 | show Pu | show PC | (change PD _ (Ê9) _;apply O2 hr) | (change PD _ (.Call _ [.Name "lows" _] ć) _;apply O1 T.len) | show O3 | apply O4 hr | apply Py | apply Oc | apply Pr | apply PY | (change PD _ (.Call ć ć) _;first | (apply ZV;ext ŝ) | (apply ZT;ext ŝ) | (apply ZS;ext ŝ) | (apply PR;ext ŝ) | (apply ZT;show vB.no (by ext ŝ)) | (apply ZS;show vB.no (by ext ŝ)) | (apply ZV;show VQ.no (by ext ŝ)) | apply PN T.min | apply Oa T.len | apply PZ T.list T.range | apply P_ T.list | apply Pq T.tuple | apply PQ T.max | apply PM T.min | apply OA T.any | apply OC T.all | apply Pw hr T.sorted U.set | apply Px T.sorted | apply Om É3 | apply Oh T | apply Oi T | apply Oe T | apply OE U.abs | apply PV | apply PU | (apply Oj;ext ŝ) | apply L3.ZU hVE) | (change PD _ (.BinOp ć ć) _;first | (have:=hB;first | apply Ox | apply PK) | apply OD | apply Pt | apply PL | apply Oy | apply PJ | apply Pz) | (change PD _ (.Compare ć ć) _;first | apply O0 hr | apply Ob | apply Ow | apply L5.ZU | apply Od | apply O5 jC jC fit_le fit_le yR.mo yR.mo) | apply OB | apply P0 | apply PB | apply PH | apply Oq | (apply Ov;ext ŝ) | (apply pl (Hs.a hc) hS hN;show iJ hS hN;decide +kernel) | (apply pl (Hs.b hc) hS hN;show iJ hS hN;decide +kernel))
  | (change yS ć _;first | show Pn | apply Po)
  | (change xu ć _;first | (change xu _ (.Compare ć ć) _;first | apply QA | apply QH hr | apply Q9 hr | apply QB | apply QG | apply QF | apply QE hr | apply QD | apply QC) | apply Q8 | (apply rP.pt;first | apply ZQ | apply ZR) | apply Q7)
  | apply ZQ | apply ZR | apply Q5 | apply Q6
  | (change xG ć _;first | show QJ | apply QI | apply QK)
  | (change xN ć _;first | apply QQ | apply QV | apply QW PassesOwn.never rfl | apply QL PassesOwn.never | (apply ZI (Hs.a hc) hS hN nd;show iJ hS hN;rfl;decide +kernel) | (apply ZI (Hs.b hc) hS hN nd;show iJ hS hN;rfl;decide +kernel) | (change xN _ (.Assign [Ê9] ć) _;apply QY hr) | apply QM | (apply QR;ext ŝ) | apply QO | apply QU | apply QX | apply QZ | show (QS:xN _ (.Raise ć _) _))
  | apply Pj | apply RS | apply RQ | apply RP | apply Pg | show Pf
  | (change tE ć ć;first | apply Pc T.range | apply Pb T.range | apply Q_ U.zip | apply Pe U.enumerate | apply Pa)
  | show Pm | apply Pl
  | (change tD ć ć;first | show Q0 | apply Qy | apply Q4)
  | (change rO ć ć;first | (apply Qw;ext ŝ) | (apply Q2;ext ŝ) | (apply Q1;ext ŝ) | apply Qv | apply Q3 | apply Qz)
  | show λ _ _ z=>z | show λ _ _ _ h=>h | show T
  | show hr | show nd | intro _ _ _ _ _ nd | show λ _=>rfl | show λ _ _=>rfl | show Or.inl rfl | show Or.inr rfl | show#[rfl,rfl,rfl,rfl] | decide
  | show (rfl:ų[0]?=_) | show (rfl:ų[1]?=_) | show (rfl:ų[2]?=_) | show (rfl:ų[3]?=_) | show (rfl:ų[4]?=_) | show (rfl:ų[5]?=_) | show (rfl:ų[6]?=_) | show (rfl:ų[7]?=_) | show (rfl:ų[8]?=_) | show (rfl:ų[9]?=_) | show (rfl:ų[10]?=_) | show (rfl:ų[11]?=_) | show (rfl:ų[12]?=_)):p:=h
section
variable {Û}{g:Sm}{R:Rk}[Lo R]
def yi Ê8 Ì2
  (EY:mI Ç N x st k hs λ X=>∃ t,xG X Æ5/\zV R g t:=by ext Í)
  Ä
  Ï8:FD Ç x (k+1) ps (zQ R (zR N n g)):=
 Ih F Ã
def JT {f:Addr}{fd:FuncData}Ê8 (F:vS K x x st f fd)
  (EY:∀ Ø,Hs hs->N.Nodup->(Ð).xA.N=N->(Ð).xA.env.scope=zH st->õ->
   ∃ t,xG (Ð).xA Æ5/\zV R g t:=by intro Af A outer s H E hc nd hN hS hr;show#[_,pA,rq])
  Ä:xb Ç yM (k+1) f fd ps (vV K (zQ R (zR N n g))):=
 Xz F Sc hn λ Af A outer s H E hr=>EY Š trivial Sc.nd Ù hr
end
section
variable {ä}{Ľ}{f':Ad}
def Ic Ê8 ŏ
  Ë7
  Ä
  ř:tH Ï6 ê:=
 Ie F Ã
def c9 Ê8 ŏ
  (EY:mI Ç N qual st k hs λ X=>∃ t,xG X Æ5/\bI f' t:=by ext Í)
  Ä
  ř:tH Ï6 (k+1) ps (sY N n f'):=
 Ia F Ã
def XD Ê8 (F:Fc K m qual st) {h:Heap}(X:K.In h) (G:h.Ns mainGlobals mg)
  Ë7
  Ä
  (hb:qU "__init__" qual st ps:=by show bA):ja Ç m ê:=
 Ig F X G Ã
def kh Ê8 ŏ
  (EY:mI Ç N qual st k hs λ X=>∃ t,tD X Ë Æ5/\zV wX g t:=by ext Í)
  Ä
  ř:vB Ï6 ê:=
 Ib F Ã
end
section
variable {Û}{g:Sm}{Ï4}
def XC Ê8 Ì2
  (EY:mI Ç N x ġ:=by ext Í)
  Ä
  Ï8:FD Ç x ê:=
 J_ F Ã
end
end L5
namespace RN
open L5
abbrev Bd:=ç
def xi Ź:Prop:=∀ q,zF b q=true->zF c q=true
def xi.refl (b:Bd):xi b b:=λ _ h=>h
def xi.of {b c:Bd}(h:∀ p∈b,∃ r∈c,Ç2):xi b c:=λ q x=>by
 let#[p,hp,h1,h2]:=yH.mp x;let#[r,hr,h3,h4]:=h p hp;show yH.mpr #[r,hr,⋯,⋯]
def xi.at {b c:Bd}(h:xi b c) {p:Á}(hp:p∈b):∃ r∈c,Ç2:=yH.mp (h p (Ë0))
structure Gd (A B:Int) (b:Bd):Prop where
 ib:ur b
 xV:∀ p∈b,È9
def wc:Bd:=[(0,0)]
def Wt {q:Á}:zF wc q=true↔0<=q.1/\0<=q.2:=by
 rw[yH];unfold wc;simp
theorem Gd.wc þ(hA:0<=A) (hB:0<=B):Gd A B wc:=#[by unfold RN.wc ur;simp,λ p hp=>by
 unfold RN.wc at hp;cases AI.mp hp;show#[#[A4 _,hA],A4 _,hB]]
def Gd.LQ þ Ï9(h:Ġ):xi b RN.wc:=xi.of λ p hp=>#[(0,0),by unfold RN.wc;simp,(h.xV p hp).1.1,(h.xV p hp).2.1]
theorem Gd.eq þ ś (x:xi b c) (y:xi c b):b=c:=ur.eq h.ib h'.ib λ q=>by
 rw[Bh];show#[x q,y q]
def Gd.least þ{ps:Bd}(h:∀ p∈ps,È9):Gd A B (vJ ps):=#[dw ps,λ p hp=>h p (LN hp)]
def YB {ps qs:Bd}(h:∀ p∈ps,∃ r∈qs,Ç2):xi (vJ ps) (vJ qs):=λ q x=>by
 rw[nD] at x ⊢;show xi.of h q x
theorem YU:∀ Ï9{lo hi:Int},ur b->(∀ p∈b,lo<=p.1/\p.1<=hi)->(Ŵ:Int)<=hi+1-lo\/b=[]
 | [],_,_,_,_=>.inr rfl
 | p::b,lo,hi,h,hb=>by
  ext Ä6;rcases YU (lo:=p.1+1) (hi:=hi) h1.2 (λ q hq=>#[by have:=(h1.1 q hq).1;lia,(hb q (Ay _ hq)).2]) with x | x
  .rw[A1];lia
  ext Ã0
theorem YT:∀ Ï9{lo hi:Int},ur b->(∀ p∈b,lo<=p.2/\p.2<=hi)->(Ŵ:Int)<=hi+1-lo\/b=[]
 | [],_,_,_,_=>.inr rfl
 | p::b,lo,hi,h,hb=>by
  ext Ä6;rcases YT (lo:=lo) (hi:=p.2-1) h1.2 (λ q hq=>#[(hb q (Ay _ hq)).1,by have:=(h1.1 q hq).2;lia]) with x | x
  .rw[A1];lia
  ext Ã0
def Gd.rC þ Ï9(h:Ġ) (hA:0<=A):(Ŵ:Int)<=A+1:=by
 rcases YU (lo:=0) (hi:=A) h.ib (λ p hp=>(h.xV p hp).1) with x | x
 .lia
 ext Ã0
def Gd.LL þ Ï9(h:Ġ) (hB:0<=B):(Ŵ:Int)<=B+1:=by
 rcases YT (lo:=0) (hi:=B) h.ib (λ p hp=>(h.xV p hp).2) with x | x
 .lia
 ext Ã0
def yT (x:Int):Int:=if x>0 then x else 0
def jK (x:Int):0<=yT x:=Å8
def e_ {x y:Int}(h:x<=y):yT x<=yT y:=by unfold yT;split <;> split <;> lia
def Lk {x g:Int}(h:0<=x) (hg:0<=g):yT (x-g)<=x:=Å8
def wb (a b:Int) (p:Á):Á:=(yT (p.1-a),yT (p.2-b))
def pU (A B:Int) (p:Á):Bool:=Ă (p.1<=A)&&Ă (p.2<=B)
def qI (A B a b:Int) (bd:Bd):Bd:=vJ ((bd.map (wb a b)).filter (pU A B))
def G5 (A B a b:Int) (bd:Bd):Gd A B Í9:=Gd.least λ p hp=>by
 let#[h1,h2]:=A7.mp hp;let#[q,_,rfl]:=Aw.mp h1;ext Ŧ
 show#[#[jK _,h3.1],jK _,h3.2]
def Vn (A B a b:Int) {bd bd':Bd}(h:xi bd bd'):xi Í9 (qI A B a b bd'):=YB λ p hp=>by
 let#[h1,h2]:=A7.mp hp;let#[q,hq,rfl]:=Aw.mp h1;let#[r,hr,r1,r2]:=h.at hq;ext Ŧ
 have m1:(Ì7).1<=(wb a b q).1:=e_ ⋯;have m2:(Ì7).2<=(wb a b q).2:=e_ ⋯;show#[Ì7,A7.mpr #[Aw.mpr #[r,hr,rfl],by simp[pU];lia],m1,m2]
def sG Ź:Bd:=vJ (b++c)
def IB Ź š:zF (sG b c) q=(zF b q||zF c q):=by unfold sG;rw[nD,Hb]
def IA þ ś:Gd A B (sG b c):=Gd.least λ p hp=>by
 rcases A5.mp hp with x | x
 .show h.xV p x
 .show h'.xV p x
def jS (p q:Á):Á:=(if q.1>p.1 then q.1 else p.1,if q.2>p.2 then q.2 else p.2)
def tX Ź:Bd:=vJ (b.flatMap λ p=>c.map (jS p))
def WL Ź š:zF (tX b c) q=(zF b q&&zF c q):=by
 unfold tX;rw[nD,Bh,BN,yH,yH,yH];ext ė
 .ext Ĕ;ext Í3;unfold jS at h1 h2;ext Å2;exact#[#[x,hx,?_,?_],#[y,hy,?_,?_]] <;> (first | (split at h1 <;> lia) | (split at h2 <;> lia))
 .rintro⟨⟨x,hx,h1,h2⟩,⟨y,hy,h3,h4⟩⟩;exact#[jS x y,B9.mpr #[x,hx,Aw.mpr #[y,hy,rfl]],?_,?_]
  .change (if y.1>x.1 then y.1 else x.1)<=q.1;ext İ
  .change (if y.2>x.2 then y.2 else x.2)<=q.2;ext İ
def Gh þ ś:Gd A B (tX b c):=Gd.least λ p hp=>by
 ext Í3;have a1:=h.xV x hx;have a2:=h'.xV y hy;unfold jS;dsimp only;exact#[#[?_,?_],?_,?_] <;> split <;> lia
def tS (bs:Î):Bd:=Ì8 sG []
def kJ (bs:Î):Bd:=Ì8 tX wc
theorem cH:∀ Å6 š,zF (Ì8 sG b) q=true↔zF b q=true\/∃ c∈bs,zF c q=true
 | [],b,q=>#[]
 | c::bs,b,q=>by
  rw[DF,cH bs,IB,DB];ext ė
  .rintro ((h | h) | ⟨d,hd,h⟩)
   .show .inl h
   .show .inr #[c,Au,h]
   .show .inr #[d,Ay _ hd,h]
  .rintro (h | ⟨d,hd,h⟩)
   .show .inl (.inl h)
   .rcases Am.mp hd with e | e
    .subst e;show .inl (.inr h)
    .show .inr #[d,e,h]
theorem ko þ:∀ Å6,Ġ->(∀ c∈bs,Gd A B c)->Gd A B (Ì8 sG b)
 | [],b,h,_=>h
 | c::bs,b,h,hb=>ko bs _ (IA h (hb c Au)) λ d hd=>hb d (Ay _ hd)
def Gd.nil þ:Gd A B []:=#[by unfold ur;simp,λ p hp=>by cases hp]
theorem ba:∀ Å6 š,zF (Ì8 tX b) q=true↔zF b q=true/\∀ c∈bs,zF c q=true
 | [],b,q=>#[]
 | c::bs,b,q=>by
  rw[DF,ba bs,WL,BN];ext ė
  .rintro⟨⟨h1,h2⟩,h3⟩;show#[h1,λ d hd=>by
    rcases Am.mp hd with e | e
    .subst e;show h2
    .show h3 d e]
  .rintro⟨h1,h2⟩;show#[#[h1,h2 c Au],λ d hd=>h2 d (Ay _ hd)]
theorem c_ þ:∀ Å6,Ġ->(∀ c∈bs,Gd A B c)->Gd A B (Ì8 tX b)
 | [],b,h,_=>h
 | c::bs,b,h,hb=>c_ bs _ (Gh h (hb c Au)) λ d hd=>hb d (Ay _ hd)
def xj ā È5:Á:=if pu=true then (t,g) else (g,t)
def zS ā (p:Á):Int:=if pu=true then p.2 else p.1
def yw ā (p:Á):Int:=if pu=true then p.1 else p.2
def vi ā À5:Nat->Int->Int->Bd
 | 0,_,_=>[]
 | n+1,g,t=>if g<=zA then xj pu g t::vi î Ŋ else []
def R3 {pu:Bool}{g t g' t':Int}(h:g'<=g) (h':t'<=t):(xj pu g' t').1<=(xj pu g t).1/\(xj pu g' t').2<=(xj pu g t).2:=by
 cases pu
 .show#[h,h']
 .show#[h',h]
theorem W6 ā À5:∀ Æ6 (g t g' t':Int),g'<=g->t'<=t->∀ e∈ Î0,∃ r∈vi î n g' t',r.1<=e.1/\r.2<=e.2
 | 0,_,_,_,_,_,_,e,he=>by cases he
 | n+1,g,t,g',t',h1,h2,e,he=>by
  unfold vi at he ⊢;split at he
  .rw[é ⋯];rcases Am.mp he with x | x
   .subst x;show#[_,Au,R3 h1 h2]
   .let#[r,hr,r1]:=W6 î n ć (g' + give) (yT (t'-get)) ⋯ (e_ ⋯) e x;show#[r,Ay _ hr,r1]
  .cases he
theorem cU ā (zA give get most:Int) (hg:1<=give) (Dt:0<=get):∀ Æ6 È5,0<=g->0<=t->t<=most->∀ e∈ Î0,(0<=zS pu e/\zS pu e<=zA)/\0<=yw pu e/\yw pu e<=most
 | 0,_,_,_,_,_,e,he=>by cases he
 | n+1,g,t,h1,h2,h3,e,he=>by
  unfold vi at he;split at he
  .rcases Am.mp he with x | x
   .subst x;cases pu <;> show#[#[h1,by ext ŝ],h2,h3]
   .show cU î most hg Dt n ć ⋯ (jK _) (Int.le_trans (Lk h2 Dt) h3) e x
  .cases he
theorem W7 ā À5 (hg:1<=give):∀ Æ6 È5,g<=zA+1->((Î0).length:Int)<=zA+1-g
 | 0,g,t,h=>by simp[vi];lia
 | n+1,g,t,h=>by
  unfold vi;split
  .rw[A1];by_cases hh:g+give<=zA+1
   .have:=W7 î hg Ŋ hh;lia
   .have e:vi î Ŋ=[]:=by
     cases n with
     | zero=>rfl
     | succ n=>unfold vi;rw[ĕ ⋯]
    rw[e];simp;lia
  .simp;lia
structure Wy where
 f:Nat
 t:Nat
 a:Int
 b:Int
structure Sl where
 p:Nat
 pu:Bool
 gv:Int
 gt:Int
structure zr where
 A:Int
 B:Int
 os:List Bool
 ws:List Wy
 ss:List Sl
structure zr.Ok è:Prop where
 a0:0<=F.A
 a1:F.A<=12
 b0:0<=F.B
 b1:F.B<=12
 n1:1<=Ï
 n8:Ï<=8
 ws:∀ w∈F.ws,w.f<Ï/\w.t<Ï
 sd:F.ws.length<=60
 ss:∀ s∈F.ss,1<=s.gv/\0<=s.gt
 sl:F.ss=[]\/(F.A+1)*(F.B+1)<64
 s8:F.ss.length<=60
def zr.zA è ā:Int:=if pu=true then F.B else F.A
def sI è (s:Sl) (p:Á):Bd:=vi ï 100 Ã1
def og è (s:Sl) (bd:Bd):Bd:=vJ (bd.flatMap (sI F s))
def Hr è (s:Sl) {b c:Bd}(h:xi b c):xi (og F s b) (og F s c):=YB λ p hp=>by
 ext ŉ;let#[r,hr,r1,r2]:=h.at hx;let#[e,he,e1]:=W6 ï 100 (zS s.pu x) (yw s.pu x) (zS s.pu r) (yw s.pu r) (by unfold zS;ext È6) (by unfold yw;ext È6) p hp;show#[e,B9.mpr #[r,hr,he],e1]
def Ho å {p:Á}(hp:(0<=p.1/\p.1<=F.A)/\0<=p.2/\p.2<=F.B):∀ e∈sI F s p,(0<=e.1/\e.1<=F.A)/\0<=e.2/\e.2<=F.B:=λ e he=>by
 let#[p,pu,gv,gt]:=s;unfold sI zr.zA at he;cases pu with
 | true=>show (cU true F.B gv gt F.A Ì4 ć hp.2.1 hp.1.1 hp.1.2 e he).symm
 | Ë=>show cU Ë F.A gv gt F.B Ì4 ć hp.1.1 hp.2.1 hp.2.2 e he
def Hu å Ï9(h:Gd ē b):Gd ē (og F s b):=Gd.least λ p hp=>by
 ext ŉ;show Ho hs (h.xV x hx) p hp
def wz è ĺ č:Î:=(ì).map λ w=>qI ē w.a w.b À3
def zr.E6 è č:È Sl:=F.ss.find? λ s=>Ă (s.p=p)
def xc è ĺ č:Bd:=
 if Ł=true then match F.E6 p with
  | none=>É4
  | some s=>og F s (É4)
 else kJ (wz ÿ)
def hZ è ĺ č:∀ c∈wz ÿ,Gd ē c:=λ c hc=>by
 let#[w,_,rfl]:=Aw.mp hc;show G5 ..
def Yu ó ĺ č:Gd ē (xc ÿ):=by
 unfold xc;have h1:Gd ē (É4):=ko ć Gd.nil (hZ ÿ);split
 .split
  .show h1
  .rename_i s e;show Hu (ok.ss s (Cu e)) h1
 .show c_ ć (Gd.wc ok.a0 ok.b0) (hZ ÿ)
theorem Lh è {l m:Î}č (h:∀ w∈F.ws,w.f=p->xi (l.getD w.t []) (m.getD w.t [])):xi (xc F l p) (xc F m p):=by
 have h1:xi (tS (Ì9)) (tS (wz F m p)):=λ q hq=>by
  unfold tS at hq ⊢;rw[cH] at hq ⊢;rcases hq with x | ⟨c,hc,x⟩
  .show .inl x
  .ext Ļ;ext É0;show .inr #[_,ł,Vn ć ć (Å9) q x]
 unfold xc;split
 .split
  .show h1
  .show Hr F _ h1
 .intro q hq;unfold kJ at hq ⊢;rw[ba] at hq ⊢;exact#[hq.1,λ c hc=>?_];ext Ļ;ext É0;show Vn ć ć (Å9) q (hq.2 _ (ł))
theorem Lg è {l m:Î}č (h:∀ w∈F.ws,w.f=p->l.getD w.t []=m.getD w.t []):xc F l p=xc F m p:=by
 have:Ì9=wz F m p:=by
  unfold wz;exact C2 λ w hw=>?_;ext É0;rw[Å9]
 unfold xc;rw[this]
def box:ç:=(ď 13).flatMap λ(i:Nat)=>(ď 13).map λ(j:Nat)=>((i:Int),(j:Int))
def mu (b:Bd):Nat:=box.countP (zF b)
theorem Gb {p:Á}(h:(0<=p.1/\p.1<=12)/\0<=p.2/\p.2<=12):p∈box:=by
 let#[x,y]:=p;dsimp only at h;exact B9.mpr #[x.toNat,AO.mpr ⋯,Aw.mpr #[y.toNat,AO.mpr ⋯,?_]];rw[Int.toNat_of_nonneg h.1.1,Int.toNat_of_nonneg h.2.1]
theorem Wu Ã2{p q:α->Bool}:∀ {l:Î1},(∀ x,q x=true->p x=true)->(∃ x∈l,p x=true/\q x=Ë)->l.countP q<l.countP p
 | [],_,#[x,hx,_]=>by cases hx
 | a::l,h,#[x,hx,h1,h2]=>by
  have hle:l.countP q<=l.countP p:=List.countP_mono_left λ y _=>h y;rw[List.countP_cons,List.countP_cons];rcases Am.mp hx with e | e
  .subst e;rw[ĕ (by rw[h2];decide),é h1];lia
  .have:=Wu h #[x,e,h1,h2];by_cases c:q a=true
   .rw[é c,é (h a c)];lia
   .rw[ĕ c];ext İ
theorem Lm þ(hA:A<=12) (hB:B<=12) {b c:Bd}(hb:Ġ) (hc:Gd A B c) (h:xi b c) (AA:b≠c):mu b<mu c:=by
 exact Wu h ?_;by_cases x:∃ p∈c,zF b p=Ë
 .let#[p,hp,e]:=x;have q:=hc.xV p hp;show#[p,Gb #[#[q.1.1,⋯],q.2.1,⋯],Ë0,e]
 .show absurd (hb.eq hc h (xi.of λ p hp=>by
   cases e:zF b p with
   | true=>show yH.mp e
   | Ë=>show absurd #[p,hp,e] x)) AA
theorem Ln (b:Bd):mu b<=169:=by
 have:box.length=169:=()
 rw[<- this];show List.countP_le_length
def u7 (l:Î):Nat:=(l.map mu).sum
theorem Yx:∀ (l:Î),u7 l<=169*Ã7
 | []=>by simp[u7]
 | b::l=>by
  have h1:=Yx l;have h2:=Ln b;unfold u7 at h1 ⊢;rw[Az,List.sum_cons,A1];lia
theorem df þ(hA:A<=12) (hB:B<=12):∀ {l m:Î},Ã7=m.length->(∀ b∈l,Ġ)->(∀ b∈m,Ġ)->(Æ0)->l≠m->u7 l<u7 m
 | [],[],_,_,_,_,h=>absurd rfl h
 | [],_::_,h,_,_,_,_=>by simp at h
 | _::_,[],h,_,_,_,_=>by simp at h
 | b::l,c::m,hl,gb,gc,h,AA=>by
  have hl':Ã7=m.length:=by exists hl
  have h0:xi b c:=h 0;have hs:Æ0:=λ i=>by exists h (i+1)
  have key:u7 l<=u7 m:=by
   by_cases e:l=m
   .rw[e];show An _
   .show BE (df Œ e)
  change (List.map mu (b::l)).sum<(List.map mu (c::m)).sum;rw[Az,List.sum_cons,Az,List.sum_cons];by_cases e:b=c
  .subst e;have:l≠m:=λ q=>AA (by rw[q]);have:=df Œ this;unfold u7 at this;lia
  .have:=Lm hA hB (gb b Au) (gc c Au) h0 e;unfold u7 at key;lia
def sC è (Ń:Ü) č:Bool:=F.ws.any λ w=>Ă (w.f=p)&&fresh.contains w.t
def xk è ĺ (Ń:Ü):Î:=(ď Î2).map λ p=>if sC F Ń p=true then xc ÿ else Î3
def uX (last following:Î):Ü:=(ď following.length).filter λ p=>Ă (following.getD p []≠ Î3)
def qf è:Nat->Ï2->Î->Ü->È (Ï2)
 | 0,_,_,_=>none
 | n+1,EZ,last,Ń=>if Ń=[] then ↑ Ë1 else
   let fo:=xk Ö
   let fr:=uX last fo
   if fr=[] then ↑ Ë1 else qf F n Ë1 fo fr
structure St è ĺ (Ń:Ü):Prop where
 len:Î2=Ï
 gd:∀ b∈last,Gd ē b
 fr:∀ p<Ï,sC F Ń p=Ë->(ü)->xc ÿ=Î3
 le:∀ p<Ï,(ü)->xi (xc ÿ) (Î3)
def nR Ã2(f:Nat->α) (n p:Nat) (d:α) (h:p<n):((ď n).map f).getD p d=f p:=by
 rw[Bi,AG,DH h];rfl
def qm è ĺ (Ń:Ü):(xk Ö).length=Î2:=by unfold xk;simp
theorem St.at È7 ô {p:Nat}(hp:p<Ï) (hw:ü):À4=xc ÿ:=by
 unfold xk;rw[É5];split
 .rfl
 .rename_i h;show (s.fr p hp (by exists h) hw).symm
def KN È7{Ń:Ü}{p:Nat}(h:sC F Ń p=true):ü:=by
 unfold sC at h;let#[w,h1,h2]:=A_.mp h;show#[w,h1,by simp at h2;show h2.1]
theorem St.no È7 ô {p:Nat}(hp:p<Ï) (hw:¬ ü):À4=Î3:=by
 unfold xk;rw[É5,ĕ (λ h=>hw (KN h))]
theorem St.W0 È7 ô č:xi (À4) (Î3):=by
 by_cases hp:p<Ï
 .by_cases hw:ü
  .rw[s.at hp hw];show s.le p hp hw
  .rw[s.no hp hw];show xi.refl _
 .have h1:À4=[]:=by
   rw[Bi,C7 (by rw[qm,s.len];lia)];rfl
  rw[h1];intro q x;cases x
def St.next ó ô:St F (xk Ö) (Î4) where
 len:=by rw[qm,s.len]
 gd:=λ b hb=>by
  unfold xk at hb;let#[p,hp,rfl]:=Aw.mp hb;split
  .show Yu ok last p
  .have Av:=AO.mp hp;rw[Bi,A8 Av];show s.gd _ (BF Av)
 fr:=λ p hp hn hw=>by
  rw[s.at hp hw];exact Lg F p λ w w1 w2=>?_;have hwt:=(ok.ws w w1).2;by_cases e:(xk Ö).getD w.t []=ò w.t []
  .show e
  .have:sC F (Î4) p=true:=by
    ext Í4;have:w.t∈ Î4:=by
     unfold uX;show A7.mpr #[AO.mpr (by rw[qm,s.len];show hwt),by exists e]
    simp[w2,this]
   rw[this] at hn;cases hn
 le:=λ p hp hw=>by
  rw[s.at hp hw];show Lh F p λ w w1 w2=>s.W0 w.t
def JP Ã3 (h:uX last fo≠[]):fo≠last:=λ e=>h (by
 subst e;unfold uX;simp)
def start è:Î:=List.replicate Ï wc
theorem St.start ó:St F (start F) (ď Ï) where
 len:=by unfold RN.start;simp
 gd:=λ b hb=>by rw[List.eq_of_mem_replicate hb];show Gd.wc ok.a0 ok.b0
 fr:=λ p hp hn #[w,w1,w2]=>by
  have:sC F (ď Ï) p=true:=by
   ext Í4;have:=(ok.ws w w1).2;simp[w2,this]
  rw[this] at hn;cases hn
 le:=λ p hp hw=>by
  have e:(RN.start F).getD p []=wc:=by
   unfold RN.start;rw[Bi,CP,é hp];rfl
  rw[e];show (Yu ok _ p).LQ
theorem Zp ó:∀ Æ6 (EZ:Ï2) ĺ (Ń:Ü),St Ö->u7 last<n->
  ∃ more last',qf F n EZ last Ń=↑(EZ++last::more)/\(∀ r∈last::more,r.length=Ï/\∀ b∈r,Gd ē b)/\(last::more).getLast?=↑last'/\more.length<=u7 last
 | 0,_,_,_,_,h=>⋯
 | n+1,EZ,last,Ń,s,h=>by
  unfold qf;split
  .show Ģ
  .dsimp only;split
   .show Ģ
   .rename_i hf;have s':=s.next ok;have Av:u7 (xk Ö)<u7 last:=df ok.a1 ok.b1 (qm ..) s'.gd s.gd s.W0 (JP (qm ..) hf);let#[more,last',e1,e2,e3,e4]:=Zp ok n Ë1 ć s' ⋯;exact#[xk Ö::more,last',by rw[e1];simp,λ r hr=>?_,by rw[List.getLast?_cons_cons];show e3,by rw[A1];lia];rcases Am.mp hr with e | e
    .subst e;show#[s.len,s.gd]
    .show e2 r e
theorem G6 {A B a b:Int}{bd:Bd}(h0:∀ p∈bd,0<=p.1/\0<=p.2) {q:Á}(hq:(0<=q.1/\q.1<=A)/\0<=q.2/\q.2<=B):zF Í9 q=true↔zF bd (q.1+a,q.2+b)=true:=by
 unfold qI;rw[nD,yH,yH];ext ė
 .ext Ĕ;let#[hp,_]:=A7.mp hp;let#[r,hr,rfl]:=Aw.mp hp;exact#[r,hr,?_,?_]
  .unfold wb yT at h1;dsimp only at h1 ⊢;split at h1 <;> lia
  .unfold wb yT at h2;dsimp only at h2 ⊢;split at h2 <;> lia
 .rintro⟨r,hr,h1,h2⟩;ext Å2;have e1:(Ì7).1<=q.1:=Æ9
  have e2:(Ì7).2<=q.2:=Æ9
  exact#[Ì7,A7.mpr #[Aw.mpr #[r,hr,rfl],?_],e1,e2];unfold pU;rw[za3 ⋯,za3 ⋯];rfl
theorem cV ā À5 (hg:1<=give) (Dt:0<=get):∀ Æ6 È5,0<=t->zA-g<n->∀ (G T:Int),G<=zA->
  ((∃ e∈ Î0,zS pu e<=G/\yw pu e<=T)↔∃ k:Nat,g+k*give<=G/\yT (t-k*get)<=T)
 | 0,g,t,ht,hn,G,T,hG=>by
  ext ė
  .rintro⟨e,he,_⟩;cases he
  ext ĵ
 | n+1,g,t,ht,hn,G,T,hG=>by
  have gv:∀ x y,zS É1=x:=λ x y=>Ċ
  have gt:∀ x y,yw É1=y:=λ x y=>Ċ
  have ih:=cV î hg Dt Ŋ (jK _) ⋯ G T hG;have mm:∀ k:Nat,yT (yT (t-get)-k*get)=yT (t-ů*get):=λ k=>by
   have:0<=(k:Int)*get:=Cj ⋯ Dt;have e:(ů:Int)*get=k*get+get:=Į
   rw[e];unfold yT;split <;> split <;> (try split) <;> lia
  have gg:∀ k:Nat,g+give+k*give=g+ů*give:=λ k=>by
   rw[Ci,Cg];lia
  unfold vi;split
  .rename_i hgb;ext ė
   .rintro⟨e,he,h1,h2⟩;rcases Am.mp he with rfl | he
    .rw[gv] at h1;rw[gt] at h2;exact#[0,by simpa using h1,?_];unfold yT;split <;> simp at * <;> lia
    .let#[k,k1,k2]:=ih.mp #[e,he,h1,h2];show#[k+1,by rw[<- gg];show k1,by rw[<- mm];show k2]
   .rintro⟨k,k1,k2⟩;cases k with
    | zero=>
     exact#[_,Au,by rw[gv];simpa using k1,?_];rw[gt];unfold yT at k2;split at k2 <;> simp at * <;> lia
    | succ k=>
     let#[e,he,h1]:=ih.mpr #[k,by rw[gg];show k1,by rw[mm];show k2];show#[e,Ay _ he,h1]
  .rename_i hgb;ext ė
   .rintro⟨e,he,_⟩;cases he
   ext ĵ
def rH {pu:Bool}{p q:Á}:(p.1<=q.1/\p.2<=q.2)↔zS pu p<=zS pu q/\yw pu p<=yw pu q:=by
 cases pu
 .show Iff.rfl
 .show And.comm
def Hv å (hA:F.A<=12) (hB:F.B<=12) Ï9(hb:∀ p∈b,0<=p.1/\0<=p.2) {q:Á}(hq:Ä8):
  zF (og F s b) q=true↔ Ř:=by
 have hbr:ű<=12:=by unfold zr.zA;ext È6
 have hqb:ċ<=ű:=by unfold zS zr.zA;ext İ
 have hq0:0<=ċ/\0<=Î5:=by unfold zS yw;ext İ
 have gv:∀ x y,zS s.pu (xj s.pu x y)=x:=λ x y=>by cases s.pu <;> rfl
 have gt:∀ x y,yw s.pu (xj s.pu x y)=y:=λ x y=>by cases s.pu <;> rfl
 unfold og;rw[nD,yH];ext ė
 .rintro⟨e,he,lY⟩;let#[p,hp,he]:=B9.mp he;let#[h1,h2]:=Ť lY;ext ŀ
  let#[k,k1,k2]:=(cV ï Ì4 ć g0.2 ⋯ ć hqb).mp #[e,he,h1,h2];exact#[k,yH.mpr #[p,hp,É6 #[by rw[gv];lia,?_]]];rw[gt];unfold yT at k2;split at k2 <;> lia
 .rintro⟨k,hk⟩;let#[p,hp,lY]:=yH.mp hk;let#[h1,h2]:=Ť lY;rw[gv] at h1;rw[gt] at h2;ext ŀ
  let#[e,he,h3]:=(cV ï Ì4 Ã1 g0.2 ⋯ (ċ) (Î5) hqb).mpr #[k,⋯,Å8];show#[e,B9.mpr #[p,hp,he],É6 h3]
def zI è:Nat->Î
 | 0=>start F
 | k+1=>(ď Ï).map λ p=>xc F (zI F k) p
theorem pM è:∀ k,(zI F k).length=Ï
 | 0=>by unfold zI start;simp
 | k+1=>by unfold zI;simp
theorem Lf È7 ô (hw:∀ p<Ï,ü):xk Ö=(ď Ï).map λ p=>xc ÿ:=by
 exact C5 (by rw[qm,s.len];simp) λ i h1 h2=>?_;have hi:i<Ï:=by exists h2
 have e:=s.at hi (hw i hi);rw[Bi,A8 h1] at e;exists e
def JQ Ã3 (h:uX last fo=[]):fo=last:=by
 exact C5 hl λ i h1 h2=>?_;have:i∉uX last fo:=by rw[h];simp
 unfold uX at this;rw[A7] at this;have e:fo.getD i []=ò i []:=Classical.byContradiction λ AA=>this #[AO.mpr h1,by exists AA];rw[Bi,A8 h1,Bi,A8 h2] at e;exists e
theorem Zq ó (hw:∀ p<Ï,ü):∀ Æ6 (EZ:Ï2) (k:Nat) (Ń:Ü) (res:Ï2),St F (zI F k) Ń->Ń ≠[]->EZ=(ď k).map (zI F)->
  qf F n EZ (zI F k) Ń=↑res->∃ m,res=(ď (m+1)).map (zI F)/\zI F (m+1)=zI F m
 | 0,_,_,_,_,_,_,_,h=>by cases h
 | n+1,EZ,k,Ń,res,s,hf,ht,h=>by
  unfold qf at h;rw[ĕ hf] at h;dsimp only at h;have e:xk F (zI F k) Ń=zI F (k+1):=Lf s hw;have et:EZ++[zI F k]=(ď (k+1)).map (zI F):=by rw[ht,List.range_succ,Bu];rfl
  rw[e,et] at h;split at h
  .rename_i AR;cases h;show#[k,rfl,JQ (by rw[pM,pM]) AR]
  .rename_i AR;have s':=s.next ok;rw[e] at s';show Zq ok hw n _ (k+1) _ res s' AR rfl h
def yp è š:Prop:=Ä8
def tI è š (w:Wy):È (Á):=if q.1+w.a<0\/q.2+w.b<0 then none else ↑(min (q.1+w.a) F.A,min (q.2+w.b) F.B)
def yF è ĺ š (w:Wy):Bool:=match tI F q w with
 | none=>Ë
 | some r=>zF À3 r
def qV è č:List Wy:=ì
def uF è (s:Sl):Nat->Á->ç
 | 0,q=>[q]
 | n+1,q=>q::if s.gv<=ċ then uF F s n (xj s.pu (ċ-s.gv) (Ĵ)) else []
def yP è č š:ç:=match F.E6 p with
 | none=>[q]
 | some s=>uF F s 20 q
def pR è ĺ č š:Bool:=
 if Ł=true then (yP F p q).any λ r=>(qV F p).any (yF F last r) else (qV F p).all (yF F last q)
def Ha þ Ï9(hb:Ġ) (x y:Int):zF b (min x A,min y B)=zF b (x,y):=by
 rw[Bh,yH,yH];ext ė
 .ext Ĕ;ext Å2;show#[p,hp,Ĥ,Ĥ]
 .ext Ĕ;have:=É7;ext Å2;show#[p,hp,Ĥ,Ĥ]
def LP Ä4 š:yF F last q w=zF À3 (q.1+w.a,q.2+w.b):=by
 unfold yF tI;by_cases h:q.1+w.a<0\/q.2+w.b<0
 .rw[é h]
  symm
  rw[<- Ee,yH];ext Ĕ;have:=É7;ext Å2;lia
 .rw[ĕ h];show Ha hb ć
def jX Ä4 È8:zF (qI ē w.a w.b À3) q=yF F last q w:=by
 rw[LP hb,Bh];show G6 (λ p hp=>#[(É7).1.1,(É7).2.1]) hq
def cG ı:zF (É4) q=(qV F p).any (yF F last q):=by
 rw[Bh,tS,cH,A_];ext ė
 .rintro (h | ⟨c,hc,h⟩)
  .cases h
  .unfold wz at hc;ext Ļ;show#[w,hw,by rw[<- Ä9];show h]
 .rintro⟨w,hw,h⟩;show .inr #[_,ł,by rw[Ä9];show h]
def Gg ı:zF (kJ (wz ÿ)) q=(qV F p).all (yF F last q):=by
 rw[Bh,kJ,ba,BL];ext ė
 .rintro⟨_,h⟩ w hw;rw[<- Ä9];show h _ (ł)
 .intro h;exact#[Wt.mpr #[hq.1.1,hq.2.1],λ c hc=>?_];unfold wz at hc;ext Ļ;rw[Ä9];show h w hw
def uA ā (x y:Int):zS É1=x:=Ċ
def rG ā (x y:Int):yw É1=y:=Ċ
def lr ā š:xj pu (zS pu q) (yw pu q)=q:=Ċ
def vK È7{pu:Bool}{q:Á}:yp F q↔(0<=zS pu q/\zS pu q<=F.zA pu)/\0<=yw pu q/\yw pu q<=F.zA (!pu):=by
 unfold yp zr.zA;cases pu
 .show Iff.rfl
 .show And.comm
theorem iK å:∀ Æ6 {q:Á},yp F q->∀ r∈uF F s n q,yp F r
 | 0,q,h,r,hr=>by cases AI.mp hr;show h
 | n+1,q,h,r,hr=>by
  unfold uF at hr;rcases Am.mp hr with rfl | hr
  .show h
  .split at hr
   .rename_i hg;exact iK hs n ?_ r hr;have h':=ī h;rw[vK (pu:=s.pu),uA,rG];lia
   .cases hr
theorem W5 å Ï9(hb:Gd ē b):∀ Æ6 {q:Á},yp F q->ċ<n->
  ((Ř)↔(uF F s n q).any (zF b)=true)
 | 0,q,h,hn=>by
  have:=(ī h).1.1;lia
 | n+1,q,h,hn=>by
  have h':=ī h;have cut:∀ x y,zF b (xj s.pu x y)=zF b (xj s.pu x (min y (F.zA (!s.pu)))):=λ x y=>by
   rw[Bh,yH,yH];ext ė
   .rintro⟨p,hp,h1⟩;ext Â0;ext Ō
   .rintro⟨p,hp,h1⟩;have h2:=Ť h1;ext Ō
  unfold uF;rw[BB,DB];by_cases hg:s.gv<=ċ
  .rw[é hg];have hi:yp F (xj s.pu (ċ-s.gv) (Ĵ)):=by
    rw[vK (pu:=s.pu),uA,rG];lia
   have ih:=W5 hs hb n hi (by rw[uA];lia);rw[uA,rG] at ih;have sh:∀ k:Nat,zF b (xj s.pu (ċ-s.gv-k*s.gv) (Ĵ+k*s.gt))=zF b (xj s.pu (ċ-ů*s.gv) (Î5+ů*s.gt)):=λ k=>by
    ext Ì5
    have e2:(ů:Int)*s.gt=k*s.gt+s.gt:=Į
    have k0:0<=(k:Int)*s.gt:=Cj ⋯ hs.2;rw[e1,e2,cut,cut (ċ-(k*s.gv+s.gv))];congr 2
    .lia
    .lia
   rw[<- ih];ext ė
   .rintro⟨k,hk⟩;cases k with
    | zero=>show .inl (ţ)
    | succ k=>show .inr #[k,by rw[sh];show hk]
   .rintro (hk | ⟨k,hk⟩)
    .show#[0,ţ]
    .show#[k+1,by rw[<- sh];show hk]
  .rw[ĕ hg];ext ė
   .rintro⟨k,hk⟩;cases k with
    | zero=>show .inl (ţ)
    | succ k=>
     exfalso;let#[p,hp,h1]:=yH.mp hk;ext Â0;rw[uA] at h2;ext Ì5
     have k0:0<=(k:Int)*s.gv:=Cj ⋯ ⋯;rw[e1] at h2;lia
   .rintro (hk | hk)
    .show#[0,ţ]
    .cases hk
theorem eZ ó Æ8 č È8:zF (xc ÿ) q=pR ÿ q:=by
 have ge:Gd ē (É4):=ko ć Gd.nil (hZ ÿ);unfold xc pR yP;by_cases ho:Ł=true
 .rw[é ho,é ho];cases hs:F.E6 p with
  | none=>simp![BB,List.any_nil,Bool.or_false];show cG hg hq
  | some s=>
   have hs':=ok.ss s (Cu hs);have hgv:ċ<20:=by
    have:=ī hq;have:ű<=12:=by have:=ok.a1;have:=ok.b1;unfold zr.zA;ext È6
    lia
   rw[Bh];dsimp only;rw[Hv hs' ok.a1 ok.b1 (λ p hp=>#[(ge.xV p hp).1.1,(ge.xV p hp).2.1]) hq,W5 hs' ge 20 hq ⋯,A_,A_];ext ė
   .rintro⟨r,hr,h⟩;show#[r,hr,by rw[<- cG hg (iK hs' 20 hq r hr)];show h]
   .rintro⟨r,hr,h⟩;show#[r,hr,by rw[cG hg (iK hs' 20 hq r hr)];show h]
 .rw[ĕ ho,ĕ ho];show Gg hg hq
end RN
namespace zN
open PySem L2 L3 L5
abbrev ao:Sm:=
 (retS (t8 (instS "int" Ě) (Yp (instS "bool" Ě))))
def oG:Ap:=zR ["thing"] 1 ao
abbrev Ud:Sm:=
 (retS (zv vI (za ě zg)))
def mw:Ap:=zR ["floor"] 1 Ud
abbrev Uw:Sm:=
 (retS (t8 (zb nS ë Ã8) (zb nS ě Ã9)))
def k_:Ap:=zR ["pair","other"] 2 Uw
abbrev kL:Sm:=
 (yf (tq (ui (wt Ô)) (zO (zb ltI (zb zi á Å) (zb zi (zb ŋ (lC Å)) Å)))) (vj 1 ń) yg)
abbrev Ug:Sm:=
 (zm (vO 1 Æ1)
 (zm (xY [2] (xJ (zv oY (za Ě zg))) (zy 2) kL)
 (retS (zv qX ŵ))))
def oA:Ap:=zR ["pairs","least","pair"] 1 Ug
abbrev W_:Sm:=
 (zm (vj 4 (dQ Ğ))
 (zm (zG 5 (zb y8 ö (zb ŋ â)))
 (zG 6 (zv tN (za Â (za (zb x8 Ë2 (zb ŋ Ė)) zg))))))
abbrev F0:Sm:=
 (zm (zG 3 Ã9)
 (zm (vO 4 Æ1)
 (zm (zG 5 (zb zi á Ñ))
 (zm (zG 6 (zb zi á (zb x8 Å Ñ)))
 (zm (jf 1000000 Í5)
 (pk 4))))))
def bO:Ap:=zR ["brims","stall","pair","purse","pairs","given","got"] 3 F0
abbrev Ub:Sm:=
 (zm (zG 3 (Zf (zb zi ħ á)))
 (zm (zG 4 (zb y8 Ã8 ģ))
 (zm (zG 5 (zb y8 Ã9 œ))
 (zm (yf (tq (zO (zb ltI í Â)) (zO (zb ltI ö Â))) ő yg)
 (retS (tupS (za (zv wB (za í Â3)) (za (zv wB (za ö Â4)) zg))))))))
def kU:Ap:=zR ["floor","pair","way","coins","first","second"] 3 Ub
abbrev aq:Sm:=
 (zm (zG 4 Ã9)
 (zm (zG 5 (zb x8 (zb zi á í) (zb xx Ñ (zb ŋ â))))
 (zm (yf (zO (zb ltI ö Â)) ő yg)
 (zm (zG 6 (zv wB (za (zb y8 (zb zi á (zb x8 Å í)) (zb xx Ñ (zb ŋ Ė))) (za (zb Æ (zb x8 Å í)) zg))))
 (zm (yf (zO (zb æ í Â)) (retS Ç3) yg)
 (retS (tupS (za (zh 6) Ņ))))))))
def kZ:Ap:=zR ["brims","stall","pair","times","purse","left","got"] 4 aq
abbrev Uk:Sm:=
 (zm (yf (zO (zb ltI Ô Ç4)) (retS (zb Æ Ô)) yg)
 (retS Â))
def oB:Ap:=zR ["_law_script","_law_k"] 2 Uk
abbrev Vb:Sm:=
 (zm (vj 2 (zb yz Ñ (zb į (cI 6))))
 (zG 3 (zb pV Ñ (zb į (cI 6)))))
abbrev bh:Sm:=
 (zm (zG 3 (zb yz (zb y8 (zb y8 (zb lD Ñ (cI 52027)) (zb pV Ñ (zb į (cI 22)))) (zb lD (cI 13) í)) Ë3))
 (vj 2 (zb pV (zb lD Ñ (zb y8 (zb pV Ñ (zb į (cI 23))) (cI 7))) (zb į (cI 9)))))
abbrev Uh:Sm:=
 (zm (vO 2 Æ1)
 (zm (zG 3 (zv h_ (za (zb pV Ě â) zg)))
 (zm (yf (zO (zb æ (zb yz Ě â) Å)) (zm (xY [4] (xU ua ŵ) (zy 4) Vb)
 (pk 2)) yg)
 (zm (zG 3 (zb y8 (zb yz Ñ Ë3) (cI 77003)))
 (zm (xY [4] (xU ua ŵ) (zy 4) bh)
 (pk 2))))))
def bU:Ap:=zR ["_law_cell","_law_count","_law_found","_law_number","_law_k"] 2 Uh
abbrev FC:Sm:=
 (retS (zv wB (za (cI 12) (za (zb y8 (zb x8 (zb yz (zb yz Ě (cI 25)) (zb y8 (zb xx â Ô) Å)) Ô) (zb yz (zb xf Ě (cI 25)) â)) zg))))
def gN:Ap:=zR ["_law_number","_law_most"] 2 FC
abbrev F8:Sm:=
 (retS (zb zi (ve (za ž (za À8 (za Ë8 (za (tupS (za Å (za (cI 4) zg))) (za ž (za À8 (za (tupS (za (cI 8) (za Å zg))) (za ž (za À8 (za Ë8 zg))))))))))) (zb yz Ě (cI 10))))
def gI:Ap:=zR ["_law_number"] 1 F8
abbrev hJ:Sm:=
 (yf (qA (zO (zb æ Ë2 Ô)) (zO (zb lZ Ñ Â))) (zm (lL 5 Ç5 (zb x8 (zb zi á Ç5) (zb xx Ñ Î6)))
 (lL 5 (zb x8 Å Ç5) (zv wB (za (zb zi ë (zb x8 Å Ç5)) (za (zb y8 (zb zi á (zb x8 Å Ç5)) (zb xx Ñ Ë4)) zg))))) yg)
abbrev Um:Sm:=
 (zm (vO 5 (zv listS (za á zg)))
 (zm (xY [6,7,8,9] Î7 (w6 4 (yj (zy 6) (yj (zy 7) (yj (zy 8) (yj (zy 9) vd))))) hJ)
 (zm (vO 5 (tupS (za (zb y8 (zb zi ö Â) (zb zi (zb zi ħ í) â)) (za (zb y8 (zb zi ö Å) (zb zi (zb zi ħ í) Ė)) zg))))
 (zm (yf (zO (zb ltI (zv dg (za ö zg)) Â)) ő yg)
 (retS (tupS (za (zb zi (zb zi ħ í) Å) (za (tupS (za (zv wB (za (zb zi ö Â) Â3)) (za (zv wB (za (zb zi ö Å) Â4)) zg))) zg))))))))
def gL:Ap:=zR ["_law_floor_here","_law_place","_law_pair","_law_times","_law_way_here","_law_held","_law_start_here","_law_purse","_law_give","_law_get"] 5 Um
abbrev bo:Sm:=
 (yf (zO (zb æ í Ô)) (retS (zb qo (zb xx Ñ Ë2) (zb zi á ö))) yg)
abbrev Ul:Sm:=
 (zm (yf (tq (ui (wt (instS "int" Ñ))) (tq (wt (instS "bool" Ñ)) (zO (zb ltI Ñ Â)))) ğ)
 (zm (xY [4,5,6,7] Î7 (w6 4 (yj (zy 4) (yj (zy 5) Ĩ))) bo)
 (retS Ç6)))
def bX:Ap:=zR ["_law_floor_here","_law_place","_law_pair","_law_times","_law_start_here","_law_purse","_law_give","_law_get"] 4 Ul
abbrev ak:Sm:=
 (zm (zG 3 (zb yz á (zv vI (za ě zg))))
 (zm (zG 4 (tupS (za (zb yz (zb xf á (cI 10)) (zb y8 (zb zi ë Â) Å)) (za (zb yz (zb xf á (cI 1000)) (zb y8 (zb zi ë Å) Å)) zg))))
 (zm (zG 5 (zb ŋ Ñ))
 (zm (yf (qA (zO (zb Ų ö (tupS zg))) (zO (zb lZ (zb yz (zb xf á (cI 100000)) (cI 4)) Â))) (zm (mT (zb zi ö (zb yz (zb xf á (zb į (cI 6))) (zv vI (za ö zg)))) (w6 2 Ĩ))
 (zG 4 (tupS (za (zv tN (za Â (za (zb x8 Ë2 (zb yz (zb xf á (zb į (cI 8))) â)) zg))) (za (zv tN (za Â (za (zb x8 Ç5 (zb xf (zb yz (zb xf á (zb į (cI 9))) Ė) â)) zg))) zg))))) yg)
 (retS (tupS (za (zh 3) ĩ)))))))
def bV:Ap:=zR ["_law_floor_here","_law_told","_law_number","_law_place","_law_pair","_law_border","_law_x","_law_y"] 3 ak
abbrev sV:Ad:=
 ĥ
abbrev oS:Ad:=
 (xr À 0 "done")
abbrev Uo:Sm:=
 (retS (t8 (zv oG Ķ) (W8 qo qo Ô Ě á)))
def oE:Ap:=zR ["thing","least","most"] 3 Uo
abbrev Ur:Sm:=
 (retS (t8 (zv oG Ķ) (zb nS Ě Â)))
def gP:Ap:=zR ["thing"] 1 Ur
abbrev iQ:Ad:=
 wK [none,↑1] (xJ Ě) Ë5 sJ (zv k_ (za Đ Ķ))
abbrev Us:Sm:=
 (retS (zv (iR λ bs=>bs.any id) (za iQ zg)))
def kX:Ap:=zR ["border","pair"] 2 Us
abbrev WJ:Ad:=
 wK [none] (xJ Ě) Ë5 sJ (tupS (za ë (za Â (za ě zg))))
abbrev WD:Ad:=
 wK [none] (xJ Ô) Ë5 sJ (tupS (za ë (za Å (za ě zg))))
abbrev Vd:Sm:=
 (zm (cK ŧ)
 (yf Ĉ))
abbrev FN:Sm:=
 (zm (zG 2 (zb y8 WJ WD))
 (zm (XW 3)
 (zm (vO 4 Æ1)
 (zm (xY [5,6,7] (xJ (zv oY (za á zg))) (w6 3 (yj (zy 5) Ĩ)) Vd)
 (cx 4 (retS (zv oA ĩ)))))))
def gW:Ap:=zR ["border","other","steps","lows","shared","first","side","second"] 2 FN
abbrev Ut:Sm:=
 (retS (zv oA (za (zb y8 (zv listS (za Ě zg)) (zv listS ŵ)) zg)))
def kY:Ap:=zR ["border","other"] 2 Ut
abbrev cY:Ad:=
 wK [none,↑1] (xJ á) Ë5 sJ (tupS (za (zv tN (za Â (za (zb x8 ë (zb ŋ â)) zg))) (za (zv tN (za Â (za (zb x8 ě (zb ŋ Ė)) zg))) zg)))
abbrev HX:Ad:=
 wK [none,↑0] (xJ Ñ) Ë5 (wt (zv k_ (za Đ Ķ))) Õ
abbrev FQ:Sm:=
 (zm (zG 3 cY)
 (retS (zv oA (za HX zg))))
def ah:Ap:=zR ["brims","way","border","pairs"] 3 FQ
abbrev F7:Sm:=
 (retS (tupS (za Õ (za (zb yz (zb yz á (cI 8)) Ô) (za (zv gN (za (zb yz (zb xf á (cI 8)) (cI 50)) Ą)) (za (zv gN (za (zb yz (zb xf á (cI 400)) (cI 50)) Ą)) zg))))))
def gH:Ap:=zR ["_law_place","_law_many","_law_number","_law_size"] 4 F7
abbrev iP:Ad:=
 wK [none,none] (xU ff (za Ě ŵ)) ļ sJ (zv oE (za Õ (za Ã8 (za Ã9 zg))))
abbrev Uq:Sm:=
 (zm (yf (tq (ui (wt (instS "tuple" Ě))) (zO (zb Ų Ç4 (zv vI ŵ)))) ğ)
 (retS (zv (iR λ bs=>bs.all id) (za iP zg))))
def gO:Ap:=zR ["thing","bounds"] 2 Uq
abbrev FK:Sm:=
 (yf (ui (wt (zv oE (za Đ (za Â (za (zb x8 (zv mw Ķ) Å) zg)))))) nB yg)
def mz:Ap:=zR ["floor","place"] 2 FK
abbrev Ve:Sm:=
 (zG 1 (zv kY Ê))
abbrev FO:Sm:=
 (zm (zG 1 (tupS zg))
 (zm (xY [2] (xJ Õ) (zy 2) Ve)
 (retS Đ)))
def af:Ap:=zR Ç7 1 FO
abbrev Vf:Sm:=
 (zG 1 (zv gW Ê))
abbrev FP:Sm:=
 (zm (zG 1 (tupS (za (tupS Ŷ) zg)))
 (zm (xY [2] (xJ Õ) (zy 2) Vf)
 (retS Đ)))
def ag:Ap:=zR Ç7 1 FP
abbrev Vc:Sm:=
 (yf (ui (wt (zv kX (za (zb zi í Ô) É8)))) (retS (zh 3)) yg)
abbrev FI:Sm:=
 (zm (xY [3,4] (xU q8 Ķ) (w6 2 (yj (zy 3) (yj (zy 4) vd))) Vc)
 ő)
def gR:Ap:=zR ["told","place","pair","number","held"] 3 FI
abbrev FH:Sm:=
 (retS (zv oE (za Đ (za Â (za (zb x8 (zv vI (za ħ zg)) Å) zg)))))
def b_:Ap:=zR ["floor","thing"] 2 FH
abbrev F6:Sm:=
 (zm (zG 4 (zv kU (za Õ Ê)))
 (retS (t8 (zb (yX true) í Ý) (zv kX (za (zb zi Ñ (zb zi (zb zi ħ á) Å)) ĩ)))))
def gG:Ap:=zR ["floor","pair","way","held","behind"] 4 F6
abbrev bj:Sm:=
 (vj 6 (zv gH (za (zh 8) (za À7 (za (zb zi Ñ (zb y8 (zb y8 Ė (zb xx (cI 4) Î6)) (zc 11))) (za (zh 10) zg))))))
abbrev iY:Sm:=
 (zm (zG 9 (zb zi Ñ (zb y8 â (zb xx (cI 4) Î6))))
 (zm (vj 5 (zb zi (ve (za ø ũ)) (zb yz Ë4 â)))
 (zm (zG 10 (zb zi (ve (za â (za Ė (za Ė (za (cI 12) zg))))) (zb yz (zb xf Ë4 â) (cI 4))))
 (zm (xY [11] (xU ua (za (zb y8 Å (zb yz (zb xf Ë4 (cI 8)) Ė)) zg)) (zy 11) bj)
 (yf (qA (zO (zb æ (zb zi ö Î6) ø)) (zO (zb æ (zb yz (zb xf Ë4 (cI 24)) Ė) Â))) (vj 7 (tupS (za (zh 8) (za (zb yz (zb xf Ë4 (cI 72)) â) (za (zb y8 Å (zb yz (zb xf Ë4 (cI 144)) (cI 4))) (za (zb yz (zb xf Ë4 (cI 576)) (cI 5)) zg)))))) yg)))))
abbrev bg:Sm:=
 (vj 6 (zv gH (za (zb yz (zb yz (zb xf ģ (cI 64)) (cI 8)) í) (za À7 (za (zb zi Ñ (zb y8 (cI 34) (zc 11))) (za Ė zg))))))
abbrev FA:Sm:=
 (zm (zG 3 (zv bU (za Õ (za (cI 43) zg))))
 (zm (zG 4 (zb y8 Å (zb yz ģ Ô)))
 (zm (vO 5 Æ1)
 (zm (vO 6 Æ1)
 (zm (vO 7 Æ1)
 (zm (xY [8,9,10,11] (xU ua (za í zg)) (zy 8) iY)
 (zm (yf (zO (zb æ (zb yz (zb xf ģ (cI 8)) (cI 8)) Å)) (xY [11] (xU ua (za (zv wB (za (cI 9) (za (zb x8 (cI 24) (zv vI (za Ë2 zg))) zg))) zg)) (zy 11) bg) yg)
 (zm (zG 12 (tupS (za (zb yz œ (zb y8 á Å)) (za (zb yz (zb xf œ (cI 13)) (zb y8 á Å)) zg))))
 (retS (tupS (za (zh 12) (za (zv qX (za ö zg)) (za (zv qX (za (zv sZ (za Ë2 zg)) zg)) (za (zv qX (za Ç5 zg)) zg))))))))))))))
def qP:Ap:=zR ["_law_cell","_law_most","_law_brim","_law_xs","_law_many","_law_owners","_law_ways","_law_stalls","_law_place","_law_number","_law_size","_law_k","_law_brims"] 3 FA
abbrev FZ:Sm:=
 (yf (tq (zO (zb Ū ĥ Ý)) (zO (zb Ų (zb zi (zb zi É9 Å) (zb zi ĥ Â)) Ô))) (Zl [0] "NoMore") yg)
def oI:à:=xo ["self","owner"] 2 [0] FZ
abbrev FL:Sm:=
 (yf (ui (wt (zv gO (za Đ (za (tupS (za (tupS (za Â Â3)) (za (tupS (za Â Â4)) zg))) zg))))) nB yg)
def gS:Ap:=zR ["floor","pair"] 2 FL
abbrev HY:Ad:=
 wK [none,none,↑1] (xU q8 (za ħ zg)) ļ (zO (zb æ Ã8 á)) Õ
abbrev Fv:Sm:=
 (zm Î8
 (retS HY))
def mv:Ap:=zR ["floor","place"] 2 Fv
abbrev kK:Sm:=
 (yf (zO (zb æ (zb zi á Â) Ô)) (retS ń) yg)
abbrev Uc:Sm:=
 (zm Î8
 (zm (xY [2] Î7 (zy 2) kK)
 ő))
def o9:Ap:=zR ["floor","place","stall"] 2 Uc
abbrev FJ:Sm:=
 (yf (tq (ui (wt (zv b_ (za Õ É8)))) (zO (zb Ų (zb zi (zb zi ħ á) Â) Ô))) nB yg)
def ae:Ap:=zR ["floor","place","way"] 3 FJ
abbrev Vg:Sm:=
 (ix 4 (zv bO (za ë (za (zh 3) Ņ))))
abbrev FT:Sm:=
 (zm (zG 3 (zv o9 ã))
 (zm (yf (zO (zb Ū Ñ Ý)) (retS ń) yg)
 (zm (vO 4 Æ1)
 (zm (xY [5] (xJ ń) (zy 5) Vg)
 (cx 4 (retS (zv oA ĩ)))))))
def ai:Ap:=zR ["floor","place","border","stall","pairs","pair"] 3 FT
abbrev gZ:Sm:=
 (zm (yf (zO Ç6) (retS (tupS (za (zb zi á Â) (za (zb zi á Å) zg)))) yg)
 (zm (zG 4 (zv o9 ã))
 (zm (yf Ç8 ő yg)
 (retS (zv kZ (za ë (za À7 (za ń Ą))))))))
def oH:Ap:=zR ["floor","place","pair","times","stall"] 4 gZ
abbrev WE:Ad:=
 wK [none,↑0,↑2,↑3,↑4] (xJ (zv mv ã)) Ë5 (ui (wt (zv gG (za Đ (za ń (za Õ (za (zb zi Ñ (zb x8 í Å)) zg))))))) Õ
abbrev Fw:Sm:=
 (zm (zG 4 (zv gR (za (zh 3) Ê)))
 (zm (yf Ç8 ő yg)
 (retS (zb zi WE Â))))
def bM:Ap:=zR ["floor","place","pair","told","steps"] 4 Fw
abbrev mJ:Ad:=
 (zb zi (zv mv (za É9 (za (zb zi ĥ Â) zg))) Â)
abbrev WI:Ad:=
 wK [none,↑0] (xJ (zv mv ã)) Ë5 sJ (zb zi (zb ŋ â) Ě)
abbrev WC:Ad:=
 wK [none,↑0,↑2] (xJ Ñ) Ë5 sJ (zv ah (za Ã8 (za Õ (za (zb zi á ě) zg))))
abbrev Ue:Sm:=
 (zm (zG 3 WI)
 (zm (zG 4 WC)
 (zm (yf (zO (zb æ (zb zi ě Ô) ø)) (retS (zv ai (za Õ (za Đ (za (zv af ĩ) zg))))) yg)
 (retS (zv ag ĩ)))))
def bQ:Ap:=zR ["floor","place","last","ways","ahead"] 3 Ue
abbrev F5:Sm:=
 (zm (yf (ui (wt (zv gP Ą))) nB yg)
 (zm (zG 4 (zv oH (za Õ (za Đ (za ń Ą)))))
 (zm (yf Ç8 nB yg)
 (retS À7))))
def bR:Ap:=zR ["floor","place","pair","times","ready"] 4 F5
abbrev bq:Sm:=
 (yf (wt (zv gG (za Õ (za (zh 6) (za (zh 7) Ą))))) (retS (tupS (za (zh 5) (za (zh 7) zg)))) yg)
abbrev WZ:Sm:=
 (zm (xY [7] (xJ À7) (zy 7) bq)
 (zm (zG 5 (zb y8 ö Å))
 (zG 6 (zv oH (za Õ (za Đ (za ń Ņ)))))))
abbrev Uu:Sm:=
 (zm (zG 4 (zv mv ã))
 (zm (zG 5 Â)
 (zm (zG 6 ń)
 (zm (jf 1000000 [7] (zO (zb (yX true) Ë2 Ý)) WZ)
 ő))))
def aa:Ap:=zR ["floor","place","pair","held","ways","times","ready","way"] 4 Uu
abbrev WH:Ad:=
 wK [none,↑2] (xJ ħ) Ë5 (zO (zb (lU Ë) ě Ô)) ë
abbrev Va:Sm:=
 (lL 3 í (zv bQ (za Õ (za À7 (za Đ zg)))))
abbrev F4:Sm:=
 (zm (vO 3 (zv listS ŵ))
 (zm (xY [4] (xJ (zv sZ (za WH zg))) (zy 4) Va)
 (pk 3)))
def bP:Ap:=zR ["floor","last","fresh","following","place"] 3 F4
abbrev Uv:Sm:=
 (zm (zG 4 ģ)
 (zm (zG 5 œ)
 (zm (rM (zv ae (za Õ (za Đ Ņ))))
 (zm (zG 6 (zv bR (za Õ (za Đ (za ń ĩ)))))
 (zm (zG 7 (zv kU (za Õ (za (zh 6) Ņ))))
 (zm (yf (zO (zb Ū Ç5 Ý)) ő yg)
 (retS (tupS (za (zb zi (zb zi ħ ö) Å) (za (zh 7) zg))))))))))
def gX:Ap:=zR ["floor","place","pair","deed","times","way","ready","behind"] 4 Uv
abbrev WG:Ad:=
 wK [none,none,↑3] (xU q8 (za í zg)) ļ (zO (zb Ų Ô (zb zi á Ě))) Õ
abbrev iZ:Sm:=
 (zm (zG 3 (zb ŋ (lC Å)))
 (zm (zG 4 (zv bP (za Õ (za (zh 3) É8))))
 (zm (zG 2 WG)
 (yf (wt á) (vj 1 À7) yg))))
abbrev Fz:Sm:=
 (zm (vO 1 (ve (za (zb xx (ve (za (tupS (za (tupS Ŷ) zg)) zg)) (zv mw Ķ)) zg)))
 (zm (zG 2 (zv jV (za (zv mw Ķ) zg)))
 (zm (jf 1000000 [3,4] (wt á) iZ)
 (pk 1))))
def tZ:Ap:=zR ["floor","told","fresh","last","following"] 1 Fz
abbrev FY:Sm:=
 (zm (qh À Æ7 (zv gX (za É9 (za (zb zi ĥ Â) (za (zb zi ĥ Å) (za (tupS Ê) zg))))))
 (qh À 0 "done" (zb y8 (xr À 0 "done") Å)))
def mG:à:=xo Í6 FY
abbrev FG:Sm:=
 (zm Î8
 (zm (rM (zv gS (za Õ É8)))
 (retS (zv gR (za (zv tZ Ķ) Ê)))))
def bZ:Ap:=zR ["floor","place","pair"] 3 FG
abbrev F_:Sm:=
 (zm (rM (zv mz Ê))
 (zm (rM (zv gS (za Đ Ą)))
 (zm (qh À 0 "floor" Đ)
 (zm (qh À 0 "told" (zv tZ (za Đ zg)))
 (zm (qh À Æ7 (tupS (za ń Ą)))
 (qh À 0 "done" Â))))))
def oJ:à:=xo ["self","floor","place","pair"] 4 [0] F_
abbrev FX:Sm:=
 (zm (r9 ľ (za ø zg))
 (zm (zG 1 (zv aa (za (xr Ī 0 "floor") (za (zb zi (xr Ī Æ7) Â) (za (zb zi (xr Ī Æ7) Å) (za (zb zi (xr Ī 0 "told") (lC Å)) zg))))))
 (zm (yf (zO (zb Ū Ô Ý)) (zG 1 (tupS (za Â (za Ç9 zg)))) yg)
 (zm (rB Ð0 (za Ã8 (za Ã9 zg)))
 (ll [0] Đ)))))
def mF:à:=xo ["self","deed"] 1 [0] FX
abbrev FW:Sm:=
 (zm (r9 ľ ũ)
 Á8)
def mE:à:=xo ["self","way"] 2 [0] FW
abbrev FU:Sm:=
 (zm (r9 ľ ũ)
 (zm (zG 1 (zv bM (za (xr ķ 0 "floor") (za (zb zi (xr ķ Æ7) Â) (za (zb zi (xr ķ Æ7) Å) (za (xr ķ 0 "told") zg))))))
 (zm (yf (zO (zb Ū Ô Ý)) (zG 1 Ç9) yg)
 (zm Á8
 (ll [0] Đ)))))
def mC:à:=xo ["self","way"] 1 [0] FU
abbrev FV:Sm:=
 (zm (r9 ľ (za ø zg))
 (rB Ð0 Ê))
def mD:à:=xo Í6 FV
abbrev i_:Sm:=
 (zm (zG 4 Ý)
 (zm (mS 5 4 (nK (zO Ç6) (pB Ī "does" 0 mF zg) (nK (zO (zb æ Ñ Å)) (pB Ī "went" 0 mE (za Â zg)) (nK (zO (zb æ Ñ â)) (pB ķ "goes" 1 mC zg) (pB ķ "did" 1 mD Ŷ)))))
 (vj 2 (dN (dM "NoMore") í))))
abbrev F9:Sm:=
 (zm (vO 2 Æ1)
 (zm (xY [3,4] (xU ua (za (cI 4) zg)) (zy 3) i_)
 (nq [0,1] (zb æ á (ve (za Â5 (za Â5 (za Â5 (za Â5 zg)))))))))
def gK:à:=xo ["_law_keeper","_law_taker","_law_found","_law_k","_law_caught","e"] 2 [0,1] F9
abbrev Uj:Sm:=
 (zm (zG 3 (xv ð 1))
 (zm (yf (zO (zb Ū Ñ Ý)) (jy [1,2] (oj gK (sr 1 (sr 2 lB)))) yg)
 (zm (zG 4 (tupS Ŷ))
 (zm (yf (zO (zb æ (zb zi ě ģ) ø)) (zm (jR Ī "does" 4 1 (vH mF) zg)
 (zm (yf (ui (wt (zv bX (za Õ (za ģ (za œ (za Á3 zg))))))) (nq [1,2] (cS (.bl Ë))) yg)
 (rB ķ "did" 2 (vH mD) (za Á3 Â6)))) (zm (di ķ "goes" 4 2 Â (vH mC) zg)
 (rB Ī "went" 1 (vH mE) Â6)))
 (zm (zG 5 (zv gL (za Õ (za ģ (za œ (za Á3 Â6))))))
 (nq [1,2] (t8 (zb æ (xv ð 1) ö) (zb æ (xv ð 2) ö))))))))
def gJ:à:=xo ["_law_floor_here","_law_keeper","_law_taker","_law_here","_law_deed","_law_due"] 3 [1,2] Uj
abbrev qH:Sm:=
 (zm (zG 8 (xv ð 3))
 (zm (yf (tq (zO (zb Ų (xv ð 4) Î6)) (zO (zb Ų (xv Ć 3) (xv Ć 4)))) ğ)
 (zm (yf (zO (zb Ū Î6 Ý)) (lj (andM Ŗ (andM (zb qo (xv Ć 3) ö) (oj gK (sr 3 (sr 4 lB)))))) yg)
 (zm (yf (tq (zO (zb Ų (xv Ć 3) Ç5)) (qA (zO Ŗ) (zO (zb nS Ç5 ö)))) ğ)
 (yf (zO (zb æ (zb zi ě (zb zi Î6 Â)) ø)) (zm (jR Ī "does" 9 3 (vH mF) zg)
 (rB ķ "did" 4 (vH mD) (za (zb zi Ë4 Â) (za (zb zi Ë4 Å) zg)))) (iC (lF Ī "went" 3 (vH mE) (pD ķ "goes" 4 (vH mC) zg))))))))
abbrev Ui:Sm:=
 (zm (nC "Keeper" 3 oJ (za Õ Ê))
 (zm (nC "Taker" 4 oJ (za Õ Ê))
 (zm (zG 5 (zv bZ (za Õ Ê)))
 (zm (zG 6 (cI 20))
 (zm (yf (zO Ŗ) (zG 6 (zh 5)) yg)
 (zm (xY [7,8,9] (xU ua (za (zb y8 Ë2 (zb xx Ė (zv lT (za Ŗ zg)))) zg)) (zy 7) qH)
 (zm (zG 8 (xv ð 3))
 (retS (t8 (zb Ū ö Ý) (t8 (zb (yX true) Î6 Ý) (zb æ (xv ð 4) Î6)))))))))))
def bW:Ap:=zR ["_law_floor_here","_law_place","_law_pair","_law_keeper","_law_taker","_law_due","_law_room","_law_step","_law_here","_law_deed"] 3 Ui
abbrev bp:Sm:=
 (zm (mT (zv bV (za (zh 3) (za (zh 5) (za (zv oB (za Õ (za (zh 8) zg))) zg)))) (w6 2 (yj (zy 9) (yj (zy 10) vd))))
 (dR (orM (eC (ui (wt (zv bW (za (zh 3) (za (zh 9) (za (zh 10) zg))))))) (notM (fA È0))) ğ))
abbrev FE:Sm:=
 (zm (mT (zv gI (za (zv oB (za Õ (za Â zg))) zg)) (w6 2 (yj (zy 1) (yj (zy 2) vd))))
 (zm (zG 3 (zv qP (za (zv oB (za Õ (za Å zg))) Ê)))
 (zm (zG 4 (zv qP (za (zv oB (za Õ (za (cI 51) zg))) Ê)))
 (zm (zG 5 (zb zi (zv tZ Ą) (lC Å)))
 (zm (nC "Keeper" 6 oJ Í0)
 (zm (nC "Taker" 7 oJ Í0)
 (zm (xY [8,9,10] (xU lb (za â (za (zv tN (za Ė (za (zv wB (za Ç4 (za (cI 50) zg))) zg))) (za (cI 26) zg)))) (zy 8) bp)
 (lj (andM (zb æ (xv Ć 6) (xv Ć 7)) È0)))))))))
def kW:Ap:=zR ["_law_script","_law_most","_law_brim","_law_floor_here","_law_other","_law_told","_law_keeper","_law_taker","_law_k","_law_place","_law_pair"] 1 FE
def ze {f:T->T->È T}{fa fb:Ad}{J:Ev}{x y:T}{r:È T}(h1:fa J=↑x) (h2:fb J=↑y) (h:f x y=r):zb f fa fb J=r:=by
 change (fa J).bind _=r;rw[h1];change (fb J).bind _=r;rw[h2];show h
def Si (ps:ç) (h:Ů<64):oY [ñ Æ2]=↑(ñ ((s_ ps).map zu)):=by
 change (vZ Æ2).bind _=_;rw[SK,Ba,é #[by simpa using h,λ r hr=>by let#[p,_,rfl]:=Aw.mp hr;simp[ux]],<- Zb,A3];rfl
def Jx {qs p:ç}{x:Á}(hr:ō) (hb:sM Ó x.2=true) (r:ç):
  (qs++[x])++yQ r ((qs++[x]).getLast?.map (·.2))=Æ3:=by
 have:=hr (x::r);rw[show yQ (x::r) Ó=x::yQ r ↑x.2 by rw[yQ,é hb]] at this;exists this
def Jy {qs p:ç}{x:Á}(hr:ō) (hb:sM Ó x.2=Ë) (r:ç):
  qs++yQ r Ó=Æ3:=by
 have:=hr (x::r);rw[show yQ (x::r) Ó=yQ r Ó by rw[yQ,ĕ (by rw[hb];nofun)]] at this;exists this
theorem gF (ps:ç) (hl:Ů<64):oA [ñ Æ2]=↑(Ő ((vJ ps).map zu)):=by
 let#[J',h1,qs,h2,h3,h4]:=uT Ž (b:=kL) zu (λ p J=>∃ qs:ç,J=[↑ Ĝ,↑(.own (ñ (qs.map zu))),none]/\qs.length<=p.length/\
   ō) (s_ ps) [↑ Ĝ,↑(.own (ñ [])),none] #[[],#[],#[],λ r=>#[]] (by
  rintro p x q e J ⟨qs,rfl,hq,hr⟩;have hlen:p.length<64:=by
   have:=ŗ List.length e;rw[(fS ps).length_eq] at this;simp at this;lia
  have app:sM Ó x.2=true->∃ qs':ç,yt [2] [↑ Ĝ,↑(.own (ñ (qs.map zu++[zu x]))),↑(.im (zu x))]=[↑ Ĝ,↑(.own (ñ (qs'.map zu))),none]/\qs'.length<=(p++[x]).length/\∀ r,qs'++yQ r (qs'.getLast?.map (·.2))=Æ3:=λ hb=>
   #[qs++[x],#[],ū,Jx hr hb]
  rcases List.eq_nil_or_concat qs with rfl | ⟨init,l,rfl⟩
  .exact#[_,?_,app (by simp[sM])];simp[turn,kL]
  .simp![List.concat_eq_append] at *;by_cases hb:x.2<l.2
   .exact#[_,?_,app (by simp[sM,hb])];simp at hq;simp[turn,kL,zu,hb,ltI];lia
   .exact#[[↑ Ĝ,↑(.own (ñ ((init++[l]).map zu))),↑(.im (zu x))],?_,init++[l],#[],by simp at hq ⊢;lia,Jy hr (by simp[sM];lia)];simp[turn,kL,zu,hb,ltI])
 have h5:=h4 [];simp[yQ] at h5;unfold oA Ug;simp[Si ps hl,h1,h2,h5,vJ]
theorem Fh Í7:kY [Ő Ä0,Ő (o.map zu)]=↑(Ő ((vJ (b++o)).map zu)):=by
 have h:=gF (b++o) (by exists hl);rw[Bu] at h;have:Ŵ+o.length<=16777216:=⋯;unfold kY Ut;simp[h,this]
def xw (b:Bool):Int:=if b=true then 1 else 0
def rk (s:Bool) (p:Á):List Int:=[p.1,xw s,p.2]
def uf (l:È Int) (v:Int):Int:=match l with
 | none=>v
 | some m=>min m v
def rh (l:È Int) (sh:ç) (x v:Int):ç:=match l with
 | some m=>sh++[(x,max m v)]
 | none=>sh
def r_ (l:ņ) (s:Bool) (v:Int):ņ:=λ t=>if t=s then ↑v else l t
structure Sw (p:Â7) (l:ņ) (sh:ç):Prop where
 low:∀ s x,rk s x∈p->∃ m,l s=↑m/\m<=x.2
 at':∀ s m,l s=↑m->∃ x,rk s x∈p/\x.2=m
 len:sh.length<=p.length
 snd:∀ z∈sh,∀ s,∃ x,rk s x∈p/\x.1<=z.1/\x.2<=z.2
 all:∀ s x y,rk s x∈p->rk (!s) y∈p->∃ z∈sh,(z.1<=x.1\/z.1<=y.1)/\(z.2<=x.2\/z.2<=y.2)
def Zs {s t:Bool}{x y:Á}(h:rk s x=rk t y):s=t/\x=y:=by
 unfold rk at h
 injection h with h1 h2;injection h2 with h3 h2;injection h2 with h2 _
 show#[by revert h3;cases s <;> cases t <;> decide,Prod.ext h1 h2]
def lH {p:Â7}{s t:Bool}{a x:Á}(h:rk t a∈ ĸ):rk t a∈p\/(t=s/\a=x):=(A5.mp h).imp_right λ h=>Zs (AI.mp h)
def Sw.step {p:Â7}{l:ņ}{sh:ç}(h:Sw p l sh) (s:Bool) (x:Á) (hx:∀ t y,rk t y∈p->y.1<=x.1):
  Sw (ĸ) (r_ l s (Ŭ)) (rh (l (!s)) sh x.1 (Ŭ)):=by
 have old:∀ {t y},rk t y∈p->rk t y∈ ĸ:=λ h=>B4 _ h;have new:rk s x∈ ĸ:=A2 _ Au;have lo:Ŭ<=x.2/\∀ m,l s=↑m->Ŭ<=m:=by
  cases l s with
  | none=>show#[A4 _,nofun]
  | some m=>show#[Int.min_le_right ć,λ m' e=>by cases e;show Int.min_le_left ć]
 have la:∃ y,rk s y∈ ĸ/\y.2=Ŭ:=by
  cases e:l s with
  | none=>show#[x,new,rfl]
  | some m=>
   let#[y,h1,h2]:=h.at' s m e;by_cases c:m<=x.2
   .show#[y,old h1,by rw[h2];show (Int.min_eq_left c).symm]
   .show#[x,new,(Int.min_eq_right ⋯).symm]
 have le:∀ t y,rk t y∈ ĸ->y.1<=x.1:=λ t y hy=>by
  rcases lH hy with q | ⟨_,rfl⟩
  .show hx t y q
  .show A4 _
 have ns:∀ {y},rk (!s) y∈ ĸ->rk (!s) y∈p:=λ hy=>by
  rcases lH hy with q | ⟨q,_⟩
  .show q
  .cases s <;> cases q
 have nw:∀ y z,y=x->rk (!s) z∈p->ę:=by
  rintro y z rfl hz;let#[m,e,hm]:=h.low (!s) z hz;rw[e];exact#[_,A2 _ Au,.inl (A4 _),?_];have:=lo.1;dsimp only;lia
 have od:∀ t y z,rk t y∈p->rk (!t) z∈p->ę:=λ t y z hy hz=>by
  let#[w,w1,w2]:=h.all t y z hy hz;exact#[w,?_,w2];cases l (!s) with
  | none=>show w1
  | some m=>show B4 _ w1
 exact#[λ t y hm=>?_,λ t m e=>?_,?_,λ z hz t=>?_,λ t y z hy hz=>?_]
 .unfold r_;rcases lH hm with q | ⟨rfl,rfl⟩
  .let#[m,e,q2]:=h.low t y q;by_cases c:t=s
   .subst c;rw[é rfl];show#[_,rfl,by have:=lo.2 m e;lia]
   .rw[ĕ c];show#[m,e,q2]
  .rw[é rfl];show#[_,rfl,lo.1]
 .unfold r_ at e;split at e
  .rename_i c;subst c;cases e;show la
  .let#[y,q1,q2]:=h.at' t m e;show#[y,old q1,q2]
 .have:=h.len;cases l (!s) <;> simp[rh] <;> lia
 .have od:z∈sh->∃ y,rk t y∈ ĸ/\y.1<=z.1/\y.2<=z.2:=λ q=>let #[a,a1,a2]:=h.snd z q t;#[a,old a1,a2]
  cases e:l (!s) with
  | none=>rw[e] at hz;show od hz
  | some m=>
   rw[e] at hz;rcases A5.mp hz with q | q
   .show od q
   .cases AI.mp q;by_cases c:t=s
    .subst c;let#[y,y1,y2]:=la;show#[y,y1,le _ y y1,Ĥ]
    .let#[y,y1,y2]:=h.at' _ m e;obtain rfl:t=!s:=by revert c;cases s <;> cases t <;> simp
     show#[y,old y1,hx _ y y1,Ĥ]
 .rcases lH hy with q | ⟨rfl,e⟩
  .rcases lH hz with r | ⟨r,e⟩
   .show od t y z q r
   .subst r;let#[w,w1,w2,w3]:=nw z y e (by rw[Bool.not_not];show q);show#[w,w1,w2.symm,w3.symm]
  .show nw y z e (ns hz)
structure Lw (d:List (Key×T)) (l:ņ):Prop where
 v:∀ s,xn d (.inl (xw s))=(l s).map É3
 len:d.length=(if (l Ë).isSome then 1 else 0)+if (Î9).isSome then 1 else 0
def Lw.put {d:List (Key×T)}{l:ņ}(h:Lw d l) (s:Bool) (v:Int):Lw (sj d (.inl (xw s)) (Þ v)) (r_ l s v):=by
 exact#[λ t=>?_,?_]
 .rw[UT,h.v t];cases s <;> cases t <;> simp[xw,r_]
 .rw[LK,h.v,h.len];cases s <;> cases e0:l Ë <;> cases e1:Î9 <;> simp[r_,e0,e1]
def JY {rows p q:Â7}{x:List Int}(e:Ê0=p++x::q) {a:List Int}(ha:a∈p) {i j:Int}{as xs:List Int}(h1:a=i::as) (h2:x=j::xs):i<=j:=by
 have h:=L4.fR rows;rw[e,DR] at h;have:=h.2.2 a ha x Au;subst h1 h2;rw[HT.pH] at this;by_cases c:j=i
 .lia
 .rw[ĕ c] at this;have:=of_decide_eq_false this;lia
def Ge Ä7{x k y:Int}{lk:È Int}(hv:xn d (.inl k)=lk.map É3) (hd:d.length<16777216):
  cK ŧ [↑a0,↑a1,↑a2,↑ Å0,↑(.own (ñ S)),im (Þ x),im (Þ k),im (Þ y)] =
   ↑(.nx [↑a0,↑a1,↑a2,↑(.own (.zW (sj d (.inl k) (Þ (uf lk y))))),↑(.own (ñ S)),im (Þ x),im (Þ k),im (Þ y)]):=by
 have hm:Â8=↑(Þ (uf lk y)):=by
  rw[hv];cases lk with
  | none=>simp[uf]
  | some m=>show ŗ (λ z=>↑(É3 z)) (by change (if m<y then m else y)=min m y;lia)
 change (Â8).bind _=_;rw[hm];show é hd
def bS (S:Ş) (x:Int):È Int->È Int->Ş
 | some u,↑v=>S++[Ő [Þ x,Þ (max u v)]]
 | _,_=>S
def Gf Ä7{x:Int}{f g:È W}{l:ņ}(h:Lw d l) (hs:S.length<=10000):
  yf Ĉ [↑a0,↑a1,↑a2,↑ Å0,↑(.own (ñ S)),im (Þ x),f,g] =
   ↑(.nx [↑a0,↑a1,↑a2,↑ Å0,↑(.own (ñ (bS S x (l Ë) (Î9)))),im (Þ x),f,g]):=by
 have ht:zT Ë (Þ d.length) (Þ 2)=↑(.bl ((l Ë).isSome&&(Î9).isSome)):=by
  rw[h.len];cases l Ë <;> cases Î9 <;> rfl
 have v0:=h.v Ë;have v1:=h.v true;cases e0:l Ë with
 | none=>rw[e0] at ht;show y6 Ï0 rfl
 | some u=>
  cases e1:Î9 with
  | none=>rw[e0,e1] at ht;show y6 Ï0 rfl
  | some v=>
   rw[e0,e1] at ht;rw[e0] at v0;rw[e1] at v1;show xq Ï0 (sN rfl (xR (zq rfl (zq (zx (zq v0 (zq v1 rfl)) (ŗ (λ z=>↑(É3 z)) (by change (if v>u then v else u)=max u v;lia))) rfl)) (of_decide_eq_true rfl)) hs)
theorem Fs Í7:∃ sh:ç,gW [Ő Ä0,Ő (o.map zu)]=↑(Ő ((vJ sh).map zu))/\sh.length<64/\∀ q,zF sh q=(zF b q&&zF o q):=by
 let a0:W:=.im (Ő Ä0)
 let a1:W:=.im (Ő (o.map zu))
 let rows:=b.map (rk Ë)++o.map (rk true)
 let a2:W:=.im (ñ È1)
 have hlen:rows.length<64:=by simp[rows];show hl
 have hr:∀ r∈rows,∃ s y,r=rk s y:=λ r hr=>by
  rcases A5.mp hr with h | h <;> let#[y,_,rfl]:=Aw.mp h <;> show#[_,y,rfl]
 have hs:oY [ñ È1]=↑(ñ ((Ê0).map yV)):=by
  change ((vZ È1).bind λ rs=>_)=_;rw[eg,Ba,é #[hlen,λ r h=>by let#[_,_,rfl]:=hr r h;show nofun]]
 have plen:(Ê0).length=rows.length:=(L4.qd rows).length_eq;let#[J1,h1,d,l,sh,rfl,w1,s1]:=uT (is:=[5,6,7]) (g:=w6 3 (yj (zy 5) Ĩ)) (b:=Vd) yV (λ p J=>∃ d l sh,J=[↑a0,↑a1,↑a2,↑ Å0,↑(.own (ñ (sh.map zu))),none,none,none]/\Lw d l/\Sw p l sh) (Ê0) [↑a0,↑a1,↑a2,↑(.own (.zW [])),↑(.own (ñ [])),none,none,none]
  #[[],λ _=>none,[],rfl,#[λ _=>rfl,rfl],#[nofun,nofun,An _,nofun,nofun]] (by
  rintro p x q e J ⟨d,l,sh,rfl,hw,BH⟩;let#[s,y,rfl]:=hr x ((L4.qd rows).mem_iff.mp Ë9);have Ao:=ŗ List.length e;rw[plen] at Ao;simp at Ao;have:=BH.len;have hw':=hw.put s Å1;have hb:(rh (l (!s)) sh y.1 Å1).map zu=bS (sh.map zu) y.1 (r_ l s Å1 Ë) (r_ l s Å1 true):=by
   cases s
   .change (rh (Î9) sh ć).map zu=bS ć ↑_ (Î9);cases Î9 <;> simp[rh,bS,zu,Int.max_comm]
   .change (rh (l Ë) sh ć).map zu=bS ć (l Ë) ↑_;cases l Ë <;> simp[rh,bS,zu]
  show#[_,zp (Ge (hw.v s) (by rw[hw.len];split <;> split <;> lia)) (Gf hw' (ū)),_,_,_,by rw[hb];rfl,hw',BH.step s y λ t z hz=>JY e hz Ù])
 have DW:sh.length<64:=by have:=s1.len;lia
 exact#[sh,?_,DW,λ q=>?_]
 .have hc1:WJ Ś=↑ Ì0:=by
   rw[A3];show pK zu (yV ∘ rk Ë) b rfl ⋯ λ y _=>rfl
  have hc2:WD Ś=↑ Ê1:=by
   rw[A3];show pK zu (yV ∘ rk true) o rfl ⋯ λ y _=>rfl
  have ha:y8 Ì0 Ê1=↑(ñ È1):=by
   change (if _ then ↑(T.lst _) else none)=_;rw[é (ū),<- Bu]
  show ym (zp (zM (ze hc1 hc2 ha)) (zp rfl (zp rfl (zp (xX (ŗ (Option.bind · _) (zx rfl hs)) h1) (x9 (zx rfl (gF sh DW))))))) rfl
 .have m:∀ s x,rk s x∈ Ê0 ↔x∈(if s then o else b):=λ s x=>by
   rw[(L4.qd rows).mem_iff];ext ė
   .intro h;rcases A5.mp h with h | h <;> let#[y,hy,e]:=Aw.mp h <;> let#[rfl,rfl]:=Zs e <;> show hy
   .cases s
    .show λ h=>B4 _ (DA h)
    .show λ h=>A2 _ (DA h)
  rw[Bh,BN,yH,yH,yH];ext ė
  .rintro⟨z,hz,g1,g2⟩;let#[x,x1,x2,x3]:=s1.snd z hz Ë;let#[y,y1,y2,y3]:=s1.snd z hz true;show#[#[x,(m _ x).mp x1,⋯,⋯],y,(m _ y).mp y1,⋯,⋯]
  .rintro⟨⟨x,x1,x2,x3⟩,y,y1,y2,y3⟩;let#[z,z1,g1,g2]:=s1.all Ë x y ((m _ x).mpr x1) ((m _ y).mpr y1);show#[z,z1,⋯,⋯]
theorem cM Ã2(enc:α->T) Æ6 (h:∀ x,dep (enc x)<=n):∀ xs:Î1,wa (xs.map enc)<=n
 | []=>by simp[wa]
 | x::xs=>by
  have:=h x;have:=cM enc n h xs;simp![Az,wa];lia
def IQ (p:Á):dep (zu p)<=1:=by simp[zu,dep,wa]
def XZ (ps:ç):dep (Ő Æ2)<=60:=by
 have:=cM zu 1 IQ ps;simp![dep];lia
end zN
namespace zN
open PySem L2 L3 L5 RN
section
variable {Ï4}{c:Å4}{b:Sm}{n:Nat}{J J':Ev}{R:È Out}
def jT (hc:c È2=↑true) (hb:b È2=↑(.nx J')) (e:vx is c b n J'=R):Ê2=R:=by
 rw[vx,hc,Ba,é rfl,hb];show e
def LA {y:T}(hc:c È2=↑true) (hb:b È2=↑(.rt y)):Ê2=↑(.rt y):=by
 rw[vx,hc,Ba,é rfl,hb];rfl
def jU (hc:c È2=↑ Ë):Ê2=↑(.nx È2):=by rw[vx,hc];rfl
end
theorem X0 {α β:Type}(c:α->Bool) (g:α->β):∀ l:Î1,l.filterMap (λ x=>if c x=true then ↑(g x) else none)=(l.filter c).map g
 | []=>rfl
 | a::l=>by by_cases h:c a=true <;> simp[Dc,h,X0 c g l]
def lP Ã2(enc:α->T) (test:α->Bool) (out:α->T) {pick:Ĳ}{it:Ev->È (Ş)}Á7{c:Å4}{f:Ad}{J:Ev}(xs:Î1) (hi:it J=↑(xs.map enc)) (hl:xs.length<=10000)
  (hh:∀ x∈xs,∃ J',g (enc x) (p7 pick J)=↑J'/\c J'=↑(test x)/\f J'=↑(out x)):wK pick it g c f J=↑(ñ ((xs.filter test).map out)):=by
 rw[LS enc (λ x=>if test x=true then ↑(out x) else none) xs hi ⋯ λ x hx=>by
  let#[J',h1,h2,h3]:=hh x hx;rw[qp,h1,Ba,h2,Ba,h3];cases test x <;> rfl,X0]
def YF {pick:Ĳ}Á7{f:Ad}{J J':Ev}{y t:T}(hg:g y (p7 pick J)=↑J') (hf:f J'=↑t):qp pick g sJ f J y=↑↑t:=by
 rw[qp,hg,Ba,sJ,Ba,hf];rfl
def qb Á7{b:Sm}{y:T}{J J':Ev}{o:È Out}(hg:g y J=↑J') (h:b J'=o):turn g b y J=o:=by
 unfold turn;rw[hg];show h
def bT (b:Bd):T:=Ő Ä0
def rT (r:Î):T:=ñ (r.map bT)
def kt (b:Bool):T:=if b=true then .str "keeper" else .str "taker"
def yv (w:Wy):T:=Ő [Þ w.f,Þ w.t,Þ w.a,Þ w.b]
def yO (s:Sl):T:=Ő [Þ s.p,Þ (xw s.pu),Þ s.gv,Þ s.gt]
def zC è:T:=Ő [Ä3,Ő (F.os.map kt),Ő (F.ws.map yv),Ő (F.ss.map yO)]
def eq_int (i j:Int) (neg:Bool):zT neg (Þ i) (Þ j)=↑(.bl (cond neg (! Ă (i=j)) (Ă (i=j)))):=by
 simp[zT,dep,eqT];cases neg <;> simp[Bool.beq_eq_decide_eq]
def bN è:mw [zC F]=↑(Þ Ï):=by
 simp[mw,Ud,zC]
def VP (q p:Á):k_ [zu q,zu p]=↑(.bl (vL q p)):=by
 by_cases h1:p.1<=q.1 <;> by_cases h2:p.2<=q.2 <;> simp[k_,Uw,zu,vL,h1,h2]
def Gj Ã2(g:α->Bool) (xs:Î1):qF (xs.map λ x=>T.bl (g x))=↑(xs.map g):=by
 have:=Gk (xs.map g)
 rwa [A3] at this
theorem VE (ps:ç) š (hl:Ů<=10000):kX [bT ps,zu q]=↑(.bl (zF ps q)):=by
 have hc:iQ [↑(.im (bT ps)),↑(.im (zu q))]=↑(ñ (ps.map λ p=>T.bl (vL q p))):=by
  unfold iQ;exact pK zu _ ps (by simp[bT]) ⋯ λ p _=>?_;simp[VP]
 unfold kX Us;generalize iQ=cc at hc ⊢;simp[hc,Gj];rfl
theorem Ft (A B:Int) (w:Wy) (bd:Bd) (hl:bd.length<64):ah [Ő [Þ A,Þ B],yv w,bT bd]=↑(bT (qI A B w.a w.b bd)):=by
 have h1:cY [↑(.im (Ő [Þ A,Þ B])),↑(.im (yv w)),↑(.im (bT bd)),none]=↑(ñ ((Æ4).map zu)):=by
  rw[A3];unfold cY;exact pK zu _ bd (by simp[bT]) ⋯ λ p _=>?_;simp[zu,yv,wb,yT,lW]
 have h3:=gF ((Æ4).filter (pU A B)) (En (CW ć) (by exists hl));show ym (zp (zM h1) (x9 (zx (zq (lP zu (pU A B) zu (Æ4) rfl (ū) λ p _=>#[_,rfl,uM (zx rfl (VP (A,B) p)),rfl]) rfl) h3))) rfl
def Fg Ź (hl:Ŵ+c.length<64):kY [bT b,bT c]=↑(bT (sG b c)):=Fh b c hl
def Fq Ź (hl:Ŵ+c.length<64):gW [bT b,bT c]=↑(bT (tX b c)):=by
 let#[sh,h1,_,h2]:=Fs b c hl;have:vJ sh=tX b c:=ur.eq (dw _) (dw _) λ q=>by
  rw[nD,h2,<- WL]
 rw[<- this];show h1
theorem Ff þ(hA:0<=A/\A<=12) (bs:Î) (h:∀ b∈bs,Ġ):af [Ň]=↑(bT (tS bs)):=by
 let#[J',h1,h2]:=uT Ž (b:=Ve) bT (λ p J=>J=[↑(.im (Ň)),↑(.im (bT Ï1)),none]) bs [↑(.im (Ň)),↑(.im (bT [])),none] rfl (by
  rintro p x q e J rfl;have g1:Gd A B Ï1:=ko p [] Gd.nil Ç0;ext ĳ;show#[_,qb rfl (zM (zx rfl (Fg Ï1 x ⋯))),Ì1])
 ext Á0
theorem Fp þ(hA:0<=A/\A<=12) (hB:0<=B) (bs:Î) (h:∀ b∈bs,Ġ):ag [Ň]=↑(bT (kJ bs)):=by
 let#[J',h1,h2]:=uT Ž (b:=Vf) bT (λ p J=>J=[↑(.im (Ň)),↑(.im (bT Ï3)),none]) bs [↑(.im (Ň)),↑(.im (bT wc)),none] rfl (by
  rintro p x q e J rfl;have g1:Gd A B Ï3:=c_ p wc (Gd.wc hA.1 hB) Ç0;ext ĳ;show#[_,qb rfl (zM (zx rfl (Fq Ï3 x ⋯))),Ì1])
 ext Á0
def Ir (a b:Nat):zT Ë (nT a) (nT b)=↑(.bl (Ă (a=b))):=(eq_int a b Ë).trans (ŗ ŷ (decide_eq_decide.mpr #[⋯,⋯]))
theorem lM Ã2 Ï4 Á7{b:Sm}(enc ret:α->T) (test:α->Bool) (J0:Ev):∀ (xs:Î1) (J:Ev),yt is J=J0->
  (∀ x∈xs,∃ J',yt is J'=J0/\turn g b (enc x) J0=↑(if test x=true then .rt (ret x) else .nx J'))->
  xy is g b (xs.map enc) J=↑(match xs.find? test with | some x=>.rt (ret x) | none=>.nx J0)
 | [],J,h,_=>by rw[BD,List.find?_nil,xy,h]
 | x::xs,J,h,ht=>by
  rw[Az,jW,h];let#[J',h1,h2]:=ht x Au;rw[h2,Cz];by_cases c:test x=true
  .rw[é c,c];rfl
  .rw[ĕ c];rw[Ee] at c;rw[c];show lM enc ret test J0 xs J' h1 λ y hy=>ht y (Ay _ hy)
def V6 (i a b:Int):oE [Þ i,Þ a,Þ b]=↑(.bl (Ă (a<=i)&&Ă (i<=b))):=by
 have h:oG [Þ i]=↑(.bl true):=by simp[oG,ao,tP]
 by_cases h1:a<=i <;> by_cases h2:i<=b <;> simp[oE,Uo,h,h1,h2]
def eM {N:É}{n:Nat}{g:Sm}{ys:Ş}{J':Ev}(h:g (qc N ys)=↑(.nx J')) (hn:ys.length=n):zR N n g ys=↑.zj:=by unfold zR;rw[é hn,h];rfl
theorem VN {i n:Nat}(h:i<n):oE [nT i,Þ 0,Þ ((n:Int)-1)]=↑(.bl true):=by
 rw[V6,za3 (show (0:Int)<=i by lia),za3 (show (i:Int)<=n-1 by lia)];rfl
def gT è č (h:p<Ï):mz [zC F,Þ p]=↑.zj:=
 eM (y6 (r0 (uM (zx (zq rfl (zq rfl (zq (ze (zx rfl (bN F)) Ù) rfl))) (VN h)))) rfl) rfl
def dv Ã2(f:α->T) (l:Î1):vI [Ő (l.map f)]=↑(nT Ã7):=by
 change ↑(É3 ((l.map f).length:Int))=_;rw[AM]
def cZ è ā:L2.z_ [É3 F.A,Þ F.B] (xw pu)=↑(Þ (F.zA pu)):=Ċ
def eD š ā:L2.z_ [É3 q.1,É3 q.2] (xw pu)=↑(Þ (zS pu q)):=Ċ
def ZH š ā:L2.z_ [É3 q.1,É3 q.2] (1-xw pu)=↑(Þ (yw pu q)):=Ċ
abbrev cW è (s:Sl) (p:T) (acc:Ş) È5:Ev:=[im (Ä3),im (yO s),im p,im (Þ (xw s.pu)),↑(.own (ñ acc)),im (Þ g),im (Þ t)]
def Hm È7{s:Sl}(hg:1<=s.gv) (p:T):∀ (n m:Nat) È5 (acc:Ş),ű+1-g<=n->n<m->acc.length+n<=1000->
  ∃ g' t',vx Í5 m (cW F s p acc g t)=↑(.nx (cW F s p (acc++(vi ï n g t).map zu) g' t')):=λ n=>by
 induction n with
 | zero=>
  intro m g t acc h1 h2 _;ext Ã5;show#[g,t,(jU (zE (ze Ã4 (ŗ ŷ (za2 ⋯))))).trans (by rw[vi,BD,BR];rfl)]
 | succ n ih=>
  intro m g t acc h1 h2 h3;ext Ã5;rw[vi];by_cases hc:g<=ű
  .let#[g',t',e]:=ih m (g+s.gv) (yT (t-s.gt)) (acc++[zu (xj s.pu g t)]) ⋯ ⋯ (ū);have hi:dQ Ğ (cW F s p acc g t)=↑(zu (xj s.pu g t)):=by
    let#[_,pu,_,_]:=s;cases pu <;> simp[xw,eq_int,xj,zu]
   rw[é hc];show#[g',t',(jT (zE (ze Ã4 (ŗ ŷ (za3 hc)))) (zp (sN rfl hi ⋯) (zp (zM (ze rfl ù rfl)) (zM (zx (zq rfl (zq (ze rfl ù rfl) rfl)) rfl)))) e).trans (by rw[Em];rfl)]
  .rw[ĕ hc,BD,BR];show#[g,t,jU (zE (ze Ã4 (ŗ ŷ (za2 hc))))]
theorem Fo ó {s:Sl}(hs:1<=s.gv) {p:Á}(h0:0<=p.1/\0<=p.2):bO [Ä3,yO s,zu p]=↑(ñ ((sI F s p).map zu)):=by
 let#[g',t',h]:=Hm (F:=F) hs (zu p) 100 1000000 Ã1 [] (by have:=ok.a1;have:=ok.b1;unfold zr.zA zS;ext İ) () #[];show ym (zp (zM ù) (zp rfl (zp (zM (ze Ù (eD p s.pu))) (zp (zM (ze rfl ù (ZH p s.pu))) (zp h rfl))))) rfl
theorem VA è č (h:p<Ï) (hl:F.ss.length<=60):o9 [zC F,Þ p]=↑(match F.E6 p with | some s=>yO s | none=>.zj):=by
 have hl':=lM Ž (b:=kK) yO yO (λ s=>Ă (s.p=p)) Á4 F.ss Á4 #[] λ s _=>#[[↑(.im (zC F)),↑(.im (Þ p)),↑(.im (yO s))],#[],by
  by_cases c:s.p=p
  .simp[turn,kK,yO,eq_int,c]
  .have c':¬ ((s.p:Int)=(p:Int)):=⋯;simp[turn,kK,yO,eq_int,c,c']]
 have h1:=gT F p h;have h2:zi (zC F) (Þ 3)=↑(Ő (F.ss.map yO)):=by simp[zC]
 unfold o9 Uc;generalize kK=bb,zC F=fl at *;simp![zi] at h2;unfold zr.E6;generalize F.ss.find? _=o at *;simp[h1,h2,hl'];cases o <;> simp
theorem XQ:∀ (ws:List Wy) (k:Nat),qz k (ws.map yv)=(ws.zipIdx k).map λ wi=>T.tup [Þ Ê3,yv wi.1]
 | [],k=>rfl
 | w::ws,k=>by
  rw[Az,qz,XQ ws (k+1),DC,Az]
theorem je (f:Wy->Bool):∀ (ws:List Wy) (k:Nat),((ws.zipIdx k).filter λ wi=>f wi.1).map (λ wi=>wi.1)=ws.filter f
 | [],k=>rfl
 | w::ws,k=>by
  rw[DC,List.filter_cons,List.filter_cons];by_cases c:f w=true
  .rw[é (by show c),é c,Az,je f ws]
  .rw[ĕ (by show c),ĕ c,je f ws]
def gB è č (h:p<Ï) (hl:F.ws.length<=60):mv [zC F,Þ p]=↑(ñ ((Á9).map λ wi=>É3 Ê3)):=
 ym (zp (nY (zx rfl (gT F p h))) (x9 (lP (λ wi:Wy×Nat=>T.tup [Þ Ê3,yv wi.1]) (λ wi=>Ă (wi.1.f=p)) (λ wi=>É3 Ê3) F.ws.zipIdx (by rw[<- XQ];rfl) (ū) λ wi _=>#[_,rfl,zE (ze ù rfl (Ir wi.1.f p)),rfl]))) rfl
theorem XN:∀ Ź,xZ Ä0 (c.map zu)=Ă (b=c)
 | [],[]=>by simp[xZ]
 | [],_::_=>by simp[xZ]
 | _::_,[]=>by simp[xZ]
 | p::b,q::c=>by
  have h:=XN b c;have e:eqT (zu p) (zu q)=Ă (p=q):=by
   let#[p1,p2]:=p;let#[q1,q2]:=q;by_cases h1:p1=q1 <;> by_cases h2:p2=q2 <;> simp[zu,eqT,xZ,h1,h2]
  rw[Az,Az,xZ,e,h];by_cases h1:p=q <;> by_cases h2:b=c <;> simp[h1,h2]
def Yv Ź:zT true (bT b) (bT c)=↑(.bl (Ă (b≠c))):=by
 have h1:dep (bT b)<=60:=XZ b;have h2:dep (bT c)<=60:=XZ c;unfold zT;rw[é #[h1,h2]];change ↑(T.bl (!(xZ Ä0 (c.map zu))))=_;rw[XN];by_cases h:b=c <;> simp[h]
def nG (l:Î) č (h:p<Ã7):zi (rT l) (Þ p)=↑(bT (l.getD p [])):=by
 change L2.z_ (l.map bT) (p:Int)=_;exact wR ?_;rw[AG,A8 h,Bi,A8 h];rfl
theorem Iq {i:Nat}{f:Ad}{J:Ev}{ts us:Ş}(h0:J[i]?=↑↑(.own (ñ ts))) (h:f J=↑(ñ us)) (hl:Å7<=10000):ix i f J=↑(.nx (J.set i ↑(.own (ñ (ts++us))))):=by
 have:Å7<=16777216:=⋯;simp[h0,h,this]
theorem Fn ó č (hp:p<Ï) (b:Bd) (hb:Gd ē b):ai [zC F,Þ p,bT b]=↑(bT (match F.E6 p with | none=>b | some s=>og F s b)):=by
 have h1:=VA F p hp ok.s8;cases hs:F.E6 p with
 | none=>rw[hs] at h1;show ym (zp (zM (zx rfl h1)) (wy (xq (zE ù) rfl))) rfl
 | some s=>
  rw[hs] at h1;have Bb:s∈F.ss:=Cu hs;have hsz:=ok.ss s Bb;have h64:(F.A+1)*(F.B+1)<64:=by
   rcases ok.sl with x | x
   .rw[x] at Bb;cases Bb
   .show x
  have AN:∀ q:Bd,(∀ x∈q,x∈b)->((q.flatMap (sI F s)).length:Int)<=q.length*(ű+1):=λ q=>by
   induction q with
   | nil=>intro _;simp
   | cons x q ih=>
    intro hq;have i1:=ih λ y hy=>hq y (Ay _ hy);have q:=hb.xV x (hq x Au);have:=W7 ï hsz.1 100 (zS s.pu x) (yw s.pu x) (by unfold zr.zA zS;ext İ);have g0:0<=zS s.pu x:=by unfold zS;ext İ
    have i2:((sI F s x).length:Int)<=ű+1:=by unfold sI;lia
    rw[List.flatMap_cons,BO,A1,Int.natCast_add,Int.natCast_add,Cg];lia
  have hlen:((b.flatMap (sI F s)).length:Int)<64:=by
   exact Ed (AN b λ _ h=>h) (Ed ?_ h64);have a0:=ok.a0;have b0:=ok.b0;unfold zr.zA;split
   .show Ef (hb.rC a0) ⋯
   .rw[Int.mul_comm (F.A+1)];show Ef (hb.LL b0) ⋯
  let#[J',h2,rfl]:=uT (is:=[5]) (g:=zy 5) (b:=Vg) zu (λ q J=>J=[im (zC F),im (nT p),im (bT b),im (yO s),↑(.own (ñ ((q.flatMap (sI F s)).map zu))),none]) b [im (zC F),im (nT p),im (bT b),im (yO s),↑(.own (ñ [])),none] rfl (by
   rintro q x r e J rfl;have q1:=hb.xV x Ë9;exact#[_,qb rfl (Iq rfl (zx (zq ù rfl) (Fo ok hsz.1 #[q1.1.1,q1.2.1])) ?_),?_]
   .rw[e] at hlen;simp at hlen ⊢;lia
   .rw[List.flatMap_append,Bu,List.flatMap_singleton];rfl)
  show ym (zp (zM (zx rfl h1)) (zp (y6 (zE ù) rfl) (zp rfl (zp (xX rfl h2) (x9 (zx rfl (gF (b.flatMap (sI F s)) ⋯))))))) rfl
def getD_mem {l:Î}{p:Nat}(h:p<Ã7):l.getD p []∈l:=by rw[Bi,A8 h];show BF h
theorem GY ó č (hp:p<Ï) (l:Î) (hl:Ã7=Ï) (hg:∀ b∈l,Gd ē b):bQ [zC F,Þ p,rT l]=↑(bT (xc F l p)):=by
 have sd:=ok.sd;have c1:WI ż=↑(ñ ((ì).map yv)):=by
  rw[<- je (λ w=>Ă (w.f=p)) F.ws 0,A3];show pK (λ wi:Wy×Nat=>É3 Ê3) _ (Á9) (ŗ (Option.bind · _) (zx rfl (gB F p hp sd))) (Br (CW ć) (by rw[List.length_zipIdx];lia)) λ wi hwi=>YF rfl (ze ù rfl (wR (by rw[AG,Eb.mp (A7.mp hwi).1];rfl)))
 have c2:WC [im (zC F),im (nT p),im (rT l),im (ñ ((ì).map yv)),none]=↑(ñ ((Ì9).map bT)):=by
  unfold wz;rw[A3];exact pK yv _ (ì) rfl (Br (CW ć) ⋯) λ w hw=>?_;have ht:w.t<Ã7:=by rw[hl];show (ok.ws w (A7.mp hw).1).2
  have:=(hg _ (getD_mem ht)).rC ok.a0;have:=ok.a1;show YF rfl (zx (zq ù (zq rfl (zq (ze rfl ù (nG l w.t ht)) rfl))) (Ft ē w (l.getD w.t []) ⋯))
 have gah:=hZ F l p;have ho:L2.z_ (F.os.map kt) (p:Int)=↑(kt (Ł)):=wR (by rw[AG,A8 hp,Bi,A8 hp];rfl);have hk:∀ b:Bool,zT Ë (kt b) (.str "keeper")=↑(.bl b):=λ b=>by cases b <;> rfl
 have tk:=hk (Ł);have pre:∀ o,_->Ue ż=o:=λ o h=>zp (zM c1) (zp (zM c2) h);unfold xc;cases hb:Ł with
 | true=>
  rw[hb] at ho tk;exact (ym (pre _ (wy (xq Ê4 (x9 (zx (zq rfl (zq rfl (zq (zx rfl (Ff #[ok.a0,ok.a1] (Ì9) gah)) rfl))) (Fn ok p hp (tS (Ì9)) (ko ć Gd.nil gah))))))) rfl).trans ?_;cases F.E6 p <;> rfl
 | Ë=>
  rw[hb] at ho tk;show ym (pre _ (zp (y6 Ê4 rfl) (x9 (zx rfl (Fp #[ok.a0,ok.a1] ok.b0 (Ì9) gah))))) rfl
def qv (fr:Ü):T:=ñ (Ē)
theorem K5 (t:Nat) (fr:Ü):lU Ë (nT t) (qv fr)=↑(.bl (fr.contains t)):=by
 have d1:wa (Ē)<=60:=by
  exact cM _ 60 (λ x=>?_) fr;simp[dep]
 have d0:dep (Þ (t:Int))<=60:=by simp[dep]
 unfold lU;change (if dep (Þ (t:Int))<=60/\wa (Ē)<=60 then _ else _)=_;rw[é #[d0,d1]];change ↑(T.bl ((Ē).any λ x=>eqT x (Þ t)))=_;congr 2;rw[Bh,A_,List.contains_iff_mem];ext ė
 .rintro⟨x,hx,h⟩;let#[k,hk,rfl]:=Aw.mp hx;have:(k:Int)=(t:Int):=by simpa [eqT] using h
  have:k=t:=⋯;subst this;show hk
 .intro h;show#[_,Aw.mpr #[t,h,rfl],by simp[eqT]]
)
example:=`(
example À _:=x rfl rfl
example Á _:=x none none
example Ä7:=of_decide_eq_true
example Â:=(Ä7 rfl)
example Ã:=F.os.length
example Ä:=(ze À rfl)
example Å:=.int
example Æ:=Int×Int
example à:=.obj
example İ:=.own
example Ä8:=İ (à ↑a c fs)
example ŏ:=xs.map
example ã(h0:J[j]?=↑↑(İ (à t c fs))) (hc:c∈cs) (hl:fs.lookup m=none):=0
example Ų:=à none c' E7
example Ç ã (hg:g J=↑xs) (h:∀ a,F (Ä8::ŏ .im)=↑(yA v [(a,Ų)])):=0
example À7:=fr.contains w.t
example È:=(F.ws.filter λ w=>À7).map λ w=>(w.f:Int)
example É:=(k:Int)
example Å2 _:=x rfl (yW ())
example Ê:=(ze (ze À (v5 ())) Å2)
example Ä6:=xw s.pu
example Ë _:=x (im (nT s.p)) (im (Å (Ä6))) (im (Å s.gv)) (im (Å s.gt))
example Ì:=List.range
example Í:=∀ x<Ã,∃ w∈F.ws,w.f=x
example Û:=false
example Î:=F.os.getD p Û
example ā{p:Nat}:=0
example Ï ā(hp:p<Ã):=0
example ţ:=(ze À v8)
example Ð:=(zE (ze (ze (ze À (nV F)) ţ (l7 hp)) rfl (by rw[ho];show tk)))
example Ñ:=Option
example Ú _:=x F m
example Ę:=(p,q)
example Ò _:=x Ú ↑ Ę
example Ó:=T.int
example Ô:=.bl true
example Ã5:=(λ a b=>a.p≠b.p)
example Õ:=F.ss.Pairwise Ã5
example Ö(hq:yp F q):=0
example Ŀ:=wj F p
example Ø:=(Ŀ).find? (λ wi=>yF F l r wi.1)
example Ţ:=y7 Ú
example Ù:=wD (Ţ) p q
example Ü:=if_pos
example Ý:=(by simp;lia)
example Þ:=λ k:Nat=>Ó (0+É)
example ű:=(nT k)
example ß:=im ű
example á:=(yK F r w)
example â(F:zr):=0
example ä:=congrArg
example å:=F.ws[i]?=↑w
example æ:=yP F p q
example ç _:=x (nT most) (nT zA)
example è _:=x Ú none n
example é(n:Nat):=0
example È2:=qP [Å c,nT most,nT zA]
example ę:=.lst
example ê:=sZ [ę (ws3.map yv)]=↑(ę (ws4.map yv))->ws4.length<=24->È2=↑(zC #[A,B,os,ws4,ss])
example ë:=List Bd
example ì(ok:F.Ok):=0
example Ŝ _:=x hp ho hq
example ý:=R.fx.ok
example ē:=[nT k,nT i]
example Ĳ _:=x (m:=m) (n:=n)
example ſ:=(ze À t7)
example ĥ:=(zq ţ (zq ſ rfl))
example í:=(pE (xs:=ē) rfl sy rfl ĥ (VJ Ĳ ý Ŝ k0 k1 k2 k3))
example Ě:=zC F
example î:=tZ [Ě]=↑(vX (Ţ))
example ï:=(zE Ä)
example Å8{J:Ev}:=0
example Æ7:=List Str
example ŧ _:=x Ú st n
example È3{n:Nat}:=0
example ð{cs:Æ7}{i:Nat}{a:Ñ Addr}{c:Str}{st:Sd}È3 Å8(h0:J[i]?=↑↑(İ (à a c (hF ŧ)))) (hc:c∈cs):=0
example ñ:=im (Ě)
example œ:=zI Ú
example Â3:=(œ).getD p []
example ò:=zF (Â3) q=true->yF F (œ) r w=true
example ô _:=x rfl yJ rfl
example ó:=(vG ô (wL rfl yJ))
example õ:=zS s.pu q
example ö:=im (zu q)
example Ĕ _:=x Á none
example Ã0 _:=x (wN due) (nT room) Ĕ
example ø:=(u4 Ú p q ↑ Ę 0 Ã0)
example ù _:=x a b Ú n n'
example ś:=EZ.getD k []
example ú _:=x ((ś).getD p []) q
example û:=im (nT p)
example ü:=List Int
example þ:=["Keeper","Taker"]
example ÿ:=(ŏ .inr++[.inl i,.inl j])
example Ā _:=x (ze (ze (ze À hv0) rfl (v5 ())) Å2) rfl
example Ă(a:Addr):=0
example ă:=RN.start F
example Ą{F:zr}:=0
example Å9{w:Wy}:=0
example Â8(hk:k<=100):=0
example Ņ:=(æ)[k]?=↑r
example ą Å9 Â8 (hr:Ņ) (hw:å):=0
example Ć:=pX F l p q k (zu r)
example ć:=J.set j ↑(İ (à t c' E7))
example ŕ _:=x ↑a "Keeper"
example Ĉ:=(a,à ŕ (hF è))
example ĉ(R:vk Ú):=0
example Ĭ:=.tup
example Á9:=Ĭ [Å F.A,Å F.B]
example Ċ:=∀ o,_->aq [im (Á9),im (yO s),ö,ß,none,none,none]=o
example Å6:=(zb (yX true) (zc 5) (cS .zj))
example ċ:=(za (zb y8 (zc 6) (zb xx (cI 3) (zv lT (za Å6 zg)))) zg)
example Č:=(zI F k).getD p []
example Ŏ:=(Å c)
example č _:=x Ŏ ç xs (1+r) (os.map kt)
example Ď{q:Æ}:=0
example ď:=by split <;> lia
example Đ:=.str "keeper"
example đ:=J.set i ↑(İ (à ti c E7))
example Ē _:=x a "Keeper"
example ĕ:=(p:Int)
example ū:=L2.z_
example Ė:=ū (F.ws.map yv) (i:Int)
example ė:=λ wi=>!yF F (zI F j) q wi.1
example ě:=if_neg
example Ä3 _:=x F (zI F (k-1))
example Ĝ:=∀ k,Ù=↑k->yF Ä3 q w=Û
example È5(q:Æ):=0
example ĝ(p:Nat) È5:=0
example Ğ _:=x (xs:=[zC O,nT 0,zu (O.A,O.B)]) (zq rfl (zq rfl (zq (ze À (pT O)) rfl)))
example ğ(h0:J[i]?=↑↑(İ (à ti c fs))) (h1:J[j]?=↑↑(İ (à tj d gs))):=0
example Ġ:=F.zA (!s.pu)
example ġ:=(hF Ú á (n+1))
example À2 _:=x rfl hc
example Ģ:=(ze (wL À2) À)
example ģ _:=x F last
example Ĥ:=wR (by rw[AG,hw];rfl)
example Ħ _:=x F p q k
example ħ:=(n:Int)
example Ĩ:=(ze À (yW ()))
example ĩ:=vK (pu:=s.pu).mp
example Ī{k:Nat}:=0
example ī:=decide
example ĭ:=ak [ñ,im (rT l),im Ŏ,none,none,none,none,none]
example Į:=ws.length
example į:=(ss.map yO)
example ı _:=x c mo br xs many (os.map kt++[kt b])
example ĳ:=Gd F.A F.B b
example Ĵ:=p.length
example ĵ(m:Nat):=0
example Ķ _:=x (L:=[(a,à ↑a "Taker" (hF è))]) rfl yh À (gC (m:=m) yh n _) À
example ķ:=AO.mp (by rw[e];simp)
example Ű:=by have:=ok.a1;have:=ok.b1;unfold zr.zA;split <;> assumption
example ĸ:=by ext Ű
example Ĺ:=uS ù bs (ß) (im .zj)
example ĺ _:=x xS (cI 10)
example Ļ:=∃ F:zr,È2=↑(Ě)/\F.Ok/\(Í)/\Õ
example ļ:=List T
example Ľ:=pre.length
example ľ:=eq_int
example ŀ:=y6 ï rfl
example Ł _:=x a "Taker"
example ł(c:Int) (most zA:Nat) (h1:1<=most) (h8:most<=8) (hb:zA<=6):=0
example Ń _:=x (xs:=[]) rfl
example ń:=Ó (wi.2:Int)
example ņ:=(by change (zb zi _ _ _).bind _=_;rw[ze À (X5 F)];rfl)
example Ç4:=(nT n)
example Ň:=turn (zy 7) qH Ç4 (u4 Ú p0 q0 st n (wN due) room Ĕ)
example ň:=List.length
example ŉ:=(ws.map yv)
example Ŋ:=(.nx J')
example ŋ:=#[k0,k1,k2,k3]
example Ō _:=x (vG rfl yh rfl (wL rfl yh)) rfl
example ō:=w6 4 (yj (zy 6) (yj (zy 7) (yj (zy 8) (yj (zy 9) vd))))
example Ő:=(zE (ze À hq))
example ő _:=x rfl yh À (gD (m:=m) (q:=q) (n:=n) yh hp (by rw[ho];rfl))
example Œ _:=x (yK F q w) (n+1)
example Ŕ _:=x (Å i) (Å j)
example Ŗ:=#[⋯,⋯]
example ŗ:=List Wy
example Ř:=(zE (ze (ze À Ds) rfl t1))
example ř _:=x rfl yJ À (gD (m:=m) (q:=q) (n:=n) yJ hp (by rw[ho];rfl))
example Ś:=É*s.gv
example ŝ:=List (ë)
example Ş:=yw s.pu q
example ş:=[Ĭ [Å 0,Å 0]]
example Š:=((ws++new).map yv)
example š:=tW F s q k
example Ť:=[Ě,nT p,zu q]
example ť{L:List (Addr×C)}:=0
example Ŧ:=(r0 (uM (zx (zq (ze À (nG _ p hlen)) rfl) e2)))
example Ũ _:=x n (wN due) room (im Ç4)
example ũ:=w.f=p
example Ū:=pre++[last]
example Ŭ:=(.inl #[(),()])
example ŭ:=(xR rfl Â)
example Ů:=((t 0).trans rfl)
example ů(k:Nat):=0
example ų _:=x hp hq
example Ŵ _:=x þ "first_way" ["self"] mJ
example ŵ _:=x (ze (ze À f2) rfl h2) rfl
example Ŷ:=by let#[i0,w0,hw1,hw2,EO]:=X9 (m:=m) ý gw hp q
example ŷ:=List Nat
example Ÿ:=l.length
example Ź:=((r::rs).map yV)
example ź:=1<=s.gv/\0<=s.gt
example Ż:=xy [7,8,9] (zy 7) qH ((Ì N).map Þ) ø
example ż:=(lK ns ç Ú O k ↑(0,(O.A,O.B)) 0 Ĕ)
example È1:=(vG ô (tR ô))
example Ž _:=x È1 (vG rfl yh rfl (tR rfl yh rfl))
example ž:=.str "taker"
example À0:=ę [Ô,Ô,Ô,Ô]
example À1(st:Sd):=0
example À3{k:Ev->Ñ Bool}{g h:Xf}{o:Ñ (Ñ T×Ev)}:=0
example À4(a b:Addr):=0
example À5 _:=x none "Keeper"
example À6{due:Ñ Nat}È3(h:rS Ú due ↑ Ę n):=0
example À8:=(if x.2+w.b<x.1+w.a then x.2+w.b else x.1+w.a)
example À9:=(xj s.pu (õ-s.gv) (min (Ş+s.gt) (Ġ)))
example Á0:=Ĭ [Ĭ [Å 0,Å A],Ĭ [Å 0,Å B]]
example Á1:=(v*52027+v/q22+13*É)
example Á2:=by change (k J).bind _=o;rw[e];show e'
example Á3:=by obtain⟨m,rfl⟩:∃ k,m=k+1:=#[m-1,⋯]
example Á4(ho:Î=true) {q r:Æ}:=0
example Á5(hw:w∈F.ws) (hf:ũ):=0
example Á6:=F.ws.zipIdx.filter λ wi=>ī (wi.1.f=p)
example Á7:=#[_,rfl,by dsimp only;split <;> lia]
example Á8:=λ(k:Nat)=>Ó (0+É)
example Â0 _:=x (L:=[Ĉ]) rfl yJ À (gC (m:=m) yJ n _) À
example Â1:=by obtain⟨j,rfl⟩:∃ j,k=j+1:=#[k-1,⋯]
example Â2:=by change (f J).bind _=_;rw[h];rfl
example Â4:=[im (vX EZ),û,ö,none,none]
example Â5:=nR (λ p=>xc F (zI F j) p) Ã p [] hp
example Â6:=(xR (zq rfl (zq (ze Ä À) rfl)) Â)
example Â7:=VH (Ţ) Ã p q (jn R).1 (jn R).2 hp
example Â9 _:=x ↑b "Taker"
example Ã1:=by have:=ä ň e;simp at this;lia
example Ã2:=xk ģ fr
example Ã3 _:=x none "Taker"
example Ã4:=ws.map rZ
example Ã6:=List (Str×T)
example Ã7:=(zO (zb (yX Û) (zc 1) (cS .zj)))
example Ã8:=(s.p:Int)
example Ã9 _:=x 2000 [] (ă) (Ì Ã)
example Ä0:=(Ì EZ.length).find? λ k=>!zF ú
example Ä1:=λ k:Nat=>T.tup [Å É,rT (ś)]
example Ä2:=iV ý (W3 ý hq (AW k1)) (AW k2)
example Ä4 _:=x (ze À f0) rfl
example Ä5:=à none d gs'
example Ä9:=((t 1).trans rfl)
example Å0(gw:Í):=0
example Å1:=by rw[R.fx.go p hp q hq] at hc;unfold pR at hc
example Å3:=by let#[p,q]:=x;let#[hp,hq]:=hs _ rfl
example Å4:=0<q/\q<2 ^ 200
example Å5:=by simp[zC]
example Å7:=(iW (xs:=[zC O]) rfl () À o2)
example Æ0:=w.f=pl/\w.t<many
example Æ1:=(λ z=>↑(Ó z))
example Æ2:=jQ h0 hc hl hg h
example Æ3:=J[2]?=↑(im Ŏ)
example Æ4:=(iW Ń () À (VC (m:=m) n n))
example Æ5:=(zp (xX (pO rfl ⋯) e) rfl)
example Æ6:=(.bl Û)
example Æ8:=(om (zE (ze À ne)) (zE t2))
example Æ9 _:=x c mo br xs many (os.map kt) ŉ į
example Ç0 _:=x į (ß) (im (Å v)) (im (nT sz))
example Ç1:=absurd
example Ç2:=by simp[h]
example Ç3:=ns.length
example Ç5:=xs.length
example Ç6:=(om Ř (zE (ze Ê rfl t2)))
example Ç7:=if Ś<=õ then ↑(š) else none
example Ç8:=l.getD p []
example Ç9:=∀ k,k<=m->∀ b∈zI F k,ĳ
example È0:=(nT i)
example È4{i j:Int}:=0
def dn È3{f v:Ad}Å8{ts:ļ}{z:T}{k:Int}{j:Nat}(hv:v J=↑z) (hf:f J=↑(Å k)) (h0:J[n]?=↑↑(İ (ę ts))) (hj:vy ts.length k=↑j):lL n f v J=↑(.nx (J.set n ↑(İ (ę (ts.set j z))))):=by
 change (v J).bind _=_;rw[hv];change (f J).bind _=_;rw[hf];dsimp only[Option.bind];rw[h0];dsimp only;rw[hj];rfl
abbrev eV â (last:ë) (fr:ŷ) (L:ë) (x:Ñ W):Ev:=[ñ,im (rT last),im (qv fr),↑(İ (ę (L.map bT))),x]
def tM â (last:ë) (pre:ü):ë:=(Ì last.length).map λ(p:Nat)=>if ĕ ∈pre then xc ģ p else last.getD p []
theorem GX Ą ì {last:ë}{fr:ŷ}(hl:last.length=Ã) (hg:∀ b∈last,ĳ):bP [Ě,rT last,qv fr]=↑(rT (Ã2)):=by
 have sd:=ok.sd;have c1:WH (eV ģ fr last none)=↑(ę ((È).map Ó)):=by
  rw[A3];show lP yv (λ w=>À7) (λ w=>Ó (w.f:Int)) F.ws rfl ⋯ λ w _=>#[_,rfl,zE (ze Ä rfl (K5 w.t fr)),ze À rfl]
 have hss:sZ [ę ((È).map Ó)]=↑(ę ((vD (È)).map Ó)):=by
  change (match sv ((È).map Ó) with | some ns=>_ | none=>_)=_;rw[Xg];exact Ü ?_;have:=CW (λ w:Wy=>À7) F.ws;simp![AM];lia
 have Bb:∀ k,k∈vD (È)↔∃ p:Nat,k=ĕ/\p<Ã/\sC F fr p=true:=λ k=>by
  constructor
  .intro hk;let#[w,hw,rfl]:=Aw.mp (jN.mp hk);let#[w1,w2]:=A7.mp hw;show#[w.f,rfl,(ok.ws w w1).1,A_.mpr #[w,w1,by exists w2]]
  .rintro⟨p,rfl,_,h⟩;let#[w,w1,w2]:=A_.mp h;have w3:ũ/\À7=true:=by exists w2
   show jN.mpr (Aw.mpr #[w,A7.mpr #[w1,w3.2],by rw[w3.1]])
 generalize vD (È)=up at *;let#[J',h1,rfl]:=uT (is:=[4]) (g:=zy 4) (b:=Va) Ó (λ pre J=>J=eV ģ fr (tM ģ pre) none) up (eV ģ fr last none) (by
  have e:tM ģ []=last:=C5 (by simp[tM]) λ i h1 h2=>by simp[tM,h2]
  rw[e];rfl) (by
  rintro pre k q e J rfl;let#[p,rfl,hp,hw]:=(Bb k).mp (by rw[e];simp);have Ey:((tM ģ pre).map bT).set p (bT (xc ģ p))=(tM ģ (pre++[ĕ])).map bT:=by
   exact C5 (by simp[tM]) λ i h1 h2=>?_;rw[List.getElem_set];simp![tM,List.getElem_map,DP,A5,AI];by_cases c:p=i
   .subst c;simp
   .have c':¬ ((i:Int)=ĕ):=⋯;simp[c,c']
  have Ds:vy ((tM ģ pre).map bT).length ĕ=↑p:=by
   unfold vy tM;simp![AM,Cs];rw[Ü ⋯,Ü ⋯,Cw]
  show#[_,qb rfl (dn (zx rfl (GY ok p hp last hl hg)) À Ds),by rw[Ey];rfl])
 have fin:tM ģ up=Ã2:=by
  exact C2 λ p hp=>?_;have Ao:=AO.mp hp;by_cases c:sC F fr p=true
  .rw[Ü c,Ü ((Bb _).mpr #[p,rfl,⋯,c])]
  .rw[ě c,ě λ h=>c (by let#[p',e,_,h']:=(Bb _).mp h;show (show p'=p by lia)▸h')]
 rw[fin] at h1;show ym (zp rfl (zp (xX (ä (Option.bind · _) (zx (zq c1 rfl) hss)) h1) rfl)) rfl
theorem cF {α:Type}(enc:α->T) (d:α) (fo:List α):∀ (l:List α) ů,(∀ i,l.getD i d=fo.getD (k+i) d)->qz k (l.map enc)=(Ì Ÿ).map λ(p:Nat)=>T.tup [Å ((k+p:Nat):Int),enc (fo.getD (k+p) d)]
 | [],k,_=>rfl
 | b::l,k,h=>by
  have h0:=h 0;rw[Az,qz,cF enc d fo l (k+1) λ i=>by have:=h (i+1);rw[show k+1+i=k+(i+1) from by lia];exists this];rw[A1,List.range_succ_eq_map,Az,A3];have e:b=fo.getD k d:=by exists h0
  congr 1
  .rw[e];rfl
  .exact C2 λ p _=>?_;simp![Function.comp];rw[show k+1+p=k+Nat.succ p from by lia]
def HZ {a:T}{b c:Ñ L5.W}{last fo:ë}(hl:fo.length=last.length) (Xl:fo.length<=10000):WG [im a,b,c,im (rT last),im (rT fo)]=↑(qv (uX last fo)):=
 lP (λ p:Nat=>T.tup [nT p,bT (fo.getD p [])]) (λ p=>ī (fo.getD p []≠last.getD p [])) (λ p=>nT p) (Ì fo.length) (by
  have:=cF bT [] fo fo 0 λ i=>by rw[CY]
  simp![CY] at this;rw[<- this];rfl) Ý λ p hp=>#[_,rfl,zE (ze rfl (ze À (nG last p (by rw[<- hl];show AO.mp hp))) (Yv _ _)),rfl]
abbrev m_ â (EZ:ŝ) (fr:ŷ) (x y:Ñ L5.W):Ev:=[ñ,↑(İ (ę (EZ.map rT))),im (qv fr),x,y]
theorem c5:∀ fr:ŷ,fr≠[]->f9 (qv fr)=↑true
 | [],h=>Ç1 rfl h
 | _::_,_=>rfl
theorem Zo Ą ì:∀ é (pre:ŝ) (last:ë) (fr:ŷ) (res:ŝ),St ģ fr->qf F n pre last fr=↑res->Ľ+n<=10000->∀ ĵ,n<m->∀ x y:Ñ L5.W,
  ∃ fr',vx [3,4] (wt (zc 2)) iZ m (m_ F (Ū) fr x y)=↑(.nx (m_ F res fr' Á))
 | 0,_,_,_,_,_,h,_,_,_,_,_=>by cases h
 | n+1,pre,last,fr,res,s,h,hn,m,hm,x,y=>by
  have Ce:∀ ĵ (EZ:ŝ) (x y:Ñ L5.W),vx [3,4] (wt (zc 2)) iZ (m+1) (m_ F EZ [] x y)=↑(.nx (m_ F EZ [] Á)):=λ m EZ x y=>jU rfl;ext Á3;unfold qf at h;by_cases AR:fr=[]
  .rw[Ü AR] at h;cases h;subst AR;show#[_,Ce m _ x y]
  .rw[ě AR] at h;dsimp only at h;have n8:=ok.n8;have sl:=s.len;have hlast:ū ((Ū).map rT) (-1)=↑(rT last):=by rw[Bu];show Vh
   have hc:=λ b c=>HZ (a:=Ě) (b:=b) (c:=c) (last:=last) (fo:=Ã2) (qm ..) (by rw[qm];lia);have sn:=s.next ok;have hF:=GX ok (fr:=fr) s.len s.gd;generalize uX last (Ã2)=f2 at *;have b1:∀ o,_->iZ (m_ F (Ū) fr Á)=o:=λ o h=>zp (zM (ze À hlast)) (zp (zM (zx rfl hF)) (zp (zM (hc _ _)) h));by_cases hf:f2=[]
   .rw[Ü hf] at h;cases h;subst hf;ext Á3;show#[_,jT (c5 fr AR) (b1 _ (y6 À)) (Ce m _ _ _)]
   .rw[ě hf] at h;let#[fr',e]:=Zo ok n (Ū) (Ã2) f2 res sn h Ý m ⋯ (im (rT last)) (im (rT (Ã2)));exact#[fr',jT (c5 fr AR) (b1 _ (xq (c5 f2 hf) (sN À Ý))) (Eq.trans (ä _ ?_) e)];change _=[_,↑(L5.W.own (ę ((Ū++[Ã2]).map rT))),_,_,_]
    rw[Bu (l₁:=Ū)];rfl
def Gw {i:Nat}{f:Ad}Å8{ts:ļ}(h:f J=↑(ę ts)):vO i f J=↑(.nx (J.set i ↑(İ (ę ts)))):=Â2
def LC {f:Ad}Å8{x:T}(h:f J=↑x):ve (za f zg) J=↑(ę [x]):=Ç2
theorem GU Ą ì:∃ more,tZ [Ě]=↑(ę ((ă::more).map rT))/\(∀ r∈ ă::more,r.length=Ã/\∀ b∈r,ĳ)/\more.length<=2000/\qf F Ã9=↑(ă::more):=by
 have hmu:=Yx (ă);have BU:(ă).length=Ã:=by unfold RN.start;simp
 have n8:=ok.n8;have n1:=ok.n1;let#[more,last',e1,e2,_,e4]:=Zp ok Ã9 (St.start ok) ⋯;let#[fr',e]:=Zo ok Ã9 _ (St.start ok) e1 #[] 1000000 () Á;have AD:rT (ă)=ę (List.replicate Ã (Ĭ ş)):=by
  unfold rT RN.start;rw[List.map_replicate];rfl
 have hmul:xx (ę [Ĭ ş]) (Å Ã)=↑(rT (ă)):=by
  rw[AD];unfold xx;dsimp only;rw[Ü #[#[],⋯,⋯,LI Ý]];have:∀ n:Nat,(List.replicate n [T.tup ş]).flatten=List.replicate n (Ĭ ş):=λ n=>by
   induction n with
   | zero=>rfl
   | succ n ih=>rw[B2,B2,Cp,ih];rfl
  rw[Cw,this]
 have hrg:jV [Å Ã]=↑(qv (Ì Ã)):=by
  change (if 0<=(Ã:Int)/\(Ã:Int)<=16777216 then ↑(T.lst (rangeT 0 (Ã:Int).toNat)) else none)=_;rw[Ü Ŗ];change ↑(T.lst ((Ì (Ã:Int).toNat).map Á8))=_;rw[Cw];unfold qv;simp
 show#[more,ym (zp (Gw (i:=1) (LC (ze rfl (zx rfl (bN F)) hmul))) (zp (zM (zx (zq (zx rfl (bN F)) rfl) hrg)) (zp e rfl))) rfl,e2,⋯,e1]
def Ll (i j:Int):xx Ŕ=if rY i j then ↑(Å (i*j)) else none:=rfl
def K3 {r:ü}{rs:List (ü)}:sv Ź=none:=rfl
def Sb (rs:List (ü)) (h0:rs≠[]) (hl:rs.length<64) (hn:∀ r∈rs,r≠[]):sZ [ę (rs.map yV)]=↑(ę ((L4.wu (vc rs)).map yV)):=by
 cases rs with
 | nil=>show Ç1 rfl h0
 | cons r rs=>
  change (match sv Ź with
   | some ns=>if Ç3<64 then ↑(T.lst ((vD ns).map Ó)) else none
   | none=>mW [T.lst Ź])=_
  rw[K3];change (vZ Ź).bind _=_;rw[eg,Ba,Ü #[hl,hn]]
theorem eE é (h:n<=1000):xS (Å 10) (Å ħ)=↑(Å (10 ^ n)):=by
 have hc:qT 10 ħ:=#[⋯,⋯,()];change (if qT 10 ħ then ↑(Ó (10 ^ (n:Int).toNat)) else none)=_;rw[Ü hc,Cw]
def lu é (h:n<=1000) (J:Ev):zb ĺ (cS (Å ħ)) J=↑(Å (10 ^ n)):=ze À (eE n h)
def pC È4(h:rY i j):xx Ŕ=↑(Å (i*j)):=by rw[Ll,Ü h]
def yW È4(h:0<j):yz Ŕ=↑(Å (i%j)):=Ü h
theorem lE (c:Int) È3(h:0<n):∃ p:Nat,p<n/\yz Ŏ Ç4=↑(nT p):=by
 have m0:=De c (b:=ħ) ⋯;have m1:=Dd c (b:=ħ) ⋯;exact#[(c%ħ).toNat,⋯,?_];unfold nT;rw[yW ⋯,show (((c%ħ).toNat:Nat):Int)=c%ħ by lia]
def v5 È4(h:0<j/\j<1073741824):xf Ŕ=↑(Å (i/j)):=Ü (show oQ i j from h)
theorem jL (c:Int) {A:Int}(h:0<=A):∃ x,(0<=x/\x<=A)/\yz Ŏ (Å (A+1))=↑(Å x):=by
 have m0:=De c (b:=A+1) ⋯;have m1:=Dd c (b:=A+1) ⋯;show#[_,#[m0,⋯],yW ⋯]
def pO {e:Ad}Å8 È3(h:e J=↑(Å ħ)) (hn:n<=100000):xU ua (za e zg) J=↑((Ì n).map Þ):=by
 change (za e zg J).bind ua=_;rw[zq h rfl];show Zr n hn
def kz È4(h:0<j/\j<2 ^ 200):pV Ŕ=↑(Å (i/j)):=Ü (show oP i j from h)
def de È4(h:i.natAbs<2 ^ 200/\j.natAbs<2 ^ 200):lD Ŕ=↑(Å (i*j)):=Ü (show oO i j from h)
abbrev qZ (c:Int) é (L:ļ) (v:Int) (x:Ñ W):Ev:=[im Ŏ,im Ç4,↑(İ (ę L)),im (Å v),x]
def stir {b:Sm}{c:Int}È3(hn:n<=100) (I:Int->Prop) (hb:∀ v,I v->∀ ů (L:ļ),L.length<=10000->k<n->∃ u w,I u/\b (qZ c n L v (ß))=↑(.nx (qZ c n (L++[Å w]) u (ß)))) (v0:Int) (h0:I v0):
  ∃ (v:Int) (xs:ü),xy [4] (zy 4) b ((Ì n).map Á8) (qZ c n [] v0 none)=↑(.nx (qZ c n (ŏ Ó) v none))/\Ç5=n:=by
 let#[J',h1,v,xs,rfl,h3,_]:=uT (is:=[4]) (g:=zy 4) (b:=b) (Þ) (λ p J=>∃ (v:Int) (xs:ü),J=qZ c n (ŏ Ó) v none/\Ç5=Ĵ/\I v)
   (Ì n) (qZ c n [] v0 none) #[v0,[],rfl,rfl,h0] (by
  rintro p k q e J ⟨v,xs,rfl,r1,r2⟩;have hp:=ä ň e;simp at hp;let#[u,w,u1,u2]:=hb v r2 k (ŏ Ó) Ý (ķ);rw[Cv];show#[_,u2,u,xs++[w],by rw[Bu];rfl,by simp[r1],u1])
 show#[v,xs,h1,by exists h3]
theorem GQ (c:Int) é (hn:n<=100):∃ xs:ü,bU [Å c,Å n]=↑(ę (ŏ Ó))/\Ç5=n:=by
 obtain⟨q6,h6,g6⟩:∃ q:Int,(∀ J,zb ĺ (cI 6) J=↑(Å q))/\Å4:=#[_,lu 6 (),AU];obtain⟨q9,h9,g9⟩:∃ q:Int,(∀ J,zb ĺ (cI 9) J=↑(Å q))/\Å4:=#[_,lu 9 (),AU];obtain⟨q22,dZ,g22⟩:∃ q:Int,(∀ J,zb ĺ (cI 22) J=↑(Å q))/\Å4:=#[_,lu 22 (),AU];obtain⟨q23,dY,g23⟩:∃ q:Int,(∀ J,zb ĺ (cI 23) J=↑(Å q))/\Å4:=#[_,lu 23 (),AU];obtain⟨M,hM,gM⟩:∃ q:Int,(∀ J,zb y8 (zb ĺ (cI 45)) (cI 9) J=↑(Å q))/\0<q/\q<2 ^ 180:=#[10 ^ 45+9,fun J=>ze (lu 45 () J) À,AU];obtain⟨num,EF,n0⟩:∃ z,h_ [Å (c/2)]=↑(Å z)/\0<=z:=#[_,rfl,ď];have pre:∀ o,_->Uh [im Ŏ,im Ç4,none,none,none]=o:=λ o h=>zp rfl (zp (zM (zx (zq (ze À (kz ())) rfl) EF)) h);have t:=ľ (c%2) 1 Û;by_cases h:c%2=1
 .rw[za3 h] at t;let#[v,xs,e,l]:=stir (b:=Vb) (c:=c) hn (λ _=>True) (λ v _ k L hL hk=>#[_,_,trivial,zp (sN rfl (ze rfl (h6 _) (yW g6.1)) hL) (zM (ze rfl (h6 _) (kz g6)))]) num trivial;show#[xs,ym (pre _ (wy (xq (zE (ze Ĩ rfl t)) Æ5))) rfl,l]
 .rw[za2 h] at t;have b0:=De num (b:=M) ⋯;have b1:=Dd num gM.1;let#[v,xs,e,l]:=stir (b:=bh) (c:=c) hn (λ v=>0<=v/\v<2 ^ 181) (λ v hv k L hL hk=>by
   have u0:=De Á1 (b:=M) ⋯;have u1:=Dd Á1 gM.1;have pb:∀ o,_->bh (qZ c n L v (ß))=o:=λ o h=>zp (zM (ze (ze (ze (ze À (de #[⋯,()])) (ze rfl (dZ _) (kz g22)) rfl) (ze À (de #[(),⋯])) rfl) (hM _) (yW gM.1))) h;generalize Á1%M=u at *;have w0:0<=u/q23:=Int.ediv_nonneg u0 ⋯;have w1:u/q23<=u:=Int.ediv_le_self _ u0;show#[u,_,#[u0,⋯],pb _ (sN rfl (ze (ze rfl (ze (ze rfl (dY _) (kz g23)) À) (de Ŗ)) (h9 _) (kz g9)) hL)]) (num%M+77003) Ŗ
  show#[xs,ym (pre _ (zp (y6 (zE (ze Ĩ rfl t)) rfl) (zp (zM (ze (ze rfl (hM _) (yW gM.1)) À)) Æ5))) rfl,l]
theorem dB (b:Bool):zT Û (kt b) (Đ)=↑(.bl b):=by
 have h:(("taker":Str) == ("keeper":Str))=Û:=()
 cases b
 .change zT Û (ž) (Đ)=_;simp[zT,dep,eqT,h]
 .change zT Û (Đ) (Đ)=_;simp[zT,dep,eqT]
def lR {xs:ü}{j:Nat}(h:j<Ç5):∃ v,ū (ŏ Ó) (j:Int)=↑(Å v):=#[xs.getD j 0,wR (Ç2)]
def VO (x:Int) ĵ:∃ y,gN [Å x,nT m]=↑(Å y):=
 #[_,ym (x9 (zx (zq rfl (zq (ze (ze (ze Ĩ (ze (ze À (pC Ŭ)) À) (yW ⋯)) À) Ê rfl) rfl)) rfl)) rfl]
theorem V8 (place:Nat) {many:Nat}(num:Int) (sz:Nat) (hp:0<many):∃ w:Wy,(w.f=place/\w.t<many)/\gH [nT place,nT many,Å num,nT sz]=↑(yv w):=by
 let#[a,ha]:=VO (num/8%50) sz;let#[b,hb]:=VO (num/400%50) sz;let#[t,tm,ht]:=lE (num%8) hp;show#[#[place,t,a,b],#[rfl,tm],ym (x9 (xR (zq rfl (zq (ze Ĩ rfl ht) (zq (zx (zq Ê (zq À)) ha) (zq (zx (zq Ê (zq À)) hb) rfl)))) Â)) rfl]
def Vj {b:Sm}{n pl many:Nat}{E:ļ->Ñ L5.W->Ev}(hE:∀ r x,yt [11] (E r x)=E r none) (hn:n<=100)
  (ht:∀ k<n,∀ L:ļ,L.length<=1000->∃ w:Wy,(Æ0)/\∃ x,turn (zy 11) b (Å (0+É)) (E L none)=↑(.nx (E (L++[yv w]) x)))
  (ws:ŗ) (hl:Į<=100):
  ∃ new:ŗ,xy [11] (zy 11) b ((Ì n).map Á8) (E ŉ none)=↑(.nx (E Š none))/\new.length=n/\∀ w∈new,Æ0:=by
 let#[J',h1,new,rfl,h3,h4]:=uT (is:=[11]) (g:=zy 11) (b:=b) (Þ) (λ p J=>∃ new:ŗ,J=E Š none/\new.length=Ĵ/\∀ w∈new,Æ0)
   (Ì n) (E ŉ none) #[[],by rw[hE,BR],rfl,nofun] (by
  rintro p k q e J ⟨new,rfl,u1,u2⟩;have hp:=ä ň e;simp at hp;let#[w,v1,x,v2]:=ht k (ķ) Š Ý;exact#[_,v2,new++[w],by rw[hE];simp,by simp[u1],λ y hy=>?_];rcases A5.mp hy with h | h
  .show u2 y h
  .cases AI.mp h;show v1)
 show#[new,h1,by simpa using h3,h4]
abbrev su (c mo br:T) (xs:ü) (many:Nat) (os ws ss:ļ) (d e f g:Ñ L5.W):Ev:=[im c,im mo,im br,im (ę (ŏ Ó)),im (nT many),↑(İ (ę os)),↑(İ (ę ws)),↑(İ (ę ss)),d,e,f,g,none]
def R9 (c mo br:T) {xs:ü}(hx:Ç5=43) {many:Nat}(hm:many<=8) {os:List Bool}{ws:ŗ}{ss:List Sl}Ī(hk:k<many) (ho:os.length=k) (hw:Į<=24) (hs:ss.length<=8):
  ∃ (b:Bool) (new:ŗ) (ss':List Sl) (J':Ev),turn (zy 8) iY ű (su Æ9 Á Á)=↑ Ŋ/\yt [8,9,10,11] J'=su ı Š (ss'.map yO) Á Á/\(0<new.length/\new.length<=3)/\(∀ w∈new,w.f=k/\w.t<many)/\(ss'=ss\/∃ s:Sl,ss'=ss++[s]/\s.p=k/\ź):=by
 let#[v,hv]:=lR (xs:=xs) (j:=2+4*k) ⋯;have mu:xx (Å 4) ű=↑(nT (4*k)):=pC Ŭ;obtain⟨b,hb⟩:∃ b:Bool,ū [T.str "keeper",T.str "taker"] (v%2)=↑(kt b):=by
  rcases Int.emod_two_eq v with h | h <;> rw[h]
  .show#[true,rfl]
  .show#[Û,rfl]
 obtain⟨sz,hsz⟩:∃ sz:Nat,ū [Ó 2,Ó 3,Ó 3,Ó 12] (v/2%4)=↑(nT sz):=by
  obtain h | h | h | h:v/2%4=0\/v/2%4=1\/v/2%4=2\/v/2%4=3:=⋯
  all_goals rw[h]
  .show#[2,rfl]
  .show#[3,rfl]
  .show#[3,rfl]
  .show#[12,rfl]
 obtain⟨n1,hn1,n0,n3⟩:∃ n:Nat,1+v/8%3=ħ/\0<n/\n<=3:=#[(1+v/8%3).toNat,⋯,⋯,⋯];let#[new,g1,g2,g3]:=Vj (b:=bj) (pl:=k) (many:=many) (E:=λ rs x=>su ı rs Ç0 x) (λ _ _=>rfl) (n:=n1) ⋯
  (λ k' hk' L hL=>by
   let#[u,hu]:=lR (xs:=xs) (j:=3+4*k+k') ⋯;let#[w,hw1,hw2]:=V8 k u sz (Nat.zero_lt_of_lt hk);rw[Cv];show#[w,hw1,im (nT k'),(sN rfl (zx (zq rfl (zq rfl (zq (ze rfl (ze (ze rfl (ze À mu) rfl) À) hu) (zq À)))) hw2) ⋯:bj (su ı L Ç0 (im (nT k')))=_)])
  ws ⋯
 have Ds:ū (os.map kt++[kt b]) É=↑(kt b):=wR (by rw[Cr Ý];simp[ho]);have pre:∀ o,_->iY (su Æ9 (ß) Ĕ)=o:=λ o h=>zp (zM (ze rfl (ze rfl (ze À mu) rfl) hv)) (zp (sN rfl (ze rfl Ĩ hb) Ý) (zp (zM (ze rfl Ê hsz)) (zp (xX (pO (n:=n1) (ze rfl Ê (ä Æ1 hn1)) ⋯) g1) h)));have t1:=dB b;have t2:=ľ (v/24%3) 0 Û;cases b with
 | Û=>show#[Û,new,ss,_,pre _ (y6 (hV Ř) rfl),rfl,⋯,g3,.inl rfl]
 | true=>
  by_cases h:v/24%3=0
  .rw[za3 h] at t2;obtain⟨pu,DX⟩:∃ pu:Bool,v/72%2=xw pu:=by
    rcases Int.emod_two_eq (v/72) with h | h
    .show#[Û,h]
    .show#[true,h]
   exact#[true,new,ss++[#[k,pu,1+v/144%4,v/576%5]],_,pre _ (xq Ç6 (sN rfl (xR (zq rfl (zq (ze (ze À (v5 ())) rfl (by rw[yW (),DX])) (zq (ze rfl Ê rfl) (zq Ê rfl)))) Â) Ý)),?_,⋯,g3,.inr #[_,rfl,rfl,by dsimp only;lia,by dsimp only;lia]];rw[Bu (l₁:=ss)];rfl
  .rw[za2 h] at t2;show#[true,new,ss,_,pre _ (y6 Ç6 rfl),rfl,⋯,g3,.inl rfl]
def rZ (w:Wy):ü:=[(w.f:Int),(w.t:Int),w.a,w.b]
def Rf (r:ü):Wy:=#[(r.getD 0 0).toNat,(r.getD 1 0).toNat,r.getD 2 0,r.getD 3 0]
def Sf {ws:ŗ}(h0:ws≠[]) (hl:Į<64):
  ∃ ws':ŗ,sZ [ę ŉ]=↑(ę (ws'.map yv))/\ws'.length<=Į/\∀ w,w∈ws'↔w∈ws:=by
 have hm:∀ r,r∈L4.wu (vc (Ã4))↔r∈ Ã4:=λ r=>by rw[(L4.qd _).mem_iff,lI]
 have hn:∀ r∈ Ã4,∃ w∈ws,rZ w=r:=λ r hr=>Aw.mp hr;exact#[(L4.wu (vc (Ã4))).map Rf,?_,?_,λ w=>#[λ h=>?_,λ h=>Aw.mpr #[rZ w,(hm _).mpr (DA h),rfl]]]
 .have:=Sb (Ã4) (λ e=>h0 (List.map_eq_nil_iff.mp e)) (by rw[AM];show hl) (λ r hr=>by let#[w,_,rfl]:=hn r hr;show nofun);rw[A3] at this;exact this.trans (ä (λ l=>↑(T.lst l)) ?_);rw[A3];exact C2 λ r hr=>?_;let#[w,_,rfl]:=hn r ((hm r).mp hr);rfl
 .have:=eU (Ã4);rw[AM] at this ⊢;rw[(L4.qd _).length_eq];show this
 .let#[r,hr,rfl]:=Aw.mp h;let#[w,hw,rfl]:=hn r ((hm r).mp hr);show hw
theorem fB {l:ļ}(h:Ÿ<=10000):qX [ę l]=↑(Ĭ l):=by
 have:Ÿ<=16777216:=⋯;simp[this]
def Fe ł:
  Ļ:=by
 let#[xs,hxs,hx]:=GQ c 43 ();let#[v0,hv0]:=lR (xs:=xs) (j:=0) ⋯;let#[v1,hv1]:=lR (xs:=xs) (j:=1) ⋯;let#[r,rm,hr]:=lE v0 h1;let#[A,hA,mA]:=jL v1 (A:=(zA:Int)) ⋯;let#[B,hB,mB]:=jL (v1/13) (A:=(zA:Int)) ⋯;let#[J',g1,os,ws,ss,rfl,i1,i2,i3,i4,i5,i6,i7]:=uT (is:=[8,9,10,11]) (g:=zy 8) (b:=iY) (Þ)
   (λ p J=>∃ (os:List Bool) (ws:ŗ) (ss:List Sl),J=su č ŉ į Á Á
    /\ os.length=Ĵ/\Į<=3*Ĵ/\(∀ w∈ws,w.f<1+r/\w.t<1+r)/\(∀ x<Ĵ,∃ w∈ws,w.f=x)/\ss.length<=Ĵ/\(∀ s∈ss,s.p<Ĵ/\ź)/\ss.Pairwise Ã5)
   (Ì (1+r)) (su Ŏ ç xs (1+r) [] [] [] Á Á) #[[],[],[],rfl,rfl,#[],nofun,nofun,#[],nofun,.nil] (by
  rintro p k q e J ⟨os,ws,ss,rfl,r1,r2,r3,r4,r5,r6,r7⟩;have hk:k<1+r:=ķ;have hpk:k=Ĵ:=by
   have h2:=ä (λ l=>l[Ĵ]?) e;simp![Cr (An _),Nat.sub_self,List.getElem?_cons_zero] at h2;let#[h3,h4]:=AQ.mp h2;exists h4.symm
  let#[b,new,ss',J',t1,t2,t3,t4,t5]:=R9 Ŏ ç hx (many:=1+r) ⋯ hk (r1.trans hpk.symm) (ws:=ws) ⋯ (ss:=ss) ⋯;rw[Cv,BO,List.length_singleton];exact#[J',t1,os++[b],ws++new,ss',by rw[t2,Bu (l₁:=os)];rfl,by simp[r1],by rw[BO];lia,λ w hw=>?_,λ x hx=>?_,?_]
  .rcases A5.mp hw with h | h
   .show r3 w h
   .have:=t4 w h;lia
  .by_cases h:x<Ĵ
   .let#[w,h1,h2]:=r4 x h;show#[w,B4 _ h1,h2]
   .show#[new[0],A2 _ (BF t3.1),by have:=t4 _ (BF t3.1);lia]
  .have g:∀ s∈ss,s.p<Ĵ+1/\ź:=λ s hs=>by have:=r6 s hs;lia
   rcases t5 with rfl | ⟨s,rfl,s1,s2⟩
   .show#[⋯,g,r7]
   .exact#[by simp;lia,λ z hz=>?_,DR.mpr #[r7,#[],λ a ha d hd=>?_]]
    .rcases A5.mp hz with h | h
     .show g z h
     .cases AI.mp h;lia
    .cases AI.mp hd;have:=r6 a ha;lia)
 rw[Cs] at i1 i2 i4 i5 i6;have run:∀ ws3 ws4:ŗ,_->ê:=λ ws3 ws4 h j1 hl=>ym (zp (zM (zx rfl hxs)) (zp (zM (ze rfl (ze (ze À hv0) rfl hr) rfl)) (zp rfl (zp rfl (zp rfl (zp (xX (pO (n:=1+r) rfl ⋯) g1) (zp (J':=su č (ws3.map yv) į Á Á) h (zp (zM (xR (zq (ze (ze À hv1) Ä mA) (zq (ze (ze (ze À hv1) rfl (v5 ())) Ä mB) rfl)) Â)) (x9 (xR (zq rfl (zq (zx rfl (fB Ý)) (zq (zx (zq (zx rfl j1) rfl) (fB Ý)) (zq (zx rfl (fB Ý)) rfl)))) Â)))))))))) rfl;have fin:∀ ws3:ŗ,ws3.length<=24->(∀ w∈ws3,w.f<1+r/\w.t<1+r)->(∀ w∈ws,w∈ws3)->(∀ ws4:ŗ,ê)->Ļ:=λ ws3 Xk ho hi h=>by
  let#[w0,hw0,_]:=i4 0 ⋯;let#[ws4,j1,j2,j3]:=Sf (ws:=ws3) (λ e=>by rw[e] at hi;show nomatch hi _ hw0) ⋯;show#[_,h ws4 j1 ⋯,#[hA.1,show A<=12 by lia,hB.1,show B<=12 by lia,show 1<=os.length by lia,show os.length<=8 by lia,λ w hw=>by rw[i1];show ho w ((j3 w).mp hw),show ws4.length<=60 by lia,λ s hs=>(i6 s hs).2,.inr (Ed (Int.mul_le_mul (c:=7) (d:=7) (show A+1<=7 by lia) (show B+1<=7 by lia) (show 0<=B+1 by lia) ()) ()),show ss.length<=60 by lia],λ x hx=>by
   let#[w,q1,q2]:=i4 x (i1▸hx);show#[w,(j3 w).mpr (hi w q1),q2],i7]
 have t:=ľ (v0/8%8) 1 Û;by_cases h:v0/8%8=1
 .rw[za3 h] at t;obtain⟨n9,hn9,n9'⟩:∃ n:Nat,wB [Å 9,Å (24-(Į:Int))]=↑ Ç4/\n<=9/\Į+n<=24:=by
   by_cases z:24-(Į:Int)<9
   .show#[24-Į,by simp[z,nT];lia,⋯]
   .show#[9,by simp[z,nT],⋯]
  let#[pl,plm,Ao]:=lE (v0/64%8) (n:=1+r) ⋯;have hlen:vI [ę ŉ]=↑(nT Į):=#[];let#[new,k1,k2,k3]:=Vj (b:=bg) (pl:=pl) (many:=1+r) (E:=λ rs x=>su č rs į Ĕ x) (λ _ _=>rfl) (n:=n9) ⋯
   (λ k' hk' L hL=>by
    let#[u,hu]:=lR (xs:=xs) (j:=34+k') ⋯;let#[w,hw1,hw2]:=V8 pl u 3 (Nat.zero_lt_of_lt plm);rw[Cv];show#[w,hw1,im (nT k'),(sN rfl (zx (zq (ze Ā Ao) (zq rfl (zq (ze rfl Ä hu) (zq À)))) hw2) ⋯:bg (su č L į Ĕ (im (nT k')))=_)])
   ws ⋯
  exact fin (ws++new) (by rw[BO];lia) (λ w hw=>?_) (λ w hw=>B4 _ hw) λ ws4=>run _ ws4 (xq (zE (ze Ā t)) (xX (pO (zx (zq rfl (zq (ze rfl (zx rfl hlen) rfl) rfl)) hn9) ⋯) k1));rcases A5.mp hw with h | h
  .show i3 w h
  .have:=k3 w h;lia
 .rw[za2 h] at t;show fin ws ⋯ i3 (λ _ h=>h) λ ws4=>run _ ws4 (y6 (zE (ze Ā t)) rfl)
def mi (x y:Int):(if y<x then y else x)=min x y:=ď
def sX (o:Ñ (Æ)):T:=match o with
 | none=>.zj
 | some r=>zu r
def pT â:zi (Ě) (Å 0)=↑(Á9):=Å5
def nV â:zi (Ě) (Å 1)=↑(Ĭ (F.os.map kt)):=Å5
def c8 â:zi (Ě) (Å 2)=↑(Ĭ (F.ws.map yv)):=Å5
def X5 â:zi (Ě) (Å 3)=↑(Ĭ (F.ss.map yO)):=Å5
theorem V9 â È5 {i:Nat}Å9(hw:å):kU [Ě,zu q,Å (i:Int)]=↑(sX (tI F q w)):=by
 have hw0:=pT F;have hw2:=c8 F;have hi:Ė=↑(Ĭ [Å w.f,Å w.t,Å w.a,Å w.b]):=Ĥ;unfold kU Ub tI zu;generalize F.ws.map yv=WS,Ě=fl at *;simp![zi] at hw0 hw2;by_cases h1:q.1+w.a<0
 .simp[h1,ltI,sX,hw2,hi]
 .by_cases h2:q.2+w.b<0
  .simp[h1,h2,ltI,sX,hw2,hi]
  .simp[h1,h2,ltI,sX,hw0,hw2,hi,mi,zu]
def hX {a b:Ad}Å8{y:Ñ T}(ha:a J=↑(Ô)) (hb:b J=y):t8 a b J=y:=by
 change (a J).bind _=_;rw[ha];show hb
def G3 {a b:Ad}Å8(ha:a J=↑ Æ6):t8 a b J=↑ Æ6:=by
 change (a J).bind _=_;rw[ha];rfl
theorem VD Ą{l:ë}Ď{i:Nat}Å9(hw:å) (ht:w.t<Ÿ) (hb:(l.getD w.t []).length<=10000):gG [Ě,zu q,Å (i:Int),rT l]=↑(.bl (yF F l q w)):=by
 have hw2:=c8 F;have hi:Ė=↑(yv w):=Ĥ;have h2:=V9 F q hw;unfold yF;cases ho:tI F q w with
 | none=>rw[ho] at h2;show ym (zp (zM (zx rfl h2)) (x9 (G3 Ä))) rfl
 | some r=>rw[ho] at h2;show ym (zp (zM (zx rfl h2)) (x9 (hX Ä (zx (zq (ze rfl (ze (ze (ze À hw2) rfl hi) À) (nG l w.t ht)) rfl) (VE (l.getD w.t []) r hb))))) rfl
def tW â (s:Sl) È5 ů:Æ:=xj s.pu (õ-k*s.gv) (min (Ş+k*s.gt) (Ġ))
theorem iL Ą{s:Sl}(hs:ź):∀ é Ď,yp F q->õ<n->∀ k:Nat,(uF F s n q)[k]?=Ç7
 | 0,q,h,hn,_=>by
  have:=(ĩ h).1.1;lia
 | n+1,q,h,hn,0=>by
  have h':=ĩ h;unfold uF tW;rw[List.getElem?_cons_zero,Ü Ý];simp![Int.natCast_zero,Int.zero_mul,Int.sub_zero,Int.add_zero];rw[Int.min_eq_left h'.2.2,lr]
 | n+1,q,h,hn,k+1=>by
  have h':=ĩ h;have e1:((k+1:Nat):Int)*s.gv=k*s.gv+s.gv:=by rw[Ci,Cg];lia
  have e2:((k+1:Nat):Int)*s.gt=k*s.gt+s.gt:=by rw[Ci,Cg];lia
  have k0:0<=É*s.gt:=Cj ⋯ hs.2;have k1:0<=Ś:=Cj ⋯ ⋯;unfold uF;rw[C0];by_cases hg:s.gv<=õ
  .rw[Ü hg];have hi:yp F À9:=by
    rw[vK (pu:=s.pu),uA,rG];lia
   rw[iL hs n hi (by rw[uA];lia) k,uA];unfold tW;rw[uA,rG,e1,e2];by_cases hk:Ś<=õ-s.gv
   .rw[Ü hk,Ü ⋯];congr 2
    .lia
    .lia
   .rw[ě hk,ě ⋯]
  .rw[ě hg,e1,ě ⋯];rfl
def H_ â (pu:Bool):ū [Ó F.A,Å F.B] (1-xw pu)=↑(Å (F.zA (!pu))):=by cases pu <;> rfl
theorem Fj Ą{s:Sl}Ď Ī Â8:kZ [Á9,yO s,zu q,Å É]=↑(sX (Ç7)):=by
 have mu:∀ j,xx ű (Å j)=↑(Å (k*j)):=λ j=>pC (.inl Ŗ);have pre:Ċ:=λ o h=>zp (zM Ä) (zp (zM (ze (ze À (eD q s.pu)) (ze rfl Ä (mu s.gv)) rfl)) h);by_cases h:Ś<=õ
 .rw[Ü h];have p2:Ċ:=λ o g=>pre _ (zp (y6 (zE (ze À (ä (λ z=>↑(T.bl z)) (za2 ⋯)))) rfl) (zp (zM (zx (zq (ze (ze rfl Ä (ZH q s.pu)) (ze rfl Ä (mu s.gt)) rfl) (zq (ze rfl Ä (H_ F s.pu)) rfl)) (ä Æ1 (mi _ _)))) g));unfold tW;have t:=ľ (Ä6) 0 Û;cases DX:s.pu with
  | true=>rw[DX] at p2 t;show ym (p2 _ (zp (y6 (zE (ze À t)) rfl) (x9 ŭ))) rfl
  | Û=>rw[DX] at p2 t;show ym (p2 _ (wy (xq (zE (ze À t)) (x9 ŭ)))) rfl
 .rw[ě h];show ym (pre _ (wy (xq (zE (ze À (ä (λ z=>↑(T.bl z)) (za3 ⋯)))) rfl))) rfl
def oa â ĝ:(æ)[0]?=↑q:=by
 unfold yP;cases F.E6 p with
 | none=>rfl
 | some s=>rfl
theorem VM Ą ì Ï Ď Ö Ī Â8:oH [Ě,Å ĕ,zu q,Å É]=↑(sX (æ)[k]?):=by
 cases k with
 | zero=>
  rw[oa];unfold oH gZ sX zu;simp[ľ]
 | succ k=>
  have hk0:¬ (É+1=0):=⋯;have h1:=VA F p hp ok.s8;have hw0:=pT F;unfold yP;cases hs:F.E6 p with
  | none=>
   rw[hs] at h1;have i1:yX Û .zj .zj=↑(Ô):=rfl;unfold oH gZ;generalize o9=f1,kZ=f2,Ě=fl,zu q=pq at *;simp[ľ,hk0,h1,i1,sX]
  | some s=>
   rw[hs] at h1;have hs':=ok.ss s (Cu hs);have hgv:õ<20:=by
    have:=ĩ hq;have:F.zA s.pu<=12:=ĸ
    lia
   have h2:=Fj (F:=F) (s:=s) (q:=q) (k:=k+1) hk;rw[<- iL hs' 20 hq ⋯] at h2;rw[Ci] at h2;have i1:yX Û (yO s) .zj=↑ Æ6:=rfl;unfold oH gZ;dsimp only;generalize (uF F s 20 q)[k+1]?=oo,o9=f1,kZ=f2,Ě=fl,zu q=pq at *;dsimp only at h1;generalize yO s=sl at *;simp![zi] at hw0;simp[ľ,hk0,h1,i1,hw0,h2]
def wj â (p:Nat):List (Wy×Nat):=Á6
def mL Ą ā{wi:Wy×Nat}(h:wi∈ Ŀ):F.ws[wi.2]?=↑wi.1/\wi.1.f=p:=by
 let#[h1,h2]:=A7.mp h;show#[Eb.mp h1,Ä7 h2]
def aC Ą ā(t:Wy->Bool):(Ŀ).any (λ wi=>t wi.1)=(qV F p).any t:=by
 unfold qV;rw[<- je (λ w=>ī (ũ)) F.ws 0,List.any_map];rfl
theorem W4 Ą{s:Sl}:∀ é È5,(uF F s n q).length<=n+1
 | 0,q=>by unfold uF;simp
 | n+1,q=>by
  unfold uF;rw[A1];split
  .have:=W4 n (F:=F) (s:=s) À9;lia
  .simp
def W2 â ĝ:(æ).length<=21:=by
 unfold yP;cases F.E6 p with
 | none=>simp
 | some s=>show W4 20 q
structure Fix â (l:ë):Prop where
 ok:F.Ok
 len:Ÿ=Ã
 gd:∀ b∈l,ĳ
 pw:Õ
 go:∀ p<Ã,∀ q,yp F q->zF (Ç8) q=pR F l p q
section
variable {Ą}{l:ë}
def Fix.sz (X:Fix F l):∀ b∈l,b.length<=10000:=λ b hb=>by
 have:=(X.gd b hb).rC X.ok.a0;have:=X.ok.a1;lia
def l7 Ï:ū (F.os.map kt) ĕ=↑(kt (Î)):=wR (by rw[AG,Bi,A8 hp];rfl)
end
def JU Ą ì (hpw:Õ) {m:Nat}(hg:∀ b∈ œ,ĳ) (AD:zI F (m+1)=œ):Fix F (œ):=by
 exact#[ok,pM Ú,hg,hpw,λ p hp q hq=>?_];have hg':∀ p,Gd F.A F.B (Â3):=λ p=>by
  rcases Bn p (œ).length with h | h
  .rw[Bi,A8 h];show hg _ (BF h)
  .rw[Bi,C7 h];show Gd.nil
 have e:Â3=xc F (œ) p:=by
  have:(zI F (m+1)).getD p []=xc F (œ) p:=nR (λ p=>xc F (œ) p) Ã p [] hp;rw[AD] at this;show this
 rw[e];show eZ ok hg' p hq
def vX (EZ:ŝ):T:=ę (EZ.map rT)
def wD (EZ:ŝ) ĝ:Ñ Nat:=Ä0
def wN (o:Ñ Nat):T:=match o with
 | some k=>Å É
 | none=>.zj
theorem VH (EZ:ŝ) (n p:Nat) È5 (hn:∀ r∈EZ,r.length=n) (hb:∀ r∈EZ,∀ b∈r,b.length<=100) (hp:p<n):gR [vX EZ,Å p,zu q]=↑(wN (wD EZ p q)):=by
 have hl:=lM (is:=[3,4]) (g:=w6 2 (yj (zy 3) (yj (zy 4) vd))) (b:=Vc) (Ä1) (λ k:Nat=>Ó É) (λ k=>!zF ú) Â4 (Ì EZ.length) Â4 rfl λ k hk=>by
  have hk':=AO.mp hk;have hm:ś ∈EZ:=by rw[Bi,A8 hk'];show BF hk'
  have hlen:p<(ś).length:=by rw[hn _ hm];show hp
  have e2:=VE ú (by have:=hb _ hm _ (getD_mem hlen);lia);exact#[[im (vX EZ),û,ö,ß,im (rT (ś))],rfl,?_];cases hc:zF ú with
  | true=>rw[hc] at e2;show qb rfl (y6 Ŧ rfl)
  | Û=>rw[hc] at e2;show qb rfl (xq Ŧ rfl)
 have he:q8 [vX EZ]=↑((Ì EZ.length).map Ä1):=by
  have:=cF rT [] EZ EZ 0 λ i=>by rw[CY]
  simp![CY] at this;change ↑(qz 0 (EZ.map rT))=_;rw[this]
 unfold wD;cases ho:Ä0 with
 | none=>rw[ho] at hl;show ym (zp (xX he hl) rfl) rfl
 | some k=>rw[ho] at hl;show ym (wy (xX he hl)) rfl
structure vk â ĵ:Prop where
 fx:Fix F (œ)
 gd:Ç9
def y7 â ĵ:ŝ:=(Ì (m+1)).map (zI F)
section
variable {Ą}{m:Nat}
def fC â ĵ:(Ţ).length=m+1:=by unfold y7;simp
def fD Ī(h:k<=m):(Ţ).getD k []=zI F k:=nR (zI F) (m+1) k [] ⋯
def vk.cw ĉ Ī(hk:k<=m) (p:Nat):Gd F.A F.B (Č):=by
 rcases Bn p (zI F k).length with h | h
 .rw[Bi,A8 h];show R.gd k hk _ (BF h)
 .rw[Bi,C7 h];show Gd.nil
theorem kr ā Ď Ī(h:Ù=↑k):k<=m/\zF (Č) q=Û:=by
 unfold wD at h;have h1:=AO.mp (Cu h);rw[fC] at h1;have h2:=Ea h;rw[fD ⋯] at h2;show#[⋯,by exists h2]
theorem XU ā Ď Ī(hk:k<=m) (h:zF (Č) q=Û):∃ j,j<=k/\Ù=↑j:=by
 unfold wD;cases ho:(Ì (Ţ).length).find? (λ k=>!zF (((Ţ).getD k []).getD p []) q) with
 | none=>
  rw[Eh] at ho;have:=ho k (AO.mpr (by rw[fC];lia));rw[fD hk,h] at this;show Ç1 rfl this
 | some j=>
  exact#[j,?_,rfl];rcases Bn k j with hj | hj
  .have:=(List.find?_range_eq_some.mp ho).2.2 k hj;rw[fD hk,h] at this;cases this
  .show hj
def IC ā Ď(h:Ù=none) Ī(hk:k<=m):zF (Č) q=true:=by
 cases hc:zF (Č) q with
 | true=>rfl
 | Û=>
  let#[j,_,hj]:=XU hk hc;rw[h] at hj;cases hj
def iB Ï Ď Ö:Ù ≠↑0:=λ h=>by
 let#[_,h2]:=kr h;have e1:(zI F 0).getD p []=wc:=by
  change (ă).getD p []=wc;unfold RN.start;rw[Bi,CP,Ü hp];rfl
 rw[e1,Wt.mpr #[hq.1.1,hq.2.1]] at h2;cases h2
def aR:ū ((Ţ).map rT) (-1)=↑(rT (œ)):=by
 unfold y7;rw[List.range_succ,Bu,Bu];show Vh
def Ts Ī(h:k<=m):ū ((Ţ).map rT) É=↑(rT (zI F k)):=wR (by
 unfold y7;rw[A3,AG,DH ⋯];rfl)
theorem jn ĉ:(∀ r∈ Ţ,r.length=Ã)/\∀ r∈ Ţ,∀ b∈r,b.length<=100:=by
 constructor
 .intro r hr;let#[k,hk,rfl]:=Aw.mp hr;show pM F k
 .intro r hr b hb;let#[k,hk,rfl]:=Aw.mp hr;have:=AO.mp hk;have h1:=(R.gd k ⋯ b hb).rC R.fx.ok.a0;have:=R.fx.ok.a1;lia
theorem GW ĉ Ï Ď Ö (ho:Î=Û):∃ o:Ñ Nat,bM [Ě,Å ĕ,zu q,vX (Ţ)]=↑(wN o)/\(Ù=none->o=none)/\∀ k,Ù=↑k->∃ (i:Nat) (w:Wy),o=↑i/\å/\ũ/\yF Ä3 q w=Û:=by
 have h1:=Â7;cases hd:Ù with
 | none=>rw[hd] at h1;show#[none,ym (zp (zM (zx rfl h1)) (wy (xq ï rfl))) rfl,λ _=>rfl,nofun]
 | some k=>
  rw[hd] at h1;let#[k1,k2]:=kr hd;have k0:k≠0:=λ h=>iB ų (by rw[hd,h]);ext Â1;have EK:j<=m:=⋯;have sd:=R.fx.ok.sd;have ha:(Ŀ).any (ė)=true:=by
   have e:(zI F (j+1)).getD p []=xc F (zI F j) p:=Â5;rw[e,eZ ý (R.cw EK) p hq] at k2;unfold pR at k2;rw[ě (by rw[ho];decide)] at k2;rw[aC (λ v=>!yF F (zI F j) q v),<- List.not_all_eq_any_not,k2];rfl
  have hc:WE [ñ,û,ö,im (vX (Ţ)),im (nT (j+1))]=↑(ę (((Ŀ).filter ė).map λ wi=>ń)):=
   lP (λ wi:Wy×Nat=>ń) (ė) (λ wi=>ń) (Ŀ) (ä (Option.bind · _) (zx rfl (gB F p hp sd))) (Br (CW _ _) (by rw[List.length_zipIdx];lia)) λ wi hw=>by
    have q1:=(mL hw).1;show#[_,rfl,r0 (uM (zx (zq rfl (zq rfl (zq rfl (zq (ze rfl (ze À (ä Æ1 (show ((j+1:Nat):Int)-1=j by lia))) (Ts EK)) rfl)))) (VD q1 (by rw[pM];show (R.fx.ok.ws wi.1 (AW q1)).2) (by have:=(R.cw EK wi.1.t).rC R.fx.ok.a0;have:=R.fx.ok.a1;lia)))),rfl]
  cases Ct:(Ŀ).filter (ė) with
  | nil=>
   rw[List.filter_eq_nil_iff] at Ct;let#[wi,a1,a2]:=A_.mp ha;show Ç1 a2 (Ct wi a1)
  | cons wi EX=>
   let#[m1,m2]:=A7.mp (show wi∈(Ŀ).filter _ by rw[Ct];show Au);let#[g1,g2]:=mL m1;rw[Ct,Az] at hc;show#[↑wi.2,ym (zp (zM (zx rfl h1)) (zp (ŀ) (x9 (ze hc rfl (by simp[wN]))))) rfl,nofun,λ k hk=>by cases hk;show#[wi.2,wi.1,rfl,g1,g2,by exists m2]]
end
abbrev Sd:=Ñ (Nat×(Æ))
def vY (o:Sd):T:=match o with
 | none=>.zj
 | some x=>Ĭ [Å (x.1:Int),zu x.2]
def yK â (r:Æ) (w:Wy):Sd:=(tI F r w).map λ x=>(w.t,x)
def hF â ĵ À1 é:Ã6:=[("floor",Ě),("told",vX (Ţ)),("stand",vY st),("done",Å ħ)]
theorem GS (A B:Int) È5 (h:(0<=q.1/\q.1<=A)/\0<=q.2/\q.2<=B):gO [zu q,Á0]=↑(Ô):=by
 have hc:iP [↑(.im (zu q)),↑(.im (Á0))]=↑(ę ([(q.1,A),(q.2,B)].map λ x:Æ=>T.bl true)):=by
  unfold iP;exact pK (λ x:Æ=>T.tup [Å x.1,Ĭ [Å 0,Å x.2]]) _ [(q.1,A),(q.2,B)] (by simp[zu]) #[] λ x hx=>?_;have hx':0<=x.1/\x.1<=x.2:=by
   simp![Am,List.mem_nil_iff,or_false] at hx;rcases hx with rfl | rfl
   .show h.1
   .show h.2
  simp[V6,hx']
 unfold gO Uq;have it:tP "tuple" "tuple"=true:=()
 generalize iP=cc at *;simp[zu] at hc;simp[zu,it,ľ,hc,qF]
def VL â È5 (h:(0<=q.1/\q.1<=F.A)/\0<=q.2/\q.2<=F.B):gS [Ě,zu q]=↑.zj:=
 eM (y6 (r0 (uM (zx (zq rfl (zq (xR (zq Â6 (zq Â6 rfl)) Â) rfl)) (GS F.A F.B q h)))) rfl) rfl
def gY Ą ì Ï {q r:Æ}Ö {k i:Nat}ą (hf:ũ):
  gX [Ě,Å ĕ,zu q,Ĭ [Å É,Å (i:Int)]]=↑(vY á):=by
 have h1:b_ [Ě,nT i]=↑(Ô):=ym (x9 (zx (zq rfl (zq rfl (zq (ze (zx (zq Ä rfl) (dv yv F.ws)) À) rfl))) (VN (AQ.mp hw).1))) rfl;have h2:Ė=↑(yv w):=Ĥ;have h4:=ľ (w.f:Int) ĕ true;rw[hf,za3 rfl] at h4;have h3:ae [Ě,nT p,nT i]=↑.zj:=eM (y6 (ny (r0 (uM (zx rfl h1))) (zE (ze (ze (ze Ä rfl h2) À) rfl (by rw[hf];show h4)))) rfl) rfl;have h5:=VM ok ų hk;rw[hr] at h5;have h6:gP [nT k]=↑(Ô):=by
  have:oG [Å É]=↑(Ô):=by simp[oG,ao,tP]
  simp[gP,Ur,this]
 have h7:bR [Ě,nT p,zu q,nT k]=↑(zu r):=ym (zp (y6 (r0 (uM (zx rfl h6))) rfl) (zp (zM (zx rfl h5)) (zp (ŀ) rfl))) rfl;have h8:=V9 F r hw;have pre:∀ o,_->Uv [ñ,û,ö,im (Ĭ ē),none,none,none,none]=o:=λ o h=>zp (zM Ä) (zp (zM Ä) (zp (nY (zx rfl h3)) (zp (zM (zx rfl h7)) (zp (zM (zx rfl h8)) h))));unfold yK;cases hs:tI F r w with
 | none=>rw[hs] at pre;show ym (pre _ (wy (xq ï rfl))) rfl
 | some x=>rw[hs] at pre;show ym (pre _ (zp (ŀ) (x9 (xR (zq (ze (ze Ä rfl h2) À) rfl) Â)))) rfl
def tT â (l:ë) (p:Nat):Nat->List (Æ)->Ñ (Nat×Nat)
 | _,[]=>none
 | k,r::cs=>match Ø with
  | some wi=>↑(k,wi.2)
  | none=>tT F l p (k+1) cs
def dT (o:Ñ (Nat×Nat)):T:=match o with
 | none=>.zj
 | some x=>Ĭ [Å (x.1:Int),Å (x.2:Int)]
theorem Wa Ą{l:ë}ā:∀ {cs:List (Æ)}Ī{x:Nat×Nat},tT F l p k cs=↑x->k<=x.1/\∃ r w,cs[x.1-k]?=↑r/\F.ws[x.2]?=↑w/\ũ/\yF F l r w=true
 | [],k,x,h=>by cases h
 | r::cs,k,x,h=>by
  unfold tT at h;cases ho:Ø with
  | some wi=>
   rw[ho] at h;cases h;let#[h1,h2]:=mL (Cu ho);show#[An _,r,wi.1,#[],h1,h2,by exists Ea ho]
  | none=>
   rw[ho] at h;let#[h1,r',w,h2,h3]:=Wa h;exact#[⋯,r',w,?_,h3];rw[show x.1-k=(x.1-(k+1))+1 by lia,C0];show h2
theorem Wb Ą{l:ë}ā:∀ {cs:List (Æ)}Ī,(cs.any λ r=>(qV F p).any (yF F l r))=true->∃ x,tT F l p k cs=↑x
 | [],k,h=>by cases h
 | r::cs,k,h=>by
  unfold tT;cases ho:Ø with
  | some wi=>show#[_,rfl]
  | none=>
   exact Wb ?_;rw[BB,<- aC,DB] at h;rcases h with h | h
   .rw[Eh] at ho;let#[wi,h1,h2]:=A_.mp h;show Ç1 h2 (ho wi h1)
   .show h
abbrev pX â (l:ë) ĝ ů (r:T):Ev:=[ñ,û,ö,im (rT l),im (ę ((Ŀ).map λ wi=>ń)),ß,im r,none]
section
variable {Ą}{ì}{l:ë}(hl:Ÿ=Ã)(hb:∀ b∈l,b.length<=10000) {ā}{Ď}
include ok hl hb
theorem IT {r:Æ}Ī:xy [7] (zy 7) bq ((Ŀ).map λ wi=>ń) (Ć)=↑(match Ø with | some wi=>.rt (Ĭ [nT k,nT wi.2]) | none=>.nx (Ć)):=
 (lM (is:=[7]) (g:=zy 7) (b:=bq) (λ wi:Wy×Nat=>ń) (λ wi=>Ĭ [nT k,nT wi.2]) (λ wi=>yF F l r wi.1) (Ć) (Ŀ) (Ć) rfl λ wi hw=>by
  let#[h1,h2]:=mL hw;have ht:wi.1.t<Ÿ:=by rw[hl];show (ok.ws wi.1 (AW h1)).2
  have h3:=VD (F:=F) (q:=r) h1 ht (hb _ (getD_mem ht));cases hc:yF F l r wi.1 with
  | true=>rw[hc] at h3;show#[Ć,rfl,qb rfl (xq (uM (zx rfl h3)) (x9 ŭ))]
  | Û=>rw[hc] at h3;show#[(Ć).set 7 (im (nT wi.2)),rfl,qb rfl (y6 (uM (zx rfl h3)) rfl)]).trans (by cases Ø <;> rfl)
theorem X_ (hp:p<Ã) Ö:∀ (cs:List (Æ)) (k m:Nat),(æ).drop k=cs->k+cs.length<=21->cs.length<m->
  ∃ J',vx [7] (zO (zb (yX true) (zc 6) (cS .zj))) WZ m (pX F l p q k (sX (æ)[k]?))=↑(match tT F l p k cs with | some x=>.rt (dT ↑x) | none=>.nx J')
 | [],k,m+1,h,_,_=>by
  have:=ä ň h;simp at this;rw[C7 ⋯];show#[_,jU ï]
 | r::cs,k,m+1,h,hk,hm=>by
  have hr:Ņ:=by
   have:=ä (λ x=>x[0]?) h;exists this
  have hd:(æ).drop (k+1)=cs:=by
   have:=ä List.tail h;rw[List.tail_drop] at this;exists this
  rw[A1] at hk hm;have hf:=IT ok hl hb (p:=p) (q:=q) (k:=k) (r:=r);rw[hr];unfold tT;cases ho:Ø with
  | some wi=>rw[ho] at hf;show#[[],LA ï (wy (xX rfl hf))]
  | none=>
   rw[ho] at hf;let#[J',e]:=X_ ų cs (k+1) m hd ⋯ ⋯;show#[J',jT ï (zp (xX rfl hf) (zp (zM Ä) (zM (zx rfl (VM ok ų (k:=k+1) ⋯))))) e]
theorem Fi (hp:p<Ã) Ö:aa [Ě,Å ĕ,zu q,rT l]=↑(dT (tT F l p 0 (æ))):=by
 have hl21:=W2 F p q;let#[J',hw]:=X_ ok hl hb ų (æ) 0 1000000 rfl ⋯ ⋯;rw[oa] at hw;have pre:∀ o,_->Uu [ñ,û,ö,im (rT l),none,none,none,none]=o:=λ o h=>zp (zM (zx rfl (gB F p hp ok.sd))) (zp (zM rfl) (zp (zM rfl) h));cases hd:tT F l p 0 (æ) with
 | some x=>rw[hd] at hw;show ym (pre _ (wy hw)) rfl
 | none=>rw[hd] at hw;show ym (pre _ (zp hw rfl)) rfl
end
section
variable {Ą}{m:Nat}{c:Str}
abbrev hW Ă (c:Str) â ĵ À1 é:W:=İ (à ↑a c (hF ŧ))
abbrev uW (v:T) Ă (c:Str) â ĵ À1 é:T:=yA v [(a,à none c (hF ŧ))]
def Hd (c:Str):Prop:=c∈(þ:Æ7)
def yJ:Hd "Keeper":=Au
def yh:Hd "Taker":=Ay _ Au
def sA:("Keeper":Str)∈(["Keeper"]:Æ7):=AI.mpr rfl
def sy:("Taker":Str)∈(["Taker"]:Æ7):=AI.mpr rfl
abbrev ql:T:=.err "NoMore" "" .zj
def gQ (hc:Hd c) (hr:î) Ï Ď Ö Ă:
  oJ [İ (à ↑a c []),.im (Ě),.im (nT p),.im (zu q)]=↑(uW .zj a c Ò 0):=
 mY (L:=[(a,à ↑a c (hF Ò 0))]) (zp (nY (zx rfl (gT F p hp))) (zp (nY (zx rfl (VL F q hq))) (zp (nr À2 Â À) (zp (nr À2 Â (zx rfl hr) rfl) (zp (nr À2 Â ŭ rfl) (nr À2 Â À)))))) À
def wL ð:xr cs i "stand" J=↑(vY st):=tR h0 hc rfl
def kc ð:xr cs i "floor" J=↑(Ě):=tR h0 hc rfl
def gD (hc:Hd c) ā Ď È3{s:T}(hp:p<Ã) (hs:kt (Î)=s) Ă:oI [hW a c Ò n,.im s]=↑(uW .zj a c Ò n):=by
 have h2:=l7 (F:=F) hp;have h3:zT true (kt (Î)) s=↑ Æ6:=by rw[<- hs];cases Î <;> simp[kt,zT,dep,eqT]
 show mY (L:=[(a,à ↑a c (hF Ò n))]) (y6 (ny (zE Ģ) (zE (ze (ze (ze (kc À2) rfl (nV F)) (ze (wL À2) rfl (r:=↑(nT p)) rfl) h2) rfl h3))) rfl) À
def OI {f g:Ev->Ñ Bool}Å8(h:f J=↑true):tq f g J=↑true:=Â2
def gC (hc:Hd c) é (s:T) Ă:oI [hW a c è,.im s]=↑(uW ql a c è):=
 tJ (xq (OI (zE Ģ)) rfl) rfl
def gE (hc:Hd c) ā Ď{n k i:Nat}{st:Sd}(h:gX [Ě,nT p,zu q,Ĭ ē]=↑(vY st)) Ă:
  mG [hW a c Ò n,.im ű,.im È0]=↑(uW .zj a c Ú st (n+1)):=
 mY (L:=[(a,à ↑a c (hF Ú st (n+1)))]) (zp (nr (fs:=hF Ò n) (E7:=hF ŧ) À2 Â (zx (zq (kc À2) (zq Ģ (zq Ģ (zq ŭ rfl)))) h) rfl) (nr (fs:=hF ŧ) (E7:=hF Ú st (n+1)) À2 Â (ze (tR À2 rfl) À) rfl)) À
end
end zN
namespace L5
open PySem L2 L3
section
variable {cs:Æ7}{m:Str}{j:Nat}{is:ŷ}{F:List W->Ñ T}{g:Ev->Ñ (ļ)}{Å8}{t:Ñ Addr}{c c':Str}{fs E7:Ã6}{xs:ļ}{v:T}
def jQ Ç:pD cs m j F g J=↑(v,ć):=by
 unfold pD;rw[h0];dsimp only;rw[Ü #[hc,hl],hg];change ((v7 F J (.inl j::ŏ .inr)).map _)=_;rw[iX h0 h];have:vo J j=t:=by unfold vo;rw[h0];rfl
 change ↑(v,xQ [j] [Ų] J)=_;rw[xQ,this];rfl
def jI ã (hg:g J=↑xs)
  (h:∀ a,F (Ä8::ŏ .im)=↑(yA .zj [(a,Ų)])):r9 is cs m j F g J=↑(.nx (ć)):=by
 unfold r9;rw[Æ2];rfl
def jJ ť Ç (he:xK v=true) (hL:wC is (ć)=↑L):r9 is cs m j F g J=↑(.rt (yA v L)):=by
 unfold r9;rw[Æ2,Ba];dsimp only;rw[Ü he,hL];rfl
def jH Ç (he:xK v=true):pB cs m j F g J=↑(↑v,ć):=by
 unfold pB;rw[Æ2,Option.map_some];dsimp only;rw[Ü he]
theorem jG {ws:List W}ť(h:F ws=↑(yA v L)) (he:xK v=Û):vH F ws=↑(yA v L):=by
 unfold vH;rw[h];change (if xK v=true then none else _)=_;rw[ě (by rw[he];decide)]
theorem Zw {f:Ad}{y:T}ť(h:f J=↑y) (he:xK y=Û) (hL:wC is J=↑L):ll is f J=↑(.rt (yA y L)):=by
 unfold ll;rw[h,Ba,ě (by rw[he];decide),hL];rfl
end
end L5
namespace zN
open PySem L2 L3 L5 RN
section
variable {Ą}{m:Nat}
def VJ ì Ï Á4 Ö {k i n:Nat}ą (hf:ũ) Ă:
  vH mD [hW Ł Ò n,.im ű,.im È0]=↑(uW .zj Ł Ú á (n+1)):=
 jG (mY (L:=[(a,à ↑a "Taker" ġ)]) (zp (jI (xs:=[Đ]) ő) (pE (xs:=ē) rfl yh À (gE Ĳ yh (gY ok ų hk hr hw hf)))) À) rfl
def V7 ì Ï (ho:Î=Û) Ď Ö {i n:Nat}Å9(hw:å) (hf:ũ) Ă:
  vH mE [hW Ē Ò n,.im È0]=↑(uW .zj Ē Ú Œ):=
 jG (mY (L:=[(a,à ŕ (hF Ú Œ))]) (zp (jI (xs:=[ž]) ř) (pE (xs:=[nT 0,nT i]) rfl yJ À (gE Ĳ (k:=0) yJ (gY ok ų () (oa F p q) hw hf)))) À) rfl
def GH é Ă:mF [hW Ē è]=↑(uW ql Ē è):=
 tJ (wy (jJ (xs:=[Đ]) Â0)) rfl
def GF é (y:T) Ă:mE [hW Ē è,.im y]=↑(uW ql Ē è):=
 tJ (wy (jJ (xs:=[ž]) Â0)) rfl
def GG é Ă:mC [hW Ł è]=↑(uW ql Ł è):=
 tJ (wy (jJ (xs:=[ž]) Ķ)) rfl
def GI é (y z:T) Ă:mD [hW Ł è,.im y,.im z]=↑(uW ql Ł è):=
 tJ (wy (jJ (xs:=[Đ]) Ķ)) rfl
def dA â ĵ:Sd->Ñ Nat
 | none=>↑0
 | some x=>wD (Ţ) x.1 x.2
def UN ā(h:∃ w∈F.ws,ũ):∃ wi r,Ŀ=wi::r:=by
 cases q:Ŀ with
 | cons wi r=>show#[wi,r,rfl]
 | nil=>
  let#[w,hw,hf]:=h;let#[i,hi]:=Co.mp hw;have:(w,i)∈ Ŀ:=A7.mpr #[Eb.mpr hi,za3 hf];rw[q] at this;cases this
def X9 ì Å0 Ï È5:∃ (i:Nat) (w:Wy),å/\ũ/\
  ∀ (c:Str) é (a:Ñ Addr) (j:Nat) (J:Ev),Hd c->J[j]?=↑↑(İ (à a c (hF Ò n)))->xv Ŵ j J=↑ È0:=by
 let#[wi,rr,hwn]:=UN (gw p hp);let#[hw1,hw2]:=mL (F:=F) (p:=p) (wi:=wi) (by rw[hwn];show Au);have w1:=gB F p hp ok.sd;rw[show (Á6)=Ŀ from rfl,hwn,Az] at w1;show#[wi.2,wi.1,hw1,hw2,λ c n a j J hc h0=>vG h0 hc rfl (ze (zx (zq (kc À2) (zq Ģ rfl)) w1) rfl v8)]
def VF ĉ Å0 Ï (ho:Î=Û) Ď Ö:
  ∃ (i:Nat) (w:Wy),å/\ũ/\(Ĝ)/\∀ é Ă,vH mC [hW Ł Ò n]=↑(uW È0 Ł Ú Œ):=by
 let#[o,h1,h2,h3]:=GW R ų ho;ext Ŷ;have key:∃ (i:Nat) (w:Wy),å/\ũ/\(Ĝ)/\∀ é Ă,
   yf Ã7 (zG 1 (xv Ŵ 0)) yg [↑(hW Ł Ò n),im (wN o)]=↑(.nx [↑(hW Ł Ò n),im È0]):=by
  cases ho':o with
  | none=>
   exact#[i0,w0,hw1,hw2,λ k hk=>?_,λ n a=>xq ï (zM (EO _ n ↑a 0 _ yh rfl))];let#[i,w,e,_]:=h3 k hk;rw[ho'] at e;cases e
  | some i=>
   cases hd:Ù with
   | none=>rw[h2 hd] at ho';cases ho'
   | some k=>
    let#[i',w,e,g1,g2,g3]:=h3 k hd;rw[ho'] at e;cases e;show#[i,w,g1,g2,λ k' hk'=>by cases hk';show g3,λ n a=>ŀ]
 let#[i,w,k1,k2,k3,k4]:=key;show#[i,w,k1,k2,k3,λ n a=>jG (tJ (zp (jI (xs:=[ž]) ő) (zp (zM (zx (zq (kc rfl sy) (zq (ze (wL rfl sy) À) (zq (ze (wL rfl sy) À) (zq (tR rfl sy rfl) rfl)))) h1)) (zp (k4 n a) (zp (pE (xs:=[nT 0,nT i]) rfl yh À (gE Ĳ (k:=0) yh (gY ý ų () (oa F p q) k1 k2))) (Zw (L:=[(a,à ↑a "Taker" (hF Ú Œ))]) À rfl))))) rfl) rfl]
def VI ĉ Å0 Ï (ho:Î=true) Ď Ö:
  ∃ (k i:Nat) (r:Æ) (w:Wy),(k<=100/\Ņ/\å/\ũ)/\(ò)/\∀ é Ă,vH mF [hW Ē Ò n]=↑(uW (Ĭ ē) Ē Ú á (n+1)):=by
 have h1:=Fi ý (l:=œ) (pM Ú) R.fx.sz ų;ext Ŷ;have key:∃ (k i:Nat) (r:Æ) (w:Wy),(k<=100/\Ņ/\å/\ũ)/\(ò)/\∀ é Ă,
   yf Ã7 (zG 1 (tupS (za (cI 0) (za (xv Ŵ 0) zg)))) yg [↑(hW Ē Ò n),im (dT (tT F (œ) p 0 (æ)))]=↑(.nx [↑(hW Ē Ò n),im (Ĭ ē)]):=by
  cases hd:tT F (œ) p 0 (æ) with
  | none=>
   exact#[0,i0,q,w0,#[(),oa F p q,hw1,hw2],λ hc=>?_,λ n a=>xq ï (zM (xR (zq rfl (zq (EO _ n ↑a 0 _ yJ rfl) rfl)) Â))];ext Å1;rw[Ü ho] at hc;let#[x,hx]:=Wb (k:=0) hc;rw[hd] at hx;cases hx
  | some x=>
   let#[_,r,w,g1,g2,g3,g4]:=Wa hd;rw[Nat.sub_zero] at g1;have hl:=(AQ.mp g1).1;have:=W2 F p q;show#[x.1,x.2,r,w,#[⋯,g1,g2,g3],λ _=>g4,λ n a=>ŀ]
 let#[k,i,r,w,ŋ,k4,k5]:=key;show#[k,i,r,w,ŋ,k4,λ n a=>jG (tJ (zp (jI (xs:=[Đ]) ř) (zp (zM (zx (zq (kc rfl sA) (zq (ze (wL rfl sA) À) (zq (ze (wL rfl sA) À) (zq (ze (tR rfl sA rfl) rfl aR) rfl)))) h1)) (zp (k5 n a) (zp (pE (xs:=ē) ô ĥ (gE Ĳ yJ (gY ý ų k0 k1 k2 k3))) (Zw (L:=[(a,à ŕ ġ)]) À rfl))))) rfl) rfl]
def fP ā{s:Sl}(h:F.E6 p=↑s):s∈F.ss/\s.p=p:=#[Cu h,by have:=Ea h;exists this]
def iM â ĝ ů:Bool:=match F.E6 p with
 | some s=>ī (Ś<=õ)
 | none=>ī (k=0)
def WK ì (pu:Bool):F.zA pu<=12:=by
 ext Ű
theorem Hw ì ā Ď Ö ů:iM Ħ=((æ)[k]?).isSome:=by
 unfold iM yP;cases h:F.E6 p with
 | none=>
  dsimp only;cases k with
  | zero=>rfl
  | succ k=>rfl
 | some s=>
  have hs:=ok.ss s (fP h).1;have hg:=ĩ hq;have:=WK ok s.pu;dsimp only;rw[iL hs 20 hq ⋯ k];by_cases c:Ś<=õ
  .rw[Ü c,za3 c];rfl
  .rw[ě c,za2 c];rfl
abbrev kH â ĝ ů (a b c d:Ñ W):Ev:=[ñ,û,ö,ß,a,b,c,d]
theorem G_ ā Ď Ī Â8:bX [Ě,nT p,zu q,nT k]=↑(.bl (iM Ħ)):=by
 have hl:=lM (is:=[4,5,6,7]) (g:=w6 4 (yj (zy 4) (yj (zy 5) (yj (zy 6) (yj (zy 7) vd))))) (b:=bo) yO (λ s=>.bl (ī (Ś<=õ))) (λ s:Sl=>ī (s.p=p)) (kH Ħ Á Á) F.ss (kH Ħ Á Á) rfl λ s hs=>#[kH Ħ Ë,rfl,by
  have hq:=ľ Ã8 ĕ Û;have hm:xx ű (Å s.gv)=↑(Å (k*s.gv)):=pC (.inl Ŗ);change bo (kH Ħ Ë)=_;by_cases h:s.p=p
  .rw[za3 (show Ã8=p by rw[h])] at hq;rw[Ü (za3 h)];show xq Ő (x9 (ze (ze À hm) (ze À (eD q s.pu)) rfl))
  .rw[za2 (show ¬ Ã8=p by lia)] at hq;rw[ě (Ç2)];show y6 Ő rfl]
 have Av:ltI ű (Å 0)=↑ Æ6:=ä (λ b=>↑(T.bl b)) (za2 ⋯);have pre:∀ o,_->Ul (kH Ħ Á Á)=o:=λ o h=>zp (y6 (ny rfl (ny rfl (zE (ze À Av)))) rfl) h;have fr:=xX (f:=xJ (zb zi (zc 0) (cI 3))) ņ hl;unfold iM zr.E6;generalize F.ss.find? _=o at *;cases o with
 | none=>show ym (pre _ (zp fr (x9 (ze À ((ľ _ _ _).trans (ä (λ b=>↑(T.bl b)) (decide_eq_decide.mpr ⋯))))))) rfl
 | some s=>show ym (pre _ (wy fr)) rfl
abbrev qG â ĝ (k i:Nat) (x:Æ) (a b c d:Ñ W):Ev:=[ñ,û,ö,ß,im È0,↑(İ (ę [Å x.1,Å x.2])),a,b,c,d]
theorem Gq ā{q x:Æ}{k i:Nat}Â8 (s:Sl):∃ J',turn (ō) hJ (yO s) (qG Ħ i x Á Á)=↑ Ŋ/\yt [6,7,8,9] J'=qG Ħ i (if s.p=p/\0<k then š else x) Á Á:=by
 have hq:=ľ Ã8 ĕ Û;change ∃ J',hJ (qG Ħ i x Ë)=↑ Ŋ/\_;by_cases h:s.p=p
 .rw[show ī (Ã8=ĕ)=true from za3 (by rw[h])] at hq;have gt:lZ ű (Å 0)=↑(.bl (ī (0<É))):=rfl;by_cases hk0:0<k
  .rw[za3 ⋯] at gt;have m:∀ j,xx ű (Å j)=↑(Å (É*j)):=λ j=>pC (.inl Ŗ);obtain⟨j,j',y,a1,a2,a3,a4,a5,a6,a7⟩:∃ (j j':Nat) (y:Æ),vy 2 (Ä6)=↑j/\vy 2 (1-Ä6)=↑j'/\([Ó x.1,Ó x.2].set j (Å (õ-Ś)))=[Ó y.1,Ó y.2]/\[Ó y.1,Ó y.2].set j' (Å (min (Ş+É*s.gt) (Ġ)))=[Ó (š).1,Ó (š).2]/\ū [Ó q.1,Ó q.2] (Ä6)=↑(Å (õ))/\ū [Ó q.1,Ó q.2] (1-Ä6)=↑(Å (Ş))/\ū [Ó F.A,Ó F.B] (1-Ä6)=↑(Å (Ġ)):=by
    unfold tW;cases s.pu
    .show#[0,1,(q.1-Ś,x.2),rfl,rfl,rfl,rfl,rfl,rfl,rfl]
    .show#[1,0,(x.1,q.2-Ś),rfl,rfl,rfl,rfl,rfl,rfl,rfl]
   rw[Ü #[h,hk0]];have e1:=dn (n:=5) (f:=zc 7) (v:=zb x8 (zb zi (zc 2) (zc 7)) (zb xx (zc 3) (zc 8))) (J:=qG Ħ i x Ë) (ze (ze À a5) (ze À (m s.gv)) rfl) À a1;rw[a3] at e1;have sb:∀ y,zb x8 (cI 1) (zc 7) (qG Ħ i y Ë)=↑(Å (1-Ä6)):=λ y=>ze À rfl;have e2:=dn (n:=5) (z:=Å (min (Ş+É*s.gt) (Ġ))) (v:=zv wB (za (zb zi (zb zi (zc 0) (cI 0)) (zb x8 (cI 1) (zc 7))) (za (zb y8 (zb zi (zc 2) (zb x8 (cI 1) (zc 7))) (zb xx (zc 3) (zc 9))) zg))) (zx (zq (ze (ze À (pT F)) (sb y) a7) (zq (ze (ze rfl (sb y) a6) (ze À (m s.gt)) rfl) rfl)) (by
    change ↑(Ó (if Ş+É*s.gt<Ġ then Ş+É*s.gt else Ġ))=_;rw[mi,Int.min_comm])) (sb y) rfl a2
   rw[a4] at e2;show#[_,xq (om Ő (zE (ze À gt))) (zp e1 e2),rfl]
  .rw[za2 ⋯] at gt;rw[ě (λ z=>hk0 z.2)];show#[_,y6 (om Ő (zE (ze À gt))) rfl,rfl]
 .rw[show ī (Ã8=ĕ)=Û from za2 ⋯] at hq;rw[ě (λ z=>h z.1)];show#[_,y6 (hV Ő) rfl,rfl]
theorem aY:∀ {ss:List Sl},ss.Pairwise Ã5->∀ {s s':Sl},s∈ss->s'∈ss->s.p=s'.p->s=s'
 | [],_,_,_,h,_,_=>by cases h
 | a::l,hp,s,s',h,h',e=>by
  let#[h1,h2]:=BC.mp hp;rcases Am.mp h with r1 | r1
  .rcases Am.mp h' with r2 | r2
   .rw[r1,r2]
   .show Ç1 (r1▸e) (h1 s' r2)
  .rcases Am.mp h' with r2 | r2
   .show Ç1 (r2▸e.symm) (h1 s r1)
   .show aY h2 r1 r2 e
theorem Hn ì (pw:Õ) ā{q r:Æ}Ö Ī(hr:Ņ):(k=0->r=q)/\(0<k->∃ s∈F.ss,s.p=p/\r=š):=by
 exact#[λ e=>?_,λ e=>?_]
 .subst e;rw[oa] at hr;cases hr;rfl
 .unfold yP at hr;cases h:F.E6 p with
  | none=>
   rw[h] at hr;obtain⟨k,rfl⟩:∃ j,k=j+1:=#[k-1,⋯];cases hr
  | some s=>
   rw[h] at hr;let#[h1,h2]:=fP h;have hs:=ok.ss s h1;have hg:=ĩ hq;have:=WK ok s.pu;dsimp only at hr;rw[iL hs 20 hq ⋯ k] at hr;split at hr
   .cases hr;show#[s,h1,h2,rfl]
   .cases hr
def Fb ì (pw:Õ) ā{q r:Æ}Ö {k i:Nat}ą:
  gL [Ě,Å ĕ,zu q,Å É,Å (i:Int)]=↑(vY á):=by
 let#[c1,c2]:=Hn ok pw hq hr;let#[J',g1,x,g2,g3]:=uT (is:=[6,7,8,9]) (g:=ō) (b:=hJ) yO
  (λ pre J=>∃ x,J=qG Ħ i x Á Á/\((x=q/\∀ s∈pre,¬ (s.p=p/\0<k))\/∃ s∈pre,s.p=p/\0<k/\x=š)) F.ss (qG Ħ i q Á Á) #[q,rfl,.inl #[rfl,nofun]] (by
   rintro pre s post e J ⟨x,rfl,hx⟩;let#[J',h1,h2]:=Gq (F:=F) (p:=p) (q:=q) (x:=x) (i:=i) hk s;exact#[J',h1,_,h2,?_];by_cases c:s.p=p/\0<k
   .rw[Ü c];show .inr #[s,#[],c.1,c.2,rfl]
   .rw[ě c];rcases hx with ⟨e1,e2⟩ | ⟨s',e1,e2⟩
    .exact .inl #[e1,λ y hy=>?_];rcases A5.mp hy with hy | hy
     .show e2 y hy
     .cases AI.mp hy;show c
    .show .inr #[s',B4 _ e1,e2])
 have hx:x=r:=by
  rcases DJ k with k0 | k0
  .rcases g3 with ⟨e,_⟩ | ⟨_,_,_,z,_⟩
   .rw[e,c1 k0]
   .lia
  .let#[s,a1,a2,a3]:=c2 k0;rcases g3 with ⟨_,e⟩ | ⟨s',b1,b2,_,b3⟩
   .show Ç1 #[a2,k0] (e s a1)
   .rw[b3,a3,aY pw b1 a1 (by rw[b2,a2])]
 subst hx g2;have f0:=pT F;have f2:=c8 F;have h2:Ė=↑(yv w):=Ĥ;have lt:ltI (Å À8) (Å 0)=↑(.bl (ī (À8<0))):=rfl;have pre:∀ o,_->Um [ñ,û,ö,ß,im È0,none,none,none,none,none]=o:=λ o h=>
  zp (J':=qG Ħ i q Á Á) rfl (zp (xX (ts:=F.ss.map yO) ņ g1) (zp (J':=[ñ,û,ö,ß,im È0,im (zu (x.1+w.a,x.2+w.b)),none,none,none,none]) (by
   change (tupS _ _).bind _=_;rw[xR (zq (ze ţ (ze ŵ Gv) rfl) (zq (ze ſ (ze ŵ Gu) rfl) rfl)) Â];rfl) h))
 unfold yK tI;by_cases c:x.1+w.a<0\/x.2+w.b<0
 .rw[za3 (ď)] at lt;rw[Ü c];show ym (pre _ (wy (xq (zE (ze (zx À) rfl lt)) rfl))) rfl
 .rw[za2 (ď)] at lt;rw[ě c];have mn:∀ a b:Int,wB [Å a,Å b]=↑(Å (min a b)):=λ a b=>by
   change ↑(Ó (if b<a then b else a))=_;rw[mi]
  show ym (pre _ (zp (y6 (zE (ze (zx À) rfl lt)) rfl) (x9 (xR (zq (ze ŵ t7) (zq (xR (zq (zx (zq ţ (zq (ze Ä4 v8) rfl)) (mn _ _)) (zq (zx (zq ſ (zq (ze Ä4 t7) rfl)) (mn _ _)) rfl)) Â) rfl)) Â)))) rfl
def lV {x y:Int}(h1:0<=x) (h2:x<=F.A) (h3:0<=y) (h4:y<=F.B):yp F (x,y):=#[#[h1,h2],h3,h4]
def GZ ì {l:ë}(hl:Ÿ=Ã) (hg:∀ b∈l,ĳ) (c:Int):
  ∃ (p:Nat) (q:Æ),bV [Ě,rT l,Å c]=↑(vY ↑ Ę)/\p<Ã/\yp F q:=by
 let#[p,pl,hp]:=lE c ok.n1;let#[x,hx,mx]:=jL (c/10) ok.a0;let#[y,hy,my]:=jL (c/1000) ok.b0;have gb:=hg (Ç8) (by rw[Bi,A8 ⋯];show BF _);have f0:=pT F;have ir:=nG l p ⋯;have ne:=Yv (Ç8) [];generalize Ç8=b at *;have d:∀ j:Int,0<j/\j<1073741824->xf Ŏ (Å j)=↑(Å (c/j)):=λ j h=>v5 h;have pre:∀ o,_->ĭ=o:=λ o h=>
  zp (zM (ze rfl (zx (zq (ze À (nV F)) rfl) (dv _ _)) hp)) (zp (zM (xR (zq (ze (ze À (d 10 ())) (ze (ze Ä4 v8) À) mx) (zq (ze (ze À (d 1000 ())) (ze (ze Ä4 t7) À) my) rfl)) Â)) (zp (zM (ze À ir)) h))
 suffices h:∃ q,ĭ=↑(.rt (vY ↑ Ę))/\yp F q by
  let#[q,h1,h2]:=h;show#[p,q,ym h1 rfl,pl,h2]
 have t2:=ze (f:=lZ) (fb:=cS (Å 0)) (ze (fa:=zb xf (zc 2) (cI 100000)) (J:=[ñ,im (rT l),im Ŏ,û,im (zu (x,y)),im (bT b),none,none]) (f:=yz) (fb:=cS (Å 4)) (ze À (d 100000 ())) Å2) rfl (r:=↑(.bl (ī (0<c/100000%4)))) rfl;by_cases hb0:b=[]
 .rw[za2 (by simp[hb0])] at ne;show#[(x,y),pre _ (zp (y6 (hV (zE (ze À ne))) rfl) rfl),lV hx.1 hx.2 hy.1 hy.2]
 rw[za3 hb0] at ne;by_cases hc3:0<c/100000%4
 .rw[za3 hc3] at t2;let#[j,jl,hj]:=lE (c/10 ^ 6) (List.length_pos_iff.mpr hb0);have bi:ū (b.map zu) (j:Int)=↑(zu b[j]):=wR (by rw[AG,A8 jl];rfl);have gi:=gb.xV b[j] (BF jl);generalize b[j]=r at *;have fv:∀ k:Nat,k<=1000->(0:Int)<10 ^ k/\(10:Int) ^ k<1073741824->∀ J:Ev,Æ3->zb xf (zc 2) (zb ĺ (cS ű)) J=↑(Å (c/10 ^ k)):=λ k hk hd J h=>ze (show zc 2 J=↑ Ŏ by unfold zc;rw[h]) (ze À (eE k hk)) (d _ hd);obtain⟨e8,h8,k8⟩:∃ e,(0<=e/\e<=1)/\∀ J:Ev,Æ3->zb yz (zb xf (zc 2) (zb ĺ (cI 8))) (cI 2) J=↑(Å e):=#[c/10 ^ 8%2,⋯,fun J h=>ze (fv 8 () () J h) Å2];obtain⟨e9,h9,k9⟩:∃ e,(0<=e/\e<=1)/\∀ J:Ev,Æ3->zb xf (zb yz (zb xf (zc 2) (zb ĺ (cI 9))) (cI 3)) (cI 2) J=↑(Å e):=#[c/10 ^ 9%3/2,⋯,fun J h=>ze (ze (fv 9 () () J h) Å2) rfl (v5 ())];exact#[(if 0<r.1-e8 then r.1-e8 else 0,if 0<r.2-e9 then r.2-e9 else 0),pre _ (zp (xq Æ8 (zp (fE (ze rfl (ze (ze rfl (ze À (eE 6 ())) (d _ ())) (zx rfl (dv _ _)) hj) bi) rfl) (zM (xR (zq (zx (zq rfl (zq (ze rfl (k8 _ rfl) rfl) rfl)) rfl) (zq (zx (zq rfl (zq (ze rfl (k9 _ rfl) rfl) rfl)) rfl) rfl)) Â)))) rfl),?_];show lV (ď) (ď) (ď) (ď)
 .rw[za2 hc3] at t2;show#[(x,y),pre _ (zp (y6 Æ8 rfl) rfl),lV hx.1 hx.2 hy.1 hy.2]
end
theorem SW Ą ì Å0 (pw:Õ):∃ m,m<=2000/\î/\vk Ú:=by
 let#[more,hr,hn,hmo,hR]:=GU ok;have n1:=ok.n1;have AA:Ì Ã ≠[]:=λ h=>by
  have h2:=ä ň h;rw[Cs] at h2;rw[h2] at n1;show Ç1 n1 ()
 let#[m,e,AD]:=Zq ok gw 2000 [] 0 (Ì Ã) _ (St.start ok) AA rfl hR;have ht:ă::more=Ţ:=e;have el:=ä ň ht;rw[fC] at el;rw[ht] at hr hn;have hgk:Ç9:=λ k hk=>(hn (zI F k) (Aw.mpr #[k,AO.mpr ⋯,rfl])).2;show#[m,by simp at el;lia,hr,JU ok pw (hgk m (An _)) AD,hgk]
section
variable {Ą}{m:Nat}
def sP â À1:Prop:=∀ x,st=↑x->x.1<Ã/\yp F x.2
def W3 ì ā{q r:Æ}Ö (h:r∈ æ):yp F r:=by
 unfold yP at h;cases e:F.E6 p with
 | none=>rw[e] at h;cases AI.mp h;show hq
 | some s=>rw[e] at h;show iK (ok.ss s (fP e).1) 20 hq r h
def iV ì {r:Æ}(hr:yp F r) Å9(hw:w∈F.ws):sP F á:=λ x e=>by
 unfold yK at e;let#[y,h1,rfl]:=Ax.mp e;exact#[(ok.ws w hw).2,?_];unfold tI at h1;have:=ok.a0;have:=ok.b0;split at h1
 .cases h1
 .cases h1;show lV ⋯ ⋯ ⋯ ⋯
theorem YI (hk:k<=m) (k1:1<=k) {r:Æ}Å9(h:yF Ä3 r w=Û):∃ j<k,dA Ú á=↑j:=by
 unfold yF at h;unfold yK;cases e:tI F r w with
 | none=>show#[0,k1,rfl]
 | some x=>
  rw[e] at h;let#[j,j1,j2]:=XU (F:=F) (m:=m) (k:=k-1) ⋯ h;show#[j,⋯,j2]
theorem Kk ĉ Ï Á4 Ö Ī(hd:Ù=↑k) (hr:r∈ æ) Å9 Á5:∃ j<k,dA Ú á=↑j:=by
 let#[h1,h2]:=kr hd;have k1:1<=k:=Nat.pos_of_ne_zero λ z=>iB ų (z▸hd);exact YI h1 k1 ?_;have e:Č=xc Ä3 p:=by
  ext Â1;show Â5
 rw[e,eZ ý (λ p=>R.cw ⋯ p) p hq] at h2;unfold pR at h2;rw[Ü ho] at h2;have h3:=Ep.mp h2 r hr;rw[Ee] at h3;have h4:=Ep.mp h3 w (A7.mpr #[hw,za3 hf]);exists h4
end
theorem Y1 {α:Type}{is:ŷ}{g:T->Ev->Ñ Ev}{b:Sm}(enc:α->T) (v:T) (I:List α->Ev->Prop):∀ (xs:List α) (pre:List α) (J:Ev),I pre (yt is J)->
  (∀ p x q,pre++xs=p++x::q->∀ J,I p J->turn g b (enc x) J=↑(.rt v)\/∃ J',turn g b (enc x) J=↑ Ŋ/\I (p++[x]) (yt is J'))->xy is g b (ŏ enc) J=↑(.rt v)\/∃ J',xy is g b (ŏ enc) J=↑ Ŋ/\I (pre++xs) J'
 | [],pre,J,h,_=>.inr #[yt is J,by rw[BD,xy],by exists h]
 | x::xs,pre,J,h,hs=>by
  rcases hs pre x xs rfl _ h with h1 | ⟨J',h1,h2⟩
  .show .inl (by rw[Az,jW,h1];rfl)
  .have ih:=Y1 enc v I xs (pre++[x]) J' h2 λ p y q e=>hs p y q (by rw[<- e];simp);rw[Az,jW,h1];exists ih
def iz (neg:Bool) À1:zT neg (vY st) (vY st)=↑(.bl (cond neg Û true)):=by
 have h:dep (vY st)<=60:=by
  cases st with
  | none=>simp[vY,dep]
  | some x=>simp[vY,zu,dep,wa]
 unfold zT;rw[Ü #[h,h],i9];cases neg <;> rfl
end zN
namespace L5
open PySem L2 L3
section
variable {F:List W->Ñ T}{Å8}{i j:Nat}{ti tj:Ñ Addr}{c d:Str}{fs gs E7 gs':Ã6}{xs:ļ}{v:T}
def fV (xs:ļ):slots ÿ=[i,j]:=by
 induction xs with
 | nil=>rfl
 | cons x xs ih=>show ih
theorem aA (ad:Nat->Addr) ğ:∀ xs:ļ,wZ ad J ÿ=↑(ŏ .im++[İ (à ↑(ad i) c fs),İ (à ↑(ad j) d gs)])
 | []=>by
  change wZ ad J [.inl i,.inl j]=_;rw[wZ,h0];change (if xB (à ti c fs)=true then _ else none)=_;rw[Ü (show xB (à ti c fs)=true from rfl),wZ,h1];change ((if xB (à tj d gs)=true then _ else none):Ñ _).map _=_;rw[Ü (show xB (à tj d gs)=true from rfl)];rfl
 | x::xs=>by rw[Az,List.cons_append,wZ,aA ad h0 h1 xs];rfl
def iW {g:Ga}(hg:g J=↑ ÿ) (nij:i≠j) ğ
  (h:∀ a b,F (ŏ .im++[Ä8,İ (à ↑b d gs)])=↑(yA v [(a,à none c E7),(b,Ä5)])):oj F g J=↑(v,(đ).set j ↑(İ (à tj d gs'))):=by
 have hb:v7 F J ÿ=↑(v,[à none c E7,Ä5]):=by
  exact WY #[#[by rw[fV];rfl,λ x hx=>?_],λ ad=>#[_,aA ad h0 h1 xs,?_]]
  .simp![Am,A6,or_false] at hx;rcases hx with rfl | rfl <;> show#[rfl,rfl]
  .rw[h (ad i) (ad j),fV];rfl
 unfold oj;rw[hg,Ba,fV,Ü (by simp[nij]),hb];have t1:vo J i=ti:=by unfold vo;rw[h0];rfl
 have t2:vo (đ) j=tj:=by unfold vo;rw[xM nij,h1];rfl
 change ↑(v,xQ [i,j] [à none c E7,Ä5] J)=_;rw[xQ,t1,xQ];change ↑(v,xQ [] [] ((đ).set j ↑(İ (vv (vo (đ) j) (Ä5)))))=_;rw[t2];rfl
def Tn {g:Xf}{J':Ev}{y:T}(h:g J=↑(↑y,J')) (he:xK y=true):mS i j g J=↑(.nx (((J'.set i none).set j ↑(.im y)).set i none)):=by
 unfold mS;rw[h,Ba];dsimp only;rw[Ü he]
def dS À3(e:k J=↑true) (e':g J=o):nK k g h J=o:=Á2
def nJ À3(e:k J=↑ Û) (e':h J=o):nK k g h J=o:=Á2
def b6 {f:Ad}{g:Xm}{o:Ñ (T×Ev)}(e:f J=↑(Ô)) (e':g J=o):andM f g J=o:=by change (f J).bind _=o;rw[e];show e'
def Zu {e:Xm}{J':Ev}{b:Bool}(h:e J=↑(.bl b,J')):lj e J=↑(.rt (.bl b)):=by unfold lj;rw[h];rfl
def SO {is:ŷ}{e:Xm}{J':Ev}{y:T}ť(h:e J=↑(y,J')) (hL:wC is J'=↑L):jy is e J=↑(.rt (yA y L)):=by unfold jy;rw[h,Ba,hL];rfl
def IG {e:Xm}{J':Ev}{y:T}(h:e J=↑(y,J')):iC e J=↑ Ŋ:=by unfold iC;rw[h];rfl
end
end L5
namespace zN
open PySem L2 L3 L5 RN
section
variable {Ą}{m:Nat}
abbrev hO (t:Ñ Addr) (c:Str) â ĵ À1 é:Ñ W:=↑(İ (à t c (hF ŧ)))
abbrev uS À4 â (m n n':Nat) (bs:ļ) (k c:Ñ W):Ev:=[hO ŕ è,hO Â9 Ú none n',↑(İ (ę bs)),k,c,none]
theorem Lc À4 (n n':Nat) (bs:ļ) (hl:bs.length<=100) ů (hk:k<4):∃ J',turn (zy 3) i_ ű (uS ù bs Á)=↑ Ŋ/\yt [3,4] J'=uS ù (bs++[Ô]) Á:=by
 have t:∀ j:Nat,zO (zb (zT Û) (zc 3) (cS (nT j))) (Ĺ)=↑(ī (É=j)):=λ j=>zE (ze À (by rw[ľ];rfl));have fin:∀ g:Xf,g (Ĺ)=↑(↑ql,Ĺ)->zm (mS 5 4 g) (vj 2 (dN (dM "NoMore") (zc 4))) (Ĺ)=↑(.nx (uS ù (bs++[Ô]) (ß) (im ql))):=λ g h=>
  zp (Tn h rfl) (sN (J:=uS ù bs (ß) (im ql)) À ⋯)
 have pre:∀ o,_->i_ (uS ù bs (ß) none)=o:=λ o h=>zp (zM rfl) h;exact#[_,pre _ (fin _ ?_),rfl];rcases (show k=0\/k=1\/k=2\/k=3 by lia) with rfl | rfl | rfl | rfl
 .show dS Ů (jH Ń sA À (GH (m:=m) n) rfl)
 .show nJ Ů (dS Ä9 (jH (xs:=[Å 0]) rfl sA À (GF (m:=m) n _) rfl))
 .show nJ Ů (nJ Ä9 (dS ((t 2).trans rfl) (jH Ń sy À (GG (m:=m) n') rfl)))
 .show nJ Ů (nJ Ä9 (nJ ((t 2).trans rfl) (jH (xs:=[Å 0,Å 0]) rfl sy À (GI (m:=m) n' _ _) rfl)))
theorem VC (n n':Nat) À4:gK [hW Ē è,hW b "Taker" Ú none n']=↑(yA (Ô) [(a,à À5 (hF è)),(b,à Ã3 (hF Ú none n'))]):=by
 let#[J',l1,l2]:=uT (is:=[3,4]) (g:=zy 3) (b:=i_) (Þ) (λ pre J=>J=uS ù (pre.map λ _=>T.bl true) Á) (Ì 4) (uS ù [] Á) rfl (by
  rintro pre k post e J rfl;have Ao:Ľ<=4:=Ã1
  let#[J',h1,h2]:=Lc (F:=F) (m:=m) a b n n' (pre.map λ _=>T.bl true) Ý k (ķ);rw[Cv];show#[J',h1,by rw[h2,Bu];rfl])
 subst l2;have he:zT Û (À0) (À0)=↑(Ô):=by
  unfold zT;rw[Ü (by simp[dep,wa]),i9];rfl
 show tJ (zp (J':=uS ù [] Á) rfl (zp (xX (Zr 4 ()) l1) (Zv (L:=[Ĉ,(b,à Â9 (hF Ú none n'))]) (ze (x:=À0) À he) rfl))) rfl
def YE {l:ë}{r:Æ}Å9(h:yF F l r w=true):∃ x,yK F r w=↑(w.t,x)/\zF (l.getD w.t []) x=true:=by
 unfold yF at h;unfold yK;cases e:tI F r w with
 | none=>rw[e] at h;cases h
 | some x=>rw[e] at h;show#[x,rfl,h]
def rS â ĵ (due:Ñ Nat) À1 é:Prop:=match due with
 | some d=>∃ j,dA Ú st=↑j/\j+n<=d
 | none=>∃ p q,st=↑ Ę/\zF (Â3) q=true
theorem K8 ĉ Ï Á4 Ö Å9(hr:r∈ æ) Á5 (hl:ò) À6:rS Ú due á (n+1):=by
 cases due with
 | some d=>
  let#[j,j1,j2]:=h;let#[i,i1,i2]:=Kk R Ŝ j1 hr hw hf;show#[i,i2,⋯]
 | none=>
  let#[p',q',e,hc]:=h;cases e;let#[x,e1,e2]:=YE (hl hc);show#[w.t,x,e1,e2]
theorem K7 ĉ Ï (ho:Î=Û) Ď Ö Å9 Á5 (hl:Ĝ) À6:rS Ú due Œ:=by
 cases due with
 | some d=>
  let#[j,j1,j2]:=h;let#[i,i1,i2]:=YI (kr j1).1 (Nat.pos_of_ne_zero λ z=>iB ų (z▸j1)) (hl j j1);show#[i,i2,⋯]
 | none=>
  let#[p',q',e,hc]:=h;cases e;ext Å1;rw[ě (by rw[ho];decide),BL] at hc;let#[x,e1,e2]:=YE (hc w (A7.mpr #[hw,za3 hf]));show#[w.t,x,e1,e2]
end
end zN
namespace L5
open PySem L2 L3
def Lr {cs:Æ7}{m:Str}{j:Nat}{F:List W->Ñ T}{e:Xm}{J J1:Ev}{t t1:Ñ Addr}{c c0 c':Str}{fs fs0 E7:Ã6}{x v:T}ã (he:e J=↑(x,J1)) (h1:J1[j]?=↑↑(İ (à t1 c0 fs0)))
  (h:∀ a,F [İ (à ↑a c0 fs0),.im x]=↑(yA v [(a,Ų)])):lF cs m j F e J=↑(v,J1.set j ↑(İ (à t1 c' E7))):=by
 unfold lF;rw[h0];dsimp only;rw[Ü #[hc,hl],he];change ((v7 F J1 (.inl j::[x].map .inr)).map _)=_;rw[iX (xs:=[x]) h1 h];have:vo J1 j=t1:=by unfold vo;rw[h1];rfl
 change ↑(v,xQ [j] [Ų] J1)=_;rw[xQ,this];rfl
end L5
namespace zN
open PySem L2 L3 L5 RN
section
variable {Ą}{m:Nat}
abbrev Yi À4 â ĵ (st E_:Sd) (n n':Nat) (x d e:Ñ W):Ev:=[ñ,hO ŕ ŧ,hO Â9 Ú E_ n',x,d,e]
theorem VB ĉ Å0 {st:Sd}(hs:sP F st) é:∃ E_ n',sP F E_/\∀ a b,gJ [.im (Ě),hW Ē ŧ,hW b "Taker" ŧ]=↑(yA (Ô) [(a,à À5 (hF Ú E_ n')),(b,à Ã3 (hF Ú E_ n'))]):=by
 cases st with
 | none=>
  exact#[none,n,hs,λ a b=>tJ (zp (zM ó) (wy (xq ï (SO (L:=[Ĉ,(b,à Â9 (hF è))]) Æ4 rfl)))) rfl]
 | some x=>
  ext Å3;have tk:=dB (Î);have fin:∀ À4 (k i:Nat) (r:Æ) (w:Wy),k<=100->Ņ->å->zm (zG 5 (zv gL (za (zh 0) (za (zb zi (zc 3) (cI 0)) (za (zb zi (zc 3) (cI 1)) (za (zb zi (zc 4) (cI 0)) (za (zb zi (zc 4) (cI 1)) zg)))))))
    (nq [1,2] (t8 (zb (zT Û) (xv þ "where" ["self"] sV 1) (zc 5)) (zb (zT Û) (xv þ "where" ["self"] sV 2) (zc 5)))) (Yi a b Ú á á (n+1) (n+1) (im (vY ↑ Ę)) (im (Ĭ ē)) none)=↑(.rt (yA (Ô) [(a,à À5 ġ),(b,à Ã3 ġ)])):=λ a b k i r w k1 k2 k3=>
   zp (zM (zx (zq rfl (zq ţ (zq ſ ĥ))) (Fb ý R.fx.pw hq k1 k2 k3))) (Zv (L:=[(a,à ŕ ġ),(b,à Â9 ġ)]) (hX (ze ó rfl (iz Û á)) (ze Ō (iz Û á))) rfl)
  have pre:∀ À4 (o:Ñ Out),_->Uj (Yi a b Ò ↑ Ę n n Ĕ)=o:=λ a b o h=>zp (zM ó) (zp (ŀ) (zp (zM ŭ) h));cases ho:Î with
  | true=>
   rw[ho] at tk;let#[k,i,r,w,ŋ,_,k5]:=VI R gw Ŝ;have Dy:=G_ (F:=F) (p:=p) (q:=q) k0;rw[Hw ý hq,k1] at Dy;exact#[yK F r w,n+1,Ä2,λ a b=>tJ (pre a b _ (zp (xq Ð (zp (Yz Ń sA À (k5 n)) (zp (y6 (r0 (uM (zx (zq rfl (zq ţ (zq ſ (zq ţ rfl)))) Dy))) rfl) í))) (fin a b k i r w k0 k1 k2))) rfl]
  | Û=>
   rw[ho] at tk;let#[i,w,g1,g2,_,g4]:=VF R gw Ŝ;exact#[yK F q w,n+1,iV ý hq (AW g1),λ a b=>tJ (pre a b _ (zp (y6 Ð (zp (Ly (a:=Å 0) (xs:=[]) À sy À (g4 n)) (pE (xs:=[nT i]) rfl sA rfl (zq ſ rfl) (V7 Ĳ ý Ŝ g1 g2)))) (fin a b 0 i q w () (oa F p q) g1))) rfl]
abbrev u4 â (m p:Nat) È5 À1 é (due room:T) (s x d:Ñ W):Ev:=[ñ,û,ö,hO À5 ŧ,hO Ã3 ŧ,im due,im room,s,x,d]
def R7 ĉ Å0 (p0:Nat) (q0:Æ) {st:Sd}(hs:sP F st) é {due:Ñ Nat}(hI:rS Ú due st n) (room:T):
  Ň=↑(.rt (Ô))\/∃ J',Ň=↑ Ŋ/\
   ∃ E_,yt [7,8,9] J'=u4 Ú p0 q0 E_ (n+1) (wN due) room Ĕ/\sP F E_/\rS Ú due E_ (n+1):=by
 have hn:zT true Ç4 Ç4=↑ Æ6:=by rw[ľ,za3 rfl];rfl
 have pre:∀ o,_->qH (u4 Ú p0 q0 st Ũ Á)=o:=λ o h=>zp (zM ó) (zp (y6 (ny (zE (ze Ō (iz true st))) (zE (ze Ž hn))) rfl) h);cases st with
 | none=>
  exact .inl (pre _ ?_);cases due with
  | none=>let#[_,_,e,_]:=hI;cases e
  | some d=>
   let#[j,j1,j2]:=hI;have le:qo Ç4 (nT d)=↑(Ô):=by change ↑(T.bl (ī (ħ<=d)))=_;rw[za3 ⋯]
   show wy (xq ï (Zu (b6 Ä (b6 (ze È1 rfl le) Æ4))))
 | some x=>
  ext Å3;exact .inr ?_;have d1:qA (zO Å6) (zO (zb nS (zc 7) (zc 5))) (u4 Ú p0 q0 ↑ Ę Ũ (im (vY ↑ Ę)) none)=↑ Û:=by
   cases due with
   | none=>show hV ï
   | some d=>
    let#[j,j1,j2]:=hI;have:j≠0:=λ z=>iB ų (z▸j1);exact om ï (zE (ze À ?_));change ↑(T.bl (ī ((d:Int)<=ħ)))=_;rw[za2 ⋯]
  have pr2:∀ o,_->qH (u4 Ú p0 q0 ↑ Ę Ũ Á)=o:=λ o h=>pre _ (zp (ŀ) (zp (y6 (ny (zE (ze È1 rfl hn)) d1) rfl) h));have tk:=dB (Î);cases ho:Î with
  | true=>
   rw[ho] at tk;let#[k,i,r,w,ŋ,k4,k5]:=VI R gw Ŝ;show#[_,pr2 _ (xq Ð (zp (Yz Ń sA À (k5 n)) í)),yK F r w,rfl,Ä2,K8 R Ŝ (AW k1) (AW k2) k3 k4 hI]
  | Û=>
   rw[ho] at tk;let#[i,w,g1,g2,g3,g4]:=VF R gw Ŝ;show#[_,pr2 _ (y6 Ð (IG (Lr rfl sA rfl (jQ Ń sy À (g4 n)) rfl (V7 Ĳ ý Ŝ g1 g2)))),yK F q w,rfl,iV ý hq (AW g1),K7 R Ŝ (AW g1) g2 g3 hI]
def Fd ĉ (hr:î) Ï Ď Ö:bZ Ť=↑(wN (Ù)):=
 ym (zp (nY (zx rfl (gT F p hp))) (zp (nY (zx rfl (VL F q hq))) (x9 (zx (zq (zx rfl hr) rfl) (Â7))))) rfl
theorem GV ĉ (hm:m<=2000) (hr:î) Å0 Ï Ď Ö:bW Ť=↑(Ô):=by
 have loop:∀ (due:Ñ Nat) (room N:Nat),rS Ú due ↑ Ę 0->Ż=↑(.rt (Ô))\/∃ st,Ż=↑(.nx (u4 Ú p q st N Ã0))/\sP F st/\rS Ú due st N:=λ due room N h=>by
  have hl:=Y1 (is:=[7,8,9]) (g:=zy 7) (b:=qH) (Þ) (Ô)
   (λ pre J=>∃ st,J=u4 Ú p q st Ľ Ã0/\sP F st/\rS Ú due st Ľ) (Ì N) [] ø #[↑ Ę,rfl,λ x e=>by cases e;show#[hp,hq],h] (by
    rintro pre k post e J ⟨st,rfl,h1,h2⟩;have hk:k=Ľ:=by
     rw[List.nil_append] at e;have Ao:Ľ<N:=Ã1
     have:=ä (λ l=>l[Ľ]?) e;simp at this;rw[DH Ao] at this;cases this;rfl
    subst hk;rw[Cv];rcases R7 R gw p q h1 Ľ h2 (nT room) with h | ⟨J',g1,E_,g2,g3,g4⟩
    .show .inl h
    .show .inr #[J',g1,E_,by rw[g2,BO];rfl,g3,by rw[BO];show g4])
  rcases hl with hl | ⟨J',hl,st,rfl,h1,h2⟩
  .show .inl hl
  .rw[List.nil_append,Cs] at hl h2;show .inr #[st,hl,h1,h2]
 have pre:∀ o,_->Ui [ñ,û,ö,none,none,none,none,none,none,none]=o:=λ o h=>
  zp (jM (xs:=Ť) rfl (gQ yJ hr ų)) (zp (jM (xs:=Ť) rfl (gQ yh hr ų)) (zp (zM (zx rfl (Fd R hr ų))) (zp (zM rfl) h)))
 cases hd:Ù with
 | some d=>
  rw[hd] at pre;have dl:=(kr hd).1;have rg:xU ua ċ (u4 Ú p q ↑ Ę 0 (wN ↑d) (nT d) Ĕ)=↑((Ì (d+3)).map Þ):=
   pO (n:=d+3) (ze rfl (ze rfl (zx (zq Ä rfl) rfl) (pC (i:=3) (j:=1) Ŭ)) rfl) ⋯
  rcases loop ↑d d (d+3) #[d,hd,An _] with h | ⟨st,_,_,j,_,h⟩
  .show ym (pre _ (zp (xq ï (zM rfl)) (wy (xX rg h)))) rfl
  .lia
 | none=>
  rw[hd] at pre;have rg:xU ua ċ (u4 Ú p q ↑ Ę 0 (wN none) (nT 20) Ĕ)=↑((Ì 20).map Þ):=
   pO (n:=20) (ze rfl (ze rfl (zx (zq Ä rfl) rfl) (pC (i:=3) (j:=0) Ŭ)) rfl) ()
  rcases loop none 20 20 #[p,q,rfl,IC hd (An _)] with h | ⟨st,h,_,p',q',rfl,_⟩
  .show ym (pre _ (zp (ŀ) (wy (xX rg h)))) rfl
  .show ym (pre _ (zp (ŀ) (zp (xX rg h) (zp (zM ó) (x9 (hX Ä (hX Ä (ze Ō (iz Û ↑(p',q')))))))))) rfl
end
theorem gU (ns:ü) ů:oB [ng ns,nT k]=↑(Å (ns.getD k 0)):=by
 unfold oB Uk ng;by_cases h:k<Ç3
 .have e:ū (ns.map Ó) É=↑(Å (ns.getD k 0)):=wR (Ç2);simp[h,e,ltI]
 .simp[h,ltI]
theorem GR (v:Int):∃ most zA:Nat,gI [Å v]=↑(Ĭ [nT most,nT zA])/\(1<=most/\most<=8)/\zA<=6:=by
 obtain⟨m,hm,m10⟩:∃ m:Nat,v%10=(m:Int)/\m<10:=#[(v%10).toNat,⋯,⋯];have hs:∃ L:List (Nat×Nat),m<L.length/\L.all (λ x=>ī ((1<=x.1/\x.1<=8)/\x.2<=6))=true/\∀ y,ū (L.map λ x=>T.tup [nT x.1,nT x.2]) (v%10)=↑y->gI [Å v]=↑y:=
  #[[(3,2),(2,3),(4,1),(1,4),(3,2),(2,3),(8,1),(3,2),(2,3),(4,1)],m10,(),λ y h=>ym (x9 (ze rfl Ĩ h)) rfl]
 let#[L,hl,ha,h]:=hs;show#[L[m].1,L[m].2,h _ (by rw[hm];show wR (by rw[AG,A8 hl];rfl)),Ä7 (BL.mp ha _ (BF hl))]
def Lq {f:Ev->Ñ Bool}{g:Xm}{h:Sm}{J J':Ev}(hf:f J=↑ Û) (hg:g J=↑(Ô,J')):dR (orM (eC f) (notM (fA g))) h yg J=↑ Ŋ:=by
 simp[hf,hg]
abbrev lK (ns:ü) (a b:T) â ĵ (O:zr) ů À1 é (c d e:Ñ W):Ev:=[im (ng ns),im a,im b,ñ,im (zC O),im (rT (œ)),hO À5 O k st n,hO Ã3 O k st n,c,d,e]
def VG ł:
  ∃ F:zr,qP [Å c,Å most,Å zA]=↑(Ě)/\F.Ok/\(Í)/\∃ m,m<=2000/\î/\vk Ú:=by
 let#[G,g1,ok,gw,pw]:=Fe c most zA h1 h8 hb;show#[G,g1,ok,gw,SW ok gw pw]
def LW {F O:zr}{m k:Nat}ĉ (hm:m<=2000) (hr:î) Å0 (S:vk O k) (ow:∀ x<O.os.length,∃ w∈O.ws,w.f=x) (ns:ü) (a b:T) {st:Sd}(hs:sP O st) (n j:Nat):
  ∃ J',turn (zy 8) bp (nT j) (lK ns a b Ú O k st n Ĕ)=↑ Ŋ/\∃ E_ n',yt [8,9,10] J'=lK ns a b Ú O k E_ n' Ĕ/\sP O E_:=by
 let#[p,q,s1,s2,s3]:=GZ ý (pM Ú) (R.gd m (An _)) (ns.getD j 0);let#[E_,n',o1,o2]:=VB S ow hs n;show#[_,zp (fE (zx (zq rfl (zq rfl (zq (zx rfl (gU ns j)) rfl))) s1) rfl) (Lq (r0 (uM (zx rfl (GV R hm hr gw s2 s3)))) Å7),E_,n',rfl,o1]
theorem LX (ns:ü) (_:Ç3<=63):kW [ng ns]=↑(Ô):=by
 let#[most,zA,z1,z2,z3]:=GR (ns.getD 0 0);let#[F,f1,ok,gw,m,hm,hr,R]:=VG (ns.getD 1 0) most zA z2.1 z2.2 ⋯;let#[O,o1,ook,ow,k,_,h2,S]:=VG (ns.getD 51 0) most zA z2.1 z2.2 ⋯;have hq:yp O (O.A,O.B):=lV ook.a0 (A4 _) ook.b0 (A4 _);obtain⟨N,hn⟩:∃ N:Nat,xU lb (za (cI 2) (za (zv tN (za (cI 3) (za (zv wB (za (zv vI (za (zc 0) zg)) (za (cI 50) zg))) zg))) (za (cI 26) zg))) ż=↑((Ì N).map λ k:Nat=>Ó (2+É*26)):=by
  have e:vI [ng ns]=↑(nT Ç3):=by simp[ng]
  obtain⟨y,y1,y2⟩:∃ y:Int,wB [nT Ç3,Å 50]=↑(Å y)/\y<=50:=Á7;obtain⟨z,w1,w2⟩:∃ z:Int,tN [Å 3,Å y]=↑(Å z)/\0<=z/\z<=60:=Á7;exact#[tL 2 z 26,?_];change (za _ _ _).bind lb=_;rw[zq rfl (zq (zx (zq rfl (zq (zx (zq (zx rfl e) rfl) y1) rfl)) w1) rfl)];change (if (qt 2=true/\qt z=true)/\qt 26=true/\(0:Int)<26 then ↑(j7 2 26 (tL 2 z 26)) else none)=_;rw[Ü #[#[(),by simp[qt];lia],(),()]];rfl
 let#[J',l1,st,n,rfl,l3]:=uT (is:=[8,9,10]) (g:=zy 8) (b:=bp) (λ k:Nat=>Ó (2+É*26)) (λ _ J=>∃ st n,J=lK ns ç Ú O k st n Ĕ/\sP O st) (Ì N) ż #[_,_,rfl,λ x e=>by cases e;show#[ook.n1,hq]] (by
  rintro _ j _ _ J ⟨st,n,rfl,hs⟩;have e:Ó (2+(j:Int)*26)=nT (2+j*26):=ä Ó ⋯;rw[e];show LW R hm hr gw S ow ns ç hs n (2+j*26))
 let#[E_,n',_,o2]:=VB S ow l3 n;show ym (zp (fE (zx (zq (zx rfl (gU ns 0)) rfl) z1) rfl) (zp (zM (zx (zq (zx rfl (gU ns 1)) rfl) f1)) (zp (zM (zx (zq (zx rfl (gU ns 51)) rfl) o1)) (zp (zM (ze (zx rfl hr) rfl aR)) (zp (jM Ğ (gQ yJ h2 ook.n1 hq)) (zp (jM Ğ (gQ yh h2 ook.n1 hq)) (zp (xX hn l1) (Zu (b6 (ze Ž (by rw[ľ,za3 rfl];rfl)) Å7))))))))) rfl
end zN
namespace PySem.W.Fast
def te3194163883834374240:=0
)
local macro_rules|`(command|example:=$s:str)=>do
 let mut r:Array Lean.Syntax:=.empty
 let mut n:=0
 let mut k:=0
 for c in s.getString.toList do
  let a:=c.toNat
  n:=n*62+(if a>96 then a-61 else if a>64 then a-55 else a-48)
  k:=k+1
  if k==11 then
   let i:=Lean.mkIdent (.mkSimple s!"tw{n}")
   r:=r.push (<-`(command|theorem $i:ident:True:=trivial))
   n:=0
   k:=0
 return Lean.mkNullNode r
example:="HSFCGVHRVFlAd6wLs7CVuP6yKXcgle8mpKw307V2sZ8pBvay3T3vG5MFkfaoQcbDYr9NAF4sCG2g61UMGY6yf3WH1B7llYV62Su43fGmqRbGTD6LvzwjlPeTBBXlLIw38UVALUHJERYFOn41GsM7pzbuMgDomr5nKnZKt9nAdbqN2PEfKIeD7PKVsFCJU6Cf4LoYx06k6McaLn3RSGcp974TXCDb0SQ3LQCi6huLEudmoF3NuyJPMIldd6DPfBxUGNAMhWtXEFEcBycHdEn0pTonCJeZRbKXwvzUO3WcfDJUdXRjx1kBH3n9eeiVusL4yOAU6B2VkQDlrOLEFBk1LFqEKHs7WEuZ11RMAknnxOvLcUpRSwkZ1V4cxGESQQwzE6VuPvvdbI4A6Xe6W0gX8knJXIfXlKrRZS4mlsMcvHQDU0cCwJD15c7WK0UKBg6Dno544FKNz3DiuYGXkMCZls2qpKr5z0sewDHM5iB5uLTaZD920FufmOnRcGKlgmIBImO92AsvGTlJPNsoBDiq8PVEIaw0xPRYqhmITgGavFwac2D6OAdLrbvXrd8z2gwcIz8x8HNIsQ4GIJMQD37wEZLJrK5SrA8GRZvX5hHtCWB8qV1speYEpYv9EuzjEDILzWKueGXQpBd2Q7U3r9euHZSq5a6d3taALhQ23ZOAzm5dqO5KPJ9qnHKTfSFSRgp51eQRw12AouNEgDJl6qd1Jc3ZW6jsw8xnhHmktMvbtSvu0vYJeyFixOE9KUovgQI5JzLtfn77d4ZJD9i5xKp8k6W4J7y1oZh70wICastoDQlp4RLIwDj7YMKUl9dcMYO63MR3IzGrjaF2hEbJsQZKwL04Iq8qcmfXUTj8YFEMzXEhqTatFAiOS8ld26rGoLXdi9JKtg2yME7Fq5d15KFs5Q7qyJov6pcTITuMBU87nLvq5roAQYICePEvi2ONHHffgW1qyCeK17Zy7M9YthH846Rjs8gIcv0Bm3gpIH8vRA64Sz7AcX0l9qjY88LZrc63he2ktPflnu5gd6F66KHMqFxteNroKOpT2n5jym8502lDRoHlENsxIEEM7VN8DBdRU6WsmzBVIGttJGAGGlQFhyBCae0oqykxx7Hvckno3vhzHHs1jv6uflCcFrbW47KftPcKgAEoggAxGuFMfYlc42QxpL9tXG1mAo5qE9M5Uaom4WJ72AB5e2RTHX7p3bzBaOSzfGONuYriAyDk44sVE76ygaSFu06WrM6VJyGtDv086VY8aDXKRVLw8jQr8YOD4lMFHnP05itxKkiCLf6GOMQ0B1EJj8tNfjsxwN1h3RKdvfp4xJc7LWV4bGWHBbHQxnnUQtXxGBVFvDvngIFCEsVDtbOVvlIKbDOrodbFgU5pvyNooe7MBHuOu0zkyN0B452Hlk4Xbv8KqRUUl9zwur18k7rHIny15JaMSFuuAVIj5apGtHRtifq4AR22Zazdto7pqilelPB5N429xIaglD6n6JljrWrIw4VADYAVmeBRYMCxw3ijkAfv0LMspBf2CZHw7FCo83bAee2E6CWRodiG1zLR6QM1mhqIY709P6o49Frf4gj2GktWSkcJdK3Pol1sJ6HxSlE8ONn7bJ2PtXoVDOkq0M7vMAGTiFh0gTKA6Pciwj4QBNrDphrBc4IagVOip639DYq4GhpOICI8oeI0FaxKQ24U31NYDTBX3ARIoQCKWH7SLbIhRRhWoGGBhVqH5gVMAJ2wTadyj2UFMGAPuYeR9GAH1UJWyJpFt0hGTKmloqgoub2f7zfLN3Me42IltXkqDUgx9p9OA0lv05Z1nZQRXhXiYdA3IhOT6mbFv354fETD6rAD2dLxsBhpRqXArQDl8lHTQZ3mNGYPcJuk8GxGIeOTtJEb0pgunkMll1DEEgoO4BKCvV6n67ydRfE3317Z1l372uUAJr1aMlweCYg3efrHYrHH243bW0T3RbVRVDegvJ0VuX1M2320PtMaeod8cMVJ04nVnx83LdT2y7KMeKFuzPDk5YoKA1V9qa83bAs0QPzqogK2iuDrmBKt0jIFaGGaSo6ch5CSEujgKQH31pYDLbITsQJZO4G2NXVHAMosg6N8K1wcnqZmHCLcYUOxVcWLIclel1xgz239rVg2mvxEZ7sz5kVguWpdG9ipbfPPzzFJ30H7zXjbID2ErX8J4hV1ILs3zKIQP4vzEodljKJJiUSH9Ih0jHF1MOIRcJolZAfSm9b8m2q9eFGj7cWqZC9BLznD6NzisbrUWd4JkTLlRhoCW2Y0rZcx9MSLBWBJKNbPg3j0ZClDA9eETx2LBIz1J8VqRGEvTzQXCyfkLpaRmNcszH00phH5qeLUI1D980tVBnATiIhzkALTMQti21jsGOCHAVAHdwWmPwlrFlDhfiMKTUkE4HXixRZAUFBAKNYbE7hmWNMLOYYUHUokw1HP3SWj8hF8MHnQO4YZzI2NDamDvrhpCKyJYEQAyHOqNvC53NcDFTIXd0sWndxzVUjMD3LEX1H5ye18J60e3ZWqAhH9dDYACOCjOIyA0WvhzMOc59IwAfHi0AGDoO0KQEieeV7xW0nXzv2Bx4yudgEFgJnY4Tn6lAvplgq8WHWBrw4oB8645Y6LIcjsV5NyezbN1keZJyjAPSiwnur8BzhkOeLrCg2RfEQ8xFaUI1flcyEUnUefL1Bpk52jTJUFAG5hmj4Ug76YhfN5fKbRqH0czbnZ1HZ08338wtordm01x76JNNvDRm17Gid4uLTKoDcCx0EMAc8FGDUoezCzR22JxwcvIwI7I4DeaEpnKkKCEJPxF8q7i8W33Olh65pm56HIQN2ns1ApSrAiv7UHfFOaz7c5FqTCXMtLFcI1my9lqcqIuMryCsFNet4XDXthsFCkSC3xda6hXGcjEn4C7n3WFo7BR9L2BNHXdhIP1V8z5xtxEFiNhYJhWz6CGXBmtDTzbbc1y40i8UTlym9KXF6405UizHedYs5juJCGHWb9P84dsda1Npphxk3uh55JDQUnHTJvxH197XvgAXMl0ldYv5SEpyZ8GJD9y0ctn3HxVp6w6vGAJAuhkJEy7cqq6PlxfD5KdQ45J8Fbpma6FcFULX9tuapK37vujhD8kHMO9PvY01G3VHB4xhuTvCKRrq9AIoeh5Q9HJ18DQnYm7rDO99tOkYBCK3WJXuXsXnpKvkDHWK8DCgtQ8B7D4mPQXbAHIA9YngLcvP69RXIRnLjMCI4nrPwoeLFQvEXGNmXCPDTB5zMQVP2uS7kAwRL2JqrqE9CWgJeFDIB9sJfgQzgtiddW4oB636y7vTd2yUm7x19zLIFrPXZokkUKH5VfiP0wOV259CgwGCNhrQA7OA2Rsk7Z30IvYuUEZvGAU1VIGULSoMRxBHPf3ZDJ7LY40qEFRLthx428osWZsMCsSEThMCqHceiDLeQJDAUqopYAh4mvNZKkcZI6XePCWkdWR4BuOlRcAJNKCAGIdwCkMVAAXRMjLl7JrM9k1d9HrMigsBY9SbBlzPkm1H1wNVmpfFEGt4ebvoCZMn5OZjZXNMLc088nmuwas6t6GFs9DwjPezY4mSpJRoUKDgDTOj2dAIxy0C1NiA55HMtpEeP8S2ynObIIUha0p2PKpR5GLjCUhbOhO11LtiU8EqqvCHVJTQcHGI527v8Z2iB4Ex0tUfGFkunLv7ikUz9o5tWaIy9u8tgd3DO5Yt2SnYjtxAEFtBt71XZpoGpZloBE8S6wFwLHD09Vb9ZDiPjnlNG1sJ979ufZEPH6LLvQwRXHLlcE6StPNGT79LnCaMSoHjpOhs5lEokiFjzzR8d8otNTe4lOINyIUUg5862IIWmklO2vjl5F3ixfwDHpFIHAvmMAp7bqIjHckBwmb4P6zqhIifKcAPBn1Lsxx3NQw4PemdgRoQK04LXY2cu3BquIvuMIoj4uYh9NH6uVdNNiDIhnp3bqRIs4JD7JgUY9dTP8xuMNWKHeQQ44Qh3QMvHzA1kyNPP53BkiCnZP50EwZqS2EYCH4oOSkk9qBZ83f0y3f4AOibXVPiocKtAlgfTRq4J5JU6J8X7vf37Lb0tEsTBh1G4B9oztkqXa0lSEdRigFJeHeRvkub59vx1mfR5dvHdU816R6f0MIIbl0umNuMzxjM96EGSLnhFuW4D7T99vwX5IMCk0TR57EtOpIBfW07w85p7GZ1wAO3DorBAtVHicDJxKhLlEaCauiRX76gBva3GC9op2KH6vkfoXSA6cUW1ZUKf951BmzXIwmGmk8mywu47jfiv9LHBz8k6s0kGgfVoRKOMY3DOK5zPX6Hkw2PvfdxWKmRG5ZHgxLmYAWyD6JzF6MT1vvKJ6JCUxXngE17nioyGQA2GAG07hoVhGL59K47eM7bRR6IZutjCvYtS4GuYiTk9LrVq6eHv8vrlqX9Izh88yME5vo72CzxyvlubR3xP4deIxpEdFNsK6kzrt7QDfL4FNUe4cI1w9gBmMJodT7EbpImPoTtC0paJgdbkPENHyfuZNmAb2XFTUICUbj0565QZ6HiI4T1ODiXejBiG8yX98ZAhNs0S6Z9h9mJpDZdS2E27fmjlavbnAbmqIKocSL8IK1Z3QXZeRa9jXYxu4BsKkFPNLdLzod6UBZRQfk5O86bHA0XItn0HmG4688MWL9kUh7lTORgk8YS32OhdHPIfXy81B9a349il94LAoYXFZceoP5LS4oELMgeB9U2flzLHg6C0CCYaF0p2W4LHhxCGRWVEC8j6QdKPzdYIKsfxMbRV9tiGUs4GUWG6XSJVXSlPnmo5fJ0AJ4tw5zX2FrsPYVaYwNp3DhCIHbrrMV4WDmjXVJ1fBIZrZ70tLAZP7FWSgoRES67220RW7pSdVx6h7IeUTjELq2jyLbGyPORfICM7PFeTlvA2XH9wnyL1tu8ucA2cokW6S4lMvracXfDdI1vYLi8ddBSAvLQC1h39g74bfhx6FSchFJ85SDziG6Y1IlVQuwcOzmXDtRKekYKicy2BthjuMS9wL2elNqzGyEh9GNow6A38nB77iHdhZJuqrSDYPY7wEQinnLHgTXFuqNeoIWqXTzSe1NU3wChMN5ZzS79Db0QtXkLbGEoJQZmvoQIzDL76ALMT13bDwqej2rLlhIE5MpRSguDcu1JXso2HkEmaCcvTZJcGeXh7mWRetgxij05YkSi1GTpkh38Ns46rmimOFVHsZenFnkzHSvKFlKDL3S83QyhDR26I88M5zpiW4ia65VUufQff5VXLjglUfCoc2J36VZIzr6LVILo84MzLfCTbGys7dH3ZJql0irFtNXUV1Q1eFMbVtJPYzCvMS4I27FByBiQLb5ci7ak4uK4Vqy3HITJ1jzCMfqX6lFozBtoEPWVH7Qj1mdnvHfxGZZWTSMVSZ5HaY3UVoKAcYJ4MDidNtQfE77bNalYgPl7DJ1BjOwUYIS6JFDZtlZHW9CcKwKU4ZSV90fn2kw23IaC6xmzGtIwQ5BGB0Wifp4RtjHKxtv0Ki7K56lx7hMAkdiGCduU8SIIbLg4sggX2euOKq"
example:=`(
example À _:=x P w K mg base
example Á _:=x P w K mg
example Í:=by cases C;cases d1;cases d2
example Â:=by ext Í;cases d3;cases d4;cases d5
example Ã _:=x l.prog w base T U H C Q X
example Ð:=by ext Â;cases d6;cases d7
example Ä:=by ext Ð;cases d8;cases d9;cases d10
example Ó _:=x Ã G d1 d2 d3 d4
example Å _:=x Ó d5 d6 d7
example Æ:=mainGlobals
example Ç:=["Keeper","Taker"]
example È:=PySem.W.nsIn
example Õ:=by ext Ä;cases d11;cases d12
example É:=by ext Õ;cases d13;cases d14
example Ê:=["floor","told","stand","done"]
example Ý _:=x Å d8 d9 d10
example Ë _:=x Ý d11 d12 d13
example Ì _:=x X G
example Î:=["self"]
example Ï:=K w.params
example Ñ _:=x 9 ["self","floor","place","pair"] (yr oJ)
example Ò _:=x Ã G d1 d2 d3
example Ô:=["floor","place","pair","times"]
example Ö:=["Keeper"]
example Ø _:=x fd ["_law_script"] (vV K (zQ xm kW))
example Ù:=["Taker"]
example Ú:=["floor","place"]
example Û:=by ext É;cases d15;cases d16
example Ü _:=x K Æ
example Þ:=by have hB:=trivial;show#[_,pA,rq]
example ß:=["self","times","way"]
end PySem.W.Fast
namespace zN
open PySem L2 L3 L5
open PyProof.Rows hiding St
def top (i:Nat):Stmt:=PySem.Challenge.pw_purseborder_k84_whole_hand_against_hand.main.body.getD i (.Pass #[0,0,0,0])
def met (i j:Nat):Stmt:=(Hl (top i)).getD j (.Pass #[0,0,0,0])
set_option maxHeartbeats 0
structure HH (K:Ac):Prop where
 h0:Fx K "is_whole" (top 10)
 h1:Fx K "is_whole_within" (top 11)
 h2:Fx K "is_from_nought_on" (top 12)
 h3:Fx K "is_row_within" (top 13)
 h4:Fx K "places_of" (top 14)
 h5:Fx K "check_place" (top 15)
 h6:Fx K "check_pair" (top 16)
 h7:Fx K "ways_from" (top 17)
 h8:Fx K "stall_at" (top 18)
 h9:Fx K "at_or_above" (top 20)
 Jw:Fx K "least_pairs" (top 21)
 Jv:Fx K "holds" (top 22)
 lY:Fx K "both" (top 23)
 Ju:Fx K "either" (top 24)
 Jt:Fx K "border_ahead_of_way" (top 26)
 Js:Fx K "pairs_ahead_of_changes" (top 27)
 Xl:Fx K "border_ahead_of_changes" (top 28)
 Jr:Fx K "border_of_either" (top 29)
 Jq:Fx K "border_of_all" (top 30)
 Jp:Fx K "next_border" (top 31)
 Jo:Fx K "next_round" (top 32)
 Jn:Fx K "rounds" (top 33)
 dZ:Fx K "first_without" (top 34)
 dY:Fx K "lasts" (top 35)
 Xk:Fx K "is_way" (top 37)
 Jm:Fx K "step_by" (top 38)
 Jl:Fx K "change_by" (top 39)
 Jk:Fx K "change_at" (top 40)
 Jj:Fx K "check_way_from" (top 41)
 Ji:Fx K "made_ready" (top 42)
 Jh:Fx K "behind_deed" (top 43)
 Jg:Fx K "leads_into" (top 45)
 Jf:Fx K "deed_into" (top 46)
 Je:Fx K "way_out_of" (top 47)
 Jd:Fx K "_law_cell_at" (top 53)
 Jc:Fx K "_law_stirred" (top 54)
 Jb:Fx K "_law_amount" (top 55)
 Ja:Fx K "_law_way" (top 56)
 K_:Fx K "_law_floor" (top 57)
 KZ:Fx K "_law_sized" (top 58)
 KY:Fx K "_law_behind" (top 59)
 KW:Fx K "_law_can" (top 60)
 KU:Fx K "_law_start" (top 61)
 KS:Fx K "_law_no_more" (top 62)
 KR:Fx K "_law_played" (top 63)
 KQ:Fx K "_law_one_more" (top 64)
 KP:Fx K "law" (top 65)
 L9:Fc K "Keeper" "Hand.__init__" (met 49 0)
 L8:Fc K "Taker" "Hand.__init__" (met 49 0)
 m1:Fm K Ç "where" "Hand.where" (met 49 1)
 m2:Fm K Ç "steps" "Hand.steps" (met 49 2)
 m3:Fm K Ç "check_turn" "Hand.check_turn" (met 49 3)
 m4:Fm K Ç "first_way" "Hand.first_way" (met 49 4)
 m5:Fm K Ç "step_on" "Hand.step_on" (met 49 5)
 m6:Fm K Ö "does" "Keeper.does" (met 50 0)
 m7:Fm K Ö "went" "Keeper.went" (met 50 1)
 m8:Fm K Ù "goes" "Taker.goes" (met 51 0)
 m9:Fm K Ù "did" "Taker.did" (met 51 1)
 dF:Kl K "Keeper" Ê
 dE:Kl K "Taker" Ê
 JL:Cn K "KEEPER" (.str "keeper")
 JK:Cn K "TAKER" (.str "taker")
 K9:Ez K "NoMore"
 MW:Ec K "NoMore"
 y0:È Ü "set"=↑none
 y1:È Ü "zip"=↑none
 y2:È Ü "enumerate"=↑none
 y3:È Ü "abs"=↑none
 z0:È Ü "len"=↑none
 z1:È Ü "range"=↑none
 z2:È Ü "any"=↑none
 z3:È Ü "all"=↑none
 z4:È Ü "sorted"=↑none
 z5:È Ü "isinstance"=↑none
 z6:È Ü "bool"=↑none
 z7:È Ü "int"=↑none
 z8:È Ü "str"=↑none
 z9:È Ü "list"=↑none
 U1:È Ü "tuple"=↑none
 U0:È Ü "max"=↑none
 Uz:È Ü "min"=↑none
structure CC (K:Ac) (mg:Aq):Prop where
 c0:Cm mg "KEEPER" (.str "keeper")
 c1:Cm mg "TAKER" (.str "taker")
 c2:gy K mg "NoMore"
 c3:Og K mg "NoMore"
structure KK (K:Ac):Prop where
 k0:∀ c∈(Ö:List Str),Kl K c Ê
 k1:∀ c∈(Ç:List Str),Kl K c Ê
 k2:∀ c∈(Ù:List Str),Kl K c Ê
section
variable (P:Program)(w:World)(K:Ac)(mg:Aq)(base:Heap)
structure D1:Prop where
 x0:FD À "is_whole" 1 ["thing"] (zQ zJ oG)
 x1:FD À "places_of" 1 ["floor"] (zQ zJ mw)
 x2:FD À "at_or_above" 1 ["pair","other"] (zQ zJ k_)
 x3:FD À "least_pairs" 1 ["pairs"] (zQ zJ oA)
 x4:FD À "pairs_ahead_of_changes" 1 ["brims","stall","pair"] (zQ zJ bO)
structure D2:Prop where
 x0:FD À "step_by" 1 ["floor","pair","way"] (zQ zJ kU)
 x1:FD À "change_by" 1 ["brims","stall","pair","times"] (zQ zJ kZ)
 x2:FD À "_law_cell_at" 1 ["_law_script","_law_k"] (zQ xm oB)
 x3:FD À "_law_stirred" 1 ["_law_cell","_law_count"] (zQ zJ bU)
 x4:FD À "_law_amount" 1 ["_law_number","_law_most"] (zQ zJ gN)
structure D3:Prop where
 x0:FD À "_law_sized" 1 ["_law_number"] (zQ xm gI)
 x1:FD À "_law_behind" 1 ["_law_floor_here","_law_place","_law_pair","_law_times","_law_way_here"] (zQ zJ gL)
 x2:FD À "_law_can" 1 ["_law_floor_here","_law_place","_law_pair","_law_times"] (zQ zJ bX)
 x3:FD À "_law_start" 1 ["_law_floor_here","_law_told","_law_number"] (zQ zJ bV)
 x4:tH À Ç "where" 1 Î (sY Î 1 sV)
structure D4:Prop where
 x0:tH À Ç "steps" 1 Î (sY Î 1 oS)
structure D5:Prop where
 x0:FD À "is_whole_within" 2 ["thing","least","most"] (zQ zJ oE)
 x1:FD À "is_from_nought_on" 2 ["thing"] (zQ zJ gP)
 x2:FD À "holds" 2 ["border","pair"] (zQ zJ kX)
 x3:FD À "both" 2 ["border","other"] (zQ zJ gW)
 x4:FD À "either" 2 ["border","other"] (zQ zJ kY)
structure D6:Prop where
 x0:FD À "border_ahead_of_way" 2 ["brims","way","border"] (zQ zJ ah)
 x1:FD À "_law_way" 2 ["_law_place","_law_many","_law_number","_law_size"] (zQ zJ gH)
structure D7:Prop where
 x0:FD À "is_row_within" 3 ["thing","bounds"] (zQ zJ gO)
 x1:FD À "check_place" 3 Ú (zQ zJ mz)
 x2:FD À "border_of_either" 3 ["borders"] (zQ xm af)
 x3:FD À "border_of_all" 3 ["borders"] (zQ xm ag)
 x4:FD À "first_without" 3 ["told","place","pair"] (zQ xm gR)
structure D8:Prop where
 x0:FD À "is_way" 3 ["floor","thing"] (zQ zJ b_)
 x1:FD À "leads_into" 3 ["floor","pair","way","held"] (zQ zJ gG)
 x2:FD À "_law_floor" 3 ["_law_cell","_law_most","_law_brim"] (zQ zJ qP)
 x3:vB À Ç "check_turn" 3 ["self","owner"] (yr oI)
structure D9:Prop where
 x0:FD À "check_pair" 4 ["floor","pair"] (zQ zJ gS)
 x1:FD À "ways_from" 4 Ú (zQ zJ mv)
 x2:FD À "stall_at" 4 Ú (zQ xm o9)
 x3:FD À "check_way_from" 4 ["floor","place","way"] (zQ zJ ae)
structure V_:Prop where
 x0:FD À "border_ahead_of_changes" 5 ["floor","place","border"] (zQ xm ai)
 x1:FD À "change_at" 5 Ô (zQ zJ oH)
 x2:FD À "way_out_of" 5 ["floor","place","pair","told"] (zQ xm bM)
 x3:tH À Ç "first_way" 5 Î (sY Î 1 mJ)
structure VZ:Prop where
 x0:FD À "next_border" 6 ["floor","place","last"] (zQ xm bQ)
 x1:FD À "made_ready" 6 Ô (zQ xm bR)
 x2:FD À "deed_into" 6 ["floor","place","pair","held"] (zQ zJ aa)
structure VY:Prop where
 x0:FD À "next_round" 7 ["floor","last","fresh"] (zQ zJ bP)
 x1:FD À "behind_deed" 7 ["floor","place","pair","deed"] (zQ zJ gX)
structure VX:Prop where
 x0:FD À "rounds" 8 ["floor"] (zQ zJ tZ)
 x1:tH À Ç "step_on" 8 ß (yr mG)
structure VW:Prop where
 x0:FD À "lasts" 9 ["floor","place","pair"] (zQ xm bZ)
 x1:ja À "Keeper" Ñ
 x2:ja À "Taker" Ñ
 x3:vB À Ö "does" 9 Î (yr mF)
 x4:vB À Ö "went" 9 ["self","way"] (yr mE)
structure VV:Prop where
 x0:vB À Ù "goes" 9 Î (yr mC)
 x1:vB À Ù "did" 9 ß (yr mD)
structure VU:Prop where
 x0:FD À "_law_no_more" 10 ["_law_keeper","_law_taker"] (yr gK)
structure VT:Prop where
 x0:FD À "_law_one_more" 11 ["_law_floor_here","_law_keeper","_law_taker"] (yr gJ)
structure VS:Prop where
 x0:FD À "_law_played" 12 ["_law_floor_here","_law_place","_law_pair"] (zQ xm bW)
variable {K mg}(T:Bt mg)(U:Ua mg){h:Heap}(H:HH K)(C:CC K mg)(Q:KK K)(X:K.In h)(G:h.Ns Æ mg)
include T U H C Q X G
theorem MT:D1 À:=by
 cases C;show#[yi [] (H.h0.mk Ì),
  yi [] (H.h4.mk Ì),
  yi [] (H.h9.mk Ì),
  yi [] (H.Jw.mk Ì),
  yi [] (H.Js.mk Ì)]
variable (d1:D1 À)
include d1
theorem MJ:D2 À:=by
 cases C;cases d1;show#[yi [] (H.Jm.mk Ì),
  yi [] (H.Jl.mk Ì),
  yi [] (H.Jd.mk Ì),
  yi [] (H.Jc.mk Ì) (by intro f Af A outer s H E hc nd hN hS hr;ext Þ),
  yi [] (H.Jb.mk Ì)]
variable (d2:D2 À)
include d2
theorem eR:D3 À:=by
 ext Í;show#[yi [] (H.KZ.mk Ì),
  yi [] (H.KY.mk Ì),
  yi [] (H.KW.mk Ì),
  yi [] (H.KU.mk Ì),
  (have:=Q.k1;c9 [] H.m1)]
variable (d3:D3 À)
include d3
theorem MI:D4 À:=by
 ext Í;cases d3;show#[(have:=Q.k1;c9 [] H.m2)]
variable (d4:D4 À)
include d4
theorem MH:D5 À:=by
 ext Í;cases d3;cases d4;show#[yi [] (H.h1.mk Ì),
  yi [] (H.h2.mk Ì),
  yi [(["own","pair"],[none,↑1])] (H.Jv.mk Ì),
  yi [(["pair"],[none])] (H.lY.mk Ì),
  yi [] (H.Ju.mk Ì)]
variable (d5:D5 À)
include d5
theorem MG:D6 À:=by
 ext Â;show#[yi [(["pair","way"],[none,↑1]),(["pair","brims"],[none,↑0])] (H.Jt.mk Ì),
  yi [] (H.Ja.mk Ì)]
variable (d6:D6 À)
include d6
theorem MF:D7 À:=by
 ext Â;cases d6;show#[yi [(["number","bound"],[none,none])] (H.h3.mk Ì),
  yi [] (H.h5.mk Ì),
  yi [] (H.Jr.mk Ì),
  yi [] (H.Jq.mk Ì),
  yi [] (H.dZ.mk Ì)]
variable (d7:D7 À)
include d7
theorem ME:D8 À:=by
 ext Ð;show#[yi [] (H.Xk.mk Ì),
  yi [] (H.Jg.mk Ì),
  yi [] (H.K_.mk Ì),
  (have:=Q.k1;kh [] H.m3)]
variable (d8:D8 À)
include d8
theorem MD:D9 À:=by
 ext Ð;cases d8;show#[yi [] (H.h6.mk Ì),
  yi [(["number","way","place"],[none,none,↑1])] (H.h7.mk Ì),
  yi [] (H.h8.mk Ì),
  yi [] (H.Jj.mk Ì)]
variable (d9:D9 À)
include d9
theorem MS:V_ À:=by
 ext Ð;cases d8;cases d9;show#[yi [] (H.Xl.mk Ì),
  yi [] (H.Jk.mk Ì),
  yi [(["way","floor","pair","told","steps"],[none,↑0,↑2,↑3,↑4])] (H.Je.mk Ì),
  (have:=Q.k1;c9 [] H.m4)]
variable (d10:V_ À)
include d10
theorem MR:VZ À:=by
 ext Ä;show#[yi [(["number","floor"],[none,↑0]),(["way","floor","last"],[none,↑0,↑2])] (H.Jp.mk Ì),
  yi [] (H.Ji.mk Ì),
  yi [] (H.Jf.mk Ì)]
variable (d11:VZ À)
include d11
theorem MQ:VY À:=by
 ext Ä;cases d11;show#[yi [(["way","fresh"],[none,↑2])] (H.Jo.mk Ì),
  yi [] (H.Jh.mk Ì)]
variable (d12:VY À)
include d12
theorem MP:VX À:=by
 ext Õ;show#[yi [(["place","border","last"],[none,none,↑3])] (H.Jn.mk Ì),
  (have:=Q.k1;Ic [] H.m5)]
variable (d13:VX À)
include d13
theorem MO:VW À:=by
 ext Õ;cases d13;show#[yi [] (H.dY.mk Ì),
  (have:=Q.k1;XD [] H.L9 Ì),
  (have:=Q.k1;XD [] H.L8 Ì),
  (have:=Q.k0;kh [] H.m6),
  (have:=Q.k0;kh [] H.m7)]
variable (d14:VW À)
include d14
theorem MN:VV À:=by
 ext É;show#[(have:=Q.k2;kh [] H.m8),
  (have:=Q.k2;kh [] H.m9)]
variable (d15:VV À)
include d15
theorem MM:VU À:=by
 ext É;cases d15;show#[XC [] (H.KS.mk Ì)]
variable (d16:VU À)
include d16
theorem ML:VT À:=by
 ext Û;show#[XC [] (H.KQ.mk Ì)]
variable (d17:VT À)
include d17
theorem MK:VS À:=by
 ext Û;cases d17;show#[yi [] (H.KR.mk Ì)]
variable (d18:VS À)
include d18
theorem Mx {f:Addr}{fd:FuncData}(F:vS K "law" "law" (top 65) f fd):xb À yM 14 f Ø:=by
 ext Û;cases d17;cases d18;show JT [] F (by intro Af A outer s H E hc nd hN hS hr;ext Þ)
end
def all_mk {l:PySem.W.OpenLaw}{w:World}{K:Ac}{h:Heap}{mg:Aq}{fa:Addr}(X:K.In h) (G:h.Ns Æ mg) (ES:mg "law"=↑(.ref fa)) (H:HH K):
  ∃ fd:FuncData,(∀ (s:Shared) (v:Value),BindsTo s fd #[[v],[]] [("_law_script",v)])/\∀ base:Heap,K.In base->base.Ns Æ mg->xb l.prog w K mg base yM 14 fa Ø:=by
 have T:Bt mg:=#[Bk Ì H.z0,Bk Ì H.z1,Bk Ì H.z2,Bk Ì H.z3,Bk Ì H.z4,Bk Ì H.z5,Bk Ì H.z6,Bk Ì H.z7,Bk Ì H.z8,Bk Ì H.z9,Bk Ì H.U1,Bk Ì H.U0,Bk Ì H.Uz];have U:Ua mg:=#[#[Bk Ì H.y0,Bk Ì H.y1,Bk Ì H.y2],Bk Ì H.y3];have dF:=H.dF;have dE:=H.dE;have C:CC K mg:=#[H.JL.mk Ì,H.JK.mk Ì,H.K9.mk Ì,H.MW.mk Ì];have Q:KK K:=#[λ c hc=>by cases AI.mp hc;show dF,λ c hc=>by simp![Am,A6,or_false] at hc;rcases hc with rfl | rfl <;> assumption,λ c hc=>by cases AI.mp hc;show dE];let#[fd,Fl,hb]:=H.KP.law Ì ES λ _ _ _ _ _ _ _ _=>.of_eq rfl;exact#[fd,hb,λ base _ _=>?_];have d1:=MT Ã G;have d2:=MJ Ã G d1;have d3:=eR Ã G d1 d2;have d4:=MI Ò;have d5:=MH Ó;have d6:=MG Ó d5;have d7:=MF Ó d5 d6;have d8:=ME Å;have d9:=MD Å d8;have d10:=MS Å d8 d9;have d11:=MR Ý;have d12:=MQ Ý d11;have d13:=MP Ý d11 d12;have d14:=MO Ë;have d15:=MN Ë d14;have d16:=MM Ë d14 d15;have d17:=ML Ë d14 d15 d16;have d18:=MK Ë d14 d15 d16 d17;show Mx Ë d14 d15 d16 d17 d18 Fl
def walk {l:PySem.W.OpenLaw}{q:Program}{loose:List Str}{XP:(Str->Option Value)->Heap->Prop}{YP:World->Heap->Prop}{d:DefRec}{K:Params->Ac}(hn:l.most=↑63) (Dw:d.params.defaults=[])
  (hY:∀ (w:World) (h:Heap),YP w h->(Ï).In h)
  (F:∀ (w:World) (mg:Aq) (fa:Addr) (h:Heap),(Ï).In h->h.Ns Æ mg->mg d.name=↑(.ref fa)->
   ∃ fd:FuncData,(∀ (s:Shared) (u:Value),BindsTo s fd #[[u],[]] [("_law_script",u)])/\∀ base:Heap,(Ï).In base->base.Ns Æ mg->xb l.prog w (Ï) mg base yM 14 fa fd ["_law_script"] (vV (Ï) (zQ xm kW))):
  PySem.W.WalkO q loose XP YP l.row.toRowW d [] (λ f vs=>PySem.call f vs):=
 L2.UQ (n:=63) (k:=14) (x:="_law_script") (CX:=λ _=>yM) (sp:=λ w=>vV (Ï) (zQ xm kW)) hn () Dw #[rfl,(),()] hY F (λ _ _ a ns hl hO hS=>L_ LX hO hS hl) λ _ _ _ _ _ z=>z
end zN
)

open PySem PySem.W PyProof.Rows
set_option maxHeartbeats 0 in
theorem PySem.Challenge.cw_purseborder_k84_whole_hand_against_hand_holds : PySem.Challenge.rw_purseborder_k84_whole_hand_against_hand.Holds := by
 w_on;o_law;k_head;(case hw=>w_witness2)
 k_fill
 refine zN.walk (l:=PySem.Challenge.rw_purseborder_k84_whole_hand_against_hand) rfl rfl (λ w h Y=>PySem.W.kIn_of Y) ?F
 case F=>
  intro w mg fa h KX G Dn;refine' zN.all_mk KX G Dn ⟨?_,?_,?_,?_,?_,?_,?_,?_,?_,?_,?_,?_,?_,?_,?_,?_,?_,?_,?_,?_,?_,?_,?_,?_,?_,?_,?_,?_,?_,?_,?_,?_,?_,?_,?_,?_,?_,?_,?_,?_,?_,?_,?_,?_,?_,?_,?_,?_,?_,?_,?_,?_,?_,?_,?_,?_,?_,?_,?_,?_,?_,?_,?_,?_,?_,?_,?_,?_,?_,?_,?_,?_,?_,?_,?_,?_,?_,?_,?_,?_,?_⟩
  all_goals first | exact L3.Ei.i (by k_is) (by k_is) (by k_is) (by k_is) (by kernel_rfl) (by k_is) (by k_is) (by k_is) (by k_is) (by k_is) (by k_is) | exact L3.Ec.i (by k_is) (by k_is) (by k_is) (by k_is) (by kernel_rfl) | exact L3.Ez.i (by k_is) (by k_is) (by k_is) (by k_is) (by kernel_rfl) (by k_is) (by k_is) | exact L5.Fx.i (by k_is) (by k_is) (by k_is) (by k_is) | exact L5.Fm.i1 (L5.Ck.i (by k_is) (by k_is) (by k_is) (by k_is) (by k_is) (by k_is) (by k_is) (by k_is)) (by k_is) (by k_is) (by k_is) | exact L5.Fm.i2 (L5.Ck.i (by k_is) (by k_is) (by k_is) (by k_is) (by k_is) (by k_is) (by k_is) (by k_is)) (L5.Ck.i (by k_is) (by k_is) (by k_is) (by k_is) (by k_is) (by k_is) (by k_is) (by k_is)) (by k_is) (by k_is) (by k_is) | exact L5.Fc.i (by k_is) (by k_is) (by k_is) (by k_is) (by k_is) (by k_is) (by k_is) (by k_is) | exact L5.Kl.i (by k_is) (by k_is) (by k_is) (by k_is) (by k_is) (by kernel_rfl) | k_is | exact L5.Cn.i (by k_is) (by exact⟨_,rfl⟩)
