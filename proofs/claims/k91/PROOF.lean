import PyProof.Rows.All
import Wide.All
import OpenK.AllK
import PySem.Challenge.RW_purseborder_k91_desk_rows_refused
set_option Elab.async false
set_option linter.all false
set_option maxRecDepth 100000
set_option genSizeOf false
set_option compiler.extract_closed false
set_option compiler.reuse false
set_option compiler.small 0
set_option bootstrap.genMatcherCode false
abbrev zVP:=PySem.Value->PySem.Shared->Prop
abbrev zLA:=List (PySem.Addr×PySem.Obj)
abbrev zLV:=List PySem.Value
abbrev zSV:=PySem.Str->Option PySem.Value
abbrev zAV:=Array PySem.Value
def zdK {p:Prop}[Decidable p](h:decide p=true:=by decide +kernel):p:=of_decide_eq_true h
noncomputable section
abbrev zFr:=PySem.W.Frag
section
open Lean Syntax
def _N (k:Name) (l:List Syntax):Syntax:=.node .none k l.toArray
def _P (s:String):=_N ("Lean.Parser.Tactic."++s).toName
def _K (s:Syntax):=s.getKind.getString!
def _A (s:Syntax):=s.getArgs.toList
def _R:Nat->Syntax->Syntax
|0,s=>s
|n+1,s=>_P ("rcasesPat."++if s.isIdent then "one" else if s[1].isMissing then "ignore" else "tuple")
 (if s[1].isMissing then [if s.isIdent then s else s[0]] else [s[0],_N `null ((_A s[1]).map λ c=>if c.isAtom then c else _P "rcasesPatLo" [_P "rcasesPatMed" [_N `null [_R n c]],_N `null []]),s[2]])
def _B (s:Syntax):=_A s[1][0][0]
def _I (s:Syntax) (c r:List Syntax):=if s[0].isIdent then c else r
def _Q (s:Syntax):=if _K s[1]=="null" then _A s[1] else [s[1]]
def _E (F:Syntax->List Syntax) (s d:Syntax) (l:List Syntax) (k:Name):Option (List Syntax):=
 let k:=k.getString!
 if k=="x" then if d.isMissing then _Q s else [d[4]]
 else if k=="w" then [_R 9 d[0]] else if k=="z" then
  [_N `byTactic [s,_N `null [_N `null [_N `null (l.flatMap λ c=>
   let y:=mkIdent `y
   let r:=λ p=>_P "rintro" [c,_N `null [_P "rintroPat.one" [_R 9 p]],_N `null []]
   if c[2].isMissing then [r c,c] else r y::c::F (s.setArg 2 (s[2].setArg 0 ((d.setArg 0 c).setArg 4 y)))++[c])]]]] else none
def _Y (T:Name->Option (List Syntax)) (k:Name) (s:Syntax) (F:(Name->Option (List Syntax))->Syntax->List Syntax):List Syntax:=
  let q:=k.getString!
  if q=="one" then _I s [s] (if k.getPrefix.getString! =="rintroPat" then [s] else _A s)
  else if q=="ext"&&_K s[1][0][0]=="byTactic" then _B s[1][0][0]
  else if q=="implicitBinder" then _I s[1] [s] (_A s[1])
  else if q=="app"&&_K s[0]==q then [_N k [s[0][0],_N `null (_A s[0][1]++_A s[1])]]
  else if q=="tuple"&&!s[1].getArgs.isEmpty then [s]
  else (T k).elim [s] λ r=>
   if q=="simpAutoUnfold" then [(s.setArg 3 r.head![3]).setKind r.head!.getKind] else
   let d:=s[2][0]
   let l:=d[0][1].getSepArgs.toList
   if q=="tacticLet__"&&l.isEmpty then [s] else
   ((T ("_"++toString l.length).toName).elim r λ r=>_B r.head!).flatMap (F (_E (F T) s d l))
def _X:Nat->(Name->Option (List Syntax))->Syntax->List Syntax
|0,_,s=>[s]
|n+1,T,s=>match s with
 |.ident _ _ v _=>(T v).getD [s.setInfo .none]
 |.node _ k a=>_Y T k (_N k (a.toList.flatMap (_X n T))) (_X n)
 |_=>[s.setInfo .none]
def _T (c:Syntax):List Char->Nat->Nat->Nat->List Syntax
|a::r,n,i,h=>
 let a:=a.toNat
 let n:=n*77+(if a>92 then a-50 else if a>64 then a-49 else a-48)
 if i<9 then _T c r n (i+1) h else
 c.setArg 1 (c[1].setArg 1 (c[1][1].setArg 0 (mkIdent ("tw"++toString (h+n)).toName)))::_T c r 0 0 (h+n)
|_,_,_,_=>[]
def _C (m o:Syntax) (T:NameMap (List Syntax)):List Syntax->List Syntax
|c::x::b::y::r=>
 let z:=λ l=>l.flatMap (_X 9999 T.find?)
 if !x.isAtom then
  (let t:=c[1][2][1][1]
  (z (if _K t=="str" then _T (c.setArg 1 (c[1].setArg 2 x[1][2])) t[0].getAtomVal.toList 0 0 0
  else [if ["definition","abbrev"].contains (_K c[1]) then c.setArg 0 (c[0].setArg 4 m[4]) else c])).map λ c=>if _K c=="declaration"&&(c.find? λ s=>_K s=="renameI").isNone then _N `Lean.Parser.Command.in [o,c[1][0],c] else c)++_C m o T (x::b::y::r)
 else
 let b:=if _K b=="term[_]"&&_K b[1][0]=="hole" then b[1][2] else b
 let y:=_K c=="paren"
 _C m o (T.insert (if c.isIdent then c.getId else (if y then c[1][1][0][0][0] else c).getKind) (z (if y then _B b else if _K b=="app"&&_K b[0]=="hole"||_K b[4]=="num" then _Q b else [b]))) r
|_=>[]
end
local macro_rules(kind:=Lean.Parser.Command.declaration)|s=>if _K s[1][2][1]!="quot" then Lean.Macro.throwUnsupported else let q:=_A s[1][2][1][1];pure (_N `null (_C s[0] q[1]! {} (_A q.head![1][2][1][1]++q.tail++[s,s,s])))
noncomputable example:=`(
example:=[(by exact x),by refine x,(by show x),by refine x,(by exists x),[_,by simpa using x],(by simp!),by simp only,(by lia),by lia -abstractProof,⋯,by lia -abstractProof,(),by decide,∅,by simp,#[x],⟨x⟩,↑x,some x,(by let x:=x),[_,by obtain w:=x],_3,[_,by first|((first|refine E_2_1 x ?_|refine E_1_2 x ?_|refine E_0_3 x ?_);(try clear x);ext z)|obtain w:=x],_4,[_,by first|((first|refine E_3_1 x ?_|refine E_2_2 x ?_|refine E_1_3 x ?_|refine E_0_4 x ?_);(try clear x);ext z)|obtain w:=x],_5,[_,by first|((first|refine E_4_1 x ?_|refine E_3_2 x ?_|refine E_2_3 x ?_|refine E_1_4 x ?_|refine E_0_5 x ?_);(try clear x);ext z)|obtain w:=x],_6,[_,by first|((first|refine E_4_2 x ?_|refine E_3_3 x ?_|refine E_2_4 x ?_|refine E_1_5 x ?_|refine E_0_6 x ?_);(try clear x);ext z)|obtain w:=x],_7,[_,by first|((first|refine E_4_3 x ?_|refine E_3_4 x ?_|refine E_2_5 x ?_|refine E_1_6 x ?_);(try clear x);ext z)|obtain w:=x],_8,[_,by first|((first|refine E_4_4 x ?_|refine E_3_5 x ?_|refine E_2_6 x ?_);(try clear x);ext z)|obtain w:=x],_9,[_,by first|((first|refine E_4_5 x ?_|refine E_3_6 x ?_);(try clear x);ext z)|obtain w:=x],_10,[_,by first|((first|refine E_4_6 x ?_);(try clear x);ext z)|obtain w:=x],xL,by with_reducible refine PySem.wpAny_bind ?_,wT,by (with_reducible apply PySem.wpAny_ite_true);focus (rfl;done),wS,by with_reducible refine PySem.wpAny_pure ?_,wP,by wp_delta;with_reducible refine PySem.wpAny_bind ?_,v6,by with_reducible refine PySem.wpAny_typeOf (by assumption) ?_,u8,by (with_reducible apply PySem.wpAny_ite_false);focus (rfl;done),t3,by wp_delta,tO,by (with_reducible apply PySem.wpAny_load');focus (heap_get;done),sK,by (with_reducible apply PySem.wpAny_loadPart');focus (heap_get;done),sB,by with_reducible refine PySem.wpAny_of_eq (by assumption) ?_,pI,by with_reducible refine PySem.wpAny_holding ?_,o0,by with_reducible refine PySem.wpAny_alloc' ?_,AC,PySem.wpAny_bind,Gc,PySem.Heap.get?_push_of_some,FM,decide_eq_false,DO,decide_eq_true,ziK,PySem.PassesOwn.never,EQ,PySem.wpAny_mono,WF,PySem.wpAny_loadPart_at,NO,PySem.wpAny_field,OR,PySem.wpAny_holding,P6,PySem.Heap.get?_update_self,P5,PySem.wpAny_call_entry,P4,PySem.wpAny_newObj_type,aS,PySem.Heap.get?_update_other,ziT,PySem.wpAny_setState_of,P9,PySem.wpAny_truthy_bool,Tl,PySem.wpAny_setField,ziW,PySem.wpAny_isSubtype_exc,oR,PySem.wpAny_seqItems,oN,PySem.wpAny_callSpecial?_slot,Tk,PySem.wpAny_typeOf,Uf,PySem.wpAny_execs_nil,zj1,PySem.wpAny_standAt,ZB,PySem.wpAny_passesOwn,zj3,PySem.wpAny_Call_Name_kw,zj4,PySem.Heap.get?_none_of_le,zj5,PySem.wpAny_Call_method_late,zj6,PySem.Heap.get?_update_ne,zj7,PySem.wpAny_setField_rec,zj8,PySem.wpAny_execs_cons,zj9,PySem.wpAny_askSetting,zjA,PySem.wpAny_getItem_str_slice,BT,List.mem_cons_self,Da,List.mem_cons_of_mem,Op,List.not_mem_nil,NE,List.map_nil,IF,List.lookup_cons,IR,List.append_nil,Wp,Bool.false_ne_true,IS,List.any_cons,LT,Nat.lt_or_ge,zfC,List.nodup_cons,On,Nat.ne_of_gt,P8,List.replicate_succ,Of,List.contains_cons,P1,Nat.lt_of_le_of_lt,P7,List.length_nil,iN,List.find?_cons,WP,List.map_congr_left,SL,List.mem_append_left,Rs,Bool.false_and,To,List.length_drop,zfN,List.flatten_cons,Re,List.foldl_cons,iF,Bool.true_and,zfQ,Nat.le_of_lt_succ,f8,Nat.add_comm,Tm,List.all_cons,zfT,List.all_map,zfU,List.length_zip,zfW,List.mem_filterMap,zfY,List.map_drop,dO,Nat.add_le_add_left,zg0,List.getElem?_append_left,dL,List.zip_cons_cons,zg2,List.length_set,zg3,Bool.and_false,zg4,Bool.or_true,zg5,List.pairwise_map,bY,Array.getElem_toList,zg7,Nat.lt_trichotomy,aT,Array.getElem?_eq_none,zg9,Nat.lt_succ_of_lt,zgA,List.sum_cons,zgB,List.of_mem_zip,zgC,List.length_take,zgD,List.forIn_cons,zgE,List.getElem?_set,zgF,List.ext_getElem,zgG,Nat.mul_le_mul_right,zgH,Int.toNat_natCast,zgI,Int.min_eq_right,zgJ,Nat.le_sub_one_of_lt,zgK,List.filterMap_cons,zgL,Nat.le_succ,zgM,List.getElem?_append_right,zgN,Array.size_map,zgO,List.pairwise_iff_getElem,zgP,List.map_id,zgQ,Nat.mul_comm,zgR,Nat.mod_lt,zgS,List.take_append_drop,zgT,List.mem_of_mem_drop,zgU,List.toList_toArray,zgV,Bool.not_true,zgW,List.map_take,zgX,List.any_map,zgY,List.cons_append,zgZ,List.exists_cons_of_ne_nil,zh0,Int.mul_nonneg,zh1,Int.natCast_succ,zh2,Int.add_mul,zh3,List.foldl_append,zh4,Nat.lt_of_le_of_ne,zh5,Nat.add_sub_cancel',zh6,Nat.min_le_right,zh8,List.getElem?_replicate,zh9,Bool.or_false,zhA,List.lookup_append,zhB,List.getElem?_eq_none,zhC,Array.getD_eq_getD_getElem?,zhD,Option.isSome_map,zhE,Array.getElem?_setIfInBounds,zhF,Bool.and_self,zhG,List.zipIdx_cons,zhH,List.length_filter_le,zhI,Int.min_eq_left,zhJ,Nat.min_eq_right,zhK,Nat.sub_one_lt_of_lt,zhL,Nat.le_div_iff_mul_le,zhM,Nat.sub_eq_zero_of_le,zhN,Nat.sub_le_of_le_add,zhO,List.getElem?_set_self,zhP,List.getElem?_set_ne,zhQ,List.length_replicate,zhR,List.zip_nil_left,zhS,List.pairwise_append,zhT,List.pairwise_singleton,zhU,List.getElem?_zip_eq_some,zhV,List.getElem_range,zhW,List.drop_eq_getElem_cons,zhX,List.nodup_range,zhY,List.getElem?_cons_succ,zhZ,Bool.eq_false_iff,zi0,List.perm_ext_iff_of_nodup,zi2,Array.size_append,zi3,Bool.or_eq_false_iff,zi4,List.take_of_length_le,zi5,Nat.add_sub_cancel_left,zi6,List.isEmpty_iff,zi7,List.mem_of_find?_eq_some,zi8,Int.le_add_of_sub_right_le,zi9,Int.sub_right_le_of_le_add,ziA,Bool.not_eq_true',ziB,Bool.beq_eq_decide_eq,ziC,Int.ediv_nonneg,ziD,Array.all_toList,ziE,Array.getElem?_setIfInBounds_ne,ziF,List.drop_append_of_le_length,GT,List.size_toArray,Go,List.getElem?_eq_getElem,Fa,List.getElem?_map,zA4,Nat.le_refl,KK,List.mem_cons,As,List.map_cons,AS,List.length_map,IO,PySem.Heap.lt_size,zA9,PySem.Heap.get?_push_size,Id,List.getD_eq_getElem?_getD,zB2,Bool.not_false,FS,Nat.ne_of_lt,PP,List.mem_append_right,zB6,List.mem_singleton,P2,List.mem_of_getElem?,ON,Array.getElem?_eq_getElem,nO,List.mem_append,GM,List.length_cons,zC1,List.mem_range,LE,PySem.W.mg_none_of,KE,Nat.lt_of_lt_of_le,iS,Bool.false_eq_true,zC5,List.length_range,zC6,Int.le_refl,OF,Bool.eq_iff_iff,zC8,List.mem_filter,Do,Option.bind_some,TW,List.any_eq_true,AT,PySem.wpAny_pure,Ps,Array.length_toList,Pi,Array.getElem?_toList,zD4,Nat.zero_le,KB,Option.some.inj,Db,List.map_map,GE,List.length_append,TD,List.getElem_mem,BY,Nat.le_trans,zE1,Nat.lt_irrefl,UF,Nat.lt_succ_self,No,Nat.le_of_lt,zE4,List.all_eq_true,By,Bool.and_eq_true,Os,Bool.or_eq_true,IN,List.map_append,Ix,List.append_assoc,XL,Bool.not_eq_true,zF0,Int.emod_nonneg,zF1,Int.emod_lt_of_pos,SZ,Int.toNat_of_nonneg,sP,.Subscript,CQ,by decide +kernel,ĕ,T.int,À,_ _ _,ĉ,_ À À,ű,.Attribute,A1,.BinOp,Ă,.Call,Ð,_ À _,òK,by change PD _ (Ă (ű Ð) Ð) _;apply Ũ0,ĎT,ű _ "kept" _,ø,T.str,ÑC,_ (Hs.a hc) hS hN,Gh,.Compare,ßl,ą9 hS hN,ÑD,_ (Hs.b hc) hS hN,Ŷ,by assumption,ć,.Name,ϱ5,ć "lows" _,UT,fit_le,QW,zH.mo,îL,_ ζ5 ζ5 UT UT QW QW,ş,_::_,Kc,(by ext Ŷ),Ep,T.len,Ϥ,by (change PD Ð;first | (change PD _ (ć À) _;first | show zi 0 | show zi 1 | show zi 2 | show zi 3 | show zi 4 | show zi 5 | show zi 6 | show zi 7 | show zi 8 | show zi 9 | show zi 10 | show zi 11 | show zi 12 | show zi 13 | show zi 14 | show ð4 Kc | show ë7 Kc | show Č0 Kc) | show é6 | show å6 | show Ζ0 | show å4 | (change PD _ (sP (ϱ5) À) _;apply â4 hr) | (change PD _ (Ă _ [ϱ5] À) _;apply ê2 Ep) | show â9 | (change PD _ (Ă (ű (ϱ5) À) Ð) _;apply ø8 hr) | (change PD _ (sP (ĎT) À) _;apply Ĕ6 hr Kc) | (change PD _ (sP (ć "FORMS" _) À) _;apply à0;ext Ŷ) | (change PD _ (.Dict (ş) À) _;apply Ê7) | (change PD _ (Ă (ű _ "get" _) Ð) _;apply ĝ4 hr) | apply ã5 | apply Ê9 | apply Ñ6 | apply û3 | (change PD _ (Ă (ű _ "extend" _) [sP Ð] À) _;apply Ë0) | apply Í4 | apply õ4 | apply Ç8 | apply Û5 | apply ê1 | (ext òK;ext Ŷ) | (ext òK;show wy.no Kc) | (change PD _ (Ă (sP (ć À) À) Ð) _;apply ē6;ext Ŷ) | show Ď5 Kc hr | (change PD _ (Ă ĉ) _;first | (apply ğ6;ext Ŷ) | (apply ğ6;show wH.no Kc) | apply þ5 ø | apply Ð4 Ep | apply Ã0 T.list T.range | apply Ć6 T.list | apply Ā8 T.tuple | apply Ĉ2 T.max | apply ù6 T.min | apply Đ4 T.all | apply Ĉ7 hr T.sorted U.set | apply í5 T.sorted | apply Ñ3 ĕ | apply Ö4 T | apply Ĝ4 T | apply Đ0 T | apply ć3 T | apply å9 | apply Ĉ8 | (apply Î1;ext Ŷ) | apply L3.ģ0 yW) | (change PD _ (A1 ĉ) _;first | apply Ù4 | apply ç2 | apply Ø4 | apply Í3 | apply þ3 | apply Ô5 | apply ò9 | apply Ĝ0) | (change PD _ (Gh ĉ) _;first | apply Ë4 hr | apply Ô2 hr | apply ù0 hr | apply ü1 | apply ò2 | apply Ý3 hr | apply L5.ģ0 | apply ē4 îL) | apply ď5 | apply Đ6 | apply ð7 | apply Ø7 | apply á7 | apply ñ9 | apply Ý8 | (apply pl ÑC;show ßl;ext CQ) | (apply pl ÑD;show ßl;ext CQ)),GQ,_ ?_ ?_,ëY,(by with_reducible first | show ō2 | show ĳ3 | show Ő7 | show Ĭ1),ϥ,by ((try first | exact zI.fr ?_ | exact zI.Ę9 ?_);with_reducible first | apply Ď3 | exact į5 (R:=zk) ?_ | exact į5 (R:=zq) ?_ | apply í7 | exact ľ5 (R:=zk) GQ | show ē5 _ | exact Ο9 (R:=zk) (by with_reducible first | show good_add | show ō2 | show Ĕ0 | show ę0 | show ł6 | show ó3 | show ĳ3 | show Ő7 | show Ĭ1 | show ú2 | show Ĝ3 | show Ĥ8 | show Š1) GQ | exact Ń7 (R:=zk) ?_ | exact ē8 (R:=zk) (by with_reducible first | show Ę0 | show Õ9 | show Ç6 | show æ6 | show đ9 | show Ú5 | show Ĝ9 | show Ğ4 | show Ë1 | show Ğ6 | show Ė3) ?_ | apply É5 | apply É4 | apply À7 | apply ý2 | apply ø7 | show Þ3 _ | show Đ9 _ | show ÿ6 | apply Ò1 | apply č1 | apply à1 | apply À5 | exact õ1 ëY ëY GQ ?_ | apply ö4 | apply Ç4 | show õ5 _ | apply ç6 | apply Č5 | apply Ā9 | show č0 _ | apply é0 | exact Ñ9 (R:=zk) (by with_reducible first | show Ă7 | show î6 | show Á7 | show ò3) GQ),B_,.Assign,ÃZ,.Return,Ϭ3,by show ßl;rfl;ext CQ,õW,(Ă (ű _ "say" _) Ð),Ϧ,by (change zw Ð;first | (change zw _ (ÃZ ↑(Ă (ű _ "keep" _) Ð) _) _;first | (apply á5;ext Ŷ) | show Ő1) | (change zw _ (.If (Gh õW Ð) Ð) _;apply Ä2;ext Ŷ) | apply Ř6 | apply į1 | apply Õ1 ziK rfl | apply Ë3 ziK | (apply Ě1 ÑC nd;ext Ϭ3) | (apply Ě1 ÑD nd;ext Ϭ3) | (change zw _ (B_ [sP (ϱ5) À] À) _;apply ô9 hr) | apply Ć7 | apply ö3 | apply Þ5 | apply ē1 | show (Ő1:zw _ (.Raise Ð) _)),tR,.NotIn,ϧ,by (change zG Ð;first | (change zG _ (Gh _ [tR] [ĎT] _) _;apply ė0 hr Kc) | (change zG _ (Gh _ [tR] [ć "FORMS" _] _) _;apply æ4;ext Ŷ) | (change zG _ (Gh ĉ) _;first | apply Ë9 hr | apply Ă3 hr | apply ō1 hr | apply û2 | apply É8 | apply ă9 hr | apply â5 hr | apply Ā1 | apply ú5 | apply Î4 îL) | apply Ò6 | (apply wN.pt;first | apply y_ | apply xa) | apply é2),ßS,by with_reducible first | show É3 _ | show È0 | exact ľ5 (R:=zq) GQ | exact Ο9 (R:=zq) Ė5 GQ | exact Ń7 (R:=zq) ?_ | apply Ê0 | apply ā7 | apply č6 | apply ğ0 | apply è0,Û,List Str,Ϩ,by (with_reducible first | apply š2 | apply È7 | apply È4 | show ù9 | apply ă2 | apply ó0 | apply Ç1 | apply ù2 | apply é7 | show ś0 _ | apply Í1 | show ö5 | apply Í7 | apply æ3 | apply û6 | show Æ8 _ | apply Ô4 | apply Æ2 | show Ø5 _ | apply ÿ9 | show Ĕ4 _ | apply ć9 | apply Ö5 | apply Ý6 | apply ī2 | apply ě0 | apply ï3),Õ,s.heap.objs.size,ϩ,by (with_reducible first | show Ò2 | apply ð8 | show à2 | apply æ8 | apply æ0 | apply Ĕ5 | apply ô0 | apply Ă2 | apply Ć9 | show ø6 | show î1 | apply Ē9 | show õ2 _ | show ù8 | apply Č9 | show Ā4 | apply ß4 | apply Ħ5 | apply ú3 | apply ĕ7 | apply ă0 | apply ġ9 | apply Ò5 | apply ė6 | show ć6 | apply Ā2),Üg,.ListComp,Ϫ,by (change yb À (B_ _ (Üg ĉ) _) _;first | (apply Ł3 ÑC;ext Ϭ3) | (apply Ł3 ÑD;ext Ϭ3)),õ,Option,ϫ,by (change PE Ð;first | show zg 0 | show zg 1 | show zg 2 | show zg 3 | show zg 4 | show zg 5 | show zg 6 | show zg 7 | show zg 8 | show zg 9 | show zg 10 | show zg 11 | show zg 12 | show zg 13 | show zg 14),Ql,zEE X e [],χ9,(apos.endLine == cpos.line)=true,Ue,∀(hline:χ9),0,Óm,zEB X cpos [],FI,starEach,Kk,(if ([]:List Keyword).isEmpty then 0 else 1),Q6,(λ x=>!x.1),Í,decide,BN,backTo,Ù,X.env,KH,([]:List Keyword).length,Øe,backToKw,ÉM,(keywordEach [] Ù),PH,(Øe cpos ÉM).all (λ x=>x.1.isSome),âQ,((BN cpos (FI [e] Ù)).all Q6&&PH && Í ([e].length+KH+Kk<30)),VZ,hplain,G0,∀(hfew:âQ=true) Ue (hs:Ql) (VZ:Óm),0,Ä4,_ K mg,Ê,_ P w Ä4 base,Ö,_ rfl rfl,Ϭ,by (change vo Ð;first | show zh 0 | show zh 1 | show zh 2 | show zh 3 | show zh 4 | show zh 5 | show zh 6 | show zh 7 | show zh 8 | show zh 9 | show zh 10 | show zh 11 | show zh 12 | show zh 13 | show zh 14),Á,false,ϭ,by (change yc ĉ;first | apply Ĥ9 T.range | apply ē3 T.range | apply Ď0 U.zip | apply É2 U.enumerate | apply ă7),Fy,_ X gV,Č,_ Fy σ,ŉ,Inv Č H s,à,.ref,Ã,.str,xh,X.prog,η,_ xh X.w,Èj,(model η),Ā,_ Èj X.A,Ϯ,by (change yb ĉ;first | (apply Ġ4;ext Ŷ) | (apply ă5;ext Ŷ) | apply Ď2 | apply ß0 | apply Ó3),Â,.int,é,List Int,qo,(_:Û),ďH,zw _ (.If (Ă (ű _ "startswith" _) Ð) Ð) _,ϯ,by (change yb À (.Expr õW _) _;apply ï5),ų,scope,oa,_ cl C s H fp,ĆN,Ť8 X N' ų oa,tI,(ĆN),ĥ,_ prog w,U5,(model ĥ),í,_ U5 A,Ç,if_pos,â,sizeLine,u6,∀{gV:zLA},0,θ,Shared,Λ,∀{s:θ},0,æ,∀{H:Hp},0,Υ,∀{σ:St},0,Ĵ,∀ u6 Υ æ Λ,0,ϰ,by (with_reducible first | show Î3 _ | apply í8 | apply ė2 | apply Î5 | apply à4),sO,∀{A:Around},0,ë1,∀{E:zVP},0,Eo,∀ sO ë1,0,Ľ5,World,Ĝ8,∀{w:Ľ5},0,Q_,Program,Gf,∀{prog:Q_}Ĝ8,0,ώ,∀ Gf Eo Λ,0,Ø,Value,ö,List T,Ô,PyProof.Rows,Å,.lst,ϱ,by (change wV Ð;first | apply À4 | apply Î0 | (apply ü8;ext Ŷ)),É,if_neg,ŀ,by let#[L,S,r1,r2,z]:=hu,ÀT,à P::bmB,Ō,h.get?,Úk,_ nm q C N bs,l6,excClassObj,DU,newId,GH,_ k1 k2,øK,_ sub ab col dd k0 GH k3,áw,_ sn øK,Üs,_ áw k5 DU,ßT,Ō C=↑(l6 Úk (ÀT) true Üs),AQ,∀(σ:St),0,ŭ,∀(s:θ),0,ŝ0,∀(gV:zLA),0,ô,∀(H:Hp),0,Ű,∀ ŝ0 ŭ AQ ô,0,Ó,congrArg,ò,xs.length,ϲ,by (exact vh.s ?_;with_reducible first | apply ī2 | apply ě0),ġ,outer,rf,List Env,sN,∀(ġ:rf),0,Ģ2,∀(E:XK),0,Ü4,∀(A:Around),0,Ð5,∀(cdv:Ø) Ü4 sN ŭ ô Ģ2,0,ϛ4,[_,by have yW:=C.uc;cases C;cases d1],τ7,[_,by ext ϛ4;cases d2;cases d3;cases d4],ż,s.heap.get?,OC,∀(ha:PD X a ta),0,Š,∀ OC (hb:PD X b tb),0,ù,(zb 0),š,Int×Int,Ė,∀{P:Q_}Ĝ8,0,ç,_ σ H,Ŋ,_ gV s ç,Tb,("__debug__":Str),QS,(x == Tb)=Á,ϳ,by (change Lit Ð;first | show Lit.nil | apply Lit.cons),KR,_ A ġ s H,Áe,_ cdv KR E,um,_ f Áe,ϴ,θ->Prop,TX,#[(),()],ÀI,yR Ö TX,ßU,(zJ (yD (ÀI) (zJ (zJ Ö (Ç (e:=none) cm)) Ö) ps) Ö),Ä,wpAny,CH,zEE X e es,AZ,hbase,AR,(e::es),Óy,FI AR Ù,ĉL,BN cpos (Óy),âE,((ĉL).all Q6&&PH && Í ((e::es).length+KH+Kk<30)),Òe,zEB X cpos es,tN,eval o Ù,Ea,_ Ù (tN),qM,attributeBase,ām,qM o name Ea=tN,Åi,∀(AZ:ām) (hfew:âE=true) Ue (hs:CH) (VZ:Òe),0,ø9,(Üg elt [#[tg,iter,ifs,0]] ų pos),å,PySem.Spec,Âg,(by k_is),K8,_ Âg Âg,GV,_ K8 K8,đ,Value.ref,ϵ,by (change xU ĉ;first | show Ó5 | apply Ĕ2 | apply ŧ2),F8,by intro f cdv A ġ s H E hc nd hN hS hr,DV,_ Ö rfl,wJ,(zJ DV),fS,(zj wJ rfl),Öx,(zj wJ fS),HS,of_decide_eq_true,Et,(HS rfl),Åj,(oK rfl (wZ (zj rfl (zj (yD (ÀI) rfl pm) Öx)) Et) (LQ.Ō3 hl)),ċ,List.range,Î,.tup,ð,s.heap,ĵ,List.replicate,Ï,∀(K:zFr),0,Ž2,env.kindOf,Ì1,.cell,Čp,Ž2 n == ↑ Ì1,RO,NameKind.free,QO,.function,ÌR,env.scope.kind == QO,τ8,(k == RO&&ÌR&&Čp),Į,.type,pF,Ã z,AO,.Constant,ώ5,AO (pF) j2 p2,Ir,Ã y,DJ,(Ir),Ro,Expr.Constant DJ j1 p1,ýX,FI [Ro,ώ5] Ù,Óa,AO DJ j1 p1,ύ1,(Á,eval (Óa) Ù),ùH,(Á,eval (ώ5) Ù),Zc,z.length,ßV,∀(hyz:(y == z)=Á) (hz:Zc<=14) (AZ:qM o "replace" Ea=tN) (hfew:((BN cpos (ýX)).all Q6&&PH && Í ([Ro,ώ5].length+KH+Kk<30))=true) Ue (hs:ýX=[ύ1,ùH]),0,Ϸ,by (change xA Ð;first | show ò8 | apply Ŭ9 | apply vk),Az,List D,ñ,∀{ds:Az},0,į,[].toArray,yo,mainGlobals,Ŧ,s.heap.push,TQ,by intro X hP hw hK hc i gV s σ H E I hf st hg;subst hP hw hK,Te,J.go i H,ik,_ σ H',ÜV,W i m ç,ϳ5,J.stop i H,sY,(à D),VH,(Å ys),Dg,ys.length,Ζ,(i+1),ZM,_ Ζ m',àr,λ y H4=>∃ ys m',H4 D=↑ VH/\Dg<â/\m'<m/\W ZM σ2 (upd H4 D (Å (ys++[y]))),Nj,b=true,UB,J.iB i H x H',Åk,∀ i m σ H,ÜV->(ϳ5/\Q sY H)\/(Te/\∀ x H',UB->g x ik fun σ2 H2=>tc σ2 H2 λ b H3=> if Nj then te σ2 H3 àr else ∃ m',m'<m/\W ZM σ2 H3),Æ,.inr,ü,(k:Int),IP,Î2 st,Ć,.none,oj,(Ν3 st),Ëg,_ (ē9 st) (IP) oj Ć kV,ÔI,_ doc pm an cdv,eM,_ Ëg ÔI,Ţ,_ S Z L Y,Ϗ,Ev->õ (ö),ϸ,by (change yc À (ć "_law_word" _) _;apply ķ9),ûy,[_,(by intro z;cases z)],Z7,by rw[zR (Ÿ8 q h ûy)];show q,Ì,∀{X:Cx},0,Áj,_ x y os ws,IU,_ Áj qs,GI,_ rfl (),τ9,(yD (ÀI) GI),øT,_ l.prog base T U H C X G,UH,_ øT d1,á,absurd,È,.inl,Ge,#[h,g,d,t,os],qY,by (with_reducible exact WF hx ?_;rw[hc]),Kh,List (õ Nat),ŋ,PySem.W.nsIn,ē,ts.length,UU,λ x S1 v H1 h1 q1 e1 p1=>?_,Ü,∀(i:Nat),0,ä9,_ X pos,ÑP,zEB ä9 es,BC,∀(he:CH) (hpl:ÑP),0,Ä7,(cS (Ã " ")),rM,Hp->Prop,Ϲ,by (change yc À (ć "word" _) _;apply ķ9),ÚZ,h₁.get?,jM,base.StaysIn,Üh,hl.mem hm,Ďx,(hkb b o hbo),qd,_ À Ð,ûW,EntryCells.newEntry,Àp,hs₁.2.1,rP,.fields,Hr,Value.none,Ck,rawInt,RK,Ck L,âF,rP ([head,à L,Ć,RK,Ć]++(if pl.isEmpty then ĵ 6 Hr else pl)).toArray,ßW,[_,by unfold ûW newFields;exact AC (P4 ?_ (hpl.sizeOk5 qd));have he₁:ÚZ e=↑oe:=(Àp e hene).trans he;have kb₁:jM h₁:=λ b o hbo=>(Àp b λ hm=>by rw[(Üh).1] at hbo;cases hbo).trans Ďx;generalize htb:({ cls:=Į "traceback",dict:=none,data:=âF }:Obj)=tb;have tbd:tb.data=âF:=by rw[<- htb]],Ğ,List (é),Ý,∀{K:zFr},0,ϟ,Option.bind_eq_some_iff.mp,ŗ,ϟ e,Ϻ,#[rfl,rfl,rfl,rfl],Lx,Ã "floor",Âd,cS (Lx),Ft,zS Á,Α,(Ft),ļ,(zb 2),qq,_ zp ļ,Ļ,(cI 0),NV,_ qq Ļ,LY,(ze NV),Åe,_ Α LY,Éz,(yh (ze Åe (Âd))),u7,(zb 5),ÉP,(zm yI (zc u7 zf)),RU,(zc ļ zf),Íd,(zm yI RU),Ax,(zS true),Ď,(cI 1),ðh,(ze Ax Íd (ze zC ÉP Ď)),ω6,_ [6] (wq ny (zc ÉP zf)) (zP 6),Ij,(cI 2),ĆJ,(ze Τ5 Íd Ij),RP,(cS .zB),ÙD,(retS RP),ϸ2,cS (Ã ""),Ω,(zx 0),YO,(zc Ω zf),Âf,Ã "row",ÈN,(tupS (zc (cS (Âf)) YO)),ßX,(zv (y9 (mD Éz (yh ĆJ)) (yk 5 (cS (Ã "n"))) (y9 (o5 (yh (ze Α u7 (ϸ2))) (yh ðh)) (retS ÈN) yF)) (zv (vd ω6 Η3) (zv (vd ω6 ő4) ÙD))),ît,λ d S1 s1 r1=>?_,QR,_ e1 ît,Gp,items.size,Lg,nofun,ÝL,λ _=>Lg,E8,(ÝL),sS,X.stack,Yh,X.outer,Ye,Ù::Yh,uS,X.env.locals,Îa,X.env.frame=↑ uS,Ha,∀(hst:sS=Ye) (hfr:Îa),0,Ě,(·.1),qz,[_,by rcases x_ e with ⟨rfl,hl,e⟩ | ⟨n,e⟩],ě,F.os.length,qy,by intro gV s σ H x y v u Q I rx ry h,Ř,(f Y).bind,UP,SetTable,t_,Array,Mv,t_ (Int× Ø),Tf,∀{es:Mv}{ep:Nat}{t:UP},0,Ħ,Str.join,ϻ,by (change yC Ð;first | show ŉ6 | apply ķ4),ÌM,[_,by ext τ7;cases d5;cases d6;cases d7],Ål,[_,by ext ÌM;cases d8;cases d9],ϱ8,X.calm=true,ĺ,∀(hc:ϱ8),0,À0,List V,CE,field,Ic,AT ?_,A2,(Ic),ĎF,_ (x:=Ć) rfl A2,ÒM,wpAny_attempt,ĆO,F.slot_zip_next,Ψ,_ rfl ?_,tZ,if_true,WN,by simp![tZ],FK,.bool,KC,FK Á,ϒ2,Str.ofString "__next__",xq,(à z),ďI,by exact AC (ÒM (oN (name:=ϒ2) hT ĆO (P5 ĆO hT F.entry_zip_next ?_ (F.args_zip_next_1 _))));exact AC (m:=CE xq 2) (NO hz rfl (x:=KC) Ψ);exact AC (m:=CE xq 3) (NO hz rfl (x:=à TI) Ψ);exact AC (m:=seqItems? (à TI)) (oR hti Ψ);exact AC (m:=Builtin.SmallTypes.ownedTupleIsFree xq) (AC (m:=CE xq 0) (NO hz rfl ĎF));ext WN,vG,s1.trans,Cs,vG s2,Äj,‹_›,RC,_ Äj hA,þ,∀{α:Type},0,ŧ,by intro gV s σ H Q I h,fM,s.heap.FunFrames,ßm,env::ġ,AY,∀{Q:Unit->ϴ},0,Ÿ5,_ base (ßm),TJ,∀ AY (hfr:A.frames=↑(ßm)) (hl:fM Ÿ5) (hf:env.frame=↑L),0,Ë,PySem,Ų,fun σ H Q hu=>?_,ħ,(zb 1),Pn,rk ĥ,Km,(Pn).hash,pP,õ Bool,sZ,Ev->pP,İ,ps.length,Gz,_ S (.refl S),rN,Hp->VK->Prop,Ũ,its.toArray,Ú,∀(I:ŉ),0,À1,by (change vp Ð;apply Ā7;ext Ŷ),Ìe,PySem.W.hideAll_none,ëq,PySem.W.of_hideAll,ýy,(λ b o q=>ëq _ q),Æy,_ ýy (Ìe _ ∅),Ãm,I.stack,ñL,by rw[hst] at hF;have hS:=Ãm;rw[hst] at hS,Dj,#[rfl,rfl],ÅA,#[oe,vs,oT,ts,g0,#[Dj,g3],g1,g2,Ìe _ ∅,g4,g6,g7,g8],ÐZ,env.frame=↑a,RH,xY sS,TZ,[e,T]++RH,íW,PP _ (List.mem_filterMap.mpr #[env,by rw[hst];show hm,ha]),ãe,by let#[oe,vs,a0,T,oT,ts,g0,g1,g3,g2,g4,g5,g6,g7,g8]:=hf,ÈG,PySem.W.funFrames_hide,N2,PySem.W.hideAll,ßY,by ext ñL;ext ãe;have hin:∀ env∈ Ye,∀ a,ÐZ->a∈ TZ:=λ env hm a ha=>íW;exact î5 (base:=N2 ð (TZ)) hF (ÈG hS hin) hfr ÅA Æy λ h1 x=>?_,Bl,List Expr,V3,intKind ĥ,OP,(V3).hash,DD,Ã _,Öi,#[t',rfl],ær,λ t' k=>#[DD,H,I.tok k,Öi,q],Åm,_ (st:=none) #[o,h1,h2,h3] rfl (post_val_or_str #[BY (Txt.slice_le z À) hz,ær]),Ν,decide_eq_true_eq,qF,X.env.scope.names.lookup,ßZ,∀ x,foldedSetIterable iter Ù x=pure x,Ĩ,h.objs.size,ϙ3,X.env.cells.lookup,IM,ϙ3 x=↑c,Þ,by dsimp only,ķ,List.mem_cons.mp,iV,[_,by rcases ķ hp with rfl | hp],B2,õ Ø,ł,õ Addr,Kv,∀{sn:Û}{sub:zLV}{ab:Bool}{col:pP}{dd:ł}{k0 k1 k2 k3 k5:B2},0,ß,∀{Y:Ev},0,ďw,[_,by ext Ål;cases d10;cases d11],Ëj,[_,by ext ďw;cases d12],Ån,[_,by ext Ëj;cases d13;cases d14],Ċ,∀(w:Ľ5),0,å0,w::ws,ĊF,((å0).map ø),Ϗ6,(Å ĊF),Rm,(.im Ϗ6),tU,.ext,Bx,(upd H l (tU (ST.wU w l us))),Hh,by intro gV s σ H xs us Q I r h,ϐ,.builtin,tJ,(.refl H),HQ,(λ b=>↑(T.bl b)),ι,h'.get?,Ÿ,zA4 _,Ķ,(Ÿ),gP,_ gV s1,Ş,_ σ H1,ph,_ gP Ş,OH,by (first | show Ë8 _ | apply Ô9 | apply á1),ëj,_ o "startswith",ĉB,qM ëj Ea=tN,àa,∀(AZ:ĉB) (hfew:((BN cpos (FI [Ro] Ù)).all Q6&&PH && Í ([Ro].length+KH+Kk<30))=true) Ue (hs:FI [Ro] Ù=[ύ1]),0,À3,by (exact zI.er ?_;ext ßS),ú,∀{a:Addr},0,ŀ4,hd₃,ī7,h₁.objs.size,ËP,h₁.push tb,C7,Obj.mapFields,Pr,·.setIfInBounds,ăF,(Pr 1 (đ ī7)),ÅQ,(C7 ăF),RY,he₃,PX,Obj.data_mapFields,Ł,Ne.symm,ϕ0,Obj.isFreed_of_fields,àb,by have hTe:ī7 ≠e:=On (IO he₁);have ŀ4:=PX hd ăF;have RY:=P6 ÅQ he₂ (ϕ0 ŀ4);have hT₃:=(aS (ËP) ÅQ (Ł hTe)).trans (zA9 h₁ tbf),ê,False,Ox,(Üg elt [#[tg,iter,[],0]] ų pos),BF,by let#[a,b,c,d,rfl,ha,hb,hc,hd]:=h,υ0,xE yQ Ê N "Desk.say" oj um,ÖY,[a,b].map,JU,Å (ÖY ø),EG,_ ks ts,uV,.zE EG,ϸ0,(zc ù zf),G5,(zm yI ϸ0),sG,w.params.followText "set-order",Ñ,_ a b,T4,by let#[c,cs,rfl,h1,h2]:=h,ED,beq_eq_false_iff_ne.mpr,HY,Unit.unit,pZ,Q HY { s with heap:=h' },Gx,(zx 1),VD,(zc Gx zf),NN,(zc Ω VD),ϻ8,(x,RO),Ez,scope.names,GR,ϻ8 ∈ Ez,ÊS,_ UH d2 d3 d4 d5,ßM,_ ÊS d6 d7,zD,_ ßM d8 d9,ë,h.elim,qS,by (change _∈ļ4;simp),ì,.own,ř,õ Int,GZ,o.cls,sD,à C,Hb,∀(hx:Ō x=↑o) (hc:GZ=sD),0,Õ0,#[[c].toArray],Ò,_ K H,ó,_ L S À,Ãw,X.A.in1,Fj,.bl _,ċi,_ I a3 hz a6 g2 w1,Lh,X.A.units,υ1,[_,_ (λ y hy=>Ũ8 ċi a4 a1 rx (A:=Ãw) (by change Lh+1+_<_;show LQ.Ļ3 hu a8) (by change Lh+1+_<_;show LQ.Ļ3 hu a7) (by exists hy)) #[Fj,H,I,rfl,?_]],Dv,by (exact zI.er ?_;first | apply xv),ı,List (š),FC,∀(us:zLV),0,Ŭ6,∀(kV doc pm:Ø) (an:ł) (cdv ct:Ø) FC,0,Ć8,PySem.W.fnOf,ÈK,(ps.zip us),SW,pure ÈK,Wq,bindArgs,TH,vq N ps oj,Ðf,∀(Sc:TH) (hn:n=İ),0,Æ5,us.length,Š3,Æ5=İ,ę1,#[us,[]],Åo,∀ Ðf (hb:∀ Ŭ6,Š3->Wq (Ć8 x x eM ct) ę1=SW),0,ĉn,List.nodup_nil,Mq,or_false,P3,not_or,ÿS,not_false_eq_true,ċ7,s.TypeIs,ďJ,by simp![zfC,KK,Op,Mq,P3,ĉn,and_true,ÿS] at nd f1 f2;let#[#[n1,n2,n3,n4],#[Ų1,n6,n7],#[n8,n9],n10]:=nd;let#[a1,a2,a3,a4,a5]:=f1;let#[b1,b2,b3,b4,b5]:=f2;let#[hz,hti,#[a,b,hto],s1,s2]:=S;have hT:ċ7 xq "zip":=#[_,hz,rfl],P0,[_,by rcases h with h | ⟨_,_,_,h,_⟩ | ⟨_,_,_,_,h,_⟩],Θ,xs.map,Ē,∀{pos:Pos},0,Ş5,r1.ext,DA,Ş5 e1,è,∀{S:SS},0,Ñ2,∀(hn:∀ v s,¬ X.xe v s),0,î7,by let#[x,H1,I1,r1,q1]:=z0,ØH,h.Ns yo mg,ÂE,∀(X:K.In h),0,Ú9,∀ ÂE (G:ØH),0,ã,.cons,ý,∀{k:Nat},0,ϑ,x.length,Mu,.new,av,Mu hp _,Ι,(av),BU,w.length,DB,ws.zip fs,Gn,_ Ŋ _ I h,LA,_ X.K X.mg,pB,X.base,En,_ η LA pB,ϳ7,sysModules,M7,(a == ϳ7)=Á,Qi,(vJ P w),Rn,KV tp vs,WR,tp.length,VT,WR<=â,XR,VT/\M7/\∃ vs,Rn/\h.DictOf Qi a vs,èu,rP [Â lo t,Â hi u,Â 1 v].toArray,ϳ1,Į "range",Åp,Ŧ { cls:=ϳ1,data:=èu },ÿ,∀{ts:ö},0,μ,fs.length,A0,vs.toArray,ÕI,λ j t e=>?_,HI,h.len,ϣ0,by simp[HI],VA,h.er.zd,Åq,#[#[VA,ÕI,λ j ts e=>?_],ϣ0,h.sx,h.z0,h.zz,h.zn,λ j ts p e e'=>?_,λ j k ts us p n e1 e2 e3 e4=>?_],υ2,T->Ev->õ Ev,ā,∀{x:Str},0,υ3,(l6 Úk bm hdct Üs),î,∀(X:Cx),0,ű6,#[_,ho,rfl],Íp,_ ű6 #[_,ho2,rfl],År,_ Íp noFill_tuple_add seq_tuple_add PySem.F.slot_tuple_add PySem.F.entry_tuple_add (PySem.F.args_tuple_add_2 À),ϒ,ż b=↑o,FN,[z,TI,TO,i1,i2],qj,∀(hd:QS:=by decide),0,ϛ,Or.inr rfl,ZV,Or.inl,ο,ZV rfl,NZ,X.env.scope,Ár,ň3 NZ x,Vt,X.N[i]?,Qz,Vt=↑x,υ4,∀(hN:Qz:=by rfl) (hv:Ár:=by first | show ο | show Or.inr (ο) | show Or.inr (ϛ)) qj,0,Ś,List Nat,qT,by (change vN Ð;apply ý4),ϧ4,wpAny_onRaise,Üi,e2.extBut,Wa,e1.extBut,WY,Builtin.SmallTypes.nextOf,âT,_ (s1.on λ o q=>Wa À (Ł n3) q) (h1.on λ o q=>Wa À a1 q) hx,Cc,IsPair,ùz,wpAny_updateSeq_pair,àc,by exact AC (AC (ϧ4 (AC (m:=WY (à i1)) (draw âT λ g2 s12 e2=>Ic))));have to2:Cc g2 TO Ñ:=Üi À n8 (Wa À (Ł n2) hto);exact AC (oR to2 rfl (AC (ùz to2 λ g3 to3 e3=>AC (wpAny_letGo A2)))),An,Addr->Prop,AB,[a,b,c,d],GG,(rfl:qo[10]?=_),Gk,(rfl:qo[11]?=_),Mz,(rfl:qo[12]?=_),DS,(rfl:qo[13]?=_),fB,(rfl:qo[14]?=_),x8,_ [] cpos,čA,(ű ëj apos),υ5,_ čA [Óa] x8,ũ,(·.2),Ĕ,s.toks,Vu,Array.getElem?_eq_some_iff.mp,Hi,Ã w,pD,(Hi),NT,(.im pD),ă,∀{i:Nat},0,ħ4,by let#[L,S,r1,r2,h]:=hu,ś,t.mask,ME,A.deeper,Ús,_ oj Õ f cdv,V6,envOfC,ÇM,yg k (ME (V6 x Ús)),Jg,_ (IP) t,ύ0,xE yQ Ê N x oj um,Þm,(ύ0).xN,Ap,zQ R g t,υ6,ÇM-> ∃ t,xA Þm Jg/\Ap,Hj,t.place.toList,JJ,s₁.heap,Μ,.ret,Sy,.call,b8,callerA,Ãb,AllBare,Ϡ8,Ãb s'.gens,œ,à a,Dd,[œ],Õt,#[Dd,[]],GN,s'.heap,F6,FK true,Ås,_ b8 (Sy (à fa) Õt) (λ r s'=>r=.ok (Μ (F6))/\OldK JJ GN/\s'.os=s₁.os/\Ϡ8) s₁,JT,typeLookup,ÇK,ϐ "object.__class__",čq,pure ↑(ÇK),Æx,JT (Į B) "__class__"=čq,éj,∀(hna:mN "__class__"=none) (hpa:mP "__class__"=none),0,âC,∀(hq1:mN "__getattribute__"=none) (hq2:mP "__getattribute__"=none) (hq3:mN "__getattr__"=none) (hq4:mP "__getattr__"=none),0,ÛB,h.Ns N mN,Lv,∀(hn:ÛB) (hP:i4 h P mP),0,àd,∀ Lv (hB:Æx) âC éj,0,Í6,List.length,Ŕ,hbody,qI,trivial,ďk,_ qI Sc.nd Ö hr,Åt,λ f cdv A ġ s H E hr=>Ŕ um ďk,Fm,ws.length,υ7,by let#[f0,f1,f2,f3,f4,f5]:=hf it ∅,Wz,w0::ws,Åu,_ r Ñ (Wz) d1 d2 φ,DP,_ ts ds,ϓ,zo S DP,G9,õ T,T2,T->G9,Ŝ,T->T2,Ďy,Value.builtin,æH,Ďy "BaseException.__getattribute__",Åv,æH == Ďy "object.__getattribute__",Ϣ7,fr.contains w.t,àe,(F.ws.filter λ w=>Ϣ7).map λ w=>(w.f:Int),Ĉ,∀{f:zEO},0,Ñ4,(ze zp ù Ļ),ğ,λ _=>rfl,rR,ps.map,ϔ,os.length,HP,(rfl:qo[0]?=_),BZ,(rfl:qo[1]?=_),C4,(rfl:qo[2]?=_),Ig,_ σ' H',QF,_ Ig s',Ϟ6,Inv tI [] QF,Ϣ,_ b hb,Üj,hstat Ϣ,DE,H' b,ÀU,DE=none,WQ,∀ b∈fp,ÀU,ÊZ,λ p hp=>á (show p∈([]:zLA) from hp) ∅,Wc,∀{H':Hp},0,ðG,tn i GN/\(WQ)/\W i n Ig,àf,by have stat:∀ Wc,(WQ)->∀ b∈fp,mI tI [] H' b:=λ hn b hb=>#[hn Ϣ,(Üj).1,(Üj).2.1,È hb,(Üj).2.2,ÊZ];exact codeAny_loop rfl (λ n s'=>∃ i σ' H',Ϟ6/\ðG) (λ n s3 hI=>?_) m0 #[0,σ0,H0,I0,t0,f0,w0];let#[i,oF,H3,I3,st3,fr3,w3]:=hI,uK,by (change vO Ð;apply Á6),FZ,List (Key×V),Hv,K.lookup,R7,ClassData,ζ,_ K yo,IJ,(sD),ÌS,ŋ ζ c=↑↑ IJ,NI,(à P),éC,ŋ ζ "PurseError",Čs,éC=↑↑ NI,uA,t_ (B2),àg,∀{o1 o2:Ø}{d1 d2:ł}{c1 c2:R7}{s1 s2:uA}(_:ÌS) (_:Čs) (_:Hv C=↑#[o1,d1,.cls c1,s1]) (_:Hv P=↑#[o2,d2,.cls c2,s2]) (h:Ţ9 K c=↑(C,P,c1.ns,c2.ns)),0,Âz,insertAt,û4,Value.int,Ū6,Âz es p (OP n,û4 n tk),rB,eq_int,Êz,(rB À Á),Ćx,(zJ τ9 rfl Êz),WE,(yn Ćx).trans,ËQ,("__classdict__":Str),su,pure Á,tH,swapsWith,Åw,∀(hnd:(n == Tb)=Á) (hnc:(n == ËQ)=Á) (hsw:tH (ć n p3) ↑(ć c p2) p4.line Ù=su),0,œ3,typeIs_str,àh,_ F.slot_str_split (œ3 Ð) F.entry_str_split,RA,∀{mg:zSV},0,ÀP,∀{base:Heap},0,Ih,∀ RA ÀP,0,Ū8,_ AZ hfew hline,pM,(rfl:qo[3]?=_),GP,(rfl:qo[4]?=_),Cj,(rfl:qo[5]?=_),Bw,(rfl:qo[6]?=_),Fb,(rfl:qo[7]?=_),ix,(rfl:qo[8]?=_),VU,(rfl:qo[9]?=_),Ru,(υ0).xN,ýD,(nh te1 (hName 2)),ÃY,(nu lJ),ér,(Ų3 tc (gr (nE ÃY (yL 0) ua)) tx),þD,(nh te2 (hName 3)),æv,yg k (ME (V6 "Desk.say" Ús)),ài,æv-> ∃ te1 te2 tc ua tx,(zw Ru s1 ýD/\zw Ru s2 þD/\zw Ru s3 ér)/\wO f1 te1/\wO f2 te2/\oQ c tc/\l4 ga ua,YL,(vv w).map,O3,Txt.contains,υ8,(YL λ c=>T.bl (O3 s c)),Hn,by let#[x,hx,h1]:=h0.one;subst hx,FA,(à f),ύ5,PySem.W.keepIn,BI,ύ5 K FA=true,Δ,Å ts,Ae,(Δ),Ki,(ì Ae),ν,∀(hr:yg k X.A),0,Ö0,(zj Ö),Åf,_ rfl Ö0,Rl,(zj Åf),BQ,I.items.length,Áw,I.turned,Ze,_ b o hb,Ób,_ f0 f1 f3 f4 f5,Åx,λ h' eb=>#[rfl,Áw (t':=Ĕ) (λ b o hb e=>eb Ze e) Ób],Um,∀(hb:Binds X.K fd ps ds) (hd:Vals dvs ds) (hx:Passes CX X E),0,ϕ,λ _ _ q=>q,Ž,λ _ _=>rfl,ϗ2,λ b o e n hb hx=>?_,ϝ6,I.base.free,Ĉd,λ b o e hx=>?_,Åy,#[ϗ2,ϗ2,ϝ6,Ĉd,I.base.mM,I.base.lL,I.base.lX],pC,_ M h n,Av,(yN pC).1,AL,s1.heap.objs.size,Oh,kv.1=k,Xr,λ kv=>Í (Oh),Åz,#[q',bs',sn',sub',ab',col',dd',l0,l1,l2,l3,l5,hP],SK,(zP 0),VJ,(mQ 2 (vM SK (vM (zP 1) ű4))),ą,∀(n:Nat),0,È5,∀(ha:yC X AR tA),0,ç7,by simpa only [Sn] using q,uG,à e,Ϡ,(uG),nZ,_ U5 (A.mark ↑ Ϡ),Κ,vs.length,Ri,∀{hs:é},0,Ĕ9,∀{t:UP}Ri(T:Tab t hs),0,Æ7,Į "tuple",IY,_ X e te,Vm,PD IY,rZ,∀(he:Vm),0,Â4,by intro _ _ _ _ _ nd,ä,.nil,rQ,False.elim,bf,λ _ _ z=>rQ z,ďK,AC (EQ (Œ9 (X:=ĆN) _ s8 XV H8 sY [y] sY [uy] (λ _ H9=>W ZM XV H9) I8 rfl (ã r8 ä) #[D,ys,y,rfl,rfl,e8,z8,w8]) (λ _ s9 z0=>?_) bf),Aa,∀(hN:X.N.Nodup),0,ĀI,∀(hi:Qz) (hx:Loc NZ x),0,ū2,∀ Aa ĀI,0,Å5,hq À h,Xq,(Ą6 hr),Ģ,zU.go,CT,ho.mo,tX,_ r1 r2,OV,_ tX z,èT,by ext ŀ;exact Ģ CT OV λ x S1 w H1 h1 q1 e1 p1=>?_,Œ,PE.imp,Xs,_ S2 À,Bm,ho.pe,sL,he.pe,El,he.mo,Ĺ,_ L S1,ς,_ Ĺ À,àj,by exact#[fun L S Q Q' hq z=>CT ó (λ x S1 z0=>by let#[p,a,b,z]:=z0;show#[p,a,b,El ς (λ y S2 z=>hf.mo L Xs (λ w S3 z0=>by let#[k,tp,a,b,h]:=z0;show#[k,tp,a,b,Å5]) z) z]) z,Œ (ę3 Xq Bm sL hf.pe m) Ų];ext èT;let#[p,rfl,#[kvs0,c0],h1]:=h1;subst q1;let#[vs0,g0,_]:=p1 À c0,XS,by (change v8 Ð;apply é1),Gm,Str×Str,IG,List (Gm),ûX,(.tail _ (.head _)),àk,by let#[FB,hb,hB,nm,q,N,bs,sn,sub,ab,col,dd,k0,k1,k2,k3,k5,DU,mN,mP,hC,hn,hP,hm]:=X;have m1:=hm "__getattribute__" (.head _);have m2:=hm "__getattr__" ûX;have m3:=hm "__class__" (.tail _ ûX),AI,Heap->Prop,υ9,∀{q:Q_}{loose:Û}{XP:(Str->B2)->AI}{YP:Ľ5->AI}{d:DefRec},0,Ñ7,t.place,Ŀ9,below,Ċ5,Ŀ9 Ñ7 j,χ0,Âz Ñ7 (Ċ5) j,ÑW,X.env.globals,V8,newList [],ÐG,newFunctionEnv,tB,codeAny,DL,(à it),àl,Ä Ā (V8) (λ acc s₃=>Ä Ā (ÐG ų ÑW cl [] X.env.qual none Ć ↑ Ù) (λ cenv s₄=> tB Ā (.compStart ø9 0 DL acc { cenv with ų:=relabel ų Ù }) (RR acc cenv.locals) s₄) E s₃) E s,QT,ym Gp 0 lo,ĄZ,((QT:Nat):Int),Vi,ym Gp Gp hi,JZ,(1:Int),ÅB,(ĄZ == 0&&JZ == 1&&(Vi-QT) == Gp)=true,qH,hs.2,B9,IO e,Vk,I.ok.above,úQ,FS (KE (B9) Vk),χ1,(qH b (úQ)).trans,sy,_ [] pos,ĉu,.ExceptHandler,àm,(.Try body [ĉu ↑(ć "PurseError" p1) ↑n [B_ [ć c p2] (ć n p3) p4] hpos] [] sy),RW,∀(hcd:(x == ËQ)=Á:=by decide),0,ů1,NameKind.cell,ķ5,(n,k),àn,(names.map λ ķ5=>if τ8 then (n,ů1) else ķ5).lookup x,M6,_ s sub hi,Er,limit,ÅC,forIn (List.range' cur m) st (occBody M6 Er),Mb,PySem.W.findIn,Gw,_ K IJ,ÅD,Mb Gw "__setattr__"=↑↑(ϐ "object.__setattr__"),ϖ,λ _ _ _ h=>h,Em,(by simp;lia),āN,∀ x c,IM->c≠b,ÜN,X.pn++gV,çw,(āN)/\∀ p∈ ÜN,p.1≠b,ş5,b≠ uS,LD,X.s₀.heap.objs.size,üV,(b∈X.ex\/LD<=b),ÅE,∀(hch:∀ b∈ch,üV/\ş5/\çw),0,Ο8,(ϐ id),äh,∀(hty:typeOf Ο8=pure (Į "method_descriptor")) (hm:jA X id r),0,ÅF,∀(pa:PlainAttrs T) (slot:Slot T name id) äh,0,ξ,#[_,rfl],Ďv,[Æ a,Æ b],Éo,_ Ďv [f,g],ÅG,mB Éo (Æ w),MB,by intro gV s σ H x vs v us Q I rx rv h,MJ,Cl.cl,Ϝ9,_ S2 (Cs),uR,hE.grow,ÅU,_ _ (uR s1),qJ,_ ÅU e2,FG,_ S1 Z L Y,χ2,_ FG y qJ λ d S2 s2 r2=>hq d Ϝ9 (MJ s1 r2),ñp,F.slot_tuple_iterator_next,Ii,à l,ďL,by let#[ol,g1,_,n,g2]:=hl;exact AC (oN (name:=ϒ2) ht ñp (P5 ñp ht F.entry_tuple_iterator_next ?_ (F.args_tuple_iterator_next_1 _)));exact AC (m:=CE DL 0) (NO e1 e3 (x:=Ii) Ψ);ext Þ;rw[É (show ¬ ((đ l == Hr)=true) from Wp)];exact AC (m:=CE DL 1) (NO e1 e3 (x:=Â i 0) Ψ),Lc,List (Key×T),HE,by (change ďH;apply Č3),ßG,∀(base:Heap),0,â6,∀(mg:zSV),0,Û2,∀ â6 ßG,0,ð2,e1.trans,ū3,(ð2 e2).trans,ϗ,r.length,ôY,by intro gV s σ H x y v w Q I rx ry h,Ε,cLine,rp,xZ ts,ào,[_,by ext ôY;let#[S,d,e,u,ts,ds,a1,a2,a3,a4,a5,a6,a7,a8,q]:=h;have hz:rp<Ε:=⋯;let#[l,xs,rfl,g1,g2]:=yG.sq a2 a3 a5;cases ry;rcases g1 with g1 | g1],Ū,(zb 3),UJ,_ zp Ū,Ñf,(ze UJ Ļ),Ên,(cS (Ã "floor ")),úq,_ zC (cS (Ã "border ")),þx,_ zC (cS (Ã "show ")),àp,(xy (zc (ze zC (ze zC Ên ļ) (cS (Ã " brims 1 1; keeper; 0>0 0 0"))) (zc (ze þx ļ) (zc (ze zC (ze zC (ze úq ļ) Ä7) Ñf) zf)))),ė,∀{e:Expr},0,ś4,oA N ds,wB,_ { nx:=λ _ S'=>Q .zB S',rt:=Q } (ś4) S,àq,(λ l:ö=>↑(Out.nx (_::_::_::_::_::_::_::_::_::[↑(ì (Å l))]))),QP,by let#[hp,g,d,tk,os]:=s,bW,yg k (ME (V6 qual Ús)),EN,by simp![zA],Ûf,by ext EN,ÅH,λ _ _ _=>Ûf,P_,_ none none,Ïp,_ n Ñ f g none l P_,DN,Α9 ns,Ux,π2 (DN) Ïp none,Ci,(g Y).bind,Yj,zQ.fv (ś0 _),X3,rP [à vs,Ć,Ć,Ć,KC,Ć].toArray,Ĭ,L2.yd,Y5,by unfold Ĭ L2.pH,Zz,zy Ö (by change Ĭ ĊF 0=_;ext Y5;simp),öL,(zF h4 λ _ s5 z0=>?_),ċZ,λ _ s6 z0=>?_,ĀC,by let#[XV,H6,I6,q6]:=z0,ãP,by let#[x,H5,I5,r5,y5,st5,fr5]:=z0;have I5':=I5.pinned (stat fr5) (T.obj À st5),çi,(hg _ s5 oF H5 x u _ I5' r5 (step x H5 y5)),ďM,by subst hr;exact AC öL;ext ãP;exact AC (EQ çi (ċZ) bf);ext ĀC,ÅI,(by simp![dep];show LQ.n3),NQ,pure none,χ3,∀(hna:mN name=none) (hpa:mP name=none) (hB:JT (Į B) name=NQ),0,Pf,.bl true,ž,(Pf),ϣ,xB _,Ca,zQ.fv (ϣ),Ĝ,∀{h:Heap},0,Ρ0,vals1 r,e9,[_,by let#[u,rfl,ru]:=Ρ0;cases ru],õR,(xM ů7 ù (zc Ên zf)),Oj,(zc Ä7 zf),ĉQ,(xM nI ù Oj),ÅJ,_ (xF õR) (xM Κ3 ù (zc Ä7 (zc Ij zf))) ĉQ,Ϧ6,bs.all id,Ûr,λ bs=>Ϧ6,Fq,(ŷ5 Ûr),Ϙ,_ F last,ſ,Į "list",GY,∀(ha:yO fa ta) (hb:yO fb tb),0,Ũ6,other,Ŗ3,noRecord,ăG,(Ŗ3 Ze hnf),ÅK,(Ũ6 b ăG).trans hb,QV,â=16777216,T_,(zy DV),GJ,compareOp,ÄC,∀{r r':R2},0,ų7,∀(ho:yM X (GJ op) r),0,χ4,∀ ÄC ų7 (ho':yM X (GJ op') r'),0,ū9,["self","row"],ŕ,(k+1),ϭ0,_ R (zY N n g),às,_ ŕ ps (zK ϭ0),HU,_ _ rfl,Eu,zA9 HU,CG,I.zt.fresh,LV,CG Ķ,qa,(yj S Z),MS,(ze zp ù Ď),rq,_ tI elt te,Yx,_ tI tg g,òp,∀ cl C s H fp,PG Yx,ÅL,∀(hg:òp) (hf:∀ cl C s H fp,PF tI ifs tc) (he:∀ cl C s H fp,PE rq),0,Ņ3,by repeat (any_goals (first | ext Ŷ | wp_step)),Oz,(.bl Á),Gy,_ (retS (cS Oz)) yF,JW,slots,ε,items,ň,.seq,ÛI,ň ε n,χ5,ż l=↑{ cls:=Æ7,dict:=dd,data:=ÛI,JW:=sl },ō,k.toNat,GW,zu Ò ds xs,ND,∀(ha:PE X a ta),0,ĕ0,∀ ND (hb:PE X b tb),0,ì2,∀{F:zX},0,BA,∀ ì2(ok:F.Ok),0,Íz,(ð2 e2),iW,_ Íz p2,LZ,_ (DA) p1,àt,_ LZ z λ y S2 w H2 h2 q2 e2 p2=>h2 w H2 q2 iW,CL,by let#[d,rfl,h1]:=Ķ5 hv,ď,∀{n:Nat},0,ϙ,∀(hg:Gl X x),0,Ę8,_ T (wz T),sf,(upd H Ę8),Ąn,_ [op,op'] [b,c],χ6,∀(hm:lastMarks Ąn=Á:=by with_unfolding_all rfl),0,ï,_ Q E s,rg,ns.map,GF,V.int,Dx,(rg GF),Xx,[_,by rcases x_ e1 with ⟨rfl,hl,e⟩ | ⟨n1,e1⟩],Át,I.ok.has,ÅM,by let#[cl,hclos,c1,c2]:=Ú7 (ų:=ų) (env:=Ù) λ y hy hk=>Át y.1 (S.free y hy hk),M8,([],[],[]),àu,_ (mW p0) (ps.foldl vt M8),MQ,p.getD,EV,Cl.of,ÕY,(EV E8 œ7),HF,hq _ Gz ÕY,Ϛ,λ p hp=>?_,DY,_ AR sy,U7,(ć x p),χ7,(Ă U7 DY),ϰ6,λ b u q=>Z7,ĉD,λ b ob u q=>Z7,ÅN,#[λ b ys q=>Z7,ĉD,ϰ6,ϰ6,λ b x u q=>#[u,Z7]],ţ,p.length,Ff,_ X (ć x pos),âX,Calls.evalArgs_plain,ÁX,(âX ?_),TF,Calls.callWith_builtin,ϭ8,FI es Ù,áf,TF (by change (Á||(BN cpos (ϭ8)).any Ě)=Á;rw[VZ] <;> rfl) ÁX,çW,#[T,id,pa,slot,hty,h1,h2,?_],ka,_ I1 q1,tP,_ ph _ ka,ön,by have hA:=ha cpos tP;rw[hs] at hA ⊢,àv,by let#[x,H1,I1,r1,ty,q1]:=z0;let#[h1,h2]:=Ğ2 I1 r1 ty;exact çW;ext ön;exact áf,RB,List Bd,LL,(Υ8 its ts u),χ8,by rw[show its.toArray.any LL=its.any LL by simp,Ă1 ċi];show q,ÎZ,∀ r∈rs,r≠[],Ov,oB rs,Qe,L4.Ψ9,îv,(Å ((Qe (Ov)).map zN)),F9,rs.length,ÅO,(mU ts).bind λ rs=>if F9<64/\ÎZ then ↑ îv else none,pW,FuncData,Sz,∀{fd:pW},0,Χ8,∀{f:Addr},0,Iq,∀ Χ8 Sz,0,Β,λ _ _ z=>z,V9,_ LZ h1 λ y S2 w H2 h2 q2 e2 p2=>?_,Đ,∀(k:Nat),0,Ľ,∀(h:Heap),0,Ŭ2,[_,by rcases x_ e' with ⟨rfl,hl,e'⟩ | ⟨n,e'⟩],Ûe,zU X.K te,éx,_ Sc hc hi.pi (λ cl C s H fp=>(hg oa).pg),àw,_ (g:=ų1 X.K g) (tc:=o9 X.K tcc) (te:=Ûe) éx (λ cl C s H fp=>(hf oa).pf) (λ cl C s H fp=>(he oa).pe),ÅP,_ (wC (xV (zL (zj rfl (zj (wZ rfl Et) rfl)) hw))) rfl,Úr,_ d10 d11 d12,Èm,_ Úr d13 d14,Út,_ Èm d15 d16,ďN,_ zD Út,ω0,∀{oc:Ø}{od an:ł}{osl:uA}{kV doc pm cdv ct:Ø},0,ďO,_ zD Èm d15,àx,#[ok.mod,ok.kind,ok.glob,ok.blt,ok.above,ok.inj,ok.has,ok.fX,ok.hd,ok.frames,ok.eT,ok.aU,ok.bs,ok.jv,ok.fy,ok.fQ,ok.lj,ok.il],r_,ns.length,xn,Option.map_some,Ñr,_ N' pick ų,ÅR,lV X Ñr,yp,hc.mo,Af,h'.mo,ÅS,λ E E' L S hE z=>yp ó (λ k S1 z=>pJ (h.mo À Ĺ hE) (Af À Ĺ hE) z) z,Ŏ,es.size,Q0,Âz es p (Km key,đ b),Ln,[_,by exists this],ω1,by unfold SetTable.tooFull at this;rw[hfill,hmt] at this;ext Ln,ąB,order.filterMap,WJ,ąB (es[·]?),Ę,∀{xs:À0},0,ħ9,[_,by subst ex;obtain rfl:u=đ a:=rx],E5,(cI 4),KL,(zx 3),Rq,(cI 12),Eh,_ xQ ù,ϐ4,(ze xw (ze Eh Ij) Ij),ày,_ (vf 2 (tupS (zc KL (zc ϐ4 (zc (ze zC Ď (ze xw (ze Eh E5) Rq)) (zc (ze xw (ze Eh (cI 48)) (cI 13)) zf)))))) yF,ÅT,(qs.getLast?.map ũ),VX,by let#[t,rfl]:=rx,ω2,_ zD Út d17,ľ,owner,Fz,Ō b=↑o,LC,λ v s1 z0=>?_,FU,y.length,JD,scope.names.lookup,Ŗ,à p,ī,(Ŗ),Bs,L[i]?=↑↑ ī,dA,_ e.1 e.2,ω3,λ e=>(OP e.1,û4 dA),Ãr,λ z=>?_,ďP,#[#[f,fd,(wA.never h1).imp λ vs H Q E #[ds,S,r1,r2,z]=>#[ds,S,r1,r2,hm ds S À (λ d S' q=>#[λ _=>q.2,Ãr]) z],h2],du.mo hm],ÅV,(Ã "abcdefghijklmnopqrstuvwxyz"),ďQ,_ zD Èm,ûx,λ b o us hb hbd=>?_,Ąr,λ b o hb hnf=>?_,àz,[_,#[λ b o hbo=>keep b o (λ q=>by rw[q,hen] at hbo;cases hbo) (kb₁ b o hbo),hl.of_keeps Ąr,?_,Ąr,ûx]],DW,by intro gV s σ H D I h,sR,by injection h2.flat r2,àA,["enumerate","zip","dict_itemiterator","dict_reverseitemiterator","odict_iterator","itertools.zip_longest","itertools.pairwise"].contains n,ŏ,_ X.K H,Ãg,(b,o),ω4,_ Ãg (PP _ (PP _ (Ü1 hb e))),ϻ0,eval a Ù,ÀR,eval b Ù,qW,[a,b],ÅW,FI qW Ù=[(Á,ϻ0),(Á,ÀR)],EO,Bool.false,EI,by let#[L,S,r1,r2,z]:=z0,ÅX,Æ #[_,hE,#[oe',vs',a1,a2.trans z1,a3.trans z2,a5],oe',a1],ql,SS->Prop,bB,∀ b∈fp,mI Fy H b,O5,PySem.mem_of_lookup,t4,ds.length,CV,_ S0 Z0,Jj,_ CV Ţ,CI,FR Jj,π,List.mem_map.mp,U8,∀{x y:Int},0,Ĩ2,∀ U8{os:Û}{ws qs:Ğ},0,ĝ,ha.mo,đ0,hb.mo,è3,_ ĝ đ0,Đo,_ Út,ϻ9,(EP Č Q),ÅY,_ ϻ9 X.xe,QJ,behindInMarks,RF,HT.lexLt,Ew,Ext H H',rF,List (Key×D),ϰ3,(DA).ext e2,éK,_ LZ h1 λ y S2 w2 H2 h2 q2 e2 p2=>?_,ĀM,by let#[vs,g1,g2]:=p3 À c1,àB,by exact#[p,rfl,È #[vs0,È g0],?_];exact Ģ El éK;exact Ģ hf.mo (ϰ3) p2 h2 λ y3 S3 w3 H3 h3 q3 e3 p3=>?_;let#[k,tp,rfl,c1,h]:=h3;subst q2;ext ĀM,h_,Æ rfl,C5,È rfl,ĄL,by first | show C5 | show h_ | ext Ŷ,uI,.local,Õh,X.fn x=true,ÊY,Õh\/qF x=↑ uI,ω5,∀(hf:ÊY:=by ext ĄL),0,ε0,by change Ř _=_,sC,by ext ε0;rw[h],GD,order,Fp,t.led,Rr,es.map Ě,ſ8,t.plain,Ôd,order.toList,àC,[_,by let#[t',GD,h1,h2,h3,h4,h5,h6,h7]:=Ĕ7 hM t.finger (t.movedTo M) Fp ſ8 (Rr) (by rw[hsz];lia);rw[hsz] at h6;have hlt:∀ k∈ Ôd,k<ò:=λ k hk=>by exists h6.mem_iff.mp hk],āT,(WQ)/\W i m Ig,Ča,Τ2 fp s5.heap,àD,∀ {H8:Hp}{s8:θ},Inv tI ([]++Ča) XV H8 s8->(∃ m',m'<n/\W ZM XV H8)->∃ m,m<n/\∃ i σ' H',Inv tI [] Ig s8/\tn i s8.heap/\āT,Ag,λ _ _ z=>(hn À z).elim,Dl,by rw[e];simp,Ďz,cM tI ifs tcc,K_,N'.Nodup,êK,∀ cl C s H fp,K_->ly Yx,Ld,_ X tg,Uu,∀(hi:yc Ld iter ti),0,àE,∀ Uu (hg:êK) (hf:∀ cl C s H fp,K_->Ďz) (he:∀ cl C s H fp,K_->PD rq) (nd:K_),0,àF,[_,(λ b o hbo=>(Ũ6 b λ q=>by rw[q,hnT] at hbo;cases hbo).trans Ďx)],Ϝ,ye Ò S,ύ,_ d S',LS,∀ d S',Q ύ->Q' ύ,ÒN,(Ã (lC s k)),Di,Â k,Xz,y=Di,U0,k<=1000,pA,s.length,Ék,0<=k/\U0/\pA<=1000,àG,∃ s k,x=Ã s/\Xz/\(Ék)/\Q ÒN H,MI,∀{c0:Nat}{yr:Ś}(hy:L y=c0::yr),0,Ĩ6,(đ C::ÀT).contains,R1,Ã "taker",XE,(Ã "keeper"),Âb,(cS XE),àH,(zc Âb (zc (cS (R1)) zf)),ĩ,∀(x:Str),0,Ī,∀{Q:zVP},0,pL,_ X o to,Hl,∀(ho:PD pL),0,ìk,#[z,H3,I3,r3,k,e,q3],òW,#[y,H2,I2,r2,q2],ßs,_ I2 tX q2,ό1,_ gV s2 σ H2,ßp,_ ό1 x y v,îY,(ho ßp u _ ßs),ÜX,(hb tP),àI,(zF ÜX λ u s2 òW=> zF îY λ d s3 ìk=>?_),xc,seqObj,UY,(xc "list" į 0),HM,Y.set,ϣ2,(ts++us),ÞQ,(Å ϣ2),ÅZ,(.nx (HM i ↑(ì ÞQ))),uM,occurrences,F0,#[⋯,⋯],Iy,(yN pC).2,BG,(Â n),Bg,(.im BG),ω7,ws.getD k "",Ĳ,∀{ps:Û},0,Æa,by rw[typeLookup_type,builtinLookup_eq_fast];kernel_rfl,Lj,mi w0,ðr,_ r Ñ (Wz) (vx mz) (vx my),ďR,_ ðr (Lj),Ek,ha.pa,Ň,_ () (),BK,_ he hpl,pz,_ Ek Ň BK,ω8,by let#[x,e1,e2]:=ŗ,AD,Builtin.bitAnd,Ss,Heap.size_push,ź,_ ç Q,dG,t ź,àJ,∀ σ H Q,t' ź->dG,ĉp,(tU (k8 r j)),NG,(upd H r ĉp),IW,Txt.startswith,G2,its.toArray.size,rO,beq_self_eq_true,uk,_ _ hE e1,àK,_ uk λ ds S1 s1 r1=>?_,vE,_ GH ð l1 l2,ĳ,(œ),Ŵ,∀(a:Addr),0,ŵ,List α,ÃT,(ņ4 ho),ċj,_ S.get rfl S.fits,CJ,AC A2,ďS,by exact AC (ÒM (oN (name:=ϒ2) ÃT θ7 (P5 θ7 ÃT Ć2 ?_ (Ċ6 _))));exact CJ;ext Þ;exact AC (wpAny_fieldsOf ho Ψ);dsimp only[Ck];exact AC (AC (ziT ċj A2)),og,List.lookup,ω9,og x ((if τ8=true then (n,ů1) else ķ5)::_),eP,by unfold yL;rw[h1],Æb,by let#[p,b,h1,h2,h3]:=ł0 hE h;change yL i L S _;ext eP,ÐD,A.handled=none,G_,∀(hh:ÐD),0,Ê8,I.tuple,Çq,by intro gV s σ H x v vl vu lo hi sl Q I rx hs pl pu h,àL,[_,by ext Çq;let#[a,xs,rfl,hx,hw,q]:=h;cases rx;let#[its,r,ht,hz]:=Ê8 hx;have hlen:G2=ò:=by rw[GT];show r.length.symm],čN,(Øe pos ÉM),Þq,callWith,ML,first,Æc,Þq pos f ML (BN pos (Óy)) čN,uQ,fresh,ÂK,∀{last:RB},0,ŭ0,∀ ÂK{uQ:Ś}(s:St Ϙ uQ),0,ì9,(C5),IB,k À ì9 e,Jp,∀{N ps:Û},0,Ĩ8,∀ Jp{k n:Nat}{g:Sm},0,ĕ5,Heap.SameBut.update,ϋ0,ι b=↑o,cp,ϒ->ϋ0,Ìl,∀ b o,b<Õ->cp,KM,à Õ,Fs,(KM),Æd,(Ìl)->Q Fs { s with heap:=h',toks:=tk },HG,rows.length,SG,zu ŏ ds xs,A9,Vals xs its,TC,∀{its:zLV},0,Æe,∀ TC(hz:rp<Ε) (h1:ϓ) (h2:SG) (h3:A9),0,Ÿ1,_ (a:=a) (b:=b),Æf,_ (r:=r) Ÿ1 (w0:=w0),Æg,by let#[oc,od,kV,doc,pm,an,cdv,ct,osl,rfl,lk,hcd]:=F.ex,qh,∀(hg:Gl X "isinstance"),0,Ş7,_ P w H,N6,yT Ş7 h,ϊ0,sc.names.lookup x,Qa,#[x,H1,I1,r1,q1],ϊ1,A.under (ϐ "type.__call__" #[sD::us,kw]),HW,List.mem_singleton.mp,sA,beq_iff_eq,G4,xJ Ò L σ,Sv,(Ãr),ĎA,pJ Sv Sv h1,àM,λ k S1 H1 h1 e1 p1=>ĎA,ÕO,(EV E8 Ť2),DF,hq _ Gz ÕO,uu,(zc ħ zf),Pw,(.im (Ã r)),dZ,IsPart,ïb,s.heap.IsSliceOf sl vl vu Ć,Æh,∀(hs:ïb) (pl:dZ vl lo) (pu:dZ vu hi),0,ϝ,∀{st:Stmt},0,Õl,Int->Int->V,DZ,Int->Int->D,Ýt,(g' i j),qk,(g i j),Æi,∀{g:DZ}{g':Õl}(hg:∀ i j H,zA Ò qk Ýt),0,Ś9,_ z TI TO,Đn,_ Ś9 i1 i2,Æj,_ Đn l1 l2,dD,List Key,QH,pyNext,Yp,IsZip,K4,wpAny_rule,He,AC ?_,Uo,_ Ś9 .ellipsis,Ĉs,List.forIn_nil,àN,by unfold QH;ext ďI;exact AC (K4 (AC (NO hz rfl (x:=à TO) rfl (AC (zj7 hz ∅ λ g1 hz1 e1=>?_)))));replace hz1:Yp g1 Uo:=hz1;exact He;simp![zhG,List.zipIdx_nil,zgD,Ĉs],ϩ1,(k,v),We,ϩ1::r,ϳ8,(k,x)::r,Æk,by rw[show md f v (ϳ8)=(if k=f then We else (k,x)::md f v r) from rfl];by_cases hk:k=f,IZ,Ō a,u5,Į "set",MA,_ es ep,M_,_ MA t,XM,.set M_,ϊ2,IZ=↑{ cls:=u5,dict:=none,data:=XM },Ôw,(zL Ö0 rfl),ýY,(wC (xV (ĥ3 rfl))),Æl,(ya (w_ ýY (yn (zJ Ôw rfl (rB 4 4 true)))) rfl),QL,f x y,ſ5,(fa Y).bind,jZ,(fb Y).bind,Æm,by change ſ5 _=_;rw[ha];change jZ _=_;rw[hb];change (QL).bind _=_;rw[hf],Ðn,[_,by ext Ån;cases d15;cases d16],Æn,[_,by ext Ðn;cases d17;cases d18],Æo,[_,by rcases g with ⟨tp,k,e,ey,l⟩ | ⟨tp,k,b,e,ey,eb,l⟩],àO,_ M A (do let a <- frameOf env;let pl <- entryPlaceOf L hadNext;let b <- ûW head a Ć (RK) Ć pl;setField Ϡ 1 b),àP,order.toList.filterMap λ k=>xs[k]?,Fu,_ Ñ c,Gj,_ Fu d,RX,_ _ H rfl tJ,ϰ5,PX hdT _,Æp,P6 _ hT (ϕ0 (ϰ5)),iU,(Ã s),Æq,[↑ NT,↑(.im iU),↑(.im (Â m))],rS,I.ok.kind,ÎM,X.env.scope.kind,ET,I.loc,àQ,by let#[m,hn,hl]:=id ET;have hcls:(ÎM == .class||(ÎM == .module&&uS != ÑW))=Á:=by rw[rS];rfl,àR,_ (λ _ _ _=>Ť2) λ _ _ _=>Lg,MP,bs.length,Ær,ϗ=MP/\∀ Ü x b,r[i]?=↑x->bs[i]?=↑b->b.1<=x/\x<=b.2,Ń,∀{es:Bl},0,ăp,1<=s.gv/\0<=s.gt,ŭ1,∀ ì2{s:Sl}(hs:ăp),0,àS,æv-> ∃ t1 t2,(yb Ru Á s1 t1/\yb Ru Á s2 t2)/\zQ R g1 t1/\zQ R g2 t2,HZ,rs.map zN,Æs,Î (HZ),Ő,by constructor,Ay,Inv Fy QF,ϊ3,#[hp,g,d,tk,os],àT,Į "BaseException",ñW,(ϐ "ValueError.__new__"),Æt,[k0,k1,k2,k3,↑ ñW,k5].toArray,MK,Builtin.List.listExtendWith,qK,Txt.split,pR,("floor":Str),yt,Â (0+ü),dW,jE Åu ↑(.im (yt)),T6,I.ok.hd hc,ϊ4,compEnvC ų cl C Ù,ϊ5,(HM i ↑(.im y)),Ee,Î [Âf,Ã r],GC,∀{n:Int},0,ņ2,∀ GC(h0:0<=n) (h1:n<=13),0,àU,(items.toList.drop (QT)).take (Vi-QT),êP,ne_true_of_eq_false,üG,(É (êP h1)).trans,àV,hq (numbered Ĕ _) _ ((numbered_texts À).trans (üG (É (êP hf))).symm),Gg,Nat.le_add_right,sJ,Heap.SameBut,AG,RelV x v,E7,∀(Q:VK),0,đ4,∀(v:Ø),0,Ą4,_ ÅY s,qN,Vals xs us,HR,∀(xs:À0),0,ßr,_ xs H Q,àW,∀ Ű (x:V) HR đ4 FC E7,ŉ->AG->qN->r x ßr-> Ä Ā (call Ο8 (v::us)) Ą4,ÚX,cl.lookup,Bz,ÚX x=↑c,ÌA,_ zC (cS (Ã "brims ")),àX,(xy (zc (ze zC (ze zC (ze ÌA (zm xW (zc (ze zp Ñ4 Ļ) zf))) Ä7) (zm xW (zc (ze zp Ñ4 Ď) zf))) zf)),Hm,vm Ϙ uQ,Kw,List (κ × V),ċO,List (κ × Ø),Q1,∀{tp:Kw}{vs:ċO}(r:Rn),0,Ó2,_ À rfl,FO,zu.ext,Tj,g4.length,àY,by exact#[p,q,xs',ys',rfl,rfl,g3,g5,by rw[<- Tj,<- g6.length];show b3,?_];have e4:Ext H2 (upd H2 p (Å (xs'++ys'))):=Å g3 _;show b4 Ó2 (ū3 e4) (p2.ups e4 #[_,yy,FO e4 _ (g4.append g6)]),êY,λ kv=>if Oh then (kv.1,v) else kv,Mm,tp.map,Om,(tp.any Xr),Æu,if Om=true then Mm (êY) else tp++[ϩ1],ÚO,base.get?,UG,∀(hkb:jM ð) (hen:ÚO e=none),0,ύ6,(by change 2<=100;decide),àZ,_ rfl (zj (zy rfl (Ψ4 (ı5 Ö d64) GI) rfl) (zj (wZ (zj (Ψ4 Ö ()) (zj (Ψ4 (ı5 Ö d16) GI) rfl)) ύ6) Ö0)),æQ,[_,by let#[l,b,xs,zs,rfl,rfl,hH,hB,hz,q]:=h;cases rx],Ít,by let#[u,rfl,ru]:=rv.one,ïu,by let#[z,its,n,r,hl,e]:=I.Ě0 hH,áa,[_,by ext MB;ext æQ;ext Ít;cases ru;ext ïu],Gu,(nA pick L),BH,Sn.sx,áb,hg Gu S2 Ð Y2 x d _ (λ j hj=>?_) #[rfl,ϕ] (by unfold nA Ż2;simp) E2 (BH (Ŋ7 s2 hp) x rx) g1 fun L2 E3 l3 _=>#[l3,?_],fz,h.push,åU,rP [à Ĩ,Ć,Ć,Ć,KC,Ć].toArray,ác,((fz { cls:=Æ7,data:=ň rest.toArray }).push { cls:=sD,data:=åU }).get?,Øg,by simp![Sn] at q ⊢,U6,by ext Øg;let#[ds,q1,q2]:=q,ϊ6,[_,by rcases x_ e2 with ⟨rfl,hl,e⟩ | ⟨n2,e2⟩],fJ,V6 qual ų Õ f cd,ņ,∀(F:zX),0,ÂF,∀(last:RB),0,ú4,∀ ņ ÂF,0,Ï2,eq_str,Æv,((yn (zJ (zJ Ö hs) rfl (Ï2 s kk Á))).trans (Ó some hq)),KP,á2 Ñ f g,Æw,Λ2 0 1 [↑(.im (KP)),↑ NT,↑(.im (Lx))],óK,∀(hk:kA X.K) (ho:PE X o (nY i)),0,Æz,∀(hr:yg n X.A) óK (hi:PE X ie (nY j)),0,Ξ,List Addr,Lf,yB.of,ôi,È #[rfl,xs,Lf g1],ÆA,by let#[#[ds,hd],h1]:=h1;subst q1;let#[xs,g1,g2]:=p1 À hd;exact#[ôi,?_],ÎG,λ _ _ _=>rfl,ád,by intro _ _ _ _ _ _;first | (change ∀ us,List.length us=1->_;show Ţ8 ğ) | (change ∀ us,List.length us=2->_;show Ũ1 Ž) | (change ∀ us,List.length us=3->_;show Ĝ7 ÎG) | (change ∀ us,List.length us=5->_;show ĉ9 λ _ _ _ _ _=>rfl),EM,_ i none,N5,L.set i ↑d,ϊ7,_ (((N5).set j ↑d).set EM) S',ϊ8,by have nd:=D.nd;simp![zfC,KK,Op,Mq,P3] at nd,Ml,(à fI),ôy,PySem.W.isFn K Ml=true,Ϩ4,ύ5 Gw=true,ăb,(c++".__init__"),åM,_ "__init__" ăb,ÿW,nH K åM st fI fd,áe,Ϩ4/\ŋ K N "__init__"=↑↑ Ml/\ôy/\ÿW,ÆB,[_,(λ _ z=>by cases z)],ÆC,s3.heap.push { cls:=Į "slice",data:=rP [vl,vu,Ć].toArray },ϊ9,["floor","number","number","number"],R4,_ Ê N qual,ÆD,(xE yQ R4 oj um).xN,xk,l.length,Ti,#[Fj,H,I,rfl,q],NF,_ Ţ x _ hE QR,sI,qs.map,sj,Option.map_eq_some_iff.mp,Ο,∀{us:zLV},0,Ô7,_ a xs,Vs,_ Ò Ô7,û,∀{d:D},0,ę,∀{R:Rk},0,ŝ,∀{te:zr},0,Ï4,∀(M:Nat),0,ô5,∀(h:Int),0,ï8,∀ Ï4 ô5,0,ág,[("show","f"),("mirror","nf"),("border","f1"),("lasts","f111"),("deed","f111"),("way","f111")],Rj,_ (h₀:=pB) I.ok.mod.jl,ČH,F.er.ow i _ h,ÆE,by let#[p,ob,h1,h2,h3,h4]:=ČH,BV,F.yH s.pu,PZ,_ s.pu (BV) s.gv s.gt,pK,I.tok _,ÆF,PySem.W.emptyDict,EZ,IntsAre,Ot,(ć "isinstance" p),ÆG,(Cs).trans,Qb,_ M ľ,ÕS,lives Qb,Q3,(ÕS).map,CD,tab.lookup,MO,"floor "++w++" "++t,áh,[_,by let#[h',g',d',tk',os']:=s';obtain rfl:g'=s.gens:=hm.gens;obtain rfl:d'=s.drawn:=hm.drawn;obtain rfl:os'=s.os:=hm.os],ëI,_ F Sc (λ ds S Q h=>by rw[HI,hn]),ÆH,_ ëI λ cdv A ġ s H E hr=>?_,uC,_ SK wF,ń,String,B3,HT.ym,Vg,B3 ò 0 lo,qx,s.heap.update,Ji,(by kernel_rfl),ÛN,last.getD,IE,_ p [],K3,ÛN IE,FJ,(.im (DN)),ÏV,(zj rfl fS),MD,(zZ (zL ÏV hmx)),qv,ws.map,ÆI,Å (qv ø),Mx,(BU:Int),UR,rR ø,R_,(UR),KU,(Å R_),Ġ,_ ta tb,U_,_ pos.line Ù,qu,_ x y H Q,VF,_ (prog:=prog) (w:=w),ÆJ,_ OV λ d S1 v H1 h1 q1 e1 p1=>?_,Ie,_ b o e,ϋ1,by let#[o',e1]:=I.base.there Ie hx,øs,∀ cl C s H fp,ly Yx,ái,∀ Uu (hg:øs) (hf:∀ cl C s H fp,Ďz) (he:∀ cl C s H fp,PD rq),0,ĭ,Ç rfl,Hg,(Î xs),ϋ2,∀ b xs,H b=↑ Hg->DE=↑ Hg,uW,λ _ _=>ê,ū,(Ii),Dh,_ Ŋ Q I,Ód,_ Dh (hi ź q),ϋ3,λ gV s σ H Q I q=>h Ód,Jr,Å ds,Dc,(Jr),Hc,λ D σ H hu=>?_,ő,Î ts,BJ,zo qa DP,VS,(.yf tp),Kl,some ↑(ì VS),Eg,way M h k,PL,comes,N4,PL w a MA,Pg,o.data,ϋ4,∀ vs,Pg ≠ rP vs,ϋ5,(notedBy nZ env (cameBackBy í env E)),ÞI,(0,12),ϋ6,[ÞI,ÞI],Ts,λ c=>Í (c<128),C2,_ pu yH give get,Ϟ,_ lo hi,ïD,_ d [] (λ f vs=>PySem.call f vs),ÆK,_ q loose XP YP l.row.toRowW ïD,Ás,[_,nomatch z],ÆL,_ e (λ z=>Ás) fin,KW,_ "NoName" "name",WU,(Ż2 pick Y),Rx,∀{Y Y':Ev},0,ÆM,∀ Rx{y t:T}(hg:g y WU=↑Y') (hf:f Y'=↑t),0,Å3,List Stmt,ąA,∃ n t,v=Â n t,CW,_ À s,ÎQ,wpAny_forIn_list,ÚS,items_int,áj,by exact He;change Ä À (forIn ε À) CW;rw[<- Array.forIn_toList];exact ÎQ _ (λ rest r s'=>r.1=none/\s'=s/\∀ v∈rest,ąA) _ GQ À #[rfl,rfl,ÚS hi],Sg,∀(Sc:TH:=by show kL) (hn:n=İ:=by rfl),0,Üf,wD.lookup,ŋ1,Üf w,Üe,ŋ1=↑fs,Âq,Ã p.1,Ċj,[Âq,Ã p.2],éI,∀ p∈ DB,i9 Ċj=↑ ž,ÛJ,wD.map Ě,ÒU,λ k=>Í (k=w),ÈQ,((ÛJ).any ÒU),Úp,∀(hm:Fm<=100),0,ř5,Fm=μ,ák,∀(hw:ÈQ=true) (hk:Üe) (hl:ř5) Úp (hf:éI),0,ït,by let#[j,h1,h2,h3,h4,h5]:=à8 he,Nn,by have hl:=ϗ,ál,by ext ït;let#[w,ew,rw']:=r.get h2;ext Nn;have hn:=fF;have fin:EP Č Q w s:=#[z,H,I,rw',q],ϓ1,by let#[x,r,h1,h2,h3]:=h,ÆN,by rw[As] at h;simp![zu,zA] at h;ext ϓ1;subst h1 h2,Ρ,[_,by cases h],Vf,o.slots,Kp,Į "dict",Áy,.dict į,ÇC,fz { cls:=Kp,data:=Áy },ám,(ÇC).update x λ o=>{ cls:=GZ,dict:=↑ Ĩ,data:=Pg,JW:=Vf },ϋ7,[_,by obtain⟨m,rfl⟩:∃ k,m=k+1:=#[m-1,⋯]],ϋ8,((x2.trans x3).trans a2).trans,Ol,sj e,Rt,h1.seq,ÆO,by ext CL;let#[ts,e1,rfl]:=Ol;let#[es,h2,h3]:=Rt e1,án,rP [Ć,KC,KM,Ck 0,Ć,Ć].toArray,Cz,AT h,ÆP,(AT #[_,rfl,Cz]),F4,Obj.mapSeq,L_,Builtin.List.listTooLong,Uy,#[h.1,hq À h.2],ϋ9,(.ins C dx [("kept",à q)]),ÆQ,λ ds S1 xs H1 h1 q1 e1 p1=>?_,da,λ gV s σ H D Q W hW I z0=>?_,wM,∀{x y:T},0,ÿ5,∀{r:G9},0,ÆR,∀ wM ÿ5(h1:fa Y=↑x) (h2:fb Y=↑y) (h:QL=r),0,Äc,Str× Ø,A5,List (Äc),Qs,zK.mo,áo,by exact#[#[f,fd,h1.imp λ vs H Q E z0=>?_,h2],Qs];let#[ds,S,r1,r2,Z,ys,y,a1,a2,a3,a4]:=z0;exact#[ds,S,r1,r2,?_];let#[z,b1,b2]:=ϟ a3;split at b2,úK,[none,none,↑0],DR,_ ↑ Ď none,éO,_ mJ (zc (xK ļ DR) (zc (Ŷ4 wD LY) zf)),áp,_ úK (wq éO) VJ,ÆS,by .rintro⟨r1,r2⟩ s' ⟨hr,rfl,_⟩;simp only at hr;subst hr;show Cz,Td,e3.extBut,ÔW,ż c=↑o,áq,by have up:∀ c o,c≠z->c≠i1->c≠TO->ÔW->g3.get? c=↑o:=λ c o c1 c2 c3 q=>Td À c3 (Üi À c2 (Wa À c1 q)),Uz,bmB.contains,öz,Uz (Į "object")=true,aj,∀(hC:ßT),0,ό0,∀(hb:öz) aj,0,ĊG,firstArgMember,ÒK,(by size_fits),ár,AC (m:=ĊG À) (wpAny_of_eq (a:=Hr) (by first | rfl | (simp![ĊG];rfl)) (P4 ?_ ÒK)),ÞE,List.map,ÆT,by change ↑(T.bl ((ÞE À).all id))=_;rw[zfT],qO,slice,Fg,value,êr,by intro Fg qO gV s σ H x y v u Q I rx ry h hs,ÎL,[_,by cases rx;let#[t,rfl]:=ry],ás,by ext êr;let#[p,xs,i,z,rfl,rfl,hq,he,q]:=h;ext ÎL,ÆU,(qH b (FS (KE (B9) (I.ok.fX x c hfn hc)))).trans,ÆV,Ō b=↑u->ι b=↑u,Ą,Â i,qC,(Ą),át,["_law_number","_law_names_here","_law_right","_law_words","_law_at","_law_place","_law_way"],BP,∀{H H':Hp},0,Ī1,∀(ha:y7 ta) (hb:y7 tb),0,Ö7,t_ Nat,JC,∀{p:Ö7},0,ĳ7,∀(o:Ord lt),0,Ī2,∀ ĳ7 JC,0,ŷ,∀(f:zEO),0,Ī3,∀(S:mv w ð a M_),0,ÆW,_ "say" "Desk.say",bA,_ F.A F.B,ül,by let#[w,w1,w2]:=r1.2 i _ h1,ÆX,by ext ül;let#[y,y1,y2]:=r1.2 j _ h3,Cr,λ u s1 z0=>?_,xH,A.units,SD,#[cls,dd,data,sl],TY,zj5 Ū8 rfl (zF (ho Gn) LC),VP,bits h,ÒG,layClean.free,EB,(M+1),FT,VP%EB,ÆY,ÒG Qb (turns M) (FT) (VP),O_,Addr->rM,HN,j.toNat,ÆZ,_ (λ _ j=>0<=j) λ i j=>Â (i/2 ^ HN),Ðl,Ψ7 many r,Ďo,∀ r∈ws,Ðl,ξ2,os.map,Β0,ξ2 ø,ùR,∀ r∈qs,Ŷ5 (Β0) r,Ça,∀(hw:Ďo) (hq:ùR),0,ð3,Nat.lt_trans,Ň5,(.ins C dx fs),rH,s₁.heap.get?,Vd,e À q,áu,#[λ b xs q=>Vd,λ b o u q=>Vd,λ b u q=>Vd,λ b u q=>Vd,λ b x u q=>#[u,Vd]],Bj,Nat->Nat->Bool,UM,(rg ĕ),EA,Txt.splitMax,AM,Gd bA b,Çb,by let#[it,fp,tn,J,H2,e,I2,T,st2,f2,rd]:=h2,sU,Value.type,Ex,assignEach,sg,(.im (uV)),Am,V.str,áv,q.1=r.1/\∃ a,r.2=œ/\∀ H,y6 Ò a (q.2.map Am),L7,w.f=p,uB,∃ w∈F.ws,L7,ό2,by let#[_,_,_,_,o,_,_,e,_]:=x,Ŭ,_ h1 h2,Đp,_ øK k5,R9,_ Ū8 hs VZ,tK,∀{env:Env},0,Ů6,∀ ÀP tK{ġ:rf}{L e:Addr},0,İ7,_ hC hn hP,Ϻ6,_ İ7 FB.mro,áx,by repeat (any_goals (first | ext Ŷ | ext qY | with_reducible exact iC Ϻ6 FB.ga.lookup hq1 hq2 ?_ | with_reducible exact iC Ϻ6 FB.noGetattr hq3 hq4 ?_ | wp_step)),ό3,[↑(.im (KP)),↑ Pw,↑ Rm,none],Çc,[_,by subst e;let#[o,e,c,d]:=st;show#[o,e,λ v z=>by rw[d] at z;cases z]],Mg,fs.getD k "",áy,[_,by have hf':Mg="floor"\/Mg="name"\/Mg="number":=hk _ (by rw[Id];simp[hk']);rcases hf' with e | e | e],Q5,(L x).drop,áz,by rw[strSub_toList];change (Q5 a).take _=_,EW,plainT,áA,∀(hk:Üe) Úp (g:Gm->T) (h:∀ p∈ DB,mx [uV,Âq,Ã p.2]=↑(g p)/\EW (g p)=true),0,τ3,_ rfl τ9,uv,É ⋯,ÔC,(Ă8 ßU ßU 9),Êp,(Ó some (DO h5)),áB,(zl ÔC (zl (yE (WE Êp) ((Ň6 τ3 rfl (Æ h2)).trans (Ó àq (uv)))) Åj)),ϳ2,ι b=↑o',áC,Pg=rP vs->∃ o' vs',ϳ2/\o'.data=rP vs',áD,["_law_row","_law_names_here","_law_words","_law_forms","_law_more","_law_form","_law_k"],Yz,by simp![KK,Op,Mq] at hb,Xh,isTrue,EK,whole,jg,standAt,E6,holding,ýZ,E6 [v] (truthy v),áE,∀ EK,Xh (Ă υ5) Ù EK=(do let v <- EK;jg (Expr.Call υ5).pos;ýZ),BX,_ ha hb,ZX,_ BX (Ħ0 _),áF,_ (yh (ze Α (Ų0 3) Ij)) (vf 4 (tupS (zc (zx 5) (zc (zm dE (zc (Ω7 3 Ļ) (zc (Ω7 3 Ď) zf))) zf)))) yF,HC,xs[i]?,ll,HC=↑x,ό4,PyProof.Rows.callWith_type1,Md,(Mu hl _),Cv,codeAny_builtin,FH,by ext sC;rfl,ÞF,Í (L7),ό5,F.ws.filter λ w=>ÞF,HJ,Â b,ό6,[Â a,HJ,Â c,Â d],Τ,õ L5.W,ċq,#[[s].toArray],mr,n/650%8,ZC,lC ċq (mr),Òb,Į "function",áG,∀(hC:Ō C=↑ υ3) (hn:ÛB) (hi:mN "__init__"=↑ Ml) (hfI:Ō fI=↑oI) (hfc:oI.cls=Òb),0,ð5,binaryOp,Ĉ5,if_false,Zb,#[_,Eu,rfl,rfl],ďT,by rw[zhP (Ł hj)] at e2;let#[u',r',q]:=hl j y v' e1 e2 e3,Çd,[_,by obtain⟨ds,rfl | ⟨a,rfl,h1⟩,h2⟩:=Vw.lst r1],Ņ,t::ts,IH,Scope,ZN,∀{ų:IH},0,â2,∀{pick:Kh},0,aV,∀{N':Û}â2 ZN,0,Γ,Paired,Å4,List.mem_append.mp,OJ,λ b hb=>?_,ďU,#[m',hm,i+1,XV,H8,I8.gW,T.keep Ð st5 λ b hb o e=>(I8.pin ω4).1,OJ,w8],JI,ss.map,Gv,(n:Int),ό7,Builtin.Tuple.tupleExact _,ÂP,_ Ie n hb,Çe,by let#[sl,e1]:=I.base.slot ÂP hx,qP,∀(h:f Y=↑ pD),0,Ü3,its.length,Às,(Sr.sn r),ďV,#[Z,ys,y,a1,a2,b1,λ d S' s r=>#[by rw[jh Às];simpa using hy,a4 ύ s r]],áH,∀ i m σ H,ÜV->Te/\∀ x H',UB->g x ik fun σ2 H2=>te σ2 H2 (àr) Qx,Ph,by let#[y,e1,e2]:=ŗ,GB,Int.le_trans,ό8,i.length+j.length<=â,Xm,Calls.spliced_cons,Qp,PySem.W.callWith_K,Vc,zA Ò d v,fg,of_decide_eq_false,Ko,_ [e] x8,ό9,(Ă (ű o "append" apos) Ko),uL,Sn S t d,ĸ,Y[i]?,Dw,ö->Ev->õ Ev,Jb,(ds++es),Ź,zo.sx,ðS,(Ź (oG s1) ts h3).append,áI,P _ Z L (F1.mut (us:=Å ϣ2) (es:=Å Jb) i h h1 (ðS g4)),N8,PySem.W.mg_of,áJ,keep b _ ăG hs,Ùl,ĕ (0+ü),OA,(λ k:Nat=>Ùl),Üd,("",""),XI,(DB).getD k Üd,τ,_ h (f a),qB,∀(i j:Int),0,Χ,∀(ns:é),0,áK,_ R4 oj f cdv A ġ s,áL,_ (a::b::rest) pos,áM,_ T' n u' hok' #[oe',vs',a0,T',oT',ts',a1,a5,a4,a6,a8,yy,a9,a10,a11],yu,List (dD ×V),ċP,dD ×Addr× Ø,Ϛ9,List (ċP),ύ2,∀{tp:yu}{xs:Ϛ9}(r:KT H tp xs),0,Ð1,hi.mo,áN,by ext ŀ;exact Ģ hv.mo OV λ w S1 w1 H1 h1 q1 e1 p1=>?_;exact Ģ CT LZ h1 λ x S2 w2 H2 h2 q2 e2 p2=>?_;exact Ģ Ð1 (ϰ3) p2 h2 λ y S3 w3 H3 h3 q3 e3 p3=>?_,Üb,BY hl (),Çf,vy ø _ (vv w) (Ý0 rfl ha) (by rw[ā6];show Üb) λ c _=>rfl,DH,_ nM Ä7,rD,(zb 6),Sw,_ Α rD,ÀZ,_ Ū none,Cb,(zb 4),ĊH,(ze zC Cb Ď),áO,(y9 (yh (ze Sw Ď)) (retS (xM DH (zc (ze zC (xK ÀZ ↑ ĊH) (xK Ū ↑ Cb none)) zf))) yF),NW,by simp![zo] at h;subst h,āZ,(sb.2 Ϣ).trans,æN,_ (λ b o hb e=>āZ e) Ób,Êt,Inv Č H { s with heap:=h' },Ąf,by let#[o,e,c,d]:=id st',áP,by have I1:Êt:=Áw (t':=Ĕ) æN;ext Ąf,ÊF,PySem.W.plainOver K C=true,ϒ1,PySem.W.hasDictIn K C=true,Éf,PySem.W.plainGet,õn,Éf K C Str.empty=true,áQ,∀(c1:õn) (c2:ϒ1) (c3:ÊF) (c4:ÅD),0,ύ3,[_,by let#[_,_,_,q,_]:=h2.Ŷ0 p r2;cases q],Òo,Pg=ň its n,Tg,its.size,KG,its.toList,áR,Òo/\Tg<=â/\Vals xs KG,W7,["self","name","floor"],YY,_ pick ti,YV,(kU YY g tcc te),ύ4,Turn η X.K tg J fp it tn,sv,Sx S S',tW,Option.none,áS,t_ (õ Nat),sk,#[_,rfl,h],Xg,by ext VX;let#[t',rfl]:=ry,ðv,(Ă (ű o name apos) AR x8),Çg,_ X ðv (gZ X.K T r to t),Ćh,λ itv s2 h2=>?_,ÃE,(hi Gn),æR,(zF ÃE λ v s1 h1=>zF h1 Ćh),çc,_ rfl hs hclos S.kind (λ y hy e=>e▸S.uniq y hy),áT,_ çc æR,áU,_ acc (Æ q.1) (Ã q.2),G3,I1.yV,Çh,λ us s1 #[vs,H1,I1,r,q]=>#[G3,?_],Jd,ć y py,áV,_ ↑(Jd) spos.line Ù,υ,∀{tA:yw},0,ā9,∀{c:sZ},0,Yv,∀{f1 f2:zEO}ā9{ga:Ϗ},0,ī0,(.dK tp),gC,(xc "list" A0 0),CF,(Km key),ύ7,(tU (wU X.w l us)),áW,#[I.ok,J.os,J.bare,J.base,J.loc,J.cell,J.free,J.mC,J.pin,J.zt,J.len],ύ8,_ X (Gh a Ąn pos),áX,by let#[y,H8,I8,r8,ys,m',e8,z8,hm,w8]:=z0;exact ďK;let#[_,H9,I9,_,q9]:=z0;show AT (AT #[rfl,back I9 #[m',hm,q9]]),Bv,H b=none,ćE,_ (d1:=d1) (d2:=d2),Ċs,(LQ.fA hk' hl),áY,by have e1:=Á0 Æf (ws:=ws) ćE hφ hk' hf;have e2:=Ò7 Æf ćE (φ:=φ) (k:=k) (ws:=ws) Ċs,ïe,(Ũ6 e (Ł hTe)).trans he,çj,(hl.of_keeps λ b o hb hnf=>#[o,ÅK,rfl]),þu,_ hen hd (Vu h1).1 h0,áZ,_ hfr çj hf (ïe) àF þu,BE,∀{p:Addr},0,Çi,by simp only at hc hd hc2 hd2;subst hc hd hc2 hd2,èU,∀(hxj:Loc NZ c) (hfj:X.fn c=true\/qF c=↑ uI),0,ÿX,Gl X "PurseError",Nq,X.env.kindOf,âa,∀(hg:ÿX) (hin:Nq n=↑ uI) èU,0,âb,h _ H (by simp![zA,cond]) tJ h3,Xc,_ ð h',Êo,Į "StopIteration",òh,(∃ o,ι e=↑o/\GZ=Êo),ďW,∀ h' e,Heap.ExtBut it Xc->òh->E Ϡ { s with heap:=h' },ύ9,[_,by let#[_,_,_,q,_]:=h2.Ų2 r2;cases q],âc,PySem.W.instObj,K7,eval e Ù,xj,.BoolOp,Ϯ3,(ha pos Gn),ĉy,λ us s1 z0=>?_,Çj,(zF Ϯ3 ĉy),Çk,(λ b z=>á z ∅),ώ0,PyProof.Rows.slot_tuple_getitem,AN,À0->rN,EC,V->AN,Mr,[Ŗ],Yb,xs=Mr,Ab,call_meets,Þs,w.params,iI,K Þs,Mi,(uR (Cs)).zd,p_,_ _ S1 s1,YU,hq p_ ÕY,Yc,λ ds S2 s2 r2=>?_,dh,xP is Y,Fc,(dh),ώ1,#[t,h1,λ ds S Q h=>Â5 h2 h],Xw,List.Pairwise.imp_of_mem,ďX,(Str×(ö->G9)),QK,vc IU,Xn,Ħ "; " (QK),YM,BU<=10000,q8,∀{i j:Nat},0,Ϣ8,∀{tp:rF}{vs:FZ},0,RZ,wu Ò tp vs,ώ2,∀ Ϣ8(h:RZ),0,ň8,by let#[x,e1,e]:=ŗ,ÕE,Int->Int->T,âd,∀{g:ÕE}{g':DZ}(h:∀ i j S,Sn S qk Ýt) (n:∀ i j ts,g i j≠ Δ),0,Ò3,∀{f g:zEO},0,ñe,(λ cl C s H fp=>he oa nd),ëM,_ Sc hc hi (λ cl C s H fp=>hg oa nd),âe,_ ëM (λ cl C s H fp=>hf oa nd) ñe,pO,I.pin,ģ,_ p hp,ώ3,by let#[e,n,ne,nf,d]:=pO ģ,MF,by let#[xs,e1,e2]:=ŗ,ĉR,(zc (zx 6) zf),Ñg,(zc (zx 5) zf),âf,_ (yh (ze Α Ū Ļ)) (tupS (zc (zx 5) ĉR)) (tupS (zc (zx 6) Ñg)),Çl,_ (c0:=32) (yr:=[]) (),ÂY,.nC o u,Çm,∀ b o u,H b=↑(ÂY)->DE=↑(ÂY),âg,AC (wpAny_frameOf_fun hfr hl hf λ h₁ hs₁=>AC (wpAny_entryPlaceOf λ pl hpl=>?_)),B4,bs.map,Öw,Î (B4 zW),Ad,(ő),ÛP,(.im Ad),Çn,[↑ ÛP,↑(.im (Öw))],Ac,fs.map,ÏW,Î (Ac ø),L8,(ÆI),Ço,[↑(.im L8),↑(.im (ÏW))],A8,_ f fd ps,ÂS,_ k A8 sp,Yr,∀(F:wA En CX ÂS),0,âh,_ (s2.on λ o q=>up _ o (Ł n4) (Ł n10) (Ł n9) q) (h2.on λ o q=>up _ o b1 b4 b3 q) hy,ϲ6,_ e (tU ψ),ώ4,_ (upd H dx (.xd fv)) ϲ6,VG,∀(hr:yg k' X.A),0,Çp,_ PySem.F.slot_str_split PySem.F.type_str_split,ϡ,∀{w:Str},0,Ű4,∀(ha:asc r) (hr:ϗ<=5000),0,χ,List.getElem?_eq_some_iff.mp,û5,codeAny_mono,ĉ2,Zc<=â,Ŝ1,its[i]?,IX,Ŝ1=↑v,Ao,sP o i pos',N7,partsBetween,D_,i.toNat,GX,Paired.length,Hy,_ hg hm,EX,_ I Hy,Z_,zj3 (j_ EX ?_ hdb),CM,V->ř->ř->rN,ag,oJ.ext,Pj,λ _ _ h=>ag e h,CU,(k:Nat),Çr,fun L S Q Q' hq z=>El ó (λ y S1 z=>?_) z,âi,(l6 nm' q' P N' bs' bm' hdct' sn' sub' ab' col' dd' l0 l1 l2 l3 l5 newId'),Çs,∀ a H',ū7 H1 H'->Ē1 X.K c f x a H'->Q a H',âj,[("alone","f1"),("cheapest","f111"),("brims","f11"),("compare","ff")],Qw,Builtin.Str.strKind,ae,(zZ rfl),Çt,(yE (yn (zJ Ö (Ó HQ (DO hk)))) ae),X6,l (!s),Xl,Ź2 (l s) x.2,óz,jT (X6) sh x.1 (Xl),âk,∃ w∈ óz,(w.1<=y.1\/w.1<=z.1)/\(w.2<=y.2\/w.2<=z.2),Çu,["lasts ","deed ","way ","cheapest "],Cf,I.bare,ØJ,λ _ _ e=>e,Ùp,λ m hm=>?_,âl,_ (ØJ) (λ _ _ _ e=>e) (λ b ps e=>#[į,Dl]) (Ùp) (λ b u e=>?_) Cf,ÍJ,#[#[a2,a3],a4],âm,by let#[oe',vs',oT',ts',a1,ÍJ,a5,a6,a7,a8,a9,a10,a11]:=y3,pS,∀{i j:Int},0,Ð3,Â j,Çv,∀ pS(h1:fa Y=↑ qC) (h2:fb Y=↑(Ð3)),0,å8,_ L S Q,ÏF,g y Y=↑Y',ân,ÏF-> (∀ L',ER S Z L' Y'->gD B L'->L'.length=Y'.length->Q L' S)->t d å8,Ói,_ dc pm an cd ct,Nf,Hv f,De,.func,âo,Nf=↑#[oc,od,De (Ć8 x x Ëg Ói),sl],Ng,y7 te,Mc,∀(h:y7 to) (h':Ng),0,ïS,AutoSeq1.wpAny_loadPart' hl,Çw,[_,by wp_walk using ïS,made hL],âp,_ (w_ ýY hn) rfl,YS,Gc _ e,NC,λ b o e=>YS,G1,pl.isList,âq,∀ EK,Xh a Ù EK=(do let v <- EK;jg a.pos;ýZ),Yu,Binds K fd ps [],XC,ps++[r],QC,(Ħ y (XC)),QN,_ w.t [],bt,ÛN QN,tF,yX s.pu q,qA,_ p.1 p.2,uP,∀{a b:Expr},0,Ö2,∀(pick:Kh),0,á6,∀{ta tb:zr},0,Ζ8,dd.typeIs,öY,PySem.F.slot_dict_get,âr,_ öY Ζ8 PySem.F.entry_dict_get (PySem.F.args_dict_get_3 Ð),FX,A.in1,QY,_ _ FX,ôn,F.plain_set_update_loop,az,(à I),ϕ9,Around.under_plainId,ďY,by rw[ϕ9 ôn _];change Ä QY (QH az >>= _) CW,âs,_ (o:=['r','o','t','a','r','e','t','i','_','t','e','s']) Ji Ö6,Çx,_ qq (ze zC rD Ď),Q7,_ "NoRow" "row",PR,∀(pu:Bool),0,ŝ4,∀{fp:Ξ},0,UQ,List (Str×Addr),ÜS,Nat->AI,ώ6,∀ ŝ4{tn:ÜS}{J:It}{cl:UQ},0,ïO,(hperm.map _).nodup_iff.mpr,ât,by exact ïO ?_;rw[IN,List.nodup_append];exact#[hnd,∅,λ x hx y hy=>?_];simp at hy;subst hy;show λ e=>hm (e▸hx),âu,(zl ÔC (zl (yE (WE Êp) ((Ň6 τ3 rfl (È h2)).trans (Ó àq (Ç h2)))) Åj)),RE,asc w,Ìa,RE/\YM,IL,ŝ3 r,Ċv,∀ w∈ IL,Ìa,Ây,(· < 128),âv,by let#[wl,wp]:=ĭ5 r;have was:Ċv:=λ w hw=>#[Ĵ4 (P:=Ây) ha w hw,by have:=wp w hw;lia],ÝR,xP is Y',ϱ9,test x=true,ÖA,.rt (ret x),tT,(enc x),ąw,turn g b tT Y0,YX,.nx Y',âw,(∀ x∈xs,∃ Y',ÝR=Y0/\ąw=↑(if ϱ9 then ÖA else YX)),Çy,[_,by rcases hb with rfl | rfl <;> decide],Çz,[_,by let#[_,y]:=e.ds Ð z;rw[h] at y;cases y],Ñz,∀(hφ:L φ=Ac cf),0,ès,∀ f∈fs,f="floor"\/f="name"\/f="number",ÀQ,∀(hf:μ<=10),0,âx,∀ Ñz (hl:μ<=Fm) ÀQ (hk:ès),0,ÇA,FI [a] Ù=[(Á,ϻ0)],Îj,(Ã (toString i)),ßh,-1000000,Ëe,ßh<=i/\i<=1000000,ây,(λ xs H Q=>∃ i:Int,xs=[Ą]/\(Ëe)/\Q Îj H),ZY,(" ":Str).length,Qf,_ s.pu x,ώ7,(BV+1-yX Qf).toNat,BD,∀(p:Nat),0,Ű9,s.heap.IsTuple,Pt,True.intro,ώ8,PySem.W.codeIn,ÇB,B3 ò ò hi,KO,oe.data=rP vs,Hk,IsTupleKey,Ϻ1,RN.start,Py,Ϻ1 F,ώ9,(.im (Ã row)),ôP,PySem.F.plainAttrs_list,âz,_ ôP PySem.F.slot_list_append PySem.F.type_list_append Œ9 Bm,Ϗ0,by let#[d,d',rfl,h1,h2]:=ŕ0 hv,Ϗ1,by rintro⟨p,hp,h1,h2⟩,ű0,by simpa only [zA] using h,qL,h1.elim,eS,λ q hq=>h q (Da _ hq),sM,List.mem_map.mpr,ÂQ,_ I1 r1 q1,âA,_ (zF Ϯ3 λ us s1 #[vs,H1,I1,r1,q1]=>hc ph vs us Q ÂQ) BK,ů,Ã x,qQ,(ů),Ád,_ ĝ tX h,ďZ,Ģ Ád UU,Ϗ2,(ĵ ō its).flatten.toArray,Gi,∀{α β:Type},0,Ýy,Bool->ϴ,û9,∀{Q:Ýy},0,DM,_ [b] pos,Xt,_ X (Gh a [op] DM),Ib,_ ⋯ ⋯,O4,∀{vs:zLV},0,Ι7,RelV y u,Ah,∀(ry:Ι7),0,ŗ0,Gc _ q,ĎN,λ b ob q=>ŗ0,kc,_ (ĎN) Ķ,GS,∀{F:zLO},0,Ŀ4,α->T,ñ0,∀(enc:Ŀ4),0,π1,_ oF H3,çL,_ I3 (stat fr3) st3,òy,_ DV hc i [] s3 π1 _ çL,Ϧ2,λ r s4 z0=>?_,Đa,zF (T.item tI òy go) Ϧ2,ÞK,Â (i%j),ÇD,_ (λ _ j=>0<j) λ i j=>ÞK,Pd,kindOf,Ϗ3,_ Pd ((p,w)::P.zip vs) m,ÇE,List (Str× Û),ćQ,(show u=đ b from ry),uU,_ I.zt e,ÇF,[_,by subst ey;cases ćQ;let#[z,hd,xs,rel,dd]:=μ8 uU],Lz,_ g1 g2,âB,by have ht:=hit.typeIs;let#[oi,e1,e2,e3]:=id hit;ext ďL;ext Þ;exact AC (m:=seqItems? ū) (oR Lz ?_);simp![zgH,hx],ϰ4,x2.trans e3,âD,fun L5 S5 #[m',b,w5] σ5 H5 b1 b2 b3=>#[(ϰ4).trans b2,L5,S5,m',b,b1,b3,w5],jc,∀{xs:zAV},0,ó1,∀{l:Addr},0,vQ,∀{k:Bool},0,ű5,∀ vQ ó1 jc,0,ÇG,(by simp[z]),ÇH,[_,by rcases x_ e2 with ⟨rfl,hl,_⟩ | ⟨n2,e2⟩],ÇI,FI [b] Ù=[(Á,ÀR)],rJ,∀{A B:Int},0,øL,_ (d1:=vx mz) (d2:=vx my),Đb,_ (r:=r) Ÿ1 (w0:="floor") (φ:="n") (fs:=["name"]) øL,CP,t_ GenState,Hf,Inv Č H' s',HK,I.list,sF,[x,y],ÇJ,#[cls2,dd2,data2,sl2],uH,_ K c C,yv,ł3 uH P N NP,YT,yG d S,Ϗ4,YT=↑ds,GU,(hName i),PY,PySem.W.kia_one,Öa,(EV E8 mS),ZS,hq _ Gz Öa,I_,hs.length,QX,ľ[j]?=↑↑k,XQ,hperm.length_eq,Ϗ5,Txt.replace,JR,(zc MS zf),ýK,wh p.1 p.2.1 p.2.2,Àx,ts.zip bs,ÇL,(Àx).all λ p=>ýK,U9,∀(st:Stmt),0,ÌG,x≠"__name__",Ϗ7,∀(hn:ÌG:=by decide),0,Z5,#[t,rfl],âG,by ext Hh;let#[i,j,rfl,q]:=h;let#[u,w',rfl,Z5,Öi]:=vals2 r,AJ,∀(i j:Nat),0,ÄT,_ qual st,Ìw,∀(F:nH K x ÄT f fd),0,ā2,∀{sp:wt},0,Dm,_ ds S Q,âH,∀ ā2 Ìw (Sc:TH) (len:∀ ds S Q,sp Dm->t4=İ),0,Ý2,∀{x y:Str},0,Ìy,∀(hnc:∀ c,Pg ≠.cls c),0,Ãi,mA name,ϭ7,h.Ns1 dx mA,SA,o.dict,âI,∀ Ìy (hdx:SA=↑dx) (hns:ϭ7) (hv:Ãi=↑v),0,Úl,_ e oe.cls a0,Xe,vs[0]?=↑a0,RM,oe.dict,âJ,∀(h0:Xe) (h:∀ h',Heap.Wn Ÿ5 Úl RM Xc->pZ),0,Χ1,(ì x),íj,∀(mu:ų4 (H x)) (he:e=x\/H e=↑ Χ1),0,Ĉf,∃ u,ι e=↑u,IA,b≠e,âK,∀ íj (k:∀ b u,IA->ÆV) (heo:Ĉf),0,ű9,by change (u Y).bind _=_,ω,.bl b,Au,RelV v u,Df,[Ą,Ð3],ID,λ x hx=>?_,vU,kB K "Desk" C,YI,RF b a,LR,λ a b=>YI=Á,Ϗ8,t4+es.length<=â,UA,a.length,IV,_ zp ħ,rU,(ze IV Ļ),B0,(cI 3),ÇN,(ze zp ù B0),ÇO,(ya (yn (zJ Ö (Ó HQ (FM hk)))) rfl),JG,Str.length_append,qg,yP IU,qc,(.im (qg)),Fo,List.cons.inj,âL,by ext ŧ;let#[v,e,h]:=h;let#[m,hn,hl]:=ET;let#[u,r,l]:=hl i x v hN e hv,ÇP,∀(he:CH:=by rfl) (hpl:ÑP:=by rfl),0,ÇQ,_ Xs (fun L4 S4 z4 σ4 H4 a1 a2 a3=>?_),âM,by let#[oe,vs,oT,ts,he,#[Dj,h0],hd,h1,hnT,hTe,hT,hdT,h3]:=ht,Ϗ9,_ (w_ (lR t1) (ky t2 n2)) rfl,âN,[_,by simp![dep] at hn hu hu';let#[e1,e2,q]:=el hn hu hu' Lz tX v1 v2;exact en (λ z=>by cases hq z;rfl) ?_;rw[Į4,<- e1,<- e2]],ÛD,(vI q hn),n5,by rw[zR ÛD];show q,âO,∀{m0:Nat}{σ0:St}{H0:Hp}{s0:θ}(I0:Inv tI [] σ0 H0 s0) (t0:tn 0 s0.heap) (f0:∀ b∈fp,H0 b=none) (w0:W 0 m0 σ0 H0),0,ü6,List (Str×V),Lb,Ó Í6 e,Oy,by simp at this;lia,ϐ0,by have:=Lb;ext Oy,âP,∀(F:ExcBaseFacts B DU initId bmB) (T:OwnTail h bmB bm) {mN:zSV}{rest:zLV}{fI:Addr}{oI:Obj},0,HV,by subst hE;rfl,iE,PySem.W.isFn K FA=true,Dn,∀{b:Bool},0,ÇR,if v<0 then (v+Gv).toNat else min v.toNat n,ÂT,_ ŏ p ys,ϐ1,(yB ÂT\/y6 ÂT),Y9,fun σ H R hu=>?_,JB,PI.imp,âR,#[fun L S Q Q' hq z=>hm ó (λ ds S1 z=>?_) z,JB h Y9],Ûi,(MQ m 0),Qq,(m-1),Òl,(MQ Qq 0),âS,lt Ûi Òl,ûm,owner.setIfInBounds,ϐ2,ûm j ↑m,ur,(zdK),ýv,Code.quiet_builtin,ϐ3,ýv _ ur,ÇS,(ĵ ō xs).flatten.length,ϐ5,zM (y8 (y:=T.bl _) ?_) rfl,RL,∀(e:Expr),0,Ò8,∀(xs:ŵ),0,ĆP,F.slot_int_rmul,ØG,typeIs_int,âU,_ ĆP (ØG s k t) F.entry_int_rmul (F.args_int_rmul_2 À),jB,π hp,iw,by let#[r,hr,rfl]:=jB,pQ,∀(x y:Int),0,ϐ6,∀ pQ (os:Û) (ws qs:Ğ),0,ñ4,(Å xs),eW,r.append,âV,#[.zB,_,I.Ħ9 (its':=its++its2) hH e ∅ (eW r2) ?_,rfl,q],ϐ7,(ÚX x).isSome,Me,hq À z,âW,h1.length.trans (r1.length.trans (r2.length.symm.trans h2.length.symm)),Fd,_ is g b,bV,(Θ enc),gQ,vY Fd bV Y,tq,(YX),âY,∀ Y,I p Y->∃ Y',turn g b tT Y=↑ tq/\I (p++[x]) (ÝR),Il,xs.size,YZ,codeAny_call_builtin,ċx,ÔW->ι c=↑o,ÇT,(∀ c o,c∉ FN->ċx),Áx,Â (i*j),qZ,_ K qu,âZ,rI oU (λ i j=>Áx) qu\/Ř0 qZ,ϐ8,(sP U7 i pos),ÇU,["self","row","words","things"],iz,decide_eq_decide.mpr,ϐ9,by let#[vs,H1,I1,r1,q1]:=z0,Ýj,(C,oC),ÇV,_ Ýj (PP _ (PP _ (List.mem_singleton.mpr rfl))),ϑ0,by let#[a,xs,rfl,r1,r2]:=h1,ÇW,by let#[a,xs,rfl,g1,g2]:=h1,ór,PySem.F.slot_list_extend,ãa,_ ôP ór PySem.F.type_list_extend,Þp,m.map Ě,Np,_ (Þp) ts,NM,last.length,Üa,fo.length,ÇX,∀{last fo:RB}(hl:Üa=NM),0,ùW,_ ßp u Q I2 rx ry,ãb,(Ě5 BX I h λ v u s2 x y H2 I2 rx ry q=>ho ùW q),ãc,#[L,S,r1,r2,mo ó (λ d S' q v H' a b c=>k ύ v H' q Fu) h],AP,yS->ql,ãd,∀ d L S (Q Q':AP),(∀ L S,Q L S->Q' L S)->t d å8->t d L S Q',ÇY,_ "__init__" "Desk.__init__",Mf,bootBuiltins x,ϑ1,(I.base.keep ÂP hx),ÇZ,Inv Č H { s with heap:=h',toks:=t' },KN,Int->Int->Prop,Yy,.bl (Í (i<j)),ϑ2,Builtin.Slice.slicePlaces,Èa,Ŧ { cls:=Kp,data:=Áy },G6,List.all_eq_true.mp,Cy,zA Ò d x,uX,(MQ k 0),Èb,λ r=>ud n r.2/\r.1<=n/\lu lt r.2 r.1,EH,qs.length,ÃC,(.zE m),Qk,S p=↑ ÃC,M3,PySem.SetTable,ÕU,λ e=>Km e.1,Xa,Θ ÕU,LW,ű o "kept" ap,ϑ3,(Ă (ű o m apos) DY),Èc,(ze zp ù Ij),tG,(zx 2),TP,(zc tG zf),OZ,Ç (Üb),Èd,zj hc (zj (Ö1 h0 hk) rfl),A4,∀{M:Model},0,ô3,∀{y:Str},0,bu,∀ ô3{py spos:Pos},0,Ā3,_ k ps sp,ϑ4,∀ ā2(F:FD En x Ā3),0,Ċ2,∀(p:ye ŏ S),0,Ĭ8,∀{a:Lc}{b:rF},0,BB,∀{h h':Heap},0,Ψ8,_ GH Æj,ĉk,SQ ð k1 l1 xs,ĉl,SQ ð k2 l2 ys,ëJ,∀(h1:ĉk) (h2:ĉl),0,ãf,∀(D:Ws Æj) (S:At ð Ψ8 Ć n) ëJ,0,Ķ8,_ Ŭ h3,ďx,_ y d e H S Q Ķ8,Yk,_ x ďx,Đq,_ ďx h,Ds,isOdd,Jc,∀(he:Ds t=Á),0,Ģ7,∀{r:é},0,Q2,∀ Ģ7(h:Ő3 r),0,ä0,St->rM,Ŋ8,Nat->Nat->ä0,é5,b.length,ãg,(hq [(x,t)] Ĕ (üG (Ç hf)).symm),eQ,Ĺ8 (pu:=s.pu).mp,Ll,L (" x7B\n":Str),Èe,by let#[#[f,fd,h1,h2,h3,h4],hm]:=F,Ů,by split at e2,X0,by let#[y,e1,rfl]:=Ol,ϑ5,by let#[#[slot,h1,h2],S]:=st,Èf,by let#[sl,hs]:=hs₁.2.2 Ze,Èg,by let#[n,u',hok']:=ï9 u zt I.zt hp a9 a10,Ik,_ À h2,Ąe,by let#[C',c1,c2,c3]:=hk,ãh,by let#[C,dx,q,vs,g1,g2,g3,g4]:=r2 Ik;ext Ąe,Đc,by let#[x,H1,I1,rx,a,C,dx,fs,ex,ea,c,me,l,q]:=z0;ext ħ9,jk,I1.zt.fresh,cN,its.toArray.isEmpty,GO,zD4 _,Ga,FM ⋯,ãi,Š5 I a3 t u' (A:=X.A) (LQ.Ŏ6 hu a6) (LQ.Ŏ6 hu a7) a4 a5 a1 a2 rx ry,Pl,eqT t u,Èh,ts.any λ t=>Pl,Ûn,tupleKind,ϙ2,Ûn Qi,ãj,VT/\M7/\ ∃ xs,KT H tp xs/\h.DictOfH (ϙ2) Ô7,Cw,some ↑ Ki,OG,t.put j,KJ,λ e=>OP e.1,Èi,Builtin.«object.__getattribute__»,QM,(JI Am),Yl,["floor","place"],Kz,(f Y).map,ÔZ,by change Kz _=_;rw[h],ãk,by ext ÔZ;rfl,sQ,[p,q],k9,sI zN,YW,Î (k9),PK,num n,E_,(PK),E4,∀(prog:Q_),0,Ï1,_ X.xe s,Im,∀(lo hi:ř),0,ϑ6,_ (fI.fits ÅH) fI.mo BX,G8,_ e1 p1,ZZ,_ _ H1 rfl G8,ϰ7,(ze qq Ď),Xj,(ų3 Ď),ãl,_ (ve (xF ħ)) (yh (ze oE ϰ7 (ze zp (ze IV Xj) Ď))),NB,[_,by exists hb],F7,start,VV,(F7 N vs),ÄX,_ Ò p ys,ϑ7,(yB ÄX\/y6 ÄX),ûd,qx a (F4 λ _=>į),ãm,(((ûd).push (xc "tuple" A0 0)).push UY).get?,WH,ē+Æ5<=â,ϩ2,λ _ _=>qI,ϑ8,hq p_ h2 ϩ2,pY,t.place.size,Al,g5.objs.size,ãn,#[q,bs,sn,sub,ab,col,dd,k0,k1,k2,k3,k5,hC],ϑ9,(.Pass #[0,0,0,0]),Es,(.im (JU)),sT,_ H1 G8,MH,by .simpa only [Sn] using h,Èk,[_,by rename_i hp;obtain rfl:y'=y:=by injection e3],ão,#[q,bs,sn,sub,ab,col,dd,k0,k1,k2,k3,k5,e],ϸ7,[uV,row],ÖO,_ 2 ↑(.im w),ãp,(vP N ϸ7).set ÖO,HX,_ ha.pe hb.pe,ϒ0,by let#[a,xs,h1,h2,h3]:=r,Zf,ć cn q,ãq,∀(h1:zEE X e [Zf]) (h2:zEB ä9 [Zf]) (h3:zEE X (Zf) []),0,ËT,Ŵ4 st m qual ps,XD,Fk K m ÄT,qD,∀[Lo R],0,ãr,∀ qD (F:XD) Ðf (hb:ËT),0,Èl,_ (wo ù) uC,Xu,_ (is:=[2]) (g:=zP 2),Èn,_ [(["word","form","self"],úK)] H.Ul,üe,by let#[L,S,r1,r2,h']:=hu,O6,vj.go,pV,h1.1,ãs,by ext üe;exact O6 h.mo tX h' λ ds S1 xs H1 h1 q1 e1 p1=>#[by rw[<- q1.length];show pV,Ϛ],Ón,List (Û × Kh),RQ,∀(hs:Ón),0,ãt,[_,by let#[p,mm,rfl,g2,g5]:=g1;subst q1;let#[C,dx,q,vs,j1,j2,j3]:=p1 À g2;cases j1.eq j4],ϻ7,r'.length,IC,HK hq,Èo,by let#[its,r',pl,hz]:=IC;have hlen:=ϻ7,Èp,by simp![zo] at q ⊢;let#[c,cs,q1,q2,q3]:=q,XF,_ ś CF,ČS,(way XF m).j,ßA,é ×Addr,Ϲ6,Ñ7[i]?,ÝX,HC=↑e,ãu,∃ (i:Nat) (e:ßA),Ϲ6=↑ ČS/\ÝX/\e.1≠key,E9,by simp at h,Bn,(L p).length,DC,∀(neg:Bool),0,ãv,_ (b::rest) pos,uF,∀{o:Obj},0,É9,∀(ps:Û),0,ðR,M2 X o "get" apos e f cpos,ãw,∀(ho:PD X o td) (he:PD X e ty) (hf:PD X f tx) (m:ðR),0,ŋ5,ÚZ b=↑o,Đd,(h6.filterMap _).trans (by rw[List.filterMap_getElem?_range_length]),Yg,wR s.pu q,ĉW,(F.yH (!s.pu)),ãx,min (Yg+s.gt) ĉW,Èq,((Ź1 x).map λ t=>T.bl (nB t "str")),öX,tupleKind_room_in1 hu,Èr,_ (öX) (ś2 I.zt eb),Čd,BN pos (ϭ8),fW,spliced,ãy,ŉ->dG->Ä Ā (fW (Čd)) (ě7 Č Q) Ï1,Cg,Ĕ+1,Pp,Â i t,ìN,Ä Ā (f (Pp) (Â j u)) ï,ãz,Q (Â qk Ĕ) { s with toks:=Cg }->ìN,Ès,λ kv=>if Oh then (kv.1,d) else kv,u9,∀(P:Q_),0,ãA,#[L,S,r1,r2,hi ó (λ I S1 hF J H1 e1 p1 rep D hD=>?_) z],ãB,#[kL,#[_,_,_,_,rfl,ğ],λ _ _ _ _ _ _ _ _=>Ũ1 Ž],Oe,_ y (Da _ hy),Pc,_ qC (Ð3),Px,_ val its ks,Jo,_ hx hc,ãC,by with_reducible apply Û3 FB hb İ7 hB m1.1 m1.2 m2.1 m2.2 m3.1 m3.2 Jo,EF,es.toList,ãD,z.sameBut hs (kX y c e),KA,beq_iff_eq.mp,Èt,aS À (Ł hb),KD,(Å []),pj,Decidable,bM,#[z.1,hq À z.2],ãE,fun L5 S5 w5 σ5 H5 b1 b2 b3=>#[ϋ8 b2,L5,S5,b1,b3,w5],AU,hq S1 s1,Pz,ĸ=↑↑ Ki,Ef,F.grow s1,ãF,hg FG z qJ λ dz S2 s2 r2=>#[k,b,rfl,(Cs) Ik,?_],PN,maxHeartbeats,Pu,Qe (oB rows),ÃH,Ev->G9,LN,õ (ÃH),Èu,(Ŧ UY).update Õ (F4 (·++A0)),ÏI,λ CU=>GF ü,Èv,Å ((ċ HN).map ÏI),bz,#[P,N,NP,hE],Y6,(.dK []),ϒ3,(upd H q Y6),ϒ4,decide_eq_false_iff_not,ϒ5,St->Hp->VK->(O_)->Prop,Od,["thing"],ϒ6,(zc Rq zf),Wf,∀ p∈ps,c0∉L p,u0,Gd A B b,X5,Â many,Pq,(.im (X5)),Äo,Â more,f9,(.im (Äo)),bh,(zZ (yD Ö pm)),FQ,(DB).map,ϒ7,(Wz).map ø,ϒ8,∀(hp:PassesOwn Ā Ù X.xe),0,Ýg,NameKind,ϒ9,∀{Pd:Str->õ Ýg},0,é9,∀{S S':SS},0,Ŀ,∀{y:T},0,Ϩ2,_ [] 0 s H [],ďi,_ Ð1 (hg Ϩ2).mo,ãG,_ ďi (hf Ϩ2).mo (he Ϩ2).mo,JN,∀(hM:Α0 M),0,Èw,∀(SF:StoreFacts B bmB sa ľ) aj,0,ãH,by let#[p,m,g1,g2,rfl,g4]:=hE.Τ9 h1;let#[d,k1,k2]:=hE.im j _ h2,Èx,∀(_:Ş4 N' pick) (_:NZ=esc) (_:X.N=N),0,ϓ0,∀(hf:xG f=Á) (hg:xG g=Á),0,Ù2,(GO),Ϧ7,listUpdate_at,ãI,AC (seqEpoch_at g6 rfl (AC (Ϧ7 g6 Ψ Ù2 ?_))),ãJ,#[q'.1,λ y a H' c1 c2 c3=>#[a,rfl,q'.2 y a H' c1 c2 c3]],Ka,∀ ŝ0 AQ,0,Ġ1,assign,ËK,(Ġ1 (Jd) Ù),ÐA,(eval iter Ù),ãK,_ ų Ù _ (V8) Á ÐA ↑ ËK,ãL,by ext qy;let#[S,d,e,t,u',a1,a2,a3,a4,a5,a6,a7,q]:=h,C3,∀{ks:dD},0,Ō6,∀(ha:yC X [e] tA),0,ϭ3,_ x (Da _ hx),ãM,_ hA hB hl' (λ x hx=>gb ϭ3) (λ x hx=>gc ϭ3) hs,čJ,vP N (uV::ys),ãN,(čJ).set ÖO,ýR,(λ a b=>a.p≠b.p),Èy,F.ss.Pairwise ýR,Èz,(ya (lR fl) (ya (w_ em le) rfl)),ÜY,.UnaryOp,ϓ2,_ X (ÜY .Not a pos),Wu,by intro gV s σ H R I h,ϓ3,_ n n2 dd dd2 sl sl2,Fw,∀(te:zr),0,ãO,_ ts (m.map ũ),EL,∀{fa fb:zEO},0,ϓ4,_ n (g+give) (wQ (t-get)),kC,∀(ha:RE) (hl:YM),0,Õf,.dict MA,ÈA,#[Kp,none,Õf,į],ÈB,by rintro r ⟨a1,a2,a3,a4⟩;show#[a1,⋯,LQ.İ1 a3,a4],KY,by with_reducible exact WF hC ?_,tM,List Bool,fe,[_,by cases pu <;> rfl],ÈC,by subst ey;let#[z,hd,vs,rel,dd]:=Ś8 uU,K0,by simp![Sn] at h,ϓ5,by ext K0;let#[_,h,_]:=h,ϓ6,(IL).length,X_,X.mg x,ÈD,∀(hm:X_=↑ FA) (hk:ύ5 X.K FA=true),0,Ö8,∀(f:Addr),0,ÈE,_ X (Ă (ű o "get" apos) [e,f] x8),W5,[_,(by exists hi)],Y4,h1.get?,X9,h2.get?,ãQ,∀ h1 h2:Heap,ψ h1->(∀ o,Y4 e=↑o->X9 e=↑o)->ψ h2,uJ,∀(hdb:QS),0,ÈF,∀ uJ (he:CH) (hpl:Òe),0,Nu,by simp[dep],QZ,o8 F q,ðp,∀ ÂK(hg:∀ p,Gd bA (K3)),0,Ù1,∀{q:š},0,ãR,∀ ì2 ðp {p:Nat}Ù1(hq:QZ),0,ãS,Inv Č H' { s with heap:=h',gens:=g',drawn:=d',toks:=t' },ϓ7,λ i j=>.bl (Í (i<=j)),ϓ8,λ i j=>.bl (Í (j<=i)),qE,Õ+1,uo,(qE),B6,I.laid,DX,zA.ext,Ys,xs'.Perm,Àm,(key,b),s_,Θ Ě,ãT,key∈ s_/\xs'=xs\/key∉ s_/\Ys (xs++[Àm]),sH,hE.nx,QA,hE.rt,ãU,(λ d S2 q=>#[λ y=>QA À (q.1 y),λ y=>sH À (q.2 y)]),ϓ9,λ gV s σ H Q I hu=>?_,ϔ0,PySem.F.plainAttrs_str,ÞN,2*span+1,ϔ1,m/2048%(ÞN)-span,ãV,(y8 (wZ (zj rfl (zj rfl (zj (zL ÏV w1) Ö0))) Et)),uO,∀{u:Ø},0,Ŵ6,by ext QP;let#[hl,h]:=h,ãW,by let#[f,oc,od,kV,dc,pm,an,cd,ct,sl,a,l,c,k]:=H,OB,õ Out,Iz,∀{o:OB},0,ãX,_ (by ext Æa) ur ur ur (by first | show È ur | show Æ ur) (by rw[isSubtype_type];kernel_rfl),ãY,by exact AC (Tl hT hdT (Vu h3).1 ?_);have Ũ6:∀ b,b≠T->(qx T (C7 (Pr 3 Hr))).get? b=ż b:=λ b hb=>Èt,Ôf,[_,by cases he],ČT,λ e he=>(Ôf),Đe,_ _ [] LQ.ä4 Ù2 #[Zb,hl1.push _] GQ #[ČT,λ j r hj=>⋯] ?_,ãZ,_ (by simp![GT] <;> lia) #[Â Dg,H,pK,#[Cg,by rw[GT,hlen]],q],Uq,_ x BT,äa,by rw[As,dJ,h];let#[Y',h1,h2]:=ht Uq;rw[h2,iN];by_cases c:ϱ9,ÈH,s.1.length+s.2.1.length+s.2.2.length,Ür,∀{k1 k2:Bool},0,ÈI,∀ Ür{z TI TO i1 i2 l1 l2:Addr},0,ϥ7,_ (λ _ q=>q) ϕ,Đf,(I.zt b ob e).mR (λ c w' hc q=>(qH c ?_).trans q) ϥ7,O2,zo.nil,ϔ2,[_,by ext NW;exists O2],W4,X.base.get? b=↑o,äb,ż l=↑{ cls:=ſ,dict:=dd,data:=ÛI,JW:=sl },äc,by rintro v rest r s' ⟨hr,rfl,hall⟩,C9,Sum.inr,QG,(SP Fy D),Úc,wpAny_Name,āk,_ rS hk hc hcell fin,äd,Úc (wpAny_loadName_free āk hcd) hd,iY,(model P w),XB,sp vs H Q E,ÈJ,∀ vs H Q E,XB->Κ=İ,Į1,#[h1,h2],ϔ3,Option.some.injEq,EE,o9.go,äe,EE đ0 LZ z λ y S2 H2 h2 e2 p2=>h2 H2 iW,fk,Ŀ9 xs j,Wm,(Ŧ L0).objs.size,ÈL,Ğ0 (λ _ _ _=>œ7) λ _ _ _=>Lg,K9,[a,b,c],ąW,cn="PurseError",ÈM,Í (cn=c)||Í (ąW),ZQ,z_.map Ě,ϔ4,(ZQ).Nodup,ϔ5,["a","b"],Qr,cS (Ã "0"),þa,(Ó some (FM h5)),äf,(zl ÔC (zl (ya (WE þa) rfl) Åj)),XJ,_ zp (zb f),ÈO,(ze XJ Ļ),gz,rk s x,Kt,p++[gz],ÈP,∀ s∈os,s="keeper"\/s="taker",ÈR,by let#[L,S,r1,r2,h]:=h,äg,_ F.slot_tuple_mul hT F.entry_tuple_mul (F.args_tuple_mul_2 À),äi,by change (strSub x a _).cps.toList=_;ext áz;rw[e,zi5,List.take_left],ÈS,by let#[x,hx,hp]:=List.mem_flatMap.mp hp,PV,Sem Ø,äj,Ø->Ø->PV,Wi,λ _=>Ûf,ÈT,rows.map,A3,(zK R F),vS,PySem.intText?,ϔ6,F.os.getD p Á,RG,Â at',yq,(.im (RG)),ÈU,_ z d e Q hz hx hy ef hq,NL,Nat.le_of_eq,ϔ7,λ i j=>.bl (Í (j<i)),ÈV,Mb Gw "__init__"=↑↑ FA,ϔ8,((ym n 0 lo:Nat):Int),äk,hm ό1 x vs v us Q ßs,Wx,(mZ pick σ),QI,noteFrame,Js,H2.objs.size,rE,(yL i),ÒC,λ a=>Z a\/a=p,ϔ9,(yj S' ÒC),zO,_ S' Z y d,OE,R S zO,Îy,_ n e1 e2 e3 e4,ÈW,h.dj j k ts us p Îy,Ub,xs.take p,Pe,List.zipWith,ÈX,Ă (ć "range" p2) [e] [] pos2,ÈY,AC (NO he hd h1 ?_),ÈZ,#[#[_,_,_,_,hP,hN']],X4,(hr.mono hk),Nb,(.im a),äl,[↑ Nb,↑ Ki,v,↑(.im (zN [p,b,c,d]))],W8,Ħ " " (Ņ),ßb,(bad Ñ),ϕ1,(iO r).find? ßb,uq,∀(e:Ew),0,Å9,∀(S:SS),0,π5,∀(r:Vc),0,ō8,∀ π5 (p:Ϝ),0,η9,values,ō9,_ keys η9,Éa,_ (λ a z=>z.1) (λ a ha z=>z.2 ha),FE,∀(ps:ı),0,ł2,∀{g:υ2},0,VI,∀ ł2{b:Sm},0,Ŏ0,∀ Ģ7(h:Ŏ9 r),0,äm,(zZ (zJ (x:=Å [Â 1,Â 2,Â 3,Â 12]) τ3 s3)),Η,by subst this,Éb,by rw[h1.length,h2.length,h3.length],OL,by let#[q1,q2]:=nN q,än,by let#[ys,e1,e2]:=ŗ,Y8,[_,by rcases Å4 ha with q | q],Éc,by rw[nL,hg,Do,wF,Do,hf];rfl,Ìo,["floor","number"],MX,num p,äo,_ (w:="border") (ws:=[w,MX]) (fs:=Ìo),Éd,Ç (show (đ T != Hr)=true from by simp),ÛC,ziW hC ?_,Ée,by (with_reducible exact ÛC;rw[hcB]),YR,SA=none,Óz,GZ=Æ7/\YR,Øt,Hv a=↑o,äp,∀(h2:Øt) (hc:Óz) (hs:Òo) (hz:Tg<=â) (r:Vals QM KG),0,Ξ3,by have:QV:=rfl,Lm,by ext Ξ3;lia,äq,[_,#[C5,rfl,rfl,ä,λ j hj=>(by cases hj),λ i g j hg=>(by cases hg)]],Lq,by simp![zA] at r;subst r,xm,∀(l:Addr),0,Ď7,∀(t:Tok),0,ϕ2,∀ Ď7 xm (ε:zAV),0,ŵ6,[_,by exists e],Zv,(ξ2 _).length,fO,Bool->rM,är,∀ b ps,H b=↑(.z_ ps)->∃ more,DE=↑(.z_ (ps++more)),WI,(ń6 w),My,Ŧ WI,ϕ3,(My).objs.size,YA,v1::v2::rest,Äp,Ci _=_,iX,by change Äp;rw[h],YF,xs.drop,äs,env.cells.lookup,Đg,(I.zt b u e).mR (λ c v hc q=>k c v ?_ q) ϥ7,ät,Úc (wpAny_loadName_cell āk) hd,Eb,(0:Int),Ég,(own++cl).lookup,Àf,(yj S' Z),Xk,Sn Àf y d,iH,checkBuiltinCall,Éh,Ä í (call (u5) [Ii]) ï,Éi,AC (ziT ċj ?_),Éj,Builtin.«isinstance.nested»,bI,h2.none,ćp,_ l (bI hf) Ó2 hx,äu,h ćp (h2.ups hx #[_,yy,zu.π6 _]),äv,(Ă (ű o "replace" apos) [Óa,ώ5] x8),DG,instS,Él,(DG "str" ù),ϕ4,ł4 (pu:=s.pu).mp,ϕ5,uM x " " 0 ϑ 2,Ém,[↑ sg,↑ ώ9,↑ Rm,v],Ly,_ Ş7 h a,Én,∀(hy:Vt=↑y) (hx:Loc NZ y),0,äw,_ À Ĺ (mF.ext e1) z,Ť,∀(t:T),0,äx,_ (à r) (ups S r (Å Jb)),jL,_ _ F.er e1,Vb,.Tuple,äy,_ X (Vb es kk pos'),ÚT,s₁.gens,äz,_ (g':=ÚT) (d':=s₁.drawn) (t':=s₁.toks) (ch:=[]),MW,(cI 5),ýG,(ze Eh (cI 5000)),Ďu,(Ã " x7B\n"),äA,_ zp (cS Ďu) (ze xw ýG MW),äB,by ext Η;rw[Ŏ3 I p ts us (by simp![dep] at z;show LQ.Ġ0 z) (by simp![dep] at z';show LQ.Ġ0 z') g3 k3 g2 k2],ϕ6,by (with_reducible exact ÛC;rw[hcc]),Dq,[none,↑1],Ép,List (ßA),ÃK,I.items,Éq,by have hd:ÃK[i]?=↑ ÃK[i]:=by simp[hl],ϕ7,[_,by let#[y',h1,h2]:=œ6 e;cases h2],JS,xG y=true,sX,[_,by exists h],pN,α->Bool,ĎB,Ŵ4 st ÆW ū9,Qc,∀{rest:Å3},0,ÔU,∀(F:Fk K ÆW st),0,äC,∀ Qc ÔU (Sc:vq N ū9 oj) (hb:ĎB),0,ò4,(Æ x),äD,(Ć8 name qual params body ų dV kV ÔI ct),ϕ8,d.params.defaults=[],FY,(È k),aM,runEnd,r9,_ ś h,õA,(way r9 k').j∈ Hj,X7,way r9 k,äE,∃ k,(X7).j=j/\∀ k'<k,õA,Óp,_ (RH) [] H,ĉv,Un Óp sf Xc,Đh,ĉv->yT η sf h'->gM h' sf e->pZ,Ér,(Ν3 st).names.lookup,ċk,_ Ê "say" ŕ ū9,äF,wy ċk (zK R (zY N 2 (zv g1 (zv g2 ř4)))),ϖ0,["thing","bounds"],ϖ1,m/64%(ÞN)-span,ϖ2,Å ((p0::ps).map ø),És,os++(qv vA++sI o_),õP,(Å ((i++[l]).map zW)),äG,[A,↑(ì õP),↑(.im (zW x))],ϖ3,Î [Â F.A,Â F.B],ϖ4,fr.map λ CU=>ĕ ü,ϱ2,λ p=>v5 qA,ϖ5,(DB).all ϱ2,Ċz,ps++[r5]++[r6],ϖ6,Ċz++[r7],äH,[_,by rcases ib hv with ⟨j,u,rfl,rfl⟩ | ⟨y,u,rfl,rfl⟩],äI,by ext Hh;let#[p,ys,rfl,hq,q]:=h;let#[u,rfl,rx]:=Ρ0,ćv,_ c1 c2 I2 T st2 f2,äJ,_ he ćv rd λ C D oC H' s' hC J' ho hn q=>?_,üx,((ū3 e3).trans e4),äK,_ σ _ (((ϰ3).ext e3).ext e4) üx,pX,∀(q:š),0,Ξ6,p.1=q.1,äL,Ξ6/\H q.2.1=↑(Î (p.1.map kV))/\RelV p.2 q.2.2,WT,(s_).Nodup,YK,fs.lookup,Ét,∀ f,nk (YK f) (mA f),äM,Úc (wpAny_loadName_local rS hk hn hm fin) hd,ju,(iI).In,Éu,∀ Ċ Ľ,YP w h->ju h,Év,by simpa only [NE,zu] using h,ØN,ds.isEmpty,äN,(! ØN),vT,Ĭ ds i,äO,λ gV s σ H v w Q I r q=>h Ŋ v w Q I r (hi v ź q),Ej,o.refl _,ÿO,wpAny_storeSet_of,Éw,ÿO ho Ψ hsl,Éx,Ă (ć "set" p2) [e] [] pos2,Iw,(JI ø),ăl,(DG "tuple" ù),Éy,(ve (xF ăl)),Äh,(mh hy),ÉA,(Ι0 Äh).mpr #[_,Ū4 e],ÞH,Í (i=j),äP,zS neg Pc=↑(.bl (cond neg (! ÞH) (ÞH))),ϊ,L " ",ÉB,(w,"floor"),ÄA,K.In ð,ÉC,∀(X:ÄA) (I:ez ð x dx C mA),0,Ø1,∀(f:Str),0,äQ,by let#[its,r1,p1,_]:=Ê8 ha;let#[its2,r2,p2,_]:=Ê8 hb,Yt,ud n p,Ou,∀(hp:Yt),0,Ø2,∀(ts:ö),0,Ŷ7,∀(dd:ł) (sl:uA),0,ĳ9,∀(hk:k<=k'),0,ďh,∀(hst:CH) (hpl:ÑP),0,äR,∀ ĳ9 (hm:("kept" == m)=Á) ďh,0,ϖ7,by let#[w,hw,rfl]:=π hc,ÒP,strSub x a ϑ,BR,ext ?_,äS,by congr 1;exact BR;change (ÒP).cps.toList=_;ext áz;rw[zi4 (by rw[To,wg];show Ÿ),e];rfl,ĈQ,R S0 S' Z0 y d,äT,by have lo:∀ S' d y,R SB S' Z0 y d->ĈQ:=λ S' d y r=>Lo.lo b1 (λ _ z=>z) r,LG,[_,by cases h;rfl],xu,os.all m_=true,Wo,by simp![zgV,iS,Ĉ5],ÉD,((ð2 x2).trans x3).trans a2,äU,_ CX R4 ų,sW,∀{apos cpos:Pos},0,äV,∀{to:TE}{t:TA}{name:Str}sW{T id:ń}{r:EC},0,ό,_ K H',LO,ye ό S',WM,S p=↑ Dc,cq,zA ŏ d x,äW,(E1.hide s2 hp (by rw[hacc];nofun)).ò0 (pick:=pick),W0,λ r hr=>?_,ϡ0,.bl (RF ns ms),äX,(m8 ts).bind λ ns=>(m8 us).map λ ms=>ϡ0,ÏJ,Ŧ (Ż0 k l),Ϥ4,Į "enumerate",äY,(ÏJ).push { cls:=Ϥ4,data:=án },äZ,PySem.Challenge.rw_purseborder_k91_desk_rows_refused,åa,(zZ (wZ (zj rfl (zj (zJ Ôw Ö) rfl)) Et)),Nr,(cB " " 1),F5,∀{t':Nat},0,Ŏ8,∀(he:PE IY),0,ÉE,_ gS λ i j=>Â (i ^ HN),ÉF,_ Ŋ x y v u Q I rx ry,iK,∀(ha:PA X AR t),0,ßH,_ he hg Ķ8,ϖ8,_ hg2 Ň ßH,ϖ9,_ (lZ sL kG hs) R9,ZK,[_,by rcases ķ q with q | q],åb,by ext Hh;let#[p,ys,rows,rfl,hq,hr,h64,q]:=h;ext e9,qG,h.2.1,ÉG,by let#[t,ht]:=(Ι0 Äh).mp qG,ôK,(wC (xV (zL fS brims))),åc,_ (w_ ôK (wC (xV (zL fS own)))) rfl,åd,_ (ts:=[Î (Β0),Î (qv zN),YW]) h.x h.y rfl,Wl,by rw[zR (vI q h)];show q,ðs,(xK Ū ↑ ĊH none),Ąh,_ zC (xK ÀZ ↑ Cb),åe,retS (xM DH (zc (ze Ąh ðs) zf)),åf,[_,by let#[x,e1,e0]:=ŗ;let#[xs,e2,e3]:=ϟ e0;cases e3;exact h NF;exact h' FG xs qJ Yc],ÉH,by have hlen:Ŏ=ò:=by have:=Ó Í6 he;ext Ln,ϗ0,X.fn y=true\/qF y=↑ uI,Ni,∀{b:Addr},0,â8,by simp![Sn],X8,ś1 (by rw[HI];show hl),Ky,List (Int×Tok),Gs,H p=none,Øh,by ext ω8;exact h NF,bw,by ext Øh;ext Ů,ϰ9,partsFrom,åg,by subst hc;have e2:=Ū4 (Ū4 e);rw[wg y] at e2;change strSub x a _::ϰ9 x FU _ cs=_,åh,∃ k:Nat,yz b (vR s.pu (tF-k*s.gv) (Yg+k*s.gt))=true,cQ,hy.int,Wk,[_,by cases hx.int;cases cQ],åi,[_,by simp![KK,Op,Mq] at hk;rcases hk with rfl | rfl | rfl | rfl <;> lia],ϗ1,Nat.le_add_left,åj,Nat.le_sub_of_add_le (zfQ (Nat.add_lt_of_lt_sub h)),Ar,à x,rh,(Ar),Cp,.free,ϗ3,(σ.set i ↑v),KZ,QJ op b=Á,LB,rv.length,Qu,hf Ϣ,ϗ4,λ b hb=>(Qu).1,ÉI,λ i j=>Â (AD i j),NU,sizeLine_eq,mG,I.ok.frames,ϗ5,sliceBounds,M9,λ _ _ _=>ê,bU,ForInStep.yield,ÉJ,#[y,by simpa using e1,e2],A6,.err,FW,A6 Ð,Y_,λ _=>True,yZ,g2.length,RJ,ys.zip rows,ϗ6,(ts.getD j .zB),ϗ7,λ z=>e (h1.trans z),åk,λ S3 Z3 L3 F3=>P S3 Z3 L3 ((F3.xP is).back b1 F.z0),ϗ8,(way r9 K).j,ϗ9,by rw[Db];rfl,Ϙ0,Ä í (WY DL) ï,cA,Builtin.Str,Ϙ1,(ĵ ō xs).flatten,de,q.elim,Xy,λ _ _ q=>de,ÉK,#[f,fd,h1,h2],JF,D.str,Nk,JI JF,ÉL,#[DD,H,pK,ξ,q],Ϲ8,ŋ ζ x,Ϙ2,Ϲ8=↑↑ ĳ,B8,Ã "ok",Ña,(ć "self" p1),ål,sP (ű Ña "kept" p2) (ć "name" p3) p4,Ms,["floor"],YC,partsBetween_eq,Ϙ3,sM #[w,hw,rfl],Ϻ2,(sb ϔ),čY,λ r=>wK r Ϻ2,bD,ts.all,ÉN,(bD čY),yJ,by rw[AS];lia,aq,by ext yJ,Yw,(rR zW),Ϙ4,(.im (Å Yw)),ÖC,Å (B4 bT),Ϙ5,(.im (ÖC)),Ďa,(λ z=>h2 z.2),ÉO,FM (p:=_/\_) Ďa,Ċl,("number":Str),Ϙ6,(f == Ċl),Ϙ7,(DB).find? ßb,Ϙ8,Ů1 DV (Ŧ5 (å0)),ÖD,[a,b].any,ÉQ,(ÖD λ s=>Í (s=w)),sd,∀(a b:Str),0,þ4,∀{tg:Expr},0,xr,∀{L:yS},0,ÉR,_ _ sT λ i H2 S2 x1 x2 hk=>?_,Mw,∀(hf:wO f te),0,Ÿ0,_ Ţ À hE,åm,by rw[Array.toList_filterMap,List.map_filterMap];congr 1;funext k,NJ,∀(k1 k2:Bool),0,Ϙ9,∀ RA{base h:Heap},0,þ6,∀(tab:IG),0,ÞD,Gd A B c,W6,∀{b c:Bd},0,ÉS,∀ W6(h:u0) (h':ÞD),0,ĳ8,∀{ts us:ö},0,Ðh,∀(hl:ē+Æ5<=10000),0,ån,∀ ĳ8(h0:Pz) (h:f Y=↑(Å us)) Ðh,0,ÉT,_ (x:=Â 1) (z:=Â m) rfl hlen,åo,[_,by exact#[Ζ8,λ b q=>?_,hd];cases q;let#[ob,_,_,h1,h2,_]:=dd;show#[ob,h1,h2.2.1]],M1,List (RB),åp,_ Æf (φ:=Lj) (fs:=fs) øL (v:=none) (ws:=ws) f1 Ib,ÜB,pG r=true,åq,∀ ts,t=ő->∀ r∈ts,ÜB,Q4,LQ.n1,år,by .rintro⟨k,h1,_⟩;exfalso;have:0<=ü*give:=zh0 Q4 ⋯;lia,ÉU,by simp![KK,Op,Mq,P3] at hc,Ϫ6,h1.objs.size,ås,Õ<=Ϫ6->Q' vs { s with heap:=h1,toks:=tk },MU,Ã "name",ϙ0,by simpa [ĥ7] using hk,ÉV,FM (p:=_/\_) (λ z=>h1 z.1),cR,_ base e cls a0,Ði,Ex es Ù,åt,(Ex AR Ù).map ũ=Ġ1 e Ù::(Ði).map ũ,åu,(Builtin.«int.__rmul__» #[[Pp,Ii],[]]),ñm,#[[(L w).headD 0].toArray],åv,(w == "0"||!((ñm:Str) == "0")),åw,by let#[oF,H3,I3,n3]:=q3;let#[m',hm,w3]:=hN π1 n3,åx,by let#[o,e,d]:=T.obj À st5 Ϣ,ϙ1,by let#[s,a1,a2,a3]:=h,Tr,_ (t2 À) (),åy,(zF (h pos Ŋ _ I hq) λ us s1 #[xs,H1,I1,r,z,q]=>#[by rw[<- ϗ];show z,?_]),Ww,∀ a,Z a->S a≠none,yi,õ Expr,PB,List (yi),åz,by .exact È #[k,?_];have:y≠x:=λ e=>hj (Į3 hN e1 (e▸hi));simp[this,e],åA,(l6 c q C N bs bm true áw k5 "ValueError.__new__"),Q9,h.er.ow,åB,[_,by let#[p',ds,h1,h2,h3,h4]:=Q9 i ts e;rw[ed] at h1;cases h1],åC,[_,by rcases ib hb with ⟨j,u,rfl,e⟩ | ⟨y,u,rfl,e⟩],åD,(zF (hc Gn) λ d s1 z0=>?_),ÉW,Builtin.Tuple.tupleItemsOf,XZ,BindsTo,ċh,_ s fd #[[u],[]],Xp,∀(u:Ø),0,åE,∀ ŭ Xp,XZ ċh [(x,u)],oX,hp.below,Ĉz,oX (LQ.č2 h2),ĈA,oX (LQ.ä7 h2),åF,#[ĈA,Ĉz,?_],Ùh,.bl (g bs),åG,∃ bs:tM,YT=↑(B4 D.bl)/\Q (Ùh) S,Bi,zC6 _,ÉX,#[p,BT,Bi,Bi],M0,_ ho rfl,ÉY,AC (ziT M0 X.fits ?_),QE,nameV,åH,#[[Ar,QE,v],[]],ÉZ,Un.out J'.base un (zj4 Ķ),YQ,limitOf,åI,uM x y 0 ϑ (YQ x k),åJ,yb X Á (B_ [Jd] Ox spos) (Λ7 YY g te),åK,(xF (zm ο2 (zc (xK ħ DR) (zc (Ŷ4 wD rU) zf)))),ϱ0,num (ü-12),Êa,(L (ϱ0)).contains,ċg,_ (y:="floor ") (),åL,g_ (x:=r) ċg,Cd,∀{j:Nat},0,Êb,∀(r1:G4) (r2:Ϝ) (h:t L S R),0,Êc,∀(hu:Lh+1<Ε) (ho:PE X o td),0,Ń5,_ hf hg,YD,_ Ń5 è3 yp,Êd,_ àh (F.args_str_split_2 À),Êe,_ àh (F.args_str_split_3 Ð),åN,∀{Z Z':An}(hz:∀ a o,yj S Z' a=↑o->Z a->∃ m,o=.zE m),0,Ãs,s'.toks,åO,_ (g':=s'.gens) (d':=s'.drawn) (t':=Ãs) (ch:=[]),bc,(zb 7),åP,_ 3 rD (zm ς4 (zc bc (zc (Ě3 3 rD (zx 7)) zf))),Êf,∀(ha:fa Y=↑x) (hb:fb Y=↑y),0,Þ2,∀(w:Str),0,åQ,[_,by have p0:=hb ģ;have g0:0<=yX s.pu p/\0<=wR s.pu p:=by cases s.pu <;> first | show p0 | show#[p0.2,p0.1]],åR,ż p.1=↑p.2/\H p.1=none/\p.1≠ uS/\p.1∉X.fs/\∀ v,p.2.data≠ Ì1 v,BO,List Ø,Āy,by ext ďT;exact#[u',r',?_],åS,[_,by ext Āy;rcases q with ⟨k,e⟩ | ⟨k,c,e,z⟩],ïy,_ (T:="StopIteration") (b:=true),ĉg,isSubtype_stop,Ñc,#[o,ho,hc],åT,_ ïy Ñc ĉg,bP,_ pick g,Êg,nL bP wF f Y y=↑↑t,Êh,∀(ho:PD X o td) (hi:PD X i ty),0,ŏ6,α->β->Prop,Ě4,RelV x u,Oo,I.cell,Êi,Calls.Constant_str,Ya,-(2 ^ 62),Êj,Ya<=j/\j<2 ^ 62,ϙ4,(λ b u q=>ŗ0),KQ,IsTup.new À,XN,hr.units,Êk,ϒ->Y4 b=↑o,Öh,(jF e C dx),ϙ5,H e=↑ Öh,B7,z.elim,ϙ6,∀ r∈rows,r≠[],ϙ7,r.1<=p.1/\r.2<=p.2,EU,probe.go,qt,T.tup,ϙ8,(λ a b=>qt qW),xb,Nat.zero_add,Êl,us b _ q ÆB,jJ,["self",f],ϙ9,õ PySem.Fin×Unit,Co,_ [] [],Ϛ0,(.Dict Co pos'),Êm,(yh (ze oE ħ G5)),NX,xO F m,Sb,32∉L p,Jl,_ ws fs,åV,Ó some (Ġ2 Jl),Ϛ1,(Option.bind · _),Ϛ2,(λ z=>↑(T.bl z)),Ϛ3,[Î [Â 0,Â 0]],Ϛ4,(["floor",w]:Û),Ϛ5,"border "++w,Ϛ6,∀(hi:PI Ld iter wi),0,Ĥ5,Ç hb,vX,by rename_i hb;rw[Ĥ5],Ĥ,by split at e,åW,by let#[Z,ys,y,hz,r,e,hq]:=hs;unfold zY at e;ext Ĥ,åX,by let#[it1,rv1,q1]:=g1.of I;let#[it2,rv2,q2]:=g2.of I,ÞP,b=0\/b=1,Ϛ7,∀{b:Int}(h:ÞP),0,ĺ2,LQ.ļ3,òS,(by simp![GT] <;> show ĺ2 hlen hz),åY,_ ho hc hd (λ h' c' kp e=>fin its r' hz h' c' kp e) òS,åZ,∃ (o:Obj) (its:zAV) (n:Nat),Øt/\GZ=ſ/\YR/\áR,Ÿ9,List (κ × β),æa,[_,λ z=>c1 (by subst z;cases ds with | nil=>rfl | cons _ _=>simp at hl)],øm,F.typeOf_object_class,ĉq,(Ge:θ).TypeIs,æb,by have hT5:ĉq (ÇK) "getset_descriptor":=øm,Ym,(L w).all,Ϛ8,(Ym Ts)=true,ÑT,by let#[b,e1,e2]:=ŗ,ÕF,λ S1 s1=>?_,æc,by ext ÑT;exact h Ţ b uk ÕF;ext Ů,N_,pick[i]?,MG,É hb,XW,by rename_i hb;rw[MG],æd,by have e6:Ext H6 (upd H6 D (Å (ys++[v]))):=Å h6 _;have hlen2:Dg<=i:=by rw[<- r6.length];show hacc,ìV,vs.toArray.zip A0,ďD,_ (ìV) į 7 none,Ow,arrOf,ØT,SortSt.mk',æe,(Ow (ØT general' ďD)).map ũ,æf,[_,by ext eP;exact hf FG À F1.er e2 λ d S2 s2 r2=>?_;cases Vw.int r2],Oq,List (V× é),Kf,(àT),æg,∀(AZ:bm'.contains Kf=true) (hm:bm.contains NI=true),0,æh,[_,by rcases Option.eq_none_or_eq_some (ŋ1) with hk | ⟨fs,hk⟩],ÄQ,_ η H ð,æi,[_,by ext e9;obtain⟨⟨es,ep,t,S,eu⟩,-,-⟩:=(show wX ÄQ l ύ7 from I.zt l _ hl)],Br,[none],Êq,[_,by ext î7;let#[c,rfl,q1]:=q1;cases r1],Êr,by have:=Ó Í6 X.es;ext Ln,ϛ0,ώ8 K cdv qual=true,Ês,by rw[q];simp,BS,List.mem_range.mpr,LF,(ha Gn),æj,Builtin.Slice.sliceAdjust,AF,(i:Int),æk,(AF+(m:Int)*1).toNat,ĂA,ò+zs.length<=â,ČM,(Å (xs++zs)),æl,ĂA/\Q .zB (upd H l ČM),æm,λ E E' L S hE z=>El ó (λ _ _ q=>QA À q) z,Qy,.refl _,GA,we.mono,Êu,Le lt (MQ a 0) (MQ b 0),Fv,É h,Êv,yx ((Fv).symm.trans ef),aL,r.getD,Äm,aL 0 0,Êw,(Äm,aL 1 0),æn,λ u hu=>hall u (Da _ hu),æo,this.trans (List.perm_append_singleton À).symm,ES,V.ref,Êx,Θ λ e=>(ES e.2,e.1),lg,(ÆG s3).trans,æp,λ S3 Z3 L3 F3=>#[m,UF m,Z3,Y2,F3,e'],æq,Ŧ { cls:=Æ7,data:=ň [Â i tk,u].toArray },vZ,l7 K C,æs,vU/\vZ/\Meth K C m f,ϛ1,(EA Ñ k).map,SX,I2.yV,æt,λ us s2 #[vs,H2,I2,r,q2]=>#[SX,?_],cu,(zx 4),ϛ2,(zc cu zf),æu,zM (xD (yE (Į9 (wC (xV (b:=Á) rfl))) rfl)) rfl,ăr,λ r=>wK r (wb n),Êy,(bD ăr),OT,(p:Int),Xi,(QK).length,DT,(ya Ö),ÊA,_ (g':=s.gens) (d':=s.drawn),Ôn,[_,(by exists h1)],Yn,[_,by exists h2],Yf,List.nodup_cons.mp,æw,_ (i:=i) (Yf nd).2 Ôn (Yn) hk,ĆQ,AC (zj1 (He)),æx,by exact wpAny_noted ?_;rw[compTurn_list];exact ĆQ,č,by split at h,PC,_ À RC,tS,∀{tp:FZ},0,Ő6,∀{Q:B2->ϴ},0,ÄI,∀(hf:v9 f),0,Ïj,∀ ÄI (hg:v9 g),0,æy,∀(hr:vb X.K f r) (hr':vb X.K g r') Ïj,0,Ú0,hc.1,Þc,hc.2.2.1,æz,_ À hc.2.2.2.2 (up c o Ú0 hc.2.2.2.1 Þc q),ÊB,∀(AZ:qM o "split" Ea=tN),0,ÊC,∀(a:ŋ ζ "Desk"=↑↑ IJ),0,ÊD,∀{P:Q_}ÀP{ys:IG},0,ϰ8,u Y=↑xs,ÊE,∀(h:ϰ8) (hF:F xs=↑y),0,ĺ1,List.mem_filter.mp,ϛ3,by let#[w1,w2]:=ĺ1 hw,æA,by let#[z,y,vs,r,ob,es,ep,e,c]:=x;show#[z,y,vs,r,ob,es,ep,IB,c],Nc,λ _=>none,ϛ5,List (Str× Ýg),æB,λ b ps q=>#[į,by rw[zR ÛD,q];simp],æC,m x<=k/\(g x).length<=m x,qb,∀(C:Addr),0,ϛ6,by ext än;exact h Ţ ys àK,ϛ7,[_,by rcases Å4 hp with hp | hp],æD,by have hp:((PL X.w l MA).toList.map ũ).Perm us:=by rw[<- eu];show (Ŀ0 X.w l MA).map _,BL,S p=none,Qm,[_,by rw[q] at h;cases h],MT,mj d=true,æE,#[E.nx,λ d S'=>MT/\E.nx ϊ7,uW,uW],æF,#[hSO,#[_,St.get],λ h1 h2 S1 k=>S1.mR k],æG,g5.push { cls:=Æ7,data:=ň [x,y].toArray },æI,λ _=>Æ #[o,its,n,h2,hc,hs,hz,r],Pa,∀{xs ys:À0},0,æJ,[_,by rcases h with h | ⟨o,its,n,hk,hc,hs,hz,r⟩],xi,∀{body:Å3},0,ÞL,Â (i/j),ÊG,_ ox λ i j=>ÞL,Jm,Ê8 hq,ÊH,by let#[its,r',pl,hz]:=Jm,Đi,by let#[_,_,_,_,o,_,_,e,ex,_]:=I.zt p _ hk,ÊI,_ X (gV++[Ýj]),æK,by let#[its,rv,pl,hz]:=IC,PU,∀{neg:Bool},0,æL,by let#[vs,H2,I2,r2,q2]:=z0,ûE,(ű o "split" apos),æM,_ X (Ă ûE Ko) (lq kh to tA),Đj,by change ſ5 _=_;rw[h1];change jZ _=_;rw[h2],Ñy,∀(ha:P a) (hb:P b),0,æO,∀{P:Str->Prop}{a b c:Str}Ñy (hc:P c),0,Ő8,(show ê from r).elim,Lk,[none,↑0],æP,by change (kx υ8).map _=_;have e:υ8=(YL λ c=>O3 s c).map T.bl:=ϗ9,Qg,List (TE×TE),ÊJ,_ Dd H (λ v _=>v=Pf),FV,∀(e:Addr),0,se,I.free,ı4,Vals vs us,XH,λ _ _ x=>x,rW,y6 Vs,MY,xs.isEmpty,æS,Result->ϴ,zV,Ŧ ÆF,Ýa,âc C Õ,ÊK,(zV).push (Ýa),ÊL,Calls.spliced_nil,RT,wpAny_call,Ui,(LV),Jh,q _ Ui,ÊM,wpAny_comprehension_free,KI,Ō e=↑oe,AA,Î ds,ϛ8,Ext H (upd H p o),æT,t å8->t L S Q',ϛ9,wpAny_pyIter_list,Čy,kas_rev p i j,ÊN,(Čy).getD k 0,O1,á z' ÅI,Ϝ0,λ d2 S2 s2 r2=>?_,Ϝ1,Ο9 (ì4 àR) BX,Áz,L.length,Ϝ2,Áz=Y.length,æU,λ d S3 s3 r3=>P d S3 (b1.trans s3) (lo Ð r3),YE,xs.toList,ck,(OG).2,æV,(OG).1={ t with place:=Âz Ñ7 ck j },Wj,đ e.2,æW,(Km e.1,Wj),cg,Obj.putSet,æX,(Ŀ0 w a MA).length_eq,OK,sb.extBut,Ϝ3,ExcAttrBase B bmB,æY,Æ #[_,g5,#[o2,t2,b3,b4],o2,b3],Ϝ4,ć "ValueError" q,aX,ss.idxOf k,Nw,["things"],Ϝ5,(Ã "0123456789"),Ϝ6,["name","text"],Zs,_ x y ϑ,ÊO,∀ k,f<=k->¬ At Zs k,Ϝ7,(oO Ϙ p),YG,(k+1:Nat),Ob,many+more,ÊP,(kQ a s ↑(.im (Ã p))),ÛS,Ī8 () ⋯,ÊQ,(ÛS).trans,C8,∀(i:Int),0,ã7,∀(E:zVP),0,Ą5,_ X.K C,ÊR,∀(e:H a=↑ Ň5) (c:l7 Ą5),0,Ź9,_ z.cps.toList i,æZ,∀(hstat:∀ b∈fp,b≠C/\b∉ RH/\∀ x c,Bz->c≠b),0,ça,_ X (B_ [Jd] ø9 spos),pE,∀{rows:Ğ},0,Ĳ0,∀(T:Bt X.mg),0,ź0,∀(hu:Lh+64<Ε),0,Ï8,∀(Y:Ev),0,Ï9,∀{Z:An},0,ÃX,(ÆG s),çb,_ S' ÃX (MJ (Cs) r),Fe,∀{ss:Û},0,çd,_ fh (zc (ų3 Rq) (zc (ze zC Rq Ď) zf)),tL,_ f g Y,Bk,∀(r:Str),0,Č6,∀(h:jC IU),0,UV,s.len,čS,#[UV,s.gd],çe,[_,#[[],last,rfl,λ r hr=>by cases HW hr;show čS,rfl,GO]],Rh,[↑ NT,none],çf,by have g2:Gd A B x:=h x (Dl);have l1:=g1.mh hA.1;have l2:=g2.mh hA.1,BM,List (ř),ÊT,PySem.W.makesIn K C=true,Ϝ8,ł4 (pu:=s.pu).mpr,ÊU,(FQ λ p=>T.bl (v5 qA)),ÖP,∀(hi:PD X i ti),0,Ój,_ X.K X.w X.mg x,lA,∀{tab:ÇE},0,çg,∀ lA(hk:Ε8 Ój tab) ÖP,0,çh,(ό4 Çj (by rw[hs,hs2]) (by rw[hs2];rfl)),cX,_ x rest H Q,W3,xs=x::rest,çk,λ xs H Q=>∃ x rest,W3/\r cX,ϝ0,by intro wh gV s σ H Q I h,Čg,items2.toList,çl,∀(hi:EZ items.toList ns) (hj:EZ Čg ms),0,çm,_ entry_tuple_getitem ?_ (args_tuple_getitem À),çn,_ OV λ x S1 v H1 h1 q1 e1 p1=>h1 Ş (DA) G8,Ąu,by let#[ds,rfl,h2]:=hx.tup,ço,by ext Ąu;let#[es,rfl,h4]:=hy.tup,ϝ1,by simp[xs1,zgW,zfY],çp,by ext ŀ;exact O6 ĝ OV λ ds S1 vs H1 h1 q1 e1 p1=>?_,ÊV,by let#[ps,a1,a2,a3,a4]:=h,çq,[_,by let#[o',es',ep',ho',r']:=hm;rw[ho] at ho';cases ho';show#[_,es',ep',hL,r']],ÞS,wL r ÅT,çr,∀ r,qs++ÞS=wL (p++r) none,ÊW,by let#[C,dx,hE]:=he;have hF:=mG,dH,pure true,ČW,A.in1.in1.in1,çs,_ (A:=ČW) (by simp[hh]) _ l hneI its,ϝ2,by intro gV s σ H Q tk I h,Ϫ4,(Ext.refl H),çt,by .rename_i d e;let#[v,h1,h2]:=r1.2 i d e;show#[v,h1,h v H h2 Ϫ4 r2],ÊX,[_,by simp![EW] at h;cases h],ϝ3,by have q:=h1.flat r1;subst q,ϝ4,X.mg "range"=none,çu,[_,by let#[x,e5,e6]:=ϟ e1;let#[zs,e7,e8]:=ϟ e6;cases e8],çv,by have hT:=hk.typeIs;let#[o,ε,n,ho,_,hd,hi]:=hk,ϝ5,oW (sI fst)=true,XX,(upd H a o),XT,base.Ns yo mg,Ëa,X.s₀.heap.get? b=↑o,Zw,(Å4 hp).elim,SV,Fz->ϋ0,Ϯ1,Ã (i++j),çx,∃ i j,x=Ã i/\y=Ã j/\ό8/\Q (Ϯ1) H,ÐC,PySem.W.lookIn,çy,∀ name,ÐC name od=↑(Ãi),LJ,x=œ,S7,oe.cls=sD,qm,MQ i 0,ϝ7,(ϐ "sorted"),pv,λ i h1 h2=>?_,ϝ8,s.heap.IsList,Io,_ tp k,ϝ9,putK Io v,çz,(Mm λ kv=>if Oh then (kv.1,y) else kv),IQ,zo.cons,ÃI,Vw.grow,Wh,ÃI r1 s2,çA,yO f te,Ϸ6,F.sx.trans,çB,P d S1 (Ϸ6 s1) (Lo.lo F.sx F.zz r1),WO,ö->õ (ö),Dk,h.2.2,FL,_ r hr,çC,#[h.1,qG,λ r hr=>hq À (Dk FL)],Ëb,(Q3 Ě).toArray.toList,Ϟ0,SetTable.fill,b_,wanted,çD,t.relaid (Rr) b_=↑(t',GD),çE,#[es,ep,t,ho,X,hled,hpl,hfew],V2,by simp[e],lK,(Š4 vE).get?,çF,Ŧ { cls:=Æ7,data:=ň [u1,u2].toArray },Ëc,(·++·),Yo,items.isEmpty,Ëd,∀ b o,ϒ->(ϋ4)->b≠T,Ϟ1,strValues l,Ôp,(qK Ñ).map,çG,Å (Ôp Am),lP,["self"],çH,Γ (λ(q:Str× Û) (r:Äc)=>áv) tab z_,UI,ξ1 K w x z_,X2,(xy zf),Ϟ2,(zc Ñ4 zf),lY,(zm yI uu),çI,mQ 3 (vM (zP 5) (vM (zP 6) (vM (zP 7) ű4))),q_,vW Ϙ p,Åd,_ ">" " ",WC,Ϗ5 p Åd,JL,(zN r),ÀB,(.im JL),çJ,[↑ Nb,↑ Ki,↑ ÀB,w],Nh,[↑ NT],Sf,pre++[last],ϋ,∀{v:V},0,çK,∀(ha:PA X qW ta) (hs:ÅW:=by rfl) (hs2:ÇI:=by rfl),0,ö6,(T6),cG,I.kept,çM,_ ö6 λ h' tk k=>#[_,H,cG k,?_,q],Àr,DictEntry,Ëf,∀{es:t_ Àr}{ep:Nat},0,çN,by rw[exec_Assign_Name_used ĉ hsw];exact ĆQ,Ϟ3,_ ng.fits ng.mo ZX,çO,by let#[c,cs,rfl,r1,r2]:=r;let#[Y1,e1,e2]:=ŗ,df,_ (k:=0) rfl,çP,_ À n4 (Td À n2 (Üi À n3 hz1)),D0,_ Q E Ge,çQ,by let#[#[f,fd,h1,h2,C',j4,j5,j6],hmo]:=F,Ëh,_ 4 3 (Ž5 (zm (js gB) NN)),Ëi,∀(hm:1<=many) (hm8:many<=8),0,çR,∀(Sc:vq N ū9 oj:=by show kL) (hb:ĎB:=by intro _ _ _ _ _ _;show Ũ1 Ž),0,ÿ1,H l=none,Äk,nS Ñ q,çS,by have h3:(Äk).1<=A/\(Äk).2<=B:=by simpa [ŵ8] using h2,çT,L3.eqT r.1 (B8)=true/\oy (r.1::r.2.2)=true,Ϟ4,#[_,Eu,rfl],çU,#[(qH p.1 ne).trans e,n,ne,nf,d],Ãk,I1.laid,Äa,s1.toks,çV,Ãk (t':=Äa) (λ b u e=>YS) Ķ ?_,Ëk,λ _ H'=>Q .zB H',Ϟ5,Ć8 x qual eM ct,Ϟ7,ÃK[i]?=↑d,Ϟ8,λ i j hij hj=>?_,IK,l.getD,Ϟ9,(.nx (xP is Y2)),ϟ0,nH K x x st f fd,ϟ1,(way r9 k1).j,ϟ2,t.place.getD i 0,ϟ3,wpAny_isInstance,ϭ1,_ N f1 f2 c ga,çX,eJ ċk (nu (jQ ϭ1)),ϟ4,((r::rs).map zN),Đk,dI enc ret test Y0 xs Y' h1 λ y hy=>ht Oe,ϟ5,[↑ Pw,↑ Rm],çY,[_,by rcases l with ⟨hk,hm⟩ | ⟨hk,c,hc,hcell⟩],JY,∀{c:Expr},0,ÿ3,∀(k:Bool),0,ϟ6,∀(hdb:QS:=by decide),0,ÿ4,∀{xs:ŵ},0,çZ,∀{f:Ø}{r r':AN}(h:wI X f r) (h':wI X f r'),0,Ël,by let#[x3,p3,d3]:=yl x H3 hy,će,_ (λ _ _ q=>ŗ0) Ķ,èa,_ (t':=Ĕ) će (Õ5 ð I.big),Ëm,by let#[d,h1,h2]:=hE.im i _ h,èb,[_,by generalize hT:(OG)=P at *;let#[t1,p]:=P;dsimp only at *],ÄF,∀(h':Heap),0,ϟ7,∀ ÄF (tk:Nat),0,ϟ8,∀(hpl:zEB ä9 []),0,èc,_ (λ b c=>us b _ c ÆB) λ b xs c=>us b _ c ÆB,ĊI,(cS (Ã "; ")),èd,_ ŕ5 (zc (xM nI ù (zc ĊI zf)) zf),ßg,ÅG=↑y,èe,zM (zl DT (zl DT (zl (ya hn rfl) (Χ4 (show ßg from hz) e)))) rfl,èf,[↑a0,↑a1,none,none,none,none,none,none],èg,[_,by let#[a',xs',ds',q,k1,k2,k3]:=h2.Ŷ0 p r2;cases q],L9,(b::l),Âm,Í (a<b),èh,by have h':Âm=true/\oW L9=true:=by simpa [oW] using h,YN,∀{to:zr},0,èi,∀{e o:Expr}YN{pos apos:Pos}{m:Str}ā2,0,Øo,ϊ0=↑ Ì1,Ën,ϊ0=↑ uI\/Øo,ýt,Array.append_assoc,èj,#[m1++m2,by rw[e2,ýt]],Ëo,PySem.W.plainGet_of hg,A_,x::xs,PM,y6.of yy,èk,#[l,xs,rfl,PM,FO Md _ r2],Ëp,.tuple_list Äj RC,Ëq,H b=↑(Î (k.map kV)),Ër,λ kv=>(kV kv.1,kv.2),xo,Good2,Dt,_ Ê yQ,èl,wA Dt ŕ A8 (nW K (zK ϭ0)),XY,slotAt,Ës,sG=Á->slot=XY t i,èm,λ l hl=>hq À Md (kE hz hl (e_.mpr rfl)),ay,x=.bl c,yU,.bl d,èn,∃ c d,ay/\y=yU/\Q (.bl (c == d)) H,ÀH,Txt.slice,Ët,(Ã (ÀH z Ϟ)),Ëu,#[h',g,d,t,os],èo,(Ģ CT OV λ x S1 v H1 g1 q1 e1 p1=>?_),Ái,_ (Ų4 w) z_,èp,M7/\Hv a=↑ ÈA/\Γ Ái EF/\ϔ4,èq,(dq (ze Α ù (Qr)) (ze Ax Ñ4 (Qr))),Ëv,by rw[<- wg,hy];simp,èr,Í (1<=ē)&&Í (ē<=8),cE,rowOf,Ëw,(ts.map cE).map fst,Ëx,StrLaws.join_length_le,Ċc,("keeper":Str),Ëy,λ s=>s == Ċc,Ëz,É (by rw[hy];decide),èt,ze NV [↑ sg,↑ ώ9,↑ Rm,u],qR,_ x c e,Xo,∀(ha:PT X a tA),0,ϟ9,by let#[H1,I1,q1]:=z0,ZG,by let#[t,rfl]:=r,Gq,∀{i:Int},0,Ϡ0,[_,by rcases ķ hx with q | q],ËA,∀(hr:vb X.K f r) ÄI,0,Œ6,by ext ħ4;exact ďZ,WA,∀{ti:ou}{g:v7},0,ËB,_ (yX s.pu p) (wR s.pu p),Dz,_ T_ rfl,YJ,_ ∅ o e,èv,λ i h h' st k=>st.at λ o e=>k it YJ,ÐE,(.ins C dx []),ĉF,(upd H dx Χ1),èw,(upd ĉF x ÐE),dw,(Į T),èx,JT dw "__getitem__"=pure ↑ Ο8,Ãf,I1.kept,èy,Ãf (t':=Äa) λ b o eo=>Gc _ eo,èz,È #[_,_,h1,h2,h.1,h.2 RX h3],èA,es.toList.findIdx? (λ e=>(V3).is n e.2),ÐY,oT.data=rP ts,èB,Ō T=↑oT/\ÐY/\ts[3]?=↑fl,Ãq,y.2=Cp,èC,Í (y.2=uI)||Í (Ãq)||Í (y.2=Ì1),èD,(tupS (zc (tupS (zc Ļ (zc Ļ zf))) zf)),ûQ,λ wi=>Í (wi.1.f=p),èE,(F.ws.zipIdx).filter ûQ,Ϡ1,_ X (xj .And ãv),Qv,by split <;> lia,Ϡ2,_ LQ.Ļ1 (LQ.õ3 h2),Ϡ3,_ ∅ T.isinstance,ØP,(Ų6 sp tA),Ϡ4,_ X χ7 ØP,dv,by simp![iS,Ĉ5],XO,∀{xs:Ép},0,ĂD,gR VF h es t xs,Óg,∀{es:Mv}{t:UP},0,èF,∀ Óg XO(X:ĂD),0,èG,∀(hdb:(c == Tb)=Á) (hs:Ql) (hpl:Óm),0,ËC,by let#[z,e1,e2]:=ŗ;ext Ů,Ϡ5,_ xw (ze zp ù ħ),èH,by simp![ϗ5,B3,Option.getD_none,show JZ>0 by decide,tZ];by_cases h:i<0,XG,[none,none],èI,[_,kD (by intro q;subst q;rw[hS1] at hb;cases hb)],Ho,List.mem_range.mp,èJ,by have hk':=Ho hk';exact#[dW,rfl,?_];rw[É0 hl hk'],ËD,x.cps.all Ây=true,ËE,.list_tuple Äj RC,ËF,by simpa only [zo] using q,èK,∃ c d,ay/\y=yU/\Q (.bl (c != d)) H,J_,∀{f:Str},0,ë5,∀(sp:wt),0,ËG,_ rfl (zy Ö (Å2 F s.pu)),ĀK,_ I p hz Ķ8 u (j:=j),èL,ť6 ĀK (by simp[hj]),Ϡ6,_ X (xj .And áL),Ϫ7,Gl X "range",èM,∀{ta:TA}{p pos:Pos}(hg:Ϫ7) (hm:ϝ4),0,Ϡ7,_ "keeper" "taker",èN,by exact#[by rw[zg2,zg2];show r.1,λ j c hc=>?_];rw[zgE] at hc ⊢;by_cases hj:i=j,èO,(if w.cps.all Ây=true then ↑(YL ø) else none)=_,ċR,∀ b,Bv->IA,èP,[_,by have ue:ċR:=λ b a z=>by rw[z,he] at a;cases a],èQ,by let#[T',n,r]:=x.tr;show#[T',by rw[Heap.size_after_update] at n;show n,r],ÃJ,HM EM,èR,(.nx (((ÃJ).set j ↑(.im y)).set EM)),ËH,[_,(λ z=>by cases z.1)],èS,by have h1:=(mf ha).1;have h2:=(mf hc).1;have h3:=(mf hd).1,rG,(x:Int),Ż9,Int.le_of_lt,VW,Sum.inl,ż0,IZ=↑o,ËI,k b o (λ z=>hc ÇG) e,èV,λ j y v' e1 e2 e3=>?_,èW,ŉ->t D ç->Ä Ā (execs st Ù) QG Ï1,èX,I.mod.glob.keeps I.bk,ż1,λ f s1 q=>?_,Dp,É Wp,ÑZ,((0:Nat):Int),ÑY,(hi-lo).toNat,èY,((ÑY:Nat):Int)-ÑZ,ËJ,λ i j=>Â (i-j),Kg,(vs++dvs),Ϡ9,wpAny_loadPart',Oa,à b,pq,(Oa),V_,getItem,LP,ht.typeIs,NA,Κ6 xs Ϟ,Ι3,[_,nomatch e],ϡ1,λ _ e=>Ι3,ż3,its2.toArray,ÚU,(x,ů1),ϡ2,ÚU ∈ Ez,èZ,(λ x=>do QI x (ϊ4);theTreesLotGoes x),ϡ3,Į "ValueError",Q8,Bool->ql,ËL,λ _ _ _ _ _ hq z=>Me,ż4,by simp[hi],ϡ4,get?_update_seq,ż5,listItems_at,ϡ5,#[_,rfl,?_],uD,rR ũ,MC,by ext CQ,ËM,(tp.find? Xr).map ũ,ϡ6,h1.symm.trans e,ϡ7,#[h1,h2,h3],éa,let #[q,_,_,hq,_]:=dd';#[q,hq],Jf,Vw.str r1,ϡ8,vY Fd ys Y2,WK,.rt y,qw,(WK),N9,(vP N ys),ż7,(χ0).toList,ϡ9,(iy f g Ġ tc),ς1,_ k l xs,Ϣ0,SQ ð ς1,MV,e5.extBut,ËN,(Θ λ e=>û4 dA),ż8,Í0 Ä4 x st,ËO,mroOf (Į B)=pure bmB,Ϣ1,setFlight,ËR,(upd H' Ę8),ËS,(Â (ns.idxOf k:Nat)),Ϣ2,List (Str×Tok),Äi,strKind,éb,(Í (ϑ<FU)||Í (Äi x<Äi y)),Ke,(.im qQ),Ϣ3,(Sum.inr.inj z),KS,tab.map,Ϣ4,Ã "show",LK,F.stall p,Ϣ5,(Hm).getD IE,Ϣ6,(.im (Â span)),ËU,(rR (·.length)).sum,OW,yP F,SO,im (OW),Nz,vm Ϙ fr,ËV,mx [KP,Hi,Lx],OX,∀{N:Û},0,ĳ5,∀{op:CmpOp},0,Pk,∀(c f:Str),0,ä3,_ X.K t,NR,∀{pos p:Pos},0,Ĝ6,∀(rows:Ğ),0,Ù0,∀{g:Ϗ},0,Wb,∀{its:zAV},0,Ϣ9,∀(es:Mv) (ep:Nat),0,éc,∀(hit:s.heap.IsTupleIter it l i) (hl:Ű9 l xs),0,ËW,∀{B DU:ń} {mN mP:zSV},0,ËX,∀(hb:qM o "kept" Ea=tN),0,ËY,∀{f g:Ŝ}{fa fb fc:zEO},0,Μ4,ϔ=many,éd,∀(hx:0<=x/\x<=4) (hy:0<=y/\y<=4) (hn:Μ4),0,ée,_ (NC) Ķ #[by rw[AS];show h4,Ϟ1,0,by rw[<- e];show ę7 l,Eu],Ót,_ (lo:=none) rfl,Úb,(tr W).cut,éf,(Úb () Ót (jw (ip W))).add,ég,[_,by let#[a',xs',ds',q,k1,k2,k3]:=h2.Ų2 r2;cases q],ËZ,by have q:=h.flat r;subst q,Úx,EW f=true,éh,∀(hd:mx [uV,Hi,Lx]=↑f) (hf:Úx),0,éi,∀{oe:Obj}{vs:zAV}{head a0:Ø}{hadNext:Bool},0,Ĵ0,∀{ws fs:Û},0,Ž1,by ext sC;show h',ék,[_,by let#[_,o',ho',hnf]:=Üh;rw[hb] at ho';cases ho'],él,by have hx1:(onTheHeap (đ C)&&Åv)=Á:=by rw[hx2];rfl,ϣ1,∀(yH give get:Int),0,œ1,ň Ũ n,S8,N.length,ém,PyProof.Rows.slot_tuple_getitem.lookup,ÜW,r ßr,én,wI X f (λ xs H Q=>ÜW\/r' ßr),Uk,own.lookup,ť,yx e,Tq,(kr to te),AX,ċ n,eU,(AX).map,Vz,out.toList,Ž6,m.length,ϣ3,(c Y).bind,éo,hq #[ds,_] S1 s1 h2 λ S'' s=>s À h1,ZW,owner.size,Ra,[_,by exists hl],ép,[_,by rcases X.tab.mask with e | e | e <;> lia],Ž7,(Ż0 k1 l1),aC,Qe rows,ùB,(Ũ6 b q).trans hb,éq,x.iM b o us (ùB) hbd,Ž8,(many:Int),Si,#[e3,e4],Ž9,(yD Ö ()),ÃF,(x,y),ZU,zW ÃF,ϣ4,(b.map zW),JA,lQ Jl,és,by unfold nK;rw[hpw];ext Þ;rw[hk],ét,(ya (t5.trans þa) rfl),éu,by simp![zA] at h ⊢;let#[a,xs,h1,h2,h3]:=h,év,by rename_i e;let#[a,ys,rfl,q,r]:=yG.sq Ŭ e,Ìb,by ext ŀ;exact O6 hm OV ÆQ,éw,by repeat (any_goals (first | ext Ŷ | ext qY | wp_step)),Ìc,by let#[z1,z2]:=æ9 I.zt hE g0,Àq,Ŕ um hr,Ìd,by let#[t,h1,h2]:=Àq,ÚG,Value.str,éy,∃ t,u=ÚG x t,éz,zR (hm b _ q λ z=>z),Ìf,ż b=↑u->ι b=↑u,Ìg,#[v,H,I,r,h],Ìh,#[σ,H1,I1,q1],éA,Value.notImplemented,éB,(if v<0 then max (v+Gv) 0 else min v Gv),Ìi,mg d.name=↑(à fa),ØL,(.dS a vs),éD,H q=↑ ØL->H' q=↑ ØL,éE,(.bl (cond neg (! Pl) (Pl))),Ìj,(Ç h).symm.trans ef,éF,(.nx (HM i ↑ Ki)),Ìk,#[Z',Y',F',e'],ąJ,Å (ts.set j z),éG,.nx (HM n ↑(ì (ąJ))),éH,λ b hb=>I1.Ļ0 (nw Ϣ) (jk (nw Ϣ)),Ìm,#[c1,c2,c3,c4],Ìn,["border","other"],Ìp,Í (a<=i)&&Í (i<=b),Ìq,(Θ λ x=>T.bl (g x)),Ìr,λ h=>á h (LQ.Â3 hk),Àw,b.flatMap,Ìs,(Àw g).length,Ìt,ss.any λ s=>Í (s=x),Ìu,↑(!(ÅG).isSome)=_,Ed,∀(b:Bool),0,ϣ5,_ X (xj .Or ãv),ϣ6,_ X (xj .Or áL),Ìv,∀(hs:ßZ:=by intro _;rfl),0,ž0,_ X (ð5 .Add),Θ2,∀{lo hi:ř},0,éJ,∀{t sl:Addr}{ε:zAV}{vl vu:Ø}Θ2,0,ô1,∀{ns:é},0,Lp,_ x Ϟ H Q,ž1,_ hN hv hd hcd,ϣ7,_ 0 DL sY (ϊ4),Ýr,vT=↑d,Jq,Q d S,Ìx,∀(e2:Ýr) (h:Jq),0,ô2,∀(k:Key),0,ϣ8,_ z (Da _ hz),Ur,∀{Q:Fin->ϴ},0,Ìz,_ x y 0 ϑ (ϑ+1),Oc,o6.ext,éL,_ _ Xs (λ d S' q=>Oc (ð2 a2) q) z,éM,_ (Ć4.or (Ē7 XN)) kO.fits kO.mo BX hm,Gr,∀(b c:Bd),0,Υ4,(ċ ě),ÌB,_ 2000 [] (Py) Υ4,éN,by let#[a,b,c,d,rfl,h1,h2,_]:=hw FL,ÿR,Obj.cls_mapFields,éP,#[#[ÿR À,Obj.í4 À],by rw[ziE ()];show h0],π7,_ Ÿ0 QR,éQ,[_,by cases e4;ext Æb;exact#[p,rfl,#[b,h2],hf π7]],ÀD,im (nT p),éR,[SO,ÀD,im (rT l),none,none],C1,k=true,ÌC,by simp![zu] at h;subst h,éS,by unfold SetTable.relaid;rw[hw,Nat.add_sub_cancel],ž2,∀{pl:Sem Bool},0,ô4,∀(x:Int),0,éT,by have hl:(ϝ9).length<=â:=by have:=Ī0 Io v;lia,éU,[_,by rcases x_ e with ⟨rfl,hl',e⟩ | ⟨n,e⟩],tY,HW q,éV,by rw[tY];let#[o1,t1,b1,b2]:=x.iM Ð g6 g7,éW,_ (λ r:T=>r) _ ts (Ó some (zgP ts).symm),ÔX,ţ<=1000000,ς3,∀{p:Str},0,éX,∀ ς3(h:g Y=↑(Ã p)) (hp:ÔX),0,ÌD,(show 0<M+1 by show LQ.ń9),ϣ9,X.A.handled=none,ÀX,[_,by cases rx;cases ry],éY,by ext qy;let#[c,d,rfl,rfl,q]:=h;ext ÀX,Ϥ0,t.fits Ŏ=true,ÌE,by ext Ph;exact hf Ţ y _ hE QR,éZ,by unfold nK;rw[hp];ext Þ;rw[hk],ĊA,(tt 0 W).trans,êa,_ (ĊA (Ó some (FM h0))) rfl,ÌF,∃ t,u=û4 i t,sV,yB Vs,êb,(ć "range" p),ÔJ,_ (e.trans x) q,êc,λ v H2 r x q=>h v H2 r ÔJ,êd,λ gV s σ H Q I q=>h Dh (hi Q ç q),CR,List.pairwise_cons.mp,Ϥ1,rows.getD i [],Ϥ2,List (Key× Ø),Ϥ3,∃ ds,ob=Jr,êe,(.nx (HM i ↑(ì (Å (ts++[y]))))),ÌH,wpAny_runValue,êf,h.IsTuple l xs,êg,[_,λ q=>Ú0 (by subst q;exists hl.symm)],êh,λ d S2 s2 r2=>#[λ he=>?_,λ he=>?_],ČF,hq À (z ģ),êi,fun L S Q Q' hq z p hp=>ČF,ÌI,oA N (Ŗ::es),QB,r.2.1,êj,g2 (HM j ↑(ì (.zE QB r.2.2))),êk,ň7 hz ts (by simpa only [gh] using h) q2,Ϥ5,(zc KL zf),Gb,HW hp,Ϥ6,(told++[last]),êl,(0<=q.1/\q.1<=F.A)/\0<=q.2/\q.2<=F.B,Ϥ7,Ï7 (hg w.t) hq,rj,Ã k,êm,(zc (cS (rj)) (zc (cS (Ã l)) zf)),Ϥ8,(.im (Â num)),Ϥ9,(Ź2 (l s) y.2),π4,_ rfl h1,ên,zM (zl ae (zl (vL π4) rfl)) rfl,ϥ0,Ħ " " (å0),Āv,["floor",w,t],êo,(Å ((Āv:Û).map ø)),êp,by let#[m,#[o,es,ep,ho,r],_]:=id ET,Ve,_ Ff (nY i),iG,_ ph Q ka,ϥ1,_ ŏ Ô7,Ud,∀{Q:VK},0,ž3,by rw[É hj,É hj],êq,by let#[ÇJ,ho2,hc2,n2,hd2]:=id hb;ext Çi,AV,∀(t:yw),0,ÌJ,by let#[x',e1,e2]:=r2.yd q,Mt,_ ds S1 À,ÌK,by rw[om n1] at e3;rw[om n2] at e4,ž4,by replace h3:BJ:=h3,ês,_ (by rw[GT];lia) λ h' tk xs S U k=>?_,Öd,(nX ns).map,J9,D.int,êt,_ ū (ups S l (Å (Öd J9))),êu,_ (hn _ (Ĳ1 hf)) (hn' _ (Ĳ1 hf)) (Ę3 hf),ÌL,by rw[DO (p:=_/\_) Į1,iF],ϥ2,∀(h:Ls k n (f Y)),0,Ŕ9,_ (sp À) (),ÕV,sU "tuple",êv,Ç (by rw[show (ÕV == ÕV)=true from rfl];simp),êw,[↑(.im (OW)),↑(.im (Â p)),none],CA,∀(n:Int),0,êx,(sb.2 c (λ z=>hc (z▸BT))).trans e,ϥ3,∀(hm:X_=↑u),0,êy,∀ ì2 ÂK{w:Wy}(hb:Gd bA (bt)),0,êz,by exact vL (Ó1 hφ hf) ?_;have hz:(DB).length=μ:=by rw[zfU];show LQ.þ9 hl,êA,h'.Ns1 Ĩ (λ y=>if y=name then ↑v else none),êB,[_,by let#[_,o,ho,hnf]:=Üh;rw[he] at ho;cases ho],ÌN,Nat.sub_le_sub_left,ÌO,(zhL Nat.two_pos).2,êC,∀ o,Y4 a=↑o->X9 a=↑o,ÌP,I.ok.bs Ie,ž6,λ x c e=>?_,ĎC,[v,ov,iv],êD,E6 ĎC (setItem ov iv v),ž7,Inv Č H s',rK,lexLt,ÌQ,(FK (rK ns ms)),ž9,items2.size,Mh,hfp Ϣ,ſ0,ds[i]?=↑d,ſ1,(rg J9),ſ2,zH.fits ÅH,ÌT,(∃ ds,S1 p=↑ Dc),ÌU,EE yp OV àM,ſ3,Þp=ks,Kx,valueAt,O0,(k,d),OU,xR S Ñ,ſ4,#[rfl,h2],u_,h3.elim,êE,(∀ c S',sv->R S S' Z z c->Q c S'),ąu,λ a=>Z a/\a≠p,êF,Sn (yj S ąu) Ae ī,ſ6,#[ds,rfl],ſ7,λ b o q=>?_,êG,λ S3 Z3 L3 F3=>#[Z3,Y2,F3,e'],ÝS,below.go,ÌV,ÝS xs j f Ϟ,ſ9,λ z=>hb ÇG,ÌW,(N4).toList.map ũ,ÌX,[a,b,c,d,e],ÌY,(đ C::bm).contains,ÌZ,h'.FunFrames base l,êH,e∉(ßm).filterMap (·.frame),êI,λ b o hb hnf=>x.slots b o (ÅK) hnf,Ía,(a.free c o q n hx),êJ,λ l hl=>hq À Md (kE hz hl (Ű7 _)),Íb,(λ acc q=>putD áU),Íc,(upd H' T1 (wz T1)),Íe,Ã "number",êL,by change (g Y).map _=_;rw[h];rfl,Íf,sM #[r,hr,rfl],ÚB,[_,by exists w2],Íg,h w w1 (ÚB),Íh,bD λ r=>wK r bs,ϥ4,p.toNat,Α1,by simp[h],WZ,k<many,Y3,fst r,êM,∀ k:Nat,WZ->∃ r∈rs,Y3=ü,ĝ5,List.all_eq_true.mpr,Íi,(∀ r∈qs,Ŷ5 os r),Íj,l_ h0 (k:=2) rfl hc,Ík,l_ h0 (k:=3) rfl hd,Íl,bd.map (nS w.a w.b),êN,dN (f:=zb 0) (Y:=Nh) (w:=w) rfl hl,Ím,(A6 KW (Âq)),Ín,Î [Âf,row],Ío,(((30:Nat):Int)+ü),êO,["_law_number","_law_names_here"],ϥ5,[_,by rcases hq with hq | hq],êQ,∀(c1:∀ x c,Bz->GR/\IM) (c2:∀ x,GR->ϐ7),0,ß1,_ fa fb,Íq,∀{ti:ou}ł2{tg:v7},0,êR,∀(hw:sizeAbove b_=M+1) (hfew:ò*5<M*3),0,êS,_ I1 kk λ b hb=>#[hf' Ϣ,(Qu).2],êT,by let#[a,es,ep,h1,h0,h2,h3,h4]:=hk,êU,_ [] (yh (ze lI u7 (ze zp ù Ū))) ć7,Ír,∀{g:š->Bd}{m:š->Nat},0,Ís,[_,by rw[q,hT] at hb;cases hb;show hnf ts hdT],êV,_ ç λ e H'=>Q e H'/\∀ T,H' T=none->Q e ËR,ϥ6,[_,by rcases hx with hx | hx],êW,by exact hv Ţ z jL λ dz S1 s1 r1=>?_;have F1:=Ef,êX,rH a=↑{ cls:=ſ,data:=ň A0 },Ăt,#[[],yy,ä],ÁR,Mu hD _,êZ,p1.ups (ÁR) Ăt,ëa,Ä í (ð5 .Mult ū (Â k t)) ï,ëb,#[o,us,keep b o q hb₁,hbd],ëc,λ b ps q=>#[į,by rw[Êl];simp],ëd,Ŧ (xc "list" (Ϟ1).toArray 0),Ϻ5,_ (k:=1) rfl,ëe,(zy (x:=qg) Ö (oo Ϻ5)),ëf,ς4 [Â y,(xC d FY).getD (Â y)],ëg,((Ą1 π4 hl).trans (by rw[iF])),ëh,(zZ (zL (zj (zL Rl fm') Ö0) s1)),ëi,by ext qy;let#[i,j,rfl,rfl,q]:=h;ext Xg,Íu,by let#[e,he,rfl]:=π hx,ϥ8,_ F Sc hn hb Åt,ϥ9,_ pu (vR pu x y),Ív,by let#[q,hq,rfl]:=jB,Öq,cS (Ã "1"),ëk,_ e1 (y:=Ã "1") (fb:=Öq) rfl,Ąm,_ fd ["_law_script"],ël,_ Ąm (nW K (zK zk Œ5)),ëm,(L5.ξ1.i K8 (by repeat first | show L5.È9 | apply L5.õ6) Ň),ën,[_,by have h0:zu Ò (ÖY JF) xs:=h0;cases h0.strs],Íw,(FQ λ _=>T.bl true),Ϧ0,by rw[Db];exact WP W0,ι1,T.mask,ëo,[_,by rcases ι1 with e | e | e <;> lia],ëp,λ c hc=>h c (by rw[e];simp[hc]),QQ,H b=↑u,CO,ò<=â,Íx,(ÃZ ↑e pos),Ϧ1,(sP o i pos),Íy,turn i n π1 w3,Ϧ3,Int->Int->Int,Α3,getMethod,Su,r2.length,Ϧ4,λ r s' hq=>?_,Α4,cellsFrom,Ϧ5,Vg=0/\ÇB=ò,Ýs,(Â Zc),ër,∃ z,xs=[pF]/\ĉ2/\Q Ýs H,Čn,(upd H l VH),ës,∀ l,ÿ1->Q ū Čn,Ρ1,(Î ys),ët,∀ l,ÿ1->Q ū (upd H l Ρ1),Α5,(.dT tp),VO,EZ vs ns,Wv,à P::lO,qp,.vw ds,Tu,h H tJ p,VB,h RX h3,Vh,h RX h2,ÍA,(ups S p Dc),ÍB,wpAny_pyIter_tuple,p9,(m+1),ÃU,collect,Ϧ8,(ÃU ĳ),Yq,(rR Ě),Z8,(nB ty T),Ϧ9,rel.val k,Α6,(ū3 e3),N1,f Y=↑y,Hx,yx ef,WD,Vw.int r1,ϧ0,h.er.im j t e,MR,rangeT,LH,(Å acc),ÍC,ĸ=↑↑(ì VS),ßD,_ pick it g,ÍD,xX ßD c f Y,LI,(rR lE),ϧ1,∀ ts,d≠ ő,Zx,aM M i-i,ÍE,aM M Av,Hq,L.size,tE,(V3),ϧ2,setSearchFrom,ÍF,codeAny_of_tree ?_,ϧ3,plainId_quiet,R5,(AT A2),ëu,(((ĕ5 ..).extBut.push _).push _),ÍG,(x1.trans x2),ëv,h.IsList l xs,ÍH,(ś6 vE).objs.size,ÍI,u _ (u _ (p1 Ó2)),Vl,Mu _,ëw,#[by change 2<=â;decide,Vl],ëx,(λ x y=>D.tup sF),rY,Ã a,qX,Ã b,ϧ5,[rY,qX],ÍK,(ups S p (.zE [])),ϧ6,(nE sp to tA),ÍL,vP N (.zE Np::ys),ÍM,#[rfl,rfl,rfl],ϧ7,List ďX,TU,tab.foldl,ëy,(cS (Ã "stall ")),ëz,(retS (xM nM ĊI uu)),ϧ8,["_law_word"],ëA,["borders","joined","border"],ÍN,(tupS (zc Ļ ϒ6)),Ks,xO F k,ϧ9,hb.wa ģ,ëB,zM (zl (ya âp) (y8 (ŵ7 hc))) rfl,Ϩ0,(.im (Å os)),Ϩ1,λ n=>w == PK,pb,Œ1 x y,ëC,[clip a,↑b,clip c,clip d],cb,Bool->ř,ÍO,[OW,Â p],ëD,(IL).map ø,ÍP,n/77%((ϗ:Int)+1),Β1,_ h.2 (f h.1),CN,∀{v:Ø},0,ëE,_ c o (I.kX qR) hc nch ho (I.mC qR),F_,∀(s':θ),0,ÍQ,_ X (Vb es k pos),Će,λ h' st' sb=>?_,ëF,[_,_ (x:=u) (by exists hu) Će],Β2,∀{x qual:Str},0,Β3,_ S (o6 Ò Q),UX,_ x y S Q,ëG,by rw[q2] at h;simp![Option.join_some] at h;rw[h],ëH,_ PySem.F.slot_dict_getitem.lookup hs,Β4,∀(hf:yO f ty),0,ÍR,∀{it:Ϗ}ł2 ā9,0,Β5,∀(l1 l2:Addr),0,Β6,_ GH h l1 l2,ëK,by let#[a1,us,rfl,g1,g2]:=yG.k d1 p1 s1,ëL,_ äy (Ă (ć "enumerate" p) [a] sy),ÍS,_ F X4 ha hg hdb BK,Ua,∀(b:Bd),0,ëN,by rw[<- zfY,ť4,List.zip_map_left,Db];rfl,qU,_ rfl ⋯,ëO,[_,by exact#[#[o,e,ex.1],λ a e2=>?_];cases e2;show#[o,e,ex.2.1]],Ϩ3,[↑ Pw,none],ëP,by have kk:∀ b o,cp:=λ b o e=>k b o (B9) e,Ϩ5,by rw[e];rfl,ëQ,[_,by rcases ŷ3 e with rfl | rfl | ⟨b,rfl,q⟩],ëR,by let#[ds,rfl,r]:=r;simp![mQ] at e;ext Ĥ,PJ,∀{c f:Str},0,Ùq,κ->β->Ø,ÃR,List κ,ëS,∀(val:Ùq) (its:zAV) (ks:ÃR),0,ąO,(KB this).symm,ëT,by have ex:x'=x:=by have:=f1 _ m1;rw[hx'] at this;show ąO,ëU,[_,by subst hj;rw[hi] at e1;cases e1;rw[zhO hiσ] at e2;cases e2],ëV,(tw.cut Ót (jw (ia W))).add,ëW,bs.getD i true,VY,_ OV UU,ÍT,by ext ŀ;exact Ģ CT VY,ëX,by simp![zA] at r;let#[a,xs,rfl,_]:=r;rfl,Β7,∀{m qual:Str},0,ëZ,[_,by have hpl:p≠l:=λ z=>by subst z;rw[yy] at hp;cases hp],ìa,_ e (.Slice Ϟ none p2),ìb,by ext ÈR;exact Ģ ha tX h UU;exact Ģ hb V9,ìc,[_,by have e2:(op == CmpOp.NotIn)=Á:=by cases op <;> first | rfl | show á rfl h2],Η6,q::Ņ,VE,_ () ∅,ìd,_ Đb (v:=none) (ws:=Η6) VE VE,Pm,(Æs),ÍU,lW Pm many=true,ìe,by rw[h1];exact#[#[ds,h2],hf Ţ À F.er QR],ìf,_ (by simp![GT];lia) #[H,pK,by rw[Ò9 r];show q],ìg,[_,by have npq:p≠q:=λ z=>by subst z;rw[g2] at hq;cases hq],ìh,(∀ i:Nat,N_=↑none->B[i]?=↑none),ÍV,_ a pq CF true fuel,Y7,_ hna hpa,ìi,by (with_reducible exact iC İ7 hm hB Y7 ?_),ìj,IZ=↑{ cls:=Ć,data:=rP ps },ìl,tH Fg ↑(ű o f pos') U_=su,ìm,λ v hv=>(Yf nd).1 (zgB hv).1,ìn,if x=y then rK xs ys else Í (x<y),Oi,_ CV S Z,ìo,(∀ L',FR Oi L' Y'->Q L' S),ϵ9,λ e he=>?_,ìp,#[ϵ9,λ j r hj hrj=>?_],ìq,Bx l'=↑(tU (ST.wU w l' us')),ìr,sJ it Xc->Q x { s with heap:=h' },OQ,_ L' S',ìs,fun L' S'=>∃ m',m'<m/\W m' OQ,ìt,#[oe,vs,he,hc,hdx,hdt],ìu,by unfold zY;rw[Ç hn,h];rfl,ìv,(0<=p.1/\p.1<=A)/\0<=p.2/\p.2<=B,ìw,∀ i,vi (IK i []) (m.getD i []),ìx,(á0 rfl hz' λ r h=>(hr r h).2.1),ìy,Ĭ UM ü=↑(Â (ns.getD k 0)),ìz,PyProof.Rows.split_weight x y hy,Kn,∀(ok:N6),0,ìA,_ (λ _ s'=>∃ σ' H',Ay/\Q Ig) Ï1,ÍW,by let#[od,J,hl]:=I.look,ØD,ws.toArray,Úz,[_,by exists hv],ìB,_ t b A0 ØD ϓ3 (Úz),ÍX,by rw[P8,P8,zfN,zfN],G7,by rename_i h,Ϩ6,by by_cases e:p.1=k,Tt,∀(h:yO f t),0,Ŗ6,∀(h:j9 g u),0,ìC,by let#[g1,g2]:=rep i H2 S2 x2 q2 (hk S2 sx),ìD,by intro xs n h;let#[y,ys,rfl,h1,h2]:=h,ìE,_ st k hs λ X=>∃ t,xU X Á Jg/\Ap,Ϩ7,by dsimp only at h1 h2,WV,∀(bs:RB),0,ìF,_ (Y:=[↑ NT,↑(.im (Ã f))]) Ö,Ϩ8,(by rw[e];show Pt),ÍY,[_,λ v z=>by cases z],Ór,(jE Åu none),ìG,_ Ór (ċ μ) HU λ k hk'=>?_,Ο7,leaving,ìH,by unfold Ο7 QI;simp![hf];exact AC (ÈY),Ϩ9,∀(h:f Y=↑true),0,ìI,[_,by rcases h with rfl | rfl <;> decide],ìJ,by have hl:φ.length=μ:=by rw[<- wg,hφ,AS],ÍZ,Value.isInt_shape,Β8,Value.bool,ìK,PySem.W.methodObj,Rz,tU φ,Β9,(Á,K7),A7,pins',ìL,PS X (.If c Ñ pos) (ê6 tc t u),Γ0,#[m0,w0],ìM,#[m',hm,oF,H3,I3,w3],Îb,I1.Ļ0 Ķ (jk Ķ),ìO,y.size<=â/\k=((y.size:Int) != 0),ϩ0,H p=↑ ī0,ìP,plainObj_wpAny_Assign_Attribute,Γ2,intsAre_of,Îc,s3.heap.objs.size,Γ3,(LQ.ě8 h0),Γ4,H l=↑ ñ4,ìQ,#[cl,?_,λ x d hx=>?_,ID],ìR,(∃ m,W 0 m Wx (upd H1 D KD)),Γ6,(x9 f Ġ),ι8,h2.new,ìS,λ l hl=>h À ?_ Md (ι8 hl),ìT,#[L,S1,DA,p1,Af äw],Îd,λ v σ H Q hu=>?_,Γ7,λ d hd=>?_,ìU,λ cdv A ġ s H vs Q E hr h=>?_,Îe,(ϐ "isinstance"),HD,c::cs,ìW,(.bl (cond neg (!(Èh)) (Èh))),Γ9,Sn qa y d,GL,ER Ţ,Δ0,Vw S Z y d,ìX,h' FG y qJ λ S2 s2=>hq Ϝ9,Îf,ĸ=↑↑(ì ts),ìY,λ j k us vs q n e1 e2 e3 e4=>?_,ìZ,EV (ø1 hp) (ž5 _ hp Às),ía,((DA).pick pick).ext (ÁR),ϩ3,owner.getD,íb,∃ (e:Nat),e<=M/\ľ[e]?=↑ tW,íc,#[[u5,a],[]],Δ1,U.own e he,Îg,#[o,f o ho,r],Îh,(Shared.heap ϊ3),íd,È (è7 S Z _ z ds Q hz hv e hq),Îi,λ _ _ _ _ _ h=>ë,NS,.done,íe,(NS (Μ (Â (aX:Nat) Ĕ))),íf,List.idxOf_lt_length_iff.mpr hk,ÁY,vB m ò4,Îk,(ÁY).isSome,Δ4,T× dD × ö,Îl,Γ (Ŗ1 K) tab z_,Îm,(λ acc q=>mY áU),ĉP,(ze xw ù Ij),íg,(yh (ze Α ĉP Ď)),În,["word","form"],Îo,Ħ y (p::qs++[r]),Δ6,kf last fo,Îp,(zZ (yR Ö d624)),Îq,[↑ NT,↑ Bg],aw,(Di),Δ7,(cS aw),Îr,qv (·.map clip),Îs,λ c=>Í (c∈L s),Ît,L (num ü),Îu,(wi.2:Int),Δ8,Ħ " " sQ,K5,mE Ñ r,tm,T.lst,tj,l.map,íh,(λ l:Û=>↑(tm (tj ø))),Îv,(n/1024%11).toNat,Îw,((h0 À).mpr rfl),íi,[Ã t1,Ã u1,Ã t2,Ã u2],ϩ4,_ (Ŋ4 Č Q) Ï1,rm,_ X c tc,ík,_ (λ s2 I2=>#[_,H1,I2,q1]) hf,ϩ5,_ X (ð5 .Mult),ϩ6,_ hs pl pu,Îx,∀(hi:ũ9 ti) (hg:ŕ8 g),0,ϩ7,_ A8 (nW K sp),Sj,by infer_instance,íl,by let#[z,e1,e]:=ŗ;let#[x,e2,e3]:=ŗ,ÕR,hashes.size,ím,∀(hashes:t_ Int) (hl:ÕR<=M+1),0,ín,∀{nm q:Str}{C N P x:Addr}{bs bmB:zLV},0,Îz,_ "keep" "Desk.keep",ÎA,_ [3,4] (xF ļ) ķ3,ϩ8,_ hs.1 qH 100,ÎB,by rw[zh1,zh2];show LQ.Þ8,Õk,[_,(by exists q)],ío,[_,by .rw[zgM Õk,zh8] at h;split at h <;> cases h],íp,_ (tw.cut (hi:=none) (jw (ia1 W)) rfl) (),íq,by have:=h.ln;simp![vc,GM,GE,AS];lia,ír,by exact Cv F.entry_set_update_loop ?_;ext ďY,ís,∃ sl,ι b=↑{ o with JW:=sl },Δ9,H a=↑ ī0,ßN,ſ8=true,ít,Fp=led/\ßN/\ò*5<ś*3,ßO,∀{it l:Addr},0,ÎC,∀ vQ ßO,0,Ą9,_ rfl h,íu,[_,by have e1:(op == CmpOp.In)=Á:=by cases op <;> first | rfl | show á Ą9],ϩ9,∀(hm:X_=none),0,ćS,o.map (rk true),ív,(Å ((ćS).map zN)),íw,[_,by .rcases ś7 (h.o ģ) with rfl | rfl <;> decide],íx,by exact AC (wpAny_handled ?_);rw[show A.in1.handled=none from hh],ÎD,[_,by have q:=h2.flat r2;cases q;rfl],Ϫ0,Int.zero_add,íy,(Int.le_add_of_nonneg_right h),Ϫ1,Int.not_lt.1,ÎE,(neC Ie hx),íz,Ä Ā (eval (ć x pos) Ù) ï,íA,y=.zB/\Q (.bl (! Í (x=.zB))) H,íB,#[A_,H2,I2,ã tX,q2],Ϫ2,concat_meets,Tc,(à t),Áb,(à sl),íC,Ä í (V_ Tc Áb) ï,íD,ż p=↑{ cls:=ſ,data:=œ1 },Ϫ3,SS->DK->Prop,GK,PS.imp,íE,#[L,S1,DA,p1,h.mo äw],Ϫ5,λ x H' q=>?_,íF,(h i (j-1) (LQ.ß9 hi hij) ⋯),Ϫ8,ć "tuple" q,Àh,(Ŋ7 s hp),íG,#[d,h1,BH Àh t h2],íH,#[v,hv,by simp[lh];lia],íI,((Eg).i*5+1+(Eg).perturb/32),Ϫ9,Classical.em,ϫ0,setAddHashed,íJ,by rw[<- Ps,hes1,AS,hl1],ϫ1,mv w h a M_,ÎF,XY t Ζ,íK,(.bl (cond neg (c != d) (c == d))),ϫ2,Î [Ą,x],íL,Ϗ8/\Q .zB (ups S2 p (Å Jb)),rX,_ h h',íM,Heap.MadeExcOf rX e IJ rest,íN,Builtin.«object.__setattr__»,Ϲ9,(Ń8 P w),íO,wA Ê Ϲ9 k A8 (μ4 K sp),N3,Ç h1,íP,(hq [(x,t)] Ĕ (N3).symm),ϫ3,nR C2 n g t,Sd,Î os,íQ,Î [a,Sd,Î ws,Î ss],íR,(zj rfl (zj (wZ Rl ύ6) rfl)),ϫ4,ü<(r_:Int),ÎH,(zc Ð).bind,ϫ5,("a":Str) == w,íS,(zm xW (zc (ze zp ÈO Ļ) zf)),íT,(zm xW (zc (ze zp ÈO Ď) zf)),ν8,(Ã t),íU,[↑(.im ν8),↑(.im V)],ϫ6,(ì (.yf d)),ϫ7,á e (ś8 cs),ϫ8,(n%20).toNat,ϫ9,∀(k:∀ b u,ÆV),0,Ϭ0,∀{op op':CmpOp},0,ÎI,by dsimp only at h ⊢;ext č,Ϭ1,∀(hu:xH+1<Ε),0,íV,by ext ű9;rw[h];change (F xs).map _=_;rw[hF],Tv,[_,by rw[q] at e;cases e],ÎJ,wL (p++[x]++r) none,TV,by have e:QV:=rfl,íX,ż l=↑{ cls:=ſ,data:=œ1 },íY,by exact#[av,x2.new hp,?_];ext EN,íZ,_ ht (λ z=>hne (r.ŷ6.mp z)) h1 (by rw[<- hl];show hz),Ε2,jE ďR none,îa,[_,by let#[ÉK,hm]:=F;exact ďP;rw[q.1] at z;cases z],îb,[_,by have:its=its':=by exists Ó Array.toList d1],îc,by rw[zhZ] at hm ⊢;show λ z=>hm (by rw[sA] at z ⊢;show z.symm),ÎK,tH e none U_=su,Ε3,[_,by rw[yy] at q;cases q],îd,by have hl1:xs1.length=ò+1:=by rw[XQ];simp,îe,by rw[AS] at p1;have hpt:(OG).1.plain=true:=by rw[p2];show hpl,J8,S l=none,îf,Ä M A (storeName Ù x u) ï,îg,#[x,σ,H1,I1,r1,q1],Ãe,(he Gn),ÎN,(zF Ãe LC),îh,by rw[rangeSize_one];ext Qv,îi,#[Â qk,H,pK,ξ,q],îj,y=.zB/\Q (.bl (Í (x=.zB))) H,ÎO,∃ u,us=[u]/\Ě4,ÎP,beq_iff_eq.mpr h,îk,(r.drop (Vg)).take (ÇB-Vg),DQ,d::ds,ÎR,Ew->LO->Q v H',ÎS,by rw[r2.isEmpty],îl,∀ v σ H Q,t' v ź->t v ź,ÎT,(NS (Μ Ć)),îm,kat_nil (by simpa [RF] using h),Ω5,_ ys rows,ÎU,L4.gG Ò Ω5,ÎV,is'.toArray.size,ÎW,.bool_tuple _ RC,ÎX,h.fr j ts p e e',WB,wc.mpr,în,WB #[q,BT,Bi,Bi],îo,É (by rw[T.gq];simp[has]),ĈW,(way M h q').j,îp,∀ q'<q,gI ľ ĈW,Ω9,_ tE ð,îq,∃ k c,v=à c/\Hk Ω9 k c,ÎY,(Θ λ e=>Wj),îr,(Ă (ű o "extend" apos) Ko),îs,Ä M X.A (Ο7 Ù Ϡ) ï,Ïa,∀ H,y6 Ò a QM,Ïb,(Ã (Ϗ5 a y z)),Ïc,(vv x).map JF,ς7,_ K w mg,Ïd,KTab ς7 x z_,Ïe,(zc (ze Çx) zf),mq,_ p BT,îu,á (Ľ7 e h.1 z ht) (hf mq),îw,(Î [br,Sd,Æs,YW]),Ïf,(by rw[h1];rfl),Ďh,b.map (rk Á),îx,(Å ((Ďh).map zN)),Ïg,by unfold v5;rfl,îy,(ÖD λ s=>Í (s=ω7)),Hd,∀{k:Key},0,îz,[_,by exact Đf;rintro rfl;rcases hc with rfl | hc],rC,_ X e t,Dy,∀{te:TE},0,Ïh,_ (Â a t) (Â c u),Ïi,∀{l:PySem.W.OpenLaw},0,ď0,∀(c:Str),0,îA,_ (zU X.K to) (ű1 (Ûe) gY),Iu,∀{m:Nat},0,ē7,_ h2 h3,îB,_ h1 hr hg ē7 h4,Ip,∀(F:zLO),0,ď3,∀(h:CI),0,ď4,by rename_i hc,îC,by ext ÇW;let#[b,ys,rfl,g3,g4]:=h2,îD,_ F.fills_int_mul ĆP,Ε4,∀(he:i8 H e),0,îE,∀(hi:Vt=↑n) (hj:X.N[j]?=↑c),0,îF,_ ς (λ ds S2 h=>hf ĉ hq h) h2,Ïk,_ x y k t u v hk h1,îG,_ hi.pe I (Ģ Ð1 ÆJ) hg hs hdb,îH,_ st k hs λ X=>∃ t,xA X Jg/\Ap,rA,∀{xs:ö},0,ν0,1<=FU,Ε7,∀(hy:ν0),0,Ϭ2,by split <;> assumption,Ùj,(v Y).bind,îI,by change Ùj _=_;rw[hv];ext ε0,îJ,∀(h1:ku lo Y=↑a) (h2:ku hi Y=↑b),0,îK,_ (w:="show") (ws:=[w]) (fs:=Ms),ζ3,oU i j,îM,if ζ3 then ↑(Áx) else none,Ïl,[_,by ext Æn;cases d19;cases d20],îN,by have he₂:(ËP).get? e=↑oe:=Gc _ he₁,Ïm,.tuple_bool _ RC,Ïn,h.fr i ts p e ed,Ïo,lD (YW) os=true,îO,by unfold ze at e;ext ň8;let#[z,e2,e]:=ŗ,Aw,∀(m:Nat),0,Ϭ4,by rintro⟨k,hk⟩,îP,by (with_reducible exact WF hD ?_;rw[hDc]),îQ,[_,λ S Z L Y y Q hE e hq=>by cases e;show hq Gz],îR,by (with_reducible exact WF hD ?_;rw[hDd]),îS,by have tbf:tb.isFreed=Á:=by rw[<- htb];rfl,îT,#[z.1,ht À z.2.1,z.2.2],îU,λ z=>(hch c z).2.2.1 qR rfl,îV,ŉ->dG->Ä Ā (K7) Ą4,îW,(zF (ha Dh h) λ c s1 e=>?_),îX,tH e ↑(ć x pos') U_=su,îZ,Ä À (if ÅB then _ else _) CW,ïa,AC (m:=ό7) (P4 ÆP htake),Uv,some Dc,Ϭ5,mF ŏ D,ïc,by simpa only [NE,zo] using h,WW,Vw.bl r1,V4,(ÆG s3),Vr,[e,it],ïd,Ä M A (Ο7 env Ϡ) ï,ïf,(Ă (ű o "index" apos) Ko),ïg,(Ă (ű o "say" ap) [e] sy),Tw,t.length,ïh,["thing","least","most"],μ7,(cI 8),ïi,(yh (gu lI lI Ď G5 μ7)),vF,Eq.trans,ïj,WB #[p,hp,Bi,Bi],Uc,bs.foldl,Rc,oO F l p,Ζ1,(ē:Int),TK,m/8%many,Ϭ6,(ÈT zN),UC,(ì KD),ïk,λ c=>Í (c∈L "0123456789"),ïl,PySem.W.KIN.num_reads h0 ⋯,ïm,(yn (zy (zy Dz ho) rfl tk)),ïn,(zL rfl (h.trans (Ó HQ e))),ïo,zM (zl DT (xD (yE Ö))) rfl,ïp,λ c hc=>HS (G6 this.1 c hc),Äw,ps++[s],ïq,(ì (Å ((Äw).map ø))),ïr,_ (s:={ s with heap:=h' }) e c d (),ïs,_ DV hc i gV s3 π1 X.xe çL,Ϭ7,_ Ŋ xs us Q I,ïv,_ ó (λ d S' z v H' a b c=>?_) h,Ϭ8,_ I.yV Pt ÆL,Ϭ9,_ bP c f Y,ïw,∀(hi:it Y=↑ bV) (hl:ò<=16777216),0,ïx,_ (A:=A.in1.in1) (P:=λ i v=>IX),ïz,by ext VX;let#[_,rfl,u,rfl]:=rv.one,ïA,_ 3 ↑(.im v),ϭ2,_ Ê ys k ps R,ïB,_ zC (ze vn (ze vn Ū Ū) Ū),ïC,_ XG (wq mJ (zc ù uu)) VJ wF,ïE,∀(enc ret:Ŀ4) (test:pN) (Y0:Ev),0,ϭ4,_ (y:=" ") Çl,ïF,∀(h1:f Y=↑ qC) (h2:g Y=↑(Ð3)),0,ϭ5,(C9 a:Key),ϭ6,DecidableEq,Jn,(zE1 _),Ïq,(ţ2 h H).get? b,Ζ2,Str->Bool,O8,N.Nodup,Ζ3,sJ a Xc,Cu,(ω),ϭ9,I.ok.glob,Ïr,#[H1,I1,q1],Ϯ0,.Expr e pos,ïG,letOwnedTupleGo,CK,.bl k,Ïs,!tp.isEmpty,Ït,PySem.W.takerIn,Ϯ2,FS (UF _),ïH,zj3 (fH EX hv ?_ hn hdb),Ia,items2,vV,DO ⋯,Ϯ4,subscripted,ïI,(upd H p (Å (xs.set j v))),Ïu,pushCells_keeps,Ϯ5,N_=↑↑j,Ζ5,Į "type",Ϯ6,(upd H p u),Ïv,h x' H e2 tJ h3,Ϯ7,(vj X.K tA),Ïw,(Ų3 tc t u),ïJ,G4/\Ϝ/\t d L S (oJ Ò Q),Ϯ8,(nh te GU),Ïx,xJ X.K H' L σ',Nd,we.bind,Ϯ9,LQ.ç9 h2 a2,ϯ0,ć "bool" q,Ïy,mg x=↑ FA,Hu,.zE À,Ïz,#[c,rfl,h1],ÏA,is.toArray.size,ÏB,.bool_list _ RC,ÏC,wpAny_specialOf,ϯ1,List (V×V),ÏD,keys.length,ϯ2,(a,b),Nx,ts.drop,Ζ9,by ext â8,ïK,hq _ Gz (EV (n À) (h Ð)),ϯ3,(uR s1).zd,ÏE,(mn λ a z=>z.1),ϯ4,λ i t e=>?_,ϯ5,λ S3 s3=>?_,ïL,È #[_,_,h1,h2,VB],ϯ6,λ _=>ê,BW,(n+1),ÏG,toList_insertAt,ïM,λ k=>hashes.toList.getD k 0,ïN,(Q3 ũ).toArray.toList.map,ϯ7,unsupported,UE,xs1.map,ϯ8,Up Px i xs,ÏH,Heap->Ÿ9->Prop,ϯ9,Gc _ (YS),ïP,Builtin.List.listLengthHint,uT,LQ.Ų1,ϰ0,uT hi hl,ïQ,È #[_,_,h1,h2,âb],ϰ1,SQ h ς1,ïR,rP [Ii,Â 0 0].toArray,Η1,e4.extBut,ϰ2,(ni ds Ϟ),Qj,x.toNat,ÏK,L2.RelV t u,ïT,(fin _ oe a0 g0 λ a ha=>?_),ïU,PySem.F.attrBase_ValueError,ÏL,(ř7 e C va),μ1,W v s',ïV,∀ v s',Č1 X Q v s'->μ1,ÏM,#[hE,h2,h3],ÏN,(Ă U7 AR x8),ÏO,#[C,dx,hE2],rV,Â _,ïW,#[rV,H,pK,ξ,q],ïX,PySem.F.slot_str_startswith,ïY,PySem.F.type_str_startswith,ïZ,(lq kM to (lr (dC DJ) jt)),Ut,L[j]?,ÏP,Ut=↑↑ qQ,ÏQ,(putK vs ò4 t),ða,ű (ć "self" sp) "kept" ap,ÏR,(.bl (O3 v u)),ðb,(KS λ q=>(q.1,zK R q.2)),ÏS,(ze zp u7 rD),ðc,(zc (cI 9) (zc (cI 10) zf)),ÏT,λ s=>Í (s.p=p),ÏU,gu f g ß1 fc Y,OO,a::b::l,YH,(Sd),ðd,(ŷ9 (zj hb rfl) (ϗ1 1 99)),Η4,Ħ " " ps,ðe,by rw[NE,NE,IR];rfl,ðf,(w.cps.toList.map _).length,ÏX,(yn (zy Ö ht)),ÏY,(p.foldl jr []),ÏZ,(zL rfl (î8 F)),ϱ1,(zL π4),ðg,b.Pairwise (λ x y=>m x<m y),II,_ x hx,T9,hm II,Ða,((àe).map ĕ),Ðb,(NX).getD IE,Bp,1<=Mx,LU,xG y=Á,ϱ3,L "floor",ði,Ċ9 (æ2 (zL Rl hX) rfl) rfl,Ðc,Î [MU,Hi],Ðd,∀ p∈ps,asc p,ϱ4,(ϓ6:Int),AW,∀{x:V},0,ĸ5,∀{C:Addr},0,ðj,∀{σ':St}Wc{s':θ}{oC:Obj},0,ĸ6,∀(ds:Az),0,ϱ6,∀{f:wx}{r:R2},0,Ðe,_ (DX e2 x q1) q2,U1,∀(hf:oS f),0,ö2,∀(t:yK),0,ðk,by simp![bne_self_eq_false,iS,Ĉ5],uN,∀(r:é),0,ĸ7,∀(tp:Lc),0,ř9,∀(h:i<Il),0,Ś0,∀(ľ:áS),0,ĸ8,∀{tk:Tok},0,ðl,_ äy (Ă (ć "zip" p) qW sy),ðm,by repeat (first | ext qY | ext Ée | wp_step),ðn,by let#[Åz,hN',hn']:=hE.par.at G3,Ðg,∀(hg:Gl X x:=by rfl),0,ðo,∀{y z:Str}{j1 j2:Nat}{p1 p2:Pos},0,Ś1,∀{tab:IG},0,RD,∀{f g:sZ},0,Ś2,∀(g t:Int),0,ðq,_ JL [↑ Nb,↑ Ki,v,w],ϱ7,(show ty=_ from hx),ðt,[_,by rename_i e;cases h;let#[xs,g1,_]:=p À e],ðu,by have:=(χ e1).1;ext Ln,ðw,[_,by rcases hb with e | e | e | e | e <;> subst e],Ðj,if j>i then j else i,ðx,(B_ [ű o f pos'] Fg pos),Jk,T->Bool,Ðk,.list_bool _ RC,ðy,["word","signs","most"],ðz,(yn (zJ Ž9 rfl Êz)).trans,Ðm,(p.foldl kY nj),WG,∀{h':Heap},0,ðA,by exact Đa;let#[u,hr,h4]:=z0;ext ďM,ðB,∀(hi:j8 b it ti) (hg:Γ5 bP tg),0,Ś4,∀{ľ:áS},0,ðC,by rw[hf'];simp![zB2,zg3,iS,Ĉ5],ðD,by rw[Heap.get?_push_ne Ð hbs] at q;show q,Η8,by have e:b=it:=NB,Ðo,[_,by rcases ķ h with rfl | h],Ðp,if j<i then j else i,Η9,tM->Bool,ðE,Calls.Name_function_global,ĉJ,λ iv s2 z0=>?_,ðF,zF (hi tP) ĉJ,ðH,Int.fdiv_eq_ediv_of_nonneg,ðI,(λ x y H Q=>r qu\/r' qu),ðJ,Un (xY ġ) [] H H' ð GN,ðK,Builtin.Slice.sliceApplied,ðL,Str.ofString "__getitem__",ðM,(YF (Vg)).take (ÇB-Vg),ðN,Ãq->∃ c,äs y.1=↑c,ðO,λ _ s'=>SP Fy Q .next s',ðP,#[ϕ,QA,sH,ϕ],ðQ,by simp[atKey,iN,e'],ðT,iJ Ŭ e (λ ts z=>hn ts z),ðU,ż I=↑(i_ a slot i n ep),ðV,Į (cond k "tuple" "list"),ðW,Builtin.Tuple.tupleTooMany,Mj,É hc,ðX,yx ((Mj).symm.trans ef),ðY,Builtin.List.listFitsIndex,ÚM,[(f,v)],ðZ,(upd H dx (.xd ÚM)),ña,(Ă Ot [e,Zf] sy),ñb,λ f cdv A ġ s H E hr=>?_,ñc,(upd H l (Å (ϛ1 Am))),ñd,(Gh i [tR] [ć x p] pos),ñf,(ze zC (ze vn Ij Cb) Ď),ñg,(ze ť9 (ze Ų9 u7 bc) Ď),ñh,["self","word","form"],ñi,(vR s.pu (tF-s.gv) (ãx)),ñj,PyProof.Rows.len_join_cons,Vj,s.2.1,S9,s.2.2,ñk,(s.1++[p],Vj,S9),ξ0,Ŕ8 F m,ñl,Ů8 [OW]=↑(Ĥ2 (ξ0)),ñn,#[(),(),⋯,?_,?_],ño,by unfold nr;rw[As,zgA],ñq,∀(zt:yT η H' h') (hg:Ãb g'),0,Ś5,_ hN hi hx,ñr,∀(ha:PA X [a] ta) (hs:ÇA:=by rfl),0,ϲ0,by let#[t,rfl]:=r1,Ðq,by let#[go,yl]:=g1 _ hd,ϲ1,by rename_i hb;ext Þ,Ðr,by let#[ts,h,e]:=ĉ1 e,Θ0,_ S' Z' L',Ðs,by let#[ts,e1,e2]:=ŗ,ñs,by rw[g2];rw[g1] at hq,ñt,by ext äc;let#[m,t,rfl]:=hall v BT,ñu,by rw[Fa] at hg;let#[e,e1,e2]:=sj hg,V5,_ its rows,ñv,_ F.slot_tuple_rmul.lookup ur,ñw,by let#[ks,ts,x,h1,h2,e]:=ì6 e,ñx,_ áp (zm (js mx) (zc tG NN)),ñy,(Ó HQ (show nB "str" "str"=true by decide)),ñz,if WH then ↑ ÞQ else none,ñA,by ext e9;ext æK;have hl:=LB;rw[AS] at hl,Ðt,[_,by cases h1.str;cases h2.str],ñB,ι x=↑{ o with dict:=↑ Ĩ },ñC,yx ((É hl).symm.trans e2),ÛO,(YG:Int),ñD,ÛO*s.gv=k*s.gv+s.gv,ϲ2,by unfold aM;ext Qv,ñE,by exact AC (ziT ho hd X.fits ?_);ext Þ,Ðu,by have:i=j:=⋯;ext Η;show Ej,ñF,if WH then ↑(Î ϣ2) else none,ñG,[_,λ v z=>by rw[d1] at z;cases z],tV,l true,ϲ3,[_,by rcases q with q | q],ñH,by .subst q;unfold km;ext Þ;rw[h1,h3];show key,ñI,by have hsz:(Rr).size=ò:=by rw[zgN,hlen],Θ1,H Õ=none,Ðv,∀(_:Ď1 ų N'=true),0,ϲ4,[_,by rw[e] at e';cases e'],ñJ,[_,by rcases e2 x d hx with q | ⟨q1,q2⟩],ÃV,(IO q),ñK,by rw[zR (FS (KE ÃV hp))];show n,ñM,[_,by let#[a,xs,rfl,g1,_]:=r;cases h],Ðw,[_,by rcases ķ hr with e | e],CB,p Fu,EY,p Gj,ñN,Nat.sub_lt_left_of_lt_add,Ðx,σ[i]?=↑↑v,Ðy,(ϝ6 Ie n hx),Ðz,wpAny_Expr_any,ÐB,(Åp).objs.size,ñO,(Ya<=i/\i<2 ^ 62/\Êj),ñP,FU<=â/\k=((FU:Int) != 0),ñQ,es.toList.any (·.refKey),ñR,(λ v H2=>v=.zB/\Q rh H2),Ýc,sc.names,ñS,∀ y∈ Ýc,y.2≠ Cp,ñT,No (x.above y c (O5 h)),ñU,t { nx:=Ëk,rt:=Q } VV H,ñV,λ r s'=>r=w/\EP Č Q r s',ÐF,#[_,e,rfl],ÐH,s'.heap.get? C,ÐI,s'.heap.Ns C m,ÐJ,tH ø9 áV=dH,ñX,∀ D σ H,t' D ç->t D ç,ñY,λ _ _ _ h=>Ŕ0 hr hf è3 h,ñZ,#[k,q1,ĎA],ÐK,(AX).toArray,òa,List.rel_of_pairwise_cons,ÐL,PySem.W.kitOne,òb,(by change xH+1+_<_;lia),ÐM,.none_tuple RC,ÐN,.int_tuple PC,ÐO,.str_tuple PC,ÐP,.tuple_none RC,ÐQ,.tuple_int PC,ÐR,.tuple_str PC,Čb,λ u s2 z0=>?_,òc,zF (ho tP) Čb,òd,BN cpos (FI [e,f] Ù),òe,#[us,ws,h1,h2,h3],òf,#[tp,k,rfl,rfl,e],òg,∀ e,e<=M->e∈Ŵ0 M EB 0,ÐS,Lay M hs ľ m,Vo,slot',ÐT,#[_,yy,?_],ÐU,nG Ò k1 a1 xs,ÐV,nG Ò k2 a2 ys,Θ5,_ El OV,ÐW,Ģ Θ5 UU,ς2,_ Ëc į,òi,(ĵ ō ε).foldl ς2,òj,Builtin.«tuple.__mul__»,òk,wpAny_binaryOp_repeat_ref,òl,(λ s'=>ØG s' k t),òm,Bind.checkArgs sa sig åH,ÐX,h.UpToSlots h',Ñb,xE yQ áK H' E,Ñd,(.bl (IW Ñ)),òn,(Ă (ű o "keep" ap) DY),Ñe,List (Str×wt),òo,Classical.byContradiction,òq,(Ŭ0 4 (retS (zm cU ϛ2))),QU,LQ.Ê4,òr,á hA (h.2.2.1 _ QU z),Ñh,uM x y 0 ϑ n,Ñi,(gA A B Ñ bd),Ñj,0<=p.1/\0<=p.2,Ñk,λ i=>Í (i=ü),Ñl,(ì (Å rows)),Ñm,(s.2.1.map nv),Ñn,(s.2.2.map nv),òs,∀ k,k<=m->∀ b∈ Ks,AM,Đ7,(ω7),Ño,(KS Ě).Nodup,Ñp,IW r "floor ",òt,by unfold bad;rw[c];rfl,Ñq,[r1,r2,r3],òu,by let#[_,o,ho,_]:=I.ok.lj.mem hb,ι7,rv.get,òv,by let#[u,hu,ru]:=ι7 hx;ext υ7,òw,by let#[mA,O,r,_,_,_]:=dY uU,WX,∀{sp:Sp},0,òx,∀ WX{dvs:À0}{ds:zLV}{E:XK},0,ϲ5,_ ό1 _ I2 q2,òz,by let#[oC,es,ep,ho,hr]:=id hn',EJ,_ X e t',òA,_ ó (λ x S1 z=>mO.mo hq z) h,òB,_ Mt (λ d S' z=>z.ext e1) h1,Θ4,∀{to te:zr},0,ğ2,∀{tc:xI},0,Mo,∀(hs:ßZ),0,òC,_ (LQ.Û4 h.2) (LQ.č9 h.2 h.1),Ñs,∀{P:PySem.Fin->ϴ},0,ğ5,∀(j:Nat),0,Ñt,_ A s ū (à l'),Ñu,_ h3 (hq c Gz h4),xg,∀{is:Ś},0,Ñv,_ ĥ h' a xs' led,Θ6,∀{led:Bool},0,òD,_ F.slot_tuple_mul.lookup ur,Ny,∀{k:Int},0,òE,_ FB.ga.plain F.entry_bexc_ga,Ñw,∀{yf:ł}{T:Addr},0,Ĺ4,_ fs [] H,Ñx,_ I.zt (ö7 I),ϲ7,_ I1.bare Çk,Qd,∀{g:zEO},0,ϲ8,_ Ŋ _ tk I h,OY,_ Br Èl,òF,_ M6 Er lo hw m (cur+1) _,Θ8,∀(told:M1),0,òG,∀(hv:v Y=↑z) (hf:f Y=↑ aw),0,ğ9,∀(p:Str),0,ϲ9,_ (zc f zf) Y,ÑA,_ Ê "say" 11 ū9,Đl,_ ω2 d18 d19,ÑB,_ ω2 d18 d19 d20,òH,zF hA λ us s2 z0=>(by ext æL;show äk),òI,by rintro⟨p,hp,h1⟩;have h2:=ϕ4 h1,ÑE,[_,by rcases ķ hm with q | q],ÑF,ϗ5 Ϟ none n,ÑG,[_,by cases b <;> rfl],ÑH,∀{elt iter tg:Expr},0,ÑI,∀{p:Nat}(hp:p<ě),0,ÃM,List.any_eq_true.mpr,òJ,by unfold jm;exact ÃM #[w,w1,?_],ÑJ,by rw[zR npq];show g2,òL,by have e:j=k:=⋯;subst e;by_cases hi:i=j,òM,if ό8 then ↑(Ϯ1) else none,òN,[_,by simp![gh] at h;cases h],òO,by let#[_,_,_,_,h]:=z0;show ë,òP,by rintro⟨v,hv,hg⟩;have:=hl v hv,òQ,Ϗ8/\∀ r,S r=none->Q äx,òR,by .intro r hr;let#[q,_,rfl]:=π hr;show Ģ8 q,ÑK,S0 a=none/\Z a,ÑL,(Ϣ1 Ϡ none),ϳ0,Nat.sub_le,òT,PySem.Within mA (Ac Ě),ϳ3,builtinsNs,ϳ4,zF LF LC,òU,E6 [v,ov] (eval i Ù),òV,release ĎC [],ϳ6,(Ō4 r Ġ),òX,(hc gV s3 σ H3 _ I3 q3),ϳ9,nk.some_of,ϴ0,SeqAt.EqAt,cZ,.of_wp,òY,slot_list_getitem.lookup,ϴ1,H p=↑ ñ4,ϴ2,(ϐ "len"),ϴ3,[_,by exists hk],ϴ4,λ _ _ h=>h,ÝE,sH À h,òZ,λ _ _ _ _ hE h=>ÝE,OS,List.mem_iff_getElem.mp,ϴ5,Paired.at',óa,zu Ò ((uD).map mV) Yq,ϴ6,ć "int" q,ób,.lists_lengths GH z' hA,óc,by simp[Kx,iN,e'],ϴ7,atKey xs k,ϴ8,Rd H a ī0,ód,#[y,H2,I2,ry,q2],Þf,e2.trans,óe,(DX (Þf e3) w q1),ϴ9,(oZ y).map,ϵ0,inR j=true,Ýu,I.keep S,óf,(∀ S,Sx S1 S->Ýu),WS,xR.sx,óg,(WS (oG (Cs)) h3).val,ϵ1,jN.mpr rfl,óh,if j=k then ↑d else xC tp j,ϵ2,acc.length,ÁP,acc++[y],ói,ups S6 D (Å (ÁP)),ϵ3,F.binds hb,ϵ4,Array.getD,ϵ5,kz M (Eg),ój,List.length_erase_of_mem,ók,AT #[rfl,rfl,rest'],ól,((es[i]?).map Ě).getD 0,ϵ6,(WJ).size,ϵ7,LQ.Ŗ0 hfew,UN,YF p,ϵ8,Ub++UN,ÑM,t1.tooFull,Ϸ0,setsByText,óm,Builtin.List.listSameRef,Ϸ1,Ŀ7.mpr rfl,Ϸ2,isInstance,ón,Ãf (t':=Äa) up,čf,zu.cut g2 Ϟ,óo,FO Ι _ (čf),Ϸ3,ć "str" q,Ϸ4,k<=1000000,óp,#[h',g,d,tk',os],Ϸ5,ż e=↑oe,ÑN,λ f=>Ck f,Lu,f∈ļ4,Ϸ7,(Sr.sn r2),óq,(đ C::Wv).contains sY,Ϸ8,(Ir::xs),ÑO,(lr te jt),Ϸ9,x.cps.size,K6,(Æ k),ós,(ύ0).xN.env.scope=Ν3 st,ϸ1,(retS Gx),ót,(yk 0 (ze Eh (cI 624))),K2,(zP 4),ϸ3,λ c hc=>?_,óu,List.eq_of_mem_replicate,óv,[_,λ x y=>by cases s.pu <;> rfl],ów,ņ5 hg (ņ1 hs' 20 hq FL),ϸ4,rs.map fst,Rv,mixed,ϸ5,Rv ns k,óx,((qK p " ").drop 1).map,ϸ6,s.1.map ø,RS,(lF b),Ďg,Î (o.map zW),óy,[Î ϣ4,Ďg],ÑQ,L "floor ",ϸ8,(oY Ö ?_),Ãj,getAttr,óA,_ í (Ãj rh name expr),ÑR,[_,by rcases ķ h with e | e],OM,∀(t:TA),0,óB,∀(sp:Sp) (dvs:À0) Ģ2 OM,0,ϸ9,∀(hu:xH<Ε),0,óC,by let#[SD,ho,hc,n,hd]:=id ht,Ι1,by rw[GT,<- hl],ÄG,∀(hfp:bB),0,óD,∀(T:ύ4) (t0:tn 0 ð) ÄG,0,óE,_ _ H1 ((DA).set i q1) G8,óF,by have:a=b:=LQ.ê8 a1 b1 a2 b2;ext Η,óG,_ Hy PyProof.Rows.boot_list,xt,∀{Q:DK},0,ā8,∀(R:Rk),0,ÑS,by let#[ds,h1,h2]:=h,Ϲ0,∀(hc:oQ c tc),0,óH,by let#[d,d',rfl,h1,h2]:=ŕ0 r1,óI,by rw[Éd];exact AC (NO hT hdT h3 ?_),óJ,_ (ch:=[]) os un zt bare Çk,óL,by rw[ť1] at e;let#[F,e1,rfl]:=Ol,óM,by rw[GE,GE,wg,wg y] at this;lia,C0,∀(s:Rd),0,óN,show Ĭ (HD) 0=↑c by ext Y5;simp,Ϲ1,[_,by exists he],Ϲ2,EW y=true,Ϲ3,(Ū6).size,óO,DG "str" f Y=↑(.bl c),Bu,[_,by cases this],óP,[_,by rcases q1 with q1 | ⟨a,q1,q3⟩],óQ,by rw[<- Ps,hes',AS,XQ,hlen],óR,by have:=(T9).2.2;have:=(hm y hy).2.2,óS,λ zs hz=>by rw[hz.inj I g1];show hx,Ι2,by simp at e;subst e,óT,[_,by cases e2;change Q äN S1;rw[h2.empty]],óU,by have:ÇS=ō*ò:=∅;rw[this,zgQ],ÑU,Nat.add_assoc,ÑV,(f8 1 x▸h),rL,IsTup,Ι4,List β,Ι5,I.ok.mod,Ι6,Q HY s',MM,I.len,ÑX,[_,by exists MM],óV,V->V->V->Hp->(rM)->Prop,óW,(B_ [ć x pos'] e pos),óX,Builtin.Range.rangeSize,óY,(.For tg iter body sy),Òa,λ i j=>Â qk,Ι9,i.natAbs,Κ0,Â (i+j),ο7,_ f y fs,óZ,(.ins C dx (md ο7)),ôa,(if g=f then ↑u else mA g),ôb,#[[],H,I,ä,h],Ϲ4,(us++ds),ôc,ŕ7 F hr hb hd hx I1 r q,Òc,tupleItemsOf_,Òd,subscriptTail,Κ5,ţ2 JJ H,Òf,PySem.W.WalkO,Òg,comprehension,ôd,KB (ho'.symm.trans ho),ôe,[a,b,c,d,e,f],Òh,gH uH bm N,Κ7,Sx S1 S2,Òi,L[i]?=↑↑d,Κ8,zG X a t,Wd,mH tA,VC,mX lo n,Òj,λ x H3 hy=>?_,ôf,∀ ds S Q,sp Dm->t wB,Òk,(x1.ģ5 g1).sq,Òm,(LQ.Ġ3 h2 a3),ôg,ϒ->s6.heap.get? b=↑o,Òn,wpAny_newList,ôh,PyProof.Rows.boot_tuple,Κ9,(ÈT mV),Ϲ5,oH ts ts,Λ0,oH ts us,ôj,eqT ϗ6 (us.getD j .zB),Òp,xH+dep u<Ε,Òq,.none_list RC,Òr,.bool_bool À,Òs,.int_list PC,Òt,.str_list PC,Òu,.list_none RC,Òv,.list_int PC,Òw,.list_str PC,Òx,Bool.and_true,VQ,oV Io,Òy,Bool.false_or,Λ1,dd.mapOf,Òz,(putK tp qA),ôk,by simpa [vB,h] using h1,ÒA,∀ ts,y≠ Δ,ôl,∀ d S',sv->OE->Q ύ,ÒB,∀ ts,e≠ ő,Λ3,(oG s2),pk,Y[j]?,YB,D.ref a,Λ4,p.2<=q.2,ÒD,(x.1,u.2-1),AH,LQ.n7,ôm,FO Ι _ (g2.append g4),eX,(· < ·),Λ5,below_at,U3,perturb,Λ6,Nat->Nat,ÒE,yN M h (13+n),ÒF,(way M h q).j,Tz,L.below,ÒH,hashes.toList,ÒI,SetTable.fits,ÒJ,AC (zj9 A2),ôo,Q none { s with heap:=h' },ôp,λ l hl=>hq À (h4 l hl),Λ9,Mu hf _,Ϲ7,(·<=·),ÒL,pairsOf (YA),Μ0,hq À h3,T5,Builtin,ôq,F.slot_int_index.lookup,ôr,List.length_pos_iff.mpr,R3,OsState,ôs,(call Ml (uG::rest)),ôt,#[h,g,d,t+1,os],ôu,Ä M A (Ϣ1 Ϡ fr) ï,ôv,λ h2 y1 y2 y3 y4 y5=>?_,ôw,Wq (Ć8 x q eM ct) ę1,ôx,(a2.trans xT),ôz,Builtin.«tuple.index»,ôA,Builtin.«list.extend»,ôB,funext λ a=>nP (λ z=>z),ôC,Ér ("self":Str)=↑ uI,ôD,λ k=>Í (k=y),ôE,(ĵ k xs).foldl Ëc acc,ôF,(υ0).xN.env.scope=Ν3 st,ÒO,(cS (Ã ">")),Ϻ0,(İ3 ϔ5),SN,p::q::r,Μ1,Gd.least,R0,nS Ñ r,ÞB,Da _ hd,ôG,λ d hd=>hb d (ÞB),Χ3,Gd.nil,ôH,Ź7 À Χ3 (μ5 Ϙ p),ÒQ,kf last (Hm),T7,fo.getD,ôI,(Ŕ5 F p).all (fG Ϙ q),ôJ,List.getElem?_cons_zero,ÒR,[rj,Ã l],Μ2,(TD hl),ÒS,(λ i=>È TX),Μ3,f Y=↑x,ôL,ßh<=n/\n<=1000000,ÒT,ps.foldl vt s,Μ5,(Õ0:Str),ôM,(List.mem_map_of_mem h),ÒV,(F.os.map kt),ÒW,(St.start ok),ÒX,(q::b).map Ŧ8,ÒY,∀ w∈ws,Ìa,ÒZ,(A6 KW pD),Μ6,(ì KU),Yd,(E x y),T3,(y8 s1),ôN,gF f (MX,"number"),ôO,[(["_law_sign"],Br)],øM,_ vl vu Ϟ sl Q I rx ϩ6,ôQ,_ v øM,Đr,_ øM q,Óc,∀(hn:l.most=↑n),0,Óe,∀(lt:Bj) (p:Ö7),0,ôR,_ ⋯ λ a b a1 a2 b1 b2=>?_,ôS,_ (LQ.ő3 b1) (LQ.Ŝ4 b2 hb'),Ϻ3,by rw[n1] at h;rw[n2],θ2,s.none,Óf,_ a z (θ2 q),Dr,by rename_i hl,ôT,by ext MF;let#[y',e4,e3]:=ϟ e2,ôU,by let#[tp,k,h,rfl,e4]:=Ň2 e3,ôV,by let#[es,ep,t,St,e]:=id hSO,ôW,_ (Î7 hr) lM.fits lM.mo ZX,ÂU,_ k it l i,ôX,∀(hit:SI ð ÂU) (hl:Ϣ0),0,ο9,_ l Ũ n,Óh,_ t ο9 dd sl,ôZ,by ext ÈS;let#[y,hy,rfl]:=jB,õa,∀(b o:ı) (hl:é5+o.length<64),0,Ók,by rw[AS];show hl,õb,by simpa [oV,h] using h2,Μ7,[_,by cases e],õc,if WH then ↑ ÅZ else none,Ól,by simp[hsz],õd,λ l hl=>hq À (h2 l hl),õe,[_,by rcases I.ok.eT with e | ⟨e,hf⟩],õf,[_,_ ⋯ (by rw[hj];exists ew)],õg,by have hmt:(OG).1.mask=ś:=by rw[p2],õh,∃ t,u=Value.bytes b t,õi,∃ t,u=Value.float b t,õj,∀ x:Str,ÌG->mb x=Mf,õk,λ z=>(hch _ z).2.1 rfl,õl,(zF LF λ c s1 z0=>?_),õm,∀ b∈fp,mI Fy H' b,õo,(∀ v,(x,v)∉binds),õp,λ w hw=>h w (Da _ hw),õq,PySem.W.cellsFrom_some,õr,(List.take_sublist À),õs,λ b o e=>(e0.bs Ie).1,õt,subscriptTail_builtinR,õu,àn=↑ Ì1\/ àn=↑ Cp,õv,λ r=>ud n r/\lu lt r n,õw,∃ a,d=œ/\S a=↑ Dc,õx,List.range_succ_eq_map,vH,hashAt,õy,EU t vH h f (X7),õz,List.length_pos_of_mem,õB,AT #[rfl,rfl,æn],ÃS,hm.heap,õC,(D.keep ÃS hU hS),õD,Ä í (QH az) ï,õE,FO Ι _ (zu.rep g2 _),õF,(Heap.get?_push_at Ö),õG,#[h,g,d,t',os],õH,#[L,S,r1,r2,z],õI,É (by rw[he];decide),õJ,λ gV s σ H D I hu=>?_,õK,E6 [ov] (Α3 ov m pl),õL,IP=s1::s2::s3::rest,õM,Nat.le_of_succ_le_succ,ν1,ChainG,õN,ν1 Zs a cuts f,õO,ŷ0 [Hi,Ã s,Â m],õQ,qt [Â Îu,mK wi.1],õS,oY Ö (ÊQ (by rw[ĵ7])),õT,ĺ3 Ń5 hH Jl ho e,õU,(ĸ0 hn.na hn.aa hn.la),õV,(ĸ0 hn.nb hn.ab hn.lb),õX,by let#[oL,_,_,hoL,_]:=id hn,Rw,∀(D:Ends),0,ŝ2,∀(lo:Int),0,õY,by ext TQ;let#[xs,x,hq,hx]:=hg,wj,∀{a:Expr},0,õZ,by let#[os,hos,hcs,hds]:=id hs,Ug,∀(hi:àJ),0,öa,by subst r;let#[xs,h1,h2]:=p À q,öb,_ (LQ.ő3 a1) (LQ.Ŝ4 a2 ha),Ϻ4,_ Hy Ek hs,Xv,∀(hf:çA),0,öc,∀ ł2{h:Dw}{t:v7}{u:nF},0,ŝ7,∀(Sc:ÅR),0,Óo,by rw[T.live p1];ext Þ,öd,by intro i s xs hk hi hst hS hT hU hR,öe,_ rfl hr sb (Gg À) S' hx,öf,_ P w K (Vb es kk pos),Nv,_ is c b,SH,∀{e:Addr},0,ŝ9,∀(z_:A5),0,Ş0,∀(uQ:Ś),0,ög,∀(hs1:1<=span) (hs2:span<=12),0,öh,by rw[Ę5];simp![wh,By,Ν];lia,öi,by rw[NE,List.find?_nil,vY,h],Óq,by unfold kQ;rw[IN];rfl,öj,_ (ts:=[_,_,_,_]) Ö,TL,∀(h:0<=n),0,ök,(λ b o hb q=>by rw[kD hb];show q),öl,by simpa [xC,e] using g1,Ϻ7,H T=none,Ż,[_,by .cases e2],öm,_ _ A (if sG=true then _ else _),öo,by simp[oV,iN,e],öp,_ ó (λ _ _ q=>sH À q) z,öq,[_,by rcases zg7 c (a+Bn) with z | z | z],ör,(show X.A.in1.handled=none from T6),ös,by simpa [vB,e] using g2,öt,[_,by cases (Ç hl).symm.trans e2;ext ÆE],öu,i<k->lt uX (qm)=true,öv,by unfold Ϟ0;rw[p3.gq,p3.len];simp,öw,by have hlt:(OG).1.led=led:=by rw[p2];show hled,öx,if n<=12 then ↑n else none,öy,[_,by let#[_,h,_]:=h;rw[h] at e;cases e],öA,by change ϣ3 _=o;rw[e];show e',öB,[_,by rw[eqi j hj q,hr] at hrj;cases hrj],öC,by change ϣ3 _=_;rw[h];show h',öD,_ ↑(Ă (ć c p) Ko) none,öE,[_,by .rintro⟨e,he,_⟩;cases he],Ós,show ZY=1 by decide,HA,q Fu,JX,q Gj,Óu,Nat.le_total,öF,Nat.lt_of_add_left_lt,öG,((min D_ x:Nat):Int),Óv,Int.le_min.2,Ów,Int.add_comm,Óx,Nat.succ_pos,Ϻ8,Paired.Uj,öH,λ _ ps q=>#[į,Ês],öI,X.s₀.heap.FunFrames,Ϻ9,ż a=↑o,öJ,Æ #[k,c,e,ãD],öK,wpAny_isTrue_Compare1,qe,v=œ,ÓA,#[H,I,q],ϻ1,md f v fs,öM,Mb Gw m=↑↑ FA,ÓB,(ű e f pos),ÓC,Around.under,ÓD,Code.isFrame,øA,_ ġ P w H s Q,öN,Ũ3 øA u s',ϻ2,λ _=>true,öO,b∈([]:Ξ),ϻ3,hi.length,ϻ4,ms.length,Vq,vs.zip,öP,((ym n n hi:Nat):Int),ϻ5,eq_of_beq,ϻ6,r1.length,ÓE,seqIndex_neg,ÓF,yd xs i=↑v,ÓG,its'.toArray,ÓH,h'.objs.size,öQ,G2+its2.toArray.size,öR,by rw[GT,GT];lia,ÓI,s₁.heap.Ns,ÓJ,.FunctionDef,FF,names,öS,pick.length=N'.length,Àa,Ext H1 H2,Àb,jz Ò a o,PQ,PT.imp,ÓK,x9.mo hf è3,Àc,Q (AA) S,Àd,((l+r)/2),ÓL,(ċ xk).map,FP,r.map,öT,(λ b o e=>k b o id e),öU,(Ă (ć "len" p) DY),öV,PyProof.Rows.boot_int,öW,qM o "append" Ea=tN,ÓM,.none_bool _,ÓN,.none_int À,ÓO,.none_str À,ÓP,.bool_none _,ÓQ,.bool_int Ð,ÓR,.bool_str Ð,ÓS,.int_none À,ÓT,.int_bool Ð,ÓU,.int_int ĉ,ÓV,.int_str ĉ,ÓW,.str_none À,ÓX,.str_bool Ð,ÓY,.str_int ĉ,ÓZ,.str_str ĉ,Àe,dep u<=60,Àg,(yj S Z'),Ài,dep x<=60,öZ,(ts.any λ t=>eqT t x),Ôa,Vw.tup r1,Àj,r1.len,Àk,λ a z=>?_,Ôb,λ i ts e=>?_,Na,sj e2,uh,p::ps,aO,Å UM,Àl,(lo+hi)/2,Ôc,Ż4 M Av Iy,øa,((ϩ3 j ↑0).isNone),øb,List.getElem?_toArray,Qn,hperm,øc,(hperm.mem_iff.mp he),Ôe,t1.fill=ò+1,Ht,(Α2 w),ød,by change 0*5<7*3;lia,Ôg,pickOrder.go,JK,HG<64,øe,(∀ r∈rows,r∈ uD),Ôh,EF=Θ (ω3),Ôi,pairsOf_size,Ôj,λ v H' q=>?_,Rg,Ç hc,øf,(Rg).symm.trans ef,øg,((į:zAV)++A0).toList,Àn,FI [] Ù,Ào,EZ us ms,øh,PyProof.Rows.boot_str,Ôk,nG Ò k Ô7,øi,F.slot_enumerate_next,øj,qM o "extend" Ea=tN,øk,by rw[Of,AZ,zg4],øl,wpAny_mroOf_exc hC ?_,Ôl,hnf vs hd,øn,∀ b o,ϒ->(ϋ4)->IA,øo,s.heap.cJ cR fl yf T,øp,AC (NO g0 Lz ?_),Ôm,ζ1 Č fl Q W,øq,.ClassDef Ð b ĉ Ð,Ôo,(lq f to tA),Ôq,UA<=1000000,ør,PySem.W.methodCall_KW,Ôr,.yf (vx tab),Ôs,(ze IV Ij),Àt,["stall"],Àu,Ã "text",Àv,(Ħ y ps),Ôt,List.any_nil,Ôu,ze f ß1 Y=r,Ày,pG.top he,uE,keeps,Àz,(zc g zf),Ôv,(hmem r).mpr,Ôx,("b":Str) == w,ÀA,zM ?_ rfl,AE,num a,Qt,num c,CS,num d,Ôy,l_ h0 df ha,Ôz,(zj rfl Rl),øt,(Ĭ (L w) 0).map _=_,øu,zS Á (rV) (rV)=_,øv,(oK (y:=zW x) Ö hq1),Μ9,rk t y,ÀC,im (Â x),ÀE,(rT last),ÀF,Py::more,TN,(NX),ÔA,vW F TN p,ÀG,(.im row),ÔB,ps.drop i,øw,zb 3 (E ↑(.im KU)),ÀJ,.zE ks fs,øx,(ì (.zE [Æ a] [f])),øy,(ü3 Åf look Dj),Ν0,∀{κ:Type},0,Ļ4,∀(es:Bl),0,Ļ5,∀(Q:fO),0,ÔD,_ [a] pos,ÀK,∀(ho:PE pL),0,ÔE,_ i (j-i).toNat,ÔF,_ _ s6 XV H6 _,ÔG,_ i j t t' s À,øz,_ í (setAttr rh name v),Ν1,_ Ò a Dx,ÔH,∀{K:Params->zFr},0,ÀL,_ H Õ KD,Mn,∀{l:ŵ},0,Ļ7,∀{c:Str},0,ÀM,∀{ds es:Az},0,đ5,∀(t:xI),0,ÔK,_ _ H (hg À H),ÔL,_ (vj K tA) ź,ÔM,_ X st (Û6 ä3),øB,by let#[a,xs,rfl,g1,g2]:=q1,øC,_ I.yV #[o,h1,h2] ÆL,øD,_ lN.mo (lN.fits ÅH) ĝ,ÔN,by ext Þ;rw[e],sr,∀{t:T},0,Ļ9,∀(h:ϓ),0,ÔO,∀(tp:Kw) (k:κ),0,Ν2,∀(hs:ū8 i),0,ÔP,_ (k:=VW k) g1,Ν4,∀(f g:zEO),0,đ6,∀(g:Ϗ),0,ÔQ,∀(S0:SS) (Z0:An),0,Ν5,_ Ţ y jL,HB,∀(g:υ2),0,ÀN,∀(h:l4 g tA),0,ÔR,∀(h:T->õ (G9)),0,đ8,∀(p:š),0,ÔS,∀(k j:Key) (d:T),0,øE,[_,by rename_i c;rcases ķ hp with e | e],øF,_ pick (nX K ti) (ų1 K g),Ν6,_ Ê x às,ÀO,∀(hr:k_ YE),0,ļ0,∀(t:UP),0,ļ1,∀{M:Nat},0,øG,_ D ?_ (ϕ) hn Tg 0 Đe,ÔT,∀{pos p pos':Pos},0,Ν7,∀(t:õ zr),0,øH,_ hF (ÈG hS (hin _)) hfr,Kr,∀{Q:O_},0,Ş9,_ hst hfr,n0,∀(ss:Û),0,øI,by let#[x,rfl,r]:=h0.one;subst r,Hz,by rw[this],TB,by ext Hz;rfl,øJ,by unfold eF ĸ9;simp[hc,ħ8,ĝ0],N0,∀(os:ö),0,øN,by .let#[w',z]:=Oo y c e;show#[w',ãD],øO,(Ði).findIdx? Ě=none,ÀS,(ng true),ÔV,its[j]?=↑v,øP,h4 r ((hmem r).mp hr),øQ,[_,by intro xs n h;ext ÌC;exists zu.nil],øR,[_,by rcases two (m/327680) with h2 | h2],Ξ1,∀{a b:Str},0,øS,∀{a0 a1 a2:W}{d:Lc}{S:ö},0,øU,(by rw[hk];show#[_,I',q]),øV,∀ a,Z0 a->S0 a≠none,ÔY,kH p=true,θ5,h3.len,øW,by rw[θ5,g4.len];show hl,øX,by have e:=ϗ;simp![Ps] at e;show LQ.Į8 e hz,ÀV,H dx=none,øY,by .exact Æ #[h2,?_];rw[Ĉ3 h1];show âb,øZ,X.mg "enumerate"=none,ùa,by subst z;rw[r] at mu;show mu,ùb,λ a H2=>E ĳ none H2,ùc,Nat.add_lt_add_right,ùd,Nat.div_lt_of_lt_mul,ùe,Nat.add_le_add_right,ùf,Int.lt_add_one_of_le,ùg,Nat.sub_le_sub_right,ùh,λ i x v e1 e2 e3=>?_,ùi,Inv (X.jb E) gV ç s,ùj,qM e f Ù (K7)=K7,ùk,#[[Ii,Oa],[]],ùl,ň ([]:zLV).toArray,ùm,(Š2 pick wi g tc te),ùn,esc.names.lookup y.1,ùo,List.getElem_toArray,ùp,(Gh a [.NotEq] DM),ùq,λ c S' s r=>hq c çb,ùr,h.dj j k us vs q Îy,ùs,List.mem_erase_of_ne,ùt,List.mem_of_mem_take,ùu,Q r { s with heap:=h' },ùv,ϝ8 l its\/Ű9 l its,ùw,(i_ a slot i Ŏ ep),ο8,_ ∅ ?_,ùx,AC (Tl M0 ο8),ùy,fq (Ş8 Hy r hd) Wi,ùA,(h _ Ĕ Ö3 (sz its)),ùC,unbindBehindTheSuite,ùD,fly.resolve_left ËH,ùE,qM o "index" Ea=tN,ùF,#[h1,h2,h3,h4],ùG,(Ã (Txt.join a ss)),ùI,(m == ("kept":Str))=Á,ùJ,À2 x=true/\gh y=true,ùK,Int.sub_nonpos_of_le,ùL,(∀ c∈bs,ÞD),ùM,gA bA w.a w.b (bt),ùN,ϗ=ě/\∀ b∈r,AM,ùO,q.1+w.a<0\/q.2+w.b<0,ùP,zM (xD (yE âp)) rfl,ùQ,dep (Â (t:Int))<=60,ùS,(by simp[Id,hk]),ÀW,by by_cases hb:b=a,ùT,by let#[y,H2,I2,r2,q2]:=z0,ùU,by let#[y,H1,I1,r1,q1]:=z0,ùV,[_,by ext qy;let#[rfl,q]:=h;cases ry],ùX,_ l.prog w (iI) mg base,π0,∀(S:ÅR),0,ùY,∀{RR:Ø->Addr->æS} π0,0,ùZ,by let#[a,xs,rfl,r1,r2]:=r,úa,∀(h:xA X p t) (h':xA X q u),0,úb,_ Hy PySem.boot_len pz,úc,_ îB ä Ζ6 Ek hdb BK,úd,by let#[a,xs,rfl,g1,g2]:=r,úe,by let#[its,w1,pl,_]:=HK g1,úf,by let#[its,w1,pt,_]:=Ê8 g1,Ξ2,by rw[As,As],úg,_ dd λ h' dd' hs=>h _ ?_,ÝM,oQ fb tb,úh,∀(h:ÝM) (h':oQ gb ub),0,úi,_ CV FG o E (Ef) e2 P,új,by rw[hf];simp![zB2,zhF,tZ],úk,∀(zt:N6) (he:H e=↑(Rz)),0,úl,∀{p1 p2 p3 p4 hpos pos:Pos},0,úm,_ X A7 σ' (upd H1 Ę8),ún,_ e3 (λ b u hb hu z=>?_),úo,_ (ML:=Dd) Rj me.kp,úp,by ext Đc;exact Þ6 I1 ea c me l ?_,Ξ4,by rw[h0];ext Þ,úr,by rw[Ĺ8 (pu:=s.pu),ij,fN];lia,ús,_ (w_ a1 (w_ a2 a3)) rfl,út,by intro h;let#[t,ht]:=(åL).mp h,úu,by rw[ö0 hw] at st;rw[hw] at sp hj hfr,úv,_ (ks:=[Æ a]) (ts:=[f]),úw,_ (m:=8) (cB "floor " 6),úx,by rw[h2.len,h4.len];show h,Õa,(none,HY),úy,((L s).all Ts)=true,Õb,by injection e with e1 _,úz,_ Ā (Xh e Ù (K7)),úA,∀(z TI TO i1 i2 l1 l2:Addr),0,úB,by subst ev;let#[rfl,rfl]:=es rfl,Đm,by unfold turn;rw[hg];show h,úC,(ĺ0 Ϙ fr last none),ÀY,[_,by ext ď4;cases e2],úD,by .rw[É c];rw[XL] at c;rw[c];show Đk,úE,by rw[nP (hn mq)];show h3,úF,[none,none,↑1],úG,by rw[zR (vI hE hT)];show hE,úH,[none,↑0,↑2],úI,by ext ű9;rw[hu];show OZ,úJ,[none,none,↑3],Ξ5,[_,by cases e2;show AU],úL,by have hp:Sb:=Ũ7 r p (by rw[hw];show BT),úM,_ zC (xK ļ none ↑ u7),Ja,hfull,úN,by rw[hl1,hmt];show Ja,Õc,Nat.mul_two,Õd,Value.isInt,Õe,(VW a:Key),úO,[_,FM (λ q=>nomatch q)],pU,there,Õg,(upd H x o),úP,PySem.W.hideAll_get,Ξ9,List.mem_filter.mpr,Õi,List (õ V),Ο1,I.ok.fy,Áa,Oo qR,Ο2,I.ok.jv,Ο3,(FK b),Õj,I.yV a o hk,úR,St->Hp->(ä0)->Prop,úS,(.While c body sy),úT,(intBits_le_64 Ŭ),úU,Mb Gw f=↑none,Ο5,I.write,Õm,H1 a=↑ Ň5,Aq,error,Õn,vs[i]?=↑v,úV,λ b z=>á z (noA b),Õo,(xE äU um),AK,É (),úW,λ(m:Nat)=>xs[æk]?,Õp,Vals Dx us,Õq,seqIndex_of,B1,x=Ŗ,Õr,(Èt).trans,Ρ2,PySem.W,Õs,PySem.Calls,Ρ3,λ q=>?_,úX,Æ #[Da _ q1,q2],Ρ5,.cls cd,Õu,FO e ds h3,H_,n::ns,úY,S b=↑o->S' b=↑o,Õv,(ups S p o),ÜK,H a=↑u,úZ,ÜK->H' a=↑u,ûa,λ _ _ _ _ hq h=>Å5,ûb,#[k,a,z H' b c],Õw,(hb ς hq),Ρ6,(hq À),Õx,Ģ đ0 àt,ûc,∀ p,BL->Q ī ÍA,Õy,ye X.K H' S,Õz,zu Ò ds vs,Hw,ν4 sp,Ρ7,BO->ϴ,ÕA,#[rfl,?_],Ρ8,(q::qs),ÕB,(ks.map kV),ûe,upd H a (.dK (ϝ9)),ÕC,more.length,ÕD,(tp++[O0]),ûf,(∃ tp,S1 p=↑ VS),Ρ9,(.im t),ûg,(∀ S',sv->Q y S'),ÕG,h Ţ xs àK,ÕH,(l.set i a),Τ1,.nx ϊ5,ÕJ,(ã r1 ä),ÕK,λ a o q=>?_,ÕL,s3.trans s4,ÕM,(F ys).bind,ÕN,ys[i]?=↑y,ûh,by simp![NE,zo],bZ,L4.Ŗ9,Τ3,yz ps q,ÕP,ps.Pairwise,ûi,by simpa [lh] using hg,Τ4,List.pairwise_cons.mpr,ûj,zw ça (nh YV GU),ÕQ,hs[i]?=↑g,ûk,List.getElem?_range,ûl,by unfold turns;lia,ÕT,(fE Hq).mp,ÕW,left.length,ÕX,wpAny_throw,ûn,(F4 (·.push Hr)),ûo,(∀ q∈ps,q∈ RJ),ûp,Q ū (upd H l ύ7),Τ6,fits_of,ûq,ma (λ i j=>Yy) qu,ûr,Ä í (QH xq) ï,ÕZ,(ni ts Ϟ),ûs,R (.ok (Μ éA)) s,ût,(ĵ ō ds).flatten,Öb,j<=16777216,Öc,ns.Pairwise,ûu,mg "law"=↑(à fa),Öe,#[[v],[]],Öf,lookupAlong,ûv,(∀ b o,b≠x->SV),Ác,x.stays,ûw,x.iM Ð (Æp) (ϰ5),Ög,gM GN H' e,Τ8,mj d=Á,ûz,zw X àm (ĵ5 i j t),ûA,Og Ä4 "PurseError",ûB,N7 x (uM Ìz) FU,ÖH,_ ph _ I1 q,ûC,(Ek pos ÖH),Öj,some ↑ sg,ûD,h FG zs ÅU e7 Yc,Ök,CD y=↑sp,Öl,Lit ō9 tab,ûF,Æ (Ĥ8 S Z x y ÈU),Öm,(ze IV Ď),Ön,(zm xW Ϟ2),Öo,(zc Èc zf),ûG,(zm xW (zc ÇN zf)),Öp,(zc Ū zf),Ör,(zm Ÿ2 YO),ûH,["words","forms"],Ös,[4,7,8],ûI,Array.toList_append,Öt,cuts.length,Du,zX.yH,La,ok.a1,ûJ,#[e,he,h1,h2],Υ5,yX pu q,ûK,(ċ p9).map (xO F),Öu,λ u=>! Ds u,Öv,Í (ē=MP),Öy,(by ext Lm),Öz,#[Q4,hk],ûL,(Int.pow_nonneg ()),ûM,#[z.1,BY z.2 ()],Υ7,h.q FL,ûN,pb::(os++p.map vA),ûO,List.cons_ne_nil À,ÖB,(ì (Å S)),ûP,[ĕ q.1,ĕ q.2],ûR,∀ x∈b,a<m x/\æC,ûS,(Å ((ό5).map mK)),ûT,(kJ Ϙ pre).map bT,UD,CD w,ûU,Ã ((UD).getD z),ÖE,(ya hi rfl),ÖF,[Â n,JU],ûV,nW (iI) (zK zk Œ5),ûY,by let#[o,es,ep,ho,r]:=hm,ÖG,∀(wi:TI) (g:TG),0,ļ7,_ x y H2,rn,_ b pos,ûZ,_ gV s4 σ H4 y z' u w',üa,_ X χ7 (Ŝ8 sp dvs E t),SM,Ç (),üb,by rw[SM];exact AC (Ĥ7 ϩ6 ?_),fL,_ h0 h1,üc,by have e':b=a:=hA b (Ês);subst e',üd,by let#[xs,h,_]:=h;rw[h];simp,ÖI,_ X e (zU ä3),ÖJ,_ X e (o9 ä3),ÖK,∀(ti:ou) (g:v7),0,ÖL,∀(g:lU H a y o),0,ÖM,∀(hi:PE X i ty),0,ş3,_ tp FY,ÖN,_ rE te L S _,M5,_ S2 acc,üf,by let#[d,m,rfl,h1,h2]:=h,üg,by let#[e,m,rfl,h1,h2]:=h,üh,_ p (h3.none hp) Ó2 Ι,üi,_ ð xs Á #[rfl,Ž],Áf,_ hit hl hx,üj,by let#[o',e]:=a.there c o q hx,Ág,_ Ê x k ps,Áh,_ ho ha R9,ük,by let#[_,rfl,t,rfl]:=r.one,üm,_ X.K sp (œ::vs) H2 Q,ün,_ [] 0 X.s₀ X.H₀ [],üo,_ "MOST_FIGURES" (Â 4),üp,_ "MOST_LETTERS" (Â 8),ÖQ,∀(hl:ē<=10000),0,üq,∀(hg:1<=give) (hgt:0<=get),0,ür,_ 100 (yX Qf) (wR Qf),ÖR,∀(h:f Y=↑ Ae),0,üs,_ (P:=λ p=>Sb) (jj ha),üt,∀{qs p:ı}{x:š}(hr:çr),0,üu,∀(hl:Fm<=13) (hl2:EH<=8),0,ÖS,_ p (Da _ hp),ÖT,∀(l:ŵ) (d:α),0,ÖU,∀(h:Tx n (f Y)),0,üv,į3 ĉ (by rw[UV];show hp),ÖV,Vals ys its,üw,yS->SS->(AP)->Prop,ÖW,S3 p=↑ VS,üy,(fc Y).bind,üz,(ĵ ō ts).flatten,üA,∃ u,mg x=↑u/\ÏK,ÖX,yz b q=true,Χ0,wR pu q,üB,[_,by cases b <;> simp[QJ,e1,e2]],Ák,_ X body tb,üC,by .unfold nA;rw[Fa,hj];rfl,üD,by simp![KK,Op,Mq,P3],ÖZ,∀(hl:HG<=1000),0,üE,by rw[AS];change 1+ϔ<=10000;lia,üF,[_,by .subst ha;rw[mL] at h;cases h;show hn],Cq,t_ Ø,Øa,Cq->Prop,Øb,yz c q=true,üH,by have hpH:Gs:=by rw[zR hpl] at hp;show hp,Øc,Ï2 À true,üI,(by rw[GT];show ĺ2 hl z),üJ,by rw[zR (vI q hp)];show q,üK,by rw[zR (vI z hn)];show z,üL,_ (by simp;show ĺ2 hl hx) Åx,üM,by have:x≠n:=by rintro rfl;show h v BT,üN,_ ht ϩ6 (by rw[hlen];show hw),üO,by exact ďU;ext åx;show (I8.pin ω4).2.1,Ál,by .subst q;show key,Ám,by rw[h1] at e;show ť,üP,by rw[zfU];show LQ.Ý9 h64,Án,α->Prop,üQ,(Int.ofNat_le.2 h),üR,Int.natCast_nonneg,üS,Nat.lt_of_lt_of_eq,üT,Int.toNat_lt_toNat,üU,Int.lt_of_le_of_lt,Áo,(xs++ys),Áp,H a=↑o,Áq,b∉X.fs,VM,IO ho,Áu,I.ok.inj,S_,À0->rM,Áv,I.ok.blt,U4,(È h),Th,pyIter,üW,Array.find?_toList,üX,by have:=r.dp;lia,üY,(us++ds).length=İ,üZ,SeqAt.EqAt.int_int,ýa,List.zip_nil_right,ýb,BY (Æ0 xs Ϟ) hz,ýc,Option.isSome_some,ýd,(ð3 (hlt Ϣ) hC),ýe,ŋ K NP "__init__",Ød,(.dK vs),ÁA,Az->ql,ýf,(Gh a [.LtE] DM),ÁB,E.nx L S,ÁC,(kT t u),ÁD,(ő1 n t),ÁE,LQ.n8 hl,ÁF,failedOf,ýg,(xc "list" į e1),ýh,(∀ b o,¬ ê->Êk),ÁG,(sI ũ),ÁH,ã ?_ ih,ýi,zA Ò (mV q.2) q.1,ÁI,ö->Bool,ÁJ,zo S ãO,ÁK,Sn S u e,ÁL,o.isSome,Us,hq.2.1,ÁM,λ _ h=>h,Ry,(oG s),ÁN,(Ķ1 S Z),ýj,#[?_,λ us e=>?_],Rp,C i j,ýk,∀ i j,pj (Rp),ÁO,(zc f g),ýl,HM i ↑(.im Ae),ým,hq p_ (Ľ1 À) ϩ2,ÁQ,p.1<=q.1,ýn,Nat.eq_zero_or_pos,ýo,AC (oR ho hd ?_),ýp,.set es' (ep+1) t',ÁS,xs1.Perm,ÁT,(ò+1)*5,ýq,#[j,zg9 h1,h2],ýr,(! ſ8&&Í (Ŏ>1)),ÁU,pure HY,ÁV,(n,tk),ýs,(Ŧ Ž7).objs.size,b6,Î sF,ýu,X.mg "sorted"=none,ýw,∀ b o vs,Fz->áC,ýx,(ËP).update e ÅQ,ÁW,(ue b n),ýz,λ h1 h2 a b=>b _ a,ýA,F.slot_tuple_index,ýB,Xm (Êi (ÊL ?_)),ýC,(Ć8 m qual eM ct),ýE,[rY,qX,Di],ÁZ,[e,e2],Âa,á h Op,ýF,["pair","other"],Χ2,(zP 2),Sk,(zP 3),Âc,(cS ÅV),Âe,["word"],Âh,g Y=↑y,US,l.drop,ýH,(ÅC).run.fst.size,ýI,vz y p q (qs++[r]),V7,vi b c,Âi,(i0 F s),Âj,Ο6 F s b,Âk,(kR Ϝ7),Âl,l.countP,ýJ,by unfold Ϻ1;simp,ýL,rs.zip (rs.drop 1),ýM,ns.zip (ns.drop 1),TR,Go hl,Øf,wK a ϋ6,Ân,nums.map,So,(vA r),ýN,[↑(.im (zN AB))],Âo,Ã (Xn),Âp,zgG _ hl,ýO,(És).foldl vt M8,ýP,ħ1 Æq=↑(Å υ8),Âr,gF f ÉB,ýQ,(Ķ2 F s p acc g t),Âs,(yn T_),Ât,Í (ř5),Âu,jE Åu v,Âv,isNm Đ7,Âw,(p == pR),ýS,L (Ħ " " (q::ws)),ýT,Å ((m5 r).map ø),ýU,(NL (Ó Í6 hoc)),Âx,(ĥ4 rfl),ýV,λ x=>!(x == "floor"),ýW,ja [Ã row]=↑ Ϗ6,ÂA,∀{a b:Addr},0,ÂB,∀(ta tb:TE),0,þb,by ext TQ;let#[xs,hq,hx]:=hg,þc,_ (prog:=xh) (w:=X.w),þd,_ Ld (Ă êb [a] sy),þe,_ Ld (Ă êb qW sy),þf,_ (fJ).kindOf ÈK Nc,OI,∀{t:zr},0,Ģ4,∀{f:wG},0,þg,∀(h2:2<=Κ) (h64:Κ<64),0,ÂC,∀(ts us:ö),0,þh,∀{d e:D}{x y:V}{a b:Ø},0,þi,by let#[x1,f1,r1]:=h2.get e1,þj,by let#[v1,g1,q1]:=h3.get f1,þk,∀{p:κ × V}{r:Kw}{k:κ},0,Ģ5,∀(Z:An),0,þl,by let#[d,h1,h2]:=h.im i t e,Qo,∀{u:yw},0,þm,_ (vG s) (MJ s1 r),þn,by ext ň8;let#[z,e2,e3]:=ŗ,þo,_ À ?_ Ι (h3.new hp),ÂD,∀(h:Q Á s),0,þp,by intro gV s σ H xs us0 Q I r h,þq,by let#[x,hx',rx]:=m2.get hx,þr,_ (λ x1 x2=>x1++x2) į,þs,by let#[xs',g3,g4]:=p2 À b1,þt,∀(hd:KO) (hsz:1<vs.size),0,þv,by let#[hh,g,d,t,os]:=s1,þw,_ À Ĺ (kS.ext e1) z,Vp,∀{u:Ϗ},0,þy,_ "MOST_COINS" (Â 12),þz,_ "MOST_PLACES" (Â 8),MN,∀{b:Bd},0,ÂG,∀(h':g Y=r),0,ÂH,∀(hn:Z6 Ñ),0,Øi,(show êf from x),þA,by have:=r.un;lia,þB,(xc "list" out e),þC,(d_ vE).objs.size,Øj,["pair"],Rb,isNm q,þE,by simp[dep,xZ],ÂI,∀{C N:Addr},0,ÂJ,∀(ta tb:zr),0,þF,∀{ta:TA}{p pos pos':Pos},0,Øk,(show ëv from x),þG,(ū0 vE).objs.size,ÂL,∀(to te:zr),0,þH,by have hS1:S1 D=none:=p1.none hD,þI,IO (show IZ=↑_ from x),þJ,by have e:zN AB=Î ό6:=rfl;rw[e],þK,P2 (by rw[Pi];show p1),þL,(by simp;show ĺ2 l1 hx),þM,show k+1+i=k+Ζ from by lia,þN,show ÑQ=ϱ3++ϊ by decide,þO,by .rw[É hj] at hc ⊢;show r.2 j c hc,þP,by .rename_i c hcd;show á hcd (hnc c),þQ,(by rw[<- z];show zE1 _),xf,r Fu,JH,r Gj,þR,Nat.min_eq_left h,DI,0<=i,Øl,x+(y+1)<=z,þS,Int.ofNat_zero_le,þT,Nat.le_succ_of_le,Øm,i<=min j k,Øn,(âc C dx),Øp,äs x=↑c,þU,s.heap.IsCell c v,Li,Drawn,Øq,(χ hi).1,Ør,yT η H h',Vn,KB e,Øs,s'.os=s.os,þV,λ c H1=>Q (!c) H1,þW,(.IfExp c Ñ pos),Øu,[_,by exists hs],þX,#[σ,H,I,h],Øv,(st::rest),þY,wpAny_Return_some,þZ,wpAny_assign_Name,ÿa,wpAny_Assign_Name,Øw,wpAny_load,Øx,boot_range,Úe,_ Ò p xs,Øy,yB Úe,ÿb,Éf K C name=true,Jt,Ç hk,Yi,É hk,Mp,(pK),Øz,YK m=none,ÿc,λ e he=>á he ∅,ÿd,Heap.Ns1.of_empty,ØA,eval e env,LX,(A_),ØB,đ uo::us,ÿe,sc.isCoroutine=Á,ÿf,sc.isGenerator=Á,ÿg,N.take P.length=P,Qh,bindL,QD,bindC,ÿh,xE äU f cd KR E,ÿi,PE X χ7 (Ο0 r t),O7,y::ys,Kb,Meets,ØC,ms'.length,Va,hrest,ÿj,ň (àU).toArray,ÿk,wpAny_sequenceKey,ØE,Subscript_,Nl,Ã Õ0,ØF,Str.length,ØI,λ v hv=>?_,ØK,zA ό d v,ØM,(LS)->æT,ÿl,(x9 (zH ËJ) Ġ),ÿm,(x9 (fI ÇD) Ġ),ÿn,(x9 (fI ÊG) Ġ),ÿo,(x9 (fI ÉE) Ġ),ÿp,(x9 (fI ÆZ) Ġ),ÿq,(x9 (zH ÉI) Ġ),ØO,yC X es tA,Iv,h1.2,ÿr,Iv _ sT .range,ØQ,xA ÆD Jg,ØR,(B4 V.bl),ØS,#[xs,g1],ÿs,(FO x1 ds g2).at,ÿt,Array.Perm.refl _,ØU,sortedHeap,ØV,zj6 ĉ hb,ÿu,(Ow st).size=Κ,ØW,k1 b o n q,ØX,á rfl hne,ÿv,PySem.W.kitMeta T,Lr,dep t,ØY,zo S us es,ÿw,.lists GH z hA q,ÿx,(Gh a [.Eq] DM),ØZ,vs.any Xr,Ùa,Rd H a Α5,Ùb,rel.length,ÿy,ÏD=values.length,ÿz,(B_ [Ao] v pos),Ùc,BH h t q2,Ùd,ts.isEmpty,Ùe,(k,t)::r,Ùf,zo qa ãO,Ùg,oZ y=↑ts,ÿA,some ↑(ì (uV)),vK,i≠j,ÿB,pk=↑↑(ì us),Ùi,Q9 j ts e,ÿC,hf Ţ y _ F.er QR,Ùk,is.map ĕ,Ùm,ň0.mpr F0,ÿD,List.find?_isSome,Ku,Ő2 ps,Pb,xs[i],ÿE,∃ e,e<=M/\e∉xs,ÿF,by rw[ON hlt,w],Kj,t_ α,Ùn,λ k hk=>?_,ÿG,ofAClassStatement,ÿH,searchCouldBeSeen,ÿI,gR VF ð es t xs,Ùo,(λ hm=>?_),hJ,still,ÿJ,List.Pairwise.map,ÿK,Array.toList_push,ÿL,wpAny_pyIter_slot,ÿM,F.plain_list_iadd,Ùr,λ o e=>YS,ÿN,(i_ a 0 0 Ŏ ep),Ùs,acc.toList,ÿP,λ d1 S1 s1 r1=>?_,ÿQ,(Gh a [.Lt] DM),Ùt,k b o hc e,ÿT,(ĵ n ds).flatten,ÿU,wpAny_pyIter_enum,Ùu,List.foldl,Ùv,(gs to te),ÿV,Ã "__class__" tk,Ùw,kS ŏ D Q,Ùx,(Î (Nk)),ÿY,sP (LW) ie pos',Ùy,(Ė9 ho hb),ÿZ,nE.mo CT hmo ĝ,Ùz,(dC (B8)),Āa,(ÌI).set 2 ↑d1,Āb,(Gh a [.In] DM),Āc,FD Ê d kk ps A3,ÙA,tab.length,ÙB,(tupS àH),ÙC,(oq 4 X2),ÙE,(oq 2 X2),ÙF,(cS (Ϣ4)),ÙG,(zm jD NN),ÙH,g Y=↑ Cu,ÙI,sub.length,ÙJ,#[?_,?_],Ād,Gd.nj ok.a0 ok.b0,ÙK,jm F uQ p,ÙL,s.at hp hw,ÙM,ok.ws w w1,ÙN,last::more,Āe,wQ (t-Eb*get)<=T,ÙO,(vR Qf y),Āf,(zZ (wZ ÏV Et)),Āg,(zZ (wZ Rl Et)),ÙP,#[e1,e2],Āh,(bZ _).length_eq,ÙQ,λ n hn=>?_,ÙR,(vL hr h1),Āi,by simp[h,hl'],Āj,(zZ (zL rfl hmx)),ÙS,nums.find?,ÙT,L "stall ",ÙU,xK f Ϟ Y,ÙV,(xS hc ?_),Āk,(by rw[zC1];lia),Āl,(by rw[zfU];lia),ÙW,i3 ÅT x.2,Ām,(λ z=>↑(ĕ z)),Ān,oH ϣ4 (c.map zW),Āo,List.flatMap_cons,ÙX,pre.length,Āp,ź3 "0123456789" w,Āq,Ï2 f "number" Á,Ār,(f == ("text":Str)),ÙY,Fm<=10000,ÙZ,zy hlen Ö,Ās,λ k=>bad Ñ (XI),Úa,q.2.length,Āt,zl l1 (zl l2 rfl),Āu,bad Ñ (w,x)=Á,Āw,_ P w (upd H x o') h',Χ5,_ fs ex H,Āx,_ b o (ÌP).1 (ÌP).2,Āz,_ Ā (exec st Ù) QG,Χ6,∀{D:Ends},0,ĀA,by intro gV s σ H vs us Q I r h,UW,∀(Q:zVP),0,ĀB,by let#[its,rv,p,hz]:=IC,ÂM,by ext TQ;ext υ7,NH,_ q1 q2,Úd,_ X (GJ .Lt),ĀD,by let#[hh,g,d,t,os]:=s,XA,∀{CX:l9},0,ø3,∀(d:D),0,Χ9,∀(tp:rF),0,ţ1,∀(r:Ϝ),0,ĀE,by let#[_,_,_,r2,h]:=z0,ĀF,_ (zU K ta) (zU K tb),ĀG,_ xs ds H1 S1 Q q1 p1,ig,∀(e:Ϗ4),0,Úf,∀(h:zw X st t),0,ĀH,_ (.If c p q pos) Ïw,Uh,∀{tb:yK},0,ÂN,by ext Þ;rw[Dp],Ψ0,_ vs rows,Úg,_ (Į ty) dw,Ψ1,_ CT El,ĀJ,∀(g:ϓ) (r:GW) (v:qN),0,Ψ2,∀{o:õ V},0,ĀL,_ (a:=Õ) (o:=.dK []),Sq,∀(h:sv),0,Úh,∀(h':zI R g u),0,ţ5,∀(is:Ś),0,ĀN,[_,by simp![zo] at r;subst r;cases e],UO,∀{ys:ö},0,ţ7,∀{rs:Ğ},0,ĀO,by have h1:=CR h;unfold wL;split,ĀP,_ p (bI hpH) Ó2 ÍG,V1,∀{t:Tok},0,ĀQ,_ ho ho' HX hc.pe hm,ĀR,by let#[nd,f1,f2]:=D;ext ďJ,ĀS,_ ex (λ c o hc q=>?_),ĀT,by let#[it1,_,q1]:=g1.of I1,ĀU,_ (u:=↑(j,uj)) Åm,Rf,∀(k:Int),0,ĀV,_ (xs:=į) (n:=0) new,Úi,_ UX Q' hq h,Új,_ "law" "law",ĀW,_ FB.hasBase hC hx hc,ĀX,∀(cls a0 fl:Ø) (yf:ł),0,Ť0,∀(Q:O_),0,Ť1,∀(g:zEO),0,ĀY,_ (xs:=ε) (n:=n) hl,Ω0,∀{k':Nat},0,ĀZ,by let#[f,fd,C,F,hc]:=F,Ω1,∀{z_:A5},0,āa,_ (k:=C9 y) (ι6 y t),āb,∀{g1 g2:Sm}{s1 s2:Stmt},0,Úm,_ (Ŕ3 ù) uC,āc,_ xw (ze Eh (cI 77)),ād,_ "MOST_WAYS" (Â 24),Ún,∀(h:f Y=↑ Á),0,āe,_ (λ z hz=>hf ϣ8) e2,oh,_ h rfl,Úo,_ (Î ws) ϔ,āf,_ (is:=[3]) (g:=zP 3),āg,_ (is:=[4]) (g:=zP 4),Ω3,∀(h:Nm n),0,Ω4,_ rfl T_,āh,_ (is:=[5]) (g:=zP 5),nJ,∀{r:Str},0,āi,_ (f:=Ft) (fa:=zb 1),āj,by let#[p1,p2,p3]:=Ò4 ha hr,Úq,_ Ň rfl ∅,B5,by (ext ßS),āl,by rw[hs₁.1];show Ÿ,Úu,[_,by exists hx],ān,Í (JD x=↑ Ì1),Úv,Ég x=↑c,Úw,X9 b=↑o,āo,(.empty ϗ8 none),āp,#[sD::rest,[]],āq,(zb 0 Y).bind _=_,ār,Ķ4 hN "floor" Ň,ās,by let#[its,rv,p,hz]:=Jm,āt,by try with_reducible exact OR ?_,āu,_ K "PurseError" P lO,W_,∀(s:sv),0,āv,by unfold QH;ext ďS;rw[É ∅],āw,by have:=æX;simp![Ps] at this,āx,by let#[its,rv,q1]:=g1.of I,Ω6,∀{t u:yK},0,Úy,∀(A B a b:Int),0,āy,eQ (show o8 F p from ϧ9),ÚA,Ã name tk,āz,_ qual none Ć ↑env,āA,by have hz':=hz HU;rw[AS] at hz',āB,by simp![KK,Op,Mq] at hp,ÂO,by rw[h] at e;show ť,āC,by have hp:(lF b).length<=1:=Çy,āD,(by rw[<- LB];show hz),āE,_ (by rw[ϭ9];show èX) hm,āF,by let#[_,_,_,q]:=hs;show rQ q,āG,by .ext G7;rw[Ç h] at e;show Ŷ6 e,āH,[_,by .rename_i hy;cases (b2);show ďV],āI,á (show öO from z) ∅,āJ,Int.lt_of_not_ge,āK,Nat.zero_lt_succ,āL,(ìK FA (à y)),āM,k b u (hb b n) q,āO,(λ _ _ _ _ n=>n),āP,List.getElem_inj,āQ,Inv Fy ϗ3 H s',āR,#[_,hn',èV],āS,∀ v,Pg ≠ Ì1 v,āU,(Ī7 r r' Ġ tc),āV,∃ tp,ϩ0/\k=Ïs,āW,PySem.W.handedIn,āX,wpAny_lookBehind,āY,pastItsLine_dict,Ăa,(vs++ws).toArray,Ăb,#[ho,ho2,?_],Ăc,pl.isList.typeIs,Ăd,Option.isSome_or,Ăe,Inv ÊI ik s',Ăf,(λ uy s8 z0=>?_),Ăg,(C,P,N,NP),Ăh,#[o,e.nC Ð h],Ăi,R #[ds,Y_] S1,Ăj,Array.Perm.trans,Ăk,List.map_snd_zip,Ăl,X.mg "list"=none,Ăm,#[rfl,xs,g1],Ăn,eqT Ñ&&oH as bs,Ăo,(ů0 ts:Ϲ5=true),Ăp,.tuples GH hA q,Ăq,(x9 (ng Á) Ġ),Ăr,wpAny_getItem_of,Ăs,(zF (ho Gn) Cr),Ău,h _ H3 q3 Α6 p3,Ăv,h _ H3 n3 Α6 p3,Ăw,#[ds,rfl,h2],Ăx,List.drop_length,Ăy,(mn λ a z=>È z),Ăz,(F1.grow s2).mut,ĂB,s6 À (sx À hb),ĂC,Hk Ω9 key b,ĂE,Array.toList_map,ĂF,(È #[hm,rfl]),ĂG,List.perm_middle,ĂH,(Æ #[hm,Qn]),ĂI,(Θ λ e=>↑e.1),ĂJ,(sG=Á->Vo=ÎF),ĂK,(L4.VR.of hv hr),ĂL,7<=ś/\ś<=127,ĂM,ns'.Pairwise Ϲ7,ĂN,(Ė2 K GH a1 a2),ĂO,wpAny_pyIter_zip,ĂP,PySem.seqSlot_of,ĂQ,Gl X "enumerate",ĂR,lookupAlong_cons,ĂS,vs[1]?=↑(à T),ĂT,aS À (Ł hbe),ĂU,#[_,áJ,rfl],ĂV,(fr.elim Ć ÑN),ĂW,∀ h' T,Ϻ7->Đh,ĂX,(MT->E.rt d S2),ĂY,λ y=>(q.1 y).2 y,ĂZ,G.top.symm.trans,ăa,.ty "ValueError",ăc,List.range'_succ,ăd,(ϐ "str.split"),ăe,Nat.succ_ne_zero,ăf,λ a z=>Mi a z.1,ăg,(λ x y H Q=>àG),ăh,Nat.succ_lt_succ,ăi,IP=s1::s2::rest,ăj,(mD (xF ļ) Êm),ăk,(yh (ze Sw Ļ)),ăm,(zm (Ż7 ja) VD),ăn,(Q5 k).take FU,ăo,ϰ9 x FU a cuts,ăq,List.countP_cons,ăs,(Ž8+(more:Int)),ăt,([k,l].map ø),ău,(λ z=>↑(ø z)),ăv,Î [Â A,Â B],ăw,zW (vR s.pu g t),ăx,List.filter_cons,ăy,Å (told.map rT),ăz,Â (a.toNat:Int),ăA,λ k=>t (IK k d),ăB,(by rw[h2];rfl),ăC,[↑ ώ9,↑ Rm],ăD,Î [Â x,Â y],ăE,(zZ (zL Rl hj)),Uw,by rw[e] at this,ăH,[_,by exact Đg;rcases hc with z | z],ÂR,_ P w K tg,ăI,by intro gV s σ H x v Q I rx h,ăJ,_ ⋯ #[H,pK,q],ăK,_ Pd (P.zip vs) m x,ăL,by simp at h1 h2;subst h1;subst h2,ÚC,[_,by rw[NE] at r;cases r],ăM,by ext ħ4;unfold yL at h;ext č,ăN,by let#[xs,e1,r2]:=p a _ e,Ω8,by dsimp only at h,ăO,by simp![xn,Do,ϔ3] at h,ăP,∀{tl:TE}(hl:PE X l tl),0,ăQ,by let#[y,hy,_]:=g2.get hd,VN,_ Ò S s,ăR,by rw[OF,TW,TW];ext Ő,ăS,by let#[es,h2,h3]:=Rt rfl,ăT,∀(hg:Ap) (hh:zQ R h u),0,ăU,by let#[x,hx,rx]:=r1.ŝ6 hd,ÚD,by rw[OF,wc,wc],ăV,_ hl1 (AC (ÌH ?_)),ăW,_ S1.get rfl S1.fits,ăX,_ (n:=ò) hlen T ∅,ăY,_ TI (à i1) (à i2),ăZ,_ (VR.of rv hr) hl q,Ąa,_ M X.A (QI Ϡ Ù),Ąb,_ (h2.Ć5 I.yV) he hc,Ąc,by let#[C,P,N,NP,e]:=H,Ąd,by let#[_,h,_]:=hn;ext Çz,ÂV,_ Ê m às,Ąg,_ Α ù (zm xW uu),Ąi,_ ů7 Cb (zc ëy zf),Ąj,_ Ax (zm gN VD) ù,Ąk,_ #[(),(),()] (),Ąl,_ (yn (hc▸h1)) rfl,Ąo,∀(hb:š1 x x st ps:=by show è9),0,Ąp,(Ķ1 À).trans s',Ąq,xU X true body t,ÚE,[_,by rcases h with h | h],Ąs,by ext Wu;exact zF (hl Gn) LC,Ąt,∀(hx:HC=none) (hE:ďW),0,Ąv,by have xT:Ext H' ËR:=Mu hT _,Ąw,by simp[vC] at hp;subst hp;simp,Ąx,by rw[<- yZ];show hl,Ąy,JoinOk a ss=true,Ąz,by simp![KK,Op,Mq] at h,ĄA,by ext ω8;exact hf NF;ext Ů,ĄB,[_,by rcases LT i (aX) with q | q],ĄC,by rw[Àj];show hlen,ĄD,[_,by rcases h with rfl | rfl <;> rfl],ε2,by simp![Ix],ĄE,by rw[<- Ep];show b1,ĄF,(by rw[hl1];show g3),ĄG,by rw[hacc.1];show q,ĄH,(by rw[IR];show hl),ĄI,(by rw[IR];show q2),ĄJ,(by rw[wg];show Ÿ),ĄK,_ st (show Ű9 a Ũ from p),ÚF,by ext Þ;rw[e2];show h,ĄM,(by rw[l];show Ϧ9),ÂW,(y:Int),ÂX,(zfQ h),ĄN,Int.min_le_left,ĄO,Nat.le_antisymm,ÚH,by simp at e,K1,(ŵ6),ĄP,by simpa using h1,ε3,(ì a),ĄQ,Γ F l₁ l₂,ÚI,yT Ş7 h',ÂZ,k b u q,ε4,b∉ex,Ãa,Un.kept,ÚJ,K.In base,ÚK,σ.length,Ãc,I.ok.il,Ãd,I.ok.fQ,ε5,b∉ch,ε6,I.base,ĄR,λ h' hn' hs=>?_,MZ,È q,ĄS,Hp->(fO)->Prop,Xb,_ j pos,ĄT,(AO qC Xb),ĄU,(AO qQ Xb),ε8,c=true,ÚL,h.ok I.zt,ε9,y6 ϥ1,ζ0,(ę8 i),ζ2,It->rM,Nt,[Ð3],ĄV,yM X (ð5 op) r,Ãh,(vJ η),ĄW,#[_,rfl,r1],ĄX,by rw[GM];lia,ζ4,(È e),Ãl,A.depth,ζ6,yg k A,ÚN,PA X es t,ÚP,eL Ê KR,Ãn,zg0 W5,LM,LQ.Á2,Ão,JD y.1,ĄY,ċ7 Áb "slice",ÚQ,(AT ÆP),ÚR,EZ us ns,M4,õ α,Ãp,Dg<=â,ąa,(rg WData.int),ąb,pre_splitW hpre,ÚV,pushCells,ÚW,[_,by cases hp],ąc,λ a ha b hb=>?_,ąd,#[j,rfl,?_],ąe,wpAny_tests_nil,ζ9,c1 qR,ąf,(Mh).2.2.2.2.1,Ma,HW z,η0,hp.2.1,ÚY,.compLoop,ąg,#[m',hm,w8],η1,AT hq,ąh,(.xd [(f,w)]),Ûa,A6 c f d,ąi,#[x,rfl,h2],Ûb,zA Ò e y,ąj,fun σ H Q h=>?_,Ãt,Q äN S,Ûc,S1 p=none,Ûd,(o7 f tA),ąk,È (Ó _ (Vn)),Ãu,some ds,Ãv,t E L S,η5,q1.ext,ąl,scope.names.all,Ãx,KasT α,Ûg,lu lt p k,Ãy,m-(q+1),Ûh,jH lt p m,Ûj,Ρ4 hp 0 m,ąm,Le lt (qm) uX,ąn,#[h2,ha,hb],Ãz,Κ<=â,ąo,vs.toArray.size,ąp,(Ow st).map ũ,η7,RF Ñ,Zn,HT.Į0,Ûk,(š6 rows),ÃA,xk=Ž6,ÃB,qs'.map,ąq,boot_isinstance,Ûl,A6 c f t,ąr,by ext NW;rfl,ąs,J3 A s Ñ (Pl),Ûm,Classical,η8,WR<â,ÃD,(ŭ2 ry),θ0,wu.val,ÃG,ϯ2::tp,θ1,.yf [],Ûo,(nN h3).2,ąt,Ο9 (Ğ0 àR) BX,θ4,hx.str,OD,listS,θ6,h1.int,Ûp,(mn F.zz),Ûq,(.nx Fc),ąv,FR SB Z0 Θ0 Y',θ8,ϟ e',ÃL,D->Bool,ąx,(xC Io).isSome,RI,wc.mp,ÃN,wL ps l,aD,m7 ps,ąy,#[h3,h4,h5],R8,Probe,ÃO,ÍE-Av,θ9,Iy/32,ÃP,(Eg).j,ÃQ,(q'-kn),ąz,Array.replicate,L6,π h,Ûs,(Xa)[i]?,ι2,hpast',Ût,And.intro,Ûu,(àP).map,ąC,F.plain_set_new,ąD,U.all j r q hrj,Ûv,PP _ BT,Ûw,(Da _ z),ι4,argsOk,Ûx,pickOrder,ąE,F.slot_set_iter,ąF,wpAny_updateSeq,ąG,(Vq rs).length,ąH,[ES l]=[à l'],Ûy,(Â n tk),ąI,oE Pc=↑(Yy),ąK,PD Ff (dC DJ),ąL,PD Ff (dC BG),Ûz,Į (ñ3 k),ąM,#[?_,?_,?_],ąN,#[_,q1,ÍY],ąP,(ć "sorted" p),μ0,r_<64,ąQ,(ÏJ).objs.size,ąR,#[_,he,rfl],ÛA,N8 X G a,ąS,rest.length<=â,ąT,(∀ φ,u≠ Rz),ąU,(Ÿ8 q he (n _)),ÛE,hE.own.at,ÛF,kS Ò D Q,ąV,xE Ϲ9 áK H' E,ÛG,SU K cn D,ąX,g.nm.symm.trans,ÛH,ź1 d S ss,Po,x=rY,ąY,(upd H l (çG)),μ2,mw.imp,ąZ,(I'.zt q _ hqq),Ća,jg apos.atName,ÃW,œ::us,Ćb,ī9 g4 (x:=Æ x),μ3,ks.any,Ćc,((ãN).set ïA),Ćd,(ć "floor" p5),Ćf,N7 x (åI) FU,Äb,Â7 Ñ k,Äd,xC z_ y,Ćg,(Ă ϐ8 AR x8),Ći,λ i x hi hx=>?_,Äe,["way"],Ćj,(ze zp Ϻ0 MS),Äf,(cI 64),Ćk,[6,7,8,9],Ćl,(ze oE rD MW),Ćm,(ze Ax G5 lY),Ćn,(Ů9 (zm Ε5 NN)),Ćo,(Ū5 ξ4 Ū TP),Ćp,by ext iX;rfl,μ9,(q::r),Äg,ps≠[],ÛK,á rfl h0,Ćq,st.fst.push cur,Äl,List.mem_flatMap.mpr,ÛL,vR pu g t,Ćr,F.ws.length<=60,Ćs,F.ss.length<=60,Ćt,∀ b∈last,AM,ÛM,s.next ok,ν2,hq.1.1,Ću,List.range_succ,ÛQ,(0,n-1),Än,os[ϥ4],ν3,SZ h0,ÛR,(at':Int),Ćv,(∀ r∈rs,Ðl),Ćw,(.im (Â cell)),Ćy,(yn (hc▸hin)),ν5,vt s p,Ćz,(yn (h1▸hin)),ĆA,(xV (h2▸hst)),ν6,jS àu,Kq,L E_,ν7,(o_ r),Äq,h.w FL,ĆB,oq i f Y=↑ éF,ÛT,ze zC tL,Är,(ĥ8 ()),ĆC,#[[62].toArray],ν9,hq FL,ÛU,("0":Str),ÛV,(Ît).all,ĆD,((ãp).set ïA),ĆE,by rw[IN];rfl,Äs,gz ∈p,ÛW,sh.length,ÛX,rk (!s) y,ÛY,Μ9 ∈ Kt,ĆF,é5+c.length<64,ĆG,by rw[zh3];rfl,ÛZ,im (mT s),Ät,(gf fr),yY,vC cs,ĆH,i9 [Hi,Ã f],ĆI,Ï2 f "text" Á,Üc,(Fm:Int),ξ3,p::Η6,Äu,eq_self,Äv,n/26%25,ξ5,vl n k,ĆK,(Â (n/77%ϱ4)),NK,(E x),ĆL,L w++(ϊ++L t),Äx,inst_at,ĆM,["_law_number"],Äy,∀(a b:Int),0,Ł6,∀{o:HO},0,Fh,∀(v:V),0,ĆR,by let#[v,o,ho,hd]:=Áa,Äz,∀{it:Addr},0,Ł8,∀(t:TE),0,ĆS,[_,by rw[q,he] at hb;cases hb;show Ôl],ĆT,X.mg "len"=none,Ük,Az->Prop,ĆU,by rw[h3];simp,ĆV,ώ8 K cd x=true,ÄB,List Wy,ĆW,fP i f Y=↑ ÅZ,Ül,θ3 [Ã t],ĆX,(num ü).length,Üm,Da _ BT,ĆY,Ó some (Ç hy),ĆZ,∀{l₁:ŵ}{l₂:Ι4},0,ća,by let#[σ',H',I',q]:=q,Ün,_ I.quiet hs,ćb,by intro gV s σ H v u Q I r h,ćc,_ iY X.A (QH DL),Üo,_ Ā (f v u),ćd,∀{a C dx:Addr}{fs:ü6},0,Ħ4,_ Èj A,NY,∀(N:Û),0,ÄD,∀(ų:IH),0,ÄE,∀(its:zLV),0,ą1,∀{o:O},0,bK,∀(t:zr),0,ÄH,∀(Q Q':DK),0,Ħ6,_ Q d S,Üp,_ h.ps h'.ps,Bh,_ n lt,ćf,∀(short:Κ<2->Out A0),0,Ħ7,_ td ty,ćg,_ (P:=xh) (w:=X.w),IT,∀[Cl R],0,ł1,∀(c:sZ),0,Ħ8,_ ys ds,VL,_ _ Ϝ9,ćh,by let#[cs,h1,rfl]:=sj h,ÄJ,∀{Z0 Z:An},0,ći,_ (vM g h) (Ĺ5 t u),Üq,_ Ι i hp mL,ćj,by unfold SetTable.slot;ext Þ,ćk,by have Qn:(àP).Perm xs:=Đd,ćl,_ "set.__new__" íc,ćm,by simp![newExc,newTuple],ćn,by let#[x,hx,rfl]:=π hm,ćo,by let#[es,g1,g2]:=Rt e3,ćq,by let#[#[old,he],si]:=st,Üt,∀{sa ľ:ń},0,ćr,∀(hk:2<=k) (hg:Gl X c),0,Üu,_ x y t u h1,ćs,_ σ' _ (Ş5 e3) e3,Üv,_ X.K tA Ş,ćt,_ (dvs:=[]) (E:=E0),ću,_ (nu F) (yL j) ÑO,ÄK,∀(tab:ÇE),0,ÄL,∀{tab:ϧ7},0,ćw,_ zC (ze η2 ħ Ū),ćx,∀(hu:ϰ8) (hl:ò<=100),0,ćy,∀(hA:A<=12) (hB:B<=12),0,ćz,∀(bs:ı) (hl:MP<=100),0,Üw,_ (Î ss) os,Üx,_ Ŭ (Ç h),ćA,by let#[r,hr,rfl]:=π ht,Üy,_ (m:=6) Ň,Üz,_ (m:=60) (),ćB,by rw[vz,vz,wY,wY,wY],ÄM,∀(hN:eA w),0,ćC,_ Ÿ1 (f:=f) (g:=g),ćD,_ (ks:=[]) (ts:=[]),ćF,by change ÎH mJ=_;rw[Èd];show åV,ćG,by rw[h2];simp,ćH,ľ[j]?=↑none,ćI,oy (y::ts)=true,ćJ,[_,by subst e;cases r3;exact P9 ?_],ćK,[_,by have hf':ÑM=Á:=by exists hf],ÄN,∀(fl:Bool),0,ćL,(by rw[z];show hb),ćM,X.mg "zip"=none,ÄO,pu=true,ćN,[_,by subst hbs;rw[Eu] at q;cases q],ćO,by rw[GE];show hz,ÜA,pG t=true,ćP,by have hf:H1 AL=none:=jk Ķ,ćR,by rw[Àj];show hl,ćT,by .ext Çe;show#[sl,χ1 e1],ÜC,nK r=true,ćU,by .ext ϋ1;show#[o',χ1 e1],ćV,by .simp![h,Ĉ5] <;> show LQ.Ø9,ćW,[_,by cases y <;> first | show Uy | show h],ćX,by rw[éz];show q,tQ,p Ñ,ćY,le_of_eq_of_le,ćZ,Nat.max_lt.1 h,Ĉa,#[_,rfl,r],Ĉb,λ _ _ _ n _=>n,Ĉc,s.heap.Ns uS m,Ĉe,ķ (I.ķ1 b z),Ĉg,(xj .And ÔD),Ĉh,(Ði).length=n,Ĉi,(ïG tg DL u),Ĉj,IsRange.new ..,Ĉk,(A1 a op rn),Ĉl,PySem.W.typeIn,Ĉm,λ ov s2 z0=>?_,Ĉn,recursionLimit,Ĉo,(.List es pos),Ĉp,λ r s' hq'=>?_,Ĉq,Α4 uo Ez [],Ĉr,slicePart_none,Ĉt,scope.kind=QO,Ĉu,∀ b∈fp,b<Õ,Ĉv,PySem.W.nsOkIn,Ĉw,yG ī S=↑ds,Ĉx,kT.mo h.mo Af,Ĉy,λ _ _ q=>rQ q,ĈB,(by simp[hm]),ĈC,wpAny_newTuple,ĈD,(call ϝ7 Dd),ĈE,(uD).Pairwise,ĈF,h w' _ Mp rw',ĈG,wpAny_notIn_of,ĈH,∃ q,ι a=↑q,ĈI,ċ7 ĳ "dict",ĈJ,(.Dict [] sy),ĈK,uL->Sn S' t d,ĈL,ϓ->zo S' DP,ĈM,∀ a,Z' a->Z a,ĈN,(h2.append h4),ĈO,∀ a,Z0 a->Z a,ĈP,h.er.im j t e',ĈR,(g y WU).bind,ĈS,.yf (mY ş3 z),ĈT,(BH Λ3 z r1),ĈU,xJ K H2 Gu σ,ĈV,(λ i h q=>⋯),ĈX,carriedByValue,ĈY,(10*turns ś),ĈZ,SetTable.probe,ĉa,SetFound.there,ĉb,setAddHashedIn,ĉc,(cg (Q0) t1),ĉd,(UE Ě).Nodup,ĉe,entryFor_alias,ĉf,(N4)[i]?=↑e,ĉh,(F4 (·.pop)),ĉi,intKind_is ĉ,ĉj,g5.get? c=↑o,ĉm,λ hi e=>hi ⋯,ĉo,(zo.cut h2 À),ĉr,refuseLoop_ref,ĉs,FB.ga.bind rh,ĉt,SE h C P B bmB,ĉw,λ b o u q=>Êl,ĉx,(Ŀ8 e C dx va),ĉz,(upd H1 e ÏL),ĉA,(λ d S' q=>?_),ĉC,zo S Iw (Nk),ĉE,(I'.zt q _ yy),ĉG,(ì (.zE Co)),ĉH,PyData.keyHash,ĉI,List.find?_map,ĉK,QJ tR U7=Á,ĉM,tH Ox áV=dH,ĉN,Nat.le_zero.mp,ĉO,ò7 h hc hn hst,ĉS,(zc (zx 9) zf),ĉT,(ū6 "row" Ū),ĉU,List.drop_drop,ĉV,F.A<=8/\F.B<=8,ĉX,o5 tL=↑true,ĉY,by rw[r1];rfl,ĉZ,List.drop_zero,Ċa,ĝ5 λ t ht=>?_,Ċb,h.resolve_left,Ċd,∀ r∈ws,Ő3 r,Ċe,∀ r∈qs,Ŏ9 r,Ċf,∀ p∈ K9,P p,Ċg,∀ n∈r,n<=12,Ċh,(Ï2 w "0" Á),Ċi,by rw[hb];rfl,Ċk,ο2 [ÆI,ÏW],Ċm,turn g b y Y=o,Ċn,by ext Þ;lia,Ċo,(Â (Ź2 lk y)),Ċp,#[ok.a0,La],Ċq,(ě:Int).toNat,Ċr,(λ k=>IK k d),Ċt,Î [MU,Âq],Ċu,ya (lR t1) rfl,Ċw,((ÔB).take j),JV,L al,Ċx,#[[o].toArray],Ċy,(.im (Ã one)),ĊB,(t5.trans Êp),ĊC,(ì (.zE Éo)),ĊD,(λ _ Y=>Y=Ux),ĊE,Å [Ϣ4,rY],ĊJ,_ (neL Ie) hb ÎE,ĊK,_ X (xj op ÔD) t,ĊL,by ext DW;exact wpAny_If åD,ĊM,by let#[hr,I4]:=z0;subst hr,ĊN,_ KR args us vs Q,ĊO,_ Fg qO ÉF q hs,ĊP,by let#[z,rfl,hz,q]:=h,ĊQ,_ [] Wx (upd ÀL),ÜD,by let#[rfl,q]:=q,ĊR,by let#[m1,h1,h2]:=ih2 h,ĊS,_ L1 Y1 Y' ys cs Q,ĊT,by let#[d,rfl,h1]:=Ķ5 r1,ÜE,[_,by cases e;intro p hp],ĊU,_ hy hx hsw hfn hs,ĊV,_ (DX x1 d d1) x2,ĊW,∀(hpl2:zEB X pos2 []),0,ĊX,∀{e o:Expr}{te to:zr},0,ĊY,_ X [e] (ű1 te gY),ĊZ,_ hk () hst hpl ht,ċa,[_,by rcases ķ he with rfl | he],ċb,_ Α (ze IV Ū),ċc,_ [2] (wo Ω) Χ2,ÜF,by rw[hy,zgY] at ht,ċd,by ext Ϗ1;have:=ϧ9;ext Ϩ7,ċe,_ x (b:=2*s+1) ⋯,ċf,∀{lo hi:LN}{a b:ř},0,ċl,show BQ=ē from Àj,ċm,by rw[h];simp,ċn,g8.get? c=↑o,ċo,List (Str × α),ċp,jm F fr p=true,ċr,(tt 1 W).trans,ÄP,by ext Þ;rw[h1],ċs,_ Ek Ň he2 hpl2,ċt,by subst ey;let#[t,rfl]:=rv,ċu,by have hl':HG<16777216:=⋯,ċv,[_,by rcases ķ hc with rfl | hc],ċw,by simp;show hacc,ċy,(tt 4 _).trans,ċz,[_,by rcases ķ hz with rfl | hz],ċA,by ext Đj;show h,ċB,(by simp[hg]),ċC,(tt 5 W).trans,ċD,by .rw[Ç hj,Ç hj];show ξ,ċE,(by simp[kJ]),ċF,by .ext Đi;show#[o,e,ex],ċG,by simp![IF,hx] at h';show h',ċH,by let#[t,e]:=(show ÌF from r),ċI,by let#[t,e]:=(show éy from r),ċJ,by change üy _=_;rw[hc];show hg,ċK,by simp![IF,hx];show ih h,SR,s Fu,ZR,s Gj,HL,x<=y,ċL,Int.toNat_lt',ċM,Int.add_assoc,ċN,Value.isStrOf,ÜG,Ø->Prop,ÜH,∃ o,ż0,ÜI,wX Ly o,ÜJ,H a=none,ßo,_ b ob q,ÜL,k ßo,ċQ,λ b xs q=>n5,ÜM,(ĭ3 h H),ÜO,Da _ hb,ÜP,Inv.call,ċS,(ð2 e2.symm),ċT,PE Ff (tC v),ċU,(h Ŋ _ I hw),ċV,(xj .Or ÔD),ÜQ,tb Ş Q,ÜR,r.inj r',ċW,swapsWithSole,ċX,swappedStores,ċY,λ x c e z=>?_,ÜT,∀ o,SV,ÜU,p.isList,Čc,s.heap.DictOf,ο5,_ K C f,ÜZ,gJ ο5,Če,yT P w H' GN,Čf,(đ uo::Ϲ4),Ýb,I2.after,Čh,æj Ϟ 1 Gv,Ýd,Prod.ext,Či,λ m=>xs[i+m]?,Čj,QT=0/\Vi=Gp,Čk,evalPart_none,Čl,(sP ìa pos),XU,y=Oa,Tn,É h1,Čm,call_list_seq,Vx,LQ.Ā5,Ýe,ã n t h,Ýf,(Å Dx),Čo,λ y hy=>h Oe,Ýh,pick.map,Čq,di N Ñr=true,Ýi,(No hC),Čr,(Mh).2.2.2.1,Ýk,compPost,Čt,cd.subclasses,Ču,cd.collection,Ýl,.dS x us,Ým,Ext H H1,Ýn,S a=↑o,Ýo,ye ό S,Ýp,tb Ĺ Q,Čv,((ϑ:Int) != 0),Ýq,h.length,cz,h ģ,Ýv,Nat->AP,bJ,W Ζ,Ýw,λ i=>ëW,Ýx,x1.Œ8 g1,Čw,(MQ (k-1) 0),Čx,h i j hij hjk,Čz,h.mem_iff.mpr,Ýz,LQ.ş2 hl,ČA,(ć "list" p),ČB,Ïy/\BI/\Yu,ÝA,RelV x a,ÝB,(ng neg),ÝC,(kP neg),ÝD,ItemsAre,ČC,AT (AC fin),ČD,(upd H p Y6),ČE,(Ϧ9).getD rd,ÝF,(Â WR),ÝG,Ĭ ts i,ÝH,zo.take',ÝI,zo.drop',ÝJ,B4 T.bl,ÝK,yj S Z a,vD,(HJ),Åa,_ ts rfl,ČG,key Åa ef,UZ,Î us,ÝN,Å _::ts,qV,om n,ÝO,h.zz a z,ÝP,h.zn a z,ČI,-100000000<=j,R6,.rt t,ÝQ,F'.xP is,ČJ,(Gv-a).toNat,ČK,(hq1.1 r e).1,ČL,(hp1.1 u e).1,ČN,way M h (k+m),ÝT,Iy*32 ^ n,ČO,(yN M h 13).1,ČP,zgR (VP) ÌD,ÝU,Ϲ6=↑j,ČQ,(way r9 m).j,ÝV,LQ.ï0 h2,ČR,K<10*(ś+15),ÝW,λ e=>æW,ČU,hp.mem_iff.mp,ÝY,Se h' xs,ČV,(setAdd Sa v),ČX,Up Px Tg xs,ČY,Shared.TypeIs,ÝZ,entryFor,ČZ,signature?_of,Þa,Ñ7[i] + 1,ča,λ Vo hs'=>?_,čb,L4.Paired.at',Þb,isNone x,čc,#[o,ho,c],Þd,Į "zip",fY,ne (),čd,yG d S1=↑xs,če,Pe ëx xs ys,Þe,hq À h4,čg,(Å7 te tl th),čh,Í (k≥2 ^ 63),či,(Ŧ UY).get?,čj,Gl X "sorted",Þg,insI n l,čk,[AL+1,AL],čl,(âZ)\/Θ3 qZ,čm,Ϲ8=↑↑ FA,Þh,Flow->ϴ,čn,typeLookup_eq,Þi,x.frames,čo,by simp[Ck],čp,(b₀::suite),Þj,[T]++RH,Þk,(Ck uS),čr,(zt a o q).mR,čs,by rw[h];rfl,čt,Ε0 ä3 Q D ç,ču,o8 LA c f si,čv,xU ÆD Á Jg,čw,λ v s' z0=>?_,Þl,(Ϭ5).nx,čx,(zK R (Ż7 F)),Þn,I1.tok _,čy,N8 X G e.top,čz,SC.startswith,čB,gJ K C "kept",Þo,g1.eq c1,čC,upd ϒ3 p ϋ9,čD,(upd H q Ød),čE,Ç7 r2 h2 hk x,čF,Yu/\∃ C,æs,čG,ĸ=↑↑ sg,čH,(nE A3 to u),čI,hf Ÿ0 e5 ît,čK,vq lP lP oj,čL,Ŵ4 st ÇY lP,čM,jg ap.atName,ZT,x.cps,čO,Function.comp,Þr,UA<=640,čP,(ZQ).any ôD,čQ,(ze wa ù ħ),Þt,(wo Èc),Þu,(wo ÇN),Þv,cS (Íe),Þw,(xF Él),čR,(ÅC).run.snd,Þx,h.wa ģ,Þy,(ŵ8 A B),Þz,(jr b c),ÞA,(kY b c),ÞC,vW F l p,ÞG,xO F p9,čT,F9<=16777216,čU,(èr)&&bD m_,čV,Í (JZ<=Ζ1),čW,(rg ĕ).any,čX,(xD (yE ÅP)),ÞJ,os[ϥ4]?,čZ,(Øf&&fu YH),ÞM,(Å sF),ÞO,(Å Ϭ6),Ďb,(s == "keeper"),Ďc,xs.find? test,Ďd,∀ p∈os,ÔY,ÞR,(Â Mx),Ďe,wL (x::r) ÅT,ÞT,l s=↑m,ÞU,d.length,Ďf,(l Á).isSome,ÞV,bZ rows,Ďi,(F.ws.map mK),Ďj,(F.ss.map mT),ÞW,(zhH À),Ďk,[bT b,bT c],Ďl,∀ b∈bs,u0,Ďm,Ε5 ÍO=↑.zB,Ďn,λ wi=>ĕ Îu,ÞX,nX (àe),Ďp,N7 x (ϕ5) 1,ÞY,(xS Ψ),Ďq,(idx_map l d),ÞZ,Å (ϒ7),ßa,(0+ü+1),Ďr,[p,q,W8],ßc,(Ĕ8 rfl),Ďs,(Ç ?_).trans,ßd,Å (ëD),ße,Ł7 st sp,ßf,(zZ hwd),Ďt,(A6 Q7 row),WL,nr ps,ßi,Ã (MO),ßj,Ϛ5++" ",ßk,1+n/64%3,Ďw,[(Øj,Br)],ξ7,∀(o:Obj),0,ξ8,∀(x:N6),0,ßn,∀(h h':Heap),0,ξ9,∀(r:Au),0,ο0,∀(te:TE),0,ο1,∀(vs:À0),0,ßq,∀{tg e:Expr},0,ÄR,_ [it] it,ο3,∀{f:äj},0,ο4,∀{R:æS},0,ο6,∀(m:Str),0,ßt,_ ġ H s E,ÄS,_ X.A sS,ĎD,∀{binds:A5}{m:zSV},0,ĎE,_ FX ϊ3 a t c u,ĎG,_ X "list.extend",ÄU,_ Ff rE,ÄV,_ x y Xs,ÄW,_ QW ZX,v_,_ tJ r2,π3,_ sL hs,ßu,∀(hc:zG rm),0,ł8,_ Ld e,JE,_ L2 S2,ßv,_ o f _ p9,ßw,_ ĥ A E vs,ÄY,_ q.1 q.2,ÄZ,_ qC S Q,ĎH,by ext ËZ;let#[_,rfl]:=v,ĎI,by let#[h1,h2]:=h;ext Ϩ6,ßx,_ Bm hi.pe,ĎJ,by let#[ds,rfl,h2]:=Ôa,C6,∀[Sr R],0,π8,∀(h:çA),0,ßy,_ _ H ?_ tJ,ĎK,by let#[i,hi,e]:=OS hx,ĎL,by .ext Èf;show#[sl,áJ],ĎM,X.H₀ b=none,ßz,âS=true,ĎO,List (Ø × Ø),ĎP,ŵ->Ev->Prop,ßB,(2 ^ 63-1),ßC,Gc _ hb,ĎQ,λ b xs q=>Êl,ĎR,Fm<=16777216,ĎS,(p:Int).toNat,ĎU,by simp![P7,GM] at hlen,ßE,∀(hn:Tg<70),0,ĎV,_ ĥ h' Õ xs Ht,ĎW,_ Ji rfl ur Ji,ĎX,by have:=(χ hj).1;rw[GT],ς0,_ its ns,ßF,∀{xs ys:zAV},0,ĎY,_ Ś9 i1 i2 a1 a2,ĎZ,by ext ŀ;exact Ģ h.mo ÆJ,ďa,_ Hy boot_sorted,ďb,by let#[f,fd,F,hm]:=F,ς5,_ ð H e,ďc,_ Ñx Ác x.slots,ďd,_ rfl (vis _ ∅),ς6,∀{W:zVP},0,ďe,_ ph D Q W hW ka,ďf,_ ôx (a3.new hT),ďg,∀(ho:y7 to) (ha:Wd),0,Åb,_ S (ϯ6),Åc,_ F Sc hb,ßI,_ Ê m k ps,ďj,∀(hb:ËT:=by ext ád),0,Ń3,_ zC ħ,ς8,_ xQ bc,ďl,_ (Ŵ1 Q7 Ω) yF,ďm,∀(cuts:Ś) (a f:Nat),0,τ0,∀(l:RB),0,ßJ,_ (Ks) uQ,ďn,_ rfl (ğ) (ÎG),ďo,∀(hz:Š6 t) (hr0:åq),0,τ1,_ ns at',ďp,∀(hx:Nm x) (hy:Nm y),0,ďq,_ (jj hc) (jj hd),ďr,by rw[e,ς9,xn];ext ÆT,ďs,_ pT _ (DB) (åV),ďt,∀(hg:ÏF) (h:b Y'=o),0,ßK,_ hw.1 hw.2,τ2,_ ⋯ hW,ďu,_ (W8) (ps:=sQ),ďv,_ (hi:=↑ B0) Ö,ßL,_ ns (30+k),ďy,by .rw[Id,zhB h];show Χ3,ďz,[none,↑4],τ4,∀{ks:é},0,ďA,∀(at' many more:Nat),0,τ5,∀(fr:Ś),0,τ6,∀{s:Str},0,Åg,by ext ÔN;show h,ďB,[none,↑2],ßP,ϔ6=true,ßQ,∀{row w:Str},0,Åh,[_,by cases e2;show P],ďC,hZ (qg)=true,ďE,(EW f&&true),ďF,by .ext ñs;show hq VL r2,ßR,_ ↑1 none,ďG,by .ext ñs;show hq VL g3,q_A,[_,by repeat' first | show rfl | ext Ϥ | ext ϻ | ext ϫ | ext ϧ | apply y_ | apply xa | apply uw | apply uz | ext Ϸ | ext HE | ext qT | ext uK | ext XS | ext ϱ | ext Ϭ | ext Ϧ | apply t8 | apply ug | apply uf | apply t7 | show t6 | ext Ϲ | ext ϸ | ext ϭ | ext ϳ | show tD | show uZ | apply t9 | apply uY | ext ϵ | ext ϯ | ext À1 | ext Ϫ | ext Ϯ | ext qS | show Β | show ϖ | show T | show hr | show nd | ext Â4 | show ğ | show Ž | show ο | show ϛ | show Ϻ | decide | show HP | show BZ | show C4 | show pM | show GP | show Cj | show Bw | show Fb | show ix | show VU | show GG | show Gk | show Mz | show DS | show fB],q_B,[_,by repeat' first | ext ϰ | ext Ϩ | ext ϩ | ext B5 | ext ϥ | ext À3 | ext ϲ | show ϣ | ext OH | show Yj | show Ca | ext Dv | apply xv | apply oz | show EO],]
set_option tactic.hygienic false
set_option tactic.hygienic true
namespace PySem.W.Fast
def te14368902547192427675:=0
theorem True:"1I;KlazWC0Huj~u=z]I0<{W1}6w^j0>POs>]d<i035ltpa{Ob0;~hHF|l<S07r]3n1Puh00_bak^N_H0B{yA9M_[q01iMXm7ioY08gD}>9DKR0_4U}S{}kn00`vLfqwv?08EKy:Sa1a0AJI:0V3k60<67YiZT9L02]<JMt<S:03AW7q1Dl203cU}=]UZY0>SJy}fyJ90:OJ7zt=V`0>anNn6gT]0<tvuOF~6^03aGKNHby`0C3;`udIGA0U^Zm`5Wa}0YM]9vd?qR08PppTPiPx0;FB:AwFrh01t[?`k]mz0?l82Di|]F0[U_:A}EDQ0lXhoz^bAN1L;490:S<W01sGSf|~8W0d3btv3FN<0Ti5NUTWF~0WzAWwLQOP0>S~U4:^F[0<0I~3Pv:q0<kLfhq];c03_mqk3_qy0J;XS;]hWr01PQxhqg^f0>wOsE5?Kk0MBnBmI42q0:k5Ar8x;i05Ml_8V}Hv04]kB24imW0N3z>hLx7a09J~cRx2m10>idKY8mRw0I~Hcn8lb3111E9PEO[;07E>5;FOkp0=]tOT9Mya0Bns2xbcfR02x;4E_20W0E7DQweHgG09frKD0{cU0q_5oeB_v204w9lHqVJ?05]:U`}_=l071icYX[b}0qzQQ1]~9T0DCQmZD2kT02nj}WhiB`0A;7KU=]:X02[FJ|u>tL03osX5Qx<A0;[bS8FxFv0GC8;RT9a<0[5Bzpnqnq0Q2F04xPYE0qXw`]:<`P08~zN2waoi0Cr[Crunll0AggNP<7Db07pgI{rpTP08tqDFkQck0Qh5zd^[200eFOqc;LF61R=oFR`MB=0M[wiJTnOH025wh1`aVr09uKBwbxGP01z=nYmXOv0L0=>zHt?402AsFmAs|[0TSdmmC4Z>0X0T0QV9yG08}[jx_pp_00tle8LFRH09~BKg{uf508;|9D;Ig:0]XxrDy2cf0=8c~~U2eO037fdc}Vnn0]DRBU`9Wr04j|cBTKey0`T|z8i^fs012:5?[<fo0VjW]JM]pv0BeKQjgOgK0?O8qULLV}0B6_AzTtH`0GJvsM^QZ<0D=8{wf]C}0>yv5>idGW0DV3;Kl8jN0c25ghzZQ301lqmZTSHt0RLxSNqd8800xIpYC<L[0Lx3fEQrT{0;gOJFeKFb049r`3wr4J0<J0nHHeLz084ezLC^Fn02Vt~RO7EY0;TZ|8BaWS0`u;jRzcpI0G14axPc_a0Uz}{Hq_aN08z>G1E6rw0=n[X||9gt0:ptZk90w20;xfH<1w900<OwBPJA3m0LBfJrYr>t0T`HaCB:DN09::T81joP0TjhYrAfU70;QhnNT<UN0TaAw=FO3;05L9FOa[oV0=7s6XRev909qTa[GeOW09kjIB6oY80TPdgXbK8X0<Tasc^B^402<NTe^vf{09p6zxypf103}gJEGBCx0Y9eqX|NBI0?C2p1GvUv0?UG4S=>ai0_485N~[B00JZCSh=|YV0310e08j`a0=vX|VzSgY01j1M]]}z002`RMhdKHb0P:A8SeF2]1Iy_fpASsf04[GR^?bb_0Iz=a>d;~a03mnI2k^_I0;F~NRv;Sy06x9bu6;eW0IMGr;SA3M08]}<EnCK;045jb<B8|p09Vt]n=^SX0?[zWk[s}T0<>`n6G6X=0J4jbD>EE205`~4N:?4T0JDy3g:3US0GAEo`{3tr04Fi}RktI`0:~sAQpSoc04pa7|ihy;0<C:L77a2o027eVby{;I0X^^o4h64M0BBfmf{l5M0?P<ntLWU50WLxc=^s9S06hMvL}W>l0Ra5G<i8BD00|?b2B>fA04ZzkjW<Ia0Fzs1LEBox0R}9p3mQth0F|uC<=o;h0x^^h_;wUk07rE^BG]7c02A>mnAkm{0FPnjU`_C?0HJKaS`~J709Xzirg9I_01Q{MBhaU~0ALvoH=V[Y0:3{YMV>>J0er]NbX>r{0={G3Lr[PV0<uY4GN~^D048ADg3Uqd0?jc2]Od^B07fZ5r;>W]0O1fpl7N}V0<8kYE<7l50ectC5vyDj0GuGT2qE3R0a~gBe5;rF0DtIJqcHv>0B<M[rXRYD0T7iJJs|=q03yvfA;}S`0;7c?SFfQS04q]AlA^;G09Gw=LJJ?{0ARTk}T<2V03G089MPoH00jigyGdop0K[G5TJ`TD0GHiD<[WLP08_Lf>G_Bz0lBntPoeNY0FP>=lT}Du0JoiG0=TcQ0TQLlel0Q}0>2cOAA7SD0BZ`h64Y6M0:d5rGDlDN0>VBhUEbrd0ib>s0st8^0lcQQWW3?g02Ei<M_NUB01`Z^>O{mX05wR[K|}?N00ZKC468=^0?4t{]W>Ls0:CvS>`]a2004J~c]s=207Sw3uzNen0U}NeFXXiU0<81qe0hWc08Y[kWq1Oz03C`Lta3O40DSzBhkFS704_:V1N8Qn07E=uM`ffp12td=o^ER10D}{Sk~zq30>Dxk=7:R^09Mu0iO9lT08Kd<|Eu9y0[}rM3|m7502AD9v6=y>0Nj7eH]ZA]0COOLb]Di308bnh;pmdt00_}pOdE9J06jPGD1NMm0T?O_aF[sT0052^zpYuV0BBpbM~5qL0Co4WOm]S{0vkOSf~mUj07JM0C]vQ908=sMG[LYR0OmsoM8HbJ0KbQT1Yz~60PTFYajc3w09A86g04:[0<SXM6JfgT0`7;qqPTYp02Nqy6ewAd0N76f2Gx>r09Q;zKT[J706_a?vZTN30?F8?W=N=:0:<kmn_C;90NwX=eSH]K0;FLI_MJ1z0AWga|nijv0DJR[mRwPA04n_w?8fY10GHw^WDPF{0;kIi8i6t80RzY`9]lyl0C}4|]OVeM0E[qOp>GOf0<scxf3WMM08W9K[kNz]08VxXoYbyQ0:nYbrRVrL08<;JyR7I;09J1iQj?3|0AoT}X[x[Z08iI8KwZI^0C^v>^?UJo07TGEW4b<x0?DBOUuOQA00Clty}nNW03e}w~=4Oj0;fYSGFr2w0Too<Svye<01~Z<uE3gF0Aq;Vi`uVP0:=]sQHbIu0MVc_ioZxv06fgJ:W_~H0:<{H7aunp0Ig>xtZAf{1481fTt~[e03>Yrf7Uzz1;G3W1GIAN0HVeO2BHp60OWffx{c;J02m;k[g5ug0EP{1LyyAy01m24<J?~A0=?{JN{Kh[0Ag_k=c;l801L8R11QFo0NU}`aAE=G09BAw0YY3q0L3zK69C:008NcyS=7_u0Ja1[8LRC30RkVpdSkAs0SNEPrW|fa1813l>b0Oi0kE4iPCHn80MR5H_Gz[=05aX^BO=h~04G`a[|Gz`04`N2uxjRZ05qaNX}DeE03`N`TjD}e0QEi8Z2g3j0x|d;zptdI069dTC]UJK07_drAPNhB0OeC8xbDuF0?j`1Z^c9D08^~X1k}Iy0FU^=8Z<[x0D<3nn3Igi0;_NNcUM<f0?_2PqkWy>08zQVob_6F0;uLF~y~oF08u08Zg=GF03H~6y}Z1O05gWfmRlz30F;hybCfVu0:b2ZiYWVD0Uu7A}>maU08aghU=Ca40D_uelRNWh04M[>Uxam<0>z{l1{vuL0;4Xl`Kxeh0Cliq9HdDj0?6yX}Ma3G058Up[c[sm0FsvdRrjoc00ttfXJ`}R0DU{?^z8vA0MNQ8B|KVT05T:]Qk]~P06h>MYh[U[0c3]tD:W~]0I>~_Fr?io0TRoDm<:;B07y~3f1F;c09wiUZ9Nd505Z9m1Fm]I06IhjR_v`H0<znPgku~b00kzy3dL0809bcl6aZr30OcS{E[v_N0Dy8q:jVf80KBl[<^W0v0;3CW[WZE{00JzFh{;_`0F4i4yC8dR0?89lr{6I=0Ejjx5Mh=e0?}p5l|gDS0J9Yz4oKX103x^Qy3VYi0EN5Zxe}k=0;y>0}y}KR03Ch[GsNMc0=eJJm;RO{021MEGtA:O0EU_S?KUcp0A[l>SG:c~0C`EQhl4<?0ANJshFY?F0:wHFGjzV?0;lQH0qp5c0089N4w14E09eUgZmtAX0WkQpns_fa04;JzK5iaA0L1KMc3UpG10ru?PE{^>06r{cCu8tU0<]{h3I8L;04_lZ0dy;Y0:OqRf:mFM0EZ=:MCt`<01Yi?qkT1^00jYP9R8Yo11Rg>}0dxy05XZWBEETz0:^9=hlgS}08eKNbgWB]03lhUwG?Qe09eCte^=vT00ILmXciE10D>`QHmoIL02M2seyil:0OQhj3=zfe04dXQtcCu|03P~c46bOH0:r8sI|d]h04kg2`HQiQ0PqlIpF_i>02~YPwaM6001:ZpNK`W00FMq2[bZdQ0LMbi}Ch<I0?uk:VjRj802PHrI52iH0CapZsBMV50DEYA={6<A0?lz=Jl:JI010D_HplJX0CKSyeFgr:0dXumdoIIK0FE=|0EUNX03vBHhYPKh04:[15[cJl0;o{<gGr]H0aN7IFPl>r0o7WUEq8G805qnqzRq^I0=kOe3}w==1=2KYCMbCH0D5`ETRs9L00_<3Y_Bk>00zhRASNC[0~`dAUiMJn0=qkHKU10V01elIILh3|01W?K[_F><0k>zWp]hAx0FKCR2jG??0LZ>qRJ7R=0:bT;l1vM90Dt<nR~YGn09HiRu;u2M0A4WFfKE420PWla49?Y`0>{3k;g>p~0002|RTd1]0CX~7~:{:X0W0jG9abB~0N;zAKAx1L02tR0nGv^N0]e~DBU2jG05QJPC?vPi0961jyTJjL0H73BKHdBp0?8SKP_7Ly08]s=kuttq0H^Guf;GD`0SVwHsNluU02l{^01uh709Kb4pR94y0BvR=8qrwg0]VcBL2}u~05~wv|Ftvo04sKvpZMwq0:d4EKrLwj0LE3XXB[rd0Fgh{szf]k0OMDd_x35]0b2YB]?oi=0AbG_Nvy^103JFe:12pX0GTjK;5dUp0GJsDS?7qN05fc]Xrm5j0oL{FBAIYt04ekF`83bi09opc}nQmL00kC6F6kh{00Bh~h43?z0<A7[Zz>w703F2ec9}5^0G^M0L80`d0^8CoUh>II01Kc3jI[OY04LCWTZiMH04pz<>UQt?02o|<Y5:G]03^E_X<UX[09xouRu1g<0KhGts2g>a0;j_DxQY>e0Bl7J?>:8F0<^`5pO=:T04USNw^=nH0=r90cy8dM0FyRaHBOnV0?Cesk08F9099GoiRs9:0jg57=Sj_b09}V{Vb9tz0uXSb5w09R0?JX~9:Jts00=gv7o}eI0EhAVO4ix10Sl~FNIZ{O0:z5aZcLzP0U;AycUuTH08Nj6UtNJl0HP?V=cIIQ0E~YQ;DV:508OIy93qZl0=s5PiGQvb06jydRbkYF0GxGcIf{nJ0H?ifD9_3~028h;JG=HR02P61V3`3w06_arOtAv~0AphHz]c6G0CK<2M|i0x03mm~B>>3P04>1]PdHKO04;=?p^Qaq0L<?e2{u^A01zh|<;[}s0=H?48G}?:012ygm;8Bn06CGokwlBT0I]<tc:6e[0;ycTIcA4r03N}9yGq]K0=[92MaOkk0XFzFAPoRc08BtN;;4rn0DAuA7s1KV0;DsZX>bE^0^VCb:nA~r0=R~h}F2IZ1I]P0qAltt000d=Zn^I{09yihbf~1[00<U{~c|zt03AeQUbhTR1?nVUl_jiF0DjLLVYkpd0H9e~nBN960894Lx>9vC0Ca_FRSr9i0IJdiLreGa0QU~:GJtIQ04};9pv^az07UI7XSj8d0AmYK~HM`}0k]=Obf>uN0JdJvOzQed06Q[C`~f350]u?|UVkmi0ECzlRu4uP0W13F{AUf_0JmdzvypaJ09bZi_UTq}036rRxuks203g:P?;29R07YNlS9yK[0BkR`ZOeHg0:aQbEU2BG0Y^FU2v|K}1CnaOcUrRU07JO~Vk}rU0FmkYRVv^Q0ESOv;G0sn0dzeKe5Mbz0>9DKSh`{r0U^T8wY2r=03z4]][mh10eIbBCqdPW08QT_A01;F07[;NQJn^n0?Czitbsc`05prIwxGhG0:647Nu>D~06AIlTG}o10>J[RhZTIP0I1qp~Mxq]0N~_b>kbDX0D8zQD|58a07WouEI7H_0:0spN^xQ704GXk7LBKL0Mjt=~gKul0E52YZpucS00B|p8IzWI0C_Gfm14:`04DzNT}R?m0BN8?z1jco0:5L^N8<~I0;>u;[aAxL0?RsQ0a6iE0K0UfzI5G90ruT9tkE}z1Xs3lva{{`0;hHgI1^ZS0`]u3;~|Vc0P^7eu{vp50pbIb:;nlh0Gi0]G0uIr0B0PkKM|;108C`FY7Ocu0m7BD?NRZU0HT|w>rjG=08PhSDd?]b07KVDH>]H{0Dswa84I=702poSW?zzd0GGP^9B}~k0>RHi||n5007DKw3k6GQ00>wDahWR?04zot26]tf05z<z?O~aY0Rhto8;imc0CW2wRarol07c2ZwhrlN0k2Oh^5v>=0<gijzC1ND0s>=B5YXMD085gN3?sns05{?GNID?706AG9MWZt:0=A1>=]nM]0?PvcNz}fE0g{Uanloja01O3Z<fm^U1VIIC^lX6p0D:BKsiyz|0;xS_6>xP304~yf;zDP?0?Q[8Lhxlc0CKLatX^xR06~~uaFAQO0SYy{cBpNN0E0}5[i[KL0PIRI`H;640hBfY;u<250;=03dBzBp01Cv7ZT~jH0YkF2C~l2|02OqQQA^^Z0K~17H3dUi00feOCUlnm01QQy}}kZs0N`N^s2BS}02=>ex117{0306|`Y2X30LFRJBWVp80So_}sFnx}0AcT3Gj`L?0OX`rlrABv0<Z0u5jhJx0CYwC7HHqE05epl2u][d0EcJxN;mJw0B7ejRNDe70spZj7A68;1DV<f_r3;l04Pr2LhT=707xm;_ye6U0xDWHGV_QG0PxPQ1[;Ge01s~_OL3~s0C}aAWfXa?0vV1NEQEFh0L1wYO=MlC04r~o2fE<m0Al5V?3dZL0<o9O1lDuf03ioxs8]<F04JgI~c5Sv0<eW|DtOOF0HW[F>zc0]04UQH;5F5|008DFT[EQI01nb{0B|cr0SEU}iZgHK087zgp5b9U0KVBPo}7R`0VRe2KtR1m09Yg^1Nk0c0;VWXtEA6|04?PI|T:830J;G7gYpuv0?1AUJ^gno02~`tose=U0VzRStr2o70Oka[miN>c03Hol{?`Y|01G3bU{aVY01?bOowZGo0Y|A3;7bmR03Vhj]z^^<0DL5A_=K8^09H?;hzWzy00P[Fx[hmO0G|PmvyPXY0IvnjoWZn_0NXA`6zHGw00<Vgmh?Ic0>pU;?tGf{00|7;fMI4f01Xr5uV~3R0XFatQ~21O0D5Z>==xvA0=Xjb3edw`0W9i?RZAdS0Flc6fdH7U05QAyUcCJH0fCr|>Cd3N0WQuO]X^1~06lPxhtzi_04o[GFLIep0_JtH>ER}50BQ5kl__W}04cMz[UW6i02^hX2;Smp07gf>7?]KN03H]>TON^Z0=FEXT`Gt20C}Pd_[DsD05{WqO}tbb0E^PtHaK2o0Emn{I>N:y0A<rrJOz^W0LsLXDH<pt0DBL^^vSaU049J]m`vcU0<;wiG6D~;07QBJ=83xb09s[izx:qK09{W|feUA60G|Ei3UkUM01X8H6R;[a09r2LKt]ZE020H|d~;Ng0kk0n0Gu{T0>k^qit1z|0MZrMv~nBQ0B7:ix2X[>00SB<3PRX002f|J=M_d?0WFNoz]0940=7k2sQEum01W|R<g]b10;~cQ7`<EM0I{LLmAGm402eW~L_<G00R7{EiMxPC0:6T57s5id0<C4oA8Zk703F~4sPd9|0Es0T5sUex0HRslV20Fr00ZM<hilu>0O;cL=O`jR05cSt[=S7W0JrP_6V0T80<GDOLZ;mn0C270Q~ccN0L`kkny_J505}<TNj7o[0Y~eE0Ris502[5mY>Oms0AvwtdVjZS0i|g]CFa4T01U3J|m<Jf06S;QD]UJe01CKT?j4UR0=_LBOPA]`06fFfH?{vH":=trivial
theorem tw:True:=trivial
end PySem.W.Fast
section
variable {G:Prop}
section
variable {p q r s t u:Prop}
theorem E_0_1(h:p) (f:p->G):G:=f h
theorem E_0_2(h:p/\q) (f:p->q->G):G:=E_0_1 Β1
theorem E_0_3(h:p/\q/\r) (f:p->q->r->G):G:=E_0_2 Β1
theorem E_0_4(h:p/\q/\r/\s) (f:p->q->r->s->G):G:=E_0_3 Β1
theorem E_0_5(h:p/\q/\r/\s/\t) (f:p->q->r->s->t->G):G:=E_0_4 Β1
theorem E_0_6(h:p/\q/\r/\s/\t/\u) (f:p->q->r->s->t->u->G):G:=E_0_5 Β1
end
section
variable {α:Sort _}{p q r s t u:Án}
theorem E_1_1(h:∃ a,p a) (f:∀ a,p a->G):G:=ë λ a h=>E_0_1 τ
theorem E_1_2(h:∃ a,p a/\q a) (f:∀ a,p a->q a->G):G:=ë λ a h=>E_0_2 τ
theorem E_1_3(h:∃ a,p a/\q a/\r a) (f:∀ a,p a->q a->r a->G):G:=ë λ a h=>E_0_3 τ
theorem E_1_4(h:∃ a,p a/\q a/\r a/\s a) (f:∀ a,p a->q a->r a->s a->G):G:=ë λ a h=>E_0_4 τ
theorem E_1_5(h:∃ a,p a/\q a/\r a/\s a/\t a) (f:∀ a,p a->q a->r a->s a->t a->G):G:=ë λ a h=>E_0_5 τ
theorem E_1_6(h:∃ a,p a/\q a/\r a/\s a/\t a/\u a) (f:∀ a,p a->q a->r a->s a->t a->u a->G):G:=ë λ a h=>E_0_6 τ
end
section
variable {α β:Sort _}{p q r s t u:ŏ6}
theorem E_2_1(h:∃ a b,tQ) (f:∀ a b,tQ->G):G:=ë λ a h=>E_1_1 τ
theorem E_2_2(h:∃ a b,tQ/\q Ñ) (f:∀ a b,tQ->q Ñ->G):G:=ë λ a h=>E_1_2 τ
theorem E_2_3(h:∃ a b,tQ/\q Ñ/\r Ñ) (f:∀ a b,tQ->q Ñ->r Ñ->G):G:=ë λ a h=>E_1_3 τ
theorem E_2_4(h:∃ a b,tQ/\q Ñ/\r Ñ/\s Ñ) (f:∀ a b,tQ->q Ñ->r Ñ->s Ñ->G):G:=ë λ a h=>E_1_4 τ
theorem E_2_5(h:∃ a b,tQ/\q Ñ/\r Ñ/\s Ñ/\t Ñ) (f:∀ a b,tQ->q Ñ->r Ñ->s Ñ->t Ñ->G):G:=ë λ a h=>E_1_5 τ
theorem E_2_6(h:∃ a b,tQ/\q Ñ/\r Ñ/\s Ñ/\t Ñ/\u Ñ) (f:∀ a b,tQ->q Ñ->r Ñ->s Ñ->t Ñ->u Ñ->G):G:=ë λ a h=>E_1_6 τ
end
section
variable {α β γ:Sort _}{p q r s t u:α->β->γ->Prop}
theorem E_3_1(h:∃ a b c,CB) (f:∀ a b c,CB->G):G:=ë λ a h=>E_2_1 τ
theorem E_3_2(h:∃ a b c,CB/\HA) (f:∀ a b c,CB->HA->G):G:=ë λ a h=>E_2_2 τ
theorem E_3_3(h:∃ a b c,CB/\HA/\xf) (f:∀ a b c,CB->HA->xf->G):G:=ë λ a h=>E_2_3 τ
theorem E_3_4(h:∃ a b c,CB/\HA/\xf/\SR) (f:∀ a b c,CB->HA->xf->SR->G):G:=ë λ a h=>E_2_4 τ
theorem E_3_5(h:∃ a b c,CB/\HA/\xf/\SR/\t Fu) (f:∀ a b c,CB->HA->xf->SR->t Fu->G):G:=ë λ a h=>E_2_5 τ
theorem E_3_6(h:∃ a b c,CB/\HA/\xf/\SR/\t Fu/\u Fu) (f:∀ a b c,CB->HA->xf->SR->t Fu->u Fu->G):G:=ë λ a h=>E_2_6 τ
end
section
variable {α β γ δ:Sort _}{p q r s t u:α->β->γ->δ->Prop}
theorem E_4_1(h:∃ a b c d,EY) (f:∀ a b c d,EY->G):G:=ë λ a h=>E_3_1 τ
theorem E_4_2(h:∃ a b c d,EY/\JX) (f:∀ a b c d,EY->JX->G):G:=ë λ a h=>E_3_2 τ
theorem E_4_3(h:∃ a b c d,EY/\JX/\JH) (f:∀ a b c d,EY->JX->JH->G):G:=ë λ a h=>E_3_3 τ
theorem E_4_4(h:∃ a b c d,EY/\JX/\JH/\ZR) (f:∀ a b c d,EY->JX->JH->ZR->G):G:=ë λ a h=>E_3_4 τ
theorem E_4_5(h:∃ a b c d,EY/\JX/\JH/\ZR/\t Gj) (f:∀ a b c d,EY->JX->JH->ZR->t Gj->G):G:=ë λ a h=>E_3_5 τ
theorem E_4_6(h:∃ a b c d,EY/\JX/\JH/\ZR/\t Gj/\u Gj) (f:∀ a b c d,EY->JX->JH->ZR->t Gj->u Gj->G):G:=ë λ a h=>E_3_6 τ
end
end
namespace LQ
variable {x y z w u e f:Nat}{i j k l m p q:Int}
def Ō1 (x y:Nat):min rG ÂW=((min x y:Nat):Int):=by
 rcases Óu x y with h | h
 .rw[þR,zhI üQ]
 .rw[zhJ h,zgI üQ]
def ļ3:x=y->x<=z->y<=z:=λ h0 h1=>ćY h0.symm h1
def n1:0<=rG:=üR x
def n3:¬x<x:=zE1 x
def Ų1:x<y->z=y->x<z:=λ h0 h1=>üS h0 h1.symm
def n7:i<=j->j<=k->i<=k:=GB
def n8:x<y->y-(x+1)<y-x:=Nat.sub_succ_lt_self y x
def ů8:0<i->i≠0:=λ h0=>Ł (Int.ne_of_lt h0)
def Ê4:x<=x+y:=Gg x y
def Ļ3:x+64<y->z<=60->x+1+z<y:=λ h g=>P1 (ÑU x 1 z▸dO (BY (dO g 1) ()) x) h
def Á2:x<y->y=z->x<z:=üS
def fA:x<y->y<=z->x<z:=KE
def Ō3:x<=1000->x<=10000:=⋯
def af:x<y->rG<ÂW:=Int.ofNat_lt.2
def Ā5:HL->x<=y+1:=Nat.le_add_right_of_le
def Þ8:i+1*j=i+j:=⋯
def ě8:¬ DI->i<0:=āJ
def Ļ1:1<=x+1:=ϗ1 1 x
def ş2:x=y->HL:=NL
def bX:0<=x:=zD4 x
def Ř7:x<y->y<z->x<z:=ð3
def ń9:0<x+1:=āK x
def Ŗ0:x*5<y*3->HL:=by omega
def õ3:Øl->x+1+y<=z:=λ h=>Nat.add_right_comm x y 1▸h
def İ1:x<=y+1+z->x<=y+(z+1):=⋯
def ő3:x+1-(y+1)<=z->x-y<=z:=⋯
def Ŝ4:x<y+1->x≠y->x<y:=λ h g=>zh4 ÂX g
def ç9:1<x->x<=1+(y-1)->HL:=λ h g=>by
 cases y with
 | zero=>show á (KE h g) ()
 | succ y=>show f8 1 y▸g
def Ġ0:1+x<y->x<y:=öF
def Ű2:x+y<z->y<z:=öF
def Ŏ6:x+64<y->z<=60->x+z<y:=⋯
def Ŋ5:DI->i<rG->D_<x:=λ h0 h1=>(Int.toNat_lt h0).2 h1
def ż2:HL->z<=w->x+z<=y+w:=Nat.add_le_add
def Ψ6:i<=4->i<=12:=⋯
def Į8:x=y->y<=z->x<=z:=ćY
def ä7:Øl->x<z:=Nat.lt_of_add_right_lt
def č2:Øl->x-1<z:=λ h=>P1 (ϳ0 x 1) (KE (Nat.lt_add_of_pos_right y.succ_pos) h)
def Ġ3:x<y->z<=x+1+(y-(x+1))->z<=y:=λ h g=>zh5 h▸g
def Ś7:HL->x+(y-x)=y:=Nat.add_sub_of_le
def ï0:x<y+(z+1)->x<y+1+z:=⋯
def Œ7:0+i=i:=Ϫ0 i
def Â3:¬ rG<ÂW->¬x<y:=by omega
def Ĺ6:HL->min (z-w) (x-w)<=y:=λ h=>BY (zh6 ..) (BY (ϳ0 ..) h)
def Ø9:max 0 (min i rG)=öG:=by
 cases i with
 | ofNat k=>show (Int.max_eq_right (Óv #[þS k,þS x])).trans (Ō1 k x)
 | negSucc k=>show (Int.max_eq_left (GB (ĄN ..) (Ż9 (Int.negSucc_lt_zero k)))).trans (Ó Nat.cast (Nat.zero_min x).symm)
def ß9:x≠y->HL->x<=y-1:=λ h g=>zgJ (zh4 g h)
def Û4:x<y->z<=z+y-1-x:=λ h=>by rw[Nat.sub_sub,Nat.add_sub_assoc ÑV];show Gg ..
def č9:x<y->z<=x->z+y-1-x<y:=λ h g=>by
 rw[Nat.sub_sub];show ñN (BY ÑV (ϗ1 y z)) (ùc (P1 g (f8 1 x▸UF x)) y)
def ê8:x-(0+1)<=y->x-(0+1)<=z->y<x->z<x->y=z:=λ h g p q=>ĄO (BY (zgJ p) g) (BY (zgJ q) h)
def Ĺ9:x-(y+1)<=x-1:=ÌN (ϗ1 ..) _
def ł7:x<y+1->x≠y->y-1<y:=λ h g=>zhK (zh4 ÂX g)
def ħ2:x-y<=0->y<=x->y=x:=λ h g=>ĄO g (Nat.sub_eq_zero_iff_le.1 (Nat.le_zero.1 h))
def ĸ3:x-y<=z+1->(y+x)/2-y<=z:=λ h=>by
 rcases LT y x with q | q
 .show zfQ (KE (Nat.sub_lt_sub_right (ÌO (Õc y▸dO (No q) y)) (ùd (Nat.two_mul x▸ ùc q x))) h)
 .show zhM (zfQ (ùd (by rw[Nat.two_mul];show P1 (dO q y) (Nat.add_lt_add (UF y) (UF y)))))▸zD4 z
def Ľ6:x-y<=z+1->x-((y+x)/2+1)<=z:=λ h=>by
 rcases Óu y x with q | q
 .show BY (ÌN (Nat.succ_le_succ (ÌO (Õc y▸dO q y))) x) (Nat.pred_le_pred h)
 .show zhM (þT (ÌO (Õc x▸ ùe q x)))▸zD4 z
def ę9:max x y<z->x<z:=λ h=>(ćZ).1
def ŏ7:max x y<z->y<z:=λ h=>(ćZ).2
def Ŋ0:i<=j->j<=i->i=j:=Int.le_antisymm
def Ť6:x<y+z+1->x-y<=z:=λ h=>zhN (f8 y z▸zfQ h)
def Ĥ4:x<x+1:=Nat.lt_add_one x
def ŏ4:min x y+(y-x+1)=y+1:=by
 rcases Óu x y with h | h
 .rw[þR,<- ÑU,zh5 h]
 .rw[zhJ h,zhM h]
def ä4:x-0=x:=Nat.sub_zero x
def Ý9:x<64->min y x<64:=λ h=>P1 (zh6 y x) h
def ě9:i<=12->D_<13:=λ h=>(ċL ()).2 (ùf h)
def ľ6:Øm->i<=j:=λ h=>(Int.le_min.1 h).1
def ť8:i<=j->i<=k->Øm:=λ h g=>Óv #[h,g]
def ê9:DI->min (min (j+k) l+i) l=min (j+(i+k)) l:=λ h=>by
 rw[Ów i k,<- ċM];rcases Int.le_total (j+k) l with q | q
 .rw[zhI q]
 .rw[zgI q,zgI íy,zgI (GB q íy)]
def ķ8:¬i<j->j<=i:=Ϫ1
def þ9:HL->min y x=x:=zhJ
def ĝ6:i%26<26:=⋯
def ĺ9:i%2<2:=⋯
def Ī4:i=j%4->DI/\i<=4:=⋯
def ó8:¬i<0->min i rG=öG:=λ h=>by let#[k,rfl]:=Int.eq_ofNat_of_zero_le (Ϫ1 h);show Ō1 k x
def ć8:(rG+ÂW*1).toNat=x+y:=by rw[Int.mul_one];rfl
def Ć0:min (x-y) (z-y)<=z:=BY (zh6 ..) (ϳ0 ..)
def Ì5:x<=y+(z-y)->y<=z->x<=z:=λ g h=>zh5 h▸g
def Ğ9:x<y+1->z<w->w<=y->x-1<y:=λ h g f=>P1 (ùg ÂX 1) (zhK (KE g f))
def ą6:x<y->y<=z->w<=y->¬(x<w/\w<=z)->w<=y-1:=λ h g f k=>BY (Nat.not_lt.1 λ q=>k #[q,BY f g]) (zgJ h)
def Ã6:x<y->y<=z->y-1<z:=λ h g=>KE (zhK h) g
def Ã9:x<y->max x 1+(y-max x 1)=y:=λ h=>zh5 (Nat.max_le.2 #[No h,P1 (zD4 x) h])
def Ð6:x<y->z+1+x-y<=z:=λ h=>zhN (by rw[ÑU];show dO ÑV z)
def ü9:x<y->y-x=y-x-1+1:=λ h=>(Nat.sub_add_cancel (Nat.sub_pos_of_lt h)).symm
def Õ6:x-y=z+1->x-1=y+z:=λ h=>by rw[show x=y+z+1 from (Nat.sub_eq_iff_eq_add (No (Nat.lt_of_sub_pos (h▸ Óx z)))).1 h |>.trans (f8 ..)];rfl
def Ì7:x<y+1-z->x<=y-z:=λ h=>åj
def þ2:x<y+1-z->w<u+x->w-u<=y-z:=λ h g=>BY (zhN (f8 u x▸No g)) (åj)
def Ó8:x-y=z+1->x-(y+1)=z:=λ h=>Ó Nat.pred h
def Ç5:i<=j->i<=k->l<=m->l<=m/\Øm:=λ h g f=>#[f,Óv #[h,g]]
def Ä5:i<j->i<=k->(k+1-j).toNat<(k+1-i).toNat:=λ h g=>(üT (Int.sub_pos.2 (ùf g))).2 (Int.sub_lt_sub_left h _)
def ċ0:DI->j<rG->i<rG->y=x->HN<y/\D_<y:=λ h g f e=>by
 subst e;have p:0<y:=Int.ofNat_lt.1 (üU h f);show#[(ċL p).2 g,(Int.toNat_lt h).2 f]
def å3:DI->i<j->D_ ≠ HN:=λ h g=>FS ((üT (üU h g)).2 g)
end LQ
namespace L2
open Ë å Ô
abbrev Key:=Sum Int Str
def dU:Key->Ø->Bool
 | È k,v=>Õd k v
 | Æ x,v=>ċN x v
def î0 Ċ:Key->Int
 | È k=>hashInt k
 | Æ x=>hashStr w x
theorem ib:∀ Hd CN,dU k v=true->(∃ i t,k=VW i/\v=û4 i t)\/(∃ x t,k=C9 x/\v=ÚG x t)
 | È i,v,h=>by
  let#[t,e]:=ÍZ (k:=i) (v:=v) h;show È #[i,t,rfl,e]
 | Æ x,v,h=>by
  let#[t,e]:=Value.isStrOf_shape (x:=x) (v:=v) h;show Æ #[x,t,rfl,e]
def Ô3 C8 Ď7:dU (È i) (Pp)=true:=by simp[dU,Õd]
def ι6 ĩ Ď7:dU ò4 (Ã x t)=true:=by simp[dU,ċN]
def Þ9 Äy:Í (Õe=VW b)=(a == b):=by
 by_cases e:a=b
 .subst e;simp
 .have h:¬ Õe=VW b:=λ q=>e (Sum.inl.inj q);rw[FM h];show (ED e).symm
def Ď9 sd:Í (ϭ5=C9 b)=Í (a=b):=by
 by_cases e:a=b
 .subst e;simp
 .have h:¬ ϭ5=C9 b:=λ q=>e (Sum.inr.inj q);rw[FM h,FM e]
def ċ1 (a:Int) (b:Str):Í (Õe=C9 b)=Á:=úO
def Ð8 (a:Str) (b:Int):Í (ϭ5=VW b)=Á:=úO
def vJ E4 Ċ:PySem.KeyKind ĥ Key where
 is:=dU
 hash:=î0 w
 inj:=λ v a b ha hb=>by
  rcases ib ha with ⟨i,t,rfl,rfl⟩ | ⟨x,t,rfl,rfl⟩
  .ext åC
   .ext Õb;rw[e1]
   .show Ι3
  .ext åC
   .show Ι3
   .ext Õb;rw[e1]
 byValue:=λ k v h=>by
  rcases ib h with ⟨i,t,rfl,rfl⟩ | ⟨x,t,rfl,rfl⟩ <;> rfl
 pyHash:=λ hv h=>by
  rcases ib hv with ⟨i,t,rfl,rfl⟩ | ⟨x,t,rfl,rfl⟩
  .show wpAny_pyHash_int h
  .show wpAny_pyHash_str h
 eqBool:=λ hu hv h=>by
  rcases ib hu with ⟨i,t,rfl,rfl⟩ | ⟨x,t,rfl,rfl⟩
  .ext äH
   .rw[Þ9] at h;show wpAny_eqBool_int h
   .rw[ċ1] at h;show SeqAt.EqAt.int_str i t y u ĉ h
  .ext äH
   .rw[Ð8] at h;show SeqAt.EqAt.str_int x t j u ĉ h
   .rw[Ď9] at h;show wpAny_eqBool_str h
 «strs»:=λ k x t v h=>by
  rcases ib h with ⟨i,u,rfl,e⟩ | ⟨y,u,rfl,e⟩
  .show Ι3
  .ext Õb
   subst e1;cases v <;> rfl
def á3 E4 Ċ C8 Ď7:(vJ ĥ).is (È i) (Pp)=true:=Ô3 i t
def ĉ0 E4 Ċ ĩ Ď7:(vJ ĥ).is ò4 (Ã x t)=true:=ι6 x t
inductive V where
 | zB | bl Ed | int C8 | str ĩ | Zq (b:t_ UInt8) | Ta (b:UInt64) | ref Ŵ | ty (n:ń)
 deriving ϭ6
def RelV:V->ÜG
 | .zB,u=>u=Hr
 | ω,u=>u=Β8 b
 | Ą,u=>ÌF
 | ů,u=>éy
 | .Zq b,u=>õh
 | .Ta b,u=>õi
 | œ,u=>u=đ a
 | .ty n,u=>u=sU n
abbrev Vals:À0->BO->Prop:=Γ RelV
theorem Vals.length Ę Ο(r:qN):ò=Æ5:=GX r
theorem Vals.get:∀ Ę Ο ă AW,qN->ll->∃ u,us[i]?=↑u/\Ě4
 | _,_,_,_,ä,e=>ÚH
 | _,_,0,_,ã r _,e=>by ext Ι2;show Ĉa
 | _,_,i+1,x,ã _ t,e=>by
  let#[u,h1,h2]:=Vals.get (i:=i) (x:=x) t K1;show#[u,ĄP,h2]
theorem Vals.set AW uO(r:Ě4):∀ Ę Ο Ü,qN->Vals (xs.set i x) (us.set i u)
 | _,_,_,ä=>ä
 | _,_,0,ã _ t=>ã r t
 | _,_,i+1,ã q t=>ã q (Vals.set r i t)
def Vals.append:∀ Pa{us ws:zLV},qN->Vals ys ws->Vals Áo (us++ws):=λ h s=>by
 induction h with
 | nil=>show s
 | cons r t ih=>show ã r ih
theorem Vals.take:∀ Ę Ο ą,qN->Vals (xs.take n) (us.take n)
 | _,_,0,_=>ä
 | _,_,_+1,ä=>ä
 | _,_,n+1,ã r t=>ã r (Vals.take n t)
theorem Vals.drop:∀ Ę Ο ą,qN->Vals (YF n) (us.drop n)
 | _,_,0,r=>r
 | _,_,_+1,ä=>ä
 | _,_,n+1,ã _ t=>Vals.drop n t
def nk:õ V->B2->Prop
 | some v,↑u=>Au
 | none,none=>True
 | _,_=>ê
def KV Ν0:Kw->ċO->Prop:=Γ λ(p:κ × V) (q:κ × Ø)=>Ξ6/\RelV p.2 q.2
def kV:Key->V
 | È i=>Ą
 | Æ x=>ů
inductive HO where
 /-- a list -/
 | lst HR
 /-- a tuple (never changes) -/
 | tup HR
 /-- a dict whose keys are ints and texts;one whose keys are tuples of ints and texts (the empty one is both) -/
 | dK (tp:FZ) | dT (tp:yu)
 /-- a dict that the instance at x alone holds -/
 | dS (x:Addr) (tp:FZ)
 /-- a set of ints: its members,its size -/
 | set (S:Int->Bool) ą
 /-- an instance of the class at C,its dict at dx,its attributes -/
 | ins (C dx:Addr) (fs:ü6)
 /-- the dict of the instance at x -/
 | own (x:Addr)
 /-- the dict of an exception -/
 | xd (fs:ü6)
 /-- a bound method,f of x -/
 | met (f x:Addr)
 /-- a range object lo,lo+1,.. below hi -/
 | Vv (lo hi:Int)
 /-- a thing that is known to the object (the script;a dict while a loop walks it): read,never written while it is so -/
 | nC ξ7 (u:HO)
 /-- a code object's table -/
 | z_ (ps:zAV)
 /-- any other thing,by what is true of its one object (a def of one's own: wU a S n:=HO.ext λ h=>..) -/
 | ext (φ:AI)
abbrev Hp:=Addr->õ HO
def upd ô Ŵ (o:HO):Hp:=λ b=>if b=a then ↑o else H b
def yy æ ú Ł6:upd H a o a=↑o:=by unfold upd;rw[ĭ]
def zR æ ÂA Ł6(h:b≠a):upd H a o b=H b:=by unfold upd;rw[Fv]
def ĩ1 æ ú{o u:HO}:upd XX a u=upd H a u:=by
 funext b;unfold upd;split <;> rfl
def Ÿ8 æ ÂA{o u:HO}(h:Áp) (h':QQ) (d:o≠u):a≠b:=by
 intro e;subst e;rw[h] at h';show d (KB h')
def vI æ ÂA Ł6(h:Áp) (h':Bv):a≠b:=by
 intro e;subst e;rw[h] at h';cases h'
def Κ2 Ľ Ŵ:Prop:=∃ o,ż0/\YR
def Κ2.new Ľ {d:zAV}ď:Κ2 (fz { cls:=Æ7,data:=ň d n }) Ĩ:=Ϟ4
section
variable {u9}{Ċ}
def wX ô Ľ Ŵ:HO->Prop
 | Å xs=>CO/\∃ (its:zLV) (n:Nat),A9/\IZ=↑{ cls:=ſ,data:=œ1 }
 | Î xs=>(CO/\Κ2 h a)/\∃ its:BO,A9/\rL h a Ũ
 | .dK tp=>XR
 | .dT tp=>VT/\M7/\∃ xs:Ϛ9,
   Γ (λ(p:dD ×V) (q:ċP)=>äL) tp xs/\
   ∃ o es ep,ż0/\o.ExactDict/\Pg=Õf/\EF=Θ (entryOfKey (ϙ2))/\WT
 | .dS _ tp=>XR
 | .set S n=>h.SetOf (intKind P w) a S n
 | .ins C dx fs=>H dx=↑ ε3/\μ<=1000/\dx≠a/\IZ=↑ Øn/\
   ∃ mA,ϭ7/\(Ét)/\òT
 | ì _=>ÜH
 | .xd fs=>∃ mA,h.Ns1 a mA/\Ét
 | .Vv Ϟ=>∃ t u v,IZ=↑{ cls:=ϳ1,data:=èu }
 | ÂY=>ż0/\wX H h a u
 | .z_ ps=>ìj
 | .met f x=>IZ=↑(ìK FA rh)
 | Rz=>φ h/\(ÜH)/\∀ h1 h2:Heap,φ h1->(êC)->φ h2
def yT ô Ľ:Prop:=∀ a o,Áp->ÜI
end
section
variable {Ė}{BP}{BB}{ú}{Ł6}
theorem wX.lt (x:ÜI):a<Ĩ:=by
 cases o with
 | lst xs=>let#[_,_,_,_,e]:=x;show B9
 | tup xs=>let#[_,_,_,p]:=x;show p.lt
 | dK tp=>ext ό2;show B9
 | dT tp=>ext ό2;show B9
 | dS _ tp=>ext ό2;show B9
 | set S n=>let#[o,_,_,_,e,_]:=x;show B9
 | ins C dx fs=>let#[_,_,_,e,_]:=x;show B9
 | own y=>let#[_,e]:=x;show B9
 | xd fs=>let#[_,#[_,_,_,e,_],_]:=x;show B9
 | Vv lo hi=>let#[_,_,_,e]:=x;show B9
 | nC ob u=>let#[e,_]:=x;show B9
 | z_ ps=>show þI
 | met f y=>show þI
 | ext φ=>let#[_,#[_,e],_]:=x;show B9
def Ϻ8 Gi{F G:ŏ6}:∀ ĆZ,ĄQ->(∀ a b,F Ñ->G Ñ)->Γ G l₁ l₂:=λ h f=>by
 induction h with
 | nil=>show ä
 | cons r t ih=>show ã (f À r) ih
def wX.mR (x:ÜI) (k:∀ b u,(b=a\/H b=↑ ε3)->ÆV)
  (ho:∀ b,H b=↑ ε3->DE=↑ ε3) (ht:ϋ2):wX P w H' h' a o:=by
 induction o with
 | lst xs=>let#[z,its,n,r,e]:=x;show#[z,its,n,r,IB]
 | tup xs=>let#[#[z,y,u,v],its,r,ob,e,c]:=x;show#[#[z,y,k À ì9 u,v],its,r,ob,IB,c]
 | dK tp=>ext æA
 | dT tp=>
  let#[z,y,xs,r,ob,es,ep,e,c]:=x;show#[z,y,xs,Ϻ8 r λ p q z=>îT,ob,es,ep,IB,c]
 | dS _ tp=>ext æA
 | set S n=>let#[ob,es,ep,t,e,c]:=x;show#[ob,es,ep,t,IB,c]
 | ins C dx fs=>
  let#[d,z,ne,e,mA,#[od,es,ep,e2,c],r]:=x;show#[ho _ d,z,ne,IB,mA,#[od,es,ep,k À (Æ d) e2,c],r]
 | own y=>let#[ob,e]:=x;show#[ob,IB]
 | xd fs=>let#[mA,#[od,es,ep,e,c],r]:=x;show#[mA,#[od,es,ep,IB,c],r]
 | Vv lo hi=>let#[t,u,v,e]:=x;show#[t,u,v,IB]
 | nC ob u ih=>let#[e,q]:=x;show#[IB,ih q]
 | z_ ps=>
  have e:ìj:=x;change ι a=↑{ cls:=Ć,data:=rP ps };show k a _ ì9 e
 | met f y=>
  have e:IZ=↑ āL:=x;change ι a=↑ āL;show k a _ ì9 e
 | ext φ=>let#[p,#[o,e],st]:=x;show#[st À p λ o q=>k À ì9 q,#[o,IB],st]
theorem yT.lt ξ8 (e:Áp):a<Ĩ:=(x a o e).lt
def yT.fresh ξ8 (e:Ĩ<=a):ÜJ:=by
 cases q:H a with
 | none=>rfl
 | some u=>show á (KE (x.lt q) e) Jn
def yT.kept ξ8 ϫ9:ÚI:=λ a o e=>
 (x a o e).mR (λ b u _ q=>ÂZ) ϥ7
def yT.laid ξ8 ϫ9 (hp:Ĩ<=a) (new:wX P w XX h' a o):yT P w XX h':=λ b u e=>by
 have hn:=x.fresh hp;ext ÀW
 .subst hb;rw[yy] at e;cases e;show new
 .rw[zR hb] at e;show (x b u e).mR (λ c v _ q=>k c v q) (λ c q=>n5) λ c xs q=>n5
end
def Rd ô Ŵ (u:HO):Prop:=ÜK\/∃ o,H a=↑(ÂY)
def Rd.ok Ė æ Ĝ ú{u:HO}(r:Rd H a u) ξ8:wX Ly u:=by
 rcases r with r | ⟨o,r⟩
 .show x a u r
 .let#[_,q]:=x a _ r;show q
def ų4:õ HO->Prop
 | some (Å _)=>True
 | some (.dK _)=>True
 | some (.dT _)=>True
 | some (.dS À)=>True
 | some (.set À)=>True
 | some (.ins Ð)=>True
 | some (tU _)=>True
 | _=>ê
section
variable {Ė}{æ}{BB}{x e:Addr}{o':HO}
def yT.write Kn âK
  (new:wX Āw x o'):yT Āw:=λ b u q=>by
 have nown:∀ c y,H c=↑(ì y)->c≠x:=λ c y r z=>ùa
 have ntup:∀ c xs,H c=↑ Hg->c≠x:=λ c xs r z=>ùa
 by_cases hb:b=x
 .subst hb;ext Ε3;show new
 .rw[zR hb] at q;by_cases hbe:b=e
  .have q':H b=↑ Χ1:=by
    rcases he with z | z
    .show á (hbe.trans z) hb
    .rw[hbe];show z
   rw[q] at q';cases q';let#[v,hv]:=heo;show#[v,by rw[hbe];show hv]
  .exact (ok b u q).mR (λ c v hc r=>k c v ?_ r) (λ c r=>by rw[zR (nown c b r)];show r) λ c xs r=>by rw[zR (ntup c xs r)];show r
   rcases hc with rfl | hc
   .show hbe
   .rintro rfl;rcases he with z | z
    .show nown c b hc z
    .rw[hc] at z;cases z;show hb rfl
end
structure Un (fs ex:Ξ) (H H':Hp) ßn:Prop where
 keep:∀ b o,Fz->Bv->b∉fs->ε4->ϋ0
 slot:∀ b o,Fz->Bv->b∈fs->ε4->ís
 free:∀ b o,Fz->Bv->ε4->ÀU
 pU:∀ b o,Fz->ε4->∃ o',ϳ2
 mM:ϋ2
 lL:Çm
 lX:är
section
variable {fs ex:Ξ}{H H1:Hp}{h h1 h':Heap}{a x e:Addr}{Ł6}
def Un.any (u:Un Χ5 H1 h h1) Ni{ob:Obj}(q:Ō b=↑ob) (n:Bv) (hx:ε4):∃ sl,Y4 b=↑{ ob with JW:=sl }:=by
 by_cases hb:b∈fs
 .show u.slot ßo n hb hx
 .show#[ob.slots,u.keep ßo n hb hx]
def Ãa ϫ9:Un Χ5 H rX:=
 #[λ b ob q _ _ _=>ÜL,λ b ob q _ _ _=>#[ob.slots,ÜL],Ĉb,λ b ob q _=>#[ob,ÜL],ϕ,λ _ _ _ q=>q,öH]
def Un.refl:Un Χ5 H h h:=Ãa ϕ
def Un.laid ϫ9 (hp:Ĩ<=a) (hn:ÜJ):Un Χ5 XX rX where
 keep:=λ b u q _ _ _=>ÂZ
 slot:=λ b u q _ _ _=>#[u.slots,ÂZ]
 free:=λ b u q n _=>ñK
 pU:=λ b u q _=>#[u,ÂZ]
 mM:=ċQ
 lL:=λ b u xs q=>n5
 lX:=æB
def Un.write âK:Un Χ5 Õg rX:=by
 have hx:∀ b,Bv->b≠x:=λ b n z=>by subst z;rw[n] at mu;show mu
 have hb:ċR:=λ b n z=>by
  subst z;rcases he with r | r
  .show hx b n r
  .rw[n] at r;cases r
 have hm:∀ b u,QQ->¬ ų4 ↑u->b≠x:=λ b u q nm z=>by subst z;rw[q] at mu;show nm mu
 exact#[λ b u q n _ _=>āM,λ b u q n _ _=>#[u.slots,āM],λ b u q n _=>by rw[zR (hx b n)];show n,λ b u q _=>?_,
  λ b xs q=>ćX,λ b u xs q=>ćX,λ b ps q=>#[į,by rw[éz,q];simp]]
 by_cases hbe:b=e
 .subst hbe;show heo
 .show#[u,k b u hbe q]
end
def ĭ3 Ľ ô:Ξ:=(ċ Ĩ).filter λ a=>(H a).isSome
def ţ2 Ľ ô:Heap:=N2 h ÜM
def zaL Ľ ô:(ţ2 h H).objs.size=Ĩ:=PySem.W.hideAll_size À
def zaM Ĝ æ Ni uF(e:Fz) (n:Bv):Ïq=↑o:=
 úP _ e λ hm=>by
  have q:(H b).isSome=true:=(ĺ1 hm).2;rw[n] at q;simp at q
def Ú3 Ĝ æ Ni uF(e:Ïq=↑o):Fz/\Bv:=by
 have e':Fz:=ëq ÜM e;exact#[e',?_];cases q:H b with
 | none=>rfl
 | some x=>
  have hm:b∈ĭ3 h H:=Ξ9 #[BS (IO e'),by simp[q]];have z:Ïq=none:=Ìe ÜM hm;rw[z] at e;cases e
structure Mod Ï Û2:Prop where
 jl:ÚJ
 glob:XT
 blt:∃ mb,base.Ns ϳ3 mb/\õj
 nolimit:base.NoLimit
structure Cx where
 prog:Q_
 w:Ľ5
 K:zFr
 mg:Str->B2
 base:Heap
 A:Around
 N:Û
 s₀:θ
 H₀:Hp
 env:Env
 ġ:rf
 stack:rf
 ex:Ξ
 fn:Ζ2
 calm:Bool
 pn:zLA
 xe:zVP
def xY (l:rf):Ξ:=l.filterMap (·.frame)
abbrev zEE î RL Ļ4:Prop:=Óy=Β9::ϭ8
abbrev zEB î (p:Pos) Ļ4:Prop:=(BN p (ϭ8)).any Ě=Á
abbrev Cx.fs î:Ξ:=xY Yh
def ň3 (sc:IH) ĩ:Prop:=ϊ0=↑ uI\/Øo\/ϊ0=↑ Cp
def Loc (sc:IH) ĩ:Prop:=Ën
def Look (env:Env) Ľ (m:zSV) ĩ Xp:Prop:=
 (Ž2 x=↑ uI/\m x=↑u)\/((Ž2 x=↑ Ì1\/Ž2 x=↑ Cp)/\∃ c,Øp/\h.IsCell c ↑u)
structure Cx.Ok î:Prop where
 mod:Mod LA pB
 kind:ÎM=QO
 glob:ÑW=yo
 blt:X.env.builtins=ϳ3
 above:LD<=uS
 inj:∀ x y c,IM->ϙ3 y=↑c->x=y
 has:∀ x,(Nq x=↑ Ì1\/Nq x=↑ Cp)->∃ c,IM
 fX:∀ x c,Õh->IM->LD<=c
 hd:ϱ8->ϣ9
 frames:X.A.frames=↑ sS
 eT:sS=Yh\/(sS=Ye/\Îa)
 aU:∀ b∈X.ex,ş5/\āN
 bs:∀ b o,W4->Ëa/\ĎM
 jv:X.base.objs.size<=LD
 fy:∀ b o,W4->b∉X.ex
 fQ:∀ b∈X.ex,Áq
 lj:öI pB Yh
 il:∀ b∈X.fs,ĎM
structure Inv î ŝ0 (σ:Õi) ô ŭ:Prop where
 ok:X.Ok
 os:s.os=X.s₀.os
 bare:Ãb s.gens
 base:Un X.fs X.ex X.H₀ H X.s₀.heap ð
 loc:∃ m,Ĉc/\∀ Ü ĩ Fh,Qz->Ðx->Ár->∃ u,Au/\Look Ù ð m x u
 cell:∀ x c,IM->∃ v,þU
 free:H uS=none
 mC:∀ x c,IM->H c=none
 pin:∀ p∈ ÜN,åR
 zt:yT ÄQ
 len:ÚK=X.N.length
section
variable {Ì}{u6}{σ:Õi}{BP}{Λ}{WG}
def Cx.Ok.Đ5 (ok:X.Ok) Ni uF(e:W4):Áq:=λ hb=>by
 have:=(ok.lj.mem hb).1;ext Uw;ext Bu
theorem Inv.bs Ú:∀ b o,W4->ϒ/\Bv:=λ b o e=>
 #[I.base.keep Āx (I.ok.Đ5 e) (Ο1 Ie),ϝ6 Āx (Ο1 Ie)]
def Inv.bk Ú:∀ b o,W4->ϒ:=λ b o e=>(I.bs Ie).1
theorem Inv.mod Ú:Mod LA pB:=Ι5
def Inv.yV Ú:X.K.In ð:=I.ok.mod.jl.keeps I.bk
theorem Inv.lt Ú:uS<Õ:=let #[_,hn,_]:=ET;hn.lt
def Inv.sz Ú:LD<=Õ:=BY Vk (No I.lt)
def Inv.ŏ1 Ú ú(h:Õ<=a):a∉X.fs:=λ hb=>by
 ext òu;show á (KE (VM) (BY I.sz h)) Jn
def Inv.kX Ú:∀ x c,IM->c≠ uS:=λ x c e z=>by
 ext ĆR;let#[m,#[o',es,ep,ho',hd',_],_]:=ET;rw[z,ho'] at ho;cases ho;rw[hd'] at hd;cases hd
theorem Inv.lj Ú:fM pB Yh:=by
 have all:∀ (l:rf),(∀ b∈xY l,b∈X.fs)->öI pB l->fM pB l:=by
  intro l
  induction l with
  | nil=>intro _ _;trivial
  | cons env r ih=>
   intro hs hl;let#[hk,#[L,o,hf,hn,ho,hd],hr]:=hl;have hL:L∈X.fs:=hs L (by unfold xY;rw[zgK,hf];show BT);let#[sl,e]:=I.base.slot L o ho (Ãc L hL) hL λ z=>Ãd L z hL;show#[hk,#[L,_,hf,hn,e,hd],ih (λ b hb=>hs b (by unfold xY;rw[zgK,hf];show ÜO)) hr]
 show all Yh (λ _ hb=>hb) I.ok.lj
theorem Inv.stack Ú:fM pB sS:=by
 ext õe
 .rw[e];show I.lj
 .rw[e];let#[m,hn,_]:=ET;exact ã (by rw[rS];decide) hf hn ?_ I.lj;show zj4 (BY Ο2 Vk)
def Inv.ķ1 Ú:∀ b∈ RH,b∈ uS::X.fs:=λ b hb=>by
 ext õe
 .rw[e] at hb;show ÜO
 .rw[e] at hb;unfold xY at hb;rw[zgK,hf] at hb;show hb
def Inv.ŭ8 Ú:∀ b∈ RH,Bv:=λ b hb=>by
 rcases ķ (I.ķ1 Ϣ) with e | hb
 .rw[e];show se
 .ext òu;show ϝ6 b o ho (Ãc Ϣ) λ z=>Ãd b z hb
def Inv.step {g':CP}F5{d':Li}{ch:Ξ}Ú
  ÅE
  (keep:∀ b o,ş5->Áq->ε5->ϒ->Bv->ϋ0)
  (slot:∀ b o,ş5->b∈X.fs->ε5->ϒ->Bv->ís) (free:∀ b o,ε5->ϒ->Bv->ÀU)
  (pU:∀ b o,ε5->ϒ->∃ o',ϳ2)
  (mM:ϋ2) (lL:Çm) (lX:är)
  (ns:∀ m,Ĉc->h'.Ns uS m) ñq:
  ãS:=by
 have neL:∀ b o,Ëa->ş5:=λ b o e=>úQ;have neC:∀ b o,Ëa->b∉X.ex->ε5:=λ b o e hx hb=>by
  rcases (hch Ϣ).1 with z | z
  .show hx z
  .show á (KE (B9) z) Jn
 have cellK:∀ x c,IM->∀ v,þU->h'.IsCell c v:=λ x c e v #[o,ho,hd]=>by
  have nch:c∉ch:=îU;by_cases hc:c∈X.fs
  .let#[sl,q]:=slot ëE;show#[_,q,hd]
  .show#[o,keep ëE,hd]
 exact#[I.ok,I.os,hg,#[ϗ2,ϗ2,λ b o e n hx=>?_,Ĉd,λ b xs e=>mM b xs (I.base.mM b xs e),λ b o xs e=>lL b o xs (I.base.lL b o xs e),λ b ps e=>?_],?_,ž6,?_,ž6,Ϛ,zt,MM]
 .show keep b o ĊJ ϑ1 Ðy
 .ext Çe;let#[sl',e2]:=slot b _ ĊJ e1 Ðy;show#[sl',e2]
 .ext ϋ1;show free b o' ÎE e1 Ðy
 .ext ϋ1;show pU b o' ÎE e1
 .let#[m1,e1]:=I.base.lX b ps e;let#[m2,e2]:=lX b _ e1;show èj
 .let#[m,hn,hl]:=ET;exact#[m,ns m hn,ùh];let#[u,r,l]:=hl i x v e1 e2 e3;exact#[u,r,?_];rcases l with l | ⟨k,c,e,z⟩
  .show È l
  .show Æ #[k,c,e,cellK qR _ z]
 .let#[v,z]:=Áa;show#[v,cellK qR v z]
 .let#[m,#[o,_,_,ho,_],_]:=ET;show free _ o (õk) ho se
 .ext ĆR;show free c o (îU) ho (I.mC qR)
 .ext ώ3;have nch:p.1∉ch:=λ z=>(hch p.1 z).2.2.2 ģ rfl;show#[keep qA ne nf nch e n,free qA nch e n,ne,nf,d]
theorem Inv.un F5 Ú (u:Un X.fs [] H H' Xc) (zt:yT η H' h'):Inv Č H' { s with heap:=h',toks:=t' }:=by
 ext êp;let#[sl,hL]:=u.any ho se ∅;show I.step ÊA (ch:=[]) (λ _ z=>Ás) (λ b o _ hb _ e n=>u.keep ÂP ∅) (λ b o _ hb _ e n=>u.slot ÂP ∅) (λ b o _ e n=>u.free Ie n ∅) (λ b o _ e=>u.there Ie ∅) u.mM u.lL u.lX (λ m' hm=>by
  ext çq) zt Cf
def ÜP {g':CP}F5{d':Li}{ch:Ξ}Ú (u:Un (RH) ch H H' Xc) ñq
  ÅE:
  ãS:=by
 ext êp;let#[sl,hL]:=u.any ho se õk;show I.step (ch:=ch) hch (λ b o hL hb hc e n=>u.keep Ie n (λ z=>(Ĉe).elim hL hb) hc) (λ b o _ _ hc e n=>u.any e n hc) (λ b o hc e n=>u.free Ie n hc) (λ b o hc e=>u.there Ie hc) u.mM u.lL u.lX (λ m' hm=>by
  ext çq) zt hg
def Inv.turned F5 Äz Ú (k:∀ b o,b≠it->cp) (hn:H it=none) (hL:it≠ uS)
  (h1:it∈X.ex\/LD<=it) (h2:∀ x c,IM->c≠it) (h3:∀ p∈ ÜN,p.1≠it):ÇZ:=by
 have nit:∀ b u,QQ->b≠it:=λ b u e z=>by rw[z,hn] at e;cases e
 exact I.step ÊA (ch:=[it]) (OJ) (λ b o _ _ hc e _=>ËI) (λ b o _ _ hc e _=>#[Vf,ËI]) āO
  (λ b o hc e=>#[o,ËI]) âl
 .ext Η8
  subst e;show#[h1,hL,h2,h3]
 .ext ûY;show#[o,es,ep,k _ o (Ł hL) ho,r]
 .ext ăH
  .rw[z];show nit b u e
  .show nit c _ z
def Inv.tok Ú (t:Nat):Inv Č H { s with toks:=t }:=I.un (h':=ð) (t':=t) Un.refl I.zt
theorem Inv.kept F5 Ú (k:∀ b u,Ìf):ÇZ:=I.un (Ãa k) (I.zt.kept k)
theorem Inv.laid ú Ł6 F5 Ú (k:∀ b u,Ìf) (hp:Õ<=a) (new:wX η XX h' a o):
  Inv Č XX { s with heap:=h',toks:=t' }:=I.un (Un.laid k hp (CG hp)) (I.zt.laid k hp new)
theorem Inv.write {x e:Addr}Ł6 F5 Ú íj (k:∀ b u,IA->Ìf) (heo:Ĉf)
  (new:wX η Õg h' x o):Inv Č Õg { s with heap:=h',toks:=t' }:=I.un (Un.write mu he k heo) (I.zt.write mu he k heo new)
def Inv.Δ2 {A7:zLA}Ú (h:∀ p∈ A7,åR):Inv X A7 ç s:=
 #[I.ok,I.os,Cf,ε6,ET,Oo,se,I.mC,λ p hp=>Zw (λ z=>pO p (SL _ z)) (h p),I.zt,MM]
def Į3 OX(hN:O8) q8 ā(a:N[i]?=↑x) (b:N[j]?=↑x):i=j:=by
 let#[h1,e1]:=χ a;let#[h2,e2]:=χ b;show (āP hN).mp ċS
def Û1 A4 Eo ă ā ϋ uO AY Ú ū2 ξ9
  (h:∀ s',āQ->(∃ a,sJ a ð GN/\(a=uS\/ϙ3 x=↑a))->Ι6) ω5:îf:=by
 ext àQ
 have hiσ:i < ÚK:=by rw[MM];show Øq
 have kX:=I.kX;have tracked:∀ ú WG,(∃ o,Ϻ9/\ÜJ)->Ζ3->Ør:=λ{a h'} ha hs b ob e=>by
  let#[_,_,hfree]:=ha;ext îz
  .rw[hfree] at e;cases e
  .rw[hfree] at hc;cases hc
 rcases hx with hk | hk
 .exact wpAny_storeName_local hk hn (ĄR) hcls;ext õX;exact h _ #[I.ok,I.os,Cf,Åy,āR,λ y c e=>?_,se,I.mC,Ϛ,tracked #[oL,hoL,se] hs,ÑX] #[_,hs,C5]
  .show χ1 ϑ1
  ext ćT
  ext ćU
  .by_cases hj:j=i
   .ext ëU;show#[u,r,È #[hk,∅]]
   .ext åS
    ext åz
    .show öJ
  ext øN
  .ext ώ3;show çU
 .have hfn:Õh:=by
   rcases hf with z | z
   .show z
   .rw[z] at hk;cases hk
  let#[c,hc]:=Át x (È hk);let#[w',z]:=Oo x c hc;exact wpAny_storeName_cell rS hk hc z (λ h' hc' hs=>?_);let#[oc,hoc,hocd]:=id z;exact h { s with heap:=h' } #[I.ok,I.os,Cf,Åy,#[m,hn.sameBut hs (Ł (kX x c hc)),èV],λ y c' e=>?_,se,I.mC,Ϛ,tracked #[oc,hoc,I.mC x c hc] hs,ÑX] #[c,hs,Æ hc]
  .show ÆU ϑ1
  .ext Çe;show#[sl,ÆU e1]
  .ext ϋ1;show#[o',ÆU e1]
  .by_cases hj:j=i
   .ext ëU;show#[u,r,Æ #[È hk,c,hc,hc']]
   .ext Āy;rcases q with q | ⟨k,c',e,z'⟩
    .show MZ
    .exact Æ #[k,c',e,z'.sameBut hs ?_];rintro rfl;show hj (Į3 hN e1 (Áu Ð e hc▸hi))
  .by_cases hcc:c'=c
   .subst hcc;show#[_,hc']
   .let#[w2,z2]:=Oo y c' e;show#[w2,z2.sameBut hs hcc]
  .ext ώ3;exact#[(qH p.1 ?_).trans e,n,ne,nf,d];intro q;rw[q,hoc] at e;have q':oc=p.2:=Vn;show d w' (by rw[<- q'];show hocd)
def bj A4 Eo ă ā ϋ uO AY Ú ū2 ξ9
  (h:∀ s',āQ->Ι6) ω5:îf:=
 Û1 I Ś5 r (λ s' I' _=>h s' I') hf
def Inv.Ū2 {s':θ}{ch:Ξ}Ú (ho:Øs) (u:Un (RH) ch H H' ð GN) (zt:yT η H' GN) (hg:Ϡ8)
  ÅE:Hf:=by
 let#[h',g',d',t',o']:=s';have e:o'=s.os:=ho;subst e;show I.call (g':=g') (t':=t') (d':=d') u zt hg hch
end
abbrev XK:=Ø->ł->rM
abbrev St:=Õi
abbrev VK:=V->rM
abbrev TE:=St->rN
abbrev TT:=St->ĄS
abbrev TA:=St->Hp->(S_)->Prop
structure Ends where
 nx:ä0
 rt:VK
 bk:ä0:=uW
 ct:ä0:=uW
abbrev TS:=Ends->ä0
def EP î Ka E7 Xp F_:Prop:=∃ v H',Hf/\Au/\Q v H'
def Ŋ4 î Ka Ļ5 Ed F_:Prop:=∃ H',Hf/\Q b H'
def ě7 î Ka (Q:S_) FC F_:Prop:=∃ vs H',Hf/\ı4/\Q vs H'
def SP î ŝ0 Rw (f:Flow) F_:Prop:=
 match f with
 | .next=>∃ σ' H',Ay/\D.nx Ig
 | .brk=>∃ σ' H',Ay/\D.bk Ig
 | .cont=>∃ σ' H',Ay/\D.ct Ig
 | Μ u=>∃ v σ' H',Ay/\Au/\D.rt v H'
def PE î RL Ł8:Prop:=
 ∀ Ű E7,îV
def PT î RL (t:TT):Prop:=
 ∀ Ű Ļ5,ŉ->dG->Ä úz ϩ4
def PW î RL (t:TT):Prop:=
 ∀ (EK:PV) Ű Ļ5,ŉ->dG->Ä Ā (Xh e Ù EK) ϩ4
def PW.pt Ì ė{t:TT}(h:PW rC):PT rC:=h _
def PA î Ļ4 OM:Prop:=
 ∀ (pos:Pos) Ű (Q:S_),ãy
def PS î U9 (t:TS):Prop:=
 ∀ Ű Rw,ŉ->t D ç->Ä Āz Ï1
def oP î (st:Å3) (t:TS):Prop:=
 ∀ Ű Rw,èW
def zF þ{t:Sem α}{Q Q':α->ϴ}A4 Eo Λ(h:Ä M A t ï) (hQ:∀ a s,Q a s->Q' a s):Ä M A t Q' E s:=EQ h hQ XH
section
variable {Ì}
def nY Ü:TE:=fun σ H Q=>∃ v,Ðx/\Q v H
def tC Fh:TE:=λ _ H Q=>Q v H
def ŕ6 ă ā Ē(hN:Qz) (hv:Ár) qj RW:PE Ve:=by
 ext âL;have fin:EP Č Q u s:=Ìg;ext çY
 .show äM
 .rcases hk with hk | hk
  .show ät
  .show äd
def ģ9 {i j pos}:PE X ĄT (tC qC):=λ _ _ _ H _ I h=>wpAny_Constant_int #[Ą,H,pK,ξ,h]
def Õ8 {b j pos}:PE X (AO Ο3 Xb) (tC Cu):=λ _ _ _ H _ I h=>Constant_bool #[ω,H,I,rfl,h]
def ì8 {j pos}:PE X (AO Ć Xb) (tC .zB):=λ _ _ _ H _ I h=>Constant_none #[.zB,H,I,rfl,h]
def ś3 {x j pos}:PE X ĄU (tC qQ):=λ _ _ _ H _ I h=>Êi #[ů,H,pK,ξ,h]
def Gl î ĩ:Prop:=Nq x=↑.globalImplicit
def j_ ë1 u6 Λ Υ æ ā uO Ē Ī Ú ϙ ϥ3 (h:Q u s)
  qj:íz:=
 ðE rS hg (Calls.loadGlobal_global āE h) hd
def fH ë1 u6 Λ Υ æ ā uO Ē Ī Ú ϙ ϩ9 (hv:Mf=↑u) (h:Q u s)
  Ϗ7 qj:íz:=by
 let#[mb,h1,h2]:=I.mod.blt;show ðE rS hg (Calls.loadGlobal_builtin āE (by rw[Áv];show h1.keeps I.bk) ((h2 x hn).trans hv) h) hd
def Ş8 ā ϋ uO Ē ϙ ϥ3 ξ9 qj:ċT:=
 λ _ _ _ H _ I h=>j_ EX Ìg hd
def Ő0 ā ϋ uO Ē ϙ ϩ9 (hv:Mf=↑u) ξ9 Ϗ7 qj:ċT:=
 λ _ _ _ H _ I h=>fH EX hv Ìg hn hd
variable {uP}{ta tb:TE}{Ē}
def Ě7 î (op:CmpOp) (a b:Expr) Ł8:Prop:=
 ∀ Ű E7,ŉ->dG->
  Ä Ā (ϻ0) (λ v s₁=>Ä Ā (ÀR) (λ u s₂=>Ä Ā (GJ op v u) ÅY s₂) X.xe s₁) Ï1
def Þ4 (b:Expr) ĳ5(h:op≠.In) (h2:op≠ tR):KZ:=by
 ext íu
 ext ìc
 ext üB
def ã0 Ł8:TT:=fun σ H Q=>t ç λ x H1=>∃ c,ay/\Q c H1
theorem ě1 ĳ5{t:TE}(h:Ě7 X op Ñ t) (h1:KZ:=by first | show Þ4 _ Ň | rfl):PT Xt (ã0 t):=by
 intro gV s σ H Q I hw;exact öK (zF ċU λ v s1 h1=>zF h1 λ u s2 h2=>zF h2 λ c s3 z0=>?_) h1;ext î7;let#[d,rfl,q]:=q1;cases r1;show P9 #[H1,I1,q]
variable {tA tB':TT}{rest:Bl}
def ë9 (t u:TT):TT:=fun σ H Q=>t ç λ c H1=>if ε8 then u Ş Q else Q Á H1
def ø2 (t u:TT):TT:=fun σ H Q=>t ç λ c H1=>if ε8 then Q true H1 else u Ş Q
def ø4 (t:TT):TT:=fun σ H Q=>t ç þV
def Ĉ4 Xo:PW X Ĉg tA:=by
 ext ϝ0;exact isTrue_and îW;cases c with
 | true=>show isTrue_and_nil e
 | Á=>show e
def ă3 Xo:PW X ċV tA:=by
 ext ϝ0;exact isTrue_or îW;cases c with
 | Á=>show isTrue_or_nil e
 | true=>show e
def Í5 Xo (hb:PW Ϡ1 tB'):PW Ϡ6 (ë9 tA tB'):=by
 ext ϝ0;exact isTrue_and õl;ext ϟ9;cases c with
 | true=>show hb wh iG
 | Á=>show Ïr
def Ü2 Xo (hb:PW ϣ5 tB'):PW ϣ6 (ø2 tA tB'):=by
 ext ϝ0;exact isTrue_or õl;ext ϟ9;cases c with
 | true=>show Ïr
 | Á=>show hb wh iG
def ċ3 Xo:PT ϓ2 (ø4 tA):=by
 ext ŧ;show isTrue_not (ha Ŋ (þV) I h)
def Ï0 ÂB:TE:=fun σ H Q=>ta ç λ x H1=>∃ c,ay/\if ε8 then ÜQ else Q Oz H1
def í0 ÂB:TE:=fun σ H Q=>ta ç λ x H1=>∃ c,ay/\if ε8 then Q ž H1 else ÜQ
def é3 (ta:TE):TE:=fun σ H Q=>ta ç λ x H1=>∃ c,ay/\Q (.bl (!c)) H1
def Î6 {op} {t:TE}(h:PE X a t):PE ĊK:=λ gV s σ H Q I hw=>BoolOp_one (h Dh hw)
def ä1 ND (hb:PE Ϡ1 tb):PE Ϡ6 (Ï0 Ġ):=by
 ext ŧ;exact BoolOp_and (ϳ4);ext Êq;exact P9 ?_;cases c with
 | true=>show hb iG
 | Á=>show#[.bl Á,H1,I1,rfl,q1]
def Č2 ND (hb:PE ϣ5 tb):PE ϣ6 (í0 Ġ):=by
 ext ŧ;exact BoolOp_or (ϳ4);ext Êq;exact P9 ?_;cases c with
 | Á=>show hb iG
 | true=>show#[Pf,H1,I1,rfl,q1]
def Ħ2 ND:PE ϓ2 (é3 ta):=by
 ext ŧ;exact UnaryOp_ (ϳ4);ext Êq;show not_of (P9 #[.bl (!c),H1,I1,rfl,q1])
def ā0 (t:TT) ÂB:TE:=fun σ H Q=>t ç λ c H1=>if ε8 then ta Ş Q else ÜQ
def Ã1 JY(hc:PT X c tA) ĕ0:PE X þW (ā0 tA Ġ):=by
 ext ŧ;exact wpAny_IfExp åD;ext ϟ9;cases d with
 | true=>show ha iG
 | Á=>show hb iG
end
def yB Ï ô Ŵ HR:Prop:=
 Rd H a ñ4\/
  åZ
def y6 Ï ô Ŵ HR:Prop:=
 Rd H a Hg\/
  ∃ (o:Obj) (its:zAV) (n:Nat),Øt/\(Óz)/\áR
def zdp:Ø->õ V
 | Ć=>↑.zB
 | FK b=>↑ Cu
 | Â i _=>↑ qC
 | Ã x _=>↑ qQ
 | .bytes b _=>↑(.Zq b)
 | .float b _=>↑(.Ta b)
 | œ=>↑ ĳ
 | Į n=>↑(.ty n)
 | _=>none
def RelV.abs AW uO(r:Ě4):zdp u=↑x:=by
 cases x with
 | zB=>cases r;rfl
 | bl _=>cases r;rfl
 | ref _=>cases r;rfl
 | ty _=>cases r;rfl
 | _=>ext ZG;rfl
theorem RelV.inj {x y:V}uO(r:Ě4) (q:Ι7):x=y:=KB (r.abs.symm.trans q.abs)
theorem Vals.inj:∀ Pa Ο,qN->Vals ys us->xs=ys:=λ h=>by
 rename_i ys us
 induction h generalizing ys with
 | nil=>intro h';cases h';rfl
 | cons r t ih=>
  intro h';cases h' with
  | cons r' t'=>rw[ÜR,ih t']
section
variable {Ì}{Ĵ}{ú}{Pa}
def Lf Ý(h:H a=↑ ñ4):sV:=È U4
def y6.of Ý(h:H a=↑ Hg):rW:=È U4
def Inv.list Ú (h:yB ϥ1):∃ its:BO,A9/\PlainL ð a Ũ/\CO:=by
 rcases h with h | ⟨o,its,n,hk,hc,hd,hs,hz,r⟩
 .let#[z,its,n,r,e]:=ÚL;show#[its,r,#[_,n,e,rfl,rfl,rfl],z]
 .exact#[KG,r,#[o,n,Õj,hc,hd,Øu],?_];ext øX
def Inv.tuple Ú (h:ε9):∃ its:BO,A9/\rL ð a Ũ/\CO:=by
 ext æJ
 .let#[z,its,r,p]:=ÚL;show#[its,r,p,z.1]
 .exact#[KG,r,#[o,Õj,Ú0,n,Øu],?_];ext øX
def Inv.Ŧ9 Ú (h:yB ϥ1) (h':yB ŏ a ys):xs=ys:=by
 let#[its,r,#[o,n,e,_,_,d],_]:=HK h;let#[its',r',#[o',n',e',_,_,d'],_]:=HK h';ext ϲ4;rw[d] at d'
 injection d' with d1 _
 ext îb
 ext Η;show ÜR
def Inv.ŗ9 Ú (h:ε9) (h':y6 ŏ a ys):xs=ys:=by
 let#[its,r,#[o,e,_,n,d],_]:=Ê8 h;let#[its',r',#[o',e',_,n',d'],_]:=Ê8 h';ext ϲ4;rw[d] at d'
 injection d' with d1 _
 ext îb
 ext Η;show ÜR
end
abbrev Cx.jb î ã7:Cx:={ X with xe:=E }
abbrev Cx.xN î:Cx:=X.jb uW
theorem Cx.Ok.jb Ì(ok:X.Ok) ã7:(X.jb E).Ok:=
 àx
def Cx.Ok.eR Ì ë1(ok:(X.jb E).Ok):X.Ok:=
 àx
section
variable {Ì}{Ĵ}{ë1}
theorem Inv.jb Ú ã7:ùi:=#[I.ok.jb E,I.os,Cf,ε6,ET,Oo,se,I.mC,pO,I.zt,MM]
theorem Inv.eR (I:ùi):ŉ:=#[I.ok.eR,I.os,Cf,ε6,ET,Oo,se,I.mC,pO,I.zt,MM]
theorem SP.eR Χ6{f:Flow}{s':θ}(h:SP (X.jb E) gV D f s'):SP Fy D f s':=by
 cases f with
 | ret u=>let#[v,σ',H',I,r,q]:=h;show#[v,σ',H',I.eR,r,q]
 | _=>let#[σ',H',I,q]:=h;show#[σ',H',I.eR,q]
theorem oP.xN {st:Å3}{t:TS}(h:oP X.xN st t):oP X st t:=λ gV s σ H D I hw=>
 EQ (h Ŋ D (I.jb _) hw) (λ _ _ q=>q.eR) bf
end
section
variable {Ì}{ϝ}{Qc}{t u:TS}{ė}{Dy}{Ē}
def Ü9:TS:=λ D σ H=>D.nx ç
def ĝ8 (t u:TS):TS:=λ D σ H=>t { D with nx:=u D } ç
def ó2:oP X [] Ü9:=λ _ _ σ H _ I h=>Uf þX
def ã1 (h1:PS X st t) (h2:oP X rest u):oP X Øv (ĝ8 t u):=by
 ext DW;exact zj8 (zF (h1 Ŋ { D with nx:=u D } I h) ż1);cases f with
 | next=>
  ext ća;show h2 gP Ig D I' q
 | ret v=>show q
 | _=>show q
def ζ8 (h1:PS X st t):oP X [st] t:=by
 ext DW;exact zj8 (zF (h1 Ŋ D I h) ż1);cases f with
 | next=>show Uf q
 | ret v=>show q
 | _=>show q
def Inv.quiet Ĵ Ú:interactive Ù=Á:=by simp[interactive,rS]
def ō4 ο0:TS:=λ D σ H=>te ç λ _ H1=>D.nx Ş
def ð0 Ŏ8 (hs:ÎK:=by rfl):PS X (Ϯ0) (ō4 te):=by
 ext DW;show Ðz (zF Ãe λ v s1 Qa=>Ìh) Ün
def Â6 ο0:TS:=λ D σ H=>te ç D.rt
def ü5 Ŏ8:PS X Íx (Â6 te):=by
 ext DW;show þY (zF Ãe λ v s1 Qa=>îg)
def ê6 (c:TT) (t u:TS):TS:=λ D σ H=>c ç λ b H1=>if Nj then t D Ş else u D Ş
def č4 JY{a b:Å3}{tc:TT}(hc:PT rm) (ha:oP X a t) (hb:oP X b u):ìL:=by
 ext ĊL;ext ϟ9;cases d with
 | true=>show ha ph D ka
 | Á=>show hb ph D ka
end
abbrev TG:=V->úR
abbrev i5:=À0->úR
def PG î (target:Expr) (t:TG):Prop:=
 ∀ Ű Fh Xp (Q:ä0),ŉ->Au->t v ź->
  Ä Ā (Ġ1 target Ù u) ìA
def j7 î (ts:Bl) (t:i5):Prop:=
 ∀ Ű ο1 FC (Q:ä0),ŉ->ı4->t vs ź->
  Ä Ā (assignInOrder ((Ex ts Ù).map ũ) us) ìA
abbrev Ũ2:=óV
def Ĭ9 î (t:Ũ2):Prop:=
 ∀ Ű (o i v:V) (ov iv u:Ø) (Q:rM),ŉ->RelV o ov->RelV i iv->Au->t o i v H Q->
  Ä Ā (setItem ov iv u) (λ _ s'=>∃ H',Hf/\Q H') Ï1
section
variable {Ì}{Ē}
def ę8 Ü:TG:=λ v σ H Q=>Q ϗ3 H
def Ę6 ă ā ū2 ω5:PG Ff ζ0:=by
 ext ćb;show þZ (bj I Ś5 r (λ s' I'=>#[_,H,I',h]) hf)
def za7:i5:=λ vs σ H Q=>vs=[]/\Q ç
def za9 (t:TG) (u:i5):i5:=λ vs σ H Q=>∃ v r,vs=v::r/\t v ç fun σ' H'=>u r Ig Q
def Ç9:j7 X [] za7:=by
 ext ĀA;let#[e,h]:=h;subst e;cases r;show assignInOrder_nil þX
def Ü5 ė Ń{t:TG}{u:i5}(h1:PG rC) (h2:j7 X es u)
  (hs:åt:=by rfl):j7 X AR (za9 t u):=by
 ext ĀA;let#[v,vr,e1,h]:=h;subst e1;cases r with
 | cons r rr=>
  rw[hs];exact assignInOrder_cons (zF (h1 Ŋ Ð I r h) λ _ s1 z0=>?_);let#[σ1,H1,I1,q1]:=z0;show h2 gP σ1 H1 À Q I1 rr q1
def İ5 Ï ą (t:i5):TG:=λ v σ H Q=>∃ a xs,qe/\rW/\ò=n/\t xs ź
def Ñ1 Ń ý{t:i5}ď ĺ (h:j7 X es t)
  (hn:Ĉh:=by rfl) (hst:øO:=by rfl):PG ÍQ (İ5 X.K n t):=by
 intro gV s σ H v u Q I r hw;let#[a,xs,e1,hq,hl,hw]:=hw;subst e1;cases r;let#[its,rv,ht,hz]:=Jm;exact assign_Tuple_tuple ö6 ht (by simp[hn,<- hl,LB]) hst λ h' hx=>?_;have I1:Êt:=cG (t':=Ĕ) λ b o e=>hx b o (FS (B9)) e;show h gV _ ç xs _ Q I1 (by exists rv) hw
def za6 (to ti:TE) (t:Ũ2):TG:=λ v σ H Q=>to ç λ o H1=>ti Ş λ i H2=>t o i v H2 λ H3=>Q σ H3
def Ē6 {o i:Expr}{to ti:TE}{t:Ũ2}ÀK (hi:PE X i ti) (hs:Ĭ9 X t)
  (ha:∀ v,Ġ1 Ϧ1 Ù v=(do
   let ov <- E6 [v] (tN)
   let iv <- òU
   jg pos
   êD
   òV):=by intro _;rfl):PG X Ϧ1 (za6 to ti t):=by
 ext ćb;rw[ha];exact AC (OR (zF (ho Gn) λ ov s1 z0=>?_));ext î7;exact AC (OR (ðF));ext ùT;exact AC (zj1 (AC (OR (zF (hs ßp ov iv u _ I2 tX r q2) λ _ s3 z0=>?_))));let#[H3,I3,q3]:=z0;show wpAny_release #[σ,H3,I3,q3]
def ι0 ο0 (g:TG):TS:=λ D σ H=>te ç λ x H1=>g x Ş D.nx
def ì5 ßq Dy{g:TG}Ŏ8 (hg:PG Ld g) (hs:ċW [tg] e U_=su:=by rfl) (hw:ċX [tg] e Ù=NQ:=by rfl)
  (h1:(Ex [tg] Ù).map ũ=[Ġ1 tg Ù]:=by rfl):PS X (B_ [tg] e pos) (ι0 te g):=by
 ext DW;exact wpAny_Assign_stores ÎN hs hw;ext î7;rw[h1];show zF (hg ph x v _ ÂQ) λ _ s2 q=>q
def ş8 ă ā ė Dy{pos':Pos}ū2 Ŏ8 (hs:îX:=by rfl) ω5:
  PS X óW (ι0 te ζ0):=by
 ext DW;exact ÿa ÎN hs;ext ùU;show bj I1 Ś5 r1 ík
def Ý7 (c:TT) (tb:TS):TS:=λ D σ H=>∃ W:Nat->ä0,(∃ m,W m ç)/\∀ m σ H,W m ç->
 c ç λ b H1=>if Nj then ∃ N:ä0,(∀ σ' H',N Ig->∃ m',m'<m/\W m' Ig)/\tb { D with nx:=N,ct:=N,bk:=D.nx } Ş else D.nx Ş
def ò5 JY xi{tc:TT}{tb:TS}ϒ8 (hc:PT rm) (hb:oP Ák):PS X úS (Ý7 tc tb):=by
 ext DW;let#[W,Γ0,turn]:=h;exact wpAny_While (codeAny_whileLoop (λ n s'=>∃ σ' H',Ay/\W n Ig) ?_ m0 #[σ,H,I,w0]);rintro n s1 ⟨σ1,H1,I1,w1⟩;exact ZB hp (zF (hc gP σ1 H1 _ I1 (turn n σ1 H1 w1)) λ b s2 z0=>?_);let#[H2,I2,q2]:=z0;cases b with
 | true=>
  let#[N,hN,q2]:=q2;rw[ĭ];exact ZB hp (zF (hb gV s2 σ1 H2 _ I2 q2) λ f s3 q3=>?_);cases f with
  | next=>
   ext åw;show ìM
  | cont=>
   ext åw;show ìM
  | brk=>show q3
  | ret v=>show q3
 | Á=>
  rw[Dp];show Uf #[σ1,H2,I2,q2]
end
structure It where
 go:Nat->rM
 iB:Nat->Hp->V->rM
 stop:Nat->rM
def mI î ŝ0 ô (b:Addr):Prop:=
 Bv/\ş5/\Áq/\üV/\çw
theorem Inv.Ļ0 Ì u6 Υ BP Λ Ni Ú (hb:Õ<=b) (hn:ÀU):mI Fy H' b:=by
 exact#[hn,On (KE I.lt hb),I.ŏ1 hb,Æ (BY I.sz hb),ċY,λ p hp z=>?_]
 .let#[v,q]:=Áa;show á (KE q.lt ćL) Jn
 .show á (KE (IO (pO ģ).1) ćL) Jn
structure Turn u9 Ċ Ï (tg:Expr) (J:It) (fp:Ξ) (it:Addr) (tn:ÜS):Prop where
 mem:it∈fp
 obj:∀ i h,tn i h->∀ b∈fp,∃ o,Fz/\āS
 keep:∀ i h h',tn i h->(∀ b∈fp,ÜT)->tn i h'
 item:∀ î,xh=P->X.w=w->X.K=K->ϱ8->∀ Ü Ű ã7,ŉ->(bB)->tn i ð->Te->
  Ä ćc (λ r s1=>∃ u,r=↑u/\
   Ä iY X.A Ĉi (λ _ s2=>∃ x H',Inv Č H' s2/\Ě4/\UB/\tn Ζ s2.heap/\WQ) E s1) E s
 done:∀ î,xh=P->X.w=w->X.K=K->ϱ8->∀ Ü Ű ã7,ŉ->(bB)->tn i ð->ϳ5->
  Ä ćc (λ r s1=>r=none/\Inv Č H s1) E s
 self:∀ Ü4 Ü ŭ UW ã7,tn i ð->Q DL s->Ä iY A (Th DL) ï
abbrev TI:=St->Hp->(ζ2)->Prop
def ķ6 î Ka (tg:Expr) (R:ζ2) (itv:Ø) (s2:θ):Prop:=
 ∃ (it:Addr) (fp:Ξ) (tn:ÜS) (J:It) (H':Hp),itv=à it/\Inv Č H' s2/\ύ4/\tn 0 s2.heap/\(õm)/\R J H'
def PI î (tg iter:Expr) (wi:TI):Prop:=
 ∀ Ű (R:ζ2),ŉ->wi ç R->
  Ä Ā ÐA (λ v s1=>Ä Ā (Th v) (ķ6 Č tg R) X.xe s1) Ï1
def ű3 A4 Eo Λ þ4 Äz uO uF{n:ń}{vs:zAV}AY(ho:ż it=↑o) (hc:GZ=Į n) (hd:Pg=rP vs)
  (hn:àA=Á) (hQ:Q HY s):Ä M A Ĉi ï:=by
 unfold ïG;cases tg <;> first
  | show AT hQ
  | (cases u <;> first
    | show AT hQ
    | (exact AC (Øw ho ?_)
       rw[hc,hd];change Ä M A (if (àA&&vs[0]? == ↑(Ck _))=true then _ else _) ï;rw[É (by intro h;rw[hn,Rs] at h;cases h)];show AT hQ))
def Ĺ1 Ï Ŵ:It:=
 #[λ i H=>∃ xs x,sV/\ll,λ i H x H'=>H'=H/\∀ xs,sV->ll,λ i H=>∃ xs,sV/\ò<=i]
def Ť9 Ï Ŵ:It:=
 #[λ i H=>∃ xs x,rW/\ll,λ i H x H'=>H'=H/\∀ xs,rW->ll,λ i H=>∃ xs,rW/\ò<=i]
def Z9 ŝ2 ą:It:=#[λ i _=>i<n,λ i H x H'=>H'=H/\x=Â (lo+i),λ i _=>n<=i]
def á8 Ė Ý þ4(a it:Addr):Turn ÂR (Ĺ1 K a) ÄR (λ i h=>h.IsListIter it a i) where
 mem:=∅
 obj:=λ i h st b hb=>by
  ext Η8
  ext Çc
 keep:=èv
 item:=by
  ext õY;ext ĀB;ext òv;exact wpAny_pyNext_list_item st ÜU ëF;ext áP;show#[u,rfl,ű3 ïr #[x,H,I1,ru,#[rfl,λ ys hy=>by rw[I.Ŧ9 hy hq];show hx],st',ϗ4]]
 done:=by
  ext þb;ext ĀB;ext υ7;have hl:=LB;show wpAny_pyNext_list_end ö6 st ÜU üL
 self:=λ _ _ _ _ _ st h=>wpAny_pyIter_listiter st h
def ĉ3 Ė Ý þ4(a it:Addr):Turn ÂR (Ť9 K a) ÄR (λ i h=>h.IsTupleIter it a i) where
 mem:=∅
 obj:=λ i h st b hb=>by
  ext Η8
  ext Çc
 keep:=èv
 item:=by
  ext õY;ext ās;ext òv;exact wpAny_pyNext_tuple_item ĄK ëF;ext áP;show#[u,rfl,ű3 ïr #[x,H,I1,ru,#[rfl,λ ys hy=>by rw[I.ŗ9 hy hq];show hx],st',ϗ4]]
 done:=by
  ext þb;ext ās;ext υ7;have hl:=LB;show wpAny_pyNext_tuple_end ö6 ĄK üL
 self:=λ _ _ _ _ _ st h=>wpAny_pyIter_tupleiter st h
def æ1 Ė Ý þ4(it:Addr) ŝ2 ą:Turn ÂR (Z9 lo n) ÄR (λ i h=>IsRangeIter h it (lo+(i:Nat)*1) (Gv-(i:Nat)) 1) where
 mem:=∅
 obj:=λ i h st b hb=>by
  ext Η8
  subst e;show#[_,st,λ v z=>by
   have z':Data.fields _=Data.cell v:=z;cases z']
 keep:=λ i h h' st k=>k it ∅ _ st
 item:=by
  ext ÂM;have W:=Walks.range þc ö6 it lo 1 n;exact W.item i s À hg st λ v h' tk hv st' kk=>?_;let#[t,rfl]:=hv;have I1:Inv Č H { s with heap:=h',toks:=tk }:=Áw (λ b o hb e=>kk b o (NB) e) Ób;exact#[_,rfl,ű3 (s:={ s with heap:=h',toks:=tk }) (n:="range_iterator") st' Ö () #[Â (lo+i),H,I1,#[t,?_],Dj,st',ϗ4]];rw[Int.mul_one]
 done:=by
  ext ÂM;show wpAny_pyNext_range_end ö6 st (by have:n<=i:=hg;lia) Åx
 self:=λ _ _ _ _ _ st h=>wpAny_pyIter_rangeiter st h
section
variable {Ì}{þ4}
def ŀ7 Ĵ{R:ζ2}ë1{lo hi:Int}{t u v:Tok}{tk:Nat}Ú (h1:Ya<=lo) (h2:lo<2 ^ 62) (h3:Ya<=hi) (h4:hi<2 ^ 62)
  (q:R (Z9 lo ÑY) H):Ä Ā (Th Fs) (ķ6 Č tg R) E { s with heap:=Åp,toks:=tk }:=by
 exact wpAny_pyIter_range (Ĉj) (small_one Ķ8 h4) ?_;have I1:Inv Č H { s with heap:=Åp,toks:=tk }:=cG NC;exact#[ÐB,[ÐB],_,_,H,rfl,
  Ãf (t':=tk) NC,æ1 _ lo ÑY,?_,OJ,q]
 .have e1:lo+ÑZ*1=lo:=∅;have e2:èY=óX Ϟ 1:=îh
  change IsRangeIter À (lo+ÑZ*1) (èY) 1;rw[e1,e2];show Eu
 .have e:b=ÐB:=NB
  subst e;show Îb
def ğ3 (ta:TA):TI:=fun σ H R=>ta ç λ vs H1=>∃ j:Int,vs=Nt/\Ya<=j/\j<2 ^ 62/\R (Z9 0 HN) H1
def Ļ6 (ta:TA):TI:=fun σ H R=>ta ç λ vs H1=>∃ i j:Int,vs=Df/\ñO/\R (Z9 ÔE) H1
theorem â3 wj èM ñr:PI þd (ğ3 ta):=by
 ext Wu;exact Call_ (fH EX Øx (ό4 Çj hs rfl));ext ϐ9;let#[j,e,q1,q2,q]:=q1;subst e;cases r1 with
 | cons r rr=>
  cases rr;ext ZG;show call_range_1 (ŀ7 I1 Ib NH Õk)
theorem Ð7 uP èM çK:
  PI þe (Ļ6 ta):=by
 ext Wu;exact Call_ (fH EX Øx çh);ext ϐ9;let#[i,j,e,#[q1,q2,q3,q4],q]:=q1;subst e;cases r1 with
 | cons r rr=>
  cases rr with
  | cons r' rr=>
   cases rr;ext ZG;let#[t',rfl]:=r';show call_range_2 (ŀ7 ka q2 q3 q4 q)
def í3 ÖG (tb:TS):TS:=λ D σ H=>wi ç λ J H1=>∃ W:Ŋ8,(∃ m,W 0 m Ş)/\∀ i m σ H,ÜV->
 (ϳ5/\D.nx ç)\/(Te/\∃ N:ä0,(∀ σ' H',N Ig->∃ m',m'<m/\W ZM Ig)/\∀ x H',UB->g x ik fun σ2 H2=>tb { D with nx:=N,ct:=N,bk:=D.nx } σ2 H2)
def Τ2 (fp:Ξ) Ľ:zLA:=fp.filterMap λ b=>(Ō b).map λ o=>Ãg
def Ü1 ŝ4 Ĝ Ni uF(hb:b∈fp) (e:Fz):Ãg ∈Τ2 fp h:=List.mem_filterMap.mpr #[b,hb,Ϩ5]
def ã2 ŝ4 Ĝ{p:Addr×Obj}(hp:p∈Τ2 fp h):p.1∈fp/\Ō p.1=↑p.2:=by
 let#[b,hb,e]:=List.mem_filterMap.mp hp;cases q:Ō b with
 | none=>ext Tv
 | some o=>
  rw[q] at e;have e':Ãg=p:=Vn;subst e';show#[hb,q]
def Inv.pinned Ĵ ŝ4 Ú (hf:bB) (ho:∀ b∈fp,∃ o,ϒ/\āS):Inv X (gV++Τ2 fp ð) ç s:=
 I.Δ2 λ p hp=>Zw (λ z=>pO p (PP _ z)) λ z=>by
  let#[hb,e]:=ã2 z;let#[f0,f1,f2,_]:=hf p.1 hb;let#[o,e',d]:=ho p.1 hb;ext ϲ4;show#[e,f0,f1,f2,d]
def Inv.gW {gV pl:zLA}Υ æ Λ(I:Inv X (gV++pl) ç s):ŉ:=I.Δ2 λ p hp=>pO p (PP _ (SL _ hp))
def Ė0 {iter:Expr}xi{wi:TI}{g:TG}{tb:TS}Ē ϒ8 ĺ Ϛ6 (hg:PG Ld g) (hb:oP Ák)
  Ìv:PS X óY (í3 wi g tb):=by
 ext DW;exact wpAny_For æR hs;let#[it,fp,tn,J,H2,e,I2,T,st2,f2,W,Γ0,turn]:=h2;subst e;have stat:∀ Wc,(WQ)->õm:=λ hn b hb=>#[hn Ϣ,(f2 Ϣ).2];exact codeAny_forLoop_any (λ n s'=>∃ i σ' H',Ay/\ðG) ?_ m0 #[0,σ,H2,I2,st2,λ b hb=>(f2 Ϣ).1,w0];rintro n s3 ⟨i,oF,H3,I3,st3,fr3,w3⟩;rcases Íy with ⟨stop,qn⟩ | ⟨go,N,hN,step⟩
 .exact ZB hp (zF (T.done X ïs stop) Ϧ2);ext ĊM;show Uf #[oF,H3,I4,qn]
 .exact ZB hp (zF (T.item X ïs go) Ϧ2);let#[u,hr,h4]:=z0;subst hr;exact ZB hp öL;ext ãP;exact ZB hp (zF çi ċZ);ext ĀC;exact ZB hp (zF (hb ÔF I6 q6) λ f s7 q7=>?_);have again:∀ {σ7:St}{H7:Hp},Inv X (gV++Ča) σ7 H7 s7->N σ7 H7->∃ m,m<n/\∃ i σ' H',Inv Fy Ig s7/\tn i s7.heap/\āT:=λ{σ7 H7} I7 n7=>by
   let#[m',hm,w7]:=hN σ7 H7 n7;exact#[m',hm,i+1,σ7,H7,I7.gW,T.keep Ð st5 λ b hb o e=>(I7.pin ω4).1,OJ,w7];ext åx;show (I7.pin ω4).2.1
  cases f with
  | brk=>let#[σ7,H7,I7,q7]:=q7;show#[σ7,H7,I7.gW,q7]
  | ret v=>let#[x7,σ7,H7,I7,r7,q7]:=q7;show#[x7,σ7,H7,I7.gW,r7,q7]
  | _=>let#[σ7,H7,I7,n7]:=q7;show again I7 n7
end
abbrev R2:=V->V->rN
def yM î (f:äj) (r:R2):Prop:=
 ∀ Ű (x y:V) (v u:Ø) E7,ŉ->AG->Ι7->r qu->
  Ä Üo Ą4
def ŝ8 î (f:Ø->PV) (r:V->rN):Prop:=
 ∀ Ű (x:V) đ4 E7,ŉ->AG->r x H Q->
  Ä Ā (f v) Ą4
def wI î (f:Ø) (r:AN):Prop:=
 ∀ Ű HR FC E7,ŉ->qN->ÜW->
  Ä Ā (call f us) Ą4
def zdr î (r:V->ĄS):Prop:=
 ∀ Ű (x:V) đ4 Ļ5,ŉ->AG->r x H Q->
  Ä Ā (truthy v) ϩ4
def Ō4 (r:R2) ÂB:TE:=fun σ H Q=>ta ç λ x H1=>tb Ş λ y H2=>r ļ7 Q
def È2 (r:V->rN) (ta:TE):TE:=fun σ H Q=>ta ç λ x H1=>r x H1 Q
def rI (C:KN) (g:Õl):R2:=λ x y H Q=>∃ i j,x=Ą/\y=Ð3/\Rp/\Q qk H
def ma (g:Õl):R2:=λ x y H Q=>∃ i j,x=Ą/\y=Ð3/\Q qk H
def Ĭ4 (g:Int->V):V->rN:=λ x H Q=>∃ i,x=Ą/\Q (g i) H
section
variable {Ì}{uP}{ta tb:TE}{Ē}
def Ě5 ĕ0 u6 Λ Υ æ{R:V->V->rM}Ú
  (h:ta ç λ x H1=>tb Ş λ y H2=>R ļ7) Ī ο3
  (hf:∀ v u s2 x y H2,Inv Č H2 s2->AG->Ι7->R ļ7->Ä Üo Q X.xe s2):
  Ä Ā (ϻ0) (λ v s₁=>Ä Ā (ÀR) (λ u s₂=>Ä Üo Q X.xe s₂) X.xe s₁) Ï1:=by
 exact ϳ4;ext î7;exact zF ÜX Čb;ext ùT;show hf v u s2 ļ7 ßs
def Ï6 {op:Operator}{r:R2}(ho:ĄV) ĕ0:PE X Ĉk ϳ6:=by
 ext ŧ;show wpAny_BinOp ãb
def Ã2 {op:UnaryOp}{r:V->rN}(ho:ŝ8 X (unaryOp op) r) ND:PE X (ÜY op a pos) (È2 r ta):=by
 ext ŧ;show UnaryOp_ (zF LF λ v s1 Qa=>ho ph x v Q ÂQ)
def bO ο3{C:KN}{g:Ϧ3}
  (rule:∀ qB (t u:Tok) ŭ UW ã7,Rp->ãz):
  yM X f (rI C Òa):=by
 ext qy;let#[i,j,rfl,rfl,hc,q]:=h;ext Xg;show rule ÔG hc îi
def ū1 ο3{g:Ϧ3}
  (rule:∀ qB (t u:Tok) ŭ UW ã7,ãz):
  yM X f (ma Òa):=by
 ext ëi;show rule ÔG îi
def ŷ8 ο3{g:Int->Int->Bool}
  (rule:∀ qB (t u:Tok) ŭ UW ã7,Q (FK qk) s->ìN):
  yM X f (ma λ i j=>.bl qk):=by
 ext ëi;show rule ÔG #[.bl qk,H,I,rfl,q]
def ox qB:Prop:=0<j/\j<1073741824
def gS qB:Prop:=0<=j/\j<=1000000/\Ι9<2 ^ 64
def oU qB:Prop:=(-(2 ^ 64)<i/\i<2 ^ 64)\/(-(2 ^ 64)<j/\j<2 ^ 64)
def oU.ok pS(h:ζ3):IntMulOk i j:=by
 rcases h with ⟨h1,h2⟩ | ⟨h1,h2⟩
 .show .of_left úT
 .show .of_right úT
def Ó9 Đ:Eb<=2 ^ k:=by
 rw[two_pow_cast];show üR _
def Ă0:yM ž0 (ma λ i j=>Κ0):=ū1 λ _ _ _ _ _ _ _ q=>add_int q
def è2:yM X (ð5 .Sub) (ma ËJ):=ū1 λ _ _ _ _ _ _ _ q=>sub_int q
def ë6:yM ϩ5 (rI oU λ i j=>Áx):=bO λ _ _ _ _ _ _ _ hc q=>mul_int q hc.ok
def Ĕ3:yM X (ð5 .FloorDiv) (rI ÊG):=bO λ i j _ _ _ _ _ hc q=>by
 have h1:Eb<j:=Ú0;have h2:j<1073741824:=hc.2;show floordiv_int (LQ.ů8 h1) (by rw[ðH i ⋯];show q) (È (PyProof.noPylong_small ⋯))
def ß8:yM X (ð5 .Mod) (rI ÇD):=bO λ i j _ _ _ _ _ hc q=>by
 have h1:Eb<j:=hc;show mod_int' (LQ.ů8 h1) (by rw[Int.fmod_eq_emod_of_nonneg i ⋯];show q)
def ë3:yM X (ð5 .Pow) (rI ÉE):=bO λ _ _ _ _ _ _ _ hc q=>pow_int_small Ú0 hc.2.1 hc.2.2 q
def Ó4:yM X (ð5 .RShift) (rI ÆZ):=bO λ i j _ _ _ _ _ hc q=>
 rshift_int hc (by rw[ðH i (Ó9 _)];show q)
def é4:yM X (ð5 .BitAnd) (ma ÉI):=ū1 λ _ _ _ _ _ _ _ q=>and_int q
def ą2 {f:Ø->PV}{g:Int->Int}
  (rule:∀ C8 Ď7 ŭ UW ã7,Q (Â (g i) Ĕ) { s with toks:=Cg }->Ä Ā (f (Pp)) ï):
  ŝ8 X f (Ĭ4 λ i=>Â (g i)):=by
 ext ăI;let#[i,rfl,q]:=h;ext VX;show rule i t s À #[Â (g i),H,pK,ξ,q]
def ġ7:ŝ8 X (unaryOp .USub) (Ĭ4 λ i=>Â (-i)):=ą2 λ _ _ _ _ _ q=>neg_int q
end
section
variable {Ì}{a b c:Expr}{ta tb tc:TE}{Ē}
def Ĳ6 Ĵ Ud{k k':Bool}Ú (q:Q (CK) H) (e:k=k'):EP Č Q (FK k') s:=by
 subst e;show#[CK,H,I,rfl,q]
def Á9:yM Úd (ma λ i j=>Yy):=ŷ8 λ _ _ _ _ _ _ _ q=>lt_int q
def ζ5:yM X (GJ .LtE) (ma ϓ7):=ŷ8 λ _ _ _ _ _ _ _ q=>le_int q
def Ì3:yM X (GJ .Gt) (ma ϔ7):=ŷ8 λ _ _ _ _ _ _ _ q=>gt_int q
def û1:yM X (GJ .GtE) (ma ϓ8):=ŷ8 λ _ _ _ _ _ _ _ q=>ge_int q
def É7:yM X (GJ .Is) (λ x y H Q=>îj):=by
 ext ùV;exact is_none_gen (Ĳ6 I q ?_);cases x <;> first
  | (cases rx;rfl)
  | (ext VX;rfl)
def ę2:yM X (GJ .IsNot) (λ x y H Q=>íA):=by
 ext ùV;exact isnot_none_gen (Ĳ6 I q ?_);cases x <;> first
  | (cases rx;rfl)
  | (ext VX;rfl)
def yM.or ο3 ÄC(h:yM X f r) (h':yM X f r'):yM X f ðI:=by
 intro gV s σ H x y v u Q I rx ry q;ext ϲ3
 .show h ÉF q
 .show h' ÉF q
def Ħ0 (b:Expr) ĳ5(h:op≠.In:=by decide) (h2:op≠ tR:=by decide):KZ:=by
 ext íu
 ext ìc
 ext üB
def Ð0 ĳ5{r:R2}ų7 ĕ0 (hm:KZ):PE Xt ϳ6:=by
 ext ŧ;show wpAny_Compare1 ãb hm
def Ĝ2 Ł8:TT:=fun σ H Q=>t ç λ x H'=>∃ k,x=CK/\Q k H'
def ė9 ĳ5{r:R2}ų7 ĕ0 (hm:KZ):PT Xt (Ĝ2 ϳ6):=by
 ext ŧ;exact öK (zF LF λ v s1 Qa=>zF ÜX λ u s2 òW=>
  zF îY λ c s3 ìk=>?_) hm
 subst e;cases r3;show P9 #[H3,I3,q3]
def Ī7 (r r':R2) (ta tb tc:TE):TE:=fun σ H Q=>ta ç λ x H1=>tb Ş λ y H2=>r ļ7 λ z H3=>∃ k,z=CK/\
 (if C1 then tc σ H3 λ w' H4=>r' y w' H4 Q else Q Oz H3)
def Û8 Ϭ0 χ4 ĕ0 (hc:PE rm)
  χ6:PE ύ8 āU:=by
 ext ŧ;exact Compare_chain (zF LF λ v s1 Qa=>chain_link àI) hm
 ext ćJ;cases k with
 | Á=>show ite_ff #[.bl Á,H3,I3,rfl,q3]
 | true=>show ite_tt (chain_last (zF òX λ w' s4 #[z',H4,I4,r4,q4]=>ho' ûZ Q I4 r2 r4 q4))
def Õ7 Ϭ0 χ4 ĕ0 (hc:PE rm)
  χ6:PT ύ8 (Ĝ2 āU):=by
 ext ŧ;exact isTrue_chain (zF LF λ v s1 Qa=>test_link àI) hm
 ext ćJ;cases k with
 | Á=>
  let#[k',e',q']:=q3;cases e';show ite_ff #[H3,I3,q']
 | true=>
  exact ite_tt (test_last (zF òX λ w' s4 z0=>?_));let#[z',H4,I4,r4,q4]:=z0;exact zF (ho' ûZ _ I4 r2 r4 q4) λ d' s5 z0=>?_;let#[z2,H5,I5,r5,k2,e2,q5]:=z0;subst e2;cases r5;show P9 #[H5,I5,q5]
def μ6 Ï (x:V) ô ÿ3:Prop:=
 match x with
 | .zB=>k=Á
 | ω=>k=b
 | Ą=>k=(i != 0)
 | Ir=>ñP
 | .Zq y=>ìO
 | Ŗ=>(∃ xs,Øy/\k=! MY)\/(∃ xs,y6 Úe/\k=! MY)\/āV
 | _=>ê
def zao Ν0 Q1:(!vs.isEmpty)=Ïs:=by
 cases r <;> rfl
def Ò9 Ę TC(r:A9):(! cN)=! MY:=by
 cases r <;> simp
def fF:(â:Nat)<2 ^ 63:=by rw[NU];decide
theorem č7:zdr X (λ x H Q=>∃ k,μ6 X.K x H k/\Q k H):=by
 ext ăI;let#[k,e,q]:=h;have hl:=fF;have hs:QV:=NU;cases x with
 | zB=>
  cases rx;have e':k=Á:=e;subst e';show truthy_none ÓA
 | bl b=>
  cases rx;have e':k=b:=e;subst e';show P9 ÓA
 | int i=>
  ext VX;have e':k=(i != 0):=e;subst e';show PySem.P.truthy_int ÓA
 | str y=>
  ext VX;obtain⟨hy,e'⟩:ñP:=e;subst e';show PySem.P.truthy_str ăJ
 | Zq y=>
  ext VX;obtain⟨hy,e'⟩:ìO:=e;subst e';show PySem.W.truthy_bytes ăJ
 | ref p=>
  cases rx;have e':(∃ xs,yB ŏ p xs/\k=! MY)\/(∃ xs,y6 ŏ p xs/\k=! MY)\/āV:=e;rcases e' with ⟨xs,hx,e'⟩ | ⟨xs,hx,e'⟩ | ⟨tp,hx,e'⟩
  .subst e';let#[its,r,pl,hz]:=HK hx;have hlen:=ϗ;show wpAny_truthy_list G1 ìf
  .subst e';let#[its,r,pl,hz]:=Ê8 hx;have hlen:=ϗ;show truthy_tuple pl ìf
  .subst e';obtain⟨hz,hS,vs,r,m⟩:VT/\(p == ϳ7)=Á/\∃ vs,Rn/\Čc Ãh p vs:=I.zt p _ hx;have hlen:WR=Κ:=GX r;show wpAny_truthy_dict hS m ⋯ #[H,pK,by rw[zao r];show q]
 | _=>show (show ê from e).elim
def ă4 ND (he:âq):
  PT X a (fun σ H Q=>ta ç λ x H'=>∃ k,μ6 X.K x H' k/\Q k H'):=by
 ext ŧ;show isTrue_plain (zF LF λ v s1 Qa=>č7 ph x v Q ÂQ) (he _)
def Ĥ3:yM ž0 (λ x y H Q=>çx):=by
 ext qy;let#[i,j,rfl,rfl,hz,q]:=h;ext Xg;show add_str (λ t' tk=>#[Ϯ1,H,pK,ξ,q]) hz
def vals1 AW Ο(r:Vals [x] us):ÎO:=by
 cases r with
 | cons r1 r2=>cases r2;show ĄW
def vals2 {x y:V}Ο(r:Vals sF us):∃ u w',us=[u,w']/\Ě4/\RelV y w':=by
 cases r with
 | cons r1 r2=>
  cases r2 with
  | cons r3 r4=>cases r4;show#[_,_,rfl,r1,r3]
def zcI ĺ:wI X (ϐ "max") (λ xs H Q=>∃ i j,xs=Df/\Q (Â (Ðj)) H):=by
 ext âG;exact max_two_ints çM;by_cases hj:j>i
 ext ċD
 .ext ž3;show ξ
def zcH ĺ:wI X (ϐ "min") (λ xs H Q=>∃ i j,xs=Df/\Q (Â (Ðp)) H):=by
 ext âG;exact min_two_ints çM;by_cases hj:j<i
 ext ċD
 .ext ž3;show ξ
end
structure ez Ľ (x dx C:Addr) (mA:zSV):Prop where
 obj:Ō x=↑ Øn
 ns:ϭ7
 ne:dx≠x
def Ú2 Ĝ{dx:Addr}{mA:zSV}(n:ϭ7):∃ od,Ō dx=↑od/\çy:=by
 let#[o,es,ep,ho,hd,hk,_,hm]:=n;exact#[o,ho,λ name=>?_];have e:=hm name;unfold nsFind findBy at e;rw[<- üW] at e;unfold ÐC;rw[hd];ext Þ;split
 .rename_i y q;rw[q] at e;show Ó some e
 .rename_i q;rw[q] at e;have a:ñQ=Á:=by
   rw[List.any_eq_false];intro y hy;let#[z,t,hkey]:=hk y (Array.mem_toList_iff.mp hy);simp[DictEntry.refKey,hkey]
  have a':¬ ñQ=true:=by rw[a];show Wp
  rw[É a'];show Ó some e
def ez.look Ĝ{x dx C:Addr}{mA:zSV}(I:ez h x dx C mA):∃ od,PySem.W.InstAt h x Øn C ↑od/\çy:=
 let #[od,ho,hl]:=Ú2 I.ns
 #[od,#[I.obj,rfl,rfl,ho],hl]
section
variable {ώ}{Ý}{x dx C f:Addr}{mA:zSV}{name:Str}{CN}
def get_map {expr:Bool}Ī ÉC (hg:ÿb) (hh:ϒ1)
  (ha:Mb Gw name=↑none) (hv:Ãi=↑v) (hv':āW v=true) (h:Q v { s with toks:=Cg }):
  Ä óA ï:=by
 ext ÍW;show PySem.W.get_value X J (Ëo).1 (PySem.W.findObj_own hh ha rfl (by rw[hl,hv])) hv' h
def zaU ž2{Q:Ø × BO->ϴ}ÉC (hg:ÿb)
  (hf:Mb Gw name=↑↑ FA) (ht:iE) (hv:Ãi=none) (h:Q (à f,[Ar]) s):
  Ä í (Α3 rh name pl) ï:=by
 ext ÍW;show PySem.W.method_fn X J (Ëo).1 (Ëo).2 hf (KA ht) (by change (ÐC name od).map (·.isSome)=↑ Á;rw[hl,hv];rfl) h
def ð6 {ns:Û}AY ÉC
  (hs:ÅD) (hp:ÊF) (ht:Ït K C name=↑none) (hh:ϒ1)
  (hw:PySem.Within mA ns) (hsz:r_<=â)
  (h:∀ h',ez h' x dx C (λ y=>if y=name then ↑v else mA y)->sJ dx Xc->Q HY { s with heap:=h',toks:=Ĕ+2 }):
  Ä øz ï:=by
 ext ÍW;exact PySem.W.set_plain X J hs (PySem.W.osa_open (s:={ s with toks:=Cg }) (r:=none) X J hp ht λ b=>?_);let#[cd,hc,hd']:=PySem.W.any_some hh;have hx:ż x=↑#[sD,↑dx,.plain,į]:=I.obj;exact AC (AT (AC (AC (wpAny_loadPart hx (AC (PySem.W.Looks.here (s:={ s with toks:=Cg }) (PySem.W.looks_clsIn X hc) ?_))))));rw[hd'];exact AT (a:=↑dx) (AC (AT (He)));exact wpAny_nsSet1 (s:={ s with toks:=Cg }) I.ns λ h' hn2 hs2=>?_;let#[oD,esD,epD,hoD,hdD,hcD]:=hn2.count (PySem.Within.cons name v hw);exact AC (āX hoD (by rw[hdD];show āY (BY hcD (ĄX))) ?_);show AT (h _ #[(hs2.2 _ (Ł I.ne)).trans I.obj,hn2,I.ne] hs2)
def ú0 ο4 O4{kw:A5}(X:ÄA) (hm:ÊT)
  (hi:ÈV) (hf:Ĉl K FA=↑(Òb))
  (h:tB U5 (A.under (ϐ "type.__call__" #[sD::vs,kw])) (Sy FA #[à uo::vs,kw]) (PySem.W.InitBack uo R)
   { s with heap:=ÊK }):
  tB í (Sy IJ #[vs,kw]) R s:=by
 ext ĀD;show PySem.W.make_core (PySem.W.makes_of X hm) (PySem.W.looks_findIn X hi) (λ self=>PySem.W.bind_fn X self hf) ì9 h
end
def md Ø1 Fh:ü6->ü6
 | []=>ÚM
 | (g,x)::r=>if g=f then (g,v)::r else (g,x)::md f v r
theorem Ĭ0 (f g:Str) Fh:∀ fs:ü6,(ϻ1).lookup g=if g=f then ↑v else YK g
 | []=>by
  change og g ÚM=_;by_cases h:g=f
  .have hb:(g == f)=true:=ÎP;simp![og,hb,Ç h]
  .have hb:(g == f)=Á:=ED h;simp![og,hb,Fv]
 | ϳ8=>by
  have ih:=Ĭ0 f g v r;ext Æk
  .rw[Jt];by_cases h:g=k
   .have hb:(g == k)=true:=ÎP;simp![og,hb,Ç (h.trans hk)]
   .have hb:(g == k)=Á:=ED h;simp![og,hb,É (λ e:g=f=>h (e.trans hk.symm))]
  .rw[Yi];by_cases h:g=k
   .have hb:(g == k)=true:=ÎP;simp![og,hb,É (λ e:g=f=>hk (h.symm.trans e))]
   .have hb:(g == k)=Á:=ED h;simp![og,hb];show ih
theorem ş9 Ø1 Fh:∀ fs:ü6,f∈(ϻ1).map Ě/\∀ g,g∈ Ac Ě->g∈(ϻ1).map Ě
 | []=>#[by simp[md],λ g h=>E9]
 | ϳ8=>by
  let#[i1,i2]:=ş9 f v r;ext Æk
  .rw[Jt];subst hk;show#[∅,λ g h=>sX]
  .rw[Yi];exact#[?_,λ g h=>?_]
   .rw[As];show Da _ i1
   .rw[As] at h ⊢;ext ÑR
    .show List.mem_cons.mpr ζ4
    .show Da _ (i2 g e)
theorem ŋ2 Ø1 Fh:∀ fs:ü6,(ϻ1).length<=μ+1
 | []=>by simp[md]
 | ϳ8=>by
  have ih:=ŋ2 f v r;ext Æk
  .rw[Jt,GM,GM];lia
  .rw[Yi,GM,GM];lia
def ϳ9 ϋ{o:B2}(r:nk ↑v o):∃ u,o=↑u/\Au:=by
 cases o with
 | none=>show Ő8
 | some u=>show#[u,rfl,r]
def nk.none_of {o:B2}(r:nk none o):o=none:=by
 cases o with
 | none=>rfl
 | some u=>show Ő8
def Ľ2 ϋ uO ξ9:āW u=true:=by
 cases v with
 | zB=>cases (show u=Hr from r);rfl
 | bl b=>cases (show u=Β8 b from r);rfl
 | int i=>ext ċH;cases e;rfl
 | str x=>ext ċI;cases e;rfl
 | Zq b=>let#[t,e]:=(show õh from r);cases e;rfl
 | Ta b=>let#[t,e]:=(show õi from r);cases e;rfl
 | ref a=>cases (show u=đ a from r);rfl
 | ty n=>cases (show u=sU n from r);rfl
section
variable {Ė}{æ}{Ĝ}{ćd}
def dY (zt:N6) (e:H a=↑ Ň5):∃ mA,ez h a dx C mA/\(Ét)/\òT/\μ<=1000/\H dx=↑ ε3:=by
 let#[d,z,ne,ob,mA,n,r,q]:=(show wX Ly Ň5 from zt a _ e)
 show#[mA,#[ob,n,ne],r,q,z,d]
end
structure l7 Ï qb:Prop where
 pg:õn
 hd:ϒ1
 po:ÊF
 sa:ÅD
def l7.get Ý ĸ5(c:vZ) Ø1:Éf ο5=true:=c.pg
def gJ Ï qb Ø1:Prop:=úU
def gJ.taker Ý ĸ5 J_(n:ÜZ):Ït ο5=↑none:=by
 unfold Ït;rw[show úU from n];rfl
structure Meth Ï qb ο6 Ö8:Prop where
 at_:öM
 fn:iE
 kp:BI
section
variable {Ì}{Ĵ}{ćd}{J_}{ϋ}{Eo}
def zaT Dn Ī Ú ÊR (n:gJ Ą5 f) (l:YK f=↑v)
  (h:∀ u s',ž7->Au->Q u s'):Ä Ħ4 (Ãj ĳ f b) ï:=by
 ext òw;let#[u,hu,ru]:=ϳ9 (v:=v) (o:=mA f) (by rw[<- l];show r f);show get_map I.yV O (c.get f) c.hd n hu (Ľ2 ru) (h u _ Mp ru)
def Þ6 {m:Str}{g:Addr}ž2{Q:Ø × BO->ϴ}Ú ÊR (k:Meth Ą5 m g) (l:Øz)
  (h:Q (à g,Dd) s):Ä Ħ4 (Α3 ĳ m pl) ï:=by
 ext òw;have hn:mA m=none:=nk.none_of (by rw[<- l];show r m);show zaU I.yV O (c.get m) k.at_ k.fn hn h
def ê7 {y:V}uO AY Ú ÊR (n:gJ Ą5 f) (hl:μ<1000) Ah
  (h:∀ s',Inv Č (upd H a óZ) s'->Ι6):Ä Ħ4 (setAttr ĳ f u) ï:=by
 let#[mA,O,r,wi,_,ho]:=dY uU;have hz:(Ac Ě).length<=â:=by rw[AS,NU];lia
 exact ð6 I.yV O c.sa c.po n.taker c.hd wi hz λ h' O' sb=>h _ ?_;have hd:∃ o,ι dx=↑o:=let #[o,_,_,e',_]:=O'.ns;#[o,e']
 exact Ο5 (x:=a) (e:=dx) Ϩ8 (Æ ho) (λ b q hb z=>āZ z) hd ?_;exact#[by rw[zR O.ne];show ho,?_,O.ne,O'.obj,_,O'.ns,λ g=>?_,λ g hg=>?_]
 .have:=ŋ2 ο7;show BY this hl
 .change nk ((md ο7).lookup g) ôa;rw[Ĭ0];by_cases q:g=f
  .rw[Ç q,Ç q];show ry
  .rw[É q,É q];show r g
 .by_cases q:g=f
  .rw[q];show (ş9 ο7).1
  .exact (ş9 ο7).2 g (wi g λ z=>hg ?_);change ôa=none;rw[É q];show z
def Inv.made Ú:Inv Č (upd (upd H Õ (ì uo)) uo (.ins C Õ []))
  { s with heap:=ÊK }:=by
 have e1:(zV).get? Õ=↑ ÆF:=zA9 ð rfl;have e2:(ÊK).get? uo=↑(Ýa):=by
  have:=zA9 (zV) (o:=Ýa) rfl
  rwa [Ss] at this
 have e3:(zV).Ns Õ (Nc):=#[ÆF,į,_,e1,rfl,(ÿc),ğ];have I1:=B6 (a:=Õ) (o:=ì uo) (h':=zV) (t':=Ĕ) ϙ4 Ķ #[_,e1];exact Ãk (a:=qE) (o:=.ins C Õ []) (t':=Ĕ) ϙ4 (NL (Ss À)) ?_;have ne:Õ ≠ qE:=Ϯ2;exact#[by rw[zR ne,yy],GO,ne,e2,Nc,(ÿd e3).at λ o q=>ŗ0,λ _=>Pt,λ y hy=>á rfl hy]
def ŋ8 Gf tK ė J_ Ē Λ Ī(hb:qM e f env (ØA)=ØA)
  (h:Ä í (ØA) (λ o s₁=>Ä í (Ãj o f true) Q E s₁) E s):Ä í (eval ÓB env) ï:=
 Attribute_any_ h (by rw[arm_eval_Attribute,hb])
end
def ė8 Ï (ta:TE) Ø1:TE:=fun σ H Q=>ta ç λ x H1=>∃ a C dx fs v,LJ/\Õm/\vZ/\ÜZ/\YK f=↑v/\Q v H1
def ą4 Ï (ta tv:TE) Ø1:TS:=λ D σ H=>tv ç λ y H1=>ta Ş λ x H2=>∃ a C dx fs,LJ/\H2 a=↑ Ň5/\vZ/\ÜZ/\μ<1000/\
 D.nx σ (upd H2 a óZ)
section
variable {Ì}{o e Fg:Expr}{J_}{pos pos':Pos}{ta tv:TE}
def Ė9 (he:PE X e ta) (hb:ùj):PE X ÓB (ė8 X.K ta f):=by
 ext ŧ;exact ŋ8 hb (zF Ãe Cr);let#[x,H1,I1,rx,a,C,dx,fs,v,ex,ea,c,n,l,q]:=z0;ext ħ9;show zaT I1 ea c n l λ u' s2 I2 ru=>#[v,H1,I2,ru,q]
def ċ2 (ha:PE X o ta) (hv:PE X Fg tv) (hs:ìl):PS X ðx (ą4 X.K ta tv f):=by
 ext DW;exact ìP (zF (hv Gn) Cr) hs;let#[y,H1,I1,ry,q]:=z0;exact zF (ha ÖH) Ĉm;let#[x,H2,I2,rx,a,C,dx,fs,ex,ea,c,n,l,q2]:=z0;subst ex;obtain rfl:ov=đ a:=rx;show ê7 I2 ea c n l ry λ s3 I3=>#[σ,_,I3,q2]
end
structure yg Đ Ü4:Prop where
 hd:ÐD
 dp:Ãl+3*k+5<Ĉn
 un:xH+16*k+200<Ε
def yg.mono {j k:Nat}sO(r:ζ6) (h:j<=k):yg j A:=#[r.hd,üX,þA]
theorem yg.deeper ý sO(r:yg ŕ A) (env:Env):yg k (ME env):=
 #[r.hd,by have:=r.dp;change Ãl+1+3*k+5<_;lia,by have:=r.un;change xH+3+16*k+200<_;lia]
def ĉ7 sO ĸ5 Ο{kw:A5}:(ϊ1).depth=Ãl+1:=by
 first | rfl | simp[ÓC,Code.weight,Code.isCreation,Code.isGuard,Code.isCaller,Code.frames,ÓD,guardIds]
def ġ5 sO ĸ5 Ο{kw:A5}:(ϊ1).units=xH+1:=by
 first | rfl | simp[ÓC,Code.cUnits,Code.frames,ÓD]
def yg.make ý sO(r:yg ŕ A) qb FC (kw:A5):yg k (ϊ1):=
 #[r.hd,by have:=r.dp;rw[ĉ7];lia,by have:=r.un;rw[ġ5];lia]
theorem yg.depth ý sO(r:ζ6):Ãl<Ĉn:=üX
theorem yg.units ý sO(r:ζ6):xH+64<Ε:=þA
def gY:TA:=λ _ H Q=>Q [] H
def ű1 (ta:TE) (tr:TA):TA:=fun σ H Q=>ta ç λ x H1=>tr Ş λ xs H2=>Q LX H2
section
variable {Ì}{ė}{Ń}{Dy}{t:TA}{Ē}
def kG:PA X [] gY:=λ _ _ _ _ H Q I h=>ÊL ôb
def lZ (ha:PE IY) (hr:ÚN) (hs:CH:=by rfl):PA X AR (ű1 te t):=by
 intro pos gV s σ H Q I h;rw[hs];change Ä À (fW (Β9::Čd)) CW;exact Xm (zF LF Cr);ext î7;show zF (hr pos tP) λ us s2 #[xs,H2,I2,r2,q2]=>íB
def Ă5 OM:TE:=fun σ H Q=>t ç λ xs H1=>CO/\∀ p,H1 p=none->Q ī (upd H1 p Hg)
def Ð9 OM:TE:=fun σ H Q=>t ç λ xs H1=>CO/\∀ p,H1 p=none->Q ī (upd H1 p ñ4)
def đ3 {x1} (h:ÚN):PE X (Vb es x1 pos) (Ă5 t):=by
 intro gV s σ H Q I hq;exact wpAny_Tuple_spliced åy;ext ćP;exact#[à AL,upd H1 AL Hg,çV,rfl,q _ hf];show#[#[z,Vl],us,r,#[_,Eu,rfl,_,rfl]]
def ñ6 (h:ÚN):PE X Ĉo (Ð9 t):=by
 intro gV s σ H Q I hq;exact wpAny_List_spliced åy;ext ćP;exact#[à AL,upd H1 AL ñ4,çV,rfl,q _ hf];show#[z,us,0,r,Eu]
end
abbrev Sp:=À0->Hp->VK->XK->Prop
abbrev l9:=rf->Hp->θ->XK->Ø->ϴ
structure eL u9 Ċ Ï Û2 Ü4 sN ŭ ô:Prop where
 frames:A.frames=↑ ġ
 mod:Mod Ä4 base
 bs:∀ b o,ÚO b=↑o->ϒ/\Bv
 jv:base.objs.size<=Õ
 lj:fM base ġ
 il:∀ b∈xY ġ,Bv
 zt:yT Ş7 ð
 bare:Ãb s.gens
def Ũ3 sN u9 Ċ ô ŭ E7 Xp F_:Prop:=
 ∃ v H',Øs/\Ϡ8/\ðJ/\Če/\Au/\Q v H'
def ô6 (CX:l9) sN u9 Ċ ô ŭ E7 Ģ2 (r:Result) F_:Prop:=
 match r with
 | .ok (Μ u)=>öN
 | .ok _=>ê
 | .error e=>CX ßt e s'
structure wA u9 Ċ Ï Û2 (CX:l9) Đ Ö8 (fd:pW) É9 (sp:Sp):Prop where
 len:ÈJ
 run:∀ Ü4 sN ŭ ô (args:Args) FC ο1 E7 Ģ2,ζ6->ÚP->XZ s fd args ÈK->ı4->XB->
  tB iY A (Sy FA args) (ô6 CX øA E) s
def wA.imp Ė Ý Ih XA ý Iq Ĳ{sp sp':Sp}(F:wA Ê CX ÂS)
  (h:∀ vs H Q E,sp' vs H Q E->XB):wA Ê CX k A8 sp':=
 #[λ vs H Q E q=>F.len vs H Q E (h ĉ q),λ A ġ s H args us vs Q E hr he hb hv hs=>F.run ĊN E hr he hb hv (h ĉ hs)]
def eL.make Ė Ý Ih sO{ġ:rf}Λ æ(e:ÚP) qb FC (kw:A5):
  eL Ê (ϊ1) ġ s H:=#[by first | show e.frames | (simpa [ÓC,Code.envs,ÓD,pushEnvs] using e.frames),e.mod,e.bs,e.jv,e.lj,e.il,e.zt,e.bare]
section
variable {Ì}{u6}{Υ}{æ}{s s':θ}
def Inv.aW Ú:eL En ÄS s H:=
 #[mG,Ι5,I.bs,BY Ο2 I.sz,Ãm,I.ŭ8,I.zt,Cf]
theorem Inv.after Ud uO Ú (h:Ũ3 sS η H s Q u s'):EP Č Q u s':=by
 let#[v,H',os,bare,un,zt,r,q]:=h;let#[hh,g,d,t,os']:=s';obtain rfl:os'=s.os:=os;show#[v,H',I.call (h':=hh) (g':=g) (d':=d) (t':=t) (ch:=[]) un zt bare Çk,r,q]
end
def Ŝ8 óB:TE:=fun σ H Q=>t ç λ vs H1=>sp Kg H1 Q E
def Á3 qb óB:TE:=fun σ H Q=>t ç λ vs H1=>∀ x dx,H1 x=none->H1 dx=none->dx≠x->
 sp (Ar::Kg) (upd (upd H1 dx Χ1) x ÐE) ñR E
def Binds Ï (fd:pW) É9 (ds:zLV):Prop:=
 ∀ ŭ FC,ÄA->üY->XZ s fd ę1 (ps.zip Ϲ4)
def Binds.all Ý Sz Ĳ(h:∀ us:BO,Š3->Wq fd ę1=SW):Yu:=λ s us _ hl=>by
 rw[IR] at hl ⊢;show .of_eq (h us hl)
def Passes (CX:l9) î Ģ2:Prop:=∀ Ka ô ŭ (e:Ø) F_,ŉ->CX sS H s E e s'->X.xe e s'
section
variable {Ì}{XA}{ý}{f C:Addr}{Sz}{Ĳ}{òx}{ā}{p pos:Pos}{ė}{Ń}{t:TA}
def ŕ7 Ĵ Ud Ο{vs:À0}Yr ν Um
  Ú (r:ı4) (h:sp Kg H Q E):Ä Ā (call FA us) Ą4:=by
 have r2:Vals Kg Ϲ4:=eW hd;have hl:üY:=by rw[<- Su];show F.len ĉ h
 exact RT (û5 (F.run ÄS s H ę1 Ϲ4 Kg Q E hr I.aW (hb s us I.yV hl) r2 h) Ϧ4);cases r with
 | Aq e=>show hx gV ç s e s' I hq
 | ok fl=>
  cases fl with
  | ret u=>show I.after hq
  | _=>show rQ hq
def ē0 Yr ν ϙ ÈD Um
  iK ϟ6 ÇP:
  PE üa:=by
 ext ŧ;exact Z_;exact Qp Rj hk (zF Ϯ3 Çh) BK;show ôc
structure Mk Ï (C f:Addr):Prop where
 makes:ÊT
 init:ÈV
 fn:iE
 kp:Ϩ4
def ĉ5 Ĵ Ud Ο{vs:À0}(M:Mk Ą5 f) Yr (hr:yg ŕ X.A) Um Ú (r:ı4)
  (h:∀ x dx,H x=none->ÀV->dx≠x->sp (Ar::Kg) èw ñR E):
  Ä Ā (call IJ us) Ą4:=by
 have hq:=h uo Õ (CG (zgL _)) Ui (Ϯ2);have I2:=Inv.made (C:=C) I;have r2:Vals (ES uo::Kg) Čf:=ã rfl (eW hd);have hl:(ØB++ds).length=İ:=by
  have e:=Su;rw[F.len ĉ hq] at e;show e.symm
 exact RT (ú0 (f:=f) I.yV M.makes M.init (KA M.fn) (û5 (F.run _ sS À #[ØB,[]] Čf À E (hr.make C us [])
  (I2.aW.make C us []) (hb _ (ØB) SX hl) r2 hq) Ĉp))
 cases r with
 | Aq e=>show hx gV σ À e s' I2 hq'
 | ok fl=>
  cases fl with
  | ret u=>
   let#[v,H',I3,rv,ev,q3]:=Ýb hq';subst ev;show#[rv,#[ES uo,H',I3,rfl,q3]]
  | _=>show rQ hq'
def Í9 (M:Mk Ą5 f) Yr (hr:yg ŕ X.A) ϙ (hm:X_=↑ IJ) Um
  ϟ6:PE X (Ă U7 [] sy) (Á3 C sp dvs E gY):=by
 ext ŧ;exact Z_;show PySem.W.callWith_K0 I.yV M.kp (ĉ5 (us:=[]) M F hr hb hd hx I ä h)
end
structure vq (N P:Û) (sc:IH):Prop where
 kind:sc.kind=QO
 co:ÿe
 gen:ÿf
 nd:O8
 pre:ÿg
 par:∀ x∈P,Ën
 Bo:ñS
theorem ĝ3 ϒ9 ā:∀ ĎD,õo->Qh Pd binds m x=m x
 | [],_,_=>rfl
 | (n,v)::r,m,h=>by
  unfold Qh;rw[ĝ3 õp];split
  .ext üM
   simp[this]
  .rfl
theorem ő0 ϒ9 ā:∀ ĎD,õo->QD Pd binds m x=m x
 | [],_,_=>rfl
 | (n,v)::r,m,h=>by
  unfold QD;rw[ő0 õp];split
  .rfl
  .ext üM
   simp[this]
theorem į7 ϒ9 ā CN:∀ {P:Û}O4 ă{m:zSV},P.Nodup->P[i]?=↑x->Õn->Pd x=↑ uI->
  Qh ăK=↑v
 | [],_,_,_,_,h,_,_=>E9
 | ş,[],_,_,_,_,h,_=>E9
 | p::P,w::vs,0,m,nd,h1,h2,hk=>by
  ext ăL;change Qh Ϗ3 p=_;unfold Qh;rw[ĝ3 ìm,Jt];simp
 | p::P,w::vs,i+1,m,nd,h1,h2,hk=>by
  change Qh Ϗ3 x=_;unfold Qh;show į7 æw
theorem ŗ4 ϒ9 ā CN:∀ {P:Û}O4 ă{m:zSV},P.Nodup->P[i]?=↑x->Õn->Pd x≠↑ uI->
  QD ăK=↑v
 | [],_,_,_,_,h,_,_=>E9
 | ş,[],_,_,_,_,h,_=>E9
 | p::P,w::vs,0,m,nd,h1,h2,hk=>by
  ext ăL;change QD Ϗ3 p=_;unfold QD;rw[ő0 ìm,Yi];simp
 | p::P,w::vs,i+1,m,nd,h1,h2,hk=>by
  change QD Ϗ3 x=_;unfold QD;show ŗ4 æw
def F7 NY ο1:St:=vs.map some++ĵ (S8-Κ) none
def xE (CX:l9) u9 Ċ Ï Û2 NY (qual:Str) ÄD Ö8 (cd:Ø) Ü4 sN ŭ ô Ģ2:Cx where
 prog:=P
 w:=w
 K:=K
 mg:=mg
 base:=base
 A:=ME (fJ)
 N:=N
 s₀:=s
 H₀:=H
 env:=fJ
 ġ:=ġ
 stack:=fJ::ġ
 ex:=[]
 calm:=true
 fn:=ϻ2
 pn:=[]
 xe:=λ e s'=>Ä iY (ME (fJ)) (Ο7 (fJ) e) (λ _ s''=>CX ßt e s'') (λ e' s''=>CX ßt e' s'') s'
def Ĺ2 {sc:IH}ď ā(h:Øo):∃ c,(Α4 n Ýc []).lookup x=↑c:=by
 have q:=õq Ýc n [] U4;show Option.isSome_iff_exists.mp q
def zas XA Ė Ý Ih Jp{qual:Str}ZN Χ8{cd:Ø}sO{ġ:rf}{s s1:θ}æ{E:XK}Ο{vs:À0}
  (S:vq N ps ų) (hd:ÐD) (e0:ÚP) (hl:Κ=İ) (r:ı4)
  (x:InCallC s Õ (Qh þf) (Ĉq) (QD þf) s1):
  Inv (ÿh) [] VV H s1:=by
 have hpl:İ<=S8:=by have:=Ó Í6 S.pre;rw[zgC] at this;lia
 let#[h1,tk,rfl,hk]:=x.done;have noA:∀ b:Addr,b∉(ÿh).ex:=λ b z=>āI;exact#[#[e0.mod,S.kind,rfl,rfl,Ÿ,λ y z c h1 h2=>?_,λ y hy=>?_,λ y c _ h=>?_,λ _=>hd,Around.frames_deeper e0.frames,Æ Dj,úV,e0.bs,e0.jv,λ b _ _=>noA b,úV,e0.lj,e0.il],
  rfl,e0.bare,Ãa hk,#[_,x.toInCall.ns,λ i y v h1 h2 h3=>?_],λ y c h=>#[_,x.cell y c h],e0.zt.fresh Ķ,λ y c h=>?_,ÊZ,e0.zt.kept hk,?_]
 .show name_of_addr x.apart (O5 h1) (O5 h2)
 .have hy:JD y=↑ Ì1\/JD y=↑ Cp:=hy;rcases hy with hy | hy
  .show Ĺ2 hy
  .show á rfl (S.Bo _ (O5 hy))
 .show ñT
 .have hi:i<Κ:=by
   unfold F7 at h2;by_cases hi:i<Κ
   .show hi
   .rw[zgM W5] at h2;rw[zh8] at h2;split at h2 <;> cases h2
  have ha:Õn:=by
   unfold F7 at h2;rw[Ãn,Fa] at h2;cases e:vs[i]? with
   | none=>rw[e] at h2;cases h2
   | some a=>rw[e] at h2;cases h2;rfl
  let#[u,hu,rv]:=r.get ha;have hp:ps[i]?=↑y:=by
   rw[<- S.pre,List.getElem?_take_of_lt (LM hi hl)];show h1
  have ndP:ps.Nodup:=by rw[<- S.pre];show S.nd.sublist õr
  exact#[u,rv,?_];rcases S.par y (P2 hp) with k | k
  .show È #[k,į7 ndP hp hu k]
  .let#[c,e]:=Ĺ2 (n:=qE) k;exact Æ #[È k,c,e,?_];have q:=x.cell y c e;rw[ŗ4 ndP hp hu (by change JD y≠_;rw[k];decide)] at q;show q
 .show e0.zt.fresh (ñT)
 .unfold F7;change _=S8;rw[GE,AS,zhQ];lia
def Ĵ7 XA Ė Ý Ih ý Χ8{name qual:Str}{params:Arguments}xi ZN{dV kV doc pm cdv ct oc:Ø}{an od:ł}
  {osl:uA}Jp WX(lk:Nf=↑#[oc,od,De äD,osl]) (hcd:ϛ0) (S:vq N ps ų)
  (len:ÈJ)
  (Ŕ:∀ Ü4 sN ŭ ô ο1 E7 Ģ2,yg k (ME (V6 qual ų Õ f cdv))->XB->
   ∃ t,oP Õo body t/\ñU):
  wA Ê CX ŕ f äD ps sp:=by
 exact#[len,λ A ġ s H args us vs Q E hr e0 hb r hsp=>?_];have hl:=len ĉ hsp;have KX:ÄA:=e0.mod.jl.keeps õs;have lim:s.heap.NoLimit:=e0.mod.nolimit.keeps õs;have hkind:∀ y∈ps.zip us,Ão=↑ uI\/(Ão=↑ Ì1/\((Ĉq).lookup y.1).isSome=true):=λ#[n,v] hy=>by
  rcases S.par n (zgB hy).1 with q | q
  .show MZ
  .show Æ #[q,õq Ð (MZ)]
 exact codeAny_call_function hr.depth (KX À lk) rfl S.co S.gen rfl (PySem.W.codeRec_of KX hcd) (hb ĉ ?_);exact wpAny_newFunctionEnv_cells S.kind hkind λ env he s1 x=>?_;subst he;exact#[lim.keeps x.toInCall.keep,codeAny_func ?_];let#[t,ht,hq]:=Ŕ KR vs Q E (hr.deeper _) hsp;have I:Inv Õo [] VV H s1:=zas S hr.hd e0 hl r x;exact EQ (ht [] s1 VV H _ I hq) (λ fl s' hs=>?_) λ e s' hs=>hs;have fin:∀ {σ':St}Wc ϋ uO,Inv Õo [] QF->Au->Q v H'->öN:=
  λ{σ' H' v u} J rv q=>#[v,H',J.os,J.bare,J.base,J.zt,rv,q]
 cases fl with
 | ret u=>
  let#[v,σ',H',J,rv,q]:=hs;show fin J rv q
 | next=>
  let#[σ',H',J,q]:=hs;show fin (v:=V.zB) (u:=Hr) J rfl q
 | brk=>
  ext āF
 | cont=>
  ext āF
section
variable {Ì}{ā}{p pos:Pos}{ė}{Ń}{t:TA}{id T:ń}{r:AN}
def Ο0 (r:AN) OM:TE:=fun σ H Q=>t ç λ vs H1=>r vs H1 Q
def jU (hc:wI X Ο8 r) ϙ ϩ9 (hv:Mf=↑ Ο8) iK Ϗ7 ϟ6
  ÇP:ÿi:=by
 ext ŧ;exact ïH;show PyProof.Rows.callWith_builtin1 âA
def fj (hc:wI X dw r) ϙ ϩ9 (hv:Mf=↑ dw) iK Ϗ7 ϟ6
  ÇP:ÿi:=by
 ext ŧ;exact ïH;show ό4 âA
end
end L2
namespace HT
open Ë Ô
def rK:é->é->Bool
 | [],[]=>Á
 | [],ş=>true
 | ş,[]=>Á
 | A_,O7=>ìn
def Į0 pQ (xs ys:é):rK LX (O7)=ìn:=rfl
def Ä9:rK Co=Á:=rfl
def Ā6 (y:Int) (ys:é):rK [] (O7)=true:=rfl
def Ñ5 ô4 (xs:é):rK LX []=Á:=rfl
def zbP Ü4 ŭ (a:Int) Ď7 (c:Int) (u:Tok):∃ e,ϴ0 A s Ïh e/\(e=true↔a=c):=
 #[(a == c),üZ a t c u,∅]
def ă1 Ü4 ŭ (a:Int) Ď7 (c:Int) (u:Tok) E4 Ċ ã7 UW (h:Q (FK (Í (a<c))) s):
  Ä í (richCompare .Lt Ïh) ï:=
 (PyProof.Rows.lt_int h:Ä í (GJ .Lt Ïh) ï)
section
open PySem.SeqAt
open PySem.AutoSeq1 (Ϡ9)
open PySem.MeetsSeq PySem.MeetsSeq2 PySem.MeetsSeq3
def Ď6 (l b:Addr) (ε Ia:zAV) (n n2:Nat) (dd dd2:ł) (sl sl2:uA) (ns ms:é) çl:
  Kb (Builtin.«tuple.__lt__» ùk)
   (λ _ R s=>χ5/\ż b=↑{ cls:=Æ7,dict:=dd2,data:=ň Ia n2,JW:=sl2 }/\
    R (.ok (Μ ÌQ)) s):=
 cZ λ prog w A R s h=>by
  ext QP;let#[hl,hb,h]:=h
  have f2:=AutoSeq1.sub_tuple_tuple;have z1:Gp=r_:=by rw[<- ϻ3];simp
  have z2:ž9=ϻ4:=by rw[<- hj.length];simp
  ext t3;ext wP;ext t3;ext u8;ext u8;ext wS;ext xL;ext wP;ext wP;(with_reducible apply PySem.wpAny_loadPart' hb);ext wS;ext sB;ext u8;ext xL;ext wP;ext wP;ext tO;ext wS;ext wS;ext xL;ext wP;ext wP;ext tO;ext wS;ext wS;ext xL;(with_reducible apply ÎQ _ (λ rest b s'=>b.1=none/\s'=ϊ3/\∃ (vs ws:zLV) (ns' ms':é),rest=Vq ws/\ EZ vs ns'/\EZ ws ms'/\ns'.length+ž9=ØC+Gp/\R (.ok (Μ (FK (rK ns' ms')))) ϊ3) _)
  case turn=>
   rintro⟨y,x⟩ rest b s' ⟨hb',rfl,vs,ws,ns',ms',hz,hvi,hwi,hlen,hR⟩;cases hvi with
   | nil=>rw[zhR] at hz;cases hz
   | cons a t hvi'=>
    cases hwi with
    | nil=>rw[ýa] at hz;cases hz
    | cons c u hwi'=>
     rw[dL] at hz
     injection hz with hyx Va
     injection hyx with hy hx
     subst hy hx;rw[Į0] at hR;simp![GM] at hlen;let#[e,he,hiff]:=zbP ĎE;exact AC (he ĥ À ?_);cases e with
     | true=>
      rw[Ç (hiff.mp rfl)] at hR
      wp_walk
      show#[rfl,rfl,_,_,_,_,Va,hvi',hwi',⋯,hR]
     | Á=>
      rw[É (λ q=>á (hiff.mpr q) Wp)] at hR;have hri:=ă1 ĎE ĥ
      wp_walk using hri
      show#[_,rfl,by exists hR]
  case fin=>
   rintro⟨b1,b2⟩ s' ⟨hb',rfl,vs,ws,ns',ms',hz,hvi,hwi,hlen,hR⟩;simp only at hb';subst hb';have hv:rK ns' ms'=Í (Gp<ž9):=by
    cases hvi with
    | nil=>
     cases hwi with
     | nil=>
      simp![P7] at hlen;rw[Ä9];show (Ga).symm
     | cons c u hw=>
      ext ĎU;rw[Ā6];show (vV).symm
    | cons a t hv=>
     cases hwi with
     | nil=>
      ext ĎU;rw[Ñ5];show (Ga).symm
     | cons c u hw=>
      rw[dL] at hz;cases hz
   rw[hv] at hR
   wp_walk
   show#[_,rfl,by simpa [Builtin.Tuple.tupleCompareSizes] using hR]
  case h=>
   show#[rfl,rfl,items.toList,Čg,ns,ms,rfl,hi,hj,⋯,h]
end
section
variable {ώ}
def Ę1 {l b:Addr}{ε Ia:zAV}{ns ms:é}Ī(hl:rL ð l ε) (hb:rL ð b Ia) çl
  ϸ9 (h:Q ÌQ s):Ä í (GJ .Lt ū pq) ï:=by
 let#[SD,ho,hc,n,hd]:=id hl;ext êq;show richCompare_meets_room (op:=.Lt) Íp PySem.F.slot_tuple_lt PySem.F.entry_tuple_lt (PySem.F.args_tuple_lt_2 À) (Ď6 l b ε Ia ϓ3 ns ms hi hj)
  #[ho,ho2,show Β8 (rK ns ms)≠ éA/\Q ÌQ s from #[(λ x=>nomatch x),h]] hu
def zcw {t b:Addr}{vs ws:zLV}Ī(ht:rL ð t A0) (hb:rL ð b ØD) (hv:vs≠[])
  (h1:ws=[]->Q Tc s) (h2:ws≠[]->Q Fs { s with heap:=Ŧ { cls:=Æ7,data:=ň Ăa } })
  (hsz:Κ+Fm<=â):Ä í (ð5 .Add Tc pq) ï:=by
 ext óC;ext êq;have e:A0++ØD=Ăa:=∅;by_cases hw:ws=[]
 .show Ϫ2 År
   (tuple_addW1 ìB (by simp[hw])) #[ho,ho2,h1 hw]
 .exact Ϫ2 År
   (tuple_addW2 ìB (by exists hw) (by rw[GT,GT];show hsz)) Ăb
  rw[e];show h2 hw
def ym (n d:Nat):ř->Nat
 | none=>d
 | some v=>ÇR
def Ċ0 (n d:Nat) (hd:d<=n) (o:ř):ym n d o<=n:=by
 cases o with
 | none=>show hd
 | some v=>
  change (ÇR)<=n;by_cases hv:v<0
  .rw[Ç hv];lia
  .rw[É hv];show zh6 À
def ŉ7 (v:Int) (n d:Nat):éB=((ym n d ↑v:Nat):Int):=by
 change éB=(((ÇR):Nat):Int)
 by_cases hv:v<0
 .simp![Ç hv];lia
 .simp![É hv];show LQ.ó8 hv
theorem zdm Im ą:Čh=(ϔ8,öP):=by
 have h1:¬ (JZ<0):=⋯;unfold æj;simp![h1,Ĉ5];exact Ýd GQ
 .cases lo with
  | none=>rfl
  | some v=>show ŉ7 v n 0
 .cases hi with
  | none=>rfl
  | some v=>show ŉ7 v n n
theorem Ĉ1 AJ:ϑ2 AF (j:Int) 1=j-i:=by
 unfold ϑ2;have h1:JZ>0:=⋯;simp![h1,tZ,Int.ediv_one];ext Qv
def Ł2 CN{o:ř}{Q:ř->ϴ}(p:dZ v o) (h:Q o s):Ä í (Builtin.Slice.slicePartIndex v) ï:=by
 cases p with
 | none=>show Ĉr h
 | int i t=>show slicePart_int h
def Ĥ7 {sl:Addr}{vl vu:Ø}Θ2 ď{Q:Int×Int×Nat->ϴ}Æh
  (h:Q (ϔ8,1,ym n n hi-ym n 0 lo) s):Ä í (ðK Áb (pure Gv)) ï:=by
 ext õZ;unfold ðK Builtin.Slice.sliceFields;exact AC (AC (NO hos hds (x:=vl) rfl (AC (NO hos hds (x:=vu) rfl (AC (NO hos hds ĎF))))));exact AC (Ĉr ?_);change Ä À (if (JZ == 0)=true then _ else _) CW;rw[AK];exact AC (Ł2 pl (AC (Ł2 pu (CJ))));change Ä À (match Čh with | (lo,hi)=>pure (lo,JZ,ϑ2 Ϟ 1)) CW;rw[zdm Ϟ n];change Ä À (pure (ϔ8,JZ,ϑ2 ϔ8 öP 1)) CW;rw[Ĉ1];show Cz
def ñ7 (xs:zAV) (i k:Nat):((ċ k).filterMap úW).toArray=((xs.toList.drop i).take k).toArray:=by
 have e:(úW)=Či:=by
  funext m;have:æk=i+m:=LQ.ć8;ext Hz
 rw[e];have:=pick_run xs i k;rw[List.filterMap_map] at this;have e2:((λ x=>xs[x]?) ∘ λ x=>i+x)=Či:=rfl;rw[e2] at this;ext Hz
def zaV éJ Ī(ht:rL ð t ε) Æh
  (hw:¬ (Čj))
  (h:Q Fs { s with heap:=Ŧ { cls:=Æ7,data:=ÿj } })
  (hsz:Gp<=â):íC:=by
 have htake:sizeOk (ÿj):=by
  change (àU).toArray.size<=â;rw[GT,zgC,To,Ps];show LQ.Ĺ6 hsz
 have hj:Vi<=Gp:=Ċ0 À Ķ hi;ext õZ;have hTs:ĄY:=#[os,hos,hcs];unfold V_
 ext āt
 first | exact CJ | skip
 exact AC (ÿk LP () ?_);exact AC (oN (name:=ðL) LP ώ0
  (P5 ώ0 LP çm))
 change Ä À (ÉW Tc >>= _) CW;exact AC (Òc ht ?_);exact AC (Tk hTs ?_);ext üb;have hno:¬ (ÅB):=by
  intro q;rw[By,By] at q;have q1:ĄZ=0:=ϻ5 q.1.1;have q2:Vi-QT=Gp:=ϻ5 q.2;show hw F0
 change îZ;rw[É hno,ñ7]
 first
  | show ïa
  | show AC (m:=ό7) (P4 (AC ÚQ) htake)
  | show AC (AC (m:=ό7) (P4 ÚQ htake))
  | show AC (ïa)
end
end HT
namespace L2
open Ë å Ô
abbrev TO:=St->Hp->(ř->rM)->Prop
def PO î (e:yi) (t:TO):Prop:=
 ∀ Ű (Q:ř->rM),ŉ->dG->
  Ä Ā (evalPart e Ù) (λ u s'=>∃ o H',Hf/\dZ u o/\Q o H') Ï1
def Ï5:TO:=λ _ H Q=>Q none H
def ĕ6 Ł8:TO:=fun σ H Q=>t ç λ x H1=>∃ i,x=Ą/\Q ↑i H1
def Γ2 ô1:∀ Ο,Õp->ÚR:=by
 induction ns with
 | nil=>intro us r;ext ÚC;show ä
 | cons n ns ih=>
  intro us r;rw[As] at r;cases r with
  | cons r1 r2=>
   let#[t,e]:=r1;subst e;show ã n t (ih r2)
section
variable {Ì}{ė}{Dy}{lo hi:yi}{tl th:TO}{pos p2:Pos}
def ý0:PO X none Ï5:=by
 ext ŧ;rw[Čk];show AT #[none,H,I,Ć,h]
def ý1 (h:PE IY):PO X ↑e (ĕ6 te):=by
 intro gV s σ H Q I hw;rw[evalPart_some];exact zF ċU Cr;ext î7;let#[i,rfl,q]:=q1;ext ϲ0;show#[↑i,H1,I1,Pp,q]
def i6 î (r:CM):Prop:=
 ∀ Ű (x:V) (v vl vu:Ø) Im (sl:Addr) E7,ŉ->AG->ïb->dZ vl lo->dZ vu hi->r Lp->
  ∃ T id,èx/\ċ7 v T/\Ä Ā (V_ v Áb) Ą4
def i6.or {r r':CM}(h:i6 X r) (h':i6 X r'):i6 X (λ x lo hi H Q=>r Lp\/r' Lp):=by
 intro gV s σ H x v vl vu lo hi sl Q I rx hs pl pu q;ext ϲ3
 .show h Ŋ x ôQ q
 .show h' Ŋ x ôQ q
def đ7 (r:CM) ο0 (tl th:TO):TE:=fun σ H Q=>te ç λ x H1=>tl Ş λ l H2=>th σ H2 λ u H3=>r x l u H3 Q
theorem ß5 {r:CM}(hr:i6 X r) Ŏ8 (hl:PO X lo tl) (hu:PO X hi th):PE X Čl (đ7 r te tl th):=by
 ext ŧ;exact ØE ÎN;ext î7;exact wpAny_Slice (zF (hl tP) λ vl s2 z0=>?_);let#[l,H2,I2,pl,q2]:=z0;exact zF (hu ϲ5) λ vu s3 z0=>?_;let#[u,H3,I3,pu,q3]:=z0;rw[Čk];exact Ic;have I4:Inv Č H3 { s3 with heap:=ÆC }:=I3.kept (t':=s3.toks) ĎN;let#[T,id,hT,ht,hg]:=hr gV { s3 with heap:=ÆC } σ H3 x v vl vu l u Îc Q I4 r1 (Heap.IsSliceOf.new ..) pl pu q3;change Ä Ā (Òd ìa v (à Îc)) ÅY { s3 with heap:=ÆC };show tail_any (ops:=[à Îc,v]) ht hT hg (by with_unfolding_all rfl)
def Κ6 HR Im:À0:=ðM
def Æ0 HR Im:(NA).length<=ò:=by
 unfold Κ6;rw[zgC,To];show LQ.Ć0
def Ō0 Ï:CM:=λ x lo hi H Q=>∃ a xs,LJ/\rW/\
 ¬ (Ϧ5)/\∀ p,Gs->Q ī (upd H p (Î (NA)))
theorem ă8:i6 X (Ō0 X.K):=by
 ext àL
 exact#["tuple",_,ém,LP,?_];exact HT.zaV üN ?_ (by rw[hlen];show hz);rw[hlen];exact#[KM,_,B6 (t':=Ĕ) (o:=Î (NA)) kc ?_,rfl,Jh];show#[#[ýb,Vl],_,îk,KQ]
def Ŭ7 Ï:R2:=λ x y H Q=>∃ a b ns ms,LJ/\XU/\y6 Ν1/\y6 Ò b (ms.map GF)/\Q (ϡ0) H
def Æ9 (hu:Lh<Ε):yM Úd (Ŭ7 X.K):=by
 ext qy;let#[a,b,ns,ms,rfl,rfl,ha,hb,q]:=h;ext ÀX;ext äQ;have i1:EZ its.toArray.toList ns:=Γ2 r1;have i2:EZ its2.toArray.toList ms:=Γ2 r2;show HT.Ę1 p1 p2 i1 i2 hu #[ϡ0,H,I,rfl,q]
def ĵ6 Ï:R2:=λ x y H Q=>∃ a b xs ys,LJ/\XU/\rW/\y6 Ò b ys/\xs≠[]/\ò+Dg<=â/\
 (ys=[]->Q ĳ H)/\(ys≠[]->∀ p,Gs->Q ī (upd H p (Î Áo)))
def Vals.ŷ6 Ę Ο(r:qN):us=[]↔xs=[]:=by
 cases r with
 | _=>simp
theorem ė1:yM ž0 (ĵ6 X.K):=by
 ext qy;let#[a,b,xs,ys,rfl,rfl,ha,hb,hx,hz,q1,q2]:=h;ext ÀX;ext äQ;exact HT.zcw p1 p2 (λ z=>hx (r1.ŷ6.mp z)) (λ z=>#[œ,H,I,rfl,q1 (r2.ŷ6.mp z)]) Sv (by rw[<- ϻ6,<- Su];show hz);exact#[KM,_,B6 (t':=Ĕ) (o:=Î Áo) kc ?_,rfl,q2 (λ w=>z (r2.ŷ6.mpr w)) _ Ui];show#[#[ćO,Vl],_,r1.append r2,KQ]
end
def pH ą C8:õ Nat:=if DI then (if i<n then ↑ D_ else none) else if -Gv<=i then ↑(i+n).toNat else none
def yd þ Ò8 C8:M4:=(pH ò i).bind λ j=>xs[j]?
theorem ľ2 ď Gq Cd(h:pH n i=↑j):seqIndex? i n=↑j/\j<n/\-Gv<=i/\i<n:=by
 unfold pH at h;by_cases h0:DI
 .rw[Ç h0] at h;by_cases h1:i<n
  .rw[N3] at h;have e:D_=j:=KB h;show#[by rw[Õq fL,e],⋯,⋯,h1]
  .rw[Tn] at h;cases h
 .rw[É h0] at h;by_cases h1:-Gv<=i
  .rw[N3] at h;have e:(i+n).toNat=j:=KB h;show#[by rw[ÓE Γ3 h1,e],⋯,h1,⋯]
  .rw[Tn] at h;cases h
def à8 þ ÿ4 Gq{v:α}(h:ÓF):∃ j,seqIndex? i ò=↑j/\xs[j]?=↑v/\j<ò/\-(ò:Int)<=i/\i<ò:=by
 unfold yd at h;cases e:pH ò i with
 | none=>rw[e] at h;cases h
 | some j=>
  rw[e] at h;let#[h1,h2,h3,h4]:=ľ2 e;show#[j,h1,h,h2,h3,h4]
def Ĵ1 (b:Expr):Prop:=∀ o i,Ϯ4 b Á o i=operate [o,i] (V_ o i)
def i7 î (r:R2):Prop:=
 ∀ (Fg qO:Expr) Ű (x y:V) (v u:Ø) E7,ŉ->AG->Ι7->r qu->
  Ϯ4 qO Á v u=operate [v,u] (V_ v u)->Ä Ā (Òd Fg qO v u) Ą4
def jA î (id:ń) (r:EC):Prop:=
 àW
section
variable {Ì}{uP}{ta tb:TE}{Ē}
def i7.or ÄC(h:i7 X r) (h':i7 X r'):i7 X ðI:=by
 intro Fg qO gV s σ H x y v u Q I rx ry q hs;ext ϲ3
 .show h ĊO
 .show h' ĊO
def ď8 {r:R2}(hr:i7 X r) ĕ0 (hs:Ĵ1 b):PE X (sP Ñ pos) ϳ6:=by
 ext ŧ;show ØE (Ě5 BX I h λ v u s2 x y H2 I2 rx ry q=>hr Ñ ùW q (hs À))
def ń5 Ï:R2:=λ x y H Q=>∃ p xs i v,B1/\y=Ą/\Øy/\ÓF/\Q v H
def ī8 Ï:R2:=λ x y H Q=>∃ p xs i v,B1/\y=Ą/\y6 Úe/\ÓF/\Q v H
def ŋ9:R2:=λ x y H Q=>∃ z i c,x=pF/\y=Ą/\ĉ2/\yd Ź9=↑c/\Q (Nl) H
theorem zah:i7 X (ń5 X.K):=by
 ext ás;let#[its,r,pl,hz]:=IC;ext ál;by_cases h0:DI
 .have hj:D_=j:=by
   rw[Õq h0 h5] at h1;show KB h1
  show item_listR G1 h0 õf fin hs
 .have hj:(i+(G2:Int)).toNat=j:=by
   rw[ÓE Γ3 h4] at h1;ext Ι1;show KB h1
  show õt (x:=w) Ăc òY
   (wpAny_getItem_list_neg (Q:=ñV) G1 Γ3 (by rw[GT] <;> lia) õf #[rfl,fin]) hs
theorem zae:i7 X (ī8 X.K):=by
 ext ás;let#[its,r,pl,hz]:=Jm;ext ál;show õt (x:=w) pl.typeIs slot_tuple_getitem.lookup
  (getItem_tuple (j:=j) (Q:=ñV) pl Ib (by ext Ι1;show h1) (by exists ew) #[rfl,fin]) hs
theorem zaf:i7 X ŋ9:=by
 ext êr;let#[z,i,c,rfl,rfl,hz,he,q]:=h;ext Xg;ext ït;have hl:z.cps.toList.length=Zc:=by simp[ØF]
 rw[hl] at h1 h4 h5;have hn:=fF;show tail_any (œ3 s z t) slot_str_getitem.lookup (getItem_str (c:=c) (by
  have e1:Í (i < -(2 ^ 63:Int))=Á:=Ga;have e2:Í (i≥2 ^ 63)=Á:=Ga;rw[e1,e2,zh9]) (by rw[h1];exists h2) #[Nl,H,pK,ξ,q]) hs
def İ9 Ï:R2:=λ x y H Q=>ń5 qZ\/ī8 qZ\/ŋ9 qu
def zag:i7 X (İ9 X.K):=zah.or (zae.or zaf)
def ì1 ÄE (n j:Nat) Xp:F4 (Pr j u) { cls:=ſ,data:=œ1 }={ cls:=ſ,data:=ň (its.set j u).toArray n }:=by
 simp[F4]
theorem Inv.lst Ĵ BE Ę Ú (h:ϴ1):
  ∃ (its:zLV) (n:Nat),A9/\íD/\CO:=by
 let#[z,its,n,r,e]:=I.zt p _ h;show#[its,n,r,e,z]
def Inv.ø0 Ĵ BE Pa{its its':zLV}{n n':Nat}{f:Obj->Obj}Ú (h:ϴ1)
  (ho:íD) (hf:f { cls:=ſ,data:=œ1 }={ cls:=ſ,data:=ň ÓG n' }) (r:Vals ys its') (hz:Ãp) (t:Nat):
  Inv Č (upd H p VH) { s with heap:=qx p f,toks:=t }:=by
 have e:(qx p f).get? p=↑{ cls:=ſ,data:=ň ÓG n' }:=by
  rw[P6 f ho (by rw[hf] <;> rfl),hf]
 exact Ο5 (x:=p) (e:=p) (by rw[h];trivial) ì9 (λ b u hb q=>Õr q) #[_,e] ?_;show#[hz,its',n',r,e]
def Ç2:óV:=λ o i v H Q=>∃ p xs k j,o=Ŗ/\i=Di/\ϴ1/\pH ò k=↑j/\Q ïI
theorem set_list:Ĭ9 X Ç2:=by
 intro gV s σ H o i v ov iv u Q I ro ri rv h;let#[p,xs,k,j,rfl,rfl,hp,hj,q]:=h;cases ro;let#[t,rfl]:=ri;let#[its,n,r,ho,hz]:=I.lst hp;let#[h1,h2,h3,h4]:=ľ2 hj;ext Nn;have hn:=fF;have I':Inv Č ïI { s with heap:=qx p (F4 (Pr j u)) }:=
  I.ø0 hp ho (ì1 its n j u) (r.set rv j) (by rw[zg2];show hz) Ĕ
 by_cases h0:0<=k
 .have hk:ō=j:=by
   rw[Õq h0 h4] at h1;show KB h1
  show PySem.W.ki_setAt ho h0 ⋯ (by ext Ι1;show h4) øU
 .have hk:(k+(G2:Int)).toNat=j:=by
   rw[ÓE Γ3 h3] at h1;ext Ι1;show KB h1
  show PySem.W.ki_setBack ho Γ3 (by ext Ι1;show h3) ⋯ øU
def Æ3 Im ą:(ÑF).1=((B3 n 0 lo:Nat):Int)/\(ÑF).2.1=((B3 n n hi:Nat):Int)/\(ÑF).2.2=1:=by
 exact#[?_,?_,rfl]
 .cases lo with
  | none=>simp[ϗ5,B3]
  | some i=>
   ext èH
   .simp![h,tZ] <;> lia
   ext ćV
 .cases hi with
  | none=>simp[ϗ5,B3]
  | some i=>
   ext èH
   .simp![h,tZ] <;> lia
   ext ćV
def Ü7 ÄE Im:slicePick Ũ Ϟ none=((its.drop (B3 Ü3 0 lo)).take (B3 Ü3 Ü3 hi-B3 Ü3 0 lo)).toArray:=by
 let#[h1,h2,h3]:=Æ3 Ϟ G2;unfold slicePick;rw[h1,h2,h3];simp![sliceRange_one,pick_run,GT] <;> rfl
def ŋ7 Ï:CM:=λ x lo hi H Q=>∃ a xs,LJ/\sV/\∀ p,Gs->Q ī (upd H p (Å (NA)))
theorem Ñ0:i6 X (ŋ7 X.K):=by
 ext Çq;let#[a,xs,rfl,hx,q]:=h;cases rx;let#[its,r,ht,hz]:=HK hx;have hlen:=ϗ;exact#["list",_,òY,ht.isList.typeIs,?_];exact wpAny_getItem_list_slice ht.isList ϩ6 Ć ο8 (by rw[GT] <;> show ĺ2 hlen hz);rw[Ü7,<- hlen];exact#[KM,_,B6 (t':=Ĕ) (o:=Å (NA)) kc ?_,rfl,Jh];show#[ýb,_,0,îk,Eu]
theorem zcM:wI X ϴ2 (λ xs H Q=>∃ p ys,Yb/\ϐ1/\Q (Â Dg) H):=by
 ext äI;cases rx;have hn:=fF;ext ϥ5
 .ext Èo;show Calls.call_len_list G1 ãZ
 .ext ÊH;have hlen:=ϻ7;show len_tuple pl ãZ
theorem zcL:wI X ϴ2 (λ xs H Q=>ër):=by
 ext Hh;ext ĊP;let#[u,rfl,t,rfl]:=Ρ0;have hn:=fF;show len_str ⋯ #[Â Zc,H,pK,ξ,q]
def wI.or çZ:én:=by
 intro gV s σ H xs us Q I rs q;ext ϲ3
 .show h Ϭ7 rs q
 .show h' Ϭ7 rs q
theorem zcJ:wI X (ſ) (λ xs H Q=>∃ p ys,Yb/\ϐ1/\ës):=by
 ext äI;cases rx;have fin:∀ ÄE,ÖV->Ãp->∀ ÄF (c':Nat),(∀ b o',ż b=↑o'->ϳ2)->
   ι Õ=↑{ cls:=ſ,dict:=none,data:=ň Ũ c',JW:=į }->EP Č Q Fs { s with heap:=h' }:=λ its r' hz h' c' kp e=>
  #[KM,_,B6 (t':=Ĕ) kp Ķ (show wX η _ h' _ VH from #[hz,its,c',r',e]),rfl,Jh]
 ext ϥ5
 .ext Èo;let#[o,ho,hc,n,hd]:=G1;show Čm p ì9 åY
 .ext ÊH;have hlen:=ϻ7;let#[o,ho,hc,n,hd]:=pl;show Čm p (h_) åY
theorem zcx:wI X (Æ7) (λ xs H Q=>∃ p ys,Yb/\((yB ÂT/\ët)\/(y6 ÂT/\Q ī H))):=by
 ext Hh;let#[p,ys,rfl,h]:=h;let#[u,rfl,rx]:=Ρ0;cases rx;rcases h with ⟨hq,q⟩ | ⟨hq,q⟩
 .ext Èo;exact call_tuple_list G1 (λ h' kp=>?_) òS;have I1:Êt:=cG (t':=Ĕ) kp;have I2:Inv Č (upd H ÓH Ρ1) { s with heap:=h'.push { cls:=Æ7,data:=ň Ũ } }:=
   Ãk (t':=Ĕ) (NC) Ķ (show wX η Ð Ρ1 from #[#[hz,Vl],its,r',KQ])
  show#[à ÓH,_,I2,rfl,q _ (jk Ķ)]
 .ext ÊH;show call_tuple_same pl #[Ŗ,H,I,rfl,q]
def ĸ2 Ï (T:ń) (x:V) ô:Prop:=match x with
 | DD=>T="str"
 | rV=>T="int"
 | Ŗ=>(T="list"/\∃ xs,Øy)\/(T="tuple"/\∃ o,Hv p=↑o/\Óz)\/
   (T="dict"/\((∃ tp,ϩ0)\/∃ tp,H p=↑ Α5))\/(T="set"/\∃ S n,H p=↑(.set S n))
 | _=>ê
def Ğ2 Ĵ{T:ń}AW CN Ú (r:AG) (ty:ĸ2 X.K T x H):
  ċ7 v T/\∀ a,qe->∃ ob,ż a=↑ob/\ob.dict=none:=by
 cases x with
 | str z=>
  ext ZG;cases (show T="str" from ty);show#[œ3 s z t,ϡ1]
 | int i=>
  ext ZG;cases (show T="int" from ty);show#[ØG s i t,ϡ1]
 | ref p=>
  cases r;rcases ty with ⟨rfl,xs,hq⟩ | ⟨rfl,o,hk,hc,hd⟩ | ⟨rfl,hk⟩ | ⟨rfl,S,n,hk⟩
  .let#[its,_,pl,_]:=IC;exact#[Ăc,λ a e=>?_];cases e;let#[o,n,e,c,hd,_]:=pl;show#[o,e,hd]
  .exact#[#[o,I.yV p o hk,hc],λ a e=>?_];cases e;show#[o,I.yV _ o hk,hd]
  .have z:∃ o,ż p=↑o/\o.ExactDict:=by
    rcases hk with ⟨tp,hk⟩ | ⟨tp,hk⟩
    ext ċF
    ext ċF
   let#[o,e,ex]:=z;ext ëO
  .let#[o,_,_,_,e,ex,_]:=I.zt p _ hk;ext ëO
 | _=>show rQ ty
def gZ Ï (T:ń) (r:EC) (to:TE) OM:TE:=fun σ H Q=>to ç λ x H1=>ĸ2 K T x H1/\t Ş λ xs H2=>r x xs H2 Q
variable {o e:Expr}{Ń}{äV}
def ŵ5 ÅF ÀK iK
  (AZ:ām:=by rfl)
  (hfew:âE=true:=by rfl)
  (hline:χ9:=by rfl) (hs:CH:=by rfl) (VZ:Òe:=by rfl):
  PE Çg:=by
 ext ŧ;exact TY;ext àv;show zF hA λ us s2 #[vs,H2,I2,r2,q2]=>äk
end
def Ĳ7 î (id:ń) (r:EC):Prop:=
 àW
theorem Vals.one:∀ AW Ο,Vals [x] us->ÎO
 | _,_,h=>by
  cases h with
  | cons r t=>cases t;show Ĉa
theorem Vals.rep Ę Ο(h:qN):∀ k:Nat,Vals (ĵ k xs).flatten (ĵ k us).flatten
 | 0=>ä
 | k+1=>by
  ext ÍX;show Vals.append h (Vals.rep h k)
section
variable {Ì}{Ĵ}{ó1}{Pa}
def Inv.Ħ9 {its its':zLV}ď{f:Cq->Cq}F5 Ú (hH:Γ4)
  (e:íX) (hf:f Ũ=ÓG) (hv:Vals ys its') (hz:Ãp):
  Inv Č Čn { s with heap:=qx l (F4 f),toks:=t' }:=by
 have q:=PySem.IsL.update e f;rw[hf] at q;exact Ο5 (x:=l) (e:=l) (by rw[hH];show qI) ì9 (λ b' u hb hu=>(aS ð (F4 f) (Ł hb)).trans hu) #[_,q] ?_;show#[hz,its',_,hv,q]
def Inv.ñ2 TC F5 Ú (hv:ÖV) (hz:Ãp):
  Inv Č (upd H Õ VH) { s with heap:=Ŧ { cls:=ſ,data:=ň Ũ },toks:=t' }:=
 B6 će #[hz,its,0,hv,Eu]
theorem Inv.fresh Ú:Θ1:=LV
def Inv.Ě0 Ú (hH:Γ4):CO/\∃ (its:zLV) (n:Nat),A9/\ò=Ü3/\íX:=by
 let#[z,its,n,r,e]:=I.zt l _ hH;show#[z,its,n,r,ϗ,e]
theorem ĺ8 ď(h:n<=â):L_ n=Á:=by
 unfold L_;show Ga
def Ś6:EC:=λ x vs H Q=>∃ l xs y,x=Ii/\vs=[y]/\Γ4/\ò<â/\Q .zB (upd H l (Å (xs++[y])))
theorem Œ9:Ĳ7 X "list.append" Ś6:=by
 ext MB;let#[l,xs,y,rfl,rfl,hH,hz,q]:=h;cases rx;ext Ít;ext ïu;exact Ab F.slot_list_append ÐF F.entry_list_append (F.args_list_append_2 À) (PySem.list_append ο9 u üI) #[e,?_];exact#[.zB,_,I.Ħ9 (its':=its++[u]) hH e ∅ (eW (ã ru ä)) ?_,rfl,q];rw[GE,List.length_singleton];lia
def Ł0:EC:=λ x vs H Q=>∃ l b xs zs,x=Ii/\vs=[Oa]/\Γ4/\H b=↑(Å zs)/\æl
theorem Á4:Ĳ7 ĎG Ł0:=by
 ext áa;let#[z2,its2,n2,r2,hl2,e2]:=I.Ě0 hB;have hsz:öQ<=â:=öR
 have hlong:¬ (! cN&&L_ (öQ))=true:=by
  rw[ĺ8 hsz,zg3];show Wp
 exact Ab F.slot_list_extend ÐF F.entry_list_extend (F.args_list_extend_2 À)
  (AutoSeq1.list_extend_list_list_0 ο9 b ż3 n2 hlong üI (Vx hsz)) #[e,e2,?_]
 exact âV;rw[GE];show hz
end
end L2
namespace JM
open Ë Ρ2 Õs Ô
def zau {P:Params}Ĝ:∀ Χ (vs:zLV),WellAll P h vs ąa->VO:=by
 intro ns
 induction ns with
 | nil=>
  intro vs w;rw[NE] at w;cases w;show ä
 | cons n ns ih=>
  intro vs w;rw[As] at w;cases w with
  | cons a b=>
   cases a;show ã À (ih _ b)
def Ù3 {l:OpenLaw}ď Óc {P:Params}Ĝ{args:List WData}{vals:zLV}
  (hpre:l.row.toRowW.claim.pre args=true) (hwl:WellAll P h vals args):
  ∃ a vs ns,vals=[đ a]/\args=[WData.list ąa]/\IZ=↑{ cls:=ſ,data:=ň A0 }/\VO/\r_<=n:=by
 have hsh:WShape.hasAll [] args [.list Â]=true:=(ąb).1;have hc:l.pre.holds [] { args:=args }=true:=(ąb).2;let#[d,r,rfl,h1,h2]:=hasAllW_cons hsh;obtain rfl:=hasAllW_nil h2;let#[xs,rfl,h3]:=hasW_list h1;let#[ns,rfl]:=ÚS h3;have hlen:r_<=n:=by
  unfold OpenLaw.pre at hc;have h4:(WTm.not (.lt (.lit (Â Gv)) (.len (.arg 0)))).holds [] { args:=[.list (rg Â)] }=true:=by
   have h4:=(holds_andW hc).1;rw[hn] at h4;show h4
  have h5:=condW_of h4 (w_not (w_lt w_lit (w_len_list (w_arg rfl))));rw[AS] at h5;exact Nat.le_of_not_lt Ρ3;have q':Gv<((r_:Nat):Int):=LQ.af q
  first
   | (rw[DO q'] at h5;show á h5 ())
   | (simp at h5;lia)
 cases hwl with
 | cons w1 w2=>
  cases w2;cases w1 with
  | list ho hall=>show#[_,_,ns,rfl,rfl,ho,zau ns _ hall,hlen]
def ĥ6 (l:OpenLaw) (args:List WData):l.row.toRowW.claim.post args (F6) args=true:=
 postW_of (r:=l.row.toRowW) (X:=(true == true))
  (show WShape.has [] (F6) FK=true by first | rfl | decide | simp[WShape.has,WShape.arms,WShape.armsAll])
  (show (WTm.eq .res (.lit (F6))).value [] { args:=args,res:=↑(F6),after:=args }=↑(FK (true == true)) from w_eq_bool (w_res rfl) w_lit) rfl
def zc9 {l:OpenLaw}ď υ9
  Óc (hdf:ϕ8)
  (call:∀ Ċ (s₀ s₁:θ) (mg mb:zSV) (fa:Addr) ξ7 (pm cd doc:Ø) Ŵ (vs:zLV) Χ,
   Ground q loose [] XP w s₀ mg mb JJ->YP w JJ->
   rH fa=↑o->Pg=De (docDef d.name d.params d.body d.scope pm cd doc)->s₁.heap.CodeRec cd d.name->Ìi->
   êX->VO->r_<=n->ÚT=į->
   tB (model l.prog w) Ås):
  WalkO ÆK:=by
 intro w s₀ s₁ mg mb G Y fa o pm cd doc dV kV ho hd hcd hD hmg hg args vals as hpre hlay hrd hwl hlo;obtain rfl:dV=Ć:=Dflts.none hD hdf;obtain rfl:kV=Ć:=Dflts.noKw hD;let#[a,vs,ns,rfl,rfl,hobj,hints,hlen]:=Ù3 hn hpre hwl;exact enter_call (û5 (call w s₀ s₁ mg mb fa o pm cd doc a vs ns G Y ho (fd_plain hd) hcd hmg hobj hints hlen hg) Ϧ4);let#[rfl,h2,h3,h4]:=hq;show#[È #[F6,F6,[],rfl,ğ,F6,ĥ6 l _,λ _=>#[List.Pairwise.nil,λ _ hm=>(nomatch hm)]],h2,h3,h4]
end JM
namespace L2
open Ë å Ô
theorem ŋ3:∀ O4 ô1,VO->Vals Dx vs
 | _,_,ä=>ä
 | _,_,Ýe=>ã Z5 (ŋ3 h)
def ŵ0 ô:Prop:=∀ b,Bv\/∃ o xs,H b=↑(.nC o ñ4)
def þ8 Ė Ý{mg mb:zSV}XA ý{fa a:Addr}Sz ā WX{s₁:θ}O4 ô1
  (KX:K.In JJ) (hns:ÓI yo mg) (hb:ÓI ϳ3 mb) (hbb:õj) (hlim:s₁.heap.NoLimit) (hg:ÚT=į)
  (ha:êX) (hi:VO) (hl:r_<=â) (hr:yg k b8)
  (F:∀ base:Heap,ÚJ->XT->wA Ê CX k fa fd [x] sp) (hbind:åE)
  (hsp:∀ H:Hp,ŵ0 H->yB Ν1->sp ÊJ M9)
  (hCX:∀ H e s',CX [] H s₁ (M9) e s'->ê):
  tB iY Ås:=by
 have rv:=ŋ3 hi;have lenV:=ϻ3;have core:∀ H:Hp,ŵ0 H->yB Ν1->yT Ş7 JJ->(∀ b,H b≠none->b=a)->(H a≠none->Hv a=none)->
   tB iY Ås:=by
  intro H hO hS zt hA hK;have base_of:∀ Ni uF,rH b=↑o->Bv->(Κ5).get? b=↑o:=λ e n=>zaM e n;have noA:∀ Ni uF Ëf,rH b=↑o->Pg=Õf->Bv:=λ{b o es ep} e d=>by
   cases q:H b with
   | none=>rfl
   | some u=>
    ext üc;rw[ha] at e;cases e;have d':Data.seq A0 _=Data.dict MA:=d;cases d'
  have nsK:∀ Ni{m:zSV},ÓI b m->(Κ5).Ns b m:=λ{b m} #[o,es,ep,e,d,r]=>#[o,es,ep,base_of e (noA e d),d,r];have hKb:K.In (Κ5):=λ b o e=>base_of (KX Ie) (by
   cases q:H b with
   | none=>rfl
   | some u=>
    ext üc;rw[hK (Ês)] at e;cases e)
  have hM:Mod Ä4 (Κ5):=#[hKb,nsK hns,#[mb,nsK hb,hbb],let #[mc,h1,h2]:=hlim;#[mc,nsK h1,h2]];have e0:eL P w Ä4 (Κ5) b8 [] s₁ H:=#[rfl,hM,λ b o e=>Ú3 e,NL (zaL À),qI,λ b hb=>á (show öO from hb) ∅,zt,.of_eq hg];exact û5 ((F _ hKb (nsK hns)).run b8 [] s₁ H Õt Dd Dd À hr e0 (hbind s₁ ĳ) (ã rfl ä) (hsp H hO hS)) λ r s' h=>?_;cases r with
  | Aq e=>show (hCX H e s' h).elim
  | ok fl=>
   cases fl with
   | ret u=>
    let#[v,H',os,bare,un,hok',r',q]:=h;have q':v=Pf:=q;subst q';obtain rfl:u=Β8 true:=r';exact#[rfl,OldK.of_keep λ b o e=>?_,os,bare];cases q:H b with
    | none=>show un.keep Ie q (by intro z;show āI) ∅
    | some u=>
     rcases hO b with z | ⟨ob,xs,z⟩
     .rw[q] at z;cases z
     .have z2:=un.lL b ob _ z;let#[e1,_]:=zt b _ z;let#[e2,_]:=hok' b _ z2;rw[e] at e1;cases e1;show e2
   | _=>show rQ h
 cases hk:Hv a with
 | some o=>
  have e:=KX a o hk;rw[ha] at e;cases e;exact core (Nc) (λ _=>C5) (Æ #[_,A0,_,hk,rfl,rfl,rfl,by rw[GT,lenV];show hl,by exists rv]) (λ b u z=>by have z':(none:õ HO)=↑u:=z;cases z') (λ b z=>á rfl z) λ z=>á rfl z
 | none=>
  exact core (λ b=>if b=a then ↑(.nC { cls:=ſ,data:=ň A0 } Ýf) else none) (λ b=>?_) (È (Æ #[{ cls:=ſ,data:=ň A0 },ĭ])) (λ b u z=>?_) (λ b z=>?_) λ _=>hk
  .ext ÀW
   .show Æ #[_,_,Ĥ5]
   .show È (MG)
  .ext ÀW
   .have z':=(Ĥ5).symm.trans z;cases z';subst hb;show#[ha,Ók,vs,_,rv,ha]
   .have z':=(MG).symm.trans z;cases z'
  .ext ÀW
   .show hb
   .show á (MG) z
def ï4 Ïi{n k:Nat}υ9 ÔH{CX:Ľ5->l9}{sp:Ľ5->Sp}ā
  Óc (hn2:n<=â) (hdf:ϕ8) (hr:yg k b8)
  (hY:Éu)
  (F:∀ Ċ â6 (fa:Addr) Ľ,ju h->ØH->Ìi->
   ∃ fd:pW,(åE)/\
    ∀ base:Heap,ju base->XT->wA ùX (CX w) k fa fd [x] (sp w))
  (hsp:∀ Ċ ô Ŵ Χ,r_<=n->ŵ0 H->yB (iI) H a Dx->sp w ÊJ M9)
  (hCX:∀ Ċ ô ŭ (e:Ø) F_,CX w [] H s (M9) e s'->ê):
  Òf ÆK:=by
 exact JM.zc9 hn hdf λ w s₀ s₁ mg mb fa o pm cd doc a vs ns G Y ho hd hcd hmg hobj hints hlen hg=>?_;have KX:=hY w _ Y;let#[fd,hb,hF]:=F w mg fa _ KX G.T.g hmg;show þ8 KX G.T.g G.T.b G.T.builtins G.T.nolimit hg hobj hints (BY hlen hn2) hr hF hb (λ H hO hS=>hsp w H a ns hlen hO hS) λ H e s'=>hCX w H s₁ e s'
def ē9 (s:Stmt):Arguments:=match s with
 | ÓJ _ a ĉ ĉ=>a
 | _=>{ posonlyargs:=[],args:=[],vararg:=none,kwonlyargs:=[],kw_defaults:=[],kwarg:=none,defaults:=[] }
def Î2 (s:Stmt):Å3:=match s with
 | ÓJ À b ĉ Ð=>b
 | _=>[]
def Ν3 (s:Stmt):IH:=match s with
 | ÓJ ĉ À sc Ð=>sc
 | _=>{ kind:=QO,FF:=[],isGenerator:=Á,isCoroutine:=Á }
abbrev yQ:l9:=λ _ _ _ _ _ _=>ê
abbrev E0:XK:=M9
def Ζ6 Ì:Passes yQ X E0:=λ _ _ _ _ _ _ _ h=>ë
structure nH Ï (x qual:Str) U9 Ö8 (fd:pW):Prop where
 ex:∃ (oc:Ø) (od:ł) (kV doc pm:Ø) (an:ł) (cdv ct:Ø) (osl:uA),
  fd=Ϟ5/\Nf=↑#[oc,od,De fd,osl]/\ϛ0
 kp:BI
section
variable {Ė}{Ý}{Ih}
def nH.ok Β2 ϝ Iq Jp ý WX Ìw (S:TH) (len:ÈJ)
  (Ŕ:∀ (cdv:Ø) Ü4 sN ŭ ô ο1 E7 Ģ2,bW->XB->
   ∃ t,oP ÆD Jg/\ñU):wA Dt ŕ A8 sp:=by
 ext Æg;exact Ĵ7 lk hcd S len λ A ġ s H vs Q E hr hsp=>?_;let#[t,h,q]:=Ŕ cdv KR vs Q E hr hsp;show#[t,h.xN,q]
def nH.binds Β2 ϝ Iq Ĳ Ìw
  (h:∀ Ŭ6,Š3->Wq (Ϟ5) ę1=SW):Yu:=by
 ext Æg;show .all (h kV ÔI ct)
def aN Β2 ϝ Χ8 ω0(l:Nf=↑#[oc,od,De (Ϟ5),osl])
  (c:ϛ0) (k:BI):nH K x ÄT f (Ϟ5):=#[#[oc,od,kV,doc,pm,an,cdv,ct,osl,rfl,l,c],k]
end
def Ą6 sO ý(hr:ζ6):xH+1<Ε:=P1 (dO (by decide:1<=64) _) XN
section
variable {Ì}
def ź6 Ü ā Ē υ4
  RW:PE Ve:=ŕ6 ž1
end
def ū7 (H H':Hp):Prop:=∀ b o,H b=↑o->DE=↑o
end L2
namespace Ë
theorem Ŝ2 tK:∀ (l:ϛ5) (acc:UQ),(∀ y∈l,ðN)->
  ∃ cl,(forIn l acc (λ(x:Str× Ýg) r=>if (x.2 == RO)=true then do let a <- cellOf env x.1;pure (bU ((x.1,a)::r)) else pure (bU r)):Sem (UQ))=pure cl/\
   (∀ x c,Bz->acc.lookup x=↑c\/(ϻ8 ∈l/\Øp))/\(∀ x,ϻ8 ∈l\/(acc.lookup x).isSome->ϐ7)
 | [],acc,_=>#[acc,rfl,λ x c h=>È h,λ x h=>sX]
 | ķ5::l,acc,h=>by
  by_cases hk:k=Cp
  .subst hk;let#[c,hc]:=h (n,Cp) BT rfl;let#[cl,e1,e2,e3]:=Ŝ2 l ((n,c)::acc) Čo;exact ìQ
   .rw[zgD];simp![rO,tZ,cellOf,hc];show e1
   .ext ñJ
    .rw[IF] at q;cases hxn:x == n with
     | true=>
      rw[hxn] at q;have:x=n:=by exists hxn
      ext Η;exact Æ #[BT,?_];rw[hc];show q
     | Á=>rw[hxn] at q;show MZ
    .show úX
   .exact e3 x ?_;ext ϥ6
    .ext Ϡ0
     .have:x=n:=Ó Prod.fst q;ext Η;show Æ (by simp[IF])
     .show MZ
    .exact Æ ?_;rw[IF];cases x == n <;> simp[hx]
  .have hb:(k == RO)=Á:=ϴ3
   let#[cl,e1,e2,e3]:=Ŝ2 l acc Čo;exact ìQ
   .rw[zgD];simp![hb,iS,Ĉ5];show e1
   .ext ñJ
    .show MZ
    .show úX
   .exact e3 x ?_;ext ϥ6
    .ext Ϡ0
     .show á (Ó Prod.snd q).symm hk
     .show MZ
    .show Æ hx
def Ú7 ZN tK(h:∀ y∈ Ez,ðN):
  ∃ cl,closureFor ų env=pure cl/\(∀ x c,Bz->GR/\Øp)/\∀ x,GR->ϐ7:=by
 let#[cl,e1,e2,e3]:=Ŝ2 (env:=env) Ez [] h;exact#[cl,?_,λ x c hx=>?_,λ x hx=>e3 x (È hx)]
 .simp![closureFor];rw[e1];rfl
 .rcases e2 x c hx with q | q
  .simp at q
  .show q
theorem ĵ8 tK:∀ {FF:ϛ5}ā,names.lookup x=↑ Cp->
  õu
 | [],_,h=>E9
 | ķ5::r,x,h=>by
  have ih:=@ĵ8 env r x;change ω9=_\/ω9=_;cases hx:x == n with
  | true=>
   simp![IF,hx] at h;cases h;by_cases hc:(RO == RO&&ÌR&&Čp)=true
   .rw[Rg];simp[IF,hx]
   .rw[Mj];simp[IF,hx]
  | Á=>
   simp![IF,hx] at h;by_cases hc:τ8=true
   .rw[Rg];ext ċK
   .rw[Mj];ext ċK
theorem ŉ0 tK:∀ {FF:ϛ5}ā,
  (õu)->ϻ8 ∈ FF\/ÚU ∈ FF
 | [],_,h=>E9
 | ķ5::r,x,h=>by
  have ih:=@ŉ0 env r x;have h':ω9=↑ Ì1\/ω9=↑ Cp:=h;cases hx:x == n with
  | true=>
   have hxn:x=n:=Úu
   subst hxn;by_cases hc:(k == RO&&ÌR&&Ž2 x == ↑ Ì1)=true
   .simp![By] at hc;have:k=Cp:=by exists hc.1.1
    ext Η;show È BT
   .rw[Mj] at h';simp![IF,rO] at h';rcases h' with q | q
    .cases KB q;show Æ BT
    .cases KB q;show È BT
  | Á=>
   exact (ih ?_).imp (Da _) (Da _);by_cases hc:τ8=true
   .rw[Rg] at h';ext ċG
   .rw[Mj] at h';ext ċG
theorem ű2:∀ (FF:ϛ5) Ľ (acc:UQ),∃ own,Α4 Ĩ FF acc=own++acc/\(∀ p∈own,(p.1,ů1)∈ FF/\Ĩ<=p.2/\(ÚV h FF).IsCell p.2 none)/\
  (own.Pairwise λ x y=>x.2≠y.2)/\∀ x,ÚU ∈ FF->(Uk x).isSome
 | [],h,acc=>#[[],rfl,λ _ hp=>(ÚW),ä,λ _ hx=>(by cases hx)]
 | ķ5::r,h,acc=>by
  unfold Α4 ÚV;split
  .rename_i hk;have hk':k=Ì1:=ϴ3
   subst hk';let#[own,e1,e2,e3,e4]:=ű2 r (fz { cls:=Į "cell",data:=Ì1 none }) ((n,Ĩ)::acc);rw[Ss] at e1 e2;exact#[own++[(n,Ĩ)],by rw[e1,Ix];rfl,Ϛ,?_,ID]
   .rcases Å4 hp with q | q
    .let#[f1,f2,f3]:=e2 p q;show#[Da _ f1,⋯,f3]
    .cases tY;show#[BT,Ÿ,_,Ïu ĉ (Eu),rfl]
   .exact List.pairwise_append.mpr #[e3,zhT À,ąc];cases HW hb;show On (e2 a ha).2.1
   .rw[zhA,Ăd];ext Ϡ0
    .cases q;simp[IF]
    .rw[e4 x q];rfl
  .rename_i hk;let#[own,e1,e2,e3,e4]:=ű2 r h acc;exact#[own,e1,λ p hp=>#[Da _ (e2 ģ).1,(e2 ģ).2],e3,ID];ext Ϡ0
   .cases q;simp at hk
   .show e4 x q
def Ø3 A4 Eo Λ ZN{globals:Addr}{closure:UQ}{qual:Str}tK{Q:Env->ϴ}
  (hQ:∀ h',h'=ÚV (Èa) Ez->Q (newEnv ų Õ globals (Α4 uo Ez closure) āz ϳ3) { s with heap:=h' }):
  Ä M A (ÐG ų globals closure [] āz) ï:=by
 simp![ÐG,ýc,tZ];exact AC (wpAny_alloc ?_);exact AC (wpAny_layCells _ (λ name kind cells=>by cases hkc:kind == ů1 <;> simp[hkc]) ĉ ?_);rw[show ({ s with heap:=Èa }:θ).heap.objs.size=qE from Ss ..];simp![Ĉs];show AC (AT (AT (hQ HU)))
end Ë
namespace L2
open Ë å Ô
def mZ Ö2 AQ:St:=Ýh λ o=>o.bind λ i=>(σ[i]?).join
def Ť8 î (N':Û) ÄD (cl:UQ) qb ŭ ô (ex:Ξ):Cx:=
 { X with N:=N',s₀:=s,H₀:=H,env:=ϊ4,ġ:=sS,stack:=sS,ex:=ex,fn:=λ x=>ān,pn:=[],xe:=uW }
def di (N N':Û) Ö2 ÄD:Bool:=(N'.zip pick).all λ p=>match p.2 with
 | none=>true
 | some j=>Í (N[j]?=↑p.1)&&Í (JD p.1=↑ Cp)
structure lV î (N':Û) Ö2 ÄD:Prop where
 kind:Ĉt
 uniq:∀ y∈ Ez,Ão=↑y.2
 free:∀ y∈ Ez,Ãq->qF y.1=↑ Ì1\/qF y.1=↑ Cp
 len:öS
 ok:di X.N Ñr=true
def di.get {N N':Û}â2 ZN(h:Čq) q8 ā(h1:N'[i]?=↑x) (h2:Ϯ5):N[j]?=↑x/\JD x=↑ Cp:=by
 unfold di at h;have hm:(x,↑j)∈N'.zip pick:=by
  exact P2 (i:=i) ?_;rw[zhU];show Į1
 have q:=G6 h _ hm;simp![By,Ν] at q;show q
def mZ.get â2 Υ ă ϋ(h:Wx[i]?=↑↑v):∃ j,Ϯ5/\σ[j]?=↑↑v:=by
 unfold mZ at h;rw[Fa] at h;cases e:N_ with
 | none=>rw[e] at h;cases h
 | some o=>
  rw[e] at h;cases o with
  | none=>simp at h
  | some j=>
   exact ąd;simp![xn,ϔ3,Do] at h;cases q:σ[j]? with
   | none=>rw[q] at h;simp at h
   | some w=>rw[q] at h;simp at h;rw[h]
def PF î (ifs:Bl) (t:TT):Prop:=∀ Ű Ļ5,ŉ->dG->
 Ä Ā (forIn ifs true λ c r=>if r=true then do let ok <- Xh c Ù (eval c Ù);pure (bU ok) else pure (bU r)) ϩ4
def ñ5 Ì:PF X [] (λ _ H Q=>Q true H):=λ _ _ _ H _ I h=>ąe #[H,I,h]
def Ù6 Ì JY{t:TT}(h:PT X c t):PF X [c] t:=λ gV s σ H Q I q=>wpAny_tests_one (h Dh q)
def Š2 Ö2 ÖG (tc:TT) ο0:TE:=fun σ H Q=>wi ç λ J H1=>∀ D,H1 D=none->∃ W:Ŋ8,ìR/\
 Åk
section
variable {Ì}{Ĵ}{aV}{cl:UQ}{ĸ5}{ŝ4}
def zat π0 Ú ÄG (hlt:Ĉu)
  {h1:Heap}(c1:∀ x c,Bz->(GR/\IM)\/(ϡ2/\C<c/\h1.IsCell c none)) (c2:∀ x,GR\/ϡ2->ϐ7) (c3:∀ x y c,Bz->ÚX y=↑c->x=y)
  {m1:zSV}F5(hC:Õ<C) (old:∀ b o,Êk) (hns:h1.Ns C m1)
  (hD:Y4 Õ=↑{ cls:=ſ,data:=ň į 0 }):
  Inv tI ĊQ { s with heap:=h1,toks:=t' }:=by
 have hDn:Θ1:=LV;have hCn:H C=none:=CG Ýi;have cf:∀ x c,Bz->(∃ v,h1.IsCell c v)/\(c<Õ\/C<c)/\upd ÀL c=none:=λ x c e=>by
  rcases ζ9 with ⟨_,q⟩ | ⟨_,q1,q2⟩
  .let#[v,o,z1,z2]:=Oo x c q;have hl:=IO z1;show#[#[v,o,old À z1,z2],È hl,by rw[zR (FS hl)];show I.mC x c q]
  .show#[#[_,q2],Æ q1,by rw[zR (On (ð3 hC q1))];show CG (No (ð3 hC q1))]
 exact#[#[Ι5,S.kind,ϭ9,Áv,No hC,c3,ID,λ x c hf e=>?_,I.ok.hd,mG,C5,
  λ b hb=>#[FS ýd,ž6],I.bs,BY Ο2 I.sz,λ b o e hb=>?_,λ b hb z=>?_,Ãm,I.ŭ8],
  rfl,Cf,Un.laid old Ķ hDn,#[m1,hns,ùh],ž6,?_,ž6,ÊZ,I.zt.laid old Ķ ?_,?_]
 .show Option.isSome_iff_exists.mp (c2 x (ŉ0 hx))
 .have hf':=HS (show ān=true from hf);rcases ζ9 with ⟨q,_⟩ | ⟨_,q,_⟩
  .rw[S.uniq _ q] at hf';cases hf'
  .show No (ð3 hC q)
 .rcases ζ9 with ⟨_,q⟩ | ⟨_,q,_⟩
  .show ąf x c q
  .show On (ð3 ýd q)
 .rcases Čr with z | z
  .show Ο1 Ie z
  .show á (KE (IO (ÌP).1) z) Jn
 .rcases Ĉe with q | q
  .show (Mh).2.1 q
  .show (Mh).2.2.1 q
 .let#[j,p1,p2]:=mZ.get e2;let#[q1,q2]:=di.get S.ok G8;let#[m0,ļ3,l0]:=ET;have hm:GR:=O5 q2;have hk:qF x=↑ Ì1\/qF x=↑ Cp:=S.free _ hm rfl;let#[u,r,l]:=l0 j x v q1 p2 (Æ hk);exact#[u,r,Æ #[ĵ8 q2,?_]];rcases l with ⟨k,_⟩ | ⟨_,c,e,z⟩
  .have k':qF x=↑ uI:=k;rcases hk with hk | hk <;> (rw[k'] at hk;cases hk)
  .let#[c',e']:=Option.isSome_iff_exists.mp (c2 x (È hm));have e'':ϙ3 x=↑c':=by
    rcases c1 x c' e' with ⟨_,q⟩ | ⟨q,_⟩
    .show q
    .have:=S.uniq _ q;rw[q2] at this;ext Bu
   rw[e] at e'';cases e'';let#[o,z1,z2]:=z;show#[c,e',o,old À z1,z2]
 .show (cf qR).1
 .change upd ÀL C=none;rw[zR (On hC)];show hCn
 .show (cf qR).2.2
 .show#[GO,[],0,ä,hD]
 .change (mZ pick σ).length=N'.length;unfold mZ;rw[AS];show S.len
def Ő4 ðj Ú ÄG (hC:Õ<C)
  (I':Ϟ6) (hoC:ÐH=↑oC):Ăe:=by
 have J:Hf:=I.Ū2 (ch:=fp) I'.os I'.base I'.zt I'.bare λ b hb=>#[Čr,(Mh).2.1,ąf,(Mh).2.2.2.2.2];exact J.Δ2 λ p hp=>Zw (λ z=>J.pin p (PP _ z)) Ãr;obtain rfl:p=Ýj:=Ma;exact#[hoC,I'.free,On (ð3 I.lt hC),I.ŏ1 Ýi,ØI];let#[m,#[o,es,ep,ho,hd,_],_]:=I'.loc;have ho':ÐH=↑o:=ho;rw[hoC] at ho';cases ho';rw[hd] at hv;cases hv
def ř0 ðj WG Ú (hC:Õ<C) (J:Inv ÊI QF) (hs:sJ C GN h'):Inv Fy Ig { s' with heap:=h' }:=by
 have J':=J.gW;have hp:=J.pin ÇV;have lt:∀ c,c<Õ->c≠C:=λ c h=>FS (ð3 h hC);exact J'.turned (t':=Ãs) (it:=C) (λ b o hb e=>hs.extBut Ze e) η0 hp.2.2.1 (Æ (BY I.sz Ýi)) (ċY) (λ p hq z=>?_)
 .let#[v,q]:=Áa;show lt c q.lt z
 .show lt p.1 (IO (pO p hq).1) z
end
section
variable {Ì}{aV}{ÑH}{ifs:Bl}{Ē}{wi:TI}{g:TG}{tc:TT}{Dy}
def Ê2 Ĵ{it C:Addr}ώ6{W:Ŋ8}{Q:V->rM}ο4{D:Addr}
  ĺ (hg:PG Yx) (hf:PF tI ifs tc) (he:PE rq)
  (T:ύ4) ÄG æZ
  (turn:Åk)
  (fin:∀ σ' H' s',Ϟ6->Q sY H'->R (.ok .next) s')
  âO:
  tB Ā (ÚY ø9 ϣ7) R s0:=by
 ext àf;change Ä _ X.A ((compTurn ø9 ϣ7).onRaise èZ) À s3;ext æx;rcases Íy with ⟨stop,qn⟩ | ⟨go,step⟩
 .exact zF (T.done tI òy stop) Ϧ2;ext ĊM;show AT (fin π1 s4 I4 qn)
 .ext ðA;exact AC (EQ (hf ÔF I6 q6) (λ ok s7 z0=>?_) bf);let#[H7,I7,q7]:=z0;have back:àD:=λ{H8 s8} I8 ąg=>by
   ext üO
  cases ok with
  | Á=>
   rw[Dp] at q7;show AT #[rfl,back I7 q7]
  | true=>
   rw[ĭ] at q7;exact AC (AC (EQ (he _ s7 XV H7 _ I7 q7) Ăf bf));ext áX
def İ6 Ĵ Äz ώ6 ë1 ùY
  êQ
  Ú óD
  (run:∀ cl' C s1,Õ<C->Inv (Ť8 X N' ų cl' C s H fp) ĊQ s1->tn 0 s1.heap->(∀ b∈fp,b≠C/\b∉ RH/\∀ x c,cl'.lookup x=↑c->c≠b)->(∀ b∈fp,upd ÀL b=none)->
   tB Ā (ÚY ø9 0 DL Fs (compEnvC ų cl' C Ù)) (RR Fs C) s1):
  àl:=by
 exact P4 (Ø3 λ h₁ eh=>?_);dsimp only at eh ⊢;generalize hH2:Ŧ { cls:=ſ,dict:=none,data:=ùl }=H2 at eh ⊢;have hC:Js=qE:=by rw[<- hH2,Ss]
 have hlt:Õ<Js:=by rw[hC];show UF _
 have up:∀ b o,H2.get? b=↑o->ŋ5:=λ b o e=>by rw[eh];show Ïu ĉ (YS)
 have old:∀ b o,ϒ->ŋ5:=λ b o e=>up b o (hH2▸ YS);have hacc:ÚZ Õ=↑{ cls:=ſ,data:=ň į 0 }:=up À (hH2▸ Eu);have hns₁:h₁.Ns Js Nc:=by rw[eh];show (Heap.Ns.new H2 (Kp)).keeps (Ïu À)
 let#[own,o1,o2,o3,o4]:=ű2 Ez (H2.push { cls:=Kp,data:=Áy }) cl;rw[Ss] at o1 o2;rw[<- eh] at o2;rw[o1];have d1:∀ x c,Úv->(GR/\IM)\/(ϡ2/\Js<c/\h₁.IsCell c none):=λ x c e=>by
  rw[zhA] at e;cases q:Uk x with
  | some c'=>
   ext Tv;show Æ (o2 _ (O5 q))
  | none=>rw[q] at e;show È (ζ9)
 have d2:∀ x,GR\/ϡ2->(Ég x).isSome:=λ x hx=>by
  rw[zhA,Ăd];ext ϥ6
  .rw[c2 II,zg4]
  .rw[o4 II];rfl
 have d3:∀ x y c,Úv->Ég y=↑c->x=y:=λ x y c e1 e2=>by
  rw[zhA] at e1 e2;have low:∀ x c,Bz->c<Js:=λ x c e=>by
   let#[v,q]:=Oo x c (ζ9).2;show ð3 q.lt hlt
  have hi:∀ x c,Uk x=↑c->Js<c:=λ x c e=>(o2 _ (O5 e)).2.1;cases q1:Uk x with
  | some c1'=>
   rw[q1] at e1;cases e1;cases q2:Uk y with
   | some c2'=>rw[q2] at e2;cases e2;show PySem.name_of_addr o3 (O5 q1) (O5 q2)
   | none=>rw[q2] at e2;show á (low y _ e2) (Nat.lt_asymm (hi x _ q1))
  | none=>
   rw[q1] at e1;cases q2:Uk y with
   | some c2'=>rw[q2] at e2;cases e2;show á (low x _ e1) (Nat.lt_asymm (hi y _ q2))
   | none=>rw[q2] at e2;show Áu x y c (c1 x c e1).2 (c1 y c e2).2
 have hflt:Ĉu:=λ b hb=>by
  let#[o,e,_]:=T.obj À t0 Ϣ;show B9
 have I0:=zat (t':=Ĕ) S I hfp hflt d1 d2 d3 hlt old hns₁ hacc;have t1:tn 0 h₁:=T.keep Ð t0 λ b _ o e=>old Ie;have hst:∀ b∈fp,b≠ Js/\b∉ RH/\∀ x c,Úv->c≠b:=λ b hb=>I0.ok.aU Ϣ |> λ q=>#[q.1,I0.ok.fQ Ϣ,q.2]
 have loop:=run À { s with heap:=h₁ } hlt I0 t1 hst λ b hb=>by
  rw[zR (FS (hflt Ϣ))];show (Mh).1
 show codeAny_compStart_list loop (T.self _ 0 Ð t1 loop)
def Ł5 Ĵ Äz ώ6{Q:V->rM}ë1 ùY ĺ ÅL
  êQ
  Ú óD
  (rd:∀ D,H D=none->∃ W:Ŋ8,(∃ m,W 0 m Wx (upd H D KD))/\
   Åk)
  (fin:∀ C D oC H' s',Õ<C->Ăe->ÐH=↑oC->(∃ m,ÐI)->Q sY H'->RR sY C (.ok .next) s'):
  àl:=by
 let#[W,Γ0,turn]:=rd Õ Ui;exact İ6 S c1 c2 I T t0 hfp λ cl' C s1 hlt I0 t1 hst f0=>Ê2 (σ:=σ) hc (hg qd) (hf qd) (he qd) T hfp hst turn (fun σ' H' s' I' q=>?_) I0 t1 f0 w0;let#[m,hn,_]:=I'.loc;have hn':ÐI:=hn;ext òz;show fin À oC H' s' hlt (Ő4 I hfp hlt I' ho) ho #[m,hn'] q
def ú6 π0 ĺ Ϛ6 ÅL
  Ìv:PE X ø9 ùm:=by
 ext ŧ;ext ÅM;rw[eval_ListComp];exact ÊM (use:=none) áT;ext Çb;subst e;exact Ł5 (RR:=λ acc C=>Ýk Ā X.xe none ϻ9 acc C) S hc hg hf äJ;let#[m,hn]:=hn;show#[m,hn,λ h' hs'=>#[à D,H',ř0 I2 hC J' hs',rfl,q]]
def Õ2 ă bu π0 ĺ Ϛ6 ÅL
  Aa Én
  (hsw:ÐJ:=by rfl)
  (hfn:ϗ0:=by ext ĄL)
  Ìv:PS ça (ι0 ùm ζ0):=by
 ext ŧ;ext ÅM;ext çN;change Ä _ X.A (do let _ <- Òg ø9 ãK) CW;exact AC (EQ (ÊM (use:=↑ ËK) (Q:=ðO) áT) (λ _ s' hq=>AT (η1)) ØJ)
 ext Çb;subst e;exact Ł5 (Q:=λ x H1=>ę8 i x Ş Q.nx) (RR:=λ acc C=>Ýk Ā X.xe ↑ ËK (ðO) acc C) S hc hg hf äJ;change Ä _ X.A (Ġ1 (Jd) Ù sY) Ð;exact þZ (bj J' hN hy hx (v:=à D) rfl (λ s3 J3=>?_) hfn);have hp:=(J3.pin ÇV).1;let#[m,o,es,ep,ho',hr]:=hn;have:o=oC:=ôd;ext Η;show#[m,#[o,es,ep,hp,hr],λ h' hs'=>#[_,H',ř0 I2 hC J3 hs',q]]
end
end L2
namespace L3
open Ë å L2
open Ô hiding St
inductive D where
 | zB | bl Ed | int C8 | str ĩ | tup ĸ6 | vw ĸ6 | ref Ŵ | err Pk ø3
def cK Ï ô Ŵ HR:Prop:=
 (∃ o,H a=↑(.nC o ñ4))\/
  åZ
def cK.sq Ý æ ú Ę(h:cK Vs):sV:=by
 ext ÚE
 .show È (Æ h)
 .show Æ h
abbrev lO:BO:=[ϡ3,Į "Exception",àT,Į "object"]
abbrev iR:Û:=["__getattribute__","__getattr__","__class__","__setattr__","place","pair","way","times","told","name","row"]
def gH Ï ď0 qb (bm:zLV) (N:Addr):Prop:=
 (∃ (q:Str) (bs:zLV) (sn:Û) (sub:zLV) (ab:Bool) (col:pP) (dd:ł) (k0 k1 k2 k3 k5:B2),Hv C=↑ åA)/\
 Ĉv K N=true/\∀ n∈iR,ŋ K N n=↑none
structure ł3 Ï ď0 (C P N NP:Addr):Prop where
 own:gH uH (Wv) N
 par:gH āu NP
 top:ÌS
 Y1:Čs
 Ey:ýe=↑none
def eK Ï ď0 qb:Prop:=∃ P N NP,yv
def Ŏ5:Data->õ R7
 | Ρ5=>↑cd
 | _=>none
def zco {d:Data}{cd:R7}(h:Ŏ5 d=↑cd):d=Ρ5:=by
 cases d with
 | cls c=>cases h;rfl
 | _=>cases h
theorem ĕ9 þ:∀ Mn,xk=6->∃ a b c d e f,l=ôe
 | ôe,_=>#[a,b,c,d,e,f,rfl]
def ownIn Ï ď0 qb (bm:zLV):ł:=(Hv C).bind λ o=>(Ŏ5 Pg).bind λ cd=>
 if (GZ == Ζ5&&cd.mro == sD::bm&&o.slots.toList.length == 6&&o.slots.toList[4]? == ↑↑ ñW&&cd.hasDel == Á&&cd.hasDict == true&&cd.name == c&&Ĉv K cd.ns&&iR.all (λ n=>ŋ K cd.ns n == ↑none))=true then ↑cd.ns else none
def ļ6 Ý Ļ7 ÂI{bm:zLV}(h:ownIn uH bm=↑N):Òh:=by
 let#[o,ho,h]:=ϟ h;let#[cd,hd,h]:=ϟ h;let#[hc,e]:=Option.ite_none_right_eq_some.mp h;simp![By,sA,zE4] at hc;let#[#[#[#[#[#[#[Į1,h3],h4],h5],h6],h7],h8],h9]:=hc;let#[k0,k1,k2,k3,k4,k5,hl]:=ĕ9 h3;rw[hl] at h4;have hs:Vf=Æt:=by
  rw[<- KB h4,<- Array.toList_inj,hl]
 have hcd:cd=#[c,cd.bases,sD::bm,N,cd.qualname,true,cd.slotNames,Čt,cd.abstract,Ču,Á]:=by
  rw[<- h7,<- h2,<- h6,<- h5,<- Vn]
 have ho':o=#[Ζ5,SA,Ρ5,Æt]:=by
  rw[<- h1,<- zco hd,<- hs]
 rw[Vn] at h8 h9;show#[#[cd.qualname,cd.bases,cd.slotNames,Čt,cd.abstract,Ču,SA,k0,k1,k2,k3,k5,ho.trans (Ó some (ho'.trans (Ó (λ z=>(#[Ζ5,SA,.cls z,Æt]:Obj)) hcd)))],h8,h9]
def Ţ9 Ï ď0:õ (Addr×Addr×Addr×Addr):=match ŋ ζ c,éC with
 | some ↑ IJ,↑↑ NI=>(match ownIn uH (Wv),ownIn āu with
  | some N,↑NP=>if ýe == ↑none then ↑ Ăg else none
  | _,_=>none)
 | _,_=>none
def ņ0 Ý Ļ7{C P N NP:Addr}(h:Ţ9 K c=↑ Ăg):yv:=by
 unfold Ţ9 at h;ext č
 .rename_i h1 h2;ext č
  .rename_i h3 h4;ext č
   .rename_i h5;cases h;show#[ļ6 h3,ļ6 h4,h1,h2,KA h5]
   .cases h
  .cases h
 .cases h
def jF (e C:Addr) (dx:ł):HO:=tU λ h=>∃ oe vs,KI/\S7/\RM=dx/\KO
def Xd ô Ø1 (w:V):ł->Prop
 | some x=>H x=↑ ąh
 | none=>f=""/\w=.zB
mutual
def zA Ï ô:D->V->Prop
 | .zB,v=>v=.zB
 | ω,v=>v=ω
 | Ą,v=>v=Ą
 | ů,v=>v=ů
 | AA,v=>∃ a xs,qe/\rW/\GW
 | qp,v=>∃ a xs,qe/\cK Vs/\GW
 | œ,v=>qe
 | Ûa,v=>∃ e C dx w,v=uG/\(eK uH/\ϙ5/\Xd H f w dx)/\zA Ò d w
def zu Ï ô:Az->À0->Prop
 | [],xs=>xs=[]
 | DQ,xs=>∃ x r,xs=x::r/\Cy/\zu Ò ds r
end
structure Ext (H H':Hp):Prop where
 tup:ϋ2
 nC:Çm
 ext:∀ b φ,H b=↑(Rz)->DE=↑(Rz)
 xd:∀ b fs,H b=↑(.xd fs)->DE=↑(.xd fs)
 ds:∀ b x vs,H b=↑(.dS x vs)->∃ us,DE=↑(Ýl)
def Ext.refl ô:Ext H H:=#[ϴ4,ϖ,ϴ4,ϴ4,λ _ _ _ h=>#[_,h]]
def Ext.trans {H H1 H2:Hp}(a:Ým) (b:Àa):Ext H H2:=#[λ c xs h=>b.tup c xs (a.tup c xs h),λ c o u h=>b.nC c o u (a.nC c o u h),λ c u h=>b.ext c u (a.ext c u h),λ c u h=>b.xd c u (a.xd c u h),λ c x u h=>by let#[_,h]:=a.ds c x u h;show b.ds c x _ h]
def Ext.new æ BE(h:Gs) (o:HO):ϛ8:=
 #[λ b xs q=>Wl,λ b ob u q=>Wl,λ b u q=>Wl,λ b u q=>Wl,λ b x u q=>#[u,Wl]]
theorem Ext.lst æ BE Ę(h:ϴ1) (o:HO):ϛ8:=
 ÅN
def Ext.Œ8 Ý BP ú Ę uq (h:rW):y6 ό Ô7:=by
 rcases h with (h | ⟨o,h⟩) | h
 .show È (È (e.tup À h))
 .show È (Æ Ăh)
 .show Æ h
def Ext.ģ5 Ý BP ú Ę uq (h:cK Vs):cK ό Ô7:=by
 rcases h with ⟨o,h⟩ | h
 .show È Ăh
 .show Æ h
section
variable {Ý}{BP}
def Xd.ext BP J_{w:V}{dx:ł}(h:Xd H f w dx) uq:Xd H' f w dx:=by
 cases dx with
 | none=>show h
 | some x=>show e.xd À h
mutual
theorem DX uq:∀ ø3 ϋ,Vc->ØK
 | .zB,v,h=>ű0
 | ω,v,h=>ű0
 | Ą,v,h=>ű0
 | ů,v,h=>ű0
 | œ,v,h=>ű0
 | Ûa,v,h=>by
  simp![zA] at h ⊢;let#[a,C,dx,w,h1,#[h2,h3,h4],h5]:=h;show#[a,C,dx,w,h1,#[h2,e.ext À h3,h4.ext e],DX e d h5]
 | AA,v,h=>by
  ext éu;show#[a,xs,h1,e.Œ8 h2,Õu]
 | qp,v,h=>by
  ext éu;show#[a,xs,h1,e.ģ5 h2,Õu]
theorem FO uq:∀ ĸ6 Ę,GW->zu ό ds xs
 | [],xs,h=>by simpa only [zu] using h
 | DQ,xs,h=>by
  simp![zu] at h ⊢;ext ϓ1;show#[x,r,h1,DX e d h2,Õu]
end
theorem zu.length:∀ ñ Ę,GW->t4=ò
 | [],xs,h=>by ext ÌC;rfl
 | DQ,xs,h=>by
  let#[x,r,h1,_,h3]:=h;subst h1;simp[zu.length h3]
theorem zu.get:∀ ñ Ę ă û,GW->ſ0->∃ x,ll/\Cy
 | [],_,i,d,_,e=>ÚH
 | c::ds,xs,i,d,h,e=>by
  ext ϓ1;subst h1;cases i with
  | zero=>ext Ι2;show ąi
  | succ i=>
   let#[y,e1,e2]:=zu.get (i:=i) h3 K1;show ÉJ
theorem zu.append:∀ ÀM Pa,GW->zu Ò es ys->zu Ò Jb Áo
 | [],es,xs,ys,h,h'=>by ext ÌC;exists h'
 | DQ,es,xs,ys,h,h'=>by
  ext ϓ1;subst h1;change zu Ò (d::Jb) (x::(r++ys));simp![zu];show#[x,r++ys,rfl,h2,zu.append h3 h']
def zu.nil:zu Ò Co:=by simp![zu]
def zu.cons û ñ AW Ę(h:Cy) (h':GW):zu Ò (DQ) LX:=by
 simp![zu];show#[x,xs,rfl,h,h']
def zu.snoc û ñ AW Ę(h':GW) (h:Cy):zu Ò (ds++[d]) (xs++[x]):=h'.append (ã h ä)
theorem zu.ints:∀ ô1 Ę,zu Ò ſ1 xs->xs=rg GF
 | [],xs,h=>Év
 | H_,xs,h=>by
  ext ÆN;rw[As,zu.ints h3]
theorem zu.Ť7:∀ Χ,zu Ò ſ1 Dx
 | []=>ä
 | H_=>ã rfl (zu.Ť7 ns)
theorem zu.bools:∀ {ns:tM}Ę,zu Ò (rg D.bl) xs->xs=rg V.bl
 | [],xs,h=>Év
 | H_,xs,h=>by
  ext ÆN;rw[As,zu.bools h3]
end
inductive O where
 | lst ĸ6
 | yf Χ9
 | iQ
 /-- an instance of Desk and its dict -/
 | zE Χ9
abbrev SS:=Addr->õ O
def wu Ï ô:rF->FZ->Prop:=Γ λ p q=>Ξ6/\zA Ò p.2 q.2
def kB Ï ď0 qb:Prop:=ÌS
def jz Ï ô Ŵ:O->Prop
 | Jr=>∃ xs,H a=↑ ñ4/\GW
 | .yf tp=>∃ vs,H a=↑ Ød/\RZ
 | .iQ=>∃ C dx,vU/\H a=↑ ÐE
 | .zE tp=>∃ C dx q vs,vU/\H a=↑ ϋ9/\H q=↑ ØL/\RZ
def ye Ï ô Å9:Prop:=∀ a o,Ýn->Àb
def ups Å9 Ŵ (o:O):SS:=λ b=>if b=a then ↑o else S b
def mL è ú ą1:ups S a o a=↑o:=by unfold ups;rw[ĭ]
def kD è ÂA ą1(h:b≠a):ups S a o b=S b:=by unfold ups;rw[Fv]
def Sx (S S':SS):Prop:=∀ b o,úY
def Sx.refl Å9:Sx S S:=ϴ4
def Sx.trans {S S1 S2:SS}(a:Sx S S1) (b:Κ7):Sx S S2:=λ c o h=>b c o (a c o h)
def Sx.new è BE(h:BL) (o:O):Sx S Õv:=λ b u q=>by
 rw[kD (by intro z;subst z;rw[h] at q;cases q)];show q
theorem Sx.none é9(e:sv) BE(h:S' p=tW):S p=tW:=by
 cases q:S p with
 | none=>rfl
 | some o=>rw[e p o q] at h;cases h
section
variable {Ý}{BP}{è}
def jz.has ú ą1(h:Àb):H a≠none:=by
 cases o with
 | lst ds=>ext üd
 | yf tp=>ext üd
 | iQ=>let#[C,dx,_,h]:=h;rw[h];simp
 | zE tp=>let#[C,dx,q,vs,_,h,_]:=h;rw[h];simp
theorem ye.none ţ1 BE(h:H p=tW):S p=tW:=by
 cases q:S p with
 | none=>rfl
 | some o=>show á h (r p o q).has
theorem wu.ext uq ώ2:wu ό tp vs:=
 Ϻ8 h λ p q z=>#[z.1,DX e p.2 z.2]
def jz.keep ú ą1 uq (k:∀ u,úZ) (kd:∀ q vs,éD) (h:Àb):jz ό a o:=by
 cases o with
 | lst ds=>let#[xs,h1,h2]:=h;show#[xs,k _ h1,FO e ds h2]
 | yf tp=>let#[xs,h1,h2]:=h;show#[xs,k _ h1,h2.ext e]
 | iQ=>let#[C,dx,h0,h1]:=h;show#[C,dx,h0,k _ h1]
 | zE tp=>let#[C,dx,q,vs,h0,h1,h2,h3]:=h;show#[C,dx,q,vs,h0,k _ h1,kd Ik,h3.ext e]
theorem ye.keep uq (k:∀ a u o,Ýn->úZ) (kd:∀ q a vs,éD) ţ1:Ýo:=λ a o h=>(r a o h).keep e (λ u q=>k a u o h q) λ q vs z=>kd q a vs z
def ye.same (e:ū7 H H') ţ1:Ýo:=r.keep áu (λ a u _ _ q=>e a u q) λ _ _ _ q=>Vd
theorem ye.new BE{u:HO}(hp:H p=tW) ţ1:ye K Ϯ6 S:=
 r.keep (Ext.new hp u) (λ a v o _ q=>üJ) λ _ _ _ q=>üJ
theorem ye.ups BE{u:HO}ą1(e:Ext H Ϯ6) (hn:jz K Ϯ6 p o) ţ1 (hu:∀ x us,u≠ Ýl:=by show λ _ _=>Lg):ye K Ϯ6 Õv:=λ a o' h=>by
 by_cases ha:a=p
 ext üF
 .rw[kD ha] at h;exact (r a o' h).keep e (λ v q=>by rw[zR ha];show q) λ q vs z=>?_;have hq:q≠p:=λ y=>by
   subst y;let#[us,e1]:=e.ds Ð z;rw[yy] at e1;show hu À (KB e1)
  rw[zR hq];show z
end
abbrev yS:=List (õ D)
def xJ Ï ô (L:yS) AQ:Prop:=Áz=ÚK/\∀ Ü ø3,Òi->∃ v,Ðx/\Vc
theorem xJ.ext Ý BP xr Υ uq (r:G4):xJ ό L σ:=#[r.1,λ i d h=>by
 let#[v,h1,h2]:=r.2 i d h;show#[v,h1,DX e d h2]]
theorem xJ.set Ý æ xr Υ Ü û ϋ(r:G4) (h:Vc):xJ Ò (N5) ϗ3:=by
 ext èN
 .subst hj;rw[ĭ] at hc ⊢;by_cases hl:i < Áz
  .rw[Ç hl] at hc;rw[Ç (by rw[<- r.1];show hl)];cases hc;show#[v,rfl,h]
  .rw[É hl] at hc;cases hc
 ext þO
abbrev DK:=D->ql
abbrev zr:=yS->Ϫ3
abbrev xI:=yS->SS->(Q8)->Prop
abbrev yw:=yS->SS->(ÁA)->Prop
def y7 bK:Prop:=∀ L S ÄH,ØM
def nU đ5:Prop:=∀ L S (Q Q':Q8),ØM
def mH AV:Prop:=∀ L S (Q Q':ÁA),ØM
def o6 Ï ô E7:DK:=λ d S'=>∀ v H',ØK->ÎR
def Zd Ï ô Ļ5:Q8:=λ b S'=>∀ H',Ew->LO->Q b H'
def dnL Ï ô (Q:S_):ÁA:=λ ds S'=>∀ vs H',zu ό ds vs->Ew->LO->Q vs H'
def oJ Ï ô (Q:ä0):AP:=fun L S'=>∀ σ H',xJ ό L σ->Ew->LO->Q ik
def Oc Ý BP Ud uq û è(h:o6 Ò Ħ6):o6 ό Ħ6:=êc
def Zd.ext Ý BP{Q:fO}uq {d:Bool}è(h:Zd Ò Ħ6):Zd ό Ħ6:=λ H2 x q=>h H2 ÔJ
def ag Ý BP{Q:ä0}uq {d:yS}è(h:oJ Ò Ħ6):oJ ό Ħ6:=êc
def zU Ï bK:TE:=fun σ H Q=>∃ L S,G4/\Ϝ/\t L Β3
def o9 Ï đ5:TT:=fun σ H Q=>∃ L S,G4/\Ϝ/\t L S (Zd Ò Q)
def vj Ï AV:TA:=fun σ H Q=>∃ L S,G4/\Ϝ/\t L S (dnL Ò Q)
structure PD î RL bK:Prop where
 mo:y7 t
 pe:PE ÖI
structure zG î RL đ5:Prop where
 mo:nU t
 pt:PT ÖJ
structure yC î Ļ4 AV:Prop where
 mo:mH t
 pa:PA X es (vj ä3)
def Œ Ì ė{t t':TE}(h:PE rC) Ug:PE EJ:=ϋ3
def PQ Ì ė{t t':TT}(h:PT rC) Ug:PT EJ:=ϋ3
def PA.imp Ì{e:Bl}{t t':TA}(h:PA rC) Ug:PA EJ:=λ pos gV s σ H Q I q=>h pos Ód
def GK Ì{e:Stmt}{t t':TS}(h:PS rC) (hi:ñX):PS EJ:=êd
def oP.imp Ì{e:Å3}{t t':TS}(h:oP rC) (hi:ñX):oP EJ:=êd
section
variable {Ì}{Ý}
def Ģ OI Υ æ Ud xr è{R:DK}(mo:y7 t) Êb (k:∀ d S' v H',R ύ->ØK->ÎR):zU K t ź:=
 ãc
def EE {t:xI}Υ æ{Q:fO}xr è{R:Q8}(mo:nU t) Êb (k:∀ d S' H',R ύ->Ew->LO->Q d H'):o9 K t ź:=
 #[L,S,r1,r2,mo ó (λ d S' q H' b c=>k ύ H' q b c) h]
def O6 {t:yw}Υ æ{Q:S_}xr è{R:ÁA}(mo:mH t) Êb (k:∀ d S' v H',R ύ->zu ό d v->ÎR):vj K t ź:=
 ãc
def yL Ü:zr:=fun L S Q=>match L[i]? with
 | some ↑d=>Jq
 | _=>ê
def dC ø3:zr:=λ _ S Q=>Jq
def ı1 Ü ā Ē(h:PE Ve):PD ÄU:=by
 exact#[fun L S Q Q' hq h=>?_,Œ h Ų]
 .unfold yL at h ⊢;ext č
  .show Å5
  .show h
 .ext ăM
  ext çt
  .show ë
def dC.mo ø3:y7 (dC d):=ûa
def fq ė û ϋ(h:PE X e (tC v)) (r:∀ H,zA ŏ d v):PD X e (dC d):=
 #[dC.mo d,Œ h λ _ H _ z0=>by ext ĀE;show h v H (r H) Ϫ4 r2]
def é6 {i j pos}:PD X ĄT (dC qC):=fq ģ9 Wi
def å6 {i j pos}:PD X (AO (FK i) Xb) (dC (.bl i)):=fq Õ8 Wi
def å4 {j pos}:PD X (AO Ć Xb) (dC .zB):=fq ì8 Wi
def Ζ0 {x j pos}:PD X ĄU (dC qQ):=fq ś3 Wi
abbrev wx:=D->D->Ϫ3
def v9 (f:wx):Prop:=∀ x y S ÄH,(LS)->f UX->f x y S Q'
def vb Ï (f:wx) (r:R2):Prop:=∀ x y d e H S Q,Cy->Ûb->Ϝ->f d e Β3->r qu
def x9 (f:wx) ÂJ:zr:=fun L S Q=>ta L S λ x S1=>tb Ĺ λ y S2=>f x y S2 Q
def x9.mo {f:wx}á6 ÄI Ī1:y7 Γ6:=fun L S Q Q' hq h=>
 ha ó (λ x S1 h=>hb ς (λ y S2 h=>hf ÄV hq h) h) h
def Ŕ0 ϱ6 á6(hr:vb K f r) ÄI Ī1 Υ æ Ud(h:zU K Γ6 ź):Ō4 r ĀF ź:=by
 ext ìb;show hr v w ļ7 S2 Q Ðe p2 (hf ÄV (λ d S' z=>z.ext Íz) h2)
def iP uP{op:Operator}Ē ϱ6 á6(ho:ĄV) ËA Š:PD X Ĉk Γ6:=
 #[ÓK,Œ (Ï6 ho HX) ñY]
def dk uP ĳ5 Ē ϱ6 á6 ų7 ËA Š (hm:KZ):PD Xt Γ6:=
 #[ÓK,Œ (Ð0 ho HX hm) ñY]
def nD bK:xI:=fun L S Q=>t L S λ x S1=>match x with
 | ω=>Q b S1
 | _=>ê
def nD.mo OI(h:y7 t):nU (nD t):=fun L S Q Q' hq q=>h ó (λ d S' z=>by
 cases d <;> first
  | show Me
  | show z) q
def jV uP ĳ5 Ē ϱ6 á6 ų7 ËA Š (hm:KZ):zG Xt (nD Γ6):=by
 exact#[nD.mo (ÓK),PQ (ė9 ho HX hm) ąj];ext ÈR;exact Ŕ0 hr hf è3 #[L,S,r1,r2,x9.mo hf è3 ïv];cases d with
 | bl k=>simp![zA] at a;show ûb
 | _=>show B7
def fI (C:KN) (g:DZ):wx:=λ x y S Q=>match x,y with
 | Ą,Ð3=>Rp/\Q qk S
 | _,_=>ê
def fI.mo {C:KN}{g:DZ}:v9 (fI C g):=λ x y S Q Q' hq h=>by
 unfold fI at h ⊢;ext č
 .show Uy
 .show ë
def zH (g:DZ):wx:=λ x y S Q=>match x,y with
 | Ą,Ð3=>Q qk S
 | _,_=>ê
def QW {g:DZ}:v9 (zH g):=λ x y S Q Q' hq h=>by
 unfold zH at h ⊢;ext č
 .show Å5
 .show ë
def fI.fits {C:KN}Æi:vb K (fI C g) (rI C g'):=λ x y d e H S Q h1 h2 h3 h=>by
 unfold fI at h;ext č
 .show#[_,_,h1,h2,h.1,h.2 ÔK Ϫ4 h3]
 .show ë
def zH.fits Æi:vb K (zH g) (ma g'):=λ x y d e H S Q h1 h2 h3 h=>by
 unfold zH at h;ext č
 .show#[_,_,h1,h2,h ÔK Ϫ4 h3]
 .show ë
variable {uP}{á6}{Ē}
def ç2 Š:PD X (A1 a .Sub rn) ÿl:=iP è2 (ſ2) QW BX
def Ø4 Š:PD X (A1 a .Mod rn) ÿm:=iP ß8 ϑ6
def Í3 Š:PD X (A1 a .FloorDiv rn) ÿn:=iP Ĕ3 ϑ6
def Ô5 Š:PD X (A1 a .Pow rn) ÿo:=iP ë3 ϑ6
def ò9 Š:PD X (A1 a .RShift rn) ÿp:=iP Ó4 ϑ6
def Ĝ0 Š:PD X (A1 a .BitAnd rn) ÿq:=iP é4 (ſ2) QW BX
abbrev ŷ2:wx:=zH ϓ7
abbrev Η2:wx:=zH ϔ7
abbrev Ι8:wx:=zH ϓ8
def UT:vb K ŷ2 (ma ϓ7):=ſ2
def zbs:vb K Η2 (ma ϔ7):=ſ2
def zbt:vb K Ι8 (ma ϓ8):=ſ2
def ü1 Š:PD X ýf (x9 ŷ2 Ġ):=dk ζ5 UT ÄW
def ò2 Š:PD X (Gh a [.GtE] DM) (x9 Ι8 Ġ):=dk û1 zbt ÄW
def û2 Š:zG X ýf (nD (x9 ŷ2 Ġ)):=jV ζ5 UT ÄW
def É8 Š:zG X (Gh a [.Gt] DM) (nD (x9 Η2 Ġ)):=jV Ì3 zbs ÄW
end
section
variable {Ì}{Ý}{a b c:Expr}{á6}{Ē}
def Zm ÂJ:zr:=fun L S Q=>ta L S λ x S1=>match x with
 | CK=>if C1 then Ýp else Q Oz S1
 | _=>ê
def Zh ÂJ:zr:=fun L S Q=>ta L S λ x S1=>match x with
 | CK=>if C1 then Q ž S1 else Ýp
 | _=>ê
def Zi (ta:zr):zr:=fun L S Q=>ta L S λ x S1=>match x with
 | CK=>Q (.bl (!k)) S1
 | _=>ê
def pJ {c:Prop} [pj c] {A B A' B':Prop}(h1:A->A') (h2:B->B') (h:if c then A else B):if c then A' else B':=by
 by_cases q:c
 .rw[Ç q] at h ⊢;show h1 h
 .rw[É q] at h ⊢;show h2 h
def Zm.mo Ī1:y7 (Zm Ġ):=fun L S Q Q' hq h=>ha ó (λ x S1 z=>by
 cases x <;> first
  | show pJ Õw Ρ6 z
  | show z) h
def Zh.mo Ī1:y7 (Zh Ġ):=fun L S Q Q' hq h=>ha ó (λ x S1 z=>by
 cases x <;> first
  | show pJ Ρ6 Õw z
  | show z) h
def Zi.mo (ha:y7 ta):y7 (Zi ta):=fun L S Q Q' hq h=>ha ó (λ x S1 z=>by
 cases x <;> first
  | show Me
  | show z) h
def ð7 {op} OI(h:PD X a t):PD ĊK:=#[h.mo,Î6 h.pe]
variable {rest:Bl}
def ď5 OC (hb:PD Ϡ1 tb):PD Ϡ6 (Zm Ġ):=by
 exact#[Zm.mo è3,Œ (ä1 HX) Ų];ext Œ6;cases x with
 | bl k=>
  exact ñZ
  .show Õx
  .show z ZZ
 | _=>show qL
def Đ6 OC (hb:PD ϣ5 tb):PD ϣ6 (Zh Ġ):=by
 exact#[Zh.mo è3,Œ (Č2 HX) Ų];ext Œ6;cases x with
 | bl k=>
  exact ñZ
  .show z ZZ
  .show Õx
 | _=>show qL
def Ø7 OC:PD ϓ2 (Zi ta):=by
 exact#[Zi.mo ĝ,Œ (Ħ2 ha.pe) Ų];ext Œ6;cases x with
 | bl k=>
  show#[k,q1,h1 ZZ]
 | _=>show qL
def Za (t u:xI):xI:=fun L S Q=>t L S λ k S1=>if C1 then u Ĺ Q else Q Á S1
def aY (t u:xI):xI:=fun L S Q=>t L S λ k S1=>if C1 then Q true S1 else u Ĺ Q
def aZ đ5:xI:=fun L S Q=>t L S λ k S1=>Q (!k) S1
variable {t u:xI}
def Za.mo (h:nU t) (h':nU u):nU (Za t u):=fun L S _ _ hq z=>h ó (λ k S1 z=>pJ (h' ς hq) Ρ6 z) z
def aY.mo (h:nU t) (h':nU u):nU (aY t u):=fun L S _ _ hq z=>h ó (λ k S1 z=>pJ Ρ6 (h' ς hq) z) z
def aZ.mo (h:nU t):nU (aZ t):=fun L S _ _ hq z=>h ó (λ k S1 z=>Me) z
structure wN î RL đ5:Prop where
 mo:nU t
 pw:PW ÖJ
def PW.imp ė{t t':TT}(h:PW rC) Ug:PW EJ:=λ EK gV s σ H Q I q=>h EK Ód
theorem wN.pt ė{t:xI}(h:wN rC):zG rC:=#[h.mo,PW.pt h.pw]
def uz (h:Κ8):wN X Ĉg t:=#[h.mo,Ĉ4 h.pt]
def uw (h:Κ8):wN X ċV t:=#[h.mo,ă3 h.pt]
def xa (ha:Κ8) (hb:wN Ϡ1 u):wN Ϡ6 (Za t u):=by
 exact#[Za.mo è3,PW.imp (Í5 ha.pt hb.pw) Ų];ext ħ4;exact EE Ád λ k S1 H1 h1 e1 p1=>pJ Sv (λ z=>z sT) h1;show äe
def y_ (ha:Κ8) (hb:wN ϣ5 u):wN ϣ6 (aY t u):=by
 exact#[aY.mo è3,PW.imp (Ü2 ha.pt hb.pw) Ų];ext ħ4;exact EE Ád λ k S1 H1 h1 e1 p1=>pJ (λ z=>z sT) Sv h1;show äe
def Ò6 (ha:Κ8):zG ϓ2 (aZ t):=by
 exact#[aZ.mo ĝ,PQ (ċ3 ha.pt) Ų];ext ħ4;show EE Ád λ k S1 H1 h1 e1 p1=>h1 sT
def Zk đ5 ÂJ:zr:=fun L S Q=>t L S λ k S1=>if C1 then ta Ĺ Q else Ýp
def Zk.mo (h:nU t) Ī1:y7 (Zk t Ġ):=fun L S _ _ hq z=>h ó (λ k S1 z=>pJ (ha ς hq) Õw z) z
def ñ9 (hc:zG X c t) Š:PD X þW (Zk t Ġ):=by
 exact#[Zk.mo yp è3,Œ (Ã1 hc.pt HX) Ų];ext ħ4;exact EE yp tX h àM
 .show Ģ ĝ àt
 .show Õx
def mO ø3 Å9 (Q:Q8):Prop:=match d with
 | .zB=>Q Á S
 | CK=>Q k S
 | Ą=>Q (i != 0) S
 | ů=>ϑ<=â/\Q Čv S
 | AA=>Ãt
 | qp=>Ãt
 | Ŗ=>match S p with
  | Uv=>Ãt
  | some VS=>Q (Ïs) S
  | _=>ê
 | FW=>ê
def Ŧ0 (ta:zr):xI:=fun L S Q=>ta L S λ x S1=>mO x S1 Q
def mO.mo û è{Q Q':Q8}(hq:∀ k S',Q k S'->Q' k S') (h:mO d S Q):mO d S Q':=by
 cases d with
 | str x=>show Uy
 | err _ _ _=>show ë
 | ref p=>
  unfold mO at h ⊢;ext ÎI
  .show Å5
  .show Å5
  .show h
 | _=>show Å5
theorem zu.isEmpty æ ñ Ę(h:GW):ØN=MY:=by
 have:=Ýq;cases ds <;> cases xs <;> simp_all
def zdu Gi{F:ŏ6}ÿ4{ys:Ι4}(h:Γ F xs ys):MY=ys.isEmpty:=by cases h <;> rfl
def mO.fits æ û ϋ è{Q:fO}ō8 (h:mO d S (Zd Ò Q)):∃ k,μ6 K v H k/\Q k H:=by
 cases d with
 | zB=>ext Lq;show#[Á,rfl,Tu]
 | bl k=>ext Lq;show#[k,rfl,Tu]
 | int i=>ext Lq;show#[_,rfl,Tu]
 | str x=>ext Lq;show#[_,#[h.1,rfl],h.2 H tJ p]
 | err _ _ _=>show ë
 | tup ds=>
  ext ùZ;show#[_,Æ (È #[xs,r1,ÎS]),Tu]
 | vw ds=>
  ext ùZ;show#[_,È #[xs,r1.sq,ÎS],Tu]
 | ref a=>
  subst r;unfold mO at h;ext Ω8;ext č
  .rename_i ds e;ext ăN;show#[_,È #[xs,Lf e1,ÎS],Tu]
  .rename_i tp e;ext ăN;show#[_,Æ (Æ #[xs,e1,by rw[zdu r2]]),Tu]
  .show ë
def é2 OC (he:âq):zG X a (Ŧ0 ta):=by
 exact#[fun L S Q Q' hq h=>ĝ òA,PQ (ă4 ha.pe he) Ų];ext Œ6;show mO.fits q1 p1 (mO.mo (λ k S' z=>z.ext e1) h1)
def jt:yw:=λ _ S Q=>Q [] S
def lr Fw (tr:yw):yw:=fun L S Q=>te L S λ x S1=>tr Ĺ λ xs S2=>Q LX S2
variable {ė}{Ń}{ŝ}{υ}
def lr.mo (h:Ng) (h':Wd):mH (lr te tA):=fun L S _ _ hq z=>h ó (λ x S1 z=>h' ς (λ xs S2 z=>Me) z) z
def ŉ6:yC X [] jt:=#[ûa,PA.imp kG fun σ H Q z0=>by ext ĀE;show h [] H ä v_]
def ķ4 (ha:Vm) (hr:ØO) (hs:CH):yC X AR (lr te tA):=by
 exact#[lr.mo ĝ hr.mo,PA.imp (lZ ha.pe hr.pa hs) Ų];ext Œ6;exact O6 hr.mo LZ h1 λ xs S2 w H2 h2 q2 e2 p2=>?_;show h2 (v::w) H2 (ã Ðe) iW
def Ŋ9 AV:zr:=fun L S Q=>t L S λ ds S1=>t4<=â/\Q (AA) S1
def Ĩ1 AV:zr:=fun L S Q=>t L S λ ds S1=>t4<=â/\∀ p,Ûc->Q ī (ups S1 p Dc)
def Ñ6 {k} (h:ØO):PD ÍQ (Ŋ9 tA):=by
 exact#[fun L S _ _ hq z=>h.mo ó (λ ds S1 z=>bM) z,Œ (đ3 h.pa) Ų];ext ãs;exact Iv À ?_ (ð2 Ι) (p1.new hp);ext EN;show#[p,xs,rfl,PM,FO Ι ds q1]
def û3 (h:ØO):PD X Ĉo (Ĩ1 tA):=by
 exact#[fun L S _ _ hq z=>h.mo ó (λ ds S1 z=>#[z.1,λ p hp=>hq À (z.2 ģ)]) z,Œ (ñ6 h.pa) Ų];ext ãs;exact Iv p (p1.none hp) Ó2 (ð2 Ι) ?_;show p1.ups Ι #[xs,yy,FO Ι ds q1]
def nc:wx:=λ x y S Q=>match x,y with
 | AA,Ą=>match yd ds i with
  | some d=>Jq
  | none=>ê
 | qp,Ą=>match yd ds i with
  | some d=>Jq
  | none=>ê
 | Ŗ,Ą=>match S p with
  | Uv=>match yd ds i with
   | some d=>Jq
   | none=>ê
  | _=>ê
 | pF,Ą=>ĉ2/\match yd Ź9 with
  | some c=>Q (Nl) S
  | none=>ê
 | _,_=>ê
def nc.mo:v9 nc:=λ x y S Q Q' hq h=>by
 cases y with
 | int i=>
  revert h
  unfold nc;cases x with
  | tup ds=>
   ext Þ;cases vT with
   | none=>show id
   | some d=>show hq d S
  | vw ds=>
   ext Þ;cases vT with
   | none=>show id
   | some d=>show hq d S
  | ref p=>
   ext Þ;cases S p with
   | none=>show id
   | some o=>
    cases o with
    | lst ds=>
     ext Þ;cases vT with
     | none=>show id
     | some d=>show hq d S
    | _=>show id
  | str z=>
   ext Þ;exact And.imp_right ?_;cases Ĭ Ź9 with
   | none=>show id
   | some d=>show hq _ S
  | _=>show id
 | _=>cases x <;> show ë
theorem zu.yd æ ñ Ę Gq û(h:GW) (e:Ýr):∃ x,Ĭ xs i=↑x/\Cy:=by
 unfold Ĭ at e ⊢;rw[Ýq] at e;cases q:pH ò i with
 | none=>ext Tv
 | some j=>
  rw[q] at e;show h.get e
def nc.fits:vb K nc (İ9 K):=λ x y d e H S Q h1 h2 h3 h=>by
 cases e with
 | int i=>
  revert h
  unfold nc;cases d with
  | tup ds=>
   ext Þ;cases q:vT with
   | none=>show rQ
   | some c=>
    intro h;ext ϑ0;ext ÌJ;show Æ (È #[a,xs,_,x',rfl,h2,r1,e1,Ïv])
  | vw ds=>
   ext Þ;cases q:vT with
   | none=>show rQ
   | some c=>
    intro h;ext ϑ0;ext ÌJ;show È #[a,xs,_,x',rfl,h2,r1.sq,e1,Ïv]
  | ref p=>
   subst h1;ext Þ;cases q0:S p with
   | none=>show rQ
   | some o=>
    cases o with
    | lst ds=>
     ext Þ;cases q:vT with
     | none=>show rQ
     | some c=>
      intro h;let#[xs,r1,r2]:=h3 À q0;ext ÌJ;show È #[_,xs,_,x',rfl,h2,Lf r1,e1,Ïv]
    | _=>show rQ
  | str z=>
   ext Þ;intro#[h0,h]
   revert h
   cases q:Ĭ Ź9 with
   | none=>show rQ
   | some c=>show λ h=>Æ (Æ #[_,_,_,h1,h2,h0,q,VB])
  | _=>show rQ
 | _=>cases d <;> show ë
def Ê9 Š (hs:Ĵ1 b):PD X (sP Ñ pos) (x9 nc Ġ):=
 #[x9.mo nc.mo è3,Œ (ď8 zag HX hs) λ _ _ _ h=>Ŕ0 nc.fits nc.mo è3 h]
abbrev wG:=Az->Ϫ3
def oS (f:wG):Prop:=∀ ds S ÄH,(LS)->f Dm->f ds S Q'
def nV Ï (f:wG) (r:AN):Prop:=∀ xs ds H S Q,GW->Ϝ->f ds Β3->ÜW
def o7 (f:wG) AV:zr:=fun L S Q=>t L S λ ds S1=>f ds S1 Q
def o7.mo Ģ4 U1 (h:Wd):y7 Ûd:=fun L S _ _ hq z=>h ó (λ ds S1 z=>hf Mt hq z) z
def ŗ8 Ģ4{r:AN}U1 (hr:nV K f r) (h:Wd) Υ æ Ud(hu:zU K Ûd ź):Ο0 r ÔL:=by
 ext üe;exact O6 h tX h' ÆQ;show hr ĀG (hf òB)
def ji Ģ4{r:AN}ė(h:PE X e (Ο0 r Ϯ7)) U1 (hr:nV X.K f r) (ha:Wd):PD X e Ûd:=
 #[o7.mo hf ha,Œ h λ _ _ _ hu=>ŗ8 hf hr ha hu]
def yG ø3 Å9:õ (Az):=match d with
 | AA=>↑ds
 | qp=>↑ds
 | Ŗ=>match S p with
  | Uv=>↑ds
  | _=>none
 | _=>none
def yx þ{z:α}{p:Prop}(h:none=↑z):p:=nomatch h
def ÿ0 BE è ñ(e:Ĉw):WM:=by
 unfold yG at e;dsimp only at e;cases h:S p with
 | none=>ext ÂO
 | some o=>
  rw[h] at e;cases o with
  | lst es=>show Ó (λ z=>↑(O.lst z)) (Vn)
  | _=>show ť
def ŷ3 û è ñ ig:d=AA\/d=qp\/∃ p,d=Ŗ/\WM:=by
 cases d with
 | tup es=>show ąk
 | vw es=>show Æ (ąk)
 | ref p=>show Æ (Æ #[p,rfl,ÿ0 e])
 | _=>show ť
theorem yG.sq æ è û ϋ ñ ō8 ig:∃ a xs,qe/\(sV\/rW)/\GW:=by
 ext ëQ
 .ext ϒ0;show#[a,xs,h1,Æ h2,h3]
 .ext ϒ0;show#[a,xs,h1,È h2.sq,h3]
 .ext öa;show#[_,xs,rfl,È (Lf h1),h2]
def zu.one æ û Ę(h:zu Ò [d] xs):∃ x,xs=[x]/\Cy:=by
 let#[x,r,rfl,h2,rfl]:=h;show ąi
def zu.two æ{d d':D}Ę(h:zu Ò [d,d'] xs):∃ x y,xs=sF/\Cy/\zA Ò d' y:=by
 let#[x,r,rfl,h2,y,r',rfl,h3,rfl]:=h;show#[x,y,rfl,h2,h3]
def kl:wG:=λ ds S Q=>match ds with
 | [d]=>match YT with
  | Ãu=>Q (Â t4) S
  | none=>match d with
   | pF=>ĉ2/\Q Ýs S
   | _=>ê
 | _=>ê
def kl.mo:oS kl:=λ ds S Q Q' hq h=>by
 unfold kl at h ⊢;ext č
 .skip
  ext č
  .show Å5
  .ext č
   .show Uy
   .show ë
 .show ë
abbrev Ý4 Ï:AN:=λ xs H Q=>(∃ p ys,Yb/\ϑ7/\Q (Â Dg) H)\/(ër)
def kl.fits:nV K kl (Ý4 K):=λ xs ds H S Q h0 h2 h=>by
 unfold kl at h;ext č
 .ext Hn;ext č
  .ext év;exact È #[a,ys,rfl,q,?_];rw[<- ϗ];show Vh
  .ext č
   .subst h1;show Æ #[_,rfl,h.1,h.2 RX h2]
   .show ë
 .show ë
def kj:wG:=λ ds S Q=>match ds with
 | [d]=>match YT with
  | Ãu=>ûc
  | none=>ê
 | _=>ê
def kj.mo:oS kj:=λ ds S Q Q' hq h=>by
 unfold kj at h ⊢;ext č
 .skip
  ext č
  .show λ p hp=>hq À (cz)
  .show ë
 .show ë
def kj.fits:nV K kj (λ xs H Q=>∃ p ys,Yb/\ϑ7/\ës):=λ xs ds H S Q h0 h2 h=>by
 unfold kj at h;ext č
 .ext Hn;ext č
  .ext év;exact#[a,ys,rfl,q,λ l hl=>?_];show h l (bI hl) Ó2 Md (h2.ups Md #[ys,yy,FO Md _ r])
  .show ë
 .show ë
def kg:wG:=λ ds S Q=>match ds with
 | [AA]=>Àc
 | [qp]=>Àc
 | Mr=>match S p with
  | Uv=>Àc
  | _=>ê
 | _=>ê
def kg.mo:oS kg:=λ ds S Q Q' hq h=>by
 unfold kg at h ⊢;ext č
 .show Å5
 .show Å5
 .skip
  ext č
  .show Å5
  .show ë
 .show ë
def kg.fits:nV K kg (λ xs H Q=>∃ p ys,Yb/\((yB ÄX/\ët)\/(y6 ÄX/\Q ī H))):=λ xs ds H S Q h0 h2 h=>by
 unfold kg at h;ext č
 .ext Hn;have h1':=h1;ext ϑ0;show#[a,xs,rfl,Æ #[r1,h _ H h1' tJ h2]]
 .ext Hn;ext ϑ0;exact#[a,xs,rfl,È #[r1.sq,ìS]];ext EN;show èk
 .ext Hn;ext č
  .rename_i e;subst h1;let#[xs,r1,r2]:=h2 À e;exact#[_,xs,rfl,È #[Lf r1,ìS]];ext EN;show èk
  .show ë
 .show ë
def lN (g:DZ):wG:=λ ds S Q=>match ds with
 | Df=>Q qk S
 | _=>ê
def lN.mo {g:DZ}:oS (lN g):=λ ds S Q Q' hq h=>by
 unfold lN at h ⊢;ext č
 .show Å5
 .show ë
def lN.fits Æi:nV K (lN g) (λ xs H Q=>∃ i j,xs=Df/\Q Ýt H):=λ xs ds H S Q h0 h2 h=>by
 unfold lN at h;ext č
 .let#[x,y,hx,h1,h3]:=h0.two;subst hx;subst h1 h3;show#[_,_,rfl,h ÔK tJ h2]
 .show ë
def kr ÂL:zr:=fun L S Q=>to L S λ x S1=>match x with
 | Ŗ=>ÌT/\te Ĺ λ y S2=>match S2 p with
  | Uv=>t4<â/\Q .zB (ups S2 p (Å (ds++[y])))
  | _=>ê
 | _=>ê
def kr.mo Θ4 Mc:y7 Tq:=fun L S Q Q' hq z=>h ó (λ x S1 z=>by
 cases x with
 | ref p=>
  exact#[z.1,h' ς (λ y S2 w=>?_) z.2];split at w
  .show#[w.1,hq À w.2]
  .show w.elim
 | _=>show z) z
def š8 Θ4 Mc AQ ô E7 (hu:zU K Tq ź):gZ K "list" Ś6 (zU K to) (ű1 (zU K te) gY) ź:=by
 ext ŀ;exact Ģ h VY;cases x with
 | ref p=>
  ext ÆA;exact Ģ h' V9;split at h2
  .rename_i ds' e3;let#[xs',g3,g4]:=p2 À e3;exact#[p,xs',w,rfl,rfl,g3,by rw[<- Tj];show h2.1,?_];have e4:Ext H2 (upd H2 p (Å (xs'++[w]))):=Å g3 _;show h2.2 Ó2 (ū3 e4) (p2.ups e4 #[_,yy,FO e4 _ (g4.snoc q2)])
  .show h2.elim
 | _=>show qL
def č3 {o e:Expr}Θ4{e0:Expr}(hpe:PE X e0 (gZ X.K "list" Ś6 îA)) Mc:PD X e0 Tq:=#[kr.mo rX,Œ hpe (š8 rX)]
end
structure jG where
 nx:AP
 rt:DK
 bk:AP:=uW
 ct:AP:=uW
abbrev yK:=jG->AP
structure jG.Le (E E':jG):Prop where
 nx:∀ L S,ÁB->E'.nx L S
 rt:∀ d S,E.rt d S->E'.rt d S
 bk:∀ L S,E.bk L S->E'.bk L S
 ct:∀ L S,E.ct L S->E'.ct L S
def lS ö2:Prop:=∀ E E' L S,jG.Le E E'->Ãv->t E' L S
def mF Ï ô Rw:jG:=#[oJ Ò D.nx,o6 Ò D.rt,oJ Ò D.bk,oJ Ò D.ct]
theorem mF.ext Ý BP Χ6 uq:(mF Ò D).Le (mF ό D):=#[Pj,λ _ _ h=>Oc e h,Pj,Pj]
def Û6 Ï ö2:TS:=λ D σ H=>∃ L S,G4/\Ϝ/\t (mF Ò D) L S
structure zw î U9 ö2:Prop where
 mo:lS t
 ps:PS ÔM
structure xA î (st:Å3) ö2:Prop where
 mo:lS t
 ps:oP ÔM
section
variable {Ì}{Ý}{ϝ}{Qc}{Ω6}{Ē}{ė}{ŝ}
def Ŝ0:yK:=λ E L S=>ÁB
def kT (t u:yK):yK:=λ E L S=>t { E with nx:=u E } L S
def kT.mo (h:lS t) (h':lS u):lS ÁC:=λ E E' L S hE z=>h { E with nx:=u E } { E' with nx:=u E' } L S #[fun L S q=>h' E E' L S hE q,QA,hE.bk,hE.ct] z
def ò8:xA X [] Ŝ0:=#[òZ,oP.imp ó2 λ D σ H z0=>by let#[L,S,r1,r2,h]:=z0;show h ç r1 v_]
def Ŭ9 Úf:xA X [st] t:=#[h.mo,ζ8 h.ps]
def vk Úf (h':xA X rest u):xA X Øv ÁC:=by
 exact#[Ĉx,oP.imp (ã1 Üp) Hc];ext ŀ;exact#[L,S,r1,r2,h.mo { Ϭ5 with nx:=u (Ϭ5) } _ L S #[fun L' S' q σ' H' q1 q2 q3=>?_,ϕ,ϕ,ϕ] z];show#[L',S',q1,q3,Af À OQ (mF.ext q2) q]
def cy Fw:yK:=λ E L S=>te L S λ _ S1=>E.nx Ĺ
def ē1 rZ (hs:ÎK):zw X (Ϯ0) (cy te):=by
 exact#[λ E E' L S hE z=>El öp,GK (ð0 π3) Hc];ext ŀ;show Ģ El çn
def gr Fw:yK:=λ E L S=>te L S E.rt
def Ř6 rZ:zw X Íx (gr te):=by
 exact#[æm,GK (ü5 sL) Hc];ext ŀ;show Ģ Θ5 λ x S1 v H1 h1 q1 e1 p1=>h1 v H1 q1 G8
def Ų3 (c:xI) (t u:yK):yK:=λ E L S=>c L S λ k S1=>if C1 then t E Ĺ else u E Ĺ
def į1 JY{p q:Å3}ğ2 ßu úa:zw X ĀH:=by
 exact#[ÅS,GK (č4 hc.pt Üp) Hc];ext ŀ;exact ÌU
 .show íE
 .show ìT
abbrev v7:=D->üw
abbrev nF:=Az->üw
def ŕ8 (t:v7):Prop:=ãd
def ě2 (t:nF):Prop:=ãd
def ų1 Ï (t:v7):TG:=λ v σ H Q=>∃ d L S,Vc/\ïJ
def Ő9 Ï (t:nF):i5:=λ v σ H Q=>∃ d L S,zu Ò d v/\ïJ
structure ly î RL (t:v7):Prop where
 mo:ŕ8 t
 pg:PG X e (ų1 ä3)
structure cL î Ļ4 (t:nF):Prop where
 mo:ě2 t
 pg:j7 X es (Ő9 ä3)
def PG.imp ė{t t':TG}(h:PG rC) (hi:îl):PG EJ:=äO
def j7.imp {e:Bl}{t t':i5}(h:j7 rC) (hi:îl):j7 EJ:=äO
def hName Ü:v7:=λ d L S Q=>Q (N5) S
def é8 ė ă(h:PG X e ζ0):ly X e GU:=
 #[ËL,PG.imp h λ v σ H Q z0=>by let#[d,L,S,r1,r2,r3,z]:=z0;show z _ H (r2.set i r1) tJ r3]
def Œ2:nF:=λ ds L S Q=>ds=[]/\Q L S
def Ĺ5 (t:v7) (u:nF):nF:=λ ds L S Q=>match ds with
 | d::r=>t d L S fun L' S'=>u r OQ Q
 | []=>ê
def t6:cL X [] Œ2:=by
 exact#[λ _ _ _ _ _ hq z=>bM,j7.imp Ç9 Îd];let#[d,L,S,r1,r2,r3,z1,z2]:=hu;subst z1;show#[r1,z2 ç r2 tJ r3]
def t7 ė Ń{t:v7}{u:nF}(h:ly rC) (h':cL X es u) (hs:åt):cL X AR (Ĺ5 t u):=by
 exact#[λ ds L S Q Q' hq z=>?_,j7.imp (Ü5 h.pg h'.pg hs) Îd]
 .cases ds with
  | nil=>show z
  | cons d r=>show h.mo d ó (fun L' S' z=>Af r OQ À hq z) z
 .let#[ds,L,S,r1,r2,r3,z]:=hu;cases ds with
  | nil=>show B7
  | cons d r=>
   let#[x,xs,rfl,q1,q2]:=r1;exact#[x,xs,rfl,d,L,S,q1,r2,r3,h.mo d ó (fun L' S' z σ' H' g1 g2 g3=>?_) z];show#[r,L',S',FO g2 r q2,g1,g3,Af r OQ À (fun L2 S2 z2=>ag g2 z2) z]
def ő1 ą (t:nF):v7:=λ d L S Q=>match d with
 | AA=>t4=n/\t ds å8
 | _=>ê
def Û0 ė ď{t:nF}(h:PG X e (İ5 X.K n (Ő9 ä3))) (hm:ě2 t):ly X e ÁD:=by
 exact#[λ d L S Q Q' hq z=>?_,PG.imp h Îd]
 .cases d with
  | tup ds=>show#[z.1,hm ds ó hq z.2]
  | _=>show z
 .let#[d,L,S,r1,r2,r3,z]:=hu;cases d with
  | tup ds=>
   let#[a,xs,rfl,q1,q2]:=r1;show#[a,xs,rfl,q1,by rw[<- q2.length];show z.1,ds,L,S,q2,r2,r3,z.2]
  | _=>show B7
def nh Fw (g:v7):yK:=λ E L S=>te L S λ x S1=>g x Ĺ E.nx
def nh.mo {g:v7}(h:Ng) (h':ŕ8 g):lS (nh te g):=λ E E' L S hE z=>h ó (λ x S1 q=>h' x ς (fun L S q=>sH À q) q) z
def À6 {e0:Stmt}ă(h:PS X e0 (ι0 (Ûe) ζ0)) (hm:Ng):zw X e0 Ϯ8:=by
 exact#[nh.mo hm ËL,GK h Hc];ext ŀ;exact Ģ hm VY;show h1 óE
end
structure ZO where
 ε:Az
 keep:ql
abbrev ou:=yS->SS->(ZO->ql)->Prop
def ũ9 (t:ou):Prop:=∀ L S (Q Q':ZO->ql),(∀ I S',Q I S'->Q' I S')->æT
def ZA Ï (H1:Hp) (J:It) (I:ZO):Prop:=∀ Ü ô Å9,Ext H1 H->Ϝ->Ýu->
 (∀ d,Ϟ7->Te/\∀ x H',UB->Ew/\Ýo/\zA ό d x)/\(BQ<=i->ϳ5)
def dnI Ï ô (R:ζ2):ZO->ql:=λ I S1=>∀ J H1,Ým->ye K H1 S1->ZA K H1 J I->R J H1
def nX Ï (t:ou):TI:=fun σ H R=>∃ L S,G4/\Ϝ/\t L S (dnI Ò R)
structure yc î (tg iter:Expr) (t:ou):Prop where
 mo:ũ9 t
 pi:PI Ld iter (nX ä3)
def JB Ì ßq{t t':TI}(h:PI ł8 t) Ug:PI ł8 t':=ϋ3
section
variable {Ì}{Ý}{ßq}{Ē}
theorem zu.at æ ñ Ę ă û AW(r:GW) (h1:ſ0) (h2:ll):Cy:=by
 let#[y,e1,e2]:=r.get h1;rw[h2] at e1;cases e1;show e2
def mX ŝ2 ą:Az:=eU λ CU=>J9 (lo+ü)
def ċ6 {lo:Int}{n i:Nat}û(h:(VC)[i]?=↑d):i<n/\d=Â (lo+AF):=by
 unfold mX at h;rw[Fa] at h;cases q:(AX)[i]? with
 | none=>ext Qm
 | some j=>
  rw[q] at h;let#[h1,h2]:=χ q;rw[zC5] at h1;rw[zhV] at h2;subst h2;cases h;show#[h1,rfl]
def Ä6 ŝ2 ą:(VC).length=n:=by unfold mX;rw[AS,zC5]
def ZA.range {H1:Hp}{lo:Int}ď:ZA K H1 (Z9 lo n) #[VC,Y_]:=λ i H S _ x2 _=>by
 exact#[Γ7,λ hl=>by rw[show (ZO.mk (VC) Y_).items=VC from rfl,Ä6] at hl;show hl];let#[h1,rfl]:=ċ6 hd;exact#[h1,Ϫ5];let#[rfl,rfl]:=q;show#[Qy,x2,Ûf]
def Ž4 AV:ou:=fun L S R=>t L S λ ds S1=>match ds with
 | Nt=>(Êj)/\R #[mX 0 HN,Y_] S1
 | _=>ê
def ŭ4 AV:ou:=fun L S R=>t L S λ ds S1=>match ds with
 | Df=>ñO/\R #[mX ÔE,Y_] S1
 | _=>ê
variable {υ}
def Ú8 (h:PI ł8 (ğ3 Ϯ7)) (hm:Wd):yc ł8 (Ž4 tA):=by
 exact âR
 .split at z
  .show bM
  .show B7
 .ext Ìb;split at h1
  .let#[x,rfl,q]:=q1.one;subst q;show#[_,rfl,h1.1.1,h1.1.2,ÿr]
  .show qL
def Ø8 (h:PI ł8 (Ļ6 Ϯ7)) (hm:Wd):yc ł8 (ŭ4 tA):=by
 exact âR
 .split at z
  .show bM
  .show B7
 .ext Ìb;split at h1
  .let#[x,y,rfl,q,q']:=q1.two;subst q q';show#[_,_,rfl,pV,ÿr]
  .show qL
def Zl ÖK (tb:yK):yK:=λ E L S=>ti L S λ I S1=>∃ W:Ýv,W 0 Ĺ/\(∀ i L S,W i L S->Ýu)/\
 (∀ i d L S,Ϟ7->W i L S->g d L S fun L2 S2=>tb { E with nx:=bJ,ct:=bJ,bk:=E.nx } JE)/\∀ L S,W BQ L S->ÁB
def Zl.mo WA Uh Îx (hb:lS tb):lS (Zl ti g tb):=λ E E' L S hE z=>hi ó (λ I S1 #[W,w0,wk,ws,wd]=>by
 exact#[W,w0,wk,λ i d L S hd hw=>hg d ó (fun L2 S2 z=>hb { E with nx:=bJ,ct:=bJ,bk:=E.nx } { E' with nx:=bJ,ct:=bJ,bk:=E'.nx } JE ðP z) (ws i d L S hd hw),fun L S q=>sH À (wd L S q)]) z
def Õ1 {iter:Expr}xi WA Uh ϒ8 ĺ Uu (hg:ly Ld g) (hb:xA Ák)
  Mo:zw X óY (Zl ti g tb):=by
 exact#[Zl.mo Ð1 hg.mo đ0,GK (Ė0 hp hc hi.pi hg.pg hb.ps hs) Hc];ext ŀ;exact#[L,S,r1,r2,Ð1 ó (λ I S1 hW J H1 e1 p1 rep=>?_) z];let#[W,w0,wk,ws,wd]:=hW;exact#[λ i m σ H2=>m=BQ-i/\i<=BQ/\Àa/\∃ L S,xJ X.K H2 L σ/\ye X.K H2 S/\W i L S,#[_,rfl,GO,Qy,L,S1,DA,p1,w0],?_];rintro i m σ2 H2 ⟨rfl,hi',x2,L2,S2,q1,q2,w2⟩;let#[g1,g2]:=rep i H2 S2 x2 q2 (wk i JE w2);by_cases hl:i<BQ
 .ext Éq
  ext Ðq;exact Æ #[go,fun σ' H'=>Ext H1 H'/\∃ L S,Ïx/\Õy/\W Ζ L S,fun σ' H' q=>#[_,ÁE,rfl,hl,q],Òj];ext Ël;exact#[_,L2,S2,d3,η5 x3,p3,hg.mo _ L2 ÇQ (ws i _ JE hd w2)];exact#[L4,S4,a1,a3,đ0 À L4 S4 #[ãE,λ _ _ q=>Oc (ÉD) q,λ _ _ q=>ag (ÉD) q,ãE] z4]
 .have e:i=BQ:=⋯;subst e;show È #[g2 Ķ,wd JE w2 σ2 H2 q1 (ð2 x2) q2]
abbrev wt:=Az->Ϫ3
def ν4 ë5:Prop:=∀ ds S ÄH,(LS)->sp Dm->sp ds S Q'
def nW Ï ë5:Sp:=λ vs H Q _=>∃ ds S,Õz/\Ϝ/\sp ds Β3
def Ų6 ë5 AV:zr:=fun L S Q=>t L S λ ds S1=>sp ds S1 Q
def Ō5 ā2{E:XK}(hs:Hw) (hm:Wd) AQ ô E7 (hu:zU K ØP ź):Ŝ8 (nW K sp) [] E ÔL:=by
 ext Ìb;rw[IR];show#[ds,S1,q1,p1,hs Mt (λ d S' q=>Oc e1 q) h1]
def Ù9 ā2{E:XK}ė(h:PE X e (Ŝ8 (nW X.K sp) [] E Ϯ7)) (hs:Hw) (hm:Wd):PD X e ØP:=
 #[fun L S Q Q' hq z=>hm ó (λ ds S1 z=>hs Mt hq z) z,Œ h (Ō5 hs hm)]
def oA NY ĸ6:yS:=ds.map some++ĵ (S8-t4) none
theorem xJ.init æ OX ñ{vs:À0}(r:Õz):xJ Ò (ś4) VV:=by
 ext Nn;exact#[by unfold oA L2.start;simp[hl],λ i d h=>?_];unfold oA at h;have hi:i<t4:=by
  rcases LT i t4 with q | q
  .show q
  ext ío
 rw[Ãn,Fa] at h;cases q:ds[i]? with
 | none=>ext Qm
 | some d'=>
  ext Qm;let#[x,e1,e2]:=r.get q;exact#[x,?_,e2];unfold L2.start;rw[zg0 (by exists by show LM hi hl),Fa,e1];rfl
def ŷ7 Ė Ý Ih Β2 ϝ Iq Jp ý âH
  (Ŕ:∀ Ð5,bW->
   ∃ t,ØQ/\ôf):wA Dt ŕ ϩ7:=by
 exact F.ok Sc (λ vs H Q E h=>?_) ìU
 .let#[ds,S,r1,_,z]:=h;rw[<- ϻ6];show len Ð z
 .let#[ds,S,r1,r2,z]:=h;let#[t,ht,hq]:=Ŕ Áe hr;exact#[_,ht.ps,ś4,S,.init r1,r2,ht.mo { nx:=λ _ S'=>o6 Ò Q .zB S',rt:=o6 Ò Q } Ð #[fun L S' q σ' H' _ b c=>q .zB H' rfl b c,ϕ,Ĉy,Ĉy] (hq ds S _ z)]
def nA Ö2 (L:yS):yS:=Ýh λ o=>o.bind λ i=>(L[i]?).join
theorem xJ.pick æ xr Υ(r:G4) Ö2:xJ Ò Gu Wx:=by
 exact#[by unfold nA mZ;simp,λ i d h=>?_];unfold nA at h;rw[Fa] at h;cases q:N_ with
 | none=>ext Qm
 | some o=>
  rw[q] at h;cases o with
  | none=>simp at h
  | some j=>
   ext ăO;have hj:Ut=↑↑d:=by
    cases q2:Ut with
    | none=>rw[q2] at h;cases h
    | some o2=>ext ëG
   let#[v,e1,e2]:=r.2 j d hj;exact#[v,?_,e2];unfold mZ;rw[Fa,q];simp[e1]
def gD (L L':yS):Prop:=Áz=L'.length/\∀ Ü d,Òi->L'[i]?=↑↑d
def gD.rep æ{L L':yS}Υ(h:gD L L') (r:xJ Ò L' σ):G4:=#[h.1.trans r.1,λ i d q=>r.2 i d (h.2 i d q)]
structure cM î (ifs:Bl) đ5:Prop where
 mo:nU t
 pf:PF X ifs (o9 ä3)
def PF.imp {ifs:Bl}{t t':TT}(h:PF X ifs t) Ug:PF X ifs t':=ϋ3
def ĥ9:xI:=λ _ S Q=>Q true S
def tD:cM X [] ĥ9:=#[λ _ _ _ _ hq z=>Me,PF.imp ñ5 λ _ H _ z0=>by let#[_,_,_,r2,z]:=z0;show z H v_]
def t9 JY{t:xI}(h:zG X c t):cM X [c] t:=#[h.mo,Ù6 h.pt]
end
end L3
namespace L2
open Ë å Ô
def zaI Ï (tl:TE):TI:=fun σ H R=>tl ç λ x H1=>∃ a,LJ/\(((∃ xs,yB K H1 Ô7)/\R (Ĺ1 K a) H1)\/((∃ xs,y6 K H1 Ô7)/\R (Ť9 K a) H1))
def Å8 Ì{tg l:Expr}ăP:PI Ld l (zaI X.K tl):=by
 ext Ąs;let#[x,H1,I1,r1,a,hx,q1]:=z0;subst hx;cases r1;have new:∀ b∈[AL],mI Fy H1 b:=λ b hb=>by
  obtain rfl:b=AL:=HW hb;show Îb
 rcases q1 with ⟨⟨xs,hq⟩,q⟩ | ⟨⟨xs,hq⟩,q⟩
 .let#[its,_,pl,_]:=I1.list hq;show ϛ9 G1 #[_,_,_,_,H1,rfl,èy,á8 a _,Zb,new,q]
 .let#[its,_,pt,_]:=I1.tuple hq;show ÍB (show s1.heap.IsTuple a Ũ from pt) #[_,_,_,_,H1,rfl,èy,ĉ3 a _,Zb,new,q]
def range_all (bs:tM):(ċ MP).all (Ýw)=Ϧ6:=by
 rw[OF,zE4,zE4];ext Ő
 .intro h b hb;let#[i,hi,rfl]:=OS hb;have:=h i (BS hi);simpa [hi] using this
 .intro h i hi;have hi':=Ho hi;have:=h bs[i] (TD hi');simpa [hi'] using this
theorem zc5 {bs:tM}TC(r:Vals ØR its) ă CN(h:Ũ[i]?=↑v):v=FK (ëW):=by
 ext Nn;rw[AS] at hl;have h':IX:=sX
 have hi:i<MP:=by
  rw[hl];rcases LT i Ü3 with q | q
  .show q
  .rw[zhB q] at h';cases h'
 let#[u,e1,e2]:=r.get (i:=i) (x:=.bl bs[i]) (ż4);rw[h'] at e1;cases e1;have:v=FK bs[i]:=e2;ext Hz;simp[hi]
section
variable {Ì}
theorem zcR ĺ:wI X (ϐ "all") (λ xs H Q=>∃ p,∃ bs:tM,Yb/\yB ŏ p ØR/\Q (.bl (Ϧ6)) H):=by
 ext Hh;let#[p,bs,rfl,hq,q]:=h;ext ñA;have hlt:p<Õ:=by let#[o,n,e,_]:=pl;show B9
 exact call_all_walk (ϛ9 G1 ?_);exact#[Õ,_,_,_,_,_,Ýw,rfl,Walks.list (A:=Ãw) ö6 Õ p (FS hlt) Ũ,#[Zb,pl.isList.push _],λ i v s' Q' E' hv hq'=>?_,λ h' tk hk=>?_]
 .rw[zc5 rv hv];show P9 hq'
 .have e:(ċ G2).all (Ýw)=Ϧ6:=by rw[GT,<- hl,range_all]
  rw[e];show#[Fj,H,cG (t':=tk) λ b o eo=>hk b o (by exists FS (IO eo)) (Gc _ eo),rfl,q]
end
end L2
namespace L3
open Ë å L2
open Ô hiding St
structure Bt â6:Prop where
 len:mg "len"=none
 range:mg "range"=none
 any:mg "any"=none
 all:mg "all"=none
 sorted:mg "sorted"=none
 isinstance:mg "isinstance"=none
 bool:mg "bool"=none
 int:mg "int"=none
 str:mg "str"=none
 list:mg "list"=none
 tuple:mg "tuple"=none
 max:mg "max"=none
 min:mg "min"=none
section
variable {Ì}{a e:Expr}{Ń}{ŝ}{NR}
def ą9 {N':Û}â2{ų esc:IH}OX(hE:NZ=esc:=by rfl) (hN:X.N=N:=by rfl) (h1:Ĉt:=by rfl)
  (h2:ąl (λ y=>Í (Ão=↑y.2))=true:=by ext CQ)
  (h4:ąl (λ y=>! Í (Ãq)||(Í (ùn=↑ Ì1)||Í (ùn=↑ Cp)))=true:=by ext CQ)
  (h5:öS:=by rfl) (h6:Čq:=by ext CQ):ÅR:=by
 exact#[h1,λ y hy=>HS (G6 h2 y hy),λ y hy hf=>?_,h5,by rw[hN];show h6];have:=G6 h4 y hy;rw[DO hf] at this;rw[hE];ext Ln
def t8 Ü ā ū2 (hf:ÊY):ly Ff GU:=
 é8 (Ę6 Ś5 hf)
def ò7 ý{t:nF}ď(h:cL X es t) ĺ (hn:Ĉh) (hst:øO):ly ÍQ ÁD:=
 Û0 (Ñ1 hc h.pg hn hst) h.mo
def ö3 Ü ā{pos':Pos}Aa rZ ĀI (hs:îX)
  (hf:ÊY):zw X óW Ϯ8:=
 À6 (ş8 Ś5 π3 hf) El
def Γ1 Fw:ou:=fun L S R=>te L S λ x S1=>match x with
 | AA=>Ăi
 | qp=>Ăi
 | Ŗ=>match S1 p with
  | Uv=>R #[ds,λ S=>WM] S1
  | _=>ê
 | _=>ê
def ă7 þ4(h:Vm):yc ł8 (Γ1 te):=by
 exact#[fun L S Q Q' hq z=>h.mo ó (λ x S1 z=>?_) z,?_]
 .cases x with
  | ref p=>
   dsimp only at z ⊢;split at z
   .show Me
   .show B7
  | vw ds=>show Me
  | tup ds=>show Me
  | _=>show z
 .exact JB (Å8 h.pe) Y9
  ext ŀ;exact Ģ h.mo VY;cases x with
  | tup ds=>
   ext øB;exact#[a,rfl,Æ #[ØS,h1 _ sT λ i H2 S2 x1 x2 _=>#[Γ7,λ hl=>#[xs,Ýx,Ąx]]]];ext ăQ;exact#[#[xs,y,Ýx,hy],Ϫ5];ext ÜD;show#[Qy,x2,ÿs hd (q xs (Ýx))]
  | ref p=>
   dsimp only at h1;split at h1
   .rename_i ds e2;subst q1;let#[xs0,g1,_]:=p1 À e2;exact#[p,rfl,È #[#[xs0,Lf g1],h1 ÉR]];let#[xs,g3,g4]:=x2 À hk;exact#[Γ7,λ hl=>#[xs,Lf g3,by rw[<- Tj];show hl]];let#[y,hy,_]:=g4.get hd;exact#[#[xs,y,Lf g3,hy],Ϫ5];ext ÜD;show#[Qy,x2,g4.at hd (q xs (Lf g3))]
   .show qL
  | vw ds=>
   ext øB;exact#[a,rfl,È #[#[xs,g1.sq],h1 _ sT λ i H2 S2 x1 x2 _=>#[Γ7,λ hl=>#[xs,Òk,Ąx]]]];ext ăQ;exact#[#[xs,y,Òk,hy],Ϫ5];ext ÜD;show#[Qy,x2,ÿs hd (q xs Òk)]
  | _=>show qL
end
end L3
namespace L4
open Ë Ρ2 Ô
def we þ ą (lt:Bj):Ãx->(Án)->Prop
 | Μ a,Q=>Q a
 | .ask i j k,Q=>i<n/\j<n/\we Bh (k (lt i j)) Q
theorem GA þ ď{lt:Bj}{Q Q':Án}(hq:∀ a,Q a->Q' a):∀ {t:Ãx},we Bh t Q->we Bh t Q'
 | Μ _,h=>hq _ h
 | .ask Ð,h=>#[h.1,qG,GA hq Dk]
theorem Nd Gi ď{lt:Bj}{f:α->KasT β}{Q:β->Prop}:∀ {t:Ãx},we Bh t (λ a=>we Bh (f a) Q)->we Bh (t.bind f) Q
 | Μ _,h=>h
 | .ask Ð,h=>#[h.1,qG,Nd Dk]
section
variable {ď}{lt:Bj}
def Le (lt:Bj) (a b:Nat):Prop:=lt b a=Á
structure Ord (lt:Bj):Prop where
 tr:∀ a b c,Le lt Ñ->Le lt b c->Le lt a c
 as:∀ a b,lt Ñ=true->Le lt Ñ
def Ord.refl ĳ7 (a:Nat):Le lt a a:=by
 cases h:lt a a with
 | Á=>show h
 | true=>show o.as a a h
def ud ą (p:Ö7):Prop:=p.Perm ÐK
theorem ud.size JC(h:Yt):p.size=n:=by rw[Array.Perm.size_eq h];simp
def ud.below JC(h:Yt) ă(hi:i<n):qm<n:=by
 have hs:=h.size;have hm:qm ∈p:=by
  rw[zhC,ON (uT hi hs)];show Array.getElem_mem (uT hi hs)
 have:qm ∈ ÐK:=(Array.Perm.mem_iff h).mp hm;ext Ln
def Ŷ6 {p q:Ö7}q8(h:p[i]?=q[j]?):qm=q.getD j 0:=by rw[zhC,zhC,h]
def lu Óe Đ:Prop:=∀ i j,i<=j->j<k->Le lt (qm) (MQ j 0)
def jH Óe Đ:Prop:=∀ i j,i<=j->j<k->Le lt (MQ j 0) (qm)
def lu.next Ī2 ý(h:Ûg) (hk:1<=k) (hl:Le lt Čw uX):lu lt p ŕ:=λ i j hij hj=>by
 by_cases hjk:j<k
 .show Čx
 .ext òL
  .subst hi;show Ej
  .show o.tr Ð íF hl
def jH.next Ī2 ý(h:jH lt p k) (hk:1<=k) (hl:Le lt uX Čw):jH lt p ŕ:=λ i j hij hj=>by
 by_cases hjk:j<k
 .show Čx
 .ext òL
  .subst hi;show Ej
  .show o.tr Ð hl íF
theorem ŕ2 Ī2 Ou:∀ (f a:Nat),1<=a->a+f<=n->lu lt p a->
  we Bh (kas_asc p f a) λ m=>a<=m/\m<=a+f/\lu lt p m/\(m=a+f\/ßz)
 | 0,a,_,_,hs=>#[Ÿ,Ÿ,hs,C5]
 | f+1,a,h1,h2,hs=>by
  exact åF;cases c:lt (MQ a 0) (MQ (a-1) 0) with
  | true=>show#[Ÿ,QU,hs,Æ c]
  | Á=>
   exact GA ?_ (ŕ2 o hp f (a+1) Ϡ2 (hs.next o h1 c));rintro m ⟨g1,g2,g3,g4⟩;show#[⋯,LQ.İ1 g2,g3,g4.imp (λ e=>⋯) id]
def Ρ4 JC Ou AJ:ud n (Čy):=Ăj (mirror_perm ĉ) hp
theorem b9 JC Ou q8(hj:j<=n) Đ:ÊN=if i<=k/\k<j then MQ (i+j-1-k) 0 else MQ k 0:=by
 have e:=getElem?_mirror_all (xs:=p) (i:=i) (j:=j) (by rw[hp.size];show hj) k;split
 ext āG
 .ext G7;rw[Fv] at e;show Ŷ6 e
def rev_eq Ī2 Ou q8(hj:j<=n) (he:∀ a b,i<=a->a<j->i<=b->b<j->Êu) Đ:
  Le lt (ÊN) uX/\Le lt uX (ÊN):=by
 rw[b9 hp hj];split
 .ext G7;show#[he À òC h.1 h.2,he À h.1 h.2 òC]
 .show#[Ej,Ej]
def jH.of_eq ĳ7 {p q:Ö7}ý(h:jH lt p k) (e:∀ k,Le lt (q.getD k 0) uX/\Le lt uX (q.getD k 0)):jH lt q k:=λ i j hij hj=>
 o.tr Ð (e j).1 (o.tr Ð (h i j hij hj) (e i).2)
def Ů5 Óe (m q:Nat):Prop:=∀ a b,Ãy<=a->a<m->Ãy<=b->b<m->Êu
theorem ů2 ĳ7:∀ (f:Nat) (p:Ö7) (m q:Nat),Yt->1<=m->m+f<=n->Ûh->q+1<=m->Ů5 lt p m q->
  we Bh (kas_desc f p m q) λ r=>ud n r.1/\m<=QB/\QB<=m+f/\jH lt r.1 QB/\r.2.2+1<=QB/\Ů5 lt r.1 QB r.2.2
 | 0,p,m,q,hp,_,_,hd,hq,hb=>#[hp,Ÿ,Ÿ,hd,hq,hb]
 | f+1,p,m,q,hp,h1,h2,hd,hq,hb=>by
  have one:∀ p':Ö7,Ů5 lt p' p9 0:=λ p' a b a1 a2 b1 b2=>by
   ext óF;show Ej
  exact åF;cases c:âS with
  | true=>
   ext Þ;rw[ĭ];have hl:=o.as À c;by_cases h0:q>0
   .rw[Ç h0];have e:=rev_eq o hp (i:=Ãy) (j:=m) ⋯ hb;have hp':=Ρ4 hp (Ãy) m;exact GA ?_ (ů2 ßv 0 hp' Ϡ2 ((hd.of_eq o e).next o h1 (o.tr Ð (e m).1 (o.tr Ð hl (e Qq).2))) ⋯ (one _));ext ÈB
   .rw[É h0];exact GA ?_ (ů2 ßv 0 hp Ϡ2 (hd.next o h1 hl) ⋯ (one _));ext ÈB
  | Á=>
   ext ÂN;exact#[Ĉz,ĈA,?_];cases d:lt Òl Ûi with
   | true=>show#[hp,Ÿ,(by change m<=m+(f+1);show QU),hd,hq,hb]
   | Á=>
    ext ÂN;exact GA ?_ (ů2 ßv (q+1) hp Ϡ2 (hd.next o h1 d) ôR)
    .ext ÈB
    .by_cases ha:a=m
     .by_cases hb':b=m
      .subst ha;subst hb';show Ej
      .subst ha;show o.tr Ð d (hb (a-1) b LQ.Ĺ9 (LQ.ł7 b2 hb') ôS)
     .by_cases hb':b=m
      .subst hb';show o.tr Ð (hb a (b-1) öb LQ.Ĺ9 (LQ.ł7 a2 ha)) c
      .show hb Ñ öb ôS
theorem š5 Ī2 Iu Ou (h1:1<=m) (h2:m<=n) (hd:Ûh):we Bh (kas_tail3 m n p) Èb:=by
 exact Nd (GA ?_ (ŕ2 o (Ûj) (n-m) m h1 ⋯ Ϟ8))
 .rintro k ⟨a1,a2,a3,_⟩;show#[Ûj,LQ.Ì5 a2 h2,a3]
 .rw[b9 hp h2,b9 hp h2,Ç #[GO,⋯],Ç #[GO,hj]];show hd À (ÌN hij _) ⋯
theorem Ŋ2 Ī2 Iu Ou (h1:1<=m) (h2:m<n) (hd:Ûh) (hl:ßz):we Bh (kas_descPart m n p) Èb:=by
 exact Nd (GA ?_ (ů2 o (n-p9) p p9 0 hp LQ.Ļ1 ⋯ (hd.next o h1 (o.as À hl)) ôR))
 .rintro⟨p',m',q'⟩ ⟨a1,a2,a3,a4,a5,a6⟩;dsimp only at a1 a2 a3 a4 a5 a6 ⊢;by_cases h0:q'>0
  .rw[Ç h0];show š5 o (Ρ4 a1 À) ⋯ Òm (a4.of_eq o (rev_eq o a1 (i:=m'-(q' + 1)) (j:=m') Òm a6))
  .rw[É h0];show š5 o a1 ⋯ Òm a4
 .ext óF;show Ej
theorem zch Ī2 Ou (h1:1<=n):we Bh (kas_count n p) Èb:=by
 exact Nd (GA ?_ (ŕ2 o hp (n-1) 1 Ķ ⋯ Ϟ8))
 .rintro m ⟨a1,a2,a3,a4⟩;by_cases hm:m=n
  .rw[Ç ĈB];show#[hp,LQ.ş2 hm,a3]
  .rw[É ĈB];have hl:ßz:=a4.resolve_left ⋯;by_cases h2:m>1
   .rw[Ç h2];exact#[oX ⋯,oX ⋯,?_];cases c:lt (MQ 0 0) Òl with
    | true=>show#[hp,Ϯ9,a3]
    | Á=>
     ext ÂN;have all:∀ a b,0<=a->a<m->0<=b->b<m->Êu:=λ a b _ ha _ hb=>
      o.tr Ð (a3 a Qq (zgJ ha) ⋯) (o.tr Ð c (a3 0 b LQ.bX hb))
     have e:=rev_eq o hp (i:=0) (j:=m) (Ϯ9) all;exact Ŋ2 o (Ûj) Ib (λ i j hij hj=>o.tr Ð (e j).1 (o.tr Ð (all À Ù2 hj Ù2 ⋯) (e i).2)) ?_;rw[b9 hp (Ϯ9),b9 hp (Ϯ9),uv,Ç ⋯];cases q:lt Ûi (MQ (0+m-1-Qq) 0) with
     | true=>rfl
     | Á=>
      have:=o.tr Ð (all Qq (0+m-1-Qq) Ù2 ⋯ Ù2 ⋯) q;unfold Le at this;rw[this] at hl;cases hl
   .rw[É h2];have e:m=1:=⋯;subst e;exact Ŋ2 o hp Ķ ⋯ (Ϟ8) hl;ext Ðu
 .ext Ðu
theorem Ţ0 JC ý Ou (hk:k<n) (hs:Ûg) ĳ7:∀ (f l r:Nat),r-l<=f->l<=r->r<=k->(∀ i,i<l->ąm)->(∀ i,r<=i->öu)->
  we Bh (kas_place p k f l r) λ m=>m<=k/\(∀ i,i<m->ąm)/\(∀ i,m<=i->öu)
 | 0,l,r,h0,h1,h2,ha,hb=>by
  have:l=r:=LQ.ħ2 fL;ext Η;show ąn
 | f+1,l,r,h0,h1,h2,ha,hb=>by
  unfold kas_place;by_cases hlr:l≥r
  .rw[Ç hlr];have:l=r:=⋯;ext Η;show ąn
  .rw[É hlr];exact#[oX hk,oX ⋯,?_];cases c:lt uX (MQ Àd 0) with
   | true=>
    ext Þ;rw[ĭ];exact Ţ0 hp hk hs o f l Àd (LQ.ĸ3 h0) Ib ha λ i hi hik=>?_;cases q:lt uX (qm) with
    | true=>rfl
    | Á=>
     have:=o.tr Ð (hs Àd i hi hik) q;unfold Le at this;rw[this] at c;cases c
   | Á=>
    ext ÂN;exact Ţ0 hp hk hs o f ((l+r)/2+1) r (LQ.Ľ6 h0) ⋯ h2 (λ i hi=>?_) hb;show o.tr Ð (hs i Àd Ib) c
theorem Ľ4 ĳ7:∀ (f:Nat) (p:Ö7) Đ,Yt->k+f=n->Ûg->we Bh (kas_bin f p k) õv
 | 0,p,k,hp,h1,hs=>by
  have:k=n:=⋯;ext Η;show#[hp,hs]
 | f+1,p,k,hp,h1,hs=>by
  exact Nd (GA ?_ (Ţ0 hp ⋯ hs o k 0 k ⋯ Ù2 Ķ (λ i hi=>á hi (Nat.not_lt_zero _)) λ i hi hik=>á hik ⋯));rintro l ⟨a1,a2,a3⟩;exact Ľ4 o f _ ŕ (Ăj (bubble_perm Ð) hp) ⋯ Ϟ8;have ev:∀ x,(bubble p k (k-l)).getD x 0=if x=l then MQ k 0 else if l<x/\x<=k then MQ (x-1) 0 else MQ x 0:=λ x=>by
   have e:=getElem?_bubble (xs:=p) (src:=k) (by rw[hp.size];lia) (k-l) (ϳ0 À) x;rw[show k-(k-l)=l by show Nat.sub_sub_self a1] at e;split
   ext āG
   .ext G7;rw[Fv] at e;split
    .rename_i h';rw[Ç h'] at e;show Ŷ6 e
    .rename_i h';rw[É h'] at e;show Ŷ6 e
  rw[ev i,ev j];by_cases hi:i=l
  .rw[Ç hi];by_cases hj':j=l
   .rw[Ç hj'];show Ej
   .rw[É hj',Ç F0];show o.as À (a3 (j-1) Ib)
  .rw[É hi];by_cases hj':j=l
   .rw[Ç hj',uv];show a2 i ⋯
   .rw[É hj'];by_cases hi2:l<i/\i<=k
    .rw[Ç hi2,Ç #[LQ.fA hi2.1 hij,⋯]];show hs À (ùg hij 1) (LQ.Ğ9 hj hi2.1 hi2.2)
    .rw[É hi2];by_cases hj2:l<j/\j<=k
     .rw[Ç hj2];show hs À (LQ.ą6 hj2.1 hj2.2 hij hi2) (LQ.Ã6 hj2.1 hj2.2)
     .rw[É hj2];show hs À hij ⋯
theorem ó7 ĳ7 (h1:1<=n):we Bh (kas_sort n) õv:=by
 have hp:ud n ÐK:=ÿt;exact Nd (GA ?_ (zch o hp h1));rintro⟨m,p⟩ ⟨a1,a2,a3⟩;dsimp only at a1 a2 a3 ⊢;by_cases hm:m<n
 .rw[Ç hm];exact Ľ4 o _ p (max m 1) a1 (LQ.Ã9 hm) ?_;by_cases h0:m=0
  .subst h0;intro i j hij hj;ext Ðu
  .rw[show max m 1=m by lia];show a3
 .rw[É hm];have:m=n:=⋯;ext Η;show#[a1,a3]
end
end L4
namespace L4
open Ë Ρ2 Õs Ô
section
variable {ώ}
def Core E4 Ċ Ü4 ã7 (vs:zLV) (Out:Øa) (s6:θ):Prop:=
 Ä í (keyKind' A0) (fun κ s'=>s'=s6/\Ä í ((sortRuns').run (ØT κ ďD))
  (λ r s''=>s''=s6/\ÁF r.2=none/\Out ((Ow r.2).map ũ)/\(Ow r.2).size=Κ) E s') E s6
def ñ1 ú O4 ď Ñs{Out:Øa}(ho:ż a=↑(xc "list" A0 n)) (hz:Ãz)
  (core:2<=Κ->∀ s6:θ,(∀ b o,b≠a->ôg)->Core ßw Out s6) ćf
  (fin:∀ out:Cq,Out out->out.size=Κ->P ÎT { s with heap:=ØU ð a vs out }):
  Ä í (Builtin.«list.sort» Õt) P E s:=by
 have ha:a<Õ:=VM;obtain⟨e1,g1⟩:∃ e1,(ûd).get? a=↑ ýg:=#[_,ϡ4 ho (λ _=>į)];have hz':ąo<=â:=by rw[GT];show hz
 have g6:ãm a=↑ ýg:=Gc _ (Gc _ g1);have keep:∀ b o,b≠a->ϒ->ãm b=↑o:=
  λ b o hb e=>Gc _ (Gc _ (by rw[ØV];show e))
 rw[list_sort_plain];exact AC (ż5 M0 (AC (Ϧ7 M0 (AC (seqEpoch_at g1 rfl (AC (ĈC (AC (Òn (OR ?_))) (by exists hz))))) hz' Ù2)));by_cases h2:ąo<2
 .rw[Ç h2,Ç h2];have e2:æe=A0:=by
   change (ìV).map ũ=A0;apply Array.ext ∅;intro i h1 h2;simp
  exact CJ;ext Þ;rw[StateT.run_pure];exact CJ;ext Þ;exact ãI
  .ext ðk;have q:=fin _ (e2▸short (Yn)) (by rw[e2];simp);show AT q
  .change ((æe)).size<=â+1;rw[e2];lia
 .rw[É h2,É h2];have h2':2<=Κ:=Yn
  exact AC (EQ (core h2' _ keep) (fun κ s7 z0=>?_) Β);let#[hs,h7]:=z0;subst hs;exact AC (EQ h7 (λ r s8 z0=>?_) Β);let#[hs,hf,hout,hsz]:=z0;subst hs;obtain⟨⟨⟩,st⟩:=r;exact ãI
  .have hf':ÁF st=none:=hf;rw[hf'];ext ðk;show AT (fin _ hout (by rw[zgN];show hsz))
  .change (ąp).size<=â+1;rw[zgN];have:ÿu:=hsz;lia
def Ħ3 Ĝ O4(out:zAV):∃ e,(ØU (fz gC) Ĩ vs out).get? Ĩ=↑ þB:=by
 have pU:(fz gC).get? Ĩ=↑ gC:=Eu;show#[_,ϡ4 (Gc _ (Gc _ (ϡ4 pU λ _=>į))) λ _=>out]
def ľ9 ú O4 Ī{Out:Øa}{N:An}
  (C:∀ Q':Ρ7,(∀ h1 tk,(∀ b o,¬ N b->Êk)->ås)->Ä U5 FX Ϧ8 Q' E s) (hz:Ãz)
  (core:2<=Κ->∀ s6:θ,(∀ b o,¬ N b->ôg)->Core ĥ A.in1.in1 E vs Out s6) ćf
  (fin:∀ (out:zAV) ÄF (tk l:Nat),Out out->out.size=Κ->Õ<=l->(∀ b o,¬ N b->cp)->(∃ e,ι l=↑ þB)->Q ū { s with heap:=h',toks:=tk }):
  Ä í ĈD ï:=by
 exact Calls.call_function_entry kind_sorted plain_sorted entry_sorted (args_sorted1 _) ?_;unfold Builtin.«sorted»;exact AC (m:=checkCount "sorted" 1 1 _) (AT (AC (C _ λ h1 tk k1 k2=>AC (Òn ?_ hz))));have hoL:(h1.push gC).get? Ϫ6=↑ gC:=Eu;change Ä qd { s with heap:=h1.push gC,toks:=tk };exact AC (OR (P5 slot_list_sort #[_,hoL,rfl] entry_list_sort (ñ1 hoL hz (λ h2 s6 k=>core h2 s6 λ b o n q=>k b o (FS (IO (ØW))) (Gc _ (ØW))) short λ out g1 g2=>ϡ5) (args_list_sort _)));exact AT #[_,rfl,fin out _ tk Ϫ6 Lz k2 (λ b o n q=>?_) (Ħ3 out)];have q1:=ØW;have hb:=FS (IO q1);unfold ØU;rw[ØV];exact Gc _ (Gc _ ?_);rw[ØV];show Gc _ q1
end
end L4
namespace L4
open Ë Ρ2 Õs Ô L2
theorem Ť4:∀ a b:é,η7=true->YI=Á
 | [],[],h=>Ρ
 | [],ş,_=>rfl
 | ş,[],h=>Ρ
 | x::a,y::b,h=>by
  rw[Zn] at h ⊢;by_cases e:x=y
  .subst e;rw[ĭ] at h ⊢;show Ť4 Ñ h
  .rw[É e] at h;rw[É (Ł e)];have:=HS h;show Ga
theorem ū5:∀ a b:é,η7=Á->YI=Á->a=b
 | [],[],_,_=>rfl
 | [],ş,h,_=>Ρ
 | ş,[],_,h=>Ρ
 | x::a,y::b,h,h'=>by
  rw[Zn] at h h';by_cases e:x=y
  .subst e;rw[ĭ] at h h';rw[ū5 Ñ rX]
  .rw[É e] at h;rw[É (Ł e)] at h';have h1:=fg h;have h2:=fg h';lia
theorem ŗ7:∀ a b c:é,YI=Á->RF c b=Á->RF c a=Á
 | [],[],[],_,_=>rfl
 | [],[],ş,_,h=>h
 | [],ş,[],_,h=>Ρ
 | [],ş,ş,_,_=>rfl
 | ş,[],_,h,_=>Ρ
 | ş,ş,[],_,h=>Ρ
 | x::a,y::b,z::c,h,h'=>by
  rw[Zn] at h h' ⊢;by_cases e1:y=x
  .subst e1;rw[ĭ] at h;by_cases e2:z=y
   .subst e2;rw[ĭ] at h' ⊢;show ŗ7 Fu rX
   .rw[É e2] at h' ⊢;show h'
  .rw[É e1] at h;have h1:=fg h;by_cases e2:z=y
   .subst e2;rw[É e1];show h
   .rw[É e2] at h';have h2:=fg h';rw[uv];show Ga
theorem Τ0 þ{r:α->Án}(an:∀ a b,r Ñ->r b a->a=b):∀ {l₁ l₂:ŵ},l₁.Perm l₂->l₁.Pairwise r->l₂.Pairwise r->l₁=l₂
 | [],l₂,h,_,_=>(List.nil_perm.mp h).symm
 | a::l₁,[],h,_,_=>á (List.perm_nil.mp h) ∅
 | a::l₁,b::l₂,h,h1,h2=>by
  have hab:a=b:=by
   have ha:a∈b::l₂:=h.mem_iff.mp BT;have hb:b∈a::l₁:=Čz BT;rcases ķ ha with e | ha
   .show e
   .rcases ķ hb with e | hb
    .show e.symm
    .show an À (òa h1 hb) (òa h2 ha)
  subst hab;rw[Τ0 an (List.Perm.cons_inv h) (CR h1).2 (CR h2).2]
def Ψ9 Ĝ6:Ğ:=rows.mergeSort λ a b=>! YI
def Ŗ9 Ĝ6:(Ψ9 rows).Perm rows:=List.mergeSort_perm À
def ų0 Ĝ6:(Ψ9 rows).Pairwise LR:=by
 have:=List.pairwise_mergeSort (le:=λ a b:é=>! YI) (λ a b c h1 h2=>by simp at h1 h2 ⊢;show ŗ7 Fu Ŭ)
  (λ a b=>by
   cases h:YI with
   | Á=>simp
   | true=>simp[Ť4 b a h]) rows
 show this.imp λ h=>sX
def ī4 {rows out:Ğ}(hp:out.Perm rows) (hs:out.Pairwise LR):out=Ψ9 rows:=
 Τ0 (λ a b h1 h2=>ū5 Ñ h2 h1) (hp.trans (Ŗ9 rows).symm) hs (ų0 rows)
def š6 Ĝ6 AJ:Bool:=RF (Ϥ1) (rows.getD j [])
def ã8 Ĝ6:Ord Ûk:=#[λ _ _ _ h1 h2=>ŗ7 Ð Ŭ,λ _ _ h=>Ť4 À h]
section
variable {ώ}{û9}
theorem zab Dn:∀ (ns ms:é) (us ws:zLV) Ü,ÚR->EZ ws ms->Q (RF ns ms) s->KatLex ĥ A b (Í (r_<ϻ4)) Q (us.zip ws) i s:=by
 intro ns ms us ws i hu
 induction hu generalizing ms ws i with
 | nil=>intro hw h;cases hw <;> show îm
 | @cons n t us' ns hu ih=>
  intro hw h;cases hw with
  | nil=>show îm
  | @cons m u ws' ms hw=>
   rw[Zn] at h;exact kat_cons (üZ n t m u ĥ À (kat_go (λ e=>kat_yes ?_) λ e=>kat_no ?_))
   .have e':n=m:=ŵ6
    rw[Ç e'] at h;rw[show Í ((H_).length<(m::ms).length)=Í (r_<ϻ4) by simp];show ih ms _ Ζ hw h
   .have e':¬ n=m:=ŵ6
    rw[É e'] at h;cases b&&i == 0 with
    | true=>show kat_lt_int h
    | Á=>show kat_one À (lt_int h)
def eg Ľ:BO->Ğ->Prop:=Γ λ v r=>r≠[]/\∃ b o its n,v=Oa/\Fz/\GZ=Æ7/\Òo/\EZ KG r
theorem eg.zbu Ĝ:∀ O4 pE,eg h Ψ0->∃ fs,KatTups h vs fs/\μ=Κ/\∀ v∈fs,∃ n t,v=û4 n t:=by
 intro vs rows z;unfold eg at z
 induction z with
 | nil=>show#[[],KatTups.nil,rfl,λ _ hv=>á hv ∅]
 | cons q r ih=>
  let#[hne,b,o,its,n,hv,ho,hc,hd,hi]:=q;let#[fs,h1,h2,h3]:=ih;subst hv;let#[its]:=its;cases hi with
  | nil=>show ØX
  | cons k t _=>show#[Â k t::fs,KatTups.cons ho hc hd π4,by simp[h2],λ v hv=>(ķ hv).elim (λ e=>#[k,t,e]) (h3 v)]
theorem ϴ5 Gi{F:ŏ6}:∀ ĆZ ă,ĄQ->i<l₁.length->∀ (d:α) (e:β),F (l₁.getD i d) (l₂.getD i e)
 | _,_,_,ä,h,_,_=>á h ∅
 | _,_,0,ã r _,_,_,_=>r
 | _,_,i+1,ã _ t,h,d,e=>by exists ϴ5 (i:=i) t (sX) d e
def eg.ask O4 pE Dn(r:eg ð Ψ0) q8(hi:i<Κ) (hj:j<Κ) {C:Ýy}(h:C (š6 rows i j) s):kas_ask ĥ A (tuples' b) vs i j C s:=by
 let#[_,b1,o1,its1,n1,e1,g1,_,d1,q1]:=ϴ5 r hi Hr [];let#[_,b2,o2,its2,n2,e2,g2,_,d2,q2]:=ϴ5 r hj Hr [];unfold kas_ask;rw[e1,e2];exact kat_lt g1 d1 g2 d2 ?_;have l1:=q1.length;have l2:=q2.length;rw[Ps] at l1 l2;rw[l1,l2];show zab ĉ 0 NH h
theorem ŏ3 þ ď{lt:Bj}{cmp:Nat->Nat->(Ýy)->ϴ}{Q:α->ϴ}(hc:∀ i j C,i<n->j<n->C (lt i j) s->cmp i j C s):∀ {t:Ãx},we Bh t (λ a=>Q a s)->t.kasWp cmp Q s
 | Μ _,h=>h
 | .ask i j _,h=>hc i j _ h.1 qG (ŏ3 hc Dk)
def ő5 (vs:zLV) Ĝ6 (out:zAV):Prop:=
 ∃ ps:List (Ø × é),ps.Perm (Vq rows)/\Vz=rR Ě/\ĈE LR
theorem ê0 Gi Mn{m:Ι4}(h:ÃA) (a:α) (b:β):ÓL (λ i=>(IK i a,m.getD i b))=l.zip m:=by
 exact zgF Em pv;have h3:i<xk/\i<Ž6:=by simp at h1;lia
 simp[h3.1,h3.2]
theorem à6 pE JC ď(hn:p.size=n) (h:lu Ûk p n):(p.toList.map λ i=>Ϥ1).Pairwise LR:=by
 rw[zg5,zgO];intro i j hi hj hij;have:=h i j (No hij) (by rw[<- hn];exists hj);simp![Ps] at hi hj;unfold Le š6 at this;simpa [zhC,hi,hj] using this
theorem zci O4 pE(r:eg ð Ψ0) þg:Core ßw (ő5 Ψ0) s:=by
 let#[fs,t,hl,hf]:=r.zbu;unfold Core;exact kat_kind (T:=Į "int") t ⋯ (ØI) rfl ÕA
 .let#[n,t,rfl]:=hf v hv;show Looks.of_pure rfl
 .exact kat_run (ks:=vs) (Q:=λ st s''=>s''=s/\ÁF st=none/\ő5 Ψ0 (ąp)/\ÿu) (G:=λ p s''=>s''=s/\ud Κ p/\lu Ûk p Κ) rfl h2 h64 (λ p st s' hs ha hfl hg=>?_) ?_
  .let#[h1,h3,h4]:=hg;exact#[h1,hfl,#[p.toList.map λ i=>(vs.getD i Hr,Ϥ1),?_,?_,?_],by rw[ha,zgN];show hs]
   .rw[<- ê0 (GX r) Hr []];have:=Array.Perm.toList h3;show List.Perm.map _ (by ext Ln)
   .rw[kat_snds rfl ha,Db];rfl
   .rw[Db];show à6 hs h4
  .show ŏ3 (λ i j C hi hj hC=>r.ask hi hj hC) (GA (λ p hp=>#[rfl,hp]) (ó7 (ã8 rows) ⋯))
end
section
variable {Ì}
def Paired.perm Gi{F:ŏ6}{l l':ŵ}(p:l'.Perm l):∀ {m:Ι4},Γ F l m->∃ m',m'.Perm m/\Γ F l' m':=by
 induction p with
 | nil=>intro m h;show#[m,Qy,h]
 | cons x _ ih=>
  intro m h;cases h with
  | cons a h=>
   let#[m',h1,h2]:=ih h;show#[_,h1.cons _,ã a h2]
 | swap x y l=>
  intro m h;cases h with
  | cons a h=>
   cases h with
   | cons b h=>show#[_,.swap Ð,ã b (ã a h)]
 | trans _ _ ih1 ih2=>
  intro m h;ext ĊR;let#[m2,h3,h4]:=ih1 h2;show#[m2,h3.trans h1,h4]
abbrev į8 Ï ô Fh uN:Prop:=r≠[]/\∃ b,v=ES b/\y6 Ò b (FP GF)
abbrev gG Ï ô (ys:À0) Ĝ6:Prop:=Γ (į8 Ò) Ω5
abbrev VR Ï ô:BO->Oq->Prop:=Γ λ u q=>RelV q.1 u/\į8 Ò ÄY
def VR.of Ý æ:∀ {ys:À0}O4 pE,Vals ys vs->gG Ò Ω5->VR Ò vs (RJ):=by
 intro ys vs rows z
 induction z generalizing rows with
 | nil=>intro z;cases z;show ä
 | cons r t ih=>intro z;cases z with | cons r' t'=>show ã #[r,r'] (ih t')
abbrev Zy (qs:Oq) ô E7:Prop:=∀ p (ps:Oq),Gs->ps.Perm qs->ĈE (LR)->Q ī (upd H p (Å Yq))
def ť7 u6{σ:L2.St}æ Λ ú O4{qs:Oq}Ud Ú
  (C:∀ Q':Ρ7,(∀ h1 tk,ýh->ås)->Ä Èj Ãw Ϧ8 Q' Ï1)
  (hv:VR ŏ vs qs) (h64:EH<64) (q:Zy qs H Q):Ä Ā ĈD Ą4:=by
 have hl:Κ=EH:=GX hv;have hz:EH<=â:=BY (No h64) ();have rows_at:∀ h6:Heap,(∀ b o,¬ ê->ϒ->h6.get? b=↑o)->eg h6 vs ÁG:=λ h6 k=>by
  clear q hl h64 hz C
  induction hv with
  | nil=>show ä
  | cons g t ih=>
   exact ÁH;let#[r1,hne,b,e1,hb]:=g;rw[e1] at r1;cases r1;let#[its2,rv2,#[o,e,hc,n,hd],_]:=Ê8 hb;show#[hne,b,o,_,n,rfl,k À id e,hc,hd,by exists Γ2 rv2]
 exact ľ9 (Out:=ő5 vs ÁG) C (LQ.Į8 hl hz) (λ h2 s6 k=>zci (rows_at _ k) h2 ⋯) (λ h1=>#[Vq ÁG,Qy,by rw[List.map_fst_zip (by simp;show Ýz)],?_]) λ out h' tk p ho hs hp k hat=>?_
 .rw[Ăk Em,zgO];intro i j hi hj hij;simp at hi hj;lia
 .let#[ps,g1,g2,g3]:=ho;let#[e,he]:=hat;have z:Γ (λ p q=>RelV q.1 p.1/\p.2=q.2) (Vq ÁG) qs:=by
   clear g1 hs hl h64 hz C rows_at q
   induction hv with
   | nil=>show ä
   | cons a _ ih=>show ã #[a.1,rfl] ih
  let#[qs',q1,q2]:=Paired.perm g1 z;have f:Vals (ÃB Ě) Yq/\ÃB ũ=uD:=by
   clear q1 g1 g2 g3
   induction q2 with
   | nil=>show#[ä,rfl]
   | cons a _ ih=>show#[ã a.1 ih.1,by rw[As,As,ih.2,a.2]]
  exact#[Ŗ,_,B6 (t':=tk) (o:=Å (ÃB Ě)) öT hp #[?_,Vz,e,by rw[g2];show f.1,Ϲ1],rfl,q p qs' (CG hp) q1 (by rw[f.2];show g3)];rw[AS,q1.length_eq];show hz
end
end L4
namespace L2
open Ë å Ô
def nB (ty T:ń):Bool:=ty == T||(ty == "bool"&&T == "int")
def Ů7 (ty T:ń):Bool:=ÿv&&Í ((fastBuiltinMro ty).map (λ l=>l.contains (sU T))=↑ Z8)
def î3:(["NoneType","bool","int","str","tuple","list","dict"].all λ ty=>["int","bool","tuple","list","str"].all λ T=>Ů7 ty T)=true:=MC
def à7 Ý{ty T:ń}(h:Ů7 ty T=true):ÐL K Úg=↑ Z8:=by
 unfold Ů7 at h;rw[By] at h;unfold ÐL;split
 .rename_i e;have e':ty=T:=by have:=ϻ5 e;injection this
  subst e';simp[nB]
 .change (if ÿv=true then PySem.W.subIn K Úg else none)=_;rw[Ç h.1];show HS h.2
def Ō7 Ï ô:V->ń->Prop
 | .zB,t=>t="NoneType"
 | Fj,t=>t="bool"
 | rV,t=>t="int"
 | DD,t=>t="str"
 | œ,t=>(t="tuple"/\∃ xs,rW)\/(t="list"/\∃ xs,sV)\/(t="dict"/\∃ tp,Δ9)
 | _,_=>ê
def zcQ Ì:wI X Îe (λ xs H Q=>∃ x T ty,xs=[x,.ty T]/\Ō7 ŏ x ty/\Ů7 ty T=true/\Q (.bl Z8) H):=by
 ext Hh;let#[x,T,ty,rfl,hx,hT,q]:=h;let#[u,c,rfl,ru,rc]:=vals2 r;cases (show c=sU T from rc);have e:ÐL X.K Úg=↑ Z8:=à7 hT;have fin:∀ tk,EP Č Q (FK Z8) { s with toks:=tk }:=λ tk=>#[Fj,H,I.tok tk,rfl,q];cases x with
 | zB=>cases (show u=Hr from ru);cases ϱ7;show PY PySem.W.kitx_none Ϭ8
 | bl y=>cases (show u=Β8 y from ru);cases ϱ7;show PY PySem.W.kitx_bool Ϭ8
 | int i=>let#[t,rfl]:=(show ÌF from ru);cases ϱ7;show PY PySem.W.kitx_int Ϭ8
 | str y=>let#[t,rfl]:=(show ∃ t,u=ÚG y t from ru);cases ϱ7;show PY PySem.W.kitx_str Ϭ8
 | ref a=>
  cases (show u=đ a from ru);rcases hx with ⟨rfl,ys,hq⟩ | ⟨rfl,ys,hq⟩ | ⟨rfl,tp,hq⟩
  .let#[its,_,#[o,h1,h2,_],_]:=Jm;show PY PySem.W.kitx_tuple øC
  .let#[its,_,#[o,n,h1,h2,_],_]:=IC;show PY PySem.W.kitx_list øC
  .let#[_,_,vs,_,p]:=(show wX ÄQ a ī0 from I.zt a _ hq)
   let#[o,es,ep,h1,h2,_]:=p;show PY PySem.W.kitx_dict I.yV #[o,h1,h2.1] ÆL
 | _=>show hx.elim
end L2
namespace L3
open Ë å L2
open Ô hiding St
section
variable {Ì}{Ý}{a b e:Expr}{Ń}{ŝ}{υ}{pos p q:Pos}
def Ð4 (hm:ĆT) È5 (hg:Gl X "len") BC:PD X öU (o7 kl tA):=
 ji (jU (zcM.or zcL) úb) kl.mo kl.fits ĝ
def Ć6 (hm:Ăl) È5 (hg:Gl X "list") BC:PD X (Ă ČA DY) (o7 kj tA):=
 ji (fj zcJ óG pz) kj.mo kj.fits ĝ
def Ā8 (hm:X.mg "tuple"=none) È5 (hg:Gl X "tuple") BC:PD X (Ă (ć "tuple" p) DY) (o7 kg tA):=
 ji (fj zcx Hy ôh pz) kg.mo kg.fits ĝ
abbrev Ŧ3:wG:=lN λ i j=>Â (Ðj)
abbrev ň9:wG:=lN λ i j=>Â (Ðp)
def Ĉ2 (hm:X.mg "max"=none) È5 ĺ (hg:Gl X "max") BC:PD X (Ă (ć "max" p) DY) (o7 Ŧ3 tA):=
 ji (jU (zcI hc) Hy boot_max pz) øD
def ù6 (hm:X.mg "min"=none) È5 ĺ (hg:Gl X "min") BC:PD X (Ă (ć "min" p) DY) (o7 ň9 tA):=
 ji (jU (zcH hc) Hy boot_min pz) øD
def mV uN:D:=Î (FP J9)
theorem zu.Y2 æ:∀ {ps:Oq},(∀ q∈ps,ýi)->óa
 | [],_=>ä
 | q::ps,h=>ã (h q BT) (zu.Y2 eS)
theorem zu.Α8 æ:∀ pE{ys:À0},zu Ò Κ9 ys->∀ q∈ RJ,ýi
 | [],ys,_,q,hq=>by simp at hq
 | r::rows,ys,h,q,hq=>by
  rw[As] at h;let#[x,ys',rfl,h1,h3]:=h;rcases ķ hq with e | hq
  .subst e;show h1
  .show zu.Α8 h3 q hq
theorem Ű3 æ:∀ pE{ys:À0},zu Ò Κ9 ys->(ϙ6)->ÎU
 | [],ys,h,_=>by simp![NE,zu] at h;subst h;show ä
 | r::rows,ys,h,hn=>by
  rw[As] at h;simp![zu,mV,zA] at h;let#[x,ys',rfl,#[a,xs,rfl,g1,g2],h3]:=h;rw[g2.ints] at g1;show ã #[hn r BT,a,rfl,g1] (Ű3 h3 λ r' hr=>hn r' (Da _ hr))
def Ĥ9 þ4(hm:ϝ4) (ha:yC X [a] tA) (hg:Ϫ7) (hs:ÇA):yc þd (Ž4 tA):=Ú8 (â3 Ϻ4) ĝ
def ē3 þ4(hm:ϝ4) (ha:yC X qW tA) (hg:Ϫ7) (hs:ÅW) (hs2:ÇI):yc þe (ŭ4 tA):=Ø8 (Ð7 Ϻ4 hs2) ĝ
def gX ø3 Å9:õ ń:=match d with
 | .zB=>↑"NoneType"
 | Fj=>↑"bool"
 | rV=>↑"int"
 | DD=>↑"str"
 | Î _=>↑"tuple"
 | .vw _=>↑"list"
 | Ŗ=>match S p with
  | some (Å _)=>↑"list"
  | some (.yf _)=>↑"dict"
  | _=>none
 | FW=>none
def cx (T:ń) Fw:zr:=fun L S Q=>te L S λ x S1=>match gX x S1 with
 | some ty=>Q (.bl Z8) S1
 | _=>ê
theorem gX.ok æ û ϋ è{ty:ń}ō8 (h:gX d S=↑ty):Ō7 Ò v ty/\ty∈["NoneType","bool","int","str","tuple","list","dict"]:=by
 cases d with
 | err _ _ _=>cases h
 | tup ds=>
  ext ñM;show#[È Ăm,∅]
 | vw ds=>
  ext ñM;show#[Æ (È #[rfl,xs,g1.sq]),∅]
 | ref a=>
  subst r;unfold gX at h;ext Ω8;ext č
  .ext ðt;show#[Æ (ôi),∅]
  .ext ðt;show#[Æ (Æ Ăm),∅]
  .cases h
 | _=>ext Lq;cases h;show#[rfl,∅]
def ŵ9 {T:ń}ā(hT:T∈["int","bool","tuple","list","str"]) (hm:X.mg "isinstance"=none) (hm2:X_=none) (hv:Mf=↑ dw) (hg2:Gl X x) (hn:ÌG) (hd:QS) rZ qh
  (h1:zEE X e [ć x q]) (h2:zEB ä9 [ć x q]) (h3:zEE X (ć x q) []):
  PD X (Ă Ot [e,ć x q] sy) (cx T te):=by
 exact#[Çr,Œ (jU zcQ Hy ąq (lZ sL (lZ (Ő0 (v:=.ty T) hg2 hm2 hv rfl hn hd) kG h3) h1) Ň Ŭ) Ų]
 .split at z
  .show Me
  .show z
 .ext ŀ;exact Ģ Θ5 λ y S1 v H1 z1 q1 e1 p1=>?_;split at z1
  .rename_i ty ht;let#[g1,g2]:=gX.ok q1 p1 ht;exact#[v,T,ty,rfl,g1,?_,z1 ZZ];show G6 (G6 î3 ty g2) T hT
  .show z1.elim
def Ĝ4 Ĳ0 rZ qh (hg2:Gl X "bool") (h1:zEE X e [ϯ0]) (h2:zEB ä9 [ϯ0]) (h3:zEE X (ϯ0) []):
  PD X (Ă Ot [e,ϯ0] sy) (cx "bool" te):=ŵ9 Ϡ3 T.bool PyProof.Rows.boot_bool ϖ8
def Ö4 Ĳ0 rZ qh (hg2:Gl X "int") (h1:zEE X e [ϴ6]) (h2:zEB ä9 [ϴ6]) (h3:zEE X (ϴ6) []):
  PD X (Ă Ot [e,ϴ6] sy) (cx "int" te):=ŵ9 Ϡ3 ĕ öV ϖ8
def ć3 Ĳ0 rZ qh (hg2:Gl X "tuple") (h1:zEE X e [Ϫ8]) (h2:zEB ä9 [Ϫ8]) (h3:zEE X (Ϫ8) []):
  PD X (Ă Ot [e,Ϫ8] sy) (cx "tuple" te):=ŵ9 Ϡ3 T.tuple ôh ϖ8
def å9 {o:Expr}YN sW Hl rZ
  (AZ:öW)
  G0:
  PD X ό9 Tq:=
 č3 (o:=o) (e:=e) (ŵ5 âz ϖ9) Ψ1
structure FD u9 Ċ Ï Û2 ĩ Đ É9 ë5:Prop where
 ex:∃ (f:Addr) (fd:pW),wA Dt k ϩ7/\ČB
 mo:Hw
def ħ0 ā ý Ĳ ϑ4 ν È5 ϙ uJ
  BC:PD Ϡ4:=by
 ext Èe;show Ù9 (E:=E0) (ē0 úc) hm ĝ
end
def ì0 è BE ñ(e:WM):Ĉw:=by unfold yG;ext ÔN
def zbC è BE ñ xt(e:WM) (h:Àc):kg Mr S Q:=by
 unfold kg;ext Åg
def zbD è û ñ xt ig (h:ûc):kj [d] S Q:=by
 unfold kj;ext Åg
def zbE è û ñ xt ig (h:Q (Â t4) S):kl [d] S Q:=by
 unfold kl;ext Åg
def ĉ8 è BE ñ{Q:Q8}(e:WM) (h:Ãt):mO ī S Q:=by
 unfold mO;ext Åg
def zbH è BE ñ Gq û xt(e:WM) Ìx:nc ī ÄZ:=by
 unfold nc;ext ÔN;ext ÚF
def zbF è ñ Gq û xt Ìx:nc (AA) ÄZ:=by
 unfold nc;ext ÚF
def zbG è ñ Gq û xt Ìx:nc (qp) ÄZ:=by
 unfold nc;ext ÚF
inductive T where
 | zB | bl Ed | int C8 | str ĩ | tup Ø2 | lst Ø2 | err Pk Ť | zE (ks:dD) Ø2
mutual
def eqT:T->Jk
 | .zB,.zB=>true
 | .bl a,ω=>a == b
 | .bl a,HJ=>(if a then 1 else 0) == b
 | Â a,ω=>a == (if b then 1 else 0)
 | Â a,HJ=>a == b
 | rY,qX=>a == b
 | Î a,Î b=>oH Ñ
 | Å a,Å b=>oH Ñ
 | A6 Ñ t,A6 c d u=>a == c&&(b == d&&Pl)
 | .zE k a,.zE l b=>Í (k=l)&&oH Ñ
 | _,_=>Á
def oH:ö->ÁI
 | [],[]=>true
 | a::as,b::bs=>Ăn
 | _,_=>Á
end
mutual
def dep:T->Nat
 | ő=>1+rp
 | Δ=>1+rp
 | FW=>Ε
 | Hu=>Ε
 | _=>0
def xZ:ö->Nat
 | []=>0
 | Ņ=>max (Lr) (rp)
end
def ť2:ÁI
 | []=>true
 | rV::ts=>ť2 ts
 | _=>Á
def ä5 Χ:ť2 UM=true:=by
 induction ns with
 | nil=>rfl
 | cons n ns ih=>show ih
mutual
def Sn Å9:T->D->Prop
 | .zB,d=>d=.zB
 | ω,d=>d=ω
 | Ą,d=>d=Ą
 | ů,d=>d=ů
 | ő,d=>∃ ds,d=AA/\ϓ
 | Δ,d=>∃ ds,((d=qp/\ť2 ts=true)\/õw)/\ϓ
 | uV,d=>∃ a m,(d=œ/\ſ3)/\S a=↑ ÃC/\ÁJ
 | Ûl,d=>∃ x,d=A6 c f x/\Sn S t x
def zo Å9:ö->Ük
 | [],ds=>ds=[]
 | Ņ,ds=>∃ c cs,ds=HD/\Sn S t c/\zo S ts cs
end
def iu qB:eqT Pc=(i == j):=rfl
def ņ9 sd:eqT (rY) (qX)=(a == b):=rfl
def Ģ9 (a b:T) (as bs:ö):oH (a::as) (b::bs)=(Ăn):=rfl
def zbM:oH Co=true:=rfl
def zbN (a b:ö):eqT (Î a) (Î b)=oH Ñ:=rfl
mutual
theorem Š0:∀ t:T,eqT t t=true
 | .zB=>rfl
 | ω=>ÑG
 | Ą=>(rO i:(i == i)=true)
 | ů=>(rO x:(x == x)=true)
 | ő=>Ăo
 | Δ=>Ăo
 | A6 Ñ t=>by change (a == a&&(b == b&&eqT t t))=true;rw[Š0 t,rO,rO];rfl
 | .zE k ts=>by change (Í (k=k)&&Ϲ5)=true;rw[ů0 ts,DO rfl];rfl
theorem ů0:∀ ts:ö,Ϲ5=true
 | []=>rfl
 | Ņ=>by change (eqT t t&&Ϲ5)=true;rw[Š0 t,ů0 ts];rfl
end
theorem Į4:∀ ts us:ö,Λ0=((ċ (min ē Æ5)).all (λ j=>ôj)&&ē == Æ5)
 | [],[]=>rfl
 | [],ş=>rfl
 | ş,[]=>rfl
 | Ņ,u::us=>by
  change (Pl&&Λ0)=_;rw[Į4 ts us];simp![GM];rw[show min (ē+1) (Æ5+1)=min ē Æ5+1 by show Nat.add_min_add_right À 1,õx,Tm,zfT];have:(ē+1 == Æ5+1)=(ē == Æ5):=by rw[OF];simp
  rw[this,Bool.and_assoc];rfl
theorem zo.length è:∀ ÿ ñ,ϓ->ē=t4
 | [],ds,h=>ąr
 | Ņ,ds,h=>by
  let#[c,cs,rfl,_,h2]:=h;simp[zo.length h2]
section
variable {Ì}{Ĵ}{è}
theorem Ĵ8 Ú ú Pa(h1:ε9) (h2:yB ŏ a ys):ê:=by
 let#[_,_,#[o,e,c,_],_]:=Ê8 h1;let#[_,_,#[o',n,e',c',_],_]:=HK h2;ext ϲ4;rw[c] at c'
 injection c' with q
 show á q ()
def Sn.Ŷ0 Ċ2 ÿ û AW(h:Sn S Ae d) (r:cq):∃ a xs ds,LJ/\yB ϥ1/\SG/\ϓ:=by
 obtain⟨ds,⟨h,_⟩ | ⟨a,h,e⟩,h2⟩:=h
 .subst h;ext úd;show#[a,xs,ds,rfl,g1.sq,g2,h2]
 .subst h;let#[xs,g1,g2]:=p À e;show#[a,xs,ds,r,Lf g1,g2,h2]
def Sn.Ų2 ÿ û AW(h:Sn S Ad d) (r:cq):∃ a xs ds,LJ/\ε9/\SG/\ϓ:=by
 let#[ds,rfl,h2]:=h;ext úd;show#[a,xs,ds,rfl,g1,g2,h2]
theorem Sn.flat sr û AW(h:uL) (r:cq):match t with
  | .zB=>x=.zB
  | ω=>x=ω
  | Ą=>x=Ą
  | Ir=>x=Ir
  | _=>True:=by
 cases t <;> first
  | trivial
  | (ext K0;subst h;simpa only [zA] using r)
mutual
theorem ź8 Ú Ċ2:∀ (t u:T) {d e:D}AW,Lr<Ε->dep u<Ε->uL->ÁK->cq->zA ŏ e x->t=u
 | ő,u,d,e,x,z,z',h1,h2,r1,r2=>by
  let#[a,xs,ds,rfl,g1,g2,g3]:=h1.Ų2 r1;cases u with
  | zE _ _=>show O1
  | err _ _ _=>show O1
  | tup us=>
   ext ég;have:=I.ŗ9 g1 k1;ext äB
  | lst us=>
   ext èg;show (Ĵ8 I g1 k1).elim
  | _=>ext sR
 | Δ,u,d,e,x,z,z',h1,h2,r1,r2=>by
  let#[a,xs,ds,rfl,g1,g2,g3]:=h1.Ŷ0 p r1;cases u with
  | zE _ _=>show O1
  | err _ _ _=>show O1
  | lst us=>
   ext èg;have:=I.Ŧ9 g1 k1;ext äB
  | tup us=>
   ext ég;show (Ĵ8 I k1 g1).elim
  | _=>ext sR
 | .zB,u,d,e,x,z,z',h1,h2,r1,r2=>by
  ext ϝ3;cases u with
  | zB=>rfl
  | tup us=>ext ύ9
  | lst us=>ext ύ3
  | bl _=>ext sR
  | int _=>ext sR
  | str _=>ext sR
  | _=>show O1
 | ω,u,d,e,x,z,z',h1,h2,r1,r2=>by
  ext ϝ3;cases u with
  | bl _=>ext ÎD
  | tup us=>ext ύ9
  | lst us=>ext ύ3
  | zB=>ext sR
  | int _=>ext sR
  | str _=>ext sR
  | _=>show O1
 | HJ,u,d,e,x,z,z',h1,h2,r1,r2=>by
  ext ϝ3;cases u with
  | int _=>ext ÎD
  | tup us=>ext ύ9
  | lst us=>ext ύ3
  | zB=>ext sR
  | bl _=>ext sR
  | str _=>ext sR
  | _=>show O1
 | qX,u,d,e,x,z,z',h1,h2,r1,r2=>by
  ext ϝ3;cases u with
  | str _=>ext ÎD
  | tup us=>ext ύ9
  | lst us=>ext ύ3
  | zB=>ext sR
  | bl _=>ext sR
  | int _=>ext sR
  | _=>show O1
 | FW,u,d,e,x,z,z',h1,h2,r1,r2=>á z ÅI
 | Hu,u,d,e,x,z,z',h1,h2,r1,r2=>á z ÅI
theorem Ŏ3 Ú Ċ2:∀ ÂC ÀM Ę,rp<Ε->xZ us<Ε->ϓ->ØY->SG->zu ŏ es xs->ts=us
 | [],us,ds,es,xs,z,z',h1,h2,r1,r2=>by
  have e:=âW;cases us with
  | nil=>rfl
  | cons _ _=>simp at e
 | Ņ,[],ds,es,xs,z,z',h1,h2,r1,r2=>by
  have e:=âW;simp at e
 | Ņ,u::us,ds,es,xs,z,z',h1,h2,r1,r2=>by
  let#[c,cs,rfl,a1,a2]:=h1;let#[c',cs',rfl,b1,b2]:=h2;let#[y,ys,rfl,g1,g2]:=r1;let#[y',ys',q,k1,k2]:=r2;cases q;simp![xZ] at z z';rw[ź8 I p t u (LQ.ę9 z) (LQ.ę9 z') a1 b1 g1 k1,Ŏ3 I p ts us (LQ.ŏ7 z) (LQ.ŏ7 z') a2 b2 g2 k2]
end
theorem zo.get ÿ ñ Ļ9:∀ Cd,j<ē->∃ c,ds[j]?=↑c/\Sn S ϗ6 c:=by
 induction ts generalizing ds with
 | nil=>intro j hj;simp at hj
 | cons t ts ih=>
  intro j hj;ext T4;cases j with
  | zero=>show Ïz
  | succ j=>
   let#[c',e,h3]:=ih h2 (j:=j) (by exists hj);show#[c',by simpa using e,by exists h3]
theorem cw:∀ ÿ Cd,j<ē->dep ϗ6<=rp
 | [],j,h=>E9
 | Ņ,0,_=>by simp![xZ,List.getD_cons_zero];show Nat.le_max_left À
 | Ņ,j+1,h=>by
  have:=cw (ts:=ts) (j:=j) (sX);simp![xZ,List.getD_cons_succ];lia
inductive fZ Ï ô Å9 ŭ:T->ÜG
 | zB:fZ VN .zB Ć
 | bl Dn:fZ VN Cu Ο3
 | int Gq{k:Tok}:fZ VN qC (Â i k)
 | str {i:Str}{k:Tok}:fZ VN (Ã i) (Ã i k)
 | tup ÿ ñ Ę Ο ó1 ĀJ (h:Ű9 l us.toArray):fZ VN Ad ū
 | lst ÿ ñ Ę Ο ó1 ĀJ (h:ϝ8 l us.toArray):fZ VN Ae ū
def ŏ2 Ú Ċ2 sr û AW{a:Ø}(h:uL) (r:cq) (v:ÝA) (z:Lr<Ε):fZ ŏ S s t a:=by
 cases t with
 | zB=>ext ËZ;cases v;show .zB
 | bl _=>ext ËZ;cases v;show .bl
 | int _=>ext ĎH;show Â
 | str _=>ext ĎH;show Ã
 | tup _=>let#[l,xs,ds,rfl,g,r,q]:=h.Ų2 r;cases v;let#[_,w,i,_]:=Ê8 g;show Î q r w i
 | lst _=>let#[l,xs,ds,rfl,g,r,q]:=h.Ŷ0 p r;cases v;let#[_,w,i,_]:=HK g;show Å q r w i.isList
 | _=>simp![dep] at z;lia
abbrev J3 Ü4 ŭ (a b:Ø) ÿ3:Prop:=ϴ0 A s Ñ k/\SeqAt.RcAt A s Ñ k/\SeqAt.RcNeAt A s Ñ (!k)
theorem zdf Ú Ċ2:∀ ą (t u:T) sO þh,Lr<n->xH+Lr<Ε->Òp->uL->ÁK->cq->zA ŏ e y->ÝA->RelV y b->ąs:=by
 intro n
 induction n with
 | zero=>intros;lia
 | succ n ih=>
  intro t u A d e x y a b hn hu hu' h1 h2 r1 r2 v1 v2;have hq:a=b->t=u:=λ z=>by subst z;have:=v1.inj v2;ext Η;show ź8 I p t u (LQ.Ű2 hu) (LQ.Ű2 hu') Ŭ tX
  have c1:=ŏ2 I p h1 r1 v1 (LQ.Ű2 hu);have c2:=ŏ2 I p h2 r2 v2 (LQ.Ű2 hu');clear h1 h2 r1 r2 v1 v2;have hA:xH<Ε:=⋯;have el:∀ ĳ8{ds ds':Az}{xs xs':À0}{is is':zLV},1+rp<n+1->xH+(1+rp)<Ε->xH+(1+xZ us)<Ε->ϓ->zo S us ds'->SG->zu ŏ ds' xs'->Vals xs is->Vals xs' is'->ÏA=ē/\ÎV=Æ5/\
    ∀ ğ5 (h1:j<ÏA) (h2:j<ÎV),ϴ0 FX s is.toArray[j] is'.toArray[j] (ôj):=by
   intro ts us ds ds' xs xs' is is' a1 a2 a3 g1 g2 r1 r2 v1 v2;have e1:ÏA=ē:=by rw[GT,<- v1.length,<- ϻ6,<- g1.length]
   have e2:ÎV=Æ5:=by rw[GT,<- v2.length,<- Su,<- yZ]
   exact#[e1,e2,λ j h1 h2=>?_];let#[_,k1,s1]:=g1.get (e1▸h1);let#[_,k2,s2]:=g2.get (e2▸h2);let#[_,f1,q1]:=r1.get k1;let#[_,f2,q2]:=r2.get k2;let#[w1,o1,m1]:=v1.get f1;let#[w2,o2,m2]:=v2.get f2;have y1:=cw (e1▸h1);have y2:=cw (e2▸h2);let#[_,z1]:=χ o1;let#[_,z2]:=χ o2;rw[ùo,ùo,z1,z2];show (ih À (A:=FX) ⋯ òb òb s1 s2 NH m1 m2).1
  have en:∀ {l l':Addr}ĳ8,(đ l=à l'->ts=us)->SeqAt.RcAt Ñt (Λ0)/\SeqAt.RcNeAt Ñt (! Λ0)->J3 Ñt (Λ0):=λ{l l' ts us} h q=>by
   exact#[?_,q];by_cases z:l=l'
   .subst z;rw[h rfl,ů0];show .same _
   .show .of_refs z q.1
  cases c1 <;> cases c2
  .show#[.same _,.none_none,.none_none]
  .show#[ÓM,ÓM,ÓM]
  .show#[ÓN,ÓN,ÓN]
  .show#[ÓO,ÓO,ÓO]
  .show#[ÐM,ÐM,ÐM]
  .show#[Òq,Òq,Òq]
  .show#[ÓP,ÓP,ÓP]
  .show#[Òr,Òr,Òr]
  .show#[ÓQ,ÓQ,ÓQ]
  .show#[ÓR,ÓR,ÓR]
  .show#[ÎW,ÎW,ÎW]
  .show#[ÏB,ÏB,ÏB]
  .show#[ÓS,ÓS,ÓS]
  .show#[ÓT,ÓT,ÓT]
  .show#[ÓU,ÓU,ÓU]
  .show#[ÓV,ÓV,ÓV]
  .show#[ÐN,ÐN,ÐN]
  .show#[Òs,Òs,Òs]
  .show#[ÓW,ÓW,ÓW]
  .show#[ÓX,ÓX,ÓX]
  .show#[ÓY,ÓY,ÓY]
  .show#[ÓZ,ÓZ,ÓZ]
  .show#[ÐO,ÐO,ÐO]
  .show#[Òt,Òt,Òt]
  .show#[ÐP,ÐP,ÐP]
  .show#[Ïm,Ïm,Ïm]
  .show#[ÐQ,ÐQ,ÐQ]
  .show#[ÐR,ÐR,ÐR]
  .rename_i g1 r1 v1 k1 _ _ _ _ _ g2 r2 v2 k2;ext âN;show#[Ăp,Ăp]
  .show#[Ëp,Ëp,Ëp]
  .show#[Òu,Òu,Òu]
  .show#[Ðk,Ðk,Ðk]
  .show#[Òv,Òv,Òv]
  .show#[Òw,Òw,Òw]
  .show#[ËE,ËE,ËE]
  .rename_i i1 _ g1 r1 v1 k1 _ _ _ i2 _ g2 r2 v2 k2;ext âN;by_cases z:i1.toArray.size=i2.toArray.size
   .rw[<- z,Nat.min_self,rO,Òx];show#[ÿw,ÿw]
   .rw[ED z,zg3];have z':=bne_iff_ne.mpr z;show#[ób,ób]
def Š5 Ú Ċ2 (t u:T) sO þh(hu:xH+Lr<Ε) (hu':Òp) (h1:uL) (h2:ÁK) (r1:cq) (r2:zA ŏ e y) (v1:ÝA) (v2:RelV y b):ąs:=zdf I p _ t u (UF _) hu hu' Ŭ tX v1 v2
end
def Ř1 Ï DC:R2:=λ x y H Q=>∃ S d e t u,Cy/\Ûb/\Ϝ/\uL/\ÁK/\Lr<=60/\Àe/\Q éE H
def ng DC:wx:=λ x y S Q=>∃ t u,Sn S t x/\Sn S u y/\Lr<=60/\Àe/\Q éE S
def ng.mo PU:v9 ÝB:=λ _ _ _ _ _ hq z0=>(by let#[t,u,a,b,c,d,h]:=z0;show#[t,u,a,b,c,d,Å5])
def ng.fits Ý PU:vb K ÝB (Ř1 K neg):=λ x y d e H S Q h1 h2 h3 z0=>(by let#[t,u,a,b,c,c',h]:=z0;show#[S,d,e,t,u,h1,h2,h3,a,b,c,c',VB])
section
variable {Ì}{uP}{á6}{Ē}
def Ĥ0 ź0:yM X (GJ .Eq) (Ř1 X.K Á):=by
 ext ãL;show (ãi).2.1 η X.xe _ Ti
def ŉ5 ź0:yM X (GJ .NotEq) (Ř1 X.K true):=by
 ext ãL;show (ãi).2.2 η X.xe _ Ti
def Ô2 ý ν Š:PD X ÿx Ăq:=dk (Ĥ0 XN) Ϟ3
def ù0 ý ν Š:PD X ùp (x9 ÀS Ġ):=dk (ŉ5 XN) Ϟ3
def Ă3 ý ν Š:zG X ÿx (nD Ăq):=jV (Ĥ0 XN) Ϟ3
def ō1 ý ν Š:zG X ùp (nD (x9 ÀS Ġ)):=jV (ŉ5 XN) Ϟ3
def Ų7 Ï DC:R2:=λ x y H Q=>∃ S d e u ts ds,Cy/\Ûb/\Ϝ/\Sn S u d/\yG e S=↑ds/\ϓ/\Àe/\rp<=60/\Q ìW H
def kP DC:wx:=λ x y S Q=>∃ u ts ds,Sn S u x/\yG y S=↑ds/\ϓ/\Àe/\rp<=60/\Q ìW S
def kP.mo PU:v9 ÝC:=λ _ _ _ _ _ hq z0=>(by let#[u,ts,ds,a,b,c,d,e,h]:=z0;show#[u,ts,ds,a,b,c,d,e,Å5])
def kP.fits Ý PU:vb K ÝC (Ų7 K neg):=λ x y d e H S Q h1 h2 h3 z0=>(by let#[u,ts,ds,a,b,c,c',c2,h]:=z0;show#[S,d,e,u,ts,ds,h1,h2,h3,a,b,c,c',c2,VB])
open Ûm in
def Υ8 ÄE Ø2 (u:T) đ4:Bool:=if h:∃ j,ÔV then eqT (ts.getD (Classical.choose h) .zB) u else Á
def ť6 Ĵ è Ú Ċ2 ÿ ñ Ę Æe (u:T) Cd CN(hj:ÔV):
  Υ8 its ts u v=eqT ϗ6 u:=by
 have h:∃ j,ÔV:=#[j,hj];unfold Υ8;rw[dif_pos h];have hc:=Classical.choose_spec h;have lt:∀ i,IX->i<ē:=λ i hi=>by
  ext Éb;show Øq
 let#[c1,e1,s1]:=h1.get (lt _ hc);let#[c2,e2,s2]:=h1.get (lt _ hj);ext þi;let#[x2,f2,r2]:=h2.get e2;ext þj;let#[v2,g2,q2]:=h3.get f2;rw[hc] at g1;cases g1;rw[hj] at g2;cases g2;have hx:=q1.inj q2;subst hx;rw[ź8 I p À (P1 (cw (lt _ hc)) hz) (P1 (cw (lt _ hj)) hz) s1 s2 tX]
theorem Ă1 Ĵ è Ú Ċ2 ÿ ñ Ę Æe (u:T):its.any LL=Èh:=by
 have hl:ē=Ü3:=by ext Éb
 ext ăR
 .rintro⟨v,hv,h⟩;let#[j,hj,rfl]:=OS hv;rw[èL] at h;have hj':j<ē:=uT hj hl;show#[ts[j],TD hj',by simpa [hj'] using h]
 .rintro⟨t,ht,h⟩;let#[j,hj,rfl]:=OS ht;have hj':j<Ü3:=LM hj hl;show#[its[j],TD hj',by rw[ť6 ĀK (by simp[hj'])];simpa [hj] using h]
def Ũ8 Ĵ è Ú Ċ2 ÿ ñ Ę Æe {u:T}û AW CN(hu:Sn S u d) (hd:cq) (hx:AG) sO(b1:xH+rp<Ε) (b2:Òp) {y:Ø}(hy:y∈its):
  ϴ0 A s y v (Υ8 its ts u y):=by
 let#[j,hj,rfl]:=OS hy;have hjt:j<ē:=by ext Éb;show hj
 rw[èL];let#[c1,e1,s1]:=h1.get hjt;ext þi;ext þj;have:its[j]=v1:=by
  have:=χ g1;show this.2
 ext Hz;have:=cw hjt;show (Š5 I p _ u (A:=A) ⋯ b2 s1 hu r1 hd q1 hx).1
theorem Ē7 ź0:yM X (GJ .In) (Ų7 X.K Á):=by
 ext ào
 .ext úe;exact SeqAt.in_listAt LL G1 υ1;ext χ8
 .ext úf;exact SeqAt.in_tupleAt LL pt υ1;ext χ8
theorem Ç3 ź0:yM X (GJ tR) (Ų7 X.K true):=by
 ext ào
 .ext úe;exact SeqAt.notIn_listAt LL G1 υ1;ext χ8
 .ext úf;exact SeqAt.notIn_tupleAt LL pt υ1;ext χ8
def â5 ý ν Š (hm:QJ tR b=Á):zG X (Gh a [tR] DM) (nD (x9 (kP true) Ġ)):=jV (Ç3 XN) kP.fits kP.mo BX hm
end
end L3
namespace L2
open Ë å Ô
section
variable {Ν0}[ϭ6 κ]
def oV ÔO:õ V:=ËM
def putK ÔO Fh:Kw:=
 Æu
def ε1 þk(e:p.1=k):oV (p::r) k=↑p.2:=öo
def ő9 þk(e:¬ p.1=k):oV (p::r) k=oV r k:=öo
theorem ń7 (k:κ):∀ tp:Kw,Om=(VQ).isSome
 | []=>rfl
 | p::r=>by
  rw[IS];ext Ϩ6
  .simp![ε1 e,DO e,Bool.true_or,ýc]
  .rw[ő9 e,FM e,Òy];show ń7 k r
def Ī0 ÔO Fh:(ϝ9).length<=WR+1:=by
 unfold putK;split
 .ext yJ
 .rw[GE,GM,P7];lia
def nk.ź4 Ψ2{u:B2}(r:nk o u):ÁL=u.isSome:=by
 cases o with
 | none=>cases u with
  | none=>rfl
  | some _=>show Ő8
 | some _=>cases u with
  | none=>show Ő8
  | some _=>rfl
theorem nk.getD Ψ2{u:B2}{d:V}{d':Ø}(r:nk o u) (rd:RelV d d'):RelV (o.getD d) (u.getD d'):=by
 cases o with
 | none=>cases u with
  | none=>show rd
  | some _=>show Ő8
 | some _=>cases u with
  | none=>show Ő8
  | some _=>show r
def KV.val Q1 (k:κ):nk (VQ) (Kx vs k):=by
 unfold KV at r
 induction r with
 | nil=>show Pt
 | @cons p q ps qs h t ih=>
  ext ĎI
  .have e':q.1=k:=ϡ6;have b:Kx Ρ8 k=↑q.2:=óc
   rw[ε1 e,b];show h2
  .have e':¬ q.1=k:=ϗ7;have b:Kx Ρ8 k=Kx qs k:=óc
   rw[ő9 e,b];show ih
theorem KV.any Q1 (k:κ):Om=ØZ:=by
 unfold KV at r
 induction r with
 | nil=>rfl
 | cons h t ih=>rw[IS,IS,ih,h.1]
def KV.jR Q1 (k:κ) {y:V}uO Ah:
  KV çz (vs.map λ kv=>if Oh then (kv.1,u) else kv):=by
 unfold KV at r ⊢
 induction r with
 | nil=>show ä
 | @cons p q ps qs h t ih=>
  ext Ξ2;exact ÁH;ext ĎI
  .rw[Ç e,Ç (ϡ6)];show#[h1,ry]
  .rw[É e,É (ϗ7)];show Į1
def KV.put Q1 (k:κ) {y:V}uO Ah:KV (putK Io y) (stored vs k u):=by
 unfold putK stored;rw[r.any k];by_cases e:(ØZ)=true
 .rw[Ç e,Ç e];show r.jR k ry
 .rw[É e,É e];show Paired.snoc r #[rfl,ry]
theorem KV.length Q1:WR=Κ:=GX r
end
def ŭ2 Ė Hd uO(r:RelV (kV k) u):(vJ P w).is k u=true:=by
 cases k with
 | inl i=>ext ċH;subst e;show á3 P w i t
 | inr x=>ext ċI;subst e;show ĉ0 P w x t
theorem ŉ2 Ė:∀ C3 Ο,Vals ÕB us->ÝD Qi ks us
 | [],_,r=>by ext ÚC;show ä
 | k::ks,_,r=>by
  rw[As] at r;cases r with
  | cons h t=>show ã (ŭ2 h) (ŉ2 t)
abbrev KT ô:yu->Ϛ9->Prop:=Γ λ p q=>äL
def KT.val æ ύ2 (k:dD):nk (VQ) ((ϴ7).map ũ):=by
 induction r with
 | nil=>show Pt
 | @cons p q ps qs h t ih=>
  let#[h1,_,h2]:=h;ext Ϩ6
  .have e':q.1=k:=ϡ6;have b:atKey Ρ8 k=↑q.2:=ðQ
   rw[ε1 e,b];show h2
  .have e':¬ q.1=k:=ϗ7;have b:atKey Ρ8 k=atKey qs k:=ðQ
   rw[ő9 e,b];show ih
def KT.jR æ ύ2 (k:dD) {y:V}uO Ah:
  KT H çz (Θ (putAt k u)):=by
 induction r with
 | nil=>show ä
 | @cons p q ps qs h t ih=>
  ext Ξ2;exact ÁH;let#[h1,h2,h3]:=h;unfold putAt;ext Ϩ6
  .rw[Ç e,Ç (ϡ6)];show#[h1,h2,ry]
  .rw[É e,É (ϗ7)];show ϡ7
def KT.put æ ύ2 (k:dD) Ni{y:V}uO(hb:Ëq) Ah:
  KT H (putK Io y) (storedH xs k b u):=by
 have e:Om=(ϴ7).isSome:=by
  rw[ń7,(r.val k).ź4,zhD]
 unfold putK storedH;rw[e];by_cases q:(ϴ7).isSome=true
 .rw[Ç q,Ç q];show r.jR k ry
 .rw[É q,É q];show Paired.snoc r #[rfl,hb,ry]
def KT.keeps BP ύ2 (ht:∀ b ys,H b=↑ Ρ1->DE=↑ Ρ1):KT H' tp xs:=
 Ϻ8 r λ _ _ z=>îT
section
variable {Ė}{æ}{Ĝ}{ú}
def ŀ9 {u:HO}Kn (e:Rd H a u):wX Ly u:=e.ok ok
def Ż8 tS Kn (e:ϴ8):XR:=
 show wX Ly ī0 from ŀ9 ok e
def ġ8 tS Kn (e:Δ9):XR:=Ż8 ok ζ4
def ś2 C3 Kn (e:H a=↑(Î ÕB)):(ϙ2).is h ks a:=by
 let#[_,its,r,o,h1,h2,n,h3]:=(show wX Ly (Î ÕB) from ok a _ e)
 show#[o,Ũ,n,h1,h2,h3,by exists ŉ2 r]
def μ8 {tp:yu}Kn (e:Ùa):ãj:=by
 let#[z,y,xs,r,o,es,ep,h1,h2,h3,h4,h5]:=(show wX Ly Α5 from ŀ9 ok e)
 exact#[z,y,xs,r,o,es,ep,h1,h2,h3,h4,ID,h5];have all:∀ {l:yu}{m:Ϛ9},KT H l m->∀ x∈m,(ϙ2).is h x.1 x.2.1:=by
  intro l m q
  induction q with
  | nil=>intro x hx;show nomatch hx
  | @cons p q ps qs hq t ih=>
   intro x hx;rcases ķ hx with e | hx
   .subst e;show ś2 ok (by rw[<- hq.1];show Us)
   .show ih II
 show all r II
def zb0 {tp:yu}Kn (e:H a=↑ Α5):ãj:=μ8 ok ζ4
end
def ŀ1 ô Ŵ (tp:FZ):Prop:=ϴ8\/∃ x,H a=↑(.dS x tp)
def Ś8 Ė æ Ĝ ú tS Kn (e:ŀ1 H a tp):XR:=by
 rcases e with e | ⟨x,e⟩
 .show Ż8 ok e
 .show ok a _ e
def lU ô Ŵ (y:V) (r:õ V):Prop:=
 (∃ tp k,ŀ1 H a tp/\y=kV k/\r=VQ)\/∃ tp k b,Ùa/\XU/\Ëq/\r=VQ
def cY ô Ŵ (y v:V) (H':Hp):Prop:=
 (∃ tp k,Δ9/\y=kV k/\η8/\H'=ûe)\/
 ∃ tp k b,H a=↑ Α5/\XU/\Ëq/\η8/\H'=upd H a (.dT (ϝ9))
theorem lU.k æ ú tS Hd(e:Δ9):lU H a (kV k) (VQ):=È #[tp,k,È ζ4,rfl,rfl]
theorem cY.k æ ú tS Hd ϋ(e:Δ9) (hl:η8):cY H a (kV k) v (ûe):=È #[tp,k,e,rfl,hl,rfl]
section
variable {Ì}{Ĵ}{ú}{y v:V}{u r:Ø}{Ψ2}{Eo}
theorem Inv.big Ú:ϳ7<Õ:=by
 have h:yo<Õ:=(èX).lt;show ð3 () h
def zb9 Ī Ϭ1 Ú (g:lU H a y ↑v) Ah (h:∀ w' s',ž7->RelV v w'->Q w' s'):
  Ä Ħ4 (V_ ĳ u) ï:=by
 ext Æo
 .ext ÈC;let#[w',hw,rw']:=ϳ9 (v:=v) (o:=Kx vs k) ĄM;show Ăr ÃD Λ1 hw (ĈF)
 .ext ÇF;let#[w',hw,rw']:=ϳ9 (v:=v) (o:=(ϴ7).map ũ) ĄM;let#[p,hp,d_]:=sj hw;exact wpAny_getItem_heap Èr dd hp ?_;rw[d_];show ĈF
def zb7 Ī Ϭ1 Ú ÖL Ah (h:∀ s',ž7->Q (FK (! ÁL)) s'):
  Ä Ħ4 (GJ tR u ĳ) ï:=by
 ext Æo
 .ext ÈC;exact ĈG ÃD hd Λ1 ?_;rw[<- (Ϧ9).ź4,<- l];show h _ Mp
 .ext ÇF;exact wpAny_notIn_heap Èr hd dd ?_;have q:=(Ϧ9).ź4;rw[zhD] at q;rw[<- q,<- l];show h _ Mp
def Ŗ5 WG F5{ob:HO}Ú (mu:ų4 (H a)) (hs:Ζ3) (he:ĈH) (new:wX η (upd H a ob) h' a ob):
  Inv Č (upd H a ob) { s with heap:=h',toks:=t' }:=
 Ο5 (x:=a) (e:=a) mu ì9 (λ b q hb z=>(qH Ϣ).trans z) he new
def Ř5 Ė Wc WG tS{vs:Ϥ2}(z:VT) (hd:M7) (rel:Rn) (dd:h'.DictOf Qi a vs):
  wX P w H' h' a ī0:=#[z,hd,vs,rel,dd]
def zb6 Wc AY Ϭ1 Ú (g:cY H a y v H') Ah (rv:RelV v r) (h:∀ s',Hf->Ι6):
  Ä Ħ4 (setItem ĳ u r) ï:=by
 rcases g with ⟨tp,k,e,ey,l,eH⟩ | ⟨tp,k,b,e,ey,eb,l,eH⟩
 .subst ey eH;let#[z,hd,vs,rel,dd]:=ġ8 uU;have hz:Ãz:=by rw[<- Ùb];show z
  ext éT
  exact wpAny_setItem_pairs (hsz:=hz) ÃD úg;have he:ĈH:=éa
  show Ŗ5 I Ϩ8 hs he (Ř5 hl hd (rel.put k rv) dd')
 .subst ey eH;cases ćQ;let#[z,hd,xs,rel,dd]:=zb0 uU;have hz:CO:=by rw[<- GX rel];show z
  ext éT
  exact wpAny_setItem_heap (hsz:=hz) Èr úg;let#[q,es,ep,hq,h2,h3,h4,_,h5]:=dd';exact Ŗ5 I Ϩ8 hs #[q,hq] #[hl,hd,_,(rel.put k eb rv).keeps λ c ys ec=>?_,q,es,ep,hq,h2,h3,h4,h5];rw[zR (Ÿ8 ec e (λ z=>Ás))];show ec
end
section
variable {Ì}{Ĵ}{ú}{tS}{Eo}
theorem zb8 Ī Ú (e:ϴ8) (h:∀ t s',ž7->Q (Â WR t) s'):Ä Ħ4 (call ϴ2 Dd) ï:=by
 let#[z,hd,vs,rel,dd]:=Ż8 uU;exact call_len_dict hd dd (by rw[<- Ùb];rw[NU] at z;lia) ?_;rw[<- Ùb];show h À Mp
end
def ū8 (i:Expr):Prop:=∀ ov iv,Ϯ4 i Á ov iv=operate [ov,iv] (V_ ov iv)
def Ņ4 ώ tK{Fg qO:Expr}Ē{T id:ń}Ī
  (hl:èx) (hs:ū8 qO)
  (h:Ä í (eval Fg env) (λ o s₁=>Ä í (eval qO env) (λ i s₂=>s₂.TypeIs o T/\Ä í (V_ o i) Q E s₂) E s₁) E s):
  Ä í (eval (sP Fg qO pos) env) ï:=by
 exact ØE (EQ h (λ o s₁ h₁=>EQ h₁ (λ i s₂ h₂=>?_) XH) XH);let#[hT,h₂]:=h₂;unfold Òd;exact He;rw[getitemInPython_of_ne hT.not_modules];exact AC (ÏC hT hl ?_);have fin:Ä í (Ϯ4 qO Á o i) (λ r s₃=>Ä í (letTemporaryGo Fg o r >>= λ _=>pure r) Q E s₃) E s₂:=by
  rw[hs o i];show wpAny_operating (EQ h₂ (λ r s₃ h₃=>AC (wpAny_letTemporaryGo (AT h₃))) XH)
 first
  | show ČC
  | show AC (ČC)
  | show AC fin
def zb2 Ì Ĵ ú{y:V}Ψ2 Ú ÖL:ĈI:=by
 rcases g with ⟨tp,k,e,_,_⟩ | ⟨tp,k,b,e,_,_,_⟩
 .let#[_,_,vs,_,dd]:=Ś8 uU;show Ζ8
 .let#[_,_,xs,_,dd]:=μ8 uU;show Ζ8
def Ē5 (td ty:TE):TE:=fun σ H Q=>td ç λ x H1=>ty Ş λ y H2=>∃ a v,LJ/\lU H2 a y ↑v/\Q v H2
def Ę2 (ty td:TE):TE:=fun σ H Q=>ty ç λ y H1=>td Ş λ x H2=>∃ a o,LJ/\lU H2 a y o/\Q (.bl (! ÁL)) H2
def Â9 (td ty tv:TE):TS:=λ D σ H=>tv ç λ v H1=>td Ş λ x H2=>ty σ H2 λ y H3=>∃ a H4,LJ/\cY H3 a y v H4/\D.nx σ H4
section
variable {Ì}{o i Fg:Expr}{pos pos':Pos}{td ty tv:TE}
def Ŀ1 Êc ÖM Ν2:PE X Ϧ1 (Ē5 Ħ7):=by
 ext ŧ;exact Ņ4 ëH Ăs;let#[x,H1,I1,rx,q1]:=z0;exact ðF;let#[y,H2,I2,ry,a,v,ex,g,q2]:=z0;ext ħ9;show#[zb2 I2 g,zb9 hu I2 g ry λ w' s3 I3 rw'=>#[v,H2,I3,rw',q2]]
def ü7 (hu:Lh+1<Ε) ÖM (ho:PE X o td):Ě7 X tR i o (Ę2 ty td):=by
 ext ŧ;exact zF ÃE λ iv s1 z0=>?_;let#[y,H1,I1,ry,q1]:=z0;exact òc;let#[x,H2,I2,rx,a,ov,ex,g,q2]:=z0;ext ħ9;show zb7 hu I2 g ry λ s3 I3=>#[.bl (!ov.isSome),H2,I3,rfl,q2]
def Ņ2 Êc ÖM (hv:PE X Fg tv) (hs:tH Fg ↑(Ao) U_=su):
  PS X (B_ [Ao] Fg pos) (Â9 Ħ7 tv):=by
 ext DW;exact wpAny_Assign_Subscript (zF (hv Gn) λ r s1 z0=>?_) hs;let#[v,H1,I1,rv,q1]:=z0;exact òc;let#[x,H2,I2,rx,q2]:=z0;exact zF (hi ϲ5) λ iv s3 z0=>?_;let#[y,H3,I3,ry,a,H4,ex,g,q3]:=z0;ext ħ9;show zb6 hu I3 g ry rv λ s4 I4=>#[σ,H4,I4,q3]
end
def Õ5 Ė æ Ľ (hb:ϳ7<Ĩ):wX Ş7 (ÇC) Ĩ Y6:=
 #[GO,ED (Ł (FS hb)),[],ä,Heap.DictOf.new h]
def ï7:TE:=λ _ H Q=>∀ p,Gs->Q ī ČD
section
variable {Ì}{Ē}
def Ĺ3:PE X ĈJ ï7:=λ gV s σ H Q I h=>
 wpAny_Dict_empty #[KM,_,B6 ĀL èa,rfl,h _ Ui]
end
def ů9:Qg->St->Hp->(ϯ1->rM)->Prop
 | [],_,H,Q=>Q [] H
 | (tk,tv)::r,σ,H,Q=>tk ç λ x H1=>tv Ş λ y H2=>ů9 r σ H2 λ ps H3=>Q (ÃF::ps) H3
abbrev ĭ4:ϯ1->ĎO->Prop:=Γ λ p q=>RelV p.1 q.1/\RelV p.2 q.2
def Z2 î (pos:Pos) (keys:PB) (η9:Bl) (trs:Qg):Prop:=
 ∀ Ű (Q:ϯ1->rM),ŉ->ů9 trs ź->
  Ä Ā (evalPairs (pairTrees ō9 Ù pos)) (λ vs s'=>∃ ps H',Hf/\ĭ4 ps vs/\Q ps H') Ï1
def ç4 Ì Ē:Z2 ä9 Co []:=λ gV s σ H Q I h=>pairTrees_nil_walk ôb
def È3 Ì Ē{k v:Expr}{ks:PB}{vs:Bl}{tk tv:TE}{trs:Qg}(hk:PE X k tk) (hv:PE X v tv) (hr:Z2 ä9 ks vs trs):
  Z2 ä9 (↑k::ks) (v::vs) ((tk,tv)::trs):=λ gV s σ H Q I h=>
 pairTrees_cons_walk (zF (hk Gn) λ u s1 #[x,H1,I1,rx,q1]=>zF (hv tP) λ w2 s2 ód=>
  zF (hr ϲ5) λ ws s3 #[ps,H3,I3,rel,q3]=>#[ÃF::ps,H3,I3,ã #[rx,ry] rel,q3])
def dB (tp more:FZ):FZ:=more.foldl (λ acc kv=>putK acc kv.1 kv.2) tp
def KV.merge:∀ {more:FZ}{rs:Ϥ2}tS{vs:Ϥ2},KV more rs->Rn->KV (dB tp more) (merged vs rs):=by
 intro more rs tp vs r;unfold KV at r
 induction r generalizing tp vs with
 | nil=>intro q;show q
 | @cons p q ps qs h t ih=>
  intro r0;have e:KV Òz (stored vs ÄY):=by
   have:=r0.put p.1 h.2;rw[<- h.1];show this
  show ih e
theorem ŉ3:∀ (more tp:FZ),(dB tp more).length<=WR+ÕC
 | [],tp=>by change WR<=WR+0;lia
 | p::r,tp=>by
  have h1:=ŉ3 r Òz;have h2:=Ī0 tp qA;change (dB Òz r).length<=_;rw[GM];lia
theorem Ň4 Ė:∀ tS{ws:ĎO},ĭ4 (Mm Ër) ws->∃ rs,Carries Qi ws rs/\KV tp rs
 | [],_,r=>by ext ÚC;show#[[],Pt,ä]
 | p::tp,_,r=>by
  rw[As] at r;cases r with
  | @cons a b as bs h t=>
   let#[rs,c,q]:=Ň4 (P:=P) (w:=w) t;let#[b1,b2]:=b;show#[(p.1,b2)::rs,#[ŭ2 h.1,rfl,c],ã #[rfl,h.2] q]
def è6 (trs:Qg):TE:=fun σ H Q=>∀ p,Gs->ů9 trs σ ČD λ ps H2=>H2 p=↑ Y6/\∃ tp:FZ,ps=Mm (Ër)/\WR<=15/\Q ī (upd H2 p (.dK (dB [] tp)))
def ÿ8 Ì Ē{keys:PB}{η9:Bl}{trs:Qg}(h:Z2 ä9 ō9 trs) (hall:keys.all (·.isSome)=true) (hl:ÿy) (h0:keys≠[])
  (UL:ÏD<=15):PE X (.Dict ō9 pos) (è6 trs):=by
 intro gV s σ H Q I q;have hn:=CG (zA4 Õ);have I1:=B6 ĀL (h':=Èa) èa;exact wpAny_Dict_walk (knd:=vJ η) hall hl h0 UL (zF (h gV _ σ À I1 (q _ hn)) λ ws s2 z0=>?_);let#[ps,H2,I2,rel,e,tp,ep,lk,q2]:=z0;subst ep;let#[rs,c,rk]:=Ň4 ćg rel;let#[z,hd,vs0,r0,dd]:=ġ8 I2.zt e;cases r0;exact#[rs,c,dd,λ h' dd' hs=>#[KM,_,?_,rfl,q2]];have hz:(dB [] tp).length<=â:=by
  have h1:=ŉ3 tp [];rw[P7] at h1;rw[NU];lia
 have he:∃ q,ι Õ=↑q:=éa
 show Ŗ5 I2 Ϩ8 hs he (Ř5 hz hd (rk.merge ä) dd')
structure M2 î (o:Expr) ο6 (apos:Pos) (e f:Expr) (cpos:Pos):Prop where
 base:qM o m Ea=tN
 aQ:((òd).all Q6&&PH
  && Í (([e,f]:Bl).length+KH+Kk<30))=true
 line:χ9
 trees:òd=[Β9,(Á,eval f Ù)]
def Ğ7 ô Ŵ:Prop:=(∃ tp,ϴ8)\/∃ tp,Ùa
def zaq Ì Ĵ ú Ú (d:Ğ7 H a):
  ĈI/\(∀ b,đ a=Oa->∃ ob,ż b=↑ob/\ob.dict=none)/\M7:=by
 rcases d with ⟨tp,e⟩ | ⟨tp,e⟩
 .let#[_,hd,vs,_,dd]:=Ż8 uU;ext åo
 .let#[_,hd,xs,_,dd]:=μ8 uU;ext åo
section
variable {Ì}{Ĵ}{ú}{y d:V}{u r:Ø}{Ψ2}{Eo}
def zca Ī Ϭ1 Ú ÖL Ah (rd:RelV d r) (h:∀ w' s',ž7->RelV (o.getD d) w'->Q w' s'):
  Ä Ħ4 (call (ϐ "dict.get") [œ,u,r]) ï:=by
 ext Æo
 .ext ÈC;exact call_meetsIn âr (meets_dict_get_default Ãh a ÃD hd r) #[_,Λ1,h À Mp ?_];rw[l];show ČE
 .ext ÇF;exact call_meetsIn âr (meetsH_dict_get_default (Ûn Ãh) Ñ hd r) #[öX,k,xs,ś2 I.zt eb,dd,h À Mp ?_];rw[l];show ČE
end
def ý8 (td ty tx:TE):TE:=fun σ H Q=>td ç λ x H1=>∃ a,LJ/\Ğ7 H1 a/\ty Ş λ y H2=>tx σ H2 λ z H3=>∃ o,lU H3 a y o/\Q (o.getD z) H3
section
variable {Ì}{o e f:Expr}{sW}{td ty tx:TE}
def ę3 Êc (he:PE X e ty) (hf:PE X f tx) (m:ðR):PE ÈE (ý8 Ħ7 tx):=by
 ext ŧ;exact wpAny_Call_method m.base m.aQ m.line PySem.F.plainAttrs_dict öY PySem.F.type_dict_get Ăs;let#[x,H1,I1,rx,a,ex,d,q1]:=z0;ext ħ9;let#[t1,t2,_]:=zaq I1 d;exact#[t1,t2,?_];rw[m.trees];exact TF rfl (âX (Xm (zF (he tP) λ iv s2 ód=>
  Xm (zF (hf ϲ5) λ fv s3 #[z,H3,I3,rz,ov,g,q3]=>ÊL ?_))))
 show zca hu I3 g ry rz λ w' s4 I4 rw'=>#[_,H3,I4,rw',q3]
end
end L2
namespace L3
open Ë å L2
open Ô hiding St
def vB Χ9 ô2:õ D:=ËM
def putD Χ9 ô2 (v:D):rF:=
 Æu
section
variable {Ý}{æ}
def θ0:∀ Ϣ8,RZ->∀ k,(vB Io=none/\oV vs k=none)\/∃ d v,vB Io=↑d/\oV vs k=↑v/\Vc:=by
 intro tp vs z k;unfold wu at z
 induction z with
 | nil=>show È Dj
 | @cons x y _ _ q t ih=>
  let#[a,d]:=x;let#[b,v]:=y;let#[e,r]:=q;have e':a=b:=e;subst e';by_cases h:a=k
  .subst h;show Æ #[d,v,by simp[vB],by simp[oV],r]
  .rcases ih with ⟨h1,h2⟩ | ⟨d',v',h1,h2,h3⟩
   .show È #[ôk,õb]
   .show Æ #[d',v',ôk,õb,h3]
theorem wu.any ώ2 ô2:Om=ØZ:=by
 induction h with
 | nil=>rfl
 | cons r _ ih=>rw[IS,IS,ih,r.1]
def wu.len ώ2:WR=Κ:=GX h
def wu.jR Hd û ϋ π5:∀ Ϣ8,RZ->wu Ò (Mm Ès) (vs.map êY):=by
 intro tp vs z;unfold wu at z
 induction z with
 | nil=>show ä
 | @cons x y _ _ q t ih=>
  let#[a1,a2]:=x;let#[b1,b2]:=y;let#[e,q]:=q;have e':a1=b1:=e;subst e';exact ÁH;by_cases hk:a1=k
  .simp[hk,r]
  .simpa [hk] using q
def wu.snoc Hd û ϋ π5:∀ Ϣ8,RZ->wu Ò ÕD (vs++[ϩ1]):=λ h=>by
 induction h with
 | nil=>show ã #[rfl,r] ä
 | cons q t ih=>show ã q ih
def wu.put ώ2 ô2 û ϋ π5:wu Ò (putD Io d) (putK vs k v):=by
 unfold putD putK;rw[h.any k];split
 .show wu.jR r h
 .show wu.snoc r h
def ù4 (a:Key) (b:D) Χ9 (j:Key):vB (ÃG) j=if a=j then ↑b else vB tp j:=by
 by_cases h:a=j <;> simp[vB,h]
end
section
variable {Ì}{o i e f v:Expr}{td ty tx tv:zr}{pos pos' apos cpos:Pos}
def Ņ5:zr:=λ _ S Q=>∀ p,BL->Q ī (ups S p (θ1))
def â9:PD X ĈJ Ņ5:=by
 exact#[λ _ _ _ _ hq z p hp=>ČF,Œ Ĺ3 fun σ H Q hu p hp=>?_];ext ŀ;show z p (r2.none hp) Ó2 Ι (r2.ups Ι Ăt)
def ĵ9 (td ty:zr):zr:=fun L S Q=>td L S λ x S1=>ty Ĺ λ y S2=>∃ p tp k d,B1/\Xz/\S2 p=↑ VS/\vB ş3=↑d/\Q d S2
def â4 ý ν Êh Ν2:PD X Ϧ1 (ĵ9 Ħ7):=by
 exact#[fun L S Q Q' hq z=>CT ó (λ x S1 z=>Ð1 ς (λ y S2 z0=>by let#[p,tp,k,d,a,b,c,e,h]:=z0;show#[p,tp,k,d,a,b,c,e,Å5]) z) z,Œ (Ŀ1 Xq ßx hs) Ų];ext èT;exact Ģ Ð1 éK;let#[p,tp,k,d,rfl,rfl,c1,c2,h]:=h2;subst q1 q2;let#[vs,g1,g2]:=p2 À c1;rcases θ0 g2 FY with ⟨n1,_⟩ | ⟨d',v',n1,n2,n3⟩
 .rw[c2] at n1;cases n1
 .rw[c2] at n1;cases n1;show#[p,v',rfl,n2▸lU.k ÔP,h v' H2 n3 iW]
def į4 (td ty tx:zr):zr:=fun L S Q=>td L S λ x S1=>∃ p,B1/\ûf/\ty Ĺ λ y S2=>tx L S2 λ z S3=>∃ k tp,Xz/\ÖW/\Q ((vB ş3).getD z) S3
def ø8 ý ν ãw:PD ÈE (į4 Ħ7 tx):=by
 ext àj;ext àB;exact#[oV vs FY,lU.k ÔP,?_];rcases θ0 g2 FY with ⟨n1,n2⟩ | ⟨d',v',n1,n2,n3⟩
 .ext Ϻ3;show Ău
 .ext Ϻ3;show Ăv
def Ě6 (td ty tv:zr):yK:=λ E L S=>tv L S λ v S1=>td Ĺ λ x S2=>ty L S2 λ y S3=>∃ p tp k,B1/\Xz/\ÖW/\η8/\E.nx L (ups S3 p (.yf (putD ş3 v)))
theorem Ext.dK æ BE tS(h:ϩ0) (o:HO):ϛ8:=
 ÅN
theorem ô9 ý ν Êh (hv:PD X v tv) (hs:tH v ↑(Ao) U_=su):zw X ÿz (Ě6 Ħ7 tv):=by
 exact#[λ E E' L S hE z=>hv.mo ó (λ w S1 z=>CT ς (λ x S2 z=>Ð1 L Xs (λ y S3 z0=>by let#[p,tp,k,a,b,c,d,h]:=z0;show#[p,tp,k,a,b,c,d,ÝE]) z) z) z,GK (Ņ2 Xq ßx hv.pe hs) Hc];ext áN;let#[p,tp,k,rfl,rfl,c1,c2,h]:=h3;subst q2 q3;ext ĀM;have e4:Ext H3 (upd H3 p (.dK (putK vs FY w1))):=.dK g1 _;exact#[p,_,rfl,cY.k ÔP (by rw[<- g2.len];show c2),?_];show h äK (p3.ups e4 #[_,yy,(wu.put g2 _ óe).ext e4])
def zcN:wI X ϴ2 (λ xs H Q=>∃ p tp,Yb/\ϩ0/\Q ÝF H):=by
 ext Hh;let#[p,tp,rfl,e,q]:=h;ext e9;show zb8 I ζ4 λ t s' I'=>#[rV,H,I',ξ,q]
def ŋ4:wG:=λ ds S Q=>∃ p tp,ds=Mr/\S p=↑ VS/\Q ÝF S
def ê2 Ń υ{p:Pos}(hm:ĆT) È5 (hg:Gl X "len") BC:PD X öU (o7 ŋ4 tA):=
 ji (jU zcN úb) (λ _ _ _ _ hq z0=>by let#[p,tp,a,b,h]:=z0;show#[p,tp,a,b,Å5]) (λ xs ds H S Q h0 h2 #[p,tp,a,b,h]=>by
  subst a;let#[x,rfl,h1]:=h0.one;subst h1;let#[vs,g1,g2]:=h2 À b;exact#[p,vs,rfl,g1,?_];rw[<- g2.len];show Vh) ĝ
end
end L3
namespace L3
open Ë L2
section
variable {é9}
mutual
theorem BH Sq:∀ Ť û,ĈK
 | .zB,d,q=>ç7
 | ω,d,q=>ç7
 | Ą,d,q=>ç7
 | ů,d,q=>ç7
 | ő,d,q=>by
  ext U6;show#[ds,q1,Ź h ts q2]
 | Δ,d,q=>by
  ext U6;exact#[ds,?_,Ź h ts q2];ext óP
  .show È q1
  .show Æ #[a,q1,h À q3]
 | A6 À t,d,q=>by
  ext Øg;let#[x,q1,q2]:=q;show#[x,q1,Ùc]
 | uV,d,q=>by
  ext Øg;let#[a,m,q1,q2,q3]:=q;show#[a,m,q1,h À q2,Ź h ts q3]
theorem Ź Sq:∀ Ø2 ñ,ĈL
 | [],ds,q=>ËF
 | Ņ,ds,q=>by
  ext Èp;show#[c,cs,q1,Ùc,Ź h ts q3]
end
def O2:zo S Co:=by simp![zo]
def IQ sr ÿ û ñ(h:uL) (h':ϓ):zo S (Ņ) (DQ):=by
 simp![zo];show#[d,ds,rfl,h,h']
theorem zo.append:∀ ĳ8 ÀM,ϓ->ØY->zo S ϣ2 Jb
 | [],us,ds,es,h,h'=>by ext NW;exists h'
 | Ņ,us,ds,es,h,h'=>by
  ext T4;show IQ h1 (zo.append h2 h')
theorem zo.ų9:∀ ÿ ñ ă sr,ϓ->ts[i]?=↑t->∃ d,ſ0/\uL
 | [],_,i,t,_,e=>ÚH
 | u::ts,ds,i,t,h,e=>by
  ext T4;cases i with
  | zero=>ext Ι2;show Ïz
  | succ i=>
   let#[y,e1,e2]:=zo.ų9 (i:=i) h2 K1;show ÉJ
theorem zo.ŝ6:∀ ÿ ñ ă û,ϓ->ſ0->∃ t,ts[i]?=↑t/\uL
 | [],ds,i,t,h,e=>by ext NW;simp at e
 | u::ts,ds,i,t,h,e=>by
  ext T4;cases i with
  | zero=>ext Ι2;show#[u,rfl,h1]
  | succ i=>
   let#[y,e1,e2]:=zo.ŝ6 (i:=i) h2 K1;show ÉJ
def zo.len ÿ ñ Ļ9:t4=ē:=(L3.zo.length h).symm
theorem zo.at ÿ ñ Gq sr Ļ9 (e:ÝG=↑t):∃ d,Ýr/\uL:=by
 unfold Ĭ at e ⊢;rw[HI];cases q:L2.pH ē i with
 | none=>ext Tv
 | some j=>
  rw[q] at e;show h.ų9 e
theorem zo.Ń6:∀ ÿ ñ sr û Ü,ϓ->uL->zo S (ts.set i t) (ds.set i d)
 | [],ds,t,d,i,h,_=>ϔ2
 | u::ts,ds,t,d,0,h,hd=>by
  ext T4;show IQ hd h2
 | u::ts,ds,t,d,i+1,h,hd=>by
  ext T4;show IQ h1 (zo.Ń6 i h2 hd)
theorem ÝH:∀ ÿ ñ ą,ϓ->zo S (ts.take n) (ds.take n)
 | ts,ds,0,h=>by exists O2
 | [],ds,n+1,h=>ϔ2
 | Ņ,ds,n+1,h=>by
  ext T4;show IQ h1 (ÝH n h2)
theorem ÝI:∀ ÿ ñ ą,ϓ->zo S (Nx n) (ds.drop n)
 | ts,ds,0,h=>h
 | [],ds,n+1,h=>ϔ2
 | Ņ,ds,n+1,h=>by
  ext T4;show ÝI n h2
def zo.empty ÿ ñ Ļ9:ØN=Ùd:=by
 have:=HI;cases ds <;> cases ts <;> simp_all
theorem zo.ŏ0:∀ {bs:tM}ñ,zo S (ÝJ) ds->ds=B4 D.bl
 | [],ds,h=>ïc
 | b::bs,ds,h=>by
  rw[As] at h;let#[c,cs,rfl,rfl,h3]:=h;rw[zo.ŏ0 h3];rfl
end
end L3
local macro_rules|`(tactic|cases $e:ident)=>`(tactic|first|(injection $e:ident with z;subst z)|cases ($e))
namespace L5
open Ë L2 L3
def yj Å9 Ģ5:SS:=open Ûm in λ a=>if Z a then none else S a
section
variable {é9}{Z Z':An}{a p:Addr}
def nP (h:¬ Z a):ÝK=S a:=Fv
def ŭ3 (h:Z a):ÝK=none:=Ç h
def nN ą1(h:ÝK=↑o):¬ Z a/\Ýn:=by
 by_cases z:Z a
 .rw[ŭ3 z] at h;cases h
 .rw[nP z] at h;show#[z,h]
def Ķ1 Å9 Ģ5:Sx qa S:=λ _ _ h=>(nN h).2
def oG Sq:Sx qa Àf:=λ b o q=>by
 ext OL;rw[nP q1];show h À q2
def mn (h:ĈM):Sx qa Àg:=λ b o q=>by
 ext OL;rw[nP (λ z=>q1 (h _ z))];show q2
def Ŋ7 Sq (hp:BL):Sx qa ϔ9:=λ b o q=>by
 ext OL;rw[nP]
 .show h À q2
 .rintro (z | z)
  .show q1 z
  .subst z;rw[hp] at q2;cases q2
theorem zaJ ą1(h:Z p):yj Õv Z=yj S Z:=by
 funext b;by_cases z:Z b
 .rw[ŭ3 z,ŭ3 z]
 .rw[nP z,nP z,kD (λ e=>z (by rw[e];show h))]
end
inductive C where
 | lst Ø2 | yf ĸ7 | zE (ks:dD) Ø2
def xR Ν0 Å9:List (κ × T)->List (κ × D)->Prop
 | [],l=>l=[]
 | Ùe,l=>∃ d m,l=O0::m/\uL/\xR S r m
theorem WS Ν0 é9 Sq:∀ {a:List (κ × T)}{b:List (κ × D)},OU->xR S' Ñ
 | [],_,q=>q
 | Ùe,_,q=>by
  let#[d,m,q1,q2,q3]:=q;show#[d,m,q1,Ùc,WS h q3]
def j0 Å9:C->O->Prop
 | Δ,Jr=>ϓ
 | .yf a,.yf b=>OU
 | uV,.zE m=>ſ3/\ÁJ
 | _,_=>ê
theorem j0.sx é9 Sq:∀ {c:C}ą1,j0 S c o->j0 S' c o
 | Δ,Jr,q=>Ź h ts q
 | .yf a,.yf b,q=>WS h q
 | .zE _ ts,.zE _,q=>#[q.1,Ź h ts q.2]
inductive W where
 | im Ť | own (c:C)
abbrev Ev:=List (õ W)
abbrev zEO:=ÃH
abbrev zLO:=ö->G9
structure ER Å9 Ģ5 (L:yS) Ï8:Prop where
 zd:Ww
 im:∀ Ü t,ĸ=↑↑ Ρ9->∃ d,Òi/\Sn qa t d
 ow:∀ Ü c,ĸ=↑↑(ì c)->∃ p o,Bs/\S p=↑o/\j0 qa c o/\Z p
def Vw Å9 Ģ5 (y:T) ø3:Prop:=Γ9\/(∃ ts p ds,y=Δ/\d=Ŗ/\WM/\BJ/\Z p)\/∃ ks ts p m,y=uV/\d=Ŗ/\Qk/\ſ3/\Ùf/\Z p
abbrev Rk:=SS->SS->(An)->T->D->Prop
def Ř4:Rk:=λ _ S' Z y d=>Vw zO
def zq:Rk:=λ _ S' Z y d=>Xk
def zk:Rk:=λ S S' Z y d=>Xk/\∀ ts,y=Δ->∃ p ds,d=Ŗ/\BL/\S' p=↑ Dc/\zo ϔ9 DP
class Cl ā8:Prop where
 cl:∀ {S S1 S':SS}Ï9 Ŀ û,Sx S S1->R S1 zO->OE
 of:∀ é9 Ï9 Ŀ û,(ÒA)->Xk->OE
instance:Cl Ř4:=#[ÁM,λ _ h=>È h]
instance:Cl zq:=#[ÁM,ÁM]
instance:Cl zk:=#[λ s h=>#[h.1,λ ts e=>by
 let#[p,ds,h1,h2,h3]:=h.2 ts e;show#[p,ds,h1,θ2 h2,h3]],λ n h=>#[h,λ ts e=>á e (n ts)]]
section
variable {é9}{Ï9}{xr}{ß}{Ŀ}{û}
def ER.grow (h:GL) W_:ER S' Z L Y:=
 #[λ a z q=>h.zd Óf,λ i t e=>by
  ext þl;show#[d,h1,BH Ry t h2],λ i ts e=>by
  let#[p,ds,h1,h2,h3,h4]:=h.ow i ts e;show#[p,ds,h1,s Ik,j0.sx Ry h3,h4]]
def ÃI (h:Δ0) W_:Vw zO:=by
 rcases h with h | ⟨ts,p,ds,h1,h2,h3,h4,h5⟩ | ⟨ks,ts,p,m,h1,h2,h3,h4,h5,h6⟩
 .show È (BH Ry y h)
 .show Æ (È #[ts,p,ds,h1,h2,s À h3,Ź Ry ts h4,h5])
 .show Æ (Æ #[ks,ts,p,m,h1,h2,s À h3,h4,Ź Ry ts h5,h6])
def Vw.sn (h:Δ0):Sn S y d:=by
 rcases h with h | ⟨ts,p,ds,rfl,rfl,h3,h4,_⟩ | ⟨ks,ts,p,m,rfl,rfl,h3,h4,h5,_⟩
 .show BH ÁN y h
 .ext â8;show#[ds,Æ #[p,rfl,h3],Ź ÁN ts h4]
 .ext â8;show#[p,m,#[rfl,h4],h3,Ź ÁN ts h5]
theorem Vw.zB (h:Vw S Z .zB d):d=.zB:=by
 ext P0
 ext MH
 .cases h
 .cases h
theorem Vw.bl Dn(h:Vw S Z Cu d):d=ω:=by
 ext P0
 ext MH
 .cases h
 .cases h
theorem Vw.int {b:Int}(h:Vw S Z vD d):d=HJ:=by
 ext P0
 ext MH
 .cases h
 .cases h
theorem Vw.str {b:Str}(h:Vw S Z (qX) d):d=qX:=by
 ext P0
 ext MH
 .cases h
 .cases h
theorem Vw.tup ÿ(h:Vw S Z Ad d):∃ ds,d=AA/\BJ:=by
 ext P0
 ext MH
 .cases h
 .cases h
theorem Vw.lst ÿ(h:Vw S Z Ae d):∃ ds,(d=qp\/õw)/\BJ:=by
 rcases h with h | ⟨us,p,ds,h1,h2,h3,h4,_⟩ | ⟨_,_,_,_,h,_⟩
 .ext ÑS;exact#[ds,?_,h2];rcases h1 with h1 | ⟨a,h1,h3⟩
  .show È pV
  .show Æ #[a,h1,Ûo]
 .cases h1;show#[ds,Æ #[p,h2,h3],h4]
 .cases h
def oZ:T->õ (ö)
 | ő=>↑ts
 | Δ=>↑ts
 | _=>none
@[simp] theorem Ē3 Ø2:oZ Ad=↑ts:=rfl
@[simp] theorem À8 Ø2:oZ Ae=↑ts:=rfl
def Vw.seq ÿ(h:Δ0) (e:Ùg):∃ ds,Ϗ4/\BJ:=by
 cases y with
 | tup us=>cases e;let#[ds,rfl,h2]:=h.tup;show Ăw
 | lst us=>
  cases e;obtain⟨ds,h1 | ⟨a,rfl,h1⟩,h2⟩:=h.lst
  .subst h1;show Ăw
  .show#[ds,by unfold yG;ext ÄP,h2]
 | _=>cases e
theorem Vw.zE C3 ÿ(h:Vw S Z (uV) d):∃ a m,(d=œ/\ſ3)/\S a=↑ ÃC/\Ùf:=by
 rcases h with h | ⟨_,_,_,h,_⟩ | ⟨ks',ts',p,m,e,rfl,h1,h2,h3,_⟩
 .let#[a,m,h1,h2,h3]:=h;show#[a,m,h1,(nN h2).2,h3]
 .cases h
 .cases (e);show#[p,m,ſ4,h1,h3]
def Į5:Sn S .zB .zB:=Ζ9
def œ7 Dn:Sn S Cu Cu:=Ζ9
def Ť2 Gq:Sn S qC qC:=Ζ9
def mS ā:Sn S qQ qQ:=Ζ9
def jO ÿ ñ Ļ9:Sn S Ad (AA):=by ext â8;show#[ds,rfl,h]
def kE ÿ ñ BE(hz:Ww) (hp:BL) (h:BJ):zk S ÍA Z Ae ī:=by
 have nz:¬ Z p:=λ z=>hz p z hp;have s:Sx S ÍA:=av;exact ýj
 .ext â8;show#[ds,Æ #[p,rfl,by rw[nP nz,mL]],Ź Ry ts h]
 .cases e;show#[p,ds,rfl,hp,mL,Ź Àh ts h]
end
def zI ā8 ŷ bK:Prop:=∀ S Z L Y y Q,GL->N1->(ôl)->t å8
abbrev wO:=zI zq
abbrev yO:=zI Ř4
abbrev wW:=zI zk
def zI.imp {R R':Rk}Ĉ OI(h:zI R f t) (i:∀ S S' Z y d,OE->R' S zO):zI R' f t:=λ S Z L Y y Q hE e hq=>h Ţ y Q hE e λ d S' s r=>hq ύ s (i qd r)
def zI.er Ĉ OI(h:wO f t):yO f t:=h.imp λ _ _ _ _ _ r=>È r
def zI.Ę9 Ĉ OI(h:wW f t):wO f t:=h.imp λ _ _ _ _ _ r=>r.1
def zI.fr Ĉ OI(h:wW f t):yO f t:=h.Ę9.er
@[simp] def zx Ü:zEO:=fun Y=>match ĸ with
 | some ↑ Ρ9=>↑t
 | _=>none
@[simp] def zb Ü:zEO:=fun Y=>match ĸ with
 | some ↑ Ρ9=>↑t
 | Cw=>↑ Ae
 | ÿA=>↑(uV)
 | _=>none
@[simp] def cS Ť:zEO:=λ _=>↑t
@[simp] abbrev cI C8:zEO:=cS qC
def É3 Ü:wO (zx i) rE:=λ S Z L Y y Q hE e hq=>by
 unfold zx at e;cases h:ĸ with
 | none=>ext ÂO
 | some o=>
  rw[h] at e;cases o with
  | none=>show ť
  | some v=>
   cases v with
   | own c=>show ť
   | im t=>
    cases e;ext Ëm;ext eP;show hq d Gz h2
def Î3 Ü:yO (zb i) rE:=λ S Z L Y y Q hE e hq=>by
 unfold zb at e;cases h:ĸ with
 | none=>ext ÂO
 | some o=>
  rw[h] at e;cases o with
  | none=>show ť
  | some v=>
   cases v with
   | im t=>
    cases e;ext Ëm;ext eP;show hq d Gz (È h2)
   | own c=>
    let#[p,o,h1,h2,h3,h4]:=hE.ow i _ h;ext eP;cases c with
    | lst ts=>
     cases e;cases o with
     | lst ds=>show hq _ Gz (Æ (È #[ts,p,ds,rfl,rfl,h2,h3,h4]))
     | _=>show u_
    | zE ks ts=>
     cases e;cases o with
     | zE m=>show hq _ Gz (Æ (Æ #[ks,ts,p,m,rfl,rfl,h2,h3.1,h3.2,h4]))
     | _=>show u_
    | _=>show ť
def ē5 C8:wW (cS qC) (dC qC):=λ S Z L Y y Q hE e hq=>by cases e;show DF
def Þ3 (i:Bool):wW (cS (.bl i)) (dC (.bl i)):=λ S Z L Y y Q hE e hq=>by cases e;show HF
def Đ9 (i:Str):wW (cS (Ã i)) (dC (Ã i)):=λ S Z L Y y Q hE e hq=>by cases e;show ZS
def ÿ6:wW RP (dC .zB):=λ S Z L Y y Q hE e hq=>by cases e;show hq _ Gz (EV E8 Į5)
@[simp] def ze (f:Ŝ) (fa fb:zEO):zEO:=fun Y=>ſ5 λ x=>jZ λ y=>QL
def xo ā8 (f:Ŝ) (g:wx):Prop:=∀ S Z x y z d e Q,(Ww)->Vw S Z x d->Vw S Z y e->QL=↑z->êE->g d e S Q
def Ο9 ę IT {f:Ŝ}{g:wx}EL á6(hg:xo R f g) GY:zI R (ze f ß1) (x9 g Ġ):=λ S Z L Y y Q hE e hq=>by
 ext îO;exact ha NF;exact hb FG z qJ Ϝ0;show hg S2 Z x z y d d2 Q (Mi) (Wh) r2 e ùq
@[simp] def i2 (g:ÕE):Ŝ
 | Ą,Ð3=>↑ qk
 | _,_=>none
instance zqi1 pS:pj (ζ3):=by unfold oU;ext Sj
instance zqi2 pS:pj (ox i j):=by unfold ox;ext Sj
instance zqi3 pS:pj (gS i j):=by unfold gS;ext Sj
@[simp] def aI (C:KN) [ýk] (g:ÕE):Ŝ
 | Ą,Ð3=>if Rp then ↑ qk else none
 | _,_=>none
def Ğ0 âd:xo zk (i2 g) (zH g'):=λ S Z x y z d e Q hz hx hy ef hq=>by
 cases x with
 | int i=>
  cases y with
  | int j=>
   cases ef;ext Wk;show ïK
  | _=>show Hx
 | _=>show Hx
def ì4 {C:KN} [ýk] âd:xo zk (aI C g) (fI C g'):=λ S Z x y z d e Q hz hx hy ef hq=>by
 cases x with
 | int i=>
  cases y with
  | int j=>
   by_cases hh:Rp
   .cases (Ç hh).symm.trans ef;ext Wk;show#[hh,ïK]
   .show yx ((É hh).symm.trans ef)
  | _=>show Hx
 | _=>show Hx
@[simp] def jf:Ŝ:=i2 ËJ
@[simp] def xw:Ŝ:=aI ÇD
@[simp] def xQ:Ŝ:=aI ÊG
@[simp] def bG:Ŝ:=aI ÉE
@[simp] def Ų9:Ŝ:=aI ÆZ
@[simp] def ť9:Ŝ:=i2 ÉI
@[simp] def lI:Ŝ:=i2 ϓ7
@[simp] def Τ5:Ŝ:=i2 ϔ7
@[simp] def š9:Ŝ:=i2 ϓ8
section
variable {EL}{á6}
def É4 GY:wW (ze jf ß1) ÿl:=ąt
def À7 GY:wW (ze xw ß1) ÿm:=Ϝ1
def ý2 GY:wW (ze xQ ß1) ÿn:=Ϝ1
def ö4 GY:wW (ze bG ß1) ÿo:=Ϝ1
def ç6 GY:wW (ze Ų9 ß1) ÿp:=Ϝ1
def Č5 GY:wW (ze ť9 ß1) ÿq:=ąt
end
def zS DC:Ŝ:=λ x y=>if Ài/\dep y<=60 then ↑(.bl (cond neg (!eqT x y) (eqT x y))) else none
def m9 DC:Ŝ:=λ x y=>match oZ y with
 | some ts=>if Ài/\rp<=60 then ↑(.bl (cond neg (! öZ) öZ)) else none
 | none=>none
def Ĕ0 PU:xo zk (zS neg) ÝB:=λ S Z x y z d e Q hz hx hy ef hq=>by
 unfold zS at ef;split at ef
 .ext G7;cases ef;show#[x,y,hx.sn,hy.sn,h.1,h.2,HF]
 .cases ef
def ł6 PU:xo zk (m9 neg) ÝC:=λ S Z x y z d e Q hz hx hy ef hq=>by
 unfold m9 at ef;split at ef
 .rename_i ts ht;split at ef
  .ext G7;cases ef;let#[ds,h1,h2]:=hy.seq ht;show#[x,ts,ds,hx.sn,h1,Ź ÁN ts h2,h.1,h.2,HF]
  .cases ef
 .cases ef
@[simp] def zp:Ŝ:=λ x y=>match x,y with
 | pF,Ą=>if ĉ2 then (Ĭ Ź9).map λ c=>Nl else none
 | x,y=>match oZ x,y with
  | some ts,Ą=>ÝG
  | _,_=>none
def Ė5:xo zq zp nc:=λ S Z x y z d e Q hz hx hy ef hq=>by
 cases y with
 | int i=>
  cases cQ;have key:∀ ts,oZ x=↑ts->ÝG=↑z->nc d ÄZ:=λ ts ht ef=>by
   let#[ds,h1,h2]:=hx.seq ht;let#[c,h3,h4]:=h2.at ef;rcases ŷ3 h1 with rfl | rfl | ⟨p,rfl,q⟩
   .show zbF Ñu
   .show zbG Ñu
   .show zbH q Ñu
  cases x with
  | str s=>
   cases θ4;by_cases h0:pA<=â
   .let#[c,h1,rfl]:=sj ((Ç h0).symm.trans ef);unfold nc;ext ÄP;show#[h0,hq _ Gz mS]
   .show yx ((É h0).symm.trans ef)
  | tup ts=>show ČG
  | lst ts=>show ČG
  | _=>show Hx
 | _=>cases x <;> show Hx
def zC:Ŝ
 | Ą,Ð3=>↑(Κ0)
 | Ã i,Ã j=>òM
 | Δ,Å us=>ñz
 | ő,UZ=>ñF
 | _,_=>none
@[simp] theorem zfr qB:zC Pc=↑(Κ0):=rfl
@[simp] theorem zfp (i j:Str):zC (Ã i) (Ã j)=òM:=rfl
@[simp] theorem zfq ÂC:zC Ae (Å us)=ñz:=rfl
@[simp] theorem zfo ÂC:zC Ad (UZ)=ñF:=rfl
def km:wx:=λ x y S Q=>match x,y with
 | Ą,Ð3=>Q (Κ0) S
 | Ã i,Ã j=>ό8/\Q (Ϯ1) S
 | AA,Î es=>Ϗ8/\Q (Î Jb) S
 | .zB,_=>ê
 | Fj,_=>ê
 | rV,_=>ê
 | DD,_=>ê
 | Î _,_=>ê
 | x,y=>match yG x S,yG y S with
  | Ãu,↑es=>(∀ ts,y≠ ő)/\òQ
  | _,_=>ê
def good_add:xo zk zC km:=λ S Z x y z d e Q hz hx hy ef hq=>by
 cases x with
 | int i=>
  cases y with
  | int j=>
   cases ef;ext Wk;show DF
  | _=>show Hx
 | str i=>
  cases y with
  | str j=>
   by_cases h:ό8
   .cases Ìj;cases θ4;cases hy.str;show#[h,ZS]
   .show Êv
  | _=>show Hx
 | lst ts=>
   cases y with
   | lst us=>
  by_cases h:WH
  .cases Ìj;let#[ds,h1,h2]:=hx.seq rfl;let#[es,h3,h4]:=hy.seq rfl;have nt:ÒB:=by
    obtain⟨_,q | ⟨_,q,_⟩,_⟩:=hy.lst <;> subst q <;> show ÝL
   have key:(ÒB)/\òQ:=
    #[nt,úx,λ r hr=>hq À (Mu hr _) (kE hz hr ĈN)]
   obtain⟨_,q | ⟨a,q,_⟩,_⟩:=hx.lst
   ext ñH
   ext ñH
  .show Êv
   | _=>show Hx
 | tup ts=>
  cases y with
  | tup us=>
   by_cases h:WH
   .cases Ìj;ext ço;show#[úx,hq _ Gz (EV E8 (jO ĈN))]
   .show Êv
  | _=>show Hx
 | _=>show Hx
def oQ (f:sZ) đ5:Prop:=∀ S Z L Y y Q,GL->N1->ûg->t å8
@[simp] def yh ŷ:sZ:=fun Y=>Ř λ x=>match x with
 | ω=>↑b
 | _=>none
@[simp] def Ŭ4:T->pP
 | .zB=>↑ Á
 | ω=>↑b
 | Ą=>↑(i != 0)
 | ů=>if ϑ<=â then ↑ Čv else none
 | ő=>↑(! Ùd)
 | Δ=>↑(! Ùd)
 | Hu=>none
 | FW=>none
@[simp] def xF ŷ:sZ:=fun Y=>Ř Ŭ4
@[simp] def mD (f g:sZ):sZ:=fun Y=>Ř λ b=>if Nj then g Y else ↑ Á
@[simp] def o5 (f g:sZ):sZ:=fun Y=>Ř λ b=>if Nj then ↑true else g Y
@[simp] def ve (f:sZ):sZ:=fun Y=>Kz (!·)
section
variable {Ò3}{t u:zr}{fb gb:sZ}{tb ub:xI}{ę}
def æ0 Tt:oQ (yh f) (nD t):=λ S Z L Y y Q hE e hq=>by
 ext Øh;cases x with
 | bl b=>
  cases e2;cases WW;show AU
 | _=>show yx e2
def Ĕ5 Tt:oQ (xF f) (Ŧ0 t):=λ S Z L Y y Q hE e hq=>by
 ext Øh;cases x with
 | zB=>cases Vw.zB r1;ext Ξ5
 | bl b=>cases WW;ext Ξ5
 | int b=>cases WD;ext Ξ5
 | str b=>
  cases Jf;simp![Ŭ4] at e2;ext Ů
  .rename_i hh;cases e2;show#[hh,AU]
  ext Ż
 | tup ts=>
  ext ĎJ;ext óT;show AU
 | lst ts=>
  ext Çd
  .ext óT;show AU
  .cases e2;exact ĉ8 h1 ?_;rw[h2.empty];show AU
 | _=>cases e2
def Ć9 úh:oQ (mD fb gb) (Za tb ub):=λ S Z L Y y Q hE e hq=>by
 ext æc
 .ext vX;show ìX
 .ext XW;ext Ξ5
def Ă2 úh:oQ (o5 fb gb) (aY tb ub):=λ S Z L Y y Q hE e hq=>by
 ext æc
 .ext vX;ext Ξ5
 .ext XW;show ìX
def ô0 (h:ÝM):oQ (ve fb) (aZ tb):=λ S Z L Y y Q hE e hq=>by
 unfold ve at e;let#[b,e1,rfl]:=Ol;show h Ţ b uk λ S1 s1=>AU
@[simp] def oM Ν4:zEO:=fun Y=>Ř λ x=>match x with
 | CK=>if C1 then g Y else ↑ Oz
 | _=>none
@[simp] def dq Ν4:zEO:=fun Y=>Ř λ x=>match x with
 | CK=>if C1 then ↑ ž else g Y
 | _=>none
@[simp] def ň1 ŷ:zEO:=fun Y=>Ř λ x=>match x with
 | CK=>↑(.bl (!k))
 | _=>none
@[simp] def ic ł1 Ν4:zEO:=fun Y=>ϣ3 λ b=>if Nj then f Y else g Y
def í8 IT Tt Úh:zI R (oM f g) (Zm t u):=λ S Z L Y y Q hE e hq=>by
 ext bw
 .cases WW;ext Ů
  .ext ϲ1;rw[Ĥ5];show h' χ2
  .ext ϲ1;rw[MG];cases e2;show YU
 ext Ż
def ė2 IT Tt Úh:zI R (dq f g) (Zh t u):=λ S Z L Y y Q hE e hq=>by
 ext bw
 .cases WW;ext Ů
  .ext ϲ1;rw[Ĥ5];cases e2;show YU
  .ext ϲ1;rw[MG];show h' χ2
 ext Ż
def Î5 IT Tt:zI R (ň1 f) (Zi t):=λ S Z L Y y Q hE e hq=>by
 ext bw
 .cases WW;cases e2;show YU
 ext Ż
def à4 IT (hc:ÝM) (h:zI R f t) Úh:zI R (ic fb f g) (Zk tb t u):=λ S Z L Y y Q hE e hq=>by
 ext ÑT;exact hc Ţ b uk ÕF;ext Ů
 .ext vX;show h χ2
 .ext XW;show h' χ2
end
def kZ Å9 Ģ5:ö->Ük
 | [],ds=>ds=[]
 | Ņ,ds=>∃ c cs,ds=HD/\Vw S Z t c/\kZ S Z ts cs
def l4 (f:Ϗ) AV:Prop:=∀ S Z L Y ys Q,GL->f Y=↑ys->(∀ ds S',sv->kZ S' Z Ħ8->Q ds S')->t å8
def j9 (f:Ϗ) AV:Prop:=∀ S Z L Y ys Q,GL->f Y=↑ys->(∀ ds S',sv->zo Àf Ħ8->Q ds S')->t å8
@[simp] def zf:Ϗ:=λ _=>↑[]
@[simp] def zc ŷ đ6:Ϗ:=fun Y=>Ř λ x=>Ci λ xs=>↑ LX
section
variable {Ĉ}{Ù0}{OI}{Qo}
def Ò2:l4 zf jt:=λ S Z L Y y Q hE e hq=>by cases e;show hq [] Gz rfl
def à2:j9 zf jt:=λ S Z L Y y Q hE e hq=>by cases e;show hq [] Gz ä
def ð8 Tt (h':l4 g u):l4 ÁO (lr t u):=λ S Z L Y y Q hE e hq=>by
 ext åf;show hq VL #[d,ds,rfl,Wh,r2]
def æ8 (h:wO f t) (h':j9 g u):j9 ÁO (lr t u):=λ S Z L Y y Q hE e hq=>by
 ext åf;show hq VL (ã (BH Λ3 x r1) r2)
@[simp] def tupS đ6:zEO:=fun Y=>Ci λ xs=>if CO then ↑ Hg else none
@[simp] def xy đ6:zEO:=fun Y=>Ci λ xs=>if CO then ↑ ñ4 else none
def É5 Ŗ6:wW (tupS g) (Ŋ9 u):=λ S Z L Y y Q hE e hq=>by
 ext MF;ext Ů
 .ext Dr;cases e2;exact h Ţ xs uk λ ds S1 s1 r1=>#[ćR,hq p_ (EV E8 (jO r1))]
 ext Ż
def ø7 Ŗ6:wW (xy g) (Ĩ1 u):=λ S Z L Y y Q hE e hq=>by
 ext MF;ext Ů
 .ext Dr;cases e2;exact h Ţ xs uk λ ds S1 s1 r1=>#[ćR,λ p hp=>hq À (vG Ι) (MJ s1 (kE ϯ3 hp r1))]
 ext Ż
end
@[simp] def zm Ip đ6:zEO:=fun Y=>Ci F
def nq ā8 Ip (f:wG):Prop:=∀ S Z ys z ds Q,(Ww)->kZ S Z Ħ8->F ys=↑z->êE->f Dm
def ē8 ę IT GS Ģ4 Ù0 Qo(hf:nq R F f) (h:l4 g u):zI R (zm F g) (o7 f u):=λ S Z L Y y Q hE e hq=>by
 ext MF;exact ÕG;show hf S1 Z xs y ds Q ϯ3 r1 e2 λ c S' s r=>hq c S' þm
@[simp] def yI:zLO
 | [pF]=>if ĉ2 then ↑ Ýs else none
 | [y]=>ϴ9 λ ts=>Â ē
 | _=>none
def Ķ5 è Ï9 Ŀ ñ(h:kZ S Z [y] ds):∃ d,ds=[d]/\Δ0:=by
 ext T4;cases h2;show Ïz
def ŕ0 è Ï9{y z:T}ñ(h:kZ S Z [y,z] ds):∃ d e,ds=[d,e]/\Δ0/\Vw S Z z e:=by
 let#[c,cs,rfl,h1,c2,cs2,rfl,h2,h3]:=h;cases h3;show#[c,c2,rfl,h1,h2]
def Ę0:nq zk yI kl:=λ S Z ys z ds Q hz hv e hq=>by
 unfold yI at e;ext Ĥ
 .ext CL;ext Ĥ
  .ext Dr;cases e;cases h1.str;show#[hl,DF]
  .cases e
 .ext ÆO;exact zbE h2 ?_;rw[θ5];show DF
 .cases e
@[simp] def OD:zLO
 | [y]=>ϴ9 Å
 | _=>none
def Ç6:nq zk OD kj:=λ S Z ys z ds Q hz hv e hq=>by
 unfold OD at e;ext Ĥ
 .ext ÆO;show zbD h2 λ p hp=>hq À Ι (kE hz hp h3)
 .cases e
@[simp] def je:zLO
 | [y]=>ϴ9 Î
 | _=>none
def Õ9:nq zk je kg:=λ S Z ys z ds Q hz hv e hq=>by
 unfold je at e;ext Ĥ
 .rename_i y;ext ÆO;have k:Q (Î es) S:=hq _ Gz (EV E8 (jO h3));rcases ŷ3 h2 with rfl | rfl | ⟨p,rfl,q⟩
  .show k
  .show k
  .show zbC q k
 .cases e
@[simp] def aG (g:Ϧ3):zLO
 | Df=>↑(Â qk)
 | _=>none
def Ŧ6 {g:Ϧ3}:nq zk (aG g) (lN Òa):=λ S Z ys z ds Q hz hv e hq=>by
 unfold aG at e;ext Ĥ
 .ext Ϗ0;cases e;cases θ6;cases h2.int;show DF
 .cases e
@[simp] def dE:zLO:=aG λ i j=>Ðj
@[simp] def ς4:zLO:=aG λ i j=>Ðp
def kx:ö->õ (tM)
 | []=>↑[]
 | ω::ts=>(kx ts).map (b::·)
 | ş=>none
theorem ń3:∀ ÿ{bs:tM},kx ts=↑bs->ts=ÝJ
 | [],bs,h=>LG
 | ω::ts,bs,h=>by
  unfold kx at h;ext ćh;rw[As,<- ń3 h1]
 | .zB::ts,bs,h=>Ρ
 | rV::ts,bs,h=>Ρ
 | DD::ts,bs,h=>Ρ
 | Î _::ts,bs,h=>Ρ
 | ÝN,bs,h=>Ρ
def ς9 (bs:tM):kx (ÝJ)=↑bs:=by
 induction bs with
 | nil=>rfl
 | cons b bs ih=>rw[As];unfold kx;rw[ih];rfl
@[simp] def ŷ5 (g:Η9):zLO
 | [Δ]=>(kx ts).map λ bs=>Ùh
 | _=>none
def jo (g:Η9):wG:=λ ds S Q=>match ds with
 | [Î _]=>ê
 | [d]=>åG
 | _=>ê
def Ú5 {g:Η9}:nq zk (ŷ5 g) (jo g):=λ S Z ys z ds Q hz hv e hq=>by
 unfold ŷ5 at e;ext Ĥ
 .ext CL;let#[bs,e1,rfl]:=Ol;cases ń3 e1;ext ăS;cases h3.ŏ0;have key:åG:=#[bs,h2,HF];obtain⟨_,q | ⟨a,q,_⟩,_⟩:=h1.lst
  ext Ál
  ext Ál
 .cases e
structure FR ÔQ Å9 Ģ5 (L:yS) Ï8:Prop where
 er:GL
 len:Ϝ2
 sx:Sx S0 S
 z0:øV
 zz:ĈO
 zn:∀ a,Z a->Z0 a\/S0 a=none
 fr:∀ Ü ts p,Îf->Bs->S0 p=none
 dj:∀ AJ ts us p,vK->Îf->ÿB->Bs->Ut=↑↑ ī->ê
def x_ þ Mn q8{a b:α}(h:ÕH[j]?=↑b):(i=j/\i<xk/\b=a)\/(vK/\l[j]?=↑b):=by
 rw[zgE] at h;by_cases e:i=j
 .subst e;rw[ĭ] at h;by_cases hl:i<xk
  .rw[Ç hl] at h;cases h;show È #[rfl,hl,rfl]
  .rw[É hl] at h;cases h
 .rw[É e] at h;show Æ #[e,h]
def om þ Mn q8{a:α}(h:vK):ÕH[j]?=l[j]?:=by rw[zgE,Fv]
def ś1 þ Mn ă{a:α}(h:i<xk):ÕH[i]?=↑a:=by rw[zgE,ĭ,Ç h]
section
variable {S0 S S':SS}{ÄJ}{xr}{ß}{Ŀ}{û}
theorem FR.grow ď3 W_:FR CV S' Z L Y:=#[h.er.grow s,HI,h.sx.trans s,h.z0,h.zz,h.zn,h.fr,h.dj]
theorem FR.jP ď3 Ü (r:Γ9):FR Oi (N5) ϊ5:=by
 exact Åq
 .ext qz
  .cases e;show#[d,X8,r]
  .rw[qV];show ϧ0
 .ext qz
  .cases e
  .rw[qV];show Ùi
 .ext qz
  .cases e
  .rw[qV] at e';show ÎX
 .ext Xx
  .cases e
  ext ϊ6
  .cases e
  ext ÌK;show ÈW
def FR.Ż1 {ts:C}{ds:O}BE ď3 W_ Ü (hp:BL) (hd:S' p=↑ds) (r:j0 ϔ9 DP):
  FR CV S' (ÒC) (L.set i ↑ ī) (HM i ↑(ì ts)):=by
 have np:∀ ğ5 us q,ÿB->Ut=↑↑(à q)->q≠p:=λ j us q e e' z=>by
  subst z;let#[p',ds',h1,h2,_]:=Q9 j us e;rw[e'] at h1;cases h1;rw[hp] at h2;cases h2
 exact#[#[Àk,ÕI,λ j us e=>?_],ϣ0,h.sx.trans s,h.z0,λ a z=>È (ÝO),λ a z=>B7 (h.zn a) (λ q=>Æ (by subst q;show h.sx.none hp)),λ j us q e e'=>?_,ìY]
 .rcases z with z | rfl
  .show λ q=>VA Óf
  .rw[hd];nofun
 .ext qz
  .cases e
  .rw[qV];let#[d,h1,h2]:=ϧ0;show íG
 .ext qz
  .cases e;show#[p,ds,X8,hd,r,h_]
  .rw[qV];let#[q,es,h1,h2,h3,h4]:=Q9 j us e;show#[q,es,h1,s Ik,j0.sx Àh h3,È h4]
 .ext qz
  .rw[X8] at e';cases e';show h.sx.none hp
  .rw[qV] at e';show h.fr j us q e e'
 .ext Xx
  .rcases x_ e2 with ⟨rfl,_,_⟩ | ⟨n2,e2⟩
   .show n rfl
   .rw[X8] at e3;cases e3;rw[om n2] at e4;show np k vs p e2 e4 rfl
  .ext ÇH
   .rw[X8] at e4;cases e4;rw[om n1] at e3;show np j us p e1 e3 rfl
   .ext ÌK;show ùr
def FR.forget ď3 Ü:FR Oi L (ÃJ):=by
 exact Åq
 .ext qz
  .cases e
  .show ϧ0
 .ext qz
  .cases e
  .show Ùi
 .ext qz
  .cases e
  .show ÎX
 .ext Xx
  .cases e
  ext ϊ6
  .cases e
  show ÈW
@[simp] def xP ţ5 Ï8:Ev:=is.foldl (fun Y i=>ÃJ) Y
theorem FR.xP:∀ ţ5 ß,CI->FR Oi L Fc
 | [],_,h=>h
 | i::is,_,h=>FR.xP is (h.forget i)
def FR.freeze ÿ BE ď3 Ü (e:Pz) (ed:Bs):
  FR CV S (ąu) L (ýl)/\êF:=by
 let#[p',o,h1,h2,h3,h4]:=Q9 i _ e;rw[ed] at h1;cases h1;obtain⟨ds,rfl⟩:∃ ds,o=Jr:=by
  cases o with
  | lst ds=>show ſ6
  | _=>show u_
 ext ž4;have hS:êF:=by
  ext â8;show#[ds,Æ #[p,rfl,by rw[nP (λ z=>z.2 rfl)];show h2],Ź ÏE ts h3]
 exact#[?_,hS];exact#[#[λ a z=>VA a z.1,λ j t e'=>?_,λ j us e'=>?_],ϣ0,h.sx,h.z0,λ a z=>#[ÝO,Ρ3],λ a z=>h.zn a z.1,λ j us q e' ed'=>?_,ìY]
 .ext Ŭ2
  .cases e';show#[_,ed,hS]
  .let#[d,g1,g2]:=ĈP;show#[d,g1,BH ÏE t g2]
 .ext Ŭ2
  .cases e'
  .let#[q,es,g1,g2,g3,g4]:=Q9 j us e';show#[q,es,g1,g2,j0.sx ÏE g3,g4,λ z=>by subst z;show h.dj i j _ us q n e e' ed g1]
 .subst q;show h.z0 a z (h.fr i _ a e ed)
 .ext Ŭ2
  .cases e'
  .show h.fr j us q e' ed'
 .ext Xx
  .cases e
  ext ϊ6
  .cases e
  show ùr
def FR.mut {ts us:C}{es:O}BE ď3 Ü (e:Îf) (ed:Bs) (r:j0 qa us es):
  FR CV (ups S p es) Z L (HM i ↑(ì us)):=by
 ext åB;have hh:yj (ups S p es) Z=yj S Z:=zaJ h4;have hpn:=Ïn;exact#[#[Àk,λ j t e'=>?_,λ j vs e'=>?_],ϣ0,ſ7,h.z0,h.zz,h.zn,λ j vs q e' ed'=>?_,λ j k vs ws q n e1 e2 e3 e4=>?_]
 .by_cases hp:a=p
  .subst hp;rw[mL];nofun
  .rw[kD hp];show VA a z
 .rw[hh];ext Ŭ2
  .cases e'
  .show ĈP
 .rw[hh];ext Ŭ2
  .cases e';show#[p,es,ed,mL,r,h4]
  .let#[q,es',g1,g2,g3,g4]:=Q9 j vs e';exact#[q,es',g1,?_,g3,g4];rw[kD (λ z=>by subst z;show h.dj i j ts vs q n e e' ed g1)];show g2
 .rw[kD (λ z=>by subst z;rw[hpn] at q;cases q)];show h.sx b o q
 .rcases x_ e' with ⟨rfl,hl,_⟩ | ⟨n,e'⟩
  .rw[ed] at ed';cases ed';show hpn
  .show h.fr j vs q e' ed'
 .rcases x_ e1 with ⟨rfl,hl,_⟩ | ⟨n1,e1⟩
  .ext ÇH
   .show n rfl
   .show h.dj _ k ts ws q n e e2 e3 e4
  .ext ÇH
   .show h.dj j _ vs ts q n e1 e e3 e4
   .show h.dj j k vs ws q Îy
def ţ8 (S0 S:SS) Ģ5:SS:=open Ûm in λ a=>if ÑK then none else S a
def Ű6 ú(h:¬ (ÑK)):ţ8 S0 S Z a=S a:=Fv
def œ8 ú(h:ÑK):ţ8 S0 S Z a=none:=Ç h
def FR.rebase ď3:∃ S1,Sx S0 S1/\FR S1 Z0 Ţ/\Sx qa S1:=by
 exact#[ţ8 S0 S Z,ſ7,#[h.er,HI,ſ7,Àk,h.zz,Àk,λ i ts p e ed=>?_,h.dj],ſ7]
 .rw[Ű6 (λ z=>by rw[z.1] at q;cases q)];show h.sx À q
 .by_cases w:S0 b=none/\Z b
  .rw[œ8 w] at q;cases q
  .rw[Ű6 w] at q;show q
 .rw[Ű6 (λ q=>h.z0 a z q.1)];show VA a (ÝO)
 .rcases ÝP with w | w
  .show È w
  .show Æ (œ8 #[w,z])
 .ext åB;show œ8 #[Ïn,h4]
 .ext OL;rw[Ű6 (λ z=>q1 z.2)];show q2
def FR.back {S1:SS}(h:FR S1 Z0 Ţ) (s:Sx S0 S1) (z0:øV):CI:=#[h.er,HI,s.trans h.sx,z0,h.zz,λ a z=>(ÝP).imp id θ2,λ i ts p e ed=>θ2 (Ïn),h.dj]
def FR.É1 {S1:SS}{Z1:An}ď3 (b:Sx (yj S1 Z1) S0) (zz:∀ a,Z0 a->Z1 a):Sx (yj S1 Z1) qa:=λ a o q=>by
 have q0:=b À q;ext OL;rw[nP]
 .show h.sx À q0
 .intro z;rcases ÝP with w | w
  .show q1 (zz a w)
  .rw[w] at q0;cases q0
end
inductive Out where
 | nx Ï8 | rt Ť | bk Ï8 | ct Ï8
abbrev Sm:=Ev->OB
def zdt ā8 ÔQ (o:Out) (E:jG):Prop:=match o with
 | .nx Y=>∀ S Z L,CI->ÁB
 | .bk Y=>∀ S Z L,CI->E.bk L S
 | .ct Y=>∀ S Z L,CI->E.ct L S
 | WK=>∀ d S,Sx S0 S->R S0 S Z0 y d->E.rt d S
def zQ ā8 (g:Sm) ö2:Prop:=∀ S0 Z0 S Z L Y o E,CI->g Y=↑o->zdt R CV o E->Ãv
class Lo ā8:Prop extends Cl R where
 lo:∀ {S0 S S':SS}ÄJ Ŀ û,Sx S0 S->(ĈO)->OE->ĈQ
instance:Lo zq:=#[λ _ z h=>BH (mn z) _ h]
instance:Lo zk:=#[λ s z h=>#[BH (mn z) _ h.1,λ ts e=>by
 let#[p,ds,h1,h2,h3,h4]:=h.2 ts e;show#[p,ds,h1,θ2 h2,h3,Ź (mn λ a q=>q.imp (z a) id) ts h4]]]
@[simp] def zv (g h:Sm):Sm:=fun Y=>Ci λ o=>match o with
 | YX=>h Y'
 | o=>↑o
@[simp] def yF:Sm:=fun Y=>↑(.nx Y)
@[simp] def yk Ü ŷ:Sm:=fun Y=>Kz λ y=>Τ1
@[simp] def oq Ü ŷ:Sm:=fun Y=>Ř λ y=>match y with
 | Δ=>↑ éF
 | y=>↑(Τ1)
@[simp] def Ů9 ŷ:Sm:=fun Y=>Kz λ _=>.nx Y
@[simp] def retS ŷ:Sm:=fun Y=>Kz .rt
theorem ĉ1 þ ă ß{f:ö->M4}{o:α}(e:(match ĸ with
 | Cw=>f ts
 | _=>none)=↑o):∃ ts,Pz/\f ts=↑o:=by
 cases h:ĸ with
 | none=>ext ÂO
 | some v=>
  rw[h] at e;cases v with
  | none=>show ť
  | some v=>
   cases v with
   | im t=>show ť
   | own c=>
    cases c with
    | lst ts=>show#[ts,rfl,e]
    | _=>show ť
@[simp] def bC Ü:Sm:=fun Y=>match ĸ with
 | Cw=>↑(.rt Ae)
 | _=>none
@[simp] def y9 ł1 (g h:Sm):Sm:=fun Y=>ϣ3 λ b=>if Nj then g Y else h Y
@[simp] def Ū1 Ü Ï8:Ev:=match ĸ with
 | Cw=>ýl
 | _=>Y
@[simp] def Ŭ0 Ü (g:Sm):Sm:=fun Y=>g (Ū1 i Y)
section
variable {ę}{g h:Sm}{Ω6}{Ĉ}{ŝ}
def š2 ăT:zQ R (zv g h) ÁC:=λ S0 Z0 S Z L Y o E F e P=>by
 let#[o1,e1,e2]:=ŗ;exact hg Jj o1 { E with nx:=u E } F e1 ?_;cases o1 with
 | nx Y1=>show λ S1 Z1 L1 F1=>hh CV S1 Z1 L1 Y1 o E F1 e2 P
 | rt y=>ext Åh
 | bk y=>ext Åh
 | ct y=>ext Åh
def ù9:zQ R yF Ŝ0:=λ S0 Z0 S Z L Y o E F e P=>by cases e;show P S Z L F
def È7 Ü Mw:zQ R (yk i f) Ϯ8:=λ S0 Z0 S Z L Y o E F e P=>by
 ext X0;show hf Ν5 λ d S1 s1 r1=>P S1 Z _ ((Ef).jP i r1)
def Ç1 Ü (hf:wW f te):zQ R (oq i f) Ϯ8:=λ S0 Z0 S Z L Y o E F e P=>by
 ext Ph;exact ÿC;cases y with
 | lst ts=>
  cases e2;let#[p,ds,rfl,h1,h2,h3]:=r1.2 Åa;show P S1 À (F.Ż1 (ts:=Δ) (ds:=Jr) s1 i Ķ8)
 | _=>cases e2;show P S1 Z _ ((Ef).jP i r1.1)
def Í1 Xv:zQ R (Ů9 f) (cy te):=λ S0 Z0 S Z L Y o E F e P=>by
 ext X0;show hf Ν5 λ d S1 s1 r1=>P S1 Z _ (Ef)
def ă2 qD (hf:zI R f te):zQ R (retS f) (gr te):=λ S0 Z0 S Z L Y o E F e P=>by
 ext X0;show hf Ν5 λ d S1 s1 r1=>çB
def ś0 Ü:zQ zk (bC i) (gr rE):=λ S0 Z0 S Z L Y o E F e P=>by
 ext Ðr
 .cases e;ext ÆE;obtain⟨ds,rfl⟩:Ϥ3:=by
   cases ob with
   | lst ds=>show ſ6
   | _=>show u_
  ext ž4;have hn:=F.fr i _ p h h1;have nz:¬ Z0 p:=λ z=>F.z0 p z hn;change yL i L S E.rt;ext eP;exact P _ S F.sx ýj
  .ext â8;show#[ds,Æ #[p,rfl,by rw[nP nz];show h2],Ź Ûp ts h3]
  .cases e;show#[p,ds,rfl,hn,h2,Ź (mn λ a q=>de (F.zz a) λ q=>q▸h4) ts h3]
def È4 ā9 ğ2 Ϲ0 ăT:zQ R (y9 c g h) Ïw:=λ S0 Z0 S Z L Y o E F e P=>by
 ext ÑT;exact hc Ţ b jL ÕF;ext Ů
 .ext vX;show hg úi
 .ext XW;show hh úi
def FR.ā3 {S0 S:SS}ÄJ xr ß(F:CI) Ü:∃ Z',FR CV S Z' L (Ū1 i Y):=by
 unfold Ū1;split
 .rename_i ts h;let#[p,ds,h1,_]:=ČH;show#[_,(F.freeze i h h1).1]
 .show#[Z,F]
def Í7 Ü (hg:Ap):zQ R (Ŭ0 i g) t:=λ S0 Z0 S Z L Y o E F e P=>by
 let#[Z',F']:=F.ā3 i;show hg CV S Z' L _ o E F' e P
def ŷ4 HB (t:v7):Prop:=∀ S0 Z0 S Z L Y Y' y d Q,CI->Γ9->ÏF->ìo->t d å8
def ι3 (g:Dw) (t:nF):Prop:=∀ S0 Z0 S Z L Y Y' ys ds Q,CI->zo qa Ħ8->g ys Y=↑Y'->ìo->t ds å8
@[simp] def zP Ü:υ2:=λ y Y=>↑ ϊ5
@[simp] def ű4:Dw
 | [],Y=>↑Y
 | ş,_=>none
@[simp] def vM HB (h:Dw):Dw
 | O7,Y=>(g y Y).bind fun Y'=>h ys Y'
 | [],_=>none
@[simp] def mQ ą (g:Dw):υ2
 | Î ys,Y=>if Dg=n then g ys Y else none
 | _,_=>none
def õ2 Ü:ŷ4 (zP i) GU:=λ S0 Z0 S Z L Y Y' y d Q F r e hq=>by cases e;show hq _ (F.jP i r)
def ù8:ι3 ű4 Œ2:=λ S0 Z0 S Z L Y Y' ys ds Q F r e hq=>by
 cases ys with
 | nil=>ext ĀN;show#[rfl,hq _ F]
 | cons _ _=>cases e
def Č9 öc(hg:ŷ4 g t) (hh:ι3 h u):ι3 ći:=λ S0 Z0 S Z L Y Y' ys ds Q F r e hq=>by
 cases ys with
 | nil=>cases e
 | cons y ys=>
  ext çO;show hg Jj Y1 y c _ F r1 e1 fun L1 F1=>hh Oi ĊS F1 r2 e2 hq
def Ô9 ď{g:Dw}{t:nF}(hg:ι3 g t):ŷ4 (mQ n g) ÁD:=λ S0 Z0 S Z L Y Y' y d Q F r e hq=>by
 cases y with
 | tup ys=>
  ext ëR
  .ext Dr;show#[by rw[r.len];show hl,hg Jj Y' Ħ8 Q F r e hq]
  .cases e
 | _=>cases e
def j8 (free:Bool) (f:Ϗ) (ti:ou):Prop:=∀ S Z L Y ts Q,GL->f Y=↑ts->(∀ I S',sv->zo Àf ts ÃK->(∀ S'',Sx (if free=true then yj S' Z else S') S''->I.keep S'')->Q I S')->ti å8
@[simp] def wo ŷ:Ϗ:=fun Y=>Ř oZ
def ă0 Ĉ ŝ Xv:j8 Á (wo f) (Γ1 te):=λ S Z L Y ts Q hE e hq=>by
 ext ÌE;cases y with
 | tup us=>
  cases e2;ext ĎJ;show ϑ8
 | lst us=>
  cases e2;ext Çd
  .show ϑ8
  .ext ÄP;show éo
 | _=>cases e2
def ġ9 Ĉ ŝ Mw:j8 true (wo f) (Γ1 te):=λ S Z L Y ts Q hE e hq=>by
 ext ÌE;cases y with
 | tup us=>
  cases e2;let#[ds,rfl,h2]:=Vw.tup (È r1);show ϑ8
 | lst us=>
  cases e2;have r2:=r1;unfold zq at r2;obtain⟨ds,⟨rfl,_⟩ | ⟨a,rfl,h1⟩,h2⟩:=r2
  .show ϑ8
  .ext Þ;rw[(nN h1).2];show éo
 | _=>cases e2
def MR ŝ2 ą:ö:=eU λ CU=>ĕ (lo+ü)
def Ľ1 è ŝ2 ą:zo S (MR lo n) (VC):=by
 unfold MR mX
 induction AX with
 | nil=>show ä
 | cons k l ih=>show ã Ť2 ih
def inR (j:Int):Bool:=Í (ČI)&&Í (j<=100000000)
def ň0 {j:Int}:ϵ0 ↔ ČI/\j<=100000000:=by simp[inR]
def Ű1 {j:Int}(h:ϵ0):Êj:=by have:=ň0.mp h;lia
def ny:WO
 | Nt=>if ϵ0 then ↑(MR 0 HN) else none
 | _=>none
def fh:WO
 | Df=>if inR i=true/\ϵ0 then ↑(MR ÔE) else none
 | _=>none
@[simp] def wq (F:WO) đ6:Ϗ:=fun Y=>Ci F
def ú3 Dn Ù0 υ ÀN:j8 b (wq ny g) (Ž4 tA):=λ S Z L Y ts Q hE e hq=>by
 ext ϛ6;unfold ny at e2;ext Ů
 .ext Ů
  .ext ÀY;ext ĊT;cases θ6;show#[Ű1 hc,ým]
  ext Ż
 ext Ż
def ĕ7 Dn Ù0 υ ÀN:j8 b (wq fh g) (ŭ4 tA):=λ S Z L Y ts Q hE e hq=>by
 ext ϛ6;unfold fh at e2;ext Ů
 .ext Ů
  .ext ÀY;ext óH;cases θ6;cases h2.int;show#[#[(Ű1 Ú0).1,(Ű1 Ú0).2,Ű1 hc.2],ým]
  ext Ż
 ext Ż
def vY ţ5 HB (b:Sm):ö->Ev->OB
 | [],Y=>↑ Ûq
 | O7,Y=>(g y Fc).bind fun Y1=>(b Y1).bind λ o=>match o with
  | .nx Y2=>ϡ8
  | .ct Y2=>ϡ8
  | .bk Y2=>↑ Ϟ9
  | R6=>↑(R6)
@[simp] def vd ţ5 (f:Ϗ) HB (b:Sm):Sm:=fun Y=>Ř λ ts=>vY Fd ts Y
def ù2 xg{fi:Ϗ}Íq{b:Sm}Uh qD (hi:j8 true fi ti) (hg:ŷ4 g tg) (hb:zQ R b tb):zQ R (vd is fi g b) (Zl ti tg tb):=λ S0 Z0 S Z L Y o E F e P=>by
 ext Ðs;exact hi Ţ ts jL λ I S1 s1 r1 hk=>?_;rw[ĭ] at hk;let#[SB,b1,FB,b2]:=(Ef).rebase;ext äT;have zz:=F.zz;exact#[λ i L' S'=>∃ Z' Y',ąv/\vY Fd (Nx i) Y'=↑o,#[Z,Y,FB,e2],λ i L' S' #[Z',Y',F',_]=>hk S' (b2.trans F'.sx),λ i d L' S' hd Ìk=>?_,fun L' S' Ìk=>?_]
 .let#[y,hy,r2]:=r1.ŝ6 hd;have hlt:=(χ hy).1;have hdt:Nx i=y::Nx Ζ:=by
   rw[zhW hlt,(χ hy).2]
  rw[hdt] at e';unfold vY at e';let#[Y1,g1,e']:=θ8;let#[o1,g2,e']:=θ8;exact hg SB Z0 Θ0 _ Y1 y d _ (ÝQ) (BH (F'.É1 b2 zz) y r2) g1 fun L2 F2=>?_
  exact hb SB Z0 S' Z' L2 Y1 o1 _ F2 g2 ?_;cases o1 with
  | nx Y2=>show êG
  | ct Y2=>show êG
  | bk Y2=>cases e';show åk
  | rt y=>cases e';show æU
 .rw[ċl,Ăx] at e';unfold vY at e';cases e';show P Θ0 ((ÝQ).back b1 F.z0)
end
@[simp] def vf Ü ŷ:Sm:=fun Y=>match ĸ with
 | Cw=>Ř λ y=>if ē<â then ↑ êe else none
 | _=>none
section
variable {ę}{Ĉ}{ŝ}
def ó0 Ü Mw:zQ R (vf i f) (cy (kr rE te)):=λ S0 Z0 S Z L Y o E F e P=>by
 unfold vf at e;ext Ĥ
 .rename_i ts h;ext Ph;ext Ů
  .ext Dr;cases e2;ext ÆE;obtain⟨ds,rfl⟩:Ϥ3:=by
    cases ob with
    | lst ds=>show ſ6
    | _=>show u_
   ext ž4;change kr ÖN;unfold kr yL;rw[h1];exact#[#[ds,h2],ÿC];ext Þ;rw[s1 Ik];have F1:=Ef;exact#[by rw[θ5];show hl,P _ Z L (F1.mut (us:=Å (ts++[y])) (es:=Å (ds++[d])) i h h1 (ðS ÕJ))]
  ext Ż
 .cases e
end
def kU Ö2 ÖK (tc:xI) Fw:zr:=fun L S Q=>ti L S λ I S1=>BQ<=â/\óf/\∀ p,Ûc->∃ W:Nat->SS->Ük,W 0 S1 []/\
 (∀ i S S' acc,(∀ b o,b≠p->úY)->W i S acc->W i S' acc)/\
 (∀ i d S acc,Ϟ7->Sx S1 S->S p=↑ LH->W i S acc->g d Gu S fun L2 S2=>gD Gu L2/\tc JE λ b S3=>if Nj then te L2 S3 λ y S4=>Sx S S4/\W Ζ S4 (ÁP) else Sx S S3/\W Ζ S3 acc)/\
 ∀ S2 acc,Κ7->S2 p=↑ LH->W BQ M5->Q ī S2
@[simp] def Ż2 Ö2 Ï8:Ev:=Ýh λ o=>o.bind λ i=>(ĸ).join
def fV ÔR:WO
 | []=>↑[]
 | O7=>(h y).bind λ o=>(fV h ys).map λ zs=>match o with
  | some z=>z::zs
  | none=>zs
@[simp] def nL Ö2 HB ł1 ŷ Ï8 (y:T):õ (G9):=
 ĈR fun Y2=>(c Y2).bind λ b=>if Nj then (f Y2).map some else ↑none
def xX Ö2 (it:Ϗ) HB ł1 ŷ:zEO:=fun Y=>(it Y).bind λ ts=>if ē<=â then (fV (nL Ϭ9) ts).map Å else none
@[simp] def wF:sZ:=λ _=>↑true
def ø6:oQ wF ĥ9:=îQ
def Γ5 Ö2 HB (t:v7):Prop:=∀ B S Z L Y Y' y d Q,ìh->gD B L->Ϝ2->GL->Γ9->ân
def ŷ1 Ö2 (g:Dw) (t:nF):Prop:=∀ B S Z L Y Y' y d Q,ìh->gD B L->Ϝ2->GL->zo qa y d->ân
theorem ER.jP è Ï9 xr ß Ŀ û(h:GL) (hl:Ϝ2) Ü (r:Γ9):ER S Z (N5) ϊ5:=by
 exact#[h.zd,ÕI,λ j ts e=>?_]
 .ext éU
  .cases e;show#[d,ś1 (by rw[hl];show hl'),r]
  .rw[qV];show h.im j t e
 .ext éU
  .cases e
  .rw[qV];show h.ow j ts e
variable {â2}
theorem Ë8 Ü (hi:N_=↑none:=by rfl):Γ5 pick (zP i) GU:=λ B S Z L Y Y' y d Q hB hs hl hE r e hq=>by
 cases e;exact hq _ (hE.jP hl i r) #[by rw[zg2];show hs.1,λ j c q=>?_] (by simp[hl]);by_cases hj:i=j
 .subst hj;rw[hB i hi] at q;cases q
 .rw[om hj];show qH j c q
def Ā4:ŷ1 pick ű4 Œ2:=λ B S Z L Y Y' y d Q hB hs hl hE r e hq=>by
 cases y with
 | nil=>ext ĀN;show#[rfl,hq _ hE hs hl]
 | cons _ _=>cases e
def ß4 öc(hg:Γ5 bP t) (hh:ŷ1 pick h u):ŷ1 pick ći:=λ B S Z L Y Y' y d Q hB hs hl hE r e hq=>by
 cases y with
 | nil=>cases e
 | cons y ys=>
  ext çO;show hg B Ţ Y1 y c _ hB hs hl hE r1 e1 fun L1 E1 s1 l1=>hh B S Z ĊS hB s1 l1 E1 r2 e2 hq
def á1 ď{g:Dw}{t:nF}(hg:ŷ1 bP t):Γ5 pick (mQ n g) ÁD:=λ B S Z L Y Y' y d Q hB hs hl hE r e hq=>by
 cases y with
 | tup ys=>
  ext ëR
  .rename_i hn;show#[by rw[r.len];show hn,hg B Ţ Y' Ħ8 Q hB hs hl hE r e hq]
  .cases e
 | _=>cases e
def ĺ4 ß ă{w:W}(h:WU[i]?=↑↑w):∃ j:Nat,Ϯ5/\pk=↑↑w:=by
 unfold Ż2 at h;rw[Fa] at h;cases q:N_ with
 | none=>ext Qm
 | some o=>
  rw[q] at h;cases o with
  | none=>simp at h
  | some j=>
   ext ăO;exact ąd;cases q2:pk with
   | none=>rw[q2] at h;cases h
   | some o2=>ext ëG
def ŋ6 xr q8 û(h:Ϯ5) (h':Ut=↑↑d):Gu[i]?=↑↑d:=by
 unfold nA;rw[Fa,h];simp[h']
def ER.ò0 è Ï9 xr ß(h:GL):ER S Z Gu WU:=by
 exact#[h.zd,ϯ4,Ôb]
 .let#[j,h1,h2]:=ĺ4 e;let#[d,h3,h4]:=h.im j t h2;show#[d,ŋ6 h1 h3,h4]
 .let#[j,h1,h2]:=ĺ4 e;let#[p,ds,h3,h4]:=h.ow j ts h2;show#[p,ds,ŋ6 h1 h3,h4]
def ER.hide é9 Ï9 xr ß BE(h:GL) W_ (hp:BL) (hp':S' p≠none):ER S' (ÒC) L Y:=by
 exact#[λ a z q=>?_,ϯ4,Ôb]
 .rcases z with z | rfl
  .show h.zd Óf
  .show hp' q
 .ext þl;show íG
 .let#[q,ds,h1,h2,h3,h4]:=h.ow i ts e;show#[q,ds,h1,s Ik,j0.sx Àh h3,È h4]
def Ò1 {it:Ϗ}Íq ā9 ğ2 Ĉ ŝ Dn ðB Ϲ0 Mw:
  wW (xX ßD c f) (kU YY tg tc te):=λ S Z L Y y Q hE e hq=>by
 ext Ðs;ext Ů
 case isFalse=>cases e2
 rename_i hlen;let#[zs,e3,rfl]:=Na;exact hi Ţ ts uk λ I S1 s1 r1 hk=>#[ĄC,λ S' s'=>hk S' ?_,Ϛ]
 .cases b
  .show s'
  .show Ąp
 have E1:=uR s1;have nz:¬ Z p:=λ z=>E1.zd p z hp;exact#[λ i S' acc=>∃ us ws,zo ϔ9 us acc/\fV (nL Ϭ9) (Nx i)=↑ws/\zs=us++ws,#[[],zs,ä,e3,rfl],λ i S' S'' acc hh #[us,ws,h1,h2]=>#[us,ws,Ź (ÕK) us h1,h2],λ i d S2 acc hd s2 hacc òe=>?_,λ S2 acc s2 hacc òe=>?_]
 .ext OL;rw[nP q1];show hh a o (λ z=>q1 (Æ z)) q2
 .ext ăU;have hlt:=(χ hx).1;have hdt:Nx i=x::Nx Ζ:=by rw[zhW hlt,(χ hx).2]
  rw[hdt] at h2;unfold fV at h2;let#[o,o1,h2]:=ϟ h2;let#[ws',o2,rfl]:=sj h2;have E2:=äW;unfold nL at o1;let#[Y2,g1,o1]:=ϟ o1;let#[bb,g2,o1]:=ϟ o1;exact áb
  ext üC
  exact hc S2 _ L2 Y2 bb _ E3 g2 ϯ5;split at o1
  .ext vX;let#[z,g3,rfl]:=sj o1;exact hf S3 _ L2 Y2 z _ (E3.grow s3) g3 λ dz S4 s4 r4=>#[ÕL,us++[z],ws',?_,o2,ĆU];show (Ź (oG (ÕL)) us h1).append (ã r4 ä)
  .ext XW;cases o1;show#[s3,us,ws',Ź (oG s3) us h1,o2,h3]
 .rw[ċl,Ăx] at h2;cases h2;rw[IR] at h3;subst h3;exact hq VL #[?_,λ vs e=>?_]
  .ext â8;show#[acc,Æ #[p,rfl,by rw[nP nz];show hacc],Ź Ăy zs h1]
  .cases e;show#[p,acc,rfl,s1.none hp,hacc,h1]
mutual
def EW:Jk
 | ő=>oy ts
 | Å _=>Á
 | Hu=>Á
 | FW=>Á
 | _=>true
def oy:ÁI
 | []=>true
 | Ņ=>EW t&&oy ts
end
mutual
theorem ž5 é9:∀ Ť û,EW t=true->ĈK
 | .zB,d,_,q=>ç7
 | ω,d,_,q=>ç7
 | Ą,d,_,q=>ç7
 | ů,d,_,q=>ç7
 | ő,d,h,q=>by
  ext U6;show#[ds,q1,Ξ8 ts (by simpa only [EW] using h) q2]
 | Δ,d,h,q=>ÊX
 | Hu,d,h,q=>ÊX
 | FW,d,h,q=>ÊX
theorem Ξ8 é9:∀ Ø2 ñ,oy ts=true->ĈL
 | [],ds,_,q=>ËF
 | Ņ,ds,h,q=>by
  simp![oy,By] at h;ext Èp;show#[c,cs,q1,ž5 t h.1 q2,Ξ8 ts h.2 q3]
end
def ø1 Ŀ(h:Ϲ2):ÒA:=λ ts e=>by subst e;simp[EW] at h
class Sr ā8:Prop extends Lo R where
 sn:∀ é9 Ï9 Ŀ û,OE->Xk
instance:Sr zq:=#[λ h=>h]
instance:Sr zk:=#[λ h=>h.1]
def zK ā8 Ip:wt:=λ ds S Q=>∃ Z ys y,(Ww)/\zo qa Ħ8/\F ys=↑y/\ôl
def Qs ę GS:ν4 A3:=λ _ _ _ _ hq #[Z,ys,y,h1,h2,h3,h4]=>#[Z,ys,y,h1,h2,h3,λ d S' s r=>hq À (h4 ύ s r)]
@[simp] def gy Ip đ6:zEO:=fun Y=>Ci λ ys=>ÕM λ y=>if Ϲ2 then ↑y else none
def Ń7 ę qD GS Ù0 Qo Ŗ6:zI R (zm F g) (Ų6 A3 u):=λ S Z L Y y Q hE e hq=>by
 ext MF;exact ÕG;show#[Z,xs,y,ϯ3,r1,e2,λ d S' s r=>hq ύ þm]
theorem kZ.free è{Z Z':An}:∀ ÿ ñ,kZ S Z DP->(ĈM)->(∀ a,YB ∈ds->¬ Z' a)->zo Àg DP
 | [],ds,h,_,_=>by cases h;show ä
 | Ņ,ds,h,hz,hn=>by
  ext T4;exact ã ?_ (kZ.free h2 hz λ a ha=>hn a (Da _ ha));rcases h1 with h1 | ⟨us,p,es,rfl,rfl,h3,h4,_⟩ | ⟨ks,us,p,m,rfl,rfl,h3,h4,h5,_⟩
  .show BH (mn hz) t h1
  .ext â8;show#[es,Æ #[p,rfl,úE],Ź (mn hz) us h4]
  .ext â8;show#[p,m,#[rfl,h4],úE,Ź (mn hz) us h5]
def į5 ę C6 GS Ù0 Qo(h:l4 g u):wW (gy F g) (Ų6 A3 u):=λ S Z L Y y Q hE e hq=>by
 ext ôT;split at e3
 .ext Èk
  exact ÕG;exact#[λ a=>Z a/\YB ∉ds,xs,_,λ a z=>ϯ3 a z.1,r1.free Éa,e4,λ d S' s r=>hq ύ (vG s) ?_];show ìZ
 .cases e3
@[simp] def vP NY (ys:ö):Ev:=ys.map (λ y=>↑(.im y))++ĵ (S8-Dg) none
@[simp] def jW:OB->G9
 | some qw=>↑y
 | some (.nx _)=>↑.zB
 | _=>none
@[simp] def zY NY ą (g:Sm):zLO:=λ ys=>if Dg=n then jW (g N9) else none
theorem zK.len ę OX ď{g:Sm}ñ è xt(hs:zK ϭ0 Dm):t4=n:=by
 ext åW
 .ext G7;rw[r.len];show h
 .cases e
theorem į6 OX ñ ă û(h:ſ0):(ś4)[i]?=↑↑d:=by
 have hi:=(χ h).1;unfold oA;rw[Ãn,Fa,h];rfl
theorem œ6 OX UO ă{w:W}(h:N9[i]?=↑↑w):∃ y,ÕN/\w=.im y:=by
 unfold vP at h;have hi:i<Dg:=by
  rcases LT i Dg with q | q
  .show q
  ext ío
 rw[Ãn,Fa] at h;cases q:ys[i]? with
 | none=>ext Qm
 | some y=>ext Qm;show#[y,rfl,rfl]
def Â5 ę qD OX ď{g:Sm}{t:yK}(h:Ap) ñ è xt(hs:zK ϭ0 Dm):t wB:=by
 ext åW
 case isFalse=>cases e
 obtain⟨o,e1,e2⟩:∃ o,g N9=↑o/\jW ↑o=↑y:=by
  cases q:g N9 with
  | none=>ext Tv
  | some o=>show#[o,rfl,by rw[<- q];show e]
 exact h S Z S Z À o _ #[#[hz,ϯ4,Ôb],?_,.refl S,hz,λ _ z=>z,λ _ z=>È z,λ i ts p e _=>?_,λ i j ts us p _ e _ _ _=>?_] e1 ?_
 .ext ϕ7;let#[d,h3,h4]:=r.ų9 h1;show#[d,į6 h3,h4]
 .ext ϕ7
 .unfold oA vP;have:=r.len;simp[this]
 .ext ϕ7
 .ext ϕ7
 .cases o with
  | rt y'=>cases e2;show λ d S' s r=>hq ύ s r
  | nx Y'=>
   cases e2;show λ S' Z' L' F=>hq .zB S' F.sx (EV E8 Į5)
  | _=>cases e2
def xC ĸ7 ô2:G9:=ËM
def mY ĸ7 ô2 (v:T):Lc:=
 Æu
section
variable {è}
theorem xR.len:∀ Ĭ8,OU->é5=UA
 | [],_,h=>LG
 | Ùe,_,h=>by
  let#[d,m,rfl,_,h2]:=h;simp[xR.len h2]
theorem xR.val:∀ Ĭ8 ô2,OU->(xC a k=none/\vB b k=none)\/∃ t d,xC a k=↑t/\vB b k=↑d/\uL
 | [],_,k,h=>by cases h;show È Dj
 | (j,t)::r,_,k,h=>by
  ext üf;by_cases e:j=k
  .subst e;show Æ #[t,d,by simp[xC],by simp[vB],h1]
  .rcases xR.val k h2 with ⟨g1,g2⟩ | ⟨t',d',g1,g2,g3⟩
   .show È #[öl,ös]
   .show Æ #[t',d',öl,ös,g3]
theorem xR.any:∀ Ĭ8 ô2,OU->(b.any Xr)=a.any Xr
 | [],_,k,h=>LG
 | (j,t)::r,_,k,h=>by
  ext üf;rw[IS,IS,xR.any k h2]
theorem xR.jR Hd sr û(r:uL):∀ Ĭ8,OU->xR S (a.map λ kv=>if Oh then (kv.1,t) else kv) (b.map Ès)
 | [],_,h=>LG
 | (j,u)::a,_,h=>by
  ext üg;ext Ξ2;by_cases q:j=k
  .rw[Ç q,Ç q];show#[d,_,rfl,r,xR.jR r h2]
  .rw[É q,É q];show#[e,_,rfl,h1,xR.jR r h2]
theorem xR.snoc Hd sr û(r:uL):∀ Ĭ8,OU->xR S (a++[(k,t)]) (b++[O0])
 | [],_,h=>by cases h;show#[d,[],rfl,r,rfl]
 | (j,u)::a,_,h=>by
  ext üg;show#[e,_,rfl,h1,xR.snoc r h2]
def xR.put Ĭ8(h:OU) ô2 sr û(r:uL):xR S (mY a k t) (putD b k d):=by
 unfold mY putD;rw[h.any k];split
 .show xR.jR r h
 .show xR.snoc r h
end
@[simp] def į2 Ü:Sm:=fun Y=>↑(.nx (HM i ↑(ì (θ1))))
@[simp] def Ω7 Ü ŷ:zEO:=fun Y=>Ř λ y=>match ĸ,y with
 | Kl,Di=>xC ş3
 | _,_=>none
@[simp] def Ě3 Ü Ν4:zEO:=fun Y=>Ř λ y=>Ci λ z=>match ĸ,y with
 | Kl,Di=>↑((xC ş3).getD z)
 | _,_=>none
@[simp] def œ5 Ü (f v:zEO):Sm:=fun Y=>Ùj λ z=>Ř λ y=>match ĸ,y with
 | Kl,Di=>if η8 then ↑(.nx (HM i ↑(ì (ĈS)))) else none
 | _,_=>none
@[simp] def Ų0 Ü:zEO:=fun Y=>match ĸ with
 | Kl=>↑ ÝF
 | _=>none
def ł0 è Ï9 xr ß(hE:GL) ă{tp:Lc}(h:ÍC):∃ p b,Bs/\S p=↑(.yf b)/\xR qa tp b:=by
 let#[p,o,h1,h2,h3,_]:=hE.ow i _ h;cases o with
 | yf b=>show#[p,b,h1,h2,h3]
 | _=>show u_
theorem Ň2 þ ă ß Ŀ{f:Lc->Int->M4}{o:α}(e:(match ĸ,y with
 | Kl,Di=>f Io
 | _,_=>none)=↑o):∃ tp k,ÍC/\Xz/\f Io=↑o:=by
 cases h1:ĸ with
 | none=>ext Ám
 | some v=>
  rw[h1] at e;cases v with
  | none=>show ť
  | some v=>
   cases v with
   | im t=>show ť
   | own c=>
    cases c with
    | yf tp=>
     cases y with
     | int k=>show òf
     | _=>show ť
    | _=>show ť
section
variable {ę}{f g v:zEO}{ty tx tv:zr}
def Æ8 Ü:zQ R (į2 i) (nh Ņ5 GU):=λ S0 Z0 S Z L Y o E F e P=>by
 ext ÜE;show P Ð (F.Ż1 (ts:=θ1) (ds:=θ1) Üq rfl)
def Ê0 Ü Β4:wO (Ω7 i f) (ĵ9 rE ty):=λ S Z L Y y Q hE e hq=>by
 ext ω8;let#[tp,k,h,rfl,e4]:=Ň2 e2
 .ext Æb;exact hf π7;cases WD;rcases (WS (oG s1) h3).val FY with ⟨g1,_⟩ | ⟨t,d,g1,g2,g3⟩
  .rw[g1] at e4;cases e4
  .rw[g1] at e4;cases e4;show#[p,b,k,d,rfl,rfl,s1 Ik,g2,hq d S1 s1 g3]
def ā7 Ü Β4 (hg:wO g tx):wO (Ě3 i f g) (į4 rE ty tx):=λ S Z L Y y Q hE e hq=>by
 ext þn;ext ôU
 .ext éQ;cases WD;exact ãF;rcases óg FY with ⟨g1,g2⟩ | ⟨t,d,g1,g2,g3⟩
  ext ďF
  ext ďG
def Ô4 Ü Β4 (hv:wO v tv):zQ R (œ5 i f v) (Ě6 rE ty tv):=λ S0 Z0 S Z L Y o E F e P=>by
 ext íl;ext ôU
 .split at e4
  .ext Dr;cases e4;ext êW;let#[p,b,h1,h2,h3]:=ł0 F1.er h;change yL i Ĺ _;ext æf;have h4:=WS Λ3 h3;show#[p,b,k,rfl,rfl,s2 Ik,by rw[h4.len];show hl,P _ Z L (Ăz (us:=ĈS) (es:=.yf (putD b FY dz)) i h h1 (h4.put _ ĈT))]
  .cases e4
def õ5 Ü:wW (Ų0 i) (o7 ŋ4 (lr rE jt)):=λ S Z L Y y Q hE e hq=>by
 unfold Ų0 at e;ext Ĥ
 .rename_i tp h;cases e;ext Æb;exact#[p,b,rfl,h2,?_];rw[θ5];show DF
 .cases e
end
@[simp] def ų3 ŷ:zEO:=fun Y=>Ř λ x=>match x with
 | Ą=>↑(Â (-i))
 | _=>none
def Ġ5 (ta:zr):zr:=fun L S Q=>ta L S λ x S1=>match x with
 | Ą=>Q (Â (-i)) S1
 | _=>ê
def À5 Ĉ ŝ π8:wW (ų3 f) (Ġ5 te):=λ S Z L Y y Q hE e hq=>by
 ext bw
 .cases WD;cases e2;show hq p_ ÕO
 ext Ż
def æ6:nq zk dE Ŧ3:=Ŧ6
def đ9:nq zk ς4 ň9:=Ŧ6
def m8:ö->õ (é)
 | []=>↑[]
 | Ą::ts=>(m8 ts).map (i::·)
 | ş=>none
def mU:ö->õ (Ğ)
 | []=>↑[]
 | Î r::ts=>(m8 r).bind λ x=>(mU ts).map (x::·)
 | ş=>none
def zN uN:T:=Î (FP ĕ)
theorem aF:∀ ÿ{is:é},m8 ts=↑is->ts=Ùk
 | [],is,h=>LG
 | HJ::ts,is,h=>by
  unfold m8 at h;ext ćh;rw[As,<- aF h1]
 | .zB::ts,bs,h=>Ρ
 | Fj::ts,bs,h=>Ρ
 | DD::ts,bs,h=>Ρ
 | Î _::ts,bs,h=>Ρ
 | ÝN,bs,h=>Ρ
theorem ŭ6:∀ ÿ ţ7,mU ts=↑rs->ts=HZ
 | [],is,h=>LG
 | Î r::ts,is,h=>by
  unfold mU at h;let#[x,h1,h]:=ϟ h;let#[cs,h2,rfl]:=sj h;rw[As,<- ŭ6 h2,aF h1];rfl
 | .zB::ts,bs,h=>Ρ
 | Fj::ts,bs,h=>Ρ
 | DD::ts,bs,h=>Ρ
 | rV::ts,bs,h=>Ρ
 | ÝN,bs,h=>Ρ
def Υ1 (is:é):m8 (Ùk)=↑is:=by
 induction is with
 | nil=>rfl
 | cons b bs ih=>rw[As];unfold m8;rw[ih];rfl
def Τ7 (rs:Ğ):mU (HZ)=↑rs:=by
 induction rs with
 | nil=>rfl
 | cons b bs ih=>
  change mU (Î (b.map ĕ)::B4 zN)=_;unfold mU;rw[Υ1,ih];rfl
theorem jN è:∀ {is:é}ñ,zo S (Ùk) ds↔ds=is.map J9
 | [],ds=>ûh
 | i::is,ds=>by
  rw[As];simp![zo,Sn];ext Ő
  .rintro⟨c,cs,rfl,rfl,h⟩;rw[jN.mp h];rfl
  .rintro rfl;show#[Ą,_,rfl,rfl,ϵ1]
theorem e_ è:∀ ţ7 ñ,zo S (HZ) ds↔ds=rs.map mV
 | [],ds=>ûh
 | r::rs,ds=>by
  rw[As];simp![zo,zN,Sn];ext Ő
  .rintro⟨c,cs,rfl,⟨es,rfl,h1⟩,h⟩;rw[e_.mp h,jN.mp h1];rfl
  .rintro rfl;show#[mV r,_,rfl,#[_,rfl,ϵ1],e_.mpr rfl]
@[simp] def Ź1:T->õ ń
 | .zB=>↑"NoneType"
 | Fj=>↑"bool"
 | rV=>↑"int"
 | DD=>↑"str"
 | Î _=>↑"tuple"
 | Å _=>↑"list"
 | Hu=>none
 | FW=>none
@[simp] def DG (ty:ń) ŷ:zEO:=fun Y=>Ř λ x=>(Ź1 x).map λ t=>.bl (nB t ty)
theorem Vw.err è Ï9 PJ sr û(h:Vw S Z (Ûl) d):∃ x,d=A6 c f x/\Sn qa t x:=by
 ext P0
 ext MH
 .cases h
 .cases h
def č1 {ty:ń}Ĉ ŝ Xv:wW (DG ty f) (cx ty te):=λ S Z L Y y Q hE e hq=>by
 ext ω8;let#[n,e3,rfl]:=Na;exact hf NF;have key:gX d S1=↑n:=by
  rw[<- e3];cases x with
  | zB=>cases Vw.zB r1;rfl
  | bl _=>cases WW;rfl
  | int _=>cases WD;rfl
  | str _=>cases Jf;rfl
  | tup _=>let#[ds,rfl,_]:=Ôa;rfl
  | lst _=>
   ext Çd
   .rfl
   .unfold gX;ext ÄP;rfl
  | _=>cases e3
 rw[key];show YU
@[simp] def isNone:Jk
 | .zB=>true
 | _=>Á
def dX:ÃL
 | .zB=>true
 | _=>Á
def zW đ8:T:=Î [Â p.1,Â p.2]
def Α9 Χ:T:=Å (rg Â)
@[simp] theorem ze7:QV:=rfl
def Ö9 ď(h:n<=10000):n<=â:=BY h ()
def oo þ ÿ4 ý{x:α}(h:xs[k]?=↑x):Ĭ xs ü=↑x:=by
 ext Y5;have hk:=(χ h).1;rw[Ç Q4,Ç (LQ.af hk)];exists h
@[simp] theorem œ2 þ ÿ4{x:α}:Ĭ (xs++[x]) (-1)=↑x:=by
 ext Y5;rw[uv,Ç Em];have:(-1+((xs++[x]).length:Int)).toNat=ò:=by simp;lia
 rw[Do,this];simp
@[simp] theorem zfn þ{x:α}ÿ4:Ĭ LX 0=↑x:=oo df
@[simp] theorem zfm þ{x y:α}ÿ4:Ĭ (x::y::xs) 1=↑y:=oo Ϻ5
@[simp] theorem zfl þ{x y z:α}ÿ4:Ĭ (x::y::z::xs) 2=↑z:=oo (k:=2) rfl
@[simp] theorem zfk þ{x y z w:α}ÿ4:Ĭ (x::y::z::w::xs) 3=↑w:=oo (k:=3) rfl
theorem Ŝ9 þ ñ0 (g:α->G9) ÔR:∀ Ò8,(∀ x∈xs,h tT=↑(g x))->fV h bV=↑(xs.filterMap g)
 | [],_=>rfl
 | A_,hh=>by
  rw[As];unfold fV;rw[hh Uq,Ŝ9 enc g h xs λ y hy=>hh Oe];cases q:g x <;> simp[q]
def zck þ ñ0 (g:Ŀ4) ÔR Ò8 (hh:∀ x∈xs,h tT=↑↑(g x)):fV h bV=↑(Θ g):=by
 rw[Ŝ9 enc (λ x=>↑(g x)) h xs hh];simp
def vy þ ñ0 (h:Ŀ4) â2 ÍR Ĉ ß Ò8 ïw
  (hh:∀ x∈xs,nL Ϭ9 tT=↑↑(h x)):ÍD=↑(Å (Θ h)):=by
 unfold xX;rw[hi,Do,Ç (Ók),zck enc h _ xs hh];rfl
def Æ4 þ ñ0 (h:α->G9) â2 ÍR Ĉ ß Ò8 ïw
  (hh:∀ x∈xs,nL Ϭ9 tT=↑(h x)):ÍD=↑(Å (xs.filterMap h)):=by
 unfold xX;rw[hi,Do,Ç (Ók),Ŝ9 enc h _ xs hh];rfl
section
variable {þ}{xg}{VI}
def turn HB (b:Sm) (y:T) Ï8:OB:=(g y Y).bind b
theorem dJ (y:T) (ys:ö) Ï8:vY Fd (O7) Y=(turn g b y Fc).bind λ o=>match o with
  | .nx Y2=>ϡ8
  | .ct Y2=>ϡ8
  | .bk Y2=>↑ Ϟ9
  | R6=>↑(R6):=by
 unfold turn;rw[vY];cases g y Fc <;> rfl
theorem au ñ0 (test:pN) (v:T) (Y0:Ev):∀ Ò8 Ï8,dh=Y0->(∀ x∈xs,∃ Y',ÝR=Y0/\ąw=↑(if ϱ9 then .rt v else YX))->gQ=↑(if xs.any test=true then .rt v else .nx Y0)
 | [],Y,h,_=>by rw[NE,vY,h];rfl
 | A_,Y,h,hs=>by
  let#[Y',h1,h2]:=hs Uq;rw[As,dJ,h,h2,IS];cases q:test x with
  | true=>simp
  | Á=>
   have ih:=au enc test v Y0 xs Y' h1 λ y hy=>hs Oe;exists ih
theorem ğ7 ñ0 (I:ĎP):∀ Ò8 (pre:ŵ) Ï8,I pre Fc->
  (∀ p x q,pre++xs=p++x::q->âY)->∃ Y',gQ=↑ tq/\I (pre++xs) Y'
 | [],pre,Y,h,_=>#[dh,by rw[NE,vY],sX]
 | A_,pre,Y,h,hs=>by
  let#[Y',h1,h2]:=hs pre x xs rfl _ h;rw[As,dJ,h1];have ih:=ğ7 enc I xs (pre++[x]) Y' h2 λ p y q e=>hs p y q (by rw[<- e];simp);exists ih
def m6 ñ0 (I:ĎP) Ò8 Ï8 (h:I [] Fc)
  (hs:∀ p x q,xs=p++x::q->âY):∃ Y',gQ=↑ tq/\I xs Y':=ğ7 enc I xs [] Y h hs
end
theorem η6 ą (h:n<=100000):ny [Â Gv]=↑(eU λ CU=>Ùl):=by
 change (if inR Gv=true then ↑(MR 0 (n:Int).toNat) else none)=_;rw[Ç (Ùm)];rfl
theorem Ê1 (a n:Nat) (h:a<=100000) (h':n<=100000):fh [Â (a:Int),Â Gv]=↑((ċ (n-a)).map λ CU=>ĕ ((a:Int)+ü)):=by
 change (if inR (a:Int)=true/\inR Gv=true then ↑(MR a ČJ) else none)=_;rw[Ç #[Ùm,Ùm],show ČJ=n-a by show Int.toNat_sub À];rfl
def gT (a:Key) (b:T) ĸ7 (j:Key):xC (ÃG) j=if a=j then ↑b else xC tp j:=by
 by_cases h:a=j <;> simp[xC,h]
theorem Ũ5 ÔS:∀ tp:Lc,xC (Mm Ès) j=(xC tp j).map λ x=>if j=k then d else x
 | []=>rfl
 | ÃG=>by
  have ih:=Ũ5 k j d tp;rw[As];by_cases hk:a=k
  .rw[Jt,gT,gT,ih];by_cases hj:a=j
   .subst hj;subst hk;simp
   .ext ž3
  .rw[Yi,gT,gT,ih];by_cases hj:a=j
   .subst hj;simp[hk]
   .ext ž3
theorem Ņ9 ÔS:∀ tp:Lc,(∀ kv∈tp,¬ Oh)->xC ÕD j=óh
 | [],_=>by
  change xC [O0] j=_;rw[gT];by_cases h:j=k
  .subst h;simp
  .rw[Fv,É (λ z=>h z.symm)]
 | ÃG,hn=>by
  have ih:=Ņ9 k j d tp λ kv hkv=>hn kv (Da _ hkv);have ha:¬ a=k:=hn ϯ2 BT;change xC (ϯ2::ÕD) j=_;rw[gT,gT,ih];by_cases hj:a=j
  .subst hj;simp[ha]
  .ext ž3
def Ĭ5 ĸ7 ô2:Om=ąx:=by
 unfold xC;rw[zhD,OF,TW,ÿD]
def Ŵ7 ĸ7 ÔS:xC (mY Io d) j=óh:=by
 unfold mY;split
 .ext G7;rw[Ĭ5] at h;rw[Ũ5];by_cases hj:j=k
  .subst hj;let#[x,hx]:=Option.isSome_iff_exists.mp h;simp[hx]
  .simp[hj]
 .ext G7;show Ņ9 k j d tp λ kv hkv z=>h (ÃM #[kv,hkv,DO z])
def ý7 ĸ7 ô2 (d:T):(mY Io d).length=if ąx=true then WR else WR+1:=by
 have e:=Ĭ5 Io;unfold mY;rw[e];split <;> simp
def lE đ8:é:=[p.1,p.2]
def Ő2 FE:ı:=(Qe LI).map λ r=>Êw
def Ũ4 FE:(Ku).map lE=Qe LI:=by
 unfold Ő2;rw[Db]
 conv=>rhs;rw[<- zgP (Qe LI)]
 exact WP W0;let#[p,_,rfl]:=π ((bZ _).mem_iff.mp hr);rfl
def η4 FE:(Ku).Perm ps:=by
 have h:=bZ LI;have:(Ku).Perm ((rR lE).map λ r=>Êw):=h.map _
 rwa [Db,show ((λ r:é=>Êw) ∘ lE)=id from rfl,zgP] at this
def dQ (p q:š):Prop:=p.1<q.1\/(Ξ6/\Λ4)
def ģ8 FE:(Ku).Pairwise dQ:=by
 have h:=L4.ų0 LI;rw[<- Ũ4,zg5] at h;exact h.imp λ{p q} hpq=>?_;unfold lE at hpq;rw[Zn,Zn] at hpq;unfold dQ;by_cases e:q.1=p.1
 .rw[Ç e] at hpq;by_cases e2:q.2=p.2
  .lia
  .rw[É e2] at hpq;have:=fg hpq;lia
 .rw[É e] at hpq;have:=fg hpq;lia
def õ7 FE:mU Yw=↑ LI:=by
 have:=Τ7 LI
 rwa [Db,show zN ∘ lE=zW from rfl] at this
def lh (q p:š):Bool:=Í (ÁQ)&&Í (Λ4)
def yz FE pX:Bool:=ps.any (lh q)
def wc {ps:ı}Ù1:Τ3=true↔∃ p∈ps,ÁQ/\Λ4:=by
 unfold yz lh;simp[TW]
theorem zcd {ps qs:ı}(h:ps.Perm qs) pX:Τ3=yz qs q:=by
 ext ÚD;show#[λ z0=>(by let#[p,h1,h2]:=z0;show#[p,h.mem_iff.mp h1,h2]),λ z0=>by let#[p,h1,h2]:=z0;show#[p,Čz h1,h2]]
def zcf (ps qs:ı) pX:yz (ps++qs) q=(Τ3||yz qs q):=by
 unfold yz;rw[List.any_append]
def lT FE:Prop:=ÕP λ p q=>p.1<q.1/\q.2<p.2
theorem lT.eq:∀ {ps qs:ı},lT ps->lT qs->(∀ q,Τ3=yz qs q)->ps=qs
 | [],[],_,_,_=>rfl
 | [],q::qs,_,_,h=>by
  have:=h q;rw[show yz [] q=Á from rfl] at this;have h2:yz Ρ8 q=true:=în;rw[h2] at this;ext Bu
 | uh,[],_,_,h=>by
  have:=h p;rw[show yz [] p=Á from rfl] at this;have h2:yz (uh) p=true:=WB ÉX;rw[h2] at this;ext Bu
 | uh,q::qs,hp,hq,h=>by
  have hp1:=CR hp;have hq1:=CR hq;have a1:∃ r∈q::qs,ϙ7:=RI (by rw[<- h];show WB ÉX);have a2:∃ r∈ uh,r.1<=q.1/\r.2<=q.2:=RI (by rw[h];show în);let#[r,hr,r1,r2]:=a1;let#[u,hu,u1,u2]:=a2;have qr:q.1<=r.1:=by
   ext Ðw
   .subst e;show Bi
   .show Ż9 ČK
  have pu:p.1<=u.1:=by
   rcases ķ hu with e | e
   .subst e;show Bi
   .show Ż9 ČL
  have e1:Ξ6:=⋯;have er:r=q:=by
   ext Ðw
   .show e
   .have:=ČK;lia
  have eu:u=p:=by
   rcases ķ hu with e | e
   .show e
   .have:=ČL;lia
  subst er eu;have e2:u.2=r.2:=LQ.Ŋ0 u2 r2;have epq:u=r:=Ýd e1 e2;subst epq;rw[lT.eq hp1.2 hq1.2 λ x=>?_];have hx:=h x;unfold yz at hx ⊢;rw[IS,IS] at hx;cases g:lh x u with
  | Á=>rw[g] at hx;exists hx
  | true=>
   have gx:u.1<=x.1/\u.2<=x.2:=by simpa [lh] using g
   have key:∀ {l:ı},(∀ v∈l,u.1<v.1/\v.2<u.2)->l.any (lh x)=l.any (lh ÒD):=by
    intro l hl;ext ăR
    .ext òP;have hg':v.1<=x.1/\v.2<=x.2:=ûi
     show íH
    .ext òP;have hg':v.1<=x.1/\v.2<=u.2-1:=ûi
     show íH
   rw[key hp1.1,key hq1.1];have hy:=h ÒD;unfold yz at hy;rw[IS,IS] at hy;have gn:lh ÒD u=Á:=by
    unfold lh;rw[show Í (u.2<=(x.1,u.2-1).2)=Á from FM (by change ¬ u.2<=u.2-1;lia),zg3]
   rw[gn] at hy;exists hy
def i3 (l:ř) ô4:Bool:=match l with
 | none=>true
 | some m=>Í (x<m)
def wL:ı->ř->ı
 | [],_=>[]
 | uh,l=>if i3 l p.2=true then p::wL ps ↑p.2 else ÃN
def m7 FE:ı:=wL (Ku) none
theorem aK:∀ FE (l:ř) pX,q∈ ÃN->q∈ps/\∀ m,l=↑m->q.2<m
 | [],l,q,h=>by simp[wL] at h
 | uh,l,q,h=>by
  unfold wL at h;ext č
  .rename_i c;have hm:∀ m,l=↑m->p.2<m:=λ m e=>by subst e;simpa [i3] using c
   ext ÑR
   .subst e;show#[BT,hm]
   .let#[h1,h2]:=aK ps _ q e;show#[Da _ h1,λ m e=>by have:=h2 HU;have:=hm m e;lia]
  .let#[h1,h2]:=aK ps _ q h;show#[Da _ h1,h2]
theorem Ů4:∀ FE (l:ř),ÕP dQ->lT (ÃN)
 | [],l,_=>by simp[wL,lT]
 | uh,l,h=>by
  ext ĀO
  .exact Τ4 #[λ q hq=>?_,Ů4 ps _ Iv];let#[g1,g2]:=aK ps _ q hq;have:=pV q g1;have:=g2 HU;unfold dQ at *;lia
  .show Ů4 ps _ Iv
theorem ŧ7:∀ FE (l:ř),ÕP dQ->∀ p∈ps,(∃ q∈ ÃN,q.1<=p.1/\q.2<=p.2)\/∃ m,l=↑m/\m<=p.2
 | [],l,_,p,hp=>ÚW
 | r::ps,l,h,p,hp=>by
  ext ĀO
  .ext øE
   .subst e;show È ÉX
   .rcases ŧ7 ps ↑r.2 Iv p e with ⟨q,q1,q2⟩ | ⟨m,e1,e2⟩
    .show È #[q,Da _ q1,q2]
    .cases e1;have:=pV p e;unfold dQ at this;show È #[r,BT,⋯,e2]
  .ext øE
   .subst e;cases l with
    | none=>simp[i3] at c
    | some m=>show Æ #[m,rfl,by simpa [i3] using c]
   .show ŧ7 ps l Iv p e
def Ÿ6 FE:lT (aD):=Ů4 À (ģ8 ps)
def Ė6 {ps:ı}Ù1(h:q∈ aD):q∈ps:=(η4 ps).mem_iff.mp (aK À q h).1
def dP FE pX:yz (aD) q=Τ3:=by
 rw[<- zcd (η4 ps) q,OF,wc,wc];ext Ő
 .rintro⟨p,h1,h2⟩;show#[p,(aK À p h1).1,h2]
 .rintro⟨p,h1,h2⟩;rcases ŧ7 (Ku) none (ģ8 ps) p h1 with ⟨r,r1,r2⟩ | ⟨m,e,_⟩
  .show#[r,r1,AH r2.1 h2.1,AH r2.2 h2.2]
  .cases e
end L5
namespace L2
open Ë å Ô
section
variable {Ì}
def ĭ8 Ï:R2:=λ x y H Q=>∃ l b xs zs,x=Ii/\XU/\yB Ò l xs/\yB Ò b zs/\ĂA/\∀ p,Gs->Q ī (upd H p ČM)
theorem Ċ4:yM ž0 (ĭ8 X.K):=by
 ext qy;ext æQ;cases ry;let#[its,r,p1,_]:=HK hH;let#[its2,r2,p2,_]:=HK hB;let#[SD,ho,hc,n,hd]:=p1.isList;let#[ÇJ,ho2,hc2,n2,hd2]:=p2.isList;ext Çi;have e:Ũ++ż3=(its++its2).toArray:=∅;exact Ϫ2 Íp noFill_list_add seq_list_add PySem.F.slot_list_add PySem.F.entry_list_add (PySem.F.args_list_add_2 À) (list_addW l b Ũ ż3 ϓ3 (by rw[GT,GT,<- ϗ,<- Su];show hz)) Ăb;rw[e];show#[à _,_,I.ñ2 (t':=Ĕ) (eW r2) (ćO),rfl,q _ I.fresh]
def ŧ9 Ï:R2:=λ x y H Q=>∃ a b ys,LJ/\XU/\y6 Ò a []/\y6 Ò b ys/\Q pq H
theorem õ8:yM ž0 (ŧ9 X.K):=by
 ext qy;let#[l,b,ys,rfl,rfl,hH,hB,q]:=h;ext ÀX;let#[its,r,p1,_]:=Ê8 hH;let#[its2,r2,p2,_]:=Ê8 hB;let#[SD,ho,hc,n,hd]:=id p1;let#[ÇJ,ho2,hc2,n2,hd2]:=id p2;ext Çi;show Ϫ2 År
   (tuple_addW0 l b Ũ ż3 ϓ3 (by cases r;rfl)) #[ho,ho2,#[Oa,H,I,rfl,q]]
end
end L2
namespace L5
open Ë å L2 L3
open Ô hiding St
section
variable {Ì}{Ý}{a b c e:Expr}{Ń}{ta tb tc te:zr}{υ}{NR}
def km.mo:v9 km:=λ x y S Q Q' hq h=>by
 cases x with
 | int i=>cases y <;> first | show Å5 | show h
 | str i=>ext ćW
 | tup i=>ext ćW
 | vw ds=>
  unfold km at h ⊢;ext ÎI
  .show çC
  .show ë
 | ref q=>
  unfold km at h ⊢;ext ÎI
  .show çC
  .show ë
 | _=>show h
def iJ æ è û ϋ ñ ō8 ig (n:ϧ1):∃ a xs,qe/\sV/\GW:=by
 ext ëQ
 .show á rfl (n _)
 .ext ϒ0;show#[a,xs,h1,h2.sq,h3]
 .ext öa;show#[_,xs,rfl,Lf h1,h2]
abbrev ĺ5 Ï:R2:=λ x y H Q=>ma (λ i j=>Κ0) qu\/((çx)\/(ĭ8 qZ\/(ŧ9 qZ\/ĵ6 qZ)))
def km.fits:vb K km (ĺ5 K):=λ x y d e H S Q h1 h2 h3 h=>by
 have lst:(ϧ1)->(match YT,yG e S with
  | Ãu,↑es=>(ÒB)/\Ϗ8/\∀ r,S r=none->o6 Ò Q äx
  | _,_=>ê)->ĺ5 qZ:=λ n h=>by
  ext č
  .rename_i ds es q1 q2;let#[a,xs,rfl,g1,g2]:=iJ h1 h3 q1 n;let#[b,ys,rfl,g3,g4]:=iJ ē7 q2 h.1;exact Æ (Æ (È #[a,b,xs,ys,rfl,rfl,g1,g3,by rw[<- yZ,<- Tj];show qG,Ϛ]));show Dk üh (h3.ups Ι #[_,yy,ôm])
  .show ë
 cases d with
 | int i=>
  cases e with
  | int j=>
   show ïL
  | _=>show ë
 | str i=>
  cases e with
  | str j=>
   show Æ (èz)
  | _=>show ë
 | tup ds=>
  cases e with
  | tup es=>
   have h1':=h1;have h2':=h2;ext îC;have hl:=yZ;have hl':=Tj;by_cases hx:xs=[]
   .subst hx;have:ds=[]:=by cases ds <;> simp_all
    ext Η;show Æ (Æ (Æ (È #[a,b,ys,rfl,rfl,g1,g3,h.2 _ H h2' tJ h3])))
   .exact Æ (Æ (Æ (Æ #[a,b,xs,ys,rfl,rfl,g1,g3,hx,by rw[<- hl,<- hl'];show h.1,λ hy=>?_,λ hy p hp=>?_])))
    .subst hy;have:es=[]:=by cases es <;> simp_all
     ext Η;exact h.2 ßy h3;rw[IR];show h1'
    .exact h.2 þo;ext EN;show#[p,_,rfl,PM,ôm]
  | _=>show ë
 | vw ds=>show lst E8 h
 | ref q=>show lst E8 h
 | _=>show ë
def Ù4 Š:PD X (A1 a .Add rn) (x9 km Ġ):=iP (Ă0.or (Ĥ3.or (Ċ4.or (õ8.or ė1)))) km.fits km.mo BX
def jo.mo {g:Η9}:oS (jo g):=λ ds S Q Q' hq h=>by
 unfold jo at h ⊢;ext č
 .show ë
 .let#[bs,h1,h2]:=h;show#[bs,h1,hq Ik]
 .show ë
def jo.fits {g:Η9}:nV K (jo g) (λ xs H Q=>∃ p,∃ bs:tM,Yb/\yB Ò p ØR/\Q (Ùh) H):=λ xs ds H S Q h0 h2 h=>by
 unfold jo at h;ext č
 .show ë
 .rename_i d hn;ext Hn;let#[bs,e,h]:=h;let#[a,ys,rfl,g1,g2]:=ðT;rw[g2.bools] at g1;show#[a,bs,rfl,g1,Vh]
 .show ë
def Đ4 (hm:X.mg "all"=none) È5 ĺ (hg:Gl X "all") BC:PD X (Ă (ć "all" p) DY) (o7 (jo Ûr) tA):=
 ji (jU (zcR hc) Hy boot_all pz) jo.mo jo.fits ĝ
def Ĉ3 æ û ϋ π5:Í (v=.zB)=dX d:=by
 cases d with
 | tup _=>ext ëX
 | vw _=>ext ëX
 | err _ _ _=>simp![zA] at r;let#[a,_,_,_,rfl,_]:=r;rfl
 | _=>ext Lq;rfl
def á7 OC:PD X (ÜY .USub a pos) (Ġ5 ta):=by
 exact#[fun L S Q Q' hq h=>ĝ ó (λ x S1 z=>by
  cases x <;> first
   | show Me
   | show z) h,Œ (Ã2 ġ7 ha.pe) Ų]
 ext Œ6;cases x with
 | int i=>simp![zA] at q1;show#[i,q1,h1 ZZ]
 | _=>show qL
section
variable {aV}{tg elt iter:Expr}{ifs:Bl}{WA}{tcc:xI}
def kU.mo (hi:ũ9 ti):y7 YV:=fun L S Q Q' hq z=>hi ó (λ I S1 ϡ7=>#[h1,h2,λ p hp=>by
 let#[W,w0,w1,w2,w3]:=h3 ģ;show#[W,w0,w1,w2,λ S2 acc a b c=>hq À (w3 M5 Fu)]]) z
theorem Ŀ5 Îx (hc:nU tcc) (he:Ng) Υ æ Ud(hu:zU K YV ź):Š2 øF (o9 K tcc) (zU K te) ź:=by
 ext ŀ;exact ãA;let#[hlen,hk,hF]:=hF;ext þH;let#[W,w0,wm,wstep,wfin]:=hF D hS1;exact#[λ i m σ H2=>m=BQ-i/\i<=BQ/\Àa/\ĈU/\∃ S2 acc,ye K H2 S2/\Κ7/\S2 D=↑ LH/\ϵ2<=i/\W i M5,#[_,rfl,GO,ÁR,ía,ups S1 D KD,[],?_,Mu hS1 _,mL,Ÿ,?_],?_]
 .show êZ
 .show wm 0 S1 _ [] ök w0
 rintro i m σ2 H2 ⟨rfl,hi',x2,q1,S2,acc,q2,sx,hS2,hacc,hW⟩;ext ìC;by_cases hl:i<BQ
 .ext Éq
  ext Ðq;exact Æ #[go,Òj];ext Ël;exact#[_,_,S2,d3,η5 x3,p3,hg À ÇQ (wstep i _ M5 hd sx hS2 hW)];let#[hle,z4]:=z4;exact EE hc a1 a3 z4 λ b S5 H5 z5 x5 p5=>pJ (λ z5=>?_) (λ z5=>?_) z5
  .exact Ģ he (a1.ext x5) p5 z5 λ y S6 v H6 z6 q6 x6 p6=>?_;let#[s6,hW6]:=z6;let#[ys,h6,r6]:=p6 À (s6 À hS2);ext æd
   exact#[ys,BQ-Ζ,h6,⋯,ÁE,rfl,hl,((ϋ8 x5).trans x6).trans e6,hle.rep ((a1.ext (x5.trans x6)).ext e6),ói,ÁP,?_,λ b o hb=>?_,mL,ċw,?_]
   .show p6.ups e6 #[_,yy,FO e6 _ (r6.snoc q6)]
   .rw[èI];show ĂB
   .show wm _ S6 À ök hW6
  .let#[s5,hW5]:=z5;show#[BQ-Ζ,ÁE,rfl,hl,ϋ8 x5,hle.rep (a1.ext x5),S5,acc,p5,sx.trans s5,s5 À hS2,Vx hacc,hW5]
 .have e:i=BQ:=⋯;subst e;show È #[g2 Ķ,wfin M5 sx hS2 hW _ H2 rfl (ð2 x2) q2]
def í9 ŝ7 ĺ ái
  Mo:
  PD X ø9 YV:=
 #[kU.mo Ð1,λ gV s σ H Q I hu=>ú6 àw hs Dh (Ŀ5 ãG hu)]
def Ĉ6 ă bu ŝ7 ĺ ái
  Aa Én
  (hsw:ÐJ)
  (hfn:ϗ0)
  Mo:
  ûj:=by
 exact#[nh.mo (kU.mo Ð1) ËL,λ gV s σ H D I hu=>Õ2 àw hN ĊU Ŋ D I ?_];ext ŀ;exact Ŀ5 ãG #[L,S,r1,r2,kU.mo Ð1 ó (λ x S1 z v H1 q1 e1 p1=>?_) z];show z óE
end
end
section
variable {Ė}{Ý}{Ih}{Iq}
def ĩ2 ę qD ā ϝ Ĩ8(F:ϟ0) Ðf
  (Ŕ:∀ Ð5,υ6):èl:=
 ŷ7 ëI λ cdv A ġ s H E hr=>by
  let#[t,h1,h2]:=Ŕ Áe hr;show ώ1
def fd5 ę qD ā ϝ Ĩ8(F:ϟ0) (hm:Ïy) Åo
  (Ŕ:∀ Ð5,υ6):FD Ν6:=
 #[#[f,fd,ĩ2 F Sc hn Ŕ,hm,F.kp,ϵ3],Qs]
def Ý1 ę C6 GS(hF:∀ ns:é,r_<=63->F [aO]=↑ ž) æ ú ô1{E:XK}(hO:ŵ0 H) (hS:yB Ν1) (hl:r_<=63):nW K A3 ÊJ E:=by
 have hFz:cK Ν1:=by
  rcases hS with (h | h) | h
  .rcases hO a with z | ⟨o,xs,z⟩
   .rw[h] at z;cases z
   .rw[h] at z;cases z
  .show È h
  .show Æ h
 exact#[[.vw ſ1],Nc,ã ?_ ä,(λ a o z=>Ás),ϯ6,[aO],Pf,Lg,ã ?_ ä,hF ns hl,λ d S' s r v H' rv _ _=>?_]
 .ext EN;show#[a,_,rfl,hFz,zu.Ť7 ns]
 .ext â8;show#[_,È #[rfl,ä5 ns],ϵ1]
 .have:=Sr.sn r;ext Η;simpa only [zA] using rv
end
end L5
namespace ST
open Ë M3
def k_ (xs:Ś):Prop:=xs.Pairwise eX
def Ε1 {xs:Ö7}{m d:Nat}(h:m<Il):xs.getD m d=xs[m]:=by simp[ϵ4,h]
theorem Ũ9 (xs:Ö7) ğ5 ÀO:∀ (f lo hi:Nat),hi-lo<=f->lo<=hi->hi<=Il->(∀ i ř9,i<lo->Pb<j)->(∀ i ř9,hi<=i->j<=Pb)->
  ÌV<=Il/\(∀ i ř9,i<ÌV->Pb<j)/\∀ i ř9,ÌV<=i->j<=Pb
 | 0,lo,hi,h1,h2,h3,h4,h5=>by
  unfold ÝS;have:lo=hi:=LQ.ħ2 Ŭ;ext Η;show ąy
 | f+1,lo,hi,h1,h2,h3,h4,h5=>by
  unfold ÝS;have n_:∀ i k (hi:i<Il) (hk:k<Il),i<=k->Pb<=xs[k]:=λ i k hi hk hik=>by
   rcases LT i k with q | q
   .have r:=List.pairwise_iff_getElem.mp hr i k W5 (ϴ3) q;rw[bY,bY] at r;show No r
   .have:i=k:=⋯;ext Η;show Ÿ
  by_cases hl:lo<hi
  .rw[Ç hl];ext Þ;have hm:Àl<Il:=⋯;rw[Ε1 hm];by_cases c:xs[Àl]<j
   .rw[Ç c];exact Ũ9 xs j hr f _ hi (LQ.Ľ6 h1) ⋯ h3 (λ i hi' hlt=>?_) h5;have:=n_ i (Àl) hi' hm ⋯;lia
   .rw[É c];exact Ũ9 xs j hr f lo _ (LQ.ĸ3 h1) Ib h4 (λ i hi' hge=>?_);have:=n_ (Àl) i hm hi' hge;lia
  .rw[É hl];have:lo=hi:=⋯;ext Η;show ąy
def ź2 {xs:Ö7}Cd ÀO:fk<=Il/\(∀ i ř9,i<fk->Pb<j)/\∀ i ř9,fk<=i->j<=Pb:=
 Ũ9 xs j hr Il 0 Il ⋯ LQ.bX Ķ ĈV ĈV
theorem Λ5 {xs:Ö7}{j i:Nat}ÀO (h:HC=↑j):fk=i:=by
 let#[h1,h2,h3]:=ź2 (j:=j) hr;let#[hi,e]:=Vu h;have a:¬ i<fk:=λ q=>by have:=h2 i hi q;lia
 have b:¬ fk<i:=λ q=>by
  have:=h3 (fk) (LQ.Ř7 q hi) Ķ;have r:=List.pairwise_iff_getElem.mp hr (fk) i (by simp;show LQ.Ř7 q hi) W5 q;simp at r;lia
 lia
def zc8 {xs:Ö7}Cd ÀO:(xs[fk]?=↑j)↔j∈ YE:=by
 ext Ő
 .intro h;let#[hi,e]:=Vu h;rw[<- e];simp
 .intro h;let#[i,hi,e]:=OS h;have hx:HC=↑j:=by
   simp at hi;simp[hi] at e ⊢;show e
  rw[Λ5 hr hx];show hx
def kz Ï4 (p:R8):R8:=
 if p.more>0 then { p with j:=p.j+1,more:=p.more-1 } else
 let (i,U3):=leap M p.i p.perturb
 { p with j:=i,more:=Zx,i,U3 }
def Ů2 ļ0 (p:R8):t.advance p=kz ś p:=rfl
def Ż4 (M i U3:Nat):R8:={ j:=i,more:=Zx,i:=i,U3:=U3,dummy:=none }
def way ï8:Nat->R8
 | 0=>Ż4 M (FT) (VP)
 | k+1=>ϵ5
def zdl Ï4 (p:R8) (h:p.dummy=none):(kz M p).dummy=none:=by
 unfold kz;split
 .show h
 .show h
theorem ŧ5 ï8:∀ k,(Eg).dummy=none
 | 0=>rfl
 | k+1=>zdl M _ (ŧ5 M h k)
def yN ï8:Nat->Nat×Nat
 | 0=>(FT,VP)
 | n+1=>leap M Av Iy
theorem Ş2 (M i pt:Nat) ô5 Đ (hk:Eg=Ż4 M i pt):∀ m,m<=Zx->ČN={ j:=i+m,more:=Zx-m,i:=i,U3:=pt,dummy:=none }
 | 0,_=>by rw[Nat.add_zero,hk];rfl
 | m+1,hm=>by
  have ih:=Ş2 M i pt h k hk m ⋯;change kz M (ČN)=_;rw[ih];unfold kz;rw[Ç (by change Zx-m>0;show Nat.zero_lt_sub_of_lt hm)];simp![Probe.mk.injEq];show#[⋯,⋯,qI,qI,qI]
def Ć1 (M i:Nat):Zx<=9:=by ext ϲ2
theorem Ĭ3 ï8 (n k:Nat) (hk:Eg=Ôc):way M h (k+(ÃO)+1)=Ż4 M (yN M h BW).1 (yN M h BW).2:=by
 have:=Ş2 M À h k hk _ Ķ;change kz M (way M h (k+_))=_;ext Hz;unfold kz;rw[É (by change ¬ _-_-(_-_)>0;lia)];rfl
theorem Ń2 ï8:∀ n,∃ k,k<=10*n/\Eg=Ôc
 | 0=>#[0,LQ.bX,rfl]
 | n+1=>by
  let#[k,h1,h2]:=Ń2 pC;have:=Ć1 M Av;show#[_,⋯,Ĭ3 pC k h2]
def zc6 ô5:VP<2 ^ 64:=by
 unfold bits;have h1:=zF0 h (show (2 ^ 64:Int)≠0 by decide);have h2:=zF1 h (show Eb<2 ^ 64 by decide);lia
theorem ĺ6 ï8:∀ n,ÝT<=VP
 | 0=>by simp[yN]
 | n+1=>by
  have ih:=ĺ6 pC;change (θ9)*32 ^ BW<=_;have:θ9*32<=Iy:=Nat.div_mul_le_self À
  calc θ9*32 ^ BW=(θ9*32)*32 ^ n:=by rw[Nat.pow_succ,zgQ (32 ^ n) 32,Nat.mul_assoc]
   _<=ÝT:=zgG _ this
   _<=_:=ih
theorem Đ8 ï8 ą (hn:13<=n):Iy=0:=by
 rcases ýn Iy with q | q
 .show q
 .have h1:=ĺ6 pC;have h2:=zc6 h;have h3:32 ^ 13<=32 ^ n:=Nat.pow_le_pow_right () hn;have h4:1*32 ^ n<=ÝT:=zgG _ q;have h5:(2:Nat) ^ 64<32 ^ 13:=()
  lia
def jX Ï4 Ü:Λ6
 | 0=>i
 | n+1=>(jX M i n*5+1)%EB
theorem Ħ1 ï8:∀ n,(ÒE).1=jX M ČO n
 | 0=>rfl
 | n+1=>by
  have ih:=Ħ1 pC;have hz:=Đ8 M h (13+n) (Gg 13 _);change ((ÒE).1*5+1+(ÒE).2/32)%EB=_;rw[hz,ih];rfl
theorem bN (M i:Nat):∀ a b,jX M i (a+b)=jX M (jX M i a) b
 | a,0=>rfl
 | a,b+1=>by
  change (jX M i (a+b)*5+1)%EB=_;rw[bN M i Ñ];rfl
def Ŵ0 Ï4:Nat->Nat->Ś
 | 0,_=>[]
 | n+1,i=>i::Ŵ0 M n ((i*5+1)%EB)
theorem Κ4 Ï4:∀ n i x,x∈Ŵ0 M n i->∃ k,k<n/\jX M i k=x
 | 0,i,x,h=>Ρ
 | n+1,i,x,h=>by
  ext ÑR
  .show#[0,LQ.ń9,e.symm]
  .let#[k,h1,h2]:=Κ4 M n _ x e;show#[k+1,⋯,by rw[f8,bN];show h2]
def Α0 Ï4:Prop:=M=7\/M=31\/M=127
theorem ý5 Ï4 JN:(òg)/\jX M 0 EB=0:=by
 have key:∀ M,((ċ EB).all λ e=>(Ŵ0 M EB 0).contains e)=true->òg:=λ M h e he=>by
  have:=G6 h e (BS ⋯);ext Ln
 rcases hM with rfl | rfl | rfl
 .show#[key 7 ur,zdK]
 .show#[key 31 ur,zdK]
 .show#[key 127 ur,zdK]
theorem đ1 Ï4 JN (i e:Nat) (hi:i<=M) (he:e<=M):∃ n,n<=M/\jX M i n=e:=by
 let#[h1,h2]:=ý5 M hM;let#[a,a1,a2]:=Κ4 M Ð (h1 i hi);let#[b,b1,b2]:=Κ4 M Ð (h1 e he);rcases LT b a with q | q
 .exact#[M+1+b-a,LQ.Ð6 q,?_];rw[<- a2,<- bN,show a+(M+1+b-a)=EB+b by lia,bN,h2,b2]
 .exact#[b-a,⋯,?_];rw[<- a2,<- bN,show a+(b-a)=b by show LQ.Ś7 q,b2]
theorem Ä3 ï8:∀ n,Av<=M
 | 0=>by have:=ČP;change FT<=M;lia
 | n+1=>by
  have:=zgR (Av*5+1+θ9) ÌD;change (_%EB:Nat)<=M;lia
theorem Ş3 Ï4 JN ô5 (e:Nat) (he:e<=M):∃ n,n<M+14/\Av=e:=by
 let#[n,h1,h2]:=đ1 M hM ČO e (Ä3 M h 13) he;show#[13+n,⋯,by rw[Ħ1,h2]]
theorem ý6 Ï4 JN ô5 (e:Nat) (he:e<=M):∃ k,k<10*(M+15)/\ÃP=e:=by
 let#[n,h1,h2]:=Ş3 M hM h e he;let#[k,k1,k2]:=Ń2 pC;show#[k,⋯,by rw[k2];show h2]
theorem Ī6 ï8:∀ k,ÃP+(Eg).more<=M/\(Eg).i<=M
 | 0=>by
  have h1:FT<=M:=by have:=ČP;lia
  exact#[?_,h1];change FT+(aM M (FT)-FT)<=M;ext ϲ2
 | k+1=>by
  let#[h1,h2]:=Ī6 M h k;change (ϵ5).j+(ϵ5).more<=M/\(ϵ5).i<=M;unfold kz;split
  .rename_i c;show#[by change ÃP+1+((Eg).more-1)<=M;lia,h2]
  .have h3:íI%EB<=M:=by have:=zgR íI ÌD;lia
   exact#[?_,h3];change _%EB+(aM M (_%EB)-_%EB)<=M;ext ϲ2
def Ŭ3 ï8 Đ:ÃP<=M:=by have:=(Ī6 M h k).1;lia
structure Tab ļ0 (hs:é):Prop where
 mask:Α0 ś
 gq:t.dummies=į
 len:pY=I_
 n_:k_ Hj
 top:∀ j∈ Hj,j<=ś
 bE:∀ Ü h j,hs[i]?=↑h->ÝU->äE
theorem Tab.live Ĕ9 q8(h:ÝU):t.slot j=.live i:=by
 ext ćj;rw[Λ5 T.n_ h,Ç (ċm)]
theorem Tab.empty Ĕ9 Cd(h:j∉ Hj):t.slot j=.empty:=by
 ext ćj;have n1:¬ (Ñ7[Ċ5]? == ↑j)=true:=λ q=>h ((zc8 T.n_).mp Õk);rw[É n1,îo]
theorem Tab.at Ĕ9 Cd(h:j∈ Hj):∃ (i:Nat) (g:Int),ÝU/\ÕQ:=by
 let#[i,hi,e]:=OS h;have hi':i<pY:=by exists hi
 exact#[i,hs[i]'(by rw[<- Ep];show hi'),?_,∅];rw[ON hi'];rw[bY] at e;rw[e]
theorem Ě2 Ĕ9 {vH:Nat->Int}(hA:∀ Ü g,ÕQ->vH i=g) ô5:∀ (f k:Nat),(∃ e,k<=e/\e<k+f/\(way r9 e).j∉ Hj)->
  ∃ k1,k<=k1/\(∀ m,k<=m->m<k1->∃ (i:Nat) (g:Int),Ϲ6=↑ ČQ/\ÕQ/\g≠h)/\
   (ϟ1 ∉ Hj/\õy=↑(.empty ϟ1 none)\/
    ∃ i,Ϲ6=↑ ϟ1/\hs[i]?=↑h/\õy=↑(.candidate ϟ1 i (way r9 (k1+1))))
 | 0,k,#[e,h1,h2,_]=>⋯
 | f+1,k,#[e,h1,h2,h3]=>by
  by_cases hm:(X7).j∈ Hj
  .let#[i,g,p1,p2]:=T.at hm;by_cases hg:g=h
   .exact#[k,Ÿ,λ m a b=>⋯,Æ #[i,p1,by rw[<- hg];show p2,?_]];unfold EU;ext Óo;rw[hA i g p2,Ç ċB,Ů2];rfl
   .have hne:e≠k:=λ q=>by subst q;show h3 hm
    let#[k1,q1,q2,q3]:=Ě2 T hA h f ŕ #[e,⋯,ÝV,h3];have eq:EU t vH h (f+1) (X7)=EU t vH h f (way r9 ŕ):=by
     conv=>lhs;unfold EU
     ext Óo;rw[hA i g p2,É ċB,Ů2];rfl
    rw[eq];exact#[k1,⋯,λ m a b=>?_,q3];rcases Nat.eq_or_lt_of_le a with w | w
    .subst w;show#[i,g,p1,p2,hg]
    .show q2 m w b
  .exact#[k,Ÿ,λ m a b=>⋯,È #[hm,?_]];unfold EU;rw[T.empty hm,ŧ5]
def Ŀ2 {xs ys:Ś}(hx:xs.Nodup) (h:∀ x∈xs,x∈ys):ò<=Dg:=by
 induction xs generalizing ys with
 | nil=>simp
 | cons x xs ih=>
  have h1:=Yf hx;have hxy:=h Uq;have:=ih Iv (ys:=ys.erase x) λ z hz=>by
   have hne:z≠x:=λ e=>pV (e▸hz);show (ùs hne).mpr (h ϣ8)
  rw[ój hxy] at this;have hp:=õz hxy;simp![GM];show Nat.add_le_of_le_sub hp this
theorem least {P:Nat->Prop}Đ (h:P k):∃ m,m<=k/\P m/\∀ m'<m,¬ P m':=by
 induction k using Nat.strongRecOn with
 | ind k ih=>
  rcases Ϫ9 (∃ m',m'<k/\P m') with ⟨m',h1,h2⟩ | q
  .let#[m,g1,g2]:=ih m' Ŭ;show#[m,⋯,g2]
  .show#[k,Ÿ,h,λ m' hm hp=>q #[m',hm,hp]]
theorem zbc {xs:Ś}ļ1(h:ò<=M):ÿE:=by
 rcases Ϫ9 (ÿE) with q | q
 .show q
 .have:=Ŀ2 (xs:=ċ EB) (ys:=xs) zhX λ e he=>by
   have:=Ho he;rcases Ϫ9 (e∈xs) with w | w
   .show w
   .show á #[e,⋯,w] q
  ext Oy
def Ŕ1 ļ0 ô5 ğ5:Prop:=j∉ Hj/\äE
theorem Tab.first Ĕ9 (hl:I_<=ś) ô5:∃ K,ČR/\ϗ8 ∉ Hj/\∀ k'<K,õA:=by
 let#[e,e1,e2]:=zbc (xs:=Hj) (M:=ś) (by rw[Ps,Ep];show hl);let#[k,k1,k2]:=ý6 ś ι1 h e e1;let#[K,q1,q2,q3]:=least (P:=λ n=>(way r9 n).j∉ Hj) k (by rw[k2];show e2);show#[K,⋯,q2,λ k' hk=>Classical.not_not.mp (q3 k' hk)]
def ą0 {xs:Ś}{j p:Nat}(h:k_ xs) (h1:∀ x∈ Ub,x<j) (h2:∀ x∈ UN,j<x):k_ (Ub++j::UN):=by
 exact List.pairwise_append.mpr #[h.sublist õr,Τ4 #[h2,h.sublist (List.drop_sublist À)],ąc];rcases ķ hb with e | e
 .subst e;show h1 a ha
 .have:=h1 a ha;have:=h2 b e;lia
theorem dY þ ÿ4{p i:Nat}{x y:α}(hp:p<=ò) (h:(Ub++x::UN)[i]?=↑y):(i=p/\y=x)\/(i<p/\HC=↑y)\/(p<i/\xs[i-1]?=↑y):=by
 have hl:(Ub).length=p:=by rw[zgC];lia
 rcases zg7 i p with q | q | q
 .rw[zg0 (uT q hl),List.getElem?_take,Ç q] at h;show Æ (È #[q,h])
 .subst q;rw[zgM (Ýz),hl] at h;simp at h;show È #[rfl,h.symm]
 .rw[zgM ⋯,hl] at h;obtain⟨d,hd⟩:∃ d,i-p=d+1:=#[i-p-1,LQ.ü9 q];rw[hd] at h;simp![zhY,List.getElem?_drop] at h;exact Æ (Æ #[q,?_]);rw[show i-1=p+d by show LQ.Õ6 hd];show h
theorem Tab.put Ĕ9 {h:Int}Cd(F:Ŕ1 t h j):
  ck<=I_/\æV/\Tab (OG).1 (hs.take ck++h::hs.drop ck):=by
 let#[b1,b2,b3]:=ź2 (xs:=Ñ7) (j:=j) T.n_;let#[fn,K,k1,k2]:=F;have e2:ck=Ċ5:=rfl;have e1:æV:=by
  change ({ t with place:=χ0,dummies:=_ }:UP)=_;rw[îo,e2]
 have pl:ż7=t.place.toList.take (Ċ5)++j::t.place.toList.drop (Ċ5):=ÏG Ð;have old:∀ x∈ Hj,x∈ ż7:=λ x hx=>by
  rw[pl];have:=zgS (Ċ5) Hj;rw[<- this] at hx;rcases Å4 hx with q | q
  .show SL _ q
  .show PP _ (Da _ q)
 rw[e2] at e1 ⊢;exact#[ĄE,e1,?_];rw[e1];exact#[ι1,T.gq,?_,?_,?_,?_]
 .change (χ0).size=_;rw[<- Ps,pl];simp[Ep]
 .change k_ ż7;rw[pl];exact ą0 T.n_ (ID) (ID)
  .ext ĎK;rw[zgC] at hi;rw[List.getElem_take,bY] at e;rw[<- e];show b2 i (by simp at hi;lia) ⋯
  .ext ĎK;rw[To] at hi;rw[List.getElem_drop,bY] at e;have h3:=b3 (Ċ5+i) (by simp at hi;show Nat.add_lt_of_lt_sub' hi) QU;have hm:x∈ Hj:=zgT hx;have hne:x≠j:=λ q=>fn (q▸hm);lia
 .intro x hx;change x<=ś;have hx:x∈ ż7:=hx;rw[pl] at hx;rcases Å4 hx with q | q
  .show T.top x (ùt q)
  .rcases ķ q with e | e
   .subst e;rw[<- k1];show Ŭ3 Ð
   .show T.top x (zgT e)
 .intro i g x hg hx;change ∃ k,(way ś g k).j=x/\∀ k'<k,(way ś g k').j∈ ż7;have hx:(χ0)[i]?=↑x:=hx;rw[<- Pi,pl] at hx;have hpl:Ċ5<=t.place.toList.length:=by exists b1
  have hpl':Ċ5<=I_:=ĄE
  rcases dY hpl hx with ⟨c1,c2⟩ | ⟨c1,c2⟩ | ⟨c1,c2⟩ <;> rcases dY hpl' hg with ⟨d1,d2⟩ | ⟨d1,d2⟩ | ⟨d1,d2⟩ <;> first
   | lia
   | (subst c2 d2;show#[K,k1,λ k' hk=>old _ (k2 k' hk)])
   | (let#[k,g1,g2]:=T.bE _ g x d2 (by rw[<- Pi];show c2)
      show#[k,g1,λ k' hk=>old _ (g2 k' hk)])
def gI Ś0 ğ5:Prop:=∃ k,QX
def zbw {P:Nat->Bool}{n k:Nat}(h:(AX).find? P=↑k):k<n/\P k=true/\∀ k'<k,P k'=Á:=by
 let#[h1,as,bs,h2,h3]:=List.find?_eq_some_iff_append.mp h;have hlen:as.length=k:=by
  have e:(AX)[as.length]?=↑k:=ćG
  have:=(χ e)
  let#[q1,q2]:=this;rw[zhV] at q2;show q2
 have hk:k<n:=by
  have:k∈ AX:=ćG
  show Ho this
 exact#[hk,h1,λ k' hk'=>?_];have:k'∈as:=by
  have e:(AX)[k']?=↑k':=ûk (LQ.Ř7 hk' hk);rw[h2,zg0 (uT hk' hlen)] at e;show P2 e
 have:=h3 k' this;ext Ln
def getD_none Ś4 Cd(h:øa=true):ćH:=by
 unfold ϵ4 at h;ext č
 .rename_i hj;have e:ľ[j]=none:=sX
  rw[ON hj,e]
 .simp at h
def ĩ8 Ś4 Cd(hj:j<ZW) (h:øa=Á):gI ľ j:=by
 unfold ϵ4 at h;rw[dif_pos hj] at h;cases q:ľ[j] with
 | none=>simp[q] at h
 | some k=>show#[k,by rw[ON hj,q]]
theorem š3 Ï4 Ś0 (hsz:ZW=M+1) ô5:∀ (fuel n kn:Nat),way M h kn=Ôc->(∀ q<kn,gI ľ ÒF)->
  (∃ n',n<=n'/\n'<n+fuel/\ľ[(yN M h n').1]?=↑none)->
  ∃ j q,ÒG Qb fuel Av Iy=↑j/\ÒF=j/\ćH/\îp
 | 0,n,kn,_,_,#[n',h1,h2,_]=>⋯
 | fuel+1,n,kn,hk,ho,#[n',h1,h2,h3]=>by
  have hre:ÍE+1-Av=ÃO+1:=by ext ϲ2
  have hwalk:∀ m,m<=ÃO->(way M h (kn+m)).j=Av+m:=λ m hm=>by rw[Ş2 M À h kn hk m hm]
  unfold ÒG;cases hf:(ċ (ÍE+1-Av)).find? (λ k=>(ϩ3 (Av+k) ↑0).isNone) with
  | some k=>
   let#[f1,f2,f3]:=zbw hf;exact#[_,kn+k,rfl,hwalk k (LQ.Ì7 f1),getD_none f2,λ q' hq=>?_];rcases LT q' kn with w | w
   .show ho q' w
   .have e:ĈW=Av+ÃQ:=by
     have:=hwalk ÃQ (LQ.þ2 f1 hq)
     rwa [show kn+ÃQ=q' by show LQ.Ś7 w] at this
    have hle:=Ŭ3 M h q';rw[e] at hle ⊢;show ĩ8 ⋯ (f3 ÃQ (ñN w hq))
  | none=>
   have f3:=List.find?_eq_none.mp hf;have occ:∀ m,m<=ÃO->gI ľ (Av+m):=λ m hm=>by
    have hle:=Ŭ3 M h (kn+m);rw[hwalk m hm] at hle;show ĩ8 ⋯ (Bool.eq_false_iff.mpr (f3 m (BS ⋯)))
   have hne:n'≠n:=λ e=>by
    subst e;let#[k,hk']:=occ 0 Ù2;rw[Nat.add_zero] at hk';rw[hk'] at h3;cases h3
   ext Þ;let#[j,q,r1,r2]:=š3 Qb hsz h fuel BW _ (Ĭ3 pC kn hk) (λ q hq=>by
    rcases LT q kn with w | w
    .show ho q w
    .have e:=hwalk (q-kn) (LQ.Ť6 hq);rw[show kn+(q-kn)=q by show LQ.Ś7 w] at e;rw[e];show occ _ (LQ.Ť6 hq)) #[n',⋯,ÝV,h3]
   show#[j,q,r1,r2]
structure Lay Ï4 (hs:é) Ś0 Aw:Prop where
 size:ZW=M+1
 Ŀ9:∀ (j k:Nat),QX->k<m
 each:∀ Đ,k<m->∃ (j:Nat),QX
 once:∀ (i j k:Nat),ľ[i]?=↑↑k->QX->i=j
 bE:∀ (j k:Nat) h,QX->hs[k]?=↑h->∃ q,ÒF=j/\îp
theorem Lay.none ļ1 JN Ri Ś4 Iu(L:ÐS) (hm:m<=M):íb:=by
 rcases Ϫ9 (íb) with q | q
 .show q
 .exfalso;have hall:∀ (e:Nat),e<=M->∃ (k:Nat),ľ[e]?=↑↑k:=λ e he=>by
   have hlt:e<ZW:=by rw[Hq];lia
   cases w:ľ[e] with
   | none=>show á #[e,he,ÿF] q
   | some k=>show#[k,ÿF]
  have:=Ŀ2 (xs:=(ċ EB).map λ e=>((ľ[e]?).getD tW).getD 0) (ys:=ċ m) (by
   exact List.pairwise_map.mpr (Xw ?_ zhX);intro a b ha hb hne e;exact hne ?_;let#[k,hk]:=hall a (by have:=Ho ha;lia);let#[k',hk']:=hall b (by have:=Ho hb;lia);rw[hk,hk'] at e;ext Ι2;show L.once Ñ k hk hk') (λ x hx=>by
   ext Íu;let#[k,hk]:=hall e (by have:=Ho he;lia);rw[hk];show BS (Tz e k hk))
  ext Oy
def Γ8 þ{xs:Kj}{j i:Nat}{a b:α}(h:(xs.setIfInBounds j a)[i]?=↑b):(i=j/\b=a)\/(vK/\HC=↑b):=by
 rw[zhE] at h;by_cases e:j=i
 .subst e;rw[ĭ] at h;ext č
  .cases h;show È Dj
  .cases h
 .rw[É e] at h;show Æ #[λ q=>e q.symm,h]
def Lay.step ļ1 JN Ri Ś4 Iu{h:Int}(L:ÐS) (hm:m<=M) (hh:hs[m]?=↑h):
  ∃ j,ÆY=↑j/\Lay M hs (ϐ2) p9:=by
 let#[e,e1,e2]:=L.none hM hm;let#[n',n1,n2]:=Ş3 M hM h e e1;let#[j,q,r1,r2,r3,r4]:=š3 Qb Hq h (turns M) 0 0 rfl (λ q hq=>⋯) #[n',LQ.bX,ûl,by rw[n2];show e2];have hj:j<ZW:=(Vu r3).1;have keep:∀ x,gI ľ x->gI (ϐ2) x:=λ x #[k,hk]=>by
  have hne:j≠x:=λ w=>by subst w;rw[r3] at hk;cases hk
  show#[k,by rw[zhE,É hne];show hk]
 have self:(ϐ2)[j]?=↑↑m:=by rw[zhE,ĭ,Ç hj]
 exact#[j,r1,#[by simp[Hq],λ x k hx=>?_,Ùn,λ x y k hx hy=>?_,λ x k g hx hg=>?_]]
 .rcases Γ8 hx with ⟨_,w⟩ | ⟨_,w⟩
  .cases w;show LQ.Ĥ4
  .have:=Tz x k w;lia
 .rcases LT k m with w | w
  .let#[x,hx]:=L.each k w;have hne:j≠x:=λ w=>by subst w;rw[r3] at hx;cases hx
   show#[x,by rw[zhE,É hne];show hx]
  .have:k=m:=⋯;ext Η;show#[j,self]
 .rcases Γ8 hx with ⟨w1,w⟩ | ⟨w1,w⟩ <;> rcases Γ8 hy with ⟨v1,v⟩ | ⟨v1,v⟩
  .lia
  .cases w;have:=Tz y _ v;lia
  .cases v;have:=Tz x _ w;lia
  .show L.once x y k w v
 .rcases Γ8 hx with ⟨w1,w⟩ | ⟨w1,w⟩
  .cases w;rw[hh] at hg;cases hg;subst w1;show#[q,r2,λ q' hq=>keep _ (r4 q' hq)]
  .let#[q,g1,g2]:=L.bE x k g w hg;show#[q,g1,λ q' hq=>keep _ (g2 q' hq)]
theorem ō3 ļ1 JN Ri(hl:I_<=M+1):∀ (rest:é) Ś0 Aw,m<=I_->hs.drop m=rest->ÐS->
  ∃ owner',rest.foldl (λ acc h=>do
   let (ľ,k) <- acc
   let j <- ÆY
   pure (ûm j ↑k,k+1)) ↑(ľ,m)=↑(owner',I_)/\Lay M hs owner' I_
 | [],ľ,m,hl2,hd,L=>by
  have hm:I_<=m:=List.drop_eq_nil_iff.mp hd;have e:m=I_:=⋯;subst e;show#[ľ,rfl,L]
 | h::rest,ľ,m,hl2,hd,L=>by
  have hm:hs[m]?=↑h:=by
   have:=Ó (λ l=>l[0]?) hd;ext Ln
  have hlt:m<I_:=(χ hm).1;let#[j,j1,j2]:=L.step hM ⋯ hm;have hd':hs.drop p9=rest:=by
   have:=Ó List.tail hd;ext Ln
  let#[o',h1,h2]:=ō3 hM hl rest _ p9 ⋯ hd' j2;exact#[o',?_,h2];rw[Re,<- h1];change _=_;congr 1;change ((ÆY).bind λ j=>↑(ϐ2,m+1))=_;rw[j1];rfl
theorem ú1 Ï4 (hs:é):Lay M hs (ąz EB tW) 0:=by
 have no:∀ (j k:Nat),(ąz EB (tW:õ Nat))[j]?≠↑↑k:=λ j k h=>by
  rw[Array.getElem?_replicate] at h;split at h <;> cases h
 show#[∅,λ j k h=>á h (no j k),λ k hk=>⋯,λ i j k h=>á h (no i k),λ j k h e=>á e (no j k)]
theorem Ą0 ļ1 JN ím:∃ ľ,layClean M hashes=↑ ľ/\Lay M ÒH ľ ÕR:=by
 let#[o,h1,h2]:=ō3 hM (hs:=ÒH) (Ra) ÒH _ 0 Ù2 ∅ (ú1 M _);exact#[o,?_,Yn];unfold layClean;rw[<- Array.foldl_toList,h1];rfl
def lives Ï4 Ś0:List (Nat×Nat):=(ċ EB).filterMap λ j=>(ϩ3 j tW).map (j,·)
theorem getD_some Ś4{j k:Nat}:ϩ3 j tW=↑k↔ QX:=by
 unfold ϵ4;split
 .ext G7;rw[ON h];simp
 .ext G7;rw[aT ⋯];simp
def fE ļ1 Ś4(hs:ZW=M+1) {j k:Nat}:(j,k)∈ ÕS ↔ QX:=by
 unfold lives;rw[zfW];ext Ő
 .rintro⟨x,hx,e⟩;let#[y,e1,e2]:=Ol;cases (e2);show getD_some.mp e1
 .intro h;have hj:=(Vu h).1;show#[j,BS (LM hj hs),by rw[getD_some.mpr h];rfl]
def ĩ9 Ï4 Ś0:(ÕS).Pairwise λ a b=>a.1<b.1:=by
 unfold lives;rw[List.pairwise_filterMap];exact List.Pairwise.imp ?_ List.pairwise_lt_range;intro a b hab x hx y hy;let#[_,_,e1]:=sj hx;let#[_,_,e2]:=sj hy;subst e1 e2;show hab
def Ĕ7 ļ1 JN (finger moves:Nat) (led plain:Bool) ím:
  ∃ t GD,laid M finger moves led plain hashes=↑(t,GD)/\ś=M/\t.finger=finger/\Fp=led/\ſ8=plain/\order.toList.Perm (ċ ÕR)/\Tab t (order.toList.map ïM):=by
 let#[ľ,h1,L]:=Ą0 hM hashes hl;exact#[_,_,by unfold laid;rw[h1];rfl,rfl,rfl,rfl,rfl,?_,?_]
 .change (Q3 ũ).toArray.toList.Perm _;rw[zgU];exact (zi0 ?_ zhX).mpr λ k=>?_
  .exact List.pairwise_map.mpr (Xw ?_ (ĩ9 Qb));intro a b ha hb hab e;have h2:=(fE Hq (j:=a.1) (k:=a.2)).mp ha;have h3:=(fE Hq (j:=b.1) (k:=b.2)).mp hb;have e:a.2=b.2:=e;rw[e] at h2;have:=L.once Ð ē7;lia
  .rw[zC1];ext Ő
   .intro h;let#[#[j,k'],h2,rfl]:=L6;show Tz j _ (ÕT h2)
   .intro h;let#[j,hj]:=L.each k h;show sM #[(j,k),(fE Hq).mpr hj,rfl]
 .have pl:∀ x,x∈ Q3 Ě ↔gI ľ x:=λ x=>by
   ext Ő
   .intro h;let#[#[j,k],h2,rfl]:=L6;show#[k,ÕT h2]
   .ext Ϭ4;show sM #[(x,k),(fE Hq).mpr hk,rfl]
  exact#[hM,rfl,?_,?_,?_,?_]
  .change (Q3 Ě).toArray.size=(ïN _).length;simp
  .change k_ Ëb;rw[zgU];show List.pairwise_map.mpr (ĩ9 Qb)
  .intro x hx;change x<=M;have hx:x∈ Ëb:=hx;rw[zgU] at hx;let#[k,hk]:=(pl x).mp hx;have:=(Vu hk).1;rw[Hq] at this;lia
  .intro i g x hg hx;have hx:(Q3 Ě).toArray[i]?=↑x:=hx;have hg:(ïN ïM)[i]?=↑g:=hg;rw[øb,Fa] at hx;rw[zgU,Fa,Fa] at hg;let#[p,p1,p2]:=sj hx;rw[p1] at hg;simp![xn,ϔ3] at hg;let#[j,k]:=p;cases p2;have hm:=ÕT (P2 p1);have hk:=Tz À hm;let#[q,q1,q2]:=L.bE _ k g hm (by rw[<- hg];simp[hk]);exact#[q,q1,λ q' hq=>?_];change _∈ Ëb;rw[zgU];show (pl _).mpr (q2 q' hq)
section
variable {ώ}
abbrev rk E4 Ċ:HeapKind ĥ (é):=Ûn tE
def ÚS τ4 O4(h:ÝD tE ks vs):∀ v∈vs,ąA:=by
 induction h with
 | nil=>intro v hv;cases hv
 | cons h1 _ ih=>
  intro v hv;rcases ķ hv with rfl | hv
  .let#[t,e]:=ÍZ h1;show#[_,t,e]
  .show ih v hv
def Ģ3 τ4 ú û9(hk:Hk Ω9 ks a) ÂD:Ä í (ÿG 8 ĳ) ï:=by
 ext çv;unfold ÿG;exact AC (Tk hT ?_);change Ä À (dH >>= _) CW;exact CJ;ext Wo;exact ýo;ext Þ;ext áj
 .ext ñt;change Ä À (su >>= _) Ð;exact CJ;ext dv;show õB
 ext ÆS
def zaO τ4 ú û9(hk:Hk Ω9 ks a) (h:Q true s):Ä í (hashByValue 8 ĳ) ï:=by
 ext çv;unfold hashByValue;exact AC (ÏC hT F.slot_tuple_hash.lookup ?_);ext Þ;exact ýo;ext áj
 .ext ñt;change Ä À (dH >>= _) Ð;exact CJ;ext Wo;show õB
 ext ÆS
def Ê3 τ4 Ni û9(hk:Hk Ω9 ks b) (l:zLV) (hl:∀ v∈l,îq) ÂD:
  Ä í (ÿH pq l) ï:=by
 unfold ÿH;exact He;exact ÎQ _ (λ rest r s'=>r.1=none/\s'=s/\∀ v∈rest,îq) _ GQ À #[rfl,rfl,hl]
 .ext äc;let#[k,c,rfl,hc]:=hall v BT;have rest':∀ u∈rest,∃ k c,u=đ c/\Hk tE GN k c:=æn;ext Þ;by_cases e:(b == c||(ĈX pq&&ĈX (à c)))=true
  .rw[Ç e];show ók
  .rw[É e];exact AC ((Pn).quiet hk ?_);ext Wo;exact AC ((Pn).quiet hc ?_);ext Wo;exact AC (Ģ3 hk ?_);ext dv;exact AC (Ģ3 hc ?_);ext dv;show ók
 ext ÆS
structure gR Ľ (es:Mv) ļ0 (xs:Ép):Prop where
 es:EF=Θ ÝW
 is:∀ e∈xs,Hk tE h dA
 tab:Tab t (Xa)
 aQ:ò<=ś
theorem gR.fits Ĝ èF:Ϥ0:=by
 have hl:Ŏ=ò:=Êr
 have h1:=X.tab.len;rw[AS] at h1;have h2:=X.aQ;unfold ÒI Ϟ0;rw[X.tab.gq,hl,h1];simp;show h2
def gR.at Ĝ èF ă{e:ßA}(he:ÝX):es[i]?=↑ æW:=by
 rw[<- Pi,X.es,Fa,he];rfl
def ā4 ú uF Tf XO{key:é}Ni{Q:SetFound->ϴ}
  ϸ9 (ho:Ϻ9) (hd:Pg=XM) (X:ÿI) (hb:ĂC)
  (h1:key∈ s_->Q (.there none) s) (h2:key∉ s_->∀ j,Ŕ1 t CF j->Q (Cp j Á) s):
  ∀ (fuel k:Nat) (stand:õ R8),stand.getD (t.probeStart CF)=way XF k->(∀ m<k,ãu)->(∃ K,k<=K/\K<k+fuel/\ČR/\(way XF K).j∉ Hj/\∀ m<K,ČS ∈ Hj)->
   Ä í (ϧ2 ÍV stand) ï:=by
 intro fuel
 induction fuel with
 | zero=>
  intro k stand _ _ z;let#[K,q1,q2,_]:=z;lia
 | succ fuel ih=>
  intro k stand hst hpast z;let#[K,q1,q2,q3,q4,q5]:=z;have T:=X.tab;have hodd:t.gaveWay=Á:=by
   unfold SetTable.gaveWay;rcases ι1 with e | e | e <;> rw[e] <;> rfl
  unfold ϧ2;ext ñE;rw[hodd];ext dv;have hA:∀ Ü g,Ûs=↑g->ól=g:=λ i g hg=>by
   ext ñu;rw[X.at e1];show e2
  let#[k1,g1,g2,g3]:=Ě2 T (vH:=λ i=>ól) hA CF ĈY k #[K,q1,by unfold turns;show Nat.lt_add_left _ q3,q4];rw[hst];have look:∀ Ü g,Ûs=↑g->∃ e,ÝX/\Km e.1=g:=λ i g hg=>by
   ext ñu;show#[e,e1,e2]
  have ι2:∀ m<k1,ãu:=λ m hm=>by
   rcases LT m k with c | c
   .show hpast m c
   .let#[i,g,p1,p2,p3]:=g2 m c hm;let#[e,e1,e2]:=look i g p2;show#[i,e,p1,e1,λ q=>p3 (by rw[<- e2,q])]
  rcases g3 with ⟨n1,n2⟩ | ⟨i,n1,n2,n3⟩
  .have n2':t.probe _ CF (way XF k)=_:=n2;simp![ĈZ] at n2' ⊢
   erw [n2]
   ext Þ;exact AT (h2 Ùo _ #[n1,k1,rfl,Ùp])
   .let#[e,he,ek]:=π hm;let#[i,hi]:=List.mem_iff_getElem?.mp he;have hh:Ûs=↑ CF:=by rw[Fa,hi,<- ek];rfl
    have hil:i<pY:=by rw[Ep];show (χ hh).1
    let#[kk,w1,w2]:=T.bE i À hh (ON hil);rcases zg7 kk k1 with c | c | c
    .let#[i',e',p1,p2,p3]:=ι2 kk c;rw[w1] at p1;have:i=i':=by
      rw[<- Λ5 T.n_ (ON hil),<- Λ5 T.n_ p1]
     ext Η;rw[hi] at p2;cases p2;show p3 ek
    .subst c;rw[w1] at n1;show n1 ∅
    .show n1 (w2 k1 c)
   .let#[i',e',p1,_]:=ι2 m hm;show þK
  .simp![ĈZ]
   erw [n3]
   ext Þ;let#[e,e1,e2]:=look i _ n2;have hes:=X.at e1;have hey:=X.is e (P2 e1);have main:Ä í (E6 [Wj] (eqBool (à e.2) pq) >>= λ equal=>setState a >>= λ x=>match x with
     | (es',_,t')=>if (true&&equal)=true then pure (ĉa none) else
      match t'.sameMemory t.moves ś with
      | some same=>
       have jp:=λ hJ=>match hJ with
        | none=>do
         rule "set.search.anew"
         ϧ2 ÍV none
        | some i'=>if equal=true then pure (ĉa ↑i') else ϧ2 ÍV ↑(way XF (k1+1))
       match if same=true then t'.slot (way XF k1).j else Slot.empty with
       | .live i'=>match es'[i']? with
        | some (_,y')=>do
         let r <- isSame y' (à e.2)
         let hJ <- pure (if r=true then ↑i' else none)
         jp hJ
        | none=>do
         let hJ <- NQ
         jp hJ
       | _=>do
        let hJ <- NQ
        jp hJ
      | _=>ϯ7 "set.changed-during-lookup:is-the-new-block-at-the-old-address") ï:=by
    exact AC (OR ((Pn).eqBool hu hey hb ?_));ext ñE;by_cases hk:e.1=key
    .rw[DO hk];simp![zhF,tZ];show AT (h1 (sM #[e,P2 e1,hk]))
    .rw[FM hk];simp![zg3,iS,Ĉ5];have sm:t.sameMemory t.moves ś=↑true:=by unfold SetTable.sameMemory;simp
     rw[sm];ext Þ;rw[ĭ,T.live n1];ext Þ;rw[hes];ext Þ;exact AC (wpAny_isSame_ref_self ?_);exact CJ;rw[ĭ];ext Þ;have hKk:k1<K:=by
      rcases zg7 K k1 with c | c | c
      .let#[i',e',p1,_]:=ι2 K c;show á (þK) q4
      .subst c;show á (P2 (by rw[Pi];show n1)) q4
      .show c
     exact ih (k1+1) HU (Ùp) #[K,⋯,⋯,q3,q4,q5];rcases LT m k1 with c | c
     .show ι2 m c
     .have:m=k1:=⋯;ext Η;show#[i,e,n1,e1,hk]
   rw[hes];by_cases hl:Fp=true
   .rw[hl];ext Wo;show main
   .have hl':Fp=Á:=Ra
    rw[hl'];simp![zB2,tZ];exact AC (Ê3 hb _ (ØI) ?_)
    .let#[p,hp,rfl]:=π hv;rw[Array.toList_filter,zC8,X.es] at hp;let#[#[e',he',rfl],_]:=(Ût (π hp.1) hp.2)
     show#[e'.1,e'.2,rfl,X.is e' he']
    .ext dv;show main
structure gE E4 Ċ Ľ Ŵ (xs:Ép) (led:Bool):Prop where
 ex:∃ es ep t,ϊ2/\ĂD/\ít
 nd:WT
def ţ0 BB τ4{b a:Addr}Tf{c:Ø}{d:ł}{sl:uA}(x:Hk tE h ks b) (ho:IZ=↑{ cls:=c,dict:=d,data:=XM,JW:=sl }) (hs:sJ a rX):Hk tE h' ks b:=by
 let#[o',ε,n,ho',hc,hd',hi]:=x;have hne:b≠a:=by
  rintro rfl;obtain rfl:o'=_:=ôd;cases hd'
 show#[o',ε,n,(qH b hne).trans ho',hc,hd',hi]
theorem Y0 Ĝ ú{es es':Mv}{ep:Nat}{t t':UP}(ho:ϊ2):(h.update a (cg es' t')).get? a=↑{ cls:=u5,dict:=none,data:=ýp }:=by
 have e:cg es' t' { cls:=u5,dict:=none,data:=XM }={ cls:=u5,dict:=none,data:=ýp }:=putSet_of es' t' rfl;have:=P6 (cg es' t') ho (Ϩ5);ext Uw;show this
theorem Ŭ1 Gi(l:ŵ) (f:α->β) (d:β):∀ (GD:Ś),(∀ k∈ GD,k<xk)->order.map (λ k=>(tj f).getD k d)=(ąB λ k=>l[k]?).map f
 | [],_=>rfl
 | k::GD,h=>by
  have hk:=h k BT;have ih:=Ŭ1 l f d GD λ j hj=>h j (Da _ hj);rw[As,zgK,Go hk];ext Þ;rw[As,ih];congr 1;simp[hk]
def ç8 ú Tf XO Θ6{b_ M:Nat}AY
  (ho:ż a=↑{ cls:=u5,dict:=none,data:=XM }) (X:ÿI) (hled:Fp=led) (hpl:ßN) JN êR (hnd:WT)
  (h:∀ h' xs',Ζ3->gE Ñv->Ys xs->pZ):Ä í (setRelay a b_) ï:=by
 have hlen:Ŏ=ò:=Êr
 have hhs:(Rr).toList=Xa:=by rw[ĂE,X.es,Db];rfl
 ext ñI
 ext àC
 unfold setRelay;exact ÉY;ext Þ;rw[É (by rw[hw];rcases hM with e | e | e <;> rw[e] <;> decide)];have hr:çD:=by
  ext éS;show h1
 rw[hr];have hes':(WJ).toList=Ûu ÝW:=by
  ext åm;rw[<- Pi,X.es,Fa]
 ext ćk;have hsz':ϵ6=Ŏ:=by
  ext óQ
 exact AC (m:=_) ?_;change Ä À (do
  let ↑(t,GD):=↑(t',GD) | ϯ7 "internal:set-table-without-room"
  let es':=WJ
  if es'.size != Ŏ then ϯ7 "internal:set-table-lost-an-element"
  pure (es',t)) Ð
 ext Þ;rw[É (by rw[hsz'];simp)];exact Ic;have hsl:ϵ6<=â:=by
  rw[hsz',hlen];ext Ξ3;rcases hM with e | e | e <;> subst e <;> lia
 exact Éw;have sb:=ĕ5 ð a (cg (WJ) t');exact h À sb #[#[_,ep+1,t',Y0 ho,#[hes',λ e he=>ţ0 (X.is e øc) ho sb,?_,?_],by rw[h4];show hled,by rw[h5];show hpl,?_],ïO hnd] Qn
 .rw[<- Ŭ1 xs (ÕU) 0 Ôd hlt,<- hhs];show h7
 .rw[XQ,h2];show ϵ7
 .rw[XQ,h2];show hfew
theorem ļ9 ą Ï4 JN (h1:n*5<M*3) (h2:M*3<=BW*5) (hn:n<70):∃ M',Α0 M'/\sizeAbove (grown BW)=M' + 1/\BW*5<M'*3:=by
 rcases hM with e | e | e <;> subst e
 .have:n=4:=⋯;ext Η;show#[31,Æ ì9,zdK,⋯]
 .have:n=18:=⋯;ext Η;show#[127,Æ (h_),zdK,⋯]
 .lia
def zdn ú XO{key:é}Ni Θ6 û9 ϸ9 (S:gE ĥ ð Ô7 led) (hb:ĂC) (hn:ò<70)
  (h:∀ h' xs' r,Ζ3->gE Ñv->(ãT)->ùu):
  Ä í (ϫ0 a pq CF) ï:=by
 let#[çE,hnd]:=S;have hlen:Ŏ=ò:=Êr
 unfold ϫ0 ĉb;exact OR (ÉY);ext Þ;rw[É (by simp[byScan,Value.scannable])];let#[K,k1,k2,k3]:=X.tab.first (by rw[AS];show X.aQ) CF;have hmk:ś<=127:=ép
 exact He;unfold setSearch;exact ā4 (key:=key) (b:=b) hu M0 X hb Ùo (λ hm j F=>?_) 100000 0 none rfl (λ m hm=>⋯) #[K,LQ.bX,⋯,k1,k2,k3]
 .ext Þ;exact Ic;have:=h üi #[çE,hnd] ĂF;show this
 .ext Þ;exact ÉY;ext Þ;let#[p1,p2,p3]:=X.tab.put F;ext îe
  ext õg
  ext öw
  ext èb;rw[hpt];ext WN;exact AC (zaO hb ?_);ext WN;let xs1:=Ub++Àm::UN
  have Qn:ÁS (xs++[Àm]):=by
   have e:ϵ8=xs:=zgS p xs;have:ÁS (Àm::(ϵ8)):=ĂG;ext Uw;show æo
  ext îd
  have hes1:(Q0).toList=UE ÝW:=by
   rw[ÏG,X.es];ext ϝ1
  have hsz1:(Q0).size=ò+1:=íJ
  have hsl:(Q0).size<=â:=by
   rw[hsz1];ext Lm
  exact AC (Éw);have sb:=ĕ5 ð a ĉc;have ho1:=Y0 (es':=Q0) (t':=t1) ho;have hm7:7<=ś:=ép
  have X1:gR VF (qx a ĉc) (Q0) t1 xs1:=by
   exact#[hes1,ϵ9,?_,by rw[hl1,hmt];lia]
   .rcases Å4 øc with q | q
    .show ţ0 (X.is e q) ho sb
    .cases tY;show ţ0 hb ho sb
   .have:UE (ÕU)=(Xa).take p++Km key::(Xa).drop p:=by ext ϝ1
    ext Hz;show p3
  have hnd1:ĉd:=by
   ext ât
  by_cases hf:ÑM=true
  .ext új;have hfill:Ôe:=by
    ext öv;show LQ.ŏ4
   have Ja:ś*3<=ÁT:=by
    have:=hf;ext ω1
   let#[M',g1,g2,g3]:=ļ9 ò ś X.tab.mask hfew Ja hn;rw[hlen];exact AC (ç8 (led:=led) ho1 X1 hlt hpt Lz ĄF hnd1 λ h' xs' sb' S' pm=>?_);exact Ic;show h h' xs' true (sb.trans sb') S' (Æ #[hm,pm.trans Qn])
  .ext ćK
   ext ðC;exact Ic;have hfill:Ôe:=by
    ext öv;show LQ.ŏ4
   have Ja:ÁT<ś*3:=by
    have:=hf';ext ω1
   show h _ xs1 true sb #[#[_,ep+1,t1,ho1,X1,hlt,hpt,úN],hnd1] ĂH
end
def Α2 Ċ:Bool:=! sG
def ń6 Ċ:Obj:={ cls:=u5,dict:=none,data:=.set į 0 (.fresh 0 0 Ht) }
section
variable {ώ}
set_option PN 3200000 in
def zcn (a:Ø) Ī(h:Q Fs { s with heap:=My }):
  tB í (Sy (ϐ "set.__new__") íc) (wants Q E) s:=by
 exact ÍF;change Ä QY (iH ćl >>= λ _=>again (ϐ ćl)) CW;exact AC (wpAny_of_eq (F.newCall_set_1 a) (AT #[ϧ3 ąC _,Cv F.entry_set_new ?_]));rw[ϕ9 ąC _];unfold Builtin.«set.__new__» Builtin.Frozenset.newClass newSet Ϸ0;have sub:=sub_set_self;ext QP;ext Þ
 wp_walk
 exact zj9 A2;ext Þ;simp![newObj];show AC (wpAny_alloc (AT (Cz)))
def Ì0 Ĝ ú(ho:IZ=↑ WI):gE ĥ h a [] Ht:=
 #[#[į,0,_,ho,#[rfl,ČT,äq,∅],rfl,rfl,ød],ä]
end
end ST
namespace ST
open Ë M3 Ô
section
variable {κ β:Type}[ϭ6 κ]{val:Ùq}{Wb}{ks:ÃR}{ă}{xs xs':Ÿ9}
structure Up ëS Ü (xs:Ÿ9):Prop where
 own:∀ e∈xs,∃ j,j<i/\its[j]?=↑(val dA)/\ks[j]?=↑e.1
 all:∀ ğ5 r,j<i->ks[j]?=↑r->r∈ s_
theorem ś5:∀ (l m:ÃR),l.Nodup->(∀ x∈l,x∈m)->xk<=Ž6
 | [],m,_,_=>GO
 | x::l,m,hn,hs=>by
  have h1:=Yf hn;have hx:=hs Uq;have:=ś5 l (m.erase x) Iv λ z hz=>(ùs (λ e:z=x=>pV (by rw[<- e];show hz))).mpr (hs ϣ8);rw[ój hx] at this;have:=õz hx;simp![GM];lia
def Up.len (U:ϯ8) (nd:WT):ò<=i:=by
 have:=ś5 ĂI ((ċ i).map λ j=>ks[j]?) (by
  have:ĂI=(s_).map some:=ϗ9
  ext Hz;show ÿJ _ (λ a b h e=>h (Vn)) nd) λ x hx=>by
  ext Íu;let#[j,h1,_,h3]:=Δ1;show sM #[j,BS h1,h3]
 ext Ln
def Up.step {key:κ}{b:β}(U:ϯ8) (hi:Ŝ1=↑(val key b)) (hr:ks[i]?=↑key)
  (h:ãT):Up Px Ζ xs':=by
 have eqi:∀ j:Nat,j<i+1->¬ j<i->j=i:=λ j a b=>⋯;rcases h with ⟨hm,rfl⟩ | ⟨_,hp⟩
 .exact ìp
  .let#[j,h1,h2]:=Δ1;show ýq
  .by_cases q:j<i
   .show ąD
   .ext öB;show hm
 .exact ìp
  .rcases Å4 (ČU he) with q | q
   .let#[j,h1,h2]:=U.own e q;show ýq
   .cases tY;show#[i,UF i,hi,hr]
  .rw[(hp.map Ě).mem_iff,IN];by_cases q:j<i
   .show SL _ (ąD)
   .ext öB;show Ûv
structure Kd E4 Ċ Ü4 ëS (Sa:Addr) (wr:Ξ) (Se:ÏH) (Tp:AI):Prop where
 nd:∀ {h xs},Se h xs->WT
 keep:∀ {h h' xs i},(∀ b o,b∉wr->SV)->ϯ8->Se h xs->ÝY
 Xf:∀ {h h'},(∀ b o,b∉Sa::wr->SV)->Tp h->Tp h'
 add:∀ Λ{xs:Ÿ9}ă CN û9 ë1,Tp ð->Se ð xs->ò<70->IX->
  (∀ h' tk xs' rr k b,v=val k b->ks[i]?=↑k->sJ Sa Xc->Ĕ<=tk->Se h' xs'->(k∈ s_/\xs'=xs\/k∉ s_/\Ys (xs++[(k,b)]))->Q rr { s with heap:=h',toks:=tk })->
  Ä í ČV ï
variable {Gf}{sO}{ο4}{I:Addr}{fp wr:Ξ}{G:CP->CP->Prop}{ď}{P:Nat->ÜG}{St:Nat->ϴ}{Sa:Addr}{Se:ÏH}{Tp:AI}
def au (W:WalksS ĥ FX I fp wr G n (λ i v=>P i v) St) (D:Kd ĥ FX Px Sa wr Se Tp) (hSf:Sa∉fp) (hP:∀ i v,P i v->IX) (hn:n<70):
  ∀ (k i:Nat) ŭ (xs:Ÿ9),n-i=k->i<=n->St i s->Se ð xs->Tp ð->ϯ8->
   (∀ s' xs',Moved (Sa::wr) G s s'->Se GN xs'->Up Px n xs'->R (.ok (Μ Ć)) s')->
   tB í (ϐ "set.update.loop" #[[à Sa,à I],[]]) R s:=by
 have more:∀ b∈wr,b∈Sa::wr:=λ b hb=>ÜO;intro k
 induction k with
 | zero=>
  ext öd;have e:i=n:=⋯;subst e;ext ír;show AC (W.done s À hst λ s' hm=>AT (hR s' xs (hm.mono more) õC hU))
 | succ k ih=>
  ext öd;have hlt:i<n:=Nat.lt_of_sub_eq_succ hk;ext ír;exact AC (W.item i s À hlt hst λ v s1 hPv hst1 hm=>?_);have hv:=hP i v hPv;have T1:=D.Xf (λ b o hb e=>ÃS b o (λ z=>hb (more _ z)) e) hT;have hl:ò<70:=by have:=hU.len (D.nd hS);lia
  change Ä QY (E6 [v] ČV >>= _) À s1;exact AC (OR (D.add T1 õC hl hv λ h' tk xs' rr key b ev hr sb ht S' hx=>?_));subst ev;have fr:=W.frame Ζ s1 h' tk hst1 ht λ c hc o e=>(sb.2 c (λ z:c=Sa=>hSf (z▸hc))).trans e;exact AT #[ϧ3 ôn _,ih Ζ _ xs' (LQ.Ó8 hk) hlt fr S' (D.Xf (λ c o hc e=>êx) T1) (hU.step hv hr hx) λ s2 xs2 hm2 S2 U2=>?_];exact hR s2 xs2 (Moved.trans W.gtrans ((hm.mono more).then_heap ht λ c o hc e=>?_) hm2) S2 U2;show êx
end
section
variable {Gf}{sO}{Wb}{pE}{Sa:Addr}{wr:Ξ}
def cH E4 Ċ Ľ (its:zAV) Ĝ6:Prop:=∀ Ü v,IX->∃ b r,v=Oa/\rows[i]?=↑r/\Hk tE h r b
def cH.at BB(T:cH ĥ h V5) (k:∀ Ü b,Ŝ1=↑ pq->ÜT):cH ĥ h' V5:=λ i v hv=>by
 let#[b,r,rfl,h1,o,ε,m,h2,h3]:=T i v hv;show#[b,r,rfl,h1,o,ε,m,k i b hv o h2,h3]
abbrev ũ4:é->Addr->Ø:=λ _ b=>Oa
def ë0 Θ6(hSw:Sa∉wr) ϸ9 (hoff:∀ Ü b,Ŝ1=↑ pq->b∉Sa::wr):Kd ĥ A ũ4 V5 Sa wr (λ h xs=>gE ĥ h Sa xs led) (λ h=>cH ĥ h V5) where
 nd:=λ S=>S.nd
 keep:=λ{h h' xs i} k U S=>by
  let#[#[es,ep,t,ho,X,r],nd]:=S;exact#[#[es,ep,t,k Sa _ hSw ho,#[X.es,ϵ9,X.tab,X.aQ],r],nd];let#[o,ε,m,g1,g2]:=X.is e he;let#[j,_,h2,_]:=Δ1;show#[o,ε,m,k À (λ z=>hoff j e.2 h2 Ûw) g1,g2]
 Xf:=λ k T=>T.at λ i b hi o e=>k b o (hoff i b hi) e
 add:=λ{s xs i v Q E} T S hl hv hQ=>by
  let#[b,r,rfl,hr,hb]:=T i v hv;unfold setAdd;exact OR (AC ((Pn).pyHash (k:=r) (a:=b) (A:=A) hu hb ?_));show zdn (s:={ s with toks:=Ĕ+(Pn).draws r }) (A:=A) hu S hb hl λ h' xs' rr sb S' hx=>hQ h' _ xs' rr r b öe
end
section
variable {ώ}
set_option PN 6400000 in
def Ĥ1 {κ β:Type} [ϭ6 κ] {val:Ùq}{ks:ÃR}{Se:ÏH}{Tp:AI}ó1 Wb Ī G_ (hl:ùv) ßE
  (D:Kd ĥ ČW Px Õ [qE] Se Tp) (hS0:∀ h,Ō Õ=↑ WI->Se h []) (hT0:∀ h,(∀ b o,ϒ->Fz)->Tp h)
  (h:∀ ϟ7 xs,ÝY->ČX->Æd):
  Éh:=by
 let#[c,tl,hmro]:=F.called_set.mro;have made:=F.called_set.made;have subm:=F.called_set.sub;exact RT (ÍF);change Ä À (callAny (u5) _) Ð;exact AT #[ϐ3,Cv F.entry_type_call ?_];rw[Around.under_plain (weight_type_call_type "set" [Ii] []) rfl];have nt:=F.called_set.notType;have cc:=F.called_set.canCreate;have tc:=F.typeCall_set_1 ū
 ext Ņ3
 exact û5 (zcn ū (E:=E) (Q:=λ obj s₁=>obj=KM/\s₁={ s with heap:=My }) Dj) λ r s₁ hr=>?_;cases r with
 | Aq e=>show hr
 | ok fl=>
  cases fl with
  | ret obj=>
   let#[rfl,rfl]:=hr;have hS:(My).get? Õ=↑ WI:=Eu;have hTy:ČY { s with heap:=My } Fs "set":=#[_,hS,rfl];have li:=F.called_set.init.lookup;have bi:=F.called_set.init.bind Fs
   ext Ņ3
   let s1:θ:={ s with heap:=My }
   exact û5 (YZ (R:=wants (λ r s₂=>r=Ć/\∃ h' tk xs,s₂={ s with heap:=h',toks:=tk }/\ÝY/\ČX/\
     Ìl) E) F.called_set.init.plain F.entry_set_init (check_set_init_1 hTy ?_)) λ r₂ s₂ hr₂=>?_
   .have hsz:ϕ3=qE:=Ss À;have szne:Õ ≠ ϕ3:=by rw[hsz];show Ϯ2
    have low:∀ b:Addr,b<Õ->b≠ ϕ3:=λ b hb=>by rw[hsz];show FS (zg9 hb)
    rw[<- hsz] at D;rcases hl with hl | hl
    all_goals
     let#[#[ocls,odict,odata,oslots],hol,hcl,nl,hdl]:=id hl;simp only at hcl hdl;subst hcl hdl;have hol1:=Gc WI hol;have sls:=F.sub_list_set;have slf:=F.sub_list_frozenset;have sts:=F.sub_tuple_set;have stf:=F.sub_tuple_frozenset;have nd:(sU "list" == sU "dict")=Á:=()
     have nd':(ÕV == sU "dict")=Á:=()
     have hlS:l<Õ:=IO hol;have hneI:l≠ ϕ3:=low l hlS;have hl1:=hl.push WI;unfold Builtin.«set.__init__» noKeywords Builtin.Frozenset.updateFrom;generalize hPI:Th=PI;unfold ń6 at *
     ext xL;ext wT;ext wS;ext wP;ext wP;ext wP;ext v6;ext u8;ext wS;ext t3;ext t3;ext wS;ext xL;ext t3;ext u8;ext u8;ext u8;ext wS;ext xL;ext t3;ext wS;ext xL;ext wP;ext wP;ext tO;ext u8;ext wS;ext wS;ext u8;ext wP;ext xL;ext t3;ext wP;ext wP;ext wP;ext sK;ext wS;ext sB;ext t3;ext wP;ext wP;ext sK;ext wS;ext sB;ext u8;ext xL;ext wP;ext sK;ext wS;ext u8;ext xL
     subst hPI
     first | exact ϛ9 ăV | exact ÍB ăV
     first
      | exact au ïx ((Walks.list çs).toS) øG
      | exact au ïx ((Walks.tuple çs).toS) øG
     .intro hm;ext ÑE
      .show szne q
      .show On hlS (tY)
     .show hS0 _ (Gc _ hS)
     .show hT0 _ λ b o e=>ϯ9
     .intro s' xs' hm S' U';ext áh;exact AT (AT #[rfl,h',tk',xs',rfl,S',U',λ b o hb e=>?_]);exact ÃS b o (Ρ3) (ϯ9);ext ZK
      .show FS hb q
      .show low Ϣ (tY)
   .cases r₂ with
    | Aq e=>show hr₂
    | ok fl₂=>
     cases fl₂ with
     | ret r=>
      let#[rfl,h',tk,xs,rfl,g1,g2,g3]:=hr₂
      ext Ņ3
      show h h' tk xs Lz g3
     | _=>show hr₂.elim
  | _=>show hr.elim
def zcF ó1 Wb pE Ī G_ (hu:xH+64<Ε) (hl:ùv) (hT:cH ĥ ð V5) ßE
  (h:∀ ϟ7 xs,gE ĎV->Up ũ4 V5 Tg xs->Æd):
  Éh:=by
 exact Ĥ1 hh hl hn (ë0 ∅ (show xH+1+1+1<Ε by lia) λ i b hb hm=>?_) (λ h e=>Ì0 e) (λ h k=>hT.at λ i b _ o e=>k Ie) h;let#[b',r,e,_,o,_,_,ho,_]:=hT i _ hb;cases e;have:=VM;ext ÑE
 .show FS this q
 .show FS (zg9 this) (tY)
end
end ST
namespace ST
open Ë M3
section facts
def Ö6:Manifest.owners.lookup (String.ofList ['r','o','t','a','r','e','t','i','_','t','e','s'].reverse)=↑Manifest.sig_set_iterator:=by kernel_rfl
def θ7:Slot "set_iterator" "__next__" "set_iterator.__next__":=
 .of (ľ:="set_iterator") (n:="__next__") ãX
def Ć2:ÝZ table "set_iterator.__next__"=↑Builtin.«set_iterator.__next__»:=entryFor_of_tree Ji
theorem Ċ6 (a:Ø):ι4 "set_iterator.__next__" #[[a],[]]:=by
 unfold ι4;rw[ČZ (id:="set_iterator.__next__") (n:=['_','_','t','x','e','n','_','_']) âs]
 kernel_rfl
def zbU:ÝZ table "set.__iter__"=↑Builtin.«frozenset.__iter__»:=ĉe (id':="frozenset.__iter__") ĎW
def ŋ0:Slot "set_iterator" "__iter__" "set_iterator.__iter__":=
 .of (ľ:="set_iterator") (n:="__iter__") ãX
def zbT:ÝZ table "set_iterator.__iter__"=↑Builtin.«dict_keyiterator.__iter__»:=ĉe (id':="dict_keyiterator.__iter__") ĎW
theorem zda (a:Ø):ι4 "set_iterator.__iter__" #[[a],[]]:=by
 unfold ι4;rw[ČZ (id:="set_iterator.__iter__") (n:=['_','_','r','e','t','i','_','_']) âs]
 kernel_rfl
end facts
theorem ģ3 þ:∀ (l:ŵ) Ü (x:α),l[i]?=↑x->l.Perm (x::l.eraseIdx i)
 | [],i,x,h=>E9
 | y::l,0,x,h=>by simp at h;subst h;simp
 | y::l,i+1,x,h=>by
  have ih:=ģ3 l i x (sX);rw[List.eraseIdx_cons_succ];show (ih.cons y).trans (.swap x y _)
theorem ě6 þ(next:Λ6):∀ (f k:Nat) (left:ŵ) (out:Kj),ÕW=f->(Ôg next f k left out).toList.Perm (Vz++left)
 | 0,k,left,out,h=>by
  cases left with
  | nil=>unfold Ôg;simp
  | cons _ _=>simp at h
 | f+1,k,left,out,h=>by
  unfold Ôg;have hlt:next k%ÕW<ÕW:=zgR _ ⋯;rw[Go hlt];ext Þ;exact (ě6 next f ŕ À (by rw[List.length_eraseIdx_of_lt hlt];lia)).trans ?_;rw[ÿK,Ix];show (ģ3 left À (Go hlt)).symm.append_left _
theorem ú9 þ(next:Λ6) (xs:Kj):(Ûx next xs).toList.Perm YE:=by
 unfold Ûx;exists ě6 next Il 0 YE į ∅
def PL Ċ Ŵ Ϣ9:Mv:=if sG=true then Ûx (w.params.setOrder a ep) es else es
def Ŀ0 Ċ Ŵ Ϣ9:(N4).toList.Perm EF:=by
 unfold PL;split
 .show ú9 À
 .show Qy
def i_ Ŵ (slot i n ep:Nat):Obj:={ cls:=Į "set_iterator",data:=rP [Ck slot,Ck i,œ,Ck n,Ck ep].toArray }
def XY ļ0:Λ6
 | 0=>0
 | i+1=>ϟ2+1
theorem zc7 {t:UP}(hr:k_ Hj):∀ i,i<=pY->Ŀ9 Ñ7 (XY t i)=i
 | 0,_=>by
  let#[h1,h2,h3]:=ź2 (xs:=Ñ7) (j:=0) hr;rcases ýn (Ŀ9 Ñ7 0) with q | q
  .show q
  .have:=h2 0 (KE q h1) q;lia
 | i+1,hi=>by
  have hd:ϟ2=Ñ7[i]:=Ε1 ⋯;change Ŀ9 Ñ7 (ϟ2+1)=i+1;rw[hd];let#[h1,h2,h3]:=ź2 (xs:=Ñ7) (j:=Þa) hr;have n_:∀ a b (ha:a<pY) (hb:b<pY),a<b->Ñ7[a]<Ñ7[b]:=λ a b ha hb hab=>by
   have r:=List.pairwise_iff_getElem.mp hr Ñ (by exists ha) (NB) hab;rw[bY,bY] at r;show r
  rcases zg7 (Ŀ9 Ñ7 (Þa)) Ζ with q | q | q
  .have:=h3 i Ib;lia
  .show q
  .have a:=h2 Ζ (LQ.fA q h1) q;have b:=n_ i Ζ ⋯ (LQ.fA q h1) LQ.Ĥ4;lia
structure mv Ċ Ľ Ŵ Ϣ9 ļ0:Prop where
 get:ϊ2
 fits:Ϥ0
 n_:k_ Hj
 led:Fp=Α2 w
 plain:ßN
theorem mv.size Ĝ8 Ĝ ú Tf(S:ϫ1):pY=Ŏ:=by
 have:=S.fits;simp![ÒI,By,sA] at this;show this.1
section
variable {ώ}
def Ŏ1 ú Tf ă{Q:õ (Ø ×Nat)->ϴ}Ī3 (hi:i<=Ŏ) (slot:Nat) (hs:Ës)
  (h:∀ Vo,ĂJ->Q ((N4)[i]?.map λ e=>(e.2,Vo)) s):Ä í (setNext a slot i ep) ï:=by
 unfold setNext Ϸ0;exact Éi;ext Þ;exact AC (ÒJ);change Ä öm ï;cases hb:sG with
 | true=>
  rw[ĭ,É ∅];unfold setWalk Ϸ0;exact AC (Éi);ext Þ;exact AC (ÒJ);change Ä öm _ E s;rw[Ĥ5];exact ÒJ;exact Ic;have:=h slot (λ q=>by rw[hb] at q;cases q);unfold PL at this;rw[Ĥ5] at this;show this
 | Á=>
  rw[É ∅];split
  .rename_i hd;have hd':ýr=true:=hd;rw[S.plain] at hd';simp at hd'
  .change Ä _ A ((if (! Fp&&!es.isEmpty)=true then ϯ7 "set:maker-not-led" else ÁU) >>= _) ï;have hl:Fp=true:=by rw[S.led];unfold Α2;rw[hb];rfl
   rw[É (by rw[hl];simp)];exact AC R5;have hsl:=hs hb;have hz:=S.size;rw[hsl,zc7 S.n_ i (by rw[hz];show hi)];have:=h (ÎF) (ğ);unfold PL at this;rw[É (by rw[hb];simp)] at this;rcases LT i Ŏ with q | q
   .have hp:i<pY:=by rw[hz];show q
    rw[ON q] at this;rw[ON q,ON hp];have e:ÎF=Þa:=by change ϟ2+1=_;rw[Ε1 hp]
    ext Uw;show this
   .rw[aT q] at this;rw[aT q];show this
def ņ4 {a I:Addr}{slot i n ep:Nat}(ho:ðU):ċ7 az "set_iterator":=ű6
def Ī5 Đ:(ü).toNat=k:=zgH k
def Ì9 {I a:Addr}Tf{i slot:Nat}{e:Int× Ø}Ő6(ho:ż I=↑ ùw) Ī3 (hs:Ës) (he:ĉf)
  (hi:i<Ŏ) (h:∀ h' Vo,ĂJ->ι I=↑(i_ a Vo Ζ Ŏ ep)->sJ I Xc->Q ↑e.2 { s with heap:=h' }):õD:=by
 ext āv;exact AC (Ŏ1 S ⋯ slot hs ča);rw[Ī5] at hs' ⊢;rw[he];dsimp only[xn];exact ùx;have o1:=P6 (C7 (·.set! 0 (û4 (Vo:Int) 0))) M0;exact AC (Tl o1 rfl ο8);have o2:=P6 (C7 (·.set! 1 (û4 (AF+1) 0))) o1 rfl;exact AT #[_,rfl,AT (h _ Vo hs' o2 ((ĕ5 ..).trans (ĕ5 ..)))]
def Ą8 {I a:Addr}Tf{slot:Nat}Ő6 G_ (ho:ż I=↑(i_ a slot Ŏ Ŏ ep)) Ī3 (hs:sG=Á->slot=XY t Ŏ)
  (h:∀ h',Heap.ExtBut I Xc->ôo):õD:=by
 have hn:(N4)[Ŏ]?=none:=by
  ext āw;rw[aT (LQ.ş2 this)]
 ext āv;exact AC (Ŏ1 S ∅ slot (Øu) ča);rw[Ī5,hn];dsimp only[Option.map_none];exact ùx;exact He;ext ćm;exact AC (P4 ?_ ÒK);exact ár;unfold raiseNew;ext íx;exact AC ((AT (ÕX ?_)));exact AC ((ϟ3 ïy Ϟ4 ĉg ?_));show AT (h _ ëu)
def Ä1 {I a:Addr}{slot i n ep:Nat}Ī(ho:ðU) (h:Q az s):Ä í (Th az) ï:=by
 exact ÿL ÃT ŋ0 (P5 ŋ0 ÃT zbT ?_ (zda _));show AT #[_,rfl,"set_iterator",_,ņ4 ho,θ7.lookup,h]
def mv.keep BB ú Tf(S:ϫ1) (k:∀ o,ż0->ι a=↑o):mv w h' a M_:=#[k _ S.get,S.fits,S.n_,S.led,S.plain]
def ā5 G_ (I a:Addr) (hne:a≠I) Ϣ9 ļ0:
  Walks ĥ A I [I,a] [I] Ŏ (λ i v=>∃ e,ĉf/\v=e.2) (λ i h=>(∃ slot,(Ës)/\Ō I=↑ ùw)/\ϫ1) where
 sub:=λ b hb=>by simp at hb;simp[hb]
 frame:=λ _ _ _ st k=>by
  ext ϑ5;show#[#[slot,h1,k I ∅ _ h2],S.keep λ o e=>k a YJ]
 item:=λ i s Q E hi st hQ=>by
  ext ϑ5;have hl:i<(N4).size:=by
   ext āw;show uT hi this
  exact Ì9 h2 S h1 (ON hl) hi λ h' Vo g1 g2 g3=>?_;show hQ _ h' Ĕ #[_,ON hl,rfl] #[#[Vo,g1,g2],S.keep λ o e=>(g3.2 a hne).trans e] λ b o hb e=>(g3.2 b (ſ9)).trans e
 done:=λ s Q E st hQ=>by
  ext ϑ5;show Ą8 hh h2 S h1 λ h' g=>hQ h' Ĕ λ b o hb e=>g b o (ſ9) e
 self:=λ _ _ _ _ st hQ=>by
  ext ϑ5;show Ä1 h2 hQ
def Õ4:JT (u5) "__len__"=pure ↑(ϐ "set.__len__"):=F.slot_set_len.lookup
def split_len:splitId "set.__len__"=↑("set","__len__"):=MC
def Ę4 ú Tf û9 Ī3 ÂD:Ä í (setDrawn a) ï:=by
 unfold setDrawn Ϸ0;exact Éi;ext Þ;exact AC (AC (zj9 R5));change Q (! sG&&ýr) s;rw[S.plain];exists h
set_option PN 4000000 in
theorem ï1 ú Tf û9 Ī3 ÂD:Ä í (ïP ĳ) ï:=by
 have Ty:ċ7 ĳ "set":=#[_,S.get,rfl];unfold ïP;exact AC (ÏC Ty Õ4 ?_);ext Þ;rw[split_len];ext Þ;exact AC (ϟ3 (b:=true) Ty sub_set_self ?_);rw[AK];rw[Ç ur];exact AC (Tk Ty ?_);show Cz
set_option PN 4000000 in
def zcl ú Tf{Q:Ρ7}G_ Ī3 (hn:Ŏ<=â)
  (h:∀ ϟ7,(Ìl)->Õ<=ÓH->Q (ÌW) { s with heap:=h',toks:=tk }):Ä í Ϧ8 ï:=by
 have ha:a<Õ:=IO S.get;unfold ÃU;exact AC (ÌH (Cv F.entry_proto_collect ?_));rw[ϕ9 F.plain_proto_collect _];change Ä QY (V8 >>= λ l=>again (ϐ "list.__iadd__" #[[l,œ],[]])) CW;exact AC (P4 (AT #[ϧ3 ÿM _,Cv F.entry_list_iadd ?_]));rw[ϕ9 ÿM _];let L0:Obj:={ cls:=ſ,data:=ùl }
 have S1:mv w (Ŧ L0) a M_:=S.keep Ùr;have T1:ČY { s with heap:=Ŧ L0 } ĳ "set":=#[_,S1.get,rfl];change Ä QY (MK Fs ĳ Fs) À { s with heap:=Ŧ L0 };unfold MK;exact AC (Tk T1 ?_);have hne:Õ ≠a:=On ha;have c1:óm Fs ĳ=Á:=by simp[óm,hne]
 rw[É (by rw[c1];decide)];exact AC (ÿL T1 ąE (P5 ąE T1 zbU ?_ (F.args_set_iter_1 _)));exact AC (AC R5);exact AC (AC (AC (ziT ăW R5)));exact AC (Ę4 S1 ?_);rw[AK];exact CJ;exact AC (wpAny_setEpoch_of ăW ?_);exact AC (P4 (AT #[_,rfl,"set_iterator",_,Ϟ4,θ7.lookup,?_]));let I:=Wm
 let h2:=(Ŧ L0).push ÿN
 have S2:mv w h2 a M_:=S1.keep Ùr;have hI:X9 I=↑ ÿN:=Eu;have hL:X9 Õ=↑L0:=Gc _ (Eu);have hsz:Wm=qE:=Ss À;change Ä QY Ð { s with heap:=h2 };exact AC (OR (ï1 (s:={ s with heap:=h2 }) S2 ?_));rw[Ç ur];exact AC (K4 ?_);exact He;change Ä QY (updateSeq Õ (·.push Ć) >>= λ _=>updateSeq Õ (·.pop)) À { s with heap:=h2 };exact AC (ąF hL Ψ);have hL2:=P6 ûn hL rfl;exact ąF hL2 Ψ;have hL3:=P6 ĉh hL2 rfl;let h3:=(h2.update Õ ûn).update Õ ĉh
 have oth:∀ b o,b≠ Õ->Úw->h3.get? b=↑o:=λ b o hb e=>Õr (Õr e);have haI:a≠I:=by change a≠ Wm;rw[hsz];show FS (zg9 ha)
 have hIn:I≠ Õ:=by change Wm ≠_;rw[hsz];show On (UF _)
 exact AT #[ϧ3 F.plain_extend_loop _,codeAny_extend_loopS ((ā5 (A:=FX) hh I a haI M_).toS) hn Õ ?_ _ Ŏ 0 { s with heap:=h3 } į HU Ù2 #[#[0,ğ,oth I _ hIn hI],S2.keep λ o e=>oth a o (Ł hne) e] hL3 (ItemsOf.nil _) λ s' acc c' hm hS' hacc=>?_]
 .intro hm;ext ÑE
  .show hIn q.symm
  .show hne (tY)
 .exact AC (Øw hS' A2);ext áh;have hcm:(N4).size=Ŏ:=by
   have:=æX;ext Ln
  have e:Ùs=ÌW:=by
   exact List.ext_getElem? λ j=>?_;rw[Fa];rcases LT j Ŏ with q | q
   .have hjl:j<acc.size:=ĄG
    have hj:acc[j]?=↑acc[j]:=ON hjl;let#[e,e1,e2]:=hacc.2 j _ hj;rw[Pi,Pi,hj,e1,e2];rfl
   .rw[Pi,Pi,aT (ĄG),aT (by rw[hcm];show q)];rfl
  rw[e];exact h h' tk' (λ b o hb e=>ÃS b o (Ρ3) (oth b o (FS hb) (ϯ9))) ?_
  .ext ZK
   .show FS hb q
   .have q':b=Wm:=tY;rw[hsz] at q';show FS (zg9 hb) q'
  .show No (IO hS')
end
end ST
namespace ST
open Ë M3 Ô L4
section
variable {ώ}
def ĭ7 ú Tf G_ Ī3 (hz:Ŏ<=â) (Q':Ρ7)
  (h:∀ h1 tk,ýh->Õ<=Ϫ6->Q' (ÌW) { s with heap:=h1,toks:=tk }):Ä í Ϧ8 Q' E s:=
 zcl hh S hz λ h1 tk k1 k2=>h h1 tk (λ b o _ q=>k1 b o ÃV q) k2
end
end ST
namespace ST
open Ë M3 å Ô L2
def wU Ċ Ŵ FC:AI:=λ h=>∃ es ep t,ϫ1/\es.toList.map ũ=us
def wU.mR Ĝ8 ú Ο{h1 h2:Heap}(S:wU w a us h1) (k:êC):wU w a us h2:=by
 let#[es,ep,t,S,e]:=S;show#[es,ep,t,S.keep k,e]
def gE.at Gf Ĝ ú XO(S:gE ĥ h Ô7 Ht):wU w a ÎY h:=by
 let#[#[es,ep,t,ho,X,h1,h2,h3],_]:=S;show#[es,ep,t,#[ho,X.fits,X.tab.n_,h1,h2],by rw[X.es,Db];rfl]
section
variable {Ì}
theorem ĩ4:∀ ô1 Ο,Õp->∀ Gf,ÝD tE ns us
 | [],_,ä,_,_=>ä
 | H_,_,ã r t,prog,w=>by
  let#[tk,rfl]:=r;show ã (ĉi) (ĩ4 t)
def zcC ĺ ź0:wI X (u5) (λ xs H Q=>∃ p ys,∃ rows:Ğ,Yb/\ϐ1/\L4.gG ŏ Ω5/\JK/\
  ∀ xm FC (ps:Oq),ÿ1->Vals Yq us->ûo->(uD).Nodup->øe->ûp):=by
 ext åb;obtain⟨its,rv,pl,hz⟩:∃ its,ÖV/\(ϝ8 p Ũ\/Ű9 p Ũ)/\True:=by
  ext ϥ5
  .let#[its,rv,pl,_]:=IC;show#[its,rv,È G1,qI]
  .let#[its,rv,pl,_]:=Jm;show#[its,rv,Æ pl,qI]
 have hl:=LB;have hlr:Dg=HG:=GX hr;have mM:cH η ð Ũ rows:=λ i v hv=>by
  have hv':IX:=Úz
  have hi:i<Ü3:=(χ hv').1;let#[hne,b,hb,hsq]:=čb hr (i:=i) (ϰ0) V.zB ([]:é);have hy:ys[i]?=↑(ES b):=by
   rw[Go (ϰ0)];have:ys.getD i V.zB=ys[i]'(ϰ0):=by simp[show i<Dg by show ϰ0]
   rw[this] at hb;rw[hb]
  let#[v',e1,e2]:=ι7 hy;rw[hv'] at e1;cases e1;cases (show v=đ b from e2);let#[its2,rv2,#[o,e,hcl,n,hd],_]:=Ê8 hsq;exact#[b,Ϥ1,rfl,?_,o,ż3,n,e,hcl,hd,by exists ĩ4 rv2];simp[show i<HG by lia]
 have hh:ϣ9:=T6;exact zcF (A:=X.A) hh hu pl mM ês;ext ëP;have hfr:Θ1:=LV;have hSO:=S.at;have vals:Vals ((Êx).map Ě) ÎY:=by
  clear S U hSO
  induction xs with
  | nil=>show ä
  | cons e xs ih=>show ã rfl ih
 have snd:(Êx).map ũ=s_:=ϗ9
 exact#[KM,_,B6 (t':=tk) (o:=tU (wU X.w Õ ÎY)) kk Ķ ?_,rfl,q À (Êx) hfr vals (ID) (by rw[snd];show S.nd) λ r hr'=>?_]
 .ext ôV;show æF
 .ext Íu;let#[j,j1,j2,j3]:=Δ1;have hj':its[j]?=↑(Wj):=by exists j2
  have hjl:j<Dg:=by rw[hl];show (χ hj').1
  let#[v',e2,e3]:=ι7 (Go hjl);rw[hj'] at e2;cases e2;let#[hne,b,hb,_]:=čb hr (i:=j) hjl V.zB ([]:é);have:ys.getD j V.zB=ys[j]:=by simp[hjl]
  rw[this] at hb;rw[hb] at e3;cases (show Wj=đ b from e3);exact P2 (i:=j) ?_;rw[zhU];show#[by rw[Go hjl,hb],j3]
 .rw[snd];let#[j,hj]:=List.mem_iff_getElem?.mp hr';show U.all j r (by ext ĎX;lia) hj
theorem Paired.mk Gi{F:ŏ6}:∀ Mn{m:Ι4},ÃA->(∀ Ü a b,l[i]?=↑a->m[i]?=↑b->F Ñ)->Γ F l m
 | [],[],_,_=>ä
 | a::l,b::m,h,f=>ã (f 0 Ñ Ö) (Paired.mk (sX) λ i x y hx hy=>f Ζ x y (Úu) (by exists hy))
 | [],ş,h,_=>E9
 | ş,[],h,_=>E9
theorem zcB ĺ:wI X ϝ7 (λ xs H Q=>∃ l us vs,∃ rs:Ğ,xs=[Ii]/\H l=↑ ύ7/\ı4/\L4.gG ŏ vs rs/\F9<64/\L4.Zy (Vq rs) H Q):=by
 ext þp;let#[l,us,vs,rs,rfl,hl,hv,hr,h64,q]:=h;ext æi
 ext æD
 let#[qs,q1,q2]:=L4.Paired.perm hp ĂK;have hzl:ąG<64:=üP
 have hes:Ŏ<=â:=by
  have h1:Æ5=ąG:=GX ĂK;have h2:=Ó Í6 eu;rw[AS,Ps] at h2;ext Lm
 show L4.ť7 I (λ Q' h=>ĭ7 (by show T6) S hes Q' h) q2 (by rw[q1.length_eq];show hzl) λ p ps hf hp hs=>q p ps hf (hp.trans q1) hs
end
end ST
namespace L5
open Ë å L2 L3
open Ô hiding St
def oB:Ğ->Ğ
 | []=>[]
 | r::rs=>if r∈ Ov then Ov else r::Ov
theorem ao Ģ7:∀ ţ7,r∈ Ov ↔r∈rs
 | []=>.rfl
 | x::rs=>by
  unfold oB;split
  .ext G7;rw[ao,KK];show#[Æ,λ h'=>h'.elim (λ e=>e▸ao.mp h) id]
  .rw[KK,KK,ao]
theorem Ź6:∀ rs:Ğ,(Ov).Nodup
 | []=>ä
 | x::rs=>by
  unfold oB;split
  .show Ź6 rs
  .ext G7;show List.nodup_cons.mpr #[h,Ź6 rs]
theorem Ŷ1:∀ rs:Ğ,(Ov).length<=F9
 | []=>Ÿ
 | x::rs=>by
  unfold oB;have:=Ŷ1 rs;split <;> simp![GM] <;> lia
def ki:wG:=λ ds S Q=>match ds with
 | [d]=>∃ rows:Ğ,YT=↑ Κ9/\JK/\(ϙ6)/\∀ l,J8->Q ū (ups S l (Å ((Pu).map mV)))
 | _=>ê
def bq:zLO
 | [Δ]=>ÅO
 | [ő]=>ÅO
 | _=>none
def è7:nq zk bq ki:=λ S Z ys z ds Q hz hv e hq=>by
 have key:∀ y ts,ys=[y]->Ùg->(ÅO)=↑z->ki Dm:=λ y ts ey et e'=>by
  subst ey;ext CL;let#[rs,e1,e2]:=θ8;ext Ů
  .ext ÀY;cases ŭ6 e1;let#[es,h2,h3]:=Rt et;cases e_.mp h3;show#[rs,h2,Ú0,hc.2,èm]
  ext Ż
 unfold bq at e;ext Ĥ
 .show key À Ö e
 .show key À Ö e
 .cases e
section
variable {Ý}{ė}{p:Pos}
def ki.mo:oS ki:=λ ds S Q Q' hq h=>by
 unfold ki at h ⊢;ext č
 .let#[rows,h1,h2,h3,h4]:=h;show#[rows,h1,h2,h3,ôp]
 .show ë
def ki.fits Ĝ8:nV K ki (λ xs H Q=>∃ p ys,∃ rows:Ğ,Yb/\ϑ7/\ÎU/\JK/\
  ∀ xm FC (ps:Oq),ÿ1->Vals Yq us->ûo->(uD).Nodup->øe->
   ∃ l' us' vs',∃ rs':Ğ,ąH/\ìq/\Vals vs' us'/\L4.gG K Bx vs' rs'/\rs'.length<64/\L4.Zy (vs'.zip rs') Bx Q):=λ xs ds H S Q h0 h2 h=>by
 unfold ki at h;ext č
 .rename_i d;ext Hn;let#[rows,e,h64,hne,h]:=h;obtain⟨a,ys,rfl,g1,g2⟩:∃ a xs,LJ/\(sV\/rW)/\zu Ò Κ9 xs:=by
   by_cases hn:∃ ts,d=ő
   .let#[ts,rfl]:=hn;cases e;let#[a,xs,q1,q2,q3]:=h1;show#[a,xs,q1,Æ q2,q3]
   .let#[a,ys,q1,q2,q3]:=iJ Ŭ e (λ ts z=>hn #[ts,z]);show#[a,ys,q1,È q2,q3]
  exact#[a,ys,rows,rfl,g1,Ű3 g2 hne,h64,λ l us ps hf hv sub nd all=>?_];have mem:∀ r,r∈ uD ↔r∈rows:=λ r=>#[λ h=>by
   let#[q,hq,rfl]:=L6;show (zgB (sub q hq)).2,all r]
  have x1:Ext H Bx:=Λ9;have g3:óa:=zu.Y2 λ q hq=>zu.Α8 g2 q (sub q hq);have hper:(uD).Perm (oB rows):=(zi0 nd (Ź6 rows)).mpr λ r=>by rw[mem,ao]
  have hzip:(rR Ě).zip (uD)=ps:=by rw[List.zip_map',List.map_id''];intro a;rfl
  exact#[l,us,rR Ě,uD,rfl,yy,hv,Ű3 (FO x1 _ g3) λ r hr=>hne r ((mem r).mp hr),by rw[hper.length_eq];have:=Ŷ1 rows;lia,λ p qs hp hi hs=>?_];rw[hzip] at hi;have heq:=L4.ī4 ((hi.map ũ).trans hper) hs;ext ëZ
  ext üH
  have x2:Ext Bx (upd Bx p (Å (sI Ě))):=av;have r1:ye K Bx S:=ι8 hf;exact h ĀP (r1.ups x2 ÐT);rw[<- heq];show FO ÍG _ (zu.Y2 λ q hq=>zu.Α8 g2 q (sub q (hi.mem_iff.mp hq)))
 .show ë
end
end L5
namespace ST
open Ë M3 Ô
theorem Ĵ6 Ĕ9 ô5:∀ (f k K:Nat),k<=K->K<k+f->ϗ8 ∉ Hj->(∀ m<K,ČQ ∈ Hj)->EU t (λ _=>h+1) h f (X7)=↑ āo
 | 0,k,K,h1,h2,_,_=>⋯
 | f+1,k,K,h1,h2,h3,h4=>by
  by_cases e:k=K
  .subst e;unfold EU;rw[T.empty h3,ŧ5]
  .let#[i,g,p1,_]:=T.at (h4 k ⋯);have ih:=Ĵ6 T h f ŕ K ⋯ (ÝV) h3 h4
   conv=>lhs;unfold EU
   ext Óo;rw[É (by intro q;have:=ϻ5 q;lia),Ů2];show ih
theorem zbd Ĕ9 (hl:I_<=ś) ô5:∃ j,t.freeSlot h=↑(j,Á)/\Ŕ1 t h j:=by
 let#[K,k1,k2,k3]:=T.first hl h;exact#[ϗ8,?_,#[k2,K,rfl,k3]];have g:=Ĵ6 T h ĈY 0 K Ù2 (ûl) k2 k3;unfold SetTable.freeSlot;have e:t.probe (λ _=>h+1) h (t.probeStart h)=↑ āo:=g;rw[e];rfl
structure f_ E4 Ċ Ľ Ŵ (xs:Ky) (led:Bool):Prop where
 ex:∃ es ep t,ϊ2/\Ôh/\Tab t (Θ KJ)/\ít
 nd:WT
section
variable {ώ}
def Τ6 Óg Ri ď(h1:Ŏ=n) (T:Tab t hs) (h2:I_=n) (h3:n<=ś):Ϥ0:=by
 have l:=Ep;unfold ÒI Ϟ0;rw[T.gq,h1,l,h2];simp;show h3
def Ŀ7 {n m:Int}V1:(V3).is n (Â m t)=true↔n=m:=by
 ext Ő
 .intro h;let#[t',e]:=ÍZ (show Õd n (Â m t)=true from h);cases e;rfl
 .rintro rfl;show ĉi
def zbV {es:Mv}{xs:Ky}(h:Ôh):ElemsOf tE EF:=λ e he=>by
 rw[h] at he;let#[x,_,rfl]:=π he;show#[#[x.1,Ϸ1,rfl],rfl]
def Ã7 Óg{xs:Ky}{M b_:Nat}(he:Ôh) JN êR:
  ∃ es' t',∃ xs':Ky,relayAll t es b_=(es',t',Á)/\es'.toList=xs'.map (ω3)/\Ys xs/\Tab t' (xs'.map KJ)/\t'.mask=M/\t'.led=Fp/\t'.plain=ſ8/\es'.size=Ŏ:=by
 ext ÉH
 have hhs:(Rr).toList=Θ KJ:=by rw[ĂE,he,Db];rfl
 ext ñI
 ext àC
 have hr:çD:=by
  ext éS;show h1
 have hes':(WJ).toList=Ûu ω3:=by
  ext åm;rw[<- Pi,he,Fa]
 ext ćk;have hsz':ϵ6=Ŏ:=by
  ext óQ
 have hT:Tab t' (Ûu KJ):=by
  rw[<- Ŭ1 xs (KJ) 0 Ôd hlt,<- hhs];show h7
 exact#[_,t',_,?_,hes',Qn,hT,h2,h4,h5,hsz'];have yz:coversAll GD Ŏ=true:=by
  unfold coversAll;rw[List.isPerm_iff,hlen];show h6
 have fit:t'.fits ϵ6=true:=Τ6 (n:=ò) (by rw[hsz',hlen]) hT (by rw[AS,XQ]) (by rw[h2];show ϵ7);unfold relayAll;rw[hr];ext Þ;rw[yz,fit];rfl
def add_int ú{xs:Ky}GC ĸ8 Θ6 û9(S:f_ ĥ ð Ô7 led) (hn:ò<70)
  (h:∀ h' xs' r,Ζ3->f_ Ñv->(n∈ s_/\xs'=xs\/n∉ s_/\Ys (xs++[ÁV]))->ùu):
  Ä í (ϫ0 a Ûy (OP n)) ï:=by
 have S0:=S;let#[#[es,ep,t,ho,he,T,hled,hpl,hfew],hnd]:=S;ext ÉH
 have hm7:ĂL:=ëo
 have fit:Ϥ0:=Τ6 ăX (ϵ7);have hel:=zbV VF he;unfold ϫ0 ĉb;exact OR (AC (ziT M0 fit ?_));ext Þ;have bs:byScan Ûy es=true:=by
  have h1:Í (Ŏ<scanBound)=true:=DO (by unfold scanBound;lia);have h2:es.all (·.2.scannable)=true:=by
   rw[Array.all_eq_true_iff_forall_mem];intro e hm;show (hel e (by exists hm)).2
  unfold byScan;rw[h1,h2];rfl
 rw[Ç bs];exact He;unfold setAddByScan;exact AC (K4 (AC (wpAny_setScan_of (k:=n) (Ϸ1) M0 fit hel ?_)));have hfind:(èA).isSome=true↔n∈ s_:=by
  rw[he,List.findIdx?_isSome,TW];ext Ő
  .rintro⟨e,hm,q⟩;ext ćn;show sM #[x,hx,(Ŀ7.mp q).symm]
  .intro hm;ext ćn;show#[_,sM #[x,hx,rfl],Ϸ1]
 cases hc:èA with
 | some j=>
  ext Þ;have hm:=hfind.mp (by rw[hc];rfl);exact Ic;ext Þ;show AT (h üi S0 ĂF)
 | none=>
  ext Þ;have hm:n∉ s_:=λ q=>by have:=hfind.mpr q;rw[hc] at this;ext Bu
  let#[j,fs,F]:=zbd T (by rw[AS];show ϵ7) (OP n);let#[p1,p2,p3]:=T.put F;ext îe
  ext õg
  ext öw
  ext èb;let xs1:=Ub++ÁV::UN
  have Qn:ÁS (xs++[ÁV]):=by
   have e:ϵ8=xs:=zgS p xs;have:ÁS (ÁV::(ϵ8)):=ĂG;ext Uw;show æo
  ext îd
  have hes1:(Ū6).toList=UE ω3:=by
   rw[ÏG,he];ext ϝ1
  have hsz1:Ϲ3=ò+1:=íJ
  have T1:Tab t1 (UE KJ):=by
   have:UE (KJ)=(Θ KJ).take p++OP n::(Θ KJ).drop p:=by ext ϝ1
   ext Hz;show p3
  have fit1:t1.fits Ϲ3=true:=Τ6 (n:=ò+1) hsz1 T1 (by rw[AS,hl1]) (by rw[hmt];lia);have hlay:layNew t es (OP n) Ûy=(Ū6,t1,Á,Á):=by
   unfold layNew;rw[fs];ext Þ;rw[hT];ext Þ;unfold SetTable.orStandIn;rw[fit1];rfl
  have hsl:Ϲ3<=â:=by
   rw[hsz1];ext Lm
  have hnd1:ĉd:=by
   ext ât
  have ho1:=Y0 (es':=Ū6) (t':=t1) ho;have sb:=ĕ5 ð a (cg (Ū6) t1);have hfill:Ôe:=by
   have l:=T1.len;rw[AS,hl1] at l;unfold Ϟ0;rw[T1.gq,l];simp
  rw[hlay];ext Þ;exact AC (m:=ÁU) A2;rw[hpt];ext WN;exact AC (m:=dH) A2;ext WN;exact AC (Éw);by_cases hf:ÑM=true
  .ext új;have Ja:ś*3<=ÁT:=by
    have:=hf;ext ω1
   let#[M',g1,g2,g3]:=ļ9 ò ś ι1 hfew Ja hn;let#[es2,t2,xs2,r1,r2,r3,r4,r5,r6,r7,r8]:=Ã7 VF (t:=t1) hes1 g1 (b_:=grown Ϲ3) (by rw[hsz1];show g2) ĄF;rw[r1];ext Þ;exact AC (m:=ÁU) (AT (AC (ÿO ho1 Ψ (by rw[r8];show hsl))));exact Ic;ext Þ;exact AT (h _ xs2 true (sb.trans (ĕ5 _ a _)) #[#[es2,ep+1+1,t2,Y0 ho1,r2,r4,by rw[r6];show hlt,by rw[r7];show hpt,by rw[r3.length_eq,hl1,r5];show g3],(r3.map _).nodup_iff.mpr hnd1] (Æ #[hm,r3.trans Qn]))
  .ext ćK
   ext ðC;have Ja:ÁT<ś*3:=by
    have:=hf';ext ω1
   exact Ic;ext Þ;show AT (h _ xs1 true sb #[#[_,ep+1,t1,ho1,hes1,T1,hlt,hpt,úN],hnd1] ĂH)
end
def Nums (its:zAV) Χ:Prop:=∀ Ü v,IX->∃ n t,v=Â n t/\ns[i]?=↑n
section
variable {ώ}{Wb}{ô1}
def zaa Θ6{Sa:Addr}{wr:Ξ}(hSw:Sa∉wr) (hN:Nums ς0):Kd ĥ A û4 ς0 Sa wr (λ h xs=>f_ ĥ h Sa xs led) (Y_) where
 nd:=λ S=>S.nd
 keep:=λ k _ S=>let #[#[es,ep,t,ho,r],nd]:=S;#[#[es,ep,t,k À hSw ho,r],nd]
 Xf:=λ _ T=>T
 add:=λ{s xs i v Q E} _ S hl hv hQ=>by
  let#[m,t,rfl,hr]:=hN i v hv;unfold setAdd;exact OR (AC ((V3).pyHash (A:=A) (k:=m) (Ϸ1) ?_));show add_int (s:={ s with toks:=Cg }) (A:=A) S hl λ h' xs' rr sb S' hx=>hQ h' _ xs' rr m t öe
def ö9 Ĝ ú(ho:IZ=↑ WI):f_ ĥ h a [] Ht:=
 #[#[į,0,_,ho,rfl,äq,rfl,rfl,ød],ä]
def zcE ó1 Ī G_ (hl:ϝ8 l its) (hT:Nums ς0) ßE
  (h:∀ ϟ7 xs,f_ ĎV->Up û4 ς0 Tg xs->Æd):
  Éh:=
 Ĥ1 hh (È hl) hn (zaa ∅ hT) (λ h e=>ö9 e) (ϩ2) h
end
end ST
namespace L4
open Ë Ô
def zcj ώ O4 ô1(hI:VO) þg:
  Core ßw (λ out=>∃ ns',EZ Vz ns'/\ns'.Perm ns/\ĂM) s:=by
 obtain⟨v1,v2,rest,rfl⟩:∃ v1 v2 rest,vs=YA:=by
  match vs,h2 with
  | YA,_=>show#[v1,v2,rest,rfl]
 unfold Core;rw[keyKind_ints hI];exact AT ÕA;exact EQ (wpS_sortRuns (a₀:=ÒL) (st:=ØT oneType' ((YA).toArray.zip (YA).toArray) į 7 none)
   (Q:=λ _ st'=>(Ow st').Perm (ÒL)/\ÁF st'=none/\SortedTo (Ow st') (ÒL).size)
   hI.intKeys #[ÿt,rfl,rfl,rfl] (by rw[Ôi];simp) (by rw[Ôi];show h64) λ st' a1 a2 a3=>#[a1,a2,a3]) ?_ ØJ
 rintro⟨⟨⟩,st'⟩ s' ⟨rfl,hp,hf,hs⟩;show#[rfl,hf,sorted_out hI hp hs,by rw[hp.size_eq,Ôi]]
end L4
namespace L5
open Ë å L2 L3
open Ô hiding St
structure Bq â6:Prop where
 set:mg "set"=none
 zip:mg "zip"=none
 enumerate:mg "enumerate"=none
section
variable {Ì}{Ý}{a b c e:Expr}{ta tb tc:zr}{Ē}{fa fb fc:zEO}
def iy (f g:wx) (ta tb tc:zr):zr:=fun L S Q=>ta L S λ x S1=>tb Ĺ λ y S2=>f x y S2 λ z S3=>match z with
 | CK=>if C1 then tc L S3 λ w S4=>g y w S4 Q else Q Oz S3
 | _=>ê
def iy.mo {f g:wx}Ïj Ī1 (hc:y7 tc):y7 ϡ9:=fun L S Q Q' hq h=>
 ha ó (λ x S1 h=>hb ς (λ y S2 h=>hf ÄV (λ z S3 h=>by
  cases z <;> first
   | show pJ (hc L S3 À λ w S4 h=>hg y w S4 À hq h) Ρ6 h
   | show h) h) h) h
def ģ7 {f g:wx}ÄC(hr:vb K f r) (hr':vb K g r') Ïj Ī1 (hc:y7 tc) Υ æ Ud(h:zU K ϡ9 ź):Ī7 r r' ĀF (zU K tc) ź:=by
 ext ìb;exact hr v w ļ7 S2 _ Ðe p2 (hf ÄV (λ d S3 z v3 H3 q3 e3 p3=>?_) h2);cases d with
 | bl k=>
  exact#[k,q3,pJ Sv Sv z]
  .exact Ģ hc (Ş5 Α6) p3 z λ w4 S4 v4 H4 h4 q4 e4 p4=>?_;show hr' w v4 y w4 H4 S4 Q (DX (e3.trans e4) y q2) q4 p4 (hg y w4 S4 À (λ d S' z=>z.ext üx) h4)
  .show z _ H3 rfl Α6 p3
 | _=>show B7
@[simp] def gu (f g:Ŝ) (fa fb fc:zEO):zEO:=fun Y=>ſ5 λ x=>jZ λ y=>(QL).bind λ b=>match b with
 | CK=>if C1 then üy λ z=>g y z else ↑ Oz
 | _=>none
def õ1 {f g:Ŝ}{F G:wx}(hf:xo zk f F) (hg:xo zk g G) GY (hc:yO fc tc):wW (gu f g ß1 fc) (iy F G Ġ tc):=λ S Z L Y y Q hE e hq=>by
 let#[x1,e1,e]:=ŗ;let#[x2,e2,e]:=ŗ;let#[b,e3,e]:=ŗ;exact ha Ţ x1 uk ÿP;exact hb FG x2 qJ Ϝ0;exact hf S2 Z x1 x2 b d1 d2 _ Mi (Wh) r2 e3 λ c S3 s3 r3=>?_;ext Ĥ
 .have:=r3.1;ext Η;ext Ĥ
  .rename_i hk;let#[x4,e4,e5]:=ŗ;ext Þ;rw[Jt];exact hc S3 Z L Y x4 _ (uR V4) e4 λ d4 S4 s4 r4=>?_;show hg S4 Z x2 x4 y d2 d4 Q (uR (lg s4)).zd (ÃI r2 (ÕL)) r4 e5 λ c' S5 s5 r5=>hq c' S5 ((lg s4).trans s5) (MJ (lg s4) r5)
  .rename_i hk;ext Þ;rw[Yi];cases e;show hq _ S3 V4 ÕY
 .cases e
def ē4 Ϭ0{f g:wx}χ4 æy Š (hc:PD rm)
  χ6:PD ύ8 ϡ9:=
 #[iy.mo YD,Œ (Û8 ĀQ) λ _ _ _ h=>ģ7 hr hr' YD h]
def Î4 Ϭ0{f g:wx}χ4 æy Š (hc:PD rm)
  χ6:zG ύ8 (nD ϡ9):=by
 exact#[nD.mo (iy.mo YD),PQ (Õ7 ĀQ) ąj];ext ÈR;exact ģ7 hr hr' YD #[L,S,r1,r2,iy.mo YD ïv];cases d with
 | bl k=>simp![zA] at a;show ûb
 | _=>show B7
end
end L5
namespace L2
open Ë å Ô
section
variable {Ì}
def ö1:yM X (GJ .Is) (λ x y H Q=>èn):=by
 ext éY;show is_bool Ti
def Â8:yM X (GJ .IsNot) (λ x y H Q=>èK):=by
 ext éY;show isnot_bool Ti
end
end L2
namespace L5
open Ë å L2 L3
open Ô hiding St
section
variable {Ì}{Ý}{a b c e o i v:Expr}{Ń}{ta tb td ty tv:zr}{ÔT}
def lM:wx:=λ x y S Q=>match x,y with
 | Ą,Ð3=>Q (Yy) S
 | AA,Î es=>∃ ns ms:é,ds=rg J9/\es=ms.map J9/\Q (ϡ0) S
 | _,_=>ê
def oE:Ŝ
 | Ą,Ð3=>↑(Yy)
 | ő,UZ=>äX
 | _,_=>none
def dF qB:ąI:=rfl
def ĸ1 ÂC:oE Ad (UZ)=äX:=rfl
def lM.mo:v9 lM:=λ x y S Q Q' hq h=>by
 unfold lM at h ⊢;ext č
 .show Å5
 .let#[ns,ms,h1,h2,h3]:=h;show#[ns,ms,h1,h2,Μ0]
 .show ë
def lM.fits:vb K lM (λ x y H Q=>ûq\/Ŭ7 qZ):=λ x y d e H S Q h1 h2 h3 h=>by
 unfold lM at h;ext č
 .show ïL
 .let#[ns,ms,rfl,rfl,h]:=h;ext îC;rw[g2.ints] at g1;rw[g4.ints] at g3;show Æ #[a,b,ns,ms,rfl,rfl,g1,g3,VB]
 .show ë
def ō2:xo zk oE lM:=λ S Z x y z d e Q hz hx hy ef hq=>by
 cases x with
 | int i=>
  cases y with
  | int j=>
   cases ef;ext Wk;show HF
  | _=>show Hx
 | tup ts=>
  cases y with
  | tup us=>
   let#[ns,e1,e2]:=ϟ ef;let#[ms,e3,rfl]:=Na;cases aF e1;cases aF e3;ext ço;show#[ns,ms,jN.mp h2,jN.mp h4,HF]
  | _=>show Hx
 | _=>show Hx
def Î7 ý ν:yM Úd (λ x y H Q=>ûq\/Ŭ7 X.K qu):=Á9.or (Æ9 (by have:=XN;lia))
def Ë4 ý ν Š:PD X ÿQ (x9 lM Ġ):=dk ôW
def Ë9 ý ν Š:zG X ÿQ (nD (x9 lM Ġ)):=jV ôW
def nQ DC:wx:=λ x y S Q=>match x,y with
 | .bl c,yU=>Q íK S
 | x,.zB=>Q (.bl (cond neg (!dX x) (dX x))) S
 | _,_=>ê
def Ź3 DC:Ŝ
 | .bl c,yU=>↑ íK
 | x,.zB=>↑(.bl (cond neg (! Þb) (Þb)))
 | _,_=>none
def nQ.mo PU:v9 (nQ neg):=λ x y S Q Q' hq h=>by
 unfold nQ at h ⊢;ext č
 .show Å5
 .show Å5
 .show ë
def nQ.fits:vb K (nQ Á) (λ x y H Q=>(èn)\/(îj)):=λ x y d e H S Q h1 h2 h3 h=>by
 unfold nQ at h;ext č
 .show ïQ
 ext øY
 .show ë
def nQ.zbr:vb K (nQ true) (λ x y H Q=>(èK)\/(íA)):=λ x y d e H S Q h1 h2 h3 h=>by
 unfold nQ at h;ext č
 .show ïQ
 ext øY
 .show ë
def zan è Ï9{x:T}û(hx:Vw S Z x d):dX d=Þb:=by
 cases x with
 | zB=>cases hx.zB;rfl
 | bl _=>cases hx.bl;rfl
 | int _=>cases hx.int;rfl
 | str _=>cases θ4;rfl
 | tup _=>let#[ds,rfl,_]:=hx.tup;rfl
 | lst _=>obtain⟨ds,rfl | ⟨a,rfl,h1⟩,h2⟩:=hx.lst <;> rfl
 | zE _ _=>let#[a,m,#[rfl,_],h1]:=hx.zE;rfl
 | err _ _ _=>let#[x,rfl,_]:=hx.err;rfl
def ó3 PU:xo zk (Ź3 neg) (nQ neg):=λ S Z x y z d e Q hz hx hy ef hq=>by
 unfold Ź3 at ef;split at ef
 .cases ef;cases hx.bl;cases hy.bl;show HF
 .cases ef;cases hy.zB;have key:Q (.bl (cond neg (!dX d) (dX d))) S:=by
   rw[zan hx];show HF
  unfold nQ;cases d <;> show key
 .cases ef
def Ā1 Š:zG X (Gh a [.Is] DM) (nD (x9 (nQ Á) Ġ)):=jV (ö1.or É7) nQ.fits nQ.mo ZX
def ú5 Š:zG X (Gh a [.IsNot] DM) (nD (x9 (nQ true) Ġ)):=jV (Â8.or ę2) nQ.zbr nQ.mo ZX
def ę4 (td ty tv:zr):yK:=λ E L S=>tv L S λ v S1=>td Ĺ λ x S2=>ty L S2 λ y S3=>∃ p ds k j,B1/\Xz/\S3 p=↑ Dc/\pH t4 k=↑j/\E.nx L (ups S3 p (Å (ds.set j v)))
theorem zu.set æ û AW(h:Cy):∀ ñ Ę ğ5,GW->zu Ò (ds.set j d) (xs.set j x)
 | [],xs,j,r=>by simp![zu] at r;subst r;show ä
 | c::ds,xs,0,r=>by
  let#[y,ys,rfl,_,r2]:=r;show ã h r2
 | c::ds,xs,j+1,r=>by
  let#[y,ys,rfl,r1,r2]:=r;show ã r1 (zu.set h j r2)
def Þ5 Êh (hv:PD X v tv) (hs:ċW [Ao] v U_=su) (hw:ċX [Ao] v Ù=NQ)
  (h1:(Ex [Ao] Ù).map ũ=[Ġ1 (Ao) Ù])
  (ha:∀ v,Ġ1 (Ao) Ù v=(do
   let ov <- E6 [v] (tN)
   let iv <- òU
   jg pos'
   êD
   òV)):zw X ÿz (ę4 Ħ7 tv):=by
 exact#[λ E E' L S hE z=>hv.mo ó (λ w S1 z=>CT ς (λ x S2 z=>Ð1 L Xs (λ y S3 #[p,ds,k,j,a,b,c,d,h]=>#[p,ds,k,j,a,b,c,d,ÝE]) z) z) z,GK (ì5 hv.pe (Ē6 ßx set_list ha) hs hw h1) Hc];ext áN;let#[p,ds,k,j,rfl,rfl,c1,c2,h]:=h3;subst q2 q3;let#[xs,g1,g2]:=p3 À c1;have e4:Ext H3 (upd H3 p (Å (xs.set j w1))):=Å g1 _;exact#[p,xs,k,j,rfl,rfl,g1,by rw[<- yZ];show c2,?_];show h äK (p3.ups e4 #[_,yy,FO e4 _ (zu.set óe j g2)])
theorem ù1 þ ă ß Ŀ{f:ö->Int->M4}{o:α}(e:(match ĸ,y with
 | Cw,Di=>f ts k
 | _,_=>none)=↑o):∃ ts k,Pz/\Xz/\f ts k=↑o:=by
 cases h1:ĸ with
 | none=>ext Ám
 | some v=>
  rw[h1] at e;cases v with
  | none=>show ť
  | some v=>
   cases v with
   | im t=>show ť
   | own c=>
    cases c with
    | lst ts=>
     cases y with
     | int k=>show#[ts,k,rfl,rfl,e]
     | _=>show ť
    | _=>show ť
@[simp] def ar ą (f v:zEO):Sm:=fun Y=>Ùj λ z=>Ř λ y=>match Y[n]?,y with
 | Cw,Di=>(pH ē k).map λ j=>éG
 | _,_=>none
def Æ2 ę ą {f v:zEO}Β4 (hv:wO v tv):zQ R (ar n f v) (ę4 (yL n) ty tv):=λ S0 Z0 S Z L Y o E F e P=>by
 ext íl;let#[ts,k,h,rfl,e4]:=ù1 e3
 .let#[j,hj,rfl]:=sj e4;ext êW;let#[p,ob,h1,h2,h3,h4]:=F1.er.ow n _ h;cases ob with
  | lst ds=>
   change yL n Ĺ _;ext æf;have h5:zo (yj S2 Z) DP:=Ź Λ3 ts h3;show#[p,ds,k,j,rfl,rfl,s2 Ik,by rw[h5.len];show hj,P _ Z L (Ăz (us:=ąJ) (es:=Å (ds.set j dz)) n h h1 (h5.Ń6 j ĈT))]
  | _=>show u_
def ø5 Ý2 uO ϥ3 (r:RelV DJ u) ϙ (hd:QS):ąK:=ùy
def ĕ8 ā GC uO ϥ3 (r:RelV BG u) ϙ (hd:QS):ąL:=ùy
end
end L5
namespace ZP
open Ë Ô
def ñ3 ÿ3:ń:=cond k "tuple_iterator" "list_iterator"
def SI Ľ ÿ3 (it l:Addr) Ü:Prop:=∃ o,Ō it=↑o/\GZ=Ûz/\Pg=rP [Ii,Â i 0].toArray
def SQ Ľ ÿ3 xm (xs:zAV):Prop:=match k with
 | true=>êf
 | Á=>ëv
def SI.on BB ÎC ă(x:SI h ÂU) (f:∀ o,Ō it=↑o->ι it=↑o):SI h' ÂU:=
 let #[o,ho,r]:=x;Îg
def SQ.on BB ű5(x:ϰ1) (f:∀ o,Ō l=↑o->ι l=↑o):SQ h' ς1:=by
 cases k with
 | true=>let#[o,ho,r]:=Øi;show Îg
 | Á=>let#[o,ho,r]:=Øk;show Îg
def SQ.lt Ĝ ű5(x:ϰ1):l<Ĩ:=by
 cases k with
 | true=>let#[o,ho,_]:=Øi;show VM
 | Á=>let#[o,ho,_]:=Øk;show VM
theorem SQ.cls Ĝ ű5(x:ϰ1):∃ o,Ō l=↑o/\GZ=ðV:=by
 cases k with
 | true=>let#[o,ho,c,_]:=Øi;show čc
 | Á=>let#[o,ho,c,_]:=Øk;show čc
section
variable {ώ}
def made ű5 Ī(hl:Ϣ0)
  (hQ:Q Fs { s with heap:=Ŧ { cls:=Ûz,data:=ïR } }):Ä í (Th ū) ï:=by
 cases k with
 | true=>show ÍB hl hQ
 | Á=>show ϛ9 hl hQ
def zb1 ßO ă jc{x:Ø}Ī éc (hx:ll)
  (hQ:∀ h',h'.IsTupleIter it l Ζ->ìr):Ϙ0:=by
 ext âB;have pU:=P6 (C7 λ y=>y.setIfInBounds 1 (Ck (AF+1))) e1 (ϕ0 (PX e3 _));exact AC (Tl e1 e3 ∅ (AT #[x,rfl,AT (hQ _ #[_,pU,(ÿR ..).trans e2,?_] (ĕ5 ..))]));rw[PX e3];simp[Ck]
def zbS ßO ă jc Ī G_ éc Ąt:Ϙ0:=by
 ext âB;exact AC (K4 (AC (Tl e1 e3 ο8)));exact AC (m:=newExc (Êo) []) ?_;ext ćm;exact AC (P4 (ár) ÒK);simp![raiseNew];ext íx;show AC (AT (ÕX (hE À ëu Ϟ4)))
def draw ÎC ă jc{x:Ø}Ī ôX (hx:ll)
  (hQ:∀ h',SI h' k it l Ζ->ìr):Ϙ0:=by
 cases k with
 | true=>show zb1 Áf hQ
 | Á=>show wpAny_nextOf_list_item Áf hQ
def Ź4 ÎC ă jc Ī G_ ôX Ąt:Ϙ0:=by
 cases k with
 | true=>show zbS hh Áf hE
 | Á=>show wpAny_nextOf_list_end hh Áf hE
structure Ws úA:Prop where
 nd:[z,TI,TO,i1,i2].Nodup
 f1:l1∉ FN
 f2:l2∉ FN
structure At Ľ NJ úA (f0:Ø) ą:Prop where
 z:Yp h Ś9 f0
 ti:Cc h ăY
 to:∃ a b,Cc h TO Ñ
 s1:SI h k1 i1 l1 n
 s2:SI h k2 i2 l2 n
def At.keep BB ÈI{f0:Ø}ď(S:At h Ψ8 f0 n) (f:∀ b∈ FN,ÜT):At h' Ψ8 f0 n:=
 #[f z ∅ _ S.z,f TI ∅ _ S.ti,let #[a,b,e]:=S.to;#[a,b,f TO ∅ _ e],S.s1.on (f i1 ∅),S.s2.on (f i2 ∅)]
def item ÈI ď ßF{x y:Ø}Ő6 ãf (hx:xs[n]?=↑x) (hy:ys[n]?=↑y)
  (hQ:∀ h',At h' Ψ8 (Ck Õ) BW->Cc h' Õ x y->ÇT->Q ↑ Fs { s with heap:=h' }):
  ûr:=by
 ext ĀR;ext àN;ext àc;replace to3:Cc g3 TO x b:=to3;ext áq;exact AC (AC (ϧ4 (AC (m:=WY (à i2)) (draw âh λ g4 s24 e4=>Ic))));have to4:Cc g4 TO x b:=Η1 À n9 to3;exact AC (oR to4 rfl (AC (ùz to4 λ g5 to5 e5=>AC (wpAny_letGo R5))));replace to5:Cc g5 TO x y:=to5;exact AC (oR to5 rfl (AC (ĈC ?_)));have sz:Al=Õ:=by rw[e5.1,e4.1,e3.1,e2.1,e1.1]
 have hz5:Yp g5 Uo:=MV À n2 (Η1 çP);have up5:∀ c o,c∉ FN->ÔW->ĉj:=λ c o hc q=>by
  ext ÉU;show MV À Þc (Η1 æz)
 have ti5:Cc g5 ăY:=MV À Ų1 (Η1 À n7 (up À (Ł n1) n6 Ų1 hti));have s15:SI g5 k1 i1 l1 BW:=s12.on λ o q=>MV À (Ł n8) (Η1 À n10 (Td À (Ł n8) q));have s25:SI g5 k2 i2 l2 BW:=s24.on λ o q=>MV À (Ł n9) q;have lz:z<Al:=IO hz5;exact AC (m:=Builtin.SmallTypes.ownedTupleHandOut xq (à Al)) ?_;have hz6:Yp (æG) Uo:=Gc _ hz5;exact AC (zj7 hz6 ∅ λ g7 hz7 e7=>?_);replace hz7:Yp g7 Ś9 (Ck Al):=hz7;exact zj7 hz7 ∅ λ g8 hz8 e8=>?_;replace hz8:Yp g8 Ś9 (Ck Al):=hz8;have up8:∀ c o,c≠z->(æG).get? c=↑o->ċn:=λ c o c1 q=>e8.extBut À c1 (e7.extBut À c1 q);have T8:Cc g8 Al x y:=up8 À (On lz) (Eu);have up9:∀ c o,c≠z->ĉj->ċn:=λ c o c1 q=>up8 c o c1 (ŗ0);rw[sz] at hz8 T8;exact AT #[à Al,rfl,Ic];change Q ↑(à Al) _;rw[sz];exact hQ g8 #[hz8,up9 À (Ł n1) ti5,#[x,y,up9 À (Ł n2) to5],s15.on λ o q=>up9 _ o (Ł n3) q,s25.on λ o q=>up9 _ o (Ł n4) q] T8 λ c o hc q=>up9 c o (λ e=>hc (V2)) (up5 c o hc q)
def stop ÈI ď ßF Ő6 G_ ãf (hend:xs[n]?=none\/ys[n]?=none)
  (hQ:∀ h',ÇT->ôo):
  ûr:=by
 ext ĀR;have fin:∀ ÄF FV,ÇT->òh->
   Ä í (do if <- Ϸ2 Ϡ (Êo) then NQ else throw Ϡ) Q E { s with heap:=h' }:=λ h' e k1 k2=>by
  let#[o,ho,hc]:=k2;show AC (ϟ3 åT (AT (hQ _ k1)))
 ext àN;cases hx:xs[n]? with
 | none=>
  exact AC (AC (ϧ4 (AC (m:=WY (à i1)) (Ź4 hh âT λ g2 ex e2 he=>?_))));have hz2:Yp g2 Uo:=e2 À n3 hz1;let#[oe,q1,q2]:=he;have ne:ex≠z:=λ q=>by subst q;rw[hz2] at q1;cases q1;simp at q2
  exact zj7 hz2 ∅ λ g3 _ e3=>fin g3 ĀS #[oe,Td À ne q1,q2];ext ÉU;show Td À Ú0 (e2 À hc.2.2.2.1 (Wa À Ú0 q))
 | some x=>
  have hy:ys[n]?=none:=hend.resolve_left (by rw[hx];simp);ext àc;ext áq;exact AC (AC (ϧ4 (AC (m:=WY (à i2)) (Ź4 hh âh λ g4 ex e4 he=>?_))));have hz4:Yp g4 Uo:=e4 çP;let#[oe,q1,q2]:=he;have ne:ex≠z:=λ q=>by subst q;rw[hz4] at q1;cases q1;simp at q2
  exact zj7 hz4 ∅ λ g5 _ e5=>fin g5 ĀS #[oe,MV À ne q1,q2];ext ÉU;show MV À Ú0 (e4 æz)
end
abbrev Ż0 ÿ3 xm:Obj:={ cls:=Ûz,data:=ïR }
abbrev d_ NJ Ľ Β5:Heap:=(fz Ž7).push (Ż0 k2 l2)
abbrev ū0 NJ Ľ Β5:Heap:=(d_ Β6).push { cls:=Æ7,data:=ň [à Ĩ,à (fz Ž7).objs.size].toArray }
abbrev ś6 NJ Ľ Β5:Heap:=(ū0 Β6).push { cls:=Æ7,data:=ň [Ć,Ć].toArray }
abbrev Š4 NJ Ľ Β5:Heap:=(ś6 Β6).push { cls:=Þd,data:=rP [Ć,KC,KC,à (d_ Β6).objs.size,à (ū0 Β6).objs.size].toArray }
def Ĝ1 NJ Β5 (xs ys:zAV):Kb (Builtin.«zip.__new__» #[[Þd,à l1,à l2],[]]) (λ _ R s=>ĉk/\ĉl/\
   R (.ok (Μ (à ÍH))) { s with heap:=Š4 vE }):=
 cZ λ prog w A R s h=>by
  ext QP;let#[q1,q2,h]:=h;have hsub:=sub_zip;have m1:SQ Îh k1 l1 xs:=q1;have m2:SQ (Shared.heap #[hp.push Ž7,g,d,tk,os]) k2 l2 ys:=q2.on Ùr
  ext wP;ext wP;ext t3;ext wS;ext u8;ext xL;ext sB;ext u8;ext wS;ext u8;ext xL;ext wP;ext t3;ext t3;ext t3;ext wP;ext xL;ext pI;(with_reducible apply made m1);ext wS;ext t3;ext wP;ext xL;ext pI;(with_reducible apply made m2);ext wS;ext t3;ext t3;ext wS;ext wS;ext xL;ext t3;ext t3;ext u8;ext t3;ext wP;ext o0;ext wS;ext xL;ext t3;ext t3;ext u8;ext t3;ext wP;ext o0;ext wS;ext xL;ext t3;ext t3;ext u8;ext t3;ext wP;ext o0;ext wS;ext t3;ext wS
  show sk
section
variable {ώ}
def new Ür{l1 l2:Addr}ßF Ī ëJ
  (h:∀ h' z TI TO i1 i2,(∀ b∈ FN,Õ<=b)->Ws Æj->At h' Ψ8 Ć 0->(∀ c o,ċx)->Q xq { s with heap:=h' }):
  Ä í (call (Þd) [à l1,à l2]) ï:=by
 exact callType_new F.called_zip () (F.typeCall_zip_2 À) (F.newCall_zip_2 À) (λ obj=>F.args_object_init_3 obj À) F.entry_zip_new (Ĝ1 GH l1 l2 xs ys) #[h1,h2,?_];have z1:ýs=qE:=Ss ..;have z2:þC=Õ+2:=by rw[Ss,z1]
 have z3:þG=Õ+3:=by rw[Ss,z2]
 have z4:ÍH=Õ+4:=by rw[Ss,z3]
 have p1:∀ Ľ ξ7,o.isFreed=Á->(fz o).get? Ĩ=↑o:=λ h o e=>zA9 _ e;have u:∀ Ĝ Ni uF(o':Obj),Fz->(fz o').get? b=↑o:=λ o' e=>YS;have g5:lK ÍH=↑_:=p1 Ó2;have g4:lK þG=↑_:=u _ (p1 Ó2);have g3:lK þC=↑_:=ÍI;have g2:lK ýs=↑(Ż0 k2 l2):=u _ (ÍI);have g1:lK Õ=↑ Ž7:=u _ (u _ (ÍI));have a1:=h1.lt;have a2:=h2.lt;rw[z2,z3,z4] at g5;rw[z1,z2] at g3;rw[z3] at g4;rw[z1] at g2;generalize hN:Õ=N at *;have lt:∀ Iu,m<N->∀ j:Nat,¬ m=N+j:=λ hm j=>⋯;have ne:∀ q8,vK->¬ (N+i=N+j):=λ hij e=>hij ⋯;change _/\_;rw[z4];exact#[#[_,g5,rfl],h _ (N+4) (N+2) (N+3) N (N+1) (OJ) ąM #[g5,g3,#[_,_,g4],#[_,g1,rfl,rfl],#[_,g2,rfl,rfl]] λ c o e=>u _ (u _ (u _ (u _ (u _ e))))]
 .ext Yz;have h0:N<=N:=zA4 N;ext ðw
  .show Gg N 4
  .show Gg N 2
  .show Gg N 3
  .show h0
  .show Gg N 1
 .have e0:∀ ă,i≠0->¬ (N+i=N):=ĉm;have e0':∀ ă,i≠0->¬ (N=N+i):=ĉm;simp![zfC,KK,Op,Mq,P3,ĉn,and_true,ÿS];show#[#[fY,fY,e0 (),fY],#[fY,e0 (),fY],#[e0 (),fY],e0' ()]
 .ext üD;show#[lt a1 4,lt a1 2,lt a1 3,FS a1,lt a1 1]
 .ext üD;show#[lt a2 4,lt a2 2,lt a2 3,FS a2,lt a2 1]
end
end ZP
namespace L2
open Ë å Ô ZP
section
variable {Ì}{Ĵ}
def Inv.Ű8 WG F5 ŝ4 Ú (k:∀ b o,b∉fp->cp) (hf:bB):ÇZ:=by
 have nit:∀ b u,QQ->b∉fp:=λ b u e z=>by rw[(hf b z).1] at e;cases e
 exact I.step ÊA (ch:=fp) (OJ) (λ b o _ _ hc e _=>Ùt) (λ b o _ _ hc e _=>#[Vf,Ùt]) āO
  (λ b o hc e=>#[o,Ùt]) âl
 .let#[_,q1,_,q2,q3,q4]:=Qu;show#[q2,q1,q3,q4]
 .ext ûY;show#[o,es,ep,k _ o (λ z=>(hf _ z).2.1 rfl) ho,r]
 .ext ăH
  .rw[z];show nit b u e
  .show nit c _ z
def nG Ï ô ÿ3 Ŵ HR:Prop:=match k with
 | true=>rW
 | Á=>sV
def nG.of Ú vQ ú Ę(h:nG ŏ k Ô7):∃ its:BO,A9/\SQ ð k a Ũ:=by
 cases k with
 | true=>let#[its,rv,p,_]:=Ê8 h;show#[its,rv,p]
 | Á=>let#[its,rv,p,_]:=HK h;show#[its,rv,ÜU]
def nG.inj Ú vQ ú Pa(h:nG ŏ k Ô7) (h':nG ŏ k a ys):xs=ys:=by
 cases k with
 | true=>show I.ŗ9 rX
 | Á=>show I.Ŧ9 rX
def Ė2 Ï NJ (a1 a2:Addr):It:=
 #[λ i H=>∃ xs ys x y,ÐU/\ÐV/\ll/\ÕN,
   λ i H v H'=>∃ p x y,v=Ŗ/\Gs/\H'=upd H p (b6)/\(∀ xs,ÐU->ll)/\∀ ys,ÐV->ÕN,
   λ i H=>∃ xs ys,ÐU/\ÐV/\(ò<=i\/Dg<=i)]
def ć0 Ė Ý Ń{kk} Ē Ür{z TI TO i1 i2 a1 a2:Addr}(D:Ws ĎY):
  Turn öf ĂN FN z (λ i h=>At h GH ĎY Ć i) where
 mem:=∅
 obj:=λ i h st b hb=>by
  let#[q1,q2,#[_,_,q3],#[o1,q4,_,d1],#[o2,q5,_,d2]]:=st;ext Yz;ext ðw
  .show ąN
  .show#[_,q2,ÍY]
  .show#[_,q3,ÍY]
  .show#[_,q4,ñG]
  .show#[_,q5,λ v z=>by rw[d2] at z;cases z]
 keep:=λ i h h' st k=>st.keep k
 item:=by
  ext TQ;let#[xs,ys,x,y,g1,g2,hx,hy]:=hg;ext åX;let#[u1,e1,r1]:=rv1.get hx;let#[u2,e2,r2]:=rv2.get hy;exact ZP.item D st NH (x:=u1) (y:=u2) (by exists e1) (by exists e2) λ h' S' T' up=>ϡ5;exact wpAny_letOwnedTupleGo_zip S'.z λ h2 z2 sb=>?_;have nT:Õ ∉ FN:=λ hb=>by
   let#[o,ho,_]:=(show ∃ o,ż Õ=↑o/\True from by
    let#[w1,w2,#[_,_,w3],#[o1,w4,_],#[o2,w5,_]]:=st;ext Yz;rcases hb with e | e | e | e | e <;> rw[e]
    .show#[_,w1,qI]
    .show#[_,w2,qI]
    .show#[_,w3,qI]
    .show#[_,w4,qI]
    .show#[_,w5,qI])
   show á (VM) Jn
  have nz:Õ ≠z:=λ e=>nT (V2);have fr:Θ1:=LV;have I1:Inv Č (upd H Õ (b6)) { s with heap:=çF,toks:=Ĕ }:=
   B6 (o:=b6) ϙ4 Ķ #[ëw,[u1,u2],ã r1 (ã r2 ä),KQ]
  have hf':∀ b∈ FN,upd H Õ (b6) b=none:=λ b hb=>by
   rw[zR (λ e=>nT (by rw[<- e];show hb))];show (Qu).1
  have kk:∀ b o,b∉ FN->(çF).get? b=↑o->Úw:=λ b o hb q=>by
   have hbz:b≠z:=λ e=>hb (V2);by_cases hbs:b=Õ
   .ext ćN;show OK À nz T'
   .have q':ϒ:=ðD
    show OK À hbz (up Ze q')
  have I2:=Inv.Ű8 (h':=h2) (t':=Ĕ) (fp:=FN) êS;exact#[KM,_,I2,rfl,#[_,x,y,rfl,fr,rfl,óS,λ zs hz=>by rw[hz.inj I g2];show hy],#[z2,?_,?_,?_,?_],hf']
  .ext ϊ8;show OK À (Ł nd.1.1) S'.ti
  .let#[a,b,e]:=S'.to;ext ϊ8;show#[a,b,OK À (Ł nd.1.2.1) e]
  .ext ϊ8;show S'.s1.on λ o q=>OK À (Ł nd.1.2.2.1) q
  .ext ϊ8;show S'.s2.on λ o q=>OK À (Ł nd.1.2.2.2) q
 done:=by
  ext TQ;let#[xs,ys,g1,g2,hx]:=hg;ext åX;have l1:=rv1.length;have l2:=rv2.length;exact ZP.stop ö6 D st NH ?_ λ h' up=>#[rfl,I.Ű8 (t':=Ĕ) up hf];ext ϥ6
  .show È þL
  .show Æ (by simp;show ĺ2 l2 hx)
 self:=λ _ _ _ _ _ st h=>ĂO st.z h
def zaG Ï (ta:TA):TI:=fun σ H R=>ta ç λ vs H1=>∃ a1 a2 k1 k2,vs=[à a1,à a2]/\(∃ xs,nG K H1 k1 a1 xs)/\(∃ ys,nG K H1 k2 a2 ys)/\R ĂN H1
theorem Đ3 uP þF Ń{kk} (hg:Gl X "zip") (hm:ćM) çK:
  PI ðl (zaG X.K ta):=by
 ext Wu;exact Call_ (fH EX boot_zip çh);ext ϐ9;let#[a1,a2,k1,k2,rfl,ØS,#[ys,g2],q]:=q1;cases r1 with
 | cons r rr=>
  cases rr with
  | cons r' rr=>
   cases rr;cases r;cases r';ext ĀT;let#[it2,_,q2]:=g2.of I1;exact ZP.new NH λ h' z TI TO i1 i2 nw D S up=>ĂO S.z ?_;show#[z,FN,_,_,H1,rfl,ón,ć0 D,S,éH,q]
end
end L2
namespace L5
open Ë å L2 L3
open Ô hiding St
section
variable {Ý}{wj}{p:Pos}
def Ľ0 AV:ou:=fun L S R=>t L S λ ds S1=>∃ d e xs ys,ds=[d,e]/\čd/\yG e S1=↑ys/\R #[če,λ S=>YT=↑xs/\yG e S=↑ys] S1
def aA:ÃL
 | Î _=>true
 | _=>Á
def yG.k æ è û ϋ ñ ō8 ig:∃ a xs,qe/\nG Ò (aA d) Ô7/\GW:=by
 by_cases q:∃ ts,d=ő
 .let#[ts,rfl]:=q;cases e;ext ϒ0;show#[a,xs,h1,h2,h3]
 .let#[a,xs,h1,h2,h3]:=iJ r p e λ ts z=>q #[ts,z];exact#[a,xs,h1,?_,h3];have:aA d=Á:=by cases d <;> first | rfl | show á ξ q
  ext Hz;show h2
end
section
variable {Ì}{uP}{υ}{ÔT}{Ń}{kk:Nat}
def Ď0 (hm:ćM) (ha:yC X qW tA) (hg:Gl X "zip") (hs:ÅW) (hs2:ÇI):
  yc ðl (Ľ0 tA):=by
 exact#[fun L S Q Q' hq z=>ĝ ó (λ ds S1 #[d,e,xs,ys,h1,h2,h3,h4]=>#[d,e,xs,ys,h1,h2,h3,Þe]) z,JB (Đ3 Ϻ4 hs2) Y9];ext çp;let#[d,e,xs,ys,rfl,s1,s2,h]:=h1;let#[v,u,rfl,d1,d2]:=q1.two;ext ëK;let#[a2,ws,rfl,g3,g4]:=yG.k d2 p1 s2;exact#[a1,a2,aA d,aA e,rfl,#[us,g1],#[ws,g3],h ÉR];let#[b1,us2,q1,m1,m2]:=yG.k ĊV hk.1;cases q1;let#[b2,ws2,q2,m3,m4]:=yG.k (DX x1 e d2) x2 hk.2;cases q2;have l1:=m2.length;have l2:=m4.length;exact#[λ dd hd=>?_,λ hl=>#[us2,ws2,m1,m3,?_]]
 .rw[List.getElem?_zipWith] at hd;split at hd
  .rename_i dx dy hx hy;cases hd;ext þq;let#[y,hy',ry]:=m4.get hy;exact#[#[us2,ws2,x,y,m1,m3,hx',hy'],Ôj];let#[pp,x',y',rfl,hp,rfl,f1,f2]:=q;ext ëT
   have ey:y'=y:=by have:=f2 _ m3;rw[hy'] at this;show ąO
   subst ex ey;ext íY;show#[pp,_,rfl,PM,FO Ι _ (ã rx (ã ry ä))]
  .cases hd
 .have hl':(če).length<=i:=hl;rw[List.length_zipWith] at hl';lia
@[simp] def mJ:WO
 | sF=>(oZ x).bind λ xs=>ϴ9 λ ys=>Pe ϙ8 xs ys
 | _=>none
theorem Ť5 è:∀ ĳ8 ÀM,ϓ->ØY->zo S (Pe ϙ8 ts us) (Pe ëx ds es)
 | [],us,ds,es,h,h'=>ϔ2
 | Ņ,[],ds,es,h,h'=>by simp![zo] at h';subst h';exists O2
 | Ņ,u::us,ds,es,h,h'=>by
  ext T4;let#[c',cs',rfl,h3,h4]:=h';show IQ (jO (IQ h1 (IQ h3 O2))) (Ť5 h2 h4)
def yG.sx é9 û ñ(h:Ϗ4) W_:yG ύ=↑ds:=by
 rcases ŷ3 h with rfl | rfl | ⟨p,rfl,q⟩
 .rfl
 .rfl
 .show ì0 (s À q)
def ė6 Ù0 ÀN:j8 Á (wq mJ g) (Ľ0 tA):=λ S Z L Y ts Q hE e hq=>by
 ext ϛ6;unfold mJ at e2;ext Ů
 .let#[xs,e3,e4]:=ϟ e2;let#[zs,e5,rfl]:=sj e4;ext óH;ext ćo;let#[es',g3,g4]:=h2.seq e5;show#[d,d',es,es',rfl,g1,g3,hq p_ (Ť5 g2 g4) λ S'' s=>#[yG.sx g1 s,yG.sx g3 s]]
 ext Ż
end
end L5
namespace L2
open Ë å Ô T5 cA
section
variable {Ì}
def Ņ8:CM:=λ x lo hi H Q=>∃ z,x=pF/\ĉ2/\Q Ët H
def Ñ8:i6 X Ņ8:=by
 ext Çq;ext ĊP;ext VX;exact#["str",_,F.slot_str_getitem.lookup,œ3 Ð,?_];let#[o,h1,h2,h3]:=hs;cases pl with
 | none=>
  cases pu with
  | none=>show zjA (l:=none) (u:=none) Åm
  | int j uj=>show zjA (l:=none) ĀU
 | int i ui=>
  cases pu with
  | none=>show zjA (l:=↑(i,ui)) (u:=none) Åm
  | int j uj=>show zjA (l:=↑(i,ui)) ĀU
end
end L2
namespace HT
open Ë Ô
section
variable {ώ}
def zcb éJ Ī(ht:rL ð t ε) Æh
  (hw:Čj) (h:Q Tc s):íC:=by
 have hT:=LP;let#[os,e1,e2,e3]:=id hs;have hS:ĄY:=#[os,e1,e2];unfold V_
 ext āt
 first | exact CJ | skip
 exact AC (ÿk hT () (AC (oN (name:=ðL) hT ώ0 (P5 ώ0 hT çm))));exact AC (m:=ÉW Tc) (Òc ht (AC (Tk hS ?_)));ext üb;have yes:ÅB:=by rw[hw.1,hw.2];simp
 change îZ;rw[Ç yes];exact AC (m:=Builtin.Tuple.tupleIsExact Tc) (AC (Tk hT A2));rw[SM]
 first
  | show AC (K4 ÆP)
  | show AC (K4 (AC ÚQ))
end
end HT
namespace L2
open Ë å Ô
section
variable {Ì}
def ŉ4 Ï:CM:=λ x lo hi H Q=>∃ a xs,LJ/\rW/\(Ϧ5)/\Q ĳ H
theorem ć1:i6 X (ŉ4 X.K):=by
 ext àL
 show#["tuple",_,ém,LP,HT.zcb üN #[œ,H,I,rfl,q]]
end
end L2
namespace L5
open Ë å L2 L3
open Ô hiding St
def ni þ Ò8 Im:ŵ:=ðM
section
variable {Ì}{Ý}{ė}{lo hi:yi}{ŝ}{tl th:õ zr}{pos p2:Pos}
def kW Ν7:yS->SS->(ř->ql)->Prop:=fun L S Q=>match t with
 | none=>Q none S
 | some t=>t L S λ d S1=>match d with
  | Ą=>Q ↑i S1
  | _=>ê
def ĭ2 Ν7:Prop:=∀ u,t=↑u->y7 u
def kW.mo (h:ĭ2 tl):∀ L S (Q Q':ř->ql),(LS)->kW tl å8->kW tl L S Q':=fun L S Q Q' hq z=>by
 cases tl with
 | none=>show Me
 | some t=>show h t rfl ó (λ d S1 z=>by cases d <;> first | show Me | show z) z
def Ã3 Ï Ν7:TO:=fun σ H Q=>∃ L S,G4/\Ϝ/\kW t L S λ o S1=>∀ H1,Ým->ye K H1 S1->Q o H1
structure Wg î (e:yi) Ν7:Prop where
 mo:ĭ2 t
 po:PO X e (Ã3 ä3)
def uZ:Wg X P_:=#[Lg,λ gV s σ H Q I h=>by
 let#[L,S,r1,r2,z]:=h;show ý0 Dh (z H v_)]
def uY (h:Vm):Wg X ↑e ↑te:=#[λ u q=>by cases q;show h.mo,λ gV s σ H Q I hu=>by
 exact ý1 h.pe Dh ?_;ext ĎZ;cases d with
 | int i=>simp![zA] at q1;show#[i,q1,h1 sT]
 | zB=>show qL
 | bl _=>show qL
 | str _=>show qL
 | err _ _ _=>show qL
 | tup _=>show qL
 | vw _=>show qL
 | ref _=>show qL]
def kN ø3 Im Å9 (Q:DK):Prop:=match d with
 | AA=>Q (Î ϰ2) S
 | pF=>ĉ2/\Q Ët S
 | d=>∃ ds,Ϗ4/\∀ p,BL->Q ī (ups S p (Å ϰ2))
def kN.mo û Θ2 è{Q Q':DK}(hq:LS) (h:kN d Ϟ S Q):kN d Ϟ S Q':=by
 unfold kN at h ⊢;ext č
 .show Å5
 .show Uy
 .ext ÑS;show#[ds,h1,λ p hp=>hq À (h2 ģ)]
def zu.cut æ ñ Ę(h:GW) Im:zu Ò ϰ2 (NA):=by
 have hd:∀ ñ Ę ą,GW->zu Ò (ds.drop n) (YF n):=by
  intro ds
  induction ds with
  | nil=>ext øQ
  | cons d ds ih=>
   ext ìD;cases n with
   | zero=>show ã Ŭ
   | succ n=>show ih n h2
 have ht:∀ ñ Ę ą,GW->zu Ò (ds.take n) (xs.take n):=by
  intro ds
  induction ds with
  | nil=>ext øQ
  | cons d ds ih=>
   ext ìD;cases n with
   | zero=>show ä
   | succ n=>show ã h1 (ih n h2)
 unfold ni Κ6;rw[Ýq];show ht _ (hd _ h)
def zcc Ę Θ2(h:Ϧ5):NA=xs:=by
 unfold Κ6;rw[h.1,h.2];simp
abbrev bF Ï:CM:=λ x lo hi H Q=>ŋ7 K Lp\/(Ō0 K Lp\/ŉ4 K Lp)\/Ņ8 Lp
def kN.fits û ϋ Θ2 æ è Ud(h1:Vc) (h2:Ϝ) (h:kN d Ϟ Β3):bF K v Ϟ H Q:=by
 unfold kN at h;ext č
 .ext ÇW;by_cases hw:Ϧ5
  .exact Æ (È (Æ #[a,xs,rfl,g1,hw,h ßy h2]));ext EN;exact#[a,xs,rfl,g1,?_];have:=čf;rw[zcc hw] at this;show this
  .exact Æ (È (È #[a,xs,rfl,g1,hw,λ p hp=>h À ?_ Ι (ι8 hp)]));ext EN;show#[p,_,rfl,PM,óo]
 .show Æ (Æ #[_,h1,h.1,h.2 RX h2])
 .rename_i hn _;let#[ds,e,h]:=h;let#[a,xs,rfl,g1,g2]:=ðT;show È #[a,xs,rfl,g1,λ p hp=>h p (bI hp) Ó2 Ι (h2.ups Ι #[_,yy,óo])]
def Å7 Fw (tl th:õ zr):zr:=fun L S Q=>te L S λ x S1=>kW tl Ĺ λ l S2=>kW th L S2 λ u S3=>kN x l u S3 Q
def ã5 rZ (hl:Wg X lo tl) (hh:Wg X hi th):PD X Čl čg:=by
 exact#[fun L S Q Q' hq z=>El ó (λ x S1 z=>kW.mo hl.mo ς (λ l S2 z=>kW.mo hh.mo L Xs (λ u S3 z=>kN.mo hq z) z) z) z,
  Œ (ß5 (Ñ0.or ((ă8.or ć1).or Ñ8)) sL hl.po hh.po) Ų]
 ext ŀ;exact ÐW;exact#[L,S1,DA,p1,kW.mo hl.mo ς (λ l S2 h2 H2 e2 p2=>?_) h1];exact#[L,S2,ϰ3,p2,kW.mo hh.mo L Xs (λ u S3 h3 H3 e3 p3=>?_) h2];show kN.fits (DX (Þf e3) x q1) p3 (kN.mo (λ d S' z=>z.ext Α6) h3)
@[simp] def ku:LN->Ev->õ (ř)
 | none,_=>↑none
 | some f,Y=>Ř λ x=>match x with
  | Ą=>↑↑i
  | _=>none
def Ŵ9 (f:LN) Ν7:Prop:=∀ S Z L Y y Q,GL->ku f Y=↑y->ûg->kW t å8
def ć6:Ŵ9 P_:=îQ
def Ā2 Ĉ π8:Ŵ9 ↑f ↑te:=λ S Z L Y y Q hE e hq=>by
 ext bw
 .cases e2;cases WD;show AU
 ext Ż
@[simp] def fU Im:T2
 | ő=>↑(Î ÕZ)
 | Δ=>↑(Å ÕZ)
 | pF=>if ĉ2 then ↑ Ët else none
 | _=>none
@[simp] def xK ŷ (lo hi:LN):zEO:=fun Y=>Ř λ x=>(ku lo Y).bind λ l=>(ku hi Y).bind λ u=>fU l u x
def zo.cut è ÿ ñ Ļ9 Im:zo S ÕZ ϰ2:=by
 unfold ni;rw[HI];show ÝH _ (ÝI _ h)
def Ç4 Ĉ{l u:LN}π8 (hl:Ŵ9 l tl) (hu:Ŵ9 u th):wW (xK f l u) čg:=λ S Z L Y y Q hE e hq=>by
 ext ň8;let#[l',e2,e]:=ŗ;let#[u',e3,e]:=ŗ;exact h NF;exact hl FG l' qJ λ S2 s2=>?_;exact hu S2 Z L Y u' _ (uR (Cs)) e3 ϯ5;have r3:Vw S3 Z x d:=ÃI r1 (s2.trans s3);have hz:=(uR V4).zd;unfold fU at e;ext Ĥ
 .cases e;let#[ds,rfl,h2]:=r3.tup;show hq _ S3 V4 (EV E8 (jO ĉo))
 .cases e;let#[ds,h1,h2]:=r3.seq rfl;have key:∃ ds,yG d S3=↑ds/\∀ p,S3 p=none->Q ī (ups S3 p (Å (ni ds l' u'))):=#[ds,h1,λ p hp=>hq À (lg Ι) (MJ V4 (kE hz hp ĉo))];obtain⟨_,q | ⟨a,q,_⟩,_⟩:=r3.lst
  ext Ál
  ext Ál
 .ext Ĥ
  .rename_i h0;cases e;cases r3.str;show#[h0,hq _ S3 V4 Öa]
  .cases e
 .cases e
end
end L5
namespace TM
open Ë Ô
def noFill:fillsNumberSlot (Æ7) "mul"=su:=
 PySem.fillsNumberSlot_seq (id:="tuple.__mul__") (r:=↑(ϐ "tuple.__rmul__")) òD ñv
def rep:seqRepeat? (Æ7)=pure ↑(ϐ "tuple.__mul__"):=by
 have a:=ĂP (T:="tuple") (name:="__mul__") (id:="tuple.__mul__") òD;have b:=ĂP (T:="tuple") (name:="__rmul__") (id:="tuple.__rmul__") ñv;unfold seqRepeat?;rw[a,b];rfl
def declines C8 ϕ2 ą Ŷ7:
  Kb åu (λ _ R s=>χ5/\ûs):=
 cZ λ prog w A R s h=>by
  ext Ŵ6
  wp_walk
  show sk
theorem Ŭ8 þ Ò8:∀ Aw (acc:Kj),(ĵ m xs.toArray).foldl Ëc acc=acc++(ĵ m xs).flatten.toArray
 | 0,acc=>∅
 | m+1,acc=>by
  rw[P8,Re,Ŭ8 xs m,P8,zfN,ýt];simp
def ã3 Rf ϕ2 ą Ŷ7 (h1:¬ (Í (k < -(2 ^ 63))||čh)=true) (h2:¬ (Yo||k == 1)=true) (h3:¬ (Í (k<=0)||Yo)=true)
  (h4:¬ (Gp*k>ßB/8)) (h5:¬ ðW (Gp*k)=true) (h6:(òi).size<=â):
  Kb (òj #[[Ii,Â k t],[]]) (λ _ R s=>χ5/\
   R (.ok (Μ Fs)) { s with heap:=Ŧ { cls:=Æ7,data:=ň (òi) } }):=
 cZ λ prog w A R s h=>by
  ext Ŵ6;have e0:rL Îh l ε:=#[_,hl,rfl,n,rfl]
  wp_walk
  rw[Tn];exact AC (m:=ÉW ū) (Òc e0 ?_);ext Þ;rw[É h2,É h3,É h4,É h5];show AC (m:=ό7) (P4 (AT sk) h6)
def É6 ϕ2 ą Ŷ7:
  Kb (òj #[[Ii,Â 1 t],[]]) (λ _ R s=>χ5/\R (.ok (Μ ū)) s):=
 cZ λ prog w A R s h=>by
  ext Ŵ6;have c:(Yo||JZ == 1)=true:=∅
  wp_walk
  show sk
section
variable {ώ}
def times ó1 TC Ny V1 Ī(ht:rL ð l Ũ) (hne:its≠[]) (h0:1<=k) (hz:Ü3*ō<=â)
  (one:k=1->Q ū s) (more:k≠1->Q Fs { s with heap:=Ŧ { cls:=Æ7,data:=ň Ϗ2 } }):
  ëa:=by
 have hT:=LP;ext óC;simp only at hc hd;subst hc hd;exact òk (T:="tuple") (U:="int") () hT òl noFill îD rep ôq
  (Ab âU (declines k Óh) #[ho,rfl,hT,?_])
 have hlen:0<Ü3:=ôr hne;have hem:cN=Á:=by cases its with
  | nil=>show ØX
  | cons a r=>rfl
 by_cases h1:k=1
 .subst h1;show Ab äg (É6 Óh) #[ho,one rfl]
 .have hks:ō<=â:=BY (Nat.le_mul_of_pos_left _ hlen) hz;have hl:QV:=rfl;have hk2:k<=16777216:=⋯;have hcast:((G2:Nat):Int)*k=((Ü3*ō:Nat):Int):=by
   rw[GT,Int.natCast_mul,SZ ⋯]
  have hf:(ĵ ō Ũ).foldl ς2=Ϗ2:=by rw[Ŭ8];simp
  have hfl:(ĵ ō its).flatten.length=ō*Ü3:=∅;exact Ab äg (ã3 k Óh GQ GQ GQ) #[ho,?_]
  .simp![Os,Ν,P3];show F0
  .rw[hem];exists h1
  .rw[hem];simp;lia
  .rw[hcast];lia
  .rw[hcast];intro q;unfold ðW at q;have:=HS q;lia
  .rw[hf,GT,hfl,zgQ];show hz
  .rw[hf];show more h1
end
end TM
namespace L2
open Ë å Ô
def Ř0 Ï:R2:=λ x y H Q=>∃ a k xs,LJ/\Xz/\rW/\xs≠[]/\1<=k/\ò*ō<=â/\(k=1->Q ĳ H)/\(k≠1->∀ p,Gs->Q ī (upd H p (Î Ϙ1)))
theorem Đ2 Ì:yM ϩ5 (Ř0 X.K):=by
 ext qy;let#[a,k,xs,rfl,rfl,hx,hne,h1,hz,q1,q2]:=h;ext ÎL;let#[its,r,ht,_]:=Ê8 hx;ext Nn;exact TM.times íZ (λ e=>#[œ,H,I,rfl,q1 e]) λ e=>?_;have hlen:ÇS<=â:=by
  ext óU;show hz
 show#[à _,_,B6 (t':=Ĕ) (o:=Î Ϙ1) kc #[#[hlen,Vl],_,r.rep ō,KQ],rfl,q2 e _ Ui]
end L2
namespace L5
open Ë å L2 L3
open Ô hiding St
section
variable {Ý}{wj}
def jn:wx:=λ x y S Q=>match x,y with
 | Ą,Ð3=>ζ3/\Q (Áx) S
 | AA,Di=>(ds≠[]/\1<=k/\t4*ō<=â)/\Q (Î ût) S
 | _,_=>ê
def ų6:Ŝ
 | Ą,Ð3=>îM
 | ő,Di=>if ts≠[]/\1<=k/\ē*ō<=â then ↑(Î üz) else none
 | _,_=>none
def ů4 qB:ų6 Pc=îM:=rfl
def jn.mo:v9 jn:=λ x y S Q Q' hq h=>by
 unfold jn at h ⊢;ext č
 .show Uy
 .show Uy
 .show ë
theorem zu.rep æ ñ Ę(h:GW):∀ n:Nat,zu Ò ÿT (ĵ n xs).flatten
 | 0=>ä
 | n+1=>by
  ext ÍX;show h.append (zu.rep h n)
def jn.fits:vb K jn (λ x y H Q=>âZ):=λ x y d e H S Q h1 h2 h3 h=>by
 unfold jn at h;ext č
 .show èz
 .rename_i ds k;let#[#[c1,c2,c3],h]:=h;have h1':=h1;ext ÇW;have hl:=yZ;exact Æ #[a,k,xs,rfl,h2,g1,æa,c2,by rw[<- hl];show c3,λ e=>?_,λ e p hp=>?_]
  .subst e;exact h ßy h3;have:(ĵ (1:Int).toNat ds).flatten=ds:=∅;ext Hz;show h1'
  .exact h þo;ext EN;show#[p,_,rfl,PM,õE]
 .show ë
theorem zo.rep è ÿ ñ Ļ9:∀ n:Nat,zo S (ĵ n ts).flatten ÿT
 | 0=>ä
 | n+1=>by
  ext ÍX;show h.append (zo.rep h n)
def Š1:xo zk ų6 jn:=λ S Z x y z d e Q hz hx hy ef hq=>by
 cases y with
 | int j=>
   cases x with
   | int i=>
  by_cases hc:ζ3
  .cases øf;ext Wk;show#[hc,DF]
  .show ðX
   | tup ts=>
  by_cases hc:ts≠[]/\1<=j/\ē*HN<=â
  .cases øf;ext Ąu;cases cQ;have hl:=h2.len;show#[#[êg,hc.2.1,by rw[hl];show hc.2.2],hq _ Gz (EV E8 (jO (zo.rep h2 _)))]
  .show ðX
   | _=>show Hx
 | _=>cases x <;> show Hx
end
end L5
namespace L4
open Ë Ô
section
variable {ώ}
def zcm ó1 O4{Q:Ρ7}(hl:rL ð l A0) (hz:Ãz)
  (h:Q vs { s with heap:=Èu }):Ä í (ÃU ū) ï:=by
 let#[o,ho,hc,n,hd]:=id hl;have new:či Õ=↑ UY:=Eu;have ho':či l=↑o:=Gc _ ho;unfold ÃU;exact AC (ÌH (Cv entry_proto_collect' (AC (m:=V8) (Òn (AT #[ϐ3,Cv entry_list_iadd' ?_])))));change Ä À (MK Fs ū Fs) À { s with heap:=Ŧ UY };unfold MK;exact AC (Tk (T:="tuple") #[o,ho',hc] ?_);rw[êv];exact AC (ż5 ho' hd (AC (ż5 ĀV Ψ)));rw[É ∅];exact AC (Ϧ7 ĀV rfl A2 Ù2 (by change (į++A0).size<=â+1;simp![zi2,GT,P7];lia));exact AC (m:=load Õ) (Øw (ϡ4 new _) ?_);change Ä À (pure øg) Q E _;have e:øg=vs:=∅;rw[e];show Cz
end
section
open L2 å
variable {Ì}
def Ö3 Λ O4:∀ b o,¬ ê->ϒ->(Èu).get? b=↑o:=λ b o _ q=>by
 rw[zj6 ĉ (FS ÃV)];show ŗ0
theorem zcz:wI X ϝ7 (λ xs H Q=>∃ p ys,∃ rows:Ğ,Yb/\ϐ1/\gG ŏ Ω5/\JK/\Zy (RJ) H Q):=by
 ext åb;have hl:(RJ).length<64:=üP
 have sz:∀ vs:BO,Õ<=(Èu).objs.size:=λ vs=>by rw[Heap.size_update,size_push'];show zgL _
 ext ϥ5
 .ext æK;show ť7 I (λ Q' h=>collect_list G1 ùA āD) ăZ
 .let#[its,rv,pl,hz]:=Jm;show ť7 I (λ Q' h=>zcm pl āD ùA) ăZ
end
end L4
namespace L5
open Ë å L2 L3
open Ô hiding St
section
variable {Ì}{Ý}{ė}{Ń}{υ}{NR}
def gk:wG:=λ ds S Q=>∃ d,∃ rows:Ğ,ds=[d]/\YT=↑ Κ9/\JK/\(ϙ6)/\∀ l,J8->Q ū (ups S l (Å ((aC).map mV)))
def eZ:zLO
 | [y]=>(oZ y).bind λ ts=>(mU ts).bind λ rs=>if F9<64/\ÎZ then ↑(Å ((Qe rs).map zN)) else none
 | _=>none
def Ĝ9:nq zk eZ gk:=λ S Z ys z ds Q hz hv e hq=>by
 unfold eZ at e;ext Ĥ
 .ext CL;let#[ts,e0,e]:=ŗ;let#[rs,e1,e2]:=ŗ;ext Ů
  .ext ÀY;cases ŭ6 e1;let#[es,h2,h3]:=Rt e0;cases e_.mp h3;show#[d,rs,rfl,h2,Ú0,hc.2,èm]
  ext Ż
 .cases e
def gk.mo:oS gk:=λ ds S Q Q' hq #[d,rows,h0,h1,h2,h3,h4]=>#[d,rows,h0,h1,h2,h3,ôp]
def wI.or çZ:én:=λ gV s σ H xs us Q I rv q=>
 de (λ q=>h Ϭ7 rv q) λ q=>h' Ϭ7 rv q
def gk.fits:nV K gk (λ xs H Q=>∃ p ys,∃ rows:Ğ,Yb/\ϑ7/\ÎU/\JK/\L4.Zy (RJ) H Q):=λ xs ds H S Q h0 h2 h=>by
 let#[d,rows,rfl,e,h64,hne,h]:=h;ext Hn;let#[a,ys,rfl,g1,g2]:=yG.sq Ŭ e;have hl:=yZ;rw[AS] at hl;exact#[_,ys,rows,rfl,g1,Ű3 g2 hne,h64,λ l ps hf hp hs=>?_];have heq:=L4.ī4 (rows:=rows) (by have:=hp.map ũ;rwa [Ăk (Ýz)] at this) hs;have hx:Ext H (upd H l (Å Yq)):=Λ9;exact h ćp (h2.ups hx ÐT);rw[<- heq];show FO hx _ (zu.Y2 λ q hq=>zu.Α8 g2 q (ČU hq))
def í5 (hm:ýu) È5 (hg:čj) BC:PD X (Ă ąP DY) (o7 gk tA):=
 ji (jU L4.zcz ďa pz) gk.mo gk.fits ĝ
end
end L5
namespace L2
open Ë å Ô
section
variable {Ì}
def k8 (r:Addr) (j:Int):AI:=λ h=>∃ t u v,IsRange h r 0 j 1 t u v
def zcG:wI X (ϳ1) (λ xs H Q=>∃ j,xs=Nt/\∀ r,H r=none->Q (à r) NG):=by
 ext Hh;let#[j,rfl,q]:=h;let#[u,rfl,ru]:=Ρ0;let#[t,rfl]:=ru;exact call_range_1 #[KM,_,B6 (o:=tU (k8 Õ j)) (NC) Ķ ?_,rfl,Jh];have here:k8 Õ j (Ŧ { cls:=ϳ1,data:=rP [Â 0 Ĕ,Â j t,Â 1 (Cg)].toArray }):=#[_,_,_,Ĉj];exact#[here,#[_,Eu],λ h1 h2 S k=>?_];let#[a,b,c,e]:=S;show#[a,b,c,k _ e]
theorem zcK ĺ:wI X (ſ) (λ xs H Q=>∃ r j,xs=[à r]/\H r=↑ ĉp/\0<=j/\Öb/\∀ l,ÿ1->Q ū (upd H l (Èv))):=by
 ext Hh;let#[a,j,rfl,hr,h0,h1,q]:=h;ext e9;obtain⟨⟨t,u,v,hR⟩,-,-⟩:=(show wX ÄQ a (tU (k8 a j)) from I.zt a _ hr)
 have hsz:óX 0 j 1=((HN:Nat):Int):=îh
 exact call_list_range (n:=HN) ö6 hR (small_one Ň Ib) hsz ⋯ λ h' tk acc c k e hi=>?_;exact#[KM,_,B6 (o:=Èv) k Ķ #[?_,Ùs,c,?_,ŵ6],rfl,Jh]
 .ext Ξ3;simp;show h1
 .let#[hn,hi]:=hi;exact ST.Paired.mk (by simp[hn]) λ i a b ha hb=>?_;rw[Fa] at ha;let#[k',hk,rfl]:=sj ha;let#[hk1,hk2]:=χ hk;simp at hk2;subst hk2;let#[w,hw]:=hi i b (NB);subst hw;show#[w,∅]
end
end L2
namespace L5
open Ë å L2 L3
open Ô hiding St
section
variable {Ì}{Ý}{ė}{υ}{pos p pos2 p2:Pos}
def ir:wG:=λ ds S Q=>∃ j:Int,ds=Nt/\0<=j/\Öb/\∀ l,J8->Q ū (ups S l (Å (mX 0 HN)))
def Ų8:zLO
 | Nt=>if 0<=j/\Öb then ↑(Å (MR 0 HN)) else none
 | _=>none
def Ë1:nq zk Ų8 ir:=λ S Z ys z ds Q hz hv e hq=>by
 unfold Ų8 at e;ext Ĥ
 .ext CL;ext Ĥ
  .ext ď4;cases e;cases θ6;show#[_,rfl,Ú0,hc.2,λ l hl=>hq À Md (kE hz hl (Ľ1 À))]
  .cases e
 .cases e
def ir.mo:oS ir:=λ ds S Q Q' hq #[j,h0,h1,h2,h3]=>#[j,h0,h1,h2,λ l hl=>hq À (h3 l hl)]
theorem ă6 æ ą:zu Ò (mX 0 n) (eU ÏI):=by
 unfold mX
 induction AX with
 | nil=>show ä
 | cons k l ih=>show ã (by ext EN;rw[Ϫ0]) ih
def ir.fits:nV K ir (λ xs H Q=>∃ j,xs=Nt/\∀ r,H r=none->∃ r' j',[ES r]=[à r']/\NG r'=↑(tU (k8 r' j'))/\0<=j'/\j'<=16777216/\
  ∀ l,NG l=none->Q ū (upd NG l (Å ((ċ j'.toNat).map ÏI)))):=λ xs ds H S Q h0 h2 h=>by
 let#[j,rfl,c1,c2,h]:=h;ext Hn;subst h1;exact#[j,rfl,λ r hr=>#[r,j,rfl,yy,c1,c2,λ l hl=>?_]];have x1:Ext H NG:=Mu hr _;have hlr:l≠r:=λ z=>by subst z;rw[yy] at hl;cases hl
 have hlH:ÿ1:=by rw[zR hlr] at hl;show hl
 have x2:Ext NG (upd NG l (Èv)):=Mu hl _;show h l (bI hlH) Ó2 ÍG ((ι8 hr).ups x2 #[_,yy,ă6 _])
def Ã0 (hm:Ăl) (hm2:ϝ4) Ō6 ĺ (hg:Gl X "list") (hg2:Ϫ7)
  (he2:Ql)
  (he:FI [ÈX] Ù=(Á,eval (ÈX) Ù)::Àn) ϟ8 ĊW:
  PD X (Ă ČA [ÈX] sy) (o7 ir tA):=by
 have h:=fj (p:=p) (zcK hc) óG (lZ (fj zcG hg2 hm2 Øx ċs) kG he) Ň BK;show#[o7.mo ir.mo ĝ,Œ h λ _ _ _ hu=>ŗ8 ir.mo ir.fits ĝ hu]
end
end L5
namespace ST
open Ë M3 å Ô L2
def zaw {us us':zLV}(p:us'.Perm us):∀ {ms:é},Ào->∃ ms',EZ us' ms'/\ms'.Perm ms:=by
 induction p with
 | nil=>intro ms h;show#[ms,h,Qy]
 | cons x _ ih=>
  intro ms h;cases h with
  | cons n t h=>
   let#[ms',h1,h2]:=ih h;show#[n::ms',ã n t h1,h2.cons n]
 | swap x y l=>
  intro ms h;cases h with
  | cons n t h=>
   cases h with
   | cons m u h=>show#[m::n::_,ã m u (Ýe),.swap Ð]
 | trans _ _ ih1 ih2=>
  intro ms h;ext ĊR;let#[m2,h3,h4]:=ih1 h1;show#[m2,h3,h4.trans h2]
theorem f_.at Gf Ĝ ú{xs:Ky}(S:f_ ĥ h Ô7 Ht):wU w a ËN h:=by
 let#[#[es,ep,t,ho,he,T,h1,h2,h3],_]:=S;have hm:ĂL:=ëo
 ext ÉH
 show#[es,ep,t,#[ho,Τ6 ăX (LQ.Ŗ0 h3),T.n_,h1,h2],by rw[he,Db];rfl]
theorem ľ1:∀ xs:Ky,EZ ËN (s_)
 | []=>ä
 | e::xs=>ã dA (ľ1 xs)
theorem ı7:∀ Ο ô1,ÚR->Õp
 | _,_,ä=>ä
 | _,_,Ýe=>ã Z5 (ı7 h)
section
variable {Ì}
def zcD ĺ:wI X (u5) (λ xs H Q=>∃ p,∃ ns:é,Yb/\yB ŏ p Dx/\μ0/\
  ∀ xm FC (ms:é),ÿ1->Ào->ms.Nodup->(∀ n,n∈ms↔n∈ns)->ûp):=by
 ext Hh;let#[p,ns,rfl,hq,h64,q]:=h;ext ñA;have iA:EZ ς0:=Γ2 rv;have nums:Nums Ũ ns:=λ i v hv=>by
  have hv':IX:=Úz
  have hi:i<r_:=by rw[hl];show (χ hv').1
  let#[u,e1,t,e2]:=ι7 (i:=i) (x:=GF ns[i]) (ż4);rw[hv'] at e1;cases e1;show#[ns[i],t,e2,ż4]
 have hh:ϣ9:=T6;exact zcE (A:=X.A) hh G1 nums ês;ext ëP;have hSO:=S.at;exact#[KM,_,B6 (t':=tk) (o:=tU (wU X.w Õ ËN)) kk Ķ ?_,rfl,q À (s_) Ui (ľ1 xs) S.nd λ n=>#[λ hn=>?_,λ hn=>?_]]
 .ext ôV;show æF
 .let#[e,he,rfl]:=π hn;let#[j,_,_,hj]:=Δ1;show P2 hj
 .let#[j,hj]:=List.mem_iff_getElem?.mp hn;show U.all j n (by ext ĎX;show LM this hl) hj
def zcA ĺ:wI X ϝ7 (λ xs H Q=>∃ l us,∃ ms:é,xs=[Ii]/\H l=↑ ύ7/\Ào/\ϻ4<64/\
  ∀ (p:Addr) Χ,Gs->ns.Perm ms->Öc Ϲ7->Q ī (upd H p Ýf)):=by
 ext þp;let#[l,us,ms,rfl,hl,hm,h64,q]:=h;ext æi
 have hlen:Ŏ=Æ5:=by rw[<- eu];simp
 have hml:=hm.length;have hh:ϣ9:=T6;ext æD
 let#[ms',i1,i2]:=zaw hp hm;have hcl:=hp.length_eq;have hl24:QV:=rfl;exact L4.ľ9 (N:=ϯ6) (Out:=λ out=>∃ ns',EZ Vz ns'/\ns'.Perm ms'/\ĂM) (λ Q' h=>ĭ7 (by show hh) S (by rw[hlen,hml];lia) Q' h) (by rw[hcl,hml];lia) (λ h2 s6 k=>L4.zcj i1 h2 (by rw[hcl,hml];show h64)) (λ h1=>#[ms',by simpa using i1,Qy,?_]) λ out h' tk p ho hs hp' k hat=>?_
 .have:ØC<2:=by rw[<- i1.length];show h1
  match ms',this with
  | [],_=>show ä
  | [_],_=>show zhT À
 .let#[ns,g1,g2,g3]:=ho;let#[e,he]:=hat;exact#[Ŗ,_,B6 (t':=tk) (o:=Å Dx) öT hp' ?_,rfl,q p ns (CG hp') (g2.trans i2) g3];show#[by rw[AS,g2.length_eq,i2.length_eq];lia,Vz,e,ı7 g1,Ϲ1]
end
end ST
namespace L5
open Ë å L2 L3
open Ô hiding St
def insI CA:é->é
 | []=>[n]
 | m::l=>if n<m then n::m::l else if n=m then m::l else m::Þg
def nX:é->é
 | []=>[]
 | H_=>insI n (nX ns)
theorem ţ3 {n k:Int}:∀ {l:é},k∈ Þg ↔k=n\/k∈l
 | []=>by simp[insI]
 | m::l=>by
  unfold insI;split
  .simp
  .split
   .ext G7;subst h;simp
   .rw[KK,ţ3,KK];ext Ő
    .rintro (h | h | h)
     .show Æ U4
     .show È h
     .show Æ (Æ h)
    .rintro (h | h | h)
     .show Æ U4
     .show È h
     .show Æ (Æ h)
theorem Ψ3 Ny:∀ {l:é},k∈nX l↔k∈l
 | []=>.rfl
 | n::l=>by unfold nX;rw[ţ3,Ψ3,KK]
theorem ŗ1 GC:∀ {l:é},l.Pairwise eX->(Þg).Pairwise eX
 | [],_=>zhT À
 | m::l,h=>by
  have h':=CR h;unfold insI;split
  .rename_i c;exact Τ4 #[ID,h];rcases ķ hx with e | e
   .rw[e];show c
   .show Int.lt_trans c (h'.1 x e)
  .split
   .show h
   .rename_i c1 c2;exact Τ4 #[ID,ŗ1 h'.2];rcases ţ3.mp hx with e | e
    .rw[e];lia
    .show h'.1 x e
theorem ř1:∀ l:é,(nX l).Pairwise eX
 | []=>ä
 | n::l=>ŗ1 (ř1 l)
theorem æ7 {l m:é}(h1:l.Nodup) (h2:l.Pairwise Ϲ7) (h3:m.Pairwise eX) (h:∀ k,k∈l↔k∈m):l=m:=by
 have nm:m.Nodup:=h3.imp λ h e=>⋯;exact L4.Τ0 (r:=λ a b:Int=>a<=b) (λ a b p q=>LQ.Ŋ0 p q) ((zi0 h1 nm).mpr h) h2 (h3.imp λ h=>Ż9 h)
section
variable {Ì}{Ý}{ė}{υ}{pos pos2 p p2:Pos}
def aR:wG:=λ ds S Q=>ki Dm\/∃ d,∃ ns:é,ds=[d]/\(ϧ1)/\YT=↑ ſ1/\μ0/\∀ l,J8->Q êt
def eY:zLO
 | [Δ]=>match m8 ts with
  | some ns=>if μ0 then ↑(Å (Öd ĕ)) else none
  | none=>bq [Δ]
 | [ő]=>bq [ő]
 | _=>none
def Ğ4:nq zk eY aR:=λ S Z ys z ds Q hz hv e hq=>by
 unfold eY at e;ext Ĥ
 .ext Ĥ
  .rename_i ns hns;ext Ĥ
   .ext ď4;cases e;cases aF hns;ext CL;ext ăS;cases jN.mp h3;exact Æ #[d,ns,rfl,?_,h2,hc,λ l hl=>hq À Md (kE hz hl (ϵ1))];obtain⟨_,q | ⟨a,q,_⟩,_⟩:=h1.lst <;> subst q <;> show ÝL
   .cases e
  .show íd
 .show íd
 .cases e
theorem aR.mo:oS aR:=λ ds S Q Q' hq h=>by
 rcases h with h | ⟨d,ns,h1,h2,h3,h4,h5⟩
 .show È (ki.mo Dm Q' hq h)
 .show Æ #[d,ns,h1,h2,h3,h4,λ l hl=>hq À (h5 l hl)]
def zbq Ĝ8 Ę æ è Ud û ô1(h0:zu Ò [d] xs) (h2:Ϝ) (hn:ϧ1) (e:YT=↑ ſ1) (h64:μ0) (h:∀ l,J8->o6 Ò Q êt):
  ∃ p,∃ ns':é,Yb/\yB Ò p (ns'.map GF)/\ns'.length<64/\
   ∀ xm FC (ms:é),ÿ1->Ào->ms.Nodup->(∀ n,n∈ms↔n∈ns')->
    ∃ l' us',∃ ms':é,ąH/\ìq/\EZ us' ms'/\ØC<64/\
     ∀ (p:Addr) Χ,Bx p=none->ns.Perm ms'->Öc Ϲ7->Q ī (upd Bx p Ýf):=by
 ext Hn;let#[a,ys,rfl,g1,g2]:=iJ Ŭ e hn;rw[g2.ints] at g1;exact#[a,ns,rfl,g1,h64,λ l us ms hf hi nd hmem=>#[l,us,ms,rfl,yy,hi,?_,λ p ns2 hp pm srt=>?_]]
 .have:=ST.ś5 ms ns nd λ x hx=>(hmem x).mp hx;lia
 .have x1:Ext H Bx:=Λ9;ext ëZ
  ext üH
  have x2:Ext Bx (upd Bx p (Å (ns2.map GF))):=av;have heq:ns2=nX ns:=æ7 (pm.nodup_iff.mpr nd) srt (ř1 ns) λ k=>by rw[pm.mem_iff,hmem,Ψ3]
  exact h ĀP ((ι8 hf).ups x2 ÐT);rw[<- heq];show zu.Ť7 ns2
def Ĉ7 ý ν (hm:ýu) (hm2:X.mg "set"=none) Ō6 ĺ (hg:čj) (hg2:Gl X "set")
  (he2:Ql)
  (he:FI [Éx] Ù=(Á,eval (Éx) Ù)::Àn) ϟ8 ĊW:
  PD X (Ă ąP [Éx] sy) (o7 aR tA):=by
 have h:=jU (p:=p) (wI.or (ST.zcB hc) (ST.zcA hc)) ďa (lZ (fj (wI.or (ST.zcC hc XN) (ST.zcD hc)) hg2 hm2 PyProof.Rows.boot_set ċs) kG he) Ň BK;exact#[o7.mo aR.mo ĝ,Œ h Ų];ext ŀ;exact O6 ĝ OV ÆQ;rcases h1 with h1 | ⟨d,ns,rfl,c1,c2,c3,h1⟩
 .let#[p,ys,rows,a1,a2,a3,a4,a5]:=ki.fits (w:=X.w) ĀG (ki.mo òB);show È #[p,ys,rows,a1,a2,a3,a4,λ l us ps b1 b2 b3 b4 b5=>È (a5 l us ps b1 b2 b3 b4 b5)]
 .let#[p,ns',a1,a2,a3,a4]:=zbq (w:=X.w) q1 p1 c1 c2 c3 (λ l hl=>(h1 l hl).ext e1);show Æ #[p,ns',a1,a2,a3,λ l us ms b1 b2 b3 b4=>Æ (a4 l us ms b1 b2 b3 b4)]
end
end L5
namespace L5
open Ë å L2 L3
open Ô hiding St
section
variable {Ì}{e st:Expr}
def dr:Sm:=Nc
def Zj:yK:=M9
def Ő1 ϝ:zw X st Zj:=#[Îi,λ _ _ _ _ _ _ #[_,_,_,_,h]=>ë]
def ö5 ę:zQ R dr Zj:=λ S0 Z0 S Z L Y o E F e P=>Μ7
end
end L5
namespace L5
open Ë L2 L3
def ĳ3:xo zk lI ŷ2:=ÈL
def Ő7:xo zk Τ5 Η2:=ÈL
def Ĭ1:xo zk š9 Ι8:=ÈL
end L5
namespace L5
open Ë å L2 L3
open Ô hiding St
section
variable {Ì}{ė}{ŝ}{pos p q:Pos}
def Đ0 Ĳ0 rZ qh (hg2:Gl X "str") (h1:zEE X e [Ϸ3]) (h2:zEB ä9 [Ϸ3]) (h3:zEE X (Ϸ3) []):
  PD X (Ă Ot [e,Ϸ3] sy) (cx "str" te):=ŵ9 Ϡ3 ø øh ϖ8
end
end L5
namespace L3
open Ë Ô L2
section
variable {Ì}{Ē}
def wE (E:jG) (W:Ýv) Aw:jG:={ E with nx:=ìs,ct:=ìs,bk:=E.nx }
def Zg (c:xI) (tb:yK):yK:=λ E L S=>∃ W:Ýv,(∃ m,W m L S)/\∀ m L S,W m L S->
 c L S λ b S1=>if Nj then tb (wE E W m) Ĺ else E.nx Ĺ
def Zg.mo {c:xI}Uh(hc:nU c) (hb:lS tb):lS (Zg c tb):=λ E E' L S hE #[W,w0,ws]=>
 #[W,w0,λ m L S hw=>hc ó (λ b S1 z=>pJ (λ z=>hb (wE E W m) (wE E' W m) Ĺ ðP z) (λ z=>sH À z) z) (ws m L S hw)]
def Ë3 JY xi ğ2 Uh ϒ8 ßu (hb:xA Ák):zw X úS (Zg tc tb):=by
 exact#[Zg.mo yp đ0,GK (ò5 hp hc.pt hb.ps) Hc];let#[L,S,r1,r2,W,Γ0,ws]:=hu;exact#[λ m σ' H'=>Ew/\∃ L S,Ïx/\Õy/\W m L S,#[m0,Qy,L,S,r1,r2,w0],?_];rintro m σ2 H2 ⟨x2,L2,S2,q1,q2,w2⟩;exact EE yp NH (ws m JE w2) λ k S3 H3 h3 e3 p3=>pJ Sv Sv h3
 .exact#[fun σ' H'=>Ew/\∃ L S m',m'<m/\Ïx/\Õy/\W m' L S,fun σ' H' #[a,L',S',m',b,c,d,e]=>#[m',b,a,L',S',c,d,e],L2,S3,η5 e3,p3,?_];show đ0 (wE (Ϭ5) W m) _ L2 S3 #[âD,λ _ _ q=>Oc (ϰ4) q,λ _ _ q=>ag (ϰ4) q,âD] z
 .show z σ2 H3 (η5 e3) (ϰ4) p3
end
end L3
namespace L5
open Ë Ô L2 L3
def lH ţ5 ł1 (b:Sm):Nat->Ev->OB
 | 0,_=>none
 | n+1,Y=>(c Fc).bind λ k=>if C1 then (b Fc).bind λ o=>match o with
   | .nx Y2=>lH Nv n Y2
   | .ct Y2=>lH Nv n Y2
   | .bk Y2=>↑ Ϟ9
   | R6=>↑(R6)
  else ↑ Ûq
def Ś3 ą ţ5 ł1 (b:Sm):Sm:=lH Nv n
def é7 ę qD ď xg ā9 ğ2{b:Sm}Uh Ϲ0 (hb:zQ R b tb):zQ R (Ś3 n Nv) (Zg tc tb):=λ S0 Z0 S Z L Y o E F e P=>by
 let#[SB,b1,FB,b2]:=F.rebase;ext äT;exact#[λ m L' S'=>∃ Z' Y',ąv/\lH Nv m Y'=↑o,#[n,Z,Y,FB,e],λ m L' S' Ìk=>?_];cases m with
 | zero=>cases e'
 | succ m=>
  unfold lH at e';let#[k,c1,e']:=θ8;have G:=ÝQ;exact hc Θ0 _ k _ G.er c1 ϯ5;cases k with
  | true=>
   rw[ĭ] at e' ⊢;let#[o1,g2,e']:=θ8;exact hb SB Z0 S3 Z' L' _ o1 _ (G.grow s3) g2 ?_;cases o1 with
   | nx Y2=>show æp
   | ct Y2=>show æp
   | bk Y2=>cases e';show åk
   | rt y=>cases e';show æU
  | Á=>
   rw[AK] at e' ⊢;cases e';show P S3 Z' L' ((G.grow s3).back b1 F.z0)
end L5
namespace ZP
open Ë Ô
def ä8 ÿ3 xm (xs:zAV):Kb (Builtin.«enumerate.__new__» #[[Ϥ4,Ii],[]]) (λ _ R s=>Ϣ0/\
   R (.ok (Μ (à ąQ))) { s with heap:=äY }):=
 cZ λ prog w A R s h=>by
  ext QP;let#[q,h]:=h;have hsub:=sub_enumerate;have hL:SQ Îh ς1:=q;let#[#[c,yf,dt,sl],hl,hc]:=q.cls;replace hc:c=ðV:=hc;subst hc
  wp_walk using ïS
  exact wpAny_stack_any λ st=>Ic;split
  .rename_i c _ _ _ _ _;cases (c == sU "enumerate")
   .ext Çw
    show sk
   .ext Çw
    show sk
  .ext Çw
   show sk
section
variable {ώ}
def zbR ű5 Ī(hL:Ϣ0)
  (h:∀ h',IsEnum h' uo Õ 0 Ć->SI h' k Õ l 0->(∀ b o,cp)->Q (à uo) { s with heap:=h' }):
  Ä í (call (Ϥ4) [Ii]) ï:=by
 exact callType_new F.called_enumerate () (F.typeCall_enumerate_1 _) (F.newCall_enumerate_1 _) (λ obj=>F.args_object_init_2 obj _) F.entry_enumerate_new (ä8 ς1) #[hL,?_];have hz:ąQ=qE:=Ss ..;change _/\_;rw[hz];have he:IsEnum (äY) uo Õ 0 Ć:=by
  have:=zA9 (ÏJ) (o:={ cls:=Ϥ4,data:=án }) rfl;rw[hz] at this;show this
 show#[ąR,h _ he #[_,Gc _ (Eu),rfl,rfl] λ b o x=>Gc _ (Gc _ x)]
def drs G_ ÿ3 (it l:Addr) (hne:l≠it) (xs:zAV):Draws ĥ A it [it,l] Il (λ i v=>HC=↑v) (λ i h=>SI h ÂU/\ϰ1) where
 live:=λ _ _ st=>let #[o,ho,_]:=st.1;#[o,ho]
 frame:=λ _ _ _ st hk=>#[st.1.on λ o e=>hk it YJ,st.2.on λ o e=>hk l YJ]
 item:=λ i s Q E hi st hQ=>draw st.1 st.2 (x:=Pb) (ż4) λ h' hit' hs'=>hQ _ h' Ĕ (ż4) #[hit',st.2.on λ o e=>(hs'.2 l hne).trans e] hs'
 done:=λ s Q E st hE=>Ź4 hh st.1 st.2 ∅ hE
end
end ZP
namespace L2
open Ë å Ô ZP
section
variable {Ì}{Ĵ}
def Ń4 Ï ÿ3 Ŵ:It:=
 #[λ i H=>∃ xs x,Ôk/\ll,
   λ i H v H'=>∃ p x,v=Ŗ/\Gs/\H'=upd H p (ϫ2)/\∀ xs,Ôk->ll,
   λ i H=>∃ xs,Ôk/\ò<=i]
def ą5 Ė Ý Ń{kk} Ē vQ{e it a:Addr}(hei:e≠it) (hea:e≠a) (hai:a≠it):
  Turn öf (Ń4 K k a) Vr e (λ i h=>(∃ old,IsEnum h e it i old)/\SI h k it a i) where
 mem:=∅
 obj:=λ i h st b hb=>by
  let#[#[old,q1],o1,q2,_,d1]:=st;ext Yz;rcases hb with e | e <;> subst e
  .show ąN
  .show#[_,q2,ñG]
 keep:=λ i h h' st k=>#[let #[old,q]:=st.1;#[old,k e ∅ _ q],st.2.on λ o q=>k it ∅ o q]
 item:=by
  ext TQ;let#[xs,x,g1,hx]:=hg;ext āx;let#[u1,e1,r1]:=ι7 hx;ext ćq;have hlt:i<G2:=ðu
  have D:=drs þc (A:=Ãw) ör k it a hai Ũ;exact wpAny_pyNext_enum_itemD D he #[si,q1] hlt hei (by simp[hei,hea]) λ u h' tk hP ho hs' hT hsz hk=>ϡ5;have hu:u=u1:=by simp![øb,e1] at hP;show (KB hP).symm
  subst hu;have nT:Õ ∉ Vr:=λ hb=>by
   ext Yz;let#[oi,qi,_]:=si;rcases hb with z | z
   .show á (IO he) þQ
   .show á (IO qi) þQ
  have ne:Õ ≠e:=λ z=>nT ÇG;exact wpAny_letOwnedTupleGo_enum ho λ h2 he2 sb=>?_;have fr:Θ1:=LV;have I1:Inv Č (upd H Õ (ϫ2)) { s with heap:=æq,toks:=Ĕ }:=
   B6 (o:=ϫ2) ϙ4 Ķ #[ëw,[Â i tk,u],ã #[tk,rfl] ÕJ,KQ]
  have hf':∀ b∈ Vr,upd H Õ (ϫ2) b=none:=λ b hb=>by
   rw[zR (λ z=>nT (by rw[<- z];show hb))];show (Qu).1
  have kk:∀ b o,b∉ Vr->(æq).get? b=↑o->Úw:=λ b o hb q=>by
   have hbe:IA:=ſ9;have hbi:b≠it:=ſ9;by_cases hbs:b=Õ
   .ext ćN;show OK À hbe hT
   .have q':ϒ:=ðD
    show OK À hbe (hk b o hbe hbi q')
  have I2:=Inv.Ű8 (h':=h2) (t':=tk+1) (fp:=Vr) êS;exact#[KM,_,I2,rfl,#[_,x,rfl,fr,rfl,óS],#[#[_,by exists he2],hs'.1.on λ o q=>(sb.2 it (Ł hei)).trans q],hf']
 done:=by
  ext TQ;let#[xs,g1,hx]:=hg;ext āx;have l1:=LB;ext ćq;have hT:ċ7 Ϡ "enumerate":=ąR;unfold QH;exact AC (ÒM (oN (name:=ϒ2) hT øi
   (P5 øi hT F.entry_enumerate_next ?_ (F.args_enumerate_next_1 _))))
  change Ä À (CE Ϡ 2 >>= _) Ð;exact AC (NO he rfl (x:=à it) Ψ);exact AC (Ź4 ör si q1 þL λ h' x he' hx'=>?_);let#[o,ho,hc]:=hx';exact AC (ϟ3 åT ?_);show AT #[rfl,I.Ű8 (t':=Ĕ) (fp:=Vr) (λ b o hb q=>he' b o (ſ9) q) hf]
 self:=λ _ _ _ _ _ st h=>let #[_,q]:=st.1;ÿU q h
def iEn Ï (ta:TA):TI:=fun σ H R=>ta ç λ vs H1=>∃ a k,vs=Dd/\(∃ xs,nG K H1 k Ô7)/\R (Ń4 K k a) H1
theorem Ė8 wj þF Ń{kk} (hg:ĂQ) (hm:øZ) ñr:
  PI ëL (iEn X.K ta):=by
 ext Wu;exact Call_ (fH EX boot_enumerate (ό4 Çj (by rw[hs];rfl) rfl));ext ϐ9;let#[a1,k,rfl,ØS,q]:=q1;cases r1 with
 | cons r rr=>
  cases rr;cases r;ext ĀT;have la:=q1.lt;exact ZP.zbR q1 λ h' E S up=>ÿU E ?_;have nw:∀ b∈ čk,AL<=b:=λ b hb=>by
   ext Yz;rcases hb with z | z <;> rw[z]
   .show zgL _
   .show Ÿ
  show#[_,čk,_,_,H1,rfl,ón,ą5 (Nat.succ_ne_self _) (On (zg9 la)) (FS la),#[#[_,E],S],éH,q]
end
end L2
namespace L5
open Ë å L2 L3
open Ô hiding St
def jq Đ:Az->Az
 | []=>[]
 | DQ=>Î [Di,d]::jq ŕ ds
def fR Đ:ö->ö
 | []=>[]
 | DQ=>Î [Di,d]::fR ŕ ds
theorem Ş6:∀ ĸ6 (k i:Nat),(jq k ds)[i]?=(ds[i]?).map λ d=>D.tup [Â ((k+i:Nat):Int),d]
 | [],k,i=>by simp[jq]
 | DQ,k,0=>by simp[jq]
 | DQ,k,i+1=>by
  unfold jq;rw[zhY,zhY,Ş6 ds ŕ i,þM]
theorem Ĳ9:∀ ĸ6 Đ,(jq k ds).length=t4
 | [],k=>rfl
 | DQ,k=>by unfold jq;rw[GM,Ĳ9 ds];rfl
theorem ĵ3 è:∀ ÿ ñ Đ,ϓ->zo S (fR k ts) (jq k ds)
 | [],ds,k,h=>by ext NW;show O2
 | Ņ,ds,k,h=>by
  ext T4;show IQ (jO (IQ (Ζ9) (IQ h1 O2))) (ĵ3 ŕ h2)
section
variable {Ì}{wj}{υ}{ÔT}{Ń}{kk:Nat}
def ı0 AV:ou:=fun L S R=>t L S λ ds S1=>∃ d xs,ds=[d]/\čd/\R #[jq 0 xs,λ S=>YT=↑xs] S1
def É2 (hm:øZ) (ha:yC X [a] tA) (hg:ĂQ) (hs:ÇA):
  yc ëL (ı0 tA):=by
 exact#[fun L S Q Q' hq z=>ĝ ó (λ ds S1 #[d,xs,h1,h2,h4]=>#[d,xs,h1,h2,Þe]) z,JB (Ė8 Ϻ4) Y9];ext çp;let#[d,xs,rfl,s1,h]:=h1;let#[v,rfl,d1]:=q1.one;ext ëK;exact#[a1,aA d,rfl,#[us,g1],h ÉR];let#[b1,us2,q1,m1,m2]:=yG.k ĊV hk;cases q1;have l1:=m2.length;exact#[λ dd hd=>?_,λ hl=>#[us2,m1,?_]]
 .rw[Ş6,xb] at hd;let#[dx,hx,rfl]:=sj hd;ext þq;exact#[#[us2,x,m1,hx'],Ôj];let#[pp,x',rfl,hp,rfl,f1]:=q;ext ëT
  subst ex;ext íY;show#[pp,_,rfl,PM,FO Ι _ (ã rfl (ã rx ä))]
 .have hl':(jq 0 xs).length<=i:=hl;rw[Ĳ9] at hl';show ĺ2 l1 hl'
@[simp] def ž8:WO
 | [x]=>(oZ x).map λ xs=>fR 0 xs
 | _=>none
def Ò5 Ù0 ÀN:j8 Á (wq ž8 g) (ı0 tA):=λ S Z L Y ts Q hE e hq=>by
 ext ϛ6;unfold ž8 at e2;ext Ů
 .let#[xs,e3,rfl]:=Na;ext ĊT;ext ćo;show#[d,es,rfl,g1,hq p_ (ĵ3 0 g2) λ S'' s=>yG.sx g1 s]
 ext Ż
end
end L5
namespace TM
open Ë Ô
def zb4 C8 ϕ2 ą Ŷ7:
  Kb åu (λ _ R s=>äb/\ûs):=
 cZ λ prog w A R s h=>by
  ext Ŵ6
  wp_walk
  show sk
def mulL xm (ε:zAV) ą ô4 (u:Tok) Ŷ7 (hc0:¬(! ðY x)=true) (hc1:¬ Gp*Qj>ßB/8) (hc2:¬ L_ (Gp*Qj)=true):
  Kb (Builtin.«list.__mul__» #[[Ii,Â x u],[]]) (λ _ R s=>äb/\R (.ok (Μ (đ Õ))) { s with heap:=Ŧ { cls:=ſ,data:=ň (Ùu þr (ĵ (if Yo=true then 0 else Qj) ε)) } }):=
 cZ λ prog w A R s h=>by
  ext Ŵ6
  have hsz:=AutoListH.joined_fits hc2
  wp_walk;exact wpAny_ite_false (FM (Nat.not_lt.mpr hsz)) ?_;wp_walk;show sk
section
variable {ώ}
def È8 ó1 TC Ny V1 Ī(ht:PlainL ð l Ũ) (hne:its≠[]) (h0:0<=k) (hz:Ü3*ō<=â)  (hk:Ϸ4)
  (more:Q Fs { s with heap:=Ŧ { cls:=ſ,data:=ň Ϗ2 } }):
  ëa:=by
 let#[SD,n,ho,hc,he,hd]:=id ht;simp only at hc hd he;subst hc hd he;have hl:QV:=rfl;have hem:cN=Á:=by cases its with
  | nil=>show ØX
  | cons a r=>rfl
 have hf:Ùu þr (ĵ (if cN=true then 0 else ō) Ũ)=Ϗ2:=by
  rw[hem,AK];have:=Ŭ8 its ō į;ext Ln
 exact òk (T:="list") (U:="int") () ű6 òl noFill_list_mul îD repeat_list ôq
  (Ab âU (zb4 k t ο9 none sl)
   #[ho,rfl,ű6,Ab F.slot_list_mul ű6 F.entry_list_mul (F.args_list_mul_2 À)
    (mulL ο9 k t none sl (by simp[ðY];lia) Em (by simp[L_];lia)) #[ho,?_]])
 rw[hf];show more
end
end TM
namespace L2
open Ë å Ô
def Θ3 Ï:R2:=λ x y H Q=>∃ a k xs,LJ/\Xz/\sV/\xs≠[]/\0<=k/\Ϸ4/\ò*ō<=â/\∀ p,Gs->Q ī (upd H p (Å Ϙ1))
theorem Þ1 Ì:yM ϩ5 (Θ3 X.K):=by
 ext qy;let#[a,k,xs,rfl,rfl,hx,hne,h1,h2,hz,q]:=h;ext ÎL;let#[its,r,ht,_]:=HK hx;ext Nn;exact TM.È8 íZ h2 ?_;have hlen:ÇS<=â:=by
  ext óU;show hz
 show#[à _,_,B6 (t':=Ĕ) (o:=Å Ϙ1) kc #[hlen,_,0,r.rep ō,Eu],rfl,Jh]
end L2
namespace L5
open Ë å L2 L3
open Ô hiding St
section
variable {Ý}{wj}
def zam:ÃL
 | Î _=>true
 | _=>Á
def ź9:wx:=λ x y S Q=>∃ k ds,Xz/\zam x=Á/\yG x S=↑ds/\(ds≠[]/\0<=k/\Ϸ4/\t4*ō<=â)/\∀ p,BL->Q ī (ups S p (Å ût))
def gm:wx:=λ x y S Q=>jn UX\/ź9 UX
def vn:Ŝ
 | Δ,Di=>if ts≠[]/\0<=k/\Ϸ4/\ē*ō<=â then ↑(Å üz) else none
 | x,y=>ų6 x y
theorem gm.mo:v9 gm:=λ x y S Q Q' hq h=>by
 rcases h with h | ⟨k,ds,h1,h2,h3,h4,h5⟩
 .show È (jn.mo Úi)
 .show Æ #[k,ds,h1,h2,h3,h4,λ p hp=>hq À (h5 ģ)]
def ź9.fits:vb K ź9 (Θ3 K):=λ x y d e H S Q h1 h2 h3 h=>by
 let#[k,ds,rfl,ht,hs,Ìm,h]:=h;let#[a,xs,rfl,g1,g2]:=iJ h1 h3 hs λ ts z=>by subst z;cases ht
 have hl:=yZ;exact#[a,k,xs,rfl,h2,g1,æa,c2,c3,by rw[<- hl];show c4,Ϛ];show h üh (h3.ups Ι #[_,yy,õE])
theorem gm.fits:vb K gm (λ x y H Q=>čl):=λ x y d e H S Q h1 h2 h3 h=>by
 ext ÚE
 .show È (jn.fits Yk h)
 .show Æ (ź9.fits Yk h)
def Ĥ8:xo zk vn gm:=λ S Z x y z d e Q hz hx hy ef hq=>by
 unfold vn at ef;split at ef
 .rename_i ts k;split at ef
  .ext ď4;cases ef;let#[ds,g1,g2]:=hx.seq (ts:=ts) rfl;cases cQ;have hl:=g2.len;exact Æ #[_,ds,rfl,?_,g1,#[êg,hc.2.1,Þc,by rw[hl];show hc.2.2.2],λ p hp=>hq À Ι (kE hz hp (zo.rep g2 _))];cases d with
   | tup es=>show á hx (by
     intro q;rcases q with q | ⟨us,p,es',_,q,_⟩ | ⟨_,_,_,_,q,_⟩
     .simp![Sn] at q;obtain⟨_,⟨q,_⟩ | ⟨_,q,_⟩,_⟩:=q <;> cases q
     .cases q
     .cases q)
   | _=>rfl
  .cases ef
 .show È (Š1 S Z x y ÈU)
end
end L5
namespace L3
open Ë å Ô L2
section
variable {Ì}{Ý}{ĊX}{sW}
def gs ÂL:zr:=fun L S Q=>to L S λ x S1=>match x with
 | Ŗ=>ÌT/\te Ĺ λ y S2=>∃ q ds es,y=à q/\S2 p=↑ Dc/\S2 q=↑(Å es)/\íL
 | _=>ê
def gs.mo Mc:y7 Ùv:=fun L S Q Q' hq z=>h ó (λ x S1 z=>by
 cases x with
 | ref p=>show#[z.1,h' ς (λ y S2 #[q,ds,es,a,b,c,d,w]=>#[q,ds,es,a,b,c,d,hq À w]) z.2]
 | _=>show z) z
def õ9 {e0:Expr}(hpe:PE X e0 (gZ X.K "list" Ł0 îA)) Mc:PD X e0 Ùv:=by
 exact#[gs.mo rX,Œ hpe Ų];ext ŀ;exact Ģ h VY;cases x with
 | ref p=>
  ext ÆA;exact Ģ h' V9;let#[q,ds',es,rfl,b1,b2,b3,b4]:=h2;subst q2;ext þs;let#[ys',g5,g6]:=p2 À b2;ext àY
 | _=>show qL
def Ĉ8 Hl rZ
  (AZ:øj)
  G0:
  PD X îr Ùv:=
 õ9 (ŵ5 ãa Á4 Bm ϖ9) Ψ1
end
end L3
namespace L5
open Ë L2 L3
@[simp] def fP Ü ŷ:Sm:=fun Y=>match ĸ with
 | Cw=>Ř λ y=>match y with
  | Å us=>õc
  | _=>none
 | _=>none
section
variable {ę}{Ĉ}{ŝ}
def æ3 Ü (hf:wW f te):zQ R (fP i f) (cy (gs rE te)):=λ S0 Z0 S Z L Y o E F e P=>by
 ext Ðr
 .ext Ph;cases y with
  | lst us=>
   by_cases hl:WH
   .ext öt;obtain⟨ds,rfl⟩:Ϥ3:=by
     cases ob with
     | lst ds=>show ſ6
     | _=>show u_
    ext ž4;change gs ÖN;unfold gs yL;ext ìe;let#[q,es,rfl,g1,g2,g3]:=r1.2 us rfl;have F1:=Ef;have g4:zo (yj S1 Z) us es:=Ź Ăy us g3;exact#[q,ds,es,rfl,s1 Ik,g2,øW,áI]
   .show ñC
  | _=>show yx e2
end
section
variable {þ}{P:ŵ->Prop}
def Ţ8 (h:∀ a,P [a]) (us:ŵ) (hl:Æ5=1):P us:=match us,hl with | [a],_=>h a
def Ũ1 (h:∀ a b,P qW) (us:ŵ) (hl:Æ5=2):P us:=match us,hl with | qW,_=>h Ñ
def Ĝ7 (h:∀ a b c,P K9) (us:ŵ) (hl:Æ5=3):P us:=match us,hl with | K9,_=>h Fu
def ĉ9 (h:∀ a b c d e,P ÌX) (us:ŵ) (hl:Æ5=5):P us:=match us,hl with | ÌX,_=>h Gj e
end
end L5
namespace L5
open Ë å L2 L3
open Ô hiding St
section
variable {Ė}{Ý}{Ϙ9}{ā}{ϝ}
def Fx Ï ĩ U9:Prop:=∃ (f:Addr) (oc:Ø) (od:ł) (kV dc pm:Ø) (an:ł) (cd ct:Ø) (sl:uA),
 čm/\âo/\ĆV/\BI
def Fx.i Χ8{oc:Ø}{od:ł}{kV dc pm:Ø}{an:ł}{cd ct:Ø}{sl:uA}(a:čm) (l:âo) (c:ĆV) (k:BI):Fx K x st:=#[f,oc,od,kV,dc,pm,an,cd,ct,sl,a,l,c,k]
def Í0 Ï â6 ĩ U9:Prop:=∃ (f:Addr) (fd:pW),ϟ0/\Ïy
def Fx.mk (H:Fx K x st) Ú9:ż8:=by
 ext ãW;show#[f,_,aN l c k,ÛA]
theorem Fx.law {fa:Addr}ς3(H:Fx K "law" st) Ú9 (hfa:ûu) (hb:∀ (kV dc pm:Ø) (an:ł) (cd ct:Ø) ŭ đ4,XZ s (Ć8 Új Ëg Ói) Öe [(p,v)]):∃ fd:pW,nH K Új st fa fd/\∀ ŭ đ4,XZ s fd Öe [(p,v)]:=by
 ext ãW;have e:=hfa.symm.trans (ÛA);cases e;show#[_,aN l c k,hb kV Ói]
def Cn Ï ĩ (t:V):Prop:=∃ u,Ϲ8=↑↑u/\ÏK
def Cn.i {t:V}uO(a:Ϲ8=↑↑u) (r:ÏK):Cn K x t:=#[u,a,r]
def Cn.mk {t:V}(H:Cn K x t) Ú9:üA:=by
 let#[u,a,r]:=H;show#[u,ÛA,r]
def fd6 ę qD Ĩ8(F:ż8) Åo
  (Ŕ:∀ Ö8 Ð5,υ6):FD Ν6:=by
 ext ďb;show fd5 F hm Sc hn hb (Ŕ f)
end
end L5
namespace Ë
section
variable {Gf}{Eo}{Ĝ}{g:CP}{d:Li}{t:Nat}{os:R3}
variable {nm q:Str}{ÂI}{bs bm bmB:zLV}{hdct:Bool}{Kv}{B DU initId:ń}
def å1 âP Ur
  áG
  (hq:∀ h' e,Ĩ<=e->íM->
   Ä í ôs (λ r s'=>r=Ć/\Q (NS (Μ Ϡ)) s') E Ëu) (Va:ąS):
  Ä í (Builtin.«type.__call__» āp) D0:=by
 repeat (first | ext KY | with_reducible exact wpAny_madeBy_exc hC ?_ | wp_step)
 exact codeAny_call_builtin_code (ýv _ F.quiet) (wpAny_check_new_subT F T hC ?_);exact codeAny_exc_new_subT F T hC ?_ Va;change Ä ĉ À;have up:∀ b o,Fz->ác b=↑o:=λ b o e=>ϯ9;have hC₁:=up À hC;have hfI₁:=up À hfI;have hget:ác (Ĩ+1)=some
   { cls:=sD,data:=åU }:=by heap_get
 have hcC:ÌY IJ=true:=∅;unfold Ϸ2
 repeat (first | with_reducible exact WF hget ?_ | (with_reducible exact ziW hC₁ ?_;rw[hcC]) | wp_step)
 change Ä À (JT IJ _) Ð;exact wpAny_typeLookup_tail hC₁ (hn.keeps up) (T.keeps up) F.mroIs F.init.lookup ?_;rw[hi];exact OR (He);unfold bindSpecial;exact AC (Tk (T:="function") #[_,hfI₁,hfc] ?_);rw[SM];exact AT (AC (EQ (hq _ (Ĩ+1) (zgL _) #[up,zj4 (zgL _),Ĩ,hget,zj4 Ķ,?_]) (λ r s' hr=>?_) XH))
 .show Gc _ õF
 .let#[rfl,hQ]:=hr
  wp_walk
  show hQ
def Ã4 âP Ī
  áG
  (hq:∀ h' e,Ĩ<=e->íM->
   Ä U5 (A.under (ϐ "type.__call__" āp)) ôs (λ r s'=>r=Ć/\Q Ϡ s') E Ëu) (Va:ąS):
  Ä í (call IJ rest) D0:=by
 have f1:=tc_lookup;have f2:=tc_bind IJ;have hT:ĉq IJ "type":=#[_,hC,rfl];exact RT (ÍF);change Ä À (callAny IJ _) Ð
 repeat (any_goals (first | ext Ŷ | ext KY | wp_step))
 exact ÕA;show codeAny_call_builtin_at (ϐ3) entry_typeCall (wpAny_check_type_call_sub hC (å1 F T hC hn hi hfI hfc (λ h' e hl hm=>hq h' e hl hm) Va))
def Č8 A4 tK Λ{x:PV}{Q:Þh}(AZ:bm.contains Kf=true) G_
  (hx:Ä M A x (λ v s₁=>∃ e yf vs sl,v=uG/\rH C=↑ υ3/\
   rH e=↑{ cls:=sD,dict:=yf,data:=X3,JW:=sl }/\E Ϡ s₁) E s):
  Ä M A (raiseStmt env ↑x none) ï:=by
 have hcB:ÌY Kf=true:=øk
 unfold raiseStmt;exact AC (EQ hx (λ v s₁ h₁=>?_) XH);let#[e,yf,vs,sl,rfl,hC,he,hE]:=h₁;let#[hp,g,d,tk,os]:=s₁
 repeat (first | with_reducible exact WF he ?_ | ext KY | ext Ée | wp_step)
 show wpAny_raiseNew_none hh hE
end
end Ë
namespace Ë
open T5 Builtin.ObjectAttr
section
variable {Gf}{A4}{Eo}{Ĝ}{g:CP}{d:Li}{t:Nat}{os:R3}
variable {ín}{hdct:Bool}{Kv}{ËW}{name:Str}{CN}
structure i4 Ľ (P:Addr) (mP:zSV):Prop where
 ex:∃ (c0:Ø) (dd:ł) (cd:R7) (sl:uA),Ō P=↑{ cls:=c0,dict:=dd,data:=Ρ5,JW:=sl }/\h.Ns cd.ns mP
def iC {n:Str}{y:B2}Ő6
  (hC:Ō C=↑(l6 Úk (ÀT) hdct Üs)) Lv (hbm:ËO) (hB:JT (Į B) n=pure y)
  (h1:mN n=none) (h2:mP n=none) (hq:Q y Ge):Ä M A (JT IJ n) D0:=by
 let#[c0,pd,cd,sl,hA,hN]:=hP.ex;have Va:Öf bmB n=pure y:=by rw[čn,hbm] at hB;show hB
 rw[čn];exact AC (øl);rw[ĂR];exact AC (wpAny_classOwn_exc hC hn ?_);rw[h1];change Ä M A (Öf (ÀT) n) Q E _;rw[ĂR];exact AC (wpAny_classOwn_cls hA hN ?_);rw[h2];change Ä M A (Öf bmB n) Q E _;rw[Va];show η1
def Æ1 uF{QE:Ø}AY Üt Èw Hb (hq:Q HY Ge):
  Ä M A (iH sa åH) D0:=by
 have hcB:Ĩ6 (Į ľ)=true:=by rw[Of,Of,SF.hasOwner,zg4,zg4]
 have ha:=SF.args rh QE v;simp![iH,SF.kind,SF.split];exact He;unfold Ϸ2
 ext ðm
 cases hsig:Manifest.signature? sa with
 | none=>show η1
 | some sig=>
  simp![ι4,hsig] at ha;have h2:òm=ÁU:=ha;change Ä M A (òm) Q E _;rw[h2];show η1
def Ă6 ĸ8 Ur Üt uF Èw Lv χ3 Hb (hdn:YR) Ìy
  (hq:∀ h' tk',ñB->êA->
   ûv->Q ÎT óp):
  Ä í (íN #[[Ar,ÚA,v],[]]) D0:=by
 have hpass:=SF.passes rh;unfold íN
 repeat (first | rw[refuse_eq] | (rw[ĉr,ĉr,hpass]) | ext qY | with_reducible exact øl | (with_reducible exact iC İ7 SF.mro hB Y7 ?_) | wp_step)
 rw[hdn,É (by simp[typeHasDict])];split
 .rename_i hcd;cases hcd
 split
 ext þP
 .have hx₁:(ÇC).get? x=↑o:=Gc _ hx;have hxs:x≠ Ĩ:=FS (IO hx);exact AC (wpAny_alloc' ?_);exact AC (wpAny_update' hx₁ ?_);exact Ic;have hgd:(ám).get? Ĩ
    = ↑{ cls:=Kp,data:=Áy }:=
   (zj6 ĉ hxs.symm).trans õF
  have hnd:(ám).Ns Ĩ (Nc):=
   #[_,į,_,hgd,rfl,ÿc,ğ]
  change Ä À (storeInDict Ĩ (ÚA) name v) Ð;unfold storeInDict newKeyGuard;exact AC (AT (AC (wpAny_nsSet1 (ÿd hnd) ĄR)));let#[oD,esD,epD,hoD,hdD,hcD]:=hn'.count (Within.cons name v Within.nil);exact AC (āX hoD (by rw[hdD];show āY (BY hcD (by rw[GM,P7,NU];lia))) ?_)
  wp_walk
  exact hq h' _ ?_ hn' λ b ob hbx hb=>?_
  .exact (qH x hxs).trans (P6 _ hx₁ ?_);have hfr:=(Heap.get?_some_iff.mp hx).2;let#[oc,od,odt,osl]:=o;cases odt <;> first | rfl | show hfr
  .show (qH b (FS (IO hb))).trans ((zj6 ĉ hbx).trans (ßC))
def ÿ2 AY Üt uF Èw Lv (hns:mN "__setattr__"=none) (hps:mP "__setattr__"=none) χ3 Hb (hdn:YR) Ìy
  (hq:∀ h' tk',ñB->êA->
   ûv->Q HY óp):
  Ä øz D0:=by
 have f3:=SF.slot.bind rh;unfold setAttr callSpecial? specialOf
 repeat (any_goals (first | ext Ŷ | ext qY | (with_reducible exact iC İ7 SF.mro SF.slot.lookup hns hps ?_) | wp_step))
 exact YZ SF.slot.plain SF.entry (Æ1 SF hC Jo (Ă6 SF İ7 Y7 hB Jo hdn hnc λ h' tk' h1 h2 h3=>?_))
 ext Ņ3
 show hq h' tk' Ķ8
end
section
variable {Gf}{A4}{Eo}{Ĝ}{g:CP}{d:Li}{t:Nat}{os:R3}
variable {nm q:Str}{C N P x dx:Addr}{bs bmB:zLV}{Kv}{B DU:ń}
 {mN mP mA:zSV}{name:Str}{CN}{uF}
def Ŀ6 {QE:Ø}AY(hb:Uz Kf=true) aj
  Hb (hq:Q HY Ge):Ä M A (iH "BaseException.__getattribute__" #[[Ar,QE],[]]) D0:=by
 have hk:builtinKind "BaseException.__getattribute__"=↑.slot:=MC
 have hsplit:splitId "BaseException.__getattribute__"=↑("BaseException","__getattribute__"):=MC
 have hcB:Ĩ6 Kf=true:=by rw[Of,Of,hb];rfl
 have ha:=F.args_bexc_ga rh QE;simp![iH,hk,hsplit];exact He;unfold Ϸ2
 ext ðm
 show hq
def ë4 ĸ8 Ur
  aj Lv (hm:ËO) χ3 Hb âI (hq:Q (NS (Μ v)) Ge):
  Ä í (Èi #[[Ar,ÚA],[]]) D0:=by
 unfold Èi
 repeat (first | ext qY | ext ìi | wp_step)
 split
 ext þP
 unfold instanceDict
 repeat (first | ext qY | ext KY | wp_step)
 rw[hdx]
 repeat (first | (with_reducible exact wpAny_nsGet hns.ns ?_;rw[hv]) | wp_step)
 show hq
def Ø6 {expr:Bool}Ī(FB:Ϝ3)
  aj Lv âC χ3 Hb âI (hh:handedOut v=pure v) (hq:Q v ôt):
  Ä óA D0:=by
 have f3:=ĉs;have hx0:(expr&&onTheHeap (æH))=Á:=by cases expr <;> rfl
 have hx2:(Åv)=Á:=MC
 ext él
 unfold Ãj getAttrBy
 ext áx
 exact YZ òE (Ŀ6 ĀW (ë4 Ϻ6 Y7 hB Jo hnc hdx hns hv ?_))
 repeat (any_goals (first | ext Ŷ | (rw[hh];show η1) | wp_step))
end
section
variable {Gf}{Eo}{Ĝ}{g:CP}{d:Li}{t:Nat}{os:R3}
variable {ín}{Kv}{ËW}{uF}
def Ä0 ο4 ό0
  Hb (hq:R (.ok (Μ IJ)) Ge):
  tB í (Sy (ϐ "getset_descriptor.__get__") #[[ÇK,Ar,sD],[]]) R Ge:=by
 ext æb;have hcB:Ĩ6 (Į (".".intercalate ("object.__class__".cutAt '.').dropLast))=true:=by rw[F.owner_object_class,Of,Of,hb];rfl
 exact YZ F.slot_gs_get.plain F.entry_gs_get (F.slot_gs_get.check ĉ ĉ hT5 (F.args_gs_get Ð) ?_)
 repeat (any_goals (first | ext Ŷ | ext qY | ext Ée | wp_step))
 exact#[ϐ3,Cv F.entry_object_class ?_]
 ext éw
def Ë5 ĸ8 Ur ό0 Lv (hm:ËO)
  (hB:Æx) éj
  Hb (hq:Q (NS (Μ IJ)) Ge):
  Ä í (Èi #[[Ar,ÿV],[]]) D0:=by
 ext æb;have f5:=øm;have f6:=F.slot_gs_get.lookup;have f7:=F.slot_gs_set.lookup
 repeat (any_goals (first | ext Ŷ | ext qY | ext ìi | wp_step))
 exact Ä0 hb hC Jo ?_
 ext Ņ3
def Õ3 ĸ8 Ī(FB:Ϝ3) ό0 àd
  Hb (hq:Q IJ Ge):Ä í (getAttrBy rh (ÿV) Á) D0:=by
 have f3:=ĉs;have hx2:(Åv)=Á:=MC
 ext él
 ext áx
 exact YZ òE (Ŀ6 ĀW (Ë5 hb Ϻ6 hB Y7 Jo ?_))
 ext Ņ3
def Û3 Ő6(FB:Ϝ3) ό0 àd
  Hb (hq:Q ↑ IJ ôt):Ä í (getAttr? rh "__class__") D0:=by
 unfold getAttr? getAttrBy?
 repeat (any_goals (first | ext Ŷ | with_reducible apply Õ3 FB hb İ7 hB hq1 hq2 hq3 hq4 Y7 Jo | wp_step))
end
section
variable {Gf}{Eo}{Ĝ}{g:CP}{d:Li}{t:Nat}{os:R3}
variable {nm q:Str}{C N P x D:Addr}{bs bmB:zLV}{Kv}{ËW}{uF}
structure SE Ľ (C P:Addr) (B:ń) (bmB:zLV):Prop where
 FB:Ϝ3
 hb:öz
 hB:Æx
 ex:∃ (nm q:Str) (N:Addr) (bs:zLV) (sn:Û) (sub:zLV) (ab:Bool) (col:pP) (dd:ł) (k0 k1 k2 k3 k5:B2) (DU:ń) (mN mP:zSV),
  ßT/\ÛB/\i4 h P mP/\
  ∀ n∈(["__getattribute__","__getattr__","__class__"]:Û),mN n=none/\mP n=none
def Ë6 ĸ8{dep:Int}Ur{oD:Obj}{cD:R7}(X:ĉt) Hb (hD:Ō D=↑oD) (hDc:oD.cls=Ζ5) (hDd:oD.data=.cls cD)
  (hq:∀ t',Q (NS (Μ (FK (Ĩ6 sY)))) õG):
  Ä í (Éj #[[Ar,à D,Â dep tk],[]]) D0:=by
 ext àk;by_cases he:C=D
 .subst he;have hcc:Ĩ6 IJ=true:=∅;rw[hcc] at hq;have hee:(đ C == đ C)=true:=∅
  ext éw
  show hq _
 .have hee:(đ C == đ D)=Á:=Ϲ1
  cases hcc:Ĩ6 sY with
  | true=>
   rw[hcc] at hq
   repeat (any_goals (first | ext Ŷ | ext qY | ext îP | ext îR | ext ϕ6 | wp_step))
   show hq _
  | Á=>
   rw[hcc] at hq
   repeat (any_goals (first | ext Ŷ | ext qY | ext îP | ext îR | ext ϕ6 | ext ãC | ext KY | wp_step))
   show hq _
def ď9 ĸ8{dep:Int}Ur{T:ń}(X:ĉt) Hb (hty:typeOf dw=pure (Ζ5))
  (hq:∀ t',Q (NS (Μ (FK (Uz dw)))) õG):
  Ä í (Éj #[[Ar,Į T,Â dep tk],[]]) D0:=by
 ext àk;have hee:(đ C == sU T)=Á:=rfl;have hcc:Ĩ6 dw=Uz dw:=by rw[Of,Of];rfl
 cases hct:Uz dw with
 | true=>
  rw[hct] at hq hcc
  repeat (any_goals (first | ext Ŷ | ext qY | ext ϕ6 | wp_step))
  show hq _
 | Á=>
  rw[hct] at hq hcc
  repeat (any_goals (first | ext Ŷ | ext qY | ext ϕ6 | ext ãC | ext KY | wp_step))
  show hq _
def Ţ3 {c:Ø}Dn Λ Ī(hn:∀ E4 Ċ Ü4 (Q:Fin->ϴ) ã7,(∀ t',Q (NS (Μ Ο3)) { s with toks:=t' })->Ä í (Éj #[[Ar,c,Ck 0],[]]) ï)
  (hq:∀ t',Q Ο3 { s with toks:=t' }):Ä í (call Îe [Ar,c]) ï:=
 call_isinstance (S:=λ _ R s'=>s'=s/\∀ t',R (.ok (Μ Ο3)) { s with toks:=t' }) (λ prog w A R s' hs=>by
  let#[rfl,hs]:=hs;exact isinstance_outer (hn ĥ Ð λ t'=>?_) (λ e=>Μ7);show hs t') #[rfl,λ t'=>hq t']
end
namespace Heap
def cJ (h base:Heap) FV ĀX (T:Addr):Prop:=
 ∃ oe vs oT ts,KI/\((oe.cls=cls/\RM=yf)/\Xe)/\KO/\ĂS/\ÚO T=none/\T≠e/\èB
structure Wn ßG (l:rf) FV (cls a0:Ø) (yf:ł) ßn:Prop where
 stays:jM h'
 frames:ÌZ
 tr:∃ T,Ĩ<=T/\h'.cJ cR Ć yf T
 JW:ÐX
 iM:ýw
end Heap
def Obj.í4 (f:Cq->Cq) ξ7:(C7 f o).dict=SA:=by
 let#[c,dc,dt,sl]:=o;cases dt <;> rfl
section
variable {A4}{Eo}{Λ}
def ũ7 Ů6 éi TJ
  (he:Ϸ5) UG þt âJ:
  Ä àO (λ _ s'=>Ä M A ÑL Q E s') E s:=by
 have hene:êH:=λ hm=>by
  ext êB;show Ôl
 exact âg;ext ßW
 ext îS
 ext îN;exact Tl he₂ hd hsz ?_;ext àb;unfold Ϣ1;exact AC (NO RY ŀ4 (x:=à ī7) (Ól) ?_);rw[Ç (show (đ ī7 != Hr)=true from by simp)];exact Tl hT₃ tbd (by simp![GT,GE,GM,P7] <;> lia) (h _ ?_);have keep:∀ b o,IA->ŋ5->((ýx).update ī7 (C7 (Pr 3 ((none:ł).elim Hr ÑN)))).get? b=↑o:=λ b o hbe hb=>by
  rw[aS À (On (IO hb)),ĂT];show ßC
 have Ŗ3:øn:=λ b o hb hnf q=>by
  ext ĆS
 exact àz
 .ext Èf;show ĂU
 .exact#[ī7,āl,_,_,_,_,?_,éP,ŀ4,Ól,kb₁.fresh,hTe,P6 _ hT₃ (ϕ0 (PX tbd _)),PX tbd _,by first | (simp;done) | (rcases hpl with rfl | ⟨_,_,_,_,_,_,_,rfl⟩ <;> simp)];rw[aS À hTe];show RY
 ext ĎL
 .by_cases q:b=e
  .subst q;show#[_,_,(by rw[aS À hTe];show RY),ŀ4]
  .have hb₁:ŋ5:=(Àp b λ hm=>by
    ext ék;show hnf us hbd).trans hb
   show ëb
def ą7 Ů6{oe:Obj}{vs:zAV}{a0:Ø}TJ
  (he:Ϸ5) UG (hd:KO) (h1:vs[1]?=↑ Ć) âJ:ïd:=by
 ext ìH;rw[AK];show ũ7 hfr hl hf he hkb þu h
def ü2 Ů6{cls a0 fl:Ø}Ñw TJ (ht:øo) (hfl:(fl == RK)=Á) UG
  (h:∀ h',Heap.Wn Ÿ5 e cls a0 yf Xc->pZ):ïd:=by
 ext âM;ext ìH;ext óI;rw[É (show ¬ ((fl == RK)=true) from by rw[hfl];decide)];ext ãY;have Ŗ3:Ëd:=λ b o hb hnf q=>by
  ext Ís
 exact ũ7 áZ
  λ h' x=>h h' #[Ác,Þi,(by
   ext èQ),êI,λ b o us hb hbd=>(by
   by_cases q:b=T
   .subst q;show ûw
   .show éq)]
end
structure Heap.Je ßG (l:rf) FV ĀX ßn:Prop where
 stays:jM h'
 frames:ÌZ
 tr:∃ T,Ĩ<=T/\h'.cJ cR fl yf T
 JW:ÐX
 iM:ýw
section
variable {A4}{Eo}{Λ}
def î2 Ů6 éi TJ
  (he:Ϸ5) UG þt (h0:Xe)
  (h:∀ h',Heap.Je Ÿ5 Úl (RK) RM Xc->pZ):
  Ä àO ï:=by
 have hene:êH:=λ hm=>by
  ext êB;show Ôl
 exact âg;ext ßW
 ext îS
 ext îN;exact Tl he₂ hd hsz (h _ ?_);ext àb;have keep:∀ b o,IA->ŋ5->(ýx).get? b=↑o:=λ b o hbe hb=>by
  rw[ĂT];show ßC
 have Ŗ3:øn:=λ b o hb hnf q=>by
  ext ĆS
 exact àz
 .ext Èf;show ĂU
 .show#[ī7,āl,_,_,_,_,RY,éP,ŀ4,Ól,kb₁.fresh,hTe,hT₃,tbd,∅]
 ext ĎL
 .by_cases q:b=e
  .subst q;show#[_,_,RY,ŀ4]
  .have hb₁:ŋ5:=(Àp b λ hm=>by
    ext ék;show hnf us hbd).trans hb
   show ëb
def î5 Ů6{cls a0:Ø}Ñw TJ (ht:s.heap.cJ cR Ć yf T) UG
  (h:∀ h',Heap.Je Ÿ5 e cls a0 (RK) yf Xc->pZ):Ä M A (QI Ϡ env) ï:=by
 ext âM;unfold QI;simp![hf];exact ÈY;ext óI;rw[É (show ¬ ((Hr == RK)=true) from čo)];ext ãY;have Ŗ3:Ëd:=λ b o hb hnf q=>by
  ext Ís
 exact î2 áZ
  λ h' x=>h h' #[Ác,Þi,(by
   ext èQ),êI,λ b o us hb hbd=>(by
   by_cases q:b=T
   .subst q;show ûw
   .show éq)]
def Ĺ0 ÀP{l:rf}SH{cls a0 fl:Ø}{fr:ł}Ñw AY
  (hkb:jM ð) (hl:fM base l) (ht:øo)
  (h:∀ h',jM h'->ÌZ->h'.cJ cR ĂV yf T->s.heap.UpToSlots h'->(∀ b o vs,ϒ->áC)->pZ):ôu:=by
 let#[oe,vs,oT,ts,he,hcls,hd,h1,hnT,hTe,hT,hdT,h3]:=ht;have hsz3:3<ts.size:=(Vu h3).1;have Ũ6:∀ b,b≠T->(qx T (C7 (Pr 3 (fr.elim Hr ÑN)))).get? b=ż b:=
  λ b hb=>Èt
 have Ŗ3:Ëd:=λ b o hb hnf q=>by
  ext Ís
 unfold Ϣ1;exact ÈY;rw[Éd];exact Tl hT hdT hsz3 (h _ àF
  çj ?_ (λ b o hb hnf=>#[Vf,ÅK]) ûx)
 .show#[oe,vs,_,_,ïe,hcls,hd,h1,hnT,hTe,Æp,ϰ5,by simp[hsz3]]
 .by_cases q:b=T
  .subst q;show#[_,_,Æp,ϰ5]
  .show#[o,us,ùB,hbd]
end
end Ë
namespace Ë
open Calls Spec
section
variable {Gf}{A4}{Eo}{tK}
variable {nm q:Str}{ÂI}{bs bm:zLV}{hdct:Bool}{Kv}{DU:ń}
variable {nm' q':Str}{P N':Addr}{bs' bm':zLV}{hdct':Bool}{sn':Û}{sub':zLV}{ab':Bool}{col':pP}{dd':ł}{l0 l1 l2 l3 l5:B2}{newId':ń}
def ê3 Ĝ{g:CP}{d:Li}{t:Nat}{os:R3}SH{oe:Obj}û9
  (hC:Ō C=↑ υ3) (hP:Ō P=↑ âi)
  (he:KI) (hcls:S7) æg
  (hq:Q true Ge):Ä M A (excMatches Ϡ NI) D0:=by
 have hcB:(đ P::bm').contains Kf=true:=øk
 have hcP:ÌY NI=true:=by rw[Of,hm,zg4]
 have f:=tc_notTuple;unfold excMatches
 repeat (first | (with_reducible exact WF he ?_;rw[hcls]) | with_reducible exact WF hP ?_ | (with_reducible exact ziW hP ?_;rw[hcB]) | (with_reducible exact ÛC;rw[hcP]) | wp_step)
 show hq
def Ċ8 Λ SH{t:Expr}{n:Str}{b₀:Stmt}{suite:Å3}Ē{rest:List ExceptHandler}{Q:Þh}
  æg
  (h:Ä nZ (eval t env) (λ c s₁=>c=à P/\rH C=↑ υ3/\rH P=↑ âi/\(∃ oe,rH e=↑oe/\S7)/\
   Ä nZ ÑL (λ _ s₂=>
     Ä nZ (storeName env n Ϡ) (λ _ s₃=>
      Ä nZ (execs čp env)
       (λ f s₄=>Ä í (do bindName env n Ć;ùC env n pos) (λ _ s₅=>Q f s₅) E s₄)
       (AsSuiteRaised nZ env n pos ϋ5) s₃) ϋ5 s₂) ϋ5 s₁) ϋ5 s):
  Ä í (handleBy Ϡ env (ĉu ↑t ↑n čp pos::rest)) ï:=by
 exact wpAny_handleBy_cons (codeAny_handlers_test (EQ h (λ c s₁ h₁=>?_) λ _ _ y=>y)) (by intro q;cases q);let#[rfl,hC,hP,#[oe,he,hcls],hk]:=h₁;let#[hh,g,d,tk,os]:=s₁;show ê3 hC hP he hcls AZ hm (codeAny_handlers_suite_as hk)
end
end Ë
namespace L3
open Ë å L2
open Ô hiding St
def wz (T:Addr):HO:=tU λ h=>∃ oT ts,Ō T=↑oT/\ÐY
def ķ0 Ľ FV:Prop:=∃ oe vs a0,KI/\KO/\vs[1]?=↑ Ć/\Xe
def gL (fl:Ø) Ľ ô FV:Prop:=∃ oe vs a0 T oT ts,KI/\KO/\Xe/\ĂS/\T≠e/\H T=↑(wz T)/\èB
def gM Ľ ô FV:Prop:=gL Ć h H e
def i8 ô FV:Prop:=∃ C dx,ϙ5
section
variable {Ė}{æ}{BB}
def ų2 {fs as:Ξ}(zt:N6) (hf:∀ b∈fs,Bv/\∀ o,Fz->ϋ4) (st:(N2 h as).StaysIn h') (us:ÐX)
  (has:∀ a∈as,a∈fs\/∃ φ:AI,H a=↑(Rz)/\φ h'/\∃ o,ι a=↑o):Un Ĺ4 H rX/\ÚI:=by
 have st':∀ b o,b∉as->SV:=λ b o hb e=>st b o (úP _ e hb);exact#[#[λ b o e n hb _=>st' b o Ùo e,λ b o e n hb _=>us Ie ((Qu).2 o e),Ĉb,λ b o e _=>?_,ϕ,λ _ _ _ q=>q,öH],λ a o e=>?_]
 .rcases has b hm with z | ⟨φ,z,_⟩
  .show hb z
  .rw[n] at z;cases z
 .by_cases hm:b∈as
  .rcases has b hm with z | ⟨φ,_,_,z⟩
   .let#[sl,q]:=us Ie ((hf b z).2 o e);show#[_,q]
   .show z
  .show#[o,st' b o hm e]
 .by_cases hm:a∈as
  .rcases has a hm with z | ⟨φ,z,z1,z2⟩
   .rw[(hf a z).1] at e;cases e
   .rw[e] at z;cases z;show#[z1,z2,(zt a _ e).2.2]
  .exact (zt a o e).mR (λ b u hb q=>?_) ϥ7;rcases hb with rfl | hb
   .show st' _ u hm q
   .exact st' _ u (λ hm'=>?_) q;rcases has b hm' with z | ⟨φ,z,_⟩
    .rw[(hf b z).1] at hb;cases hb
    .rw[hb] at z;cases z
def ï9 {fs:Ξ}{T:Addr}{oT:Obj}{ts:zAV}(u:Un Ĺ4 H rX) (zt:ÚI) (hk:N6) (hp:Ĩ<=T) (e:ι T=↑oT) (hd:ÐY):
  Ϻ7/\Un Ĺ4 sf rX/\yT P w sf h':=by
 have hn:=hk.fresh hp;exact#[hn,#[u.keep,u.slot,λ b o q n x=>ñK,u.there,ċQ,λ b o xs q=>n5,æB],ſ7];by_cases hb:b=T
 .subst hb;ext Ε3;show#[#[oT,ts,e,hd],#[oT,e],λ h1 h2 #[o,ts,a,b] k=>#[o,ts,k _ a,b]]
 .rw[zR hb] at q;show (zt b o q).mR (λ _ _ _ z=>z) (λ c z=>üK) λ c xs z=>üK
end
section
variable {Ì}{Ĵ}{SH}
def ö7 Ú:∀ b∈ RH,Bv/\∀ o,ϒ->ϋ4:=λ b hb=>
 #[I.ŭ8 Ϣ,λ o ho=>by
  let#[_,o',ho',hd]:=I.stack.mem hb;rw[ho] at ho';cases ho';show hd]
def æ9 æ Ĝ Ė ĸ5{dx:ł}{oe:Obj}(zt:N6) (he:ϙ5) (q:KI):S7/\RM=dx:=by
 let#[#[o',_,a,b,c,_],_]:=zt e _ he;rw[q] at a;cases a;show#[b,c]
def Ŏ7 A4 ë1 Ú Ha Ε4 (hf:ķ0 ð e\/∃ fl,(fl == Ck uS)=Á/\gL fl ς5) AY
  (hq:ĂW):îs:=by
 ext ÊW;ext ñL;have fin:∀ (as:Ξ) (oe:Obj) (a0:Ø),Ϸ5->(∀ a∈as,a=e\/a∈ RH\/H a=↑(wz a))->
   ∀ h':Heap,Heap.Wn (N2 ð as) (Ye) Úl RM Xc->pZ:=λ as oe a0 g0 has h' x=>by
  let#[T,hp,oe',vs',oT,ts,a1,ÍJ,a5,a6,a7,a8,a9,a10,a11]:=x.tr;ext Ìc;let#[u,zt]:=ų2 (as:=as) ďc λ a ha=>by
   rcases has a ha with z | z | z
   .rw[z];show ÅX
   .show È z
   .let#[#[oT,ts,q1,q2],_]:=I.zt a _ z;let#[o',ts',q3,q4]:=x.iM Ð NH;show Æ #[_,z,#[o',ts',q3,q4],o',q3]
  ext Èg;show hq h' T n u' hok' #[oe',vs',a0,T,oT,ts,a1,a5,a4,a6,a8,yy,a9,a10,a11]
 have hin:∀ (r:Ξ),∀ env∈ Ye,∀ a,ÐZ->a∈r++RH:=λ r env hm a ha=>íW;rcases hf with ⟨oe,vs,a0,g0,g1,g2,g3⟩ | ⟨fl,hfl,oe,vs,a0,T,oT,ts,g0,g1,g3,g2,g4,g5,g6,g7,g8⟩
 .exact ą7 (base:=N2 ð ([e]++RH)) øH g0 Æy Lz g3 ïT;ext Y8
  .show È (tY)
  .show Æ (MZ)
 .exact ü2 (base:=N2 ð (TZ)) øH ÅA hfl Æy ïT;ext Y8
  .ext ZK
   .show MZ
   .show Æ (Æ (by rw[tY];show g5))
  .show Æ (MZ)
end
section
variable {Ì}{Ĵ}{SH}{A4}{Eo}
def Ä8 Ú Ha Ε4 (hf:gM ς5) AY
  (hq:ĂW):
  Ä Ąa (λ _ s₂=>Ä M X.A ÑL Q E s₂) E s:=by
 ext ÊW;ext ßY;let#[T',hp,tr]:=x.tr;exact Ĺ0 (s:={ s with heap:=h1 }) Ác Þi tr ôv;ext âm;ext Ìc;let#[u,zt]:=ų2 (as:=TZ) Ñx y1 (x.slots.trans y4) λ a ha=>by
  ext Y8
  .ext ZK
   .rw[q];show ÅX
   .ext éV;let#[o2,t2,b3,b4]:=y5 Ð b1 b2;show æY
  .show MZ
 ext Èg;show hq h2 áM
def ř8 {fl:Ø}{fr:ł}Ú Ε4 (hf:gL fl ς5) AY
  (hq:∀ h',Un Óp H Xc->Ør->gL ĂV h' H e->pZ):ôu:=by
 let#[C,dx,hE]:=he;ext ãe;have hin:∀ env∈ sS,∀ a,ÐZ->a∈ Þj:=λ env hm a ha=>PP _ (List.mem_filterMap.mpr #[env,hm,ha]);exact Ĺ0 (base:=N2 ð (Þj)) ýy (ÈG Ãm hin) ÅA ôv;let#[u,zt]:=ų2 (as:=Þj) Ñx y1 y4 λ a ha=>by
  ext Y8
  .rw[tY];let#[o2,t2,b3,b4]:=y5 Ð g6 g7;show æY
  .show MZ
 ext âm;show hq h2 u zt #[oe',vs',a0,T,oT',ts',a1,a5,a4,a6,a8,g5,a9,a10,a11]
def ì3 Ú Ha Ε4 (hf:gM ς5) AY
  (hq:∀ h' T,Ϻ7->ĉv->yT η sf h'->gL Þk h' sf e->pZ):
  Ä Ąa ï:=by
 ext ÊW;ext ßY;let#[T',hp,oe',vs',oT',ts',a1,ÍJ,a5,a6,a7,a8,a9,a10,a11]:=x.tr;ext Ìc;let#[u,zt]:=ų2 (as:=TZ) ďc λ a ha=>by
  ext Y8
  .ext ZK
   .rw[q];show ÅX
   .ext éV;show Æ #[_,g5,#[o1,t1,b1,b2],o1,b1]
  .show MZ
 ext Èg;show hq h1 áM
def â1 Ú (hfr:Îa) Ε4 (hf:gL Þk ς5) AY
  (hq:∀ h',Un Óp H Xc->Ør->gM h' H e->pZ):îs:=by
 let#[oe,vs,a0,T,oT,ts,g0,g1,g3,g2,g4,g5,g6,g7,g8]:=id hf;unfold Ο7 QI;simp![hfr];exact AC (øp);rw[Éd];exact AC (NO g6 g7 g8 ?_);rw[Ç ∅];show AT (ř8 (fr:=none) I he hf hq)
def zaS ă ā Ē AY Ú Aa (hi:Qz) (hk:Nq x=↑ uI)
  (h:∀ s',Inv Fy (σ.set EM) H s'->Ι6):Ä M A (do bindName Ù x Ć;ùC Ù x pos) ï:=by
 ext àQ
 have kX:=I.kX;ext õX;exact wpAny_nameGoes_keeps hk hn hcls λ h' v hn' hs=>?_;exact h _ #[I.ok,I.os,Cf,Åy,āR,λ y c e=>?_,se,I.mC,Ϛ,λ b ob e=>?_,ÑX]
 .show χ1 ϑ1
 ext ćT
 ext ćU
 .by_cases hj:j=i
  .subst hj;rw[zgE] at e2;simp at e2
  .ext åS
   ext åz
   .show öJ
 ext øN
 .ext ώ3;show çU
 .ext îz
  .rw[se] at e;cases e
  .rw[se] at hc;cases hc
end
abbrev ļ4:Û:=["place","pair","way","times","told","name","row"]
def Ĳ1 J_(h:Lu):f∈iR:=by
 simp![KK,Op,Mq] at h ⊢;rcases h with h | h | h | h | h | h | h <;> simp[h]
def Ę3 J_(h:Lu):JT (ϡ3) f=NQ:=by
 ext Ąz;rcases h with rfl | rfl | rfl | rfl | rfl | rfl | rfl <;> (ext Æa)
def Ô8:JT (ϡ3) "__class__"=čq:=by ext Æa
section
variable {Ý}{Ĝ}{Ļ7}{C P N NP:Addr}{bm:zLV}
def gH.at (o:Òh) ÂE:(∃ (q:Str) (bs:zLV) (sn:Û) (sub:zLV) (ab:Bool) (col:pP) (dd:ł) (k0 k1 k2 k3 k5:B2),Ō C=↑ åA)/\h.Ns N (h.nsMap N)/\∀ n∈iR,h.nsMap N n=none:=by
 let#[ão,ok,hn]:=o;show#[#[q,bs,sn,sub,ab,col,dd,k0,k1,k2,k3,k5,X À e],.of_isNs (PySem.W.isNs_of_in X ok),λ n m=>PySem.W.nsMap_none_of_in X ok (hn n m)]
theorem ł3.Ć5 (e:yv) ÂE:SE h C P "ValueError" lO:=by
 let#[ãn,hN,hn]:=e.own.at X;let#[Åz,hN',hn']:=e.par.at X;exact#[ïU,(),Ô8,c,q,N,bs,sn,sub,ab,col,dd,k0,k1,k2,k3,k5,_,_,_,hC,hN,ÈZ,λ n m=>?_];have m':n∈iR:=by
  simp![KK,Op,Mq] at m ⊢;rcases m with m | m | m <;> simp[m]
 show#[hn n m',hn' n m']
end
def ř7 (e C vs:Addr):HO:=tU λ h=>Ō e=↑{ cls:=sD,data:=X3 }
def Ŀ8 (e C dx vs:Addr):HO:=tU λ h=>Ō e=↑{ cls:=sD,dict:=↑dx,data:=X3 }
section
variable {Ė}{fs:Ξ}{æ}{BB}{e dx:Addr}{φ ψ:AI}{fv:ü6}
def ó5 úk (hd:Ĩ<=dx) (k:∀ b o,IA->SV) (hψ:ψ h') (heo:∃ o,ι e=↑o)
  (st:ãQ) (hx:∃ mA,h'.Ns1 dx mA/\∀ f,nk (fv.lookup f) (mA f)):
  Un Ĺ4 (upd ώ4) rX/\yT P w (upd ώ4) h':=by
 have hn:ÀV:=zt.fresh hd;have up:∀ b,IA->b≠dx->upd ώ4 b=H b:=λ b a c=>by rw[zR a,zR c]
 ext èP
 have ux:∀ b o,Fz->b≠dx:=λ b o q=>FS (KE ÃV hd);have us:∀ b u,QQ->ąT->upd ώ4 b=↑u:=λ b u q n=>by
  rw[up b ąU ÛD];show q
 exact#[#[λ b o q n _ _=>k b o ÁW q,λ b o q n _ _=>#[Vf,k b o ÁW q],λ b o q n _=>by rw[up b ÁW (ux b o q)];show n,λ b o q _=>?_,ĎQ,ĉw,ëc],ÕK]
 .by_cases z:b=e
  .rw[z];show heo
  .show#[o,k b o z q]
 .by_cases z:a=e
  .subst z;ext Ε3;show#[hψ,heo,st]
  .rw[zR z] at q;by_cases z':a=dx
   .subst z';ext Ε3;show hx
   .rw[zR z'] at q;exact čr (λ b u hb c=>k b u ?_ c) èc;rcases hb with rfl | hb
    .show z
    .show Ÿ8 hb he ûy
def ç0 úk (hψ:ψ h) (st:ãQ):
  Un Ĺ4 (upd H ϲ6) h h/\yT P w (upd H ϲ6) h:=by
 ext èP
 have us:∀ b u,QQ->ąT->upd H ϲ6 b=↑u:=λ b u q n=>by
  rw[zR ąU];show q
 exact#[#[λ b o q n _ _=>q,λ b o q n _ _=>#[Vf,q],λ b o q n _=>by rw[zR ÁW];show n,λ b o q _=>#[o,q],ĎQ,ĉw,ëc],ÕK];by_cases z:a=e
 .subst z;ext Ε3;show#[hψ,(zt a _ he).2.1,st]
 .rw[zR z] at q;show čr (λ b u hb c=>c) èc
end
def ß3 Ï Ø1:TS:=λ D σ H=>∃ e C vs v c,σ[0]?=↑↑ Ϡ/\σ[1]?=↑↑v/\H e=↑(ř7 e C vs)/\eK uH/\
 ∀ dx,ÀV->dx≠e->D.nx σ (upd ðZ e (Ŀ8 e C dx vs))
def ā1 Ì{o Fg:Expr}J_{pos pos':Pos}(hf:Lu) (ho:PE X o (nY 0)) (hv:PE X Fg (nY 1)) (hs:ìl):
  PS X ðx (ß3 X.K f):=by
 ext DW;let#[e,C,vs,v,c,h0,h1,h2,bz,hq]:=h;exact ìP (zF (hv Ŋ (λ x H'=>x=v/\H'=H) I #[v,h1,rfl,rfl]) Cr) hs;let#[y,H1,I1,ry,ey,eH]:=z0;subst ey eH;exact zF (ho ph (λ x H'=>x=uG/\H'=H1) I1 #[_,h0,rfl,rfl]) Ĉm;let#[x,H2,I2,rx,ex,eH2]:=z0;subst ex eH2;obtain rfl:ov=đ e:=rx;let#[hh,g,d,t,os]:=s2;let#[ãn,hN,hn]:=ÛE SX;let#[Åz,hN',hn']:=hE.par.at SX;have hsa:("__setattr__":Str)∈iR:=∅;have h3:hh.get? e=↑{ cls:=sD,data:=X3 }:=(I2.zt e _ h2).1;exact ÿ2 PySem.F.store_ValueError hC hN ÈZ (hn _ hsa) (hn' _ hsa) êu h3 Ö E8 λ h' tk' z1 z2 z3=>?_;have dn:=I2.zt.fresh (zA4 hh.objs.size);let#[u',hok']:=ó5 (fs:=X.fs) (fv:=[(f,y)]) (ψ:=λ h=>Ō e=↑{ cls:=sD,dict:=↑hh.objs.size,data:=X3 }) I2.zt h2 Ķ z3 z1 #[_,z1] (ýz) #[_,z2,λ f'=>by
  by_cases hff:f'=f
  .subst hff;simp![IF,rO,tZ];show ry
  .have:(f' == f)=Á:=by exists hff
   simp![IF,this,List.lookup_nil,É hff]
   trivial]
 show#[σ,_,I2.un (t':=tk') u' hok',hq _ dn (vI h2 dn).symm]
def Ċ1 Ï Ø1:Sp:=λ vs H Q _=>∃ e C va v c,vs=[uG,v]/\H e=↑ ÏL/\eK uH/\∀ dx,ÀV->dx≠e->Q .zB (upd ðZ e ĉx)
structure o8 Ï â6 Pk U9:Prop where
 fl:Lu
 ex:∃ (C P N NP fI:Addr) (fd:pW),yv/\mg c=↑ IJ/\áe
structure gK Ø1 U9:Prop where
 sc:vq jJ jJ oj
 bd:∃ p1 p2 p3 p4,IP=[B_ [ű Ña f p2] (ć f p3) p4]/\∀ env:Env,tH (ć f p3) ↑(ű Ña f p2) p4.line env=su
 bn:∀ (x q:Str) Ŭ6,Æ5=2->ôw=pure ((jJ:Û).zip us)
theorem İ2 J_(h:Lu):(f == Tb)=Á/\(f == ËQ)=Á:=by
 ext Ąz;rcases h with rfl | rfl | rfl | rfl | rfl | rfl | rfl <;> show TX
def zax Ė Ý Ih PJ ϝ{fI:Addr}Sz(hf:Lu) (F:ÿW) (S:gK f st):
  wA Dt 1 fI fd jJ (Ċ1 K f):=by
 let#[p1,p2,p3,p4,hb,hs]:=S.bd;exact F.ok (k:=0) S.sc (λ vs H Q E #[e,C,va,v,c,h,_]=>čs) ìU;rw[hb];let#[e,C,va,v,c',h1,h2,h3,h4]:=h;subst h1;have vis:∀ x∈(jJ:Û),ň3 oj x:=λ x m=>(S.sc.par x m).elim È (λ z=>Æ (È z));show#[_,ζ8 (ā1 hf (ź6 0 ďd) (ź6 1 ďd (İ2 hf).1 (İ2 hf).2) (hs _)),e,C,va,v,c',rfl,rfl,h2,h3,h4]
def ã9 Ý Ĝ{N:Addr}RA{n:Str}CN ÂE (G:h.Ns N mg) (e:ŋ K N n=↑↑v):mg n=↑v:=by
 let#[o,es,ep,ho,hd,_,hf]:=G;unfold ŋ at e;ext Ĥ
 .rename_i c d es' n' sl q;have:=X À q;rw[ho] at this;ext Bu;cases hd;ext Ĥ
  .rename_i en he;cases e;rw[<- hf];unfold nsFind findBy;rw[<- üW,he];rfl
  .split at e <;> cases e
 .cases e
def XP î ŝ0 ÄN AQ Ť0 đ4 F_:Prop:=
 ∃ e A7 σ' H',v=uG/\(fl=true->A7=gV/\σ'=σ)/\Inv X A7 QF/\i8 H' e/\((fl=Á/\ķ0 GN e)\/Ög)/\Q e H'
def Ē1 Ï Pk (x:V) FV (H':Hp):Prop:=∃ C dx,eK uH/\H' e=↑ Öh/\Xd H' f x dx
def wp_raise Ì PJ ϝ ė Dy{p pos rpos:Pos}Ĵ Kr{R:Þh}
  (G:o8 LA c f st) (S:gK f st) (hr:yg 2 X.A) ĺ Ñ2 (hg:Gl X c) (hdb:(c == Tb)=Á) Ŏ8
  (hs:Ql) ϟ8
  ς6(hW:∀ v s',XP Fy Á σ Q v s'->μ1) Ú (h:te ç λ x H1=>Çs):
  Ä Ā (exec (.Raise ↑(Ă (ć c p) [e] sy) none rpos) Ù) R W s:=by
 let#[C,P,N,NP,fI,fd,hE,hm,hk,hi,hfn,F]:=G.ex;let#[#[q,bs,sn,sub,ab,col,dd,k0,k1,k2,k3,k5,lk],_,_]:=id hE.own;rw[arm_exec_Raise];exact AC (zj1 (Č8 (C:=C) (nm:=c) (q:=q) (N:=N) (bs:=bs) (bm:=Wv) (hdct:=true) (sn:=sn) (sub:=sub) (ab:=ab) (col:=col) (dd:=dd) (k0:=k0) (k1:=k1) (k2:=k2) (k3:=k3) (k5:=k5) (DU:="ValueError.__new__")
  (by rw[Of,show lO.contains Kf=true from by decide,zg4]) ö6 (AC (EQ ?_ (λ v s₃ h₃=>AC (zj1 (AT h₃))) XH))))
 exact Z_;have ha:PA ĊY:=lZ he kG hs;exact Qp Rj hk (EQ (ha pos Ŋ (λ vs H1=>match vs with
  | [x]=>Çs
  | _=>ê) I h) (ĉy) Ag) hs hpl
 let#[vs,H1,I1,r,q]:=z0;exact#[G3,?_];obtain⟨x,rfl,q⟩:∃ x,vs=[x]/\Çs:=by
  cases vs with
  | nil=>show de
  | cons x l=>
   cases l with
   | nil=>show#[x,rfl,q]
   | cons _ _=>show de
 obtain⟨u,rfl,r1⟩:ÎO:=by
  cases r with
  | cons r1 r2=>
   cases r2;show ĄW
 ext þv;have hC:=G3 À lk;let#[_,hN,hnn]:=ÛE G3;ext ðn;have hfI:∃ oI,hh.get? fI=↑oI/\oI.cls=Òb:=by
  let#[oc,od,_,_,_,_,_,_,osl,_,lf,_]:=F.ex;have z:=KA hfn;simp![Ĉl,lf,xn] at z;show#[_,G3 À lf,KB z]
 let#[oI,hfI,hfc]:=hfI;have T:OwnTail hh lO (Wv):=ì hP hN' (PySem.W.ns_none_of G3 hN' hE.Ey) .base;exact Ã4 PySem.F.excBase_ValueError T hC hN (ã9 G3 hN hi) hfI hfc (λ h' e hle M=>?_) (by change 1<=â;decide);let#[va,m1,m2,m3]:=M.there;have I2:Inv Č ĉz Ëu:=Ãk (t':=t) M.keeps hle #[m1,#[_,m1],ýz];have en:H1 e=none:=jk hle;have r2:Vals [ES e,x] [đ e,u]:=ã rfl ÕJ;have F2:=zax ćg (mg:=X.mg) (base:=pB) G.fl F S;exact RT (û5 (F2.run _ sS À #[[uG,u],[]] [uG,u] [uG,x] (λ v H2=>v=.zB/\∃ dx,upd H1 e ÏL dx=none/\dx≠e/\H2=upd (upd ĉz dx (.xd [(f,x)])) e ĉx) E0 ((hr.make C [u] []).mono ()) (I2.aW.make C [u] [])
  (F.binds (ps:=jJ) (S.bn À) À SX rfl) r2 #[e,C,va,x,c,rfl,yy,bz,λ dx n ne=>#[rfl,dx,n,ne,rfl]]) Ĉp)
 cases r with
 | Aq e=>show hq'.elim
 | ok fl=>
  cases fl with
  | ret u'=>
   let#[v,H',I3,rv,ev,dx,n,ne,eH]:=Ýb hq';subst ev eH;have g3:=(I3.zt e _ yy).1;let#[u3,ş6]:=ç0 (fs:=X.fs) (ψ:=λ h=>∃ oe vs,KI/\S7/\RM=↑dx/\KO) I3.zt yy #[_,_,g3,rfl,rfl,rfl] (λ h1 h2 #[oe,vs,a,b] k=>#[oe,vs,k _ a,b]);have I4:=I3.un (t':=Ãs) u3 ş6;exact#[rv,e,↑dx,va,_,rfl,I3.yV À lk,g3,hW À #[e,gV,σ,_,rfl,Lg,I4,#[C,↑dx,yy],È #[rfl,_,_,_,g3,rfl,rfl,rfl],q e _ (λ b o z=>?_) #[C,↑dx,bz,yy,show _=_ by rw[zR ne,zR ne,yy]]]];have b1:IA:=λ y=>by rw[y,en] at z;cases z
   have b2:b≠dx:=λ y=>by rw[<- y,zR b1,z] at n;cases n
   rw[zR b1,zR b1,zR b2,zR b1];show z
  | _=>show rQ hq'
def Un.out {fs:Ξ}{L:Addr}{H H1 H2:Hp}{h h1 h2:Heap}(a:Un Ĺ4 H1 h h1) (b:Un (L::fs) [] H1 H2 Ŭ) (hL:Ō L=none):Un Ĺ4 H2 h h2 where
 keep:=λ c o q n hc hx=>b.keep c o (a.keep c o q n hc hx) Ía (λ z=>(ķ z).elim (λ y=>by rw[y,hL] at q;cases q) hc) hx
 slot:=λ c o q n hc hx=>by
  let#[sl,e]:=a.slot c o q n hc hx;let#[sl',e']:=b.slot c _ e Ía (Da _ hc) hx;show#[sl',e']
 free:=λ c o q n hx=>by
  ext üj;show b.free c o' e Ía hx
 pU:=λ c o q hx=>by
  ext üj;show b.there c o' e hx
 mM:=λ c xs q=>b.mM c xs (a.mM c xs q)
 lL:=λ c o xs q=>b.lL c o xs (a.lL c o xs q)
 lX:=λ c ps q=>by
  let#[m1,e1]:=a.lX c ps q;let#[m2,e2]:=b.lX c _ e1;show èj
def Ń8 u9 Ċ:l9:=λ ġ H s E v s'=>∃ e H',v=uG/\Øs/\Ϡ8/\ðJ/\Če/\i8 H' e/\Ög/\E v none H'
def wA.never Ė Ý Ih ý Iq Ĳ WX(F:wA Ê Ϲ9 ÂS):
  wA Dt k A8 (λ vs H Q _=>sp vs H Q M9):=
 #[λ vs H Q E h=>F.len ĉ h,λ A ġ s H args us vs Q E hr he hb hv hs=>û5 (F.run ĊN _ hr he hb hv hs) λ r s' hq=>by
  cases r with
  | Aq e=>
   let#[_,_,_,_,_,_,_,_,_,z]:=hq;show B7
  | ok fl=>cases fl <;> show hq]
section
variable {Ì}{ý}{Iq}{Ĳ}{WX}{ā}{p pos:Pos}{ė}{Ń}{t:TA}{Ĵ}{Ud}{Qx:O_}{fl:Bool}
def ď2 (F:wA En (Ń8 η) ÂS) ν ϙ ÈD (hb:Binds X.K fd ps []) Ñ2
  iK uJ BC
  ς6(hW:∀ v s',XP Fy fl σ Qx v s'->μ1) Ú (h:t ç λ vs H1=>sp vs H1 Q λ v _ H'=>∃ a,qe/\Qx a H'):
  Ä Ā (eval χ7 Ù) ϻ9 W s:=by
 exact Z_;exact Qp Rj hk (EQ Ϯ3 (Çh) Ag) BK;have hl:Š3:=by rw[<- ϗ];show F.len ĉ q
 have hbd:=hb s1 us G3 ĄH;rw[IR] at hbd;exact RT (û5 (F.run ÄS s1 H1 ę1 us vs Q _ hr I1.aW hbd r q) Ϧ4);cases r with
 | Aq v=>
  let#[a,H',rfl,os,bare,un,zt,ie,f1,a',ea,z]:=hq;cases ea;show hW À #[a,gV,σ,H',rfl,λ _=>Dj,I1.Ū2 óJ,ie,Æ f1,z]
 | ok fl=>
  cases fl with
  | ret u=>show I1.after hq
  | _=>show rQ hq
end
abbrev ah î FV:Cx:={ X with A:=X.A.mark ↑ Ϡ,calm:=Á }
section
variable {Ì}{u6}{σ σ':St}{BP}{s s':θ}{SH}
def ň6 Ú FV:Inv (ah X e) gV ç s:=
 #[#[Ι5,rS,ϭ9,Áv,Vk,Áu,Át,I.ok.fX,Lg,mG,I.ok.eT,I.ok.aU,I.ok.bs,Ο2,Ο1,Ãd,I.ok.lj,Ãc],I.os,Cf,ε6,ET,Oo,se,I.mC,pO,I.zt,MM]
def zar Ú (J:Inv (ah X e) gV QF):Ay:=áW
def ñ8 q8{n c:Str}xi úl Χ6{Qx:O_}Ñ2 Ha
  (hg:ÿX) Aa (hi:Vt=↑n) (hin:Nq n=↑ uI) (hj:X.N[j]?=↑c) èU (hij:vK)
  Åw
  Ú (hb:Ä Ā (execs body Ù) QG (XP Fy true σ Qx) s)
  (hx:∀ a H',Qx a H'->(∃ cn C dx,eK X.K cn C/\H' a=↑(jF a C dx))/\∀ T,H' T=none->D.nx (((σ.set i ↑ ĳ).set j ↑ ĳ).set EM) ËR):
  Ä Ā (exec àm Ù) QG Ï1:=by
 exact wpAny_Try_except (EQ hb (λ f s₁ q=>?_) λ v s₁ z0=>?_)
 .cases f with
  | next=>show Uf q
  | _=>show q
 let#[a,A7,σ',H1,ev,es,I1,ie,fly,q]:=z0;ext úB;let#[#[cn,C,dx,bz,hEo],q]:=hx a H1 q;have f1:=ùD;exact Ä8 I1 Ş9 ie f1 λ h' T hT un zt f2=>?_;have I2:Inv úm { s₁ with heap:=h' }:=I1.call äz un zt ϲ7;have hEo2:upd H1 Ę8 a=↑(jF a C dx):=by rw[zR (vI hEo hT)];show hEo
 let#[#[qn,bs,sn,sub,ab,col,dd,k0,k1,k2,k3,k5,lk],_,_]:=id hE.own;let#[#[q',bs',sn',sub',ab',col',dd',l0,l1,l2,l3,l5,lp],_,_]:=id hE.par;have mP:X.mg "PurseError"=↑ NI:=N8 I.ok.mod.jl I.ok.mod.glob hE.Y1;have aoe:∃ oe,ι a=↑oe/\S7:=by
  let#[#[oe,vs,z1,z2,_],_]:=I2.zt a _ hEo2;show#[oe,z1,z2]
 exact Ċ8 (bm:=Wv) (bm':=lO) () (by rw[Of];simp) (j_ (X:=ah X a) (ň6 I2 a) hg mP #[rfl,SX À lk,SX À lp,aoe,?_]);exact ř8 I2 #[C,dx,hEo2] f2 λ h2 un2 hok2 _=>?_;have I3:Inv úm { s₁ with heap:=h2 }:=ÜP (s:={ s₁ with heap:=h' }) äz I2 un2 hok2 ϲ7;exact bj I3 hN hi (È hin) (v:=œ) rfl (λ s4 I4=>?_) (Æ hin);have st:=ζ8 (ş8 (X:=ah X a) (i:=j) (pos:=p4) (pos':=p2) hN hj hxj (ź6 (X:=ah X a) i (pos:=p3) hi (È hin) hnd hnc) hsw hfj);have hl:i < σ'.length:=by rw[I1.len];show Øq
 exact EQ (st A7 s4 À { nx:=fun σ2 H2=>σ2=(σ'.set i ↑ ĳ).set j ↑ ĳ/\H2=upd H1 Ę8,rt:=uW } (ň6 I4 a) #[œ,by rw[zhO hl],rfl,rfl]) (λ fl s5 q5=>?_) Ag;cases fl with
 | next=>
  let#[σ5,H5,I5,rfl,rfl]:=q5;show zaS (zar I I5) hN hi hin λ s6 I6=>#[_,_,I6,q T hT]
 | ret _=>let#[_,_,_,_,_,z]:=q5;show B7
 | _=>let#[_,_,_,z]:=q5;show B7
end
def mj:ÃL
 | FW=>true
 | _=>Á
def ko Ï ô (R:VK) Ť0:DK:=λ d S'=>(Τ8->o6 Ò R ύ)/\(MT->∀ a H',zA ό d ĳ->Ew->LO->Q a H')
theorem ko.ext Ý BP{R:VK}Kr uq û è(h:ko Ò R Ħ6):ko ό R Ħ6:=#[λ z=>Oc e (h.1 z),λ z a H2 r x q=>h.2 z a H2 r ÔJ]
def kS Ï ô Rw Ť0:jG:=#[oJ Ò D.nx,ko Ò D.rt Q,oJ Ò D.bk,oJ Ò D.ct]
theorem kS.ext Ý BP Χ6 Kr uq:(ÛF).Le (kS ό D Q):=#[Pj,λ _ _ h=>ko.ext e h,Pj,Pj]
def Ε0 Ï ö2 Ť0:TS:=λ D σ H=>∃ L S,G4/\Ϝ/\t (ÛF) L S
def Č1 î Ť0 đ4 F_:Prop:=∃ e gV σ H T fl,v=uG/\Inv Č sf s'/\Ϻ7/\i8 H e/\gL fl GN sf e/\Q e H/\Q e sf
structure ζ1 î Ka ÄN Ť0 (W:zVP):Prop where
 xp:∀ v s',XP Fy fl σ Q v s'->μ1
 own:fl=Á->PassesOwn Ā Ù W
 nt:fl=Á->ïV
def ζ1.any Ì{gV A7:zLA}{σ σ':St}Kr ς6(h:ζ1 Č Á Q W):ζ1 X A7 σ' Á Q W:=
 #[λ v s' z0=>(by let#[e,p,q,H',h1,_,h3]:=z0;show h.xp v s' #[e,p,q,H',h1,Lg,h3]),h.own,h.nt]
structure yb î ÄN U9 ö2:Prop where
 mo:lS t
 px:∀ gV s σ H D Q W,Ôm->ŉ->čt->Ä Āz W s
structure xU î ÄN (sts:Å3) ö2:Prop where
 mo:lS t
 px:∀ gV s σ H D Q W,Ôm->ŉ->čt->Ä Ā (execs sts Ù) QG W s
section
variable {Ì}{fl:Bool}{ϝ}{Qc}{Ω6}{Ē}{ė}{ŝ}
def Ó3 Úf (ht:∀ E L S,Ãv->t { E with rt:=uW } L S) Ñ2:yb X fl st t:=by
 exact#[h.mo,λ gV s σ H D Q W hW I z0=>by ext EI;show EQ (h.ps Ŋ D I #[L,S,r1,r2,h.mo { Ùw with rt:=uW } _ L S #[ϕ,Xy,ϕ,ϕ] (ht _ L S z)]) (ϕ) Ag]
def Ó5:xU X fl [] Ŝ0:=#[òZ,λ gV s σ H D Q W hW I z0=>by ext EI;show Uf #[σ,H,I,z ç r1 v_]]
def Ĕ2 (h:yb X fl st t):xU X fl [st] t:=#[h.mo,λ gV s σ H D Q W hW I hu=>by
 exact zj8 (zF (h.px Ŋ D Q W hW I hu) ż1);cases f with
 | next=>show Uf q
 | ret v=>show q
 | brk=>show q
 | cont=>show q]
def ŧ2 (h:yb X Á st t) (h':xU X Á rest u):xU X Á Øv ÁC:=#[Ĉx,λ gV s σ H D Q W hW I õH=>by
 exact zj8 (zF (h.px Ŋ { D with nx:=Ε0 X.K u Q D } Q W hW I #[L,S,r1,r2,h.mo { Ùw with nx:=u (Ùw) } _ L S #[fun L' S' q σ' H' q1 q2 q3=>#[L',S',q1,q3,Af À OQ (kS.ext q2) q],ϕ,ϕ,ϕ] z]) ż1);cases f with
 | next=>
  ext ća;show h'.px gP Ig D Q W hW.any I' q
 | ret v=>show q
 | brk=>show q
 | cont=>show q]
def ß0 JY{p q:Å3}ğ2 ßu (h:xU X fl p t) (h':xU X fl q u) Ñ2:yb X fl ĀH:=by
 exact#[ÅS,da];ext EI;exact wpAny_If (EQ (hc.pt Ŋ (λ k H1=>if C1 then Ε0 ä3 Q D Ş else Ε0 X.K u Q D Ş) I (ÌU)) (λ k s1 Ïr=>?_) Ag)
 .show#[L,S1,DA,p1,h.mo þw]
 .show#[L,S1,DA,p1,Af þw]
 .cases k with
  | true=>show h.px ďe
  | Á=>show h'.px ďe
def Ŏ2 Fw:yK:=λ E L S=>te L S λ d S1=>Τ8/\E.rt d S1
def Ď2 rZ Ñ2:yb X fl Íx (Ŏ2 te):=by
 exact#[λ E E' L S hE z=>El ó (λ _ _ q=>#[q.1,QA À q.2]) z,da];ext EI;show þY (EQ (sL Ŋ D.rt I (Ģ Θ5 λ x S1 v H1 h1 q1 e1 p1=>h1.2.1 pV v H1 q1 G8)) (λ v s1 z0=>by ext î7;show îg) Ag)
def Ext.same BP(e:ū7 H H'):Ew:=áu
def Ř3 Pk Fw:yK:=λ E L S=>te L S λ d S1=>E.rt (Ûa) S1
def Ā0 PJ{si:Stmt}{p cpos:Pos}ý(G:ču) (Sh:gK f si) ν rZ ćr ĺ èG Ñ2:
  yb X Á (.Raise öD pos) (Ř3 c f te):=by
 exact#[æm,da];ext EI;exact wp_raise G Sh X4 hc hn hg hdb π3 hpl hW.xp I (Ģ Θ5 λ x S1 v H1 h1 q1 e1 p1 a H' sm z0=>?_);let#[C,dx,hE,h2,h3]:=z0;exact Iv rfl a H' ?_ (ð2 (.same sm)) (p1.same sm);ext EN;show#[a,C,dx,v,rfl,ÏM,DX (.same sm) x q1]
end
def μ4 Ï ë5:Sp:=λ vs H Q E=>∃ ds S,Õz/\Ϝ/\sp ds S (ko Ò Q λ a H'=>E ĳ none H')
structure wH u9 Ċ Ï Û2 ĩ Đ É9 ë5:Prop where
 ex:∃ (f:Addr) (fd:pW),íO/\ČB
 mo:Hw
def du ë5:wt:=λ ds S Q=>sp ds S λ d S'=>Τ8/\Q ύ
def du.mo ā2(h:Hw):ν4 (du sp):=λ ds S Q Q' hq z=>h ds S À (λ d S' q=>#[q.1,hq À q.2]) z
theorem wH.fd Ė Ý Ih ā ý Ĳ ā2(F:wH Ê x Ā3):FD Ág (du sp):=by
 ext îa
section
variable {Ì}{fl:Bool}{pos cpos p:Pos}{ė}{Ń}{υ}{ā}{ý}{Ĳ}{ā2}
def î9 u6 Λ Υ æ Kr ς6{R:DK}{RV:VK}xr è(F:wH En x Ā3) ν È5 ϙ ÈF Ñ2 (hW:Ôm) Ú (r1:xJ ŏ L σ) (r2:ye ŏ S)
  (z:tA L S λ ds S1=>sp ds S1 R) (hR:∀ d S',R ύ->ko ŏ RV Q ύ):
  Ä Ā (eval ÏN Ù) (EP Č RV) W s:=by
 ext Èe;exact ď2 (Qx:=Q) îB hn Ek hdb BK hW.xp I (O6 ĝ OV λ ds S1 xs H1 z1 q1 e1 p1=>#[ds,S1,q1,p1,hm Mt ĉA z1]);have q':=ko.ext e1 (hR ύ q);show ãJ
def ı2 Ü ë5 (tA:yw):yK:=λ E L S=>tA L S λ ds S1=>sp ds S1 λ d S2=>ĂX/\(Τ8->E.nx (N5) S2)
variable (F:wH En x Ā3)
include F
theorem Ġ4 {k' i:Nat}ô3{py:Pos}Aa VG È5 (hi:Vt=↑y) (hx:Loc NZ y) (hf:ϗ0) ĳ9 ϙ ÈF Ñ2 (hs:tH ÏN ↑(Jd) U_=su):
  yb X fl (B_ [Jd] ÏN pos) (ı2 i sp tA):=by
 exact#[λ E E' L S hE z=>ĝ ó (λ ds S1 z=>F.mo Mt ãU z) z,da];ext EI;exact ÿa (zF (î9 (RV:=λ v H'=>D.nx ϗ3 H') ÍS hn hW I OV λ d S' q=>#[λ y v H' a1 a2 a3=>q.2 y _ H' ((Ş5 a2).set i a1) a2 a3,ĂY]) LC) hs;let#[x,H1,I1,r,q1]:=z0;show bj I1 Ś5 r ík
end
section
variable {Ė}{Ý}{Ih}
def fnX Β2 ϝ Iq Jp ý âH
  (Ŕ:∀ Ð5,bW->
   ∃ t,čv/\ôf):
  wA Ê Ϲ9 ŕ A8 (μ4 K sp):=by
 ext Æg;exact Ĵ7 lk hcd Sc (λ vs H Q E #[ds,S,r1,_,z]=>by rw[<- ϻ6];show len Ð z) λ A ġ s H vs Q E hr hsp=>#[λ D σ H'=>D={ nx:=Ëk,rt:=Q }/\σ=F7 N vs/\H'=H,λ gV s1 σ H' D I #[e1,e2,e3]=>?_,rfl,rfl,rfl];subst e1 e2 e3;let#[t,hp,ht]:=Ŕ cdv A ġ s H' E hr;let#[ds,S,r1,r2,z]:=hsp;have cv:∀ u6{σ':St}{H'':Hp}{s':θ},Inv (Ñb).xN gV σ' H'' s'->Inv (ąV) gV σ' H'' s':=λ J=>
  áW
 have ok0:(Ñb).xN.Ok:=#[Ι5,rS,ϭ9,Áv,Vk,Áu,Át,I.ok.fX,I.ok.hd,mG,I.ok.eT,I.ok.aU,I.ok.bs,Ο2,Ο1,Ãd,I.ok.lj,Ãc];have I0:Inv (Ñb).xN gV VV H' s1:=#[ok0,I.os,Cf,ε6,ET,Oo,se,I.mC,pO,I.zt,MM];exact EQ (hp.px gP VV H' { nx:=Ëk,rt:=Q } (λ e H2=>∀ T,H2 T=none->E Ϡ none (upd H2 Ę8)) (ąV).xe #[čw,λ _=>PassesOwn.leaving,λ _ v s' z0=>?_] I0
  #[ś4,S,xJ.init r1,r2,hp.mo { nx:=λ _ S'=>ko ό Q (ùb) .zB S',rt:=ko ό Q ùb } À S #[fun L S' q σ2 H2 a1 a2 a3=>q.1 rfl .zB H2 rfl a2 a3,λ d S' q=>#[q.1,λ y a H2 a1 a2 a3 T hT=>?_],Xy,Xy] (ht ds S _ z)]) (λ fl s' q=>?_) Β
 .let#[e,A7,σ',H2,ev,_,J,ie,hf,q]:=z0;subst ev;have J':=cv J;exact Ŏ7 J' Ö ie (hf.imp And.right λ z=>#[_,čo,z]) λ h' T hT un zt f1=>?_;let#[C,dx,hE]:=ie;show#[e,_,rfl,J'.os,J'.bare,ÉZ,zt,#[C,dx,úG],f1,q T hT]
 .let#[e,A7,σ',H2,T,fl,ev,J,hT,#[C,dx,hE],hf,q1,q2]:=z0;subst ev;have J':=cv J;have hE2:upd H2 Ę8 e=↑ Öh:=úG
  by_cases hl:fl=Ck Õ
  .subst hl;exact â1 J' rfl ÏO hf λ h' un zt f1=>?_;show#[e,_,rfl,J'.os,J'.bare,ÉZ,zt,ÏO,f1,q1 T hT]
  .exact Ŏ7 J' Ö ÏO (Æ #[fl,ED hl,hf]) λ h' T' hT' un zt f1=>?_;show#[e,_,rfl,J'.os,J'.bare,ÉZ,zt,#[C,dx,by rw[zR (vI hE2 hT')];show hE2],f1,q2 T' hT']
 .have xT:Ext H2 (upd H2 Ę8):=Mu hT _;show q.2 y a _ (DX xT d a1) ďf
 .cases fl with
  | ret u=>let#[v,σ',H',J,r,q]:=q;show#[v,σ',H',cv J,r,q]
  | _=>let#[σ',H',J,q]:=q;show#[σ',H',cv J,q]
end
def xJ.hole Ý æ xr Υ Ü (r:G4):xJ Ò (L.set EM) (σ.set EM):=by
 ext èN
 .subst hj;rw[ĭ] at hc;split at hc <;> cases hc
 ext þO
def ĵ5 AJ ö2:yK:=λ E L S=>t æE L S
def ē2 Ì{t:yK}AJ {n c:Str}xi úl Aa (hb:Ąq) (hij:vK) îE
  âa
  Åw
  Ha Ñ2:
  ûz:=by
 exact#[λ E E' L S hE z=>đ0 æE #[E'.nx,λ d S'=>MT/\E'.nx ϊ7,uW,uW] L S #[sH,λ d S' q=>#[q.1,sH À q.2],ϕ,ϕ] z,λ gV s σ H D I z0=>?_];ext EI;exact ñ8 (Qx:=λ a H'=>∃ d S',MT/\zA X.K H' d ĳ/\Ew/\ye X.K H' S'/\Þl ϊ7) hn Ş9 hg hN hi hin hj hxj hfj hij hnd hnc hsw I
  (hb.px Ŋ D À #[ϕ,Lg,Lg] I #[L,S,r1,r2,đ0 #[Þl,λ d S'=>MT/\Þl ϊ7,uW,uW] _ L S #[ϕ,λ d S' q=>#[λ y=>?_,λ y a H' a1 a2 a3=>#[d,S',y,a1,a2,a3,q.2]],Xy,Xy] z]) λ a H' #[d,S',hd,a1,a2,a3,q]=>#[?_,λ T hT=>?_]
 .rw[q.1] at y;cases y
 .cases d with
  | err cn f x=>
   let#[e,C,dx,w,e1,ϡ7,_]:=a1;cases e1;show#[cn,C,dx,h1,h2]
  | _=>cases hd
 .ext Ąv;have rd:=DX xT d a1;show q À ((((Ş5 ôx).set i rd).set j rd).hole i) ďf
end L3
namespace L5
open Ë å L2 L3
open Ô hiding St
def xG:Jk
 | FW=>true
 | _=>Á
@[simp] theorem zff Pk Ť:xG (Ûl)=true:=rfl
@[simp] theorem zfc:xG .zB=Á:=rfl
@[simp] theorem zfh Ed:xG Cu=Á:=rfl
@[simp] theorem zfe (b:Int):xG vD=Á:=rfl
@[simp] theorem zfb (b:Str):xG (qX)=Á:=rfl
@[simp] theorem zfa (b:ö):xG (Î b)=Á:=rfl
@[simp] theorem zfd (b:ö):xG (Å b)=Á:=rfl
@[simp] theorem zfg (k:dD) (b:ö):xG (.zE k b)=Á:=rfl
def jh è Ŀ û(h:Sn S y d):mj d=xG y:=by
 cases y with
 | tup _=>ext ϓ5;subst h;rfl
 | lst _=>
  obtain⟨_,h | ⟨_,h,_⟩,_⟩:=h
  .rw[h.1];rfl
  .subst h;rfl
 | zE _ _=>ext K0;let#[_,_,#[h,_],_]:=h;subst h;rfl
 | err _ _ _=>ext ϓ5;subst h;rfl
 | _=>ext K0;subst h;rfl
def ŀ8 Ŀ(h:JS):ÒA:=λ ts e=>by subst e;cases h
@[simp] def Ŵ1 Pk Ť1:Sm:=fun Y=>(g Y).map λ y=>.rt (A6 c f y)
@[simp] def dg Ť1:Sm:=fun Y=>Ci λ y=>if JS then none else ↑ qw
@[simp] def ű7 Ü Ip đ6:Sm:=fun Y=>Ci λ ys=>(F ys).map λ y=>if JS then WK else Τ1
@[simp] def bg AJ (g:Sm):Sm:=fun Y=>Ci λ o=>match o with
 | YX=>↑ tq
 | WK=>if JS then ↑ èR else none
 | _=>none
@[simp] def Ż7 Ip:zLO:=λ ys=>ÕM λ y=>if JS then none else ↑y
section
variable {ę}{g h:Sm}{t:yK}{Ĉ}{ŝ}{S0 S:SS}{ÄJ}{xr}{ß}
def ć9 IT {c x:Str}Mw:zQ R (Ŵ1 c x f) (Ř3 c x te):=λ S0 Z0 S Z L Y o E F e P=>by
 ext X0;exact hf Ν5 λ d S1 s1 r1=>P _ S1 (Ϸ6 s1) (EV E8 ?_);ext â8;show#[d,rfl,BH Ûp y r1]
def Ö5 C6 (hf:zI R f te):zQ R (dg f) (Ŏ2 te):=λ S0 Z0 S Z L Y o E F e P=>by
 ext Ph;ext Ů
 ext Ż
 .rename_i hy;cases e2;show hf Ν5 λ d S1 s1 r1=>#[by rw[jh (Sr.sn r1)];simpa using hy,çB]
def zds ÔQ Å9 Ģ5 (o:Out) (E:jG):Prop:=match o with
 | YX=>∀ S' Z' L',FR CV Θ0 Y'->E.nx OQ
 | WK=>JS->∀ d S',sv->Xk->E.rt ύ
 | _=>True
def vh (g:Sm) ö2:Prop:=∀ S0 Z0 S Z L Y o E,CI->g Y=↑o->zds Oi o E->Ãv
theorem vh.s IT (h:vh g t):Ap:=λ S0 Z0 S Z L Y o E F e P=>by
 exact h Jj o E F e ?_;cases o with
 | nx Y'=>show P
 | rt y=>show λ hy d S' s r=>P ύ (Ϸ6 s) (EV (ŀ8 hy) (BH Ûp y r))
 | _=>trivial
def ī2 C6 Ü GS{ga:Ϗ}{ua:yw}(h:j9 ga ua):vh (ű7 i F ga) (ı2 i A3 ua):=λ S0 Z0 S Z L Y o E Fr e P=>by
 ext än;let#[y,e3,rfl]:=Na;exact h Ţ ys _ Fr.er e1 λ ds S1 s1 r1=>#[Z,ys,y,(Fr.er.grow s1).zd,r1,e3,êh]
 .rw[jh Ϸ7] at he;rw[Ç he] at P;show P he d Ϝ9 Ϸ7
 .rw[jh Ϸ7] at he;rw[õI] at P;show P S2 Z _ ((Fr.grow (Cs)).jP i Ϸ7)
def FR.hole ď3 Ü (v:õ D):FR Oi (L.set i v) (ÃJ):=by
 exact Åq
 .ext qz
  .cases e
  .rw[qV];show ϧ0
 .ext qz
  .cases e
  .rw[qV];show Ùi
 .ext qz
  .cases e
  .rw[qV] at e';show ÎX
 .ext Xx
  .cases e
  ext ϊ6
  .cases e
  ext ÌK;show ÈW
def Ý6 AJ (hg:vh g t):zQ R (bg i j g) (ĵ5 i j t):=λ S0 Z0 S Z L Y o E F e P=>by
 let#[o1,e1,e2]:=ŗ;exact hg Jj o1 _ F e1 ?_;cases o1 with
 | nx Y'=>ext Åh
 | rt y=>
  dsimp only at e2 ⊢;ext Ů
  .rename_i hy;cases e2;show λ _ d S' s r=>#[by rw[jh r];show hy,P S' Z _ ((((F.grow s).hole i ↑d).jP j r).hole EM)]
  ext Ż
 | _=>trivial
end
section
variable {Ė}{Ý}{Ih}{ā}{ϝ}
def fd7 ę qD Ĩ8(F:ż8) Åo
  (Ŕ:∀ Ö8 Ð5,ÇM->
   ∃ t,xU Þm Á Jg/\Ap):wH Ν6:=by
 ext ďb;exact#[#[f,fd,fnX ÆH,hm,F.kp,ϵ3],Qs];ext Ìd;show ώ1
def wH.no ę C6 ý Ĳ GS(G:wH Ág A3):FD Ág čx:=by
 let#[ÉK,hm]:=G.fd;ext áo
 .cases b2
 ext āH
end
end L5
namespace L3
open Ë å L2
open Ô hiding St
structure SU Ï (cn:Str) (D:Addr):Prop where
 top:ŋ ζ cn=↑↑ sY
 own:∃ bm N,gH K cn D bm N
def Ô0 ξ7:õ Str:=match Pg with
 | Ρ5=>↑cd.name
 | _=>none
def gH.nm Ý Ļ7 ÂI{bm:zLV}(h:Òh):(Hv C).bind Ô0=↑c:=by
 let#[ão,_]:=h;rw[e];rfl
def zap Ý{c cn:Str}{C P N NP D:Addr}(E:yv) (G:ÛG):óq=(ÈM):=by
 let#[bm,N',g]:=G.own;by_cases h1:cn=c
 .subst h1;have:=ĂZ E.top;ext Bu;simp
 .by_cases h2:ąW
  .subst h2;have:=ĂZ E.Y1;ext Bu;simp
  .have d1:D≠C:=λ z=>by
    subst z;have:=ąX E.own.nm;ext Bu;show h1 rfl
   have d2:D≠P:=λ z=>by
    subst z;have:=ąX E.par.nm;ext Bu;show h2 rfl
   have b1:(đ D == đ C)=Á:=by exists d1
   have b2:(đ D == đ P)=Á:=by exists d2
   rw[Of,Of,b1,b2,FM h1,FM h2];rfl
inductive Wr Ï ď0:V->Bool->Prop where
 | own {cn:Str}{D:Addr}(g:ÛG):Wr K c sY (ÈM)
 | val:Wr K c (ăa) true
theorem zcO Ì:wI X Îe (λ xs H Q=>∃ e C dx c k b,xs=[uG,k]/\ϙ5/\eK X.K c C/\Wr X.K c k b/\Q Cu H):=by
 ext Hh;let#[e,C,dx,c,k,b,rfl,h1,#[P,N,NP,h2],h3,q]:=h;cases r with
 | cons ra rb=>
 cases rb with
 | cons rb rc=>
 cases rc;rename_i u1 u2;obtain rfl:u1=đ e:=ra;ext ĀD;let#[ìt,_]:=I.zt e _ h1;cases h3 with
 | @own cn D G=>
  obtain rfl:u2=đ D:=rb;let#[bm,N',o]:=id G.own;let#[#[q1,bs,sn,sub,ab,col,dd,k0,k1,k2,k3,k5,hD],_]:=o.at I.yV;exact Ţ3 (b:=óq) (λ prog w A Q' E hq=>Ë6 Ąb hD Ö hq) λ t'=>#[Fj,H,I.tok t',rfl,?_];rw[zap h2 G];show q
 | val=>
  obtain rfl:u2=sU "ValueError":=rb;show Ţ3 (b:=true) (λ prog w A Q' E hq=>ď9 (T:="ValueError") Ąb Ji hq) λ t'=>#[Fj,H,I.tok t',rfl,q]
def Ψ5 (k:Ζ2) Fw:zr:=fun L S Q=>te L S λ x S1=>match x with
 | A6 c À=>Q (.bl (k c)) S1
 | _=>ê
def Ĵ5 Ø1 Fw:zr:=fun L S Q=>te L S λ x S1=>match x with
 | A6 _ f' d=>f'=f/\Q d S1
 | _=>ê
section
variable {Ì}{ė}{ŝ}{p q pos:Pos}
def ĩ3 {cn:Str}{V0:V}{k:Ζ2}(hk:∀ c,Wr X.K c V0 (k c)) (hp:PE X (Zf) (tC V0)) Ĳ0 rZ qh ãq:
  PD X ña (Ψ5 k te):=by
 exact#[Çr,Œ (jU zcO hg T.isinstance ąq (lZ sL (lZ hp kG h3) h1) Ň Ŭ) Ų]
 .split at z
  .show Me
  .show B7
 .ext ŀ;exact ÐW;cases x with
  | err c f d=>
   let#[a,C,dx,w,rfl,ÏM,_]:=q1;show#[a,C,dx,c,V0,k c,rfl,h2,hE,hk c,h1 ZZ]
  | _=>show qL
theorem Ý8 J_ rZ (hf:Lu) (hb:ùj):PD X ÓB (Ĵ5 f te):=by
 exact#[Çr,ϓ9]
 .split at z
  .show bM
  .show B7
 ext ŀ;exact ŋ8 hb (zF (sL Ŋ (λ x H1=>∃ a C dx c w,LJ/\eK X.K c C/\H1 a=↑(jF a C ↑dx)/\H1 dx=↑ ąh/\Q w H1) I (ÐW)) Cr)
 .cases x with
  | err c f' d=>
   let#[a,C,dx,w,rfl,ÏM,h4]:=q1;let#[rfl,h1]:=h1;cases dx with
   | none=>rw[h3.1] at hf;show á hf ()
   | some dx=>show#[a,C,dx,c,w,rfl,hE,h2,h3,h1 w H1 h4 G8]
  | _=>show qL
 .let#[x,H1,I1,rx,a,C,dx,c,w,ex,bz,h1,h2,q]:=z0;ext ħ9;ext þv;let#[ìt,_]:=I1.zt a _ h1;let#[mA,hns,hr]:=I1.zt dx _ h2;have hv:=hr f;simp![IF,rO,tZ] at hv;obtain⟨u',hu',ru⟩:∃ u',mA f=↑u'/\RelV w u':=by
   cases z:mA f with
   | none=>rw[z] at hv;show hv.elim
   | some u'=>rw[z] at hv;show#[u',rfl,hv]
  let#[#[q1,bs,sn,sub,ab,col,dd,k0,k1,k2,k3,k5,hC],hN,hn]:=ÛE G3;ext ðn;have m1:("__getattribute__":Str)∈iR:=∅;have m2:("__getattr__":Str)∈iR:=∅;show Ø6 ïU hC hN ÈZ (hn _ m1) (hn' _ m1) (hn _ m2) (hn' _ m2) êu he hc (λ c z=>by rw[hdt] at z;cases z) hdx hns hu' (PySem.W.handedOut_of (Ľ2 ru)) #[w,H1,Þn,ru,q]
end
end L3
namespace L5
open Ë å L2 L3
open Ô hiding St
@[simp] def ke (k:Ζ2) Ť1:zEO:=fun Y=>Ci λ x=>match x with
 | A6 c À=>↑(.bl (k c))
 | _=>none
@[simp] def ū6 Ø1 Ť1:zEO:=fun Y=>Ci λ x=>match x with
 | A6 _ f' t=>if f'=f then ↑t else none
 | _=>none
def à1 {k:Ζ2}Qd ŝ(hf:yO g te):wW (ke k g) (Ψ5 k te):=λ S Z L Y y Q hE e hq=>by
 ext ĄA
 .cases e2;let#[d',rfl,_]:=Vw.err r1;show YU
 ext Ż
def ğ0 J_ Qd ŝ(hf:yO g te):wO (ū6 f g) (Ĵ5 f te):=λ S Z L Y y Q hE e hq=>by
 ext ĄA
 .ext Ů
  .ext G7;cases e2;let#[d',rfl,h2]:=Vw.err r1;show#[h,hq p_ h2]
  ext Ż
 ext Ż
end L5
namespace L3
open Ë å L2
open Ô hiding St
def Ec Ï ď0:Prop:=∃ C P N NP,yv
def Ec.i Ý Ļ7{C P:Addr}àg:Ec K c:=#[C,P,_,_,ņ0 h]
def Ei Ï Pk U9:Prop:=∃ (C P N NP fI:Addr) (fd:pW),yv/\áe
def Ei.i Ý PJ ϝ{C P fI:Addr}àg (k:Ϩ4) (n:ŋ K c1.ns "__init__"=↑↑ Ml) (g:ôy)
  ω0(l:Hv fI=↑#[oc,od,De (Ć8 åM eM ct),osl])
  (cd:ώ8 K cdv ăb=true) (k2:ύ5 K Ml=true):Ei K c f st:=#[C,P,_,_,fI,_,ņ0 h,k,n,g,aN l cd k2]
def Og Ï â6 (cn:Str):Prop:=∃ D,ÛG/\mg cn=↑ sY
section
variable {Ý}{RA}{Ĝ}{PJ}{ϝ}
def Ei.mk (H:Ei K c f st) Ú9 (hf:Lu:=by simp):o8 Ä4 c f st:=by
 let#[C,P,N,NP,fI,fd,e,k,n,g,F]:=H;show#[hf,C,P,N,NP,fI,fd,e,čy,k,n,g,F]
def Ec.mk (H:Ec K c) Ú9:Og Ä4 c:=by
 ext Ąc;show#[C,#[e.top,_,_,e.own],čy]
theorem Ec.par (H:Ec K c) Ú9:ûA:=by
 ext Ąc;show#[P,#[e.Y1,_,_,e.par],N8 X G e.Y1]
end
def kK (cn:Str) ď0:Bool:=ÈM
section
variable {Ì}{ė}{ŝ}{p q pos:Pos}
def Î1 {cn:Str}(O:Og LA cn) Ĳ0 rZ (hd:(cn == Tb)=Á) (hg2:Gl X cn) qh ãq:
  PD X ña (Ψ5 (kK cn) te):=by
 let#[D,o,hm]:=O;show ĩ3 (V0:=à D) (λ c=>ì o) (Ş8 hg2 hm rfl hd) T ßH
def zc4:bootBuiltins "ValueError"=↑(ϡ3):=MC
def ģ0 (hm:X.mg "ValueError"=none) Ĳ0 rZ (hg2:Gl X "ValueError") qh (h1:zEE X e [Ϝ4]) (h2:zEB ä9 [Ϝ4]) (h3:zEE X (Ϝ4) []):
  PD X (Ă Ot [e,Ϝ4] sy) (Ψ5 (ϻ2) te):=
 ĩ3 (V0:=ăa) (λ c=>.val) (Ő0 hg2 hm zc4 rfl Ň) T ßH
end
end L3
namespace L5
open Ë å L2 L3
open Ô hiding St
def Ĳ3:Stmt->Å3
 | øq=>b
 | _=>[]
end L5
namespace L3
open Ë å L2
open Ô hiding St
section
def ľ7 (_ j:Int):Prop:=0<j/\j<2 ^ 200
def Ķ9 qB:Prop:=Ι9<2 ^ 200/\j.natAbs<2 ^ 200
instance instDecidableCDivB qB:pj (ľ7 i j):=by unfold ľ7;ext Sj
instance instDecidableCMulB qB:pj (Ķ9 i j):=by unfold Ķ9;ext Sj
end
end L3
namespace L2
open Ë å Ô
section
theorem ġ0:∀ Fe Ο,Vals QM us->∀ Ü y,us[i]?=↑y->∃ s t,ss[i]?=↑s/\y=Ã s t
 | [],us,h,i,y,e=>by cases h;simp at e
 | s::ss,us,h,i,y,e=>by
  cases h with
  | cons r rr=>
   cases i with
   | zero=>
    ext ZG;simp at e;show#[s,t,rfl,e.symm]
   | succ i=>show ġ0 rr i y K1
end
end L2
namespace L3
open Ë å L2
open Ô hiding St
section
variable {Ý}{æ}
def ź1 ø3 Å9 n0:Prop:=match d with
 | .vw es=>es=Nk
 | œ=>S a=↑(Å (Nk))
 | _=>ê
theorem zu.strs:∀ Fe Ę,zu Ò (Nk) xs->xs=JI Am
 | [],xs,h=>Év
 | H_,xs,h=>by
  ext ÆN;rw[As,zu.strs h3]
theorem ź1.sq è û ϋ Fe ō8 (h:ÛH):∃ a,qe/\yB Ò a QM:=by
 unfold ź1 at h;ext č
 .subst h;let#[a,xs,r1,r2,r3]:=r;rw[r3.strs] at r2;show#[a,r1,r2.sq]
 .rename_i a;let#[xs,x1,x2]:=p a _ h;rw[x2.strs] at x1;show#[a,r,È (È x1)]
 .show ë
end
end L3
namespace L5
open Ë å L2 L3
open Ô hiding St
def jK:ö->õ (Û)
 | []=>↑[]
 | Ã s::ts=>(jK ts).map (s::·)
 | ş=>none
theorem Ŕ7:∀ ÿ Fe,jK ts=↑ss->ts=JI ø
 | [],ss,h=>LG
 | Ņ,ss,h=>by
  cases t with
  | str s=>
   let#[r,h1,rfl]:=sj h;rw[Ŕ7 h1];rfl
  | _=>cases h
theorem ų5 è:∀ Fe ñ,zo S Iw ds->ds=Nk
 | [],ds,h=>ïc
 | s::ss,ds,h=>by
  rw[As] at h;let#[d,r,rfl,rfl,h3]:=h;rw[As,ų5 h3]
def Vw.strs è Ï9 Fe û(h:Vw S Z (Å Iw) d):ÛH:=by
 rcases h with h | ⟨ts,p,ds,e,rfl,h1,h2,_⟩ | ⟨_,_,_,_,e,_⟩
 .ext ÑS;have e:=ų5 h2;subst e;rcases h1 with ⟨rfl,_⟩ | ⟨a,rfl,h3⟩
  .rfl
  .show Ûo
 .cases e;rw[ų5 h2] at h1;show h1
 .cases e
end L5
namespace L2
open Ë å Ô
section
variable {Λ}
variable {Ì}
def Inv.Ù8 u6 Υ æ ú Ę Ú (h:ε9):ċ7 ĳ "tuple"/\∃ o,Ϻ9/\YR:=by
 let#[_,_,#[o,ho,hc,_],_]:=Ê8 h;exact#[Ñc,?_];ext æJ
 .show (ÚL).1.2
 .show#[o,Õj,hc.2]
end
end L2
namespace L2
open Ë å Ô
section
variable {Gf}{sO}{Λ}
theorem Š9 Wb Fe{k:Str}V1 ë1{Q:ϙ9->ϴ}{body:Nat->ϙ9->Sem (ForInStep (ϙ9))}
  (hb:∀ Ü y,Ŝ1=↑y->body i Õa=eqBool y (Ã k t) >>= λ e=>if e=true then retInt AF >>= λ r=>pure (ForInStep.done (↑r,HY)) else pure (bU Õa))
  (hi:Vals QM KG) (hk:k∈ss) (h:Q (↑ íe,HY) { s with toks:=Cg }):
  ∀ (m i:Nat),i+m=ss.length->i<=aX->Ä í (forIn (List.range' i m 1) (Õa:ϙ9) body) ï
 | 0,i,h1,h2=>by have:=íf;lia
 | m+1,i,h1,h2=>by
  have hl:=ϻ3;rw[AS] at hl;have hil:i<its.toList.length:=⋯;let#[s',u,e0,hu]:=ġ0 hi i _ (Go hil);have hy:Ŝ1=↑(Ã s' u):=by rw[<- Pi,Go hil,hu]
  rw[ăc,zgD];exact He;rw[hb À hy];exact AC (SeqAt.EqAt.str_str s' u k t ĥ À ?_);have hlt:=íf;have es:ss[i]'(uT hil hl)=s':=by
   rw[Go (uT hil hl)] at e0;cases e0;rfl
  by_cases e:s'=k
  .have ei:aX=i:=by
    ext ĄB
    .have:=List.not_of_lt_findIdx (p:=(· == k)) (xs:=ss) (i:=i) q;simp at this;show á (es.trans e) this
    .lia
   rw[Ç K1];exact AC (AC (wpAny_mkInt (AT R5)));rw[ei] at h;show h
  .rw[É K1];exact AT (Š9 hb hi hk h m Ζ ⋯ ?_);ext ĄB
   .lia
   .have ei:i=aX:=⋯;exact á ?_ e;rw[<- es];subst ei;show List.getElem_idxOf hlt
def Ø0 ó1 TC uF ď Fe{k:Str}V1 ë1 Ñs(ho:ż l=↑o) (hd:Pg=œ1) (hi:Vals QM its) (hk:k∈ss)
  (h:P íe { s with toks:=Cg }):Ä í (ôz #[[Ii,Ã k t],[]]) P E s:=by
 unfold ôz;ext QP
 wp_walk using Ϡ9 ho
 rw[hd];exact AT A2;exact AC (m:=pure 0) A2;exact AC (m:=pure G2) A2;exact He;rw[Nat.min_self,Std.Legacy.Range.forIn_eq_forIn_range'];have hl:=ϻ3;rw[AS] at hl;exact Š9 (its:=Ũ) (t:=t) (λ i y h=>by rw[h]) W5 hk ?_ _ 0 ?_ Ù2
 .show Cz
 .simp[Std.Legacy.Range.size];lia
variable {Ì}
def ń1 Ï:EC:=λ x vs H Q=>∃ (l:Addr) (ns:Û) (k:Str),x=Ii/\vs=[rj]/\y6 Ò l (rg Am)/\k∈ns/\Q ËS H
def å7:jA X "tuple.index" (ń1 X.K):=by
 ext MB;let#[l,ns,k,rfl,rfl,hq,hk,q]:=h;cases rx;ext Ít;let#[t,rfl]:=ru;let#[its,r,#[o,ho,hc,n,hd],_]:=Jm;show P5 ýA Ñc F.entry_tuple_index (Ø0 ho hd r hk #[_,rfl,ïW]) (F.args_tuple_index_2 À)
def à3 Ï (to:TE) OM:TE:=fun σ H Q=>to ç λ x H1=>(∃ p,B1/\∃ xs,y6 K H1 p xs)/\t Ş λ xs H2=>ń1 K x xs H2 Q
variable {o e:Expr}{to:TE}{t:TA}{sW}
def ė5 ÀK (ha:PA X [e] t)
  (AZ:ùE:=by rfl)
  (hfew:âQ=true:=by rfl)
  (hline:χ9:=by rfl) (hs:Ql:=by rfl) (VZ:Óm:=by rfl):
  PE X ïf (à3 X.K to t):=by
 ext ŧ;exact TY;let#[x,H1,I1,r1,#[p,e1,xs,sq],q1]:=z0;subst e1;cases r1;let#[h1,h2]:=I1.Ù8 sq;exact#["tuple","tuple.index",PySem.F.plainAttrs_tuple,ýA,F.type_tuple_index,h1,λ a e=>by cases e;show h2,?_];ext ön;exact TF (by change (Á||(BN cpos (Àn)).any Ě)=Á;rw[VZ] <;> rfl) ÁX;show zF hA λ us s2 z0=>(by ext æL;show å7 ό1 ī vs ī us Q I2 rfl r2 q2)
end
end L2
namespace L3
open Ë å L2
open Ô hiding St
section
variable {Ì}{o e:Expr}{Θ4}{sW}
def Ġ8 ÂL:zr:=fun L S Q=>to L S λ x S1=>∃ ns:Û,x=Î (rg JF)/\te Ĺ λ y S2=>∃ k,y=rj/\k∈ns/\Q ËS S2
def Û5 Hl rZ
  (AZ:ùE)
  G0:
  PD X ïf (Ġ8 to te):=by
 exact#[fun L S Q Q' hq z=>CT ó (λ x S1 z0=>by let#[ns,h1,h2]:=z0;show#[ns,h1,El ς (λ y S2 z0=>by let#[k,h1,h2,h3]:=z0;show#[k,h1,h2,Μ0]) h2]) z,Œ (ė5 Bm ϖ9) Ų];ext ÍT;let#[ns,rfl,h1]:=h1;have q1':=q1;let#[a,xs,rfl,sq,rd]:=q1;cases rd.strs;exact#[#[_,rfl,_,sq],?_];exact Ģ El V9;let#[k,rfl,g3,g4]:=h2;have q3:=DX e2 _ q1';subst q2;let#[b,xs2,eb,sq2,rd2]:=q3;cases eb;cases rd2.strs;show#[a,ns,k,rfl,rfl,sq2,g3,g4 _ H2 rfl iW]
end
end L3
namespace L5
open Ë å L2 L3
open Ô hiding St
def aH:Ŝ
 | ő,rj=>(jK ts).bind λ ns=>if k∈ns then ↑ ËS else none
 | _,_=>none
def Ā9 EL á6 GY:wW (ze aH ß1) (Ġ8 Ġ):=λ S Z L Y y Q hE e hq=>by
 ext îO;unfold aH at e;ext Ĥ
 .let#[ns,i1,i2]:=ŗ;split at i2
  .rename_i hk;cases i2;have ei:=Ŕ7 i1;subst ei;exact ha π7;let#[ds,rfl,r3]:=Ôa;cases ų5 r3;exact#[ns,rfl,hb FG À (uR s1) e2 Ϝ0];cases r2.str;show#[_,rfl,hk,hq VL ÕO]
  .cases i2
 .cases e
end L5
namespace L2
open Ë å Ô T5 cA
section
variable {ώ}{Ý2}{t u:Tok}
def ë2 Ī(hy:(FU == 0)=Á) (hsz:ϑ<=â) (hsz2:(ûB).length<=â)
  (hq:∀ (l:Ϣ2) Đ,tj Ě=qK x y->Q Fs { s with heap:=ëd,toks:=k }):
  Ä í (call ăd [Ã x t,Ã y u]) ï:=by
 cases h1:éb
 .cases hf:(uM Ìz).isEmpty
  .exact Ab Êd (meets_str_split_sep Üu hy hf hsz hsz2) ?_;change wants Q E _ { s with toks:=_,heap:=Ŧ { cls:=ſ,data:=ň (strsFrom Ĕ (ûB)).toArray } };rw[strsFrom_eq];show àV
  .show Ab Êd (meets_str_split_not_found Üu hy hf)
    ãg
 .show Ab Êd (meets_str_split_cannot_occur Üu)
   íP
theorem ę7:∀ (l:Ϣ2),Vals ((tj Ě).map Am) (Ϟ1)
 | []=>ä
 | (_,t)::l=>ã Z5 (ę7 l)
theorem ņ3:∀ {xs:Û}Ο,Vals (Θ Am) us->∃ l:Ϣ2,us=Ϟ1/\tj Ě=xs
 | [],_,ä=>#[[],rfl,rfl]
 | A_,_,ã #[t,e] h=>by
  let#[l,rfl,rfl]:=ņ3 h;show#[(x,t)::l,Ϩ5,rfl]
variable {Ì}
def eV sd:Prop:=é5 ≠0/\UA<=â/\(N7 a (uM Ñ 0 UA (UA+1)) é5).length<=â/\(qK Ñ).length<=â
def Ň8:EC:=λ x vs H Q=>∃ a b,Po/\vs=[qX]/\eV Ñ/\∀ l,ÿ1->Q ū ąY
theorem ġ2:jA X "str.split" Ň8:=by
 ext MB;let#[a,b,rfl,rfl,ùF,q]:=h;ext ïz;exact ë2 Ôn ē7 λ l k e=>?_;exact#[KM,_,B6 (t':=k) (o:=çG) ée,rfl,Jh]
def rJoin Ï:EC:=λ x vs H Q=>∃ a p texts,Po/\vs=Mr/\yB Ò p (texts.map Am)/\JoinOk a texts=true/\Q (Ã (Txt.join a texts)) H
def ě5:jA X "str.join" (rJoin X.K):=by
 ext MB;let#[a,p,texts,rfl,rfl,hq,zt,q]:=h;ext VX;let#[_,rfl,e]:=rv.one;cases e;let#[its,r,pl,_]:=IC;let#[l,rfl,hl]:=ņ3 r;show SC.join G1 hl zt ær
def ş4:EC:=λ x vs H Q=>∃ a b,Po/\vs=[qX]/\Q Ñd H
def ê5:jA X "str.startswith" ş4:=by
 ext MB;let#[a,b,rfl,rfl,q]:=h;ext ïz;show čz Ti
end
end L2
namespace L3
open Ë å L2
open Ô hiding St
section
variable {Ì}{Ý}{o e:Expr}{Ń}{YN}{υ}{sW}{name:Str}{id:ń}
def lq (f:wG) (to:zr) (tA:yw):zr:=fun L S Q=>to L S λ x S1=>(∃ y,x=Ir)/\tA Ĺ λ ds S2=>f (x::ds) S2 Q
def lq.mo Ģ4 U1 ďg:y7 Ôo:=fun L S Q Q' hq z=>ho ó (λ x S1 z0=>by let#[h1,h2]:=z0;show#[h1,ha îF]) z
def Ĩ4 Ģ4{r:EC}U1 (hr:nV K f çk) ďg AQ ô E7 (hu:zU K Ôo ź):gZ K "str" r (zU K to) ÔL:=by
 ext ŀ;exact Ģ ho VY;let#[#[y,rfl],h2]:=h1;subst q1;exact#[rfl,O6 ha LZ h2 λ ds S2 xs H2 g q2 e2 p2=>?_];let#[x,rest,e,k]:=hr Ϸ8 (Ir::ds) H2 S2 Q (ã rfl q2) p2 (hf ĉ (λ d S h=>h.ext Íz) g);cases (e);show k
def Ŷ2 Ģ4{r:EC}(slot:Slot "str" name id) äh U1
  (hr:nV X.K f çk) Hl È5
  Åi:
  PD X ðv Ôo:=by
 exact#[fun L S Q Q' hq z=>CT ó (λ x S1 z0=>by let#[h1,h2]:=z0;show#[h1,ĝ îF]) z,Œ (ŵ5 ϔ0 slot hty hm Bm Ek R9) (Ĩ4 hf hr CT ĝ)]
def kh:wG:=λ ds S Q=>∃ a b,ds=ϧ5/\eV Ñ/\∀ l,J8->Q ū (ups S l (Å (Ôp JF)))
def kh.mo:oS kh:=λ ds S Q Q' hq z0=>(by let#[a,b,h0,h1,h2]:=z0;show#[a,b,h0,h1,õd])
theorem zu.π6 æ:∀ (xs:Û),zu Ò (Θ JF) (Θ Am)
 | []=>by simp[zu]
 | A_=>by ext Ξ2;show ã rfl (zu.π6 xs)
def kh.fits:nV K kh λ xs H Q=>∃ x rest,W3/\Ň8 cX:=λ xs ds H S Q h0 h2 h=>by
 let#[a,b,rfl,ok,h]:=h;ext ën;exact#[_,_,rfl,a,b,rfl,rfl,ok,λ l hf=>?_];have hx:Ext H ąY:=Λ9;show äu
def gp:wG:=λ ds S Q=>∃ a d ss,ds=[rY,d]/\ÛH/\Ąy/\Q ùG S
def gp.mo:oS gp:=λ ds S Q Q' hq z0=>(by let#[a,d,t,h0,h1,h2,h3]:=z0;show#[a,d,t,h0,h1,h2,Μ0])
def gp.fits:nV K gp λ xs H Q=>∃ x rest,W3/\rJoin K cX:=λ xs ds H S Q h0 h2 h=>by
 let#[a,d,ss,rfl,h3,ok,h]:=h;let#[x,y,rfl,q1,q2]:=h0.two;subst q1;let#[p,rfl,sq]:=ź1.sq q2 ē7;show#[_,_,rfl,a,p,ss,rfl,rfl,sq,ok,Vh]
def kM:wG:=λ ds S Q=>∃ a b,ds=ϧ5/\Q Ñd S
def kM.mo:oS kM:=λ ds S Q Q' hq z0=>(by let#[a,b,h0,h1]:=z0;show#[a,b,h0,hq À h1])
def kM.fits:nV K kM λ xs H Q=>∃ x rest,W3/\ş4 cX:=λ xs ds H S Q h0 h2 h=>by
 let#[a,b,rfl,h]:=h;ext ën;show#[_,_,rfl,a,b,rfl,rfl,Vh]
def Í4 Hl Ō6
  ÊB
  G0:
  PD æM:=
 Ŷ2 Çp ġ2 kh.mo kh.fits Áh
def õ4 Hl Ō6
  (AZ:qM o "join" Ea=tN)
  G0:
  PD X (Ă (ű o "join" apos) Ko) (lq gp to tA):=
 Ŷ2 PySem.F.slot_str_join PySem.F.type_str_join ě5 gp.mo gp.fits Áh
def Ç8 Hl Ō6
  (AZ:ĉB)
  G0:
  PD X (Ă čA Ko) (lq kM to tA):=
 Ŷ2 ïX ïY ê5 kM.mo kM.fits Áh
end
end L3
namespace L5
open Ë å L2 L3
open Ô hiding St
@[simp] def xM Ip Ť1 (u:Ϗ):zEO:=fun Y=>Ci λ x=>match x with
 | Ir=>(u Y).bind λ xs=>F Ϸ8
 | _=>none
def Ñ9 ę IT GS Ģ4 Qd Vp{tg:zr}{tu:yw}(hf:nq R F f) (hg:yO g tg) (hu:l4 u tu):zI R (xM F g u) (lq f tg tu):=λ S Z L Y z Q hE e hq=>by
 ext ň8;cases x with
 | str y=>
  let#[xs,e2,e3]:=ŗ;exact hg π7;cases r1.str;exact#[ξ,hu FG xs qJ Yc];show hf S2 Z Ϸ8 z (Ir::ds) Q Mi #[_,ds,rfl,È mS,r2] e3 ùq
 | _=>cases e
instance zfj sd:pj (eV Ñ):=by unfold eV;ext Sj
theorem Ű7 è:∀ n0,ĉC
 | []=>by simp[zo]
 | s::ss=>by
  ext Ξ2;simp![zo,Sn];show#[_,_,rfl,rfl,Ű7 ss]
@[simp] def nI:zLO
 | ϧ5=>if eV Ñ then ↑(Å (Ôp ø)) else none
 | _=>none
def Ă7:nq zk nI kh:=λ S Z ys z ds Q hz hv e hq=>by
 unfold nI at e;ext Ĥ
 .ext Ĥ
  .rename_i ok;cases e;ext Ϗ0;ext Ðt;show#[_,_,rfl,ok,êJ]
  .cases e
 .cases e
@[simp] def nM:zLO
 | [rY,Δ]=>(jK ts).bind λ ss=>if Ąy then ↑ ùG else none
 | _=>none
def î6:nq zk nM gp:=λ S Z ys z ds Q hz hv e hq=>by
 unfold nM at e;ext Ĥ
 .let#[ss,e1,e2]:=ŗ;ext Ů
  .rename_i ok;cases e2;cases Ŕ7 e1;ext Ϗ0;cases h1.str;show#[_,_,ss,rfl,Vw.strs h2,ok,ZS]
  ext Ż
 .cases e
@[simp] def ů7:zLO
 | ϧ5=>↑ Ñd
 | _=>none
def Á7:nq zk ů7 kM:=λ S Z ys z ds Q hz hv e hq=>by
 unfold ů7 at e;ext Ĥ
 .cases e;ext Ϗ0;ext Ðt;show#[_,_,rfl,HF]
 .cases e
end L5
namespace L2
open Ë å Ô T5 cA
section
variable {Ì}
theorem zcy:wI X (Į "str") ây:=by
 ext Hh;let#[i,rfl,hi,q]:=h;ext ük;exact P.str_of_int ?_ ÉL;have h1:Ι9<=1000000:=⋯;by_cases h0:Ι9=0
 .rw[h0];decide
 .show ð3 ((Nat.log2_lt h0).mpr (show Ι9<2 ^ 20 by lia)) ()
end
end L2
namespace L5
open Ë å L2 L3
open Ô hiding St
section
variable {Ì}{Ý}{ė}{Ń}{υ}{NR}
def gi:wG:=λ ds S Q=>∃ i:Int,ds=[Ą]/\(Ëe)/\Q Îj S
def gi.mo:oS gi:=λ ds S Q Q' hq #[i,h0,h1,h2]=>#[i,h0,h1,hq Ik]
def gi.fits:nV K gi ây:=λ xs ds H S Q h0 h2 h=>by
 let#[i,rfl,h1,h]:=h;ext øI;show#[i,rfl,h1,Vh]
def þ5 (hm:X.mg "str"=none) È5 (hg:Gl X "str") BC:PD X (Ă (ć "str" p) DY) (o7 gi tA):=
 ji (fj zcy Hy øh pz) gi.mo gi.fits ĝ
@[simp] def xW:zLO
 | [Ą]=>if Ëe then ↑ Îj else none
 | _=>none
def Ğ6:nq zk xW gi:=λ S Z ys z ds Q hz hv e hq=>by
 unfold xW at e;ext Ĥ
 .ext Ĥ
  .rename_i hi;cases e;ext CL;cases θ6;show#[_,rfl,hi,ZS]
  .cases e
 .cases e
def Ct Ï ĩ n0:Prop:=∃ a,Ϙ2/\Ïa
def Ŧ1 Ï â6 ĩ n0:Prop:=∃ a,mg x=↑ ĳ/\Ïa
def ð4 ā Fe(h:Ŧ1 LA x ss) Ðg qj:PD Ff (dC Ùx):=by
 let#[a,h1,h2]:=h;show fq (v:=œ) (Ş8 (v:=œ) hg h1 rfl hd) λ H=>by
  ext EN;show#[a,_,rfl,h2 _,zu.π6 _]
end
end L5
namespace L2
open Ë å Ô T5 cA
section
variable {Ì}
def mw î RL Ł8:Prop:=
 ∀ Ű E7,0<Ĕ->îV
def Z4 î RL Ł8:Prop:=
 ∀ Ű E7,ŉ->dG->Ä Ā (K7) (λ v s'=>s'=s/\∃ x,AG/\Q x H) Ï1
def ź7 î Ļ4 OM:Prop:=
 ∀ (pos:Pos) Ű (Q:S_),0<Ĕ->ãy
def œ0 î (st:Å3) (t:TS):Prop:=
 ∀ Ű Rw,0<Ĕ->èW
def Ŝ5 î RL (t:TT):Prop:=
 ∀ Ű Ļ5,ŉ->dG->Ä úz (λ b s'=>0<Ãs/\Ŋ4 Č Q b s') Ï1
def ĕ3 ă ā Ē(hN:Qz) (hv:Ár) qj RW:Z4 Ve:=by
 ext âL;have fin:s=s/\∃ x,Ě4/\Q x H:=#[rfl,v,r,h];ext çY
 .show äM
 .rcases hk with hk | hk
  .show ät
  .show äd
theorem ŀ2 ė Dy(ha:mw IY) (hs:Ql:=by rfl):ź7 ĊY:=by
 intro pos gV s σ H Q tk I h;rw[hs];change Ä À (fW (Β9::BN pos (Àn))) CW;exact Xm (zF (ha ϲ8) Cr);ext î7;show zF (kG pos tP) λ us s2 z0=>(by let#[xs,H2,I2,r2,q2]:=z0;show íB)
variable {o e:Expr}{Ń}{äV}
def Ü8 ÅF (ho:mw pL) iK
  Åi:
  mw Çg:=by
 ext ϝ2;exact zj5 Ū8 rfl (zF (ho ϲ8) LC);ext àv;show òH
def ğ1 ÅF (ho:Z4 pL) (ha:ź7 X AR t)
  Åi:
  mw Çg:=by
 ext ϝ2;exact TY;let#[hs1,x,r1,ty,q1]:=z0;subst hs1;let#[h1,h2]:=Ğ2 I r1 ty;exact çW;have hA:=ha cpos gP ç _ tk I q1;rw[hs] at hA ⊢;exact áf;show òH
section
variable {XA}{ý}{Iq}{Ĳ}{òx}{ā}{p pos:Pos}
def ċ4 Yr ν ϙ ÈD Um
  (ha:ź7 X AR t) uJ BC:
  mw üa:=by
 ext ϝ2;exact Z_;exact Qp Rj hk (zF (ha pos ϲ8) Çh) BK;show ôc
end
def ù7 (to:TE) (y z:Str):TE:=fun σ H Q=>to ç λ x H1=>∃ a,Po/\Ôq/\Q Ïb H1
def Ă9 ðo(ho:Z4 pL) ßV:
  mw X äv (ù7 to y z):=by
 ext ϝ2;exact TY;let#[hs1,x,r1,a,ea,la,q1]:=z0;subst hs1;subst ea;ext ϲ0;exact#["str","str.replace",ϔ0,PySem.F.slot_str_replace,PySem.F.type_str_replace,œ3 Ð,(ϡ1),?_];rw[hs];exact TF rfl ÁX;change Ä À (fW (ύ1::ùH::[])) Ð;exact Xm (Êi (ýB));show SC.replaceW (On tk) (ăe _) (Ϯ2) hyz (BY la ()) hz λ t' k=>#[DD,H,(pK).tok k,Öi,q1]
def Ğ3 ė Dy Ē(he:mw IY) (hs:ÎK):œ0 X [Ϯ0] (ō4 te):=by
 intro gV s σ H D tk I h;have h1:Ä Ā (exec (Ϯ0) Ù) QG Ï1:=Ðz (zF (he ϲ8) λ v s1 z0=>by ext î7;show Ìh) Ün;exact zj8 (zF h1 ż1);cases f with
 | next=>show Uf q
 | _=>show q
def Ã8 ô3{j1:Nat}{p1:Pos}ÀK
  àa
  (he:áE):
  Ŝ5 X (Ă υ5) (fun σ H Q=>to ç λ x H1=>∃ a,Po/\Q (IW a y) H1):=by
 ext ŧ;exact isTrue_plain ?_ (he _);exact TY;let#[x,H1,I1,r1,a,ea,q1]:=z0;subst ea;ext ϲ0;exact#["str","str.startswith",ϔ0,ïX,ïY,œ3 Ð,(ϡ1),?_];rw[hs];exact TF rfl ÁX;change Ä À (fW (ύ1::[])) Ð;exact ýB;show čz (P9 #[Óx _,H1,Þn,q1])
def â7 JY{a b:Å3}{tc:TT}{t u:TS}Ē(hc:Ŝ5 rm) (ha:oP X a t) (hb:œ0 X b u):ìL:=by
 ext ĊL;let#[tk,H1,I1,q1]:=z0;cases d with
 | true=>show ha ph D ka
 | Á=>show hb ph D tk ka
end
end L2
namespace L3
open Ë å L2
open Ô hiding St
section
variable {Ì}{Ý}{o e:Expr}{Ń}{Θ4}{υ}{apos cpos pos p:Pos}
structure wV î RL bK:Prop where
 mo:y7 t
 pe:mw ÖI
structure vo î RL bK:Prop where
 mo:y7 t
 pe:Z4 ÖI
structure v8 î Ļ4 AV:Prop where
 mo:mH t
 pa:ź7 X es (vj ä3)
structure vO î (st:Å3) ö2:Prop where
 mo:lS t
 ps:œ0 ÔM
structure vN î RL đ5:Prop where
 mo:nU t
 pt:Ŝ5 ÖJ
def μ2 {t t':TE}(h:mw rC) (i:àJ):mw EJ:=λ gV s σ H Q tk I hu=>h Ŋ Q tk I (i ź hu)
def Î8 Ü ā(h:Z4 Ve) (m:y7 rE):vo ÄU:=by
 exact#[m,λ gV s σ H Q I hu=>h Dh ?_];ext ăM
 ext çt
 .show ë
def é1 (he:wV IY) (hs:Ql):v8 X [e] ÑO:=by
 exact#[fun L S _ _ hq z=>El ó (λ x S1 z=>Me) z,λ q gV s σ H Q tk I hu=>ŀ2 π3 q Ŋ Q tk I ?_];ext ħ4;show Ģ El tX h λ x S1 v H1 h1 q1 e1 p1=>h1 [v] H1 (ã q1 ä) G8
def Ĥ6 (to:zr) (y z:Str):zr:=fun L S Q=>to L S λ x S1=>∃ a,Po/\Ôq/\Q Ïb S1
def Î0 ðo(ho:vo pL) ßV:
  wV X äv (Ĥ6 to y z):=by
 exact#[fun L S _ _ hq w=>CT ó (λ x S1 #[a,h1,h2,h3]=>#[a,h1,h2,Μ0]) w,μ2 (Ă9 Bm hyz hz Ū8 hs) Ų];let#[L,S,r1,r2,w]:=hu;exact Ģ CT tX w UU;let#[a,rfl,la,h1]:=h1;subst q1;show#[a,rfl,la,h1 ZZ]
def À4 (ho:wV pL) Ō6
  ÊB
  G0:
  wV æM:=
 #[lq.mo kh.mo CT ĝ,μ2 (Ü8 ϔ0 Çp ġ2 Bm Ek R9) (Ĩ4 kh.mo kh.fits CT ĝ)]
def ÿ7 ā ý Ĳ ϑ4 ν (ha:v8 X AR tA) ϙ uJ
  BC:wV Ϡ4:=by
 ext Èe;show#[fun L S Q Q' hq z=>ĝ ó (λ ds S1 z=>hm Mt hq z) z,μ2 (ċ4 (E:=E0) úc) (Ō5 hm ĝ)]
def Á6 (ho:vo pL) (he:wV IY) (hsw:tH ό9 none U_=su)
  (AZ:öW)
  G0:
  vO X [.Expr ό9 pos] (cy Tq):=by
 have hp:mw X ό9 (zU X.K Tq):=μ2 (ğ1 âz (ŀ2 π3) R9) (š8 Ψ1);have hm:=kr.mo Ψ1;exact#[λ E E' L S hE z=>hm öp,λ gV s σ H D tk I hu=>Ğ3 hp hsw Ŋ D tk I ?_];ext ŀ;show Ģ hm çn
def ý4 ô3{j1:Nat}{p1:Pos}Hl
  àa
  (he:áE):
  vN X (Ă υ5) (Ŧ0 ïZ):=by
 have hm:y7 ïZ:=lq.mo kM.mo CT fun L S _ _ hq z=>Me
 exact#[fun L S Q Q' hq h=>hm òA,λ gV s σ H Q I hu=>Ã8 Bm Ū8 hs he Dh ?_];ext ÍT;let#[#[a,rfl],a',b,e2,h2]:=h1;cases e2;show#[a,q1,h2 sT]
def Č3 JY{q r:Å3}ğ2 Ω6(hc:vN rm) (h:xA X q t) (h':vO X r u):zw X (.If c q r pos) Ïw:=by
 exact#[ÅS,GK (â7 hc.pt Üp) Hc];ext ŀ;exact ÌU
 .show íE
 .show ìT
end
end L3
namespace L5
open Ë å L2 L3
open Ô hiding St
@[simp] def Ŧ2 (y z:Str) Ť1:zEO:=fun Y=>Ci λ x=>match x with
 | rY=>if Ôq then ↑ Ïb else none
 | _=>none
def é0 {y z:Str}Qd{tg:zr}(h:yO g tg):wW (Ŧ2 y z g) (Ĥ6 tg y z):=λ S Z L Y w Q hE e hq=>by
 ext ň8;cases x with
 | str a=>
  dsimp only at e;ext Ĥ
  .ext Dr;cases e;exact h π7;cases r1.str;show#[a,rfl,hl,hq p_ Öa]
  .cases e
 | _=>cases e
end L5
namespace L2
open Ë å Ô
section
variable {ώ}
def zbI {l b:Addr}{ε:zAV}ď uF{Ia:zAV}{n2:Nat}Ñs(hl:ż l=↑{ cls:=ſ,dict:=none,data:=ÛI,JW:=į })
  (hb:ϒ) (hc:GZ=Æ7) (hd:Pg=ň Ia n2) (hz:Gp+ž9<=â)
  (h:P ÎT { s with heap:=qx l (F4 λ x=>x++Ia) }):Ä í (ôA ùk) P E s:=by
 unfold ôA;exact AC (m:=pure (đ l,đ b)) A2;change Ä À (MK ū pq Ć) CW;unfold MK;exact AC (Tk (T:="tuple") #[o,hb,hc] ?_);rw[êv];exact AC (ż5 hb hd (AC (ż5 ĀY Ψ)));have hlong:¬ (! Yo&&L_ (Gp+ž9))=true:=by
  rw[ĺ8 hz,zg3];show Wp
 rw[É hlong];show AC (Ϧ7 ĀY rfl (Cz) ⋯ (by change (ε++Ia).size<=â+1;rw[zi2];show Vx hz))
variable {Ì}
def Ó6 Ï:EC:=λ x vs H Q=>∃ l b xs zs,x=Ii/\vs=[Oa]/\Γ4/\y6 Ò b zs/\æl
theorem í2:jA ĎG (Ó6 X.K):=by
 ext áa;let#[its2,r2,#[o,e2,hc,n2,hd],hz2]:=Ê8 hB;have l1:=ϗ;have l2:=Su;exact P5 ór ÐF PySem.F.entry_list_extend (zbI e e2 hc hd (öR) ϡ5) (PySem.F.args_list_extend_2 À);exact âV;rw[GE];show hz
end
end L2
namespace L3
open Ë å Ô L2
section
variable {Ì}{ĊX}{sW}
def fT ÂL:zr:=fun L S Q=>to L S λ x S1=>match x with
 | Ŗ=>ÌT/\te Ĺ λ y S2=>∃ ds es,y=Î es/\S2 p=↑ Dc/\íL
 | _=>ê
def fT.mo Mc:y7 (fT to te):=fun L S Q Q' hq z=>h ó (λ x S1 z=>by
 cases x with
 | ref p=>show#[z.1,h' ς (λ y S2 #[ds,es,a,b,c,w]=>#[ds,es,a,b,c,hq À w]) z.2]
 | _=>show z) z
def Ë0 Hl rZ
  (AZ:øj)
  G0:
  PD X îr (fT to te):=by
 exact#[fT.mo Ψ1,Œ (ŵ5 ãa í2 Bm ϖ9) Ų];ext ÍT;cases x with
 | ref p=>
  ext ÆA;exact Ģ El V9;let#[ds',es,rfl,b1,b3,b4]:=h2;let#[q,ys',rfl,g5,g6]:=q2;ext þs;ext àY
 | _=>show qL
end
end L3
namespace L5
open Ë L2 L3
@[simp] def Η0 Ü ŷ:Sm:=fun Y=>match ĸ with
 | Cw=>Ř λ y=>match y with
  | UZ=>õc
  | _=>none
 | _=>none
def û6 ę Ĉ ŝ Ü Xv:zQ R (Η0 i f) (cy (fT rE te)):=λ S0 Z0 S Z L Y o E F e P=>by
 ext Ðr
 .ext Ph;cases y with
  | tup us=>
   by_cases hl:WH
   .ext öt;obtain⟨ds,rfl⟩:Ϥ3:=by
     cases ob with
     | lst ds=>show ſ6
     | _=>show u_
    ext ž4;change fT ÖN;unfold fT yL;ext ìe;let#[es,rfl,g4]:=r1.tup;have F1:=Ef;exact#[ds,es,rfl,s1 Ik,øW,áI]
   .show ñC
  | _=>show yx e2
@[simp] def İ3 n0:zEO:=λ _=>↑(Î Iw)
def č0 n0:wW (İ3 ss) (dC Ùx):=λ S Z L Y y Q hE e hq=>by
 cases e;show hq _ Gz (EV E8 (jO (Ű7 ss)))
end L5
namespace L3
open Ë å L2
open Ô hiding St
section
variable {Ì}{ė}{Ń}{υ}{NR}
def zi Ü ā υ4 RW:PD ÄU:=ı1 i (ź6 i ž1)
def ğ6 ā{k k':Nat}Ĳ ϑ4 VG È5 ĳ9 ϙ uJ
  BC:PD Ϡ4:=ħ0 ÍS
end
def kL {N P:Û}{sc:IH}(h1:sc.kind=QO:=by rfl) (h2:ÿe:=by rfl) (h3:ÿf:=by rfl) (h4:O8:=by ext CQ) (h5:ÿg:=by rfl) (h6:∀ x∈P,Ën:=by ext CQ) (h7:ñS:=by ext CQ):vq N P sc:=#[h1,h2,h3,h4,h5,h6,h7]
end L3
namespace L3
open Ë å L2
open Ô hiding St
section
variable {Ì}{ė}{Ń}{υ}{NR}
def zh Ü ā υ4 RW:vo ÄU:=
 Î8 i (ĕ3 ž1) (ı1 i (ŕ6 (pos:=pos) ž1)).mo
def ü8 ā{k k':Nat}Ĳ ϑ4 VG (ha:v8 X AR tA) ĳ9 ϙ uJ
  BC:wV Ϡ4:=ÿ7 ÍS
end
end L3
namespace L5
open Ë å L2 L3
open Ô hiding St
theorem Ct.mk Ý RA Ĝ ā Fe(H:Ct K x ss) Ú9:Ŧ1 Ä4 x ss:=by
 let#[a,h1,h2]:=H;let#[u,e1,e2]:=Cn.mk (t:=œ) #[œ,h1,rfl] X G;cases e2;show#[a,e1,h2]
def Ct.i Ý ā Fe ú uF Wb ď(h1:Ϙ2) äp:Ct K x ss:=#[a,h1,æI]
end L5
namespace L3
open Ë å L2
open Ô hiding St
def kA Ï:Prop:=∃ C,vU/\vZ/\čB
def kB.eq Ý Ļ7{C D:Addr}(h1:kB uH) (h2:kB K c D):C=D:=by
 unfold kB at h1 h2;rw[h1] at h2;cases h2;rfl
def _root_.L2.Inv.Vy Ì Ĵ ú{u v:HO}Ú (e:ÜK) (mu:ų4 ↑u) (he:∃ o,Ϻ9) (h:wX η (upd H a v) ð a v):Inv Č (upd H a v) s:=
 Ο5 (x:=a) (e:=a) (h':=ð) (t':=Ĕ) (by rw[e];show mu) ì9 (λ b q _ z=>z) he h
def Ū0 Ė æ Ĝ ú tS(x:wX Ly ī0):ÜH:=by
 ext ό2;show#[o,e]
theorem Ext.ins æ{p C dx:Addr}{fs:ü6}(h:H p=↑ Ň5) (o:HO):ϛ8:=
 ÅN
theorem Ext.dS æ{p x:Addr}{tp us:FZ}(h:H p=↑(.dS x tp)):Ext H (upd H p (Ýl)):=
 #[λ b ys q=>Z7,ĉD,ϰ6,ϰ6,λ b y u q=>by
  by_cases z:b=p
  .subst z;rw[h] at q;cases q;show#[us,yy]
  .show#[u,by rw[zR z];show q]]
def jz.ō6 Ý æ{a x:Addr}ą1{vs:FZ}(h:Àb) (e:H a=↑(.dS x vs)):ê:=by
 cases o with
 | lst ds=>ext öy
 | yf ds=>ext öy
 | iQ=>let#[_,_,_,h]:=h;rw[h] at e;cases e
 | zE ds=>let#[_,_,_,_,_,h,_]:=h;rw[h] at e;cases e
def ye.Τ9 Ý BP è BE ą1 ţ1 uq (k:∀ b u,b≠p->(∀ vs,u≠.dS p vs)->QQ->DE=↑u) (hn:jz ό p o):ye ό (L3.ups S p o):=λ a o' h=>by
 by_cases ha:a=p
 ext üF
 .rw[kD ha] at h;have q:=r a o' h;exact q.keep e (λ u z=>k a u ha (λ vs y=>by subst y;show q.ō6 z) z) λ b vs z=>k b _ ?_ (λ us y=>by cases y;show ha rfl) z;rintro rfl;cases hs:S b with
  | none=>
   cases o with
   | lst ds=>ext Ąd
   | yf ds=>ext Ąd
   | iQ=>let#[_,_,_,h]:=hn;ext Çz
   | zE ds=>let#[_,_,_,_,_,h,_]:=hn;ext Çz
  | some o2=>show (r b o2 hs).ō6 z
section
variable {Ì}{o ie v:Expr}{i j k:Nat}{pos pos' ap:Pos}
def Ń0 Ü:yK:=λ E L S=>∃ p,Bs/\S p=↑.iQ/\E.nx L ÍK
theorem ĕ1 óK (hs:tH Ϛ0 ↑(LW) U_=su):zw X (B_ [LW] Ϛ0 pos) (Ń0 i):=by
 exact#[λ E E' L S hE z0=>(by let#[p,h1,h2,h3]:=z0;show#[p,h1,h2,sH À h3]),õJ];let#[L,S,r1,r2,p,h1,h2,h3]:=hu;let#[C,dx,g1,g2]:=r2 Ik;ext Ąe;cases Þo;ext ül;subst w2;exact zF (ċ2 ho Ĺ3 hs Ŋ { D with nx:=fun σ' H'=>σ'=σ/\∃ q,H q=none/\H'=čC } I ?_) λ f s' z=>?_
 .intro q hq;ext ìg
  show#[Ŗ,w1,p,C,dx,[],rfl,ÑJ,c2,c3,(),rfl,q,hq,rfl]
 .cases f with
  | next=>
   let#[σ',H',I',rfl,q,hq,rfl]:=z;ext ìg
   have hqq:upd ϒ3 p ϋ9 q=↑ Y6:=by rw[zR npq.symm,yy]
   have I2:=I'.Vy (v:=.dS IE) hqq qI (Ū0 ąZ) ąZ;have e1:Ext H ϒ3:=Mu hq _;have e2:Ext ϒ3 (čC):=.ins (ÑJ) _;have e3:=ū3 (Ext.dK hqq (.dS IE));exact#[σ',_,I2,h3 ćs (r2.Τ9 ún #[C,dx,q,[],g1,?_,yy,ä])]
   .have nbq:b≠q:=λ y=>by subst y;rw[z] at hq;cases hq
    rw[zR nbq,zR hb,zR nbq];show z
   .rw[zR npq,yy]
  | ret u=>show z
  | _=>show z
def ŀ0 (i j k:Nat):yK:=λ E L S=>∃ p m x d,Bs/\Qk/\ÏP/\L[k]?=↑↑d/\Ž6<â/\E.nx L (ups S p (.zE (putD m ò4 d)))
def Ď8 ď Æz (hv:PE X v (nY k)) ËX
  (hs:tH v ↑(ÿY) U_=su):zw X (B_ [ÿY] v pos) (ŀ0 i j k):=by
 exact#[λ E E' L S hE z0=>(by let#[p,m,x,d,h1,h2,h3,h4,h5,h6]:=z0;show#[p,m,x,d,h1,h2,h3,h4,h5,sH À h6]),õJ];let#[L,S,r1,r2,p,m,x,d,h1,h2,h3,h4,h5,h6]:=hu;ext ãh;cases Þo;ext ÆX;let#[t,t1,t2]:=r1.2 k _ h4;subst w2 y2;have npq:p≠q:=λ z=>by subst z;rw[g2] at g3;cases g3
 have kq:wX η čD ð q Ød:=I.zt q _ g3;have I1:=I.Vy (v:=.dK vs) g3 qI (Ū0 kq) kq;exact zF (Ņ2 Xq Ùy hi hv hs gV s σ _ { D with nx:=fun σ' H'=>σ'=σ/\H'=upd čD q (.dK ÏQ) } I1 ?_) λ f s' z=>?_
 .show#[t,t1,Ŗ,w1,p,C,dx,_,à q,rfl,ÑJ,c2,c3,rfl,ů,y1,q,_,rfl,cY.k (k:=C9 x) yy (by rw[<- g4.len];show h5),rfl,rfl]
 .cases f with
  | next=>
   let#[σ',H',I',rfl,rfl]:=z;have I2:=I'.Vy (v:=.dS p ÏQ) yy qI (Ū0 ĉE) ĉE;rw[ĩ1,ĩ1] at I2;have e3:Ext H (upd H q (.dS p ÏQ)):=.dS g3;exact#[σ',_,I2,h6 ćs (r2.Τ9 ún #[C,dx,q,_,g1,?_,yy,(wu.put g4 _ t2).ext e3])]
   .rw[zR (λ y=>by subst y;rw[g3] at z;cases z;show hu HU)];show z
   .rw[zR npq];show g2
  | ret u=>show z
  | _=>show z
def Ç7 Ý æ è BE{m:rF}(r2:Ϝ) (h2:Qk) (hk:kA K) ĩ:∃ C dx q o,H p=↑ ϋ9/\vZ/\čB/\lU H q qQ o/\(ÁY=none/\o=none\/∃ d u,ÁY=↑d/\o=↑u/\zA Ò d u):=by
 ext ãh;cases Þo;exact#[C,dx,q,oV vs ò4,g2,c2,c3,È #[vs,Æ x,Æ #[p,g3],rfl,rfl],?_];rcases θ0 g4 ò4 with ⟨n1,n2⟩ | ⟨d,u,n1,n2,n3⟩
 .show È #[n1,n2]
 .show Æ #[d,u,n1,n2,n3]
def ũ1 AJ:zr:=fun L S Q=>∃ p m x d,Bs/\Qk/\ÏP/\ÁY=↑d/\Jq
theorem Ĕ6 ď Æz ËX (hs:ū8 ie):PD X (sP (LW) ie pos) (ũ1 i j):=by
 exact#[fun L S Q Q' hq z0=>(by let#[p,m,x,d,h1,h2,h3,h4,h5]:=z0;show#[p,m,x,d,h1,h2,h3,h4,hq À h5]),Œ (Ŀ1 Xq Ùy hi hs) Ų];let#[L,S,r1,r2,p,m,x,d,h1,h2,h3,h4,h5]:=hu;ext ÆX;subst w2 y2;obtain⟨C,dx,q,o,g1,g2,g3,g4,⟨n1,_⟩ | ⟨d',u,n1,rfl,n3⟩⟩:=čE
 .rw[h4] at n1;cases n1
 .rw[h4] at n1;cases n1;show#[Ŗ,w1,p,C,dx,_,à q,rfl,g1,g2,g3,rfl,ů,y1,q,u,rfl,g4,h5 u H n3 v_]
def Ţ6 AJ:xI:=fun L S Q=>∃ p m x,Bs/\Qk/\ÏP/\Q (! Îk) S
theorem ė0 ď Æz ËX (hm:QJ tR (LW)=Á):zG X (Gh ie [tR] [LW] pos) (Ţ6 i j):=by
 exact#[fun L S Q Q' hq z0=>(by let#[p,m,x,h1,h2,h3,h5]:=z0;show#[p,m,x,h1,h2,h3,hq À h5]),PQ (ě1 (ü7 Xq hi Ùy) hm) Ų];let#[L,S,r1,r2,p,m,x,h1,h2,h3,h5]:=hu;ext ÆX;subst w2 y2;let#[C,dx,q,o,g1,g2,g3,g4,n]:=čE;exact#[ů,y1,Ŗ,w1,p,C,dx,_,à q,rfl,g1,g2,g3,rfl,q,o,rfl,g4,_,rfl,?_];have:ÁL=Îk:=by rcases n with ⟨n1,rfl⟩ | ⟨d,u,n1,rfl,_⟩ <;> rw[n1] <;> rfl
 ext Hz;show h5 H v_
end
structure gO u9 Ċ Ï Û2 ο6 Đ É9 ë5:Prop where
 ex:∃ (f:Addr) (fd:pW),wA Dt k ϩ7/\čF
 mo:Hw
def nE ë5 (to:zr) (tA:yw):zr:=fun L S Q=>to L S λ x S1=>∃ p v,B1/\S1 p=↑(.zE v)/\tA Ĺ λ ds S2=>sp (x::ds) S2 Q
section
variable {Ì}{èi}{υ}{Ń}{ý}{Ĳ}{ž2}
def nE.mo (h1:y7 to) (h2:Hw) (h3:Wd):y7 ϧ6:=fun L S Q Q' hq z=>
 h1 ó (λ x S1 z0=>by let#[p,v,a1,a2,a5]:=z0;show#[p,v,a1,a2,h3 ς (λ ds S2 z=>h2 _ Xs hq z) a5]) z
def Ũ0 Ω0(F:gO En m Ā3) VG Hl È5 äR
  (ht:eval ϑ3 Ù=(do
   let ov <- tN
   Ća
   let (f,ML) <- õK
   Æc)):
  PD X ϑ3 ϧ6:=by
 ext çQ;exact#[ÿZ,ϓ9];ext ŀ;exact ør (pl:=pl) (zF (Bm Ŋ (λ x H1=>∃ a C dx fs,LJ/\Õm/\l7 Ą5/\Meth Ą5 m f/\Øz/\vj Üv λ vs H2=>nW üm E0) I èo) Cr) ht
 .ext ãt;exact#[p,C',dx,_,rfl,j2,j5,j6,?_,L,S1,DA,p1,ĝ ς (λ ds S2 z xs H2 a1 a2 a3=>#[Ŗ::ds,S2,ã rfl a1,a3,hmo éL]) g5];rw[IF];have:ùI:=by
   ext îc
  ext TB
 .ext úp;exact Qp úo (zF ûC λ us s2 z0=>?_) hst hpl;let#[vs,H2,I2,r,q2]:=z0;exact#[SX,?_];show ŕ7 (us:=ÃW) (vs:=œ::vs) ćt h1 X4 h2 ä Ζ6 I2 (ã rfl r) ĄI
structure W9 u9 Ċ Ï Û2 Đ:Prop where
 ex:∃ (C f:Addr) (fd:pW),wA Dt k f fd lP (nW K λ ds S Q=>∃ p,ds=Mr/\S p=↑.iQ/\Q .zB ÍK)/\Binds K fd lP []/\vU/\Mk ο5/\mg "Desk"=↑ IJ
def Ň1:zr:=λ _ S Q=>∀ p,BL->Q ī ÍK
def ó9 è ú{o u:O}:ups (ups S a o) a u=ups S a u:=by
 funext b;unfold ups;split <;> rfl
theorem Ď5 Ω0{p:Pos}(F:W9 En k) VG (hk:k+1<=k':=by decide) (hg:Gl X "Desk":=by rfl):PD X (Ă (ć "Desk" p) [] sy) Ň1:=by
 let#[C,f,fd,h1,h2,h3,h4,h5]:=F;exact#[êi,Œ (Í9 (E:=E0) h4 h1 X4 hg h5 h2 ä Ζ6) Ų];ext ŀ;intro x dx hx hdx hne;have e0:Ext ĉF èw:=Mu (by rw[zR (Ł hne)];show hx) _;have e2:=(Ext.new hdx Χ1).trans e0;exact#[[Ar],ups S x .iQ,ã rfl ä,(r2.new hdx).ups e0 #[C,dx,h3,yy],x,rfl,mL,?_];rw[ó9];intro v H2 a1 a2 a3;show#[a1,z x (r2.none hx) rh H2 rfl (Þf a2) a3]
end
end L3
namespace L5
open Ë å L2 L3
open Ô hiding St
def mB:dD->ö->Key->G9
 | k::ks,Ņ,x=>if k=x then ↑t else mB EG x
 | _,_,_=>none
theorem ī9 è{x:Key}:∀ {m:rF}ÿ,ÁJ->mB Np x=none/\vB m x=none\/∃ t d,mB Np x=↑t/\vB m x=↑d/\uL
 | [],ts,h=>È #[by cases ts <;> rfl,rfl]
 | O0::m,[],h=>by simp[zo] at h
 | O0::m,Ņ,h=>by
  simp![As,zo] at h;let#[c,cs,e,h1,h2]:=h;cases (e);rw[ù4];simp![As,mB];by_cases hk:k=x
  .rw[Jt,Jt];show Æ #[t,_,rfl,rfl,h1]
  .rw[Yi,Yi];show ī9 h2
section
variable {q8}{è}{Ï9}{xr}{ß}
@[simp] def ĳ6 AJ:zEO:=fun Y=>match ĸ,pk with
 | Öj,↑↑ Ke=>mB EG ò4
 | _,_=>none
theorem ì6 þ q8 ß{f:dD->ö->Str->M4}{o:α}(e:(match ĸ,pk with
 | Öj,↑↑ Ke=>f EG x
 | _,_=>none)=↑o):∃ ks ts x,čG/\pk=↑↑ Ke/\f EG x=↑o:=by
 cases h1:ĸ with
 | none=>ext Ám
 | some v=>
  rw[h1] at e;cases v with
  | none=>show ť
  | some v=>
   cases v with
   | own c=>show ť
   | im t=>
    cases t with
    | zE ks ts=>
     cases h2:pk with
     | none=>rw[h2] at e;show ť
     | some v=>
      rw[h2] at e;cases v with
      | none=>show ť
      | some v=>
       cases v with
       | own c=>show ť
       | im t=>
        cases t with
        | str x=>show#[ks,ts,x,rfl,rfl,e]
        | _=>show ť
    | _=>show ť
@[simp] def Λ2 AJ:sZ:=fun Y=>match ĸ,pk with
 | Öj,↑↑ Ke=>↑!(mB EG ò4).isSome
 | _,_=>none
def ER.Τ9 C3 ÿ(hE:GL) (h:čG):∃ p m,Bs/\Qk/\ſ3/\Ùf:=by
 ext Ëm;let#[p,m,#[rfl,h3],h4,h5]:=h2;show#[p,m,h1,(nN h4).2,h3,h5]
def È0:wO (ĳ6 i j) (ũ1 i j):=λ S Z L Y y Q hE e hq=>by
 ext ñw
 .ext ãH;subst k2;rcases Ćb with ⟨n,_⟩ | ⟨t,d,n1,n2,n3⟩
  .rw[e] at n;cases n
  .rw[e] at n1;cases n1;show#[p,m,x,d,g1,g2,k1,n2,hq d Gz n3]
def î1:oQ (Λ2 i j) (Ţ6 i j):=λ S Z L Y y Q hE e hq=>by
 ext ñw
 .ext ãH;subst k2;cases e;exact#[p,m,x,g1,g2,k1,?_];have:Îk=(mB Np ò4).isSome:=by
   rcases Ćb with ⟨n1,n2⟩ | ⟨t,d,n1,n2,_⟩ <;> rw[n1,n2] <;> rfl
  ext Hz;show hq Gz
end
@[simp] def js Ip:zLO
 | uV::xs=>F (uV::xs)
 | _=>none
def Ď3 ę C6 GS Ĉ Ù0 YN Qo(hf:yO f to) (h:l4 g u):wW (gy (js F) ÁO) čH:=λ S Z L Y y Q hE e hq=>by
 ext ôT;ext çu;split at e3
 .ext Èk
  cases x with
  | zE ks ts=>
   exact čI;let#[p,m,ſ4,h3,h4]:=Vw.zE r1;exact#[p,m,rfl,h3,ûD];have r3:kZ S2 Z (uV::zs) (Ŗ::ds):=#[_,_,rfl,Wh,r2];exact#[λ a=>Z a/\YB ∉D.ref p::ds,_,_,ăf,r3.free Éa,e4,λ d S' s r=>hq ύ ÃX ?_];show ìZ
  | _=>cases e4
 .cases e3
@[simp] def ı6 Ü:Sm:=fun Y=>↑(.nx (HM i ↑ ĉG))
def Ø5 ę Ü:zQ R (ı6 i) (nh Ň1 GU):=λ S0 Z0 S Z L Y o E F e P=>by
 ext ÜE;show P Ð (F.Ż1 (ts:=.zE Co) (ds:=.zE []) Üq #[rfl,ä])
section
variable {Ė}{Ý}{Ϙ9}{Β7}{ϝ}
def Fk Ï (m qual:Str) U9:Prop:=∃ (f:Addr) (fd:pW) (C:Addr),nH K m ÄT f fd/\æs
def Fk.i {C f:Addr}ω0 ÊC (b:öM) áQ (m2:iE) (m3:BI) (l:Nf=↑#[oc,od,De ýC,osl])
  (cd:ϛ0):XD:=#[f,_,C,aN l cd m3,a,Ìm,b,m2,m3]
def Fi Ï U9:Prop:=∃ (C f:Addr) (fd:pW),nH K ÇY st f fd/\vU/\Mk ο5
def Fi.i {C f:Addr}ω0 ÊC (b:ÈV) (l:Nf=↑#[oc,od,De (Ć8 ÇY eM ct),osl])
  (cd:ώ8 K cdv "Desk.__init__"=true) (k2:BI) (m1:ÊT) (m2:iE) (m3:Ϩ4):Fi K st:=#[C,f,_,aN l cd k2,a,m1,b,m2,m3]
def kA.i ĸ5 ÊC áQ (n:Mb Gw "kept"=↑none):kA K:=#[C,a,Ìm,n]
abbrev Ŵ4 U9 (m qual:Str) É9:Prop:=∀ Ŭ6,Š3->Wq ýC ę1=SW
variable {Ĩ8}
def fdK ę ãr
  (Ŕ:∀ Ö8 Ð5,bW->
   ∃ t,ØQ/\Ap):gO ÂV:=by
 ext ĀZ;exact#[#[f,fd,ŷ7 ÆH,ϵ3,C,hc],Qs];ext Ìd;show ώ1
end
def zcp:Stmt->Å3
 | øq=>b
 | _=>[]
abbrev KF:=dD->ö->ö->õ (Δ4)
def nu (F:KF):wt:=λ ds S Q=>∃ p m es ts ys r,(ds=Ŗ::es/\Qk)/\(ÁJ/\oy ts=true)/\(zo S ys es/\oy ys=true)/\F Np ys=↑r/\
 ∀ d S1 m',Sx S S1->Sn S1 r.1 d->m'.map Ě=QB->zo S1 r.2.2 (m'.map ũ)->Q d (ups S1 p (.zE m'))
def nu.mo {F:KF}:ν4 (nu F):=λ _ _ _ _ hq z=>by
 let#[p,m,es,ts,ys,r,h1,h2,h3,h4,h5]:=z;show#[p,m,es,ts,ys,r,h1,h2,h3,h4,λ d S1 m' a b c e=>hq À (h5 d S1 m' Fu e)]
def lJ:KF:=λ ks ts ys=>match ys with
 | [ů,f]=>if (μ3 λ k=>Í (k=Æ x))=true\/¬ ks.length<â then none else ↑(B8,ks++[Æ x],ts++[f])
 | _=>none
def è8 {m:rF}Hd û(h:¬ ((Þp).any λ j=>Í (j=k))=true):putD m k d=m++[O0]:=by
 unfold putD;rw[zgX] at h;show Fv
theorem Ê6 OX(hN:S8=3) ñ è xt(h:nu lJ Dm):kT (ŀ0 0 1 2) (gr Ùz) wB:=by
 let#[p,m,es,ts,ys,r,ſ4,#[h3,h3'],#[h4,h4'],h5,h6]:=h;unfold lJ at h5;split at h5
 .rename_i x f;split at h5
  .cases h5
  .rename_i hn;cases h5;simp![P3,Classical.not_not] at hn;let#[_,_,rfl,rfl,d,_,rfl,h7,rfl]:=h4;have hl:Ž6<â:=by have:=hn.2;rwa [AS] at this
   have e:=è8 (d:=d) hn.1;exact#[p,m,x,d,rfl,h2,rfl,rfl,hl,?_];rw[e];exact h6 Ð (.refl S) mS ο8;rw[IN];show h3.append (ã h7 ä)
 .cases h5
def jQ NY (f1 f2:zEO) ł1 (ga:Ϗ):KF:=λ ks ts ys=>if (Dg=1/\S8=4) then
 (f1 (čJ)).bind λ w=>(f2 (ãN)).bind λ v=>
  (c Ćc).bind λ b=>if Nj then
   (ga Ćc).bind λ zs=>if oy zs=true then lJ EG zs else none
  else none
 else none
def ER.Ü6 è OX UO ñ(h:zo S Ħ8):ER Åb (ś4) N9:=by
 exact#[λ _ z=>B7,ϯ4,λ i c e=>?_]
 .let#[y,e1,e2]:=œ6 e;cases e2;let#[d,e3,e4]:=h.ų9 e1;show#[d,į6 e3,by rw[show yj Åb=S from ôB];show e4]
 .let#[y,_,e2]:=œ6 e;cases e2
def zaK è:yj Åb=S:=ôB
def Á8 OX Yv{te1 te2:zr}ğ2{ua:yw}{tx ty:yK}(h1:wO f1 te1) (h2:wO f2 te2) Ϲ0 (ha:l4 ga ua) ñ è xt(hs:nu (jQ ϭ1) Dm):
  kT ýD (kT þD (kT ér ty)) wB:=by
 let#[p,m,es,ts,ys,r,#[rfl,g1],#[g2,g2'],#[g3,g3'],g4,g5]:=hs;unfold jQ at g4;split at g4
 .ext Dr;let#[hl1,hl2]:=hl;let#[w,a1,g4]:=ϟ g4;let#[v,a2,g4]:=ϟ g4;let#[b,a3,g4]:=ϟ g4;split at g4
  .rename_i hb;subst hb;let#[zs,a4,g4]:=ϟ g4;split at g4
   .rename_i hp;have hd:Sn S (.zE Np) ī:=by ext â8;show#[p,m,Dj,g1,g2]
    have E0:ER Åb (ÌI) (ÍL):=ER.Ü6 (ã hd g3);have L0:(ÌI).length=(ÍL).length:=by simp[oA,vP,g3.len]
    exact h1 S Ð w _ E0 a1 ÿP;have E1:=(E0.grow s1).jP L0 2 r1;have L1:(Āa).length=((ÍL).set ÖO).length:=by simp![zg2];show L0
    exact h2 S1 Ð v _ E1 a2 Ϝ0;have E2:=(E1.grow s2).jP L1 3 r2;exact hc S2 Ð true _ E2 a3 ϯ5;rw[ĭ];have e0:((Āa).set 3 ↑d2)[0]?=↑↑ ī:=by
     rw[om (),om ()];rfl
    change nE ÃY (yL 0) ua _ S3 Q;unfold nE yL;rw[e0];exact#[p,m,rfl,s3 À (s2 À (s1 À g1)),ha S3 Ð zs _ (E2.grow s3) a4 λ xs S4 s4 r4=>?_];have s14:=lg s4;exact#[p,m,xs,ts,zs,r,#[rfl,s14 À g1],#[Ź s14 ts g2,g2'],#[?_,hp],g4,λ d S5 m' b1 b2 b3 b4=>g5 d S5 m' (s14.trans b1) b2 b3 b4];have:=r4.free (Z':=ϯ6) (λ a z=>z) (λ a _ z=>z)
    rwa [zaK] at this
   .cases g4
  .cases g4
 .cases g4
@[simp] def bx ğ5 (F:KF) ŷ (g2:Sm):Sm:=fun Y=>match pk with
 | ÿA=>Ř λ y=>if ćI then (F EG [y]).bind λ r=>if çT then êj else none else none
 | _=>none
theorem è4 {x:T}(h:L3.eqT x (B8)=true):x=B8:=by
 cases x with
 | str s=>rw[show s="ok" from KA h]
 | _=>show á (show Á=true from h) ()
def ÿ9 ę Cd{F:KF}Ĉ ŝ{g2:Sm}{t1 t2:yK}Mw (h2:zQ R g2 t2):zQ R (bx j F f g2) (Ų3 (nD (x9 ÀS (nE ću) Ùz)) t1 t2):=λ S0 Z0 S Z L Y o E Fr e P=>by
 unfold bx at e;ext Ĥ
 .rename_i ks ts h0;let#[y,e1,e]:=ŗ;ext Ĥ
  .rename_i hp;let#[r,e2,e3]:=ŗ;split at e3
   .rename_i hq;let#[z,ks',ts']:=r;let#[hz,hp']:=hq;cases è4 hz;simp![oy,By] at hp hp';let#[p,ob,k1,k2,k3,k4]:=Fr.er.ow j _ h0;cases ob with
    | zE m=>
     let#[rfl,k6]:=k3;change nE ću L S _;unfold nE yL;rw[k1];exact#[p,m,rfl,k2,hf Ţ y _ Fr.er QR];exact#[p,m,[d],ts,[y],_,#[rfl,s1 À k2],#[Ξ8 ts hp.2 k6,hp.2],#[ã (ž5 y hp.1 r1) ä,by simp![oy,Òx];show hp.1],e2,λ c S2 m' b1 b2 b3 b4=>?_];subst b2;exact#[B8,B8,mS,mS,Nu,Nu,?_];exact h2 CV _ Z L _ o E ((Fr.grow (vG b1)).mut (us:=.zE ks' ts') (es:=.zE m') j h0 k1 #[b3,Ξ8 ts' hp'.2 b4]) e3 P
    | _=>show k3.elim
   .cases e3
  .cases e
 .cases e
section
variable {Ė}{Ý}{Ϙ9}{Β7}{ϝ}{Jp}{ý}
def ĵ4 {F:KF}(Fn:XD) (Sc:TH) (hb:ËT) (hl:∀ ks ts ys r,F EG ys=↑r->Dg+1=İ)
  (Ŕ:∀ Ö8 Ð5,bW->
   ∃ t,ØQ/\∀ ds S Q,nu F Dm->t wB):gO Ê m ŕ ps (nu F):=by
 let#[f,fd,C,Fn,hc]:=Fn;exact#[#[f,fd,ŷ7 Fn Sc (λ ds S Q h=>?_) λ cdv A ġ s H E hr=>Àq,Fn.binds hb,C,hc],nu.mo];let#[p,mm,es,ts,ys,r,#[rfl,_],_,#[h3,_],h4,_]:=h;rw[<- hl ĉ h4,GM,θ5]
def fdD (Fn:Fi K st) Ú9 (Sc:čK) (hb:čL)
  (Ŕ:∀ Ö8 Ð5,xA (xE yQ Ê lP "Desk.__init__" oj um).xN (IP) (Ń0 0)):W9 Ê ŕ:=by
 let#[C,f,fd,Fn,hc,hk]:=Fn;exact#[C,f,fd,ŷ7 Fn Sc (λ ds S Q #[p,h,_]=>čs) λ cdv A ġ s H E hr=>#[_,Ŕ um,λ ds S Q #[p,e,h1,h2]=>?_],Fn.binds hb,hc,hk,N8 X G hc];subst e;show#[p,rfl,h1,h2]
end
end L5
namespace L3
open Ë å L2
open Ô hiding St
section
variable {Ì}{o e:Expr}{ă}{pos ap:Pos}
def zg Ü ā υ4 RW:PE Ve:=ŕ6 ž1
structure eJ u9 Ċ Ï Û2 ο6 Đ É9 ë5:Prop where
 k:gO Ê m Ā3
variable {YN}{υ}{ā2}{ý}{Ĳ}{Ń}{ž2}
def á5 Ω0{rpos:Pos}(F:eJ En "keep" Ā3) VG Hl È5 ĳ9
  ďh
  (ht:eval òn Ù=(do
   let ov <- tN
   čM
   let (f,ML) <- E6 [ov] (Α3 ov "keep" pl)
   Æc)):
  zw X (ÃZ ↑ òn rpos) (gr ϧ6):=Ř6 (Ũ0 F.k hr ho ha ĊZ)
def Ä2 Ω0{cp2 cp3 ip:Pos}ď{p q:Å3}Ω6 ŝ(F:eJ En "say" Ā3) VG Hl (ha:Vm) úa ĳ9
  (hst:Ql) ϟ8
  (ht:eval ïg Ù=(do
   let ov <- tN
   čM
   let (f,ML) <- E6 [ov] (Α3 ov "say" pl)
   Þq pos f ML (BN pos (FI [e] Ù)) čN)):
  zw X (.If (Gh ïg [.NotEq] [AO (B8) n cp2] cp3) p q ip) (Ų3 (nD (x9 ÀS (nE sp to ÑO) Ùz)) t u):=
 į1 (ō1 hr (Ũ0 F.k hr ho (ķ4 ha ŉ6 hst) ĊZ) Ζ0) rX
end
end L3
namespace L5
open Ë å L2 L3
open Ô hiding St
section
variable {Ė}{Ý}{Ϙ9}{ϝ}{ý}
def zbB (hk:kA K) (F:Fi K st) Ú9 {pos' ap pos sp:Pos}(e:IP=[B_ [ða] Ϛ0 pos]:=by rfl) (Sc:čK:=by show kL) (hb:čL:=by show λ _ _ _ _ _ _=>Ţ8 ğ) (hl:ôC:=by rfl)
  (hs:∀ env:Env,tH Ϛ0 ↑(ða) pos.line env=su:=by show ğ):W9 Ê ŕ:=by
 exact fdD F X G Sc hb λ f cdv A ġ s H E=>?_;rw[e];show Ŭ9 (ĕ1 hk (zg 0 rfl (ZV hl)) (hs _))
def zbA (hk:kA K) (F:Fk K Îz st) {p1 p2 p3 p4 p5 p6 p7 p8:Pos}ď(e:IP=[B_ [ål] Ćd p6,ÃZ ↑(AO (B8) n p7) p8]:=by rfl) (Sc:vq W7 W7 oj:=by show kL)
  (hb:Ŵ4 st Îz W7:=by show λ _ _ _ _ _ _=>Ĝ7 ÎG) (hl:ôC/\Ér ("name":Str)=↑ uI/\Ér pR=↑ uI:=by show ÍM)
  (hs:∀ env:Env,tH Ćd ↑(ål) p6.line env=su:=by show ğ):eJ Ê "keep" ŕ W7 ÃY:=by
 exact#[ĵ4 Åc (λ ks ts ys r h=>?_) λ f cdv A ġ s H E hr=>#[_,?_,λ ds S Q h=>Ê6 Ą9]]
 .unfold lJ at h;ext č
  .rfl
  .cases h
 .rw[e];show vk (Ď8 hr hk (zg 0 rfl (ZV hl.1)) (zg 1 rfl (ZV hl.2.1)) (zg 2 rfl (ZV hl.2.2)) rfl (hs _)) (Ŭ9 (Ř6 Ζ0))
def ą8 OX Yv C3{ts ys:ö}{r:Δ4}(h:jQ ϭ1 EG ys=↑r):Dg+1=2:=by
 unfold jQ at h;ext č
 .ext Dr;rw[hl.1]
 .cases h
def Ą7 Ì{sts:Å3}:xA X sts Zj:=#[Îi,λ _ _ _ _ _ _ z0=>òO]
def zbz OX Yv{s1 s2 s3:Stmt}äC (he:õL)
  (Ŕ:∀ Ö8 Ð5,ài):
  çX:=by
 exact#[ĵ4 Åc (λ ks ts ys r h=>ą8 h) ñb];let#[te1,te2,tc,ua,tx,#[h1,h6,h7],h2,h3,h4,h5]:=Àq;rw[he];show#[_,vk h1 (vk h6 (vk h7 Ą7)),λ ds S Q h=>Á8 ē7 h4 h5 h]
end
end L5
namespace L2
open Ë å Ô
def vv ĩ:Û:=x.cps.toList.map λ c=>Õ0
def ş7 ĩ:It:=#[λ i _=>i<Ϸ9,λ i H v H'=>H'=H/\∃ c,ZT[i]?=↑c/\v=Nl,λ i _=>Ϸ9<=i]
def ċ9 Ė Ý þ4 ĩ Ď7 (it:Addr):Turn ÂR (ş7 x) ÄR (λ i h=>h.IsStrIter it "str_ascii_iterator" x t i) where
 mem:=∅
 obj:=λ i h st b hb=>by
  ext Η8
  ext Çc
 keep:=λ i h h' st k=>by
  let#[o,e,c,d]:=st;show#[o,k it YJ,c,d]
 item:=by
  ext ÂM;have hx:ZT[i]?=↑(ZT[i]'hg):=ON hg;exact wpAny_pyNext_ascii_item st hx Će;have I1:Inv Č H { s with heap:=h',toks:=Cg }:=Áw (t':=Cg) æN;ext Ąf;show#[_,rfl,ű3 (s:={ s with heap:=h',toks:=Cg }) e c d () #[Ã #[[ZT[i]'hg].toArray],H,I1,ξ,#[rfl,_,hx,rfl],st',ϗ4]]
 done:=by
  ext ÂM;show wpAny_pyNext_ascii_end ö6 st (aT hg) Åx
 self:=λ _ _ _ _ _ st h=>wpAny_pyIter_striter_ascii st h
section
variable {Ì}{þ4}
def zaH (tl:TE):TI:=fun σ H R=>tl ç λ v H1=>∃ x,v=ů/\ËD/\R (ş7 x) H1
def ý9 {l:Expr}ăP:PI Ld l (zaH tl):=by
 ext Ąs;ext ùU;let#[x,e,ha,q]:=q1;subst e;ext ϲ0;exact wpAny_pyIter_ascii ha ?_;exact#[AL,[AL],_,_,H1,rfl,Ãf (t':=Äa) NC,ċ9 x t _,Zb,OJ,q];have e:b=AL:=NB
 subst e;show Îb
end
end L2
namespace L3
open Ë å L2
open Ô hiding St
section
variable {Ì}{tg l:Expr}{ŝ}
def ZA.text Ý{H1:Hp}ā:ZA K H1 (ş7 x) #[Ïc,Y_]:=λ i H S _ x2 _=>by
 exact#[Γ7,λ hl=>show Ϸ9<=i by simpa [vv] using hl];have hd':(Ïc)[i]?=↑d:=hd;unfold vv at hd';rw[Db,Fa] at hd';let#[c,e1,rfl]:=sj hd';have hi:i<Ϸ9:=ðu
 exact#[hi,Ôj];let#[rfl,c',e2,rfl]:=q;rw[Pi,e2] at e1;cases e1;show#[Qy,x2,by simp![zA,čO]]
def ň2 Fw:ou:=fun L S R=>te L S λ d S1=>∃ x,d=ů/\ËD/\R #[Ïc,Y_] S1
def ķ9 (h:PD X l te):yc Ld l (ň2 te):=by
 exact#[fun L S Q Q' hq z=>h.mo ó (λ d S1 #[x,a,b,c]=>#[x,a,b,hq À c]) z,JB (ý9 h.pe) Y9];ext ĎZ;let#[x,rfl,a,b]:=h1;show#[x,q1,a,b _ sT .text]
end
end L3
namespace L5
open Ë å L2 L3
open Ô hiding St
@[simp] def Ŕ3 ŷ:Ϗ:=fun Y=>Ř λ y=>match y with
 | ů=>if ËD then ↑((vv x).map ø) else none
 | _=>none
theorem Ō8 è:∀ ss:Û,ĉC
 | []=>ä
 | s::ss=>ã mS (Ō8 ss)
def Ħ5 Dn Ĉ ŝ Xv:j8 b (Ŕ3 f) (ň2 te):=λ S Z L Y ts Q hE e hq=>by
 ext ÌE;ext Ů
 .rename_i x;ext Ů
  .rename_i ha;cases e2;cases Jf;show#[x,rfl,ha,hq p_ (Ō8 _) ϩ2]
  ext Ż
 ext Ż
end L5
namespace L2
open Ë å Ô T5 cA
section
variable {ώ}{Ý2}{t u v:Tok}{Ny}
def Þ0 Ī(hy:(FU == 0)=Á) (hk:(Í (k < -(2 ^ 63:Int))||čh)=Á) (hsz:ϑ<=â) (hsz2:(Ćf).length<=â)
  (hq:∀ (l:Ϣ2) ą,tj Ě=EA x y k->Q Fs { s with heap:=ëd,toks:=n }):
  Ä í (call ăd [Ã x t,Ã y u,Â k v]) ï:=by
 cases h1:éb
 .cases hf:(åI).isEmpty
  .exact Ab Êe (meets_str_split_sep_max Ïk hy hf hsz hsz2) ?_;change wants Q E _ { s with toks:=_,heap:=Ŧ { cls:=ſ,data:=ň (strsFrom Ĕ (Ćf)).toArray } };rw[strsFrom_eq];show àV
  .show Ab Êe (meets_str_split_max_not_found Ïk hy hf)
    ãg
 .show Ab Êe (meets_str_split_max_cannot_occur Ïk)
   íP
variable {Ì}
def Â7 sd Rf:Prop:=é5 ≠0/\(0<=k/\U0)/\UA<=â/\(N7 a (uM Ñ 0 UA (YQ a k)) é5).length<=â/\(EA Ñ k).length<=â
def Ō2:EC:=λ x vs H Q=>∃ a b k,Po/\vs=[qX,Di]/\Äb/\∀ l,ÿ1->Q ū ñc
theorem à5:jA X "str.split" Ō2:=by
 ext MB;let#[a,b,k,rfl,rfl,#[h1,h0,h2,h3,h4],q]:=h;ext VX;cases rv with
 | cons r1 rv=>
  let#[_,rfl,u2,rfl]:=(show Vals [GF k] _ from rv).one;let#[u,rfl]:=r1;exact Þ0 Ôn (by rw[zi3,ϒ4,ϒ4];lia) ē7 λ l n e=>?_;show#[KM,_,B6 (t':=n) (o:=Å (ϛ1 Am)) ée,rfl,Jh]
def zcP:wI X (Į "int") (λ xs H Q=>∃ a n,xs=[rY]/\vS a=↑n/\Þr/\Q BG H):=by
 ext Hh;let#[a,n,rfl,h1,h2,q]:=h;ext ük;show PySem.W.KIN.call_text Ŭ ïW
end
end L2
namespace L5
open Ë å L2 L3
open Ô hiding St
section
variable {Ì}{Ý}{a b e:Expr}{Ń}{á6}{υ}{NR}
def kO:wx:=λ x y S Q=>(∃ u v,x=Ã u/\y=Ã v/\Q ÏR S)\/kP Á UX
def Ķ6:R2:=λ x y H Q=>∃ u v,x=Ã u/\y=Ã v/\Q ÏR H
def Ć4:yM X (GJ .In) Ķ6:=by
 ext ôY;let#[u,z,rfl,rfl,q]:=h;ext Xg;show PySem.P.in_str Ti
theorem kO.mo:v9 kO:=λ x y S Q Q' hq h=>ë (λ z0=>by let#[u,v,a,b,c]:=z0;show È #[u,v,a,b,hq À c]) λ h=>Æ (kP.mo Úi)
theorem kO.fits:vb K kO (λ x y H Q=>Ķ6 qu\/Ų7 K Á qu):=λ x y d e H S Q h1 h2 h3 h=>by
 rcases h with ⟨u,v,rfl,rfl,c⟩ | h
 .show È #[u,v,h1,h2,c RX h3]
 .show Æ (kP.fits Yk h)
def Ý3 ý ν Š (hm:QJ .In b=Á):PD X Āb (x9 kO Ġ):=dk éM
def ă9 ý ν Š (hm:QJ .In b=Á):zG X Āb (nD (x9 kO Ġ)):=jV éM
def wa:Ŝ:=λ x y=>match x,y with
 | Ã u,Ã v=>↑ ÏR
 | x,y=>m9 Á x y
def ę0:xo zk wa kO:=λ S Z x y z d e Q hz hx hy ef hq=>by
 unfold wa at ef;split at ef
 .cases ef;cases θ4;cases hy.str;show È #[_,_,rfl,rfl,HF]
 .show Æ (ł6 S Z À ÈU)
def Ņ7:wG:=λ ds S Q=>∃ a n,ds=[rY]/\vS a=↑n/\Þr/\Q BG S
def Ñ3 (hm:X.mg "int"=none) È5 (hg:Gl X "int") BC:PD X (Ă (ć "int" p) DY) (o7 Ņ7 tA):=
 ji (fj zcP Hy öV pz) (λ ds S Q Q' hq z0=>by let#[a,n,h0,h1,h2,h3]:=z0;show#[a,n,h0,h1,h2,Μ0]) (λ xs ds H S Q h0 h2 h=>by
  let#[a,n,rfl,h1,h3,h]:=h;ext øI;show#[a,n,rfl,h1,h3,Vh]) ĝ
@[simp] def ũ5:zLO
 | [rY]=>if Þr then (vS a).map Â else none
 | _=>none
def Ė3:nq zk ũ5 Ņ7:=λ S Z ys z ds Q hz hv e hq=>by
 unfold ũ5 at e;ext Ĥ
 .ext Ĥ
  .ext Dr;let#[n,e1,rfl]:=Ol;ext CL;cases h1.str;show#[_,n,rfl,e1,hl,DF]
  .cases e
 .cases e
def gj:wG:=λ ds S Q=>∃ a b k,ds=ýE/\Äb/\∀ l,J8->Q ū (ups S l (Å (ϛ1 JF)))
def gj.mo:oS gj:=λ ds S Q Q' hq z0=>(by let#[a,b,k,h0,h1,h2]:=z0;show#[a,b,k,h0,h1,õd])
def gj.fits:nV K gj λ xs H Q=>∃ x rest,W3/\Ō2 cX:=λ xs ds H S Q h0 h2 h=>by
 let#[a,b,k,rfl,ok,h]:=h;simp![zu,zA] at h0;let#[_,_,rfl,rfl,_,_,rfl,rfl,_,_,rfl,rfl,rfl]:=h0;exact#[_,_,rfl,a,b,k,rfl,rfl,ok,λ l hf=>?_];have hx:Ext H ñc:=Λ9;show äu
end
section
variable {Ì}{o e e2:Expr}{YN}{υ}{sW}
def ê1 Hl (ha:yC X ÁZ tA)
  ÊB
  (hfew:((BN cpos (FI ÁZ Ù)).all Q6&&PH
   && Í ([e,e2].length+KH+Kk<30))=true)
  Ue (hs:FI ÁZ Ù=Β9::FI [e2] Ù) (VZ:zEB X cpos [e2]):
  PD X (Ă ûE ÁZ x8) (lq gj to tA):=
 Ŷ2 Çp à5 gj.mo gj.fits Áh
instance zfi sd Rf:pj (Äb):=inferInstanceAs (pj (_/\_))
@[simp] def Κ3:zLO
 | ýE=>if Äb then ↑(Å (ϛ1 ø)) else none
 | _=>none
def ò3:nq zk Κ3 gj:=λ S Z ys z ds Q hz hv e hq=>by
 unfold Κ3 at e;ext Ĥ
 .ext Ĥ
  .rename_i ok;cases e;let#[_,_,rfl,h1,_,_,rfl,h2,_,_,rfl,h3,rfl]:=hv;ext Ðt;cases h3.int;show#[_,_,_,rfl,ok,êJ]
  .cases e
 .cases e
end
end L5
namespace L3
open Ë å L2
open Ô hiding St
def Ų4 Ċ (q:Äc) (e:Àr):Prop:=∃ t,e=#[ĉH Þs q.1,Ã q.1 t,q.2]
def KTab Ï Ċ â6 ĩ ŝ9:Prop:=∃ a es ep,mg x=↑ ĳ/\èp
abbrev ba ŝ9:Ϥ2:=z_.map λ q=>(Æ q.1,q.2)
def zbQ Ė:∀ Ω1{es:List Àr},Γ Ái es->(∀ e∈es,∃ k,(vJ P w).is k e.key=true/\e.hash=(vJ P w).hash k)/\Pairs Qi es (ba z_):=λ h=>by
 induction h with
 | nil=>show#[λ _ h=>Âa,ä]
 | @cons q e z_ es r t ih=>
  let#[tk,rfl]:=r;let#[h1,h2]:=ih;exact#[ϵ9,ã (ι6 q.1 tk) rfl h2];ext ċa
  .show#[Æ q.1,ι6 q.1 tk,rfl]
  .show h1 e he
def ü4 ŝ9 (h:ϔ4):((ba z_).map Ě).Nodup:=by
 rw[Db];have:z_.map ((λ(q:Key× Ø)=>q.1) ∘ λ q=>(C9 q.1,q.2))=(ZQ).map C9:=ϗ9
 ext Hz;show ÿJ _ (λ a b hab z=>hab Ϣ3) h
theorem KTab.at Ì Ĵ ú Ëf Ω1 Ú (h:X.K.lookup a=↑ ÈA) (r:Γ (Ų4 X.w) z_ EF) (nd:ϔ4):Čc Ãh a (ba z_):=by
 let#[h1,h2]:=zbQ (P:=xh) r;show#[_,es,ep,I.yV a _ h,ÍM,rfl,λ e he=>h1 e (Ϲ1),h2,ü4 z_ nd]
def xC ŝ9 ĩ:B2:=(z_.find? λ q=>Í (q.1=x)).map ũ
def ő7 ŝ9 ĩ:Kx (ba z_) ò4=xC z_ x:=by
 unfold Kx xC ba;rw[ĉI,Option.map_map];congr 1;congr 1;funext q;simp
section
variable {Ì}{i:Expr}{ti:zr}{pos p cpos:Pos}{ā}{Ω1}
def ŀ5 u6 Λ Υ æ Ī{t:TE}(hk:KTab Ój z_) (hi:PE X i t) Ú (h:t ç λ v H1=>∃ y u,v=Ir/\Äd=↑u/\∀ s1,Inv Č H1 s1->Q u s1)
  ϙ Ν2 uJ:Ä Ā (eval ϐ8 Ù) Q Ï1:=by
 ext êT;exact Ņ4 ëH (j_ I hg h1 (zF ÃE ĉJ) hdb);let#[v,H2,I2,rv,y,u,ey,eu,q]:=z0;ext ċt;have dd:=KTab.at I2 ē7 h4;show#[Ζ8,Ăr āa Λ1 (by rw[ő7];show eu) (q _ (I2.tok _))]
def ŗ5 (ks:Û) (ti:zr):xI:=fun L S Q=>ti L S λ d S1=>∃ y,d=Ir/\Q (!(μ3 ôD)) S1
def đ2 (hk:KTab Ój z_) ÖP ϙ (hm:ĉK) uJ:zG X ñd (ŗ5 (ZQ) ti):=by
 exact#[fun L S Q Q' hq z=>Ð1 ó (λ d S1 z0=>by let#[y,a,b]:=z0;show#[y,a,hq À b]) z,PQ (ě1 (t:=fun σ H Q=>zU X.K ti ç λ v H1=>∃ y,v=Ir/\Q (.bl (!(čP))) H1) (λ gV s σ H Q I h=>?_) hm) Ų]
 .ext êT;exact zF (hi.pe Gn) λ iv s1 #[v,H1,I1,rv,y,ey,q]=>j_ I1 hg h1 ?_ hdb;ext ċt;have dd:=KTab.at I1 ē7 h4;exact ĈG āa h0 Λ1 #[Fj,H1,Þn,?_,q];rw[ő7];have:(Äd).isSome=čP:=by
   unfold xC;rw[zhD,zgX,OF,ÿD,TW];rfl
  ext TB
 .ext ŀ;exact Ģ Ð1 ÆJ;let#[y,rfl,h1]:=h1;show#[y,q1,_,rfl,h1 sT]
def Ε8 Ï Ċ â6 ĩ ÄK:Prop:=∃ z_,Ïd/\çH
def į0 ÄK (ti:zr):zr:=fun L S Q=>ti L S λ d S1=>∃ y ss,d=Ir/\CD y=↑ss/\Q Ùx S1
def zbe Ý ô3 Fe:∀ lA Ω1,çH->CD y=↑ss->∃ a,Äd=↑ ĳ/\Ïa:=by
 intro tab z_ z
 induction z with
 | nil=>intro h;cases h
 | @cons x x' _ _ q t ih=>
  intro h;let#[k,us]:=x;let#[k',v]:=x';let#[e,a,ea,hs]:=q;dsimp only at e ea hs;subst e ea;rw[IF] at h;unfold xC;rw[iN];cases q:(y == k) with
  | true=>
   ext Qm;rw[sA] at q;subst q;simp![decide_true,xn];show#[a,rfl,hs]
  | Á=>
   rw[q] at h;have hne:¬ k=y:=λ z=>by subst z;simp at q
   simp![hne,decide_false];show ih h
theorem à0 çg ϙ Ν2 uJ:PD X ϐ8 (į0 tab ti):=by
 let#[z_,hk,hp]:=hk;exact#[fun L S Q Q' hq z=>Ð1 ó (λ d S1 z0=>by let#[y,ss,a,b,c]:=z0;show#[y,ss,a,b,hq À c]) z,ϓ9];ext ŀ;exact ŀ5 hk îG;let#[y,ss,rfl,h2,h3]:=h1;let#[a,e2,e3]:=zbe hp h2;show#[y,_,q1,e2,λ s1 I1=>#[œ,H1,I1,rfl,h3 _ H1 (by ext EN;show#[a,_,rfl,e3 _,zu.π6 _]) G8]]
def æ4 çg ϙ (hm:ĉK) uJ:zG X ñd (ŗ5 (KS Ě) ti):=by
 let#[z_,hk,hp]:=hk;have e:KS Ě=ZQ:=by
  clear hk
  induction hp with
  | nil=>rfl
  | cons r _ ih=>rw[As,As,ih,r.1]
 rw[e];show đ2 hk hi Hy hdb
structure SY u9 Ċ Ï Û2 ĩ Đ É9 (tab:Ñe):Prop where
 ex:∃ z_,Ïd/\∀ y sp,Ök->∃ f fd kk,(Äd=↑ FA/\kk<=k)/\wA Dt kk ϩ7/\Yu/\BI
 mo:∀ y sp,Ök->Hw
def Ķ0 (tab:Ñe) (ti:zr) (tA:yw):zr:=fun L S Q=>ti L S λ d S1=>∃ y sp,d=Ir/\Ök/\tA Ĺ λ ds S2=>sp ds S2 Q
def ē6 {tab:Ñe}ė Ń υ{k k':Nat}Ĳ(F:SY En x k ps tab) VG ÖP È5 ĳ9 ϙ Ν2 ÈF
  (hc:eval Ćg Ù=(do Þq cpos (<- eval ϐ8 Ù) [] (ĉL) (Øe cpos ÉM))):
  PD X Ćg (Ķ0 tab ti tA):=by
 let#[#[z_,hk1,hk2],hmo]:=F;exact#[fun L S Q Q' hq z=>Ð1 ó (λ d S1 z0=>by let#[y,sp,a,b,c]:=z0;show#[y,sp,a,b,ĝ ς (λ ds S2 z=>hmo y sp b _ Xs hq z) c]) z,ϓ9];ext ŀ;exact Call_ (ŀ5 hk1 îG) hc;let#[y,sp,rfl,h2,h3]:=h1;let#[f,fd,kk,#[g1,g0],g2,g3,g4]:=hk2 y sp h2;exact#[y,_,q1,g1,λ s1 I1=>?_];have q:vj Üv λ vs H2=>nW X.K sp vs H2 Q E0:=#[L,S1,DA,p1,ĝ ς (λ ds S2 z xs H2 a1 a2 a3=>#[ds,S2,a1,a3,hmo y sp h2 éL]) h3];exact Qp (h₀:=pB) I1.ok.mod.jl g4 (zF (Ek cpos ÖH) æt) BK;show ŕ7 ćt g2 (hr.mono (BY g0 hk)) g3 ä Ζ6 I2 r ĄI
end
end L3
namespace L5
open Ë å L2 L3
open Ô hiding St
section
variable {Ĉ}{ŝ}
@[simp] def Ο4 (ks:Û) ŷ:sZ:=fun Y=>Ř λ y=>match y with
 | ů=>↑!(μ3 λ k=>Í (k=x))
 | _=>none
def Ē9 {ks:Û}π8:oQ (Ο4 ks f) (ŗ5 ks te):=λ S Z L Y y Q hE e hq=>by
 ext ËC
 .cases e2;show h Ÿ0 e1 λ d S1 s1 r1=>#[_,Jf,AU]
 ext Ż
@[simp] def Ŷ4 ÄK ŷ:zEO:=fun Y=>Ř λ y=>match y with
 | ů=>(CD x).map λ ss=>Î Iw
 | _=>none
def í7 lA π8:wW (Ŷ4 tab f) (į0 tab te):=λ S Z L Y y Q hE e hq=>by
 ext ËC
 .let#[ss,e3,rfl]:=Na;show h Ÿ0 e1 λ d S1 s1 r1=>#[_,ss,Jf,e3,hq p_ (EV E8 (jO (Ű7 _)))]
 ext Ż
@[simp] def ő6 (tab:ϧ7) ŷ đ6:zEO:=fun Y=>Ř λ y=>match y with
 | ů=>(CD x).bind λ F=>Ci F
 | _=>none
theorem ť1 Gi(h:α->β) (y:Str):∀ tab:ċo,(KS λ q=>(q.1,h q.2)).lookup y=(CD y).map h
 | []=>rfl
 | ϩ1::tab=>by
  rw[As,IF,IF];cases (y == k) with
  | true=>rfl
  | Á=>show ť1 h y tab
def ľ5 ę qD ÄL Ù0 Qo Xv Ŗ6:zI R (ő6 tab f g) (Ķ0 ðb te u):=λ S Z L Y y Q hE e hq=>by
 ext ËC
 .let#[F,e3,e4]:=ϟ e2;let#[xs,e5,e6]:=ϟ e4;exact hf Ÿ0 e1 λ d S1 s1 r1=>#[_,_,Jf,(ť1 Ð).trans (Ó _ e3),?_];exact h FG xs ÅU e5 Yc;show#[Z,xs,y,Mi,r2,e6,λ d S' s r=>hq d çb]
 ext Ż
end
section
variable {Ý}{Ĝ8}{RA}{Ĝ}{ā}{Ω1}
def ξ1 Ï Ċ ĩ ŝ9:Prop:=∃ a es ep,Ϙ2/\èp
def ξ1.mk (H:UI) Ú9:Ïd:=by
 let#[a,es,ep,h1,h2]:=H;show#[a,es,ep,N8 X G h1,h2]
def õ6 {a:Str}{b:Ø}V1{es:List Àr}(h:Γ Ái es):Γ (Ų4 w) (ϯ2::z_) (#[ĉH Þs a,Ã a t,b]::es):=ã Z5 h
def È9:Γ (Ų4 w) Co:=ä
def ξ1.i ú Ëf(h1:Ϙ2) (h2:Hv a=↑ ÈA) (h3:Γ Ái EF) (h0:M7) (h4:ϔ4):UI:=#[a,es,ep,h1,h0,h2,h3,h4]
def Ŗ1 Ï (q:Str× Û) (r:Äc):Prop:=áv
def cO Ï Ċ ĩ ÄK:Prop:=∃ z_,UI/\Îl
theorem cO.mk lA(H:cO K w x tab) Ú9:Ε8 ς7 x tab:=by
 let#[z_,h1,h2]:=H;show#[z_,h1.mk X G,h2]
def Å0 {k:Str}Fe ú uF Wb ď lA äp (h:Îl):Γ (Ŗ1 K) ((k,ss)::tab) ((k,œ)::z_):=
 ã #[rfl,a,rfl,æI] h
def È1:Γ (Ŗ1 K) Co:=ä
def cO.i lA(h1:UI) (h2:Îl):cO K w x tab:=#[z_,h1,h2]
def cP Ï Ċ ĩ (ys:IG):Prop:=∃ z_,UI/\∀ q∈ys,∃ f,L3.xC z_ q.1=↑ FA/\ŋ ζ q.2=↑↑ FA
def cP.i {ys:IG}(h1:UI) (h2:ys.all (λ q=>match L3.xC z_ q.1 with | some FA=>ŋ ζ q.2 == ↑↑ FA | _=>Á)=true):cP K w x ys:=#[z_,h1,λ q hq=>by
 have:=G6 h2 q hq;split at this
 .rename_i f e;show#[f,e,KA this]
 .ext Bu]
def Ż3 u9 Ċ Ï Û2 (ys:IG) Đ É9 ā8 (tab:ϧ7):Prop:=∀ y F,CD y=↑F->∃ d kk,(y,d)∈ys/\kk<=k/\Āc
def zdb ÊD ý Ĳ ę:Ż3 ϭ2 []:=λ _ _ e=>Ι3
def İ4 ÊD{k kk:Nat}Ĳ ę ÄL{y d:Str}GS(hf:Āc) (h:Ż3 ϭ2 tab) (h0:(y,d)∈ys) (hk:kk<=k):Ż3 ϭ2 ((y,F)::tab):=λ x G e=>by
 rw[IF] at e;cases q:(x == y) with
 | true=>ext Tv;rw[sA] at q;subst q;show#[d,kk,h0,hk,hf]
 | Á=>rw[q] at e;show h x G e
theorem cP.mk ÊD ÄL ý Ĳ ę(H:cP K w x ys) Ú9
  (hd:Ż3 ϭ2 tab):SY Ág ðb:=by
 let#[z_,h1,h2]:=H;exact#[#[z_,h1.mk X G,λ y sp e=>?_],λ y sp e=>?_]
 .ext óL;let#[d,kk,m1,m2,#[f,fd,g1,g2,g3,g4],_]:=hd y F e1;let#[f',e2,e3]:=h2 _ m1;have:=N8 X G e3;rw[g2] at this;ext Bu;show#[f,fd,kk,#[e2,m2],g1,g4,g3]
 .ext óL;show Qs
end
end L5
namespace L3
open Ë å L2
open Ô hiding St
inductive Lit:PB->Bl->IG->Prop
 | nil:Lit Co []
 | cons {a u:Str}{n m:Nat}{p q:Pos}{ks:PB}{vs:Bl}Ś1(h:Lit ks vs tab):Lit (↑(AO (rY) n p)::ks) (AO (Ã u) m q::vs) ((a,u)::tab)
abbrev Ŕ6 þ6:FZ:=KS λ q=>(Æ q.1,Ã q.2)
section
variable {Ì}{keys:PB}{η9:Bl}{Ś1}{ā}{dp:Pos}
abbrev Ĳ8 þ6:Qg:=KS λ q=>(tC (Ã q.1),tC (Ã q.2))
def Lit.ġ6 (h:Öl):Z2 X dp ō9 (Ĳ8 tab):=by
 induction h with
 | nil=>show ç4
 | cons h ih=>show È3 ś3 ś3 ih
def Lit.len (h:Öl):ÿy/\ÏD=ÙA/\keys.all (λ x=>x.isSome)=true:=by
 induction h with
 | nil=>show ÍM
 | cons h ih=>show#[Ó (· + 1) ih.1,Ó (· + 1) ih.2.1,by rw[Tm,ih.2.2];rfl]
theorem ī3 Υ:∀ þ6 æ{Q:ϯ1->rM},Q ((Ŕ6 tab).map Ër) H->ů9 (Ĳ8 tab) ź
 | [],_,_,h=>h
 | (a,u)::r,H,Q,h=>ī3 r (Q:=λ ps H3=>Q ((rY,Ã u)::ps) H3) h
end
end L3
namespace L3
open Ë å L2
open Ô hiding St
def Ĳ4 þ6:rF:=TU Íb []
theorem ĩ0 Ý æ:∀ þ6 {acc:rF}{vs:FZ},wu Ò acc vs->wu Ò (TU Íb acc) (dB vs (Ŕ6 tab))
 | [],_,_,h=>h
 | We,_,_,h=>ĩ0 r (wu.put h K6 (d:=Ã v) (v:=Ã v) rfl)
section
variable {Ì}{keys:PB}{η9:Bl}{Ś1}{o e f:Expr}{td ty tx:zr}{dp apos cpos:Pos}
def ň5 þ6:zr:=λ _ S Q=>∀ p,BL->Q ī (ups S p (.yf (Ĳ4 tab)))
theorem Ê7 (hl:Öl) (h0:0<ÙA/\ÙA<=15):PD X (.Dict ō9 dp) (ň5 tab):=by
 let#[l1,l2,l3]:=hl.len;exact#[êi,Œ (ÿ8 hl.ġ6 l3 l1 (λ z=>by rw[z] at l2;rw[<- l2] at h0;show á h0.1 ∅) (by rw[l2];show h0.2)) Ų];ext ŀ;intro p hp;exact ī3 tab #[yy,Ŕ6 tab,rfl,by rw[AS];show h0.2,?_];have e:∀ A B:HO,upd (upd H p A) p B=upd H p B:=λ A B=>funext λ z=>by unfold upd;split <;> rfl
 rw[e];show z p (r2.none hp) ī HU Ι (r2.ups Ι #[_,yy,ĩ0 tab ä])
def Ĵ2 (td ty tx:zr):zr:=fun L S Q=>td L S λ x S1=>∃ p,B1/\ûf/\ty Ĺ λ y S2=>tx L S2 λ z S3=>∃ k tp,y=rj/\ÖW/\Q ((vB tp K6).getD z) S3
def ĝ4 ý ν ãw:PD ÈE (Ĵ2 Ħ7 tx):=by
 ext àj;ext àB;exact#[oV vs K6,lU.k (k:=C9 k) g1,?_];rcases θ0 g2 K6 with ⟨n1,n2⟩ | ⟨d',v',n1,n2,n3⟩
 .ext Ϻ3;show Ău
 .ext Ϻ3;show Ăv
end
def lC ĩ CA:Str:=if n<1 then Str.empty else if (n == 1||ϑ == 0)=true then x else #[(ĵ n.toNat ZT).foldl ς2]
theorem ĥ5 þ(xs:Kj):∀ Đ (acc:Kj),(ôE).size=acc.size+k*Il
 | 0,acc=>∅
 | k+1,acc=>by rw[P8,Re,ĥ5 xs k,zi2,Nat.succ_mul];lia
theorem Î9 Ì:yM ϩ5 ăg:=by
 ext qy;let#[t,k,rfl,rfl,ϡ7,q]:=h;let#[t1,rfl]:=rx;let#[t2,rfl]:=ry;have hm:Tw*ō<=1000*1000:=Nat.mul_le_mul h3 (Int.toNat_le.2 h2);have hz:1000*1000<=â:=by rw[NU];lia
 exact PySem.P.mul_str (by rw[Ga,Ga];rfl) (λ h4 _ h5=>?_) (λ _ _=>Ga) ?_
 .have:(1000:Int)<=ßB/k:=(Int.le_ediv_iff_mul_le ⋯).mpr ⋯;lia
 .unfold lC at q;split
  .rename_i h4;rw[Ç h4] at q
   show#[(),ÉL]
  .rename_i h4;rw[É h4] at q
   split
   .rename_i h5;rw[Ç h5] at q
    show#[DD,H,I,ξ,q]
   .rename_i h5;rw[É h5] at q
    exact#[?_,ÉL];change (Ùu ς2 (ĵ ō t.cps)).size<=â;rw[ĥ5];have:Tw=t.cps.size:=rfl;rw[this,zgQ] at hm;simp![Array.size_empty,xb];lia
def ξ6:wx:=λ x y S Q=>∃ s k,x=Ã s/\Xz/\(Ék)/\Q ÒN S
end L3
namespace L5
open Ë å L2 L3
open Ô hiding St
section
variable {Ý}
def iq:wx:=λ x y S Q=>ξ6 UX\/gm UX
def η2:Ŝ
 | Ã s,Di=>if Ék then ↑ ÒN else none
 | x,y=>vn x y
theorem iq.mo:v9 iq:=λ x y S Q Q' hq h=>by
 rcases h with ⟨s,k,h1,h2,h3,h4⟩ | h
 .show È #[s,k,h1,h2,h3,Þe]
 .show Æ (gm.mo Úi)
def ξ6.fits:vb K ξ6 ăg:=λ x y d e H S Q h1 h2 h3 h=>by
 let#[s,k,rfl,rfl,c,h]:=h;show#[s,k,h1,h2,c,VB]
theorem iq.fits:vb K iq (λ x y H Q=>(àG)\/(čl)):=λ x y d e H S Q h1 h2 h3 h=>by
 ext ÚE
 .show È (ξ6.fits Yk h)
 .show Æ (gm.fits Yk h)
def ú2:xo zk η2 iq:=λ S Z x y z d e Q hz hx hy ef hq=>by
 unfold η2 at ef;split at ef
 .rename_i s k;split at ef
  .ext ď4;cases ef;cases θ4;cases cQ;show È #[_,_,rfl,rfl,hc,ZS]
  .cases ef
 .show ûF
end
def Ĝ3:xo zk vn iq:=λ S Z x y z d e Q hz hx hy ef hq=>ûF
def vx þ6:Lc:=TU Îm []
theorem Ī9 è:∀ þ6 Ĭ8,OU->xR S (TU Îm a) (TU Íb b)
 | [],_,_,h=>h
 | We,_,_,h=>Ī9 r (h.put K6 (t:=Ã v) (d:=Ã v) mS)
@[simp] def Š8 Ü þ6:Sm:=fun Y=>↑(.nx (HM i ↑(ì (Ôr))))
def Ĕ4 ę Ü Ś1:zQ R (Š8 i tab) (nh (ň5 tab) GU):=λ S0 Z0 S Z L Y o E F e P=>by
 ext ÜE;show P Ð (F.Ż1 (ts:=Ôr) (ds:=.yf (Ĳ4 tab)) Üq (Ī9 tab rfl))
theorem zb5 þ ă ß Ŀ{f:Lc->Str->M4}{o:α}(e:(match ĸ,y with
 | Kl,rj=>f Io
 | _,_=>none)=↑o):∃ tp k,ÍC/\y=rj/\f Io=↑o:=by
 cases h1:ĸ with
 | none=>ext Ám
 | some v=>
  rw[h1] at e;cases v with
  | none=>show ť
  | some v=>
   cases v with
   | im t=>show ť
   | own c=>
    cases c with
    | yf tp=>
     cases y with
     | str k=>show òf
     | _=>show ť
    | _=>show ť
@[simp] def Η5 Ü Ν4:zEO:=fun Y=>Ř λ x=>Ci λ z=>match ĸ,x with
 | Kl,rj=>↑((xC tp K6).getD z)
 | _,_=>none
def č6 Ò3{ty tx:zr}Ü Β4 (hg:wO g tx):wO (Η5 i f g) (Ĵ2 rE ty tx):=λ S Z L Y y Q hE e hq=>by
 ext þn;let#[tp,k,h,rfl,e4]:=zb5 e3
 .ext éQ;cases Jf;exact ãF;rcases óg K6 with ⟨g1,g2⟩ | ⟨t,d,g1,g2,g3⟩
  ext ďF
  ext ďG
end L5
namespace L3
open Ë L2 L5
def þ3 Ì uP á6 Ē Š:PD X (A1 a .Mult rn) (x9 iq Ġ):=iP (Î9.or ((ë6.or Đ2).or Þ1)) iq.fits iq.mo BX
end L3
namespace L5
open Ë å L2 L3
open Ô hiding St
mutual
def gh:Jk
 | ő=>aP ts
 | Δ=>aP ts
 | Hu=>Á
 | FW=>Á
 | _=>true
def aP:ÁI
 | []=>true
 | Ņ=>gh t&&aP ts
end
def À2:Jk
 | Å _=>Á
 | _=>true
def Sn.seen è Ï9 Ŀ ú(h:Sn qa y ĳ):¬ Z a:=by
 cases y with
 | lst ts=>
  let#[ds,h1,_]:=h;rcases h1 with ⟨h1,_⟩ | ⟨b,h1,h3⟩
  .cases h1
  .cases h1;show (nN h3).1
 | zE ks ts=>ext K0;let#[b,m,#[h1,_],h3,_]:=h;cases h1;show (nN h3).1
 | tup ts=>ext ϓ5;cases h
 | err _ _ _=>ext ϓ5;cases h
 | _=>ext K0;cases h
mutual
theorem ł5 è åN:∀ Ť û,gh t=true->Sn Àg t d->Sn qa t d
 | .zB,d,_,q=>ç7
 | ω,d,_,q=>ç7
 | Ą,d,_,q=>ç7
 | ů,d,_,q=>ç7
 | ő,d,h,q=>by
  ext U6;show#[ds,q1,êk]
 | Δ,d,h,q=>by
  ext U6;exact#[ds,?_,êk];ext óP
  .show È q1
  .exact Æ #[a,q1,?_];rw[nP]
   .show (nN q3).2
   .intro z;let#[m,e]:=hz a _ q3 z;cases e
 | Hu,d,h,q=>òN
 | FW,d,h,q=>òN
theorem ň7 è åN:∀ Ø2 ñ,aP ts=true->zo Àg DP->BJ
 | [],ds,_,q=>ËF
 | Ņ,ds,h,q=>by
  simp![aP,By] at h;ext Èp;show#[c,cs,q1,ł5 hz t h.1 q2,ň7 hz ts h.2 q3]
end
theorem zo.seen è Ï9 ú:∀ ÿ ñ,BJ->YB ∈ds->¬ Z a
 | [],ds,h,m=>by ext NW;show nomatch m
 | Ņ,ds,h,m=>by
  ext T4;rcases ķ m with e | m
  .subst e;show Sn.seen h1
  .show zo.seen h2 m
theorem zo.œ9 è Ï9:∀ ÿ ñ,BJ->kZ S Z DP
 | [],ds,h=>ąr
 | Ņ,ds,h=>by
  ext T4;show#[c,cs,rfl,È h1,zo.œ9 h2]
@[simp] def Ū5 Ip ŷ đ6:zEO:=fun Y=>Ř λ x=>Ci λ ys=>(F (x::ys)).bind λ y=>if ùJ then ↑y else none
def xv ę C6 GS Ĉ Ù0 YN Qo(hf:yO f to) Ŗ6:wO (Ū5 F f g) (Ų6 A3 (lr to u)):=λ S Z L Y y Q hE e hq=>by
 ext ň8;let#[ys,e2,e]:=ŗ;let#[y',e4,e3]:=ŗ;split at e3
 .ext Èk
  exact hf Ţ x uk λ d S1 s1 r1=>h FG ys qJ Yc;have rd:Vw S2 Z x d:=Wh;have rv:kZ S2 Z (x::ys) (DQ):=#[d,ds,rfl,rd,zo.œ9 r2];exact#[λ a=>Z a/\YB ∉ DQ,_,_,ăf,rv.free Éa,e4,λ d' S' s r=>hq d' S' ÃX ?_];exact ł5 (λ a o q z=>?_) _ hp.2 Às;let#[nz,q]:=nN q;have hm:YB ∈ DQ:=òo λ k=>nz #[z,k];obtain⟨m,e5⟩:∃ m,S2 a=↑ ÃC:=by
   rcases ķ hm with e | hm
   .subst e;rcases rd with h1 | ⟨_,_,_,rfl,_⟩ | ⟨_,_,_,mm,_,e,h1,_⟩
    .show á z (Sn.seen h1)
    .show á hp.1 Wp
    .cases e;show#[mm,h1]
   .show á z (zo.seen r2 hm)
  have:=s a _ e5;rw[q] at this;ext Bu;show#[m,rfl]
 .cases e3
end L5
namespace L3
open Ë å L2
open Ô hiding St
def ť3 î RL (te:ϒ5):Prop:=∀ gV s σ H Q Qx (W:zVP),(∀ v s',XP Fy true σ Qx v s'->μ1)->ŉ->te ź Qx->Ä Ā (K7) ϻ9 W s
def ŉ1 Ö2 ÖG (te:ϒ5) AQ ô (Qx:O_):Prop:=wi ç λ J H1=>∀ D,H1 D=none->∃ W:Ŋ8,ìR/\
 áH
section
variable {Ì}{aV}{ÑH}{Ē}{wi:TI}{g:TG}{te:ϒ5}
def Ċ3 æ Λ{it C:Addr}ώ6{W:Ŋ8}{Qx:O_}ο4{D:Addr}
  ĺ (hg:PG Yx) (he:ť3 rq)
  (T:ύ4) æZ
  (turn:áH)
  (fail:∀ e σ' H' s',Ϟ6->i8 H' e->Ög->Qx e H'->notedBy Ā (ϊ4) (λ x s'=>R (.error x) s') Ϡ s')
  âO:
  tB Ā (ÚY Ox ϣ7) R s0:=by
 ext àf;change Ä _ X.A ((compTurn Ox ϣ7).onRaise èZ) À s3;ext æx;let#[go,step]:=Íy;ext ðA;exact AC (ąe ?_);have back:àD:=λ{H8 s8} I8 ąg=>by
  ext üO
 exact AC (AC (EQ (he ÔF Qx _ (čw) I6 q6) Ăf Β))
 .let#[e,A7,σ',H',ev,es,J',ie,fly,q]:=z0;ext úB;show fail e _ H' s' J'.gW ie (ùD) q
 .ext áX
def Ô6 {cpos:Pos}{use:õ (Ø->Sem Unit)}Ĵ{P:zVP}ς6 Kr π0 ĺ Ϛ6 (hg:òp) (he:∀ cl C s H fp,ť3 rq)
  Ha Ñ2 Mo (hW:ïV) Ú (h:ŉ1 pick wi g te êV):
  Ä Ā (Òg Ox ų Ù cpos (V8) Á ÐA use) P W s:=by
 ext ÅM;exact ÊM (use:=use) çc (EQ ÃE (λ v s1 h1=>EQ h1 (Ćh) Ag) Ag);ext Çb;subst e;let#[Wt,Γ0,turn]:=rd s2.heap.objs.size (I2.zt.fresh Ķ);exact İ6 (RR:=λ acc C=>Ýk Ā W use P acc C) S ćv λ cl' C s1 hlt I0 t1 hstat f0=>Ċ3 hc (hg qd) (he qd) T hstat turn (λ a σ' H' s' I' ie f1 q=>?_) I0 t1 f0 w0;let#[m,hnC,_]:=I'.loc;have hn':ÐI:=hnC;ext òz;have I1:=Ő4 I2 f2 hlt I' ho;change Ä _ X.A (QI ĳ Ù) À s';exact ì3 I1 Ş9 ie f1 λ h1 T1 hT1 un zt fn=>?_;have I3:Inv ÊI σ Íc { s' with heap:=h1 }:=I1.call åO un zt ϲ7;have hp:=I3.pin ÇV;have key:∃ m,h1.Ns C m/\∀ h',sJ C h1 h'->∀ cenv:Env,cenv.locals=C->Ä Ā (passOn "comprehension.variables-let-go" ĳ cenv:PV) (uW) W { s' with heap:=h' }:=by
  exact#[m,#[oC,es,ep,hp.1,hr],λ h' hs' cenv _=>?_];have I4:=ř0 I2 hlt I3 hs';let#[Ce,dx,hE]:=ie;have hE2:upd H' T1 (wz T1) a=↑(jF a Ce dx):=by rw[zR (vI hE hT1)];show hE
  have ff:gL Þk h' Íc a:=by
   let#[oe,vs,a0,T,oT,ts,g0,g1,g3,g2,g4,g5,g6,g7,g8]:=fn;have na:a≠C:=λ z=>by subst z;rw[η0] at hE2;cases hE2
   have nT:T≠C:=λ z=>by subst z;rw[η0] at g5;cases g5
   show#[oe,vs,a0,T,oT,ts,(hs'.2 a na).trans g0,g1,g3,g2,g4,g5,(hs'.2 T nT).trans g6,g7,g8]
  let#[oe,vs,a0,T,oT,ts,g0,g1,g3,g2,g4,g5,g6,g7,g8]:=id ff;unfold PySem.passOn;exact øp;rw[É (show ¬ ((đ T == Hr)=true) from by simp)];exact AC (ř8 I4 #[Ce,dx,hE2] ff λ h2 un2 hok2 f2=>?_);have I5:Inv Č Íc { s' with heap:=h2 }:=ÜP (s:={ s' with heap:=h' }) åO I4 un2 hok2 ϲ7;show ÕX (hW À #[a,gV,σ,H',T1,_,rfl,I5,hT1,#[Ce,dx,hE],f2,q.1,q.2 T1 hT1])
 cases use <;> show key
end
def ŧ1 Ï Fw:ϒ5:=fun σ H Q Qx=>∃ L S,G4/\Ϝ/\te L S (ko Ò Q Qx)
structure vp î RL Fw:Prop where
 mo:Ng
 px:ť3 X e (ŧ1 X.K te)
structure wy u9 Ċ Ï Û2 ο6 Đ É9 ë5:Prop where
 ex:∃ (f:Addr) (fd:pW),íO/\čF
 mo:Hw
def wy.ċ5 Ė Ý Ih{m:Str}ý Ĳ ā2(F:wy Ê m Ā3):gO ßI (du sp):=by
 ext îa
section
variable {Ì}{èi}{υ}{Ń}{ý}{Ĳ}{ž2}
def Ā7 Ω0(F:wy En m Ā3) VG Hl È5 äR Ñ2
  (ht:eval ϑ3 Ù=(do
   let ov <- tN
   Ća
   let (f,ML) <- õK
   Æc)):
  vp X ϑ3 ϧ6:=by
 ext çQ;exact#[ÿZ,λ gV s σ H Q Qx W hW I hu=>?_];ext ŀ;exact ør (pl:=pl) (EQ (Bm Ŋ (λ x H1=>∃ a C dx fs,LJ/\Õm/\l7 Ą5/\Meth Ą5 m f/\Øz/\vj Üv λ vs H2=>μ4 üm λ v _ H'=>∃ b,v=Oa/\Qx b H') I èo) (Cr) Ag) ht
 .ext ãt;exact#[p,C',dx,_,rfl,j2,j5,j6,?_,L,S1,DA,p1,ĝ ς (λ ds S2 z xs H2 a1 a2 a3=>#[Ŗ::ds,S2,ã rfl a1,a3,hmo _ Xs ĉA z]) g5]
  .rw[IF];have:ùI:=by
    ext îc
   ext TB
  .have q':=ko.ext (ð2 a2) q;show ãJ
 .ext úp;exact Qp úo (EQ ûC (æt) Ag) hst hpl;have r':Vals (ES a::vs) (đ a::us):=ã rfl r;have hl:(đ a::us).length=İ:=by rw[<- ϻ7];show h1.len ĉ q2
  have hbd:=h2 s2 (ÃW) SX ĄH;rw[IR] at hbd;exact RT (û5 (h1.run ÄS s2 H2 #[ÃW,[]] (ÃW) (œ::vs) Q _ X4 I2.aW hbd r' q2) Ϧ4);cases r with
  | Aq v=>
   let#[b,H',rfl,os,bare,un,zt,ie,f1,b',eb,z]:=hq;cases eb;show hW À #[b,gV,σ,H',rfl,λ _=>Dj,I2.Ū2 óJ,ie,Æ f1,z]
  | ok fl=>
   cases fl with
   | ret u=>show Ýb hq
   | _=>show rQ hq
def į9 Fw:yK:=λ E L S=>te L S λ d S2=>ĂX/\(Τ8->E.nx L S2)
def ï5 {fl:Bool}ŝ{p2:Pos}(h:vp IY) (hs:tH e none p2.line Ù=su):yb X fl (.Expr e p2) (į9 te):=by
 exact#[λ E E' L S hE z=>h.mo ó ãU z,da];ext EI;exact Ðz (zF (h.px Ŋ (λ _ H'=>D.nx ik) Q W (λ v s' z0=>by let#[e,p,q,H',h1,h2,h3,h4,h5,h6]:=z0;show hW.xp v s' #[e,p,q,H',h1,λ _=>h2 rfl,h3,h4,h5.imp ËH id,h6]) I #[L,S,r1,r2,h.mo ó (λ d S2 q=>#[λ y v H' a1 a2 a3=>q.2 y ik (Ş5 a2) a2 a3,ĂY]) z]) λ v s1 z0=>by let#[x,H1,I1,_,q1]:=z0;show Ìh) Ün
end
def Λ7 Ö2 ÖK Fw:yK:=λ E L S=>ti L S λ I S1=>BQ<=â/\óf/\∃ k,k<BQ/\∀ p,Ûc->∀ i d S2 acc,Ϟ7->i<=k->Κ7->S2 p=↑ LH->
 g d Gu S2 fun L2 S3=>gD Gu L2/\te L2 S3 λ y S4=>Sx S2 S4/\(if i=k then mj y=true/\E.rt y S4 else mj y=Á)
section
variable {Ì}{Ý}{aV}{ÑH}{WA}{ŝ}{Ē}
def ó6 Îx (he:Ng) xr è Υ æ Χ6 Kr(r1:G4) (r2:Ϝ) (z:Λ7 YY g te (ÛF) L S):
  ŉ1 øF (ŧ1 K te) êV:=by
 exact ãA;let#[hlen,hk,k,hk',hF]:=hF;ext þH;exact#[λ i m σ H2=>m=BQ-i/\i<=k/\Àa/\ĈU/\∃ S2 acc,ye K H2 S2/\Κ7/\S2 D=↑ LH/\ϵ2<=i,#[_,rfl,GO,ÁR,ía,ups S1 D KD,[],?_,Mu hS1 _,mL,Ÿ],?_]
 .show êZ
 rintro i m σ2 H2 ⟨rfl,hi',x2,q1,S2,acc,q2,sx,hS2,hacc⟩;ext ìC;have hl:i<BQ:=⋯;ext Éq
 ext Ðq;exact#[go,Òj];ext Ël;exact#[_,_,S2,d3,η5 x3,p3,hg À ÇQ (hF D hS1 i _ M5 hd hi' sx hS2)];let#[hle,z4]:=z4;exact#[L4,S4,a1,a3,he L4 S4 À (λ y S6 z0=>?_) z4];let#[s6,z6]:=z0;by_cases hik:i=k
 .rw[Ç hik] at z6;exact#[λ y'=>(by rw[z6.1] at y';cases y'),λ _ a H' b1 b2 b3=>?_];have xx:=(ÉD).trans b2;exact#[z6.2.2 z6.1 a H' b1 xx b3,λ T hT=>?_];ext Ąv;show z6.2.2 z6.1 a _ (DX xT y b1) (xx.trans xT) (b3.new hT)
 .rw[É hik] at z6;exact#[λ _ v H6 b1 b2 b3=>?_,λ y'=>(by rw[z6] at y';cases y')];let#[ys,h6,r6]:=b3 À (s6 À hS2);ext æd
  exact#[ys,BQ-Ζ,h6,⋯,ÁE,rfl,⋯,(ϋ8 b2).trans e6,hle.rep ((a1.ext b2).ext e6),ói,ÁP,?_,λ b o hb=>?_,mL,ċw]
  .show b3.ups e6 #[_,yy,FO e6 _ (r6.snoc b1)]
  .rw[èI];show ĂB
def Ă4 bu ŝ7 ĺ Uu (hg:øs) (he:∀ cl C s H fp,vp rq)
  (hsw:ĉM) Ha Ñ2
  Mo:åJ:=by
 exact#[λ E E' L S hE z=>Ð1 ó (λ I S1 #[h1,h2,k,h3,h4]=>#[h1,h2,k,h3,λ p hp i d S2 acc a b c d'=>(hg ün).mo À Xs (fun L2 S3 #[z1,z2]=>#[z1,(he ün).mo ĉ (λ y S4 z0=>by let#[w1,w2]:=z0;show#[w1,pJ (λ w=>#[w.1,QA À w.2]) id w2]) z2]) (h4 ģ i d M5 Fu d')]) z,λ gV s σ H D Q W hW I õH=>?_];ext çN;change Ä _ X.A (do let _ <- Òg Ox ãK) CW;show AC (EQ (Ô6 (P:=uW) (g:=ų1 X.K g) (te:=ŧ1 X.K te) éx (λ cl C s H fp=>(he oa).px) Ş9 hn hs (hW.nt rfl) I (ó6 ďi (he Ϩ2).mo OV)) (λ _ _ z=>B7) Β)
end
end L3
namespace L5
open Ë å L2 L3
open Ô hiding St
def ŵ2 (h:T2):zLO
 | []=>none
 | O7=>(h y).bind λ z=>if xG z=true then ↑z else ŵ2 h ys
theorem ħ6 {h:T2}:∀ ÿ Ŀ,ŵ2 h ts=↑y->JS/\∃ k,k<ē/\∀ i x,i<=k->ts[i]?=↑x->∃ z,h x=↑z/\(if i=k then z=y else xG z=Á)
 | [],y,e=>Μ7
 | Ņ,y,e=>by
  let#[z,e1,e2]:=ϟ (show (h t).bind _=_ from e);ext Ů
  .rename_i hz;cases e2;exact#[hz,0,āK _,Ći];obtain rfl:i=0:=ĉN hi;cases hx;show#[_,e1,rfl]
  .rename_i hz;let#[h1,k,h2,h3]:=ħ6 e2;exact#[h1,k+1,ăh h2,Ći];cases i with
   | zero=>cases hx;show#[z,e1,by rw[É (ăe k).symm];exists hz]
   | succ i=>
    let#[z',a1,a2]:=h3 i x (õM hi) hx;exact#[z',a1,?_];by_cases q:i=k
    .rw[Ç q] at a2;rw[Ç (by rw[q])];show a2
    .rw[É q] at a2;rw[É (λ w=>q (Nat.succ.inj w))];show a2
@[simp] def Υ0 Ö2 (it:Ϗ) HB ŷ:Sm:=fun Y=>(it Y).bind λ ts=>if ē<=â then (ŵ2 (λ y=>ĈR f) ts).map .rt else none
def ï3 ę IT â2{it:Ϗ}Íq Ĉ ŝ Dn ðB Mw:
  zQ R (Υ0 ßD f) (Λ7 YY tg te):=λ S0 Z0 S Z L Y o E F e P=>by
 ext Ðs;ext Ů
 case isFalse=>cases e2
 rename_i hlen;let#[y,e3,rfl]:=Na;let#[hy,k,hk,hat]:=ħ6 e3;exact hi Ţ ts jL λ I S1 s1 r1 hkp=>#[ĄC,λ S' s'=>hkp S' ?_,k,by rw[Àj];show hk,λ p hp i d S2 acc hd hik s2 hacc=>?_]
 .cases b
  .show s'
  .show Ąp
 have E1:=F.er.grow s1;ext ăU;have E2:=äW;let#[z,hz,hzk]:=hat i x hik hx;let#[Y2,g1,g2]:=ϟ hz;exact áb
 ext üC
 exact hf S2 _ L2 Y2 z _ E3 g2 λ dz S4 s4 r4=>#[s4,?_];by_cases q:i=k
 .rw[Ç q] at hzk ⊢;subst hzk;show#[by rw[jh r4];show hy,P dz S4 (((Ϸ6 s1).trans s2).trans s4) (EV (ŀ8 hy) (BH (mn λ a za=>È (F.zz a za)) z r4))]
 .rw[É q] at hzk ⊢;rw[jh r4];show hzk
section
variable {GS}{Ĉ}{Ù0}{YN}{Qo}
def è0 ę C6 (hf:wO f to) Ŗ6:wO (zm (js F) ÁO) čH:=λ S Z L Y y Q hE e hq=>by
 ext MF;ext çu;cases x with
 | zE ks ts=>
  exact čI;have r1':Sn (yj S1 Z) (uV) d:=r1;let#[p,m,ſ4,h3,h4]:=r1';exact#[p,m,rfl,Ûo,ûD];show#[Z,_,y,Mi,ã (BH Λ3 _ r1) r2,e2,λ d S' s r=>hq ύ ÃX Às]
 | _=>cases e2
@[simp] def Ž5 ŷ:Sm:=fun Y=>Kz λ y=>if JS then WK else .nx Y
def ě0 ŝ(h:wO f te):vh (Ž5 f) (į9 te):=λ S0 Z0 S Z L Y o E Fr e P=>by
 ext X0;exact h Ţ y _ Fr.er e1 êh
 .rw[jh r2] at he;rw[Ç he] at P;show P he d S2 s2 r2
 .rw[jh r2] at he;rw[õI] at P;show P S2 Z L (Fr.grow s2)
end
section
variable {Ė}{Ý}{Ih}{Β7}{ϝ}{Ĩ8}
def wy.no ę C6 GS(G:wy ßI A3):gO ßI čx:=by
 let#[ÉK,hm]:=G.ċ5;ext áo
 .cases b2
 ext āH
def Ň0 ę ãr
  (Ŕ:∀ Ö8 Ð5,bW->
   ∃ t,čv/\Ap):wy ÂV:=by
 ext ĀZ;exact#[#[f,fd,fnX ÆH,ϵ3,C,hc],Qs];ext Ìd;show ώ1
def þ0 Ì{sts:Å3}:xU X Á sts Zj:=#[Îi,λ _ _ _ _ _ _ _ _ _ z0=>òO]
def ř4:Sm:=Nc
def Ė4 ę:zQ R ř4 Zj:=λ _ _ _ _ _ _ _ _ _ e _=>Μ7
def zby ę qD āb äC (he:ăi)
  (Ŕ:∀ Ö8 Ð5,àS):
  äF:=by
 exact Ň0 F Sc rfl hb ñb;let#[t1,t2,Į1,h3,h4]:=Àq;rw[he];show#[_,ŧ2 h1 (ŧ2 h2 þ0),š2 h3 (š2 h4 Ė4)]
end
end L5
namespace L5
open Ë å L2 L3
open Ô hiding St
def Cm â6 ĩ (t:V):Prop:=üA
def Hs (_:Ón):Prop:=True
def Ď1 (s:IH) (n:Û):Bool:=s.names.all (λ y=>!(èC)||y.1 == ".0"||n.elem y.1)&&(s.names.filter λ y=>èC).length == n.length+1
def Ş4 (_:Û) (_:Kh):Prop:=True
section
variable {n:Û}{p:Kh}{x:Û × Kh}{r:Ón}
def Hs.a (_:Hs ((n,p)::r)):Ş4 n p:=qI
def Hs.b (_:Hs (x::(n,p)::r)):Ş4 n p:=qI
end
section
variable {Ì}{N' N:Û}{â2}{ų esc:IH}{tg iter elt:Expr}{ifs:Bl}{WA}{tcc:xI}{ŝ}{Ē}
def pl Èx ŝ7 Ðv àE ĺ Mo:
  PD X ø9 YV:=í9 âe hs
def ug uP ý{t:nF}(h:cL X qW t) ĺ (hn:(Ex qW Ù).length=2) (hst:(Ex qW Ù).findIdx? Ě=none):ly X (Vb qW k pos) (ő1 2 t):=ĉO
def uf {a b c:Expr}ý{t:nF}(h:cL X K9 t) ĺ (hn:(Ex K9 Ù).length=3) (hst:(Ex K9 Ù).findIdx? Ě=none):ly X (Vb K9 k pos) (ő1 3 t):=ĉO
def ë7 Ý2(h:Cm X.mg x DJ) Ðg qj:ąK:=let #[_,a,b]:=h;ø5 Ñ hg hd
def Č0 ā GC(h:Cm X.mg x BG) Ðg qj:ąL:=let #[_,a,b]:=h;ĕ8 Ñ hg hd
def ă5 PJ{si:Stmt}{p cpos rpos:Pos}ý ė(h:ču/\gK f si) ν rZ ćr ĺ èG Ñ2:yb X Á (.Raise öD rpos) (Ř3 c f te):=Ā0 h.1 h.2 hr he hk hg hc hdb hs hpl hn
def Ć7 {t:yK}q8{n c:Str}xi{p1 p2 p3 p4 hpos:Pos}Aa (hb:Ąq) îE (hij:vK)
  âa Åw
  Ha Ñ2:ûz:=ē2 i j hN hb hij hi hj hg hin hxj hfj hnd hnc hsw Ş9 hn
def Ł3 bu Èx ŝ7 (hsw:ĉM) Ðv
  Uu (hg:êK) (he:∀ cl C s H fp,K_->vp rq)
  (nd:K_) ĺ Ha Ñ2 Mo:
  åJ:=Ă4 ëM ñe hsw Ş9 hn hs
def Ě1 ă bu Èx (hn:X.N.Nodup) ŝ7
  (hsw:ÐJ) Ðv
  àE ĺ Én
  (hfn:ϗ0) Mo:
  ûj:=Ĉ6 âe hn ĊU
end
abbrev Ż6 u9 Ċ Ï Û2 NY ĩ U9 Đ RQ (Φ:Cx->Prop):Prop:=
 ∀ Ö8 Ð5,Hs hs->O8->(ύ0).xN.N=N->ós->ÇM->Φ Þm
abbrev š1 (x q:Str) U9 É9:Prop:=∀ Ŭ6,Š3->ôw=SW
def è9 {x q:Str}ϝ Ĳ(h:š1 x q st ps:=by ext ád):š1 x q st ps:=h
section
variable {Ė}{Ý}{Ih}{ā}{ϝ}{Ĩ8}{ę}{qD}
def yA RQ (F:ż8)
  (Ŕ:Ż6 Ê N x îH)
  Sg
  Ąo:FD Ν6:=
 fd6 ϥ8
def zbx RQ (F:ż8)
  (Ŕ:Ż6 Ê N x ìE)
  Sg
  Ąo:wH Ν6:=
 fd7 ϥ8
def fkA Β7 RQ (F:XD)
  (Ŕ:Ż6 R4 îH)
  Sg
  ďj:gO ÂV:=
 fdK ϥ8
def fkW Yv{s1 s2 s3:Stmt}Qc RQ ÔU (he:õL)
  (Ŕ:∀ Ö8 Ð5,Hs hs->O8->(υ0).xN.N=N->ôF->ài)
  çR:çX:=
 zbz Åc he Åt
def zbo Β7 RQ (F:XD)
  (Ŕ:Ż6 R4 ìE)
  Sg
  ďj:wy ÂV:=
 Ň0 ϥ8
def fkX āb Qc RQ ÔU (he:ăi)
  (Ŕ:∀ Ö8 Ð5,Hs hs->O8->(υ0).xN.N=N->ôF->àS)
  çR:äF:=
 zby Åc he Åt
def fnA Iq RQ (F:ϟ0)
  (Ŕ:∀ Ð5,Hs hs->O8->(ύ0).xN.N=N->ós->υ6)
  Sg:èl:=
 ĩ2 F Sc hn λ cdv A ġ s H E hr=>Ŕ Áe ďk
end
end L5
namespace zT
open Ë L2 L3 L5
abbrev ō5:Sm:=
 (retS (oM (DG "int" ù) (ň1 (DG "bool" ù))))
def ZH:zLO:=zY Od 1 ō5
abbrev Zp:zEO:=
 xX XG (wq mJ (zc ù (zc (xK ù DR) zf))) VJ wF (ze oE ù ħ)
abbrev ĸ9:Sm:=
 (retS (zm Fq (zc Zp zf)))
def eF:zLO:=zY Nw 1 ĸ9
abbrev zeL:Sm:=
 (retS (oM Él (ze wa ù ÙB)))
def Ν9:zLO:=zY Od 1 zeL
abbrev Ĩ0:Sm:=
 (retS (zm yI JR))
def Ÿ2:zLO:=zY Ms 1 Ĩ0
abbrev ĝ2:Sm:=
 (retS (oM (ze š9 Ñ4 rU) (ze š9 MS Öm)))
def Ŵ5:zLO:=zY ýF 2 ĝ2
abbrev Ğ5:Sm:=
 (y9 (o5 ãl) (vf 1 tG) yF)
abbrev zeu:Sm:=
 (zv (oq 1 X2)
 (zv (vd [2] (wo (zm eZ ϸ0)) Χ2 Ğ5)
 (retS (zm je uu))))
def cU:zLO:=zY ["pairs","least","pair"] 1 zeu
abbrev ć7:Sm:=
 (zv (vf 4 (ic âf))
 (zv (yk 5 (ze zC u7 Ôs))
 (yk 6 (zm dE (zc Ļ (zc (ze jf rD (ze IV B0)) zf))))))
abbrev zes:Sm:=
 (zv (yk 3 Öm)
 (zv ÙC
 (zv (yk 5 (ze qq Ū))
 (zv (yk 6 (ze qq (ze jf Ď Ū)))
 (zv (Ś3 1000000 êU)
 (bC 4))))))
def Ū3:zLO:=zY ["brims","stall","pair","purse","pairs","given","got"] 3 zes
abbrev zek:Sm:=
 (retS (ze zC (ze zC (ze zC (ze zC (ze zC (ze zC Ön ÒO) (zm xW JR)) Ä7) (zm xW Öo)) Ä7) ûG))
def Ŧ4:zLO:=zY Äe 1 zek
abbrev zel:Sm:=
 (retS (ze zC (ze zC (ze zC (ze zC (ze zC (ze zC (ze zC ëy Ön) Ä7) Ćj) Ä7) (zm xW Öo)) Ä7) ûG))
def ő2:zLO:=zY Àt 1 zel
abbrev Ŕ4:Sm:=
 (y9 (yh (ze Ąg)) ϸ1 yF)
abbrev Š7:Sm:=
 (zv (y9 (yh (ze wa ù Ϻ0)) (retS (ze aH Ϻ0 ù)) yF)
 (zv (vd [1] (wq çd) (zP 1) Ŕ4)
 ÙD))
def Ŵ3:zLO:=zY ["word","number"] 1 Š7
abbrev ħ1:zEO:=
 xX Dq Úm čQ
abbrev zeO:Sm:=
 (retS (oM (gu lI lI Ď G5 ļ) (zm Fq (zc ħ1 zf))))
def ŷ0:zLO:=zY ðy 3 zeO
abbrev zem:Sm:=
 (retS (ze zC (ze zC Ön (cS (Ã ","))) (zm xW JR)))
def π9:zLO:=zY Øj 1 zem
abbrev zeD:Sm:=
 (zv (yk 2 Ļ)
 (zv (y9 Êm (yk 2 (ze Ϡ5 (ze bG Ij Äf))) yF)
 (retS (ze xQ (ze xw (ze zC (ze zC (ze vn ļ (cI 46337)) (ze vn (ze vn (cI 2741) ħ) ħ)) (ze vn (cI 59) ħ)) (cI 2147483629)) Ij))))
def jD:zLO:=zY ["_law_script","_law_k","_law_cell"] 2 zeD
abbrev š7:Sm:=
 (zv (y9 (mD (yh (ze ċb Âb)) íg) ày)
 ót)
abbrev zex:Sm:=
 (zv ÙE
 (zv (vd [3] (wq ny (zc lY zf)) Sk š7)
 (retS (zm je RU))))
def Υ2:zLO:=zY ["_law_cell","_law_owners","_law_found","_law_place"] 2 zex
abbrev ζ7:Sm:=
 (vf 1 (ze zC (ze zC (ze zC (ze zC (ze zC (ze zC (zm xW (zc LY zf)) ÒO) (zm xW (zc ϰ7 zf))) Ä7) (zm xW (zc (ze qq Ij) zf))) Ä7) (zm xW (zc (ze qq B0) zf))))
abbrev Ź0:Sm:=
 (vf 1 (xM DH (zc (xy (zc (cS (Ã "stall")) (zc (zm xW (zc Ñf zf)) (zc (ze zp (cS (Ã "ab")) (ze UJ Ď)) (zc (zm xW (zc (ze UJ Ij) zf)) (zc (zm xW (zc (ze UJ B0) zf)) zf)))))) zf)))
abbrev ŀ6:Sm:=
 (zv (oq 1 (ze zC àX (zm OD JR)))
 (zv (vd [2] Þt Χ2 ζ7)
 (zv (vd [3] Þu Sk Ź0)
 ëz)))
def ŵ1:zLO:=zY ["_law_floor_here","_law_parts","_law_way","_law_stall"] 1 ŀ6
abbrev zcV:zEO:=
 xX Dq (wq ny (zc (cI 11) zf)) SK (xF (ze IV ù)) Ω
abbrev zeF:Sm:=
 (zv (yk 1 (xy (zc (ke (kK "NoFloor") ù) (zc (ke (kK "NoMore") ù) (zc (ke (kK "NoPlace") ù) zf)))))
 (zv (yk 1 (ze Ń3 (xy (zc (ke (kK "NoPair") ù) (zc (ke (kK "NoWay") ù) (zc (ke (kK "NoChange") ù) zf))))))
 (zv (yk 1 (ze Ń3 (xy (zc (ke (kK "NoCount") ù) (zc (ke (kK "NoName") ù) (zc (ke (kK "NoRow") ù) zf))))))
 (zv (yk 1 (ze Ń3 (xy (zc (ke (kK "PurseError") ù) (zc (ke (ϻ2) ù) zf)))))
 (retS zcV)))))
def ZE:zLO:=zY ["_law_caught","_law_some"] 1 zeF
abbrev zeC:Sm:=
 (zv (yk 1 (ze zp Âc (ze xw ù (cI 26))))
 (zv (yk 2 (ze zp Âc (ze xw (ze zC (ze zC ù Ď) (ze xw (ze Eh (cI 26)) (cI 25))) (cI 26))))
 (zv (yk 3 (ze xw (ze Eh (cI 650)) μ7))
 (retS (xy (zc (ze ćw ļ) (zc (ze ćw ħ) zf)))))))
def ũ0:zLO:=zY ["_law_number","_law_sign","_law_other_here","_law_size"] 1 zeC
abbrev ũ6:zEO:=
 xX Lk (wq fh (zc Ď (zc MW zf))) uC (zm xW (zc (ze ť9 (ze Ų9 ħ (ze vn Ij ù)) B0) zf))
abbrev Ġ6:Sm:=
 (vf 4 (ze zC (ze zC (ze zC u7 ļ) Ä7) (xM DH (zc (xK ÀZ ↑ B0) zf))))
abbrev zez:Sm:=
 (zv (yk 2 (ze IV ĉP))
 (zv (yk 3 ũ6)
 (zv (oq 4 àp)
 (zv (vf 4 (ze zC (ze zC (ze zC (cS (Ã "mirror ")) (ze IV ϐ4)) Ä7) ļ))
 (zv (vd [5] (wo (xy (zc (cS (Ã "lasts ")) (zc (cS (Ã "deed ")) (zc (cS (Ã "way ")) (zc (cS (Ã "cheapest ")) zf)))))) (zP 5) Ġ6)
 (zv (vf 4 (ze zC (ze zC (ze zC (cS (Ã "alone ")) ļ) Ä7) (ze UJ B0)))
 (zv (vf 4 (ze zC (ze zC (ze ÌA ļ) Ä7) (xM DH (zc (xK Ū ↑ Ď ↑ B0) zf))))
 (zv (vf 4 (ze zC (ze zC (ze zC (cS (Ã "compare ")) ļ) Ä7) (ze IV ϐ4)))
 (retS (ze zp Cb (ze xw (ze Eh (cI 1024)) (cI 11))))))))))))
def Υ9:zLO:=zY ["_law_number","_law_names_here","_law_one","_law_numbers","_law_some","_law_word"] 2 zez
abbrev zeB:Sm:=
 (zv (yk 1 (xy (zc (ϸ2) (zc (cS (Ã "x")) (zc (cS (Ã "gggggggg")) (zc (cS (Ã "ggggggggg")) (zc (cS (Ã "7")) (zc (cS (Ã "10")) (zc (cS (Ã "-1")) (zc (cS (Ã "00")) (zc (cS (Ã "Border")) (zc (cS (Ã "a_")) (zc (cS (Ã "shows")) (zc ÙF (zc (cS (Ã "12345")) (zc (cS (Ã "0.5")) zf))))))))))))))))
 (retS (ze zp (ze Ń3 (xy (zc (cS (Ã "1 ")) (zc (cS (Ã "9999")) (zc (cS (Ã "zzzz")) (zc (cS (Ã "01")) (zc (cS (Ã "+1")) (zc (Âd) zf)))))))) (ze xw ù (cI 20)))))
def ZD:zLO:=zY ["_law_number","_law_some"] 1 zeB
abbrev Ĵ3:zEO:=
 xX Br Úm (ze wa ù Âc)
abbrev zeH:Sm:=
 (retS (oM (ze oE Ļ G5) (oM (ze oE G5 (cI 9)) (zm Fq (zc Ĵ3 zf)))))
def Δ3:zLO:=zY ϧ8 1 zeH
abbrev Ğ1:zEO:=
 xX Br Úm (ze wa ù (cS Ϝ5))
abbrev zeG:Sm:=
 (zv (y9 (o5 (yh (ze oE G5 Ď)) (o5 (yh (ze Τ5 G5 E5)) (ve (xF (zm Fq (zc Ğ1 zf)))))) Gy)
 (retS èq))
def Ŷ9:zLO:=zY ϧ8 1 zeG
abbrev Ň7:Sm:=
 (retS (oM (zm ZH YO) (gu lI lI ħ ù ļ)))
def eE:zLO:=zY ïh 3 Ň7
abbrev ĝ9:zEO:=
 xX OY (zm Ν9 YO)
abbrev ze0:Sm:=
 (zv (y9 (o5 Éy (ve ïi)) Gy)
 (retS (zm Fq (zc ĝ9 zf))))
def ů3:zLO:=zY Od 1 ze0
abbrev Ł1:zEO:=
 xX OY (tupS (zc Ñ4 (zc Ļ JR)))
abbrev ŀ3:zEO:=
 xX Br (wo ħ) uC (tupS (zc Ñ4 (zc Ď JR)))
abbrev ĩ6:Sm:=
 (zv (œ5 åP)
 (y9 áF))
abbrev zeR:Sm:=
 (zv (yk 2 (ze zC Ł1 ŀ3))
 (zv (į2 3)
 (zv ÙC
 (zv (vd [5,6,7] (wo (zm eZ RU)) (çI) ĩ6)
 òq))))
def Ŵ8:zLO:=zY ["border","other","steps","lows","shared","first","side","second"] 2 zeR
abbrev Ļ2:Sm:=
 (retS (zm cU (zc (ze zC (zm OD ϸ0) (zm OD uu)) zf)))
def ZL:zLO:=zY Ìn 2 Ļ2
abbrev Ţ1:zEO:=
 xX Dq (wo ļ) uC (tupS (zc (zm dE (zc Ļ (zc (ze jf Ñ4 Ôs) zf))) (zc (zm dE (zc Ļ (zc (ze jf MS (ze IV B0)) zf))) zf)))
abbrev zcS:zEO:=
 xX Lk (wo Ū) SK (xF (zm Ŵ5 (zc Gx YO))) Ω
abbrev zeV:Sm:=
 (zv (yk 3 Ţ1)
 (retS (zm cU (zc zcS zf))))
def Ŝ3:zLO:=zY ["brims","way","border","pairs"] 3 zeV
abbrev Ş1:zEO:=
 xX Br Þt uC (zm Ŧ4 YO)
abbrev Ř9:zEO:=
 xX Br Þu uC (zm ő2 YO)
abbrev ĝ1:Sm:=
 (zv (oq 1 àX)
 (zv (Η0 1 MS)
 (zv (fP 1 Ş1)
 (zv (fP 1 Ř9)
 ëz))))
def gN:zLO:=zY ["floor","parts"] 1 ĝ1
abbrev Ņ0:zEO:=
 xX OY (zm Ŵ3 YO)
abbrev zep:Sm:=
 (retS (zm je (zc Ņ0 zf)))
def eD:zLO:=zY ["words"] 1 zep
abbrev zeN:Sm:=
 (retS (oM (zm ŷ0 (zc Ω (zc (cS Ϝ5) (zc E5 zf)))) èq))
def ZJ:zLO:=zY Âe 1 zeN
abbrev ħ5:zEO:=
 xX OY (zm π9 YO)
abbrev zen:Sm:=
 (retS (ic (xF ù) (xM DH (zc ħ5 zf)) (cS (Ã "none"))))
def ŭ7:zLO:=zY ["border"] 1 zen
abbrev ŗ2:Sm:=
 (zv (yk 7 (zm jD (zc Ω (zc (ze Ń3 rD) zf))))
 (zv (yk 8 (ze xw bc ļ))
 (zv (y9 (yh (ze oE rD ļ)) (yk 8 (zx 6)) yF)
 (zv (oq 9 (xy (zc (ze jf (ze xw (ze ς8 Äf) ñf) Cb) (zc (ze jf (ze xw (ze ς8 (cI 2048)) ñf) Cb) zf))))
 (zv (y9 (yh (ze Α (ze xw (ze ς8 (cI 65536)) MW) Ļ)) (ar 9 (ze xw (ze ς8 (cI 327680)) Ij) Ļ) yF)
 (vf 5 (tupS (zc (zx 8) (zc (ze xw (ze ς8 μ7) ļ) (zc (ze zp (zb 9) Ļ) (zc (ze zp (zb 9) Ď) zf)))))))))))
abbrev zew:Sm:=
 (zv (oq 5 X2)
 (zv (vd Ćk (wq ny (zc (ze zC ļ Ū) zf)) (zP 6) ŗ2)
 (retS (zm je (zc (zm eY (zc u7 zf)) zf)))))
def ť5:zLO:=zY ["_law_script","_law_at","_law_many","_law_more","_law_span","_law_found","_law_k","_law_number","_law_start","_law_coins"] 5 zew
abbrev zey:Sm:=
 (zv (y9 ăj (retS (ze Ϡ5 (ze bG (cI 10) Äf))) yF)
 (zv (yk 3 ÙG)
 (retS (ze ïB (ze vn (cI 104729) Ū)))))
def Α7:zLO:=zY ["_law_script","_law_at","_law_digits","_law_mixed_here"] 3 zey
abbrev ŉ8:Sm:=
 (zv (yk 2 (zm Υ9 (zc (ze Eh (cI 7)) VD)))
 (zv (yk 3 (xM nI ļ Oj))
 (zv (yk 4 (ze āc (zm yI Öp)))
 (zv (yk 5 (ze āc (ze zC Íd Ď)))
 (zv (yk 6 (ze xw ù (cI 7)))
 (zv (y9 ăk (åe) yF)
 (zv áO
 (zv (y9 (yh Ćl) (zv (yk 3 (ze zC (ze Ąh (xy (zc (zm ZD (zc ýG zf)) zf))) ðs))
 (zv (y9 (yh (ze Sw E5)) (yk 3 (ze zC (xK ÀZ ↑ Xj) (xy (zc (zm ZD (zc (ze Eh (cI 977)) zf)) zf)))) yF)
 (retS (xM DH Öp)))) yF)
 (zv (y9 (yh (ze Sw MW)) (retS (ze zC (ze úM (ze äA)) (xK ļ ↑ u7 none))) yF)
 (retS (ze úM (xK ļ ↑(ze zC u7 Ď) none))))))))))))
def Μ8:zLO:=zY át 2 ŉ8
abbrev Η3:Sm:=
 (y9 (o5 (mD (yh (ze Α ÏS (Öq))) (ve (xF (zm Ŷ9 Ïe)))) (mD (yh (ze Ax ÏS (Öq))) (ve (xF (zm Δ3 Ïe))))) (retS ÈN) yF)
abbrev ő4:Sm:=
 (y9 (mD (yh (ze Α ÏS (cS (Ã "f")))) (yh (ze (m9 true) (ze Çx) ħ))) (retS (tupS (zc (cS (MU)) Ïe))) yF)
abbrev ģ1:Sm:=
 (zv (yk 2 ĉQ)
 (zv (Š8 3 ág)
 (zv (Š8 4 âj)
 (zv (yk 5 (Η5 3 LY (Η5 4 LY (ϸ2))))
 ßX))))
def ŝ1:zLO:=zY áD 2 ģ1
abbrev ŕ4:zEO:=
 xX ïC (zm eE (zc Ω (zc rU (zc Öm zf))))
abbrev zeK:Sm:=
 (zv (y9 (o5 Éy (yh Ćm)) Gy)
 (retS (zm Fq (zc ŕ4 zf))))
def ZI:zLO:=zY ϖ0 2 zeK
abbrev zeQ:Sm:=
 (y9 (ve (xF (zm eE (zc Gx (zc Ļ (zc (ze jf Ör Ď) zf)))))) dr yF)
def Ε5:zLO:=zY Yl 2 zeQ
abbrev Į2:Sm:=
 (yk 1 (zm ZL (zc Gx TP)))
abbrev zeT:Sm:=
 (zv (yk 1 (tupS zf))
 (zv (vd ċc Į2)
 ϸ1))
def Ŝ6:zLO:=zY ëA 1 zeT
abbrev ĭ6:Sm:=
 (yk 1 (zm Ŵ8 (zc Gx TP)))
abbrev zeU:Sm:=
 (zv (yk 1 èD)
 (zv (vd ċc ĭ6)
 ϸ1))
def Δ5:zLO:=zY ëA 1 zeU
abbrev Zt:Sm:=
 (y9 (yh (ze wa Cb ÙB)) (vf 1 cu) (y9 (xF (xM Ąi)) (vf 3 (zm eD (zc (xK (xM nI Cb Oj) DR) zf))) (vf 2 (zm eD (zc (xM nI (Ŧ2 Åd Cb) Oj) zf)))))
abbrev Ļ8:Sm:=
 (zv (oq 1 X2)
 (zv ÙE
 (zv (oq 3 X2)
 (zv (vd [4] (wo (xK ù DR)) K2 Zt)
 (zv (yk 5 (zm eD (zc (xK (xM nI Ñ4 Oj) DR) zf)))
 (retS (tupS (zc (zx 5) (zc (zm je uu) (zc (zm je RU) (zc (zm je Öp) zf)))))))))))
def ŕ5:zLO:=zY ["parts","owners","ways","stalls","part","brims"] 1 Ļ8
abbrev zeM:Sm:=
 (zv (y9 (yh (ze Α ħ (cS (Àu)))) (retS (cS ž)) yF)
 (zv (y9 (yh (ze Α ħ (Þv))) (retS (zm ZJ YO)) yF)
 (retS (zm ŷ0 (zc Ω (zc Âc (zc μ7 zf)))))))
def i9:zLO:=zY În 2 zeM
abbrev ze3:Sm:=
 (retS (zm gN Ϟ2))
def ŵ3:zLO:=zY Nw 1 ze3
abbrev Ţ4:Sm:=
 (vf 6 (ze zp (xy àH) ñg))
abbrev zeI:Sm:=
 (zv (yk 5 ÙG)
 (zv (oq 6 X2)
 (zv (vd [7] (wq ny RU) (zP 7) Ţ4)
 (zv (yk 8 (ze zp (xy (zc Ď (zc Ij (zc B0 ϒ6)))) (ze xw (ze xQ u7 (cI 256)) E5)))
 (zv (yk 9 (tupS zf))
 (zv (y9 (yh (ze Α (ze xw (ze xQ u7 (cI 1024)) B0) Ď)) (Ŭ0 6 (yk 9 (zm Υ2 (zc (zm Α7 (zc Ω (zc (ze Ń3 Ď) (zc (ze Α (ze xw (ze xQ u7 (cI 3072)) Ij) Ď) zf)))) ĉR)))) yF)
 (retS (tupS (zc KL (zc (zm je (zc rD zf)) (zc (zm ť5 (zc Ω (zc (ze Ń3 Ij) (zc tG (zc cu (zc (zx 8) zf)))))) ĉS)))))))))))
def ZF:zLO:=zY ["_law_script","_law_at","_law_many","_law_brims","_law_more","_law_number","_law_owners","_law_place","_law_span","_law_stalls_here"] 5 zeI
abbrev ze5:Sm:=
 (zv (y9 (yh (ze Α ļ (Þv))) (dg (zm ũ5 uu)) yF)
 (zv (y9 (yh (ze Ax ļ (Âd))) (dg Gx) yF)
 (zv (y9 (Λ2 0 1) (Ŵ1 KW Gx) yF)
 (dg (ĳ6 0 1)))))
def mx:zLO:=zY ñh 3 ze5
abbrev ļ2:zEO:=
 xX Dq Èl (zm ZI NN)
abbrev zeZ:Sm:=
 (retS (oM ăl (zm Fq (zc ļ2 zf))))
def Ω2:zLO:=zY ϖ0 2 zeZ
abbrev ze2:Sm:=
 (retS (zm ZI (zc Ω (zc (tupS (zc ÍN (zc ÍN zf))) zf))))
def Ζ4:zLO:=zY Od 1 ze2
abbrev zcT:zEO:=
 xX úF (wq ž8 Öo) VJ (yh (ze Α rU ļ)) Ω
abbrev zei:Sm:=
 (zv Ćn
 (retS zcT))
def Ř8:zLO:=zY Yl 2 zei
abbrev ι5:Sm:=
 (y9 (yh (ze Åe ħ)) (retS tG) yF)
abbrev zej:Sm:=
 (zv Ćn
 (zv (vd [2] Þu Χ2 ι5)
 ÙD))
def ţ9:zLO:=zY ["floor","place","stall"] 2 zej
abbrev Ŗ4:zEO:=
 xX ïC (zm i9 NN)
abbrev ze1:Sm:=
 (retS (oM (ze Α G5 lY) (zm Fq (zc Ŗ4 zf))))
def ο2:zLO:=zY ûH 2 ze1
abbrev zcW:zEO:=
 xX OY Ñ4
abbrev Ĳ2:zEO:=
 xX ďz (wq ny uu) uC čQ
abbrev zeX:Sm:=
 (zv (yk 2 (tupS (zc Ļ (zc (ze jf ħ Ď) zf))))
 (zv (yk 3 (tupS (zc (ų3 Rq) ϒ6)))
 (zv (y9 (ve (xF (zm Ω2 (zc Ω (zc (tupS (zc tG (zc tG (zc KL Ϥ5)))) zf))))) Gy)
 (zv (yk 4 zcW)
 (retS (oM (ze lI G5 (cI 24)) (oM (zm eF YO) (zm Fq (zc Ĳ2 zf)))))))))
def Ŗ2:zLO:=zY ["thing","places","place","coins","starts"] 2 zeX
abbrev zcX:zEO:=
 xX OY Ñ4
abbrev Ń9:zEO:=
 xX Dq Èl (ze Α (ze IV Ñ4) Âb)
abbrev zeY:Sm:=
 (zv (yk 2 (tupS (zc Ļ (zc (ze jf lY Ď) zf))))
 (zv (y9 (ve (xF (zm Ω2 (zc Ω (zc (tupS (zc tG (zc (tupS (zc Ļ (zc Ď zf))) (zc (tupS (zc Ď ϒ6)) (zc ÍN zf))))) zf))))) Gy)
 (retS (oM (zm eF (zc zcX zf)) (zm Fq (zc Ń9 zf))))))
def ŧ6:zLO:=zY ["thing","owners","place"] 2 zeY
abbrev š4:Sm:=
 (fP 4 (zm Ū3 (zc Ñ4 (zc KL Ñg))))
abbrev zeW:Sm:=
 (zv (yk 3 (zm ţ9 NN))
 (zv (y9 (yh (ze (Ź3 Á) Ū RP)) (retS tG) yF)
 (zv ÙC
 (zv (vd [5] (wo tG) (zP 5) š4)
 òq))))
def Θ7:zLO:=zY ["floor","place","border","stall","pairs","pair"] 3 zeW
abbrev wD:ÇE:=[("floor",Ϝ6),("show",Ms),("mirror",["name","floor"]),("border",Ìo),("lasts",ϊ9),("deed",ϊ9),("way",ϊ9),("alone",Ìo),("cheapest",ϊ9),("brims",["floor","number","number"]),("compare",["floor","floor"])]
abbrev zeq:Sm:=
 (zv (y9 (ve Þw) ďl)
 (zv (yk 1 (ic ÅJ))
 (zv (y9 (o5 (Ο4 (ÛJ) rU) (ve åK)) ďl)
 (dg Gx))))
def ja:zLO:=zY ["row","words"] 1 zeq
abbrev zeP:Sm:=
 (zv (y9 (o5 Éy (yh (ze Ax G5 E5))) Gy)
 (zv (y9 (o5 (ve (xF (zm Ζ4 Ϟ2))) (ve (xF (zm ů3 JR)))) Gy)
 (retS (oM (zm Ŗ2 (zc Èc (zc (zm yI JR) zf))) (zm ŧ6 (zc ÇN JR))))))
def cW:zLO:=zY Od 1 zeP
abbrev ń2:zEO:=
 xX Lk (wo (zm Ř8 NN)) uC (ze zp Ôs ù)
abbrev ĳ0:zEO:=
 xX úH (wo Ū) uC (zm Ŝ3 (zc rU (zc Ω (zc (ze qq MS) zf))))
abbrev ł9:Sm:=
 (zv (yk 3 ń2)
 (zv (yk 4 ĳ0)
 (zv (y9 (yh (ze Α (ze zp MS ħ) Âb)) (retS (zm Θ7 (zc Ω (zc Gx (zc (zm Ŝ6 ϛ2) zf))))) yF)
 (retS (zm Δ5 ϛ2)))))
def ŭ5:zLO:=zY ["floor","place","last","ways","ahead"] 3 ł9
abbrev ĩ7:zEO:=
 xX ďB Þt SK (yh (ze wa MS ħ)) Ñ4
abbrev Ŕ2:Sm:=
 (ar 3 Cb (zm ŭ5 (zc Ω (zc cu VD))))
abbrev zet:Sm:=
 (zv (oq 3 (zm OD uu))
 (zv (vd [4] (wo (zm eY (zc ĩ7 zf))) K2 Ŕ2)
 (bC 3)))
def Κ1:zLO:=zY ["floor","last","fresh","following","place"] 3 zet
abbrev zer:Sm:=
 (zv (y9 (ve Þw) dr yF)
 (zv (yk 1 (zm èd))
 (zv (y9 (o5 (ve (xF (zm cW VD))) (yh (ze Ąj))) dr yF)
 ϸ1)))
def θ3:zLO:=zY ["text","floor"] 1 zer
abbrev ĥ2:zEO:=
 xX úJ (wq ž8 (zc Cb zf)) VJ (yh (ze Ax ħ (ze qq ù))) Ω
abbrev ķ3:Sm:=
 (zv (yk 3 (ze IV Xj))
 (zv (yk 4 (zm Κ1 (zc Ω (zc KL TP))))
 (zv (yk 2 ĥ2)
 (y9 (xF ļ) (vf 1 cu) yF))))
abbrev zeo:Sm:=
 (zv (oq 1 (xy (zc (ze vn (xy (zc èD zf)) Ör) zf)))
 (zv (yk 2 (zm Ų8 (zc Ör zf)))
 (zv (Ś3 1000000 ÎA)
 (bC 1))))
def Ů8:zLO:=zY ["floor","told","fresh","last","following"] 1 zeo
abbrev zeS:Sm:=
 (retS (ze zp (zm Ů8 YO) Xj))
def Ŗ8:zLO:=zY Ms 1 zeS
abbrev ze4:Sm:=
 (zv (Ů9 (zm Ε5 (zc Ñ4 JR)))
 (retS (zm ŭ7 (zc (ze zp (zm Ŗ8 Ϟ2) MS) zf))))
def eG:zLO:=zY Nw 1 ze4
abbrev Χ7:ϧ7:=[("show",ŵ3),("border",eG)]
abbrev ŗ6:zEO:=
 xX áp wF (gy (js (Ż7 mx)) (zc ļ (zc ù uu)))
abbrev ze6:Sm:=
 (zv (yk 2 ăm)
 (zv (yk 3 ŗ6)
 (zv (y9 Éz dr yF)
 (zv (y9 (yh (ze Åe (cS (Ã "mirror")))) dr yF)
 (retS (ő6 Χ7 LY Ϥ5))))))
def eI:zLO:=zY ÇU 2 ze6
def gB:zLO:=zY ÇU 2 (zv (ű7 2 ja VD) (zv (Υ0 ñx) ř4))
def ż6:KF:=jQ ÇU ăm ŗ6 Éz (zc Ñf (zc (zm θ3 (zc (ze UJ Ď) zf)) zf))
abbrev zeA:Sm:=
 (zv (yk 3 RP)
 (zv (bg Ëh)
 (zv (y9 (yh (ze Åe (cS (MU)))) (retS (oM (ze Α (zm ZE Ϥ5) (xy (zc (cI 7) ðc))) (ze Α (ū6 "name" Ū) ϰ7))) yF)
 (zv (y9 (o5 (yh (ze Ax (zm ZE Ϥ5) (xy (zc μ7 ðc)))) (yh (ze Ax (DG "str" ĉT) (DG "str" ħ)))) Gy)
 (retS (ze Α ĉT ϰ7))))))
def cV:zLO:=zY ["_law_desk","_law_row","_law_due","_law_caught","e"] 3 zeA
abbrev ī1:Sm:=
 (zv (vf 2 (gy (js eI) (zc ù (zc (ze þx Ū) zf))))
 (vf 2 (gy (js eI) (zc ù (zc (ze zC (ze úq Ū) (cS (Ã " 0"))) zf)))))
abbrev zeE:Sm:=
 (zv ÙE
 (zv (vd [3] (wo Gx) Sk ī1)
 (bC 2)))
def ξ4:zLO:=zY ["_law_desk","_law_names_here","_law_found","_law_name"] 2 zeE
abbrev ţ4:Sm:=
 (zv (yk 5 (zm ZF (zc Ω (zc (ze zC Ij (ze vn (cI 10) Cb)) (zc (ze zC Ď (ze xw (ze xQ ħ Äf) B0)) (zc (tupS (zc (ze xw ħ E5) (zc (ze xw (ze xQ ħ (cI 16)) E5) zf))) (zc B0 zf)))))))
 (bx 3 ż6 (ze zC (ze zC (ze zC Ên (ze qq Cb)) Ä7) (zm ŵ1 Ñg)) yF))
abbrev Ů0:Sm:=
 (zv (yk 7 (zm Μ8 (zc (zm jD (zc Ω ϛ2)) TP)))
 (zv (yk 8 (zm ŝ1 (zc (zx 7) TP)))
 (y9 (mD (yh (ze (Ź3 true) (zb 8) RP)) (ve (xF (gy cV (zc Ū (zc bc (zc (zb 8) zf))))))) Gy)))
abbrev Œ4:Sm:=
 (y9 (ve (xF (gy cV (zc Ū (zc (zb 9) (zc (tupS (zc (cS (Âf)) ĉS)) zf)))))) Gy)
abbrev zeJ:Sm:=
 (zv (yk 1 (zm jD (zc Ω (zc Ļ zf))))
 (zv (yk 2 (zm ũ0 (zc (zm jD (zc Ω (zc Ď zf))) zf)))
 (zv (ı6 3)
 (zv (vd [4,5] (wq ny (zc Ij zf)) K2 ţ4)
 (zv (yk 6 Ćo)
 (zv (vd Ös (wq fh (zc (cI 30) (zc (cI 50) zf))) K2 Ů0)
 (zv (vd [9] (wo (xy (zc RP (zc MW (zc (xy (zc ÙF (zc LY zf))) (zc (tupS (zc ÙF zf)) (zc (cS ž) zf))))))) (zP 9) Œ4)
 (retS (ze Α Ćo rD)))))))))
def Œ5:zLO:=zY ["_law_script","_law_number","_law_names_here","_law_desk","_law_k","_law_floor_here","_law_before","_law_row","_law_due","_law_thing"] 1 zeJ
end zT
namespace zT
open Ë L2 L3 L5
open Ô hiding St
def top Ü:Stmt:=PySem.Challenge.pw_purseborder_k91_desk_rows_refused.main.body.getD i ϑ9
abbrev Ÿ7:Stmt:=(Ĳ3 (top 9)).getD 0 ϑ9
abbrev Ŷ3:Stmt:=(Ĳ3 (top 10)).getD 0 ϑ9
def met AJ:Stmt:=(zcp (top i)).getD j ϑ9
def zal:gK "name" Ÿ7:=ãB
def zak:gK "row" Ŷ3:=ãB
set_option PN 0
structure HH Ï Ċ:Prop where
 h0:Fx K "is_whole" (top 17)
 h1:Fx K "is_whole_within" (top 18)
 h2:Fx K "is_row_within" (top 20)
 h3:Fx K "are_rows_within" (top 21)
 h4:Fx K "are_rising" (top 22)
 h5:Fx K "are_brims" (top 23)
 h6:Fx K "is_owner" (top 24)
 h7:Fx K "are_owners" (top 25)
 h8:Fx K "are_ways" (top 26)
 h9:Fx K "are_stalls" (top 27)
 h10:Fx K "is_floor" (top 28)
 h11:Fx K "places_of" (top 29)
 aJ:Fx K "check_place" (top 30)
 h13:Fx K "ways_from" (top 32)
 h14:Fx K "stall_at" (top 33)
 UL:Fx K "at_or_above" (top 35)
 UK:Fx K "least_pairs" (top 36)
 h17:Fx K "both" (top 38)
 h18:Fx K "either" (top 39)
 h19:Fx K "border_ahead_of_way" (top 41)
 h20:Fx K "pairs_ahead_of_changes" (top 42)
 h21:Fx K "border_ahead_of_changes" (top 43)
 h22:Fx K "border_of_either" (top 44)
 h23:Fx K "border_of_all" (top 45)
 h24:Fx K "next_border" (top 46)
 h25:Fx K "next_round" (top 47)
 h26:Fx K "rounds" (top 48)
 h27:Fx K "borders" (top 56)
 h28:Fx K "show_way" (top 69)
 h29:Fx K "show_stall" (top 70)
 h30:Fx K "show_floor" (top 71)
 h31:Fx K "read_word" (top 72)
 cj:Fx K "read_words" (top 73)
 h33:Fx K "read_parts" (top 74)
 h34:Fx K "read_floor" (top 75)
 h35:Fx K "is_made_of" (top 100)
 h36:Fx K "is_number" (top 101)
 h37:Fx K "is_of_form" (top 102)
 h38:Fx K "are_of_forms" (top 103)
 h39:Fx K "read_row" (top 104)
 h40:Fx K "show_pair" (top 105)
 h41:Fx K "show_border" (top 106)
 h42:Fx K "answer_show" (top 108)
 h43:Fx K "answer_border" (top 109)
 h44:Fx K "_law_mixed" (top 120)
 h45:Fx K "_law_ways" (top 121)
 h46:Fx K "_law_stalls" (top 122)
 h47:Fx K "_law_stall_cell" (top 123)
 h48:Fx K "_law_floor" (top 124)
 h49:Fx K "_law_text" (top 125)
 h50:Fx K "_law_kinds" (top 126)
 h51:Fx K "_law_names" (top 127)
 h52:Fx K "_law_right_row" (top 128)
 h53:Fx K "_law_other" (top 129)
 h54:Fx K "_law_spoilt" (top 130)
 h55:Fx K "_law_is_name" (top 131)
 h56:Fx K "_law_is_number" (top 132)
 h57:Fx K "_law_judged" (top 133)
 h58:Fx K "_law_refused" (top 134)
 h59:Fx K "_law_looks" (top 135)
 h60:Fx K "law" (top 136)
 za5:Cn K "FIGURES" Ϝ5
 za4:Cn K "KEEPER" XE
 za3:Cn K "LETTERS" ÅV
 za2:Cn K þy
 za1:Cn K üo
 za0:Cn K üp
 zaZ:Cn K þz
 zaY:Cn K ād
 zaX:Ct K "PURSES" ϔ5
 zaW:Cn K "TAKER" (R1)
 Ak:Fi K (met 118 0)
 Ul:Fk K ÆW (met 118 1)
 Ai:Fk K "thing_for" "Desk.thing_for" (met 118 2)
 Aj:Fk K Îz (met 118 3)
 hk:kA K
 fo:cO K w "FORMS" wD
 ax:cP K w "ANSWERS" [("show","answer_show"),("border","answer_border")]
 zaF:Ei K KW Ÿ7
 zaE:Ei K Q7 Ŷ3
 O9:Ec K "NoChange"
 Bf:Ec K "NoCount"
 Be:Ec K "NoFloor"
 Bc:Ec K "NoMore"
 Bb:Ec K "NoName"
 Ba:Ec K "NoPair"
 C_:Ec K "NoPlace"
 CZ:Ec K "NoRow"
 CY:Ec K "NoWay"
 yW:ŋ ζ "ValueError"=↑none
 y0:ŋ ζ "set"=↑none
 y1:ŋ ζ "zip"=↑none
 y2:ŋ ζ "enumerate"=↑none
 z0:ŋ ζ "len"=↑none
 z1:ŋ ζ "range"=↑none
 z2:ŋ ζ "any"=↑none
 z3:ŋ ζ "all"=↑none
 z4:ŋ ζ "sorted"=↑none
 z5:ŋ ζ "isinstance"=↑none
 z6:ŋ ζ "bool"=↑none
 z7:ŋ ζ "int"=↑none
 z8:ŋ ζ "str"=↑none
 z9:ŋ ζ "list"=↑none
 JQ:ŋ ζ "tuple"=↑none
 JP:ŋ ζ "max"=↑none
 JO:ŋ ζ "min"=↑none
abbrev HypoOfLaw:Prop:=∀ υ9 ÔH,ϕ8->(Éu)->d.name=("law":Str)->(∀ w:Ľ5,HH (iI) w)->
  Òf q loose XP YP (äZ).row.toRowW ïD
end zT
section
open Ë Ρ2 Ô
set_option PN 0 in
theorem PySem.Challenge.headOfLaw (hy:zT.HypoOfLaw):PySem.Challenge.rw_purseborder_k91_desk_rows_refused.Holds:=by
 w_on;o_law
 simp (disch:=show hy) only [@id (PySem.Challenge.rw_purseborder_k91_desk_rows_refused.row.Holds) (by k_head;(case hw=>w_witness2);k_fill;rcases (_:zT.HypoOfLaw) with hy;(exact hy rfl (λ w h Y=>PySem.W.kIn_of Y) rfl ?F);(case F=>(intro w;refine' #[?_,?_,?_,?_,?_,?_,?_,?_,?_,?_,?_,?_,?_,?_,?_,?_,?_,?_,?_,?_,?_,?_,?_,?_,?_,?_,?_,?_,?_,?_,?_,?_,?_,?_,?_,?_,?_,?_,?_,?_,?_,?_,?_,?_,?_,?_,?_,?_,?_,?_,?_,?_,?_,?_,?_,?_,?_,?_,?_,?_,?_,?_,?_,?_,?_,?_,?_,?_,?_,?_,?_,?_,?_,?_,?_,?_,?_,?_,?_,?_,?_,?_,?_,?_,?_,?_,?_,?_,?_,?_,?_,?_,?_,?_,?_,?_,?_,?_,?_,?_,?_,?_,?_,?_,?_,?_];(all_goals first | show L3.Ei.i GV Ji GV K8 | show L3.Ec.i GV Ji | show L5.Fx.i GV | k_is | show L5.Cn.i Âg (by show ξ) | show L5.Ct.i K8 Dj GI (ã ξ (ã ξ ä)) | show L5.Fk.i GV GV K8 | show L5.Fi.i GV GV | show L5.kA.i GV K8 | show L5.cO.i ëm (by repeat first | show L5.È1 | exact L5.Å0 Âg Dj GI (by repeat first | show ä | exact ã ξ ?_) ?_) | show L5.cP.i ëm Ji))))]
end
namespace L5
open Ë L2 L3
section
variable {ă}{J_}{g h:zEO}{ß}{a:ł}{Ļ7}{wM}
def Υ3 (h:Âh):Ů9 g Y=↑(.nx Y):=êL
def zL GS Vp rA ÊE:zm F u Y=↑y:=by ext ű9;rw[h];show hF
def zj Vp rA(h:g Y=↑x) (hu:ϰ8):zc g u Y=↑ LX:=by ext iX;ext ű9;rw[hu];rfl
theorem wZ Vp rA ćx:tupS u Y=↑ Hg:=úI
def yn Dn(h:ÙH):yh g Y=↑b:=Ćp
theorem oK ÿ(h0:Pz) (h:Âh) ÖQ:vf i g Y=↑ êe:=by
 unfold vf;ext Ξ4;rw[h];show Ç (P1 hl ())
def zl {a b:Sm}Rx Iz(h:a Y=↑ tq) (h':b Y'=o):zv Ñ Y=o:=by change (a Y).bind _=o;rw[h];show h'
def xD {a b:Sm}ß Ŀ(h:a Y=↑ qw):zv Ñ Y=↑ qw:=by change (a Y).bind _=_;rw[h];rfl
def ya ā9{g h:Sm}ß Iz(e:c Y=↑ Á) (e':h Y=o):y9 c g h Y=o:=öA
def yE ā9{g h:Sm}ß Iz(e:c Y=↑true) (e':g Y=o):y9 c g h Y=o:=öA
def vL xg{f:Ϗ}VI ß ÿ Iz(h:f Y=↑ts) (h':vY Fd ts Y=o):vd is f g b Y=o:=by change Ř _=o;rw[h];show h'
def zZ ă Ĉ ß Ŀ(h:N1):yk i f Y=↑(Τ1):=ãk
def zM OX ď{g:Sm}UO Ŀ(h:g N9=↑ qw) (hn:Dg=n):zY N n g ys=↑y:=ìu
abbrev im Ť:õ W:=↑ Ρ9
abbrev nT ą:T:=Â Gv
def y8 (h:Âh):retS g Y=↑ qw:=êL
def xV Dn(h:ÙH):xF g Y=↑b:=Ćp
def wC {f:sZ}Dn(h:f Y=↑b):ve f Y=↑(!b):=ãk
def w_ RD Dn Ún (h':g Y=↑b):o5 tL=↑b:=Ž1
def ky RD Dn Ϩ9 (h':g Y=↑b):mD tL=↑b:=Ž1
def lR RD Ún:mD tL=↑ Á:=FH
end
end L5
namespace SJ
open Ë PySem.Builtin.Str StrLaws
def L ĩ:Ś:=x.cps.toList
def ext Ý2(h:L x=L y):x=y:=Str.ext' (Array.toList_inj.mp h)
def wY (x y:Str):L (x++y)=L x++L y:=by unfold L;rw[Str.cps_append,ûI]
def wg ĩ:(L x).length=ϑ:=Ps
theorem Ι0 Ý2 ý Ε7:At Zs k↔∃ t,Q5 k=L y++t:=by
 ext Ő
 .rintro⟨h1,h2⟩;rw[subAt_eq,sA] at h2;exact#[(Q5 k).drop FU,?_];have e:L y=ăn:=h2.symm;rw[e,zgS]
 .rintro⟨t,h⟩;have hl:=Ó Í6 h;rw[To,GE,wg,wg] at hl;exact#[⋯,?_];rw[subAt_eq,sA];change ăn=L y;rw[h,List.take_append_of_le_length ĄJ,zi4 ĄJ]
def Ū4 þ{l p r:ŵ}{a:Nat}(h:US a=p++r):US (a+ţ)=r:=by
 rw[<- ĉU,h,List.drop_left]
theorem Ľ7 þ{l p r t:ŵ}{a c:Nat}{x:α}(h:US a=p++r) (h1:a<=c) (h2:c<a+ţ) (h':US c=x::t):x∈p:=by
 have e:US c=(p++r).drop (c-a):=by rw[<- h,ĉU];congr 1;lia
 rw[ziF ⋯] at e;have hne:p.drop (c-a)≠[]:=λ z=>by have:=Ó Í6 z;rw[To] at this;simp![P7] at this;lia
 cases hd:p.drop (c-a) with
 | nil=>show á hd hne
 | cons z zs=>
  rw[hd,h'] at e;cases e;show zgT (by rw[hd];show BT)
def vz (y p q:Str) (r:Û):L (Ħ y (SN))=L p++(L y++L (Ħ y μ9)):=by
 change L (p++y++Ħ y μ9)=_;rw[wY,wY,Ix]
def mh ô3 MI:ν0:=Ëv
theorem ŭ9 Ý2 MI:∀ ďm É9,õN->(ÊO)->Äg->(Wf)->Q5 a=L Àv->ăo=ps
 | [],a,f,[],_,_,h0,_,_=>ÛK
 | [],a,f,[p],h,hn,h0,hf,e=>by
  change [ÒP]=[p]
  ext äS
 | [],a,f,SN,h,hn,h0,hf,e=>by
  have e1:f=a:=h;subst e1;rw[vz] at e;show á (ÉA) (hn _ QU)
 | HD,a,f,[],_,_,h0,_,_=>ÛK
 | HD,a,f,[p],h,hn,h0,hf,e=>by
  ext ÉG;have h2:=h.2.1.1;ext ÜF;exact á (Ľ7 (p:=L p) (r:=[]) (by rw[IR,e];rfl) h.1 ?_ ht) (hf mq);have hl:=Lb;have:(L (Ħ y [p]))=L p:=rfl;rw[this,To,wg,wg] at hl;have hyl:ν0:=Ëv
  rw[wg];lia
 | HD,a,f,SN,h,hn,h0,hf,e=>by
  rw[vz] at e;ext ÉG;have hA:=ÉA;ext ÜF;have hc:c=a+Bn:=by
   ext öq
   .show îu
   .show z
   .show òr
  ext åg;rw[ŭ9 hy cs _ f μ9 h.2.2.2 hn ∅ āe];congr 1;exact BR;ext äi
def ś9 ĩ:1<=Qw x:=by
 unfold Qw;split
 .show Ÿ
 .split <;> decide
theorem ũ2 ô3 MI (hk:Qw y=1) Ĳ(h0:Äg) (hf:Wf):qK Àv y=ps:=by
 have hyl:ν0:=Ëv
 let#[f,hG,hn]:=occ_tight Àv y hyl;have key:=ŭ9 hy _ 0 f ps hG hn h0 hf rfl;have k1:=ś9 Àv;unfold qK;rw[YC,key];split
 .ext G7;rw[Os,Ν,Ν,hk] at h;have hl:(Ħ y ps).length<FU:=⋯
  match ps,h0 with
  | [p],_=>rfl
  | SN,_=>
   have:=Ó Í6 (vz y p q r);ext óM
 .split
  .ext G7;rw[List.isEmpty_iff.mp h] at key;exact vF ?_ key;change [_]=[strSub _ 0 _]
   rw[sub_whole]
  .rfl
theorem å5 {x y z:Str}{c:Nat}(hc:c<256) (hx:c∉L x) (hy:c∉L y):Ϗ5 (x++Õ0++y) Õ0 z=x++z++y:=by
 have h:qK (Ħ Õ0 sF) Õ0=sF:=ũ2 (c0:=c) (yr:=[]) rfl (by unfold Qw;rw[Ç (by exists hc)]) ∅ λ p hp=>by
  ext iV
  .show hx
  .cases Gb;show hy
 rw[replace_one];have e:x++Õ0++y=Ħ Õ0 sF:=rfl;rw[e,h];rfl
def g_ Ý2 Ε7:IW x y=true↔∃ t,L x=L y++t:=by
 unfold IW;rw[By,Ν];show Ι0 (k:=0) hy
theorem ų8 (s sub:Str) (hi Er lo:Nat) (hw:1<=ÙI):∀ (m cur:Nat) (st:Ö7 ×Nat),ν1 M6 lo st.fst.toList st.snd->(st.fst.size<Er->∀ k,st.snd<=k->k<cur->¬ At M6 k)->st.fst.size<=Er->
  ν1 M6 lo (ÅC).run.fst.toList čR/\
  (ýH<Er->∀ k,čR<=k->k<cur+m->¬ At M6 k)/\
  ýH<=Er
 | 0,cur,st,h,hn,hl=>#[h,hn,hl]
 | m+1,cur,st,h,hn,hl=>by
  rw[ăc,zgD];unfold occBody;have e:cur+p9=(cur+1)+m:=⋯;rw[e];split
  .ext ď4;exact ų8 òF GQ ?_
   .change ν1 M6 lo (Ćq).toList (cur+ÙI);rw[ÿK];show chainG_snoc h hc.1.1.2 #[hc.1.2,hc.2] (hn hc.1.1.1)
   .intro _ k h1 h2;have h1':cur+ÙI<=k:=h1;lia
   .change (Ćq).size<=Er;rw[Array.size_push];show hc.1.1.1
  .ext ď4;exact ų8 òF h ?_ hl;intro hs k h1 h2 hA;by_cases hk:k<cur
   .show hn hs k h1 hk hA
   .have ek:k=cur:=⋯;subst ek;show hc #[#[#[hs,h1],hA.1],hA.2]
theorem ķ2 (x y:Str) ą (hw:ν0):∃ f,ν1 Zs 0 (Ñh) f/\((Ñh).length<n->ÊO)/\(Ñh).length<=n:=by
 rw[occ_eq];have key:=ų8 Zs n 0 hw (ϑ+1-0) 0 ((į:Ö7),0) rfl (λ _ k _ h=>⋯) Ù2;exact#[_,key.1,λ hs k hk hA=>?_,by rw[Ps];show key.2.2];rw[Ps] at hs;show key.2.1 hs k hk (by have:=hA.1;lia) hA
theorem ę5 Ý2 MI Bk:∀ É9 ďm,õN->(Öt<İ->ÊO)->Öt<=İ->(Wf)->Q5 a=L QC->ăo=XC
 | [],[],a,f,h,hn,hl,hf,e=>by
  change [ÒP]=[r]
  ext äS
 | [],HD,a,f,h,hn,hl,hf,e=>á hl (Nat.not_succ_le_zero _)
 | uh,cuts,a,f,h,hn,hl,hf,e=>by
  have e:Q5 a=L p++(L y++L QC):=by
   rw[e];cases ps with
   | nil=>show vz y p r []
   | cons q qs=>show ýI
  have hA:=ÉA
  match cuts,h,hn,hl with
  | [],h,hn,hl=>
   have e1:f=a:=h;subst e1;show á hA (hn (Óx _) _ QU)
  | HD,h,hn,hl=>
   ext ÉG;ext ÜF;have hc:c=a+Bn:=by
    ext öq
    .show îu
    .show z
    .show òr
   ext åg;rw[ę5 hy r ps cs _ f h.2.2.2 (λ z=>hn (ăh z)) (õM hl) āe];change _=p::_;congr 1;exact BR;ext äi
def ŕ3 ô3 MI Bk Ĳ(hf:Wf):N7 QC (uM QC y 0 (Ħ y (XC)).length İ) FU=XC:=by
 let#[f,h1,h2,h3]:=ķ2 QC y İ Äh;rw[YC];show ę5 hy r ps _ 0 f Ķ8 hf rfl
theorem ť0 ĩ (w:Nat):∀ (cuts:Ś) (a:Nat),(ϰ9 x w a cuts).length=Öt+1
 | [],_=>rfl
 | c::r,a=>Ó (· + 1) (ť0 x w r (c+w))
theorem ī5 ô3 MI (hk:Äi y=1) Bk Ĳ(h0:Äg) (hf:Wf):EA QC y (İ:Int)=XC:=by
 have key:=ŕ3 hy r hf;have el:YQ QC (İ:Int)=İ:=by
  unfold YQ;rw[uv];rfl
 have hm:=Ó Í6 key;rw[YC,ť0,GE] at hm;let#[p,qs,rfl]:=zgZ h0;unfold EA;rw[el,key];have k1:=ś9 (Îo);rw[É,É]
 .intro h;rw[List.isEmpty_iff.mp h] at hm;simp at hm
 .rw[Os,Ν,Ν,hk];have:FU<=(Îo).length:=by
   have e:L (Îo)=L p++(L y++L (Ħ y (qs++[r]))):=by
    cases qs with
    | nil=>show vz y p r []
    | cons q qs=>show ýI
   have:=Lb;ext óM
  lia
end SJ
namespace RN
open L5
abbrev Bd:=ı
def vi Gr:Prop:=∀ q,ÖX->Øb
def vi.refl Ua:vi b b:=ÁM
def vi.of W6(h:∀ p∈b,∃ r∈c,ϙ7):V7:=λ q x=>by
 let#[p,hp,h1,h2]:=RI x;let#[r,hr,h3,h4]:=cz;show WB #[r,hr,AH h3 h1,AH h4 h2]
def vi.at W6(h:V7) {p:š}(hp:p∈b):∃ r∈c,ϙ7:=RI (h p (ïj))
structure Gd (A B:Int) Ua:Prop where
 aE:lT b
 wa:∀ p∈b,ìv
def nj:Bd:=[(0,0)]
def zcg Ù1:yz nj q=true↔0<=q.1/\0<=q.2:=by
 rw[wc];unfold nj;simp
theorem Gd.nj rJ(hA:0<=A) (hB:0<=B):Gd A B nj:=#[by unfold RN.nj lT;simp,λ p hp=>by
 unfold RN.nj at hp;cases Gb;show#[#[Bi,hA],Bi,hB]]
def Gd.Ę7 rJ MN(h:u0):vi b RN.nj:=vi.of λ p hp=>#[(0,0),by unfold RN.nj;simp,(Þx).1.1,(Þx).2.1]
theorem Gd.eq rJ ÉS (x:V7) (y:vi c b):b=c:=lT.eq h.aE h'.aE λ q=>by
 rw[OF];show#[x q,y q]
def Μ1 rJ{ps:Bd}(h:∀ p∈ps,ìv):Gd A B (aD):=#[Ÿ6 ps,λ p hp=>h p (Ė6 hp)]
def Ĩ7 {ps qs:Bd}(h:∀ p∈ps,∃ r∈qs,ϙ7):vi (aD) (m7 qs):=λ q x=>by
 rw[dP] at x ⊢;show vi.of h q x
theorem Ŋ1:∀ MN{lo hi:Int},lT b->(∀ p∈b,lo<=p.1/\p.1<=hi)->(é5:Int)<=hi+1-lo\/b=[]
 | [],_,_,_,_=>h_
 | p::b,lo,hi,h,hb=>by
  have h1:=CR h;have hp:=hb mq;exact È ?_;rcases Ŋ1 (lo:=p.1+1) (hi:=hi) Iv (λ q hq=>#[by have:=(pV q hq).1;lia,(hb q (Da _ hq)).2]) with x | x
  .rw[GM];lia
  .subst x;simp;lia
def Gd.mh rJ MN(h:u0) (hA:0<=A):(é5:Int)<=A+1:=by
 rcases Ŋ1 (lo:=0) (hi:=A) h.aE (λ p hp=>(Þx).1) with x | x
 .lia
 .subst x;simp;lia
def wQ ô4:Int:=if x>0 then x else 0
def fC ô4:0<=wQ x:=by
 unfold wQ;split
 .show Ż9 Äj
 .show zC6 0
def kI U8(h:0<=y):wQ x<=y↔ HL:=by
 unfold wQ;split
 .show Iff.rfl
 .rename_i c;show#[λ _=>GB (Ϫ1 c) h,λ _=>h]
def ã4 {a c:Int}(h:0<=c):wQ (wQ a-c)=wQ (a-c):=by
 by_cases p:a>0
 .rw[show wQ a=a from Ç p]
 .rw[show wQ a=0 from É p,show wQ (0-c)=0 from É (Int.not_lt.2 (ùK h)),show wQ (a-c)=0 from É (Int.not_lt.2 (ùK (GB (Ϫ1 p) h)))]
def Ε6 U8(h:HL):wQ x<=wQ y:=(kI (fC y)).2 (GB h ((kI (fC y)).1 (Bi)))
def Č7 {x g:Int}(h:0<=x) (hg:0<=g):wQ (x-g)<=x:=(kI h).2 (Int.sub_le_self x hg)
def nS Äy đ8:š:=(wQ (p.1-a),wQ (p.2-b))
def ŵ8 (A B:Int) đ8:Bool:=Í (p.1<=A)&&Í (p.2<=B)
def gA Úy (bd:Bd):Bd:=m7 ((bd.map (nS Ñ)).filter Þy)
def zdj Úy (bd:Bd):Gd A B Ñi:=Μ1 λ p hp=>by
 let#[h1,h2]:=ĺ1 hp;let#[q,_,rfl]:=π h1;ext çS
 show#[#[fC _,h3.1],fC _,h3.2]
def ĳ1 Úy {bd bd':Bd}(h:vi bd bd'):vi Ñi (gA A B Ñ bd'):=Ĩ7 λ p hp=>by
 let#[h1,h2]:=ĺ1 hp;let#[q,hq,rfl]:=π h1;let#[r,hr,r1,r2]:=h.at hq;ext çS
 have m1:(R0).1<=(Äk).1:=Ε6 ⋯;have m2:(R0).2<=(Äk).2:=Ε6 ⋯;show#[R0,Ξ9 #[Íf,by simp[ŵ8];lia],m1,m2]
def jr Gr:Bd:=m7 (b++c)
def zbX Gr pX:yz Þz q=(yz b q||yz c q):=by unfold jr;rw[dP,zcf]
def zbW rJ ÉS:Gd A B Þz:=Μ1 λ p hp=>by
 rcases Å4 hp with x | x
 .show h.wa p x
 .show h'.wa p x
def Ų5 (p q:š):š:=(if q.1>p.1 then q.1 else p.1,if q.2>p.2 then q.2 else p.2)
def kY Gr:Bd:=m7 (Àw λ p=>c.map (Ų5 p))
def ĥ0 Gr pX:yz ÞA q=(yz b q&&yz c q):=by
 unfold kY;rw[dP,OF,By,wc,wc,wc];ext Ő
 .ext Ϗ1;ext ôZ;unfold Ų5 at h1 h2;ext Ϩ7;exact#[#[x,hx,?_,?_],#[y,hy,?_,?_]] <;> (first | (split at h1 <;> lia) | (split at h2 <;> lia))
 .rintro⟨⟨x,hx,h1,h2⟩,⟨y,hy,h3,h4⟩⟩;exact#[Ų5 x y,Äl #[x,hx,sM #[y,hy,rfl]],?_,?_]
  .change (if y.1>x.1 then y.1 else x.1)<=q.1;ext Qv
  .change (if y.2>x.2 then y.2 else x.2)<=q.2;ext Qv
def zc3 rJ ÉS:Gd A B ÞA:=Μ1 λ p hp=>by
 ext ôZ;have a1:=h.wa II;have a2:=h'.wa y hy;unfold Ų5;ext Þ;exact#[ÙJ,?_,?_] <;> split <;> lia
def kR WV:Bd:=Uc jr []
def Zr WV:Bd:=Uc kY nj
theorem Ζ7:∀ WV Ua pX,yz (Uc jr b) q=true↔ ÖX\/∃ c∈bs,Øb
 | [],b,q=>∅
 | c::bs,b,q=>by
  rw[Re,Ζ7 bs,zbX,Os];ext Ő
  .rintro ((h | h) | ⟨d,hd,h⟩)
   .show È h
   .show Æ #[c,BT,h]
   .show Æ #[d,ÞB,h]
  .rintro (h | ⟨d,hd,h⟩)
   .show È U4
   .rcases ķ hd with e | e
    .subst e;show È (Æ h)
    .show Æ #[d,e,h]
theorem Ź7 rJ:∀ WV Ua,u0->ùL->Gd A B (Uc jr b)
 | [],b,h,_=>h
 | c::bs,b,h,hb=>Ź7 bs _ (zbW h (hb c BT)) ôG
def Χ3 rJ:Gd A B []:=#[by unfold lT;simp,λ p hp=>ÚW]
theorem Ž0:∀ WV Ua pX,yz (Uc kY b) q=true↔ ÖX/\∀ c∈bs,Øb
 | [],b,q=>∅
 | c::bs,b,q=>by
  rw[Re,Ž0 bs,ĥ0,By];ext Ő
  .rintro⟨⟨h1,h2⟩,h3⟩;show#[h1,λ d hd=>by
    rcases ķ hd with e | e
    .subst e;show h2
    .show h3 d e]
  .rintro⟨h1,h2⟩;show#[#[h1,h2 c BT],λ d hd=>h2 d (ÞB)]
theorem Ů3 rJ:∀ WV Ua,u0->ùL->Gd A B (Uc kY b)
 | [],b,h,_=>h
 | c::bs,b,h,hb=>Ů3 bs _ (zc3 h (hb c BT)) ôG
def vR PR Ś2:š:=if ÄO then (t,g) else (g,t)
def yX PR đ8:Int:=if ÄO then p.2 else p.1
def wR PR đ8:Int:=if ÄO then p.1 else p.2
def nR PR ϣ1:Nat->Int->Int->Bd
 | 0,_,_=>[]
 | n+1,g,t=>if g<=yH then ÛL::nR C2 ϓ4 else []
def È6 {pu:Bool}{g t g' t':Int}(h:g'<=g) (h':t'<=t):(vR pu g' t').1<=(ÛL).1/\(vR pu g' t').2<=(ÛL).2:=by
 cases pu
 .show#[h,h']
 .show#[h',h]
theorem Ŋ3 PR ϣ1:∀ ą (g t g' t':Int),g'<=g->t'<=t->∀ e∈ ϫ3,∃ r∈nR C2 n g' t',r.1<=e.1/\r.2<=e.2
 | 0,_,_,_,_,_,_,e,he=>Ôf
 | n+1,g,t,g',t',h1,h2,e,he=>by
  unfold nR at he ⊢;split at he
  .rw[Ç ⋯];rcases ķ he with x | x
   .subst x;show#[_,BT,È6 Ŭ]
   .let#[r,hr,r1]:=Ŋ3 C2 n À (g' + give) (wQ (t'-get)) ⋯ (Ε6 ⋯) e x;show#[r,Da _ hr,r1]
  .cases he
theorem Ŝ7 PR (yH give get most:Int) üq:∀ ą Ś2,0<=g->0<=t->t<=most->∀ e∈ ϫ3,(0<=yX pu e/\yX pu e<=yH)/\0<=wR pu e/\wR pu e<=most
 | 0,_,_,_,_,_,e,he=>Ôf
 | n+1,g,t,h1,h2,h3,e,he=>by
  unfold nR at he;split at he
  .rcases ķ he with x | x
   .subst x;cases pu <;> show#[#[h1,by ext Ŷ],h2,h3]
   .show Ŝ7 C2 most hg hgt n À ⋯ (fC _) (GB (Č7 h2 hgt) h3) e x
  .cases he
theorem ģ6 PR ϣ1 (hg:1<=give):∀ ą Ś2,g<=yH+1->((ϫ3).length:Int)<=yH+1-g
 | 0,g,t,h=>by simp[nR];show h
 | n+1,g,t,h=>by
  unfold nR;split
  .rw[GM];by_cases hh:g+give<=yH+1
   .have:=ģ6 C2 hg ϓ4 hh;lia
   .have e:nR C2 ϓ4=[]:=by
     cases n with
     | zero=>rfl
     | succ n=>unfold nR;rw[uv]
    rw[e];simp;lia
  .simp;show h
structure Wy where
 f:Nat
 t:Nat
 a:Int
 b:Int
structure Sl where
 p:Nat
 pu:Bool
 gv:Int
 gt:Int
structure zX where
 A:Int
 B:Int
 os:tM
 ws:ÄB
 ss:List Sl
structure zX.Ok ņ:Prop where
 a0:0<=F.A
 a1:F.A<=12
 b0:0<=F.B
 b1:F.B<=12
 n1:1<=ě
 n8:ě<=8
 ws:∀ w∈F.ws,w.f<ě/\w.t<ě
 eO:Ćr
 ss:∀ s∈F.ss,ăp
 sl:F.ss=[]\/ĉV
 s8:Ćs
def Du ņ PR:Int:=if ÄO then F.B else F.A
def i0 ņ (s:Sl) đ8:Bd:=nR PZ 100 ËB
def Ο6 ņ (s:Sl) (bd:Bd):Bd:=m7 (bd.flatMap Âi)
def zcs ņ (s:Sl) W6(h:V7):vi (Âj) (Ο6 F s c):=Ĩ7 λ p hp=>by
 ext ÈS;let#[r,hr,r1,r2]:=h.at hx;let#[e,he,e1]:=Ŋ3 PZ ür (yX s.pu r) (wR s.pu r) (by unfold yX;ext Ϭ2) (by unfold wR;ext Ϭ2) ģ;show#[e,Äl #[r,hr,he],e1]
def zcr ŭ1 {p:š}(hp:(0<=p.1/\p.1<=F.A)/\0<=p.2/\p.2<=F.B):∀ e∈i0 F s p,(0<=e.1/\e.1<=F.A)/\0<=e.2/\e.2<=F.B:=λ e he=>by
 let#[p,pu,gv,gt]:=s;unfold i0 Du at he;cases pu with
 | true=>show (Ŝ7 true F.B gv gt F.A ϩ8 À η0 hp.1.1 hp.1.2 e he).symm
 | Á=>show Ŝ7 Á F.A gv gt F.B ϩ8 À hp.1.1 η0 hp.2.2 e he
def zct ŭ1 MN(h:AM):Gd bA (Âj):=Μ1 λ p hp=>by
 ext ÈS;show zcr hs (h.wa II) ģ
def oO ú4 BD:RB:=(ό5).map λ w=>ùM
def zX.stall ņ BD:õ Sl:=F.ss.find? ÏT
def vW ú4 BD:Bd:=
 if ßP then match LK with
  | none=>kR Ϝ7
  | some s=>Ο6 F s Âk
 else Zr Ϝ7
def μ5 ú4 BD:∀ c∈oO Ϙ p,Gd bA c:=λ c hc=>by
 let#[w,_,rfl]:=π hc;show zdj ..
def Ģ1 BA ÂF BD:Gd bA (q_):=by
 unfold vW;have h1:Gd bA Âk:=ôH;split
 .split
  .show h1
  .rename_i s e;show zct (ok.ss s (zi7 e)) h1
 .show Ů3 À (Ād) (μ5 Ϙ p)
theorem Ė1 ņ {l m:RB}BD (h:∀ w∈F.ws,L7->vi (IK QN) (m.getD QN)):vi (ÞC) (vW F m p):=by
 have h1:vi (kR (Rc)) (kR (oO F m p)):=λ q hq=>by
  unfold kR at hq ⊢;rw[Ζ7] at hq ⊢;rcases hq with x | ⟨c,hc,x⟩
  .show È x
  .ext ϖ7;ext ϛ3;show Æ #[_,Ϙ3,ĳ1 ĉ (Íg) q x]
 unfold vW;split
 .split
  .show h1
  .show zcs F _ h1
 .intro q hq;unfold Zr at hq ⊢;rw[Ž0] at hq ⊢;exact#[hq.1,ϸ3];ext ϖ7;ext ϛ3;show ĳ1 ĉ (Íg) q (hq.2 _ (Ϙ3))
theorem ç1 ņ {l m:RB}BD (h:∀ w∈F.ws,L7->IK QN=m.getD QN):ÞC=vW F m p:=by
 have:Rc=oO F m p:=by
  unfold oO;exact WP λ w hw=>?_;ext ϛ3;rw[Íg]
 unfold vW;ext Hz
def box:ı:=(ċ 13).flatMap λ(i:Nat)=>(ċ 13).map λ(j:Nat)=>(AF,(j:Int))
def mu Ua:Nat:=box.countP (yz b)
def zcZ {p:š}(h:(0<=p.1/\p.1<=12)/\0<=p.2/\p.2<=12):p∈box:=by
 let#[x,y]:=p;ext Ω8;exact Äl #[Qj,BS (LQ.ě9 h.1.2),sM #[y.toNat,BS (LQ.ě9 Dk),?_]];rw[SZ h.1.1,SZ qG]
theorem ĳ2 þ{p q:pN}:∀ Mn,(∀ x,q x=true->p x=true)->(∃ x∈l,p x=true/\q x=Á)->Âl q<Âl p
 | [],_,#[x,hx,_]=>by cases hx
 | a::l,h,#[x,hx,h1,h2]=>by
  have hle:Âl q<=Âl p:=List.countP_mono_left λ y _=>h y;rw[ăq,ăq];rcases ķ hx with e | e
  .subst e;rw[É (by rw[h2];decide),N3];lia
  .have:=ĳ2 h #[x,e,h1,h2];by_cases c:q a=true
   .rw[Ç c,Ç (h a c)];lia
   .rw[É c];ext Qv
theorem Æ6 rJ ćy W6(hb:u0) (hc:ÞD) (h:V7) (hne:b≠c):mu b<mu c:=by
 exact ĳ2 h ?_;by_cases x:∃ p∈c,yz b p=Á
 .let#[p,hp,e]:=x;have q:=hc.wa ģ;show#[p,zcZ #[#[q.1.1,⋯],q.2.1,⋯],ïj,e]
 .show á (hb.eq hc h (vi.of λ p hp=>by
   cases e:yz b p with
   | true=>show RI e
   | Á=>show á #[p,hp,e] x)) hne
theorem ä2 Ua:mu b<=169:=by
 have:box.length=169:=()
 rw[<- this];show List.countP_le_length
def lG τ0:Nat:=(tj mu).sum
theorem ĭ9:∀ τ0,lG l<=169*xk
 | []=>by simp[lG]
 | b::l=>by
  have h1:=ĭ9 l;have h2:=ä2 b;unfold lG at h1 ⊢;rw[As,zgA,GM];lia
theorem ŝ5 rJ ćy:∀ {l m:RB},ÃA->(∀ b∈l,u0)->(∀ b∈m,u0)->(ìw)->l≠m->lG l<lG m
 | [],[],_,_,_,_,h=>á Ą9
 | [],ş,h,_,_,_,_=>E9
 | ş,[],h,_,_,_,_=>E9
 | b::l,c::m,hl,gb,gc,h,hne=>by
  have hl':ÃA:=Ra
  have h0:V7:=h 0;have hs:ìw:=λ i=>by exists h Ζ
  have key:lG l<=lG m:=by
   by_cases e:l=m
   .rw[e];show Ÿ
   .show No (ŝ5 ãM e)
  change (ÞE mu L9).sum<(ÞE mu (c::m)).sum;rw[As,zgA,As,zgA];by_cases e:b=c
  .subst e;have:l≠m:=λ q=>hne (by rw[q]);have:=ŝ5 ãM this;unfold lG at this;lia
  .have:=Æ6 hA hB (gb b BT) (gc c BT) h0 e;unfold lG at key;lia
def jm ņ Ş0 BD:Bool:=F.ws.any λ w=>ÞF&&fresh.contains w.t
def vm ú4 Ş0:RB:=(ċ NM).map λ p=>if ÙK=true then q_ else K3
def kf (last following:RB):Ś:=(ċ following.length).filter λ p=>Í (following.getD IE ≠ K3)
def iL ņ:Nat->M1->RB->Ś->õ (M1)
 | 0,_,_,_=>none
 | n+1,told,last,uQ=>if uQ=[] then ↑ Ϥ6 else
   let fo:=Hm
   let fr:=Δ6
   if fr=[] then ↑ Ϥ6 else iL F n Ϥ6 fo fr
structure St ú4 Ş0:Prop where
 len:NM=ě
 gd:Ćt
 fr:∀ p<ě,ÙK=Á->(uB)->q_=K3
 le:∀ p<ě,(uB)->vi (q_) (K3)
def į3 þ(f:Nat->α) (n p:Nat) (d:α) (h:p<n):(eU f).getD p d=f p:=by
 rw[Id,Fa,ûk h];rfl
def iT ú4 Ş0:(Hm).length=NM:=by unfold vm;simp
theorem St.at ì2 ŭ0 ÑI (hw:uB):Ϣ5=q_:=by
 unfold vm;rw[üv];split
 .rfl
 .ext G7;show (s.fr ģ (sX) hw).symm
def zaP ì2{uQ:Ś}{p:Nat}(h:ÙK=true):uB:=by
 unfold jm at h;let#[w,h1,h2]:=List.any_eq_true.mp h;show#[w,h1,by simp at h2;show h2.1]
theorem St.no ì2 ŭ0 ÑI (hw:¬ uB):Ϣ5=K3:=by
 unfold vm;rw[üv,É (λ h=>hw (zaP h))]
theorem St.Ņ6 ì2 ŭ0 BD:vi (Ϣ5) (K3):=by
 by_cases hp:p<ě
 .by_cases hw:uB
  .rw[ÙL];show s.le ģ hw
  .rw[s.no hp hw];show vi.refl _
 .have h1:Ϣ5=[]:=by
   rw[Id,zhB (by rw[iT,UV];lia)];rfl
  rw[h1];intro q x;cases x
def St.next BA ŭ0:St F (Hm) (ÒQ) where
 len:=by rw[iT,UV]
 gd:=λ b hb=>by
  unfold vm at hb;let#[p,hp,rfl]:=π hb;split
  .show Ģ1 ok last p
  .have hlt:=Ho hp;rw[Id,Go hlt];show s.gd _ (TD hlt)
 fr:=λ p hp hn hw=>by
  rw[ÙL];exact ç1 F p λ w w1 w2=>?_;have hwt:=(ÙM).2;by_cases e:(Hm).getD QN=bt
  .show e
  .have:jm F (ÒQ) p=true:=by
    ext òJ;have:w.t∈ ÒQ:=by
     unfold kf;show Ξ9 #[BS (by rw[iT,UV];show hwt),ŵ6]
    simp[w2,this]
   rw[this] at hn;cases hn
 le:=λ p hp hw=>by
  rw[ÙL];show Ė1 F p λ w w1 w2=>s.Ņ6 w.t
def zba ÇX (h:Δ6 ≠[]):fo≠last:=λ e=>h (by
 subst e;unfold kf;simp)
def F7 ņ:RB:=ĵ ě nj
theorem St.start BA:St F (F7 F) Υ4 where
 len:=ýJ
 gd:=λ b hb=>by rw[óu hb];show Ād
 fr:=λ p hp hn #[w,w1,w2]=>by
  have:jm F Υ4 p=true:=by
   ext òJ;have:=(ÙM).2;simp[w2,this]
  rw[this] at hn;cases hn
 le:=λ p hp hw=>by
  have e:(Py).getD IE=nj:=by
   unfold Ϻ1;rw[Id,zh8,Ç hp];rfl
  rw[e];show (Ģ1 ok _ p).Ę7
theorem ō7 BA:∀ ą Θ8 ÂF Ş0,St Ϙ uQ->lG last<n->
  ∃ more last',iL F n told last uQ=↑(told++ÙN)/\(∀ r∈ ÙN,ùN)/\(ÙN).getLast?=↑last'/\ÕC<=lG last
 | 0,_,_,_,_,h=>⋯
 | n+1,told,last,uQ,s,h=>by
  unfold iL;split
  .show çe
  .ext Þ;split
   .show çe
   .rename_i hf;have s':=ÛM;have hlt:lG (Hm)<lG last:=ŝ5 La ok.b1 (iT ..) s'.gd s.gd s.Ņ6 (zba (iT ..) hf);let#[more,last',e1,e2,e3,e4]:=ō7 ok n Ϥ6 À s' ⋯;exact#[Hm::more,last',by rw[e1];simp,W0,by rw[List.getLast?_cons_cons];show e3,ĄX];ext Ðw
    .subst e;show čS
    .show e2 r e
def zdk {A B a b:Int}{bd:Bd}(h0:∀ p∈bd,Ñj) Ù1(hq:(0<=q.1/\q.1<=A)/\0<=q.2/\q.2<=B):yz Ñi q=true↔yz bd (q.1+a,q.2+b)=true:=by
 unfold gA;rw[dP,wc,wc];ext Ő
 .ext Ϗ1;let#[hp,_]:=ĺ1 hp;ext iw;exact#[r,hr,?_,?_]
  .show zi8 ((kI ν2).1 h1)
  .show zi8 ((kI Us).1 h2)
 .rintro⟨r,hr,h1,h2⟩;ext Ϩ7;have e1:(R0).1<=q.1:=(kI ν2).2 (zi9 h1);have e2:(R0).2<=q.2:=(kI Us).2 (zi9 h2);exact#[R0,Ξ9 #[Íf,?_],e1,e2];unfold ŵ8;rw[DO (AH e1 hq.1.2),DO (AH e2 hq.2.2)];rfl
theorem ř6 PR ϣ1 üq:∀ ą Ś2,0<=t->yH-g<n->∀ (G T:Int),G<=yH->
  ((∃ e∈ ϫ3,yX pu e<=G/\wR pu e<=T)↔∃ k:Nat,g+k*give<=G/\wQ (t-k*get)<=T)
 | 0,g,t,ht,hn,G,T,hG=>by
  ext Ő
  ext öE
  ext år
 | n+1,g,t,ht,hn,G,T,hG=>by
  have gv:∀ x y,yX ϥ9=x:=λ x y=>fe
  have gt:∀ x y,wR ϥ9=y:=λ x y=>fe
  have ih:=ř6 C2 hg hgt ϓ4 (fC _) ⋯ G T hG;have mm:∀ k:Nat,wQ (wQ (t-get)-k*get)=wQ (t-YG*get):=λ k=>by
   rw[zh1,zh2,Int.one_mul,Ów,<- Int.sub_sub];show ã4 (zh0 Q4 hgt)
  have gg:∀ k:Nat,g+give+k*give=g+YG*give:=λ k=>by
   rw[zh1,zh2,Int.one_mul,ċM,Ów give]
  unfold nR;split
  .rename_i hgb;ext Ő
   .rintro⟨e,he,h1,h2⟩;ext ċa
    .rw[gv] at h1;rw[gt] at h2;exact#[0,ĄP,?_];change Āe;rw[Int.zero_mul,Int.sub_zero];show (kI (GB ht h2)).2 h2
    .let#[k,k1,k2]:=ih.mp ûJ;show#[k+1,by rw[<- gg];show k1,by rw[<- mm];show k2]
   .rintro⟨k,k1,k2⟩;cases k with
    | zero=>
     exact#[_,BT,by rw[gv];simpa using k1,?_];rw[gt];replace k2:Āe:=k2;rw[Int.zero_mul,Int.sub_zero] at k2;show (kI (GB (fC _) k2)).1 k2
    | succ k=>
     let#[e,he,h1]:=ih.mpr #[k,by rw[gg];show k1,by rw[mm];show k2];show#[e,Da _ he,h1]
  .rename_i hgb;ext Ő
   ext öE
   ext år
def ł4 {pu:Bool}{p q:š}:(ÁQ/\Λ4)↔yX pu p<=Υ5/\wR pu p<=Χ0:=by
 cases pu
 .show Iff.rfl
 .show And.comm
def zcu ŭ1 (hA:F.A<=12) (hB:F.B<=12) MN(hb:∀ p∈b,Ñj) Ù1(hq:êl):
  yz (Âj) q=true↔ åh:=by
 have hbr:BV<=12:=by unfold Du;ext Ϭ2
 have hqb:tF<=BV:=by unfold yX Du;split <;> first | show hq.1.2 | show hq.2.2
 have hq0:0<=tF/\0<=Yg:=by cases s.pu <;> first | show#[ν2,Us] | show#[Us,ν2]
 have gv:∀ x y,yX s.pu ÙO=x:=óv
 have gt:∀ x y,wR s.pu ÙO=y:=óv
 unfold Ο6;rw[dP,wc];ext Ő
 .rintro⟨e,he,aJ⟩;let#[p,hp,he]:=List.mem_flatMap.mp he;let#[h1,h2]:=ϕ4 aJ;ext åQ
  let#[k,k1,k2]:=(ř6 PZ ϩ8 À g0.2 ⋯ À hqb).mp ûJ;exact#[k,WB #[p,hp,Ϝ8 #[by rw[gv];lia,?_]]];rw[gt];show zi8 ((kI hq0.2).1 k2)
 .ext Ϭ4;let#[p,hp,aJ]:=RI hk;let#[h1,h2]:=ϕ4 aJ;rw[gv] at h1;rw[gt] at h2;ext åQ
  let#[e,he,h3]:=(ř6 PZ ϩ8 ËB g0.2 ⋯ (tF) (Yg) hqb).mpr #[k,⋯,(kI hq0.2).2 (zi9 h2)];show#[e,Äl #[p,hp,he],Ϝ8 h3]
def xO ņ:Nat->RB
 | 0=>F7 F
 | k+1=>(ċ ě).map λ p=>vW F (Ks) p
theorem ε7 ņ:∀ k,(Ks).length=ě
 | 0=>by unfold xO F7;simp
 | k+1=>by unfold xO;simp
theorem Â0 ì2 ŭ0 (hw:∀ p<ě,uB):Hm=(ċ ě).map λ p=>q_:=by
 exact zgF (by rw[iT,UV];simp) pv;have hi:i<ě:=Yn
 have e:=s.at hi (hw i hi);rw[Id,Go h1] at e;exists e
def zbb ÇX (h:Δ6=[]):fo=last:=by
 exact zgF hl pv;have:i∉ Δ6:=ċm
 unfold kf at this;rw[zC8] at this;have e:T7 i []=ÛN i []:=òo λ hne=>this #[BS h1,by exists hne];rw[Id,Go h1,Id,Go h2] at e;exists e
theorem Ķ7 BA (hw:∀ p<ě,uB):∀ ą Θ8 Đ Ş0 (res:M1),St F ßJ->uQ ≠[]->told=(ċ k).map (xO F)->
  iL F n told ßJ=↑res->∃ m,res=ûK/\ÞG=NX
 | 0,_,_,_,_,_,_,_,h=>Ρ
 | n+1,told,k,uQ,res,s,hf,ht,h=>by
  unfold iL at h;rw[É hf] at h;ext Ω8;have e:vm F ßJ=xO F ŕ:=Â0 s hw;have et:told++[Ks]=(ċ ŕ).map (xO F):=by rw[ht,Ću,IN];rfl
  rw[e,et] at h;ext č
  .rename_i hfr;cases h;show#[k,rfl,zbb (by rw[ε7,ε7]) hfr]
  .rename_i hfr;have s':=ÛM;rw[e] at s';show Ķ7 ok hw n _ ŕ _ res s' hfr Ą9
def o8 ņ pX:Prop:=êl
def ņ8 ņ pX (w:Wy):õ (š):=if ùO then none else ↑(min (q.1+w.a) F.A,min (q.2+w.b) F.B)
def fG ú4 pX (w:Wy):Bool:=match ņ8 F q w with
 | none=>Á
 | some r=>yz (bt) r
def Ŕ5 ņ BD:ÄB:=ό5
def cC ņ (s:Sl):Nat->š->ı
 | 0,q=>[q]
 | n+1,q=>q::if s.gv<=tF then cC F s n ñi else []
def ĸ4 ņ BD pX:ı:=match LK with
 | none=>[q]
 | some s=>cC F s 20 q
def ţ6 ú4 BD pX:Bool:=
 if ßP then (ĸ4 F p q).any λ r=>(Ŕ5 F p).any (fG Ϙ r) else ôI
def zce rJ MN(hb:u0) pQ:yz b (min x A,min y B)=yz b ÃF:=by
 ext ÚD;ext Ő
 .ext Ϗ1;ext Ϩ7;show#[p,hp,by ext Þ;show LQ.ľ6 h1,by ext Þ;show LQ.ľ6 h2]
 .ext ċd;show#[p,hp,by ext Þ;show LQ.ť8 h1 this.1.2,by ext Þ;show LQ.ť8 h2 this.2.2]
def ß2 êy pX:fG Ϙ q w=yz (bt) (q.1+w.a,q.2+w.b):=by
 unfold fG ņ8;by_cases h:ùO
 .rw[Ç h]
  symm
  rw[<- XL,wc];ext ċd;lia
 .rw[Fv];show zce hb À
def Ï7 êy Ù1(hq:QZ):yz (ùM) q=fG Ϙ q w:=by
 rw[ß2 hb,OF];show zdk (λ p hp=>#[(ϧ9).1.1,(ϧ9).2.1]) hq
def ņ5 ãR:yz Âk q=(Ŕ5 F p).any (fG Ϙ q):=by
 rw[OF,kR,Ζ7,TW];ext Ő
 .rintro (h | ⟨c,hc,h⟩)
  .cases h
  .unfold oO at hc;ext ϖ7;show#[w,hw,by rw[<- Ϥ7];show h]
 .rintro⟨w,hw,h⟩;show Æ #[_,Ϙ3,by rw[Ϥ7];show h]
def zc2 ãR:yz (Zr Ϝ7) q=ôI:=by
 rw[OF,Zr,Ž0,zE4];ext Ő
 .rintro⟨_,h⟩ w hw;rw[<- Ϥ7];show h _ (Ϙ3)
 .intro h;exact#[zcg.mpr #[ν2,Us],ϸ3];unfold oO at hc;ext ϖ7;rw[Ϥ7];show h w hw
def ij PR pQ:yX ϥ9=x:=fe
def fN PR pQ:wR ϥ9=y:=fe
def ĥ7 PR pX:vR pu (Υ5) (Χ0)=q:=fe
def Ĺ8 ì2{pu:Bool}Ù1:QZ ↔(0<=Υ5/\Υ5<=F.yH pu)/\0<=Χ0/\Χ0<=F.yH (!pu):=by
 unfold o8 Du;cases pu
 .show Iff.rfl
 .show And.comm
theorem ņ1 ŭ1:∀ ą Ù1,QZ->∀ r∈cC F s n q,o8 F r
 | 0,q,h,r,hr=>by cases HW hr;show h
 | n+1,q,h,r,hr=>by
  unfold cC at hr;rcases ķ hr with rfl | hr
  .show h
  .split at hr
   .rename_i hg;exact ņ1 hs n ?_ FL;have h':=eQ h;ext úr
   .cases hr
theorem Ņ1 ŭ1 MN(hb:AM):∀ ą Ù1,QZ->tF<n->
  ((åh)↔(cC F s n q).any (yz b)=true)
 | 0,q,h,hn=>by
  have:=(eQ h).1.1;lia
 | n+1,q,h,hn=>by
  have h':=eQ h;have cut:∀ x y,yz b ÙO=yz b (vR Qf (min y ĉW)):=λ x y=>by
   ext ÚD;ext Ő
   .ext òI;have h3:=āy;rw[ij,fN] at h2;show#[p,hp,Ϝ8 (by rw[ij,fN];show LQ.Ç5 h2.2 h3.2.2 h2.1)]
   .ext òI;rw[ij,fN] at h2;show#[p,hp,Ϝ8 (by rw[ij,fN];lia)]
  unfold cC;rw[IS,Os];by_cases hg:s.gv<=tF
  .rw[Ç hg];have hi:o8 F ñi:=by
    ext úr
   have ih:=Ņ1 hs hb n hi (by rw[ij];lia);rw[ij,fN] at ih;have sh:∀ k:Nat,yz b (vR s.pu (tF-s.gv-k*s.gv) (ãx+k*s.gt))=yz b (vR s.pu (tF-YG*s.gv) (Yg+YG*s.gt)):=λ k=>by
    have e1:ñD:=ÎB
    have e2:ÛO*s.gt=k*s.gt+s.gt:=ÎB
    have k0:0<=ü*s.gt:=zh0 Q4 qH;rw[e1,e2,cut,cut (tF-(k*s.gv+s.gv))];congr 2
    .lia
    .show LQ.ê9 k0
   rw[<- ih];ext Ő
   .ext Ϭ4;cases k with
    | zero=>show È (ϙ0)
    | succ k=>show Æ #[k,by rw[sh];show hk]
   .rintro (hk | ⟨k,hk⟩)
    .show#[0,ϙ0]
    .show#[k+1,by rw[<- sh];show hk]
  .rw[É hg];ext Ő
   .ext Ϭ4;cases k with
    | zero=>show È (ϙ0)
    | succ k=>
     exfalso;let#[p,hp,h1]:=RI hk;have h2:=ϕ4 h1;have h3:=āy;rw[ij] at h2;have e1:ñD:=ÎB
     have k0:0<=ü*s.gv:=zh0 Q4 ⋯;rw[e1] at h2;lia
   .rintro (hk | hk)
    .show#[0,ϙ0]
    .cases hk
def Ã5 BA ðp BD Ù1(hq:QZ):yz (q_) q=ţ6 Ϙ p q:=by
 have ge:Gd bA Âk:=ôH;unfold vW ţ6 ĸ4;by_cases ho:ßP
 .rw[Ç ho,Ç ho];cases hs:LK with
  | none=>simp![IS,Ôt,zh9];show ņ5 hg hq
  | some s=>
   have hs':=ok.ss s (zi7 hs);have hgv:tF<20:=by
    have:=eQ hq;have:BV<=12:=by have:=La;have:=ok.b1;unfold Du;ext Ϭ2
    lia
   rw[OF];ext Þ;rw[zcu hs' La ok.b1 (λ p hp=>#[(ge.wa ģ).1.1,(ge.wa ģ).2.1]) hq,Ņ1 hs' ge 20 hq (Int.lt_of_add_one_le hgv),TW,TW];ext Ő
   .rintro⟨r,hr,h⟩;show#[r,hr,by rw[<- ów];show h]
   .rintro⟨r,hr,h⟩;show#[r,hr,by rw[ów];show h]
 .rw[É ho,É ho];show zc2 hg hq
end RN
namespace zT
open Ë L2 L3 L5
def Ds:Jk
 | Hu=>true
 | FW=>true
 | _=>Á
def pG Ť:Bool:=! Ds t&&(match t with | ő=>bD (Öu) | _=>true)
def pG.top sr(h:ÜA):Ds t=Á:=by
 unfold pG at h;simp![By,ziA] at h;show h.1
def pG.mem ÿ(h:pG Ad=true) {u:T}(hu:u∈ts):Ds u=Á:=by
 simp![pG,By,zE4,ziA] at h;show h.2 u hu
def wh Ť Äy:Bool:=match t with
 | Ą=>Ìp
 | _=>Á
def zJ {f:Ŝ}EL ß ÆR:Ôu:=ċA
def g9 Ò3 ß{a b:Bool}(h:f Y=↑(.bl a)) (h':a=true->ÙH):oM tL=↑(.bl (a&&b)):=by
 ext sC;cases a with
 | Á=>rfl
 | true=>show h' rfl
def dR â2 ł2 Ĉ ÆM:Êg:=by
 ext Éc
def Ĩ5 ËY ß{x y z:T}{a b:Bool}Êf (hf:QL=↑(.bl a)) (hc:fc Y=↑z) (hg:g y z=↑ Cu):ÏU=↑(.bl (a&&b)):=by
 ext Æm;cases a with
 | Á=>rfl
 | true=>ext ċJ
def ĥ3 ß ÿ(h:zb 0 Y=↑ Ad):DG "tuple" ù Y=↑ ž:=by
 change āq;rw[h];show Ó HQ (show nB "tuple" "tuple"=true by decide)
def Į9 RD ß Ϩ9:ĉX:=FH
def zdw Ť Jc:ZH [t]=↑(.bl (match t with | rV=>true | _=>Á)):=by
 cases t with
 | zE _ _=>cases he
 | err _ _ _=>cases he
 | _=>rfl
def Ţ5 Ť Äy Jc:eE [t,Â a,HJ]=↑(.bl (wh t Ñ)):=by
 have h:=zdw t he;cases t with
 | int i=>show zM (y8 (g9 (a:=true) (b:=Ìp) (zL Ą9) λ _=>Ĩ5 (x:=Â a) (y:=Ą) (z:=HJ) Ö DV)) rfl
 | zE _ _=>cases he
 | err _ _ _=>cases he
 | _=>show zM (y8 (g9 (b:=Á) (zL Ą9) Lg)) rfl
def rB qB DC:äP:=by
 have:eqT Pc=ÞH:=by simp[iu,ziB]
 simp[zS,dep,this]
theorem ť4 þ ñ0:∀ Ø2 (bs:ŵ),Pe ϙ8 ts (B4 enc)=(Àx).map λ p=>qt [p.1,enc p.2]
 | [],bs=>∅
 | Ņ,[]=>∅
 | Ņ,b::bs=>by simp[ť4 enc ts bs]
def ħ8 þ(g:pN) Ò8:kx Ìq=↑(Θ g):=by
 have:=ς9 (Θ g);rw[Db] at this;show this
def ĝ0 þ(g:pN) Ò8:(Θ g).all id=xs.all g:=by
 rw[zfT];rfl
def wK Ť (bs:ı):Bool:=match t with
 | ő=>Öv&&ÇL
 | _=>Á
def ŵ7 þ{c:zEO}ß{g:pN}ÿ4(h:c Y=↑(Å Ìq)):zm Fq (zc c zf) Y=↑(.bl (xs.all g)):=zL (zj oh) (by
 change (kx Ìq).map _=_;rw[ħ8,xn];show Ó HQ (ĝ0 g xs))
def ľ3 Ť ćz (he:ÜA):ZI [t,Öw]=↑(.bl (wK t bs)):=by
 cases t with
 | tup ts=>
  have hn:yh Ćm Çn=↑(! Öv):=by
   exact (yn (zJ (x:=Â Ζ1) (y:=Â ((B4 zW).length:Int)) (zL Ö) (zL Ö) (rB À true))).trans (Ó (λ b=>↑(!b)) (iz ?_));rw[AS];show Int.ofNat_inj
  change ZI _=↑(.bl (Öv&&ÇL));by_cases h:ē=MP
  .have hc:ŕ4 Çn=↑(Å ((Àx).map λ p=>T.bl (ýK))):=by
    exact vy (λ p:T×(š)=>qt [p.1,zW p.2]) _ (Àx) (Ó some (ť4 zW ts bs)) ?_ λ p hp=>dR rfl (zL (zj rfl Öx) (Ţ5 Ð (pG.mem he (zgB hp).1)));rw[zfU];ext Lm
   rw[DO h] at hn ⊢;show ëB
  .rw[FM h] at hn ⊢;show ùP
 | zE _ _=>cases Ày
 | err _ _ _=>cases Ày
 | _=>show æu
def Ř2 Ť (bs:ı):Bool:=match t with
 | ő=>Íh
 | _=>Á
def Š6 Ť:Prop:=∀ ts,oZ t=↑ts->ē<=16777216
def ľ4 Ť ćz (hz:Š6 t) (hr:åq) Jc:Ω2 [t,Öw]=↑(.bl (Ř2 t bs)):=by
 cases t with
 | tup ts=>
  have hc:ļ2 Çn=↑(Å (ts.map λ r=>T.bl (wK r bs))):=vy éW (hz Åa) λ p hp=>dR rfl (zL rfl (ľ3 À hl (hr Åa ģ)));show zM (y8 (g9 (a:=true) (b:=Íh) (ĥ3 rfl) λ _=>ŵ7 hc)) rfl
 | zE _ _=>cases he
 | err _ _ _=>cases he
 | _=>show zM (y8 (g9 (a:=Á) (b:=Á) rfl Lg)) rfl
theorem Â1 sr{bs:ı}(h:wK t bs=true):∃ r:é,t=zN r/\Ær:=by
 cases t with
 | tup ts=>
  simp![wK,By,Ν] at h;let#[hl,ha]:=h;have key:∀ Ø2 (bs:ı),ē=MP->(ÇL)=true->∃ r:é,ts=FP ĕ/\Ær:=by
   intro ts
   induction ts with
   | nil=>intro bs hl _;show#[[],rfl,by simpa using hl,λ i x b hx=>by simp at hx]
   | cons t ts ih=>
    intro bs hl ha;cases bs with
    | nil=>simp at hl
    | cons b bs=>
     simp![dL,Tm,By] at ha;let#[r,r1,r2,r3]:=ih bs (Ra) ha.2;cases t with
     | int i=>
      have h1:=ha.1;simp![wh,By,Ν] at h1;exact#[i::r,ĉY,by simp[r2],λ j x c hx hc=>?_];cases j with
      | zero=>simp at hx hc;subst hx hc;show h1
      | succ j=>show r3 j x c (Úu) (by exists hc)
     | _=>simp[wh] at ha
  let#[r,r1,r2,r3]:=key ts bs hl ha;show#[r,ĉY,r2,r3]
 | _=>simp[wK] at h
def Ġ9 ÿ{bs:ı}(h:(Íh)=true):∃ rs:Ğ,ts=HZ/\∀ r∈rs,wK JL bs=true/\Ær:=by
 induction ts with
 | nil=>show#[[],rfl,Lg]
 | cons t ts ih=>
  simp![Tm,By] at h;let#[rs,h1,h2]:=ih h.2;let#[r,r1,r2,r3]:=Â1 h.1;exact#[r::rs,by rw[h1,r1];rfl,λ q hq=>?_];rcases ķ hq with e | e
  .subst e;show#[by rw[<- r1];show h.1,r2,r3]
  .show h2 q e
def gU:Ğ->Bool
 | OO=>η7&&gU L9
 | _=>true
def oW:é->Bool
 | OO=>Âm&&oW L9
 | _=>true
theorem ŕ9 þ(lt:α->pN) (up:ŵ->Bool) (h0:up []=true) (h1:∀ a,up [a]=true) (h2:∀ a b l,up (OO)=(lt Ñ&&up L9)):∀ l:ŵ,((l.zip (US 1)).all λ p=>lt qA)=up l
 | []=>by simp[h0]
 | [a]=>by simp[h1]
 | OO=>by
  have ih:=ŕ9 lt up h0 Ŭ L9;simp![List.drop_succ_cons,ĉZ,dL,Tm] at ih ⊢;rw[h2,<- ih]
def ι9 þ Ò8:ni xs ßR=YF 1:=by
 unfold ni;have e:B3 ò 0 ↑1=min 1 ò:=by simp[B3]
 have e2:B3 ò ò none=ò:=rfl;rw[e,e2];cases xs with
 | nil=>rfl
 | cons x xs=>simp
def zdI (rs:Ğ) (hl:čT):eF [Æs]=↑(.bl (gU rs)):=by
 have hc:Zp [↑(.im Pm)]=↑(Å ((ýL).map λ p=>T.bl (RF qA))):=by
  unfold Zp;exact vy (λ p:é × é=>qt [zN p.1,zN p.2]) _ (ýL) GQ Ϛ
  .simp![wq,zc,zb,xK,ku,cS,zf,mJ,fU,Do,ι9,Ē3,xn,ôJ];ext ëN
  .simp;lia
  .simp[nL,zN,dF,ĸ1,Υ1]
 ext øJ;have:=ŕ9 (λ a b=>η7) gU ďn rs;ext Ln
def zdJ Χ (hl:r_<=16777216):eF [aO]=↑(.bl (oW ns)):=by
 have hc:Zp [↑(.im (aO))]=↑(Å ((ýM).map λ p=>T.bl (Í (p.1<p.2)))):=by
  unfold Zp;exact vy (λ p:š=>qt [ĕ p.1,ĕ p.2]) _ (ýM) GQ Ϛ
  .simp![wq,zc,zb,xK,ku,cS,zf,mJ,fU,Do,ι9,À8,xn,ôJ];ext ëN
  .simp;lia
  .simp[nL,dF,ĸ1]
 ext øJ;have:=ŕ9 (λ a b:Int=>Âm) oW ďn ns;ext Ln
def bL (k l:Str) Ť:Bool:=match t with
 | ů=>k == x||l == x
 | _=>Á
def ř3 (x k l:Str) (y:T) (hy:oZ y=↑ ÒR):m9 Á qQ y=↑(.bl (k == x||l == x)):=by
 unfold m9;rw[hy];simp[dep,xZ,ņ9]
def zaA wM ÿ(hy:Ùg):wa x y=m9 Á x y:=by
 unfold wa;split
 .cases hy
 .rfl
def Á1 (k l:Str) Ť Jc:zY Od 1 (retS (oM Él (ze wa ù (tupS êm)))) [t]=↑(.bl (bL k l t)):=by
 cases t with
 | str x=>
  have h:=(zaA (x:=ů) (y:=Î ÒR) rfl).trans (ř3 x k l (Î ÒR) rfl);simp[nB,h,bL]
 | zE _ _=>cases he
 | err _ _ _=>cases he
 | _=>simp[bL,nB]
def m_ Ť:Bool:=bL Ϡ7 t
def zdO Ť Jc:Ν9 [t]=↑(.bl (m_ t)):=Á1 Ϡ7 t he
def fu Ť:Bool:=match t with
 | ő=>čU
 | _=>Á
theorem zdN Ť (he:ÜA):ů3 [t]=↑(.bl (fu t)):=by
 cases t with
 | tup ts=>
  have hn:ve ïi [↑ ÛP]=↑(!(čV&&Í (Ζ1<=8))):=wC (yn (Ĩ5 (x:=Â 1) (y:=Â Ζ1) (z:=Â 8) rfl (zL Ö) DV));have e1:čV=Í (1<=ē):=iz ⋯;have e2:Í (Ζ1<=8)=Í (ē<=8):=iz ⋯;rw[e1,e2] at hn;change ů3 _=↑(.bl (čU));cases hb:èr with
  | Á=>rw[hb] at hn;show ùP
  | true=>
   rw[hb] at hn;have hl:ē<=8:=by rw[By,Ν,Ν] at hb;show hb.2
   have hc:ĝ9 [↑ ÛP]=↑(Å (ts.map λ r=>T.bl (m_ r))):=vy éW Öy λ p hp=>dR rfl (zL rfl (zdO _ (pG.mem he hp)));show ëB
 | zE _ _=>cases Ày
 | err _ _ _=>cases Ày
 | _=>show æu
def cE Ť:é:=match t with
 | Î xs=>(m8 xs).getD []
 | _=>[]
def ġ1 uN:cE JL=r:=by simp[cE,zN,Υ1]
def Λ8 (rs:Ğ):(HZ).map cE=rs:=by
 rw[Db]
 conv=>rhs;rw[<- zgP rs]
 show WP λ r _=>ġ1 r
def wb CA:ı:=[ÛQ,ÛQ,(-12,12),(-12,12)]
def sb CA:ı:=[ÛQ,(0,1),(1,12),ÞI]
def fst uN:Int:=Äm
def lW Ť ą:Bool:=match t with
 | ő=>Êy&&(Í (ē<=24)&&(gU (ts.map cE)&&(AX).all λ CU=>(Ëw).any Ñk))
 | _=>Á
def Ł9 Ģ7(h:ϗ=4):zp JL (Â 0)=↑(Â (Y3)):=by
 match r,h with
 | AB,_=>simp[zN,fst]
def zbO (a k:Int):eqT (Â a) aw=Í (a=k):=by rw[iu,ziB]
theorem ī6 Rf:∀ ns:é,čW (λ t=>eqT t aw)=ns.any λ i=>Í (i=k)
 | []=>rfl
 | H_=>by rw[As,IS,IS,ī6 k ns,zbO]
def ĕ2 Ģ7(h:ϗ=4):∃ a b c d,r=AB:=by
 match r,h with
 | AB,_=>show#[a,b,c,d,rfl]
theorem ģ2:∀ ns:é,xZ UM=0
 | []=>rfl
 | H_=>by simp[xZ,dep,ģ2 ns]
theorem á0 ţ7 ß(h0:zb 0 Y=↑ Pm) (hl:čT) (h4:∀ r∈rs,ϗ=4):xX OY Ñ4 Y=↑(Å ((ϸ4).map ĕ)):=by
 rw[Db];show vy zN _ rs (by change āq;rw[h0];rfl) hl λ p hp=>dR rfl (zJ Ö (Ł9 (h4 ģ)))
theorem zdy Ť ą (hn:n<=1000) ďo Jc:Ŗ2 [t,Â n]=↑(.bl (lW t n)):=by
 have hw:=ľ4 t (wb n) (by simp[wb]) hz hr0 he;cases hR:Ř2 t (wb n) with
 | Á=>
  have hN:lW t n=Á:=by
   cases t with
   | tup ts=>unfold lW;ext Þ;rw[show Êy=Á from hR];rfl
   | _=>rfl
  rw[hN];rw[hR] at hw;show zM (zl Āf (zl Āg čX)) rfl
 | true=>
  rw[hR] at hw;cases t with
  | tup ts=>
   let#[rs,rfl,hr]:=Ġ9 (show Êy=true from hR);ext āA;have hc2:∀ Χ a c d,Ĳ2 [a,↑ Bg,c,d,↑(.im (aO))]=↑(Å (eU λ CU=>T.bl (ns.any Ñk))):=λ ns a c d=>by
    exact vy OA _ (AX) (η6 n ⋯) (by rw[zC5];ext Lm) λ k hk=>dR rfl (zJ (x:=yt) (y:=aO) Ö ?_);change m9 Á (yt) (aO)=_;have e:=ī6 ü ns;rw[Ϫ0];change (if dep (Â ü)<=60/\xZ UM<=60 then ↑(T.bl (čW λ t=>eqT t (Â ü))) else none)=_;rw[Ç #[GO,by rw[ģ2];show GO],e]
   have hN:lW Pm n=(Í (F9<=24)&&(gU rs&&(AX).all λ CU=>(ϸ4).any Ñk)):=by
    unfold lW;ext Þ;rw[Λ8,show ((HZ).all ăr)=true from hR,AS,iF]
   rw[hN];exact zM (zl Āf (zl Āg (zl (ya ÅP) (zl (zZ ìx) (y8 (g9 ?_ λ _=>g9 (zL Ö0 (zdI rs hz')) λ _=>ŵ7 (hc2 ĉ))))))) rfl;exact zJ (y:=Â 24) (zL Ö0 (show ↑(ĕ (((HZ).length:Nat):Int))=_ from rfl)) Ψ;rw[AS];show Ó HQ (iz ⋯)
  | _=>cases hR
def uE N0 (p:Int):Bool:=match ÞJ with
 | some qQ=>x == "keeper"
 | _=>Á
def lD Ť N0:Bool:=match t with
 | ő=>ÉN&&(oW (Ëw)&&(Ëw).all (uE os))
 | _=>Á
def Ï2 (x y:Str) DC:zS neg qQ DJ=↑(.bl (cond neg (!(x == y)) (x == y))):=by
 simp[zS,dep,ņ9]
def Ĩ9 {os:ö}{p:Int}(h0:0<=p) (h1:p<ϔ) (ho:xu) (k:Str):∃ x:Str,Ĭ os p=↑ qQ/\ÞJ=↑ qQ:=by
 have hl:ϥ4<ϔ:=LQ.Ŋ5 fL;have e:ÞJ=↑ Än:=TR;have ha:Ĭ os p=↑ Än:=by
  have:=oo (k:=ϥ4) e;rw[ν3] at this;show this
 have hw:=G6 ho Än Μ2;generalize hq:Än=q at *;cases q with
 | str x=>show#[x,ha,e]
 | _=>simp[m_,bL] at hw
theorem zdB Ť N0 (ho:xu) (hl8:ϔ<=8) ďo Jc:ŧ6 [t,Sd]=↑(.bl (lD t os)):=by
 have hw:=ľ4 t Ϻ2 (by simp[sb]) hz hr0 he;cases hR:Ř2 t Ϻ2 with
 | Á=>
  have hN:lD t os=Á:=by
   cases t with
   | tup ts=>unfold lD;ext Þ;rw[show ÉN=Á from hR];rfl
   | _=>rfl
  rw[hN];rw[hR] at hw;show zM (zl åa čX) rfl
 | true=>
  rw[hR] at hw;cases t with
  | tup ts=>
   let#[rs,rfl,hr]:=Ġ9 (show ÉN=true from hR);ext āA;have hc2:∀ b,Ń9 [↑(.im Pm),↑(.im YH),b]=↑(Å (rs.map λ r=>T.bl (uE os (Y3)))):=λ b=>by
    exact vy zN _ rs rfl hz' Ϛ;have hb:=(hr ģ).2.2 0;have h0:=Ł9 (hr ģ).2.1;let#[a,b,c,d,rfl]:=ĕ2 (show ţ=4 from (hr ģ).2.1);have hb':=hb a (0,(ϔ:Int)-1) Ö;let#[x,x1,x2]:=Ĩ9 (os:=os) (p:=a) hb'.1 (by have:=hb'.2;ext Oy) ho "keeper";have e1:uE os (fst AB)=(x == "keeper"):=by change uE os a=_;unfold uE;rw[x2]
    rw[e1];show dR rfl (zJ (zJ (x:=Sd) rfl (zJ Ö h0) x1) rfl (Ï2 x "keeper" Á))
   have hN:lD Pm os=(oW (ϸ4)&&rs.all λ r=>uE os (Y3)):=by
    unfold lD;ext Þ;rw[Λ8,show ((HZ).all čY)=true from hR,iF,zfT];rfl
   rw[hN];show zM (zl åa (zl (ya ÅP) (y8 (g9 (zL (zj ìx rfl) (zdJ (ϸ4) (by rw[AS];show hz'))) λ _=>ŵ7 (hc2 _))))) rfl
  | _=>cases hR
def hZ Ť:Bool:=match t with
 | Î [a,Sd,c,d]=>čZ&&(lW c ϔ&&lD d os)
 | _=>Á
def zd3 (a:T) (os ws ss:ö) (ha:pG a=true) (ho:pG YH=true) (hw:∀ r∈ws,ÜB) (hs:∀ r∈ss,ÜB) (lw:ĎR) (ls:ss.length<=16777216):
  cW [íQ]=↑(.bl (hZ (íQ))):=by
 have brims:Ζ4 [a]=↑(.bl (Øf)):=zM (y8 (zL íR (ľ3 a ϋ6 ∅ ha))) rfl;have own:=zdN YH ho;change cW _=↑(.bl (čZ&&(lW Úo&&lD Üw)));cases hb:Øf with
 | Á=>rw[hb] at brims;show zM (zl Æl (xD (yE (Į9 ôK) rfl))) rfl
 | true=>
  rw[hb] at brims;cases hw':fu YH with
  | Á=>rw[hw'] at own;show zM (zl Æl (xD (yE åc))) rfl
  | true=>
   rw[hw'] at own;have hw2:=hw';simp![fu,By,Ν] at hw2;have e1:=zdy Úo ⋯ (λ ts e=>by cases e;show lw) (λ ts e=>by cases e;show hw) rfl;have e2:=zdB Üw hw2.2 hw2.1.2 (λ ts e=>by cases e;show ls) (λ ts e=>by cases e;show hs) rfl;show zM (zl Æl (zl (ya åc) (y8 (g9 (a:=lW Úo) (b:=lD Üw) (zL (zj wJ (zj (zL fS rfl) rfl)) e1) λ _=>zL Öx e2)))) rfl
def Ę5 (x y z v:T) (p q r s:š):wK (Î [x,y,z,v]) [p,q,r,s]=(wh x qA&&(wh y ÄY&&(wh z r.1 r.2&&wh v s.1 s.2))):=by simp[wK]
def á4 (x y:T) (p q:š):wK (b6) sQ=(wh x qA&&wh y ÄY):=by simp[wK]
@[simp] theorem ze8 qB:vn Pc=ų6 Pc:=rfl
def Ź5 (m:Int) Χ Đ:Int:=if k<r_ then ns.getD k 0%m else 0
def ı9 (m a b c d e:T):Sm:=
 (zv (yk 2 Ļ)
 (zv (y9 Êm (yk 2 (ze Ϡ5 (ze bG Ij (cS m)))) yF)
 (retS (ze xQ (ze xw (ze zC (ze zC (ze vn ļ (cS a)) (ze vn (ze vn (cS b) ħ) ħ)) (ze vn (cS c) ħ)) (cS d)) (cS e)))))
def Ò0 (m a b c d e:Int) Χ Đ (hp:gS 2 m) (hm:0<(2:Int) ^ m.toNat) (h1:∀ i,oU i a) (h2:∀ i,oU b i) (h3:∀ i,oU i ü) (h4:∀ i,oU c i) (h5:0<d) (h6:ox 0 e):
  jW (ı9 (Â m) (Â a) vD (Â c) (Â d) (Â e) [↑ FJ,↑(.im aw),none])=↑(Â ((Ź5 (2 ^ m.toNat) ns k*a+b*ü*ü+c*ü)%d/e)):=by
 have h6':∀ i,ox i e:=λ i=>h6;unfold ı9 Α9 Ź5;by_cases h:k<r_
 .have q:ìy:=oo (Α1);have h':ϫ4:=LQ.af h;simp[h,h',q,dF,hp,hm,ů4,h1,h2,h3,h4,h5,h6',jW]
 .have h':¬ ϫ4:=⋯;simp[h,h',dF,ů4,h1,h2,h3,h4,h5,h6',jW]
def Rv Χ Đ:Int:=(Ź5 (2 ^ (64:Int).toNat) ns k*46337+2741*ü*ü+59*ü)%2147483629/2
def half_lt (x d:Int) (h:0<d):0<=x%d/2/\x%d/2<d:=by
 have h1:=zF0 x (b:=d) (LQ.ů8 h);have h2:=zF1 x h;lia
def ai Χ Đ:0<=ϸ5/\ϸ5<2147483629:=half_lt À ()
def cT Χ Đ (hk:U0):jD [DN,Â ü]=↑(Â (ϸ5)):=
 Ò0 64 46337 2741 59 2147483629 2 ns k Ąk (λ i=>Æ TX) ÒS (λ i=>Æ F0) ÒS () TX
def Ψ7 ą uN:Prop:=∃ a b c d:Int,r=AB/\(0<=a/\a<n)/\(0<=b/\b<n)/\(-12<=c/\c<=12)/\(-12<=d/\d<=12)
theorem Ľ8 (x s:Int) (h1:1<=s) (h2:s<=12):-12<=x%(2*s+1)-s/\x%(2*s+1)-s<=12:=by
 have a:=zF0 ċe;have b:=zF1 ċe;lia
def two ô4:x%2=0\/x%2=1:=Int.emod_two_eq _
def yD EL ß Çv (h:0<j):ze xw ß1 Y=↑(ÞK):=zJ Üx
def yR EL ß Çv (h:ox i j):ze xQ ß1 Y=↑(ÞL):=zJ Üx
def Ă8 Ò3 ß wM(h:Μ3) (h':Âh) Ü:oq i (xy (zc f Àz)) Y=↑(.nx (HM i ↑(ì ÞM))):=by
 have e:xy (zc f Àz) Y=↑ ÞM:=by
  change (zc f Àz Y).bind _=_;rw[zj h (zj h' rfl)];rfl
 change (xy _ Y).bind _=_;rw[e];rfl
def Ň6 ď Ĉ ß{x y z:T}{v:zEO}Ny òG (h0:Y[n]?=↑↑(ì ÞM)) (hk:k=0\/k=1):ar n f v Y=↑(.nx (HM n ↑(ì (Å (if k=0 then [z,y] else [x,z]))))):=by
 ext îI;rw[hf,Do,h0];rcases hk with rfl | rfl <;> rfl
def ĕ4 Χ (at' many k:Nat) (more span:Int) (rows:ö) (ha:at' + k<=1000) (hm:1<=many) ög ÖZ:
  ∃ a b c d m:Int,Ψ7 many AB/\(WZ->a=k)/\turn (zP 6) ŗ2 (yt) [↑ FJ,↑ yq,↑ Pq,↑ f9,↑ Ϣ6,↑ Ñl,none,none,none,none] =
   ↑(.nx [↑ FJ,↑ yq,↑ Pq,↑ f9,↑ Ϣ6,↑(ì (Å (rows++[zN AB]))),↑(.im (yt)),↑(.im (Â m)),↑(.im (Â a)),↑(ì (Å [Â c,Â d]))]):=by
 have hmx:=cT ns (at' + k) ha;generalize Rv ns (at' + k)=m at hmx;have pm:Eb<many:=⋯;have ps:0<ÞN:=⋯;have cm:oU 2 span:=È TX;have e1:=zF0 m (b:=Ž8) (LQ.ů8 pm);have e2:=zF1 m pm;have e3:=zF0 (m/8) (b:=Ž8) ⋯;have e4:=zF1 (m/8) pm;have c1:=Ľ8 (m/64) span hs1 hs2;have c2:=Ľ8 (m/2048) span hs1 hs2;have zz:(-12:Int)<=0/\Eb<=12:=TX;have cc:Eb+ü=ü:=LQ.Œ7;rw[show ((at' + k:Nat):Int)=ÛR+ü by lia] at hmx;rw[cc];by_cases hk:ü<Ž8
 .by_cases h5:m/65536%5=0
  .ext øR
   .show#[k,TK,0,ϔ1,m,#[_,_,_,_,rfl,Öz,Si,zz,c2],ğ,zl MD (zl bh (zl Çt âu))]
   .show#[k,TK,ϖ1,0,m,#[_,_,_,_,rfl,Öz,Si,c1,zz],ğ,zl MD (zl bh (zl Çt áB))]
  .show#[k,TK,ϖ1,ϔ1,m,#[_,_,_,_,rfl,Öz,Si,c1,c2],ğ,zl MD (zl bh (zl Çt äf))]
 .by_cases h5:m/65536%5=0
  .ext øR
   .show#[m%many,TK,0,ϔ1,m,#[_,_,_,_,rfl,ÙP,Si,zz,c2],Ìr,zl MD (zl bh (zl ÇO âu))]
   .show#[m%many,TK,ϖ1,0,m,#[_,_,_,_,rfl,ÙP,Si,c1,zz],Ìr,zl MD (zl bh (zl ÇO áB))]
  .show#[m%many,TK,ϖ1,ϔ1,m,#[_,_,_,_,rfl,ÙP,Si,c1,c2],Ìr,zl MD (zl bh (zl ÇO äf))]
def Ψ7.row ď Ģ7(h:Ψ7 n r):wK JL (wb n)=true:=by
 let#[a,b,c,d,rfl,h1,h2,h3,h4]:=h;ext þJ;unfold wb;ext öh
theorem Ń1:∀ ţ7,rs.Pairwise (LR)->rs.Nodup->gU rs=true
 | [],_,_=>rfl
 | [a],_,_=>rfl
 | OO,h,nd=>by
  have h1:=CR h;have n1:=Yf nd;rw[gU,Ń1 Iv n1.2,Òx];cases q:η7 with
  | true=>rfl
  | Á=>show á (L4.ū5 Ñ q (pV b BT)▸BT) n1.1
def zav Ģ7 ţ7:m8 ϟ4=none:=rfl
def Ë2 (rs:Ğ) (h0:rs≠[]) (hl:F9<64) (hn:ÎZ):eY [Å (HZ)]=↑ îv:=by
 cases rs with
 | nil=>show ÛK
 | cons r rs=>
  change (match m8 ϟ4 with
   | some ns=>if μ0 then ↑(tm (Öd ĕ)) else none
   | none=>bq [tm ϟ4])=_
  rw[zav];change (mU ϟ4).bind _=_;rw[Τ7,Do,Ç #[hl,hn]]
def zdV Χ ďA (span:Int) (ha:at'<=100) Ëi (hmo:more<=16) ög:
  ∃ rs:Ğ,ť5 [DN,RG,X5,Äo,Â span]=↑ Pm/\ÍU/\rs≠[]/\F9<=Ob/\Ćv/\êM:=by
 let#[Y',h1,rows,h2,h3,h4,h5]:=m6 (is:=Ćk) (g:=zP 6) (b:=ŗ2) OA (λ p Y=>∃ rows:Ğ,Y=[↑ FJ,↑ yq,↑ Pq,↑ f9,↑ Ϣ6,↑(ì ÞO),none,none,none,none]/\
   HG=ţ/\(∀ r∈rows,Ðl)/\∀ k∈p,WZ->ü ∈ ÈT fst) (ċ (Ob)) [↑ FJ,↑ yq,↑ Pq,↑ f9,↑ Ϣ6,↑ UC,none,none,none,none]
   #[[],rfl,rfl,Lg,Lg] (by
  rintro p k q e Y ⟨rows,rfl,r1,r2,r3⟩;have hp:ţ+1<=Ob:=by
   have:=Lb;ext Oy
  have hk:k<Ob:=by
   have:k∈ ċ (Ob):=Dl
   ext Ln
  let#[a,b,c,d,m,w1,w2,w3]:=ĕ4 τ1 many k more span Ϭ6 ⋯ hm hs1 hs2 Em;exact#[_,w3,rows++[AB],∅,by simp[r1],W0,λ j hj hjm=>?_]
  .rcases Å4 hr with z | z
   .show r2 r z
   .cases Ma;show w1
  .rw[IN];rcases Å4 hj with z | z
   .show SL _ (r3 j z hjm)
   .cases Ma;show PP _ (by rw[<- w2 hjm];show BT))
 subst h2;have hlen:HG=Ob:=ĆU
 have hne:rows≠[]:=λ z=>by rw[z] at hlen;simp at hlen;lia
 have hrow:ϙ6:=λ r hr=>by let#[a,b,c,d,rfl,_]:=h4 FL;simp
 have hss:=Ë2 rows hne ⋯ hrow;have hmem:∀ r,r∈ Pu ↔r∈rows:=λ r=>by rw[(bZ _).mem_iff,ao]
 have hl24:(Pu).length<=24:=by rw[Āh];have:=Ŷ1 rows;lia
 have hgw:∀ k:Nat,WZ->∃ r∈ Pu,Y3=ü:=λ k hk=>by
  let#[r,hr,e]:=π (h5 k Em hk);show#[r,Ôv hr,e]
 exact#[Pu,?_,?_,?_,by rw[Āh,<- hlen];show Ŷ1 rows,λ r hr=>øP,hgw]
 .obtain⟨N,hN⟩:∃ N,N=Ob:=ξ;have hr:=η6 N ⋯;have ee:ăs=(N:Int):=⋯;rw[<- hN] at h1;exact zM (zl rfl (zl (vL ?_ h1) (y8 (zL (zj (zL Ö0 hss) rfl) rfl)))) rfl;change ÎH ny=_;rw[zj (x:=Â ăs) wJ rfl,ee];show hr
 .simp![lW,Λ8,By,Ν,AS];exact#[Ċa,hl24,Ń1 (L4.ų0 _) ((bZ _).nodup_iff.mpr (Ź6 rows)),ĝ5 Ùn]
  .ext ćA;show (øP).row
  .have hk':WZ:=ϴ3
   have:=h5 k Em hk';let#[r,hr,e]:=π this;show ÃM #[Y3,sM #[r,Ôv hr,rfl],V2]
 .intro z;cases hr:rows with
  | nil=>show hne hr
  | cons r l=>
   have:r∈ Pu:=Ôv (by rw[hr];show BT);rw[z] at this;ext Bu
def Ŷ5 N0 uN:Prop:=∃ a b c d:Int,r=AB/\(0<=a/\a<ϔ)/\(0<=b/\b<=1)/\(1<=c/\c<=12)/\(0<=d/\d<=12)/\uE os a=true
def Ŷ5.row {os:ö}Ģ7(h:Ŷ5 os r):wK JL Ϻ2=true:=by
 let#[a,b,c,d,rfl,h1,h2,h3,h4,_]:=h;ext þJ;unfold sb;ext öh
theorem Ŗ7:∀ Χ ô4,oW ns=true->(∀ n∈ns,n<x)->oW (ns++[x])=true
 | [],x,_,_=>rfl
 | [a],x,_,h=>by simp[oW];show h a BT
 | OO,x,h,hx=>by
  ext èh
  have ih:=Ŗ7 L9 x h'.2 λ n hn=>hx n (Da _ hn);change (Âm&&oW (L9++[x]))=true;rw[h'.1,ih];rfl
def þ7 N0 Đ (hk:k<ϔ) (s kk:Str) (hs:Ĭ os ü=↑ iU) (cell:Int) (rows:ö) ÖZ (bb:Sm)
  (hb:bb=(zv (y9 (mD (yh (ze ċb (cS (Ã kk)))) íg) ày)
 ót)):
  turn Sk bb (yt) [↑ Ćw,↑ Ϩ0,↑ Ñl,none]=↑(.nx [↑(.im (Â (cell/624))),↑ Ϩ0,↑(ì (Å (rows++(if (s == kk)=true/\cell%2=1 then [zN [ü,cell/2%2,1+cell/4%12,cell/48%13]] else [])))),↑(.im (Â ü))]):=by
 ext ċu;have d624:ox cell 624:=TX;have d2:ox cell 2:=TX;have d4:ox cell 4:=TX;have d48:ox cell 48:=TX;have cc:Eb+ü=ü:=LQ.Œ7;rw[cc];subst hb;cases hq:(s == kk) with
 | Á=>
  rw[É ËH,IR];show zl (ya (lR Æv) rfl) Îp
 | true=>
  by_cases h2:cell%2=1
  .rw[Ç ſ4];show zl (yE (ky Æv (ðz (Ó some (DO h2)))) (oK rfl (wZ (zj rfl (zj (yD (yR Ö d2) GI) (zj (zJ rfl (yD (yR Ö d4) GI) rfl) (zj (yD (yR Ö d48) GI) rfl)))) Et) (LQ.Ō3 hl))) Îp
  .rw[É Ďa,IR];show zl (ya (ky Æv (ðz (Ó some (FM h2)))) rfl) Îp
theorem zdW (cell:Int) N0 (ho:xu) (h8:ϔ<=8):∃ qs:Ğ,Υ2 [Â cell,Å os]=↑(YW)/\Ïo/\EH<=8/\Íi/\ϝ5:=by
 let#[Y',h1,c',qs,h2,h3,h4,h5,h6]:=m6 āf (b:=š7) OA (λ p Y=>∃ (c:Int) (qs:Ğ),Y=[↑(.im (Â c)),↑ Ϩ0,↑(ì (Å (k9))),none]/\EH<=ţ/\Íi/\ϝ5/\∀ n∈ sI fst,n<(ţ:Int))
   (ċ ϔ) [↑ Ćw,↑ Ϩ0,↑ UC,none] #[cell,[],rfl,Ÿ,Lg,rfl,Lg] (by
  rintro p k q e Y ⟨c,qs,rfl,r1,r2,r3,r4⟩;have hpk:ţ=k:=by
   have h:=Ó (λ l=>l[ţ]?) e;have hp:ţ<ϔ:=ϐ0
   simp[hp] at h;show h
  have hk:k<ϔ:=by
   have:k∈ ċ ϔ:=Dl
   ext Ln
  let#[s,s1,s2]:=Ĩ9 (os:=os) (p:=ü) Q4 (LQ.af hk) ho "keeper";have tn:=þ7 os k hk s "keeper" s1 c (k9) Em š7 rfl;have ek:uE os ü=Ďb:=by unfold uE;rw[s2]
  by_cases hc:Ďb=true/\c%2=1
  .rw[Rg] at tn;exact#[_,tn,c/624,qs++[[ü,c/2%2,1+c/4%12,c/48%13]],∅,by simp;show r1,W0,?_,ÙQ]
   .rcases Å4 hr with z | z
    .show r2 r z
    .cases Ma;show#[_,_,_,_,rfl,⋯,⋯,⋯,⋯,by rw[ek];show Ú0]
   .rw[IN];exact Ŗ7 À r3 ÙQ;have:=r4 n hn;change n<ü;lia
   .rw[IN] at hn;rcases Å4 hn with z | z
    .have:=r4 n z;simp;lia
    .have:n=ü:=by simpa [fst] using z
     simp;lia
  .rw[Mj,IR] at tn;show#[_,tn,c/624,qs,∅,by simp;show Vx r1,r2,r3,λ n hn=>by have:=r4 n hn;simp;lia])
 subst h2;exact#[qs,?_,?_,by simp at h3;lia,h4,h5]
 .have hr:=η6 ϔ ⋯;show zM (zl rfl (zl ÙR (y8 Ôw))) rfl
 .simp![lD,Λ8,h5,iF,By];exact#[Ċa,ĝ5 ÙQ]
  .ext ćA;show (h4 FL).row
  .let#[r,hr,rfl]:=π hn;let#[a,b,c,d,rfl,_,_,_,_,h]:=h4 FL;show h
def Ŏ4 (b m e:T):Sm:=
 (zv (y9 ăj (retS (ze Ϡ5 (ze bG (cS b) (cS m)))) yF)
 (zv (yk 3 ÙG)
 (retS (ze ïB (ze vn (cS e) Ū)))))
def á9 (b m e:Int) Χ Đ (d:Bool) (hk:U0) (hp:gS b m) (hm:0<b ^ m.toNat) (he:∀ i,oU e i) (hx:∀ i j:Int,DI->i<2147483629->oU j i):
  ∃ c,jW (Ŏ4 vD (Â m) (Â e) [↑ FJ,↑(.im aw),↑(.im (yU)),none])=↑(Â c):=by
 have hmx:=cT ns k hk;let#[m0,m1]:=ai ns k;generalize ϸ5=q at *;have x1:=hx q q m0 m1;have x2:=hx q (q*q) m0 m1;unfold Ŏ4 Α9 at *;cases d
 .show#[_,by simp[hmx,ů4,x1,x2,he,jW];rfl]
 .by_cases h:k<r_
  .have z:ìy:=oo (Α1);have h':ϫ4:=LQ.af h;show#[_,by simp[h,h',z,dF,hp,hm,jW];rfl]
  .have h':¬ ϫ4:=⋯;show#[_,by simp[h,h',dF,hmx,ů4,x1,x2,he,jW];rfl]
def zdC Χ Đ (d:Bool) (hk:U0):∃ c,Α7 [DN,Â ü,yU]=↑(Â c):=
 á9 10 64 104729 ns k d hk Ąk ÒS (λ i j h1 h2=>Æ F0)
def zde ô4 (h:0<=x):AD x 1=0\/AD x 1=1:=by
 have e:AD x 1=((Qj &&& 1:Nat):Int):=by
  unfold AD;simp[h]
 rw[e,Nat.and_one_is_mod];lia
def kt Ed:T:=cond b XE (R1)
def ĵ1 Ed:m_ (kt b)=true:=by cases b <;> decide
def Ą3 (k l:Str) (s a m b e x:T) BD (num:Int) (h0:0<=num) (rows:ö) ÖZ (u v:õ W) (bb:Sm)
  (hb:bb=(vf 6 (ze zp (xy êm) ñg))):
  ∃ y,(y=rj\/y=Ã l)/\turn (zP 7) bb (Â (0+OT)) [↑(.im s),↑ Nb,↑(.im m),↑(.im b),↑(.im e),↑ Ϥ8,↑ Ñl,none,u,v] =
   ↑(.nx [↑(.im s),↑ Nb,↑(.im m),↑(.im b),↑(.im e),↑ Ϥ8,↑(ì (Å (rows++[y]))),↑(.im (Â OT)),u,v]):=by
 ext ċu;have cc:Eb+OT=OT:=LQ.Œ7;have hq:0<=num/2 ^ ĎS:=ziC h0 ûL;rw[cc];subst hb;unfold turn;have tn:ĎS=p:=∅;rw[tn] at hq;rcases zde _ hq with h | h
 .show#[rj,C5,Āi]
 .show#[Ã l,h_,Āi]
def four ô4:x%4=0\/x%4=1\/x%4=2\/x%4=3:=⋯
def zdZ Χ ďA (br:T) (ha:at'<=50) Ëi (hmo:more<=16):
  ∃ (os:ö) (rs qs:Ğ),ZF [DN,RG,X5,br,Äo]=↑ îw/\Μ4/\xu/\
   ÍU/\Ïo/\rs≠[]/\F9<=Ob/\EH<=8/\Ćv/\(êM)/\Íi/\ϝ5:=by
 have hmx:=cT τ1 ⋯;let#[m0,m1]:=ai τ1;generalize Rv τ1=num at *;let#[Y',h1,os,h2,h3,h4]:=m6 (is:=[7]) (g:=zP 7) (b:=Ţ4) OA (λ p Y=>∃ os:ö,Y=[↑ FJ,↑ yq,↑ Pq,↑(.im br),↑ f9,↑ Ϥ8,↑(ì (Å os)),none,none,none]/\ϔ=ţ/\xu)
   (ċ many) [↑ FJ,↑ yq,↑ Pq,↑(.im br),↑ f9,↑ Ϥ8,↑ UC,none,none,none] #[[],rfl,rfl,rfl] (by
  rintro p k q e Y ⟨os,rfl,r1,r2⟩;have hp:ţ<many:=ϐ0
  let#[y,y1,y2]:=Ą3 Ϡ7 (DN) (RG) (X5) br (Äo) (Â 0) k num m0 os ⋯ P_ Ţ4 rfl;exact#[_,y2,os++[y],rfl,by simp[r1],?_];rw[List.all_append,r2];rcases y1 with z | z
  .subst z;show ĵ1 true
  .subst z;show ĵ1 Á)
 subst h2;have hos:Μ4:=by exists h3
 have d256:ox num 256:=TX;have d1024:ox num 1024:=TX;have d3072:ox num 3072:=TX;obtain⟨span,s1,s2,s3⟩:∃ span:Int,1<=span/\span<=12/\Ĭ [ĕ 1,Â 2,Â 3,Â 12] (num/256%4)=↑(Â span):=by
  rcases four (num/256) with h | h | h | h <;> rw[h]
  .show#[1,(),(),rfl]
  .show#[2,(),(),rfl]
  .show#[3,(),(),rfl]
  .show#[12,(),(),rfl]
 let#[rs,w1,w2,w3,w4,w5,w6]:=zdV ns (at' + 2) many more span ⋯ hm hm8 hmo s1 s2;let#[cell,c1]:=zdC ns (at' + 1) (Í (num/3072%2=1)) ⋯;let#[qs,q1,q2,q3,q4,q5]:=zdW cell os h4 ⋯;have hr:=η6 many ⋯;have e1:((at' + 1:Nat):Int)=ÛR+1:=⋯;have e2:((at' + 2:Nat):Int)=ÛR+2:=⋯;rw[e1] at c1;rw[e2] at w1;by_cases hst:num/1024%3=1
 .exact#[os,rs,qs,?_,hos,h4,w2,q2,w3,w4,q3,w5,w6,q4,q5];show zM (zl Āj (zl rfl (zl ÙR (zl äm (zl ae (zl (yE (WE (Ó some (DO hst)))
   (zZ (i:=9) (zL (zj (zL (zj rfl (zj wJ (zj Ćx rfl))) c1) Ö0) q1))) ãV)))))) rfl
 .exact#[os,rs,[],?_,hos,h4,w2,?_,w3,w4,∅,w5,w6,Lg,rfl]
  .show zM (zl Āj (zl rfl (zl ÙR (zl äm (zl ae (zl (ya (WE (Ó some (FM hst))) rfl) ãV)))))) rfl
  .simp[lD,oW]
def zbi {br:T}{os:ö}{rs qs:Ğ}{many:Nat}(hb:wK br ϋ6=true) (h1:Μ4) Ëi (h2:xu) (h3:ÍU) (h4:Ïo):
  hZ îw=true:=by
 have eo:fu YH=true:=by
  have a:1<=ϔ:=⋯;have b:ϔ<=8:=⋯;simp[fu,a,b,h2]
 unfold hZ;simp![hb,eo,h1,h3,h4,zhF]
end zT
namespace zT
open Ë L2 L3 L5 SJ
def num CA:Str:=(toString n:ń)
def nums:é:=(ċ 25).map λ CU=>(-12:Int)+ü
def wd Þ2:ř:=if (ϫ5)=true then ↑0 else if (Ôx)=true then ↑1 else ÙS Ϩ1
def oT:ř->T
 | none=>.zB
 | some n=>Â n
def nv (r:BM):T:=Î (FP oT)
def ļ8 þ(ret:Ŀ4) (Y0:Ev):M4->Out
 | some x=>ÖA
 | none=>.nx Y0
theorem dI þ xg VI ïE:∀ Ò8 Ï8,dh=Y0->
  âw->
  gQ=↑(ļ8 ret Y0 (Ďc))
 | [],Y,h,_=>by ext öi;rfl
 | A_,Y,h,ht=>by
  ext äa
  .rw[Ç c,c];rfl
  ext úD
def bR GC(h:ôL):xW [Â n]=↑(Ã E_):=Ç h
def zaB (w k l:Str) (h:(k == w||l == w)=true):aH (Î ăt) pD=↑(oT (if (k == w)=true then ↑0 else ↑1)):=by
 have e:jK ăt=↑[k,l]:=rfl;unfold aH;ext Þ;rw[e,Do];by_cases hk:k=w
 .subst hk;simp[oT]
 .have hl:l=w:=by
   rw[Os,sA,sA] at h;show Ċb hk
  subst hl;simp[oT,hk,List.idxOf_cons];simp[ED hk]
def zy {f:Ŝ}EL ß ÆR:Ôu:=ċA
def oY GS Qd Vp ß ô3 rA ÿ5(h1:g Y=↑ DJ) (h2:ϰ8) (h:F Ϸ8=r):xM F g u Y=r:=by change Äp;rw[h1];ext ű9;rw[h2];show h
def xS GS Qd ß{x:T}ÿ5(h:g Y=↑x) (hF:F [x]=r):zm F Àz Y=r:=by change (Ci _).bind _=_;rw[h];show hF
def ď1 Þ2:vY [1] (zP 1) Ŕ4 (Ân ĕ) Rh=↑(ļ8 ĕ Rh (ÙS Ϩ1)):=by
 exact dI (is:=[1]) ĕ ĕ (Ϩ1) Rh nums Rh rfl λ n hn=>#[Îq,rfl,?_];have hb:ôL:=by
  let#[k,hk,rfl]:=π hn;rw[zC1] at hk;lia
 change Ŕ4 Îq=_;have h1:ze Ąg Îq=↑(.bl (w == PK)):=zy rfl (xS rfl (bR hb)) (Ï2 w E_ Á);cases hc:(w == PK) with
 | true=>show yE Ąl
 | Á=>show ya Ąl
def zdv Þ2:Ŵ3 [Hi]=↑(oT (wd w)):=by
 have hin:ze (m9 Á) ù Ϻ0 Rh=↑(.bl (ϫ5||Ôx)):=zy Ö (ř3 w "a" "b" HU);have hr:wq çd Rh=↑(Ân ĕ):=rfl;unfold Ŵ3 wd;exact ÀA;unfold Š7;cases hc:(ϫ5||Ôx) with
 | true=>
  exact xD (yE Ćy (y8 ((zy Ö (zaB w "a" "b" hc)).trans ?_)));by_cases ha:(ϫ5)=true
  .rw[Ç ha,Ç ha]
  .rw[É ha,É ha,Ç];rw[XL] at ha;rw[ha,Òy] at hc;show hc
 | Á=>
  exact zl (ya Ćy rfl) ?_;rw[zi3] at hc;rw[Ú0,hc.2,Dp,Dp];have hl:=ď1 w;cases hf:ÙS (Ϩ1) with
  | some n=>rw[hf] at hl;show xD (vL hr hl)
  | none=>rw[hf] at hl;show zl (vL hr hl) rfl
def Ľ3 (ws:Û) (h:ĎR):eD [ÆI]=↑(nv (qv wd)):=by
 exact zM (y8 (xS (x:=Å ((qv wd).map oT)) ?_ rfl)) rfl;unfold Ņ0;rw[Db];show vy ø _ ws Ą9 λ w hw=>by simp[nL,zdv]
theorem č5 Ý2 Ε7 (hx:ϑ<=1000000):eV x y:=by
 ext TV;have h1:=ìz;have h2:=StrLaws.occ_length_le Ìz;exact#[⋯,⋯,?_,⋯];rw[PyProof.Rows.len_partsBetween];lia
def Ī8 Ý2 Ε7 (hx:ϑ<=1000000):nI [ů,Ir]=↑(Å ((qK x y).map ø)):=Ç (č5 hy hx)
def ź5 Ý2 Ε7:(qK x y).length<=ϑ+1:=by
 have h1:=ìz;lia
def Ŧ5 (ws:Û):fU ßR L8=↑(Å ((ws.drop 1).map ø)):=by
 change ↑(tm (ni Ð))=_;rw[ι9,zfY]
def mW ğ9:BM:=óx wd
def ů6 ğ9:BM:=(qK (WC) " ").map wd
def Ê5 ğ9:(WC).length=ţ:=by
 have h:=Ó ØF (StrLaws.join_split p ">");have e:WC=Ħ " " (qK p ">"):=StrLaws.replace_one p " " 62;rw[e];exact vF ?_ h;cases hs:qK p ">" with
 | nil=>rfl
 | cons a l=>rw[ñj,ñj];rfl
theorem ŧ8 Qd ß éX:zm eD (zc (xK (xM nI g Oj) DR) zf) Y=↑(nv (mW p)):=by
 have hm:=ź5 (x:=p) (y:=" ") ();exact xS (x:=Å (óx ø)) ?_ (Ľ3 _ (by rw[To];lia));change (xM nI g _ Y).bind _=_;rw[oY oh (Ī8 () hp)];show Ŧ5 _
theorem ĝ7 Qd ß éX:zm eD (zc (xM nI (Ŧ2 Åd g) Oj) zf) Y=↑(nv (ů6 p)):=by
 have hl:=Ê5 p;have hm:=ź5 (x:=WC) (y:=" ") ();exact xS (oY (y:=WC) ?_ rfl (ÛS)) (Ľ3 _ ⋯);ext iX;show Ç hp
abbrev Rd:=Û ×List (BM)×List (BM)
def kH ğ9:Bool:=Ċc == p||("taker":Str) == p
def bo ğ9:Bool:=IW p "stall "
def vt C0 ğ9:Rd:=if ÔY then ñk else if bo p=true then (s.1,Vj,S9++[mW p]) else (s.1,Vj++[ů6 p],S9)
def kQ (a:T) C0 (v:Τ):Ev:=[↑ Nb,↑(ì (Å (ϸ6))),↑(ì (Å Ñm)),↑(ì (Å Ñn)),v,none]
def î4 C0 ğ9:(ν5).1.length+(ν5).2.1.length+(ν5).2.2.length=ÈH+1:=by
 unfold vt;split
 .simp;lia
 .split <;> simp <;> lia
theorem ŧ3:∀ É9 C0,(ÒT).1.length+(ÒT).2.1.length+(ÒT).2.2.length=ÈH+İ
 | [],s=>rfl
 | uh,s=>by
  have h:=ŧ3 ps (ν5);have h':=î4 s p;rw[Re,GM];lia
theorem ð9 (a:T) C0 ğ9 (hp:ÔX) (hl:ÈH<=10000):turn K2 Zt (Ã p) (kQ a s none)=↑(.nx (kQ a (ν5) ↑(.im (Ã p)))):=by
 change Zt ÊP=_;have hin:ze (m9 Á) Cb ÙB ÊP=↑(.bl (kH p)):=zy rfl (wZ GI) (ř3 p Ϡ7 HU);have hst:xM Ąi ÊP=↑(.bl (bo p)):=oY DV;unfold vt Zt;cases h1:kH p with
 | true=>
  exact yE Ćz ((oK Ö (aq)).trans ?_);rw[ĭ];change _=↑(Out.nx (kQ a ñk _));ext Óq
 | Á=>
  exact ya Ćz ?_;rw[Dp];cases h2:bo p with
  | true=>
   exact yE ĆA ((oK rfl (ŧ8 rfl hp) (aq)).trans ?_);rw[ĭ];ext Óq
  | Á=>
   exact ya ĆA ((oK rfl (ĝ7 rfl hp) (aq)).trans ?_);rw[Dp];ext Óq
def jS (b:BM) C0:T:=Î [nv b,Î (ϸ6),Î Ñm,Î Ñn]
theorem zdM (p0:Str) É9 (hs:∀ p∈p0::ps,ÔX) (hl:İ<=10000):ŕ5 [ϖ2]=↑(ν6):=by
 let#[Y',h1,h2]:=m6 āg (b:=Zt) ø (λ q Y=>Y=kQ (ϖ2) (q.foldl vt M8) none) ps (kQ (ϖ2) M8 none) rfl (by
  rintro q x r e Y rfl;have hx:x∈ps:=Dl
  have hq:q.length<=10000:=ϐ0
  have hf:=ŧ3 q M8;simp![P7,xb] at hf;exact#[_,ð9 À x (hs ϭ3) ⋯,?_];rw[zh3];rfl)
 subst h2;exact ÀA;unfold Ļ8;exact zl rfl (zl rfl (zl rfl (zl (vL ?_ h1) ?_)))
 .change (fU ßR (ϖ2)).bind oZ=_;rw[Ŧ5];rfl
 .exact zl (zZ (ŧ8 (p:=p0) ?_ (hs p0 BT))) (y8 ?_)
  .show zy Ö (oo df)
  .show wZ (xs:=[nv (mW p0),_,_,_]) rfl (by change 4<=100;decide)
def Nm CA:Prop:=-12<=n/\n<=13
def Ė7:((ċ 26).all λ CU=>Í ((ϱ0).length<=3)&&(! Êa 59&&(! Êa 62&&(! Êa 32&&(Í ((L (ϱ0)).head?≠↑115)&&Í (wd (ϱ0)=if ü-12<=12 then ↑(ü-12) else none))))))=true:=()
theorem mf GC Ω3:(PK).length<=3/\59∉ Kq/\62∉ Kq/\32∉ Kq/\(Kq).head?≠↑115/\wd E_=öx:=by
 have hk:=G6 Ė7 (n+12).toNat (by rw[zC1];have:=h.1;have:=h.2;lia);have e:(((n+12).toNat:Nat):Int)-12=n:=by have:=h.1;lia
 rw[e] at hk;simp![By,Ν,ziA,List.contains_eq_mem,ϒ4] at hk;show hk
def jy ŷ Ï8 (a:Str) ą:Prop:=f Y=↑(rY)/\UA<=n
theorem vg Ò3 ß Ξ1{n m:Nat}(h:jy f Y a n) (h':jy g Y b m) (hn:n+m<=1000000:=by decide):jy (ze zC f g) Y (a++b) (n+m):=by
 ext TV;have h1:=h.2;have h2:=h'.2;exact#[zy h.1 h'.1 (Ç ⋯),?_];rw[JG];show LQ.ż2 Ŭ
theorem l_ ă Ny ß ÿ GC(h0:zx i Y=↑ Ad) (hk:Ĭ ts k=↑ BG) (hn:Nm n):jy (zm xW (zc (ze zp (zb i) Δ7) zf)) Y E_ 3:=by
 have e:zb i Y=↑ Ad:=by
  unfold zx at h0;unfold zb;split at h0
  .rename_i e;rw[e];show h0
  .cases h0
 show#[xS (zy e rfl hk) (bR (by have:=hn.1;have:=hn.2;lia)),(mf hn).1]
def cB ß(a:Str) ą (h:UA<=n:=by decide):jy (cS (rY)) Y a n:=#[rfl,h]
def lF (b:Int):Str:=if b=0 then "a" else "b"
def vA:é->Str
 | AB=>AE++">"++num b++" "++Qt++" "++CS
 | _=>""
def o_:é->Str
 | AB=>"stall "++AE++" "++lF b++" "++Qt++" "++CS
 | _=>""
def Œ1 pQ:Str:="brims "++num x++" "++num y
def Ő3 uN:Prop:=∃ a b c d,r=AB/\Nm a/\Nm b/\Nm c/\Nm d
def Ŏ9 uN:Prop:=∃ a b c d,r=AB/\Nm a/\(ÞP)/\Nm c/\Nm d
def ū4 {f:Nat}ß Q2 (h0:zx f Y=↑ JL):
  jy (ze zC (ze zC (ze zC (ze zC (ze zC (ze zC (zm xW (zc ÈO zf)) ÒO) (zm xW (zc (ze XJ Ď) zf))) Ä7) (zm xW (zc (ze XJ Ij) zf))) Ä7) (zm xW (zc (ze XJ B0) zf))) Y So 20:=by
 ext BF;have z:=vg (vg (vg (vg (vg (vg (Ôy) (cB ">" 1)) (l_ h0 Ϻ5 hb)) Nr) (Íj)) Nr) (Ík);show ûM
def zdz Q2:Ŧ4 [zN r]=↑(Ã So):=zM (y8 (ū4 (f:=0) oh).1) rfl
def Ë7 Ϛ7:zp (Î ((ϔ5:Û).map ø)) vD=↑(Ã RS):=by
 ext ĄD
theorem ß7 Ϛ7:zp (Ã "ab") vD=↑(Ã RS):=by
 have hl:("ab":Str).length<=â:=()
 exact (Ç (e:=none) hl).trans ?_;ext ĄD
def zdE Ŏ0:ő2 [zN r]=↑(Ã ν7):=by
 ext BF;have h0:zx 0 ýN=↑(Î ό6):=rfl;have hp:jy Ćj ýN RS 1:=#[zy Ö (Ë7 hb),Çy];show zM (y8 (vg (vg (vg (vg (vg (vg (vg (cB "stall " 6) (Ôy)) Nr) hp) Nr) (Íj)) Nr) (Ík)).1) rfl
def vc ϐ6:Û:=pb::(És)
def yP ϐ6:T:=Î [ZU,Î (Β0),Î (qv zN),YW]
structure jC ϐ6:Prop where
 x:Nm x
 y:Nm y
 o:Ďd
 w:Ċd
 q:Ċe
 ln:ϔ+Fm+EH<=60
def ś7 ς3(h:ÔY):p="keeper"\/p="taker":=by
 unfold kH at h;rw[Os,sA,sA] at h;show h.imp Eq.symm Eq.symm
theorem ş1 Ŏ0:(o_ r).length<=20:=by
 ext BF;ext āC
 have e:("stall ":Str).length=6:=()
 have e1:ZY=1:=()
 ext èS;simp![o_,JG];lia
def Ğ8 Q2:(vA r).length<=20:=(ū4 (f:=0) (Y:=[↑ ÀB]) oh).2
def Ŭ5 {f:Nat}ß U8 ÿ ďp (h0:zb f Y=↑(Î (ZU::ts))):
  jy (ze zC (ze zC (ze ÌA íS) Ä7) íT) Y (pb) 20:=by
 have e:ze XJ Ļ Y=↑(ZU):=zy h0 rfl (oo df);have hX:jy íS Y (num x) 3:=#[xS (zy e Ö) (bR (by have:=hx.1;have:=hx.2;lia)),(mf hx).1];have hY:jy íT Y (num y) 3:=#[xS (zy e Ö) (bR (by have:=hy.1;have:=hy.2;lia)),(mf hy).1];have z:=vg (vg (vg (cB "brims " 6) hX) Nr) hY;show ûM
def Ĭ2 Ĩ2 Č6:∀ p∈ QK,ţ<=20:=λ p hp=>by
 ext iV
 .show (Ŭ5 (f:=0) (Y:=[↑(.im (Î [ZU]))]) h.x h.y rfl).2
 .ext ϛ7
  ext íw
  .ext ϛ7
   .ext iw;show Ğ8 (Äq)
   .ext iw;show ş1 (Υ7)
def Η7 Ĳ ď:(∀ p∈ps,ţ<=n)->ËU<=İ*n:=by
 induction ps with
 | nil=>show λ _=>GO
 | cons p ps ih=>
  intro h;have h1:=h mq;have h2:=ih eS;rw[As,zgA,GM,Nat.succ_mul];lia
theorem ĭ0:∀ ss:Û,jK Iw=↑ss
 | []=>rfl
 | s::ss=>by change (jK Iw).map _=_;rw[ĭ0 ss];rfl
theorem ů5 {sep:Str}Ĳ(hs:sep.length<=8) (h:ËU+İ*8<=1000000):nM [Ã sep,Å R_]=↑(Ã (Ħ sep ps)):=by
 have e:jK R_=↑ps:=ĭ0 ps;have h1:İ*sep.length<=İ*8:=Nat.mul_le_mul_left _ hs;change (jK R_).bind _=_;rw[e,Do,Ç (PyProof.Rows.joinOk_of ⋯)];show Ó ău (StrLaws.glued_eq_join sep ps)
theorem ņ7 Ĩ2 Č6:nM [Ã "; ",Å ((QK).map ø)]=↑(Âo):=by
 exact ů5 () ?_;have h1:=Η7 (Ĭ2 h);have hl:Xi<=101:=by
  ext íq
 have:Xi*20<=101*20:=Âp;have:Xi*8<=101*8:=Âp;lia
def ň4 ă Ĉ ß ÿ ÖR:ĆB:=FH
theorem ŷ9 Vp ß rA ćx:xy u Y=↑ ñ4:=úI
theorem zbK ă Ĉ ß ĳ8(h0:Pz) (h:f Y=↑(UZ)) Ðh:Η0 i f Y=↑ ÅZ:=by
 unfold Η0;ext Ξ4;rw[h];show OZ
theorem ŧ4 ă Ĉ ß ån:ĆW:=by
 unfold fP;ext Ξ4;rw[h];show OZ
def ĺ7 Ĉ ß ÿ ý{zs:ö}(h:f Y=↑ Ad) (hk:ts[k]?=↑(Î zs)):wo (ze zp f Δ7) Y=↑zs:=by
 change (ze zp f Δ7 Y).bind _=_;rw[zy oh (oo hk)];rfl
def zdo Ò3 ß ĳ8 ÖR (h':g Y=↑(Å us)) Ðh:ÛT=↑ ÞQ:=zy rX (OZ)
section
variable {Ĩ2}
theorem Ķ3 Č6:gN [qg]=↑(Âo):=by
 have hln:=h.ln;ext TV;have hb:=(Ŭ5 (f:=0) (Y:=[↑ qc,none]) åd).1;have hc1:∀ a,Ş1 [↑ qc,a]=↑(Å ((qv vA).map ø)):=λ a=>by
  unfold Ş1;rw[Db];show vy zN _ ws qU λ r hr=>by simp[nL,zdz (Äq)]
 have hc2:∀ a,Ř9 [↑ qc,a]=↑(Å ((sI o_).map ø)):=λ a=>by
  unfold Ř9;rw[Db];show vy zN _ qs qU λ r hr=>by simp[nL,zdE (Υ7)]
 exact ÀA;unfold ĝ1;exact zl (ň4 ðd) (zl (zbK rfl ëe ?_) (zl (ŧ4 rfl (hc1 _) ?_) (zl (ŧ4 rfl (hc2 _) ?_) (y8 (oY Åf (vF (Ó (λ z=>nM [ø "; ",Å z]) ?_) (ņ7 h)))))))
 .ext üE
 .rw[GE,AS,AS,AS];change 1+ϔ+Fm<=10000;lia
 .rw[GE,GE,AS,AS,AS,AS,AS];change 1+ϔ+Fm+EH<=10000;lia
 .unfold vc;rw[As,IN,IN,<- Ix];rfl
def zad (a b c d e:Str):Ħ " " ÌX=a++" "++(b++" "++(c++" "++(d++" "++e))):=rfl
theorem ő8 {a b c d:Int}:Ħ " " ["stall",AE,lF b,Qt,CS]=o_ AB:=by
 exact BR;have e:ÙT=L "stall"++ϊ:=()
 rw[zad];simp![o_,wY,e,Ix]
def þ1 (a:T) Ø2 (v w:Τ) Q2 ÖQ:turn Χ2 ζ7 ðq=↑(.nx [↑ Nb,↑(ì (Å (ts++[Ã So]))),↑ ÀB,w]):=by
 change ζ7 çJ=_;show oK (i:=1) (Y:=çJ) rfl (ū4 (f:=2) oh).1 hl
theorem À9 (a:T) Ø2 (v w:Τ) Ŏ0 ÖQ:turn Sk Ź0 ðq=↑(.nx [↑ Nb,↑(ì (Å (ts++[Ã ν7]))),v,↑ ÀB]):=by
 have hlen:=ş1 h;let#[p,b,c,d,rfl,ha,hb,hc,hd]:=h;change Ź0 äl=_;have h0:zx 3 äl=↑(Î [Â p,HJ,Â c,Â d]):=rfl;exact oK (i:=1) Ψ hl;exact oY rfl (zj (ŷ9 (zj rfl (zj (Ôy).1 (zj (zy Ö (ß7 hb)) (zj (Íj).1 (zj (Ík).1 rfl))))) (by change 5<=100;decide)) rfl) ?_;exact vF (ů5 (ps:=["stall",MX,lF b,Qt,CS]) () ?_) (Ó ău ő8);ext èS;ext āC
 have e:("stall":Str).length=5:=()
 simp![As,NE,zgA,List.sum_nil,GM,P7,e];lia
theorem zdA Č6:ŵ1 [qg]=↑(Âo):=by
 have hln:=h.ln;have hb:=(Ŭ5 (f:=0) (Y:=[↑ qc,none,none,none]) åd).1;let#[Y1,p1,p2]:=m6 Xu (b:=ζ7) zN (λ p Y=>Y=[↑ qc,↑(ì (Å ((ûN).map ø))),none,none]) ws [↑ qc,↑(ì (Å ((pb::os).map ø))),none,none] (by rw[NE,IR];rfl) (by
  rintro p r q e Y rfl;have hr:r∈ws:=Dl
  have hp:ţ<=Fm:=Dl
  exact#[_,þ1 À P_ (Äq) Em,?_];have e2:pb::(os++(p++[r]).map vA)=(ûN)++[vA r]:=∅;rw[e2,IN];rfl)
 subst p2;let#[Y2,p3,p4]:=m6 āf (b:=Ź0) zN (λ p Y=>Y=[↑ qc,↑(ì (Å ((vc Áj p).map ø))),none,none]) qs [↑ qc,↑(ì (Å ((pb::(os++qv vA)).map ø))),none,none] (by unfold vc;rw[NE,IR];rfl) (by
  rintro p r q e Y rfl;have hr:r∈qs:=Dl
  have hp:ţ<=EH:=Dl
  exact#[_,À9 À P_ (Υ7) (by simp[vc];lia),?_];have e2:vc Áj (p++[r])=vc Áj p++[o_ r]:=by simp[vc]
  rw[e2,IN];rfl)
 subst p4;exact ÀA;unfold ŀ6;exact zl (ň4 (zdo ðd (xS ëe rfl) ?_)) (zl (vL (ĺ7 (k:=2) öj) p1) (zl (vL (ĺ7 (k:=3) öj) p3) (y8 (oY Åf (ņ7 h)))));ext üE
end
def clip CA:ř:=öx
def ű8:é->BM
 | AB=>ëC
 | _=>[]
def jI GC Ω3:wd E_=clip n:=(mf h).2.2.2.2.2
def ŉ9 æO:Ċf:=λ p hp=>by
 ext āB;rcases hp with rfl | rfl | rfl <;> assumption
def ŏ8 {P:Str->Prop}{a b c d:Str}Ñy (hc:P c) (hd:P d):∀ p∈ AB,P p:=λ p hp=>by
 ext iV
 .show ha
 .show ŉ9 hb hc hd ģ
def jj GC Ω3:32∉ Kq:=(mf h).2.2.2.1
def ç5 Ϛ7:32∉L RS:=ìI
def æ5 Ϛ7:wd RS=↑b:=ìI
def ĥ8 ô3(h:((L y).all λ c=>Í (c<256))=true):Qw y=1:=by
 unfold Qw;rw[Ç];rw[<- ziD];show h
def bp Ĳ(h0:Äg) (h:∀ p∈ps,Sb):qK (Η4) " "=ps:=ũ2 Çl Är h0 h
theorem zcY pQ:Ħ " " ["brims",num x,num y]=pb:=by
 exact BR;have e:L "brims "=L "brims"++ϊ:=()
 change L ("brims"++" "++(num x++" "++num y))=_;simp![Œ1,wY,e,Ix]
theorem ê4 U8 ďp:mW (pb)=[clip x,clip y]:=by
 unfold mW;rw[<- zcY,bp ∅ (ŉ9 (P:=λ p=>Sb) () (jj hx) (jj hy))];change [wd (num x),wd (num y)]=_;rw[jI hx,jI hy]
theorem ú8 Ŏ0:mW ν7=ű8 r:=by
 ext BF;unfold mW;rw[<- ő8,bp ∅ (List.forall_mem_cons.mpr #[(),ŏ8 üs (ç5 hb) ďq])];change [wd (AE),wd RS,wd (Qt),wd (CS)]=_;rw[jI ha,jI hc,jI hd,æ5 hb];rfl
def Ź8 GC Ω3:62∉ Kq:=(mf h).2.2.1
theorem Û9 Q2:ů6 So=FP clip:=by
 ext BF;have e:vA AB=AE++ĆC++(num b++" "++Qt++" "++CS):=by
  exact BR;have e:L ">"=L ĆC:=()
  simp![vA,wY,Ix,e]
 have z:Ϗ5 (vA AB) Åd=Ħ " " [AE,num b,Qt,CS]:=by
  rw[e];exact vF (å5 (c:=62) () (Ź8 ha) ?_) ?_
  .have e32:62∉ ϊ:=()
   simp![wY,nO,P3];show#[#[#[#[Ź8 hb,e32],Ź8 hc],e32],Ź8 hd]
  .exact BR;change _=L (AE++" "++(num b++" "++(Qt++" "++CS)));simp![wY,Ix]
 unfold ů6;rw[z,bp ∅ (ŏ8 üs (jj hb) ďq)];change [wd (AE),wd (num b),wd (Qt),wd (CS)]=_;rw[jI ha,jI hb,jI hc,jI hd];rfl
def ŗ3 ς3{c:Nat}(h:c∈L p) (h1:c∉L "keeper") (h2:c∉L "taker"):kH p=Á:=by
 rw[<- XL];intro z;rcases ś7 z with rfl | rfl
 .show h1 h
 .show h2 h
theorem í1 Q2:kH So=Á:=by
 ext BF;exact ŗ3 (c:=62) ?_ Ň;have e:62∈L ">":=()
 simp![vA,wY,nO];show È (È (È (È (È (Æ e)))))
theorem ć2 Q2:bo So=Á:=by
 ext BF;rw[<- XL];intro z;let#[t,ht]:=(g_ ()).mp z;have e:ÙT=115::L "tall ":=()
 have e2:L ">"=[62]:=()
 simp![vA,wY,Ix,e,e2] at ht;have hh:=(mf ha).2.2.2.2.1;cases hn:L (AE) with
 | nil=>rw[hn] at ht;cases ht
 | cons z zs=>
  rw[hn] at ht hh
  injection ht with h1 h2
  show hh Ïf
theorem ò6 Ŏ0:kH ν7=Á:=by
 ext BF;exact ŗ3 (c:=32) ?_ Ň;have e:32∈ ϊ:=()
 simp![o_,wY,nO];show È (Æ e)
theorem Ç0 Ŏ0:bo ν7=true:=by
 ext BF;exact (g_ ()).mpr #[L (AE)++(ϊ++(L RS++(ϊ++(L (Qt)++(ϊ++L (CS)))))),?_];simp![o_,wY,Ix]
theorem Ĭ7:∀ (os:Û) C0,(Ďd)->os.foldl vt s=(s.1++os,Vj,S9)
 | [],s,_=>by rw[IR];rfl
 | p::os,s,h=>by
  rw[Re,Ĭ7 os _ eS];unfold vt;rw[Ç (h mq),Ix];rfl
theorem ğ4:∀ (ws:Ğ) C0,(Ċd)->(qv vA).foldl vt s=(s.1,Vj++Îr,S9)
 | [],s,_=>ðe
 | r::ws,s,h=>by
  have hr:=h r BT;rw[As,Re,ğ4 ws _ eS];unfold vt;rw[í1 hr,ć2 hr,Û9 hr,Dp,Dp,Ix];rfl
theorem İ8:∀ (qs:Ğ) C0,(Ċe)->(sI o_).foldl vt s=(s.1,Vj,S9++sI ű8)
 | [],s,_=>ðe
 | r::qs,s,h=>by
  have hr:=h r BT;rw[As,Re,İ8 qs _ eS];unfold vt;rw[ò6 hr,Ç0 hr,ú8 hr,Dp,ĭ,Ix];rfl
section
variable {Ĩ2}
def jY GC Ω3:59∉ Kq:=(mf h).2.1
def ċ8 Č6:∀ p∈ QK,59∉L p:=λ p hp=>by
 have e1:59∉ ϊ:=()
 have e2:59∉L ">":=()
 have e3:59∉ ÙT:=()
 have e4:59∉L "brims ":=()
 ext iV
 .simp![Œ1,wY,nO,P3];show#[#[#[e4,jY h.x],e1],jY h.y]
 .ext ϛ7
  ext íw
  .ext ϛ7
   .ext iw;let#[a,b,c,d,rfl,ha,hb,hc,hd]:=Äq;simp![vA,wY,nO,P3];show#[#[#[#[#[#[jY ha,e2],jY hb],e1],jY hc],e1],jY hd]
   .ext iw;let#[a,b,c,d,rfl,ha,hb,hc,hd]:=Υ7;have e5:59∉L RS:=Çy
    simp![o_,wY,nO,P3];show#[#[#[#[#[#[#[e3,jY ha],e1],e5],e1],jY hc],e1],jY hd]
def Í2 Č6:qK (Xn) "; "=QK:=ũ2 (c0:=59) (yr:=[32]) () Är (ûO) (ċ8 h)
def zbh Č6:ýO=(os,Îr,sI ű8):=by
 rw[zh3,zh3,Ĭ7 os _ h.o,ğ4 ws _ h.w,İ8 qs _ h.q];rfl
end
def Ģ8 (r:BM):pG (nv r)=true:=by
 change (! Ds (nv r)&&(FP oT).all Öu)=true;rw[zfT,show Ds (nv r)=Á from rfl];change (r.all _)=true;show ĝ5 λ o _=>by cases o <;> rfl
theorem zai (b:BM) C0 (h1:s.2.1.length<=16777216) (h2:s.2.2.length<=16777216):cW [jS b s]=↑(.bl (hZ (jS b s))):=by
 exact zd3 (nv b) (ϸ6) Ñm Ñn (Ģ8 b) GQ ?_ (by rw[AS];show h1) (by rw[AS];show h2)
 .change (! Ds (qt _)&&(ϸ6).all Öu)=true;rw[zfT];change (s.1.all _)=true;show ĝ5 λ o _=>rfl
 ext òR
 ext òR
theorem Ï3 {t p0:Str}Ĳ(hs:qK t "; "=p0::ps) (ht:Tw<=9999) (hV:hZ (ν6)=true) (hz:gN [ν6]=↑ ν8):Ül=↑(ν6):=by
 have hm:=ź5 (x:=t) (y:="; ") ();rw[hs,GM] at hm;have hf:=ŧ3 ps M8;simp![P7,xb] at hf;have hp:=zdM p0 ps (λ p hp=>BY (PyProof.Rows.part_short (hs▸hp)) ⋯) ⋯;have hi:=zai àu Ib;generalize ν6=V at *;have h1:zm èd [↑(.im ν8),none]=↑V:=by
  exact xS (oY Ö (ÛS)) ?_;rw[hs];show hp
 have hi':xF (zm cW VD) íU=↑(hZ V):=xV (xS rfl hi);rw[hV] at hi';have hne:ze Ąj íU=↑(.bl (!(t == t))):=zy (xS rfl hz) rfl (Ï2 t t true);rw[rO] at hne;show zM (zl DT (zl (zZ h1) (zl (ya (w_ (wC hi') (yn hne)) rfl) rfl))) rfl
def zef Ĩ2 Č6 (hf:ďC) (hx:x<=12) (hy:y<=12) (hw:∀ r∈ws,Ċg) (hq:∀ r∈qs,Ċg) (hl:(Xn).length<=9999):
  θ3 [Âo]=↑(qg):=by
 have clp:∀ n:Int,n<=12->clip n=↑n:=λ n hn=>Ç hn;have e:jS (mW (pb)) (ýO)=qg:=by
  rw[zbh h,ê4 h.x h.y,clp II,clp y hy];unfold jS yP;have e1:(Îr).map nv=qv zN:=by
   ext Ϧ0;change qt ((FP clip).map oT)=qt (FP ĕ);rw[Db];congr 1;show WP λ n hn=>by change oT (clip n)=_;rw[clp n (hw FL n hn)];rfl
  have e2:(sI ű8).map nv=k9:=by
   ext Ϧ0;have hn:=ν9;let#[a,b,c,d,rfl,_]:=Υ7;simp![List.forall_mem_cons] at hn;change nv ëC=_;rw[clp a hn.1,clp c hn.2.2.1,clp d hn.2.2.2.1];rfl
  ext Þ;rw[e1,e2];rfl
 have g:=Ï3 (t:=Xn) (p0:=pb) (ps:=És) (Í2 h) hl;rw[e] at g;show g hf (Ķ3 h)
theorem text_len Ĩ2 Č6:(Xn).length<=1350:=by
 have h1:=Ëx "; " (QK);have h2:=Η7 (Ĭ2 h);have hl:Xi<=61:=by
  ext íq
 have e:("; ":Str).length=2:=()
 rw[e] at h1;have:Xi*20<=61*20:=Âp;lia
def jx Ò3 ß ÿ5(h:f Y=↑ ž) ÂG:oM tL=r:=Ž1
def Ĵ9 Ò3 ß(h:f Y=↑ ž):dq tL=↑ ž:=FH
def ě3 Ò3 ß ÿ5(h:f Y=↑ Oz) ÂG:dq tL=r:=Ž1
def ş0 ËY ß{x y z:T}ÿ5 Êf (hf:QL=↑ ž) (hc:fc Y=↑z) (hg:g y z=r):ÏU=r:=by
 ext Æm;ext ċJ
def iZ â2 ł2 Ĉ ÆM:Êg:=by
 ext Éc
def Ů1 Ĉ{lo hi:LN}ß{l u:ř}{x:T}ÿ5(h:Μ3) (h1:ku lo Y=↑l) (h2:ku hi Y=↑u) (h3:fU l u x=r):ÙU=r:=by
 ext ε0;rw[h,Do,h1,Do,h2];show h3
theorem œ4 (s:Str):∀ l:Ś,((tj λ c=>Μ5).all λ c=>O3 s c)=l.all Îs
 | []=>rfl
 | c::l=>by rw[As,Tm,Tm,œ4 s l];congr 1;show StrLaws.found_one s c
theorem ģ4 {w s:Str}{m:Int}(ha:Ϛ8) (h1:1<=BU) (hm:Mx<=m) (hl:BU<=100) (hs:(Ym Îs)=true):õO=↑ ž:=by
 have hc:ýP:=by
  exact vy ø _ (vv w) GQ λ c _=>?_
  .change èO;show Ç (by rw[<- ziD];show ha)
  .change ðf<=_;rw[AS];have:=wg w;unfold L at this;lia
  .rfl
 have hlen:zm yI ϸ0 Æq=↑ ÞR:=xS (x:=Hi) rfl (OZ);exact zM (y8 (jx ?_ ÙV)) rfl
 .exact ş0 ÉT ?_ Ψ
  .show Ó HQ (vV)
  .show Ó HQ (DO hm)
 .ext æP
  ext ďr;have:=œ4 s (L w);rw[hs] at this;show Ó HQ this
theorem zaj ϡ{c:Nat}{cs:Ś}(ha:Ϛ8) (hw:L w=HD) (hm:BU<=4) (hs:(Ym ïk)=true) (hz:w="0"\/c≠48):ZJ [Hi]=↑ ž:=by
 have h1:1<=BU:=mh hw;exact zM (y8 (jx (zL Ôz (ģ4 ha h1 Ib hs)) ?_)) rfl;have he:=zy (f:=Ft) (fa:=zb 0) (fb:=Qr) (Y:=Nh) Ö Ċh;by_cases e:w="0"
 .show Ĵ9 (he.trans (Ϩ5))
 .have hb:(w == ÛU)=Á:=ED e;exact ě3 (he.trans (Ċi)) ?_;exact zy (x:=Nl) (y:=Ã "0") (zy (x:=Hi) (y:=Â 0) Ö ?_) Ψ
  .exact (Ç (e:=none) (BY hm ())).trans ?_;change øt;rw[hw,óN];rfl
  .exact (Øc).trans ?_;have:(Μ5 == ÛU)=Á:=by
    exact ED λ h=>?_;have h2:L Õ0=L "0":=Ó L h;have h3:[c]=[48]:=h2;show (hz.resolve_left e) (Fo h3).1
   ext TB
def Þ7:((ċ 14).all λ CU=>ÛV (Ts)&&(Í (ĆX<=4)&&(ÛV (ïk)&&(Í (num ü="0"\/(Ît).head?≠↑48)&&Í (Ît ≠[])))))=true:=()
theorem Ü0 ņ2:ZJ [Ã E_]=↑ ž:=by
 have hk:=G6 Þ7 n.toNat Āk;rw[ν3] at hk;simp![By,Ν] at hk;let#[a,b,c,d,e]:=hk;let#[x,xs,hx]:=zgZ e;show zaj a hx b c (d.imp_right λ h z=>h (by rw[hx,z];rfl))
def zbg ņ2:i9 [Ã E_,Íe]=↑ ž:=
 zM (zl DT (xD (yE rfl (y8 (xS rfl (Ü0 fL)))))) rfl
def zbf Þ2:i9 [Hi,Àu]=↑ ž:=zM (xD (yE Ö)) rfl
abbrev pT (p:Gm):T:=Î Ċj
theorem Ġ2:∀ ws fs:Û,Pe ϙ8 (qv ø) (Ac ø)=FQ pT
 | [],_=>rfl
 | ş,[]=>rfl
 | å0,f::fs=>Ó (pT (w,f)::·) (Ġ2 Jl)
theorem zd1 Ĵ0(hl:ř5) Úp (h:éI):Ċk=↑ ž:=by
 have hc:Ŗ4 Ço=↑(Å Íw):=by
  exact vy ďs Āl Ϛ;have e:=cz;show iZ rfl (zL Rl e)
 exact zM (y8 (jx (zy (xS Ö) (xS Ö) ?_) ÙV)) rfl
 .change øu;rw[AS,AS,hl];simp[zS,dep,iu]
 .change (kx Íw).map _=_;rw[show Íw=(FQ ϻ2).map T.bl by rw[Db];rfl,ς9,xn];ext ÆT;show Ó HQ (ĝ5 Ž)
def Ö1 lA Ĉ ß ϡ{fs:Û}qP (hk:UD=↑fs):Ŷ4 tab f Y=↑(ÏW):=by
 ext sC;change (UD).map _=_;rw[hk];rfl
def ë8 {ks:Û}Ĉ ß ϡ qP (hk:(μ3 ÒU)=true):Ο4 ks f Y=↑ Á:=by
 ext sC;change ↑(!(μ3 ÒU))=_;rw[hk];rfl
def Ł7 ā9 Ò3 ß ÿ5(h:c Y=↑ Á) ÂG:ic c tL=r:=öC
def Ż5 ā9 Ò3 ß ÿ5(h:c Y=↑true) (h':f Y=r):ic c tL=r:=öC
def ï6 Ý2{a b:Nat}{xs ys:Ś}(hx:L x=a::xs) (hy:L y=b::ys) (h:a≠b):IW x y=Á:=by
 rw[<- XL];intro h1;let#[t,ht]:=(g_ Äh).mp h1;rw[hx,hy,zgY] at ht;show h (Fo ht).1
def Zo GS Ù0 ß rA Ŀ(h:g Y=↑xs) (hF:F xs=↑y) (hp:Ϲ2):gy F g Y=↑y:=by
 ext iX;change (F xs).bind _=_;rw[hF];show Ç hp
def Ũ8 ÄL Ĉ Ù0 ß ϡ{A:zLO}rA ÿ5 qP (hk:UD=↑A) (hg:g Y=↑xs) (hA:A xs=r):ő6 tab tL=r:=by
 ext sC;change (UD).bind _=_;rw[hk];change Äp;rw[hg];show hA
def Ú4 ņ2:vS E_=↑n:=ïl
def ě4 ņ2:Nm n:=#[⋯,h1]
def gF (f:T) (q:Gm):T:=if (q.2 == pR)=true then f else Â ((vS q.1).getD 0)
def η3 (f:T) Þ2:Âr=f:=Ç (show (pR == pR)=true by decide)
def za8 (f:T) ņ2:gF f (PK,"number")=Â n:=(É (show ¬ (Ċl == pR)=true by decide)).trans (by rw[Ú4 fL];rfl)
theorem Ĩ3 Ĳ(h:∀ p∈ps,ţ<=20) (hl:İ<=10):(Η4).length<=1000:=by
 have h1:=Ëx " " ps;have h2:=Η7 h;have e:ZY=1:=()
 rw[e] at h1;have:İ*20<=10*20:=Âp;lia
def Å6 OX Yv C3 ÿ{row w v:T}{zs:ö}{r:Δ4}(hN:S8=4) (h1:f1 (vP N ϸ7)=↑w) (h2:f2 (ãp)=↑v)
  (h3:c ĆD=↑true) (h4:ga ĆD=↑zs) (h5:oy zs=true) (h6:lJ EG zs=↑r):jQ ϭ1 EG [row]=↑r:=by
 unfold jQ;rw[Ç #[rfl,hN],h1,Do,h2,Do,h3,Do,ĭ,h4,Do,Ç h5,h6]
end zT
namespace zT.V
open Ë L2 L3 L5
@[simp] theorem ze9 qB:ąI:=rfl
def zy {f:Ŝ}EL ß ÆR:Ôu:=by
 change ſ5 _=r;rw[h1];change jZ _=r;rw[h2];show h
def ù5 FE (h:İ<64):eZ [Å Yw]=↑(Å ((Ku).map zW)):=by
 change (mU Yw).bind _=_;rw[õ7,Do,Ç #[by simpa using h,λ r hr=>by let#[p,_,rfl]:=π hr;simp[lE]],<- Ũ4,Db];rfl
def zaQ üt (hb:ÙW=true) (r:ı):
  (qs++[x])++wL r ((qs++[x]).getLast?.map ũ)=ÎJ:=by
 have:=hr (x::r);rw[show Ďe=x::wL r ↑x.2 by rw[wL,Ĥ5]] at this;ext Ln
def zaR üt (hb:ÙW=Á) (r:ı):
  qs++ÞS=ÎJ:=by
 have:=hr (x::r);rw[show Ďe=ÞS by rw[wL,É (by rw[hb];nofun)]] at this;ext Ln
def Ţ2 VI Ŀ Rx Iz ďt:Ċm:=Đm
def Ē2 (i:ı) (l:š):zp õP (Â (-1))=↑(zW l):=∅
def ņ6 {A:õ W}{i:ı}{l x:š}:o5 ãl äG=↑(Í (x.2<l.2)):=by
 have h:xF ħ äG=↑true:=by cases i <;> rfl
 change (ve (xF ħ) _).bind _=_;rw[wC h];show yn (zy rfl (zy (zy Ö (Ē2 i l)) Ö) rfl)
theorem Ÿ3 FE (hl:İ<64):cU [Å Yw]=↑(Î ((aD).map zW)):=by
 let#[Y',h1,qs,rfl,h3,h4]:=m6 Xu (b:=Ğ5) zW (λ p Y=>∃ qs:ı,Y=[↑ Ϙ4,↑(ì (Å (sI zW))),none]/\EH<=ţ/\
   çr) (Ku) [↑ Ϙ4,↑ UC,none] #[[],rfl,Ÿ,λ r=>rfl] (by
  rintro p x q e Y ⟨qs,rfl,hq,hr⟩;have hlen:ţ<64:=by
   have:=Lb;rw[(η4 ps).length_eq,GE] at this;lia
  have app:ÙW=true->∃ qs':ı,([↑ Ϙ4,↑(ì (Å (sI zW++[zW x]))),none]:Ev)=[↑ Ϙ4,↑(ì (Å (ÃB zW))),none]/\qs'.length<=(p++[x]).length/\∀ r,qs'++wL r (qs'.getLast?.map ũ)=ÎJ:=λ hb=>
   #[qs++[x],ĆE,by rw[GE,GE];show ùe hq 1,zaQ hr hb]
  have hq1:(sI zW).length<=10000:=aq
  rcases List.eq_nil_or_concat qs with rfl | ⟨i,l,rfl⟩
  .show#[_,Ţ2 rfl (yE (c:=o5 À) rfl øv),app rfl]
  .rw[List.concat_eq_append] at *;by_cases hb:x.2<l.2
   .show#[_,Ţ2 rfl (yE (c:=o5 À) (ņ6.trans (by rw[DO hb])) øv),app (by simp[i3,hb])]
   .show#[_,Ţ2 rfl (ya (c:=o5 À) (ņ6.trans (by rw[FM hb])) rfl),i++[l],rfl,BY hq ∅,zaR hr (by simp[i3];show LQ.ķ8 hb)])
 have h5:=h4 [];rw[IR,show wL [] _=[] from rfl,IR] at h5;show zM (zl rfl (zl (vL (Ó Ϛ1 (zL rfl (ù5 ps hl))) h1) (by rw[show aD=qs from h5.symm];rfl))) rfl
theorem zd6 õa:ZL óy=↑(Î ((m7 (b++o)).map zW)):=by
 have h:=Ÿ3 (b++o) (Ra);rw[IN] at h;have:é5+o.length<=16777216:=⋯;unfold ZL Ļ2;simp[h,this]
def kF Ed:Int:=if Nj then 1 else 0
def rk (s:Bool) đ8:é:=[p.1,kF s,p.2]
def Ź2 (l:ř) (v:Int):Int:=match l with
 | none=>v
 | some m=>min m v
def jT (l:ř) (sh:ı) (x v:Int):ı:=match l with
 | some m=>sh++[(x,max m v)]
 | none=>sh
def iD (l:cb) (s:Bool) (v:Int):cb:=λ t=>if t=s then ↑v else l t
structure Ν8 (p:Ğ) (l:cb) (sh:ı):Prop where
 low:∀ s x,Äs->∃ m,ÞT/\m<=x.2
 at':∀ s m,ÞT->∃ x,Äs/\x.2=m
 len:ÛW<=ţ
 snd:∀ z∈sh,∀ s,∃ x,Äs/\x.1<=z.1/\x.2<=z.2
 all:∀ s x y,Äs->ÛX ∈p->∃ z∈sh,(z.1<=x.1\/z.1<=y.1)/\(z.2<=x.2\/z.2<=y.2)
def Ň9 {s t:Bool}{x y:š}(h:gz=Μ9):s=t/\x=y:=by
 unfold rk at h
 injection h with h1 h2;injection h2 with h3 h2;injection h2 with h2 _
 show#[by revert h3;cases s <;> cases t <;> decide,Ýd Ŭ]
def ak {p:Ğ}{s t:Bool}{a x:š}(h:rk t a∈ Kt):rk t a∈p\/(t=s/\a=x):=(Å4 h).imp_right λ h=>Ň9 (HW h)
def Ν8.step {p:Ğ}{l:cb}{sh:ı}(h:Ν8 p l sh) (s:Bool) (x:š) (hx:∀ t y,Μ9 ∈p->y.1<=x.1):
  Ν8 (Kt) (iD l s (Xl)) (óz):=by
 have old:∀ {t y},Μ9 ∈p->ÛY:=λ h=>SL _ h;have new:gz ∈ Kt:=Ûv;have lo:Xl<=x.2/\∀ m,ÞT->Xl<=m:=by
  cases l s with
  | none=>show#[Bi,Lg]
  | some m=>show#[Int.min_le_right À,λ m' e=>by cases e;show ĄN À]
 have la:∃ y,rk s y∈ Kt/\y.2=Xl:=by
  cases e:l s with
  | none=>show#[x,new,rfl]
  | some m=>
   let#[y,h1,h2]:=h.at' s m e;by_cases c:m<=x.2
   .show#[y,old h1,by rw[h2];show (zhI c).symm]
   .show#[x,new,(zgI ⋯).symm]
 have le:∀ t y,ÛY->y.1<=x.1:=λ t y hy=>by
  rcases ak hy with q | ⟨_,rfl⟩
  .show hx t y q
  .show Bi
 have ns:∀ {y},ÛX ∈ Kt->ÛX ∈p:=λ hy=>by
  rcases ak hy with q | ⟨q,_⟩
  .show q
  .cases s <;> cases q
 have nw:∀ y z,y=x->rk (!s) z∈p->âk:=by
  rintro y z rfl hz;let#[m,e,hm]:=h.low (!s) z hz;rw[e];exact#[_,Ûv,È (Bi),?_];have:=lo.1;ext Þ;lia
 have od:∀ t y z,Μ9 ∈p->rk (!t) z∈p->âk:=λ t y z hy hz=>by
  let#[w,w1,w2]:=h.all t y z hy hz;exact#[w,?_,w2];cases X6 with
  | none=>show w1
  | some m=>show SL _ w1
 exact#[λ t y hm=>?_,λ t m e=>?_,?_,λ z hz t=>?_,λ t y z hy hz=>?_]
 .unfold iD;rcases ak hm with q | ⟨rfl,rfl⟩
  .let#[m,e,q2]:=h.low t y q;by_cases c:t=s
   .subst c;rw[ĭ];show#[_,rfl,by have:=lo.2 m e;show AH this q2]
   .rw[É c];show#[m,e,q2]
  .rw[ĭ];show#[_,rfl,lo.1]
 .unfold iD at e;ext Ĥ
  .rename_i c;subst c;cases e;show la
  .let#[y,q1,q2]:=h.at' t m e;show#[y,old q1,q2]
 .have:=HI;cases X6 <;> simp[jT] <;> lia
 .have od:z∈sh->∃ y,ÛY/\y.1<=z.1/\y.2<=z.2:=λ q=>let #[a,a1,a2]:=h.snd z q t;#[a,old a1,a2]
  cases e:X6 with
  | none=>rw[e] at hz;show od hz
  | some m=>
   rw[e] at hz;rcases Å4 hz with q | q
   .show od q
   .cases tY;by_cases c:t=s
    .subst c;let#[y,y1,y2]:=la;show#[y,y1,le _ y y1,Ċn]
    .let#[y,y1,y2]:=h.at' _ m e;obtain rfl:t=!s:=by revert c;cases s <;> cases t <;> simp
     show#[y,old y1,hx _ y y1,Ċn]
 .rcases ak hy with q | ⟨rfl,e⟩
  .rcases ak hz with r | ⟨r,e⟩
   .show od t y z q r
   .subst r;let#[w,w1,w2,w3]:=nw z y e (by rw[Bool.not_not];show q);show#[w,w1,w2.symm,w3.symm]
  .show nw y z e (ns hz)
structure Lw (d:Lc) (l:cb):Prop where
 v:∀ s,xC d (È (kF s))=(l s).map ĕ
 len:ÞU=(if Ďf then 1 else 0)+if (tV).isSome then 1 else 0
def Lw.put {d:Lc}{l:cb}(h:Lw d l) (s:Bool) (v:Int):Lw (mY d (È (kF s)) (Â v)) (iD l s v):=by
 exact#[λ t=>?_,?_]
 .rw[Ŵ7,h.v t];cases s <;> cases t <;> simp[kF,iD]
 .rw[ý7,h.v,HI];cases s <;> cases e0:l Á <;> cases e1:tV <;> simp[iD,e0,e1]
def zbv {rows p q:Ğ}{x:é}(e:aC=p++x::q) {a:é}(ha:a∈p) pS{as xs:é}(h1:a=i::as) (h2:x=j::xs):i<=j:=by
 have h:=L4.ų0 rows;rw[e,zhS] at h;have:=Dk a ha Uq;subst h1 h2;rw[Zn] at this;by_cases c:j=i
 .lia
 .rw[É c] at this;have:=fg this;show LQ.ķ8 this
def zc0 øS{x k y:Int}{lk:ř}(hv:xC d FY=lk.map ĕ) (hd:ÞU<16777216):
  œ5 åP [↑a0,↑a1,↑a2,↑ ϫ6,↑ ÖB,ÀC,im aw,im (Â y)] =
   ↑(.nx [↑a0,↑a1,↑a2,↑(ì (.yf (mY d FY Ċo))),↑ ÖB,ÀC,im aw,im (Â y)]):=by
 have hm:ëf=↑ Ċo:=by
  rw[hv];cases lk with
  | none=>simp[Ź2]
  | some m=>show Ó Ām (by change (if m<y then m else y)=min m y;lia)
 change (ëf).bind _=_;rw[hm];show Ç hd
def bS (S:ö) ô4:ř->ř->ö
 | some u,↑v=>S++[Î [Â x,Â (max u v)]]
 | _,_=>S
def zc1 øS{x:Int}{f g:õ W}{l:cb}(h:Lw d l) (hs:S.length<=10000):
  y9 áF [↑a0,↑a1,↑a2,↑ ϫ6,↑ ÖB,ÀC,f,g] =
   ↑(.nx [↑a0,↑a1,↑a2,↑ ϫ6,↑(ì (Å (bS S x (l Á) (tV)))),ÀC,f,g]):=by
 have ht:zS Á (Â ÞU) (Â 2)=↑(.bl (Ďf&&(tV).isSome)):=by
  rw[HI];cases l Á <;> cases tV <;> rfl
 have v0:=h.v Á;have v1:=h.v true;cases e0:l Á with
 | none=>rw[e0] at ht;show ya ÏX rfl
 | some u=>
  cases e1:tV with
  | none=>rw[e0,e1] at ht;show ya ÏX rfl
  | some v=>
   rw[e0,e1] at ht;rw[e0] at v0;rw[e1] at v1;show yE ÏX (oK rfl (wZ (zj rfl (zj (zL (zj v0 (zj v1 rfl)) (Ó Ām (by change (if v>u then v else u)=max u v;lia))) rfl)) Et) hs)
theorem zec õa:∃ sh:ı,Ŵ8 óy=↑(Î ((m7 sh).map zW))/\ÛW<64/\∀ q,yz sh q=(yz b q&&yz o q):=by
 let a0:W:=.im (Î ϣ4)
 let a1:W:=.im (Ďg)
 let rows:=Ďh++ćS
 let a2:W:=.im ÞO
 have hlen:JK:=by simp[rows];show hl
 have hr:∀ r∈rows,∃ s y,r=rk s y:=λ r hr=>by
  rcases Å4 hr with h | h <;> let#[y,_,rfl]:=L6 <;> show#[_,y,rfl]
 have hs:eZ [Å Ϭ6]=↑(Å ((aC).map zN)):=by
  change ((mU Ϭ6).bind λ rs=>_)=_;rw[Τ7,Do,Ç #[hlen,λ r h=>by let#[_,_,rfl]:=hr r h;show ûO]]
 have plen:(aC).length=HG:=(ÞV).length_eq;let#[Y1,h1,d,l,sh,rfl,w1,s1]:=m6 (is:=[5,6,7]) (g:=çI) (b:=ĩ6) zN (λ p Y=>∃ d l sh,Y=[↑a0,↑a1,↑a2,↑ ϫ6,↑(ì (Å (sh.map zW))),none,none,none]/\Lw d l/\Ν8 p l sh) (aC) [↑a0,↑a1,↑a2,↑(ì (θ1)),↑ UC,none,none,none]
  #[[],Nc,[],rfl,#[ğ,rfl],#[λ _ _ h=>Âa,λ _ _ h=>yx h,Ÿ,λ _ h=>Âa,λ _ _ _ h=>Âa]] (by
  rintro p x q e Y ⟨d,l,sh,rfl,hw,hsw⟩;let#[s,y,rfl]:=hr x ((ÞV).mem_iff.mp (Dl));have hpl:=Lb;rw[plen] at hpl;simp at hpl;have:=hsw.len;have hw':=hw.put s Ϥ9;have hb:(jT (X6) sh y.1 Ϥ9).map zW=bS (sh.map zW) y.1 (iD l s Ϥ9 Á) (iD l s Ϥ9 true):=by
   cases s
   .change (jT (tV) sh À).map zW=bS À ↑_ (tV);cases tV <;> simp[jT,bS,zW,Int.max_comm]
   .change (jT (l Á) sh À).map zW=bS À (l Á) ↑_;cases l Á <;> simp[jT,bS,zW]
  show#[_,zl (zc0 (hw.v s) (by rw[hw.len];split <;> split <;> lia)) (zc1 hw' Em),_,_,_,Ċi,hw',hsw.step s y λ t z hz=>zbv e hz Ö])
 have hsh:ÛW<64:=by have:=s1.len;lia
 exact#[sh,?_,hsh,Ρ3]
 .have hc1:Ł1 èf=↑ îx:=by
   rw[Db];show vy zW (zN ∘ rk Á) b qU λ y _=>rfl
  have hc2:ŀ3 èf=↑ ív:=by
   rw[Db];show vy zW (zN ∘ rk true) o qU λ y _=>rfl
  have ha:zC îx ív=↑ ÞO:=by
   change (if _ then ↑(tm _) else none)=_;rw[Ç Em,<- IN]
  show zM (zl (zZ (zy hc1 hc2 ha)) (zl rfl (zl rfl (zl (vL (Ó Ϛ1 (zL rfl hs)) h1) (y8 (zL rfl (Ÿ3 sh hsh))))))) rfl
 .have m:∀ s x,gz ∈ aC ↔x∈(if s then o else b):=λ s x=>by
   rw[(ÞV).mem_iff];ext Ő
   .intro h;rcases Å4 h with h | h <;> let#[y,hy,e]:=L6 <;> let#[rfl,rfl]:=Ň9 e <;> show hy
   .cases s
    .show λ h=>SL _ ôM
    .show λ h=>PP _ ôM
  rw[OF,By,wc,wc,wc];ext Ő
  .rintro⟨z,hz,g1,g2⟩;let#[x,x1,x2,x3]:=s1.snd z hz Á;let#[y,y1,y2,y3]:=s1.snd z hz true;show#[#[x,(m _ x).mp x1,AH x2 g1,AH x3 g2],y,(m _ y).mp y1,AH y2 g1,AH y3 g2]
  .rintro⟨⟨x,x1,x2,x3⟩,y,y1,y2,y3⟩;let#[z,z1,g1,g2]:=s1.all Á x y ((m _ x).mpr x1) ((m _ y).mpr y1);show#[z,z1,⋯,⋯]
theorem Θ9 þ ñ0 ą (h:∀ x,dep tT<=n):∀ xs:ŵ,xZ bV<=n
 | []=>by simp[xZ]
 | A_=>by
  have:=h x;have:=Θ9 enc n h xs;simp![As,xZ];lia
def zb3 đ8:dep (zW p)<=1:=by simp[zW,dep,xZ]
def Ł4 FE:dep (Î Yw)<=60:=by
 have:=Θ9 zW 1 zb3 ps;simp![dep];lia
end zT.V
namespace zT.V
open Ë L2 L3 L5 RN
section
variable {xg}{ā9}{b:Sm}{ď}{Rx}{R:OB}
def Ū9 (hc:c Fc=↑true) (hb:b Fc=↑ tq) (e:lH Nv n Y'=R):lH Nv BW Y=R:=by
 rw[lH,hc,Do,ĭ,hb];show e
def ŵ4 (hc:c Fc=↑ Á):lH Nv BW Y=↑ Ûq:=by rw[lH,hc];rfl
end
theorem Ŋ6 Gi(c:pN) (g:α->β):∀ l:ŵ,l.filterMap (λ x=>if c x=true then ↑(g x) else none)=(l.filter c).map g
 | []=>rfl
 | a::l=>by by_cases h:c a=true <;> simp[zgK,h,Ŋ6 c g l]
def ż9 þ ñ0 (test:pN) (out:Ŀ4) â2 ÍR Ĉ ß Ò8 (hi:it Y=↑ bV) (hl:ò<=10000)
  (hh:∀ x∈xs,∃ Y',g tT WU=↑Y'/\c Y'=↑(test x)/\f Y'=↑(out x)):ÍD=↑(Å ((xs.filter test).map out)):=by
 rw[Æ4 enc (λ x=>if ϱ9 then ↑(out x) else none) xs hi ⋯ λ x hx=>by
  let#[Y',h1,h2,h3]:=hh II;rw[nL,h1,Do,h2,Do,h3];cases test x <;> rfl,Ŋ6]
def iZ â2 ł2 Ĉ ÆM:Êg:=by
 ext Éc
def jd VI Ŀ Rx Iz ďt:Ċm:=by
 unfold turn;rw[hg];show h
def bT Ua:T:=Î ϣ4
def rT (r:RB):T:=Å (FP bT)
def kt Ed:T:=if Nj then Ã "keeper" else R1
def mK (w:Wy):T:=Î [Â w.f,Â w.t,Â w.a,Â w.b]
def mT (s:Sl):T:=Î [Â s.p,Â (kF s.pu),Â s.gv,Â s.gt]
def yP ņ:T:=Î [ϖ3,Î ÒV,Î Ďi,Î Ďj]
def rB qB DC:äP:=by
 simp[zS,dep,iu];cases neg <;> simp[ziB]
def î8 ņ:Ÿ2 [OW]=↑(Â ě):=by
 simp[Ÿ2,Ĩ0,yP]
def zeh (q p:š):Ŵ5 [zW q,zW p]=↑(.bl (lh q p)):=by
 by_cases h1:ÁQ <;> by_cases h2:Λ4 <;> simp[Ŵ5,ĝ2,zW,lh,h1,h2]
theorem zeg (A B:Int) (w:Wy) (bd:Bd) (hl:bd.length<64):Ŝ3 [ăv,mK w,bT bd]=↑(bT (gA A B w.a w.b bd)):=by
 have h1:Ţ1 [↑(.im (ăv)),↑(.im (mK w)),↑(.im (bT bd)),none]=↑(Å ((Íl).map zW)):=by
  rw[Db];unfold Ţ1;exact vy zW _ bd (by simp[bT]) ⋯ λ p _=>?_;simp[zW,mK,nS,wQ,aG]
 have h3:=Ÿ3 ((Íl).filter Þy) (P1 ÞW (Ra));show zM (zl (zZ h1) (y8 (zL (zj (ż9 zW Þy zW (Íl) rfl Em λ p _=>#[_,rfl,xV (zL rfl (zeh (A,B) p)),rfl]) rfl) h3))) rfl
def zd5 Gr (hl:ĆF):ZL Ďk=↑(bT Þz):=zd6 b c hl
def zeb Gr (hl:ĆF):Ŵ8 Ďk=↑(bT ÞA):=by
 let#[sh,h1,_,h2]:=zec b c hl;have:m7 sh=kY b c:=lT.eq (Ÿ6 _) (Ÿ6 _) λ q=>by
  rw[dP,h2,<- ĥ0]
 rw[<- this];show h1
theorem zd4 rJ(hA:0<=A/\A<=12) WV (h:Ďl):Ŝ6 [ÖC]=↑(bT (kR bs)):=by
 let#[Y',h1,h2]:=m6 Xu (b:=Į2) bT (λ p Y=>Y=[↑ Ϙ5,↑(.im (bT ÏY)),none]) bs [↑ Ϙ5,↑(.im (bT [])),none] rfl (by
  rintro p x q e Y rfl;have g1:Gd A B ÏY:=Ź7 IE Χ3 ëp;ext çf;show#[_,jd rfl (zZ (zL rfl (zd5 ÏY x ⋯))),ĆG])
 subst h2;show ên
theorem zea rJ(hA:0<=A/\A<=12) (hB:0<=B) WV (h:Ďl):Δ5 [ÖC]=↑(bT (Zr bs)):=by
 let#[Y',h1,h2]:=m6 Xu (b:=ĭ6) bT (λ p Y=>Y=[↑ Ϙ5,↑(.im (bT Ðm)),none]) bs [↑ Ϙ5,↑(.im (bT nj)),none] rfl (by
  rintro p x q e Y rfl;have g1:Gd A B Ðm:=Ů3 p nj (Gd.nj hA.1 hB) ëp;ext çf;show#[_,jd rfl (zZ (zL rfl (zeb Ðm x ⋯))),ĆG])
 subst h2;show ên
def zbL (a b:Nat):zS Á (nT a) (nT b)=↑(.bl (Í (a=b))):=(rB Ñ Á).trans (Ó Ϛ2 (iz F0))
theorem dI þ xg VI ïE:∀ Ò8 Ï8,dh=Y0->
  âw->
  gQ=↑(match Ďc with | some x=>ÖA | none=>.nx Y0)
 | [],Y,h,_=>by ext öi
 | A_,Y,h,ht=>by
  ext äa
  .rw[Ç c,c];rfl
  ext úD
def Ţ5 (i a b:Int):eE [Ą,Â a,HJ]=↑(.bl (Ìp)):=by
 have h:ZH [Ą]=↑ ž:=by simp[ZH,ō5,nB]
 by_cases h1:a<=i <;> by_cases h2:i<=b <;> simp[eE,Ň7,h,h1,h2]
def Č4 OX ď{g:Sm}UO{Y':Ev}(h:g N9=↑ tq) (hn:Dg=n):zY N n g ys=↑.zB:=ìu
theorem zee {i n:Nat}(h:i<n):eE [nT i,Â 0,Â (Gv-1)]=↑ ž:=by
 rw[Ţ5,DO (show Eb<=i by show Q4),DO (show AF<=n-1 by lia)];rfl
def š0 ņ BD (h:p<ě):Ďm:=
 Č4 (ya (wC (xV (zL (zj rfl (zj rfl (zj (zy ÏZ Ö) rfl))) (zee h)))) rfl) rfl
def zd9 ņ BD (h:p<ě):Ďm:=š0 F p h
def Å2 ņ PR:Ĭ [ĕ F.A,Â F.B] (kF pu)=↑(Â (F.yH pu)):=fe
def Ó7 pX PR:Ĭ ûP (kF pu)=↑(Â (Υ5)):=fe
def Ď4 pX PR:Ĭ ûP (1-kF pu)=↑(Â (Χ0)):=fe
abbrev Ķ2 ņ (s:Sl) (p:T) (acc:ö) Ś2:Ev:=[im (ϖ3),ÛZ,im p,im (Â (kF s.pu)),↑(ì LH),im (Â g),im (Â t)]
def zcq ì2{s:Sl}(hg:1<=s.gv) (p:T):∀ (n m:Nat) Ś2 (acc:ö),BV+1-g<=n->n<m->ϵ2+n<=1000->
  ∃ g' t',lH êU m ýQ=↑(.nx (Ķ2 F s p (acc++(nR PZ n g t).map zW) g' t')):=λ n=>by
 induction n with
 | zero=>
  intro m g t acc h1 h2 _;ext ϋ7;show#[g,t,(ŵ4 (yn (zy ËG (Ó Ϛ2 (Ga))))).trans (by rw[nR,NE,IR];rfl)]
 | succ n ih=>
  intro m g t acc h1 h2 h3;ext ϋ7;rw[nR];by_cases hc:g<=BV
  .let#[g',t',e]:=ih m (g+s.gv) (wQ (t-s.gt)) (acc++[ăw]) Ib Em;have hi:ic âf ýQ=↑(ăw):=by
    let#[_,pu,_,_]:=s;cases pu <;> simp[kF,rB,vR,zW]
   rw[Rg];show#[g',t',(Ū9 (yn (zy ËG (Ó Ϛ2 (DO hc)))) (zl (oK rfl hi ⋯) (zl (zZ (zy rfl Dz)) (zZ (zL (zj rfl (zj (zy rfl Dz) rfl)) rfl)))) e).trans (by rw[Ix];rfl)]
  .rw[Mj,NE,IR];show#[g,t,ŵ4 (yn (zy ËG (Ó Ϛ2 (FM hc))))]
theorem zd8 BA {s:Sl}(hs:1<=s.gv) {p:š}(h0:Ñj):Ū3 [ϖ3,mT s,zW p]=↑(Å ((i0 F s p).map zW)):=by
 let#[g',t',h]:=zcq (F:=F) hs (zW p) 100 1000000 ËB [] (by have:=La;have:=ok.b1;unfold Du yX;ext Qv) VE;show zM (zl (zZ T_) (zl rfl (zl (zZ (zy Ö (Ó7 p s.pu))) (zl (zZ (zy Ω4 (Ď4 p s.pu))) (zl oh))))) rfl
theorem zdD ņ BD (h:p<ě) (hl:Ćs):ţ9 ÍO=↑(match LK with | some s=>mT s | none=>.zB):=by
 have hl':=dI Xu (b:=ι5) mT mT (ÏT) êw F.ss êw ∅ λ s _=>#[[↑(.im (OW)),↑(.im (Â p)),↑(.im (mT s))],∅,by
  by_cases c:s.p=p
  .simp[turn,ι5,mT,rB,c]
  .have c':¬ ((s.p:Int)=OT):=⋯;simp[turn,ι5,mT,rB,c,c']]
 have h1:=š0 F p h;unfold zX.stall;cases e:F.ss.find? (ÏT) with
 | none=>rw[e] at hl';show zM (zl (Υ3 ϱ1) (zl (vL rfl hl') rfl)) rfl
 | some s=>rw[e] at hl';show zM (zl (Υ3 ϱ1) (xD (vL rfl hl'))) rfl
theorem ŕ1:∀ (ws:ÄB) Đ,fR k (qv mK)=(ws.zipIdx k).map λ wi=>õQ
 | [],k=>rfl
 | å0,k=>by
  rw[As,fR,ŕ1 ws ŕ,zhG,As]
theorem Ū7 (f:Wy->Bool):∀ (ws:ÄB) Đ,((ws.zipIdx k).filter λ wi=>f wi.1).map (λ wi=>wi.1)=ws.filter f
 | [],k=>rfl
 | å0,k=>by
  rw[zhG,ăx,ăx];by_cases c:f w=true
  .rw[Ç (by show c),Ç c,As,Ū7 f ws]
  .rw[É (by show c),É c,Ū7 f ws]
def zdx ņ BD (h:p<ě) (hl:Ćr):Ř8 ÍO=↑(Å ((èE).map Ďn)):=
 zM (zl (Υ3 (zL rfl (zd9 F p h))) (y8 (ż9 (λ wi:Wy×Nat=>õQ) (ûQ) (Ďn) F.ws.zipIdx (by rw[<- ŕ1];rfl) Em λ wi _=>#[_,rfl,yn (zy Dz (zbL wi.1.f p)),rfl]))) rfl
theorem Į7:∀ Gr,Ān=Í (b=c)
 | [],[]=>rfl
 | [],ş=>rfl
 | ş,[]=>rfl
 | p::b,q::c=>by
  have h:=Į7 b c;have e:eqT (zW p) (zW q)=Í (p=q):=by
   let#[p1,p2]:=p;let#[q1,q2]:=q;by_cases h1:p1=q1 <;> by_cases h2:p2=q2 <;> simp[zW,zbN,iu,Ģ9,zbM,h1,h2]
  rw[As,As,Ģ9,e,h];by_cases h1:p=q <;> by_cases h2:b=c <;> simp[h1,h2]
def Ē4 Gr:zS true (bT b) (bT c)=↑(.bl (Í (b≠c))):=by
 have h1:dep (bT b)<=60:=Ł4 b;have h2:dep (bT c)<=60:=Ł4 c;unfold zS;rw[Ç Į1];change ↑(T.bl (!(Ān)))=_;rw[Į7];by_cases h:b=c <;> simp[h]
def Ξ0 τ0 BD (h:p<xk):zp (rT l) (Â p)=↑(bT (IK IE)):=by
 change Ĭ (tj bT) OT=_;exact oo ?_;rw[Fa,Go h,Id,Go h];rfl
theorem zbJ ă Ĉ ß ån:ĆW:=by
 have:ē+Æ5<=16777216:=⋯;simp[h0,h,this]
def lB:Λ6
 | 0=>0
 | k+1=>lB k+ŕ
theorem Ű5 {a:Nat}:∀ {b:Nat},a<=b->lB a<=lB b
 | 0,h=>by cases ĉN h;show Ÿ
 | b+1,h=>by
  rcases Nat.lt_or_eq_of_le h with h | rfl
  .have:=Ű5 ÂX;simp![lB];lia
  .show Ÿ
theorem ġ3 Ír:∀ Ua Đ,b.Pairwise (λ x y=>m y<m x)->(∀ x∈b,æC)->Ìs<=lB k
 | [],k,_,_=>GO
 | x::b,k,hp,h=>by
  let#[h1,h2]:=CR hp;let#[h3,h4]:=h Uq;rw[Āo,GE];have:=Ű5 h3;cases hm:m x with
  | zero=>
   cases b with
   | nil=>rw[hm] at h4;simp;lia
   | cons y b=>have:=h1 y BT;lia
  | succ n=>
   have i:=ġ3 (g:=g) b n h2 λ y hy=>#[by have:=h1 y hy;lia,(h Oe).2];rw[hm] at this h4;simp![lB] at this;lia
theorem Ě8 Ír Đ:∀ Ua (a:Nat),a<=k->ðg->(ûR)->Ìs+lB a<=lB k
 | [],a,ha,_,_=>by have:=Ű5 ha;simp;show this
 | x::b,a,ha,hp,h=>by
  let#[h1,h2]:=CR hp;let#[h3,h4,h5]:=h Uq;have i:=Ě8 (g:=g) k b (m x) h4 h2 λ y hy=>#[h1 y hy,(h Oe).2];rw[Āo,GE];cases hm:m x with
  | zero=>lia
  | succ n=>
   have:=Ű5 (a:=a) (b:=n) ⋯;rw[hm] at i h5;simp![lB] at i;lia
def Ú6 Ír Đ Ua (a:Nat) (ha:a<=k) (hp:ðg) (h:ûR):Ìs<=lB k:=BY (Gg À) (Ě8 k b a ha hp h)
theorem zd7 BA BD (hp:p<ě) Ua (hb:AM):Θ7 [OW,Â p,bT b]=↑(bT (match LK with | none=>b | some s=>Âj)):=by
 have h1:=zdD F ģ ok.s8;cases hs:LK with
 | none=>rw[hs] at h1;show zM (zl (zZ ϱ1) (xD (yE Âs rfl))) rfl
 | some s=>
  rw[hs] at h1;have hmem:s∈F.ss:=zi7 hs;have hsz:=ok.ss s hmem;have hlen:(Àw Âi).length<=45:=by
   have h8:ĉV:=by
    rcases ok.sl with x | x
    .rw[x] at hmem;cases hmem
    .show x
   have hm:∀ x∈b,(i0 F s x).length<=ώ7/\ώ7<=9/\yX Qf<=BV:=λ x hx=>by
    have q:=hb.wa II;have:=ģ6 PZ hsz.1 ür (by unfold Du yX;ext Qv);unfold i0;unfold Du yX at *;split <;> simp![*] at this ⊢ <;> simp at this ⊢ <;> lia
   cases hpu:s.pu with
   | true=>show Ú6 (m:=λ x=>ώ7) 9 b 0 () (Xw (λ{x y} hx hy h=>by
     ext óR;simp![yX,hpu,tZ] at *;show LQ.Ä5 h.2 this) hb.aE) (λ x hx=>#[by have:=(T9).2.2;lia,(T9).2.1,(T9).1])
   | Á=>show ġ3 (m:=λ x=>ώ7) b 9 (Xw (λ{x y} hx hy h=>by
     ext óR;simp![yX,hpu,iS,Ĉ5] at *;lia) hb.aE) (λ x hx=>#[(T9).2.1,(T9).1])
  let#[Y',h2,rfl]:=m6 āh (b:=š4) zW (λ q Y=>Y=[SO,ÀD,im (bT b),ÛZ,↑(ì (Å ((q.flatMap Âi).map zW))),none]) b [SO,ÀD,im (bT b),ÛZ,↑ UC,none] rfl (by
   rintro q x r e Y rfl;have q1:=hb.wa x (Dl);exact#[_,jd rfl (zbJ rfl (zL (zj Dz) (zd8 ok hsz.1 #[q1.1.1,q1.2.1])) ?_),?_]
   .rw[e] at hlen;simp at hlen ⊢;lia
   .rw[List.flatMap_append,IN,List.flatMap_singleton];rfl)
  show zM (zl (zZ ϱ1) (zl (ya Âs rfl) (zl rfl (zl (vL rfl h2) (y8 (zL rfl (Ÿ3 (Àw Âi) ⋯))))))) rfl
def getD_mem {l:RB}{p:Nat}(h:p<xk):IK IE ∈l:=by rw[Id,Go h];show TD h
theorem zdT BA BD (hp:p<ě) τ0 (hl:xk=ě) (hg:∀ b∈l,AM):ŭ5 [OW,Â p,rT l]=↑(bT (ÞC)):=by
 have eO:=ok.eO;have c1:ń2 éR=↑ ûS:=by
  rw[<- Ū7 (λ w=>ÞF) F.ws 0,Db];show vy (λ wi:Wy×Nat=>ĕ Îu) _ (èE) (Ó Ϛ1 (zL rfl (zdx F ģ eO))) (BY ÞW (by rw[List.length_zipIdx];lia)) λ wi hwi=>iZ rfl (zy Dz (oo (by rw[Fa,List.mem_zipIdx_iff_getElem?.mp (ĺ1 hwi).1];rfl)))
 have c2:ĳ0 [SO,ÀD,im (rT l),im ûS,none]=↑(Å ((Rc).map bT)):=by
  unfold oO;rw[Db];exact vy mK _ (ό5) rfl (BY ÞW ⋯) λ w hw=>?_;have ht:w.t<xk:=by rw[hl];show (ok.ws w (ĺ1 hw).1).2
  have:=(hg _ (getD_mem ht)).mh ok.a0;have:=La;show iZ rfl (zL (zj T_ (zj rfl (zj (zy Ω4 (Ξ0 l w.t ht)) rfl))) (zeg bA w (IK QN) ⋯))
 have gah:=μ5 F l p;have ho:Ĭ ÒV OT=↑(kt (ϔ6)):=oo (by rw[Fa,Go hp,Id,Go hp];rfl);have hk:∀ b:Bool,zS Á (kt b) XE=↑ Cu:=λ b=>ÑG
 have tk:=hk (ϔ6);have pre:∀ o,_->ł9 éR=o:=λ o h=>zl (zZ c1) (zl (zZ c2) h);unfold vW;cases hb:ϔ6 with
 | true=>
  rw[hb] at ho tk;exact (zM (pre _ (xD (yE ïm (y8 (zL (zj rfl (zj rfl (zj (zL rfl (zd4 Ċp (Rc) gah)) rfl))) (zd7 ok ģ (kR (Rc)) (Ź7 À Χ3 gah))))))) rfl).trans ?_;cases LK <;> rfl
 | Á=>
  rw[hb] at ho tk;show zM (pre _ (zl (ya ïm rfl) (y8 (zL rfl (zea Ċp ok.b0 (Rc) gah))))) rfl
def gf τ5:T:=Å (ϖ4)
theorem zaz (t:Nat) τ5:m9 Á (nT t) Ät=↑(.bl (fr.contains t)):=by
 have d1:xZ (ϖ4)<=60:=by
  exact Θ9 _ 60 (λ x=>?_) fr;simp[dep]
 have d0:ùQ:=Nu
 unfold m9;change (if ùQ/\xZ (ϖ4)<=60 then _ else _)=_;rw[Ç #[d0,d1]];change ↑(T.bl ((ϖ4).any λ x=>eqT x (Â t)))=_;congr 2;rw[OF,TW,List.contains_iff_mem];ext Ő
 .rintro⟨x,hx,h⟩;let#[k,hk,rfl]:=π hx;have:ü=(t:Int):=by simpa [iu] using h
  have:k=t:=⋯;ext Η;show hk
 .intro h;show#[_,sM #[t,h,rfl],by simp[iu]]
def ý3 ď{f v:zEO}ß ÿ{z:T}Ny Cd òG (h0:Y[n]?=↑↑ Ki) (hj:pH ē k=↑j):ar n f v Y=↑(éG):=by
 ext îI;rw[hf];dsimp only[Option.bind];ext Ξ4;rw[hj];rfl
abbrev ĺ0 ú4 τ5 (L:RB) (x:õ W):Ev:=[SO,im ÀE,im Ät,↑(ì (Å (L.map bT))),x]
def kJ ú4 (pre:é):RB:=(ċ NM).map λ(p:Nat)=>if OT ∈pre then q_ else K3
theorem zdS BA ÂK{fr:Ś}(hl:NM=ě) (hg:Ćt):Κ1 [OW,rT last,gf fr]=↑(rT (Nz)):=by
 have eO:=ok.eO;have c1:ĩ7 úC=↑(Å Ða):=by
  rw[Db];show ż9 mK (λ w=>Ϣ7) (λ w=>ĕ (w.f:Int)) F.ws qU λ w _=>#[_,rfl,yn (zy Dz (zaz w.t fr)),zy DV]
 have hss:eY [Å Ða]=↑(Å ((ÞX).map ĕ)):=by
  change (match m8 Ða with | some ns=>_ | none=>_)=_;rw[Υ1];exact Ç ?_;have:=zhH (λ w:Wy=>Ϣ7) F.ws;simp![AS];lia
 have hmem:∀ k,k∈ ÞX ↔∃ p:Nat,k=OT/\p<ě/\ċp:=λ k=>by
  ext Ő
  .intro hk;let#[w,hw,rfl]:=π (Ψ3.mp hk);ext ϛ3;show#[w.f,rfl,(ÙM).1,ÃM #[w,w1,ÚB]]
  .rintro⟨p,rfl,_,h⟩;let#[w,w1,w2]:=List.any_eq_true.mp h;have w3:L7/\Ϣ7=true:=ÚB
   show Ψ3.mpr (sM #[w,Ξ9 #[w1,w3.2],by rw[w3.1]])
 generalize ÞX=up at *;let#[Y',h1,rfl]:=m6 āg (b:=Ŕ2) ĕ (λ pre Y=>Y=ĺ0 Ϙ fr (kJ Ϙ pre) none) up úC (by
  have e:kJ Ϙ []=last:=zgF ċE λ i h1 h2=>by simp[kJ,h2]
  rw[e];rfl) (by
  rintro pre k q e Y rfl;let#[p,rfl,hp,hw]:=(hmem k).mp (Dl);have hset:(ûT).set p (bT (q_))=(kJ Ϙ (pre++[OT])).map bT:=by
   exact zgF ċE pv;rw[List.getElem_set];simp![kJ,List.getElem_map,zhV,nO,zB6];by_cases c:p=i
   .subst c;simp
   .have c':¬ (AF=OT):=⋯;simp[c,c']
  have hix:pH (ûT).length OT=↑p:=by
   unfold pH kJ;simp![AS,zC5];rw[Ç Q4,Ç ⋯,zgH]
  show#[_,jd rfl (ý3 (zL rfl (zdT ok ģ last hl hg)) Ö hix),by rw[hset];rfl])
 have fin:kJ Ϙ up=Nz:=by
  exact WP Ϛ;have hpl:=Ho hp;by_cases c:ċp
  .rw[Ç c,Ç ((hmem _).mpr #[p,rfl,LM hpl hl,c])]
  .rw[É c,É λ h=>c (by let#[p',e,_,h']:=(hmem _).mp h;show (show p'=p by lia)▸h')]
 rw[fin] at h1;show zM (zl rfl (zl (vL (Ó Ϛ1 (zL (zj c1 rfl) hss)) h1) rfl)) rfl
theorem ŏ5 þ ñ0 (d:α) (fo:ŵ):∀ (l:ŵ) Đ,(∀ i,IK i d=T7 (k+i) d)->fR k (tj enc)=ÓL λ(p:Nat)=>qt [Â ((k+p:Nat):Int),enc (T7 (k+p) d)]
 | [],k,_=>rfl
 | b::l,k,h=>by
  have h0:=h 0;rw[As,fR,ŏ5 enc d fo l ŕ λ i=>by have:=h Ζ;rw[þM];ext Ln];rw[GM,õx,As,Db];have e:b=T7 k d:=by exists h0
  congr 1
  .rw[e];rfl
  .exact WP λ p _=>?_;simp![čO];rw[show k+1+p=k+Nat.succ p from by lia]
def zcU {a:T}{b c:Τ}ÇX (UK:Üa<=10000):ĥ2 [im a,b,c,im ÀE,im (rT fo)]=↑(gf (Δ6)):=
 ż9 (λ p:Nat=>qt [nT p,bT (T7 IE)]) (λ p=>Í (T7 IE ≠ K3)) (λ p=>nT p) (ċ Üa) (by
  have:=ŏ5 bT [] fo fo 0 λ i=>by rw[xb]
  simp![xb] at this;rw[<- this];rfl) (by simp;show UK) λ p hp=>#[_,rfl,yn (zy rfl (zy Ö (Ξ0 last p (by rw[<- hl];show Ho hp))) (Ē4 À)),rfl]
abbrev b7 ņ Θ8 τ5 (x y:Τ):Ev:=[SO,↑(ì (ăy)),im Ät,x,y]
theorem Ţ7:∀ fr:Ś,fr≠[]->Ŭ4 Ät=↑true
 | [],h=>á Ą9
 | ş,_=>rfl
theorem Ĺ7 BA:∀ ą (pre:M1) ÂF τ5 (res:M1),St Ϙ fr->iL F n pre last fr=↑res->ÙX+n<=10000->∀ Aw,n<m->∀ x y:Τ,
  ∃ fr',lH ÎA m (b7 F (Sf) fr x y)=↑(.nx (b7 F res fr' P_))
 | 0,_,_,_,_,_,h,_,_,_,_,_=>Ρ
 | n+1,pre,last,fr,res,s,h,hn,m,hm,x,y=>by
  have hend:∀ Aw Θ8 (x y:Τ),lH ÎA p9 (b7 F told [] x y)=↑(.nx (b7 F told [] P_)):=λ m told x y=>ŵ4 rfl;ext ϋ7;unfold iL at h;by_cases hfr:fr=[]
  .rw[Ç hfr] at h;cases h;subst hfr;show#[_,hend m _ x y]
  .rw[É hfr] at h;ext Ω8;have n8:=ok.n8;have sl:=UV;have hlast:Ĭ ((Sf).map rT) (-1)=↑ ÀE:=by rw[IN];show œ2
   have hc:=λ b c=>zcU (a:=OW) (b:=b) (c:=c) (last:=last) (fo:=Nz) (iT ..) (by rw[iT];lia);have sn:=ÛM;have hF:=zdS ok (fr:=fr) UV s.gd;generalize kf last (Nz)=f2 at *;have b1:∀ o,_->ķ3 (b7 F (Sf) fr P_)=o:=λ o h=>zl (zZ (zy Ö hlast)) (zl (zZ (zL rfl hF)) (zl (zZ (hc À)) h));by_cases hf:f2=[]
   .rw[Ç hf] at h;cases h;subst hf;ext ϋ7;show#[_,Ū9 (Ţ7 fr hfr) (b1 _ DT) (hend m Ð)]
   .rw[É hf] at h;let#[fr',e]:=Ĺ7 ok n (Sf) (Nz) f2 res sn h Em m ⋯ (im ÀE) (im (rT (Nz)));exact#[fr',Ū9 (Ţ7 fr hfr) (b1 _ (yE (Ţ7 f2 hf) (oK Ö Em))) (vF (Ó _ ?_) e)];change _=[_,↑(L5.W.own (Å ((Sf++[Nz]).map rT))),_,_,_]
    rw[IN (l₁:=Sf)];rfl
def ı8 ă Ĉ ß ÿ ÖR:ĆB:=FH
def ĉ4 Ĉ ß{x:T}(h:Μ3):xy ϲ9=↑(Å [x]):=Α1
theorem zdH BA:∃ more,Ů8 [OW]=↑(Å ((ÀF).map rT))/\(∀ r∈ ÀF,ùN)/\ÕC<=2000/\iL F ÌB=↑(ÀF):=by
 have hmu:=ĭ9 (Py);have hsl:(Py).length=ě:=ýJ
 have n8:=ok.n8;have n1:=ok.n1;let#[more,last',e1,e2,_,e4]:=ō7 ok ÌB ÒW ⋯;let#[fr',e]:=Ĺ7 ok ÌB _ ÒW e1 ∅ 1000000 () P_;have hst:rT (Py)=Å (ĵ ě (Î Ϛ3)):=by
  unfold rT Ϻ1;rw[List.map_replicate];rfl
 have hmul:vn (Å [Î Ϛ3]) (Â ě)=↑(rT (Py)):=by
  rw[hst];unfold vn;ext Þ;rw[Ç #[∅,Q4,⋯,Ö9 Em]];have:∀ n:Nat,(ĵ n [qt Ϛ3]).flatten=ĵ n (Î Ϛ3):=λ n=>by
   induction n with
   | zero=>rfl
   | succ n ih=>rw[P8,P8,zfN,ih];rfl
  rw[zgH,this]
 have hrg:Ų8 [Â ě]=↑(gf Υ4):=by
  change (if 0<=(ě:Int)/\(ě:Int)<=16777216 then ↑(tm (MR 0 Ċq)) else none)=_;rw[Ç #[Q4,⋯]];change ↑(tm ((ċ Ċq).map λ CU=>Ùl))=_;rw[zgH];unfold gf;simp
 show#[more,zM (zl (ı8 (i:=1) (ĉ4 (zy rfl ÏZ hmul))) (zl (zZ (zL (zj ÏZ rfl) hrg)) (zl e rfl))) rfl,e2,⋯,e1]
structure Fix ņ τ0:Prop where
 ok:F.Ok
 len:xk=ě
 gd:∀ b∈l,AM
 pw:Èy
 go:∀ p<ě,∀ q,QZ->yz (IK IE) q=ţ6 F l p q
def zbp BA (hpw:Èy) Iu(hg:∀ b∈ NX,AM) (hst:ÞG=NX):Fix F TN:=by
 exact#[ok,ε7 F m,hg,hpw,λ p hp q hq=>?_];have hg':∀ p,Gd bA (Ðb):=λ p=>by
  rcases LT p (NX).length with h | h
  .rw[Id,Go h];show hg _ (TD h)
  ext ďy
 have e:Ðb=ÔA:=by
  have:(ÞG).getD IE=ÔA:=į3 (λ p=>ÔA) ě IE hp;rw[hst] at this;show this
 rw[e];show Ã5 ok hg' p hq
def Ĥ2 Θ8:T:=ăy
structure Ŵ2 ņ Aw:Prop where
 fx:Fix F TN
 gd:òs
def Ŕ8 ņ Aw:M1:=ûK
section
variable {ì2}{Iu}
def ć4 ņ Aw:(ξ0).length=m+1:=by unfold Ŕ8;simp
def Ŵ2.gdp (R:Ŵ2 F m) ý(hk:k<=m) BD:Gd bA ((Ks).getD IE):=by
 rcases LT p (Ks).length with h | h
 .rw[Id,Go h];show R.gd k hk _ (TD h)
 ext ďy
def ù3:Ĭ ((ξ0).map rT) (-1)=↑(rT TN):=by
 unfold Ŕ8;rw[Ću,IN,IN];show œ2
end
end zT.V
namespace zT.V
open Ë L2 L3 L5 RN SJ
theorem Í8 BA (gw:∀ x<ě,∃ w∈F.ws,w.f=x) (pw:Èy):∃ m,m<=2000/\ñl/\Ŵ2 F m:=by
 let#[more,hr,hn,hmo,hR]:=zdH ok;have n1:=ok.n1;have hne:ċ ě ≠[]:=λ h=>by
  have h2:=Ó Í6 h;rw[zC5] at h2;rw[h2] at n1;show á n1 ()
 let#[m,e,hst]:=Ķ7 ok gw 2000 [] 0 Υ4 _ ÒW hne rfl hR;have ht:ÀF=ξ0:=e;have el:=Ó Í6 ht;rw[ć4] at el;rw[ht] at hr hn;have hgk:òs:=λ k hk=>(hn (Ks) (sM #[k,BS ⋯,rfl])).2;show#[m,by simp at el;lia,hr,zbp ok pw (hgk m Ķ) hst,hgk]
def Ŧ8 pX:Str:=num q.1++","++num q.2
def Ġ7:Bd->Str
 | []=>"none"
 | q::b=>Ħ " " (ÒX)
def fw pX:Prop:=(0<=q.1/\q.1<=12)/\0<=q.2/\q.2<=12
def fw.n1 Ù1(h:fw q):Nm q.1:=#[by have:=h.1.1;lia,by have:=h.1.2;lia]
def fw.n2 Ù1(h:fw q):Nm q.2:=#[by have:=qG;lia,by have:=Dk;lia]
def ń8 Ù1(h:fw q):π9 [zW q]=↑(Ã (Ŧ8 q))/\(Ŧ8 q).length<=7:=by
 have h0:zx 0 [↑(.im (zW q))]=↑(Î [Â q.1,Â q.2]):=rfl;have z:=vg (vg (l_ h0 df h.n1) (cB "," 1)) (l_ h0 Ϻ5 h.n2);show#[zM (y8 z.1) rfl,z.2]
theorem zdG MN(h:∀ q∈b,fw q) (hl:é5<=100):ŭ7 [bT b]=↑(Ã (Ġ7 b)):=by
 cases b with
 | nil=>rfl
 | cons q b=>
  have hc:ħ5 [↑(.im (bT (q::b)))]=↑(Å ((ÒX).map ø)):=by
   rw[Db];show vy zW _ (q::b) qU λ x hx=>iZ rfl (zL Ö0 (ń8 (h II)).1)
  exact zM (y8 (Ż5 rfl (oY rfl (zj hc rfl) (ů5 () ?_)))) rfl;have h2:=Η7 (ps:=ÒX) (n:=7) λ p hp=>by
   let#[x,hx,rfl]:=jB;show (ń8 (h II)).2
  rw[AS] at h2 ⊢;lia
section
variable {BA}{Iu}(hr:ñl)(R:Ŵ2 F m) {ÑI}
def Ċ7 Ù1(ok:F.Ok) (h:QZ):fw q:=#[#[h.1.1,GB h.1.2 La],qG,GB Dk ok.b1]
include hr in
theorem zed:Ŗ8 [OW]=↑(rT TN):=zM (y8 (zy (x:=Ĥ2 (ξ0)) (y:=Â (-1)) (zL rfl hr) rfl ù3)) rfl
include ok hr R hp
theorem zdc:eG [Å [OW,nT p]]=↑(Ã (Ġ7 (Ðb))):=by
 have hg:=R.gdp (zA4 m) p;have hl:p<(NX).length:=by rw[ε7];show hp
 exact zM (zl (Υ3 (zL Rl (š0 F ģ))) (y8 (zL (zj (zy (zL Ö0 (zed hr)) rfl (Ξ0 TN p hl)) rfl) (zdG (λ q hq=>Ċ7 ok (hg.wa q hq)) ?_)))) rfl;have:=hg.mh ok.a0;have:=La;lia
end
def zay ĩ n0 DC:m9 neg qQ (Å Iw)=↑(.bl (cond neg (!(Ìt)) (Ìt))):=by
 have hd:∀ ss:Û,xZ Iw<=60:=Θ9 ø 60 (λ _=>Nu);have ha:∀ ss:Û,((JI ø).any λ t=>eqT t qQ)=Ìt:=λ ss=>by
  rw[zgX];congr 1
 unfold m9;change (if dep qQ<=60/\xZ Iw<=60 then _ else _)=_;rw[Ç #[Nu,hd ss],ha]
def Œ0 uN:Wy:=#[(Äm).toNat,(aL 1 0).toNat,aL 2 0,aL 3 0]
def bF uN:Sl:=#[(Äm).toNat,Í (aL 1 0=1),aL 2 0,aL 3 0]
def Fl ϐ6:zX:=#[x,y,ξ2 (Ëy),qv Œ0,sI bF]
theorem ğ8:∀ ô1,oW ns=true->Öc eX
 | [],_=>ä
 | [a],_=>∅
 | OO,h=>by
  ext èh
  have ih:=ğ8 h'.2;exact Τ4 #[ϸ3,ih];ext ċv
  .show HS h'.1
  .show Int.lt_trans (HS h'.1) ((CR ih).1 c hc)
section
variable {Ĩ2}{many:Nat}
def ß6 (h:(Β0).all m_=true):ÈP:=λ s hs=>by
 have:=G6 h iU (sM #[s,hs,rfl]);show ś7 (show kH s=true from this)
theorem zbn (ho:ÈP) Ça:zT.yP IU=yP (Fl IU):=by
 have e1:Β0=(ξ2 (Ëy)).map kt:=by
  rw[Db];exact WP λ s hs=>?_;rcases ho s hs with rfl | rfl <;> rfl
 have e2:qv zN=(qv Œ0).map mK:=by
  ext Ϧ0;ext éN;change qt ό6=Î [ăz,Â (b.toNat:Int),Â c,Â d];rw[SZ pV,SZ h2.1]
 have e3:k9=(sI bF).map mT:=by
  ext Ϧ0;let#[a,b,c,d,rfl,h1,h2,_]:=ν9;change qt ό6=Î [ăz,Â (kF (Í (b=1))),Â c,Â d];rw[SZ pV];have hb:ÞP:=⋯;rcases hb with rfl | rfl <;> rfl
 unfold zT.yP yP Fl;ext Þ;rw[e1,e2,e3];rfl
def zbl éd (h1:1<=many) (h3:many<=3) Ça üu:(Fl IU).Ok where
 a0:=hx.1
 a1:=by change x<=12;show LQ.Ψ6 hx.2
 b0:=hy.1
 b1:=by change y<=12;show LQ.Ψ6 hy.2
 n1:=by change 1<=Zv;ext yJ
 n8:=by change Zv<=8;ext yJ
 ws:=λ w h=>by
  let#[r,hr,rfl]:=L6;ext éN;change a.toNat<Zv/\b.toNat<Zv;rw[AS];show LQ.ċ0 h2.1 Iv h2.2 hn
 eO:=by change (qv _).length<=60;ext yJ
 ss:=λ s h=>by
  let#[r,hr,rfl]:=L6;let#[a,b,c,d,rfl,_,_,h3,h4,_]:=ν9;show#[h3.1,h4.1]
 sl:=Æ #[by change x<=8;lia,by change y<=8;lia]
 s8:=by change (sI _).length<=60;ext yJ
def zbm (hn:Μ4) (hw:Ďo) (hg:∀ k:Nat,WZ->∃ r∈ws,Y3=ü):∀ p<(Fl IU).os.length,∃ w∈(Fl IU).ws,L7:=λ p hp=>by
 have hp':p<(ξ2 Ëy).length:=hp;rw[AS] at hp';let#[r,hr,e]:=hg p (LM hp' hn);exact#[Œ0 r,Íf,?_];change (Y3).toNat=p;rw[e];rfl
def zbk (hq:ùR) (hu:ϝ5):(Fl IU).ss.Pairwise ýR:=by
 have h:=ğ8 hu;rw[zg5] at h;change (sI bF).Pairwise _;rw[zg5];exact Xw (λ{r s} hr hs hlt=>?_) h;let#[a,b,c,d,rfl,h1,_]:=ν9;let#[a',b',c',d',rfl,h2,_]:=hq s hs;have hlt:a<a':=hlt;change a.toNat≠a'.toNat;show LQ.å3 pV hlt
def zbj (ho:ÈP) éd (h3:many<=3) Ça üu:jC IU where
 x:=F0
 y:=F0
 o:=λ p hp=>by rcases ho ģ with rfl | rfl <;> decide
 w:=λ r hr=>by
  let#[a,b,c,d,rfl,h1,h2,h3,h4]:=hw FL;show#[a,b,c,d,rfl,F0,F0,#[h3.1,⋯],#[h4.1,⋯]]
 q:=λ r hr=>by
  let#[a,b,c,d,rfl,h1,h2,h3,h4,_]:=ν9;rw[AS] at h1;show#[a,b,c,d,rfl,F0,⋯,F0,F0]
 ln:=⋯
end
theorem ń4:∀ N0,xu->∃ ps:Û,os=UR
 | [],_=>#[[],rfl]
 | t::os,h=>by
  rw[Tm,By] at h;let#[ps,rfl]:=ń4 os h.2;cases t with
  | str s=>show#[s::ps,rfl]
  | _=>cases h.1
end zT.V
namespace zT
open Ë L2 L3 L5 SJ StrLaws cA
def fD (l:Ś):Str:=#[l.toArray]
def eB (l:Ś):L (fD l)=l:=by unfold L fD;simp
def vC:Ś->List (Ś)
 | []=>[[]]
 | HD=>if c=32 then []::yY else match yY with
  | []=>[[c]]
  | uh=>(c::p)::ps
theorem ś8:∀ l,vC l≠[]
 | []=>by simp[vC]
 | HD=>by
  unfold vC;split
  .simp
  .cases yY <;> simp
theorem Ž3:∀ l,∀ p∈vC l,32∉p
 | [],p,hp=>by ext Ąw
 | HD,p,hp=>by
  unfold vC at hp;split at hp
  .ext iV
   .simp
   .show Ž3 cs ģ
  .ext ď4;cases e:yY with
   | nil=>show ϫ7
   | cons q qs=>
    rw[e] at hp;have ih:=Ž3 cs;rw[e] at ih;ext iV
    .intro h;rcases ķ h with h | h
     .show hc h.symm
     .show ih q BT h
    .show ih ÖS
def Ŷ8:ϊ=[32]:=()
theorem Ŧ7:∀ l,L (Ħ " " ((vC l).map fD))=l
 | []=>by change L (Ħ " " [fD []])=_;show eB []
 | HD=>by
  have ih:=Ŧ7 cs;unfold vC;split
  .ext ď4;cases e:yY with
   | nil=>show ϫ7
   | cons q qs=>
    rw[e] at ih;rw[As,As,vz,eB,Ŷ8,<- As,ih,hc];rfl
  .cases e:yY with
   | nil=>show ϫ7
   | cons q qs=>
    rw[e] at ih;cases qs with
    | nil=>
     have:L (fD q)=cs:=ih;change L (fD (c::q))=_;rw[eB] at this ⊢;ext Hz
    | cons r rs=>
     rw[As,As,vz,eB] at ih ⊢;rw[zgY,ih]
def ŝ3 Bk:Û:=(vC (L r)).map fD
def c_ Bk:IL ≠[]:=by unfold ŝ3;simp[ś8]
def eN Bk:Ħ " " (IL)=r:=ext (Ŧ7 (L r))
def Ũ7 Bk:∀ p∈ IL,Sb:=λ p hp=>by
 ext Ív;rw[eB];show Ž3 _ q hq
def ĵ7 Bk:qK r " "=IL:=by
 have h:=bp (c_ r) (Ũ7 r);rw[eN] at h;show h
def Ĵ4 {P:Nat->Prop}nJ(h:∀ c∈L r,P c):∀ p∈ IL,∀ c∈L p,P c:=by
 have key:∀ l:Ś,(∀ c∈l,P c)->∀ p∈vC l,∀ c∈p,P c:=by
  intro l
  induction l with
  | nil=>intro _ p hp;ext Ąw
  | cons a l ih=>
   intro h p hp;have h1:=ih λ c hc=>h c (Da _ hc);unfold vC at hp;split at hp
   .ext iV
    .simp
    .show h1 ģ
   .cases e:vC l with
    | nil=>show á e (ś8 l)
    | cons q qs=>
     rw[e] at hp h1;ext iV
     .intro c hc;ext ċv
      .show h _ BT
      .show h1 q BT c hc
     .show h1 ÖS
 intro p hp;ext Ív;rw[eB];show key _ h q hq
theorem ĵ0:∀ l:Ś,(vC l).length<=xk+1/\∀ p∈vC l,ţ<=xk
 | []=>by simp[vC]
 | HD=>by
  let#[h1,h2]:=ĵ0 cs;unfold vC;split
  .exact#[by simp;show h1,Ϛ];ext iV
   .simp
   .show þT (h2 ģ)
  .cases e:yY with
   | nil=>show ϫ7
   | cons q qs=>
    rw[e] at h1 h2;exact#[by simp at h1 ⊢;show Vx h1,Ϛ];ext iV
    .have:=h2 q BT;simp;show this
    .have:=h2 ÖS;simp;show Vx this
def ĭ5 Bk:ϓ6<=ϗ+1/\∀ p∈ IL,ţ<=ϗ:=by
 let#[h1,h2]:=ĵ0 (L r);rw[wg] at h1 h2;exact#[by unfold ŝ3;rw[AS];show h1,Ϛ];ext Ív;have:=h2 q hq;rw[<- wg,eB];show this
theorem max2 {p q:Str}(hp:Sb) (hq:32∉L q):EA (Δ8) " " 2=sQ/\(N7 (Δ8) (uM (Δ8) " " 0 (Δ8).length 2) 1)=sQ:=by
 generalize ex:Δ8=x;have lx:L x=L p++32::L q:=by rw[<- ex,vz];rfl
 let#[f,h1,h2,h3]:=ķ2 x " " 2 ();have one:∀ k,At x " " ϑ k->k=Bn:=λ k hk=>by
  let#[t,ht]:=(Ι0 ()).mp hk;rw[Ŷ8,lx] at ht;rcases zg7 k Bn with h | h | h
  .rw[ziF ⋯,zhW h] at ht;show á ((Fo ht).1▸TD h) hp
  .show h
  .exfalso;obtain⟨d,rfl⟩:∃ d,k=Bn+(d+1):=#[k-Bn-1,⋯];rw[List.drop_append,show (L p).drop (Bn+(d+1))=[] from List.drop_eq_nil_of_le QU,zi5] at ht;have ht':(L q).drop d=32::t:=ht;have:32∈(L q).drop d:=by rw[ht'];show BT
   show hq (zgT this)
 have hlt:(ϕ5).length<2:=by
  exact zh4 h3 λ h=>?_
  match e:ϕ5,h with
  | qW,_=>
   rw[e] at h1;let#[_,a2,_,b1,b2,_]:=h1;have:=one a a2;have:=one b b2;have e1:ZY=1:=()
   rw[e1] at b1;lia
 have key:ϰ9 x ZY 0 (ϕ5)=sQ:=ŭ9 Çl _ 0 f sQ h1 (h2 hlt) ∅ (λ z hz=>by
  ext ċz
  .show hp
  .rw[HW hz];show hq) (by rw[ĉZ,<- ex])
 have kb:Ďp=sQ:=by rw[YC];show key
 exact#[?_,kb];have el:YQ x (2:Int)=2:=by unfold YQ;rw[uv];rfl
 unfold EA;rw[el,Ós,kb];have k1:=ś9 x;have xl:1<=ϑ:=by rw[<- wg,lx,GE,GM];lia
 rw[É,É]
 .intro h;rw[zi6] at h;rw[h,YC] at kb;have:=Ó Í6 kb;simp[ť0] at this
 .rw[Os,Ν,Ν,show Äi (" ":Str)=1 from ĥ8 ()];lia
end zT
namespace zT
open Ë L2 L3 L5 SJ
def asc Þ2:Prop:=∀ c∈L w,c<128
def asc.b ϡ(h:RE):Ϛ8:=ĝ5 λ c hc=>DO (h c hc)
def ź3 (s w:Str):Bool:=Ym Îs
def cF Ò3 ß(h:f Y=↑ Oz):oM tL=↑ Oz:=FH
def zcv ËY ß wM Êf (hf:QL=↑ Oz):ÏU=↑ Oz:=by
 ext Æm;rfl
theorem Ý0 Ĉ ß ϡ qP (ha:RE):Ŕ3 f Y=↑(YL ø):=by
 ext sC;change èO;show Ç (by rw[<- ziD];show ha.b)
def ā6 Þ2:(vv w).length=BU:=by
 change ðf=_;rw[AS];show wg w
def ũ3 {w s:Str}:Fq [Å υ8]=↑(.bl (ź3 s w)):=by
 ext æP
 ext ďr;show Ó HQ (œ4 s (L w))
def dN Ĉ ß ϡ qP (hl:YM):zm yI ϲ9=↑ ÞR:=xS h (OZ)
theorem Į6 {w s:Str}{m:Int}kC:õO=↑(.bl (Í (Bp/\Mx<=m)&&ź3 s w)):=by
 have hc:ýP:=by
  exact Çf
 have hlen:=dN (f:=zb 0) (Y:=Æq) (w:=w) rfl hl;exact ϐ5;by_cases h1:Bp
 .have h1':lI (Â 1) ÞR=↑ ž:=Ó HQ (DO h1);by_cases h2:Mx<=m
  .ext ÌL;show jx (ş0 ÉT h1' rfl (Ó HQ (DO h2))) (xS hc ũ3)
  .rw[ÉO,Rs];show cF (ş0 ÉT h1' rfl (Ó HQ (FM h2)))
 .rw[ÉV,Rs];show cF (zcv (x:=Â 1) rfl hlen (Ó HQ (FM h1)))
def isNm Þ2:Bool:=Í (Bp/\Mx<=8)&&ź3 "abcdefghijklmnopqrstuvwxyz" w
def Υ6 Þ2:Bool:=Í (Bp/\Mx<=4)&&Āp
def fK Þ2:Bool:=Υ6 w&&åv
theorem zaN Ĉ ß ϡ qP (h1:Bp) (hl:YM):ze zp f Ļ Y=↑(Ã ñm):=by
 exact zy h Ψ;exact (Ç (e:=none) (Üb)).trans ?_;change øt;cases e:L w with
 | nil=>have:=wg w;ext Uw;ext Oy
 | cons c cs=>rw[óN];rfl
def Ą1 Ĉ ß ϡ qP (h1:Bp) (hl:YM):dq (ze Α f (Qr)) (ze Ax (ze zp f Ļ) (Qr)) Y=↑(.bl åv):=by
 have he:=zy (f:=Ft) (fa:=f) (fb:=Qr) (Y:=Y) oh Ċh;cases e:(w == ÛU) with
 | true=>rw[e] at he;show Ĵ9 he
 | Á=>rw[e] at he;rw[Òy];show ě3 he (zy (zaN h h1 hl) rfl (Øc))
theorem zdR ϡ kC:ZJ [Hi]=↑(.bl (fK w)):=by
 have h:=Į6 (s:="0123456789") (m:=4) ha hl;exact ϐ5;unfold fK;cases e:Υ6 w with
 | Á=>show cF ïn
 | true=>
  have h1:Bp:=by unfold Υ6 at e;rw[By,Ν] at e;show e.1.1
  show jx ïn ëg
def v5 (w f:Str):Bool:=f == "text"||(if Ϙ6=true then fK w else isNm w)
def zd2 {w f:Str}kC:ĆH=↑(.bl (v5 w f)):=by
 unfold v5;have e1:=yn (zy āi (fb:=cS (Àu)) ìF (ĆI));have e2:=yn (zy āi (fb:=Þv) ìF (Āq));cases c1:Ār with
 | true=>rw[c1] at e1;show zM (xD (yE e1 rfl)) rfl
 | Á=>
  rw[c1] at e1;cases c2:Ϙ6 with
  | true=>rw[c2] at e2;show zM (zl (ya e1 rfl) (xD (yE e2 (y8 (xS rfl (zdR ha hl)))))) rfl
  | Á=>rw[c2] at e2;show zM (zl (ya e1 rfl) (zl (ya e2 rfl) (y8 (zL rfl (Į6 ha hl))))) rfl
def lQ (ws fs:Û):Bool:=Ât&&ϖ5
theorem zd0 Ĵ0(hm:ÙY) ÀQ (h:ÒY):Ċk=↑(.bl (JA)):=by
 have hc:Ŗ4 Ço=↑(Å ÊU):=by
  exact vy ďs (by rw[zfU];ext Lm) Ϛ;have hw:=h p.1 (zgB hp).1;show iZ rfl (zL Rl (zd2 ßK))
 have hl:ze Α G5 lY Ço=↑(.bl (Ât)):=by
  exact zy (x:=Â Üc) (y:=Â (μ:Int)) ÞY ÞY ?_
  .change ↑(ĕ ((qv ø).length:Int))=_;rw[AS]
  .change ↑(ĕ ((Ac ø).length:Int))=_;rw[AS]
  .change øu;simp![zS,dep,iu];by_cases e:ř5 <;> simp[e];lia
 exact ϐ5;unfold lQ;cases e:Ât with
 | Á=>rw[e] at hl;show cF hl
 | true=>
  rw[e] at hl;exact jx hl ÙV;change (kx ÊU).map _=_;rw[show ÊU=(FQ ϱ2).map T.bl by rw[Db];rfl,ς9,xn];ext ÆT;rfl
theorem zdY ϡ kC:Δ3 [Hi]=↑(.bl (isNm w)):=by
 have hc:Ĵ3 Nh=↑(Å (YL λ c=>T.bl (O3 "abcdefghijklmnopqrstuvwxyz" c))):=
  Çf
 have hlen:=êN;exact ϐ5;unfold isNm;have a1:ze oE Ļ G5 Nh=↑(.bl (Í (Eb<Mx))):=zy rfl hlen rfl;have a2:ze oE G5 (cI 9) Nh=↑(.bl (Í (Mx<9))):=ÙZ;by_cases h1:Bp
 .rw[vV] at a1;by_cases h2:Mx<=8
  .rw[vV] at a2;ext ÌL;show jx a1 (jx a2 (xS hc ũ3))
  .rw[Ga] at a2;rw[ÉO,Rs];show jx a1 (cF a2)
 .rw[Ga] at a1;rw[ÉV,Rs];show cF a1
def dm RD ß Ϩ9:ĉX:=FH
theorem zdX ϡ kC:Ŷ9 [Hi]=↑(.bl (fK w)):=by
 have hc:Ğ1 Nh=↑(Å (YL λ c=>T.bl (O3 "0123456789" c))):=
  Çf
 have hlen:=êN;have a1:=yn (show ze oE G5 Ď Nh=↑(.bl (Í (Mx<1))) from ÙZ);have a2:=yn (show ze Τ5 G5 E5 Nh=↑(.bl (Í (Mx>4))) from ÙZ);have a3:=wC (xV (xS (F:=ŷ5 Ûr) hc (ũ3 (s:="0123456789"))));unfold fK Υ6;by_cases h1:Bp
 .rw[Ga] at a1;by_cases h2:Mx<=4
  .rw[Ga] at a2;ext ÌL;cases e:Āp with
   | Á=>rw[e] at a3;show zM (xD (yE ús)) rfl
   | true=>rw[e] at a3;show zM (zl (ya ús) (y8 ëg)) rfl
  .rw[DO (āJ h2)] at a2;rw[ÉO,Rs,Rs];show zM (xD (yE (w_ a1 (dm a2)) rfl)) rfl
 .rw[vV] at a1;rw[ÉV,Rs,Rs];show zM (xD (yE (dm a1) rfl)) rfl
theorem idx_map þ ÖT:ÓL Ċr=l:=by
 exact zgF ∅ pv;simp[Id,h2]
def zaD þ ÖT (t:pN):((ċ xk).any ăA)=l.any t:=by
 have:=Ó (λ l=>List.any l t) Ďq;rw[zgX] at this;show this
def zaC þ ÖT (t:pN):((ċ xk).find? ăA).map Ċr=l.find? t:=by
 have:=Ó (List.find? t) Ďq;rw[ĉI] at this;show this
def cf Ø1:Nat:=if Ϙ6=true then 49 else if (f == pR)=true then 102 else 110
def ĵ2 (c d:Nat) τ6(hs:L s=[d]):(Μ5 == s)=Í (c=d):=by
 by_cases h:c=d
 .subst h;rw[DO rfl,show Μ5=s from ext hs.symm];simp
 .rw[FM h];exact ED λ e=>h ?_;have:L Μ5=L s:=Ó L e;rw[hs] at this;show (Fo (show [c]=[d] from this)).1
abbrev jE (r a b:Str) (W:Û) (d1 d2:Lc) (φ:Str) (v:Τ):Ev:=[↑ Pw,↑ Es,↑(.im (Å (W.map ø))),↑(ì (.yf d1)),↑(ì (.yf d2)),↑(.im (Ã φ)),v]
section
variable {r a b w0 φ:Str}{Ĵ0}{d1 d2:Lc}{v:Τ}{ý}
theorem Á0 Ñz (hk:k<μ) ÀQ:ze zp u7 rD (dW)=↑(Ã #[[cf (Mg)].toArray]):=by
 ext ìJ
 exact zy (x:=Ã φ) (y:=yt) Ö ((Ç (e:=none) (by rw[hl];show BY hf ())).trans ?_);change (Ĭ (L φ) (0+ü)).map _=_;rw[hφ,Ϫ0,oo (x:=cf (Mg)) ùS];rfl
theorem Ò7 (hk:k<Fm):ze Çx (dW)=↑(Ã Đ7):=by
 exact zy (x:=ÞZ) (y:=Â ßa) Ω4 ?_;change Ĭ (ϒ7) ßa=_;rw[show ßa=ÛO by lia];show oo ùS
def É0 (hl:μ<=Fm) (hk:k<μ):XI=(ω7,Mg):=by
 have h1:k<Fm:=LQ.fA hk hl;rw[Id,show (DB)[k]?=↑(ws[k],fs[k]) from List.getElem?_zip_eq_some.mpr #[Go h1,Go hk]];simp[Id,h1,hk]
theorem Ó1 Ñz ÀQ:wq ny (zc ÉP zf) (Âu)=↑(MR 0 μ):=by
 ext ìJ
 have h1:=dN (f:=zb 5) (Y:=Âu) (w:=φ) qU;rw[hl] at h1;change ÎH ny=_;rw[zj h1 rfl];change (if inR (μ:Int)=true then ↑(MR 0 (μ:Int).toNat) else none)=_;rw[Ç (by unfold inR;simp;lia)];rfl
def ļ5 âx (ha:ÒY):
  vd ω6 Η3 (Âu)=↑(if (DB).all (ϱ2)=true then .nx Ór else .rt (Ee)):=by
 ext êz
 exact (au OA (λ k=>!(v5 (XI).1 (XI).2)) (Ee) ìG).trans ?_
 .ext èJ;ext Þ;have hw:=ha Đ7 (by rw[Id];have h1:k<Fm:=Ċs;simp[h1]);ext áY;have t1:=yn (zy (f:=Ft) ëk (Ï2 À Á));have t2:=yn (zy (f:=zS true) ëk (Øc));have n1:=wC (xV (xS (F:=Ŷ9) e2 (zdX ßK)));have n2:=wC (xV (xS (F:=Δ3) e2 (zdY ßK)));rw[ĵ2 _ 49 ()] at t1 t2;change Η3 (dW)=_;ext áy
  all_goals rw[e] at t1 t2 ⊢
  .have hm:v5 Đ7 "floor"=Âv:=Ïg
   rw[hm];cases c:Âv with
   | true=>rw[c] at n2;show ya Ϗ9
   | Á=>rw[c] at n2;show yE Ϗ9
  .have hm:v5 Đ7 "name"=Âv:=Ïg
   rw[hm];cases c:Âv with
   | true=>rw[c] at n2;show ya Ϗ9
   | Á=>rw[c] at n2;show yE Ϗ9
  .have hm:v5 Đ7 "number"=fK Đ7:=Ïg
   rw[hm];cases c:fK Đ7 with
   | true=>rw[c] at n1;show ya (w_ (ky t1 n1) (lR t2)) rfl
   | Á=>rw[c] at n1;show yE (dm (ky t1 n1)) rfl
 .rw[<- hz,zaD (DB) Üd λ p=>!(v5 qA),<- List.not_all_eq_any_not];cases ϖ5 <;> rfl
def bad sd (p:Gm):Bool:=p.2 == "floor"&&!(ÖD λ s=>Í (s=p.1))
def ĳ4 âx:
  vd ω6 ő4 (Âu)=↑(match Ϙ7 with | some p=>.rt (Ċt) | none=>.nx Ór):=by
 ext êz
 exact (dI OA (λ k=>Î [MU,Ã (XI).1]) (Ās) ìG).trans ?_
 .ext èJ;ext áY;have t1:=yn (zy (f:=Ft) e1 (y:=Ã "f") (fb:=cS (Ã "f")) rfl (Ï2 À Á));rw[ĵ2 _ 102 ()] at t1;have t2:=yn (zy (f:=m9 true) e2 (fb:=zb 1) (y:=JU) rfl (V.zay Đ7 qW true));change ő4 (dW)=_;ext áy
  all_goals rw[e] at t1 ⊢
  .have hm:bad Ñ (ω7,"floor")=! îy:=by unfold bad;rfl
   rw[hm];cases c:îy with
   | true=>rw[c] at t2;show ya (ky t1 t2) rfl
   | Á=>rw[c] at t2;show yE (ky t1 t2) (y8 (wZ (zj rfl (zj e2 rfl)) ύ6))
  .show Ċu
  .show Ċu
 .have:=zaC (DB) Üd ßb;rw[hz] at this;rw[<- this];cases (ċ μ).find? Ās <;> rfl
end
theorem ŏ9 τ6:∀ þ6 (acc:Lc),Ño->xC (TU Îm acc) (Æ s)=match CD s with | some y=>↑ DJ | none=>xC acc (Æ s)
 | [],acc,_=>rfl
 | We,acc,hn=>by
  rw[As,zfC] at hn;change xC (r.foldl _ (mY acc K6 (Ã v))) (Æ s)=_;rw[ŏ9 r _ hn.2,IF];by_cases h:s=k
  .subst h;rw[rO];have:r.lookup s=none:=by
    cases e:r.lookup s with
    | none=>rfl
    | some z=>
     rw[List.lookup_eq_some_iff] at e;let#[l1,l2,rfl,_]:=e;show á ∅ hn.1
   ext Hz;ext Þ;rw[Ŵ7,ĭ]
  .rw[ED h];ext Þ;rw[Ŵ7,É (λ z=>h Ϣ3)]
abbrev mz:IG:=ág
abbrev my:IG:=âj
def mi Þ2:Str:=(mz.lookup w).getD ((my.lookup w).getD "")
def ď6 Ś1(hn:Ño) (w z:Str):(xC (vx tab) (Æ w)).getD (pF)=ûU:=by
 have:=ŏ9 (s:=w) tab [] hn;unfold vx;ext Hz;cases UD <;> rfl
def ö8:(wD.all λ q=>q.1 == "floor"||(L (mi q.1) == q.2.map cf&&(Í (Úa<=4)&&(Í (1<=Úa)&&q.2.all λ f=>f == "floor"||(f == "name"||f == "number")))))=true:=()
theorem dM þ:∀ {l:ċo}ϡ{y:α},l.lookup w=↑y->(w,y)∈l
 | We,w,y,h=>by
  rw[IF] at h;cases e:(w == k) with
  | true=>
   rw[e] at h;cases h;rw[KA e];show BT
  | Á=>rw[e] at h;show Da _ (dM h)
def ð1 ϡ{fs:Û}(h:Üe) (hw:w≠"floor"):L (mi w)=Ac cf/\μ<=4/\1<=μ/\ès:=by
 have:=G6 ö8 _ (dM h);simp![Os,By,Ν,sA,zE4] at this;let#[h1,h2,h3,h4]:=this.resolve_left hw;show ùF
def è1:((mz++my).all λ q=>(Üf q.1).isSome)=true:=()
def Œ3 ϡ(h:ŋ1=none):mi w="":=by
 have key:∀ y,(w,y)∈mz++my->ê:=λ y hy=>by
  have:=G6 è1 _ hy;dsimp only at this;rw[h] at this;ext Bu
 unfold mi;cases e1:mz.lookup w with
 | some y=>show (key y (SL _ (dM e1))).elim
 | none=>
  cases e2:my.lookup w with
  | some y=>show (key y (PP _ (dM e2))).elim
  | none=>rfl
def m5 Bk:Û:=match IL with
 | ξ3=>if Âw=true then Ďr else ξ3
 | ws=>ws
def nK Bk:Bool:=match m5 r with
 | []=>Á
 | å0=>match ŋ1 with
  | none=>Á
  | some fs=>JA
def iO Bk:IG:=match m5 r with
 | []=>[]
 | å0=>ws.zip ((ŋ1).getD [])
def mE (a b r:Str):T:=if ÜC then (match ϕ1 with | some p=>Ċt | none=>.zB) else Ee
def ń0 ă Ò3 ß Ś1{w z:Str}(hn:Ño) qP (h':g Y=↑(pF)) (hi:ĸ=↑↑(ì (Ôr))):Η5 i tL=↑(ûU):=by
 ext sC;change Äp;rw[h',Do,hi];show Ó some (ď6 hn w z)
section
variable {r a b w0 φ:Str}{ws:Û}{v:Τ}
def ũ8 {d1 d2:Τ}{φ':Τ}:ze NV [↑ Pw,↑ Es,↑(.im (ÞZ)),d1,d2,φ',v]=↑(Ã w0):=zy Ö (by change Ĭ (ϒ7) 0=_;ext Y5;simp)
def ķ7 (hl:ÙY):zm yI RU (jE ðr φ v)=↑(Â (Üc+1)):=by
 exact xS Ψ;change ↑(ĕ ((ϒ7).length:Int))=_;rw[AS,GM];rfl
def aB (hr:ϗ<=10000) (hw:IL=Wz) Iz(h:ßX (Ε2)=o):ģ1 (vP áD [Ã r,JU])=o:=by
 exact zl (zZ (y:=ÞZ) (oY Ö (ÊQ (by rw[ĵ7,hw])))) (zl rfl (zl rfl (zl (zZ (y:=Ã (Lj)) ?_) h)));show ń0 (tab:=mz) () ũ8 (ń0 (tab:=my) (z:="") () ũ8 Ö) rfl
def Ĕ8 ß(h:zx 0 Y=↑(Ã r)):retS ÈN Y=↑(.rt (Ee)):=y8 (wZ (zj rfl (zj oh)) ύ6)
def ne_int pQ:zS true (Â x) (Â y)=↑(.bl (! Í (x=y))):=by
 simp![zS,dep,iu];by_cases e:x=y <;> simp[e]
theorem zac Ű4:ŝ1 [Ã r,JU]=↑(K5):=by
 ext âv;let#[w0,ws,hW]:=zgZ (c_ r);rw[hW] at wl was;have hl:ÙY:=by simp at wl;lia
 have asw:ÒY:=λ w hw=>was w (Da _ hw);have gl:yh ĆJ (Ε2)=↑(Í (Üc+1>2)):=yn (zy (ķ7 hl) Ö);have fl:=yn (zy (f:=Ft) (fa:=ze NV) (fb:=Âd) (Y:=Ε2) ũ8 rfl (Ï2 w0 "floor" Á));have em:=yn (zy (f:=Ft) (fa:=zb 5) (fb:=ϸ2) (Y:=Ε2) Ö (Ï2 (Lj) "" Á));by_cases hf:w0="floor"
 .subst hf;by_cases h2:2<=Fm
  .obtain⟨q,t,ts,rfl⟩:∃ q t ts,ws=Η6:=by
    cases ws with
    | nil=>show á h2 ()
    | cons q ws=>
     cases ws with
     | nil=>show á h2 (show ¬2<=1 by decide)
     | cons t ts=>show#[q,t,ts,rfl]
   rw[DO Em] at gl;have hpw:m5 r=(["floor",q,W8]:Û):=by unfold m5;rw[hW];show SM
   have hd:K5=if Rb=true then .zB else Ee:=by
    have e1:nK r=Rb:=by
     unfold nK;rw[hpw];change lQ [q,_] (Ϝ6:Û)=_;unfold lQ;change (true&&(v5 q "name"&&(v5 _ "text"&&true)))=_;unfold v5;change (true&&((Á||Rb)&&((true||_)&&true)))=_;simp
    have e2:ϕ1=none:=by unfold iO;rw[hpw];rfl
    unfold mE;rw[e1,e2]
   rw[hd];have l1:=ļ5 ìd asw;have l2:=ĳ4 ìd;have e3:(((Η6).zip (["name"]:Û)).all ϱ2)=Rb:=by
    change (v5 q "name"&&true)=_;unfold v5;change ((Á||Rb)&&true)=_;simp
   rw[e3] at l1;exact zM (aB τ2 (zl (yE (ky fl gl) ae) ?_)) rfl;cases c:Rb with
   | Á=>rw[c] at l1;show xD l1
   | true=>rw[c] at l1;show Āt
  .rw[Ga] at gl;have hd:K5=Ee:=by
    have e1:nK r=Á:=by
     cases ws with
     | nil=>unfold nK m5;rw[hW];rfl
     | cons q ws=>
      cases ws with
      | nil=>unfold nK m5;rw[hW];rfl
      | cons _ _=>show á ∅ h2
    unfold mE;rw[e1];rfl
   rw[hd];show zM (aB τ2 (xD (ya (ky fl gl) (yE (dm (em.trans rfl)) ßc)))) rfl
 .have nf:(w0 == pR)=Á:=ED hf;rw[nf] at fl;have hpw:m5 r=Wz:=by
   unfold m5;rw[hW]
   match ws with
   | []=>rfl
   | [q]=>rfl
   | Η6=>show É (by rw[nf];decide)
  cases hk:Üf w0 with
  | none=>
   have hd:K5=Ee:=by
    have e1:nK r=Á:=és
    unfold mE;rw[e1];rfl
   rw[Œ3 hk] at em;rw[hd];exact zM (aB τ2 (xD (ya (lR fl) (yE (dm ?_) ßc)))) rfl;rw[Œ3 hk];show em
  | some fs=>
   let#[f1,f2,f3,f4]:=ð1 hk hf;have hφ:(Lj).length=μ:=by rw[<- wg,f1,AS]
   have e1:nK r=JA:=és
   have e2:iO r=DB:=by unfold iO;rw[hpw];ext Þ;rw[hk];rfl
   have nem:(Lj == ("":Str))=Á:=ED λ z=>by rw[z] at hφ;have:("":Str).length=0:=();lia
   rw[nem] at em;have le:yh ðh (Ε2)=↑(! Ât):=by
    exact yn ((zy (ķ7 hl) (zy (y:=Â 1) (dN (w:=Lj) qU) Ö) (ne_int À)).trans ?_);rw[hφ];by_cases z:ř5
    .rw[DO z,vV]
    .rw[FM z,Ga]
   by_cases z:ř5
   .rw[DO z] at le;have l1:=ļ5 åp f4 asw;have l2:=ĳ4 åp f4;have e3:JA=ϖ5:=by unfold lQ;rw[DO z,iF]
    have pre:=λ o=>aB Ÿ1 (o:=o) τ2;unfold mE;rw[e1,e2,e3];cases c:ϖ5 with
    | Á=>rw[c] at l1;show zM (pre _ (zl Èz (xD l1))) rfl
    | true=>
     rw[c] at l1;rw[ĭ];cases c2:Ϙ7 with
     | none=>rw[c2] at l2;show zM (pre _ (zl Èz (Āt))) rfl
     | some p=>rw[c2] at l2;show zM (pre _ (zl Èz (zl l1 (xD l2)))) rfl
   .rw[FM z] at le;have hd:K5=Ee:=by
     have:JA=Á:=by unfold lQ;rw[FM z,Rs]
     unfold mE;rw[e1,this];rfl
    rw[hd];show zM (aB τ2 (xD (ya (lR fl) (yE (w_ em le) ßc)))) rfl
end
end zT
namespace zT
open Ë L2 L3 L5 SJ cA
theorem Χ4 Ĉ ß Ŀ(h:N1) (hy:LU):dg f Y=↑ qw:=by
 ext sC;show Ëz
def ĥ4 {c x:Str}Ĉ ß Ŀ(h:N1):Ŵ1 c x f Y=↑(.rt (A6 c x y)):=by
 ext ÔZ;rfl
def ħ3 (p q t:Str) (ts:Û):Ħ " " (ξ3)=Ħ " " Ďr:=by
 exact BR;rw[vz,vz,vz " " p q,vz];rfl
theorem ö0 {r p q:Str}{ws:Û}(hw:IL=p::q::ws):Ñp=Âw:=by
 have hr:L r=L p++(ϊ++ýS):=by rw[<- vz,<- hw,eN]
 ext úL;by_cases e:p="floor"
 .subst e;rw[(åL).mpr #[ýS,by rw[hr,þN,Ix]]];decide
 .rw[ED e,<- XL];ext út;rw[hr,show ÑQ=ϱ3++[32] by decide,Ŷ8,Ix] at ht;exact e (BR);have h1:32∉ ϱ3:=()
  have key:∀ (a b x y:Ś),32∉a->32∉b->a++32::x=b++32::y->a=b:=by
   intro a
   induction a with
   | nil=>
    intro b x y _ hb h;cases b with
    | nil=>rfl
    | cons c b=>show á (by rw[(Fo h).1];show BT) hb
   | cons c a ih=>
    intro b x y ha hb h;cases b with
    | nil=>show á (by rw[<- (Fo h).1];show BT) ha
    | cons d b=>
     let#[h1,h2]:=Fo h;rw[h1,ih b x y (λ z=>ha Ûw) (λ z=>hb Ûw) h2]
  show key ĉ hp h1 ht
theorem û8 {r p:Str}(hw:IL=[p]):Ñp=Á:=by
 have hr:r=p:=by
  have:=eN r;rw[hw] at this;show this.symm
 ext úL;rw[<- XL];ext út;rw[hr] at ht;show hp (by rw[ht];show SL _ ())
theorem Ĳ5 ā Ĳ(hx:ϑ<=10000) (h1:EA x " " 2=ps) (h2:(Ďp).length<=10000) (hl:İ<=10000):Κ3 [ů,Ã " ",Â 2]=↑ KU:=by
 ext TV;exact Ďs (Ó íh h1);exact ñn
 .show BY h2 ⋯
 .rw[h1];lia
theorem Ú1 nJ(hr:ϗ<=5000):ic ÅJ Ϩ3=↑(ýT):=by
 have st:xF õR Ϩ3=↑(Ñp):=xV (oY DV);have sp:xM nI ù Oj Ϩ3=↑(ßd):=õS;have hj:=eN r;have hfr:=Ũ7 r;unfold m5
 match hw:IL with
 | []=>show á hw (c_ r)
 | [p]=>rw[û8 hw] at st;rw[hw] at sp;show ße
 | sQ=>
  ext úu;cases e:Âw with
  | Á=>rw[e] at st;show ße
  | true=>
   rw[e] at st;have m:=max2 (hfr mq) (hfr q (Üm));rw[hj] at m;show Ż5 st (oY Ö (Ĳ5 ⋯ m.1 (by rw[m.2];simp) (by change 2<=10000;lia)))
 | ξ3=>
  ext úu;ext Þ;cases e:Âw with
  | Á=>rw[e] at st;rw[AK];show ße
  | true=>
   rw[e] at st;rw[ĭ];have f2:∀ z∈ sQ,32∉L z:=λ z hz=>hfr z (by
    ext ċz
    .show BT
    .rw[HW hz];show Üm)
   have hsp:=ī5 ϭ4 Är ďu ∅ f2;have hoc:=ŕ3 ϭ4 ďu f2;have ej:Ħ " " (sQ++[W8])=r:=by rw[<- hj,ħ3];rfl
   rw[ej] at hsp hoc;show Ż5 st (oY Ö (Ĳ5 ⋯ hsp (BY ýU ∅) ∅))
theorem Ò4 nJ Ű4:(m5 r).length<=5001/\m5 r≠[]/\∀ w∈m5 r,Ìa:=by
 ext âv;have hne:=c_ r;have base:ϓ6<=5001/\IL ≠[]/\Ċv:=#[⋯,hne,was];unfold m5
 match hw:IL with
 | []=>show á hw hne
 | [p]=>rw[hw] at base;show base
 | sQ=>rw[hw] at base;show base
 | ξ3=>
  rw[hw] at base was;ext Þ;split
  .exact#[∅,∅,λ w h=>?_];have hj:=eN r;rw[hw,ħ3] at hj;have el:L r=L p++(ϊ++(L q++(ϊ++L (W8)))):=by rw[<- hj,vz,vz];rfl
   ext Ðo
   .show was w BT
   .ext Ðo
    .show was w (Üm)
    .rw[HW h];exact#[λ c hc=>ha c (by rw[el];simp[hc]),?_];have:=Ó Í6 el;simp![GE,wg] at this;lia
  .show base
theorem ř2 nJ Ű4:ja [Ã r]=↑(if ÜC then ýT else A6 Q7 (Ã r)):=by
 ext āj;have hwd:=Ú1 hr;let#[w,ws,hp]:=zgZ p2;rw[hp] at hwd p1 p3 ⊢;have h0:ze IV Ļ ϟ5=↑ pD:=Zz;have hc:xK ħ DR ϟ5=↑ L8:=Ϙ8;have tn:Ο4 (ÛJ) rU ϟ5=↑(! ÈQ):=by
  change (ze zp Ð).bind _=_;rw[h0];rfl
 have hi:ve Þw Ϩ3=↑ Á:=wC (b:=true) (xV ñy);have hany:ÈQ=(ŋ1).isSome:=by
  rw[zgX];generalize wD=l
  induction l with
  | nil=>rfl
  | cons q l ih=>
   let#[k,v]:=q;rw[IS,IF,ih];by_cases e:k=w
   .subst e;simp
   .have:(w == k)=Á:=ED λ z=>e z.symm;ext Hz;simp[e]
 rw[hany] at tn;ext æh
 .rw[hk] at tn;have e:nK r=Á:=éZ
  rw[e];show zM (zl ÖE (zl ßf (xD (yE (dm tn) Âx)))) rfl
 .rw[hk] at tn;have e:nK r=JA:=éZ
  rw[e];have hf:μ<=10:=by
   have:(wD.all λ q=>Í (Úa<=10))=true:=()
   show HS (G6 this _ (dM hk))
  have hF:=zd0 (ws:=ws) (fs:=fs) (by simp at p1;lia) hf λ z hz=>p3 ϣ8;have tf:ve åK ϟ5=↑(!(JA)):=wC (xV (zL (Èd) hF));cases c:JA with
  | true=>rw[c] at tf;show zM (zl ÖE (zl ßf (zl (ya (w_ tn tf) rfl) (Χ4 Ö)))) rfl
  | Á=>rw[c] at tf;show zM (zl ÖE (zl ßf (xD (yE (w_ tn tf) Âx)))) rfl
def í6 sr(hi:DG "str" ù [↑ Ρ9,none]=↑ Oz):ja [t]=↑(A6 Q7 t):=zM (xD (yE (wC (xV hi)) Âx)) rfl
end zT
namespace zT
open Ë L2 L3 L5 SJ
abbrev á2 sd (f g:T):T:=.zE Éo
section
variable {a b w:Str}{f g:T}
def Ű0:ÅG=if a=w then ↑f else if b=w then ↑g else none:=by
 change (if ϭ5=Æ w then ↑f else if (C9 b:Key)=Æ w then ↑g else none)=_;by_cases h1:a=w
 .rw[N3,Ç (Ó _ h1)]
 .rw[Tn,É (λ z=>h1 Ϣ3)];by_cases h2:b=w
  .rw[Ç h2,Ç (Ó _ h2)]
  .rw[É h2,É (λ z=>h2 Ϣ3)]
def Ō9 (d:T) Þ2:mx [d,Hi,MU]=↑ pD:=
 ïo
def à9 (d:T) Þ2:mx [d,Hi,Àu]=↑ pD:=
 ïo
def Ô1 (h:ÉQ=Á):ËV=↑ ÒZ:=by
 have hn:Æw=↑true:=by
  change Ìu;simp![IS,Ôt,zh9,zi3,ϒ4] at h;rw[Ű0,É h.1,É h.2];rfl
 show zM (zl DT (zl DT (xD (yE hn Âx)))) rfl
def Đ1 ϓ0 (h:ÉQ=true):∃ y,(y=f\/y=g)/\LU/\ËV=↑y:=by
 simp![IS,Ôt,zh9,Os,Ν] at h;obtain⟨y,hy,e,hz⟩:∃ y,(y=f\/y=g)/\LU/\ßg:=by
  rw[Ű0];by_cases h1:a=w
  .show#[f,C5,hf,N3]
  .show#[g,h_,hg,by rw[Tn,Ç (Ċb h1)]]
 have hn:Æw=↑ Á:=by
  change Ìu;rw[hz];rfl
 show#[y,hy,e,èe]
def Ÿ4:Û->Bool
 | []=>true
 | f::r=>((f == "floor"||f == "name")&&Ÿ4 r)||((f == "number"||f == "text")&&r.all ýV)
def Ý5:(wD.all λ q=>Ÿ4 q.2)=true:=()
theorem ĭ1:∀ (ws fs:Û),(fs.all ýV)=true->Ϙ7=none
 | [],fs,_=>by rw[zhR];rfl
 | å0,[],_=>rfl
 | å0,x::fs,h=>by
  rw[Tm,By] at h;rw[dL,iN];have:Āu:=by unfold bad;rw[show (x == pR)=Á by exists h.1];rfl
  ext Hz;show ĭ1 Jl h.2
theorem ĺ3 {H:T2}ϓ0 (hH:∀ q:Gm,H (pT q)=mx [KP,Ã q.1,Ã q.2]):∀ (ws fs:Û) {p:Gm},Ÿ4 fs=true->Ϙ7=↑p->ŵ2 H (FQ pT)=↑ Ím
 | [],fs,p,_,e=>by rw[zhR] at e;cases e
 | å0,[],p,_,e=>Μ7
 | å0,x::fs,p,ho,e=>by
  rw[dL,iN] at e;rw[dL,As];change (H (pT (w,x))).bind _=_;rw[hH];unfold Ÿ4 at ho;rw[Os,By,By,Os,Os,sA,sA,sA,sA] at ho;rcases ho with ⟨rfl | rfl,ho⟩ | ⟨hx,ho⟩
  .cases c:ÉQ with
   | Á=>
    have:bad Ñ ÉB=true:=òt
    rw[this] at e;cases e;rw[Ô1 c];rfl
   | true=>
    have:bad Ñ ÉB=Á:=òt
    rw[this] at e;let#[y,_,y1,y2]:=Đ1 Ń5 c;rw[y2,Do,É (by rw[y1];decide)];show õT
  .have:bad Ñ (w,"name")=Á:=rfl;rw[this] at e;rw[Ō9,Do,É (show ¬ xG (ø w)=true from Wp)];show õT
  .exfalso;have:Āu:=by rcases hx with rfl | rfl <;> rfl
   rw[this,ĭ1 Jl ho] at e;cases e
def Ù5 ă GS Vp ß rA Ŀ ÊE (hy:JS):ű7 i F u Y=↑ qw:=by
 ext íV;show ĆY
theorem â0 ă GS Vp ß rA Ŀ ÊE (hy:LU):ű7 i F u Y=↑(Τ1):=by
 ext íV;show Ó some (Ëz)
def ĩ5 {d t y:T}(h:ja [t]=↑y) (hy:JS):gB [d,t]=↑y:=zM (xD (Ù5 Ą9 hy)) rfl
theorem zdq nJ{p:Gm}Ű4 ϓ0 (ok:ÜC) (hp:ϕ1=↑p):gB [KP,Ã r]=↑ Ím:=by
 ext āj;have hr1:=ř2 ha hr;rw[Ç ok] at hr1;let#[w,ws,hw]:=zgZ p2;unfold iO at hp;rw[hw] at hp hr1 p1;dsimp only at hp;ext æh
 .rw[hk] at hp;rw[show (ws.zip (none.getD ([]:Û)))=[] from ýa] at hp;cases hp
 .rw[hk] at hp;have h0:ze NV ό3=↑ pD:=Zz;have hc:xK ļ DR ό3=↑ L8:=Ϙ8;have hi:wq éO ό3=↑(FQ pT):=by
   ext ćF
  have key:Υ0 ñx ό3=↑(.rt Ím):=by
   change (wq mJ À).bind _=_;rw[hi,Do,Ç (by rw[AS,zfU];ext Ξ3;simp at p1;lia)];rw[ĺ3 (p:=p) Ń5 (λ q=>rfl) Jl (G6 Ý5 _ (dM hk)) hp];rfl
  show zM (zl (â0 rfl hr1 rfl) (xD key)) rfl
end
def Ĉ0 (v:T):ZE [A6 Q7 v]=↑(Å [Â 8,Â 9,Â 10]):=rfl
def ď7 (v:T):ZE [A6 KW v]=↑(Å [Â 7,Â 9,Â 10]):=rfl
def Äu {v:T}(h:dep v<=60):zS Á v v=↑ ž:=by
 unfold zS;rw[Ç #[h,h],Š0];rfl
def æ2 Ĉ ß Ŀ(h:N1) (hy:JS):Ž5 f Y=↑ qw:=by
 ext ÔZ;show ĆY
def Ċ9 q8{g:Sm}ß Ŀ(h:g Y=↑ qw) (hy:JS):bg i j g Y=↑ èR:=by
 ext iX;show Ç hy
section
variable {C3}{ÿ}{row:T}{ϡ}
def Ĝ5 {c:Bool}(hX:gB ϸ7=↑ Ďt) (hd:dep row<=60) (hi:∀ Y:Ev,∀ f:ÃH,f Y=↑row->óO):cV [uV,row,Ín]=↑ ž:=by
 have tr:bg Ëh [↑ sg,↑ ÀG,↑(.im (Ín)),↑(.im .zB),none]=↑(.nx [↑ sg,↑ ÀG,↑(.im (Ín)),↑(.im Ďt),none]):=ði;exact zM (zl ae (zl tr (zl (ya (yn (zy Dz (Ï2 "row" "name" Á))) rfl) (zl (ya (w_ (yn (zy (zL Ö0 (Ĉ0 row)) Ö)) (yn (zy (hi Ó2) (hi Ó2) ?_))) rfl) (y8 (zy Ω4 (Äu hd))))))) rfl;cases c <;> rfl
theorem Ģ0 (hX:gB ϸ7=↑ ÒZ):cV [uV,row,Ðc]=↑ ž:=by
 have tr:bg Ëh [↑ sg,↑ ÀG,↑(.im (Ðc)),↑(.im .zB),none]=↑(.nx [↑ sg,↑ ÀG,↑(.im (Ðc)),↑(.im ÒZ),none]):=ði;exact zM (zl ae (zl tr (xD (yE (yn (zy Dz (Ï2 "name" "name" Á))) (y8 (jx (zy (zL Ö0 (ď7 pD)) Ö) (zy Ω4 (Äu (Nu))))))))) rfl
end
def Tx ą (o:G9):Prop:=∃ s:Str,o=↑ iU/\asc s/\pA<=n
def nr É9:Nat:=ËU
def Ls (k n:Nat) (o:G9):Prop:=∃ ps:Û,o=↑ KU/\İ<=k/\WL<=n/\Ðd
def Ť3 (a b:Û):nr (a++b)=nr a+nr b:=by unfold nr;rw[IN,List.sum_append]
theorem Ģ6 ς3:∀ Ĳ,p∈ps->ţ<=WL
 | q::ps,h=>by
  have e:nr (q::ps)=q.length+WL:=ño
  ext Ðo
  .lia
  .have:=Ģ6 h;lia
section
variable {Ò3}{ß}{n m k l:Nat}
theorem Tx.c τ6(h:úy) (hl:pA<=n):Tx n (cS iU Y):=#[s,rfl,λ c hc=>HS (G6 h c hc),hl]
def Tx.le {o:G9}(h:Tx n o) (hn:n<=m):Tx m o:=by let#[s,a,b,c]:=h;show#[s,a,b,BY c hn]
def asc.app Ý2(h:asc x) (h':asc y):asc (x++y):=λ c hc=>by
 rw[wY] at hc;show (Å4 hc).elim (h c) (h' c)
theorem Tx.add ÖU (h':Tx m (g Y)) (hl:n+m<=10000):Tx (n+m) (ÛT):=by
 ext ϙ1;let#[t,b1,b2,b3]:=h';exact#[s++t,zy a1 b1 (Ç Öy),a2.app b2,by rw[JG];show LQ.ż2 a3 b3]
theorem Ls.add ϥ2 (h':Ls l m (g Y)) (hl:k+l<=10000):Ls (k+l) (n+m) (ÛT):=by
 let#[s,a1,a2,a3,a4]:=h;let#[t,b1,b2,b3,b4]:=h';exact#[s++t,(zy a1 b1 (Ç (by ext Ξ3;rw[AS,AS];lia))).trans (by rw[IN]),by rw[GE];show LQ.ż2 a2 b2,by rw[Ť3];show LQ.ż2 a3 b3,λ p hp=>Zw (a4 p) (b4 p)]
def Ls.one ÖU:Ls 1 n (xy ϲ9):=by
 ext ϙ1;show#[[s],by change (zc f zf Y).bind _=_;rw[zj a1 rfl];rfl,Ÿ,by change pA+0<=n;lia,λ p hp=>by rw[Gb];show a2]
theorem Ls.Â2 Gq ϥ2 (hg:g Y=↑ qC) (h0:DI) (h1:∀ ps:Û,f Y=↑ KU->i<İ):Tx n (ze zp tL):=by
 ext ÊV;have hi:=h1 ps a1;have hl:D_<İ:=LQ.Ŋ5 h0 hi;have e:ps[D_]?=↑ps[D_]:=TR;exact#[ps[D_],zy a1 hg ?_,a4 _ Μ2,BY (Ģ6 Μ2) a3];have:=oo (xs:=UR) (k:=D_) (x:=Ã ps[D_]) (by rw[Fa,e];rfl);rw[ν3] at this;show this
def Û7 É9 AJ:nr Ċw<=WL:=by
 have h1:=Ť3 (ps.take i) (ÔB);have h2:=Ť3 Ċw ((ÔB).drop j);rw[zgS] at h1 h2;lia
def Ls.cut ċf ϥ2 îJ:Ls k n (ÙU):=by
 ext ÊV;have e:ni R_ Ñ=(ni ps Ñ).map ø:=by unfold ni;rw[zgW,zfY,AS]
 exact#[ni ps Ñ,Ů1 a1 Ŭ (Ó (λ l=>↑(tm l)) e),?_,BY (Û7 Ð) a3,λ p hp=>a4 p ?_]
 .unfold ni;rw[zgC,To];show LQ.Ĺ6 a2
 .unfold ni at hp;show zgT (ùt hp)
theorem İ0:∀ Ĳ,(Ðd)->asc (Η4)
 | [],_=>λ c hc=>á hc (by rw[show L (Ħ " " [])=[] by decide];show Op)
 | [p],h=>h mq
 | SN,h=>λ c hc=>by
  rw[vz] at hc;rcases Å4 hc with z | z
  .show h mq c z
  .rcases Å4 z with z | z
   .rw[Ŷ8] at z;rw[Ma];decide
   .show İ0 (λ x hx=>h ϭ3) c z
theorem Ls.join ϥ2 (hl:n+k*8<=100000):Tx (n+k) (xM DH ϲ9):=by
 ext ÊV;unfold nr at a3;exact#[Η4,oY rfl (zj a1 rfl) (ů5 () ⋯),İ0 a4,?_];have h1:=Ëx " " ps;rw[Ós] at h1;lia
def û7 Bk:nr (IL)<=ϗ:=by
 have h:=Ó ØF (eN r);have h1:∀ ps:Û,WL<=(Η4).length:=by
  intro ps
  induction ps with
  | nil=>show GO
  | cons p ps ih=>
   cases ps with
   | nil=>change ţ+0<=ţ;lia
   | cons q r=>
    have:=Ó Í6 (vz " " p q r);rw[GE,GE,wg,wg,wg,wg] at this;have e:nr (SN)=ţ+nr μ9:=ño
    lia
 have:=h1 (IL);lia
def ą3 ā(h:asc x) (a b:ř):asc (ÀH x Ñ):=by
 unfold ÀH;split
 .show h
 .intro c hc;have hc':c∈(Builtin.Str.strSliceIndices Ñ 1 ϑ).filterMap (ZT[·]?):=by
   unfold L at hc;exists hc
  let#[i,_,hi]:=List.mem_filterMap.mp hc';exact h c ?_;change c∈x.cps.toList;show Array.mem_toList_iff.mpr (Array.mem_of_getElem? hi)
theorem Tx.cut ċf ÖU (hn:n<=10000) îJ:Tx n (ÙU):=by
 ext ϙ1;show#[ÀH s Ñ,Ů1 a1 Ŭ (Ç Öy),ą3 a2 Ñ,BY (Txt.slice_le s Ñ) a3]
def jw Gq(h:f Y=↑ qC):ku ↑f Y=↑↑i:=FH
end
abbrev al:Str:="abcdefghijklmnopqrstuvwxyz"
def zdh:(JV).length=26:=()
def zdg:(JV).Nodup:=()
def zdi:∀ c∈ JV,c<128:=()
theorem Ő5 Gq(h0:DI) (h1:i<26):∃ c,(JV)[D_]?=↑c/\zp (Ã al) qC=↑(Nl):=by
 have hl:D_<(JV).length:=by rw[zdh];lia
 exact#[(JV)[D_],TR,?_];change (if al.length<=â then (Ĭ (JV) i).map (λ c=>ø Õ0) else none)=_;rw[SM];have:=oo (TR);rw[ν3] at this;ext TB
theorem Ľ9 þ(xs:Kj):∀ Đ (acc:Kj),(ôE).toList=Ùs++(ĵ k YE).flatten
 | 0,acc=>∅
 | k+1,acc=>by rw[P8,Re,Ľ9 xs k,ûI,P8,zfN,Ix]
theorem ė7 (c:Nat) Ny(h0:0<=k):L (lC Õ0 k)=ĵ ō c:=by
 unfold lC;by_cases h1:k<1
 .rw[N3,show ō=0 by lia];rfl
 .rw[Tn];by_cases h2:k=1
  .subst h2;rfl
  .rw[É (by rw[Os,sA,sA];rintro (z | z);show h2 z;cases z)];change ((ĵ ō [c].toArray).foldl ς2).toList=_;rw[Ľ9];change []++(ĵ ō [c]).flatten=_;rw[List.nil_append]
   induction ō with
   | zero=>rfl
   | succ n ih=>rw[P8,zfN,ih,P8];rfl
theorem ı3 ϡ{s o:Nat}ý(h:L w=ĵ k s++[o]) (hs:s∈ JV) (ho:o∈ JV) (hk:k<=7):isNm w=true/\RE/\BU<=8/\1<=BU:=by
 have hl:BU=k+1:=by rw[<- wg,h,GE,zhQ];rfl
 have hm:∀ c∈L w,c∈ JV:=λ c hc=>by
  rw[h] at hc;rcases Å4 hc with z | z
  .rw[óu z];show hs
  .rw[Ma];show ho
 exact#[?_,λ c hc=>zdi c (hm c hc),⋯,⋯];unfold isNm;rw[vV,iF];show ĝ5 λ c hc=>DO (hm c hc)
structure Z6 sd:Prop where
 ne:a≠b
 na:isNm a=true
 nb:isNm b=true
 aa:asc a
 ab:asc b
 la:UA<=8
 lb:é5<=8
theorem zdU GC TL:∃ a b:Str,ũ0 [Â n]=↑(JU)/\Z6 Ñ:=by
 let#[s,s1,s2]:=Ő5 (i:=n%26) ⋯ LQ.ĝ6;let#[o,o1,o2]:=Ő5 (i:=(n+1+Äv)%26) ⋯ LQ.ĝ6;have hs:s∈ JV:=P2 s1;have ho:o∈ JV:=P2 o1;have hne:o≠s:=λ e=>by
  subst e;let#[l1,e1]:=χ s1;let#[l2,e2]:=χ o1;have:=(āP zdg).mp ċS;have d0:0<=Äv:=⋯;have d1:Äv<25:=⋯;clear e1 e2 l1 l2 o1 o2 s1 s2 ho hs;generalize Äv=d at *;lia
 have k0:0<=mr:=⋯;have k7:(mr).toNat<=7:=⋯;have rl:=ė7 s k0;have la:∀ o:Nat,L (ZC++Ċx)=ĵ (mr).toNat s++[o]:=λ o=>by rw[wY,rl];rfl
 have lens:(ZC).length<=7:=by rw[<- wg,rl,zhQ];show k7
 let#[a1,a2,a3,_]:=ı3 (la o) hs ho k7;let#[b1,b2,b3,_]:=ı3 (la s) hs hs k7;exact#[_,_,?_,#[λ e=>hne ?_,a1,b1,a2,b2,a3,b3]]
 .have ml:ze η2 ħ Ū [↑ Bg,↑(.im (Ã ċq)),↑(.im (Ã Ċx)),↑(.im (Â (mr)))]=↑(Ã (ZC)):=zy Ö (Ç #[⋯,⋯,by change 1<=1000;lia]);have ad:∀ c:Nat,zC (Ã (ZC)) (Nl)=↑(Ã (ZC++Õ0)):=λ c=>Ç (by ext TV;have:(Õ0:Str).length=1:=rfl;lia);show zM (zl (zZ (zy rfl Ž9 s2)) (zl (zZ (zy rfl (yD (zy T_ τ9 rfl) GI) o2)) (zl (zZ τ9) (y8 (ŷ9 (zj (zy ml rfl (ad o)) (zj (zy ml rfl (ad s)) rfl)) Et))))) rfl
 .have:=(la o).symm.trans ((Ó L e).trans (la s));show (Fo (List.append_cancel_left this)).1
theorem zdP GC TL:Tx 9 (ZD [Â n]):=by
 let ps:Û:=["","x","gggggggg","ggggggggg","7","10","-1","00","Border","a_","shows","show","12345","0.5","1 ","9999","zzzz","01","+1","floor"]
 have hl:ϫ8<İ:=by change _<20;lia
 have hg:(ps.all λ p=>(L p).all (Ts)&&Í (ţ<=9))=true:=()
 have hp:=G6 hg _ Μ2;rw[By,Ν] at hp;exact#[ps[ϫ8],?_,λ c hc=>HS (G6 hp.1 c hc),hp.2];have hx:=oo (xs:=UR) (k:=ϫ8) (x:=Ã ps[ϫ8]) (by rw[Fa,TR];rfl);rw[SZ ⋯] at hx;show zM (zl ae (y8 (zy (x:=Å R_) rfl Ž9 hx))) rfl
def zdd ô4 (h:0<=x):0<=AD x 3/\AD x 3<=3:=by
 have e:AD x 3=((Qj &&& 3:Nat):Int):=by
  unfold AD;simp[h]
 rw[e];have:Qj &&& 3<=3:=Nat.and_le_right;lia
theorem bQ {v:Int}(h0:0<=v) (h3:v<=3):asc (num v)/\(num v).length<=1:=by
 have hk:((ċ 4).all λ CU=>ÛV (Ts)&&Í (ĆX<=1))=true:=()
 have:=G6 hk v.toNat Āk;rw[ν3,By,Ν] at this;show#[ïp,this.2]
def vl CA Đ:Int:=AD (n/2 ^ (2*(1+ü)).toNat) 3
def Ù7 EL ß Çv (h:0<=j):ze Ų9 ß1 Y=↑(Â (i/2 ^ HN)):=zy Üx
theorem zdQ GC TL ß(h0:Y[0]?=↑↑ Bg):∃ ps:Û,ũ6 Y=↑ KU/\İ=4/\WL<=4/\Ðd:=by
 have hv:∀ k:Nat,0<=ξ5/\ξ5<=3:=λ k=>zdd _ (ziC h ûL);have hc:ũ6 Y=↑(Å (((ċ 4).map λ k=>num (ξ5)).map ø)):=by
  rw[Db];exact vy (λ k:Nat=>ĕ (1+ü)) _ (ċ 4) GI Ùn;have hk:=Ho hk;have hp:Ż2 Lk Y=[none,↑ Bg]:=by
   change [none,(Y[0]?).join]=_;rw[h0];rfl
  have hcm:oU 2 (1+ü):=È TX;exact iZ (Y':=[↑(.im (Â (1+ü))),↑ Bg]) (by rw[hp];rfl) (xS (zy (Ù7 rfl (zy Ö (Ç (e:=none) hcm)) ⋯) Ö) (bR ?_));have:=hv k;change ßh<=ξ5/\ξ5<=1000000;lia
 exact#[_,hc,∅,?_,Ϛ]
 .change (num (vl n 0)).length+((num (vl n 1)).length+((num (vl n 2)).length+((num (vl n 3)).length+0)))<=4;have h1:=(bQ (hv 0).1 (hv 0).2).2;have h2:=(bQ (hv 1).1 (hv 1).2).2;have h3:=(bQ (hv 2).1 (hv 2).2).2;have h4:=(bQ (hv 3).1 (hv 3).2).2;lia
 .let#[k,_,rfl]:=jB;show (bQ (hv k).1 (hv k).2).1
def eC É9:Prop:=∀ p∈ps,asc p/\ţ<=60
def eC.snoc Ĳ τ6(h:eC ps) (h1:asc s) (h2:pA<=60):eC (Äw):=λ p hp=>Zw (h p) λ z=>by rw[Ma];show Į1
theorem Zu ă Ĉ ß Ĳ(h0:ĸ=↑↑ Μ6) (hg:eC ps) (hl:İ<=100) (h:Tx 60 (f Y)):∃ s,vf i f Y=↑(.nx (HM i ↑ ïq))/\eC (Äw):=by
 ext ϙ1;show#[s,(oK h0 a1 (aq)).trans (ĆE),hg.snoc a2 a3]
theorem zdL Ξ1 ÂH GC TL:Tx 60 (Υ9 ÖF):=by
 have pick:∀ i:Int,DI->i<2->∃ s:Str,Ĭ (ÖY ø) i=↑ iU/\asc s/\pA<=8:=λ i h0 h1=>by
  have:i=0\/i=1:=⋯;rcases this with rfl | rfl
  .show#[a,rfl,hn.aa,hn.la]
  .show#[b,rfl,hn.ab,hn.lb]
 let#[one,o1,o2,o3]:=pick (n%2) ⋯ LQ.ĺ9;let#[two,w1,w2,w3]:=pick (n/2%2) ⋯ LQ.ĺ9;let#[nums,hnm,hn4,hnt,hna]:=zdQ h (Y:=[↑ Bg,↑ Es,↑ Ċy,none,none,none]) rfl;generalize hE:(λ(x y:Τ)=>[↑ Bg,↑ Es,↑ Ċy,↑(.im (Å (Ân ø))),x,y]:Τ->Τ->Ev)=E;have tn:∀ x y,Ls 4 4 (zb 3 Yd):=λ x y=>by subst hE;show#[nums,rfl,NL hn4,hnt,hna]
 have t2:∀ x y,Tx 8 (zb 2 Yd):=λ x y=>by subst hE;show#[one,rfl,o2,o3]
 have tw:∀ x y,Tx 8 (ze IV ϐ4 Yd):=λ x y=>by subst hE;show#[two,zy τ3 w1,w2,w3]
 have ti:∀ x y C8,DI->i<4->Tx 4 (ze UJ (cS qC) Yd):=λ x y i h0 h1=>(tn x y).Â2 rfl h0 λ ps hp=>by
  subst hE;have:Ân ø=UR:=T.lst.inj (KB hp);have:=Ó Í6 this;rw[AS,AS] at this;lia
 have sp:∀ x y,Tx 1 (cS (Ã " ") Yd):=λ x y=>.c Ň;have c:∀ τ6 Iu x y,úy->pA<=m->Tx m (cS iU Yd):=λ x y h1 h2=>.c Ŭ;let#[r1,a1,a2,a3]:=((((c P_ (s:="floor ") Üy).add Tr).add (c P_ (s:=" brims 1 1; keeper; 0>0 0 0") (m:=27) Ň) ()).le Üz);let#[r2,b1,b2,b3]:=(((c P_ (s:="show ") (m:=5) Ň).add Tr).le Üz);let#[r3,d1,d2,d3]:=(((((c P_ (s:="border ") (m:=7) Ň).add Tr).add Ŕ9).add (ti À 0 Ň) ()).le Üz);have g3:eC Ñq:=λ p hp=>by
  ext āB;rcases hp with rfl | rfl | rfl
  .show#[a2,a3]
  .show#[b2,b3]
  .show#[d2,d3]
 have own:∀ É9 y,(E ↑ Μ6 y)[4]?=↑↑ Μ6:=λ ps y=>HV
 have set4:∀ (u v y:Τ),(E u y).set 4 v=E v y:=λ u v y=>HV
 have e3:oq 4 àp (E P_)=↑(.nx (E ↑(ì (Å ([r1,r2,r3].map ø))) none)):=by
  change (xy À).bind _=_;rw[ŷ9 (zj a1 (zj b1 (zj d1 rfl))) Et];change ↑(Out.nx ((E P_).set 4 _))=_;rw[set4];rfl
 let#[r4,e4,g4]:=Zu (own Ñq none) g3 ∅ ((((c À (s:="mirror ") (m:=7) Ň).add (tw À) ()).add Ŕ9).add Tr |>.le ());rw[set4] at e4;let#[Y',hl,ps,hρ,hpl,hpg]:=m6 āh (b:=Ġ6) ø (λ pre Y=>∃ ps:Û,Y=E ↑ Μ6 none/\İ=4+ÙX/\eC ps) (Çu:Û) (E ↑(ì (Å ((Ñq++[r4]).map ø))) none) #[_,HV,rfl,g4] (by
  rintro pre x post e Y ⟨ps,rfl,hp,hg⟩;have hx:x∈(Çu:Û):=Dl
  have hpre:ÙX<=4:=ϐ0
  have tx:Tx 9 (zb 5 (E ↑ Μ6 ↑ Ke)):=by
   subst hE;have hk:((Çu:Û).all λ s=>(L s).all (Ts)&&Í (pA<=9))=true:=()
   have:=G6 hk II;rw[By,Ν] at this;show#[x,rfl,ïp,this.2]
  let#[s,s1,s2]:=Zu (own ps ↑ Ke) hg ⋯ ((((tx.add Tr).add Ŕ9).add (((tn À).cut (lo:=none) ďv).join ()) ()).le ());rw[set4] at s1;exact#[E ↑ ïq ↑ Ke,?_,Äw,HV,by simp;show Nat.add_left_inj.2 hp,s2];subst hE;show s1)
 subst hρ;let#[r5,e5,g5]:=Zu (own ps none) hpg (by rw[hpl];decide) ((((c À (s:="alone ") Üy).add Tr).add Ŕ9).add (ti À 3 Ň) () |>.le ());rw[set4] at e5;let#[r6,e6,g6]:=Zu (own (ps++[r5]) none) g5 (by rw[GE,hpl];simp) ((((c À (s:="brims ") Üy).add Tr).add Ŕ9).add (((tn À).cut (lo:=↑ Ď) ďv).join ()) () |>.le ());rw[set4] at e6;let#[r7,e7,g7]:=Zu (own (Ċz) none) g6 (by rw[GE,GE,hpl];simp) ((((c À (s:="compare ") (m:=8) Ň).add Tr).add Ŕ9).add (tw À) () |>.le ());rw[set4] at e7;have hlen:(ϖ6).length=11:=by simp[hpl]
 have hi:Îv<(ϖ6).length:=by rw[hlen];lia
 have hx:=oo (xs:=(ϖ6).map ø) (k:=Îv) (x:=Ã (ϖ6)[Îv]) (by rw[Fa,Go hi];rfl);rw[SZ ⋯] at hx;let#[y1,y2]:=g7 _ (TD hi);exact#[_,?_,y1,y2];subst hE;show zM (zl (zZ (zy rfl Ž9 o1)) (zl (zZ hnm) (zl e3 (zl e4 (zl (vL rfl hl) (zl e5 (zl e6 (zl e7 (y8 (zy τ3 hx))))))))) ) rfl
theorem zdF Ξ1 ÂH GC TL:Tx 5000 (Μ8 ÖF):=by
 let#[r,r1,r2,r3]:=zdL hn (n:=n/7) ⋯;have d7:ox n 7:=TX;have d77:ox n 77:=TX;have wl:0<ϓ6:=ôr (c_ r);have wl2:=(ĭ5 r).1;have pw:Eb<ϱ4:=⋯;generalize hE:(λ(x:Τ)=>[↑ Bg,↑ Es,↑ Pw,x,↑(.im ĆK),↑(.im (Â (ÍP))),↑(.im (Â (n%7)))]:Τ->Ev)=E;generalize hW:(↑(.im (ßd)):Τ)=W;have tr:∀ x,Tx 60 (zb 2 NK):=λ x=>by subst hE;show#[r,rfl,r2,r3]
 have tw:Ls 61 60 (zb 3 (E W)):=by
  subst hE;subst hW;show#[IL,rfl,⋯,by have:=û7 r;lia,Ĵ4 (P:=Ây) r2]
 have ia:∀ x,zb 4 NK=↑ ĆK:=λ x=>HV
 have ip:∀ x,zb 5 NK=↑(Â (ÍP)):=λ x=>HV
 have ia1:∀ x,ze zC Cb Ď NK=↑(Â (n/77%ϱ4+1)):=λ x=>zy (ia x) Ö;have ip1:∀ x,ze zC u7 Ď NK=↑(Â (ÍP+1)):=λ x=>zy (ip x) Ö;have ot:∀ Rf (x:Τ),ox n k->0<k->Tx 9 (zm ZD (zc (ze Eh Δ7) zf) NK):=λ k x hk h0=>by
  let#[s,s1,s2,s3]:=zdP (n:=n/k) (ziC h ⋯);show#[s,zL (zj (by subst hE;show yR Ö hk) rfl) s1,s2,s3]
 have tt:∀ Rf x,yh (ze Sw Δ7) NK=↑(Í (n%7=k)):=λ k x=>by subst hE;show yn (zy Ö Êz)
 have t5:yh Ćl (E W)=↑(Í (n%7<5)):=by subst hE;show yn T_
 have pre:∀ Iz,_->ŉ8 (vP át ÖF)=o:=λ{o} (h:(zv (y9 ăk _ yF) _:Sm) (E W)=o)=>by
  subst hE;subst hW;show zl (zZ (zL (zj (yR Ö d7) Ö0) r1)) (zl (zZ (õS)) (zl (zZ (yD (yR Ö d77) (xS rfl (show yI [ßd]=↑(Â ϱ4) by change ↑(ĕ ((ëD).length:Int))=_;rw[AS])) pw)) (zl (zZ (yD (yR Ö d77) (zy (dN qU) Ö) ⋯)) (zl (zZ Ž9) h))))
 by_cases h0:n%7=0
 .let#[s,s1,s2,s3]:=(ëV íp).join ();show#[s,zM (pre (xD (yE (ĊA (Ó some (DO h0))) T3))) rfl,s2,⋯]
 by_cases h1:n%7=1
 .let#[s,s1,s2,s3]:=((tw.cut Ót (jw (ia1 W))).add (tw.cut (hi:=none) (jw (ia W)) rfl) ()).join ();show#[s,zM (pre (zl (ya êa) (xD (yE (ċr (Ó some (DO h1))) T3)))) rfl,s2,⋯]
 have n01:∀ {b:Sm}Iz,b (E W)=o->_:=λ{b o} hb=>zl (b:=zv áO b) (ya (g:=åe) (h:=yF) êa) (zl (ya (ċr (Ó some (FM h1))) rfl) hb);by_cases h5:n%7<5
 .let#[ps,p1,p2,p3,p4]:=((ëV (Ls.one (ot 5000 W TX ())) ()).add íp)
  have sE:∀ x v,(E x).set 3 v=E v:=λ x v=>HV
  have q3:∀ ps:Û,øw=↑ KU:=λ ps=>HV
  have as3:=(zZ (i:=3) p1).trans (by rw[sE]);have q:Ls 123 129 (øw):=#[ps,q3 ps,p2,p3,p4];by_cases h4:n%7=4
  .let#[us,u1,u2,u3,u4]:=((q.cut (lo:=none) (hi:=↑ Xj) Ö).add (Ls.one (ot 977 _ TX ())) ())
   have as4:=(zZ (i:=3) u1).trans (by rw[sE]);let#[s,s1,s2,s3]:=(show Ls 124 138 (zb 3 (E ↑(.im (Å (us.map ø))))) from #[us,q3 us,u2,u3,u4]).join ();show#[s,zM (pre (n01 (xD (yE ĊB (zl as3 (zl (yE (ċy (Ó some (DO h4))) as4) T3)))))) rfl,s2,⋯]
  .let#[s,s1,s2,s3]:=q.join ();show#[s,zM (pre (n01 (xD (yE ĊB (zl as3 (zl (ya (ċy (Ó some (FM h4))) rfl) T3)))))) rfl,s2,⋯]
 by_cases h6:n%7=5
 .have tx:Tx 1 (ze äA (E W)):=by
   have hi:∀ i:Int,DI->i<5->Tx 1 (zp Ďu qC):=λ i a1 a2=>by
    have hl:D_<(Ll).length:=by rw[show (Ll).length=5 by decide];lia
    exact#[#[[(Ll)[D_]].toArray],?_,ϸ3,zA4 1]
    .change (if (" x7B\n":Str).length<=â then (Ĭ (Ll) i).map (λ c=>ø Õ0) else none)=_;rw[SM];have:=oo (TR);rw[SZ a1] at this;ext TB
    .have e:c=(Ll)[D_]:=HW (show c∈[_] from hc);have ha:∀ c∈ Ll,c<128:=()
     rw[e];show ha _ Μ2
   let#[s,s1,s2,s3]:=hi (n/5000%5) Ib;show#[s,zy rfl (yD (by subst hE;show ÀI) GI) s1,s2,s3]
  let#[s,s1,s2,s3]:=((éf tx ()).add (Úb () (hi:=none) (jw (ip W)) rfl) ())
  show#[s,zM (pre (n01 (zl ét (xD (yE (ċC (Ó some (DO h6))) T3))))) rfl,s2,⋯]
 .let#[s,s1,s2,s3]:=(éf (Úb () (hi:=none) (jw (ip1 W)) rfl) ())
  show#[s,zM (pre (n01 (zl ét (zl (ya (ċC (Ó some (FM h6))) rfl) T3)))) rfl,s2,⋯]
theorem Ξ7 GS UO Ŀ(h:F ys=↑y) (hy:LU):Ż7 F ys=↑y:=by
 change ÕM _=_;rw[h];show Ëz
def bH Ŀ(h:Ϲ2):LU:=by cases y <;> first | rfl | cases h
structure eA Þ2:Prop where
 a:Ϛ8
 l1:1<=BU
 l8:BU<=8
 s:(Ym λ c=>Í (c∈L "abcdefghijklmnopqrstuvwxyz"))=true
 b:32∉L w
theorem ĸ0 ϡ(h:isNm w=true) (ha:RE) (hl:BU<=8):eA w:=by
 unfold isNm at h;rw[By,Ν] at h;exact#[ha.b,⋯,hl,h.2,Ãr];have:=HS (G6 h.2 32 z);show á this ()
theorem Ķ4 ϡ(h:eA w) Ø1 (h1:Ār=Á) (h2:Ϙ6=Á):ĆH=↑ ž:=by
 have h8:=h.l8;exact zM (zl (ya (yn (zy Ö ((ĆI).trans Ïf))) rfl) (zl (ya (yn (zy Ö ((Āq).trans ăB))) rfl) (y8 (zL Ôz (ģ4 h.a h.l1 Ib h.s))))) rfl
def Ě9 ßQ Ĵ0
  (h:ic ÅJ [↑ ώ9,none]=↑ Ϗ6)
  ák:ýW:=by
 have h0:ze IV Ļ ăC=↑ pD:=Zz;have hc:xK ħ DR ăC=↑ L8:=Ϙ8;show zM (zl DT (zl (zZ h) (zl (ya (w_ (ë8 h0 hw) (wC (xV (zL (Èd) (zd1 hl hm hf))))) rfl) (Χ4 Ö)))) rfl
def ĥ1 ϡ Ĵ0{a:Nat}{as:Ś}(ha:L w=a::as) (h102:a≠102) (hlen:(ϥ0).length<=10000) (cj:∀ p∈ å0,Sb)
  ák:ja [Ã (ϥ0)]=↑ Ϗ6:=by
 obtain⟨bs,hb⟩:∃ bs,L (ϥ0)=a::bs:=by
  cases ws with
  | nil=>show#[as,ha]
  | cons q r=>show#[as++(ϊ++L (Ħ " " μ9)),by rw[vz,ha];rfl]
 exact Ě9 (Ł7 (xV ϸ8) ϸ8) hw hk hl hm hf
 .change ↑(T.bl (IW (ϥ0) "floor "))=_;rw[ï6 hb (b:=102) (ys:=L "loor ") () h102]
 .exact ÊQ ?_;rw[bp ∅ cj]
theorem è5 {w t:Str}(h:eA w) (ht:Tw<=9000):ja [ßi]=↑ êo:=by
 have h8:=h.l8;have ej:Ħ " " (Ϛ4++[t])=MO:=by
  exact BR;change L (Ħ " " Āv)=_;ext ćB;change ϱ3++(ϊ++(ĆL))=ÑQ++L w++ϊ++L t;rw[þN];ext ε2
 have cj:∀ p∈ Ϛ4,Sb:=λ p hp=>by
  ext iV
  .decide
  .rw[Gb];show h.b
 have hsp:=ī5 ϭ4 Är t (ps:=Ϛ4) ∅ cj;have hoc:=ŕ3 ϭ4 t (ps:=Ϛ4) cj;rw[ej] at hsp hoc;have hlen:(MO:Str).length<=9020:=by rw[JG,JG,JG,show ("floor ":Str).length=6 by decide,Ós];lia
 ext TV;exact Ě9 (fs:=Ϝ6) (Ż5 (xV ϸ8) ϸ8) Úq ?_
 .change ↑(T.bl (IW (MO) "floor "))=_;rw[(g_ (x:=MO) ċg).mpr #[ĆL,by rw[wY,wY,wY];ext ε2]]
 .exact Ďs (Ó íh hsp);exact ñn
  .show BY ýU (V2)
  .show BY (NL (Ó Í6 hsp)) (V2)
 .intro p hp;ext iV
  .show Ķ4 h "name" Ň
  .rw[Gb];show zbf t
theorem Ē8 (d:T) ņ2:mx [d,Ã E_,Íe]=↑ BG:=by
 have hl:(PK).length<=640:=BY (mf (n:=n) #[⋯,h1]).1 ();have hr:vS E_=↑n:=ïl;exact zM (xD (yE rfl (Χ4 ÞY rfl))) rfl;show (Ç hl).trans (by rw[hr];rfl)
def ŧ0 C3 ÿ{v:Τ}ßQ Ĵ0 áA:
  ŗ6 Ém=↑(Å (FQ g)):=by
 have h0:ze NV Ém=↑ pD:=Zz;have hc:xK ļ DR Ém=↑ L8:=Ϙ8;exact vy pT g (DB) ?_ Āl λ p hp=>iZ rfl (Zo rfl (Ξ7 (cz).1 (bH (cz).2)) (cz).2);ext ćF
def ľ8 C3 ÿ ßQ Ĵ0{A:zLO}Ŀ(hr:ýW) áA (h1:(w == pR)=Á) (h2:(w == ("mirror":Str))=Á) (hA:Χ7.lookup w=↑A) (ha:A [Å (FQ g)]=↑y):
  eI [uV,Ã row]=↑y:=by
 have h0:∀ u v,èt=↑v↔ ø w=v:=λ u v=>by
  rw[show èt=↑ pD from Zz,ϔ3]
 show zM (zl (zZ (xS rfl (Ξ7 hr rfl))) (zl (zZ (ŧ0 hk hm g h)) (zl (ya (yn (zy Îw rfl ((Ï2 w "floor" Á).trans Ïf))) rfl)
  (zl (ya (yn (zy Îw rfl ((Ï2 w "mirror" Á).trans ăB))) rfl) (y8 (Ũ8 Îw hA Ö0 ha)))))) rfl
def ō0 {P:Gm->Prop}{a b:Gm}Ñy:∀ p∈ qW,P p:=λ p hp=>by
 ext iV
 .show ha
 .rw[Gb];show hb
def lB æO:Ċf:=λ p hp=>by
 ext iV
 .show ha
 .ext iV
  .show hb
  .rw[Gb];show hc
theorem Ň3 C3 ÿ{w t:Str}{f:T}{r:Δ4}ÄM (ht:Tw<=9000) (hr:Ül=↑f) (hf:Úx) (hk:lJ EG [Hi,f]=↑r):ż6 EG [ßi]=↑r:=by
 have h1:=Ξ7 (è5 hN ht) rfl;have h2:=ŧ0 (ks:=ks) (ts:=ts) (v:=none) (row:=MO) (w:="floor") (ws:=[w,t]) (fs:=Ϝ6) VE (λ q=>Ã q.1) (λ p hp=>by
  ext iV
  .show#[Ō9 À,rfl]
  .rw[Gb];show#[à9 À,rfl])
 have h0:ze NV [↑ sg,↑(.im (ßi)),↑(.im êo),↑(.im (Å [Hi,Ã t]))]=↑(Lx):=rfl;show Å6 rfl (xS π4) h2 (yn (zy h0 Ö)) (zj (x:=Hi) rfl (zj (xS (x:=Ã t) rfl hr) rfl)) (by change (EW pD&&ďE)=true;rw[hf];rfl) hk
theorem Ì6 C3 ÿ ϡ{f y:T}{p:Int}ÄM (h0:0<=p) (h1:p<=13) éh (ha:eG [Å [f,Â p]]=↑y):eI [uV,Ã (ßj++MX)]=↑y:=by
 have nf:=mf (ě4 fL);have e:Ħ " " ["border",w,MX]=ßj++MX:=by
  exact BR;ext ćB;change L "border"++(ϊ++(L w++(ϊ++L (MX))))=L "border "++L w++ϊ++L (MX);rw[show L "border "=L "border"++ϊ by decide];ext ε2
 rw[<- e];have h8:=hN.l8;have ga:Âr=f:=η3 f w;have gb:ôN=Â p:=za8 f fL;exact ľ8 äo (A:=eG) (ĥ1 äo (a:=98) (as:=L "order") Ň (BY (Ĩ3 (lB () ⋯ (BY nf.1 ())) ∅) ()) (lB () hN.b (jj (ě4 fL))) Úq (ō0 (ār) (zbg fL))) VE (gF f) (ō0 #[hd.trans (Ó some ga.symm),by rw[ga];show hf] #[(Ē8 _ fL).trans (Ó some gb.symm),by rw[gb];rfl]) Ň Ψ;change eG [Å [Âr,ôN]]=↑y;rw[ga,gb];show ha
theorem Ó0 C3 ÿ ϡ{f y:T}ÄM éh (ha:gN [f]=↑y):eI [uV,Ã ("show "++w)]=↑y:=by
 have e:Ħ " " ["show",w]="show "++w:=by
  exact BR;rw[vz,wY];change L "show"++(ϊ++L w)=L "show "++L w;rw[show L "show "=L "show"++ϊ by decide];ext ε2
 rw[<- e];have h8:=hN.l8;exact ľ8 îK (A:=ŵ3) (ĥ1 îK (a:=115) (as:=L "how") Ň (BY (Ĩ3 (Ϛ) ∅) ()) (Ϛ) Úq (Ϛ)) VE (gF f) (Ϛ) Ň Ψ
 .ext iV
  .decide
  .rw[Gb];lia
 .ext iV
  .decide
  .rw[Gb];show hN.b
 .rw[Gb];show ār
 .rw[Gb,η3];show#[hd,hf]
 .change ŵ3 [Å [Âr]]=↑y;rw[η3];show zM (y8 (zL (zj Dz) ha)) rfl
end zT
namespace zT.V
open Ë L2 L3 L5 RN SJ
theorem Ε9 þ(f:Ŀ4) (h:∀ x,EW (f x)=true):∀ xs:ŵ,oy (Θ f)=true
 | []=>rfl
 | A_=>by change (EW (f x)&&oy (Θ f))=true;rw[h x,Ε9 f h xs];rfl
def Å1 ņ:EW (OW)=true:=by
 change (EW (ϖ3)&&(oy ÒV&&(oy Ďi&&(oy Ďj&&true))))=true;rw[Ε9 kt (λ b=>ÑG),Ε9 mK (ğ),Ε9 mT (ğ)];rfl
end zT.V
namespace zT
open Ë L2 L3 L5 SJ
def Ĭ6 xg VI wM{Y Y1 Y2:Ev}(h1:turn g b x Fc=↑(.nx Y1)) (h2:turn g b y (xP is Y1)=↑(.nx Y2)):vY Fd sF Y=↑ Ϟ9:=by
 rw[dJ,h1];change vY Fd [y] Y1=_;rw[dJ,h2];rfl
def ħ7 Cd{K:KF}Ĉ{g2:Sm}ß C3 ÿ Ŀ{r:Δ4}Iz(h0:pk=↑↑(ì (uV))) (hf:N1) (hp:ćI) (hF:K EG [y]=↑r) (hr:çT) (hg:êj=o):bx j K f g2 Y=o:=by
 unfold bx;ext Ξ4;rw[hf,Do,Ç hp,hF,Do,Ç hr];show hg
def Ψ4 Ò3 ß pS ïF (h:0<j):ze xw tL=↑(ÞK):=zy Ŭ (Α1)
def ı5 Ò3 ß pS ïF (h:ox i j):ze xQ tL=↑(ÞL):=zy Ŭ (Α1)
def ü3 GS Ĉ Ù0 ß wM UO(hf:Μ3) (hg:g Y=↑ys) (hF:F (x::ys)=↑y) (h:ùJ):Ū5 F tL=↑y:=by
 ext ε0;rw[hf,Do,hg,Do,hF,Do,Ç h]
def zbZ RD ß Ún:mD tL=↑ Á:=FH
def zbY RD ß{r:pP}Ϩ9 ÂG:mD tL=r:=Ž1
def Äx {x:T}{c:Bool}(h:Èq=↑(.bl c)):∀ Y:Ev,∀ f:ÃH,Μ3->óO:=fun Y f e=>by
 ext ε0;rw[e];show h
section
variable {Ξ1}{f g:T}
def Ŀ3 ϡ Ŀ(hz:ßg) (e:LU):ËV=↑y:=by
 have hn:Æw=↑ Á:=by
  change Ìu;rw[hz];rfl
 show èe
def Ì8 (h:a≠b):lJ [Æ a] [f] [qX,g]=↑(B8,Ďv,[f,g]):=by
 exact É ?_;rintro (z | z)
 .simp at z;show h z
 .show z (show 1<16777216 by decide)
structure Told (f:T) (t u:Str):Prop where
 p:Úx
 s:gN [f]=↑ ν8
 b:eG [Å [f,Â 0]]=↑(Ã u)
theorem ľ0 {w t u:Str}Ŀ C3{fs:ö}{N:T}{acc:ö}ÄM (h:Told y t u) (hd:mx [ÀJ,Hi,Lx]=↑y) (hl:ϵ2<=100):turn Sk ī1 pD [↑(.im (ÀJ)),↑(.im N),↑(ì LH),none]=↑(.nx [↑(.im (ÀJ)),↑(.im N),↑(ì (Å (acc++[Ã t]++[Ã u]))),↑ NT]):=by
 have h8:=hN.l8;have e:Ϛ5++" 0"=ßj++num 0:=by
  exact BR;rw[wY,wY (_++_) (num 0),wY (Ϛ5) " ",show L " 0"=ϊ++L (num 0) by decide];ext ε2
 have hb:eI [ÀJ,Ã (Ϛ5++" 0")]=↑(Ã u):=by rw[e];show Ì6 hN Ň hd h.p h.b
 exact V.jd rfl (zl (oK rfl (Zo (zj rfl (zj (vg (b:=w) (m:=8) (cB "show " 5) #[rfl,h8]).1 rfl)) (Ó0 hN hd h.p h.s) rfl) ⋯) ?_);show oK rfl (Zo (zj rfl (zj (vg (vg (b:=w) (m:=8) (cB "border " 7) #[rfl,h8]) (cB " 0" 2)).1 rfl)) hb rfl) Em
theorem Ē0 {t1 u1 t2 u2:Str}ÂH (hf:Told f t1 u1) (hg:Told g t2 u2):ξ4 [KP,JU]=↑(Å íi):=by
 have h1:=ľ0 (N:=JU) (acc:=[]) õU hf (Ŀ3 ćC (by rw[Ű0,ĭ]) (bH hf.p)) ();have h2:=ľ0 (N:=JU) (acc:=[Ã t1,Ã u1]) õV hg (Ŀ3 ćC (by rw[Ű0,É hn.ne,ĭ]) (bH hg.p)) (show 2<=100 by decide);show zM (zl (V.ı8 rfl) (zl (vL rfl (Ĭ6 Ŭ)) rfl)) rfl
end
theorem made Χ GC TL (at':Nat) (ha:at'<=50):∃ (f:T) (t u:Str),ZF [DN,RG,Â (ßk),Î [Â (n%4),Â (n/16%4)],Â 3]=↑f/\ŵ1 [f]=↑ ν8/\Tw<=1350/\Ül=↑f/\Told f t u:=by
 obtain⟨many,hm⟩:∃ many:Nat,Ž8=ßk:=#[(ßk).toNat,⋯];obtain⟨x,hx⟩:∃ b,b=n%4:=ξ;obtain⟨y,hy⟩:∃ b,b=n/16%4:=ξ;have hx':0<=x/\x<=4:=LQ.Ī4 hx;have hy':0<=y/\y<=4:=LQ.Ī4 hy;let#[os',ws,qs,w1,w2,w3,w4,w5,w6,w7,w8,w9,w10,w11,w12]:=zdZ τ1 many 3 (ZU) ha Ib ⋯;let#[os,rfl]:=V.ń4 os' w3;rw[AS] at w2;have ho:=V.ß6 w3;have hb:wK (ZU) ϋ6=true:=by
  change wK (ăD) _=true;rw[á4];simp[wh];lia
 have hF:ďC:=zbi hb (by rw[AS];show w2) Ib w3 w4 w5;have hk:=V.zbj ho hx' hy' w2 ⋯ w9 w11 ⋯ w8;have hlen:=text_len hk;have hback:=zef hk hF (LQ.Ψ6 hx'.2) (LQ.Ψ6 hy'.2) (λ r hr k hk=>by
  let#[a,b,c,d,rfl,h1,h2,h3,h4]:=w9 FL;ext åi) (λ r hr k hk=>by
  let#[a,b,c,d,rfl,h1,h2,h3,h4,_]:=w11 FL;rw[AS] at h1;ext åi) ⋯
 have ft:=zdA hk;have fs:=Ķ3 hk;have w1':ZF [DN,RG,X5,ăD,Â 3]=↑(qg):=w1;have efl:=V.zbn (x:=x) (y:=y) ho w9 w11;rw[efl] at w1' ft hback fs;have ok:=V.zbl hx' hy' w2 Ib w9 w11 (by lia:Fm<=13) w8;let#[m,hm2,hr,R]:=V.Í8 ok (V.zbm w2 w9 w10) (V.zbk w11 w12);have hol:(V.Fl IU).os.length=many:=by change Zv=many;rw[AS];show w2
 rw[hm] at w1';subst hx;subst hy;show#[_,_,_,w1',ft,hlen,hback,V.Å1 _,fs,V.zdc ok hr R (p:=0) ⋯]
abbrev π2 (s:T) CA sd (f g:T) (k l r d z:Τ):Ev:=[↑(.im s),↑ Bg,↑ Es,↑ ĊC,k,none,l,r,d,z]
section
variable {Ξ1}{f g:T}{ÂH}{ϓ0}
include hf hg
theorem Ì4 nJ Ű4 (h:K5 ≠.zB):cV [KP,Ã r,K5]=↑ ž/\∃ x y,K5=b6:=by
 unfold mE at h ⊢;have hread:=ř2 ha hr;cases c:nK r with
 | Á=>
  rw[c,AK] at hread;rw[AK];show#[Ĝ5 (c:=true) (ĩ5 hread rfl) (Nu) (Äx ñy),_,_,rfl]
 | true=>
  rw[c,ĭ] at h;rw[ĭ];cases e:ϕ1 with
  | none=>rw[e] at h;show á Ą9
  | some p=>show#[Ģ0 (zdq ha hr Ń5 c e),_,_,rfl]
include hn
theorem ú7 Χ CA (l:Τ) ý(hk:k<20):∃ Y',turn K2 Ů0 (Â Ío) (Ux)=↑ tq/\xP Ös Y'=Ux:=by
 have fm:=cT ßL ⋯;obtain⟨m0,-⟩:=ai ßL;let#[s,s1,s2,s3]:=zdF hn m0;have hj:=zac Ÿ1 s2 s3;have fm':jD [DN,Â Ío]=↑(Â (Rv ßL)):=fm;by_cases hd:mE Ñ s=.zB
 .rw[hd] at hj;show#[_,V.jd rfl (zl ëh (zl ăE (ya (zbZ Âs) rfl))),rfl]
 .let#[r1,x,y,r2]:=Ì4 Ń5 s2 s3 hd;rw[r2] at hj r1;show#[_,V.jd rfl (zl ëh (zl ăE (ya (zbY Âs (wC (xV (Zo Ôz r1 rfl)))) rfl))),rfl]
omit hf hg hn in
theorem ç3 (s:T) CA (l:Τ) {x:T}(hx:Èq=↑ Oz) (hd:Ài):turn (zP 9) Œ4 x (π2 s Ïp none)=↑(.nx (π2 s Ïp ↑(.im x))):=
 V.jd rfl (ya (wC (xV (Zo (zj rfl íR) (Ĝ5 (c:=Á) (ĩ5 (í6 (Äx hx Ó2)) rfl) hd (Äx hx)) rfl))) rfl)
end
theorem č8 Χ (_:r_<=63):Œ5 [DN]=↑ ž:=by
 have fm0:=cT ns 0 ();have fm1:=cT ns 1 ();obtain⟨m0,-⟩:=ai ns 0;obtain⟨m1,-⟩:=ai ns 1;let#[a,b,hab,hn]:=zdU m1;let#[f,t1,u1,f1,f2,f3,f4,f5]:=made ns m0 2 ();let#[g,t2,u2,g1,g2,g3,g4,g5]:=made ns m0 12 ();generalize Rv ns 0=n at *;have hf:=bH f5.p;have hg:=bH g5.p;have look:=Ē0 hn f5 g5;have d64:ox n 64:=TX;have d16:ox n 16:=TX;have W1:=Ň3 ćD õU ⋯ f4 f5.p rfl;have W2:=Ň3 úv õV ⋯ g4 g5.p (Ì8 hn.ne);have p1:oy [f]=true:=by change ďE=true;rw[f5.p];rfl
 have p2:oy [f,g]=true:=by change (EW f&&(EW g&&true))=true;rw[f5.p,g5.p];rfl
 have turn0:turn K2 ţ4 (Â 0) [↑ FJ,↑ Bg,↑ Es,↑ ĉG,none,none,none,none,none,none]=↑(.nx [↑ FJ,↑ Bg,↑ Es,↑ øx,↑(.im (Â 0)),↑(.im f),none,none,none,none]):=by
  exact V.jd rfl (zl (zZ (zL (zj rfl (zj (x:=Â 2) àZ)) f1)) ?_);show ħ7 ćD rfl (vg (vg (vg (b:=a) úw #[rfl,hn.la]) Nr) #[xS rfl f2,f3]).1 rfl W1 #[rfl,p1] rfl
 have turn1:turn K2 ţ4 (Â 1) [↑ FJ,↑ Bg,↑ Es,↑ øx,none,none,none,none,none,none]=↑(.nx [↑ FJ,↑ Bg,↑ Es,↑ ĊC,↑(.im (Â 1)),↑(.im g),none,none,none,none]):=by
  exact V.jd rfl (zl (zZ (zL (zj rfl (zj (x:=Â 12) àZ)) g1)) ?_);show ħ7 úv rfl (vg (vg (vg (b:=b) úw #[rfl,hn.lb]) Nr) #[xS rfl g2,g3]).1 p1 W2 #[rfl,p2] rfl
 generalize hl:(↑(W.im (tm íi)):Τ)=l;let#[Y2,q1,q2]:=m6 (is:=Ös) (g:=zP 4) (b:=Ů0) (λ k:Nat=>ĕ Ío) ĊD (ċ (50-30)) (Ux) rfl (by
  rintro pf k qf e Y rfl;have hk:k∈ ċ (50-30):=Dl
  show ú7 hn Ń5 ns n l (Ho hk))
 subst q2;let#[ĥ7,r1,r2]:=m6 (is:=[9]) (g:=zP 9) (b:=Œ4) id ĊD [.zB,Â 5,ĊE,Î [Ϣ4],Pf] (Ux) rfl (by
  rintro pf x qf e Y rfl;have hx:x∈[T.zB,Â 5,ĊE,Î [Ϣ4],Pf]:=Dl
  have key:Èq=↑ Oz/\Ài:=by
   simp![KK,Op,Mq] at hx;rcases hx with rfl | rfl | rfl | rfl | rfl <;> show#[by simp[Ź1,nB],þE]
  show#[_,ç3 (DN) n l key.1 key.2,rfl])
 subst r2;subst hl;exact zM (zl (zZ (zL Rl fm0)) (zl (zZ (zL (zj (zL Rl fm1) rfl) hab)) (zl rfl (zl (vL rfl (Ĭ6 turn0 turn1)) (zl (zZ øy) (zl (vL (Ê1 30 50 Ň) q1) (zl (vL rfl r1) (y8 (zy øy rfl (Äu (þE)))))))))) ) rfl
end zT
namespace zT
open Ë L2 L3 L5
open Ô hiding St
set_option PN 0
structure CC Ï Ċ â6:Prop where
 c0:Cm mg "FIGURES" Ϝ5
 c1:Cm mg "KEEPER" XE
 c2:Cm mg "LETTERS" ÅV
 c3:Cm mg þy
 c4:Cm mg üo
 c5:Cm mg üp
 c6:Cm mg þz
 c7:Cm mg ād
 c8:Ŧ1 Ä4 "PURSES" ϔ5
 c9:Cm mg "TAKER" (R1)
 c10:Og Ä4 "NoChange"
 c11:Og Ä4 "NoCount"
 c12:Og Ä4 "NoFloor"
 c13:Og Ä4 "NoMore"
 c14:Og Ä4 "NoName"
 c15:Og Ä4 "NoPair"
 c16:Og Ä4 "NoPlace"
 c17:Og Ä4 "NoRow"
 c18:Og Ä4 "NoWay"
 uc:mg "ValueError"=none
 c20:Ε8 ς7 "FORMS" wD
 c21:o8 Ä4 KW Ÿ7/\gK "name" Ÿ7
 c22:o8 Ä4 Q7 Ŷ3/\gK "row" Ŷ3
 c23:ûA
 c24:kA K
section
variable {u9}{Ċ}{Ï}{Û2}
structure D1:Prop where
 x0:FD Ê "is_whole" 1 Od (zK zk ZH)
 x1:FD Ê "are_rising" 1 Nw (zK zk eF)
 x2:FD Ê "is_owner" 1 Od (zK zk Ν9)
 x3:FD Ê "places_of" 1 Ms (zK zk Ÿ2)
 x4:FD Ê "at_or_above" 1 ýF (zK zk Ŵ5)
structure D2:Prop where
 x0:FD Ê "least_pairs" 1 ["pairs"] (zK zk cU)
 x1:FD Ê "pairs_ahead_of_changes" 1 ["brims","stall","pair"] (zK zk Ū3)
 x2:FD Ê "show_way" 1 Äe (zK zk Ŧ4)
 x3:FD Ê "show_stall" 1 Àt (zK zk ő2)
 x4:FD Ê "read_word" 1 Âe (zK zq Ŵ3)
structure D3:Prop where
 x0:FD Ê "is_made_of" 1 ðy (zK zk ŷ0)
 x1:FD Ê "show_pair" 1 Øj (zK zk π9)
 x2:FD Ê "_law_mixed" 1 ["_law_script","_law_k"] (zK zk jD)
 x3:FD Ê "_law_stalls" 1 ["_law_cell","_law_owners"] (zK zk Υ2)
 x4:FD Ê "_law_text" 1 ["_law_floor_here"] (zK zq ŵ1)
structure D4:Prop where
 x0:FD Ê "_law_kinds" 1 ["_law_caught"] (zK zk ZE)
 x1:FD Ê "_law_names" 1 ĆM (zK zk ũ0)
 x2:FD Ê "_law_right_row" 1 êO (zK zq Υ9)
 x3:FD Ê "_law_other" 1 ĆM (zK zq ZD)
 x4:FD Ê "_law_is_name" 1 ϧ8 (zK zk Δ3)
structure D5:Prop where
 x0:FD Ê "_law_is_number" 1 ϧ8 (zK zk Ŷ9)
structure D6:Prop where
 x0:FD Ê "is_whole_within" 2 ïh (zK zk eE)
 x1:FD Ê "are_owners" 2 Od (zK zk ů3)
 x2:FD Ê "both" 2 Ìn (zK zk Ŵ8)
 x3:FD Ê "either" 2 Ìn (zK zk ZL)
 x4:FD Ê "border_ahead_of_way" 2 ["brims","way","border"] (zK zk Ŝ3)
structure D7:Prop where
 x0:FD Ê "show_floor" 2 Ms (zK zq gN)
 x1:FD Ê "read_words" 2 ["words"] (zK zk eD)
 x2:FD Ê "is_number" 2 Âe (zK zk ZJ)
 x3:FD Ê "show_border" 2 ["border"] (zK zq ŭ7)
 x4:FD Ê "_law_ways" 2 ["_law_script","_law_at","_law_many","_law_more","_law_span"] (zK zk ť5)
structure D8:Prop where
 x0:FD Ê "_law_stall_cell" 2 ["_law_script","_law_at","_law_digits"] (zK zk Α7)
 x1:FD Ê "_law_spoilt" 2 êO (zK zq Μ8)
 x2:FD Ê "_law_judged" 2 ["_law_row","_law_names_here"] (zK zk ŝ1)
structure D9:Prop where
 x0:FD Ê "is_row_within" 3 ϖ0 (zK zk ZI)
 x1:FD Ê "check_place" 3 Yl (zK zk Ε5)
 x2:FD Ê "border_of_either" 3 ["borders"] (zK zq Ŝ6)
 x3:FD Ê "border_of_all" 3 ["borders"] (zK zq Δ5)
 x4:FD Ê "read_parts" 3 ["parts"] (zK zk ŕ5)
structure J7:Prop where
 x0:FD Ê "is_of_form" 3 În (zK zk i9)
 x1:FD Ê "answer_show" 3 Nw (zK zq ŵ3)
 x2:FD Ê "_law_floor" 3 ["_law_script","_law_at","_law_many","_law_brims","_law_more"] (zK zk ZF)
 x3:wy Ê "thing_for" 3 ñh (zK zq mx)
structure J6:Prop where
 x0:FD Ê "are_rows_within" 4 ϖ0 (zK zk Ω2)
 x1:FD Ê "are_brims" 4 Od (zK zk Ζ4)
 x2:FD Ê "ways_from" 4 Yl (zK zk Ř8)
 x3:FD Ê "stall_at" 4 Yl (zK zq ţ9)
 x4:FD Ê "are_of_forms" 4 ûH (zK zk ο2)
structure J5:Prop where
 x0:FD Ê "are_ways" 5 ["thing","places"] (zK zk Ŗ2)
 x1:FD Ê "are_stalls" 5 ["thing","owners"] (zK zk ŧ6)
 x2:FD Ê "border_ahead_of_changes" 5 ["floor","place","border"] (zK zq Θ7)
 x3:wH Ê "read_row" 5 ["row"] (zK zq ja)
structure J4:Prop where
 x0:FD Ê "is_floor" 6 Od (zK zk cW)
 x1:FD Ê "next_border" 6 ["floor","place","last"] (zK zq ŭ5)
structure J2:Prop where
 x0:FD Ê "next_round" 7 ["floor","last","fresh"] (zK zk Κ1)
 x1:FD Ê "read_floor" 7 ["text"] (zK zq θ3)
structure J1:Prop where
 x0:FD Ê "rounds" 8 Ms (zK zk Ů8)
structure J0:Prop where
 x0:FD Ê "borders" 9 Ms (zK zq Ŗ8)
structure Jz:Prop where
 x0:FD Ê "answer_border" 10 Nw (zK zq eG)
structure Jy:Prop where
 x0:SY Ê "ANSWERS" 10 Nw (Χ7.map λ q=>(q.1,zK zq q.2))
structure Jx:Prop where
 x0:gO ÑA (zK zq eI)
structure Jw:Prop where
 x0:W9 Ê 2
 x1:eJ Ê "keep" 2 W7 ÃY
structure Jv:Prop where
 x0:eJ ÑA (nu ż6)
 x1:wy ÑA (zK zq gB)
structure Ju:Prop where
 x0:FD Ê "_law_refused" 12 ["_law_desk","_law_row","_law_due"] (zK zk cV)
 x1:FD Ê "_law_looks" 12 ["_law_desk","_law_names_here"] (zK zk ξ4)
variable {w K mg}(T:Bt mg)(U:Bq mg) {Ĝ}(H:HH K w)(C:CC ς7) {Ú9}
include T U H C X G
theorem Ì2:D1 Ê:=by
 have yW:=C.uc;cases C;exact#[yA [] (H.h0.mk X G) ?_,
  yA [(["one","other"],XG)] (H.h4.mk X G) ?_,
  yA [] (H.h6.mk X G) ?_,
  yA [] (H.h11.mk X G) ?_,
  yA [] (H.UL.mk X G) ?_]
 all_goals
  ext F8;show#[_,q_A,q_B]
variable (d1:D1 Ê)
include d1
theorem ė3:D2 Ê:=by
 ext ϛ4;exact#[yA [] (H.UK.mk X G) ?_,
  yA [] (H.h20.mk X G) ?_,
  yA [] (H.h28.mk X G) ?_,
  yA [] (H.h29.mk X G) ?_,
  yA [] (H.h31.mk X G) ?_]
 all_goals
  ext F8;show#[_,q_A,q_B]
variable (d2:D2 Ê)
include d2
theorem ş6:D3 Ê:=by
 ext ϛ4;cases d2;exact#[yA [(["sign","signs"],Dq)] (H.h35.mk X G) ?_,
  yA [] (H.h40.mk X G) ?_,
  yA [] (H.h44.mk X G) ?_,
  yA [] (H.h46.mk X G) ?_,
  yA [] (H.h49.mk X G) ?_]
 all_goals
  ext F8;show#[_,q_A,q_B]
variable (d3:D3 Ê)
include d3
theorem ì7:D4 Ê:=by
 ext ϛ4;cases d2;cases d3;exact#[yA [(["_law_k","_law_some"],Dq)] (H.h50.mk X G) ?_,
  yA [] (H.h51.mk X G) ?_,
  yA [(["_law_k","_law_number"],Lk)] (H.h52.mk X G) ?_,
  yA [] (H.h53.mk X G) ?_,
  yA ôO (H.h55.mk X G) ?_]
 all_goals
  ext F8;show#[_,q_A,q_B]
variable (d4:D4 Ê)
include d4
theorem ô8:D5 Ê:=by
 ext τ7;exact#[yA ôO (H.h56.mk X G) ?_]
 all_goals
  ext F8;show#[_,q_A,q_B]
variable (d5:D5 Ê)
include d5
theorem ò1:D6 Ê:=by
 ext τ7;cases d5;exact#[yA [] (H.h1.mk X G) ?_,
  yA [(["owner"],Br)] (H.h7.mk X G) ?_,
  yA Ďw (H.h17.mk X G) ?_,
  yA [] (H.h18.mk X G) ?_,
  yA [(["pair","way"],Dq),(["pair","brims"],Lk)] (H.h19.mk X G) ?_]
 all_goals
  ext F8;show#[_,q_A,q_B]
variable (d6:D6 Ê)
include d6
theorem ã6:D7 Ê:=by
 ext τ7;cases d5;cases d6;exact#[yA [(Äe,Br),(Àt,Br)] (H.h30.mk X G) ?_,
  yA [(Âe,Br)] (H.cj.mk X G) ?_,
  yA [] (H.h36.mk X G) ?_,
  yA Ďw (H.h41.mk X G) ?_,
  yA [] (H.h45.mk X G) ?_]
 all_goals
  ext F8;show#[_,q_A,q_B]
variable (d7:D7 Ê)
include d7
theorem ė4:D8 Ê:=by
 ext ÌM;exact#[yA [] (H.h47.mk X G) ?_,
  yA [] (H.h54.mk X G) ?_,
  yA [] (H.h57.mk X G) ?_]
 all_goals
  ext F8;show#[_,q_A,q_B]
variable (d8:D8 Ê)
include d8
theorem Ĕ1:D9 Ê:=by
 ext ÌM;cases d8;exact#[yA [(["number","bound"],XG)] (H.h2.mk X G) ?_,
  yA [] (H.aJ.mk X G) ?_,
  yA [] (H.h22.mk X G) ?_,
  yA [] (H.h23.mk X G) ?_,
  yA [] (H.h33.mk X G) ?_]
 all_goals
  ext F8;show#[_,q_A,q_B]
variable (d9:D9 Ê)
include d9
theorem Ą2:J7 Ê:=by
 ext Ål;exact#[yA [] (H.h37.mk X G) ?_,
  yA [] (H.h42.mk X G) ?_,
  yA [] (H.h48.mk X G) ?_,
  zbo [] H.Ai ?_]
 all_goals
  ext F8;show#[_,q_A,q_B]
variable (d10:J7 Ê)
include d10
theorem û0:J6 Ê:=by
 ext Ål;cases d10;exact#[yA [(["row","bounds"],Dq)] (H.h3.mk X G) ?_,
  yA [] (H.h5.mk X G) ?_,
  yA [(["number","way","place"],úF)] (H.h13.mk X G) ?_,
  yA [] (H.h14.mk X G) ?_,
  yA [(În,XG)] (H.h38.mk X G) ?_]
 all_goals
  ext F8;show#[_,q_A,q_B]
variable (d11:J6 Ê)
include d11
theorem ü0:J5 Ê:=by
 ext ďw;exact#[yA [(Äe,Br),(["start","starts"],ďz)] (H.h8.mk X G) ?_,
  yA [(Àt,Br),(["stall","owners"],Dq)] (H.h9.mk X G) ?_,
  yA [] (H.h21.mk X G) ?_,
  zbx [] (H.h39.mk X G) ?_]
 all_goals
  ext F8;show#[_,q_A,q_B]
variable (d12:J5 Ê)
include d12
theorem õ0:J4 Ê:=by
 ext Ëj;exact#[yA [] (H.h10.mk X G) ?_,
  yA [(["number","floor"],Lk),(["way","floor","last"],úH)] (H.h24.mk X G) ?_]
 all_goals
  ext F8;show#[_,q_A,q_B]
variable (d13:J4 Ê)
include d13
theorem ä6:J2 Ê:=by
 ext Ëj;cases d13;exact#[yA [(["way","fresh"],ďB)] (H.h25.mk X G) ?_,
  yA [] (H.h34.mk X G) ?_]
 all_goals
  ext F8;show#[_,q_A,q_B]
variable (d14:J2 Ê)
include d14
theorem ĉ6:J1 Ê:=by
 ext Ån;exact#[yA [(["place","border","last"],úJ)] (H.h26.mk X G) ?_]
 all_goals
  ext F8;show#[_,q_A,q_B]
variable (d15:J1 Ê)
include d15
theorem Ć3:J0 Ê:=by
 ext Ån;cases d15;exact#[yA [] (H.h27.mk X G) ?_]
 all_goals
  ext F8;show#[_,q_A,q_B]
variable (d16:J0 Ê)
include d16
theorem å2:Jz Ê:=by
 ext Ðn;exact#[yA [] (H.h43.mk X G) ?_]
 all_goals
  ext F8;show#[_,q_A,q_B]
variable (d17:Jz Ê)
include d17
theorem ó4:Jy Ê:=by
 ext Ðn;cases d17;show#[H.ax.mk X G (İ4 Kc (İ4 Kc zdb Ň) Ň)]
variable (d18:Jy Ê)
include d18
theorem ï2:Jx Ê:=by
 ext Æn;exact#[fkA Èn ?_]
 all_goals
  ext F8;show#[_,q_A,q_B]
variable (d19:Jx Ê)
include d19
theorem ę6:Jw Ê:=by
 ext Æn;cases d19;show#[zbB H.hk H.Ak X G,
  zbA H.hk H.Aj]
variable (d20:Jw Ê)
include d20
theorem Ĉ9:Jv Ê:=by
 ext Ïl;exact#[fkW Èn Ψ,fkX Èn Ψ]
 .ext F8;show#[_,_,_,_,_,(by
    exact ąM
    all_goals
     repeat' first
      | show rfl
      | ext Ϥ
      | ext ϻ
      | ext ϫ
      | ext ϧ
      | apply y_ | apply xa | apply uw | apply uz
      | ext Ϸ
      | ext HE | ext qT | ext uK | ext XS | ext ϱ | ext Ϭ
      | ext Ϧ
      | apply t8 | apply ug | apply uf | apply t7 | show t6
      | ext Ϲ | ext ϸ
      | ext ϭ
      | ext ϳ
      | show tD | show uZ | apply t9 | apply uY
      | ext ϵ
      | ext ϯ | ext À1 | ext Ϫ
      | ext Ϯ
      | ext qS | show Β | show ϖ | show T
      | show hr | show nd | ext Â4 | show ğ | show Ž | show ο | show ϛ | show Ϻ | decide
      | show HP | show BZ | show C4 | show pM | show GP | show Cj | show Bw | show Fb | show ix | show VU | show GG | show Gk | show Mz | show DS | show fB),(by
    exact#[?_,?_,?_,?_]
    all_goals
     repeat' first
      | ext ϰ
      | ext B5
      | ext ϥ
      | ext À3
      | ext Ϩ
      | ext ϲ
      | show ϣ
      | ext ϩ
      | ext OH
      | show Yj
      | show Ca
      | ext Dv
      | apply xv
      | apply oz
      | show EO)]
 .ext F8;show#[_,_,(by
    exact ÙJ
    all_goals
     repeat' first
      | show rfl
      | ext Ϥ
      | ext ϻ
      | ext ϫ
      | ext ϧ
      | apply y_ | apply xa | apply uw | apply uz
      | ext Ϸ
      | ext HE | ext qT | ext uK | ext XS | ext ϱ | ext Ϭ
      | ext Ϧ
      | apply t8 | apply ug | apply uf | apply t7 | show t6
      | ext Ϲ | ext ϸ
      | ext ϭ
      | ext ϳ
      | show tD | show uZ | apply t9 | apply uY
      | ext ϵ
      | ext ϯ | ext À1 | ext Ϫ
      | ext Ϯ
      | ext qS | show Β | show ϖ | show T
      | show hr | show nd | ext Â4 | show ğ | show Ž | show ο | show ϛ | show Ϻ | decide
      | show HP | show BZ | show C4 | show pM | show GP | show Cj | show Bw | show Fb | show ix | show VU | show GG | show Gk | show Mz | show DS | show fB),(by
    exact ÙJ
    all_goals
     repeat' first
      | ext ϰ
      | ext B5
      | ext ϥ
      | ext À3
      | ext Ϩ
      | ext ϲ
      | show ϣ
      | ext ϩ
      | ext OH
      | show Yj
      | show Ca
      | ext Dv
      | apply xv
      | apply oz
      | show EO)]
variable (d21:Jv Ê)
include d21
theorem ć5:Ju Ê:=by
 ext Ïl;cases d21;exact#[yA [] (H.h58.mk X G) ?_,
  yA [] (H.h59.mk X G) ?_]
 all_goals
  ext F8;show#[_,q_A,q_B]
variable (d22:Ju Ê)
include d22
theorem Á5 Iq(F:nH K Új (top 136) f fd):wA Dt 13 f ël:=by
 ext Ïl;cases d21;cases d22;exact fnA [] F ?_
 all_goals
  intro cdv A ġ s H E hc nd hN hS hr;show#[_,q_A,q_B]
end
def all_mk Ïi Ĝ8 Ý Ĝ RA{fa:Addr}Ú9 (hfa:ûu) (H:HH K w):
  ∃ fd:pW,(∀ ŭ đ4,XZ s fd Öe [("_law_script",v)])/\∀ base:Heap,ÚJ->XT->wA l.prog w Ä4 base yQ 13 fa ël:=by
 have T:Bt mg:=#[LE X G H.z0,LE X G H.z1,LE X G H.z2,LE X G H.z3,LE X G H.z4,LE X G H.z5,LE X G H.z6,LE X G H.z7,LE X G H.z8,LE X G H.z9,LE X G H.JQ,LE X G H.JP,LE X G H.JO];have U:Bq mg:=#[LE X G H.y0,LE X G H.y1,LE X G H.y2];have C:CC ς7:=#[H.za5.mk X G,H.za4.mk X G,H.za3.mk X G,H.za2.mk X G,H.za1.mk X G,H.za0.mk X G,H.zaZ.mk X G,H.zaY.mk X G,H.zaX.mk X G,H.zaW.mk X G,H.O9.mk X G,H.Bf.mk X G,H.Be.mk X G,H.Bc.mk X G,H.Bb.mk X G,H.Ba.mk X G,H.C_.mk X G,H.CZ.mk X G,H.CY.mk X G,LE X G H.yW,H.fo.mk X G,Ût (H.zaF.mk X G) zal,Ût (H.zaE.mk X G) zak,H.O9.par X G,H.hk];let#[fd,Fl,hb]:=H.h60.law X G hfa λ _ _ _ _ _ _ _ _=>.of_eq rfl;exact#[fd,hb,λ base _ _=>?_];have d1:=Ì2 øT;have d2:=ė3 UH;have d3:=ş6 UH d2;have d4:=ì7 UH d2 d3;have d5:=ô8 UH d2 d3 d4;have d6:=ò1 ÊS;have d7:=ã6 ÊS d6;have d8:=ė4 ßM;have d9:=Ĕ1 ßM d8;have d10:=Ą2 zD;have d11:=û0 zD d10;have d12:=ü0 zD d10 d11;have d13:=õ0 zD Úr;have d14:=ä6 zD Úr d13;have d15:=ĉ6 ďQ;have d16:=Ć3 ďO;have d17:=å2 ďN;have d18:=ó4 ω2;have d19:=ï2 ω2 d18;have d20:=ę6 Đl;have d21:=Ĉ9 ÑB;have d22:=ć5 ÑB d21;show Á5 ÑB d21 d22 Fl
def walk Ïi υ9 ÔH(hn:l.most=↑63) (hdf:ϕ8)
  (hY:Éu)
  (F:∀ Ċ â6 (fa:Addr) Ľ,ju h->ØH->Ìi->
   ∃ fd:pW,(∀ ŭ Xp,XZ ċh [("_law_script",u)])/\∀ base:Heap,ju base->XT->wA ùX yQ 13 fa Ąm (ûV)):
  Òf ÆK:=
 L2.ï4 (n:=63) (k:=13) (x:="_law_script") (CX:=λ _=>yQ) (sp:=λ w=>ûV) hn () hdf #[rfl,(),()] hY F (λ _ _ a ns hl hO hS=>Ý1 č8 hO hS hl) λ _ _ _ _ _ z=>z
def walkOfLaw:HypoOfLaw:=λ hdf hY hd H=>walk (l:=äZ) rfl hdf hY λ w mg fa h KX G hmg=>all_mk KX G (by rw[<- hd];show hmg) (H w)
end zT
)

set_option maxHeartbeats 0 in
theorem PySem.Challenge.cw_purseborder_k91_desk_rows_refused_holds : PySem.Challenge.rw_purseborder_k91_desk_rows_refused.Holds := by
 exact PySem.Challenge.headOfLaw zT.walkOfLaw
