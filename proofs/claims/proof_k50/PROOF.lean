import PyProof.Rows.All
import Wide.All
import OpenK.AllK
import Wide.FinOn
import PySem.Challenge.RW_learnyard_k50_whole_found
open Option renaming some→Qa, none→Qc, map_eq_some_iff→JS, isSome_iff_exists→YY, map_some→Vf, isSome_some→VO, isSome_map→V0, isNone_iff_eq_none→WY, map_eq_none_iff→Zq
open Bool renaming true→Qb, false→Qf, and_eq_true→Qo, false_ne_true→Qq, eq_iff_iff→Q0, not_false→J5, false_eq_true→Yw, not_true→YF, not_eq_true'→Ud, eq_false_iff→UZ, or_eq_true→Vp, beq_eq_decide_eq→Vu, true_and→VZ, false_or→Zm, and_true→Zs
open List renaming mem_cons_of_mem→Qd, mem_cons_self→Qg, replicate→Qj, mem_cons→Ql, length_map→Qm, getElem?_eq_some_iff→Qn, mem_of_getElem?→Qp, mem_append_right→Qr, range→Qu, mem_map→Qv, getElem?_eq_getElem→Qy, getElem?_map→QB, mem_singleton→QE, mem_append→QF, length_cons→QH, size_toArray→QI, mem_filter→QJ, map_cons→QK, all_eq_true→QL, mem_range→QN, toArray→QO, nodup_cons→QP, mem_append_left→QR, nodup_append→QS, pairwise_cons→QT, isEmpty_iff→QW, length_filter_le→QX, getElem?_append_left→Q2, lookup_cons→Q3, mem_flatten→Q5, append_nil→Ja, flatten_cons→Jb, length_range→Jc, length_append→Jd, filterMap_cons→Jg, isEmpty_iff_length_eq_zero→Jo, getElem?_append_right→Jp, zip_cons_cons→Jq, filter_cons→Js, getElem_of_mem→Jv, getElem_mem→Jz, any_cons→JB, map_map→JD, pairwise_lt_range→JE, length_nil→JF, length_replicate→JH, getD→JN, pairwise_map→JO, getElem?_range→JT, filter_sublist→JU, length_pos_of_mem→JY, length_take→J3, set_cons_succ→J4, getElem?_eq_none→J6, getElem?_eq_none_iff→Yb, pairwise_iff_getElem→Yd, foldl_cons→Ye, getElem?_set_ne→Yg, replicate_succ→Yo, map_congr_left→Yq, any_eq_true→Yr, length→Yu, getElem?_set_self→Yv, take_of_length_le→Yx, set_cons_zero→Yy, all_cons→YE, take_append_drop→YG, lookup→YM, nodup_nil→YO, length_erase_of_mem→Y0, of_mem_zip→Y1, find?_cons→Y2, mem_filterMap→Y4, mk_mem_zipIdx_iff_getElem?→Uh, perm_middle→Uk, forall_mem_cons→Uu, map_append→Ux, perm_ext_iff_of_nodup→UI, append_of_mem→UJ, drop_eq_getElem_cons→US, filter_congr→U0, length_eq_zero_iff→U8, nodup_range→U9, not_mem_nil→Vb, isEmpty_map→Vc, nil_append→Vo, length_singleton→Vt, getElem?_of_mem→VE, map_take→VX, zip_nil_right→V1, any_eq_false→Wb, take_sublist→Wd, map_nil→We, zip_nil_left→Wh, ext_getElem?→Wj, append_assoc→Wl, replicate_append_replicate→Wt, length_drop→Ww, countP_cons→WA, map_id→WG, forIn_cons→WL, getD_eq_getElem?_getD→W8, getLast?_eq_getElem?→Zi, mem_of_find?_eq_some→Zj, map_drop→Zr, getElem?_replicate→Zv, getElem?_cons_zero→ZA, getElem?_cons_succ→ZC, set_set→ZI, filter_eq_nil_iff→ZK, dropLast_eq_take→ZY, mem_erase_of_ne→Z4, pairwise_append→Z6, mem_of_getLast?→Z7
open PySem renaming wpAny_bind→Qe, wpAny_mono→Qh, wpAny_pure→Qi, Expr→Qs, sizeLine→QD, starEach→QM, sizeLine_eq→Q6, wpAny_Call_Name_kw→Q7, eval→Je, wpAny_holding→Jm, mem_of_lookup→Ju, compareOp→Jy, wpAny_newObj_type→JG, Env→JM, binaryOp→JR, sysModules→JZ, wpAny_call_entry→J8, swapsWith→J9, backTo→Yk, wpAny_execs_nil→Ym, wpAny_truthy_bool→Yn, wpAny_Assign_Name→Yp, inplaceOp→Yz, wpAny_execs_cons→YA, wpAny_passesOwn→YK, attributeBase→YN, wpAny_newFunctionEnv_cells→YZ, codeAny_mono→Y3, wpAny_comprehension_free→Y8, Builtin→Ub, wpAny_callSpecial?_slot→Ue, wpAny_assign_Name→Ul, atKey→Um, wpAny_Expr_any→Uq, wpAny_Return_some→Ur, wpAny_Call_method_late→Us, codeAny_call_function→Uy, wpAny_forIn_list→UB, behindInMarks→UE, sliceBounds→UH, wpAny_specialOf→UM, wpAny_ite_split→UN, codeAny_builtin→UO, relabel→UY, PassesOwn→U1, tupleKind_room_in1→U3, wpAny_call→U6, wpAny_field→Vg, ofAClassStatement→Vh, wpAny_pyIter_list→Vi, foldedSetIterable→Vj, assign→Vm, wpAny_attempt→Vq, execs→VB, Paired→VF, intKind→VH, rawInt→VI, wpAny_typeOf→VJ, call_meets→VL, spliced→VM, wpAny_loadPart'→VP, wpAny_isTrue_Compare1→VU, IsPart→V5, wpAny_setField→V8, codeAny_call_builtin→V9, cellsFrom→Wc, getItem→Wf, callerA→Wg, wpAny_standAt→Wx, wpAny_newList→Wz, Pos→WD, assignEach→WE, wpAny_List_spliced→WH, concat_meets→WR, codeAny_func→WW, setAddHashed→W0, plainObj_wpAny_Assign_Attribute→W9, wpAny_pyHash_int→Za, tupleKind→Zb, noFill_tuple_add→Ze, wpAny_isInstance→Zf, noteFrame→Zg, wpAny_askSetting→Zk, wpAny_of_eq→Zp, Within→Zt, valueAt→ZF, Keyword→ZG, Model→ZL, Result→ZO, typeIs_int→ZP, Operator→ZQ, wpAny_rule→ZS, wpAny_seqItems→ZT, wpAny_If→ZW, compEnvC→ZX, methodCallForm→ZZ, evalArgs_none→Z5
open PySem.Heap renaming get?_push_of_some→Qk, lt_size→Qx, get?_push_size→QG, SameBut→JI, get?_update_other→JX, size_push→Ua, get?_update_self→Uj
open Nat renaming le_refl→Qt, le_trans→Qw, lt_of_lt_of_le→Qz, ne_of_lt→QQ, zero_le→QU, pow_le_pow_right→Q1, lt_succ_self→Jh, lt_of_le_of_lt→Jr, lt_irrefl→Jx, lt_succ_of_lt→JQ, le_succ→Yi, le_add_right→Yt, eq_of_testBit_eq→YS, mod_lt→Y7, le_of_lt→UG, ge_two_pow_of_testBit→UX, zero_add→Vr, pow_succ→Vs, add_assoc→V2, lt_trans→Wo, one_shiftLeft→Wr, le_succ_of_le→Ws, strongRecOn→WU, shiftRight_eq_div_pow→Zn, pow_lt_pow_iff_right→Zw, ne_of_gt→ZN
open PySem.Str renaming ofString→QA, ofString→YX, empty→Ve
open PySem.W renaming Frag→QC, keepIn→Jf, fnOf→Jj, findIn→Jw, emptyDict→JA, callWith_K→J1, instObj→J7, codeIn→Yj, cellsFrom_some→Ys, kas_sort→YB, codeRec_of→UC, plainGet→UU, makesIn→U7, lookIn→Vn, plainGet_of→VA, Looks→VD, hasDictIn→VR, isFn→VS, kas_desc→V6, kas_rev→Wi, takerIn→Wm, OpenLaw→Wq, kia_one→WX, hideAll_none→Zu, hideAll_get→ZD, kdu_collect→ZH, callWith_K0→ZJ, of_hideAll→ZM, plainOver→Z1
open Option.some renaming inj→QV
open PySem.SetTable renaming sizeAbove→QY, grown→Q9, tooFull→YJ, advance→UT, turns→Vk, below→WC, fits→WM, insertAt→Z0
open Classical renaming byContradiction→QZ, propDecidable→Yh
open PySem.Calls renaming spliced_cons→Q4, spliced_nil→Jl, callWith_builtin→JW, evalArgs_plain→YL, Name_function_global→WO
open PySem.Around renaming in1_units→Q8, under_plainId→Vx, under→Zl
open PyProof.Rows renaming slot_tuple_getitem→Ji, callWith_type1→JL, seqObj→J0, callWith_builtin1→Yc, listUpdate_at→Y9, get?_update_seq→Uc, boot_sorted→Uz, envOfC→U2, JoinedStr_many→VW, joinParts_nil→V3, seqEpoch_at→V7, boot_tuple→Wv, boot_list→WB, boot_int→WI, lt_int→WS, ge_int→WT, tail_any→ZU, Subscript_→ZV
open PySem.Obj renaming mapSeq→Jk, data_mapFields→YC, isFreed_of_fields→VC
open PySem.Builtin.Tuple renaming tupleHashOf→Jn, tupleExact→YH, tupleItemsOf→Ui, tupleCompareSizes→Vv
open PySem.Value renaming none→Jt, ref→YQ, int→UD, type→Vd, isInt→Vz, builtin→VQ, bool→WN, notImplemented→ZR
open False renaming elim→JC
open PySem.Heap.SameBut renaming update→JJ
open Ne renaming symm→JK
open Array renaming getD_eq_getD_getElem?→JV, getElem?_eq_getElem→YU, length_toList→YW, getElem?_toList→Ug, toList_inj→U5, toList→V4, getElem?_eq_some_iff→WV, getD→WZ
open List.Pairwise renaming filter→J2, nil→Ut, imp_of_mem→Uw, sublist→UR
open PySem.F renaming plainAttrs_list→Yl, args_tuple_add_2→UL, slot_list_append→UP, type_list_append→UQ, entry_tuple_add→UW, slot_tuple_add→U4, attr_ValueError→W4, slot_list_count→W6, slot_list_index→W7, slot_int_rmul→Zo
open PySem.Builtin.Slice renaming slicePlaces→YD, sliceAdjust→Uo, sliceApplied→VT
open Sum renaming inl→YI, inr→W3
open Int renaming fdiv_eq_ediv_of_nonneg→YR, fmod_eq_emod_of_nonneg→Zd
open ForInStep renaming yield→YT
open List.Perm renaming trans→YV
open True renaming intro→Y5
open PySem.Builtin renaming bitAnd→Y6, bitXor→UA, bitOr→UK
open PySem.Builtin.Getset_descriptor renaming descrGet→Uv, descrGetter→Zx, descrCheckInstance→Zy, descrNameAndClass→Zz
open PySem.Heap.IsSliceOf renaming new→Va
open PySem.SetTable.probe renaming go→Vl
open List.cons renaming inj→Vw, injEq→Z3
open List.Sublist renaming refl→Vy
open PySem.Paired renaming length→VG
open PySem.Builtin.Frozenset renaming sizeOf→VN
open PySem.Builtin.List renaming listLengthHint→VY
open Sum.inl renaming inj→Wa
open Iff renaming rfl→Wu
open PySem.AutoSeq1 renaming sub_tuple_tuple→WJ
open PySem.NameKind renaming free→WK
open PySem.W.Looks renaming here→WQ, ld→Zh
open PySem.pickOrder renaming go→W2
open PySem.Builtin.Int renaming intBits→W5
open PyProof renaming noPylong_small→Zc
open PySem.Code renaming isFrame→ZE
set_option compiler.extract_closed false
set_option genSizeOf false
set_option genInjectivity false
set_option maxHeartbeats 400000
set_option bootstrap.genMatcherCode false
local macro_rules|`(∅)=>`(by lia)
local macro_rules|`(#[$a,$b,*])=>`(⟨$a,$b,*⟩)
noncomputable section
set_option autoImplicit true
set_option linter.all false
section
variable{C:Prop}
def qH{P Q:A->Prop}(h:∃a,P a/\Q a)(k:∀a,P a->Q a->C):C:=h.elim λa i=>k a i.1 i.2
def vN{P Q R:Prop}(h:P/\Q/\R)(k:P->Q->R->C):C:=k h.1 h.2.1 h.2.2
def fJ{P:Prop}{Q R:A->Prop}(h:P/\∃a,Q a/\R a)(k:P->∀a,Q a->R a->C):C:=qH h.2 (k h.1)
def qd{P Q R:A->Prop}(h:∃a,P a/\Q a/\R a)(k:∀a,P a->Q a->R a->C):C:=h.elim λa i=>vN i (k a)
def ja{P Q:A->B->Prop}(h:∃a b,P a b/\Q a b)(k:∀a b,P a b->Q a b->C):C:=h.elim λa i=>qH i (k a)
def vf{P Q R S:Prop}(h:P/\Q/\R/\S)(k:P->Q->R->S->C):C:=vN h.2 (k h.1)
def qN{P Q R:A->B->Prop}(h:∃a b,P a b/\Q a b/\R a b)(k:∀a b,P a b->Q a b->R a b->C):C:=h.elim λa i=>qd i (k a)
def xq{P Q R S:A->Prop}(h:∃a,P a/\Q a/\R a/\S a)(k:∀a,P a->Q a->R a->S a->C):C:=h.elim λa i=>vf i (k a)
def y9{P Q R S U:Prop}(h:P/\Q/\R/\S/\U)(k:P->Q->R->S->U->C):C:=vf h.2 (k h.1)
def wW{P Q:Prop}{R S:A->Prop}(h:P/\Q/\∃a,R a/\S a)(k:P->Q->∀a,R a->S a->C):C:=fJ h.2 (k h.1)
def xo{P:Prop}{Q R:A->B->Prop}(h:P/\∃a b,Q a b/\R a b)(k:P->∀a b,Q a b->R a b->C):C:=ja h.2 (k h.1)
def zN{P Q R S:A->B->Prop}(h:∃a b,P a b/\Q a b/\R a b/\S a b)(k:∀a b,P a b->Q a b->R a b->S a b->C):C:=h.elim λa i=>xq i (k a)
def xr{P Q R S U:A->Prop}(h:∃a,P a/\Q a/\R a/\S a/\U a)(k:∀a,P a->Q a->R a->S a->U a->C):C:=h.elim λa i=>y9 i (k a)
def k8{P Q R S U W:Prop}(h:P/\Q/\R/\S/\U/\W)(k:P->Q->R->S->U->W->C):C:=y9 h.2 (k h.1)
def xu{P Q R:A->B->D->Prop}(h:∃a b c,P a b c/\Q a b c/\R a b c)(k:∀a b c,P a b c->Q a b c->R a b c->C):C:=h.elim λa i=>qN i (k a)
def fK{P:Prop}{Q R S:A->B->Prop}(h:P/\∃a b,Q a b/\R a b/\S a b)(k:P->∀a b,Q a b->R a b->S a b->C):C:=qN h.2 (k h.1)
def RQ{P Q R S U:A->B->Prop}(h:∃a b,P a b/\Q a b/\R a b/\S a b/\U a b)(k:∀a b,P a b->Q a b->R a b->S a b->U a b->C):C:=h.elim λa i=>xr i (k a)
def qY{P Q R S U:A->B->D->Prop}(h:∃a b c,P a b c/\Q a b c/\R a b c/\S a b c/\U a b c)(k:∀a b c,P a b c->Q a b c->R a b c->S a b c->U a b c->C):C:=h.elim λa i=>RQ i (k a)
def yA{P Q R S:A->B->D->E->Prop}(h:∃a b c d,P a b c d/\Q a b c d/\R a b c d/\S a b c d)(k:∀a b c d,P a b c d->Q a b c d->R a b c d->S a b c d->C):C:=h.elim λa i=>i.elim λb j=>zN j (k a b)
def wF{P Q R:A->B->D->E->F->Prop}(h:∃a b c d e,P a b c d e/\Q a b c d e/\R a b c d e)(k:∀a b c d e,P a b c d e->Q a b c d e->R a b c d e->C):C:=h.elim λa i=>i.elim λb j=>xu j (k a b)
def EJ{P Q:A->B->Prop}{R S U:A->B->D->Prop}(h:∃a b,P a b/\Q a b/\∃c,R a b c/\S a b c/\U a b c)(k:∀a b,P a b->Q a b->∀c,R a b c->S a b c->U a b c->C):C:=h.elim λa i=>i.elim λb j=>qd j.2.2 (k a b j.1 j.2.1)
def fM{P Q R S U:A->B->D->E->Prop}(h:∃a b c d,P a b c d/\Q a b c d/\R a b c d/\S a b c d/\U a b c d)(k:∀a b c d,P a b c d->Q a b c d->R a b c d->S a b c d->U a b c d->C):C:=h.elim λa i=>qY i (k a)
def wY{P Q R S:A->B->D->E->F->Prop}(h:∃a b c d e,P a b c d e/\Q a b c d e/\R a b c d e/\S a b c d e)(k:∀a b c d e,P a b c d e->Q a b c d e->R a b c d e->S a b c d e->C):C:=h.elim λa i=>yA i (k a)
def EI{P Q R S U W X:A->B->Prop}(h:∃a b,P a b/\Q a b/\R a b/\S a b/\U a b/\W a b/\X a b)(k:∀a b,P a b->Q a b->R a b->S a b->U a b->W a b->X a b->C):C:=h.elim λa i=>i.elim λb j=>k8 j.2 (k a b j.1)
def L8{P Q:A->B->Prop}{R S:A->B->D->Prop}{U W:A->B->D->E->Prop}(h:∃a b,P a b/\Q a b/\∃c,R a b c/\S a b c/\∃d,U a b c d/\W a b c d)(k:∀a b,P a b->Q a b->∀c,R a b c->S a b c->∀d,U a b c d->W a b c d->C):C:=h.elim λa i=>i.elim λb j=>j.2.2.elim λc o=>wW o (k a b j.1 j.2.1 c)
def uR{P Q R S U W X:A->B->D->Prop}(h:∃a b c,P a b c/\Q a b c/\R a b c/\S a b c/\U a b c/\W a b c/\X a b c)(k:∀a b c,P a b c->Q a b c->R a b c->S a b c->U a b c->W a b c->X a b c->C):C:=h.elim λa i=>EI i (k a)
def fL{P Q:A->B->Prop}{R S U W:A->B->D->E->Prop}(h:∃a b,P a b/\Q a b/\∃c d,R a b c d/\S a b c d/\U a b c d/\W a b c d)(k:∀a b,P a b->Q a b->∀c d,R a b c d->S a b c d->U a b c d->W a b c d->C):C:=h.elim λa i=>i.elim λb j=>zN j.2.2 (k a b j.1 j.2.1)
def L9{P Q R S U W X:A->B->D->E->Prop}(h:∃a b c d,P a b c d/\Q a b c d/\R a b c d/\S a b c d/\U a b c d/\W a b c d/\X a b c d)(k:∀a b c d,P a b c d->Q a b c d->R a b c d->S a b c d->U a b c d->W a b c d->X a b c d->C):C:=h.elim λa i=>uR i (k a)
def Fh{P Q R S U W X Y:A->B->D->E->Prop}(h:∃a b c d,P a b c d/\Q a b c d/\R a b c d/\S a b c d/\U a b c d/\W a b c d/\X a b c d/\Y a b c d)(k:∀a b c d,P a b c d->Q a b c d->R a b c d->S a b c d->U a b c d->W a b c d->X a b c d->Y a b c d->C):C:=h.elim λa i=>i.elim λb j=>j.elim λc o=>o.elim λd u=>k8 u.2.2 (k a b c d u.1 u.2.1)
def EK{P Q R S U W X Y:A->B->D->E->F->Prop}(h:∃a b c d e,P a b c d e/\Q a b c d e/\R a b c d e/\S a b c d e/\U a b c d e/\W a b c d e/\X a b c d e/\Y a b c d e)(k:∀a b c d e,P a b c d e->Q a b c d e->R a b c d e->S a b c d e->U a b c d e->W a b c d e->X a b c d e->Y a b c d e->C):C:=h.elim λa i=>Fh i (k a)
def fN{P Q R S U W X Y Z T:A->B->D->E->F->Prop}(h:∃a b c d e,P a b c d e/\Q a b c d e/\R a b c d e/\S a b c d e/\U a b c d e/\W a b c d e/\X a b c d e/\Y a b c d e/\Z a b c d e/\T a b c d e)(k:∀a b c d e,P a b c d e->Q a b c d e->R a b c d e->S a b c d e->U a b c d e->W a b c d e->X a b c d e->Y a b c d e->Z a b c d e->T a b c d e->C):C:=h.elim λa i=>i.elim λb j=>j.elim λc o=>o.elim λd u=>u.elim λe v=>k8 v.2.2.2.2 (k a b c d e v.1 v.2.1 v.2.2.1 v.2.2.2.1)
def EH{P:A->Prop}{Q R S U W X:A->B->D->E->F->G->Prop}{Y Z:A->B->D->E->F->G->H->Prop}(h:∃a,P a/\∃b c d e f,Q a b c d e f/\R a b c d e f/\S a b c d e f/\U a b c d e f/\W a b c d e f/\X a b c d e f/\∃g,Y a b c d e f g/\Z a b c d e f g)(k:∀a,P a->∀b c d e f,Q a b c d e f->R a b c d e f->S a b c d e f->U a b c d e f->W a b c d e f->X a b c d e f->∀g,Y a b c d e f g->Z a b c d e f g->C):C:=h.elim λa i=>i.2.elim λb j=>j.elim λc o=>o.elim λd u=>u.elim λe v=>v.elim λf w=>wW w.2.2.2.2 (k a i.1 b c d e f w.1 w.2.1 w.2.2.1 w.2.2.2.1)
def nS{a:Type}{l:a}{b:Prop}(h:Qc=Qa l):b:=nomatch h
theorem oC{c d:Type}{o:Option c}{f:c->Option d}{b:d}(h:o.bind f=Qa b)(k:∀a,o=Qa a->f a=Qa b->C):C:=match o,h with
 |some a,h=>k a rfl h
end
set_option Elab.async false
set_option maxRecDepth 100000
abbrev NZ:=PySem.Value->PySem.Shared->Prop
def zz1{a c:Nat}(h:a+64<c):a+1+8<c:=by lia
def zz2{a c:Nat}(h:a+64<c):a+1+1+8<c:=by lia
def zz3{a c k:Nat}(h:a+(k+1)<c):a+1+k<c:=by lia
def zz4{a c k:Nat}(h:a+(k+1)=c):a+1+k=c:=by lia
def zz5{a c k:Nat}(h:a+(k+1)<=c):a+1+k<=c:=by lia
def zz6{a c k:Nat}(h:a+(k+1)=c):a<c:=by lia
local macro_rules|`(tactic|lia)=>`(tactic|first|(with_reducible first|assumption|exact Nat.lt_of_succ_le ‹_›|exact Nat.succ_le_of_lt ‹_›|exact UG ‹_›|exact Nat.le_of_not_lt ‹_›|exact Nat.succ_pos _|exact Nat.le_of_eq ‹_›|exact Nat.le_of_eq (Eq.symm ‹_›)|exact Nat.le_of_succ_le_succ ‹_›|exact Nat.lt_succ_of_le ‹_›|exact JQ ‹_›|exact Qw ‹_› (Nat.le_of_ble_eq_true rfl)|exact Qw (UG ‹_›) (Nat.le_of_ble_eq_true rfl)|exact Jr (Yt _ _) ‹_›|exact Jr (Nat.add_le_add_left (Nat.le_of_ble_eq_true rfl) _) ‹_›|exact Qz ‹_› ‹_›|exact Qw ‹_› ‹_›|exact Wo ‹_› ‹_›|exact Int.not_lt.mp ‹_›|exact QQ ‹_›|exact Int.natCast_nonneg _|exact Qw (Yt _ _) ‹_›|exact Jr (Nat.sub_le _ _) ‹_›|exact Int.ofNat_lt.mpr ‹_›|exact absurd ‹_› (Nat.not_lt_zero _)|exact Nat.le_antisymm ‹_› ‹_›|exact Qt _|exact Nat.le_add_left _ _|exact Qw (Nat.le_of_eq ‹_›) ‹_›|exact Qw (Nat.le_of_eq (Eq.symm ‹_›)) ‹_›|exact Jr (Nat.le_of_eq (Eq.symm ‹_›)) ‹_›|exact Qz ‹_› (Nat.le_of_eq ‹_›)|exact Qz ‹_› (Nat.le_of_eq (Eq.symm ‹_›))|decide|exact Qz ‹_› (by decide)|exact Jr ‹_› (by decide)|exact Nat.le_of_lt_succ ‹_›|exact Nat.lt_of_le_of_ne ‹_› ‹_›|exact Nat.lt_of_le_of_ne ‹_› (JK ‹_›)|exact Int.not_le.mpr ‹_›|exact Ws ‹_›|exact Nat.le_antisymm ‹_› (Nat.le_of_not_lt ‹_›)|exact Nat.le_antisymm (Nat.le_of_lt_succ ‹_›) (Nat.le_of_not_lt ‹_›)|exact Nat.add_sub_of_le ‹_›|exact Eq.trans (Eq.symm ‹_›) ‹_›|exact Int.ofNat_lt.mp ‹_›|exact Int.ofNat_inj.mp ‹_›|exact Int.ofNat_inj|exact Nat.succ_lt_succ ‹_›|exact Nat.succ_le_succ ‹_›|exact Nat.sub_lt (Qz Nat.zero_lt_one ‹_›) Nat.zero_lt_one|exact ZN (Nat.lt_of_succ_le ‹_›)|exact zz1 ‹_›|exact zz2 ‹_›|exact zz3 ‹_›|exact zz4 ‹_›|exact zz5 ‹_›|exact zz6 ‹_›|exact Jr (Qw (Yt _ _) ‹_›) (by decide))|lia (verbose:=true))
namespace L2
open PySem PySem.Spec PyProof.Rows
variable{us:List Value}{a it f dx C:Addr}{P prog:Program}{w:World}{h h' base:Heap}{α κ:Type}{x m:Str}{e tg c:Expr}{o:Obj}{pins:List (Addr×Obj)}{s s':Shared}{g':Array GenState}{t' i j n:Nat}{d':Drawn}{N ps:List Str}{M:ZL}{A:Around}{E Q:NZ}{u:Value}{pos:WD}{ta tb tc:TE}{K:QC}{es:List Expr}{fp:List Addr}{mA mg:Str->Option Value}{kw:List (Str×Value)}{fd:FuncData}{outer:List Env}
abbrev Key:=Sum Int Str
noncomputable def PC:Key->Value->Bool
 |.inl k,v=>Vz k v
 |.inr x,v=>Value.isStrOf x v
noncomputable def q47(w:World):Key->Int
 |.inl k=>hashInt k
 |.inr x=>hashStr w x
theorem uB:∀{k:Key}{v:Value},PC k v=Qb->(∃i t,k=YI i/\v=UD i t)\/(∃x t,k=W3 x/\v=Value.str x t)
 |.inl i,v,h=>by obtain⟨t,e⟩:=Value.isInt_shape h;exact .inl #[i,t,rfl,e]
 |.inr x,v,h=>by obtain⟨t,e⟩:=Value.isStrOf_shape h;exact .inr #[x,t,rfl,e]
def q48(i:Int)(t:Tok):PC (.inl i) (.int i t)=Qb:=by simp[PC,Vz]
def q49(x:Str)(t:Tok):PC (.inr x) (.str x t)=Qb:=by simp[PC,Value.isStrOf]
def q4A(a b:Int):decide ((YI a:Key)=YI b)=(a==b):=by
 by_cases e:a=b
 .subst e;simp
 .
  rw[decide_eq_false (λq=>e (Wa q))];exact(beq_eq_false_iff_ne.mpr e).symm
def q4D(a b:Str):decide ((W3 a:Key)=W3 b)=decide (a=b):=by
 by_cases e:a=b
 .subst e;simp
 .
  rw[decide_eq_false (λq=>e (W3.inj q)),decide_eq_false e]
def q4B(a:Int)(b:Str):decide ((YI a:Key)=W3 b)=Qf:=decide_eq_false (λq=>nomatch q)
def q4C(a:Str)(b:Int):decide ((W3 a:Key)=YI b)=Qf:=decide_eq_false (λq=>nomatch q)
def vC(prog:Program)(w:World):PySem.KeyKind prog w Key where
 is:=PC
 hash:=q47 w
 inj:=λv a b d hb=>by
  rcases uB d with⟨i,t,rfl,rfl⟩|⟨x,t,rfl,rfl⟩
  .rcases uB hb with⟨j,u,rfl,e⟩|⟨y,u,rfl,e⟩
   .injection e with e1 _;rw[e1]
   .exact nomatch e
  .rcases uB hb with⟨j,u,rfl,e⟩|⟨y,u,rfl,e⟩
   .exact nomatch e
   .injection e with e1 _;rw[e1]
 byValue:=λk v h=>by rcases uB h with⟨i,t,rfl,rfl⟩|⟨x,t,rfl,rfl⟩<;>rfl
 pyHash:=λhv h=>by
  rcases uB hv with⟨i,t,rfl,rfl⟩|⟨x,t,rfl,rfl⟩
  .exact Za h
  .exact wpAny_pyHash_str h
 eqBool:=λhu hv h=>by
  rcases uB hu with⟨i,t,rfl,rfl⟩|⟨x,t,rfl,rfl⟩
  .rcases uB hv with⟨j,u,rfl,rfl⟩|⟨y,u,rfl,rfl⟩
   .rw[q4A]at h;exact wpAny_eqBool_int h
   .rw[q4B]at h;exact SeqAt.EqAt.int_str i t y u _ _ _ _ h
  .rcases uB hv with⟨j,u,rfl,rfl⟩|⟨y,u,rfl,rfl⟩
   .rw[q4C]at h;exact SeqAt.EqAt.str_int x t j u _ _ _ _ h
   .rw[q4D]at h;exact wpAny_eqBool_str h
 «strs»:=λk x t v h=>by
  rcases uB h with⟨i,u,rfl,e⟩|⟨y,u,rfl,e⟩
  .exact nomatch e
  .injection e with e1 _
   subst e1;cases v<;>rfl
def q54(prog:Program)(w:World)(i:Int)(t:Tok):(vC prog w).is (.inl i) (.int i t)=Qb:=q48 i t
def q55(prog:Program)(w:World)(x:Str)(t:Tok):(vC prog w).is (.inr x) (.str x t)=Qb:=q49 x t
set_option genInjectivity true in
inductive V where
 |qI|bl (b:Bool)|int (i:Int)|str (x:Str)|RK (b:Array UInt8)|Ef (b:UInt64)|ref (a:Addr)|ty (n:String)
 deriving DecidableEq
def RelV:V->Value->Prop
 |.qI,u=>u=Jt
 |.bl b,u=>u=WN b
 |.int i,u=>∃t,u=UD i t
 |.str x,u=>∃t,u=Value.str x t
 |.RK b,u=>∃t,u=Value.bytes b t
 |.Ef b,u=>∃t,u=Value.float b t
 |.ref a,u=>u=YQ a
 |.ty n,u=>u=Vd n
abbrev Vals:List V->List Value->Prop:=VF RelV
theorem Vals.length{xs:List V}(r:Vals xs us):xs.length=us.length:=VG r
theorem Vals.get:∀{xs:List V}{us:List Value}{i:Nat}{x:V},Vals xs us->xs[i]?=Qa x->∃u,us[i]?=Qa u/\RelV x u
 |_,_,_,_,.nil,e=>by simp at e
 |_,_,0,_,.cons r _,e=>by simp at e;subst e;exact#[_,rfl,r]
 |_,_,i+1,x,.cons _ t,e=>by refine qH (Vals.get t (by simpa using e)) λu b d=>?_;exact#[u,by simpa using b,d]
theorem Vals.append:∀{xs ys:List V}{us ws:List Value},Vals xs us->Vals ys ws->Vals (xs++ys) (us++ws)
 |_,_,_,_,.nil,s=>s
 |_,_,_,_,.cons r t,s=>.cons r (Vals.append t s)
theorem Vals.take:∀{xs:List V}{us:List Value}(n:Nat),Vals xs us->Vals (xs.take n) (us.take n)
 |_,_,0,_=>.nil
 |_,_,_+1,.nil=>.nil
 |_,_,n+1,.cons r t=>.cons r (Vals.take n t)
theorem Vals.drop:∀{xs:List V}{us:List Value}(n:Nat),Vals xs us->Vals (xs.drop n) (us.drop n)
 |_,_,0,r=>r
 |_,_,_+1,.nil=>.nil
 |_,_,n+1,.cons _ t=>Vals.drop n t
def Vals.none_of:∀{xs:List V}{us:List Value}{i:Nat},Vals xs us->xs[i]?=Qc->us[i]?=Qc:=λ{xs us i} r e=>by have b:=r.length;have d:=Yb.mp e;exact Yb.mpr ∅
def ve:Option V->Option Value->Prop
 |some v,Qa u=>RelV v u
 |none,Qc=>True
 |_,_=>False
def KV{κ:Type}:List (κ×V)->List (κ×Value)->Prop:=VF λ(p:κ×V)(q:κ×Value)=>p.1=q.1/\RelV p.2 q.2
noncomputable def kV:Key->V
 |.inl i=>.int i
 |.inr x=>.str x
inductive HO where
 |qA (xs:List V)
 |qE (xs:List V)
 |dK (kvs:List (Key×V))|dT (kvs:List (List Key×V))
 |set (S:Int->Bool) (n:Nat)
 |ins (C dx:Addr) (fs:List (Str×V))
 |own (x:Addr)
 |xd (fs:List (Str×V))
 |met (f x:Addr)
 |rng (lo hi:Int)
 |frz (o:Obj) (u:HO)
 |tbl (ps:Array Value)
 |ext (φ:Heap->Prop)
 |memo (ψ:(Addr->List V->Prop)->Obj->Prop)
abbrev Hp:=Addr->Option HO
noncomputable def upd(H:Hp)(a:Addr)(o:HO):Hp:=λb=>if b=a then Qa o else H b
def zb{H:Hp}{o:HO}:upd H a o a=Qa o:=by unfold upd;rw[if_pos rfl]
def qW{H:Hp}{b:Addr}{o:HO}(h:b≠a):upd H a o b=H b:=by unfold upd;rw[if_neg h]
def qAG{H:Hp}{o u:HO}:upd (upd H a o) a u=upd H a u:=by funext b;unfold upd;split<;>rfl
def q5E{H:Hp}{b:Addr}{o u:HO}(h:H a=Qa o)(h':H b=Qa u)(d:o≠u):a≠b:=by intro e;subst e;rw[h]at h';exact d (QV h')
def jE{H:Hp}{b:Addr}{o:HO}(h:H a=Qa o)(h':H b=Qc):a≠b:=by intro e;subst e;rw[h]at h';cases h'
def tv(H:Hp):Addr->List V->Prop:=λb xs=>H b=Qa (.qE xs)\/∃o,H b=Qa (.frz o (.qE xs))
section
variable(P:Program)(w:World)
def jn(H:Hp)(h:Heap)(a:Addr):HO->Prop
 |.qA xs=>xs.length<=QD/\∃(its:List Value)(n:Nat),Vals xs its/\h.get? a=Qa {cls:=.type "list",data:=.seq its.toArray n}
 |.qE xs=>xs.length<=QD/\∃its:List Value,Vals xs its/\IsTup h a its.toArray
 |.dK kvs=>kvs.length<=QD/\(a==JZ)=Qf/\∃vs,KV kvs vs/\h.DictOf (vC P w) a vs
 |.dT kvs=>kvs.length<=QD/\(a==JZ)=Qf/\∃xs:List (List Key×Addr×Value),
   VF (λ(p:List Key×V)(q:List Key×Addr×Value)=>p.1=q.1/\H q.2.1=Qa (.qE (p.1.map kV))/\RelV p.2 q.2.2) kvs xs/\
   ∃o es ep,h.get? a=Qa o/\o.ExactDict/\o.data=.dict es ep/\es.toList=xs.map (entryOfKey (Zb (vC P w)))/\(xs.map (·.1)).Nodup
 |.set S n=>h.SetOf (VH P w) a S n
 |.ins C dx fs=>H dx=Qa (.own a)/\fs.length<=1000/\dx≠a/\h.get? a=Qa (J7 C dx)/\
   ∃mA,h.Ns1 dx mA/\(∀f,ve (fs.lookup f) (mA f))/\Zt mA (fs.map (·.1))
 |.own _=>∃o,h.get? a=Qa o
 |.xd fs=>∃mA,h.Ns1 a mA/\∀f,ve (fs.lookup f) (mA f)
 |.rng lo hi=>∃t u v,h.get? a=Qa {cls:=.type "range",data:=.fields [.int lo t,.int hi u,.int 1 v].toArray}
 |.frz o u=>h.get? a=Qa o/\jn H h a u
 |.tbl ps=>h.get? a=Qa {cls:=.none,data:=.fields ps}
 |.met f x=>h.get? a=Qa (PySem.W.methodObj (.ref f) (.ref x))
 |.ext φ=>φ h/\(∃o,h.get? a=Qa o)/\∀g k:Heap,φ g->(∀o,g.get? a=Qa o->k.get? a=Qa o)->φ k
 |.memo ψ=>(∃o,h.get? a=Qa o/\ψ (tv H) o)/\∀T d o,ψ T o->(∀b xs,T b xs->d b xs)->ψ d o
def zc(H:Hp)(h:Heap):Prop:=∀a o,H a=Qa o->jn P w H h a o
end
section
variable{H H':Hp}{o:HO}
theorem jn.lt(x:jn P w H h a o):a<h.objs.size:=by
 cases o with
 |qA xs=>obtain⟨_,_,_,_,e⟩:=x;exact Qx e
 |qE xs=>obtain⟨_,_,_,p⟩:=x;exact p.lt
 |dK kvs=>obtain⟨_,_,_,_,o,_,_,e,_⟩:=x;exact Qx e
 |dT kvs=>obtain⟨_,_,_,_,o,_,_,e,_⟩:=x;exact Qx e
 |set S n=>obtain⟨o,_,_,_,e,_⟩:=x;exact Qx e
 |ins C dx fs=>obtain⟨_,_,_,e,_⟩:=x;exact Qx e
 |own y=>obtain⟨_,e⟩:=x;exact Qx e
 |xd fs=>obtain⟨_,⟨_,_,_,e,_⟩,_⟩:=x;exact Qx e
 |rng lo hi=>obtain⟨_,_,_,e⟩:=x;exact Qx e
 |frz ob u=>obtain⟨e,_⟩:=x;exact Qx e
 |tbl ps=>exact Qx x
 |met f y=>exact Qx x
 |ext φ=>obtain⟨_,⟨_,e⟩,_⟩:=x;exact Qx e
 |memo ψ=>obtain⟨⟨_,e,_⟩,_⟩:=x;exact Qx e
theorem Paired.SR{d:Type}{F G:α->d->Prop}:∀{l₁:List α}{l₂:List d},VF F l₁ l₂->(∀a b,F a b->G a b)->VF G l₁ l₂
 |_,_,.nil,_=>.nil
 |_,_,.cons r t,f=>.cons (f _ _ r) (Paired.SR t f)
def jn.xa(x:jn P w H h a o)(k:∀b u,(b=a\/H b=Qa (.own a))->h.get? b=Qa u->h'.get? b=Qa u)
  (F:∀b,H b=Qa (.own a)->H' b=Qa (.own a)) (B:∀b xs,H b=Qa (.qE xs)->H' b=Qa (.qE xs)) (G:∀b o u,H b=Qa (.frz o u)->H' b=Qa (.frz o u)):jn P w H' h' a o:=by
 induction o with
 |qA xs=>obtain⟨z,its,n,r,e⟩:=x;exact#[z,its,n,r,k _ _ (.inl rfl) e]
 |qE xs=>obtain⟨z,its,r,ob,e,c⟩:=x;exact#[z,its,r,ob,k _ _ (.inl rfl) e,c]
 |dK kvs=>obtain⟨z,y,vs,r,ob,es,ep,e,c⟩:=x;exact#[z,y,vs,r,ob,es,ep,k _ _ (.inl rfl) e,c]
 |dT kvs=>
  obtain⟨z,y,xs,r,ob,es,ep,e,c⟩:=x;exact#[z,y,xs,Paired.SR r λp q z=>#[z.1,B _ _ z.2.1,z.2.2],ob,es,ep,k _ _ (.inl rfl) e,c]
 |set S n=>obtain⟨ob,es,ep,t,e,c⟩:=x;exact#[ob,es,ep,t,k _ _ (.inl rfl) e,c]
 |ins C dx fs=>
  obtain⟨d,z,J,e,mA,⟨l,es,ep,D,c⟩,r⟩:=x;exact#[F _ d,z,J,k _ _ (.inl rfl) e,mA,#[l,es,ep,k _ _ (.inr d) D,c],r]
 |own y=>obtain⟨ob,e⟩:=x;exact#[ob,k _ _ (.inl rfl) e]
 |xd fs=>obtain⟨mA,⟨l,es,ep,e,c⟩,r⟩:=x;exact#[mA,#[l,es,ep,k _ _ (.inl rfl) e,c],r]
 |rng lo hi=>obtain⟨t,u,v,e⟩:=x;exact#[t,u,v,k _ _ (.inl rfl) e]
 |frz ob u I=>obtain⟨e,q⟩:=x;exact#[k _ _ (.inl rfl) e,I q]
 |tbl ps=>
  have e:h.get? a=Qa {cls:=.none,data:=.fields ps}:=x;exact k a _ (.inl rfl) e
 |met f y=>
  have e:=x;exact k a _ (.inl rfl) e
 |ext φ=>obtain⟨p,⟨o,e⟩,g⟩:=x;exact#[g _ _ p λo q=>k _ _ (.inl rfl) q,#[o,k _ _ (.inl rfl) e],g]
 |memo ψ=>obtain⟨⟨o,e,p⟩,g⟩:=x;exact#[#[o,k _ _ (.inl rfl) e,g _ _ _ p λb xs q=>q.elim (λq=>.inl (B _ _ q)) λ⟨u,q⟩=>.inr #[u,G _ _ _ q]],g]
theorem zc.lt(x:zc P w H h)(e:H a=Qa o):a<h.objs.size:=(x a o e).lt
def zc.fresh(x:zc P w H h)(e:h.objs.size<=a):H a=Qc:=by
 cases q:H a with
 |none=>rfl
 |some u=>exact absurd (Qz (x.lt q) e) (Jx _)
def zc.kept(x:zc P w H h)(k:∀b u,h.get? b=Qa u->h'.get? b=Qa u):zc P w H h':=λa o e=>
 (x a o e).xa (λb u _ q=>k b u q) (λ_ q=>q) (λ_ _ q=>q) λ_ _ _ q=>q
def zc.laid(x:zc P w H h)(k:∀b u,h.get? b=Qa u->h'.get? b=Qa u)(l:h.objs.size<=a)(g:jn P w (upd H a o) h' a o):zc P w (upd H a o) h':=λb u e=>by
 have d:=x.fresh l
 by_cases hb:b=a
 .subst hb;rw[zb]at e;cases e;exact g
 .rw[qW hb]at e;exact(x b u e).xa (λc v _ q=>k c v q) (λc q=>by rw[qW (jE q d)];exact q) (λc xs q=>by rw[qW (jE q d)];exact q) λc _ xs q=>by rw[qW (jE q d)];exact q
end
def Rd(H:Hp)(a:Addr)(u:HO):Prop:=H a=Qa u\/∃o,H a=Qa (.frz o u)
def Rd.ok{H:Hp}{u:HO}(r:Rd H a u)(x:zc P w H h):jn P w H h a u:=by
 rcases r with r|⟨o,r⟩
 .exact x a u r
 .obtain⟨_,q⟩:=x a _ r;exact q
def Px:Option HO->Prop
 |some (.qA _)=>True
 |some (.dK _)=>True
 |some (.dT _)=>True
 |some (.set _ _)=>True
 |some (.ins _ _ _)=>True
 |some (.ext _)=>True
 |some (.memo _)=>True
 |_=>False
section
variable{H:Hp}{x e:Addr}{o':HO}
def zc.write(ok:zc P w H h)(d:Px (H x))(t:e=x\/H e=Qa (.own x))(k:∀b u,b≠e->h.get? b=Qa u->h'.get? b=Qa u)(F:∃u,h'.get? e=Qa u)
  (l:jn P w (upd H x o') h' x o'):zc P w (upd H x o') h':=λb u q=>by
 have B:∀c y,H c=Qa (.own y)->c≠x:=λc y r z=>by subst z;rw[r]at d;exact d
 have p:∀c xs,H c=Qa (.qE xs)->c≠x:=λc xs r z=>by subst z;rw[r]at d;exact d
 by_cases hb:b=x
 .subst hb;rw[zb]at q;cases q;exact l
 .rw[qW hb]at q
  by_cases g:b=e
  .have D:H b=Qa (.own x):=by
    rcases t with z|z
    .exact absurd (g.trans z) hb
    .rw[g];exact z
   rw[q]at D;cases D;obtain⟨v,hv⟩:=F;exact#[v,by rw[g];exact hv]
  .refine (ok b u q).xa (λc v hc r=>k c v ?_ r) (λc r=>by rw[qW (B c b r)];exact r) (λc xs r=>by rw[qW (p c xs r)];exact r) λc o xs r=>by rw[qW (by rintro rfl;rw[r]at d;exact d)];exact r
   rcases hc with rfl|hc
   .exact g
   .rintro rfl;rcases t with z|z
    .exact B c b hc z
    .rw[hc]at z;cases z;exact hb rfl
end
structure Un(fs ex:List Addr)(H H':Hp)(h h':Heap):Prop where
 keep:∀b o,h.get? b=Qa o->H b=Qc->b∉fs->b∉ex->h'.get? b=Qa o
 slot:∀b o,h.get? b=Qa o->H b=Qc->b∈fs->b∉ex->∃sl,h'.get? b=Qa {o with slots:=sl}
 free:∀b o,h.get? b=Qa o->H b=Qc->b∉ex->H' b=Qc
 there:∀b o,h.get? b=Qa o->b∉ex->∃o',h'.get? b=Qa o'
 yy:∀b xs,H b=Qa (.qE xs)->H' b=Qa (.qE xs)
 yB:∀b o u,H b=Qa (.frz o u)->H' b=Qa (.frz o u)
 yx:∀b ps,H b=Qa (.tbl ps)->∃more,H' b=Qa (.tbl (ps++more))
section
variable{fs fs' ex ex':List Addr}{H H1 H2:Hp}{h1 h2:Heap}{x e:Addr}{o:HO}
def Un.any(u:Un fs ex H H1 h h1){b:Addr}{ob:Obj}(q:h.get? b=Qa ob)(n:H b=Qc)(d:b∉ex):∃sl,h1.get? b=Qa {ob with slots:=sl}:=by
 by_cases hb:b∈fs
 .exact u.slot b ob q n hb d
 .exact#[ob.slots,u.keep b ob q n hb d]
def Un.kept(k:∀b u,h.get? b=Qa u->h'.get? b=Qa u):Un fs ex H H h h':=
 #[λb ob q _ _ _=>k b ob q,λb ob q _ _ _=>#[ob.slots,k b ob q],λ_ _ _ n _=>n,λb ob q _=>#[ob,k b ob q],λ_ _ q=>q,λ_ _ _ q=>q,λ_ ps q=>#[#[],by rw[q];simp]]
def Un.refl:Un fs ex H H h h:=Un.kept λ_ _ q=>q
def Un.laid(k:∀b u,h.get? b=Qa u->h'.get? b=Qa u)(g:h.objs.size<=a)(d:H a=Qc):Un fs ex H (upd H a o) h h' where
 keep:=λb u q _ _ _=>k b u q
 slot:=λb u q _ _ _=>#[u.slots,k b u q]
 free:=λb u q n _=>by rw[qW (QQ (Qz (Qx q) g))];exact n
 there:=λb u q _=>#[u,k b u q]
 yy:=λb xs q=>by rw[qW (jE q d)];exact q
 yB:=λb u xs q=>by rw[qW (jE q d)];exact q
 yx:=λb ps q=>#[#[],by rw[qW (jE q d),q];simp]
def Un.write(d:Px (H x))(v:e=x\/H e=Qa (.own x))(k:∀b u,b≠e->h.get? b=Qa u->h'.get? b=Qa u)(t:∃u,h'.get? e=Qa u):Un fs ex H (upd H x o) h h':=by
 have p:∀b,H b=Qc->b≠x:=λb n z=>by subst z;rw[n]at d;exact d
 have hb:∀b,H b=Qc->b≠e:=λb n z=>by
  subst z;rcases v with r|r
  .exact p b n r
  .rw[n]at r;cases r
 have g:∀b u,H b=Qa u->¬Px (Qa u)->b≠x:=λb u q nm z=>by subst z;rw[q]at d;exact nm d
 refine#[λb u q n _ _=>k b u (hb b n) q,λb u q n _ _=>#[u.slots,k b u (hb b n) q],λb u q n _=>by rw[qW (p b n)];exact n,λb u q _=>?_,
  λb xs q=>by rw[qW (g b _ q λz=>z)];exact q,λb u xs q=>by rw[qW (g b _ q λz=>z)];exact q,λb ps q=>#[#[],by rw[qW (g b _ q λz=>z),q];simp]]
 by_cases l:b=e
 .subst l;exact t
 .exact#[u,k b u l q]
end
noncomputable def bN(h:Heap)(H:Hp):List Addr:=(Qu h.objs.size).filter λa=>(H a).isSome
def uX(h:Heap)(H:Hp):Heap:=PySem.W.hideAll h (bN h H)
def q38(h:Heap)(H:Hp):(uX h H).objs.size=h.objs.size:=PySem.W.hideAll_size _ _
def q37{H:Hp}{b:Addr}(e:h.get? b=Qa o)(n:H b=Qc):(uX h H).get? b=Qa o:=
 ZD _ e λd=>by have q:=(QJ.mp d).2;rw[n]at q;simp at q
def q6A{H:Hp}{b:Addr}(e:(uX h H).get? b=Qa o):h.get? b=Qa o/\H b=Qc:=by
 have d:=ZM (bN h H) e;refine#[d,?_];cases q:H b with
 |none=>rfl
 |some x=>
  have z:(uX h H).get? b=Qc:=Zu (bN h H) (QJ.mpr #[QN.mpr (Qx d),by simp[q]]);rw[z]at e;cases e
structure Mod(K:QC)(mg:Str->Option Value)(base:Heap):Prop where
 vA:K.In base
 glob:base.Ns mainGlobals mg
 blt:∃mb,base.Ns builtinsNs mb/\∀x:Str,x≠"__name__"->mb x=bootBuiltins x
 nolimit:base.NoLimit
structure Cx where
 prog:Program
 w:World
 K:QC
 mg:Str->Option Value
 base:Heap
 A:Around
 N:List Str
 s₀:Shared
 H₀:Hp
 env:Env
 outer:List Env
 stack:List Env
 ex:List Addr
 fn:Str->Bool
 calm:Bool
 pn:List (Addr×Obj)
 xe:NZ
noncomputable def jM(l:List Env):List Addr:=l.filterMap (·.frame)
abbrev Cx.fs(X:Cx):List Addr:=jM X.outer
def jY(b:Scope)(x:Str):Prop:=b.names.lookup x=Qa .local\/b.names.lookup x=Qa .cell\/b.names.lookup x=Qa .free
def Loc(b:Scope)(x:Str):Prop:=b.names.lookup x=Qa .local\/b.names.lookup x=Qa .cell
def Look(env:Env)(h:Heap)(m:Str->Option Value)(x:Str)(u:Value):Prop:=
 (env.kindOf x=Qa .local/\m x=Qa u)\/((env.kindOf x=Qa .cell\/env.kindOf x=Qa .free)/\∃c,env.cells.lookup x=Qa c/\h.IsCell c (Qa u))
structure Cx.Ok(X:Cx):Prop where
 mod:Mod X.K X.mg X.base
 kind:X.env.scope.kind=.function
 glob:X.env.globals=mainGlobals
 blt:X.env.builtins=builtinsNs
 above:X.s₀.heap.objs.size<=X.env.locals
 inj:∀x y c,X.env.cells.lookup x=Qa c->X.env.cells.lookup y=Qa c->x=y
 has:∀x,(X.env.kindOf x=Qa .cell\/X.env.kindOf x=Qa .free)->∃c,X.env.cells.lookup x=Qa c
 Xx:∀x c,X.fn x=Qb->X.env.cells.lookup x=Qa c->X.s₀.heap.objs.size<=c
 hd:X.calm=Qb->X.A.handled=Qc
 frames:X.A.frames=Qa X.stack
 w9:X.stack=X.outer\/(X.stack=X.env::X.outer/\X.env.frame=Qa X.env.locals)
 EZ:∀b∈X.ex,b≠X.env.locals/\∀x c,X.env.cells.lookup x=Qa c->c≠b
 bs:∀b o,X.base.get? b=Qa o->X.s₀.heap.get? b=Qa o/\X.H₀ b=Qc
 yX:X.base.objs.size<=X.s₀.heap.objs.size
 Te:∀b o,X.base.get? b=Qa o->b∉X.ex
 RW:∀b∈X.ex,b∉X.fs
 funs:X.s₀.heap.FunFrames X.base X.outer
 xy:∀b∈X.fs,X.H₀ b=Qc
structure Inv(X:Cx)(pins:List (Addr×Obj))(Y:List (Option V))(H:Hp)(s:Shared):Prop where
 ok:X.Ok
 os:s.os=X.s₀.os
 bare:AllBare s.gens
 base:Un X.fs X.ex X.H₀ H X.s₀.heap s.heap
 loc:∃m,s.heap.Ns X.env.locals m/\∀(i:Nat)(x:Str)(v:V),X.N[i]?=Qa x->Y[i]?=Qa (Qa v)->jY X.env.scope x->∃u,RelV v u/\Look X.env s.heap m x u
 cell:∀x c,X.env.cells.lookup x=Qa c->∃v,s.heap.IsCell c v
 free:H X.env.locals=Qc
 ky:∀x c,X.env.cells.lookup x=Qa c->H c=Qc
 pin:∀p∈X.pn++pins,s.heap.get? p.1=Qa p.2/\H p.1=Qc/\p.1≠X.env.locals/\p.1∉X.fs/\∀v,p.2.data≠.cell v
 qO:zc X.prog X.w H s.heap
 len:Y.length=X.N.length
section
variable{X:Cx}{Y:List (Option V)}{H H':Hp}
def Cx.Ok.q5J(ok:X.Ok){b:Addr}(e:X.base.get? b=Qa o):b∉X.fs:=λhb=>by have:=(ok.funs.mem hb).1;rw[e]at this;cases this
theorem Inv.bs(I:Inv X pins Y H s):∀b o,X.base.get? b=Qa o->s.heap.get? b=Qa o/\H b=Qc:=λb o e=>
 #[I.base.keep b o (I.ok.bs b o e).1 (I.ok.bs b o e).2 (I.ok.q5J e) (I.ok.Te b o e),I.base.free b o (I.ok.bs b o e).1 (I.ok.bs b o e).2 (I.ok.Te b o e)]
def Inv.bk(I:Inv X pins Y H s):∀b o,X.base.get? b=Qa o->s.heap.get? b=Qa o:=λb o e=>(I.bs b o e).1
theorem Inv.mod(I:Inv X pins Y H s):Mod X.K X.mg X.base:=I.ok.mod
def Inv.jN(I:Inv X pins Y H s):X.K.In s.heap:=I.ok.mod.vA.keeps I.bk
def Inv.fr(I:Inv X pins Y H s):∃m,Fr X.base X.env.locals s.heap m:=
 let⟨m,hn,_⟩:=I.loc
 #[m,hn,I.bk,Qw I.ok.yX I.ok.above]
theorem Inv.lt(I:Inv X pins Y H s):X.env.locals<s.heap.objs.size:=let⟨_,hn,_⟩:=I.loc;hn.lt
def Inv.sz(I:Inv X pins Y H s):X.s₀.heap.objs.size<=s.heap.objs.size:=Qw I.ok.above (UG I.lt)
def Inv.q5L(I:Inv X pins Y H s)(h:s.heap.objs.size<=a):a∉X.fs:=λhb=>by obtain⟨_,o,b,_⟩:=I.ok.funs.mem hb;exact absurd (Qz (Qx b) (Qw I.sz h)) (Jx _)
def Inv.xB(I:Inv X pins Y H s):∀x c,X.env.cells.lookup x=Qa c->c≠X.env.locals:=λx c e z=>by obtain⟨v,o,b,hd⟩:=I.cell x c e;obtain⟨m,⟨o',es,ep,d,g,_⟩,_⟩:=I.loc;rw[z,d]at b;cases b;rw[g]at hd;cases hd
theorem Inv.funs(I:Inv X pins Y H s):s.heap.FunFrames X.base X.outer:=by
 have all:∀(l:List Env),(∀b∈jM l,b∈X.fs)->X.s₀.heap.FunFrames X.base l->s.heap.FunFrames X.base l:=by
  intro l
  induction l with
  |nil=>intro _ _;trivial
  |cons env r t=>
   intro hs hl;obtain⟨g,⟨L,o,hf,k,p,hd⟩,q⟩:=hl;have d:=hs L (by unfold jM;rw[Jg,hf];exact Qg);obtain⟨sl,e⟩:=I.base.slot L o p (I.ok.xy L d) d λz=>I.ok.RW L z d;exact#[g,#[L,_,hf,k,e,hd],t (λb hb=>hs b (by unfold jM;rw[Jg,hf];exact Qd _ hb)) q]
 exact all X.outer (λ_ hb=>hb) I.ok.funs
theorem Inv.stack(I:Inv X pins Y H s):s.heap.FunFrames X.base X.stack:=by
 rcases I.ok.w9 with e|⟨e,hf⟩
 .rw[e];exact I.funs
 .rw[e];obtain⟨m,b,_⟩:=I.loc;refine .cons (by rw[I.ok.kind];decide) hf b ?_ I.funs;exact Heap.get?_none_of_le (Qw I.ok.yX I.ok.above)
def Inv.ux(I:Inv X pins Y H s):∀b∈jM X.stack,b∈X.env.locals::X.fs:=λb hb=>by
 rcases I.ok.w9 with e|⟨e,hf⟩
 .rw[e]at hb;exact Qd _ hb
 .rw[e]at hb;unfold jM at hb;rw[Jg,hf]at hb;exact hb
def Inv.bC(I:Inv X pins Y H s):∀b∈jM X.stack,H b=Qc:=λb hb=>by
 rcases Ql.mp (I.ux b hb)with e|hb
 .rw[e];exact I.free
 .obtain⟨_,o,d,_⟩:=I.ok.funs.mem hb;exact I.base.free b o d (I.ok.xy b hb) λz=>I.ok.RW b z hb
def Inv.step{g':Array GenState}{t':Nat}{d':Drawn}{ch:List Addr}(I:Inv X pins Y H s)
  (F:∀b∈ch,(b∈X.ex\/X.s₀.heap.objs.size<=b)/\b≠X.env.locals/\(∀x c,X.env.cells.lookup x=Qa c->c≠b)/\∀p∈X.pn++pins,p.1≠b)
  (keep:∀b o,b≠X.env.locals->b∉X.fs->b∉ch->s.heap.get? b=Qa o->H b=Qc->h'.get? b=Qa o)
  (slot:∀b o,b≠X.env.locals->b∈X.fs->b∉ch->s.heap.get? b=Qa o->H b=Qc->∃sl,h'.get? b=Qa {o with slots:=sl}) (free:∀b o,b∉ch->s.heap.get? b=Qa o->H b=Qc->H' b=Qc)
  (there:∀b o,b∉ch->s.heap.get? b=Qa o->∃o',h'.get? b=Qa o')
  (yy:∀b xs,H b=Qa (.qE xs)->H' b=Qa (.qE xs)) (yB:∀b o u,H b=Qa (.frz o u)->H' b=Qa (.frz o u)) (yx:∀b ps,H b=Qa (.tbl ps)->∃more,H' b=Qa (.tbl (ps++more)))
  (ns:∀m,s.heap.Ns X.env.locals m->h'.Ns X.env.locals m) (qO:zc X.prog X.w H' h') (W:AllBare g'):
  Inv X pins Y H' {s with heap:=h',gens:=g',drawn:=d',toks:=t'}:=by
 have S:∀b o,X.s₀.heap.get? b=Qa o->b≠X.env.locals:=λb o e=>QQ (Qz (Qx e) I.ok.above);have G:∀b o,X.s₀.heap.get? b=Qa o->b∉X.ex->b∉ch:=λb o e g hb=>by
  rcases(F b hb).1 with z|z
  .exact g z
  .exact absurd (Qz (Qx e) z) (Jx _)
 have J:∀x c,X.env.cells.lookup x=Qa c->∀v,s.heap.IsCell c v->h'.IsCell c v:=λx c e v zz=>qH zz λo y hd=>by
  have B:c∉ch:=λz=>(F c z).2.2.1 x c e rfl
  by_cases hc:c∈X.fs
  .obtain⟨sl,q⟩:=slot c o (I.xB x c e) hc B y (I.ky x c e);exact#[_,q,hd]
  .exact#[o,keep c o (I.xB x c e) hc B y (I.ky x c e),hd]
 refine#[I.ok,I.os,W,#[λb o e n hb g=>?_,λb o e n hb g=>?_,λb o e n g=>?_,λb o e g=>?_,λb xs e=>yy b xs (I.base.yy b xs e),λb o xs e=>yB b o xs (I.base.yB b o xs e),λb ps e=>?_],?_,λx c e=>?_,?_,λx c e=>?_,λp L=>?_,qO,I.len]
 .exact keep b o (S b o e) hb (G b o e g) (I.base.keep b o e n hb g) (I.base.free b o e n g)
 .obtain⟨sl,t⟩:=I.base.slot b o e n hb g;obtain⟨T,D⟩:=slot b _ (S b o e) hb (G b o e g) t (I.base.free b o e n g);exact#[T,D]
 .obtain⟨o',t⟩:=I.base.there b o e g;exact free b o' (G b o e g) t (I.base.free b o e n g)
 .obtain⟨o',t⟩:=I.base.there b o e g;exact there b o' (G b o e g) t
 .obtain⟨m1,t⟩:=I.base.yx b ps e;obtain⟨m2,D⟩:=yx b _ t;exact#[m1++m2,by rw[D,Array.append_assoc]]
 .refine qH I.loc λm Z hl=>?_;refine#[m,ns m Z,λi x v t D U=>?_];obtain⟨u,r,l⟩:=hl i x v t D U;refine#[u,r,?_];rcases l with l|⟨k,c,e,z⟩
  .exact .inl l
  .exact .inr #[k,c,e,J x c e _ z]
 .obtain⟨v,z⟩:=I.cell x c e;exact#[v,J x c e v z]
 .obtain⟨m,⟨o,_,_,y,_⟩,_⟩:=I.loc;exact free _ o (λz=>(F _ z).2.1 rfl) y I.free
 .obtain⟨v,o,y,hd⟩:=I.cell x c e;exact free c o (λz=>(F c z).2.2.1 x c e rfl) y (I.ky x c e)
 .refine y9 (I.pin p L) λe n O R d=>?_;have B:p.1∉ch:=λz=>(F p.1 z).2.2.2 p L rfl;exact#[keep p.1 p.2 O R B e n,free p.1 p.2 B e n,O,R,d]
def Inv.un{t':Nat}(I:Inv X pins Y H s)(u:Un X.fs [] H H' s.heap h')(qO:zc X.prog X.w H' h'):Inv X pins Y H' {s with heap:=h',toks:=t'}:=by
 obtain⟨m,⟨o,es,ep,d,r⟩,_⟩:=id I.loc;obtain⟨sl,k⟩:=u.any d I.free (by simp);exact I.step (g':=s.gens) (d':=s.drawn) (ch:=[]) (λ_ z=>nomatch z) (λb o _ hb _ e n=>u.keep b o e n hb (by simp)) (λb o _ hb _ e n=>u.slot b o e n hb (by simp)) (λb o _ e n=>u.free b o e n (by simp)) (λb o _ e=>u.there b o e (by simp)) u.yy u.yB u.yx (λv l=>by obtain⟨o',t,q,g,p⟩:=l;rw[d]at g;cases g;exact#[_,t,q,k,p]) qO I.bare
def Inv.call{t':Nat}{d':Drawn}{ch:List Addr}(I:Inv X pins Y H s)(u:Un (jM X.stack) ch H H' s.heap h')(qO:zc X.prog X.w H' h')(q:AllBare g')
  (k:∀b∈ch,(b∈X.ex\/X.s₀.heap.objs.size<=b)/\b≠X.env.locals/\(∀x c,X.env.cells.lookup x=Qa c->c≠b)/\∀p∈X.pn++pins,p.1≠b):
  Inv X pins Y H' {s with heap:=h',gens:=g',drawn:=d',toks:=t'}:=by
 obtain⟨m,⟨o,es,ep,g,r⟩,_⟩:=id I.loc;obtain⟨sl,d⟩:=u.any g I.free λz=>(k _ z).2.1 rfl;exact I.step (ch:=ch) k (λb o d hb hc e n=>u.keep b o e n (λz=>(Ql.mp (I.ux b z)).elim d hb) hc) (λb o _ _ hc e n=>u.any e n hc) (λb o hc e n=>u.free b o e n hc) (λb o hc e=>u.there b o e hc) u.yy u.yB u.yx (λD t=>by obtain⟨o',B,y,l,v⟩:=t;rw[g]at l;cases l;exact#[_,B,y,d,v]) qO q
def Inv.turned{t':Nat}(I:Inv X pins Y H s)(k:∀b o,b≠it->s.heap.get? b=Qa o->h'.get? b=Qa o)(D:H it=Qc)(d:it≠X.env.locals)
  (l:it∈X.ex\/X.s₀.heap.objs.size<=it) (t:∀x c,X.env.cells.lookup x=Qa c->c≠it) (y:∀p∈X.pn++pins,p.1≠it):Inv X pins Y H {s with heap:=h',toks:=t'}:=by
 have g:∀b u,H b=Qa u->b≠it:=λb u e z=>by rw[z,D]at e;cases e
 refine I.step (g':=s.gens) (d':=s.drawn) (ch:=[it]) (λb hb=>?_) (λb o _ _ hc e _=>k b o (λz=>hc (by simp[z])) e) (λb o _ _ hc e _=>#[o.slots,k b o (λz=>hc (by simp[z])) e]) (λ_ _ _ _ n=>n)
  (λb o hc e=>#[o,k b o (λz=>hc (by simp[z])) e]) (λ_ _ e=>e) (λ_ _ _ e=>e) (λb ps e=>#[#[],by rw[e];simp]) (λm B=>?_) (λb u e=>?_) I.bare
 .have e:b=it:=by simpa using hb
  subst e;exact#[l,d,t,y]
 .obtain⟨o,es,ep,F,r⟩:=B;exact#[o,es,ep,k _ o (JK d) F,r]
 .refine (I.qO b u e).xa (λc v hc q=>k c v ?_ q) (λ_ q=>q) (λ_ _ q=>q) λ_ _ _ q=>q;rcases hc with z|z
  .rw[z];exact g b u e
  .exact g c _ z
def Inv.tok(I:Inv X pins Y H s)(t:Nat):Inv X pins Y H {s with toks:=t}:=I.un Un.refl I.qO
theorem Inv.kept{t':Nat}(I:Inv X pins Y H s)(k:∀b u,s.heap.get? b=Qa u->h'.get? b=Qa u):Inv X pins Y H {s with heap:=h',toks:=t'}:=I.un (Un.kept k) (I.qO.kept k)
theorem Inv.laid{o:HO}{t':Nat}(I:Inv X pins Y H s)(k:∀b u,s.heap.get? b=Qa u->h'.get? b=Qa u)(d:s.heap.objs.size<=a)(g:jn X.prog X.w (upd H a o) h' a o):
  Inv X pins Y (upd H a o) {s with heap:=h',toks:=t'}:=I.un (Un.laid k d (I.qO.fresh d)) (I.qO.laid k d g)
theorem Inv.write{x e:Addr}{o:HO}{t':Nat}(I:Inv X pins Y H s)(p:Px (H x))(l:e=x\/H e=Qa (.own x))(k:∀b u,b≠e->s.heap.get? b=Qa u->h'.get? b=Qa u)(g:∃u,h'.get? e=Qa u)
  (d:jn X.prog X.w (upd H x o) h' x o):Inv X pins Y (upd H x o) {s with heap:=h',toks:=t'}:=I.un (Un.write p l k g) (I.qO.write p l k g d)
def Inv.weak{b:List (Option V)}(I:Inv X pins Y H s)(hl:b.length=Y.length)(w:∀(i:Nat) v,b[i]?=Qa (Qa v)->Y[i]?=Qa (Qa v)):Inv X pins b H s:=
 #[I.ok,I.os,I.bare,I.base,let⟨m,hn,u5⟩:=I.loc;#[m,hn,λi x v d g k=>u5 i x v d (w i v g) k],I.cell,I.free,I.ky,I.pin,I.qO,hl.trans I.len]
def Inv.CH{b:List (Addr×Obj)}(I:Inv X pins Y H s)(h:∀p∈b,s.heap.get? p.1=Qa p.2/\H p.1=Qc/\p.1≠X.env.locals/\p.1∉X.fs/\∀v,p.2.data≠.cell v):Inv X b Y H s:=
 #[I.ok,I.os,I.bare,I.base,I.loc,I.cell,I.free,I.ky,λp d=>(QF.mp d).elim (λz=>I.pin p (QR _ z)) (h p),I.qO,I.len]
def Sy(k:N.Nodup)(a:N[i]?=Qa x)(b:N[j]?=Qa x):i=j:=by obtain⟨l,d⟩:=Qn.mp a;obtain⟨p,g⟩:=Qn.mp b;exact(List.getElem_inj k).mp (d.trans g.symm)
def q9q{M:ZL}{A:Around}{E:NZ}{v:V}{Q:Unit->Shared->Prop}(I:Inv X pins Y H s)(hN:X.N.Nodup)(hi:X.N[i]?=Qa x)(l:Loc X.env.scope x)(r:RelV v u)
  (h:∀s',Inv X pins (Y.set i (Qa v)) H s'->(∃a,JI a s.heap s'.heap/\(a=X.env.locals\/X.env.cells.lookup x=Qa a))->Q () s') (hf:X.fn x=Qb\/X.env.scope.names.lookup x=Qa .local):wpAny M A (storeName X.env x u) Q E s:=by
 obtain⟨m,S,hl⟩:=id I.loc;have B:i<Y.length:=by rw[I.len];exact(Qn.mp hi).1
 have xB:=I.xB;have sP:∀{a:Addr}{h':Heap},(∃o,s.heap.get? a=Qa o/\H a=Qc)->JI a s.heap h'->zc X.prog X.w H h':=λ{a h'} ha hs b ob e=>by
  obtain⟨_,_,hJ⟩:=ha;refine(I.qO b ob e).xa (λc L hc q=>(hs.2 c ?_).trans q) (λ_ q=>q) (λ_ _ q=>q) λ_ _ _ q=>q;rintro rfl;rcases hc with rfl|hc
  .rw[hJ]at e;cases e
  .rw[hJ]at hc;cases hc
 rcases l with D|D
 .refine wpAny_storeName_local D S (λh' Ew hs=>?_) (by rw[I.ok.kind];rfl);obtain⟨oL,_,_,iA,_⟩:=id S;refine h _ #[I.ok,I.os,I.bare,#[λb o e n hb l=>?_,λb o e n hb l=>?_,I.base.free,λb o e l=>?_,I.base.yy,I.base.yB,I.base.yx],#[_,Ew,λj y v' g t R=>?_],λy c e=>?_,I.free,I.ky,λp T=>?_,sP #[oL,iA,I.free] hs,by simpa using I.len] #[_,hs,.inl rfl]
  .exact (hs.2 b (QQ (Qz (Qx e) I.ok.above))).trans (I.base.keep b o e n hb l)
  .obtain⟨sl,g⟩:=I.base.slot b o e n hb l;exact#[sl,(hs.2 b (QQ (Qz (Qx e) I.ok.above))).trans g]
  .obtain⟨o',g⟩:=I.base.there b o e l;exact#[o',(hs.2 b (QQ (Qz (Qx e) I.ok.above))).trans g]
  .by_cases F:j=i
   .subst F;rw[hi]at g;cases g;rw[Yv B]at t;cases t;exact#[u,r,.inl #[D,by simp]]
   .rw[Yg (JK F)]at t;refine qH (hl j y v' g t R) λu' Z q=>?_;refine#[u',Z,?_];rcases q with⟨k,e⟩|⟨k,c,e,z⟩
    .refine .inl #[k,?_];have:y≠x:=λe=>F (Sy hN g (e▸hi));simp[this,e]
    .exact .inr #[k,c,e,z.sameBut hs (xB y c e)]
  .obtain⟨L,z⟩:=I.cell y c e;exact#[L,z.sameBut hs (xB y c e)]
  .refine y9 (I.pin p T) λe n J U d=>?_;exact#[(hs.2 p.1 J).trans e,n,J,U,d]
 .have O:X.fn x=Qb:=by
   rcases hf with z|z
   .exact z
   .rw[z]at D;cases D
  obtain⟨c,hc⟩:=I.ok.has x (.inl D);obtain⟨L,z⟩:=I.cell x c hc;refine wpAny_storeName_cell I.ok.kind D hc z (λh' TC hs=>?_);obtain⟨oc,iB,W⟩:=id z;refine h {s with heap:=h'} #[I.ok,I.os,I.bare,#[λb o e n hb l=>?_,λb o e n hb l=>?_,I.base.free,λb o e l=>?_,I.base.yy,I.base.yB,I.base.yx],#[m,S.sameBut hs (JK (xB x c hc)),λj y v' g t R=>?_],λy G e=>?_,I.free,I.ky,λp T=>?_,sP #[oc,iB,I.ky x c hc] hs,by simpa using I.len] #[c,hs,.inr hc]
  .exact (hs.2 b (QQ (Qz (Qx e) (I.ok.Xx x c O hc)))).trans (I.base.keep b o e n hb l)
  .obtain⟨sl,g⟩:=I.base.slot b o e n hb l;exact#[sl,(hs.2 b (QQ (Qz (Qx e) (I.ok.Xx x c O hc)))).trans g]
  .obtain⟨o',g⟩:=I.base.there b o e l;exact#[o',(hs.2 b (QQ (Qz (Qx e) (I.ok.Xx x c O hc)))).trans g]
  .by_cases F:j=i
   .subst F;rw[hi]at g;cases g;rw[Yv B]at t;cases t;exact#[u,r,.inr #[.inl D,c,hc,TC]]
   .rw[Yg (JK F)]at t;refine qH (hl j y v' g t R) λu' Z q=>?_;refine#[u',Z,?_];rcases q with q|⟨k,G,e,z'⟩
    .exact .inl q
    .refine .inr #[k,G,e,z'.sameBut hs ?_];rintro rfl;exact F (Sy hN g (I.ok.inj _ _ _ e hc▸hi))
  .by_cases Lw:G=c
   .subst Lw;exact#[_,TC]
   .obtain⟨w2,z2⟩:=I.cell y G e;exact#[w2,z2.sameBut hs Lw]
  .refine y9 (I.pin p T) λe n J U d=>?_;refine#[(hs.2 p.1 ?_).trans e,n,J,U,d];intro q;rw[q,iB]at e;exact d L (by rw[<-(QV e)];exact W)
def wu{M:ZL}{A:Around}{E:NZ}{v:V}{Q:Unit->Shared->Prop}(I:Inv X pins Y H s)(d:X.N.Nodup)(hi:X.N[i]?=Qa x)(g:Loc X.env.scope x)(r:RelV v u)
  (h:∀s',Inv X pins (Y.set i (Qa v)) H s'->Q () s') (hf:X.fn x=Qb\/X.env.scope.names.lookup x=Qa .local):wpAny M A (storeName X.env x u) Q E s:=
 q9q I d hi g r (λs' b _=>h s' b) hf
def Inv.Ig{ch:List Addr}(I:Inv X pins Y H s)(g:s'.os=s.os)(u:Un (jM X.stack) ch H H' s.heap s'.heap)(qO:zc X.prog X.w H' s'.heap)(d:AllBare s'.gens)
  (k:∀b∈ch,(b∈X.ex\/X.s₀.heap.objs.size<=b)/\b≠X.env.locals/\(∀x c,X.env.cells.lookup x=Qa c->c≠b)/\∀p∈X.pn++pins,p.1≠b):Inv X pins Y H' s':=by
 obtain⟨h',g',d',t',o'⟩:=s';have e:=g;subst e;exact I.call u qO d k
end
abbrev XK:=Value->Option Addr->Hp->Prop
abbrev St:=List (Option V)
abbrev VK:=V->Hp->Prop
def EP(X:Cx)(pins:List (Addr×Obj))(Y:St)(Q:VK)(u:Value)(s':Shared):Prop:=∃v H',Inv X pins Y H' s'/\RelV v u/\Q v H'
def TP(X:Cx)(pins:List (Addr×Obj))(Y:St)(Q:Bool->Hp->Prop)(b:Bool)(s':Shared):Prop:=∃H',Inv X pins Y H' s'/\Q b H'
def R7{t:Sem α}{Q b:α->Shared->Prop}(h:wpAny M A t Q E s)(d:∀a s,Q a s->b a s):wpAny M A t b E s:=Qh h d λ_ _ x=>x
section
variable{X:Cx}
def Gl(X:Cx)(x:Str):Prop:=X.env.kindOf x=Qa .globalImplicit
def xP{E:NZ}{Y:St}{H:Hp}{pos:WD}(I:Inv X pins Y H s)(b:Gl X x)(d:X.mg x=Qa u)(h:Q u s)
  (hd:(x==("__debug__":Str))=Qf:=by decide):wpAny (model X.prog X.w) X.A (Je (.Name x pos) X.env) Q E s:=
 WO I.ok.kind b (Calls.loadGlobal_global (by rw[I.ok.glob];exact I.mod.glob.keeps I.bk) d h) hd
def wJ{E:NZ}{Y:St}{H:Hp}{pos:WD}(I:Inv X pins Y H s)(g:Gl X x)(k:X.mg x=Qc)(hv:bootBuiltins x=Qa u)(h:Q u s)
  (l:x≠"__name__":=by decide) (hd:(x==("__debug__":Str))=Qf:=by decide):wpAny (model X.prog X.w) X.A (Je (.Name x pos) X.env) Q E s:=by
 obtain⟨mb,b,d⟩:=I.mod.blt;exact WO I.ok.kind g (Calls.loadGlobal_builtin (by rw[I.ok.glob];exact I.mod.glob.keeps I.bk) k (by rw[I.ok.blt];exact b.keeps I.bk) ((d x l).trans hv) h) hd
variable{a b:Expr}
variable{tA tB':TT}{rest:List Expr}
end
def zM(K:QC)(H:Hp)(a:Addr)(xs:List V):Prop:=
 Rd H a (.qA xs)\/
  ∃(o:Obj)(its:Array Value)(n:Nat),K.lookup a=Qa o/\o.cls=.type "list"/\o.dict=Qc/\o.data=.seq its n/\its.size<=QD/\Vals xs its.toList
def zw(K:QC)(H:Hp)(a:Addr)(xs:List V):Prop:=
 Rd H a (.qE xs)\/
  ∃(o:Obj)(its:Array Value)(n:Nat),K.lookup a=Qa o/\o.cls=.type "tuple"/\o.data=.seq its n/\its.size<=QD/\Vals xs its.toList
noncomputable def tG:Value->Option V
 |.none=>Qa .qI
 |.bool b=>Qa (.bl b)
 |.int i _=>Qa (.int i)
 |.str x _=>Qa (.str x)
 |.bytes b _=>Qa (.RK b)
 |.float b _=>Qa (.Ef b)
 |.ref a=>Qa (.ref a)
 |.type n=>Qa (.ty n)
 |_=>Qc
def RelV.abs{x:V}(r:RelV x u):tG u=Qa x:=by
 cases x with
 |qI=>cases r;rfl
 |bl _=>cases r;rfl
 |int _=>obtain⟨t,rfl⟩:=r;rfl
 |str _=>obtain⟨t,rfl⟩:=r;rfl
 |RK _=>obtain⟨t,rfl⟩:=r;rfl
 |Ef _=>obtain⟨t,rfl⟩:=r;rfl
 |ref _=>cases r;rfl
 |ty _=>cases r;rfl
def RelV.inj{x y:V}(r:RelV x u)(q:RelV y u):x=y:=QV (r.abs.symm.trans q.abs)
theorem Vals.inj{xs ys:List V}(h:Vals xs us)(g:Vals ys us):xs=ys:=by
 induction h generalizing ys with
 |nil=>cases g;rfl
 |cons r t b=>cases g with|cons d t'=>rw[r.inj d,b t']
section
variable{X:Cx}{Y:St}{H:Hp}{xs ys:List V}
def zM.of(h:H a=Qa (.qA xs)):zM K H a xs:=.inl (.inl h)
def zw.of(h:H a=Qa (.qE xs)):zw K H a xs:=.inl (.inl h)
def Inv.list(I:Inv X pins Y H s)(h:zM X.K H a xs):∃its:List Value,Vals xs its/\PlainL s.heap a its.toArray/\xs.length<=QD:=by
 rcases h with h|⟨o,its,n,b,hc,hd,hs,d,r⟩
 .refine xo (h.ok I.qO) λz its n r e=>?_;exact#[its,r,#[_,n,e,rfl,rfl,rfl],z]
 .refine#[its.toList,r,#[o,n,I.jN a o b,hc,hd,by simpa using hs],?_];have e:=r.length;simp at e;lia
def Inv.tuple(I:Inv X pins Y H s)(h:zw X.K H a xs):∃its:List Value,Vals xs its/\IsTup s.heap a its.toArray/\xs.length<=QD:=by
 rcases h with h|⟨o,its,n,b,hc,hs,d,r⟩
 .obtain⟨z,its,r,p⟩:=h.ok I.qO;exact#[its,r,p,z]
 .refine#[its.toList,r,#[o,I.jN a o b,hc,n,by simpa using hs],?_];have e:=r.length;simp at e;lia
def Inv.q4X(I:Inv X pins Y H s)(h:zM X.K H a xs)(h':zM X.K H a ys):xs=ys:=by
 obtain⟨its,r,⟨o,n,e,_,_,d⟩,_⟩:=I.list h;obtain⟨g,k,⟨o',l,b,_,_,d'⟩,_⟩:=I.list h';rw[e]at b;cases b;rw[d]at d';injection d' with d1 _
 have:its=g:=by simpa using congrArg V4 d1
 subst this;exact r.inj k
def Inv.qA7(I:Inv X pins Y H s)(h:zw X.K H a xs)(h':zw X.K H a ys):xs=ys:=by
 obtain⟨its,r,⟨o,e,_,n,d⟩,_⟩:=I.tuple h;obtain⟨g,k,⟨o',b,_,l,d'⟩,_⟩:=I.tuple h';rw[e]at b;cases b;rw[d]at d';injection d' with d1 _
 have:its=g:=by simpa using congrArg V4 d1
 subst this;exact r.inj k
end
noncomputable abbrev Cx.ql(X:Cx)(E:NZ):Cx:={X with xe:=E}
theorem Cx.Ok.ql{X:Cx}(ok:X.Ok)(E:NZ):(X.ql E).Ok:=
 #[ok.mod,ok.kind,ok.glob,ok.blt,ok.above,ok.inj,ok.has,ok.Xx,ok.hd,ok.frames,ok.w9,ok.EZ,ok.bs,ok.yX,ok.Te,ok.RW,ok.funs,ok.xy]
def Cx.Ok.wB{X:Cx}(ok:(X.ql E).Ok):X.Ok:=
 #[ok.mod,ok.kind,ok.glob,ok.blt,ok.above,ok.inj,ok.has,ok.Xx,ok.hd,ok.frames,ok.w9,ok.EZ,ok.bs,ok.yX,ok.Te,ok.RW,ok.funs,ok.xy]
section
variable{X:Cx}{Y:St}{H:Hp}
theorem Inv.ql(I:Inv X pins Y H s)(E:NZ):Inv (X.ql E) pins Y H s:=#[I.ok.ql E,I.os,I.bare,I.base,I.loc,I.cell,I.free,I.ky,I.pin,I.qO,I.len]
theorem Inv.wB(I:Inv (X.ql E) pins Y H s):Inv X pins Y H s:=#[I.ok.wB,I.os,I.bare,I.base,I.loc,I.cell,I.free,I.ky,I.pin,I.qO,I.len]
end
section
variable{X:Cx}{st:Stmt}{rest:List Stmt}{t u:TS}{te:TE}
def Inv.quiet{Y:St}{H:Hp}(I:Inv X pins Y H s):interactive X.env=Qf:=by simp[interactive,I.ok.kind]
end
abbrev TG:=V->St->Hp->(St->Hp->Prop)->Prop
abbrev Xo:=List V->St->Hp->(St->Hp->Prop)->Prop
def PG(X:Cx)(target:Expr)(t:TG):Prop:=
 ∀(pins:List (Addr×Obj))(s:Shared)(Y:St)(H:Hp)(v:V)(u:Value)(Q:St->Hp->Prop),Inv X pins Y H s->RelV v u->t v Y H Q->
  wpAny (model X.prog X.w) X.A (Vm target X.env u) (λ_ s'=>∃b H',Inv X pins b H' s'/\Q b H') X.xe s
def Cp(X:Cx)(d:List Expr)(t:Xo):Prop:=
 ∀(pins:List (Addr×Obj))(s:Shared)(Y:St)(H:Hp)(vs:List V)(us:List Value)(Q:St->Hp->Prop),Inv X pins Y H s->Vals vs us->t vs Y H Q->
  wpAny (model X.prog X.w) X.A (assignInOrder ((WE d X.env).map (·.2)) us) (λ_ s'=>∃b H',Inv X pins b H' s'/\Q b H') X.xe s
section
variable{X:Cx}
def q2C(i:Nat):TG:=λv Y H Q=>Q (Y.set i (Qa v)) H
def ot(d:X.N.Nodup)(hi:X.N[i]?=Qa x)(g:Loc X.env.scope x)(hf:X.fn x=Qb\/X.env.scope.names.lookup x=Qa .local):PG X (.Name x pos) (q2C i):=by intro pins s Y H v u Q I r h;exact Ul (wu I d hi g r (λs' b=>#[_,H,b,h]) hf)
def q2D:Xo:=λvs Y H Q=>vs=[]/\Q Y H
def q2B(t:TG)(u:Xo):Xo:=λvs Y H Q=>∃v r,vs=v::r/\t v Y H λb H'=>u r b H' Q
def q6l:Cp X [] q2D:=by intro pins s Y H vs us Q I r h;obtain⟨e,h⟩:=h;subst e;cases r;exact assignInOrder_nil #[Y,H,I,h]
def ou{t:TG}{u:Xo}(k:PG X e t)(l:Cp X es u)
  (hs:(WE (e::es) X.env).map (·.2)=Vm e X.env::(WE es X.env).map (·.2)):Cp X (e::es) (q2B t u):=by
 intro pins s Y H vs us Q I r h;obtain⟨v,B,g,h⟩:=h;subst g;cases r with
 |cons r q=>
  rw[hs];refine assignInOrder_cons (R7 (k pins s Y H _ _ _ I r h) λ_ y z=>ja z λb H1 d p=>?_);exact l pins y b H1 _ _ Q d q p
def q2E(K:QC)(n:Nat)(t:Xo):TG:=λv Y H Q=>∃a xs,v=.ref a/\zw K H a xs/\xs.length=n/\t xs Y H Q
def q6k{k:Nat}{t:Xo}(hc:X.calm=Qb)(h:Cp X es t)
  (p:(WE es X.env).length=n) (B:(WE es X.env).findIdx? (·.1)=Qc):PG X (.Tuple es k pos) (q2E X.K n t):=by
 intro pins s Y H v u Q I r hw;obtain⟨a,xs,l,q,hl,hw⟩:=hw;subst l;cases r;obtain⟨its,d,y,D⟩:=I.tuple q;refine assign_Tuple_tuple (I.ok.hd hc) y (by simp[p,<-hl,d.length]) B λh' z=>?_;have g:Inv X pins Y H {s with heap:=h'}:=I.kept (t':=s.toks) λb o e=>z b o (QQ (Qx e)) e;exact h pins _ Y H xs _ Q g (by simpa using d) hw
end
structure It where
 go:Nat->Hp->Prop
 RA:Nat->Hp->V->Hp->Prop
 stop:Nat->Hp->Prop
def jG(X:Cx)(pins:List (Addr×Obj))(H:Hp)(b:Addr):Prop:=
 H b=Qc/\b≠X.env.locals/\b∉X.fs/\(b∈X.ex\/X.s₀.heap.objs.size<=b)/\(∀x c,X.env.cells.lookup x=Qa c->c≠b)/\∀p∈X.pn++pins,p.1≠b
def Inv.RX{X:Cx}{Y:St}{H H':Hp}{b:Addr}(I:Inv X pins Y H s)(hb:s.heap.objs.size<=b)(d:H' b=Qc):jG X pins H' b:=by
 refine#[d,ZN (Qz I.lt hb),I.q5L hb,.inr (Qw I.sz hb),λx c e z=>?_,λp g z=>?_]
 .obtain⟨v,q⟩:=I.cell x c e;exact absurd (Qz q.lt (by rw[z];exact hb)) (Jx _)
 .exact absurd (Qz (Qx (I.pin p g).1) (by rw[z];exact hb)) (Jx _)
structure Turn(P:Program)(w:World)(K:QC)(tg:Expr)(J:It)(fp:List Addr)(it:Addr)(tn:Nat->Heap->Prop):Prop where
 mem:it∈fp
 obj:∀i h,tn i h->∀b∈fp,∃o,h.get? b=Qa o/\∀v,o.data≠.cell v
 keep:∀i h h',tn i h->(∀b∈fp,∀o,h.get? b=Qa o->h'.get? b=Qa o)->tn i h'
 item:∀(X:Cx),X.prog=P->X.w=w->X.K=K->X.calm=Qb->∀(i:Nat)(pins:List (Addr×Obj))(s:Shared)(Y:St)(H:Hp)(E:NZ),Inv X pins Y H s->(∀b∈fp,jG X pins H b)->tn i s.heap->J.go i H->
  wpAny (model P w) X.A (pyNext (.ref it)) (λr s1=>∃u,r=Qa u/\
   wpAny (model P w) X.A (letOwnedTupleGo tg (.ref it) u) (λ_ s2=>∃x H',Inv X pins Y H' s2/\RelV x u/\J.RA i H x H'/\tn (i+1) s2.heap/\∀b∈fp,H' b=Qc) E s1) E s
 done:∀(X:Cx),X.prog=P->X.w=w->X.K=K->X.calm=Qb->∀(i:Nat)(pins:List (Addr×Obj))(s:Shared)(Y:St)(H:Hp)(E:NZ),Inv X pins Y H s->(∀b∈fp,jG X pins H b)->tn i s.heap->J.stop i H->
  wpAny (model P w) X.A (pyNext (.ref it)) (λr s1=>r=Qc/\Inv X pins Y H s1) E s
 self:∀(A:Around)(i:Nat)(s:Shared)(Q:NZ)(E:NZ),tn i s.heap->Q (.ref it) s->wpAny (model P w) A (pyIter (.ref it)) Q E s
def bp(X:Cx)(pins:List (Addr×Obj))(Y:St)(tg:Expr)(R:It->Hp->Prop)(d:Value)(s2:Shared):Prop:=
 ∃(it:Addr)(fp:List Addr)(tn:Nat->Heap->Prop)(J:It)(H':Hp),d=.ref it/\Inv X pins Y H' s2/\Turn X.prog X.w X.K tg J fp it tn/\tn 0 s2.heap/\(∀b∈fp,jG X pins H' b)/\R J H'
def Ej{n:String}{vs:Array Value}{Q:Unit->Shared->Prop}(g:s.heap.get? it=Qa o)(hc:o.cls=.type n)(hd:o.data=.fields vs)
  (d:["enumerate","zip","dict_itemiterator","dict_reverseitemiterator","odict_iterator","itertools.zip_longest","itertools.pairwise"].contains n=Qf) (b:Q () s):wpAny M A (letOwnedTupleGo tg (.ref it) u) Q E s:=by
 unfold letOwnedTupleGo;cases tg<;>first
  |exact Qi b
  |(cases u<;>first
    |exact Qi b
    |(refine Qe (wpAny_load g ?_)
      rw[hc,hd];show wpAny M A (if(["enumerate","zip","dict_itemiterator","dict_reverseitemiterator","odict_iterator","itertools.zip_longest","itertools.pairwise"].contains n&&vs[0]?==Qa (VI _))=Qb then _ else _) Q E s;rw[if_neg (by intro h;rw[d,Bool.false_and]at h;cases h)];exact Qi b))
noncomputable def bc(K:QC)(a:Addr):It:=
 #[λi H=>∃xs x,zM K H a xs/\xs[i]?=Qa x,λi H x H'=>H'=H/\∀xs,zM K H a xs->xs[i]?=Qa x,λi H=>∃xs,zM K H a xs/\xs.length<=i]
noncomputable def bf(K:QC)(a:Addr):It:=
 #[λi H=>∃xs x,zw K H a xs/\xs[i]?=Qa x,λi H x H'=>H'=H/\∀xs,zw K H a xs->xs[i]?=Qa x,λi H=>∃xs,zw K H a xs/\xs.length<=i]
noncomputable def Pw(lo:Int)(n:Nat):It:=#[λi _=>i<n,λi H x H'=>H'=H/\x=.int (lo+i),λi _=>n<=i]
def qAB(a it:Addr):Turn P w K tg (bc K a) [it] it (λi h=>h.IsListIter it a i)where
 mem:=by simp
 obj:=λi h g b hb=>by
  have e:b=it:=by simpa using hb
  subst e;refine qd g λo e c d=>?_;exact#[o,e,λv z=>by rw[d]at z;cases z]
 keep:=λi h h' g k=>g.at λo e=>k it (by simp) o e
 item:=by intro X F hw D hc i pins s Y H E I hf g G;subst F hw D;refine ja G λxs x l J=>?_;refine qd (I.list l) λits L p V=>?_;refine qH (L.get J) λu hu W=>?_;refine k8 (hf it (by simp)) λq r T t y B=>?_;refine wpAny_pyNext_list_item g p.isList (x:=u) (by simpa using hu) λh' O Z=>?_;have R:Inv X pins Y H {s with heap:=h'}:=I.turned (t':=s.toks) (λb o hb e=>(Z.2 b hb).trans e) q r t y B;refine qd (id O) λo e c d=>?_;exact#[u,rfl,Ej (s:={s with heap:=h'}) e c d (by decide) #[x,H,R,W,#[rfl,λys U=>by rw[I.q4X U l];exact J],O,λb hb=>(hf b hb).1]]
 done:=by intro X F hw D hc i pins s Y H E I hf g G;subst F hw D;refine qH G λxs l J=>?_;refine qd (I.list l) λits L p V=>?_;refine k8 (hf it (by simp)) λq r T t y B=>?_;have hl:=L.length;exact wpAny_pyNext_list_end (I.ok.hd hc) g p.isList (by simp;lia) λh' S=>#[rfl,I.turned (t':=s.toks) (λb o hb e=>S b o hb e) q r t y B]
 self:=λ_ _ _ _ _ g h=>wpAny_pyIter_listiter g h
def qAD(a it:Addr):Turn P w K tg (bf K a) [it] it (λi h=>h.IsTupleIter it a i)where
 mem:=by simp
 obj:=λi h g b hb=>by
  have e:b=it:=by simpa using hb
  subst e;refine qd g λo e c d=>?_;exact#[o,e,λv z=>by rw[d]at z;cases z]
 keep:=λi h h' g k=>g.at λo e=>k it (by simp) o e
 item:=by intro X F hw D hc i pins s Y H E I hf g G;subst F hw D;refine ja G λxs x l J=>?_;refine qd (I.tuple l) λits L p V=>?_;refine qH (L.get J) λu hu W=>?_;refine k8 (hf it (by simp)) λq r T t y B=>?_;refine wpAny_pyNext_tuple_item g p (x:=u) (by simpa using hu) λh' O Z=>?_;have R:Inv X pins Y H {s with heap:=h'}:=I.turned (t':=s.toks) (λb o hb e=>(Z.2 b hb).trans e) q r t y B;refine qd (id O) λo e c d=>?_;exact#[u,rfl,Ej (s:={s with heap:=h'}) e c d (by decide) #[x,H,R,W,#[rfl,λys U=>by rw[I.qA7 U l];exact J],O,λb hb=>(hf b hb).1]]
 done:=by intro X F hw D hc i pins s Y H E I hf g G;subst F hw D;refine qH G λxs l J=>?_;refine qd (I.tuple l) λits L p V=>?_;refine k8 (hf it (by simp)) λq r T t y B=>?_;have hl:=L.length;exact wpAny_pyNext_tuple_end (I.ok.hd hc) g p (by simp;lia) λh' S=>#[rfl,I.turned (t':=s.toks) (λb o hb e=>S b o hb e) q r t y B]
 self:=λ_ _ _ _ _ g h=>wpAny_pyIter_tupleiter g h
def qAC(it:Addr)(lo:Int)(n:Nat):Turn P w K tg (Pw lo n) [it] it (λi h=>IsRangeIter h it (lo+(i:Nat)*1) ((n:Int)-(i:Nat)) 1)where
 mem:=by simp
 obj:=λi h d b hb=>by
  have e:b=it:=by simpa using hb
  subst e;exact#[_,d,λv z=>by cases z]
 keep:=λi h h' d k=>k it (by simp) _ d
 item:=by intro X B hw y hc i pins s Y H E I hf d D;subst B hw y;refine k8 (hf it (by simp)) λg l O p q r=>?_;refine(Walks.range (prog:=X.prog) (w:=X.w) (I.ok.hd hc) it lo 1 n).item i s _ _ D d λv h' F hv G R=>?_;obtain⟨t,rfl⟩:=hv;have J:Inv X pins Y H {s with heap:=h',toks:=F}:=I.turned (λb o hb e=>R b o (by simpa using hb) e) g l p q r;refine#[_,rfl,Ej (s:={s with heap:=h',toks:=F}) (n:="range_iterator") G rfl rfl (by decide) #[.int (lo+i),H,J,#[t,?_],#[rfl,rfl],G,λb hb=>(hf b hb).1]];rw[Int.mul_one]
 done:=by intro X B hw y hc i pins s Y H E I hf d D;subst B hw y;refine k8 (hf it (by simp)) λg l O p q r=>?_;exact wpAny_pyNext_range_end (I.ok.hd hc) d (by have:n<=i:=D;lia) λh' L=>#[rfl,I.turned (t':=s.toks) (λb o hb e=>L b o hb e) g l p q r]
 self:=λ_ _ _ _ _ d h=>wpAny_pyIter_rangeiter d h
section
variable{X:Cx}
def pJ{Y:St}{H:Hp}{R:It->Hp->Prop}{lo hi:Int}{t u v:Tok}{g:Nat}(I:Inv X pins Y H s)(p:-(2^62)<=lo)(r:lo<2^62)(y:-(2^62)<=hi)(z:hi<2^62)
  (q:R (Pw lo (hi-lo).toNat) H):wpAny (model X.prog X.w) X.A (pyIter (.ref s.heap.objs.size)) (bp X pins Y tg R) E {s with heap:=s.heap.push {cls:=.type "range",data:=.fields [.int lo t,.int hi u,.int 1 v].toArray},toks:=g}:=by
 refine wpAny_pyIter_range (IsRange.new ..) (small_one p r y z) ?_;have d:Inv X pins Y H {s with heap:=s.heap.push {cls:=.type "range",data:=.fields [.int lo t,.int hi u,.int 1 v].toArray},toks:=g}:=I.kept λb o e=>Qk _ e;refine#[(s.heap.push {cls:=.type "range",data:=.fields [.int lo t,.int hi u,.int 1 v].toArray}).objs.size,[(s.heap.push {cls:=.type "range",data:=.fields [.int lo t,.int hi u,.int 1 v].toArray}).objs.size],_,_,H,rfl,
  d.kept (t':=g) λb o e=>Qk _ e,qAC _ lo (hi-lo).toNat,?_,λb hb=>?_,q]
 .have k:lo+((0:Nat):Int)*1=lo:=by simp
  have l:(((hi-lo).toNat:Nat):Int)-((0:Nat):Int)=Builtin.Range.rangeSize lo hi 1:=by rw[rangeSize_one];split<;>lia
  show IsRangeIter _ _ (lo+((0:Nat):Int)*1) ((((hi-lo).toNat:Nat):Int)-((0:Nat):Int)) 1;rw[k,l];exact QG _ rfl
 .have e:b=(s.heap.push {cls:=.type "range",data:=.fields [.int lo t,.int hi u,.int 1 v].toArray}).objs.size:=by simpa using hb
  subst e;exact d.RX (Qt _) (d.qO.fresh (Qt _))
noncomputable def CG(fp:List Addr)(h:Heap):List (Addr×Obj):=fp.filterMap λb=>(h.get? b).map λo=>(b,o)
def PS{b:Addr}(hb:b∈fp)(e:h.get? b=Qa o):(b,o)∈CG fp h:=Y4.mpr #[b,hb,by rw[e];rfl]
def q6B{p:Addr×Obj}(g:p∈CG fp h):p.1∈fp/\h.get? p.1=Qa p.2:=by
 obtain⟨b,hb,e⟩:=Y4.mp g;cases q:h.get? b with
 |none=>rw[q]at e;cases e
 |some o=>
  rw[q]at e;have d:=QV e;subst d;exact#[hb,q]
def Inv.pinned{Y:St}{H:Hp}(I:Inv X pins Y H s)(hf:∀b∈fp,jG X pins H b)(r:∀b∈fp,∃o,s.heap.get? b=Qa o/\∀v,o.data≠.cell v):Inv X (pins++CG fp s.heap) Y H s:=
 I.CH λp t=>(QF.mp t).elim (λz=>I.pin p (Qr _ z)) λz=>by obtain⟨hb,e⟩:=q6B z;refine vf (hf p.1 hb) λk l q _=>?_;refine qH (r p.1 hb) λo g d=>?_;rw[e]at g;cases g;exact#[e,k,l,q,d]
def Inv.yV{pl:List (Addr×Obj)}{Y:St}{H:Hp}(I:Inv X (pins++pl) Y H s):Inv X pins Y H s:=I.CH λp b=>I.pin p (Qr _ (QR _ b))
end
abbrev R2:=V->V->Hp->VK->Prop
def zR(X:Cx)(f:Value->Value->Sem Value)(r:R2):Prop:=
 ∀(pins:List (Addr×Obj))(s:Shared)(Y:St)(H:Hp)(x y:V)(v u:Value)(Q:VK),Inv X pins Y H s->RelV x v->RelV y u->r x y H Q->
  wpAny (model X.prog X.w) X.A (f v u) (EP X pins Y Q) X.xe s
def uP(X:Cx)(f:Value)(r:List V->Hp->VK->Prop):Prop:=
 ∀(pins:List (Addr×Obj))(s:Shared)(Y:St)(H:Hp)(xs:List V)(us:List Value)(Q:VK),Inv X pins Y H s->Vals xs us->r xs H Q->
  wpAny (model X.prog X.w) X.A (call f us) (EP X pins Y Q) X.xe s
def tE(X:Cx)(r:V->Hp->(Bool->Hp->Prop)->Prop):Prop:=
 ∀(pins:List (Addr×Obj))(s:Shared)(Y:St)(H:Hp)(x:V)(v:Value)(Q:Bool->Hp->Prop),Inv X pins Y H s->RelV x v->r x H Q->
  wpAny (model X.prog X.w) X.A (truthy v) (TP X pins Y Q) X.xe s
def rI(C:Int->Int->Prop)(g:Int->Int->V):R2:=λx y H Q=>∃i j,x=.int i/\y=.int j/\C i j/\Q (g i j) H
def kl(g:Int->Int->V):R2:=λx y H Q=>∃i j,x=.int i/\y=.int j/\Q (g i j) H
section
variable{X:Cx}{a b:Expr}
def jo{f:Value->Value->Sem Value}{C:Int->Int->Prop}{g:Int->Int->Int}
  (rule:∀(i j:Int)(t u:Tok)(s:Shared)(Q:NZ)(E:NZ),C i j->Q (.int (g i j) s.toks) {s with toks:=s.toks+1}->wpAny (model X.prog X.w) X.A (f (.int i t) (.int j u)) Q E s):
  zR X f (rI C λi j=>.int (g i j)):=by
 intro pins s Y H x y v u Q I l p h;refine zN h λi j d k hc q=>?_;subst d k;obtain⟨t,rfl⟩:=l;obtain⟨t',rfl⟩:=p;exact rule i j t t' s _ _ hc #[.int (g i j),H,I.tok _,#[_,rfl],q]
def uI{f:Value->Value->Sem Value}{g:Int->Int->Int}
  (rule:∀(i j:Int)(t u:Tok)(s:Shared)(Q:NZ)(E:NZ),Q (.int (g i j) s.toks) {s with toks:=s.toks+1}->wpAny (model X.prog X.w) X.A (f (.int i t) (.int j u)) Q E s):
  zR X f (kl λi j=>.int (g i j)):=by
 intro pins s Y H x y v u Q I l p h;refine qN h λi j d k q=>?_;subst d k;obtain⟨t,rfl⟩:=l;obtain⟨t',rfl⟩:=p;exact rule i j t t' s _ _ #[.int (g i j),H,I.tok _,#[_,rfl],q]
def oY{f:Value->Value->Sem Value}{g:Int->Int->Bool}
  (rule:∀(i j:Int)(t u:Tok)(s:Shared)(Q:NZ)(E:NZ),Q (.bool (g i j)) s->wpAny (model X.prog X.w) X.A (f (.int i t) (.int j u)) Q E s):
  zR X f (kl λi j=>.bl (g i j)):=by
 intro pins s Y H x y v u Q I l p h;refine qN h λi j d k q=>?_;subst d k;obtain⟨t,rfl⟩:=l;obtain⟨t',rfl⟩:=p;exact rule i j t t' s _ _ #[.bl (g i j),H,I,rfl,q]
def Au(i j:Int):Prop:=0<j/\j<1073741824
def Av(i j:Int):Prop:=0<=j/\j<=1000000/\i.natAbs<2^64
def Xi(i j:Int):Prop:=(-(2^64)<i/\i<2^64)\/(-(2^64)<j/\j<2^64)
def Xi.ok{i j:Int}(h:Xi i j):IntMulOk i j:=by
 rcases h with⟨d,g⟩|⟨d,g⟩
 .exact .of_left (intBits_le_64 d g)
 .exact .of_right (intBits_le_64 d g)
def sU(k:Nat):(0:Int)<=2^k:=by rw[two_pow_cast];exact Int.natCast_nonneg _
def q6G:zR X (JR .Add) (kl λi j=>.int (i+j)):=uI λ_ _ _ _ _ _ _ q=>add_int q
def q6c:zR X (JR .Sub) (kl λi j=>.int (i-j)):=uI λ_ _ _ _ _ _ _ q=>sub_int q
def q6U:zR X (JR .Mult) (rI Xi λi j=>.int (i*j)):=jo λ_ _ _ _ _ _ _ hc q=>mul_int q hc.ok
def q6M:zR X (JR .FloorDiv) (rI Au λi j=>.int (i/j)):=jo λi j _ _ _ _ _ hc q=>by have d:(0:Int)<j:=hc.1;have g:j<1073741824:=hc.2;exact floordiv_int ∅ (by rw[YR i ∅];exact q) (.inl (Zc ∅))
def q6T:zR X (JR .Mod) (rI (λ_ j=>0<j) λi j=>.int (i %j)):=jo λi j _ _ _ _ _ hc q=>by have d:=hc;exact mod_int' ∅ (by rw[Zd i ∅];exact q)
def q6Z:zR X (JR .LShift) (rI Av λi j=>.int (i*2^j.toNat)):=jo λ_ _ _ _ _ _ _ hc q=>lshift_int_small hc.1 hc.2.1 hc.2.2 q
def q6a:zR X (JR .RShift) (rI (λ_ j=>0<=j) λi j=>.int (i/2^j.toNat)):=jo λi j _ _ _ _ _ hc q=>
 rshift_int hc (by rw[YR i (sU _)];exact q)
def q6I:zR X (JR .BitAnd) (kl λi j=>.int (Y6 i j)):=uI λ_ _ _ _ _ _ _ q=>and_int q
def q6X:zR X (JR .BitOr) (kl λi j=>.int (UK i j)):=uI λ_ _ _ _ _ _ _ q=>or_int q
def q6d:zR X (JR .BitXor) (kl λi j=>.int (UA i j)):=uI λ_ _ _ _ _ _ _ q=>xor_int q
def q3b:zR X (Yz .Add) (kl λi j=>.int (i+j)):=uI λ_ _ _ _ _ _ _ q=>iadd_int q
def q3k:zR X (Yz .Sub) (kl λi j=>.int (i-j)):=uI λ_ _ _ _ _ _ _ q=>isub_int q
def q3g:zR X (Yz .Mult) (rI Xi λi j=>.int (i*j)):=jo λ_ _ _ _ _ _ _ hc q=>imul_int q hc.ok
def q3d:zR X (Yz .FloorDiv) (rI Au λi j=>.int (i/j)):=jo λi j _ _ _ _ _ hc q=>by have d:(0:Int)<j:=hc.1;have g:j<1073741824:=hc.2;exact ifloordiv_int ∅ (by rw[YR i ∅];exact q) (.inl (Zc ∅))
def q3f:zR X (Yz .Mod) (rI (λ_ j=>0<j) λi j=>.int (i %j)):=jo λi j _ _ _ _ _ hc q=>by have d:=hc;exact imod_int ∅ (by rw[Zd i ∅];exact q)
def q3i:zR X (Yz .LShift) (rI Av λi j=>.int (i*2^j.toNat)):=jo λ_ _ _ _ _ _ _ hc q=>ilshift_int_small hc.1 hc.2.1 hc.2.2 q
def q3j:zR X (Yz .RShift) (rI (λ_ j=>0<=j) λi j=>.int (i/2^j.toNat)):=jo λi j _ _ _ _ _ hc q=>
 irshift_int hc (by rw[YR i (sU _)];exact q)
def q3c:zR X (Yz .BitAnd) (kl λi j=>.int (Y6 i j)):=uI λ_ _ _ _ _ _ _ q=>iand_int q
def q3h:zR X (Yz .BitOr) (kl λi j=>.int (UK i j)):=uI λ_ _ _ _ _ _ _ q=>ior_int q
def q3l:zR X (Yz .BitXor) (kl λi j=>.int (UA i j)):=uI λ_ _ _ _ _ _ _ q=>ixor_int q
end
section
variable{X:Cx}{a b:Expr}
def xx{Y:St}{Q:VK}{k d:Bool}(I:Inv X pins Y H s)(q:Q (.bl k) H)(e:k=d):EP X pins Y Q (.bool d) s:=by subst e;exact#[.bl k,H,I,rfl,q]
def q6S:zR X (Jy .LtE) (kl λi j=>.bl (decide (i<=j))):=oY λ_ _ _ _ _ _ _ q=>le_int q
def q6N:zR X (Jy .Gt) (kl λi j=>.bl (decide (j<i))):=oY λ_ _ _ _ _ _ _ q=>gt_int q
def q6R:zR X (Jy .Is) (λx y H Q=>y=.qI/\Q (.bl (decide (x=.qI))) H):=by
 intro pins s Y H x y v u Q I d g h;obtain⟨rfl,q⟩:=h;cases g;refine is_none_gen (xx I q ?_);cases x<;>first
  |(cases d;rfl)
  |(obtain⟨t,rfl⟩:=d;rfl)
def q6W:zR X (Jy .IsNot) (λx y H Q=>y=.qI/\Q (.bl (!decide (x=.qI))) H):=by
 intro pins s Y H x y v u Q I d g h;obtain⟨rfl,q⟩:=h;cases g;refine isnot_none_gen (xx I q ?_);cases x<;>first
  |(cases d;rfl)
  |(obtain⟨t,rfl⟩:=d;rfl)
def bt(K:QC)(x:V)(H:Hp)(k:Bool):Prop:=
 match x with
 |.qI=>k=Qf
 |.bl b=>k=b
 |.int i=>k=(i !=0)
 |.str y=>y.length<=QD/\k=((y.length:Int)!=0)
 |.RK y=>y.size<=QD/\k=((y.size:Int)!=0)
 |.ref p=>(∃xs,zM K H p xs/\k=!xs.isEmpty)\/(∃xs,zw K H p xs/\k=!xs.isEmpty)\/∃kvs,H p=Qa (.dK kvs)/\k=!kvs.isEmpty
 |_=>False
def q3o{kvs:List (κ×V)}{vs:List (κ×Value)}(r:KV kvs vs):(!vs.isEmpty)=!kvs.isEmpty:=by cases r<;>rfl
def ik{xs:List V}{its:List Value}(r:Vals xs its):(!its.toArray.isEmpty)=!xs.isEmpty:=by cases r<;>simp
def Dc:(QD:Nat)<2^63:=by rw[Q6];decide
def qA1:tE X (λx H Q=>∃k,bt X.K x H k/\Q k H):=by
 intro pins s Y H x v Q I g h;obtain⟨k,e,q⟩:=h;have hl:=Dc;have hs:=Q6;cases x with
 |qI=>
  cases g;have d:=e;subst d;exact truthy_none #[H,I,q]
 |bl b=>
  cases g;have d:=e;subst d;exact Yn #[H,I,q]
 |int i=>
  obtain⟨t,rfl⟩:=g;have d:=e;subst d;exact PySem.P.truthy_int #[H,I,q]
 |str y=>
  obtain⟨t,rfl⟩:=g;obtain⟨F,d⟩:y.length<=QD/\k=((y.length:Int)!=0):=e;subst d;exact PySem.P.truthy_str ∅ #[H,I.tok _,q]
 |RK y=>
  obtain⟨t,rfl⟩:=g;obtain⟨F,d⟩:y.size<=QD/\k=((y.size:Int)!=0):=e;subst d;exact PySem.W.truthy_bytes ∅ #[H,I.tok _,q]
 |ref p=>
  cases g;have d:=e;rcases d with⟨xs,l,d⟩|⟨xs,l,d⟩|⟨kvs,l,d⟩
  .subst d;refine qd (I.list l) λits r pl z=>?_;have B:=r.length;exact wpAny_truthy_list pl.isList (by simp;lia) #[H,I.tok _,by rw[ik r];exact q]
  .subst d;refine qd (I.tuple l) λits r pl z=>?_;have B:=r.length;exact truthy_tuple pl (by simp;lia) #[H,I.tok _,by rw[ik r];exact q]
  .subst d;obtain⟨z,D,vs,r,m⟩:kvs.length<=QD/\(p==JZ)=Qf/\∃vs,KV kvs vs/\s.heap.DictOf (vC X.prog X.w) p vs:=I.qO p _ l;have B:kvs.length=vs.length:=VG r;exact wpAny_truthy_dict D m ∅ #[H,I.tok _,by rw[q3o r];exact q]
 |_=>exact e.elim
def q6H:zR X (JR .Add) (λx y H Q=>∃i j,x=.str i/\y=.str j/\i.length+j.length<=QD/\Q (.str (i++j)) H):=by intro pins s Y H x y v u Q I l p h;refine zN h λi j g k d q=>?_;subst g k;obtain⟨t,rfl⟩:=l;obtain⟨t',rfl⟩:=p;exact add_str (λt' r=>#[.str (i++j),H,I.tok _,#[_,rfl],q]) d
def vals1{x:V}(r:Vals [x] us):∃u,us=[u]/\RelV x u:=by
 cases r with
 |cons d g=>cases g;exact#[_,rfl,d]
def vals2{x y:V}(r:Vals [x,y] us):∃u d,us=[u,d]/\RelV x u/\RelV y d:=by
 cases r with
 |cons g k=>
  cases k with
  |cons l p=>cases p;exact#[_,_,rfl,g,l]
def q0q:uP X (.builtin "abs") (λxs H Q=>∃i,xs=[.int i]/\Q (.int (if i<0 then-i else i)) H):=by intro pins s Y H xs us Q I r h;refine qH h λi d q=>?_;subst d;obtain⟨u,rfl,t,rfl⟩:=vals1 r;exact call_abs_int λu g=>#[.int (if i<0 then-i else i),H,I.tok _,#[_,rfl],q]
def q0s(hc:X.calm=Qb):uP X (.builtin "max") (λxs H Q=>∃i j,xs=[.int i,.int j]/\Q (.int (if j>i then j else i)) H):=by
 intro pins s Y H xs us Q I r h;refine ja h λi j g q=>?_;subst g;obtain⟨u,p,rfl,⟨t,rfl⟩,⟨t',rfl⟩⟩:=vals2 r;refine max_two_ints (I.ok.hd hc) λh' l k=>#[_,H,I.kept k,?_,q]
 by_cases d:j>i
 .rw[if_pos d,if_pos d];exact#[_,rfl]
 .rw[if_neg d,if_neg d];exact#[_,rfl]
def q0t(hc:X.calm=Qb):uP X (.builtin "min") (λxs H Q=>∃i j,xs=[.int i,.int j]/\Q (.int (if j<i then j else i)) H):=by
 intro pins s Y H xs us Q I r h;refine ja h λi j g q=>?_;subst g;obtain⟨u,p,rfl,⟨t,rfl⟩,⟨t',rfl⟩⟩:=vals2 r;refine min_two_ints (I.ok.hd hc) λh' l k=>#[_,H,I.kept k,?_,q]
 by_cases d:j<i
 .rw[if_pos d,if_pos d];exact#[_,rfl]
 .rw[if_neg d,if_neg d];exact#[_,rfl]
def dE:uP X (.type "int") (λxs H Q=>(∃i,xs=[.int i]/\Q (.int i) H)\/∃k,xs=[.bl k]/\Q (.int (if k then 1 else 0)) H):=by
 intro pins s Y H xs us Q I r h;rcases h with⟨i,rfl,q⟩|⟨k,rfl,q⟩
 .obtain⟨u,rfl,t,rfl⟩:=vals1 r;exact call_int_int #[.int i,H,I,#[_,rfl],q]
 .refine qH (vals1 r) λu g d=>?_;subst g;cases d;exact call_int_bool #[.int (if k then 1 else 0),H,I.tok _,#[_,rfl],q]
end
structure ObjM(h:Heap)(x dx C:Addr)(mA:Str->Option Value):Prop where
 obj:h.get? x=Qa (J7 C dx)
 ns:h.Ns1 dx mA
 ne:dx≠x
def q4Z(n:h.Ns1 dx mA):∃b,h.get? dx=Qa b/\∀name,Vn name b=Qa (mA name):=by
 refine qY n λo es ep l hd g _ k=>?_;refine#[o,l,λname=>?_];have e:=k name;unfold nsFind findBy at e;rw[<-Array.find?_toList]at e;unfold Vn;rw[hd];dsimp only;split
 .rename_i y q;rw[q]at e;exact congrArg Qa e
 .rename_i q;rw[q]at e;have a:es.toList.any (·.refKey)=Qf:=by rw[Wb];intro y p;obtain⟨z,t,d⟩:=g y (Array.mem_toList_iff.mp p);simp[DictEntry.refKey,d]
  rw[if_neg (by rw[a];exact Qq)];exact congrArg Qa e
def ObjM.look{x:Addr}(I:ObjM h x dx C mA):∃b,PySem.W.InstAt h x (J7 C dx) C (Qa b)/\∀name,Vn name b=Qa (mA name):=
 let⟨b,ho,hl⟩:=q4Z I.ns
 #[b,#[I.obj,rfl,rfl,ho],hl]
section
variable{x:Addr}{name:Str}{v:Value}
def get_map{expr:Bool}(X:K.In s.heap)(I:ObjM s.heap x dx C mA)(d:UU K C name=Qb)(g:VR K C=Qb)
  (b:Jw K (.ref C) name=Qa Qc) (hv:mA name=Qa v) (k:PySem.W.handedIn v=Qb) (h:Q v {s with toks:=s.toks+1}):
  wpAny (model prog w) A (getAttr (.ref x) name expr) Q E s:=by
 obtain⟨l,J,hl⟩:=I.look;exact PySem.W.get_value X J (VA d).1 (PySem.W.findObj_own g b rfl (by rw[hl,hv])) k h
def q2o{pl:Sem Bool}{Q:Value×List Value->Shared->Prop}(X:K.In s.heap)(I:ObjM s.heap x dx C mA)(b:UU K C name=Qb)
  (hf:Jw K (.ref C) name=Qa (Qa (.ref f))) (d:VS K (.ref f)=Qb) (hv:mA name=Qc) (h:Q (.ref f,[.ref x]) s):
  wpAny (model prog w) A (getMethod (.ref x) name pl) Q E s:=by
 obtain⟨g,J,hl⟩:=I.look;exact PySem.W.method_fn X J (VA b).1 (VA b).2 hf (beq_iff_eq.mp d) (by show(Vn name g).map (·.isSome)=Qa Qf;rw[hl,hv];rfl) h
def q8i{ns:List Str}{Q:Unit->Shared->Prop}(X:K.In s.heap)(I:ObjM s.heap x dx C mA)
  (hs:Jw K (.ref C) "__setattr__"=Qa (Qa (.builtin "object.__setattr__"))) (z:Z1 K C=Qb) (B:Wm K C name=Qa Qc) (t:VR K C=Qb)
  (hw:Zt mA ns) (hsz:ns.length<=QD)
  (h:∀h',ObjM h' x dx C (λy=>if y=name then Qa v else mA y)->JI dx s.heap h'->Q () {s with heap:=h',toks:=s.toks+2}):
  wpAny (model prog w) A (setAttr (.ref x) name v) Q E s:=by
 obtain⟨H,J,hl⟩:=I.look;refine PySem.W.set_plain X J hs (PySem.W.osa_open X J z B λb=>?_);refine qH (PySem.W.any_some t) λF hc D=>?_;refine Qe (Qi (Qe (Qe (wpAny_loadPart I.obj (Qe (WQ (PySem.W.looks_clsIn X hc) ?_))))));rw[D];refine Qi (Qe (Qi (Qe ?_)));refine wpAny_nsSet1 I.ns λh' l p=>?_;refine xu (l.count (PySem.Within.cons name v hw)) λG r q k g d=>?_;refine Qe (wpAny_lookBehind k (by rw[g];exact pastItsLine_dict (Qw d (by rw[QH];lia))) ?_);exact Qi (h _ #[(p.2 _ (JK I.ne)).trans I.obj,l,I.ne] p)
def q4l{R:ZO->Shared->Prop}{vs:List Value}(X:K.In s.heap)(b:U7 K C=Qb)
  (hi:Jw K (.ref C) "__init__"=Qa (Qa (.ref f))) (hf:PySem.W.typeIn K (.ref f)=Qa (.type "function"))
  (h:codeAny (model prog w) (A.under (.builtin "type.__call__" #[.ref C::vs,kw])) (.call (.ref f) #[.ref (s.heap.objs.size+1)::vs,kw]) (PySem.W.InitBack (s.heap.objs.size+1) R)
   {s with heap:=(s.heap.push JA).push (J7 C s.heap.objs.size)}):
  codeAny (model prog w) A (.call (.ref C) #[vs,kw]) R s:=by
 obtain⟨k,g,d,t,os⟩:=s;exact PySem.W.make_core (PySem.W.makes_of X b) (PySem.W.looks_findIn X hi) (λself=>PySem.W.bind_fn X self hf) (.inl rfl) h
end
noncomputable def kG(f:Str)(v:V):List (Str×V)->List (Str×V)
 |[]=>[(f,v)]
 |(g,x)::r=>if g=f then(g,v)::r else(g,x)::kG f v r
theorem mR(f g:Str)(v:V):∀fs:List (Str×V),(kG f v fs).lookup g=if g=f then Qa v else fs.lookup g
 |[]=>by
  show YM g [(f,v)]=_
  by_cases h:g=f
  .have hb:(g==f)=Qb:=beq_iff_eq.mpr h;simp only[YM,hb,if_pos h]
  .have hb:(g==f)=Qf:=beq_eq_false_iff_ne.mpr h;simp only[YM,hb,if_neg h]
 |(k,x)::r=>by
  have d:=mR f g v r;rw[show kG f v ((k,x)::r)=(if k=f then(k,v)::r else(k,x)::kG f v r) from rfl]
  by_cases b:k=f
  .rw[if_pos b]
   by_cases h:g=k
   .have hb:=beq_iff_eq.mpr h;simp only[YM,hb,if_pos (h.trans b)]
   .have hb:=beq_eq_false_iff_ne.mpr h;simp only[YM,hb,if_neg (λe:g=f=>h (e.trans b.symm))]
  .rw[if_neg b]
   by_cases h:g=k
   .have hb:=beq_iff_eq.mpr h;simp only[YM,hb,if_neg (λe:g=f=>b (h.symm.trans e))]
   .have hb:=beq_eq_false_iff_ne.mpr h;simp only[YM,hb];exact d
theorem Oa(f:Str)(v:V):∀fs:List (Str×V),f∈(kG f v fs).map (·.1)/\∀g,g∈fs.map (·.1)->g∈(kG f v fs).map (·.1)
 |[]=>#[by simp[kG],λg h=>by simp at h]
 |(k,x)::r=>by
  obtain⟨d,l⟩:=Oa f v r;rw[show kG f v ((k,x)::r)=(if k=f then(k,v)::r else(k,x)::kG f v r) from rfl]
  by_cases b:k=f
  .rw[if_pos b];subst b;exact#[by simp,λg h=>by simpa using h]
  .rw[if_neg b];refine#[?_,λg h=>?_]
   .rw[QK];exact Qd _ d
   .rw[QK]at h|-;rcases Ql.mp h with e|e
    .exact Ql.mpr (.inl e)
    .exact Qd _ (l g e)
theorem mD(f:Str)(v:V):∀fs:List (Str×V),(kG f v fs).length<=fs.length+1
 |[]=>by simp[kG]
 |(k,x)::r=>by
  have d:=mD f v r;rw[show kG f v ((k,x)::r)=(if k=f then(k,v)::r else(k,x)::kG f v r) from rfl]
  by_cases b:k=f
  .rw[if_pos b,QH,QH];lia
  .rw[if_neg b,QH,QH];lia
def ve.some_of{v:V}{o:Option Value}(r:ve (Qa v) o):∃u,o=Qa u/\RelV v u:=by
 cases o with
 |none=>exact r.elim
 |some u=>exact#[u,rfl,r]
def ve.none_of{o:Option Value}(r:ve Qc o):o=Qc:=by
 cases o with
 |none=>rfl
 |some u=>exact r.elim
def q2y{v:V}(r:RelV v u):PySem.W.handedIn u=Qb:=by
 cases v with
 |qI=>cases r;rfl
 |bl b=>cases r;rfl
 |int i=>obtain⟨t,e⟩:=r;cases e;rfl
 |str x=>obtain⟨t,e⟩:=r;cases e;rfl
 |RK b=>obtain⟨t,e⟩:=r;cases e;rfl
 |Ef b=>obtain⟨t,e⟩:=r;cases e;rfl
 |ref a=>cases r;rfl
 |ty n=>cases r;rfl
section
variable{H H':Hp}{fs fs':List (Str×V)}
def OT(qO:zc P w H h)(e:H a=Qa (.ins C dx fs)):∃mA,ObjM h a dx C mA/\(∀f,ve (fs.lookup f) (mA f))/\Zt mA (fs.map (·.1))/\fs.length<=1000/\H dx=Qa (.own a):=by
 obtain⟨d,z,ne,ob,mA,n,r,q⟩:=(qO a _ e)
 exact#[mA,#[ob,n,ne],r,q,z,d]
end
structure Cls(K:QC)(C:Addr):Prop where
 pg:UU K C Ve=Qb
 hd:VR K C=Qb
 po:Z1 K C=Qb
 sa:Jw K (.ref C) "__setattr__"=Qa (Qa (.builtin "object.__setattr__"))
def Cls.get(c:Cls K C)(f:Str):UU K C f=Qb:=c.pg
def Py(K:QC)(C:Addr)(f:Str):Prop:=Jw K (.ref C) f=Qa Qc
def Py.q9x{f:Str}(n:Py K C f):Wm K C f=Qa Qc:=by unfold Wm;rw[show Jw K (.ref C) f=Qa Qc from n];rfl
structure Meth(K:QC)(C:Addr)(m:Str)(f:Addr):Prop where
 at_:Jw K (.ref C) m=Qa (Qa (.ref f))
 fn:VS K (.ref f)=Qb
 kp:Jf K (.ref f)=Qb
section
variable{X:Cx}{Y:St}{H:Hp}{fs:List (Str×V)}{f:Str}{v:V}
def q2p{b:Bool}(I:Inv X pins Y H s)(e:H a=Qa (.ins C dx fs))(c:Cls X.K C)(n:Py X.K C f)(l:fs.lookup f=Qa v)
  (h:∀u s',Inv X pins Y H s'->RelV v u->Q u s'):wpAny (model X.prog X.w) A (getAttr (.ref a) f b) Q E s:=by
 refine xr (OT I.qO e) λmA O r _ _ _=>?_;obtain⟨u,hu,d⟩:=ve.some_of (by rw[<-l];exact r f);exact get_map I.jN O (c.get f) c.hd n hu (q2y d) (h u _ (I.tok _) d)
def Lm{g:Addr}{pl:Sem Bool}{Q:Value×List Value->Shared->Prop}(I:Inv X pins Y H s)(e:H a=Qa (.ins C dx fs))(c:Cls X.K C)(k:Meth X.K C m g)(l:fs.lookup m=Qc)
  (h:Q (.ref g,[.ref a]) s):wpAny (model X.prog X.w) A (getMethod (.ref a) m pl) Q E s:=by
 refine xr (OT I.qO e) λmA O r _ _ _=>?_;have b:=ve.none_of (by rw[<-l];exact r m);exact q2o I.jN O (c.get m) k.at_ k.fn b h
def rG{y:V}{Q:Unit->Shared->Prop}(I:Inv X pins Y H s)(e:H a=Qa (.ins C dx fs))(c:Cls X.K C)(n:Py X.K C f)(hl:fs.length<1000)(p:RelV y u)
  (h:∀s',Inv X pins Y (upd H a (.ins C dx (kG f y fs))) s'->Q () s'):wpAny (model X.prog X.w) A (setAttr (.ref a) f u) Q E s:=by
 refine xr (OT I.qO e) λmA O r k _ d=>?_;refine q8i I.jN O c.sa c.po n.q9x c.hd k (by rw[Qm,Q6];lia) λh' O' t=>h _ ?_;have hd:∃o,h'.get? dx=Qa o:=let⟨o,_,_,e',_⟩:=O'.ns;#[o,e'];refine I.write (x:=a) (e:=dx) (by rw[e];exact Y5) (.inr d) (λb q hb z=>(t.2 b hb).trans z) hd ?_;refine#[by rw[qW O.ne];exact d,?_,O.ne,O'.obj,_,O'.ns,λg=>?_,λg l=>?_]
 .have:=mD f y fs;lia
 .show ve ((kG f y fs).lookup g) (if g=f then Qa u else mA g);rw[mR]
  by_cases q:g=f
  .rw[if_pos q,if_pos q];exact p
  .rw[if_neg q,if_neg q];exact r g
 .by_cases q:g=f
  .rw[q];exact(Oa f y fs).1
  .refine (Oa f y fs).2 g (k g λz=>l ?_);show(if g=f then Qa u else mA g)=Qc;rw[if_neg q];exact z
def Inv.made(I:Inv X pins Y H s):Inv X pins Y (upd (upd H s.heap.objs.size (.own (s.heap.objs.size+1))) (s.heap.objs.size+1) (.ins C s.heap.objs.size []))
  {s with heap:=(s.heap.push JA).push (J7 C s.heap.objs.size)}:=by
 have d:(s.heap.push JA).get? s.heap.objs.size=Qa JA:=QG s.heap rfl;have g:((s.heap.push JA).push (J7 C s.heap.objs.size)).get? (s.heap.objs.size+1)=Qa (J7 C s.heap.objs.size):=by
  have:=QG (s.heap.push JA) (o:=J7 C s.heap.objs.size) rfl
  rwa [Ua]at this
 have k:(s.heap.push JA).Ns s.heap.objs.size (λ_=>Qc):=#[JA,#[],_,d,rfl,(λe l=>absurd l (by simp)),λ_=>rfl]
 refine(I.laid (a:=s.heap.objs.size) (o:=.own (s.heap.objs.size+1)) (h':=s.heap.push JA) (t':=s.toks) (λb u q=>Qk _ q) (Qt _) #[_,d]).laid (a:=s.heap.objs.size+1) (o:=.ins C s.heap.objs.size []) (t':=s.toks) (λb u q=>Qk _ q) (Nat.le_of_eq (Ua _ _)) ?_;have ne:s.heap.objs.size≠s.heap.objs.size+1:=QQ (Jh _);refine#[by rw[qW ne,zb],QU _,ne,g,λ_=>Qc,(Heap.Ns1.of_empty k).at λo q=>Qk _ q,λ_=>Y5,λy p=>absurd rfl p]
def q00{env:Env}(hb:YN e f env (Je e env)=Je e env)
  (h:wpAny (model prog w) A (Je e env) (λo b=>wpAny (model prog w) A (getAttr o f Qb) Q E b) E s):wpAny (model prog w) A (Je (.Attribute e f pos) env) Q E s:=
 Attribute_any_ h (by rw[arm_eval_Attribute,hb])
end
structure Room(k:Nat)(A:Around):Prop where
 hd:A.handled=Qc
 dp:A.depth+3*k+5<recursionLimit
 un:A.units+16*k+200<cLine
def Room.mono{k:Nat}(r:Room k A)(h:j<=k):Room j A:=#[r.hd,by have:=r.dp;lia,by have:=r.un;lia]
theorem Room.deeper{k:Nat}(r:Room (k+1) A)(env:Env):Room k (A.deeper env):=
 #[r.hd,by have:=r.dp;show A.depth+1+3*k+5<_;lia,by have:=r.un;show A.units+3+16*k+200<_;lia]
theorem Room.in1{k:Nat}(r:Room (k+1) A):Room k A.in1:=
 #[r.hd,by have:=r.dp;show A.depth+3*k+5<_;lia,by have:=r.un;show A.units+1+16*k+200<_;lia]
def q4k:(A.under (.builtin "type.__call__" #[.ref C::us,kw])).depth=A.depth+1:=by
 first|rfl|simp[Zl,Code.weight,Code.isCreation,Code.isGuard,Code.isCaller,Code.frames,ZE,guardIds]
def q4m:(A.under (.builtin "type.__call__" #[.ref C::us,kw])).units=A.units+1:=by
 first|rfl|simp[Zl,Code.cUnits,Code.frames,ZE]
def Room.make{k:Nat}(r:Room (k+1) A)(C:Addr)(us:List Value)(kw:List (Str×Value)):Room k (A.under (.builtin "type.__call__" #[.ref C::us,kw])):=
 #[r.hd,by have:=r.dp;rw[q4k];lia,by have:=r.un;rw[q4m];lia]
theorem Room.depth{k:Nat}(r:Room k A):A.depth<recursionLimit:=by have:=r.dp;lia
theorem Room.units{k:Nat}(r:Room k A):A.units+64<cLine:=by have:=r.un;lia
abbrev Sp:=List V->Hp->VK->XK->Prop
abbrev uO:=List Env->Hp->Shared->XK->NZ
structure Env0(P:Program)(w:World)(K:QC)(mg:Str->Option Value)(base:Heap)(A:Around)(outer:List Env)(s:Shared)(H:Hp):Prop where
 frames:A.frames=Qa outer
 mod:Mod K mg base
 bs:∀b o,base.get? b=Qa o->s.heap.get? b=Qa o/\H b=Qc
 yX:base.objs.size<=s.heap.objs.size
 funs:s.heap.FunFrames base outer
 xy:∀b∈jM outer,H b=Qc
 qO:zc P w H s.heap
 bare:AllBare s.gens
def CE(outer:List Env)(P:Program)(w:World)(H:Hp)(s:Shared)(Q:VK)(u:Value)(s':Shared):Prop:=
 ∃v H',s'.os=s.os/\AllBare s'.gens/\Un (jM outer) [] H H' s.heap s'.heap/\zc P w H' s'.heap/\RelV v u/\Q v H'
def CR(b:uO)(outer:List Env)(P:Program)(w:World)(H:Hp)(s:Shared)(Q:VK)(E:XK)(r:ZO)(s':Shared):Prop:=
 match r with
 |.ok (.ret u)=>CE outer P w H s Q u s'
 |.ok _=>False
 |.error e=>b outer H s E e s'
structure FnOk(P:Program)(w:World)(K:QC)(mg:Str->Option Value)(base:Heap)(CX:uO)(k:Nat)(f:Addr)(fd:FuncData)(ps:List Str)(sp:Sp):Prop where
 len:∀vs H Q E,sp vs H Q E->vs.length=ps.length
 run:∀(A:Around)(outer:List Env)(s:Shared)(H:Hp)(args:Args)(us:List Value)(vs:List V)(Q:VK)(E:XK),Room k A->Env0 P w K mg base A outer s H->BindsTo s fd args (ps.zip us)->Vals vs us->sp vs H Q E->
  codeAny (model P w) A (.call (.ref f) args) (CR CX outer P w H s Q E) s
def FnOk.imp{CX:uO}{k:Nat}{sp b:Sp}(F:FnOk P w K mg base CX k f fd ps sp)
  (h:∀vs H Q E,b vs H Q E->sp vs H Q E):FnOk P w K mg base CX k f fd ps b:=
 #[λvs H Q E q=>F.len vs H Q E (h _ _ _ _ q),λA outer s H args us vs Q E g d hb hv hs=>F.run A outer s H args us vs Q E g d hb hv (h _ _ _ _ hs)]
def Env0.make{H:Hp}(e:Env0 P w K mg base A outer s H)(C:Addr)(us:List Value)(kw:List (Str×Value)):
  Env0 P w K mg base (A.under (.builtin "type.__call__" #[.ref C::us,kw])) outer s H:=#[by first|exact e.frames|(simpa[Zl,Code.envs,ZE,pushEnvs]using e.frames),e.mod,e.bs,e.yX,e.funs,e.xy,e.qO,e.bare]
section
variable{X:Cx}{Y:St}{H:Hp}
def Inv.EL(I:Inv X pins Y H s):Env0 X.prog X.w X.K X.mg X.base X.A X.stack s H:=
 #[I.ok.frames,I.ok.mod,I.bs,Qw I.ok.yX I.sz,I.stack,I.bC,I.qO,I.bare]
def Inv.after{Q:VK}(I:Inv X pins Y H s)(h:CE X.stack X.prog X.w H s Q u s'):EP X pins Y Q u s':=by obtain⟨v,H',os,bare,un,qO,r,q⟩:=h;obtain⟨l,g,d,t,k⟩:=s';obtain rfl:k=s.os:=os;exact#[v,H',I.call un qO bare (λb z=>absurd z (by simp)),r,q]
end
def Binds(K:QC)(fd:FuncData)(ps:List Str)(ds:List Value):Prop:=
 ∀(s:Shared)(us:List Value),K.In s.heap->(us++ds).length=ps.length->BindsTo s fd #[us,[]] (ps.zip (us++ds))
def Binds.all(h:∀us:List Value,us.length=ps.length->bindArgs fd #[us,[]]=pure (ps.zip us)):Binds K fd ps []:=λs us _ hl=>by rw[Ja]at hl|-;exact .of_eq (h us hl)
section
variable{X:Cx}{CX:uO}{k:Nat}{sp:Sp}{dvs:List V}{ds:List Value}{E:XK}{p tR:WD}{o:Expr}{t:TA}
structure Mk(K:QC)(C f:Addr):Prop where
 makes:U7 K C=Qb
 init:Jw K (.ref C) "__init__"=Qa (Qa (.ref f))
 fn:VS K (.ref f)=Qb
 kp:Jf K (.ref C)=Qb
end
structure FnScope(N P:List Str)(sc:Scope):Prop where
 kind:sc.kind=.function
 co:sc.isCoroutine=Qf
 gen:sc.isGenerator=Qf
 nd:N.Nodup
 pre:N.take P.length=P
 par:∀x∈P,sc.names.lookup x=Qa .local\/sc.names.lookup x=Qa .cell
 q5K:∀y∈sc.names,y.2≠.free
theorem cV{kindOf:Str->Option NameKind}{x:Str}:∀{binds:List (Str×Value)}{m:Str->Option Value},(∀v,(x,v)∉binds)->bindL kindOf binds m x=m x
 |[],_,_=>rfl
 |(n,v)::r,m,h=>by
  unfold bindL;rw[cV λw hw=>h w (Qd _ hw)];split
  .have:x≠n:=(by rintro rfl;exact h v Qg);simp[this]
  .rfl
theorem cR{kindOf:Str->Option NameKind}{x:Str}:∀{binds:List (Str×Value)}{m:Str->Option Value},(∀v,(x,v)∉binds)->bindC kindOf binds m x=m x
 |[],_,_=>rfl
 |(n,v)::r,m,h=>by
  unfold bindC;rw[cR λw hw=>h w (Qd _ hw)];split
  .rfl
  .have:x≠n:=(by rintro rfl;exact h v Qg);simp[this]
theorem cU{kindOf:Str->Option NameKind}{x:Str}{v:Value}:∀{P:List Str}{vs:List Value}{i:Nat}{m:Str->Option Value},P.Nodup->P[i]?=Qa x->vs[i]?=Qa v->kindOf x=Qa .local->
  bindL kindOf (P.zip vs) m x=Qa v
 |[],_,_,_,_,h,_,_=>by simp at h
 |_::_,[],_,_,_,_,h,_=>by simp at h
 |p::P,w::vs,0,m,nd,h1,h2,hk=>by simp at h1 h2;subst h1;subst h2;show bindL kindOf ((p,w)::P.zip vs) m p=_;unfold bindL;rw[cV λv hv=>(QP.mp nd).1 (Y1 hv).1,if_pos hk];simp
 |p::P,w::vs,i+1,m,nd,h1,h2,hk=>by unfold bindL;exact cU (QP.mp nd).2 (by simpa using h1) (by simpa using h2) hk
theorem cQ{kindOf:Str->Option NameKind}{x:Str}{v:Value}:∀{P:List Str}{vs:List Value}{i:Nat}{m:Str->Option Value},P.Nodup->P[i]?=Qa x->vs[i]?=Qa v->kindOf x≠Qa .local->
  bindC kindOf (P.zip vs) m x=Qa v
 |[],_,_,_,_,h,_,_=>by simp at h
 |_::_,[],_,_,_,_,h,_=>by simp at h
 |p::P,w::vs,0,m,nd,h1,h2,hk=>by simp at h1 h2;subst h1;subst h2;show bindC kindOf ((p,w)::P.zip vs) m p=_;unfold bindC;rw[cR λv hv=>(QP.mp nd).1 (Y1 hv).1,if_neg hk];simp
 |p::P,w::vs,i+1,m,nd,h1,h2,hk=>by unfold bindC;exact cQ (QP.mp nd).2 (by simpa using h1) (by simpa using h2) hk
noncomputable def start(N:List Str)(vs:List V):St:=vs.map Qa++Qj (N.length-vs.length) Qc
noncomputable def kR(CX:uO)(P:Program)(w:World)(K:QC)(mg:Str->Option Value)(base:Heap)(N:List Str)(qual:Str)(scope:Scope)(f:Addr)(b:Value)(A:Around)(outer:List Env)(s:Shared)(H:Hp)(E:XK):Cx where
 prog:=P
 w:=w
 K:=K
 mg:=mg
 base:=base
 A:=A.deeper (U2 qual scope s.heap.objs.size f b)
 N:=N
 s₀:=s
 H₀:=H
 env:=U2 qual scope s.heap.objs.size f b
 outer:=outer
 stack:=U2 qual scope s.heap.objs.size f b::outer
 ex:=[]
 calm:=Qb
 fn:=λ_=>Qb
 pn:=[]
 xe:=λe s'=>wpAny (model P w) (A.deeper (U2 qual scope s.heap.objs.size f b)) (leaving (U2 qual scope s.heap.objs.size f b) e) (λ_ d=>CX outer H s E e d) (λg d=>CX outer H s E g d) s'
def dJ{sc:Scope}(h:sc.names.lookup x=Qa .cell):∃c,(Wc n sc.names []).lookup x=Qa c:=by exact YY.mp (Ys sc.names n [] (.inl h))
def G7{CX:uO}{qual:Str}{scope:Scope}{B:Value}{s1:Shared}{H:Hp}{E:XK}{vs:List V}
  (S:FnScope N ps scope) (hd:A.handled=Qc) (g:Env0 P w K mg base A outer s H) (hl:vs.length=ps.length) (r:Vals vs us)
  (x:InCallC s s.heap.objs.size (bindL (U2 qual scope s.heap.objs.size f B).kindOf (ps.zip us) λ_=>Qc) (Wc (s.heap.objs.size+1) scope.names []) (bindC (U2 qual scope s.heap.objs.size f B).kindOf (ps.zip us) λ_=>Qc) s1):
  Inv (kR CX P w K mg base N qual scope f B A outer s H E) [] (start N vs) H s1:=by
 have T:ps.length<=N.length:=by have:=congrArg Yu S.pre;rw[J3]at this;lia
 refine ja x.done λD U O G=>?_;subst O;have F:∀b:Addr,b∉(kR CX P w K mg base N qual scope f B A outer s H E).ex:=λb z=>absurd (show b∈([]:List Addr) from z) (by simp);refine#[#[g.mod,S.kind,rfl,rfl,Qt _,λy z c D d=>?_,λy l=>?_,λy c _ h=>?_,λ_=>hd,Around.frames_deeper g.frames,.inr #[rfl,rfl],λb z=>absurd z (F b),g.bs,g.yX,λb _ _=>F b,λb z=>absurd z (F b),g.funs,g.xy],
  rfl,g.bare,Un.kept G,#[_,x.toInCall.ns,λi y v D d R=>?_],λy c h=>#[_,x.cell y c h],g.qO.fresh (Qt _),λy c h=>?_,λp t=>absurd (show p∈([]:List (Addr×Obj)) from t) (by simp),g.qO.kept G,?_]
 .exact name_of_addr x.apart (Ju D) (Ju d)
 .have l:=l;rcases l with l|l
  .exact dJ l
  .exact absurd rfl (S.q5K _ (Ju l))
 .exact UG (x.above y c (Ju h))
 .have hi:i<vs.length:=by
   unfold start at d
   by_cases hi:i<vs.length
   .exact hi
   .rw[Jp (by simpa using hi)]at d;rw[Zv]at d;split at d<;>cases d
  have J:vs[i]?=Qa v:=by
   unfold start at d;rw[Q2 (by simpa using hi),QB]at d;cases e:vs[i]?with
   |none=>rw[e]at d;cases d
   |some a=>rw[e]at d;cases d;rfl
  refine qH (r.get J) λu hu L=>?_;have t:ps[i]?=Qa y:=by rw[<-S.pre,List.getElem?_take_of_lt ∅];exact D
  have I:ps.Nodup:=by rw[<-S.pre];exact S.nd.sublist (Wd _ _)
  refine#[u,L,?_];rcases S.par y (Qp t)with k|k
  .exact .inl #[k,cU I t hu k]
  .obtain⟨c,e⟩:=dJ k;refine .inr #[.inl k,c,e,?_];have q:=x.cell y c e;rw[cQ I t hu (by show scope.names.lookup y≠_;rw[k];decide)]at q;exact q
 .exact g.qO.fresh (UG (x.above y c (Ju h)))
 .unfold start;show _=N.length;rw[Jd,Qm,JH];lia
section
variable[DecidableEq κ]
noncomputable def wL(kvs:List (κ×V))(k:κ):Option V:=(kvs.find? λb=>decide (b.1=k)).map (·.2)
noncomputable def putK(kvs:List (κ×V))(k:κ)(v:V):List (κ×V):=
 if(kvs.any λb=>decide (b.1=k))=Qb then kvs.map (λb=>if b.1=k then(b.1,v)else b)else kvs++[(k,v)]
def Cf{p:κ×V}{r:List (κ×V)}{k:κ}(e:p.1=k):wL (p::r) k=Qa p.2:=by simp[wL,Y2,e]
def Pp{p:κ×V}{r:List (κ×V)}{k:κ}(e:¬p.1=k):wL (p::r) k=wL r k:=by simp[wL,Y2,e]
theorem sW(k:κ):∀kvs:List (κ×V),(kvs.any λb=>decide (b.1=k))=(wL kvs k).isSome
 |[]=>rfl
 |p::r=>by
  rw[JB]
  by_cases e:p.1=k
  .simp only[Cf e,decide_eq_true e,Bool.true_or,VO]
  .rw[Pp e,decide_eq_false e,Zm];exact sW k r
def mE(kvs:List (κ×V))(k:κ)(v:V):(putK kvs k v).length<=kvs.length+1:=by
 unfold putK;split
 .rw[Qm];lia
 .rw[Jd,QH,JF];lia
def ve.DP{o:Option V}{u:Option Value}(r:ve o u):o.isSome=u.isSome:=by
 cases o with
 |none=>cases u with
  |none=>rfl
  |some _=>exact r.elim
 |some _=>cases u with
  |none=>exact r.elim
  |some _=>rfl
def KV.val{kvs:List (κ×V)}{vs:List (κ×Value)}(r:KV kvs vs)(k:κ):ve (wL kvs k) (ZF vs k):=by
 unfold KV at r
 induction r with
 |nil=>exact Y5
 |@cons p q ps g h t y=>
  obtain⟨l,v⟩:=h
  by_cases e:p.1=k
  .have d:=l.symm.trans e;have b:ZF (q::g) k=Qa q.2:=(by simp[ZF,Y2,d]);rw[Cf e,b];exact v
  .have d:¬q.1=k:=λz=>e (l.trans z);have b:ZF (q::g) k=ZF g k:=(by simp[ZF,Y2,d]);rw[Pp e,b];exact y
theorem KV.any{kvs:List (κ×V)}{vs:List (κ×Value)}(r:KV kvs vs)(k:κ):(kvs.any λb=>decide (b.1=k))=vs.any λb=>decide (b.1=k):=by
 unfold KV at r
 induction r with
 |nil=>rfl
 |cons h t d=>rw[JB,JB,d,h.1]
def KV.ai{kvs:List (κ×V)}{vs:List (κ×Value)}(r:KV kvs vs)(k:κ){y:V}(v:RelV y u):
  KV (kvs.map λb=>if b.1=k then(b.1,y)else b) (vs.map λb=>if b.1=k then(b.1,u)else b):=by
 unfold KV at r|-
 induction r with
 |nil=>exact .nil
 |@cons p q ps B h t l=>
  rw[QK,QK];refine .cons ?_ l;obtain⟨d,g⟩:=h
  by_cases e:p.1=k
  .rw[if_pos e,if_pos (d.symm.trans e)];exact#[d,v]
  .rw[if_neg e,if_neg (λz=>e (d.trans z))];exact#[d,g]
def KV.put{kvs:List (κ×V)}{vs:List (κ×Value)}(r:KV kvs vs)(k:κ){y:V}(b:RelV y u):KV (putK kvs k y) (stored vs k u):=by
 unfold putK stored;rw[r.any k]
 by_cases e:(vs.any λd=>decide (d.1=k))=Qb
 .rw[if_pos e,if_pos e];exact r.ai k b
 .rw[if_neg e,if_neg e];exact Paired.snoc r #[rfl,b]
theorem KV.length{kvs:List (κ×V)}{vs:List (κ×Value)}(r:KV kvs vs):kvs.length=vs.length:=VG r
end
def PB{k:Key}(r:RelV (kV k) u):(vC P w).is k u=Qb:=by
 cases k with
 |inl i=>obtain⟨t,e⟩:=r;subst e;exact q54 P w i t
 |inr x=>obtain⟨t,e⟩:=r;subst e;exact q55 P w x t
theorem iy{P:Program}{w:World}:∀{b:List Key}{us:List Value},Vals (b.map kV) us->ItemsAre (vC P w) b us
 |[],_,r=>by rw[We]at r;cases r;exact .nil
 |k::b,_,r=>by
  rw[QK]at r;cases r with
  |cons h t=>exact .cons (PB h) (iy t)
abbrev KT(H:Hp):List (List Key×V)->List (List Key×Addr×Value)->Prop:=VF λp q=>p.1=q.1/\H q.2.1=Qa (.qE (p.1.map kV))/\RelV p.2 q.2.2
def KT.val{H:Hp}{kvs:List (List Key×V)}{xs:List (List Key×Addr×Value)}(r:KT H kvs xs)(k:List Key):ve (wL kvs k) ((Um xs k).map (·.2)):=by
 induction r with
 |nil=>exact Y5
 |@cons p q ps g h t y=>
  refine vN h λl _ v=>?_
  by_cases e:p.1=k
  .have d:=l.symm.trans e;have b:Um (q::g) k=Qa q.2:=(by simp[Um,Y2,d]);rw[Cf e,b];exact v
  .have d:¬q.1=k:=λz=>e (l.trans z);have b:Um (q::g) k=Um g k:=(by simp[Um,Y2,d]);rw[Pp e,b];exact y
def KT.ai{H:Hp}{kvs:List (List Key×V)}{xs:List (List Key×Addr×Value)}(r:KT H kvs xs)(k:List Key){y:V}(B:RelV y u):
  KT H (kvs.map λd=>if d.1=k then(d.1,y)else d) (xs.map (putAt k u)):=by
 induction r with
 |nil=>exact .nil
 |@cons p q ps D h t v=>
  rw[QK,QK];refine .cons ?_ v;refine vN h λb g l=>?_;unfold putAt
  by_cases e:p.1=k
  .rw[if_pos e,if_pos (b.symm.trans e)];exact#[b,g,B]
  .rw[if_neg e,if_neg (λz=>e (b.trans z))];exact#[b,g,l]
def KT.put{H:Hp}{kvs:List (List Key×V)}{xs:List (List Key×Addr×Value)}(r:KT H kvs xs)(k:List Key){b:Addr}{y:V}(hb:H b=Qa (.qE (k.map kV)))(d:RelV y u):
  KT H (putK kvs k y) (storedH xs k b u):=by
 have e:(kvs.any λg=>decide (g.1=k))=(Um xs k).isSome:=by rw[sW,(r.val k).DP,V0]
 unfold putK storedH;rw[e]
 by_cases q:(Um xs k).isSome=Qb
 .rw[if_pos q,if_pos q];exact r.ai k d
 .rw[if_neg q,if_neg q];exact Paired.snoc r #[rfl,hb,d]
def KT.keeps{H H':Hp}{kvs:List (List Key×V)}{xs:List (List Key×Addr×Value)}(r:KT H kvs xs)(d:∀b ys,H b=Qa (.qE ys)->H' b=Qa (.qE ys)):KT H' kvs xs:=
 Paired.SR r λ_ _ z=>#[z.1,d _ _ z.2.1,z.2.2]
section
variable{H:Hp}
def pK{u:HO}(ok:zc P w H h)(e:Rd H a u):jn P w H h a u:=e.ok ok
def Xy{kvs:List (Key×V)}(ok:zc P w H h)(e:Rd H a (.dK kvs)):kvs.length<=QD/\(a==JZ)=Qf/\∃vs,KV kvs vs/\h.DictOf (vC P w) a vs:=
 show jn P w H h a (.dK kvs) from pK ok e
def Iz{kvs:List (Key×V)}(ok:zc P w H h)(e:H a=Qa (.dK kvs)):kvs.length<=QD/\(a==JZ)=Qf/\∃vs,KV kvs vs/\h.DictOf (vC P w) a vs:=Xy ok (.inl e)
def DS{b:List Key}(ok:zc P w H h)(e:H a=Qa (.qE (b.map kV))):(Zb (vC P w)).is h b a:=by
 obtain⟨_,its,r,o,d,g,n,k⟩:=(ok a _ e)
 exact#[o,its.toArray,n,d,g,k,by simpa using iy r]
def Ff{kvs:List (List Key×V)}(ok:zc P w H h)(e:Rd H a (.dT kvs)):kvs.length<=QD/\(a==JZ)=Qf/\
  ∃xs,KT H kvs xs/\h.DictOfH (Zb (vC P w)) a xs:=by
 obtain⟨z,y,xs,r,o,es,ep,g,k,v,B,D⟩:=(pK ok e)
 refine#[z,y,xs,r,o,es,ep,g,k,v,B,λx b=>?_,D];have all:∀{l:List (List Key×V)}{m:List (List Key×Addr×Value)},KT H l m->∀x∈m,(Zb (vC P w)).is h x.1 x.2.1:=by
  intro l m q
  induction q with
  |nil=>intro x b;exact nomatch b
  |@cons p q ps G d t F=>
   intro x b;rcases Ql.mp b with e|b
   .subst e;exact DS ok (by rw[<-d.1];exact d.2.1)
   .exact F x b
 exact all r x b
def q1J{kvs:List (List Key×V)}(ok:zc P w H h)(e:H a=Qa (.dT kvs)):kvs.length<=QD/\(a==JZ)=Qf/\
  ∃xs,KT H kvs xs/\h.DictOfH (Zb (vC P w)) a xs:=Ff ok (.inl e)
end
def Cg(H:Hp)(a:Addr)(y:V)(r:Option V):Prop:=
 (∃kvs k,Rd H a (.dK kvs)/\y=kV k/\r=wL kvs k)\/∃kvs k b,Rd H a (.dT kvs)/\y=.ref b/\H b=Qa (.qE (k.map kV))/\r=wL kvs k
def Ci(H:Hp)(a:Addr)(y v:V)(H':Hp):Prop:=
 (∃kvs k,H a=Qa (.dK kvs)/\y=kV k/\kvs.length<QD/\H'=upd H a (.dK (putK kvs k v)))\/
 ∃kvs k b,H a=Qa (.dT kvs)/\y=.ref b/\H b=Qa (.qE (k.map kV))/\kvs.length<QD/\H'=upd H a (.dT (putK kvs k v))
theorem Ci.k{H:Hp}{a:Addr}{kvs:List (Key×V)}{k:Key}{v:V}(e:H a=Qa (.dK kvs))(hl:kvs.length<QD):Ci H a (kV k) v (upd H a (.dK (putK kvs k v))):=.inl #[kvs,k,e,rfl,hl,rfl]
section
variable{X:Cx}{Y:St}{H:Hp}{y v:V}{r:Value}{o:Option V}
def Inv.big(I:Inv X pins Y H s):JZ<s.heap.objs.size:=by exact Wo (by decide) ((I.mod.glob.keeps I.bk).lt)
def q19(hu:A.units+1<cLine)(I:Inv X pins Y H s)(g:Cg H a y (Qa v))(D:RelV y u)(h:∀q s',Inv X pins Y H s'->RelV v q->Q q s'):
  wpAny (model X.prog X.w) A (Wf (.ref a) u) Q E s:=by
 rcases g with⟨kvs,k,e,t,l⟩|⟨kvs,k,b,e,t,G,l⟩
 .subst t;refine wW (Xy I.qO e) λz hd vs d dd=>?_;obtain⟨q,hw,B⟩:=ve.some_of (by rw[l];exact d.val k);exact wpAny_getItem_of (PB D) dd.mapOf hw (h q _ (I.tok _) B)
 .subst t;cases D;refine wW (Ff I.qO e) λz hd xs d dd=>?_;obtain⟨q,hw,B⟩:=ve.some_of (by rw[l];exact d.val k);obtain⟨p,J,F⟩:=JS.mp hw;refine wpAny_getItem_heap (U3 hu) (DS I.qO G) dd J ?_;rw[F];exact h q _ (I.tok _) B
def q1A(hu:A.units+1<cLine)(I:Inv X pins Y H s)(g:Cg H a y o)(t:RelV y u)(h:∀s',Inv X pins Y H s'->Q (.bool o.isSome) s'):
  wpAny (model X.prog X.w) A (Jy .In u (.ref a)) Q E s:=by
 rcases g with⟨kvs,k,e,p,l⟩|⟨kvs,k,b,e,p,B,l⟩
 .subst p;refine wW (Xy I.qO e) λz hd vs d dd=>?_;refine wpAny_in_of (PB t) hd dd.mapOf ?_;rw[<-(d.val k).DP,<-l];exact h _ (I.tok _)
 .subst p;cases t;refine wW (Ff I.qO e) λz hd xs d dd=>?_;refine wpAny_in_heap (U3 hu) (DS I.qO B) hd dd ?_;have q:=(d.val k).DP;rw[V0]at q;rw[<-q,<-l];exact h _ (I.tok _)
def q1C(hu:A.units+1<cLine)(I:Inv X pins Y H s)(g:Cg H a y o)(t:RelV y u)(h:∀s',Inv X pins Y H s'->Q (.bool (!o.isSome)) s'):
  wpAny (model X.prog X.w) A (Jy .NotIn u (.ref a)) Q E s:=by
 rcases g with⟨kvs,k,e,p,l⟩|⟨kvs,k,b,e,p,B,l⟩
 .subst p;refine wW (Xy I.qO e) λz hd vs d dd=>?_;refine wpAny_notIn_of (PB t) hd dd.mapOf ?_;rw[<-(d.val k).DP,<-l];exact h _ (I.tok _)
 .subst p;cases t;refine wW (Ff I.qO e) λz hd xs d dd=>?_;refine wpAny_notIn_heap (U3 hu) (DS I.qO B) hd dd ?_;have q:=(d.val k).DP;rw[V0]at q;rw[<-q,<-l];exact h _ (I.tok _)
def E9{t':Nat}{ob:HO}(I:Inv X pins Y H s)(k:Px (H a))(hs:JI a s.heap h')(g:∃q,h'.get? a=Qa q)(d:jn X.prog X.w (upd H a ob) h' a ob):
  Inv X pins Y (upd H a ob) {s with heap:=h',toks:=t'}:=
 I.write k (.inl rfl) (λb q hb z=>(hs.2 b hb).trans z) g d
def fB{H':Hp}{kvs:List (Key×V)}{vs:List (Key×Value)}(z:kvs.length<=QD)(hd:(a==JZ)=Qf)(b:KV kvs vs)(dd:h'.DictOf (vC P w) a vs):
  jn P w H' h' a (.dK kvs):=#[z,hd,vs,b,dd]
def q1D{H':Hp}{Q:Unit->Shared->Prop}(hu:A.units+1<cLine)(I:Inv X pins Y H s)(g:Ci H a y v H')(O:RelV y u)(L:RelV v r)(h:∀s',Inv X pins Y H' s'->Q () s'):
  wpAny (model X.prog X.w) A (setItem (.ref a) u r) Q E s:=by
 rcases g with⟨kvs,k,e,D,l,B⟩|⟨kvs,k,b,e,D,F,l,B⟩
 .subst D B;refine wW (Iz I.qO e) λz hd vs d dd=>?_;have J:vs.length<=QD:=by rw[<-d.length];exact z
  have hl:(putK kvs k v).length<=QD:=by have:=mE kvs k v;lia
  refine wpAny_setItem_pairs (hsz:=J) (PB O) dd λh' t hs=>h _ ?_;have W:∃q,h'.get? a=Qa q:=let⟨q,_,_,p,_⟩:=t;#[q,p];exact E9 I (by rw[e];exact Y5) hs W (fB hl hd (d.put k L) t)
 .subst D B;cases O;refine wW (q1J I.qO e) λz hd xs d dd=>?_;have J:xs.length<=QD:=by rw[<-VG d];exact z
  have hl:(putK kvs k v).length<=QD:=by have:=mE kvs k v;lia
  refine wpAny_setItem_heap (U3 hu) (DS I.qO F) dd λh' t hs=>h _ ?_;obtain⟨q,es,ep,p,R,S,T,_,U⟩:=t;refine E9 I (by rw[e];exact Y5) hs #[q,p] #[hl,hd,_,(d.put k F L).keeps λc ys G=>?_,q,es,ep,p,R,S,T,U];rw[qW (q5E G e (λz=>nomatch z))];exact G
end
section
variable{X:Cx}{Y:St}{H:Hp}{kvs:List (Key×V)}{k:Key}
def q1B(I:Inv X pins Y H s)(e:Rd H a (.dK kvs))(h:∀t s',Inv X pins Y H s'->Q (.int kvs.length t) s'):wpAny (model X.prog X.w) A (call (.builtin "len") [.ref a]) Q E s:=by refine wW (Xy I.qO e) λz hd vs b dd=>?_;refine call_len_dict hd dd (by rw[<-b.length];rw[Q6]at z;lia) ?_;rw[<-b.length];exact h _ _ (I.tok _)
end
def q1G{H:Hp}(h:Heap)(hb:JZ<h.objs.size):jn P w H (h.push {cls:=.type "dict",data:=.dict #[]}) h.objs.size (.dK []):=
 #[QU _,beq_eq_false_iff_ne.mpr (JK (QQ hb)),[],.nil,Heap.DictOf.new h]
abbrev VV:List (V×V)->List (Value×Value)->Prop:=VF λp q=>RelV p.1 q.1/\RelV p.2 q.2
def nZ(kvs more:List (Key×V)):List (Key×V):=more.foldl (λacc b=>putK acc b.1 b.2) kvs
def KV.merge:∀{more:List (Key×V)}{b:List (Key×Value)}{kvs:List (Key×V)}{vs:List (Key×Value)},KV more b->KV kvs vs->KV (nZ kvs more) (merged vs b):=by
 intro more b kvs vs r;unfold KV at r
 induction r generalizing kvs vs with
 |nil=>intro q;exact q
 |@cons p q ps k h t d=>
  intro g;have e:KV (putK kvs p.1 p.2) (stored vs q.1 q.2):=by have:=g.put p.1 h.2;rw[<-h.1];exact this
  exact d e
theorem dH{P:Program}{w:World}:∀{kvs:List (Key×V)}{ws:List (Value×Value)},VV (kvs.map λg=>(kV g.1,g.2)) ws->∃d,Carries (vC P w) ws d/\KV kvs d
 |[],_,r=>by rw[We]at r;cases r;exact#[[],Y5,.nil]
 |p::kvs,_,r=>by
  rw[QK]at r;cases r with
  |@cons a b as bs h t=>
   obtain⟨d,c,q⟩:=dH t;obtain⟨l,k⟩:=b;exact#[(p.1,k)::d,#[PB h.1,rfl,c],.cons #[rfl,h.2] q]
def tB(H:Hp)(a:Addr):Prop:=(∃kvs,Rd H a (.dK kvs))\/∃kvs,Rd H a (.dT kvs)
def q3n{X:Cx}{Y:St}{H:Hp}(I:Inv X pins Y H s)(d:tB H a):
  s.TypeIs (.ref a) "dict"/\(∀b,YQ a=.ref b->∃ob,s.heap.get? b=Qa ob/\ob.dict=Qc)/\(a==JZ)=Qf:=by
 rcases d with⟨kvs,e⟩|⟨kvs,e⟩
 .refine wW (Xy I.qO e) λ_ hd vs _ dd=>?_;refine#[dd.typeIs,λb q=>?_,hd];cases q;refine xu dd λob _ _ g k _=>?_;exact#[ob,g,k.2.1]
 .refine wW (Ff I.qO e) λ_ hd xs _ dd=>?_;refine#[dd.typeIs,λb q=>?_,hd];cases q;refine xu dd λob _ _ g k _=>?_;exact#[ob,g,k.2.1]
end L2
namespace HT
open PySem PyProof.Rows
variable{t sl:Addr}{Q:NZ}{vl vu:Value}{lo hi:Option Int}
section
variable{prog:Program}{w:World}{A:Around}{E:NZ}{s:Shared}
def q0v{b:Addr}{vs ws:List Value}(l:IsTup s.heap t vs.toArray)(hb:IsTup s.heap b ws.toArray)(hv:vs≠[])
  (j:ws=[]->Q (.ref t) s) (k:ws≠[]->Q (.ref s.heap.objs.size) {s with heap:=s.heap.push {cls:=.type "tuple",data:=.seq (vs++ws).toArray}})
  (hsz:vs.length+ws.length<=QD):wpAny (model prog w) A (JR .Add (.ref t) (.ref b)) Q E s:=by
 obtain⟨⟨cls,dd,data,sl⟩,c,hc,n,hd⟩:=id l;obtain⟨⟨m,i,data2,h⟩,d,g,f,a⟩:=id hb;simp only at hc hd g a;subst hc hd g a;have e:vs.toArray++ws.toArray=(vs++ws).toArray:=by simp
 by_cases hw:ws=[]
 .exact WR #[_,c,rfl] #[_,d,rfl] Ze seq_tuple_add U4 UW (UL _ _)
   (tuple_addW1 t b vs.toArray ws.toArray n f dd i sl h (by simpa using hv) (by simp[hw])) #[c,d,j hw]
 .refine WR #[_,c,rfl] #[_,d,rfl] Ze seq_tuple_add U4 UW (UL _ _)
   (tuple_addW2 t b vs.toArray ws.toArray n f dd i sl h (by simpa using hv) (by simpa using hw) (by rw[QI,QI];exact hsz)) #[c,d,?_]
  rw[e];exact k hw
noncomputable def zA(n d:Nat):Option Int->Nat
 |none=>d
 |some v=>if v<0 then(v+(n:Int)).toNat else min v.toNat n
def q85(n d:Nat)(hd:d<=n)(o:Option Int):zA n d o<=n:=by
 cases o with
 |none=>exact hd
 |some v=>
  show(if v<0 then(v+(n:Int)).toNat else min v.toNat n)<=n
  by_cases hv:v<0
  .rw[if_pos hv];lia
  .rw[if_neg hv];exact Nat.min_le_right _ _
def dN(v:Int)(n d:Nat):(if v<0 then max (v+(n:Int)) 0 else min v (n:Int))=((zA n d (Qa v):Nat):Int):=by
 show(if v<0 then max (v+(n:Int)) 0 else min v (n:Int))=(((if v<0 then(v+(n:Int)).toNat else min v.toNat n):Nat):Int)
 by_cases hv:v<0
 .simp only[if_pos hv];lia
 .simp only[if_neg hv];lia
def tL(lo hi:Option Int)(n:Nat):Uo lo hi 1 (n:Int)=(((zA n 0 lo:Nat):Int),((zA n n hi:Nat):Int)):=by
 have a:¬((1:Int)<0):=∅
 unfold Uo;simp only[a,if_false];refine Prod.ext ?_ ?_
 .cases lo with
  |none=>rfl
  |some v=>exact dN v n 0
 .cases hi with
  |none=>rfl
  |some v=>exact dN v n n
def q6v(i j:Nat):YD (i:Int) (j:Int) 1=j-i:=by
 unfold YD;have a:(1:Int)>0:=∅
 simp only[a,if_true,Int.ediv_one];split<;>lia
def rP{v:Value}{o:Option Int}{Q:Option Int->Shared->Prop}(p:V5 v o)(h:Q o s):wpAny (model prog w) A (Builtin.Slice.slicePartIndex v) Q E s:=by
 cases p with
 |none=>exact slicePart_none h
 |int i t=>exact slicePart_int h
def rO{n:Nat}{Q:Int×Int×Nat->Shared->Prop}(hs:s.heap.IsSliceOf sl vl vu .none)(pl:V5 vl lo)(c:V5 vu hi)
  (h:Q (((zA n 0 lo:Nat):Int),1,zA n n hi-zA n 0 lo) s):wpAny (model prog w) A (VT (.ref sl) (pure (n:Int))) Q E s:=by
 refine qd (id hs) λos b d a=>?_;unfold VT Builtin.Slice.sliceFields;refine Qe (Qe (Vg b a rfl (Qe (Vg b a rfl (Qe (Vg b a rfl (Qi ?_)))))));refine Qe (slicePart_none ?_);rw[if_neg (by decide)];refine Qe (rP pl (Qe (rP c (Qe (Qi ?_)))));show wpAny _ _ (match Uo lo hi 1 (n:Int)with|(lo,hi)=>pure (lo,(1:Int),YD lo hi 1)) _ _ s;rw[tL lo hi n];show wpAny _ _ (pure (((zA n 0 lo:Nat):Int),(1:Int),YD ((zA n 0 lo:Nat):Int) ((zA n n hi:Nat):Int) 1)) _ _ s;rw[q6v];exact Qi h
def q6o(xs:Array Value)(i k:Nat):((Qu k).filterMap λ(m:Nat)=>xs[((i:Int)+(m:Int)*1).toNat]?).toArray=((xs.toList.drop i).take k).toArray:=by
 have e:(λ(m:Nat)=>xs[((i:Int)+(m:Int)*1).toNat]?)=λm=>xs[i+m]?:=by
  funext m;have:((i:Int)+(m:Int)*1).toNat=i+m:=∅
  rw[this]
 rw[e];have:=pick_run xs i k;rw[List.filterMap_map]at this;have a:((λx=>xs[x]?)∘λx=>i+x)=λm=>xs[i+m]?:=rfl;rw[a]at this;rw[this]
def q2n{a:Array Value}(c:IsTup s.heap t a)(hs:s.heap.IsSliceOf sl vl vu .none)(pl:V5 vl lo)(g:V5 vu hi)
  (hw:¬(zA a.size 0 lo=0/\zA a.size a.size hi=a.size))
  (h:Q (.ref s.heap.objs.size) {s with heap:=s.heap.push {cls:=.type "tuple",data:=.seq ((a.toList.drop (zA a.size 0 lo)).take (zA a.size a.size hi-zA a.size 0 lo)).toArray}})
  (hsz:a.size<=QD):wpAny (model prog w) A (Wf (.ref t) (.ref sl)) Q E s:=by
 have b:sizeOk (.seq ((a.toList.drop (zA a.size 0 lo)).take (zA a.size a.size hi-zA a.size 0 lo)).toArray):=by show((a.toList.drop (zA a.size 0 lo)).take (zA a.size a.size hi-zA a.size 0 lo)).toArray.size<=QD;rw[QI,J3,Ww,YW];lia
 have k:zA a.size a.size hi<=a.size:=q85 _ _ (Qt _) hi;refine qd (id hs) λos f d j=>?_;have e:s.TypeIs (.ref sl) "slice":=#[os,f,d]
 unfold Wf
 try with_reducible refine Jm ?_
 first|refine Qe (Qi ?_)|skip
 refine Qe (wpAny_sequenceKey c.typeIs (by decide) ?_);refine Qe (Ue (name:=QA "__getitem__") c.typeIs Ji
  (J8 Ji c.typeIs entry_tuple_getitem ?_ (args_tuple_getitem _ _)))
 show wpAny _ _ (Ui (.ref t)>>=_) _ _ s;refine Qe (tupleItemsOf_ c ?_);refine Qe (VJ e ?_);rw[if_pos (by decide)];refine Qe (rO hs pl g ?_);have i:¬((((zA a.size 0 lo:Nat):Int)==0&&(1:Int)==1&&(zA a.size a.size hi-zA a.size 0 lo)==a.size)=Qb):=by intro q;rw[Qo,Qo]at q;have l:((zA a.size 0 lo:Nat):Int)=0:=eq_of_beq q.1.1;have n:zA a.size a.size hi-zA a.size 0 lo=a.size:=eq_of_beq q.2;exact hw #[∅,∅]
 show wpAny _ _ (if(((zA a.size 0 lo:Nat):Int)==0&&(1:Int)==1&&(zA a.size a.size hi-zA a.size 0 lo)==a.size)=Qb then _ else _) _ _ s;rw[if_neg i,q6o]
 first
  |exact Qe (m:=YH _) (JG (Qi #[_,rfl,Qi h]) b)
  |exact Qe (m:=YH _) (JG (Qe (Qi (Qi #[_,rfl,Qi h]))) b)
  |exact Qe (Qe (m:=YH _) (JG (Qi (Qi #[_,rfl,Qi h])) b))
  |exact Qe (Qe (m:=YH _) (JG (Qi #[_,rfl,Qi h]) b))
end
end HT
namespace L2
open PySem PySem.Spec PyProof.Rows
variable{X:Cx}{e:Expr}{pos:WD}{xs:List V}{us:List Value}{n t':Nat}{i:Int}{α:Type}{pins:List (Addr×Obj)}{Y:St}{H:Hp}{s:Shared}{x:V}
section
variable{te:TE}{lo hi:Option Expr}{tl th:TO}{p2:WD}
def br(X:Cx)(r:V->Option Int->Option Int->Hp->VK->Prop):Prop:=
 ∀(pins:List (Addr×Obj))(s:Shared)(Y:St)(H:Hp)(x:V)(v a b:Value)(lo hi:Option Int)(sl:Addr)(Q:VK),Inv X pins Y H s->RelV x v->s.heap.IsSliceOf sl a b .none->V5 a lo->V5 b hi->r x lo hi H Q->
  ∃T c,typeLookup (.type T) "__getitem__"=pure (Qa (.builtin c))/\s.TypeIs v T/\wpAny (model X.prog X.w) X.A (Wf v (.ref sl)) (EP X pins Y Q) X.xe s
def RM(xs:List V)(lo hi:Option Int):List V:=(xs.drop (HT.zA xs.length 0 lo)).take (HT.zA xs.length xs.length hi-HT.zA xs.length 0 lo)
def Ip(xs:List V)(lo hi:Option Int):(RM xs lo hi).length<=xs.length:=by unfold RM;rw[J3,Ww];lia
def q7F(K:QC):V->Option Int->Option Int->Hp->VK->Prop:=λx lo hi H Q=>∃a xs,x=.ref a/\zw K H a xs/\
 ¬(HT.zA xs.length 0 lo=0/\HT.zA xs.length xs.length hi=xs.length)/\∀p,H p=Qc->Q (.ref p) (upd H p (.qE (RM xs lo hi)))
def q90:br X (q7F X.K):=by
 intro pins s Y H x v m o lo hi sl Q I k hs pl j h;refine zN h λa xs l g hw q=>?_;subst l;cases k;refine qd (I.tuple g) λits r d f=>?_;have c:its.toArray.size=xs.length:=by rw[QI];exact r.length.symm
 refine#["tuple",_,Ji.lookup,d.typeIs,?_];refine HT.q2n d hs pl j (by rw[c];exact hw) ?_ (by rw[c];exact f);rw[c];refine#[.ref s.heap.objs.size,_,I.laid (λb ob q=>Qk _ q) (Qt _) ?_,rfl,q _ (I.qO.fresh (Qt _))];exact#[Qw (Ip xs lo hi) f,_,(r.drop (HT.zA xs.length 0 lo)).take (HT.zA xs.length xs.length hi-HT.zA xs.length 0 lo),IsTup.new _ _]
def q77(K:QC):R2:=λx y H Q=>∃a b xs ys,x=.ref a/\y=.ref b/\zw K H a xs/\zw K H b ys/\xs≠[]/\xs.length+ys.length<=QD/\
 (ys=[]->Q (.ref a) H)/\(ys≠[]->∀p,H p=Qc->Q (.ref p) (upd H p (.qE (xs++ys))))
def Vals.Gr(r:Vals xs us):us=[]↔xs=[]:=by
 cases r with
 |nil=>simp
 |cons _ _=>simp
def q6K:zR X (JR .Add) (q77 X.K):=by intro pins s Y H x y v u Q I r t h;refine Fh h λa b xs ys o p g hb j f l m=>?_;subst o p;cases r;cases t;refine qd (I.tuple g) λits d k _=>?_;refine qd (I.tuple hb) λA c p2 _=>?_;refine HT.q0v k p2 (λz=>j (d.Gr.mp z)) (λz=>#[.ref a,H,I,rfl,l (c.Gr.mp z)]) (λz=>?_) (by rw[<-d.length,<-c.length];exact f);refine#[.ref s.heap.objs.size,_,I.laid (λb ob q=>Qk _ q) (Qt _) ?_,rfl,m (λw=>z (c.Gr.mpr w)) _ (I.qO.fresh (Qt _))];exact#[by rw[Jd];exact f,_,d.append c,IsTup.new _ _]
end
noncomputable def PA(n:Nat)(i:Int):Option Nat:=if 0<=i then(if i<n then Qa i.toNat else Qc)else if-(n:Int)<=i then Qa (i+n).toNat else Qc
def X1{α:Type}(xs:List α)(i:Int):Option α:=(PA xs.length i).bind λj=>xs[j]?
def q40{j:Nat}(h:PA n i=Qa j):seqIndex? i n=Qa j/\j<n/\-(n:Int)<=i/\i<n:=by
 unfold PA at h
 by_cases b:0<=i
 .rw[if_pos b]at h
  by_cases a:i<n
  .rw[if_pos a]at h;have e:=QV h;exact#[by rw[seqIndex_of b a,e],∅,∅,a]
  .rw[if_neg a]at h;cases h
 .rw[if_neg b]at h
  by_cases a:-(n:Int)<=i
  .rw[if_pos a]at h;exact#[by rw[seqIndex_neg ∅ a,(QV h)],∅,a,∅]
  .rw[if_neg a]at h;cases h
def cG{xs:List α}{v:α}(h:X1 xs i=Qa v):∃j,seqIndex? i xs.length=Qa j/\xs[j]?=Qa v/\j<xs.length/\-(xs.length:Int)<=i/\i<xs.length:=by
 unfold X1 at h;cases e:PA xs.length i with
 |none=>rw[e]at h;cases h
 |some j=>
  rw[e]at h;refine vf (q40 e) λa b c d=>?_;exact#[j,a,h,b,c,d]
def ID(b:Expr):Prop:=∀o i,subscripted b Qf o i=operate [o,i] (Wf o i)
def Co(X:Cx)(r:R2):Prop:=
 ∀(value slice:Expr)(pins:List (Addr×Obj))(s:Shared)(Y:St)(H:Hp)(x y:V)(v u:Value)(Q:VK),Inv X pins Y H s->RelV x v->RelV y u->r x y H Q->
  subscripted slice Qf v u=operate [v,u] (Wf v u)->wpAny (model X.prog X.w) X.A (subscriptTail value slice v u) (EP X pins Y Q) X.xe s
section
variable{a b:Expr}{ta tb:TE}
def q7A(K:QC):R2:=λx y H Q=>∃p xs i v,x=.ref p/\y=.int i/\zM K H p xs/\X1 xs i=Qa v/\Q v H
def q7B(K:QC):R2:=λx y H Q=>∃p xs i v,x=.ref p/\y=.int i/\zw K H p xs/\X1 xs i=Qa v/\Q v H
def l6:Co X (q7A X.K):=by
 intro value slice pins s Y H x y v u Q I B C h hs;obtain⟨p,xs,i,z,rfl,rfl,A,o,q⟩:=h;cases B;obtain⟨t,rfl⟩:=C;refine qd (I.list A) λits r pl G=>?_;refine xr (cG o) λj c k E l m=>?_;refine qH (r.get k) λw f D=>?_;have hl:=r.length;have F:=Dc;have fin:EP X pins Y Q w s:=#[z,H,I,D,q]
 by_cases g:0<=i
 .have d:i.toNat=j:=by rw[seqIndex_of g m]at c;exact QV c
  exact item_listR pl.isList g ∅ (by rw[d];simpa using f) fin hs
 .have d:(i+(its.toArray.size:Int)).toNat=j:=by rw[seqIndex_neg ∅ l]at c;rw[QI,<-hl];exact QV c
  exact subscriptTail_builtinR pl.isList.typeIs slot_list_getitem.lookup
   (wpAny_getItem_list_neg pl.isList ∅ (by rw[QI]<;>lia) ∅ (by rw[d];simpa using f) #[rfl,fin]) hs
def q43:Co X (q7B X.K):=by
 intro value slice pins s Y H x y v u Q I l m h hs;obtain⟨p,xs,i,z,rfl,rfl,k,g,q⟩:=h;cases l;obtain⟨t,rfl⟩:=m;refine qd (I.tuple k) λits r pl E=>?_;refine xr (cG g) λj d f A B C=>?_;refine qH (r.get f) λw c o=>?_;have D:=Dc;have fin:EP X pins Y Q w s:=#[z,H,I,o,q]
 exact subscriptTail_builtinR pl.typeIs slot_tuple_getitem.lookup
  (getItem_tuple pl ∅ ∅ (by rw[QI,<-r.length];exact d) (by simpa using c) #[rfl,fin]) hs
def q92(lo hi:Option Int)(n:Nat):(UH lo hi Qc n).1=((HT.zA n 0 lo:Nat):Int)/\(UH lo hi Qc n).2.1=((HT.zA n n hi:Nat):Int)/\(UH lo hi Qc n).2.2=1:=by
 refine#[?_,?_,rfl]
 .cases lo with
  |none=>simp[UH,HT.zA]
  |some i=>
   simp only[UH,HT.zA,Option.getD_none,show(1:Int)>0 by decide,if_true]
   by_cases h:i<0
   .simp only[h,if_true]<;>lia
   .simp only[h,if_false]<;>lia
 .cases hi with
  |none=>simp[UH,HT.zA]
  |some i=>
   simp only[UH,HT.zA,Option.getD_none,show(1:Int)>0 by decide,if_true]
   by_cases h:i<0
   .simp only[h,if_true]<;>lia
   .simp only[h,if_false]<;>lia
def q91(its:List Value)(lo hi:Option Int):slicePick its.toArray lo hi Qc=((its.drop (HT.zA its.length 0 lo)).take (HT.zA its.length its.length hi-HT.zA its.length 0 lo)).toArray:=by refine vN (q92 lo hi its.toArray.size) λc d f=>?_;unfold slicePick;rw[c,d,f];simp only[sliceRange_one,pick_run,QI]<;>rfl
def q7E(K:QC):V->Option Int->Option Int->Hp->VK->Prop:=λx lo hi H Q=>∃a xs,x=.ref a/\zM K H a xs/\∀p,H p=Qc->Q (.ref p) (upd H p (.qA (RM xs lo hi)))
def q8z:br X (q7E X.K):=by intro pins s Y H x v m o lo hi sl Q I k hs pl g h;refine qN h λa xs l d q=>?_;subst l;cases k;refine qd (I.list d) λits r c f=>?_;have j:=r.length;refine#["list",_,slot_list_getitem.lookup,c.isList.typeIs,?_];refine wpAny_getItem_list_slice c.isList hs pl g .none (by simp) ?_ (by rw[QI]<;>lia);rw[q91,<-j];refine#[.ref s.heap.objs.size,_,I.laid (λb ob q=>Qk _ q) (Qt _) ?_,rfl,q _ (I.qO.fresh (Qt _))];exact#[Qw (Ip xs lo hi) f,_,0,(r.drop (HT.zA xs.length 0 lo)).take (HT.zA xs.length xs.length hi-HT.zA xs.length 0 lo),QG _ rfl]
def dF:uP X (.builtin "len") (λxs H Q=>∃p ys,xs=[.ref p]/\(zM X.K H p ys\/zw X.K H p ys)/\Q (.int ys.length) H):=by
 intro pins s Y H xs us Q I r h;refine qN h λp ys g c q=>?_;subst g;refine qH (vals1 r) λu g k=>?_;subst g;cases k;have l:=Dc;rcases c with c|c
 .refine qd (I.list c) λits f pl j=>?_;have d:=f.length;exact Calls.call_len_list pl.isList (by simp only[QI]<;>lia) #[.int ys.length,H,I.tok _,#[s.toks+1,by rw[QI,d]],q]
 .refine qd (I.tuple c) λits f pl j=>?_;have d:=f.length;exact len_tuple pl (by simp only[QI]<;>lia) #[.int ys.length,H,I.tok _,#[s.toks+1,by rw[QI,d]],q]
def q0r:uP X (.builtin "len") (λxs H Q=>∃z,xs=[.str z]/\z.length<=QD/\Q (.int z.length) H):=by intro pins s Y H xs us Q I r h;refine qd h λz c f q=>?_;subst c;obtain⟨u,rfl,t,rfl⟩:=vals1 r;have d:=Dc;exact len_str ∅ #[.int z.length,H,I.tok _,#[_,rfl],q]
def Ih:uP X (.type "list") (λxs H Q=>∃p ys,xs=[.ref p]/\(zM X.K H p ys\/zw X.K H p ys)/\∀l,H l=Qc->Q (.ref l) (upd H l (.qA ys))):=by
 intro pins s Y H xs us Q I r h;refine qN h λp ys t f q=>?_;cases t;obtain⟨u,rfl,m⟩:=vals1 r;cases m;have fin:∀(its:List Value),Vals ys its->ys.length<=QD->∀(h':Heap)(c:Nat),(∀b o',s.heap.get? b=Qa o'->h'.get? b=Qa o')->
   h'.get? s.heap.objs.size=Qa {cls:=.type "list",dict:=Qc,data:=.seq its.toArray c,slots:=#[]}->EP X pins Y Q (.ref s.heap.objs.size) {s with heap:=h'}:=λits d g h' c kp e=>
  #[.ref s.heap.objs.size,_,I.laid kp (Qt _) (show jn X.prog X.w _ h' _ (.qA ys) from#[g,its,c,d,e]),rfl,q _ (I.qO.fresh (Qt _))]
 rcases f with f|f
 .obtain⟨its,d,pl,g⟩:=I.list f;have k:=d.length;obtain⟨o,j,hc,n,hd⟩:=pl.isList;exact call_list_seq p (.inl rfl) j hc hd (λh' c kp e=>fin its d g h' c kp e) (by simp<;>lia)
 .obtain⟨its,d,pl,g⟩:=I.tuple f;have k:=d.length;obtain⟨o,j,hc,n,hd⟩:=pl;exact call_list_seq p (.inr rfl) j hc hd (λh' c kp e=>fin its d g h' c kp e) (by simp<;>lia)
def dG:uP X (.type "tuple") (λxs H Q=>∃p ys,xs=[.ref p]/\((zM X.K H p ys/\∀l,H l=Qc->Q (.ref l) (upd H l (.qE ys)))\/(zw X.K H p ys/\Q (.ref p) H))):=by
 intro pins s Y H xs us Q I r h;obtain⟨p,ys,rfl,h⟩:=h;obtain⟨u,rfl,k⟩:=vals1 r;cases k;rcases h with⟨c,q⟩|⟨c,q⟩
 .obtain⟨its,d,pl,g⟩:=I.list c;have m:=d.length;refine call_tuple_list pl.isList (λh' kp=>?_) (by simp<;>lia);have f:Inv X pins Y H {s with heap:=h'}:=I.kept (t':=s.toks) kp;have j:Inv X pins Y (upd H h'.objs.size (.qE ys)) {s with heap:=h'.push {cls:=.type "tuple",data:=.seq its.toArray}}:=
   f.laid (t':=s.toks) (λb o e=>Qk _ e) (Qt _) (#[g,its,d,IsTup.new _ _])
  exact#[.ref h'.objs.size,_,j,rfl,q _ (f.qO.fresh (Qt _))]
 .obtain⟨its,d,pl,g⟩:=I.tuple c;exact call_tuple_same pl #[.ref p,H,I,rfl,q]
def tyV(K:QC)(T:String)(x:V)(H:Hp):Prop:=match x with
 |.str _=>T="str"
 |.int _=>T="int"
 |.ref p=>(T="list"/\∃xs,zM K H p xs)\/(T="tuple"/\∃o,K.lookup p=Qa o/\o.cls=.type "tuple"/\o.dict=Qc)\/
   (T="dict"/\((∃kvs,H p=Qa (.dK kvs))\/∃kvs,H p=Qa (.dT kvs)))\/(T="set"/\∃S n,H p=Qa (.set S n))
 |_=>False
def Cb{T:String}{v:Value}(I:Inv X pins Y H s)(r:RelV x v)(ty:tyV X.K T x H):
  s.TypeIs v T/\∀a,v=.ref a->∃ob,s.heap.get? a=Qa ob/\ob.dict=Qc:=by
 cases x with
 |str z=>
  obtain⟨t,rfl⟩:=r;cases ty;exact#[typeIs_str s z t,λ_ e=>nomatch e]
 |int i=>
  obtain⟨t,rfl⟩:=r;cases ty;exact#[ZP s i t,λ_ e=>nomatch e]
 |ref p=>
  cases r;rcases ty with⟨rfl,xs,g⟩|⟨rfl,o,d,hc,hd⟩|⟨rfl,d⟩|⟨rfl,S,n,d⟩
  .refine qd (I.list g) λits _ pl _=>?_;refine#[pl.isList.typeIs,λa e=>?_];cases e;refine zN pl λo n e c hd _=>?_;exact#[o,e,hd]
  .refine#[#[o,I.jN p o d,hc],λa e=>?_];cases e;exact#[o,I.jN _ o d,hd]
  .have z:∃o,s.heap.get? p=Qa o/\o.ExactDict:=by
    rcases d with⟨kvs,d⟩|⟨kvs,d⟩
    .obtain⟨_,_,_,_,o,_,_,e,ex,_⟩:=I.qO p _ d;exact#[o,e,ex]
    .obtain⟨_,_,_,_,o,_,_,e,ex,_⟩:=I.qO p _ d;exact#[o,e,ex]
   refine qH z λo e ex=>?_;refine#[#[o,e,ex.1],λa f=>?_];cases f;exact#[o,e,ex.2.1]
  .obtain⟨o,_,_,_,e,ex,_⟩:=I.qO p _ d;refine#[#[o,e,ex.1],λa f=>?_];cases f;exact#[o,e,ex.2.1]
 |_=>exact JC ty
variable{o:Expr}{es:List Expr}{to:TE}{t:TA}{name:Str}{tR Io:WD}{T id:String}{r:V->List V->Hp->VK->Prop}
end
def bj(X:Cx)(a:String)(r:V->List V->Hp->VK->Prop):Prop:=
 ∀(pins:List (Addr×Obj))(s:Shared)(Y:St)(H:Hp)(x:V)(xs:List V)(v:Value)(us:List Value)(Q:VK),Inv X pins Y H s->RelV x v->Vals xs us->r x xs H Q->
  wpAny (model X.prog X.w) X.A (call (.builtin a) (v::us)) (EP X pins Y Q) X.xe s
def Vals.one(h:Vals [x] us):∃u,us=[u]/\RelV x u:=by cases h with|cons r t=>cases t;exact#[_,rfl,r]
theorem Vals.zero:∀{us:List Value},Vals [] us->us=[]
 |_,.nil=>rfl
theorem Vals.dropLast(h:Vals xs us):Vals xs.dropLast us.dropLast:=by
 induction h with
 |nil=>exact .nil
 |cons r t a=>
  cases t with
  |nil=>exact .nil
  |cons q t'=>exact .cons r a
theorem Vals.rep(h:Vals xs us):∀k:Nat,Vals (Qj k xs).flatten (Qj k us).flatten
 |0=>.nil
 |k+1=>by rw[Yo,Yo,Jb,Jb];exact Vals.append h (Vals.rep h k)
def q1W(l:List α):l.eraseIdx (l.length-1)=l.dropLast:=by
 induction l with
 |nil=>rfl
 |cons a r c=>
  cases r with
  |nil=>rfl
  |cons b r=>
   have e:(a::b::r).length-1=((b::r).length-1)+1:=by have d:(a::b::r).length=r.length+2:=rfl;have f:(b::r).length=r.length+1:=rfl;lia
   rw[e,List.eraseIdx_cons_succ,c]
   all_goals rfl
section
variable{l b:Addr}{ys zs:List V}
def Inv.mY{its a:List Value}{n:Nat}{f:Array Value->Array Value}{t':Nat}(I:Inv X pins Y H s)(c:H l=Qa (.qA xs))
  (e:s.heap.get? l=Qa {cls:=.type "list",data:=.seq its.toArray n}) (hf:f its.toArray=a.toArray) (hv:Vals ys a) (d:ys.length<=QD):
  Inv X pins Y (upd H l (.qA ys)) {s with heap:=s.heap.update l (Jk f),toks:=t'}:=by
 have q:=PySem.IsL.update e f;rw[hf]at q;refine I.write (by rw[c];exact trivial) (.inl rfl) (λg u hb hu=>(JX s.heap (Jk f) (JK hb)).trans hu) #[_,q] ?_;exact#[d,a,_,hv,q]
def Inv.GV{its:List Value}{t':Nat}(I:Inv X pins Y H s)(hv:Vals ys its)(a:ys.length<=QD):
  Inv X pins Y (upd H s.heap.objs.size (.qA ys)) {s with heap:=s.heap.push {cls:=.type "list",data:=.seq its.toArray},toks:=t'}:=
 I.laid (λ_ _ q=>Qk _ q) (Qt _) #[a,its,0,hv,QG _ rfl]
theorem Inv.fresh(I:Inv X pins Y H s):H s.heap.objs.size=Qc:=I.qO.fresh (Qt _)
def Inv.mZ(I:Inv X pins Y H s)(a:H l=Qa (.qA xs)):xs.length<=QD/\∃(its:List Value)(n:Nat),Vals xs its/\xs.length=its.length/\s.heap.get? l=Qa {cls:=.type "list",data:=.seq its.toArray n}:=by refine xo (I.qO l _ a) λz its n r e=>?_;exact#[z,its,n,r,r.length,e]
end
def q75:V->List V->Hp->VK->Prop:=λx vs H Q=>∃l xs y,x=.ref l/\vs=[y]/\H l=Qa (.qA xs)/\xs.length<QD/\Q .qI (upd H l (.qA (xs++[y])))
def Ds:bj X "list.append" q75:=by intro pins s Y H x vs v us Q I g f h;refine qY h λl xs y b c a k q=>?_;subst b c;cases g;refine qH f.one λu j d=>?_;subst j;refine fK (I.mZ a) λz its n r hl e=>?_;refine VL F.slot_list_append #[_,e,rfl] F.entry_list_append (F.args_list_append_2 _ _) (PySem.list_append l its.toArray n u (by rw[QI];lia)) #[e,?_];refine#[.qI,_,I.mY a e (by simp) (r.append (.cons d .nil)) ?_,rfl,q];rw[Jd,Vt];lia
def q7C:V->List V->Hp->VK->Prop:=λx vs H Q=>∃l xs y,x=.ref l/\vs=[]/\H l=Qa (.qA xs)/\xs[xs.length-1]?=Qa y/\Q y (upd H l (.qA xs.dropLast))
def q56:bj X "list.pop" q7C:=by
 intro pins s Y H x vs v us Q I m k h;refine qY h λl xs y f g b d q=>?_;subst f g;cases m;have a:=k.zero;subst a;refine fK (I.mZ b) λz its n r hl e=>?_;refine qH (r.get d) λu hu j=>?_;have c:its.toArray[its.toArray.size-1]?=Qa u:=by show its.toArray[its.length-1]?=Qa u;rw[<-Ug,<-hl];exact hu
 refine VL F.slot_list_pop #[_,e,rfl] F.entry_list_pop (F.args_list_pop_1 _) (MeetsSeq.list_pop_last l its.toArray n u c (by rw[QI];lia)) #[e,?_];refine#[y,_,I.mY b e ?_ r.dropLast ?_,j,q]
 .
  rw[QI,List.eraseIdxIfInBounds_toArray,q1W]
 .rw[List.length_dropLast];lia
def len_rep(xs:List α)(k:Nat):(Qj k xs).flatten.length=k*xs.length:=by
 induction k with
 |zero=>simp
 |succ k a=>rw[Yo,Jb,Jd,a,Nat.succ_mul,Nat.add_comm]
end L2
namespace Att
open PySem PySem.W PySem.Calls PyProof.Rows
variable{P:Params}{h:Heap}{l:OpenLaw}{n:Nat}
def q3T:∀(ns:List Int)(vs:List Value),WellAll P h vs (ns.map WData.int)->IntsAre vs ns:=by
 intro ns
 induction ns with
 |nil=>
  intro vs w;rw[We]at w;cases w;exact .nil
 |cons n ns c=>
  intro vs w;rw[QK]at w;cases w with
  |cons a b=>
   cases a;exact .cons _ _ (c _ b)
def q89(m:l.most=Qa n){args:List WData}{zV:List Value}
  (f:l.row.toRowW.claim.pre args=Qb) (g:WellAll P h zV args):
  ∃a vs ns,zV=[YQ a]/\args=[WData.list (ns.map WData.int)]/\h.get? a=Qa {cls:=.type "list",data:=.seq vs.toArray}/\IntsAre vs ns/\ns.length<=n:=by
 have hc:l.pre.holds [] {args:=args}=Qb:=(pre_splitW f).2;refine qN (hasAllW_cons ((pre_splitW f).1)) λd r e i j=>?_;subst e;obtain rfl:=hasAllW_nil j;refine qH (hasW_list i) λxs e k=>?_;subst e;obtain⟨ns,rfl⟩:=items_int k;have p:ns.length<=n:=by
  unfold OpenLaw.pre at hc;have b:(WTm.not (.lt (.lit (.int (n:Int))) (.len (.arg 0)))).holds [] {args:=[.list (ns.map .int)]}=Qb:=by have b:=(holds_andW hc).1;rw[m]at b;exact b
  have c:=condW_of b (w_not (w_lt w_lit (w_len_list (w_arg rfl))));rw[Qm]at c;refine Nat.le_of_not_lt λq=>?_
  first
   |(rw[decide_eq_true ∅]at c;exact absurd c (by decide))
   |(simp at c;lia)
 cases g with
 |cons t u=>
  cases u;cases t with
  |list o s=>exact#[_,_,ns,rfl,rfl,o,q3T ns _ s,p]
def q6y(l:OpenLaw)(args:List WData):l.row.toRowW.claim.post args (.bool Qb) args=Qb:=
 postW_of
  (by first|rfl|decide|simp[WShape.has,WShape.arms,WShape.armsAll])
  (w_eq_bool (w_res rfl) w_lit) rfl
def tw{q:Program}{loose:List Str}{XP:(Str->Option Value)->Heap->Prop}{YP:World->Heap->Prop}{d:DefRec}
  (E:l.most=Qa n) (x:d.params.defaults=[])
  (call:∀(w:World)(s₀ b:Shared)(mg mb:Str->Option Value)(e:Addr)(o:Obj)(j g c:Value)(a:Addr)(vs:List Value)(ns:List Int),
   Ground q loose [] XP w s₀ mg mb b.heap->YP w b.heap->
   b.heap.get? e=Qa o->o.data=.func (docDef d.name d.params d.body d.scope j g c)->b.heap.CodeRec g d.name->mg d.name=Qa (.ref e)->
   b.heap.get? a=Qa {cls:=.type "list",data:=.seq vs.toArray}->IntsAre vs ns->ns.length<=n->b.gens=#[]->
   codeAny (model l.prog w) Wg (.call (.ref e) #[[.ref a],[]]) (λr i=>r=.ok (.ret (.bool Qb))/\OldK b.heap i.heap/\i.os=b.os/\AllBare i.gens) b):
  WalkO q loose XP YP l.row.toRowW d [] (λf vs=>PySem.call f vs):=by
 intro w s₀ b mg mb G Y e o j g c y kV F hd M k p C args zV as v m I u O;obtain rfl:y=.none:=Dflts.none k x;obtain rfl:kV=.none:=Dflts.noKw k;refine qY (q89 E v u) λa vs ns K L t s J=>?_;subst K L;refine enter_call (Y3 (call w s₀ b mg mb e o j g c a vs ns G Y F (fd_plain hd) M p t s J C) λr i H=>?_);refine vf H λN z A B=>?_;subst N;exact#[.inl #[.bool Qb,.bool Qb,[],rfl,λ_=>rfl,.bool Qb,q6y l _,λ_=>#[Ut,λ_ D=>(nomatch D)]],z,A,B]
end Att
namespace L2
open PySem PySem.Spec PyProof.Rows
variable{P:Program}{w:World}{K:QC}{mg:Str->Option Value}{fd:FuncData}{x qual:Str}{st:Stmt}{f:Addr}
theorem sY:∀{vs:List Value}{ns:List Int},IntsAre vs ns->Vals (ns.map V.int) vs
 |_,_,.nil=>.nil
 |_,_,.cons n t h=>.cons #[t,rfl] (sY h)
def IB(H:Hp):Prop:=∀b,H b=Qc\/∃o xs,H b=Qa (.frz o (.qA xs))
def q4L{P:Program}{w:World}{mb:Str->Option Value}{CX:uO}{k:Nat}{p a:Addr}{fd:FuncData}{sp:Sp}{c:Shared}{vs:List Value}{ns:List Int}
  (G:K.In c.heap) (Q:c.heap.Ns mainGlobals mg) (hb:c.heap.Ns builtinsNs mb) (t:∀x:Str,x≠"__name__"->mb x=bootBuiltins x) (B:c.heap.NoLimit) (Z:c.gens=#[])
  (j:c.heap.get? a=Qa {cls:=.type "list",data:=.seq vs.toArray}) (hi:IntsAre vs ns) (hl:ns.length<=QD) (hr:Room k Wg)
  (F:∀base:Heap,K.In base->base.Ns mainGlobals mg->FnOk P w K mg base CX k p fd [x] sp) (A:∀(s:Shared)(u:Value),BindsTo s fd #[[u],[]] [(x,u)])
  (zt:∀H:Hp,IB H->zM K H a (ns.map V.int)->sp [.ref a] H (λv _=>v=.bl Qb) λ_ _ _=>False)
  (S:∀H e g,CX [] H c (λ_ _ _=>False) e g->False):
  codeAny (model P w) Wg (.call (.ref p) #[[.ref a],[]]) (λr g=>r=.ok (.ret (.bool Qb))/\OldK c.heap g.heap/\g.os=c.os/\AllBare g.gens) c:=by
 have O:=sY hi;have E:∀H:Hp,IB H->zM K H a (ns.map V.int)->zc P w H c.heap->(∀b,H b≠Qc->b=a)->(H a≠Qc->K.lookup a=Qc)->
   codeAny (model P w) Wg (.call (.ref p) #[[.ref a],[]]) (λr g=>r=.ok (.ret (.bool Qb))/\OldK c.heap g.heap/\g.os=c.os/\AllBare g.gens) c:=by
  intro H N Y qO M W;have I:∀{b:Addr}{o:Obj},c.heap.get? b=Qa o->H b=Qc->(uX c.heap H).get? b=Qa o:=λe n=>q37 e n;have R:∀{b:Addr}{o:Obj}{es:Array DictEntry}{ep:Nat},c.heap.get? b=Qa o->o.data=.dict es ep->H b=Qc:=λ{b o es ep} e d=>by
   cases q:H b with
   |none=>rfl
   |some u=>
    have l:=M b (by rw[q];simp);subst l;rw[j]at e;cases e;cases d
  have i:∀{b:Addr}{m:Str->Option Value},c.heap.Ns b m->(uX c.heap H).Ns b m:=λ{b m}⟨o,es,ep,e,d,r⟩=>#[o,es,ep,I e (R e d),d,r]
  have L:K.In (uX c.heap H):=λb o e=>I (G b o e) (by
   cases q:H b with
   |none=>rfl
   |some u=>
    have l:=M b (by rw[q];simp);subst l;rw[W (by rw[q];simp)]at e;cases e)
  have X:Mod K mg (uX c.heap H):=#[L,i Q,#[mb,i hb,t],let⟨mc,h1,h2⟩:=B;#[mc,i h1,h2]]
  have T:Env0 P w K mg (uX c.heap H) Wg [] c H:=#[rfl,X,λb o e=>q6A e,Nat.le_of_eq (q38 _ _),trivial,λb hb=>absurd (show b∈([]:List Addr) from hb) (by simp),qO,.of_eq Z]
  refine Y3 ((F _ L (i Q)).run Wg [] c H #[[.ref a],[]] [.ref a] [.ref a] _ _ hr T (A c (.ref a)) (.cons rfl .nil) (zt H N Y)) λr g h=>?_;cases r with
  |error e=>exact(S H e g h).elim
  |ok fl=>
   cases fl with
   |next=>exact JC h
   |brk=>exact JC h
   |cont=>exact JC h
   |ret u=>
    obtain⟨v,H',os,bare,un,C,r',q⟩:=h;have q':=q;subst q';obtain rfl:u=WN Qb:=r';refine#[rfl,OldK.of_keep λb o e=>?_,os,bare];cases q:H b with
    |none=>exact un.keep b o e q (by intro z;exact absurd (show b∈([]:List Addr) from z) (by simp)) (by simp)
    |some u=>
     rcases N b with z|⟨ob,xs,z⟩
     .rw[q]at z;cases z
     .
      obtain⟨J,_⟩:=qO b _ z;obtain⟨U,_⟩:=C b _ (un.yB b ob _ z);rw[e]at J;cases J;exact U
 cases y:K.lookup a with
 |some o=>
  have e:=G a o y;rw[j]at e;cases e;refine E (λ_=>Qc) (λ_=>.inl rfl) (.inr #[_,vs.toArray,_,y,rfl,rfl,rfl,by rw[QI,hi.length];exact hl,by simpa using O]) (λb u z=>by have D:(Qc:Option HO)=Qa u:=z;cases D) (λb z=>absurd rfl z) λz=>absurd rfl z
 |none=>
  refine E (λb=>if b=a then Qa (.frz {cls:=.type "list",data:=.seq vs.toArray} (.qA (ns.map V.int)))else Qc) (λb=>?_) (.inl (.inr #[{cls:=.type "list",data:=.seq vs.toArray},if_pos rfl])) (λb u z=>?_) (λb z=>?_) λ_=>y
  .by_cases hb:b=a
   .exact .inr #[_,_,if_pos hb]
   .exact .inl (if_neg hb)
  .by_cases hb:b=a
   .have D:=(if_pos hb).symm.trans z;cases D;subst hb;exact#[j,by rw[Qm];exact hl,vs,_,O,j]
   .
    cases((if_neg hb).symm.trans z)
  .by_cases hb:b=a
   .exact hb
   .exact absurd (if_neg hb) z
noncomputable abbrev bg{K:QC}{h:Heap}(_:K.In h):QC:=K
def qAJ{l:Wq}{n k:Nat}{q:Program}{loose:List Str}{XP:(Str->Option Value)->Heap->Prop}{YP:World->Heap->Prop}{d:DefRec}{K:Params->QC}{CX:World->uO}{sp:World->Sp}
  (M:l.most=Qa n) (t:n<=QD) (B:d.params.defaults=[]) (N:Room k Wg)
  (J:∀(w:World)(h:Heap),YP w h->(K w.params).In h)
  (F:∀(w:World)(mg:Str->Option Value)(i:Addr)(h:Heap),(K w.params).In h->h.Ns mainGlobals mg->mg d.name=Qa (.ref i)->
   ∃fd:FuncData,(∀(s:Shared)(u:Value),BindsTo s fd #[[u],[]] [(x,u)])/\
    ∀base:Heap,(K w.params).In base->base.Ns mainGlobals mg->FnOk l.prog w (K w.params) mg base (CX w) k i fd [x] (sp w))
  (O:∀(w:World)(H:Hp)(a:Addr)(ns:List Int),ns.length<=n->IB H->zM (K w.params) H a (ns.map V.int)->sp w [.ref a] H (λv _=>v=.bl Qb) λ_ _ _=>False)
  (y:∀(w:World)(H:Hp)(s:Shared)(e:Value)(j:Shared),CX w [] H s (λ_ _ _=>False) e j->False):
  PySem.W.WalkO q loose XP YP l.row.toRowW d [] (λf vs=>PySem.call f vs):=by
 refine Att.tw M B λw s₀ c mg mb i o S Q C a vs ns G Y R hd U r A z p L=>?_;have m:=J w _ Y;refine qH (F w mg i _ m G.T.g r) λfd hb D=>?_;exact q4L m G.T.g G.T.b G.T.builtins G.T.nolimit L A z (Qw p t) N D hb (λH E I=>O w H a ns p E I) λH e j=>y w H c e j
noncomputable def X4(s:Stmt):Arguments:=match s with
 |.FunctionDef _ a _ _ _ _ _ _ _ _=>a
 |_=>{posonlyargs:=[],args:=[],vararg:=Qc,kwonlyargs:=[],kw_defaults:=[],kwarg:=Qc,defaults:=[]}
noncomputable def xC(s:Stmt):List Stmt:=match s with
 |.FunctionDef _ _ b _ _ _ _ _ _ _=>b
 |_=>[]
noncomputable def wC(s:Stmt):Scope:=match s with
 |.FunctionDef _ _ _ _ _ _ sc _ _ _=>sc
 |_=>{kind:=.function,names:=[],isGenerator:=Qf,isCoroutine:=Qf}
structure Fun(K:QC)(x qual:Str)(st:Stmt)(f:Addr)(fd:FuncData):Prop where
 ex:∃(oc:Value)(od:Option Addr)(kV doc pm:Value)(an:Option Addr)(zC ct:Value)(kg:Array (Option Value)),
  fd=Jj x qual (X4 st) (xC st) (wC st) .none kV doc pm an zC ct/\K.lookup f=Qa #[oc,od,.func fd,kg]/\Yj K zC qual=Qb
 kp:Jf K (.ref f)=Qb
section
variable{base:Heap}
def Fun.binds{ps:List Str}(F:Fun K x qual st f fd)
  (h:∀(kV doc pm:Value)(an:Option Addr)(zC ct:Value)(us:List Value),us.length=ps.length->bindArgs (Jj x qual (X4 st) (xC st) (wC st) .none kV doc pm an zC ct) #[us,[]]=pure (ps.zip us)):Binds K fd ps []:=by
 obtain⟨oc,od,kV,doc,pm,an,zC,ct,kg,rfl,lk,a⟩:=F.ex;exact .all (h kV doc pm an zC ct)
def gP{oc:Value}{od an:Option Addr}{kg:Array (Option Value)}{kV doc pm zC ct:Value}(l:K.lookup f=Qa #[oc,od,.func (Jj x qual (X4 st) (xC st) (wC st) .none kV doc pm an zC ct),kg])
  (c:Yj K zC qual=Qb) (k:Jf K (.ref f)=Qb):Fun K x qual st f (Jj x qual (X4 st) (xC st) (wC st) .none kV doc pm an zC ct):=#[#[oc,od,kV,doc,pm,an,zC,ct,kg,rfl,l,c],k]
end
end L2
namespace Ev
def oB{c d:Type}{o:Option c}{f:c->Option d}{b:d}(h:o.bind f=Qa b):∃a,o=Qa a/\f a=Qa b:=Option.bind_eq_some_iff.mp h
def oM{c d:Type}{o:Option c}{f:c->d}{b:d}(h:o.map f=Qa b):∃a,o=Qa a/\f a=b:=JS.mp h
open PySem
set_option genInjectivity true in
inductive D where
 |qI|bl (b:Bool)|int (i:Int)|str (x:Str)|qE (xs:List D)|qA (xs:List D)|z7 (ks vs:List D)|exc (c:Nat)|obj (fs:List D)|mem (c:Int) (xs:List D)
 deriving Inhabited
set_option genInjectivity true in
inductive R(α:Type)where
 |ok (a:α)|err (c:Nat)|qC
 deriving Inhabited
noncomputable def R.bind{α b:Type}:R α->(α->R b)->R b
 |.ok a,f=>f a
 |.err c,_=>.err c
 |.qC,_=>.qC
@[simp]def qF{α b:Type}(a:α)(f:α->R b):(R.ok a).bind f=f a:=rfl
@[simp]def q0K{α a:Type}(c:Nat)(f:α->R a):(R.err c).bind f=.err c:=rfl
@[simp]def q0L{α a:Type}(f:α->R a):(R.qC:R α).bind f=.qC:=rfl
noncomputable def b2i(b:Bool):Int:=if b then 1 else 0
mutual
noncomputable def qM:D->D->Bool
 |.qI,.qI=>Qb
 |.bl a,.bl b=>a==b
 |.int a,.int b=>decide (a=b)
 |.bl a,.int b=>decide (b2i a=b)
 |.int a,.bl b=>decide (a=b2i b)
 |.str a,.str b=>decide (a=b)
 |.qE a,.qE b=>zf a b
 |.qA a,.qA b=>zf a b
 |_,_=>Qf
noncomputable def zf:List D->List D->Bool
 |[],[]=>Qb
 |a::l,b::m=>qM a b&&zf l m
 |_,_=>Qf
end
noncomputable def qV:Nat->D->Bool
 |_,.qI=>Qb
 |_,.bl _=>Qb
 |_,.int _=>Qb
 |_,.str _=>Qb
 |k+1,.qE a=>a.all (qV k)
 |k+1,.qA a=>a.all (qV k)
 |_,_=>Qf
def pl(d:D):Bool:=qV 8 d
def zj(l:List D):Bool:=l.all pl
mutual
noncomputable def qm:D->D->Bool
 |.int a,.int b=>decide (a<b)
 |.qE a,.qE b=>zD a b
 |.qA a,.qA b=>zD a b
 |_,_=>Qf
noncomputable def zD:List D->List D->Bool
 |[],_::_=>Qb
 |a::l,b::m=>if qM a b then zD l m else qm a b
 |_,[]=>Qf
end
mutual
noncomputable def zm:D->D->Bool
 |.int _,.int _=>Qb
 |.qE a,.qE b=>jw a b
 |.qA a,.qA b=>jw a b
 |_,_=>Qf
noncomputable def jw:List D->List D->Bool
 |a::l,b::m=>if qM a b then jw l m else zm a b
 |_,_=>Qb
end
mutual
noncomputable def qJ:D->Bool
 |.int _=>Qb
 |.qE a=>zO a
 |_=>Qf
noncomputable def zO:List D->Bool
 |[]=>Qb
 |a::l=>qJ a&&zO l
end
noncomputable def ins(x:D):List D->List D
 |[]=>[x]
 |y::l=>if qm x y then x::y::l else y::ins x l
noncomputable def jy:List D->List D
 |[]=>[]
 |x::l=>ins x (jy l)
noncomputable def Xq(p:D->D->Bool)(l:List D):Bool:=l.all λa=>l.all λb=>p a b
noncomputable def dedup:List D->List D
 |[]=>[]
 |x::l=>if l.any (qM x)then dedup l else x::dedup l
def C6(l:List D):Bool:=decide ((dedup l).length=l.length)
noncomputable def tr:D->R Bool
 |.qI=>.ok Qf
 |.bl b=>.ok b
 |.int i=>.ok (i !=0)
 |.str x=>.ok (x.length !=0)
 |.qE xs=>.ok (!xs.isEmpty)
 |.qA xs=>.ok (!xs.isEmpty)
 |.z7 _ _=>.qC
 |.exc _=>.qC
 |.obj _=>.qC
 |.mem _ _=>.qC
inductive Op2 where|add|sub|mul|fdiv|mod|shl|shr|band|bor|bxor
 deriving DecidableEq
inductive Cm where|eq|ne|lt|le|gt|ge|P6|C8|mem|w6
 deriving DecidableEq
set_option genInjectivity true in
inductive Bi where
 |len|sorted|rg|vY|tuple|list|sum|all|bits|count|index|min2|max2|wj|toInt|abs|isTup|P5|isInt|isBool|isVal|isExc (c:Nat)
 deriving DecidableEq
noncomputable def big:Nat:=1000000
noncomputable def ud(f:List D->R D):D->R D
 |.qA xs=>f xs
 |_=>.qC
noncomputable def intD(f:Int->R D):D->R D
 |.int i=>f i
 |_=>.qC
noncomputable def sR(f:List D->R D):D->R D
 |.qE xs=>f xs
 |_=>.qC
noncomputable def sF(f:Str->R D):D->R D
 |.str x=>f x
 |_=>.qC
noncomputable def Sz(r:R D):D->R D
 |.qI=>r
 |_=>.qC
def tH(x y:D):R D:=match x with
 |.int a=>intD (λb=>.ok (.int (a+b))) y
 |.qA a=>ud (λb=>if a.length+b.length<=big then .ok (.qA (a++b))else .qC) y
 |.qE a=>sR (λb=>if a.length+b.length<=big then .ok (.qE (a++b))else .qC) y
 |.str a=>sF (λb=>if a.length+b.length<=big then .ok (.str (a++b))else .qC) y
 |_=>.qC
def q57(x y:D):R D:=match x with
 |.int a=>intD (λb=>if(-(2^62)<a/\a<2^62)\/(-(2^62)<b/\b<2^62)then .ok (.int (a*b))else .qC) y
 |.qA a=>intD (λk=>if 0<=k/\k<=1000/\a.length*k.toNat<=big then .ok (.qA (Qj k.toNat a).flatten)else .qC) y
 |_=>.qC
noncomputable def jo:Op2->Int->Int->R D
 |.sub,a,b=>.ok (.int (a-b))
 |.fdiv,a,b=>if 0<b/\b<1073741824 then .ok (.int (a/b))else .qC
 |.mod,a,b=>if 0<b then .ok (.int (a %b))else .qC
 |.shl,a,b=>if 0<=a/\a<2^62/\0<=b/\b<=1000 then .ok (.int ((a.toNat<<<b.toNat:Nat):Int))else .qC
 |.shr,a,b=>if 0<=a/\0<=b then .ok (.int ((a.toNat>>>b.toNat:Nat):Int))else .qC
 |.band,a,b=>if 0<=a/\0<=b then .ok (.int ((a.toNat&&&b.toNat:Nat):Int))else .qC
 |.bor,a,b=>if 0<=a/\0<=b then .ok (.int ((a.toNat|||b.toNat:Nat):Int))else .qC
 |.bxor,a,b=>if 0<=a/\0<=b then .ok (.int ((a.toNat^^^b.toNat:Nat):Int))else .qC
 |_,_,_=>.qC
def zT(o:Op2)(x y:D):R D:=match o with
 |.add=>tH x y
 |.mul=>q57 x y
 |_=>intD (λa=>intD (jo o a) y) x
def Tg(o:Op2)(h:o≠.add)(c:o≠.mul)(a b:Int):zT o (.int a) (.int b)=jo o a b:=by
 unfold zT;split
 .cases h rfl
 .cases c rfl
 .dsimp only[intD]
def memD(x:D):D->R Bool
 |.qA xs=>if pl x&&zj xs then .ok (xs.any λy=>qM y x)else .qC
 |.qE xs=>if pl x&&zj xs then .ok (xs.any λy=>qM y x)else .qC
 |.z7 ks _=>match x with
  |.int i=>.ok (ks.any λy=>qM y (.int i))
  |_=>.qC
 |_=>.qC
def qj(o:Cm)(a b:D):R D:=match o with
 |.eq=>if pl a&&pl b then .ok (.bl (qM a b))else .qC
 |.ne=>if pl a&&pl b then .ok (.bl (!qM a b))else .qC
 |.lt=>if pl a&&pl b&&qJ a&&qJ b&&zm a b then .ok (.bl (qm a b))else .qC
 |.gt=>intD (λa=>intD (λb=>.ok (.bl (decide (b<a)))) b) a
 |.le=>intD (λa=>intD (λb=>.ok (.bl (decide (a<=b)))) b) a
 |.ge=>if pl a&&pl b&&qJ a&&qJ b&&zm a b then .ok (.bl (!qm a b))else .qC
 |.P6=>Sz (.ok (.bl (match a with|.qI=>Qb|_=>Qf))) b
 |.C8=>Sz (.ok (.bl (match a with|.qI=>Qf|_=>Qb))) b
 |.mem=>(memD a b).bind λr=>.ok (.bl r)
 |.w6=>(memD a b).bind λr=>.ok (.bl (!r))
noncomputable def vV(xs:List D)(i:Int):R D:=
 match(if 0<=i then xs[i.toNat]?else if-(xs.length:Int)<=i then xs[(i+xs.length).toNat]?else Qc)with
 |some d=>.ok d
 |none=>.qC
noncomputable def look(i:Int):List D->List D->R D
 |.int k::ks,v::vs=>if k=i then .ok v else look i ks vs
 |_,_=>.qC
noncomputable def put(i:Int)(x:D):List D->List D->R (List D×List D)
 |[],[]=>.ok ([.int i],[x])
 |.int k::ks,v::vs=>if k=i then .ok (.int k::ks,x::vs)else(put i x ks vs).bind λr=>.ok (.int k::r.1,v::r.2)
 |_,_=>.qC
def kE:D->D->R D
 |.qA xs,.int i=>vV xs i
 |.qE xs,.int i=>vV xs i
 |.z7 ks vs,.int i=>look i ks vs
 |_,_=>.qC
noncomputable def Xu(n d:Nat):Option Int->Nat
 |none=>d
 |some v=>if v<0 then(v+n).toNat else min v.toNat n
def wR{α:Type}(xs:List α)(lo hi:Option Int):List α:=(xs.drop (Xu xs.length 0 lo)).take (Xu xs.length xs.length hi-Xu xs.length 0 lo)
def Tw(st:Nat)(lo hi:Option Int):D->R D
 |.qA xs=>if st=0 then .ok (.qA (wR xs lo hi))else .qC
 |.qE xs=>if st=0 then .ok (.qE (wR xs lo hi))else .qC
 |_=>.qC
noncomputable def ints?:List D->Option (List Int)
 |[]=>Qa []
 |.int i::l=>(ints? l).map (i::·)
 |_=>Qc
noncomputable def bools?:List D->Option (List Bool)
 |[]=>Qa []
 |.bl i::l=>(bools? l).map (i::·)
 |_=>Qc
def jC:D->R (List D)
 |.qA xs=>.ok xs
 |.qE xs=>.ok xs
 |.z7 ks _=>if(ints? ks).isSome then .ok ks else .qC
 |_=>.qC
noncomputable def xO:D->R (List D)
 |.qA xs=>.ok xs
 |.qE xs=>.ok xs
 |_=>.qC
noncomputable def ub:D->Bool
 |.int _=>Qb
 |_=>Qf
noncomputable def yk:D->Bool
 |.qE (.int _::_)=>Qb
 |_=>Qf
def ko(xs:List D):Bool:=decide (xs.length<64)&&zO xs&&zj xs&&Xq zm xs&&C6 xs&&(xs.all ub||xs.all yk)
noncomputable def idxOf(x:D):List D->Nat->R D
 |[],_=>.qC
 |y::l,n=>if qM y x then .ok (.int n)else idxOf x l (n+1)
noncomputable def ke(f:D->R D):List D->R D
 |[d]=>f d
 |_=>.qC
noncomputable def Ca(f:D->D->R D):List D->R D
 |[d,e]=>f d e
 |_=>.qC
noncomputable def q4S:D->R D
 |.qA xs=>.ok (.int xs.length)
 |.qE xs=>.ok (.int xs.length)
 |.z7 ks _=>.ok (.int ks.length)
 |.str x=>.ok (.int x.length)
 |_=>.qC
noncomputable def aq(f:List D->R D):D->R D
 |.qA xs=>f xs
 |.qE xs=>f xs
 |_=>.qC
def q9z:D->R D
 |.int a=>.ok (.int a)
 |.bl a=>.ok (.int (b2i a))
 |_=>.qC
noncomputable def q3m:D->R D
 |.int _=>.ok (.bl Qf)
 |.bl _=>.ok (.bl Qb)
 |_=>.qC
noncomputable def q3q:D->R D
 |.qE _=>.ok (.bl Qb)
 |_=>.qC
noncomputable def LR(f:Nat->R D):D->R D
 |.exc c=>f c
 |_=>.qC
def sI(xs:List D):R D:=match ints? xs with
 |some ns=>.ok (.int ns.sum)
 |none=>.qC
def Cs(xs:List D):R D:=match bools? xs with
 |some bs=>.ok (.bl (bs.all id))
 |none=>.qC
noncomputable def uE:List Int->Int->Int
 |[],b=>b
 |x::l,b=>uE l (if x<b then x else b)
def minD(xs:List D):R D:=match ints? xs with
 |some (n::ns)=>.ok (.int (uE ns n))
 |_=>.qC
def zF(sub:Nat->Nat->Bool)(b:Bi)(ds:List D):R D:=match b with
 |.len=>ke q4S ds
 |.sorted=>ke (λd=>(jC d).bind λxs=>if ko xs then .ok (.qA (jy xs))else .qC) ds
 |.rg=>ke (λd=>(jC d).bind λxs=>if ko xs&&xs.all ub then .ok (.qA (jy xs).reverse)else .qC) ds
 |.vY=>ke (λd=>(xO d).bind λxs=>if zO xs&&zj xs&&decide (xs.length<=1000)&&ko (dedup xs)then .ok (.qA (jy (dedup xs)))else .qC) ds
 |.tuple=>ke (aq λxs=>.ok (.qE xs)) ds
 |.list=>ke (aq λxs=>.ok (.qA xs)) ds
 |.sum=>ke (ud sI) ds
 |.all=>ke (ud Cs) ds
 |.bits=>ke (intD λi=>if 0<=i then .ok (.int (if i=0 then 0 else((i.toNat.log2+1:Nat):Int)))else .qC) ds
 |.count=>Ca (λd x=>ud (λxs=>if pl x&&zj xs then .ok (.int ((xs.filter λy=>qM y x).length))else .qC) d) ds
 |.index=>Ca (λd x=>ud (λxs=>if pl x&&zj xs then idxOf x xs 0 else .qC) d) ds
 |.min2=>Ca (λx y=>intD (λa=>intD (λb=>.ok (.int (if b<a then b else a))) y) x) ds
 |.max2=>Ca (λx y=>intD (λa=>intD (λb=>.ok (.int (if b>a then b else a))) y) x) ds
 |.wj=>ke (ud minD) ds
 |.toInt=>ke q9z ds
 |.abs=>ke (intD λa=>.ok (.int (if a<0 then-a else a))) ds
 |.isTup=>ke q3q ds
 |.P5=>ke (ud λ_=>.ok (.bl Qb)) ds
 |.isInt=>ke (intD λ_=>.ok (.bl Qb)) ds
 |.isBool=>ke q3m ds
 |.isVal=>ke (LR λ_=>.ok (.bl Qb)) ds
 |.isExc c=>ke (LR λe=>.ok (.bl (sub e c))) ds
mutual
inductive L where
 |qS (i:Nat)|bor (i:Nat)|qo (d:D)
 |op (o:Op2) (a b:L)|cm (o:Cm) (a b:L)|neg (a:L)|not (a:L)|and (a b:L)|or (a b:L)|ite (c:T) (a b:L)
 |qE (xs:List L)|qA (xs:List L)|z7 (k v:L)
 |idx (a i:L)|sl (st:Nat) (a:L) (lo hi:List L)
 |call (f:Nat) (xs:List L)|bi (b:Bi) (xs:List L)
 |comp (k:Nat) (elt:L) (it:I) (cond:List T)
 |skey (a:L) (f:Nat)
 |fld (a:L) (k:Nat)|callM (f:Nat) (a:L) (xs:List L)|vM (f:Nat) (xs:List L)|cm2 (o q:Cm) (a b c:L)
inductive T where
 |e (a:L)|and (a b:T)|or (a b:T)|not (a:T)
inductive I where
 |rng (xs:List L)|e (a:L)
end
noncomputable def Xa:L->Bool
 |.qo _=>Qb
 |.bi .wj [.qS _]=>Qb
 |.bi .wj [.bor _]=>Qb
 |_=>Qf
inductive Sl where|val (d:D)|own (d:D)|j6 (xss:List (List D))|obj (b:Bool) (fs:List D)
 deriving Inhabited
noncomputable abbrev sv(d:D):Option Sl:=Qa (.val d)
noncomputable abbrev qG:L:=.qS 0
noncomputable abbrev qR:L:=.qS 1
noncomputable abbrev qf:L:=.qS 2
noncomputable abbrev zQ:L:=.qS 3
noncomputable abbrev jl:L:=.qS 4
noncomputable abbrev zi:L:=.qS 5
noncomputable abbrev kO:L:=.qS 6
noncomputable abbrev Al:L:=.qS 7
noncomputable abbrev kZ(n:Int):L:=.qo (.int n)
abbrev Env:=List (Option Sl)
noncomputable def zH(Z:Env)(i:Nat):R D:=match Z[i]?with
 |some (Qa (.val d))=>.ok d
 |_=>.qC
noncomputable def X9(Z:Env)(i:Nat):R D:=match Z[i]?with
 |some (Qa (.val d))=>.ok d
 |some (Qa (.own d))=>.ok d
 |some (Qa (.obj _ fs))=>.ok (.obj fs)
 |_=>.qC
noncomputable def xU:List D->R (List D)
 |[.int j]=>if-(2^62)<=j/\j<2^62 then .ok ((Qu j.toNat).map λ(k:Nat)=>.int k)else .qC
 |[.int i,.int j]=>if-(2^62)<=i/\i<2^62/\-(2^62)<=j/\j<2^62 then .ok ((Qu (j-i).toNat).map λ(k:Nat)=>.int (i+k))else .qC
 |_=>.qC
noncomputable def wA(k:Nat)(d:D):R (List D):=
 if k=0 then .ok [d]else match d with
  |.qE xs=>if xs.length=k then .ok xs else .qC
  |_=>.qC
noncomputable def zV(ds:List D):Env:=ds.map λd=>Qa (.val d)
noncomputable def j7(elt:Env->R D)(cond:Env->R Bool)(k:Nat)(Z:Env):List D->R (List D)
 |[]=>.ok []
 |d::ds=>(wA k d).bind λxs=>(cond (zV xs++Z)).bind λb=>
   if b then(elt (zV xs++Z)).bind λe=>(j7 elt cond k Z ds).bind λes=>.ok (e::es)else j7 elt cond k Z ds
noncomputable def R.uf{α:Type}:R α->R α
 |.err _=>.qC
 |r=>r
@[simp]def ka{α:Type}(a:α):(R.ok a).uf=.ok a:=rfl
@[simp]def qBB{α:Type}:(R.qC:R α).uf=.qC:=rfl
@[simp]def qBA{α:Type}(c:Nat):(R.err c:R α).uf=.qC:=rfl
noncomputable def xS:List D->R (Option Int)
 |[]=>.ok Qc
 |[.int i]=>.ok (Qa i)
 |_=>.qC
noncomputable def km(ps:List (D×D)):List (D×D):=ps.foldr (λx l=>insK x l) []
where
 insK (x:D×D):List (D×D)->List (D×D)
  |[]=>[x]
  |y::l=>if qm x.1 y.1 then x::y::l else y::insK x l
noncomputable def C9(f:List D->R D):D->R D
 |.obj fs=>f fs
 |_=>.qC
noncomputable def T7(k:Nat)(fs:List D):R D:=match fs[k]?with
 |some d=>.ok d
 |none=>.qC
def wt(d:D):R D:=if pl d then .ok d else .qC
noncomputable def yR:List D->R D
 |[.qA xs,.int c]=>if xs.length<=20 then .ok (.mem c xs)else .qC
 |[.qE xs,.int c]=>if xs.length<=20 then .ok (.mem c xs)else .qC
 |_=>.qC
def vn(t:Nat):D->Bool
 |.int m=>m.toNat.testBit t
 |.qE ds=>ds.any λd=>qM d (.int t)
 |_=>Qf
noncomputable def Tj:Nat->Nat->List D->Nat
 |0,_,_=>0
 |n+1,c,ks=>if ks.length=1 then 0 else
   match(Qu c).filterMap λt=>if(ks.filter (vn t)).isEmpty||(ks.filter λd=>!vn t d).isEmpty then Qc else Qa (1+max (Tj n c (ks.filter (vn t))) (Tj n c (ks.filter λd=>!vn t d)))with
   |[]=>0
   |x::l=>l.foldl min x
def uJ(c:Int)(ks:List D):Int:=Tj ks.length c.toNat ks
noncomputable def wx:List D->List D->Bool
 |[],_=>Qb
 |_::_,[]=>Qf
 |x::xs,y::ys=>if qM x y then wx xs ys else wx (x::xs) ys
def yL:D->D->D->Bool
 |.mem c zq,.qE ks,.int v=>decide (v=uJ c ks)&&wx ks zq&&zO ks&&pl (.qE ks)&&decide (zq.length<=20)&&zO zq
 |_,_,_=>Qf
noncomputable def mapR(f:D->R D):List D->R (List D)
 |[]=>.ok []
 |x::l=>(f x).bind λy=>(mapR f l).bind λm=>.ok (y::m)
section
variable(G:Nat->List D->R D)(sub:Nat->Nat->Bool)
mutual
noncomputable def ev:L->Env->R D
 |.qS i,Z=>zH Z i
 |.bor i,Z=>X9 Z i
 |.qo d,_=>.ok d
 |.op o a b,Z=>(ev a Z).bind λx=>(ev b Z).bind λy=>zT o x y
 |.cm o a b,Z=>(ev a Z).bind λx=>(ev b Z).bind λy=>qj o x y
 |.neg a,Z=>(ev a Z).bind λx=>match x with
   |.int i=>.ok (.int (-i))
   |_=>.qC
 |.not a,Z=>(ev a Z).bind λx=>(tr x).bind λb=>.ok (.bl (!b))
 |.and a b,Z=>(ev a Z).bind λx=>match x with
   |.bl Qb=>ev b Z
   |.bl Qf=>.ok (.bl Qf)
   |_=>.qC
 |.or a b,Z=>(ev a Z).bind λx=>match x with
   |.bl Qb=>.ok (.bl Qb)
   |.bl Qf=>ev b Z
   |_=>.qC
 |.ite c a b,Z=>(z9 c Z).bind λt=>if t then ev a Z else ev b Z
 |.qE xs,Z=>(qu xs Z).bind λds=>if ds.length<=big then .ok (.qE ds)else .qC
 |.qA xs,Z=>(qu xs Z).bind λds=>if ds.length<=big then .ok (.qA ds)else .qC
 |.z7 k v,Z=>(ev k Z).bind λx=>(ev v Z).bind λy=>match x with
   |.int i=>.ok (.z7 [.int i] [y])
   |_=>.qC
 |.idx a i,Z=>(ev a Z).bind λx=>(ev i Z).bind λy=>kE x y
 |.sl st a lo hi,Z=>(ev a Z).bind λx=>(qu lo Z).bind λl=>(qu hi Z).bind λh=>(xS l).bind λl=>(xS h).bind λh=>Tw st l h x
 |.call f xs,Z=>(qu xs Z).bind λds=>G f ds
 |.bi b xs,Z=>(qu xs Z).bind λds=>zF sub b ds
 |.comp k elt it cond,Z=>(jR it Z).bind λds=>(j7 (ev elt) (jO cond) k Z ds).uf.bind λes=>if es.length<=big then .ok (.qA es)else .qC
 |.skey a f,Z=>(ev a Z).bind λd=>(jC d).bind λxs=>(mapR (λx=>G f [x]) xs).uf.bind λks=>
   if ko ks then .ok (.qA ((km (ks.zip xs)).map (·.2)))else .qC
 |.fld a k,Z=>(ev a Z).bind (C9 (T7 k))
 |.callM f a xs,Z=>(ev a Z).bind (C9 λfs=>(qu xs Z).bind λds=>(G f (.obj fs::ds)).bind wt)
 |.vM f xs,Z=>(qu xs Z).bind λds=>(yR ds).bind λm=>G f (ds++[m])
 |.cm2 o q a b c,Z=>(ev a Z).bind λx=>(ev b Z).bind λy=>(qj o x y).bind λt=>(tr t).bind λt=>if t then(ev c Z).bind λz=>qj q y z else .ok (.bl Qf)
noncomputable def qu:List L->Env->R (List D)
 |[],_=>.ok []
 |a::l,Z=>(ev a Z).bind λx=>(qu l Z).bind λxs=>.ok (x::xs)
noncomputable def jR:I->Env->R (List D)
 |.rng xs,Z=>(qu xs Z).bind xU
 |.e a,Z=>(ev a Z).bind jC
noncomputable def z9:T->Env->R Bool
 |.and a b,Z=>(z9 a Z).bind λt=>if t then z9 b Z else .ok Qf
 |.or a b,Z=>(z9 a Z).bind λt=>if t then .ok Qb else z9 b Z
 |.not a,Z=>(z9 a Z).bind λt=>.ok (!t)
 |.e a,Z=>(ev a Z).bind tr
noncomputable def jO:List T->Env->R Bool
 |[],_=>.ok Qb
 |a::l,Z=>(z9 a Z).bind λt=>if t then jO l Z else .ok Qf
end
end
inductive S where
 |set (i:Nat) (a:L)|jF (i:Nat) (a:L)|aug (i:Nat) (o:Op2) (a:L)
 |setE (i:Nat) (a:L)|app2 (i:Nat) (k a:L)
 |app (i:Nat) (a:L)|pop (j i:Nat)|put (i:Nat) (k v:L)
 |expr (a:L)|ifs (c:T) (a b:List S)|zS (k:Nat) (is:List Nat) (it:I) (body:List S)|whl (c:T) (body:List S)
 |ret (a:L)|retO (i:Nat)|brk|cont
 |raise (c:Nat)|tryE (body:List S) (c i j:Nat)|retL (a:L)|memo (i k:Nat) (body:List S) (a:L)|setA (i k:Nat) (a:L)
 |new (i f:Nat) (xs:List L)|newX (f:Nat) (xs:List L)|expM (i f:Nat) (xs:List L)|ifA (c:List T) (i f:Nat) (xs:List L) (a:L) (body:List S)|appF (i f:Nat) (a:L)
inductive F where|nx|brk|cont|ret (d:D)|Xb (d:D)
inductive RS where|ok (Z:Env) (f:F)|err (c:Nat) (Z:Env)|qC
noncomputable def R.go{α:Type}(r:R α)(Z:Env)(f:α->RS):RS:=match r with
 |.ok a=>f a
 |.err c=>.err c Z
 |.qC=>.qC
@[simp]def qT{α:Type}(a:α)(Z:Env)(f:α->RS):(R.ok a).go Z f=f a:=rfl
@[simp]def gV{α:Type}(c:Nat)(Z:Env)(f:α->RS):(R.err c:R α).go Z f=.err c Z:=rfl
@[simp]def qAq{α:Type}(Z:Env)(f:α->RS):(R.qC:R α).go Z f=.qC:=rfl
noncomputable def RS.nx(r:RS)(f:Env->RS):RS:=match r with
 |.ok Z .nx=>f Z
 |r=>r
@[simp]def uH(Z:Env)(f:Env->RS):(RS.ok Z .nx).nx f=f Z:=rfl
@[simp]def q5V(Z:Env)(d:D)(f:Env->RS):(RS.ok Z (.ret d)).nx f=.ok Z (.ret d):=rfl
@[simp]def aB(Z:Env)(c:Nat)(f:Env->RS):(RS.err c Z).nx f=.err c Z:=rfl
noncomputable def RS.turn(r:RS)(f:Env->RS):RS:=match r with
 |.ok Z .nx=>f Z
 |.ok Z .cont=>f Z
 |.ok Z .brk=>.ok Z .nx
 |.ok Z (.ret d)=>.ok Z (.ret d)
 |.ok Z (.Xb d)=>.ok Z (.Xb d)
 |.err c Z=>.err c Z
 |.qC=>.qC
@[simp]def xb(Z:Env)(f:Env->RS):(RS.ok Z .nx).turn f=f Z:=rfl
@[simp]def qBP(Z:Env)(d:D)(f:Env->RS):(RS.ok Z (.ret d)).turn f=.ok Z (.ret d):=rfl
@[simp]def qBO(Z:Env)(c:Nat)(f:Env->RS):(RS.err c Z).turn f=.err c Z:=rfl
noncomputable def Tv:List Nat->List D->Env->Env
 |i::is,d::ds,Z=>Tv is ds (Z.set i (Qa (.val d)))
 |_,_,Z=>Z
noncomputable def jS(body:Env->RS)(k:Nat)(is:List Nat):List D->Env->RS
 |[],Z=>.ok Z .nx
 |d::ds,Z=>(wA k d).go Z λxs=>(body (Tv is xs Z)).turn λρ'=>jS body k is ds ρ'
noncomputable def x6(c:Env->R Bool)(body:Env->RS):Nat->Env->RS
 |0,_=>.qC
 |n+1,Z=>(c Z).go Z λt=>if t then(body Z).turn λρ'=>x6 c body n ρ' else .ok Z .nx
noncomputable def uL(f:D->List D->RS):D->RS
 |.qE [t,.obj fs]=>f t fs
 |_=>.qC
noncomputable def XZ(k:Nat)(d:D)(fs:List D):Option (List D):=if k<fs.length then Qa (fs.set k d)else if k=fs.length/\k<100 then Qa (fs++[d])else Qc
noncomputable def wm(Z:Env):Env:=Qj Z.length Qc
def xk(o:Op2):D->D->R D
 |.int m,.int n=>zT o (.int m) (.int n)
 |_,_=>.qC
section
variable(G:Nat->List D->R D)(sub:Nat->Nat->Bool)
def Ah:List T->Env->R Bool
 |[],_=>.ok Qf
 |[c],Z=>z9 G sub c Z
 |_,_=>.qC
mutual
noncomputable def ex:S->Env->RS
 |.set i a,Z=>(ev G sub a Z).go Z λd=>.ok (Z.set i (Qa (.val d))) .nx
 |.jF i a,Z=>(ev G sub a Z).go Z λd=>.ok (Z.set i (Qa (.own d))) .nx
 |.aug i o a,Z=>(zH Z i).go Z λx=>(ev G sub a Z).go Z λy=>(xk o x y).go Z λz=>.ok (Z.set i (Qa (.val z))) .nx
 |.app i a,Z=>match Z[i]?with
   |some (Qa (.own (.qA xs)))=>(ev G sub a Z).go Z λd=>if xs.length<big then .ok (Z.set i (Qa (.own (.qA (xs++[d]))))) .nx else .qC
   |_=>.qC
 |.pop j i,Z=>match Z[i]?with
   |some (Qa (.own (.qA xs)))=>match xs.getLast? with
     |some d=>.ok ((Z.set i (Qa (.own (.qA xs.dropLast)))).set j (Qa (.val d))) .nx
     |none=>.qC
   |_=>.qC
 |.put i k v,Z=>match Z[i]?with
   |some (Qa (.own (.z7 ks vs)))=>(ev G sub v Z).go Z λy=>(ev G sub k Z).go Z λx=>match x with
     |.int n=>if ks.length<big then(put n y ks vs).go Z λr=>.ok (Z.set i (Qa (.own (.z7 r.1 r.2)))) .nx else .qC
     |_=>.qC
   |_=>.qC
 |.setE i a,Z=>(ev G sub a Z).go Z λd=>match d with
   |.int n=>if 0<=n/\n<=1000 then .ok (Z.set i (Qa (.j6 (Qj n.toNat [])))) .nx else .qC
   |_=>.qC
 |.app2 i k a,Z=>match Z[i]?with
   |some (Qa (.j6 xss))=>(ev G sub k Z).go Z λx=>match x with
     |.int n=>if 0<=n then(match xss[n.toNat]?with
       |some ys=>(ev G sub a Z).go Z λd=>if ys.length<big then .ok (Z.set i (Qa (.j6 (xss.set n.toNat (ys++[d]))))) .nx else .qC
       |none=>.qC)else .qC
     |_=>.qC
   |_=>.qC
 |.expr a,Z=>(ev G sub a Z).go Z λ_=>.ok Z .nx
 |.ifs c a b,Z=>(z9 G sub c Z).go Z λt=>if t then qL a Z else qL b Z
 |.zS k is it body,Z=>(jR G sub it Z).go Z λds=>jS (qL body) k is ds Z
 |.whl c body,Z=>x6 (z9 G sub c) (qL body) 100000 Z
 |.ret a,Z=>(ev G sub a Z).go Z λd=>.ok Z (.ret d)
 |.retO i,Z=>match Z[i]?with
   |some (Qa (.own d))=>.ok (Z.set i Qc) (.ret d)
   |some (Qa (.j6 xss))=>.ok (Z.set i Qc) (.ret (.qA (xss.map .qA)))
   |_=>.qC
 |.brk,Z=>.ok Z .brk
 |.cont,Z=>.ok Z .cont
 |.raise c,Z=>.err c Z
 |.retL a,Z=>(ev G sub a Z).go Z λd=>match d with
   |.qA xs=>.ok Z (.Xb (.qA xs))
   |_=>.qC
 |.memo i k body a,Z=>match qL body Z with
   |.ok ρ' .nx=>match ev G sub a ρ',zH Z i,zH Z k,zH ρ' i,zH ρ' k with
    |.ok v,.ok m1,.ok d1,.ok m2,.ok d2=>if yL m1 d1 v&&yL m2 d2 v then .ok (wm Z) (.ret v)else .qC
    |_,_,_,_,_=>.qC
   |_=>.qC
 |.setA i k a,Z=>(ev G sub a Z).go Z λd=>match Z[i]?with
   |some (Qa (.obj b fs))=>match XZ k d fs with
    |some gs=>.ok (Z.set i (Qa (.obj b gs))) .nx
    |none=>.qC
   |_=>.qC
 |.new i f xs,Z=>(qu G sub xs Z).go Z λds=>(G f (.obj []::ds)).go Z (uL λt fs=>match t with
   |.qI=>.ok (Z.set i (Qa (.obj Qf fs))) .nx
   |_=>.qC)
 |.newX f xs,Z=>(qu G sub xs Z).go Z λds=>(G f (.obj []::ds)).go Z (uL λt fs=>match t with
   |.qI=>.ok Z .nx
   |_=>.qC)
 |.expM i f xs,Z=>match Z[i]?with
   |some (Qa (.obj b fs))=>(qu G sub xs Z).go Z λds=>(G f (.obj fs::ds)).go Z (uL λt gs=>match t with
    |.qI=>.ok (Z.set i (Qa (.obj b gs))) .nx
    |_=>.qC)
   |_=>.qC
 |.ifA c i f xs a body,Z=>(Ah G sub c Z).go Z λt=>if t then qL body Z else match Z[i]?with
   |some (Qa (.obj b0 fs))=>(qu G sub xs Z).go Z λds=>(G f (.obj fs::ds)).go Z (uL λt gs=>(ev G sub a (Z.set i (Qa (.obj b0 gs)))).go (Z.set i (Qa (.obj b0 gs))) λy=>(qj .ne t y).go (Z.set i (Qa (.obj b0 gs))) λz=>(tr z).go (Z.set i (Qa (.obj b0 gs))) λb=>if b then qL body (Z.set i (Qa (.obj b0 gs)))else .ok (Z.set i (Qa (.obj b0 gs))) .nx)
   |_=>.qC
 |.appF i f a,Z=>match Z[i]?with
   |some (Qa (.obj _ fs))=>(G f [.obj fs]).go Z λd=>match d with
    |.qA xs=>(ev G sub a Z).go Z λ_=>if xs.length<big then .ok Z .nx else .qC
    |_=>.qC
   |_=>.qC
 |.tryE body c i j,Z=>match qL body Z with
   |.err e ρ'=>if sub e c then .ok ((ρ'.set j (Qa (.val (.exc e)))).set i Qc) .nx else .qC
   |r=>r
noncomputable def qL:List S->Env->RS
 |[],Z=>.ok Z .nx
 |s::l,Z=>(ex s Z).nx λρ'=>qL l ρ'
end
def Tt(n:Nat)(body:List S)(ds:List D):R D:=match qL G sub body (zV ds++Qj (n-ds.length) Qc)with
 |.ok _ (.Xb d)=>.ok d
 |.err c _=>.err c
 |_=>.qC
noncomputable def ui(d:D)(Z:Env):R D:=match Z[(0:Nat)]?with
 |some (Qa (.obj Qb fs))=>.ok (.qE [d,.obj fs])
 |_=>.qC
def Ts(n:Nat)(body:List S):List D->R D
 |.obj fs::ds=>match qL G sub body (Qa (.obj Qb fs)::zV ds++Qj (n-(ds.length+1)) Qc)with
  |.ok Z .nx=>ui .qI Z
  |.ok Z (.ret d)=>if pl d then ui d Z else .qC
  |_=>.qC
 |_=>.qC
def CI:Option Sl->Bool
 |none=>Qb
 |some (.val d)=>pl d
 |_=>Qf
def chg(k:Nat)(d:D):Env->R Env
 |some (.val (.obj fs))::Z=>if pl d&&zj fs&&Z.all CI then(match XZ k d fs with
  |some a=>.ok (Qa (.obj Qb a)::Z)
  |none=>.qC)else .qC
 |_=>.qC
def yS(n:Nat)(pre:List S)(k:Nat)(e:L)(body:List S)(ds:List D):R D:=match qL G sub pre (zV ds++Qj (n-ds.length) Qc)with
 |.ok Z .nx=>(ev G sub e Z).bind λd=>(chg k d Z).bind λZ=>match qL G sub body Z with
  |.ok Z .nx=>ui .qI Z
  |_=>.qC
 |.err c _=>.err c
 |_=>.qC
def run(n:Nat)(body:List S)(ds:List D):R D:=match qL G sub body (zV ds++Qj (n-ds.length) Qc)with
 |.ok _ .nx=>.ok .qI
 |.ok _ (.ret d)=>.ok d
 |.err c _=>.err c
 |_=>.qC
end
structure Ct where
 N:List Str
 kinds:List (Str×NameKind)
 funs:List Str
 consts:List (Str×D)
 excs:List Str
 muts:List Str
 fresh:List Str
 deep:List Str
 nw:Bool:=Qf
 objs:List Str:=[]
 flds:List Str:=[]
 spec:List Nat:=[]
 mgs:List Nat:=[]
 metP:List (Str×Nat):=[]
 metN:List (Str×Nat):=[]
 metM:List (Str×Nat):=[]
 cls:Str:=QA ""
 ini:Nat:=0
noncomputable def ji(x:Str):List Str->Option Nat
 |[]=>Qc
 |y::l=>if x=y then Qa 0 else(ji x l).map (·+1)
theorem l5{x:Str}:∀{N:List Str}{i:Nat},ji x N=Qa i->N[i]?=Qa x
 |[],i,h=>by cases h
 |y::N,i,h=>by
  unfold ji at h;split at h
  .rename_i c;cases h;subst c;rfl
  .obtain⟨j,e,rfl⟩:=oM h;simpa using l5 e
noncomputable def vD(x:Str):Bool:=!(x==QA "__debug__")&&!(x==QA "__classdict__")
def Ct.xc(C:Ct)(x:Str):Bool:=vD x&&match C.kinds.lookup x with
 |some .local|some .cell|some .free=>Qb
 |_=>Qf
def Ct.loc(C:Ct)(x:Str):Option Nat:=if vD x then(match C.kinds.lookup x with
 |some .local|some .cell=>ji x C.N
 |_=>Qc)else Qc
def Ct.glob(C:Ct)(x:Str):Bool:=vD x&&decide (C.kinds.lookup x=Qa .globalImplicit)
noncomputable def PY:ZQ->Option Op2
 |.Add=>Qa .add|.Sub=>Qa .sub|.Mult=>Qa .mul|.FloorDiv=>Qa .fdiv|.Mod=>Qa .mod|.LShift=>Qa .shl|.RShift=>Qa .shr
 |.BitAnd=>Qa .band|.BitOr=>Qa .bor|.BitXor=>Qa .bxor|_=>Qc
noncomputable def jV:CmpOp->Cm
 |.Eq=>.eq|.NotEq=>.ne|.Lt=>.lt|.LtE=>.le|.Gt=>.gt|.GtE=>.ge|.Is=>.P6|.IsNot=>.C8|.In=>.mem|.NotIn=>.w6
noncomputable def Ik:Const->Option D
 |.none=>Qa .qI|.bool b=>Qa (.bl b)|.int i=>Qa (.int i)|.str x=>if x.length<=1000 then Qa (.str x)else Qc|_=>Qc
noncomputable def FN(x:Str):Str:=⟨#[33]++x.cps⟩
def Ct.inner(C:Ct)(a:List Str)(sc:Scope):Ct:=
 {C with N:=a++C.N.map (λx=>if x∈a then FN x else x),kinds:=sc.names,muts:=C.muts.filter (λx=>!decide (x∈a)),objs:=C.objs.filter (λx=>!decide (x∈a))}
def Ct.CQ(C:Ct)(a:List Str)(sc:Scope):Bool:=
 decide (sc.kind=.function)&&decide ((C.inner a sc).N.Nodup)&&a.all (λx=>decide (sc.names.lookup x=Qa .local))&&
 sc.names.all (λy=>decide (y.2≠.cell)&&(decide (y.2≠.free)||decide (C.kinds.lookup y.1=Qa .cell)||decide (C.kinds.lookup y.1=Qa .free))&&(decide (y.2≠.local)||decide (sc.names.lookup y.1=Qa .local)))&&
 C.N.all (λy=>if y∈a then decide (sc.names.lookup (FN y)=Qc)else decide (sc.names.lookup y≠Qa .local))
noncomputable def Expr.isName:Expr->Option Str
 |.Name x _=>Qa x
 |_=>Qc
def jT{e:Expr}{x:Str}(h:Expr.isName e=Qa x):∃q,e=.Name x q:=by
 unfold Expr.isName at h;split at h
 .cases h;exact#[_,rfl]
 .cases h
noncomputable def pair{α:Type}:List α->Option (α×α)
 |[a,b]=>Qa (a,b)
 |_=>Qc
def A7{α:Type}{l:List α}{r:α×α}(h:pair l=Qa r):l=[r.1,r.2]:=by
 cases l with
 |nil=>cases h
 |cons a l=>cases l with
  |nil=>cases h
  |cons b l=>cases l with
   |nil=>cases h;rfl
   |cons _ _=>cases h
def Af:Expr->Option (Nat×List Str)
 |.Name x _=>Qa (0,[x])
 |.Tuple xs _ _=>(pair xs).bind λab=>(Expr.isName ab.1).bind λx=>(Expr.isName ab.2).map λy=>(2,[x,y])
 |_=>Qc
noncomputable def FO(x:Str):Option Bi:=
 if x=QA "len"then Qa .len else if x=QA "sorted"then Qa .sorted else if x=QA "tuple"then Qa .tuple else if x=QA "list"then Qa .list
 else if x=QA "all"then Qa .all else if x=QA "int"then Qa .toInt else if x=QA "abs"then Qa .abs else if x=QA "min"then Qa .wj else Qc
noncomputable def cO(x:Str):Option Bi:=if x=QA "min"then Qa .min2 else if x=QA "max"then Qa .max2 else Qc
def OZ(C:Ct)(x:Str):Option Bi:=
 if C.glob x then
  if x=QA "tuple"then Qa .isTup else if x=QA "list"then Qa .P5 else if x=QA "int"then Qa .isInt else if x=QA "bool"then Qa .isBool
  else if x=QA "ValueError"then Qa .isVal else(ji x C.excs).map .isExc
 else Qc
noncomputable def OY:Expr->Bool
 |.BoolOp _ _ _=>Qb
 |.UnaryOp .Not _ _=>Qb
 |_=>Qf
noncomputable def jc{α:Type}:List α->Option α
 |[a]=>Qa a
 |_=>Qc
def jk{α:Type}{l:List α}{a:α}(h:jc l=Qa a):l=[a]:=by
 cases l with
 |nil=>cases h
 |cons b r=>cases r with
  |nil=>cases h;rfl
  |cons _ _=>cases h
def lG(l:List ZG):Option Str:=(jc l).bind λk=>if k.arg=Qa (QA "key")then Expr.isName k.value else Qc
def q4H{l:List ZG}{g:Str}(h:lG l=Qa g):∃q p,l=[#[Qa (QA "key"),.Name g q,p]]:=by
 obtain⟨⟨a,e,p⟩,b,h⟩:=oB h;rw[jk b];split at h
 .rename_i c;obtain⟨q,rfl⟩:=jT h;subst c;exact#[q,p,rfl]
 .cases h
noncomputable def sD:Option Expr->Option Nat
 |none=>Qa 0
 |_=>Qc
def vM:Expr->Option (Str×List Expr)
 |.Call f args a _=>if a.isEmpty then(Expr.isName f).map λf=>(f,args)else Qc
 |_=>Qc
def FW{e:Expr}{f:Str}{args:List Expr}(h:vM e=Qa (f,args)):∃q pos,e=.Call (.Name f q) args [] pos:=by
 unfold vM at h;split at h
 .split at h
  .rename_i c;obtain⟨x,a,b⟩:=oM h;obtain⟨q,rfl⟩:=jT a;cases b;cases QW.mp c;exact#[_,_,rfl]
  .cases h
 .cases h
def ip(C:Ct)(e:Expr):Option (List Expr):=(vM e).bind λy=>if y.1=QA "range"/\C.glob y.1/\ji y.1 C.funs=Qc then Qa y.2 else Qc
def DO(e:Expr):Option (Str×Expr):=(vM e).bind λy=>(jc y.2).map λa=>(y.1,a)
def G8{e:Expr}{g:Str}{a:Expr}(h:DO e=Qa (g,a)):∃q pos,e=.Call (.Name g q) [a] [] pos:=by obtain⟨⟨f,as⟩,c,h⟩:=oB h;obtain⟨b,d,h⟩:=oM h;cases h;have z:=jk d;subst z;exact FW c
noncomputable def dM:Expr->Bool
 |.Compare _ ops _ _=>decide (ops.length=2)
 |_=>Qf
noncomputable def ig:Expr->Bool
 |.Dict ks vs _=>ks.isEmpty&&vs.isEmpty
 |_=>Qf
def Iy(l:List Expr):Option (List Expr):=match l with
 |[a,b,e]=>if ig e then Qa [a,b]else Qc
 |_=>Qc
def q1F{l xs:List Expr}(h:Iy l=Qa xs):∃a b q,l=[a,b,.Dict [] [] q]/\xs=[a,b]:=by
 cases l with
 |nil=>cases h
 |cons a l=>cases l with
  |nil=>cases h
  |cons b l=>cases l with
   |nil=>cases h
   |cons e l=>cases l with
    |cons _ _=>cases h
    |nil=>
     unfold Iy at h;dsimp only at h;split at h
     .rename_i hd;cases h;unfold ig at hd;split at hd
      .rw[Qo]at hd;rw[QW.mp hd.1,QW.mp hd.2];exact#[_,_,_,rfl,rfl]
      .cases hd
     .cases h
mutual
noncomputable def cE:Nat->Ct->Expr->Option L
 |0,_,_=>Qc
 |n+1,C,e=>match e with
  |.Constant c _ _=>(Ik c).map .qo
  |.Name x _=>if C.xc x then(if x∈C.muts then Qc else(ji x C.N).map .qS)else if C.glob x then(C.consts.lookup x).map .qo else Qc
  |.BinOp a op b _=>(PY op).bind λo=>(cB n C a).bind λa=>(cB n C b).map (.op o a)
  |.Attribute o f _=>(Expr.isName o).bind λx=>(cB n C o).bind λo=>(ji f C.flds).map (.fld o)
  |.Compare a ops bs _=>if ops.length=2 then(pair ops).bind λq=>(pair bs).bind λy=>(cE n C a).bind λa=>(cE n C y.1).bind λb=>(cE n C y.2).map (.cm2 (jV q.1) (jV q.2) a b)else(jc ops).bind λop=>(jc bs).bind λb=>(cB n C a).bind λa=>(cB n C b).map (.cm (jV op) a)
  |.UnaryOp op a _=>match op with
   |.Not=>(cB n C a).map .not
   |.USub=>(cE n C a).map .neg
   |_=>Qc
  |.BoolOp op xs _=>IX n C op xs
  |.IfExp c a b _=>(cT n C c).bind λc=>(cE n C a).bind λa=>(cE n C b).map (.ite c a)
  |.Tuple xs _ _=>(jI n C xs).map .qE
  |.List xs _=>(jI n C xs).map .qA
  |.Subscript a i _=>match i with
   |.Slice lo hi st _=>(sD st).bind λk=>(cB n C a).bind λa=>(jI n C lo.toList).bind λlo=>(jI n C hi.toList).bind λhi=>if k=0\/(lo.isEmpty/\hi.isEmpty)then Qa (.sl k a lo hi)else Qc
   |i=>(cB n C a).bind λa=>(cE n C i).map (.idx a)
  |.Call g args uc cp=>match g with
   |.Name f _=>if C.glob f then(match ji f C.funs with
    |some i=>if uc.isEmpty/\¬args.isEmpty/\i∉C.spec then(match Iy args with
     |some xs=>(jI n C xs).map (.vM i)
     |none=>(jI n C args).map (.call i))else Qc
    |none=>if uc.isEmpty then E3 n C f args else if f=QA "sorted"then(jc args).bind λa=>(lG uc).bind λg=>if C.glob g then(cB n C a).bind λa=>(ji g C.funs).bind λj=>if j∈C.spec then Qc else Qa (.skey a j)else Qc else Qc)
    else Qc
   |.Attribute o m ap=>if uc.isEmpty/\ap.endLine==cp.line then(match C.metP.lookup m with
    |some j=>if args.length<30 then(Expr.isName o).bind λ_=>(cB n C o).bind λo=>(jI n C args).map (.callM j o)else Qc
    |none=>(cB n C o).bind λo=>if args.isEmpty then(if m=QA "bit_length"then Qa (.bi .bits [o])else Qc)else(jc args).bind λy=>(cE n C y).bind λd=>if Xa d=Qf then Qc else if m=QA "count"then Qa (.bi .count [o,d])else if m=QA "index"then Qa (.bi .index [o,d])else Qc)
    else Qc
   |_=>Qc
  |.ListComp elt gs sc _=>(jc gs).bind λg=>if g.is_async=0 then(Af g.target).bind λt=>(cI n C g.iter).bind λit=>(cE n (C.inner t.2 sc) elt).bind λelt=>(xA n (C.inner t.2 sc) g.ifs).bind λifs=>if C.CQ t.2 sc&&decide (ifs.length<=1)then Qa (.comp t.1 elt it ifs)else Qc else Qc
  |_=>Qc
noncomputable def cB:Nat->Ct->Expr->Option L
 |0,_,_=>Qc
 |n+1,C,e=>match e with
  |.Name x p=>if C.xc x/\x∈C.muts then(ji x C.N).map .bor else cE n C (.Name x p)
  |e=>cE n C e
noncomputable def jI:Nat->Ct->List Expr->Option (List L)
 |0,_,_=>Qc
 |_+1,_,[]=>Qa []
 |n+1,C,e::es=>(cE n C e).bind λa=>(jI n C es).map λl=>a::l
noncomputable def IX:Nat->Ct->BoolOp->List Expr->Option L
 |0,_,_,_=>Qc
 |n+1,C,_,[a]=>cE n C a
 |n+1,C,op,a::b::r=>(cE n C a).bind λa=>(IX n C op (b::r)).map λb=>match op with|.And=>.and a b|.Or=>.or a b
 |_+1,_,_,[]=>Qc
noncomputable def cT:Nat->Ct->Expr->Option T
 |0,_,_=>Qc
 |n+1,C,e=>match e with
  |.BoolOp op xs _=>Ib n C op xs
  |.UnaryOp .Not a _=>(cT n C a).map .not
  |.IfExp _ _ _ _=>Qc
  |e=>if dM e then Qc else(cB n C e).map .e
noncomputable def Ib:Nat->Ct->BoolOp->List Expr->Option T
 |0,_,_,_=>Qc
 |n+1,C,_,[a]=>cT n C a
 |n+1,C,op,a::b::r=>(cT n C a).bind λa=>(Ib n C op (b::r)).map λb=>match op with|.And=>.and a b|.Or=>.or a b
 |_+1,_,_,[]=>Qc
noncomputable def xA:Nat->Ct->List Expr->Option (List T)
 |0,_,_=>Qc
 |_+1,_,[]=>Qa []
 |n+1,C,e::es=>(cT n C e).bind λa=>(xA n C es).map λl=>a::l
noncomputable def cI:Nat->Ct->Expr->Option I
 |0,_,_=>Qc
 |n+1,C,e=>match ip C e with
  |some args=>if args.length=1\/args.length=2 then(jI n C args).map .rng else Qc
  |none=>(cE n C e).map .e
noncomputable def E3:Nat->Ct->Str->List Expr->Option L
 |0,_,_,_=>Qc
 |n+1,C,f,args=>match args with
  |[y]=>match DO y with
   |some (g,a)=>if f=QA "sorted"/\g=QA "set"/\C.glob g/\ji g C.funs=Qc then(cB n C a).map λa=>.bi .vY [a]
    else(FO f).bind λb=>(cB n C y).map λa=>.bi b [a]
   |none=>(FO f).bind λb=>(cB n C y).map λa=>.bi b [a]
  |[a,y]=>if f=QA "isinstance"then(Expr.isName y).bind λc=>(cB n C a).bind λa=>(OZ C c).map λb=>.bi b [a]else(cO f).bind λb=>(jI n C args).map (.bi b)
  |_=>Qc
end
noncomputable def Ct.Sh(C:Ct):Expr->Bool
 |.Name x _=>decide (x∈C.muts)
 |_=>Qf
noncomputable def A0:Expr->Bool
 |.Constant (.str x) _ _=>decide (x.length<=1000)
 |_=>Qf
def Ct.aG(C:Ct):Expr->Bool
 |.FormattedValue e k sp _=>decide (k=-1)&&sp.isNone&&match Expr.isName e with
  |some y=>C.glob y&&match C.consts.lookup y with
   |some (.int a)=>decide (a.natAbs.log2<1920)&&decide ((QA (toString a)).length<=1000)
   |_=>Qf
  |none=>Qf
 |_=>Qf
def Ct.Gz(C:Ct):Expr->Bool
 |.JoinedStr xs _=>match xs with
  |a::b::r=>A0 a&&C.aG b&&(match r with
   |[]=>Qb
   |[c]=>A0 c
   |_=>Qf)
  |_=>Qf
 |e=>A0 e
noncomputable def IJ:Expr->Option (Expr×List Expr×List ZG×WD)
 |.Call f a k p=>Qa (f,a,k,p)
 |_=>Qc
def tU{e:Expr}{r:Expr×List Expr×List ZG×WD}(h:IJ e=Qa r):e=.Call r.1 r.2.1 r.2.2.1 r.2.2.2:=by
 unfold IJ at h;split at h
 .cases h;rfl
 .cases h
def Dp(e:Expr):Option (Expr×Str×List Expr×WD×WD):=(IJ e).bind λc=>if c.2.2.1.isEmpty then(match c.1 with
 |.Attribute o m a=>Qa (o,m,c.2.1,a,c.2.2.2)
 |_=>Qc)else Qc
def Sa{e o:Expr}{m:Str}{as:List Expr}{b c:WD}(h:Dp e=Qa (o,m,as,b,c)):e=.Call (.Attribute o m b) as [] c:=by
 obtain⟨⟨f,a,k,p⟩,d,h⟩:=oB h;rw[tU d];dsimp only at h|-;split at h
 .rename_i g;cases QW.mp g;split at h
  .cases h;rfl
  .cases h
 .cases h
noncomputable def oE:Expr->Bool
 |.List xs _=>xs.isEmpty
 |_=>Qf
def deepOf:Expr->Option (Str×Str×Expr×Scope×WD)
 |.ListComp elt a sc b=>if oE elt then(jc a).bind λg=>if g.ifs.isEmpty/\g.is_async=0 then(Expr.isName g.target).bind λt=>(DO g.iter).map λf=>(t,f.1,f.2,sc,b)else Qc else Qc
 |_=>Qc
def q1E{v:Expr}{t g:Str}{a:Expr}{sc:Scope}{j:WD}(h:deepOf v=Qa (t,g,a,sc,j)):∃p d e i,v=.ListComp (.List [] p) [#[.Name t d,.Call (.Name g e) [a] [] i,[],0]] sc j:=by
 unfold deepOf at h;split at h
 .split at h
  .rename_i c;obtain⟨⟨tg,it,ifs,k⟩,o,h⟩:=oB h;dsimp only at h;split at h
   .rename_i hc;obtain⟨x,m,h⟩:=oB h;obtain⟨⟨f,b⟩,n,h⟩:=oM h;cases h;obtain⟨d,rfl⟩:=jT m;obtain⟨e,i,rfl⟩:=G8 n;obtain⟨l,q⟩:=hc;rw[jk o,QW.mp l,q];unfold oE at c;split at c
    .rw[QW.mp c];exact#[_,_,_,_,rfl]
    .cases c
   .cases h
  .cases h
 .cases h
def E1(C:Ct)(a:Expr->Option L)(x:Str)(b:WD)(i:Nat)(v:Expr):Option S:=(deepOf v).bind λd=>if d.2.1=QA "range"/\C.glob d.2.1/\ji d.2.1 C.funs=Qc/\x∈C.muts/\C.CQ [d.1] d.2.2.2.1/\C.kinds.lookup x=Qa .local/\(b.line==d.2.2.2.2.line)=Qb/\
 (d.2.2.2.1.names.any λy=>y.1==x&&(y.2==.local||y.2==.cell))=Qf then(a d.2.2.1).map (.setE i)else Qc
def E2(C:Ct)(a:Expr->Option L)(b:List Expr->Option (List L))(i:Nat):Expr->Option S
 |.List xs _=>(b xs).map λl=>.jF i (.qA l)
 |.Dict ks ws _=>(jc ks).bind λk=>k.bind λk=>(jc ws).bind λw=>(a k).bind λk=>(a w).map λw=>.jF i (.z7 k w)
 |_=>Qc
def FU(C:Ct)(a:Expr->Option L)(i:Nat)(v:Expr):Option S:=match Dp v with
 |some (o,m,as,ap,cp)=>(match Expr.isName o with
  |some y=>if y∈C.muts/\m=QA "pop"then(if as.isEmpty&&ap.endLine==cp.line&&vD y then(C.loc y).map (.pop i)else Qc)else(a v).map (.set i)
  |none=>(a v).map (.set i))
 |none=>match Expr.isName v with
  |some y=>if y∈C.muts then Qc else(a v).map (.set i)
  |none=>(a v).map (.set i)
def IW(C:Ct)(a:List Expr->Option (List L))(i:Nat)(v:Expr):Option S:=(vM v).bind λy=>if y.1=C.cls/\C.glob y.1/\¬y.2.isEmpty then(a y.2).map (.new i C.ini)else Qc
def E0(C:Ct)(a:Expr->Option L)(b:List Expr->Option (List L))(c:List Expr)(v:Expr):Option S:=(jc c).bind λt=>match t with
 |.Name x d=>(C.loc x).bind λi=>if x∈C.objs then IW C b i v else if x∈C.deep then E1 C a x d i v else if x∈C.muts then E2 C a b i v else FU C a i v
 |.Subscript o k _=>(Expr.isName o).bind λx=>if x∈C.muts/\vD x then(C.loc x).bind λi=>(a k).bind λk=>(a v).map (.put i k)else Qc
 |.Attribute o f _=>(Expr.isName o).bind λx=>if x∈C.objs/\vD x then(C.loc x).bind λi=>(ji f C.flds).bind λk=>(a v).map (.setA i k)else Qc
 |_=>Qc
def q0m(C:Ct)(a:Expr->Option L)(t:Expr)(b:ZQ)(v:Expr):Option S:=(Expr.isName t).bind λx=>if x∈C.muts then Qc else(C.loc x).bind λi=>(PY b).bind λo=>(a v).map (.aug i o)
def E4(C:Ct)(b:Expr->Option L)(m:Str)(as:List Expr)(c d:WD):Expr->Option S
 |.Name x _=>if x∈C.muts/\(c.endLine==d.line)=Qb/\vD x/\m=QA "append"then(jc as).bind λa=>(C.loc x).bind λi=>(b a).map (.app i)else Qc
 |.Subscript o k _=>(Expr.isName o).bind λx=>if(c.endLine==d.line)=Qb/\vD x/\x∈C.deep/\x∈C.muts/\m=QA "append"then(jc as).bind λa=>(C.loc x).bind λi=>(b k).bind λk=>(b a).map (.app2 i k)else Qc
 |_=>Qc
def Ia(C:Ct)(c:List Expr->Option (List L))(x m:Str)(as:List Expr)(a b:WD):Option S:=if(a.endLine==b.line)=Qb/\vD x/\¬as.isEmpty/\as.length<30 then(C.metM.lookup m).bind λj=>(C.loc x).bind λi=>(c as).map (.expM i j)else Qc
def d7(C:Ct)(d:Expr->Option L)(m:Str)(as:List Expr)(b c:WD)(o:Expr):Option S:=(Dp o).bind λy=>(Expr.isName y.1).bind λx=>if x∈C.objs/\m=QA "append"/\y.2.2.1.isEmpty/\(b.endLine==c.line)=Qb/\(y.2.2.2.1.endLine==y.2.2.2.2.line)=Qb/\vD x then(jc as).bind λa=>(C.metN.lookup y.2.1).bind λj=>(C.loc x).bind λi=>(d a).map (.appF i j)else Qc
noncomputable def ie:Expr->Bool
 |.ListComp _ _ _ _=>Qb
 |_=>Qf
def cExp(C:Ct)(a:Expr->Option L)(b:List Expr->Option (List L))(e:Expr):Option S:=match Dp e with
 |some (o,m,as,ap,cp)=>(match Expr.isName o with
  |some x=>if x∈C.objs then Ia C b x m as ap cp else E4 C a m as ap cp o
  |none=>match Dp o with
   |some _=>d7 C a m as ap cp o
   |none=>E4 C a m as ap cp o)
 |none=>if ie e then Qc else match vM e with
  |some y=>if y.1=C.cls/\C.glob y.1/\¬y.2.isEmpty then(b y.2).map (.newX C.ini)else(a e).map .expr
  |none=>(a e).map .expr
def dB(C:Ct)(a:Expr->Option L):Option Expr->Option S
 |some e=>if C.nw then(DO e).bind λy=>(if y.1=QA "list"/\C.glob y.1/\ji y.1 C.funs=Qc then(a y.2).map .retL else Qc)else(match Expr.isName e with
  |some x=>if x∈C.muts then(C.loc x).map .retO else(a e).map .ret
  |none=>(a e).map .ret)
 |none=>Qc
def q0p(C:Ct)(a b:Option Expr):Option S:=a.bind λe=>if b.isNone then(DO e).bind λc=>if C.glob c.1/\C.Gz c.2 then(ji c.1 C.excs).map .raise else Qc else Qc
def Xd:Stmt->Option (Str×Str)
 |.Assign a v _=>(jc a).bind λt=>(Expr.isName t).bind λy=>(Expr.isName v).map λx=>(y,x)
 |_=>Qc
def q8b{s:Stmt}{r:Str×Str}(h:Xd s=Qa r):∃q a pos,s=.Assign [.Name r.1 q] (.Name r.2 a) pos:=by
 unfold Xd at h;split at h
 .obtain⟨t,b,h⟩:=oB h;obtain⟨y,c,h⟩:=oB h;obtain⟨x,d,rfl⟩:=oM h;obtain⟨q,rfl⟩:=jT c;obtain⟨a,rfl⟩:=jT d;rw[jk b];exact#[_,_,_,rfl]
 .cases h
def q0o(C:Ct):ExceptHandler->Option (Nat×Nat×Nat)
 |.ExceptHandler ty nm b _=>ty.bind λty=>(Expr.isName ty).bind λc=>nm.bind λx=>(jc b).bind λst=>(Xd st).bind λs=>if C.glob c/\vD x/\x∉C.muts/\s.1∉C.muts/\s.2=x/\x≠s.1/\C.kinds.lookup x=Qa .local then(ji c C.excs).bind λc=>(C.loc x).bind λi=>(C.loc s.1).map λj=>(c,i,j)else Qc
def Ic(C:Ct)(a:List Stmt->Option (List S))(body:List Stmt)(hs:List ExceptHandler)(c fb:List Stmt):Option S:=if c.isEmpty/\fb.isEmpty then(jc hs).bind λh=>(q0o C h).bind λr=>(a body).map λb=>.tryE b r.1 r.2.1 r.2.2 else Qc
def gx:List Expr->Option (Str×List Expr)
 |e::r=>(Expr.isName e).map λx=>(x,r)
 |[]=>Qc
def q32{l:List Expr}{r:Str×List Expr}(h:gx l=Qa r):∃q,l=.Name r.1 q::r.2:=by
 cases l with
 |nil=>cases h
 |cons e l=>
  obtain⟨x,a,rfl⟩:=oM h;obtain⟨q,rfl⟩:=jT a;exact#[q,rfl]
def IH(C:Ct):Expr->Option (Nat×Nat×List Expr×Expr)
 |.Compare a ops bs _=>(jc ops).bind λo=>(jc bs).bind λb=>(vM a).bind λy=>(ji y.1 C.funs).bind λj=>(gx y.2).bind λz=>if o=.NotEq/\j∈C.mgs/\C.glob y.1/\z.1∈C.objs/\vD z.1/\¬z.2.isEmpty then(C.loc z.1).map λi=>(i,j,z.2,b)else Qc
 |_=>Qc
def bx{C:Ct}{e b:Expr}{i j:Nat}{xs:List Expr}(h:IH C e=Qa (i,j,xs,b)):∃f x d g k l,e=.Compare (.Call (.Name f d) (.Name x g::xs) [] k) [.NotEq] [b] l/\C.funs[j]?=Qa f/\j∈C.mgs/\C.glob f=Qb/\x∈C.objs/\vD x=Qb/\C.loc x=Qa i/\xs≠[]:=by
 cases e<;>(try cases h)
 rename_i a ops bs l;obtain⟨o,u,h⟩:=oB h;obtain⟨B,v,h⟩:=oB h;obtain⟨⟨f,as⟩,w,h⟩:=oB h;obtain⟨E,y,h⟩:=oB h;obtain⟨⟨x,r⟩,c,h⟩:=oB h;split at h
 .rename_i hc;obtain⟨m,n,p,q,s,t⟩:=hc;obtain⟨D,A,h⟩:=oM h;cases h;obtain⟨g,c⟩:=q32 c;obtain⟨d,k,rfl⟩:=FW w;dsimp only at c;rw[jk u,jk v,c,m];exact#[f,x,d,g,k,l,rfl,l5 y,n,p,q,s,A,λz=>t (by rw[z];rfl)]
 .cases h
def orOf:Expr->Option (Expr×Expr)
 |.BoolOp a xs _=>if a=.Or then pair xs else Qc
 |_=>Qc
def q6e{e:Expr}{r:Expr×Expr}(h:orOf e=Qa r):∃q,e=.BoolOp .Or [r.1,r.2] q:=by
 cases e<;>(try cases h)
 rename_i b xs q;unfold orOf at h;dsimp only at h;split at h
 .rename_i a;rw[A7 h,a];exact#[q,rfl]
 .cases h
def IZ(C:Ct)(c:Expr):Option (List Expr×Nat×Nat×List Expr×Expr):=match IH C c with
 |some r=>Qa ([],r)
 |none=>(orOf c).bind λq=>(IH C q.2).map λr=>([q.1],r)
def bE:Expr->Option (Str×Str)
 |.Subscript o k _=>(Expr.isName o).bind λt=>(Expr.isName k).map λk=>(t,k)
 |_=>Qc
def sG{e:Expr}{r:Str×Str}(h:bE e=Qa r):∃a b f,e=.Subscript (.Name r.1 a) (.Name r.2 b) f:=by
 cases e<;>(try cases h)
 obtain⟨t,c,h⟩:=oB h;obtain⟨k,d,rfl⟩:=oM h;obtain⟨a,rfl⟩:=jT c;obtain⟨b,rfl⟩:=jT d;exact#[_,_,_,rfl]
def oG:Expr->Option (Str×Str)
 |.Compare a ops bs _=>(jc ops).bind λo=>(jc bs).bind λb=>if o=.NotIn then(Expr.isName b).bind λt=>(Expr.isName a).map λk=>(t,k)else Qc
 |_=>Qc
def q5G{e:Expr}{r:Str×Str}(h:oG e=Qa r):∃a c l,e=.Compare (.Name r.2 a) [.NotIn] [.Name r.1 c] l:=by
 cases e<;>(try cases h)
 obtain⟨o,d,h⟩:=oB h;obtain⟨b,f,h⟩:=oB h;split at h
 .rename_i j;obtain⟨t,g,h⟩:=oB h;obtain⟨k,i,rfl⟩:=oM h;obtain⟨a,rfl⟩:=jT g;obtain⟨c,rfl⟩:=jT i;rw[jk d,jk f,j];exact#[_,_,_,rfl]
 .cases h
def cC:Stmt->Option (Str×Str×Expr)
 |.Assign a v _=>(jc a).bind λt=>(bE t).map λr=>(r.1,r.2,v)
 |_=>Qc
def tW{s:Stmt}{r:Str×Str×Expr}(h:cC s=Qa r):∃a b c f,s=.Assign [.Subscript (.Name r.1 a) (.Name r.2.1 b) c] r.2.2 f:=by
 cases s<;>(try cases h)
 obtain⟨t,d,h⟩:=oB h;obtain⟨r,e,rfl⟩:=oM h;obtain⟨a,b,c,rfl⟩:=sG e;rw[jk d];exact#[_,_,_,_,rfl]
def retS:List Stmt->Option (Str×Str)
 |[.Return e _]=>e.bind bE
 |_=>Qc
def q7T{l:List Stmt}{r:Str×Str}(h:retS l=Qa r):∃a b c f,l=[.Return (Qa (.Subscript (.Name r.1 a) (.Name r.2 b) c)) f]:=by
 unfold retS at h;split at h
 .obtain⟨e,d,h⟩:=oB h;obtain⟨a,b,c,rfl⟩:=sG h;rw[d];exact#[_,_,_,_,rfl]
 .cases h
noncomputable def GR:List Stmt->Option (List Stmt×Stmt)
 |[]=>Qc
 |s::l=>if l.isEmpty then Qa ([],s)else(GR l).map λr=>(s::r.1,r.2)
theorem lu:∀{l:List Stmt}{r:List Stmt×Stmt},GR l=Qa r->l=r.1++[r.2]
 |[],r,h=>by cases h
 |s::l,r,h=>by
  unfold GR at h;split at h
  .rename_i hl;cases h;rw[QW.mp hl];rfl
  .obtain⟨b,a,rfl⟩:=oM h;rw[lu a];rfl
noncomputable def OP:Stmt->Option (Expr×List Stmt)
 |.If c b o _=>if o.isEmpty then Qa (c,b)else Qc
 |_=>Qc
def q3Q{s:Stmt}{r:Expr×List Stmt}(h:OP s=Qa r):∃q,s=.If r.1 r.2 [] q:=by
 cases s<;>(try cases h)
 rename_i c b o q;unfold OP at h;dsimp only at h;split at h
 .rename_i a;cases h;rw[QW.mp a];exact#[q,rfl]
 .cases h
def nV(C:Ct)(s:Stmt)(r:List Stmt):Option (Nat×Nat×List Stmt×Expr):=(retS r).bind λa=>(OP s).bind λb=>(oG b.1).bind λc=>(GR b.2).bind λbl=>(cC bl.2).bind λy=>
 if c=a/\(y.1,y.2.1)=a/\a.1∉C.muts/\a.2∉C.muts/\vD a.1/\vD a.2 then(C.loc a.1).bind λi=>(C.loc a.2).map λk=>(i,k,bl.1,y.2.2)else Qc
mutual
noncomputable def cS:Nat->Ct->Stmt->Option S
 |0,_,_=>Qc
 |n+1,C,s=>match s with
  |.Assign ts v _=>E0 C (cE n C) (jI n C) ts v
  |.AugAssign t op v _=>q0m C (cE n C) t op v
  |.Expr e _=>cExp C (cE n C) (jI n C) e
  |.If c a b _=>match(if b.isEmpty then IZ C c else Qc)with
   |some (cs,i,j,xs,e)=>(xA n C cs).bind λcs=>(jI n C xs).bind λxs=>(cE n C e).bind λe=>(cSs n C a).map (.ifA cs i j xs e)
   |none=>(cT n C c).bind λc=>(cSs n C a).bind λa=>(cSs n C b).map (.ifs c a)
  |.For tg it body oe _=>if oe.isEmpty/\¬C.Sh it then(Expr.isName tg).bind λx=>(cI n C it).bind λit=>(cSs n C body).bind λbody=>(C.loc x).bind λi=>if x∈C.muts then Qc else Qa (.zS 0 [i] it body)else Qc
  |.While c body oe _=>if oe.isEmpty then(cT n C c).bind λc=>(cSs n C body).map (.whl c)else Qc
  |.Return r _=>dB C (cE n C) r
  |.Raise a b _=>q0p C a b
  |.Try body hs oe fb _=>Ic C (cSs n C) body hs oe fb
  |_=>Qc
noncomputable def cSs:Nat->Ct->List Stmt->Option (List S)
 |0,_,_=>Qc
 |_+1,_,[]=>Qa []
 |n+1,C,e::es=>match nV C e es with
  |some (i,k,b,v)=>(cSs n C b).bind λb=>(cE n C v).map λv=>[.memo i k b v]
  |none=>(cS n C e).bind λa=>(cSs n C es).map λl=>a::l
end
def nR{α:Type}{a:α}{b:Prop}(h:R.qC=.ok a):b:=nomatch h
def zI{d:D}{f:Int->RS}(h:(match d with|.int n=>f n|_=>.qC)≠.qC):∃n,d=.int n:=by cases d<;>first|exact#[_,rfl]|cases h rfl
def zL{d:D}{f:List D->RS}(h:(match d with|.qA n=>f n|_=>.qC)≠.qC):∃n,d=.qA n:=by cases d<;>first|exact#[_,rfl]|cases h rfl
def zJ{d:D}{f:Int->R D}(h:intD f d≠.qC):∃n,d=.int n:=by cases d<;>first|exact#[_,rfl]|cases h rfl
abbrev nD(x:Str):Prop:=(x==QA "__debug__")=Qf
abbrev nC(x:Str):Prop:=(x==QA "__classdict__")=Qf
end Ev
namespace Ev
open PySem
def D.ind{P:D->Prop}{Q:List D->Prop}(g:P .qI)(hb:∀b,P (.bl b))(hi:∀i,P (.int i))(hs:∀x,P (.str x))(j:∀l,Q l->P (.qE l))(hl:∀l,Q l->P (.qA l))(hd:∀k v,Q k->Q v->P (.z7 k v))(e:∀c,P (.exc c))(h:∀l,Q l->P (.obj l))(f:∀c l,Q l->P (.mem c l))
  (m:Q []) (n:∀a l,P a->Q l->Q (a::l)):(∀d,P d)/\∀l,Q l:=
 #[λd=>D.rec g hb hi hs j hl hd e h f m n d,λl=>D.rec_1 g hb hi hs j hl hd e h f m n l]
def we{a:D}{l:List D}:zO (a::l)=Qb↔qJ a=Qb/\zO l=Qb:=by simp[zO]
def q1T:(∀a b:D,qJ a=Qb->qJ b=Qb->(qM a b=Qb↔a=b))/\(∀a b:List D,zO a=Qb->zO b=Qb->(zf a b=Qb↔a=b)):=by
 have:=D.ind (P:=λa=>∀b,qJ a=Qb->qJ b=Qb->(qM a b=Qb↔a=b)) (Q:=λa=>∀b,zO a=Qb->zO b=Qb->(zf a b=Qb↔a=b))
  (λb h=>by simp[qJ]at h) (λ_ b h=>by simp[qJ]at h) (λi b d e=>by cases b<;>simp_all [qJ,qM]) (λ_ b h=>by simp[qJ]at h)
  (λl j b d e=>by cases b<;>simp_all [qJ,qM])
  (λ_ _ b h=>by simp[qJ]at h) (λ_ _ _ _ b h=>by simp[qJ]at h) (λ_ b h=>by simp[qJ]at h) (λ_ _ b h=>by simp[qJ]at h) (λ_ _ _ b h=>by simp[qJ]at h)
  (λb d e=>by cases b<;>simp[zf])
  (λa l f g b d e=>by
   cases b with
   |nil=>simp[zf]
   |cons c m=>
    rw[we]at d e;simp only[zf,Qo,Z3];rw[f c d.1 e.1,g m d.2 e.2])
 exact this
def k9{a b:D}(c:qJ a=Qb)(hb:qJ b=Qb):qM a b=Qb↔a=b:=q1T.1 a b c hb
def q4h:(∀a:D,qJ a=Qb->qm a a=Qf)/\(∀a:List D,zO a=Qb->zD a a=Qf):=by
 refine D.ind (P:=λa=>qJ a=Qb->qm a a=Qf) (Q:=λa=>zO a=Qb->zD a a=Qf)
  (λh=>by simp[qJ]at h) (λ_ h=>by simp[qJ]at h) (λi h=>by simp[qm]) (λ_ h=>by simp[qJ]at h) (λl b h=>by simpa[qm]using b (by simpa[qJ]using h))
  (λ_ _ h=>by simp[qJ]at h) (λ_ _ _ _ h=>by simp[qJ]at h) (λ_ h=>by simp[qJ]at h) (λ_ _ h=>by simp[qJ]at h) (λ_ _ _ h=>by simp[qJ]at h) (λ_=>by simp[zD]) (λa l d c h=>?_)
 rw[we]at h;rw[zD,if_pos ((k9 h.1 h.1).mpr rfl)];exact c h.2
def S7{a:D}(h:qJ a=Qb):qm a a=Qf:=q4h.1 a h
def q4j:(∀a b:D,qJ a=Qb->qJ b=Qb->zm a b=Qb->qm a b=Qb\/a=b\/qm b a=Qb)/\(∀a b:List D,zO a=Qb->zO b=Qb->jw a b=Qb->zD a b=Qb\/a=b\/zD b a=Qb):=by
 refine D.ind (P:=λa=>∀b,qJ a=Qb->qJ b=Qb->zm a b=Qb->qm a b=Qb\/a=b\/qm b a=Qb) (Q:=λa=>∀b,zO a=Qb->zO b=Qb->jw a b=Qb->zD a b=Qb\/a=b\/zD b a=Qb)
  (λb h=>by simp[qJ]at h) (λ_ b h=>by simp[qJ]at h) (λi b f g c=>?_) (λ_ b h=>by simp[qJ]at h) (λl p b f g c=>?_)
  (λ_ _ b h=>by simp[qJ]at h) (λ_ _ _ _ b h=>by simp[qJ]at h) (λ_ b h=>by simp[qJ]at h) (λ_ _ b h=>by simp[qJ]at h) (λ_ _ _ b h=>by simp[qJ]at h) (λb f g c=>by cases b<;>simp[zD]) (λa l n o b f g c=>?_)
 .cases b<;>simp_all [qJ,zm,qm];lia
 .cases b<;>simp_all [qJ,zm,qm]
 .cases b with
  |nil=>simp[zD]
  |cons d m=>
   rw[we]at f g;simp only[jw]at c
   by_cases e:a=d
   .subst e;have j:=(k9 f.1 f.1).mpr rfl;rw[zD,zD,if_pos j,if_pos j];rw[if_pos j]at c;rcases o m f.2 g.2 c with q|q|q
    .exact .inl q
    .exact .inr (.inl (by rw[q]))
    .exact .inr (.inr q)
   .have k:¬qM a d=Qb:=λq=>e ((k9 f.1 g.1).mp q);rw[zD,zD,if_neg k,if_neg (λq=>e ((k9 g.1 f.1).mp q).symm)];rw[if_neg k]at c;rcases n d f.1 g.1 c with q|q|q
    .exact .inl q
    .exact absurd q e
    .exact .inr (.inr q)
def S9{a b:D}(d:qJ a=Qb)(hb:qJ b=Qb)(c:zm a b=Qb):qm a b=Qb\/a=b\/qm b a=Qb:=q4j.1 a b d hb c
def q4i:(∀a b c:D,qJ a=Qb->qJ b=Qb->qJ c=Qb->qm a b=Qb->qm b c=Qb->qm a c=Qb)/\(∀a b c:List D,zO a=Qb->zO b=Qb->zO c=Qb->zD a b=Qb->zD b c=Qb->zD a c=Qb):=by
 refine D.ind (P:=λa=>∀b c,qJ a=Qb->qJ b=Qb->qJ c=Qb->qm a b=Qb->qm b c=Qb->qm a c=Qb) (Q:=λa=>∀b c,zO a=Qb->zO b=Qb->zO c=Qb->zD a b=Qb->zD b c=Qb->zD a c=Qb)
  (λb c h=>by simp[qJ]at h) (λ_ b c h=>by simp[qJ]at h) (λi b c f o g p q=>?_) (λ_ b c h=>by simp[qJ]at h) (λl x b c f o g p q=>?_)
  (λ_ _ b c h=>by simp[qJ]at h) (λ_ _ _ _ b c h=>by simp[qJ]at h) (λ_ b c h=>by simp[qJ]at h) (λ_ _ b c h=>by simp[qJ]at h) (λ_ _ _ b c h=>by simp[qJ]at h) (λb c f o g p q=>?_) (λa l w y b c f o g p q=>?_)
 .cases b with
  |int j=>cases c with
   |int k=>
    have A:i<j:=(by simpa[qm]using p);have B:j<k:=(by simpa[qm]using q);have:i<k:=∅;simpa[qm]using this
   |_=>cases q
  |_=>cases p
 .cases b with
  |qE j=>cases c with
   |qE k=>exact x j k (by simpa[qJ]using f) (by simpa[qJ]using o) (by simpa[qJ]using g) p q
   |_=>cases q
  |_=>cases p
 .cases b with
  |nil=>simp[zD]at p
  |cons d m=>cases c with
   |nil=>simp[zD]at q
   |cons e n=>simp[zD]
 .cases b with
  |nil=>simp[zD]at p
  |cons d m=>cases c with
   |nil=>simp[zD]at q
   |cons e n=>
    rw[we]at f o g;rw[zD]at p q|-
    by_cases t:a=d
    .subst t;rw[if_pos ((k9 f.1 f.1).mpr rfl)]at p
     by_cases s:a=e
     .subst s;rw[if_pos ((k9 f.1 f.1).mpr rfl)]at q|-;exact y m n f.2 o.2 g.2 p q
     .
      rw[if_neg (λz=>s ((k9 f.1 g.1).mp z))]at q|-;exact q
    .have v:¬qM a d=Qb:=λz=>t ((k9 f.1 o.1).mp z);rw[if_neg v]at p
     by_cases s:d=e
     .subst s;rw[if_neg v];exact p
     .
      rw[if_neg (λz=>s ((k9 o.1 g.1).mp z))]at q;have r:=w d e f.1 o.1 g.1 p q
      by_cases u:a=e
      .subst u;rw[S7 f.1]at r;cases r
      .
       rw[if_neg (λz=>u ((k9 f.1 g.1).mp z))];exact r
def S8{a b c:D}(d:qJ a=Qb)(hb:qJ b=Qb)(hc:qJ c=Qb)(p:qm a b=Qb)(q:qm b c=Qb):qm a c=Qb:=q4i.1 a b c d hb hc p q
theorem OV(x:D):∀l:List D,(ins x l).Perm (x::l)
 |[]=>.refl _
 |y::l=>by
  unfold ins;split
  .exact .refl _
  .exact ((OV x l).cons y).trans (.swap x y l)
theorem u9:∀l:List D,(jy l).Perm l
 |[]=>.refl _
 |x::l=>(OV x (jy l)).trans ((u9 l).cons x)
def kz{l:List D}:zO l=Qb↔∀d∈l,qJ d=Qb:=by
 induction l with
 |nil=>simp[zO]
 |cons a l b=>rw[we,b];simp
def qy(l:List D):Prop:=l.Pairwise λa b=>qm b a=Qf
theorem iZ{x:D}:∀{l:List D},qJ x=Qb->(∀d∈l,qJ d=Qb)->qy l->qy (ins x l)
 |[],_,_,_=>by unfold ins;exact List.pairwise_singleton _ _
 |y::l,hx,hl,s=>by
  have a:=QT.mp s;unfold ins;split
  .rename_i c;refine QT.mpr #[λd hd=>?_,s];rcases Ql.mp hd with rfl|hd
   .cases q:qm d x with
    |false=>rfl
    |true=>rw[<-S7 hx];exact(S8 hx (hl d Qg) hx c q).symm▸rfl
   .cases q:qm d x with
    |false=>rfl
    |true=>
     have r:=S8 (hl d (Qd _ hd)) hx (hl y Qg) q c;rw[a.1 d hd]at r;cases r
  .rename_i c;refine QT.mpr #[λd hd=>?_,iZ hx (λd hd=>hl d (Qd _ hd)) a.2];rcases Ql.mp ((OV x l).mem_iff.mp hd)with rfl|hd
   .simpa using c
   .exact a.1 d hd
theorem P7:∀{l:List D},(∀d∈l,qJ d=Qb)->qy (jy l)
 |[],_=>Ut
 |x::l,h=>iZ (h x Qg) (λd hd=>h d (Qd _ ((u9 l).mem_iff.mp hd))) (P7 λd hd=>h d (Qd _ hd))
theorem AZ:∀{l m:List D},l.Perm m->(∀d∈l,qJ d=Qb)->(∀a∈l,∀b∈l,zm a b=Qb)->qy l->qy m->l=m
 |[],m,p,_,_,_,_=>(List.Perm.nil_eq p)
 |a::l,[],p,_,_,_,_=>absurd p.length_eq (by simp)
 |a::l,b::m,p,h,c,s1,s2=>by
  have g:=QT.mp s1;have f:=QT.mp s2;have hb:=p.mem_iff.mpr Qg;have e:a=b:=by
   rcases Ql.mp hb with q|q
   .exact q.symm
   .rcases Ql.mp (p.mem_iff.mp Qg)with r|r
    .exact r
    .
     rcases S9 (h a Qg) (h b hb) (c a Qg b hb)with t|t|t
     .rw[(f.1 a r)]at t;cases t
     .exact t
     .rw[(g.1 b q)]at t;cases t
  subst e;rw[AZ p.cons_inv (λd hd=>h d (Qd _ hd)) (λx i y j=>c x (Qd _ i) y (Qd _ j)) g.2 f.2]
end Ev
namespace Ev
open PySem
section
variable{G:Nat->List D->R D}{sub:Nat->Nat->Bool}
@[simp]def qQ(i:Nat)(Z:Env):ev G sub (.qS i) Z=zH Z i:=rfl
@[simp]def T3(i:Nat)(Z:Env):ev G sub (.bor i) Z=X9 Z i:=rfl
@[simp]def qt(d:D)(Z:Env):ev G sub (.qo d) Z=.ok d:=rfl
@[simp]def jJ(o:Op2)(a b:L)(Z:Env):ev G sub (.op o a b) Z=(ev G sub a Z).bind λx=>(ev G sub b Z).bind λy=>zT o x y:=rfl
@[simp]def RU(o:Cm)(a b:L)(Z:Env):ev G sub (.cm o a b) Z=(ev G sub a Z).bind λx=>(ev G sub b Z).bind λy=>qj o x y:=rfl
@[simp]theorem q1Z(a:L)(Z:Env):ev G sub (.neg a) Z=(ev G sub a Z).bind λx=>match x with
   |.int i=>.ok (.int (-i))
   |_=>.qC:=rfl
@[simp]def q1b(a:L)(Z:Env):ev G sub (.not a) Z=(ev G sub a Z).bind λx=>(tr x).bind λb=>.ok (.bl (!b)):=rfl
@[simp]theorem fT(a b:L)(Z:Env):ev G sub (.and a b) Z=(ev G sub a Z).bind λx=>match x with
   |.bl Qb=>ev G sub b Z
   |.bl Qf=>.ok (.bl Qf)
   |_=>.qC:=rfl
@[simp]theorem q1c(a b:L)(Z:Env):ev G sub (.or a b) Z=(ev G sub a Z).bind λx=>match x with
   |.bl Qb=>.ok (.bl Qb)
   |.bl Qf=>ev G sub b Z
   |_=>.qC:=rfl
@[simp]def RV(c:T)(a b:L)(Z:Env):ev G sub (.ite c a b) Z=(z9 G sub c Z).bind λt=>if t then ev G sub a Z else ev G sub b Z:=rfl
@[simp]def LL(xs:List L)(Z:Env):ev G sub (.qE xs) Z=(qu G sub xs Z).bind λds=>if ds.length<=big then .ok (.qE ds)else .qC:=rfl
@[simp]def Fs(xs:List L)(Z:Env):ev G sub (.qA xs) Z=(qu G sub xs Z).bind λds=>if ds.length<=big then .ok (.qA ds)else .qC:=rfl
@[simp]theorem q1Y(k v:L)(Z:Env):ev G sub (.z7 k v) Z=(ev G sub k Z).bind λx=>(ev G sub v Z).bind λy=>match x with
   |.int i=>.ok (.z7 [.int i] [y])
   |_=>.qC:=rfl
@[simp]def wZ(a i:L)(Z:Env):ev G sub (.idx a i) Z=(ev G sub a Z).bind λx=>(ev G sub i Z).bind λy=>kE x y:=rfl
@[simp]def LK(st:Nat)(a:L)(lo hi:List L)(Z:Env):ev G sub (.sl st a lo hi) Z=(ev G sub a Z).bind λx=>(qu G sub lo Z).bind λl=>(qu G sub hi Z).bind λh=>(xS l).bind λl=>(xS h).bind λh=>Tw st l h x:=rfl
@[simp]def T4(f:Nat)(xs:List L)(Z:Env):ev G sub (.call f xs) Z=(qu G sub xs Z).bind λds=>G f ds:=rfl
@[simp]def kI(b:Bi)(xs:List L)(Z:Env):ev G sub (.bi b xs) Z=(qu G sub xs Z).bind λds=>zF sub b ds:=rfl
@[simp]def vO(k:Nat)(elt:L)(it:I)(cond:List T)(Z:Env):ev G sub (.comp k elt it cond) Z=(jR G sub it Z).bind λds=>(j7 (ev G sub elt) (jO G sub cond) k Z ds).uf.bind λes=>if es.length<=big then .ok (.qA es)else .qC:=rfl
@[simp]def fX(a:L)(f:Nat)(Z:Env):ev G sub (.skey a f) Z=(ev G sub a Z).bind λd=>(jC d).bind λxs=>(mapR (λx=>G f [x]) xs).uf.bind λks=>
   if ko ks then .ok (.qA ((km (ks.zip xs)).map (·.2)))else .qC:=rfl
@[simp]def fV(a:L)(k:Nat)(Z:Env):ev G sub (.fld a k) Z=(ev G sub a Z).bind (C9 (T7 k)):=rfl
@[simp]def fU(f:Nat)(a:L)(xs:List L)(Z:Env):ev G sub (.callM f a xs) Z=(ev G sub a Z).bind (C9 λfs=>(qu G sub xs Z).bind λds=>(G f (.obj fs::ds)).bind wt):=rfl
@[simp]def ET(f:Nat)(xs:List L)(Z:Env):ev G sub (.vM f xs) Z=(qu G sub xs Z).bind λds=>(yR ds).bind λm=>G f (ds++[m]):=rfl
@[simp]def zy(o q:Cm)(a b c:L)(Z:Env):ev G sub (.cm2 o q a b c) Z=(ev G sub a Z).bind λx=>(ev G sub b Z).bind λy=>(qj o x y).bind λt=>(tr t).bind λt=>if t then(ev G sub c Z).bind λz=>qj q y z else .ok (.bl Qf):=rfl
@[simp]def jg(Z:Env):qu G sub [] Z=.ok []:=rfl
@[simp]def jK(a:L)(l:List L)(Z:Env):qu G sub (a::l) Z=(ev G sub a Z).bind λx=>(qu G sub l Z).bind λxs=>.ok (x::xs):=rfl
@[simp]def vh(xs:List L)(Z:Env):jR G sub (.rng xs) Z=(qu G sub xs Z).bind xU:=rfl
@[simp]def T6(a:L)(Z:Env):jR G sub (.e a) Z=(ev G sub a Z).bind jC:=rfl
@[simp]def Po(a b:T)(Z:Env):z9 G sub (.and a b) Z=(z9 G sub a Z).bind λt=>if t then z9 G sub b Z else .ok Qf:=rfl
@[simp]def Ag(a b:T)(Z:Env):z9 G sub (.or a b) Z=(z9 G sub a Z).bind λt=>if t then .ok Qb else z9 G sub b Z:=rfl
@[simp]def bP(a:T)(Z:Env):z9 G sub (.not a) Z=(z9 G sub a Z).bind λt=>.ok (!t):=rfl
@[simp]def uN(a:L)(Z:Env):z9 G sub (.e a) Z=(ev G sub a Z).bind tr:=rfl
@[simp]def Ai(Z:Env):jO G sub [] Z=.ok Qb:=rfl
@[simp]def CZ(a:T)(l:List T)(Z:Env):jO G sub (a::l) Z=(z9 G sub a Z).bind λt=>if t then jO G sub l Z else .ok Qf:=rfl
@[simp]def wa(i:Nat)(a:L)(Z:Env):ex G sub (.set i a) Z=(ev G sub a Z).go Z λd=>.ok (Z.set i (Qa (.val d))) .nx:=rfl
@[simp]def EX(i:Nat)(a:L)(Z:Env):ex G sub (.jF i a) Z=(ev G sub a Z).go Z λd=>.ok (Z.set i (Qa (.own d))) .nx:=rfl
@[simp]def qAm(i:Nat)(o:Op2)(a:L)(Z:Env):ex G sub (.aug i o a) Z=(zH Z i).go Z λx=>(ev G sub a Z).go Z λy=>(xk o x y).go Z λz=>.ok (Z.set i (Qa (.val z))) .nx:=rfl
@[simp]theorem LM(i:Nat)(a:L)(Z:Env):ex G sub (.app i a) Z=match Z[i]?with
   |some (Qa (.own (.qA xs)))=>(ev G sub a Z).go Z λd=>if xs.length<big then .ok (Z.set i (Qa (.own (.qA (xs++[d]))))) .nx else .qC
   |_=>.qC:=rfl
@[simp]theorem qAo(j i:Nat)(Z:Env):ex G sub (.pop j i) Z=match Z[i]?with
   |some (Qa (.own (.qA xs)))=>match xs.getLast? with
     |some d=>.ok ((Z.set i (Qa (.own (.qA xs.dropLast)))).set j (Qa (.val d))) .nx
     |none=>.qC
   |_=>.qC:=rfl
@[simp]theorem fh(i:Nat)(k v:L)(Z:Env):ex G sub (.put i k v) Z=match Z[i]?with
   |some (Qa (.own (.z7 ks vs)))=>(ev G sub v Z).go Z λy=>(ev G sub k Z).go Z λx=>match x with
     |.int n=>if ks.length<big then(put n y ks vs).go Z λr=>.ok (Z.set i (Qa (.own (.z7 r.1 r.2)))) .nx else .qC
     |_=>.qC
   |_=>.qC:=rfl
@[simp]theorem q1f(i:Nat)(a:L)(Z:Env):ex G sub (.setE i a) Z=(ev G sub a Z).go Z λd=>match d with
   |.int n=>if 0<=n/\n<=1000 then .ok (Z.set i (Qa (.j6 (Qj n.toNat [])))) .nx else .qC
   |_=>.qC:=rfl
@[simp]theorem q1d(i:Nat)(k a:L)(Z:Env):ex G sub (.app2 i k a) Z=match Z[i]?with
   |some (Qa (.j6 xss))=>(ev G sub k Z).go Z λx=>match x with
     |.int n=>if 0<=n then(match xss[n.toNat]?with
       |some ys=>(ev G sub a Z).go Z λd=>if ys.length<big then .ok (Z.set i (Qa (.j6 (xss.set n.toNat (ys++[d]))))) .nx else .qC
       |none=>.qC)else .qC
     |_=>.qC
   |_=>.qC:=rfl
@[simp]def qAn(a:L)(Z:Env):ex G sub (.expr a) Z=(ev G sub a Z).go Z λ_=>.ok Z .nx:=rfl
@[simp]def kA(c:T)(a b:List S)(Z:Env):ex G sub (.ifs c a b) Z=(z9 G sub c Z).go Z λt=>if t then qL G sub a Z else qL G sub b Z:=rfl
@[simp]def xG(k:Nat)(is:List Nat)(it:I)(body:List S)(Z:Env):ex G sub (.zS k is it body) Z=(jR G sub it Z).go Z λds=>jS (qL G sub body) k is ds Z:=rfl
@[simp]def fo(c:T)(body:List S)(Z:Env):ex G sub (.whl c body) Z=x6 (z9 G sub c) (qL G sub body) 100000 Z:=rfl
@[simp]def vi(a:L)(Z:Env):ex G sub (.ret a) Z=(ev G sub a Z).go Z λd=>.ok Z (.ret d):=rfl
@[simp]theorem fj(i:Nat)(Z:Env):ex G sub (.retO i) Z=match Z[i]?with
   |some (Qa (.own d))=>.ok (Z.set i Qc) (.ret d)
   |some (Qa (.j6 xss))=>.ok (Z.set i Qc) (.ret (.qA (xss.map .qA)))
   |_=>.qC:=rfl
@[simp]def qAp(c:Nat)(Z:Env):ex G sub (.raise c) Z=.err c Z:=rfl
@[simp]theorem fi(a:L)(Z:Env):ex G sub (.retL a) Z=(ev G sub a Z).go Z λd=>match d with
   |.qA xs=>.ok Z (.Xb (.qA xs))
   |_=>.qC:=rfl
@[simp]theorem q1e(i k:Nat)(body:List S)(a:L)(Z:Env):ex G sub (.memo i k body a) Z=match qL G sub body Z with
   |.ok ρ' .nx=>match ev G sub a ρ',zH Z i,zH Z k,zH ρ' i,zH ρ' k with
    |.ok v,.ok m1,.ok d1,.ok m2,.ok d2=>if yL m1 d1 v&&yL m2 d2 v then .ok (wm Z) (.ret v)else .qC
    |_,_,_,_,_=>.qC
   |_=>.qC:=rfl
@[simp]theorem fm(i k:Nat)(a:L)(Z:Env):ex G sub (.setA i k a) Z=(ev G sub a Z).go Z λd=>match Z[i]?with
   |some (Qa (.obj b fs))=>match XZ k d fs with
    |some c=>.ok (Z.set i (Qa (.obj b c))) .nx
    |none=>.qC
   |_=>.qC:=rfl
@[simp]theorem fc(i f:Nat)(xs:List L)(Z:Env):ex G sub (.new i f xs) Z=(qu G sub xs Z).go Z λds=>(G f (.obj []::ds)).go Z (uL λt fs=>match t with
   |.qI=>.ok (Z.set i (Qa (.obj Qf fs))) .nx
   |_=>.qC):=rfl
@[simp]theorem fe(f:Nat)(xs:List L)(Z:Env):ex G sub (.newX f xs) Z=(qu G sub xs Z).go Z λds=>(G f (.obj []::ds)).go Z (uL λt fs=>match t with
   |.qI=>.ok Z .nx
   |_=>.qC):=rfl
@[simp]theorem LN(i f:Nat)(xs:List L)(Z:Env):ex G sub (.expM i f xs) Z=match Z[i]?with
   |some (Qa (.obj b fs))=>(qu G sub xs Z).go Z λds=>(G f (.obj fs::ds)).go Z (uL λt a=>match t with
    |.qI=>.ok (Z.set i (Qa (.obj b a))) .nx
    |_=>.qC)
   |_=>.qC:=rfl
@[simp]theorem EW(c:List T)(i f:Nat)(xs:List L)(a:L)(body:List S)(Z:Env):ex G sub (.ifA c i f xs a body) Z=(Ah G sub c Z).go Z λt=>if t then qL G sub body Z else match Z[i]?with
   |some (Qa (.obj b0 fs))=>(qu G sub xs Z).go Z λds=>(G f (.obj fs::ds)).go Z (uL λt d=>(ev G sub a (Z.set i (Qa (.obj b0 d)))).go (Z.set i (Qa (.obj b0 d))) λy=>(qj .ne t y).go (Z.set i (Qa (.obj b0 d))) λz=>(tr z).go (Z.set i (Qa (.obj b0 d))) λb=>if b then qL G sub body (Z.set i (Qa (.obj b0 d)))else .ok (Z.set i (Qa (.obj b0 d))) .nx)
   |_=>.qC:=rfl
@[simp]theorem fZ(i f:Nat)(a:L)(Z:Env):ex G sub (.appF i f a) Z=match Z[i]?with
   |some (Qa (.obj _ fs))=>(G f [.obj fs]).go Z λd=>match d with
    |.qA xs=>(ev G sub a Z).go Z λ_=>if xs.length<big then .ok Z .nx else .qC
    |_=>.qC
   |_=>.qC:=rfl
@[simp]theorem LQ(body:List S)(c i j:Nat)(Z:Env):ex G sub (.tryE body c i j) Z=match qL G sub body Z with
   |.err e ρ'=>if sub e c then .ok ((ρ'.set j (Qa (.val (.exc e)))).set i Qc) .nx else .qC
   |r=>r:=rfl
@[simp]def zZ(Z:Env):qL G sub [] Z=.ok Z .nx:=rfl
@[simp]def yZ(s:S)(l:List S)(Z:Env):qL G sub (s::l) Z=(ex G sub s Z).nx λρ'=>qL G sub l ρ':=rfl
end
end Ev
namespace Ev
open PySem
noncomputable def nI(t:Nat):D:=.int (t:Int)
def nL(l:List Nat):List D:=l.map nI
@[simp]def qB7:nL []=[]:=rfl
@[simp]def vz(a:Nat)(l:List Nat):nL (a::l)=nI a::nL l:=rfl
@[simp]def q5B(a b:List Nat):nL (a++b)=nL a++nL b:=Ux
@[simp]def vT(l:List Nat):(nL l).length=l.length:=Qm _
@[simp]def q5A(a b:Nat):nI a=nI b↔a=b:=by unfold nI;simp;lia
def nr{a b:List Nat}:nL a=nL b↔a=b:=by unfold nL;exact#[λh=>(List.map_inj_right (λx y e=>(q5A x y).mp e)).mp h,λh=>by rw[h]]
@[simp]def add_n(a b:Nat):zT .add (nI a) (nI b)=.ok (nI (a+b)):=rfl
@[simp]def qBL(a b:Nat)(c:a<2^62)(hb:b<=1000):zT .shl (nI a) (nI b)=.ok (nI (a<<<b)):=by unfold nI;rw[Tg _ (by decide) (by decide)];unfold jo;dsimp only;rw[if_pos ∅];rfl
@[simp]def qBM(a b:Nat):zT .shr (nI a) (nI b)=.ok (nI (a>>>b)):=by unfold nI;rw[Tg _ (by decide) (by decide)];unfold jo;dsimp only;rw[if_pos ∅];rfl
@[simp]def qAV(a b:Nat):zT .band (nI a) (nI b)=.ok (nI (a&&&b)):=by unfold nI;rw[Tg _ (by decide) (by decide)];unfold jo;dsimp only;rw[if_pos ∅];rfl
@[simp]def qAj(a b:Nat):zT .bor (nI a) (nI b)=.ok (nI (a|||b)):=by unfold nI;rw[Tg _ (by decide) (by decide)];unfold jo;dsimp only;rw[if_pos ∅];rfl
def bF(a b:Nat)(h:b<=a):zT .sub (nI a) (nI b)=.ok (nI (a-b)):=by unfold nI;rw[Tg _ (by decide) (by decide)];unfold jo;congr 2;lia
@[simp]def ue(a b:Nat)(h:0<b):zT .mod (nI a) (nI b)=.ok (nI (a %b)):=by unfold nI;rw[Tg _ (by decide) (by decide)];unfold jo;dsimp only;rw[if_pos ∅];rfl
@[simp]def Ed(a b:Nat)(h:0<b)(c:b<1073741824):zT .fdiv (nI a) (nI b)=.ok (nI (a/b)):=by unfold nI;rw[Tg _ (by decide) (by decide)];unfold jo;dsimp only;rw[if_pos ∅];rfl
@[simp]def AE(a:Nat):pl (nI a)=Qb:=rfl
@[simp]def q6t(a:Int):pl (.int a)=Qb:=rfl
@[simp]def qBH(k a:Nat):qV k (nI a)=Qb:=by cases k<;>rfl
@[simp]def qBG(k:Nat)(a:Int):qV k (.int a)=Qb:=by cases k<;>rfl
@[simp]def yP(k:Nat)(l:List D):qV (k+1) (.qE l)=l.all (qV k):=by simp[qV]
@[simp]def Tq(k:Nat)(l:List D):qV (k+1) (.qA l)=l.all (qV k):=by simp[qV]
@[simp]def tO(k:Nat)(l:List Nat):(nL l).all (qV k)=Qb:=by simp[nL]
@[simp]def aV(l:List Nat):pl (.qE (nL l))=Qb:=by unfold pl;simp
@[simp]def qBE:zj []=Qb:=rfl
@[simp]def qBC(a:D)(l:List D):zj (a::l)=(pl a&&zj l):=rfl
def yr{l:List D}:zj l=Qb↔∀d∈l,pl d=Qb:=by unfold zj;simp
@[simp]def aU(l:List Nat):zj (nL l)=Qb:=yr.mpr λd hd=>by obtain⟨a,_,rfl⟩:=Qv.mp hd;rfl
@[simp]def Fl(a b:Nat):qM (nI a) (nI b)=decide (a=b):=by
 have:qM (.int (a:Int)) (.int (b:Int))=decide ((a:Int)=b):=by simp[qM]
 rw[nI,nI,this];exact decide_eq_decide.mpr ∅
@[simp]def iH(a:Nat):qJ (nI a)=Qb:=by simp[nI,qJ]
@[simp]def q3L(l:List Nat):zO (nL l)=Qb:=kz.mpr λd hd=>by obtain⟨a,_,rfl⟩:=Qv.mp hd;exact iH a
@[simp]def OE(l:List Nat):qJ (.qE (nL l))=Qb:=by simp[qJ]
@[simp]def fQ(a b:List Nat):qM (.qE (nL a)) (.qE (nL b))=decide (a=b):=by rw[Q0,k9 (OE a) (OE b)];simp[nr]
@[simp]def mf(a b:Nat):qj .lt (nI a) (nI b)=.ok (.bl (decide (a<b))):=by simp[nI,qj,zm,qm,pl,qJ]
@[simp]def Ek(a b:Nat):qj .gt (nI a) (nI b)=.ok (.bl (decide (b<a))):=by simp[nI,qj,intD]
@[simp]def Fi(a b:Nat):qj .eq (nI a) (nI b)=.ok (.bl (decide (a=b))):=by simp[qj]
@[simp]def Sq(a b:Nat):qj .ne (nI a) (nI b)=.ok (.bl (!decide (a=b))):=by simp[qj]
@[simp]def Pn(b:Bool):tr (.bl b)=.ok b:=rfl
@[simp]def bM(l:List D):tr (.qA l)=.ok (!l.isEmpty):=rfl
@[simp]def qBN(l:List D):tr (.qE l)=.ok (!l.isEmpty):=rfl
@[simp]def G9(l:List D):jC (.qA l)=.ok l:=rfl
@[simp]def q3u(l:List D):xO (.qA l)=.ok l:=rfl
@[simp]def iz(l:List D):jC (.qE l)=.ok l:=rfl
theorem OX:∀l:List Nat,ints? (nL l)=Qa (l.map λ(a:Nat)=>(a:Int))
 |[]=>rfl
 |a::l=>by simp[ints?,nI,OX l]
@[simp]def q3v(k:List Nat)(v:List D):jC (.z7 (nL k) v)=.ok (nL k):=by simp[jC,OX]
def oW:D.int 0=nI 0:=rfl
def Tf:D.int 1=nI 1:=rfl
def PW:D.int 2=nI 2:=rfl
@[simp]def xT(j:Nat)(h:j<2^62):xU [nI j]=.ok (nL (Qu j)):=by unfold xU nI;simp only;rw[if_pos ∅];simp[nL,nI]
@[simp]def unp0(d:D):wA 0 d=.ok [d]:=rfl
@[simp]def unp2(a b:D):wA 2 (.qE [a,b])=.ok [a,b]:=rfl
@[simp]def qBK(i:Nat)(d:D)(Z:Env):Tv [i] [d] Z=Z.set i (Qa (.val d)):=rfl
@[simp]def qAI:zV []=[]:=rfl
@[simp]def qAH(d:D)(l:List D):zV (d::l)=Qa (.val d)::zV l:=rfl
@[simp]def qAk(elt:Env->R D)(cond:Env->R Bool)(k:Nat)(Z:Env):j7 elt cond k Z []=.ok []:=rfl
theorem dX{elt:Env->R D}{cond:Env->R Bool}{k:Nat}{Z:Env}{g:D->D}{p:D->Bool}:∀{ds:List D},
  (∀d∈ds,∃xs,wA k d=.ok xs/\cond (zV xs++Z)=.ok (p d)/\(p d=Qb->elt (zV xs++Z)=.ok (g d)))->j7 elt cond k Z ds=.ok ((ds.filter p).map g)
 |[],_=>rfl
 |d::ds,h=>by
  refine qd (h d Qg) λxs c f i=>?_;have b:=dX (elt:=elt) (cond:=cond) (k:=k) (Z:=Z) (g:=g) (p:=p) (ds:=ds) λe j=>h e (Qd _ j);unfold j7;rw[c,qF,f,qF];cases a:p d with
  |true=>rw[if_pos rfl,i a,b];simp[Js,a]
  |false=>rw[if_neg (by simp),b];simp[Js,a]
@[simp]theorem Ll(Z:Env)(i:Nat):zH Z i=match Z[i]?with
 |some (Qa (.val d))=>.ok d
 |_=>.qC:=rfl
@[simp]theorem q2l(Z:Env)(i:Nat):X9 Z i=match Z[i]?with
 |some (Qa (.val d))=>.ok d
 |some (Qa (.own d))=>.ok d
 |some (Qa (.obj _ fs))=>.ok (.obj fs)
 |_=>.qC:=rfl
@[simp]def qAS(o:Op2)(a b:Nat):xk o (nI a) (nI b)=zT o (nI a) (nI b):=rfl
def jZ:big=1000000:=rfl
def T8(body:Env->RS)(k:Nat)(is:List Nat)(Z:Env):jS body k is [] Z=.ok Z .nx:=rfl
def vm(body:Env->RS)(i:Nat)(d:D)(ds:List D)(Z:Env):jS body 0 [i] (d::ds) Z=(body (Z.set i (Qa (.val d)))).turn λρ'=>jS body 0 [i] ds ρ':=rfl
def sZ(c:Env->R Bool)(body:Env->RS)(n:Nat)(Z:Env):x6 c body (n+1) Z=(c Z).go Z λt=>if t then(body Z).turn λρ'=>x6 c body n ρ' else .ok Z .nx:=rfl
section
variable{sub:Nat->Nat->Bool}
@[simp]def wO(xs:List D):zF sub .len [.qA xs]=.ok (nI xs.length):=rfl
@[simp]def q0D(xs:List D):zF sub .len [.qE xs]=.ok (nI xs.length):=rfl
@[simp]def qAg(ks vs:List D):zF sub .len [.z7 ks vs]=.ok (nI ks.length):=rfl
@[simp]def RI(xs:List D):zF sub .tuple [.qA xs]=.ok (.qE xs):=rfl
@[simp]def qAi(xs:List D):zF sub .tuple [.qE xs]=.ok (.qE xs):=rfl
@[simp]def q0E(xs:List D):zF sub .list [.qA xs]=.ok (.qA xs):=rfl
@[simp]def qAh(xs:List D):zF sub .list [.qE xs]=.ok (.qA xs):=rfl
@[simp]def qAe(sub:Nat->Nat->Bool)(l:List D):zF sub .isTup [.qE l]=.ok (.bl Qb):=rfl
@[simp]def qAd(sub:Nat->Nat->Bool)(l:List D):zF sub .P5 [.qA l]=.ok (.bl Qb):=rfl
@[simp]def qAb(sub:Nat->Nat->Bool)(i:Int):zF sub .isInt [.int i]=.ok (.bl Qb):=rfl
@[simp]def qAc(sub:Nat->Nat->Bool)(i:Nat):zF sub .isInt [nI i]=.ok (.bl Qb):=rfl
@[simp]def qAX(sub:Nat->Nat->Bool)(i:Int):zF sub .isBool [.int i]=.ok (.bl Qf):=rfl
@[simp]def qAZ(sub:Nat->Nat->Bool)(i:Nat):zF sub .isBool [nI i]=.ok (.bl Qf):=rfl
@[simp]def qAY(sub:Nat->Nat->Bool)(b:Bool):zF sub .isBool [.bl b]=.ok (.bl Qb):=rfl
@[simp]def qAf(sub:Nat->Nat->Bool)(e:Nat):zF sub .isVal [.exc e]=.ok (.bl Qb):=rfl
@[simp]def qAa(sub:Nat->Nat->Bool)(c e:Nat):zF sub (.isExc c) [.exc e]=.ok (.bl (sub e c)):=rfl
@[simp]def q0G(d:D):zF sub .sorted [d]=(jC d).bind λxs=>if ko xs then .ok (.qA (jy xs))else .qC:=rfl
@[simp]def q0H(d:D):zF sub .vY [d]=(xO d).bind λxs=>if zO xs&&zj xs&&decide (xs.length<=1000)&&ko (dedup xs)then .ok (.qA (jy (dedup xs)))else .qC:=rfl
@[simp]theorem q08(xs:List D):zF sub .all [.qA xs]=match bools? xs with
   |some bs=>.ok (.bl (bs.all id))
   |none=>.qC:=rfl
@[simp]def qAW(xs:List D)(x:D):zF sub .count [.qA xs,x]=if pl x&&zj xs then .ok (.int ((xs.filter λy=>qM y x).length))else .qC:=rfl
@[simp]def q0B(xs:List D)(x:D):zF sub .index [.qA xs,x]=if pl x&&zj xs then idxOf x xs 0 else .qC:=rfl
end
end Ev
namespace Ev
open PySem
structure Ix where
 (Dj Pl holds Dk o8 XU Dy qAl sC iw iv mO mQ qB5 qB9 Aa qAu qAr Il:Nat)
 (qAv qAw qB3 qAz qB0 qAx qB2 qAy qB1 qB4:Nat)
namespace B
noncomputable def SV:List S:=[.aug 1 .bor (.op .shl (.qo (.int 1)) (.qS 2))]
def Dj:List S:=[
 .set 1 (.qo (.int 0)),
 .zS 0 [2] (.e (.qS 0)) SV,
 .ret (.qS 1)]
noncomputable def holds:List S:=[
 .ret (.cm .eq (.op .band (.op .shr (.qS 0) (.qS 1)) (.qo (.int 1))) (.qo (.int 1)))]
noncomputable def Pl(f:Ix):List S:=[
 .ret (.bi .tuple [.comp 0 (.qS 0) (.rng [.bi .bits [.qS 0]]) [.e (.call f.holds [.qS 1,.qS 0])]])]
noncomputable def Dk:List S:=[
 .ret (.op .sub (.op .shl (.qo (.int 1)) (.qS 0)) (.qo (.int 1)))]
noncomputable def Gg:List S:=[.ifs (.e (.cm .eq (.op .band (.qS 3) (.qS 1)) (.qS 3))) [.ret (.qo (.bl Qb))] []]
def XU(f:Ix):List S:=[
 .ifs (.e (.call f.holds [.qS 1,.qS 2])) [.ret (.qo (.bl Qf))] [],
 .zS 0 [3] (.e (.idx (.qS 0) (.qS 2))) Gg,
 .ret (.qo (.bl Qf))]
noncomputable def Dy(f:Ix):List S:=[
 .ret (.comp 0 (.qS 0) (.e (.call f.Pl [.qS 2])) [.e (.call f.XU [.qS 1,.qS 2,.qS 0])])]
end B
section
variable{G:Nat->List D->R D}{sub:Nat->Nat->Bool}{f:Ix}
noncomputable def vB(m:Nat)(a:List Nat):Nat:=a.foldl (λm t=>m|||(1<<<t)) m
theorem nH:∀(a:List Nat)(m:Nat)(x y:Option Sl),(∀t∈a,t<=1000)->
  ∃b,jS (qL G sub B.SV) 0 [2] (nL a) [x,Qa (.val (nI m)),y]=.ok [x,Qa (.val (nI (vB m a))),b] .nx
 |[],m,x,y,_=>#[y,rfl]
 |t::a,m,x,y,h=>by obtain⟨b,e⟩:=nH a (m|||(1<<<t)) x (Qa (.val (nI t))) (λu hu=>h u (Qd _ hu));refine#[b,Eq.trans ?_ e];rw[vz,vm];simp[B.SV,Tf,(h t Qg)]
def q7o(a:List Nat)(h:∀t∈a,t<=1000)(d:D)(hd:d=.qE (nL a)\/d=.qA (nL a)):run G sub 3 B.Dj [d]=.ok (nI (vB 0 a)):=by obtain⟨b,e⟩:=nH (G:=G) (sub:=sub) a 0 (Qa (.val d)) Qc h;rcases hd with rfl|rfl<;>simp[run,B.Dj,oW,e]
def q7l(m t:Nat):run G sub 2 B.holds [nI m,nI t]=.ok (.bl (m.testBit t)):=by simp only[run,B.holds];simp[Tf,Nat.testBit_eq_decide_div_mod_eq,Nat.and_one_is_mod,Zn]
noncomputable def uQ(m:Nat):Nat:=if m=0 then 0 else m.log2+1
def zW(m:Nat):List Nat:=(Qu (uQ m)).filter m.testBit
def IS(m:Nat):zF sub .bits [nI m]=.ok (nI (uQ m)):=by
 show(if 0<=(m:Int)then R.ok (D.int (if(m:Int)=0 then 0 else(((m:Int).toNat.log2+1:Nat):Int)))else R.qC)=_;unfold nI uQ;rw[if_pos ∅]
 by_cases h:m=0
 .subst h;rfl
 .rw[if_neg ∅,if_neg h];rfl
def cZ(m:Nat)(h:m<2^62):uQ m<=62:=by
 unfold uQ;split
 .lia
 .have:=(Nat.log2_lt (by assumption)).mpr h;lia
def q1r(l:List Nat)(p:Nat->Bool)(q:D->Bool)(h:∀a∈l,q (nI a)=p a):(nL l).filter q=nL (l.filter p):=by
 induction l with
 |nil=>rfl
 |cons a l c=>
  rw[vz,Js,Js,(h a Qg),(c λb hb=>h b (Qd _ hb))];split<;>simp
noncomputable def natOf:D->Nat
 |.int i=>i.toNat
 |_=>0
@[simp]def qB8(a:Nat):natOf (nI a)=a:=by simp[natOf,nI]
def E7{elt:Env->R D}{cond:Env->R Bool}{Z:Env}{p:Nat->Bool}{l:List Nat}(hc:∀a∈l,cond (Qa (.val (nI a))::Z)=.ok (p a))(c:∀a∈l,elt (Qa (.val (nI a))::Z)=.ok (nI a)):
  j7 elt cond 0 Z (nL l)=.ok (nL (l.filter p)):=by
 rw[dX (g:=id) (p:=λd=>p (natOf d))]
 .rw[WG,q1r l p];intro a _;simp
 .intro d hd;refine qH (Qv.mp hd) λa b e=>?_;subst e;refine#[[nI a],rfl,?_,λ_=>?_]
  .simp[hc a b]
  .simp[c a b]
def q84(d:∀m t:Nat,G f.holds [nI m,nI t]=.ok (.bl (m.testBit t)))(m:Nat)(h:m<2^62):run G sub 1 (B.Pl f) [nI m]=.ok (.qE (nL (zW m))):=by
 have hb:=cZ m h;have hl:((Qu (uQ m)).filter m.testBit).length<=big:=Qw (QX _ _) (by rw[Jc,jZ];lia);have e:=E7 (elt:=ev G sub (.qS 0)) (cond:=jO G sub [.e (.call f.holds [.qS 1,.qS 0])]) (Z:=[Qa (.val (nI m))]) (p:=m.testBit) (l:=Qu (uQ m))
  (λa _=>by cases q:m.testBit a<;>simp[d,q]) (λa _=>by simp)
 have c:jR G sub (.rng [.bi .bits [.qS 0]]) [Qa (.val (nI m))]=.ok (nL (Qu (uQ m))):=by rw[vh,jK,kI,jK,qQ,jg];show((zF sub .bits [nI m]).bind λx=>R.ok [x]).bind xU=_;rw[IS,qF,qF,xT _ (Jr hb (by decide))]
 have b:ev G sub (.comp 0 (.qS 0) (.rng [.bi .bits [.qS 0]]) [.e (.call f.holds [.qS 1,.qS 0])]) [Qa (.val (nI m))]=.ok (.qA (nL (zW m))):=by rw[vO,c,qF,e,ka,qF,vT,if_pos hl];rfl
 show run G sub 1 [.ret (.bi .tuple [.comp 0 (.qS 0) (.rng [.bi .bits [.qS 0]]) [.e (.call f.holds [.qS 1,.qS 0])]])] [nI m]=_;generalize (L.comp 0 (.qS 0) (.rng [.bi .bits [.qS 0]]) [.e (.call f.holds [.qS 1,.qS 0])])=cc at b;simp only[run];simp[b]
def q7p(n:Nat)(h:n<=1000):run G sub 1 B.Dk [nI n]=.ok (nI (2^n-1)):=by simp only[run,B.Dk];simp[Tf,h];rw[bF _ _ (by rw[Wr];exact Nat.one_le_two_pow)];simp[Wr]
noncomputable def jD(nd:List (List Nat))(k t:Nat):Bool:=!k.testBit t&&((nd.getD t []).any λx=>x&&&k==x)
def vU(nd:List (List Nat)):D:=.qA (nd.map λl=>.qA (nL l))
def q4s(k x:Nat)(a c d:Option Sl):qL G sub B.Gg [a,Qa (.val (nI k)),c,Qa (.val (nI x))]=.ok [a,Qa (.val (nI k)),c,Qa (.val (nI x))] (if x&&&k=x then .ret (.bl Qb)else .nx):=by
 by_cases h:x&&&k=x<;>simp[B.Gg,h]
theorem nJ(k:Nat)(a c:Option Sl):∀(l:List Nat)(d:Option Sl),∃d',jS (qL G sub B.Gg) 0 [3] (nL l) [a,Qa (.val (nI k)),c,d]=
  .ok [a,Qa (.val (nI k)),c,d'] (if l.any (λx=>x&&&k==x)=Qb then .ret (.bl Qb)else .nx)
 |[],d=>#[d,rfl]
 |x::l,d=>by
  obtain⟨d',e⟩:=nJ k a c l (Qa (.val (nI x)));rw[vz,vm];simp;rw[q4s k x a c d]
  by_cases h:x&&&k=x
  .exact#[Qa (.val (nI x)),by simp[h]]
  .refine#[d',?_];rw[if_neg h,xb,e];simp[h]
def uh(l:List D)(t:Nat)(d:D)(h:l[t]?=Qa d):vV l (t:Int)=.ok d:=by unfold vV;rw[if_pos ∅];simp[h]
def q7q(b:∀m t:Nat,G f.holds [nI m,nI t]=.ok (.bl (m.testBit t)))(nd:List (List Nat))(k t:Nat)(h:t<nd.length):run G sub 4 (B.XU f) [vU nd,nI k,nI t]=.ok (.bl (jD nd k t)):=by
 unfold jD;have c:nd.getD t []=nd[t]:=by simp[JN,h]
 have a:kE (vU nd) (nI t)=.ok (.qA (nL (nd.getD t []))):=by refine uh _ _ _ ?_;rw[QB,Qy h,c];rfl
 generalize nd.getD t []=l at a|-;obtain⟨d',e⟩:=nJ (G:=G) (sub:=sub) k (Qa (.val (vU nd))) (Qa (.val (nI t))) l Qc;simp only[run,B.XU];cases q:k.testBit t
 .cases r:l.any (λx=>x&&&k==x)
  .rw[r]at e;simp[b,q,a,e]
  .rw[r]at e;simp[b,q,a,e]
 .simp[b,q]
def uG(nd:List (List Nat))(k b:Nat):List Nat:=(zW b).filter (jD nd k)
def wh{m t:Nat}:t∈zW m↔m.testBit t=Qb:=by
 unfold zW;rw[QJ,QN];refine#[λh=>h.2,λh=>#[?_,h]];have:m≠0:=by intro z;subst z;simp at h
 unfold uQ;rw[if_neg this];have:=(Nat.le_log2 this).mpr (UX h);lia
def q7s(g:∀m:Nat,m<2^62->G f.Pl [nI m]=.ok (.qE (nL (zW m))))(nd:List (List Nat))(d:∀k t:Nat,t<nd.length->G f.XU [vU nd,nI k,nI t]=.ok (.bl (jD nd k t)))(k b:Nat)(hb:b<2^nd.length)(n:nd.length<=60):
  run G sub 3 (B.Dy f) [vU nd,nI k,nI b]=.ok (.qA (nL (uG nd k b))):=by
 have c:b<2^62:=Qz hb (Q1 (by decide) ∅);have j:∀t∈zW b,t<nd.length:=λt i=>by have:=UX (wh.mp i);exact(Zw (by decide)).mp (Jr this hb)
 have e:=E7 (elt:=ev G sub (.qS 0)) (cond:=jO G sub [.e (.call f.XU [.qS 1,.qS 2,.qS 0])]) (Z:=[Qa (.val (vU nd)),Qa (.val (nI k)),Qa (.val (nI b))]) (p:=jD nd k) (l:=zW b)
  (λa h=>by cases q:jD nd k a<;>simp[d k a (j a h),q]) (λa _=>by simp)
 have hl:((zW b).filter (jD nd k)).length<=big:=by refine Qw (QX _ _) (Qw (QX _ _) ?_);rw[Jc,jZ];have:=cZ b c;lia
 simp only[run,B.Dy];simp[g b c,e,hl,uG]
end
end Ev
namespace Ev
open PySem PySem.SeqAt
mutual
def Dv(h:Heap):D->Value->Prop
 |.qI,u=>u=.none
 |.bl b,u=>u=.bool b
 |.int i,u=>∃t,u=.int i t
 |.str x,u=>∃t,u=.str x t
 |.qE ds,u=>∃a us,u=.ref a/\h.IsTuple a (QO us)/\zU h ds us
 |.qA ds,u=>∃a us,u=.ref a/\h.IsList a (QO us)/\zU h ds us
 |.z7 _ _,_=>True
 |.exc _,_=>True
 |.obj _,_=>True
 |.mem _ _,_=>True
def zU(h:Heap):List D->List Value->Prop
 |[],us=>us=[]
 |d::ds,us=>∃u r,us=u::r/\Dv h d u/\zU h ds r
end
theorem zU.length{h:Heap}:∀{ds:List D}{us:List Value},zU h ds us->ds.length=us.length
 |[],us,x=>by cases x;rfl
 |d::ds,us,x=>by obtain⟨u,r,e,_,y⟩:=x;subst e;simp[zU.length y]
theorem zU.get{h:Heap}:∀{ds:List D}{us:List Value}{i:Nat}{d:D},zU h ds us->ds[i]?=Qa d->∃u,us[i]?=Qa u/\Dv h d u
 |[],us,i,d,x,e=>by simp at e
 |a::ds,us,0,d,x,e=>by obtain⟨u,r,q,y,_⟩:=x;subst q;simp at e;subst e;exact#[u,rfl,y]
 |a::ds,us,i+1,d,x,e=>by obtain⟨u,r,q,_,y⟩:=x;subst q;refine qH (zU.get y (by simpa using e)) λv b c=>?_;exact#[v,by simpa using b,c]
theorem zU.mem{h:Heap}:∀{ds:List D}{us:List Value}{u:Value},zU h ds us->u∈us->∃d∈ds,Dv h d u
 |[],us,u,x,e=>by cases x;cases e
 |a::ds,us,u,x,e=>by
  refine qN x λw r q y1 y2=>?_;subst q;rcases Ql.mp e with rfl|e
  .exact#[a,Qg,y1]
  .obtain⟨d,hd,z⟩:=zU.mem y2 e;exact#[d,Qd _ hd,z]
def uT(ds es:List D)(j:Nat):Bool:=match ds[j]?,es[j]?with
 |some d,Qa e=>qM d e
 |_,_=>Qb
def all_succ(f:Nat->Bool)(n:Nat):(Qu (n+1)).all f=(f 0&&(Qu n).all (λi=>f (i+1))):=by rw[List.range_succ_eq_map,YE,List.all_map];rfl
theorem Fj:∀ds es:List D,((Qu (min ds.length es.length)).all (uT ds es)&&ds.length==es.length)=zf ds es
 |[],[]=>rfl
 |[],_::_=>by simp[zf]
 |_::_,[]=>by simp[zf]
 |d::ds,e::es=>by
  have f:=Fj ds es;rw[QH,QH,Nat.succ_min_succ,all_succ,zf,<-f];have a:uT (d::ds) (e::es) 0=qM d e:=rfl;have b:(λi=>uT (d::ds) (e::es) (i+1))=uT ds es:=by funext i;simp[uT]
  rw[a,b];have c:(ds.length+1==es.length+1)=(ds.length==es.length):=by simp
  rw[c,Bool.and_assoc]
def LF{ds es:List D}(h:ds.length=es.length):(Qu ds.length).all (uT ds es)=zf ds es:=by have:=Fj ds es;rw[<-h,Nat.min_self]at this;simpa using this
theorem EN:∀{ds es:List D},ds.length≠es.length->zf ds es=Qf
 |[],[],h=>absurd rfl h
 |[],_::_,_=>by simp[zf]
 |_::_,[],_=>by simp[zf]
 |d::ds,e::es,h=>by rw[zf,EN (λq=>h (by simp[q]))];simp
def qA4{h:Heap}{a:Addr}{us vs:List Value}(x:h.IsTuple a us.toArray)(y:h.IsTuple a vs.toArray):us=vs:=by
 obtain⟨o,e,_,n,d⟩:=x;obtain⟨o',b,_,c,d'⟩:=y;rw[e]at b;cases b;rw[d]at d';injection d' with d1 _
 simpa using congrArg V4 d1
def q4f{h:Heap}{a:Addr}{us vs:List Value}(x:h.IsList a us.toArray)(y:h.IsList a vs.toArray):us=vs:=by
 obtain⟨o,e,_,n,d⟩:=x;obtain⟨o',b,_,c,d'⟩:=y;rw[e]at b;cases b;rw[d]at d';injection d' with d1 _
 simpa using congrArg V4 d1
def sS{h:Heap}{a:Addr}{us vs:List Value}(x:h.IsTuple a us.toArray)(y:h.IsList a vs.toArray):False:=by
 obtain⟨o,e,c,_⟩:=x;obtain⟨o',d,b,_⟩:=y;rw[e]at d;cases d;rw[c]at b;injection b with q
 exact absurd q (by decide)
def EO:∀(k:Nat){h:Heap}{d e:D}{u:Value},qV k d=Qb->qV k e=Qb->Dv h d u->Dv h e u->qM d e=Qb:=by
 have lists:∀(k:Nat),(∀{h:Heap}{d e:D}{u:Value},qV k d=Qb->qV k e=Qb->Dv h d u->Dv h e u->qM d e=Qb)->∀{h:Heap}{ds es:List D}{us:List Value},ds.all (qV k)=Qb->es.all (qV k)=Qb->zU h ds us->zU h es us->zf ds es=Qb:=by
  intro k g h ds
  induction ds with
  |nil=>
   intro es us _ _ x y;cases x;cases es with
   |nil=>simp[zf]
   |cons e es=>obtain⟨_,_,q,_⟩:=y;cases q
  |cons d ds n=>
   intro es us p q x y;refine qN x λu r l c f=>?_;subst l;cases es with
   |nil=>cases y
   |cons e es=>
    refine qN y λs o m y1 y2=>?_;injection m with e3 e4
    subst e3 e4;simp only[YE,Qo]at p q;rw[zf,g p.1 q.1 c y1,n p.2 q.2 f y2];rfl
 intro k
 induction k with
 |zero=>
  intro h d e u p q x y;cases d<;>cases e<;>first
   |(simp[qV]at p;done)
   |(simp[qV]at q;done)
   |(obtain⟨t,rfl⟩:=x;obtain⟨t',b⟩:=y;injection b with q1 _;subst q1;simp[qM];done)
   |(obtain⟨t,rfl⟩:=x;obtain⟨t',b⟩:=y;cases b;done)
   |(obtain⟨t,rfl⟩:=x;cases y;done)
   |(obtain⟨t,rfl⟩:=y;cases x;done)
   |(cases x;cases y;simp[qM];done)
   |(cases x;cases y;done)
 |succ k g=>
  intro h d e u p q x y;cases d<;>cases e<;>first
   |(simp[qV]at p;done)
   |(simp[qV]at q;done)
   |(obtain⟨a,us,rfl,c,f⟩:=x;obtain⟨i,j,b,y1,y2⟩:=y;injection b with q1;subst q1;cases qA4 c y1;rw[yP]at p q;simpa[qM]using lists k (λ{h d e u}=>g) p q f y2;done)
   |(obtain⟨a,us,rfl,c,f⟩:=x;obtain⟨i,j,b,y1,y2⟩:=y;injection b with q1;subst q1;cases q4f c y1;rw[Tq]at p q;simpa[qM]using lists k (λ{h d e u}=>g) p q f y2;done)
   |(obtain⟨a,us,rfl,c,f⟩:=x;obtain⟨i,j,b,y1,y2⟩:=y;injection b with q1;subst q1;exact(sS c y1).elim)
   |(obtain⟨a,us,rfl,c,f⟩:=x;obtain⟨i,j,b,y1,y2⟩:=y;injection b with q1;subst q1;exact(sS y1 c).elim)
   |(obtain⟨a,us,rfl,c,f⟩:=x;obtain⟨t',b⟩:=y;cases b;done)
   |(obtain⟨a,us,rfl,c,f⟩:=x;cases y;done)
   |(obtain⟨a,us,rfl,c,f⟩:=y;obtain⟨t',b⟩:=x;cases b;done)
   |(obtain⟨a,us,rfl,c,f⟩:=y;cases x;done)
   |(obtain⟨t,rfl⟩:=x;obtain⟨t',b⟩:=y;injection b with q1 _;subst q1;simp[qM];done)
   |(obtain⟨t,rfl⟩:=x;obtain⟨t',b⟩:=y;cases b;done)
   |(obtain⟨t,rfl⟩:=x;cases y;done)
   |(obtain⟨t,rfl⟩:=y;cases x;done)
   |(cases x;cases y;simp[qM];done)
   |(cases x;cases y;done)
noncomputable def q5P:D->Bool
 |.z7 _ _=>Qb
 |.exc _=>Qb
 |.obj _=>Qb
 |.mem _ _=>Qb
 |_=>Qf
def kF{d:D}{C:Prop}(q:∃k,qV k d=Qb)(h:q5P d=Qb):C:=by obtain⟨k,q⟩:=q;cases d<;>first|(cases h;done)|(cases k<;>simp[qV]at q)
def eqTo{A:Around}{s:Shared}{u v:Value}{b c:Bool}(h:EqAt A s u v b)(e:b=c:=by first|rfl|simp[qM,b2i,Vu]):EqAt A s u v c:=e▸h
def fP{A:Around}{s:Shared}{d e:D}{v w:Value}(B:∀l,d=.qE l->∀m,e=.qE m->EqAt A s v w (qM d e))(hl:∀l,d=.qA l->∀m,e=.qA m->EqAt A s v w (qM d e))(p:∃k,qV k d=Qb)(q:∃k,qV k e=Qb)(u:Dv s.heap d v)(a:Dv s.heap e w)(hu:A.units<cLine):EqAt A s v w (qM d e):=by
 cases d with
 |qI=>
  cases u;cases e with
  |qI=>cases a;exact eqTo (EqAt.same .none)
  |bl c=>cases a;exact eqTo (EqAt.none_bool c)
  |int f=>obtain⟨b,rfl⟩:=a;exact eqTo (EqAt.none_int f b)
  |str h=>obtain⟨b,rfl⟩:=a;exact eqTo (EqAt.none_str h b)
  |qE g=>obtain⟨i,j,rfl,y2,n⟩:=a;exact eqTo (EqAt.none_tuple y2 hu)
  |qA g=>obtain⟨i,j,rfl,y2,n⟩:=a;exact eqTo (EqAt.none_list y2 hu)
  |_=>exact kF q rfl
 |bl o=>
  cases u;cases e with
  |qI=>cases a;exact eqTo (EqAt.bool_none o)
  |bl c=>cases a;exact eqTo (EqAt.bool_bool o c)
  |int f=>obtain⟨b,rfl⟩:=a;exact eqTo (EqAt.bool_int o f b)
  |str h=>obtain⟨b,rfl⟩:=a;exact eqTo (EqAt.bool_str o h b)
  |qE g=>obtain⟨i,j,rfl,y2,n⟩:=a;exact eqTo (EqAt.bool_tuple o y2 hu)
  |qA g=>obtain⟨i,j,rfl,y2,n⟩:=a;exact eqTo (EqAt.bool_list o y2 hu)
  |_=>exact kF q rfl
 |int r=>
  obtain⟨t1,rfl⟩:=u;cases e with
  |qI=>cases a;exact eqTo (EqAt.int_none r t1)
  |bl c=>cases a;exact eqTo (EqAt.int_bool r t1 c)
  |int f=>obtain⟨b,rfl⟩:=a;exact eqTo (EqAt.int_int r t1 f b)
  |str h=>obtain⟨b,rfl⟩:=a;exact eqTo (EqAt.int_str r t1 h b)
  |qE g=>obtain⟨i,j,rfl,y2,n⟩:=a;exact eqTo (EqAt.int_tuple r t1 y2 hu)
  |qA g=>obtain⟨i,j,rfl,y2,n⟩:=a;exact eqTo (EqAt.int_list r t1 y2 hu)
  |_=>exact kF q rfl
 |str t=>
  obtain⟨t1,rfl⟩:=u;cases e with
  |qI=>cases a;exact eqTo (EqAt.str_none t t1)
  |bl c=>cases a;exact eqTo (EqAt.str_bool t t1 c)
  |int f=>obtain⟨b,rfl⟩:=a;exact eqTo (EqAt.str_int t t1 f b)
  |str h=>obtain⟨b,rfl⟩:=a;exact eqTo (EqAt.str_str t t1 h b)
  |qE g=>obtain⟨i,j,rfl,y2,n⟩:=a;exact eqTo (EqAt.str_tuple t t1 y2 hu)
  |qA g=>obtain⟨i,j,rfl,y2,n⟩:=a;exact eqTo (EqAt.str_list t t1 y2 hu)
  |_=>exact kF q rfl
 |qE C=>
  refine qN u λz y x y1 E=>?_;subst x;cases e with
  |qI=>cases a;exact eqTo (EqAt.tuple_none y1 hu)
  |bl c=>cases a;exact eqTo (EqAt.tuple_bool c y1 hu)
  |int f=>obtain⟨b,rfl⟩:=a;exact eqTo (EqAt.tuple_int f b y1 hu)
  |str h=>obtain⟨b,rfl⟩:=a;exact eqTo (EqAt.tuple_str h b y1 hu)
  |qE g=>exact B _ rfl _ rfl
  |qA g=>obtain⟨i,j,rfl,y2,n⟩:=a;exact eqTo (EqAt.tuple_list y1 y2 hu)
  |_=>exact kF q rfl
 |qA C=>
  refine qN u λz y x y1 E=>?_;subst x;cases e with
  |qI=>cases a;exact eqTo (EqAt.list_none y1 hu)
  |bl c=>cases a;exact eqTo (EqAt.list_bool c y1 hu)
  |int f=>obtain⟨b,rfl⟩:=a;exact eqTo (EqAt.list_int f b y1 hu)
  |str h=>obtain⟨b,rfl⟩:=a;exact eqTo (EqAt.list_str h b y1 hu)
  |qE g=>obtain⟨i,j,rfl,y2,n⟩:=a;exact eqTo (EqAt.list_tuple y1 y2 hu)
  |qA g=>exact hl _ rfl _ rfl
  |_=>exact kF q rfl
 |_=>exact kF p rfl
def rcTo{A:Around}{s:Shared}{u v:Value}{b c:Bool}(h:RcAt A s u v b)(e:b=c:=by first|rfl|simp[qM,b2i,Vu]):RcAt A s u v c:=e▸h
def q7H{A:Around}{s:Shared}{d e:D}{v w:Value}(B:∀l,d=.qE l->∀m,e=.qE m->RcAt A s v w (qM d e))(hl:∀l,d=.qA l->∀m,e=.qA m->RcAt A s v w (qM d e))(p:∃k,qV k d=Qb)(q:∃k,qV k e=Qb)(u:Dv s.heap d v)(a:Dv s.heap e w)(hu:A.units<cLine):RcAt A s v w (qM d e):=by
 cases d with
 |qI=>
  cases u;cases e with
  |qI=>cases a;exact rcTo RcAt.none_none
  |bl c=>cases a;exact rcTo (RcAt.none_bool c)
  |int f=>obtain⟨b,rfl⟩:=a;exact rcTo (RcAt.none_int f b)
  |str h=>obtain⟨b,rfl⟩:=a;exact rcTo (RcAt.none_str h b)
  |qE g=>obtain⟨i,j,rfl,y2,n⟩:=a;exact rcTo (RcAt.none_tuple y2 hu)
  |qA g=>obtain⟨i,j,rfl,y2,n⟩:=a;exact rcTo (RcAt.none_list y2 hu)
  |_=>exact kF q rfl
 |bl o=>
  cases u;cases e with
  |qI=>cases a;exact rcTo (RcAt.bool_none o)
  |bl c=>cases a;exact rcTo (RcAt.bool_bool o c)
  |int f=>obtain⟨b,rfl⟩:=a;exact rcTo (RcAt.bool_int o f b)
  |str h=>obtain⟨b,rfl⟩:=a;exact rcTo (RcAt.bool_str o h b)
  |qE g=>obtain⟨i,j,rfl,y2,n⟩:=a;exact rcTo (RcAt.bool_tuple o y2 hu)
  |qA g=>obtain⟨i,j,rfl,y2,n⟩:=a;exact rcTo (RcAt.bool_list o y2 hu)
  |_=>exact kF q rfl
 |int r=>
  obtain⟨t1,rfl⟩:=u;cases e with
  |qI=>cases a;exact rcTo (RcAt.int_none r t1)
  |bl c=>cases a;exact rcTo (RcAt.int_bool r t1 c)
  |int f=>obtain⟨b,rfl⟩:=a;exact rcTo (RcAt.int_int r t1 f b)
  |str h=>obtain⟨b,rfl⟩:=a;exact rcTo (RcAt.int_str r t1 h b)
  |qE g=>obtain⟨i,j,rfl,y2,n⟩:=a;exact rcTo (RcAt.int_tuple r t1 y2 hu)
  |qA g=>obtain⟨i,j,rfl,y2,n⟩:=a;exact rcTo (RcAt.int_list r t1 y2 hu)
  |_=>exact kF q rfl
 |str t=>
  obtain⟨t1,rfl⟩:=u;cases e with
  |qI=>cases a;exact rcTo (RcAt.str_none t t1)
  |bl c=>cases a;exact rcTo (RcAt.str_bool t t1 c)
  |int f=>obtain⟨b,rfl⟩:=a;exact rcTo (RcAt.str_int t t1 f b)
  |str h=>obtain⟨b,rfl⟩:=a;exact rcTo (RcAt.str_str t t1 h b)
  |qE g=>obtain⟨i,j,rfl,y2,n⟩:=a;exact rcTo (RcAt.str_tuple t t1 y2 hu)
  |qA g=>obtain⟨i,j,rfl,y2,n⟩:=a;exact rcTo (RcAt.str_list t t1 y2 hu)
  |_=>exact kF q rfl
 |qE C=>
  refine qN u λz y x y1 E=>?_;subst x;cases e with
  |qI=>cases a;exact rcTo (RcAt.tuple_none y1 hu)
  |bl c=>cases a;exact rcTo (RcAt.tuple_bool c y1 hu)
  |int f=>obtain⟨b,rfl⟩:=a;exact rcTo (RcAt.tuple_int f b y1 hu)
  |str h=>obtain⟨b,rfl⟩:=a;exact rcTo (RcAt.tuple_str h b y1 hu)
  |qE g=>exact B _ rfl _ rfl
  |qA g=>obtain⟨i,j,rfl,y2,n⟩:=a;exact rcTo (RcAt.tuple_list y1 y2 hu)
  |_=>exact kF q rfl
 |qA C=>
  refine qN u λz y x y1 E=>?_;subst x;cases e with
  |qI=>cases a;exact rcTo (RcAt.list_none y1 hu)
  |bl c=>cases a;exact rcTo (RcAt.list_bool c y1 hu)
  |int f=>obtain⟨b,rfl⟩:=a;exact rcTo (RcAt.list_int f b y1 hu)
  |str h=>obtain⟨b,rfl⟩:=a;exact rcTo (RcAt.list_str h b y1 hu)
  |qE g=>obtain⟨i,j,rfl,y2,n⟩:=a;exact rcTo (RcAt.list_tuple y1 y2 hu)
  |qA g=>exact hl _ rfl _ rfl
  |_=>exact kF q rfl
 |_=>exact kF p rfl
def neTo{A:Around}{s:Shared}{u v:Value}{b c:Bool}(h:RcNeAt A s u v b)(e:b=c:=by first|rfl|simp[qM,b2i,Vu]):RcNeAt A s u v c:=e▸h
def q7J{A:Around}{s:Shared}{d e:D}{v w:Value}(B:∀l,d=.qE l->∀m,e=.qE m->RcNeAt A s v w (!qM d e))(hl:∀l,d=.qA l->∀m,e=.qA m->RcNeAt A s v w (!qM d e))(p:∃k,qV k d=Qb)(q:∃k,qV k e=Qb)(u:Dv s.heap d v)(a:Dv s.heap e w)(hu:A.units<cLine):RcNeAt A s v w (!qM d e):=by
 cases d with
 |qI=>
  cases u;cases e with
  |qI=>cases a;exact neTo RcNeAt.none_none
  |bl c=>cases a;exact neTo (RcNeAt.none_bool c)
  |int f=>obtain⟨b,rfl⟩:=a;exact neTo (RcNeAt.none_int f b)
  |str h=>obtain⟨b,rfl⟩:=a;exact neTo (RcNeAt.none_str h b)
  |qE g=>obtain⟨i,j,rfl,y2,n⟩:=a;exact neTo (RcNeAt.none_tuple y2 hu)
  |qA g=>obtain⟨i,j,rfl,y2,n⟩:=a;exact neTo (RcNeAt.none_list y2 hu)
  |_=>exact kF q rfl
 |bl o=>
  cases u;cases e with
  |qI=>cases a;exact neTo (RcNeAt.bool_none o)
  |bl c=>cases a;exact neTo (RcNeAt.bool_bool o c)
  |int f=>obtain⟨b,rfl⟩:=a;exact neTo (RcNeAt.bool_int o f b)
  |str h=>obtain⟨b,rfl⟩:=a;exact neTo (RcNeAt.bool_str o h b)
  |qE g=>obtain⟨i,j,rfl,y2,n⟩:=a;exact neTo (RcNeAt.bool_tuple o y2 hu)
  |qA g=>obtain⟨i,j,rfl,y2,n⟩:=a;exact neTo (RcNeAt.bool_list o y2 hu)
  |_=>exact kF q rfl
 |int r=>
  obtain⟨t1,rfl⟩:=u;cases e with
  |qI=>cases a;exact neTo (RcNeAt.int_none r t1)
  |bl c=>cases a;exact neTo (RcNeAt.int_bool r t1 c)
  |int f=>obtain⟨b,rfl⟩:=a;exact neTo (RcNeAt.int_int r t1 f b)
  |str h=>obtain⟨b,rfl⟩:=a;exact neTo (RcNeAt.int_str r t1 h b)
  |qE g=>obtain⟨i,j,rfl,y2,n⟩:=a;exact neTo (RcNeAt.int_tuple r t1 y2 hu)
  |qA g=>obtain⟨i,j,rfl,y2,n⟩:=a;exact neTo (RcNeAt.int_list r t1 y2 hu)
  |_=>exact kF q rfl
 |str t=>
  obtain⟨t1,rfl⟩:=u;cases e with
  |qI=>cases a;exact neTo (RcNeAt.str_none t t1)
  |bl c=>cases a;exact neTo (RcNeAt.str_bool t t1 c)
  |int f=>obtain⟨b,rfl⟩:=a;exact neTo (RcNeAt.str_int t t1 f b)
  |str h=>obtain⟨b,rfl⟩:=a;exact neTo (RcNeAt.str_str t t1 h b)
  |qE g=>obtain⟨i,j,rfl,y2,n⟩:=a;exact neTo (RcNeAt.str_tuple t t1 y2 hu)
  |qA g=>obtain⟨i,j,rfl,y2,n⟩:=a;exact neTo (RcNeAt.str_list t t1 y2 hu)
  |_=>exact kF q rfl
 |qE C=>
  refine qN u λz y x y1 E=>?_;subst x;cases e with
  |qI=>cases a;exact neTo (RcNeAt.tuple_none y1 hu)
  |bl c=>cases a;exact neTo (RcNeAt.tuple_bool c y1 hu)
  |int f=>obtain⟨b,rfl⟩:=a;exact neTo (RcNeAt.tuple_int f b y1 hu)
  |str h=>obtain⟨b,rfl⟩:=a;exact neTo (RcNeAt.tuple_str h b y1 hu)
  |qE g=>exact B _ rfl _ rfl
  |qA g=>obtain⟨i,j,rfl,y2,n⟩:=a;exact neTo (RcNeAt.tuple_list y1 y2 hu)
  |_=>exact kF q rfl
 |qA C=>
  refine qN u λz y x y1 E=>?_;subst x;cases e with
  |qI=>cases a;exact neTo (RcNeAt.list_none y1 hu)
  |bl c=>cases a;exact neTo (RcNeAt.list_bool c y1 hu)
  |int f=>obtain⟨b,rfl⟩:=a;exact neTo (RcNeAt.list_int f b y1 hu)
  |str h=>obtain⟨b,rfl⟩:=a;exact neTo (RcNeAt.list_str h b y1 hu)
  |qE g=>obtain⟨i,j,rfl,y2,n⟩:=a;exact neTo (RcNeAt.list_tuple y1 y2 hu)
  |qA g=>exact hl _ rfl _ rfl
  |_=>exact kF q rfl
 |_=>exact kF p rfl
def P8{A:Around}{s:Shared}{k:Nat}(n:∀{A:Around}{d e:D}{u v:Value},qV k d=Qb->qV k e=Qb->Dv s.heap d u->Dv s.heap e v->A.units+k<cLine->EqAt A s u v (qM d e))
  {ds es:List D}{us vs:List Value}(p:ds.all (qV k)=Qb) (q:es.all (qV k)=Qb) (x:zU s.heap ds us) (y:zU s.heap es vs) (hu:A.units+k<cLine):
  ∀j(a:j<us.toArray.size)(b:j<vs.toArray.size),EqAt A s us.toArray[j] vs.toArray[j] (uT ds es j):=by
 intro j a b;have c:j<ds.length:=by rw[x.length];simpa using a
 have f:j<es.length:=by rw[y.length];simpa using b
 refine qH (x.get (Qy c)) λu g o=>?_;refine qH (y.get (Qy f)) λv h r=>?_;have i:us.toArray[j]=u:=by have:us[j]?=Qa u:=g;rw[Qy (by simpa using a)]at this;simpa using this
 have l:vs.toArray[j]=v:=by have:vs[j]?=Qa v:=h;rw[Qy (by simpa using b)]at this;simpa using this
 rw[i,l];have m:uT ds es j=qM ds[j] es[j]:=by simp[uT,c,f]
 rw[m];exact n (QL.mp p _ (Jz c)) (QL.mp q _ (Jz f)) o r hu
theorem xE:∀(k:Nat){A:Around}{s:Shared}{d e:D}{u v:Value},qV k d=Qb->qV k e=Qb->Dv s.heap d u->Dv s.heap e v->A.units+k<cLine->EqAt A s u v (qM d e)
 |0,A,s,d,e,u,v,p,q,x,y,hu=>fP (λl h=>by subst h;simp[qV]at p) (λl h=>by subst h;simp[qV]at p) #[0,p] #[0,q] x y ∅
 |k+1,A,s,d,e,u,v,p,q,x,y,hu=>by
  refine fP (λl h m h'=>?_) (λl h m h'=>?_) #[_,p] #[_,q] x y ∅
  .subst h h';refine qN x λa us f g c=>?_;subst f;refine qN y λb vs f y1 y2=>?_;subst f
   by_cases ne:a=b
   .subst ne;have:=EO (k+1) p q (#[a,us,rfl,g,c]) (#[a,vs,rfl,y1,y2]);rw[this];exact EqAt.same _
   .rw[yP]at p q;have h:=RcAt.tuples g y1 (show A.units<cLine by lia) (P8 (λ{A d e u v}=>xE k) p q c y2 (by rw[Q8];lia));have i:us.toArray.size=l.length:=(by rw[c.length];simp);have j:vs.toArray.size=m.length:=(by rw[y2.length];simp);rw[i,j,Fj]at h;have n:qM (.qE l) (.qE m)=zf l m:=(by simp[qM]);rw[n];exact EqAt.of_refs ne h
  .subst h h';refine qN x λa us f g c=>?_;subst f;refine qN y λb vs f y1 y2=>?_;subst f
   by_cases ne:a=b
   .subst ne;have:=EO (k+1) p q (#[a,us,rfl,g,c]) (#[a,vs,rfl,y1,y2]);rw[this];exact EqAt.same _
   .rw[Tq]at p q;have i:us.toArray.size=l.length:=(by rw[c.length];simp);have j:vs.toArray.size=m.length:=(by rw[y2.length];simp);have n:qM (.qA l) (.qA m)=zf l m:=(by simp[qM]);rw[n]
    by_cases hl:l.length=m.length
    .have h:=RcAt.lists g y1 (by rw[i,j,hl]) (show A.units<cLine by lia) (P8 (λ{A d e u v}=>xE k) p q c y2 (by rw[Q8];lia));rw[i,LF hl]at h;exact EqAt.of_refs ne h
    .have h:=RcAt.lists_lengths g y1 (by rw[i,j];simpa using hl) (show A.units<cLine by lia);rw[EN hl];exact EqAt.of_refs ne h
def q7G(k:Nat){A:Around}{s:Shared}{d e:D}{u v:Value}(p:qV k d=Qb)(q:qV k e=Qb)(x:Dv s.heap d u)(y:Dv s.heap e v)(hu:A.units+k<cLine):RcAt A s u v (qM d e):=by
 refine q7H (λl h m h'=>?_) (λl h m h'=>?_) #[_,p] #[_,q] x y ∅
 .subst h h';cases k with
  |zero=>simp[qV]at p
  |succ k=>
   refine qN x λa us c j g=>?_;subst c;refine qN y λb vs c y1 y2=>?_;subst c;rw[yP]at p q;have h:=RcAt.tuples j y1 (show A.units<cLine by lia) (P8 (λ{A d e u v}=>xE k) p q g y2 (by rw[Q8];lia));have f:us.toArray.size=l.length:=(by rw[g.length];simp);have i:vs.toArray.size=m.length:=(by rw[y2.length];simp);rw[f,i,Fj]at h;have n:qM (.qE l) (.qE m)=zf l m:=(by simp[qM]);rw[n];exact h
 .subst h h';cases k with
  |zero=>simp[qV]at p
  |succ k=>
   refine qN x λa us c j g=>?_;subst c;refine qN y λb vs c y1 y2=>?_;subst c;rw[Tq]at p q;have f:us.toArray.size=l.length:=(by rw[g.length];simp);have i:vs.toArray.size=m.length:=(by rw[y2.length];simp);have n:qM (.qA l) (.qA m)=zf l m:=(by simp[qM]);rw[n]
   by_cases hl:l.length=m.length
   .have h:=RcAt.lists j y1 (by rw[f,i,hl]) (show A.units<cLine by lia) (P8 (λ{A d e u v}=>xE k) p q g y2 (by rw[Q8];lia));rw[f,LF hl]at h;exact h
   .rw[EN hl];exact RcAt.lists_lengths j y1 (by rw[f,i];simpa using hl) ∅
def q7I(k:Nat){A:Around}{s:Shared}{d e:D}{u v:Value}(p:qV k d=Qb)(q:qV k e=Qb)(x:Dv s.heap d u)(y:Dv s.heap e v)(hu:A.units+k<cLine):RcNeAt A s u v (!qM d e):=by
 refine q7J (λl h m h'=>?_) (λl h m h'=>?_) #[_,p] #[_,q] x y ∅
 .subst h h';cases k with
  |zero=>simp[qV]at p
  |succ k=>
   refine qN x λa us c j g=>?_;subst c;refine qN y λb vs c y1 y2=>?_;subst c;rw[yP]at p q;have h:=RcNeAt.tuples j y1 (show A.units<cLine by lia) (P8 (λ{A d e u v}=>xE k) p q g y2 (by rw[Q8];lia));have f:us.toArray.size=l.length:=(by rw[g.length];simp);have i:vs.toArray.size=m.length:=(by rw[y2.length];simp);rw[f,i,Fj]at h;have n:qM (.qE l) (.qE m)=zf l m:=(by simp[qM]);rw[n];exact h
 .subst h h';cases k with
  |zero=>simp[qV]at p
  |succ k=>
   refine qN x λa us c j g=>?_;subst c;refine qN y λb vs c y1 y2=>?_;subst c;rw[Tq]at p q;have f:us.toArray.size=l.length:=(by rw[g.length];simp);have i:vs.toArray.size=m.length:=(by rw[y2.length];simp);have n:qM (.qA l) (.qA m)=zf l m:=(by simp[qM]);rw[n]
   by_cases hl:l.length=m.length
   .have h:=RcNeAt.lists j y1 (by rw[f,i,hl]) (show A.units<cLine by lia) (P8 (λ{A d e u v}=>xE k) p q g y2 (by rw[Q8];lia));rw[f,LF hl]at h;exact h
   .rw[EN hl];exact RcNeAt.lists_lengths j y1 (by rw[f,i];simpa using hl) ∅
end Ev
namespace Ev
open PySem
mutual
noncomputable def norm:D->D
 |.bl b=>.int (b2i b)
 |.qE l=>.qE (ug l)
 |.qA l=>.qA (ug l)
 |d=>d
noncomputable def ug:List D->List D
 |[]=>[]
 |a::l=>norm a::ug l
end
theorem LD{k:Nat}(a:∀{d e:D},qV k d=Qb->qV k e=Qb->(qM d e=Qb↔norm d=norm e)):∀{l m:List D},l.all (qV k)=Qb->m.all (qV k)=Qb->(zf l m=Qb↔ug l=ug m)
 |[],[],_,_=>by simp[zf,ug]
 |[],_::_,_,_=>by simp[zf,ug]
 |_::_,[],_,_=>by simp[zf,ug]
 |d::l,e::m,p,q=>by simp only[YE,Qo]at p q;simp only[zf,ug,Qo,Z3];rw[a p.1 q.1,LD a p.2 q.2]
theorem Fm:∀(k:Nat){d e:D},qV k d=Qb->qV k e=Qb->(qM d e=Qb↔norm d=norm e)
 |0,d,e,p,q=>by
  cases d<;>cases e<;>first
   |(simp[qV]at p;done)
   |(simp[qV]at q;done)
   |(simp[qM,norm,b2i];done)
   |(rename_i a b;cases a<;>cases b<;>simp[qM,norm,b2i];done)
   |(rename_i a b;cases a<;>simp[qM,norm,b2i]<;>lia)
   |(rename_i a b;cases b<;>simp[qM,norm,b2i]<;>lia)
 |k+1,d,e,p,q=>by
  cases d<;>cases e<;>first
   |(simp[qV]at p;done)
   |(simp[qV]at q;done)
   |(simp[qM,norm,b2i];done)
   |(rw[yP]at p q;simpa[qM,norm]using LD (λ{d e}=>Fm k) p q;done)
   |(rw[Tq]at p q;simpa[qM,norm]using LD (λ{d e}=>Fm k) p q;done)
   |(rename_i a b;cases a<;>cases b<;>simp[qM,norm,b2i];done)
   |(rename_i a b;cases a<;>simp[qM,norm,b2i]<;>lia)
   |(rename_i a b;cases b<;>simp[qM,norm,b2i]<;>lia)
def q1S{k:Nat}{d d' e:D}(p:qV k d=Qb)(a:qV k d'=Qb)(q:qV k e=Qb)(h:qM d d'=Qb):qM d e=qM d' e:=by rw[Q0,Fm k p q,Fm k a q,((Fm k p a).mp h)]
end Ev
namespace Ev
open PySem PySem.SeqAt
open PySem.AutoSeq1 (wpAny_loadPart')
open PySem.MeetsSeq PySem.MeetsSeq2 PySem.MeetsSeq3
def IA(A:Around)(s:Shared)(u v:Value)(b:Bool):Prop:=
 ∀(prog:Program)(w:World)(E:NZ)(Q:NZ),Q (.bool b) s->wpAny (model prog w) A (richCompare .Lt u v) Q E s
def Ax(A:Around)(s:Shared)(u v:Value)(b:Bool):Prop:=
 ∀(prog:Program)(w:World)(E:NZ)(Q:NZ),Q (.bool b) s->wpAny (model prog w) A (richCompare .GtE u v) Q E s
def qA8(l b:Addr)(o m:List Value)(n N:Nat)(dd U:Option Addr)(sl T:Array (Option Value))(ds es:List D)(c:jw ds es=Qb):
  Meets (Ub.«tuple.__lt__» #[[.ref l,.ref b],[]])
   (λA R s=>s.heap.get? l=Qa {cls:=.type "tuple",dict:=dd,data:=.seq o.toArray n,slots:=sl}/\s.heap.get? b=Qa {cls:=.type "tuple",dict:=U,data:=.seq m.toArray N,slots:=T}/\
    zU s.heap ds o/\zU s.heap es m/\(∀d∈ds,∀e∈es,∀u v,Dv s.heap d u->Dv s.heap e v->EqAt A.in1 s u v (qM d e)/\(zm d e=Qb->IA A.in1 s u v (qm d e)))/\
    R (.ok (.ret (.bool (zD ds es)))) s):=
 .of_wp λprog w A R s h=>by
  obtain⟨q,g,d,J,os⟩:=s;obtain⟨hl,hb,k,I,K,h⟩:=h;have Z:=WJ;have z1:o.toArray.size=ds.length:=by rw[k.length];simp
  have z2:m.toArray.size=es.length:=by rw[I.length];simp
  wp_walk using VP hl,VP hb,UB _ (λrest b E=>b.1=Qc/\E=#[q,g,d,J,os]/\∃(vs ws:List Value)(f a:List D),rest=vs.zip ws/\
   zU q f vs/\zU q a ws/\(∀x∈f,x∈ds)/\(∀x∈a,x∈es)/\jw f a=Qb/\f.length+m.toArray.size=a.length+o.toArray.size/\R (.ok (.ret (.bool (zD f a)))) #[q,g,d,J,os]) _
  case turn=>
   rintro⟨y,x⟩ rest b E ⟨C,rfl,vs,ws,f,a,i,hv,hw,F,G,hc,p,j⟩;cases f with
   |nil=>cases hv;rw[Wh]at i;cases i
   |cons r L=>
    refine qN hv λu1 r1 z O P=>?_;subst z;cases a with
    |nil=>cases hw;rw[V1]at i;cases i
    |cons t W=>
     refine qN hw λu2 r2 B Q S=>?_;subst B;rw[Jq]at i;injection i with ON TU
     injection ON with XJ DK
     subst XJ DK;rw[zD]at j;rw[jw]at hc;simp only[QH]at p;have H:=K r (F r Qg) t (G t Qg) _ _ O Q;refine Qe (H.1 prog w _ _ ?_);cases e:qM r t with
     |true=>
      rw[e,if_pos rfl]at j hc
      wp_walk
      exact#[rfl,rfl,_,_,_,_,TU,P,S,λx k=>F x (Qd _ k),λx k=>G x (Qd _ k),hc,∅,j]
     |false=>
      rw[e,if_neg (by simp)]at j hc;have V:=H.2 hc prog w
      wp_walk using V
      exact#[_,rfl,by simpa using j]
  case fin=>
   rintro⟨X,Y⟩ E ⟨C,rfl,vs,ws,f,a,i,hv,hw,F,G,hc,p,j⟩;simp only at C;subst C;have M:zD f a=decide (o.toArray.size<m.toArray.size):=by
    cases f with
    |nil=>cases a with
     |nil=>
      simp only[JF]at p;rw[show zD [] []=Qf by simp[zD]];exact(decide_eq_false ∅).symm
     |cons _ _=>
      simp only[JF,QH]at p;rw[zD];exact(decide_eq_true ∅).symm
    |cons _ _=>cases a with
     |nil=>
      simp only[JF,QH]at p;rw[zD];exact(decide_eq_false ∅).symm
     |cons _ _=>
      refine ja hv λ_ _ z _=>?_;refine ja hw λ_ _ B _=>?_;subst z B;rw[Jq]at i;cases i
   rw[M]at j
   wp_walk
   exact#[_,rfl,by simpa[Vv]using j]
  case h=>
   exact#[rfl,rfl,o,m,ds,es,by simp,k,I,λ_ h=>h,λ_ h=>h,c,∅,h]
def qA6(l b:Addr)(o m:List Value)(n N:Nat)(dd U:Option Addr)(sl T:Array (Option Value))(ds es:List D)(c:jw ds es=Qb):
  Meets (Ub.«tuple.__ge__» #[[.ref l,.ref b],[]])
   (λA R s=>s.heap.get? l=Qa {cls:=.type "tuple",dict:=dd,data:=.seq o.toArray n,slots:=sl}/\s.heap.get? b=Qa {cls:=.type "tuple",dict:=U,data:=.seq m.toArray N,slots:=T}/\
    zU s.heap ds o/\zU s.heap es m/\(∀d∈ds,∀e∈es,∀u v,Dv s.heap d u->Dv s.heap e v->EqAt A.in1 s u v (qM d e)/\(zm d e=Qb->Ax A.in1 s u v (!qm d e)))/\
    R (.ok (.ret (.bool (!zD ds es)))) s):=
 .of_wp λprog w A R s h=>by
  obtain⟨q,g,d,J,os⟩:=s;obtain⟨hl,hb,k,I,K,h⟩:=h;have Z:=WJ;have z1:o.toArray.size=ds.length:=by rw[k.length];simp
  have z2:m.toArray.size=es.length:=by rw[I.length];simp
  wp_walk using VP hl,VP hb,UB _ (λrest b E=>b.1=Qc/\E=#[q,g,d,J,os]/\∃(vs ws:List Value)(f a:List D),rest=vs.zip ws/\
   zU q f vs/\zU q a ws/\(∀x∈f,x∈ds)/\(∀x∈a,x∈es)/\jw f a=Qb/\f.length+m.toArray.size=a.length+o.toArray.size/\R (.ok (.ret (.bool (!zD f a)))) #[q,g,d,J,os]) _
  case turn=>
   rintro⟨y,x⟩ rest b E ⟨C,rfl,vs,ws,f,a,i,hv,hw,F,G,hc,p,j⟩;cases f with
   |nil=>cases hv;rw[Wh]at i;cases i
   |cons r L=>
    refine qN hv λu1 r1 z O P=>?_;subst z;cases a with
    |nil=>cases hw;rw[V1]at i;cases i
    |cons t W=>
     refine qN hw λu2 r2 B Q S=>?_;subst B;rw[Jq]at i;injection i with ON TU
     injection ON with XJ DK
     subst XJ DK;rw[zD]at j;rw[jw]at hc;simp only[QH]at p;have H:=K r (F r Qg) t (G t Qg) _ _ O Q;refine Qe (H.1 prog w _ _ ?_);cases e:qM r t with
     |true=>
      rw[e,if_pos rfl]at j hc
      wp_walk
      exact#[rfl,rfl,_,_,_,_,TU,P,S,λx k=>F x (Qd _ k),λx k=>G x (Qd _ k),hc,∅,j]
     |false=>
      rw[e,if_neg (by simp)]at j hc;have V:=H.2 hc prog w
      wp_walk using V
      exact#[_,rfl,by simpa using j]
  case fin=>
   rintro⟨X,Y⟩ E ⟨C,rfl,vs,ws,f,a,i,hv,hw,F,G,hc,p,j⟩;simp only at C;subst C;have M:(!zD f a)=decide (o.toArray.size≥m.toArray.size):=by
    cases f with
    |nil=>cases a with
     |nil=>
      simp only[JF]at p;rw[show zD [] []=Qf by simp[zD]];exact(decide_eq_true ∅).symm
     |cons _ _=>
      simp only[JF,QH]at p;rw[zD];exact(decide_eq_false ∅).symm
    |cons _ _=>cases a with
     |nil=>
      simp only[JF,QH]at p;rw[zD];exact(decide_eq_true ∅).symm
     |cons _ _=>
      refine ja hv λ_ _ z _=>?_;refine ja hw λ_ _ B _=>?_;subst z B;rw[Jq]at i;cases i
   rw[M]at j
   wp_walk
   exact#[_,rfl,by simpa[Vv]using j]
  case h=>
   exact#[rfl,rfl,o,m,ds,es,by simp,k,I,λ_ h=>h,λ_ h=>h,c,∅,h]
def S4:∀(k:Nat){A:Around}{s:Shared}{d e:D}{u v:Value},qV k d=Qb->qV k e=Qb->qJ d=Qb->qJ e=Qb->zm d e=Qb->Dv s.heap d u->Dv s.heap e v->A.units+k<cLine->IA A s u v (qm d e)/\Ax A s u v (!qm d e):=by
 intro k
 induction k with
 |zero=>
  intro A s d e u v p q m z c x y hu;cases d<;>cases e<;>first
   |(simp[zm]at c;done)
   |(simp[qV]at p;done)
   |skip
  obtain⟨t,rfl⟩:=x;obtain⟨t',rfl⟩:=y;refine#[λprog w E Q h=>?_,λprog w E Q h=>?_]
  .exact (WS (by simpa[qm]using h):wpAny (model prog w) A (Jy .Lt _ _) Q E s)
  .refine (WT ?_:wpAny (model prog w) A (Jy .GtE _ _) Q E s);have e:∀a b:Int,(!decide (a<b))=decide (b<=a):=λa b=>by rw[Q0];simp
   simp only[qm]at h;rw[e]at h;exact h
 |succ k N=>
  intro A s d e u v p q m z c x y hu;cases d<;>cases e<;>first
   |(simp[zm]at c;done)
   |(simp[qJ]at m;done)
   |skip
  .obtain⟨t,rfl⟩:=x;obtain⟨t',rfl⟩:=y;refine#[λprog w E Q h=>?_,λprog w E Q h=>?_]
   .exact (WS (by simpa[qm]using h):wpAny (model prog w) A (Jy .Lt _ _) Q E s)
   .refine (WT ?_:wpAny (model prog w) A (Jy .GtE _ _) Q E s);have e:∀a b:Int,(!decide (a<b))=decide (b<=a):=λa b=>by rw[Q0];simp
    simp only[qm]at h;rw[e]at h;exact h
  .rename_i ds es;refine qN x λa us o O I=>?_;subst o;refine qN y λb vs o y1 y2=>?_;subst o;rw[yP]at p q;have r:jw ds es=Qb:=(by simpa[zm]using c);have R:zO ds=Qb:=(by simpa[qJ]using m);have P:zO es=Qb:=(by simpa[qJ]using z);obtain⟨⟨cls,dd,data,sl⟩,j,hc,n,hd⟩:=id O;obtain⟨⟨S,K,data2,J⟩,l,H,B,g⟩:=id y1;simp only at hc hd H g;subst hc hd H g;have i:∀d∈ds,∀e∈es,∀u v,Dv s.heap d u->Dv s.heap e v->EqAt A.in1 s u v (qM d e)/\(zm d e=Qb->IA A.in1 s u v (qm d e)/\Ax A.in1 s u v (!qm d e)):=by intro d hd e f u v x y;have C:=QL.mp p d hd;have G:=QL.mp q e f;have L:A.in1.units+k<cLine:=(by rw[Q8];lia);exact#[xE k C G x y L,λc=>N C G (kz.mp R d hd) (kz.mp P e f) c x y L]
   have M:qm (.qE ds) (.qE es)=zD ds es:=(by simp[qm]);rw[M];refine#[λprog w E Q h=>?_,λprog w E Q h=>?_]
   .exact richCompare_meets_room #[_,j,rfl] #[_,l,rfl] PySem.F.slot_tuple_lt PySem.F.entry_tuple_lt (PySem.F.args_tuple_lt_2 _ _) (qA8 a b us vs n B dd K sl J ds es r)
     #[j,l,I,y2,λd hd e f u v x y=>#[(i d hd e f u v x y).1,λc=>((i d hd e f u v x y).2 c).1],show WN (zD ds es)≠ZR/\Q (.bool (zD ds es)) s from#[(λx=>nomatch x),h]] ∅
   .exact richCompare_meets_room #[_,j,rfl] #[_,l,rfl] PySem.F.slot_tuple_ge PySem.F.entry_tuple_ge (PySem.F.args_tuple_ge_2 _ _) (qA6 a b us vs n B dd K sl J ds es r)
     #[j,l,I,y2,λd hd e f u v x y=>#[(i d hd e f u v x y).1,λc=>((i d hd e f u v x y).2 c).2],show WN (!zD ds es)≠ZR/\Q (.bool (!zD ds es)) s from#[(λx=>nomatch x),h]] ∅
end Ev
namespace Ev
open PySem
mutual
noncomputable def hv:D->Int
 |.int i=>hashInt i
 |.qE ds=>reduceHash (Jn (vx ds))
 |_=>0
noncomputable def vx:List D->List Int
 |[]=>[]
 |d::ds=>hv d::vx ds
end
theorem OH:∀a b:List D,vx (a++b)=vx a++vx b
 |[],_=>by simp[vx]
 |d::a,b=>by simp[vx,OH a b]
mutual
noncomputable def dr:D->Nat
 |.qE ds=>xD ds+1
 |_=>1
noncomputable def xD:List D->Nat
 |[]=>0
 |d::ds=>dr d+xD ds
end
theorem L0:∀a b:List D,xD (a++b)=xD a+xD b
 |[],_=>by simp[xD]
 |d::a,b=>by simp[xD,L0 a b,V2]
section
variable{prog:Program}{w:World}
def pG:∀(k:Nat){A:Around}{E:NZ}{s:Shared}{d:D}{u:Value}{Q:Int->Shared->Prop},qV k d=Qb->qJ d=Qb->Dv s.heap d u->A.units+k<cLine->
  Q (hv d) {s with toks:=s.toks+dr d}->wpAny (model prog w) A (pyHash u) Q E s:=by
 intro k
 induction k with
 |zero=>
  intro A E s d u Q p g x hu h;cases d<;>first
   |(simp[qJ]at g;done)
   |(simp[qV]at p;done)
   |skip
  obtain⟨t,rfl⟩:=x;exact Za (by simpa[hv,dr]using h)
 |succ k G=>
  intro A E s d u Q p g x hu h;cases d<;>first
   |(simp[qJ]at g;done)
   |skip
  .obtain⟨t,rfl⟩:=x;exact Za (by simpa[hv,dr]using h)
  .rename_i ds;refine qN x λa us J B I=>?_;subst J;rw[yP]at p;have f:s.TypeIs (.ref a) "tuple":=qd B λo j hc _=>#[o,j,hc]
   obtain⟨o,j,hc,n,hd⟩:=B;unfold pyHash pyHashByItsType;refine Qe (wpAny_cRoomFor_or (.inr ∅) ?_);refine Qe (UM f F.slot_tuple_hash.lookup (UN (λz=>absurd z (by rw[beq_builtin_none];decide)) λ_=>Qe (UM f F.slot_tuple_hash.lookup (Qe (wpAny_callSpecialIfBoundUnlessNone?_slot f F.slot_tuple_hash
    (J8 F.slot_tuple_hash f F.entry_tuple_hash (show wpAny _ _ (Ui _>>=_) _ _ s from Qe (wpAny_tupleItemsOf j hd (Qe ?_))) (F.args_tuple_hash_1 _)))))))
   rw[<-Array.forIn_toList];refine UB _
    (λrest(b:Array Int) l=>∃done left,ds=done++left/\zU s.heap left rest/\b.toList=vx done/\l={s with toks:=s.toks+xD done})
    _ ?_ ?_ _ _ #[[],ds,rfl,by simpa using I,by simp[vx],rfl]
   .rintro y rest b l ⟨done,left,e,hl,hb,rfl⟩;cases left with
    |nil=>cases hl
    |cons i left=>
     refine qN hl λL K C H v=>?_;injection C with e2 e3
     subst e2 e3;have m:i∈ds:=(by rw[e];simp);refine Qe (G (QL.mp p _ m) (kz.mp (by simpa[qJ]using g) _ m) H (by rw[Q8];lia) ?_)
     first
      |exact Qi #[done++[i],left,by simp[e],v,by simp[hb,OH,vx],by simp[L0,xD,V2]]
      |exact Qe (Qi (Qi #[done++[i],left,by simp[e],v,by simp[hb,OH,vx],by simp[L0,xD,V2]]))
   .rintro b l ⟨done,left,e,hl,hb,rfl⟩;cases left with
    |cons _ _=>obtain⟨_,_,q,_⟩:=hl;cases q
    |nil=>
     rw[Ja]at e;subst e;show wpAny _ _ (retInt (Jn b.toList)) _ _ _;rw[hb];refine wpAny_ret_mkInt ?_;show wpAny _ _ (if(decide (-(2:Int)^63<=Jn (vx ds))&&decide (Jn (vx ds)<2^63))=Qb then _ else _) Q E _;have c:Q (reduceHash (Jn (vx ds))) {s with toks:=s.toks+xD ds+1}:=(by simpa[hv,dr,V2]using h);unfold reduceHash at c
     by_cases r:(decide (-(2:Int)^63<=Jn (vx ds))&&decide (Jn (vx ds)<2^63))=Qb
     .rw[if_pos r]at c|-;exact Qi c
     .rw[if_neg r]at c|-;exact Qe (ZS (Qi c))
def q72{A:Around}{E:NZ}{s:Shared}{d:D}{u:Value}{Q:Int->Shared->Prop}(k:Nat)(p:qV k d=Qb)(a:qJ d=Qb)(x:Dv s.heap d u)(hu:A.units+k<cLine)
  (h:∀t,Q (hv d) {s with toks:=t}):wpAny (model prog w) A (pyHash u) Q E s:=pG k p a x hu (h _)
def L6{M:ZL}{A:Around}{E:NZ}{s:Shared}{b:Type}{us:List Value}{a:b}{body:Value->b->Sem (ForInStep b)}{Q:b->Shared->Prop}{ds:List D}(x:zU s.heap ds us)
  (hb:∀v d,d∈ds->Dv s.heap d v->∀c:ForInStep b->Shared->Prop,c (.yield a) s->wpAny M A (body v a) c E s) (h:Q a s):wpAny M A (forIn us.toArray a body) Q E s:=by
 rw[<-Array.forIn_toList];refine UB _ (λrest r t=>(r=a/\t=s)/\∀v∈rest,v∈us) _ (λv rest r t i=>?_) (λr t i=>?_) _ _ #[#[rfl,rfl],λv hv=>by simpa using hv]
 .obtain⟨⟨rfl,rfl⟩,m⟩:=i;refine qH (x.mem (m v Qg)) λd hd z=>?_;exact hb v d hd z _ #[#[rfl,rfl],λy e=>m y (Qd _ e)]
 .obtain⟨⟨rfl,rfl⟩,_⟩:=i;exact h
def ag:∀(k n:Nat){A:Around}{E:NZ}{s:Shared}{d:D}{u:Value}{Q:Bool->Shared->Prop},k<=n->qV k d=Qb->qJ d=Qb->Dv s.heap d u->Q Qb s->wpAny (model prog w) A (eqIsQuiet n u) Q E s:=by
 intro k
 induction k with
 |zero=>
  intro n A E s d u Q i p b x h;cases d<;>first
   |(simp[qJ]at b;done)
   |(simp[qV]at p;done)
   |skip
  obtain⟨t,rfl⟩:=x;rw[eqIsQuiet_byValue _ (by rfl)];exact Qi h
 |succ k j=>
  intro n A E s d u Q i p b x h;cases d<;>first
   |(simp[qJ]at b;done)
   |skip
  .obtain⟨t,rfl⟩:=x;rw[eqIsQuiet_byValue _ (by rfl)];exact Qi h
  .rename_i ds;refine qN x λa us r g l=>?_;subst r;rw[yP]at p;have f:s.TypeIs (.ref a) "tuple":=qd g λo c hc _=>#[o,c,hc]
   obtain⟨o,c,hc,m,hd⟩:=g;cases n with
   |zero=>lia
   |succ n=>
    unfold eqIsQuiet;refine Qe (UM f F.slot_tuple_eq.lookup (Qe (Zf f isSubtype_tuple_tuple (Qe (ZT c hd ?_)))));refine Qe (L6 l (λv B e z y q=>Qe (j n ∅ (QL.mp p _ e) (kz.mp (by simpa[qJ]using b) _ e) z (Qi q))) ?_);exact Qi h
def oK:∀(k n:Nat){A:Around}{E:NZ}{s:Shared}{d:D}{u:Value}{Q:Bool->Shared->Prop},k<=n->qV k d=Qb->qJ d=Qb->Dv s.heap d u->Q Qf s->wpAny (model prog w) A (Vh n u) Q E s:=by
 intro k
 induction k with
 |zero=>
  intro n A E s d u Q i p b x h;cases d<;>first
   |(simp[qJ]at b;done)
   |(simp[qV]at p;done)
   |skip
  obtain⟨t,rfl⟩:=x;unfold Vh;exact Qi h
 |succ k j=>
  intro n A E s d u Q i p b x h;cases d<;>first
   |(simp[qJ]at b;done)
   |skip
  .obtain⟨t,rfl⟩:=x;unfold Vh;exact Qi h
  .rename_i ds;refine qN x λa us r f l=>?_;subst r;rw[yP]at p;have g:s.TypeIs (.ref a) "tuple":=qd f λo c hc _=>#[o,c,hc]
   obtain⟨o,c,hc,m,hd⟩:=f;cases n with
   |zero=>lia
   |succ n=>
    unfold Vh;refine Qe (VJ g (Qe (Qi (Qe (ZT c hd ?_)))));refine Qe (L6 l (λv B e z y q=>Qe (j n ∅ (QL.mp p _ e) (kz.mp (by simpa[qJ]using b) _ e) z (Qi q))) ?_);exact Qi h
def q0l:∀(k n:Nat){A:Around}{E:NZ}{s:Shared}{d:D}{u:Value}{Q:Bool->Shared->Prop},k<=n->qV k d=Qb->qJ d=Qb->Dv s.heap d u->Q Qb s->wpAny (model prog w) A (hashByValue n u) Q E s:=by
 intro k
 induction k with
 |zero=>
  intro n A E s d u Q i p b x h;cases d<;>first
   |(simp[qJ]at b;done)
   |(simp[qV]at p;done)
   |skip
  obtain⟨t,rfl⟩:=x;cases n<;>exact Qi h
 |succ k j=>
  intro n A E s d u Q i p b x h;cases d<;>first
   |(simp[qJ]at b;done)
   |skip
  .obtain⟨t,rfl⟩:=x;cases n<;>exact Qi h
  .rename_i ds;refine qN x λa us r f l=>?_;subst r;rw[yP]at p;have g:s.TypeIs (.ref a) "tuple":=qd f λo c hc _=>#[o,c,hc]
   obtain⟨o,c,hc,m,hd⟩:=f;cases n with
   |zero=>lia
   |succ n=>
    unfold hashByValue;refine Qe (UM g F.slot_tuple_hash.lookup (Qe (ZT c hd ?_)));refine Qe (L6 l (λv B e z y q=>Qe (j n ∅ (QL.mp p _ e) (kz.mp (by simpa[qJ]using b) _ e) z (Qi q))) ?_);exact Qi h
end
end Ev
namespace Snd
open PySem PySem.Spec PyProof.Rows L2 Ev
variable{H H1 H2 H' Hf kq H0:Hp}{a e tg iter elt:Qs}{K:QC}{vs:List V}{d r:D}{v:V}{ds xs:List D}{O as O0 fp:List Addr}{o:HO}{op:ZQ}{X:Cx}{f:List D->R D}{c:Prop}{x:Str}{i k1:Nat}{pins:List (Addr×Obj)}{Y:L2.St}{s s' s2:Shared}{u:Value}{h:Heap}{us:List Value}{A:Around}{Z:Ev.Env}{os:List (List Addr)}{G:Nat->List D->R D}{sub:Nat->Nat->Bool}{l lb:L}{α β:Type}{E:NZ}{pos j0 q:WD}{es ifs:List Qs}{ls:List L}{body:List Stmt}{J:It}{kvs:List (Key×V)}{P:Program}{w:World}{it:Addr}{li:I}{scope sc:Scope}{env:JM}{ts:List Str}
def u7(a C:Addr):Heap->Prop:=λh=>∃o,h.get? a=Qa o/\o.cls=.ref C
noncomputable def zo:Key->D
 |.inl i=>.int i
 |.inr x=>.str x
mutual
def Xm(K:QC)(T:Addr->List V->Prop):D->V->Prop
 |.int i,v=>v=.int i
 |.qE ds,v=>∃a vs,v=.ref a/\(T a vs\/zw K (λ_=>Qc) a vs)/\vs.length<=QD/\RD K T ds vs
 |_,_=>False
def RD(K:QC)(T:Addr->List V->Prop):List D->List V->Prop
 |[],vs=>vs=[]
 |d::ds,vs=>∃v r,vs=v::r/\Xm K T d v/\RD K T ds r
end
def memψ(K:QC)(c:Int)(b:List D)(T:Addr->List V->Prop)(o:Obj):Prop:=∃(xs:List (D×Addr×Value))(es:Array DictEntry)(ep:Nat),o.ExactDict/\o.data=.dict es ep/\
 es.toList=xs.map (λx=>#[hv x.1,.ref x.2.1,x.2.2])/\(xs.map (·.1)).Nodup/\∀x∈xs,(∃ks,x.1=.qE ks/\wx ks b=Qb/\RelV (.int (uJ c ks)) x.2.2)/\qJ x.1=Qb/\pl x.1=Qb/\Xm K T x.1 (.ref x.2.1)
structure Pm where
 K:QC
 cls:List Addr
 C:Addr
 flds:List Str
 self:Addr×Addr
mutual
def Rep(p:Pm)(H:Hp):D->V->Prop
 |.qI,v=>v=.qI
 |.bl b,v=>v=.bl b
 |.int i,v=>v=.int i
 |.str x,v=>v=.str x/\x.length<=big
 |.qE ds,v=>∃a vs,v=.ref a/\zw p.K H a vs/\vs.length<=QD/\qK p H ds vs
 |.qA ds,v=>∃a vs,v=.ref a/\zM p.K H a vs/\qK p H ds vs
 |.z7 ks ds,v=>∃a kvs o,v=.ref a/\H a=Qa (.frz o (.dK kvs))/\ks=kvs.map (λq=>zo q.1)/\qK p H ds (kvs.map (·.2))
 |.exc c,v=>∃a C,v=.ref a/\p.cls[c]?=Qa C/\H a=Qa (.ext (u7 a C))
 |.obj fs,v=>∃a dx vs,v=.ref a/\H a=Qa (.ins p.C dx (p.flds.zip vs))/\H dx=Qa (.own a)/\vs.length<=p.flds.length/\qK p H fs vs
 |.mem c xs,v=>∃a,v=.ref a/\(a==JZ)=Qf/\H a=Qa (.memo (memψ p.K c xs))
def qK(p:Pm)(H:Hp):List D->List V->Prop
 |[],vs=>vs=[]
 |d::ds,vs=>∃v r,vs=v::r/\Rep p H d v/\qK p H ds r
end
def Ext(H H':Hp):Prop:=∀a o,H a=Qa o->H' a=Qa o
def Ext.refl(H:Hp):Ext H H:=λ_ _ e=>e
def Ext.trans(a:Ext H H1)(b:Ext H1 H2):Ext H H2:=λx o e=>b x o (a x o e)
theorem Ext.upd{H:Hp}{a:Addr}{o:HO}(n:H a=Qc):Ext H (upd H a o):=λb u e=>by rw[qW (jE e n)];exact e
def Ext.rd{a:Addr}{u:HO}(x:Ext H H')(r:Rd H a u):Rd H' a u:=r.elim (λe=>.inl (x _ _ e)) λ⟨o,e⟩=>.inr #[o,x _ _ e]
def Ext.R0(x:Ext H H'){a:Addr}(r:zM K H a vs):zM K H' a vs:=r.elim (λe=>.inl (x.rd e)) .inr
def Ext.va(x:Ext H H'){a:Addr}(r:zw K H a vs):zw K H' a vs:=r.elim (λe=>.inl (x.rd e)) .inr
def pS(x:Ext H H'):(∀d v,Rep p H d v->Rep p H' d v)/\(∀ds vs,qK p H ds vs->qK p H' ds vs):=by
 refine D.ind
  (λv h=>h) (λ_ v h=>h) (λ_ v h=>h) (λ_ v h=>h) (λl b v h=>?_) (λl b v h=>?_) (λk l t b v h=>?_) (λc v h=>?_) (λl b v h=>?_) (λc l b v h=>?_) (λvs h=>h) (λd ds m n vs h=>?_)
 .refine zN h λa vs e s z r=>?_;exact#[a,vs,e,x.va s,z,b _ r]
 .obtain⟨a,vs,e,s,r⟩:=h;exact#[a,vs,e,x.R0 s,b _ r]
 .obtain⟨a,kvs,o,e,s,q,r⟩:=h;exact#[a,kvs,o,e,x _ _ s,q,b _ r]
 .obtain⟨a,C,e,s,q⟩:=h;exact#[a,C,e,s,x _ _ q]
 .refine qY h λa dx vs e s q z r=>?_;exact#[a,dx,vs,e,x _ _ s,x _ _ q,z,b _ r]
 .obtain⟨a,e,z,s⟩:=h;exact#[a,e,z,x _ _ s]
 .refine qN h λv r e g j=>?_;exact#[v,r,e,m _ g,n _ j]
def Rep.mono(h:Rep p H d v)(x:Ext H H'):Rep p H' d v:=(pS x).1 d v h
def qK.mono(h:qK p H ds vs)(x:Ext H H'):qK p H' ds vs:=(pS x).2 ds vs h
theorem qK.length:∀{ds:List D}{vs:List V},qK p H ds vs->ds.length=vs.length
 |[],vs,h=>by cases h;rfl
 |d::ds,vs,h=>by refine qN h λv r e _ b=>?_;subst e;simp[qK.length b]
theorem qK.get:∀{ds:List D}{vs:List V}{i:Nat}{d:D},qK p H ds vs->ds[i]?=Qa d->∃v,vs[i]?=Qa v/\Rep p H d v
 |[],vs,i,d,h,e=>by simp at e
 |a::ds,vs,0,d,h,e=>by refine qN h λv r q j _=>?_;subst q;simp at e;subst e;exact#[v,rfl,j]
 |a::ds,vs,i+1,d,h,e=>by refine qN h λv r q _ k=>?_;subst q;refine qH (qK.get k (by simpa using e)) λw b g=>?_;exact#[w,by simpa using b,g]
theorem qK.append:∀{ds es:List D}{vs us:List V},qK p H ds vs->qK p H es us->qK p H (ds++es) (vs++us)
 |[],es,vs,us,h,h'=>by cases h;exact h'
 |d::ds,es,vs,us,h,h'=>by refine qN h λv r q b g=>?_;subst q;exact#[v,r++us,rfl,b,qK.append g h']
theorem qK.take:∀{ds:List D}{vs:List V}(n:Nat),qK p H ds vs->qK p H (ds.take n) (vs.take n)
 |_,_,0,_=>by simp[qK]
 |[],vs,n+1,h=>by cases h;simp[qK]
 |d::ds,vs,n+1,h=>by refine qN h λv r q b g=>?_;subst q;exact#[v,r.take n,rfl,b,qK.take n g]
theorem qK.drop:∀{ds:List D}{vs:List V}(n:Nat),qK p H ds vs->qK p H (ds.drop n) (vs.drop n)
 |_,_,0,h=>h
 |[],vs,n+1,h=>by cases h;simp[qK]
 |d::ds,vs,n+1,h=>by refine qN h λv r q g b=>?_;subst q;exact qK.drop n b
def qK.snoc(h:qK p H ds vs)(b:Rep p H d v):qK p H (ds++[d]) (vs++[v]):=h.append #[v,[],rfl,b,rfl]
noncomputable def fz(O:List Addr)(H:Hp):Hp:=λa=>if a∈O then Qc else H a
def jB(x:Ext H H'):Ext (fz O H) (fz O H'):=λa o e=>by
 unfold fz at e|-;split at e
 .exact nS e
 .rename_i h;rw[if_neg h];exact x _ _ e
def zG:Ext (fz O H) H:=λa o e=>by
 unfold fz at e;split at e
 .exact nS e
 .exact e
def q28:fz [] H=H:=by funext a;simp[fz]
def kB{a:Addr}(h:H a=Qa o)(n:a∉O):fz O H a=Qa o:=by unfold fz;rw[if_neg n];exact h
def Fw{a:Addr}(h:a∈O):fz O (upd H a o)=fz O H:=by
 funext b;unfold fz;split
 .rfl
 .rename_i n;exact qW λe=>n (e▸h)
def jH(p:Pm)(H Hf:Hp):D->V->Prop
 |.qA ds,v=>∃a vs,v=.ref a/\zM p.K H a vs/\qK p Hf ds vs
 |.z7 ks ds,v=>∃a kvs,v=.ref a/\Rd H a (.dK kvs)/\ks=kvs.map (λq=>zo q.1)/\qK p Hf ds (kvs.map (·.2))
 |.obj fs,v=>∃a dx vs,v=.ref a/\H a=Qa (.ins p.C dx (p.flds.zip vs))/\H dx=Qa (.own a)/\vs.length<=p.flds.length/\qK p Hf fs vs
 |d,v=>Rep p Hf d v
def Rep.b(h:Rep p Hf d v)(x:Ext Hf H):jH p H Hf d v:=by
 cases d with
 |qA ds=>obtain⟨a,vs,e,s,r⟩:=h;exact#[a,vs,e,x.R0 s,r]
 |z7 ks ds=>obtain⟨a,kvs,o,e,s,q,r⟩:=h;exact#[a,kvs,e,.inr #[o,x _ _ s],q,r]
 |obj fs=>obtain⟨a,dx,vs,e,s,q,z,r⟩:=h;exact#[a,dx,vs,e,x _ _ s,x _ _ q,z,r]
 |_=>exact h
theorem jH.mono(h:jH p H Hf d v)(x:Ext H H')(y:Ext Hf kq):jH p H' kq d v:=by
 cases d with
 |qA ds=>obtain⟨a,vs,e,s,r⟩:=h;exact#[a,vs,e,x.R0 s,r.mono y]
 |z7 ks ds=>obtain⟨a,kvs,e,s,q,r⟩:=h;exact#[a,kvs,e,x.rd s,q,r.mono y]
 |qI=>exact h
 |bl _=>exact h
 |int _=>exact h
 |str _=>exact h
 |qE _=>exact Rep.mono h y
 |exc _=>exact Rep.mono h y
 |obj fs=>obtain⟨a,dx,vs,e,s,q,z,r⟩:=h;exact#[a,dx,vs,e,x _ _ s,x _ _ q,z,r.mono y]
 |mem _ _=>exact Rep.mono h y
def IC(p:Pm)(H Hf:Hp)(a:Addr):D->Prop
 |.qA ds=>∃vs,H a=Qa (.qA vs)/\qK p Hf ds vs
 |.z7 ks ds=>∃kvs,H a=Qa (.dK kvs)/\ks=kvs.map (λq=>zo q.1)/\qK p Hf ds (kvs.map (·.2))
 |_=>False
def xi(p:Pm)(H Hf:Hp):List Addr->List (List D)->Prop
 |[],xss=>xss=[]
 |b::bs,xss=>∃xs r,xss=xs::r/\(∃vs,H b=Qa (.qA vs)/\qK p Hf xs vs)/\xi p H Hf bs r
def yW(p:Pm)(H Hf:Hp):Option Sl->Option V->List Addr->Prop
 |none,_,as=>as=[]
 |some (.val d),Y,as=>as=[]/\∃v,Y=Qa v/\Rep p Hf d v
 |some (.own d),Y,as=>∃a,Y=Qa (.ref a)/\as=[a]/\IC p H Hf a d
 |some (.obj b fs),Y,as=>∃a dx vs,Y=Qa (.ref a)/\as=[a,dx]/\(b=Qb->(a,dx)=p.self)/\H a=Qa (.ins p.C dx (p.flds.zip vs))/\H dx=Qa (.own a)/\vs.length<=p.flds.length/\qK p Hf fs vs
 |some (.j6 xss),Y,as=>∃a bs,Y=Qa (.ref a)/\as=a::bs/\H a=Qa (.qA (bs.map V.ref))/\xi p H Hf bs xss
def ju(p:Pm)(H Hf:Hp):Ev.Env->L2.St->List (List Addr)->Prop
 |[],_,_=>True
 |x::Z,Y,os=>∃y b as g,Y=y::b/\os=as::g/\yW p H Hf x y as/\ju p H Hf Z b g
structure Rel(p:Pm)(Z:Ev.Env)(Y:L2.St)(os:List (List Addr))(H:Hp):Prop where
 nd:os.flatten.Nodup
 there:∀a∈os.flatten,∃o,H a=Qa o
 slots:ju p H (fz os.flatten H) Z Y os
abbrev wX(X:Cx){α:Type}(t:Sem α)(Q:α->Shared->Prop)(E:NZ)(s:Shared):Prop:=wpAny (model X.prog X.w) X.A t Q E s
def Fin(p:Pm)(O:List Addr)(H:Hp)(r:D):VK:=λz H'=>Ext H H'/\Rep p (fz O H') r z
def Th(O:List Addr)(H:Hp):Prop:=∀a∈O,∃o,H a=Qa o
def Th.ext(h:Th O H)(x:Ext H H'):Th O H':=λa b=>let⟨o,e⟩:=h a b;#[o,x _ _ e]
def Th.out{a:Addr}(h:Th O H)(n:H a=Qc):a∉O:=λz=>by obtain⟨o,e⟩:=h a z;rw[n]at e;exact nS e
def fin_same(h:Rep p (fz O H) r z):Fin p O H r z H:=#[Ext.refl _,h]
def Ft{a:Addr}(b:Th O H)(h:qK p (fz O H) ds vs)(n:H a=Qc):Fin p O H (.qA ds) (.ref a) (upd H a (.qA vs)):=
 #[Ext.upd n,a,vs,rfl,zM.of (kB zb (b.out n)),h.mono (jB (Ext.upd n))]
def LZ{a:Addr}(b:Th O H)(h:qK p (fz O H) ds vs)(z:vs.length<=QD)(n:H a=Qc):Fin p O H (.qE ds) (.ref a) (upd H a (.qE vs)):=
 #[Ext.upd n,a,vs,rfl,zw.of (kB zb (b.out n)),z,h.mono (jB (Ext.upd n))]
def wQ:big<=QD:=by rw[Q6];decide
noncomputable def Ti:Op2->ZQ
 |.add=>.Add|.sub=>.Sub|.mul=>.Mult|.fdiv=>.FloorDiv|.mod=>.Mod|.shl=>.LShift|.shr=>.RShift|.band=>.BitAnd|.bor=>.BitOr|.bxor=>.BitXor
def og{o:Op2}(h:PY op=Qa o):op=Ti o:=by cases op<;>simp[PY]at h<;>subst h<;>rfl
section
variable{p:Pm}
def q76(K:QC):R2:=λx y H Q=>∃l b xs g,x=.ref l/\y=.ref b/\zM K H l xs/\zM K H b g/\xs.length+g.length<=QD/\∀q,H q=Qc->Q (.ref q) (upd H q (.qA (xs++g)))
def q6J:zR X (JR .Add) (q76 X.K):=by
 intro pins s Y H x y v u Q I rx ry h;obtain⟨l,b,xs,zs,rfl,rfl,hH,W,hz,q⟩:=h;cases rx;cases ry;obtain⟨its,r,⟨o1,n,e,k,S,z⟩,z1⟩:=I.list hH;obtain⟨g,M,⟨o2,n2,t,m,T,B⟩,z2⟩:=I.list W;have hl:=r.length;have vq:=M.length;obtain⟨oc,od,odt,os⟩:=o1;obtain⟨oc2,j,C,N⟩:=o2;simp only at k S z m T B;subst k z m B;refine WR #[_,e,rfl] #[_,t,rfl] noFill_list_add seq_list_add PySem.F.slot_list_add PySem.F.entry_list_add (PySem.F.args_list_add_2 _ _) (list_addW l b its.toArray g.toArray n n2 od j os N (by rw[QI,QI];lia)) #[e,t,?_];have U:its.toArray++g.toArray=(its++g).toArray:=by simp
 rw[U];exact#[.ref _,_,I.GV (r.append M) (by rw[Jd];lia),rfl,q _ I.fresh]
def cK{a b:Int}(g:0<=a)(hb:0<=b):Y6 a b=((a.toNat&&&b.toNat:Nat):Int):=by unfold Y6;simp[g,hb]
def cz{a b:Int}(k:0<=a)(hb:0<=b):UK a b=((a.toNat|||b.toNat:Nat):Int):=by
 unfold UK Y6 Builtin.bitNot;rw[(decide_eq_false ∅),(decide_eq_false ∅)];have g:(-(-a-1)-1).toNat=a.toNat:=∅
 have j:(-(-b-1)-1).toNat=b.toNat:=∅
 rw[g,j];lia
def q6f:∀a b:Nat,a|||b=(a^^^b)+(a&&&b):=by
 intro a
 induction a using WU with
 |ind a g=>
  intro b
  by_cases h:a=0
  .subst h;simp
  .have j:=g (a/2) ∅ (b/2);have t:=Nat.or_div_two (a:=a) (b:=b);have y:=Nat.xor_div_two (a:=a) (b:=b);have z:=Nat.and_div_two (a:=a) (b:=b);have k:=Nat.or_mod_two_eq_one (a:=a) (b:=b);have m:=Nat.xor_mod_two_eq_one (a:=a) (b:=b);have n:=Nat.and_mod_two_eq_one (a:=a) (b:=b)
   by_cases p:a %2=1<;>by_cases q:b %2=1<;>lia
def q0k{a b:Int}(g:0<=a)(hb:0<=b):UA a b=((a.toNat^^^b.toNat:Nat):Int):=by unfold UA;rw[cz g hb,cK g hb,q6f];lia
def Pj(a b:Str):(a++b).length=a.length+b.length:=by show(a.cps++b.cps).size=_;rw[Array.size_append];rfl
def q78(K:QC):R2:=λx y H Q=>∃a b xs ys,x=.ref a/\y=.ref b/\zw K H a xs/\zw K H b ys/\xs.length+ys.length<=QD/\
 (ys=[]->Q (.ref a) H)/\(xs=[]->Q (.ref b) H)/\(xs≠[]->ys≠[]->∀p,H p=Qc->Q (.ref p) (upd H p (.qE (xs++ys))))
def q6L:zR X (JR .Add) (q78 X.K):=by
 intro pins s Y H x y v u Q I t z h;refine Fh h λa b xs ys qw qx k hb S q1 q2 q3=>?_;subst qw qx
 by_cases j:xs=[]
 .cases t;cases z;refine qd (I.tuple k) λits r1 U _=>?_;refine qd (I.tuple hb) λF r2 W _=>?_;have M:=r1.Gr.mpr j;subst M;obtain⟨⟨cls,dd,data,sl⟩,m,hc,n,hd⟩:=id U;obtain⟨⟨dO,y0,data2,xW⟩,C,B,T,g⟩:=id W;simp only at hc hd B g;subst hc hd B g;exact WR #[_,m,rfl] #[_,C,rfl] Ze seq_tuple_add U4 UW (UL _ _)
   (tuple_addW0 a b _ F.toArray n T dd y0 sl xW (by simp)) #[m,C,#[.ref b,H,I,rfl,q2 j]]
 .exact q6K pins s Y H _ _ v u Q I t z #[a,b,xs,ys,rfl,rfl,k,hb,j,S,q1,λN=>q3 j N]
def q7D(K:QC):R2:=λx y H Q=>∃l k xs,x=.ref l/\y=.int k/\zM K H l xs/\-(2^63)<=k/\k<2^63/\xs.length*k.toNat<=QD/\
 ∀p,H p=Qc->Q (.ref p) (upd H p (.qA (Qj k.toNat xs).flatten))
def q6Y:zR X (JR .Mult) (q7D X.K):=by
 intro pins s Y H x y v u Q I S T h;refine uR h λl k xs M N z U W j q=>?_;subst M N;cases S;obtain⟨t,rfl⟩:=T;obtain⟨its,r,⟨B,n,e,b,m,g⟩,z1⟩:=I.list z;have hl:=r.length;obtain⟨oc,od,C,os⟩:=B;simp only at b m g;subst b g;have hs:QD=2^24:=Q6;have qX:its.toArray.size*k.toNat<=2^24:=by rw[QI,<-hl,<-hs];exact j
 refine wpAny_binaryOp_repeat_ref (by decide) #[_,e,rfl] (λs'=>ZP s' k t) noFill_list_mul PySem.F.fills_int_mul Zo repeat_list PySem.F.slot_int_index.lookup
  (VL Zo (ZP s k t) PySem.F.entry_int_rmul (PySem.F.args_int_rmul_2 _ _) (lm_int_rmul_list_any k t l its.toArray n od os)
   #[e,rfl,#[_,e,rfl],VL PySem.F.slot_list_mul #[_,e,rfl] PySem.F.entry_list_mul (PySem.F.args_list_mul_2 _ _)
    (lm_list_mul_any l its.toArray n od os k t (by simp[Builtin.List.listFitsIndex];lia) ∅ (by simp[Builtin.List.listTooLong,QD];lia))
    #[e,?_]])
 rw[listMul_foldl_if];exact#[.ref _,_,I.GV (r.rep k.toNat) (by rw[len_rep,Nat.mul_comm];exact j),rfl,q _ I.fresh]
theorem pQ{p:Pm}{H:Hp}{ds:List D}{vs:List V}(h:qK p H ds vs):∀k:Nat,qK p H (Qj k ds).flatten (Qj k vs).flatten
 |0=>by simp[qK]
 |k+1=>by rw[Yo,Yo,Jb,Jb];exact h.append (pQ h k)
def q59{a b:Int}(h:(-(2^62)<a/\a<2^62)\/(-(2^62)<b/\b<2^62)):Xi a b:=by unfold Xi;lia
def xN{f:Int->R D}(h:intD f d=.ok r):∃a,d=.int a/\f a=.ok r:=by cases d<;>first|(cases h;done)|exact#[_,rfl,h]
def q4e(h:ud f d=.ok r):∃a,d=.qA a/\f a=.ok r:=by cases d<;>first|(cases h;done)|exact#[_,rfl,h]
def qA3(h:sR f d=.ok r):∃a,d=.qE a/\f a=.ok r:=by cases d<;>first|(cases h;done)|exact#[_,rfl,h]
def q9s{f:Str->R D}(h:sF f d=.ok r):∃a,d=.str a/\f a=.ok r:=by cases d<;>first|(cases h;done)|exact#[_,rfl,h]
def a9{q:R D}(h:Sz q d=.ok r):d=.qI/\q=.ok r:=by cases d<;>first|(cases h;done)|exact#[rfl,h]
def ah:Op2->R2
 |.add=>kl λi j=>.int (i+j)
 |.sub=>kl λi j=>.int (i-j)
 |.mul=>rI Xi λi j=>.int (i*j)
 |.fdiv=>rI Au λi j=>.int (i/j)
 |.mod=>rI (λ_ j=>0<j) λi j=>.int (i %j)
 |.shl=>rI Av λi j=>.int (i*2^j.toNat)
 |.shr=>rI (λ_ j=>0<=j) λi j=>.int (i/2^j.toNat)
 |.band=>kl λi j=>.int (Y6 i j)
 |.bor=>kl λi j=>.int (UK i j)
 |.bxor=>kl λi j=>.int (UA i j)
theorem q6P:∀o:Op2,zR X (JR (Ti o)) (ah o)
 |.add=>q6G|.sub=>q6c|.mul=>q6U|.fdiv=>q6M|.mod=>q6T|.shl=>q6Z|.shr=>q6a|.band=>q6I|.bor=>q6X|.bxor=>q6d
theorem q3e:∀o:Op2,zR X (Yz (Ti o)) (ah o)
 |.add=>q3b|.sub=>q3k|.mul=>q3g|.fdiv=>q3d|.mod=>q3f|.shl=>q3i|.shr=>q3j|.band=>q3c|.bor=>q3h|.bxor=>q3l
def vS{_:Decidable c}{x:D}(h:(if c then R.ok x else .qC)=.ok r):c/\x=r:=by
 by_cases z:c
 .rw[if_pos z]at h;cases h;exact#[z,rfl]
 .rw[if_neg z]at h;exact nR h
def X8{i j:Int}(e:j=i)(h:D.int i=r):Fin p O H r (.int j) H:=by subst e h;exact fin_same rfl
def ia(o:Op2){m n:Int}(h:zT o (.int m) (.int n)=.ok r):ah o (.int m) (.int n) H (Fin p O H r):=by
 cases o with
 |add=>cases h;exact#[_,_,rfl,rfl,fin_same rfl]
 |mul=>
  obtain⟨c,e⟩:=vS h;exact#[_,_,rfl,rfl,q59 c,X8 rfl e]
 |sub=>cases h;exact#[_,_,rfl,rfl,fin_same rfl]
 |fdiv=>
  obtain⟨c,e⟩:=vS h;exact#[_,_,rfl,rfl,c,X8 rfl e]
 |mod=>
  obtain⟨c,e⟩:=vS h;exact#[_,_,rfl,rfl,c,X8 rfl e]
 |shl=>
  obtain⟨c,e⟩:=vS h;refine#[_,_,rfl,rfl,#[c.2.2.1,∅,∅],X8 ?_ e];rw[Nat.shiftLeft_eq,Int.natCast_mul,Int.natCast_pow,Int.toNat_of_nonneg c.1];rfl
 |shr=>
  obtain⟨c,e⟩:=vS h;refine#[_,_,rfl,rfl,c.2,X8 ?_ e];rw[Zn,Int.natCast_ediv,Int.natCast_pow,Int.toNat_of_nonneg c.1];rfl
 |band=>
  obtain⟨c,e⟩:=vS h;exact#[_,_,rfl,rfl,X8 (cK c.1 c.2) e]
 |bor=>
  obtain⟨c,e⟩:=vS h;exact#[_,_,rfl,rfl,X8 (cz c.1 c.2) e]
 |bxor=>
  obtain⟨c,e⟩:=vS h;exact#[_,_,rfl,rfl,X8 (q0k c.1 c.2) e]
def q6Q{o:Op2}{e:D}(h:zT o d e=.ok r)(j:o≠.add)(k:o≠.mul):∃m n,d=.int m/\e=.int n:=by
 unfold zT at h;split at h
 .cases j rfl
 .cases k rfl
 .obtain⟨m,b,h⟩:=xN h;obtain⟨n,g,_⟩:=xN h;exact#[m,n,b,g]
def q6b(B:p.K=X.K)(N:Th O H):∀(o:Op2)(d e r:D)(x y:V),zT o d e=.ok r->jH p H (fz O H) d x->jH p H (fz O H) e y->
  ∃g:R2,zR X (JR (Ti o)) g/\g x y H (Fin p O H r):=by
 intro o d e r x y h C F;have M:(∃m n,d=.int m/\e=.int n)->∃g:R2,zR X (JR (Ti o)) g/\g x y H (Fin p O H r):=λj=>ja j λm n z e2=>by subst z e2;cases C;cases F;exact#[_,q6P o,ia o h]
 by_cases S:o=.add
 .subst S;cases d with
  |int m=>obtain⟨n,z,_⟩:=xN h;exact M #[_,_,rfl,z]
  |qA ds=>
   obtain⟨es,rfl,h⟩:=q4e h;obtain⟨c,rfl⟩:=vS h;refine qN C λa vs j s1 t=>?_;subst j;refine qN F λb us j s2 g=>?_;subst j;exact#[_,q6J,a,b,vs,us,rfl,rfl,B▸s1,B▸s2,Qw (by rw[<-t.length,<-g.length];exact c) wQ,λq n=>Ft N (t.append g) n]
  |qE ds=>
   obtain⟨es,rfl,h⟩:=qA3 h;obtain⟨c,rfl⟩:=vS h;refine zN C λa vs j s1 U t=>?_;subst j;refine zN F λb us j s2 W g=>?_;subst j;have Q:vs.length+us.length<=QD:=Qw (by rw[<-t.length,<-g.length];exact c) wQ;refine#[_,q6L,a,b,vs,us,rfl,rfl,B▸zG.va s1,B▸zG.va s2,Q,λe=>?_,λe=>?_,λn1 n2 q n=>LZ N (t.append g) (by rw[Jd];exact Q) n]
   .subst e;cases(U8.mp g.length:es=[]);rw[Ja];exact fin_same #[a,vs,rfl,s1,U,t]
   .subst e;cases(U8.mp t.length:ds=[]);rw[Vo];exact fin_same #[b,us,rfl,s2,W,g]
  |str a=>
   obtain⟨b,rfl,h⟩:=q9s h;obtain⟨c,rfl⟩:=vS h;obtain⟨rfl,U⟩:=C;obtain⟨rfl,W⟩:=F;exact#[_,q6H,_,_,rfl,rfl,Qw c wQ,fin_same #[rfl,by rw[Pj];exact c]]
  |_=>exact nR h
 by_cases T:o=.mul
 .subst T;cases d with
  |int m=>obtain⟨n,z,_⟩:=xN h;exact M #[_,_,rfl,z]
  |qA ds=>
   obtain⟨k,rfl,h⟩:=xN h;obtain⟨c,rfl⟩:=vS h;refine qN C λa vs j s1 t=>?_;subst j;cases F;exact#[_,q6Y,a,k,vs,rfl,rfl,B▸s1,∅,∅,Qw (by rw[<-t.length];exact c.2.2) wQ,λq n=>Ft N (pQ t _) n]
  |_=>exact nR h
 exact M (q6Q h S T)
end
section
variable{p:Pm}
def wU(t:p.K=X.K)(I:Inv X pins Y H s):(∀d v u,Rep p H d v->RelV v u->Dv s.heap d u)/\(∀ds vs us,qK p H ds vs->Vals vs us->zU s.heap ds us):=by
 refine D.ind
  (λv u h r=>?_) (λb v u h r=>?_) (λi v u h r=>?_) (λx v u h r=>?_) (λl g v u h r=>?_) (λl g v u h r=>?_) (λ_ _ _ _ _ _ _ _=>trivial) (λ_ _ _ _ _=>trivial) (λ_ _ _ _ _ _=>trivial) (λ_ _ _ _ _ _ _=>trivial) (λvs us h r=>?_) (λd ds C F vs us h r=>?_)
 .cases h;exact r
 .cases h;exact r
 .cases h;exact r
 .obtain⟨rfl,_⟩:=h;exact r
 .refine zN h λa vs n s1 z k=>?_;subst n;cases r;obtain⟨its,m,j,_⟩:=I.tuple (t▸s1);exact#[a,its,rfl,j,g _ _ k m]
 .obtain⟨a,vs,rfl,s1,k⟩:=h;cases r;obtain⟨its,m,j,_⟩:=I.list (t▸s1);exact#[a,its,rfl,j.isList,g _ _ k m]
 .cases h;cases r;rfl
 .refine qN h λv Q n y B=>?_;subst n;cases r with
  |cons M N=>exact#[_,_,rfl,C _ _ y M,F _ _ B N]
def wV(g:p.K=X.K)(I:Inv X pins Y H s)(x:Ext Hf H)(h:jH p H Hf d v)(r:RelV v u):Dv s.heap d u:=by
 cases d with
 |qA ds=>
  obtain⟨a,vs,rfl,s1,j⟩:=h;exact(wU g I).1 (.qA ds) _ _ #[a,vs,rfl,s1,j.mono x] r
 |z7 _ _=>trivial
 |exc _=>trivial
 |obj _=>trivial
 |mem _ _=>trivial
 |qI=>exact(wU g I).1 .qI _ _ (Rep.mono h x) r
 |bl b=>exact(wU g I).1 (.bl b) _ _ (Rep.mono h x) r
 |int i=>exact(wU g I).1 (.int i) _ _ (Rep.mono h x) r
 |str y=>exact(wU g I).1 (.str y) _ _ (Rep.mono h x) r
 |qE l=>exact(wU g I).1 (.qE l) _ _ (Rep.mono h x) r
def AF(p:Pm)(ok:D->D->Bool)(g:D->D->Bool):R2:=λx y H Q=>∃d e Hf,Ext Hf H/\jH p H Hf d x/\jH p H Hf e y/\ok d e=Qb/\Q (.bl (g d e)) H
def q0y(g:p.K=X.K)(hu:X.A.units+64<cLine):zR X (Jy .Eq) (AF p (λa b=>pl a&&pl b) qM):=by intro pins s Y H x y v u Q I n t h;refine qY h λd e Hf j k m c q=>?_;simp at c;exact q7G 8 c.1 c.2 (wV g I j k n) (wV g I j m t) ∅ X.prog X.w X.xe _ #[.bl _,H,I,rfl,q]
def q12(g:p.K=X.K)(hu:X.A.units+64<cLine):zR X (Jy .NotEq) (AF p (λa b=>pl a&&pl b) (λa b=>!qM a b)):=by intro pins s Y H x y v u Q I n t h;refine qY h λd e Hf j k m c q=>?_;simp at c;exact q7I 8 c.1 c.2 (wV g I j k n) (wV g I j m t) ∅ X.prog X.w X.xe _ #[.bl _,H,I,rfl,q]
def A2(a b:D):Bool:=pl a&&pl b&&qJ a&&qJ b&&zm a b
def q11(b:p.K=X.K)(hu:X.A.units+64<cLine):zR X (Jy .Lt) (AF p A2 qm):=by intro pins s Y H x y v u Q I m n h;refine qY h λd e Hf g j k c q=>?_;simp only[A2,Qo]at c;exact(S4 8 c.1.1.1.1 c.1.1.1.2 c.1.1.2 c.1.2 c.2 (wV b I g j m) (wV b I g k n) ∅).1 X.prog X.w X.xe _ #[.bl _,H,I,rfl,q]
def q0z(g:p.K=X.K)(hu:X.A.units+64<cLine):zR X (Jy .GtE) (AF p A2 (λa b=>!qm a b)):=by intro pins s Y H x y v u Q I n t h;refine qY h λd e Hf j k m c q=>?_;simp only[A2,Qo]at c;exact(S4 8 c.1.1.1.1 c.1.1.1.2 c.1.1.2 c.1.2 c.2 (wV g I j k n) (wV g I j m t) ∅).2 X.prog X.w X.xe _ #[.bl _,H,I,rfl,q]
noncomputable def eqTo(h:Heap)(ds:List D)(x:D)(u:Value):Bool:=@decide (∃d∈ds,Dv h d u/\qM d x=Qb) (Yh _)
def EM{x:D}(j:zj ds=Qb)(m:pl x=Qb)(hd:d∈ds)(y:Dv h d u):eqTo h ds x u=qM d x:=by unfold eqTo;rw[Q0,@decide_eq_true_eq _ (Yh _)];refine#[λn=>qd n λe k z w=>?_,λw=>#[d,hd,y,w]];have b:=yr.mp j d hd;have g:=yr.mp j e k;rw[q1S b g m (EO 8 b g y z)];exact w
theorem II{h:Heap}{ds:List D}{x:D}(b:zj ds=Qb)(g:pl x=Qb):∀{es:List D}{us:List Value},(∀e∈es,e∈ds)->zU h es us->us.any (eqTo h ds x)=es.any λy=>qM y x
 |[],us,_,y=>by cases y;rfl
 |e::es,us,hs,y=>by refine qN y λu r k y1 y2=>?_;subst k;rw[JB,JB,EM b g (hs e Qg) y1,II b g (λz j=>hs z (Qd _ j)) y2]
def pI(p:Pm)(b:Bool):R2:=λx y H Q=>∃d e Hf ds,Ext Hf H/\jH p H Hf d x/\jH p H Hf e y/\(e=.qA ds\/e=.qE ds)/\pl d=Qb/\zj ds=Qb/\Q (.bl (b^^ds.any λy=>qM y d)) H
def PR{x:D}(b:zj ds=Qb)(g:pl x=Qb)(y:zU s.heap ds us)(z:Dv s.heap x u)(hu:A.units+8<cLine):
  ∀w,w∈us.toArray->SeqAt.EqAt A s w u (eqTo s.heap ds x w):=λw hw=>by
 obtain⟨d,hd,j⟩:=y.mem (by simpa using hw);rw[EM b g hd j];exact xE 8 (yr.mp b d hd) g j z hu
def dQ(n:p.K=X.K)(hu:X.A.units+64<cLine):zR X (Jy .In) (pI p Qf):=by
 intro pins s Y H x y v u Q I S T h;refine L9 h λd e Hf ds z M N c g j q=>?_;have C:=wV n I z M S;have F:=wV n I z N T;have B:X.A.in1.units+8<cLine:=by rw[Q8];lia
 have t:∀us:List Value,zU s.heap ds us->EP X pins Y Q (.bool (us.toArray.any (eqTo s.heap ds d))) s:=λus y=>by rw[List.any_toArray,II j g (λ_ h=>h) y];exact#[.bl _,H,I,rfl,by simpa using q]
 rcases c with rfl|rfl
 .refine qN F λa us m k b=>?_;subst m;exact SeqAt.in_listAt (eqTo s.heap ds d) k (PR j g b C B) (t us b)
 .refine qN F λa us m k b=>?_;subst m;exact SeqAt.in_tupleAt (eqTo s.heap ds d) k (PR j g b C B) (t us b)
def dR(n:p.K=X.K)(hu:X.A.units+64<cLine):zR X (Jy .NotIn) (pI p Qb):=by
 intro pins s Y H x y v u Q I S T h;refine L9 h λd e Hf ds z M N c g j q=>?_;have C:=wV n I z M S;have F:=wV n I z N T;have B:X.A.in1.units+8<cLine:=by rw[Q8];lia
 have t:∀us:List Value,zU s.heap ds us->EP X pins Y Q (.bool (!us.toArray.any (eqTo s.heap ds d))) s:=λus y=>by rw[List.any_toArray,II j g (λ_ h=>h) y];exact#[.bl _,H,I,rfl,by simpa using q]
 rcases c with rfl|rfl
 .refine qN F λa us m k b=>?_;subst m;exact SeqAt.notIn_listAt (eqTo s.heap ds d) k (PR j g b C B) (t us b)
 .refine qN F λa us m k b=>?_;subst m;exact SeqAt.notIn_tupleAt (eqTo s.heap ds d) k (PR j g b C B) (t us b)
end
section
variable{p:Pm}
noncomputable def dW:Cm->CmpOp
 |.eq=>.Eq|.ne=>.NotEq|.lt=>.Lt|.le=>.LtE|.gt=>.Gt|.ge=>.GtE|.P6=>.Is|.C8=>.IsNot|.mem=>.In|.w6=>.NotIn
def E6(op:CmpOp):dW (jV op)=op:=by cases op<;>rfl
def lB(kvs:List (Key×V))(i:Int):((kvs.map λq=>zo q.1).any λy=>qM y (.int i))=(wL kvs (.inl i)).isSome:=by
 induction kvs with
 |nil=>rfl
 |cons q r b=>
  rw[QK,JB,b];obtain⟨k,v⟩:=q;cases k with
  |inl j=>
   by_cases e:j=i
   .subst e;rw[Cf rfl];simp[zo,qM]
   .rw[Pp (λz=>e (Wa z))];simp[zo,qM,e]
  |inr x=>rw[Pp (by intro z;cases z)];simp[zo,qM]
def q6O(hu:X.A.units+64<cLine):zR X (Jy .In) (λx y H Q=>∃i a kvs,x=.int i/\y=.ref a/\Rd H a (.dK kvs)/\Q (.bl (wL kvs (.inl i)).isSome) H):=by intro pins s Y H x y v u Q I g j h;obtain⟨i,a,kvs,rfl,rfl,e,q⟩:=h;cases j;exact q1A ∅ I (.inl #[kvs,.inl i,e,rfl,rfl]) g λs' b=>#[.bl _,H,b,rfl,q]
def q6V(hu:X.A.units+64<cLine):zR X (Jy .NotIn) (λx y H Q=>∃i a kvs,x=.int i/\y=.ref a/\Rd H a (.dK kvs)/\Q (.bl (!(wL kvs (.inl i)).isSome)) H):=by intro pins s Y H x y v u Q I g j h;obtain⟨i,a,kvs,rfl,rfl,e,q⟩:=h;cases j;exact q1C ∅ I (.inl #[kvs,.inl i,e,rfl,rfl]) g λs' b=>#[.bl _,H,b,rfl,q]
def oP{x:V}(h:jH p H Hf d x):decide (x=.qI)=(match d with|.qI=>Qb|_=>Qf):=by
 cases d with
 |qI=>cases h;rfl
 |bl b=>cases h;rfl
 |int i=>cases h;rfl
 |str y=>obtain⟨rfl,_⟩:=h;rfl
 |qE l=>obtain⟨_,_,rfl,_⟩:=h;rfl
 |qA l=>obtain⟨_,_,rfl,_⟩:=h;rfl
 |z7 k l=>obtain⟨_,_,rfl,_⟩:=h;rfl
 |exc c=>obtain⟨_,_,rfl,_⟩:=h;rfl
 |obj c=>obtain⟨_,_,_,rfl,_⟩:=h;rfl
 |mem _ c=>obtain⟨_,rfl,_⟩:=h;rfl
def Fc(m:p.K=X.K)(C:Th O H)(hu:X.A.units+64<cLine):∀(o:Cm)(d e r:D)(x y:V),qj o d e=.ok r->jH p H (fz O H) d x->jH p H (fz O H) e y->
  ∃B:R2,zR X (Jy (dW o)) B/\B x y H (Fin p O H r):=by
 intro o d e r x y h g j;have k:∀b:Bool,Fin p O H (.bl b) (.bl b) H:=λb=>fin_same rfl;cases o with
 |eq=>
  obtain⟨c,rfl⟩:=vS h;exact#[_,q0y m hu,d,e,_,zG,g,j,c,k _]
 |ne=>
  obtain⟨c,rfl⟩:=vS h;exact#[_,q12 m hu,d,e,_,zG,g,j,c,k _]
 |lt=>
  obtain⟨c,rfl⟩:=vS h;exact#[_,q11 m hu,d,e,_,zG,g,j,c,k _]
 |ge=>
  obtain⟨c,rfl⟩:=vS h;exact#[_,q0z m hu,d,e,_,zG,g,j,c,k _]
 |le=>
  obtain⟨a,rfl,h⟩:=xN h;obtain⟨b,rfl,h⟩:=xN h;cases h;cases g;cases j;exact#[_,q6S,_,_,rfl,rfl,k _]
 |gt=>
  obtain⟨a,rfl,h⟩:=xN h;obtain⟨b,rfl,h⟩:=xN h;cases h;cases g;cases j;exact#[_,q6N,_,_,rfl,rfl,k _]
 |P6=>
  have n:=oP g;obtain⟨rfl,h⟩:=a9 h;cases h;cases j;refine#[_,q6R,rfl,?_];rw[n];cases d<;>exact k _
 |C8=>
  have n:=oP g;obtain⟨rfl,h⟩:=a9 h;cases h;cases(show y=_ from j);refine#[_,q6W,rfl,?_];rw[n];cases d<;>exact k _
 |mem=>
  simp only[qj,memD]at h;split at h
  .split at h
   .rename_i xs c;simp at c;cases h;exact#[_,dQ m hu,d,_,_,xs,zG,g,j,.inl rfl,c.1,c.2,by simpa using k _]
   .exact nR h
  .split at h
   .rename_i xs c;simp at c;cases h;exact#[_,dQ m hu,d,_,_,xs,zG,g,j,.inr rfl,c.1,c.2,by simpa using k _]
   .exact nR h
  .split at h
   .cases h;cases g;refine zN j λa kvs t s1 z _=>?_;subst t z;refine#[_,q6O hu,_,a,kvs,rfl,rfl,s1,?_];rw[<-lB];exact k _
   .exact nR h
  .exact nR h
 |w6=>
  simp only[qj,memD]at h;split at h
  .split at h
   .rename_i xs c;simp at c;cases h;exact#[_,dR m hu,d,_,_,xs,zG,g,j,.inl rfl,c.1,c.2,by simpa using k _]
   .exact nR h
  .split at h
   .rename_i xs c;simp at c;cases h;exact#[_,dR m hu,d,_,_,xs,zG,g,j,.inr rfl,c.1,c.2,by simpa using k _]
   .exact nR h
  .split at h
   .cases h;cases g;refine zN j λa kvs t s1 z _=>?_;subst t z;refine#[_,q6V hu,_,a,kvs,rfl,rfl,s1,?_];rw[<-lB];exact k _
   .exact nR h
  .exact nR h
def oV{i:Int}(h:qK p Hf ds vs)(e:vV ds i=.ok d):∃v,X1 vs i=Qa v/\Rep p Hf d v:=by
 have hl:=h.length;unfold vV at e;unfold X1 PA;split at e
 .rename_i z g;cases e;split at g
  .rename_i c;refine qH (h.get g) λv b j=>?_;refine#[v,?_,j];have:=(Qn.mp b).1;rw[if_pos c,if_pos ∅];exact b
  .rename_i c;split at g
   .rename_i k;refine qH (h.get g) λv b j=>?_;refine#[v,?_,j];rw[if_neg c,if_pos ∅];rw[hl]at b;exact b
   .exact nS g
 .exact nR e
theorem mP{Hf:Hp}{i:Int}{d:D}:∀{kvs:List (Key×V)}{ds:List D},qK p Hf ds (kvs.map (·.2))->look i (kvs.map λq=>zo q.1) ds=.ok d->∃v,wL kvs (.inl i)=Qa v/\Rep p Hf d v
 |[],ds,h,e=>by cases ds<;>simp[look]at e
 |(k,w)::r,ds,h,e=>by
  cases ds with
  |nil=>cases k<;>simp[look,zo]at e
  |cons t ds=>
   refine qN h λv y q m n=>?_;injection q with q1 q2
   subst q1 q2;cases k with
   |inl j=>
    simp only[QK,zo,look]at e;split at e
    .rename_i c;subst c;cases e;exact#[w,Cf rfl,m]
    .rename_i c;refine qH (mP n e) λv b g=>?_;exact#[v,by rw[Pp (λz=>c (Wa z))];exact b,g]
   |inr x=>simp[look,zo]at e
def q41(hu:X.A.units+64<cLine):Co X (λx y H Q=>∃a kvs i v,x=.ref a/\y=.int i/\Rd H a (.dK kvs)/\wL kvs (.inl i)=Qa v/\Q v H):=by intro value slice pins s Y H x y v u Q I k m h hs;obtain⟨a,kvs,i,z,rfl,rfl,e,hv,q⟩:=h;cases k;have g:Cg H a (.int i) (Qa z):=.inl #[kvs,.inl i,e,rfl,hv.symm];obtain⟨j,_⟩:=q3n I (.inl #[kvs,e]);exact ZU j slot_dict_getitem.lookup (q19 ∅ I g m λt s' b n=>#[z,H,b,n,q]) hs
def q42(t:p.K=X.K)(hu:X.A.units+64<cLine):∀(d e r:D)(x y:V),kE d e=.ok r->jH p H (fz O H) d x->jH p H (fz O H) e y->
  ∃B:R2,Co X B/\B x y H (Fin p O H r):=by
 intro d e r x y h k m;unfold kE at h;split at h
 .cases m;refine qN k λa vs n s1 j=>?_;subst n;obtain⟨v,b,g⟩:=oV j h;exact#[_,l6,a,vs,_,v,rfl,rfl,t▸s1,b,fin_same g]
 .cases m;refine zN k λa vs n s1 z j=>?_;subst n;obtain⟨v,b,g⟩:=oV j h;exact#[_,q43,a,vs,_,v,rfl,rfl,t▸zG.va s1,b,fin_same g]
 .cases m;refine zN k λa kvs C s1 F j=>?_;subst C F;obtain⟨v,b,g⟩:=mP j h;exact#[_,q41 hu,a,kvs,_,v,rfl,rfl,s1,b,fin_same g]
 .exact nR h
def qA0{x:V}(m:p.K=X.K)(h:tr d=.ok b)(g:jH p H (fz O H) d x):bt X.K x H b:=by
 unfold tr at h;split at h<;>cases h
 .cases g;rfl
 .cases g;rfl
 .cases g;rfl
 .obtain⟨rfl,z⟩:=g;refine#[Qw z wQ,?_];rw[Q0];simp
 .refine zN g λa vs k s1 z j=>?_;subst k;refine .inr (.inl #[vs,m▸zG.va s1,?_]);have:=j.length;rename_i ds;cases ds<;>cases vs<;>first|rfl|(simp at this)
 .refine qN g λa vs k s1 j=>?_;subst k;refine .inl #[vs,m▸s1,?_];have:=j.length;rename_i ds;cases ds<;>cases vs<;>first|rfl|(simp at this)
end
structure BOk(X:Cx)(pins:List (Addr×Obj))(H:Hp)(B:Heap):Prop where
 qO:zc X.prog X.w H B
 keep:∀b o,X.s₀.heap.get? b=Qa o->X.H₀ b=Qc->b∉jM X.stack->b∉X.ex->B.get? b=Qa o
 there:∀b o,X.s₀.heap.get? b=Qa o->b∉jM X.stack->b∉X.ex->∃o',B.get? b=Qa o'
 pin:∀q∈X.pn++pins,B.get? q.1=Qa q.2
def wN(X:Cx)(p:Pm)(pins:List (Addr×Obj))(Y:L2.St)(H:Hp)(c:Nat)(e:Value)(s':Shared):Prop:=
 ∃H' a C,e=.ref a/\p.cls[c]?=Qa C/\Ext H H'/\
  ((∃s1 vs,Inv X pins Y H' s1/\Heap.MadeExcOf s1.heap s'.heap a (.ref C) vs/\s'={s1 with heap:=s'.heap})\/
   (∃B t,Inv X pins Y H' s'/\BOk X pins H' B/\Heap.FlyingW B X.stack a (.ref C) (.ref t) s'.heap)\/
   (∃B t L,X.env.frame=Qa L/\Inv X pins Y H' s'/\BOk X pins H' B/\Heap.HeldW B X.stack a (.ref C) (.ref t) L s'.heap))
def wN.ext{p:Pm}{c:Nat}{e:Value}(m:wN X p pins Y H1 c e s')(x:Ext H H1):wN X p pins Y H c e s':=by obtain⟨H',a,C,b,g,j,k⟩:=m;exact#[H',a,C,b,g,x.trans j,k]
theorem A5{p:Pm}{H H' Hf kq:Hp}(x:Ext H H')(y:Ext Hf kq):∀{bs:List Addr}{xss:List (List D)},xi p H Hf bs xss->xi p H' kq bs xss
 |[],_,h=>h
 |b::bs,xss,h=>by obtain⟨xs,r,e,⟨vs,g,j⟩,k⟩:=h;exact#[xs,r,e,#[vs,x _ _ g,j.mono y],A5 x y k]
def q6g{p:Pm}(x:Ext H H')(y:Ext Hf kq){a:Addr}(h:IC p H Hf a d):IC p H' kq a d:=by
 cases d with
 |qA ds=>obtain⟨vs,b,g⟩:=h;exact#[vs,x _ _ b,g.mono y]
 |z7 ks ds=>obtain⟨kvs,b,g,j⟩:=h;exact#[kvs,x _ _ b,g,j.mono y]
 |_=>exact h.elim
def aw{p:Pm}(x:Ext H H')(y:Ext Hf kq){sl:Option Sl}{v:Option V}(h:yW p H Hf sl v as):yW p H' kq sl v as:=by
 cases sl with
 |none=>exact h
 |some s=>cases s with
  |val d=>obtain⟨g,w,j,k⟩:=h;exact#[g,w,j,k.mono y]
  |own d=>obtain⟨a,g,j,k⟩:=h;exact#[a,g,j,q6g x y k]
  |j6 xss=>obtain⟨a,bs,g,j,k,m⟩:=h;exact#[a,bs,g,j,x _ _ k,A5 x y m]
  |obj b fs=>obtain⟨a,dx,vs,g,j,n,k,m,t,z⟩:=h;exact#[a,dx,vs,g,j,n,x _ _ k,x _ _ m,t,z.mono y]
theorem Tx{p:Pm}{H H' Hf kq:Hp}(x:Ext H H')(y:Ext Hf kq):∀{Z:Ev.Env}{Y:L2.St}{os:List (List Addr)},ju p H Hf Z Y os->ju p H' kq Z Y os
 |[],_,_,h=>h
 |_::Z,_,_,h=>by refine yA h λy1 b as n g j k m=>?_;exact#[y1,b,as,n,g,j,aw x y k,Tx x y m]
def Rel.th{p:Pm}(r:Rel p Z Y os H):Th os.flatten H:=r.there
theorem Rel.ext{p:Pm}(r:Rel p Z Y os H)(x:Ext H H'):Rel p Z Y os H':=
 #[r.nd,r.th.ext x,Tx x (jB x) r.slots]
theorem Pg{p:Pm}{H Hf:Hp}:∀{Z:Ev.Env}{Y:L2.St}{os:List (List Addr)}{i:Nat}{x:Option Sl},ju p H Hf Z Y os->Z[i]?=Qa x->∃y as,Y[i]?=Qa y/\os[i]?=Qa as/\yW p H Hf x y as
 |[],_,_,i,x,h,e=>by simp at e
 |x0::Z,_,_,0,x,h,e=>by refine yA h λy1 m as B b g j k=>?_;subst b g;simp at e;subst e;exact#[y1,as,rfl,rfl,j]
 |x0::Z,_,_,i+1,x,h,e=>by refine yA h λy1 m as B b g j k=>?_;subst b g;refine qN (Pg k (by simpa using e)) λy bs n t z=>?_;exact#[y,bs,by simpa using n,by simpa using t,z]
def Rel.val{p:Pm}(r:Rel p Z Y os H)(e:zH Z i=.ok d):∃v,Y[i]?=Qa (Qa v)/\Rep p (fz os.flatten H) d v:=by
 unfold zH at e;split at e
 .rename_i d' h;cases e;refine zN (Pg r.slots h) λy as b _ m k=>?_;refine qH k λv g j=>?_;exact#[v,by rw[b,g],j]
 .exact nR e
def Rel.bor{p:Pm}(r:Rel p Z Y os H)(e:X9 Z i=.ok d):∃v,Y[i]?=Qa (Qa v)/\jH p H (fz os.flatten H) d v:=by
 unfold X9 at e;split at e
 .rename_i d' h;cases e;refine zN (Pg r.slots h) λy as j _ B m=>?_;refine qH m λv k g=>?_;exact#[v,by rw[j,k],g.b zG]
 .rename_i d' h;cases e;refine EJ (Pg r.slots h) λy as j _ a k _ g=>?_;refine#[.ref a,by rw[j,k],?_];cases d with
  |qA ds=>obtain⟨vs,n,t⟩:=g;exact#[a,vs,rfl,zM.of n,t]
  |z7 ks ds=>obtain⟨kvs,n,t,z⟩:=g;exact#[a,kvs,rfl,.inl n,t,z]
  |_=>exact g.elim
 .rename_i fs h;cases e;refine qN (Pg r.slots h) λy as j _ m=>?_;refine xu m λa dx vs k _ m=>?_;obtain⟨_,g⟩:=m;exact#[.ref a,by rw[j,k],a,dx,vs,rfl,g]
 .exact nR e
section
variable{p:Pm}
def Gd(X:Cx)(p:Pm)(pins:List (Addr×Obj))(Y:L2.St)(os:List (List Addr))(H:Hp)(r:R D)(u:Value)(s':Shared):Prop:=
 ∃d v H',r=.ok d/\Inv X pins Y H' s'/\RelV v u/\Ext H H'/\Rep p (fz os.flatten H') d v
def Gb(X:Cx)(p:Pm)(pins:List (Addr×Obj))(Y:L2.St)(os:List (List Addr))(H:Hp)(r:R D)(u:Value)(s':Shared):Prop:=
 ∃d v H',r=.ok d/\Inv X pins Y H' s'/\RelV v u/\Ext H H'/\jH p H' (fz os.flatten H') d v
def Er{α:Type}(X:Cx)(p:Pm)(pins:List (Addr×Obj))(Y:L2.St)(H:Hp)(r:R α)(e:Value)(s':Shared):Prop:=∃c,r=.err c/\wN X p pins Y H c e s'
def SE(X:Cx)(p:Pm)(G:Nat->List D->R D)(sub:Nat->Nat->Bool)(e:Qs)(l:L):Prop:=
 ∀(pins:List (Addr×Obj))(s:Shared)(Y:L2.St)(H:Hp)(Z:Ev.Env)(os:List (List Addr)),Inv X pins Y H s->Rel p Z Y os H->ev G sub l Z≠.qC->
  wX X (Je e X.env) (Gd X p pins Y os H (ev G sub l Z)) (Er X p pins Y H (ev G sub l Z)) s
def SB(X:Cx)(p:Pm)(G:Nat->List D->R D)(sub:Nat->Nat->Bool)(e:Qs)(l:L):Prop:=
 ∀(pins:List (Addr×Obj))(s:Shared)(Y:L2.St)(H:Hp)(Z:Ev.Env)(os:List (List Addr)),Inv X pins Y H s->Rel p Z Y os H->ev G sub l Z≠.qC->
  wX X (Je e X.env) (Gb X p pins Y os H (ev G sub l Z)) (Er X p pins Y H (ev G sub l Z)) s
theorem SE.b(h:SE X p G sub e l):SB X p G sub e l:=λpins s Y H Z os I R hs=>
 Qh (h pins s Y H Z os I R hs) (λu s' m=>qY m λd v H' j g k x q=>#[d,v,H',j,g,k,x,q.b zG]) λ_ _ z=>z
def zP{r:R α}{f:α->R β}(h:r.bind f≠.qC):r≠.qC:=λe=>h (by rw[e];rfl)
def X6{b:R D}(x:Ext H H1)(e:b=.ok r)(h:EP (X.ql E) pins Y (Fin p os.flatten H1 r) u s'):Gd X p pins Y os H b u s':=by refine zN h λv H' g j k q=>?_;exact#[r,v,H',e,g.wB,j,x.trans k,q]
def AL{b:Qs}{la:L}{f:Value->Value->Sem Value}{g:D->D->R D}(ha:SB X p G sub a la)(hb:SB X p G sub b lb)
  (hf:∀(E:NZ)(pins:List (Addr×Obj))(s:Shared)(Y:L2.St)(H:Hp)(os:List (List Addr))(x y:V)(v u:Value)(d e r:D),Inv X pins Y H s->Th os.flatten H->RelV x v->RelV y u->jH p H (fz os.flatten H) d x->jH p H (fz os.flatten H) e y->g d e=.ok r->
   wX X (f v u) (EP (X.ql E) pins Y (Fin p os.flatten H r)) E s)
  (hg:∀d e,g d e=.qC\/∃r,g d e=.ok r)
  {pins:List (Addr×Obj)}{s:Shared}{Y:L2.St}{H:Hp}{Z:Ev.Env}{os:List (List Addr)}(I:Inv X pins Y H s) (R:Rel p Z Y os H) {k:Ev.R D}(U:k=(ev G sub la Z).bind λx=>(ev G sub lb Z).bind λy=>g x y) (hs:k≠.qC):
  wX X (Je a X.env) (λv n=>wX X (Je b X.env) (λu t=>wX X (f v u) (Gd X p pins Y os H k) (Er X p pins Y H k) t) (Er X p pins Y H k) n) (Er X p pins Y H k) s:=by
 subst U;refine Qh (ha pins s Y H Z os I R (zP hs)) (λv s1 j=>qY j λd x H1 C S r1 M q1=>?_) (λe s' j=>qH j λc C m=>#[c,by rw[C];rfl,m]);rw[C,qF]at hs|-;have N:=R.ext M;refine Qh (hb pins s1 Y H1 Z os S N (zP hs)) (λu s2 j=>qY j λQ y H2 F T r2 B q2=>?_) (λe s' j=>qH j λc F m=>#[c,by rw[F];rfl,m.ext M]);rw[F,qF]at hs|-;rcases hg d Q with z|⟨r,z⟩
 .exact absurd z hs
 rw[z];exact Qh (hf _ pins s2 Y H2 os x y v u d Q r T (N.ext B).th r1 r2 (q1.mono B (jB B)) q2 z) (λw s3 W=>X6 (M.trans B) rfl W) λ_ _ z=>z
def G5{_:Decidable c}{x:D}:(if c then R.ok x else .qC)=.qC\/∃r,(if c then R.ok x else .qC)=.ok r:=by
 by_cases z:c
 .rw[if_pos z];exact .inr #[_,rfl]
 .rw[if_neg z];exact .inl rfl
def P4{f:Int->R D}(h:∀i,f i=.qC\/∃r,f i=.ok r)(d:D):intD f d=.qC\/∃r,intD f d=.ok r:=by cases d<;>first|exact h _|exact .inl rfl
def q6F(o:Op2)(a b:Int):jo o a b=.qC\/∃r,jo o a b=.ok r:=by cases o<;>first|exact .inl rfl|exact .inr #[_,rfl]|exact G5
def oZ(o:Op2)(d e:D):zT o d e=.qC\/∃r,zT o d e=.ok r:=by
 unfold zT;split
 .cases d<;>first|exact .inl rfl|exact P4 (λ_=>.inr #[_,rfl]) e|(cases e<;>first|exact .inl rfl|exact G5)
 .cases d<;>first|exact .inl rfl|exact P4 (λ_=>G5) e
 .exact P4 (λa=>P4 (q6F o a) e) d
def q4t(d e:D):memD d e=.qC\/∃r,memD d e=.ok r:=by
 unfold memD;split<;>first
  |exact .inl rfl
  |(split<;>first|exact .inr #[_,rfl]|exact .inl rfl)
def Fb(o:Cm)(d e:D):qj o d e=.qC\/∃r,qj o d e=.ok r:=by
 cases o<;>first
  |exact G5
  |exact P4 (λa=>P4 (λb=>.inr #[_,rfl]) e) d
  |(cases e<;>first|exact .inl rfl|exact .inr #[_,rfl])
  |(unfold qj;dsimp only;rcases q4t d e with z|⟨r,z⟩<;>rw[z]<;>first|exact .inl rfl|exact .inr #[_,rfl])
def q5S(l:List D)(i:Int):vV l i=.qC\/∃r,vV l i=.ok r:=by unfold vV;split<;>first|exact .inr #[_,rfl]|exact .inl rfl
theorem mM(i:Int):∀(ks vs:List D),look i ks vs=.qC\/∃r,look i ks vs=.ok r
 |[],vs=>by unfold look;exact .inl rfl
 |k::ks,[]=>by cases k<;>(unfold look;exact .inl rfl)
 |k::ks,v::vs=>by
  cases k<;>first
   |(unfold look;exact .inl rfl)
   |(unfold look;split<;>first|exact .inr #[_,rfl]|exact mM i ks vs)
def q3O(d e:D):kE d e=.qC\/∃r,kE d e=.ok r:=by unfold kE;split<;>first|exact q5S _ _|exact mM _ _ _|exact .inl rfl
def q8T{b:Qs}{o:Op2}{la:L}(m:p.K=X.K)(z:PY op=Qa o)(n:SB X p G sub a la)(hb:SB X p G sub b lb):SE X p G sub (.BinOp a op b pos) (.op o la lb):=by intro pins s Y H Z os I R hs;rw[og z];refine wpAny_BinOp (AL n hb (λE pins s Y H os x y v u d e r I t B C g j h=>?_) (oZ o) I R (jJ ..) hs);refine qH (q6b (X:=X.ql E) m t o d e r x y h g j) λF k q=>?_;exact k pins s Y H x y v u _ (I.ql E) B C q
def q8F{b:Qs}{op:CmpOp}{la:L}(m:p.K=X.K)(hu:X.A.units+64<cLine)(z:UE op b=Qf)(n:SB X p G sub a la)(hb:SB X p G sub b lb):SE X p G sub (.Compare a [op] [b] pos) (.cm (jV op) la lb):=by intro pins s Y H Z os I R hs;refine wpAny_Compare1 (AL n hb (λE pins s Y H os x y v u d e r I t B C g j h=>?_) (Fb (jV op)) I R (RU ..) hs) z;refine qH (Fc (X:=X.ql E) m t hu (jV op) d e r x y h g j) λF k q=>?_;rw[E6]at k;exact k pins s Y H x y v u _ (I.ql E) B C q
def q8M{b:Qs}{la:L}(m:p.K=X.K)(hu:X.A.units+64<cLine)(hs:ID b)(n:SB X p G sub a la)(hb:SB X p G sub b lb):SE X p G sub (.Subscript a b pos) (.idx la lb):=by intro pins s Y H Z os I R z;refine ZV (AL n hb (λE pins s Y H os x y v u d e r I t B C g j h=>?_) q3O I R (wZ ..) z);refine qH (q42 (X:=X.ql E) (O:=os.flatten) m hu d e r x y h g j) λF k q=>?_;exact k a b pins s Y H x y v u _ (I.ql E) B C q (hs _ _)
end
section
variable{p:Pm}
def q8I{c:Const}{j:Nat}(h:Ik c=Qa d):SE X p G sub (.Constant c j pos) (.qo d):=by
 intro pins s Y H Z os I R hs;cases c<;>simp[Ik]at h
 .subst h;exact Constant_none #[_,.qI,H,rfl,I,rfl,Ext.refl _,rfl]
 .subst h;exact Constant_bool #[_,.bl _,H,rfl,I,rfl,Ext.refl _,rfl]
 .subst h;exact wpAny_Constant_int #[_,.int _,H,rfl,I.tok _,#[_,rfl],Ext.refl _,rfl]
 .obtain⟨b,rfl⟩:=h;exact Calls.Constant_str #[_,.str _,H,rfl,I.tok _,#[_,rfl],Ext.refl _,rfl,Qw b (by decide)]
def kN{Q:NZ}(I:Inv X pins Y H s)(j:X.N[i]?=Qa x)(hv:jY X.env.scope x)(e:Y[i]?=Qa (Qa v))
  (hd:nD x) (t:nC x) (h:∀u,RelV v u->Q u s):wX X (Je (.Name x pos) X.env) Q E s:=by
 obtain⟨m,n,hl⟩:=I.loc;obtain⟨u,r,l⟩:=hl i x v j e hv;rcases l with⟨b,k⟩|⟨b,c,hc,g⟩
 .exact wpAny_Name (wpAny_loadName_local I.ok.kind b n k (h u r)) hd
 .rcases b with b|b
  .exact wpAny_Name (wpAny_loadName_cell I.ok.kind b hc g (h u r)) hd
  .exact wpAny_Name (wpAny_loadName_free I.ok.kind b hc g (h u r) t) hd
def q8Y(g:X.N[i]?=Qa x)(hv:jY X.env.scope x)(hd:nD x)(j:nC x):SE X p G sub (.Name x pos) (.qS i):=by
 intro pins s Y H Z os I R hs;dsimp only[qQ]at hs|-;cases e:zH Z i with
 |ok d=>
  refine qH (R.val e) λv b q=>?_;exact kN I g hv b hd j λu r=>#[d,v,H,rfl,I,r,Ext.refl _,q]
 |err c=>unfold zH at e;split at e<;>cases e
 |qC=>exact absurd e hs
def q88(g:X.N[i]?=Qa x)(hv:jY X.env.scope x)(hd:nD x)(j:nC x):SB X p G sub (.Name x pos) (.bor i):=by
 intro pins s Y H Z os I R hs;dsimp only[T3]at hs|-;cases e:X9 Z i with
 |ok d=>
  refine qH (R.bor e) λv b q=>?_;exact kN I g hv b hd j λu r=>#[d,v,H,rfl,I,r,Ext.refl _,q]
 |err c=>unfold X9 at e;split at e<;>cases e
 |qC=>exact absurd e hs
def q8L(b:Gl X x)(g:X.mg x=Qa u)(r:RelV v u)(j:∀H,Rep p H d v)(hd:nD x):SE X p G sub (.Name x pos) (.qo d):=λpins s Y H Z os I R hs=>
 xP I b g #[d,v,H,rfl,I,r,Ext.refl _,j _] hd
def q8Q{la:L}(k:SE X p G sub a la):SE X p G sub (.UnaryOp .USub a pos) (.neg la):=by intro pins s Y H Z os I R hs;dsimp only[q1Z]at hs|-;refine UnaryOp_ (Qh (k pins s Y H Z os I R (zP hs)) (λv s1 g=>qY g λd x H1 b j y z n=>?_) (λe s' g=>qH g λc b m=>#[c,by rw[b];rfl,m]));rw[b]at hs|-;obtain⟨_,rfl⟩:=zJ hs;cases n;obtain⟨t,rfl⟩:=y;exact neg_int #[_,.int _,H1,rfl,j.tok _,#[_,rfl],z,rfl]
def Tp(X:Cx)(p:Pm)(pins:List (Addr×Obj))(Y:L2.St)(H:Hp)(r:R Bool)(b:Bool)(s':Shared):Prop:=∃H',r=.ok b/\Inv X pins Y H' s'/\Ext H H'
def ST(X:Cx)(p:Pm)(G:Nat->List D->R D)(sub:Nat->Nat->Bool)(e:Qs)(l:T):Prop:=
 ∀(whole:Sem Value)(pins:List (Addr×Obj))(s:Shared)(Y:L2.St)(H:Hp)(Z:Ev.Env)(os:List (List Addr)),(whole=Je e X.env\/OY e=Qb)->Inv X pins Y H s->Rel p Z Y os H->z9 G sub l Z≠.qC->
  wX X (isTrue e X.env whole) (Tp X p pins Y H (z9 G sub l Z)) (Er X p pins Y H (z9 G sub l Z)) s
def bO(n:p.K=X.K){x:V}{v:Value}{j:R Bool}(I:Inv X pins Y H s)(r:RelV x v)(q:jH p H (fz os.flatten H) d x)(t:Ext H0 H)(hs:tr d≠.qC)(m:j=tr d):
  wX X (truthy v) (Tp X p pins Y H0 j) E s:=by
 cases e:tr d with
 |ok b=>
  refine R7 (qA1 pins s Y H x v (λg H'=>g=b/\H'=H) (I.ql E) r #[b,qA0 n e q,rfl,rfl]) λg s' h=>?_;obtain⟨H',k,rfl,rfl⟩:=h;exact#[H',by rw[m,e],k.wB,t]
 |err c=>unfold tr at e;split at e<;>cases e
 |qC=>exact absurd e hs
def q9l(k:p.K=X.K)(n:∀whole,isTrue e X.env whole=(do let v <-whole;standAt e.pos;holding [v] (truthy v)))(hb:OY e=Qf)(h:SB X p G sub e l):ST X p G sub e (.e l):=by
 intro whole pins s Y H Z os hw I R hs;rcases hw with rfl|hw
 .dsimp only[uN]at hs|-;refine isTrue_plain (Qh (h pins s Y H Z os I R (zP hs)) (λv s1 g=>qY g λd x H1 b j y z t=>?_) (λe s' g=>qH g λc b m=>#[c,by rw[b];rfl,m])) (n _);rw[b]at hs|-;exact bO k j y t z hs rfl
 .rw[hb]at hw;cases hw
def q9k{b:Qs}{op:CmpOp}{la:L}(F:p.K=X.K)(hu:X.A.units+64<cLine)(S:UE op b=Qf)(Q:SB X p G sub a la)(hb:SB X p G sub b lb):ST X p G sub (.Compare a [op] [b] pos) (.e (.cm (jV op) la lb)):=by
 intro whole pins s Y H Z os hw I R hs;dsimp only[uN]at hs|-;have C:=AL (X:=X) Q hb (f:=Jy op) (g:=qj (jV op)) (λE pins s Y H os x y v u d e r I t W ry z B h=>by refine qH (Fc (X:=X.ql E) F t hu (jV op) d e r x y h z B) λr2 k q=>?_;rw[E6]at k;exact k pins s Y H x y v u _ (I.ql E) W ry q) (Fb (jV op)) I R (RU ..) (zP hs)
 have n:∀e s',Er X p pins Y H (ev G sub (.cm (jV op) la lb) Z) e s'->Er X p pins Y H ((ev G sub (.cm (jV op) la lb) Z).bind tr) e s':=λe s' zz=>qH zz λc j m=>#[c,by rw[j];rfl,m]
 refine VU (Qh C (λv s1 z=>Qh z (λu s2 B=>Qh B (λw s3 N=>?_) n) n) n) S;refine qY N λd x H1 j M U x1 T=>?_;rw[j]at hs|-;exact bO F M U (T.b zG) x1 hs rfl
def q9m{la:T}(n:ST X p G sub a la):ST X p G sub (.UnaryOp .Not a pos) (.not la):=by intro whole pins s Y H Z os hw I R hs;dsimp only[bP]at hs|-;refine isTrue_not (Qh (n _ pins s Y H Z os (.inl rfl) I R (zP hs)) (λb s1 j=>qd j λH1 g k t=>?_) (λe s' j=>qH j λc g m=>#[c,by rw[g];rfl,m]));exact#[H1,by rw[g];rfl,k,t]
def q9j{la:T}(b:ST X p G sub a la):ST X p G sub (.BoolOp .And [a] pos) la:=by
 intro whole pins s Y H Z os hw I R hs;refine isTrue_and (Qh (b _ pins s Y H Z os (.inl rfl) I R hs) (λc s1 e=>?_) (λ_ _ z=>z));cases c with
 |true=>exact isTrue_and_nil e
 |false=>exact e
def q9o{la:T}(b:ST X p G sub a la):ST X p G sub (.BoolOp .Or [a] pos) la:=by
 intro whole pins s Y H Z os hw I R hs;refine isTrue_or (Qh (b _ pins s Y H Z os (.inl rfl) I R hs) (λc s1 e=>?_) (λ_ _ z=>z));cases c with
 |false=>exact isTrue_or_nil e
 |true=>exact e
def q9i{b:Qs}{r:List Qs}{la lb:T}(z:ST X p G sub a la)(hb:ST X p G sub (.BoolOp .And (b::r) pos) lb):ST X p G sub (.BoolOp .And (a::b::r) pos) (.and la lb):=by
 intro whole pins s Y H Z os hw I R hs;dsimp only[Po]at hs|-;refine isTrue_and (Qh (z _ pins s Y H Z os (.inl rfl) I R (zP hs)) (λc s1 g=>qd g λH1 j n k=>?_) (λe s' g=>qH g λc j m=>#[c,by rw[j];rfl,m]));rw[j,qF]at hs|-;cases c with
 |false=>exact#[H1,rfl,n,k]
 |true=>
  rw[if_pos rfl]at hs|-;exact Qh (hb _ pins s1 Y H1 Z os (.inr rfl) n (R.ext k) hs) (λc s2 g=>qd g λH2 y t B=>⟨H2,y,t,k.trans B⟩) (λe s' g=>qH g λc j m=>⟨c,j,m.ext k⟩)
def q9n{b:Qs}{r:List Qs}{la lb:T}(z:ST X p G sub a la)(hb:ST X p G sub (.BoolOp .Or (b::r) pos) lb):ST X p G sub (.BoolOp .Or (a::b::r) pos) (.or la lb):=by
 intro whole pins s Y H Z os hw I R hs;dsimp only[Ag]at hs|-;refine isTrue_or (Qh (z _ pins s Y H Z os (.inl rfl) I R (zP hs)) (λc s1 g=>qd g λH1 j n k=>?_) (λe s' g=>qH g λc j m=>#[c,by rw[j];rfl,m]));rw[j,qF]at hs|-;cases c with
 |true=>exact#[H1,rfl,n,k]
 |false=>
  rw[if_neg (by simp)]at hs|-;exact Qh (hb _ pins s1 Y H1 Z os (.inr rfl) n (R.ext k) hs) (λc s2 g=>qd g λH2 y t B=>⟨H2,y,t,k.trans B⟩) (λe s' g=>qH g λc j m=>⟨c,j,m.ext k⟩)
def q8S{op:BoolOp}{la:L}(b:SE X p G sub a la):SE X p G sub (.BoolOp op [a] pos) la:=λpins s Y H Z os I R hs=>BoolOp_one (b pins s Y H Z os I R hs)
def Gd.ext{r:R D}(x:Ext H H1)(h:Gd X p pins Y os H1 r u s'):Gd X p pins Y os H r u s':=by refine qY h λd v H' e I b y q=>?_;exact#[d,v,H',e,I,b,x.trans y,q]
theorem Er.ext{r:R α}(x:Ext H H1)(h:Er X p pins Y H1 r u s'):Er X p pins Y H r u s':=by obtain⟨c,e,m⟩:=h;exact#[c,e,m.ext x]
theorem Er.bind{r:R α}{f:α->R β}(h:Er X p pins Y H r u s'):Er X p pins Y H (r.bind f) u s':=by obtain⟨c,e,m⟩:=h;exact#[c,by rw[e];rfl,m]
def q8A{b:Qs}{r:List Qs}{la:L}(m:SE X p G sub a la)(hb:SE X p G sub (.BoolOp .And (b::r) pos) lb):SE X p G sub (.BoolOp .And (a::b::r) pos) (.and la lb):=by
 intro pins s Y H Z os I R hs;dsimp only[fT]at hs|-;refine BoolOp_and (Qh (m pins s Y H Z os I R (zP hs)) (λv s1 y=>qY y λd x H1 k j t g n=>?_) (λe s' z=>z.bind));rw[k]at hs|-;cases d<;>first
  |cases hs rfl
  |skip
 rename_i c;cases n;cases t;refine Yn ?_;cases c with
 |true=>exact Qh (hb pins s1 Y H1 Z os j (R.ext g) hs) (λ_ _ z=>z.ext g) (λ_ _ z=>z.ext g)
 |false=>exact#[_,.bl Qf,H1,rfl,j,rfl,g,rfl]
def q8U{b:Qs}{r:List Qs}{la:L}(m:SE X p G sub a la)(hb:SE X p G sub (.BoolOp .Or (b::r) pos) lb):SE X p G sub (.BoolOp .Or (a::b::r) pos) (.or la lb):=by
 intro pins s Y H Z os I R hs;dsimp only[q1c]at hs|-;refine BoolOp_or (Qh (m pins s Y H Z os I R (zP hs)) (λv s1 y=>qY y λd x H1 k j t g n=>?_) (λe s' z=>z.bind));rw[k]at hs|-;cases d<;>first
  |cases hs rfl
  |skip
 rename_i c;cases n;cases t;refine Yn ?_;cases c with
 |false=>exact Qh (hb pins s1 Y H1 Z os j (R.ext g) hs) (λ_ _ z=>z.ext g) (λ_ _ z=>z.ext g)
 |true=>exact#[_,.bl Qb,H1,rfl,j,rfl,g,rfl]
def q8R{la:L}(t:p.K=X.K)(y:SB X p G sub a la):SE X p G sub (.UnaryOp .Not a pos) (.not la):=by intro pins s Y H Z os I R hs;dsimp only[q1b]at hs|-;refine UnaryOp_ (Qh (y pins s Y H Z os I R (zP hs)) (λv s1 g=>qY g λd x H1 m j C F B=>?_) (λe s' z=>z.bind));rw[m,qF]at hs|-;refine not_of (R7 (bO t j C B F (zP hs) rfl) λb s2 g=>qd g λH2 n k M=>?_);rw[n];exact#[_,.bl _,H2,rfl,k,rfl,M,rfl]
def q8O{c b:Qs}{lc:T}{la:L}(hc:ST X p G sub c lc)(m:SE X p G sub a la)(hb:SE X p G sub b lb):SE X p G sub (.IfExp c a b pos) (.ite lc la lb):=by
 intro pins s Y H Z os I R hs;dsimp only[RV]at hs|-;refine wpAny_IfExp (Qh (hc _ pins s Y H Z os (.inl rfl) I R (zP hs)) (λt s1 n=>qd n λH1 k j g=>?_) (λe s' z=>z.bind));rw[k]at hs|-;cases t with
 |true=>exact Qh (m pins s1 Y H1 Z os j (R.ext g) hs) (λ_ _ z=>z.ext g) (λ_ _ z=>z.ext g)
 |false=>exact Qh (hb pins s1 Y H1 Z os j (R.ext g) hs) (λ_ _ z=>z.ext g) (λ_ _ z=>z.ext g)
def Ga(X:Cx)(p:Pm)(pins:List (Addr×Obj))(Y:L2.St)(os:List (List Addr))(H:Hp)(r:R (List D))(us:List Value)(s':Shared):Prop:=
 ∃ds vs H',r=.ok ds/\Inv X pins Y H' s'/\Vals vs us/\Ext H H'/\qK p (fz os.flatten H') ds vs
def SA(X:Cx)(p:Pm)(G:Nat->List D->R D)(sub:Nat->Nat->Bool)(es:List Qs)(l:List L):Prop:=
 ∀(pos:WD)(pins:List (Addr×Obj))(s:Shared)(Y:L2.St)(H:Hp)(Z:Ev.Env)(os:List (List Addr)),Inv X pins Y H s->Rel p Z Y os H->qu G sub l Z≠.qC->
  wX X (VM (Yk pos (QM es X.env))) (Ga X p pins Y os H (qu G sub l Z)) (Er X p pins Y H (qu G sub l Z)) s
def r8:SA X p G sub [] []:=λ_ _ _ _ H _ _ I _ _=>Jl #[[],[],H,rfl,I,.nil,Ext.refl _,rfl]
def pz(y:SE X p G sub e l)(B:SA X p G sub es ls)(M:QM (e::es) X.env=(Qf,Je e X.env)::QM es X.env):SA X p G sub (e::es) (l::ls):=by intro pos pins s Y H Z os I R hs;rw[M];dsimp only[jK]at hs|-;show wpAny _ _ (VM ((Qf,Je e X.env)::Yk pos (QM es X.env))) _ _ s;refine Q4 (Qh (y pins s Y H Z os I R (zP hs)) (λu s1 g=>qY g λd x H1 n k N b C=>?_) (λe s' z=>z.bind));rw[n]at hs|-;refine Qh (B pos pins s1 Y H1 Z os k (R.ext b) (zP hs)) (λus s2 g=>qY g λds vs H2 t m Q j F=>?_) (λe s' z=>(z.ext b).bind);rw[t];exact#[d::ds,x::vs,H2,rfl,m,.cons N Q,b.trans j,x,vs,rfl,C.mono (jB j),F]
def Fv{a:Addr}(t:Th O H)(n:H a=Qc):fz O (upd H a o) a=Qa o:=kB zb λm=>by obtain⟨u,e⟩:=t a m;rw[n]at e;exact nS e
def q8X(h:SA X p G sub es ls):SE X p G sub (.Tuple es k1 pos) (.qE ls):=by
 intro pins s Y H Z os I R hs;rw[LL]at hs|-;refine wpAny_Tuple_spliced (Qh (h pos pins s Y H Z os I R (zP hs)) (λus s1 y=>qY y λds vs H1 t j m n k=>?_) (λe s' z=>z.bind));rw[t,qF]at hs|-;have z:ds.length<=big:=by
  by_cases z:ds.length<=big
  .exact z
  .rw[if_neg z]at hs;cases hs rfl
 rw[if_pos z];have g:vs.length<=QD:=Qw (k.length▸z) wQ;refine#[by rw[<-m.length];exact g,?_];have hf:H1 s1.heap.objs.size=Qc:=j.qO.fresh (Qt _);refine#[_,.ref s1.heap.objs.size,upd H1 s1.heap.objs.size (.qE vs),rfl,j.laid (t':=s1.toks) (λb u e=>Qk _ e) (Qt _) ?_,rfl,n.trans (Ext.upd hf),?_]
 .exact#[g,us,m,#[_,QG _ rfl,rfl,_,rfl]]
 .exact#[_,vs,rfl,zw.of (Fv (R.ext n).th hf),g,k.mono (jB (Ext.upd hf))]
def q8P(h:SA X p G sub es ls):SE X p G sub (.List es pos) (.qA ls):=by
 intro pins s Y H Z os I R hs;rw[Fs]at hs|-;refine WH (Qh (h pos pins s Y H Z os I R (zP hs)) (λus s1 y=>qY y λds vs H1 t g k m j=>?_) (λe s' z=>z.bind));rw[t,qF]at hs|-;have z:ds.length<=big:=by
  by_cases z:ds.length<=big
  .exact z
  .rw[if_neg z]at hs;cases hs rfl
 rw[if_pos z];have n:vs.length<=QD:=Qw (j.length▸z) wQ;refine#[by rw[<-k.length];exact n,?_];have hf:H1 s1.heap.objs.size=Qc:=g.qO.fresh (Qt _);refine#[_,.ref s1.heap.objs.size,upd H1 s1.heap.objs.size (.qA vs),rfl,g.laid (t':=s1.toks) (λb u e=>Qk _ e) (Qt _) ?_,rfl,m.trans (Ext.upd hf),?_]
 .exact#[n,us,0,k,QG _ rfl]
 .exact#[_,vs,rfl,zM.of (Fv (R.ext m).th hf),j.mono (jB (Ext.upd hf))]
end
theorem AU{H Hf:Hp}{x:Option Sl}{as:List Addr}(h:yW p H Hf x y as):∀{Z:Ev.Env}{Y:L2.St}{os:List (List Addr)}(i:Nat),ju p H Hf Z Y os->ju p H Hf (Z.set i x) (Y.set i y) (os.set i as)
 |[],_,_,_,_=>trivial
 |_::Z,_,_,0,q=>by refine yA q λy1 b t j k m n g=>?_;subst k m;exact#[y,b,as,j,rfl,rfl,h,g]
 |_::Z,_,_,i+1,q=>by refine yA q λy1 b t j k m n g=>?_;subst k m;exact#[y1,b.set i y,t,j.set i as,rfl,rfl,n,AU h i g]
theorem xQ{as:List Addr}:∀{os:List (List Addr)}{i:Nat},b∈(os.set i as).flatten->b∈os.flatten\/b∈as
 |[],i,h=>by simp at h
 |o::os,0,h=>by
  simp at h;rcases h with h|h
  .exact .inr h
  .exact .inl (by simp;exact .inr h)
 |o::os,i+1,h=>by
  simp only[J4,Jb,QF]at h;rcases h with h|h
  .exact .inl (by simp only[Jb,QF];exact .inl h)
  .rcases xQ h with h|h
   .exact .inl (by simp only[Jb,QF];exact .inr h)
   .exact .inr h
theorem C7{as:List Addr}(k:as.Nodup):∀{os:List (List Addr)}{i:Nat},os.flatten.Nodup->(∀a∈as,a∉os.flatten)->(os.set i as).flatten.Nodup
 |[],i,h,_=>by simp
 |o::os,0,h,d=>by simp at h|-;have j:=QS.mp h;refine QS.mpr #[k,j.2.1,λa g b hb e=>?_];subst e;exact d a g (by simp only[Jb,QF];exact .inr hb)
 |o::os,i+1,h,d=>by
  simp at h|-;have j:=QS.mp h;refine QS.mpr #[j.1,C7 k j.2.1 (λa g hb=>d a g (by simp only[Jb,QF];exact .inr hb)),λa g b hb e=>?_];subst e;rcases xQ hb with hb|hb
  .exact j.2.2 a g a hb rfl
  .exact d a hb (by simp;exact .inl g)
structure Bd(p:Pm)(H0:Hp)(O0:List Addr)(Z:Ev.Env)(Y:L2.St)(os:List (List Addr))(H:Hp):Prop where
 rel:Rel p Z Y (os++[O0]) H
 len:os.length=Z.length
 jU:Y.length=Z.length
 ext:Ext H0 H
 new:∀a∈os.flatten,H0 a=Qc
def Bd.mono{p:Pm}(b:Bd p H0 O0 Z Y os H)(x:Ext H H1):Bd p H0 O0 Z Y os H1:=
 #[b.rel.ext x,b.len,b.jU,b.ext.trans x,b.new]
def ya{A B:List Addr}(h:∀a∈B,a∈A):Ext (fz A H) (fz B H):=λa o e=>by
 unfold fz at e|-;split at e
 .exact nS e
 .rename_i n;rw[if_neg λm=>n (h a m)];exact e
def vj(os:List (List Addr))(O:List Addr):(os++[O]).flatten=os.flatten++O:=by simp
def Lg:Ext (fz (os++[O0]).flatten H) (fz O0 H):=ya λa h=>by rw[vj];exact Qr _ h
def yT(h:i<os.length):(os++[O]).set i as=os.set i as++[O]:=by rw[List.set_append,if_pos h]
def Bd.Xe{p:Pm}(b:Bd p H0 O0 Z Y os H)(hi:i<Z.length)(h:Rep p (fz (os++[O0]).flatten H) d v):
  Bd p H0 O0 (Z.set i (Qa (.val d))) (Y.set i (Qa v)) (os.set i []) H:=by
 have sub:∀a∈(os.set i []++[O0]).flatten,a∈(os++[O0]).flatten:=λa g=>by rw[<-yT (by rw[b.len];exact hi)]at g;exact(xQ g).elim id λz=>absurd z (by simp)
 have y:Ext (fz (os++[O0]).flatten H) (fz (os.set i []++[O0]).flatten H):=ya sub;refine#[#[?_,λa g=>b.rel.there a (sub a g),?_],by simp[b.len],by simp[b.jU],b.ext,λa g=>?_]
 .rw[<-yT (by rw[b.len];exact hi)];exact C7 YO b.rel.nd λa g=>absurd g (by simp)
 .have:=AU (x:=Qa (.val d)) (y:=Qa v) (as:=[]) (#[rfl,v,rfl,h.mono y]) i (Tx (Ext.refl H) y b.rel.slots)
  rwa [yT (by rw[b.len];exact hi)]at this
 .exact (xQ g).elim (b.new a) λz=>absurd z (by simp)
def Bd.Xd{p:Pm}{y:Option V}(b:Bd p H0 O0 Z Y os H)(hi:i<Z.length):
  Bd p H0 O0 (Z.set i Qc) (Y.set i y) (os.set i []) H:=by
 have sub:∀a∈(os.set i []++[O0]).flatten,a∈(os++[O0]).flatten:=λa g=>by rw[<-yT (by rw[b.len];exact hi)]at g;exact(xQ g).elim id λz=>absurd z (by simp)
 have z:Ext (fz (os++[O0]).flatten H) (fz (os.set i []++[O0]).flatten H):=ya sub;refine#[#[?_,λa g=>b.rel.there a (sub a g),?_],by simp[b.len],by simp[b.jU],b.ext,λa g=>?_]
 .rw[<-yT (by rw[b.len];exact hi)];exact C7 YO b.rel.nd λa g=>absurd g (by simp)
 .have:=AU (x:=Qc) (y:=y) (as:=[]) rfl i (Tx (Ext.refl H) z b.rel.slots)
  rwa [yT (by rw[b.len];exact hi)]at this
 .exact (xQ g).elim (b.new a) λz=>absurd z (by simp)
def Bd.jF{p:Pm}{sl:Sl}(b:Bd p H0 O0 Z Y os H)(hi:i<Z.length)(x:Ext H H1)(nd:as.Nodup)(k:∀a∈as,H a=Qc)
  (th:∀a∈as,∃o,H1 a=Qa o) (h:yW p H1 (fz ((os++[O0]).flatten++as) H1) (Qa sl) (Qa v) as):
  Bd p H0 O0 (Z.set i (Qa sl)) (Y.set i (Qa v)) (os.set i as) H1:=by
 have lt:i<os.length:=by rw[b.len];exact hi
 have sub:∀a∈(os.set i as++[O0]).flatten,a∈(os++[O0]).flatten++as:=λa g=>by rw[<-yT lt]at g;exact QF.mpr (xQ g)
 have y:Ext (fz ((os++[O0]).flatten++as) H1) (fz (os.set i as++[O0]).flatten H1):=ya sub;have z:Ext (fz (os++[O0]).flatten H) (fz ((os++[O0]).flatten++as) H1):=λc o e=>by
  unfold fz at e|-;split at e
  .exact nS e
  .rename_i n;rw[if_neg λm=>?_]
   .exact x _ _ e
   .rcases QF.mp m with m|m
    .exact n m
    .rw[k c m]at e;exact nS e
 have j:∀a∈as,a∉(os++[O0]).flatten:=λa g hb=>by obtain⟨o,e⟩:=b.rel.there a hb;rw[k a g]at e;exact nS e
 refine#[#[?_,λa g=>?_,?_],by simp[b.len],by simp[b.jU],b.ext.trans x,λa g=>?_]
 .rw[<-yT lt];exact C7 nd b.rel.nd j
 .rcases QF.mp (sub a g)with m|m
  .obtain⟨o,e⟩:=b.rel.there a m;exact#[o,x _ _ e]
  .exact th a m
 .have:=AU (aw (Ext.refl H1) y h) i (Tx x (z.trans y) b.rel.slots)
  rwa [yT lt]at this
 .rcases xQ g with m|m
  .exact b.new a m
  .cases e:H0 a with
   |none=>rfl
   |some o=>have:=b.ext a o e;rw[k a m]at this;exact nS this
def bW(p:Pm)(H0:Hp)(O0:List Addr)(H:Hp):F->Flow->Prop
 |.nx,.next=>True
 |.brk,.brk=>True
 |.cont,.cont=>True
 |.ret d,.ret u=>∃v,RelV v u/\Rep p (fz O0 H) d v
 |.Xb d,.ret u=>∃a ds vs,u=.ref a/\d=.qA ds/\H0 a=Qc/\H a=Qa (.qA vs)/\qK p (fz (a::O0) H) ds vs
 |_,_=>False
section
variable{p:Pm}
def Es(X:Cx)(p:Pm)(H0:Hp)(O0:List Addr)(pins:List (Addr×Obj))(r:RS)(e:Value)(s':Shared):Prop:=
 ∃c ρ' b g H',r=.err c ρ'/\Bd p H0 O0 ρ' b g H'/\wN X p pins b H' c e s'
def Gs(X:Cx)(p:Pm)(H0:Hp)(O0:List Addr)(pins:List (Addr×Obj))(r:RS)(f:Flow)(s':Shared):Prop:=
 ∃ρ' fl b g H',r=.ok ρ' fl/\Bd p H0 O0 ρ' b g H'/\Inv X pins b H' s'/\bW p H0 O0 H' fl f
def SS(X:Cx)(p:Pm)(G:Nat->List D->R D)(sub:Nat->Nat->Bool)(st:Stmt)(l:S):Prop:=
 ∀(H0:Hp)(O0:List Addr)(E:NZ),U1 (model X.prog X.w) X.A X.env E->∀(pins:List (Addr×Obj))(s:Shared)(Y:L2.St)(H:Hp)(Z:Ev.Env)(os:List (List Addr)),Inv X pins Y H s->Bd p H0 O0 Z Y os H->
  ex G sub l Z≠.qC->(∀e s',Es X p H0 O0 pins (ex G sub l Z) e s'->E e s')->wX X (exec st X.env) (Gs X p H0 O0 pins (ex G sub l Z)) E s
def je(X:Cx)(p:Pm)(G:Nat->List D->R D)(sub:Nat->Nat->Bool)(st:List Stmt)(l:List S):Prop:=
 ∀(H0:Hp)(O0:List Addr)(E:NZ),U1 (model X.prog X.w) X.A X.env E->∀(pins:List (Addr×Obj))(s:Shared)(Y:L2.St)(H:Hp)(Z:Ev.Env)(os:List (List Addr)),Inv X pins Y H s->Bd p H0 O0 Z Y os H->
  qL G sub l Z≠.qC->(∀e s',Es X p H0 O0 pins (qL G sub l Z) e s'->E e s')->wX X (VB st X.env) (Gs X p H0 O0 pins (qL G sub l Z)) E s
def zh{r:R α}{f:α->RS}(h:r.go Z f≠.qC):r≠.qC:=λe=>h (by rw[e];rfl)
def j9{r:R α}{f:α->RS}{e:Value}(B:Bd p H0 O0 Z Y os H)(h:Er X p pins Y H r e s'):Es X p H0 O0 pins (r.go Z f) e s':=by obtain⟨c,b,m⟩:=h;exact#[c,Z,Y,os,H,by rw[b];rfl,B,m]
def ro:je X p G sub [] []:=λH0 O0 E _ pins s Y H Z os I B _ _=>Ym #[Z,.nx,Y,os,H,rfl,B,I,trivial]
def q9h{st:Stmt}{y:List Stmt}{l:S}{ls:List S}(Q:SS X p G sub st l)(T:je X p G sub y ls):je X p G sub (st::y) (l::ls):=by
 intro H0 O0 E z pins s Y H Z os I B hs j;have N:qL G sub (l::ls) Z=(ex G sub l Z).nx λρ'=>qL G sub ls ρ':=rfl;rw[N]at hs j|-;have ns:ex G sub l Z≠.qC:=λe=>hs (by rw[e];rfl);refine YA (R7 (Q H0 O0 E z pins s Y H Z os I B ns (λe s' W=>wF W λc ρ' M U H' k g m=>j e s' #[c,ρ',M,U,H',by rw[k];rfl,g,m])) λf s1 q=>?_);refine wY q λn fl b C H1 k g t F=>?_;rw[k]at hs j|-;cases fl<;>cases f<;>first|exact F.elim|skip
 .exact T H0 O0 E z pins s1 b H1 n C t g hs j
 all_goals exact#[_,_,b,C,H1,rfl,g,t,F]
def q9K(m:SE X p G sub e l)(n:J9 e Qc pos.line X.env=pure Qf):SS X p G sub (.Expr e pos) (.expr l):=by intro H0 O0 E C pins s Y H Z os I B hs b;have j:ex G sub (.expr l) Z=(ev G sub l Z).go Z λ_=>.ok Z .nx:=rfl;rw[j]at hs b|-;refine Uq (Qh (m pins s Y H Z _ I B.rel (zh hs)) (λv s1 y=>qY y λd x H1 k g M t F=>?_) (λe s' z=>b e s' (j9 B z))) I.quiet n;rw[k];exact#[Z,.nx,Y,os,H1,rfl,B.mono t,g,trivial]
def q9V(m:SE X p G sub e l):SS X p G sub (.Return (Qa e) pos) (.ret l):=by intro H0 O0 E F pins s Y H Z os I B hs b;have j:ex G sub (.ret l) Z=(ev G sub l Z).go Z λd=>.ok Z (.ret d):=rfl;rw[j]at hs b|-;refine Ur (Qh (m pins s Y H Z _ I B.rel (zh hs)) (λv s1 C=>qY C λd x H1 k g t y n=>?_) (λe s' z=>b e s' (j9 B z)));rw[k];exact#[Z,.ret d,Y,os,H1,rfl,B.mono y,g,x,t,n.mono Lg]
def q9O{c:Qs}{a b:List Stmt}{lc:T}{la lb:List S}(hc:ST X p G sub c lc)(C:je X p G sub a la)(hb:je X p G sub b lb):SS X p G sub (.If c a b pos) (.ifs lc la lb):=by
 intro H0 O0 E k pins s Y H Z os I B hs g;have n:ex G sub (.ifs lc la lb) Z=(z9 G sub lc Z).go Z λt=>if t then qL G sub la Z else qL G sub lb Z:=rfl
 rw[n]at hs g|-;refine ZW (Qh (hc _ pins s Y H Z _ (.inl rfl) I B.rel (zh hs)) (λt s1 F=>qd F λH1 y j m=>?_) (λe s' z=>g e s' (j9 B z)));rw[y,qT]at hs g|-;cases t with
 |true=>exact C H0 O0 E k pins s1 Y H1 Z os j (B.mono m) hs g
 |false=>exact hb H0 O0 E k pins s1 Y H1 Z os j (B.mono m) hs g
def q9Y(n:X.N.Nodup)(hi:X.N[i]?=Qa x)(C:Loc X.env.scope x)(hf:X.fn x=Qb\/X.env.scope.names.lookup x=Qa .local)(t:SE X p G sub e l)
  (Q:J9 e (Qa (.Name x j0)) pos.line X.env=pure Qf):SS X p G sub (.Assign [.Name x j0] e pos) (.set i l):=by
 intro H0 O0 E U pins s Y H Z os I B hs b;have k:ex G sub (.set i l) Z=(ev G sub l Z).go Z λd=>.ok (Z.set i (Qa (.val d))) .nx:=rfl;rw[k]at hs b|-;refine Yp (Qh (t pins s Y H Z _ I B.rel (zh hs)) (λv s1 T=>qY T λd y H1 m g M S F=>?_) (λe s' z=>b e s' (j9 B z))) Q;rw[m];exact wu g n hi C M (λs2 j=>#[_,.nx,_,_,H1,rfl,(B.mono S).Xe (by rw[<-B.jU,I.len];exact(Qn.mp hi).1) F,j,trivial]) hf
def BOk.Aj{pl:List (Addr×Obj)}{B:Heap}(b:BOk X (pins++pl) H B):BOk X pins H B:=
 #[b.qO,b.keep,b.there,λq g=>b.pin q ((QF.mp g).elim (λz=>QR _ z) λz=>Qr _ (QR _ z))]
theorem wN.Aj{pl:List (Addr×Obj)}{c:Nat}{e:Value}(m:wN X p (pins++pl) Y H c e s'):wN X p pins Y H c e s':=by
 obtain⟨H',a,C,k,n,y,z⟩:=m;refine#[H',a,C,k,n,y,?_];rcases z with⟨s1,vs,b,g⟩|⟨B,t,b,g,j⟩|⟨B,t,L,F,b,g,j⟩
 .exact .inl #[s1,vs,b.yV,g]
 .exact .inr (.inl #[B,t,b.yV,g.Aj,j])
 .exact .inr (.inr #[B,t,L,F,b.yV,g.Aj,j])
def q9f{lb:List S}{c:Qs}(hc:ST X p G sub c lc)(hb:je X p G sub body lb):SS X p G sub (.While c body [] pos) (.whl lc lb):=by
 intro H0 O0 E W pins s Y H Z os I B hs U;have e0:ex G sub (.whl lc lb) Z=x6 (z9 G sub lc) (qL G sub lb) 100000 Z:=rfl;rw[e0]at hs U|-;generalize hr:x6 (z9 G sub lc) (qL G sub lb) 100000 Z=r at hs U|-;refine wpAny_While (codeAny_whileLoop (λn s'=>∃ρ' T qg H',Inv X pins T H' s'/\Bd p H0 O0 ρ' T qg H'/\x6 (z9 G sub lc) (qL G sub lb) n ρ'=r) ?_ 100000 #[Z,Y,os,H,I,B,hr]);rintro n s1 ⟨b,y,jq,H1,I1,C,g⟩;cases n with
 |zero=>exact absurd g.symm hs
 |succ n=>
  have w2:x6 (z9 G sub lc) (qL G sub lb) (n+1) b=(z9 G sub lc b).go b λt=>if t then(qL G sub lb b).turn λρ'=>x6 (z9 G sub lc) (qL G sub lb) n ρ' else .ok b .nx:=rfl
  rw[w2]at g;have ns:z9 G sub lc b≠.qC:=λe=>hs (by rw[<-g,e];rfl);refine YK W (Qh (hc _ pins s1 y H1 b _ (.inl rfl) I1 C.rel ns) (λt s2 zz=>qd zz λH2 e2 I2 x2=>?_) (λe s' z=>U e s' (by rw[<-g];exact j9 C z)));rw[e2,qT]at g;cases t with
  |true=>
   rw[if_pos rfl]at g|-;have ns:qL G sub lb b≠.qC:=λe=>hs (by rw[<-g,e];rfl);refine YK W (R7 (hb H0 O0 E W pins s2 y H2 b jq I2 (C.mono x2) ns (λe s' zz=>wF zz λc ρ' T qg H' e1 C m=>U e s' #[c,ρ',T,qg,H',by rw[<-g,e1];rfl,C,m])) λf s3 q3=>?_);refine wY q3 λj fl k Q M e3 F N r3=>?_;rw[e3]at g;cases fl<;>cases f<;>first|exact r3.elim|skip
   .exact#[n,Jh _,j,k,Q,M,N,F,g]
   .exact#[j,.nx,k,Q,M,g.symm,F,N,trivial]
   .exact#[n,Jh _,j,k,Q,M,N,F,g]
   .exact#[j,_,k,Q,M,g.symm,F,N,r3]
   .exact#[j,_,k,Q,M,g.symm,F,N,r3]
  |false=>
   rw[if_neg Qq]at g|-;exact Ym #[b,.nx,y,jq,H2,g.symm,C.mono x2,I2,trivial]
end
structure Wk(J:It)(Hf:Hp)(vs:List V):Prop where
 go:∀i H',Ext Hf H'->i<vs.length->J.go i H'
 RA:∀i H' x uy,Ext Hf H'->i<vs.length->J.RA i H' x uy->uy=H'/\vs[i]?=Qa x
 stop:∀H',Ext Hf H'->J.stop vs.length H'
def Wk.mono(k:Wk J Hf vs)(x:Ext Hf kq):Wk J kq vs:=
 #[λi H' y=>k.go i H' (x.trans y),λi H' v uy y=>k.RA i H' v uy (x.trans y),λH' y=>k.stop H' (x.trans y)]
def qAM{a:Addr}(h:zM K Hf a vs):Wk (bc K a) Hf vs:=
 #[λi H' x hi=>#[vs,vs[i],x.R0 h,by simp[hi]],λi H' v uy x _ y=>#[y.1,y.2 vs (x.R0 h)],λH' x=>#[vs,x.R0 h,Qt _]]
def qAN{a:Addr}(h:zw K Hf a vs):Wk (bf K a) Hf vs:=
 #[λi H' x hi=>#[vs,vs[i],x.va h,by simp[hi]],λi H' v uy x _ y=>#[y.1,y.2 vs (x.va h)],λH' x=>#[vs,x.va h,Qt _]]
def sg(lo:Int)(n:Nat):Wk (Pw lo n) Hf ((Qu n).map λ(k:Nat)=>V.int (lo+k)):=by
 refine#[λi H' _ hi=>?_,λi H' v uy _ hi y=>#[y.1,?_],λH' _=>?_]
 .show i<n;simpa using hi
 .
  rw[y.2];simp[(by simpa using hi)]
 .show n<=_;simp
def I0(d:Addr)(o:Obj)(kvs:List (Key×V)):It:=
 #[λi H=>H d=Qa (.frz o (.dK kvs))/\i<kvs.length,λi H x H'=>H'=H/\∃q,kvs[i]?=Qa q/\x=kV q.1,λi H=>H d=Qa (.frz o (.dK kvs))/\kvs.length<=i]
def qAL{d:Addr}{o:Obj}(h:Hf d=Qa (.frz o (.dK kvs))):Wk (I0 d o kvs) Hf (kvs.map λq=>kV q.1):=by refine#[λi H' x hi=>#[x _ _ h,by simpa using hi],λi H' v uy x _ y=>#[y.1,?_],λH' x=>#[x _ _ h,by simp]];refine qH y.2 λq b g=>?_;rw[QB,b,g];rfl
def iu(h:(vC P w).is k u=Qb):RelV (kV k) u:=by
 rcases uB h with⟨i,t,rfl,rfl⟩|⟨x,t,rfl,rfl⟩
 .exact#[t,rfl]
 .exact#[t,rfl]
def Lf{d:Addr}{o:Obj}(ok:zc P w H h)(e:H d=Qa (.frz o (.dK kvs))):
  kvs.length<=QD/\(d==JZ)=Qf/\∃vs es ep,KV kvs vs/\o.data=.dict es ep/\h.DictAt (vC P w) d vs ep:=by
 refine vf (ok d _ e) λg z hd b=>?_;refine qH b λvs rel b=>?_;refine qY b λo' es ep j m k n b=>?_;obtain⟨p,t⟩:=b;rw[g]at j;cases j;exact#[z,hd,vs,es,ep,rel,k,o,es,g,m,k,n,p,t]
def KV.key{vs:List (Key×Value)}(r:KV kvs vs){q:Key×V}(e:kvs[i]?=Qa q):∃u,vs[i]?=Qa (q.1,u):=by
 induction r generalizing i with
 |nil=>simp at e
 |@cons p g ps j h t b=>
  cases i with
  |zero=>simp at e;subst e;exact#[g.2,by simp[h.1]]
  |succ i=>simpa using b (by simpa using e)
def qAA{tg:Expr}{d:Addr}{o:Obj}{es:Array DictEntry}{ep:Nat}(hd:o.data=.dict es ep):
  Turn P w K tg (I0 d o kvs) [it] it (λi h=>h.IsKeyIter it d i kvs.length ep)where
 mem:=by simp
 obj:=λi h st b hb=>by
  have e:b=it:=by simpa using hb
  subst e;refine qd st λo e c d=>?_;exact#[o,e,λv z=>by rw[d]at z;cases z]
 keep:=λi h h' st k=>st.at λo e=>k it (by simp) o e
 item:=by intro X y hw t hc i pins s Y H E I hf st B;subst y hw t;obtain⟨F,hi⟩:=B;refine vN (Lf I.qO F) λz yg M=>?_;refine xu M λvs zg uS rel dd C=>?_;rw[hd]at dd;cases dd;have hl:=KV.length rel;obtain⟨u,hu⟩:=KV.key rel (i:=i) (q:=kvs[i]) (by simp[hi]);refine k8 (hf it (by simp)) λg j W m n p=>?_;refine wpAny_pyNext_dict_item (hl▸st) C hu λkey h' Q N sb=>?_;have S:Inv X pins Y H {s with heap:=h'}:=I.turned (t':=s.toks) (λb o hb e=>(sb.2 b hb).trans e) g j m n p;refine qd (id N) λo1 e c T=>?_;exact#[key,rfl,Ej (s:={s with heap:=h'}) e c T (by decide) #[kV (kvs[i]).1,H,S,iu Q,#[rfl,_,by simp[hi],rfl],hl▸N,λb hb=>(hf b hb).1]]
 done:=by intro X y hw t hc i pins s Y H E I hf st B;subst y hw t;obtain⟨F,hi⟩:=B;refine vN (Lf I.qO F) λz yg M=>?_;refine xu M λvs zg uS rel dd C=>?_;rw[hd]at dd;cases dd;have hl:=KV.length rel;refine k8 (hf it (by simp)) λg j W m n p=>?_;exact wpAny_pyNext_dict_end (I.ok.hd hc) (hl▸st) C (by rw[Yb];lia) λh' U=>#[rfl,I.turned (t':=s.toks) (λb o hb e=>U b o hb e) g j m n p]
 self:=λ_ _ _ _ _ st h=>wpAny_pyIter_keyiter st h
def Gi(X:Cx)(p:Pm)(fr:Bool)(tg:Expr)(pins:List (Addr×Obj))(Y:L2.St)(os:List (List Addr))(H:Hp)(r:R (List D))(b:Value)(s2:Shared):Prop:=
 ∃ds,r=.ok ds/\bp X pins Y tg (λJ H'=>Ext H H'/\∃vs,qK p (fz os.flatten H') ds vs/\Wk J (if fr then fz os.flatten H' else H') vs) b s2
def SI(X:Cx)(p:Pm)(G:Nat->List D->R D)(sub:Nat->Nat->Bool)(fr:Bool)(tg e:Qs)(l:I):Prop:=
 ∀(pins:List (Addr×Obj))(s:Shared)(Y:L2.St)(H:Hp)(Z:Ev.Env)(os:List (List Addr)),Inv X pins Y H s->Rel p Z Y os H->jR G sub l Z≠.qC->
  wX X (Je e X.env) (λv s1=>wX X (pyIter v) (Gi X p fr tg pins Y os H (jR G sub l Z)) (Er X p pins Y H (jR G sub l Z)) s1) (Er X p pins Y H (jR G sub l Z)) s
section
variable{p:Pm}
theorem Ob{Hf:Hp}:∀{kvs:List (Key×V)},(ints? (kvs.map λq=>zo q.1)).isSome=Qb->qK p Hf (kvs.map λq=>zo q.1) (kvs.map λq=>kV q.1)
 |[],_=>rfl
 |(.inl i,v)::r,h=>by refine#[.int i,_,rfl,rfl,Ob ?_];have h':((ints? (r.map λq=>zo q.1)).map (i::·)).isSome=Qb:=h;simpa using h'
 |(.inr x,v)::r,h=>by simp[zo,ints?]at h
def q3z{fr:Bool}{tg:Expr}(g:p.K=X.K)(I:Inv X pins Y H s)(n:Ext H0 H)(j:RelV v u)
  (q:Rep p (fz os.flatten H) (.qE xs) v):wX X (pyIter u) (Gi X p fr tg pins Y os H0 (.ok xs)) E s:=by
 refine zN q λa vs t s1 z m=>?_;subst t;cases j;refine qd (I.tuple (g▸zG.va s1)) λits j k y=>?_;refine wpAny_pyIter_tuple k ?_;refine#[xs,rfl,s.heap.objs.size,[s.heap.objs.size],_,_,H,rfl,I.kept (t':=s.toks) λb o e=>Qk _ e,qAD a _,#[_,QG _ rfl,rfl,rfl],λb hb=>?_,n,vs,m,?_]
 .have e:b=s.heap.objs.size:=by simpa using hb
  subst e;exact I.RX (Qt _) (I.qO.fresh (Qt _))
 .have:=qAN (g▸s1:zw X.K (fz os.flatten H) a vs);cases fr
  .exact this.mono zG
  .exact this
def q3y{fr:Bool}{tg:Expr}(g:p.K=X.K)(I:Inv X pins Y H s)(t:Ext H0 H)(j:RelV v u)
  (q:∃a vs,v=.ref a/\zM p.K (if fr then fz os.flatten H else H) a vs/\qK p (fz os.flatten H) xs vs):wX X (pyIter u) (Gi X p fr tg pins Y os H0 (.ok xs)) E s:=by
 refine qN q λa vs y s1 m=>?_;subst y;cases j;have n:zM X.K H a vs:=by
  cases fr
  .exact g▸s1
  .exact g▸zG.R0 s1
 refine qd (I.list n) λits j k z=>?_;refine Vi k.isList ?_;refine#[xs,rfl,s.heap.objs.size,[s.heap.objs.size],_,_,H,rfl,I.kept (t':=s.toks) λb o e=>Qk _ e,qAB a _,#[_,QG _ rfl,rfl,rfl],λb hb=>?_,t,vs,m,?_]
 .have e:b=s.heap.objs.size:=by simpa using hb
  subst e;exact I.RX (Qt _) (I.qO.fresh (Qt _))
 .exact qAM (g▸s1)
def q3x{tg:Expr}{ks ws:List D}(I:Inv X pins Y H s)(m:Ext H0 H)(k:RelV v u)(g:(ints? ks).isSome=Qb)
  (q:Rep p (fz os.flatten H) (.z7 ks ws) v):wX X (pyIter u) (Gi X p Qb tg pins Y os H0 (.ok ks)) E s:=by
 obtain⟨a,kvs,o,rfl,s1,rfl,t⟩:=q;cases k;refine vN (Lf I.qO (zG _ _ s1)) λz hd n=>?_;refine xu n λvs es ep rel dd j=>?_;refine wpAny_pyIter_dict hd j ?_;refine#[_,rfl,s.heap.objs.size,[s.heap.objs.size],_,I0 a o kvs,H,rfl,I.kept (t':=s.toks) λb o e=>Qk _ e,qAA dd,#[_,QG _ rfl,rfl,by rw[(KV.length rel)];rfl],λb hb=>?_,m,_,Ob g,qAL s1];have e:b=s.heap.objs.size:=by simpa using hb
 subst e;exact I.RX (Qt _) (I.qO.fresh (Qt _))
def rJ(n:p.K=X.K)(h:SE X p G sub e l):SI X p G sub Qb tg e (.e l):=by
 intro pins s Y H Z os I R hs;dsimp only[T6]at hs|-;refine Qh (h pins s Y H Z os I R (zP hs)) (λv s1 B=>qY B λd x H1 y b k m j=>?_) (λe s' z=>z.bind);rw[y,qF]at hs|-;cases d<;>first
  |cases hs rfl
  |skip
 .exact q3z n b m k j
 .exact q3y n b m k j
 .rename_i ks ws;cases g:(ints? ks).isSome with
  |true=>
   have t:jC (.z7 ks ws)=.ok ks:=(by simp[jC,g]);rw[t];exact q3x b m k g j
  |false=>exact absurd (by simp[jC,g]) hs
theorem aj{Hf:Hp}(lo:Int):∀(l:List Nat),qK p Hf (l.map λ(k:Nat)=>D.int (lo+k)) (l.map λ(k:Nat)=>V.int (lo+k))
 |[]=>rfl
 |k::l=>#[_,_,rfl,rfl,aj lo l]
def q7W(n:Nat):(Qu n).map (λ(k:Nat)=>D.int k)=(Qu n).map (λ(k:Nat)=>D.int (0+k)):=by simp
theorem EV{Z:Ev.Env}:∀{ls:List L}{ds:List D},qu G sub ls Z=.ok ds->ds.length=ls.length
 |[],ds,e=>by cases e;rfl
 |l::ls,ds,e=>by
  rw[jK]at e;cases h:ev G sub l Z with
  |ok d=>
   rw[h]at e;cases b:qu G sub ls Z with
   |ok g=>rw[b,qF]at e;cases e;simp[EV b]
   |err c=>rw[b]at e;cases e
   |qC=>rw[b]at e;cases e
  |err c=>rw[h]at e;cases e
  |qC=>rw[h]at e;cases e
def ar(M:Gl X "range")(N:X.mg "range"=Qc)(F:SA X p G sub [a] [l])(S:QM [a] X.env=[(Qf,Je a X.env)]):SI X p G sub Qb tg (.Call (.Name "range" q) [a] [] pos) (.rng [l]):=by
 intro pins s Y H Z os I R hs;rw[vh]at hs|-;refine Call_ (wJ I M N boot_range (JL (Qh (F pos pins s Y H Z os I R (zP hs)) (λus s1 g=>qY g λds vs H1 k m U x1 Q=>?_) (λe s' z=>z.bind)) S rfl));have hl:=EV k;rw[k,qF]at hs|-;unfold xU at hs|-;split at hs
 .rename_i j;split at hs
  .rename_i b;refine qN Q λv r g B C=>?_;subst g;cases B;cases C;cases U with
   |cons W rb=>
    cases rb;obtain⟨t,rfl⟩:=W;rw[if_pos b];refine call_range_1 (Qh (pJ (tg:=tg) (R:=λJ H'=>H'=H1/\J=Pw 0 j.toNat) (E:=λ_ _=>False) m ∅ ∅ b.1 b.2 #[rfl,by simp]) (λuA s2 h=>?_) (λ_ _ z=>z.elim));refine wY h λit fp tn J H' y n T zr=>?_;refine vf zr λst f zu vc=>?_;subst zu vc;refine#[_,rfl,it,fp,tn,_,H',y,n,T,st,f,x1,_,?_,(sg 0 j.toNat)];rw[q7W];exact aj 0 _
  .cases hs rfl
 .simp at hl
 .cases hs rfl
def rN{b:Qs}{m:L}(W:Gl X "range")(hm:X.mg "range"=Qc)(U:SA X p G sub [a,b] [l,m])(qe:QM [a,b] X.env=[(Qf,Je a X.env),(Qf,Je b X.env)])(n:QM [b] X.env=[(Qf,Je b X.env)]):
  SI X p G sub Qb tg (.Call (.Name "range" q) [a,b] [] pos) (.rng [l,m]):=by
 intro pins s Y H Z os I R hs;rw[vh]at hs|-;refine Call_ (wJ I W hm boot_range (JL (Qh (U pos pins s Y H Z os I R (zP hs)) (λus s1 k=>qY k λds vs H1 y B r1 x1 q1=>?_) (λe s' z=>z.bind)) (by rw[qe,n]) (by rw[n];rfl)));have hl:=EV y;rw[y,qF]at hs|-;unfold xU at hs|-;split at hs
 .simp at hl
 .rename_i i j;split at hs
  .rename_i g;refine qN q1 λv r k M N=>?_;subst k;refine qN N λv2 r2 k Q S=>?_;subst k;cases M;cases Q;cases S;cases r1 with
   |cons ra rb=>
    cases rb with
    |cons rc rd=>
    cases rd;obtain⟨t,rfl⟩:=ra;obtain⟨t',rfl⟩:=rc;rw[if_pos g];refine call_range_2 (Qh (pJ (tg:=tg) (R:=λJ H'=>H'=H1/\J=Pw i (j-i).toNat) (E:=λ_ _=>False) B g.1 g.2.1 g.2.2.1 g.2.2.2 #[rfl,rfl]) (λuA s2 h=>?_) (λ_ _ z=>z.elim));refine wY h λit fp tn J H' F C T zr=>?_;refine vf zr λst f zu vc=>?_;subst zu vc;exact#[_,rfl,it,fp,tn,_,H',F,C,T,st,f,x1,_,aj i _,(sg i (j-i).toNat)]
  .cases hs rfl
 .cases hs rfl
def SG(X:Cx)(p:Pm)(tg:Qs)(k:Nat)(is:List Nat):Prop:=
 ∀(E:NZ)(H0:Hp)(O0:List Addr)(pins:List (Addr×Obj))(s:Shared)(Y:L2.St)(H:Hp)(Z:Ev.Env)(os:List (List Addr))(d:D)(xs:List D)(v:V)(u:Value),Inv X pins Y H s->Bd p H0 O0 Z Y os H->RelV v u->
  Rep p (fz (os++[O0]).flatten H) d v->wA k d=.ok xs->wX X (Vm tg X.env u) (λ_ s'=>∃b g,Inv X pins b H s'/\Bd p H0 O0 (Tv is xs Z) b g H) E s
def q8n(g:X.N.Nodup)(hi:X.N[i]?=Qa x)(j:Loc X.env.scope x)(hf:X.fn x=Qb\/X.env.scope.names.lookup x=Qa .local):SG X p (.Name x pos) 0 [i]:=by intro E H0 O0 pins s Y H Z os d xs v u I B k q e;cases e;exact Ul (wu I g hi j k (λs2 b=>#[_,_,b,B.Xe (by rw[<-B.jU,I.len];exact(Qn.mp hi).1) q]) hf)
def Bd.q7K(b:Bd p H0 O0 Z Y os H):Bd p (fz os.flatten H) O0 Z Y os H/\Ext H0 (fz os.flatten H):=
 #[#[b.rel,b.len,b.jU,zG,λa g=>by unfold fz;rw[if_pos g]],λa o e=>kB (b.ext a o e) λm=>by rw[b.new a m]at e;cases e]
def Bd.back{g:Hp}(b:Bd p g O0 Z Y os H)(x:Ext H0 g):Bd p H0 O0 Z Y os H:=
 #[b.rel,b.len,b.jU,x.trans b.ext,λa j=>by
  cases e:H0 a with
  |none=>rfl
  |some o=>have:=x a o e;rw[b.new a j]at this;cases this]
def Bd.kept{j:List (List Addr)}(b:Bd p (fz j.flatten H2) O0 Z Y os H):Ext (fz (j++[O0]).flatten H2) (fz (os++[O0]).flatten H):=λa o e=>by
 unfold fz at e;split at e
 .cases e
 .rename_i n;rw[vj]at n;have g:=kB e λm=>n (QR _ m);refine kB (b.ext a o g) λm=>?_;rw[vj]at m;rcases QF.mp m with m|m
  .rw[b.new a m]at g;cases g
  .exact n (Qr _ m)
def qAE(k:Nat)(d:D):wA k d=.qC\/∃xs,wA k d=.ok xs:=by
 unfold wA;split
 .exact .inr #[_,rfl]
 .split
  .split
   .exact .inr #[_,rfl]
   .exact .inl rfl
  .exact .inl rfl
def q9L{lb:List S}(hc:X.calm=Qb)(hi:SI X p G sub Qb tg iter li)(hg:SG X p tg k is)(hb:je X p G sub body lb)(Rm:∀x,Vj iter X.env x=pure x):
  SS X p G sub (.For tg iter body [] pos) (.zS k is li lb):=by
 intro H0 O0 E hp pins s Y H Z os I B hs W;have e0:ex G sub (.zS k is li lb) Z=(jR G sub li Z).go Z λds=>jS (qL G sub lb) k is ds Z:=rfl;rw[e0]at hs W|-;refine wpAny_For (Qh (hi pins s Y H Z _ I B.rel (zh hs)) (λv s1 h1=>Qh h1 (λuA s2 h2=>?_) (λe s' z=>W e s' (j9 B z))) (λe s' z=>W e s' (j9 B z))) Rm;refine EH h2 λds e1 it fp tn J H2 M I2 T w8 f2 x2 vs rep wk=>?_;subst M;rw[e1,qT]at hs W|-;rw[if_pos rfl]at wk;obtain⟨sx,U⟩:=(B.mono x2).q7K;have qX:=rep.length;generalize hr:jS (qL G sub lb) k is ds Z=r at hs W|-;have xY:∀{H':Hp},(∀b∈fp,H' b=Qc)->∀b∈fp,jG X pins H' b:=λhn b hb=>#[hn b hb,(f2 b hb).2]
 refine codeAny_forLoop_any (λn s'=>∃i ρ' F qg H',Inv X pins F H' s'/\tn i s'.heap/\(∀b∈fp,H' b=Qc)/\Bd p (fz os.flatten H2) O0 ρ' F qg H'/\jS (qL G sub lb) k is (ds.drop i) ρ'=r/\n=ds.length-i/\i<=ds.length) ?_ ds.length
  #[0,Z,Y,os,H2,I2,w8,λb hb=>(f2 b hb).1,sx,by simpa using hr,by simp,QU _]
 rintro n s3 ⟨i,g,y,XX,N,I3,rq,gK,B3,w3,rfl,hi3⟩;have xw:=B3.kept.trans zG
 by_cases qp:i<ds.length
 .
  rw[(US qp)]at w3;have j:(wA k ds[i]).go g (λxs=>(qL G sub lb (Tv is xs g)).turn λρ'=>jS (qL G sub lb) k is (ds.drop (i+1)) ρ')=r:=w3;rcases qAE k ds[i]with hu|⟨xs,hu⟩
  .rw[hu]at j;exact absurd j.symm hs
  rw[hu,qT]at j;refine YK hp (Qh (T.item X rfl rfl rfl hc i pins s3 y N E I3 (xY gK) rq (wk.go i N xw (qX▸qp))) (λr4 s4 M=>qH M λu OC h4=>?_) (λ_ _ z=>z));subst OC;refine YK hp (Qh h4 (λ_ s5 M=>RQ M λx H5 I5 r5 y5 uw T9=>?_) (λ_ _ z=>z));obtain⟨rfl,hx⟩:=wk.RA i N x H5 xw (qX▸qp) y5;refine qH (rep.get (i:=i) (d:=ds[i]) (by simp[qp])) λv' yJ um=>?_;rw[hx]at yJ;cases yJ;refine YK hp (Qh (hg E _ O0 _ s5 y H5 g XX ds[i] xs x u (I5.pinned (xY T9) (T.obj _ _ uw)) B3 r5 (um.mono B3.kept) hu) (λ_ s6 M=>ja M λσ6 os6 I6 B6=>?_) (λ_ _ z=>z));have ns:qL G sub lb (Tv is xs g)≠.qC:=λe=>hs (by rw[<-j,e];rfl);refine YK hp (Qh (hb _ O0 E hp _ s6 σ6 H5 (Tv is xs g) os6 I6 B6 ns (λe s' z=>W e s' ?_)) (λf s7 q7=>?_) (λ_ _ z=>z))
  .refine wF z λc ρ' F qg H' z1 z2 z3=>?_;exact#[c,ρ',F,qg,H',by rw[<-j,z1];rfl,z2.back U,z3.Aj]
  .refine wY q7 λt fl C A3 H7 e7 B7 Q r7=>?_;rw[e7]at j;have again:jS (qL G sub lb) k is (ds.drop (i+1)) t=r->∃m,m<ds.length-i/\∃i ρ' F qg H',Inv X pins F H' s7/\tn i s7.heap/\(∀b∈fp,H' b=Qc)/\Bd p (fz os.flatten H2) O0 ρ' F qg H'/\jS (qL G sub lb) k is (ds.drop i) ρ'=r/\m=ds.length-i/\i<=ds.length:=λw7=>by refine#[ds.length-(i+1),∅,i+1,t,C,A3,H7,Q.yV,T.keep _ _ _ uw λb hb o e=>(Q.pin (b,o) (Qr _ (Qr _ (PS hb e)))).1,λb hb=>?_,B7,w7,rfl,qp];obtain⟨o,e,d⟩:=T.obj _ _ uw b hb;exact(Q.pin (b,o) (Qr _ (Qr _ (PS hb e)))).2.1
   cases fl<;>cases f<;>first|exact r7.elim|skip
   .exact again j
   .exact#[t,.nx,C,A3,H7,j.symm,B7.back U,Q.yV,trivial]
   .exact again j
   .exact#[t,_,C,A3,H7,j.symm,B7.back U,Q.yV,r7]
   .refine qY r7 λa j8 kP z1 z2 z3 z4 z5=>?_;refine#[t,_,C,A3,H7,j.symm,B7.back U,Q.yV,a,j8,kP,z1,z2,?_,z4,z5];cases e:H0 a with
    |none=>rfl
    |some o=>have:=U a o e;rw[z3]at this;cases this
 .have ei:i=ds.length:=∅
  subst ei;refine YK hp (Qh (T.done X rfl rfl rfl hc ds.length pins s3 y N E I3 (xY gK) rq (qX▸wk.stop N xw)) (λr4 s4⟨OC,I4⟩=>?_) (λ_ _ z=>z));subst OC;rw[List.drop_length]at w3;exact Ym #[g,.nx,y,XX,N,w3.symm,B3.back U,I4,trivial]
end
noncomputable def j4(X:Cx)(s2:Shared)(H2:Hp)(sc:Scope)(g:List (Str×Addr))(C:Addr)(b:List Str)(fp:List Addr):Cx:=
 {X with N:=b,s₀:=s2,H₀:=H2,env:=ZX sc g C X.env,outer:=X.stack,ex:=fp,fn:=λ_=>Qf,pn:=[],xe:=λ_ _=>False}
def q0x(scope:Scope)(env:JM):∀(l:List (Str×NameKind))(j:List (Str×Addr)),(∀x∈l,x.2=.free->∃c,env.cells.lookup x.1=Qa c)->
  ∃g,(forIn l j λx r=>do
   if(x.2==WK)=Qb then do
    let a <-cellOf env x.1
    pure (YT ((x.1,a)::r))
   else pure (YT r):Sem (List (Str×Addr)))=pure g/\(∀y c,g.lookup y=Qa c->j.lookup y=Qa c\/env.cells.lookup y=Qa c)/\(∀x∈l,x.2=.free->∃c,g.lookup x.1=Qa c)/\∀y c,j.lookup y=Qa c->∃p,g.lookup y=Qa p:=by
 intro l
 induction l with
 |nil=>intro j _;exact#[j,rfl,λy c h=>.inl h,λx b=>absurd b (by simp),λy c h=>#[c,h]]
 |cons x l Q=>
  intro j h;obtain⟨n,k⟩:=x
  by_cases M:k=.free
  .subst M;obtain⟨c,hc⟩:=h (n,.free) Qg rfl;have F:cellOf env n=pure c:=(by unfold cellOf;rw[hc]);refine xq (Q ((n,c)::j) (λx b=>h x (Qd _ b))) λg e B C t=>?_;refine#[g,?_,λy p N=>?_,λx b hf=>?_,λy p N=>?_]
   .rw[WL];simp only[beq_self_eq_true,if_true,F];exact e
   .rcases B y p N with z|z
    .rw[Q3]at z;cases m:y==n with
     |true=>rw[m]at z;cases z;rw[beq_iff_eq.mp m];exact .inr hc
     |false=>rw[m]at z;exact .inl z
    .exact .inr z
   .rcases Ql.mp b with rfl|b
    .exact t n c (by simp[Q3])
    .exact C x b hf
   .cases m:y==n with
    |true=>exact t y c (by rw[Q3,m])
    |false=>exact t y p (by rw[Q3,m];exact N)
  .have hb:(k==WK)=Qf:=(by simpa using M);refine xq (Q j (λx b=>h x (Qd _ b))) λg e B C t=>?_;refine#[g,?_,B,λx b hf=>?_,t]
   .rw[WL];simp only[hb,Yw,if_false];exact e
   .rcases Ql.mp b with rfl|b
    .exact absurd hf M
    .exact C x b hf
def Ii(h:∀x∈scope.names,x.2=.free->∃c,env.cells.lookup x.1=Qa c):
  ∃b,closureFor scope env=pure b/\(∀y c,b.lookup y=Qa c->env.cells.lookup y=Qa c)/\∀x∈scope.names,x.2=.free->∃c,b.lookup x.1=Qa c:=by
 refine xq (q0x scope env scope.names [] h) λb e g j _=>?_;refine#[b,?_,λy c k=>(g y c k).elim (λz=>by simp at z) id,j];unfold closureFor;dsimp only;rw[e];rfl
def XR(sc:Scope)(env:JM)(x:Str):(UY sc env).names.lookup x=(sc.names.lookup x).map λk=>if(k==WK&&env.scope.kind==.function&&env.kindOf x==Qa .cell)=Qb then NameKind.cell else k:=by
 unfold UY
 induction sc.names with
 |nil=>rfl
 |cons q r g=>
  obtain⟨n,k⟩:=q;rw[QK];cases b:x==n with
  |true=>
   have e:=beq_iff_eq.mp b;subst e;dsimp only;split
   .rename_i h;rw[Q3,Q3,b];dsimp only;rw[Vf,if_pos h]
   .rename_i h;rw[Q3,Q3,b];dsimp only;rw[Vf,if_neg h]
  |false=>
   dsimp only;split
   .rw[Q3,Q3,b];exact g
   .rw[Q3,Q3,b];exact g
structure ScOk(X:Cx)(sc:Scope)(ts:List Str):Prop where
 kind:sc.kind=.function
 cell:∀y∈sc.names,y.2≠.cell
 free:∀y∈sc.names,y.2=.free->X.env.kindOf y.1=Qa .cell\/X.env.kindOf y.1=Qa .free
 names:∀y∈sc.names,y.2=.local->sc.names.lookup y.1=Qa .local
 q04:∀y∈X.N,y∈ts->sc.names.lookup (FN y)=Qc
 out:∀y∈X.N,y∉ts->sc.names.lookup y≠Qa .local
def za(ts N:List Str):List Str:=ts++N.map λx=>if x∈ts then FN x else x
def ib(g:Inv X pins Y H2 s2)(S:ScOk X sc ts)(B:∀y c,cl.lookup y=Qa c->X.env.cells.lookup y=Qa c)
  (ye:∀x∈sc.names,x.2=.free->∃c,cl.lookup x.1=Qa c) (Q:∀b∈fp,jG X pins H2 b) (ho:∀b∈fp,∃o,s2.heap.get? b=Qa o) {h':Heap}{tk:Nat}(yi:∃m,h'.Ns (s2.heap.objs.size+1) m)
  (kp:∀b o,s2.heap.get? b=Qa o->h'.get? b=Qa o) (hD:h'.get? s2.heap.objs.size=Qa {cls:=.type "list",data:=.seq ([]:List Value).toArray}):
  Inv (j4 X s2 H2 sc cl (s2.heap.objs.size+1) (za ts X.N) fp) [] (Qj ts.length Qc++Y) (upd H2 s2.heap.objs.size (.qA [])) {s2 with heap:=h',toks:=tk}:=by
 have W:∀x,((UY sc X.env).names.lookup x=Qa .cell\/(UY sc X.env).names.lookup x=Qa .free)->sc.names.lookup x=Qa .free:=λx n=>by
  rw[XR]at n;cases e:sc.names.lookup x with
  |none=>rw[e]at n;rcases n with n|n<;>exact nS n
  |some k=>
   cases k with
   |free=>rfl
   |cell=>exact absurd rfl (S.cell _ (Ju e))
   |_=>rw[e]at n;rcases n with n|n<;>simp at n
 refine#[#[g.ok.mod,S.kind,g.ok.glob,g.ok.blt,Yi _,λx y c h1 h2=>g.ok.inj x y c (B _ _ h1) (B _ _ h2),λx n=>ye (x,.free) (Ju (W x n)) rfl,λx c h=>(Bool.noConfusion h:_),g.ok.hd,g.ok.frames,.inl rfl,λb hb=>#[?_,λx c h=>(Q b hb).2.2.2.2.1 x c (B _ _ h)],
  g.bs,Qw g.ok.yX g.sz,λb o e hb=>?_,λb hb U=>?_,g.stack,g.bC],rfl,g.bare,Un.laid kp (Qt _) (g.qO.fresh (Qt _)),?_,λx c h=>?_,?_,λx c h=>?_,λp hp=>absurd (show p∈([]:List (Addr×Obj)) from hp) (by simp),?_,?_]
 .obtain⟨o,e⟩:=ho b hb;exact QQ (JQ (Qx e))
 .rcases (Q b hb).2.2.2.1 with z|z
  .exact g.ok.Te b o e z
  .exact absurd (Qz (Qx e) (Qw g.ok.yX z)) (Jx _)
 .rcases Ql.mp (g.ux b U)with z|z
  .exact (Q b hb).2.1 z
  .exact (Q b hb).2.2.1 z
 .obtain⟨m,U⟩:=yi;refine qH g.loc λm2 DG vq=>?_;refine#[m,U,λi x v j F t=>?_];have t:jY (UY sc X.env) x:=t;have j:(za ts X.N)[i]?=Qa x:=j;unfold za at j;have hi:¬i<ts.length:=λz=>by rw[Q2 (by simpa using z),Zv,if_pos z]at F;cases F
  rw[Jp ∅]at j;rw[Jp (by rw[JH];lia),JH]at F;rw[QB]at j;cases M:X.N[i-ts.length]?with
  |none=>rw[M]at j;exact nS j
  |some y=>
   rw[M]at j;have j:(if y∈ts then FN y else y)=x:=(by simpa using j);have yN:y∈X.N:=Qp M
   by_cases T:y∈ts
   .rw[if_pos T]at j;have hb:=S.q04 y yN T;rw[j]at hb;unfold jY at t;rw[XR,hb]at t;rcases t with z|z|z<;>exact nS z
   .rw[if_neg T]at j;subst j;have hf:sc.names.lookup y=Qa .free:=by
     rcases t with z|z
     .exfalso;rw[XR]at z;cases e:sc.names.lookup y with
      |none=>rw[e]at z;exact nS z
      |some k=>
       rw[e]at z;cases k with
       |«local»=>exact S.out y yN T e
       |_=>simp at z<;>(split at z<;>cases z)
     .exact W y z
    have hk:=S.free _ (Ju hf) rfl;refine qH (vq _ y v M F (.inr hk)) λu r l=>?_;refine#[u,r,.inr #[?_,?_]]
    .rcases t with z|z
     .exfalso;rw[XR,hf,Vf]at z;have z:=QV z;split at z<;>cases z
     .exact z
    .obtain⟨c,hc⟩:=ye (y,.free) (Ju hf) rfl;rcases l with⟨l1,_⟩|⟨_,c',TC,Rb⟩
     .rcases hk with z|z<;>(rw[l1]at z;cases z)
     .have:=B _ _ hc;rw[TC]at this;cases this;refine qH Rb λo C hd=>?_;exact#[c,hc,o,kp _ _ C,hd]
 .refine ja (g.cell x c (B _ _ h)) λv o C hd=>?_;exact#[v,o,kp _ _ C,hd]
 .show upd H2 s2.heap.objs.size _ (s2.heap.objs.size+1)=Qc;rw[qW (Nat.succ_ne_self _)];exact(g.qO.fresh (Yi _))
 .refine ja (g.cell x c (B _ _ h)) λv o C hd=>?_;rw[qW (QQ (Qx C))];exact g.ky x c (B _ _ h)
 .exact g.qO.laid kp (Qt _) #[QU _,[],0,.nil,hD]
 .show _=(za ts X.N).length;unfold za;rw[Jd,Jd,JH,Qm,g.len]
def q14{elt:Ev.Env->R D}{cond:Ev.Env->R Bool}{k:Nat}{es:List D}(h:j7 elt cond k Z (d::ds)=.ok es):
  ∃xs b,wA k d=.ok xs/\cond (zV xs++Z)=.ok b/\(b=Qb->∃e j,elt (zV xs++Z)=.ok e/\j7 elt cond k Z ds=.ok j/\es=e::j)/\(b=Qf->j7 elt cond k Z ds=.ok es):=by
 unfold j7 at h;cases m:wA k d with
 |ok xs=>
  rw[m,qF]at h;cases g:cond (zV xs++Z)with
  |ok b=>
   rw[g,qF]at h;refine#[xs,b,rfl,g,λhb=>?_,λhb=>?_]
   .subst hb;rw[if_pos rfl]at h;cases n:elt (zV xs++Z)with
    |ok e=>
     rw[n,qF]at h;cases p:j7 elt cond k Z ds with
     |ok j=>rw[p,qF]at h;cases h;exact#[e,j,rfl,rfl,rfl]
     |err c=>rw[p]at h;cases h
     |qC=>rw[p]at h;exact nR h
    |err c=>rw[n]at h;cases h
    |qC=>rw[n]at h;exact nR h
   .subst hb;rw[if_neg (by simp)]at h;exact h
  |err c=>rw[g]at h;cases h
  |qC=>rw[g]at h;exact nR h
 |err c=>rw[m]at h;cases h
 |qC=>rw[m]at h;exact nR h
theorem AR{H Hf:Hp}:∀{Z:Ev.Env}{Y:L2.St}{os:List (List Addr)},ju p H Hf Z Y os->ju p H Hf Z Y (os++more)
 |[],_,_,_=>trivial
 |_::Z,_,_,h=>by refine yA h λy b as k m n g j=>?_;subst m n;exact#[y,b,as,k++more,rfl,rfl,g,AR j]
theorem AS{p:Pm}{H Hf:Hp}{Z:Ev.Env}{Y:L2.St}{os:List (List Addr)}(h:ju p H Hf Z Y os):∀{xs:List D}{vs:List V},qK p Hf xs vs->ju p H Hf (zV xs++Z) (vs.map Qa++Y) (Qj xs.length []++os)
 |[],vs,r=>by cases r;exact h
 |d::xs,vs,r=>by refine qN r λv j k b g=>?_;subst k;exact#[Qa v,j.map Qa++Y,[],Qj xs.length []++os,rfl,by simp[Yo],#[rfl,v,rfl,b],AS h g]
def Ee(n:Nat)(os:List (List Addr))(D:Addr):(Qj n []++os++[[D]]).flatten=os.flatten++[D]:=by simp
section
variable{prog:Program}{R:ZO->Shared->Prop}
def dY{target:Qs}{it acc:Value}(I:Nat->Shared->Prop)
  (turn:∀n s,I n s->wpAny (model prog w) A (pyNext it) (λr b=>match r with
   |none=>R (.ok .next) b
   |some v=>wpAny (model prog w) A (letOwnedTupleGo target it v) (λ_ g=>wpAny (model prog w) A (Vm target env v) (λ_ t=>
     wpAny (model prog w) A (forIn ifs Qb λc r=>if r=Qb then do let ok <-isTrue c env (Je c env);pure (YT ok)else pure (YT r)) (λok j=>
      if ok=Qb then wpAny (model prog w) A (Je elt env) (λx y=>
       wpAny (model prog w) A (call (.builtin "list.append") [acc,x]) (λ_ z=>∃m,m<n/\I m z) (λ_ _=>False) y) (λ_ _=>False) j
      else∃m,m<n/\I m j) (λ_ _=>False) t) (λ_ _=>False) g) (λ_ _=>False) b) (λ_ _=>False) s)
  (n:Nat) (h:I n s):codeAny (model prog w) A (.compLoop (.ListComp elt [#[target,iter,ifs,0]] scope pos) 0 it acc env) R s:=by
 refine codeAny_loop rfl I (λn s N=>?_) n h;show wpAny _ A ((compTurn (.ListComp elt [#[target,iter,ifs,0]] scope pos) 0 it acc env).onRaise (λx=>do Zg x env;theTreesLotGoes x)) _ _ s;refine wpAny_noted ?_;rw[compTurn_list];refine Qe (Wx (Qe (Qh (turn n s N) (λr b k=>?_) λ_ _ h'=>h'.elim)));cases r with
 |none=>exact Qi k
 |some v=>
  refine Qe (Qh k (λ_ g B=>?_) λ_ _ h'=>h'.elim);refine Qe (Qh B (λ_ t C=>Qe (Qh C (λok j p=>?_) λ_ _ h'=>h'.elim)) λ_ _ h'=>h'.elim);cases ok with
  |false=>exact Qi #[rfl,p]
  |true=>
   exact Qe (Qe (Qh p (λx y F=>Qe (Qh F (λ_ z M=>Qi (Qi #[rfl,M])) λ_ _ h'=>h'.elim)) λ_ _ h'=>h'.elim))
end
def X0(X:Cx)(p:Pm)(tg:Qs)(k m:Nat):Prop:=
 ∀(E:NZ)(pins:List (Addr×Obj))(s:Shared)(b Y:L2.St)(H Hf:Hp)(d:D)(xs:List D)(v:V)(u:Value),Inv X pins (b++Y) H s->b.length=m->RelV v u->Ext Hf H->Rep p Hf d v->wA k d=.ok xs->
  wX X (Vm tg X.env u) (λ_ s'=>∃vs,qK p Hf xs vs/\vs.length=m/\Inv X pins (vs.map Qa++Y) H s') E s
section
variable{p:Pm}
theorem len_1:∀{us:List α},us.length=1->∃a,us=[a]
 |[a],_=>#[a,rfl]
theorem len_2:∀{us:List α},us.length=2->∃a b,us=[a,b]
 |[a,b],_=>#[a,b,rfl]
def rH(g:X.N.Nodup)(hi:X.N[0]?=Qa x)(hl:X.env.scope.names.lookup x=Qa .local):X0 X p (.Name x pos) 0 1:=by intro E pins s m Y H Hf d xs v u I j k n q e;cases e;obtain⟨o,rfl⟩:=len_1 j;exact Ul (wu I g hi (.inl hl) k (λs2 b=>#[[v],#[v,[],rfl,q,rfl],rfl,b]) (.inr hl))
def q8o{y:Str}{T U:WD}(M:p.K=X.K)(hc:X.calm=Qb)(m:X.N.Nodup)(hi:X.N[0]?=Qa x)(hl:X.env.scope.names.lookup x=Qa .local)(Q:X.N[1]?=Qa y)(t:X.env.scope.names.lookup y=Qa .local):X0 X p (.Tuple [.Name x T,.Name y U] k1 pos) 2 2:=by
 intro E pins s σt Y H Hf d xs v u I S rv xt q e;obtain⟨o1,o2,rfl⟩:=len_2 S;cases d<;>first
  |(exfalso;unfold wA at e;rw[if_neg (by decide)]at e;cases e;done)
  |skip
 rename_i ds;unfold wA at e;rw[if_neg (by decide)]at e;dsimp only at e;split at e
 .rename_i u5;cases e;refine zN q λa vs j s1 z r1=>?_;subst j;obtain⟨d1,d2,rfl⟩:=len_2 u5;refine qN r1 λg r j W C=>?_;subst j;refine qN C λb r2 j q2 F=>?_;subst j;cases F;refine Qh (q6k (X:=X.ql E) (n:=2) hc (ou (ot (X:=X.ql E) m hi (.inl hl) (.inr hl)) (ou (ot (X:=X.ql E) m Q (.inl t) (.inr t)) q6l rfl) rfl) rfl rfl pins s _ H (.ref a) u (λk H'=>H'=H/\k=Qa g::Qa b::Y) (I.ql E) rv
   #[a,[g,b],rfl,M▸xt.va s1,rfl,g,[b],rfl,b,[],rfl,rfl,rfl,rfl]) (λ_ s' h=>?_) (λ_ _ z=>z)
  refine qN h λk H' B qw qx=>?_;subst qw qx;exact#[[g,b],#[g,_,rfl,W,b,_,rfl,q2,rfl],rfl,B.wB]
 .exact nR e
def Cq(X:Cx)(p:Pm)(G:Nat->List D->R D)(sub:Nat->Nat->Bool)(ifs:List Qs)(lc:List T):Prop:=(ifs=[]/\lc=[])\/∃c l,ifs=[c]/\lc=[l]/\ST X p G sub c l
def df{k:Nat}{le:L}{lc:List T}{tn:Nat->Heap->Prop}
  {ds es:List D}{vs:List V}{g:List (Str×Addr)}{E:NZ}{RR:Value->Addr->ZO->Shared->Prop}(hc:X.calm=Qb) (S:ScOk X sc ts) (kT:∀y c,g.lookup y=Qa c->X.env.cells.lookup y=Qa c)
  (ye:∀x∈sc.names,x.2=.free->∃c,g.lookup x.1=Qa c) (hE:∀s2 H2 g C fp,SE (j4 X s2 H2 sc g C (za ts X.N) fp) p G sub elt le) (hT:∀s2 H2 g C fp,Cq (j4 X s2 H2 sc g C (za ts X.N) fp) p G sub ifs lc)
  (hG:∀s2 H2 g C fp,X0 (j4 X s2 H2 sc g C (za ts X.N) fp) p tg k ts.length)
  (I2:Inv X pins Y H2 s2) (R2:Rel p Z Y os H2) (T:Turn X.prog X.w X.K tg J fp it tn) (w8:tn 0 s2.heap) (F:∀b∈fp,jG X pins H2 b) (rep:qK p (fz os.flatten H2) ds vs) (wk:Wk J H2 vs)
  (hgo:j7 (ev G sub le) (jO G sub lc) k Z ds=.ok es) (gp:es.length<=big)
  (Lr:∀D C s' H',Inv X pins Y H' s'->Ext H2 H'->Rep p (fz os.flatten H') (.qA es) (.ref D)->(∃m,s'.heap.Ns C m)->jG X pins H' C->H2 D=Qc->RR (.ref D) C (.ok .next) s'):
  wX X (newList []) (λacc s3=>wX X (newFunctionEnv sc X.env.globals g [] X.env.qual Qc .none (Qa X.env)) (λFZ s4=>
   codeAny (model X.prog X.w) X.A (.compStart (.ListComp elt [#[tg,iter,ifs,0]] sc pos) 0 (.ref it) acc {FZ with scope:=UY sc X.env}) (RR acc FZ.locals) s4) E s3) E s2:=by
 refine JG (wpAny_newFunctionEnv S.cell (by intro y hy;simp at hy) (λh1 uZ xJ=>?_) S.kind);dsimp only at uZ xJ|-;generalize hH2:s2.heap.push {cls:=.type "list",dict:=Qc,data:=.seq ([]:List Value).toArray}=HH at uZ xJ|-;have hC:HH.objs.size=s2.heap.objs.size+1:=by rw[<-hH2,Ua]
 rw[hC]at uZ xJ|-;have kp:∀b o,s2.heap.get? b=Qa o->h1.get? b=Qa o:=λb o e=>xJ.extBut b o (QQ (JQ (Qx e))) (Qk _ (hH2▸Qk _ e));have hD:h1.get? s2.heap.objs.size=Qa {cls:=.type "list",data:=.seq ([]:List Value).toArray}:=xJ.extBut _ _ (QQ (Jh _)) (Qk _ (hH2▸QG _ rfl));generalize hs4:({s2 with heap:=h1,toks:=s2.toks+([]:List (Str×Value)).length}:Shared)=s4;have ho:∀b∈fp,∃o,s2.heap.get? b=Qa o:=λb hb=>(T.obj 0 _ w8 b hb).elim λo e=>#[o,e.1]
 have I4:Inv (j4 X s2 H2 sc g (s2.heap.objs.size+1) (za ts X.N) fp) [] (Qj ts.length Qc++Y) (upd H2 s2.heap.objs.size (.qA [])) s4:=by rw[<-hs4];exact ib I2 S kT ye F ho #[_,uZ] kp hD
 have CU:tn 0 s4.heap:=T.keep _ _ _ w8 λb hb o e=>by rw[<-hs4];exact kp b o e
 have fr:H2 s2.heap.objs.size=Qc:=I2.qO.fresh (Qt _);have frC:H2 (s2.heap.objs.size+1)=Qc:=I2.qO.fresh (Yi _);have xY:∀{H':Hp},(∀b∈fp,H' b=Qc)->∀b∈fp,jG (j4 X s2 H2 sc g (s2.heap.objs.size+1) (za ts X.N) fp) [] H' b:=λ{H'} hn b hb=>by
  refine#[hn b hb,?_,λhm=>?_,.inl hb,λx c h=>(F b hb).2.2.2.2.1 x c (kT _ _ h),λp hp=>absurd (show p∈([]:List (Addr×Obj)) from hp) (by simp)]
  .obtain⟨o,e⟩:=ho b hb;exact QQ (JQ (Qx e))
  .rcases Ql.mp (I2.ux b hm)with z|z
   .exact (F b hb).2.1 z
   .exact (F b hb).2.2.1 z
 have qX:ds.length=vs.length:=rep.length;have XS:codeAny (model X.prog X.w) X.A (.compLoop (.ListComp elt [#[tg,iter,ifs,0]] sc pos) 0 (.ref it) (.ref s2.heap.objs.size) (ZX sc g (s2.heap.objs.size+1) X.env)) (RR (.ref s2.heap.objs.size) (s2.heap.objs.size+1)) s4:=by
  refine dY (λn s'=>∃i U H' ys Xz T2,Inv (j4 X s2 H2 sc g (s2.heap.objs.size+1) (za ts X.N) fp) [] (U++Y) H' s'/\U.length=ts.length/\tn i s'.heap/\(∀b∈fp,H' b=Qc)/\Ext H2 H'/\H' s2.heap.objs.size=Qa (.qA ys)/\
   qK p (fz (os.flatten++[s2.heap.objs.size]) H') Xz ys/\j7 (ev G sub le) (jO G sub lc) k Z (ds.drop i)=.ok T2/\Xz++T2=es/\n=ds.length-i/\i<=ds.length) ?_ ds.length
   #[0,Qj ts.length Qc,upd H2 s2.heap.objs.size (.qA []),[],[],es,I4,by simp,CU,λb hb=>?_,Ext.upd fr,zb,rfl,by simpa using hgo,rfl,by simp,QU _]
  .rintro n s5 ⟨i,U,H5,ys,Xz,T2,I5,hσ,uw,T9,M,xI,AH,Ei,D7,rfl,hi5⟩
   by_cases qp:i<ds.length
   .
    rw[(US qp)]at Ei;refine zN (q14 Ei) λxs b hu B q3G q3C=>?_;refine Qh (T.item (j4 X s2 H2 sc g (s2.heap.objs.size+1) (za ts X.N) fp) rfl rfl rfl hc i [] s5 _ H5 (λ_ _=>False) I5 (xY T9) uw (wk.go i H5 M (qX▸qp))) (λr s6 j=>qH j λu hr h6=>?_) (λ_ _ z=>z);subst hr;refine Qh h6 (λ_ s7 j=>RQ j λx W I7 r7 y7 R4 Ld=>?_) (λ_ _ z=>z);obtain⟨rfl,hx⟩:=wk.RA i H5 x W M (qX▸qp) y7;refine qH (rep.get (i:=i) (d:=ds[i]) (by simp[qp])) λv' yJ um=>?_;rw[hx]at yJ;cases yJ;have xf:Ext (fz os.flatten H2) (fz (os.flatten++[s2.heap.objs.size]) W):=λa o e=>by
     unfold fz at e;split at e
     .exact nS e
     .rename_i n;refine kB (M a o e) λm=>?_;rcases QF.mp m with m|m
      .exact n m
      .rw[QE.mp m,fr]at e;exact nS e
    refine Qh (hG s2 H2 g (s2.heap.objs.size+1) fp (λ_ _=>False) _ s7 U Y W (fz (os.flatten++[s2.heap.objs.size]) W) ds[i] xs x u (I7.pinned (xY Ld) (T.obj _ _ R4)) hσ r7 zG (um.mono xf) hu) (λ_ s8 j=>qd j λPr pW Et I8=>?_) (λ_ _ z=>z);have RL:Rel p (zV xs++Z) (Pr.map Qa++Y) (Qj xs.length []++os++[[s2.heap.objs.size]]) W:=by
     refine#[?_,λa ha=>?_,?_]
     .rw[Ee];refine QS.mpr #[R2.nd,by simp,λa ha b hb e=>?_];rw[QE.mp hb]at e;obtain⟨o,q⟩:=R2.there a ha;rw[e,fr]at q;exact nS q
     .rw[Ee]at ha;rcases QF.mp ha with m|m
      .obtain⟨o,q⟩:=R2.there a m;exact#[o,M _ _ q]
      .rw[QE.mp m];exact#[_,xI]
     .rw[Ee];exact AR (AS (Tx M xf R2.slots) pW)
    have q9y:wX X (forIn ifs Qb λc r=>if r=Qb then do let ok <-isTrue c (ZX sc g (s2.heap.objs.size+1) X.env) (Je c (ZX sc g (s2.heap.objs.size+1) X.env));pure (YT ok)else pure (YT r))
      (λok s9=>ok=b/\∃H9,Inv (j4 X s2 H2 sc g (s2.heap.objs.size+1) (za ts X.N) fp) ([]++CG fp s7.heap) (Pr.map Qa++Y) H9 s9/\Ext W H9) (λ_ _=>False) s8:=by
     rcases hT s2 H2 g (s2.heap.objs.size+1) fp with⟨rfl,rfl⟩|⟨c,l,rfl,rfl,qe⟩
     .have:b=Qb:=(by rw[Ai]at B;cases B;rfl);exact wpAny_tests_nil #[this.symm,W,I8,Ext.refl _]
     .have e1:z9 G sub l (zV xs++Z)=.ok b:=by
       rw[CZ]at B;cases h:z9 G sub l (zV xs++Z)with
       |ok t=>
        rw[h]at B;cases t
        .simpa using B
        .simpa using B
       |err c=>rw[h]at B;cases B
       |qC=>rw[h]at B;exact nR B
      refine wpAny_tests_one (Qh (qe _ _ s8 _ W (zV xs++Z) _ (.inl rfl) I8 RL (by rw[e1];simp)) (λt s9 j=>qd j λH9 e9 I9 Q=>?_) (λe s' j=>qH j λc z _=>by rw[e1]at z;cases z));rw[e1]at e9;cases e9;exact#[rfl,H9,I9,Q]
    refine Qh q9y (λok s9 j=>fJ j λqO H9 I9 Q=>?_) (λ_ _ z=>z);subst qO;have l9:∀{s':Shared}{Y':L2.St}{H':Hp},Inv (j4 X s2 H2 sc g (s2.heap.objs.size+1) (za ts X.N) fp) ([]++CG fp s7.heap) Y' H' s'->tn (i+1) s'.heap/\∀b∈fp,H' b=Qc:=λ{s' Y' H'} I'=>
     #[T.keep _ _ _ R4 λb hb o e=>(I'.pin (b,o) (Qr _ (Qr _ (PS hb e)))).1,λb hb=>by obtain⟨o,e,d⟩:=T.obj _ _ R4 b hb;exact(I'.pin (b,o) (Qr _ (Qr _ (PS hb e)))).2.1]
    cases ok with
    |false=>
     rw[if_neg (by simp)];obtain⟨k1,k2⟩:=l9 I9;exact#[ds.length-(i+1),∅,i+1,Pr.map Qa,H9,ys,Xz,T2,I9.yV,by simpa using Et,k1,k2,M.trans Q,Q _ _ xI,AH.mono (jB Q),q3C rfl,D7,rfl,qp]
    |true=>
     rw[if_pos rfl];refine qN (q3G rfl) λe' zg yD q34 j=>?_;subst j;refine Qh (hE s2 H2 g (s2.heap.objs.size+1) fp _ s9 _ H9 (zV xs++Z) _ I9 (RL.ext Q) (by rw[yD];simp)) (λy s10 h10=>?_) (λe s' j=>qH j λc z _=>by rw[yD]at z;cases z);refine qY h10 λd10 Ak bY RP t9 r10 bV pH=>?_;rw[yD]at RP;cases RP;rw[Ee]at pH;have hz:Xz.length=ys.length:=AH.length;have hzb:ys.length<QD:=by have h1:Xz.length+(zg.length+1)=es.length:=(by rw[<-D7];simp);have:=wQ;lia
     refine Qh (Ds (X:=j4 X s2 H2 sc g (s2.heap.objs.size+1) (za ts X.N) fp) _ s10 _ bY (.ref s2.heap.objs.size) [Ak] (.ref s2.heap.objs.size) [y] (λz H'=>H'=upd bY s2.heap.objs.size (.qA (ys++[Ak]))) t9 rfl (.cons r10 .nil)
      #[_,ys,Ak,rfl,rfl,bV _ _ (Q _ _ xI),hzb,rfl]) (λ_ s11 Lo=>?_) (λ_ _ z=>z)
     refine qN Lo λ_ t8 RB _ j=>?_;subst j;obtain⟨k1,k2⟩:=l9 RB;refine#[ds.length-(i+1),∅,i+1,Pr.map Qa,_,ys++[Ak],Xz++[e'],zg,RB.yV,by simpa using Et,k1,k2,λa o e=>?_,zb,?_,q34,by simpa using D7,rfl,qp]
     .rw[qW (jE e fr)];exact bV _ _ (Q _ _ (M _ _ e))
     .rw[Fw (by simp)];exact(AH.mono (jB (Q.trans bV))).snoc pH
   .have ei:i=ds.length:=∅;subst ei;refine Qh (T.done (j4 X s2 H2 sc g (s2.heap.objs.size+1) (za ts X.N) fp) rfl rfl rfl hc ds.length [] s5 _ H5 (λ_ _=>False) I5 (xY T9) uw (qX▸wk.stop H5 M)) (λr s6⟨hr,I6⟩=>?_) (λ_ _ z=>z);subst hr;rw[List.drop_length]at Ei;have e1:T2=[]:=(by cases Ei;rfl);subst e1;rw[Ja]at D7;subst D7;refine qH I6.loc λm hm _=>?_;refine Lr _ _ s6 H5 ?_ M #[_,ys,rfl,zM.of (kB xI λm=>?_),AH.mono (ya λa ha=>QR _ ha)] #[m,hm] (I2.RX (Yi _) I6.free) fr
    .exact I2.Ig (ch:=fp) I6.os I6.base I6.qO I6.bare λb hb=>#[(F b hb).2.2.2.1,(F b hb).2.1,(F b hb).2.2.2.2.1,(F b hb).2.2.2.2.2]
    .obtain⟨o,q⟩:=R2.there _ m;rw[fr]at q;exact nS q
  .obtain⟨o,e⟩:=ho b hb;rw[qW (QQ (Qx e))];exact(F b hb).1
 exact codeAny_compStart_list XS (T.self _ 0 _ _ _ CU XS)
end
section
variable{p:Pm}
def Sx{r:R α}{f:α->R β}(h:r.uf.bind f≠.qC):∃a,r=.ok a:=by
 cases r with
 |ok a=>exact#[a,rfl]
 |err c=>cases h rfl
 |qC=>cases h rfl
def bS{fr:Bool}(w:Wk J (if fr then fz os.flatten H else H) vs):Wk J H vs:=by
 cases fr
 .exact w
 .exact w.mono zG
def Le(ok:X.Ok)(S:ScOk X sc ts):∀x∈sc.names,x.2=.free->∃c,X.env.cells.lookup x.1=Qa c:=λx b hf=>ok.has x.1 (S.free x b hf)
def q8H(hc:X.calm=Qb)(S:ScOk X sc ts)(hi:SI X p G sub fr tg iter li)
  (hE:∀s2 H2 g C fp,SE (j4 X s2 H2 sc g C (za ts X.N) fp) p G sub elt le) (hT:∀s2 H2 g C fp,Cq (j4 X s2 H2 sc g C (za ts X.N) fp) p G sub ifs lc)
  (hG:∀s2 H2 g C fp,X0 (j4 X s2 H2 sc g C (za ts X.N) fp) p tg k ts.length) (F:∀x,Vj iter X.env x=pure x):
  SE X p G sub (.ListComp elt [#[tg,iter,ifs,0]] sc pos) (.comp k le li lc):=by
 intro pins s Y H Z os I R hs;dsimp only[vO]at hs|-;refine qd (Ii (Le I.ok S)) λg wG kT ye=>?_;rw[eval_ListComp];refine Y8 (use:=Qc) rfl F wG S.kind S.names (Qh (hi pins s Y H Z os I R (zP hs)) (λv s1 h1=>Qh h1 (λuA s2 h2=>?_) (λe s' z=>z.bind)) (λe s' z=>z.bind));refine EH h2 λds Q it fp tn J H2 zz B T w8 n t vs rep wk=>?_;subst zz;rw[Q,qF]at hs|-;obtain⟨es,j⟩:=Sx hs;rw[j,ka,qF]at hs|-;have z:es.length<=big:=by
  by_cases z:es.length<=big
  .exact z
  .rw[if_neg z]at hs;cases hs rfl
 rw[if_pos z];refine df hc S kT ye hE hT hG B (R.ext t) T w8 n rep (bS wk) j z λD C s' H' y x' q' yi fC _=>?_;obtain⟨m,hm⟩:=yi;refine#[m,hm,λh' M=>#[.qA es,.ref D,H',rfl,?_,rfl,t.trans x',q']];refine k8 fC λU W n f3 f4 f5=>?_;exact y.turned (λb o hb e=>M.extBut b o hb e) U W f3 f4 f5
def q9a{fr:Bool}{t:WD}{k:Nat}{le:L}{lc:List T}(hc:X.calm=Qb)(S:ScOk X sc ts)(hi:SI X p G sub fr tg iter li)
  (hE:∀s2 H2 g C fp,SE (j4 X s2 H2 sc g C (za ts X.N) fp) p G sub elt le) (hT:∀s2 H2 g C fp,Cq (j4 X s2 H2 sc g C (za ts X.N) fp) p G sub ifs lc)
  (hG:∀s2 H2 g C fp,X0 (j4 X s2 H2 sc g C (za ts X.N) fp) p tg k ts.length) (Rm:∀x,Vj iter X.env x=pure x)
  (hN:X.N.Nodup) (F:X.N[i]?=Qa x) (hx:Loc X.env.scope x) (hf:X.fn x=Qb\/X.env.scope.names.lookup x=Qa .local)
  (vR:J9 (.ListComp elt [#[tg,iter,ifs,0]] sc pos) (Qa (.Name x j0)) t.line X.env=pure Qb):
  SS X p G sub (.Assign [.Name x j0] (.ListComp elt [#[tg,iter,ifs,0]] sc pos) t) (.set i (.comp k le li lc)):=by
 intro H0 O0 E hp pins s Y H Z os I B hs j;have e0:ex G sub (.set i (.comp k le li lc)) Z=(ev G sub (.comp k le li lc) Z).go Z λd=>.ok (Z.set i (Qa (.val d))) .nx:=rfl;rw[e0]at hs j|-;dsimp only[vO]at hs j|-;refine qd (Ii (Le I.ok S)) λg wG kT ye=>?_;rw[exec_Assign_Name_used _ _ _ _ vR];refine Qe (Wx (Qe ?_));show wpAny _ X.A (do let _ <-comprehension (.ListComp elt [#[tg,iter,ifs,0]] sc pos) sc X.env _ (newList []) Qf (Je iter X.env) (Qa (Vm (.Name x j0) X.env))) _ _ s;refine Qe (Qh (Y8 (use:=Qa (Vm (.Name x j0) X.env)) (Q:=λ_ s'=>Gs X p H0 O0 pins (((jR G sub li Z).bind λds=>(j7 (ev G sub le) (jO G sub lc) k Z ds).uf.bind λes=>if es.length<=big then .ok (.qA es)else .qC).go Z λd=>.ok (Z.set i (Qa (.val d))) .nx) .next s') rfl Rm wG S.kind S.names
  (Qh (hi pins s Y H Z _ I B.rel (zP (zh hs))) (λv s1 h1=>Qh h1 (λuA s2 h2=>?_) (λe s' z=>j e s' (j9 B z.bind))) (λe s' z=>j e s' (j9 B z.bind)))) (λ_ s' n=>Qi (Qi n)) λ_ _ e=>e)
 refine EH h2 λds e1 it fp tn J H2 zz I2 T w8 f2 x2 vs rep wk=>?_;subst zz;rw[e1,qF]at hs|-;obtain⟨es,W⟩:=Sx (zh hs);rw[W,ka,qF]at hs|-;have z:es.length<=big:=by
  by_cases z:es.length<=big
  .exact z
  .rw[if_neg z]at hs;cases hs rfl
 rw[if_pos z];refine df (RR:=λacc C=>compPost (model X.prog X.w) X.A _ (Qa (Vm (.Name x j0) X.env)) _ acc C) hc S kT ye hE hT hG I2 (B.rel.ext x2) T w8 f2 rep (bS wk) W z λD C s' H' M x' q' yi fC _=>?_;obtain⟨m,hm⟩:=yi;refine k8 fC λf0 f1 LU f3 f4 f5=>?_;refine xu (id hm) λoC LI LB O8 y OD=>?_;have IP:Inv X (pins++[(C,oC)]) Y H' s':=M.CH λq n=>(QF.mp n).elim (λz=>M.pin q (Qr _ z)) λz=>by cases QE.mp z;exact#[O8,f0,f1,LU,λv z=>by rw[y]at z;cases z]
 refine Ul (wu IP hN F hx (v:=.ref D) rfl (λs3 U=>?_) hf);refine#[m,#[oC,LI,LB,((U.pin (C,oC) (Qr _ (Qr _ (QE.mpr rfl)))).1),y,OD],λh' TV=>#[_,.nx,_,_,H',rfl,(B.mono (x2.trans x')).Xe (by rw[<-B.jU,I.len];exact(Qn.mp F).1) q',?_,trivial]];exact U.yV.turned (t':=s3.toks) (λb o hb e=>TV.extBut b o hb e) f0 f1 f3 f4 f5
end
def vH(r:R D):Prop:=r=.qC\/∃d,r=.ok d
def jv(d:D):vH (.ok d):=.inr #[d,rfl]
def k7:vH .qC:=.inl rfl
def RF{r:R D}[Decidable c](h:vH r):vH (if c then r else .qC):=by
 by_cases z:c
 .rw[if_pos z];exact h
 .rw[if_neg z];exact k7
theorem ku{f:D->R D}(h:∀d,vH (f d)):∀ds,vH (ke f ds)
 |[]=>k7
 |[d]=>h d
 |_::_::_=>k7
theorem Cu{f:D->D->R D}(h:∀d e,vH (f d e)):∀ds,vH (Ca f ds)
 |[]=>k7
 |[_]=>k7
 |[d,e]=>h d e
 |_::_::_::_=>k7
def RG(h:∀xs,vH (f xs))(d:D):vH (ud f d):=by cases d<;>first|exact k7|exact h _
def c8(h:∀xs,vH (f xs))(d:D):vH (aq f d):=by cases d<;>first|exact k7|exact h _
def Xr{f:Int->R D}(h:∀i,vH (f i))(d:D):vH (intD f d):=by cases d<;>first|exact k7|exact h _
def bz{f:Nat->R D}(h:∀i,vH (f i))(d:D):vH (LR f d):=by cases d<;>first|exact k7|exact h _
theorem c7(x:D):∀(l:List D)(n:Nat),vH (idxOf x l n)
 |[],_=>k7
 |y::l,n=>by
  rw[idxOf]
  by_cases z:qM y x=Qb
  .rw[if_pos z];exact jv _
  .rw[if_neg z];exact c7 x l (n+1)
def RH(sub:Nat->Nat->Bool)(b:Bi)(ds:List D):zF sub b ds=.qC\/∃r,zF sub b ds=.ok r:=by
 have it:∀d,jC d=.qC\/∃r,jC d=.ok r:=λd=>by
  cases d<;>first
   |exact .inr #[_,rfl]
   |exact .inl rfl
   |skip
  rename_i ks vs;cases z:(ints? ks).isSome with
  |true=>exact .inr #[ks,by rw[jC,z];rfl]
  |false=>exact .inl (by rw[jC,z];rfl)
 have g:∀d,xO d=.qC\/∃r,xO d=.ok r:=λd=>by cases d<;>first|exact .inr #[_,rfl]|exact .inl rfl
 cases b with
 |len=>exact ku (λd=>by cases d<;>first|exact k7|exact jv _) ds
 |sorted=>exact ku (λd=>by rcases it d with z|⟨r,z⟩<;>rw[z];exact k7;exact RF (jv _)) ds
 |rg=>exact ku (λd=>by rcases it d with z|⟨r,z⟩<;>rw[z];exact k7;exact RF (jv _)) ds
 |vY=>exact ku (λd=>by rcases g d with z|⟨r,z⟩<;>rw[z];exact k7;exact RF (jv _)) ds
 |tuple=>exact ku (c8 λ_=>jv _) ds
 |list=>exact ku (c8 λ_=>jv _) ds
 |sum=>exact ku (RG λxs=>by unfold sI;cases ints? xs<;>first|exact k7|exact jv _) ds
 |all=>exact ku (RG λxs=>by unfold Cs;cases bools? xs<;>first|exact k7|exact jv _) ds
 |bits=>exact ku (Xr λ_=>RF (jv _)) ds
 |count=>exact Cu (λ_ _=>RG (λ_=>RF (jv _)) _) ds
 |index=>exact Cu (λ_ _=>RG (λ_=>RF (c7 _ _ _)) _) ds
 |min2=>exact Cu (λx y=>Xr (λ_=>Xr (λ_=>jv _) y) x) ds
 |max2=>exact Cu (λx y=>Xr (λ_=>Xr (λ_=>jv _) y) x) ds
 |wj=>exact ku (RG λxs=>by
  unfold minD;split
  .exact jv _
  .exact k7) ds
 |toInt=>exact ku (λd=>by cases d<;>first|exact k7|exact jv _) ds
 |abs=>exact ku (Xr λ_=>jv _) ds
 |isTup=>exact ku (λd=>by cases d<;>first|exact k7|exact jv _) ds
 |P5=>exact ku (RG λ_=>jv _) ds
 |isInt=>exact ku (Xr λ_=>jv _) ds
 |isBool=>exact ku (λd=>by cases d<;>first|exact k7|exact jv _) ds
 |isVal=>exact ku (bz λ_=>jv _) ds
 |isExc c=>exact ku (bz λ_=>jv _) ds
def BS(X:Cx)(p:Pm)(sub:Nat->Nat->Bool)(b:Bi)(g:Value):Prop:=
 ∀(E:NZ)(pins:List (Addr×Obj))(s:Shared)(Y:L2.St)(H:Hp)(os:List (List Addr))(d r:D)(v:V)(u:Value),Inv X pins Y H s->Th os.flatten H->RelV v u->jH p H (fz os.flatten H) d v->zF sub b [d]=.ok r->
  wX X (call g [u]) (EP (X.ql E) pins Y (Fin p os.flatten H r)) E s
section
variable{p:Pm}
def CP(b:SB X p G sub a l)(k:QM [a] X.env=[(Qf,Je a X.env)]){Q:List Value->Shared->Prop}(I:Inv X pins Y H s)(R:Rel p Z Y os H)(hs:ev G sub l Z≠.qC)
  (j:∀u s1,Gb X p pins Y os H (ev G sub l Z) u s1->Q [u] s1) (g:∀e s',Er X p pins Y H (ev G sub l Z) e s'->E e s'):wX X (VM (Yk pos (QM [a] X.env))) Q E s:=by
 rw[k];exact Q4 (Qh (b pins s Y H Z os I R hs) (λu s1 h=>Jl (j u s1 h)) g)
def PX{f:D->R α}(l:L)(Z:Ev.Env)(g:List D->R α)(h:∀d,g [d]=f d):(qu G sub [l] Z).bind g=(ev G sub l Z).bind f:=by rw[jK,jg];cases ev G sub l Z<;>first|exact h _|rfl
def cN{s1:Shared}{b:Bi}{g:Value}(y:BS X p sub b g)(R:Rel p Z Y os H)(hs:ev G sub (.bi b [l]) Z≠.qC)(h:Gb X p pins Y os H (ev G sub l Z) u s1):
  wX X (call g [u]) (Gd X p pins Y os H (ev G sub (.bi b [l]) Z)) (Er X p pins Y H (ev G sub (.bi b [l]) Z)) s1:=by
 refine qY h λd v H1 n k C j B=>?_;have m:ev G sub (.bi b [l]) Z=zF sub b [d]:=by rw[kI,PX l Z _ (λ_=>rfl),n];rfl
 rw[m]at hs|-;rcases RH sub b [d]with z|⟨r,z⟩
 .exact absurd z hs
 .rw[z];exact Qh (y (Er X p pins Y H (.ok r)) pins s1 Y H1 os d r v u k (R.ext j).th C B z) (λw s2 t=>X6 j rfl t) λ_ _ z=>z
def FP{b:Bi}{e:Value}(h:Er X p pins Y H (ev G sub l Z) e s'):Er X p pins Y H (ev G sub (.bi b [l]) Z) e s':=by rw[kI,PX l Z _ (λ_=>rfl)];exact h.bind
def FQ{b:Bi}(hs:ev G sub (.bi b [l]) Z≠.qC):ev G sub l Z≠.qC:=λe=>hs (by rw[kI,PX l Z _ (λ_=>rfl),e];rfl)
def CS{g:String}{b:Bi}(k:BS X p sub b (.builtin g))(n:Gl X x)(t:X.mg x=Qc)(hv:bootBuiltins x=Qa (.builtin g))(m:SB X p G sub a l)
  (y:x≠"__name__") (z:nD x) (j:QM [a] X.env=[(Qf,Je a X.env)]):SE X p G sub (.Call (.Name x q) [a] [] pos) (.bi b [l]):=by
 intro pins s Y H Z os I R hs;refine Q7 (wJ I n t hv ?_ y z);exact Yc (CP m j I R (FQ hs) (λu s1 h=>cN k R hs h) (λ_ _=>FP)) j rfl
def ao{T:String}{b:Bi}(j:BS X p sub b (.type T))(m:Gl X x)(n:X.mg x=Qc)(hv:bootBuiltins x=Qa (.type T))(k:SB X p G sub a l)
  (t:x≠"__name__") (y:nD x) (g:QM [a] X.env=[(Qf,Je a X.env)]):SE X p G sub (.Call (.Name x q) [a] [] pos) (.bi b [l]):=by
 intro pins s Y H Z os I R hs;refine Q7 (wJ I m n hv ?_ t y);exact JL (CP k g I R (FQ hs) (λu s1 h=>cN j R hs h) (λ_ _=>FP)) g rfl
def q0f(k:p.K=X.K):BS X p sub .len (.builtin "len"):=by
 intro E pins s Y H os d r v u I t g q h;cases d<;>first
  |(cases h;done)
  |skip
 .cases h;obtain⟨rfl,z⟩:=q;exact q0r pins s Y H _ _ _ (I.ql E) (.cons g .nil) #[_,rfl,Qw z wQ,fin_same rfl]
 .cases h;refine zN q λa vs j s1 z b=>?_;subst j;refine dF pins s Y H _ _ _ (I.ql E) (.cons g .nil) #[a,vs,rfl,.inr (k▸zG.va s1),?_];rw[<-b.length];exact fin_same rfl
 .cases h;refine qN q λa vs j s1 b=>?_;subst j;refine dF pins s Y H _ _ _ (I.ql E) (.cons g .nil) #[a,vs,rfl,.inl (k▸s1),?_];rw[<-b.length];exact fin_same rfl
 .cases h;refine zN q λa kvs n s1 y b=>?_;subst n y;cases g;refine q1B I s1 λt s' m=>#[.int _,H,m.ql E,#[t,rfl],?_]
  rw[Qm];exact fin_same rfl
def q0j(j:p.K=X.K):BS X p sub .tuple (.type "tuple"):=by
 intro E pins s Y H os d r v u I t k q h;cases d<;>first
  |(cases h;done)
  |skip
 .cases h;refine zN q λa vs g s1 z b=>?_;subst g;exact dG pins s Y H _ _ _ (I.ql E) (.cons k .nil) #[a,vs,rfl,.inr #[j▸zG.va s1,fin_same #[a,vs,rfl,s1,z,b]]]
 .cases h;refine qN q λa vs g s1 b=>?_;subst g;have m:=j▸s1;refine qd (I.list m) λ_ _ _ n=>?_;exact dG pins s Y H _ _ _ (I.ql E) (.cons k .nil) #[a,vs,rfl,.inl #[m,λl hl=>LZ t b n hl]]
def q0g(j:p.K=X.K):BS X p sub .list (.type "list"):=by
 intro E pins s Y H os d r v u I t k q h;cases d<;>first
  |(cases h;done)
  |skip
 .cases h;refine zN q λa vs g s1 z b=>?_;subst g;exact Ih pins s Y H _ _ _ (I.ql E) (.cons k .nil) #[a,vs,rfl,.inr (j▸zG.va s1),λl hl=>Ft t b hl]
 .cases h;refine qN q λa vs g s1 b=>?_;subst g;exact Ih pins s Y H _ _ _ (I.ql E) (.cons k .nil) #[a,vs,rfl,.inl (j▸s1),λl hl=>Ft t b hl]
def q0e:BS X p sub .toInt (.type "int"):=by
 intro E pins s Y H os d r v u I t b q h;cases d<;>first
  |(cases h;done)
  |skip
 .cases h;cases q;exact dE pins s Y H _ _ _ (I.ql E) (.cons b .nil) (.inr #[_,rfl,fin_same rfl])
 .cases h;cases q;exact dE pins s Y H _ _ _ (I.ql E) (.cons b .nil) (.inl #[_,rfl,fin_same rfl])
def q0c:BS X p sub .abs (.builtin "abs"):=by
 intro E pins s Y H os d r v u I t b q h;cases d<;>first
  |(cases h;done)
  |skip
 cases h;cases q;exact q0q pins s Y H _ _ _ (I.ql E) (.cons b .nil) #[_,rfl,fin_same rfl]
def sX(r:Vals vs us)(h:us[i]?=Qa u):∃v,vs[i]?=Qa v/\RelV v u:=by
 cases e:vs[i]?with
 |none=>rw[r.none_of e]at h;cases h
 |some v=>
  obtain⟨j,b,g⟩:=r.get e;rw[h]at b;cases b;exact#[v,rfl,g]
theorem cw{Hf:Hp}:∀{ds:List D}{bs:List Bool}{vs:List V},bools? ds=Qa bs->qK p Hf ds vs->vs=bs.map V.bl
 |[],bs,vs,h,r=>by cases h;exact r
 |.bl b::ds,bs,vs,h,r=>by
  refine qN r λv n m j k=>?_;subst m;have h':(bools? ds).map (b::·)=Qa bs:=h;cases e:bools? ds with
  |none=>rw[e]at h';cases h'
  |some g=>
   rw[e]at h';cases h';cases j;rw[cw e k];rfl
 |.qI::_,_,_,h,_=>by cases h
 |.int _::_,_,_,h,_=>by cases h
 |.str _::_,_,_,h,_=>by cases h
 |.qE _::_,_,_,h,_=>by cases h
 |.qA _::_,_,_,h,_=>by cases h
 |.z7 _ _::_,_,_,h,_=>by cases h
 |.exc _::_,_,_,h,_=>by cases h
theorem ints_rep{Hf:Hp}:∀{ds:List D}{ns:List Int}{vs:List V},ints? ds=Qa ns->qK p Hf ds vs->vs=ns.map V.int
 |[],bs,vs,h,r=>by cases h;exact r
 |.int b::ds,bs,vs,h,r=>by
  refine qN r λv n m j k=>?_;subst m;have h':(ints? ds).map (b::·)=Qa bs:=h;cases e:ints? ds with
  |none=>rw[e]at h';cases h'
  |some g=>
   rw[e]at h';cases h';cases j;rw[ints_rep e k];rfl
 |.qI::_,_,_,h,_=>by cases h
 |.bl _::_,_,_,h,_=>by cases h
 |.str _::_,_,_,h,_=>by cases h
 |.qE _::_,_,_,h,_=>by cases h
 |.qA _::_,_,_,h,_=>by cases h
 |.z7 _ _::_,_,_,h,_=>by cases h
 |.exc _::_,_,_,h,_=>by cases h
theorem range_all{α:Type}(f:α->Bool)(d:α):∀(l:List α),(Qu l.length).all (λi=>f (l.getD i d))=l.all f
 |[]=>rfl
 |a::l=>by rw[QH,all_succ,YE];congr 1;exact range_all f d l
def q0d(z:p.K=X.K)(hc:X.calm=Qb):BS X p sub .all (.builtin "all"):=by
 intro E pins s Y H os d r v u I t g q h;cases d<;>first
  |(cases h;done)
  |skip
 rename_i xs;replace h:Cs _=.ok r:=h;unfold Cs at h;split at h
 .rename_i bs hb;cases h;refine qN q λa vs N s1 F=>?_;subst N;have n:=cw hb F;subst n;cases g;refine qd (I.list (z▸s1:zM X.K H a _)) λits g m S=>?_;have hl:its.length=bs.length:=by rw[<-g.length];simp
  refine call_all_walk (Vi m.isList #[_,_,_,_,_,_,λi=>bs.getD i Qf,rfl,Walks.list (A:=X.A.in1) (I.ok.hd hc) s.heap.objs.size a (QQ (by obtain⟨_,e,_⟩:=m.isList;exact Qx e)) its.toArray,#[#[_,QG _ rfl,rfl,rfl],m.isList.push _],λi v s Q E B k=>?_,λh' T C=>?_])
  .
   obtain⟨w,hw,M⟩:=sX g (by simpa using B);rw[QB]at hw;cases j:bs[i]?with
   |none=>rw[j]at hw;cases hw
   |some b=>
    rw[j]at hw;cases hw;cases M;refine Yn ?_;have y:bs.getD i Qf=b:=(by simp[JN,j]);dsimp only at k;rw[y]at k;exact k
  .refine#[.bl _,H,(I.ql E).kept λb o e=>C b o (by simp;exact QQ (Qx e)) (Qk _ e),rfl,?_];have:(Qu its.toArray.size).all (λi=>bs.getD i Qf)=bs.all id:=by rw[QI,hl];exact range_all id Qf bs
   rw[this];exact fin_same rfl
 .cases h
end
end Snd
namespace qy
open PySem PySem.W PyProof.Rows
variable{c:Nat->Nat->Bool}{n i j m:Nat}{p:Array Nat}{α:Type}
noncomputable def run{α:Type}(c:Nat->Nat->Bool):KasT α->α
 |.ret a=>a
 |.ask i j k=>run c (k (c i j))
theorem run_bind{α b:Type}(c:Nat->Nat->Bool)(f:α->KasT b):∀t:KasT α,run c (t.bind f)=run c (f (run c t))
 |.ret a=>rfl
 |.ask i j k=>run_bind c f (k (c i j))
def wM{α:Type}(c:Nat->Nat->Bool)(n:Nat):KasT α->Prop
 |.ret _=>True
 |.ask i j k=>i<n/\j<n/\wM c n (k (c i j))
theorem Xv{α b:Type}{c:Nat->Nat->Bool}{n:Nat}{f:α->KasT b}:∀{t:KasT α},wM c n t->wM c n (f (run c t))->wM c n (t.bind f)
 |.ret a,_,h=>h
 |.ask i j k,h1,h=>#[h1.1,h1.2.1,Xv h1.2.2 h]
theorem bU{α:Type}{d:Nat->Nat->(Bool->Shared->Prop)->Shared->Prop}{c:Nat->Nat->Bool}{n:Nat}{s:Shared}{Q:α->Shared->Prop}(hc:∀i j C,i<n->j<n->C (c i j) s->d i j C s):∀(t:KasT α),wM c n t->Q (run c t) s->t.kasWp d Q s
 |.ret a,_,h=>h
 |.ask i j k,b,h=>hc i j _ b.1 b.2.1 (bU hc (k (c i j)) b.2.2 h)
structure Ord(c:Nat->Nat->Bool)(n:Nat):Prop where
 irr:∀i,i<n->c i i=Qf
 bK:∀i j,i<n->j<n->i≠j->c i j=Qf->c j i=Qb
 tr:∀i j k,i<n->j<n->k<n->c i j=Qb->c j k=Qb->c i k=Qb
noncomputable def at_(p:Array Nat)(i:Nat):Nat:=p.getD i 0
structure Pm(p:Array Nat)(n:Nat):Prop where
 sz:p.size=n
 lt:∀i,i<n->at_ p i<n
 inj:∀i j,i<n->j<n->at_ p i=at_ p j->i=j
def Up(c:Nat->Nat->Bool)(p:Array Nat)(m:Nat):Prop:=∀i j,i<j->j<m->c (at_ p i) (at_ p j)=Qb
def Dn(c:Nat->Nat->Bool)(p:Array Nat)(m:Nat):Prop:=∀i j,i<j->j<m->c (at_ p j) (at_ p i)=Qb
def Ord.tj(o:Ord c n)(hi:i<n)(a:j<n)(h:c i j=Qb):c j i=Qf:=by
 cases e:c j i with
 |false=>rfl
 |true=>have:=o.tr i j i hi a hi h e;rw[o.irr i hi]at this;cases this
def Up.succ(o:Ord c n)(P:Pm p n)(f:1<=m)(b:m<n)(u:Up c p m)(h:c (at_ p (m-1)) (at_ p m)=Qb):Up c p (m+1):=λi j d g=>by
 by_cases e:j<m
 .exact u i j d e
 .have e:j=m:=∅
  subst e
  by_cases a:i=j-1
  .rw[a];exact h
  .exact o.tr _ (at_ p (j-1)) _ (P.lt _ ∅) (P.lt _ ∅) (P.lt _ b) (u i (j-1) ∅ ∅) h
def Dn.succ(o:Ord c n)(P:Pm p n)(f:1<=m)(b:m<n)(u:Dn c p m)(h:c (at_ p m) (at_ p (m-1))=Qb):Dn c p (m+1):=λi j d g=>by
 by_cases e:j<m
 .exact u i j d e
 .have e:j=m:=∅
  subst e
  by_cases a:i=j-1
  .rw[a];exact h
  .exact o.tr _ (at_ p (j-1)) _ (P.lt _ b) (P.lt _ ∅) (P.lt _ ∅) h (u i (j-1) ∅ ∅)
def Xc(i j:Nat)(k:Bool->KasT α):run c (.ask i j k)=run c (k (c i j)):=rfl
def X2{k:Bool->KasT α}(a:i<n)(b:j<n)(h:wM c n (k (c i j))):wM c n (.ask i j k):=#[a,b,h]
theorem IK(o:Ord c n){p:Array Nat}(P:Pm p n):∀(f m:Nat),1<=m->m+f=n->Up c p m->wM c n (kas_asc p f m)/\∃r,run c (kas_asc p f m)=r/\m<=r/\r<=n/\Up c p r/\(r=n\/c (at_ p r) (at_ p (r-1))=Qb)
 |0,m,h1,hn,u=>#[trivial,m,rfl,Qt _,∅,u,.inl ∅]
 |f+1,m,h1,hn,u=>by
  have a:m<n:=∅
  have q:kas_asc p (f+1) m=.ask (p.getD m 0) (p.getD (m-1) 0) λc=>if c=Qb then .ret m else kas_asc p f (m+1):=rfl
  rw[q];cases e:c (at_ p m) (at_ p (m-1))with
  |true=>
   have b:c (p.getD m 0) (p.getD (m-1) 0)=Qb:=e;refine#[X2 (P.lt m a) (P.lt (m-1) ∅) ?_,m,?_,Qt _,UG a,u,.inr e]
   .rw[b];trivial
   .rw[Xc,b];rfl
  |false=>
   have b:c (p.getD m 0) (p.getD (m-1) 0)=Qf:=e;have s:=u.succ o P h1 a (o.bK _ _ (P.lt m a) (P.lt (m-1) ∅) (λz=>by have:=P.inj m (m-1) a ∅ z;lia) e);obtain⟨d,r,g,t,h,k,l⟩:=IK o P f (m+1) ∅ ∅ s;refine#[X2 (P.lt m a) (P.lt (m-1) ∅) ?_,r,?_,∅,h,k,l]
   .rw[b];exact d
   .rw[Xc,b];exact g
theorem fA(o:Ord c n){p:Array Nat}(P:Pm p n):∀(f m:Nat),1<=m->m+f=n->Dn c p m->wM c n (V6 f p m 0)/\∃r,run c (V6 f p m 0)=(p,r,0)/\m<=r/\r<=n/\Dn c p r
 |0,m,h1,hn,u=>#[trivial,m,rfl,Qt _,∅,u]
 |f+1,m,h1,hn,u=>by
  have a:m<n:=∅
  have s:V6 (f+1) p m 0=.ask (p.getD m 0) (p.getD (m-1) 0) λc=>if c=Qb then V6 f p (m+1) 0
   else .ask (p.getD (m-1) 0) (p.getD m 0) λd=>if d=Qb then .ret (p,m,0)else V6 f p (m+1) (0+1):=rfl
  rw[s];cases e:c (at_ p m) (at_ p (m-1))with
  |true=>
   have b:c (p.getD m 0) (p.getD (m-1) 0)=Qb:=e;obtain⟨h,r,k,v,l,q⟩:=fA o P f (m+1) ∅ ∅ (u.succ o P h1 a e);refine#[X2 (P.lt m a) (P.lt (m-1) ∅) ?_,r,?_,∅,l,q]
   .rw[b];exact h
   .rw[Xc,b];exact k
  |false=>
   have b:c (p.getD m 0) (p.getD (m-1) 0)=Qf:=e;have t:c (at_ p (m-1)) (at_ p m)=Qb:=o.bK _ _ (P.lt m a) (P.lt (m-1) ∅) (λz=>by have:=P.inj m (m-1) a ∅ z;lia) e;have g:c (p.getD (m-1) 0) (p.getD m 0)=Qb:=t;refine#[X2 (P.lt m a) (P.lt (m-1) ∅) ?_,m,?_,Qt _,UG a,u]
   .rw[b];refine X2 (P.lt (m-1) ∅) (P.lt m a) ?_;rw[g];trivial
   .rw[Xc,b];show run c (KasT.ask (p.getD (m-1) 0) (p.getD m 0) λd=>if d=Qb then .ret (p,m,0)else V6 f p (m+1) (0+1))=_;rw[Xc,g];rfl
def CN(a:m<=p.size)(k:Nat):at_ (Wi p 0 m) k=if k<m then at_ p (m-1-k)else at_ p k:=by
 have g:∀(q:Array Nat)(i:Nat),at_ q i=q[i]?.getD 0:=λq i=>by unfold at_;simp[JV]
 rw[g,show Wi p 0 m=mirror p 0 m ((m-0)/2) from rfl,(getElem?_mirror_all (xs:=p) (i:=0) (j:=m) a k)]
 by_cases h:k<m
 .rw[if_pos #[QU _,h],if_pos h,g];congr 2;lia
 .rw[if_neg (λz=>h z.2),if_neg h,g]
def Pm.rev(P:Pm p n)(b:m<=n):Pm (Wi p 0 m) n:=by
 have hs:m<=p.size:=by rw[P.sz];exact b
 refine#[by rw[show Wi p 0 m=mirror p 0 m ((m-0)/2) from rfl,mirror_size,P.sz],λi hi=>?_,λi j hi a h=>?_]
 .rw[CN hs];split
  .exact P.lt _ ∅
  .exact P.lt _ hi
 .rw[CN hs,CN hs]at h;split at h<;>split at h
  .have:=P.inj _ _ ∅ ∅ h;lia
  .have:=P.inj _ _ ∅ ∅ h;lia
  .have:=P.inj _ _ ∅ ∅ h;lia
  .exact P.inj _ _ hi a h
def Dn.rev(a:m<=p.size)(d:Dn c p m):Up c (Wi p 0 m) m:=λi j e b=>by rw[CN a,CN a,if_pos ∅,if_pos b];exact d _ _ ∅ ∅
def q15(o:Ord c n)(M:2<=n)(P:Pm p n):wM c n (kas_count n p)/\∃m q,run c (kas_count n p)=(m,q)/\1<=m/\m<=n/\Pm q n/\Up c q m:=by
 obtain⟨w,r,v,k,l,d,x⟩:=IK o P (n-1) 1 (Qt _) ∅ (λi j K G=>by lia);have h:∀t,t=(if(r==n)=Qb then KasT.ret (r,p)else if r>1 then .ask (p.getD 0 0) (p.getD (r-1) 0) λc=>if c=Qb then .ret (r,p)else kas_descPart r n (Wi p 0 r)else kas_descPart r n p)->wM c n t/\∃m q,run c t=(m,q)/\1<=m/\m<=n/\Pm q n/\Up c q m:=by
  intro t a
  by_cases e:r=n
  .rw[if_pos (by simp[e])]at a;subst a;exact#[trivial,r,p,rfl,k,l,P,d]
  .rw[if_neg (by simpa using e)]at a
   by_cases b:r>1
   .rw[if_pos b]at a;have u:c (p.getD 0 0) (p.getD (r-1) 0)=Qb:=d 0 (r-1) ∅ ∅;subst a;refine#[X2 (P.lt 0 ∅) (P.lt (r-1) ∅) ?_,r,p,?_,k,l,P,d]
    .rw[u];trivial
    .rw[Xc,u];rfl
   .rw[if_neg b]at a;have D:r=1:=∅;subst D;have I:c (at_ p 1) (at_ p 0)=Qb:=by
     rcases x with z|z
     .exact absurd z e
     .exact z
    have B:Dn c p 2:=λi j K G=>by have C:i=0:=∅;have b:j=1:=∅;subst C b;exact I
    obtain⟨y,m,s,L,f,A⟩:=fA o P (n-2) 2 ∅ ∅ B;obtain⟨k1,k0,g,k2,k3,H,k5⟩:=IK o (P.rev f) (n-m) m ∅ ∅ (A.rev (by rw[P.sz];exact f));have J:run c (kas_tail3 m n p)=(k0,Wi p 0 m):=by unfold kas_tail3;rw[run_bind,g];rfl
    have dp:kas_descPart 1 n p=(V6 (n-2) p 2 0).bind λr=>if r.2.2>0 then kas_tail3 r.2.1 n (Wi r.1 (r.2.1-(r.2.2+1)) r.2.1)else kas_tail3 r.2.1 n r.1:=rfl
    subst a;rw[dp];refine#[Xv y ?_,_,_,?_,∅,k3,P.rev f,H]
    .rw[s];dsimp only;rw[if_neg (by simp)];exact(Xv k1 trivial)
    .rw[run_bind,s];dsimp only;rw[if_neg (by simp)];exact J
 obtain⟨E,F⟩:=h _ rfl;refine#[?_,?_]
 .unfold kas_count;refine Xv w ?_;rw[v];exact E
 .unfold kas_count;rw[run_bind,v];exact F
theorem aW(o:Ord c n){p:Array Nat}(P:Pm p n){k:Nat}(a:k<n)(u:Up c p k):∀(f l r:Nat),l<=r->r<=k->r-l<=f->(∀i,i<l->c (at_ p i) (at_ p k)=Qb)->(∀i,r<=i->i<k->c (at_ p k) (at_ p i)=Qb)->
  wM c n (kas_place p k f l r)/\∃m,run c (kas_place p k f l r)=m/\m<=k/\(∀i,i<m->c (at_ p i) (at_ p k)=Qb)/\∀i,m<=i->i<k->c (at_ p k) (at_ p i)=Qb
 |0,l,r,hlr,hrk,hf,h1,h2=>#[trivial,l,rfl,∅,h1,λi hi=>h2 i ∅]
 |f+1,l,r,hlr,hrk,hf,h1,h2=>by
  unfold kas_place
  by_cases e:l≥r
  .rw[if_pos e];exact#[trivial,l,rfl,∅,h1,λi hi=>h2 i ∅]
  .rw[if_neg e];have v:(l+r)/2<r:=∅;cases q:c (at_ p k) (at_ p ((l+r)/2))with
   |true=>
    have b:c (p.getD k 0) (p.getD ((l+r)/2) 0)=Qb:=q;obtain⟨d,m,g,h⟩:=aW o P a u f l ((l+r)/2) ∅ ∅ ∅ h1 (λi hi t=>by
     by_cases s:i=(l+r)/2
     .rw[s];exact q
     .exact o.tr _ (at_ p ((l+r)/2)) _ (P.lt _ a) (P.lt _ ∅) (P.lt _ ∅) q (u _ _ ∅ t))
    refine#[X2 (P.lt k a) (P.lt _ ∅) ?_,m,?_,h]
    .rw[b];exact d
    .rw[Xc,b];exact g
   |false=>
    have b:c (p.getD k 0) (p.getD ((l+r)/2) 0)=Qf:=q;have w:=o.bK _ _ (P.lt k a) (P.lt ((l+r)/2) ∅) (λz=>by have:=P.inj k ((l+r)/2) a ∅ z;lia) q;obtain⟨d,m,g,h⟩:=aW o P a u f ((l+r)/2+1) r ∅ hrk ∅ (λi hi=>by
     by_cases s:i=(l+r)/2
     .rw[s];exact w
     .exact o.tr _ (at_ p ((l+r)/2)) _ (P.lt _ ∅) (P.lt _ ∅) (P.lt _ a) (u _ _ ∅ ∅) w) h2
    refine#[X2 (P.lt k a) (P.lt _ ∅) ?_,m,?_,h]
    .rw[b];exact d
    .rw[Xc,b];exact g
def FT{k:Nat}(a:k<p.size)(b:m<=k)(i:Nat):at_ (bubble p k (k-m)) i=if i=m then at_ p k else if m<i/\i<=k then at_ p (i-1)else at_ p i:=by
 have e:=getElem?_bubble a (k-m) ∅ i;have g:∀(q:Array Nat)(i:Nat),at_ q i=q[i]?.getD 0:=λq i=>by unfold at_;simp[JV]
 rw[show k-(k-m)=m by lia]at e;rw[g,e];split
 .rw[g]
 .split
  .rw[g]
  .rw[g]
theorem cP(o:Ord c n):∀(f:Nat)(p:Array Nat)(k:Nat),Pm p n->1<=k->k+f=n->Up c p k->wM c n (kas_bin f p k)/\Pm (run c (kas_bin f p k)) n/\Up c (run c (kas_bin f p k)) n
 |0,p,k,P,h1,hn,u=>#[trivial,P,show Up c p n from(show k=n by lia)▸u]
 |f+1,p,k,P,h1,hn,u=>by
  have a:k<n:=∅
  obtain⟨w,m,g,d,x,y⟩:=aW o P a u k 0 k (QU _) (Qt _) ∅ (λi hi=>by lia) (λi hi F=>by lia);have b:k<p.size:=by rw[P.sz];exact a
  have v:Pm (bubble p k (k-m)) n:=by
   refine#[by rw[bubble_size,P.sz],λi hi=>?_,λi j hi e h=>?_]
   .rw[FT b d];split
    .exact P.lt _ a
    .split
     .exact P.lt _ ∅
     .exact P.lt _ hi
   .rw[FT b d,FT b d]at h;split at h
    .split at h
     .lia
     .split at h
      .have:=P.inj _ _ a ∅ h;lia
      .have:=P.inj _ _ a e h;lia
    .split at h
     .split at h
      .have:=P.inj _ _ ∅ a h;lia
      .split at h
       .have:=P.inj _ _ ∅ ∅ h;lia
       .have:=P.inj _ _ ∅ e h;lia
     .split at h
      .have:=P.inj _ _ hi a h;lia
      .split at h
       .have:=P.inj _ _ hi ∅ h;lia
       .exact P.inj _ _ hi e h
  have D:Up c (bubble p k (k-m)) (k+1):=λi j E e=>by
   rw[FT b d,FT b d]
   by_cases q:i=m
   .rw[if_pos q,if_neg ∅,if_pos ∅];exact y _ ∅ ∅
   .rw[if_neg q]
    by_cases r:j=m
    .rw[if_neg ∅,if_pos r];exact x _ ∅
    .rw[if_neg r]
     by_cases s:m<i/\i<=k
     .rw[if_pos s,if_pos ∅];exact u _ _ ∅ ∅
     .rw[if_neg s]
      by_cases t:m<j/\j<=k
      .rw[if_pos t];exact u _ _ ∅ ∅
      .rw[if_neg t];exact u _ _ E ∅
  refine vN (cP o f _ (k+1) v ∅ ∅ D) λz A B=>?_;have C:kas_bin (f+1) p k=(kas_place p k k 0 k).bind λl=>kas_bin f (bubble p k (k-l)) (k+1):=rfl;rw[C];refine#[Xv w (by rw[g];exact z),?_,?_]
  .rw[run_bind,g];exact A
  .rw[run_bind,g];exact B
def aY:Pm (QO (Qu n)) n:=by
 have e:∀i,i<n->at_ (QO (Qu n)) i=i:=λi hi=>by simp[at_,JV,hi]
 refine#[by simp,λi hi=>by rw[e i hi];exact hi,λi j hi a h=>?_];rw[e i hi,e j a]at h;exact h
def rf(o:Ord c n)(l:2<=n):wM c n (YB n)/\Pm (run c (YB n)) n/\Up c (run c (YB n)) n:=by
 obtain⟨b,m,q,a,r,s,d,f⟩:=q15 o l (aY (n:=n));unfold YB
 by_cases e:m<n
 .obtain⟨g,h,k⟩:=cP o (n-max m 1) q (max m 1) d ∅ ∅ (by rw[show max m 1=m by lia];exact f);refine#[Xv b (by rw[a];dsimp only;rw[if_pos e];exact g),?_,?_]
  .rw[run_bind,a];dsimp only;rw[if_pos e];exact h
  .rw[run_bind,a];dsimp only;rw[if_pos e];exact k
 .refine#[Xv b (by rw[a];dsimp only;rw[if_neg e];trivial),?_,?_]
  .rw[run_bind,a];dsimp only;rw[if_neg e];exact d
  .rw[run_bind,a];dsimp only;rw[if_neg e];have:m=n:=∅;subst this;exact f
theorem len_sub:∀{a b:List Nat},a.Nodup->(∀x∈a,x∈b)->a.length<=b.length
 |[],_,_,_=>QU _
 |x::a,b,nd,h=>by have d:=h x Qg;have f:=QP.mp nd;have:=len_sub f.2 λy e=>(Z4 (λ(z:y=x)=>f.1 (z▸e))).mpr (h y (Qd _ e));rw[Y0 d]at this;have:=JY d;simp;lia
def Pm.perm(P:Pm p n):p.toList.Perm (Qu n):=by
 have e:p.toList=(Qu n).map (at_ p):=by
  refine Wj λi=>?_
  by_cases h:i<n
  .have hs:i<p.size:=(by rw[P.sz];exact h);rw[QB,JT h,Ug];simp[at_,JV,hs]
  .rw[J6 (by simp[P.sz];lia),J6 (by simp;lia)]
 have nd:p.toList.Nodup:=by
  rw[e];refine JO.mpr (Yd.mpr λi j hi o q h=>?_);have l:i<n:=by simpa using hi
  have b:j<n:=by simpa using o
  have:=P.inj i j l b (by simpa using h);lia
 refine(UI nd U9).mpr λa=>#[λh=>?_,λh=>?_]
 .rw[e]at h;obtain⟨i,hi,rfl⟩:=Qv.mp h;exact QN.mpr (P.lt i (QN.mp hi))
 .refine Decidable.byContradiction λd=>?_;have k:∀x∈p.toList,x∈(Qu n).erase a:=λx f=>by refine(List.Nodup.mem_erase_iff U9).mpr #[λz=>d (z▸f),?_];rw[e]at f;obtain⟨i,hi,rfl⟩:=Qv.mp f;exact QN.mpr (P.lt i (QN.mp hi))
  have g:=len_sub nd k;rw[Y0 h,Jc,YW,P.sz]at g;have:=QN.mp h;lia
section
variable{prog:Program}{w:World}{A:Around}{E:NZ}{s:Shared}
noncomputable def pick{α:Type}(p:Array Nat)(xs:List α)(d:α):List α:=p.toList.map λi=>xs.getD i d
def Tn(P:Pm p n)(xs:List α)(d:α):(pick p xs d).length=n:=by unfold pick;rw[Qm,YW,P.sz]
def AB(xs:List α)(d:α):pick (QO (Qu xs.length)) xs d=xs:=by
 unfold pick;refine Wj λi=>?_;simp
 by_cases h:i<xs.length
 .rw[JT h];simp[h]
 .rw[J6 (by simp;lia),J6 ∅];rfl
def q97{a:Addr}{vs:List Value}{S:Nat}{P:PySem.Fin->Shared->Prop}(t:s.heap.get? a=Qa (J0 "list" vs.toArray S))(K:vs.length<64)(o:Ord c vs.length)
  (V:2<=vs.length->∀h',(∀b x,b≠a->s.heap.get? b=Qa x->h'.get? b=Qa x)->wpAny (model prog w) A (keyKind' vs.toArray) (λJ B=>B={s with heap:=h'}/\∀i j C,i<vs.length->j<vs.length->C (c i j) B->kas_ask prog w A J vs i j C B) (λ_ _=>False) {s with heap:=h'})
  (fin:∀(p:Array Nat)(h':Heap)(e:Nat),Pm p vs.length->Up c p vs.length->(∀b x,b≠a->s.heap.get? b=Qa x->h'.get? b=Qa x)->h'.get? a=Qa (J0 "list" (pick p vs Jt).toArray e)->P (.done (.ret .none)) {s with heap:=h'}):
  wpAny (model prog w) A (Ub.«list.sort» #[[.ref a],[]]) P E s:=by
 have W:a<s.heap.objs.size:=Qx t;obtain⟨v,I⟩:∃v,(s.heap.update a (Jk λ_=>(#[]:Array Value))).get? a=Qa (J0 "list" #[] v):=#[_,Uc t λ_=>#[]]
 generalize f:((s.heap.update a (Jk λ_=>(#[]:Array Value))).push (J0 "tuple" vs.toArray 0)).push (J0 "list" #[] 0)=h3;have kp:∀b x,b≠a->s.heap.get? b=Qa x->h3.get? b=Qa x:=λb x g q=>by rw[<-f];exact Qk _ (Qk _ ((JX _ _ (JK g)).trans q))
 have h:h3.get? a=Qa (J0 "list" #[] v):=by rw[<-f];exact Qk _ (Qk _ I)
 have r:vs.length<=QD:=by rw[Q6];lia
 rw[list_sort_plain];refine Qe (listItems_at t rfl (Qe (Y9 t rfl (Qe (V7 I rfl (Qe (wpAny_newTuple ?_ r)))) (by simpa using r) (QU _))));refine Qe (Wz ?_ (QU _));refine Jm ?_;have z:({s with heap:=((s.heap.update a (Jk λ_=>(#[]:Array Value))).push {cls:=.type "tuple",data:=.seq vs.toArray.toList.toArray}).push {cls:=.type "list",data:=.seq ([]:List Value).toArray}}:Shared)={s with heap:=h3}:=by rw[<-f]
 rw[z];dsimp only
 by_cases k:vs.toArray.size<2
 .rw[if_pos k,if_pos k];refine Qe (Qi ?_);rw[StateT.run_pure];refine Qe (Qi ?_);dsimp only;have T:((vs.toArray.zip vs.toArray).map λx=>x.2)=vs.toArray:=by apply U5.mp;simp[List.map_snd_zip]
  simp only[T];refine Qe (V7 h rfl (Qe (Y9 h rfl ?_ (QU _) (by simpa using Ws r))));simp;obtain⟨d,y⟩:∃d,(h3.update a (Jk λ_=>vs.toArray)).get? a=Qa (J0 "list" vs.toArray d):=#[_,Uc h λ_=>vs.toArray]
  have Z:vs.length<2:=by simpa using k
  refine Qi (fin (QO (Qu vs.length)) _ d aY (λi j wH Y=>by lia) (λb x g q=>(JX _ _ (JK g)).trans (kp b x g q)) ?_);rw[AB];exact y
 .have D:2<=vs.length:=by have:¬vs.length<2:=(by simpa using k);lia
  rw[if_neg k,if_neg k];refine vN (rf o D) λO F R=>?_;refine Qe (Qh (V D h3 kp) (λJ s4 U=>?_) λ_ _ x=>x.elim);obtain⟨rfl,u⟩:=U;refine Qe (Qh (kat_run (Q:=λst l=>l={s with heap:=h3}/\arrOf st=(run c (YB vs.length)).map (kas_item (vs.toArray.zip vs.toArray))/\failedOf st=Qc) (G:=λp l=>p=run c (YB vs.length)/\l={s with heap:=h3}) rfl D K (λp st l X M N H=>#[H.2,by rw[M,H.1],N]) (bU u _ O #[rfl,rfl])) ?_ λ_ _ x=>x);rintro⟨⟨⟩,st⟩ l ⟨rfl,L,hf⟩;dsimp only;rw[kat_snds rfl L];refine Qe (V7 h rfl (Qe (Y9 h rfl ?_ (QU _) (by show(QO (pick (run c (YB vs.length)) vs Jt)).size<=_;rw[QI,(Tn F vs _)];exact Ws r))));rw[hf];simp;obtain⟨d,y⟩:∃d,(h3.update a (Jk λ_=>QO (pick (run c (YB vs.length)) vs Jt))).get? a=Qa (J0 "list" (QO (pick (run c (YB vs.length)) vs Jt)) d):=#[_,Uc h λ_=>QO (pick (run c (YB vs.length)) vs Jt)]
  exact Qi (fin _ _ d F R (λb x g q=>(JX _ _ (JK g)).trans (kp b x g q)) y)
def ri{x:Value}{Gv:List Value->Prop}{Q:NZ}(r:n<64)(o:Ord c n)(y:∀vs,Gv vs->vs.length=n)
  (l:∀(R:List Value->Shared->Prop),(∀vs h' a,Gv vs->(∀b x,s.heap.get? b=Qa x->h'.get? b=Qa x)->R vs {s with heap:=h',toks:=a})->wpAny (model prog w) A.in1 (collect x) R E s)
  (v:∀vs,Gv vs->2<=vs.length->∀h' a,(∀b x,s.heap.get? b=Qa x->h'.get? b=Qa x)->wpAny (model prog w) A.in1.in1 (keyKind' vs.toArray) (λz f=>f={s with heap:=h',toks:=a}/\∀i j C,i<vs.length->j<vs.length->C (c i j) f->kas_ask prog w A.in1.in1 z vs i j C f) (λ_ _=>False) {s with heap:=h',toks:=a})
  (fin:∀(vs:List Value)(p:Array Nat)(D:Addr)(h':Heap)(a e:Nat),Gv vs->Pm p n->Up c p n->(∀b x,s.heap.get? b=Qa x->h'.get? b=Qa x)->s.heap.get? D=Qc->h'.get? D=Qa (J0 "list" (pick p vs Jt).toArray e)->Q (.ref D) {s with heap:=h',toks:=a}):
  wpAny (model prog w) A (call (.builtin "sorted") [x]) Q E s:=by
 refine Calls.call_function_entry kind_sorted plain_sorted entry_sorted (args_sorted1 _) ?_;unfold Ub.«sorted»;refine Qe (Qi (Qe (l _ λvs h a d k1=>?_)));have hl:=y vs d;have t:s.heap.get? h.objs.size=Qc:=by
  cases q:s.heap.get? h.objs.size with
  |none=>rfl
  |some x=>exact absurd (Qx (k1 _ _ q)) (Jx _)
 refine Qe (Wz ?_ (by rw[Q6];lia));refine Qe (Jm (J8 slot_list_sort #[_,QG _ rfl,rfl] entry_list_sort (q97 (QG _ rfl) (hl▸r) (hl▸o) (λu h' k=>?_) λp h' e P U k g=>?_) (args_list_sort _)))
 .exact v vs d u h' a λb x q=>k b x (QQ (Qx (k1 b x q))) (Qk _ (k1 b x q))
 .exact#[_,rfl,Qi #[_,rfl,fin vs p _ h' a e d (hl▸P) (hl▸U) (λb x q=>k b x (QQ (Qx (k1 b x q))) (Qk _ (k1 b x q))) t g]]
end
end qy
namespace Snd
open PySem PySem.Spec PyProof.Rows L2 Ev
variable{P prog:Program}{w:World}{H H0 H' Hf H1 H2:Hp}{h h' B base:Heap}{a Dd f Cc kS dx ta:Addr}{o:HO}{X:Cx}{pins:List (Addr×Obj)}{Y:L2.St}{s s' s2:Shared}{ds ks zB gs zq:List D}{i n c j e1 kk ln:Nat}{A:Around}{E:NZ}{d r:D}{e v tg:Qs}{u a0 fl dV doc pm zC oc:Value}{us:List Value}{p:Pm}{G:Nat->List D->R D}{sub:Nat->Nat->Bool}{O O0 fp O':List Addr}{vs qk ws kH:List V}{q pos q2 q3 q4 j0 aZ ap cp q1 q5 xp:WD}{M:ZL}{outer:List JM}{env:JM}{Q:Unit->Shared->Prop}{Ex:XK}{fd:FuncData}{ps N ts:List Str}{K:QC}{mg:Str->Option Value}{name qual x y cn t fn m:Str}{params:Arguments}{body st:List Stmt}{scope sc:Scope}{an od:Option Addr}{C:Ct}{α:Type}{lb l lk ly lo:L}{as es args cs:List Qs}{Z ρ1 ρ0:Ev.Env}{os:List (List Addr)}{ls:List L}{kvs:List (Key×V)}{op:CmpOp}{pre suf:List S}{xs:List (D×Addr×Value)}{ops:List CmpOp}{kg:Array (Option Value)}
def Gy(x:jn P w H h a o):∃ob,h.get? a=Qa ob:=by
 cases o with
 |qA xs=>obtain⟨_,_,_,_,e⟩:=x;exact#[_,e]
 |qE xs=>obtain⟨_,_,_,o,e,_⟩:=x;exact#[_,e]
 |dK kvs=>obtain⟨_,_,_,_,o,_,_,e,_⟩:=x;exact#[_,e]
 |dT kvs=>obtain⟨_,_,_,_,o,_,_,e,_⟩:=x;exact#[_,e]
 |set S n=>obtain⟨o,_,_,_,e,_⟩:=x;exact#[_,e]
 |ins C dx fs=>obtain⟨_,_,_,e,_⟩:=x;exact#[_,e]
 |own y=>obtain⟨_,e⟩:=x;exact#[_,e]
 |xd fs=>obtain⟨_,⟨_,_,_,e,_⟩,_⟩:=x;exact#[_,e]
 |rng lo hi=>obtain⟨_,_,_,e⟩:=x;exact#[_,e]
 |frz ob u=>obtain⟨e,_⟩:=x;exact#[_,e]
 |tbl ps=>exact#[_,x]
 |met f y=>exact#[_,x]
 |ext φ=>obtain⟨_,⟨_,e⟩,_⟩:=x;exact#[_,e]
 |memo ψ=>obtain⟨⟨_,e,_⟩,_⟩:=x;exact#[_,e]
def Ey(x:zc P w H h)(n:h.get? a=Qc):H a=Qc:=by
 cases q:H a with
 |none=>rfl
 |some o=>
  obtain⟨ob,e⟩:=Gy (x a o q);rw[n]at e;exact nS e
def q3Y(I:Inv X pins Y H s)(k:∀b u,s.heap.get? b=Qa u->h'.get? b=Qa u)(g:s.heap.get? a=Qc)(new:jn X.prog X.w (upd H a o) h' a o):
  Inv X pins Y (upd H a o) {s with heap:=h',toks:=t'}:=by
 have hf:=Ey I.qO g;have F:∀b u,s.heap.get? b=Qa u->b≠a:=λb u e z=>by rw[z,g]at e;exact nS e
 refine I.un #[λb u q _ _ _=>k b u q,λb u q _ _ _=>#[u.slots,k b u q],λb u q n _=>by rw[qW (F b u q)];exact n,λb u q _=>#[u,k b u q],λb xs q=>by rw[qW (jE q hf)];exact q,λb u xs q=>by rw[qW (jE q hf)];exact q,λb ps q=>#[#[],by rw[qW (jE q hf),q];simp]] λb u e=>?_
 by_cases hb:b=a
 .subst hb;rw[zb]at e;cases e;exact new
 .rw[qW hb]at e;exact(I.qO b u e).xa (λc v _ q=>k c v q) (λc q=>by rw[qW (jE q hf)];exact q) (λc xs q=>by rw[qW (jE q hf)];exact q) λc _ xs q=>by rw[qW (jE q hf)];exact q
def Fg(k:∀b o,h.get? b=Qa o->h'.get? b=Qa o):(∀d u,Dv h d u->Dv h' d u)/\(∀ds us,zU h ds us->zU h' ds us):=by
 refine D.ind
  (λu r=>r) (λ_ u r=>r) (λ_ u r=>r) (λ_ u r=>r) (λl g u r=>?_) (λl g u r=>?_) (λ_ _ _ _ u r=>r) (λ_ u r=>r) (λ_ _ u r=>r) (λ_ _ _ u r=>r) (λus r=>r) (λd ds J T us r=>?_)
 .obtain⟨a,us,rfl,⟨o,e,c⟩,z⟩:=r;exact#[a,us,rfl,#[o,k _ _ e,c],g _ z]
 .obtain⟨a,us,rfl,⟨o,e,c⟩,z⟩:=r;exact#[a,us,rfl,#[o,k _ _ e,c],g _ z]
 .obtain⟨u,U,rfl,F,I⟩:=r;exact#[u,U,rfl,J _ F,T _ I]
theorem Iv:∀l:List D,(dedup l).length<=l.length
 |[]=>Qt _
 |x::l=>by
  unfold dedup;split
  .exact Ws (Iv l)
  .exact Nat.succ_le_succ (Iv l)
theorem oN:∀{l:List D},C6 l=Qb->(∀d∈l,qJ d=Qb)->l.Pairwise (·≠·)
 |[],_,_=>.nil
 |x::l,h,hh=>by
  have h':=of_decide_eq_true h;unfold dedup at h';split at h'
  .have:=Iv l;simp at h';lia
  .rename_i c;refine QT.mpr #[λy b z=>c ?_,oN (decide_eq_true (by simpa using h')) λd hd=>hh d (Qd _ hd)];refine Yr.mpr #[y,b,(k9 (hh x Qg) (hh y (Qd _ b))).mpr z]
structure SoOk(ds:List D):Prop where
 len:ds.length<64
 wd:∀d∈ds,qJ d=Qb
 aX:∀d∈ds,pl d=Qb
 cmp:∀a∈ds,∀b∈ds,zm a b=Qb
 Fd:ds.Pairwise (·≠·)
def b9(h:ko ds=Qb):SoOk ds/\((∀d∈ds,ub d=Qb)\/∀d∈ds,yk d=Qb):=by unfold ko at h;simp only[Qo,Vp,QL]at h;obtain⟨⟨⟨⟨⟨z,F⟩,I⟩,g⟩,J⟩,T⟩:=h;have k:=kz.mp F;refine#[#[of_decide_eq_true z,k,yr.mp I,λa U b hb=>?_,oN J k],T];unfold Xq at g;simp at g;exact g a U b hb
def yY(ds:List D)(i j:Nat):Bool:=qm (ds.getD i .qI) (ds.getD j .qI)
def getD_mem(h:i<ds.length):ds.getD i .qI∈ds:=by
 have:ds.getD i .qI=ds[i]:=by simp[h]
 rw[this];exact Jz h
def SoOk.ord(h:SoOk ds):qy.Ord (yY ds) ds.length:=by
 refine#[λi hi=>S7 (h.wd _ (getD_mem hi)),λi j hi g ne hc=>?_,λi j k hi g T a b=>S8 (h.wd _ (getD_mem hi)) (h.wd _ (getD_mem g)) (h.wd _ (getD_mem T)) a b];rcases S9 (h.wd _ (getD_mem hi)) (h.wd _ (getD_mem g)) (h.cmp _ (getD_mem hi) _ (getD_mem g))with z|z|z
 .have F:qm (ds.getD i .qI) (ds.getD j .qI)=Qf:=hc;rw[z]at F;cases F
 .exfalso;have I:ds.getD i .qI=ds[i]:=by simp[hi]
  have J:ds.getD j .qI=ds[j]:=by simp[g]
  rw[I,J]at z;rcases Nat.lt_or_gt_of_ne ne with l|l
  .exact Yd.mp h.Fd i j hi g l z
  .exact Yd.mp h.Fd j i g hi l z.symm
 .exact z
def AD{p:Array Nat}(h:SoOk ds)(P:qy.Pm p ds.length)(U:qy.Up (yY ds) p ds.length):qy.pick p ds .qI=jy ds:=by
 have perm:(qy.pick p ds .qI).Perm ds:=by
  have:=P.perm.map λi=>ds.getD i .qI;have e:(Qu ds.length).map (λi=>ds.getD i .qI)=ds:=by have:=qy.AB ds (.qI:D);unfold qy.pick at this;simpa using this
  rw[e]at this;exact this
 have g:∀d∈qy.pick p ds .qI,d∈ds:=λd hd=>perm.mem_iff.mp hd;refine AZ (perm.trans (u9 ds).symm) (λd hd=>h.wd d (g d hd)) (λa T b hb=>h.cmp a (g a T) b (g b hb)) ?_ (P7 h.wd);refine Yd.mpr λi j hi F wH=>?_;have W:i<ds.length:=by rw[<-qy.Tn P ds .qI];exact hi
 have J:j<ds.length:=by rw[<-qy.Tn P ds .qI];exact F
 have z:∀k(I:k<(qy.pick p ds .qI).length),(qy.pick p ds .qI)[k]=ds.getD (qy.at_ p k) .qI:=λk I=>by
  have lk:k<p.size:=by rw[P.sz,<-qy.Tn P ds .qI];exact I
  simp[qy.pick,qy.at_,JV,lk]
 rw[z i hi,z j F];have:=U i j wH J;exact h.ord.tj (P.lt i W) (P.lt j J) this
open PySem.W
theorem mF{Q:Bool->Shared->Prop}(hu:A.units+k<cLine):∀{ds es:List D}{us vs:List Value}(i:Nat),1<=i->zU s.heap ds us->zU s.heap es vs->(∀d∈ds,qV k d=Qb)->(∀d∈es,qV k d=Qb)->(∀d∈ds,qJ d=Qb)->(∀d∈es,qJ d=Qb)->
  jw ds es=Qb->fin=decide (ds.length<es.length)->Q (zD ds es) s->KatLex prog w A b fin Q (us.zip vs) i s
 |[],es,us,vs,i,hi,x,y,p1,p2,g1,g2,c,hf,q=>by
  cases x;rw[Wh];refine kat_nil ?_;rw[hf];cases es with
  |nil=>simpa[zD]using q
  |cons e es=>simpa[zD]using q
 |d::ds,[],us,vs,i,hi,x,y,p1,p2,g1,g2,c,hf,q=>by cases y;rw[V1];refine kat_nil ?_;rw[hf];simpa[zD]using q
 |d::ds,e::es,us,vs,i,hi,x,y,p1,p2,g1,g2,c,hf,q=>by
  refine qN x λu qk g J T=>?_;subst g;refine qN y λv U g y1 y2=>?_;subst g;rw[Jq];have F:=p1 d Qg;have I:=p2 e Qg;rw[zD]at q;rw[jw]at c;refine kat_cons (xE k F I J y1 hu prog w _ _ ?_);cases z:qM d e with
  |true=>
   rw[z,if_pos rfl]at q c;refine kat_yes (mF hu (i+1) ∅ T y2 (λd hd=>p1 d (Qd _ hd)) (λd hd=>p2 d (Qd _ hd)) (λd hd=>g1 d (Qd _ hd)) (λd hd=>g2 d (Qd _ hd)) c ?_ q);rw[hf];simp
  |false=>
   rw[z,if_neg (by simp)]at q c;refine kat_no ?_;have hb:(b&&i==0)=Qf:=by have:(i==0)=Qf:=(by simp;lia);rw[this,Bool.and_false]
   rw[hb];exact kat_one _ _ ((S4 k F I (g1 d Qg) (g2 e Qg) c J y1 hu).1 prog w _ _ q)
def qA5{Q:Bool->Shared->Prop}{e:D}{v:Value}(hu:A.units+k<cLine)(U:yk d=Qb)(W:yk e=Qb)(x:Dv s.heap d u)(y:Dv s.heap e v)(p1:qV (k+1) d=Qb)(p2:qV (k+1) e=Qb)(g1:qJ d=Qb)(g2:qJ e=Qb)
  (c:zm d e=Qb) (q:Q (qm d e) s):wpAny (model prog w) A (keyLt' (tuples' Qb) u v) Q E s:=by
 unfold yk at U W;split at U
 .rename_i i ds;split at W
  .rename_i j es;obtain⟨a,us,rfl,⟨ox,hx,cx,n1,dx⟩,x1⟩:=x;obtain⟨b,vs,rfl,⟨oy,hy,cy,n2,dy⟩,y1⟩:=y;obtain⟨u1,qk,rfl,⟨t1,rfl⟩,x2⟩:=x1;obtain⟨v1,kP,rfl,⟨t2,rfl⟩,y2⟩:=y1;rw[yP,QL]at p1 p2;have J:=kz.mp g1;have T:=kz.mp g2;have F:jw (D.int i::ds) (D.int j::es)=Qb:=c;have g:Q (zD (D.int i::ds) (D.int j::es)) s:=q;refine kat_lt hx dx hy dy ?_;show KatLex prog w A Qb _ Q ((UD i t1,UD j t2)::qk.zip kP) 0 s;refine kat_cons (SeqAt.EqAt.int_int i t1 j t2 prog w _ _ ?_);rw[zD]at g;rw[jw]at F;have I:qM (D.int i) (D.int j)=(i==j):=by have:qM (D.int i) (D.int j)=decide (i=j):=(by simp[qM]);rw[this,Q0];simp
   rw[I]at g F;cases z:(i==j)with
   |true=>
    rw[z,if_pos rfl]at g F;refine kat_yes (mF hu 1 (Qt _) x2 y2 (λd hd=>p1 d (Qd _ hd)) (λd hd=>p2 d (Qd _ hd)) (λd hd=>J d (Qd _ hd)) (λd hd=>T d (Qd _ hd)) F ?_ g);simp[x2.length,y2.length]
   |false=>
    rw[z,if_neg (by simp)]at g F;refine kat_no ?_;have e3:qm (D.int i) (D.int j)=decide (i<j):=(by simp[qm]);rw[e3]at g;exact oneLt_int g
  .cases W
 .cases U
theorem lD{h:Heap}:∀{ds:List D}{us:List Value},zU h ds us->(∀d∈ds,yk d=Qb)->∃fs,KatTups h us fs/\fs.length=ds.length/\∀f∈fs,∃i t,f=UD i t
 |[],us,x,_=>by cases x;exact#[[],KatTups.nil,rfl,λf hf=>absurd hf (by simp)]
 |d::ds,us,x,t=>by
  refine qN x λu r T I J=>?_;subst T;refine qd (lD J λd hd=>t d (Qd _ hd)) λfs k1 k2 k3=>?_;have b:=t d Qg;unfold yk at b;split at b
  .rename_i z F;obtain⟨a,us,rfl,⟨W,k,g,U,dx⟩,y1⟩:=I;obtain⟨u1,qk,rfl,⟨t1,rfl⟩,y2⟩:=y1;refine#[UD z t1::fs,KatTups.cons k g dx (by simp) k1,by simp[k2],λf hf=>?_];rcases Ql.mp hf with rfl|hf
   .exact#[_,_,rfl]
   .exact k3 f hf
  .cases b
def Eh(x:zU h ds us)(hi:i<ds.length):Dv h (ds.getD i .qI) (us.getD i Jt):=by
 obtain⟨u,e1,b⟩:=x.get (i:=i) (d:=ds[i]) (by simp[hi]);have g:ds.getD i .qI=ds[i]:=by simp[hi]
 have k:us.getD i Jt=u:=by simp[JN,e1]
 rw[g,k];exact b
def Oc(hu:A.units+8<cLine)(z:SoOk ds)(b:(∀d∈ds,ub d=Qb)\/∀d∈ds,yk d=Qb)(x:zU s.heap ds us)(h2:2<=us.length):
  wpAny (model prog w) A (keyKind' us.toArray) (λκ s'=>s'=s/\∀i j C,i<us.length->j<us.length->C (yY ds i j) s'->kas_ask prog w A κ us i j C s') (λ_ _=>False) s:=by
 have hl:=x.length;rcases b with b|b
 .have tM:∀u∈us,∃i t,u=UD i t:=λu hu=>by
   obtain⟨d,hd,dv⟩:=x.mem hu;have:=b d hd;unfold ub at this;split at this
   .obtain⟨t,e⟩:=dv;exact#[_,t,e]
   .cases this
  refine kas_kind (T:=.type "int") h2 (λv hv=>?_) (by decide) (by decide) #[rfl,λi j C hi hj g=>?_]
  .obtain⟨i,t,rfl⟩:=tM v hv;exact Looks.of_pure rfl
  .have W:=Eh x (i:=i) ∅;have dj:=Eh x (i:=j) ∅;have J:=b _ (getD_mem (ds:=ds) (i:=i) ∅);have U:=b _ (getD_mem (ds:=ds) (i:=j) ∅);unfold yY at g;unfold kas_ask;unfold ub at J U;split at J
   .rename_i m e1;split at U
    .rename_i n e2;rw[e1]at W g;rw[e2]at dj g;obtain⟨t1,f1⟩:=W;obtain⟨t2,f2⟩:=dj;rw[f1,f2];refine kat_lt_int ?_;have e3:qm (D.int m) (D.int n)=decide (m<n):=(by simp[qm]);rw[e3]at g;exact g
    .cases U
   .cases J
 .refine qd (lD x b) λfs k1 k2 k3=>?_;refine kat_kind (T:=.type "int") k1 ∅ (λv hv=>?_) (by decide) #[rfl,λi j C hi hj g=>?_]
  .obtain⟨i,t,rfl⟩:=k3 v hv;exact Looks.of_pure rfl
  .have F:=getD_mem (ds:=ds) (i:=i) ∅;have I:=getD_mem (ds:=ds) (i:=j) ∅;exact qA5 (k:=7) ∅ (b _ F) (b _ I) (Eh x ∅) (Eh x ∅) (z.aX _ F) (z.aX _ I) (z.wd _ F) (z.wd _ I) (z.cmp _ F _ I) g
theorem aS{Hf:Hp}{ds:List D}{vs:List V}(r:qK p Hf ds vs):∀{l:List Nat},(∀i∈l,i<ds.length)->qK p Hf (l.map λi=>ds.getD i .qI) (l.map λi=>vs.getD i .qI)
 |[],_=>rfl
 |i::l,h=>by
  have hi:=h i Qg;refine qH (r.get (i:=i) (d:=ds[i]) (by simp[hi])) λv e1 b=>?_;refine#[vs.getD i .qI,_,rfl,?_,aS r λi hi=>h i (Qd _ hi)];have g:ds.getD i .qI=ds[i]:=by simp[hi]
  have k:vs.getD i .qI=v:=by simp[JN,e1]
  dsimp only;rw[g,k];exact b
theorem aT{vs:List V}{us:List Value}(r:Vals vs us):∀{l:List Nat},(∀i∈l,i<vs.length)->Vals (l.map λi=>vs.getD i .qI) (l.map λi=>us.getD i Jt)
 |[],_=>.nil
 |i::l,h=>by
  have hi:=h i Qg;obtain⟨u,e1,b⟩:=r.get (i:=i) (x:=vs[i]) (by simp[hi]);have g:vs.getD i .qI=vs[i]:=by simp[hi]
  have k:us.getD i Jt=u:=by simp[JN,e1]
  refine .cons ?_ (aT r λi hi=>h i (Qd _ hi));dsimp only;rw[g,k];exact b
def lr{q:Array Nat}{U e:Nat}(I:Inv X pins Y H s)(t:Th O H)(F:qK p (fz O H) ds vs)(T:Vals vs us)(J:vs.length<=QD)
  (P:qy.Pm q n) (z:n=ds.length) (k:∀b x,s.heap.get? b=Qa x->h'.get? b=Qa x) (nD:s.heap.get? Dd=Qc) (g:h'.get? Dd=Qa (J0 "list" (qy.pick q us Jt).toArray e)):
  EP (X.ql E) pins Y (Fin p O H (.qA (qy.pick q ds .qI))) (.ref Dd) {s with heap:=h',toks:=U}:=by
 have hl:=F.length;have lt:∀i∈q.toList,i<ds.length:=λi hi=>by have:=P.perm.mem_iff.mp hi;rw[<-z];exact QN.mp this
 have hf:=Ey I.qO nD;refine#[.ref Dd,upd H Dd (.qA (qy.pick q vs .qI)),(q3Y (o:=.qA (qy.pick q vs .qI)) I k nD #[?_,_,_,aT T (λi hi=>hl▸lt i hi),g]).ql E,rfl,Ext.upd hf,Dd,_,rfl,zM.of (Fv t hf),(aS F lt).mono (jB (Ext.upd hf))];rw[qy.Tn P,z,hl];exact J
def tF(X:Cx)(p:Pm)(A:Around)(E:NZ)(s:Shared)(Hf:Hp)(ds:List D)(x:Value):Prop:=
 ∃vs:List V,qK p Hf ds vs/\vs.length<=QD/\∀(R:List Value->Shared->Prop),(∀us h' g,Vals vs us->(∀b x,s.heap.get? b=Qa x->h'.get? b=Qa x)->R us {s with heap:=h',toks:=g})->wpAny (model X.prog X.w) A (collect x) R E s
def su{v:V}(hK:p.K=X.K)(hc:X.calm=Qb)(hA:A.handled=Qc)(I:Inv X pins Y H s)(b:RelV v u)(q:jH p H (fz O H) d v)(hi:jC d=.ok ds):
  tF X p A E s (fz O H) ds u:=by
 cases d<;>first
  |(exfalso;simpa[jC]using hi)
  |skip
 .cases hi;refine zN q λa vs zz s1 z T=>?_;subst zz;cases b;obtain⟨its,b,⟨o,U,wG,n,hd⟩,F⟩:=I.tuple (hK▸zG.va s1:zw X.K H a vs);exact#[vs,T,F,λR g=>wpAny_collect_seq a (.inr rfl) U wG hd (λh' k=>by simpa using g its h' s.toks b k) (by simpa[<-b.length]using F)]
 .cases hi;refine qN q λa vs zz s1 T=>?_;subst zz;cases b;refine qd (I.list (hK▸s1:zM X.K H a vs)) λits b pt F=>?_;obtain⟨o,U,wG,n,hd⟩:=pt.isList;exact#[vs,T,F,λR g=>wpAny_collect_seq a (.inl rfl) U wG hd (λh' k=>by simpa using g its h' s.toks b k) (by simpa[<-b.length]using F)]
 .rename_i ks ws;refine zN q λa kvs qw s1 qx T=>?_;subst qw qx;cases b;have XE:(ints? (kvs.map λq=>zo q.1)).isSome=Qb:=by
   cases h:(ints? (kvs.map λq=>zo q.1)).isSome with
   |true=>rfl
   |false=>simp[jC,h]at hi
  have e0:jC (.z7 (kvs.map λq=>zo q.1) ws)=.ok (kvs.map λq=>zo q.1):=by simp[jC,XE]
  rw[e0]at hi;cases hi;obtain⟨z,hd,xs,rel,o,es,ep,h1,h2,h3,h4,h5,h6⟩:=Xy I.qO s1;have hl:=KV.length rel;refine#[_,Ob XE,by simpa using z,λR g=>ZH (PySem.W.kdl_dict hd) hA #[o,es,h1,h2,h3,h4,h5,h6] (hl▸z) λh' tk acc hk q2w=>g _ h' tk ?_ hk];obtain⟨a1,a2⟩:=q2w;have all:∀(ks:List (Key×V))(us:List Value),us.length=ks.length->(∀(i:Nat)(q:Key×V)(u:Value),ks[i]?=Qa q->us[i]?=Qa u->RelV (kV q.1) u)->Vals (ks.map λq=>kV q.1) us:=by
   intro ks
   induction ks with
   |nil=>intro us hl _;cases us with
    |nil=>exact .nil
    |cons _ _=>simp at hl
   |cons q ks ih=>intro us hl h;cases us with
    |nil=>simp at hl
    |cons u us=>exact .cons (h 0 q u rfl rfl) (ih us (by simpa using hl) λi q u e1 J=>h (i+1) q u (by simpa using e1) (by simpa using J))
  refine all kvs acc.toList (by rw[YW,a1,hl]) λi q u e1 J=>?_;have hi:i<acc.size:=by have:=(Qn.mp J).1;simpa using this
  obtain⟨k',x',b1,b2⟩:=a2 i u (by simpa using J);obtain⟨u',yI⟩:=KV.key rel e1;rw[b1]at yI;cases yI;exact iu b2
def q0i(T:p.K=X.K)(hc:X.calm=Qb)(hu:X.A.units+64<cLine):BS X p sub .sorted (.builtin "sorted"):=by
 intro E pins s Y H os d r v u I t rv q h;cases hi:jC d with
 |qC=>exact absurd (show(jC d).bind _=.ok r from h) (by rw[hi];intro z;cases z)
 |err c=>exact absurd (show(jC d).bind _=.ok r from h) (by rw[hi];intro z;cases z)
 |ok ds=>
  have h':(if ko ds then R.ok (D.qA (jy ds))else .qC)=.ok r:=by rw[<-h];show _=(jC d).bind _;rw[hi];rfl
  split at h'
  .rename_i so;cases h';obtain⟨F,kd⟩:=b9 so;refine qd (su (E:=E) T hc (A:=X.A.in1) (I.ok.hd hc) I rv q hi) λvs J hz W=>?_;refine qy.ri (Gv:=λus=>Vals vs us) F.len F.ord (λus b=>by rw[<-b.length,<-J.length]) W (λus b h2 h' tk k=>?_) λus q D h' tk e b P U k nD g=>?_
   .exact Oc (by show X.A.units+1+1+8<cLine;lia) F kd ((Fg k).2 _ _ ((wU T I).2 ds vs us (J.mono zG) b)) h2
   .rw[<-AD F P U];exact lr I t J b hz P rfl k nD g
  .cases h'
def Xp(B:Heap)(l:List JM)(e:Addr)(cls a0 fl:Value)(h:Heap):Prop:=B.StaysIn h/\B.get? e=Qc/\h.FunFrames B l/\h.TracedAtW B e cls a0 fl
section
variable{l:List JM}{e L:Addr}{cls:Value}
def AN{o:Option Addr}(h:Xp B l e cls a0 fl s.heap)(hQ:∀h',Xp B l e cls a0 (o.elim Jt λf=>VI f) h'->s.heap.UpToSlots h'->Q () {s with heap:=h'}):wpAny M A (setFlight (.ref e) o) Q E s:=by
 obtain⟨k1,k2,k3,oe,vs,T,oT,ts,J,g2,U,W,g5,g6,I,F,g9⟩:=h;have sz:=(WV.mp g9).1;generalize hv:(o.elim Jt λf=>VI f)=fv at hQ;have k:∀b,b≠T->(s.heap.update T (Obj.mapFields λx=>x.setIfInBounds 3 fv)).get? b=s.heap.get? b:=λb nb=>JX _ _ (JK nb);have oS:∀b x,s.heap.get? b=Qa x->(∀vs,x.data≠.fields vs)->b≠T:=λb x q g z=>by rw[z,I]at q;cases q;exact g ts F
 unfold setFlight;refine Qe (Vg J U W ?_);rw[if_pos (by simp),hv];refine V8 I F sz (hQ _ #[λb x q=>(k b λz=>by rw[z,g5]at q;exact nS q).trans (k1 b x q),k2,k3.of_keeps λb x q g=>#[x,(k b (oS b x q g)).trans q,rfl],?_] λb x q g=>#[x.slots,(k b (oS b x q g)).trans q]);exact#[oe,vs,T,_,_,(k e (JK g6)).trans J,g2,U,W,g5,g6,Uj _ I (VC (YC F _)),YC F _,by simp[sz]]
def oQ(k:A.frames=Qa (env::outer))(hf:env.frame=Qa L)(h:Xp B (env::outer) e cls a0 fl s.heap)(b:fl=.none\/fl=VI L)(g:∀h',Xp B (env::outer) e cls a0 (VI L) h'->s.heap.UpToSlots h'->Q () {s with heap:=h'}):
  wpAny M A (Zg (.ref e) env) Q E s:=by
 rcases b with rfl|rfl
 .exact wpAny_looks_onW k hf h g
 .exact wpAny_noteFrame_againW hf h.2.2.2 (g s.heap h (Heap.UpToSlots.refl _))
def q5N{args:List Value}(F:A.frames=Qa (env::outer))(hf:env.frame=Qa L)(z:B.StaysIn h)(hl:h.FunFrames B (env::outer))(g:Heap.MadeExcOf h s.heap e cls args)
  (J:∀h' t,Xp B (env::outer) e cls (.ref t) (VI L) h'->s.heap.UpToSlots h'->Q () {s with heap:=h'}):wpAny M A (Zg (.ref e) env) Q E s:=by
 refine qd g.there λt k g2 g3=>?_;have ne:B.get? e=Qc:=by
  cases q:B.get? e with
  |none=>rfl
  |some o=>have:=z e o q;rw[g.new]at this;exact nS this
 unfold Zg;simp only[hf];refine Qe (Vg k rfl (x:=.none) rfl ?_);rw[if_neg (by decide)];refine wpAny_entryW F (hl.of_keeps λb o q _=>#[o,g.keeps b o q,rfl]) hf k (λb o q=>g.keeps b o (z b o q)) ne rfl (by simp) rfl λh' I=>?_;refine vf I λT U W n4=>?_;exact J h' t #[T,ne,U,W] n4
end
def gN(ok:X.Ok):∀b∈X.fs,b∈jM X.stack:=λb hb=>by
 rcases ok.w9 with e|⟨e,hf⟩
 .rw[e];exact hb
 .rw[e];unfold jM;rw[Jg,hf];exact Qd _ hb
def TY(I:Inv X pins Y H s)(b:BOk X pins H B)(st:B.StaysIn h')(J:s.heap.UpToSlots h'):Inv X pins Y H {s with heap:=h'}:=by
 have U:∀c o,X.s₀.heap.get? c=Qa o->c∉X.fs->c∉jM X.stack:=λc o e hc hm=>by
  rcases Ql.mp (I.ux c hm)with z|z
  .exact absurd (Qz (Qx e) I.ok.above) (by rw[z];exact Jx _)
  .exact hc z
 have slot:∀c o,X.s₀.heap.get? c=Qa o->X.H₀ c=Qc->c∈X.fs->c∉X.ex->∃sl,h'.get? c=Qa {o with slots:=sl}:=λc o e n hc F=>by obtain⟨sl,e1⟩:=I.base.slot c o e n hc F;obtain⟨_,o',vv,yg⟩:=I.ok.funs.mem hc;rw[e]at vv;cases vv;obtain⟨au,g⟩:=J c _ e1 yg;exact#[au,g]
 have T:∀c v,s.heap.IsCell c v->h'.IsCell c v:=λc v zz=>qH zz λo e d=>by
  obtain⟨sl,g⟩:=J c o e λvs z=>by rw[d]at z;cases z
  exact#[_,g,d]
 refine#[I.ok,I.os,I.bare,#[λc o e n hc F=>?_,slot,I.base.free,λc o e F=>?_,I.base.yy,I.base.yB,I.base.yx],?_,λx c e=>?_,I.free,I.ky,λq W=>?_,(b.qO.kept st),I.len]
 .exact st _ _ (b.keep c o e n (U c o e hc) F)
 .by_cases hc:c∈X.fs
  .obtain⟨sl,g⟩:=slot c o e (I.ok.xy c hc) hc F;exact#[_,g]
  .obtain⟨o',g⟩:=b.there c o e (U c o e hc) F;exact#[_,st _ _ g]
 .refine qH I.loc λm hn hl=>?_;refine#[m,J.ns hn,λi x v e1 g e3=>?_];refine qH (hl i x v e1 g e3) λu r l=>?_;refine#[u,r,?_];rcases l with l|⟨k,c,e,z⟩
  .exact .inl l
  .exact .inr #[k,c,e,T c _ z]
 .obtain⟨v,z⟩:=I.cell x c e;exact#[v,T c v z]
 .refine y9 (I.pin q W) λ_ n ne nf d=>?_;exact#[st _ _ (b.pin q W),n,ne,nf,d]
def TK(X:Cx)(h:Heap):Heap:=PySem.W.hideAll h (jM X.stack)
def En{o:Obj}(e:h.get? b=Qa o)(n:b∉jM X.stack):(TK X h).get? b=Qa o:=ZD _ e n
def q69{o:Obj}(e:(TK X h).get? b=Qa o):h.get? b=Qa o:=ZM _ e
def q36(hb:b∈jM X.stack):(TK X h).get? b=Qc:=Zu _ hb
def cq(I:Inv X pins Y H s):BOk X pins H (TK X s.heap):=by
 have k:∀b o,H b=Qa o->b∉jM X.stack:=λb o e J=>by rw[I.bC b J]at e;exact nS e
 refine#[λa o e=>?_,λb o e n hb g=>?_,λb o e hb g=>?_,λq T=>?_]
 .refine (I.qO a o e).xa (λc v hc q=>En q ?_) (λ_ q=>q) (λ_ _ q=>q) λ_ _ _ q=>q;rcases hc with rfl|hc
  .exact k _ _ e
  .exact k _ _ hc
 .exact En (I.base.keep b o e n (λz=>hb (gN I.ok b z)) g) hb
 .obtain⟨o',F⟩:=I.base.there b o e g;exact#[o',En F hb]
 .refine y9 (I.pin q T) λe n ne U d=>?_;refine En e λz=>?_;rcases Ql.mp (I.ux _ z)with z|z
  .exact ne z
  .exact U z
def q35(I:Inv X pins Y H s):s.heap.FunFrames (TK X s.heap) X.stack:=by
 have all:∀l:List JM,(∀b∈jM l,b∈jM X.stack)->s.heap.FunFrames X.base l->s.heap.FunFrames (TK X s.heap) l:=by
  intro l
  induction l with
  |nil=>intro _ _;trivial
  |cons env r J=>
   intro hs hl;obtain⟨k,⟨L,o,hf,T,z,hd⟩,F⟩:=hl;have g:=hs L (by unfold jM;rw[Jg,hf];exact Qg);exact#[k,#[L,o,hf,q36 g,z,hd],J (λb hb=>hs b (by unfold jM;rw[Jg,hf];exact Qd _ hb)) F]
 exact all X.stack (λ_ hb=>hb) I.stack
structure Top(X:Cx):Prop where
 w9:X.stack=X.env::X.outer
 frame:X.env.frame=Qa X.env.locals
theorem Top.frames(T:Top X)(ok:X.Ok):X.A.frames=Qa (X.env::X.outer):=by rw[ok.frames,T.w9]
def Se{E:NZ}{Q:Unit->Shared->Prop}{e:Value}(T:Top X)(m:wN X p pins Y H c e s)
  (F:∀H' a C B t h',e=.ref a->p.cls[c]?=Qa C->Ext H H'->Inv X pins Y H' {s with heap:=h'}->BOk X pins H' B->Xp B X.stack a (.ref C) (.ref t) (VI X.env.locals) h'->Q () {s with heap:=h'}):wX X (Zg e X.env) Q E s:=by
 obtain⟨H',a,C,rfl,k,z,U⟩:=m;rcases U with⟨s1,vs,I,mk,es⟩|⟨B,t,I,b,f⟩|⟨B,t,L,J,I,b,f⟩
 .
  refine q5N (B:=TK X s1.heap) (T.frames I.ok) T.frame (λb o e=>q69 e) (T.w9▸q35 I) mk λh' t tr g=>?_;have hs:({s with heap:=h'}:Shared)={s1 with heap:=h'}:=by rw[es]
  refine F H' a C _ t h' rfl k z ?_ (cq I) (T.w9▸tr);rw[hs];exact TY I (cq I) tr.1 ((Heap.UpToSlots.of_keeps mk.keeps).trans g)
 .refine oQ (fl:=.none) (T.frames I.ok) T.frame (T.w9▸f) (.inl rfl) λh' tr g=>?_;exact F H' a C B t h' rfl k z (TY I b tr.1 g) b (T.w9▸tr)
 .rw[T.frame]at J;cases J;refine oQ (fl:=VI X.env.locals) (T.frames I.ok) T.frame (T.w9▸f) (.inr rfl) λh' tr g=>?_;exact F H' a C B t h' rfl k z (TY I b tr.1 g) b (T.w9▸tr)
def nh{e:Value}{P:NZ}(T:Top X)(m:wN X p pins Y H c e s)(hP:∀s',wN X p pins Y H c e s'->P e s'):notedBy (model X.prog X.w) X.A X.env (cameBackBy (model X.prog X.w) X.A X.env P) e s:=by refine Se T m λH' a C B t h' e1 z F I b tr=>?_;subst e1;obtain⟨_,_,_,oe,vs,T',oT,ts,J,g2,U,W,_⟩:=id tr;unfold cameBackBy;refine Qe (Vg J U W ?_);rw[if_neg (by simp),T.frame];refine AN tr λh2 g k=>?_;exact hP _ #[H',a,C,rfl,z,F,.inr (.inr #[B,t,_,T.frame,TY I b g.1 k,b,g])]
def Fn{r:RS}(T:Top X):U1 (model X.prog X.w) X.A X.env (Es X p H0 O0 pins r):=λe s h=>by refine wF h λc ρ' b F H' g k m=>?_;exact nh T m λs' z=>#[c,ρ',b,F,H',g,k,z]
def zk(P:Program)(w:World):uO:=λouter H s E e s'=>∃H' a C B t,e=.ref a/\E e (Qa C) H'/\Ext H H'/\s'.os=s.os/\AllBare s'.gens/\zc P w H' B/\(∀b o,s.heap.get? b=Qa o->H b=Qc->b∉jM outer->B.get? b=Qa o)/\
 (∀b o,s.heap.get? b=Qa o->H b=Qc->H' b=Qc)/\(∀b o,s.heap.get? b=Qa o->H b=Qc->b∈jM outer->∃sl,s'.heap.get? b=Qa {o with slots:=sl})/\Heap.FlyingW B outer a (.ref C) (.ref t) s'.heap
abbrev FX(X:Cx):=FnOk X.prog X.w X.K X.mg X.base (zk X.prog X.w)
def Sd{e:Value}(T:Top X)(gy:X.ex=[])(m:wN X p pins Y H c e s)(J:Ext X.H₀ H)
  (hE:∀C H',p.cls[c]?=Qa C->Ext X.H₀ H'->Ex e (Qa C) H') (hQ:∀s',zk X.prog X.w X.outer X.H₀ X.s₀ Ex e s'->Q () s'):wX X (leaving X.env e) Q E s:=by
 unfold leaving;refine Qe (Se T m λH' a C B t h' e1 W F I b tr=>?_);subst e1;refine AN tr λh2 k U=>hQ _ ?_;have g:=TY I b k.1 U;have nx:∀b,b∉X.ex:=λb=>by rw[gy];simp
 obtain⟨k1,k2,⟨_,_,k3⟩,k4⟩:=(T.w9▸k)
 refine#[H',a,C,B,t,rfl,hE C H' W (J.trans F),J.trans F,g.os,g.bare,b.qO,λc o q n hc=>?_,λc o q n=>g.base.free c o q n (nx c),λc o q n hc=>g.base.slot c o q n hc (nx c),k1,k2,k3,k4];refine b.keep c o q n (λhm=>?_) (nx c);rcases Ql.mp (g.ux c hm)with z|z
 .exact absurd (Qz (Qx q) g.ok.above) (by rw[z];exact Jx _)
 .exact hc z
def Gn{e:Value}(I:Inv X pins Y H s)(h:zk X.prog X.w X.stack H s Ex e s')(hE:∀C H',Ex e (Qa C) H'->p.cls[c]?=Qa C):wN X p pins Y H c e s':=by
 obtain⟨H',a,C,B,t,rfl,W,g,h3,h4,T,k,h7,U,F⟩:=h;have qO:=T.kept F.1;have un:Un (jM X.stack) [] H H' s.heap s'.heap:=by
  refine#[λb o q n hb _=>F.1 _ _ (k b o q n hb),λb o q n hb _=>U b o q n hb,λb o q n _=>h7 b o q n,λb o q _=>?_,λb xs q=>g _ _ q,λb o u q=>g _ _ q,λb ps q=>#[#[],by rw[g _ _ q];simp]];cases n:H b with
  |some u=>exact Gy (qO b u (g _ _ n))
  |none=>
   by_cases hb:b∈jM X.stack
   .obtain⟨sl,e⟩:=U b o q n hb;exact#[_,e]
   .exact#[_,F.1 _ _ (k b o q n hb)]
 refine#[H',a,C,rfl,hE C H' W,g,.inr (.inl #[B,t,(I.Ig h3 un qO h4 (λb z=>absurd z (by simp))),#[T,λb o q n hb J=>?_,λb o q hb J=>?_,λq hq=>?_],F])]
 .exact k b o (I.base.keep b o q n (λz=>hb (gN I.ok b z)) J) (I.base.free b o q n J) hb
 .obtain⟨o',q'⟩:=I.base.there b o q J;cases n:H b with
  |some u=>exact Gy (T b u (g _ _ n))
  |none=>exact#[_,k b o' q' n hb]
 .refine y9 (I.pin q hq) λq1 n ne nf d=>?_;refine k _ _ q1 n λz=>?_;rcases Ql.mp (I.ux _ z)with z|z
  .exact ne z
  .exact nf z
def wK(p:Pm)(G:Nat->List D->R D)(f n:Nat):Sp:=λvs H Q E=>∃ds O,vs.length=n/\O.Nodup/\Th O H/\qK p (fz O H) ds vs/\G f ds≠.qC/\
 (∀r v H',G f ds=.ok r->Ext H H'->Rep p (fz O H') r v->Q v H')/\(∀c C H' e,G f ds=.err c->p.cls[c]?=Qa C->Ext H H'->E e (Qa C) H')
def Xg(p:Pm)(G:Nat->List D->R D)(f n:Nat):Sp:=λvs H Q E=>∃ds O,vs.length=n/\O.Nodup/\Th O H/\qK p (fz O H) ds vs/\G f ds≠.qC/\
 (∀xs a ys H',G f ds=.ok (.qA xs)->Ext H H'->H a=Qc->H' a=Qa (.qA ys)->qK p (fz (a::O) H') xs ys->Q (.ref a) H')/\(∀c C H' e,G f ds=.err c->p.cls[c]?=Qa C->Ext H H'->E e (Qa C) H')
def AJ{k:Nat}(F:FX X k f fd ps (wK p G j ps.length))
  (hr:Room k X.A) (hb:Binds X.K fd ps []) (I:Inv X pins Y H s) (r:Vals vs us) (nd:O.Nodup) (t:Th O H) (q:qK p (fz O H) ds vs) (hl:ds.length=ps.length) (hs:G j ds≠.qC):
  wX X (call (.ref f) us) (λu s'=>∃d v H',G j ds=.ok d/\Inv X pins Y H' s'/\RelV v u/\Ext H H'/\Rep p (fz O H') d v) (Er X p pins Y H (G j ds)) s:=by
 have W:vs.length=ps.length:=by rw[<-q.length];exact hl
 have Tz:wK p G j ps.length vs H (λv H'=>∃d,G j ds=.ok d/\Ext H H'/\Rep p (fz O H') d v) (λe C H'=>∃c g,G j ds=.err c/\C=Qa g/\p.cls[c]?=Qa g):=
  #[ds,O,W,nd,t,q,hs,λr v H' e x w=>#[r,e,x,w],λc C H' e z T _=>#[c,C,z,rfl,T]]
 have U:=hb s us I.jN (by rw[Ja,<-r.length];exact W);rw[Ja]at U;refine U6 (Y3 (F.run X.A X.stack s H #[us,[]] us vs _ _ hr I.EL U r Tz) λrr s' b=>?_);cases rr with
 |error e=>
  have b:zk X.prog X.w X.stack H s (λe C H'=>∃c g,G j ds=.err c/\C=Qa g/\p.cls[c]?=Qa g) e s':=b;obtain⟨H',a,C,B,tt,h0,⟨c,g,z,T,h3⟩,TU⟩:=id b;exact#[c,z,Gn I b λC2 H2 zz=>qN zz λc2 C3 J g2 g3=>by rw[z]at J;cases J;cases g2;exact g3]
 |ok fl=>
  cases fl with
  |ret u=>
   refine EJ (I.after b) λv H' I' rv d e x w=>?_;exact#[d,v,H',e,I',rv,x,w]
  |next=>exact JC b
  |brk=>exact JC b
  |cont=>exact JC b
def q7i{k:Nat}(F:FX X k f fd ps (Xg p G j ps.length))
  (hr:Room k X.A) (hb:Binds X.K fd ps []) (I:Inv X pins Y H s) (r:Vals vs us) (nd:O.Nodup) (t:Th O H) (q:qK p (fz O H) ds vs) (hl:ds.length=ps.length) (hs:G j ds≠.qC):
  wX X (call (.ref f) us) (λu s'=>∃xs a ys H',G j ds=.ok (.qA xs)/\Inv X pins Y H' s'/\u=.ref a/\Ext H H'/\H a=Qc/\H' a=Qa (.qA ys)/\qK p (fz (a::O) H') xs ys) (Er X p pins Y H (G j ds)) s:=by
 have yE:vs.length=ps.length:=by rw[<-q.length];exact hl
 have Tz:Xg p G j ps.length vs H (λv H'=>∃xs a ys,v=.ref a/\G j ds=.ok (.qA xs)/\Ext H H'/\H a=Qc/\H' a=Qa (.qA ys)/\qK p (fz (a::O) H') xs ys) (λe C H'=>∃c g,G j ds=.err c/\C=Qa g/\p.cls[c]?=Qa g):=
  #[ds,O,yE,nd,t,q,hs,λxs a ys H' e x n h w=>#[xs,a,ys,rfl,e,x,n,h,w],λc C H' e z U _=>#[c,C,z,rfl,U]]
 have W:=hb s us I.jN (by rw[Ja,<-r.length];exact yE);rw[Ja]at W;refine U6 (Y3 (F.run X.A X.stack s H #[us,[]] us vs _ _ hr I.EL W r Tz) λrr s' b=>?_);cases rr with
 |error e=>
  have b:zk X.prog X.w X.stack H s (λe C H'=>∃c g,G j ds=.err c/\C=Qa g/\p.cls[c]?=Qa g) e s':=b;obtain⟨H',a,C,B,tt,h0,⟨c,g,z,U,h3⟩,TU⟩:=id b;exact#[c,z,Gn I b λC2 H2 zz=>qN zz λc2 C3 T g2 g3=>by rw[z]at T;cases T;cases g2;exact g3]
 |ok fl=>
  cases fl with
  |ret u=>
   refine qN (I.after b) λv H' I' rv J=>?_;refine qY J λxs a ys ev e x n J=>?_;obtain⟨h,w⟩:=J;subst ev;exact#[xs,a,ys,H',e,I',rv,x,n,h,w]
  |next=>exact JC b
  |brk=>exact JC b
  |cont=>exact JC b
theorem ay{H Hf:Hp}:∀(n:Nat),ju p H Hf (Qj n Qc) (Qj n Qc) (Qj n [])
 |0=>trivial
 |n+1=>#[Qc,Qj n Qc,[],Qj n [],rfl,rfl,rfl,ay n]
def q1u(n:Nat)(O:List Addr):(Qj n []++[O]).flatten=O:=by simp
def IM(nd:O.Nodup)(t:Th O H)(q:qK p (fz O H) ds vs)(hl:vs.length<=N.length):
  Bd p H O (zV ds++Qj (N.length-ds.length) Qc) (L2.start N vs) (Qj N.length []) H:=by
 have e:=q.length;have f:(Qj N.length []++[O]).flatten=O:=q1u _ _;refine#[#[by rw[f];exact nd,by rw[f];exact t,?_],?_,?_,Ext.refl _,λa g=>absurd g (by simp)]
 .rw[f];have h:=AR (more:=[O]) (AS (p:=p) (H:=H) (Hf:=fz O H) (ay (N.length-ds.length)) q);have b:Qj ds.length ([]:List Addr)++Qj (N.length-ds.length) []=Qj N.length []:=by rw[Wt];congr 1;lia
  rw[b]at h;unfold L2.start;rw[<-e];exact h
 .simp[zV];lia
 .simp[zV,L2.start];lia
def q1y{k:Nat}{kV ct:Value}
  {kg:Array (Option Value)}{N ps:List Str}{G':Nat->List D->R D}{l:List S}(lk:K.lookup f=Qa #[oc,od,.func (Jj name qual params body scope dV kV doc pm an zC ct),kg]) (zE:Yj K zC qual=Qb) (S:FnScope N ps scope)
  (hG:∀ds,G j ds≠.qC->ds.length=ps.length->G j ds=Ev.run G' sub N.length l ds)
  (yc:∀(A:Around)(outer:List JM)(s:Shared)(H:Hp)(E:XK),Room k (A.deeper (U2 qual scope s.heap.objs.size f zC))->Env0 P w K mg base A outer s H->je (kR (zk P w) P w K mg base N qual scope f zC A outer s H E) p G' sub body l):
  FnOk P w K mg base (zk P w) (k+1) f (Jj name qual params body scope dV kV doc pm an zC ct) ps (wK p G j ps.length):=by
 refine#[λvs H Q E h=>h.choose_spec.choose_spec.1,λA outer s H args us vs Q E W I hb r zt=>?_];refine EI zt λds O hl nd t q ns q1 q2=>?_;have KX:K.In s.heap:=I.mod.vA.keeps λb o e=>(I.bs b o e).1;have TL:∀y∈ps.zip us,scope.names.lookup y.1=Qa .local\/(scope.names.lookup y.1=Qa .cell/\((Wc (s.heap.objs.size+1) scope.names []).lookup y.1).isSome=Qb):=λ⟨n,v⟩ hy=>by
  rcases S.par n (Y1 hy).1 with q|q
  .exact .inl q
  .exact .inr #[q,Ys _ _ _ (.inl q)]
 refine Uy W.depth (KX _ _ lk) rfl S.co S.gen rfl (UC KX zE) (hb _ _ _ _ ?_);refine YZ S.kind TL λenv he s1 x=>?_;subst he;refine#[(I.mod.nolimit.keeps λb o e=>(I.bs b o e).1).keeps x.toInCall.keep,WW ?_];have kW:ps.length<=N.length:=by have:=congrArg Yu S.pre;rw[J3]at this;lia
 have ua:=hG ds ns (by rw[q.length];exact hl);rw[ua]at ns q1 q2;unfold Ev.run at ns q1 q2;have T:Top (kR (zk P w) P w K mg base N qual scope f zC A outer s H E):=#[rfl,rfl]
 generalize F:qL G' sub l (zV ds++Qj (N.length-ds.length) Qc)=r0 at ns q1 q2;refine Qh (yc A outer s H E (W.deeper _) I H O _ (Fn (p:=p) (H0:=H) (O0:=O) (pins:=[]) (r:=r0) T) [] s1 _ H _ _ (G7 S W.hd I hl r x) (IM (N:=N) nd t q ∅) (by rw[F];exact(λe=>ns (by rw[e]))) (λe s' z=>by rw[F]at z;exact z)) (λfl s' hs=>?_) λe s' hs=>?_
 .rw[F]at hs;refine wY hs λρ' Fu Y' qg H' e1 J g r'=>?_;subst e1;cases Fu<;>cases fl<;>first|exact r'.elim|skip
  .exact#[.qI,H',g.os,g.bare,g.base,g.qO,rfl,q1 .qI .qI H' rfl J.ext rfl]
  .cases ns rfl
  .cases ns rfl
  .refine qH r' λv rv w'=>?_;exact#[v,H',g.os,g.bare,g.base,g.qO,rv,q1 _ v H' rfl J.ext w']
  .cases ns rfl
 .refine wF hs λc ρ' Y' qg H' e1 J m=>?_;subst e1;exact Sd T rfl m J.ext (λC H2 h1 U=>q2 c C H2 e rfl h1 U) λs2 U=>U
def q21{k:Nat}{kV ct:Value}
  {kg:Array (Option Value)}{N ps:List Str}{G':Nat->List D->R D}{l:List S}(lk:K.lookup f=Qa #[oc,od,.func (Jj name qual params body scope dV kV doc pm an zC ct),kg]) (zE:Yj K zC qual=Qb) (S:FnScope N ps scope)
  (hG:∀ds,G j ds≠.qC->ds.length=ps.length->G j ds=Ev.Tt G' sub N.length l ds)
  (yc:∀(A:Around)(outer:List JM)(s:Shared)(H:Hp)(E:XK),Room k (A.deeper (U2 qual scope s.heap.objs.size f zC))->Env0 P w K mg base A outer s H->je (kR (zk P w) P w K mg base N qual scope f zC A outer s H E) p G' sub body l):
  FnOk P w K mg base (zk P w) (k+1) f (Jj name qual params body scope dV kV doc pm an zC ct) ps (Xg p G j ps.length):=by
 refine#[λvs H Q E h=>h.choose_spec.choose_spec.1,λA outer s H args us vs Q E W F hb r zt=>?_];refine EI zt λds O hl nd t q ns q1 q2=>?_;have KX:K.In s.heap:=F.mod.vA.keeps λb o e=>(F.bs b o e).1;have TL:∀y∈ps.zip us,scope.names.lookup y.1=Qa .local\/(scope.names.lookup y.1=Qa .cell/\((Wc (s.heap.objs.size+1) scope.names []).lookup y.1).isSome=Qb):=λ⟨n,v⟩ hy=>by
  rcases S.par n (Y1 hy).1 with q|q
  .exact .inl q
  .exact .inr #[q,Ys _ _ _ (.inl q)]
 refine Uy W.depth (KX _ _ lk) rfl S.co S.gen rfl (UC KX zE) (hb _ _ _ _ ?_);refine YZ S.kind TL λenv he s1 x=>?_;subst he;refine#[(F.mod.nolimit.keeps λb o e=>(F.bs b o e).1).keeps x.toInCall.keep,WW ?_];have kW:ps.length<=N.length:=by have:=congrArg Yu S.pre;rw[J3]at this;lia
 have ua:=hG ds ns (by rw[q.length];exact hl);rw[ua]at ns q1 q2;unfold Ev.Tt at ns q1 q2;have T:Top (kR (zk P w) P w K mg base N qual scope f zC A outer s H E):=#[rfl,rfl]
 generalize g:qL G' sub l (zV ds++Qj (N.length-ds.length) Qc)=r0 at ns q1 q2;refine Qh (yc A outer s H E (W.deeper _) F H O _ (Fn (p:=p) (H0:=H) (O0:=O) (pins:=[]) (r:=r0) T) [] s1 _ H _ _ (G7 S W.hd F hl r x) (IM (N:=N) nd t q ∅) (by rw[g];exact(λe=>ns (by rw[e]))) (λe s' z=>by rw[g]at z;exact z)) (λfl s' hs=>?_) λe s' hs=>?_
 .rw[g]at hs;refine wY hs λρ' Fu Y' qg H' e1 J I r'=>?_;subst e1;cases Fu<;>cases fl<;>first|exact r'.elim|skip
  .cases ns rfl
  .cases ns rfl
  .cases ns rfl
  .cases ns rfl
  .refine qY r' λa xs ys qw qx z3 z4 z5=>?_;subst qw qx;exact#[.ref a,H',I.os,I.bare,I.base,I.qO,rfl,q1 xs a ys H' rfl J.ext z3 z4 z5]
 .refine wF hs λc ρ' Y' qg H' e1 J m=>?_;subst e1;exact Sd T rfl m J.ext (λC H2 h1 U=>q2 c C H2 e rfl h1 U) λs2 U=>U
def q99{Q:VK}{E:XK}{f:Nat}(h:wK p G f n vs H Q E):Xg p G f n vs H Q E:=by refine EI h λds O k z g F I J T=>?_;refine#[ds,O,k,z,g,F,I,λxs a ys H' e x W U r=>J _ _ H' e x #[a,ys,rfl,zM.of (kB U λm=>?_),r.mono (ya λb hb=>Qd _ hb)],T];obtain⟨o,e⟩:=g a m;rw[W]at e;exact nS e
def JP(X:Cx)(e:Qs)(y:Str):Prop:=∀(E:NZ)(pins:List (Addr×Obj))(Y:L2.St)(H:Hp)(s:Shared),Inv X pins Y H s->
 wX X (Je e X.env) (λu s'=>(∃t,u=.str y t)/\Inv X pins Y H s') E s
def SM(X:Cx)(e:Qs):Prop:=∀(E:NZ)(pins:List (Addr×Obj))(Y:L2.St)(H:Hp)(s:Shared),Inv X pins Y H s->
 wX X (Je e X.env) (λu s'=>Inv X pins Y H s') E s
def q45:JP X (.Constant (.str x) j pos) x:=λE pins Y H s I=>
 Calls.Constant_str #[#[_,rfl],I.tok _]
def q44{a:Int}{t:Tok}(b:Gl X x)(g:X.mg x=Qa (.int a t))(hd:nD x)(hl:a.natAbs.log2<1920):JP X (.FormattedValue (.Name x q) (-1) Qc pos) (toString a):=λE pins Y H s I=>
 PyProof.Rows.FormattedValue_plain (xP I b g (PyProof.Rows.formatField_int_small hl #[#[_,rfl],I.tok _]) hd)
def DR{out:Str}{Q:NZ}(g:JP X e y)(I:Inv X pins Y H s)(k:(out++y).length<=QD)
  (h:∀s',Inv X pins Y H s'->wX X (joinParts (out++y) rest) Q E s'):wX X (joinParts out (Je e X.env::rest)) Q E s:=
 PyProof.Rows.joinParts_cons (Qh (g E pins Y H s I) (λu s'⟨⟨t,e⟩,b⟩=>by subst e;exact#[k,h s' b]) λ_ _ z=>z)
def q95{a b:Qs}(J:JP X a x)(hb:JP X b y)(F:(Ve++x).length<=QD)(g:(Ve++x++y).length<=QD):SM X (.JoinedStr [a,b] pos):=λE pins Y H s I=>
 VW (DR J I F λs1 k=>DR hb k g λs2 z=>V3 (z.tok _) g)
def q94{z:Str}{a b c:Qs}(W:JP X a x)(hb:JP X b y)(hc:JP X c z)(T:(Ve++x).length<=QD)(U:(Ve++x++y).length<=QD)(g:(Ve++x++y++z).length<=QD):SM X (.JoinedStr [a,b,c] pos):=λE pins Y H s I=>
 VW (DR W I T λs1 k=>DR hb k U λs2 F=>DR hc F g λs3 J=>V3 (J.tok _) g)
def q9U{C:Addr}{bm:List Value}{W k B:String}{a:Qs}{np J:WD}(hc:X.calm=Qb)(hg:Gl X x)(O:OwnCls x C bm W X.mg X.base)(F:ExcBaseFacts B W k bm)(wG:p.cls[c]?=Qa C)(ha:SM X a)
  (hd:nD x) (qe:QM [a] X.env=[(Qf,Je a X.env)]):SS X p G sub (.Raise (Qa (.Call (.Name x np) [a] [] J)) Qc pos) (.raise c):=by
 intro H0 O0 E hp pins s Y H Z os I B hs U;have e0:ex G sub (.raise c) Z=.err c Z:=rfl;rw[e0]at U|-;obtain⟨tl,N,nm,q,bs,hdct,sn,sb,ab,col,dd,k0,k1,k2,k3,k5,mN,hC,hN,g,T⟩:=O.obj;refine wpAny_Raise_call_subT (C:=C) (nm:=nm) (q:=q) (N:=N) (bs:=bs) (bm:=tl) (hdct:=hdct) (sn:=sn) (sub:=sb) (ab:=ab) (col:=col) (dd:=dd) (k0:=k0) (k1:=k1) (k2:=k2) (k3:=k3) (k5:=k5)
  F (mN:=mN) (T.hasType F.hasBase) (I.ok.hd hc) (by rw[qe];rfl) g (xP I hg O.bound #[rfl,?_] hd)
 rw[qe];refine YL ?_;show wpAny _ _ (VM ((Qf,Je a X.env)::Yk J [])) _ _ s;refine Q4 (Qh (ha E pins Y H s I) (λu s1 b=>?_) λ_ _ z=>z);refine Jl #[rfl,show 1<=QD by rw[Q6];decide,b.bk _ _ hC,hN.keeps b.bk,T.keeps b.bk,λh' e mk=>?_];exact U _ _ #[c,Z,Y,os,H,rfl,B,H,e,C,rfl,wG,Ext.refl _,.inl #[s1,_,b,mk,rfl]]
noncomputable def mk(X:Cx)(e:Addr):Cx:={X with A:=X.A.mark (Qa (.ref e)),calm:=Qf}
def ic{e:Addr}(I:Inv X pins Y H s):Inv (mk X e) pins Y H s:=
 #[#[I.ok.mod,I.ok.kind,I.ok.glob,I.ok.blt,I.ok.above,I.ok.inj,I.ok.has,I.ok.Xx,λz=>(nomatch z),I.ok.frames,I.ok.w9,I.ok.EZ,I.ok.bs,I.ok.yX,I.ok.Te,I.ok.RW,I.ok.funs,I.ok.xy],I.os,I.bare,I.base,I.loc,I.cell,I.free,I.ky,I.pin,I.qO,I.len]
def q3Z{C:Addr}(I:Inv X pins Y H s)(b:BOk X pins H B)(tr:Xp B X.stack a (.ref C) a0 fl s.heap):
  H a=Qc/\Inv X pins Y (upd H a (.ext (u7 a C))) s:=by
 obtain⟨k1,k2,k3,oe,vs,T,oT,ts,J,g2,W,_⟩:=tr;have F:=Ey b.qO k2;have Gx:a∉jM X.stack:=λhm=>by obtain⟨_,o,g,hd⟩:=k3.mem hm;rw[J]at g;cases g;exact hd _ W
 have n0:∀o,X.s₀.heap.get? a=Qa o->a∉X.ex->False:=λo e U=>by obtain⟨o',e'⟩:=b.there a o e Gx U;rw[k2]at e';exact nS e'
 have qO:zc X.prog X.w (upd H a (.ext (u7 a C))) s.heap:=λc u e=>by
  by_cases hc:c=a
  .subst hc;rw[zb]at e;cases e;exact#[#[oe,J,g2.1],#[oe,J],λh1 h2 zz k=>qH zz λo e1 e2=>#[o,k o e1,e2]]
  .rw[qW hc]at e;exact(I.qO c u e).xa (λ_ _ _ q=>q) (λd q=>by rw[qW (jE q F)];exact q) (λd xs q=>by rw[qW (jE q F)];exact q) λd _ xs q=>by rw[qW (jE q F)];exact q
 refine#[F,I.ok,I.os,I.bare,#[I.base.keep,I.base.slot,λc o e n U=>?_,I.base.there,λc xs e=>?_,λc o u e=>?_,λc ps e=>?_],I.loc,I.cell,?_,λx c e=>?_,λq hq=>?_,qO,I.len]
 .rw[qW λz=>by rw[z]at e U;exact n0 o e U];exact I.base.free c o e n U
 .have:=I.base.yy c xs e;rw[qW (jE this F)];exact this
 .have:=I.base.yB c o u e;rw[qW (jE this F)];exact this
 .obtain⟨more,this⟩:=I.base.yx c ps e;exact#[more,by rw[qW (jE this F)];exact this]
 .rw[qW λz=>?_]
  .exact I.free
  .obtain⟨m,⟨o,es,ep,g,hd,_⟩,_⟩:=I.loc;rw[z,J]at g;cases g;rw[W]at hd;cases hd
 .rw[qW λz=>?_]
  .exact I.ky x c e
  .obtain⟨v,o,g,hd⟩:=I.cell x c e;rw[z,J]at g;cases g;rw[W]at hd;cases hd
 .refine y9 (I.pin q hq) λe n ne nf d=>?_;refine#[e,?_,ne,nf,d];rw[qW λz=>?_]
  .exact n
  .have:=b.pin q hq;rw[z,k2]at this;exact nS this
def name_goes(I:Inv X pins Y H s)(hN:X.N.Nodup)(hi:X.N[i]?=Qa x)(hl:X.env.scope.names.lookup x=Qa .local)
  (h:∀s',Inv X pins (Y.set i Qc) H s'->Q () s'):wX X (do bindName X.env x .none;unbindBehindTheSuite X.env x pos) Q E s:=by
 refine qH (id I.loc) λm T TM=>?_;have xB:=I.xB;refine wpAny_nameGoes_keeps hl T (by rw[I.ok.kind];rfl) λh' v W hs=>?_;obtain⟨oL,_,_,iA,_⟩:=id T;have qO:zc X.prog X.w H h':=λb ob e=>by
  refine(I.qO b ob e).xa (λc U hc q=>(hs.2 c ?_).trans q) (λ_ q=>q) (λ_ _ q=>q) λ_ _ _ q=>q;rintro rfl;rcases hc with rfl|hc
  .rw[I.free]at e;exact nS e
  .rw[I.free]at hc;exact nS hc
 have low:∀b o,X.s₀.heap.get? b=Qa o->b≠X.env.locals:=λb o e=>QQ (Qz (Qx e) I.ok.above);refine h _ #[I.ok,I.os,I.bare,#[λb o e n hb g=>?_,λb o e n hb g=>?_,I.base.free,λb o e g=>?_,I.base.yy,I.base.yB,I.base.yx],#[_,W,λj y v' e1 F e3=>?_],λy c e=>?_,I.free,I.ky,λq hq=>?_,qO,by simpa using I.len]
 .exact (hs.2 b (low b o e)).trans (I.base.keep b o e n hb g)
 .obtain⟨sl,e1⟩:=I.base.slot b o e n hb g;exact#[sl,(hs.2 b (low b o e)).trans e1]
 .obtain⟨o',e1⟩:=I.base.there b o e g;exact#[o',(hs.2 b (low b o e)).trans e1]
 .by_cases J:j=i
  .subst J;rw[Yv (by rw[I.len];exact(Qn.mp hi).1)]at F;cases F
  .rw[Yg (JK J)]at F;refine qH (TM j y v' e1 F e3) λu' r' q=>?_;refine#[u',r',?_];rcases q with⟨k,e⟩|⟨k,c,e,z⟩
   .refine .inl #[k,?_];have:y≠x:=λe=>J (Sy hN e1 (e▸hi));simp[this,e]
   .exact .inr #[k,c,e,z.sameBut hs (xB y c e)]
 .obtain⟨U,z⟩:=I.cell y c e;exact#[U,z.sameBut hs (xB y c e)]
 .refine y9 (I.pin q hq) λe n ne nf d=>?_;exact#[(hs.2 q.1 ne).trans e,n,ne,nf,d]
def q8c(l:List α)(i j:Nat)(a b c:α)(h:i≠j):((l.set i a).set j b).set i c=(l.set j b).set i c:=by rw[List.set_comm _ _ h,ZI]
def q9e{lb:List S}(T:Top X)(hN:X.N.Nodup)(hi:X.N[i]?=Qa x)(hl:X.env.scope.names.lookup x=Qa .local)(hj:X.N[j]?=Qa y)(hy:Loc X.env.scope y)(hfy:X.fn y=Qb\/X.env.scope.names.lookup y=Qa .local)
  (OM:x≠y) (hg:Gl X cn) (hm:X.mg cn=Qa (.ref Cc)) (OF:∀e Ce,p.cls[e]?=Qa Ce->PySem.W.exmOne X.K (.ref Ce) (.ref Cc)=Qa (sub e c)) (hdc:nD cn) (hd:nD x) (zE:nC x)
  (hb:je X p G sub body lb):SS X p G sub (.Try body [.ExceptHandler (Qa (.Name cn q)) (Qa x) [.Assign [.Name y q2] (.Name x q3) q4] j0] [] [] pos) (.tryE lb c i j):=by
 intro H0 O0 E hp pins s Y H Z os I B hs hE;have e0:ex G sub (.tryE lb c i j) Z=match qL G sub lb Z with
   |.err e ρ'=>if sub e c then .ok ((ρ'.set j (Qa (.val (.exc e)))).set i Qc) .nx else .qC
   |r=>r:=rfl
 rw[e0]at hs hE|-;generalize hr:qL G sub lb Z=r0 at hs hE|-;have wH:i≠j:=λe=>OM (by rw[e,hj]at hi;exact(QV hi).symm);refine wpAny_Try_except (Qh (hb H0 O0 _ (Fn (p:=p) (H0:=H0) (O0:=O0) (pins:=pins) (r:=r0) T) pins s Y H Z os I B (by rw[hr];exact(λe=>hs (by rw[e]))) (λe s' z=>by rw[hr]at z;exact z)) (λf s1 qq=>?_) (λe s1 qq=>?_))
 .rw[hr]at qq;refine wY qq λρ1 fl g jq H1 e1 F J r1=>?_;subst e1;cases fl<;>cases f<;>first|exact r1.elim|skip
  .exact Ym #[ρ1,.nx,g,jq,H1,rfl,F,J,trivial]
  .exact#[ρ1,.brk,g,jq,H1,rfl,F,J,trivial]
  .exact#[ρ1,.cont,g,jq,H1,rfl,F,J,trivial]
  .exact#[ρ1,_,g,jq,H1,rfl,F,J,r1]
  .exact#[ρ1,_,g,jq,H1,rfl,F,J,r1]
 .refine wF qq λU ρ' Y' qg H' e1 k m=>?_;subst e1;have G0:sub U c=Qb:=by
   cases h:sub U c with
   |true=>rfl
   |false=>exact absurd (by simp[h]) hs
  refine Se T m λH2 a C Bh t h2 ea fG x2 I2 bo tr=>?_;subst ea;refine AN (s:={s1 with heap:=h2}) (o:=Qc) tr λh3 bL up3=>?_;have I3:=TY (s:={s1 with heap:=h2}) I2 bo bL.1 up3;refine wpAny_handleBy_cons (codeAny_handlers_test ?_) (by intro q;cases q);refine xP (X:=mk X a) (ic I3) hg hm ?_ hdc;have LT:VD (model X.prog X.w) h3 (typeOf (.ref a)) (.ref C):=by obtain⟨ob,g1,g2⟩:=bL.2.2.2.there;exact g2▸(Zh g1).andThen .now
  refine WQ (s:={s1 with heap:=h3}) (PySem.W.exm_one I3.jN LT (OF U C fG)) ?_;rw[G0,if_pos rfl];refine codeAny_handlers_suite_as ?_;refine AN (s:={s1 with heap:=h3}) (o:=Qc) bL λh4 sO up4=>?_;obtain⟨hn,I5⟩:=q3Z (TY (s:={s1 with heap:=h3}) I3 bo sO.1 up4) bo sO;have lt:i<ρ'.length:=by rw[<-k.jU,I2.len];exact(Qn.mp hi).1
  have q5O:a∉(qg++[O0]).flatten:=λz=>by obtain⟨o,e⟩:=k.rel.there a z;rw[x2 _ _ e]at hn;cases hn
  have rep:Rep p (fz (qg++[O0]).flatten (upd H2 a (.ext (u7 a C)))) (.exc U) (.ref a):=⟨a,C,rfl,fG,kB zb q5O⟩
  have B6:=(k.mono (x2.trans (Ext.upd hn))).Xe lt rep;have q9u:∀b∈(qg.set i []++[O0]).flatten,b∈(qg++[O0]).flatten:=λb hb=>by rw[<-yT (by rw[k.len];exact lt)]at hb;exact(xQ hb).elim id λz=>absurd z (by simp)
  have B7:=B6.Xe (i:=j) (by simpa using(by rw[<-k.jU,I2.len];exact(Qn.mp hj).1)) (rep.mono (ya q9u));refine wu (v:=.ref a) I5 hN hi (.inl hl) rfl (λs6 I6=>?_) (.inr hl);refine YA (Yp (kN (X:=mk X a) (v:=.ref a) (ic I6) hi (.inl hl) ?_ hd zE λu r=>?_) rfl)
  .rw[Yv (by rw[k.jU];exact lt)]
  refine wu (v:=.ref a) I6 hN hj hy r (λs7 I7=>?_) hfy;refine Ym ?_;refine name_goes I7 hN hi hl λs8 I8=>?_;refine#[_,.nx,_,_,_,?_,(B7.Xd (i:=i) (y:=Qc) (by simpa using lt)),I8,trivial];show(if sub U c=Qb then _ else _)=_;rw[if_pos G0,q8c _ _ _ _ _ _ wH]
open PySem.Builtin PySem.Builtin.ObjectAttr
structure ExOk(K:QC)(C:Addr):Prop where
 ga:findIn K (.ref C) "__getattribute__"=Qa (Qa (.builtin "BaseException.__getattribute__"))
 gh:findIn K (.ref C) "__getattr__"=Qa Qc
 bex:mroIn K C (.type "BaseException")=Qa Qb
 own:findIn K (.ref C) "__class__"=Qa (Qa (.builtin "object.__class__"))
 spc:specialIn K (.builtin "object.__class__") "__get__"=Qa (Qa (.builtin "getset_descriptor.__get__"))
 tk:takesIn K (.builtin "object.__class__")=Qa Qb
 mro:mroIn K C (.type "object")=Qa Qb
 cls:isClsIn K C=Qb
def EY{x C:Addr}(q:u7 x C h):VD M h (typeOf (.ref x)) (.ref C):=by obtain⟨o,e1,b⟩:=q;exact b▸(Zh e1).andThen .now
def q1i{x C:Addr}(Z:K.In h)(o:ExOk K C):VD M h (find (.ref x) (.ref C) "__class__") (.bind (.builtin "getset_descriptor.__get__") (.builtin "object.__class__")):=by refine(looks_findIn (M:=M) Z o.own).andThen ((looks_specialIn Z o.spc).andThen ((show VD M h (dataDescriptor? (Qa (.builtin "object.__class__")) (Qa (.builtin "getset_descriptor.__get__"))) (Qa (.builtin "getset_descriptor.__get__",.builtin "object.__class__")) from(looks_takesIn (M:=M) Z o.tk).andThen .now).andThen ?_));exact PySem.W.Looks.tag .now
def q1j{x C:Addr}{k:Value}{R:ZO->Shared->Prop}(Z:K.In s.heap)(o:ExOk K C)(q:u7 x C s.heap)(b:R (.ok (.ret (.ref C))) s):codeAny (model prog w) A (.call (.builtin "getset_descriptor.__get__") #[[.builtin "object.__class__",.ref x,k],[]]) R s:=by
 obtain⟨g,ge,dr,tk,os⟩:=s;have z:=EY (M:=model prog w) q;have F:=looks_mroIn (M:=model prog w) (show K.In g from Z) o.mro;refine V9 KF.slot_gs.plain KF.entry_gs (KF.slot_gs.check _ _ _ _ _ _ _ _ KF.type_class (KF.args_gs _ _ _) (show wpAny _ _ (Uv _) _ _ _ from ?_));unfold Uv;rw[dga_obj];refine Qe (Qi ?_);unfold Zx Zy Zz isInstance;simp only[KF.owner_class]
 repeat lk
 refine#[Code.quiet_builtin _ (by decide+kernel),UO KF.entry_class ?_];unfold Ub.«object.__class__»;unfold shownTypeOf
 repeat lk
 exact b
def q1g{x C:Addr}{b:Value}(Z:K.In s.heap)(o:ExOk K C)(q:u7 x C s.heap)(g:Q () s):wpAny (model prog w) A (checkBuiltinCall "BaseException.__getattribute__" #[[.ref x,b],[]]) Q E s:=by
 obtain⟨k,ge,dr,tk,os⟩:=s;have z:=EY (M:=model prog w) q;have I:=looks_mroIn (M:=model prog w) Z o.bex;have k1:builtinKind "BaseException.__getattribute__"=Qa .slot:=by decide+kernel
 have k2:splitId "BaseException.__getattribute__"=Qa ("BaseException","__getattribute__"):=by decide+kernel
 have k3:=PySem.F.args_bexc_ga (.ref x) b;unfold argsOk at k3;unfold checkBuiltinCall;simp only[k1,k2];refine Qe ?_;unfold isInstance
 repeat lk
 exact g
def q1h{x C:Addr}{Q:Option Value->Shared->Prop}(Z:K.In s.heap)(o:ExOk K C)(q:u7 x C s.heap)(k:Q (Qa (.ref C)) {s with toks:=s.toks+1}):wpAny (model prog w) A (getAttr? (.ref x) "__class__") Q E s:=by
 obtain⟨b,ge,dr,tk,os⟩:=s;have g:=EY (M:=model prog w) q;have I:=looks_findIn (M:=model prog w) Z o.ga;have J:=q1i (M:=model prog w) (x:=x) Z o;have z:(onTheHeap (YQ C)&&VQ "BaseException.__getattribute__"==VQ "object.__getattribute__")=Qf:=by
  have:(VQ "BaseException.__getattribute__"==VQ "object.__getattribute__")=Qf:=by decide+kernel
  rw[this,Bool.and_false]
 unfold getAttr? getAttrBy? getAttrBy;refine Qe (wpAny_mkText (Qe (Vq (Jm (Qe (g.at (Qe (I.at ?_))))))));dsimp only;rw[z,if_neg (by decide)];unfold getAttrByItsOwn hookBefore;rw[if_pos (show onTheHeap (YQ C)=Qb from rfl)];refine Qe ((looks_findIn (M:=model prog w) (show K.In b from Z) o.gh).at (Qe (Vq (Jm ?_))));show wpAny _ _ (boundAndCalled _ _ _) _ _ _;unfold boundAndCalled;refine Qe (Zp (W4.ga.bind (.ref x)) ?_);refine U6 (V9 W4.ga.plain PySem.F.entry_bexc_ga (q1g (s:={heap:=b,gens:=ge,drawn:=dr,toks:=tk+1,os:=os}) Z o q ?_));unfold Ub.«object.__getattribute__»;refine Qe (Qi (Qe (Qi (Qe (g.at (Qe (J.at ?_)))))));dsimp only;show wpAny _ _ (Builtin.ObjectAttr.bindTo _ _ _ _) _ _ _;show wpAny _ _ (holding [_] (call _ [_,YQ x,YQ C])>>=ret) _ _ _;exact Qe (Jm (U6 (q1j (s:={heap:=b,gens:=ge,drawn:=dr,toks:=tk+1,os:=os}) Z o q (Qi (handed_on rfl (Qi k))))))
def lE{x C:Addr}(o:ExOk K C):KitX K (.ref x) (.ref C) (u7 x C)where
 ty:=λ_ _ _ q=>EY q
 it:=λ_ _ Z _=>by
  obtain⟨z,hc⟩:=YY.mp o.cls;unfold clsIn at hc;split at hc
  .rename_i b;intro F J I s' k q;unfold isType;unfold loadHead;exact Qe (wpAny_loadPart (k _ _ (Z _ _ b)) (Qi q))
  .cases hc
 ne:=λh T dd its n sl Z g=>by
  obtain⟨z,hc⟩:=YY.mp o.cls;refine UZ.mpr λq=>?_;cases YQ.inj (beq_iff_eq.mp q);unfold clsIn at hc;split at hc
  .rename_i b;cases(Z _ _ b).symm.trans g
  .cases hc
 ca:=λZ q k=>q1h Z o q k
def BI(X:Cx)(p:Pm)(sub:Nat->Nat->Bool)(b:Bi)(g:Value):Prop:=
 ∀(E:NZ)(pins:List (Addr×Obj))(s:Shared)(Y:L2.St)(H:Hp)(os:List (List Addr))(d r:D)(v:V)(u:Value),Inv X pins Y H s->RelV v u->jH p H (fz os.flatten H) d v->zF sub b [d]=.ok r->
  wX X (call (.builtin "isinstance") [u,g]) (EP (X.ql E) pins Y (Fin p os.flatten H r)) E s
def GC{t:Value}:kitOne K t t=Qa Qb:=by unfold kitOne;rw[if_pos (beq_self_eq_true t)]
def xx(I:Inv X pins Y H s)(b:Bool)(tk:Nat):EP (X.ql E) pins Y (Fin p O H (.bl b)) (.bool b) {s with toks:=tk}:=
 #[.bl b,H,(I.ql E).tok tk,rfl,fin_same rfl]
def q0I(g:p.K=X.K):BI X p sub .isTup (.type "tuple"):=by
 intro E pins s Y H os d r v u I b q h;cases d<;>first
  |(cases h;done)
  |skip
 cases h;refine zN q λa vs k s1 z F=>?_;subst k;cases b;obtain⟨its,b,⟨o,e,c,_⟩,_⟩:=I.tuple (g▸zG.va s1);exact WX kitx_tuple I.jN #[o,e,c] GC (λz=>nomatch z) λtk=>xx I _ tk
def q0F(g:p.K=X.K):BI X p sub .P5 (.type "list"):=by
 intro E pins s Y H os d r v u I b q h;cases d<;>first
  |(cases h;done)
  |skip
 cases h;refine qN q λa vs k s1 F=>?_;subst k;cases b;obtain⟨its,b,⟨o,n,e,c,_⟩,_⟩:=I.list (g▸s1);exact WX kitx_list I.jN #[o,e,c] GC (λz=>nomatch z) λtk=>xx I _ tk
def q0C:BI X p sub .isInt (.type "int"):=by
 intro E pins s Y H os d r v u I b q h;cases d<;>first
  |(cases h;done)
  |skip
 cases h;cases q;obtain⟨t,rfl⟩:=b;exact WX kitx_int I.jN trivial GC (λz=>nomatch z) λtk=>xx I _ tk
def q4G:kitOne K (.type "int") (.type "bool")=Qa Qf:=by
 have b:(Vd "int"==Vd "bool")=Qf:=by decide+kernel
 have g:kitMeta "bool"=Qb:=by decide+kernel
 have k:(fastBuiltinMro "int").map (·.contains (Vd "bool"))=Qa Qf:=by decide+kernel
 unfold kitOne kitCls subIn;rw[if_neg (by rw[b];decide)];dsimp only;rw[if_pos g,k]
def q09:BI X p sub .isBool (.type "bool"):=by
 intro E pins s Y H os d r v u I b q h;cases d<;>first
  |(cases h;done)
  |skip
 .cases h;cases q;cases b;exact WX kitx_bool I.jN trivial GC (λz=>nomatch z) λtk=>xx I _ tk
 .cases h;cases q;obtain⟨t,rfl⟩:=b;exact WX kitx_int I.jN trivial q4G (λz=>nomatch z) λtk=>xx I _ tk
def ft{v:V}(I:Inv X pins Y H s)(q:Rep p (fz O H) (.exc c) v):∃a C,v=.ref a/\p.cls[c]?=Qa C/\u7 a C s.heap:=by refine qN q λa C e b g=>?_;exact#[a,C,e,b,(I.qO a _ (zG _ _ g)).1]
def q0J(k:∀(c:Nat)(C:Addr),p.cls[c]?=Qa C->ExOk X.K C/\kitOne X.K (.ref C) (.type "ValueError")=Qa Qb):BI X p sub .isVal (.type "ValueError"):=by
 intro E pins s Y H os d r v u I F q h;cases d<;>first
  |(cases h;done)
  |skip
 cases h;refine qN (ft I q) λa C J b g=>?_;subst J;cases F;obtain⟨k1,k2⟩:=k _ C b;exact WX (lE k1) I.jN g k2 (λz=>nomatch z) λtk=>xx I _ tk
def q0A(F:∀(c:Nat)(C:Addr),p.cls[c]?=Qa C->ExOk X.K C/\kitOne X.K (.ref C) (.ref Cc)=Qa (sub c k)):BI X p sub (.isExc k) (.ref Cc):=by
 intro E pins s Y H os d r v u I J q h;cases d<;>first
  |(cases h;done)
  |skip
 cases h;refine qN (ft I q) λa C T b g=>?_;subst T;cases J;obtain⟨k1,k2⟩:=F _ C b;exact WX (lE k1) I.jN g k2 (λz=>nomatch z) λtk=>xx I _ tk
def Pd{a:Qs}(T:BI X p sub b cv)(W:Gl X "isinstance")(hm:X.mg "isinstance"=Qc)(U:SB X p G sub a l)
  (hc:∀(E:NZ)(Q:NZ)(pins:List (Addr×Obj))(s:Shared)(Y:L2.St)(H:Hp),Inv X pins Y H s->Q cv s->wX X (Je (.Name cn q2) X.env) Q E s)
  (k:QM [a,.Name cn q2] X.env=[(Qf,Je a X.env),(Qf,Je (.Name cn q2) X.env)]):SE X p G sub (.Call (.Name "isinstance" q) [a,.Name cn q2] [] pos) (.bi b [l]):=by
 intro pins s Y H Z os I R hs;refine Q7 (wJ I W hm boot_isinstance ?_ (by decide) (by decide));refine Yc ?_ (by rw[k];rfl) rfl;rw[k];refine Q4 (Qh (U pins s Y H Z os I R (FQ hs)) (λu s1 h=>?_) (λ_ _=>FP));refine qY h λd v H1 e1 g r1 x1 q1=>?_;have F:ev G sub (.bi b [l]) Z=zF sub b [d]:=by rw[kI,PX l Z _ (λ_=>rfl),e1];rfl
 rw[F]at hs|-;refine Q4 (hc _ _ pins s1 Y H1 g (Jl ?_));rcases RH sub b [d]with z|⟨r,z⟩
 .exact absurd z hs
 .rw[z];exact Qh (T (Er X p pins Y H (.ok r)) pins s1 Y H1 os d r v u g r1 q1 z) (λw s2 J=>X6 x1 rfl J) λ_ _ z=>z
def q27(n:H a=Qc):Ext (fz O H) (fz (O++[a]) (upd H a o)):=λc u e=>by
 unfold fz at e|-;split at e
 .exact nS e
 .rename_i h;have ne:c≠a:=λz=>by rw[z,n]at e;exact nS e
  rw[if_neg (by simp[h,ne]),qW ne];exact e
def q7R(x:∀a o,H a=Qa o->(∀kvs,o≠.dK kvs)->H' a=Qa o):(∀d v,Rep p H d v->Rep p H' d v)/\(∀ds vs,qK p H ds vs->qK p H' ds vs):=by
 refine D.ind
  (λv h=>h) (λ_ v h=>h) (λ_ v h=>h) (λ_ v h=>h) (λl b v h=>?_) (λl b v h=>?_) (λk l T b v h=>?_) (λc v h=>?_) (λl b v h=>?_) (λc l b v h=>?_) (λvs h=>h) (λd ds I J vs h=>?_)
 .refine zN h λa vs e s z r=>?_;exact#[a,vs,e,(λh=>h.elim (λr=>.inl (r.elim (λe=>.inl (x _ _ e (λ_ z=>nomatch z))) λ⟨o,e⟩=>.inr #[o,x _ _ e (λ_ z=>nomatch z)])) .inr) s,z,b _ r]
 .obtain⟨a,vs,e,s,r⟩:=h;exact#[a,vs,e,(λh=>h.elim (λr=>.inl (r.elim (λe=>.inl (x _ _ e (λ_ z=>nomatch z))) λ⟨o,e⟩=>.inr #[o,x _ _ e (λ_ z=>nomatch z)])) .inr) s,b _ r]
 .obtain⟨a,kvs,o,e,s,q,r⟩:=h;exact#[a,kvs,o,e,x _ _ s (λ_ z=>nomatch z),q,b _ r]
 .obtain⟨a,C,e,s,q⟩:=h;exact#[a,C,e,s,x _ _ q (λ_ z=>nomatch z)]
 .refine qY h λa dx vs e s q z r=>?_;exact#[a,dx,vs,e,x _ _ s (λ_ z=>nomatch z),x _ _ q (λ_ z=>nomatch z),z,b _ r]
 .obtain⟨a,e,z,s⟩:=h;exact#[a,e,z,x _ _ s (λ_ z=>nomatch z)]
 .refine qN h λv r e g F=>?_;exact#[v,r,e,I _ g,J _ F]
def q7Q{v:V}(x:∀a o,H a=Qa o->(∀kvs,o≠.dK kvs)->H' a=Qa o)(h:Rep p H d v):Rep p H' d v:=(q7R x).1 d v h
theorem aK{p:Pm}{H Hf:Hp}{o:HO}{c:Addr}:∀{bs:List Addr}{xss:List (List D)},c∉bs->xi p H Hf bs xss->xi p (upd H c o) Hf bs xss
 |[],_,_,h=>h
 |b::bs,xss,n,h=>by obtain⟨xs,r,e,⟨vs,g,k⟩,F⟩:=h;exact#[xs,r,e,#[vs,by rw[qW λz=>n (by simp[z])];exact g,k],aK (λz=>n (Qd _ z)) F]
def av{x:Option Sl}{y:Option V}{as:List Addr}{c:Addr}(n:c∉as)(h:yW p H Hf x y as):yW p (upd H c o) Hf x y as:=by
 cases x with
 |none=>exact h
 |some sl=>
  cases sl with
  |val d=>exact h
  |own d=>
   refine qd h λa F k g=>?_;have ne:a≠c:=λz=>n (by rw[k,z];simp);refine#[a,F,k,?_];cases d with
   |qA ds=>obtain⟨vs,q1,q2⟩:=g;exact#[vs,by rw[qW ne];exact q1,q2]
   |z7 ks ds=>obtain⟨kvs,q1,q2,q3⟩:=g;exact#[kvs,by rw[qW ne];exact q1,q2,q3]
   |_=>exact g
  |j6 xss=>
   refine zN h λa bs F k g I=>?_;subst k;exact#[a,bs,F,rfl,by rw[qW λz=>n (by simp[z])];exact g,aK (λz=>n (Qd _ z)) I]
  |obj b fs=>
   obtain⟨a,dx,vs,F,k,J,g,I,T⟩:=h;subst k;exact#[a,dx,vs,F,rfl,J,by rw[qW λz=>n (by simp[z])];exact g,by rw[qW λz=>n (by simp[z])];exact I,T]
theorem ax{p:Pm}{H Hf:Hp}{o:HO}{c:Addr}:∀{Z:Ev.Env}{Y:L2.St}{os:List (List Addr)},c∉os.flatten->ju p H Hf Z Y os->ju p (upd H c o) Hf Z Y os
 |[],_,_,_,_=>trivial
 |_::Z,_,_,n,h=>by refine yA h λy1 b as z F I g k=>?_;subst F I;simp only[Jb,QF,not_or]at n;exact#[y1,b,as,z,rfl,rfl,av n.1 g,ax n.2 k]
theorem rT{p:Pm}{H Hf:Hp}{o:HO}{x:Option Sl}{c:Addr}:∀{Z:Ev.Env}{Y:L2.St}{os:List (List Addr)}(i:Nat){y:Option V}{as:List Addr},ju p H Hf Z Y os->Y[i]?=Qa y->os[i]?=Qa as->c∈as->os.flatten.Nodup->yW p (upd H c o) Hf x y as->
  ju p (upd H c o) Hf (Z.set i x) Y os
 |[],_,_,_,_,_,_,_,_,_,_,_=>trivial
 |_::Z,_,_,0,y,as,h,e1,e2,hc,nd,q=>by refine yA h λy1 b T k F I J g=>?_;subst F I;simp at e1 e2;subst e1 e2;simp at nd;exact#[_,b,_,k,rfl,rfl,q,ax (λz=>(QS.mp nd).2.2 c hc c z rfl) g]
 |_::Z,_,_,i+1,y,as,h,e1,e2,hc,nd,q=>by refine yA h λy1 b T k F I J g=>?_;subst F I;simp at nd;exact#[y1,b,T,k,rfl,rfl,av (λz=>(QS.mp nd).2.2 c z c (Q5.mpr #[as,Qp (by simpa using e2),hc]) rfl) J,rT i g (by simpa using e1) (by simpa using e2) hc (QS.mp nd).2.1 q]
def Bd.write{sl:Sl}{y:Option V}{as:List Addr}{c:Addr}(b:Bd p H0 O0 Z Y os H)(e1:Y[i]?=Qa y)(g:os[i]?=Qa as)(hc:c∈as)
  (q:yW p (upd H c o) (fz (os++[O0]).flatten H) (Qa sl) y as):Bd p H0 O0 (Z.set i (Qa sl)) Y os (upd H c o):=by
 have k:=Q5.mpr #[as,Qp g,hc];refine#[#[b.rel.nd,λa F=>?_,?_],by simp[b.len],by simp[b.jU],λa u e=>?_,b.new]
 .by_cases h:a=c
  .subst h;exact#[_,zb]
  .obtain⟨u,e⟩:=b.rel.there a F;exact#[u,by rw[qW h];exact e]
 .rw[Fw (by rw[vj];exact QR _ k)];exact rT i b.rel.slots e1 (by rw[Q2 (Qn.mp g).1];exact g) hc b.rel.nd q
 .rw[qW λz=>by rw[z,b.new c k]at e;cases e];exact b.ext a u e
theorem Bd.at{p:Pm}{H0:Hp}{O0:List Addr}{Z:Ev.Env}{Y:L2.St}{os:List (List Addr)}{H:Hp}{i:Nat}{x:Option Sl}(b:Bd p H0 O0 Z Y os H)(h:Z[i]?=Qa x):∃y as,Y[i]?=Qa y/\os[i]?=Qa as/\yW p H (fz (os++[O0]).flatten H) x y as:=by refine qN (Pg b.rel.slots h) λy as e1 g k=>?_;rw[Q2 (by rw[b.len];exact(Qn.mp h).1)]at g;exact#[y,as,e1,g,k]
def ES{r:R α}{f:α->RS}{e:Value}(B:Bd p H0 O0 Z Y os H)(x:Ext H H1)(h:Er X p pins Y H1 r e s'):Es X p H0 O0 pins (r.go Z f) e s':=by obtain⟨c,e1,m⟩:=h;exact#[c,Z,Y,os,H,by rw[e1];rfl,B,m.ext x]
def q9d(hN:X.N.Nodup)(hi:X.N[i]?=Qa x)(hx:Loc X.env.scope x)(hf:X.fn x=Qb\/X.env.scope.names.lookup x=Qa .local)(h:SA X p G sub es ls):
  SS X p G sub (.Assign [.Name x j0] (.List es aZ) pos) (.jF i (.qA ls)):=by
 intro H0 O0 E hp pins s Y H Z os I B hs g;have e0:ex G sub (.jF i (.qA ls)) Z=(ev G sub (.qA ls) Z).go Z λd=>.ok (Z.set i (Qa (.own d))) .nx:=rfl;rw[e0,Fs]at hs g|-;refine Yp (WH (Qh (h aZ pins s Y H Z _ I B.rel (zP (zh hs))) (λus s1 zz=>qY zz λds vs H1 e1 F J x1 q1=>?_) (λe s' z=>g e s' (j9 B z.bind)))) rfl;rw[e1,qF]at hs g|-;have z:ds.length<=big:=by
  by_cases z:ds.length<=big
  .exact z
  .rw[if_neg z]at hs;cases hs rfl
 rw[if_pos z];have T:vs.length<=QD:=Qw (q1.length▸z) wQ;refine#[by rw[<-J.length];exact T,?_];have b:H1 s1.heap.objs.size=Qc:=F.qO.fresh (Qt _);have U:Inv X pins Y (upd H1 s1.heap.objs.size (.qA vs)) {s1 with heap:=s1.heap.push {cls:=.type "list",data:=.seq us.toArray}}:=F.GV (t':=s1.toks) J T;refine wu (v:=.ref s1.heap.objs.size) U hN hi hx rfl (λs3 W=>#[_,.nx,_,_,_,rfl,(B.mono x1).jF (by rw[<-B.jU,I.len];exact(Qn.mp hi).1) (Ext.upd b) (as:=[s1.heap.objs.size]) (by simp) (λa k=>?_) (λa k=>?_) #[_,rfl,rfl,vs,zb,q1.mono (q27 b)],W,trivial]) hf
 .rw[QE.mp k];exact b
 .rw[QE.mp k];exact#[_,zb]
def q9F{a:Qs}(hi:X.N[i]?=Qa x)(hv:jY X.env.scope x)(hd:nD x)(zE:nC x)(ha:SE X p G sub a l)
  (W:QM [a] X.env=[(Qf,Je a X.env)]) (zd:(ap.endLine==cp.line)=Qb):SS X p G sub (.Expr (.Call (.Attribute (.Name x q) "append" ap) [a] [] cp) pos) (.app i l):=by
 intro H0 O0 E hp pins s Y H Z os I B hs k;have e0:ex G sub (.app i l) Z=match Z[i]?with
   |some (Qa (.own (.qA xs)))=>(ev G sub l Z).go Z λd=>if xs.length<big then .ok (Z.set i (Qa (.own (.qA (xs++[d]))))) .nx else .qC
   |_=>.qC:=rfl
 rw[e0]at hs k|-;split at hs
 .rename_i xs g;simp only[g]at k|-;refine L8 (B.at g) λy as s1 s2 b qw qx vs s5 s6=>?_;subst qw qx;refine Uq (Us rfl (by rw[W];rfl) zd rfl (kN I hi hv s1 hd zE λu r=>?_)) I.quiet rfl;cases r;obtain⟨h1,h2⟩:=Cb (T:="list") (x:=.ref b) I rfl (.inl #[rfl,_,zM.of s5]);refine#["list","list.append",Yl,UP,UQ,h1,h2,?_];rw[W];refine JW rfl (YL ?_);show wpAny _ _ (VM ((Qf,Je a X.env)::[])) _ _ s;refine Q4 (Qh (ha pins s Y H Z _ I B.rel (zh hs)) (λv s3 U=>qY U λd F H1 e1 I1 r1 J q1=>Jl ?_) (λe s' z=>k e s' (j9 B z)));rw[e1,qT]at hs k|-;have z:xs.length<big:=by
   by_cases z:xs.length<big
   .exact z
   .rw[if_neg z]at hs;cases hs rfl
  rw[if_pos z];have hl:=s6.length;refine Qh (Ds (X:=X.ql E) pins s3 Y H1 (.ref b) [F] _ _ (λz H'=>H'=upd H1 b (.qA (vs++[F]))) (I1.ql E) rfl (.cons r1 .nil) #[b,vs,F,rfl,rfl,J _ _ s5,Qz ∅ wQ,rfl]) (λw s4 U=>qN U λzv H2 I2 _ eH=>?_) (λ_ _ z=>z);subst eH;exact#[_,.nx,Y,os,_,rfl,(B.mono J).write s1 s2 (by simp) #[b,rfl,rfl,_,zb,(s6.mono (jB J)).snoc q1],I2.wB,trivial]
 .cases hs rfl
def q9S(hN:X.N.Nodup)(hi:X.N[i]?=Qa x)(hx:Loc X.env.scope x)(hf:X.fn x=Qb\/X.env.scope.names.lookup x=Qa .local)(hj:X.N[j]?=Qa y)(hv:jY X.env.scope y)(hd:nD y)(zE:nC y)
  (zd:(ap.endLine==cp.line)=Qb):SS X p G sub (.Assign [.Name x j0] (.Call (.Attribute (.Name y q) "pop" ap) [] [] cp) pos) (.pop i j):=by
 intro H0 O0 E hp pins s Y H Z os I B hs J;have e0:ex G sub (.pop i j) Z=match Z[j]?with
   |some (Qa (.own (.qA xs)))=>match xs.getLast? with
     |some d=>.ok ((Z.set j (Qa (.own (.qA xs.dropLast)))).set i (Qa (.val d))) .nx
     |none=>.qC
   |_=>.qC:=rfl
 rw[e0]at hs J|-;split at hs
 .rename_i xs g;simp only[g]at J|-;split at hs
  .rename_i d k;simp only[k]at J|-;refine L8 (B.at g) λy' as s1 s2 b qw qx vs U W=>?_;subst qw qx;have hl:=W.length;obtain⟨v,iO,Rt⟩:=W.get (by rw[Zi]at k;exact k);rw[hl]at iO;have lt:i<Z.length:=(by rw[<-B.jU,I.len];exact(Qn.mp hi).1);refine Yp (wpAny_Call_method0_late rfl zd (kN I hj hv s1 hd zE λu r=>?_)) rfl;cases r;obtain⟨h1,h2⟩:=Cb (T:="list") (x:=.ref b) I rfl (.inl #[rfl,_,zM.of U]);refine#["list","list.pop",Yl,PySem.F.slot_list_pop,PySem.F.type_list_pop,h1,h2,?_];refine JW rfl (Z5 ?_);refine Qh (q56 (X:=X.ql E) pins s Y H (.ref b) [] _ _ (λz H'=>z=v/\H'=upd H b (.qA vs.dropLast)) (I.ql E) rfl .nil #[b,vs,v,rfl,rfl,U,iO,rfl,rfl]) (λw s4 zz=>zN zz λzv H2 I2 rz ez eH=>?_) (λ_ _ z=>z);subst ez eH;have dl:qK p (fz (os++[O0]).flatten H) xs.dropLast vs.dropLast:=by rw[ZY,ZY,hl];exact W.take _
   have B2:Bd p H0 O0 (Z.set j (Qa (.own (.qA xs.dropLast)))) Y os (upd H b (.qA vs.dropLast)):=B.write s1 s2 (by simp) #[b,rfl,rfl,_,zb,dl];have m:b∈(os++[O0]).flatten:=(by rw[vj];exact QR _ (Q5.mpr #[_,Qp s2,by simp]));exact wu I2.wB hN hi hx rz (λU I5=>#[_,.nx,_,_,_,rfl,B2.Xe (by simpa using lt) (by rw[Fw m];exact Rt),I5,trivial]) hf
  .cases hs rfl
 .cases hs rfl
def q02(o:Op2)(d e r:D)(x y:V)(h:xk o d e=.ok r)(g:Rep p (fz O H) d x)(k:Rep p (fz O H) e y):∃b:R2,zR X (Yz (Ti o)) b/\b x y H (Fin p O H r):=by
 unfold xk at h;split at h
 .rename_i m n;cases g;cases k;exact#[_,q3e o,ia o h]
 .exact nR h
def q01(o:Op2)(d e:D):xk o d e=.qC\/∃r,xk o d e=.ok r:=by
 unfold xk;split
 .exact oZ _ _ _
 .exact .inl rfl
def q9I{op:ZQ}{o:Op2}(hN:X.N.Nodup)(hi:X.N[i]?=Qa x)(W:Loc X.env.scope x)(hf:X.fn x=Qb\/X.env.scope.names.lookup x=Qa .local)(ho:PY op=Qa o)(he:SE X p G sub e l):
  SS X p G sub (.AugAssign (.Name x j0) op e pos) (.aug i o l):=by
 intro H0 O0 E hp pins s Y H Z os I B hs T;have e0:ex G sub (.aug i o l) Z=(zH Z i).go Z λx=>(ev G sub l Z).go Z λy=>(xk o x y).go Z λz=>.ok (Z.set i (Qa (.val z))) .nx:=rfl;rw[e0]at hs T|-;rw[og ho];cases g:zH Z i with
 |qC=>simp only[g]at hs;cases hs rfl
 |err c=>unfold zH at g;split at g<;>cases g
 |ok d=>
 simp only[g,qT]at hs T|-;refine qH (B.rel.val g) λv e1 q3H=>?_;refine qH I.loc λm hn hl=>?_;have xc:jY X.env.scope x:=by rcases W with k|k;exact .inl k;exact .inr (.inl k)
 refine qH (hl i x v hi e1 xc) λu r lk=>?_;have lt:i<Z.length:=by rw[<-B.jU,I.len];exact(Qn.mp hi).1
 refine wpAny_AugAssign_Name ?_;have go:wX X (Je e X.env) (λw F=>wX X (Yz (Ti o) u w) (λr J=>wX X (storeName X.env x r) (λ_=>Gs X p H0 O0 pins ((ev G sub l Z).go Z λy=>(xk o d y).go Z λz=>.ok (Z.set i (Qa (.val z))) .nx) .next) E J) E F) E s:=by
  refine Qh (he pins s Y H Z _ I B.rel (zh hs)) (λw s1 U=>qY U λd2 y H1 e2 I1 r1 x1 q1=>?_) (λe s' z=>T e s' (j9 B z));rw[e2,qT]at hs T|-;rcases q01 o d d2 with z|⟨dr,z⟩
  .rw[z]at hs;cases hs rfl
  rw[z,qT];refine qH (q02 (X:=X.ql E) (p:=p) (O:=(os++[O0]).flatten) (H:=H1) o d d2 dr v y z (q3H.mono (jB x1)) q1) λr2 k q=>?_;refine Qh (k pins s1 Y H1 v y u w _ (I1.ql E) r r1 q) (λU s2 U=>zN U λzv H2 I2 r2' x2 q2=>?_) (λ_ _ z=>z);exact wu I2.wB hN hi W r2' (λs3 I3=>#[_,.nx,_,_,H2,rfl,((B.mono x1).mono x2).Xe lt q2,I3,trivial]) hf
 rcases lk with⟨b,hm⟩|⟨b,c,hc,Rb⟩
 .exact wpAny_loadName_local I.ok.kind b hn hm go
 .rcases b with b|b
  .exact wpAny_loadName_cell I.ok.kind b hc Rb go
  .have b:X.env.scope.names.lookup x=Qa .free:=b;rcases W with k|k<;>(rw[k]at b;cases b)
def q9b{k:Qs}{lv:L}(hN:X.N.Nodup)(hi:X.N[i]?=Qa x)(hx:Loc X.env.scope x)(hf:X.fn x=Qb\/X.env.scope.names.lookup x=Qa .local)(hk:SE X p G sub k lk)(hv:SE X p G sub v lv):
  SS X p G sub (.Assign [.Name x j0] (.Dict [Qa k] [v] aZ) pos) (.jF i (.z7 lk lv)):=by
 intro H0 O0 E hp pins s Y H Z os I B hs b;have e0:ex G sub (.jF i (.z7 lk lv)) Z=(ev G sub (.z7 lk lv) Z).go Z λd=>.ok (Z.set i (Qa (.own d))) .nx:=rfl;rw[e0,q1Y]at hs b|-;have U:H s.heap.objs.size=Qc:=I.qO.fresh (Qt _);have g:Ext H (upd H s.heap.objs.size (.dK [])):=Ext.upd U;have B1:=B.mono g;refine Yp (wpAny_Dict_walk (knd:=vC X.prog X.w) rfl rfl (by simp) (by simp) (pairTrees_cons_walk (Qh (hk pins _ Y _ Z _ (I.laid (a:=s.heap.objs.size) (o:=.dK []) (h':=s.heap.push {cls:=.type "dict",data:=.dict #[]}) (t':=s.toks) (λ_ _ q=>Qk _ q) (Qt _) (q1G s.heap I.big)) B1.rel (zP (zh hs))) (λu s1 W=>qY W λd1 y1 H1 e1 Az r1 F q1=>?_) (λe s' z=>b e s' (ES B g z.bind))))) rfl;rw[e1]at hs b|-;refine Qh (hv pins s1 Y H1 Z _ Az (B1.rel.ext F) (zP (zh hs))) (λu2 s2 W=>qY W λd2 y2 H2 e2 I2 r2 x2 q2=>?_) (λe s' z=>b e s' (ES B (g.trans F) z.bind));rw[e2]at hs b|-;refine pairTrees_nil_walk ?_;cases d1<;>first
  |cases hs rfl
  |skip
 rename_i n;cases q1;have J:H2 s.heap.objs.size=Qa (.dK []):=x2 _ _ (F _ _ zb);refine wW (Iz I2.qO J) λz hd vs0 r0 dd=>?_;cases r0;refine qH (dH (P:=X.prog) (w:=X.w) (kvs:=[(YI n,y2)]) (ws:=[(u,u2)]) (.cons #[r1,r2] .nil)) λrs c rk=>?_;refine#[rs,c,dd,λh' xn G0=>?_];have he:∃q,h'.get? s.heap.objs.size=Qa q:=let⟨q,_,_,hq,_⟩:=xn;#[q,hq];have hz:(nZ [] [((YI n:Key),y2)]).length<=QD:=by rw[Q6];show 1<=_;decide
 have I3:Inv X pins Y (upd H2 s.heap.objs.size (.dK [(YI n,y2)])) {s2 with heap:=h',toks:=s2.toks+[(u,u2)].length}:=E9 I2 (by rw[J];exact Y5) G0 he (fB hz hd (rk.merge .nil) xn);have xt:Ext H (upd H2 s.heap.objs.size (.dK [(YI n,y2)])):=λa o e=>by rw[qW (jE e U)];exact x2 _ _ (F _ _ (g _ _ e))
 refine wu (v:=.ref s.heap.objs.size) I3 hN hi hx rfl (λs3 I4=>#[_,.nx,_,_,_,rfl,B.jF (by rw[<-B.jU,I.len];exact(Qn.mp hi).1) xt (as:=[s.heap.objs.size]) (by simp) (λa T=>?_) (λa T=>?_) #[_,rfl,rfl,_,zb,rfl,y2,[],rfl,q7Q ?_ q2,rfl],I4,trivial]) hf
 .rw[QE.mp T];exact U
 .rw[QE.mp T];exact#[_,zb]
 .intro a o e nd;unfold fz at e|-;split at e
  .exact nS e
  .rename_i h;have ne:a≠s.heap.objs.size:=λz=>by rw[z,J]at e;exact nd _ (QV e).symm
   rw[if_neg λm=>(QF.mp m).elim h λz=>ne (QE.mp z),qW ne];exact e
theorem pE{Hf:Hp}{y:D}{v:V}{n:Int}(I:Rep p Hf y v):∀{kvs:List (Key×V)}{ds:List D}{r:List D×List D},(kvs.map (·.1)).Nodup->qK p Hf ds (kvs.map (·.2))->put n y (kvs.map λq=>zo q.1) ds=.ok r->
  r.1=(putK kvs (.inl n) v).map (λq=>zo q.1)/\qK p Hf r.2 ((putK kvs (.inl n) v).map (·.2))
 |[],ds,r,_,h,e=>by cases(show ds=[] from by cases ds with|nil=>rfl|cons _ _=>obtain⟨_,_,z,_⟩:=h;cases z);cases e;exact#[rfl,v,[],rfl,I,rfl]
 |(k,w)::t,ds,r,nd,h,e=>by
  cases ds with
  |nil=>cases h
  |cons W ds=>
   refine qN h λv0 r' q h1 T=>?_;injection q with q1 q2
   subst q1 q2;have U:=QP.mp nd;cases k with
   |inr x=>simp[put,zo]at e
   |inl j=>
    have b:(if j=n then R.ok (D.int j::t.map (λq=>zo q.1),y::ds)else(put n y (t.map λq=>zo q.1) ds).bind λr=>.ok (.int j::r.1,W::r.2))=.ok r:=e;clear e
    by_cases c:j=n
    .rw[if_pos c]at b;subst c;cases b;have eq:putK ((YI j,w)::t) (.inl j) v=(YI j,v)::t:=by
      unfold putK;rw[if_pos (by simp),QK,if_pos rfl];congr 1;have:∀q∈t,(if q.1=(YI j:Key)then(q.1,v)else q)=q:=λq F=>if_neg λz=>U.1 (Qv.mpr #[q,F,z])
      conv=>rhs;rw[<-WG t]
      exact Yq λq F=>this q F
     rw[eq];exact#[rfl,v,_,rfl,I,T]
    .rw[if_neg c]at b;cases g:put n y (t.map λq=>zo q.1) ds with
     |ok r2=>
      rw[g]at b;cases b;obtain⟨g1,g2⟩:=pE I U.2 T g;have eq:putK ((YI j,w)::t) (.inl n) v=(YI j,w)::putK t (.inl n) v:=by
       unfold putK;have J:¬((YI j:Key)=YI n):=λz=>c (Wa z);rw[JB];simp only[J,decide_false,Zm];split
       .rw[QK,if_neg J]
       .rfl
      rw[eq];exact#[by rw[QK,<-g1];rfl,w,_,rfl,h1,g2]
     |err c=>rw[g]at b;cases b
     |qC=>rw[g]at b;exact nR b
theorem p9(n:Int)(y:D):∀(ks vs:List D),put n y ks vs=.qC\/∃r,put n y ks vs=.ok r
 |[],[]=>.inr #[_,rfl]
 |[],_::_=>.inl rfl
 |k::ks,[]=>by cases k<;>exact .inl rfl
 |k::ks,v::vs=>by
  cases k<;>first
   |exact .inl rfl
   |(unfold put
     split
     .exact .inr #[_,rfl]
     .rcases p9 n y ks vs with z|⟨r,z⟩
      .rw[z];exact .inl rfl
      .rw[z];exact .inr #[_,rfl])
def q1H(ok:zc P w H h)(e:H a=Qa (.dK kvs)):(kvs.map (·.1)).Nodup:=by
 obtain⟨z,hd,vs,rel,_,_,_,_,_,_,_,_,nd⟩:=Iz ok e;have:∀{l:List (Key×V)}{m:List (Key×Value)},KV l m->l.map (·.1)=m.map (·.1):=by
  intro l m r;unfold KV at r
  induction r with
  |nil=>rfl
  |cons h t b=>rw[QK,QK,b,h.1]
 rw[this rel];exact nd
def q9T{k:Qs}{lv:L}(hu:X.A.units+64<cLine)(hi:X.N[i]?=Qa x)(DJ:jY X.env.scope x)(hd:nD x)(zE:nC x)(hk:SE X p G sub k lk)(hv:SE X p G sub v lv)
  (vR:J9 v (Qa (.Subscript (.Name x q) k j0)) pos.line X.env=pure Qf):SS X p G sub (.Assign [.Subscript (.Name x q) k j0] v pos) (.put i lk lv):=by
 intro H0 O0 E hp pins s Y H Z os I B hs b;have e0:ex G sub (.put i lk lv) Z=match Z[i]?with
   |some (Qa (.own (.z7 ks vs)))=>(ev G sub lv Z).go Z λy=>(ev G sub lk Z).go Z λx=>match x with
     |.int n=>if ks.length<big then(put n y ks vs).go Z λr=>.ok (Z.set i (Qa (.own (.z7 r.1 r.2)))) .nx else .qC
     |_=>.qC
   |_=>.qC:=rfl
 rw[e0]at hs b|-;split at hs
 .rename_i ks ds g;simp only[g]at b|-;refine L8 (B.at g) λy as s1 s2 a' zu vc kvs s5 zr=>?_;obtain⟨s6,s7⟩:=zr;subst zu vc;refine wpAny_Assign_Subscript (Qh (hv pins s Y H Z _ I B.rel (zh hs)) (λu1 t1 U=>qY U λJ y1 H1 e1 W r1 T q1=>?_) (λe s' z=>b e s' (j9 B z))) vR;rw[e1,qT]at hs b|-;refine kN W hi DJ s1 hd zE λu r=>?_;cases r;refine Qh (hk pins t1 Y H1 Z _ W (B.mono T).rel (zh hs)) (λu2 t2 U=>qY U λd2 y2 H2 e2 I2 r2 x2 q2=>?_) (λe s' z=>b e s' (ES B T z));rw[e2]at hs b|-;obtain⟨n,rfl⟩:=zI hs;have hs:(if ks.length<big then(put n J ks ds).go Z λr=>RS.ok (Z.set i (Qa (.own (.z7 r.1 r.2)))) .nx else .qC)≠.qC:=hs;show wpAny _ _ _ (λ_=>Gs X p H0 O0 pins (if ks.length<big then(put n J ks ds).go Z λr=>RS.ok (Z.set i (Qa (.own (.z7 r.1 r.2)))) .nx else .qC) Flow.next) _ _
  by_cases z:ks.length<big
  .rw[if_pos z]at hs|-;rcases p9 n J ks ds with w|⟨r,w⟩
   .rw[w]at hs;cases hs rfl
   rw[w];cases q2;have F:=T.trans x2;have h5:H2 a'=Qa (.dK kvs):=F _ _ s5;subst s6;obtain⟨g1,g2⟩:=pE (v:=y1) (q1.mono (jB x2)) (q1H I2.qO h5) (s7.mono (jB F)) w;refine q1D (A:=X.A) ∅ I2 (Ci.k (k:=.inl n) h5 (Qz (by simpa using z) wQ)) r2 r1 λt3 I3=>?_;exact#[_,.nx,Y,os,_,rfl,(B.mono F).write s1 s2 (by simp) #[a',rfl,rfl,_,zb,g1,g2],I3,trivial]
  .rw[if_neg z]at hs;cases hs rfl
 .cases hs rfl
def q13{iter:Qs}{it:Addr}{tn:Nat->Heap->Prop}{J:It}
  {ds:List D}{vs:List V}{k:List (Str×Addr)}{E:NZ}{RR:Value->Addr->ZO->Shared->Prop}(hc:X.calm=Qb) (S:ScOk X sc ts) (kT:∀y c,k.lookup y=Qa c->X.env.cells.lookup y=Qa c)
  (ye:∀x∈sc.names,x.2=.free->∃c,k.lookup x.1=Qa c)
  (hG:∀s2 H2 k C fp,X0 (j4 X s2 H2 sc k C (za ts X.N) fp) p tg 0 ts.length)
  (I2:Inv X pins Y H2 s2) (T:Turn X.prog X.w X.K tg J fp it tn) (w8:tn 0 s2.heap) (F:∀b∈fp,jG X pins H2 b) (rep:qK p (fz os.flatten H2) ds vs) (wk:Wk J H2 vs) (gp:ds.length<=1000)
  (Lr:∀D C s' H' bs,Inv X pins Y H' s'->Ext H2 H'->H' D=Qa (.qA (bs.map V.ref))->bs.length=ds.length->(D::bs).Nodup->(∀b∈D::bs,H2 b=Qc)->(∀b∈bs,H' b=Qa (.qA []))->(∃m,s'.heap.Ns C m)->jG X pins H' C->RR (.ref D) C (.ok .next) s'):
  wX X (newList []) (λacc s3=>wX X (newFunctionEnv sc X.env.globals k [] X.env.qual Qc .none (Qa X.env)) (λFZ s4=>
   codeAny (model X.prog X.w) X.A (.compStart (.ListComp (.List [] q) [#[tg,iter,[],0]] sc pos) 0 (.ref it) acc {FZ with scope:=UY sc X.env}) (RR acc FZ.locals) s4) E s3) E s2:=by
 refine JG (wpAny_newFunctionEnv S.cell (by intro y hy;simp at hy) (λh1 uZ xJ=>?_) S.kind);dsimp only at uZ xJ|-;generalize W:s2.heap.push {cls:=.type "list",dict:=Qc,data:=.seq ([]:List Value).toArray}=HH at uZ xJ|-;have hC:HH.objs.size=s2.heap.objs.size+1:=by rw[<-W,Ua]
 rw[hC]at uZ xJ|-;have kp:∀b o,s2.heap.get? b=Qa o->h1.get? b=Qa o:=λb o e=>xJ.extBut b o (QQ (JQ (Qx e))) (Qk _ (W▸Qk _ e));have hD:h1.get? s2.heap.objs.size=Qa {cls:=.type "list",data:=.seq ([]:List Value).toArray}:=xJ.extBut _ _ (QQ (Jh _)) (Qk _ (W▸QG _ rfl));generalize hs4:({s2 with heap:=h1,toks:=s2.toks+([]:List (Str×Value)).length}:Shared)=s4;have ho:∀b∈fp,∃o,s2.heap.get? b=Qa o:=λb hb=>(T.obj 0 _ w8 b hb).elim λo e=>#[o,e.1]
 have I4:Inv (j4 X s2 H2 sc k (s2.heap.objs.size+1) (za ts X.N) fp) [] (Qj ts.length Qc++Y) (upd H2 s2.heap.objs.size (.qA [])) s4:=by rw[<-hs4];exact ib I2 S kT ye F ho #[_,uZ] kp hD
 have CU:tn 0 s4.heap:=T.keep _ _ _ w8 λb hb o e=>by rw[<-hs4];exact kp b o e
 have fr:H2 s2.heap.objs.size=Qc:=I2.qO.fresh (Qt _);have xY:∀{H':Hp},(∀b∈fp,H' b=Qc)->∀b∈fp,jG (j4 X s2 H2 sc k (s2.heap.objs.size+1) (za ts X.N) fp) [] H' b:=λ{H'} hn b hb=>by
  refine#[hn b hb,?_,λhm=>?_,.inl hb,λx c h=>(F b hb).2.2.2.2.1 x c (kT _ _ h),λp hp=>absurd (show p∈([]:List (Addr×Obj)) from hp) (by simp)]
  .obtain⟨o,e⟩:=ho b hb;exact QQ (JQ (Qx e))
  .rcases Ql.mp (I2.ux b hm)with z|z
   .exact (F b hb).2.1 z
   .exact (F b hb).2.2.1 z
 have qX:ds.length=vs.length:=rep.length;have XS:codeAny (model X.prog X.w) X.A (.compLoop (.ListComp (.List [] q) [#[tg,iter,[],0]] sc pos) 0 (.ref it) (.ref s2.heap.objs.size) (ZX sc k (s2.heap.objs.size+1) X.env)) (RR (.ref s2.heap.objs.size) (s2.heap.objs.size+1)) s4:=by
  refine dY (λn s'=>∃i I H' bs,Inv (j4 X s2 H2 sc k (s2.heap.objs.size+1) (za ts X.N) fp) [] (I++Y) H' s'/\I.length=ts.length/\tn i s'.heap/\(∀b∈fp,H' b=Qc)/\Ext H2 H'/\H' s2.heap.objs.size=Qa (.qA (bs.map V.ref))/\
   (s2.heap.objs.size::bs).Nodup/\(∀b∈bs,H2 b=Qc/\H' b=Qa (.qA []))/\bs.length=i/\n=ds.length-i/\i<=ds.length) ?_ ds.length
   #[0,Qj ts.length Qc,upd H2 s2.heap.objs.size (.qA []),[],I4,by simp,CU,λb hb=>?_,Ext.upd fr,zb,by simp,λb hb=>absurd hb (by simp),rfl,by simp,QU _]
  .rintro n s5 ⟨i,I,H5,bs,I5,hσ,uw,T9,U,xI,ny,Cz,Oj,rfl,hi5⟩
   by_cases qp:i<ds.length
   .refine Qh (T.item (j4 X s2 H2 sc k (s2.heap.objs.size+1) (za ts X.N) fp) rfl rfl rfl hc i [] s5 _ H5 (λ_ _=>False) I5 (xY T9) uw (wk.go i H5 U (qX▸qp))) (λr s6 zz=>qH zz λu hr h6=>?_) (λ_ _ z=>z);subst hr;refine Qh h6 (λ_ s7 zz=>RQ zz λx H7 I7 r7 y7 R4 Ld=>?_) (λ_ _ z=>z);obtain⟨rfl,hx⟩:=wk.RA i H5 x H7 U (qX▸qp) y7;refine qH (rep.get (i:=i) (d:=ds[i]) (by simp[qp])) λv' yJ um=>?_;rw[hx]at yJ;cases yJ;refine Qh (hG s2 H2 k (s2.heap.objs.size+1) fp (λ_ _=>False) _ s7 I Y H7 (fz os.flatten H2) ds[i] [ds[i]] x u (I7.pinned (xY Ld) (T.obj _ _ R4)) hσ r7 (zG.trans U) um rfl) (λ_ g zz=>qd zz λPr pW Et I8=>?_) (λ_ _ z=>z);refine wpAny_tests_nil ?_;rw[if_pos rfl];refine WH (Jl #[QU _,?_]);have RY:H7 g.heap.objs.size=Qc:=I8.qO.fresh (Qt _);have So:s2.heap.objs.size≠g.heap.objs.size:=jE xI RY;refine Qh (Ds (X:=j4 X s2 H2 sc k (s2.heap.objs.size+1) (za ts X.N) fp) _ _ _ _ (.ref s2.heap.objs.size) [.ref g.heap.objs.size] (.ref s2.heap.objs.size) [.ref g.heap.objs.size] (λz H'=>H'=upd (upd H7 g.heap.objs.size (.qA [])) s2.heap.objs.size (.qA (bs.map V.ref++[.ref g.heap.objs.size]))) (I8.GV (t':=g.toks) (ys:=[]) (its:=[]) .nil (QU _)) rfl (.cons rfl .nil)
     #[_,bs.map V.ref,.ref g.heap.objs.size,rfl,rfl,(by rw[qW So];exact xI),?_,rfl]) (λ_ s11 Lo=>?_) (λ_ _ z=>z)
    .rw[Qm,Oj,Q6];exact Qz qp (Qw gp (by decide))
    refine qN Lo λ_ t8 RB _ zz=>?_;subst zz;have k2:∀b∈fp,upd (upd H7 g.heap.objs.size (.qA [])) s2.heap.objs.size (.qA (bs.map V.ref++[.ref g.heap.objs.size])) b=Qc:=λb hb=>by refine qH (T.obj _ _ R4 b hb) λo e d=>?_;exact(RB.pin (b,o) (Qr _ (Qr _ (PS hb e)))).2.1
    have nb:g.heap.objs.size∉bs:=λz=>by rw[(Cz _ z).2]at RY;cases RY
    have vE:=QP.mp ny;refine#[ds.length-(i+1),∅,i+1,Pr.map Qa,_,bs++[g.heap.objs.size],RB.yV,by simpa using Et,(T.keep _ _ _ R4 λb hb o e=>(RB.pin (b,o) (Qr _ (Qr _ (PS hb e)))).1),k2,λa o e=>?_,by rw[zb,Ux];rfl,?_,λb hb=>?_,by simp[Oj],rfl,qp]
    .rw[qW (jE e fr),qW (jE (U _ _ e) RY)];exact U _ _ e
    .refine QP.mpr #[λz=>?_,QS.mpr #[vE.2,by simp,λa ha b hb e=>?_]]
     .rcases QF.mp z with z|z
      .exact vE.1 z
      .exact So (QE.mp z)
     .rw[QE.mp hb]at e;exact nb (e▸ha)
    .rcases QF.mp hb with hb|hb
     .obtain⟨g1,g2⟩:=Cz b hb;refine#[g1,?_];have n1:b≠s2.heap.objs.size:=λz=>vE.1 (z▸hb);have n2:b≠g.heap.objs.size:=λz=>nb (z▸hb);rw[qW n1,qW n2];exact g2
     .rw[QE.mp hb];refine#[?_,by rw[qW (JK So),zb]];cases e:H2 g.heap.objs.size with
      |none=>rfl
      |some o=>rw[U _ _ e]at RY;cases RY
   .have ei:i=ds.length:=∅;refine Qh (T.done (j4 X s2 H2 sc k (s2.heap.objs.size+1) (za ts X.N) fp) rfl rfl rfl hc i [] s5 _ H5 (λ_ _=>False) I5 (xY T9) uw (by rw[ei];exact qX▸wk.stop H5 U)) (λr s6⟨hr,I6⟩=>?_) (λ_ _ z=>z);subst hr;refine qH I6.loc λm hm _=>?_;refine Lr _ _ s6 H5 bs ?_ U xI (Oj.trans ei) ny (λb hb=>?_) (λb hb=>(Cz b hb).2) #[m,hm] (I2.RX (Yi _) I6.free)
    .exact I2.Ig (ch:=fp) I6.os I6.base I6.qO I6.bare λb hb=>#[(F b hb).2.2.2.1,(F b hb).2.1,(F b hb).2.2.2.2.1,(F b hb).2.2.2.2.2]
    .rcases Ql.mp hb with rfl|hb
     .exact fr
     .exact (Cz b hb).1
  .obtain⟨o,e⟩:=ho b hb;rw[qW (QQ (Qx e))];exact(F b hb).1
 exact codeAny_compStart_list XS (T.self _ 0 _ _ _ CU XS)
theorem oi{H Hf:Hp}:∀{bs:List Addr},(∀b∈bs,H b=Qa (.qA []))->xi p H Hf bs (Qj bs.length [])
 |[],_=>rfl
 |b::bs,h=>#[[],Qj bs.length [],rfl,#[[],h b (by simp),rfl],oi λc hc=>h c (Qd _ hc)]
def q9c{a:Qs}{CT:WD}(hc:X.calm=Qb)(S:ScOk X sc [t])(hg:Gl X "range")(hm:X.mg "range"=Qc)(ha:SE X p G sub a l)(qe:QM [a] X.env=[(Qf,Je a X.env)])
  (hNi:(za [t] X.N).Nodup) (htl:sc.names.lookup t=Qa .local)
  (hN:X.N.Nodup) (D8:X.N[i]?=Qa x) (hx:Loc X.env.scope x) (hf:X.fn x=Qb\/X.env.scope.names.lookup x=Qa .local)
  (vR:J9 (.ListComp (.List [] q) [#[.Name t q2,.Call (.Name "range" q3) [a] [] q4,[],0]] sc pos) (Qa (.Name x j0)) CT.line X.env=pure Qb):
  SS X p G sub (.Assign [.Name x j0] (.ListComp (.List [] q) [#[.Name t q2,.Call (.Name "range" q3) [a] [] q4,[],0]] sc pos) CT) (.setE i l):=by
 intro H0 O0 E hp pins s Y H Z os I B hs uV;have e0:ex G sub (.setE i l) Z=(ev G sub l Z).go Z λd=>match d with
   |.int n=>if 0<=n/\n<=1000 then .ok (Z.set i (Qa (.j6 (Qj n.toNat [])))) .nx else .qC
   |_=>.qC:=rfl
 rw[e0]at hs uV|-;refine qd (Ii (Le I.ok S)) λcl wG kT ye=>?_;have lt:i<Z.length:=by rw[<-B.jU,I.len];exact(Qn.mp D8).1
 have hG:∀s2 H2 cl C fp,X0 (j4 X s2 H2 sc cl C (za [t] X.N) fp) p (.Name t q2) 0 [t].length:=λs2 H2 cl C fp=>rH hNi rfl (by show(UY sc X.env).names.lookup t=_;rw[XR,htl];rfl)
 rw[exec_Assign_Name_used _ _ _ _ vR];refine Qe (Wx (Qe ?_));show wpAny _ X.A (do let _ <-comprehension (.ListComp (.List [] q) [#[.Name t q2,.Call (.Name "range" q3) [a] [] q4,[],0]] sc pos) sc X.env _ (newList []) Qf (Je (.Call (.Name "range" q3) [a] [] q4) X.env) (Qa (Vm (.Name x j0) X.env))) _ _ s;have si:=ar (X:=X) (p:=p) (G:=G) (sub:=sub) (tg:=.Name t q2) (q:=q3) (pos:=q4) hg hm (pz ha r8 (by rw[qe];rfl)) qe;cases F:ev G sub l Z with
 |qC=>simp only[F]at hs;cases hs rfl
 |err c=>
  have g:jR G sub (.rng [l]) Z=.err c:=by rw[vh,jK,F];rfl
  refine Qe (Qh (Y8 (use:=Qa (Vm (.Name x j0) X.env)) (Q:=λ_ s'=>False) rfl (λ_=>rfl) wG S.kind S.names
   (Qh (si pins s Y H Z _ I B.rel (by rw[g];simp)) (λv s1 h1=>Qh h1 (λuA s2 h2=>?_) (λe s' z=>uV e s' ?_)) (λe s' z=>uV e s' ?_))) (λ_ s' U=>U.elim) λ_ _ e=>e)
  .refine qH h2 λds e1 _=>?_;rw[g]at e1;cases e1
  .rw[g]at z;refine qH z λc' e1 m=>?_;cases e1;exact#[c,Z,Y,os,H,by rw[F];rfl,B,m]
  .rw[g]at z;refine qH z λc' e1 m=>?_;cases e1;exact#[c,Z,Y,os,H,by rw[F];rfl,B,m]
 |ok d=>
  simp only[F]at hs uV|-;obtain⟨n,rfl⟩:=zI hs;have hs:(if 0<=n/\n<=1000 then RS.ok (Z.set i (Qa (.j6 (Qj n.toNat [])))) .nx else .qC)≠.qC:=hs
  by_cases hn:0<=n/\n<=1000
  .have g:jR G sub (.rng [l]) Z=.ok ((Qu n.toNat).map λ(k:Nat)=>.int k):=by rw[vh,jK,F,jg];show xU [.int n]=_;unfold xU;dsimp only;rw[if_pos ∅]
   refine Qe (Qh (Y8 (use:=Qa (Vm (.Name x j0) X.env)) (Q:=λ_ s'=>Gs X p H0 O0 pins (if 0<=n/\n<=1000 then RS.ok (Z.set i (Qa (.j6 (Qj n.toNat [])))) .nx else .qC) .next s') rfl (λ_=>rfl) wG S.kind S.names
    (Qh (si pins s Y H Z _ I B.rel (by rw[g];simp)) (λv s1 h1=>Qh h1 (λuA s2 h2=>?_) (λe s' W=>qH W λc z _=>by rw[g]at z;cases z)) (λe s' W=>qH W λc z _=>by rw[g]at z;cases z))) (λ_ s' U=>Qi (Qi U)) λ_ _ e=>e)
   rw[g]at h2;refine EH h2 λds e1 it fp tn J H2 W I2 T w8 f2 x2 vs rep wk=>?_;subst W;cases e1;have i6:((Qu n.toNat).map λ(k:Nat)=>D.int k).length=n.toNat:=(by simp);refine q13 (RR:=λacc C=>compPost (model X.prog X.w) X.A _ (Qa (Vm (.Name x j0) X.env)) _ acc C) hc S kT ye hG I2 T w8 f2 rep (bS wk) (by rw[i6];lia) λD C s' H' bs I' x' xI lbs nd nw nl yi fC=>?_;obtain⟨m,XG⟩:=yi;refine k8 fC λf0 f1 LU f3 f4 f5=>?_;refine xu (id XG) λoC LI LB O8 D6 OD=>?_;have IP:Inv X (pins++[(C,oC)]) Y H' s':=I'.CH λq U=>(QF.mp U).elim (λz=>I'.pin q (Qr _ z)) λz=>by cases QE.mp z;exact#[O8,f0,f1,LU,λv z=>by rw[D6]at z;cases z]
   refine Ul (wu IP hN D8 hx (v:=.ref D) rfl (λs3 I3=>?_) hf);have hC3:=(I3.pin (C,oC) (Qr _ (Qr _ (QE.mpr rfl)))).1;rw[if_pos hn];have lb:bs.length=n.toNat:=lbs.trans i6;refine#[m,#[oC,LI,LB,hC3,D6,OD],λh' TV=>#[_,.nx,_,_,H',rfl,(B.mono x2).jF lt x' (as:=D::bs) nd nw (λb hb=>?_) #[D,bs,rfl,rfl,xI,?_],?_,trivial]]
   .rcases Ql.mp hb with rfl|hb
    .exact#[_,xI]
    .exact#[_,nl b hb]
   .rw[<-lb];exact oi nl
   .exact I3.yV.turned (t':=s3.toks) (λb o hb e=>TV.extBut b o hb e) f0 f1 f3 f4 f5
  .rw[if_neg hn]at hs;cases hs rfl
theorem aL{H Hf:Hp}:∀{bs:List Addr}{xss:List (List D)}{n:Nat}{ys:List D},bs.Nodup->xi p H Hf bs xss->xss[n]?=Qa ys->∃b vs,bs[n]?=Qa b/\H b=Qa (.qA vs)/\qK p Hf ys vs/\∀d v,Rep p Hf d v->xi p (upd H b (.qA (vs++[v]))) Hf bs (xss.set n (ys++[d]))
 |[],xss,n,ys,_,h,e=>by cases(show xss=[] from h);simp at e
 |b::bs,_,0,ys,nd,h,e=>by obtain⟨xs,r,rfl,⟨vs,k,g⟩,F⟩:=h;simp at e;subst e;exact#[b,vs,rfl,k,g,λd v q=>#[_,r,rfl,#[_,zb,g.snoc q],aK (QP.mp nd).1 F]]
 |b::bs,_,n+1,ys,nd,h,e=>by obtain⟨xs,r,rfl,⟨vs,k,g⟩,F⟩:=h;refine zN (aL (QP.mp nd).2 F (by simpa using e)) λI kP J T U W=>?_;refine#[I,kP,by simpa using J,T,U,λd v q=>#[xs,_,rfl,#[vs,?_,g],W d v q]];have ne:b≠I:=λz=>(QP.mp nd).1 (z▸Qp J);rw[qW ne];exact k
def q9G{k a:Qs}(hi:X.N[i]?=Qa x)(hv:jY X.env.scope x)(hd:nD x)(zE:nC x)(hk:SE X p G sub k lk)(Ro:ID k)(ha:SE X p G sub a l)
  (qe:QM [a] X.env=[(Qf,Je a X.env)]) (zd:(ap.endLine==cp.line)=Qb):SS X p G sub (.Expr (.Call (.Attribute (.Subscript (.Name x q) k q2) "append" ap) [a] [] cp) pos) (.app2 i lk l):=by
 intro H0 O0 E hp pins s Y H Z os I B hs g;have e0:ex G sub (.app2 i lk l) Z=match Z[i]?with
   |some (Qa (.j6 xss))=>(ev G sub lk Z).go Z λx=>match x with
     |.int n=>if 0<=n then(match xss[n.toNat]?with
       |some ys=>(ev G sub l Z).go Z λd=>if ys.length<big then .ok (Z.set i (Qa (.j6 (xss.set n.toNat (ys++[d]))))) .nx else .qC
       |none=>.qC)else .qC
     |_=>.qC
   |_=>.qC:=rfl
 rw[e0]at hs g|-;split at hs
 .rename_i xss W;simp only[W]at g|-;refine fL (B.at W) λy as s1 s2 a0 bs qw qx s5 s6=>?_;subst qw qx;have Sn:(a0::bs).Nodup:=by
   have h1:(a0::bs).Sublist os.flatten:=by obtain⟨l1,l2,e⟩:=UJ (Qp s2);rw[e,List.flatten_append,Jb];exact(List.sublist_append_left _ _).trans (List.sublist_append_right _ _)
   have h2:os.flatten.Nodup:=(by have:=B.rel.nd;rw[vj]at this;exact(QS.mp this).1);exact h2.sublist h1
  refine Uq (Us rfl (by rw[qe];rfl) zd rfl (ZV (kN I hi hv s1 hd zE λu r=>?_))) I.quiet rfl;cases r;refine Qh (hk pins s Y H Z _ I B.rel (zh hs)) (λu1 t1 J=>qY J λd1 y1 H1 e1 I1 r1 F q1=>?_) (λe s' z=>g e s' (j9 B z));rw[e1]at hs g|-;obtain⟨n,rfl⟩:=zI hs;have hs:(if 0<=n then(match xss[n.toNat]?with
       |some ys=>(ev G sub l Z).go Z λd=>if ys.length<big then RS.ok (Z.set i (Qa (.j6 (xss.set n.toNat (ys++[d]))))) .nx else .qC
       |none=>.qC)else .qC)≠.qC:=hs
  have g:∀e s',Es X p H0 O0 pins (if 0<=n then(match xss[n.toNat]?with
       |some ys=>(ev G sub l Z).go Z λd=>if ys.length<big then RS.ok (Z.set i (Qa (.j6 (xss.set n.toNat (ys++[d]))))) .nx else .qC
       |none=>.qC)else .qC) e s'->E e s':=g
  by_cases hn:0<=n
  .rw[if_pos hn]at hs g;cases U:xss[n.toNat]?with
   |none=>simp only[U]at hs;cases hs rfl
   |some ys=>
   simp only[U]at hs g;cases(show y1=_ from q1);have B1:=B.mono F;refine zN (aL (QP.mp Sn).2 (A5 F (jB F) s6) U) λb vs g1 g2 g3 g4=>?_;have hat:X1 (bs.map V.ref) n=Qa (.ref b):=by have qp:=(Qn.mp g1).1;unfold X1 PA;rw[if_pos hn,if_pos (by rw[Qm];lia)];show(bs.map V.ref)[n.toNat]?=_;rw[QB,g1];rfl
   refine l6 (X:=X.ql E) (.Name x q) k pins t1 Y H1 (.ref a0) (.int n) _ _ (λz H'=>z=.ref b/\H'=H1) (I1.ql E) rfl r1 #[a0,bs.map V.ref,n,.ref b,rfl,rfl,zM.of (F _ _ s5),hat,rfl,rfl] (Ro _ _)|>λh=>Qh h (λu2 t2 J=>zN J λz H2 I2 rz ez eH=>?_) (λ_ _ z=>z)
   subst ez eH;cases rz;have I2:=I2.wB;obtain⟨h1,h2⟩:=Cb (T:="list") (x:=.ref b) I2 rfl (.inl #[rfl,_,zM.of g2]);refine#["list","list.append",Yl,UP,UQ,h1,h2,?_];rw[qe];refine JW rfl (YL ?_);show wpAny _ _ (VM ((Qf,Je a X.env)::[])) _ _ t2;refine Q4 (Qh (ha pins t2 Y H2 Z _ I2 B1.rel (zh hs)) (λv t3 J=>qY J λd x' H3 e3 I3 r3 x3 q3=>Jl ?_) (λe s' z=>g e s' (ES B F z)));rw[e3,qT]at hs;have z:ys.length<big:=by
    by_cases z:ys.length<big
    .exact z
    .rw[if_neg z]at hs;cases hs rfl
   refine zN (aL (QP.mp Sn).2 (A5 (F.trans x3) (jB (F.trans x3)) s6) U) λb' kP k1 k2 k3 k4=>?_;rw[g1]at k1;cases k1;have hl:=k3.length;refine Qh (Ds (X:=X.ql E) pins t3 Y H3 (.ref b) [x'] _ _ (λz H'=>H'=upd H3 b (.qA (kP++[x']))) (I3.ql E) rfl (.cons r3 .nil) #[b,kP,x',rfl,rfl,k2,Qz ∅ wQ,rfl]) (λw t4 J=>qN J λzv H4 I4 _ eH=>?_) (λ_ _ z=>z);subst eH;have mb:b∈bs:=Qp g1;have nb:a0≠b:=λz=>(QP.mp Sn).1 (z▸mb);refine#[_,.nx,Y,os,_,?_,(B.mono (F.trans x3)).write (c:=b) (sl:=.j6 (xss.set n.toNat (ys++[d]))) (o:=.qA (kP++[x'])) s1 s2 (Qd _ mb) #[a0,bs,rfl,rfl,?_,k4 d x' q3],I4.wB,trivial]
   .show (if 0<=n then(match xss[n.toNat]?with
       |some ys=>(ev G sub l Z).go Z λd=>if ys.length<big then RS.ok (Z.set i (Qa (.j6 (xss.set n.toNat (ys++[d]))))) .nx else .qC
       |none=>.qC)else .qC)=_
    rw[if_pos hn,U];dsimp only;rw[e3,qT,if_pos z]
   .rw[qW nb];exact x3 _ _ (F _ _ s5)
  .rw[if_neg hn]at hs;cases hs rfl
 .cases hs rfl
def Bd.out(b:Bd p H0 O0 Z Y os H)(m:a∈os.flatten):a∉O0:=λh=>by have:=b.rel.nd;rw[vj]at this;exact(QS.mp this).2.2 a m a h rfl
def q3V(I:Inv X pins Y H s)(e:H a=Qa (.dK kvs)):∃o,Inv X pins Y (upd H a (.frz o (.dK kvs))) s:=by
 obtain⟨o,F⟩:=Gy (I.qO a _ e);have g:∀{b:Addr}{u:HO},H b=Qa u->(∀k,u≠.dK k)->b≠a:=λ{b u} q n z=>by rw[z,e]at q;exact n _ (QV q).symm
 refine#[o,I.un #[λb u q _ _ _=>q,λb u q _ _ _=>#[u.slots,q],λb u q n _=>by rw[qW λz=>by rw[z,e]at n;cases n];exact n,λb u q _=>#[u,q],λb xs q=>by rw[qW (g q λ_ z=>nomatch z)];exact q,λb u xs q=>by rw[qW (g q λ_ z=>nomatch z)];exact q,λb ps q=>#[#[],by rw[qW (g q λ_ z=>nomatch z),q];simp]] λb u q=>?_];have st:∀{c:Addr}{v:HO},jn X.prog X.w H s.heap c v->jn X.prog X.w (upd H a (.frz o (.dK kvs))) s.heap c v:=λh=>h.xa (λ_ _ _ q=>q) (λc q=>by rw[qW (g q λ_ z=>nomatch z)];exact q) (λc xs q=>by rw[qW (g q λ_ z=>nomatch z)];exact q) λc _ xs q=>by rw[qW (g q λ_ z=>nomatch z)];exact q
 by_cases hb:b=a
 .subst hb;rw[zb]at q;cases q;exact#[F,st (I.qO b _ e)]
 .rw[qW hb]at q;exact st (I.qO b u q)
def q26(m:a∈O)(h:∀b∈O',b∈O):Ext (fz O H) (fz O' (upd H a o)):=λc u e=>by
 unfold fz at e|-;split at e
 .cases e
 .rename_i n;have ne:c≠a:=λz=>n (z▸m);rw[if_neg λz=>n (h c z),qW ne];exact e
def rF(lt:i<os.length):∀a∈(os.set i []++[O0]).flatten,a∈(os++[O0]).flatten:=λa b=>by rw[<-yT lt]at b;exact(xQ b).elim id λz=>absurd z (by simp)
theorem rS{H H' Hf F:Hp}{x:Option Sl}{o:HO}{c:Addr}(k:H'=upd H c o)(U:Ext Hf F):∀{Z:Ev.Env}{Y:L2.St}{os:List (List Addr)}(i:Nat){y:Option V}{as:List Addr},ju p H Hf Z Y os->Y[i]?=Qa y->os[i]?=Qa as->c∈as->os.flatten.Nodup->yW p H' F x y []->
  ju p H' F (Z.set i x) Y (os.set i [])
 |[],_,_,_,_,_,_,_,_,_,_,_=>trivial
 |_::Z,_,_,0,y,as,h,e1,e2,hc,nd,q=>by refine yA h λy1 b xj I J T W g=>?_;subst J T;simp at e1 e2;subst e1 e2;simp at nd;subst k;exact#[_,b,_,I,rfl,rfl,q,Tx (Ext.refl _) U (ax (λz=>(QS.mp nd).2.2 c hc c z rfl) g)]
 |_::Z,_,_,i+1,y,as,h,e1,e2,hc,nd,q=>by refine yA h λy1 b xj I J T W g=>?_;subst J T;simp at nd;refine#[y1,b,xj,I.set i [],rfl,rfl,?_,rS k U i g (by simpa using e1) (by simpa using e2) hc (QS.mp nd).2.1 q];subst k;exact aw (Ext.refl _) U (av (λz=>(QS.mp nd).2.2 c z c (Q5.mpr #[as,Qp (by simpa using e2),hc]) rfl) W)
def Bd.alone(b:Bd p H0 O0 Z Y os H)(J:os[i]?=Qa [a]):a∉(os.set i []++[O0]).flatten:=by
 intro z;rw[vj]at z;rcases QF.mp z with z|z
 .obtain⟨as,k,g⟩:=Q5.mp z;obtain⟨j,F,I⟩:=Jv k
  by_cases c:j=i
  .subst c;rw[List.getElem_set_self]at I;rw[<-I]at g;simp at g
  .rw[List.getElem_set_ne (JK c)]at I;have:∀(l:List (List Addr))(i j:Nat)(hi:i<l.length)(F:j<l.length),i≠j->a∈l[i]->a∈l[j]->¬l.flatten.Nodup:=by
    intro l
    induction l with
    |nil=>intro i j hi;simp at hi
    |cons x l T=>
     intro i j hi F ne k g nd;simp at nd;have nd:=QS.mp nd;cases i with
     |zero=>
      cases j with
      |zero=>exact ne rfl
      |succ j=>exact nd.2.2 a k a (Q5.mpr #[_,Jz (by simpa using F),by simpa using g]) rfl
     |succ i=>
      cases j with
      |zero=>exact nd.2.2 a g a (Q5.mpr #[_,Jz (by simpa using hi),by simpa using k]) rfl
      |succ j=>exact T i j (by simpa using hi) (by simpa using F) ∅ (by simpa using k) (by simpa using g) nd.2.1
   exact this os i j ((Qn.mp J).1) (by simpa using F) (JK c) (by rw[((Qn.mp J).2)];simp) (by rw[I];exact g) (by have:=b.rel.nd;rw[vj]at this;exact(QS.mp this).1)
 .exact b.out (Q5.mpr #[[a],Qp J,by simp]) z
def Bd.q24{o:Obj}(b:Bd p H0 O0 Z Y os H)(e1:Y[i]?=Qa (Qa (.ref a)))(g:os[i]?=Qa [a])(T:ks=kvs.map (λq=>zo q.1))(U:qK p (fz (os++[O0]).flatten H) ds (kvs.map (·.2))):
  Rep p (fz (os.set i []++[O0]).flatten (upd H a (.frz o (.dK kvs)))) (.z7 ks ds) (.ref a)/\Bd p H0 O0 (Z.set i (Qa (.val (.z7 ks ds)))) Y (os.set i []) (upd H a (.frz o (.dK kvs))):=by
 have lt:i<os.length:=(Qn.mp g).1;have k:a∈os.flatten:=Q5.mpr #[[a],Qp g,by simp];have F:=b.alone g;have I:Ext (fz (os++[O0]).flatten H) (fz (os.set i []++[O0]).flatten (upd H a (.frz o (.dK kvs)))):=q26 (by rw[vj];exact QR _ k) (rF lt);have rep:Rep p (fz (os.set i []++[O0]).flatten (upd H a (.frz o (.dK kvs)))) (.z7 ks ds) (.ref a):=#[a,kvs,o,rfl,kB zb F,T,U.mono I]
 refine#[rep,#[#[?_,λc hc=>?_,?_],by simp[b.len],by simp[b.jU],λc u e=>?_,λc hc=>?_]]
 .rw[<-yT lt];exact C7 YO b.rel.nd λa J=>absurd J (by simp)
 .obtain⟨u,e⟩:=b.rel.there c (rF lt c hc);have ne:c≠a:=λz=>F (z▸hc);exact#[u,by rw[qW ne];exact e]
 .have:=rS (x:=Qa (.val (.z7 ks ds))) (c:=a) (o:=.frz o (.dK kvs)) rfl I i b.rel.slots e1 (by rw[Q2 lt];exact g) (QE.mpr rfl) b.rel.nd #[rfl,.ref a,rfl,rep]
  rwa [yT lt]at this
 .rw[qW λz=>by rw[z,b.new a k]at e;cases e];exact b.ext c u e
 .exact (xQ hc).elim (b.new c) λz=>absurd z (by simp)
theorem oj{H:Hp}{O O':List Addr}:∀{bs:List Addr}{xss:List (List D)},(∀b∈bs,b∉O')->(∀b∈O',b∈O)->xi p H (fz O H) bs xss->qK p (fz O' H) (xss.map .qA) (bs.map V.ref)
 |[],xss,_,_,h=>by cases h;rfl
 |b::bs,_,n,hs,h=>by obtain⟨xs,r,rfl,⟨vs,g,k⟩,z⟩:=h;exact#[.ref b,bs.map V.ref,rfl,#[b,vs,rfl,zM.of (kB g (n b (by simp))),k.mono (ya hs)],oj (λc hc=>n c (Qd _ hc)) hs z]
def q9X(hi:X.N[i]?=Qa x)(hv:jY X.env.scope x)(hd:nD x)(zE:nC x):SS X p G sub (.Return (Qa (.Name x q)) pos) (.retO i):=by
 intro H0 O0 E hp pins s Y H Z os I B hs hE;have e0:ex G sub (.retO i) Z=match Z[i]?with
   |some (Qa (.own d))=>.ok (Z.set i Qc) (.ret d)
   |some (Qa (.j6 xss))=>.ok (Z.set i Qc) (.ret (.qA (xss.map .qA)))
   |_=>.qC:=rfl
 rw[e0]at hs hE|-;have lt:i<Z.length:=by rw[<-B.jU,I.len];exact(Qn.mp hi).1
 have W:Inv X pins (Y.set i Qc) H s:=I.weak (by simp) λj v e=>by
  by_cases c:i=j
  .subst c;rw[Yv (by rw[B.jU];exact lt)]at e;cases e
  .rw[Yg c]at e;exact e
 split at hs
 .rename_i d g;refine EJ (B.at g) λy as s1 s2 a T U k=>?_;subst T U;have z:a∈os.flatten:=Q5.mpr #[[a],Qp s2,by simp];refine Ur (kN I hi hv s1 hd zE λu r=>?_);cases r;cases d<;>first
   |exact k.elim
   |skip
  .refine qH k λvs F J=>?_;exact#[_,_,_,_,H,rfl,B.Xd lt,W,.ref a,rfl,a,vs,rfl,zM.of (kB F (B.out z)),J.mono Lg]
  .refine qd k λkvs F J h3=>?_;obtain⟨o,I2⟩:=q3V W F;obtain⟨rep,B2⟩:=B.q24 (o:=o) s1 s2 J h3;have B3:=B2.Xd (i:=i) (y:=Qc) (by simpa using lt);rw[ZI]at B3;exact#[_,_,_,_,_,rfl,B3,I2,.ref a,rfl,rep.mono Lg]
 .rename_i xss g;refine fL (B.at g) λy as s1 s2 a bs T U k s6=>?_;subst T U;have z:∀b∈a::bs,b∈os.flatten:=λb hb=>Q5.mpr #[_,Qp s2,hb];refine Ur (kN I hi hv s1 hd zE λu r=>?_);cases r;exact#[_,_,_,_,H,rfl,B.Xd (y:=Qc) lt,W,.ref a,rfl,a,bs.map V.ref,rfl,zM.of (kB k (B.out (z a (by simp)))),oj (λb hb=>B.out (z b (Qd _ hb))) (λb hb=>by rw[vj];exact Qr _ hb) s6]
 .cases hs rfl
def q0P{i:Int}(h:0<=i):((W5 i:Nat):Int)=if i=0 then 0 else((i.toNat.log2+1:Nat):Int):=by
 unfold W5
 by_cases c:i=0
 .subst c;rfl
 .have e:i.natAbs=i.toNat:=∅
  rw[if_neg c,if_neg (by simpa using c),e]
def q8B{o:Qs}(U:YN o "bit_length" X.env (Je o X.env)=Je o X.env)(zd:(ap.endLine==cp.line)=Qb)(J:SB X p G sub o l):SE X p G sub (.Call (.Attribute o "bit_length" ap) [] [] cp) (.bi .bits [l]):=by
 intro pins s Y H Z os I R hs;refine wpAny_Call_method0_late U zd (Qh (J pins s Y H Z os I R (FQ hs)) (λu s1 h=>?_) (λ_ _=>FP));refine qY h λd v H1 e1 b T W q1=>?_;have g:ev G sub (.bi .bits [l]) Z=zF sub .bits [d]:=by rw[kI,PX l Z _ (λ_=>rfl),e1];rfl
 rw[g]at hs|-;obtain⟨i,rfl⟩:=zJ hs;have hs:(if 0<=i then Ev.R.ok (D.int (if i=0 then 0 else((i.toNat.log2+1:Nat):Int)))else .qC)≠.qC:=hs
 by_cases hi:0<=i
 .have k:zF sub .bits [.int i]=.ok (.int (if i=0 then 0 else((i.toNat.log2+1:Nat):Int))):=by show(if 0<=i then _ else _)=_;rw[if_pos hi]
  cases q1;obtain⟨t,rfl⟩:=T;refine#["int","int.bit_length",PySem.F.plainAttrs_int,PySem.F.slot_int_bit_length,PySem.F.type_int_bit_length,ZP _ _ _,(λ_ z=>by cases z),?_];refine JW rfl (Z5 ?_);refine PyProof.Rows.call_int_bit_length ?_;exact#[_,.int _,H1,k,b.tok _,#[_,by rw[q0P hi]],W,rfl]
 .rw[if_neg hi]at hs;cases hs rfl
theorem dg{h:Heap}{ds:List D}{x:D}(b:zj ds=Qb)(g:pl x=Qb):∀{es:List D}{us:List Value},(∀e∈es,e∈ds)->zU h es us->us.countP (eqTo h ds x)=(es.filter λy=>qM y x).length
 |[],us,_,y=>by cases y;rfl
 |e::es,us,hs,y=>by refine qN y λu r F y1 y2=>?_;subst F;rw[WA,dg b g (λz k=>hs z (Qd _ k)) y2,EM b g (hs e Qg) y1,Js];split<;>simp
theorem iR{h:Heap}{ds:List D}{x:D}(F:zj ds=Qb)(I:pl x=Qb):∀{es:List D}{us:List Value}{n:Nat}{r:D},(∀e∈es,e∈ds)->zU h es us->idxOf x es n=.ok r->
  ∃(j:Nat)(k:j<us.length),r=.int ((n+j:Nat):Int)/\eqTo h ds x us[j]=Qb/\∀m(b:m<us.length),m<j->eqTo h ds x us[m]=Qf
 |[],us,n,r,_,y,e=>by exact nR e
 |d::es,us,n,r,hs,y,e=>by
  refine qN y λu r' W y1 y2=>?_;subst W;have g:=EM F I (hs d Qg) y1;unfold idxOf at e;split at e
  .rename_i c;cases e;exact#[0,by simp,by simp,by simpa[g]using c,λm b z=>absurd z (Nat.not_lt_zero _)]
  .rename_i c;obtain⟨j,k,e1,J,T⟩:=iR F I (λz U=>hs z (Qd _ U)) y2 e;refine#[j+1,by simpa using k,by rw[e1];congr 1;lia,by simpa using J,λm b z=>?_];cases m with
   |zero=>simpa[g]using c
   |succ m=>simpa using T m (by simpa using b) ∅
def q74(h:Xa l=Qb):ev G sub l Z=.qC\/∃d,ev G sub l Z=.ok d:=by
 unfold Xa at h;split at h
 .exact .inr #[_,qt ..]
 .rw[kI,jK,qQ];unfold zH;split
  .exact RH sub .wj [_]
  .exact .inl rfl
 .rw[kI,jK,T3];unfold X9;split<;>first
   |exact RH sub .wj [_]
   |exact .inl rfl
 .cases h
def r9{J:String}{b:Bi}{o y:Qs}(hK:p.K=X.K)(u6:Xa ly=Qb)(hy:SE X p G sub y ly)(qe:QM [y] X.env=[(Qf,Je y X.env)])(slot:Slot "list" name J)(W:typeOf (.builtin J)=pure (.type "method_descriptor"))
  (uW:YN o name X.env (Je o X.env)=Je o X.env) (zd:(ap.endLine==cp.line)=Qb) (ho:SB X p G sub o l)
  (hl:∀d g r,zF sub b [d,g]=.ok r->∃xs,d=.qA xs)
  (hm:∀(E:NZ)(pins:List (Addr×Obj))(s:Shared)(Y:L2.St)(H:Hp)(os:List (List Addr))(xs:List D)(g:D)(v w:V)(u U:Value)(r:D),Inv X pins Y H s->RelV v u->RelV w U->jH p H (fz os.flatten H) (.qA xs) v->Rep p (fz os.flatten H) g w->zF sub b [.qA xs,g]=.ok r->
   wX X (call (.builtin J) [u,U]) (EP (X.ql E) pins Y (Fin p os.flatten H r)) E s):
  SE X p G sub (.Call (.Attribute o name ap) [y] [] cp) (.bi b [l,ly]):=by
 intro pins s Y H Z os I R hs;have e0:ev G sub (.bi b [l,ly]) Z=(ev G sub l Z).bind λx=>(ev G sub ly Z).bind λz=>zF sub b [x,z]:=by rw[kI,jK,jK];cases ev G sub l Z<;>cases ev G sub ly Z<;>rfl
 rw[e0]at hs|-;refine Us uW (by rw[qe];rfl) zd (by rw[qe]) (Qh (ho pins s Y H Z os I R (zP hs)) (λu s1 h=>?_) (λ_ _ z=>z.bind));refine qY h λd v H1 e1 I1 r1 x1 q1=>?_;rw[e1,qF]at hs|-;rcases q74 (Z:=Z) u6 with z|⟨g,F⟩
 .rw[z]at hs;cases hs rfl
 rw[F,qF]at hs|-;rcases RH sub b [d,g]with z|⟨r,z⟩
 .exact absurd z hs
 obtain⟨xs,rfl⟩:=hl d g r z;have q1':=q1;refine qN q1' λa vs k s5 s6=>?_;subst k;cases r1;obtain⟨h1,h2⟩:=Cb (T:="list") (x:=.ref a) I1 rfl (.inl #[rfl,_,hK▸s5]);refine#["list",J,Yl,slot,W,h1,h2,?_];refine JW rfl (YL ?_);refine Q4 (Qh (hy pins s1 Y H1 Z os I1 (R.ext x1) (by rw[F];simp)) (λU s2 k=>qY k λd2 w H2 e2 I2 r2 x2 q2=>Jl ?_) (λe s' k=>qH k λc z _=>by rw[F]at z;cases z));rw[F]at e2;cases e2;rw[z];exact Qh (hm (Er X p pins Y H (.ok r)) pins s2 Y H2 os xs g (.ref a) w (.ref a) U r I2 rfl r2 (q1.mono x2 (jB x2)) q2 z) (λw' s3 h3=>X6 (x1.trans x2) rfl h3) λ_ _ z=>z
def q8J{o y:Qs}(g:p.K=X.K)(hu:X.A.units+64<cLine)(u6:Xa ly=Qb)(U:SE X p G sub y ly)(W:QM [y] X.env=[(Qf,Je y X.env)])(uW:YN o "count" X.env (Je o X.env)=Je o X.env)(zd:(ap.endLine==cp.line)=Qb)(T:SB X p G sub o l):
  SE X p G sub (.Call (.Attribute o "count" ap) [y] [] cp) (.bi .count [l,ly]):=by
 refine r9 g u6 U W W6 PySem.F.type_list_count uW zd T (λd b r h=>?_) λE pins s Y H os xs b v w u J r I rv vX q1 q2 h=>?_
 .cases d<;>first
   |(cases h;done)
   |exact#[_,rfl]
 .have h:(if pl b&&zj xs then Ev.R.ok (D.int ((xs.filter λy=>qM y b).length))else .qC)=.ok r:=h;split at h
  .rename_i c;simp at c;cases h;obtain⟨a,us,rfl,⟨⟨cl,dd,da,sl⟩,e1,k,n,z⟩,y⟩:=(wV g I zG q1 rv)
   simp only at k z;subst k z;refine VL W6 #[_,e1,rfl] PySem.F.entry_list_count (PySem.F.args_list_count_2 _ _) (SeqAt.list_countAt a us.toArray n dd sl J (eqTo s.heap xs b)) #[e1,PR c.2 c.1 y ((wU g I).1 b w J (q2.mono zG) vX) (by rw[Q8];lia),?_];refine#[.int _,H,(I.ql E).tok _,#[_,rfl],?_];rw[show us.toArray.toList=us from rfl,dg c.2 c.1 (λ_ h=>h) y];exact fin_same rfl
  .exact nR h
def q8N{o y:Qs}(g:p.K=X.K)(hu:X.A.units+64<cLine)(u6:Xa ly=Qb)(hy:SE X p G sub y ly)(qe:QM [y] X.env=[(Qf,Je y X.env)])(uW:YN o "index" X.env (Je o X.env)=Je o X.env)(zd:(ap.endLine==cp.line)=Qb)(ho:SB X p G sub o l):
  SE X p G sub (.Call (.Attribute o "index" ap) [y] [] cp) (.bi .index [l,ly]):=by
 refine r9 g u6 hy qe W7 PySem.F.type_list_index uW zd ho (λd b r h=>?_) λE pins s Y H os xs b v w u W r I U vX q1 q2 h=>?_
 .cases d<;>first
   |(cases h;done)
   |exact#[_,rfl]
 .have h:(if pl b&&zj xs then idxOf b xs 0 else .qC)=.ok r:=h;split at h
  .rename_i c;simp at c;have zl:xs.length<=QD:=by obtain⟨a,vs,rfl,s5,s6⟩:=q1;cases U;obtain⟨its,r1,_,hz⟩:=I.list (g▸s5);have:=s6.length;have:=r1.length;lia
   obtain⟨a,us,rfl,⟨⟨cl,dd,da,sl⟩,e1,J,n,T⟩,y⟩:=(wV g I zG q1 U)
   simp only at J T;subst J T;obtain⟨k,hk,er,uY,yh⟩:=iR c.2 c.1 (λ_ h=>h) y h;subst er;have hl:=y.length;have hsz:=Q6;refine VL W7 #[_,e1,rfl] PySem.F.entry_list_index (PySem.F.args_list_index_2 _ _) (SeqAt.list_indexAt a us.toArray n dd sl W (eqTo s.heap xs b) k (by simpa using hk) ∅ (by simpa using uY) (λm hm z=>by simpa using yh m (by simpa using hm) z)) #[e1,PR c.2 c.1 y ((wU g I).1 b w W (q2.mono zG) vX) (by rw[Q8];lia),?_];refine#[.int _,H,(I.ql E).tok _,#[_,rfl],?_];rw[Vr];exact fin_same rfl
  .exact nR h
open HT
def qA9{t sl:Addr}{b:Array Value}{F I:Value}{lo hi:Option Int}{Q:NZ}(g:IsTup s.heap t b)(hs:s.heap.IsSliceOf sl F I .none)(pl:V5 F lo)(U:V5 I hi)
  (hw:zA b.size 0 lo=0/\zA b.size b.size hi=b.size) (h:Q (.ref t) s):wpAny (model prog w) A (Wf (.ref t) (.ref sl)) Q E s:=by
 refine qd hs λos z k T=>?_;have J:s.TypeIs (.ref sl) "slice":=#[os,z,k]
 unfold Wf
 try with_reducible refine Jm ?_
 first|refine Qe (Qi ?_)|skip
 refine Qe (wpAny_sequenceKey g.typeIs (by decide) ?_);refine Qe (Ue (name:=QA "__getitem__") g.typeIs Ji (J8 Ji g.typeIs entry_tuple_getitem ?_ (args_tuple_getitem _ _)));show wpAny _ _ (Ui (.ref t)>>=_) _ _ s;refine Qe (tupleItemsOf_ g (Qe (VJ J ?_)));rw[if_pos (by decide)];refine Qe (rO #[os,z,k,T] pl U ?_);show wpAny _ _ (if(((zA b.size 0 lo:Nat):Int)==0&&(1:Int)==1&&(zA b.size b.size hi-zA b.size 0 lo)==b.size)=Qb then _ else _) _ _ s;rw[if_pos (by rw[hw.1,hw.2];simp)];unfold Builtin.Tuple.tupleIsExact;refine Qe (Qe (VJ g.typeIs (Qi ?_)));rw[if_pos (by decide)];exact Qe (ZS (Qi #[_,rfl,Qi h]))
def SO(X:Cx)(p:Pm)(G:Nat->List D->R D)(sub:Nat->Nat->Bool)(e:Option Qs)(l:List L):Prop:=(e=Qc/\l=[])\/∃b g,e=Qa b/\l=[g]/\SE X p G sub b g
def rV{e:Option Qs}{l:List L}(h:SO X p G sub e l)(I:Inv X pins Y H s)(R:Rel p Z Y os H)(hs:qu G sub l Z≠.qC):
  wX X (evalPart e X.env) (λu s'=>∃ds H',qu G sub l Z=.ok ds/\Inv X pins Y H' s'/\Ext H H'/\∀o,xS ds=.ok o->V5 u o) (Er X p pins Y H (qu G sub l Z)) s:=by
 rcases h with⟨rfl,rfl⟩|⟨W,b,rfl,rfl,h⟩
 .rw[evalPart_none];exact Qi #[[],H,rfl,I,Ext.refl _,λo e=>by cases e;exact .none]
 .rw[evalPart_some];have F:qu G sub [b] Z=(ev G sub b Z).bind λx=>.ok [x]:=by rw[jK];cases ev G sub b Z<;>rfl
  rw[F]at hs|-;refine Qh (h pins s Y H Z os I R (zP hs)) (λu s1 U=>qY U λd v H1 e1 k J T q1=>?_) (λ_ _ z=>z.bind);refine#[[d],H1,by rw[e1];rfl,k,T,λo e=>?_];cases d<;>first
   |(cases e;done)
   |skip
  rename_i g;obtain rfl:Qa g=o:=by have e:Ev.R.ok (Qa g)=.ok o:=e;cases e;rfl
  cases q1;obtain⟨t,rfl⟩:=J;exact .int _ t
def pN(h:qK p Hf ds vs)(lo hi:Option Int):qK p Hf (wR ds lo hi) (RM vs lo hi):=by unfold wR RM;rw[h.length];exact(h.drop _).take _
def q16(xs:List α)(lo hi:Option Int)(h:HT.zA xs.length 0 lo=0/\HT.zA xs.length xs.length hi=xs.length):wR xs lo hi=xs:=by unfold wR;have b:Xu xs.length 0 lo=0:=h.1;have g:Xu xs.length xs.length hi=xs.length:=h.2;rw[b,g];simp
def q8W{a:Qs}{lo hi:Option Qs}{la:L}{Ot Oq:List L}{p2:WD}(hK:p.K=X.K)(ha:SB X p G sub a la)(TM:SO X p G sub lo Ot)(hhi:SO X p G sub hi Oq):SE X p G sub (.Subscript a (.Slice lo hi Qc p2) pos) (.sl 0 la Ot Oq):=by
 intro pins s Y H Z os I R hs;rw[LK]at hs|-;refine ZV (Qh (ha pins s Y H Z os I R (zP hs)) (λv s1 J=>qY J λd x H1 e1 I1 r1 x1 q1=>?_) (λ_ _ z=>z.bind));rw[e1,qF]at hs|-;have R1:=R.ext x1;refine wpAny_Slice (Qh (rV TM I1 R1 (zP hs)) (λvl s2 J=>zN J λl1 H2 e2 I2 x2 aM=>?_) (λ_ _ z=>(z.ext x1).bind));rw[e2,qF]at hs|-;have R2:=R1.ext x2;refine Qh (rV hhi I2 R2 (zP hs)) (λvu F J=>zN J λl2 U e3 I3 x3 p3=>?_) (λ_ _ z=>(z.ext (x1.trans x2)).bind);rw[e3,qF]at hs|-;rw[evalPart_none];refine Qi ?_;have vF:∀l:List D,xS l=.qC\/∃o,xS l=.ok o:=λl=>by unfold xS;split<;>first|exact .inr #[_,rfl]|exact .inl rfl
 rcases vF l1 with z|⟨g,z1⟩
 .rw[z]at hs;cases hs rfl
 rcases vF l2 with z|⟨k,z2⟩
 .rw[z1,qF,z]at hs;cases hs rfl
 rw[z1,qF,z2,qF]at hs|-;have I4:Inv X pins Y U {F with heap:=F.heap.push {cls:=.type "slice",data:=.fields [vl,vu,.none].toArray}}:=I3.kept (t':=F.toks) λb ob q=>Qk _ q;have sr:=(x1.trans x2).trans x3;have q3:=q1.mono (x2.trans x3) (jB (x2.trans x3));have t3:=(R2.ext x3).th;show wX X (subscriptTail a (.Slice lo hi Qc p2) v (.ref F.heap.objs.size)) _ _ {F with heap:=F.heap.push {cls:=.type "slice",data:=.fields [vl,vu,.none].toArray}};have fin:∀(E:NZ)(rr:Ev.R D)(r:D),rr=.ok r->∀u s',EP (X.ql E) pins Y (Fin p os.flatten U r) u s'->Gd X p pins Y os H rr u s':=λE rr r e u s' h=>X6 sr e h;cases d<;>first
  |cases hs rfl
  |skip
 .rename_i xs;have e5:Tw 0 g k (.qE xs)=.ok (.qE (wR xs g k)):=rfl;rw[e5];refine zN q3 λt vs J s5 z5 s6=>?_;subst J;cases r1;have pv:zw X.K U t vs:=hK▸zG.va s5
  by_cases hw:HT.zA vs.length 0 g=0/\HT.zA vs.length vs.length k=vs.length
  .refine qd (I4.tuple pv) λits rv W hz=>?_;have qX:its.toArray.size=vs.length:=(by rw[QI];exact rv.length.symm);refine ZU (ops:=[.ref F.heap.objs.size,.ref t]) W.typeIs Ji.lookup (qA9 W (Va ..) (aM g z1) (p3 k z2) (by rw[qX];exact hw) ?_) (by with_unfolding_all rfl);rw[q16 xs g k (by rw[s6.length];exact hw)];exact#[_,.ref t,U,rfl,I4,rfl,sr,t,vs,rfl,s5,z5,s6]
  .obtain⟨T,id',hT,W,hg⟩:=q90 (X:=X.ql (Er X p pins Y H (Ev.R.ok (D.qE (wR xs g k))))) pins _ Y U (.ref t) _ vl vu g k F.heap.objs.size (Fin p os.flatten U (.qE (wR xs g k))) (I4.ql _) rfl (Va ..) (aM g z1) (p3 k z2)
    #[t,vs,rfl,pv,hw,λq n=>LZ t3 (pN s6 g k) (Qw (Ip vs g k) z5) n]
   exact ZU (ops:=[.ref F.heap.objs.size,.ref t]) W hT (Qh hg (λu s' h=>fin _ _ _ rfl u s' h) λ_ _ z=>z) (by with_unfolding_all rfl)
 .rename_i xs;have e5:Tw 0 g k (.qA xs)=.ok (.qA (wR xs g k)):=rfl;rw[e5];refine qN q3 λt vs J s5 s6=>?_;subst J;cases r1;obtain⟨T,id',hT,W,hg⟩:=q8z (X:=X.ql (Er X p pins Y H (Ev.R.ok (D.qA (wR xs g k))))) pins _ Y U (.ref t) _ vl vu g k F.heap.objs.size (Fin p os.flatten U (.qA (wR xs g k))) (I4.ql _) rfl (Va ..) (aM g z1) (p3 k z2)
   #[t,vs,rfl,hK▸s5,λq n=>Ft t3 (pN s6 g k) n]
  exact ZU (ops:=[.ref F.heap.objs.size,.ref t]) W hT (Qh hg (λu s' h=>fin _ _ _ rfl u s' h) λ_ _ z=>z) (by with_unfolding_all rfl)
theorem iW(x:D×D):∀l:List (D×D),(km.insK x l).map (·.1)=ins x.1 (l.map (·.1))
 |[]=>rfl
 |y::l=>by
  show(if qm x.1 y.1 then x::y::l else y::km.insK x l).map (·.1)=if qm x.1 y.1 then x.1::y.1::l.map (·.1)else y.1::ins x.1 (l.map (·.1))
  split
  .rfl
  .rw[QK,iW x l]
theorem rX:∀l:List (D×D),(km l).map (·.1)=jy (l.map (·.1))
 |[]=>rfl
 |x::l=>by show(km.insK x (km l)).map (·.1)=ins x.1 (jy (l.map (·.1)));rw[iW,rX l]
theorem iY(x:D×D):∀l:List (D×D),(km.insK x l).Perm (x::l)
 |[]=>.refl _
 |y::l=>by
  show(if qm x.1 y.1 then x::y::l else y::km.insK x l).Perm _;split
  .exact .refl _
  .exact ((iY x l).cons y).trans (.swap x y l)
theorem rZ:∀l:List (D×D),(km l).Perm l
 |[]=>.refl _
 |x::l=>(iY x (km l)).trans ((rZ l).cons x)
theorem om:∀{l m:List (D×D)},l.Perm m->l.map (·.1)=m.map (·.1)->(l.map (·.1)).Pairwise (·≠·)->l=m
 |[],m,h,_,_=>by rw[List.nil_perm.mp h]
 |x::l,[],h,_,_=>by cases List.perm_nil.mp h
 |x::l,y::m,h,e,nd=>by
  have e1:x.1=y.1:=by simpa using(Vw (by simpa using e)).1
  have g:l.map (·.1)=m.map (·.1):=by simpa using(Vw (by simpa using e)).2
  have k:=QT.mp nd;have F:x∈y::m:=h.mem_iff.mp (by simp);have b:x=y:=by
   rcases Ql.mp F with z|z
   .exact z
   .exfalso;have:x.1∈l.map (·.1):=(by rw[g];exact Qv.mpr #[x,z,rfl]);exact k.1 _ this rfl
  subst b;rw[om (List.perm_cons _|>.mp h) g k.2]
def q6p{xs:List D}{q:Array Nat}(hl:zB.length=xs.length)(h:SoOk zB)(P:qy.Pm q zB.length)(U:qy.Up (yY zB) q zB.length):qy.pick q xs .qI=(km (zB.zip xs)).map (·.2):=by
 have J:(zB.zip xs).length=zB.length:=by simp[hl]
 have lt:∀i∈q.toList,i<zB.length:=λi hi=>QN.mp (P.perm.mem_iff.mp hi);have g:∀i,i<zB.length->(zB.zip xs).getD i (.qI,.qI)=(zB.getD i .qI,xs.getD i .qI):=λi hi=>by
  have k:i<xs.length:=∅
  have I:i<(zB.zip xs).length:=∅
  rw[W8,Qy I,List.getElem_zip];simp[W8,hi,k]
 have b:(qy.pick q (zB.zip xs) (.qI,.qI)).map (·.1)=qy.pick q zB .qI:=by unfold qy.pick;rw[JD];exact Yq λi hi=>by show((zB.zip xs).getD i (.qI,.qI)).1=_;rw[g i (lt i hi)]
 have F:(qy.pick q (zB.zip xs) (.qI,.qI)).map (·.2)=qy.pick q xs .qI:=by unfold qy.pick;rw[JD];exact Yq λi hi=>by show((zB.zip xs).getD i (.qI,.qI)).2=_;rw[g i (lt i hi)]
 have perm:(qy.pick q (zB.zip xs) (.qI,.qI)).Perm (zB.zip xs):=by
  have:=P.perm.map λi=>(zB.zip xs).getD i (.qI,.qI);have e:(Qu zB.length).map (λi=>(zB.zip xs).getD i (.qI,.qI))=zB.zip xs:=by have:=qy.AB (zB.zip xs) ((.qI,.qI):D×D);unfold qy.pick at this;rw[J]at this;simpa using this
  rw[e]at this;exact this
 have fz:(zB.zip xs).map (·.1)=zB:=by rw[List.map_fst_zip ∅]
 have e1:(qy.pick q (zB.zip xs) (.qI,.qI)).map (·.1)=(km (zB.zip xs)).map (·.1):=by rw[b,rX,fz,AD h P U]
 have nd:((qy.pick q (zB.zip xs) (.qI,.qI)).map (·.1)).Pairwise (·≠·):=by rw[b,AD h P U];exact(u9 zB).symm.pairwise h.Fd (λz=>JK z)
 rw[<-F,om (perm.trans (rZ _).symm) e1 nd]
def gJ(I:Inv X pins Y H s)(k:s.heap.get? b=Qc)(hl:X.env.locals<b):jG X pins H b:=by
 have ne:∀c o,s.heap.get? c=Qa o->c≠b:=λc o e z=>by rw[z,k]at e;cases e
 refine#[Ey I.qO k,ZN hl,λz=>?_,.inr (Qw I.ok.above (UG hl)),λx c e=>?_,λq F=>?_]
 .obtain⟨_,o,g,_⟩:=I.funs.mem z;exact ne _ _ g rfl
 .obtain⟨v,o,g,_⟩:=I.cell x c e;exact ne _ _ g
 .exact ne _ _ (I.pin q F).1
def q3U(I:Inv X pins Y H s)(f:jG X pins H a)(new:jn X.prog X.w (upd H a o) s.heap a o):Inv X pins Y (upd H a o) s:=by
 refine k8 f λb J f2 T U W=>?_;have qO:zc X.prog X.w (upd H a o) s.heap:=λc u e=>by
  by_cases hc:c=a
  .subst hc;rw[zb]at e;cases e;exact new
  .rw[qW hc]at e;exact(I.qO c u e).xa (λ_ _ _ q=>q) (λd q=>by rw[qW (jE q b)];exact q) (λd xs q=>by rw[qW (jE q b)];exact q) λd _ xs q=>by rw[qW (jE q b)];exact q
 refine#[I.ok,I.os,I.bare,#[I.base.keep,I.base.slot,λc u e n k=>?_,I.base.there,λc xs e=>?_,λc u v e=>?_,λc ps e=>?_],I.loc,I.cell,?_,λx c e=>?_,λq F=>?_,qO,I.len]
 .rw[qW λz=>?_]
  .exact I.base.free c u e n k
  .rw[z]at e k;rcases T with g|g
   .exact k g
   .exact absurd (Qz (Qx e) g) (Jx _)
 .have:=I.base.yy c xs e;rw[qW (jE this b)];exact this
 .have:=I.base.yB c u v e;rw[qW (jE this b)];exact this
 .obtain⟨more,this⟩:=I.base.yx c ps e;exact#[more,by rw[qW (jE this b)];exact this]
 .rw[qW (JK J)];exact I.free
 .rw[qW (U x c e)];exact I.ky x c e
 .refine y9 (I.pin q F) λe n ne nf d=>?_;exact#[e,by rw[qW (W q F)];exact n,ne,nf,d]
noncomputable def OR(X:Cx):Cx:={X with A:=X.A.in1.in1}
def q3X(I:Inv X pins Y H s):Inv (OR X) pins Y H s:=
 #[#[I.ok.mod,I.ok.kind,I.ok.glob,I.ok.blt,I.ok.above,I.ok.inj,I.ok.has,I.ok.Xx,λz=>I.ok.hd z,I.ok.frames,I.ok.w9,I.ok.EZ,I.ok.bs,I.ok.yX,I.ok.Te,I.ok.RW,I.ok.funs,I.ok.xy],I.os,I.bare,I.base,I.loc,I.cell,I.free,I.ky,I.pin,I.qO,I.len]
def q3a(ok:X.Ok)(I:Inv (OR X) pins Y H s):Inv X pins Y H s:=
 #[ok,I.os,I.bare,I.base,I.loc,I.cell,I.free,I.ky,I.pin,I.qO,I.len]
def nB{f:D->Ev.R D}{x:D}{l:List D}(h:mapR f (x::l)=.ok ks):∃k r,f x=.ok k/\mapR f l=.ok r/\ks=k::r:=by
 unfold mapR at h;cases b:f x with
 |ok k=>
  rw[b]at h;cases g:mapR f l with
  |ok r=>rw[g]at h;cases h;exact#[k,r,rfl,rfl,rfl]
  |err c=>rw[g]at h;cases h
  |qC=>rw[g]at h;cases h
 |err c=>rw[b]at h;cases h
 |qC=>rw[b]at h;cases h
theorem nE{f:D->Ev.R D}:∀{l ks:List D},mapR f l=.ok ks->ks.length=l.length
 |[],ks,h=>by cases h;rfl
 |x::l,ks,h=>by refine qN (nB h) λk r _ b g=>?_;subst g;simp[nE b]
def q6q{b:Addr}(I:Inv X pins Y H s)(g:jG X pins H a)(fb:jG X pins H b)(J:s.heap.get? a=Qa oa)(T:s.heap.get? b=Qa ob)(k:∀v,oa.data≠.cell v)(F:∀v,ob.data≠.cell v):
  Inv X (pins++[(a,oa),(b,ob)]) Y H s:=I.CH λq U=>(QF.mp U).elim (λz=>I.pin q (Qr _ z)) λz=>by
 rcases Ql.mp z with rfl|z
 .exact#[J,g.1,g.2.1,g.2.2.1,k]
 .cases QE.mp z;exact#[T,fb.1,fb.2.1,fb.2.2.1,F]
def gI(f:jG X pins H b)(n:H' b=Qc):jG X pins H' b:=#[n,f.2]
theorem lC{k j:Nat}{f:Addr}{fd:FuncData}{ps:List Str}{pins:List (Addr×Obj)}{Y:L2.St}{O:List Addr}{Dd kS:Addr}{E:NZ}{body:Value->PUnit->Sem (ForInStep PUnit)}
  (F:FX X k f fd ps (wK p G j ps.length)) (hr:Room k X.A.in1.in1) (hb:Binds X.K fd ps []) (h1:∀ds,G j ds≠.qC->ds.length=ps.length) (nd:O.Nodup) (ze:Dd≠kS) (dD:∀v,oD.data≠.cell v)
  (yc:∀x ks e(s:Shared)(C:NZ),Yu ks<64->wpAny (model X.prog X.w) X.A.in1.in1 (call (.ref f) [x]) (λg s'=>s'.heap.get? kS=Qa (J0 "list" (QO ks) e)/\C g {s' with heap:=s'.heap.update kS (Jk (·.push g))}) (λ_ _=>False) s->
   wpAny (model X.prog X.w) X.A.in1.in1 (body x ⟨⟩) (λr s'=>r=.yield ⟨⟩/\∃g,C g s') E s):
  ∀(xs zB:List D)(vs:List V)(us:List Value)(ks:List Value)(kvs:List V)(W:List D)(e:Nat)(H:Hp)(s:Shared),mapR (λx=>G j [x]) xs=.ok zB->Inv X pins Y H s->Th O H->qK p (fz O H) xs vs->Vals vs us->jG X pins H Dd->jG X pins H kS->s.heap.get? Dd=Qa oD->s.heap.get? kS=Qa (J0 "list" (QO ks) e)->
   qK p (fz O H) W kvs->Vals kvs ks->ks.length+xs.length<64->
   wpAny (model X.prog X.w) X.A.in1.in1 (forIn us PUnit.unit body) (λ_ s'=>∃yn DU J H',Inv X pins Y H' s'/\Ext H H'/\jG X pins H' Dd/\jG X pins H' kS/\s'.heap.get? Dd=Qa oD/\s'.heap.get? kS=Qa (J0 "list" (QO yn) J)/\qK p (fz O H') (W++zB) DU/\Vals DU yn) E s
 |[],zB,vs,us,ks,kvs,W,e,H,s,hm,I,t,rx,rv,fD,fk,gD,gk,rk,uo,hz=>by cases hm;cases rx;cases rv;rw[List.forIn_nil];exact Qi #[ks,kvs,e,H,I,Ext.refl _,fD,fk,gD,gk,by simpa using rk,uo]
 |x::xs,zB,vs,us,ks,kvs,W,e,H,s,hm,I,t,rx,rv,fD,fk,gD,gk,rk,uo,hz=>by
  refine qN (nB hm) λkd kr e1 e2 zz=>?_;subst zz;refine qN rx λv vr zz rx1 rx2=>?_;subst zz;cases rv with
  |cons ru rr=>
  rename_i u ur;rw[WL];rw[QH]at hz;refine Qe (Qh (yc u ks e s (λg s'=>∃T H',Inv X pins Y H' s'/\Ext H H'/\jG X pins H' Dd/\jG X pins H' kS/\s'.heap.get? Dd=Qa oD/\(∃J,s'.heap.get? kS=Qa (J0 "list" (QO (ks++[g])) J))/\RelV T g/\Rep p (fz O H') kd T) ∅
   (Qh (AJ (X:=OR X) (k:=k) (j:=j) (f:=f) (fd:=fd) (ps:=ps) (ds:=[x]) (vs:=[v]) (us:=[u]) (O:=O) F hr hb (q6q (q3X I) fD fk gD gk dD (λv z=>by cases z)) (.cons ru .nil) nd t #[v,[],rfl,rx1,rfl] (h1 _ (by rw[e1];simp)) (by rw[e1];simp)) (λg s1 h=>?_) (λJ s' zz=>qH zz λc z _=>by rw[e1]at z;cases z))) (λq s' hq=>?_) λ_ _ z=>z)
  .refine qY h λd' T H1 g1 I1 um U q1=>?_;rw[e1]at g1;cases g1;have pD:=I1.pin (Dd,oD) (Qr _ (Qr _ (by simp)));have pk:=I1.pin (kS,J0 "list" (QO ks) e) (Qr _ (Qr _ (by simp)));have Az:=q3a I.ok I1.yV;have gF:=gI fk pk.2.1;refine k8 (id gF) λg0 g1 g2 g3 g4 g5=>?_;have sb:=JJ s1.heap kS (Jk (·.push g));have ea:(QO ks).push g=QO (ks++[g]):=(by simp);refine#[pk.1,T,H1,Az.turned (λb o hb e=>(sb.2 b hb).trans e) g0 g1 g3 g4 g5,U,gI fD pD.2.1,gF,(sb.2 _ ze).trans pD.1,#[_,by rw[<-ea];exact Uc pk.1 (·.push g)],um,q1]
  .obtain⟨rfl,g,T,H1,I1,U,fD1,fk1,Fx,⟨J,gk1⟩,um,q1⟩:=hq;refine Qh (lC F hr hb h1 nd ze dD yc xs kr vr ur (ks++[g]) (kvs++[T]) (W++[kd]) J H1 s' e2 I1 (t.ext U) (rx2.mono (jB U)) rr fD1 fk1 Fx gk1 ((rk.mono (jB U)).snoc q1) (uo.append (.cons um .nil)) (by simp;lia)) (λ_ CO h=>?_) λ_ _ z=>z;refine Fh h λyn DU e3 H' I' x' a1 a2 a3 a4 a5 a6=>?_;exact#[yn,DU,e3,H',I',U.trans x',a1,a2,a3,a4,by simpa using a5,a6]
def lA{A:Around}{E:NZ}{P:PySem.Fin->Shared->Prop}{st:SortSt}{e:Nat}{ks out:List Value}(I:Inv X pins Y H s)(fD:jG X pins H Dd)(fk:jG X pins H kS)(ze:Dd≠kS)
  (gD:s.heap.get? Dd=Qa (J0 "list" #[] e1)) (gk:s.heap.get? kS=Qa (J0 "list" (QO ks) e)) (z:(arrOf st).map (·.2)=QO out) (hz:out.length<64) (hkz:ks.length<64) (hf:failedOf st=Qc)
  (h:∀h' g,Inv X pins Y H {s with heap:=h'}->h'.get? Dd=Qa (J0 "list" (QO out) g)->P (.done (.ret .none)) {s with heap:=h'}):wpAny (model X.prog X.w) A (ksk_tail Dd Qf e1 (.ref kS) st) P E s:=by
 refine k8 fk λk0 k1 k2 k3 k4 k5=>?_;refine k8 fD λT U d2 W d4 d5=>?_;have s1:=JJ s.heap kS (Jk λ_=>(#[]:Array Value));have F:Inv X pins Y H {s with heap:=s.heap.update kS (Jk λ_=>(#[]:Array Value))}:=I.turned (t':=s.toks) (λb o hb e=>(s1.2 b hb).trans e) k0 k1 k3 k4 k5;have k:(s.heap.update kS (Jk λ_=>(#[]:Array Value))).get? Dd=Qa (J0 "list" #[] e1):=(s1.2 _ ze).trans gD;have J:Inv X pins Y H {s with heap:=(s.heap.update kS (Jk λ_=>(#[]:Array Value))).update Dd (Jk λ_=>QO out)}:=F.turned (t':=s.toks) (λb o hb e=>((JJ (s.heap.update kS (Jk λ_=>(#[]:Array Value))) Dd (Jk λ_=>QO out)).2 b hb).trans e) T U W d4 d5;obtain⟨g,g2⟩:∃g,((s.heap.update kS (Jk λ_=>(#[]:Array Value))).update Dd (Jk λ_=>QO out)).get? Dd=Qa (J0 "list" (QO out) g):=#[_,Uc k λ_=>QO out]
 unfold ksk_tail;dsimp only;rw[z];refine Qe (Y9 gk rfl (Qe (wpAny_letGo (Qe (V7 k rfl (Qe (Y9 k rfl ?_ (QU _) ?_)))))) (by rw[QI,Q6];lia) (QU _))
 .rw[hf];simp;exact Qi (h _ g J g2)
 .show (QO out).size<=_;rw[QI,Q6];lia
def q4E{E:NZ}{P:PySem.Fin->Shared->Prop}{e:Nat}{ks:List Value}{kvs:List V}(hK:p.K=X.K)(hu:X.A.units+64<cLine)(U:SoOk zB)(kd:(∀d∈zB,ub d=Qb)\/∀d∈zB,yk d=Qb)
  (I:Inv X pins Y H s) (fD:jG X pins H Dd) (fk:jG X pins H kS) (ze:Dd≠kS) (gD:s.heap.get? Dd=Qa (J0 "list" #[] e1)) (gk:s.heap.get? kS=Qa (J0 "list" (QO ks) e)) (rk:qK p (fz O H) zB kvs) (uo:Vals kvs ks) (hl:ks.length=us.length)
  (h:∀q h' g,qy.Pm q zB.length->qy.Up (yY zB) q zB.length->Inv X pins Y H {s with heap:=h'}->h'.get? Dd=Qa (J0 "list" (QO (qy.pick q us Jt)) g)->P (.done (.ret .none)) {s with heap:=h'}):
  wpAny (model X.prog X.w) X.A.in1.in1 (ksk_end Dd Qf us.toArray e1 (.ref kS) (QO ks)) P E s:=by
 have z:=rk.length.trans uo.length;have Fz:=U.len;unfold ksk_end;dsimp only;rw[if_neg (by decide)]
 by_cases b:us.toArray.size<2
 .rw[if_pos b,if_pos b];refine Qe (Qi ?_);rw[StateT.run_pure];refine Qe (Qi ?_);have xH:us.length<2:=by simpa using b
  have eo:(((QO ks).zip us.toArray).map λx=>x.2)=us.toArray:=by apply U5.mp;simp[List.map_snd_zip (show us.length<=ks.length by lia)]
  have pr:qy.pick (QO (Qu us.length)) us Jt=us:=qy.AB us _;have el:zB.length=us.length:=z.trans hl;refine lA (out:=us) I fD fk ze gD gk ?_ ∅ ∅ rfl λh' g F g'=>h (QO (Qu us.length)) h' g (by rw[el];exact qy.aY) (λi j wH hj=>by lia) F (by rw[pr];exact g');exact eo
 .have xH:2<=us.length:=by have:¬us.length<2:=(by simpa using b);lia
  rw[if_neg b,if_neg b];have gZ:2<=ks.length:=∅
  refine vN (qy.rf (z▸U.ord) gZ) λb7 AV b8=>?_;have kk:=Oc (prog:=X.prog) (w:=X.w) (A:=X.A.in1.in1) (s:=s) (us:=ks) (by show X.A.units+1+1+8<cLine;lia) U kd ((wU hK I).2 zB kvs ks (rk.mono zG) uo) gZ;refine Qe (Qh kk (λκ s4 h4=>?_) λ_ _ x=>x.elim);obtain⟨rfl,J⟩:=h4;rw[show(if(Qf=Qb)then((QO ks).zip us.toArray).reverse else(QO ks).zip us.toArray)=(QO ks).zip us.toArray from rfl];refine Qe (Qh (kat_run (Q:=λst k=>k=s4/\arrOf st=(qy.run (yY zB) (YB us.length)).map (kas_item ((QO ks).zip us.toArray))/\failedOf st=Qc) (G:=λp k=>p=qy.run (yY zB) (YB us.length)/\k=s4) hl xH ∅ (λp st k a1 a2 a3 W=>#[W.2,by rw[a2,W.1],a3]) (by rw[<-hl];exact qy.bU J _ b7 #[rfl,rfl])) ?_ λ_ _ x=>x);rintro⟨⟨⟩,st⟩ k ⟨rfl,Lv,hf⟩;have rU:qy.Pm (qy.run (yY zB) (YB us.length)) zB.length:=by rw[<-hl,z];exact AV
  have T:qy.Up (yY zB) (qy.run (yY zB) (YB us.length)) zB.length:=by rw[<-hl,z];exact b8
  exact lA (out:=qy.pick (qy.run (yY zB) (YB us.length)) us Jt) I fD fk ze gD gk (kat_snds hl Lv) (by rw[qy.Tn rU];lia) ∅ hf λh' g F g'=>h _ h' g rU T F g'
def q3w(d:D):jC d=.qC\/∃r,jC d=.ok r:=by
 unfold jC;split<;>first
  |exact .inr #[_,rfl]
  |exact .inl rfl
  |(split<;>first|exact .inr #[_,rfl]|exact .inl rfl)
def q8V{k:Nat}{a:Qs}(hK:p.K=X.K)(hc:X.calm=Qb)(hu:X.A.units+64<cLine)(F:FX X k f fd ps (wK p G j ps.length))(hr:Room k X.A.in1.in1)(hb:Binds X.K fd ps [])(h1:∀ds,G j ds≠.qC->ds.length=ps.length)
  (hgf:Gl X fn) (yF:X.mg fn=Qa (.ref f)) (TH:nD fn) (hg:Gl X "sorted") (hm:X.mg "sorted"=Qc) (ha:SB X p G sub a la) (qe:QM [a] X.env=[(Qf,Je a X.env)]):
  SE X p G sub (.Call (.Name "sorted" q) [a] [#[Qa "key",.Name fn q2,q3]] pos) (.skey la j):=by
 intro pins s Y H Z os I R hs;rw[fX]at hs|-;refine Q7 (wJ I hg hm Uz ?_ (by decide) (by decide));refine PyProof.Rows.callWith_kw ?_ (by rw[qe];rfl) (by rw[qe];rfl) rfl rfl;refine CP ha qe I R (zP hs) (λu s1 h=>?_) (λe s' z=>z.bind);refine qY h λd v H1 e1 T r1 x1 q1=>?_;rw[e1,qF]at hs|-;refine PyProof.Rows.kws_cons (xP T hgf yF (PyProof.Rows.kws_nil ?_) TH);rcases q3w d with hi|⟨xs,hi⟩
 .rw[hi]at hs;cases hs rfl
 rw[hi,qF]at hs|-;obtain⟨zB,O1⟩:=Sx hs;rw[O1,ka,qF]at hs|-;have iJ:ko zB=Qb:=by
  cases z:ko zB with
  |true=>rfl
  |false=>rw[z,if_neg (by simp)]at hs;cases hs rfl
 rw[iJ,if_pos rfl];obtain⟨sk,kd⟩:=b9 iJ;have i8:=nE O1;have R1:=R.ext x1;refine qd (su (E:=Er X p pins Y H (Ev.R.ok (D.qA ((km (zB.zip xs)).map (·.2))))) hK hc (A:=X.A.in1) (I.ok.hd hc) T r1 q1 hi) λvs rx hz D4=>?_;have yE:=rx.length;have Fz:=sk.len;show wpAny _ _ (call (.builtin "sorted") [u] [(QA "key",.ref f)]) _ _ s1;refine PyProof.Rows.call_function_entry_kw kind_sorted plain_sorted entry_sorted (ksk_s1 _ _) ?_;unfold Ub.«sorted»;refine Qe (m:=checkCount "sorted" 1 1 _) (Qi (Qe (D4 _ λus yC tk yu k1=>?_)));have hlu:=yu.length;have Xf:us.length<=QD:=by rw[Q6];lia
 refine Qe (Wz ?_ Xf);have I2:Inv X pins Y H1 {s1 with heap:=yC,toks:=tk}:=T.kept k1;have S5:=I2.lt;generalize W:yC.objs.size=Dd at S5;have nD:s1.heap.get? Dd=Qc:=by
  cases z:s1.heap.get? Dd with
  |none=>rfl
  |some o=>exact absurd (Qx (k1 _ _ z)) (by rw[W];exact Jx _)
 have Eg:(yC.push {cls:=.type "list",data:=.seq us.toArray}).get? Dd=Qa (J0 "list" us.toArray 0):=by rw[<-W];exact QG _ rfl
 refine Qe (Jm (PyProof.Rows.wpAny_call_entry_kw slot_list_sort #[_,Eg,rfl] entry_list_sort ?_ (ksk_l1 _ _)));rw[ksk_t1];unfold ksk_tree;obtain⟨L5,g1⟩:∃L5,((yC.push {cls:=.type "list",data:=.seq us.toArray}).update Dd (Jk λ_=>(#[]:Array Value))).get? Dd=Qa (J0 "list" #[] L5):=#[_,Uc Eg λ_=>#[]]
 refine Qe (listItems_at Eg rfl (Qe (Y9 Eg rfl (Qe (V7 g1 rfl (Qe (wpAny_newTuple ?_ Xf)))) (by simpa using Xf) (QU _))));refine Qe (Wz ?_ (QU _));refine Jm ?_;generalize hh3:(((yC.push {cls:=.type "list",data:=.seq us.toArray}).update Dd (Jk λ_=>(#[]:Array Value))).push {cls:=.type "tuple",data:=.seq us.toArray.toList.toArray})=h3;generalize J:h3.objs.size=kS;have lF:∀b x,s1.heap.get? b=Qa x->h3.get? b=Qa x:=λb x z=>by
  have nb:b≠Dd:=λw=>by rw[w,nD]at z;cases z
  rw[<-hh3];exact Qk _ ((JX _ _ (JK nb)).trans (Qk _ (k1 b x z)))
 have g3:h3.get? Dd=Qa (J0 "list" #[] L5):=by rw[<-hh3];exact Qk _ g1
 have SF:Dd<kS:=by rw[<-J];exact Qx g3
 have nk:s1.heap.get? kS=Qc:=by
  cases z:s1.heap.get? kS with
  |none=>rfl
  |some o=>exact absurd (Qx (lF _ _ z)) (by rw[J];exact Jx _)
 have I4:Inv X pins Y H1 {s1 with heap:=h3.push {cls:=.type "list",data:=.seq ([]:List Value).toArray},toks:=tk}:=T.kept λb x z=>Qk _ (lF b x z);have gk4:(h3.push {cls:=.type "list",data:=.seq ([]:List Value).toArray}).get? kS=Qa (J0 "list" (QO []) 0):=by rw[<-J];exact QG _ rfl
 unfold ksk_rest;refine Qe (ZS ?_);rw[List.forIn_toArray];refine Qe (Qh (lC F hr hb h1 R1.nd (QQ SF) (λv z=>by cases z) (λx ks e s' C DM hx=>?_) xs zB vs us [] [] [] 0 H1 _ O1 I4 R1.th rx yu (gJ T nD S5) (gJ T nk (Wo S5 SF)) (Qk _ g3) gk4 rfl .nil (by simp;lia)) (λ_ s5 hd=>?_) λ_ _ z=>z)
 .refine Qe (Vq (Qh hx (λkv CO⟨g,hC⟩=>?_) λ_ _ hF=>hF.elim));refine Qe (Y9 g rfl (Qi #[rfl,kv,hC]) (by rw[QI,Q6];lia) ?_);rw[Array.size_push,QI,Q6];lia
 .refine Fh hd λyn DU e' H' I' x' fD fk gD gk rk uo=>?_;rw[Vo]at rk;refine Qe (listItems_at gk rfl ?_);refine q4E hK hu sk kd I' fD fk (QQ SF) gD gk rk uo ?_ λq h' e2 P U I5 g5=>#[_,rfl,Qi #[_,rfl,?_]]
  .have:=rk.length;have:=uo.length;lia
  .have hxk:=rx.mono (jB x');have lt:∀i∈q.toList,i<xs.length:=λi hi=>by have:=P.perm.mem_iff.mp hi;rw[<-i8];exact QN.mp this
   have lt2:∀i∈q.toList,i<vs.length:=λi hi=>yE▸lt i hi;have I6:=q3U (o:=.qA (qy.pick q vs .qI)) I5 fD #[by rw[qy.Tn P,Q6];lia,_,_,aT yu lt2,g5];have Sj:=fD.1;rw[<-q6p i8 sk P U];refine#[_,.ref Dd,_,rfl,I6,rfl,(x1.trans x').trans (Ext.upd Sj),Dd,_,rfl,zM.of (Fv (R1.th.ext x') Sj),(aS hxk lt).mono (jB (Ext.upd Sj))]
theorem m8:∀(xs:List Int)(b x:Int),uE (xs++[x]) b=if x<uE xs b then x else uE xs b
 |[],_,_=>rfl
 |y::xs,b,x=>m8 xs (if y<b then y else b) x
theorem m9(n:Int)(ns:List Int):∀k,k<=ns.length->(n::ns).getD (argBest (λi j=>decide ((n::ns).getD i 0<(n::ns).getD j 0)) k) 0=uE (ns.take k) n
 |0,_=>by simp[argBest,uE]
 |k+1,h=>by
  have g:=m9 n ns k ∅;have b:ns.take (k+1)=ns.take k++[ns[k]]:=by rw[List.take_succ,Qy (show k<ns.length by lia)];rfl
  have e:(n::ns).getD (k+1) 0=ns[k]:=by simp[JN,show k<ns.length by lia]
  rw[b,m8,<-g,argBest]
  by_cases c:ns[k]<(n::ns).getD (argBest (λi j=>decide ((n::ns).getD i 0<(n::ns).getD j 0)) k) 0
  .rw[if_pos c,if_pos (decide_eq_true (by rw[e];exact c)),e]
  .rw[if_neg c,if_neg (by rw[decide_eq_true_eq,e];exact c)]
def q0h(hK:p.K=X.K)(hc:X.calm=Qb):BS X p sub .wj (.builtin "min"):=by
 intro E pins s Y H os d r v u I t g q h;cases d<;>first
  |(cases h;done)
  |skip
 rename_i xs;replace h:minD xs=.ok r:=h;unfold minD at h;split at h
 .rename_i n ns hb;cases h;refine qN q λa vs zz s1 r1=>?_;subst zz;have U:=ints_rep hb r1;subst U;cases g;refine qd (I.list (hK▸s1:zM X.K H a _)) λits g F hz=>?_;have hl:its.length=(n::ns).length:=by rw[<-g.length,Qm]
  have T:a<s.heap.objs.size:=by obtain⟨_,e,_⟩:=F.isList;exact Qx e
  have J:∀(i:Nat)(v:Value),its.toArray[i]?=Qa v->∃t,v=UD ((n::ns).getD i 0) t:=λi v z=>by
   obtain⟨w,hw,vX⟩:=sX g (by simpa using z);rw[QB]at hw;cases k:(n::ns)[i]?with
   |none=>rw[k]at hw;cases hw
   |some b=>
    rw[k]at hw;cases hw;obtain⟨t,rfl⟩:=vX;have W:(n::ns).getD i 0=b:=(by simp[JN,k]);exact#[t,by rw[W]]
  refine call_min_walk (Vi F.isList #[_,_,_,_,_,_,_,rfl,Walks.list (A:=X.A.in1) (I.ok.hd hc) s.heap.objs.size a (QQ T) its.toArray,#[#[_,QG _ rfl,rfl,rfl],F.isList.push _],λb hb=>?_,?_,CmpOf.ints_lt (λi=>(n::ns).getD i 0) J,λv h' tk z hk=>?_])
  .
   rw[Ua];rcases Ql.mp hb with rfl|hb
   .exact Jh _
   .rw[QE.mp hb];exact JQ T
  .rw[QI,hl];exact Nat.succ_pos _
  .obtain⟨t,rfl⟩:=J _ _ z;rw[QI,hl,QH,Nat.add_sub_cancel,m9 n ns ns.length (Qt _),List.take_length];exact#[.int _,H,(I.ql E).kept λb o e=>hk b o (by simp;exact QQ (Qx e)) (Qk _ e),#[_,rfl],fin_same rfl]
 .cases h
structure ClsI(K:QC)(p:Pm):Prop where
 cls:Cls K p.C
 flds:∀f∈p.flds,Py K p.C f
 nd:p.flds.Nodup
 len:p.flds.length<100
theorem zip_get{f:Str}{v:V}:∀{fs:List Str}{vs:List V}{k:Nat},fs.Nodup->fs[k]?=Qa f->vs[k]?=Qa v->(fs.zip vs).lookup f=Qa v
 |[],_,_,_,h,_=>by simp at h
 |_::_,[],_,_,_,h=>by simp at h
 |g::fs,u::vs,0,_,b,h2=>by simp at b h2;subst b h2;simp[YM]
 |g::fs,u::vs,k+1,nd,b,h2=>by
  have b:fs[k]?=Qa f:=by simpa using b
  have ne:(f==g)=Qf:=beq_eq_false_iff_ne.mpr λz=>(QP.mp nd).1 (z▸Qp b);rw[Jq,Q3,ne];exact zip_get (QP.mp nd).2 b (by simpa using h2)
theorem Ap{f:Str}:∀{fs:List Str}{vs:List V},f∉fs->(fs.zip vs).lookup f=Qc
 |[],_,_=>rfl
 |_::_,[],_=>rfl
 |g::fs,u::vs,h=>by rw[Jq,Q3,(beq_eq_false_iff_ne.mpr λz=>h (by simp[z]))];exact Ap λz=>h (Qd _ z)
def oX{f:List D->R D}(h:C9 f d≠.qC):∃fs,d=.obj fs:=by
 cases d<;>first
  |cases h rfl
  |exact#[_,rfl]
def pT{v:V}(h:jH p H Hf (.obj fs) v):∃a dx vs,v=.ref a/\H a=Qa (.ins p.C dx (p.flds.zip vs))/\H dx=Qa (.own a)/\vs.length<=p.flds.length/\qK p Hf fs vs:=h
def CM(h:∀b∈O,b∉O'->(∃C dx fs,H b=Qa (.ins C dx fs))\/∃y,H b=Qa (.own y)):∀(k:Nat)(d:D)(v:V),qV k d=Qb->Rep p (fz O' H) d v->Rep p (fz O H) d v:=by
 have rd:∀{b:Addr}{u:HO},(∀C dx fs,u≠.ins C dx fs)->(∀y,u≠.own y)->Rd (fz O' H) b u->Rd (fz O H) b u:=λ{b u} n1 n2 r=>by
  have key:∀g:HO,(∀C dx fs,g≠.ins C dx fs)->(∀y,g≠.own y)->fz O' H b=Qa g->fz O H b=Qa g:=λg U W e=>by
   unfold fz at e;split at e
   .exact nS e
   .rename_i nb;refine kB e λhb=>?_;rcases h b hb nb with⟨C,dx,fs,z⟩|⟨y,z⟩
    .rw[e]at z;cases z;exact U _ _ _ rfl
    .rw[e]at z;cases z;exact W _ rfl
  rcases r with r|⟨o,r⟩
  .exact .inl (key u n1 n2 r)
  .exact .inr #[o,key _ (λ_ _ _ z=>nomatch z) (λ_ z=>nomatch z) r]
 have lists:∀k,(∀(d:D)(v:V),qV k d=Qb->Rep p (fz O' H) d v->Rep p (fz O H) d v)->∀(ds:List D)(vs:List V),ds.all (qV k)=Qb->qK p (fz O' H) ds vs->qK p (fz O H) ds vs:=λk F ds=>by
  induction ds with
  |nil=>exactλvs _ r=>r
  |cons d ds xM=>
   intro vs pl r;rw[YE,Qo]at pl;refine qN r λv I e J T=>?_;exact#[v,I,e,F d v pl.1 J,xM I pl.2 T]
 intro k
 induction k with
 |zero=>
  intro d v pl r;cases d<;>first
   |exact r
   |(simp[qV]at pl;done)
 |succ k F=>
  intro d v pl r;cases d with
  |qE ds=>
   refine zN r λa vs e s z r=>?_;exact#[a,vs,e,s.elim (λs=>.inl (rd (λ_ _ _ z=>nomatch z) (λ_ z=>nomatch z) s)) .inr,z,lists k F _ _ (by simpa[qV]using pl) r]
  |qA ds=>
   refine qN r λa vs e s r=>?_;exact#[a,vs,e,s.elim (λs=>.inl (rd (λ_ _ _ z=>nomatch z) (λ_ z=>nomatch z) s)) .inr,lists k F _ _ (by simpa[qV]using pl) r]
  |z7 _ _=>simp[qV]at pl
  |exc _=>simp[qV]at pl
  |obj _=>simp[qV]at pl
  |mem _ _=>simp[qV]at pl
  |_=>exact r
def q8K{o:Qs}{f:Str}{k:Nat}(b:ClsI X.K p)(F:p.flds[k]?=Qa f)(hb:YN o f X.env (Je o X.env)=Je o X.env)(ho:SB X p G sub o lo):SE X p G sub (.Attribute o f pos) (.fld lo k):=by
 intro pins s Y H Z os I R hs;dsimp only[fV]at hs|-;refine q00 hb (Qh (ho pins s Y H Z os I R (zP hs)) (λu s1 g=>qY g λd v H1 e1 J r1 x1 q1=>?_) (λe s' z=>z.bind));rw[e1,qF]at hs|-;obtain⟨fs,rfl⟩:=oX hs;refine qY (pT q1) λa dx vs g ha j5 hl rl=>?_;subst g;cases r1;have hs:T7 k fs≠.qC:=hs;show wpAny _ _ _ (Gd X p pins Y os H (T7 k fs)) _ _;unfold T7 at hs|-;split at hs
 .rename_i U W;refine qH (rl.get W) λv2 e3 q2=>?_;exact q2p J ha b.cls (b.flds f (Qp F)) (zip_get b.nd F e3) λu' s2 T ru=>#[U,v2,H1,rfl,T,ru,x1,q2]
 .cases hs rfl
noncomputable def lend(O:List Addr)(a dx:Addr):List Addr:=O.filter λb=>!decide (b=a)&&!decide (b=dx)
def yp{b:Addr}:b∈lend O a dx↔b∈O/\b≠a/\b≠dx:=by unfold lend;rw[QJ];simp
def Om:Ext (fz O H) (fz (lend O a dx) H):=ya λb hb=>(yp.mp hb).1
def q7n{fs:List D}(F:FX X kk f fd ps (wK p G j ps.length))
  (hr:Room kk X.A) (hb:Binds X.K fd ps []) (I:Inv X pins Y H s) (r:Vals vs us) (nd:O.Nodup) (t:Th O H) (k:H a=Qa (.ins p.C dx (p.flds.zip qk))) (J:H dx=Qa (.own a)) (hz:qk.length<=p.flds.length) (rl:qK p (fz O H) fs qk) (q:qK p (fz O H) ds vs)
  (hl:(D.obj fs::ds).length=ps.length) (hs:(G j (.obj fs::ds)).bind wt≠.qC):
  wX X (call (.ref f) (.ref a::us)) (λu s'=>∃d v H',(G j (.obj fs::ds)).bind wt=.ok d/\Inv X pins Y H' s'/\RelV v u/\Ext H H'/\Rep p (fz O H') d v) (Er X p pins Y H ((G j (.obj fs::ds)).bind wt)) s:=by
 have W:Rep p (fz (lend O a dx) H) (.obj fs) (.ref a):=#[a,dx,qk,rfl,kB k λz=>(yp.mp z).2.1 rfl,kB J λz=>(yp.mp z).2.2 rfl,hz,rl.mono Om]
 refine Qh (AJ (O:=lend O a dx) F hr hb I (vs:=.ref a::vs) (.cons rfl r) (nd.filter _) (λb hb=>t b (yp.mp hb).1) (ds:=.obj fs::ds) #[.ref a,vs,rfl,W,q.mono Om] hl (zP hs)) (λu s' zz=>qY zz λd v H' e1 U rv x rp=>?_) (λe s' z=>z.bind);rw[e1,qF]at hs|-;unfold wt at hs|-
 by_cases g:pl d=Qb
 .rw[if_pos g];refine#[d,v,H',rfl,U,rv,x,CM (λb hb nb=>?_) 8 d v g rp]
  by_cases z:b=a
  .exact .inl #[_,_,_,by rw[z];exact x _ _ k]
  .by_cases T:b=dx
   .exact .inr #[_,by rw[T];exact x _ _ J]
   .exact absurd (yp.mpr #[hb,z,T]) nb
 .rw[if_neg g]at hs;cases hs rfl
def bT{o:Qs}{Q:NZ}(J:YN o m env (Je o env)=Je o env)
  (k:ZZ (args.length+([]:List ZG).length) (Yk cp (QM args env)) (backToKw cp (keywordEach [] env))=Qb) (T:(ap.endLine==cp.line)=Qb)
  (h:wpAny M A (Je o env) (λz s1=>∀pl,wpAny M A (getMethod z m pl) (λg s2=>wpAny M A (callWith cp g.1 g.2 (Yk cp (QM args env)) []) Q E s2) E s1) E s):wpAny M A (Je (.Call (.Attribute o m ap) args [] cp) env) Q E s:=by
 rw[arm_eval_Call,J];refine Qe (Qh h (λz F b=>?_) λ_ _ e=>e);refine Qe (Wx ?_);unfold methodCall;rw[k];unfold calleeOf;refine Qe (Jm (Qh (b _) (λg s2 I=>?_) λ_ _ e=>e));obtain⟨f,first⟩:=g;exact Qe (Zp (by unfold methodCallPos;simp[T]) I)
def Lc(h:(Yk cp (QM es env)).any (·.1)=Qf)(hl:es.length<30):ZZ (es.length+([]:List ZG).length) (Yk cp (QM es env)) (backToKw cp (keywordEach [] env))=Qb:=by
 have e:(Yk cp (QM es env)).all (λx=>!x.1)=Qb:=by rw[QL];intro x b;rw[Wb]at h;simpa using h x b
 unfold ZZ;rw[e];show(Qb&&Qb&&decide (es.length+0+0<30))=Qb;simpa using hl
def q8D(cl:ClsI X.K p)(hm:Meth X.K p.C m f)(yF:m∉p.flds)(F:FX X kk f fd ps (wK p G j ps.length))
  (hr:Room kk X.A) (hb:Binds X.K fd ps []) (qX:∀ds,G j ds≠.qC->ds.length=ps.length) (ho:SB X p G sub (.Name x q) lo) (ha:SA X p G sub es ls) (hn:es=[]->ls=[]) (qe:∀e r,es=e::r->QM es X.env=(Qf,Je e X.env)::QM r X.env/\(Yk cp (QM r X.env)).any (·.1)=Qf)
  (u0:(Yk cp (QM es X.env)).any (·.1)=Qf) (hl:es.length<30) (zd:(ap.endLine==cp.line)=Qb):
  SE X p G sub (.Call (.Attribute (.Name x q) m ap) es [] cp) (.callM j lo ls):=by
 intro pins s Y H Z os I R hs;dsimp only[fU]at hs|-;refine bT rfl (Lc u0 hl) zd (Qh (ho pins s Y H Z os I R (zP hs)) (λu s1 g=>qY g λd v H1 e1 k r1 T q1=>?_) (λe s' z=>z.bind));rw[e1]at hs|-;obtain⟨fs,rfl⟩:=oX hs;refine qY (pT q1) λa dx qk g h1 h2 h3 h4=>?_;subst g;cases r1;have hs:(qu G sub ls Z).bind (λds=>(G j (.obj fs::ds)).bind wt)≠.qC:=hs;show∀pl,wpAny _ _ _ (λfx s2=>wpAny _ _ _ (Gd X p pins Y os H ((qu G sub ls Z).bind λds=>(G j (.obj fs::ds)).bind wt)) (Er X p pins Y H ((qu G sub ls Z).bind λds=>(G j (.obj fs::ds)).bind wt)) s2) (Er X p pins Y H ((qu G sub ls Z).bind λds=>(G j (.obj fs::ds)).bind wt)) _;intro pl;have U:=R.ext T;refine Lm k h1 cl.cls hm (Ap yF) ?_;have fin:∀(us:List Value)(s2:Shared)(ds:List D)(vs:List V)(H2:Hp),qu G sub ls Z=.ok ds->Inv X pins Y H2 s2->Vals vs us->Ext H1 H2->qK p (fz os.flatten H2) ds vs->wX X (call (.ref f) (.ref a::us)) (Gd X p pins Y os H ((qu G sub ls Z).bind λds=>(G j (.obj fs::ds)).bind wt)) (Er X p pins Y H ((qu G sub ls Z).bind λds=>(G j (.obj fs::ds)).bind wt)) s2:=λus s2 ds vs H2 W J r2 b q2=>by rw[W]at hs|-;refine Qh (q7n F hr hb J r2 (U.ext b).nd (U.ext b).th (b _ _ h1) (b _ _ h2) h3 (h4.mono (jB b)) q2 (qX _ (zP hs)) hs) (λu s3 g=>qY g λd v H3 e3 I3 rv x3 q3=>⟨d,v,H3,e3,I3,rv,(T.trans b).trans x3,q3⟩) (λe s' z=>z.ext (T.trans b))
 cases es with
 |nil=>
  rw[hn rfl]at fin|-;exact ZJ (first:=[.ref a]) k.jN hm.kp (fin [] s1 [] [] H1 rfl k .nil (Ext.refl _) rfl)
 |cons e r=>
  obtain⟨g1,g2⟩:=qe e r rfl;refine J1 (first:=[.ref a]) (h₀:=X.base) I.ok.mod.vA hm.kp (Qh (ha cp pins s1 Y H1 Z os k U (zP hs)) (λus s2 g=>qY g λds vs H2 W J r2 b q2=>#[J.jN,?_]) (λe s' z=>(z.ext T).bind)) g1 g2;exact fin us s2 ds vs H2 W J r2 b q2
theorem p8{f:Str}{y:V}:∀{fs:List Str}{vs:List V}{k:Nat},fs.Nodup->fs[k]?=Qa f->k<vs.length->kG f y (fs.zip vs)=fs.zip (vs.set k y)
 |[],_,_,_,h,_=>by simp at h
 |_::_,[],_,_,_,h=>by simp at h
 |g::fs,u::vs,0,_,b,_=>by simp at b;subst b;rw[Jq,kG,if_pos rfl];rfl
 |g::fs,u::vs,k+1,nd,b,h2=>by
  have b:fs[k]?=Qa f:=by simpa using b
  have ne:g≠f:=λz=>(QP.mp nd).1 (z▸Qp b);rw[Jq,kG,if_neg ne,p8 (QP.mp nd).2 b (by simpa using h2)];rfl
theorem p7{f:Str}{y:V}:∀{fs:List Str}{vs:List V},fs.Nodup->fs[vs.length]?=Qa f->kG f y (fs.zip vs)=fs.zip (vs++[y])
 |[],_,_,h=>by simp at h
 |g::fs,[],_,h=>by simp at h;subst h;cases fs<;>rfl
 |g::fs,u::vs,nd,b=>by
  have b:fs[vs.length]?=Qa f:=by simpa using b
  have ne:g≠f:=λz=>(QP.mp nd).1 (z▸Qp b);rw[Jq,kG,if_neg ne,p7 (QP.mp nd).2 b];rfl
theorem qK.set{v:V}(h:Rep p H d v):∀{ds:List D}{vs:List V}(k:Nat),qK p H ds vs->qK p H (ds.set k d) (vs.set k v)
 |[],vs,_,r=>by cases r;exact rfl
 |_::ds,vs,0,r=>by obtain⟨u,w,rfl,_,b⟩:=r;exact#[v,w,rfl,h,b]
 |_::ds,vs,k+1,r=>by obtain⟨u,w,rfl,g,b⟩:=r;exact#[u,w.set k v,rfl,g,qK.set h k b]
def pB{f:Str}{y:V}{fs:List D}(nd:p.flds.Nodup)(z:p.flds[k]?=Qa f)(h:XZ k d fs=Qa gs)(hl:vs.length<=p.flds.length)(r:qK p Hf fs vs)(F:Rep p Hf d y):
  ∃b,kG f y (p.flds.zip vs)=p.flds.zip b/\b.length<=p.flds.length/\qK p Hf gs b:=by
 have e:=r.length;unfold XZ at h;split at h
 .rename_i c;cases h;exact#[vs.set k y,p8 nd z (e▸c),by simpa using hl,r.set F k]
 .split at h
  .rename_i c;cases h;have g:p.flds[vs.length]?=Qa f:=(by rw[<-e,<-c.1];exact z);refine#[vs++[y],p7 nd g,?_,r.snoc F];have:=(Qn.mp g).1;simp;lia
  .exact nS h
def OU{C:Addr}{fs:List (Str×V)}(g:H a=Qa (.ins C dx fs))(b:H dx=Qa (.own a)):dx≠a:=λz=>by rw[z,g]at b;cases b
def q9Z{k:Nat}{f:Str}(F:ClsI X.K p)(hk:p.flds[k]?=Qa f)(hi:X.N[i]?=Qa x)(DJ:jY X.env.scope x)(hd:nD x)(zE:nC x)(hv:SE X p G sub v lv)
  (vR:J9 v (Qa (.Attribute (.Name x q) f j0)) pos.line X.env=pure Qf):SS X p G sub (.Assign [.Attribute (.Name x q) f j0] v pos) (.setA i k lv):=by
 intro H0 O0 E T pins s Y H Z os I B hs J;rw[fm]at hs J|-;refine W9 (Qh (hv pins s Y H Z _ I B.rel (zh hs)) (λu1 t1 zz=>qY zz λd1 y1 H1 e1 W r1 x1 q1=>?_) (λe s' z=>J e s' (j9 B z))) vR;rw[e1,qT]at hs J|-;have U:=B.mono x1;split at hs
 .rename_i b fs g;simp only[g]at J|-;cases T:XZ k d1 fs with
  |none=>rw[T]at hs;cases hs rfl
  |some gs=>
   refine qN (U.at g) λy as s1 s2 zr=>?_;refine uR zr λa dx vs zu vc g0 g1 g2 g3 g4=>?_;subst zu vc;refine qd (pB F.nd hk T g3 g4 q1) λkP z1 z2 z3=>?_;refine kN W hi DJ s1 hd zE λu r=>?_;cases r;refine rG W g1 F.cls (F.flds f (Qp hk)) ?_ r1 λt2 I2=>?_
   .have:=F.len;have:=List.length_zip (l₁:=p.flds) (l₂:=vs);lia
   rw[z1]at I2;exact#[_,.nx,Y,os,_,rfl,U.write s1 s2 (by simp) #[a,dx,kP,rfl,rfl,g0,zb,by rw[qW (OU g1 g2)];exact g2,z2,z3],I2,trivial]
 .cases hs rfl
def q9W{a:Qs}(hK:p.K=X.K)(hg:Gl X "list")(U:X.mg "list"=Qc)(ha:SE X p G sub a l)(W:QM [a] X.env=[(Qf,Je a X.env)]):SS X p G sub (.Return (Qa (.Call (.Name "list" q) [a] [] cp)) pos) (.retL l):=by
 intro H0 O0 E hp pins s Y H Z os I B hs T;dsimp only[fi]at hs T|-;refine Ur (Q7 (wJ I hg U (by rfl) ?_ (by decide) (by decide)));refine JL (CP ha.b W I B.rel (zh hs) (λu s1 k=>qY k λd v H1 e1 I1 r1 x1 q1=>?_) (λe s' z=>T e s' (j9 B z))) W rfl;rw[e1]at hs T|-;obtain⟨xs,rfl⟩:=zL hs;refine qN q1 λb vs k uq rl=>?_;subst k;cases r1;have F:=B.mono x1;refine Qh (Ih (X:=X.ql E) pins s1 Y H1 _ _ (λz H'=>∃n,z=.ref n/\H1 n=Qc/\H'=upd H1 n (.qA vs)) (I1.ql E) (show Vals [.ref b] [.ref b] from .cons rfl .nil) #[b,vs,rfl,.inl (hK▸uq),λn g=>#[n,rfl,g,rfl]]) (λw s2 k=>EJ k λzv H2 I2 rz n ez g eH=>?_) (λ_ _ z=>z);subst ez eH;cases rz;have nO:=F.rel.th.out g;refine#[Z,.Xb (.qA xs),Y,os,_,rfl,F.mono (Ext.upd g),I2.wB,n,xs,vs,rfl,rfl,?_,zb,rl.mono λc o e=>?_]
 .cases e:H0 n with
  |none=>rfl
  |some o=>have:=F.ext n o e;rw[g]at this;exact nS this
 .have J:=zG _ _ e;have ne:c≠n:=λz=>by rw[z,g]at J;exact nS J
  refine kB (by rw[qW ne];exact J) λU=>?_;rcases Ql.mp U with z|z
  .exact ne z
  .unfold fz at e;rw[if_pos (by rw[vj];exact Qr _ z)]at e;exact nS e
def dP{o:Cm}{e:D}(h:qj o d e=.ok r):∃b,r=.bl b:=by
 cases o<;>first
  |(obtain⟨_,rfl⟩:=vS h;exact#[_,rfl])
  |(obtain⟨_,_,h⟩:=xN h;obtain⟨_,_,h⟩:=xN h;cases h;exact#[_,rfl])
  |(obtain⟨_,h⟩:=a9 h;cases h;exact#[_,rfl])
  |(cases z:memD d e with
    |ok b=>simp only[qj,z]at h;cases h;exact#[_,rfl]
    |err c=>simp only[qj,z,q0K]at h;cases h
    |qC=>simp only[qj,z,q0L]at h;cases h)
def q8G{g:CmpOp}{la lc:L}{a b c:Qs}(hK:p.K=X.K)(hu:X.A.units+64<cLine)(hm:lastMarks [op,g] [b,c]=Qf)(ha:SE X p G sub a la)(hb:SE X p G sub b lb)(hc:SE X p G sub c lc):SE X p G sub (.Compare a [op,g] [b,c] pos) (.cm2 (jV op) (jV g) la lb lc):=by
 intro pins s Y H Z os I R hs;rw[zy]at hs|-;refine Compare_chain (Qh (ha pins s Y H Z os I R (zP hs)) (λv s1 J=>qY J λd1 x H1 e1 I1 r1 U q1=>chain_link ?_) (λe s' z=>z.bind)) hm;rw[e1,qF]at hs|-;have R1:=R.ext U;refine Qh (hb pins s1 Y H1 Z os I1 R1 (zP hs)) (λu s2 J=>qY J λF y H2 e2 I2 r2 W q2=>?_) (λe s' z=>(z.ext U).bind);rw[e2,qF]at hs|-;have R2:=R1.ext W;rcases Fb (jV op) d1 F with w|⟨r,w⟩
 .rw[w]at hs;cases hs rfl
 obtain⟨t,rfl⟩:=dP w;rw[w,qF]at hs|-;have hs:(if t then(ev G sub lc Z).bind (λz=>qj (jV g) F z)else .ok (.bl Qf))≠.qC:=hs;generalize T:((tr (.bl t)).bind λt=>if t then(ev G sub lc Z).bind (λz=>qj (jV g) F z)else .ok (.bl Qf))=rr;have T:(if t then(ev G sub lc Z).bind (λz=>qj (jV g) F z)else Ev.R.ok (D.bl Qf))=rr:=T;refine qH (Fc (X:=X.ql (Er X p pins Y H rr)) (O:=os.flatten) hK R2.th hu (jV op) d1 F _ x y w ((q1.mono (jB W)).b zG) (q2.b zG)) λrr2 k q=>?_;rw[E6]at k;refine Qh (k pins s2 Y H2 x y v u _ (I2.ql _) r1 r2 q) (λc3 s3 J=>zN J λzv H3 I3 rz x3 qz=>?_) (λ_ _ z=>z);cases qz;cases rz;refine Yn ?_;cases t with
 |false=>
  refine ite_ff ?_;exact#[.bl Qf,.bl Qf,H3,T.symm,I3.wB,rfl,(U.trans W).trans x3,rfl]
 |true=>
  refine ite_tt (chain_last ?_);rw[if_pos rfl]at hs T;subst T;have R3:=R2.ext x3;refine Qh (hc pins s3 Y H3 Z os I3.wB R3 (zP hs)) (λw' s4 J=>qY J λd4 z4 H4 e4 I4 r4 x4 q4=>?_) (λe s' z=>(z.ext ((U.trans W).trans x3)).bind);rw[e4]at hs|-;rcases Fb (jV g) F d4 with w4|⟨r',w4⟩
  .exact absurd w4 hs
  refine qH (Fc (X:=X.ql (Er X p pins Y H (qj (jV g) F d4))) (O:=os.flatten) hK (R3.ext x4).th hu (jV g) F d4 _ y z4 w4 ((q2.mono (jB (x3.trans x4))).b zG) (q4.b zG)) λrr3 k' q'=>?_;rw[E6]at k';exact Qh (k' pins s4 Y H4 y z4 u w' _ (I4.ql _) r2 r4 q') (λw5 s5 h5=>X6 (((U.trans W).trans x3).trans x4) w4 h5) (λ_ _ z=>z)
noncomputable def Pm.of(p:Pm)(a:Addr×Addr):Pm:={p with self:=a}
def Pb(p:Pm)(a:Addr×Addr)(H:Hp):(∀d v,Rep (p.of a) H d v↔Rep p H d v)/\(∀ds vs,qK (p.of a) H ds vs↔qK p H ds vs):=by
 refine D.ind (P:=λd=>∀v,Rep (p.of a) H d v↔Rep p H d v) (Q:=λds=>∀vs,qK (p.of a) H ds vs↔qK p H ds vs)
  (λv=>Wu) (λ_ v=>Wu) (λ_ v=>Wu) (λ_ v=>Wu) (λl b v=>?_) (λl b v=>?_) (λk l F b v=>?_) (λc v=>Wu) (λl b v=>?_) (λc l b v=>Wu) (λvs=>Wu) (λd ds g z vs=>?_)
 .show (∃a vs,v=.ref a/\zw p.K H a vs/\vs.length<=QD/\qK _ H l vs)↔(∃a vs,v=.ref a/\zw p.K H a vs/\vs.length<=QD/\qK p H l vs);simp only[b]
 .show (∃a vs,v=.ref a/\zM p.K H a vs/\qK _ H l vs)↔(∃a vs,v=.ref a/\zM p.K H a vs/\qK p H l vs);simp only[b]
 .show (∃a kvs o,v=.ref a/\H a=Qa (.frz o (.dK kvs))/\k=kvs.map (λq=>zo q.1)/\qK _ H l (kvs.map (·.2)))↔(∃a kvs o,v=.ref a/\H a=Qa (.frz o (.dK kvs))/\k=kvs.map (λq=>zo q.1)/\qK p H l (kvs.map (·.2)));simp only[b]
 .show (∃a dx vs,v=.ref a/\H a=Qa (.ins p.C dx (p.flds.zip vs))/\H dx=Qa (.own a)/\vs.length<=p.flds.length/\qK _ H l vs)↔(∃a dx vs,v=.ref a/\H a=Qa (.ins p.C dx (p.flds.zip vs))/\H dx=Qa (.own a)/\vs.length<=p.flds.length/\qK p H l vs);simp only[b]
 .show (∃v r,vs=v::r/\Rep _ H d v/\qK _ H ds r)↔(∃v r,vs=v::r/\Rep p H d v/\qK p H ds r);simp only[g,z]
def vZ(p:Pm)(G:Nat->List D->R D)(f n:Nat):Sp:=λvs H Q E=>∃fs ds a dx us ws O,vs=.ref a::ws/\vs.length=n/\O.Nodup/\Th O H/\a∉O/\dx∉O/\H a=Qa (.ins p.C dx (p.flds.zip us))/\H dx=Qa (.own a)/\us.length<=p.flds.length/\
 qK p (fz (a::dx::O) H) fs us/\qK p (fz (a::dx::O) H) ds ws/\G f (.obj fs::ds)≠.qC/\
 (∀t gs v H' qk,G f (.obj fs::ds)=.ok (.qE [t,.obj gs])->(∀b o,b≠a->H b=Qa o->H' b=Qa o)->H' a=Qa (.ins p.C dx (p.flds.zip qk))->qk.length<=p.flds.length->qK p (fz (a::dx::O) H') gs qk->Rep p (fz (a::dx::O) H') t v->Q v H')/\
 (∀c C H' e,G f (.obj fs::ds)=.err c->p.cls[c]?=Qa C->Ext H H'->E e (Qa C) H')
def q7j{fs:List D}(F:FX X kk f fd ps (vZ p G j ps.length))
  (hr:Room kk X.A) (hb:Binds X.K fd ps []) (I:Inv X pins Y H s) (r:Vals ws us) (nd:O.Nodup) (t:Th O H) (na:a∉O) (nx:dx∉O) (ha:H a=Qa (.ins p.C dx (p.flds.zip kH))) (j5:H dx=Qa (.own a)) (hz:kH.length<=p.flds.length) (rl:qK p (fz (a::dx::O) H) fs kH) (q:qK p (fz (a::dx::O) H) ds ws)
  (hl:(D.obj fs::ds).length=ps.length) (hs:G j (.obj fs::ds)≠.qC):
  wX X (call (.ref f) (.ref a::us)) (λu s'=>∃t gs v H' qk,G j (.obj fs::ds)=.ok (.qE [t,.obj gs])/\Inv X pins Y H' s'/\RelV v u/\(∀b o,b≠a->H b=Qa o->H' b=Qa o)/\H' a=Qa (.ins p.C dx (p.flds.zip qk))/\qk.length<=p.flds.length/\qK p (fz (a::dx::O) H') gs qk/\Rep p (fz (a::dx::O) H') t v)
   (Er X p pins Y H (G j (.obj fs::ds))) s:=by
 have r2:Vals (V.ref a::ws) (.ref a::us):=.cons rfl r;have yE:(V.ref a::ws).length=ps.length:=by rw[<-hl,QH,QH,q.length]
 have Tz:vZ p G j ps.length (.ref a::ws) H (λv H'=>∃t gs qk,G j (.obj fs::ds)=.ok (.qE [t,.obj gs])/\(∀b o,b≠a->H b=Qa o->H' b=Qa o)/\H' a=Qa (.ins p.C dx (p.flds.zip qk))/\qk.length<=p.flds.length/\qK p (fz (a::dx::O) H') gs qk/\Rep p (fz (a::dx::O) H') t v)
   (λe C H'=>∃c k,G j (.obj fs::ds)=.err c/\C=Qa k/\p.cls[c]?=Qa k):=
  #[fs,ds,a,dx,kH,ws,O,rfl,yE,nd,t,na,nx,ha,j5,hz,rl,q,hs,λt gs v H' qk e1 J T U W e6=>#[t,gs,qk,e1,J,T,U,W,e6],λc C H' e z h2 _=>#[c,C,z,rfl,h2]]
 have kC:=hb s (.ref a::us) I.jN (by rw[Ja,<-r2.length];exact yE);rw[Ja]at kC;refine U6 (Y3 (F.run X.A X.stack s H #[.ref a::us,[]] (.ref a::us) (.ref a::ws) _ _ hr I.EL kC r2 Tz) λrr s' g=>?_);cases rr with
 |error e=>
  have g:zk X.prog X.w X.stack H s (λe C H'=>∃c k,G j (.obj fs::ds)=.err c/\C=Qa k/\p.cls[c]?=Qa k) e s':=g;obtain⟨H',a',C,B,tt,h0,⟨c,k,z,h2,h3⟩,TU⟩:=id g;exact#[c,z,Gn I g λC2 H2 zz=>qN zz λc2 C3 g1 g2 g3=>by rw[z]at g1;cases g1;cases g2;exact g3]
 |ok fl=>
  cases fl with
  |ret u=>
   refine qN (I.after g) λv H' I' rv zr=>?_;refine qY zr λt gs qk e1 J T U zr=>?_;obtain⟨W,e6⟩:=zr;exact#[t,gs,v,H',qk,e1,I',rv,J,T,U,W,e6]
  |next=>exact JC g
  |brk=>exact JC g
  |cont=>exact JC g
def qAF(h:H a=Qa o):upd H a o=H:=by
 funext b
 by_cases z:b=a
 .rw[z,zb,h]
 .rw[qW z]
def Bd.mut{b:Bool}(B:Bd p H0 O0 Z Y os H)(e1:Y[i]?=Qa (Qa (.ref a)))(F:os[i]?=Qa [a,dx])(hb:b=Qb->(a,dx)=p.self)(J:H dx=Qa (.own a))(g:dx≠a)
  (k:∀b o,b≠a->H b=Qa o->H' b=Qa o) (W:H' a=Qa (.ins p.C dx (p.flds.zip qk))) (hz:qk.length<=p.flds.length) (rl:qK p (fz (os++[O0]).flatten H') gs qk):Bd p H0 O0 (Z.set i (Qa (.obj b gs))) Y os H':=by
 have T:=B.write (sl:=.obj b []) (o:=.ins p.C dx (p.flds.zip [])) e1 F (c:=a) (by simp) #[a,dx,[],rfl,rfl,hb,zb,by rw[qW g];exact J,QU _,rfl];have U:=T.mono (H1:=upd H' a (.ins p.C dx (p.flds.zip []))) λc o e=>by
  by_cases z:c=a
  .subst z;rw[zb]at e|-;exact e
  .rw[qW z]at e|-;exact k c o z e
 have I:=U.write (i:=i) (sl:=.obj b gs) (o:=.ins p.C dx (p.flds.zip qk)) e1 F (c:=a) (by simp) #[a,dx,qk,rfl,rfl,hb,zb,by rw[qW g,qW g];exact k _ _ g J,hz,by rw[Fw (by rw[vj];exact QR _ (Q5.mpr #[_,Qp F,by simp]))];exact rl];rw[qAG,qAF W,ZI]at I;exact I
def q25{A B:List Addr}(h:∀b,b∈A↔b∈B):fz A H=fz B H:=by
 funext b;unfold fz
 by_cases z:b∈A
 .rw[if_pos z,if_pos ((h b).mp z)]
 .rw[if_neg z,if_neg λy=>z ((h b).mpr y)]
def lend_eq(k:a∈O)(F:dx∈O):fz (a::dx::lend O a dx) H=fz O H:=q25 λb=>by
 rw[Ql,Ql,yp];refine#[λz=>?_,λz=>?_]
 .rcases z with rfl|rfl|z
  .exact k
  .exact F
  .exact z.1
 .by_cases c:b=a
  .exact .inl c
  .by_cases g:b=dx
   .exact .inr (.inl g)
   .exact .inr (.inr #[z,c,g])
def pj{b:Bool}{fs:List D}(F:FX X kk f fd ps (vZ p G j ps.length))
  (hr:Room kk X.A) (hb:Binds X.K fd ps []) (I:Inv X pins Y H s) (B:Bd p H0 O0 Z Y os H) (r:Vals ws us) (e1:Y[i]?=Qa (Qa (.ref a))) (k:os[i]?=Qa [a,dx]) (g0:b=Qb->(a,dx)=p.self) (J:H a=Qa (.ins p.C dx (p.flds.zip kH))) (g:H dx=Qa (.own a)) (g3:kH.length<=p.flds.length) (g4:qK p (fz (os++[O0]).flatten H) fs kH)
  (q:qK p (fz (os++[O0]).flatten H) ds ws) (hl:(D.obj fs::ds).length=ps.length) (hs:G j (.obj fs::ds)≠.qC):
  wX X (call (.ref f) (.ref a::us)) (λu s'=>∃t gs v H',G j (.obj fs::ds)=.ok (.qE [t,.obj gs])/\Inv X pins Y H' s'/\RelV v u/\Bd p H0 O0 (Z.set i (Qa (.obj b gs))) Y os H'/\Rep p (fz (os++[O0]).flatten H') t v) (Er X p pins Y H (G j (.obj fs::ds))) s:=by
 have T:∀c∈[a,dx],c∈(os++[O0]).flatten:=λc hc=>by rw[vj];exact QR _ (Q5.mpr #[_,Qp k,hc])
 have le:=λH=>lend_eq (H:=H) (T a (by simp)) (T dx (by simp));refine Qh (q7j (O:=lend (os++[O0]).flatten a dx) F hr hb I r (B.rel.nd.filter _) (λc hc=>B.rel.th c (yp.mp hc).1) (λz=>(yp.mp z).2.1 rfl) (λz=>(yp.mp z).2.2 rfl) J g g3 (by rw[le];exact g4) (by rw[le];exact q) hl hs) (λu s' zz=>EK zz λt gs v H' qk z1 I' rv z2 z3 z4 U W=>?_) (λ_ _ z=>z);rw[le]at U W;exact#[t,gs,v,H',z1,I',rv,B.mut e1 k g0 g (OU J g) z2 z3 z4 U,W]
def q9J(cl:ClsI X.K p)(hm:Meth X.K p.C m f)(yF:m∉p.flds)(F:FX X kk f fd ps (vZ p G j ps.length))(hr:Room kk X.A)(hb:Binds X.K fd ps [])(qX:∀ds,G j ds≠.qC->ds.length=ps.length)
  (hi:X.N[i]?=Qa x) (hv:jY X.env.scope x) (hd:nD x) (zE:nC x) (ha:SA X p G sub (e::es) ls) (he:QM (e::es) X.env=(Qf,Je e X.env)::QM es X.env) (kW:(Yk cp (QM es X.env)).any (·.1)=Qf) (u0:(Yk cp (QM (e::es) X.env)).any (·.1)=Qf) (hl:(e::es).length<30) (zd:(ap.endLine==cp.line)=Qb):
  SS X p G sub (.Expr (.Call (.Attribute (.Name x q) m ap) (e::es) [] cp) pos) (.expM i j ls):=by
 intro H0 O0 E hp pins s Y H Z os I B hs g;dsimp only[LN]at hs g|-;split at hs
 .rename_i b fs k;simp only[k]at g|-;refine qN (B.at k) λy as s1 s2 zr=>?_;refine uR zr λa dx kH zu vc g0 g1 g2 g3 g4=>?_;subst zu vc;refine Uq (bT rfl (Lc u0 hl) zd (kN I hi hv s1 hd zE λu r=>?_)) I.quiet rfl;cases r;intro pl;refine Lm I g1 cl.cls hm (Ap yF) ?_;refine J1 (first:=[.ref a]) (h₀:=X.base) I.ok.mod.vA hm.kp (Qh (ha cp pins s Y H Z _ I B.rel (zh hs)) (λus t1 T=>qY T λds ws H1 e1 W r1 J q1=>#[W.jN,?_]) (λe s' z=>g e s' (j9 B z))) he kW;rw[e1,qT]at hs g|-;have U:=B.mono J;refine Qh (pj F hr hb W U r1 s1 s2 g0 (J _ _ g1) (J _ _ g2) g3 (g4.mono (jB J)) q1 (qX _ (zh hs)) (zh hs)) (λu t2 T=>fM T λt gs v H2 e2 I2 rv B2 rt=>?_) (λe s' z=>g e s' (j9 U z));rw[e2,qT]at hs g|-;cases t<;>first
   |cases hs rfl
   |exact#[_,.nx,Y,os,H2,rfl,B2,I2,trivial]
 .cases hs rfl
def ph(M:Mk X.K p.C f)(F:FX X kk f fd ps (vZ p G j ps.length))
  (hr:Room (kk+1) X.A) (hb:Binds X.K fd ps []) (I:Inv X pins Y H s) (r:Vals ws us) (nd:O.Nodup) (t:Th O H) (q:qK p (fz O H) ds ws) (hl:(D.obj []::ds).length=ps.length) (hs:G j (.obj []::ds)≠.qC) (hn:∀t gs,G j (.obj []::ds)=.ok (.qE [t,.obj gs])->t=.qI):
  wX X (call (.ref p.C) us) (λu s'=>∃gs a dx H' qk,G j (.obj []::ds)=.ok (.qE [.qI,.obj gs])/\Inv X pins Y H' s'/\u=.ref a/\H a=Qc/\H dx=Qc/\Ext H H'/\H' a=Qa (.ins p.C dx (p.flds.zip qk))/\H' dx=Qa (.own a)/\qk.length<=p.flds.length/\qK p (fz (a::dx::O) H') gs qk) (Er X p pins Y H (G j (.obj []::ds))) s:=by
 have J:H (s.heap.objs.size+1)=Qc:=I.qO.fresh (Yi _);have W:H s.heap.objs.size=Qc:=I.qO.fresh (Qt _);have ne:s.heap.objs.size≠s.heap.objs.size+1:=QQ (Jh _);have T:=Inv.made (C:=p.C) I;have x2:Ext H (upd (upd H s.heap.objs.size (.own (s.heap.objs.size+1))) (s.heap.objs.size+1) (.ins p.C s.heap.objs.size [])):=(Ext.upd W).trans (Ext.upd (by rw[qW (JK ne)];exact J));have r2:Vals (V.ref (s.heap.objs.size+1)::ws) (YQ (s.heap.objs.size+1)::us):=.cons rfl r;have yE:(V.ref (s.heap.objs.size+1)::ws).length=ps.length:=by rw[<-hl,QH,QH,q.length]
 have q2:qK p (fz ((s.heap.objs.size+1)::s.heap.objs.size::O) (upd (upd H s.heap.objs.size (.own (s.heap.objs.size+1))) (s.heap.objs.size+1) (.ins p.C s.heap.objs.size []))) ds ws:=q.mono λc o e=>by
  have k:=zG _ _ e;refine kB (x2 _ _ k) λhm=>?_;rcases Ql.mp hm with z|hm
  .rw[z,J]at k;exact nS k
  rcases Ql.mp hm with z|z
  .rw[z,W]at k;exact nS k
  .unfold fz at e;rw[if_pos z]at e;exact nS e
 have Tz:vZ p G j ps.length (.ref (s.heap.objs.size+1)::ws) (upd (upd H s.heap.objs.size (.own (s.heap.objs.size+1))) (s.heap.objs.size+1) (.ins p.C s.heap.objs.size []))
   (λv H'=>v=.qI/\∃gs qk,G j (.obj []::ds)=.ok (.qE [.qI,.obj gs])/\Ext H H'/\H' (s.heap.objs.size+1)=Qa (.ins p.C s.heap.objs.size (p.flds.zip qk))/\H' s.heap.objs.size=Qa (.own (s.heap.objs.size+1))/\qk.length<=p.flds.length/\qK p (fz ((s.heap.objs.size+1)::s.heap.objs.size::O) H') gs qk)
   (λe C H'=>∃c g,G j (.obj []::ds)=.err c/\C=Qa g/\p.cls[c]?=Qa g):=by
  refine#[[],ds,_,_,[],ws,O,rfl,yE,nd,t.ext x2,t.out J,t.out W,by rw[zb];simp,by rw[qW ne,zb],QU _,rfl,q2,hs,λt gs v H' qk e1 U e3 e4 e5 e6=>?_,λc C H' e h1 h2 _=>#[c,C,h1,rfl,h2]];cases hn t gs e1;refine#[e6,gs,qk,e1,λc o e=>?_,e3,U _ _ ne (by rw[qW ne,zb]),e4,e5];exact U c o (λz=>by rw[z,J]at e;exact nS e) (x2 _ _ e)
 have kC:=hb _ (.ref (s.heap.objs.size+1)::us) T.jN (by rw[Ja,<-r2.length];exact yE);rw[Ja]at kC;refine U6 (q4l (f:=f) I.jN M.makes M.init (beq_iff_eq.mp M.fn) (Y3 (F.run _ X.stack _ _ #[YQ (s.heap.objs.size+1)::us,[]] (YQ (s.heap.objs.size+1)::us) _ _ _ (hr.make p.C us []) (T.EL.make p.C us []) kC r2 Tz) λrr s' b=>?_));cases rr with
 |error e=>
  have b:zk X.prog X.w X.stack _ _ (λe C H'=>∃c g,G j (.obj []::ds)=.err c/\C=Qa g/\p.cls[c]?=Qa g) e s':=b;obtain⟨H',a',C,B,tt,h0,⟨c,g,h1,h2,h3⟩,TU⟩:=id b;exact#[c,h1,(Gn T b λC2 H2 zz=>qN zz λc2 C3 g1 g2 g3=>by rw[h1]at g1;cases g1;cases g2;exact g3).ext x2]
 |ok fl=>
  cases fl with
  |ret u=>
   refine zN (T.after b) λv H' I3 rv ev zr=>?_;refine RQ zr λgs qk e1 U e3 e4 zr=>?_;obtain⟨e5,e6⟩:=zr;subst ev;exact#[rv,gs,_,_,H',qk,e1,I3,rfl,J,W,U,e3,e4,e5,e6]
  |next=>exact JC b
  |brk=>exact JC b
  |cont=>exact JC b
def sJ{f:List D->RS}(h:uL (λt gs=>match t with|.qI=>f gs|_=>.qC) r≠.qC):∃gs,r=.qE [.qI,.obj gs]:=by
 unfold uL at h;split at h
 .rename_i t gs;cases t<;>first
   |cases h rfl
   |exact#[gs,rfl]
 .cases h rfl
def q9Q(hN:X.N.Nodup)(hi:X.N[i]?=Qa x)(hx:Loc X.env.scope x)(hf:X.fn x=Qb\/X.env.scope.names.lookup x=Qa .local)(M:Mk X.K p.C f)
  (F:FX X kk f fd ps (vZ p G j ps.length)) (hr:Room (kk+1) X.A) (hb:Binds X.K fd ps []) (qX:∀ds,G j ds≠.qC->ds.length=ps.length) (hg:Gl X cn) (hm:X.mg cn=Qa (.ref p.C)) (kU:nD cn)
  (ha:SA X p G sub (e::es) ls) (he:QM (e::es) X.env=(Qf,Je e X.env)::QM es X.env) (kW:(Yk cp (QM es X.env)).any (·.1)=Qf):
  SS X p G sub (.Assign [.Name x j0] (.Call (.Name cn q) (e::es) [] cp) pos) (.new i j ls):=by
 intro H0 O0 E hp pins s Y H Z os I B hs k;dsimp only[fc]at hs k|-;refine Yp (Q7 (xP I hg hm ?_ kU)) rfl;refine J1 (h₀:=X.base) I.ok.mod.vA M.kp (Qh (ha cp pins s Y H Z _ I B.rel (zh hs)) (λus s1 U=>qY U λds ws H1 e1 W r1 x1 q1=>#[W.jN,?_]) (λe s' z=>k e s' (j9 B z))) he kW;rw[e1,qT]at hs k|-;have g:=B.mono x1;refine Qh (ph M F hr hb W r1 g.rel.nd g.rel.th q1 (qX _ (zh hs)) (zh hs) λt gs z=>?_) (λu s2 U=>fN U λgs a dx H2 qk e2 I2 eu na nx x2 J T h3 h4=>?_) (λe s' z=>k e s' (j9 g z))
 .rw[z,qT]at hs;obtain⟨Ln,z'⟩:=sJ hs;cases z';rfl
 subst eu;rw[e2,qT];refine wu (v:=.ref a) I2 hN hi hx rfl (λs3 I3=>#[_,.nx,_,_,_,rfl,g.jF (by rw[<-B.jU,I.len];exact(Qn.mp hi).1) x2 (as:=[a,dx]) (by simpa using JK (OU J T)) (λb hb=>?_) (λb hb=>?_) #[a,dx,qk,rfl,rfl,(λz=>by cases z),J,T,h3,h4.mono (ya λb hb=>?_)],I3,trivial]) hf
 .rcases Ql.mp hb with z|z
  .rw[z];exact na
  .rw[QE.mp z];exact nx
 .rcases Ql.mp hb with z|z
  .rw[z];exact#[_,J]
  .rw[QE.mp z];exact#[_,T]
 .rcases QF.mp hb with z|z
  .exact Qd _ (Qd _ z)
  .rcases Ql.mp z with z|z
   .rw[z];exact Qg
   .rw[QE.mp z];exact Qd _ Qg
def q9R(M:Mk X.K p.C f)(F:FX X kk f fd ps (vZ p G j ps.length))(hr:Room (kk+1) X.A)(hb:Binds X.K fd ps [])(qX:∀ds,G j ds≠.qC->ds.length=ps.length)
  (hg:Gl X cn) (hm:X.mg cn=Qa (.ref p.C)) (kU:nD cn) (W:SA X p G sub (e::es) ls) (he:QM (e::es) X.env=(Qf,Je e X.env)::QM es X.env) (kW:(Yk cp (QM es X.env)).any (·.1)=Qf):
  SS X p G sub (.Expr (.Call (.Name cn q) (e::es) [] cp) pos) (.newX j ls):=by
 intro H0 O0 E hp pins s Y H Z os I B hs g;dsimp only[fe]at hs g|-;refine Uq (Q7 (xP I hg hm ?_ kU)) I.quiet rfl;refine J1 I.ok.mod.vA M.kp (Qh (W cp pins s Y H Z _ I B.rel (zh hs)) (λus s1 k=>qY k λds ws H1 e1 J r1 x1 q1=>#[J.jN,?_]) (λe s' z=>g e s' (j9 B z))) he kW;rw[e1,qT]at hs g|-;have b:=B.mono x1;refine Qh (ph M F hr hb J r1 b.rel.nd b.rel.th q1 (qX _ (zh hs)) (zh hs) λt gs z=>?_) (λu s2 k=>fN k λgs a dx H2 qk U T eu na nx x2 h1 h2 h3 h4=>?_) (λe s' z=>g e s' (j9 b z))
 .rw[z,qT]at hs;obtain⟨Ln,z'⟩:=sJ (f:=λ_=>.ok Z .nx) hs;cases z';rfl
 rw[U,qT];exact#[Z,.nx,Y,os,H2,rfl,b.mono x2,T,trivial]
def q9H{y:Qs}{c9 dh:WD}(cl:ClsI X.K p)(hm:Meth X.K p.C m f)(yF:m∉p.flds)(F:FX X kk f fd ps (Xg p G j ps.length))(hr:Room kk X.A)(hb:Binds X.K fd ps [])(qX:∀ds,G j ds≠.qC->ds.length=ps.length)
  (hi:X.N[i]?=Qa x) (hv:jY X.env.scope x) (hd:nD x) (zE:nC x) (hy:SE X p G sub y ly) (qe:QM [y] X.env=[(Qf,Je y X.env)]) (zd:(ap.endLine==cp.line)=Qb) (O5:(c9.endLine==dh.line)=Qb):
  SS X p G sub (.Expr (.Call (.Attribute (.Call (.Attribute (.Name x q) m ap) [] [] cp) "append" c9) [y] [] dh) pos) (.appF i j ly):=by
 intro H0 O0 E hp pins s Y H Z os I B hs g;dsimp only[fZ]at hs g|-;split at hs
 .rename_i b fs k;simp only[k]at g|-;refine qN (B.at k) λw as s1 s2 zr=>?_;refine uR zr λa dx kH zu vc g0 g1 g2 g3 g4=>?_;subst zu vc;refine Uq (Us rfl (by rw[qe];rfl) O5 rfl (bT rfl (Lc rfl (by decide)) zd (kN I hi hv s1 hd zE λu r=>?_))) I.quiet rfl;cases r;intro pl;refine Lm I g1 cl.cls hm (Ap yF) ?_;have ho:Rep p (fz (lend (os++[O0]).flatten a dx) H) (.obj fs) (.ref a):=#[a,dx,kH,rfl,kB g1 λz=>(yp.mp z).2.1 rfl,kB g2 λz=>(yp.mp z).2.2 rfl,g3,g4.mono Om]
  refine ZJ (first:=[.ref a]) I.jN hm.kp ?_;refine Qh (q7i (O:=lend (os++[O0]).flatten a dx) F hr hb I (vs:=[.ref a]) (us:=[.ref a]) (.cons rfl .nil) (B.rel.nd.filter _) (λc hc=>B.rel.th c (yp.mp hc).1) (ds:=[.obj fs]) #[.ref a,[],rfl,ho,rfl] (qX _ (zh hs)) (zh hs)) (λu t1 J=>L9 J λxs n ys H1 e1 I1 eu x1 hn h1 q1=>?_) (λe s' z=>g e s' (j9 B z));subst eu;rw[e1,qT]at hs g|-;have W:=B.mono x1;have hs:((ev G sub ly Z).go Z λ_=>if xs.length<big then RS.ok Z .nx else .qC)≠.qC:=hs;obtain⟨h3,h4⟩:=Cb (T:="list") (x:=.ref n) I1 rfl (.inl #[rfl,_,zM.of h1]);refine#["list","list.append",Yl,UP,UQ,h3,h4,?_];rw[qe];refine JW rfl (YL ?_);refine Q4 (Qh (hy pins t1 Y H1 Z _ I1 W.rel (zh hs)) (λv t2 J=>qY J λd U H2 e2 I2 r2 x2 q2=>Jl ?_) (λe s' z=>g e s' (j9 W z)));have g:=g;show wpAny _ _ _ (λ_=>Gs X p H0 O0 pins ((ev G sub ly Z).go Z λ_=>if xs.length<big then RS.ok Z .nx else .qC) Flow.next) _ _;rw[e2]at hs|-;have z:xs.length<big:=by
   by_cases z:xs.length<big
   .exact z
   .rw[if_neg z]at hs;cases hs rfl
  rw[if_pos z];have hl:=q1.length;refine Qh (Ds (X:=X.ql E) pins t2 Y H2 (.ref n) [U] _ _ (λz H'=>H'=upd H2 n (.qA (ys++[U]))) (I2.ql E) rfl (.cons r2 .nil) #[n,ys,U,rfl,rfl,x2 _ _ h1,Qz ∅ wQ,rfl]) (λw s4 J=>qN J λzv H3 I3 _ eH=>?_) (λ_ _ z=>z);subst eH;exact#[Z,.nx,Y,os,_,rfl,B.mono λc o e=>by rw[qW λz=>by rw[z,hn]at e;cases e];exact x2 _ _ (x1 _ _ e),I3.wB,trivial]
 .cases hs rfl
def iT{b:Qs}{body:List Ev.S}(hK:p.K=X.K)(hu:X.A.units+64<cLine)(F:FX X kk f fd ps (vZ p G j ps.length))(hr:Room kk X.A)(hb:Binds X.K fd ps [])(qX:∀ds,G j ds≠.qC->ds.length=ps.length)
  (hg:Gl X fn) (hm:X.mg fn=Qa (.ref f)) (DB:Jf X.K (.ref f)=Qb) (kU:nD fn) (hi:X.N[i]?=Qa x) (hv:jY X.env.scope x) (hd:nD x) (zE:nC x) (ha:SA X p G sub es ls) (kW:(Yk q3 (QM es X.env)).any (·.1)=Qf) (D3:UE .NotEq b=Qf) (hB:SE X p G sub b lb) (hS:je X p G sub st body)
  {H0:Hp}{O0:List Addr}{E:NZ}(hp:U1 (model X.prog X.w) X.A X.env E) {pins:List (Addr×Obj)}{s:Shared}{Y:L2.St}{H:Hp}{Z:Ev.Env}{os:List (List Addr)}(I:Inv X pins Y H s) (B:Bd p H0 O0 Z Y os H)
  (hs:ex G sub (.ifA [] i j ls lb body) Z≠.qC) (J:∀e s',Es X p H0 O0 pins (ex G sub (.ifA [] i j ls lb body) Z) e s'->E e s') (whole:Sem Value) (hw:whole=Je (.Compare (.Call (.Name fn q1) (.Name x q2::es) [] q3) [.NotEq] [b] q4) X.env):
  wX X (isTrue (.Compare (.Call (.Name fn q1) (.Name x q2::es) [] q3) [.NotEq] [b] q4) X.env whole) (λt s'=>if t then wX X (VB st X.env) (Gs X p H0 O0 pins (ex G sub (.ifA [] i j ls lb body) Z)) E s' else wX X (VB [] X.env) (Gs X p H0 O0 pins (ex G sub (.ifA [] i j ls lb body) Z)) E s') E s:=by
 dsimp only[EW]at hs J|-;have e0:Ah G sub [] Z=.ok Qf:=rfl;rw[e0,qT,if_neg (by simp)]at hs J|-;split at hs
 .rename_i g fs U;simp only[U]at J|-;refine qN (B.at U) λw as s1 s2 zr=>?_;refine uR zr λa dx kH zu vc g0 g1 g2 g3 g4=>?_;subst zu vc;refine VU (Q7 (xP I hg hm ?_ kU)) D3;refine J1 (h₀:=X.base) I.ok.mod.vA DB ?_ rfl kW;show wpAny _ _ (VM ((Qf,Je (.Name x q2) X.env)::Yk q3 (QM es X.env))) _ _ s;refine Q4 (kN I hi hv s1 hd zE λu r=>?_);cases r;refine Qh (ha q3 pins s Y H Z _ I B.rel (zh hs)) (λus t1 T=>qY T λds ws H1 e1 I1 r1 W z1=>#[I1.jN,?_]) (λe s' z=>J e s' (j9 B z));rw[e1,qT]at hs J|-;have B1:=B.mono W;refine Qh (pj F hr hb I1 B1 r1 s1 s2 g0 (W _ _ g1) (W _ _ g2) g3 (g4.mono (jB W)) z1 (qX _ (zh hs)) (zh hs)) (λu t2 T=>fM T λt gs v H2 e2 I2 rv B2 rt=>?_) (λe s' z=>J e s' (j9 B1 z));rw[e2,qT]at hs J|-;have hs:((ev G sub lb (Z.set i (Qa (.obj g gs)))).go (Z.set i (Qa (.obj g gs))) λy=>(qj .ne t y).go (Z.set i (Qa (.obj g gs))) λz=>(tr z).go (Z.set i (Qa (.obj g gs))) λb=>if b then qL G sub body (Z.set i (Qa (.obj g gs)))else .ok (Z.set i (Qa (.obj g gs))) .nx)≠.qC:=hs;have J:∀e s',Es X p H0 O0 pins ((ev G sub lb (Z.set i (Qa (.obj g gs)))).go (Z.set i (Qa (.obj g gs))) λy=>(qj .ne t y).go (Z.set i (Qa (.obj g gs))) λz=>(tr z).go (Z.set i (Qa (.obj g gs))) λb=>if b then qL G sub body (Z.set i (Qa (.obj g gs)))else .ok (Z.set i (Qa (.obj g gs))) .nx) e s'->E e s':=J;show wpAny _ _ _ (λb1 s₂=>wpAny _ _ _ (λc s₃=>wpAny _ _ _ (λ(t':Bool) s'=>if t'=Qb then wpAny _ _ (VB st X.env) (Gs X p H0 O0 pins ((ev G sub lb (Z.set i (Qa (.obj g gs)))).go (Z.set i (Qa (.obj g gs))) λy=>(qj .ne t y).go (Z.set i (Qa (.obj g gs))) λz=>(tr z).go (Z.set i (Qa (.obj g gs))) λb=>if b then qL G sub body (Z.set i (Qa (.obj g gs)))else .ok (Z.set i (Qa (.obj g gs))) .nx)) E s' else wpAny _ _ (VB [] X.env) (Gs X p H0 O0 pins ((ev G sub lb (Z.set i (Qa (.obj g gs)))).go (Z.set i (Qa (.obj g gs))) λy=>(qj .ne t y).go (Z.set i (Qa (.obj g gs))) λz=>(tr z).go (Z.set i (Qa (.obj g gs))) λb=>if b then qL G sub body (Z.set i (Qa (.obj g gs)))else .ok (Z.set i (Qa (.obj g gs))) .nx)) E s') _ _) _ _) _ _;generalize Z.set i (Qa (.obj g gs))=ρ2 at*;refine Qh (hB pins t2 Y H2 ρ2 _ I2 B2.rel (zh hs)) (λu3 t3 T=>qY T λd3 v3 H3 e3 I3 r3 x3 z3=>?_) (λe s' z=>J e s' (j9 B2 z));rw[e3,qT]at hs J|-;have B3:=B2.mono x3;rcases Fb .ne t d3 with y|⟨r,y⟩
  .rw[y]at hs;cases hs rfl
  obtain⟨c,rfl⟩:=dP y;rw[y,qT]at hs J|-;refine qH (Fc (X:=X.ql E) (O:=(os++[O0]).flatten) hK B3.rel.th hu .ne t d3 _ v v3 y ((rt.mono (jB x3)).b zG) (z3.b zG)) λrr k hq=>?_;refine Qh (k pins t3 Y H3 v v3 u u3 _ (I3.ql E) rv r3 hq) (λw4 t4 T=>zN T λzv H4 I4 rz x4 qz=>?_) (λ_ _ z=>z);cases qz;cases rz;have B4:=B3.mono x4;refine Yn ?_;have et:tr (.bl c)=.ok c:=rfl;rw[et,qT]at hs J|-;cases c with
  |true=>
   rw[if_pos rfl]at hs J|-;exact hS H0 O0 E hp pins t4 Y H4 ρ2 os I4.wB B4 (by simpa using hs) (by simpa using J)
  |false=>
   rw[if_neg (by simp)];exact ro (G:=G) (sub:=sub) H0 O0 E hp pins t4 Y H4 ρ2 os I4.wB B4 (by simp) (λe s' T=>wF T λ_ _ _ _ _ z _ _=>by cases z)
 .cases hs rfl
section
variable{b:Qs}{body:List Ev.S}
def q9M(T:p.K=X.K)(hu:X.A.units+64<cLine)(F:FX X kk f fd ps (vZ p G j ps.length))(hr:Room kk X.A)(hb:Binds X.K fd ps [])(qX:∀ds,G j ds≠.qC->ds.length=ps.length)
  (hg:Gl X fn) (hm:X.mg fn=Qa (.ref f)) (k:Jf X.K (.ref f)=Qb) (kU:nD fn) (hi:X.N[i]?=Qa x) (hv:jY X.env.scope x) (hd:nD x) (zE:nC x) (W:SA X p G sub es ls) (kW:(Yk q3 (QM es X.env)).any (·.1)=Qf) (g:UE .NotEq b=Qf) (z:SE X p G sub b lb) (U:je X p G sub st body):
  SS X p G sub (.If (.Compare (.Call (.Name fn q1) (.Name x q2::es) [] q3) [.NotEq] [b] q4) st [] pos) (.ifA [] i j ls lb body):=λH0 O0 E hp pins s Y H Z os I B hs J=>
 ZW (iT T hu F hr hb qX hg hm k kU hi hv hd zE W kW g z U hp I B hs J _ rfl)
def q9N{c:Qs}(hc:ST X p G sub c lc)(hK:p.K=X.K)(hu:X.A.units+64<cLine)(F:FX X kk f fd ps (vZ p G j ps.length))(hr:Room kk X.A)(hb:Binds X.K fd ps [])(qX:∀ds,G j ds≠.qC->ds.length=ps.length)
  (hg:Gl X fn) (hm:X.mg fn=Qa (.ref f)) (DB:Jf X.K (.ref f)=Qb) (kU:nD fn) (hi:X.N[i]?=Qa x) (hv:jY X.env.scope x) (hd:nD x) (zE:nC x) (ha:SA X p G sub es ls) (kW:(Yk q3 (QM es X.env)).any (·.1)=Qf) (W:UE .NotEq b=Qf) (hB:SE X p G sub b lb) (T:je X p G sub st body):
  SS X p G sub (.If (.BoolOp .Or [c,.Compare (.Call (.Name fn q1) (.Name x q2::es) [] q3) [.NotEq] [b] q4] q5) st [] pos) (.ifA [lc] i j ls lb body):=by
 intro H0 O0 E U pins s Y H Z os I B hs g;have e0:∀Z,ex G sub (.ifA [lc] i j ls lb body) Z=(z9 G sub lc Z).go Z λt=>if t then qL G sub body Z else ex G sub (.ifA [] i j ls lb body) Z:=λZ=>by rw[EW,EW];rfl
 rw[e0]at hs g|-;refine ZW (isTrue_or (Qh (hc _ pins s Y H Z _ (.inl rfl) I B.rel (zh hs)) (λt s1 zz=>qd zz λH1 e1 J x1=>?_) (λe s' z=>g e s' (j9 B z))));rw[e1,qT]at hs g|-;have k:=B.mono x1;cases t with
 |true=>
  rw[if_pos rfl]at hs g|-;exact T H0 O0 E U pins s1 Y H1 Z os J k hs g
 |false=>
  rw[if_neg (by simp)]at hs g|-;refine isTrue_or (Qh (iT hK hu F hr hb qX hg hm DB kU hi hv hd zE ha kW W hB T U J k hs g _ rfl) (λt s2 h=>?_) (λ_ _ z=>z));cases t with
  |true=>exact h
  |false=>exact isTrue_or_nil h
end
def q06{fs:List D}{us:List V}(nd:O.Nodup)(t:Th O H)(J:a∉O)(nx:dx∉O)(g:H a=Qa (.ins p.C dx (p.flds.zip us)))(k:H dx=Qa (.own a))(I:us.length<=p.flds.length)(T:qK p (fz (a::dx::O) H) fs us)(q:qK p (fz (a::dx::O) H) ds ws)(hl:ws.length+1<=N.length):
  Bd (p.of (a,dx)) (fz [a,dx] H) O (Qa (.obj Qb fs)::zV ds++Qj (N.length-(ds.length+1)) Qc) (L2.start N (.ref a::ws)) ([a,dx]::Qj (N.length-1) []) H:=by
 have e:=q.length;have U:a≠dx:=λz=>by rw[z,k]at g;cases g
 have f:(([a,dx]::Qj (N.length-1) [])++[O]).flatten=a::dx::O:=by simp
 refine#[#[by rw[f];simp[nd,J,nx,U],λb hb=>?_,?_],?_,?_,λb o z=>?_,λb hb=>?_]
 .rw[f]at hb;rcases Ql.mp hb with z|hb
  .exact#[_,z▸g]
  rcases Ql.mp hb with z|hb
  .exact#[_,z▸k]
  exact t b hb
 .rw[f];have h:=AR (more:=[O]) (AS (p:=p.of (a,dx)) (H:=H) (Hf:=fz (a::dx::O) H) (ay (N.length-(ds.length+1))) (((Pb p (a,dx) _).2 ds ws).mpr q));have F:Qj ds.length ([]:List Addr)++Qj (N.length-(ds.length+1)) []=Qj (N.length-1) []:=by rw[Wt];congr 1;lia
  rw[F]at h;unfold L2.start;refine#[Qa (.ref a),_,[a,dx],_,rfl,rfl,#[a,dx,us,rfl,rfl,λ_=>rfl,g,k,I,((Pb p (a,dx) _).2 fs us).mpr T],?_];rw[QH,<-e];exact h
 .simp[zV];lia
 .simp[zV,L2.start];lia
 .unfold fz at z;split at z
  .exact nS z
  .exact z
 .have hb:b∈[a,dx]:=by simpa using hb
  unfold fz;rw[if_pos hb]
def aE(h:ui d Z≠.qC):∃gs ρ1,Z=Qa (.obj Qb gs)::ρ1/\ui d Z=.ok (.qE [d,.obj gs]):=by
 cases Z with
 |nil=>cases h rfl
 |cons x ρ1=>
  unfold ui at h|-;rw[ZA]at h|-;split at h
  .rename_i fs z;cases z;exact#[fs,ρ1,rfl,rfl]
  .cases h rfl
def IL(B:Bd (p.of (a,dx)) (fz [a,dx] H) O (Qa (.obj Qb gs)::ρ1) Y os H')(W:H dx=Qa (.own a)):
  (∀b o,b≠a->H b=Qa o->H' b=Qa o)/\∃qk,H' a=Qa (.ins p.C dx (p.flds.zip qk))/\H' dx=Qa (.own a)/\qk.length<=p.flds.length/\qK p (fz (a::dx::O) H') gs qk:=by
 obtain⟨y,Y',as,qg,rfl,g,⟨a',L4,qk,rfl,rfl,I,J,k,T,U⟩,h6⟩:=B.rel.slots;cases(I rfl);refine#[λb o nb hb=>?_,qk,J,k,T,?_]
 .by_cases z:b=dx
  .rw[z]at hb|-;rw[W]at hb;cases hb;exact k
  .refine B.ext b o ?_;unfold fz;rw[if_neg (by simp[nb,z])];exact hb
 .refine ((Pb p (a,dx) _).2 _ _).mp (qK.mono U (ya λb hb=>?_));rw[g,Jb];rcases(by simpa using hb)with z|z|z
  .simp[z]
  .simp[z]
  .have:O∈qg:=by
    have:O∈os++[O]:=(by simp);rw[g]at this;rcases Ql.mp this with F|F
    .cases os with
     |nil=>exact absurd B.len (by simp)
     |cons o0 or=>
      rw[<-((Vw g).2)];simp
    .exact F
   exact Qr _ (Q5.mpr #[O,this,z])
def q20{k:Nat}{kV ct:Value}
  {kg:Array (Option Value)}{N ps:List Str}{G':Nat->List D->R D}{l:List S}(lk:K.lookup f=Qa #[oc,od,.func (Jj name qual params body scope dV kV doc pm an zC ct),kg]) (zE:Yj K zC qual=Qb) (S:FnScope N ps scope)
  (hG:∀ds,G j ds≠.qC->ds.length=ps.length->G j ds=Ev.Ts G' sub N.length l ds)
  (yc:∀(z:Addr×Addr)(A:Around)(outer:List JM)(s:Shared)(H:Hp)(E:XK),Room k (A.deeper (U2 qual scope s.heap.objs.size f zC))->Env0 P w K mg base A outer s H->je (kR (zk P w) P w K mg base N qual scope f zC A outer s H E) (p.of z) G' sub body l):
  FnOk P w K mg base (zk P w) (k+1) f (Jj name qual params body scope dV kV doc pm an zC ct) ps (vZ p G j ps.length):=by
 refine#[λvs H Q E h=>by obtain⟨fs,ds,a,dx,kH,ws,O,h1,h2,h3⟩:=h;exact h2,λA outer s H args us vs Q E hr I hb r zt=>?_];obtain⟨fs,ds,a,dx,kH,ws,O,rfl,hl,nd,t,na,nx,ha,j5,hz,rl,q,ns,q1,q2⟩:=zt;have KX:K.In s.heap:=I.mod.vA.keeps λb o e=>(I.bs b o e).1;have TL:∀y∈ps.zip us,scope.names.lookup y.1=Qa .local\/(scope.names.lookup y.1=Qa .cell/\((Wc (s.heap.objs.size+1) scope.names []).lookup y.1).isSome=Qb):=λ⟨n,v⟩ hy=>by
  rcases S.par n (Y1 hy).1 with q|q
  .exact .inl q
  .exact .inr #[q,Ys _ _ _ (.inl q)]
 refine Uy hr.depth (KX _ _ lk) rfl S.co S.gen rfl (UC KX zE) (hb _ _ _ _ ?_);refine YZ S.kind TL λenv he s1 x=>?_;subst he;refine#[(I.mod.nolimit.keeps λb o e=>(I.bs b o e).1).keeps x.toInCall.keep,WW ?_];have kW:ps.length<=N.length:=by have:=congrArg Yu S.pre;rw[J3]at this;lia
 have hl1:ws.length+1=ps.length:=hl;have ua:=hG (.obj fs::ds) ns (by rw[QH,q.length];exact hl);rw[ua]at ns q1 q2;unfold Ev.Ts at ns q1 q2;dsimp only at ns q1 q2;have T:Top (kR (zk P w) P w K mg base N qual scope f zC A outer s H E):=#[rfl,rfl]
 generalize F:qL G' sub l (Qa (.obj Qb fs)::zV ds++Qj (N.length-(ds.length+1)) Qc)=r0 at ns q1 q2;refine Qh (yc (a,dx) A outer s H E (hr.deeper _) I (fz [a,dx] H) O _ (Fn (p:=p.of (a,dx)) (H0:=fz [a,dx] H) (O0:=O) (pins:=[]) (r:=r0) T) [] s1 _ H _ _ (G7 S hr.hd I hl r x) (q06 (N:=N) nd t na nx ha j5 hz rl q ∅) (by rw[F];exact(λe=>ns (by rw[e]))) (λe s' z=>by rw[F]at z;exact z)) (λfl s' hs=>?_) λe s' hs=>?_
 .rw[F]at hs;refine wY hs λρ' Fu Y' qg H' e1 J g r'=>?_;subst e1;cases Fu<;>cases fl<;>first|exact r'.elim|skip
  .refine ja (aE (d:=.qI) (Z:=ρ') ns) λgs ρ1 zz U=>?_;subst zz;obtain⟨k1,qk,k2,k3,k4,k5⟩:=IL J j5;exact#[.qI,H',g.os,g.bare,g.base,g.qO,rfl,q1 .qI gs .qI H' qk U k1 k2 k4 k5 rfl]
  .cases ns rfl
  .cases ns rfl
  .refine qH r' λv rv w'=>?_;rename_i d _
   by_cases W:pl d=Qb
   .dsimp only at ns q1;rw[if_pos W]at ns q1;refine ja (aE (d:=d) (Z:=ρ') ns) λgs ρ1 zz U=>?_;subst zz;obtain⟨k1,qk,k2,k3,k4,k5⟩:=IL J j5;refine#[v,H',g.os,g.bare,g.base,g.qO,rv,q1 d gs v H' qk U k1 k2 k4 k5 (CM (O':=O) (λb hb hn=>?_) _ d v W (((Pb p (a,dx) _).1 _ _).mp w'))];rcases Ql.mp hb with z|hb
    .exact .inl #[_,_,_,z▸k2]
    rcases Ql.mp hb with z|hb
    .exact .inr #[_,z▸k3]
    exact absurd hb hn
   .exact absurd (by dsimp only;rw[if_neg W]) ns
  .cases ns rfl
 .refine wF hs λc ρ' Y' qg H' e1 J m=>?_;subst e1;cases ns rfl
def GK(X:Cx)(p:Pm)(H0:Hp)(O0:List Addr)(pins:List (Addr×Obj))(Y:L2.St)(r:RS)(f:Flow)(s':Shared):Prop:=
 ∃ρ' fl b g H',r=.ok ρ' fl/\Bd p H0 O0 ρ' b g H'/\Inv X pins b H' s'/\bW p H0 O0 H' fl f/\(fl=.nx->b[(0:Nat)]?=Y[(0:Nat)]?)
def SK(X:Cx)(p:Pm)(G:Nat->List D->R D)(sub:Nat->Nat->Bool)(st:Stmt)(l:S):Prop:=
 ∀(H0:Hp)(O0:List Addr)(E:NZ),U1 (model X.prog X.w) X.A X.env E->∀(pins:List (Addr×Obj))(s:Shared)(Y:L2.St)(H:Hp)(Z:Ev.Env)(os:List (List Addr)),Inv X pins Y H s->Bd p H0 O0 Z Y os H->
  ex G sub l Z≠.qC->(∀e s',Es X p H0 O0 pins (ex G sub l Z) e s'->E e s')->wX X (exec st X.env) (GK X p H0 O0 pins Y (ex G sub l Z)) E s
def tC(X:Cx)(p:Pm)(G:Nat->List D->R D)(sub:Nat->Nat->Bool)(st:List Stmt)(l:List S):Prop:=
 ∀(H0:Hp)(O0:List Addr)(E:NZ),U1 (model X.prog X.w) X.A X.env E->∀(pins:List (Addr×Obj))(s:Shared)(Y:L2.St)(H:Hp)(Z:Ev.Env)(os:List (List Addr)),Inv X pins Y H s->Bd p H0 O0 Z Y os H->
  qL G sub l Z≠.qC->(∀e s',Es X p H0 O0 pins (qL G sub l Z) e s'->E e s')->wX X (VB st X.env) (GK X p H0 O0 pins Y (qL G sub l Z)) E s
def q8y:tC X p G sub [] []:=λH0 O0 E _ pins s Y H Z os I B _ _=>Ym #[Z,.nx,Y,os,H,rfl,B,I,trivial,λ_=>rfl]
def q8u{a:List Stmt}{c:Qs}(hc:ST X p G sub c lc)(ha:je X p G sub a la)(hn:∀Z ρ',qL G sub la Z≠.ok ρ' .nx):SK X p G sub (.If c a [] pos) (.ifs lc la []):=by
 intro H0 O0 E U pins s Y H Z os I B hs b;have e0:ex G sub (.ifs lc la []) Z=(z9 G sub lc Z).go Z λt=>if t then qL G sub la Z else qL G sub [] Z:=rfl
 rw[e0]at hs b|-;refine ZW (Qh (hc _ pins s Y H Z _ (.inl rfl) I B.rel (zh hs)) (λt s1 g=>qd g λH1 e1 J W=>?_) (λe s' z=>b e s' (j9 B z)));rw[e1]at hs b|-;cases t with
 |true=>
  refine Qh (ha H0 O0 E U pins s1 Y H1 Z os J (B.mono W) hs b) (λf s' g=>wY g λk fl F PZ H2 T B2 I2 r2=>#[k,fl,F,PZ,H2,T,B2,I2,r2,λz=>?_]) λ_ _ z=>z;subst z;exact absurd T (hn _ _)
 |false=>exact q8y (G:=G) (sub:=sub) H0 O0 E U pins s1 Y H1 Z os J (B.mono W) hs b
def q8v(J:i≠0)(T:X.N.Nodup)(hi:X.N[i]?=Qa x)(W:Loc X.env.scope x)(hf:X.fn x=Qb\/X.env.scope.names.lookup x=Qa .local)(U:SE X p G sub e l)
  (vR:J9 e (Qa (.Name x j0)) pos.line X.env=pure Qf):SK X p G sub (.Assign [.Name x j0] e pos) (.set i l):=by
 intro H0 O0 E hp pins s Y H Z os I B hs b;have F:ex G sub (.set i l) Z=(ev G sub l Z).go Z λd=>.ok (Z.set i (Qa (.val d))) .nx:=rfl;rw[F]at hs b|-;refine Yp (Qh (U pins s Y H Z _ I B.rel (zh hs)) (λv s1 zz=>qY zz λd y H1 e1 g r1 x1 q1=>?_) (λe s' z=>b e s' (j9 B z))) vR;rw[e1];exact wu g T hi W r1 (λs2 k=>#[_,.nx,_,_,H1,rfl,(B.mono x1).Xe (by rw[<-B.jU,I.len];exact(Qn.mp hi).1) q1,k,trivial,λ_=>Yg J]) hf
theorem rR{p I:Pm}{H H2 Hf k:Hp}(c:∀d v,pl d=Qb->Rep p Hf d v->Rep I k d v):∀{Z:Ev.Env}{Y:L2.St}{os:List (List Addr)},Z.all CI=Qb->ju p H Hf Z Y os->ju I H2 k Z Y os/\(os.take Z.length).flatten=[]
 |[],_,_,_,_=>#[trivial,by simp]
 |x::Z,_,_,hp,h=>by
  refine yA h λy g as J W qx b T=>?_;subst W qx;rw[YE,Qo]at hp;obtain⟨z,F⟩:=rR c hp.2 T;cases x with
  |none=>
   have b:=b;subst b;exact#[#[y,g,[],J,rfl,rfl,rfl,z],by simpa using F]
  |some sl=>
   cases sl with
   |val d=>
    obtain⟨rfl,v,rfl,U⟩:=b;exact#[#[_,g,[],J,rfl,rfl,#[rfl,v,rfl,c d v hp.1 U],z],by simpa using F]
   |_=>exact absurd hp.1 (by simp[CI])
def q05{fs:List D}(B:Bd p H O (Qa (.val (.obj fs))::ρ1) Y os H1)(e:Y[(0:Nat)]?=Qa (Qa (.ref a)))(W:H1 a=Qa (.ins p.C dx (p.flds.zip kH)))(k:H1 dx=Qa (.own a))(na:a∉O)(nx:dx∉O)
  (hp:ρ1.all CI=Qb) (hz:qk.length<=p.flds.length) (rl:qK p (fz (a::dx::O) H1) gs qk):
  Bd (p.of (a,dx)) (fz [a,dx] H) O (Qa (.obj Qb gs)::ρ1) Y ([a,dx]::os.tail) (upd H1 a (.ins p.C dx (p.flds.zip qk))):=by
 have U:dx≠a:=λz=>by rw[z,W]at k;cases k
 cases os with
 |nil=>exact absurd B.len (by simp)
 |cons as g=>
  obtain⟨y,Y',xj,qg,rfl,eo,⟨rfl,v,rfl,h1⟩,h2⟩:=B.rel.slots;obtain⟨rfl,rfl⟩:=Vw eo;cases e;have hl:g.length=ρ1.length:=by have:=B.len;simpa using this
  have F:(([]::g)++[O]).flatten=g.flatten++O:=by simp
  have c0:∀d v,pl d=Qb->Rep p (fz (([]::g)++[O]).flatten H1) d v->Rep (p.of (a,dx)) (fz (a::dx::O) H1) d v:=λd v z1 z2=>by
   refine((Pb p (a,dx) _).1 d v).mpr (CM (O':=(([]::g)++[O]).flatten) (λb hb hn=>?_) _ d v z1 z2);rcases Ql.mp hb with z|hb
   .exact .inl #[_,_,_,z▸W]
   rcases Ql.mp hb with z|hb
   .exact .inr #[_,z▸k]
   exact absurd (by rw[F];exact Qr _ hb) hn
  obtain⟨i1,i2⟩:=rR (H2:=upd H1 a (.ins p.C dx (p.flds.zip qk))) c0 hp h2;have I:g.flatten=[]:=by rw[<-hl]at i2;simpa[List.take_left]using i2
  have J:(([a,dx]::g)++[O]).flatten=a::dx::O:=by simp[I]
  have nd:O.Nodup:=by have:=B.rel.nd;rw[F,I]at this;exact this
  show Bd (p.of (a,dx)) (fz [a,dx] H) O (Qa (.obj Qb gs)::ρ1) _ ([a,dx]::g) _;refine#[#[by rw[J];simp[nd,na,nx,U.symm],λb hb=>?_,?_],?_,B.jU,λb o z=>?_,λb hb=>?_]
  .rw[J]at hb;rcases Ql.mp hb with z|hb
   .exact#[.ins p.C dx (p.flds.zip qk),by rw[z,zb]]
   rcases Ql.mp hb with z|hb
   .exact#[.own a,by rw[z,qW U];exact k]
   obtain⟨o,ho⟩:=B.rel.there b (by rw[F];exact Qr _ hb);have T:b≠a:=λz=>na (z▸hb);exact#[o,by rw[qW T];exact ho]
  .rw[J,(Fw (by simp))];exact#[_,_,[a,dx],_,rfl,rfl,#[a,dx,qk,rfl,rfl,λ_=>rfl,zb,by rw[qW U];exact k,hz,((Pb p (a,dx) _).2 gs qk).mpr rl],i1]
  .have:=B.len;simpa using this
  .unfold fz at z;split at z
   .exact nS z
   .rename_i T;rw[qW (λz=>T (by simp[z]))];exact B.ext b o z
  .
   unfold fz;rw[if_pos (by simpa[I]using hb)]
def Pz(X:Cx)(p:Pm)(G:Nat->List D->R D)(sub:Nat->Nat->Bool)(st:List Stmt)(l:List S):Prop:=
 ∀(rest:List Stmt)(Q:Flow->Shared->Prop)(H0:Hp)(O0:List Addr)(E:NZ),U1 (model X.prog X.w) X.A X.env E->∀(pins:List (Addr×Obj))(s:Shared)(Y:L2.St)(H:Hp)(Z:Ev.Env)(os:List (List Addr)),Inv X pins Y H s->Bd p H0 O0 Z Y os H->
  qL G sub l Z≠.qC->(∀ρ' fl,qL G sub l Z=.ok ρ' fl->fl=.nx)->(∀e s',Es X p H0 O0 pins (qL G sub l Z) e s'->E e s')->
  (∀ρ' b g H' s',qL G sub l Z=.ok ρ' .nx->Bd p H0 O0 ρ' b g H'->Inv X pins b H' s'->b[(0:Nat)]?=Y[(0:Nat)]?->wX X (VB rest X.env) Q E s')->
  wX X (VB (st++rest) X.env) Q E s
def q8x:Pz X p G sub [] []:=λrest Q H0 O0 E _ pins s Y H Z os I B _ _ _ k=>k Z Y os H s rfl B I rfl
def q8w{st:Stmt}{U:List Stmt}{l:S}{ls:List S}(h1:SK X p G sub st l)(h2:Pz X p G sub U ls):Pz X p G sub (st::U) (l::ls):=by
 intro rest Q H0 O0 E W pins s Y H Z os I B hs g b k;have e0:qL G sub (l::ls) Z=(ex G sub l Z).nx λρ'=>qL G sub ls ρ':=rfl;rw[e0]at hs g b k;have ns:ex G sub l Z≠.qC:=λe=>hs (by rw[e];rfl);refine YA (R7 (h1 H0 O0 E W pins s Y H Z os I B ns (λe s' zz=>wF zz λc ρ' F J H' e1 z m=>b e s' #[c,ρ',F,J,H',by rw[e1];rfl,z,m])) λf s1 q=>?_);obtain⟨ρ1,fl,T,jq,H1,e1,z,I1,r1,k1⟩:=q;rw[e1]at hs g b k;cases fl<;>cases f<;>first|exact r1.elim|skip
 .exact h2 rest Q H0 O0 E W pins s1 T H1 ρ1 jq I1 z hs g b λρ' F J H' s' z1 z2 z3 z4=>k ρ' F J H' s' z1 z2 z3 (z4.trans (k1 rfl))
 all_goals exact absurd (g _ _ rfl) (by simp)
def EA(X:Cx)(p:Pm)(H0:Hp)(O0:List Addr)(pins:List (Addr×Obj))(r:R D)(e:Value)(s':Shared):Prop:=
 ∃c ρ' b g H',r=.err c/\Bd p H0 O0 ρ' b g H'/\wN X p pins b H' c e s'
def q1O{r:R D}(T:Top X):U1 (model X.prog X.w) X.A X.env (EA X p H0 O0 pins r):=λe s h=>by refine wF h λc ρ' b F H' g k m=>?_;exact nh T m λs' z=>#[c,ρ',b,F,H',g,k,z]
theorem q7g{e:L}{k:Nat}(h:qL G sub pre (zV ds++Qj (n-ds.length) Qc)=.ok Z .nx):Ev.yS G sub n pre k e suf ds=(ev G sub e Z).bind λd=>(chg k d Z).bind λZ=>match qL G sub suf Z with
  |.ok Z .nx=>ui .qI Z
  |_=>.qC:=by
 unfold Ev.yS;rw[h]<;>rfl
def q7f{e:L}{k:Nat}(h:Ev.yS G sub n pre k e suf ds≠.qC):qL G sub pre (zV ds++Qj (n-ds.length) Qc)≠.qC/\∀Z fl,qL G sub pre (zV ds++Qj (n-ds.length) Qc)=.ok Z fl->fl=.nx:=by unfold Ev.yS at h;refine#[λz=>h (by rw[z]),λZ fl z=>?_];rw[z]at h;cases fl<;>first|rfl|cases h rfl
def q0w(h:chg k d Z≠.qC):∃fs gs ρ1,Z=Qa (.val (.obj fs))::ρ1/\pl d=Qb/\zj fs=Qb/\ρ1.all CI=Qb/\XZ k d fs=Qa gs/\chg k d Z=.ok (Qa (.obj Qb gs)::ρ1):=by
 unfold chg at h;split at h
 .rename_i fs ρ1;split at h
  .rename_i c;simp only[Qo]at c;cases b:XZ k d fs with
   |none=>rw[b]at h;cases h rfl
   |some gs=>exact#[fs,gs,ρ1,rfl,c.1.1,c.1.2,c.2,b,by unfold chg;simp[c.1.1,c.1.2,c.2,b]]
  .cases h rfl
 .cases h rfl
theorem pO{p:Pm}{H:Hp}{O O':List Addr}(h:∀b∈O,b∉O'->(∃C dx fs,H b=Qa (.ins C dx fs))\/∃y,H b=Qa (.own y)):∀{ds:List D}{vs:List V},zj ds=Qb->qK p (fz O' H) ds vs->qK p (fz O H) ds vs
 |[],_,_,r=>r
 |d::ds,_,e,r=>by refine qN r λv z F g k=>?_;subst F;unfold zj at e;rw[YE,Qo]at e;exact#[v,z,rfl,CM h _ d v e.1 g,pO h e.2 k]
def q8d{k:Nat}{f:Str}{lv:L}{Q:Flow->Shared->Prop}(F:ClsI X.K p)(hk:p.flds[k]?=Qa f)(hi:X.N[(0:Nat)]?=Qa x)(DJ:jY X.env.scope x)(hd:nD x)(zE:nC x)(hv:SE X p G sub v lv)
  (vR:J9 v (Qa (.Attribute (.Name x q) f j0)) pos.line X.env=pure Qf) (I:Inv X pins Y H s) (B:Bd p H0 O Z Y os H) (e:Y[(0:Nat)]?=Qa (Qa (.ref a))) (ha:H a=Qa (.ins p.C dx (p.flds.zip kH))) (j5:H dx=Qa (.own a)) (na:a∉O) (nx:dx∉O)
  (ns:((ev G sub lv Z).bind λd=>chg k d Z)≠.qC) (hE:∀e s',Er X p pins Y H (ev G sub lv Z) e s'->E e s')
  (hQ:∀d gs ρ1 H2 s',ev G sub lv Z=.ok d->chg k d Z=.ok (Qa (.obj Qb gs)::ρ1)->Inv X pins Y H2 s'->Bd (p.of (a,dx)) (fz [a,dx] H0) O (Qa (.obj Qb gs)::ρ1) Y ([a,dx]::os.tail) H2->Q .next s'):
  wX X (exec (.Assign [.Attribute (.Name x q) f j0] v pos) X.env) Q E s:=by
 refine W9 (Qh (hv pins s Y H Z _ I B.rel (λz=>ns (by rw[z];rfl))) (λu1 t1 zz=>qY zz λd1 y1 H1 e1 I1 r1 W q1=>?_) hE) vR;rw[e1]at ns;refine qY (q0w ns) λfs gs ρ1 zu c1 c2 c3 zr=>?_;obtain⟨c4,c5⟩:=zr;subst zu;have B1:=B.mono W;have g:=W _ _ ha;have gw:=W _ _ j5;have hh:∀b∈a::dx::O,b∉(os++[O]).flatten->(∃C dx fs,H1 b=Qa (.ins C dx fs))\/∃y,H1 b=Qa (.own y):=λb hb hn=>by
  rcases Ql.mp hb with z|hb
  .exact .inl #[_,_,_,z▸g]
  rcases Ql.mp hb with z|hb
  .exact .inr #[_,z▸gw]
  exact absurd (Q5.mpr #[O,by simp,hb]) hn
 obtain⟨y,Y',xj,qg,rfl,eo,⟨rfl,v0,rfl,h1⟩,h2⟩:=id B1.rel.slots;cases e;refine qY h1 λa' L4 U g0 J g2 g3 g4=>?_;cases g0;have T:H1 a=Qa (.ins p.C L4 (p.flds.zip U)):=by
  unfold fz at J;split at J
  .cases J
  .exact J
 rw[g]at T;have gd:dx=L4:=by injection T with z;injection z
 subst gd;have gz:p.flds.zip kH=p.flds.zip U:=by injection T with z;injection z
 rw[gz]at g;refine qd (pB (y:=y1) F.nd hk c4 g3 (pO hh c2 g4) (CM hh _ d1 y1 c1 q1)) λqk z1 z2 z3=>?_;refine kN I1 hi DJ rfl hd zE λu r=>?_;cases r;refine rG I1 g F.cls (F.flds f (Qp hk)) ?_ r1 λt2 I2=>?_
 .have:=F.len;have:=List.length_zip (l₁:=p.flds) (l₂:=U);lia
 rw[z1]at I2;exact hQ d1 gs ρ1 _ t2 e1 c5 I2 (q05 B1 rfl g gw na nx c3 z2 z3)
def q1z{k kf:Nat}{F:Str}{aa bH:List Stmt}{q0:WD}{kV ct:Value}
  {kg:Array (Option Value)}{N ps:List Str}{G':Nat->List D->R D}{pre suf:List S}{le:L}(lk:K.lookup f=Qa #[oc,od,.func (Jj name qual params (aa++.Assign [.Attribute (.Name x q0) F j0] v pos::bH) scope dV kV doc pm an zC ct),kg]) (zE:Yj K zC qual=Qb) (S:FnScope N ps scope)
  (hG:∀ds,G j ds≠.qC->ds.length=ps.length->G j ds=Ev.yS G' sub N.length pre kf le suf ds) (cl:ClsI K p) (hk:p.flds[kf]?=Qa F) (hi:N[(0:Nat)]?=Qa x) (hd:nD x) (q31:nC x)
  (yc:∀(z:Addr×Addr)(A:Around)(outer:List JM)(s:Shared)(H:Hp)(E:XK),Room k (A.deeper (U2 qual scope s.heap.objs.size f zC))->Env0 P w K mg base A outer s H->
   Pz (kR (zk P w) P w K mg base N qual scope f zC A outer s H E) p G' sub aa pre/\SE (kR (zk P w) P w K mg base N qual scope f zC A outer s H E) p G' sub v le/\jY (kR (zk P w) P w K mg base N qual scope f zC A outer s H E).env.scope x/\
   J9 v (Qa (.Attribute (.Name x q0) F j0)) pos.line (kR (zk P w) P w K mg base N qual scope f zC A outer s H E).env=pure Qf/\je (kR (zk P w) P w K mg base N qual scope f zC A outer s H E) (p.of z) G' sub bH suf):
  FnOk P w K mg base (zk P w) (k+1) f (Jj name qual params (aa++.Assign [.Attribute (.Name x q0) F j0] v pos::bH) scope dV kV doc pm an zC ct) ps (vZ p G j ps.length):=by
 refine#[λvs H Q E h=>by obtain⟨fs,ds,a,dx,kH,ws,O,h1,h2,h3⟩:=h;exact h2,λA outer s H args us vs Q E hr U hb r zt=>?_];obtain⟨fs,ds,a,dx,kH,ws,O,rfl,hl,nd,t,na,nx,ha,j5,hz,rl,q,ns,q1,q2⟩:=zt;have KX:K.In s.heap:=U.mod.vA.keeps λb o e=>(U.bs b o e).1;have TL:∀y∈ps.zip us,scope.names.lookup y.1=Qa .local\/(scope.names.lookup y.1=Qa .cell/\((Wc (s.heap.objs.size+1) scope.names []).lookup y.1).isSome=Qb):=λ⟨n,v⟩ hy=>by
  rcases S.par n (Y1 hy).1 with q|q
  .exact .inl q
  .exact .inr #[q,Ys _ _ _ (.inl q)]
 refine Uy hr.depth (KX _ _ lk) rfl S.co S.gen rfl (UC KX zE) (hb _ _ _ _ ?_);refine YZ S.kind TL λenv he s1 x=>?_;subst he;refine#[(U.mod.nolimit.keeps λb o e=>(U.bs b o e).1).keeps x.toInCall.keep,WW ?_];have kW:ps.length<=N.length:=by have:=congrArg Yu S.pre;rw[J3]at this;lia
 have sb:Ext (fz (a::dx::O) H) (fz O H):=ya λb hb=>by simp[hb]
 have q':qK p (fz O H) (.obj fs::ds) (.ref a::ws):=#[.ref a,ws,rfl,#[a,dx,kH,rfl,by unfold fz;rw[if_neg na];exact ha,by unfold fz;rw[if_neg nx];exact j5,hz,rl.mono sb],q.mono sb]
 have ua:=hG (.obj fs::ds) ns (by rw[QH,q.length];exact hl);have T:Top (kR (zk P w) P w K mg base N qual scope f zC A outer s H E):=#[rfl,rfl]
 refine y9 (yc (a,dx) A outer s H E (hr.deeper _) U) λb1 b2 b3 b4 b5=>?_;have oU:=ns;rw[ua]at oU;obtain⟨n1,n2⟩:=q7f oU;refine Qh (Q:=λfl s'=>∃gs ρ1 I J H',G j (.obj fs::ds)=.ok (.qE [.qI,.obj gs])/\fl=.next/\Bd (p.of (a,dx)) (fz [a,dx] H) O (Qa (.obj Qb gs)::ρ1) I J H'/\Inv (kR (zk P w) P w K mg base N qual scope f zC A outer s H E) [] I H' s') (E:=EA (kR (zk P w) P w K mg base N qual scope f zC A outer s H E) p H O [] (G j (.obj fs::ds)))
  (b1 _ _ H O _ (q1O T) [] s1 _ H _ _ (G7 S hr.hd U hl r x) (IM (N:=N) nd t q' ∅) n1 n2 (λe s' g=>wF g λc ρ' I J H' z1 z2 z3=>#[c,ρ',I,J,H',by rw[ua];unfold Ev.yS;rw[z1],z2,z3]) λρ' I J H' s' z1 z2 z3 z4=>?_) (λfl s' hs=>?_) λe s' hs=>?_
 .have W:=q7g (k:=kf) (suf:=suf) (e:=le) z1;rw[<-ua]at W;rw[W]at ns;have aA:((ev G' sub le ρ').bind λd=>chg kf d ρ')≠.qC:=λz=>ns (by
   cases yD:ev G' sub le ρ' with
   |ok d=>rw[yD,qF]at z;rw[qF,z];rfl
   |err c=>rw[yD]at z;cases z
   |qC=>rfl)
  refine YA (q8d cl hk hi b3 hd q31 b2 b4 z3 z2 (z4.trans rfl) (z2.ext _ _ ha) (z2.ext _ _ j5) na nx aA (λe s' g=>qH g λc g1 g2=>⟨c,ρ',I,J,H',by rw[W,g1];rfl,z2,g2⟩) λd gs ρ1 H2 s2 g1 g2 I2 B2=>?_);rw[g1,qF,g2,qF]at W ns;refine Qh (b5 (fz [a,dx] H) O _ (Fn (p:=p.of (a,dx)) (H0:=fz [a,dx] H) (O0:=O) (pins:=[]) (r:=qL G' sub suf (Qa (.obj Qb gs)::ρ1)) T) [] s2 _ H2 _ _ I2 B2 (λz=>ns (by rw[z])) (λe s' z=>z)) (λfl s' g=>wY g λρ4 fl4 σ4 oh H4 g3 g4 g5 g6=>?_) λe s' g=>wF g λc ρ4 σ4 oh H4 g3 g4 g5=>absurd (by rw[g3]) ns;rw[g3]at W ns;cases fl4<;>cases fl<;>first|exact g6.elim|exact absurd rfl ns|skip
  refine ja (aE (d:=.qI) (Z:=ρ4) ns) λLn ρ5 g e2=>?_;subst g;exact#[Ln,ρ5,σ4,oh,H4,W.trans e2,rfl,g4,g5]
 .refine wY hs λgs ρ1 I J H' g1 g g3 I'=>?_;subst g;obtain⟨k1,qk,k2,k3,k4,k5⟩:=IL g3 j5;exact#[.qI,H',I'.os,I'.bare,I'.base,I'.qO,rfl,q1 .qI gs .qI H' qk g1 k1 k2 k4 k5 rfl]
 .refine wF hs λc ρ' I J H' e1 B' m=>?_;exact Sd T rfl m B'.ext (λC H2 h1 h2=>q2 c C H2 e e1 h1 h2) λs2 h2=>h2
local instance Iu:DecidableEq D:=λa b=>Yh (a=b)
def q7O{T g:Addr->List V->Prop}(x:∀b xs,T b xs->g b xs):(∀d v,Xm K T d v->Xm K g d v)/\(∀ds vs,RD K T ds vs->RD K g ds vs):=by
 refine D.ind
  (λv h=>h) (λ_ v h=>h) (λ_ v h=>h) (λ_ v h=>h) (λl I v h=>?_) (λl _ v h=>h.elim) (λ_ _ _ _ v h=>h) (λ_ v h=>h) (λ_ _ v h=>h) (λ_ _ _ v h=>h) (λvs h=>h) (λd ds J U vs h=>?_)
 .refine zN h λa vs e s z r=>?_;exact#[a,vs,e,s.imp (x _ _) id,z,I _ r]
 .refine qN h λv r e k F=>?_;exact#[v,r,e,J _ k,U _ F]
def q7P:(∀d v,Xm p.K (tv H) d v->Rep p H d v)/\(∀ds vs,RD p.K (tv H) ds vs->qK p H ds vs):=by
 refine D.ind
  (λv h=>h.elim) (λ_ v h=>h.elim) (λ_ v h=>h) (λ_ v h=>h.elim) (λl k v h=>?_) (λl _ v h=>h.elim) (λ_ _ _ _ v h=>h.elim) (λ_ v h=>h.elim) (λ_ _ v h=>h.elim) (λ_ _ _ v h=>h.elim) (λvs h=>h) (λd ds F I vs h=>?_)
 .refine zN h λa vs e s z r=>?_;refine#[a,vs,e,?_,z,k _ r];rcases s with s|s|s
  .exact .inl s
  .exact s.elim (λz=>nomatch z) λ⟨_,z⟩=>nomatch z
  .exact .inr s
 .refine qN h λv r e b g=>?_;exact#[v,r,e,F _ b,I _ g]
def q7S:(∀d v,qJ d=Qb->Rep p H d v->Xm p.K (tv H) d v)/\(∀ds vs,zO ds=Qb->qK p H ds vs->RD p.K (tv H) ds vs):=by
 refine D.ind
  (λv h=>by simp[qJ]at h) (λ_ v h=>by simp[qJ]at h) (λ_ v _ h=>h) (λ_ v h=>by simp[qJ]at h) (λl F v b h=>?_) (λl _ v h=>by simp[qJ]at h) (λ_ _ _ _ v h=>by simp[qJ]at h) (λ_ v h=>by simp[qJ]at h) (λ_ _ v h=>by simp[qJ]at h) (λ_ _ _ v h=>by simp[qJ]at h) (λvs _ h=>h) (λd ds I J vs b h=>?_)
 .refine zN h λa vs e s z r=>?_;exact#[a,vs,e,s.imp id .inr,z,F _ (by simpa[qJ]using b) r]
 .refine qN h λv r e g k=>?_;exact#[v,r,e,I _ (we.mp b).1 g,J _ (we.mp b).2 k]
def memψ_mono{c:Int}:∀T g o,memψ K c zq T o->(∀b xs,T b xs->g b xs)->memψ K c zq g o:=by rintro T g o ⟨xs,es,ep,k,z,F,I,J⟩ x;exact#[xs,es,ep,k,z,F,I,λy U=>let⟨a,b,c,d⟩:=J y U;#[a,b,c,(q7O x).1 _ _ d]]
def q1K{d:Addr}{o:Obj}{es:Array DictEntry}{ep:Nat}(z:h.get? d=Qa o)(hd:o.data=.dict es ep)(hs:JI d h h'):(∀x u,qJ x=Qb->Dv h x u->Dv h' x u)/\(∀xs us,zO xs=Qb->zU h xs us->zU h' xs us):=by
 refine D.ind
  (λu h=>by simp[qJ]at h) (λ_ u h=>by simp[qJ]at h) (λ_ u _ r=>r) (λ_ u h=>by simp[qJ]at h) (λl F u b r=>?_) (λl _ u h=>by simp[qJ]at h) (λ_ _ _ _ u h=>by simp[qJ]at h) (λ_ u h=>by simp[qJ]at h) (λ_ _ u h=>by simp[qJ]at h) (λ_ _ _ u h=>by simp[qJ]at h) (λus _ r=>r) (λx xs I J us b r=>?_)
 .obtain⟨a,us,rfl,⟨o',e,c,n,q⟩,U⟩:=r;have ne:a≠d:=by rintro rfl;obtain rfl:o'=o:=QV (e.symm.trans z);rw[hd]at q;exact nomatch q
  exact#[a,us,rfl,#[o',(hs.2 a ne).trans e,c,n,q],F _ (by simpa[qJ]using b) U]
 .obtain⟨u,T,rfl,g,k⟩:=r;exact#[u,T,rfl,I _ (we.mp b).1 g,J _ (we.mp b).2 k]
noncomputable def ym(P:Program)(w:World):HeapKind P w D where
 is h d a:=qJ d=Qb/\pl d=Qb/\Dv h d (.ref a)
 hash:=hv
 draws:=dr
 room A:=A.units+8<cLine
 inj:=λ{h a x y} g k=>(k9 g.1 k.1).mp (EO 8 g.2.1 k.2.1 g.2.2 k.2.2)
 keeps:=λx z hd hs=>#[x.1,x.2.1,(q1K z hd hs).1 _ _ x.1 x.2.2]
 pyHash:=λhu x h=>pG 8 x.2.1 x.1 x.2.2 hu h
 eqBool:=λ{A E s x y a b Q} hu g k h=>by
  refine xE 8 g.2.1 k.2.1 g.2.2 k.2.2 hu P w E Q ?_;have:qM x y=decide (x=y):=by rw[Q0,k9 g.1 k.1,decide_eq_true_eq]
  rw[this];exact h
 quiet:=λx h=>ag 8 8 (Qt _) x.2.1 x.1 x.2.2 h
section
variable{c:Int}
def nW(W:p.K=X.K)(I:Inv X pins Y H s)(e:H a=Qa (.memo (memψ p.K c zq))):∃xs:List (D×Addr×Value),s.heap.DictOfH (ym X.prog X.w) a xs/\
  ∀x∈xs,(∃ks,x.1=.qE ks/\wx ks zq=Qb/\RelV (.int (uJ c ks)) x.2.2)/\qJ x.1=Qb/\pl x.1=Qb/\Xm p.K (tv H) x.1 (.ref x.2.1):=by
 obtain⟨⟨o,ho,xs,es,ep,F,J,T,U,b⟩,_⟩:=I.qO _ _ e;refine#[xs,#[o,es,ep,ho,F,J,T,λx hx=>?_,U],b];refine vf (b x hx) λ_ g k z=>?_;exact#[g,k,(wU W I).1 _ _ _ (q7P.1 _ _ z) rfl]
def Gj(F:p.K=X.K)(I:Inv X pins Y H s){b:Addr}(g:qJ d=Qb)(k:pl d=Qb)(z:Rep p H d (.ref b)):(ym X.prog X.w).is s.heap d b:=#[g,k,(wU F I).1 _ _ _ z rfl]
theorem bG:∀{ks zq:List D},zO ks=Qb->zO zq=Qb->wx ks zq=Qb->List.Sublist ks zq
 |[],_,_,_,_=>List.nil_sublist _
 |_::_,[],_,_,h=>by simp[wx]at h
 |x::xs,y::ys,h1,h2,h=>by
  unfold wx at h;split at h
  .rename_i e;rw[(k9 (we.mp h1).1 (we.mp h2).1).mp e];exact(bG (we.mp h1).2 (we.mp h2).2 h).cons₂ _
  .exact (bG h1 (we.mp h2).2 h).cons _
theorem xR{α:Type}:∀{l m:List α},l.Nodup->(∀x∈l,x∈m)->l.length<=m.length
 |[],_,_,_=>QU _
 |x::l,m,h,s=>by
  classical
  obtain⟨a,b,e⟩:=UJ (s x Qg);subst e;have:=xR (m:=a++b) (QP.mp h).2 λy g=>by
   have z:=s y (Qd _ g);rcases QF.mp z with z|z
   .exact QR _ z
   .rcases Ql.mp z with z|z
    .exact absurd (z▸g) (QP.mp h).1
    .exact Qr _ z
  simp at this|-;lia
noncomputable def Pk{α:Type}:List α->List (List α)
 |[]=>[[]]
 |x::l=>Pk l++(Pk l).map (x::·)
theorem sH{α:Type}:∀l:List α,(Pk l).length=2^l.length
 |[]=>rfl
 |x::l=>by simp[Pk,sH l,Vs];lia
def q4y{k l:List α}(h:List.Sublist k l):k∈Pk l:=by
 induction h with
 |slnil=>exact QE.mpr rfl
 |cons _ _ b=>exact QR _ b
 |cons_cons _ _ b=>exact Qr _ (Qv.mpr #[_,b,rfl])
def q4F(nd:(xs.map (·.1)).Nodup)(b:zO zq=Qb)(hl:zq.length<=20)(h:∀x∈xs,(∃ks,x.1=.qE ks/\wx ks zq=Qb)/\qJ x.1=Qb):xs.length<=2^20:=by
 have:=xR (m:=(Pk zq).map D.qE) nd λy k=>by obtain⟨x,g,rfl⟩:=Qv.mp k;obtain⟨⟨ks,e,q⟩,w⟩:=h x g;rw[e]at w;exact Qv.mpr #[ks,q4y (bG (by simpa[qJ]using w) b q),e.symm]
 rw[Qm,Qm,sH]at this;exact Qw this (Q1 (by decide) hl)
def nM{m k v:D}(h:yL m k v=Qb):∃c zq ks,m=.mem c zq/\k=.qE ks/\v=.int (uJ c ks)/\wx ks zq=Qb/\qJ (.qE ks)=Qb/\pl (.qE ks)=Qb/\zq.length<=20/\zO zq=Qb:=by
 unfold yL at h;split at h
 .simp at h;obtain⟨⟨⟨⟨⟨b,g⟩,z⟩,F⟩,I⟩,J⟩:=h;exact#[_,_,_,rfl,rfl,by rw[b],g,by simpa[qJ]using z,F,I,J]
 .cases h
def tm{k:D}{q:Addr×Value}(h:Um xs k=Qa q):(k,q)∈xs:=by unfold Um at h;obtain⟨x,b,rfl⟩:=JS.mp h;have g:=List.find?_some b;have z:=Zj b;have:x.1=k:=of_decide_eq_true g;rw[<-this];exact z
end
def q5M(hl:Y.length=Z.length):ju p H Hf (wm Z) Y (Qj Z.length []++[O0]):=by
 unfold wm;have:∀(n:Nat)(Y:L2.St),Y.length=n->ju p H Hf (Qj n Qc) Y (Qj n []++[O0]):=by
  intro n
  induction n with
  |zero=>intro Y _;trivial
  |succ n b=>
   intro Y h;cases Y with
   |nil=>cases h
   |cons y Y=>exact#[y,Y,[],_,rfl,rfl,rfl,b Y (by simpa using h)]
 exact this _ _ hl
theorem Bd.wm(b:Bd p H0 O0 Z Y os H)(hl:ρ0.length=Z.length):Bd p H0 O0 (Ev.wm ρ0) Y (Qj ρ0.length []) H:=by
 have fl:(Qj ρ0.length ([]:List Addr)++[O0]).flatten=O0:=by simp
 refine#[#[?_,λa g=>?_,q5M (by rw[hl];exact b.jU)],by simp[Ev.wm],by simp[Ev.wm,b.jU,hl],b.ext,λa g=>absurd g (by simp)]
 .rw[fl];have:=b.rel.nd;rw[vj]at this;exact(QS.mp this).2.1
 .rw[fl]at g;exact b.rel.there a (by rw[vj];exact Qr _ g)
def q50{k:Nat}{lb:List S}(h:qL G sub [.memo i k lb lv] Z≠.qC):∃ρ' v z b F g,qL G sub lb Z=.ok ρ' .nx/\ev G sub lv ρ'=.ok v/\zH Z i=.ok z/\zH Z k=.ok b/\zH ρ' i=.ok F/\zH ρ' k=.ok g/\yL z b v=Qb/\yL F g v=Qb/\qL G sub [.memo i k lb lv] Z=.ok (wm Z) (.ret v):=by
 have I:qL G sub [.memo i k lb lv] Z=(ex G sub (.memo i k lb lv) Z).nx λρ'=>.ok ρ' .nx:=rfl;have e1:ex G sub (.memo i k lb lv) Z=match qL G sub lb Z with
   |.ok ρ' .nx=>match ev G sub lv ρ',zH Z i,zH Z k,zH ρ' i,zH ρ' k with
    |.ok v,.ok z,.ok b,.ok F,.ok g=>if yL z b v&&yL F g v then .ok (wm Z) (.ret v)else .qC
    |_,_,_,_,_=>.qC
   |_=>.qC:=rfl
 rw[I,e1]at h|-;split at h
 .rename_i ρ' hb;split at h
  .rename_i v z b F g J T U W h5;split at h
   .rename_i hc;rw[Qo]at hc;refine#[ρ',v,z,b,F,g,hb,J,T,U,W,h5,hc.1,hc.2,?_];rw[if_pos (by rw[hc.1,hc.2];rfl)];rfl
   .cases h rfl
  .cases h rfl
 .cases h rfl
theorem sj{M:ZL}{g:PySem.Ctx}{b:List Stmt}{env:JM}{Q:Flow->Shared->Prop}{E:NZ}:∀{a:List Stmt}{p:WD}{s:Shared},Sem.wp M g (VB a env) (λf k s'=>match f with|.next=>Sem.wp M g (VB b env) (λf _ s=>Q f s) (λe _ s=>E e s) k s'|f=>Q f s') (λe _ s=>E e s) p s->Sem.wp M g (VB (a++b) env) (λf _ s=>Q f s) (λe _ s=>E e s) p s
 |[],p,s,h=>h
 |x::a,p,s,h=>by rw[List.cons_append];rw[execs_cons,Sem.wp_bind']at h|-;refine Sem.wp_mono M g _ (λf k s' h'=>?_) (λ_ _ _ h'=>h') _ _ h;cases f<;>first|exact sj h'|exact h'
def q1k{a b:List Stmt}{Q:Flow->Shared->Prop}(h:wpAny M A (VB a env) (λf s'=>match f with|.next=>wpAny M A (VB b env) Q E s'|f=>Q f s') E s):wpAny M A (VB (a++b) env) Q E s:=λk p g=>by refine sj (Sem.wp_mono M k _ (λf z s' h'=>?_) (λ_ _ _ h'=>h') _ _ (h k p g));cases f<;>first|exact h' k z g|exact h'
def sV(e:H a=Qa o):upd H a o=H:=by
 funext b
 by_cases h:b=a
 .rw[h,zb,e]
 .exact qW h
def ak(hu:X.A.units+64<cLine):(ym X.prog X.w).room X.A.in1:=by show X.A.in1.units+8<cLine;rw[Q8];lia
theorem cH{v:Value}:∀{xs:List (D×Addr×Value)}{q:Addr×Value},Um xs k=Qa q->∃b,Um (xs.map (putAt k v)) k=Qa (b,v)
 |[],q,h=>by cases h
 |x::xs,q,h=>by
  by_cases e:x.1=k
  .exact#[x.2.1,by simp[Um,putAt,e]]
  .obtain⟨b,hb⟩:=cH (by simpa[Um,e]using h);exact#[b,by rw[QK,putAt,if_neg e];simpa[Um,e]using hb]
def q4x{k:D}{v:Value}{x:D×Addr×Value}(h:x∈storedH xs k a v):x∈xs\/(x.1=k/\x.2.2=v/\(x.2.1=a\/∃y∈xs,y.1=k/\y.2.1=x.2.1)):=by
 unfold storedH at h;split at h
 .refine qH (Qv.mp h) λy b g=>?_;subst g;unfold putAt;split
  .rename_i e;exact .inr #[e,rfl,.inr #[y,b,e,rfl]]
  .exact .inl b
 .rcases QF.mp h with h|h
  .exact .inl h
  .simp at h;subst h;exact .inr #[rfl,rfl,.inl rfl]
def tq(k:D)(a:Addr)(v:Value):∃b,Um (storedH xs k a v) k=Qa (b,v):=by
 cases h:Um xs k with
 |none=>
  rw[storedH_new h];unfold Um at h|-;rw[List.find?_append];rw[Zq]at h;rw[h];exact#[a,by simp]
 |some q=>
  rw[storedH_old h];exact cH h
def nX{k:Nat}{b:Addr}{c:Int}{q:Addr×Value}(hu:X.A.units+64<cLine)
  (hi:X.N[i]?=Qa t) (T:jY X.env.scope t) (wc:nD t) (z:nC t) (hk:X.N[k]?=Qa x) (U:jY X.env.scope x) (J:nD x) (F:nC x)
  (I:Inv X pins Y H s) (B:Bd p H0 O0 Z Y os H) (hl:ρ0.length=Z.length) (st:Y[i]?=Qa (Qa (.ref ta))) (sk:Y[k]?=Qa (Qa (.ref b))) (dd:s.heap.DictOfH (ym X.prog X.w) ta xs) (g:(ym X.prog X.w).is s.heap (.qE ks) b) (W:Um xs (.qE ks)=Qa q) (rv:RelV (.int (uJ c ks)) q.2):
  wX X (VB [.Return (Qa (.Subscript (.Name t q1) (.Name x q2) q3)) q4] X.env) (Gs X p H0 O0 pins (.ok (wm ρ0) (.ret (.int (uJ c ks))))) E s:=by
 refine YA (Ur (ZV (kN I hi T st wc z λu r=>?_)));cases r;refine kN I hk U sk J F λu r=>?_;cases r;refine ZU (ops:=[.ref ta,.ref b]) dd.typeIs slot_dict_getitem.lookup (wpAny_getItem_heap (knd:=ym X.prog X.w) (ak hu) g dd W ?_) rfl;exact#[_,_,Y,_,H,rfl,B.wm hl,I.tok _,_,rv,rfl]
def q52{b:Addr}{c:Int}(J:p.K=X.K)(hu:X.A.units+64<cLine)(I:Inv X pins Y H s)(ns:(ta==JZ)=Qf)(g:H ta=Qa (.memo (memψ p.K c zq)))(rk:Rep p H (.qE ks) (.ref b))
  (sb:wx ks zq=Qb) (k:qJ (.qE ks)=Qb) (W:pl (.qE ks)=Qb) (rl:zq.length<=20) (rh:zO zq=Qb) (rv:RelV (.int (uJ c ks)) u)
  (h:∀s' xs q,Inv X pins Y H s'->s'.heap.DictOfH (ym X.prog X.w) ta xs->(ym X.prog X.w).is s'.heap (.qE ks) b->Um xs (.qE ks)=Qa q->RelV (.int (uJ c ks)) q.2->Q () s'):wX X (setItem (.ref ta) (.ref b) u) Q E s:=by
 obtain⟨xs,dd,T⟩:=nW J I g;have nd:(xs.map (·.1)).Nodup:=let⟨_,_,_,_,_,_,_,_,z⟩:=dd;z;have kL:xs.length<=QD:=Qw (q4F nd rh rl λx h=>let⟨⟨ks,a1,a2,_⟩,a3,_⟩:=T x h;#[#[ks,a1,a2],a3]) (by decide);refine wpAny_setItem_heap (knd:=ym X.prog X.w) (hsz:=kL) (ak hu) (Gj J I k W rk) dd λh' xn hs=>?_;obtain⟨bb,hb⟩:=tq (xs:=xs) (.qE ks) b u;have y0:=xn;obtain⟨o,es,ep,ho,h1,h2,h3,h4,h5⟩:=y0;have F:=E9 (t':=s.toks+(ym X.prog X.w).draws (.qE ks)) (ob:=.memo (memψ p.K c zq)) I (by rw[g];exact Y5) hs #[o,ho] #[#[o,ho,_,es,ep,h1,h2,h3,h5,λx U=>?_],memψ_mono]
 .rw[sV g]at F;exact h _ _ _ F xn (Gj J F k W rk) hb rv
 .rw[sV g];rcases q4x U with z|⟨z1,z2,z3⟩
  .exact T x z
  .rw[z1,z2];refine#[#[ks,rfl,sb,rv],k,W,?_];rcases z3 with z3|⟨y,hy,y1,y2⟩
   .rw[z3];exact q7S.1 _ _ k rk
   .rw[<-y2];have:=(T y hy).2.2.2
    rwa [y1]at this
def q9P{k:Nat}{lb:List S}{lv:L}{q6 q7 q8 q9 qa qb qc:WD}(hK:p.K=X.K)(hu:X.A.units+64<cLine)
  (hi:X.N[i]?=Qa t) (Ru:jY X.env.scope t) (wc:nD t) (U:nC t) (hk:X.N[k]?=Qa x) (Rv:jY X.env.scope x) (Rg:nD x) (W:nC x)
  (hb:je X p G sub body lb) (hv:SE X p G sub v lv) (vR:J9 v (Qa (.Subscript (.Name t q4) (.Name x q5) q6)) q7.line X.env=pure Qf):
  je X p G sub [.If (.Compare (.Name x q1) [.NotIn] [.Name t q2] q3) (body++[.Assign [.Subscript (.Name t q4) (.Name x q5) q6] v q7]) [] q8,.Return (Qa (.Subscript (.Name t q9) (.Name x qa) qb)) qc] [.memo i k lb lv]:=by
 intro H0 O0 E hp pins s Y H Z os I B hs hE;refine(q50 hs).elim λρ' g=>?_;refine EK g λvd m1 d1 m2 d2 eb Fo g1 g2 g3 g4 ok1 g=>?_;obtain⟨ok2,er⟩:=g;rw[er];refine uR (nM ok1) λc zq ks F vc zq3 sb hh pp g=>?_;obtain⟨rl,rh⟩:=g;subst F vc zq3;refine qH (B.rel.val g1) λvt st g=>?_;refine qd g λta F ns et=>?_;subst F;refine qH (B.rel.val g2) λvk sk g=>?_;refine zN g λb vs F sq zl rl'=>?_;subst F;have rk:Rep p H (.qE ks) (.ref b):=Rep.mono (d:=.qE ks) #[b,vs,rfl,sq,zl,rl'] zG;refine qH (nW hK I (zG _ _ et)) λxs dd hx=>?_;refine YA (ZW (VU (kN I hk Rv sk Rg W λu r=>?_) rfl));cases r;refine kN I hi Ru st wc U λu r=>?_;cases r;refine wpAny_notIn_heap (knd:=ym X.prog X.w) (ak hu) (Gj hK I hh pp rk) ns dd (Yn ?_);have I':=I.tok (s.toks+(ym X.prog X.w).draws (.qE ks));cases ha:Um xs (.qE ks)with
 |some q=>
  rw[VO,YF,if_neg Qq];obtain⟨⟨yn,e1,_,rv⟩,_⟩:=hx _ (tm ha);cases e1;exact Ym (nX hu hi Ru wc U hk Rv Rg W I' B rfl st sk dd (Gj hK I' hh pp rk) ha rv)
 |none=>
  rw[Option.isSome_none,J5,if_pos rfl];refine q1k (R7 (hb H0 O0 E hp pins _ Y H Z os I' B (by rw[eb];simp) (λe s' J=>wF J λ_ _ _ _ _ z _ _=>by rw[eb]at z;cases z)) λf s1 J=>wY J λρ1 fl σ1 jq H1 e1 B1 I1 r1=>?_);rw[eb]at e1;cases e1;cases f<;>first|exact r1.elim|skip
  refine YA (wpAny_Assign_Subscript (Qh (hv pins s1 σ1 H1 ρ' _ I1 B1.rel (by rw[Fo];simp)) (λu1 t1 J=>qY J λd y1 H2 e1 I2 ru x1 q1=>?_) (λe s' J=>qH J λ_ z _=>by rw[Fo]at z;cases z)) vR);rw[Fo]at e1;cases e1;cases q1;have T:=B1.mono x1;refine uR (nM ok2) λc2 qBJ ks2 F vc ee sb2 hh2 pp2 g=>?_;obtain⟨rl2,rh2⟩:=g;subst F vc;rw[ee];rw[D.int.inj ee]at ru;refine qH (T.rel.val g3) λvt2 w8 g=>?_;refine qd g λta2 F aA et2=>?_;subst F;refine qH (T.rel.val g4) λvk2 uu g=>?_;refine zN g λb2 yz F sq2 zl2 q7V=>?_;subst F;refine kN I2 hi Ru w8 wc U λu r=>?_;cases r;refine kN I2 hk Rv uu Rg W λu r=>?_;cases r;refine q52 hK hu I2 aA (zG _ _ et2) (Rep.mono (d:=.qE ks2) #[b2,yz,rfl,sq2,zl2,q7V] zG) sb2 hh2 pp2 rl2 rh2 ru λs3 xs3 q3 I3 dd3 k3 ha3 rv3=>?_;refine Ym (nX hu hi Ru wc U hk Rv Rg W I3 T (by rw[<-B.jU,<-T.jU,I.len,I3.len]) w8 uu dd3 k3 ha3 rv3)
def ET{f:Nat}:ev G sub (.vM f ls) Z=(qu G sub ls Z).bind λds=>(yR ds).bind λm=>G f (ds++[m]):=rfl
def q7Y(h:yR ds≠.qC):∃c zq,yR ds=.ok (.mem c zq):=by
 unfold yR at h|-;split at h<;>first
  |cases h rfl
  |(split at h<;>first
    |cases h rfl
    |(rename_i z;exact#[_,_,if_pos z]))
def q86{a b:Qs}{la:L}{g:R (List D)}(ha:SE X p G sub a la)(hb:SE X p G sub b lb)(h1:QM [a,b,.Dict [] [] q] X.env=(Qf,Je a X.env)::(Qf,Je b X.env)::(Qf,Je (.Dict [] [] q) X.env)::[])(I:Inv X pins Y H s)(R:Rel p Z Y os H)
  (er:g=(qu G sub [la,lb] Z).bind λds=>(yR ds).bind λm=>.ok (ds++[m])) (hs:g≠.qC):
  wX X (VM (Yk pos (QM [a,b,.Dict [] [] q] X.env))) (Ga X p pins Y os H g) (Er X p pins Y H g) s:=by
 subst er;rw[h1];rw[jK]at hs|-;refine Q4 (Qh (ha pins s Y H Z os I R (zP (zP hs))) (λu s1 T=>qY T λd x H1 e1 I1 r1 J w1=>?_) (λe s' z=>z.bind.bind));rw[e1,qF,jK]at hs|-;refine Q4 (Qh (hb pins s1 Y H1 Z os I1 (R.ext J) (zP (zP (zP hs)))) (λu2 s2 T=>qY T λF y H2 e2 k r2 W w2=>?_) (λe s' z=>(z.ext J).bind.bind.bind));rw[e2,qF]at hs|-;have e9:((((qu G sub [] Z).bind λxs=>Ev.R.ok (F::xs)).bind λxs=>Ev.R.ok (d::xs)).bind λds=>(yR ds).bind λm=>Ev.R.ok (ds++[m]))=((yR [d,F]).bind λm=>Ev.R.ok ([d,F]++[m])):=rfl;rw[e9]at hs|-;obtain⟨c,zq,e3⟩:=q7Y (zP hs);rw[e3];have U:=J.trans W;have hf:=k.qO.fresh (Qt _);refine Q4 (wpAny_Dict_empty (Jl #[_,[x,y,.ref s2.heap.objs.size],upd H2 s2.heap.objs.size (.memo (memψ p.K c zq)),rfl,k.laid (t':=s2.toks) (λb u e=>Qk _ e) (Qt _) ?_,.cons r1 (.cons r2 (.cons rfl .nil)),U.trans (Ext.upd hf),?_]))
 .exact#[#[_,QG _ rfl,[],#[],0,#[rfl,rfl,rfl],rfl,rfl,YO,λx hx=>absurd hx (by simp)],memψ_mono]
 .have x3:Ext (fz os.flatten H2) (fz os.flatten (upd H2 s2.heap.objs.size (.memo (memψ p.K c zq)))):=jB (Ext.upd hf);exact#[x,_,rfl,w1.mono ((jB W).trans x3),y,_,rfl,w2.mono x3,_,_,rfl,#[_,rfl,(beq_eq_false_iff_ne.mpr (JK (QQ k.big))),Fv (R.ext U).th hf],rfl]
def q8E{a b:Qs}{la:L}(F:FX X kk f fd ps (wK p G j ps.length))(hr:Room kk X.A)
  (hg:Gl X x) (hm:X.mg x=Qa (.ref f)) (hk:Jf X.K (.ref f)=Qb) (k:Binds X.K fd ps []) (ha:SE X p G sub a la) (hb:SE X p G sub b lb) (qX:∀ds,G j ds≠.qC->ds.length=ps.length)
  (kU:nD x) (U:∀es,QM (a::es) X.env=(Qf,Je a X.env)::QM es X.env) (W:∀es,QM (b::es) X.env=(Qf,Je b X.env)::QM es X.env):SE X p G sub (.Call (.Name x q) [a,b,.Dict [] [] q2] [] pos) (.vM j [la,lb]):=by
 intro pins s Y H Z os I R hs;have e0:ev G sub (.vM j [la,lb]) Z=((qu G sub [la,lb] Z).bind λds=>(yR ds).bind λm=>.ok (ds++[m])).bind λds=>G j ds:=by
  rw[ET];cases qu G sub [la,lb] Z with
  |ok ds=>rw[qF,qF];cases yR ds<;>rfl
  |err c=>rfl
  |qC=>rfl
 rw[e0]at hs|-;refine Q7 (xP I hg hm ?_ kU);refine J1 I.ok.mod.vA hk (Qh (q86 ha hb (by rw[U,W];rfl) I R rfl (zP hs)) (λus s1 J=>qY J λds vs H1 e1 T r1 g q1=>#[T.jN,?_]) (λe s' z=>z.bind)) (U _) (by rw[W];rfl);rw[e1]at hs|-;exact Qh (AJ F hr k T r1 (R.ext g).nd (R.ext g).th q1 (qX ds hs) hs) (λu s2 J=>qY J λd v H2 e2 I2 rv x2 q2=>⟨d,v,H2,e2,I2,rv,g.trans x2,q2⟩) (λe s' z=>z.ext g)
theorem yl{x:Str}:∀{N:List Str}{i:Nat},ji x N=Qa i->N[i]?=Qa x
 |[],i,h=>by exact nS h
 |y::N,i,h=>by
  unfold ji at h;split at h
  .rename_i c;cases h;subst c;rfl
  .cases e:ji x N with
   |none=>rw[e]at h;exact nS h
   |some j=>rw[e]at h;cases h;simpa using yl e
noncomputable def wq:Qs->Bool
 |.Starred _ _=>Qf
 |.Set _ _ _=>Qf
 |.Slice _ _ _ _=>Qf
 |.Call (.Name _ _) [] [] _=>Qf
 |_=>Qb
def jd(h:wq e=Qb):QM (e::es) env=(Qf,Je e env)::QM es env:=by cases e<;>first|rfl|(cases h;done)
def l7(h:wq e=Qb):ID e:=by intro o i;cases e<;>first|rfl|(cases h;done)
def Di(h:wq e=Qb):UE op e=Qf:=by cases e<;>first|rfl|(cases h;done)
def Lb(h:wq e=Qb):∀x,Vj e env x=pure x:=by intro x;cases e<;>first|rfl|(cases h;done)
def Cw(h:wq e=Qb):YN e name env (Je e env)=Je e env:=by
 cases e with
 |Call g as ks q=>cases g<;>first|rfl|(cases as<;>first|rfl|(cases ks<;>first|rfl|cases h))
 |_=>rfl
def vL:∀{n:Nat}{C:Ct}{e:Qs}{l:L},cE n C e=Qa l->wq e=Qb:=by
 intro n;cases n with
 |zero=>intro C e l h;exact nS h
 |succ n=>
  intro C e l h;cases e with
  |Call g args b pos=>
   cases g with
   |Name f q=>
    cases args with
    |cons a r=>rfl
    |nil=>
     cases b with
     |cons a r=>rfl
     |nil=>
      exfalso;unfold cE at h;dsimp only at h;split at h
      .split at h
       .split at h
        .rename_i z;exact z.2.1 rfl
        .exact nS h
       .cases n with
        |zero=>exact nS h
        |succ n=>exact nS h
      .exact nS h
   |_=>rfl
  |Starred _ _=>exact nS h
  |Set _ _ _=>exact nS h
  |Slice _ _ _ _=>exact nS h
  |_=>rfl
def xl(h:cB n C e=Qa l):wq e=Qb:=by
 cases n with
 |zero=>simp[cB]at h
 |succ n=>
  unfold cB at h;split at h
  .rfl
  .exact vL h
noncomputable def zx:List Str:=["len","sorted","tuple","list","sum","all","int","abs","range","isinstance","set","bool","ValueError","min","max"]
def bh(a b:Option NameKind):Prop:=a=b\/(a=Qa .free/\b=Qa .cell)
def excTail:List Value:=[.type "ValueError",.type "Exception",.type "BaseException",.type "object"]
structure CtOk(k:Nat)(X:Cx)(C:Ct)(p:Pm)(G:Nat->List D->R D)(sub:Nat->Nat->Bool):Prop where
 N:X.N=C.N
 nd:C.N.Nodup
 kinds:∀x,bh (C.kinds.lookup x) (X.env.scope.names.lookup x)
 calm:X.calm=Qb
 K:p.K=X.K
 room:Room (k+2) X.A
 blt:∀x∈zx,X.mg x=Qc
 funs:∀(j:Nat)(f:Str),C.funs[j]?=Qa f->j∉C.spec->∃fa fd ps,FX X k fa fd ps (wK p G j ps.length)/\X.mg f=Qa (.ref fa)/\Jf X.K (.ref fa)=Qb/\Binds X.K fd ps []/\∀ds,G j ds≠.qC->ds.length=ps.length
 consts:∀(x:Str)(d:D),C.consts.lookup x=Qa d->∃a t,d=.int a/\X.mg x=Qa (.int a t)
 mgs:∀(j:Nat)(f:Str),C.funs[j]?=Qa f->j∈C.mgs->∃fa fd ps,FX X k fa fd ps (vZ p G j ps.length)/\X.mg f=Qa (.ref fa)/\Jf X.K (.ref fa)=Qb/\Binds X.K fd ps []/\∀ds,G j ds≠.qC->ds.length=ps.length
 cl:ClsI X.K p
 flds:C.flds=p.flds
 metP:∀(m:Str)(j:Nat),C.metP.lookup m=Qa j->∃fa fd ps,FX X k fa fd ps (wK p G j ps.length)/\Meth X.K p.C m fa/\m∉p.flds/\Binds X.K fd ps []/\∀ds,G j ds≠.qC->ds.length=ps.length
 metN:∀(m:Str)(j:Nat),C.metN.lookup m=Qa j->∃fa fd ps,FX X k fa fd ps (Xg p G j ps.length)/\Meth X.K p.C m fa/\m∉p.flds/\Binds X.K fd ps []/\∀ds,G j ds≠.qC->ds.length=ps.length
 metM:∀(m:Str)(j:Nat),C.metM.lookup m=Qa j->∃fa fd ps,FX X k fa fd ps (vZ p G j ps.length)/\Meth X.K p.C m fa/\m∉p.flds/\Binds X.K fd ps []/\∀ds,G j ds≠.qC->ds.length=ps.length
 ini:∃fa fd ps,FX X k fa fd ps (vZ p G C.ini ps.length)/\Mk X.K p.C fa/\X.mg C.cls=Qa (.ref p.C)/\Binds X.K fd ps []/\∀ds,G C.ini ds≠.qC->ds.length=ps.length
 excs:∀(c:Nat)(x:Str),C.excs[c]?=Qa x->∃Cc,p.cls[c]?=Qa Cc/\OwnCls x Cc excTail "ValueError.__new__" X.mg X.base
 Eb:∀(c:Nat)(Cc:Addr),p.cls[c]?=Qa Cc->ExOk X.K Cc/\kitOne X.K (.ref Cc) (.type "ValueError")=Qa Qb
 Ea:∀(e c:Nat)(Ce Cc:Addr),p.cls[e]?=Qa Ce->p.cls[c]?=Qa Cc->exmOne X.K (.ref Ce) (.ref Cc)=Qa (sub e c)/\kitOne X.K (.ref Ce) (.ref Cc)=Qa (sub e c)
def SSet:Prop:=∀(X:Cx)(p:Pm)(G:Nat->List D->R D)(sub:Nat->Nat->Bool)(a:Qs)(la:L)(q q2 q3 pos:WD),p.K=X.K->X.calm=Qb->X.A.units+64<cLine->X.mg "sorted"=Qc->X.mg "set"=Qc->SB X p G sub a la->wq a=Qb->Gl X "sorted"->Gl X "set"->
 SE X p G sub (.Call (.Name "sorted" q) [.Call (.Name "set" q2) [a] [] q3] [] pos) (.bi .vY [la])
section
variable{k:Nat}
def w0(h:vD x=Qb):nD x/\nC x:=by unfold vD at h;simp only[Qo,Ud]at h;exact h
def CtOk.hu(T:CtOk k X C p G sub):X.A.units+64<cLine:=T.room.units
theorem CtOk.xc(T:CtOk k X C p G sub)(h:C.xc x=Qb):jY X.env.scope x/\nD x/\nC x:=by
 unfold Ct.xc at h;rw[Qo]at h;refine#[?_,w0 h.1];have b:=h.2;have kk:=T.kinds x;unfold jY;split at b
 .rename_i e;rw[e]at kk;rcases kk with z|⟨z,_⟩
  .exact .inl z.symm
  .cases z
 .rename_i e;rw[e]at kk;rcases kk with z|⟨z,_⟩
  .exact .inr (.inl z.symm)
  .cases z
 .rename_i e;rw[e]at kk;rcases kk with z|⟨_,z⟩
  .exact .inr (.inr z.symm)
  .exact .inr (.inl z)
 .cases b
theorem CtOk.glob(T:CtOk k X C p G sub)(h:C.glob x=Qb):Gl X x/\nD x:=by
 unfold Ct.glob at h;rw[Qo]at h;refine#[?_,(w0 h.1).1];have kk:=T.kinds x;rw[(of_decide_eq_true h.2)]at kk;rcases kk with z|⟨z,_⟩
 .exact z.symm
 .cases z
theorem CtOk.loc(T:CtOk k X C p G sub)(h:C.loc x=Qa i):Loc X.env.scope x/\X.N[i]?=Qa x:=by
 unfold Ct.loc at h;have kk:=T.kinds x;split at h
 case isFalse=>exact nS h
 split at h
 .rename_i e;rw[e]at kk;rcases kk with z|⟨z,_⟩
  .exact#[.inl z.symm,by rw[T.N];exact yl h]
  .cases z
 .rename_i e;rw[e]at kk;rcases kk with z|⟨z,_⟩
  .exact#[.inr z.symm,by rw[T.N];exact yl h]
  .cases z
 .exact nS h
def q4Y(h:C.loc x=Qa i):nD x/\nC x:=by
 unfold Ct.loc at h;split at h
 .rename_i e;exact w0 e
 .exact nS h
def CtOk.at(T:CtOk k X C p G sub)(h:ji x C.N=Qa i):X.N[i]?=Qa x:=by rw[T.N];exact yl h
def Dl{f:α->Bool}{l:List α}(h:l.all f=Qb):∀x∈l,f x=Qb:=QL.mp h
theorem CtOk.inner(T:CtOk k X C p G sub)(h:C.CQ ts sc=Qb):ScOk X sc ts/\(za ts X.N).Nodup/\(∀x∈ts,sc.names.lookup x=Qa .local)/\
  ∀s2 H2 cl J fp,CtOk k (j4 X s2 H2 sc cl J (za ts X.N) fp) (C.inner ts sc) p G sub:=by
 unfold Ct.CQ at h;simp only[Qo,decide_eq_true_eq]at h;obtain⟨⟨⟨⟨h1,h2⟩,h3⟩,h4⟩,h5⟩:=h;have U:(C.inner ts sc).N=za ts X.N:=by unfold Ct.inner za;rw[T.N]
 have g:=Dl h4;have W:=Dl h5;have F:∀x∈ts,sc.names.lookup x=Qa .local:=λx hx=>of_decide_eq_true (Dl h3 x hx);refine#[#[h1,λy b=>?_,λy b hf=>?_,λy b hl=>?_,λy b I=>?_,λy b I=>?_],by rw[<-U];exact h2,F,λs2 H2 cl J fp=>#[U.symm,h2,λx=>?_,T.calm,T.K,T.room,T.blt,T.funs,T.consts,T.mgs,T.cl,T.flds,T.metP,T.metN,T.metM,T.ini,T.excs,T.Eb,T.Ea]]
 .have:=g y b;simp only[Qo,decide_eq_true_eq]at this;exact this.1.1
 .have:=g y b;simp only[Qo,Vp,decide_eq_true_eq]at this;have kk:=T.kinds y.1;rcases this.1.2 with(z|z)|z
  .exact absurd hf z
  .rw[z]at kk;rcases kk with w|⟨w,_⟩
   .exact .inl w.symm
   .cases w
  .rw[z]at kk;rcases kk with w|⟨_,w⟩
   .exact .inr w.symm
   .exact .inl w
 .have:=g y b;simp only[Qo,Vp,decide_eq_true_eq]at this;rcases this.2 with z|z
  .exact absurd hl z
  .exact z
 .have:=W y (by rw[<-T.N];exact b);rw[if_pos I]at this;exact of_decide_eq_true this
 .have:=W y (by rw[<-T.N];exact b);rw[if_neg I]at this;exact of_decide_eq_true this
 .show bh (sc.names.lookup x) ((UY sc X.env).names.lookup x);rw[XR];cases e:sc.names.lookup x with
  |none=>exact .inl rfl
  |some kd=>
   rw[Vf];split
   .rename_i c;simp only[Qo,beq_iff_eq]at c;exact .inr #[by rw[c.1.1],rfl]
   .exact .inl rfl
end
theorem pP{p:Pm}{H:Hp}:∀{ns:List Int}{vs:List V},qK p H (ns.map D.int) vs->vs=ns.map V.int
 |[],vs,h=>h
 |n::ns,vs,h=>by refine qN h λv r k b g=>?_;subst k;cases b;rw[pP g];rfl
def rA{k:String}{a b:Qs}{la:L}{o:Bi}{f:Int->Int->Int}(hf:∀E,uP (X.ql E) (.builtin k) (λxs H Q=>∃i j,xs=[.int i,.int j]/\Q (.int (f i j)) H))(ho:∀d e,zF sub o [d,e]=intD (λi=>intD (λj=>.ok (.int (f i j))) e) d)(U:Gl X x)(W:X.mg x=Qc)(hv:bootBuiltins x=Qa (.builtin k))(hn:x≠"__name__")(kU:nD x)
  (T:SA X p G sub [a,b] [la,lb]) (qe:QM [a,b] X.env=[(Qf,Je a X.env),(Qf,Je b X.env)]) (g:QM [b] X.env=[(Qf,Je b X.env)]):SE X p G sub (.Call (.Name x q) [a,b] [] pos) (.bi o [la,lb]):=by
 intro pins s Y H Z os I R hs;dsimp only[kI]at hs|-;refine Q7 (wJ I U W hv ?_ hn kU);refine Yc (Qh (T pos pins s Y H Z os I R (zP hs)) (λus s1 zz=>qY zz λds vs H1 e1 F r1 x1 q1=>?_) (λe s' z=>z.bind)) (by rw[qe,g]) (by rw[g];rfl);rw[e1,qF]at hs|-
 match ds,(EV e1)with
 |[d,e],_=>
  rw[ho]at hs|-;cases d<;>first|exact absurd rfl hs|skip
  cases e<;>first|exact absurd rfl hs|skip
  rename_i i j _;cases(pP (ns:=[i,j]) q1);exact Qh (hf (Er X p pins Y H (Ev.R.ok (D.int (f i j)))) pins s1 Y H1 _ _ (Fin p os.flatten H1 (D.int (f i j))) (F.ql _) r1 #[i,j,rfl,fin_same rfl]) (λw s2 J=>X6 x1 rfl J) λ_ _ z=>z
section
variable{k:Nat}
structure SoE(k:Nat)(p:Pm)(G:Nat->List D->R D)(sub:Nat->Nat->Bool)(n:Nat):Prop where
 E:∀(X:Cx)(C:Ct),CtOk k X C p G sub->∀e l,cE n C e=Qa l->SE X p G sub e l
 B:∀(X:Cx)(C:Ct),CtOk k X C p G sub->∀e l,cB n C e=Qa l->SB X p G sub e l
 Es:∀(X:Cx)(C:Ct),CtOk k X C p G sub->∀es ls,jI n C es=Qa ls->SA X p G sub es ls
 Bo:∀(X:Cx)(C:Ct),CtOk k X C p G sub->∀op xs l,IX n C op xs=Qa l->∀pos,SE X p G sub (.BoolOp op xs pos) l
 T:∀(X:Cx)(C:Ct),CtOk k X C p G sub->∀e t,cT n C e=Qa t->ST X p G sub e t
 To:∀(X:Cx)(C:Ct),CtOk k X C p G sub->∀op xs t,Ib n C op xs=Qa t->∀pos,ST X p G sub (.BoolOp op xs pos) t
 I:∀(X:Cx)(C:Ct),CtOk k X C p G sub->∀e i,cI n C e=Qa i->∀tg,(∃fr,SI X p G sub fr tg e i)/\(C.Sh e=Qf->SI X p G sub Qb tg e i)
 Call:∀(X:Cx)(C:Ct),CtOk k X C p G sub->∀f args l,E3 n C f args=Qa l->C.glob f=Qb->ji f C.funs=Qc->∀q pos,SE X p G sub (.Call (.Name f q) args [] pos) l
def q0T:("len":Str)∈zx:=by unfold zx;simp
def IT:("sorted":Str)∈zx:=by unfold zx;simp
def cg:("tuple":Str)∈zx:=by unfold zx;simp
def IU:("list":Str)∈zx:=by unfold zx;simp
def q0Y:("all":Str)∈zx:=by unfold zx;simp
def cj:("int":Str)∈zx:=by unfold zx;simp
def q0Z:("abs":Str)∈zx:=by unfold zx;simp
def ck:("range":Str)∈zx:=by unfold zx;simp
def q0a:("isinstance":Str)∈zx:=by unfold zx;simp
def q0U:("set":Str)∈zx:=by unfold zx;simp
def q0V:("bool":Str)∈zx:=by unfold zx;simp
def cf:("min":Str)∈zx:=by unfold zx;simp
def q0X:("max":Str)∈zx:=by unfold zx;simp
def q0W:("ValueError":Str)∈zx:=by unfold zx;simp
def Xw(h:jI (n+1) C (e::es)=Qa ls):∃a l,cE n C e=Qa a/\jI n C es=Qa l/\ls=a::l:=by refine qH (oB h) λa b h=>?_;refine qH (oM h) λl g h=>?_;exact#[a,l,b,g,h.symm]
def Ie{ls:List Ev.T}(h:xA (n+1) C (e::es)=Qa ls):∃a l,cT n C e=Qa a/\xA n C es=Qa l/\ls=a::l:=by refine qH (oB h) λa b h=>?_;refine qH (oM h) λl g h=>?_;exact#[a,l,b,g,h.symm]
def iq(h:ip C e=Qa args):∃q pos,e=.Call (.Name (QA "range") q) args [] pos/\C.glob (QA "range")=Qb:=by
 obtain⟨⟨f,as⟩,b,h⟩:=oB h;split at h
 .rename_i hf;refine vN hf λz g _=>?_;subst z;cases h;obtain⟨q,pos,rfl⟩:=FW b;exact#[_,_,rfl,g]
 .exact nS h
theorem xm{C:Ct}:∀{n:Nat}{es:List Qs}{ls:List L},jI n C es=Qa ls->∀x∈es,wq x=Qb
 |0,es,ls,h=>by simp[jI]at h
 |n+1,[],ls,h=>λx b=>absurd b (by simp)
 |n+1,e::es,ls,h=>by
  refine qN (Xw h) λa l g z F=>?_;subst F;intro x b;rcases Ql.mp b with rfl|b
  .exact vL g
  .exact xm z x b
theorem uK{env:JM}{pos:WD}:∀{es:List Qs},(∀x∈es,wq x=Qb)->(Yk pos (QM es env)).any (·.1)=Qf
 |[],_=>rfl
 |e::es,h=>by rw[jd (h e (by simp))];show(Qf||(Yk pos (QM es env)).any (·.1))=Qf;rw[uK λx b=>h x (Qd _ b)];rfl
def q8C(F:FX X kk f fd ps (wK p G j ps.length))(hr:Room kk X.A)
  (hg:Gl X x) (hm:X.mg x=Qa (.ref f)) (hk:Jf X.K (.ref f)=Qb) (hb:Binds X.K fd ps []) (W:SA X p G sub (e::es) ls) (qX:∀ds,G j ds≠.qC->ds.length=ps.length)
  (kU:nD x) (he:QM (e::es) X.env=(Qf,Je e X.env)::QM es X.env) (kW:(Yk pos (QM es X.env)).any (·.1)=Qf):SE X p G sub (.Call (.Name x q) (e::es) [] pos) (.call j ls):=by
 intro pins s Y H Z os I R hs;dsimp only[T4]at hs|-;refine Q7 (xP I hg hm ?_ kU);refine J1 I.ok.mod.vA hk (Qh (W pos pins s Y H Z os I R (zP hs)) (λus s1 g=>qY g λds vs H1 e1 J r1 b q1=>#[J.jN,?_]) (λe s' z=>z.bind)) he kW;rw[e1]at hs|-;exact Qh (AJ F hr hb J r1 (R.ext b).nd (R.ext b).th q1 (qX ds hs) hs) (λu s2 g=>qY g λd v H2 U T rv x2 q2=>⟨d,v,H2,U,T,rv,b.trans x2,q2⟩) (λe s' z=>z.ext b)
def IY{i:I}(h:cI n C e=Qa i):wq e=Qb:=by
 cases n with
 |zero=>exact nS h
 |succ n=>
  unfold cI at h;split at h
  .rename_i args b;obtain⟨q,pos,rfl,_⟩:=iq b;cases args with
   |cons a r=>rfl
   |nil=>rw[if_neg (by decide)]at h;exact nS h
  .obtain⟨l,e1,_⟩:=oM h;exact vL e1
def dC{ts:List Ev.T}(F:∀m,m<n->∀(X:Cx)(C:Ct),CtOk k X C p G sub->∀e t,cT m C e=Qa t->ST X p G sub e t)(T:CtOk k X C p G sub)(h:xA n C ifs=Qa ts)(hl:ts.length<=1):Cq X p G sub ifs ts:=by
 cases n with
 |zero=>simp[xA]at h
 |succ n=>
  cases ifs with
  |nil=>simp[xA]at h;exact .inl #[rfl,h]
  |cons c r=>
   refine qN (Ie h) λa l g b I=>?_;subst I;cases l with
   |cons _ _=>exact absurd hl (λz=>Nat.not_succ_le_zero _ (Nat.le_of_succ_le_succ z))
   |nil=>
    cases r with
    |nil=>exact .inr #[c,a,rfl,rfl,F n (Jh n) X C T _ _ g]
    |cons J U=>
     cases n with
     |zero=>exact nS b
     |succ n=>obtain⟨_,_,_,_,z⟩:=Ie b;cases z
def sM(J:p.K=X.K)(hc:X.calm=Qb)(nd:(za ts X.N).Nodup)(b:∀x∈ts,(j4 X s2 H2 sc cl C' (za ts X.N) fp).env.scope.names.lookup x=Qa .local)
  (h:Af tg=Qa (kk,ts)):X0 (j4 X s2 H2 sc cl C' (za ts X.N) fp) p tg kk ts.length:=by
 unfold Af at h;split at h
 .cases h;exact rH nd rfl (b _ (Qg ..))
 .refine qH (oB h) λab z h=>?_;refine qH (oB h) λx F h=>?_;refine qH (oM h) λy I h=>?_;obtain⟨q1,e1⟩:=jT F;obtain⟨q2,g⟩:=jT I;rw[A7 z,e1,g];cases h;exact q8o J hc nd rfl (b _ (Qg ..)) rfl (b _ (Qd _ (Qg ..)))
 .exact nS h
def d8{a:Qs}(h:cE (n+1) C (.Compare a ops cs q)=Qa l):(∃op b la lb,ops=[op]/\cs=[b]/\cB n C a=Qa la/\cB n C b=Qa lb/\l=.cm (jV op) la lb)\/
  ∃g z b c la lb lc,ops=[g,z]/\cs=[b,c]/\cE n C a=Qa la/\cE n C b=Qa lb/\cE n C c=Qa lc/\l=.cm2 (jV g) (jV z) la lb lc:=by
 unfold cE at h;dsimp only at h;split at h
 .obtain⟨⟨g,z⟩,J,h⟩:=oB h;obtain⟨⟨b,c⟩,T,h⟩:=oB h;refine qH (oB h) λla F h=>?_;refine qH (oB h) λlb I h=>?_;refine qH (oM h) λlc U h=>?_;exact .inr #[g,z,b,c,la,lb,lc,A7 J,A7 T,F,I,U,h.symm]
 .refine qH (oB h) λop J h=>?_;refine qH (oB h) λb T h=>?_;refine qH (oB h) λla F h=>?_;refine qH (oM h) λlb I h=>?_;exact .inl #[op,b,la,lb,jk J,jk T,F,I,h.symm]
def q0n{a:Qs}(hc:dM (.Compare a ops cs q)≠Qb)(h:cB n C (.Compare a ops cs q)=Qa l):∃m op b la lb,m<n/\ops=[op]/\cs=[b]/\cB m C a=Qa la/\cB m C b=Qa lb/\l=.cm (jV op) la lb:=by
 cases n with
 |zero=>exact nS h
 |succ n=>
  cases n with
  |zero=>exact nS h
  |succ n=>
   rcases d8 (q:=q) h with⟨op,b,la,lb,z⟩|⟨g,F,b,c,la,lb,lc,z,_⟩
   .exact#[n,op,b,la,lb,Qz (Jh n) (Yi _),z]
   .exact absurd (by rw[z];rfl) hc
def q4o{b c:Qs}(h:wq c=Qb):lastMarks [o1,o2] [b,c]=Qf:=Di h
noncomputable def plainT:Qs->Bool
 |.BoolOp _ _ _=>Qf
 |.UnaryOp .Not _ _=>Qf
 |.IfExp _ _ _ _=>Qf
 |.Compare _ _ _ _=>Qf
 |_=>Qb
def q6x(h:plainT e=Qb):∀whole,isTrue e env whole=(do let v <-whole;standAt e.pos;holding [v] (truthy v)):=by
 intro whole;cases e<;>first|(cases h;done)|skip
 all_goals first|(with_unfolding_all rfl;done)|(rename_i op _ _;cases op<;>first|(cases h;done)|(with_unfolding_all rfl))
def q6w(h:plainT e=Qb):OY e=Qf:=by
 cases e<;>first|rfl|(cases h;done)|skip
 rename_i op _ _;cases op<;>first|rfl|(cases h;done)
def FV(h:jI n C []=Qa ls):ls=[]:=by
 cases n with
 |zero=>exact nS h
 |succ n=>cases h;rfl
def d9{a:Qs}(h:jI n C [a]=Qa ls):∃l,ls=[l]:=by
 cases n with
 |zero=>exact nS h
 |succ n=>
  refine qN (Xw h) λl _ _ b g=>?_;subst g;rw[FV b];exact#[_,rfl]
def dA{a b:Qs}(h:jI n C [a,b]=Qa ls):∃l m,ls=[l,m]:=by
 cases n with
 |zero=>exact nS h
 |succ n=>
  refine qN (Xw h) λl _ _ g z=>?_;subst z;obtain⟨m,rfl⟩:=d9 g;exact#[_,_,rfl]
def q07{f:Str}{a:Qs}(T:CtOk k X C p G sub)(h:FO f=Qa b)(z:Gl X f)(hd:nD f)(g:SB X p G sub a la)(F:QM [a] X.env=[(Qf,Je a X.env)]):SE X p G sub (.Call (.Name f q) [a] [] pos) (.bi b [la]):=by
 unfold FO at h;split at h
 .rename_i e;cases h;subst e;exact CS (q0f T.K) z (T.blt _ q0T) PySem.boot_len g (by decide) hd F
 split at h
 .rename_i e;cases h;subst e;exact CS (q0i T.K T.calm T.hu) z (T.blt _ IT) Uz g (by decide) hd F
 split at h
 .rename_i e;cases h;subst e;exact ao (q0j T.K) z (T.blt _ cg) Wv g (by decide) hd F
 split at h
 .rename_i e;cases h;subst e;exact ao (q0g T.K) z (T.blt _ IU) WB g (by decide) hd F
 split at h
 .rename_i e;cases h;subst e;exact CS (q0d T.K T.calm) z (T.blt _ q0Y) PyProof.Rows.boot_all g (by decide) hd F
 split at h
 .rename_i e;cases h;subst e;exact ao q0e z (T.blt _ cj) WI g (by decide) hd F
 split at h
 .rename_i e;cases h;subst e;exact CS q0c z (T.blt _ q0Z) PyProof.Rows.boot_abs g (by decide) hd F
 split at h
 .rename_i e;cases h;subst e;exact CS (q0h T.K T.calm) z (T.blt _ cf) PyProof.Rows.boot_min g (by decide) hd F
 .exact nS h
def q3r{a:Qs}{c:Str}(T:CtOk k X C p G sub)(h:OZ C c=Qa b)(U:Gl X "isinstance")(J:SB X p G sub a la)(qe:QM [a,.Name c q2] X.env=[(Qf,Je a X.env),(Qf,Je (.Name c q2) X.env)]):SE X p G sub (.Call (.Name "isinstance" q) [a,.Name c q2] [] pos) (.bi b [la]):=by
 have W:=T.blt _ q0a;unfold OZ at h;split at h
 .rename_i hgc;obtain⟨z,F⟩:=T.glob hgc;split at h
  .rename_i e;cases h;subst e;exact Pd (q0I T.K) U W J (λE Q pins s Y H I g=>wJ I z (T.blt _ cg) Wv g (by decide) F) qe
  split at h
  .rename_i e;cases h;subst e;exact Pd (q0F T.K) U W J (λE Q pins s Y H I g=>wJ I z (T.blt _ IU) WB g (by decide) F) qe
  split at h
  .rename_i e;cases h;subst e;exact Pd q0C U W J (λE Q pins s Y H I g=>wJ I z (T.blt _ cj) WI g (by decide) F) qe
  split at h
  .rename_i e;cases h;subst e;exact Pd q09 U W J (λE Q pins s Y H I g=>wJ I z (T.blt _ q0V) PyProof.Rows.boot_bool g (by decide) F) qe
  split at h
  .rename_i e;cases h;subst e;exact Pd (q0J T.Eb) U W J (λE Q pins s Y H I g=>wJ I z (T.blt _ q0W) (by decide+kernel) g (by decide) F) qe
  .refine qH (oM h) λkk e1 zz=>?_;subst zz;refine qH (T.excs kk c (yl e1)) λCc TF vo=>?_;exact Pd (q0A λe Ce he=>#[(T.Eb e Ce he).1,(T.Ea e kk Ce Cc he TF).2]) U W J (λE Q pins s Y H I g=>xP I z vo.bound g F) qe
 .exact nS h
def de{gs:List Comprehension}(h:cE (n+1) C (.ListComp elt gs sc pos)=Qa l):∃tg it ifs kk ts b le lc,gs=[#[tg,it,ifs,0]]/\Af tg=Qa (kk,ts)/\cI n C it=Qa b/\cE n (C.inner ts sc) elt=Qa le/\xA n (C.inner ts sc) ifs=Qa lc/\C.CQ ts sc=Qb/\lc.length<=1/\l=.comp kk le b lc:=by
 refine qH (oB h) λg W h=>?_;split at h
 .rename_i U;obtain⟨⟨kk,ts⟩,F,h⟩:=oB h;refine qH (oB h) λb I h=>?_;refine qH (oB h) λle J h=>?_;refine qH (oB h) λlc T h=>?_;split at h
  .rename_i z;cases h;rw[Qo,decide_eq_true_eq]at z;obtain⟨tg,it,ifs,a⟩:=g;cases U;exact#[tg,it,ifs,kk,ts,b,le,lc,jk W,F,I,J,T,z.1,z.2,rfl]
  .exact nS h
 .exact nS h
def sound(vw:SSet):∀n,SoE k p G sub n:=by
 intro n
 induction n using WU with
 |ind n ih=>
  cases n with
  |zero=>
   refine#[λX C T e l h=>?_,λX C T e l h=>?_,λX C T e l h=>?_,λX C T op e l h=>?_,λX C T e l h=>?_,λX C T op e l h=>?_,λX C T e l h=>?_,λX C T f a l h=>?_]
   all_goals exact nS h
  |succ n=>
   have J:=ih n (Jh n);have hE:∀(X:Cx)(C:Ct),CtOk k X C p G sub->∀e l,cE (n+1) C e=Qa l->SE X p G sub e l:=by
    intro X C T e l h;cases e with
    |Constant c j pos=>
     obtain⟨d,e1,rfl⟩:=oM h;exact q8I e1
    |Name x pos=>
     unfold cE at h;dsimp only at h;split at h
     .rename_i hv;split at h
      .exact nS h
      .obtain⟨i,e1,rfl⟩:=oM h;obtain⟨v1,v2,v3⟩:=T.xc hv;exact q8Y (T.at e1) v1 v2 v3
     .split at h
      .rename_i hg;obtain⟨d,e1,rfl⟩:=oM h;obtain⟨a,t,rfl,hm⟩:=T.consts x d e1;obtain⟨U,g2⟩:=T.glob hg;exact q8L (v:=.int a) U hm #[t,rfl] (λ_=>rfl) g2
      .exact nS h
    |BinOp a op b pos=>
     refine oC h λo e1 h=>?_;refine oC h λla W h=>?_;obtain⟨lb,e3,rfl⟩:=oM h;exact q8T T.K e1 (J.B X C T _ _ W) (J.B X C T _ _ e3)
    |Attribute o f pos=>
     refine oC h λx hx h=>?_;refine oC h λlo e1 h=>?_;obtain⟨kf,W,rfl⟩:=oM h;exact q8K T.cl (by rw[<-T.flds];exact yl W) (Cw (xl e1)) (J.B X C T _ _ e1)
    |Compare a ops bs pos=>
     rcases d8 h with⟨op,b,la,lb,rfl,rfl,W,e3,rfl⟩|⟨o1,o2,b,c,la,lb,lc,rfl,rfl,e1,W,e3,rfl⟩
     .exact q8F T.K T.hu (Di (xl e3)) (J.B X C T _ _ W) (J.B X C T _ _ e3)
     .exact q8G T.K T.hu (q4o (vL e3)) (J.E X C T _ _ e1) (J.E X C T _ _ W) (J.E X C T _ _ e3)
    |UnaryOp op a pos=>
     cases op with
     |Not=>
      obtain⟨d,e1,rfl⟩:=oM h;exact q8R T.K (J.B X C T _ _ e1)
     |USub=>
      obtain⟨d,e1,rfl⟩:=oM h;exact q8Q (J.E X C T _ _ e1)
     |_=>exact nS h
    |BoolOp op xs pos=>exact J.Bo X C T _ _ _ h _
    |IfExp c a b pos=>
     refine oC h λlc e1 h=>?_;refine oC h λla W h=>?_;obtain⟨lb,e3,rfl⟩:=oM h;exact q8O (J.T X C T _ _ e1) (J.E X C T _ _ W) (J.E X C T _ _ e3)
    |Tuple xs j pos=>
     obtain⟨d,e1,rfl⟩:=oM h;exact q8X (J.Es X C T _ _ e1)
    |List xs pos=>
     obtain⟨d,e1,rfl⟩:=oM h;exact q8P (J.Es X C T _ _ e1)
    |Subscript a i pos=>
     have Ro:∀i,(cB n C a).bind (λa=>(cE n C i).map (.idx a))=Qa l->SE X p G sub (.Subscript a i pos) l:=λi h=>by refine oC h λla e1 h=>?_;obtain⟨li,W,rfl⟩:=oM h;exact q8M T.K T.hu (l7 (vL W)) (J.B X C T _ _ e1) (J.E X C T _ _ W).b
     cases i with
     |Slice lo hi st p2=>
      refine oC h λkk e1 h=>?_;refine oC h λla W h=>?_;refine oC h λOt e3 h=>?_;refine oC h λOq e4 h=>?_;split at h
      .rename_i hc;cases h;have so:∀(o:Option Qs)(ls:List L),jI n C o.toList=Qa ls->SO X p G sub o ls:=by
        intro o ls ho;cases o with
        |none=>exact .inl #[rfl,FV ho]
        |some e=>
         cases n with
         |zero=>exact nS ho
         |succ n=>
          refine qN (Xw ho) λl1 l2 U g2 zz=>?_;subst zz;rw[FV g2];exact .inr #[e,l1,rfl,rfl,(ih n (Qz (Jh n) (Yi _))).E X C T _ _ U]
       unfold sD at e1;split at e1
       .cases e1;exact q8W T.K (J.B X C T _ _ W) (so _ _ e3) (so _ _ e4)
       .exact nS e1
      .exact nS h
     |_=>exact Ro _ h
    |Call gg args uc pos=>
     cases gg with
     |Name f q=>
      unfold cE at h;dsimp only at h;split at h
      .rename_i hg;obtain⟨U,g2⟩:=T.glob hg;split at h
       .rename_i i hi;split at h
        .rename_i ze;obtain⟨D9,ze,zt⟩:=ze;refine qY (T.funs i f (yl hi) zt) λfa fd ps F hm hk hb qX=>?_;cases QW.mp D9;split at h
         .rename_i xs hx;obtain⟨a,b,q2,rfl,rfl⟩:=q1F hx;refine qH (oM h) λls e1 zz=>?_;subst zz;cases n with
          |zero=>exact nS e1
          |succ n=>
           refine qN (Xw e1) λla _ c1 W zz=>?_;subst zz;cases n with
           |zero=>exact nS W
           |succ n=>
            refine qN (Xw W) λlb _ c2 e3 zz=>?_;subst zz;cases FV e3;exact q8E F (T.room.mono (Yt _ _)) U hm hk hb ((ih _ ∅).E X C T _ _ c1) ((ih _ ∅).E X C T _ _ c2) qX g2 (λes=>jd (vL c1)) (λes=>jd (vL c2))
         obtain⟨ls,e1,rfl⟩:=oM h;have RE:=J.Es X C T _ _ e1;cases args with
         |nil=>cases ze rfl
         |cons a r=>
          have k6:∀x∈a::r,wq x=Qb:=xm e1;exact q8C F (T.room.mono (Yt _ _)) U hm hk hb RE qX g2 (jd (k6 a (Qg ..))) (uK λx hx=>k6 x (Qd _ hx))
        .exact nS h
       .rename_i hi;split at h
        .rename_i D9;cases QW.mp D9;exact J.Call X C T f args l h hg hi q pos
        .split at h
         .rename_i hf;refine oC h λa ha h1=>?_;clear h;cases jk ha;refine oC h1 λg hkw h=>?_;split at h
          .rename_i hgg;refine oC h λla e1 h=>?_;refine oC h λj W h2=>?_;clear h;split at h2
           .exact nS h2
           rename_i zt;cases h2;subst hf;refine qY (T.funs j g (yl W) zt) λfa fd ps F hm hk hb qX=>?_;obtain⟨gg1,gg2⟩:=T.glob hgg;obtain⟨q2,q3,rfl⟩:=q4H hkw;have qe:QM [a] X.env=[(Qf,Je a X.env)]:=jd (xl e1);exact q8V T.K T.calm T.hu F T.room.in1.in1 hb qX gg1 hm gg2 U (T.blt _ IT) (J.B X C T _ _ e1) qe
          .exact nS h
         .exact nS h
      .exact nS h
     |Attribute o m ap=>
      unfold cE at h;dsimp only at h;split at h
      .rename_i zd;obtain⟨D9,zd⟩:=zd;cases QW.mp D9;split at h
       .rename_i j hj;split at h
        .rename_i hl;refine oC h λx hx h=>?_;refine oC h λlo e1 h=>?_;obtain⟨ls,W,rfl⟩:=oM h;obtain⟨q,rfl⟩:=jT hx;refine qY (T.metP m j hj) λfa fd ps F hm yF hb qX=>?_;have k6:=xm W;exact q8D T.cl hm yF F (T.room.mono (Yt _ _)) hb qX (J.B X C T _ _ e1) (J.Es X C T _ _ W) (λz=>by subst z;exact FV W) (λe r z=>by subst z;exact#[jd (k6 e (Qg ..)),uK λx hx=>k6 x (Qd _ hx)]) (uK k6) hl zd
        .exact nS h
       refine oC h λlo e1 h1=>?_;clear h;split at h1
       .rename_i ha0;cases QW.mp ha0;split at h1
        .rename_i hm;cases h1;subst hm;exact q8B (Cw (xl e1)) zd (J.B X C T _ _ e1)
        .exact nS h1
       .refine oC h1 λy hy h=>?_;clear h1;cases jk hy;refine oC h λd W h1=>?_;clear h;split at h1
        .exact nS h1
        rename_i u6;have u6:Xa d=Qb:=by
         cases z:Xa d with
         |true=>rfl
         |false=>exact absurd z u6
        have qe:QM [y] X.env=[(Qf,Je y X.env)]:=jd (vL W);split at h1
        .rename_i hm;cases h1;subst hm;exact q8J T.K T.hu u6 (J.E X C T _ _ W) qe (Cw (xl e1)) zd (J.B X C T _ _ e1)
        .split at h1
         .rename_i hm;cases h1;subst hm;exact q8N T.K T.hu u6 (J.E X C T _ _ W) qe (Cw (xl e1)) zd (J.B X C T _ _ e1)
         .exact nS h1
      .exact nS h
     |_=>exact nS h
    |ListComp elt gs sc pos=>
     obtain⟨tg,it,ifs,kk,ts,li,le,lc,rfl,DI,e1,W,e3,q3J,q3K,rfl⟩:=de h;refine vf (T.inner q3J) λS Du DD inner=>?_;obtain⟨fr,hi⟩:=(J.I X C T _ _ e1 tg).1;refine q8H T.calm S hi (λs2 H2 cl C' fp=>J.E _ _ (inner s2 H2 cl C' fp) _ _ W) (λs2 H2 cl C' fp=>dC (λm hm X C T e t h=>(ih m (JQ hm)).T X C T e t h) (inner s2 H2 cl C' fp) e3 q3K) (λs2 H2 cl C' fp=>?_) (Lb (IY e1));have rl:∀x∈ts,(j4 X s2 H2 sc cl C' (za ts X.N) fp).env.scope.names.lookup x=Qa .local:=λx hx=>by show(UY sc X.env).names.lookup x=_;rw[XR,DD x hx];rfl
     exact sM T.K T.calm Du rl DI
    |_=>exact nS h
   have hB:∀(X:Cx)(C:Ct),CtOk k X C p G sub->∀e l,cB (n+1) C e=Qa l->SB X p G sub e l:=by
    intro X C T e l h;unfold cB at h;split at h
    .rename_i x q;split at h
     .rename_i hv;obtain⟨i,e1,rfl⟩:=oM h;obtain⟨v1,v2,v3⟩:=T.xc hv.1;exact q88 (T.at e1) v1 v2 v3
     .exact (J.E X C T _ _ h).b
    .exact (J.E X C T _ _ h).b
   refine#[hE,hB,λX C T es ls h=>?_,λX C T op xs l h pos=>?_,λX C T e t h=>?_,λX C T op xs t h pos=>?_,λX C T e i h tg=>?_,λX C T f args l h hg hi q pos=>?_]
   .cases es with
    |nil=>cases h;exact r8
    |cons e es=>
     refine qN (Xw h) λa l U g2 zz=>?_;subst zz;exact pz (J.E X C T _ _ U) (J.Es X C T _ _ g2) (jd (vL U))
   .cases xs with
    |nil=>exact nS h
    |cons a r=>
     cases r with
     |nil=>
      exact q8S (J.E X C T _ _ h)
     |cons b r=>
      refine oC h λla U h=>?_;obtain⟨lb,g2,rfl⟩:=oM h;cases op with
      |And=>exact q8A (J.E X C T _ _ U) (J.Bo X C T _ _ _ g2 _)
      |Or=>exact q8U (J.E X C T _ _ U) (J.Bo X C T _ _ _ g2 _)
   .unfold cT at h;split at h
    .exact J.To X C T _ _ _ h _
    .obtain⟨a,e1,rfl⟩:=oM h;exact q9m (J.T X C T _ _ e1)
    .exact nS h
    .rename_i x1 x2 x3;split at h
     .exact nS h
     rename_i jx;obtain⟨a,e1,rfl⟩:=oM h
     by_cases gr:∃l0 ops cs q0,e=.Compare l0 ops cs q0
     .obtain⟨l0,ops,cs,q0,rfl⟩:=gr;obtain⟨m,op,b,la,lb,hm,rfl,rfl,U,g2,rfl⟩:=q0n jx e1;exact q9k T.K T.hu (Di (xl g2)) ((ih m ∅).B X C T _ _ U) ((ih m ∅).B X C T _ _ g2)
     .have pt:plainT e=Qb:=by
       cases e<;>first|rfl|skip
       .exact absurd rfl (x1 _ _ _)
       .rename_i op a q;cases op<;>first|rfl|exact absurd rfl (x2 _ _)
       .exact absurd rfl (x3 _ _ _ _)
       .exact absurd #[_,_,_,_,rfl] gr
      exact q9l T.K (q6x pt) (q6w pt) (J.B X C T _ _ e1)
   .cases xs with
    |nil=>exact nS h
    |cons a r=>
     cases r with
     |nil=>
      cases op with
      |And=>exact q9j (J.T X C T _ _ h)
      |Or=>exact q9o (J.T X C T _ _ h)
     |cons b r=>
      refine oC h λla U h=>?_;obtain⟨lb,g2,rfl⟩:=oM h;cases op with
      |And=>exact q9i (J.T X C T _ _ U) (J.To X C T _ _ _ g2 _)
      |Or=>exact q9n (J.T X C T _ _ U) (J.To X C T _ _ _ g2 _)
   .have plain:(cE n C e).map I.e=Qa i->(∃fr,SI X p G sub fr tg e i)/\(C.Sh e=Qf->SI X p G sub Qb tg e i):=λh=>by refine qH (oM h) λl e1 zz=>?_;subst zz;exact#[#[Qb,rJ T.K (J.E X C T _ _ e1)],λ_=>rJ T.K (J.E X C T _ _ e1)]
    unfold cI at h;split at h
    .rename_i args hr;refine ja (iq hr) λq pos zz hg=>?_;subst zz;obtain⟨U,g2⟩:=T.glob hg;have hm:=T.blt _ ck;split at h
     .refine qH (oM h) λls e1 zz=>?_;subst zz;have RE:=J.Es X C T _ _ e1;have k6:=xm e1;cases args with
      |nil=>rename_i z;exact absurd z (by decide)
      |cons a r=>
       have s1:=jd (es:=r) (env:=X.env) (k6 a (Qg ..));cases r with
       |nil=>
        obtain⟨la,rfl⟩:=d9 e1;exact#[#[Qb,ar U hm RE s1],λ_=>ar U hm RE s1]
       |cons b r=>
        cases r with
        |nil=>
         obtain⟨la,lb,rfl⟩:=dA e1;have s2:QM [b] X.env=[(Qf,Je b X.env)]:=jd (k6 b (Qd _ (Qg ..)));rw[s2]at s1;exact#[#[Qb,rN U hm RE s1 s2],λ_=>rN U hm RE s1 s2]
        |cons _ _=>rename_i z;exact z.elim (λz=>nomatch z) λz=>nomatch z
     .exact nS h
    .exact plain h
   .obtain⟨gf,gd⟩:=T.glob hg;have one:∀a l,((FO f).bind λb=>(cB n C a).map λa=>L.bi b [a])=Qa l->SE X p G sub (.Call (.Name f q) [a] [] pos) l:=by intro a l h;refine oC h λb U h=>?_;obtain⟨la,g2,rfl⟩:=oM h;exact q07 T U gf gd (J.B X C T _ _ g2) (jd (xl g2))
    cases args with
    |nil=>exact nS h
    |cons y r=>
     cases r with
     |nil=>
      unfold E3 at h;dsimp only at h;split at h
      .rename_i g a hy;obtain⟨q2,q3,rfl⟩:=G8 hy;split at h
       .rename_i hf;refine vf hf λqw qx hgs Rm=>?_;subst qw qx;refine qH (oM h) λla e1 zz=>?_;subst zz;exact vw X p G sub a la q q2 q3 pos T.K T.calm T.hu (T.blt _ IT) (T.blt _ q0U) (J.B X C T _ _ e1) (xl e1) gf (T.glob hgs).1
       .exact one _ _ h
      .exact one _ _ h
     |cons y2 r=>
      cases r with
      |nil=>
       unfold E3 at h;dsimp only at h;split at h
       .rename_i hf;subst hf;refine qH (oB h) λc hc h=>?_;refine qH (oB h) λla U h=>?_;refine qH (oM h) λb g2 zz=>?_;subst zz;obtain⟨q2,rfl⟩:=jT hc;exact q3r T g2 gf (J.B X C T _ _ U) (by rw[jd (xl U)];rfl)
       .refine qH (oB h) λb U h=>?_;refine qH (oM h) λls g2 zz=>?_;subst zz;obtain⟨la,lb,rfl⟩:=dA g2;have k6:=xm g2;have s2:QM [y2] X.env=[(Qf,Je y2 X.env)]:=jd (k6 y2 (Qd _ (Qg ..)));have s1:=jd (es:=[y2]) (env:=X.env) (k6 y (Qg ..));rw[s2]at s1;unfold cO at U;split at U
        .rename_i e;cases U;subst e;exact rA (λE=>q0t (X:=X.ql E) T.calm) (λ_ _=>rfl) gf (T.blt _ cf) boot_min (by decide) gd (J.Es X C T _ _ g2) s1 s2
        split at U
        .rename_i e;cases U;subst e;exact rA (λE=>q0s (X:=X.ql E) T.calm) (λ_ _=>rfl) gf (T.blt _ q0X) boot_max (by decide) gd (J.Es X C T _ _ g2) s1 s2
        .exact nS U
      |cons _ _=>exact nS h
end
section
variable{k:Nat}
structure BdOk(X:Cx):Prop where
 top:Top X
 fn:∀x,X.fn x=Qb
 kf:X.env.scope.kind=.function
def BdOk.bk(b:BdOk X):X.env.blockKind=.function:=by unfold Env.blockKind;rw[b.kf];rfl
def Ad{tg:Option Qs}(h:∀e g s q,v≠.ListComp e g s q)(b:∀e g s q,v≠.SetComp e g s q)(z:∀e w g s q,v≠.DictComp e w g s q):J9 v tg ln env=pure Qf:=by
 cases v<;>first
  |rfl
  |exact absurd rfl (h _ _ _ _)
  |exact absurd rfl (b _ _ _ _)
  |exact absurd rfl (z _ _ _ _ _)
def X3(h:cE n C v=Qa l):(∀e g s q,v≠.SetComp e g s q)/\∀e w g s q,v≠.DictComp e w g s q:=by
 cases n with
 |zero=>cases h
 |succ n=>exact#[λe g s q z=>(by subst z;cases h),λe w g s q z=>(by subst z;cases h)]
def q9w(h:cE n C v=Qa l):J9 v (Qa (.Name x q)) ln env=pure Qf\/∃e g s F,v=.ListComp e g s F/\J9 v (Qa (.Name x q)) ln env=pure Qb:=by
 by_cases hc:∃e g s q,v=.ListComp e g s q
 .obtain⟨e,g,s,F,rfl⟩:=hc;have I:∃b,J9 (.ListComp e g s F) (Qa (.Name x q)) ln env=pure b:=#[_,rfl]
  obtain⟨b,hb⟩:=I;cases b with
  |false=>exact .inl hb
  |true=>exact .inr #[e,g,s,F,rfl,hb]
 .exact .inl (Ad (λe g s q z=>hc #[e,g,s,q,z]) (X3 h).1 (X3 h).2)
def Ae{ts:Qs}(h:cE n C v=Qa l)(b:∀t q,ts≠.Name t q):J9 v (Qa ts) ln env=pure Qf:=by
 by_cases hc:∃e g s q,v=.ListComp e g s q
 .obtain⟨e,g,s,F,rfl⟩:=hc;cases ts<;>first|rfl|exact absurd rfl (b _ _)
 .exact Ad (λe g s q z=>hc #[e,g,s,q,z]) (X3 h).1 (X3 h).2
def aH(h:A0 e=Qb):∃y:Str,JP X e y/\y.length<=1000:=by
 cases e<;>first
  |(cases h;done)
  |skip
 rename_i c j q;cases c<;>first
  |(cases h;done)
  |exact#[_,q45,of_decide_eq_true h]
def q6C(T:CtOk k X C p G sub)(h:C.aG e=Qb):∃y:Str,JP X e y/\y.length<=1000:=by
 unfold Ct.aG at h;split at h
 .rw[Qo,Qo,decide_eq_true_eq,WY]at h;obtain⟨⟨rfl,rfl⟩,h⟩:=h;split at h
  .rename_i y U;obtain⟨q,rfl⟩:=jT U;rw[Qo]at h;obtain⟨I,b⟩:=h;obtain⟨z,F⟩:=T.glob I;split at b
   .rename_i a e1;rw[Qo,decide_eq_true_eq,decide_eq_true_eq]at b;refine ja (T.consts _ _ e1) λW t g J=>?_;cases g;exact#[_,q44 z J F b.1,b.2]
   .cases b
  .cases h
 .cases h
def CV(x:Str):(Ve++x).length=x.length:=by rw[Pj];show 0+x.length=_;omega
def q6E(T:CtOk k X C p G sub)(h:C.Gz e=Qb):SM X e:=by
 have big:(3000:Nat)<=QD:=by rw[Q6];decide
 unfold Ct.Gz at h;split at h
 .split at h
  .rename_i a b r;rw[Qo,Qo]at h;obtain⟨x,g,W⟩:=aH h.1.1;obtain⟨y,J,l2⟩:=q6C T h.1.2;have F:=h.2;split at F
   .exact q95 g J (by rw[CV];lia) (by rw[Pj,CV];lia)
   .obtain⟨z,U,l3⟩:=aH F;exact q94 g J U (by rw[CV];lia) (by rw[Pj,CV];lia) (by rw[Pj,Pj,CV];lia)
   .cases F
  .cases h
 .obtain⟨x,g,W⟩:=aH h;exactλE pins Y H s I=>Qh (g E pins Y H s I) (λ_ _ h=>h.2) λ_ _ z=>z
def q6D(h:C.Gz e=Qb):wq e=Qb:=by cases e<;>first|rfl|(cases h;done)
structure SoS(k:Nat)(p:Pm)(G:Nat->List D->R D)(sub:Nat->Nat->Bool)(n:Nat):Prop where
 S:∀(X:Cx)(C:Ct),CtOk k X C p G sub->BdOk X->∀s l,cS n C s=Qa l->SS X p G sub s l
 Ss:∀(X:Cx)(C:Ct),CtOk k X C p G sub->BdOk X->∀s l,cSs n C s=Qa l->je X p G sub s l
theorem Cv{x:Str}{xp pos:WD}{i:Nat}{v:Qs}{l:Ev.S}(so:SoE k p G sub n)(g:∀m,SoE k p G sub m)(T:CtOk k X C p G sub)(B:BdOk X)(hl:C.loc x=Qa i)(h:(cE n C v).map (S.set i)=Qa l):SS X p G sub (.Assign [.Name x xp] v pos) l:=by
 have J:X.N.Nodup:=by rw[T.N];exact T.nd
 obtain⟨U,W⟩:=T.loc hl;have hf:X.fn x=Qb\/X.env.scope.names.lookup x=Qa .local:=.inl (B.fn _);obtain⟨lv,e1,rfl⟩:=oM h;rcases q9w e1 with z|⟨el,gs,sc,q',rfl,z⟩
 .exact q9Y J W U hf (so.E X C T _ _ e1) z
 .cases n with
  |zero=>cases e1
  |succ m=>
   obtain⟨tg,it,ifs,kk,ts,li,le,lc,rfl,DI,F,c2,c3,TX,qX,rfl⟩:=de e1;refine vf (T.inner TX) λS Du DD inner=>?_;obtain⟨fr,hi⟩:=((g m).I X C T _ _ F tg).1;refine q9a T.calm S hi (λs2 H2 cl b fp=>(g m).E _ _ (inner s2 H2 cl b fp) _ _ c2) (λs2 H2 cl b fp=>dC (λm' _ X C T e t h=>(g m').T X C T e t h) (inner s2 H2 cl b fp) c3 qX) (λs2 H2 cl b fp=>?_) (Lb (IY F)) J W U hf z;have rl:∀x∈ts,(j4 X s2 H2 sc cl b (za ts X.N) fp).env.scope.names.lookup x=Qa .local:=λx hx=>by show(UY sc X.env).names.lookup x=_;rw[XR,DD x hx];rfl
   exact sM T.K T.calm Du rl DI
def tX{l:Ev.S}(so:SoE k p G sub n)(T:CtOk k X C p G sub)(B:BdOk X)(hl:C.loc x=Qa i)(h:E1 C (cE n C) x xp i v=Qa l):SS X p G sub (.Assign [.Name x xp] v pos) l:=by
 obtain⟨l1,l2⟩:=T.loc hl;obtain⟨⟨t,g,a,sc,vp⟩,hd,b⟩:=oB h;obtain⟨q1,q2,q3,q4,rfl⟩:=q1E hd;split at b
 .rename_i hc;refine k8 hc λzu W Em hmu TX zr=>?_;obtain⟨J,zd,U⟩:=zr;subst zu;refine qH (oM b) λla e1 zz=>?_;subst zz;refine vf (T.inner TX) λS I F inner=>?_;obtain⟨g1,g2⟩:=T.glob W;have kx:X.env.kindOf x=Qa .local:=by
   have kk:=T.kinds x;rw[J]at kk;rcases kk with z|⟨z,_⟩
   .exact z.symm
   .cases z
  refine q9c T.calm S g1 (T.blt _ ck) (so.E X C T _ _ e1) (jd (vL e1)) I (F t (Qg ..)) (by rw[T.N];exact T.nd) l2 l1 (.inl (B.fn _)) ?_;show(pure _:Sem Bool)=pure Qb;congr 1;rw[B.bk];have k2:(X.env.kindOf x==Qa .local)=Qb:=by rw[kx];rfl
  rw[k2];have u5:(xp.line==(PySem.Expr.ListComp (.List [] q1) [#[.Name t q2,.Call (.Name (QA "range") q3) [a] [] q4,[],0]] sc vp).pos.line)=Qb:=zd;rw[u5,U];rfl
 .cases b
def tY{l:Ev.S}(b:SoE k p G sub n)(W:∀m,SoE k p G sub m)(T:CtOk k X C p G sub)(B:BdOk X)(h0:E0 C (cE n C) (jI n C) [.Name x xp] v=Qa l):SS X p G sub (.Assign [.Name x xp] v pos) l:=by
 have I:X.N.Nodup:=by rw[T.N];exact T.nd
 obtain⟨i,hl,h⟩:=oB (show((C.loc x).bind λi=>if x∈C.objs then IW C (jI n C) i v else if x∈C.deep then E1 C (cE n C) x xp i v else if x∈C.muts then E2 C (cE n C) (jI n C) i v else FU C (cE n C) i v)=Qa l from h0);obtain⟨J,U⟩:=T.loc hl;have hf:X.fn x=Qb\/X.env.scope.names.lookup x=Qa .local:=.inl (B.fn _);split at h
 .obtain⟨⟨cn,as⟩,a1,g⟩:=oB h;obtain⟨q1,q2,n1⟩:=FW a1;dsimp only at g;split at g
  .rename_i hc;obtain⟨c1,c2,c3⟩:=hc;obtain⟨ls,e1,rfl⟩:=oM g;refine qY T.ini λfa fd ps F M hm hb qX=>?_;obtain⟨g1,g2⟩:=T.glob c2;rw[n1];cases as with
   |nil=>cases c3 rfl
   |cons a r=>
    have k6:=xm e1;exact q9Q I U J hf M F (T.room.mono (Yi _)) hb qX g1 (by rw[c1];exact hm) g2 (b.Es X C T _ _ e1) (jd (k6 a (Qg ..))) (uK λx hx=>k6 x (Qd _ hx))
  .cases g
 split at h
 .exact tX b T B hl h
 split at h
 .cases v with
  |List xs q=>
   obtain⟨ls,e1,rfl⟩:=oM h;exact q9d I U J hf (b.Es X C T _ _ e1)
  |Dict ks ws q=>
   refine oC h λk1 a1 h=>?_;refine oC h λk2 a2 h=>?_;refine oC h λw a3 h=>?_;refine oC h λlk e1 h=>?_;obtain⟨lw,e2,rfl⟩:=oM h;rw[jk a1,jk a3,a2];exact q9b I U J hf (b.E X C T _ _ e1) (b.E X C T _ _ e2)
  |_=>cases h
 .unfold FU at h;split at h
  .rename_i o m as ap cp hv;cases Sa hv;split at h
   .rename_i y hy;obtain⟨q,rfl⟩:=jT hy;split at h
    .rename_i hm;split at h
     .rename_i hc;rw[Qo,Qo]at hc;cases QW.mp hc.1.1;refine qH (oM h) λj e1 zz=>?_;subst zz;obtain⟨m1,m2⟩:=T.loc e1;obtain⟨d1,d2⟩:=w0 hc.2;obtain⟨_,rfl⟩:=hm;exact q9S I U J hf m2 (m1.elim .inl λz=>.inr (.inl z)) d1 d2 hc.1.2
     .cases h
    .exact Cv b W T B hl h
   .exact Cv b W T B hl h
  .split at h
   .rename_i y hy;obtain⟨q,rfl⟩:=jT hy;split at h
    .cases h
    .exact Cv b W T B hl h
   .exact Cv b W T B hl h
def tZ{ts:List Qs}{l:Ev.S}(F:SoE k p G sub n)(yv:∀m,SoE k p G sub m)(T:CtOk k X C p G sub)(B:BdOk X)(h:E0 C (cE n C) (jI n C) ts v=Qa l):SS X p G sub (.Assign ts v pos) l:=by
 have hN:X.N.Nodup:=by rw[T.N];exact T.nd
 refine oC h λt ht b=>?_;cases jk ht;cases t with
 |Name x xp=>exact tY F yv T B h
 |Subscript o k q=>
  refine oC b λx I b=>?_;obtain⟨px,n1⟩:=jT I;rw[n1];split at b
  .rename_i hc;refine oC b λi e1 b=>?_;refine oC b λlk W b=>?_;obtain⟨lv,g,rfl⟩:=oM b;obtain⟨l1,l2⟩:=T.loc e1;obtain⟨J,U⟩:=w0 hc.2;exact q9T T.hu l2 (l1.elim .inl λz=>.inr (.inl z)) J U (F.E X C T _ _ W) (F.E X C T _ _ g) (Ae g (λ_ _ z=>by cases z))
  .cases b
 |Attribute o f q=>
  refine oC b λx I b=>?_;obtain⟨px,n1⟩:=jT I;rw[n1];split at b
  .rename_i hc;refine oC b λi e1 b=>?_;refine oC b λkf W b=>?_;obtain⟨lv,g,rfl⟩:=oM b;obtain⟨l1,l2⟩:=T.loc e1;obtain⟨J,U⟩:=w0 hc.2;exact q9Z T.cl (by rw[<-T.flds];exact yl W) l2 (l1.elim .inl λz=>.inr (.inl z)) J U (F.E X C T _ _ g) (Ae g (λ_ _ z=>by cases z))
  .cases b
 |_=>cases b
def fu{o:Qs}{l:Ev.S}(so:SoE k p G sub n)(T:CtOk k X C p G sub)(h:E4 C (cE n C) m as ap cp o=Qa l):SS X p G sub (.Expr (.Call (.Attribute o m ap) as [] cp) pos) l:=by
 unfold E4 at h;split at h
 .split at h
  .rename_i hc;refine oC h λa I b=>?_;cases jk I;refine qH (oB b) λi e1 b=>?_;refine qH (oM b) λla F g=>?_;subst g;refine vf hc λ_ zd yG g=>?_;subst g;obtain⟨l1,l2⟩:=T.loc e1;obtain⟨J,U⟩:=w0 yG;exact q9F l2 (l1.elim .inl λz=>.inr (.inl z)) J U (so.E X C T _ _ F) (jd (vL F)) zd
  .cases h
 .refine oC h λx a2 W=>?_;obtain⟨px,rfl⟩:=jT a2;split at W
  .rename_i hc;refine qH (oB W) λa I b=>?_;cases jk I;refine qH (oB b) λi e1 b=>?_;refine qH (oB b) λlk F b=>?_;refine qH (oM b) λla e3 g=>?_;subst g;refine y9 hc λzd yG _ _ g=>?_;subst g;obtain⟨l1,l2⟩:=T.loc e1;obtain⟨J,U⟩:=w0 yG;exact q9G l2 (l1.elim .inl λz=>.inr (.inl z)) J U (so.E X C T _ _ F) (l7 (vL F)) (so.E X C T _ _ e3) (jd (vL e3)) zd
  .cases W
 .cases h
def q68{l:Ev.S}(so:SoE k p G sub n)(T:CtOk k X C p G sub)(h:Ia C (jI n C) x m as ap cp=Qa l):SS X p G sub (.Expr (.Call (.Attribute (.Name x q) m ap) as [] cp) pos) l:=by
 unfold Ia at h;split at h
 .rename_i hc;refine vf hc λzd yG ze hl=>?_;refine oC h λj I h=>?_;refine oC h λi e1 h=>?_;obtain⟨ls,g,rfl⟩:=oM h;refine qY (T.metM m j I) λfa fd ps F W yF hb qX=>?_;obtain⟨l1,l2⟩:=T.loc e1;obtain⟨J,U⟩:=w0 yG;cases as with
  |nil=>cases ze rfl
  |cons a r=>
   have b:=xm g;exact q9J T.cl W yF F (T.room.mono (Yt _ _)) hb qX l2 (l1.elim .inl λz=>.inr (.inl z)) J U (so.Es X C T _ _ g) (jd (b a (Qg ..))) (uK λx hx=>b x (Qd _ hx)) (uK b) hl zd
 .cases h
def tT{o:Qs}{l:Ev.S}(so:SoE k p G sub n)(T:CtOk k X C p G sub)(h:d7 C (cE n C) m as ap cp o=Qa l):SS X p G sub (.Expr (.Call (.Attribute o m ap) as [] cp) pos) l:=by
 obtain⟨⟨o1,m1,as1,ap1,cp1⟩,W,h⟩:=oB h;refine oC h λx I b=>?_;dsimp only at I b;split at b
 .rename_i hc;refine k8 hc λ_ g c1 zd U yG=>?_;refine oC b λa a3 h2=>?_;refine oC h2 λj a4 h3=>?_;refine oC h3 λi e1 h4=>?_;obtain⟨la,J,rfl⟩:=oM h4;obtain⟨q,rfl⟩:=jT I;rw[jk a3,Sa W,QW.mp c1,g];refine qY (T.metN m1 j a4) λfa fd ps F hm yF hb qX=>?_;obtain⟨l1,l2⟩:=T.loc e1;obtain⟨d1,d2⟩:=w0 yG;exact q9H T.cl hm yF F (T.room.mono (Yt _ _)) hb qX l2 (l1.elim .inl λz=>.inr (.inl z)) d1 d2 (so.E X C T _ _ J) (jd (vL J)) U zd
 .cases b
def q1l{l:Ev.S}(b:SoE k p G sub n)(T:CtOk k X C p G sub)(h:cExp C (cE n C) (jI n C) e=Qa l):SS X p G sub (.Expr e pos) l:=by
 unfold cExp at h;split at h
 .rename_i o m as ap cp hv;cases Sa hv;split at h
  .rename_i x I;split at h
   .obtain⟨q,rfl⟩:=jT I;exact q68 b T h
   .exact fu b T h
  .split at h
   .exact tT b T h
   .exact fu b T h
 split at h
 .cases h
 .rename_i I;have plain:(cE n C e).map S.expr=Qa l->SS X p G sub (.Expr e pos) l:=λh=>by obtain⟨le,e1,rfl⟩:=oM h;exact q9K (b.E X C T _ _ e1) (Ad (λe g s q z=>I (by rw[z];rfl)) (X3 e1).1 (X3 e1).2)
  split at h
  .rename_i y hy;split at h
   .rename_i hc;obtain⟨J,c2,U⟩:=hc;obtain⟨cn,as⟩:=y;obtain⟨q1,q2,n1⟩:=FW hy;obtain⟨ls,e1,rfl⟩:=oM h;refine qY T.ini λfa fd ps F M hm hb qX=>?_;obtain⟨g1,g2⟩:=T.glob c2;rw[n1];dsimp only at J U e1;cases as with
    |nil=>cases U rfl
    |cons a r=>
     have W:=xm e1;exact q9R M F (T.room.mono (Yi _)) hb qX g1 (by rw[J];exact hm) g2 (b.Es X C T _ _ e1) (jd (W a (Qg ..))) (uK λx I=>W x (Qd _ I))
   .exact plain h
  .exact plain h
def qA2{body I fb:List PySem.Stmt}{l:Ev.S}(T:CtOk k X C p G sub)(B:BdOk X)(qr:∀s l,cSs n C s=Qa l->je X p G sub s l)(h:Ic C (cSs n C) body hs I fb=Qa l):SS X p G sub (.Try body hs I fb pos) l:=by
 unfold Ic at h;split at h
 .rename_i hc;cases QW.mp hc.1;cases QW.mp hc.2;refine oC h λhd W g=>?_;cases jk W;obtain⟨⟨c,i,j⟩,a2,g⟩:=oB g;obtain⟨lb,e4,rfl⟩:=oM g;obtain⟨ty,nm,b,q⟩:=hd;refine qH (oB a2) λty' b1 h=>?_;refine qH (oB h) λcn b2 h=>?_;refine qH (oB h) λx b3 h=>?_;refine qH (oB h) λst b4 h=>?_;obtain⟨⟨y,x'⟩,b5,h⟩:=oB h;obtain⟨q1,n1⟩:=jT b2;obtain⟨q2,q3,q4,n2⟩:=q8b b5;split at h
  .rename_i hc;obtain⟨hg,yG,_,_,rfl,J,F⟩:=hc;refine qH (oB h) λc' e1 h=>?_;refine qH (oB h) λi' e2 h=>?_;refine qH (oM h) λj' e3 h=>?_;cases h;rw[b1,b3,jk b4,n1,n2];obtain⟨g1,g2⟩:=T.glob hg;refine qH (T.excs c _ (yl e1)) λCc U vo=>?_;obtain⟨l1,l2⟩:=T.loc e2;obtain⟨l3,l4⟩:=T.loc e3;obtain⟨d1,d2⟩:=w0 yG;refine q9e B.top (by rw[T.N];exact T.nd) l2 ?_ l4 l3 (.inl (B.fn _)) J g1 vo.bound (λe Ce he=>(T.Ea e c Ce Cc he U).1) g2 d1 d2 (qr _ _ e4);rcases T.kinds _ with z|⟨z,_⟩
   .exact z.symm.trans F
   .rw[F]at z;cases z
  .cases h
 .cases h
def q3R(J:SoE k p G sub n)(yv:∀m,SoE k p G sub m)(T:CtOk k X C p G sub){c:Qs}{xs:List Qs}{U:List Ev.T}{SQ:List L}{le:L}{lb:List Ev.S}(h:IZ C c=Qa (cs,i,j,xs,e))(b:xA n C cs=Qa U)(g:jI n C xs=Qa SQ)(I:cE n C e=Qa le)(hS:je X p G sub st lb):SS X p G sub (.If c st [] pos) (.ifA U i j SQ le lb):=by
 unfold IZ at h;split at h
 .rename_i r hr;cases h;refine(bx hr).elim λf zr=>?_;refine EK zr λx q1 q2 q3 q4 zu hf hj hg hx yG hl ze=>?_;subst zu;refine qY (T.mgs _ _ hf hj) λfa fd ps F hm hk hb qX=>?_;obtain⟨g1,g2⟩:=T.glob hg;obtain⟨l1,l2⟩:=T.loc hl;obtain⟨W,d2⟩:=w0 yG;have z:U=[]:=by
   cases n with
   |zero=>cases b
   |succ n=>cases b;rfl
  subst z;exact q9M T.K T.hu F (T.room.mono (Yt _ _)) hb qX g1 hm hk g2 l2 (l1.elim .inl λz=>.inr (.inl z)) W d2 (J.Es X C T _ _ g) (uK (xm g)) (Di (vL I)) (J.E X C T _ _ I) hS
 .refine oC h λqq a1 h=>?_;obtain⟨r,hr,h⟩:=oM h;cases h;obtain⟨q5,rfl⟩:=q6e a1;refine(bx hr).elim λf zr=>?_;refine EK zr λx q1 q2 q3 q4 eq hf hj hg hx yG hl ze=>?_;rw[eq];refine qY (T.mgs _ _ hf hj) λfa fd ps F hm hk hb qX=>?_;obtain⟨g1,g2⟩:=T.glob hg;obtain⟨l1,l2⟩:=T.loc hl;obtain⟨W,d2⟩:=w0 yG;cases n with
  |zero=>cases b
  |succ n=>
   refine qN (Ie b) λlc _ c1 c2 zz=>?_;subst zz;have z:∀{m:Nat}{l:List Ev.T},xA m C []=Qa l->l=[]:=λ{m l} z=>by
    cases m with
    |zero=>cases z
    |succ n=>cases z;rfl
   cases z c2;exact q9N ((yv n).T X C T _ _ c1) T.K T.hu F (T.room.mono (Yt _ _)) hb qX g1 hm hk g2 l2 (l1.elim .inl λz=>.inr (.inl z)) W d2 (J.Es X C T _ _ g) (uK (xm g)) (Di (vL I)) (J.E X C T _ _ I) hS
def q51{s:Stmt}{r b:List Stmt}{lb:List Ev.S}(so:SoE k p G sub n)(T:CtOk k X C p G sub)(h:nV C s r=Qa (i,kk,b,v))(hb:je X p G sub b lb)(hv:cE n C v=Qa lv):je X p G sub (s::r) [.memo i kk lb lv]:=by
 obtain⟨⟨t,x⟩,a1,h1⟩:=oB h;obtain⟨⟨c,bb⟩,a2,h2⟩:=oB h1;refine oC h2 λsN a3 h3=>?_;obtain⟨⟨b1,bl⟩,a4,h4⟩:=oB h3;obtain⟨⟨t3,x3,v3⟩,a5,g⟩:=oB h4;split at g
 .rename_i hc;refine k8 hc λc1 c2 _ _ I J=>?_;subst c1;cases c2;refine oC g λi' e1 h6=>?_;obtain⟨k',F,h7⟩:=oM h6;cases h7;obtain⟨q1,q2,q3,q4,rfl⟩:=q7T a1;obtain⟨q5,rfl⟩:=q3Q a2;obtain⟨q6,q7,q8,U⟩:=q5G a3;have W:=lu a4;obtain⟨q9,qa,qb,qc,n5⟩:=tW a5;dsimp only at U W n5 I J e1 F|-;rw[U,W,n5];obtain⟨l1,l2⟩:=T.loc e1;obtain⟨l3,l4⟩:=T.loc F;obtain⟨d1,d2⟩:=w0 I;obtain⟨d3,d4⟩:=w0 J;exact q9P T.K T.hu l2 (l1.elim .inl λz=>.inr (.inl z)) d1 d2 l4 (l3.elim .inl λz=>.inr (.inl z)) d3 d4 hb (so.E X C T _ _ hv) (Ae hv (λ_ _ z=>by cases z))
 .cases g
def AW(vw:SSet):∀n,SoS k p G sub n:=by
 intro n;have g:=λn=>sound (k:=k) (p:=p) (G:=G) (sub:=sub) vw n
 induction n with
 |zero=>exact#[λX C T B s l h=>(by cases h),λX C T B s l h=>(by cases h)]
 |succ n J=>
  refine#[λX C T B st l h=>?_,λX C T B R5 l h=>?_]
  .have hN:X.N.Nodup:=(by rw[T.N];exact T.nd);cases st with
   |Assign ts v pos=>exact tZ (g n) g T B h
   |AugAssign tg0 op v pos=>
    refine oC h λx a1 h=>?_;obtain⟨q,n1⟩:=jT a1;rw[n1];split at h
    .cases h
    .refine oC h λi e1 h=>?_;refine oC h λo W h=>?_;obtain⟨lv,e3,rfl⟩:=oM h;obtain⟨l1,l2⟩:=T.loc e1;exact q9I hN l2 l1 (.inl (B.fn _)) W ((g n).E X C T _ _ e3)
   |Expr e pos=>exact q1l (g n) T h
   |If c0 a0 b0 pos=>
    unfold cS at h;dsimp only at h;split at h
    .rename_i cs i j xs e hc;split at hc
     .rename_i hb0;cases QW.mp hb0;refine oC h λGS e1 h=>?_;refine oC h λSQ W h=>?_;refine oC h λle e3 h=>?_;obtain⟨lb,e4,rfl⟩:=oM h;exact q3R (g n) g T hc e1 W e3 (J.Ss X C T B _ _ e4)
     .cases hc
    .refine oC h λc e1 h=>?_;refine oC h λa W h=>?_;obtain⟨b,e3,rfl⟩:=oM h;exact q9O ((g n).T X C T _ _ e1) (J.Ss X C T B _ _ W) (J.Ss X C T B _ _ e3)
   |For tg0 it0 U oe pos=>
    unfold cS at h;dsimp only at h;split at h
    .rename_i hc;cases QW.mp hc.1;refine oC h λx hx h=>?_;refine oC h λli c1 h=>?_;refine oC h λlb c2 h=>?_;refine oC h λi hl h=>?_;obtain⟨q,n1⟩:=jT hx;split at h
     .cases h
     .cases h;obtain⟨l1,l2⟩:=T.loc hl;rw[n1];exact q9L T.calm (((g n).I X C T _ _ c1 _).2 (UZ.mpr hc.2)) (q8n hN l2 l1 (.inl (B.fn _))) (J.Ss X C T B _ _ c2) (Lb (IY c1))
    .cases h
   |While c0 U oe pos=>
    unfold cS at h;dsimp only at h;split at h
    .rename_i hc;cases QW.mp hc;refine oC h λc e1 h=>?_;obtain⟨b,W,rfl⟩:=oM h;exact q9f ((g n).T X C T _ _ e1) (J.Ss X C T B _ _ W)
    .cases h
   |Return r0 pos=>
    have plain:∀e,(cE n C e).map S.ret=Qa l->SS X p G sub (.Return (Qa e) pos) l:=λe h=>by obtain⟨le,e1,rfl⟩:=oM h;exact q9V ((g n).E X C T _ _ e1)
    cases r0 with
    |none=>cases h
    |some e=>
     unfold cS dB at h;dsimp only at h;split at h
     .obtain⟨⟨cn,a⟩,a1,h⟩:=oB h;obtain⟨q1,q2,n1⟩:=G8 a1;dsimp only at h;split at h
      .rename_i hc;obtain⟨rfl,c2,_⟩:=hc;obtain⟨la,e1,rfl⟩:=oM h;rw[n1];exact q9W T.K (T.glob c2).1 (T.blt _ IU) ((g n).E X C T _ _ e1) (jd (vL e1))
      .cases h
     split at h
     .rename_i x hx;obtain⟨q,rfl⟩:=jT hx;split at h
      .obtain⟨i,e1,rfl⟩:=oM h;obtain⟨l1,l2⟩:=T.loc e1;obtain⟨d1,d2⟩:=q4Y e1;exact q9X l2 (l1.elim .inl λz=>.inr (.inl z)) d1 d2
      .exact plain _ h
     .exact plain _ h
   |Raise a0 b0 pos=>
    refine oC h λe a1 h=>?_;split at h
    .rename_i hb;obtain⟨⟨cn,m⟩,a2,h⟩:=oB h;obtain⟨q,q2,n1⟩:=G8 a2;rw[a1,WY.mp hb,n1];dsimp only at h;split at h
     .rename_i hc;refine qH (oM h) λc e1 zz=>?_;subst zz;obtain⟨g1,g2⟩:=T.glob hc.1;refine qH (T.excs c _ (yl e1)) λCc TF vo=>?_;exact q9U T.calm g1 vo PySem.F.excBase_ValueError TF (q6E T hc.2) g2 (jd (q6D hc.2))
     .cases h
    .cases h
   |Try a0 b0 c0 d0 pos=>exact qA2 T B (λs l h=>J.Ss X C T B s l h) h
   |_=>cases h
  .cases R5 with
   |nil=>cases h;exact ro
   |cons s r=>
    unfold cSs at h;split at h
    .rename_i i k b v hm;refine oC h λlb g1 h=>?_;obtain⟨lv,g2,rfl⟩:=oM h;exact q51 (g n) T hm (J.Ss X C T B _ _ g1) g2
    .refine oC h λa g1 h=>?_;obtain⟨l',g2,rfl⟩:=oM h;exact q9h (J.S X C T B _ _ g1) (J.Ss X C T B _ _ g2)
end
theorem len_3:∀{us:List α},us.length=3->∃a b c,us=[a,b,c]
 |a::_,h=>(len_2 (Nat.succ.inj h)).elim λb h=>h.elim λc h=>#[a,b,c,h▸rfl]
structure DefI where
 name:Str
 st:Stmt
 N:List Str
 ps:List Str
 muts:List Str
 deep:List Str
 l:List Ev.S
 nw:Bool
 md:Bool
 objs:List Str
 yq:Str
 wg:Bool
 A:Option (List Ev.S×Nat×L)
structure TxtI where
 ds:List DefI
 consts:List (Str×D)
 excs:List Str
 sub:Nat->Nat->Bool
 flds:List Str
 cls:Str
 ini:Nat
noncomputable def TxtI.GA(t:TxtI)(f:DefI->Bool):List Nat:=(t.ds.zipIdx.filter λq=>f q.1).map (·.2)
noncomputable def TxtI.Dq(t:TxtI)(f:DefI->Bool):List (Str×Nat):=(t.ds.zipIdx.filter λq=>q.1.wg&&f q.1).map λq=>(q.1.yq,q.2)
noncomputable def DefI.ch(d:DefI):Bool:=d.md||d.A.isSome
def TxtI.ct(t:TxtI)(d:DefI):Ct:={N:=d.N,kinds:=(wC d.st).names,funs:=t.ds.map (·.name),consts:=t.consts,excs:=t.excs,muts:=d.muts,fresh:=[],deep:=d.deep,nw:=d.nw,objs:=d.objs,flds:=t.flds,spec:=t.GA λd=>d.wg||d.ch,mgs:=t.GA λd=>!d.wg&&d.ch,metP:=t.Dq λd=>!d.ch,metN:=t.Dq λd=>!d.ch&&d.nw,metM:=t.Dq λd=>d.ch,cls:=t.cls,ini:=t.ini}
def l8{t:TxtI}{f:DefI->Bool}:j∈t.GA f↔∃d,t.ds[j]?=Qa d/\f d=Qb:=by
 unfold TxtI.GA;rw[Qv];constructor
 .rintro⟨⟨d,k⟩,h,rfl⟩;rw[QJ]at h;exact#[d,Uh.mp h.1,h.2]
 .rintro⟨d,b,g⟩;exact#[(d,j),QJ.mpr #[Uh.mpr b,g],rfl]
def lookup_mem{g:Type}[BEq α][LawfulBEq α]{l:List (α×g)}{a:α}{b:g}(h:l.lookup a=Qa b):(a,b)∈l:=by
 induction l with
 |nil=>cases h
 |cons x l k=>
  rw[Q3]at h;split at h
  .rename_i e;cases h;rw[beq_iff_eq.mp e];exact Qg
  .exact Qd _ (k h)
def Sb{t:TxtI}{f:DefI->Bool}(h:(t.Dq f).lookup m=Qa j):∃d,t.ds[j]?=Qa d/\d.wg=Qb/\f d=Qb/\d.yq=m:=by have g:=lookup_mem h;unfold TxtI.Dq at g;rw[Qv]at g;obtain⟨⟨d,k⟩,b,e⟩:=g;cases e;rw[QJ,Qo]at b;exact#[d,Uh.mp b.1,b.2.1,b.2.2,rfl]
def cA:Stmt->Option (Str×Str×Expr)
 |.Assign ts v _=>(jc ts).bind λt=>match t with
  |.Attribute o f _=>(Expr.isName o).map λx=>(x,f,v)
  |_=>Qc
 |_=>Qc
def tV{s:Stmt}{f:Str}(h:cA s=Qa (x,f,v)):∃q q2 pos,s=.Assign [.Attribute (.Name x q) f q2] v pos:=by
 cases s<;>(try cases h)
 refine qH (oB h) λt b h=>?_;cases t<;>(try cases h)
 refine qH (oM h) λy g h=>?_;cases h;obtain⟨q,rfl⟩:=jT g;rw[jk b];exact#[_,_,_,rfl]
noncomputable def AY:List Stmt->Option (List Stmt×(Str×Str×Expr)×List Stmt)
 |[]=>Qc
 |s::r=>match cA s with
  |some q=>Qa ([],q,r)
  |none=>(AY r).map λq=>(s::q.1,q.2)
theorem rn:∀{b a r:List Stmt}{x f:Str}{v:Qs},AY b=Qa (a,(x,f,v),r)->∃q q2 pos,b=a++.Assign [.Attribute (.Name x q) f q2] v pos::r
 |[],a,r,x,f,v,h=>by cases h
 |s::b,a,r,x,f,v,h=>by
  unfold AY at h;split at h
  .rename_i q k;cases h;obtain⟨q,q2,pos,rfl⟩:=tV k;exact#[_,_,_,rfl]
  .obtain⟨⟨z,y⟩,g,h⟩:=oM h;cases h;obtain⟨q,q2,pos,rfl⟩:=rn g;exact#[_,_,_,rfl]
noncomputable def il:List Ev.S->Bool
 |[.raise _]=>Qb
 |_=>Qf
def XY:Stmt->Ev.S->Bool
 |.If _ _ b _,.ifs _ la _=>b.isEmpty&&il la
 |.Assign ts v _,.set i _=>i !=0&&!ie v&&((jc ts).bind Expr.isName).isSome
 |_,_=>Qf
noncomputable def CL:List Stmt->List Ev.S->Bool
 |[],[]=>Qb
 |s::r,l::ls=>XY s l&&CL r ls
 |_,_=>Qf
noncomputable def Ct.Am(C:Ct)(x:Str):Ct:={C with objs:=[x],muts:=C.muts++[x]}
def compA(C:Ct)(body:List Stmt):Option ((List Ev.S×Nat×L)×List Ev.S):=(AY body).bind λr=>if C.N[(0:Nat)]?=Qa r.2.1.1/\vD r.2.1.1/\C.xc r.2.1.1 then(cSs 60 C r.1).bind λpre=>if CL r.1 pre then(ji r.2.1.2.1 C.flds).bind λk=>(cE 60 C r.2.1.2.2).bind λe=>(cSs 60 (Ct.Am C r.2.1.1) r.2.2).map λsuf=>((pre,k,e),suf)else Qc else Qc
section
variable{k:Nat}
def ti(b:E0 C fE wb [.Name x xp] v=Qa (.set i l)):C.loc x=Qa i/\fE v=Qa l:=by
 obtain⟨g,hl,h⟩:=oB (show((C.loc x).bind λi=>if x∈C.objs then IW C wb i v else if x∈C.deep then E1 C fE x xp i v else if x∈C.muts then E2 C fE wb i v else FU C fE i v)=Qa _ from b);have plain:(fE v).map (S.set g)=Qa (.set i l)->C.loc x=Qa i/\fE v=Qa l:=λh=>by obtain⟨z,e,h⟩:=oM h;cases h;exact#[hl,e]
 split at h
 .refine oC h λy _ h=>?_;split at h
  .obtain⟨_,_,h⟩:=oM h;cases h
  .cases h
 split at h
 .refine oC h λy _ h=>?_;split at h
  .obtain⟨_,_,h⟩:=oM h;cases h
  .cases h
 split at h
 .unfold E2 at h;split at h
  .obtain⟨_,_,h⟩:=oM h;cases h
  .refine oC h λ_ _ h=>?_;refine oC h λ_ _ h=>?_;refine oC h λ_ _ h=>?_;refine oC h λ_ _ h=>?_;obtain⟨_,_,h⟩:=oM h;cases h
  .cases h
 .unfold FU at h;split at h
  .split at h
   .split at h
    .split at h
     .obtain⟨_,_,h⟩:=oM h;cases h
     .cases h
    .exact plain h
   .exact plain h
  .split at h
   .split at h
    .cases h
    .exact plain h
   .exact plain h
def q70(vw:SSet)(T:CtOk k X C p G sub)(B:BdOk X){s:Stmt}{l:Ev.S}(h:cS n C s=Qa l)(F:XY s l=Qb):SK X p G sub s l:=by
 cases n with
 |zero=>cases h
 |succ n=>
  have so:=λn=>sound (k:=k) (p:=p) (G:=G) (sub:=sub) vw n;cases s<;>first
   |(unfold XY at F;cases F;done)
   |skip
  .rename_i ts v pos;cases l<;>first
    |(unfold XY at F;cases F;done)
    |skip
   rename_i i lv;unfold XY at F;rw[Qo,Qo]at F;obtain⟨⟨h1,h2⟩,h3⟩:=F;obtain⟨x,U⟩:=YY.mp h3;refine oC U λt ht U=>?_;obtain⟨q,rfl⟩:=jT U;cases jk ht;obtain⟨e1,I⟩:=ti h;obtain⟨l1,l2⟩:=T.loc e1;refine q8v (by simpa using h1) (by rw[T.N];exact T.nd) l2 l1 (.inl (B.fn _)) ((so n).E X C T _ _ I) (Ad (λe g s q z=>?_) (X3 I).1 (X3 I).2);rw[z]at h2;cases h2
  .rename_i c a b pos;cases l<;>first
    |(unfold XY at F;cases F;done)
    |skip
   rename_i lc la lb;unfold XY at F;rw[Qo]at F;cases QW.mp F.1;unfold cS at h;dsimp only at h;split at h
   .refine oC h λ_ _ h=>?_;refine oC h λ_ _ h=>?_;refine oC h λ_ _ h=>?_;obtain⟨_,_,h⟩:=oM h;cases h
   .refine oC h λc' e1 h=>?_;refine oC h λa' I h=>?_;obtain⟨b',W,h⟩:=oM h;cases h;have z:lb=[]:=by
     cases n with
     |zero=>cases W
     |succ n=>cases W;rfl
    subst z;refine q8u ((so n).T X C T _ _ e1) ((AW vw n).Ss X C T B _ _ I) λZ ρ' z=>?_;have J:=F.2;unfold il at J;split at J
    .cases z
    .cases J
def q6z(J:SSet)(T:CtOk k X C p G sub)(B:BdOk X):∀{n:Nat}{s:List Stmt}{l:List Ev.S},cSs n C s=Qa l->CL s l=Qb->Pz X p G sub s l:=by
 intro n
 induction n with
 |zero=>intro s l h;cases h
 |succ n I=>
  intro s l h b;cases s with
  |nil=>cases h;exact q8x
  |cons s r=>
   unfold cSs at h;split at h
   .refine oC h λ_ _ h=>?_;obtain⟨_,_,h⟩:=oM h;cases h;unfold CL at b;rw[Qo]at b;have:=b.1;unfold XY at this;split at this<;>first
     |(rename_i z;cases z;done)
     |(rename_i z _;cases z;done)
     |(cases this;done)
   .refine oC h λa g h=>?_;obtain⟨U,F,rfl⟩:=oM h;unfold CL at b;rw[Qo]at b;exact q8w (q70 J T B g b.1) (I F b.2)
theorem CtOk.Am(T:CtOk k X C p G sub)(x:Str):CtOk k X (Ct.Am C x) p G sub:=#[T.N,T.nd,T.kinds,T.calm,T.K,T.room,T.blt,T.funs,T.consts,T.mgs,T.cl,T.flds,T.metP,T.metN,T.metM,T.ini,T.excs,T.Eb,T.Ea]
end
noncomputable def Gk(t:TxtI):Nat->Nat->List D->R D
 |0,_,_=>.qC
 |n+1,f,xs=>match t.ds[f]?with
  |some d=>if xs.length=d.ps.length then(match d.A with
   |some a=>Ev.yS (Gk t n) t.sub d.N.length a.1 a.2.1 a.2.2 d.l xs
   |none=>if d.md then Ev.Ts (Gk t n) t.sub d.N.length d.l xs else if d.nw then Ev.Tt (Gk t n) t.sub d.N.length d.l xs else Ev.run (Gk t n) t.sub d.N.length d.l xs)else .qC
  |none=>.qC
structure DefOk(t:TxtI)(d:DefI):Prop where
 sc:FnScope d.N d.ps (wC d.st)
 cs:(match d.A with
  |some a=>compA (t.ct d) (xC d.st)=Qa (a,d.l)
  |none=>cSs 60 (t.ct d) (xC d.st)=Qa d.l)
 bd:∀(kV doc pm:Value)(an:Option Addr)(zC ct:Value)(us:List Value),us.length=d.ps.length->bindArgs (Jj d.yq d.name (X4 d.st) (xC d.st) (wC d.st) .none kV doc pm an zC ct) #[us,[]]=pure (d.ps.zip us)
def Cn(K:QC)(C:Addr)(d:DefI):Prop:=∃f fd,(if d.wg then Meth K C d.yq f else nsIn K mainGlobals d.name=Qa (Qa (.ref f)))/\Fun K d.yq d.name d.st f fd
def q1v{C:Addr}{d:DefI}{kV ct:Value}(b:d.wg=Qf)(a:nsIn K mainGlobals d.name=Qa (Qa (.ref f)))
  (l:K.lookup f=Qa #[oc,od,.func (Jj d.yq d.name (X4 d.st) (xC d.st) (wC d.st) .none kV doc pm an zC ct),kg]) (c:Yj K zC d.name=Qb) (k:Jf K (.ref f)=Qb):Cn K C d:=#[f,_,by rw[b,if_neg Qq];exact a,gP l c k]
def q1w{C:Addr}{d:DefI}{kV ct:Value}(b:d.wg=Qb)(a:Jw K (.ref C) d.yq=Qa (Qa (.ref f)))(i:VS K (.ref f)=Qb)
  (l:K.lookup f=Qa #[oc,od,.func (Jj d.yq d.name (X4 d.st) (xC d.st) (wC d.st) .none kV doc pm an zC ct),kg]) (c:Yj K zC d.name=Qb) (k:Jf K (.ref f)=Qb):Cn K C d:=#[f,_,by rw[b,if_pos rfl];exact#[a,i,k],gP l c k]
structure ExcI(K:QC)(x:Str)(C:Addr):Prop where
 at_:nsIn K mainGlobals x=Qa (Qa (.ref C))
 exc:excIn K C excTail "ValueError.__new__"=Qb
 ok:ExOk K C
 val:kitOne K (.ref C) (.type "ValueError")=Qa Qb
structure TxtOk(K:QC)(t:TxtI)(p:Pm):Prop where
 pk:p.K=K
 def_:∀(j:Nat)(d:DefI),t.ds[j]?=Qa d->DefOk t d/\Cn K p.C d
 blt:∀x∈zx,nsIn K mainGlobals x=Qa Qc
 qo:∀(x:Str)(d:D),t.consts.lookup x=Qa d->∃a tk,d=.int a/\nsIn K mainGlobals x=Qa (Qa (.int a tk))
 exc:∀(c:Nat)(x:Str),t.excs[c]?=Qa x->∃C,p.cls[c]?=Qa C/\ExcI K x C
 cls:∀(c:Nat)(C:Addr),p.cls[c]?=Qa C->∃x,t.excs[c]?=Qa x/\ExcI K x C
 sub:∀(e c:Nat)(Ce Cc:Addr),p.cls[e]?=Qa Ce->p.cls[c]?=Qa Cc->exmOne K (.ref Ce) (.ref Cc)=Qa (t.sub e c)/\kitOne K (.ref Ce) (.ref Cc)=Qa (t.sub e c)
 cl:ClsI K p
 flds:t.flds=p.flds
 Gu:∀d∈t.ds,d.wg=Qb->d.yq∉t.flds
 Gp:U7 K p.C=Qb/\Jf K (.ref p.C)=Qb/\nsIn K mainGlobals t.cls=Qa (Qa (.ref p.C))
 ini:∃d,t.ds[t.ini]?=Qa d/\d.wg=Qb/\d.yq=QA "__init__"/\d.ch=Qb
def q6h{C:Addr}{k:List Value}{nw:String}(P:Program)(M:Mod K mg h)(e:nsIn K mainGlobals x=Qa (Qa (.ref C)))(q:excIn K C k nw=Qb):OwnCls x C k nw mg h:=by
 obtain⟨mb,F,I⟩:=M.blt;obtain⟨o,es,ep,W,hd,J,T⟩:=M.glob;refine own_of_in (p:=P) (loose:=es.toList.filterMap λy=>match y.key with|.str z _=>Qa z|_=>Qc) M.vA #[M.glob,F,M.nolimit,I,λx _ U _ _ _=>?_] e q;rw[<-T x];unfold nsFind findBy;rw[Zq,Array.find?_eq_none];intro y g hs;obtain⟨n,t,b⟩:=J y g;rw[b]at hs;have e:n=x:=by simpa[Value.isStr]using hs
 exact U (Y4.mpr #[y,by simpa using g,by rw[b,e]])
section
variable{t:TxtI}
theorem TxtOk.of(T:TxtOk K t p)(z:Addr×Addr):TxtOk K t (p.of z):=#[T.pk,T.def_,T.blt,T.qo,T.exc,T.cls,T.sub,#[T.cl.cls,T.cl.flds,T.cl.nd,T.cl.len],T.flds,T.Gu,T.Gp,T.ini]
def q1x(F:FnOk P w K mg base CX k f fd ps AX)(h:∀vs H Q E,sp vs H Q E->AX vs H Q E):FnOk P w K mg base CX k f fd ps sp:=
 #[λvs H Q E q=>F.1 vs H Q E (h vs H Q E q),λA outer s H args us vs Q E g b hb r z=>F.2 A outer s H args us vs Q E g b hb r (h vs H Q E z)]
def RZ{d:DefI}(hd:t.ds[j]?=Qa d)(ns:Gk t n j ds≠.qC):ds.length=d.ps.length:=by
 cases n with
 |zero=>cases ns rfl
 |succ n=>
  unfold Gk at ns;rw[hd]at ns;dsimp only at ns
  by_cases hl:ds.length=d.ps.length
  .exact hl
  .rw[if_neg hl]at ns;cases ns rfl
def bq(P:Program)(w:World)(K:QC)(mg:Str->Option Value)(base:Heap)(t:TxtI)(p:Pm)(n:Nat):Prop:=∀(j:Nat)(d:DefI)(f:Addr)(fd:FuncData),t.ds[j]?=Qa d->Fun K d.yq d.name d.st f fd->
 (d.ch=Qf->FnOk P w K mg base (zk P w) (3*n) f fd d.ps (wK p (Gk t n) j d.ps.length))/\(d.ch=Qf->d.nw=Qb->FnOk P w K mg base (zk P w) (3*n) f fd d.ps (Xg p (Gk t n) j d.ps.length))/\(d.ch=Qb->FnOk P w K mg base (zk P w) (3*n) f fd d.ps (vZ p (Gk t n) j d.ps.length))
def E8{d:DefI}{E:XK}(T:TxtOk K t p)(M:Mod K mg base)(ih:bq P w K mg base t p n)(D1:DefOk t d)(hr:Room (3*n+2) (A.deeper (U2 d.name (wC d.st) s.heap.objs.size f zC))):
  CtOk (3*n) (kR (zk P w) P w K mg base d.N d.name (wC d.st) f zC A outer s H E) (t.ct d) p (Gk t n) t.sub:=by
 have fn:∀(b:Nat)(f':Str),(t.ct d).funs[b]?=Qa f'->∃d',t.ds[b]?=Qa d'/\d'.name=f':=λb f' hf=>by
  have hf:(t.ds.map (·.name))[b]?=Qa f':=hf;rw[QB]at hf;cases e:t.ds[b]?with
  |none=>rw[e]at hf;cases hf
  |some d'=>rw[e]at hf;cases hf;exact#[d',rfl,rfl]
 refine#[rfl,D1.sc.nd,λx=>.inl rfl,rfl,T.pk,hr,λx hx=>mg_none_of M.vA M.glob (T.blt x hx),λb f' hf yi=>?_,λx dd hx=>?_,λb f' hf hj=>?_,T.cl,T.flds,λm b hm=>?_,λm b hm=>?_,λm b hm=>?_,?_,λc x hx=>?_,λc C hc=>?_,T.sub]
 .refine qH (fn b f' hf) λd' e W=>?_;subst W;refine xo (T.def_ b d' e) λI fa F g k=>?_;have hs:(d'.wg||d'.ch)=Qf:=by
   cases z:(d'.wg||d'.ch)with
   |false=>rfl
   |true=>exact absurd (l8 (f:=λd=>d.wg||d.ch)|>.mpr #[d',e,z]) yi
  rw[Bool.or_eq_false_iff]at hs;rw[hs.1,if_neg Qq]at g;exact#[fa,F,d'.ps,(ih b d' fa F e k).1 hs.2,mg_of M.vA M.glob g,k.kp,k.binds I.bd,λds ns=>RZ e ns]
 .refine ja (T.qo x dd hx) λg tk e1 U=>?_;exact#[g,tk,e1,mg_of M.vA M.glob U]
 .refine qH (fn b f' hf) λd' e W=>?_;subst W;refine xo (T.def_ b d' e) λI fa F g k=>?_;refine qH ((l8 (t:=t) (f:=λd=>!d.wg&&d.ch)).mp hj) λd2 U hs=>?_;cases e.symm.trans U;rw[Qo,Ud]at hs;rw[hs.1,if_neg Qq]at g;exact#[fa,F,d'.ps,(ih b d' fa F e k).2.2 hs.2,mg_of M.vA M.glob g,k.kp,k.binds I.bd,λds ns=>RZ e ns]
 .refine xq (Sb (t:=t) (f:=λd=>!d.ch) hm) λd' e J hs W=>?_;subst W;refine xo (T.def_ b d' e) λI fa F g k=>?_;rw[J,if_pos rfl]at g;exact#[fa,F,d'.ps,(ih b d' fa F e k).1 (by simpa using hs),g,T.flds▸T.Gu d' (Qp e) J,k.binds I.bd,λds ns=>RZ e ns]
 .refine xq (Sb (t:=t) (f:=λd=>!d.ch&&d.nw) hm) λd' e J hs W=>?_;subst W;refine xo (T.def_ b d' e) λI fa F g k=>?_;rw[J,if_pos rfl]at g;rw[Qo,Ud]at hs;exact#[fa,F,d'.ps,(ih b d' fa F e k).2.1 hs.1 hs.2,g,T.flds▸T.Gu d' (Qp e) J,k.binds I.bd,λds ns=>RZ e ns]
 .refine xq (Sb (t:=t) (f:=λd=>d.ch) hm) λd' e J hs W=>?_;subst W;refine xo (T.def_ b d' e) λI fa F g k=>?_;rw[J,if_pos rfl]at g;exact#[fa,F,d'.ps,(ih b d' fa F e k).2.2 hs,g,T.flds▸T.Gu d' (Qp e) J,k.binds I.bd,λds ns=>RZ e ns]
 .refine xq T.ini λd' e J hn hs=>?_;refine xo (T.def_ _ d' e) λI fa F g k=>?_;rw[J,if_pos rfl]at g;exact#[fa,F,d'.ps,(ih _ d' fa F e k).2.2 hs,#[T.Gp.1,hn▸g.at_,g.fn,T.Gp.2.1],mg_of M.vA M.glob T.Gp.2.2,k.binds I.bd,λds ns=>RZ e ns]
 .refine qH (T.exc c x hx) λC e1 U=>?_;exact#[C,e1,q6h P M U.at_ U.exc]
 .refine qH (T.cls c C hc) λx e1 U=>?_;exact#[U.ok,U.val]
def q71(vw:SSet):∀(n:Nat)(p:Pm),TxtOk K t p->bq P w K mg base t p n:=by
 intro n
 induction n with
 |zero=>
  intro p T j d f fd hd F;refine#[λ_=>#[λvs H Q E h=>h.choose_spec.choose_spec.1,λA outer s H args us vs Q E I g hb r zt=>?_],λ_ _=>#[λvs H Q E h=>h.choose_spec.choose_spec.1,λA outer s H args us vs Q E I g hb r zt=>?_],λ_=>#[λvs H Q E h=>?_,λA outer s H args us vs Q E I g hb r zt=>?_]]
  .obtain⟨ds,O,_,_,_,_,ns,_⟩:=zt;cases ns rfl
  .obtain⟨ds,O,_,_,_,_,ns,_⟩:=zt;cases ns rfl
  .obtain⟨fs,ds,a,dx,kH,ws,O,h1,h2,h3⟩:=h;exact h2
  .obtain⟨fs,ds,a,dx,kH,ws,O,rfl,hl,nd,t,na,nx,ha,j5,hz,rl,q,ns,q1,q2⟩:=zt;cases ns rfl
 |succ n ih=>
  intro p T j d f fd hd F;obtain⟨b,_⟩:=T.def_ j d hd;obtain⟨oc,od,kV,doc,pm,an,zC,ct,kg,L7,lk,zE⟩:=F.ex;subst L7;have Cy:∀{A:Around}{outer:List JM}{s:Shared}{H:Hp}{E:XK},BdOk (kR (zk P w) P w K mg base d.N d.name (wC d.st) f zC A outer s H E):=#[#[rfl,rfl],λ_=>rfl,b.sc.kind]
  have J:∀ds,Gk t (n+1) j ds≠.qC->ds.length=d.ps.length->Gk t (n+1) j ds=(match d.A with
   |some a=>Ev.yS (Gk t n) t.sub d.N.length a.1 a.2.1 a.2.2 d.l ds
   |none=>if d.md then Ev.Ts (Gk t n) t.sub d.N.length d.l ds else if d.nw then Ev.Tt (Gk t n) t.sub d.N.length d.l ds else Ev.run (Gk t n) t.sub d.N.length d.l ds):=λds ns hl=>by
   rw[Gk,hd];dsimp only;rw[if_pos hl]
  cases hA:d.A with
  |some a=>
   have U:d.ch=Qb:=(by unfold DefI.ch;rw[hA,VO,Bool.or_true]);refine#[λz=>(by rw[U]at z;cases z),λz=>(by rw[U]at z;cases z),λ_=>?_];have cs:=b.cs;rw[hA]at cs J;obtain⟨⟨pre,⟨x,fld,v⟩,suf⟩,h1,h⟩:=oB cs;split at h
   .rename_i hc;refine vN hc λc1 c2 c3=>?_;refine qH (oB h) λlp e1 h=>?_;split at h
    .rename_i Rr;refine qH (oB h) λkf e2 h=>?_;refine qH (oB h) λle e3 h=>?_;refine qH (oM h) λls e4 h=>?_;have ha:a=(lp,kf,le):=(by cases h;rfl);have i7:d.l=ls:=(by cases h;rfl);subst ha;obtain⟨q0,j0,pos,yc⟩:=rn h1;obtain⟨d1,d2⟩:=w0 c2;rw[i7]at J;rw[yc]at lk|-;refine q1z (k:=3*n+2) (G':=Gk t n) (sub:=t.sub) (N:=d.N) lk zE b.sc J T.cl (by rw[<-T.flds];exact yl e2) c1 d1 d2 λz A outer s H E I g=>?_;have T1:=E8 T g.mod (ih p T) b (outer:=outer) (H:=H) (E:=E) I;exact#[q6z vw T1 Cy e1 Rr,(sound vw 60).E _ _ T1 _ _ e3,(T1.xc c3).1,Ae e3 (λ_ _ z=>by cases z),(AW vw 60).Ss _ _ ((E8 (T.of z) g.mod (ih _ (T.of z)) b (outer:=outer) (H:=H) (E:=E) I).Am x) Cy _ _ e4]
    .cases h
   .cases h
  |none=>
   have cs:=b.cs;rw[hA]at cs J;cases W:d.md with
   |true=>
    have U:d.ch=Qb:=(by unfold DefI.ch;rw[W];rfl);refine#[λz=>(by rw[U]at z;cases z),λz=>(by rw[U]at z;cases z),λ_=>?_];exact q20 lk zE b.sc (λds ns hl=>by rw[J ds ns hl];dsimp only;rw[W,if_pos rfl]) λz A outer s H E I g=>
     (AW vw 60).Ss _ _ (E8 (T.of z) g.mod (ih _ (T.of z)) b I) Cy _ _ cs
   |false=>
    have U:d.ch=Qf:=(by unfold DefI.ch;rw[W,hA];rfl);have body:∀(A:Around)(outer:List JM)(s:Shared)(H:Hp)(E:XK),Room (3*n+2) (A.deeper (U2 d.name (wC d.st) s.heap.objs.size f zC))->Env0 P w K mg base A outer s H->je (kR (zk P w) P w K mg base d.N d.name (wC d.st) f zC A outer s H E) p (Gk t n) t.sub (xC d.st) d.l:=λA outer s H E I g=>
     (AW vw 60).Ss _ _ (E8 T g.mod (ih p T) b I) Cy _ _ cs
    have new:d.nw=Qb->FnOk P w K mg base (zk P w) (3*(n+1)) f (Jj d.yq d.name (X4 d.st) (xC d.st) (wC d.st) .none kV doc pm an zC ct) d.ps (Xg p (Gk t (n+1)) j d.ps.length):=λhw=>
     q21 lk zE b.sc (λds ns hl=>by rw[J ds ns hl];dsimp only;rw[W,if_neg Qq,hw,if_pos rfl]) body
    refine#[λ_=>?_,λ_=>new,λz=>(by rw[U]at z;cases z)];cases hw:d.nw with
    |true=>exact q1x (new hw) λvs H Q E h=>q99 h
    |false=>exact q1y lk zE b.sc (λds ns hl=>by rw[J ds ns hl];dsimp only;rw[W,if_neg Qq,hw,if_neg Qq]) body
def q4N{l:Wq}{fa:Addr}{d:DefI}(vw:SSet)(T:TxtOk K t p)(Z:K.In h)(g:h.Ns mainGlobals mg)(z:t.ds[j]?=Qa d)(U:d.wg=Qf)(W:d.ch=Qf)(b:d.ps=[x])(k:mg d.name=Qa (.ref fa))(n:Nat):
  ∃fd:FuncData,(∀(s:Shared)(u:Value),BindsTo s fd #[[u],[]] [(x,u)])/\∀base:Heap,K.In base->base.Ns mainGlobals mg->FnOk l.prog w K mg base (zk l.prog w) (3*n) fa fd [x] (wK p (Gk t n) j 1):=by
 refine xo (T.def_ j d z) λI f fd a F=>?_;rw[U,if_neg Qq]at a;cases(k.symm.trans (mg_of Z g a));refine#[fd,λs u=>?_,λbase kb nb=>?_]
 .obtain⟨oc,od,kV,doc,pm,an,zC,ct,kg,J,lk,zE⟩:=F.ex;subst J;have:=I.bd kV doc pm an zC ct [u] (by rw[b];rfl);rw[b]at this;exact .of_eq this
 .have:=(q71 (P:=l.prog) (w:=w) (mg:=mg) (base:=base) vw n p T j d fa fd z F).1 W;rw[b]at this;exact this
def rj(K:QC):Sp:=λvs H Q _=>∃(a:Addr)(ns:List Int),vs=[.ref a]/\zM K H a (ns.map V.int)/\ns.length<=63/\∀H',Q (.bl Qb) H'
theorem pR{H:Hp}:∀ns:List Int,qK p H (ns.map D.int) (ns.map V.int)
 |[]=>rfl
 |n::ns=>#[.int n,ns.map V.int,rfl,rfl,pR ns]
def q9A(k:p.K=K)(I:∀ns:List Int,ns.length<=63->G j [.qA (ns.map D.int)]=.ok (.bl Qb))(vs:List V)(H:Hp)(Q:VK)(E:XK)(h:rj K vs H Q E):wK p G j 1 vs H Q E:=by
 refine zN h λa ns J F hl z=>?_;subst J;have e:=I ns hl;refine#[[.qA (ns.map D.int)],[],rfl,YO,λb hb=>absurd hb (by simp),#[.ref a,[],rfl,#[a,ns.map V.int,rfl,by rw[q28,k];exact F,pR ns],rfl],by rw[e];simp,λr v H' g _ q=>?_,λc C H' ex g _ _=>?_]
 .rw[e]at g;cases g;cases q;exact z H'
 .rw[e]at g;cases g
def q17{e:Value}(h:zk P w [] H s (λ_ _ _=>False) e s'):False:=by obtain⟨_,_,_,_,_,_,z,_⟩:=h;exact z
end
def walk{l:Wq}{q:Program}{loose:List Str}{XP:(Str->Option Value)->Heap->Prop}{YP:World->Heap->Prop}{d:DefRec}{K:Params->QC}(n:Nat)(I:l.most=Qa 63)(b:d.params.defaults=[])(J:Room (3*n) Wg)
  (k:∀(w:World)(h:Heap),YP w h->(K w.params).In h)
  (F:∀(w:World)(mg:Str->Option Value)(fa:Addr)(h:Heap),(K w.params).In h->h.Ns mainGlobals mg->mg d.name=Qa (.ref fa)->
   ∃fd:FuncData,(∀(s:Shared)(u:Value),BindsTo s fd #[[u],[]] [(x,u)])/\∀base:Heap,(K w.params).In base->base.Ns mainGlobals mg->FnOk l.prog w (K w.params) mg base (zk l.prog w) (3*n) fa fd [x] (rj (K w.params))):
  PySem.W.WalkO q loose XP YP l.row.toRowW d [] (λf vs=>PySem.call f vs):=
 L2.qAJ I (by decide) b J k F (λ_ _ a ns hl _ g=>#[a,ns,rfl,g,hl,λ_=>rfl]) λ_ _ _ _ _ z=>q17 z
end Snd
set_option maxHeartbeats 400000
namespace SetT
open PySem PySem.SetTable
variable{l As:List Nat}{i j m N:Nat}{t:SetTable}{α:Type}{h:Int}{hs:List Int}{owner:Array (Option Nat)}
noncomputable def A1(m:Nat):SetTable:={(default:SetTable)with mask:=m}
def startM(m:Nat)(h:Int):Probe:=(A1 m).probeStart h
def x8(m:Nat)(p:Probe):Probe:=(A1 m).advance p
noncomputable def path(m:Nat)(h:Int):Nat->Probe
 |0=>startM m h
 |n+1=>x8 m (path m h n)
noncomputable def lp(m:Nat)(h:Int):Nat->Nat×Nat
 |0=>(bits h %(m+1),bits h)
 |k+1=>leap m (lp m h k).1 (lp m h k).2
noncomputable def cc(m:Nat)(h:Int):Nat->Nat
 |0=>0
 |k+1=>cc m h k+(runEnd m (lp m h k).1-(lp m h k).1)+1
def q7h(m i:Nat):runEnd m i-i<=9:=by unfold runEnd;split<;>lia
def AI(m i:Nat):i<=runEnd m i:=by unfold runEnd;split<;>lia
def pb(m i:Nat)(h:i<=m):runEnd m i<=m:=by unfold runEnd;split<;>lia
theorem dI(m:Nat)(h:Int):∀k,cc m h k<=10*k
 |0=>Qt _
 |k+1=>by have:=dI m h k;have:=q7h m (lp m h k).1;simp only[cc];lia
def at_(m:Nat)(h:Int)(k r:Nat):Probe:={j:=(lp m h k).1+r,more:=runEnd m (lp m h k).1-(lp m h k).1-r,i:=(lp m h k).1,perturb:=(lp m h k).2,dummy:=Qc}
theorem CC(m:Nat)(h:Int)(k:Nat)(a:path m h (cc m h k)=at_ m h k 0):∀r,r<=runEnd m (lp m h k).1-(lp m h k).1->path m h (cc m h k+r)=at_ m h k r
 |0,_=>a
 |r+1,hr=>by show x8 m (path m h (cc m h k+r))=_;rw[(CC m h k a r ∅)];unfold x8 UT at_;simp;rw[if_pos ∅];rfl
theorem CB(m:Nat)(h:Int):∀k,path m h (cc m h k)=at_ m h k 0
 |0=>rfl
 |k+1=>by have a:=CC m h k (CB m h k) (runEnd m (lp m h k).1-(lp m h k).1) (Qt _);show x8 m (path m h (cc m h k+(runEnd m (lp m h k).1-(lp m h k).1)))=_;rw[a];unfold x8 UT at_;simp only[A1];rw[if_neg ∅];rfl
def q0O(h:Int):bits h<2^64:=by
 unfold bits;have a:0<=h %(2^64:Int):=Int.emod_nonneg _ (by decide);have b:h %(2^64:Int)<2^64:=Int.emod_lt_of_pos _ (by decide);have:((2:Int)^64).toNat=2^64:=by decide
 lia
theorem oq(m:Nat)(h:Int):∀k,(lp m h k).2=bits h/32^k
 |0=>by simp[lp]
 |k+1=>by show(lp m h k).2/32=_;rw[oq m h k,Nat.div_div_eq_div_mul,Vs]
def q6j(m:Nat)(h:Int)(k:Nat)(a:13<=k):(lp m h k).2=0:=by
 rw[oq];refine Nat.div_eq_of_lt (Qz (q0O h) ?_)
 calc 2^64<=32^13:=by decide
  _<=32^k:=Q1 (by decide) a
theorem mT(m:Nat)(h:Int):∀k,(lp m h k).1<=m
 |0=>by have:=Y7 (bits h) (show m+1>0 by lia);show bits h %(m+1)<=m;lia
 |k+1=>by have:=Y7 ((lp m h k).1*5+1+(lp m h k).2/32) (show m+1>0 by lia);show((lp m h k).1*5+1+(lp m h k).2/32) %(m+1)<=m;lia
noncomputable def vb(m i:Nat):Nat:=(i*5+1) %(m+1)
noncomputable def its(m:Nat):Nat->Nat->Nat
 |0,i=>i
 |d+1,i=>its m d (vb m i)
theorem DQ(m:Nat):∀a b i,its m (a+b) i=its m b (its m a i)
 |0,b,i=>by rw[Vr];rfl
 |a+1,b,i=>by rw[Nat.succ_add];exact DQ m a b (vb m i)
theorem mS(m:Nat)(h:Int)(k:Nat)(a:13<=k):∀d,(lp m h (k+d)).1=its m d (lp m h k).1
 |0=>rfl
 |d+1=>by rw[DQ m d 1,<-mS m h k a d];show(leap m (lp m h (k+d)).1 (lp m h (k+d)).2).1=vb m _;rw[q6j m h (k+d) ∅];rfl
def vI(m:Nat):Prop:=m=7\/m=31\/m=127
noncomputable def CA(m:Nat):Nat->Nat->List Nat
 |0,_=>[]
 |n+1,i=>i::CA m n (vb m i)
theorem SY(m:Nat):∀n i e,e∈CA m n i->∃d,d<n/\its m d i=e
 |0,_,_,h=>nomatch h
 |n+1,i,e,h=>by
  rcases Ql.mp h with rfl|h
  .exact#[0,∅,rfl]
  .refine qH (SY m n _ e h) λd hd q=>?_;exact#[d+1,∅,q]
def q18(m:Nat)(g:vI m):its m (m+1) 0=0/\∀e,e<=m->e∈CA m (m+1) 0:=by
 have key:∀m,its m (m+1) 0=0->(Qu (m+1)).all (λe=>(CA m (m+1) 0).contains e)=Qb->its m (m+1) 0=0/\∀e,e<=m->e∈CA m (m+1) 0:=λm a b=>
  #[a,λe c=>by have:=QL.mp b e (QN.mpr ∅);exact List.contains_iff_mem.mp this]
 rcases g with rfl|rfl|rfl
 .exact key 7 (by decide+kernel) (by decide+kernel)
 .exact key 31 (by decide+kernel) (by decide+kernel)
 .exact key 127 (by decide+kernel) (by decide+kernel)
def cyc(m:Nat)(g:vI m)(i e:Nat)(hi:i<=m)(n:e<=m):∃d,d<=m/\its m d i=e:=by
 obtain⟨k,hc⟩:=q18 m g;obtain⟨a,o,c⟩:=SY m _ _ _ (hc i hi);obtain⟨b,hb,f⟩:=SY m _ _ _ (hc e n)
 by_cases p:a<=b
 .refine#[b-a,∅,?_];rw[<-c,<-DQ,show a+(b-a)=b by lia,f]
 .refine#[b+(m+1)-a,∅,?_];rw[<-c,<-DQ,show a+(b+(m+1)-a)=(m+1)+b by lia,DQ,k,f]
def ng(m:Nat)(g:vI m)(h:Int)(e:Nat)(a:e<=m):∃k,k<=m+13/\(lp m h k).1=e:=by refine qH (cyc m g (lp m h 13).1 e (mT m h 13) a) λd hd q=>?_;exact#[13+d,∅,by rw[mS m h 13 ∅];exact q]
def met(m:Nat)(g:vI m)(h:Int)(e:Nat)(a:e<=m):∃n,n<=10*(m+13)/\(path m h n).j=e:=by refine qH (ng m g h e a) λk b q=>?_;refine#[cc m h k,Qw (dI m h k) ∅,?_];rw[CB];show(lp m h k).1+0=e;lia
theorem aN(m:Nat)(h:Int):∀n,(path m h n).dummy=Qc
 |0=>rfl
 |n+1=>by show(x8 m (path m h n)).dummy=Qc;unfold x8 UT;split<;>exact aN m h n
theorem A8(m:Nat)(h:Int):∀n,(path m h n).j+(path m h n).more<=m/\(path m h n).i<=m
 |0=>by have a:=mT m h 0;have b:=pb m _ a;have c:=AI m (lp m h 0).1;show(lp m h 0).1+(runEnd m (lp m h 0).1-(lp m h 0).1)<=m/\(lp m h 0).1<=m;lia
 |n+1=>by
  have d:=A8 m h n;show(x8 m (path m h n)).j+(x8 m (path m h n)).more<=m/\(x8 m (path m h n)).i<=m;unfold x8 UT;split
  .simp only;lia
  .have a:(leap m (path m h n).i (path m h n).perturb).1<=m:=by have:=Y7 ((path m h n).i*5+1+(path m h n).perturb/32) (show m+1>0 by lia);show((path m h n).i*5+1+(path m h n).perturb/32) %(m+1)<=m;lia
   have b:=pb m _ a;have c:=AI m (leap m (path m h n).i (path m h n).perturb).1;simp only[A1];lia
def vJ(l:List Nat):Prop:=l.Pairwise (·<·)
def q2m(l:List Nat)(i d:Nat)(h:i<l.length):l.toArray.getD i d=l[i]:=by simp[WZ,h]
def vJ.lt{k:Nat}(r:vJ l)(h:i<k)(a:k<l.length):l[i]'∅<l[k]:=Yd.mp r i k ∅ a h
theorem IQ(l:List Nat)(r:vJ l)(j:Nat):∀(a lo hi:Nat),hi-lo<2^a->lo<=hi->hi<=l.length->(∀i,i<lo->(h:i<l.length)->l[i]<j)->(∀i,hi<=i->(h:i<l.length)->j<=l[i])->
  below.go l.toArray j a lo hi<=l.length/\(∀i,i<below.go l.toArray j a lo hi->(h:i<l.length)->l[i]<j)/\(∀i,below.go l.toArray j a lo hi<=i->(h:i<l.length)->j<=l[i])
 |0,lo,hi,hf,hlh,hh,h1,h2=>by
  have e:lo=hi:=by simp at hf;lia
  subst e;exact#[hh,h1,h2]
 |a+1,lo,hi,hf,hlh,hh,h1,h2=>by
  unfold below.go
  by_cases c:lo<hi
  .rw[if_pos c];simp only;have b:(lo+hi)/2<l.length:=∅;rw[q2m l _ _ b];have g:2^(a+1)=2*2^a:=by rw[Vs];lia
   by_cases d:l[(lo+hi)/2]<j
   .rw[if_pos d];refine IQ l r j a _ hi ∅ ∅ hh (λi f hl=>?_) h2
    by_cases e:i=(lo+hi)/2
    .subst e;exact d
    .exact Wo (r.lt ∅ b) d
   .rw[if_neg d];refine IQ l r j a lo _ ∅ ∅ ∅ h1 (λi f hl=>?_)
    by_cases e:i=(lo+hi)/2
    .subst e;lia
    .have:=r.lt (show(lo+hi)/2<i by lia) hl;lia
  .rw[if_neg c];have e:lo=hi:=∅;subst e;exact#[hh,h1,h2]
theorem sT:∀n:Nat,n<2^n
 |0=>by decide
 |n+1=>by have:=sT n;rw[Vs];lia
def Xs(l:List Nat)(r:vJ l)(j:Nat):below l.toArray j<=l.length/\(∀i,i<below l.toArray j->(h:i<l.length)->l[i]<j)/\(∀i,below l.toArray j<=i->(h:i<l.length)->j<=l[i]):=by
 unfold below;have e:l.toArray.size=l.length:=by simp
 rw[e];exact IQ l r j l.length 0 l.length (by have:=sT l.length;lia) ∅ (Qt _) (λi h _=>by lia) (λi a b=>by lia)
def Pf(g:t.place=l.toArray)(r:vJ l)(h:l[i]?=Qa j):t.slot j=.live i:=by
 obtain⟨k,a,b⟩:=Xs l r j;obtain⟨hi,e⟩:=Qn.mp h;have f:below l.toArray j=i:=by
  by_cases c:below l.toArray j<i
  .have:=b _ (Qt _) ∅;have:=r.lt c hi;lia
  .by_cases d:i<below l.toArray j
   .have:=a i d hi;lia
   .lia
 unfold slot;simp only[g,f];rw[if_pos (by simp[h])]
def rQ(a:t.place=l.toArray)(hd:t.dummies=#[]) (h:j∉l):t.slot j=.empty:=by
 unfold slot;simp only[a];rw[if_neg (λq=>h ?_)]
 .rw[hd,if_neg];unfold has;intro q;simp at q
 .have b:l.toArray[below l.toArray j]?=Qa j:=by simpa using q
  have:l[below l.toArray j]?=Qa j:=by simpa using b
  exact Qp this
def OW(l:List α)(p:Nat)(x:α)(_hp:p<=l.length):insertAt l.toArray p x=(l.take p++x::l.drop p).toArray:=by unfold insertAt;apply U5.mp;simp;exact Yx (by simp)
abbrev Ent:=Nat×Int×Value
noncomputable def slots(Z:List Ent):List Nat:=Z.map (·.1)
structure WF(t:SetTable)(Z:List Ent):Prop where
 place:t.place=(slots Z).toArray
 yQ:vJ (slots Z)
 EF:t.dummies=#[]
 good:vI t.mask
 le:∀z∈Z,z.1<=t.mask
 kL:Z.length<=t.mask
 way:∀z∈Z,∃n,(path t.mask z.2.1 n).j=z.1/\∀k,k<n->(path t.mask z.2.1 k).j∈slots Z
theorem mC:∀{a b:List Nat},a.Nodup->(∀x∈a,x∈b)->a.length<=b.length
 |[],_,_,_=>QU _
 |x::a,b,nd,h=>by
  have c:=h x Qg;have f:=QP.mp nd;have:=mC f.2 λy d=>by have g:y≠x:=λq=>f.1 (q▸d);exact(Z4 g).mpr (h y (Qd _ d))
  have e:=Y0 c;have k:=JY c;simp only[QH];lia
def rW(l:List Nat)(m:Nat)(h:l.length<=m):∃e,e<=m/\e∉l:=by
 apply QZ;intro q;have:=mC (a:=Qu (m+1)) (b:=l) U9 λx d=>by apply QZ;intro c;exact q #[x,by have:=QN.mp d;lia,c]
 rw[Jc]at this;lia
def least{P:Nat->Prop}[DecidablePred P]:∀n,P n->∃m,m<=n/\P m/\∀k,k<m->¬P k:=by
 intro n
 induction n using WU with
 |ind n e=>
  intro h
  by_cases c:∃k,k<n/\P k
  .obtain⟨k,a,p⟩:=c;refine qd (e k a p) λm f b d=>?_;exact#[m,∅,b,d]
  .exact#[n,Qt _,h,λk a p=>c #[k,a,p]]
def Xj(m:Nat)(h:Int)(l:List Nat)(N:Nat):Prop:=(path m h N).j∉l/\∀k,k<N->(path m h k).j∈l
def gB(g:vI m)(h:Int)(l:List Nat)(hl:l.length<=m):∃N,N<=10*(m+13)/\Xj m h l N:=by refine qH (rW l m hl) λe d o=>?_;refine qH (met m g h e d) λn p a=>?_;obtain⟨N,r,b,c⟩:=least (P:=λn=>(path m h n).j∉l) n (by rw[a];exact o);exact#[N,∅,b,λk f=>QZ λq=>c k f q]
def Aw(m:Nat)(h:Int)(Z:List Ent)(k:Nat):Prop:=∃z∈Z,z.1=(path m h k).j/\z.2.1=h
theorem p5{t:SetTable}{Z:List Ent}(b:WF t Z){h:Int}{hash:Nat->Int}(w:∀i z,Z[i]?=Qa z->hash i=z.2.1){N:Nat}(p:Xj t.mask h (slots Z) N):
  ∀g n,n<=N->N-n<g->
   (∃k i z,n<=k/\k<N/\Z[i]?=Qa z/\z.1=(path t.mask h k).j/\z.2.1=h/\(∀a,n<=a->a<k->¬Aw t.mask h Z a)/\probe.go t hash h g (path t.mask h n)=Qa (.candidate (path t.mask h k).j i (path t.mask h (k+1))))\/
   ((∀a,n<=a->a<N->¬Aw t.mask h Z a)/\probe.go t hash h g (path t.mask h n)=Qa (.empty (path t.mask h N).j Qc))
 |0,n,_,hf=>by lia
 |g+1,n,hn,hf=>by
  by_cases e:n=N
  .subst e;refine .inr #[λa r f=>by lia,?_];unfold probe.go;rw[rQ b.place b.EF p.1];simp only[aN]
  .have hl:=p.2 n ∅;obtain⟨i,hi,K⟩:=Jv hl;have hs:(slots Z)[i]?=Qa (path t.mask h n).j:=(by rw[Qy hi,K]);have d:∃z,Z[i]?=Qa z/\z.1=(path t.mask h n).j:=by
    unfold slots at hs;rw[QB]at hs;cases q:Z[i]?with
    |none=>rw[q]at hs;exact nS hs
    |some z=>rw[q]at hs;exact#[z,rfl,QV hs]
   refine qH d λz d L=>?_;unfold probe.go;rw[Pf b.place b.yQ hs];simp only[w i z d]
   by_cases c:z.2.1=h
   .refine .inl #[n,i,z,Qt _,∅,d,L,c,λa r f=>by lia,?_];rw[if_pos (by simpa using c)];rfl
   .rw[if_neg (by simpa using c)];have A:¬Aw t.mask h Z n:=by
     rintro⟨y,M,I,J⟩;obtain⟨x,u,s⟩:=Jv M;have C:(slots Z)[x]?=Qa (path t.mask h n).j:=by unfold slots;rw[QB,Qy u,s];exact congrArg Qa I
     have:x=i:=by have B:=Pf b.place b.yQ C;rw[Pf b.place b.yQ hs]at B;cases B;rfl
     subst this;rw[Qy u,s]at d;cases d;exact c J
    rcases p5 b w p g (n+1) ∅ ∅with⟨k,O,P,v,o,D,E,F,G,H⟩|⟨v,o⟩
    .refine .inl #[k,O,P,∅,o,D,E,F,λa r f=>?_,H]
     by_cases q:a=n
     .subst q;exact A
     .exact G a ∅ f
    .refine .inr #[λa r f=>?_,o]
     by_cases q:a=n
     .subst q;exact A
     .exact v a ∅ f
def q0u(g:WF t Z)(b:Xj t.mask h (slots Z) N)(f:z∈Z)(e:z.2.1=h):∃k,k<N/\z.1=(path t.mask h k).j:=by
 refine qH (g.way z f) λn a d=>?_;rw[e]at a d;refine#[n,?_,a.symm];apply QZ;intro q
 by_cases c:n=N
 .subst c;exact b.1 (by rw[a];exact List.mem_map_of_mem f)
 .exact b.1 (d N ∅)
noncomputable def v9(Z:List Ent)(p:Nat)(z:Ent):List Ent:=Z.take p++z::Z.drop p
def SX:y∈v9 Z p z↔y=z\/y∈Z:=by
 unfold v9;rw[QF,Ql];have:(y∈Z)↔(y∈Z.take p\/y∈Z.drop p):=by rw[<-QF,YG]
 rw[this];constructor
 .rintro (h|h|h)
  .exact .inr (.inl h)
  .exact .inl h
  .exact .inr (.inr h)
 .rintro (h|h|h)
  .exact .inr (.inl h)
  .exact .inl h
  .exact .inr (.inr h)
def OS(Z:List Ent)(p:Nat)(z:Ent):(v9 Z p z).Perm (z::Z):=by unfold v9;refine Uk.trans ?_;rw[YG]
def P0{a:Type}(f:Ent->a)(Z:List Ent)(p:Nat)(z:Ent):(v9 Z p z).map f=(Z.map f).take p++f z::(Z.map f).drop p:=by unfold v9;rw[Ux,QK,VX,Zr]
def q7U(r:vJ l)(k:j∉l):vJ (l.take (below l.toArray j)++j::l.drop (below l.toArray j)):=by
 obtain⟨n,f,g⟩:=Xs l r j;unfold vJ;rw[Z6,QT];have d:∀a∈l.take (below l.toArray j),a<j:=λa c=>by obtain⟨i,hi,e⟩:=Jv c;rw[List.getElem_take]at e;rw[J3]at hi;rw[<-e];exact f i ∅ ∅
 have hd:∀a∈l.drop (below l.toArray j),j<a:=λa c=>by obtain⟨i,hi,e⟩:=Jv c;rw[List.getElem_drop]at e;rw[Ww]at hi;have:=g (below l.toArray j+i) ∅ ∅;rw[e]at this;have o:j≠a:=λq=>k (q▸List.mem_of_mem_drop c);lia
 refine#[UR (Wd _ _) r,#[hd,UR (List.drop_sublist _ _) r],λa c b hb=>?_];rcases Ql.mp hb with rfl|hb
 .exact d a c
 .exact Wo (d a c) (hd b hb)
def WF.insert(b:WF t Z)(f:Xj t.mask h (slots Z) N)(kL:Z.length<t.mask)(pl:Bool):
  WF {(t.put (path t.mask h N).j).1 with plain:=pl} (v9 Z (t.put (path t.mask h N).j).2 ((path t.mask h N).j,h,x)):=by
 have ep:(t.put (path t.mask h N).j).2=below (slots Z).toArray (path t.mask h N).j:=by show below t.place _=_;rw[b.place]
 refine#[?_,?_,?_,b.good,λz c=>?_,?_,λz c=>?_]
 .show insertAt t.place (below t.place (path t.mask h N).j) (path t.mask h N).j=_;rw[ep,b.place,OW _ _ _ ((Xs (slots Z) b.yQ (path t.mask h N).j).1)];unfold slots;rw[P0]
 .rw[ep];unfold slots;rw[P0];exact q7U b.yQ f.1
 .show (if has t.dummies _ then _ else t.dummies)=#[];rw[b.EF];split
  .rename_i q;unfold has at q;simp at q
  .rfl
 .rcases SX.mp c with rfl|c
  .have:=A8 t.mask h N;show(path t.mask h N).j<=t.mask;lia
  .exact b.le z c
 .rw[(OS _ _ _).length_eq,QH];exact kL
 .have sub:∀a,a∈slots Z->a∈slots (v9 Z (t.put (path t.mask h N).j).2 ((path t.mask h N).j,h,x)):=λa p=>by refine qH (Qv.mp p) λy r e=>?_;exact Qv.mpr #[y,SX.mpr (.inr r),e]
  rcases SX.mp c with rfl|c
  .exact#[N,rfl,λk d=>sub _ (f.2 k d)]
  .refine qH (b.way z c) λn g o=>?_;exact#[n,g,λk d=>sub _ (o k d)]
def Xl(owner:Array (Option Nat))(j:Nat):Prop:=(owner.getD j (Qa 0)).isNone=Qf
theorem gM(m:Nat)(h:Int)(owner:Array (Option Nat)):∀b k0,(∃K,k0<=K/\K<k0+b/\¬Xl owner (lp m h K).1)->(∀n,n<cc m h k0->Xl owner (path m h n).j)->
  ∃n,layClean.free m owner b (lp m h k0).1 (lp m h k0).2=Qa (path m h n).j/\¬Xl owner (path m h n).j/\∀k,k<n->Xl owner (path m h k).j
 |0,k0,⟨K,h1,h2,_⟩,_=>by lia
 |b+1,k0,⟨K,h1,h2,h3⟩,ho=>by
  unfold layClean.free;cases q:(Qu (runEnd m (lp m h k0).1+1-(lp m h k0).1)).find? (λk=>(owner.getD ((lp m h k0).1+k) (Qa 0)).isNone)with
  |some r=>
   have s:=List.find?_some q;have B:=QN.mp (Zj q);have f:=AI m (lp m h k0).1;have p:=CC m h k0 (CB m h k0) r ∅;refine#[cc m h k0+r,by rw[p];rfl,?_,λk A=>?_]
   .rw[p];show¬(owner.getD ((lp m h k0).1+r) (Qa 0)).isNone=Qf;rw[s];simp
   .by_cases c:k<cc m h k0
    .exact ho k c
    .obtain⟨a,rfl⟩:∃a,k=cc m h k0+a:=#[k-cc m h k0,∅]
     rw[CC m h k0 (CB m h k0) a ∅];show(owner.getD ((lp m h k0).1+a) (Qa 0)).isNone=Qf;have C:a<r:=∅;rw[List.find?_eq_some_iff_append]at q;refine xo q λ_ as bs e x=>?_;have u:a∈as:=by
      have d:(Qu (runEnd m (lp m h k0).1+1-(lp m h k0).1))[a]?=Qa a:=(by rw[JT ∅]);have v:(Qu (runEnd m (lp m h k0).1+1-(lp m h k0).1))[r]?=Qa r:=(by rw[JT ∅]);rw[e]at d v;have hl:as.length=r:=by have o:(as++r::bs)[as.length]?=Qa r:=(by simp);have g:as.length<(Qu (runEnd m (lp m h k0).1+1-(lp m h k0).1)).length:=(by rw[e];simp);rw[<-e,JT (by simpa using g)]at o;exact QV o
      rw[Q2 ∅]at d;exact Qp d
     have:=x a u;simpa using this
  |none=>
   have f:=AI m (lp m h k0).1;have run:∀r,r<=runEnd m (lp m h k0).1-(lp m h k0).1->Xl owner ((lp m h k0).1+r):=λr s=>by have:=(List.find?_eq_none.mp q) r (QN.mpr ∅);exact UZ.mpr this
   have w:k0+1<=K:=by apply QZ;intro z;have:K=k0:=∅;subst this;exact h3 (by have:=run 0 ∅;simpa using this)
   refine gM m h owner b (k0+1) #[K,w,∅,h3] λn y=>?_
   by_cases c:n<cc m h k0
   .exact ho n c
   .have e:cc m h (k0+1)=cc m h k0+(runEnd m (lp m h k0).1-(lp m h k0).1)+1:=rfl;obtain⟨a,rfl⟩:∃a,n=cc m h k0+a:=#[n-cc m h k0,∅]
    rw[CC m h k0 (CB m h k0) a ∅];exact run a ∅
structure Laid(m:Nat)(hs:List Int)(owner:Array (Option Nat))(As:List Nat):Prop where
 size:owner.size=m+1
 len:As.length=hs.length
 nd:As.Nodup
 own:∀(j q:Nat),owner[j]?=Qa (Qa q)↔As[q]?=Qa j
 way:∀(q:Nat)(h:Int)(j:Nat),hs[q]?=Qa h->As[q]?=Qa j->∃n,(path m h n).j=j/\∀k,k<n->(path m h k).j∈As
def Laid.le(L:Laid m hs owner As)(a:j∈As):j<=m:=by obtain⟨q,b⟩:=VE a;have:=(L.own j q).mpr b;have:=(WV.mp this).1;rw[L.size]at this;lia
def Laid.aF(L:Laid m hs owner As)(c:j<=m):Xl owner j↔j∈As:=by
 have a:j<owner.size:=by rw[L.size];lia
 have e:owner.getD j (Qa 0)=owner[j]:=by simp[WZ,a]
 unfold Xl;rw[e];constructor
 .intro h;cases q:owner[j]with
  |none=>rw[q]at h;cases h
  |some k=>exact Qp ((L.own j k).mp (by rw[YU a,q]))
 .intro h;obtain⟨q,b⟩:=VE h;have:=(L.own j q).mpr b;rw[YU a]at this;rw[QV this];rfl
def q4J(m:Nat):Laid m [] (Array.replicate (m+1) Qc) []:=by
 refine#[by simp,rfl,YO,λj q=>?_,λq h j e=>by simp at e];constructor
 .intro e;rw[Array.getElem?_replicate]at e;split at e<;>simp at e
 .intro e;simp at e
def q4K(g:vI m)(L:Laid m hs owner As)(h:Int)(kL:hs.length<=m):
  ∃j,layClean.free m owner (turns m) (bits h %(m+1)) (bits h)=Qa j/\Laid m (hs++[h]) (owner.setIfInBounds j (Qa hs.length)) (As++[j]):=by
 obtain⟨e,u,s⟩:=rW As m (by rw[L.len];exact kL);refine qH (ng m g h e u) λK I x=>?_;obtain⟨n,A,B,C⟩:=gM m h owner (turns m) 0 #[K,QU _,by unfold turns;lia,by rw[x,L.aF u];exact s] (λn s=>by simp[cc]at s);have D:(path m h n).j<=m:=by have:=A8 m h n;lia
 have v:(path m h n).j∉As:=λz=>B ((L.aF D).mpr z);refine#[(path m h n).j,A,by simp[L.size],by simp[L.len],?_,λj q=>?_,λq h' j o f=>?_]
 .rw[QS];refine#[L.nd,by simp,λa p b hb=>?_];have:b=(path m h n).j:=by simpa using hb
  subst this;exactλz=>v (z▸p)
 .by_cases c:j=(path m h n).j
  .subst c;rw[Array.getElem?_setIfInBounds_self_of_lt (by rw[L.size];lia)];constructor
   .intro z;have:hs.length=q:=(by simpa using z);subst this;rw[Jp (by rw[L.len];exact Qt _),L.len];simp
   .intro z
    by_cases d:q<As.length
    .rw[Q2 d]at z;exact absurd (Qp z) v
    .rw[Jp ∅]at z;have:q-As.length=0:=by apply QZ;intro y;rw[J6 (by simp;lia)]at z;exact nS z
     have:=L.len;have:q=hs.length:=∅;subst this;rfl
  .rw[Array.getElem?_setIfInBounds_ne (JK c),L.own];constructor
   .intro z;rw[Q2 (Qn.mp z).1];exact z
   .intro z
    by_cases d:q<As.length
    .rw[Q2 d]at z;exact z
    .rw[Jp ∅]at z;have:j∈[(path m h n).j]:=Qp z;exact absurd (by simpa using this) c
 .have hl:=L.len;have w:∀a,a∈As->a∈As++[(path m h n).j]:=λa p=>QR _ p
  by_cases d:q<As.length
  .rw[Q2 ∅]at o;rw[Q2 d]at f;refine qH (L.way q h' j o f) λF G H=>?_;exact#[F,G,λk r=>w _ (H k r)]
  .have E:q=As.length:=by have:=(Qn.mp f).1;simp at this;lia
   subst E;rw[Jp ∅]at o f;simp[hl]at o f;subst o f;exact#[n,rfl,λk r=>w _ ((L.aF (by have:=A8 m h k;lia)).mp (C k r))]
theorem ll{m:Nat}(g:vI m):∀(rest hs:List Int)(owner:Array (Option Nat))(As:List Nat),Laid m hs owner As->hs.length+rest.length<=m->
  ∃a b,rest.foldl (λ(acc:Option (Array (Option Nat)×Nat)) h=>do
    let(owner,k) <-acc
    let j <-layClean.free m owner (turns m) (bits h %(m+1)) (bits h)
    pure (owner.setIfInBounds j (Qa k),k+1)) (Qa (owner,hs.length))=Qa (a,hs.length+rest.length)/\Laid m (hs++rest) a b
 |[],hs,owner,As,L,_=>#[owner,As,rfl,by rw[Ja];exact L]
 |h::rest,hs,owner,As,L,hl=>by simp at hl;refine qH (q4K g L h ∅) λj e d=>?_;have:=ll g rest (hs++[h]) _ _ d (by simp;lia);refine ja this λa b c L2=>?_;refine#[a,b,?_,by simpa using L2];rw[Ye];simp only[Jd,Vt]at c;simp only[bind,Option.bind,e,pure,QH];rw[show hs.length+(rest.length+1)=hs.length+1+rest.length by lia];exact c
def lx(g:vI m)(hs:List Int)(hl:hs.length<=m):∃owner As,layClean m hs.toArray=Qa owner/\Laid m hs owner As:=by refine ja (ll g hs [] _ _ (q4J m) (by simpa using hl)) λowner As e L=>?_;refine#[owner,As,?_,by simpa using L];unfold layClean;rw[List.foldl_toArray];simp only[JF,Vr]at e;rw[e];rfl
noncomputable def vy(m:Nat)(owner:Array (Option Nat)):List (Nat×Nat):=(Qu (m+1)).filterMap λj=>(owner.getD j Qc).map (j,·)
def XW{q:Nat}(L:Laid m hs owner As):(j,q)∈vy m owner↔As[q]?=Qa j:=by
 unfold vy;rw[Y4];constructor
 .rintro⟨b,f,a⟩;have d:b<owner.size:=by rw[L.size];exact QN.mp f
  have e:owner.getD b Qc=owner[b]:=by simp[WZ,d]
  rw[e]at a;cases c:owner[b]with
  |none=>rw[c]at a;exact nS a
  |some g=>
   rw[c]at a;have:(b,g)=(j,q):=(by simpa using a);cases this;exact(L.own j q).mp (by rw[YU d,c])
 .intro h;have k:=L.le (Qp h);have d:j<owner.size:=by rw[L.size];lia
  refine#[j,QN.mpr ∅,?_];have e:owner.getD j Qc=owner[j]:=by simp[WZ,d]
  have:=(L.own j q).mpr h;rw[YU d]at this;rw[e,QV this];rfl
def mK(m:Nat)(owner:Array (Option Nat)):vJ ((vy m owner).map (·.1)):=by unfold vJ vy;rw[JO];refine List.Pairwise.filterMap _ (λa e d b hb f c=>?_) JE;obtain⟨q,_,rfl⟩:=JS.mp hb;obtain⟨g,_,rfl⟩:=JS.mp c;exact d
def mL(L:Laid m hs owner As):((vy m owner).map (·.2)).Perm (Qu hs.length):=by
 have nd:((vy m owner).map (·.2)).Nodup:=by have r:=mK m owner;unfold vJ at r;rw[JO]at r;unfold List.Nodup;rw[JO];refine Uw (λ{a b} f hb c=>?_) r;intro e;obtain⟨j,q⟩:=a;obtain⟨k,g⟩:=b;simp only at e c;subst e;have d:=(XW L).mp hb;rw[((XW L).mp f)]at d;have:=QV d;lia
 rw[UI nd U9];intro q;rw[Qv,QN];constructor
 .rintro⟨⟨j,g⟩,h,rfl⟩;have:=(Qn.mp ((XW L).mp h)).1;rw[L.len]at this;exact this
 .intro h;have c:q<As.length:=by rw[L.len];exact h
  exact#[(As[q],q),(XW L).mpr (Qy c),rfl]
theorem gA{α c:Type}{f g:α->Option c}:∀{l:List α},(∀a∈l,f a=g a)->l.filterMap f=l.filterMap g
 |[],_=>rfl
 |a::l,h=>by rw[Jg,Jg,h a Qg,gA λb hb=>h b (Qd _ hb)]
def q4n(es:List α)(d:α):(Qu es.length).map (λq=>es.getD q d)=es:=by
 apply List.ext_getElem
 .simp
 .intro i a b;simp at a|-;rw[Qy a];rfl
def pL(t:SetTable)(es:List (Int×Value))(a:Nat)(g:vI (sizeAbove a-1))(kL:es.length<=sizeAbove a-1):
  ∃t' v b,t.relaid (es.toArray.map (·.1)) a=Qa (t',v)/\WF t' b/\v.filterMap (es.toArray[·]?)=(b.map (·.2)).toArray/\(b.map (·.2)).Perm es/\
   t'.mask=sizeAbove a-1/\t'.led=t.led/\t'.plain=t.plain:=by
 obtain⟨owner,As,e,L⟩:=lx g (es.map (·.1)) (by rw[Qm];exact kL);have hl:(es.map (·.1)).length=es.length:=Qm _
 let d:Int×Value:=(0,Jt)
 let b:List Ent:=(vy (sizeAbove a-1) owner).map λp=>(p.1,es.getD p.2 d)
 have u:∀p∈vy (sizeAbove a-1) owner,p.2<es.length:=λp c=>by have:=(Qn.mp ((XW L).mp c)).1;rw[L.len,hl]at this;exact this
 have s:slots b=(vy (sizeAbove a-1) owner).map (·.1):=by show((vy (sizeAbove a-1) owner).map λp=>(p.1,es.getD p.2 d)).map (·.1)=_;rw[JD];rfl
 have w:b.map (·.2)=((vy (sizeAbove a-1) owner).map (·.2)).map (λq=>es.getD q d):=by show((vy (sizeAbove a-1) owner).map λp=>(p.1,es.getD p.2 d)).map (·.2)=_;rw[JD,JD];rfl
 have y:(b.map (·.2)).Perm es:=by rw[w];refine((mL L).map _).trans ?_;rw[hl,q4n]
 have F:b.length=es.length:=by have:=y.length_eq;rwa [Qm]at this
 refine#[{mask:=sizeAbove a-1,place:=((vy (sizeAbove a-1) owner).map (·.1)).toArray,dummies:=#[],finger:=t.finger,led:=t.led,moves:=t.movedTo (sizeAbove a-1),plain:=t.plain},
  ((vy (sizeAbove a-1) owner).map (·.2)).toArray,b,?_,?_,?_,y,?_,?_,?_]
 .show laid (sizeAbove a-1) t.finger (t.movedTo (sizeAbove a-1)) t.led t.plain (es.toArray.map (·.1))=_;unfold laid;rw[show es.toArray.map (·.1)=(es.map (·.1)).toArray by simp,e];rfl
 .refine#[?_,?_,rfl,g,λz r=>?_,by rw[F];exact kL,λz r=>?_]
  .rw[s]
  .rw[s];exact mK _ _
  .refine qH (Qv.mp r) λp c f=>?_;subst f;exact L.le (Qp ((XW L).mp c))
  .refine qH (Qv.mp r) λp c f=>?_;subst f;have o:=u p c;have B:(es.map (·.1))[p.2]?=Qa (es.getD p.2 d).1:=by rw[QB,Qy o];simp[JN,o]
   refine qH (L.way p.2 _ p.1 B ((XW L).mp (show(p.1,p.2)∈_ from c))) λn D E=>?_;refine#[n,D,λk C=>?_];rw[s];obtain⟨q,A⟩:=VE (E k C);exact Qv.mpr #[(_,q),(XW L).mpr A,rfl]
 .rw[w];apply U5.mp;simp only[Array.toList_filterMap];show List.filterMap (λx=>es.toArray[x]?) ((vy (sizeAbove a-1) owner).map (·.2))=_;refine(gA (g:=Qa∘λq=>es.getD q d) λq o=>?_).trans (by rw[List.filterMap_eq_map]);refine qH (Qv.mp o) λp c f=>?_;subst f;have:=u p c;simp[JN,this]
 .rfl
 .rfl
 .rfl
theorem WF.size(a:WF t Z):t.place.size=Z.length:=by rw[a.place];simp[slots]
theorem WF.fill(a:WF t Z):t.fill=Z.length:=by unfold SetTable.fill;rw[a.size,a.EF];rfl
end SetT
namespace Snd
open PySem PySem.Spec PySem.W PyProof.Rows L2 Ev SetT
variable{h h' h₀:Heap}{a l:Addr}{Z:List Ent}{t t':SetTable}{ep i n:Nat}{prog:Program}{w:World}{A:Around}{E:NZ}{s:Shared}{ds xs:List D}{x u:Value}{d:D}{α:Type}{M:D->Value->Prop}{c:Prop}{Q:Bool->Shared->Prop}{P:List ((Int×Value)×D)}{led:Bool}{us:List Value}{wr:List Addr}{pins:List (Addr×Obj)}{Y:L2.St}{H:Hp}{v:V}
def Ck(h:Heap)(Z:List Ent)(ds:List D):Prop:=Z.length=ds.length/\∀(i:Nat)(z:Ent)(d:D),Z[i]?=Qa z->ds[i]?=Qa d->Dv h d z.2.2/\hv d=z.2.1/\qV 8 d=Qb/\qJ d=Qb
structure SetIn(h:Heap)(a:Addr)(Z:List Ent)(t:SetTable)(ep:Nat):Prop where
 obj:∃o,h.get? a=Qa o/\o.ExactSet/\o.data=.set (Z.map (·.2)).toArray ep t
 wf:WF t Z
 plain:t.plain=Qb
theorem SetIn.fits(S:SetIn h a Z t ep):t.fits (Z.map (·.2)).toArray.size=Qb:=by unfold WM;rw[S.wf.size,S.wf.fill];have:=S.wf.kL;simp[this]
def Ck.at(e:Ck h Z ds){z:Ent}(f:Z[i]?=Qa z):∃d,ds[i]?=Qa d/\Dv h d z.2.2/\hv d=z.2.1/\qV 8 d=Qb/\qJ d=Qb:=by
 have b:i<ds.length:=by rw[<-e.1];exact((Qn.mp f).1)
 exact#[ds[i],by simp[b],e.2 i z ds[i] f (by simp[b])]
def xZ{Q:(Array (Int×Value)×Nat×SetTable)->Shared->Prop}(S:SetIn s.heap a Z t ep)(h:Q ((Z.map (·.2)).toArray,ep,t) s):wpAny (model prog w) A (setState a) Q E s:=by refine qd S.obj λo b _ hd=>?_;exact wpAny_setState_of b hd S.fits h
def q2i(wf:WF t Z):t.gaveWay=Qf:=by unfold SetTable.gaveWay;rcases wf.good with h|h|h<;>rw[h]<;>rfl
def if2{M:ZL}[Decidable c]{a b:Sem α}{Q:α->Shared->Prop}(e:c->wpAny M A a Q E s)(f:¬c->wpAny M A b Q E s):wpAny M A (if c then a else b) Q E s:=by
 by_cases k:c
 .rw[if_pos k];exact e k
 .rw[if_neg k];exact f k
def q8Z{stored:List Value}(o:qV 8 d=Qb)(k:qJ d=Qb)(g:Dv s.heap d x)(hs:∀y∈stored,∃e,Dv s.heap e y/\qV 8 e=Qb/\qJ e=Qb)(h:Q Qf s):wpAny (model prog w) A (searchCouldBeSeen x stored) Q E s:=by
 unfold searchCouldBeSeen;refine Qe ?_;refine UB _ (λrest r f=>r.1=Qc/\f=s/\∀y∈rest,∃e,Dv s.heap e y/\qV 8 e=Qb/\qJ e=Qb) _ ?_ ?_ _ _ #[rfl,rfl,hs]
 .rintro v rest r f ⟨b,rfl,q⟩;refine qd (q v Qg) λe z m j=>?_;have p:=λu B=>q u (Qd _ B);refine if2 (λ_=>Qi #[rfl,rfl,p]) λ_=>?_
  .refine Qe (ag 8 8 (Qt _) o k g ?_);simp;refine Qe (ag 8 8 (Qt _) m j z ?_);simp;refine Qe (oK 8 8 (Qt _) o k g ?_);simp;refine Qe (oK 8 8 (Qt _) m j z ?_);simp;exact Qi #[rfl,rfl,p]
 .rintro⟨C,F⟩ f ⟨b,rfl,_⟩;simp only at b;subst b;exact Qi h
def if3{M:ZL}[Decidable c]{m:Sem Bool}{a b:Sem α}{Q:α->Shared->Prop}(f:∀e:Bool->Shared->Prop,e Qf s->wpAny M A m e E s)(h:wpAny M A b Q E s):wpAny M A (if c then m>>=λz=>if z=Qb then a else b else b) Q E s:=
 if2 (λ_=>Qe (f _ (by simp;exact h))) λ_=>h
def IE(ds:List D):Prop:=∀d∈ds,∃l,d=.qE l
theorem rC(S:SetIn s.heap a Z t ep)(m:Ck s.heap Z ds)(tu:IE ds)(px:qV 8 d=Qb)(B:qJ d=Qb)(J:Dv s.heap d x)(hu:A.units+8<cLine){N:Nat}(T:Xj t.mask (hv d) (slots Z) N){Q:SetFound->Shared->Prop}
  (hy:d∈ds->Q (.there Qc) s) (hq:d∉ds->Q (.free (path t.mask (hv d) N).j Qf) s) (hN:N<=10*(t.mask+13)):
  ∀(F n:Nat)(st:Option SetTable.Probe),st.getD (t.probeStart (hv d))=path t.mask (hv d) n->n<=N->N-n<F->(∀k,k<n->∀(i:Nat)(z:Ent),Z[i]?=Qa z->ds[i]?=Qa d->z.1=(path t.mask (hv d) k).j->False)->
   wpAny (model prog w) A (setSearchFrom a x (hv d) Qb F st) Q E s
 |0,n,_,_,_,hf,_=>by lia
 |F+1,n,st,qe,hn,hf,yh=>by
  unfold setSearchFrom;refine Qe (xZ S ?_);dsimp only;rw[q2i S.wf,qe];simp only[Yw,if_false];have hh:∀(i:Nat)(z:Ent),Z[i]?=Qa z->(((Z.map (·.2)).toArray[i]?.map (·.1)).getD 0)=z.2.1:=λi z o=>by simp[o]
  generalize hg:SetTable.probe t _ (hv d) (path t.mask (hv d) n)=g;rcases p5 S.wf hh T (10*Vk t.mask) n hn (by unfold Vk;lia)with⟨k,i,z,h1,h2,h3,h4,h5,h6,h7⟩|⟨h1,h2⟩
  .have L:=hg.symm.trans h7;subst L;dsimp only;refine xr (m.at h3) λe R e2 e3 e4 e5=>?_;have XB:(Z.map (·.2)).toArray[i]?=Qa z.2:=(by simp[h3]);refine if3 (λQ' OB=>q8Z px B J (λy XJ=>?_) OB) ?_
   .simp only[Qv]at XJ;refine qH XJ λy' W p=>?_;subst p;have U:y'∈(Z.map (·.2)).toArray:=(Array.mem_filter.mp (Array.mem_def.mpr W)).1;have TN:y'∈Z.map (·.2):=(by simpa using U);refine qH (Qv.mp TN) λp X p=>?_;subst p;obtain⟨C,XC,EG⟩:=Jv X;refine xr (m.at (i:=C) (z:=p) (by rw[Qy XC,EG])) λf _ f2 f3 f4 f5=>?_;exact#[f,f2,f4,f5]
   rw[XB];dsimp only;refine Qe (Jm (xE 8 (A:=A) e4 px e2 J hu prog w E _ ?_));refine Qe (xZ S ?_)
   by_cases c:e=d
   .subst c;rw[(k9 e5 B).mpr rfl];exact Qi (hy (Qp R))
   .have ne:qM e d=Qf:=by
     cases q:qM e d with
     |false=>rfl
     |true=>exact absurd ((k9 e5 B).mp q) c
    rw[ne];dsimp only;rw[if_neg (by decide)];have sm:t.sameMemory t.moves t.mask=Qa Qb:=(by unfold SetTable.sameMemory;simp);rw[sm];have sl:=Pf S.wf.place S.wf.yQ (by unfold slots;rw[QB,h3];exact congrArg Qa h4);dsimp only;rw[if_pos rfl,sl];dsimp only;rw[XB];dsimp only;obtain⟨l,rfl⟩:=tu e (Qp R);refine qN e2 λb us eb x1 x2=>?_;rw[eb];refine Qe (wpAny_isSame_ref_self (Qe (Qi ?_)));rw[if_pos rfl];dsimp only;rw[if_neg (by decide)];refine rC S m tu px B J hu T hy hq hN F (k+1) _ rfl ∅ ∅ λG Eo C z' r I K=>?_;have o:=m.2 C z' d r I
    by_cases c1:G<n
    .exact yh G c1 C z' r I K
    .by_cases c2:G=k
     .subst c2;have q1:=Pf S.wf.place S.wf.yQ (by unfold slots;rw[QB,r];exact congrArg Qa K);rw[sl]at q1;cases q1;rw[R]at I;exact c (QV I)
     .exact h6 G ∅ ∅ #[z',Qp r,K,o.2.1.symm]
  .have L:=hg.symm.trans h2;subst L;dsimp only;refine Qi (hq λU=>?_);obtain⟨i,hi,ei⟩:=Jv U;have O:i<Z.length:=(by rw[m.1];exact hi);have wc:ds[i]?=Qa d:=(by rw[Qy hi,ei]);have iQ:Z[i]?=Qa Z[i]:=(by simp[O]);have o:=m.2 i Z[i] d iQ wc;obtain⟨k,k1,k2⟩:=q0u S.wf T (Jz O) o.2.1.symm
   by_cases c:k<n
   .exact yh k c i _ iQ wc k2
   .exact h1 k ∅ k1 #[_,Jz O,k2,o.2.1.symm]
def Rl(h:Heap)(e:Int×Value)(d:D):Prop:=Dv h d e.2/\hv d=e.1/\qV 8 d=Qb/\qJ d=Qb
def uz(h:Heap)(P:List ((Int×Value)×D)):Prop:=∀p∈P,Rl h p.1 p.2
def uz.ents(q:uz h P)(e:P.map (·.1)=Z.map (·.2)):Ck h Z (P.map (·.2)):=by
 refine#[by simp[(by have:=congrArg Yu e;simpa using this)],λi z d k hd=>?_];rw[QB]at hd;cases b:P[i]?with
 |none=>rw[b]at hd;exact nS hd
 |some p=>
  rw[b]at hd;have g:p.2=d:=QV hd;have f:(P.map (·.1))[i]?=Qa p.1:=by rw[QB,b];rfl
  rw[e,QB,k]at f;have j:z.2=p.1:=QV f;have:=q p (Qp b);rw[<-j,g]at this;exact this
def aO{k:Type}(f:α->k){l m:List k}(p:l.Perm m):∀P:List α,P.map f=m->∃b:List α,b.Perm P/\b.map f=l:=by
 induction p with
 |nil=>exactλP e=>#[P,.refl _,e]
 |cons x _ B=>
  intro P e;cases P with
  |nil=>cases e
  |cons y P=>
   simp at e;obtain⟨b,g,j⟩:=B P e.2;exact#[y::b,g.cons y,by rw[QK,e.1,j]]
 |swap x y l=>
  intro P e
  match P,e with
  |u::v::P,e=>
   simp at e;exact#[v::u::P,.swap _ _ _,by simp[e.1,e.2.1,e.2.2]]
 |trans _ _ C F=>
  intro P e;obtain⟨o,g,r⟩:=F P e;obtain⟨q,j,z⟩:=C o r;exact#[q,j.trans g,z]
structure SetD(M:D->Value->Prop)(h₀ h:Heap)(a:Addr)(ds:List D)(led:Bool):Prop where
 ex:∃Z t ep P,SetIn h a Z t ep/\uz h₀ P/\P.map (·.1)=Z.map (·.2)/\(P.map (·.2)).Perm ds/\t.tooFull=Qf/\t.led=led/\∀p∈P,M p.2 p.1.2
 kp:∀b o,h₀.get? b=Qa o->h.get? b=Qa o
 nw:h₀.get? a=Qc
def uz.keep(q:uz h P)(k:∀b o,h.get? b=Qa o->h'.get? b=Qa o):uz h' P:=λp e=>let⟨r1,r2⟩:=q p e;#[(Fg k).1 _ _ r1,r2]
def GD(kp:∀b o,h₀.get? b=Qa o->h.get? b=Qa o)(nw:h₀.get? a=Qc)(k:JI a h h'):∀b o,h₀.get? b=Qa o->h'.get? b=Qa o:=λb o e=>by rw[k.2 b (λc=>by subst c;rw[nw]at e;exact nS e)];exact kp b o e
def pM{m:Nat}(g:vI m)(b:n*5≥m*3)(e:(n-1)*5<m*3)(f:n<=64):vI (QY (Q9 n)-1)/\n<=QY (Q9 n)-1/\n*5<(QY (Q9 n)-1)*3:=by
 rcases g with g|g|g
 .have:n=5:=∅
  subst this;unfold vI;decide
 .have:n=19:=∅
  subst this;unfold vI;decide
 .lia
def Ab{b:List Ent}{Q:Unit->Shared->Prop}(S:SetIn s.heap a Z t ep)(wf:WF t' b)(pl:t'.plain=Qb)(hl:b.length<=64)
  (h:∀h',JI a s.heap h'->SetIn h' a b t' (ep+1)->Q () {s with heap:=h'}):wpAny (model prog w) A (storeSet a (b.map (·.2)).toArray t') Q E s:=by
 refine qd S.obj λo e g hd=>?_;have f:(s.heap.update a (Obj.putSet (b.map (·.2)).toArray t')).get? a=Qa {o with data:=.set (b.map (·.2)).toArray (ep+1) t'}:=by have:=Uj (Obj.putSet (b.map (·.2)).toArray t') e (by rw[putSet_of _ t' hd];rfl);rw[putSet_of _ t' hd]at this;exact this
 refine wpAny_storeSet_of e hd (h _ (JJ s.heap a _) #[#[_,f,g,rfl],wf,pl]) ?_;rw[Q6];simp;lia
def q7N{Q:Unit->Shared->Prop}(S:SetIn s.heap a Z t ep)(m:n=Z.length)(g:vI (QY (Q9 n)-1))(kL:n<=QY (Q9 n)-1)(hl:n<=64)
  (h:∀h' b t',JI a s.heap h'->SetIn h' a b t' (ep+1)->(b.map (·.2)).Perm (Z.map (·.2))->t'.mask=QY (Q9 n)-1->t'.led=t.led->Q () {s with heap:=h'}):wpAny (model prog w) A (setRelay a (Q9 n)) Q E s:=by
 obtain⟨t',e,b,p,q,r,f,y,z,B⟩:=pL t (Z.map (·.2)) (Q9 n) g (by rw[Qm,<-m];exact kL);unfold setRelay;refine Qe (xZ S ?_);dsimp only;have hs:¬(QY (Q9 n)>QD):=by rw[Q6];rcases g with g|g|g<;>lia
 rw[if_neg hs];refine Qe ?_;rw[p];have o:b.length=Z.length:=by have:=f.length_eq;simpa using this
 change wpAny _ _ (if((e.filterMap ((Z.map (·.2)).toArray[·]?)).size !=(Z.map (·.2)).toArray.size)=Qb then(unsupported "internal:set-table-lost-an-element">>=λ_=>pure (e.filterMap ((Z.map (·.2)).toArray[·]?),t'))else pure (e.filterMap ((Z.map (·.2)).toArray[·]?),t')) _ _ _;rw[r,if_neg (by simp[o])];exact Qi (Ab S q (by rw[B];exact S.plain) ∅ λh' k j=>h h' b t' k j f y z)
def pC(t:SetTable)(j:Nat)(h:t.plain=Qb):({(t.put j).1 with plain:=Qb}:SetTable)=(t.put j).1:=by obtain⟨a,b,c,e,f,g,p⟩:=t;cases h;rfl
def tK(S:SetD M h₀ s.heap a ds led)(tu:IE (d::ds))(G:qV 8 d=Qb)(B:qJ d=Qb)(J:Dv h₀ d x)(mx:M d x)(hu:A.units+8<cLine)(hl:ds.length<64)
  (hy:d∈ds->Q Qf s) (U:d∉ds->∀h',JI a s.heap h'->SetD M h₀ h' a (d::ds) led->Q Qb {s with heap:=h'}):wpAny (model prog w) A (W0 a x (hv d)) Q E s:=by
 obtain⟨⟨Z,t,ep,P,S,pr,y,m,tf,le,mm⟩,kp,nw⟩:=S;have q:=(Fg kp).1 _ _ J;have qX:Z.length=ds.length:=by have h1:=congrArg Yu y;have z:=m.length_eq;simp at h1 z;lia
 have bI:Z.length*5<t.mask*3:=by have:=tf;unfold YJ at this;rw[S.wf.fill]at this;simpa using this
 obtain⟨N,n1,W⟩:=gB S.wf.good (hv d) (slots Z) (by have:=S.wf.kL;simpa[slots]using this);have o:t.mask<=127:=by rcases S.wf.good with h|h|h<;>lia
 obtain⟨l,rfl⟩:=tu d Qg;unfold W0 setAddHashedIn;refine Jm (Qe (xZ S ?_));dsimp only;have bs:byScan x (Z.map (·.2)).toArray=Qf:=by refine ja q λb us zz _=>?_;subst zz;rfl
 rw[bs];simp;unfold setSearch;refine Qe (rC S ((pr.keep kp).ents y) (λe he=>tu e (Qd _ (m.mem_iff.mp he))) G B q hu W (λo=>?_) (λo=>?_) n1 100000 0 Qc rfl (QU _) ∅ (λk hk=>by lia))
 .exact Qi (hy (m.mem_iff.mp o))
 .dsimp only;refine Qe (xZ S ?_);rw[show(t.put (path t.mask (hv (.qE l)) N).j).1.plain=Qb from S.plain];rw[if_pos rfl];refine Qe (q0l 8 8 (Qt _) G B q ?_);rw[if_pos rfl];generalize hz:(path t.mask (hv (.qE l)) N).j=j;have wf:=S.wf.insert (x:=x) W (by have:=S.wf.good;rcases this with h|h|h<;>lia) Qb;rw[pC _ _ S.plain]at wf;rw[hz]at wf;have hp:(t.put j).2<=Z.length:=by have:=(Xs (slots Z) S.wf.yQ j).1;show WC t.place j<=_;rw[S.wf.place];simpa[slots]using this
  have ei:Z0 (Z.map (·.2)).toArray (t.put j).2 (hv (.qE l),x)=((v9 Z (t.put j).2 (j,hv (.qE l),x)).map (·.2)).toArray:=by rw[OW _ _ _ (by simpa using hp),P0]
  have r:(v9 Z (t.put j).2 (j,hv (.qE l),x)).length=Z.length+1:=by have:=(OS Z (t.put j).2 (j,hv (.qE l),x)).length_eq;simpa using this
  rw[ei]
  let f:List ((Int×Value)×D):=P.take (t.put j).2++((hv (.qE l),x),.qE l)::P.drop (t.put j).2
  have F:f.Perm (((hv (.qE l),x),.qE l)::P):=by refine Uk.trans (.cons _ ?_);rw[YG]
  have q1:f.map (·.1)=(v9 Z (t.put j).2 (j,hv (.qE l),x)).map (·.2):=by rw[P0,<-y];simp[f,VX,Zr]
  have q2:=YV (F.map (λp=>p.2)) (YV (by rw[QK]) (m.cons (D.qE l)));have I:uz h₀ f:=λp g=>by
   rcases Ql.mp (F.mem_iff.mp g)with h|h
   .subst h;exact#[J,rfl,G,B]
   .exact pr p h
  have L:∀p∈f,M p.2 p.1.2:=λp g=>by
   rcases Ql.mp (F.mem_iff.mp g)with h|h
   .subst h;exact mx
   .exact mm p h
  have yh:D.qE l∉ds:=λh=>o (m.mem_iff.mpr h);refine Qe (Ab S wf S.plain ∅ λh' k O=>?_);have K:=GD kp nw k;have hf:(t.put j).1.tooFull=decide ((Z.length+1)*5≥t.mask*3):=by unfold YJ;rw[wf.fill,r];rfl
  by_cases c:(Z.length+1)*5≥t.mask*3
  .rw[if_pos (by rw[hf];simpa using c)];have hsz:(Z.map (·.2)).toArray.size+1=Z.length+1:=(by simp);refine vN (pM S.wf.good c (by simpa using bI) ∅) λg1 g2 g3=>?_;rw[hsz];refine Qe (q7N O r.symm g1 g2 ∅ λz T t2 k2 R X m2 l2=>?_);refine qH (aO (·.1) X f q1) λP2 C o2=>?_;refine Qi (U yh z (k.trans k2) #[#[T,t2,_,P2,R,λp g=>I p (C.mem_iff.mp g),o2,YV (C.map (λp=>p.2)) q2,?_,?_,λp g=>L p (C.mem_iff.mp g)],GD K nw k2,nw])
   .unfold YJ;rw[R.wf.fill,m2];have DN:T.length=Z.length+1:=(by have:=X.length_eq;simp[r]at this;lia);rw[DN];simpa using g3
   .rw[l2];exact le
  .rw[if_neg (by rw[hf];simpa using c)];exact Qi (U yh h' k #[#[_,_,_,f,O,I,q1,q2,by rw[hf];simpa using c,le,L],K,nw])
theorem p6{t:SetTable}{Z:List Ent}(wf:WF t Z){h:Int}{hash:Nat->Int}(g:∀i,(hash i==h)=Qf){N:Nat}(f:Xj t.mask h (slots Z) N):
  ∀b n,n<=N->N-n<b->Vl t hash h b (path t.mask h n)=Qa (.empty (path t.mask h N).j Qc)
 |0,n,_,hf=>by lia
 |b+1,n,hn,hf=>by
  by_cases e:n=N
  .subst e;unfold Vl;rw[rQ wf.place wf.EF f.1];simp only[aN]
  .have hl:=f.2 n ∅;obtain⟨i,hi,k⟩:=Jv hl;have hs:(slots Z)[i]?=Qa (path t.mask h n).j:=(by rw[Qy hi,k]);unfold Vl;rw[Pf wf.place wf.yQ hs];simp only[g i,Yw,if_false];exact p6 wf g f b (n+1) ∅ ∅
def q22(wf:WF t Z){h:Int}{N:Nat}(b:Xj t.mask h (slots Z) N)(e:N<=10*(t.mask+13)):t.freeSlot h=Qa ((path t.mask h N).j,Qf):=by unfold SetTable.freeSlot;have:=p6 wf (h:=h) (hash:=λ_=>h+1) (λi=>by simp;lia) b (10*Vk t.mask) 0 (QU _) (by unfold Vk;lia);rw[show t.probe (λ_=>h+1) h (t.probeStart h)=_ from this];rfl
def q7L(t:SetTable)(es:List (Int×Value))(b:Nat)(g:vI (QY b-1))(kL:es.length<=QY b-1)
  (h:t.relaid (es.toArray.map (·.1)) b=Qa (t',yO)):yO.toList.Perm (Qu es.length):=by
 obtain⟨owner,As,e,L⟩:=lx g (es.map (·.1)) (by rw[Qm];exact kL);have f:SetTable.laid (QY b-1) t.finger (t.movedTo (QY b-1)) t.led t.plain (es.toArray.map (·.1))=Qa (t',yO):=h;unfold SetTable.laid at f;rw[show es.toArray.map (·.1)=(es.map (·.1)).toArray by simp,e]at f;have j:yO=((vy (QY b-1) owner).map (·.2)).toArray:=(congrArg (·.2) (QV f)).symm;rw[j];have:=mL L;rw[Qm]at this;exact this
def q7M(o:n=Z.length)(g:vI (QY (Q9 n)-1))(kL:n<=QY (Q9 n)-1):
  ∃b t',relayAll t (Z.map (·.2)).toArray (Q9 n)=((b.map (·.2)).toArray,t',Qf)/\WF t' b/\(b.map (·.2)).Perm (Z.map (·.2))/\t'.mask=QY (Q9 n)-1/\t'.led=t.led/\t'.plain=t.plain:=by
 have f:(Z.map (·.2)).length<=QY (Q9 n)-1:=by rw[Qm,<-o];exact kL
 refine uR (pL t (Z.map (·.2)) (Q9 n) g f) λt' B b j e p q r y z=>?_;refine#[b,t',?_,e,q,r,y,z];unfold relayAll;rw[j];dsimp only;rw[p];have k:coversAll B (Z.map (·.2)).toArray.size=Qb:=by unfold coversAll;rw[List.isPerm_iff];simpa using(q7L t (Z.map (·.2)) (Q9 n) g f j)
 have m:t'.fits (b.map (·.2)).toArray.size=Qb:=by unfold WM;rw[e.size,e.fill];have:=e.kL;simp[this]
 rw[k,m];rfl
def ba(ds:List D):Prop:=∀d∈ds,∃i,d=.int i
section
variable{n:Int}
def gT{M:ZL}{Q:Unit->Shared->Prop}(h:Q () s):wpAny M A (match Qf with|true=>rule "set.scan.the-table-gave-way"|false=>pure ()) Q E s:=Qi h
def add_int(S:SetD M h₀ s.heap a ds led)(tu:ba ds)(Cj:Dv h₀ (.int n) x)(mx:M (.int n) x)(hl:ds.length<64)
  (hy:.int n∈ds->Q Qf s) (hq:.int n∉ds->∀h',JI a s.heap h'->SetD M h₀ h' a (.int n::ds) led->Q Qb {s with heap:=h'}):wpAny (model prog w) A (W0 a x (hv (.int n))) Q E s:=by
 obtain⟨⟨Z,t,ep,P,S,L,y,r,tf,le,mm⟩,kp,nw⟩:=S;have px:qV 8 (.int n)=Qb:=rfl;have hx:qJ (.int n)=Qb:=rfl;have qX:Z.length=ds.length:=by have h1:=congrArg Yu y;have B:=r.length_eq;simp at h1 B;lia
 have bI:Z.length*5<t.mask*3:=by have:=tf;unfold YJ at this;rw[S.wf.fill]at this;simpa using this
 obtain⟨N,n1,n2⟩:=gB S.wf.good (hv (.int n)) (slots Z) (by have:=S.wf.kL;simpa[slots]using this);have gO:=q22 S.wf n2 n1;obtain⟨tk,rfl⟩:=Cj;have X:ElemsOf (VH prog w) (Z.map (·.2)):=λe he=>by refine qH (Qv.mp he) λz I zz=>?_;subst zz;obtain⟨i,hi,F⟩:=Jv I;refine xr (((L.keep kp).ents y).at (i:=i) (z:=z) (by rw[Qy hi,F])) λd d1 d2 d3 d4 d5=>?_;obtain⟨m,rfl⟩:=tu d (r.mem_iff.mp (Qp d1));obtain⟨O,d6⟩:=d2;rw[d6];exact#[#[m,by simp[VH,Vz],d3.symm],rfl]
 have hV:∀p∈P,(VH prog w).is n p.1.2=Qb↔p.2=.int n:=λp b=>by obtain⟨m,em⟩:=tu p.2 (r.mem_iff.mp (Qv.mpr #[p,b,rfl]));have:=((L.keep kp) p b).1;rw[em]at this;obtain⟨O,q⟩:=this;rw[q,em];simp[VH,Vz]
 unfold W0 setAddHashedIn;refine qd S.obj λo ho gy hd=>?_;refine Jm (Qe (xZ S ?_));dsimp only;rw[byScan_of (knd:=VH prog w) rfl (by show(Z.map (·.2)).toArray.size<4096;simp;lia) (by simpa using X)];rw[if_pos rfl];unfold setAddByScan;refine Qe (Qe (ZS ?_));refine Qe (wpAny_setScan_of (knd:=VH prog w) (k:=n) (by simp[VH,Vz]) ho hd S.fits (by simpa using X) ?_);cases hr:List.findIdx? (λe=>(VH prog w).is n e.2) (Z.map (·.2)).toArray.toList with
 |some j=>
  dsimp only;refine qH (List.findIdx?_eq_some_iff_getElem.mp hr) λhj iD _=>?_;refine Qi (Qi (hy ?_));obtain⟨p,b,R⟩:=Qv.mp (by rw[y];exact Jz hj);rw[<-R]at iD;exact r.mem_iff.mp (Qv.mpr #[p,b,(hV p b).mp iD])
 |none=>
  dsimp only;have yh:D.int n∉ds:=λh=>by
   obtain⟨p,b,R⟩:=Qv.mp (r.mem_iff.mpr h);have B:p.1∈(Z.map (·.2)).toArray.toList:=by have:p.1∈P.map (λp=>p.1):=Qv.mpr #[p,b,rfl];rw[y]at this;exact this
   have:=List.findIdx?_eq_none_iff.mp hr _ B;rw[((hV p b).mpr R)]at this;cases this
  generalize I:(path t.mask (hv (.int n)) N).j=j at gO;have wf:=S.wf.insert (x:=.int n tk) n2 (by have:=S.wf.good;rcases this with h|h|h<;>lia) Qb;rw[pC _ _ S.plain]at wf;rw[I]at wf;have b:(t.put j).2<=Z.length:=by have:=(Xs (slots Z) S.wf.yQ j).1;show WC t.place j<=_;rw[S.wf.place];simpa[slots]using this
  have F:Z0 (Z.map (·.2)).toArray (t.put j).2 (hv (.int n),.int n tk)=((v9 Z (t.put j).2 (j,hv (.int n),.int n tk)).map (·.2)).toArray:=by rw[OW _ _ _ (by simpa using b),P0]
  have C:(v9 Z (t.put j).2 (j,hv (.int n),.int n tk)).length=Z.length+1:=by have:=(OS Z (t.put j).2 (j,hv (.int n),.int n tk)).length_eq;simpa using this
  have G:(t.put j).1.fits ((v9 Z (t.put j).2 (j,hv (.int n),.int n tk)).map (·.2)).toArray.size=Qb:=by unfold WM;rw[wf.size,wf.fill];have:=wf.kL;simp[this]
  have hL:layNew t (Z.map (·.2)).toArray (hv (.int n)) (.int n tk)=(((v9 Z (t.put j).2 (j,hv (.int n),.int n tk)).map (·.2)).toArray,(t.put j).1,Qf,Qf):=by unfold layNew;rw[gO];dsimp only;rw[F];unfold SetTable.orStandIn;rw[G];rfl
  let f:List ((Int×Value)×D):=P.take (t.put j).2++((hv (.int n),.int n tk),.int n)::P.drop (t.put j).2
  have K:f.Perm (((hv (.int n),.int n tk),.int n)::P):=by refine Uk.trans (.cons _ ?_);rw[YG]
  have q1:f.map (·.1)=(v9 Z (t.put j).2 (j,hv (.int n),.int n tk)).map (·.2):=by rw[P0,<-y];simp[f,VX,Zr]
  have q2:(f.map (·.2)).Perm (.int n::ds):=YV (K.map (λp=>p.2)) (YV (by rw[QK]) (r.cons (D.int n)));have T:uz h₀ f:=λp g=>by
   rcases Ql.mp (K.mem_iff.mp g)with h|h
   .subst h;exact#[#[tk,rfl],rfl,px,hx]
   .exact L p h
  have W:∀p∈f,M p.2 p.1.2:=λp g=>by
   rcases Ql.mp (K.mem_iff.mp g)with h|h
   .subst h;exact mx
   .exact mm p h
  rw[hL];dsimp only;refine Qe (gT ?_);rw[show(t.put j).1.plain=Qb from S.plain];rw[if_pos rfl,hashByValue_scannable 8 (x:=.int n tk) rfl];refine Qe (Qi ?_);rw[if_pos (show plainKind (.int n tk)=Qb from rfl)];refine Qe (Ab S wf S.plain ∅ λh' k S'=>?_);have U:=GD kp nw k;have hf:(t.put j).1.tooFull=decide ((Z.length+1)*5≥t.mask*3):=by unfold YJ;rw[wf.fill,C];rfl
  by_cases c:(Z.length+1)*5≥t.mask*3
  .rw[if_pos (by rw[hf];simpa using c)];refine vN (pM S.wf.good c (by simpa using bI) ∅) λg1 g2 g3=>?_;have hsz:((v9 Z (t.put j).2 (j,hv (.int n),.int n tk)).map (·.2)).toArray.size=Z.length+1:=(by simp[C]);rw[hsz];refine RQ (q7M (Z:=v9 Z (t.put j).2 (j,hv (.int n),.int n tk)) (t:=(t.put j).1) C.symm g1 g2) λZ2 t2 y1 y2 y3 y4 zr=>?_;obtain⟨y5,y6⟩:=zr;rw[y1];dsimp only;have DN:Z2.length=Z.length+1:=(by have:=y3.length_eq;simp[C]at this;lia);refine Qe (gT ?_);refine Qe (Ab S' y2 (by rw[y6];exact S.plain) ∅ λB k2 S2=>?_);refine qH (aO (·.1) y3 f q1) λP2 J o2=>?_;refine Qi (Qi (hq yh B (k.trans k2) #[#[Z2,t2,_,P2,S2,λp g=>T p (J.mem_iff.mp g),o2,YV (J.map (λp=>p.2)) q2,?_,?_,λp g=>W p (J.mem_iff.mp g)],GD U nw k2,nw]))
   .unfold YJ;rw[S2.wf.fill,y4,DN];simpa using g3
   .rw[y5];exact le
  .rw[if_neg (by rw[hf];simpa using c)];exact Qi (Qi (hq yh h' k #[#[_,_,_,f,S',T,q1,q2,by rw[hf];simpa using c,le,W],U,nw]))
end
def RC(xs:List D):Prop:=IE xs\/ba xs
def tI(S:SetD M h₀ s.heap a ds led)(b:RC (d::ds))(q:qV 8 d=Qb)(m:qJ d=Qb)(f:Dv h₀ d x)(p:M d x)(hu:A.units+10<cLine)(hl:ds.length<64)
  (o:d∈ds->∀tk,Q Qf {s with toks:=tk}) (j:d∉ds->∀h' tk,JI a s.heap h'->SetD M h₀ h' a (d::ds) led->Q Qb {s with heap:=h',toks:=tk}):wpAny (model prog w) A (setAdd a x) Q E s:=by
 unfold setAdd;refine Jm (Qe (q72 8 q m ((Fg S.kp).1 _ _ f) ∅ λtk=>?_));rcases b with b|b
 .exact tK (s:={s with toks:=tk}) S b q m f p ∅ hl (λh=>o h tk) λh h' k g=>j h h' tk k g
 .obtain⟨n,rfl⟩:=b d Qg;exact add_int (s:={s with toks:=tk}) S (λe r=>b e (Qd _ r)) f p hl (λh=>o h tk) λh h' k g=>j h h' tk k g
def SetD.move(S:SetD M h₀ h a ds led)(f:a∉wr)(hw:∀b∈wr,h₀.get? b=Qc)(k:∀b o,b∉wr->h.get? b=Qa o->h'.get? b=Qa o):SetD M h₀ h' a ds led:=by obtain⟨⟨Z,t,ep,P,⟨⟨o,g,r⟩,wf,pl⟩,q⟩,kp,nw⟩:=S;refine#[#[Z,t,ep,P,#[#[o,k a o f g,r],wf,pl],q],λb o e=>k b o (λhb=>?_) (kp b o e),nw];rw[hw b hb]at e;exact nS e
def sL{e:D}(h:xs[i]?=Qa d):e∈xs.take (i+1)↔e=d\/e∈xs.take i:=by rw[List.take_succ,h,QF];simp;exact Or.comm
def AO{R:ZO->Shared->Prop}{I:Addr}{fp:List Addr}{P:Nat->Value->Prop}{St:Nat->Heap->Prop}(W:Walks prog w A.in1 I fp wr n P St)(U:a∉fp)(hw:∀b∈wr,h₀.get? b=Qc)
  (dx:zU h₀ xs us) (mx:∀(i:Nat) d v,xs[i]?=Qa d->us[i]?=Qa v->M d v) (hP:∀i v,P i v->us[i]?=Qa v) (hn:n=us.length) (f:RC xs) (hh:zO xs=Qb) (hp:∀d∈xs,qV 8 d=Qb) (hu:A.units+11<cLine) (hl:∀l:List D,l.Nodup->(∀d∈l,d∈xs)->l.length<64):
  ∀(k i:Nat)(s:Shared)(ds:List D),n-i=k->i<=n->St i s.heap->SetD M h₀ s.heap a ds led->ds.Nodup->(∀d,d∈ds↔d∈xs.take i)->
   (∀h' tk G,(∀b o,b∉a::wr->s.heap.get? b=Qa o->h'.get? b=Qa o)->SetD M h₀ h' a G led->G.Nodup->(∀d,d∈G↔d∈xs)->R (.ok (.ret .none)) {s with heap:=h',toks:=tk})->
   codeAny (model prog w) A (.builtin "set.update.loop" #[[.ref a,.ref I],[]]) R s:=by
 have X:a∉wr:=λh=>U (W.sub _ h);have OL:=dx.length;intro k
 induction k with
 |zero=>
  intro i s ds hk hi L S nd j p;have:i=n:=∅
  subst this;refine UO F.entry_set_update_loop ?_;rw[Vx F.plain_set_update_loop _];refine Qe (W.done s _ _ L λh' tk g=>?_);refine Qi (p h' tk ds (λb o hb e=>g b o (λh=>hb (Qd _ h)) e) (S.move X hw g) nd λd=>?_);rw[j d,Yx ∅]
 |succ k ih=>
  intro i s ds hk hi L S nd j p;refine UO F.entry_set_update_loop ?_;rw[Vx F.plain_set_update_loop _];refine Qe (W.item i s _ _ ∅ L λv h1 bJ hv iK g=>?_);have yJ:=hP i v hv;have N:i<xs.length:=∅
  have q:xs[i]?=Qa xs[i]:=by simp[N]
  refine qH (dx.get q) λv' O Dx=>?_;rw[yJ]at O;cases O;have T:=S.move X hw g;have sub:∀d∈ds,d∈xs:=λd hd=>List.mem_of_mem_take ((j d).mp hd);have m:=Jz N;have J:RC (xs[i]::ds):=by
   rcases f with f|f
   .exact .inl λd hd=>(Ql.mp hd).elim (λh=>f d (h▸m)) λh=>f d (sub d h)
   .exact .inr λd hd=>(Ql.mp hd).elim (λh=>f d (h▸m)) λh=>f d (sub d h)
  refine Qe (Jm (tI T J (hp _ m) (kz.mp hh _ m) Dx (mx i _ _ q yJ) (by rw[Q8];lia) (hl ds nd sub) (λhd tk=>?_) λhd h2 tk k2 S2=>?_))
  .refine Qi #[plainId_quiet F.plain_set_update_loop _,ih (i+1) _ ds ∅ ∅ iK T nd (λd=>?_) λC r y k3 z B K=>?_]
   .rw[sL q,j d];exact#[.inr,λh=>h.elim (λe=>e▸(j _).mp hd) id]
   .exact p C r y (λb o hb e=>k3 b o hb (g b o (λh=>hb (Qd _ h)) e)) z B K
  .refine Qi #[plainId_quiet F.plain_set_update_loop _,ih (i+1) _ (xs[i]::ds) ∅ ∅ (W.frame _ _ _ iK λb hb o e=>?_) S2 (QP.mpr #[hd,nd]) (λd=>?_) λC r y k3 z B K=>?_]
   .
    rw[k2.2 b (λh:b=a=>U (by rw[<-h];exact hb))];exact e
   .rw[sL q,Ql,j d]
   .refine p C r y (λb o hb e=>k3 b o hb ?_) z B K;rw[k2.2 b (λh:b=a=>hb (by rw[h];exact Qg))];exact g b o (λh=>hb (Qd _ h)) e
noncomputable def vK(w:World):Bool:=w.params.followText "set-order"
def xV(w:World):Obj:={cls:=.type "set",dict:=Qc,data:=.set #[] 0 (.fresh 0 0 (!vK w))}
def q5F(v:Value)(h:Q₁ (.ref s.heap.objs.size) {s with heap:=s.heap.push (xV w)}):codeAny (model prog w) A (.call (.builtin "set.__new__") #[[.type "set",v],[]]) (wants Q₁ E) s:=by
 refine codeAny_of_tree (?_);refine Qe (Zp (F.newCall_set_1 v) (Qi (And.intro (plainId_quiet F.plain_set_new _) (UO F.entry_set_new ?_))));rw[(Vx F.plain_set_new _)];unfold Ub.«set.__new__»;unfold Builtin.Frozenset.newClass;have b:=sub_set_self;obtain⟨e,ge,dr,tk,os⟩:=s
 wp_walk
 refine Zk (Qi ?_);simp;exact Qe (wpAny_alloc (Qi (Qi h)))
def q8a(j:h₀.get? h₀.objs.size=Qc):SetD M h₀ (h₀.push (xV w)) h₀.objs.size [] (!vK w):=by refine#[#[[],.fresh 0 0 (!vK w),0,[],#[#[xV w,QG _ rfl,#[rfl,rfl,rfl],rfl],#[rfl,Ut,rfl,.inl rfl,λz g=>by simp at g,QU _,λz g=>by simp at g],rfl],λp f=>by simp at f,rfl,.nil,rfl,rfl,λp f=>by simp at f],λb o e=>Qk _ e,j]
structure Src(prog:Program)(w:World)(ty:String)(l:Addr)(us:List Value)(h:Heap)(St:Addr->Nat->Heap->Prop):Prop where
 obj:∃o n,h.get? l=Qa o/\o.cls=.type ty/\o.data=.seq us.toArray n
 q9t:isSubtype (.type ty) (.type "set")=pure Qf
 Xh:isSubtype (.type ty) (.type "frozenset")=pure Qf
 ne:(Vd ty==Vd "dict")=Qf
 walks:∀{A:Around}(I:Addr),A.handled=Qc->l≠I->Walks prog w A I [I,l] [I] us.length (λi v=>us[i]?=Qa v) (St I)
 iter:∀{A:Around}{E:NZ}{s:Shared}{Q:NZ},(∀o,h.get? l=Qa o->s.heap.get? l=Qa o)->
  (∀o:Obj,St s.heap.objs.size 0 (s.heap.push o)->Q (.ref s.heap.objs.size) {s with heap:=s.heap.push o})->wpAny (model prog w) A (pyIter (.ref l)) Q E s
def src_list(hl:h.IsList l us.toArray):Src prog w "list" l us h (λI i h=>h.IsListIter I l i/\h.IsList l us.toArray):=by
 obtain⟨o,b,hc,n,hd⟩:=hl;refine#[#[o,n,b,hc,hd],F.sub_list_set,F.sub_list_frozenset,by decide,λI e ne=>by simpa using Walks.list e I l ne us.toArray,λk f=>?_];have g:Heap.IsList _ l us.toArray:=#[o,k o b,hc,n,hd]
 exact Vi g (f _ #[#[_,QG _ rfl,rfl,rfl],o,Qk _ (k o b),hc,n,hd])
def src_tuple(hl:h.IsTuple l us.toArray):Src prog w "tuple" l us h (λI i h=>h.IsTupleIter I l i/\h.IsTuple l us.toArray):=by
 obtain⟨o,b,hc,n,hd⟩:=hl;refine#[#[o,n,b,hc,hd],F.sub_tuple_set,F.sub_tuple_frozenset,by decide,λI e ne=>by simpa using Walks.tuple e I l ne us.toArray,λk f=>?_];have g:Heap.IsTuple _ l us.toArray:=#[o,k o b,hc,n,hd]
 exact wpAny_pyIter_tuple g (f _ #[#[_,QG _ rfl,rfl,rfl],o,Qk _ (k o b),hc,n,hd])
def q23(h:Heap):h.get? h.objs.size=Qc:=by
 cases e:h.get? h.objs.size with
 |none=>rfl
 |some o=>exact absurd (Qx e) (Jx _)
def Made(w:World)(xs:List D)(us:List Value)(s:Shared)(h':Heap):Prop:=∃ds,SetD (λd v=>∃i:Nat,xs[i]?=Qa d/\us[i]?=Qa v) s.heap h' s.heap.objs.size ds (!vK w)/\ds.Nodup/\∀d,d∈ds↔d∈xs
def q1q{ty:String}{St:Addr->Nat->Heap->Prop}{Q:Unit->Shared->Prop}(S:Src prog w ty l us s.heap St)(z:A.handled=Qc)
  (dx:zU s.heap xs us) (I:RC xs) (F:zO xs=Qb) (C:∀d∈xs,qV 8 d=Qb) (hu:A.units+16<cLine) (hl:∀l:List D,l.Nodup->(∀d∈l,d∈xs)->l.length<64)
  (h:∀(h':Heap)(tk:Nat),Made w xs us s h'->Q () {s with heap:=h',toks:=tk}):
  wpAny (model prog w) A (pyIter (.ref l)) (λa K=>wpAny (model prog w) A (runValue (.builtin "set.update.loop" #[[.ref s.heap.objs.size,a],[]])>>=λ_=>pure ()) Q E K) E {s with heap:=s.heap.push (xV w)}:=by
 refine ja S.obj λN L g _=>?_;have f:=Qx g;refine S.iter (λo e=>Qk _ e) λo J=>?_;have hsz:(s.heap.push (xV w)).objs.size=s.heap.objs.size+1:=Ua _ _;refine Qe (wpAny_runValue ?_);refine AO (M:=λd v=>∃i:Nat,xs[i]?=Qa d/\us[i]?=Qa v) (h₀:=s.heap) (led:=!vK w) (S.walks (s.heap.push (xV w)).objs.size (by simp[z]) (by rw[hsz];exact QQ (JQ f))) ?_ ?_ dx (λi d v p y=>#[i,p,y]) (λi v e=>e) rfl I F C ∅ hl (us.length-0) 0 _ [] rfl (QU _) J ?_ YO (λd=>by simp) λh' tk G k j nd m=>?_
 .rw[hsz];simp only[Ql,Vb,or_false,not_or];exact#[QQ (Jh _),ZN f]
 .intro b hb;rw[QE.mp hb,hsz];cases e:s.heap.get? (s.heap.objs.size+1)with
  |none=>rfl
  |some o'=>exact absurd (Qx e) (Nat.not_lt.mpr (Yi _))
 .obtain⟨⟨Z,t,ep,P,⟨⟨o',B,r⟩,wf,pl⟩,q⟩,kp,nw⟩:=q8a (M:=λd v=>∃i:Nat,xs[i]?=Qa d/\us[i]?=Qa v) (w:=w) (q23 s.heap);exact#[#[Z,t,ep,P,#[#[o',Qk _ B,r],wf,pl],q],λb o' e=>Qk _ (kp b o' e),nw]
 .show wpAny _ _ _ _ _ _;exact Qi (h h' tk #[G,j,nd,m])
set_option maxHeartbeats 3200000 in
def q8j{ty:String}{l:Addr}{St:Addr->Nat->Heap->Prop}{Q:NZ}(S:Src prog w ty l us s.heap St)(K:A.handled=Qc)
  (dx:zU s.heap xs us) (T:RC xs) (O:zO xs=Qb) (L:∀d∈xs,qV 8 d=Qb) (hu:A.units+20<cLine) (hl:∀l:List D,l.Nodup->(∀d∈l,d∈xs)->l.length<64)
  (h:∀(h':Heap)(tk:Nat),Made w xs us s h'->Q (.ref s.heap.objs.size) {s with heap:=h',toks:=tk}):wpAny (model prog w) A (call (.type "set") [.ref l]) Q E s:=by
 obtain⟨c0,tl0,z⟩:=F.called_set.mro;have qB6:=F.called_set.made;have B:=F.called_set.sub;refine U6 (codeAny_of_tree (show wpAny _ _ (callAny (.type "set") _) _ _ _ from ?_));refine Qi (And.intro (Code.quiet_builtin _ (by decide+kernel)) (UO F.entry_type_call ?_));rw[(Around.under_plain (weight_type_call_type "set" [.ref l] []) rfl)];have ht:=F.called_set.notType;have Lw:=F.called_set.canCreate;have N:=F.typeCall_set_1 (.ref l)
 repeat (any_goals (first|assumption|wp_step))
 refine Y3 (q5F (.ref l) (E:=E) (Q₁:=λv f=>v=.ref s.heap.objs.size/\f={s with heap:=s.heap.push (xV w)}) #[rfl,rfl]) λr f p=>?_;cases r with
 |error e=>exact p
 |ok fl=>
  cases fl with
  |ret v=>
   obtain⟨rfl,rfl⟩:=p;have J:(s.heap.push (xV w)).get? s.heap.objs.size=Qa (xV w):=QG _ rfl;have I:Shared.TypeIs {s with heap:=s.heap.push (xV w)} (.ref s.heap.objs.size) "set":=#[_,J,rfl]
   have li:=F.called_set.init.lookup;have bi:=F.called_set.init.bind (.ref s.heap.objs.size)
   repeat (any_goals (first|assumption|wp_step))
   refine Y3 (V9 (R:=wants (λr g=>r=.none/\∃h' tk,g={s with heap:=h',toks:=tk}/\Made w xs us s h') E) F.called_set.init.plain F.entry_set_init (check_set_init_1 I ?_)) λk g b=>?_
   .obtain⟨ol,nl,G,C,q⟩:=S.obj;have e1:=S.q9t;have e2:=S.Xh;have e3:=S.ne;obtain⟨U,X,W,kg⟩:=ol;simp only at C q;subst C q;have y:=Qk (xV w) G;unfold Ub.«set.__init__»;unfold noKeywords Builtin.Frozenset.updateFrom;generalize o:pyIter=PI
    wp_walk
    subst o;exact q1q S (by simp[K]) dx T O L (by simp;lia) hl λh' tk m=>Qi #[rfl,h',tk,rfl,m]
   .cases k with
    |error e=>exact b
    |ok j=>
     cases j with
     |ret r=>
      obtain⟨rfl,h',tk,rfl,m⟩:=b
      repeat (any_goals (first|assumption|wp_step))
      exact h _ _ m
     |_=>exact b.elim
  |_=>exact p.elim
def Pe:Slot "set_iterator" "__next__" "set_iterator.__next__":=by
 refine .of (owner:="set_iterator") (n:="__next__") ?_ (by decide+kernel) (by decide+kernel) (by decide+kernel) ?_ ?_
 .rw[typeLookup_type,builtinLookup_eq_fast];kernel_rfl
 .first
   |exact .inl (by decide+kernel)
   |exact .inr (by decide+kernel)
 .rw[isSubtype_type];kernel_rfl
def rK:Slot "set_iterator" "__iter__" "set_iterator.__iter__":=by
 refine .of (owner:="set_iterator") (n:="__iter__") ?_ (by decide+kernel) (by decide+kernel) (by decide+kernel) ?_ ?_
 .rw[typeLookup_type,builtinLookup_eq_fast];kernel_rfl
 .first
   |exact .inl (by decide+kernel)
   |exact .inr (by decide+kernel)
 .rw[isSubtype_type];kernel_rfl
def rM:entryFor table "set_iterator.__next__"=Qa Ub.«set_iterator.__next__»:=entryFor_of_tree (by kernel_rfl)
def q8s:entryFor table "set_iterator.__iter__"=Qa Ub.«dict_keyiterator.__iter__»:=entryFor_alias (id':="dict_keyiterator.__iter__") (by kernel_rfl) (by decide+kernel) (by decide+kernel) (by kernel_rfl)
def q8h:entryFor table "set.__iter__"=Qa Ub.«frozenset.__iter__»:=entryFor_alias (id':="frozenset.__iter__") (by kernel_rfl) (by decide+kernel) (by decide+kernel) (by kernel_rfl)
def rL(a:Value):argsOk "set_iterator.__next__" #[[a],[]]:=by unfold argsOk;kernel_rfl
def q8r(a:Value):argsOk "set_iterator.__iter__" #[[a],[]]:=by unfold argsOk;kernel_rfl
def xh(w:World)(a:Addr)(ep:Nat)(Z:List Ent):List (Int×Value):=if vK w then(pickOrder (w.params.setOrder a ep) (Z.map (·.2)).toArray).toList else Z.map (·.2)
def kQ(w:World)(Z:List Ent)(i:Nat):Nat:=if vK w then 0 else match i with
 |0=>0
 |k+1=>match Z[k]?with
  |some z=>z.1+1
  |none=>0
def Xk(h:Heap)(I a:Addr)(slot i n ep:Nat):Prop:=∃o,h.get? I=Qa o/\o.cls=.type "set_iterator"/\o.data=.fields [.int slot 0,.int i 0,.ref a,.int n 0,.int ep 0].toArray
theorem ow{α:Type}(next:Nat->Nat):∀(n k:Nat)(left:List α)(out:Array α),left.length=n->((W2 next n k left out).toList).Perm (out.toList++left)
 |0,k,left,out,h=>by have:left=[]:=U8.mp h;subst this;simp[W2]
 |n+1,k,left,out,h=>by unfold W2;have b:next k %left.length<left.length:=Y7 _ ∅;rw[Qy b];dsimp only;refine(ow next n (k+1) _ _ (by rw[List.length_eraseIdx];simp[b];lia)).trans ?_;rw[Array.toList_push,Wl];refine List.Perm.append_left _ ?_;rw[List.eraseIdx_eq_take_drop_succ];refine(Uk (l₁:=left.take (next k %left.length)) (l₂:=left.drop (next k %left.length+1))).symm.trans ?_;rw[<-US b,YG]
def sf(w:World)(a:Addr)(ep:Nat)(Z:List Ent):(xh w a ep Z).Perm (Z.map (·.2)):=by
 unfold xh;split
 .have:=ow (w.params.setOrder a ep) (Z.map (·.2)).toArray.size 0 (Z.map (·.2)) #[] (by simp);simpa[pickOrder]using this
 .exact .refl _
def below_at(wf:WF t Z)(hi:i<=Z.length)(hb:vK w=Qf):WC t.place (kQ w Z i)=i:=by
 have y:(slots Z).length=Z.length:=by simp[slots]
 rw[wf.place];cases i with
 |zero=>
  have e:kQ w Z 0=0:=by unfold kQ;rw[hb];rfl
  rw[e];obtain⟨g,b,f⟩:=Xs (slots Z) wf.yQ 0;apply QZ;intro q;have o:=b 0 ∅ ∅;lia
 |succ k=>
  have j:k<Z.length:=∅
  have e:kQ w Z (k+1)=Z[k].1+1:=by unfold kQ;rw[hb];simp[j]
  rw[e];refine vN (Xs (slots Z) wf.yQ (Z[k].1+1)) λg b f=>?_;have m:(slots Z)[k]'∅=Z[k].1:=by simp[slots]
  apply QZ;intro q;rcases Nat.lt_or_gt_of_ne q with q|q
  .have:=f k ∅ ∅;lia
  .have p:=b (k+1) q ∅;have r:=wf.yQ.lt (i:=k) (k:=k+1) ∅ ∅;lia
section
variable{I:Addr}
def IV(h:Q (vK w) s):wpAny (model prog w) A setsByText Q E s:=by unfold setsByText;exact Qe (Zk (Qi h))
def rE(S:SetIn s.heap a Z t ep)(le:t.led=!vK w)(hi:i<=Z.length){Q:Option (Value×Nat)->Shared->Prop}(h:Q (((xh w a ep Z)[i]?).map λe=>(e.2,kQ w Z (i+1))) s):wpAny (model prog w) A (setNext a (kQ w Z i) i ep) Q E s:=by
 unfold setNext;refine Qe (xZ S (Qe (IV ?_)));cases hb:vK w with
 |true=>
  rw[if_pos rfl];have f:∀j,kQ w Z j=0:=λj=>by unfold kQ;rw[hb];rfl
  simp only[bne_self_eq_false,Yw,if_false];unfold setWalk;refine Qe (Qe (xZ S (Qe (IV ?_))));rw[hb];refine Qe (Zk (Qi (Qi ?_)));unfold xh at h;rw[hb,f]at h;rw[f];simp only[if_true,Ug]at h;exact h
 |false=>
  rw[if_neg (by decide)];refine UN (λhd=>?_) λ_=>?_
  .exfalso;have:(!t.plain&&decide ((Z.map (·.2)).toArray.size>1))=Qb:=hd;rw[S.plain]at this;cases this
  refine Qe ?_;change wpAny _ _ (if(!t.led&&!(Z.map (·.2)).toArray.isEmpty)=Qb then unsupported "set:maker-not-led"else pure ()) _ _ _;rw[le,hb];rw[if_neg (by simp)];refine Qi (Qi ?_);rw[below_at S.wf hi hb];unfold xh at h;rw[hb]at h;simp only[Yw,if_false]at h
  by_cases c:i<Z.length
  .have b:(Z.map (·.2)).toArray[i]?=Qa Z[i].2:=(by simp[c]);have g:t.place[i]?=Qa Z[i].1:=(by rw[S.wf.place];simp[slots,c]);have k:kQ w Z (i+1)=Z[i].1+1:=(by unfold kQ;rw[hb];simp[c]);rw[b,g];rw[k]at h;simpa[c]using h
  .have b:(Z.map (·.2)).toArray[i]?=Qc:=(by simp;lia);rw[b];have m:(Z.map (·.2))[i]?=Qc:=(by simp;lia);rw[m]at h;exact h
end
section
variable{I:Addr}
def An:(xh w a ep Z).length=Z.length:=by have:=(sf w a ep Z).length_eq;simpa using this
def LA{Q:Array (Int×Value)->Shared->Prop}(S:SetIn s.heap a Z t ep)(h:Q (Z.map (·.2)).toArray s):wpAny (model prog w) A (setEntries a) Q E s:=by unfold setEntries;exact Qe (xZ S (Qi h))
def q8q(S:SetIn s.heap a Z t ep)(le:t.led=!vK w)(p:Xk s.heap I a (kQ w Z i) i Z.length ep){e:Int×Value}(k:(xh w a ep Z)[i]?=Qa e){Q:Option Value->Shared->Prop}
  (m:∀h',Xk h' I a (kQ w Z (i+1)) (i+1) Z.length ep->JI I s.heap h'->Q (Qa e.2) {s with heap:=h'}):wpAny (model prog w) A (pyNext (.ref I)) Q E s:=by
 obtain⟨o,b,hc,hd⟩:=p;have j:s.TypeIs (.ref I) "set_iterator":=#[o,b,hc]
 have hi:i<Z.length:=by rw[<-An (w:=w) (a:=a) (ep:=ep)];exact(Qn.mp k).1
 unfold pyNext;refine Qe (Vq (Ue (name:=QA "__next__") j Pe (J8 Pe j rM ?_ (rL _))));show wpAny _ _ (fieldsOf (.ref I)>>=_) _ _ s;refine Qe (wpAny_fieldsOf b hd ?_);show wpAny _ _ (setEntries a>>=_) _ _ s;refine Qe (LA S ?_);rw[if_neg (by simp)];show wpAny _ _ (setNext a (kQ w Z i) i ep>>=_) _ _ s;refine Qe (rE S le ∅ ?_);rw[k];dsimp only[Option.map];have g:=Uj (Obj.mapFields (·.setIfInBounds 0 (VI (kQ w Z (i+1))))) b (VC (YC hd _));have f:=YC hd (·.setIfInBounds 0 (VI (kQ w Z (i+1))));refine Qe (V8 b hd (by simp) (Qe (V8 g f (by simp) (Qi #[e.2,rfl,Qi (m _ ?_ ?_)]))))
 .refine#[_,Uj _ g (VC (YC f _)),?_,?_]
  .exact (Obj.cls_mapFields ..).trans ((Obj.cls_mapFields ..).trans hc)
  .rw[YC f];simp[VI]
 .exact (JJ ..).trans (JJ ..)
end
section
variable{I:Addr}
def q8p{Q:Option Value->Shared->Prop}(j:A.handled=Qc)(S:SetIn s.heap a Z t ep)(le:t.led=!vK w)(k:Xk s.heap I a (kQ w Z Z.length) Z.length Z.length ep)
  (f:∀h',Heap.ExtBut I s.heap h'->Q Qc {s with heap:=h'}):wpAny (model prog w) A (pyNext (.ref I)) Q E s:=by
 refine qd k λo b hc hd=>?_;have e:s.TypeIs (.ref I) "set_iterator":=#[o,b,hc]
 have g:(xh w a ep Z)[Z.length]?=Qc:=by rw[Yb,An];exact Qt _
 unfold pyNext;refine Qe (Vq (Ue (name:=QA "__next__") e Pe (J8 Pe e rM ?_ (rL _))));show wpAny _ _ (fieldsOf (.ref I)>>=_) _ _ s;refine Qe (wpAny_fieldsOf b hd ?_);refine Qe (LA S ?_);rw[if_neg (by simp)];refine Qe (rE S le (Qt _) ?_);rw[g];dsimp only[Option.map];refine Qe (V8 b hd (by simp) ?_);refine Qe (show wpAny _ _ (newExc (.type "StopIteration") []) _ _ _ from ?_);simp only[newExc,newTuple];refine Qe (JG ?_ (by size_fits));refine Qe (Zp (by simp only[firstArgMember];rfl) ?_);refine JG ?_ (by size_fits);simp only[raiseNew];refine Qe (wpAny_handled ?_);rw[show A.in1.handled=Qc from j];refine(Qe (Qi (wpAny_throw ?_)));refine(Qe (Zf #[_,QG _ rfl,rfl] isSubtype_stop ?_));exact Qi (f _ (((JJ ..).extBut.push _).push _))
def q8t{Q:NZ}(b:s.TypeIs (.ref I) "set_iterator")(h:Q (.ref I) s):wpAny (model prog w) A (pyIter (.ref I)) Q E s:=by refine wpAny_pyIter_slot b rK (J8 rK b q8s ?_ (q8r _));exact Qi #[_,rfl,"set_iterator",_,b,Pe.lookup,h]
def q8g{Q:NZ}(S:SetIn s.heap a Z t ep)
  (h:Q (.ref s.heap.objs.size) {s with heap:=s.heap.push {cls:=.type "set_iterator",data:=.fields [.int 0 0,.int 0 0,.ref a,.int Z.length 0,.int ep 0].toArray}}):wpAny (model prog w) A (pyIter (.ref a)) Q E s:=by
 refine qd S.obj λo g j hd=>?_;have b:s.TypeIs (.ref a) "set":=#[o,g,j.1]
 refine wpAny_pyIter_slot b F.slot_set_iter (J8 F.slot_set_iter b q8h ?_ (F.args_set_iter_1 _));unfold Ub.«frozenset.__iter__»;show wpAny _ _ (VN a>>=_) _ _ s;unfold VN;refine Qe (Qe (LA S (Qi ?_)));unfold setDrawn;refine Qe (Qe (xZ S (Qe (IV (Qi ?_)))));have f:(!vK w&&(!t.plain&&decide ((Z.map (·.2)).toArray.size>1)))=Qf:=by rw[S.plain];simp
 refine UN (λz=>absurd (show(!vK w&&(!t.plain&&decide ((Z.map (·.2)).toArray.size>1)))=Qb from z) (by rw[f];decide)) λ_=>?_;refine Qe (Qi ?_);unfold setEpoch;refine Qe (Qe (xZ S (Qi ?_)));unfold newFields;refine Qe (JG ?_);have e:Shared.TypeIs {s with heap:=s.heap.push {cls:=.type "set_iterator",data:=.fields [.int 0 0,.int 0 0,.ref a,.int Z.length 0,.int ep 0].toArray}} (.ref s.heap.objs.size) "set_iterator":=#[_,QG _ rfl,rfl]
 rw[show(Z.map (·.2)).toArray.size=Z.length by simp];exact Qi #[_,rfl,"set_iterator",_,e,Pe.lookup,h]
def q8f(e:s.TypeIs (.ref a) "set")(h:Q Qf s):wpAny (model prog w) A (VY (.ref a)) Q E s:=by
 unfold VY;refine Qe (UM e F.slot_set_len.lookup ?_);generalize b:("set.__len__":String)=id0
 wp_delta
 rw[show splitId id0=Qa ("set","__len__") by subst b;decide+kernel];subst b;refine Qe (Zf e sub_set_self ?_);refine UN (λz=>absurd z (by decide)) λ_=>UN (λ_=>?_) λz=>absurd (by decide+kernel) z;exact Qe (VJ e (Qi h))
def Xk.at{sl:Nat}(x:Xk h I a sl i n ep)(k:∀o,h.get? I=Qa o->h'.get? I=Qa o):Xk h' I a sl i n ep:=let⟨o,e,r⟩:=x;#[o,k o e,r]
def SetIn.at(S:SetIn h a Z t ep)(k:∀o,h.get? a=Qa o->h'.get? a=Qa o):SetIn h' a Z t ep:=let⟨⟨o,e,r⟩,wf,pl⟩:=S;#[#[o,k o e,r],wf,pl]
def qAK(j:A.handled=Qc)(le:t.led=!vK w)(m:a≠I):
  Walks prog w A I [I,a] [I] Z.length (λi v=>∃e,(xh w a ep Z)[i]?=Qa e/\v=e.2) (λi h=>Xk h I a (kQ w Z i) i Z.length ep/\SetIn h a Z t ep)where
 sub:=λb hb=>Ql.mpr (.inl (QE.mp hb))
 frame:=λi h h' st k=>And.intro (st.1.at λo e=>k I (by simp) o e) (st.2.at λo e=>k a (by simp) o e)
 item:=λi s Q E hi st f=>by
  have hl:i<(xh w a ep Z).length:=by rw[An];exact hi
  refine q8q st.2 le st.1 (Qy hl) λh' g k=>f _ h' s.toks #[_,Qy hl,rfl] #[g,st.2.at λo e=>?_] λb o hb e=>?_
  .rw[k.2 a m];exact e
  .rw[k.2 b (λz=>hb (by simp[z]))];exact e
 done:=λs Q E st f=>q8p j st.2 le st.1 λh' k=>f h' s.toks λb o hb e=>k b o (λz=>hb (by simp[z])) e
 self:=λi s Q E st f=>let⟨o,ho,hc,_⟩:=st.1;q8t #[o,ho,hc] f
def q9E(le:t.led=!vK w):KdlSrc prog w "set" a a Z.length (λi v=>∃e,(xh w a ep Z)[i]?=Qa e/\v=e.2) (λh=>SetIn h a Z t ep)where
 type:=λs S=>let⟨o,b,f,_⟩:=S.obj;#[o,b,f.1]
 there:=λh S=>let⟨o,b,_⟩:=S.obj;#[Qx b,Qx b]
 keep:=λh h' S k=>S.at λo e=>k a (.inl rfl) o e
 notList:=by decide
 notTuple:=by decide
 hint:=λA E s Q S g=>let⟨o,b,f,_⟩:=S.obj;q8f #[o,b,f.1] g
 iter:=λA s m S=>by
  refine qd S.obj λo b f hd=>?_;have j:kQ w Z 0=0:=by unfold kQ;split<;>rfl
  refine#[{cls:=.type "set_iterator",data:=.fields [.int 0 0,.int 0 0,.ref a,.int Z.length 0,.int ep 0].toArray},_,λE Q g=>q8g S g,qAK m le (QQ (Qx b)),#[_,QG _ rfl,rfl,?_],S.at λo e=>Qk _ e];rw[j];rfl
end
theorem RN:∀{l:List D}{d:D},zO l=Qb->(d∈dedup l↔d∈l)
 |[],d,_=>by simp[dedup]
 |x::l,d,h=>by
  have b:=kz.mp h;have hl:=kz.mpr λe j=>b e (Qd _ j);unfold dedup;split
  .rename_i c;obtain⟨y,f,g⟩:=Yr.mp c;rw[RN hl,Ql];exact#[.inr,λq=>q.elim (λe=>by rw[e,((k9 (b x Qg) (b y (Qd _ f))).mp g)];exact f) id]
  .rw[Ql,Ql,RN hl]
theorem sub_len:∀{a b:List D},a.Nodup->(∀x∈a,x∈b)->a.length<=b.length
 |[],_,_,_=>QU _
 |x::a,b,nd,h=>by
  have f:=QP.mp nd;obtain⟨g,j,rfl⟩:=UJ (h x Qg);have:=sub_len (a:=a) (b:=g++j) f.2 λy e=>by
   have:=h y (Qd _ e);simp at this|-;rcases this with q|q|q
   .exact .inl q
   .exact absurd q (λq=>f.1 (q▸e))
   .exact .inr q
  simp at this|-;lia
theorem oO:∀{a b:List D},a.Nodup->b.Nodup->(∀x,x∈a↔x∈b)->a.Perm b
 |[],b,_,_,h=>by
  cases b with
  |nil=>exact .nil
  |cons y b=>exact absurd ((h y).mpr Qg) (by simp)
 |x::a,b,na,nb,h=>by
  have k:=QP.mp na;obtain⟨g,j,rfl⟩:=UJ ((h x).mp Qg);have pm:(g++x::j).Perm (x::(g++j)):=Uk;have m:=QP.mp (pm.nodup_iff.mp nb);refine(List.Perm.cons x (oO k.2 m.2 λy=>?_)).trans pm.symm;have f:=h y;rw[pm.mem_iff,Ql,Ql]at f;constructor
  .intro q;exact(f.mp (.inr q)).resolve_left λe=>k.1 (e▸q)
  .intro q;exact(f.mpr (.inr q)).resolve_left λe=>m.1 (e▸q)
def SoOk.perm{a b:List D}(h:SoOk a)(p:b.Perm a):SoOk b:=by have m:∀d∈b,d∈a:=λd hd=>p.mem_iff.mp hd;exact#[by rw[p.length_eq];exact h.len,λd hd=>h.wd d (m d hd),λd hd=>h.aX d (m d hd),λx f y g=>h.cmp x (m x f) y (m y g),p.symm.pairwise h.Fd λe q=>e q.symm]
def q3t{a b:List D}(h:SoOk a)(p:b.Perm a):jy b=jy a:=by have m:∀d∈jy b,d∈a:=λd hd=>p.mem_iff.mp ((u9 b).mem_iff.mp hd);exact AZ (((u9 b).trans p).trans (u9 a).symm) (λd hd=>h.wd d (m d hd)) (λx e y f=>h.cmp x (m x e) y (m y f)) (P7 (h.perm p).wd) (P7 h.wd)
theorem pU{xs:List D}{us:List Value}(r:qK p Hf xs vs)(f:Vals vs us):∀(P:List ((Int×Value)×D)),(∀q∈P,∃i:Nat,xs[i]?=Qa q.2/\us[i]?=Qa q.1.2)->
  ∃b,qK p Hf (P.map (·.2)) b/\Vals b (P.map (·.1.2))
 |[],_=>#[[],rfl,.nil]
 |q::P,h=>by refine qH (pU r f P λx y=>h x (Qd _ y)) λb m o=>?_;refine qH (h q Qg) λi g j=>?_;refine qH (r.get g) λv k B=>?_;refine qH (f.get k) λu e z=>?_;rw[j]at e;cases e;exact#[v::b,#[v,b,rfl,B,m],.cons z o]
section
variable{X:Cx}{p:Pm}{G:Nat->List D->R D}{sub:Nat->Nat->Bool}
def q9D(j:p.K=X.K)(I:Inv X pins Y H s)(b:RelV v u)(q:jH p H (fz O H) d v)(hi:xO d=.ok xs):
  ∃l us vs ty St,u=.ref l/\Src X.prog X.w ty l us s.heap St/\qK p (fz O H) xs vs/\Vals vs us/\vs.length<=QD:=by
 cases d<;>first
  |(exfalso;simpa[xO]using hi)
  |skip
 .cases hi;refine zN q λa vs g s1 z f=>?_;subst g;cases b;refine qd (I.tuple (j▸zG.va s1:zw X.K H a vs)) λits b m e=>?_;exact#[a,its,vs,_,_,rfl,src_tuple m,f,b,e]
 .cases hi;refine qN q λa vs g s1 f=>?_;subst g;cases b;refine qd (I.list (j▸s1:zM X.K H a vs)) λits b k e=>?_;exact#[a,its,vs,_,_,rfl,src_list k.isList,f,b,e]
def q9g(F:p.K=X.K)(hc:X.calm=Qb)(hu:X.A.units+64<cLine){os:List (List Addr)}{r:D}(I:Inv X pins Y H s)(t:Th os.flatten H)(rv:RelV v u)(q:jH p H (fz os.flatten H) d v)(h:zF sub .vY [d]=.ok r):
  wpAny (model X.prog X.w) X.A (call (.type "set") [u]) (λx s2=>wpAny (model X.prog X.w) X.A (call (.builtin "sorted") [x]) (EP (X.ql E) pins Y (Fin p os.flatten H r)) E s2) E s:=by
 cases hi:xO d with
 |qC=>exact absurd (show(xO d).bind _=.ok r from h) (by rw[hi];intro z;exact nR z)
 |err c=>exact absurd (show(xO d).bind _=.ok r from h) (by rw[hi];intro z;cases z)
 |ok xs=>
  have h':(if zO xs&&zj xs&&decide (xs.length<=1000)&&ko (dedup xs)then R.ok (D.qA (jy (dedup xs)))else .qC)=.ok r:=by rw[<-h];show _=(xO d).bind _;rw[hi];rfl
  split at h'
  .rename_i cs;cases h';simp at cs;obtain⟨⟨⟨m,c2⟩,c3⟩,so⟩:=cs;obtain⟨B,b⟩:=b9 so;refine wY (q9D F I rv q hi) λl us vs ty St zu S r1 zr=>?_;obtain⟨yu,hz⟩:=zr;subst zu;have hA:=I.ok.hd hc;have kn:RC xs:=by
    rcases b with b|b
    .refine .inr λd hd=>?_;have:=b d ((RN m).mpr hd);cases d<;>first|exact#[_,rfl]|cases this
    .refine .inl λd hd=>?_;have:=b d ((RN m).mpr hd);cases d<;>first|exact#[_,rfl]|cases this
   refine q8j S hA ((wU F I).2 xs vs us (r1.mono zG) yu) kn m (λd hd=>yr.mp c2 d hd) ∅ (λl nd hm=>Jr (sub_len nd λd hd=>(RN m).mpr (hm d hd)) B.len) λh1 T zz=>qd zz λds SD nd mem=>?_;obtain⟨⟨Z,tb,ep,P,Si,pr,e1,e2,tf,le,mm⟩,kp,nw⟩:=SD;refine qH (aO (·.1) (e1▸sf X.w s.heap.objs.size ep Z) P rfl) λf p1 p2=>?_;have N:Inv X pins Y H {s with heap:=h1,toks:=T}:=I.kept kp;have pm:(f.map (·.2)).Perm (dedup xs):=((p1.map (λq=>q.2)).trans e2).trans (oO nd B.Fd λx=>(mem x).trans (RN m).symm);have j:=B.perm pm;refine qH (pU r1 yu f λq hq=>mm q (p1.mem_iff.mp hq)) λyz L w2=>?_;have DN:yz.length<=QD:=by have:=j.len;rw[<-L.length,Q6];lia
   have J:(∀d∈f.map (·.2),ub d=Qb)\/∀d∈f.map (·.2),yk d=Qb:=by
    rcases b with b|b
    .exact .inl λd hd=>b d (pm.mem_iff.mp hd)
    .exact .inr λd hd=>b d (pm.mem_iff.mp hd)
   have gi:Z.length=f.length:=(by rw[<-An (w:=X.w) (a:=s.heap.objs.size) (ep:=ep)];exact(by rw[<-p2];simp));refine qy.ri (s:={s with heap:=h1,toks:=T}) (Gv:=λy=>y=f.map (·.1.2)) j.len j.ord (λy e=>by rw[e];simp) (λR hR=>?_) (λy e h2 gX tk k=>?_) λy q D gX tk e eu O U k nD g=>?_
   .refine ZH (A:=X.A.in1) (q9E (t:=tb) (Z:=Z) (ep:=ep) le) (by simp[hA]) Si (by rw[gi,Q6];have:=j.len;simp at this;lia) λh3 CW acc k3 it=>hR _ h3 CW ?_ k3;obtain⟨a1,a2⟩:=it;apply Wj;intro i;cases C:acc.toList[i]?with
    |none=>
     have:f.length<=i:=by have:=Yb.mp C;rw[YW,a1,gi]at this;exact this
     rw[J6 (by simpa using this)]
    |some v'=>
     rw[Ug]at C;refine qH (a2 i v' C) λe' o f2=>?_;rw[<-p2,QB]at o;rw[QB];cases W:f[i]?with
     |none=>rw[W]at o;exact nS o
     |some q'=>rw[W]at o;cases o;rw[f2];rfl
   .subst e;exact Oc (s:={s with heap:=gX,toks:=tk}) (by show X.A.units+1+1+8<cLine;lia) j J ((Fg k).2 _ _ ((wU F N).2 _ yz _ (L.mono zG) w2)) h2
   .subst eu;rw[<-q3t B pm,<-AD j O U];exact lr N t L w2 DN O rfl k nD g
  .exact nR h'
end
def q0b:bootBuiltins "set"=Qa (.type "set"):=by kernel_rfl
def sset:SSet:=by
 intro X p G sub a la q b e pos K hc hu N O L S B C pins s Y H Z os I R hs;have j:QM [a] X.env=[(Qf,Je a X.env)]:=jd S;have g:QM [.Call (.Name "set" b) [a] [] e] X.env=[(Qf,Je (.Call (.Name "set" b) [a] [] e) X.env)]:=jd rfl;refine Q7 (wJ I B N Uz ?_);refine Yc ?_ g rfl;rw[g];show wpAny _ _ (VM ((Qf,Je (.Call (.Name "set" b) [a] [] e) X.env)::Yk pos [])) _ _ s;refine Q4 (Qh (Q:=λx s2=>wpAny (model X.prog X.w) X.A (call (.builtin "sorted") [x]) (Gd X p pins Y os H (ev G sub (.bi .vY [la]) Z)) (Er X p pins Y H (ev G sub (.bi .vY [la]) Z)) s2) (E:=Er X p pins Y H (ev G sub (.bi .vY [la]) Z)) ?_ (λx s2 h=>Jl h) λ_ _ z=>z);refine Q7 (wJ I C O q0b ?_);refine JL (CP L j I R (FQ hs) (λu s1 h=>?_) (λ_ _=>FP)) j rfl;refine qY h λd v H1 y m U k T=>?_;have o:ev G sub (.bi .vY [la]) Z=zF sub .vY [d]:=by rw[kI,PX (f:=λd=>zF sub .vY [d]) la Z _ (λ_=>rfl),y];rfl
 rw[o]at hs|-;rcases RH sub .vY [d]with z|⟨r,z⟩
 .exact absurd z hs
 .rw[z];exact Qh (q9g K hc hu (E:=Er X p pins Y H (.ok r)) m (R.ext k).th U T z) (λx s2 F=>Qh F (λw W J=>X6 k rfl J) λ_ _ z=>z) λ_ _ z=>z
end Snd
namespace Mk
open PySem Ev
variable{x d s y M:D}{a a2:L}{n t c m i j f N fw:Nat}{nd:List (List Nat)}{ks l ms o rs:List Nat}{G:Nat->List D->R D}{Z ρ':Ev.Env}{ds:List D}{α:Type}{r:R D}{xs:List L}{body:List S}{b0:Bool}
def yo(c:Int):Ev.L:=.op .add (.op .add (.op .add qR (.qo (.int c))) (.op .mul (kZ 4) zi)) Al
def Gf:List Ev.S:=[.set 6 (.op .bor jl (.op .shl (kZ 1) zi)),.ifs (.e (.cm .w6 kO (.bor 2))) [.put 2 kO (.qo (.bl Qb)),.app 3 kO] []]
def Dh:List Ev.S:=[.pop 4 3,.zS 0 [5] (.e (.call 6 [qG,jl,qR])) Gf]
def PQ:List Ev.S:=[.ifs (.or (.not (.e (.call 8 [zQ]))) (.or (.e (.cm .le zQ qf)) (.e (.cm .ge zQ qG)))) [.ret (.qo (.bl Qf))] [],.set 2 zQ]
def PM:List Ev.S:=[.expr (.call 11 [qR,zQ])]
def PN:List Ev.S:=[.ifs (.e (.cm .ge (.idx qf (.op .sub jl (kZ 1))) (.idx qf jl))) [.raise 1] []]
def GZ:Ev.S:=.ifs (.or (.not (.e (.bi .isTup [qG]))) (.e (.cm .ne (.bi .len [qG]) (kZ 2)))) [.raise 1] []
def PO:Ev.S:=.ifs (.or (.not (.e (.call 8 [qR]))) (.or (.e (.cm .lt qR (kZ 0))) (.e (.cm .gt qR (kZ 10))))) [.raise 1] []
def Ge:Ev.S:=.ifs (.or (.not (.e (.bi .P5 [qf]))) (.e (.cm .gt (.bi .len [qf]) (kZ 1300)))) [.raise 1] []
def Df:List Ev.S:=[.app2 1 (.idx qf (kZ 0)) (.call 0 [(.idx qf (kZ 1))])]
def Ov:Ev.L:=.comp 2 qR (.e (.idx qG (kZ 1))) [(.and (.e (.cm .eq qG zi)) (.e (.bi .all [(.comp 0 (.cm .mem qG jl) (.e qR) [])])))]
def PK:List Ev.S:=[.set 4 Ov,.ifs (.and (.e (.cm .w6 zQ qR)) (.e (.cm .ne jl (.qA [])))) [.app 2 zQ] []]
def De:Ev.L:=.comp 0 qG (.e qf) [(.e (.cm .ne qG jl))]
def Ou:Ev.T:=.and (.e (.cm .w6 qf (.bor 1))) (.and (.e (.cm .mem jl (.bor 1))) (.e (.cm .mem zQ (.call 31 [qG,jl]))))
def GU:List Ev.S:=[.set 4 (.bi .tuple [De]),.ifs Ou [.app 1 qf] []]
def PJ:List Ev.S:=[.zS 0 [3] (.e qf) GU]
def XT:List Ev.L:=[(kZ 1),(kZ 2),(kZ 4),(kZ 8),(kZ 16),(kZ 32),(kZ 64)]
def Ox:Ev.S:=.set 8 (.call 28 [qG,yo 10,kO])
def GX:Ev.S:=.ifs (.e (.cm .gt (.op .mod (.call 26 [qG,yo 40]) (kZ 3)) (kZ 0))) [.set 8 (.sl 0 (.qS 8) [] [(.op .add (kZ 1) (.op .mod (.call 26 [qG,yo 41]) (kZ 2)))])] []
def Oy:Ev.S:=.app 4 (.qE [zi,(.ite (.e (.cm .gt (.op .mod (.call 26 [qG,(.op .add (.op .add qR (kZ 70)) zi)]) (kZ 4)) (kZ 0))) (.qS 8) (.qE []))])
def Dg:List Ev.S:=[Ox,GX,Oy]
def Oz:Ev.L:=.comp 0 qG (.rng [zQ]) [(.e (.cm .ne qG kO))]
def GY:Ev.L:=.idx (.qA [(kZ 1),(kZ 1),(kZ 2),(kZ 2),(kZ 3),(kZ 0)]) (.op .mod (.call 26 [qG,(.op .add (.op .add qR (kZ 1)) zi)]) (kZ 6))
def PL:List Ev.S:=[.set 6 Oz,.zS 0 [7] (.rng [GY]) Dg]
def GW:Ev.S:=.set 3 (.op .mod (.call 26 [qG,qR]) (.op .add qf (kZ 1)))
def LV:Ev.S:=.set 5 (.comp 0 qG (.e qG) [(.e (.call 2 [qG,zi]))])
def LW:Ev.S:=.set 6 (.comp 0 qG (.e qG) [(.not (.e (.call 2 [qG,zi])))])
def LX:Ev.S:=.ifs (.and (.e zi) (.and (.e kO) (.e (.cm .lt (.op .add (kZ 1) (.call 24 [(.bi .max2 [(.bi .len [zi]),(.bi .len [kO])])])) zQ)))) [.set 7 (.bi .max2 [(.call 22 [zi,qR,qf]),(.call 22 [kO,qR,qf])]),.set 3 (.bi .min2 [zQ,(.op .add (kZ 1) Al)])] []
def fb:List Ev.S:=[LV,LW,LX]
def mG:Ev.S:=.set 5 (.bi .tuple [(.comp 0 qG (.e qG) [(.e (.cm .mem zi qG))])])
def mH:Ev.S:=.set 6 (.bi .tuple [(.comp 0 qG (.e qG) [(.e (.cm .w6 zi qG))])])
def Oo:Ev.S:=.ifs (.and (.e (.cm .ne zi (.qE []))) (.e (.cm .ne kO (.qE [])))) [.app 3 (.op .add (kZ 1) (.bi .max2 [(.call 37 [zi,qR,qf]),(.call 37 [kO,qR,qf])]))] []
def lf:List Ev.S:=[mG,mH,Oo]
def mU:Ev.S:=.set 4 (.bi .len [(.comp 0 qG (.e qG) [(.e (.cm .mem jl qG))])])
def mV:Ev.S:=.set 5 (.bi .abs [(.op .sub jl (.op .sub (.bi .len [qG]) jl))])
def Ow:Ev.S:=.ifs (.or (.e (.cm .P6 qf (.qo .qI))) (.e (.cm .lt zi (.idx qf (kZ 0))))) [.set 2 (.qE [zi,zQ])] []
def lq:List Ev.S:=[mU,mV,Ow]
def lT:Ev.S:=.set 10 (.call 26 [qG,(.op .add (kZ 102) (.qS 9))])
def lU:Ev.S:=.set 11 (.op .sub (.op .mod (.op .fdiv (.qS 10) (kZ 8)) (.op .add qf (kZ 2))) (kZ 1))
def lV:Ev.S:=.set 12 (.ite (.e (.cm .gt (.op .mod (.qS 10) (kZ 4)) (kZ 0))) (.cm .mem (.qS 11) Al) (.cm .eq (.op .mod (.op .fdiv (.qS 10) (kZ 64)) (kZ 2)) (kZ 0)))
def lW:Ev.S:=.set 13 (.comp 0 qG (.e (.qS 8)) [(.e (.cm .eq (.cm .mem (.qS 12) qG) (.qS 13)))])
def lX:Ev.S:=.set 14 (.and (.cm2 .le .lt (kZ 0) (.qS 11) qf) (.cm .ne (.qS 13) (.qA [])))
noncomputable def lY:Ev.S:=.ifA [] 5 35 [(.qS 11),(.qS 12)] (.idx (.qA [(.qo (.str "state")),(.qo (.str "ok"))]) (.bi .toInt [(.qS 14)])) [.ret (.qo (.bl Qf))]
noncomputable def lZ:Ev.S:=.set 8 (.ite (.e (.qS 14)) (.qS 13) (.qS 8))
noncomputable def lg:Ev.S:=.ifs (.e (.cm .ne (.callM 16 (.bor 5) []) (.qS 8))) [.ret (.qo (.bl Qf))] []
noncomputable def Oi:Ev.S:=.appF 5 16 (.qE [])
def la:List Ev.S:=[lT,lU,lV,lW,lX,lY,lZ,lg,Oi]
noncomputable def m4:Ev.S:=.set 11 (.callM 17 (.bor 5) [])
def m5:Ev.S:=.ifA [(.e (.cm .ne (.qS 11) (.call 36 [(.qS 8),qf])))] 5 35 [(.qS 11),(.cm .mem (.qS 11) (.idx (.qS 8) (.neg (kZ 1))))] (.qo (.str "ok")) [.ret (.qo (.bl Qf))]
def m6:Ev.S:=.set 8 (.comp 0 qG (.e (.qS 8)) [(.e (.cm .eq (.cm .mem (.qS 12) qG) (.cm .mem (.qS 12) (.idx (.qS 9) (.neg (kZ 1))))))])
noncomputable def m7:Ev.S:=.ifs (.e (.cm .ne (.callM 16 (.bor 5) []) (.qS 8))) [.ret (.qo (.bl Qf))] []
def lc:List Ev.S:=[m4,m5,m6,m7]
def mr:Ev.S:=.set 1 (.call 29 [qG,(kZ 0),(kZ 4)])
def mv:Ev.S:=.set 2 (.idx qR (kZ 0))
def my:Ev.S:=.set 3 (.call 32 [qR])
def mz:Ev.S:=.set 4 (.call 21 [qR])
def n6:Ev.S:=.ifs (.or (.not (.e (.call 27 [jl]))) (.e (.cm .ne jl (.vM 37 [(.bi .tuple [zQ]),qf])))) [.ret (.qo (.bl Qf))] []
def n7:Ev.S:=.new 5 15 [(.qE [qf,(.bi .list [(.idx qR (kZ 1))])])]
def n8:Ev.S:=.new 6 15 [qR]
def n9:Ev.S:=.set 7 (.idx zQ (.op .mod (.call 26 [qG,(kZ 100)]) (.bi .len [zQ])))
def nA:Ev.S:=.set 8 zQ
def SP:Ev.S:=.zS 0 [9] (.rng [(.op .mod (.call 26 [qG,(kZ 101)]) (kZ 4))]) la
def SJ:Ev.S:=.whl (.e (.cm .gt (.bi .len [(.qS 8)]) (kZ 1))) lc
def mw:Ev.S:=.ifs (.or (.e (.cm .C8 (.callM 17 (.bor 5) []) (.qo .qI))) (.or (.e (.cm .ne (.callM 16 (.bor 6) []) zQ)) (.e (.cm .ne (.callM 17 (.bor 6) []) (.call 36 [zQ,qf]))))) [.ret (.qo (.bl Qf))] []
def SN:Ev.S:=.ret (.cm .eq (.call 34 [(.qE [(kZ 1),(.qA [(.qE [(kZ 0),(.qE [(kZ 0)])])])])]) (.qo (.str "rules")))
def lM:List Ev.S:=[.set 1 (kZ 0),.zS 0 [2] (.e qG) [.aug 1 .bor (.op .shl (kZ 1) qf)],.ret qR]
def lS:List Ev.S:=[.ret (.bi .tuple [(.comp 0 qG (.rng [(.bi .bits [qG])]) [(.e (.call 2 [qR,qG]))])])]
def lH:List Ev.S:=[.ret (.cm .eq (.op .band (.op .shr qG qR) (kZ 1)) (kZ 1))]
def lN:List Ev.S:=[.ret (.op .sub (.op .shl (kZ 1) qG) (kZ 1))]
def lP:List Ev.S:=[.setE 1 (.idx qG (kZ 0)),.zS 0 [2] (.e (.idx qG (kZ 1))) Df,.retO 1]
def lO:List Ev.S:=[.ifs (.e (.call 2 [qR,qf])) [.ret (.qo (.bl Qf))] [],.zS 0 [3] (.e (.idx qG qf)) [.ifs (.e (.cm .eq (.op .band zQ qR) zQ)) [.ret (.qo (.bl Qb))] []],.ret (.qo (.bl Qf))]
def lQ:List Ev.S:=[.ret (.comp 0 qG (.e (.call 1 [qf])) [(.e (.call 5 [qR,qf,qG]))])]
def lR:List Ev.S:=[.jF 2 (.z7 (kZ 0) (.qo (.bl Qb))),.jF 3 (.qA [(kZ 0)]),.whl (.e (.bor 3)) Dh,.retO 2]
def GI:List Ev.S:=[.ret (.and (.bi .isInt [qG]) (.not (.bi .isBool [qG])))]
def lI:List Ev.S:=[.ifs (.not (.e (.bi .isTup [qR]))) [.ret (.qo (.bl Qf))] [],.set 2 (.neg (kZ 1)),.zS 0 [3] (.e qR) PQ,.ret (.qo (.bl Qb))]
def lL:List Ev.S:=[GZ,.set 1 (.idx qG (kZ 0)),.set 2 (.idx qG (kZ 1)),PO,Ge,.zS 0 [3] (.e qf) PM,.zS 0 [4] (.rng [(kZ 1),(.bi .len [qf])]) PN]
def XO:List Ev.S:=[.ifs (.or (.not (.e (.bi .isTup [qR]))) (.e (.cm .ne (.bi .len [qR]) (kZ 2)))) [.raise 1] [],.set 2 (.idx qR (kZ 0)),.set 3 (.idx qR (kZ 1)),.ifs (.or (.not (.e (.call 8 [qf]))) (.or (.e (.cm .lt qf (kZ 0))) (.e (.cm .ge qf qG)))) [.raise 1] [],.ifs (.not (.e (.call 9 [qG,zQ]))) [.raise 1] [],.ifs (.e (.cm .mem qf zQ)) [.raise 1] []]
def Tb:List Ev.S:=[.ret (.skey (.comp 0 (.call 1 [qG]) (.e (.call 14 [qG])) []) 13)]
def GQ:List Ev.S:=[.ret (.qE [(.bi .len [qG]),qG])]
def Ta:List Ev.S:=[.expr (.call 10 [qG]),.ret (.call 7 [(.call 4 [qG]),(.call 3 [(.idx qG (kZ 0))])])]
def PD:List Ev.S:=[.setA 0 1 (.idx qR (kZ 0))]
def DV:List Ev.S:=[.retL (.fld qG 0)]
def GF:List Ev.S:=[.ifs (.e (.cm .eq (.bi .len [(.fld qG 0)]) (kZ 1))) [.ret (.qo .qI)] [],.set 1 (.comp 0 (.callM 18 qR [qG]) (.rng [(.fld qG 1)]) []),.ret (.bi .index [qR,(.bi .wj [qR])])]
def Of:List Ev.S:=[.ret (.bi .abs [(.op .sub (.bi .len [(.callM 19 qG [qR,(.qo (.bl Qb))])]) (.bi .len [(.callM 19 qG [qR,(.qo (.bl Qf))])]))])]
def Oe:List Ev.S:=[.ret (.comp 0 qG (.e (.fld qG 0)) [(.e (.cm .eq (.cm .mem qf qG) zQ))])]
noncomputable def Od:List Ev.S:=[]
def Og:List Ev.S:=[.set 1 (.bi .sorted [(.call 14 [qG])]),.ret (.vM 22 [qR,(.idx qG (kZ 0))])]
def GH:List Ev.S:=[.ifs (.e (.cm .eq (.bi .len [qG]) (kZ 1))) [.ret (kZ 0)] [],.set 3 (.bi .tuple [qG]),.memo 2 3 [] (.call 23 [qG,qR,qf])]
def GG:List Ev.S:=[.set 3 (.bi .len [qG]),.zS 0 [4] (.rng [qR]) fb,.ret zQ]
def GP:List Ev.S:=[.ret (.bi .bits [(.op .sub qG (kZ 1))])]
def PF:List Ev.S:=[.ifs (.e qG) [.ret (.idx qG (.op .mod qR (.bi .len [qG])))] [],.ret (kZ 0)]
def DY:List Ev.S:=[.set 2 (.op .mod (.op .add (.call 25 [qG,qR]) (.op .mul (kZ 104729) (.op .add qR (kZ 1)))) (kZ 4294967291)),.set 2 (.op .mod (.op .mul qf (kZ 48271)) (kZ 4294967279)),.ret (.op .mod (.op .add (.op .mul (.op .fdiv qf (kZ 64)) (kZ 69621)) qf) (kZ 4294967231))]
def Oh:List Ev.S:=[.ret (.and (.bi .isInt [qG]) (.not (.bi .isBool [qG])))]
def GO:List Ev.S:=[.set 3 (.op .fdiv (.call 26 [qG,qR]) (kZ 8)),.ret (.bi .tuple [(.comp 0 (.idx zQ qG) (.rng [(.bi .len [qf])]) [(.e (.cm .eq (.op .mod (.op .fdiv jl (.idx (.qA XT) qG)) (kZ 2)) (kZ 1)))])])]
def GN:List Ev.S:=[GW,.jF 4 (.qA []),.zS 0 [5] (.rng [zQ]) PL,.ret (.qE [zQ,(.bi .vY [(.bor 4)])])]
def uC:List Ev.S:=[.set 1 (.qA [(.qE [])]),.zS 0 [2] (.rng [qG]) [.set 1 (.op .add qR (.comp 0 (.op .add qG (.qE [zQ])) (.e qR) []))],.ret (.comp 2 qR (.e (.bi .sorted [(.comp 0 (.qE [(.bi .len [qG]),qG]) (.e qR) [])])) [])]
def lJ:List Ev.S:=[.jF 2 (.qA []),.zS 0 [3] (.rng [(.idx qG (kZ 0))]) PK,.retO 2]
def lK:List Ev.S:=[.jF 1 (.qA [(.qE [])]),.zS 0 [2] (.e (.sl 0 (.call 30 [(.idx qG (kZ 0))]) [(kZ 1)] [])) PJ,.retO 1]
def XN:List Ev.S:=[.ifs (.e (.cm .P6 qG (.qo .qI))) [.ret (.qo (.str "ok"))] [],.set 1 (.qA [(.bi (.isExc 4) [qG]),(.bi (.isExc 1) [qG]),(.bi (.isExc 2) [qG])]),.set 1 (.op .add qR (.qA [(.bi (.isExc 5) [qG]),(.bi (.isExc 3) [qG])])),.ifs (.or (.e (.cm .ne (.bi .count [qR,(.qo (.bl Qb))]) (kZ 1))) (.not (.e (.bi .isVal [qG])))) [.ret (.qo (.str "wrong"))] [],.ret (.idx (.qA [(.qo (.str "number")),(.qo (.str "rules")),(.qo (.str "state")),(.qo (.str "text")),(.qo (.str "unlike"))]) (.bi .index [qR,(.qo (.bl Qb))]))]
def GJ:List Ev.S:=[.set 1 (.qo .qI),.tryE [.newX 15 [qG]] 0 2 1,.ret (.call 33 [qR])]
def PE:List Ev.S:=[.set 3 (.qo .qI),.tryE [.expM 0 20 [qR,qf]] 0 4 3,.ret (.call 33 [zQ])]
def GL:List Ev.S:=[.set 2 (.qo .qI),.zS 0 [3] (.rng [qR]) lq,.ret (.ite (.e (.cm .gt (.bi .len [qG]) (kZ 1))) (.idx qf (kZ 1)) (.qo .qI))]
def DX:List Ev.S:=[.ifs (.e (.cm .eq (.bi .len [qG]) (kZ 1))) [.ret (kZ 0)] [],.memo 2 0 [.jF 3 (.qA []),.zS 0 [4] (.rng [qR]) lf] (.bi .wj [(.bor 3)])]
def DW:List Ev.S:=[mr,mv,my,mz,n6,n7,n8,n9,nA,SP,SJ,mw,SN]
def Cr:List Ev.S×Nat×Ev.L:=([],0,(.call 12 [qR]))
def FK:List Ev.S×Nat×Ev.L:=([.ifs (.or (.e (.cm .lt qR (kZ 0))) (.e (.cm .ge qR (.fld qG 1)))) [.raise 2] [],.set 3 (.callM 19 qG [qR,qf]),.ifs (.not (.e zQ)) [.raise 2] []],0,zQ)
noncomputable def qB(a b:Nat):Bool:=a==b||b==0
structure Dm where
 np:Nat
 nN:Nat
 l:List Ev.S
 nw:Bool:=Qf
 md:Bool:=Qf
 A:Option (List Ev.S×Nat×Ev.L):=Qc
def RO:List Dm:=[#[1,3,lM,Qf,Qf,Qc],#[1,1,lS,Qf,Qf,Qc],#[2,2,lH,Qf,Qf,Qc],#[1,1,lN,Qf,Qf,Qc],#[1,3,lP,Qf,Qf,Qc],#[3,4,lO,Qf,Qf,Qc],#[3,3,lQ,Qf,Qf,Qc],#[2,7,lR,Qf,Qf,Qc],#[1,1,GI,Qf,Qf,Qc],#[2,4,lI,Qf,Qf,Qc],#[1,5,lL,Qf,Qf,Qc],#[2,4,XO,Qf,Qf,Qc],#[1,1,Tb,Qf,Qf,Qc],#[1,1,GQ,Qf,Qf,Qc],#[1,1,Ta,Qf,Qf,Qc],#[2,2,PD,Qf,Qf,Qa Cr],#[1,1,DV,Qb,Qf,Qc],#[1,2,GF,Qf,Qf,Qc],#[2,2,Of,Qf,Qf,Qc],#[3,3,Oe,Qf,Qf,Qc],#[3,4,Od,Qf,Qf,Qa FK],#[1,2,Og,Qf,Qf,Qc],#[3,4,GH,Qf,Qf,Qc],#[3,8,GG,Qf,Qf,Qc],#[1,1,GP,Qf,Qf,Qc],#[2,2,PF,Qf,Qf,Qc],#[2,3,DY,Qf,Qf,Qc],#[1,1,Oh,Qf,Qf,Qc],#[3,4,GO,Qf,Qf,Qc],#[3,9,GN,Qf,Qf,Qc],#[1,3,uC,Qf,Qf,Qc],#[2,5,lJ,Qf,Qf,Qc],#[1,5,lK,Qf,Qf,Qc],#[1,2,XN,Qf,Qf,Qc],#[1,3,GJ,Qf,Qf,Qc],#[3,5,PE,Qf,Qb,Qc],#[2,6,GL,Qf,Qf,Qc],#[3,7,DX,Qf,Qf,Qc],#[1,15,DW,Qf,Qf,Qc]]
noncomputable def Gm:Nat->Nat->List D->R D
 |0,_,_=>.qC
 |n+1,f,xs=>match RO[f]?with
  |some d=>if xs.length=d.np then(match d.A with
   |some a=>Ev.yS (Gm n) qB d.nN a.1 a.2.1 a.2.2 d.l xs
   |none=>if d.md then Ev.Ts (Gm n) qB d.nN d.l xs else if d.nw then Ev.Tt (Gm n) qB d.nN d.l xs else Ev.run (Gm n) qB d.nN d.l xs)else .qC
  |none=>.qC
noncomputable def ix:Ix:=#[0,1,2,3,4,5,6,7,8,9,10,11,12,13,14,15,18,19,20,21,22,23,24,25,26,27,28,29,30]
def q2W(k:Nat)(ts:List Nat)(h:∀t∈ts,t<=1000)(d:D)(hd:d=.qE (nL ts)\/d=.qA (nL ts)):Gm (k+1) 0 [d]=.ok (nI (vB 0 ts)):=q7o ts h d hd
def Lj(k m t:Nat):Gm (k+1) 2 [nI m,nI t]=.ok (.bl (m.testBit t)):=q7l (G:=Gm k) (sub:=qB) m t
def gS(k m:Nat)(h:m<2^62):Gm (k+2) 1 [nI m]=.ok (.qE (nL (zW m))):=q84 (f:=ix) (λm t=>Lj k m t) m h
def q2F(k n:Nat)(h:n<=1000):Gm (k+1) 3 [nI n]=.ok (nI (2^n-1)):=q7p n h
def q2X(k:Nat)(nd:List (List Nat))(m t:Nat)(h:t<nd.length):Gm (k+2) 5 [vU nd,nI m,nI t]=.ok (.bl (jD nd m t)):=q7q (f:=ix) (λm t=>Lj k m t) nd m t h
def q2Y(k:Nat)(nd:List (List Nat))(m b:Nat)(hb:b<2^nd.length)(e:nd.length<=60):Gm (k+3) 6 [vU nd,nI m,nI b]=.ok (.qA (nL (uG nd m b))):=
 q7s (f:=ix) (λm h=>gS k m h) nd (λm t h=>q2X k nd m t h) m b hb e
def Sm(a b:Nat):Prop:=∀i,a.testBit i=Qb->b.testBit i=Qb
def IG{x k:Nat}:x&&&k=x↔Sm x k:=by
 constructor
 .intro h i hi;rw[<-h,Nat.testBit_and,Qo]at hi;exact hi.2
 .intro h;refine YS λi=>?_;rw[Nat.testBit_and];cases q:x.testBit i with
  |false=>rfl
  |true=>rw[h i q];rfl
def RJ(k t i:Nat):(k|||1<<<t).testBit i=(k.testBit i||decide (t=i)):=by rw[Nat.testBit_or,Wr,Nat.testBit_two_pow]
def q0M(ts:List Nat):∀(m i:Nat),(vB m ts).testBit i=(m.testBit i||decide (i∈ts)):=by
 induction ts with
 |nil=>intro m i;simp[vB]
 |cons t ts b=>
  intro m i;show(vB (m|||1<<<t) ts).testBit i=_;rw[b,RJ,Bool.or_assoc];congr 1
  by_cases h:t=i
  .subst h;simp
  .have h':¬i=t:=λe=>h e.symm;simp[h,h']
def FR(ts:List Nat)(i:Nat):(vB 0 ts).testBit i=decide (i∈ts):=by rw[q0M];simp
def q93(a b:Nat):Sm a (a|||b):=λi x=>by rw[Nat.testBit_or,x];rfl
def S6{a:Nat}(h:a<2^n)(q:a.testBit t=Qb):t<n:=(Zw (by decide:1<2)).mp (Jr (UX q) h)
def q4g{a:Nat}(h:∀i,a.testBit i=Qb->i<n):a<2^n:=Nat.lt_pow_two_of_testBit _ λi hi=>by
 cases q:a.testBit i with
 |false=>rfl
 |true=>exact absurd (h i q) ∅
def Dl:(2^n-1).testBit t=Qb↔t<n:=by rw[Nat.testBit_two_pow_sub_one];simp
inductive Rch(nd:List (List Nat)):Nat->Prop
 |z:Rch nd 0
 |s {k t:Nat}:Rch nd k->jD nd k t=Qb->Rch nd (k|||1<<<t)
def Gh{k:Nat}(h:jD nd k t=Qb):t<nd.length:=by
 unfold jD at h;rw[Qo]at h;refine Nat.lt_of_not_le λg=>?_;have:nd.getD t []=[]:=by simp[JN,g]
 rw[this]at h;simp at h
def q4r{k:Nat}(h:jD nd k t=Qb):k.testBit t=Qf:=by unfold jD at h;rw[Qo]at h;simpa using h.1
def Tr(h:Rch nd k):k<2^nd.length:=by
 refine q4g λi=>?_
 induction h with
 |z=>simp
 |s g b e=>
  intro q;rw[RJ,Vp]at q;rcases q with q|q
  .exact e q
  .rw[<-of_decide_eq_true q];exact Gh b
theorem xR:∀(N:Nat)(l:List Nat),l.Nodup->(∀x∈l,x<N)->l.length<=N
 |0,l,_,h=>by
  cases l with
  |nil=>simp
  |cons a l=>exact absurd (h a Qg) ∅
 |N+1,l,d,h=>by
  have b:=xR N (l.erase N) (d.erase N) λx g=>by have e:=(d.mem_erase_iff).mp g;have k:=h x e.2;have p:=e.1;lia
  by_cases m:N∈l
  .rw[Y0 m]at b;lia
  .rw[List.erase_of_not_mem m]at b;lia
noncomputable def jX(k:Nat):List Nat->List Nat->List Nat
 |_,[]=>[]
 |ks,t::ts=>if k|||1<<<t∈ks then jX k ks ts else(k|||1<<<t)::jX k (ks++[k|||1<<<t]) ts
noncomputable def wy(n:Nat):List D:=Qj n (.bl Qb)
theorem pA(i:Nat):∀(ks:List Nat),i∉ks->put (i:Int) (.bl Qb) (nL ks) (wy ks.length)=.ok (nL (ks++[i]),wy (ks++[i]).length)
 |[],_=>rfl
 |k::ks,h=>by
  have b:¬((k:Int)=i):=λe=>h (by have:k=i:=∅;subst this;exact Qg)
  show put (i:Int) (.bl Qb) (nI k::nL ks) (.bl Qb::wy ks.length)=_;unfold nI put;rw[if_neg b,(pA i ks λg=>h (Qd _ g))];rfl
def FL(l:List Nat)(i:Nat):(nL l).any (λy=>qM y (nI i))=decide (i∈l):=by
 induction l with
 |nil=>simp
 |cons a l b=>
  rw[vz,JB,b,Fl]
  by_cases h:a=i
  .subst h;simp
  .have:¬i=a:=λe=>h e.symm;simp[h,this]
def oI(l:List Nat)(v:List D)(i:Nat):qj .w6 (nI i) (.z7 (nL l) v)=.ok (.bl (!decide (i∈l))):=by have e:memD (nI i) (.z7 (nL l) v)=.ok ((nL l).any λy=>qM y (nI i)):=rfl;have b:qj .w6 (nI i) (.z7 (nL l) v)=(memD (nI i) (.z7 (nL l) v)).bind λr=>.ok (.bl (!r)):=rfl;rw[b,e,FL];rfl
theorem bA{G:Nat->List D->R D}(a b:Option Sl)(N k:Nat)(C:N<=1000):∀(ts ks ws:List Nat)(x y:Option Sl),ks.Nodup->(∀z∈ks,z<N)->(∀t∈ts,t<=1000/\k|||1<<<t<N)->ws.length<=ks.length->
  ∃g p,jS (qL G qB Gf) 0 [5] (nL ts) [a,b,Qa (.own (.z7 (nL ks) (wy ks.length))),Qa (.own (.qA (nL ws))),sv (nI k),x,y]=
   .ok [a,b,Qa (.own (.z7 (nL (ks++jX k ks ts)) (wy (ks++jX k ks ts).length))),Qa (.own (.qA (nL (ws++jX k ks ts)))),sv (nI k),g,p] .nx
 |[],ks,ws,x,y,_,_,_,_=>#[x,y,by simp[jX,T8]]
 |t::ts,ks,ws,x,y,hd,hk,ht,hw=>by
  have w:=ht t Qg;have O:=xR N ks hd hk;have E:∀u∈ts,u<=1000/\k|||1<<<u<N:=λu hu=>ht u (Qd _ hu)
  rw[vz,vm]
  by_cases q:k|||1<<<t∈ks
  .obtain⟨g,p,e⟩:=bA (G:=G) a b N k C ts ks ws (sv (nI t)) (sv (nI (k|||1<<<t))) hd hk E hw;refine#[g,p,?_];have A:jX k ks (t::ts)=jX k ks ts:=(by rw[jX,if_pos q]);rw[A,<-e];simp[Gf,Tf,w.1,oI,q]
  .obtain⟨g,p,e⟩:=bA (G:=G) a b N k C ts (ks++[k|||1<<<t]) (ws++[k|||1<<<t]) (sv (nI t)) (sv (nI (k|||1<<<t)))
    (QS.mpr #[hd,by simp,λu hu v hv=>by rw[QE]at hv;subst hv;exactλz=>q (z▸hu)])
    (λz K=>by
     rcases QF.mp K with h|h
     .exact hk z h
     .rw[QE]at h;subst h;exact w.2) E (by simp;lia)
   refine#[g,p,?_];have A:jX k ks (t::ts)=(k|||1<<<t)::jX k (ks++[k|||1<<<t]) ts:=(by rw[jX,if_neg q]);have B:∀l:List Nat,l++jX k ks (t::ts)=(l++[k|||1<<<t])++jX k (ks++[k|||1<<<t]) ts:=λl=>by rw[A];simp
   rw[B,B,<-e];have F:ws.length<big:=(by rw[jZ];lia);have H:∀Z:Ev.Env,Z[2]?=Qa (Qa (.own (.z7 (nL ks) (wy ks.length))))->Z[6]?=Qa (sv (nI (k|||1<<<t)))->ex G qB (.put 2 kO (.qo (.bl Qb))) Z=
     .ok (Z.set 2 (Qa (.own (.z7 (nL (ks++[k|||1<<<t])) (wy (ks++[k|||1<<<t]).length))))) .nx:=λZ I J=>by
    rw[fh,I];simp only[qt,qQ,Ll,J];show(if(nL ks).length<big then(put ((k|||1<<<t:Nat):Int) (.bl Qb) (nL ks) (wy ks.length)).go Z _ else _)=_;rw[vT,if_pos (by rw[jZ];lia),(pA (k|||1<<<t) ks q)];rfl
   simp only[Gf,yZ,zZ,kA];simp[-fh,Tf,w.1,oI,q,H,F]
structure Inv(nd:List (List Nat))(ks ws:List Nat):Prop where
 nodup:ks.Nodup
 AG:∀x∈ks,Rch nd x
 zero:0∈ks
 sub:∀x∈ws,x∈ks
 cl:∀x∈ks,x∈ws\/∀t,jD nd x t=Qb->x|||1<<<t∈ks
theorem Sv{k x:Nat}:∀(ts ks:List Nat),x∈jX k ks ts->∃t∈ts,x=k|||1<<<t
 |[],ks,h=>by simp[jX]at h
 |t::ts,ks,h=>by
  unfold jX at h;split at h
  .refine qH (Sv ts ks h) λu hu e=>?_;exact#[u,Qd _ hu,e]
  .rcases Ql.mp h with h|h
   .exact#[t,Qg,h]
   .refine qH (Sv ts _ h) λu hu e=>?_;exact#[u,Qd _ hu,e]
theorem Sr:∀(ts ks:List Nat)(t:Nat),t∈ts->k|||1<<<t∈ks++jX k ks ts
 |u::ts,ks,t,h=>by
  unfold jX;split
  .rename_i q;rcases Ql.mp h with rfl|h
   .exact QR _ q
   .exact Sr ts ks t h
  .rcases Ql.mp h with rfl|h
   .simp
   .have:=Sr (k:=k) ts (ks++[k|||1<<<u]) t h;simpa using this
theorem Sw:∀(ts ks:List Nat),ks.Nodup->(ks++jX k ks ts).Nodup
 |[],ks,h=>by simpa[jX]using h
 |t::ts,ks,h=>by
  unfold jX;split
  .exact Sw ts ks h
  .rename_i q;have:=Sw (k:=k) ts (ks++[k|||1<<<t]) (QS.mpr #[h,by simp,λu hu v hv=>by rw[QE]at hv;subst hv;exactλz=>q (z▸hu)]);simpa using this
def cW(n:Nat):∀t,t∈zW (2^n-1)↔t<n:=λt=>wh.trans Dl
theorem sA(K:Nat)(O:nd.length<=9):∀(f:Nat)(ks ws:List Nat)(x y z:Option Sl),Inv nd ks ws->ws.length<=ks.length->2^nd.length-ks.length+ws.length<f->
  ∃v C E z',Inv nd v []/\x6 (z9 (Gm (K+3)) qB (.e (.bor 3))) (qL (Gm (K+3)) qB Dh) f [sv (vU nd),sv (nI (2^nd.length-1)),Qa (.own (.z7 (nL ks) (wy ks.length))),Qa (.own (.qA (nL ws))),x,y,z]=
   .ok [sv (vU nd),sv (nI (2^nd.length-1)),Qa (.own (.z7 (nL v) (wy v.length))),Qa (.own (.qA [])),C,E,z'] .nx
 |0,ks,ws,x,y,z,_,_,h=>absurd h ∅
 |f+1,ks,ws,x,y,z,I,hl,h=>by
  rw[sZ];rcases List.eq_nil_or_concat ws with rfl|⟨ws,k,rfl⟩
  .exact#[ks,x,y,z,I,by simp]
  .have V:2^nd.length<=1000:=Qw (Q1 (by decide) O) (by decide);have J:=I.AG k (I.sub k (by simp));have X:∀x∈ks,x<2^nd.length:=λx p=>Tr (I.AG x p);generalize u:uG nd k (2^nd.length-1)=ts;have w:∀t∈ts,jD nd k t=Qb:=λt b=>by rw[<-u]at b;exact(QJ.mp b).2
   have B:∀t,jD nd k t=Qb->t∈ts:=λt b=>by rw[<-u];exact QJ.mpr #[(cW _ t).mpr (Gh b),b]
   have A:∀t∈ts,t<=1000/\k|||1<<<t<2^nd.length:=λt b=>#[by have:=Gh (w t b);lia,Tr (.s J (w t b))]
   have Y:ws.length<=ks.length:=(by simp at hl;lia);obtain⟨C,E,e⟩:=bA (G:=Gm (K+3)) (sv (vU nd)) (sv (nI (2^nd.length-1))) (2^nd.length) k V ts ks ws y z I.nodup X A Y;have F:=Sw (k:=k) ts ks I.nodup;have P:∀x∈ks++jX k ks ts,Rch nd x:=λx p=>by
    rcases QF.mp p with h|h
    .exact I.AG x h
    .obtain⟨t,b,rfl⟩:=Sv ts ks h;exact .s J (w t b)
   have Q:Inv nd (ks++jX k ks ts) (ws++jX k ks ts):=by
    refine#[F,P,QR _ I.zero,λx p=>?_,λx p=>?_]
    .rcases QF.mp p with h|h
     .exact QR _ (I.sub x (by simp[h]))
     .exact Qr _ h
    .rcases QF.mp p with h|h
     .by_cases q:x=k
      .subst q;exact .inr λt b=>Sr ts ks t (B t b)
      .rcases I.cl x h with g|g
       .refine .inl (QR _ ?_);simp at g;exact g.resolve_right q
       .exact .inr λt b=>QR _ (g t b)
     .exact .inl (Qr _ h)
   have W:=xR _ _ F λx p=>Tr (P x p);obtain⟨v,x2,y2,z2,T,U⟩:=sA K O f (ks++jX k ks ts) (ws++jX k ks ts) (sv (nI k)) C E Q (by simp;lia) (by simp at h W|-;lia);refine#[v,x2,y2,z2,T,Eq.trans ?_ U];have H:=q2Y K nd k (2^nd.length-1) (by have:=Nat.one_le_two_pow (n:=nd.length);lia) ∅;rw[u]at H;simp[Dh,H,e]
def q3W(I:Inv nd ks [])(x:Nat):x∈ks↔Rch nd x:=by
 refine#[I.AG x,λh=>?_]
 induction h with
 |z=>exact I.zero
 |s g b e=>
  rcases I.cl _ e with h|h
  .cases h
  .exact h _ b
def q2g(K:Nat)(k:nd.length<=9):∃ks:List Nat,ks.Nodup/\(∀x,x∈ks↔Rch nd x)/\Gm (K+4) 7 [vU nd,nI (2^nd.length-1)]=.ok (.z7 (nL ks) (wy ks.length)):=by
 have u:2^nd.length<=1000:=Qw (Q1 (by decide) k) (by decide);have q:Inv nd [0] [0]:=#[by simp,λx b=>by rw[QE]at b;subst b;exact .z,by simp,λx b=>b,λx b=>.inl b]
 obtain⟨ks,x,y,z,I,e⟩:=sA K k 100000 [0] [0] Qc Qc Qc q (by simp) (by simp;lia);refine#[ks,I.nodup,q3W I,?_];show Ev.run (Gm (K+3)) qB 7 [.jF 2 (.z7 (kZ 0) (.qo (.bl Qb))),.jF 3 (.qA [(kZ 0)]),.whl (.e (.bor 3)) Dh,.retO 2] [vU nd,nI (2^nd.length-1)]=_;generalize h:ex (Gm (K+3)) qB (.whl (.e (.bor 3)) Dh)=W;have g:=congrFun h [sv (vU nd),sv (nI (2^nd.length-1)),Qa (.own (.z7 (nL [0]) (wy 1))),Qa (.own (.qA (nL [0]))),Qc,Qc,Qc];rw[fo]at g;replace g:=e.symm.trans g;simp only[Ev.run,yZ,zZ,h];have hb:(1:Nat)<=big:=by decide
 simp[hb];rw[show(D.int 0)=nI 0 from rfl];have p:W [sv (vU nd),sv (nI (2^nd.length-1)),Qa (.own (.z7 [nI 0] [.bl Qb])),Qa (.own (.qA [nI 0])),Qc,Qc,Qc]=_:=g.symm;rw[p];simp
noncomputable def iL(b:List Int):List D:=b.map D.int
@[simp]def qAt:iL []=[]:=rfl
@[simp]def OO(z:Int)(l:List Int):iL (z::l)=.int z::iL l:=rfl
@[simp]def q3N(l:List Int):(iL l).length=l.length:=Qm _
def q5C(l:List Nat):nL l=iL (l.map λ(a:Nat)=>(a:Int)):=by simp[nL,iL,nI]
@[simp]def qBF(k:Nat)(l:List Int):(iL l).all (qV k)=Qb:=by simp[iL]
@[simp]def qBI(l:List Int):pl (.qE (iL l))=Qb:=by unfold pl;simp
@[simp]def qBD(l:List Int):zj (iL l)=Qb:=yr.mpr λd hd=>by obtain⟨a,_,rfl⟩:=Qv.mp hd;rfl
@[simp]def qAs(l:List Int):zO (iL l)=Qb:=kz.mpr λd hd=>by obtain⟨a,_,rfl⟩:=Qv.mp hd;simp[qJ]
@[simp]def LG(a b:Int):qM (.int a) (.int b)=decide (a=b):=by simp[qM]
def tP(l:List Int)(i:Int):(iL l).any (λy=>qM y (.int i))=decide (i∈l):=by
 induction l with
 |nil=>simp
 |cons a l b=>
  rw[OO,JB,b,LG]
  by_cases h:a=i
  .subst h;simp
  .have:¬i=a:=λe=>h e.symm;simp[h,this]
def q4z(i:Int)(l:List Int):qj .mem (.int i) (.qE (iL l))=.ok (.bl (decide (i∈l))):=by have b:qj .mem (.int i) (.qE (iL l))=(memD (.int i) (.qE (iL l))).bind λr=>.ok (.bl r):=rfl;rw[b,memD];simp[tP]
@[simp]def q4Q(a b:Int):qj .le (.int a) (.int b)=.ok (.bl (decide (a<=b))):=rfl
@[simp]def q2v(a b:Int):qj .gt (.int a) (.int b)=.ok (.bl (decide (b<a))):=rfl
@[simp]def q2j(a b:Int):qj .ge (.int a) (.int b)=.ok (.bl (!decide (a<b))):=by simp[qj,qJ,zm,qm]
@[simp]def me(a b:Int):qj .lt (.int a) (.int b)=.ok (.bl (decide (a<b))):=by simp[qj,qJ,zm,qm]
def Fy(k:Nat)(i:Int):Gm (k+1) 8 [.int i]=.ok (.bl Qb):=by show Ev.run (Gm k) qB 1 GI [.int i]=_;simp[Ev.run,GI]
noncomputable def wI(c:Int):Int->List Int->Bool
 |_,[]=>Qb
 |a,t::ts=>decide (a<t)&&decide (t<c)&&wI c t ts
theorem AO(k:Nat)(c:Int)(x:Option Sl):∀(b:List Int)(a:Int)(y:Option Sl),∃h q,jS (qL (Gm (k+1)) qB PQ) 0 [3] (iL b) [sv (.int c),x,sv (.int a),y]=
  .ok [sv (.int c),x,h,q] (if wI c a b=Qb then .nx else .ret (.bl Qf))
 |[],a,y=>#[sv (.int a),y,rfl]
 |t::b,a,y=>by
  obtain⟨h,q,e⟩:=AO k c x b t (sv (.int t));rw[OO,vm]
  by_cases u:a<t
  .by_cases p:t<c
   .refine#[h,q,?_];have g:¬t<=a:=∅;have v:wI c a (t::b)=wI c t b:=(by simp[wI,u,p]);rw[v,<-e];simp[PQ,Fy,g,p]
   .have g:¬t<=a:=∅;exact#[sv (.int a),sv (.int t),by simp[PQ,Fy,g,p,wI]]
  .have g:t<=a:=∅;exact#[sv (.int a),sv (.int t),by simp[PQ,Fy,g,u,wI]]
def q2O(k:Nat)(c:Int)(b:List Int):Gm (k+2) 9 [.int c,.qE (iL b)]=.ok (.bl (wI c (-1) b)):=by obtain⟨g,h,e⟩:=AO k c (sv (.qE (iL b))) b (-1) Qc;show Ev.run (Gm (k+1)) qB 4 [.ifs (.not (.e (.bi .isTup [qR]))) [.ret (.qo (.bl Qf))] [],.set 2 (.neg (kZ 1)),.zS 0 [3] (.e qR) PQ,.ret (.qo (.bl Qb))] [.int c,.qE (iL b)]=_;cases q:wI c (-1) b<;>simp[Ev.run,e,q]
abbrev Wy:=Int×Option (List Int)
def qv:Wy->D
 |(t,Qa zs)=>.qE [.int t,.qE (iL zs)]
 |(t,Qc)=>.qE [.int t]
def vG(c:Int):Wy->Bool
 |(t,Qa zs)=>decide (0<=t)&&decide (t<c)&&wI c (-1) zs&&!decide (t∈zs)
 |_=>Qf
def q5Q(a:D)(l:List D):vV (a::l) 0=.ok a:=by simp[vV]
def q5R(a b:D)(l:List D):vV (a::b::l) 1=.ok b:=by simp[vV]
def xK(a:D)(l:List D):kE (.qE (a::l)) (.int 0)=.ok a:=q5Q a l
def XM(a b:D)(l:List D):kE (.qE (a::b::l)) (.int 1)=.ok b:=q5R a b l
def q2h(k:Nat)(c:Int)(w:Wy):Gm (k+3) 11 [.int c,qv w]=if vG c w=Qb then .ok .qI else .err 1:=by
 show Ev.run (Gm (k+2)) qB 4 XO [.int c,qv w]=_;obtain⟨t,_|u⟩:=w
 .simp[Ev.run,XO,qv,vG,PW]
 .have b:=Fy (k+1) t;have e:=q2O k c u
  by_cases g:t<0
  .have:¬0<=t:=∅;simp[Ev.run,XO,qv,vG,PW,xK,XM,b,e,g,this]
  .have p:0<=t:=∅
   by_cases h:t<c
   .cases q:wI c (-1) u
    .simp[Ev.run,XO,qv,vG,PW,xK,XM,b,e,g,p,h,q]
    .by_cases v:t∈u<;>simp[Ev.run,XO,qv,vG,PW,xK,XM,b,e,g,p,h,q,q4z,v]
   .simp[Ev.run,XO,qv,vG,PW,xK,XM,b,e,g,p,h]
theorem pZ(k:Nat)(c:Int)(a b e:Option Sl):∀(ws:List Wy)(x:Option Sl),∃g,jS (qL (Gm (k+3)) qB PM) 0 [3] (ws.map qv) [a,sv (.int c),b,x,e]=
  if ws.all (vG c)=Qb then .ok [a,sv (.int c),b,g,e] .nx else .err 1 [a,sv (.int c),b,g,e]
 |[],x=>#[x,rfl]
 |w::ws,x=>by
  have h:=q2h k c w;rw[QK,vm];cases q:vG c w
  .refine#[sv (qv w),?_];simp[PM,h,q]
  .obtain⟨g,p⟩:=pZ k c a b e ws (sv (qv w));refine#[g,?_];rw[YE,q,VZ,<-p];simp[PM,h,q]
theorem dS:∀(a b:List Int),jw (iL a) (iL b)=Qb
 |[],_=>by simp[jw]
 |_::_,[]=>by simp[jw]
 |a::l,b::m=>by
  simp only[OO,jw,LG];split
  .exact dS l m
  .simp[zm]
noncomputable def R9:Wy->Bool
 |(_,Qa _)=>Qb
 |_=>Qf
def qAR{c:Int}(h:vG c w=Qb):R9 w=Qb:=by
 obtain⟨t,_|b⟩:=w
 .simp[vG]at h
 .rfl
def CJ(w:Wy):pl (qv w)=Qb:=by
 obtain⟨t,_|b⟩:=w
 .rfl
 .unfold pl qv;simp
def G2(w:Wy):qJ (qv w)=Qb:=by obtain⟨t,_|b⟩:=w<;>simp[qv,qJ,zO]
def Ij(v w:Wy)(hv:R9 v=Qb)(hw:R9 w=Qb):zm (qv v) (qv w)=Qb:=by
 obtain⟨t,_|b⟩:=v
 .cases hv
 obtain⟨u,_|ys⟩:=w
 .cases hw
 simp only[qv,zm,jw,LG];split
 .split
  .rfl
  .simp[zm,dS]
 .simp[zm]
def q2k(v w:Wy)(hv:R9 v=Qb)(hw:R9 w=Qb):qj .ge (qv v) (qv w)=.ok (.bl (!qm (qv v) (qv w))):=by
 have h:qj .ge (qv v) (qv w)=if pl (qv v)&&pl (qv w)&&qJ (qv v)&&qJ (qv w)&&zm (qv v) (qv w)then .ok (.bl (!qm (qv v) (qv w)))else .qC:=rfl
 rw[h,CJ,CJ,G2,G2,Ij v w hv hw];rfl
open Classical in
theorem pa{G:Nat->List D->R D}(a b e:Option Sl)(ws:List Wy)(hw:∀w∈ws,R9 w=Qb):∀(ps:List Nat)(x:Option Sl),(∀p∈ps,p+1<ws.length)->∃k,jS (qL G qB PN) 0 [4] (nL (ps.map (·+1))) [a,b,sv (.qA (ws.map qv)),e,x]=
  if(∀p∈ps,∀v w,ws[p]?=Qa v->ws[p+1]?=Qa w->qm (qv v) (qv w)=Qb)then .ok [a,b,sv (.qA (ws.map qv)),e,k] .nx else .err 1 [a,b,sv (.qA (ws.map qv)),e,k]
 |[],x,_=>#[x,by simp[T8]]
 |p::ps,x,hp=>by
  have H:=hp p Qg;obtain⟨v,hv⟩:∃v,ws[p]?=Qa v:=#[_,Qy ∅]
  obtain⟨w,g⟩:∃w,ws[p+1]?=Qa w:=#[_,Qy H]
  have z:kE (.qA (ws.map qv)) (nI p)=.ok (qv v):=uh _ _ _ (by rw[QB,hv];rfl);have A:kE (.qA (ws.map qv)) (nI (p+1))=.ok (qv w):=uh _ _ _ (by rw[QB,g];rfl);have B:=q2k v w (hw v (Qp hv)) (hw w (Qp g));have C:zT .sub (nI (p+1)) (nI 1)=.ok (nI p):=bF _ _ ∅;rw[QK,vz,vm]
  by_cases q:qm (qv v) (qv w)=Qb
  .obtain⟨k,E⟩:=pa (G:=G) a b e ws hw ps (sv (nI (p+1))) λr I=>hp r (Qd _ I);refine#[k,?_];have F:(∀r∈p::ps,∀v w,ws[r]?=Qa v->ws[r+1]?=Qa w->qm (qv v) (qv w)=Qb)↔(∀r∈ps,∀v w,ws[r]?=Qa v->ws[r+1]?=Qa w->qm (qv v) (qv w)=Qb):=by rw[Uu];exact#[λh=>h.2,λh=>#[λJ K u a2=>by rw[hv]at u;rw[g]at a2;cases u;cases a2;exact q,h]]
   simp only[F];rw[<-E];simp[PN,Tf,C,z,A,B,q]
  .refine#[sv (nI (p+1)),?_];rw[if_neg λh=>q (h p Qg v w hv g)];simp[PN,Tf,C,z,A,B,q]
def yt(n:Int)(ws:List Wy):D:=.qE [.int n,.qA (ws.map qv)]
def Xn(ws:List Wy):Prop:=∀p,p+1<ws.length->∀v w,ws[p]?=Qa v->ws[p+1]?=Qa w->qm (qv v) (qv w)=Qb
def q7X(l:Nat)(h:l<2^60):xU [.int 1,nI l]=.ok (nL ((Qu (l-1)).map (·+1))):=by
 unfold xU nI;simp only;rw[if_pos ∅];congr 1;have:((l:Int)-1).toNat=l-1:=∅
 rw[this];simp only[nL,JD];refine Yq λa _=>?_;simp;congr 1;lia
def len_eq(ws:List Wy):(ws.map qv).length=ws.length:=Qm _
def q7b(a b:D)(Z:Ev.Env):ex G qB GZ (sv (.qE [a,b])::Z)=.ok (sv (.qE [a,b])::Z) .nx:=by simp[GZ,PW]
def q7c(e:∀i,G 8 [.int i]=.ok (.bl Qb))(x:Option Sl)(n:Int)(Z:Ev.Env):ex G qB PO (x::sv (.int n)::Z)=if 0<=n/\n<=10 then .ok (x::sv (.int n)::Z) .nx else .err 1 (x::sv (.int n)::Z):=by
 by_cases b:n<0
 .have:¬0<=n:=∅
  simp[PO,e,b,this]
 have g:0<=n:=∅
 by_cases h:10<n
 .have:¬n<=10:=∅
  simp[PO,e,b,g,h,this]
 have k:n<=10:=∅
 simp[PO,e,b,g,h,k]
def q7d(x y:Option Sl)(l:List D)(Z:Ev.Env)(h:l.length<=1300):ex G qB Ge (x::y::sv (.qA l)::Z)=.ok (x::y::sv (.qA l)::Z) .nx:=by
 have e:qj .gt (nI l.length) (.int 1300)=.ok (.bl Qf):=by rw[nI,q2v,(decide_eq_false ∅)]
 simp[Ge,e]
open Classical in
def q7e{G:Nat->List D->R D}(a b e:Option Sl)(ws:List Wy)(hl:ws.length<=1300)(hw:∀w∈ws,R9 w=Qb):∃u,ex G qB (.zS 0 [4] (.rng [(kZ 1),(.bi .len [qf])]) PN) [a,b,sv (.qA (ws.map qv)),e,Qc]=
  if Xn ws then .ok [a,b,sv (.qA (ws.map qv)),e,u] .nx else .err 1 [a,b,sv (.qA (ws.map qv)),e,u]:=by
 obtain⟨E,z⟩:=pa a b e ws hw (Qu (ws.length-1)) Qc (λp k=>by rw[QN]at k;lia);refine#[E,?_];have A:=q7X ws.length (Jr hl (by decide));have q:(∀p∈Qu (ws.length-1),∀v w,ws[p]?=Qa v->ws[p+1]?=Qa w->qm (qv v) (qv w)=Qb)↔Xn ws:=
  #[λh p k=>h p (QN.mpr ∅),λh p k=>h p (by rw[QN]at k;lia)]
 have B:jR G qB (.rng [(kZ 1),(.bi .len [qf])]) [a,b,sv (.qA (ws.map qv)),e,Qc]=.ok (nL ((Qu (ws.length-1)).map (·+1))):=by have C:qu G qB [(kZ 1),(.bi .len [qf])] [a,b,sv (.qA (ws.map qv)),e,Qc]=.ok [.int 1,nI (ws.map qv).length]:=rfl;rw[vh,C,qF,len_eq,A]
 rw[xG,B,qT,z]
 by_cases r:Xn ws
 .rw[if_pos (q.mpr r),if_pos r]
 .rw[if_neg (λg=>r (q.mp g)),if_neg r]
open Classical in
def gR(k:Nat)(n:Int)(ws:List Wy)(hl:ws.length<=1300):Gm (k+4) 10 [yt n ws]=if(0<=n/\n<=10)/\ws.all (vG n)=Qb/\Xn ws then .ok .qI else .err 1:=by
 show Ev.run (Gm (k+3)) qB 5 [GZ,.set 1 (.idx qG (kZ 0)),.set 2 (.idx qG (kZ 1)),PO,Ge,.zS 0 [3] (.e qf) PM,.zS 0 [4] (.rng [(kZ 1),(.bi .len [qf])]) PN] [yt n ws]=_;simp only[Ev.run,yZ,zZ,yt,qAH,qAI,List.cons_append,Vo,q7b,uH,wa,wZ,qQ,qt,Ll,ZA,qF,xK,XM,qT,QH,JF,Qj,J4,Yy,Nat.reduceAdd,Nat.reduceSub,q7c (Fy (k+2))]
 by_cases h:0<=n/\n<=10
 .simp only[if_pos h,uH,q7d _ _ _ _ (by rw[len_eq];exact hl)];obtain⟨v,b⟩:=pZ k n (sv (yt n ws)) (sv (.qA (ws.map qv))) Qc ws Qc;unfold yt at b;have u:ex (Gm (k+3)) qB (.zS 0 [3] (.e qf) PM) [sv (.qE [.int n,.qA (ws.map qv)]),sv (.int n),sv (.qA (ws.map qv)),Qc,Qc]=_:=b;rw[u];cases q:ws.all (vG n)
  .simp
  .
   obtain⟨z,p⟩:=q7e (sv (yt n ws)) (sv (.int n)) v ws hl (λw hw=>qAR (QL.mp q w hw));unfold yt at p;rw[if_pos rfl,uH,p]
   by_cases r:Xn ws
   .rw[if_pos r,if_pos #[h,rfl,r],uH]
   .rw[if_neg r,if_neg λg=>r g.2.2,aB]
 .rw[if_neg h,if_neg λg=>h g.1,aB]
abbrev Wn:=Nat×List Nat
noncomputable def uM(w:Wn):Wy:=((w.1:Int),Qa (w.2.map λ(a:Nat)=>(a:Int)))
def wD(w:Wn):D:=.qE [nI w.1,.qE (nL w.2)]
def R8(w:Wn):qv (uM w)=wD w:=by unfold qv uM wD;rw[q5C];rfl
def SU(ws:List Wn):(ws.map uM).map qv=ws.map wD:=by rw[JD];exact Yq λw _=>R8 w
def rD(n:Nat)(ws:List Wn):D:=.qE [nI n,.qA (ws.map wD)]
def q79(n:Nat)(ws:List Wn):rD n ws=yt n (ws.map uM):=by unfold rD yt;rw[SU];rfl
structure Good(n:Nat)(ws:List Wn):Prop where
 n5:n<=5
 len:ws.length<=60
 ok:∀w∈ws,vG n (uM w)=Qb
 rise:Xn (ws.map uM)
theorem ir{c:Int}:∀{k:List Int}{a:Int},wI c a k=Qb↔(a::k).Pairwise (·<·)/\∀z∈k,z<c
 |[],a=>by simp[wI]
 |t::k,a=>by
  rw[wI,Qo,Qo,ir,decide_eq_true_eq,decide_eq_true_eq];constructor
  .rintro⟨⟨g,h⟩,e,p⟩;refine#[QT.mpr #[λz b=>?_,e],λz b=>?_]
   .rcases Ql.mp b with rfl|b
    .exact g
    .exact Int.lt_trans g ((QT.mp e).1 z b)
   .rcases Ql.mp b with rfl|b
    .exact h
    .exact p z b
  .rintro⟨g,h⟩;have e:=QT.mp g;exact#[#[e.1 t Qg,h t Qg],e.2,λz b=>h z (Qd _ b)]
def vJ(n:Nat)(l:List Nat):Prop:=l.Pairwise (·<·)/\∀x∈l,x<n
def q3p:wI n (-1) (l.map λ(a:Nat)=>(a:Int))=Qb↔vJ n l:=by
 rw[ir,QT,JO];constructor
 .rintro⟨⟨_,e⟩,g⟩;exact#[e.imp λh=>by lia,λx b=>by have:=g x (Qv.mpr #[x,b,rfl]);lia]
 .rintro⟨e,g⟩;refine#[#[λz k=>?_,e.imp λh=>by lia],λz k=>?_]
  .obtain⟨x,b,rfl⟩:=Qv.mp k;lia
  .obtain⟨x,b,rfl⟩:=Qv.mp k;have:=g x b;lia
def Ao:vG n (uM w)=Qb↔w.1<n/\vJ n w.2/\w.1∉w.2:=by
 unfold vG uM;simp only[Qo,q3p,decide_eq_true_eq,Ud,decide_eq_false_iff_not,Qv];constructor
 .rintro⟨⟨⟨k,g⟩,b⟩,p⟩;exact#[∅,b,λh=>p #[w.1,h,rfl]]
 .rintro⟨k,g,b⟩;refine#[#[#[∅,∅],g],λu=>qH u λx q e=>b ?_];have:x=w.1:=∅
  exact this▸q
section
variable{ws:List Wn}(g:Good n ws)
include g
def q2r(k:Nat):Gm (k+4) 10 [rD n ws]=.ok .qI:=by rw[q79,gR k n (ws.map uM) (by rw[Qm];have:=g.len;lia)];have:=g.n5;refine if_pos #[#[∅,∅],?_,g.rise];rw[List.all_map];exact QL.mpr λw hw=>g.ok w hw
end
def pV(h:m<2^n):vJ n (zW m):=
 #[J2 _ JE,λx b=>S6 h (wh.mp b)]
def nG(m:Nat):vB 0 (zW m)=m:=YS λi=>by
 rw[FR];cases q:m.testBit i with
 |false=>exact decide_eq_false λh=>by rw[wh,q]at h;cases h
 |true=>exact decide_eq_true (wh.mpr q)
def cY{a b:Nat}(h:zW a=zW b):a=b:=by rw[<-nG a,h,nG]
def yU(xss:List (List Nat))(w:Wn):List (List Nat):=xss.set w.1 (xss.getD w.1 []++[vB 0 w.2])
def zK(n:Nat)(ws:List Wn):List (List Nat):=ws.foldl yU (Qj n [])
def bB(xss:List (List Nat))(w:Wn):(yU xss w).length=xss.length:=List.length_set
theorem gG:∀(ws:List Wn)(xss:List (List Nat)),(ws.foldl yU xss).length=xss.length
 |[],_=>rfl
 |w::ws,xss=>by rw[Ye,gG ws,bB]
def Tc(n:Nat)(ws:List Wn):(zK n ws).length=n:=by unfold zK;rw[gG,JH]
theorem gH(t x:Nat):∀(ws:List Wn)(xss:List (List Nat)),(∀w∈ws,w.1<xss.length)->(x∈(ws.foldl yU xss).getD t []↔x∈xss.getD t []\/∃w∈ws,w.1=t/\x=vB 0 w.2)
 |[],xss,_=>by simp
 |w::ws,xss,h=>by
  have b:=h w Qg;rw[Ye,gH t x ws (yU xss w) λv hv=>by rw[bB];exact h v (Qd _ hv)];have e:x∈(yU xss w).getD t []↔x∈xss.getD t []\/(w.1=t/\x=vB 0 w.2):=by
   unfold yU
   by_cases q:w.1=t
   .subst q;simp[JN,b]
   .simp[JN,Yg q,q]
  rw[e];simp only[Ql,exists_eq_or_imp,or_assoc]
def q4q(h:∀w∈ws,w.1<n)(k t:Nat):jD (zK n ws) k t=(!k.testBit t&&ws.any λw=>decide (w.1=t)&&w.2.all k.testBit):=by
 unfold jD;congr 1;rw[Q0,Yr,Yr];have b:∀x,x∈(zK n ws).getD t []↔∃w∈ws,w.1=t/\x=vB 0 w.2:=λx=>by
  unfold zK;rw[gH t x ws _ λw hw=>by rw[JH];exact h w hw];have:(Qj n ([]:List Nat)).getD t []=[]:=by
   by_cases q:t<n<;>simp[JN,q]
  rw[this];simp
 have hs:∀s:List Nat,Sm (vB 0 s) k↔s.all k.testBit=Qb:=λs=>by rw[QL];exact#[λg e v=>g e (by rw[FR];exact decide_eq_true v),λg i hi=>g i (by rw[FR]at hi;exact of_decide_eq_true hi)]
 constructor
 .rintro⟨x,z,e⟩;refine qd ((b x).mp z) λw hw p u=>?_;refine#[w,hw,?_];rw[beq_iff_eq,IG,u,hs]at e;simp[p,e]
 .rintro⟨w,hw,e⟩;rw[Qo,decide_eq_true_eq]at e;exact#[vB 0 w.2,(b _).mpr #[w,hw,e.1,rfl],by rw[beq_iff_eq,IG,hs];exact e.2]
def tS{b:L}(e:Z[i]?=Qa (Qa (.j6 xss)))(g:ev G qB a Z=.ok (nI t))(h:xss[t]?=Qa ys)(k:ev G qB b Z=.ok d)(p:ys.length<big):
  ex G qB (.app2 i a b) Z=.ok (Z.set i (Qa (.j6 (xss.set t (ys++[d]))))) .nx:=by
 rw[q1d,e];simp only[g];show(if 0<=(t:Int)then(match xss[((t:Int)).toNat]?with
       |some ys=>(ev G qB b Z).go Z λd=>if ys.length<big then .ok (Z.set i (Qa (.j6 (xss.set ((t:Int)).toNat (ys++[d]))))) .nx else .qC
       |none=>.qC)else .qC)=_
 rw[if_pos ∅];simp only[Int.toNat_natCast,h,k,qT];rw[if_pos p]
theorem o4(k:Nat)(x:Option Sl):∀(ws:List Wn)(xss:List (List Nat))(y:Option Sl),(∀w∈ws,w.1<xss.length/\∀e∈w.2,e<=1000)->(∀l∈xss,l.length+ws.length<=1000)->
  ∃u,jS (qL (Gm (k+1)) qB Df) 0 [2] (ws.map wD) [x,Qa (.j6 (xss.map nL)),y]=.ok [x,Qa (.j6 ((ws.foldl yU xss).map nL)),u] .nx
 |[],xss,y,_,_=>#[y,rfl]
 |w::ws,xss,y,h,hl=>by
  have g:=h w Qg;have A:xss.getD w.1 []=xss[w.1]'g.1:=by simp[JN,g.1]
  have E:xss.getD w.1 []∈xss:=by rw[A];exact Jz _
  have F:=hl _ E;simp only[QH]at hl F;obtain⟨u,e⟩:=o4 k x ws (yU xss w) (sv (wD w)) (λv hv=>by rw[bB];exact h v (Qd _ hv)) (λl z=>by
   unfold yU at z;rcases List.mem_or_eq_of_mem_set z with q|q
   .have:=hl l q;lia
   .rw[q,Jd,Vt];lia)
  refine#[u,?_];rw[QK,vm,Ye,<-e];have B:=q2W k w.2 g.2 (.qE (nL w.2)) (.inl rfl);have p:=tS (G:=Gm (k+1)) (Z:=[x,Qa (.j6 (xss.map nL)),sv (wD w)]) (i:=1) (a:=.idx qf (kZ 0)) (b:=.call 0 [(.idx qf (kZ 1))]) (xss:=xss.map nL) (t:=w.1) (ys:=nL (xss.getD w.1 [])) (d:=nI (vB 0 w.2)) rfl (by simp[wD,xK]) (by rw[QB,Qy g.1,A];rfl) (by simp[wD,XM,B]) (by rw[vT,jZ];lia);have C:(xss.map nL).set w.1 (nL (xss.getD w.1 [])++[nI (vB 0 w.2)])=(yU xss w).map nL:=by unfold yU;rw[List.map_set];simp
  rw[C]at p;simp only[Df,yZ,zZ,J4,Yy]at p|-;rw[p];rfl
section
variable{ws:List Wn}(g:Good n ws)
include g
def q2s:∀w∈ws,w.1<n:=λw hw=>(Ao.mp (g.ok w hw)).1
def q2t(k:Nat):Gm (k+2) 4 [rD n ws]=.ok (vU (zK n ws)):=by
 have A:=g.n5;obtain⟨z,e⟩:=o4 k (sv (rD n ws)) ws (Qj n []) Qc (λw hw=>by
  have h:=Ao.mp (g.ok w hw);rw[JH];exact#[h.1,λe v=>by have:=h.2.1.2 e v;lia]) (λl hl=>by
  rw[List.eq_of_mem_replicate hl];have:=g.len;simp;lia)
 have b:((Qj n ([]:List Nat)).map nL)=Qj n []:=by rw[List.map_replicate];rfl
 rw[b]at e;show Ev.run (Gm (k+1)) qB 3 [.setE 1 (.idx qG (kZ 0)),.zS 0 [2] (.e (.idx qG (kZ 1))) Df,.retO 1] [rD n ws]=_;have p:ex (Gm (k+1)) qB (.setE 1 (.idx qG (kZ 0))) [sv (rD n ws),Qc,Qc]=.ok [sv (rD n ws),Qa (.j6 (Qj n [])),Qc] .nx:=by
  have:ev (Gm (k+1)) qB (.idx qG (kZ 0)) [sv (rD n ws),Qc,Qc]=.ok (nI n):=by simp[rD,xK]
  rw[q1f,this];show(if 0<=(n:Int)/\(n:Int)<=1000 then _ else _)=_;rw[if_pos ∅];rfl
 have q:ex (Gm (k+1)) qB (.zS 0 [2] (.e (.idx qG (kZ 1))) Df) [sv (rD n ws),Qa (.j6 (Qj n [])),Qc]=.ok [sv (rD n ws),Qa (.j6 ((ws.foldl yU (Qj n [])).map nL)),z] .nx:=by
  have:jR (Gm (k+1)) qB (.e (.idx qG (kZ 1))) [sv (rD n ws),Qa (.j6 (Qj n [])),Qc]=.ok (ws.map wD):=by simp[rD,XM]
  rw[xG,this,qT,e]
 have u:zV [rD n ws]++Qj (3 -[rD n ws].length) Qc=[sv (rD n ws),Qc,Qc]:=rfl;simp only[Ev.run,yZ,zZ,u,p,q,uH];simp[zK,vU]
def gW(k:Nat):∃ks:List Nat,ks.Nodup/\(∀x,x∈ks↔Rch (zK n ws) x)/\Gm (k+5) 14 [rD n ws]=.ok (.z7 (nL ks) (wy ks.length)):=by have w:=g.n5;obtain⟨ks,u,v,b⟩:=q2g (nd:=zK n ws) k (by rw[Tc];lia);refine#[ks,u,v,?_];rw[Tc]at b;show Ev.run (Gm (k+4)) qB 1 Ta [rD n ws]=_;have e:=q2r g k;have h:=q2t g (k+2);have p:=q2F (k+3) n ∅;have q:kE (rD n ws) (.int 0)=.ok (nI n):=xK _ _;simp[Ev.run,Ta,e,h,p,b,q]
end
noncomputable def jr:Nat->List Nat
 |0=>[0]
 |1=>[0,1]
 |2=>[0,1,2,3]
 |3=>[0,1,2,4,3,5,6,7]
 |4=>[0,1,2,4,8,3,5,9,6,10,12,7,11,13,14,15]
 |5=>[0,1,2,4,8,16,3,5,9,17,6,10,18,12,20,24,7,11,19,13,21,25,14,22,26,28,15,23,27,29,30,31]
 |_=>[]
def tD(m:Nat):D:=.qE (nL (zW m))
def XQ{P:Nat->Prop}(h:n<=5)(b:P 0)(e:P 1)(g:P 2)(k:P 3)(p:P 4)(q:P 5):P n:=by
 match n,h with
 |0,_=>exact b
 |1,_=>exact e
 |2,_=>exact g
 |3,_=>exact k
 |4,_=>exact p
 |5,_=>exact q
def AP(h:n<=5):∀m,m∈jr n↔m<2^n:=by exactλm=>#[(XQ (P:=λn=>∀x∈jr n,x<2^n) h (by decide) (by decide) (by decide) (by decide) (by decide) (by decide)) m,(XQ (P:=λn=>∀x,x<2^n->x∈jr n) h (by decide) (by decide) (by decide) (by decide) (by decide+kernel) (by decide+kernel)) m]
def AQ(h:n<=5):(jr n).Nodup:=
 XQ (P:=λn=>(jr n).Nodup) h (by decide) (by decide) (by decide) (by decide+kernel) (by decide+kernel) (by decide+kernel)
def q8k(h:n<=5):(jr n).Pairwise λa b=>¬b&&&a=b:=
 XQ (P:=λn=>(jr n).Pairwise λa b=>¬b&&&a=b) h (by decide) (by decide) (by decide) (by decide+kernel) (by decide+kernel) (by decide+kernel)
def zo(l:List Nat):D:=wD (l.length,l)
def q8l(h:n<=5):(jr n).Pairwise λa b=>qm (zo (zW b)) (zo (zW a))=Qf:=
 XQ (P:=λn=>(jr n).Pairwise λa b=>qm (zo (zW b)) (zo (zW a))=Qf) h (by decide+kernel) (by decide+kernel) (by decide+kernel) (by decide+kernel) (by decide+kernel) (by decide+kernel)
def q8m(h:n<=5):∃ms,jr n=0::ms:=
 XQ (P:=λn=>∃ms,jr n=0::ms) h #[_,rfl] #[_,rfl] #[_,rfl] #[_,rfl] #[_,rfl] #[_,rfl]
def q7x(G:Nat->List D->R D):Ev.run G qB 3 uC [nI 0]=.ok (.qA ((jr 0).map tD)):=by kernel_rfl
def q7y(G:Nat->List D->R D):Ev.run G qB 3 uC [nI 1]=.ok (.qA ((jr 1).map tD)):=by kernel_rfl
def q7z(G:Nat->List D->R D):Ev.run G qB 3 uC [nI 2]=.ok (.qA ((jr 2).map tD)):=by kernel_rfl
def q80(G:Nat->List D->R D):Ev.run G qB 3 uC [nI 3]=.ok (.qA ((jr 3).map tD)):=by kernel_rfl
def q81(G:Nat->List D->R D):Ev.run G qB 3 uC [nI 4]=.ok (.qA ((jr 4).map tD)):=by kernel_rfl
def q82(G:Nat->List D->R D):Ev.run G qB 3 uC [nI 5]=.ok (.qA ((jr 5).map tD)):=by kernel_rfl
def jQ(k f:Nat)(xs:List D)(a b:Nat)(l:List S)(h:RO[f]?=Qa #[a,b,l,Qf,Qf,Qc])(hl:xs.length=a):Gm (k+1) f xs=Ev.run (Gm k) qB b l xs:=by rw[Gm,h];exact if_pos hl
def q2f(k:Nat)(h:n<=5):Gm (k+1) 30 [nI n]=.ok (.qA ((jr n).map tD)):=by have e:Gm (k+1) 30 [nI n]=Ev.run (Gm k) qB 3 uC [nI n]:=jQ k 30 _ 1 3 _ rfl rfl;refine e.trans ?_;clear e;exact XQ (P:=λn=>Ev.run (Gm k) qB 3 uC [nI n]=.ok (.qA ((jr n).map tD))) h (q7x _) (q7y _) (q7z _) (q80 _) (q81 _) (q82 _)
section
def qi{s:S}{l:List S}(h:ex G qB s Z=.ok ρ' .nx):qL G qB (s::l) Z=qL G qB l ρ':=by rw[yZ,h,uH]
def jW{s:S}{l:List S}(h:ex G qB s Z=.ok ρ' (.ret d)):qL G qB (s::l) Z=.ok ρ' (.ret d):=by rw[yZ,h,q5V]
def Ec{s:S}{l:List S}(h:ex G qB s Z=.err c ρ'):qL G qB (s::l) Z=.err c ρ':=by rw[yZ,h,aB]
def jj{l:List S}(b:zV ds++Qj (n-ds.length) Qc=Z)(h:qL G qB l Z=.ok ρ' (.ret d)):Ev.run G qB n l ds=.ok d:=by unfold Ev.run;rw[b,h]
theorem wz{α:Type}{elt:Ev.Env->R D}{cond:Ev.Env->R Bool}{k:Nat}{Z:Ev.Env}{f g:α->D}{us:α->List D}{p:α->Bool}:∀{xs:List α},
  (∀x∈xs,wA k (f x)=.ok (us x)/\cond (zV (us x)++Z)=.ok (p x)/\(p x=Qb->elt (zV (us x)++Z)=.ok (g x)))->j7 elt cond k Z (xs.map f)=.ok ((xs.filter p).map g)
 |[],_=>rfl
 |x::xs,h=>by
  refine vN (h x Qg) λu v w=>?_;have q:=wz (elt:=elt) (cond:=cond) (k:=k) (Z:=Z) (f:=f) (g:=g) (us:=us) (p:=p) (xs:=xs) λe z=>h e (Qd _ z);rw[QK,j7,u,qF,v,qF];cases b:p x with
  |true=>rw[if_pos rfl,w b,q];simp[Js,b]
  |false=>rw[if_neg (by simp),q];simp[Js,b]
def nU(i:Nat)(l:List Nat):qj .mem (nI i) (.qE (nL l))=.ok (.bl (decide (i∈l))):=by have b:qj .mem (nI i) (.qE (nL l))=(memD (nI i) (.qE (nL l))).bind λr=>.ok (.bl r):=rfl;rw[b,memD];simp[FL]
def q4u(i:Nat)(l:List Nat):qj .mem (nI i) (.qA (nL l))=.ok (.bl (decide (i∈l))):=by have b:qj .mem (nI i) (.qA (nL l))=(memD (nI i) (.qA (nL l))).bind λr=>.ok (.bl r):=rfl;rw[b,memD];simp[FL]
def oJ(i:Nat)(l:List Nat):qj .w6 (nI i) (.qE (nL l))=.ok (.bl (!decide (i∈l))):=by have b:qj .w6 (nI i) (.qE (nL l))=(memD (nI i) (.qE (nL l))).bind λr=>.ok (.bl (!r)):=rfl;rw[b,memD];simp[FL]
theorem cu{α:Type}(f:α->Bool):∀l:List α,bools? (l.map λx=>D.bl (f x))=Qa (l.map f)
 |[]=>rfl
 |x::l=>by simp[bools?,cu f l]
def filter_tt(l:List α):l.filter (λ_=>Qb)=l:=List.filter_eq_self.mpr λ_ _=>rfl
def PU(l:List Nat):nL l=l.map nI:=rfl
def q1X(i j:Nat)(l s:List Nat)(hl:l.length<=1000)(h:Z[i]?=Qa (sv (.qE (nL l))))(k:Z[j]?=Qa (sv (.qE (nL s)))):
  ev G qB (.bi .all [(.comp 0 (.cm .mem qG (.qS (j+1))) (.e (.qS i)) [])]) Z=.ok (.bl (l.all λe=>decide (e∈s))):=by
 have g:jR G qB (.e (.qS i)) Z=.ok (nL l):=by simp[h]
 have b:j7 (ev G qB (.cm .mem qG (.qS (j+1)))) (jO G qB []) 0 Z (l.map nI)=.ok ((l.filter λ_=>Qb).map λe=>.bl (decide (e∈s))):=
  wz (us:=λe=>[nI e]) λe _=>#[rfl,rfl,λ_=>by simp[k,nU]]
 rw[filter_tt]at b;have hb:(l.map λe=>D.bl (decide (e∈s))).length<=big:=by rw[Qm,jZ];lia
 rw[kI,jK,vO,g,qF,PU,b,ka,qF,if_pos hb,qF,jg,qF,qF,q08,cu];simp
variable{ws:List Wn}
def q5U(g:Good n ws)(s:List Nat)(x y:Option Sl)(t:Nat):ev G qB Ov [sv (rD n ws),sv (.qE (nL s)),x,sv (nI t),y]=
  .ok (.qA ((ws.filter λw=>decide (w.1=t)&&w.2.all λe=>decide (e∈s)).map λw=>.qE (nL w.2))):=by
 have p:jR G qB (.e (.idx qG (kZ 1))) [sv (rD n ws),sv (.qE (nL s)),x,sv (nI t),y]=.ok (ws.map wD):=by simp[rD,XM]
 have u:j7 (ev G qB qR) (jO G qB [(.and (.e (.cm .eq qG zi)) (.e (.bi .all [(.comp 0 (.cm .mem qG jl) (.e qR) [])])))]) 2 [sv (rD n ws),sv (.qE (nL s)),x,sv (nI t),y] (ws.map wD)=
   .ok ((ws.filter λw=>decide (w.1=t)&&w.2.all λe=>decide (e∈s)).map λw=>.qE (nL w.2)):=
  wz (us:=λw=>[nI w.1,.qE (nL w.2)]) λw hw=>by
   have z:=g.n5;have b:=(Ao.mp (g.ok w hw)).2.1;have hl:w.2.length<=1000:=by have:=xR n w.2 (b.1.imp λh=>by lia) b.2;lia
   have v:=q1X (G:=G) (Z:=[sv (nI w.1),sv (.qE (nL w.2)),sv (rD n ws),sv (.qE (nL s)),x,sv (nI t),y]) 1 3 w.2 s hl rfl rfl;refine#[rfl,?_,λ_=>rfl];show jO G qB _ [sv (nI w.1),sv (.qE (nL w.2)),sv (rD n ws),sv (.qE (nL s)),x,sv (nI t),y]=_;simp only[CZ,Ai,Po,uN];rw[v];generalize (w.2.all λe=>decide (e∈s))=bb
   by_cases q:w.1=t<;>cases bb<;>simp[q]
 have hb:=g.len;have k:((ws.filter λw=>decide (w.1=t)&&w.2.all λe=>decide (e∈s)).map λw=>D.qE (nL w.2)).length<=big:=by rw[Qm,jZ];exact Qw (QX _ _) ∅
 rw[Ov,vO,p,qF,u,ka,qF,if_pos k]
def ne_nil(l:List D)(h:zj l=Qb)(b:∀d∈l,qV 7 d=Qb):qj .ne (.qA l) (.qA [])=.ok (.bl (!l.isEmpty)):=by
 have g:pl (.qA l)=Qb:=by unfold pl;rw[Tq];exact QL.mpr b
 have e:qj .ne (.qA l) (.qA [])=if pl (.qA l)&&pl (.qA [])then .ok (.bl (!qM (.qA l) (.qA [])))else .qC:=rfl
 rw[e,g];have:pl (.qA [])=Qb:=rfl;rw[this];cases l<;>simp[qM,zf]
theorem aD{G:Nat->List D->R D}(g:Good n ws)(m:Nat):∀(ts acc:List Nat)(x y:Option Sl),acc.length+ts.length<=1000->
  ∃k u,jS (qL G qB PK) 0 [3] (nL ts) [sv (rD n ws),sv (tD m),Qa (.own (.qA (nL acc))),x,y]=
   .ok [sv (rD n ws),sv (tD m),Qa (.own (.qA (nL (acc++ts.filter (jD (zK n ws) m))))),k,u] .nx
 |[],acc,x,y,_=>#[x,y,by simp[T8]]
 |t::ts,acc,x,y,hl=>by
  simp only[QH]at hl;have v:=q5U (G:=G) g (zW m) (Qa (.own (.qA (nL acc)))) y t;have b:=q4q (q2s g) m t;have K:∀s:List Nat,s.all (λe=>decide (e∈zW m))=s.all m.testBit:=λs=>by rw[Q0];simp[QL,wh]
  simp only[K]at v;have I:decide (t∈zW m)=m.testBit t:=by rw[Q0,decide_eq_true_eq,wh]
  generalize F:(ws.filter λw=>decide (w.1=t)&&w.2.all m.testBit)=gl at v;have E:(ws.any λw=>decide (w.1=t)&&w.2.all m.testBit)=!gl.isEmpty:=by
   rw[<-F,Q0,Yr];cases q:(ws.filter λw=>decide (w.1=t)&&w.2.all m.testBit)with
   |nil=>
    simp only[List.isEmpty_nil,YF,Yw,iff_false];rintro⟨w,hw,h⟩;have:=(QJ (p:=λw:Wn=>decide (w.1=t)&&w.2.all m.testBit)).mpr #[hw,h];rw[q]at this;cases this
   |cons w l=>
    have:w∈(ws.filter λw=>decide (w.1=t)&&w.2.all m.testBit):=(by rw[q];exact Qg);have:=QJ.mp this;simp only[List.isEmpty_cons,J5,iff_true];exact#[w,this.1,this.2]
  rw[E]at b;have C:qj .ne (.qA (gl.map λw=>D.qE (nL w.2))) (.qA [])=.ok (.bl (!gl.isEmpty)):=by rw[ne_nil _ (yr.mpr λd hd=>by obtain⟨w,_,rfl⟩:=Qv.mp hd;exact aV _) (λd hd=>by obtain⟨w,_,rfl⟩:=Qv.mp hd;simp)];cases gl<;>rfl
  have z:=oJ t (zW m);rw[I]at z;have H:acc.length<big:=by rw[jZ];lia
  rw[vz,vm];cases q:jD (zK n ws) m t with
  |true=>
   obtain⟨k,u,e⟩:=aD (G:=G) g m ts (acc++[t]) (sv (nI t)) (sv (.qA (gl.map λw=>D.qE (nL w.2)))) (by simp;lia);refine#[k,u,?_];rw[Js,if_pos q];have:acc++t::ts.filter (jD (zK n ws) m)=acc++[t]++ts.filter (jD (zK n ws) m):=(by simp);rw[this,<-e];rw[q]at b;have A:=b.symm;rw[Qo]at A;unfold tD at*;simp only[PK,yZ,zZ,wa,J4,Yy,v,uH];have hb:(0:Nat)<=big:=QU _;simp[z,C,A.1,A.2,H]
  |false=>
   obtain⟨k,u,e⟩:=aD (G:=G) g m ts acc (sv (nI t)) (sv (.qA (gl.map λw=>D.qE (nL w.2)))) ∅;refine#[k,u,?_];rw[Js,if_neg (by simp[q]),<-e];rw[q]at b;have hb:(0:Nat)<=big:=QU _;unfold tD at*;simp only[PK,yZ,zZ,wa,J4,Yy,v,uH];cases B:m.testBit t with
   |true=>simp[z,B]
   |false=>
    have J:gl.isEmpty=Qb:=(by rw[B]at b;simpa using b.symm);simp[z,B,C,J]
theorem OQ:∀{l m:List Nat},l.Pairwise (·<·)->m.Pairwise (·<·)->(∀x,x∈l↔x∈m)->l=m
 |[],[],_,_,_=>rfl
 |[],b::m,_,_,h=>absurd ((h b).mpr Qg) Vb
 |a::l,[],_,_,h=>absurd ((h a).mp Qg) Vb
 |a::l,b::m,hl,hm,h=>by
  obtain⟨u,w⟩:=QT.mp hl;obtain⟨v,A⟩:=QT.mp hm;have e:a=b:=by
   have g:=(h a).mp Qg;have hb:=(h b).mpr Qg;rcases Ql.mp g with e|g
   .exact e
   .rcases Ql.mp hb with e|hb
    .exact e.symm
    .have:=v a g;have:=u b hb;lia
  subst e;rw[OQ w A λx=>?_];have k:=h x;simp at k;constructor
  .intro p;exact(k.mp (.inr p)).resolve_left λz=>by have:=u x p;lia
  .intro q;exact(k.mpr (.inr q)).resolve_left λz=>by have:=v x q;lia
def q0Q(h:l.Pairwise (·<·)):zW (vB 0 l)=l:=
 OQ (J2 _ JE) h λx=>by rw[wh,FR,decide_eq_true_eq]
def cX(n:Nat):zW (2^n-1)=Qu n:=
 OQ (J2 _ JE) JE λx=>by rw[cW,QN]
def q2R(g:Good n ws)(k m:Nat):Gm (k+1) 31 [rD n ws,tD m]=.ok (.qA (nL (uG (zK n ws) m (2^n-1)))):=by
 have A:=g.n5;obtain⟨w,z,e⟩:=aD (G:=Gm k) g m (Qu n) [] Qc Qc (by simp;lia);have v:=jQ k 31 [rD n ws,tD m] 2 5 [.jF 2 (.qA []),.zS 0 [3] (.rng [(.idx qG (kZ 0))]) PK,.retO 2] rfl rfl;rw[v];unfold uG;rw[cX];have h:kE (rD n ws) (.int 0)=.ok (nI n):=xK _ _;have p:jR (Gm k) qB (.rng [(.idx qG (kZ 0))]) [sv (rD n ws),sv (tD m),Qa (.own (.qA [])),Qc,Qc]=.ok (nL (Qu n)):=by
  have:qu (Gm k) qB [(.idx qG (kZ 0))] [sv (rD n ws),sv (tD m),Qa (.own (.qA [])),Qc,Qc]=.ok [nI n]:=by simp[h]
  rw[vh,this,qF,xT n ∅]
 have q:ex (Gm k) qB (.zS 0 [3] (.rng [(.idx qG (kZ 0))]) PK) [sv (rD n ws),sv (tD m),Qa (.own (.qA [])),Qc,Qc]=.ok [sv (rD n ws),sv (tD m),Qa (.own (.qA (nL (List.filter (jD (zK n ws) m) (Qu n))))),w,z] .nx:=by rw[xG,p];exact e
 have u:zV [rD n ws,tD m]++Qj (5 -[rD n ws,tD m].length) Qc=[sv (rD n ws),sv (tD m),Qc,Qc,Qc]:=rfl;have hb:([]:List D).length<=big:=QU _;have b:ex (Gm k) qB (.jF 2 (.qA [])) [sv (rD n ws),sv (tD m),Qc,Qc,Qc]=.ok [sv (rD n ws),sv (tD m),Qa (.own (.qA [])),Qc,Qc] .nx:=by rw[EX,Fs,jg,qF,if_pos hb,qT];rfl
 exact jj u (by rw[qi b,qi q];exact jW (by rw[fj];rfl))
end
section
variable{ws:List Wn}
noncomputable def rB(nd:List (List Nat))(m:Nat):Bool:=@decide (Rch nd m) (Yh _)
def Pa:rB nd m=Qb↔Rch nd m:=@decide_eq_true_iff _ (Yh _)
noncomputable def qh(n:Nat)(ws:List Wn):List Nat:=(jr n).filter (rB (zK n ws))
def wo(m t:Nat):Nat:=vB 0 ((zW m).filter λe=>!decide (e=t))
def qAP(m t:Nat):zW (wo m t)=(zW m).filter λe=>!decide (e=t):=
 q0Q (J2 _ (J2 _ JE))
def sh(m t i:Nat):(wo m t).testBit i=(m.testBit i&&!decide (i=t)):=by rw[wo,FR,Q0,decide_eq_true_eq,QJ,wh,Qo]
def qAO(h:m.testBit t=Qb):wo m t|||1<<<t=m:=YS λi=>by
 rw[RJ,sh]
 by_cases e:t=i
 .subst e;simp[h]
 .have:¬i=t:=λz=>e z.symm;simp[e,this]
def qAQ{k:Nat}(h:k.testBit t=Qf):wo (k|||1<<<t) t=k:=YS λi=>by
 rw[sh,RJ]
 by_cases e:t=i
 .subst e;simp[h]
 .have:¬i=t:=λz=>e z.symm;simp[e,this]
def tQ(l:List Nat)(i:Nat):(l.map tD).any (λy=>qM y (tD i))=decide (i∈l):=by
 induction l with
 |nil=>simp
 |cons a l b=>
  have e:qM (tD a) (tD i)=decide (a=i):=by unfold tD;rw[fQ];exact decide_eq_decide.mpr #[cY,λh=>by rw[h]]
  rw[QK,JB,b,e]
  by_cases h:a=i
  .subst h;simp
  .have:¬i=a:=λe=>h e.symm;simp[h,this]
def p0(m:Nat):pl (tD m)=Qb:=aV _
def q6r(l:List Nat):zj (l.map tD)=Qb:=yr.mpr λd hd=>by obtain⟨a,_,rfl⟩:=Qv.mp hd;exact p0 a
def nK(i:Nat)(l:List Nat):memD (tD i) (.qA (l.map tD))=.ok (decide (i∈l)):=by rw[memD,p0,q6r,tQ];rfl
def q4v(i:Nat)(l:List Nat):qj .mem (tD i) (.qA (l.map tD))=.ok (.bl (decide (i∈l))):=by have b:qj .mem (tD i) (.qA (l.map tD))=(memD (tD i) (.qA (l.map tD))).bind λr=>.ok (.bl r):=rfl;rw[b,nK];rfl
def q5I(i:Nat)(l:List Nat):qj .w6 (tD i) (.qA (l.map tD))=.ok (.bl (!decide (i∈l))):=by have b:qj .w6 (tD i) (.qA (l.map tD))=(memD (tD i) (.qA (l.map tD))).bind λr=>.ok (.bl (!r)):=rfl;rw[b,nK];rfl
def q0N(h:m<2^5):(zW m).length<=5:=
 xR 5 _ ((pV h).1.imp λh=>by lia) (pV h).2
def q4b(r f y:Option Sl)(m t:Nat)(u:m<2^5):ex G qB (.set 4 (.bi .tuple [De])) [r,f,sv (tD m),sv (nI t),y]=.ok [r,f,sv (tD m),sv (nI t),sv (tD (wo m t))] .nx:=by
 have b:jR G qB (.e qf) [r,f,sv (tD m),sv (nI t),y]=.ok (nL (zW m)):=rfl;have g:=E7 (elt:=ev G qB qG) (cond:=jO G qB [(.e (.cm .ne qG jl))]) (Z:=[r,f,sv (tD m),sv (nI t),y]) (p:=λe=>!decide (e=t)) (l:=zW m)
  (λa _=>by by_cases q:a=t<;>simp[q]) (λa _=>rfl)
 have hb:(nL ((zW m).filter λe=>!decide (e=t))).length<=big:=by rw[vT,jZ];exact Qw (QX _ _) (Qw (q0N u) (by decide))
 have h:ev G qB De [r,f,sv (tD m),sv (nI t),y]=.ok (.qA (nL ((zW m).filter λe=>!decide (e=t)))):=by rw[De,vO,b,qF,g,ka,qF,if_pos hb]
 have k:ev G qB (.bi .tuple [De]) [r,f,sv (tD m),sv (nI t),y]=.ok (tD (wo m t)):=by rw[kI,jK,h,qF,jg,qF,qF,RI,<-qAP];rfl
 rw[wa,k,qT];rfl
def q4w(g:Good n ws)(j t:Nat):decide (t∈uG (zK n ws) j (2^n-1))=jD (zK n ws) j t:=by rw[Q0,decide_eq_true_eq];unfold uG;rw[QJ,cX,QN];exact#[λh=>h.2,λh=>#[by have:=Gh h;rwa [Tc]at this,h]]
def q4d(g:Good n ws)(m t:Nat)(fd:List Nat)(j:Nat)(q:G 31 [rD n ws,tD j]=.ok (.qA (nL (uG (zK n ws) j (2^n-1))))):z9 G qB Ou [sv (rD n ws),Qa (.own (.qA (fd.map tD))),sv (tD m),sv (nI t),sv (tD j)]=
  .ok (!decide (m∈fd)&&(decide (j∈fd)&&jD (zK n ws) j t)):=by
 have b:=q4u t (uG (zK n ws) j (2^n-1));rw[q4w g]at b;have e:=q5I m fd;have k:=q4v j fd;rw[Ou]
 by_cases h:m∈fd
 .simp[e,h]
 .by_cases p:j∈fd
  .cases u:jD (zK n ws) j t<;>rw[u]at b<;>simp[e,h,k,p,q,b]
  .simp[e,h,k,p]
noncomputable def x7(nd:List (List Nat))(m:Nat)(ts fd:List Nat):List Nat:=
 if m∈fd then fd else if ts.any (λt=>decide (wo m t∈fd)&&jD nd (wo m t) t)=Qb then fd++[m]else fd
theorem S0(g:Good n ws)(k m:Nat)(w:m<2^5):∀(ts fd:List Nat)(x y:Option Sl),(m∉fd->fd.length<1000)->
  ∃p u,jS (qL (Gm (k+1)) qB GU) 0 [3] (nL ts) [sv (rD n ws),Qa (.own (.qA (fd.map tD))),sv (tD m),x,y]=
   .ok [sv (rD n ws),Qa (.own (.qA ((x7 (zK n ws) m ts fd).map tD))),sv (tD m),p,u] .nx
 |[],fd,x,y,_=>#[x,y,by simp[T8,x7]]
 |t::ts,fd,x,y,hl=>by
  rw[vz,vm];have A:=q4b (G:=Gm (k+1)) (sv (rD n ws)) (Qa (.own (.qA (fd.map tD)))) y m t w;have C:=q4d g m t fd (wo m t) (q2R g k (wo m t));simp only[J4,Yy,GU]at A|-;rw[qi A,yZ,kA,C,qT];cases q:(!decide (m∈fd)&&(decide (wo m t∈fd)&&jD (zK n ws) (wo m t) t))with
  |true=>
   have z:=q;rw[Qo]at z;have b:m∉fd:=(by simpa using z.1);obtain⟨p,u,e⟩:=S0 g k m w ts (fd++[m]) (sv (nI t)) (sv (tD (wo m t))) (λh=>absurd (by simp) h);refine#[p,u,?_];have v:x7 (zK n ws) m (t::ts) fd=fd++[m]:=by unfold x7;rw[if_neg b,JB,z.2];rfl
   have F:x7 (zK n ws) m ts (fd++[m])=fd++[m]:=(by unfold x7;rw[if_pos (by simp)]);rw[F]at e;rw[v,<-e];have B:(fd.map tD).length<big:=(by rw[Qm,jZ];have:=hl b;lia);have E:qL (Gm (k+1)) qB [.app 1 qf] [sv (rD n ws),Qa (.own (.qA (fd.map tD))),sv (tD m),sv (nI t),sv (tD (wo m t))]=.ok [sv (rD n ws),Qa (.own (.qA ((fd++[m]).map tD))),sv (tD m),sv (nI t),sv (tD (wo m t))] .nx:=by rw[qi (ρ':=[sv (rD n ws),Qa (.own (.qA ((fd++[m]).map tD))),sv (tD m),sv (nI t),sv (tD (wo m t))]),zZ];rw[LM];show(if(fd.map tD).length<big then _ else _)=_;rw[if_pos B,Ux];rfl
   rw[if_pos rfl,E,uH,zZ,xb];rfl
  |false=>
   obtain⟨p,u,e⟩:=S0 g k m w ts fd (sv (nI t)) (sv (tD (wo m t))) hl;refine#[p,u,?_];have v:x7 (zK n ws) m (t::ts) fd=x7 (zK n ws) m ts fd:=by
    unfold x7
    by_cases b:m∈fd
    .rw[if_pos b,if_pos b]
    .have H:(decide (wo m t∈fd)&&jD (zK n ws) (wo m t) t)=Qf:=(by simpa[b]using q);rw[if_neg b,if_neg b,JB,H,Zm]
   rw[v,<-e,if_neg (by simp),zZ,uH,zZ,xb];rfl
def tJ{pre:List Nat}(g:Good n ws)(hs:jr n=pre++m::ms)(C:0∈pre):
  x7 (zK n ws) m (zW m) (pre.filter (rB (zK n ws)))=(pre++[m]).filter (rB (zK n ws)):=by
 have k:=AQ g.n5;have A:=q8k g.n5;rw[hs]at k A;have w:m∉pre:=λh=>(QS.mp k).2.2 m h m Qg rfl;unfold x7;rw[if_neg (λh=>w (QJ.mp h).1),List.filter_append];have key:(zW m).any (λt=>decide (wo m t∈pre.filter (rB (zK n ws)))&&jD (zK n ws) (wo m t) t)=Qb↔Rch (zK n ws) m:=by
  rw[Yr];constructor
  .rintro⟨t,b,h⟩;rw[Qo,decide_eq_true_eq]at h;have:=Rch.s (Pa.mp (QJ.mp h.1).2) h.2
   rwa [qAO (wh.mp b)]at this
  .intro h;cases h with
   |z=>exact absurd C w
   |@s j t u b=>
    have v:=q4r b;refine#[t,wh.mpr (by rw[RJ];simp),?_];rw[qAQ v,Qo,decide_eq_true_eq];refine#[QJ.mpr #[?_,Pa.mpr u],b];have B:=Tr u;rw[Tc]at B;have p:=(AP g.n5 j).mpr B;rw[hs]at p;rcases QF.mp p with h|h
    .exact h
    .rcases Ql.mp h with h|h
     .have:(j|||1<<<t).testBit t=Qb:=(by rw[RJ];simp);rw[<-h,v]at this;cases this
     .
      exact absurd (IG.mpr (q93 j _)) ((QT.mp ((Z6.mp A).2.1)).1 j h)
 by_cases q:Rch (zK n ws) m
 .rw[if_pos (key.mpr q)];have:rB (zK n ws) m=Qb:=Pa.mpr q;simp[this]
 .rw[if_neg λh=>q (key.mp h)];have:rB (zK n ws) m=Qf:=by
   cases e:rB (zK n ws) m with
   |false=>rfl
   |true=>exact absurd (Pa.mp e) q
  simp[this]
theorem mX(g:Good n ws)(k:Nat):∀(ms pre:List Nat)(x y z:Option Sl),jr n=pre++ms->0∈pre->
  ∃E H I,jS (qL (Gm (k+1)) qB PJ) 0 [2] (ms.map tD) [sv (rD n ws),Qa (.own (.qA ((pre.filter (rB (zK n ws))).map tD))),x,y,z]=
   .ok [sv (rD n ws),Qa (.own (.qA ((qh n ws).map tD))),E,H,I] .nx
 |[],pre,x,y,z,hs,_=>#[x,y,z,by rw[We,T8,qh,hs,Ja]]
 |m::ms,pre,x,y,z,hs,h0=>by
  have b:=g.n5;have A:m<2^n:=(AP b m).mp (by rw[hs];simp);have h:m<2^5:=Qz A (Q1 (by decide) b);have C:(jr n).length<=32:=Qw (xR (2^n) _ (AQ b) λx B=>(AP b x).mp B) (Qw (Q1 (by decide) b) (by decide));have hl:(pre.filter (rB (zK n ws))).length<1000:=by rw[hs,Jd]at C;exact Jr (QX _ _) ∅
  obtain⟨p,y1,q⟩:=S0 g k m h (zW m) (pre.filter (rB (zK n ws))) y z λ_=>hl;rw[tJ g hs h0]at q;obtain⟨F,y2,J,u⟩:=mX g k ms (pre++[m]) (sv (tD m)) p y1 (by rw[hs];simp) (by simp[h0]);refine#[F,y2,J,?_];rw[<-u,QK,vm];have v:ex (Gm (k+1)) qB (.zS 0 [3] (.e qf) GU) [sv (rD n ws),Qa (.own (.qA ((pre.filter (rB (zK n ws))).map tD))),sv (tD m),y,z]=.ok [sv (rD n ws),Qa (.own (.qA (((pre++[m]).filter (rB (zK n ws))).map tD))),sv (tD m),p,y1] .nx:=by have:jR (Gm (k+1)) qB (.e qf) [sv (rD n ws),Qa (.own (.qA ((pre.filter (rB (zK n ws))).map tD))),sv (tD m),y,z]=.ok (nL (zW m)):=rfl;rw[xG,this,qT,q]
  have w:qL (Gm (k+1)) qB PJ [sv (rD n ws),Qa (.own (.qA ((pre.filter (rB (zK n ws))).map tD))),sv (tD m),y,z]=.ok [sv (rD n ws),Qa (.own (.qA (((pre++[m]).filter (rB (zK n ws))).map tD))),sv (tD m),p,y1] .nx:=by rw[PJ,qi v,zZ]
  simp only[J4,Yy];rw[w,xb]
def q4c{y:Option Sl}(b:G 30 [nI n]=.ok (.qA (d::ms.map tD))):jR G qB (.e (.sl 0 (.call 30 [(.idx qG (kZ 0))]) [(kZ 1)] [])) [sv (rD n ws),y,Qc,Qc,Qc]=.ok (ms.map tD):=by have g:kE (rD n ws) (.int 0)=.ok (nI n):=xK _ _;rw[T6,LK];simp[g,b,xS,Tw,wR,Xu,Yx]
def q2T(g:Good n ws)(k:Nat):Gm (k+2) 32 [rD n ws]=.ok (.qA ((qh n ws).map tD)):=by
 have h:=g.n5;obtain⟨ms,p⟩:=q8m h;obtain⟨x,y,z,e⟩:=mX g k ms [0] Qc Qc Qc (by rw[p];rfl) (by simp);have v:[0].filter (rB (zK n ws))=[0]:=by simp[(Pa.mpr .z)]
 rw[v]at e;have b:=q2f k h;rw[p,QK]at b;have w:kE (rD n ws) (.int 0)=.ok (nI n):=xK _ _;refine(jQ (k+1) 32 [rD n ws] 1 5 [.jF 1 (.qA [(.qE [])]),.zS 0 [2] (.e (.sl 0 (.call 30 [(.idx qG (kZ 0))]) [(kZ 1)] [])) PJ,.retO 1] rfl rfl).trans ?_;have q:ex (Gm (k+1)) qB (.jF 1 (.qA [(.qE [])])) [sv (rD n ws),Qc,Qc,Qc,Qc]=.ok [sv (rD n ws),Qa (.own (.qA ([0].map tD))),Qc,Qc,Qc] .nx:=by rw[EX,Fs,jK,LL,jg,qF,if_pos (by decide),qF,qF,qF,if_pos (by decide),qT];rfl
 have u:ex (Gm (k+1)) qB (.zS 0 [2] (.e (.sl 0 (.call 30 [(.idx qG (kZ 0))]) [(kZ 1)] [])) PJ) [sv (rD n ws),Qa (.own (.qA ([0].map tD))),Qc,Qc,Qc]=.ok [sv (rD n ws),Qa (.own (.qA ((qh n ws).map tD))),x,y,z] .nx:=by rw[xG,(q4c (G:=Gm (k+1)) (n:=n) (ws:=ws) (y:=Qa (.own (.qA ([0].map tD)))) b),qT,e]
 exact jj (Z:=[sv (rD n ws),Qc,Qc,Qc,Qc]) rfl (by rw[qi q,qi u];exact jW (by rw[fj];rfl))
end
section
variable{ws:List Wn}
theorem nF{α:Type}{f:D->R D}{h b:α->D}:∀{l:List α},(∀x∈l,f (h x)=.ok (b x))->mapR f (l.map h)=.ok (l.map b)
 |[],_=>rfl
 |x::l,e=>by rw[QK,mapR,e x Qg,qF,nF λy g=>e y (Qd _ g)];rfl
theorem iX(h:D->D)(x:D):∀l:List D,km.insK (x,h x) (l.map λk=>(k,h k))=(ins x l).map λk=>(k,h k)
 |[]=>rfl
 |y::l=>by
  rw[QK,km.insK,ins];split
  .rfl
  .rw[iX h x l];rfl
theorem rY(h:D->D):∀l:List D,km (l.map λk=>(k,h k))=(jy l).map λk=>(k,h k)
 |[]=>rfl
 |x::l=>by have b:=rY h l;unfold km at b|-;rw[QK,List.foldr_cons,b,iX];rfl
def kD(m:Nat):D:=zo (zW m)
noncomputable def az:D->D
 |.qE [_,d]=>d
 |_=>.qI
theorem zip_map{α b e:Type}(f:α->b)(h:α->e):∀l:List α,(l.map f).zip (l.map h)=l.map λx=>(f x,h x)
 |[]=>rfl
 |x::l=>by simp[zip_map f h l]
theorem EB:∀{l:List D},l.Pairwise (λa b=>qM a b=Qf)->dedup l=l
 |[],_=>rfl
 |x::l,h=>by
  obtain⟨e,g⟩:=QT.mp h;have:l.any (qM x)=Qf:=by rw[Wb];intro d hd;simp[e d hd]
  rw[dedup,this,EB g];rfl
def GB(m:Nat):kD m=qv (uM ((zW m).length,zW m)):=by rw[R8];rfl
def q46{a b:Nat}(h:kD a=kD b):a=b:=by
 have:az (kD a)=az (kD b):=by rw[h]
 exact cY (nr.mp (D.qE.inj this))
def G1(m:Nat):qJ (kD m)=Qb:=by rw[GB];exact G2 _
def dU(a b:Nat):zm (kD a) (kD b)=Qb:=by rw[GB,GB];exact Ij _ _ rfl rfl
def sort_k(h:ks.Nodup)(hl:ks.length<64):ko (ks.map kD)=Qb:=by
 have e:zO (ks.map kD)=Qb:=kz.mpr λd hd=>by obtain⟨a,_,rfl⟩:=Qv.mp hd;exact G1 a
 have g:zj (ks.map kD)=Qb:=yr.mpr λd hd=>by obtain⟨a,_,rfl⟩:=Qv.mp hd;rw[GB];exact CJ _
 have k:Xq zm (ks.map kD)=Qb:=by unfold Xq;refine QL.mpr λa v=>QL.mpr λb hb=>?_;obtain⟨x,_,rfl⟩:=Qv.mp v;obtain⟨y,_,rfl⟩:=Qv.mp hb;exact dU x y
 have p:dedup (ks.map kD)=ks.map kD:=EB (JO.mpr (h.imp λ{a b} w=>by
  cases q:qM (kD a) (kD b)with
  |false=>rfl
  |true=>exact absurd (q46 ((k9 (G1 a) (G1 b)).mp q)) w))
 have u:(ks.map kD).all yk=Qb:=QL.mpr λd hd=>by obtain⟨a,_,rfl⟩:=Qv.mp hd;rfl
 unfold ko C6;rw[e,g,k,p,u,Qm];simp[hl]
def oo{m:List Nat}(b:l.Nodup)(e:m.Nodup)(h:∀x,x∈l↔x∈m):l.Perm m:=(UI b e).mpr h
def EE(g:Good n ws)(m:Nat):m∈qh n ws↔Rch (zK n ws) m:=by unfold qh;rw[QJ,AP g.n5,Pa];exact#[λh=>h.2,λh=>#[by have:=Tr h;rwa [Tc]at this,h]]
def q3s(g:Good n ws)(h:ks.Nodup)(q:∀x,x∈ks↔Rch (zK n ws) x):jy (ks.map kD)=(qh n ws).map kD:=by
 have u:ks.Perm (qh n ws):=oo h ((AQ g.n5).filter _) λx=>by rw[q,EE g]
 have k:∀d∈ks.map kD,qJ d=Qb:=λd hd=>by obtain⟨a,_,rfl⟩:=Qv.mp hd;exact G1 a
 have e:=u9 (ks.map kD);refine AZ (e.trans (u.map kD)) (λd hd=>k d (e.mem_iff.mp hd)) (λa p b hb=>?_) (P7 k) ?_
 .obtain⟨x,_,rfl⟩:=Qv.mp (e.mem_iff.mp p);obtain⟨y,_,rfl⟩:=Qv.mp (e.mem_iff.mp hb);exact dU x y
 .unfold qy qh;rw[JO];exact(q8l g.n5).filter _
def q2Z(k m:Nat):Gm (k+1) 13 [tD m]=.ok (kD m):=by
 refine(jQ k 13 [tD m] 1 1 GQ rfl rfl).trans ?_;have b:(2:Nat)<=big:=by decide
 simp[Ev.run,GQ,tD,b,kD,zo,wD]
def q9p(g:Good n ws)(h:ks.Nodup)(q:∀x,x∈ks↔Rch (zK n ws) x)(p:G 14 [rD n ws]=.ok (.z7 (nL ks) (wy ks.length)))(C:∀m,m<2^62->G 1 [nI m]=.ok (tD m))(b:∀m,G 13 [tD m]=.ok (kD m)):
  Ev.run G qB 1 Tb [rD n ws]=.ok (.qA ((qh n ws).map tD)):=by
 have F:=g.n5;have u:∀x∈ks,x<2^n:=λx H=>by have:=Tr ((q x).mp H);rwa [Tc]at this
 have hl:ks.length<=32:=Qw (xR _ _ h u) (Qw (Q1 (by decide) F) (by decide));have v:jR G qB (.e (.call 14 [qG])) [sv (rD n ws)]=.ok (nL ks):=by simp[p]
 have a2:j7 (ev G qB (.call 1 [qG])) (jO G qB []) 0 [sv (rD n ws)] (ks.map nI)=.ok ((ks.filter λ_=>Qb).map tD):=
  wz (us:=λe=>[nI e]) λe E=>#[rfl,rfl,λ_=>by have:=C e (Qz (u e E) (Q1 (by decide) ∅));simp[this]]
 rw[filter_tt]at a2;have B:(ks.map tD).length<=big:=by rw[Qm,jZ];lia
 have w:ev G qB (.comp 0 (.call 1 [qG]) (.e (.call 14 [qG])) []) [sv (rD n ws)]=.ok (.qA (ks.map tD)):=by rw[vO,v,qF,PU,a2,ka,qF,if_pos B]
 have z:km ((ks.map kD).zip (ks.map tD))=(jy (ks.map kD)).map λk=>(k,az k):=by rw[<-rY,zip_map,JD];rfl
 have A:ev G qB (.skey (.comp 0 (.call 1 [qG]) (.e (.call 14 [qG])) []) 13) [sv (rD n ws)]=.ok (.qA ((qh n ws).map tD)):=by rw[fX,w,qF,G9,qF,(nF λm _=>b m),ka,qF,sort_k h ∅,if_pos rfl,z,q3s g h q];congr 2;simp only[JD];rfl
 exact jj (Z:=[sv (rD n ws)]) rfl (jW (by rw[vi,A,qT]))
def q2u(g:Good n ws)(k:Nat):Gm (k+6) 12 [rD n ws]=.ok (.qA ((qh n ws).map tD)):=by refine qd (gW g k) λks h b e=>?_;exact(jQ (k+5) 12 [rD n ws] 1 1 Tb rfl rfl).trans (q9p g h b e (λm h=>gS (k+3) m h) (λm=>q2Z (k+4) m))
end
section
variable{r th:D}
def q1N(h:G 10 [r]=.err c):Ev.run G qB 1 Ta [r]=.err c:=by simp[Ev.run,Ta,h]
def q1M(h:G 14 [r]=.err c):Ev.run G qB 1 Tb [r]=.err c:=by simp[Ev.run,Tb,h]
end
def q7u(G:Nat->List D->R D):Ev.run G qB 2 XN [.exc 1]=.ok (.str (YX "rules")):=by kernel_rfl
def q7v(G:Nat->List D->R D):Ev.run G qB 2 XN [.exc 2]=.ok (.str (YX "state")):=by kernel_rfl
noncomputable def AK:D:=.str (YX "rules")
noncomputable def Pc:D:=.str (YX "state")
def q2c(k:Nat):Gm (k+1) 33 [.exc 1]=.ok AK:=(jQ k 33 [.exc 1] 1 2 XN rfl rfl).trans (q7u _)
def q2d(k:Nat):Gm (k+1) 33 [.exc 2]=.ok Pc:=(jQ k 33 [.exc 2] 1 2 XN rfl rfl).trans (q7v _)
section
variable{ws:List Wn}
def uU(h:qu G qB xs Z=.ok ds)(hl:ds.length<=1000):ev G qB (.qE xs) Z=.ok (.qE ds):=by rw[LL,h,qF,if_pos (by rw[jZ];lia)]
def T5(h:qu G qB xs Z=.ok ds)(hl:ds.length<=1000):ev G qB (.qA xs) Z=.ok (.qA ds):=by rw[Fs,h,qF,if_pos (by rw[jZ];lia)]
def kK{b:L}(e:ev G qB a Z=.ok x)(g:ev G qB b Z=.ok y):qu G qB [a,b] Z=.ok [x,y]:=by rw[jK,e,jK,g,jg];rfl
def kJ(b:ev G qB a Z=.ok x):qu G qB [a] Z=.ok [x]:=by rw[jK,b,jg];rfl
def Ar(r:D):Prop:=∃(c:Int)(vs:List Wy),r=yt c vs/\vs.length<=1300/\¬((0<=c/\c<=10)/\vs.all (vG c)=Qb/\Xn vs)
def qAT{r:D}(h:Ar r)(k:Nat):Gm (k+4) 10 [r]=.err 1:=by refine qN h λc vs b hl hb=>?_;subst b;rw[gR k c vs hl,if_neg hb]
def q03{c:Int}(hl:vs.length<=1300)(hw:w∈vs)(hb:vG c w=Qf):Ar (yt c vs):=
 #[c,vs,rfl,hl,λh=>by rw[QL.mp h.2.1 w hw]at hb;cases hb]
def qAU(n:Nat):Ar (yt n [(0,Qa [0])]):=q03 (w:=(0,Qa [0])) (by simp) (by simp) (by simp[vG])
end
section
variable{ws:List Wn}
def q7k(b:List Int)(i:Nat):∃c:Int,Ev.run G qB 2 PF [.qA (iL b),nI i]=.ok (.int c):=by
 cases b with
 |nil=>exact#[0,by simp[Ev.run,PF]]
 |cons z b=>
  have hl:0<(z::b).length:=by simp
  have h:=Y7 i hl;have g:zT .mod (nI i) (nI (z::b).length)=.ok (nI (i %(z::b).length)):=ue _ _ hl;generalize q:i %(z::b).length=A at g h;refine#[(z::b)[A],?_];have k:kE (.qA (iL (z::b))) (nI A)=.ok (.int ((z::b)[A])):=uh _ _ _ (by unfold iL;rw[QB,Qy h];rfl)
  have t:z9 G qB (.e qG) [sv (.qA (iL (z::b))),sv (nI i)]=.ok Qb:=rfl;refine jj (Z:=[sv (.qA (iL (z::b))),sv (nI i)]) (ρ':=[sv (.qA (iL (z::b))),sv (nI i)]) rfl ?_;rw[PF];refine jW ?_;rw[kA,t,qT,if_pos rfl];refine jW ?_;have p:zF qB .len [.qA (iL (z::b))]=.ok (nI (z::b).length):=by rw[wO,q3N]
  rw[vi,wZ,qQ,jJ,qQ,kI,jK,qQ,jg];show(((R.ok (D.qA (iL (z::b)))).bind λx=>((R.ok (nI i)).bind λx=>((((R.ok (D.qA (iL (z::b)))).bind λx=>(R.ok ([]:List D)).bind λxs=>R.ok (x::xs)).bind λds=>zF qB .len ds).bind λy=>zT .mod x y)).bind λy=>kE x y).go _ _)=_;simp only[qF];rw[p,qF,g,qF,k,qT]
def IF(a b:Int):zT .add (.int a) (.int b)=.ok (.int (a+b)):=rfl
def nq(a b:Int)(h:-(2^62)<a/\a<2^62):zT .mul (.int a) (.int b)=.ok (.int (a*b)):=by unfold zT;exact if_pos (.inl h)
def mul_r(a b:Int)(h:-(2^62)<b/\b<2^62):zT .mul (.int a) (.int b)=.ok (.int (a*b)):=by unfold zT;exact if_pos (.inr h)
def Sg(a b:Int)(h:0<b):∃N:Nat,zT .mod (.int a) (.int b)=.ok (.int N):=#[(a %b).toNat,by have:=Int.emod_nonneg a (Int.ne_of_gt h);unfold zT;dsimp only[intD,jo];rw[if_pos h];congr 2;lia]
def q1p(a b:Int)(h:0<b/\b<1073741824):zT .fdiv (.int a) (.int b)=.ok (.int (a/b)):=by unfold zT;exact if_pos h
def q7r(s:D)(i:Nat)(hc:∃c:Int,G 25 [s,nI i]=.ok (.int c)):∃N:Nat,Ev.run G qB 3 DY [s,nI i]=.ok (nI N):=by
 obtain⟨c,hc⟩:=hc;obtain⟨e,u⟩:=Sg (c+104729*((i:Int)+1)) 4294967291 (by decide);obtain⟨b,v⟩:=Sg ((e:Int)*48271) 4294967279 (by decide);obtain⟨h,w⟩:=Sg ((b:Int)/64*69621+b) 4294967231 (by decide);refine#[h,?_];have p:ev G qB (.op .mod (.op .add (.call 25 [qG,qR]) (.op .mul (kZ 104729) (.op .add qR (kZ 1)))) (kZ 4294967291)) [sv s,sv (nI i),Qc]=.ok (nI e):=by have z:zH [sv s,sv (nI i),Qc] 0=.ok s:=rfl;have k:zH [sv s,sv (nI i),Qc] 1=.ok (nI i):=rfl;rw[jJ,jJ,T4,kK (by rw[qQ,z]) (by rw[qQ,k]),qF,hc,qF,jJ,qt,qF,jJ,qQ,k,qF,qt,qF,nI,IF,qF,nq _ _ (by decide),qF,IF,qF,qt,qF,u];rfl
 have a2:ev G qB (.op .mod (.op .mul qf (kZ 48271)) (kZ 4294967279)) [sv s,sv (nI i),sv (nI e)]=.ok (nI b):=by have g:zH [sv s,sv (nI i),sv (nI e)] 2=.ok (.int e):=rfl;rw[jJ,jJ,qQ,g,qF,qt,qF,mul_r _ _ (by decide),qF,qt,qF,v];rfl
 have q:ev G qB (.op .mod (.op .add (.op .mul (.op .fdiv qf (kZ 64)) (kZ 69621)) qf) (kZ 4294967231)) [sv s,sv (nI i),sv (nI b)]=.ok (nI h):=by have g:zH [sv s,sv (nI i),sv (nI b)] 2=.ok (.int b):=rfl;rw[jJ,jJ,jJ,jJ,qQ,g,qF,qt,qF,q1p _ _ (by decide),qF,qt,qF,mul_r _ _ (by decide),qF,qF,IF,qF,qt,qF,w];rfl
 refine jj (Z:=[sv s,sv (nI i),Qc]) (ρ':=[sv s,sv (nI i),sv (nI b)]) rfl ?_;rw[DY,qi (ρ':=[sv s,sv (nI i),sv (nI e)]) (by rw[wa,p];rfl),qi (ρ':=[sv s,sv (nI i),sv (nI b)]) (by rw[wa,a2];rfl)];exact jW (by rw[vi,q,qT])
def sub_sub(o:List Nat)(p:Nat->Bool):(((Qu o.length).filter p).map λj=>o.getD j 0).Sublist o:=by
 have h:(Qu o.length).map (λj=>o.getD j 0)=o:=by refine List.ext_getElem (by simp) λi b e=>?_;simp at b;simp[JN,b]
 have:=(JU (p:=p) (l:=Qu o.length)).map λj=>o.getD j 0
 rwa [h]at this
def q83(s:D)(i:Nat)(o:List Nat)(W:o.length<=7)(q:∃N:Nat,G 26 [s,nI i]=.ok (nI N)):∃l:List Nat,l.Sublist o/\Ev.run G qB 4 GO [s,nI i,.qA (nL o)]=.ok (.qE (nL l)):=by
 obtain⟨N,q⟩:=q;have B:ev G qB (.op .fdiv (.call 26 [qG,qR]) (kZ 8)) [sv s,sv (nI i),sv (.qA (nL o)),Qc]=.ok (nI (N/8)):=by have:zT .fdiv (nI N) (.int 8)=.ok (nI (N/8)):=Ed N 8 (by decide) (by decide);rw[jJ,T4,kK (G:=G) (x:=s) (y:=nI i) rfl rfl,qF,q,qF,qt,qF,this]
 generalize N/8=M at B;have V:∀j,j<7->∀Z:Ev.Env,Z[0]?=Qa (sv (nI j))->∃P:Nat,0<P/\P<1073741824/\ev G qB (.idx (.qA XT) qG) Z=.ok (nI P):=λj g Z v=>by
  have k:ev G qB (.qA XT) Z=.ok (.qA (nL [1,2,4,8,16,32,64])):=T5 rfl (by simp);have K:ev G qB qG Z=.ok (nI j):=by rw[qQ,zH,v]
  have O:∃P:Nat,0<P/\P<1073741824/\[1,2,4,8,16,32,64][j]?=Qa P:=#[2^j,(by decide:∀j,j<7->0<2^j/\2^j<1073741824/\[1,2,4,8,16,32,64][j]?=Qa (2^j)) j g]
  refine qd O λP w z A=>?_;refine#[P,w,z,?_];rw[wZ,k,K];exact uh _ _ _ (by unfold nL;rw[QB,A];rfl)
 have E:∀j,j<7->∃b:Bool,jO G qB [(.e (.cm .eq (.op .mod (.op .fdiv jl (.idx (.qA XT) qG)) (kZ 2)) (kZ 1)))] [sv (nI j),sv s,sv (nI i),sv (.qA (nL o)),sv (nI M)]=.ok b:=λj g=>by refine qd (V j g [sv (nI j),sv s,sv (nI i),sv (.qA (nL o)),sv (nI M)] rfl) λP w z A=>?_;have Q:ev G qB jl [sv (nI j),sv s,sv (nI i),sv (.qA (nL o)),sv (nI M)]=.ok (nI M):=rfl;have T:zT .mod (nI (M/P)) (.int 2)=.ok (nI (M/P %2)):=ue _ 2 (by decide);have U:qj .eq (nI (M/P %2)) (.int 1)=.ok (.bl (decide (M/P %2=1))):=Fi _ 1;refine#[decide (M/P %2=1),?_];rw[CZ,uN,RU,jJ,jJ,Q,qF,A,qF,Ed M P w z,qF,qt,qF,T,qF,qt,qF,U,qF,Pn,qF,Ai];cases decide (M/P %2=1)<;>rfl
 have F:∃p:Nat->Bool,∀j,j<7->jO G qB [(.e (.cm .eq (.op .mod (.op .fdiv jl (.idx (.qA XT) qG)) (kZ 2)) (kZ 1)))] [sv (nI j),sv s,sv (nI i),sv (.qA (nL o)),sv (nI M)]=.ok (p j):=by refine#[λj=>if h:j<7 then(E j h).choose else Qf,λj g=>?_];simp only[g,dif_pos];exact(E j g).choose_spec
 obtain⟨p,u⟩:=F;refine#[_,sub_sub o p,?_];have a2:j7 (ev G qB (.idx zQ qG)) (jO G qB [(.e (.cm .eq (.op .mod (.op .fdiv jl (.idx (.qA XT) qG)) (kZ 2)) (kZ 1)))]) 0 [sv s,sv (nI i),sv (.qA (nL o)),sv (nI M)] ((Qu o.length).map nI)=.ok (((Qu o.length).filter p).map λj=>nI (o.getD j 0)):=
  wz (us:=λj=>[nI j]) λj g=>by have C:=QN.mp g;refine#[rfl,u j ∅,λ_=>?_];have k:kE (.qA (nL o)) (nI j)=.ok (nI (o.getD j 0)):=uh _ _ _ (by unfold nL;rw[QB,Qy C];simp[JN,C]);exact k
 have J:(((Qu o.length).filter p).map λj=>nI (o.getD j 0)).length<=big:=by rw[Qm,jZ];refine Qw (QX _ _) ?_;rw[Jc];lia
 have H:jR G qB (.rng [(.bi .len [qf])]) [sv s,sv (nI i),sv (.qA (nL o)),sv (nI M)]=.ok ((Qu o.length).map nI):=by
  have k:qu G qB [(.bi .len [qf])] [sv s,sv (nI i),sv (.qA (nL o)),sv (nI M)]=.ok [nI o.length]:=kJ (by have:zF qB .len [.qA (nL o)]=.ok (nI o.length):=(by rw[wO,vT]);rw[kI,kJ (G:=G) (x:=.qA (nL o)) rfl,qF,this])
  rw[vh,k,qF,xT _ ∅];rfl
 have I:ev G qB (.comp 0 (.idx zQ qG) (.rng [(.bi .len [qf])]) [(.e (.cm .eq (.op .mod (.op .fdiv jl (.idx (.qA XT) qG)) (kZ 2)) (kZ 1)))]) [sv s,sv (nI i),sv (.qA (nL o)),sv (nI M)]=.ok (.qA (nL (((Qu o.length).filter p).map λj=>o.getD j 0))):=by rw[vO,H,qF,a2,ka,qF,if_pos J];unfold nL;rw[JD];rfl
 refine jj (Z:=[sv s,sv (nI i),sv (.qA (nL o)),Qc]) (ρ':=[sv s,sv (nI i),sv (.qA (nL o)),sv (nI M)]) rfl ?_;show qL G qB [.set 3 (.op .fdiv (.call 26 [qG,qR]) (kZ 8)),.ret (.bi .tuple [(.comp 0 (.idx zQ qG) (.rng [(.bi .len [qf])]) [(.e (.cm .eq (.op .mod (.op .fdiv jl (.idx (.qA XT) qG)) (kZ 2)) (kZ 1)))])])] _=_;rw[qi (ρ':=[sv s,sv (nI i),sv (.qA (nL o)),sv (nI M)]) (by rw[wa,B];rfl)];exact jW (by rw[vi,kI,kJ I,qF,RI,qT])
end
section
variable{ws:List Wn}{M:Nat}
def q58(a b:Nat)(h:a<2^62):zT .mul (nI a) (nI b)=.ok (nI (a*b)):=by unfold nI;rw[nq _ _ ∅];congr 2
def GoodW(n:Nat)(w:Wn):Prop:=w.1<n/\vJ n w.2/\w.1∉w.2
structure Draw(G:Nat->List D->R D)(s:D):Prop where
 mix:∀i:Nat,∃N:Nat,G 26 [s,nI i]=.ok (nI N)
 sub:∀(i:Nat)(o:List Nat),o.length<=7->∃l:List Nat,l.Sublist o/\G 28 [s,nI i,.qA (nL o)]=.ok (.qE (nL l))
def zX(M:Nat)(s:D)(n:Nat)(acc:List Wn)(t:Nat)(o:List Nat)(x y:Option Sl):Ev.Env:=
 [sv s,sv (nI 0),sv (nI M),sv (nI n),Qa (.own (.qA (acc.map wD))),sv (nI t),sv (.qA (nL o)),x,y]
def LJ{y:Option Sl}(c:Nat):ev G qB (yo c) (zX M s n acc t o (sv (nI j)) y)=.ok (nI (0+c+4*t+j)):=by have b:zT .mul (.int 4) (nI t)=.ok (nI (4*t)):=q58 4 t (by decide);have e:zT .add (nI 0) (.int c)=.ok (nI (0+c)):=add_n 0 c;have g:zH (zX M s n acc t o (sv (nI j)) y) 1=.ok (nI 0):=rfl;have h:zH (zX M s n acc t o (sv (nI j)) y) 5=.ok (nI t):=rfl;have k:zH (zX M s n acc t o (sv (nI j)) y) 7=.ok (nI j):=rfl;rw[yo,jJ,jJ,jJ,qQ,g,qF,qt,qF,e,qF,jJ,qt,qF,qQ,h,qF,b,qF,add_n,qF,qQ,k,qF,add_n]
def xv{b:L}(e:ev G qB a Z=.ok x)(g:ev G qB b Z=.ok y)(h:G f [x,y]=.ok d):ev G qB (.call f [a,b]) Z=.ok d:=by rw[T4,kK e g,qF,h]
def EU(hc:0<c)(h:ev G qB a Z=.ok (nI N)):ev G qB (.op .mod a (.qo (.int c))) Z=.ok (nI (N %c)):=by rw[jJ,h,qt];exact ue N c hc
def sQ(h:ev G qB a Z=.ok (nI N)):z9 G qB (.e (.cm .gt a (kZ 0))) Z=.ok (decide (0<N)):=by rw[uN,RU,h,qF,qt,qF,oW,Ek,qF,Pn]
def q7Z(d:Draw G s){acc:List Wn}{y:Option Sl}(ho:o.length<=7)(P:∀l:List Nat,l.Sublist o->GoodW n (t,l))(hl:acc.length<1000):
  ∃(w:Wn)(y':Option Sl),GoodW n w/\qL G qB Dg (zX M s n acc t o (sv (nI j)) y)=.ok (zX M s n (acc++[w]) t o (sv (nI j)) y') .nx:=by
 refine qH (d.sub (0+10+4*t+j) o ho) λl I C=>?_;obtain⟨K,m1⟩:=d.mix (0+40+4*t+j);obtain⟨k,m2⟩:=d.mix (0+41+4*t+j);obtain⟨O,m3⟩:=d.mix (0+70+t);have Y:ex G qB Ox (zX M s n acc t o (sv (nI j)) y)=.ok (zX M s n acc t o (sv (nI j)) (sv (.qE (nL l)))) .nx:=by
  have h3:qu G qB [qG,yo 10,kO] (zX M s n acc t o (sv (nI j)) y)=.ok [s,nI (0+10+4*t+j),.qA (nL o)]:=by have u:ev G qB qG (zX M s n acc t o (sv (nI j)) y)=.ok s:=rfl;rw[jK,u,jK];rw[show yo 10=yo ((10:Nat):Int) from rfl,(LJ (M:=M) (G:=G) (n:=n) 10 (s:=s) (acc:=acc) (t:=t) (j:=j) (o:=o) (y:=y)),kJ rfl];rfl
  rw[Ox,wa,T4,h3,qF,C,qT];rfl
 have B:∃b:List Nat,b.Sublist o/\ex G qB GX (zX M s n acc t o (sv (nI j)) (sv (.qE (nL l))))=.ok (zX M s n acc t o (sv (nI j)) (sv (.qE (nL b)))) .nx:=by
  have u:ev G qB qG (zX M s n acc t o (sv (nI j)) (sv (.qE (nL l))))=.ok s:=rfl;have t1:=sQ (EU (c:=3) (by decide) (xv u (LJ (M:=M) (G:=G) (n:=n) 40 (s:=s) (acc:=acc) (t:=t) (j:=j) (o:=o) (y:=sv (.qE (nL l)))) m1))
  by_cases q:0<K %3
  .rw[decide_eq_true q]at t1;refine#[l.take (1+k %2),(Wd _ _).trans I,?_];have V:=EU (c:=2) (by decide) (xv u (LJ (M:=M) (G:=G) (n:=n) 41 (s:=s) (acc:=acc) (t:=t) (j:=j) (o:=o) (y:=sv (.qE (nL l)))) m2);have W:ev G qB (.op .add (kZ 1) (.op .mod (.call 26 [qG,yo 41]) (kZ 2))) (zX M s n acc t o (sv (nI j)) (sv (.qE (nL l))))=.ok (nI (1+k %2)):=by rw[jJ,qt];refine(congrArg (λz:R D=>z.bind λy=>zT .add (.int 1) y) V).trans ?_;exact add_n 1 _
   have H:ev G qB (.qS 8) (zX M s n acc t o (sv (nI j)) (sv (.qE (nL l))))=.ok (.qE (nL l)):=rfl;have T:xS [nI (1+k %2)]=.ok (Qa ((1+k %2:Nat):Int)):=rfl;have U:xS []=.ok Qc:=rfl;have Q:Tw 0 Qc (Qa ((1+k %2:Nat):Int)) (.qE (nL l))=.ok (.qE (nL (l.take (1+k %2)))):=by
    generalize 1+k %2=A;have:¬((A:Int)<0):=∅;simp only[Tw,wR,Xu,if_true,if_neg this,Int.toNat_natCast,List.drop_zero,Nat.sub_zero];congr 2;unfold nL;rw[VX,Qm];rcases Nat.le_total A l.length with h|h
    .rw[Nat.min_eq_left h]
    .rw[Nat.min_eq_right h,Yx (by simp),Yx (by simp;lia)]
   have X:ev G qB (.sl 0 (.qS 8) [] [(.op .add (kZ 1) (.op .mod (.call 26 [qG,yo 41]) (kZ 2)))]) (zX M s n acc t o (sv (nI j)) (sv (.qE (nL l))))=.ok (.qE (nL (l.take (1+k %2)))):=by rw[LK,H,qF,jg,qF,kJ W,qF,U,qF,T,qF,Q]
   have p:z9 G qB (.e (.cm .gt (.op .mod (.call 26 [qG,yo 40]) (kZ 3)) (kZ 0))) (zX M s n acc t o (sv (nI j)) (sv (.qE (nL l))))=.ok Qb:=t1;rw[GX,kA,p,qT,if_pos rfl,qi (ρ':=zX M s n acc t o (sv (nI j)) (sv (.qE (nL (l.take (1+k %2)))))) (by rw[wa,X,qT];rfl),zZ]
  .rw[decide_eq_false q]at t1;have p:z9 G qB (.e (.cm .gt (.op .mod (.call 26 [qG,yo 40]) (kZ 3)) (kZ 0))) (zX M s n acc t o (sv (nI j)) (sv (.qE (nL l))))=.ok Qf:=t1;exact#[l,I,by rw[GX,kA,p,qT,if_neg (by simp),zZ]]
 refine qH B λb vq B=>?_;have E:∃g:List Nat,g.Sublist o/\ex G qB Oy (zX M s n acc t o (sv (nI j)) (sv (.qE (nL b))))=.ok (zX M s n (acc++[(t,g)]) t o (sv (nI j)) (sv (.qE (nL b)))) .nx:=by
  have u:ev G qB qG (zX M s n acc t o (sv (nI j)) (sv (.qE (nL b))))=.ok s:=rfl;have J:ev G qB zi (zX M s n acc t o (sv (nI j)) (sv (.qE (nL b))))=.ok (nI t):=rfl;have v1:ev G qB qR (zX M s n acc t o (sv (nI j)) (sv (.qE (nL b))))=.ok (nI 0):=rfl;have H:ev G qB (.qS 8) (zX M s n acc t o (sv (nI j)) (sv (.qE (nL b))))=.ok (.qE (nL b)):=rfl;have F:ev G qB (.op .add (.op .add qR (kZ 70)) zi) (zX M s n acc t o (sv (nI j)) (sv (.qE (nL b))))=.ok (nI (0+70+t)):=by have h2:zT .add (nI 0) (.int 70)=.ok (nI (0+70)):=add_n 0 70;rw[jJ,jJ,v1,qF,qt,qF,h2,qF,J,qF,add_n]
  have t1:=sQ (EU (c:=4) (by decide) (xv u F m3));have key:∃g:List Nat,g.Sublist o/\ev G qB (.ite (.e (.cm .gt (.op .mod (.call 26 [qG,(.op .add (.op .add qR (kZ 70)) zi)]) (kZ 4)) (kZ 0))) (.qS 8) (.qE [])) (zX M s n acc t o (sv (nI j)) (sv (.qE (nL b))))=.ok (.qE (nL g)):=by
   by_cases q:0<O %4
   .rw[decide_eq_true q]at t1;have p:z9 G qB (.e (.cm .gt (.op .mod (.call 26 [qG,(.op .add (.op .add qR (kZ 70)) zi)]) (kZ 4)) (kZ 0))) (zX M s n acc t o (sv (nI j)) (sv (.qE (nL b))))=.ok Qb:=t1;exact#[b,vq,by rw[RV,p,qF,if_pos rfl,H]]
   .rw[decide_eq_false q]at t1;have p:z9 G qB (.e (.cm .gt (.op .mod (.call 26 [qG,(.op .add (.op .add qR (kZ 70)) zi)]) (kZ 4)) (kZ 0))) (zX M s n acc t o (sv (nI j)) (sv (.qE (nL b))))=.ok Qf:=t1;exact#[[],List.nil_sublist _,by rw[RV,p,qF,if_neg (by simp)];exact uU (jg _) (by simp)]
  refine qH key λg v key=>?_;refine#[g,v,?_];rw[Oy,LM];show(ev G qB _ _).go _ _=_;rw[uU (kK J key) (by simp)];show(if(acc.map wD).length<big then _ else _)=_;rw[if_pos (by rw[Qm,jZ];lia)];unfold zX;rw[Ux];rfl
 obtain⟨g,v,E⟩:=E;exact#[(t,g),_,P g v,by rw[Dg,qi Y,qi B,qi E,zZ]]
theorem pX{s:D}{t:Nat}{o:List Nat}(d:Draw G s)(g:o.length<=7)(e:∀l:List Nat,l.Sublist o->GoodW n (t,l)):∀(b:List Nat)(acc:List Wn)(x y:Option Sl),acc.length+b.length<=1000->
  ∃(vs:List Wn)(q v:Option Sl),(∀w∈vs,GoodW n w)/\vs.length=b.length/\jS (qL G qB Dg) 0 [7] (nL b) (zX M s n acc t o x y)=.ok (zX M s n (acc++vs) t o q v) .nx
 |[],acc,x,y,_=>#[[],x,y,by simp,rfl,by simp[T8]]
 |j::b,acc,x,y,hl=>by simp at hl;obtain⟨w,y1,hw,k⟩:=q7Z d (j:=j) (y:=y) g e (acc:=acc) ∅;obtain⟨vs,u,y2,hv,h,p⟩:=pX d g e b (acc++[w]) (sv (nI j)) y1 (by simp;lia);refine#[w::vs,u,y2,Uu.mpr #[hw,hv],by simp[h],?_];rw[vz,vm];have:List.set (zX M s n acc t o x y) 7 (sv (nI j))=zX M s n acc t o (sv (nI j)) y:=rfl;rw[this,k,xb,p];simp
def vW(M:Nat)(s:D)(n:Nat)(acc:List Wn)(t:Option Sl)(o x y:Option Sl):Ev.Env:=
 [sv s,sv (nI 0),sv (nI M),sv (nI n),Qa (.own (.qA (acc.map wD))),t,o,x,y]
def q7a{o x y:Option Sl}(d:Draw G s)(hn:n<=5)(U:t<n)(hl:acc.length+3<=1000):
  ∃(vs:List Wn)(o' x' y':Option Sl),(∀w∈vs,GoodW n w)/\vs.length<=3/\qL G qB PL (vW M s n acc (sv (nI t)) o x y)=.ok (vW M s n (acc++vs) (sv (nI t)) o' x' y') .nx:=by
 generalize b:(Qu n).filter (λe=>!decide (e=t))=os;have B:os.length<=7:=by rw[<-b];refine Qw (QX _ _) ?_;rw[Jc];lia
 have C:∀l:List Nat,l.Sublist os->GoodW n (t,l):=λl h=>by
  have v:∀x∈l,x<n/\¬x=t:=λx k=>by have:=h.subset k;rw[<-b]at this;simpa using this
  refine#[U,#[?_,λx k=>(v x k).1],λh=>(v t h).2 rfl];refine UR h ?_;rw[<-b];exact J2 _ JE
 have I:ex G qB (.set 6 Oz) (vW M s n acc (sv (nI t)) o x y)=.ok (zX M s n acc t os x y) .nx:=by
  have u:=E7 (elt:=ev G qB qG) (cond:=jO G qB [(.e (.cm .ne qG kO))]) (Z:=vW M s n acc (sv (nI t)) o x y) (p:=λe=>!decide (e=t)) (l:=Qu n)
   (λa _=>by have q:ev G qB qG (sv (nI a)::vW M s n acc (sv (nI t)) o x y)=.ok (nI a):=rfl;have v6:ev G qB kO (sv (nI a)::vW M s n acc (sv (nI t)) o x y)=.ok (nI t):=rfl;rw[CZ,uN,RU,q,qF,v6,qF,Sq,qF,Pn,qF,Ai];cases !decide (a=t)<;>rfl) (λa _=>rfl)
  have a2:jR G qB (.rng [zQ]) (vW M s n acc (sv (nI t)) o x y)=.ok (nL (Qu n)):=by rw[vh,kJ rfl,qF,xT n ∅]
  have F:(nL os).length<=big:=by rw[vT,jZ];lia
  rw[b]at u;rw[Oz,wa,vO,a2,qF,u,ka,qF,if_pos F,qT];rfl
 obtain⟨N,m⟩:=d.mix (0+1+t);have g:∃c:Nat,c<=3/\ev G qB GY (zX M s n acc t os x y)=.ok (nI c):=by
  have q:ev G qB qG (zX M s n acc t os x y)=.ok s:=rfl;have Y:ev G qB zi (zX M s n acc t os x y)=.ok (nI t):=rfl;have X:ev G qB qR (zX M s n acc t os x y)=.ok (nI 0):=rfl;have k1:ev G qB (.op .add (.op .add qR (kZ 1)) zi) (zX M s n acc t os x y)=.ok (nI (0+1+t)):=by have Q:zT .add (nI 0) (.int 1)=.ok (nI (0+1)):=add_n 0 1;rw[jJ,jJ,X,qF,qt,qF,Q,qF,Y,qF,add_n]
  have H:=EU (c:=6) (by decide) (xv q k1 m);have O:ev G qB (.qA [(kZ 1),(kZ 1),(kZ 2),(kZ 2),(kZ 3),(kZ 0)]) (zX M s n acc t os x y)=.ok (.qA (nL [1,1,2,2,3,0])):=T5 rfl (by simp);have T:∃P:Nat,P<=3/\[1,1,2,2,3,0][N %6]?=Qa P:=#[_,(by decide:∀j,j<6->[1,1,2,2,3,0].getD j 0<=3/\[1,1,2,2,3,0][j]?=Qa ([1,1,2,2,3,0].getD j 0)) _ (Y7 _ (by decide))]
  refine qH T λP V W=>?_;refine#[P,V,?_];rw[GY,wZ,O];refine(congrArg (λz:R D=>z.bind λy=>kE (.qA (nL [1,1,2,2,3,0])) y) H).trans ?_;exact uh _ _ _ (by unfold nL;rw[QB,W];rfl)
 refine qH g λc hc g=>?_;obtain⟨vs,A,y2,hv,E,J⟩:=pX d B C (Qu c) acc x y (by rw[Jc];lia);refine#[vs,sv (.qA (nL os)),A,y2,hv,by rw[E,Jc];lia,?_];have K:ex G qB (.zS 0 [7] (.rng [GY]) Dg) (zX M s n acc t os x y)=.ok (zX M s n (acc++vs) t os A y2) .nx:=by rw[xG,vh,kJ g,qF,xT c ∅,qT,J]
 rw[PL,qi I,qi K,zZ];rfl
theorem pY{s:D}(d:Draw G s)(b:n<=5):∀(ts:List Nat)(acc:List Wn)(t o x y:Option Sl),(∀u∈ts,u<n)->acc.length+3*ts.length<=1000->
  ∃(vs:List Wn)(t' o' B F:Option Sl),(∀w∈vs,GoodW n w)/\vs.length<=3*ts.length/\jS (qL G qB PL) 0 [5] (nL ts) (vW M s n acc t o x y)=.ok (vW M s n (acc++vs) t' o' B F) .nx
 |[],acc,t,o,x,y,_,_=>#[[],t,o,x,y,by simp,by simp,by simp[T8]]
 |u::ts,acc,t,o,x,y,hu,hl=>by
  simp at hl;obtain⟨vs,q,C,y1,hv,I,k⟩:=q7a d b (hu u Qg) (acc:=acc) (o:=o) (x:=x) (y:=y) ∅;obtain⟨H,A,z,E,y2,g,e,p⟩:=pY d b ts (acc++vs) (sv (nI u)) q C y1 (λv hv=>hu v (Qd _ hv)) (by simp;lia);refine#[vs++H,A,z,E,y2,λw hw=>?_,by simp;lia,?_]
  .rcases QF.mp hw with h|h
   .exact hv w h
   .exact g w h
  .rw[vz,vm];have:List.set (vW M s n acc t o x y) 5 (sv (nI u))=vW M s n acc (sv (nI u)) o x y:=rfl;rw[this,k,xb,p,Wl]
end
section
variable{ws:List Wn}
theorem EC:∀{l:List D}{d:D},d∈dedup l->d∈l
 |[],_,h=>h
 |x::l,d,h=>by
  rw[dedup]at h;split at h
  .exact Qd _ (EC h)
  .rcases Ql.mp h with rfl|h
   .exact Qg
   .exact Qd _ (EC h)
theorem Iw:∀{l:List D},(dedup l).Pairwise λa b=>qM a b=Qf
 |[]=>Ut
 |x::l=>by
  rw[dedup];split
  .exact Iw
  .rename_i h;refine QT.mpr #[λd hd=>?_,Iw];cases q:qM x d with
   |false=>rfl
   |true=>exact absurd (Yr.mpr #[d,EC hd,q]) h
theorem f9:∀l:List D,(dedup l).length<=l.length
 |[]=>Qt _
 |x::l=>by
  have:=f9 l;rw[dedup];split
  .simp;lia
  .simp;lia
def iI(w:Wn):qJ (wD w)=Qb:=by rw[<-R8];exact G2 _
theorem mJ{n:Nat}:∀{l:List D},(∀d∈l,∃w,GoodW n w/\d=wD w)->∃ws:List Wn,(∀w∈ws,GoodW n w)/\l=ws.map wD
 |[],_=>#[[],by simp,rfl]
 |d::l,h=>by refine qH (h d Qg) λw hw b=>?_;subst b;refine qH (mJ λe k=>h e (Qd _ k)) λws g b=>?_;subst b;exact#[w::ws,Uu.mpr #[hw,g],rfl]
theorem pF{α:Type}{R:α->α->Prop}:∀{l:List α},l.Pairwise R->∀(p:Nat)(a b:α),l[p]?=Qa a->l[p+1]?=Qa b->R a b
 |[],_,p,a,b,h,_=>by simp at h
 |x::l,h,0,a,b,h1,h2=>by obtain⟨e,_⟩:=QT.mp h;simp at h1;subst h1;rw[ZC]at h2;exact e b (Qp h2)
 |x::l,h,p+1,a,b,h1,h2=>by obtain⟨_,g⟩:=QT.mp h;rw[ZC]at h1 h2;exact pF g p a b h1 h2
def q8e(O:n<=5){acc:List Wn}(h:∀w∈acc,GoodW n w)(hl:acc.length<=60):∃ws:List Wn,Good n ws/\zF qB .vY [.qA (acc.map wD)]=.ok (.qA (ws.map wD)):=by
 generalize hd:dedup (acc.map wD)=dd;have u:∀d∈dd,∃w,GoodW n w/\d=wD w:=λd g=>by rw[<-hd]at g;obtain⟨w,hw,rfl⟩:=Qv.mp (EC g);exact#[w,h w hw,rfl]
 have q:=u9 dd;have z:∀d∈dd,qJ d=Qb:=λd g=>by obtain⟨w,_,rfl⟩:=u d g;exact iI w
 have I:∀a∈dd,∀b∈dd,zm a b=Qb:=λa k b hb=>by obtain⟨v,_,rfl⟩:=u a k;obtain⟨w,_,rfl⟩:=u b hb;rw[<-R8,<-R8];exact Ij _ _ rfl rfl
 have H:dd.Pairwise λa b=>qM a b=Qf:=by rw[<-hd];exact Iw
 have K:dd.Nodup:=by refine Uw (λ{a b} k hb A e=>?_) H;subst e;rw[(k9 (z a k) (z a k)).mpr rfl]at A;cases A
 have qX:dd.length<=60:=by rw[<-hd];exact Qw (f9 _) (by rw[Qm];exact hl)
 refine qH (mJ (l:=jy dd) λd g=>u d (q.mem_iff.mp g)) λws J B=>?_;have F:(ws.map wD).Pairwise λa b=>qm a b=Qb:=by
  rw[<-B];have C:(jy dd).Nodup:=q.nodup_iff.mpr K;have E:=P7 z;refine Uw (λ{a b} k hb A=>?_) (List.Pairwise.and C E);rcases S9 (z a (q.mem_iff.mp k)) (z b (q.mem_iff.mp hb)) (I a (q.mem_iff.mp k) b (q.mem_iff.mp hb))with t|t|t
  .exact t
  .exact absurd t A.1
  .rw[A.2]at t;cases t
 refine#[ws,#[O,?_,λw hw=>Ao.mpr (J w hw),λp Y v w C E=>?_],?_]
 .have:(ws.map wD).length=dd.length:=by rw[<-B];exact q.length_eq
  rw[Qm]at this;lia
 .refine pF F p (qv v) (qv w) ?_ ?_
  .rw[<-SU,QB,C];rfl
  .rw[<-SU,QB,E];rfl
 .have s1:zO (acc.map wD)=Qb:=kz.mpr λd g=>by obtain⟨w,_,rfl⟩:=Qv.mp g;exact iI w
  have s2:zj (acc.map wD)=Qb:=yr.mpr λd g=>by obtain⟨w,_,rfl⟩:=Qv.mp g;rw[<-R8];exact CJ _
  have P:decide ((acc.map wD).length<=1000)=Qb:=decide_eq_true (by rw[Qm];lia);have t1:zO dd=Qb:=kz.mpr z;have T:zj dd=Qb:=yr.mpr λd g=>by obtain⟨w,_,rfl⟩:=u d g;rw[<-R8];exact CJ _
  have U:Xq zm dd=Qb:=QL.mpr λa k=>QL.mpr λb hb=>I a k b hb;have V:dedup dd=dd:=EB H;have W:dd.all yk=Qb:=QL.mpr λd g=>by obtain⟨w,_,rfl⟩:=u d g;rfl
  have X:decide (dd.length<64)=Qb:=decide_eq_true ∅;have Q:ko dd=Qb:=by unfold ko C6;rw[t1,T,U,V,W,X];simp
  rw[q0H,q3u,qF,s1,s2,P,hd,Q,<-B];rfl
def q7w(d:Draw G s):∃(n:Nat)(ws:List Wn),Good n ws/\n<=4/\Ev.run G qB 9 GN [s,nI 0,nI 4]=.ok (rD n ws):=by
 obtain⟨N,m⟩:=d.mix 0;have b:N %5<=4:=by have:=Y7 N (by decide:0<5);lia
 generalize A:N %5=n at b;have g:=b;have b:n<=5:=∅
 obtain⟨vs,t,o,x,y,hv,h,e⟩:=pY (M:=4) (n:=n) d b (Qu n) [] Qc Qc Qc Qc (λu hu=>QN.mp hu) (by simp;lia);rw[Jc]at h;refine qH (q8e b hv ∅) λws B es=>?_;refine#[n,ws,B,g,?_];have k:ex G qB GW [sv s,sv (nI 0),sv (nI 4),Qc,Qc,Qc,Qc,Qc,Qc]=.ok [sv s,sv (nI 0),sv (nI 4),sv (nI n),Qc,Qc,Qc,Qc,Qc] .nx:=by
  have C:ev G qB qG [sv s,sv (nI 0),sv (nI 4),Qc,Qc,Qc,Qc,Qc,Qc]=.ok s:=rfl;have E:ev G qB qR [sv s,sv (nI 0),sv (nI 4),Qc,Qc,Qc,Qc,Qc,Qc]=.ok (nI 0):=rfl;have F:ev G qB qf [sv s,sv (nI 0),sv (nI 4),Qc,Qc,Qc,Qc,Qc,Qc]=.ok (nI 4):=rfl;have w:zT .add (nI 4) (.int 1)=.ok (nI 5):=add_n 4 1;have z:zT .mod (nI N) (nI 5)=.ok (nI n):=by rw[ue N 5 (by decide),A]
  rw[GW,wa,jJ,xv C E m,qF,jJ,F,qF,qt,qF,w,qF,z,qT];rfl
 have p:ex G qB (.jF 4 (.qA [])) [sv s,sv (nI 0),sv (nI 4),sv (nI n),Qc,Qc,Qc,Qc,Qc]=.ok (vW 4 s n [] Qc Qc Qc Qc) .nx:=by rw[EX,T5 (jg _) (by simp)];rfl
 have q:ex G qB (.zS 0 [5] (.rng [zQ]) PL) (vW 4 s n [] Qc Qc Qc Qc)=.ok (vW 4 s n vs t o x y) .nx:=by rw[xG,vh,kJ rfl,qF,xT n ∅,qT,e];rfl
 have v:ex G qB (.ret (.qE [zQ,(.bi .vY [(.bor 4)])])) (vW 4 s n vs t o x y)=.ok (vW 4 s n vs t o x y) (.ret (rD n ws)):=by rw[vi,uU (kK rfl (by rw[kI,kJ rfl,qF,es])) (by simp),qT];rfl
 refine jj (Z:=[sv s,sv (nI 0),sv (nI 4),Qc,Qc,Qc,Qc,Qc,Qc]) (ρ':=vW 4 s n vs t o x y) rfl ?_;show qL G qB [GW,.jF 4 (.qA []),.zS 0 [5] (.rng [zQ]) PL,.ret (.qE [zQ,(.bi .vY [(.bor 4)])])] _=_;rw[qi k,qi p,qi q];exact jW v
def Lk(k:Nat)(b:List Int)(i:Nat):∃N:Nat,Gm (k+2) 26 [.qA (iL b),nI i]=.ok (nI N):=by obtain⟨c,hc⟩:=q7k b i;obtain⟨N,h⟩:=q7r (.qA (iL b)) i #[c,(jQ k 25 _ 2 2 PF rfl rfl).trans hc];exact#[N,(jQ (k+1) 26 _ 2 3 DY rfl rfl).trans h]
def q2J(k:Nat)(b:List Int):Draw (Gm (k+3)) (.qA (iL b)):=by refine#[λi=>Lk (k+1) b i,λi o e=>?_];refine qH (q83 (.qA (iL b)) i o e (Lk k b i)) λl hl h=>?_;exact#[l,hl,(jQ (k+2) 28 _ 3 4 GO rfl rfl).trans h]
def q2e(k:Nat)(b:List Int):∃(n:Nat)(ws:List Wn),Good n ws/\n<=4/\Gm (k+4) 29 [.qA (iL b),nI 0,nI 4]=.ok (rD n ws):=by refine qN (q7w (q2J k b)) λn ws e g h=>?_;exact#[n,ws,e,g,(jQ (k+3) 29 _ 3 9 GN rfl rfl).trans h]
end
section
variable{ws:List Wn}
def q3P{l:List D}(h:l.getLast?=Qa x):kE (.qA l) (.int (-1))=.ok x:=by
 have b:l≠[]:=λe=>by subst e;simp at h
 have hl:0<l.length:=List.length_pos_iff.mpr b;rw[Zi]at h;show vV l (-1)=_;unfold vV;rw[if_neg ∅,if_pos ∅];have:((-1:Int)+(l.length:Int)).toNat=l.length-1:=∅
 rw[this,h]
def Dw(h:pl d=Qb)(b:qM d d=Qb):qj .ne d d=.ok (.bl Qf):=by
 have:qj .ne d d=if pl d&&pl d then .ok (.bl (!qM d d))else .qC:=rfl
 rw[this,h,b];rfl
def q1Q(h:pl d=Qb)(b:qM d d=Qb):qj .eq d d=.ok (.bl Qb):=by
 have:qj .eq d d=if pl d&&pl d then .ok (.bl (qM d d))else .qC:=rfl
 rw[this,h,b];rfl
def q1R{l:List D}(h:∀d∈l,qM d d=Qb):zf l l=Qb:=by
 induction l with
 |nil=>simp[zf]
 |cons a l b=>rw[zf,h a Qg,b λd hd=>h d (Qd _ hd)];rfl
def q1V(m:Nat):qM (tD m) (tD m)=Qb:=by unfold tD;rw[fQ];simp
def uk(l:List Nat):pl (.qA (l.map tD))=Qb:=by unfold pl;rw[Tq];exact QL.mpr λd hd=>by obtain⟨a,_,rfl⟩:=Qv.mp hd;simp[tD]
def q1U(l:List Nat):qM (.qA (l.map tD)) (.qA (l.map tD))=Qb:=by rw[qM];exact q1R λd hd=>by obtain⟨a,_,rfl⟩:=Qv.mp hd;exact q1V a
def q6u(n:Nat)(ws:List Wn):pl (rD n ws)=Qb:=by unfold pl rD;simp[wD]
def RT{z:D}{b c:L}(e:ev G qB a Z=.ok x)(g:ev G qB b Z=.ok y)(k:ev G qB c Z=.ok z)(h:G f [x,y,z]=.ok d):ev G qB (.call f [a,b,c]) Z=.ok d:=by rw[T4,jK,e,qF,kK g k,qF,qF,h]
def zy{o:Cm}{b:L}(e:ev G qB a Z=.ok x)(g:ev G qB b Z=.ok y)(h:qj o x y=r):ev G qB (.cm o a b) Z=r:=by rw[RU,e,qF,g,qF,h]
def jt(h:ev G qB a Z=.ok (.bl b)):z9 G qB (.e a) Z=.ok b:=by rw[uN,h,qF,Pn]
def aJ{a b:T}(e:z9 G qB a Z=.ok Qf)(g:z9 G qB b Z=.ok Qf):z9 G qB (.or a b) Z=.ok Qf:=by rw[Ag,e,qF,if_neg (by simp),g]
def G6{l:List S}{c:T}(h:z9 G qB c Z=.ok Qf):ex G qB (.ifs c l []) Z=.ok Z .nx:=by rw[kA,h,qT,if_neg (by simp),zZ]
def q1a(Z:Ev.Env):ev G qB (.neg (kZ 1)) Z=.ok (.int (-1)):=rfl
def fW{l:List D}(h:ev G qB (.qS i) Z=.ok (.qA l))(b:l.getLast?=Qa x):ev G qB (.idx (.qS i) (.neg (kZ 1))) Z=.ok x:=by rw[wZ,h,qF,q1a,qF,q3P b]
def ER(x:PySem.Str):qM (.str x) (.str x)=Qb:=by simp[qM]
end
noncomputable def qU(t:Nat)(ms:List Nat):List Nat:=ms.filter λm=>m.testBit t
noncomputable def qZ(t:Nat)(ms:List Nat):List Nat:=ms.filter λm=>!m.testBit t
def zY(t:Nat)(ms:List Nat):Bool:=!((qU t ms).isEmpty||(qZ t ms).isEmpty)
noncomputable def mn:List Nat->Nat
 |[]=>0
 |x::l=>l.foldl min x
noncomputable def kh:Nat->Nat->List Nat->Nat
 |0,_,_=>0
 |n+1,c,ms=>if ms.length=1 then 0 else mn ((Qu c).filterMap λt=>if(qU t ms).isEmpty||(qZ t ms).isEmpty then Qc else Qa (1+max (kh n c (qU t ms)) (kh n c (qZ t ms))))
theorem aR{f:Nat->D}(hf:∀t m,vn t (f m)=m.testBit t):∀n c ms,Tj n c (ms.map f)=kh n c ms
 |0,_,_=>rfl
 |n+1,c,ms=>by
  have b:∀t,(ms.map f).filter (vn t)=(qU t ms).map f:=λt=>by rw[List.filter_map];congr 1;exact U0 λm _=>hf t m
  have e:∀t,((ms.map f).filter λd=>!vn t d)=(qZ t ms).map f:=λt=>by rw[List.filter_map];congr 1;exact U0 λm _=>by show(!vn t (f m))=_;rw[hf]
  have g:((Qu c).filterMap λt=>if((ms.map f).filter (vn t)).isEmpty||((ms.map f).filter λd=>!vn t d).isEmpty then Qc else Qa (1+max (Tj n c ((ms.map f).filter (vn t))) (Tj n c ((ms.map f).filter λd=>!vn t d))))=(Qu c).filterMap λt=>if(qU t ms).isEmpty||(qZ t ms).isEmpty then Qc else Qa (1+max (kh n c (qU t ms)) (kh n c (qZ t ms))):=by congr 1;funext t;rw[b,e,Vc,Vc,aR hf,aR hf]
  rw[Tj,kh,Qm,g];congr 1
def DZ(t:Nat)(ms:List Nat):(qU t ms).length+(qZ t ms).length=ms.length:=by
 unfold qU qZ
 induction ms with
 |nil=>rfl
 |cons m ms b=>
  rw[Js,Js];cases m.testBit t<;>simp<;>lia
def len_pos(h:l.isEmpty=Qf):0<l.length:=by
 cases l with
 |nil=>cases h
 |cons _ _=>simp
def uv:zY t ms=Qb↔(qU t ms).isEmpty=Qf/\(qZ t ms).isEmpty=Qf:=by unfold zY;cases(qU t ms).isEmpty<;>cases(qZ t ms).isEmpty<;>simp
def yw(h:zY t ms=Qb):(qU t ms).length<ms.length/\(qZ t ms).length<ms.length/\0<(qU t ms).length/\0<(qZ t ms).length:=by obtain⟨b,e⟩:=uv.mp h;have:=len_pos b;have:=len_pos e;have:=DZ t ms;lia
def LY{b:Type}{f g:α->Option b}(h:∀a,f a=g a)(l:List α):l.filterMap f=l.filterMap g:=by rw[show f=g from funext h]
theorem La{α b:Type}:∀(l:List α){f:α->Option b},(∀a,f a=Qc)->l.filterMap f=[]
 |[],_,_=>rfl
 |a::l,f,h=>by rw[Jg,h];exact La l h
def AA(m c:Nat):kh m c []=0:=by
 cases m with
 |zero=>rfl
 |succ m=>
  rw[kh,if_neg (by simp),La _ (λt=>by simp[qU])];rfl
theorem A9:∀(n m c:Nat)(ms:List Nat),ms.length<=n->ms.length<=m->kh n c ms=kh m c ms
 |0,m,c,ms,h1,_=>by
  cases ms with
  |nil=>rw[AA,AA]
  |cons _ _=>simp at h1
 |n+1,0,c,ms,_,h2=>by
  cases ms with
  |nil=>rw[AA,AA]
  |cons _ _=>simp at h2
 |n+1,m+1,c,ms,h1,h2=>by
  rw[kh,kh];congr 2;refine LY (λt=>?_) _;split
  .rfl
  .rename_i h;have:=yw (by unfold zY;rw[UZ.mpr h];rfl);rw[A9 n m c (qU t ms) ∅ ∅,A9 n m c (qZ t ms) ∅ ∅]
def Ph(c:Nat)(ms:List Nat):Nat:=kh ms.length c ms
def vF(c:Nat)(ms:List Nat)(t:Nat):Nat:=1+max (Ph c (qU t ms)) (Ph c (qZ t ms))
def opts(c:Nat)(ms:List Nat):List Nat:=(Qu c).filterMap λt=>if zY t ms then Qa (vF c ms t)else Qc
def CF(h:ms.length=1):Ph c ms=0:=by unfold Ph;rw[h,kh,if_pos h]
def aQ(h:ms.length≠1):Ph c ms=mn (opts c ms):=by
 unfold Ph;cases b:ms.length with
 |zero=>
  cases ms with
  |cons _ _=>simp at b
  |nil=>rw[opts,La _ (λt=>by simp[zY,qU])];rfl
 |succ n=>
  rw[kh,if_neg h];unfold opts;congr 1;refine LY (λt=>?_) _;cases hs:zY t ms with
  |false=>
   have hb:((qU t ms).isEmpty||(qZ t ms).isEmpty)=Qb:=by
    cases z:((qU t ms).isEmpty||(qZ t ms).isEmpty)with
    |true=>rfl
    |false=>unfold zY at hs;rw[z]at hs;cases hs
   rw[hb];rfl
  |true=>
   have hb:((qU t ms).isEmpty||(qZ t ms).isEmpty)=Qf:=(by unfold zY at hs;simpa using hs);have:=yw hs;rw[hb,if_neg Qq,if_pos rfl,vF,Ph,Ph,A9 n (qU t ms).length c _ ∅ (Qt _),A9 n (qZ t ms).length c _ ∅ (Qt _)]
def q6n{f:Nat->D}(hf:∀t m,vn t (f m)=m.testBit t)(c:Nat)(ms:List Nat):uJ c (ms.map f)=Ph c ms:=by unfold uJ;rw[Qm,aR hf];rfl
theorem aP:∀(n c:Nat){ms b:List Nat},ms.Perm b->kh n c ms=kh n c b
 |0,_,_,_,_=>rfl
 |n+1,c,ms,b,h=>by
  rw[kh,kh,h.length_eq];congr 2;refine LY (λt=>?_) _;have e:(qU t ms).Perm (qU t b):=h.filter _;have g:(qZ t ms).Perm (qZ t b):=h.filter _;have k:(qU t ms).isEmpty=(qU t b).isEmpty:=by rw[Q0,Jo,Jo,e.length_eq]
  have p:(qZ t ms).isEmpty=(qZ t b).isEmpty:=by rw[Q0,Jo,Jo,g.length_eq]
  rw[aP n c e,aP n c g,k,p]
def q6m{b:List Nat}(h:ms.Perm b):Ph c ms=Ph c b:=by unfold Ph;rw[h.length_eq];exact aP _ _ h
theorem fold_min:∀(l:List Nat)(a:Nat),l.foldl min a=if l=[]then a else min a (mn l)
 |[],a=>rfl
 |x::l,a=>by rw[if_neg (by simp),Ye,fold_min l (min a x),mn,fold_min l x];split<;>lia
theorem nj:∀{l:List Nat}{x:Nat},x∈l->mn l<=x
 |y::l,x,h=>by
  rw[mn,fold_min];rcases Ql.mp h with rfl|h
  .split<;>lia
  .rw[if_neg (by rintro rfl;cases h)];have:=nj h;lia
theorem Sf:∀{l:List Nat},l≠[]->mn l∈l
 |[],h=>absurd rfl h
 |[y],_=>Qg
 |y::z::l,_=>by
  rw[mn,fold_min,if_neg (by simp)];have:=Sf (l:=z::l) (by simp);rcases Nat.le_total y (mn (z::l))with h|h
  .rw[Nat.min_eq_left h];exact Qg
  .rw[Nat.min_eq_right h];exact Qd _ this
structure Sep(c:Nat)(ms:List Nat):Prop where
 nd:ms.Nodup
 lt:∀m∈ms,m<2^c
theorem Sep.qU{c:Nat}{ms:List Nat}(s:Sep c ms)(t:Nat):Sep c (qU t ms):=#[s.nd.filter _,λm h=>s.lt m (QJ.mp h).1]
theorem Sep.qZ{c:Nat}{ms:List Nat}(s:Sep c ms)(t:Nat):Sep c (qZ t ms):=#[s.nd.filter _,λm h=>s.lt m (QJ.mp h).1]
def Td{x:Nat}(h:x∈l):l.isEmpty=Qf:=by
 cases l with
 |nil=>cases h
 |cons _ _=>rfl
def AM(s:Sep c ms)(h:2<=ms.length):∃t,t<c/\zY t ms=Qb:=by
 cases ms with
 |nil=>simp at h
 |cons a ms=>
  cases ms with
  |nil=>simp at h
  |cons b ms=>
   have q:a≠b:=λe=>(QP.mp s.nd).1 (e▸Qg);obtain⟨t,k⟩:∃t,a.testBit t≠b.testBit t:=by refine QZ λh=>q (YS λi=>?_);exact QZ λhi=>h #[i,hi]
   have p:a∈a::b::ms:=Qg;have mb:b∈a::b::ms:=Qd _ Qg;refine#[t,?_,uv.mpr ?_]
   .cases g:a.testBit t with
    |true=>exact S6 (s.lt a p) g
    |false=>
     cases hb:b.testBit t with
     |true=>exact S6 (s.lt b mb) hb
     |false=>exact absurd (g.trans hb.symm) k
   .cases g:a.testBit t with
    |true=>
     have hb:b.testBit t=Qf:=by cases hb:b.testBit t with|false=>rfl|true=>exact absurd (g.trans hb.symm) k
     exact#[Td (QJ.mpr #[p,g]),Td (QJ.mpr #[mb,by rw[hb];rfl])]
    |false=>
     have hb:b.testBit t=Qb:=by cases hb:b.testBit t with|true=>rfl|false=>exact absurd (g.trans hb.symm) k
     exact#[Td (QJ.mpr #[mb,hb]),Td (QJ.mpr #[p,by rw[g];rfl])]
def nT{x:Nat}:x∈opts c ms↔∃t,t<c/\zY t ms=Qb/\x=vF c ms t:=by
 unfold opts;rw[Y4];constructor
 .rintro⟨t,b,e⟩;split at e
  .rename_i hs;cases e;exact#[t,QN.mp b,hs,rfl]
  .cases e
 .rintro⟨t,b,hs,rfl⟩;exact#[t,QN.mpr b,by rw[if_pos hs]]
def aI(s:Sep c ms)(h:2<=ms.length):opts c ms≠[]:=λe=>by obtain⟨t,b,g⟩:=AM s h;have:=nT.mpr #[t,b,g,rfl];rw[e]at this;cases this
theorem CD(c:Nat):∀(n:Nat)(ms:List Nat),ms.length<=n->0<ms.length->Sep c ms->Ph c ms+1<=ms.length/\ms.length<=2^Ph c ms
 |0,ms,h,h0,_=>by lia
 |n+1,ms,h,h0,s=>by
  by_cases g:ms.length=1
  .rw[CF g,g];simp
  .rw[aQ g];refine qd (nT.mp (Sf (aI s ∅))) λt k hs e=>?_;rw[e,vF];have l:=yw hs;have ls:=DZ t ms;have a:=CD c n (qU t ms) ∅ ∅ (s.qU t);have b:=CD c n (qZ t ms) ∅ ∅ (s.qZ t);refine#[∅,?_];rw[Nat.add_comm 1,Vs];have p:2^Ph c (qU t ms)<=2^max (Ph c (qU t ms)) (Ph c (qZ t ms)):=Q1 (by decide) (Nat.le_max_left _ _);have q:2^Ph c (qZ t ms)<=2^max (Ph c (qU t ms)) (Ph c (qZ t ms)):=Q1 (by decide) (Nat.le_max_right _ _);lia
noncomputable def bl(x:Nat):Nat:=if x=0 then 0 else x.log2+1
def q0R{x p:Nat}(h:x<=2^p):bl (x-1)<=p:=by
 unfold bl;split
 .exact QU _
 .rename_i b;have:(x-1).log2<p:=(Nat.log2_lt b).mpr ∅;exact this
def q0S(s:Sep c ms)(hs:zY t ms=Qb):1+bl (max (qU t ms).length (qZ t ms).length-1)<=vF c ms t:=by have l:=yw hs;have a:=CD c _ (qU t ms) (Qt _) ∅ (s.qU t);have b:=CD c _ (qZ t ms) (Qt _) ∅ (s.qZ t);have e:2^Ph c (qU t ms)<=2^max (Ph c (qU t ms)) (Ph c (qZ t ms)):=Q1 (by decide) (Nat.le_max_left _ _);have g:2^Ph c (qZ t ms)<=2^max (Ph c (qU t ms)) (Ph c (qZ t ms)):=Q1 (by decide) (Nat.le_max_right _ _);have:=q0R (x:=max (qU t ms).length (qZ t ms).length) (p:=max (Ph c (qU t ms)) (Ph c (qZ t ms))) ∅;unfold vF;lia
def vb(c:Nat)(ms:List Nat)(fw t:Nat):Nat:=if zY t ms=Qb/\1+bl (max (qU t ms).length (qZ t ms).length-1)<fw then min fw (vF c ms t)else fw
def q9r(s:Sep c ms):vb c ms fw t=if zY t ms=Qb then min fw (vF c ms t)else fw:=by
 unfold vb
 by_cases hs:zY t ms=Qb
 .by_cases hb:1+bl (max (qU t ms).length (qZ t ms).length-1)<fw
  .rw[if_pos #[hs,hb],if_pos hs]
  .rw[if_neg λz=>hb z.2,if_pos hs];have:=q0S s hs;lia
 .rw[if_neg λz=>hs z.1,if_neg hs]
theorem sE{c:Nat}{ms:List Nat}(s:Sep c ms):∀(ts:List Nat)(fw:Nat),ts.foldl (vb c ms) fw=(ts.filterMap λt=>if zY t ms then Qa (vF c ms t)else Qc).foldl min fw
 |[],_=>rfl
 |t::ts,fw=>by
  rw[Ye,sE s ts,q9r s,Jg];cases hs:zY t ms with
  |true=>rw[if_pos rfl,if_pos rfl];rfl
  |false=>rw[if_neg Qq,if_neg Qq]
def search(s:Sep c ms)(h:2<=ms.length):(Qu c).foldl (vb c ms) ms.length=Ph c ms:=by rw[sE s];show(opts c ms).foldl min ms.length=_;rw[fold_min,if_neg (aI s h)];have:=CD c _ ms (Qt _) ∅ s;rw[aQ ∅]at this|-;lia
def lv(c:Nat)(ms:List Nat):Nat:=(Qu c).countP λt=>zY t ms
theorem Im{α:Type}{p q:α->Bool}:∀{l:List α}{x:α},(∀a∈l,p a=Qb->q a=Qb)->x∈l->p x=Qf->q x=Qb->l.countP p<l.countP q
 |a::l,x,h,e,h1,h2=>by
  have le:l.countP p<=l.countP q:=List.countP_mono_left λb hb=>h b (Qd _ hb);rw[WA,WA];rcases Ql.mp e with rfl|e
  .rw[h1,h2];simp;lia
  .have:=Im (λb hb=>h b (Qd _ hb)) e h1 h2;cases g:p a with
   |true=>rw[(h a Qg) g];simp;lia
   |false=>cases q a<;>simp<;>lia
def rm{u:Nat}(h:∀x∈l,x∈ms)(hs:zY u l=Qb):zY u ms=Qb:=by
 obtain⟨g,k⟩:=uv.mp hs;refine uv.mpr #[?_,?_]
 .cases e:qU u l with
  |nil=>rw[e]at g;cases g
  |cons x r=>
   have b:x∈qU u l:=(by rw[e];exact Qg);exact Td (QJ.mpr #[h x (QJ.mp b).1,(QJ.mp b).2])
 .cases e:qZ u l with
  |nil=>rw[e]at k;cases k
  |cons x r=>
   have b:x∈qZ u l:=(by rw[e];exact Qg);exact Td (QJ.mpr #[h x (QJ.mp b).1,(QJ.mp b).2])
def q9B(t:Nat)(ms:List Nat):zY t (qU t ms)=Qf:=by
 have:qZ t (qU t ms)=[]:=by unfold qZ qU;rw[List.filter_filter];exact ZK.mpr λm _=>by cases m.testBit t<;>simp
 unfold zY;rw[this];simp
def q9C(t:Nat)(ms:List Nat):zY t (qZ t ms)=Qf:=by
 have:qU t (qZ t ms)=[]:=by unfold qZ qU;rw[List.filter_filter];exact ZK.mpr λm _=>by cases m.testBit t<;>simp
 unfold zY;rw[this];simp
def SH(b:t<c)(hs:zY t ms=Qb):lv c (qU t ms)<lv c ms:=
 Im (λu _ h=>rm (λx e=>(QJ.mp e).1) h) (QN.mpr b) (q9B t ms) hs
def mh(b:t<c)(hs:zY t ms=Qb):lv c (qZ t ms)<lv c ms:=
 Im (λu _ h=>rm (λx e=>(QJ.mp e).1) h) (QN.mpr b) (q9C t ms) hs
def ml(c:Nat)(ms:List Nat):lv c ms<=c:=by
 unfold lv;have:=List.countP_le_length (p:=λt=>zY t ms) (l:=Qu c)
 rwa [Jc]at this
def mq(s:Sep c ms)(e:0<ms.length)(h:lv c ms=0):ms.length=1:=by refine QZ λg=>?_;obtain⟨t,b,hs⟩:=AM s ∅;have:=SH b hs;lia
def SW(a b:Nat):zF qB .max2 [nI a,nI b]=.ok (nI (max a b)):=by show R.ok (D.int (if(b:Int)>(a:Int)then(b:Int)else a))=_;unfold nI;congr 2;split<;>lia
def q53(a b:Nat):zF qB .min2 [nI a,nI b]=.ok (nI (min a b)):=by show R.ok (D.int (if(b:Int)<(a:Int)then(b:Int)else a))=_;unfold nI;congr 2;split<;>lia
def IS(a:Nat):zF qB .bits [nI a]=.ok (nI (bl a)):=by
 show(if(0:Int)<=(a:Int)then R.ok (D.int (if(a:Int)=0 then 0 else((((a:Int).toNat).log2+1:Nat):Int)))else .qC)=_;rw[if_pos ∅];unfold nI bl;congr 2
 by_cases h:a=0
 .rw[if_pos ∅,if_pos h];rfl
 .rw[if_neg ∅,if_neg h];rfl
def jf(h:ev G qB a Z=.ok x)(e:zF qB b [x]=r):ev G qB (.bi b [a]) Z=r:=by rw[kI,jK,h,qF,jg,qF,qF,e]
def Fp(h:ev G qB a Z=.ok x)(h':ev G qB a2 Z=.ok y)(e:zF qB b [x,y]=r):ev G qB (.bi b [a,a2]) Z=r:=by rw[kI,jK,h,qF,jK,h',qF,jg,qF,qF,qF,e]
def vg{o:Op2}(h:ev G qB a Z=.ok x)(h':ev G qB a2 Z=.ok y)(b:zT o x y=r):ev G qB (.op o a a2) Z=r:=by rw[jJ,h,qF,h',qF,b]
def xF(h:ev G qB a Z=.ok x)(b:G f [x]=r):ev G qB (.call f [a]) Z=r:=by rw[T4,jK,h,qF,jg,qF,qF,b]
def jL(h:ev G qB a Z=.ok x):ex G qB (.set i a) Z=.ok (Z.set i (sv x)) .nx:=by rw[wa,h,qT]
def q2I(k x:Nat)(h:1<=x):Gm (k+1) 24 [nI x]=.ok (nI (bl (x-1))):=by refine(jQ k 24 [nI x] 1 1 GP rfl rfl).trans ?_;have e:zT .sub (nI x) (.int 1)=.ok (nI (x-1)):=bF x 1 h;simp only[GP];exact jj (Z:=[sv (nI x)]) (ρ':=[sv (nI x)]) rfl (jW (by rw[vi,kI,jK,jJ,qQ,qt];simp only[Ll];rw[show([Qa (Sl.val (nI x))]:Ev.Env)[(0:Nat)]?=Qa (sv (nI x)) from rfl];simp only[qF,e,jg,IS,qT]))
def jh(ms:List Nat)(c:Nat)(M:D)(fw:Nat)(t x y z:Option Sl):Ev.Env:=[sv (.qA (nL ms)),sv (nI c),sv M,sv (nI fw),t,x,y,z]
def q1m(g:∀m t,G 2 [nI m,nI t]=.ok (.bl (m.testBit t)))(hl:ms.length<=1000)(x y z:Option Sl):ex G qB LV (jh ms c M fw (sv (nI t)) x y z)=.ok (jh ms c M fw (sv (nI t)) (sv (.qA (nL (qU t ms)))) y z) .nx:=by
 have a:j7 (ev G qB qG) (jO G qB [(.e (.call 2 [qG,zi]))]) 0 (jh ms c M fw (sv (nI t)) x y z) (ms.map nI)=.ok ((qU t ms).map nI):=
  wz (p:=λm=>m.testBit t) (us:=λm=>[nI m]) λm _=>#[rfl,by simp[jh,g];cases m.testBit t<;>rfl,λ_=>by simp]
 have b:(qU t ms).length<=big:=Qw (QX _ _) (by rw[jZ];lia);rw[LV,wa,vO,show jR G qB (.e qG) (jh ms c M fw (sv (nI t)) x y z)=.ok (ms.map nI) from rfl,qF,a,ka,qF,Qm,if_pos b,qT];rfl
def q1n(g:∀m t,G 2 [nI m,nI t]=.ok (.bl (m.testBit t)))(hl:ms.length<=1000)(x y z:Option Sl):ex G qB LW (jh ms c M fw (sv (nI t)) x y z)=.ok (jh ms c M fw (sv (nI t)) x (sv (.qA (nL (qZ t ms)))) z) .nx:=by
 have a:j7 (ev G qB qG) (jO G qB [(.not (.e (.call 2 [qG,zi])))]) 0 (jh ms c M fw (sv (nI t)) x y z) (ms.map nI)=.ok ((qZ t ms).map nI):=
  wz (p:=λm=>!m.testBit t) (us:=λm=>[nI m]) λm _=>#[rfl,by simp[jh,g];cases m.testBit t<;>rfl,λ_=>by simp]
 have b:(qZ t ms).length<=big:=Qw (QX _ _) (by rw[jZ];lia);rw[LW,wa,vO,show jR G qB (.e qG) (jh ms c M fw (sv (nI t)) x y z)=.ok (ms.map nI) from rfl,qF,a,ka,qF,Qm,if_pos b,qT];rfl
def ij(l:List Nat):(nL l).isEmpty=l.isEmpty:=Vc
def q1o(hb:∀x,1<=x->G 24 [nI x]=.ok (nI (bl (x-1))))(C:zY t ms=Qb->G 22 [.qA (nL (qU t ms)),nI c,M]=.ok (nI (Ph c (qU t ms)))/\G 22 [.qA (nL (qZ t ms)),nI c,M]=.ok (nI (Ph c (qZ t ms))))(z:Option Sl):
  ∃J,ex G qB LX (jh ms c M fw (sv (nI t)) (sv (.qA (nL (qU t ms)))) (sv (.qA (nL (qZ t ms)))) z)=.ok (jh ms c M (vb c ms fw t) (sv (nI t)) (sv (.qA (nL (qU t ms)))) (sv (.qA (nL (qZ t ms)))) J) .nx:=by
 have K:D.int 1=nI 1:=rfl;generalize b:jh ms c M fw (sv (nI t)) (sv (.qA (nL (qU t ms)))) (sv (.qA (nL (qZ t ms)))) z=Z;have h:ev G qB zi Z=.ok (.qA (nL (qU t ms))):=by rw[<-b];rfl
 have k:ev G qB kO Z=.ok (.qA (nL (qZ t ms))):=by rw[<-b];rfl
 have v:ev G qB qR Z=.ok (nI c):=by rw[<-b];rfl
 have w:ev G qB qf Z=.ok M:=by rw[<-b];rfl
 have H:z9 G qB (.e zi) Z=.ok (!(qU t ms).isEmpty):=by rw[uN,h,qF,bM,ij]
 have u:z9 G qB (.e kO) Z=.ok (!(qZ t ms).isEmpty):=by rw[uN,k,qF,bM,ij]
 rw[LX,kA,Po,H,qF]
 by_cases hs:zY t ms=Qb
 .obtain⟨s1,s2⟩:=uv.mp hs;have sl:=yw hs;have I:z9 G qB (.e (.cm .lt (.op .add (kZ 1) (.call 24 [(.bi .max2 [(.bi .len [zi]),(.bi .len [kO])])])) zQ)) Z=.ok (decide (1+bl (max (qU t ms).length (qZ t ms).length-1)<fw)):=by
   have m:ev G qB (.bi .max2 [(.bi .len [zi]),(.bi .len [kO])]) Z=.ok (nI (max (qU t ms).length (qZ t ms).length)):=by have:=SW (nL (qU t ms)).length (nL (qZ t ms)).length;rw[vT,vT]at this;exact Fp (jf h (wO _)) (jf k (wO _)) (by rw[vT,vT];exact this)
   exact jt (zy (vg (qt ..) (xF m (hb _ ∅)) (add_n 1 _)) (by rw[<-b];rfl) (mf _ _))
  rw[s1,J5,if_pos rfl,Po,u,qF,s2,J5,if_pos rfl,I,qT]
  by_cases g:1+bl (max (qU t ms).length (qZ t ms).length-1)<fw
  .obtain⟨E,F⟩:=C hs;rw[decide_eq_true g,if_pos rfl];have A:ex G qB (.set 7 (.bi .max2 [(.call 22 [zi,qR,qf]),(.call 22 [kO,qR,qf])])) Z=.ok (jh ms c M fw (sv (nI t)) (sv (.qA (nL (qU t ms)))) (sv (.qA (nL (qZ t ms)))) (sv (nI (max (Ph c (qU t ms)) (Ph c (qZ t ms)))))) .nx:=by rw[jL (Fp (RT h v w E) (RT k v w F) (SW _ _)),<-b];rfl
   refine#[sv (nI (max (Ph c (qU t ms)) (Ph c (qZ t ms)))),?_];rw[qi A];refine(qi (jL (Fp rfl (vg (qt ..) rfl (add_n 1 _)) (q53 _ _)))).trans ?_;unfold vb;rw[if_pos #[hs,g]];rfl
  .refine#[z,?_];rw[decide_eq_false g,if_neg Qq,zZ,<-b];unfold vb;rw[if_neg λq=>g q.2]
 .refine#[z,?_];have e:vb c ms fw t=fw:=by unfold vb;rw[if_neg λq=>hs q.1]
  rw[e];cases B:(qU t ms).isEmpty with
  |true=>rw[YF,if_neg Qq,qT,if_neg Qq,zZ,b]
  |false=>
   cases p:(qZ t ms).isEmpty with
   |true=>rw[J5,if_pos rfl,Po,u,qF,p,YF,if_neg Qq,qT,if_neg Qq,zZ,b]
   |false=>exact absurd (uv.mpr #[B,p]) hs
theorem fy(g:∀m t,G 2 [nI m,nI t]=.ok (.bl (m.testBit t)))(hb:∀x,1<=x->G 24 [nI x]=.ok (nI (bl (x-1))))(hl:ms.length<=1000):∀(ts:List Nat)(fw:Nat)(t x y z:Option Sl),
  (∀t∈ts,zY t ms=Qb->G 22 [.qA (nL (qU t ms)),nI c,M]=.ok (nI (Ph c (qU t ms)))/\G 22 [.qA (nL (qZ t ms)),nI c,M]=.ok (nI (Ph c (qZ t ms))))->
  ∃t' k p b,jS (qL G qB fb) 0 [4] (nL ts) (jh ms c M fw t x y z)=.ok (jh ms c M (ts.foldl (vb c ms) fw) t' k p b) .nx
 |[],fw,t,x,y,z,_=>#[t,x,y,z,rfl]
 |u::ts,fw,t,x,y,z,hr=>by
  obtain⟨b,w⟩:=q1o hb (hr u Qg) z;have e:qL G qB fb (jh ms c M fw (sv (nI u)) x y z)=.ok (jh ms c M (vb c ms fw u) (sv (nI u)) (sv (.qA (nL (qU u ms)))) (sv (.qA (nL (qZ u ms)))) b) .nx:=by rw[fb,qi (q1m g hl x y z),qi (q1n g hl _ y z),qi w,zZ]
  obtain⟨t',k,p,q,h⟩:=fy g hb hl ts (vb c ms fw u) (sv (nI u)) (sv (.qA (nL (qU u ms)))) (sv (.qA (nL (qZ u ms)))) b λv hv=>hr v (Qd _ hv);refine#[t',k,p,q,?_];rw[vz,vm];show(qL G qB fb (jh ms c M fw (sv (nI u)) x y z)).turn _=_;rw[e,xb,h,Ye]
def q2z(t m:Nat):vn t (nI m)=m.testBit t:=rfl
def gm(t m:Nat):vn t (tD m)=m.testBit t:=by show(nL (zW m)).any (λd=>qM d (nI t))=_;rw[FL,Q0,decide_eq_true_eq,wh]
def q9v{f:Nat->D}(hf:∀m,qJ (f m)=Qb)(h:ms.Sublist rs):wx (ms.map f) (rs.map f)=Qb:=by
 have main:∀(rs ms:List Nat),ms.Sublist rs->wx (ms.map f) (rs.map f)=Qb:=by
  intro rs
  induction rs with
  |nil=>intro ms h;cases h;rfl
  |cons y rs b=>
   intro ms h;cases ms with
   |nil=>rfl
   |cons x ms=>
    rw[QK,QK,wx];split
    .refine b ms ?_;cases h with
     |cons _ h=>exact(List.sublist_cons_self x ms).trans h
     |cons_cons _ h=>exact h
    .rename_i e;rw[<-QK];refine b (x::ms) ?_;cases h with
     |cons _ h=>exact h
     |cons_cons _ h=>exact absurd ((k9 (hf _) (hf _)).mpr rfl) e
 exact main _ _ h
def nQ{f:Nat->D}(e:∀t m,vn t (f m)=m.testBit t)(hf:∀m,qJ (f m)=Qb)(g:pl (.qE (ms.map f))=Qb)(h:ms.Sublist rs)(hl:rs.length<=20):yL (.mem c (rs.map f)) (.qE (ms.map f)) (nI (Ph c ms))=Qb:=by
 have b:∀l:List Nat,zO (l.map f)=Qb:=λl=>kz.mpr λd hd=>by obtain⟨a,_,rfl⟩:=Qv.mp hd;exact hf a
 unfold nI yL;dsimp only;rw[q6n e,q9v hf h,b,b,g,Qm];simp[hl]
def PH{l:List S}{xs:List D}(h:ev G qB (.qS i) Z=.ok (.qA xs)\/ev G qB (.qS i) Z=.ok (.qE xs)):z9 G qB (.e (.cm .eq (.bi .len [(.qS i)]) (kZ 1))) Z=.ok (decide (xs.length=1)):=by
 rcases h with h|h
 .exact jt (zy (jf h (wO _)) (qt ..) (Fi _ 1))
 .exact jt (zy (jf h (q0D _)) (qt ..) (Fi _ 1))
def nY{k:Nat}{v m:D}(b:qL G qB body Z=.ok ρ' .nx)(e:ev G qB a ρ'=.ok v)(g:zH Z i=.ok m)(h:zH Z k=.ok d)(p:zH ρ' i=.ok m)(q:zH ρ' k=.ok d)(u:yL m d v=Qb):ex G qB (.memo i k body a) Z=.ok (wm Z) (.ret v):=by rw[q1e,b];dsimp only;rw[e,g,h,p,q];dsimp only;rw[u];rfl
def q2K(hc:c<=1000)(hl:rs.length<=20):∀(k:Nat)(ms:List Nat)(K:Nat),Sep c ms->0<ms.length->lv c ms<=k->2*k+1<=K->ms.Sublist rs->Gm K 22 [.qA (nL ms),nI c,.mem c (nL rs)]=.ok (nI (Ph c ms)):=by
 intro k
 induction k with
 |zero=>
  intro ms K s v H F hs;have g:=mq s v ∅;obtain⟨b,rfl⟩:∃b,K=b+1:=#[K-1,∅]
  refine(jQ b 22 _ 3 4 GH rfl rfl).trans (jj (Z:=[sv (.qA (nL ms)),sv (nI c),sv (.mem c (nL rs)),Qc]) rfl (jW (ρ':=[sv (.qA (nL ms)),sv (nI c),sv (.mem c (nL rs)),Qc]) ?_));rw[kA,PH (l:=[]) (xs:=nL ms) (.inl rfl),qT,vT,decide_eq_true g,if_pos rfl,CF g];rfl
 |succ k A=>
  intro ms K s v H F hs;obtain⟨b,rfl⟩:∃b,K=b+3:=#[K-3,∅]
  refine(jQ (b+2) 22 _ 3 4 GH rfl rfl).trans ?_
  by_cases g:ms.length=1
  .refine jj (Z:=[sv (.qA (nL ms)),sv (nI c),sv (.mem c (nL rs)),Qc]) rfl (jW (ρ':=[sv (.qA (nL ms)),sv (nI c),sv (.mem c (nL rs)),Qc]) ?_);rw[kA,PH (l:=[]) (xs:=nL ms) (.inl rfl),qT,vT,decide_eq_true g,if_pos rfl,CF g];rfl
  have B:∀l,qL (Gm (b+2)) qB ((.ifs (.e (.cm .eq (.bi .len [qG]) (kZ 1))) [.ret (kZ 0)] [])::l) [sv (.qA (nL ms)),sv (nI c),sv (.mem c (nL rs)),Qc]=qL (Gm (b+2)) qB l [sv (.qA (nL ms)),sv (nI c),sv (.mem c (nL rs)),Qc]:=λl=>qi (by rw[kA,PH (l:=[]) (xs:=nL ms) (.inl rfl),qT,vT,decide_eq_false g,if_neg Qq,zZ])
  refine jj (Z:=[sv (.qA (nL ms)),sv (nI c),sv (.mem c (nL rs)),Qc]) rfl ((B _).trans (((λl=>qi (jL (jf (x:=.qA (nL ms)) rfl (RI _)))) _).trans (jW (nY (m:=.mem c (nL rs)) (d:=.qE (nL ms)) (zZ _) (RT (x:=.qA (nL ms)) (y:=nI c) (z:=.mem c (nL rs)) rfl rfl rfl ?_) rfl rfl rfl rfl (nQ q2z iH (aV ms) hs hl)))));refine(jQ (b+1) 23 _ 3 8 GG rfl rfl).trans ?_;obtain⟨t',p,q,u,e⟩:=fy (G:=Gm (b+1)) (c:=c) (ms:=ms) (M:=.mem c (nL rs)) (λm t=>Lj b m t) (λx I=>q2I b x I) (Qw hs.length_le ∅) (Qu c) ms.length Qc Qc Qc Qc λt w h=>
   #[A _ _ (s.qU t) (yw h).2.2.1 (by have:=SH (QN.mp w) h;lia) ∅ (JU.trans hs),A _ _ (s.qZ t) (yw h).2.2.2 (by have:=mh (QN.mp w) h;lia) ∅ (JU.trans hs)]
  rw[search s ∅]at e;have C:∀l,qL (Gm (b+1)) qB ((.set 3 (.bi .len [qG]))::l) [sv (.qA (nL ms)),sv (nI c),sv (.mem c (nL rs)),Qc,Qc,Qc,Qc,Qc]=qL (Gm (b+1)) qB l (jh ms c (.mem c (nL rs)) ms.length Qc Qc Qc Qc):=λl=>by refine(qi (jL (jf (x:=.qA (nL ms)) rfl (wO _)))).trans ?_;rw[vT];rfl
  have E:ex (Gm (b+1)) qB (.zS 0 [4] (.rng [qR]) fb) (jh ms c (.mem c (nL rs)) ms.length Qc Qc Qc Qc)=.ok (jh ms c (.mem c (nL rs)) (Ph c ms) t' p q u) .nx:=by rw[xG,vh,kJ (x:=nI c) (by rw[qQ];rfl),qF,xT c (Jr hc (by decide)),qT,e]
  refine jj (Z:=[sv (.qA (nL ms)),sv (nI c),sv (.mem c (nL rs)),Qc,Qc,Qc,Qc,Qc]) (ρ':=jh ms c (.mem c (nL rs)) (Ph c ms) t' p q u) rfl ?_;rw[show GG=[.set 3 (.bi .len [qG]),.zS 0 [4] (.rng [qR]) fb,.ret zQ] from rfl,C,qi E,(jW (by rw[vi,qQ,show zH (jh ms c (.mem c (nL rs)) (Ph c ms) t' p q u) 3=.ok (nI (Ph c ms)) from rfl,qT]))]
section
variable{acc:List Nat}{ws:List Wn}
def nP(t m:Nat):qj .mem (nI t) (tD m)=.ok (.bl (m.testBit t)):=by rw[tD,nU];congr 2;rw[Q0,decide_eq_true_eq,wh]
def q5H(t m:Nat):qj .w6 (nI t) (tD m)=.ok (.bl (!m.testBit t)):=by rw[tD,oJ];congr 3;rw[Q0,decide_eq_true_eq,wh]
def q3M(m:Nat):qJ (tD m)=Qb:=OE _
def p4(l:List Nat):pl (.qE (l.map tD))=Qb:=by show qV 8 _=Qb;rw[yP,QL];intro d hd;obtain⟨a,_,rfl⟩:=Qv.mp hd;show qV 7 (.qE _)=Qb;rw[yP];exact tO _ _
def o7(l:List Nat):qj .ne (.qE (l.map tD)) (.qE [])=.ok (.bl (!l.isEmpty)):=by
 show(if pl (.qE (l.map tD))&&pl (.qE [])then R.ok (D.bl (!qM (.qE (l.map tD)) (.qE [])))else .qC)=_;rw[p4,show pl (.qE [])=Qb from rfl,Zs,if_pos rfl];cases l with
 |nil=>rfl
 |cons a l=>simp[qM,zf]
def jb(ms:List Nat)(c:Nat)(M:D)(acc:List Nat)(t x y:Option Sl):Ev.Env:=[sv (.qE (ms.map tD)),sv (nI c),sv M,Qa (.own (.qA (nL acc))),t,x,y]
def q4T(hl:ms.length<=1000)(x y:Option Sl):ex G qB mG (jb ms c M acc (sv (nI t)) x y)=.ok (jb ms c M acc (sv (nI t)) (sv (.qE ((qU t ms).map tD))) y) .nx:=by
 have a:j7 (ev G qB qG) (jO G qB [(.e (.cm .mem zi qG))]) 0 (jb ms c M acc (sv (nI t)) x y) (ms.map tD)=.ok ((qU t ms).map tD):=
  wz (p:=λm=>m.testBit t) (us:=λm=>[tD m]) λm _=>#[rfl,by simp[jb,nP];cases m.testBit t<;>rfl,λ_=>by simp]
 have b:(qU t ms).length<=big:=Qw (QX _ _) (by rw[jZ];lia);refine jL (jf (x:=.qA ((qU t ms).map tD)) ?_ (RI _));rw[vO,T6,qQ,show zH (jb ms c M acc (sv (nI t)) x y) 0=.ok (.qE (ms.map tD)) from rfl,qF,iz,qF,a,ka,qF,Qm,if_pos b]
def q4U(hl:ms.length<=1000)(x y:Option Sl):ex G qB mH (jb ms c M acc (sv (nI t)) x y)=.ok (jb ms c M acc (sv (nI t)) x (sv (.qE ((qZ t ms).map tD)))) .nx:=by
 have a:j7 (ev G qB qG) (jO G qB [(.e (.cm .w6 zi qG))]) 0 (jb ms c M acc (sv (nI t)) x y) (ms.map tD)=.ok ((qZ t ms).map tD):=
  wz (p:=λm=>!m.testBit t) (us:=λm=>[tD m]) λm _=>#[rfl,by simp[jb,q5H];cases m.testBit t<;>rfl,λ_=>by simp]
 have b:(qZ t ms).length<=big:=Qw (QX _ _) (by rw[jZ];lia);refine jL (jf (x:=.qA ((qZ t ms).map tD)) ?_ (RI _));rw[vO,T6,qQ,show zH (jb ms c M acc (sv (nI t)) x y) 0=.ok (.qE (ms.map tD)) from rfl,qF,iz,qF,a,ka,qF,Qm,if_pos b]
def q4V(C:acc.length<1000)(w:zY t ms=Qb->G 37 [.qE ((qU t ms).map tD),nI c,M]=.ok (nI (Ph c (qU t ms)))/\G 37 [.qE ((qZ t ms).map tD),nI c,M]=.ok (nI (Ph c (qZ t ms)))):
  ex G qB Oo (jb ms c M acc (sv (nI t)) (sv (.qE ((qU t ms).map tD))) (sv (.qE ((qZ t ms).map tD))))=.ok (jb ms c M (if zY t ms then acc++[vF c ms t]else acc) (sv (nI t)) (sv (.qE ((qU t ms).map tD))) (sv (.qE ((qZ t ms).map tD)))) .nx:=by
 generalize b:jb ms c M acc (sv (nI t)) (sv (.qE ((qU t ms).map tD))) (sv (.qE ((qZ t ms).map tD)))=Z;have q:ev G qB zi Z=.ok (.qE ((qU t ms).map tD)):=by rw[<-b];rfl
 have u:ev G qB kO Z=.ok (.qE ((qZ t ms).map tD)):=by rw[<-b];rfl
 have k:ev G qB qR Z=.ok (nI c):=by rw[<-b];rfl
 have p:ev G qB qf Z=.ok M:=by rw[<-b];rfl
 have ne:ev G qB (.qE []) Z=.ok (.qE []):=rfl;have h:=jt (zy u ne (o7 _));rw[Oo,kA,Po,(jt (zy q ne (o7 _))),qF]
 by_cases hs:zY t ms=Qb
 .obtain⟨s1,s2⟩:=uv.mp hs;obtain⟨A,B⟩:=w hs;have o:Z[3]?=Qa (Qa (.own (.qA (nL acc)))):=by rw[<-b];rfl
  rw[s1,J5,if_pos rfl,h,s2,J5,qT,if_pos rfl,if_pos hs];refine(qi (ρ':=jb ms c M (acc++[vF c ms t]) (sv (nI t)) (sv (.qE ((qU t ms).map tD))) (sv (.qE ((qZ t ms).map tD)))) ?_).trans (zZ _);rw[LM,o];dsimp only;rw[vg (a:=.qo (.int 1)) (x:=nI 1) rfl (Fp (RT q k p A) (RT u k p B) (SW _ _)) (add_n 1 _),qT,vT,if_pos (by rw[jZ];lia),<-b];unfold jb;rw[q5B];rfl
 .have e:zY t ms=Qf:=by cases z:zY t ms with|false=>rfl|true=>exact absurd z hs
  rw[e,if_neg Qq];cases v:(qU t ms).isEmpty with
  |true=>rw[YF,if_neg Qq,qT,if_neg Qq,zZ,b]
  |false=>
   cases g:(qZ t ms).isEmpty with
   |true=>rw[J5,if_pos rfl,h,g,YF,qT,if_neg Qq,zZ,b]
   |false=>exact absurd (uv.mpr #[v,g]) hs
theorem mI(hl:ms.length<=1000):∀(ts acc:List Nat)(t x y:Option Sl),acc.length+ts.length<=1000->
  (∀t∈ts,zY t ms=Qb->G 37 [.qE ((qU t ms).map tD),nI c,M]=.ok (nI (Ph c (qU t ms)))/\G 37 [.qE ((qZ t ms).map tD),nI c,M]=.ok (nI (Ph c (qZ t ms))))->
  ∃t' b g,jS (qL G qB lf) 0 [4] (nL ts) (jb ms c M acc t x y)=.ok (jb ms c M (acc++ts.filterMap λt=>if zY t ms then Qa (vF c ms t)else Qc) t' b g) .nx
 |[],acc,t,x,y,_,_=>#[t,x,y,by rw[List.filterMap_nil,Ja];rfl]
 |u::ts,acc,t,x,y,ha,hr=>by
  rw[QH]at ha;have e:qL G qB lf (jb ms c M acc (sv (nI u)) x y)=.ok (jb ms c M (if zY u ms then acc++[vF c ms u]else acc) (sv (nI u)) (sv (.qE ((qU u ms).map tD))) (sv (.qE ((qZ u ms).map tD)))) .nx:=by rw[lf,qi (q4T hl x y),qi (q4U hl _ y),qi (q4V ∅ (hr u Qg)),zZ]
  have len:(if zY u ms then acc++[vF c ms u]else acc).length<=acc.length+1:=by split<;>simp
  obtain⟨t',b,g,h⟩:=mI hl ts (if zY u ms then acc++[vF c ms u]else acc) (sv (nI u)) (sv (.qE ((qU u ms).map tD))) (sv (.qE ((qZ u ms).map tD))) ∅ λv hv=>hr v (Qd _ hv);refine#[t',b,g,?_];rw[vz,vm];show(qL G qB lf (jb ms c M acc (sv (nI u)) x y)).turn _=_;rw[e,xb,h,Jg];cases zY u ms with
  |true=>rw[if_pos rfl,if_pos rfl,Wl];rfl
  |false=>rw[if_neg Qq,if_neg Qq]
theorem mB:∀(l:List Nat)(x:Nat),uE (l.map λ(a:Nat)=>(a:Int)) x=((l.foldl min x:Nat):Int)
 |[],x=>rfl
 |a::l,x=>by rw[QK,uE,Ye,<-mB l (min x a)];congr 1;split<;>lia
def ni(h:acc≠[]):zF qB .wj [.qA (nL acc)]=.ok (nI (mn acc)):=by
 cases acc with
 |nil=>cases h rfl
 |cons x l=>
  show minD (nL (x::l))=_;rw[minD,OX,QK];show R.ok (D.int (uE _ _))=_;rw[mB];rfl
def q2Q(hc:c<=900)(hl:rs.length<=20):∀(k:Nat)(ms:List Nat)(K:Nat),Sep c ms->0<ms.length->lv c ms<=k->k+1<=K->ms.Sublist rs->Gm K 37 [.qE (ms.map tD),nI c,.mem c (rs.map tD)]=.ok (nI (Ph c ms)):=by
 intro k
 induction k with
 |zero=>
  intro ms K s u H F hs;have g:=mq s u ∅;obtain⟨b,rfl⟩:∃b,K=b+1:=#[K-1,∅]
  refine(jQ b 37 _ 3 7 DX rfl rfl).trans (jj (Z:=[sv (.qE (ms.map tD)),sv (nI c),sv (.mem c (rs.map tD)),Qc,Qc,Qc,Qc]) rfl (jW (ρ':=[sv (.qE (ms.map tD)),sv (nI c),sv (.mem c (rs.map tD)),Qc,Qc,Qc,Qc]) ?_));rw[kA,PH (l:=[]) (xs:=ms.map tD) (.inr rfl),qT,Qm,decide_eq_true g,if_pos rfl,CF g];rfl
 |succ k w=>
  intro ms K s u H F hs;obtain⟨b,rfl⟩:∃b,K=b+1:=#[K-1,∅]
  refine(jQ b 37 _ 3 7 DX rfl rfl).trans ?_
  by_cases g:ms.length=1
  .refine jj (Z:=[sv (.qE (ms.map tD)),sv (nI c),sv (.mem c (rs.map tD)),Qc,Qc,Qc,Qc]) rfl (jW (ρ':=[sv (.qE (ms.map tD)),sv (nI c),sv (.mem c (rs.map tD)),Qc,Qc,Qc,Qc]) ?_);rw[kA,PH (l:=[]) (xs:=ms.map tD) (.inr rfl),qT,Qm,decide_eq_true g,if_pos rfl,CF g];rfl
  obtain⟨t',p,q,e⟩:=mI (G:=Gm b) (c:=c) (ms:=ms) (M:=.mem c (rs.map tD)) (Qw hs.length_le ∅) (Qu c) [] Qc Qc Qc (by rw[Jc];simp;lia) λt v h=>
   #[w _ _ (s.qU t) (yw h).2.2.1 (by have:=SH (QN.mp v) h;lia) ∅ (JU.trans hs),w _ _ (s.qZ t) (yw h).2.2.2 (by have:=mh (QN.mp v) h;lia) ∅ (JU.trans hs)]
  rw[Vo]at e;have A:∀l,qL (Gm b) qB ((.ifs (.e (.cm .eq (.bi .len [qG]) (kZ 1))) [.ret (kZ 0)] [])::l) [sv (.qE (ms.map tD)),sv (nI c),sv (.mem c (rs.map tD)),Qc,Qc,Qc,Qc]=qL (Gm b) qB l [sv (.qE (ms.map tD)),sv (nI c),sv (.mem c (rs.map tD)),Qc,Qc,Qc,Qc]:=λl=>qi (by rw[kA,PH (l:=[]) (xs:=ms.map tD) (.inr rfl),qT,Qm,decide_eq_false g,if_neg Qq,zZ])
  have B:ex (Gm b) qB (.jF 3 (.qA [])) [sv (.qE (ms.map tD)),sv (nI c),sv (.mem c (rs.map tD)),Qc,Qc,Qc,Qc]=.ok (jb ms c (.mem c (rs.map tD)) [] Qc Qc Qc) .nx:=by rw[EX,T5 (xs:=[]) (ds:=[]) (jg _) (by simp)];rfl
  have C:ex (Gm b) qB (.zS 0 [4] (.rng [qR]) lf) (jb ms c (.mem c (rs.map tD)) [] Qc Qc Qc)=.ok (jb ms c (.mem c (rs.map tD)) (opts c ms) t' p q) .nx:=by rw[xG,vh,kJ (x:=nI c) (by rw[qQ];rfl),qF,xT c (Jr hc (by decide)),qT,e];rfl
  have E:qL (Gm b) qB [.jF 3 (.qA []),.zS 0 [4] (.rng [qR]) lf] [sv (.qE (ms.map tD)),sv (nI c),sv (.mem c (rs.map tD)),Qc,Qc,Qc,Qc]=.ok (jb ms c (.mem c (rs.map tD)) (opts c ms) t' p q) .nx:=by rw[qi B,qi C,zZ]
  have z:ev (Gm b) qB (.bi .wj [(.bor 3)]) (jb ms c (.mem c (rs.map tD)) (opts c ms) t' p q)=.ok (nI (Ph c ms)):=by rw[aQ g];exact jf (x:=.qA (nL (opts c ms))) (by rw[T3];rfl) (ni (aI s ∅))
  refine jj (Z:=[sv (.qE (ms.map tD)),sv (nI c),sv (.mem c (rs.map tD)),Qc,Qc,Qc,Qc]) (ρ':=wm [sv (.qE (ms.map tD)),sv (nI c),sv (.mem c (rs.map tD)),Qc,Qc,Qc,Qc]) rfl ?_;rw[show DX=[.ifs (.e (.cm .eq (.bi .len [qG]) (kZ 1))) [.ret (kZ 0)] [],.memo 2 0 [.jF 3 (.qA []),.zS 0 [4] (.rng [qR]) lf] (.bi .wj [(.bor 3)])] from rfl,A];exact jW (nY (m:=.mem c (rs.map tD)) (d:=.qE (ms.map tD)) E z rfl rfl rfl rfl (nQ gm q3M (p4 ms) hs hl))
def q6i{l:List D}(h:l.Perm (nL ks)):∃b:List Nat,l=nL b/\b.Perm ks:=by
 have g:∀a,(match nI a with|.int i=>i.toNat|_=>0)=a:=λa=>rfl;refine#[l.map λd=>match d with|.int i=>i.toNat|_=>0,?_,?_]
 .rw[PU,JD];refine(WG l).symm.trans (Yq λd hd=>?_);refine qH (Qv.mp (h.mem_iff.mp hd)) λa _ e=>?_;subst e;rfl
 .have:=h.map λd=>match d with|.int i=>i.toNat|_=>0
  rw[PU,JD]at this;exact this.trans (.of_eq (WG ks))
def q98(h:ks.Nodup)(hl:ks.length<64):ko (nL ks)=Qb:=by
 have e:Xq zm (nL ks)=Qb:=by unfold Xq;rw[QL];intro a p;rw[QL];intro b hb;obtain⟨x,_,rfl⟩:=Qv.mp p;obtain⟨y,_,rfl⟩:=Qv.mp hb;simp[nI,zm]
 have g:dedup (nL ks)=nL ks:=EB (JO.mpr (h.imp λ{a b} q=>by rw[Fl,decide_eq_false q]));have k:(nL ks).all ub=Qb:=QL.mpr λd hd=>by obtain⟨a,_,rfl⟩:=Qv.mp hd;rfl
 unfold ko C6;rw[e,g,k,q3L,aU,vT];simp[hl]
def X5(g:Good n ws):Sep n (qh n ws):=#[(AQ g.n5).filter _,λm h=>by have:=Tr ((EE g m).mp h);rwa [Tc]at this]
def L3(g:Good n ws):0∈qh n ws:=(EE g 0).mpr .z
def ED(g:Good n ws)(b:n<=4):(qh n ws).length<=16:=Qw (xR _ _ (X5 g).nd (X5 g).lt) (Qw (Q1 (by decide) b) (by decide))
def q2L(g:Good n ws)(u:n<=4)(k:Nat):Gm (k+10) 21 [rD n ws]=.ok (nI (Ph n (qh n ws))):=by
 refine qd (gW g (k+4)) λks h B p=>?_;have v:=oo h (X5 g).nd λx=>by rw[B,EE g]
 have A:=ED g u;refine qH (q6i (u9 (nL ks))) λb C q=>?_;have e:=q.trans v;have F:=v.length_eq;have H:=e.length_eq;have s:Sep n b:=#[e.nodup_iff.mpr (X5 g).nd,λm E=>(X5 g).lt m (e.mem_iff.mp E)]
 have pos:=JY (L3 g);refine(jQ (k+9) 21 _ 1 2 Og rfl rfl).trans ?_;have w:ex (Gm (k+9)) qB (.set 1 (.bi .sorted [(.call 14 [qG])])) [sv (rD n ws),Qc]=.ok [sv (rD n ws),sv (.qA (nL b))] .nx:=by refine jL (jf (xF (by rw[qQ];rfl) p) ?_);rw[q0G,q3v,qF,if_pos (q98 h ∅),C]
 have z:ev (Gm (k+9)) qB (.vM 22 [qR,(.idx qG (kZ 0))]) [sv (rD n ws),sv (.qA (nL b))]=.ok (nI (Ph n (qh n ws))):=by
  have r:yR [.qA (nL b),nI n]=.ok (.mem n (nL b)):=by show(if(nL b).length<=20 then R.ok (D.mem n (nL b))else .qC)=_;rw[vT,if_pos ∅]
  rw[ET,kK (by rw[qQ];rfl) (by rw[wZ,qQ,qt];rfl),qF,r,qF];show Gm (k+9) 22 [.qA (nL b),nI n,.mem n (nL b)]=_;rw[q2K ∅ ∅ 4 b (k+9) s ∅ (Qw (ml n b) u) ∅ (Vy _),q6m e]
 exact jj (Z:=[sv (rD n ws),Qc]) (ρ':=[sv (rD n ws),sv (.qA (nL b))]) rfl ((qi w).trans (jW (by rw[vi,z,qT])))
end
section
variable{ws:List Wn}
def fD(n:Nat)(l:List Nat):List D:=[.qA (l.map tD),nI n]
def kM(z:Int)(m:Nat):Bool:=(nL (zW m)).any λy=>qM y (.int z)
def iV(t m:Nat):kM (t:Int) m=m.testBit t:=gm t m
def PT(z:Int)(m:Nat):qj .mem (.int z) (tD m)=.ok (.bl (kM z m)):=by show((memD (.int z) (.qE (nL (zW m)))).bind λr=>R.ok (D.bl r))=_;unfold memD;dsimp only;rw[q6t,aU];rfl
def fit(z:Int)(b:Bool)(l:List Nat):List Nat:=l.filter λm=>kM z m==b
def LC(a b:Bool):qj .eq (.bl a) (.bl b)=.ok (.bl (a==b)):=by cases a<;>cases b<;>rfl
def t7(k f:Nat)(xs:List D)(a b:Nat)(l:List S)(h:RO[f]?=Qa #[a,b,l,Qb,Qf,Qc])(hl:xs.length=a):Gm (k+1) f xs=Ev.Tt (Gm k) qB b l xs:=by rw[Gm,h];exact if_pos hl
def sy(k f:Nat)(xs:List D)(a b:Nat)(l:List S)(h:RO[f]?=Qa #[a,b,l,Qf,Qb,Qc])(hl:xs.length=a):Gm (k+1) f xs=Ev.Ts (Gm k) qB b l xs:=by rw[Gm,h];exact if_pos hl
def Ay(k f:Nat)(xs:List D)(a b:Nat)(l:List S)(q:List S×Nat×L)(h:RO[f]?=Qa #[a,b,l,Qf,Qf,Qa q])(hl:xs.length=a):Gm (k+1) f xs=Ev.yS (Gm k) qB b q.1 q.2.1 q.2.2 l xs:=by rw[Gm,h];exact if_pos hl
def Fq(h:ev G qB a Z=.ok (.obj fs))(b:fs[k]?=Qa d):ev G qB (.fld a k) Z=.ok d:=by rw[fV,h,qF];show T7 k fs=_;unfold T7;rw[b]
def q2P(k:Nat):Gm (k+1) 16 [.obj (fD n l)]=.ok (.qA (l.map tD)):=by
 refine(t7 k 16 _ 1 1 DV rfl rfl).trans ?_;have e:qL (Gm k) qB DV [sv (.obj (fD n l))]=.ok [sv (.obj (fD n l))] (.Xb (.qA (l.map tD))):=by rw[DV,yZ,fi,Fq (by rw[qQ];rfl) rfl,qT];rfl
 unfold Ev.Tt;rw[show zV [D.obj (fD n l)]++Qj (1 -[D.obj (fD n l)].length) Qc=[sv (.obj (fD n l))] from rfl,e]
def Li(k:Nat)(z:Int)(b:Bool)(hl:l.length<=1000):Gm (k+1) 19 [.obj (fD n l),.int z,.bl b]=.ok (.qA ((fit z b l).map tD)):=by
 refine(jQ k 19 _ 3 3 Oe rfl rfl).trans ?_;have a:j7 (ev (Gm k) qB qG) (jO (Gm k) qB [(.e (.cm .eq (.cm .mem qf qG) zQ))]) 0 [sv (.obj (fD n l)),sv (.int z),sv (.bl b)] (l.map tD)=.ok ((fit z b l).map tD):=
  wz (p:=λm=>kM z m==b) (us:=λm=>[tD m]) λm _=>#[rfl,by simp[PT,LC];cases kM z m<;>cases b<;>rfl,λ_=>by simp]
 have c:(fit z b l).length<=big:=Qw (QX _ _) (by rw[jZ];lia);refine jj (Z:=[sv (.obj (fD n l)),sv (.int z),sv (.bl b)]) (ρ':=[sv (.obj (fD n l)),sv (.int z),sv (.bl b)]) rfl (jW ?_);rw[vi,vO,T6,Fq (fs:=fD n l) (d:=.qA (l.map tD)) (by rw[qQ];rfl) rfl,qF,G9,qF,a,ka,qF,Qm,if_pos c,qT]
def gap(t:Nat)(l:List Nat):Nat:=(((qU t l).length:Int)-(qZ t l).length).natAbs
def gE(t:Nat)(l:List Nat):fit (t:Int) Qb l=qU t l:=U0 λm _=>by rw[iV];cases m.testBit t<;>rfl
def gC(t:Nat)(l:List Nat):fit (t:Int) Qf l=qZ t l:=U0 λm _=>by rw[iV];cases m.testBit t<;>rfl
def X7{fs:List D}(h:ev G qB a Z=.ok (.obj fs))(b:qu G qB xs Z=.ok ds)(e:G f (.obj fs::ds)=.ok d)(g:pl d=Qb):ev G qB (.callM f a xs) Z=.ok d:=by rw[fU,h,qF];show((qu G qB xs Z).bind λds=>(G f (.obj fs::ds)).bind wt)=_;rw[b,qF,e,qF];unfold wt;rw[if_pos g]
def bu(a:Int):zF qB .abs [.int a]=.ok (nI a.natAbs):=by show R.ok (D.int (if a<0 then-a else a))=_;unfold nI;congr 2;split<;>lia
def Ac(a b:Int):zT .sub (.int a) (.int b)=.ok (.int (a-b)):=rfl
def q2M(k t:Nat)(hl:l.length<=1000):Gm (k+2) 18 [.obj (fD n l),nI t]=.ok (nI (gap t l)):=by
 refine(jQ (k+1) 18 _ 2 2 Of rfl rfl).trans ?_;have b:=Li (n:=n) (l:=l) k (t:Int) Qb hl;have e:=Li (n:=n) (l:=l) k (t:Int) Qf hl;rw[gE]at b;rw[gC]at e;have g:ev (Gm (k+1)) qB qG [sv (.obj (fD n l)),sv (nI t)]=.ok (.obj (fD n l)):=by rw[qQ];rfl
 have h:ev (Gm (k+1)) qB qR [sv (.obj (fD n l)),sv (nI t)]=.ok (nI t):=by rw[qQ];rfl
 refine jj (Z:=[sv (.obj (fD n l)),sv (nI t)]) (ρ':=[sv (.obj (fD n l)),sv (nI t)]) rfl (jW ?_);rw[vi,jf (vg (jf (X7 (f:=19) g (kK h (qt (.bl Qb) _)) b (uk _)) (wO _)) (jf (X7 (f:=19) g (kK h (qt (.bl Qf) _)) e (uk _)) (wO _)) (Ac _ _)) (bu _),qT,Qm,Qm];rfl
noncomputable def best(f:Nat->Nat):Nat->Option (Nat×Nat)
 |0=>Qc
 |n+1=>match best f n with
  |none=>Qa (f n,n)
  |some (g,u)=>if f n<g then Qa (f n,n)else Qa (g,u)
theorem cM(f:Nat->Nat):∀n,∃u,best f (n+1)=Qa (f u,u)/\u<=n/\(∀v,v<=n->f u<=f v)/\∀v,v<u->f u<f v
 |0=>#[0,rfl,Qt _,λv hv=>by rw[Nat.le_zero.mp hv];exact Qt _,λv hv=>absurd hv (Nat.not_lt_zero _)]
 |n+1=>by
  refine xq (cM f n) λu e k b g=>?_
  by_cases h:f (n+1)<f u
  .refine#[n+1,?_,Qt _,λv hv=>?_,λv hv=>?_]
   .rw[best,e];dsimp only;rw[if_pos h]
   .rcases Nat.lt_or_ge v (n+1)with q|q
    .have:=b v ∅;lia
    .rw[show v=n+1 by lia];exact Qt _
   .have:=b v ∅;lia
  .refine#[u,?_,∅,λv hv=>?_,g]
   .rw[best,e];dsimp only;rw[if_neg h]
   .rcases Nat.lt_or_ge v (n+1)with q|q
    .exact b v ∅
    .rw[show v=n+1 by lia];lia
theorem iS{m:Nat}:∀(b:List Nat)(u j:Nat),b[u]?=Qa m->(∀v x,v<u->b[v]?=Qa x->x≠m)->idxOf (nI m) (nL b) j=.ok (nI (j+u))
 |[],u,j,h,_=>by simp at h
 |g::b,0,j,h,_=>by simp at h;subst h;rw[vz,idxOf,Fl,decide_eq_true rfl,if_pos rfl];rfl
 |g::b,u+1,j,h,hv=>by rw[vz,idxOf,Fl,decide_eq_false (hv 0 g ∅ rfl),if_neg Qq,iS b u (j+1) (by simpa using h) λv x q e=>hv (v+1) x ∅ (by simpa using e)];congr 2;lia
def qn(n:Nat)(l:List Nat):Nat:=match best (λt=>gap t l) n with
 |some (_,u)=>u
 |none=>0
def af(h:0<n):∃g,best (λt=>gap t l) n=Qa (g,qn n l)/\qn n l<n/\g=gap (qn n l) l/\(∀v,v<n->gap (qn n l) l<=gap v l)/\∀v,v<qn n l->gap (qn n l) l<gap v l:=by
 obtain⟨k,rfl⟩:∃k,n=k+1:=#[n-1,∅]
 refine xq (cM (λt=>gap t l) k) λu b q e p=>?_;have:qn (k+1) l=u:=by unfold qn;rw[b]
 rw[this];exact#[_,b,∅,rfl,λv hv=>e v ∅,p]
def qD(n:Nat)(l:List Nat):D:=if l.length=1 then .qI else nI (qn n l)
def q2a(k:Nat)(hl:l.length<=1000)(H:n<=1000)(q:l.length≠1->0<n):Gm (k+3) 17 [.obj (fD n l)]=.ok (qD n l):=by
 refine(jQ (k+2) 17 _ 1 2 GF rfl rfl).trans ?_;have u:∀y,ev (Gm (k+2)) qB qG [sv (.obj (fD n l)),y]=.ok (.obj (fD n l)):=λy=>by rw[qQ];rfl
 have t1:z9 (Gm (k+2)) qB (.e (.cm .eq (.bi .len [(.fld qG 0)]) (kZ 1))) [sv (.obj (fD n l)),Qc]=.ok (decide (l.length=1)):=by refine jt (zy (jf (Fq (u _) rfl) (wO _)) (qt ..) ?_);rw[Qm];exact Fi _ 1
 by_cases b:l.length=1
 .refine jj (Z:=[sv (.obj (fD n l)),Qc]) (ρ':=[sv (.obj (fD n l)),Qc]) rfl (jW ?_);rw[kA,t1,qT,decide_eq_true b,if_pos rfl,qD,if_pos b];rfl
 .obtain⟨g,I,p,J,B,C⟩:=af (q b);have E:ev (Gm (k+2)) qB (.comp 0 (.callM 18 qR [qG]) (.rng [(.fld qG 1)]) []) [sv (.obj (fD n l)),Qc]=.ok (.qA (nL ((Qu n).map λt=>gap t l))):=by
   have a:j7 (ev (Gm (k+2)) qB (.callM 18 qR [qG])) (jO (Gm (k+2)) qB []) 0 [sv (.obj (fD n l)),Qc] ((Qu n).map nI)=.ok (((Qu n).filter λ_=>Qb).map λt=>nI (gap t l)):=
    wz λt _=>#[rfl,rfl,λ_=>X7 (by rw[qQ];rfl) (kJ (by rw[qQ];rfl)) (q2M k t hl) (AE _)]
   rw[filter_tt]at a;rw[vO,vh,kJ (Fq (u _) rfl),qF,xT n (Jr H (by decide)),qF,PU,a,ka,qF,Qm,Jc,if_pos (by rw[jZ];lia),PU,JD];rfl
  have A:(Qu n).map (λt=>gap t l)≠[]:=λz=>by have:=congrArg Yu z;rw[Qm,Jc]at this;have:=q b;rw[JF]at*;lia
  have h:mn ((Qu n).map λt=>gap t l)=gap (qn n l) l:=by refine Nat.le_antisymm (nj (Qv.mpr #[_,QN.mpr p,rfl])) ?_;obtain⟨v,hv,e⟩:=Qv.mp (Sf A);rw[<-e];exact B v (QN.mp hv)
  refine jj (Z:=[sv (.obj (fD n l)),Qc]) (ρ':=[sv (.obj (fD n l)),sv (.qA (nL ((Qu n).map λt=>gap t l)))]) rfl ?_;rw[GF,qi (ρ':=[sv (.obj (fD n l)),Qc]) (by rw[kA,t1,qT,decide_eq_false b,if_neg Qq,zZ]),qi (jL E)];refine jW ?_;have w:ev (Gm (k+2)) qB qR [sv (.obj (fD n l)),sv (.qA (nL ((Qu n).map λt=>gap t l)))]=.ok (.qA (nL ((Qu n).map λt=>gap t l))):=by rw[qQ];rfl
  have ix:zF qB .index [.qA (nL ((Qu n).map λt=>gap t l)),nI (gap (qn n l) l)]=.ok (nI (qn n l)):=by
   rw[q0B,AE,aU,Zs,if_pos rfl,iS _ (qn n l) 0 ?_ λv x hv e=>?_,Vr]
   .rw[QB,JT p];rfl
   .rw[QB,JT ∅]at e;cases e;have:=C v hv;lia
  have F:ev (Gm (k+2)) qB (.bi .wj [qR]) [sv (.obj (fD n l)),sv (.qA (nL ((Qu n).map λt=>gap t l)))]=.ok (nI (gap (qn n l) l)):=by rw[jf w (ni A),h]
  show ex (Gm (k+2)) qB _ [sv (.obj (fD n l)),sv (.qA (nL ((Qu n).map λt=>gap t l)))]=_;rw[vi,Fp w F ix,qT,qD,if_neg b]
end
section
variable{ws:List Wn}
def q6s:zj (fD n l)=Qb:=by show(pl (.qA (l.map tD))&&(pl (nI n)&&Qb))=Qb;rw[uk];rfl
def yM(n:Nat)(z:Int)(b:Bool)(l:List Nat):Bool:=(decide (0<=z)&&decide (z<n))&&!(fit z b l).isEmpty
def gQ(k:Nat)(z:Int)(b:Bool)(hl:l.length<=1000):Gm (k+2) 20 [.obj (fD n l),.int z,.bl b]=if yM n z b l then .ok (.qE [.qI,.obj (fD n (fit z b l))])else .err 2:=by
 refine(Ay (k+1) 20 _ 3 4 Od FK rfl rfl).trans ?_;have u:∀y,ev (Gm (k+1)) qB qG [sv (.obj (fD n l)),sv (.int z),sv (.bl b),y]=.ok (.obj (fD n l)):=λy=>by rw[qQ];rfl
 have p:∀y,ev (Gm (k+1)) qB qR [sv (.obj (fD n l)),sv (.int z),sv (.bl b),y]=.ok (.int z):=λy=>by rw[qQ];rfl
 have A:∀y,ev (Gm (k+1)) qB qf [sv (.obj (fD n l)),sv (.int z),sv (.bl b),y]=.ok (.bl b):=λy=>by rw[qQ];rfl
 have t1:z9 (Gm (k+1)) qB (.or (.e (.cm .lt qR (kZ 0))) (.e (.cm .ge qR (.fld qG 1)))) [sv (.obj (fD n l)),sv (.int z),sv (.bl b),Qc]=.ok (!(decide (0<=z)&&decide (z<n))):=by
  rw[Ag,jt (zy (p _) (qt (.int 0) _) (me z 0)),qF,jt (zy (p _) (Fq (u _) rfl) (q2j z n))]
  by_cases h:z<0
  .rw[decide_eq_true h,if_pos rfl,decide_eq_false ∅];rfl
  .rw[decide_eq_false h,if_neg Qq,decide_eq_true (show 0<=z by lia)];rfl
 have v:ev (Gm (k+1)) qB (.callM 19 qG [qR,qf]) [sv (.obj (fD n l)),sv (.int z),sv (.bl b),Qc]=.ok (.qA ((fit z b l).map tD)):=
  X7 (u _) (kK (p _) (A _)) (Li k z b hl) (uk _)
 have q:z9 (Gm (k+1)) qB (.not (.e zQ)) [sv (.obj (fD n l)),sv (.int z),sv (.bl b),sv (.qA ((fit z b l).map tD))]=.ok (fit z b l).isEmpty:=by rw[bP,uN,qQ,show zH [sv (.obj (fD n l)),sv (.int z),sv (.bl b),sv (.qA ((fit z b l).map tD))] 3=.ok (.qA ((fit z b l).map tD)) from rfl,qF,bM,qF,Vc,Bool.not_not]
 generalize g:qL (Gm (k+1)) qB FK.1 (zV [D.obj (fD n l),.int z,.bl b]++Qj (4 -[D.obj (fD n l),.int z,.bl b].length) Qc)=r0;have g:qL (Gm (k+1)) qB [.ifs (.or (.e (.cm .lt qR (kZ 0))) (.e (.cm .ge qR (.fld qG 1)))) [.raise 2] [],.set 3 (.callM 19 qG [qR,qf]),.ifs (.not (.e zQ)) [.raise 2] []] [sv (.obj (fD n l)),sv (.int z),sv (.bl b),Qc]=r0:=g;have w:r0=if yM n z b l then .ok [sv (.obj (fD n l)),sv (.int z),sv (.bl b),sv (.qA ((fit z b l).map tD))] .nx else if(decide (0<=z)&&decide (z<n))then .err 2 [sv (.obj (fD n l)),sv (.int z),sv (.bl b),sv (.qA ((fit z b l).map tD))]else .err 2 [sv (.obj (fD n l)),sv (.int z),sv (.bl b),Qc]:=by
  rw[<-g];unfold yM;cases hc:(decide (0<=z)&&decide (z<n))with
  |false=>
   rw[Bool.false_and,if_neg Qq,if_neg Qq];refine Ec ?_;rw[kA,t1,hc];rfl
  |true=>
   rw[VZ,if_pos rfl,qi (ρ':=[sv (.obj (fD n l)),sv (.int z),sv (.bl b),Qc]) (by rw[kA,t1,hc,qT,YF,if_neg Qq,zZ]),qi (jL v)];show qL (Gm (k+1)) qB [.ifs (.not (.e zQ)) [.raise 2] []] [sv (.obj (fD n l)),sv (.int z),sv (.bl b),sv (.qA ((fit z b l).map tD))]=_;cases hf:(fit z b l).isEmpty with
   |true=>
    rw[YF,if_neg Qq];exact Ec (by rw[kA,q,hf];rfl)
   |false=>
    rw[J5,if_pos rfl];exact(qi (by rw[kA,q,hf,qT,if_neg Qq,zZ])).trans (zZ _)
 unfold Ev.yS;have B:qL (Gm (k+1)) qB FK.1 (zV [D.obj (fD n l),.int z,.bl b]++Qj (4 -[D.obj (fD n l),.int z,.bl b].length) Qc)=r0:=g;rw[B,w];cases C:yM n z b l with
 |true=>
  rw[if_pos rfl,if_pos rfl];show((ev (Gm (k+1)) qB zQ [sv (.obj (fD n l)),sv (.int z),sv (.bl b),sv (.qA ((fit z b l).map tD))]).bind λd=>(chg 0 d _).bind _)=_;rw[qQ,show zH [sv (.obj (fD n l)),sv (.int z),sv (.bl b),sv (.qA ((fit z b l).map tD))] 3=.ok (.qA ((fit z b l).map tD)) from rfl,qF];have hc:chg 0 (.qA ((fit z b l).map tD)) [sv (.obj (fD n l)),sv (.int z),sv (.bl b),sv (.qA ((fit z b l).map tD))]=.ok [Qa (.obj Qb (fD n (fit z b l))),sv (.int z),sv (.bl b),sv (.qA ((fit z b l).map tD))]:=by show(if(pl (.qA ((fit z b l).map tD))&&zj (fD n l)&&(Qb&&(Qb&&(pl (.qA ((fit z b l).map tD))&&Qb))))=Qb then _ else _)=_;rw[uk,q6s];rfl
  rw[hc,qF];rfl
 |false=>
  rw[if_neg Qq,if_neg Qq];cases(decide (0<=z)&&decide (z<n))<;>rfl
def q2N(g:Good n ws)(k:Nat):Gm (k+7) 15 [.obj [],rD n ws]=.ok (.qE [.qI,.obj (fD n (qh n ws))]):=by
 refine(Ay (k+6) 15 _ 2 2 PD Cr rfl rfl).trans ?_;unfold Ev.yS;show((ev (Gm (k+6)) qB (.call 12 [qR]) [sv (.obj []),sv (rD n ws)]).bind λd=>(chg 0 d [sv (.obj []),sv (rD n ws)]).bind _)=_;rw[xF (x:=rD n ws) (by rw[qQ];rfl) (q2u g k),qF];have hc:chg 0 (.qA ((qh n ws).map tD)) [sv (.obj []),sv (rD n ws)]=.ok [Qa (.obj Qb [.qA ((qh n ws).map tD)]),sv (rD n ws)]:=by show(if(pl (.qA ((qh n ws).map tD))&&Qb&&(pl (rD n ws)&&Qb))=Qb then _ else _)=_;rw[uk,q6u];rfl
 have b:ev (Gm (k+6)) qB (.idx qR (kZ 0)) [Qa (.obj Qb [.qA ((qh n ws).map tD)]),sv (rD n ws)]=.ok (nI n):=by rw[wZ,qQ,qt];rfl
 have e:qL (Gm (k+6)) qB PD [Qa (.obj Qb [.qA ((qh n ws).map tD)]),sv (rD n ws)]=.ok [Qa (.obj Qb (fD n (qh n ws))),sv (rD n ws)] .nx:=by rw[PD];exact(qi (by rw[fm,b,qT];rfl)).trans (zZ _)
 rw[hc,qF,e];rfl
def q2H{r:D}(hb:∀k,Gm (k+4) 10 [r]=.err 1)(k:Nat):Gm (k+7) 15 [.obj [],r]=.err 1:=by refine(Ay (k+6) 15 _ 2 2 PD Cr rfl rfl).trans ?_;unfold Ev.yS;show((ev (Gm (k+6)) qB (.call 12 [qR]) [sv (.obj []),sv r]).bind λd=>(chg 0 d _).bind _)=_;rw[xF (x:=r) (by rw[qQ];rfl) ((jQ (k+5) 12 [r] 1 1 Tb rfl rfl).trans (q1M ((jQ (k+4) 14 [r] 1 1 Ta rfl rfl).trans (q1N (hb k)))))];rfl
noncomputable def Tu:D:=.str (YX "ok")
def q7t(G:Nat->List D->R D):Ev.run G qB 2 XN [.qI]=.ok Tu:=by kernel_rfl
def q2b(k:Nat):Gm (k+1) 33 [.qI]=.ok Tu:=(jQ k 33 [.qI] 1 2 XN rfl rfl).trans (q7t _)
def q2V{r:D}(hb:∀k,Gm (k+4) 10 [r]=.err 1)(k:Nat):Gm (k+8) 34 [r]=.ok AK:=by
 refine(jQ (k+7) 34 _ 1 3 GJ rfl rfl).trans ?_;have b:ex (Gm (k+7)) qB (.tryE [.newX 15 [qG]] 0 2 1) [sv r,sv .qI,Qc]=.ok [sv r,sv (.exc 1),Qc] .nx:=by
  have:qL (Gm (k+7)) qB [.newX 15 [qG]] [sv r,sv .qI,Qc]=.err 1 [sv r,sv .qI,Qc]:=Ec (by rw[fe,kJ (by rw[qQ];rfl),qT,q2H hb k,gV])
  rw[LQ,this];rfl
 refine jj (Z:=[sv r,Qc,Qc]) (ρ':=[sv r,sv (.exc 1),Qc]) rfl ?_;rw[GJ,qi (ρ':=[sv r,sv .qI,Qc]) (jL (qt ..)),qi b];exact jW (by rw[vi,xF (by rw[qQ];rfl) (q2c (k+6)),qT])
def q2G(k:Nat)(z:Int)(b:Bool)(hl:l.length<=1000):Gm (k+3) 35 [.obj (fD n l),.int z,.bl b]=.ok (if yM n z b l then .qE [Tu,.obj (fD n (fit z b l))]else .qE [Pc,.obj (fD n l)]):=by
 refine(sy (k+2) 35 _ 3 5 PE rfl rfl).trans ?_;have h:∀g,qL (Gm (k+2)) qB (.set 3 (.qo .qI)::g) [Qa (.obj Qb (fD n l)),sv (.int z),sv (.bl b),Qc,Qc]=qL (Gm (k+2)) qB g [Qa (.obj Qb (fD n l)),sv (.int z),sv (.bl b),sv .qI,Qc]:=λg=>qi (jL (qt ..));have a:qu (Gm (k+2)) qB [qR,qf] [Qa (.obj Qb (fD n l)),sv (.int z),sv (.bl b),sv .qI,Qc]=.ok [.int z,.bl b]:=kK (by rw[qQ];rfl) (by rw[qQ];rfl);unfold Ev.Ts;show(match qL (Gm (k+2)) qB PE [Qa (.obj Qb (fD n l)),sv (.int z),sv (.bl b),Qc,Qc]with
  |.ok Z .nx=>ui .qI Z
  |.ok Z (.ret d)=>if pl d then ui d Z else .qC
  |_=>.qC)=_
 cases p:yM n z b l with
 |true=>
  have e:ex (Gm (k+2)) qB (.tryE [.expM 0 20 [qR,qf]] 0 4 3) [Qa (.obj Qb (fD n l)),sv (.int z),sv (.bl b),sv .qI,Qc]=.ok [Qa (.obj Qb (fD n (fit z b l))),sv (.int z),sv (.bl b),sv .qI,Qc] .nx:=by
   have:qL (Gm (k+2)) qB [.expM 0 20 [qR,qf]] [Qa (.obj Qb (fD n l)),sv (.int z),sv (.bl b),sv .qI,Qc]=.ok [Qa (.obj Qb (fD n (fit z b l))),sv (.int z),sv (.bl b),sv .qI,Qc] .nx:=(qi (by rw[LN];show((qu (Gm (k+2)) qB [qR,qf] _).go _ λds=>(Gm (k+2) 20 (.obj (fD n l)::ds)).go _ _)=_;rw[a,qT,gQ k z b hl,p,if_pos rfl,qT];rfl)).trans (zZ _)
   rw[LQ,this]
  rw[PE,h,qi e,jW (by rw[vi,xF (by rw[qQ];rfl) (q2b (k+1)),qT])];rfl
 |false=>
  have e:ex (Gm (k+2)) qB (.tryE [.expM 0 20 [qR,qf]] 0 4 3) [Qa (.obj Qb (fD n l)),sv (.int z),sv (.bl b),sv .qI,Qc]=.ok [Qa (.obj Qb (fD n l)),sv (.int z),sv (.bl b),sv (.exc 2),Qc] .nx:=by
   have:qL (Gm (k+2)) qB [.expM 0 20 [qR,qf]] [Qa (.obj Qb (fD n l)),sv (.int z),sv (.bl b),sv .qI,Qc]=.err 2 [Qa (.obj Qb (fD n l)),sv (.int z),sv (.bl b),sv .qI,Qc]:=Ec (by rw[LN];show((qu (Gm (k+2)) qB [qR,qf] _).go _ λds=>(Gm (k+2) 20 (.obj (fD n l)::ds)).go _ _)=_;rw[a,qT,gQ k z b hl,p,if_neg Qq,gV])
   rw[LQ,this];rfl
  rw[PE,h,qi e,jW (by rw[vi,xF (by rw[qQ];rfl) (q2d (k+1)),qT])];rfl
end
section
variable{ws:List Wn}
def bD:Option (Nat×Nat)->D
 |none=>.qI
 |some q=>.qE [nI q.1,nI q.2]
def jz(l:List Nat)(n:Nat)(q:Option (Nat×Nat))(t x y:Option Sl):Ev.Env:=[sv (.qA (l.map tD)),sv (nI n),sv (bD q),t,x,y]
def q4a(hl:l.length<=1000)(k:Nat)(x y:Option Sl):∃F H,qL G qB lq (jz l n (best (λt=>gap t l) k) (sv (nI k)) x y)=.ok (jz l n (best (λt=>gap t l) (k+1)) (sv (nI k)) F H) .nx:=by
 generalize hb:best (λt=>gap t l) k=q;have C:ex G qB mU (jz l n q (sv (nI k)) x y)=.ok (jz l n q (sv (nI k)) (sv (nI (qU k l).length)) y) .nx:=by
  have a:j7 (ev G qB qG) (jO G qB [(.e (.cm .mem jl qG))]) 0 (jz l n q (sv (nI k)) x y) (l.map tD)=.ok ((qU k l).map tD):=
   wz (p:=λm=>m.testBit k) (us:=λm=>[tD m]) λm _=>#[rfl,by simp[jz,nP];cases m.testBit k<;>rfl,λ_=>by simp]
  have b:(qU k l).length<=big:=Qw (QX _ _) (by rw[jZ];lia);refine(jL (jf (x:=.qA ((qU k l).map tD)) ?_ (wO _))).trans ?_
  .rw[vO,T6,qQ,show zH (jz l n q (sv (nI k)) x y) 0=.ok (.qA (l.map tD)) from rfl,qF,G9,qF,a,ka,qF,Qm,if_pos b]
  .rw[Qm];rfl
 have w:ex G qB mV (jz l n q (sv (nI k)) (sv (nI (qU k l).length)) y)=.ok (jz l n q (sv (nI k)) (sv (nI (qU k l).length)) (sv (nI (gap k l)))) .nx:=by
  refine(jL (jf (vg (by rw[qQ];rfl) (vg (jf (by rw[qQ];rfl) (wO _)) (by rw[qQ];rfl) (Ac _ _)) (Ac _ _)) (bu _))).trans ?_;have:((((qU k l).length:Nat):Int)-((((l.map tD).length:Nat):Int)-(((qU k l).length:Nat):Int))).natAbs=gap k l:=by rw[Qm];unfold gap;have:=DZ k l;congr 1;lia
  rw[this];rfl
 generalize g:jz l n q (sv (nI k)) (sv (nI (qU k l).length)) (sv (nI (gap k l)))=Z at w;have v:ev G qB qf Z=.ok (bD q):=by rw[<-g,qQ];rfl
 have B:ev G qB zi Z=.ok (nI (gap k l)):=by rw[<-g,qQ];rfl
 have z:qL G qB [.set 2 (.qE [zi,zQ])] Z=.ok (jz l n (Qa (gap k l,k)) (sv (nI k)) (sv (nI (qU k l).length)) (sv (nI (gap k l)))) .nx:=by refine(qi (jL (uU (kK B (by rw[<-g,qQ];rfl)) (by simp)))).trans ((zZ _).trans ?_);rw[<-g];rfl
 have E:ex G qB Ow Z=.ok (jz l n (best (λt=>gap t l) (k+1)) (sv (nI k)) (sv (nI (qU k l).length)) (sv (nI (gap k l)))) .nx:=by
  rw[Ow,kA,Ag];cases q with
  |none=>
   rw[jt (b:=Qb) (zy v (qt .qI _) rfl),qF,if_pos rfl,qT,if_pos rfl,z,best,hb]
  |some q=>
   obtain⟨A,u⟩:=q;rw[jt (b:=Qf) (zy v (qt .qI _) rfl),qF,if_neg Qq,jt (zy B (y:=nI A) (by rw[wZ,v,qt];rfl) (mf _ _)),qT,best,hb];dsimp only
   by_cases h:gap k l<A
   .rw[decide_eq_true h,if_pos rfl,z,if_pos h]
   .rw[decide_eq_false h,if_neg Qq,zZ,if_neg h,<-g]
 exact#[_,_,by rw[lq,qi C,qi w,qi E,zZ]]
theorem mW(hl:l.length<=1000):∀(m k:Nat)(t x y:Option Sl),∃t' b g,jS (qL G qB lq) 0 [3] (nL (List.range' k m)) (jz l n (best (λt=>gap t l) k) t x y)=.ok (jz l n (best (λt=>gap t l) (k+m)) t' b g) .nx
 |0,k,t,x,y=>#[t,x,y,rfl]
 |m+1,k,t,x,y=>by obtain⟨p,y1,e⟩:=q4a hl k x y;obtain⟨t',b,g,h⟩:=mW hl m (k+1) (sv (nI k)) p y1;refine#[t',b,g,?_];rw[List.range'_succ,vz,vm];show(qL G qB lq (jz l n (best (λt=>gap t l) k) (sv (nI k)) x y)).turn _=_;rw[e,xb,h];congr 3;lia
def q2S(k:Nat)(hl:l.length<=1000)(z:n<=1000)(B:0<l.length)(w:l.length≠1->0<n):Gm (k+1) 36 [.qA (l.map tD),nI n]=.ok (qD n l):=by
 refine(jQ k 36 _ 2 6 GL rfl rfl).trans ?_;obtain⟨t',b,h,e⟩:=mW hl n 0 Qc Qc Qc;rw[Vr]at e;have u:ex (Gm k) qB (.zS 0 [3] (.rng [qR]) lq) (jz l n Qc Qc Qc Qc)=.ok (jz l n (best (λt=>gap t l) n) t' b h) .nx:=by rw[xG,vh,kJ (by rw[qQ];rfl),qF,xT n (Jr z (by decide)),qT,List.range_eq_range'];exact e
 have t1:z9 (Gm k) qB (.e (.cm .gt (.bi .len [qG]) (kZ 1))) (jz l n (best (λt=>gap t l) n) t' b h)=.ok (decide (1<l.length)):=by refine jt (zy (jf (by rw[qQ];rfl) (wO _)) (qt ..) ?_);rw[Qm];exact Ek _ 1
 have v:ev (Gm k) qB (.ite (.e (.cm .gt (.bi .len [qG]) (kZ 1))) (.idx qf (kZ 1)) (.qo .qI)) (jz l n (best (λt=>gap t l) n) t' b h)=.ok (qD n l):=by
  rw[RV,t1,qF]
  by_cases p:l.length=1
  .rw[p,decide_eq_false ∅,if_neg Qq,qD,if_pos p,qt]
  .obtain⟨g,q,A⟩:=af (w p);rw[decide_eq_true ∅,if_pos rfl,qD,if_neg p,wZ,qQ,show zH (jz l n (best (λt=>gap t l) n) t' b h) 2=.ok (bD (best (λt=>gap t l) n)) from rfl,qF,q,qt];rfl
 refine jj (Z:=[sv (.qA (l.map tD)),sv (nI n),Qc,Qc,Qc,Qc]) (ρ':=jz l n (best (λt=>gap t l) n) t' b h) rfl ?_;rw[show GL=[.set 2 (.qo .qI),.zS 0 [3] (.rng [qR]) lq,.ret (.ite (.e (.cm .gt (.bi .len [qG]) (kZ 1))) (.idx qf (kZ 1)) (.qo .qI))] from rfl,qi (ρ':=jz l n Qc Qc Qc Qc) (jL (qt ..)),qi u];exact jW (by rw[vi,v,qT])
def q2U(k x:Nat):Gm (k+1) 27 [nI x]=.ok (.bl Qb):=(jQ k 27 _ 1 1 Oh rfl rfl).trans (jj (Z:=[sv (nI x)]) (ρ':=[sv (nI x)]) rfl (jW rfl))
end
section
variable{ws:List Wn}{h:Nat}
noncomputable def cJ:D:=.qE [.int 1,.qA [.qE [.int 0,.qE [.int 0]]]]
structure LH(G:Nat->List D->R D)(s:D)(n:Nat)(ws:List Wn):Prop where
 g:Good n ws
 n4:n<=4
 rules:G 29 [s,nI 0,nI 4]=.ok (rD n ws)
 mix:∀i:Nat,∃N:Nat,G 26 [s,nI i]=.ok (nI N)
 Aa:G 32 [rD n ws]=.ok (.qA ((qh n ws).map tD))
 fq:G 21 [rD n ws]=.ok (nI (Ph n (qh n ws)))
 whole:∀x:Nat,G 27 [nI x]=.ok (.bl Qb)
 q4W:G 37 [.qE ((qh n ws).map tD),nI n,.mem n ((qh n ws).map tD)]=.ok (nI (Ph n (qh n ws)))
 init:G 15 [.obj [],rD n ws]=.ok (.qE [.qI,.obj (fD n (qh n ws))])
 left:∀l:List Nat,G 16 [.obj (fD n l)]=.ok (.qA (l.map tD))
 quest:∀l:List Nat,l.length<=1000->(l.length≠1->0<n)->G 17 [.obj (fD n l)]=.ok (qD n l)
 lq:∀l:List Nat,l.length<=1000->0<l.length->(l.length≠1->0<n)->G 36 [.qA (l.map tD),nI n]=.ok (qD n l)
 bw:∀(l:List Nat)(z:Int)(b:Bool),l.length<=1000->G 35 [.obj (fD n l),.int z,.bl b]=.ok (if yM n z b l then .qE [Tu,.obj (fD n (fit z b l))]else .qE [Pc,.obj (fD n l)])
 made:G 34 [cJ]=.ok AK
structure Su(n:Nat)(ws:List Wn)(l:List Nat):Prop where
 sub:l.Sublist (qh n ws)
 pos:0<l.length
def Su.len(H:LH G s n ws)(u:Su n ws l):l.length<=16:=Qw u.sub.length_le (ED H.g H.n4)
def Su.sep(H:LH G s n ws)(u:Su n ws l):Sep n l:=#[u.sub.nodup (X5 H.g).nd,λm b=>(X5 H.g).lt m (u.sub.subset b)]
def Su.n0(H:LH G s n ws)(u:Su n ws l)(b:l.length≠1):0<n:=by obtain⟨t,e,_⟩:=AM (u.sep H) (by have:=u.pos;lia);lia
noncomputable def LE(s:D)(n:Nat)(ws:List Wn)(l m:List Nat)(h:Nat)(k x y z u v:Option Sl):Ev.Env:=
 [sv s,sv (rD n ws),sv (nI n),sv (.qA ((qh n ws).map tD)),sv (nI (Ph n (qh n ws))),Qa (.obj Qf (fD n l)),Qa (.obj Qf (fD n (qh n ws))),sv (tD h),sv (.qA (m.map tD)),k,x,y,z,u,v]
def q5D(l:List Nat):qj .ne (.qA (l.map tD)) (.qA (l.map tD))=.ok (.bl Qf):=Dw (uk l) (q1U l)
def q1t(l:List Nat):qj .ne (.qA (l.map tD)) (.qA [])=.ok (.bl (!l.isEmpty)):=by
 show(if pl (.qA (l.map tD))&&pl (.qA [])then R.ok (D.bl (!qM (.qA (l.map tD)) (.qA [])))else .qC)=_;rw[uk,show pl (.qA [])=Qb from rfl,Zs,if_pos rfl];cases l with
 |nil=>rfl
 |cons a l=>simp[qM,zf]
def LO{fs b:List D}{t:D}(e:Ah G qB cs Z=.ok Qf)(g:Z[i]?=Qa (Qa (.obj b0 fs)))(k:qu G qB xs Z=.ok ds)(p:G f (.obj fs::ds)=.ok (.qE [t,.obj b]))(q:ev G qB a (Z.set i (Qa (.obj b0 b)))=.ok y)(u:qj .ne t y=.ok (.bl Qf)):
  ex G qB (.ifA cs i f xs a body) Z=.ok (Z.set i (Qa (.obj b0 b))) .nx:=by
 rw[EW,e,qT,if_neg Qq,g];dsimp only;rw[k,qT,p,qT];show((ev G qB a (Z.set i (Qa (.obj b0 b)))).go _ λy=>(qj .ne t y).go _ λz=>(tr z).go _ _)=_;rw[q,qT,u,qT,Pn,qT,if_neg Qq]
def Ol{m:List Nat}(H:LH G s n ws)(b:Z[i]?=Qa (Qa (.obj b0 (fD n m))))(g:ev G qB (.qS j) Z=.ok (.qA (m.map tD))):z9 G qB (.e (.cm .ne (.callM 16 (.bor i) []) (.qS j))) Z=.ok Qf:=
 jt (zy (X7 (by rw[T3,q2l,b]) (jg _) (H.left m) (uk m)) g (q5D m))
def dZ{z:Int}{b:Bool}{T:Ev.T}(hi:ev G qB (.qS i) Z=.ok (.qA (l.map tD)))(hl:l.length<=1000)(k:∀m∈l,z9 G qB T (sv (tD m)::Z)=.ok (kM z m==b)):ev G qB (.comp 0 qG (.e (.qS i)) [T]) Z=.ok (.qA ((fit z b l).map tD)):=by
 have a:j7 (ev G qB qG) (jO G qB [T]) 0 Z (l.map tD)=.ok ((fit z b l).map tD):=
  wz (p:=λm=>kM z m==b) (us:=λm=>[tD m]) λm g=>#[rfl,by show jO G qB [T] (sv (tD m)::Z)=_;rw[CZ,k m g];cases(kM z m==b)<;>rfl,λ_=>by simp]
 have c:(fit z b l).length<=big:=Qw (QX _ _) (by rw[jZ];lia);rw[vO,T6,hi,qF,G9,qF,a,ka,qF,Qm,if_pos c]
def fY(h:ev G qB (.qS 14) Z=.ok (.bl gd)):ev G qB (.idx (.qA [(.qo (.str "state")),(.qo (.str "ok"))]) (.bi .toInt [(.qS 14)])) Z=.ok (if gd then Tu else Pc):=by rw[wZ,T5 (kK (qt (.str "state") _) (qt (.str "ok") _)) (by simp),jf h (r:=.ok (.int (b2i gd))) rfl];cases gd<;>rfl
def q4I(H:LH G s n ws)(u:Su n ws l)(k:Nat)(a b c d e:Option Sl):∃p I J K d' P,Su n ws p/\qL G qB la (LE s n ws l l h (sv (nI k)) a b c d e)=.ok (LE s n ws p p h (sv (nI k)) I J K d' P) .nx:=by
 obtain⟨N,X⟩:=H.mix (102+k);have hl:l.length<=1000:=by have:=u.len H;lia
 have Q:ex G qB lT (LE s n ws l l h (sv (nI k)) a b c d e)=.ok (LE s n ws l l h (sv (nI k)) (sv (nI N)) b c d e) .nx:=
  jL (xv (x:=s) (y:=nI (102+k)) (by rw[qQ];rfl) (vg (x:=nI 102) (y:=nI k) (by rw[qt];rfl) (by rw[qQ];rfl) (add_n _ _)) X)
 have w:∃z:Int,ex G qB lU (LE s n ws l l h (sv (nI k)) (sv (nI N)) b c d e)=.ok (LE s n ws l l h (sv (nI k)) (sv (nI N)) (sv (.int z)) c d e) .nx:=
  #[_,jL (vg (x:=nI (N/8 %(n+2))) (y:=nI 1) (vg (x:=nI (N/8)) (y:=nI (n+2)) (vg (x:=nI N) (y:=nI 8) (by rw[qQ];rfl) (by rw[qt];rfl) (Ed _ _ (by decide) (by decide))) (vg (x:=nI n) (y:=nI 2) (by rw[qQ];rfl) (by rw[qt];rfl) (add_n _ _)) (ue _ _ ∅)) (by rw[qt];rfl) (Ac _ _))]
 obtain⟨z,w⟩:=w;have A:∃g:Bool,ex G qB lV (LE s n ws l l h (sv (nI k)) (sv (nI N)) (sv (.int z)) c d e)=.ok (LE s n ws l l h (sv (nI k)) (sv (nI N)) (sv (.int z)) (sv (.bl g)) d e) .nx:=by
  have hv:∃g:Bool,ev G qB (.ite (.e (.cm .gt (.op .mod (.qS 10) (kZ 4)) (kZ 0))) (.cm .mem (.qS 11) Al) (.cm .eq (.op .mod (.op .fdiv (.qS 10) (kZ 64)) (kZ 2)) (kZ 0))) (LE s n ws l l h (sv (nI k)) (sv (nI N)) (sv (.int z)) c d e)=.ok (.bl g):=by
   rw[RV,jt (zy (vg (by rw[qQ];rfl) (by rw[qt];rfl) (ue _ _ (by decide))) (by rw[qt];rfl) (Ek _ _)),qF];split
   .exact#[_,zy (by rw[qQ];rfl) (by rw[qQ];rfl) (PT z h)]
   .exact#[_,zy (vg (vg (by rw[qQ];rfl) (by rw[qt];rfl) (Ed _ _ (by decide) (by decide))) (by rw[qt];rfl) (ue _ _ (by decide))) (by rw[qt];rfl) (Fi _ _)]
  obtain⟨g,hv⟩:=hv;exact#[g,jL hv]
 obtain⟨g,A⟩:=A;have T:ex G qB lW (LE s n ws l l h (sv (nI k)) (sv (nI N)) (sv (.int z)) (sv (.bl g)) d e)=.ok (LE s n ws l l h (sv (nI k)) (sv (nI N)) (sv (.int z)) (sv (.bl g)) (sv (.qA ((fit z g l).map tD))) e) .nx:=
  jL (dZ (by rw[qQ];rfl) hl λm _=>jt (zy (zy (x:=.int z) (y:=tD m) (by rw[qQ];rfl) (by rw[qQ];rfl) (PT z m)) (y:=.bl g) (by rw[qQ];rfl) (LC _ _)))
 have B:ex G qB lX (LE s n ws l l h (sv (nI k)) (sv (nI N)) (sv (.int z)) (sv (.bl g)) (sv (.qA ((fit z g l).map tD))) e)=.ok (LE s n ws l l h (sv (nI k)) (sv (nI N)) (sv (.int z)) (sv (.bl g)) (sv (.qA ((fit z g l).map tD))) (sv (.bl (yM n z g l)))) .nx:=by
  refine jL ?_;have O:ev G qB (.cm2 .le .lt (kZ 0) (.qS 11) qf) (LE s n ws l l h (sv (nI k)) (sv (nI N)) (sv (.int z)) (sv (.bl g)) (sv (.qA ((fit z g l).map tD))) e)=.ok (.bl (decide (0<=z)&&decide (z<n))):=by
   rw[Ev.zy,qt,qF,qQ,show zH (LE s n ws l l h (sv (nI k)) (sv (nI N)) (sv (.int z)) (sv (.bl g)) (sv (.qA ((fit z g l).map tD))) e) 11=.ok (.int z) from rfl,qF,q4Q,qF,Pn,qF];cases decide (0<=z)with
   |true=>
    rw[if_pos rfl,qQ,show zH (LE s n ws l l h (sv (nI k)) (sv (nI N)) (sv (.int z)) (sv (.bl g)) (sv (.qA ((fit z g l).map tD))) e) 2=.ok (.int n) from rfl,qF,me,VZ]
   |false=>rfl
  rw[fT,O,qF];unfold yM;cases decide (0<=z)&&decide (z<n)with
  |true=>
   exact(zy (by rw[qQ];rfl) (T5 (jg _) (by simp)) (q1t _)).trans (by rw[VZ])
  |false=>rfl
 generalize q:yM n z g l=gd at B;have v:=H.bw l z g hl;rw[q]at v;have C:ex G qB lY (LE s n ws l l h (sv (nI k)) (sv (nI N)) (sv (.int z)) (sv (.bl g)) (sv (.qA ((fit z g l).map tD))) (sv (.bl gd)))=.ok (LE s n ws (if gd then fit z g l else l) l h (sv (nI k)) (sv (nI N)) (sv (.int z)) (sv (.bl g)) (sv (.qA ((fit z g l).map tD))) (sv (.bl gd))) .nx:=by
  cases gd with
  |true=>
   exact LO (ds:=[.int z,.bl g]) (t:=Tu) (y:=Tu) rfl rfl (kK (by rw[qQ];rfl) (by rw[qQ];rfl)) v (fY (gd:=Qb) (by rw[qQ];rfl)) (Dw rfl (ER _))
  |false=>
   exact LO (ds:=[.int z,.bl g]) (t:=Pc) (y:=Pc) rfl rfl (kK (by rw[qQ];rfl) (by rw[qQ];rfl)) v (fY (gd:=Qf) (by rw[qQ];rfl)) (Dw rfl (ER _))
 generalize F:(if gd then fit z g l else l)=p at C;have U:ex G qB lZ (LE s n ws p l h (sv (nI k)) (sv (nI N)) (sv (.int z)) (sv (.bl g)) (sv (.qA ((fit z g l).map tD))) (sv (.bl gd)))=.ok (LE s n ws p p h (sv (nI k)) (sv (nI N)) (sv (.int z)) (sv (.bl g)) (sv (.qA ((fit z g l).map tD))) (sv (.bl gd))) .nx:=by
  refine jL ?_;rw[RV,jt (by rw[qQ];rfl),qF,<-F];cases gd with
  |true=>rw[if_pos rfl,if_pos rfl,qQ];rfl
  |false=>rw[if_neg Qq,if_neg Qq,qQ];rfl
 have V:ex G qB lg (LE s n ws p p h (sv (nI k)) (sv (nI N)) (sv (.int z)) (sv (.bl g)) (sv (.qA ((fit z g l).map tD))) (sv (.bl gd)))=.ok (LE s n ws p p h (sv (nI k)) (sv (nI N)) (sv (.int z)) (sv (.bl g)) (sv (.qA ((fit z g l).map tD))) (sv (.bl gd))) .nx:=
  G6 (Ol H rfl (by rw[qQ];rfl))
 have E:Su n ws p:=by
  rw[<-F];cases gd with
  |false=>exact u
  |true=>
   refine#[JU.trans u.sub,len_pos ?_];unfold yM at q;rw[Qo,Ud]at q;exact q.2
 have W:ex G qB Oi (LE s n ws p p h (sv (nI k)) (sv (nI N)) (sv (.int z)) (sv (.bl g)) (sv (.qA ((fit z g l).map tD))) (sv (.bl gd)))=.ok (LE s n ws p p h (sv (nI k)) (sv (nI N)) (sv (.int z)) (sv (.bl g)) (sv (.qA ((fit z g l).map tD))) (sv (.bl gd))) .nx:=by rw[Oi,fZ];show((G 16 [.obj (fD n p)]).go _ _)=_;rw[H.left p,qT];dsimp only;rw[uU (xs:=[]) (ds:=[]) (jg _) (by simp),qT,Qm,if_pos (by have:=E.len H;rw[jZ];lia)]
 exact#[p,_,_,_,_,_,E,by rw[la,qi Q,qi w,qi A,qi T,qi B,qi C,qi U,qi V,qi W,zZ]]
theorem lh(H:LH G s n ws):∀(ks l:List Nat)(k a b c d e:Option Sl),Su n ws l->∃g z p q v d' w,Su n ws g/\jS (qL G qB la) 0 [9] (nL ks) (LE s n ws l l h k a b c d e)=.ok (LE s n ws g g h z p q v d' w) .nx
 |[],l,k,a,b,c,d,e,u=>#[l,k,a,b,c,d,e,u,rfl]
 |x::ks,l,k,a,b,c,d,e,u=>by obtain⟨K,A,B,C,E,F,P,I⟩:=q4I H u x a b c d e;obtain⟨g,z,p,q,v,d',w,O,J⟩:=lh H ks K (sv (nI x)) A B C E F P;refine#[g,z,p,q,v,d',w,O,?_];rw[vz,vm];show(qL G qB la (LE s n ws l l h (sv (nI x)) a b c d e)).turn _=_;rw[I,xb,J]
def q73(sp:Sep n l)(p:2<=l.length):qn n l<n/\zY (qn n l) l=Qb:=by
 obtain⟨t,u,hs⟩:=AM sp p;refine xr (af (l:=l) (n:=n) ∅) λg _ e _ k _=>?_;refine#[e,?_];have q:=k t u;have a:=yw hs;have b:=DZ t l;have c:=DZ (qn n l) l;refine uv.mpr #[?_,?_]
 .cases z:(qU (qn n l) l).isEmpty with
  |false=>rfl
  |true=>
   rw[Jo]at z;unfold gap at q;lia
 .cases z:(qZ (qn n l) l).isEmpty with
  |false=>rfl
  |true=>
   rw[Jo]at z;unfold gap at q;lia
def q1s(hs:zY t l=Qb)(b:Bool):(fit (t:Int) b l).length<l.length:=by
 cases b with
 |true=>rw[gE];exact(yw hs).1
 |false=>rw[gC];exact(yw hs).2.1
def q4P(H:LH G s n ws)(u:Su n ws l)(p:2<=l.length)(k a b c d e:Option Sl):∃g C,Su n ws g/\g.length<l.length/\qL G qB lc (LE s n ws l l h k a b c d e)=.ok (LE s n ws g g h k a C c d e) .nx:=by
 have hl:l.length<=1000:=by have:=u.len H;lia
 obtain⟨P,B⟩:=q73 (u.sep H) p;generalize O:qn n l=q at P B;have A:qD n l=nI q:=by unfold qD;rw[if_neg ∅,O]
 obtain⟨m,v⟩:∃m,l.getLast?=Qa m:=by
  cases e:l.getLast? with
  |none=>rw[List.getLast?_eq_none_iff]at e;rw[e]at p;simp at p
  |some m=>exact#[m,rfl]
 have z:(l.map tD).getLast?=Qa (tD m):=by rw[List.getLast?_map,v];rfl
 have E:ex G qB m4 (LE s n ws l l h k a b c d e)=.ok (LE s n ws l l h k a (sv (nI q)) c d e) .nx:=
  jL (X7 (by rw[T3];rfl) (jg _) ((H.quest l hl (u.n0 H)).trans (by rw[A])) (AE q))
 have K:yM n (q:Int) (kM q m) l=Qb:=by unfold yM;have:(fit (q:Int) (kM q m) l).isEmpty=Qf:=Td (QJ.mpr #[Z7 v,by simp]);rw[this,decide_eq_true ∅,decide_eq_true ∅];rfl
 have w:=H.bw l q (kM q m) hl;rw[K,if_pos rfl]at w;have F:ex G qB m5 (LE s n ws l l h k a (sv (nI q)) c d e)=.ok (LE s n ws (fit q (kM q m) l) l h k a (sv (nI q)) c d e) .nx:=by refine LO ?_ rfl (kK (by rw[qQ];rfl) (zy (by rw[qQ];rfl) (fW (by rw[qQ];rfl) z) (PT q m))) w (by rw[qt];rfl) (Dw rfl (ER _));refine jt (zy (x:=nI q) (y:=nI q) (by rw[qQ];rfl) (xv (x:=.qA (l.map tD)) (y:=nI n) (by rw[qQ];rfl) (by rw[qQ];rfl) ((H.lq l hl u.pos (u.n0 H)).trans (by rw[A]))) ?_);rw[Sq,decide_eq_true rfl];rfl
 have I:ex G qB m6 (LE s n ws (fit q (kM q m) l) l h k a (sv (nI q)) c d e)=.ok (LE s n ws (fit q (kM q m) l) (fit q (kM q m) l) h k a (sv (nI q)) c d e) .nx:=
  jL (dZ (by rw[qQ];rfl) hl λx _=>jt (zy (zy (x:=nI q) (y:=tD x) (by rw[qQ];rfl) (by rw[qQ];rfl) (PT q x)) (zy (x:=nI q) (y:=tD m) (by rw[qQ];rfl) (fW (by rw[qQ];rfl) z) (PT q m)) (LC _ _)))
 have J:ex G qB m7 (LE s n ws (fit q (kM q m) l) (fit q (kM q m) l) h k a (sv (nI q)) c d e)=.ok (LE s n ws (fit q (kM q m) l) (fit q (kM q m) l) h k a (sv (nI q)) c d e) .nx:=
  G6 (Ol H rfl (by rw[qQ];rfl))
 refine#[fit q (kM q m) l,_,#[JU.trans u.sub,JY (QJ.mpr #[Z7 v,by simp])],q1s B _,by rw[lc,qi E,qi F,qi I,qi J,zZ]]
def q4O(H:LH G s n ws)(k a c d e:Option Sl):∀(f:Nat)(l:List Nat)(b:Option Sl),l.length<=f->Su n ws l->∃g p,Su n ws g/\g.length=1/\x6 (z9 G qB (.e (.cm .gt (.bi .len [(.qS 8)]) (kZ 1)))) (qL G qB lc) (f+1) (LE s n ws l l h k a b c d e)=.ok (LE s n ws g g h k a p c d e) .nx:=by
 intro f
 induction f with
 |zero=>intro l b hf u;have:=u.pos;lia
 |succ f B=>
  intro l b hf u;have t1:z9 G qB (.e (.cm .gt (.bi .len [(.qS 8)]) (kZ 1))) (LE s n ws l l h k a b c d e)=.ok (decide (1<l.length)):=by refine jt (zy (jf (by rw[qQ];rfl) (wO _)) (qt ..) ?_);rw[Qm];exact Ek _ 1
  rw[sZ,t1,qT]
  by_cases q:1<l.length
  .obtain⟨C,v,F,I,w⟩:=q4P H u q k a b c d e;refine qN (B C v ∅ F) λg p E A z=>?_;exact#[g,p,E,A,by rw[decide_eq_true q,if_pos rfl,w,xb,z]]
  .exact#[l,b,u,by have:=u.pos;lia,by rw[decide_eq_false q,if_neg Qq]]
end
section
variable{ws:List Wn}
noncomputable def LP(s:D)(n:Nat)(ws:List Wn)(a b c:Option Sl)(d:Option Sl):Ev.Env:=
 [sv s,sv (rD n ws),sv (nI n),sv (.qA ((qh n ws).map tD)),sv (nI (Ph n (qh n ws))),a,b,c,d,Qc,Qc,Qc,Qc,Qc,Qc]
def uh{l:List D}(h:l[j]?=Qa d):vV l (j:Int)=.ok d:=by unfold vV;rw[if_pos ∅];show(match l[j]?with|some d=>R.ok d|none=>.qC)=_;rw[h]
def fg{fs:List D}(b:qu G qB xs Z=.ok ds)(e:G f (.obj []::ds)=.ok (.qE [.qI,.obj fs])):ex G qB (.new i f xs) Z=.ok (Z.set i (Qa (.obj Qf fs))) .nx:=by rw[fc,b,qT,e,qT];rfl
def ae(n:Nat)(l:List Nat):pl (qD n l)=Qb/\qM (qD n l) (qD n l)=Qb:=by
 unfold qD;split
 .exact#[rfl,rfl]
 .exact#[AE _,by rw[Fl];exact decide_eq_true rfl]
def q7m(H:LH G s n ws):Ev.run G qB 15 DW [s]=.ok (.bl Qb):=by
 have g:=H.g;have h16:=ED g H.n4;have pos:0<(qh n ws).length:=JY (L3 g);have J:Su n ws (qh n ws):=#[Vy _,pos]
 have U:ex G qB mr [sv s,Qc,Qc,Qc,Qc,Qc,Qc,Qc,Qc,Qc,Qc,Qc,Qc,Qc,Qc]=.ok [sv s,sv (rD n ws),Qc,Qc,Qc,Qc,Qc,Qc,Qc,Qc,Qc,Qc,Qc,Qc,Qc] .nx:=
  jL (RT (x:=s) (y:=nI 0) (z:=nI 4) (by rw[qQ];rfl) (by rw[qt];rfl) (by rw[qt];rfl) H.rules)
 have V:ex G qB mv [sv s,sv (rD n ws),Qc,Qc,Qc,Qc,Qc,Qc,Qc,Qc,Qc,Qc,Qc,Qc,Qc]=.ok [sv s,sv (rD n ws),sv (nI n),Qc,Qc,Qc,Qc,Qc,Qc,Qc,Qc,Qc,Qc,Qc,Qc] .nx:=
  jL (by rw[wZ,qQ,qt];rfl)
 have W:ex G qB my [sv s,sv (rD n ws),sv (nI n),Qc,Qc,Qc,Qc,Qc,Qc,Qc,Qc,Qc,Qc,Qc,Qc]=.ok [sv s,sv (rD n ws),sv (nI n),sv (.qA ((qh n ws).map tD)),Qc,Qc,Qc,Qc,Qc,Qc,Qc,Qc,Qc,Qc,Qc] .nx:=
  jL (xF (x:=rD n ws) (by rw[qQ];rfl) H.Aa)
 have X:ex G qB mz [sv s,sv (rD n ws),sv (nI n),sv (.qA ((qh n ws).map tD)),Qc,Qc,Qc,Qc,Qc,Qc,Qc,Qc,Qc,Qc,Qc]=.ok (LP s n ws Qc Qc Qc Qc) .nx:=
  jL (xF (x:=rD n ws) (by rw[qQ];rfl) H.fq)
 have Y:ex G qB n6 (LP s n ws Qc Qc Qc Qc)=.ok (LP s n ws Qc Qc Qc Qc) .nx:=by
  refine G6 (aJ ?_ (jt ?_))
  .rw[bP,jt (xF (x:=nI (Ph n (qh n ws))) (by rw[qQ];rfl) (H.whole _)),qF];rfl
  .refine zy (x:=nI (Ph n (qh n ws))) (y:=nI (Ph n (qh n ws))) (by rw[qQ];rfl) ?_ (by rw[Sq,decide_eq_true rfl];rfl);have r:yR [.qE ((qh n ws).map tD),nI n]=.ok (.mem n ((qh n ws).map tD)):=by show(if((qh n ws).map tD).length<=20 then R.ok (D.mem n ((qh n ws).map tD))else .qC)=_;rw[Qm,if_pos ∅]
   rw[ET,kK (x:=.qE ((qh n ws).map tD)) (y:=nI n) (jf (x:=.qA ((qh n ws).map tD)) (by rw[qQ];rfl) (RI _)) (by rw[qQ];rfl),qF,r,qF];exact H.q4W
 have e5:ex G qB n7 (LP s n ws Qc Qc Qc Qc)=.ok (LP s n ws (Qa (.obj Qf (fD n (qh n ws)))) Qc Qc Qc) .nx:=
  fg (kJ (x:=rD n ws) (uU (kK (x:=nI n) (y:=.qA (ws.map wD)) (by rw[qQ];rfl) (jf (x:=.qA (ws.map wD)) (by rw[wZ,qQ,qt];rfl) (q0E _))) (by simp))) H.init
 have e6:ex G qB n8 (LP s n ws (Qa (.obj Qf (fD n (qh n ws)))) Qc Qc Qc)=.ok (LP s n ws (Qa (.obj Qf (fD n (qh n ws)))) (Qa (.obj Qf (fD n (qh n ws)))) Qc Qc) .nx:=
  fg (kJ (x:=rD n ws) (by rw[qQ];rfl)) H.init
 obtain⟨N,hN⟩:=H.mix 100;have lt:N %(qh n ws).length<(qh n ws).length:=Y7 _ pos;generalize hx:(qh n ws)[N %(qh n ws).length]'lt=x;have P:((qh n ws).map tD)[N %(qh n ws).length]?=Qa (tD x):=by rw[QB,Qy lt,hx];rfl
 have e7:ex G qB n9 (LP s n ws (Qa (.obj Qf (fD n (qh n ws)))) (Qa (.obj Qf (fD n (qh n ws)))) Qc Qc)=.ok (LP s n ws (Qa (.obj Qf (fD n (qh n ws)))) (Qa (.obj Qf (fD n (qh n ws)))) (sv (tD x)) Qc) .nx:=by refine jL ?_;rw[wZ,qQ,show zH (LP s n ws (Qa (.obj Qf (fD n (qh n ws)))) (Qa (.obj Qf (fD n (qh n ws)))) Qc Qc) 3=.ok (.qA ((qh n ws).map tD)) from rfl,qF,vg (xv (x:=s) (y:=nI 100) (by rw[qQ];rfl) (by rw[qt];rfl) hN) (jf (x:=.qA ((qh n ws).map tD)) (by rw[qQ];rfl) (wO _)) (ue _ _ (by rw[Qm];exact pos)),qF,Qm];exact uh P
 have e8:ex G qB nA (LP s n ws (Qa (.obj Qf (fD n (qh n ws)))) (Qa (.obj Qf (fD n (qh n ws)))) (sv (tD x)) Qc)=.ok (LE s n ws (qh n ws) (qh n ws) x Qc Qc Qc Qc Qc Qc) .nx:=
  jL (by rw[qQ];rfl)
 obtain⟨Q,E⟩:=H.mix 101;obtain⟨v,k1,e,w,k,p,q,K,C⟩:=lh (h:=x) H (Qu (Q %4)) (qh n ws) Qc Qc Qc Qc Qc Qc J;have e9:ex G qB SP (LE s n ws (qh n ws) (qh n ws) x Qc Qc Qc Qc Qc Qc)=.ok (LE s n ws v v x k1 e w k p q) .nx:=by rw[SP,xG,vh,kJ (vg (y:=nI 4) (xv (x:=s) (y:=nI 101) (by rw[qQ];rfl) (by rw[qt];rfl) E) (by rw[qt];rfl) (ue _ _ (by decide))),qF,xT _ (Qz (Y7 _ (by decide)) (by decide)),qT,C]
 obtain⟨b,u,u2,O,F⟩:=q4O (h:=x) H k1 e k p q 99999 v w (by have:=K.len H;lia) K;have T:ex G qB SJ (LE s n ws v v x k1 e w k p q)=.ok (LE s n ws b b x k1 e u k p q) .nx:=by rw[SJ,fo];exact F
 have A:ex G qB mw (LE s n ws b b x k1 e u k p q)=.ok (LE s n ws b b x k1 e u k p q) .nx:=by
  refine G6 (aJ (jt (zy (x:=.qI) (y:=.qI) ?_ (by rw[qt]) rfl)) (aJ (Ol H (i:=6) rfl (by rw[qQ];rfl)) (jt (zy (x:=qD n (qh n ws)) (y:=qD n (qh n ws)) ?_ ?_ (Dw (ae _ _).1 (ae _ _).2)))))
  .exact X7 (fs:=fD n b) (by rw[T3];rfl) (jg _) ((H.quest b ∅ λz=>absurd O z).trans (by unfold qD;rw[if_pos O])) rfl
  .exact X7 (fs:=fD n (qh n ws)) (by rw[T3];rfl) (jg _) (H.quest _ ∅ (J.n0 H)) (ae _ _).1
  .exact xv (x:=.qA ((qh n ws).map tD)) (y:=nI n) (by rw[qQ];rfl) (by rw[qQ];rfl) (H.lq _ ∅ pos (J.n0 H))
 have I:ev G qB (.qE [(kZ 1),(.qA [(.qE [(kZ 0),(.qE [(kZ 0)])])])]) (LE s n ws b b x k1 e u k p q)=.ok cJ:=
  uU (kK (qt ..) (T5 (kJ (uU (kK (qt ..) (uU (kJ (qt ..)) (by simp))) (by simp))) (by simp))) (by simp)
 have B:ex G qB SN (LE s n ws b b x k1 e u k p q)=.ok (LE s n ws b b x k1 e u k p q) (.ret (.bl Qb)):=by rw[SN,vi,zy (xF I H.made) (y:=AK) (by rw[qt];rfl) (q1Q rfl (ER _)),qT]
 refine jj (Z:=[sv s,Qc,Qc,Qc,Qc,Qc,Qc,Qc,Qc,Qc,Qc,Qc,Qc,Qc,Qc]) (ρ':=LE s n ws b b x k1 e u k p q) rfl ?_;rw[DW,qi U,qi V,qi W,qi X,qi Y,qi e5,qi e6,qi e7,qi e8,qi e9,qi T,qi A,jW B]
def q4M(k:Nat)(q:List Int):∃(n:Nat)(ws:List Wn),LH (Gm (k+11)) (.qA (iL q)) n ws:=by
 refine qN (q2e (k+7) q) λn ws g h w=>?_;have u:=ED g h;refine#[n,ws,#[g,h,w,λi=>Lk (k+9) q i,q2T g (k+9),q2L g h (k+1),λx=>q2U (k+10) x,?_,q2N g (k+4),λl=>q2P (k+10),λl e p=>q2a (k+8) e ∅ p,λl e p v=>q2S (k+10) e ∅ p v,λl z b e=>q2G (k+8) z b e,?_]]
 .exact q2Q ∅ ∅ 4 (qh n ws) (k+11) (X5 g) (JY (L3 g)) (Qw (ml _ _) h) ∅ (Vy _)
 .exact q2V (λ_=>by kernel_rfl) (k+3)
def q4p(b:List Int):Gm 12 38 [.qA (b.map D.int)]=.ok (.bl Qb):=by obtain⟨n,ws,H⟩:=q4M 0 b;exact(jQ 11 38 _ 1 15 DW rfl rfl).trans (q7m H)
end
end Mk
namespace Tk
open PySem PySem.W L2 Ev Snd
def top(i:Nat):Stmt:=PySem.Challenge.pw_learnyard_k50_whole_found.main.body.getD i (.Pass ⟨0,0,0,0⟩)
def Xh(j:Nat):Stmt->Stmt
 |.ClassDef _ _ _ b _ _ _ _ _ _ _=>b.getD j (.Pass ⟨0,0,0,0⟩)
 |s=>s
def eW:DefI:=⟨"mask_of",top 8,["things","mask","thing"],["things"],[],[],Mk.lM,Qf,Qf,[],"mask_of",Qf,Qc⟩
def f7:DefI:=⟨"things_of",top 9,["mask"],["mask"],[],[],Mk.lS,Qf,Qf,[],"things_of",Qf,Qc⟩
def eA:DefI:=⟨"holds",top 10,["mask","thing"],["mask","thing"],[],[],Mk.lH,Qf,Qf,[],"holds",Qf,Qc⟩
def eX:DefI:=⟨"mask_of_all",top 11,["count"],["count"],[],[],Mk.lN,Qf,Qf,[],"mask_of_all",Qf,Qc⟩
def ed:DefI:=⟨"needs_of",top 12,["rules","needs","way"],["rules"],["needs"],["needs"],Mk.lP,Qf,Qf,[],"needs_of",Qf,Qc⟩
def eZ:DefI:=⟨"may_learn",top 13,["needs","known","thing","needed"],["needs","known","thing"],[],[],Mk.lO,Qf,Qf,[],"may_learn",Qf,Qc⟩
def ef:DefI:=⟨"next_within",top 14,["needs","known","bounds"],["needs","known","bounds"],[],[],Mk.lQ,Qf,Qf,[],"next_within",Qf,Qc⟩
def f6:DefI:=⟨"states_within",top 15,["needs","bounds","found","waiting","known","thing","larger"],["needs","bounds"],["waiting","found"],[],Mk.lR,Qf,Qf,[],"states_within",Qf,Qc⟩
def eC:DefI:=⟨"is_whole",top 19,["value"],["value"],[],[],Mk.GI,Qf,Qf,[],"is_whole",Qf,Qc⟩
def eB:DefI:=⟨"is_set",top 20,["count","things","ahead","thing"],["count","things"],[],[],Mk.lI,Qf,Qf,[],"is_set",Qf,Qc⟩
def eU:DefI:=⟨"look_rules",top 21,["rules","count","ways","way","place"],["rules"],[],[],Mk.lL,Qf,Qf,[],"look_rules",Qf,Qc⟩
def eV:DefI:=⟨"look_way",top 22,["count","way","thing","needed"],["count","way"],[],[],Mk.XO,Qf,Qf,[],"look_way",Qf,Qc⟩
def eg:DefI:=⟨"states",top 23,["rules"],["rules"],[],[],Mk.Tb,Qf,Qf,[],"states",Qf,Qc⟩
def eh:DefI:=⟨"states_order",top 24,["things"],["things"],[],[],Mk.GQ,Qf,Qf,[],"states_order",Qf,Qc⟩
def eY:DefI:=⟨"masks_of_states",top 25,["rules"],["rules"],[],[],Mk.Ta,Qf,Qf,[],"masks_of_states",Qf,Qc⟩
def Iq:DefI:=⟨"Finder.__init__",Xh 0 (top 27),["self","rules"],["self","rules"],[],[],Mk.PD,Qf,Qf,[],"__init__",Qb,Qa Mk.Cr⟩
def dq:DefI:=⟨"Finder.left",Xh 1 (top 27),["self"],["self"],[],[],Mk.DV,Qb,Qf,[],"left",Qb,Qc⟩
def dt:DefI:=⟨"Finder.question",Xh 2 (top 27),["self","gaps"],["self"],[],[],Mk.GF,Qf,Qf,[],"question",Qb,Qc⟩
def dn:DefI:=⟨"Finder.gap_at",Xh 3 (top 27),["self","thing"],["self","thing"],[],[],Mk.Of,Qf,Qf,[],"gap_at",Qb,Qc⟩
def dm:DefI:=⟨"Finder.fitting",Xh 4 (top 27),["self","thing","has"],["self","thing","has"],[],[],Mk.Oe,Qf,Qf,[],"fitting",Qb,Qc⟩
def dk:DefI:=⟨"Finder.answer",Xh 5 (top 27),["self","thing","has","kept"],["self","thing","has"],[],[],Mk.Od,Qf,Qf,[],"answer",Qb,Qa Mk.FK⟩
def dz:DefI:=⟨"fewest_questions",top 28,["rules","left"],["rules"],[],[],Mk.Og,Qf,Qf,[],"fewest_questions",Qf,Qc⟩
def dw:DefI:=⟨"fewest_of",top 29,["left","count","told","key"],["left","count","told"],[],[],Mk.GH,Qf,Qf,[],"fewest_of",Qf,Qc⟩
def du:DefI:=⟨"fewest_by_trying",top 30,["left","count","told","fewest","thing","having","lacking","worst"],["left","count","told"],[],[],Mk.GG,Qf,Qf,[],"fewest_by_trying",Qf,Qc⟩
def eT:DefI:=⟨"least_bound",top 31,["many"],["many"],[],[],Mk.GP,Qf,Qf,[],"least_bound",Qf,Qc⟩
def eE:DefI:=⟨"_law_cell",top 33,["_law_script","_law_k"],["_law_script","_law_k"],[],[],Mk.PF,Qf,Qf,[],"_law_cell",Qf,Qc⟩
def eI:DefI:=⟨"_law_mix",top 34,["_law_script","_law_k","_law_number"],["_law_script","_law_k"],[],[],Mk.DY,Qf,Qf,[],"_law_mix",Qf,Qc⟩
def eS:DefI:=⟨"_law_whole",top 35,["_law_found"],["_law_found"],[],[],Mk.Oh,Qf,Qf,[],"_law_whole",Qf,Qc⟩
def eR:DefI:=⟨"_law_subset",top 36,["_law_script","_law_k","_law_things","_law_number"],["_law_script","_law_k","_law_things"],[],[],Mk.GO,Qf,Qf,[],"_law_subset",Qf,Qc⟩
def eO:DefI:=⟨"_law_rules",top 37,["_law_script","_law_k","_law_most","_law_many","_law_found","_law_thing","_law_others","_law_j","_law_needed"],["_law_script","_law_k","_law_most"],["_law_found"],[],Mk.GN,Qf,Qf,[],"_law_rules",Qf,Qc⟩
def eP:DefI:=⟨"_law_sets",top 38,["_law_many","_law_found","_law_thing"],["_law_many"],[],[],Mk.uC,Qf,Qf,[],"_law_sets",Qf,Qc⟩
def eJ:DefI:=⟨"_law_next",top 39,["_law_rules_here","_law_things","_law_found","_law_thing","_law_good"],["_law_rules_here","_law_things"],["_law_found"],[],Mk.lJ,Qf,Qf,[],"_law_next",Qf,Qc⟩
def eQ:DefI:=⟨"_law_states",top 40,["_law_rules_here","_law_found","_law_things","_law_thing","_law_less"],["_law_rules_here"],["_law_found"],[],Mk.lK,Qf,Qf,[],"_law_states",Qf,Qc⟩
def eM:DefI:=⟨"_law_refusal",top 41,["_law_kept","_law_kinds"],["_law_kept"],[],[],Mk.XN,Qf,Qf,[],"_law_refusal",Qf,Qc⟩
def eG:DefI:=⟨"_law_made",top 42,["_law_rules_here","_law_kept","e"],["_law_rules_here"],[],[],Mk.GJ,Qf,Qf,[],"_law_made",Qf,Qc⟩
def eD:DefI:=⟨"_law_answered",top 43,["_law_finder","_law_thing","_law_has","_law_kept","e"],["_law_finder","_law_thing","_law_has"],["_law_finder"],[],Mk.PE,Qf,Qb,["_law_finder"],"_law_answered",Qf,Qc⟩
def eL:DefI:=⟨"_law_question",top 44,["_law_left","_law_many","_law_best","_law_thing","_law_having","_law_far"],["_law_left","_law_many"],[],[],Mk.GL,Qf,Qf,[],"_law_question",Qf,Qc⟩
def eF:DefI:=⟨"_law_fewest",top 45,["_law_left","_law_many","_law_known","_law_some","_law_thing","_law_having","_law_other"],["_law_left","_law_many","_law_known"],["_law_some"],[],Mk.DX,Qf,Qf,[],"_law_fewest",Qf,Qc⟩
def Ir:DefI:=⟨"law",top 46,["_law_script","_law_rules_here","_law_many","_law_due","_law_found","_law_finder","_law_beside","_law_hidden","_law_left","_law_k","_law_number","_law_thing","_law_has","_law_later","_law_good"],["_law_script"],["_law_finder","_law_beside"],[],Mk.DW,Qf,Qf,["_law_finder","_law_beside"],"law",Qf,Qc⟩
def tx:TxtI:={ds:=[eW,f7,eA,eX,ed,eZ,ef,f6,eC,eB,eU,eV,eg,eh,eY,Iq,dq,dt,dn,dm,dk,dz,dw,du,eT,eE,eI,eS,eR,eO,eP,eJ,eQ,eM,eG,eD,eL,eF,Ir],consts:=[("MOST_THINGS",.int 10),("MOST_WAYS",.int 1300)],excs:=["LearnError","BadRules","BadState","Unlike","BadNumber","BadText"],sub:=Mk.qB,flds:=["remaining","thing_count"],cls:="Finder",ini:=15}
local macro_rules|`(tactic| k_data)=>`(tactic| exact⟨⟨rfl,rfl,rfl,by decide +kernel,rfl,by decide +kernel,by decide +kernel⟩,by first|(show cSs _ _ _=_;kernel_rfl)|(show compA _ _=_;kernel_rfl),λ _ _ _ _ _ _ us hl=>by first|(obtain⟨a,e⟩:=len_1 hl;subst e;rfl)|(obtain⟨a,b,e⟩:=len_2 hl;subst e;rfl)|(obtain⟨a,b,c,e⟩:=len_3 hl;subst e;rfl)|(obtain⟨a,b,c,d,e⟩:=len_4 hl;subst e;rfl)⟩)
def q5y:DefOk tx eW:=by k_data
def q67:DefOk tx f7:=by k_data
def q5f:DefOk tx eA:=by k_data
def q5z:DefOk tx eX:=by k_data
def q62:DefOk tx ed:=by k_data
def q61:DefOk tx eZ:=by k_data
def q63:DefOk tx ef:=by k_data
def q66:DefOk tx f6:=by k_data
def q5h:DefOk tx eC:=by k_data
def q5g:DefOk tx eB:=by k_data
def q5w:DefOk tx eU:=by k_data
def q5x:DefOk tx eV:=by k_data
def q64:DefOk tx eg:=by k_data
def q65:DefOk tx eh:=by k_data
def q60:DefOk tx eY:=by k_data
def q5Z:DefOk tx Iq:=by k_data
def q5a:DefOk tx dq:=by k_data
def q5b:DefOk tx dt:=by k_data
def q5Y:DefOk tx dn:=by k_data
def q5X:DefOk tx dm:=by k_data
def q5W:DefOk tx dk:=by k_data
def q5e:DefOk tx dz:=by k_data
def q5d:DefOk tx dw:=by k_data
def q5c:DefOk tx du:=by k_data
def q5v:DefOk tx eT:=by k_data
def q5j:DefOk tx eE:=by k_data
def q5m:DefOk tx eI:=by k_data
def q5u:DefOk tx eS:=by k_data
def q5t:DefOk tx eR:=by k_data
def q5q:DefOk tx eO:=by k_data
def q5r:DefOk tx eP:=by k_data
def q5n:DefOk tx eJ:=by k_data
def q5s:DefOk tx eQ:=by k_data
def q5p:DefOk tx eM:=by k_data
def q5l:DefOk tx eG:=by k_data
def q5i:DefOk tx eD:=by k_data
def q5o:DefOk tx eL:=by k_data
def q5k:DefOk tx eF:=by k_data
def o_law:DefOk tx Ir:=by k_data
def tN:∀d∈tx.ds,DefOk tx d:=by simp only[tx,Uu];exact⟨q5y,q67,q5f,q5z,q62,q61,q63,q66,q5h,q5g,q5w,q5x,q64,q65,q60,q5Z,q5a,q5b,q5Y,q5X,q5W,q5e,q5d,q5c,q5v,q5j,q5m,q5u,q5t,q5q,q5r,q5n,q5s,q5p,q5l,q5i,q5o,q5k,o_law,λ_ h=>absurd h Vb⟩
def q1I:Mk.RO=tx.ds.map λd=>⟨d.ps.length,d.N.length,d.l,d.nw,d.md,d.A⟩:=rfl
theorem gU:∀k:Nat,Snd.Gk tx k=Mk.Gm k
 |0=>rfl
 |k+1=>by
  funext f xs;rw[Snd.Gk,Mk.Gm,q1I,QB,gU k];cases tx.ds[f]?with
  |none=>rfl
  |some d=>rfl
def q3B(ns:List Int)(_:ns.length<=63):Snd.Gk tx 12 38 [.qA (ns.map Ev.D.int)]=.ok (.bl Qb):=by rw[gU];exact Mk.q4p ns
def E5{α:Type}{P:Nat->Prop}{l:List α}{x:α}{c:Nat}(h:l[c]?=Qa x)(hl:l.length=6)(h0:c=0->P 0)(h1:c=1->P 1)(h2:c=2->P 2)(h3:c=3->P 3)(h4:c=4->P 4)(h5:c=5->P 5):P c:=by
 have hc:c<6:=by rw[<-hl];exact(Qn.mp h).1
 exact Mk.XQ (P:=λd=>c=d->P d) (Nat.le_of_lt_succ hc) h0 h1 h2 h3 h4 h5 rfl
def txt{K:QC}{C0 C1 C2 C3 C4 C5 C:Addr}{t0 t1:Tok}(aC:nsIn K mainGlobals "Finder"=Qa (Qa (.ref C)))(hf:∀d∈tx.ds,Cn K C d)(hb:∀x∈zx,nsIn K mainGlobals x=Qa Qc)
  (k0:nsIn K mainGlobals "MOST_THINGS"=Qa (Qa (.int 10 t0)))
  (k1:nsIn K mainGlobals "MOST_WAYS"=Qa (Qa (.int 1300 t1)))
  (e0:ExcI K "LearnError" C0)
  (e1:ExcI K "BadRules" C1)
  (e2:ExcI K "BadState" C2)
  (e3:ExcI K "Unlike" C3)
  (e4:ExcI K "BadNumber" C4)
  (e5:ExcI K "BadText" C5)
  (cl:Cls K C) (mk:U7 K C=Qb) (kc:Jf K (.ref C)=Qb) (n0:Jw K (.ref C) "remaining"=Qa Qc) (n1:Jw K (.ref C) "thing_count"=Qa Qc)
  (hs:∀(e c:Nat)(Ce Cc:Addr),[C0,C1,C2,C3,C4,C5][e]?=Qa Ce->[C0,C1,C2,C3,C4,C5][c]?=Qa Cc->exmOne K (.ref Ce) (.ref Cc)=Qa (Mk.qB e c)/\kitOne K (.ref Ce) (.ref Cc)=Qa (Mk.qB e c)):TxtOk K tx ⟨K,[C0,C1,C2,C3,C4,C5],C,["remaining","thing_count"],(0,0)⟩:=by
 refine⟨rfl,λj d h=>⟨tN d (Qp h),hf d (Qp h)⟩,hb,λx d h=>?_,λc x h=>?_,λc C h=>?_,hs,⟨cl,λf h=>?_,(show([QA "remaining",QA "thing_count"]:List Str).Nodup from by decide+kernel),(show 2<100 by decide)⟩,rfl,by decide+kernel,⟨mk,kc,aC⟩,Iq,rfl,rfl,rfl,rfl⟩
 .have h:YM x [(("MOST_THINGS":Str),(D.int 10)),(("MOST_WAYS":Str),(D.int 1300))]=Qa d:=h;rw[Q3]at h;split at h
  .rename_i hx;cases h;cases beq_iff_eq.mp hx;exact⟨_,_,rfl,k0⟩
  rw[Q3]at h;split at h
  .rename_i hx;cases h;cases beq_iff_eq.mp hx;exact⟨_,_,rfl,k1⟩
  cases h
 .refine E5 (P:=λc=>∃C,[C0,C1,C2,C3,C4,C5][c]?=Qa C/\ExcI K x C) h rfl (λz=>by subst z;cases h;exact⟨_,rfl,e0⟩) (λz=>by subst z;cases h;exact⟨_,rfl,e1⟩) (λz=>by subst z;cases h;exact⟨_,rfl,e2⟩) (λz=>by subst z;cases h;exact⟨_,rfl,e3⟩) (λz=>by subst z;cases h;exact⟨_,rfl,e4⟩) (λz=>by subst z;cases h;exact⟨_,rfl,e5⟩)
 .refine E5 (P:=λc=>∃x,tx.excs[c]?=Qa x/\ExcI K x C) h rfl (λz=>by subst z;cases h;exact⟨_,rfl,e0⟩) (λz=>by subst z;cases h;exact⟨_,rfl,e1⟩) (λz=>by subst z;cases h;exact⟨_,rfl,e2⟩) (λz=>by subst z;cases h;exact⟨_,rfl,e3⟩) (λz=>by subst z;cases h;exact⟨_,rfl,e4⟩) (λz=>by subst z;cases h;exact⟨_,rfl,e5⟩)
 .rcases Ql.mp h with z|h
  .subst z;exact n0
  rcases Ql.mp h with z|h
  .subst z;exact n1
  cases h
end Tk
open PySem PySem.W PyProof.Rows L2 Ev Snd
namespace Tk
def q4R{p q:Program}{loose:List Str}{Xt:Shared->Bool}{α:Type}{Yf:Shared->α}{Ya:World->α}{N:Nat}{g0:Bool}{H₀:Params->Heap}{gs₀:Array GenState}{d₀:Drawn}{k₀:Nat}(op:∀w:World,(fencedOpening treeTable p w N).map (λs=>(s.heap,s.gens,s.drawn,s.toks))=Qa (H₀ w.params,gs₀,d₀,k₀))
  (run:∀(w:World)(os:OsState),(topFrom treeTable p w N ⟨H₀ w.params,gs₀,d₀,k₀,os⟩).map (λs=>(openSeen q loose (importedModules p.main.body) Xt g0 s,Yf s))=Qa (openGood q loose,Ya w)):LeftO p q loose Xt Yf Ya N g0:=λw=>by
 obtain⟨⟨h,gs,d,k,os⟩,e,e'⟩:=JS.mp (op w);obtain⟨rfl,rfl,rfl,rfl⟩:h=H₀ w.params/\gs=gs₀/\d=d₀/\k=k₀:=by simpa using e'
 unfold openEnds;rw[e];exact run w os
def looseL:List Str:=(PySem.Challenge.pw_learnyard_k50_whole_found.main.scope.names.map (·.1)).filter (·!="law")
def qP:Program:=view PySem.Challenge.pw_learnyard_k50_whole_found [PySem.Challenge.pw_learnyard_k50_whole_found.main.body.length-1]
set_option maxRecDepth 100000 in
def q87:PySem.Challenge.rw_learnyard_k50_whole_found.wellSaid=Qb:=by rw[Fast.te9446332074065402090];kernel_rfl
end Tk
local macro_rules|`(tactic| o_head $H)=>`(tactic| refine holds_open (q:=Tk.qP) (loose:=Tk.looseL) (Xt:=λ s=>xlAt Tk.qP [] s&&recOk (RowW.records (OpenRow.toRowW (OpenLaw.row PySem.Challenge.rw_learnyard_k50_whole_found))) s) (XP:=XL Tk.qP []) (Yf:=Hook.obs $H) (Ya:=Hook.val $H) (YP:=Hook.says $H) (N:=9000) ?hl (Hook.of $H) (Hook.keeps $H) (λ s e=>xl_of s (Bool.and_eq_true_iff.mp e).1) XL.keeps (by rfl) (by rfl) (by rfl) (λ s e=>recFacts_of (Bool.and_eq_true_iff.mp e).2) (by rfl) (by assumption) (by decide +kernel) ⟨rfl,rfl,rfl,rfl,rfl,by decide +kernel⟩ ?hw ?hc)
set_option maxRecDepth 100000 in
set_option maxHeartbeats 0 in
theorem PySem.Challenge.cw_learnyard_k50_whole_found_holds : PySem.Challenge.rw_learnyard_k50_whole_found.Holds := by
 w_on
 refine holds_law Tk.q87 λ said=>?_
 k_head
 case hl =>
  refine Tk.q4R (boot_open (by kernel_rfl) (by kernel_rfl) (λ s=>by kernel_rfl)) λ w os=>?_
  unfold topFrom
  rw[Fast.te14082659384304107361,Fast.te14364793385576792824,Fast.te4187177175401517315]
  kernel_rfl
 (case hw=>w_witness2)
 k_fill
 refine Snd.walk (l:=PySem.Challenge.rw_learnyard_k50_whole_found) (x := "_law_script") 12 rfl rfl ⟨rfl,by decide,by decide⟩ (λ w h Y=>PySem.W.kIn_of Y) ?F
 case F =>
  intro w mg fa h KX G DF
  have T:∃p,TxtOk (L2.bg KX) Tk.tx p:=by
   dsimp only[L2.bg]
   refine' ⟨_,Tk.txt (t0:=356) (t1:=358) ?aC ?hf ?hb ?zk0 ?zk1 ⟨?za0,?zx0,⟨?zg0,?zh0,?zb0,?zo0,?zs0,?zt0,?zm0,?zc0⟩,?zv0⟩ ⟨?za1,?zx1,⟨?zg1,?zh1,?zb1,?zo1,?zs1,?zt1,?zm1,?zc1⟩,?zv1⟩ ⟨?za2,?zx2,⟨?zg2,?zh2,?zb2,?zo2,?zs2,?zt2,?zm2,?zc2⟩,?zv2⟩ ⟨?za3,?zx3,⟨?zg3,?zh3,?zb3,?zo3,?zs3,?zt3,?zm3,?zc3⟩,?zv3⟩ ⟨?za4,?zx4,⟨?zg4,?zh4,?zb4,?zo4,?zs4,?zt4,?zm4,?zc4⟩,?zv4⟩ ⟨?za5,?zx5,⟨?zg5,?zh5,?zb5,?zo5,?zs5,?zt5,?zm5,?zc5⟩,?zv5⟩ ⟨?y1,?y2,?y3,?y4⟩ ?y5 ?y6 ?y7 ?y8 ?hs⟩
   (case aC=>k_is)
   (case y1=>k_is);(case y2=>k_is);(case y3=>k_is);(case y4=>k_is);(case y5=>k_is);(case y6=>k_is);(case y7=>k_is);(case y8=>k_is)
   (case za0=>k_is);(case zx0=>k_exc);(case zg0=>k_is);(case zh0=>k_is);(case zb0=>k_is);(case zo0=>k_is);(case zs0=>k_is);(case zt0=>k_is);(case zm0=>k_is);(case zc0=>k_is);(case zv0=>kit_is)
   (case za1=>k_is);(case zx1=>k_exc);(case zg1=>k_is);(case zh1=>k_is);(case zb1=>k_is);(case zo1=>k_is);(case zs1=>k_is);(case zt1=>k_is);(case zm1=>k_is);(case zc1=>k_is);(case zv1=>kit_is)
   (case za2=>k_is);(case zx2=>k_exc);(case zg2=>k_is);(case zh2=>k_is);(case zb2=>k_is);(case zo2=>k_is);(case zs2=>k_is);(case zt2=>k_is);(case zm2=>k_is);(case zc2=>k_is);(case zv2=>kit_is)
   (case za3=>k_is);(case zx3=>k_exc);(case zg3=>k_is);(case zh3=>k_is);(case zb3=>k_is);(case zo3=>k_is);(case zs3=>k_is);(case zt3=>k_is);(case zm3=>k_is);(case zc3=>k_is);(case zv3=>kit_is)
   (case za4=>k_is);(case zx4=>k_exc);(case zg4=>k_is);(case zh4=>k_is);(case zb4=>k_is);(case zo4=>k_is);(case zs4=>k_is);(case zt4=>k_is);(case zm4=>k_is);(case zc4=>k_is);(case zv4=>kit_is)
   (case za5=>k_is);(case zx5=>k_exc);(case zg5=>k_is);(case zh5=>k_is);(case zb5=>k_is);(case zo5=>k_is);(case zs5=>k_is);(case zt5=>k_is);(case zm5=>k_is);(case zc5=>k_is);(case zv5=>kit_is)
   (case hs =>
    intro e c Ce Cc h1 h2
    refine Tk.E5 (P:=λ e=>exmOne _ (.ref Ce) (.ref Cc)=some (Mk.qB e c)/\kitOne _ (.ref Ce) (.ref Cc)=some (Mk.qB e c)) h1 rfl ?_ ?_ ?_ ?_ ?_ ?_<;>
    (intro z;subst z;cases h1;refine Tk.E5 (P:=λ c=>exmOne _ _ (.ref Cc)=some (Mk.qB _ c)/\kitOne _ _ (.ref Cc)=some (Mk.qB _ c)) h2 rfl ?_ ?_ ?_ ?_ ?_ ?_<;>(intro z;subst z;cases h2;refine⟨?_,?_⟩;kts_exm;kit_is)))
   (case zk0=>kernel_rfl)
   (case zk1=>kernel_rfl)
   (case hb=>simp only[zx,List.forall_mem_cons];refine⟨?_,?_,?_,?_,?_,?_,?_,?_,?_,?_,?_,?_,?_,?_,?_,λ _ z=>absurd z List.not_mem_nil⟩<;>k_is)
   (case hf =>
    simp only[Tk.tx,List.forall_mem_cons]
    refine' ⟨?_,?_,?_,?_,?_,?_,?_,?_,?_,?_,?_,?_,?_,?_,?_,?_,?_,?_,?_,?_,?_,?_,?_,?_,?_,?_,?_,?_,?_,?_,?_,?_,?_,?_,?_,?_,?_,?_,?_,λ _ z=>absurd z List.not_mem_nil⟩<;>(delta Tk.eW Tk.f7 Tk.eA Tk.eX Tk.ed Tk.eZ Tk.ef Tk.f6 Tk.eC Tk.eB Tk.eU Tk.eV Tk.eg Tk.eh Tk.eY Tk.Iq Tk.dq Tk.dt Tk.dn Tk.dm Tk.dk Tk.dz Tk.dw Tk.du Tk.eT Tk.eE Tk.eI Tk.eS Tk.eR Tk.eO Tk.eP Tk.eJ Tk.eQ Tk.eM Tk.eG Tk.eD Tk.eL Tk.eF Tk.Ir;first|(refine' q1v rfl ?a ?l ?c ?k;(case a=>dsimp only;k_is);(case l=>dsimp only;k_is);(case c=>dsimp only;k_is);(case k=>k_is))|(refine' q1w rfl ?a ?i ?l ?c ?k;(case a=>dsimp only;k_is);(case i=>k_is);(case l=>dsimp only;k_is);(case c=>dsimp only;k_is);(case k=>k_is))))
  obtain⟨p,T⟩:=T
  obtain⟨fd,hb,hF⟩:=Snd.q4N (l:=PySem.Challenge.rw_learnyard_k50_whole_found) (w:=w) (j:=38) (d:=Tk.Ir) (x := "_law_script") Snd.sset T KX G rfl rfl rfl rfl DF 12
  exact⟨fd,hb,λ base kb nb=>(hF base kb nb).imp (Snd.q9A T.pk Tk.q3B)⟩
