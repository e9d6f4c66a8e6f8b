import PyProof.Rows.All
import Wide.All
import OpenK.AllK
import Wide.FinOn
import PySem.Challenge.RW_learnyard_k30_whole_paths
open Option renaming some→Qa, none→Qg, map_eq_some_iff→YF, map_some→Uk, isSome_iff_exists→Ve, isSome_map→Wd, isNone_iff_eq_none→Zp, isSome_some→Hg
open PySem renaming wpAny_bind→Qb, wpAny_pure→Qf, wpAny_mono→Qi, Expr→QC, sizeLine→QI, wpAny_holding→Q4, starEach→Q5, wpAny_Call_Name_kw→Je, mem_of_lookup→Jj, sizeLine_eq→Jk, eval→Jw, wpAny_newObj_type→JF, compareOp→JG, sysModules→J1, tupleKind_room_in1→J2, wpAny_call_entry→J3, binaryOp→Yn, wpAny_specialOf→Yv, codeAny_builtin→Yx, wpAny_truthy_bool→Yy, wpAny_Assign_Name→YA, Env→YK, wpAny_Call_method_late→YS, wpAny_passesOwn→YX, inplaceOp→YZ, swapsWith→Y1, plainId_quiet→Y3, Builtin→Ua, sliceBounds→Ui, wpAny_seqItems→Uj, wpAny_tryCatch→Ul, intKind→Uq, wpAny_isInstance→Ur, spliced→Us, wpAny_comprehension_free→Uv, wpAny_loadPart'→Ux, wpAny_ite_split→Uy, cellsFrom→UD, wpAny_callSpecial?_slot→UE, wpAny_assign_Name→UL, wpAny_typeOf→UN, backTo→UO, wpAny_pyIter_list→UP, atKey→UT, builtinLookup_eq_fast→UU, tupleKind→UW, call_meets→UX, wpAny_forIn_list→UZ, relabel→U0, attributeBase→U1, wpAny_execs_nil→Va, wpAny_updateSeq→Vb, codeAny_mono→Vh, getItem→Vt, wpAny_field→Vu, ofAClassStatement→Vv, wpAny_Return_some→Vw, foldedSetIterable→Vx, wpAny_letGo→Vy, assign→VB, wpAny_newList→VF, wpAny_attempt→VG, wpAny_askSetting→VQ, Paired→VX, rawInt→VZ, wpAny_pyNext_list_item→V0, setAddHashed→V1, typeLookup_type→V6, wpAny_pyNext_list_end→V9, IsPart→Wl, wpAny_Expr_any→Wm, newFunctionEnv→Wo, wpAny_setField→Ws, codeAny_call_builtin→Wt, wpAny_of_eq→Wu, wpAny_pyIter_revIter→Wv, callerA→WA, holding→WD, wpAny_standAt→WS, assignEach→WY, wpAny_getItem_heap→WZ, wpAny_rule→W2, wpAny_List_spliced→W3, wpAny_call→W4, concat_meets→Zd, slot_list_getitem→Ze, compEnvC→Zh, sub_set_self→Zs, wpAny_pyHash_int→ZF, Result→ZI, noFill_tuple_add→ZJ, slicePick→ZK, noteFrame→ZM, setDiscardHashed→ZO, subscripted→ZR, unsupported→ZV, valueAt→FA, Keyword→FC, typeLookup→FK, typeIs_int→FL, Operator→FN, reduceHash→F0, wpAny_newFunctionEnv_cells→F4, argsOk→F5, isSubtype_type→F8, entryFor_alias→Hc, evalArgs_none→Hj
open List renaming mem_cons_of_mem→Qc, mem_cons_self→Qe, getElem?_eq_some_iff→Qj, mem_append_right→Ql, length_map→Qm, mem_map→Qn, mem_cons→Qo, all_eq_true→Qq, replicate→Qr, range→Qt, getElem?_eq_getElem→Qv, map_cons→Qw, mem_of_getElem?→Qz, mem_append→QA, size_toArray→QB, mem_append_left→QD, mem_singleton→QE, length_cons→QG, getElem?_map→QJ, mem_range→QN, mem_filter→QO, toArray→QP, nodup_cons→QQ, length_filter_le→QS, length_append→QT, nodup_append→QU, pairwise_cons→QX, getElem?_append_left→QZ, length_range→Q1, append_nil→Q3, eraseIdx_eq_take_drop_succ→Q7, isEmpty_iff→Q8, getElem_of_mem→Ja, any_eq_true→Jc, pairwise_map→Jd, lookup_cons→Jf, append_assoc→Jg, getElem?_append_right→Jh, getElem_mem→Jl, reverse_cons→Jm, pairwise_lt_range→Jo, flatten_cons→Jq, mem_flatten→Ju, length_nil→Jz, map_append→JA, pairwise_iff_getElem→JB, filterMap_cons→JC, getElem?_eq_none→JD, getD→JH, any_cons→JK, perm_ext_iff_of_nodup→JN, take_of_length_le→JO, find?_cons→JR, length_replicate→JW, take_append_drop→JX, filter_cons→JY, map_map→J0, length_eq_zero_iff→J6, length_reverse→Yb, getElem?_set_self→Yd, set_cons_succ→Yi, getElem?_eq_none_iff→Yk, getElem?_set_ne→Yp, reverse_reverse→Yr, map_take→Ys, replicate_succ→Yz, map_congr_left→YB, length→YG, set_cons_zero→YH, nil_append→YL, set→YM, map_drop→YO, nodup_nil→Y0, getD_eq_getElem?_getD→Y2, forall_mem_cons→Y4, length_take→Y8, map_nil→Y9, perm_middle→Ub, drop_eq_getElem_cons→Ud, getElem?_range→Ug, length_erase_of_mem→Um, mem_of_mem_eraseIdx→Uo, zip_cons_cons→Ut, length_singleton→UJ, mem_filterMap→U2, length_eraseIdx_of_lt→U6, filter_append→U7, ext_getElem?→Vj, flatMap_cons→Vk, all_cons→Vm, nodup_range→Vq, not_mem_nil→Vr, of_mem_zip→VD, forIn_cons→VE, foldl_cons→VH, eraseIdx_sublist→VM, pairwise_append→VU, getElem?_of_mem→VW, mem_map_of_mem→V7, filter_eq_self→V8, zip_nil_right→We, append_of_mem→Wh, take_sublist→Wz, all_map→WB, zip_nil_left→WC, length_drop→WR, ext_getElem→WT, mem_flatMap→WV, map_reverse→WW, eq_nil_iff_forall_not_mem→WX, mem_eraseIdx_iff_getElem→W5, forIn_nil→Zw, getElem?_replicate→ZY, pairwise_singleton→ZZ, length_eraseIdx_le→Z7, getElem?_cons_succ→Z8, range_succ_eq_map→FD, length_pos_of_mem→FE, sublist_cons_self→FI, dropLast_eq_take→F6, getElem?_reverse→F9, pairwise_flatMap→He, mem_iff_getElem→Hh, mem_erase_of_ne→Hi
open Bool renaming true→Qd, false→Qh, and_eq_true→Qp, eq_iff_iff→QR, not_eq_true'→Jn, or_eq_true→JS, false_eq_true→JZ, eq_false_iff→Yq, beq_eq_decide_eq→VJ, and_false→VS, false_ne_true→Wf, false_or→ZQ, true_and→ZW
open PySem.Heap renaming get?_push_of_some→Qk, lt_size→Qu, get?_push_size→QH, SameBut→JE, get?_update_other→JM, get?_update_self→YQ, size_push→Uz
open Nat renaming le_refl→Qs, le_trans→Qx, lt_of_lt_of_le→QF, ne_of_lt→QK, zero_le→QV, pow_le_pow_right→Q6, lt_irrefl→Jv, eq_of_testBit_eq→JI, le_succ→J4, lt_succ_self→Yg, lt_of_le_of_lt→Yj, le_of_lt→UB, lt_succ_of_lt→UC, mod_lt→UQ, testBit_or→Vc, ge_two_pow_of_testBit→Vi, ne_of_gt→VC, lt_trans→WJ, one_shiftLeft→WL, le_succ_of_le→WM, zero_add→WN, shiftRight_eq_div_pow→ZS, pow_lt_pow_iff_right→Z0, add_sub_cancel_left→FH, pow_succ→Ha, and_comm→Hd
open PySem.Str renaming ofString→Qy, ofString→YC, empty→V4
open PySem.W renaming Frag→QL, fnOf→J9, keepIn→Yt, kas_sort→YY, codeIn→UY, cellsFrom_some→Vn, Looks→VT, kas_desc→Wq, kas_rev→WE, OpenLaw→WK, kia_one→Zk, hideAll_none→ZX, hideAll_get→Z9, kas_ask→FF, kdu_collect→FG, of_hideAll→FJ, codeRec_of→F3, callWith_K→F7
open PySem.SetTable renaming sizeAbove→QM, grown→Jy, tooFull→JU, advance→UA, turns→Vz, below→WU, fits→W8, insertAt→Hb
open PySem.Calls renaming spliced_cons→QW, spliced_nil→Q0, callWith_builtin→JL, evalArgs_plain→Yo, Name_function_global→Zc
open Option.some renaming inj→QY
open PyProof.Rows renaming callWith_type1→Q2, slot_tuple_getitem→Jx, seqObj→JV, callWith_builtin1→Yl, get?_update_seq→Yw, boot_sorted→YV, boot_list→Uh, listUpdate_at→Uw, kws_cons→Vf, JoinedStr_many→Wc, joinParts_nil→Wg, envOfC→Wj, seqEpoch_at→Wr, callWith_kw→WG, boot_tuple→WO, subscriptTail→WQ, Subscript_→W0, kws_nil→W7, lt_int→Zf, ge_int→Zg, listItems_at→Zi, tail_any→F1, keyKind'→F2
open PySem.Obj renaming mapSeq→Q9, data_mapFields→YI, isFreed_of_fields→VP
open PySem.Around renaming in1_units→Jb, under_plainId→Ym
open Classical renaming byContradiction→Ji, propDecidable→Ue
open PySem.Builtin.Tuple renaming tupleHashOf→Jp, tupleExact→YR, tupleItemsOf→UI, tupleCompareSizes→VL
open PySem.Value renaming none→Jr, type→J5, int→Y5, ref→Y6, isInt→Vd, builtin→V5, bool→W9, notImplemented→FO
open PySem.Heap.SameBut renaming update→Js, refl→ZP
open List.Pairwise renaming nil→Jt, sublist→J7, filter→Ye, imp_of_mem→YT, imp→ZC
open PySem.F renaming plain_min_loop→JJ, plainAttrs_list→Yu, args_tuple_add_2→U9, entry_tuple_add→Vg, slot_tuple_add→Vo, entry_min_loop→Vp, slot_tuple_lt→Vs, slot_list_append→Zl, type_list_append→Zm, slot_list_extend→Zo, args_tuple_lt_2→Zv, attr_ValueError→Zx, slot_list_count→Zz, slot_list_index→ZA, entry_tuple_lt→ZL, slot_int_rmul→ZT, slot_dict_get→ZU
open Ne renaming symm→JQ
open Array renaming getElem?_eq_getElem→JT, length_toList→J8, getD_eq_getD_getElem?→Yc, getElem?_toList→YN, toList_inj→UK, forIn_toList→Wb, toList→Wi, getElem?_eq_some_iff→Zj, getD→Zq
open PySem.Builtin.List renaming listTooLong→Yh, listExtendWith→YE, listLengthHint→UH, listItems→U5, listSameRef→WH
open ForInStep renaming yield→YD
open PySem.Builtin.Slice renaming slicePlaces→YJ, sliceAdjust→UM, sliceApplied→Wa
open Sum renaming inl→YU, inr→Zu
open False renaming elim→YW
open Int renaming fdiv_eq_ediv_of_nonneg→Y7, fmod_eq_emod_of_nonneg→ZH
open List.Perm renaming trans→Uc
open PySem.Builtin renaming bitAnd→Uu, bitOr→U8
open PySem.Heap.IsSliceOf renaming new→UG
open PySem.Builtin.Getset_descriptor renaming descrGet→UR, descrGetter→Z3, descrCheckInstance→Z4, descrNameAndClass→Z6
open List.Sublist renaming refl→US, trans→ZE
open True renaming intro→U3
open PySem.AutoSeq1 renaming sub_tuple_tuple→U4
open List.cons renaming injEq→Vl
open PySem.SetTable.probe renaming go→VA
open PySem.Builtin.Frozenset renaming updateFrom→VI, unchanged→VN, isAnySet→VR, sizeOf→V2, baseOf→V3
open PySem.NameKind renaming cell→VO, free→W6
open PySem.Paired renaming length→VY
open Sum.inl renaming inj→Ww
open PySem.Builtin.Range renaming rangeSize→Wx
open Prod.mk renaming inj→WI
open PUnit renaming unit→Zn
open PySem.pickOrder renaming go→Zt
open PySem.Builtin.Int renaming intBits→Zy
open PySem.Shared renaming TypeIs→ZD
open PyProof renaming noPylong_small→ZG
open PySem.W.Looks renaming ld→ZN
set_option compiler.extract_closed false
set_option genSizeOf false
set_option bootstrap.genMatcherCode false
local macro_rules|`(∅)=>`(by lia)
noncomputable section
set_option autoImplicit true
set_option linter.all false
section
variable{C:Prop}
def qR{P Q:A->Prop}(h:∃a,P a/\Q a)(k:∀a,P a->Q a->C):C:=let⟨a,l,m⟩:=h;k a l m
def qV{P Q R:A->Prop}(h:∃a,P a/\Q a/\R a)(k:∀a,P a->Q a->R a->C):C:=let⟨a,l,m,n⟩:=h;k a l m n
def kX{P Q:A->B->Prop}(h:∃a b,P a b/\Q a b)(k:∀a b,P a b->Q a b->C):C:=let⟨a,b,l,m⟩:=h;k a b l m
def qL{P Q R:A->B->Prop}(h:∃a b,P a b/\Q a b/\R a b)(k:∀a b,P a b->Q a b->R a b->C):C:=let⟨a,b,l,m,n⟩:=h;k a b l m n
def zK{P Q R S:A->B->Prop}(h:∃a b,P a b/\Q a b/\R a b/\S a b)(k:∀a b,P a b->Q a b->R a b->S a b->C):C:=let⟨a,b,l,m,n,o⟩:=h;k a b l m n o
def qi{P Q R S U:A->B->D->Prop}(h:∃a b c,P a b c/\Q a b c/\R a b c/\S a b c/\U a b c)(k:∀a b c,P a b c->Q a b c->R a b c->S a b c->U a b c->C):C:=let⟨a,b,c,l,m,n,o,p⟩:=h;k a b c l m n o p
def xm{P Q R S U:A->Prop}(h:∃a,P a/\Q a/\R a/\S a/\U a)(k:∀a,P a->Q a->R a->S a->U a->C):C:=let⟨a,l,m,n,o,p⟩:=h;k a l m n o p
def D3{P Q R S:A->Prop}(h:∃a,P a/\Q a/\R a/\S a)(k:∀a,P a->Q a->R a->S a->C):C:=let⟨a,l,m,n,o⟩:=h;k a l m n o
def wH{P Q R S:Prop}(h:P/\Q/\R/\S)(k:P->Q->R->S->C):C:=let⟨l,m,n,o⟩:=h;k l m n o
def yz{P Q R S U:Prop}(h:P/\Q/\R/\S/\U)(k:P->Q->R->S->U->C):C:=let⟨l,m,n,o,p⟩:=h;k l m n o p
def je{P Q R S U W:Prop}(h:P/\Q/\R/\S/\U/\W)(k:P->Q->R->S->U->W->C):C:=let⟨l,m,n,o,p,q⟩:=h;k l m n o p q
def XF{P Q R:A->B->D->Prop}(h:∃a b c,P a b c/\Q a b c/\R a b c)(k:∀a b c,P a b c->Q a b c->R a b c->C):C:=let⟨a,b,c,l,m,n⟩:=h;k a b c l m n
def x6{P Q R S:A->B->D->E->Prop}(h:∃a b c d,P a b c d/\Q a b c d/\R a b c d/\S a b c d)(k:∀a b c d,P a b c d->Q a b c d->R a b c d->S a b c d->C):C:=let⟨a,b,c,d,l,m,n,o⟩:=h;k a b c d l m n o
def Rr{P Q R S:A->B->D->E->F->Prop}(h:∃a b c d e,P a b c d e/\Q a b c d e/\R a b c d e/\S a b c d e)(k:∀a b c d e,P a b c d e->Q a b c d e->R a b c d e->S a b c d e->C):C:=let⟨a,b,c,d,e,l,m,n,o⟩:=h;k a b c d e l m n o
def uV{P Q R:Prop}(h:P/\Q/\R)(k:P->Q->R->C):C:=let⟨l,m,n⟩:=h;k l m n
def D4{P Q R:A->B->D->E->F->Prop}(h:∃a b c d e,P a b c d e/\Q a b c d e/\R a b c d e)(k:∀a b c d e,P a b c d e->Q a b c d e->R a b c d e->C):C:=let⟨a,b,c,d,e,l,m,n⟩:=h;k a b c d e l m n
def i7{P Q R S U:A->B->Prop}(h:∃a b,P a b/\Q a b/\R a b/\S a b/\U a b)(k:∀a b,P a b->Q a b->R a b->S a b->U a b->C):C:=let⟨a,b,l,m,n,o,p⟩:=h;k a b l m n o p
def Eh{P:A->Prop}{Q R S U W X:A->B->D->E->F->G->Prop}{Y Z:A->B->D->E->F->G->H->Prop}(h:∃a,P a/\∃b c d e f,Q a b c d e f/\R a b c d e f/\S a b c d e f/\U a b c d e f/\W a b c d e f/\X a b c d e f/\∃g,Y a b c d e f g/\Z a b c d e f g)(k:∀a,P a->∀b c d e f,Q a b c d e f->R a b c d e f->S a b c d e f->U a b c d e f->W a b c d e f->X a b c d e f->∀g,Y a b c d e f g->Z a b c d e f g->C):C:=let⟨a,l,b,c,d,e,f,m,n,o,p,q,r,g,s,t⟩:=h;k a l b c d e f m n o p q r g s t
def i6{P Q:Prop}{R S:A->Prop}(h:P/\Q/\∃a,R a/\S a)(k:P->Q->∀a,R a->S a->C):C:=let⟨l,m,a,n,o⟩:=h;k l m a n o
def LP{P Q:A->B->Prop}{R S:A->B->D->Prop}{U W:A->B->D->E->Prop}(h:∃a b,P a b/\Q a b/\∃c,R a b c/\S a b c/\∃d,U a b c d/\W a b c d)(k:∀a b,P a b->Q a b->∀c,R a b c->S a b c->∀d,U a b c d->W a b c d->C):C:=let⟨a,b,l,m,c,n,o,d,p,q⟩:=h;k a b l m c n o d p q
def TL{P Q:A->B->Prop}{R S U:A->B->D->Prop}(h:∃a b,P a b/\Q a b/\∃c,R a b c/\S a b c/\U a b c)(k:∀a b,P a b->Q a b->∀c,R a b c->S a b c->U a b c->C):C:=let⟨a,b,l,m,c,n,o,p⟩:=h;k a b l m c n o p
def LQ{P Q R S U W X:A->B->D->Prop}(h:∃a b c,P a b c/\Q a b c/\R a b c/\S a b c/\U a b c/\W a b c/\X a b c)(k:∀a b c,P a b c->Q a b c->R a b c->S a b c->U a b c->W a b c->X a b c->C):C:=let⟨a,b,c,l,m,n,o,p,q,r⟩:=h;k a b c l m n o p q r
def q2p{P:Prop}{Q R S:A->B->Prop}(h:P/\∃a b,Q a b/\R a b/\S a b)(k:P->∀a b,Q a b->R a b->S a b->C):C:=let⟨l,a,b,m,n,o⟩:=h;k l a b m n o
def LR{P Q R S U W X Y:A->B->D->E->Prop}(h:∃a b c d,P a b c d/\Q a b c d/\R a b c d/\S a b c d/\U a b c d/\W a b c d/\X a b c d/\Y a b c d)(k:∀a b c d,P a b c d->Q a b c d->R a b c d->S a b c d->U a b c d->W a b c d->X a b c d->Y a b c d->C):C:=let⟨a,b,c,d,l,m,n,o,p,q,r,s⟩:=h;k a b c d l m n o p q r s
def Eg{P:Prop}{Q R:A->B->Prop}(h:P/\∃a b,Q a b/\R a b)(k:P->∀a b,Q a b->R a b->C):C:=let⟨l,a,b,m,n⟩:=h;k l a b m n
def LO{P Q R S U W X:A->B->Prop}(h:∃a b,P a b/\Q a b/\R a b/\S a b/\U a b/\W a b/\X a b)(k:∀a b,P a b->Q a b->R a b->S a b->U a b->W a b->X a b->C):C:=let⟨a,b,l,m,n,o,p,q,r⟩:=h;k a b l m n o p q r
def i8{P Q:A->B->Prop}{R S U W:A->B->D->E->Prop}(h:∃a b,P a b/\Q a b/\∃c d,R a b c d/\S a b c d/\U a b c d/\W a b c d)(k:∀a b,P a b->Q a b->∀c d,R a b c d->S a b c d->U a b c d->W a b c d->C):C:=let⟨a,b,l,m,c,d,n,o,p,q⟩:=h;k a b l m c d n o p q
end
set_option Elab.async false
set_option maxRecDepth 100000
abbrev NZ:=PySem.Value->PySem.Shared->Prop
namespace L2
open PySem PySem.Spec PyProof.Rows
variable{us:List Value}{a e it:Addr}{P:Program}{w:World}{h h' base:Heap}{α κ:Type}{x:Str}{o:Obj}{pins:List (Addr×Obj)}{s s':Shared}{g':Array GenState}{t' i j n:Nat}{d':Drawn}{ch fp:List Addr}{N ps:List Str}{M:Model}{A:Around}{E Q:NZ}{u:Value}{pos:Pos}{ta tb tc:TE}{K:QL}{es:List Expr}{tg c:Expr}{mg:Str->Option Value}{fd:FuncData}
abbrev Key:=Sum Int Str
def PS:Key->Value->Bool
 |.inl k,v=>Vd k v
 |.inr x,v=>Value.isStrOf x v
def q5J(w:World):Key->Int
 |.inl k=>hashInt k
 |.inr x=>hashStr w x
theorem uC:∀{k:Key}{v:Value},PS k v=Qd->(∃i t,k=YU i/\v=Y5 i t)\/(∃x t,k=Zu x/\v=Value.str x t)
 |.inl i,v,h=>by obtain⟨t,e⟩:=Value.isInt_shape h;exact .inl ⟨i,t,rfl,e⟩
 |.inr x,v,h=>by obtain⟨t,e⟩:=Value.isStrOf_shape h;exact .inr ⟨x,t,rfl,e⟩
def q5K(i:Int)(t:Tok):PS (.inl i) (.int i t)=Qd:=by simp[PS,Vd]
def q5L(x:Str)(t:Tok):PS (.inr x) (.str x t)=Qd:=by simp[PS,Value.isStrOf]
def q5M(a b:Int):decide ((YU a:Key)=YU b)=(a==b):=by
 by_cases e:a=b
 .subst e;simp
 .
  rw[decide_eq_false (λq=>e (Ww q))];exact(beq_eq_false_iff_ne.mpr e).symm
def q5Q(a b:Str):decide ((Zu a:Key)=Zu b)=decide (a=b):=by
 by_cases e:a=b
 .subst e;simp
 .
  rw[decide_eq_false (λq=>e (Zu.inj q)),decide_eq_false e]
def q5N(a:Int)(b:Str):decide ((YU a:Key)=Zu b)=Qh:=decide_eq_false (λq=>nomatch q)
def q5P(a:Str)(b:Int):decide ((Zu a:Key)=YU b)=Qh:=decide_eq_false (λq=>nomatch q)
def kq(prog:Program)(w:World):PySem.KeyKind prog w Key where
 is:=PS
 hash:=q5J w
 inj:=λv a b ha hb=>by
  rcases uC ha with⟨i,t,rfl,rfl⟩|⟨x,t,rfl,rfl⟩
  .rcases uC hb with⟨j,u,rfl,e⟩|⟨y,u,rfl,e⟩
   .injection e with e1 _;rw[e1]
   .exact nomatch e
  .rcases uC hb with⟨j,u,rfl,e⟩|⟨y,u,rfl,e⟩
   .exact nomatch e
   .injection e with e1 _;rw[e1]
 byValue:=λk v h=>by rcases uC h with⟨i,t,rfl,rfl⟩|⟨x,t,rfl,rfl⟩<;>rfl
 pyHash:=λhv h=>by
  rcases uC hv with⟨i,t,rfl,rfl⟩|⟨x,t,rfl,rfl⟩
  .exact ZF h
  .exact wpAny_pyHash_str h
 eqBool:=λhu hv h=>by
  rcases uC hu with⟨i,t,rfl,rfl⟩|⟨x,t,rfl,rfl⟩
  .rcases uC hv with⟨j,u,rfl,rfl⟩|⟨y,u,rfl,rfl⟩
   .rw[q5M]at h;exact wpAny_eqBool_int h
   .rw[q5N]at h;exact SeqAt.EqAt.int_str i t y u _ _ _ _ h
  .rcases uC hv with⟨j,u,rfl,rfl⟩|⟨y,u,rfl,rfl⟩
   .rw[q5P]at h;exact SeqAt.EqAt.str_int x t j u _ _ _ _ h
   .rw[q5Q]at h;exact wpAny_eqBool_str h
 «strs»:=λk x t v h=>by
  rcases uC h with⟨i,u,rfl,e⟩|⟨y,u,rfl,e⟩
  .exact nomatch e
  .injection e with e1 _
   subst e1;cases v<;>rfl
def q6D(prog:Program)(w:World)(i:Int)(t:Tok):(kq prog w).is (.inl i) (.int i t)=Qd:=q5K i t
def q6E(prog:Program)(w:World)(x:Str)(t:Tok):(kq prog w).is (.inr x) (.str x t)=Qd:=q5L x t
inductive V where
 |qE|bl (b:Bool)|int (i:Int)|str (x:Str)|Fp (b:Array UInt8)|Lq (b:UInt64)|ref (a:Addr)|ty (n:String)
 deriving DecidableEq
def RelV:V->Value->Prop
 |.qE,u=>u=Jr
 |.bl b,u=>u=W9 b
 |.int i,u=>∃t,u=Y5 i t
 |.str x,u=>∃t,u=Value.str x t
 |.Fp b,u=>∃t,u=Value.bytes b t
 |.Lq b,u=>∃t,u=Value.float b t
 |.ref a,u=>u=Y6 a
 |.ty n,u=>u=J5 n
abbrev Vals:List V->List Value->Prop:=VX RelV
theorem Vals.length{xs:List V}(r:Vals xs us):xs.length=us.length:=VY r
theorem Vals.get:∀{xs:List V}{us:List Value}{i:Nat}{x:V},Vals xs us->xs[i]?=Qa x->∃u,us[i]?=Qa u/\RelV x u
 |_,_,_,_,.nil,e=>by simp at e
 |_,_,0,_,.cons r _,e=>by simp at e;subst e;exact⟨_,rfl,r⟩
 |_,_,i+1,x,.cons _ t,e=>by obtain⟨u,h1,h2⟩:=Vals.get t (by simpa using e);exact⟨u,by simpa using h1,h2⟩
theorem Vals.append:∀{xs ys:List V}{us ws:List Value},Vals xs us->Vals ys ws->Vals (xs++ys) (us++ws)
 |_,_,_,_,.nil,s=>s
 |_,_,_,_,.cons r t,s=>.cons r (Vals.append t s)
theorem Vals.take:∀{xs:List V}{us:List Value}(n:Nat),Vals xs us->Vals (xs.take n) (us.take n)
 |_,_,0,_=>.nil
 |_,_,_+1,.nil=>.nil
 |_,_,n+1,.cons r t=>.cons r (Vals.take n t)
theorem Vals.drop:∀{xs:List V}{us:List Value}(n:Nat),Vals xs us->Vals (xs.drop n) (us.drop n)
 |_,_,0,r=>r
 |_,_,_+1,.nil=>.nil
 |_,_,n+1,.cons _ t=>Vals.drop n t
def Vals.none_of:∀{xs:List V}{us:List Value}{i:Nat},Vals xs us->xs[i]?=Qg->us[i]?=Qg:=λ{xs us i} r e=>by have h1:=r.length;have h2:=Yk.mp e;exact Yk.mpr ∅
def xg:Option V->Option Value->Prop
 |some v,Qa u=>RelV v u
 |none,Qg=>True
 |_,_=>False
def KV{κ:Type}:List (κ×V)->List (κ×Value)->Prop:=VX λ(p:κ×V)(q:κ×Value)=>p.1=q.1/\RelV p.2 q.2
def kV:Key->V
 |.inl i=>.int i
 |.inr x=>.str x
set_option genInjectivity false in
inductive HO where
 |q6 (xs:List V)
 |qA (xs:List V)
 |dK (kvs:List (Key×V))|dT (kvs:List (List Key×V))
 |set (S:Int->Bool) (n:Nat)
 |ins (C dx:Addr) (fs:List (Str×V))
 |own (x:Addr)
 |xd (fs:List (Str×V))
 |met (f x:Addr)
 |rng (lo hi:Int)
 |frz (o:Obj) (u:HO)
 |tbl (ps:Array Value)
 |ext (φ:Heap->Prop)
abbrev Hp:=Addr->Option HO
def upd(H:Hp)(a:Addr)(o:HO):Hp:=λb=>if b=a then Qa o else H b
def zr{H:Hp}{o:HO}:upd H a o a=Qa o:=by unfold upd;rw[if_pos rfl]
def qY{H:Hp}{b:Addr}{o:HO}(h:b≠a):upd H a o b=H b:=by unfold upd;rw[if_neg h]
def q6L{H:Hp}{b:Addr}{o u:HO}(h:H a=Qa o)(h':H b=Qa u)(d:o≠u):a≠b:=by intro e;subst e;rw[h]at h';exact d (QY h')
def jJ{H:Hp}{b:Addr}{o:HO}(h:H a=Qa o)(h':H b=Qg):a≠b:=by intro e;subst e;rw[h]at h';cases h'
section
variable(P:Program)(w:World)
def jd(H:Hp)(h:Heap)(a:Addr):HO->Prop
 |.q6 xs=>xs.length<=QI/\∃(its:List Value)(n:Nat),Vals xs its/\h.get? a=Qa {cls:=.type "list",data:=.seq its.toArray n}
 |.qA xs=>xs.length<=QI/\∃its:List Value,Vals xs its/\IsTup h a its.toArray
 |.dK kvs=>kvs.length<=QI/\(a==J1)=Qh/\∃vs,KV kvs vs/\h.DictOf (kq P w) a vs
 |.dT kvs=>kvs.length<=QI/\(a==J1)=Qh/\∃xs:List (List Key×Addr×Value),
   VX (λ(p:List Key×V)(q:List Key×Addr×Value)=>p.1=q.1/\H q.2.1=Qa (.qA (p.1.map kV))/\RelV p.2 q.2.2) kvs xs/\
   ∃o es ep,h.get? a=Qa o/\o.ExactDict/\o.data=.dict es ep/\es.toList=xs.map (entryOfKey (UW (kq P w)))/\(xs.map (·.1)).Nodup
 |.set S n=>h.SetOf (Uq P w) a S n
 |.ins C dx fs=>H dx=Qa (.own a)/\fs.length<=1000/\dx≠a/\h.get? a=Qa (PySem.W.instObj C dx)/\
   ∃mA,h.Ns1 dx mA/\(∀f,xg (fs.lookup f) (mA f))/\PySem.Within mA (fs.map (·.1))
 |.own _=>∃o,h.get? a=Qa o
 |.xd fs=>∃mA,h.Ns1 a mA/\∀f,xg (fs.lookup f) (mA f)
 |.rng lo hi=>∃t u v,h.get? a=Qa {cls:=.type "range",data:=.fields #[.int lo t,.int hi u,.int 1 v]}
 |.frz o u=>h.get? a=Qa o/\jd H h a u
 |.tbl ps=>h.get? a=Qa {cls:=.none,data:=.fields ps}
 |.met f x=>h.get? a=Qa (PySem.W.methodObj (.ref f) (.ref x))
 |.ext φ=>φ h/\(∃o,h.get? a=Qa o)/\∀h1 h2:Heap,φ h1->(∀o,h1.get? a=Qa o->h2.get? a=Qa o)->φ h2
def zW(H:Hp)(h:Heap):Prop:=∀a o,H a=Qa o->jd P w H h a o
end
section
variable{H H':Hp}{o:HO}
theorem jd.lt(x:jd P w H h a o):a<h.objs.size:=by
 cases o with
 |q6 xs=>obtain⟨_,_,_,_,e⟩:=x;exact Qu e
 |qA xs=>obtain⟨_,_,_,p⟩:=x;exact p.lt
 |dK kvs=>obtain⟨_,_,_,_,o,_,_,e,_⟩:=x;exact Qu e
 |dT kvs=>obtain⟨_,_,_,_,o,_,_,e,_⟩:=x;exact Qu e
 |set S n=>obtain⟨o,_,_,_,e,_⟩:=x;exact Qu e
 |ins C dx fs=>obtain⟨_,_,_,e,_⟩:=x;exact Qu e
 |own y=>obtain⟨_,e⟩:=x;exact Qu e
 |xd fs=>obtain⟨_,⟨_,_,_,e,_⟩,_⟩:=x;exact Qu e
 |rng lo hi=>obtain⟨_,_,_,e⟩:=x;exact Qu e
 |frz ob u=>obtain⟨e,_⟩:=x;exact Qu e
 |tbl ps=>exact Qu x
 |met f y=>exact Qu x
 |ext φ=>obtain⟨_,⟨_,e⟩,_⟩:=x;exact Qu e
theorem Paired.aD{β:Type}{F G:α->β->Prop}:∀{l₁:List α}{l₂:List β},VX F l₁ l₂->(∀a b,F a b->G a b)->VX G l₁ l₂
 |_,_,.nil,_=>.nil
 |_,_,.cons r t,f=>.cons (f _ _ r) (Paired.aD t f)
def jd.xZ(x:jd P w H h a o)(k:∀b u,(b=a\/H b=Qa (.own a))->h.get? b=Qa u->h'.get? b=Qa u)
  (ho:∀b,H b=Qa (.own a)->H' b=Qa (.own a)) (ht:∀b xs,H b=Qa (.qA xs)->H' b=Qa (.qA xs)):jd P w H' h' a o:=by
 induction o with
 |q6 xs=>obtain⟨z,its,n,r,e⟩:=x;exact⟨z,its,n,r,k _ _ (.inl rfl) e⟩
 |qA xs=>obtain⟨z,its,r,ob,e,c⟩:=x;exact⟨z,its,r,ob,k _ _ (.inl rfl) e,c⟩
 |dK kvs=>obtain⟨z,y,vs,r,ob,es,ep,e,c⟩:=x;exact⟨z,y,vs,r,ob,es,ep,k _ _ (.inl rfl) e,c⟩
 |dT kvs=>
  obtain⟨z,y,xs,r,ob,es,ep,e,c⟩:=x;exact⟨z,y,xs,Paired.aD r λp q z=>⟨z.1,ht _ _ z.2.1,z.2.2⟩,ob,es,ep,k _ _ (.inl rfl) e,c⟩
 |set S n=>obtain⟨ob,es,ep,t,e,c⟩:=x;exact⟨ob,es,ep,t,k _ _ (.inl rfl) e,c⟩
 |ins C dx fs=>
  obtain⟨d,z,ne,e,mA,⟨od,es,ep,e2,c⟩,r⟩:=x;exact⟨ho _ d,z,ne,k _ _ (.inl rfl) e,mA,⟨od,es,ep,k _ _ (.inr d) e2,c⟩,r⟩
 |own y=>obtain⟨ob,e⟩:=x;exact⟨ob,k _ _ (.inl rfl) e⟩
 |xd fs=>obtain⟨mA,⟨od,es,ep,e,c⟩,r⟩:=x;exact⟨mA,⟨od,es,ep,k _ _ (.inl rfl) e,c⟩,r⟩
 |rng lo hi=>obtain⟨t,u,v,e⟩:=x;exact⟨t,u,v,k _ _ (.inl rfl) e⟩
 |frz ob u ih=>obtain⟨e,q⟩:=x;exact⟨k _ _ (.inl rfl) e,ih q⟩
 |tbl ps=>
  have e:h.get? a=Qa {cls:=.none,data:=.fields ps}:=x;exact k a _ (.inl rfl) e
 |met f y=>
  have e:=x;exact k a _ (.inl rfl) e
 |ext φ=>obtain⟨p,⟨o,e⟩,st⟩:=x;exact⟨st _ _ p λo q=>k _ _ (.inl rfl) q,⟨o,k _ _ (.inl rfl) e⟩,st⟩
theorem zW.lt(x:zW P w H h)(e:H a=Qa o):a<h.objs.size:=(x a o e).lt
def zW.fresh(x:zW P w H h)(e:h.objs.size<=a):H a=Qg:=by
 cases q:H a with
 |none=>rfl
 |some u=>exact absurd (QF (x.lt q) e) (Jv _)
def zW.kept(x:zW P w H h)(k:∀b u,h.get? b=Qa u->h'.get? b=Qa u):zW P w H h':=λa o e=>
 (x a o e).xZ (λb u _ q=>k b u q) (λ_ q=>q) λ_ _ q=>q
def zW.laid(x:zW P w H h)(k:∀b u,h.get? b=Qa u->h'.get? b=Qa u)(hp:h.objs.size<=a)(new:jd P w (upd H a o) h' a o):zW P w (upd H a o) h':=λb u e=>by
 have hn:=x.fresh hp
 by_cases hb:b=a
 .subst hb;rw[zr]at e;cases e;exact new
 .rw[qY hb]at e;exact(x b u e).xZ (λc v _ q=>k c v q) (λc q=>by rw[qY (jJ q hn)];exact q) λc xs q=>by rw[qY (jJ q hn)];exact q
end
def Rd(H:Hp)(a:Addr)(u:HO):Prop:=H a=Qa u\/∃o,H a=Qa (.frz o u)
def Rd.ok{H:Hp}{u:HO}(r:Rd H a u)(x:zW P w H h):jd P w H h a u:=by
 rcases r with r|⟨o,r⟩
 .exact x a u r
 .obtain⟨_,q⟩:=x a _ r;exact q
def Ff:Option HO->Prop
 |some (.q6 _)=>True
 |some (.dK _)=>True
 |some (.dT _)=>True
 |some (.set _ _)=>True
 |some (.ins _ _ _)=>True
 |some (.ext _)=>True
 |_=>False
section
variable{H:Hp}{x:Addr}{o':HO}
def zW.write(ok:zW P w H h)(mu:Ff (H x))(he:e=x\/H e=Qa (.own x))(k:∀b u,b≠e->h.get? b=Qa u->h'.get? b=Qa u)(P7:∃u,h'.get? e=Qa u)
  (new:jd P w (upd H x o') h' x o'):zW P w (upd H x o') h':=λb u q=>by
 have sD:∀c y,H c=Qa (.own y)->c≠x:=λc y r z=>by subst z;rw[r]at mu;exact mu
 have q6c:∀c xs,H c=Qa (.qA xs)->c≠x:=λc xs r z=>by subst z;rw[r]at mu;exact mu
 by_cases hb:b=x
 .subst hb;rw[zr]at q;cases q;exact new
 .rw[qY hb]at q
  by_cases Td:b=e
  .have q':H b=Qa (.own x):=by
    rcases he with z|z
    .exact absurd (Td.trans z) hb
    .rw[Td];exact z
   rw[q]at q';cases q';obtain⟨v,hv⟩:=P7;exact⟨v,by rw[Td];exact hv⟩
  .refine (ok b u q).xZ (λc v hc r=>k c v ?_ r) (λc r=>by rw[qY (sD c b r)];exact r) λc xs r=>by rw[qY (q6c c xs r)];exact r
   rcases hc with rfl|hc
   .exact Td
   .rintro rfl;rcases he with z|z
    .exact sD c b hc z
    .rw[hc]at z;cases z;exact hb rfl
end
structure Un(fs ex:List Addr)(H H':Hp)(h h':Heap):Prop where
 keep:∀b o,h.get? b=Qa o->H b=Qg->b∉fs->b∉ex->h'.get? b=Qa o
 slot:∀b o,h.get? b=Qa o->H b=Qg->b∈fs->b∉ex->∃sl,h'.get? b=Qa {o with slots:=sl}
 free:∀b o,h.get? b=Qa o->H b=Qg->b∉ex->H' b=Qg
 there:∀b o,h.get? b=Qa o->b∉ex->∃o',h'.get? b=Qa o'
 yq:∀b xs,H b=Qa (.qA xs)->H' b=Qa (.qA xs)
 wq:∀b o u,H b=Qa (.frz o u)->H' b=Qa (.frz o u)
 yp:∀b ps,H b=Qa (.tbl ps)->∃more,H' b=Qa (.tbl (ps++more))
section
variable{fs fs' ex ex':List Addr}{H H1 H2:Hp}{h1 h2:Heap}{x:Addr}{o:HO}
def Un.any(u:Un fs ex H H1 h h1){b:Addr}{ob:Obj}(q:h.get? b=Qa ob)(n:H b=Qg)(hx:b∉ex):∃sl,h1.get? b=Qa {ob with slots:=sl}:=by
 by_cases hb:b∈fs
 .exact u.slot b ob q n hb hx
 .exact⟨ob.slots,u.keep b ob q n hb hx⟩
def Un.kept(k:∀b u,h.get? b=Qa u->h'.get? b=Qa u):Un fs ex H H h h':=
 ⟨λb ob q _ _ _=>k b ob q,λb ob q _ _ _=>⟨ob.slots,k b ob q⟩,λ_ _ _ n _=>n,λb ob q _=>⟨ob,k b ob q⟩,λ_ _ q=>q,λ_ _ _ q=>q,λ_ ps q=>⟨#[],by rw[q];simp⟩⟩
def Un.refl:Un fs ex H H h h:=Un.kept λ_ _ q=>q
def Un.laid(k:∀b u,h.get? b=Qa u->h'.get? b=Qa u)(hp:h.objs.size<=a)(hn:H a=Qg):Un fs ex H (upd H a o) h h' where
 keep:=λb u q _ _ _=>k b u q
 slot:=λb u q _ _ _=>⟨u.slots,k b u q⟩
 free:=λb u q n _=>by rw[qY (QK (QF (Qu q) hp))];exact n
 there:=λb u q _=>⟨u,k b u q⟩
 yq:=λb xs q=>by rw[qY (jJ q hn)];exact q
 wq:=λb u xs q=>by rw[qY (jJ q hn)];exact q
 yp:=λb ps q=>⟨#[],by rw[qY (jJ q hn),q];simp⟩
def Un.write(mu:Ff (H x))(he:e=x\/H e=Qa (.own x))(k:∀b u,b≠e->h.get? b=Qa u->h'.get? b=Qa u)(P7:∃u,h'.get? e=Qa u):Un fs ex H (upd H x o) h h':=by
 have hx:∀b,H b=Qg->b≠x:=λb n z=>by subst z;rw[n]at mu;exact mu
 have hb:∀b,H b=Qg->b≠e:=λb n z=>by
  subst z;rcases he with r|r
  .exact hx b n r
  .rw[n]at r;cases r
 have hm:∀b u,H b=Qa u->¬Ff (Qa u)->b≠x:=λb u q nm z=>by subst z;rw[q]at mu;exact nm mu
 refine⟨λb u q n _ _=>k b u (hb b n) q,λb u q n _ _=>⟨u.slots,k b u (hb b n) q⟩,λb u q n _=>by rw[qY (hx b n)];exact n,λb u q _=>?_,
  λb xs q=>by rw[qY (hm b _ q λz=>z)];exact q,λb u xs q=>by rw[qY (hm b _ q λz=>z)];exact q,λb ps q=>⟨#[],by rw[qY (hm b _ q λz=>z),q];simp⟩⟩
 by_cases Td:b=e
 .subst Td;exact P7
 .exact⟨u,k b u Td q⟩
end
noncomputable def c8(h:Heap)(H:Hp):List Addr:=(Qt h.objs.size).filter λa=>(H a).isSome
def ue(h:Heap)(H:Hp):Heap:=PySem.W.hideAll h (c8 h H)
def q4K(h:Heap)(H:Hp):(ue h H).objs.size=h.objs.size:=PySem.W.hideAll_size _ _
def q4J{H:Hp}{b:Addr}(e:h.get? b=Qa o)(n:H b=Qg):(ue h H).get? b=Qa o:=
 Z9 _ e λhm=>by have q:=(QO.mp hm).2;rw[n]at q;simp at q
def q6f{H:Hp}{b:Addr}(e:(ue h H).get? b=Qa o):h.get? b=Qa o/\H b=Qg:=by
 have e':=FJ (c8 h H) e;refine⟨e',?_⟩;cases q:H b with
 |none=>rfl
 |some x=>
  have z:(ue h H).get? b=Qg:=ZX (c8 h H) (QO.mpr ⟨QN.mpr (Qu e'),by simp[q]⟩);rw[z]at e;cases e
structure Mod(K:QL)(mg:Str->Option Value)(base:Heap):Prop where
 xP:K.In base
 glob:base.Ns mainGlobals mg
 blt:∃mb,base.Ns builtinsNs mb/\∀x:Str,x≠"__name__"->mb x=bootBuiltins x
 nolimit:base.NoLimit
structure Cx where
 prog:Program
 w:World
 K:QL
 mg:Str->Option Value
 base:Heap
 A:Around
 N:List Str
 s₀:Shared
 H₀:Hp
 env:Env
 outer:List Env
 stack:List Env
 ex:List Addr
 fn:Str->Bool
 calm:Bool
 pn:List (Addr×Obj)
 xe:NZ
noncomputable def zy(l:List Env):List Addr:=l.filterMap (·.frame)
abbrev Cx.fs(X:Cx):List Addr:=zy X.outer
def kA(sc:Scope)(x:Str):Prop:=sc.names.lookup x=Qa .local\/sc.names.lookup x=Qa .cell\/sc.names.lookup x=Qa .free
def Loc(sc:Scope)(x:Str):Prop:=sc.names.lookup x=Qa .local\/sc.names.lookup x=Qa .cell
def Look(env:Env)(h:Heap)(m:Str->Option Value)(x:Str)(u:Value):Prop:=
 (env.kindOf x=Qa .local/\m x=Qa u)\/((env.kindOf x=Qa .cell\/env.kindOf x=Qa .free)/\∃c,env.cells.lookup x=Qa c/\h.IsCell c (Qa u))
structure Cx.Ok(X:Cx):Prop where
 mod:Mod X.K X.mg X.base
 kind:X.env.scope.kind=.function
 glob:X.env.globals=mainGlobals
 blt:X.env.builtins=builtinsNs
 above:X.s₀.heap.objs.size<=X.env.locals
 inj:∀x y c,X.env.cells.lookup x=Qa c->X.env.cells.lookup y=Qa c->x=y
 has:∀x,(X.env.kindOf x=Qa .cell\/X.env.kindOf x=Qa .free)->∃c,X.env.cells.lookup x=Qa c
 XE:∀x c,X.fn x=Qd->X.env.cells.lookup x=Qa c->X.s₀.heap.objs.size<=c
 hd:X.calm=Qd->X.A.handled=Qg
 frames:X.A.frames=Qa X.stack
 vL:X.stack=X.outer\/(X.stack=X.env::X.outer/\X.env.frame=Qa X.env.locals)
 DB:∀b∈X.ex,b≠X.env.locals/\∀x c,X.env.cells.lookup x=Qa c->c≠b
 bs:∀b o,X.base.get? b=Qa o->X.s₀.heap.get? b=Qa o/\X.H₀ b=Qg
 yY:X.base.objs.size<=X.s₀.heap.objs.size
 Xj:∀b o,X.base.get? b=Qa o->b∉X.ex
 TU:∀b∈X.ex,b∉X.fs
 funs:X.s₀.heap.FunFrames X.base X.outer
 xq:∀b∈X.fs,X.H₀ b=Qg
structure Inv(X:Cx)(pins:List (Addr×Obj))(Y:List (Option V))(H:Hp)(s:Shared):Prop where
 ok:X.Ok
 os:s.os=X.s₀.os
 bare:AllBare s.gens
 base:Un X.fs X.ex X.H₀ H X.s₀.heap s.heap
 loc:∃m,s.heap.Ns X.env.locals m/\∀(i:Nat)(x:Str)(v:V),X.N[i]?=Qa x->Y[i]?=Qa (Qa v)->kA X.env.scope x->∃u,RelV v u/\Look X.env s.heap m x u
 cell:∀x c,X.env.cells.lookup x=Qa c->∃v,s.heap.IsCell c v
 free:H X.env.locals=Qg
 kB:∀x c,X.env.cells.lookup x=Qa c->H c=Qg
 pin:∀p∈X.pn++pins,s.heap.get? p.1=Qa p.2/\H p.1=Qg/\p.1≠X.env.locals/\p.1∉X.fs/\∀v,p.2.data≠.cell v
 qI:zW X.prog X.w H s.heap
 len:Y.length=X.N.length
section
variable{X:Cx}{Y:List (Option V)}{H H':Hp}
def Cx.Ok.q6U(ok:X.Ok){b:Addr}(e:X.base.get? b=Qa o):b∉X.fs:=λhb=>by have:=(ok.funs.mem hb).1;rw[e]at this;cases this
theorem Inv.bs(I:Inv X pins Y H s):∀b o,X.base.get? b=Qa o->s.heap.get? b=Qa o/\H b=Qg:=λb o e=>
 ⟨I.base.keep b o (I.ok.bs b o e).1 (I.ok.bs b o e).2 (I.ok.q6U e) (I.ok.Xj b o e),I.base.free b o (I.ok.bs b o e).1 (I.ok.bs b o e).2 (I.ok.Xj b o e)⟩
def Inv.bk(I:Inv X pins Y H s):∀b o,X.base.get? b=Qa o->s.heap.get? b=Qa o:=λb o e=>(I.bs b o e).1
theorem Inv.mod(I:Inv X pins Y H s):Mod X.K X.mg X.base:=I.ok.mod
def Inv.vU(I:Inv X pins Y H s):X.K.In s.heap:=I.ok.mod.xP.keeps I.bk
def Inv.fr(I:Inv X pins Y H s):∃m,Fr X.base X.env.locals s.heap m:=
 let⟨m,hn,_⟩:=I.loc
 ⟨m,hn,I.bk,Qx I.ok.yY I.ok.above⟩
theorem Inv.lt(I:Inv X pins Y H s):X.env.locals<s.heap.objs.size:=let⟨_,hn,_⟩:=I.loc;hn.lt
def Inv.sz(I:Inv X pins Y H s):X.s₀.heap.objs.size<=s.heap.objs.size:=Qx I.ok.above (UB I.lt)
def Inv.q6W(I:Inv X pins Y H s)(h:s.heap.objs.size<=a):a∉X.fs:=λhb=>by obtain⟨_,o,ho,_⟩:=I.ok.funs.mem hb;exact absurd (QF (Qu ho) (Qx I.sz h)) (Jv _)
def Inv.yx(I:Inv X pins Y H s):∀x c,X.env.cells.lookup x=Qa c->c≠X.env.locals:=λx c e z=>by obtain⟨v,o,ho,hd⟩:=I.cell x c e;obtain⟨m,⟨o',es,ep,vm,wM,_⟩,_⟩:=I.loc;rw[z,vm]at ho;cases ho;rw[wM]at hd;cases hd
theorem Inv.funs(I:Inv X pins Y H s):s.heap.FunFrames X.base X.outer:=by
 have all:∀(l:List Env),(∀b∈zy l,b∈X.fs)->X.s₀.heap.FunFrames X.base l->s.heap.FunFrames X.base l:=by
  intro l
  induction l with
  |nil=>intro _ _;trivial
  |cons env r ih=>
   intro hs hl;obtain⟨hk,⟨L,o,hf,hn,ho,hd⟩,hr⟩:=hl;have hL:=hs L (by unfold zy;rw[JC,hf];exact Qe);obtain⟨sl,e⟩:=I.base.slot L o ho (I.ok.xq L hL) hL λz=>I.ok.TU L z hL;exact⟨hk,⟨L,_,hf,hn,e,hd⟩,ih (λb hb=>hs b (by unfold zy;rw[JC,hf];exact Qc _ hb)) hr⟩
 exact all X.outer (λ_ hb=>hb) I.ok.funs
theorem Inv.stack(I:Inv X pins Y H s):s.heap.FunFrames X.base X.stack:=by
 rcases I.ok.vL with e|⟨e,hf⟩
 .rw[e];exact I.funs
 .rw[e];obtain⟨m,hn,_⟩:=I.loc;refine .cons (by rw[I.ok.kind];decide) hf hn ?_ I.funs;exact Heap.get?_none_of_le (Qx I.ok.yY I.ok.above)
def Inv.X5(I:Inv X pins Y H s):∀b∈zy X.stack,b∈X.env.locals::X.fs:=λb hb=>by
 rcases I.ok.vL with e|⟨e,hf⟩
 .rw[e]at hb;exact Qc _ hb
 .rw[e]at hb;unfold zy at hb;rw[JC,hf]at hb;exact hb
def Inv.bq(I:Inv X pins Y H s):∀b∈zy X.stack,H b=Qg:=λb hb=>by
 rcases Qo.mp (I.X5 b hb)with e|hb
 .rw[e];exact I.free
 .obtain⟨_,o,ho,_⟩:=I.ok.funs.mem hb;exact I.base.free b o ho (I.ok.xq b hb) λz=>I.ok.TU b z hb
def Inv.step{g':Array GenState}{t':Nat}{d':Drawn}(I:Inv X pins Y H s)
  (xu:∀b∈ch,(b∈X.ex\/X.s₀.heap.objs.size<=b)/\b≠X.env.locals/\(∀x c,X.env.cells.lookup x=Qa c->c≠b)/\∀p∈X.pn++pins,p.1≠b)
  (keep:∀b o,b≠X.env.locals->b∉X.fs->b∉ch->s.heap.get? b=Qa o->H b=Qg->h'.get? b=Qa o)
  (slot:∀b o,b≠X.env.locals->b∈X.fs->b∉ch->s.heap.get? b=Qa o->H b=Qg->∃sl,h'.get? b=Qa {o with slots:=sl}) (free:∀b o,b∉ch->s.heap.get? b=Qa o->H b=Qg->H' b=Qg)
  (there:∀b o,b∉ch->s.heap.get? b=Qa o->∃o',h'.get? b=Qa o')
  (yq:∀b xs,H b=Qa (.qA xs)->H' b=Qa (.qA xs)) (wq:∀b o u,H b=Qa (.frz o u)->H' b=Qa (.frz o u)) (yp:∀b ps,H b=Qa (.tbl ps)->∃more,H' b=Qa (.tbl (ps++more)))
  (ns:∀m,s.heap.Ns X.env.locals m->h'.Ns X.env.locals m) (qI:zW X.prog X.w H' h') (hg:AllBare g'):
  Inv X pins Y H' {s with heap:=h',gens:=g',drawn:=d',toks:=t'}:=by
 have rW:∀b o,X.s₀.heap.get? b=Qa o->b≠X.env.locals:=λb o e=>QK (QF (Qu e) I.ok.above);have AD:∀b o,X.s₀.heap.get? b=Qa o->b∉X.ex->b∉ch:=λb o e hx hb=>by
  rcases(xu b hb).1 with z|z
  .exact hx z
  .exact absurd (QF (Qu e) z) (Jv _)
 have Ft:∀x c,X.env.cells.lookup x=Qa c->∀v,s.heap.IsCell c v->h'.IsCell c v:=λx c e v⟨o,ho,hd⟩=>by
  have CC:c∉ch:=λz=>(xu c z).2.2.1 x c e rfl
  by_cases hc:c∈X.fs
  .obtain⟨sl,q⟩:=slot c o (I.yx x c e) hc CC ho (I.kB x c e);exact⟨_,q,hd⟩
  .exact⟨o,keep c o (I.yx x c e) hc CC ho (I.kB x c e),hd⟩
 refine⟨I.ok,I.os,hg,⟨λb o e n hb hx=>?_,λb o e n hb hx=>?_,λb o e n hx=>?_,λb o e hx=>?_,λb xs e=>yq b xs (I.base.yq b xs e),λb o xs e=>wq b o xs (I.base.wq b o xs e),λb ps e=>?_⟩,?_,λx c e=>?_,?_,λx c e=>?_,λp hp=>?_,qI,I.len⟩
 .exact keep b o (rW b o e) hb (AD b o e hx) (I.base.keep b o e n hb hx) (I.base.free b o e n hx)
 .obtain⟨sl,e1⟩:=I.base.slot b o e n hb hx;obtain⟨bQ,e2⟩:=slot b _ (rW b o e) hb (AD b o e hx) e1 (I.base.free b o e n hx);exact⟨bQ,e2⟩
 .obtain⟨o',e1⟩:=I.base.there b o e hx;exact free b o' (AD b o e hx) e1 (I.base.free b o e n hx)
 .obtain⟨o',e1⟩:=I.base.there b o e hx;exact there b o' (AD b o e hx) e1
 .obtain⟨m1,e1⟩:=I.base.yp b ps e;obtain⟨m2,e2⟩:=yp b _ e1;exact⟨m1++m2,by rw[e2,Array.append_assoc]⟩
 .refine qR I.loc λm hn hl=>?_;refine⟨m,ns m hn,λi x v e1 e2 e3=>?_⟩;obtain⟨u,r,l⟩:=hl i x v e1 e2 e3;refine⟨u,r,?_⟩;rcases l with l|⟨k,c,e,z⟩
  .exact .inl l
  .exact .inr ⟨k,c,e,Ft x c e _ z⟩
 .obtain⟨v,z⟩:=I.cell x c e;exact⟨v,Ft x c e v z⟩
 .obtain⟨m,⟨o,_,_,ho,_⟩,_⟩:=I.loc;exact free _ o (λz=>(xu _ z).2.1 rfl) ho I.free
 .obtain⟨v,o,ho,hd⟩:=I.cell x c e;exact free c o (λz=>(xu c z).2.2.1 x c e rfl) ho (I.kB x c e)
 .refine yz (I.pin p hp) λe n ne nf d=>?_;have CC:p.1∉ch:=λz=>(xu p.1 z).2.2.2 p hp rfl;exact⟨keep p.1 p.2 ne nf CC e n,free p.1 p.2 CC e n,ne,nf,d⟩
def Inv.un{t':Nat}(I:Inv X pins Y H s)(u:Un X.fs [] H H' s.heap h')(qI:zW X.prog X.w H' h'):Inv X pins Y H' {s with heap:=h',toks:=t'}:=by
 obtain⟨m,⟨o,es,ep,ho,r⟩,_⟩:=id I.loc;obtain⟨sl,hL⟩:=u.any ho I.free (by simp);exact I.step (g':=s.gens) (d':=s.drawn) (ch:=[]) (λ_ z=>nomatch z) (λb o _ hb _ e n=>u.keep b o e n hb (by simp)) (λb o _ hb _ e n=>u.slot b o e n hb (by simp)) (λb o _ e n=>u.free b o e n (by simp)) (λb o _ e=>u.there b o e (by simp)) u.yq u.wq u.yp (λm' hm=>by obtain⟨o',zX,wm,vm,r'⟩:=hm;rw[ho]at vm;cases vm;exact⟨_,zX,wm,hL,r'⟩) qI I.bare
def Inv.call{t':Nat}{d':Drawn}(I:Inv X pins Y H s)(u:Un (zy X.stack) ch H H' s.heap h')(qI:zW X.prog X.w H' h')(hg:AllBare g')
  (xu:∀b∈ch,(b∈X.ex\/X.s₀.heap.objs.size<=b)/\b≠X.env.locals/\(∀x c,X.env.cells.lookup x=Qa c->c≠b)/\∀p∈X.pn++pins,p.1≠b):
  Inv X pins Y H' {s with heap:=h',gens:=g',drawn:=d',toks:=t'}:=by
 obtain⟨m,⟨o,es,ep,ho,r⟩,_⟩:=id I.loc;obtain⟨sl,hL⟩:=u.any ho I.free λz=>(xu _ z).2.1 rfl;exact I.step (ch:=ch) xu (λb o hL hb hc e n=>u.keep b o e n (λz=>(Qo.mp (I.X5 b z)).elim hL hb) hc) (λb o _ _ hc e n=>u.any e n hc) (λb o hc e n=>u.free b o e n hc) (λb o hc e=>u.there b o e hc) u.yq u.wq u.yp (λm' hm=>by obtain⟨o',zX,wm,vm,r'⟩:=hm;rw[ho]at vm;cases vm;exact⟨_,zX,wm,hL,r'⟩) qI hg
def Inv.turned{t':Nat}(I:Inv X pins Y H s)(k:∀b o,b≠it->s.heap.get? b=Qa o->h'.get? b=Qa o)(hn:H it=Qg)(hL:it≠X.env.locals)
  (h1:it∈X.ex\/X.s₀.heap.objs.size<=it) (h2:∀x c,X.env.cells.lookup x=Qa c->c≠it) (h3:∀p∈X.pn++pins,p.1≠it):Inv X pins Y H {s with heap:=h',toks:=t'}:=by
 have rj:∀b u,H b=Qa u->b≠it:=λb u e z=>by rw[z,hn]at e;cases e
 refine I.step (g':=s.gens) (d':=s.drawn) (ch:=[it]) (λb hb=>?_) (λb o _ _ hc e _=>k b o (λz=>hc (by simp[z])) e) (λb o _ _ hc e _=>⟨o.slots,k b o (λz=>hc (by simp[z])) e⟩) (λ_ _ _ _ n=>n)
  (λb o hc e=>⟨o,k b o (λz=>hc (by simp[z])) e⟩) (λ_ _ e=>e) (λ_ _ _ e=>e) (λb ps e=>⟨#[],by rw[e];simp⟩) (λm hm=>?_) (λb u e=>?_) I.bare
 .have e:b=it:=by simpa using hb
  subst e;exact⟨h1,hL,h2,h3⟩
 .obtain⟨o,es,ep,ho,r⟩:=hm;exact⟨o,es,ep,k _ o (JQ hL) ho,r⟩
 .refine (I.qI b u e).xZ (λc v hc q=>k c v ?_ q) (λ_ q=>q) λ_ _ q=>q;rcases hc with z|z
  .rw[z];exact rj b u e
  .exact rj c _ z
def Inv.tok(I:Inv X pins Y H s)(t:Nat):Inv X pins Y H {s with toks:=t}:=I.un Un.refl I.qI
theorem Inv.kept{t':Nat}(I:Inv X pins Y H s)(k:∀b u,s.heap.get? b=Qa u->h'.get? b=Qa u):Inv X pins Y H {s with heap:=h',toks:=t'}:=I.un (Un.kept k) (I.qI.kept k)
theorem Inv.laid{o:HO}{t':Nat}(I:Inv X pins Y H s)(k:∀b u,s.heap.get? b=Qa u->h'.get? b=Qa u)(hp:s.heap.objs.size<=a)(new:jd X.prog X.w (upd H a o) h' a o):
  Inv X pins Y (upd H a o) {s with heap:=h',toks:=t'}:=I.un (Un.laid k hp (I.qI.fresh hp)) (I.qI.laid k hp new)
theorem Inv.write{x:Addr}{o:HO}{t':Nat}(I:Inv X pins Y H s)(mu:Ff (H x))(he:e=x\/H e=Qa (.own x))(k:∀b u,b≠e->s.heap.get? b=Qa u->h'.get? b=Qa u)(P7:∃u,h'.get? e=Qa u)
  (new:jd X.prog X.w (upd H x o) h' x o):Inv X pins Y (upd H x o) {s with heap:=h',toks:=t'}:=I.un (Un.write mu he k P7) (I.qI.write mu he k P7 new)
def Inv.weak{Y':List (Option V)}(I:Inv X pins Y H s)(hl:Y'.length=Y.length)(w:∀(i:Nat) v,Y'[i]?=Qa (Qa v)->Y[i]?=Qa (Qa v)):Inv X pins Y' H s:=
 ⟨I.ok,I.os,I.bare,I.base,let⟨m,hn,Ts⟩:=I.loc;⟨m,hn,λi x v e1 e2 e3=>Ts i x v e1 (w i v e2) e3⟩,I.cell,I.free,I.kB,I.pin,I.qI,hl.trans I.len⟩
def Inv.Pw{sZ:List (Addr×Obj)}(I:Inv X pins Y H s)(h:∀p∈sZ,s.heap.get? p.1=Qa p.2/\H p.1=Qg/\p.1≠X.env.locals/\p.1∉X.fs/\∀v,p.2.data≠.cell v):Inv X sZ Y H s:=
 ⟨I.ok,I.os,I.bare,I.base,I.loc,I.cell,I.free,I.kB,λp hp=>(QA.mp hp).elim (λz=>I.pin p (QD _ z)) (h p),I.qI,I.len⟩
def ak(hN:N.Nodup)(a:N[i]?=Qa x)(b:N[j]?=Qa x):i=j:=by obtain⟨h1,e1⟩:=Qj.mp a;obtain⟨h2,e2⟩:=Qj.mp b;exact(List.getElem_inj hN).mp (e1.trans e2.symm)
def qA1{M:Model}{A:Around}{E:NZ}{v:V}{Q:Unit->Shared->Prop}(I:Inv X pins Y H s)(hN:X.N.Nodup)(hi:X.N[i]?=Qa x)(hx:Loc X.env.scope x)(r:RelV v u)
  (h:∀s',Inv X pins (Y.set i (Qa v)) H s'->(∃a,JE a s.heap s'.heap/\(a=X.env.locals\/X.env.cells.lookup x=Qa a))->Q () s') (hf:X.fn x=Qd\/X.env.scope.names.lookup x=Qa .local):wpAny M A (storeName X.env x u) Q E s:=by
 obtain⟨m,hn,hl⟩:=id I.loc;have hiσ:i<Y.length:=by rw[I.len];exact(Qj.mp hi).1
 have yx:=I.yx;have q0q:∀{a:Addr}{h':Heap},(∃o,s.heap.get? a=Qa o/\H a=Qg)->JE a s.heap h'->zW X.prog X.w H h':=λ{a h'} ha hs b ob e=>by
  obtain⟨_,_,mB⟩:=ha;refine(I.qI b ob e).xZ (λc w' hc q=>(hs.2 c ?_).trans q) (λ_ q=>q) λ_ _ q=>q;rintro rfl;rcases hc with rfl|hc
  .rw[mB]at e;cases e
  .rw[mB]at hc;cases hc
 rcases hx with hk|hk
 .refine wpAny_storeName_local hk hn (λh' DT hs=>?_) (by rw[I.ok.kind];rfl);obtain⟨oL,_,_,mS,_⟩:=id hn;refine h _ ⟨I.ok,I.os,I.bare,⟨λb o e n hb hx=>?_,λb o e n hb hx=>?_,I.base.free,λb o e hx=>?_,I.base.yq,I.base.wq,I.base.yp⟩,⟨_,DT,λj y v' e1 e2 e3=>?_⟩,λy c e=>?_,I.free,I.kB,λp hp=>?_,q0q ⟨oL,mS,I.free⟩ hs,by simpa using I.len⟩ ⟨_,hs,.inl rfl⟩
  .exact (hs.2 b (QK (QF (Qu e) I.ok.above))).trans (I.base.keep b o e n hb hx)
  .obtain⟨sl,e1⟩:=I.base.slot b o e n hb hx;exact⟨sl,(hs.2 b (QK (QF (Qu e) I.ok.above))).trans e1⟩
  .obtain⟨o',e1⟩:=I.base.there b o e hx;exact⟨o',(hs.2 b (QK (QF (Qu e) I.ok.above))).trans e1⟩
  .by_cases hj:j=i
   .subst hj;rw[hi]at e1;cases e1;rw[Yd hiσ]at e2;cases e2;exact⟨u,r,.inl ⟨hk,by simp⟩⟩
   .rw[Yp (JQ hj)]at e2;obtain⟨u',r',q⟩:=hl j y v' e1 e2 e3;refine⟨u',r',?_⟩;rcases q with⟨k,e⟩|⟨k,c,e,z⟩
    .refine .inl ⟨k,?_⟩;have:y≠x:=λe=>hj (ak hN e1 (e▸hi));simp[this,e]
    .exact .inr ⟨k,c,e,z.sameBut hs (yx y c e)⟩
  .obtain⟨w',z⟩:=I.cell y c e;exact⟨w',z.sameBut hs (yx y c e)⟩
  .refine yz (I.pin p hp) λe n ne nf d=>?_;exact⟨(hs.2 p.1 ne).trans e,n,ne,nf,d⟩
 .have G7:X.fn x=Qd:=by
   rcases hf with z|z
   .exact z
   .rw[z]at hk;cases hk
  obtain⟨c,hc⟩:=I.ok.has x (.inl hk);obtain⟨w',z⟩:=I.cell x c hc;refine wpAny_storeName_cell I.ok.kind hk hc z (λh' uZ hs=>?_);obtain⟨oc,mT,q4R⟩:=id z;refine h {s with heap:=h'} ⟨I.ok,I.os,I.bare,⟨λb o e n hb hx=>?_,λb o e n hb hx=>?_,I.base.free,λb o e hx=>?_,I.base.yq,I.base.wq,I.base.yp⟩,⟨m,hn.sameBut hs (JQ (yx x c hc)),λj y v' e1 e2 e3=>?_⟩,λy c' e=>?_,I.free,I.kB,λp hp=>?_,q0q ⟨oc,mT,I.kB x c hc⟩ hs,by simpa using I.len⟩ ⟨c,hs,.inr hc⟩
  .exact (hs.2 b (QK (QF (Qu e) (I.ok.XE x c G7 hc)))).trans (I.base.keep b o e n hb hx)
  .obtain⟨sl,e1⟩:=I.base.slot b o e n hb hx;exact⟨sl,(hs.2 b (QK (QF (Qu e) (I.ok.XE x c G7 hc)))).trans e1⟩
  .obtain⟨o',e1⟩:=I.base.there b o e hx;exact⟨o',(hs.2 b (QK (QF (Qu e) (I.ok.XE x c G7 hc)))).trans e1⟩
  .by_cases hj:j=i
   .subst hj;rw[hi]at e1;cases e1;rw[Yd hiσ]at e2;cases e2;exact⟨u,r,.inr ⟨.inl hk,c,hc,uZ⟩⟩
   .rw[Yp (JQ hj)]at e2;obtain⟨u',r',q⟩:=hl j y v' e1 e2 e3;refine⟨u',r',?_⟩;rcases q with q|⟨k,c',e,z'⟩
    .exact .inl q
    .refine .inr ⟨k,c',e,z'.sameBut hs ?_⟩;rintro rfl;exact hj (ak hN e1 (I.ok.inj _ _ _ e hc▸hi))
  .by_cases OH:c'=c
   .subst OH;exact⟨_,uZ⟩
   .obtain⟨w2,z2⟩:=I.cell y c' e;exact⟨w2,z2.sameBut hs OH⟩
  .refine yz (I.pin p hp) λe n ne nf d=>?_;refine⟨(hs.2 p.1 ?_).trans e,n,ne,nf,d⟩;intro q;rw[q,mT]at e;exact d w' (by rw[<-(QY e)];exact q4R)
def wY{M:Model}{A:Around}{E:NZ}{v:V}{Q:Unit->Shared->Prop}(I:Inv X pins Y H s)(hN:X.N.Nodup)(hi:X.N[i]?=Qa x)(hx:Loc X.env.scope x)(r:RelV v u)
  (h:∀s',Inv X pins (Y.set i (Qa v)) H s'->Q () s') (hf:X.fn x=Qd\/X.env.scope.names.lookup x=Qa .local):wpAny M A (storeName X.env x u) Q E s:=
 qA1 I hN hi hx r (λs' I' _=>h s' I') hf
def Inv.L4(I:Inv X pins Y H s)(ho:s'.os=s.os)(u:Un (zy X.stack) ch H H' s.heap s'.heap)(qI:zW X.prog X.w H' s'.heap)(hg:AllBare s'.gens)
  (xu:∀b∈ch,(b∈X.ex\/X.s₀.heap.objs.size<=b)/\b≠X.env.locals/\(∀x c,X.env.cells.lookup x=Qa c->c≠b)/\∀p∈X.pn++pins,p.1≠b):Inv X pins Y H' s':=by
 obtain⟨h',g',d',t',o'⟩:=s';have e:=ho;subst e;exact I.call u qI hg xu
end
abbrev XK:=Value->Option Addr->Hp->Prop
abbrev St:=List (Option V)
abbrev VK:=V->Hp->Prop
def EP(X:Cx)(pins:List (Addr×Obj))(Y:St)(Q:VK)(u:Value)(s':Shared):Prop:=∃v H',Inv X pins Y H' s'/\RelV v u/\Q v H'
def TP(X:Cx)(pins:List (Addr×Obj))(Y:St)(Q:Bool->Hp->Prop)(b:Bool)(s':Shared):Prop:=∃H',Inv X pins Y H' s'/\Q b H'
def Cn{t:Sem α}{Q Q':α->Shared->Prop}(h:wpAny M A t Q E s)(hQ:∀a s,Q a s->Q' a s):wpAny M A t Q' E s:=Qi h hQ λ_ _ x=>x
section
variable{X:Cx}
def Gl(X:Cx)(x:Str):Prop:=X.env.kindOf x=Qa .globalImplicit
def uu{E:NZ}{Y:St}{H:Hp}{pos:Pos}(I:Inv X pins Y H s)(hg:Gl X x)(hm:X.mg x=Qa u)(h:Q u s)
  (hd:(x==("__debug__":Str))=Qh:=by decide):wpAny (model X.prog X.w) X.A (Jw (.Name x pos) X.env) Q E s:=
 Zc I.ok.kind hg (Calls.loadGlobal_global (by rw[I.ok.glob];exact I.mod.glob.keeps I.bk) hm h) hd
def jr{E:NZ}{Y:St}{H:Hp}{pos:Pos}(I:Inv X pins Y H s)(hg:Gl X x)(hm:X.mg x=Qg)(hv:bootBuiltins x=Qa u)(h:Q u s)
  (hn:x≠"__name__":=by decide) (hd:(x==("__debug__":Str))=Qh:=by decide):wpAny (model X.prog X.w) X.A (Jw (.Name x pos) X.env) Q E s:=by
 obtain⟨mb,h1,h2⟩:=I.mod.blt;exact Zc I.ok.kind hg (Calls.loadGlobal_builtin (by rw[I.ok.glob];exact I.mod.glob.keeps I.bk) hm (by rw[I.ok.blt];exact h1.keeps I.bk) ((h2 x hn).trans hv) h) hd
variable{a b:Expr}
variable{tA tB':TT}{rest:List Expr}
end
def qv(K:QL)(H:Hp)(a:Addr)(xs:List V):Prop:=
 Rd H a (.q6 xs)\/
  ∃(o:Obj)(its:Array Value)(n:Nat),K.lookup a=Qa o/\o.cls=.type "list"/\o.dict=Qg/\o.data=.seq its n/\its.size<=QI/\Vals xs its.toList
def zZ(K:QL)(H:Hp)(a:Addr)(xs:List V):Prop:=
 Rd H a (.qA xs)\/
  ∃(o:Obj)(its:Array Value)(n:Nat),K.lookup a=Qa o/\o.cls=.type "tuple"/\o.data=.seq its n/\its.size<=QI/\Vals xs its.toList
noncomputable def q1G:Value->Option V
 |.none=>Qa .qE
 |.bool b=>Qa (.bl b)
 |.int i _=>Qa (.int i)
 |.str x _=>Qa (.str x)
 |.bytes b _=>Qa (.Fp b)
 |.float b _=>Qa (.Lq b)
 |.ref a=>Qa (.ref a)
 |.type n=>Qa (.ty n)
 |_=>Qg
def RelV.abs{x:V}(r:RelV x u):q1G u=Qa x:=by
 cases x with
 |qE=>cases r;rfl
 |bl _=>cases r;rfl
 |int _=>obtain⟨t,rfl⟩:=r;rfl
 |str _=>obtain⟨t,rfl⟩:=r;rfl
 |Fp _=>obtain⟨t,rfl⟩:=r;rfl
 |Lq _=>obtain⟨t,rfl⟩:=r;rfl
 |ref _=>cases r;rfl
 |ty _=>cases r;rfl
def RelV.inj{x y:V}(r:RelV x u)(q:RelV y u):x=y:=QY (r.abs.symm.trans q.abs)
theorem Vals.inj:∀{xs ys:List V}{us:List Value},Vals xs us->Vals ys us->xs=ys
 |_,_,_,.nil,.nil=>rfl
 |_,_,_,.cons r t,.cons r' t'=>by rw[r.inj r',Vals.inj t t']
section
variable{X:Cx}{Y:St}{H:Hp}{xs ys:List V}
def qv.of(h:H a=Qa (.q6 xs)):qv K H a xs:=.inl (.inl h)
def zZ.of(h:H a=Qa (.qA xs)):zZ K H a xs:=.inl (.inl h)
def Inv.list(I:Inv X pins Y H s)(h:qv X.K H a xs):∃its:List Value,Vals xs its/\PlainL s.heap a its.toArray/\xs.length<=QI:=by
 rcases h with h|⟨o,its,n,hk,hc,hd,hs,hz,r⟩
 .obtain⟨z,its,n,r,e⟩:=h.ok I.qI;exact⟨its,r,⟨_,n,e,rfl,rfl,rfl⟩,z⟩
 .refine⟨its.toList,r,⟨o,n,I.vU a o hk,hc,hd,by simpa using hs⟩,?_⟩;have e:=r.length;simp at e;lia
def Inv.tuple(I:Inv X pins Y H s)(h:zZ X.K H a xs):∃its:List Value,Vals xs its/\IsTup s.heap a its.toArray/\xs.length<=QI:=by
 rcases h with h|⟨o,its,n,hk,hc,hs,hz,r⟩
 .obtain⟨z,its,r,p⟩:=h.ok I.qI;exact⟨its,r,p,z⟩
 .refine⟨its.toList,r,⟨o,I.vU a o hk,hc,n,by simpa using hs⟩,?_⟩;have e:=r.length;simp at e;lia
def Inv.ot(I:Inv X pins Y H s)(h:qv X.K H a xs)(h':qv X.K H a ys):xs=ys:=by
 obtain⟨its,r,⟨o,n,e,_,_,d⟩,_⟩:=I.list h;obtain⟨R7,r',⟨o',n',e',_,_,d'⟩,_⟩:=I.list h';rw[e]at e';cases e';rw[d]at d';injection d' with d1 _
 have:its=R7:=by simpa using congrArg Wi d1
 subst this;exact r.inj r'
def Inv.qAL(I:Inv X pins Y H s)(h:zZ X.K H a xs)(h':zZ X.K H a ys):xs=ys:=by
 obtain⟨its,r,⟨o,e,_,n,d⟩,_⟩:=I.tuple h;obtain⟨R7,r',⟨o',e',_,n',d'⟩,_⟩:=I.tuple h';rw[e]at e';cases e';rw[d]at d';injection d' with d1 _
 have:its=R7:=by simpa using congrArg Wi d1
 subst this;exact r.inj r'
end
abbrev Cx.qn(X:Cx)(E:NZ):Cx:={X with xe:=E}
theorem Cx.Ok.qn{X:Cx}(ok:X.Ok)(E:NZ):(X.qn E).Ok:=
 ⟨ok.mod,ok.kind,ok.glob,ok.blt,ok.above,ok.inj,ok.has,ok.XE,ok.hd,ok.frames,ok.vL,ok.DB,ok.bs,ok.yY,ok.Xj,ok.TU,ok.funs,ok.xq⟩
def Cx.Ok.yr{X:Cx}(ok:(X.qn E).Ok):X.Ok:=
 ⟨ok.mod,ok.kind,ok.glob,ok.blt,ok.above,ok.inj,ok.has,ok.XE,ok.hd,ok.frames,ok.vL,ok.DB,ok.bs,ok.yY,ok.Xj,ok.TU,ok.funs,ok.xq⟩
section
variable{X:Cx}{Y:St}{H:Hp}
theorem Inv.qn(I:Inv X pins Y H s)(E:NZ):Inv (X.qn E) pins Y H s:=⟨I.ok.qn E,I.os,I.bare,I.base,I.loc,I.cell,I.free,I.kB,I.pin,I.qI,I.len⟩
theorem Inv.yr(I:Inv (X.qn E) pins Y H s):Inv X pins Y H s:=⟨I.ok.yr,I.os,I.bare,I.base,I.loc,I.cell,I.free,I.kB,I.pin,I.qI,I.len⟩
end
section
variable{X:Cx}{st:Stmt}{rest:List Stmt}{t u:TS}{e:Expr}{te:TE}
def Inv.quiet{Y:St}{H:Hp}(I:Inv X pins Y H s):interactive X.env=Qh:=by simp[interactive,I.ok.kind]
end
abbrev TG:=V->St->Hp->(St->Hp->Prop)->Prop
abbrev T6:=List V->St->Hp->(St->Hp->Prop)->Prop
def PG(X:Cx)(target:Expr)(t:TG):Prop:=
 ∀(pins:List (Addr×Obj))(s:Shared)(Y:St)(H:Hp)(v:V)(u:Value)(Q:St->Hp->Prop),Inv X pins Y H s->RelV v u->t v Y H Q->
  wpAny (model X.prog X.w) X.A (VB target X.env u) (λ_ s'=>∃Y' H',Inv X pins Y' H' s'/\Q Y' H') X.xe s
def E6(X:Cx)(ts:List Expr)(t:T6):Prop:=
 ∀(pins:List (Addr×Obj))(s:Shared)(Y:St)(H:Hp)(vs:List V)(us:List Value)(Q:St->Hp->Prop),Inv X pins Y H s->Vals vs us->t vs Y H Q->
  wpAny (model X.prog X.w) X.A (assignInOrder ((WY ts X.env).map (·.2)) us) (λ_ s'=>∃Y' H',Inv X pins Y' H' s'/\Q Y' H') X.xe s
section
variable{X:Cx}
def q3f(i:Nat):TG:=λv Y H Q=>Q (Y.set i (Qa v)) H
def Ab(hN:X.N.Nodup)(hi:X.N[i]?=Qa x)(hx:Loc X.env.scope x)(hf:X.fn x=Qd\/X.env.scope.names.lookup x=Qa .local):PG X (.Name x pos) (q3f i):=by intro pins s Y H v u Q I r h;exact UL (wY I hN hi hx r (λs' I'=>⟨_,H,I',h⟩) hf)
def q3g:T6:=λvs Y H Q=>vs=[]/\Q Y H
def q3e(t:TG)(u:T6):T6:=λvs Y H Q=>∃v r,vs=v::r/\t v Y H λY' H'=>u r Y' H' Q
def sX:E6 X [] q3g:=by intro pins s Y H vs us Q I r h;obtain⟨e,h⟩:=h;subst e;cases r;exact assignInOrder_nil ⟨Y,H,I,h⟩
def Ac{e:Expr}{t:TG}{u:T6}(h1:PG X e t)(h2:E6 X es u)
  (hs:(WY (e::es) X.env).map (·.2)=VB e X.env::(WY es X.env).map (·.2)):E6 X (e::es) (q3e t u):=by
 intro pins s Y H vs us Q I r h;obtain⟨v,vr,e1,h⟩:=h;subst e1;cases r with
 |cons r rr=>
  rw[hs];refine assignInOrder_cons (Cn (h1 pins s Y H _ _ _ I r h) λ_ s1⟨σ1,H1,I1,q1⟩=>?_);exact h2 pins s1 σ1 H1 _ _ Q I1 rr q1
def q3h(K:QL)(n:Nat)(t:T6):TG:=λv Y H Q=>∃a xs,v=.ref a/\zZ K H a xs/\xs.length=n/\t xs Y H Q
def sW{k:Nat}{t:T6}(hc:X.calm=Qd)(h:E6 X es t)
  (hn:(WY es X.env).length=n) (qX:(WY es X.env).findIdx? (·.1)=Qg):PG X (.Tuple es k pos) (q3h X.K n t):=by
 intro pins s Y H v u Q I r hw;obtain⟨a,xs,e1,hq,hl,hw⟩:=hw;subst e1;cases r;obtain⟨its,rv,ht,hz⟩:=I.tuple hq;refine assign_Tuple_tuple (I.ok.hd hc) ht (by simp[hn,<-hl,rv.length]) qX λh' hx=>?_;have I1:Inv X pins Y H {s with heap:=h'}:=I.kept (t':=s.toks) λb o e=>hx b o (QK (Qu e)) e;exact h pins _ Y H xs _ Q I1 (by simpa using rv) hw
end
structure It where
 go:Nat->Hp->Prop
 X7:Nat->Hp->V->Hp->Prop
 stop:Nat->Hp->Prop
def zH(X:Cx)(pins:List (Addr×Obj))(H:Hp)(b:Addr):Prop:=
 H b=Qg/\b≠X.env.locals/\b∉X.fs/\(b∈X.ex\/X.s₀.heap.objs.size<=b)/\(∀x c,X.env.cells.lookup x=Qa c->c≠b)/\∀p∈X.pn++pins,p.1≠b
def Inv.xC{X:Cx}{Y:St}{H H':Hp}{b:Addr}(I:Inv X pins Y H s)(hb:s.heap.objs.size<=b)(hn:H' b=Qg):zH X pins H' b:=by
 refine⟨hn,VC (QF I.lt hb),I.q6W hb,.inr (Qx I.sz hb),λx c e z=>?_,λp hp z=>?_⟩
 .obtain⟨v,q⟩:=I.cell x c e;exact absurd (QF q.lt (by rw[z];exact hb)) (Jv _)
 .exact absurd (QF (Qu (I.pin p hp).1) (by rw[z];exact hb)) (Jv _)
structure Turn(P:Program)(w:World)(K:QL)(tg:Expr)(J:It)(fp:List Addr)(it:Addr)(tn:Nat->Heap->Prop):Prop where
 mem:it∈fp
 obj:∀i h,tn i h->∀b∈fp,∃o,h.get? b=Qa o/\∀v,o.data≠.cell v
 keep:∀i h h',tn i h->(∀b∈fp,∀o,h.get? b=Qa o->h'.get? b=Qa o)->tn i h'
 item:∀(X:Cx),X.prog=P->X.w=w->X.K=K->X.calm=Qd->∀(i:Nat)(pins:List (Addr×Obj))(s:Shared)(Y:St)(H:Hp)(E:NZ),Inv X pins Y H s->(∀b∈fp,zH X pins H b)->tn i s.heap->J.go i H->
  wpAny (model P w) X.A (pyNext (.ref it)) (λr s1=>∃u,r=Qa u/\
   wpAny (model P w) X.A (letOwnedTupleGo tg (.ref it) u) (λ_ s2=>∃x H',Inv X pins Y H' s2/\RelV x u/\J.X7 i H x H'/\tn (i+1) s2.heap/\∀b∈fp,H' b=Qg) E s1) E s
 done:∀(X:Cx),X.prog=P->X.w=w->X.K=K->X.calm=Qd->∀(i:Nat)(pins:List (Addr×Obj))(s:Shared)(Y:St)(H:Hp)(E:NZ),Inv X pins Y H s->(∀b∈fp,zH X pins H b)->tn i s.heap->J.stop i H->
  wpAny (model P w) X.A (pyNext (.ref it)) (λr s1=>r=Qg/\Inv X pins Y H s1) E s
 self:∀(A:Around)(i:Nat)(s:Shared)(Q:NZ)(E:NZ),tn i s.heap->Q (.ref it) s->wpAny (model P w) A (pyIter (.ref it)) Q E s
def cu(X:Cx)(pins:List (Addr×Obj))(Y:St)(tg:Expr)(R:It->Hp->Prop)(uB:Value)(s2:Shared):Prop:=
 ∃(it:Addr)(fp:List Addr)(tn:Nat->Heap->Prop)(J:It)(H':Hp),uB=.ref it/\Inv X pins Y H' s2/\Turn X.prog X.w X.K tg J fp it tn/\tn 0 s2.heap/\(∀b∈fp,zH X pins H' b)/\R J H'
def DH{n:String}{vs:Array Value}{Q:Unit->Shared->Prop}(ho:s.heap.get? it=Qa o)(hc:o.cls=.type n)(hd:o.data=.fields vs)
  (hn:["enumerate","zip","dict_itemiterator","dict_reverseitemiterator","odict_iterator","itertools.zip_longest","itertools.pairwise"].contains n=Qh) (hQ:Q () s):wpAny M A (letOwnedTupleGo tg (.ref it) u) Q E s:=by
 unfold letOwnedTupleGo;cases tg<;>first
  |exact Qf hQ
  |(cases u<;>first
    |exact Qf hQ
    |(refine Qb (wpAny_load ho ?_)
      rw[hc,hd];show wpAny M A (if(["enumerate","zip","dict_itemiterator","dict_reverseitemiterator","odict_iterator","itertools.zip_longest","itertools.pairwise"].contains n&&vs[0]?==Qa (VZ _))=Qd then _ else _) Q E s;rw[if_neg (by intro h;rw[hn,Bool.false_and]at h;cases h)];exact Qf hQ))
def cZ(K:QL)(a:Addr):It:=
 ⟨λi H=>∃xs x,qv K H a xs/\xs[i]?=Qa x,λi H x H'=>H'=H/\∀xs,qv K H a xs->xs[i]?=Qa x,λi H=>∃xs,qv K H a xs/\xs.length<=i⟩
def cb(K:QL)(a:Addr):It:=
 ⟨λi H=>∃xs x,zZ K H a xs/\xs[i]?=Qa x,λi H x H'=>H'=H/\∀xs,zZ K H a xs->xs[i]?=Qa x,λi H=>∃xs,zZ K H a xs/\xs.length<=i⟩
def Fd(lo:Int)(n:Nat):It:=⟨λi _=>i<n,λi H x H'=>H'=H/\x=.int (lo+i),λi _=>n<=i⟩
def qAO(a it:Addr):Turn P w K tg (cZ K a) [it] it (λi h=>h.IsListIter it a i)where
 mem:=by simp
 obj:=λi h st b hb=>by
  have e:b=it:=by simpa using hb
  subst e;obtain⟨o,e,c,d⟩:=st;exact⟨o,e,λv z=>by rw[d]at z;cases z⟩
 keep:=λi h h' st k=>st.at λo e=>k it (by simp) o e
 item:=by intro X hP hw hK hc i pins s Y H E I hf st hg;subst hP hw hK;refine kX hg λxs x hq hx=>?_;refine qV (I.list hq) λits rv p hz=>?_;refine qR (rv.get hx) λu hu ru=>?_;refine je (hf it (by simp)) λf0 f1 f2 f3 f4 f5=>?_;refine V0 st p.isList (x:=u) (by simpa using hu) λh' jz sb=>?_;have I1:Inv X pins Y H {s with heap:=h'}:=I.turned (t':=s.toks) (λb o hb e=>(sb.2 b hb).trans e) f0 f1 f3 f4 f5;refine qV (id jz) λo e c d=>?_;exact⟨u,rfl,DH (s:={s with heap:=h'}) e c d (by decide) ⟨x,H,I1,ru,⟨rfl,λys hy=>by rw[I.ot hy hq];exact hx⟩,jz,λb hb=>(hf b hb).1⟩⟩
 done:=by intro X hP hw hK hc i pins s Y H E I hf st hg;subst hP hw hK;obtain⟨xs,hq,hx⟩:=hg;refine qV (I.list hq) λits rv p hz=>?_;refine je (hf it (by simp)) λf0 f1 f2 f3 f4 f5=>?_;have hl:=rv.length;exact V9 (I.ok.hd hc) st p.isList (by simp;lia) λh' eb=>⟨rfl,I.turned (t':=s.toks) (λb o hb e=>eb b o hb e) f0 f1 f3 f4 f5⟩
 self:=λ_ _ _ _ _ st h=>wpAny_pyIter_listiter st h
def qAR(a it:Addr):Turn P w K tg (cb K a) [it] it (λi h=>h.IsTupleIter it a i)where
 mem:=by simp
 obj:=λi h st b hb=>by
  have e:b=it:=by simpa using hb
  subst e;obtain⟨o,e,c,d⟩:=st;exact⟨o,e,λv z=>by rw[d]at z;cases z⟩
 keep:=λi h h' st k=>st.at λo e=>k it (by simp) o e
 item:=by intro X hP hw hK hc i pins s Y H E I hf st hg;subst hP hw hK;refine kX hg λxs x hq hx=>?_;refine qV (I.tuple hq) λits rv p hz=>?_;refine qR (rv.get hx) λu hu ru=>?_;refine je (hf it (by simp)) λf0 f1 f2 f3 f4 f5=>?_;refine wpAny_pyNext_tuple_item st p (x:=u) (by simpa using hu) λh' jz sb=>?_;have I1:Inv X pins Y H {s with heap:=h'}:=I.turned (t':=s.toks) (λb o hb e=>(sb.2 b hb).trans e) f0 f1 f3 f4 f5;refine qV (id jz) λo e c d=>?_;exact⟨u,rfl,DH (s:={s with heap:=h'}) e c d (by decide) ⟨x,H,I1,ru,⟨rfl,λys hy=>by rw[I.qAL hy hq];exact hx⟩,jz,λb hb=>(hf b hb).1⟩⟩
 done:=by intro X hP hw hK hc i pins s Y H E I hf st hg;subst hP hw hK;obtain⟨xs,hq,hx⟩:=hg;refine qV (I.tuple hq) λits rv p hz=>?_;refine je (hf it (by simp)) λf0 f1 f2 f3 f4 f5=>?_;have hl:=rv.length;exact wpAny_pyNext_tuple_end (I.ok.hd hc) st p (by simp;lia) λh' eb=>⟨rfl,I.turned (t':=s.toks) (λb o hb e=>eb b o hb e) f0 f1 f3 f4 f5⟩
 self:=λ_ _ _ _ _ st h=>wpAny_pyIter_tupleiter st h
def qAP(it:Addr)(lo:Int)(n:Nat):Turn P w K tg (Fd lo n) [it] it (λi h=>IsRangeIter h it (lo+(i:Nat)*1) ((n:Int)-(i:Nat)) 1)where
 mem:=by simp
 obj:=λi h st b hb=>by
  have e:b=it:=by simpa using hb
  subst e;exact⟨_,st,λv z=>by cases z⟩
 keep:=λi h h' st k=>k it (by simp) _ st
 item:=by intro X hP hw hK hc i pins s Y H E I hf st hg;subst hP hw hK;refine je (hf it (by simp)) λf0 f1 f2 f3 f4 f5=>?_;refine(Walks.range (prog:=X.prog) (w:=X.w) (I.ok.hd hc) it lo 1 n).item i s _ _ hg st λv h' tk hv jz kk=>?_;obtain⟨t,rfl⟩:=hv;have I1:Inv X pins Y H {s with heap:=h',toks:=tk}:=I.turned (λb o hb e=>kk b o (by simpa using hb) e) f0 f1 f3 f4 f5;refine⟨_,rfl,DH (s:={s with heap:=h',toks:=tk}) (n:="range_iterator") jz rfl rfl (by decide) ⟨.int (lo+i),H,I1,⟨t,?_⟩,⟨rfl,rfl⟩,jz,λb hb=>(hf b hb).1⟩⟩;rw[Int.mul_one]
 done:=by intro X hP hw hK hc i pins s Y H E I hf st hg;subst hP hw hK;refine je (hf it (by simp)) λf0 f1 f2 f3 f4 f5=>?_;exact wpAny_pyNext_range_end (I.ok.hd hc) st (by have:n<=i:=hg;lia) λh' eb=>⟨rfl,I.turned (t':=s.toks) (λb o hb e=>eb b o hb e) f0 f1 f3 f4 f5⟩
 self:=λ_ _ _ _ _ st h=>wpAny_pyIter_rangeiter st h
section
variable{X:Cx}
def tJ{Y:St}{H:Hp}{R:It->Hp->Prop}{lo hi:Int}{t u v:Tok}{tk:Nat}(I:Inv X pins Y H s)(h1:-(2^62)<=lo)(h2:lo<2^62)(h3:-(2^62)<=hi)(h4:hi<2^62)
  (q:R (Fd lo (hi-lo).toNat) H):wpAny (model X.prog X.w) X.A (pyIter (.ref s.heap.objs.size)) (cu X pins Y tg R) E {s with heap:=s.heap.push {cls:=.type "range",data:=.fields #[.int lo t,.int hi u,.int 1 v]},toks:=tk}:=by
 refine wpAny_pyIter_range (IsRange.new ..) (small_one h1 h2 h3 h4) ?_;have I1:Inv X pins Y H {s with heap:=s.heap.push {cls:=.type "range",data:=.fields #[.int lo t,.int hi u,.int 1 v]},toks:=tk}:=I.kept λb o e=>Qk _ e;refine⟨(s.heap.push {cls:=.type "range",data:=.fields #[.int lo t,.int hi u,.int 1 v]}).objs.size,[(s.heap.push {cls:=.type "range",data:=.fields #[.int lo t,.int hi u,.int 1 v]}).objs.size],_,_,H,rfl,
  I1.kept (t':=tk) λb o e=>Qk _ e,qAP _ lo (hi-lo).toNat,?_,λb hb=>?_,q⟩
 .have e1:lo+((0:Nat):Int)*1=lo:=by simp
  have e2:(((hi-lo).toNat:Nat):Int)-((0:Nat):Int)=Wx lo hi 1:=by rw[rangeSize_one];split<;>lia
  show IsRangeIter _ _ (lo+((0:Nat):Int)*1) ((((hi-lo).toNat:Nat):Int)-((0:Nat):Int)) 1;rw[e1,e2];exact QH _ rfl
 .have e:b=(s.heap.push {cls:=.type "range",data:=.fields #[.int lo t,.int hi u,.int 1 v]}).objs.size:=by simpa using hb
  subst e;exact I1.xC (Qs _) (I1.qI.fresh (Qs _))
def CT(fp:List Addr)(h:Heap):List (Addr×Obj):=fp.filterMap λb=>(h.get? b).map λo=>(b,o)
def Pr{b:Addr}(hb:b∈fp)(e:h.get? b=Qa o):(b,o)∈CT fp h:=U2.mpr ⟨b,hb,by rw[e];rfl⟩
def q6g{p:Addr×Obj}(hp:p∈CT fp h):p.1∈fp/\h.get? p.1=Qa p.2:=by
 obtain⟨b,hb,e⟩:=U2.mp hp;cases q:h.get? b with
 |none=>rw[q]at e;cases e
 |some o=>
  rw[q]at e;have e':=QY e;subst e';exact⟨hb,q⟩
def Inv.pinned{Y:St}{H:Hp}(I:Inv X pins Y H s)(hf:∀b∈fp,zH X pins H b)(ho:∀b∈fp,∃o,s.heap.get? b=Qa o/\∀v,o.data≠.cell v):Inv X (pins++CT fp s.heap) Y H s:=
 I.Pw λp hp=>(QA.mp hp).elim (λz=>I.pin p (Ql _ z)) λz=>by obtain⟨hb,e⟩:=q6g z;refine wH (hf p.1 hb) λf0 f1 f2 _=>?_;obtain⟨o,e',d⟩:=ho p.1 hb;rw[e]at e';cases e';exact⟨e,f0,f1,f2,d⟩
def Inv.w5{pl:List (Addr×Obj)}{Y:St}{H:Hp}(I:Inv X (pins++pl) Y H s):Inv X pins Y H s:=I.Pw λp hp=>I.pin p (Ql _ (QD _ hp))
end
abbrev R2:=V->V->Hp->VK->Prop
def zF(X:Cx)(f:Value->Value->Sem Value)(r:R2):Prop:=
 ∀(pins:List (Addr×Obj))(s:Shared)(Y:St)(H:Hp)(x y:V)(v u:Value)(Q:VK),Inv X pins Y H s->RelV x v->RelV y u->r x y H Q->
  wpAny (model X.prog X.w) X.A (f v u) (EP X pins Y Q) X.xe s
def E1(X:Cx)(f:Value)(r:List V->Hp->VK->Prop):Prop:=
 ∀(pins:List (Addr×Obj))(s:Shared)(Y:St)(H:Hp)(xs:List V)(us:List Value)(Q:VK),Inv X pins Y H s->Vals xs us->r xs H Q->
  wpAny (model X.prog X.w) X.A (call f us) (EP X pins Y Q) X.xe s
def q1F(X:Cx)(r:V->Hp->(Bool->Hp->Prop)->Prop):Prop:=
 ∀(pins:List (Addr×Obj))(s:Shared)(Y:St)(H:Hp)(x:V)(v:Value)(Q:Bool->Hp->Prop),Inv X pins Y H s->RelV x v->r x H Q->
  wpAny (model X.prog X.w) X.A (truthy v) (TP X pins Y Q) X.xe s
def rI(C:Int->Int->Prop)(g:Int->Int->V):R2:=λx y H Q=>∃i j,x=.int i/\y=.int j/\C i j/\Q (g i j) H
def vY(g:Int->Int->V):R2:=λx y H Q=>∃i j,x=.int i/\y=.int j/\Q (g i j) H
section
variable{X:Cx}{a b:Expr}
def jh{f:Value->Value->Sem Value}{C:Int->Int->Prop}{g:Int->Int->Int}
  (rule:∀(i j:Int)(t u:Tok)(s:Shared)(Q:NZ)(E:NZ),C i j->Q (.int (g i j) s.toks) {s with toks:=s.toks+1}->wpAny (model X.prog X.w) X.A (f (.int i t) (.int j u)) Q E s):
  zF X f (rI C λi j=>.int (g i j)):=by
 intro pins s Y H x y v u Q I rx ry h;obtain⟨i,j,rfl,rfl,hc,q⟩:=h;obtain⟨t,rfl⟩:=rx;obtain⟨t',rfl⟩:=ry;exact rule i j t t' s _ _ hc ⟨.int (g i j),H,I.tok _,⟨_,rfl⟩,q⟩
def Xl{f:Value->Value->Sem Value}{g:Int->Int->Int}
  (rule:∀(i j:Int)(t u:Tok)(s:Shared)(Q:NZ)(E:NZ),Q (.int (g i j) s.toks) {s with toks:=s.toks+1}->wpAny (model X.prog X.w) X.A (f (.int i t) (.int j u)) Q E s):
  zF X f (vY λi j=>.int (g i j)):=by
 intro pins s Y H x y v u Q I rx ry h;obtain⟨i,j,rfl,rfl,q⟩:=h;obtain⟨t,rfl⟩:=rx;obtain⟨t',rfl⟩:=ry;exact rule i j t t' s _ _ ⟨.int (g i j),H,I.tok _,⟨_,rfl⟩,q⟩
def sN{f:Value->Value->Sem Value}{g:Int->Int->Bool}
  (rule:∀(i j:Int)(t u:Tok)(s:Shared)(Q:NZ)(E:NZ),Q (.bool (g i j)) s->wpAny (model X.prog X.w) X.A (f (.int i t) (.int j u)) Q E s):
  zF X f (vY λi j=>.bl (g i j)):=by
 intro pins s Y H x y v u Q I rx ry h;obtain⟨i,j,rfl,rfl,q⟩:=h;obtain⟨t,rfl⟩:=rx;obtain⟨t',rfl⟩:=ry;exact rule i j t t' s _ _ ⟨.bl (g i j),H,I,rfl,q⟩
def IL(i j:Int):Prop:=0<j/\j<1073741824
def IM(i j:Int):Prop:=0<=j/\j<=1000000/\i.natAbs<2^64
def Xz(i j:Int):Prop:=(-(2^64)<i/\i<2^64)\/(-(2^64)<j/\j<2^64)
def Xz.ok{i j:Int}(h:Xz i j):IntMulOk i j:=by
 rcases h with⟨h1,h2⟩|⟨h1,h2⟩
 .exact .of_left (intBits_le_64 h1 h2)
 .exact .of_right (intBits_le_64 h1 h2)
def q0y(k:Nat):(0:Int)<=2^k:=by rw[two_pow_cast];exact Int.natCast_nonneg _
def q6m:zF X (Yn .Add) (vY λi j=>.int (i+j)):=Xl λ_ _ _ _ _ _ _ q=>add_int q
def q77:zF X (Yn .Sub) (vY λi j=>.int (i-j)):=Xl λ_ _ _ _ _ _ _ q=>sub_int q
def q6z:zF X (Yn .Mult) (rI Xz λi j=>.int (i*j)):=jh λ_ _ _ _ _ _ _ hc q=>mul_int q hc.ok
def q6r:zF X (Yn .FloorDiv) (rI IL λi j=>.int (i/j)):=jh λi j _ _ _ _ _ hc q=>by have h1:=hc.1;have h2:=hc.2;exact floordiv_int ∅ (by rw[Y7 i ∅];exact q) (.inl (ZG ∅))
def q6y:zF X (Yn .Mod) (rI (λ_ j=>0<j) λi j=>.int (i %j)):=jh λi j _ _ _ _ _ hc q=>by have h1:=hc;exact mod_int' ∅ (by rw[ZH i ∅];exact q)
def q74:zF X (Yn .LShift) (rI IM λi j=>.int (i*2^j.toNat)):=jh λ_ _ _ _ _ _ _ hc q=>lshift_int_small hc.1 hc.2.1 hc.2.2 q
def q75:zF X (Yn .RShift) (rI (λ_ j=>0<=j) λi j=>.int (i/2^j.toNat)):=jh λi j _ _ _ _ _ hc q=>
 rshift_int hc (by rw[Y7 i (q0y _)];exact q)
def q6n:zF X (Yn .BitAnd) (vY λi j=>.int (Uu i j)):=Xl λ_ _ _ _ _ _ _ q=>and_int q
def q72:zF X (Yn .BitOr) (vY λi j=>.int (U8 i j)):=Xl λ_ _ _ _ _ _ _ q=>or_int q
def q4n:zF X (YZ .Add) (vY λi j=>.int (i+j)):=Xl λ_ _ _ _ _ _ _ q=>iadd_int q
def q4w:zF X (YZ .Sub) (vY λi j=>.int (i-j)):=Xl λ_ _ _ _ _ _ _ q=>isub_int q
def q4s:zF X (YZ .Mult) (rI Xz λi j=>.int (i*j)):=jh λ_ _ _ _ _ _ _ hc q=>imul_int q hc.ok
def q4p:zF X (YZ .FloorDiv) (rI IL λi j=>.int (i/j)):=jh λi j _ _ _ _ _ hc q=>by have h1:=hc.1;have h2:=hc.2;exact ifloordiv_int ∅ (by rw[Y7 i ∅];exact q) (.inl (ZG ∅))
def q4r:zF X (YZ .Mod) (rI (λ_ j=>0<j) λi j=>.int (i %j)):=jh λi j _ _ _ _ _ hc q=>by have h1:=hc;exact imod_int ∅ (by rw[ZH i ∅];exact q)
def q4u:zF X (YZ .LShift) (rI IM λi j=>.int (i*2^j.toNat)):=jh λ_ _ _ _ _ _ _ hc q=>ilshift_int_small hc.1 hc.2.1 hc.2.2 q
def q4v:zF X (YZ .RShift) (rI (λ_ j=>0<=j) λi j=>.int (i/2^j.toNat)):=jh λi j _ _ _ _ _ hc q=>
 irshift_int hc (by rw[Y7 i (q0y _)];exact q)
def q4o:zF X (YZ .BitAnd) (vY λi j=>.int (Uu i j)):=Xl λ_ _ _ _ _ _ _ q=>iand_int q
def q4t:zF X (YZ .BitOr) (vY λi j=>.int (U8 i j)):=Xl λ_ _ _ _ _ _ _ q=>ior_int q
end
section
variable{X:Cx}{a b:Expr}
def xo{Y:St}{Q:VK}{k k':Bool}(I:Inv X pins Y H s)(q:Q (.bl k) H)(e:k=k'):EP X pins Y Q (.bool k') s:=by subst e;exact⟨.bl k,H,I,rfl,q⟩
def q6x:zF X (JG .LtE) (vY λi j=>.bl (decide (i<=j))):=sN λ_ _ _ _ _ _ _ q=>le_int q
def q6s:zF X (JG .Gt) (vY λi j=>.bl (decide (j<i))):=sN λ_ _ _ _ _ _ _ q=>gt_int q
def q6w:zF X (JG .Is) (λx y H Q=>y=.qE/\Q (.bl (decide (x=.qE))) H):=by
 intro pins s Y H x y v u Q I rx ry h;obtain⟨rfl,q⟩:=h;cases ry;refine is_none_gen (xo I q ?_);cases x<;>first
  |(cases rx;rfl)
  |(obtain⟨t,rfl⟩:=rx;rfl)
def q71:zF X (JG .IsNot) (λx y H Q=>y=.qE/\Q (.bl (!decide (x=.qE))) H):=by
 intro pins s Y H x y v u Q I rx ry h;obtain⟨rfl,q⟩:=h;cases ry;refine isnot_none_gen (xo I q ?_);cases x<;>first
  |(cases rx;rfl)
  |(obtain⟨t,rfl⟩:=rx;rfl)
def d7(K:QL)(x:V)(H:Hp)(k:Bool):Prop:=
 match x with
 |.qE=>k=Qh
 |.bl b=>k=b
 |.int i=>k=(i !=0)
 |.str y=>y.length<=QI/\k=((y.length:Int)!=0)
 |.Fp y=>y.size<=QI/\k=((y.size:Int)!=0)
 |.ref p=>(∃xs,qv K H p xs/\k=!xs.isEmpty)\/(∃xs,zZ K H p xs/\k=!xs.isEmpty)\/∃kvs,H p=Qa (.dK kvs)/\k=!kvs.isEmpty
 |_=>False
def q50{kvs:List (κ×V)}{vs:List (κ×Value)}(r:KV kvs vs):(!vs.isEmpty)=!kvs.isEmpty:=by cases r<;>rfl
def nN{xs:List V}{its:List Value}(r:Vals xs its):(!its.toArray.isEmpty)=!xs.isEmpty:=by cases r<;>simp
def Ds:(QI:Nat)<2^63:=by rw[Jk];decide
def qAF:q1F X (λx H Q=>∃k,d7 X.K x H k/\Q k H):=by
 intro pins s Y H x v Q I rx h;obtain⟨k,e,q⟩:=h;have hl:=Ds;have hs:=Jk;cases x with
 |qE=>
  cases rx;have e':=e;subst e';exact truthy_none ⟨H,I,q⟩
 |bl b=>
  cases rx;have e':=e;subst e';exact Yy ⟨H,I,q⟩
 |int i=>
  obtain⟨t,rfl⟩:=rx;have e':=e;subst e';exact PySem.P.truthy_int ⟨H,I,q⟩
 |str y=>
  obtain⟨t,rfl⟩:=rx;obtain⟨hy,e'⟩:y.length<=QI/\k=((y.length:Int)!=0):=e;subst e';exact PySem.P.truthy_str ∅ ⟨H,I.tok _,q⟩
 |Fp y=>
  obtain⟨t,rfl⟩:=rx;obtain⟨hy,e'⟩:y.size<=QI/\k=((y.size:Int)!=0):=e;subst e';exact PySem.W.truthy_bytes ∅ ⟨H,I.tok _,q⟩
 |ref p=>
  cases rx;have e':=e;rcases e' with⟨xs,hx,e'⟩|⟨xs,hx,e'⟩|⟨kvs,hx,e'⟩
  .subst e';obtain⟨its,r,pl,hz⟩:=I.list hx;have qT:=r.length;exact wpAny_truthy_list pl.isList (by simp;lia) ⟨H,I.tok _,by rw[nN r];exact q⟩
  .subst e';obtain⟨its,r,pl,hz⟩:=I.tuple hx;have qT:=r.length;exact truthy_tuple pl (by simp;lia) ⟨H,I.tok _,by rw[nN r];exact q⟩
  .subst e';obtain⟨hz,hS,vs,r,m⟩:kvs.length<=QI/\(p==J1)=Qh/\∃vs,KV kvs vs/\s.heap.DictOf (kq X.prog X.w) p vs:=I.qI p _ hx;have qT:=VY r;exact wpAny_truthy_dict hS m ∅ ⟨H,I.tok _,by rw[q50 r];exact q⟩
 |_=>exact e.elim
def vals1{x:V}(r:Vals [x] us):∃u,us=[u]/\RelV x u:=by
 cases r with
 |cons r1 r2=>cases r2;exact⟨_,rfl,r1⟩
end
def xg.some_of{v:V}{o:Option Value}(r:xg (Qa v) o):∃u,o=Qa u/\RelV v u:=by
 cases o with
 |none=>exact r.elim
 |some u=>exact⟨u,rfl,r⟩
structure Room(k:Nat)(A:Around):Prop where
 hd:A.handled=Qg
 dp:A.depth+3*k+5<recursionLimit
 un:A.units+16*k+200<cLine
def Room.mono{k:Nat}(r:Room k A)(h:j<=k):Room j A:=⟨r.hd,by have:=r.dp;lia,by have:=r.un;lia⟩
theorem Room.deeper{k:Nat}(r:Room (k+1) A)(env:Env):Room k (A.deeper env):=
 ⟨r.hd,by have:=r.dp;show A.depth+1+3*k+5<_;lia,by have:=r.un;show A.units+3+16*k+200<_;lia⟩
theorem Room.in1{k:Nat}(r:Room (k+1) A):Room k A.in1:=
 ⟨r.hd,by have:=r.dp;show A.depth+3*k+5<_;lia,by have:=r.un;show A.units+1+16*k+200<_;lia⟩
theorem Room.depth{k:Nat}(r:Room k A):A.depth<recursionLimit:=by have:=r.dp;lia
theorem Room.units{k:Nat}(r:Room k A):A.units+64<cLine:=by have:=r.un;lia
abbrev Sp:=List V->Hp->VK->XK->Prop
abbrev uN:=List Env->Hp->Shared->XK->NZ
structure Env0(P:Program)(w:World)(K:QL)(mg:Str->Option Value)(base:Heap)(A:Around)(outer:List Env)(s:Shared)(H:Hp):Prop where
 frames:A.frames=Qa outer
 mod:Mod K mg base
 bs:∀b o,base.get? b=Qa o->s.heap.get? b=Qa o/\H b=Qg
 yY:base.objs.size<=s.heap.objs.size
 funs:s.heap.FunFrames base outer
 xq:∀b∈zy outer,H b=Qg
 qI:zW P w H s.heap
 bare:AllBare s.gens
def CE(outer:List Env)(P:Program)(w:World)(H:Hp)(s:Shared)(Q:VK)(u:Value)(s':Shared):Prop:=
 ∃v H',s'.os=s.os/\AllBare s'.gens/\Un (zy outer) [] H H' s.heap s'.heap/\zW P w H' s'.heap/\RelV v u/\Q v H'
def CR(CX:uN)(outer:List Env)(P:Program)(w:World)(H:Hp)(s:Shared)(Q:VK)(E:XK)(r:ZI)(s':Shared):Prop:=
 match r with
 |.ok (.ret u)=>CE outer P w H s Q u s'
 |.ok _=>False
 |.error e=>CX outer H s E e s'
structure FnOk(P:Program)(w:World)(K:QL)(mg:Str->Option Value)(base:Heap)(CX:uN)(k:Nat)(f:Addr)(fd:FuncData)(ps:List Str)(sp:Sp):Prop where
 len:∀vs H Q E,sp vs H Q E->vs.length=ps.length
 run:∀(A:Around)(outer:List Env)(s:Shared)(H:Hp)(args:Args)(us:List Value)(vs:List V)(Q:VK)(E:XK),Room k A->Env0 P w K mg base A outer s H->BindsTo s fd args (ps.zip us)->Vals vs us->sp vs H Q E->
  codeAny (model P w) A (.call (.ref f) args) (CR CX outer P w H s Q E) s
def FnOk.imp{CX:uN}{k:Nat}{f:Addr}{sp sp':Sp}(F:FnOk P w K mg base CX k f fd ps sp)
  (h:∀vs H Q E,sp' vs H Q E->sp vs H Q E):FnOk P w K mg base CX k f fd ps sp':=
 ⟨λvs H Q E q=>F.len vs H Q E (h _ _ _ _ q),λA outer s H args us vs Q E hr he hb hv hs=>F.run A outer s H args us vs Q E hr he hb hv (h _ _ _ _ hs)⟩
section
variable{X:Cx}{Y:St}{H:Hp}
def Inv.i9(I:Inv X pins Y H s):Env0 X.prog X.w X.K X.mg X.base X.A X.stack s H:=
 ⟨I.ok.frames,I.ok.mod,I.bs,Qx I.ok.yY I.sz,I.stack,I.bq,I.qI,I.bare⟩
def Inv.after{Q:VK}(I:Inv X pins Y H s)(h:CE X.stack X.prog X.w H s Q u s'):EP X pins Y Q u s':=by obtain⟨v,H',os,bare,un,qI,r,q⟩:=h;obtain⟨hh,g,d,t,qy⟩:=s';obtain rfl:qy=s.os:=os;exact⟨v,H',I.call un qI bare (λb z=>absurd z (by simp)),r,q⟩
end
def Binds(K:QL)(fd:FuncData)(ps:List Str)(ds:List Value):Prop:=
 ∀(s:Shared)(us:List Value),K.In s.heap->(us++ds).length=ps.length->BindsTo s fd ⟨us,[]⟩ (ps.zip (us++ds))
def Binds.all(h:∀us:List Value,us.length=ps.length->bindArgs fd ⟨us,[]⟩=pure (ps.zip us)):Binds K fd ps []:=λs us _ hl=>by rw[Q3]at hl|-;exact .of_eq (h us hl)
section
variable{X:Cx}{CX:uN}{k:Nat}{f C:Addr}{sp:Sp}{dvs:List V}{ds:List Value}{E:XK}{m:Str}{p q1Q:Pos}{e o:Expr}{t:TA}
structure Mk(K:QL)(C f:Addr):Prop where
 makes:PySem.W.makesIn K C=Qd
 init:PySem.W.findIn K (.ref C) "__init__"=Qa (Qa (.ref f))
 fn:PySem.W.isFn K (.ref f)=Qd
 kp:Yt K (.ref C)=Qd
end
structure FnScope(N P:List Str)(sc:Scope):Prop where
 kind:sc.kind=.function
 co:sc.isCoroutine=Qh
 gen:sc.isGenerator=Qh
 nd:N.Nodup
 pre:N.take P.length=P
 par:∀x∈P,sc.names.lookup x=Qa .local\/sc.names.lookup x=Qa .cell
 q6V:∀y∈sc.names,y.2≠.free
theorem dq{kindOf:Str->Option NameKind}{x:Str}:∀{binds:List (Str×Value)}{m:Str->Option Value},(∀v,(x,v)∉binds)->bindL kindOf binds m x=m x
 |[],_,_=>rfl
 |(n,v)::r,m,h=>by
  unfold bindL;rw[dq λw hw=>h w (Qc _ hw)];split
  .have:x≠n:=(by rintro rfl;exact h v Qe);simp[this]
  .rfl
theorem dh{kindOf:Str->Option NameKind}{x:Str}:∀{binds:List (Str×Value)}{m:Str->Option Value},(∀v,(x,v)∉binds)->bindC kindOf binds m x=m x
 |[],_,_=>rfl
 |(n,v)::r,m,h=>by
  unfold bindC;rw[dh λw hw=>h w (Qc _ hw)];split
  .rfl
  .have:x≠n:=(by rintro rfl;exact h v Qe);simp[this]
theorem dn{kindOf:Str->Option NameKind}{x:Str}{v:Value}:∀{P:List Str}{vs:List Value}{i:Nat}{m:Str->Option Value},P.Nodup->P[i]?=Qa x->vs[i]?=Qa v->kindOf x=Qa .local->
  bindL kindOf (P.zip vs) m x=Qa v
 |[],_,_,_,_,h,_,_=>by simp at h
 |_::_,[],_,_,_,_,h,_=>by simp at h
 |p::P,w::vs,0,m,nd,h1,h2,hk=>by simp at h1 h2;subst h1;subst h2;show bindL kindOf ((p,w)::P.zip vs) m p=_;unfold bindL;rw[dq λv hv=>(QQ.mp nd).1 (VD hv).1,if_pos hk];simp
 |p::P,w::vs,i+1,m,nd,h1,h2,hk=>by unfold bindL;exact dn (QQ.mp nd).2 (by simpa using h1) (by simpa using h2) hk
theorem dg{kindOf:Str->Option NameKind}{x:Str}{v:Value}:∀{P:List Str}{vs:List Value}{i:Nat}{m:Str->Option Value},P.Nodup->P[i]?=Qa x->vs[i]?=Qa v->kindOf x≠Qa .local->
  bindC kindOf (P.zip vs) m x=Qa v
 |[],_,_,_,_,h,_,_=>by simp at h
 |_::_,[],_,_,_,_,h,_=>by simp at h
 |p::P,w::vs,0,m,nd,h1,h2,hk=>by simp at h1 h2;subst h1;subst h2;show bindC kindOf ((p,w)::P.zip vs) m p=_;unfold bindC;rw[dh λv hv=>(QQ.mp nd).1 (VD hv).1,if_neg hk];simp
 |p::P,w::vs,i+1,m,nd,h1,h2,hk=>by unfold bindC;exact dg (QQ.mp nd).2 (by simpa using h1) (by simpa using h2) hk
noncomputable def start(N:List Str)(vs:List V):St:=vs.map Qa++Qr (N.length-vs.length) Qg
noncomputable def TF(CX:uN)(P:Program)(w:World)(K:QL)(mg:Str->Option Value)(base:Heap)(N:List Str)(qual:Str)(scope:Scope)(f:Addr)(cd:Value)(A:Around)(outer:List Env)(s:Shared)(H:Hp)(E:XK):Cx where
 prog:=P
 w:=w
 K:=K
 mg:=mg
 base:=base
 A:=A.deeper (Wj qual scope s.heap.objs.size f cd)
 N:=N
 s₀:=s
 H₀:=H
 env:=Wj qual scope s.heap.objs.size f cd
 outer:=outer
 stack:=Wj qual scope s.heap.objs.size f cd::outer
 ex:=[]
 calm:=Qd
 fn:=λ_=>Qd
 pn:=[]
 xe:=λe s'=>wpAny (model P w) (A.deeper (Wj qual scope s.heap.objs.size f cd)) (leaving (Wj qual scope s.heap.objs.size f cd) e) (λ_ CZ=>CX outer H s E e CZ) (λe' CZ=>CX outer H s E e' CZ) s'
def eX{sc:Scope}(h:sc.names.lookup x=Qa .cell):∃c,(UD n sc.names []).lookup x=Qa c:=by exact Ve.mp (Vn sc.names n [] (.inl h))
def nM{CX:uN}{qual:Str}{scope:Scope}{f:Addr}{cd:Value}{outer:List Env}{s1:Shared}{H:Hp}{E:XK}{vs:List V}
  (S:FnScope N ps scope) (hd:A.handled=Qg) (e0:Env0 P w K mg base A outer s H) (hl:vs.length=ps.length) (r:Vals vs us)
  (x:InCallC s s.heap.objs.size (bindL (Wj qual scope s.heap.objs.size f cd).kindOf (ps.zip us) λ_=>Qg) (UD (s.heap.objs.size+1) scope.names []) (bindC (Wj qual scope s.heap.objs.size f cd).kindOf (ps.zip us) λ_=>Qg) s1):
  Inv (TF CX P w K mg base N qual scope f cd A outer s H E) [] (start N vs) H s1:=by
 have xH:ps.length<=N.length:=by have:=congrArg YG S.pre;rw[Y8]at this;lia
 refine kX x.done λh1 tk zz hk=>?_;subst zz;have CH:∀b:Addr,b∉(TF CX P w K mg base N qual scope f cd A outer s H E).ex:=λb z=>absurd (show b∈([]:List Addr) from z) (by simp);refine⟨⟨e0.mod,S.kind,rfl,rfl,Qs _,λy z c h1 h2=>?_,λy hy=>?_,λy c _ h=>?_,λ_=>hd,Around.frames_deeper e0.frames,.inr ⟨rfl,rfl⟩,λb z=>absurd z (CH b),e0.bs,e0.yY,λb _ _=>CH b,λb z=>absurd z (CH b),e0.funs,e0.xq⟩,
  rfl,e0.bare,Un.kept hk,⟨_,x.toInCall.ns,λi y v h1 h2 h3=>?_⟩,λy c h=>⟨_,x.cell y c h⟩,e0.qI.fresh (Qs _),λy c h=>?_,λp hp=>absurd (show p∈([]:List (Addr×Obj)) from hp) (by simp),e0.qI.kept hk,?_⟩
 .exact name_of_addr x.apart (Jj h1) (Jj h2)
 .have hy:=hy;rcases hy with hy|hy
  .exact eX hy
  .exact absurd rfl (S.q6V _ (Jj hy))
 .exact UB (x.above y c (Jj h))
 .have hi:i<vs.length:=by
   unfold start at h2
   by_cases hi:i<vs.length
   .exact hi
   .rw[Jh (by simpa using hi)]at h2;rw[ZY]at h2;split at h2<;>cases h2
  have ha:vs[i]?=Qa v:=by
   unfold start at h2;rw[QZ (by simpa using hi),QJ]at h2;cases e:vs[i]?with
   |none=>rw[e]at h2;cases h2
   |some a=>rw[e]at h2;cases h2;rfl
  refine qR (r.get ha) λu hu rv=>?_;have hp:ps[i]?=Qa y:=by rw[<-S.pre,List.getElem?_take_of_lt ∅];exact h1
  have CF:ps.Nodup:=by rw[<-S.pre];exact S.nd.sublist (Wz _ _)
  refine⟨u,rv,?_⟩;rcases S.par y (Qz hp)with k|k
  .exact .inl ⟨k,dn CF hp hu k⟩
  .obtain⟨c,e⟩:=eX k;refine .inr ⟨.inl k,c,e,?_⟩;have q:=x.cell y c e;rw[dg CF hp hu (by show scope.names.lookup y≠_;rw[k];decide)]at q;exact q
 .exact e0.qI.fresh (UB (x.above y c (Jj h)))
 .unfold start;show _=N.length;rw[QT,Qm,JW];lia
section
variable[DecidableEq κ]
noncomputable def w8(kvs:List (κ×V))(k:κ):Option V:=(kvs.find? λkv=>decide (kv.1=k)).map (·.2)
noncomputable def putK(kvs:List (κ×V))(k:κ)(v:V):List (κ×V):=
 if(kvs.any λkv=>decide (kv.1=k))=Qd then kvs.map (λkv=>if kv.1=k then(kv.1,v)else kv)else kvs++[(k,v)]
def Cy{p:κ×V}{r:List (κ×V)}{k:κ}(e:p.1=k):w8 (p::r) k=Qa p.2:=by simp[w8,JR,e]
def FW{p:κ×V}{r:List (κ×V)}{k:κ}(e:¬p.1=k):w8 (p::r) k=w8 r k:=by simp[w8,JR,e]
theorem q14(k:κ):∀kvs:List (κ×V),(kvs.any λkv=>decide (kv.1=k))=(w8 kvs k).isSome
 |[]=>rfl
 |p::r=>by
  rw[JK]
  by_cases e:p.1=k
  .simp only[Cy e,decide_eq_true e,Bool.true_or,Hg]
  .rw[FW e,decide_eq_false e,ZQ];exact q14 k r
def om(kvs:List (κ×V))(k:κ)(v:V):(putK kvs k v).length<=kvs.length+1:=by
 unfold putK;split
 .rw[Qm];lia
 .rw[QT,QG,Jz];lia
def xg.Df{o:Option V}{u:Option Value}(r:xg o u):o.isSome=u.isSome:=by
 cases o with
 |none=>cases u with
  |none=>rfl
  |some _=>exact r.elim
 |some _=>cases u with
  |none=>exact r.elim
  |some _=>rfl
def KV.val{kvs:List (κ×V)}{vs:List (κ×Value)}(r:KV kvs vs)(k:κ):xg (w8 kvs k) (FA vs k):=by
 unfold KV at r
 induction r with
 |nil=>exact U3
 |@cons p q ps qs h t ih=>
  obtain⟨h1,h2⟩:=h
  by_cases e:p.1=k
  .have e':=h1.symm.trans e;have b:FA (q::qs) k=Qa q.2:=(by simp[FA,JR,e']);rw[Cy e,b];exact h2
  .have e':¬q.1=k:=λz=>e (h1.trans z);have b:FA (q::qs) k=FA qs k:=(by simp[FA,JR,e']);rw[FW e,b];exact ih
theorem KV.any{kvs:List (κ×V)}{vs:List (κ×Value)}(r:KV kvs vs)(k:κ):(kvs.any λkv=>decide (kv.1=k))=vs.any λkv=>decide (kv.1=k):=by
 unfold KV at r
 induction r with
 |nil=>rfl
 |cons h t ih=>rw[JK,JK,ih,h.1]
def KV.bI{kvs:List (κ×V)}{vs:List (κ×Value)}(r:KV kvs vs)(k:κ){y:V}(ry:RelV y u):
  KV (kvs.map λkv=>if kv.1=k then(kv.1,y)else kv) (vs.map λkv=>if kv.1=k then(kv.1,u)else kv):=by
 unfold KV at r|-
 induction r with
 |nil=>exact .nil
 |@cons p q ps qs h t ih=>
  rw[Qw,Qw];refine .cons ?_ ih;obtain⟨h1,h2⟩:=h
  by_cases e:p.1=k
  .rw[if_pos e,if_pos (h1.symm.trans e)];exact⟨h1,ry⟩
  .rw[if_neg e,if_neg (λz=>e (h1.trans z))];exact⟨h1,h2⟩
def KV.put{kvs:List (κ×V)}{vs:List (κ×Value)}(r:KV kvs vs)(k:κ){y:V}(ry:RelV y u):KV (putK kvs k y) (stored vs k u):=by
 unfold putK stored;rw[r.any k]
 by_cases e:(vs.any λkv=>decide (kv.1=k))=Qd
 .rw[if_pos e,if_pos e];exact r.bI k ry
 .rw[if_neg e,if_neg e];exact Paired.snoc r ⟨rfl,ry⟩
theorem KV.length{kvs:List (κ×V)}{vs:List (κ×Value)}(r:KV kvs vs):kvs.length=vs.length:=VY r
end
def PR{k:Key}(r:RelV (kV k) u):(kq P w).is k u=Qd:=by
 cases k with
 |inl i=>obtain⟨t,e⟩:=r;subst e;exact q6D P w i t
 |inr x=>obtain⟨t,e⟩:=r;subst e;exact q6E P w x t
theorem nV{P:Program}{w:World}:∀{ks:List Key}{us:List Value},Vals (ks.map kV) us->ItemsAre (kq P w) ks us
 |[],_,r=>by rw[Y9]at r;cases r;exact .nil
 |k::ks,_,r=>by
  rw[Qw]at r;cases r with
  |cons h t=>exact .cons (PR h) (nV t)
abbrev KT(H:Hp):List (List Key×V)->List (List Key×Addr×Value)->Prop:=VX λp q=>p.1=q.1/\H q.2.1=Qa (.qA (p.1.map kV))/\RelV p.2 q.2.2
def KT.val{H:Hp}{kvs:List (List Key×V)}{xs:List (List Key×Addr×Value)}(r:KT H kvs xs)(k:List Key):xg (w8 kvs k) ((UT xs k).map (·.2)):=by
 induction r with
 |nil=>exact U3
 |@cons p q ps qs h t ih=>
  obtain⟨h1,_,h2⟩:=h
  by_cases e:p.1=k
  .have e':=h1.symm.trans e;have b:UT (q::qs) k=Qa q.2:=(by simp[UT,JR,e']);rw[Cy e,b];exact h2
  .have e':¬q.1=k:=λz=>e (h1.trans z);have b:UT (q::qs) k=UT qs k:=(by simp[UT,JR,e']);rw[FW e,b];exact ih
def KT.bI{H:Hp}{kvs:List (List Key×V)}{xs:List (List Key×Addr×Value)}(r:KT H kvs xs)(k:List Key){y:V}(ry:RelV y u):
  KT H (kvs.map λkv=>if kv.1=k then(kv.1,y)else kv) (xs.map (putAt k u)):=by
 induction r with
 |nil=>exact .nil
 |@cons p q ps qs h t ih=>
  rw[Qw,Qw];refine .cons ?_ ih;refine uV h λh1 h2 h3=>?_;unfold putAt
  by_cases e:p.1=k
  .rw[if_pos e,if_pos (h1.symm.trans e)];exact⟨h1,h2,ry⟩
  .rw[if_neg e,if_neg (λz=>e (h1.trans z))];exact⟨h1,h2,h3⟩
def KT.put{H:Hp}{kvs:List (List Key×V)}{xs:List (List Key×Addr×Value)}(r:KT H kvs xs)(k:List Key){b:Addr}{y:V}(hb:H b=Qa (.qA (k.map kV)))(ry:RelV y u):
  KT H (putK kvs k y) (storedH xs k b u):=by
 have e:(kvs.any λkv=>decide (kv.1=k))=(UT xs k).isSome:=by rw[q14,(r.val k).Df,Wd]
 unfold putK storedH;rw[e]
 by_cases q:(UT xs k).isSome=Qd
 .rw[if_pos q,if_pos q];exact r.bI k ry
 .rw[if_neg q,if_neg q];exact Paired.snoc r ⟨rfl,hb,ry⟩
def KT.keeps{H H':Hp}{kvs:List (List Key×V)}{xs:List (List Key×Addr×Value)}(r:KT H kvs xs)(ht:∀b ys,H b=Qa (.qA ys)->H' b=Qa (.qA ys)):KT H' kvs xs:=
 Paired.aD r λ_ _ z=>⟨z.1,ht _ _ z.2.1,z.2.2⟩
section
variable{H:Hp}
def tL{u:HO}(ok:zW P w H h)(e:Rd H a u):jd P w H h a u:=e.ok ok
def TJ{kvs:List (Key×V)}(ok:zW P w H h)(e:Rd H a (.dK kvs)):kvs.length<=QI/\(a==J1)=Qh/\∃vs,KV kvs vs/\h.DictOf (kq P w) a vs:=
 show jd P w H h a (.dK kvs) from tL ok e
def LH{kvs:List (Key×V)}(ok:zW P w H h)(e:H a=Qa (.dK kvs)):kvs.length<=QI/\(a==J1)=Qh/\∃vs,KV kvs vs/\h.DictOf (kq P w) a vs:=TJ ok (.inl e)
def Dl{ks:List Key}(ok:zW P w H h)(e:H a=Qa (.qA (ks.map kV))):(UW (kq P w)).is h ks a:=by
 obtain⟨_,its,r,o,h1,h2,n,h3⟩:=(ok a _ e)
 exact⟨o,its.toArray,n,h1,h2,h3,by simpa using nV r⟩
def Fy{kvs:List (List Key×V)}(ok:zW P w H h)(e:Rd H a (.dT kvs)):kvs.length<=QI/\(a==J1)=Qh/\
  ∃xs,KT H kvs xs/\h.DictOfH (UW (kq P w)) a xs:=by
 obtain⟨z,y,xs,r,o,es,ep,h1,h2,h3,h4,h5⟩:=(tL ok e)
 refine⟨z,y,xs,r,o,es,ep,h1,h2,h3,h4,λx hx=>?_,h5⟩;have all:∀{l:List (List Key×V)}{m:List (List Key×Addr×Value)},KT H l m->∀x∈m,(UW (kq P w)).is h x.1 x.2.1:=by
  intro l m q
  induction q with
  |nil=>intro x hx;exact nomatch hx
  |@cons p q ps qs hq t ih=>
   intro x hx;rcases Qo.mp hx with e|hx
   .subst e;exact Dl ok (by rw[<-hq.1];exact hq.2.1)
   .exact ih x hx
 exact all r x hx
def q2f{kvs:List (List Key×V)}(ok:zW P w H h)(e:H a=Qa (.dT kvs)):kvs.length<=QI/\(a==J1)=Qh/\
  ∃xs,KT H kvs xs/\h.DictOfH (UW (kq P w)) a xs:=Fy ok (.inl e)
end
def E2(H:Hp)(a:Addr)(y:V)(r:Option V):Prop:=
 (∃kvs k,Rd H a (.dK kvs)/\y=kV k/\r=w8 kvs k)\/∃kvs k b,Rd H a (.dT kvs)/\y=.ref b/\H b=Qa (.qA (k.map kV))/\r=w8 kvs k
def E3(H:Hp)(a:Addr)(y v:V)(H':Hp):Prop:=
 (∃kvs k,H a=Qa (.dK kvs)/\y=kV k/\kvs.length<QI/\H'=upd H a (.dK (putK kvs k v)))\/
 ∃kvs k b,H a=Qa (.dT kvs)/\y=.ref b/\H b=Qa (.qA (k.map kV))/\kvs.length<QI/\H'=upd H a (.dT (putK kvs k v))
theorem E3.k{H:Hp}{a:Addr}{kvs:List (Key×V)}{k:Key}{v:V}(e:H a=Qa (.dK kvs))(hl:kvs.length<QI):E3 H a (kV k) v (upd H a (.dK (putK kvs k v))):=.inl ⟨kvs,k,e,rfl,hl,rfl⟩
section
variable{X:Cx}{Y:St}{H:Hp}{y v:V}{r:Value}{o:Option V}
def Inv.big(I:Inv X pins Y H s):J1<s.heap.objs.size:=by exact WJ (by decide) ((I.mod.glob.keeps I.bk).lt)
def q2V(hu:A.units+1<cLine)(I:Inv X pins Y H s)(g:E2 H a y (Qa v))(ry:RelV y u)(h:∀w' s',Inv X pins Y H s'->RelV v w'->Q w' s'):
  wpAny (model X.prog X.w) A (Vt (.ref a) u) Q E s:=by
 rcases g with⟨kvs,k,e,ey,l⟩|⟨kvs,k,b,e,ey,eb,l⟩
 .subst ey;obtain⟨z,hd,vs,rel,dd⟩:=TJ I.qI e;obtain⟨w',hw,vI⟩:=xg.some_of (by rw[l];exact rel.val k);exact wpAny_getItem_of (PR ry) dd.mapOf hw (h w' _ (I.tok _) vI)
 .subst ey;cases ry;obtain⟨z,hd,xs,rel,dd⟩:=Fy I.qI e;obtain⟨w',hw,vI⟩:=xg.some_of (by rw[l];exact rel.val k);obtain⟨p,hp,Tw⟩:=YF.mp hw;refine WZ (J2 hu) (Dl I.qI eb) dd hp ?_;rw[Tw];exact h w' _ (I.tok _) vI
def q2W(hu:A.units+1<cLine)(I:Inv X pins Y H s)(g:E2 H a y o)(ry:RelV y u)(h:∀s',Inv X pins Y H s'->Q (.bool o.isSome) s'):
  wpAny (model X.prog X.w) A (JG .In u (.ref a)) Q E s:=by
 rcases g with⟨kvs,k,e,ey,l⟩|⟨kvs,k,b,e,ey,eb,l⟩
 .subst ey;obtain⟨z,hd,vs,rel,dd⟩:=TJ I.qI e;refine wpAny_in_of (PR ry) hd dd.mapOf ?_;rw[<-(rel.val k).Df,<-l];exact h _ (I.tok _)
 .subst ey;cases ry;obtain⟨z,hd,xs,rel,dd⟩:=Fy I.qI e;refine wpAny_in_heap (J2 hu) (Dl I.qI eb) hd dd ?_;have q:=(rel.val k).Df;rw[Wd]at q;rw[<-q,<-l];exact h _ (I.tok _)
def q2Y(hu:A.units+1<cLine)(I:Inv X pins Y H s)(g:E2 H a y o)(ry:RelV y u)(h:∀s',Inv X pins Y H s'->Q (.bool (!o.isSome)) s'):
  wpAny (model X.prog X.w) A (JG .NotIn u (.ref a)) Q E s:=by
 rcases g with⟨kvs,k,e,ey,l⟩|⟨kvs,k,b,e,ey,eb,l⟩
 .subst ey;obtain⟨z,hd,vs,rel,dd⟩:=TJ I.qI e;refine wpAny_notIn_of (PR ry) hd dd.mapOf ?_;rw[<-(rel.val k).Df,<-l];exact h _ (I.tok _)
 .subst ey;cases ry;obtain⟨z,hd,xs,rel,dd⟩:=Fy I.qI e;refine wpAny_notIn_heap (J2 hu) (Dl I.qI eb) hd dd ?_;have q:=(rel.val k).Df;rw[Wd]at q;rw[<-q,<-l];exact h _ (I.tok _)
def Ea{t':Nat}{ob:HO}(I:Inv X pins Y H s)(mu:Ff (H a))(hs:JE a s.heap h')(he:∃q,h'.get? a=Qa q)(new:jd X.prog X.w (upd H a ob) h' a ob):
  Inv X pins Y (upd H a ob) {s with heap:=h',toks:=t'}:=
 I.write mu (.inl rfl) (λb q hb z=>(hs.2 b hb).trans z) he new
def gp{H':Hp}{kvs:List (Key×V)}{vs:List (Key×Value)}(z:kvs.length<=QI)(hd:(a==J1)=Qh)(rel:KV kvs vs)(dd:h'.DictOf (kq P w) a vs):
  jd P w H' h' a (.dK kvs):=⟨z,hd,vs,rel,dd⟩
def q2Z{H':Hp}{Q:Unit->Shared->Prop}(hu:A.units+1<cLine)(I:Inv X pins Y H s)(g:E3 H a y v H')(ry:RelV y u)(rv:RelV v r)(h:∀s',Inv X pins Y H' s'->Q () s'):
  wpAny (model X.prog X.w) A (setItem (.ref a) u r) Q E s:=by
 rcases g with⟨kvs,k,e,ey,l,eH⟩|⟨kvs,k,b,e,ey,eb,l,eH⟩
 .subst ey eH;obtain⟨z,hd,vs,rel,dd⟩:=LH I.qI e;have hz:vs.length<=QI:=by rw[<-rel.length];exact z
  have hl:(putK kvs k v).length<=QI:=by have:=om kvs k v;lia
  refine wpAny_setItem_pairs (hsz:=hz) (PR ry) dd λh' uS hs=>h _ ?_;have he:∃q,h'.get? a=Qa q:=let⟨q,_,_,hq,_⟩:=uS;⟨q,hq⟩;exact Ea I (by rw[e];exact U3) hs he (gp hl hd (rel.put k rv) uS)
 .subst ey eH;cases ry;obtain⟨z,hd,xs,rel,dd⟩:=q2f I.qI e;have hz:xs.length<=QI:=by rw[<-VY rel];exact z
  have hl:(putK kvs k v).length<=QI:=by have:=om kvs k v;lia
  refine wpAny_setItem_heap (J2 hu) (Dl I.qI eb) dd λh' uS hs=>h _ ?_;obtain⟨q,es,ep,hq,h2,h3,h4,_,h5⟩:=uS;refine Ea I (by rw[e];exact U3) hs ⟨q,hq⟩ ⟨hl,hd,_,(rel.put k eb rv).keeps λc ys ec=>?_,q,es,ep,hq,h2,h3,h4,h5⟩;rw[qY (q6L ec e (λz=>nomatch z))];exact ec
end
section
variable{X:Cx}{Y:St}{H:Hp}{kvs:List (Key×V)}{k:Key}
def q2X(I:Inv X pins Y H s)(e:Rd H a (.dK kvs))(h:∀t s',Inv X pins Y H s'->Q (.int kvs.length t) s'):wpAny (model X.prog X.w) A (call (.builtin "len") [.ref a]) Q E s:=by obtain⟨z,hd,vs,rel,dd⟩:=TJ I.qI e;refine call_len_dict hd dd (by rw[<-rel.length];rw[Jk]at z;lia) ?_;rw[<-rel.length];exact h _ _ (I.tok _)
end
def q1E(i:Expr):Prop:=∀ov iv,ZR i Qh ov iv=operate [ov,iv] (Vt ov iv)
def qA5{prog:Program}{env:Env}{value slice:Expr}{T id:String}
  (hl:FK (.type T) "__getitem__"=pure (Qa (.builtin id))) (hs:q1E slice)
  (h:wpAny (model prog w) A (Jw value env) (λo s₁=>wpAny (model prog w) A (Jw slice env) (λi s₂=>s₂.TypeIs o T/\wpAny (model prog w) A (Vt o i) Q E s₂) E s₁) E s):
  wpAny (model prog w) A (Jw (.Subscript value slice pos) env) Q E s:=by
 refine W0 (Qi h (λo s₁ h₁=>Qi h₁ (λi s₂ h₂=>?_) λ_ _ x=>x) λ_ _ x=>x);obtain⟨hT,h₂⟩:=h₂;unfold WQ;refine Qb ?_;rw[getitemInPython_of_ne hT.not_modules];refine Qb (Yv hT hl ?_);have fin:wpAny (model prog w) A (ZR slice Qh o i) (λr s₃=>wpAny (model prog w) A (letTemporaryGo value o r>>=λ_=>pure r) Q E s₃) E s₂:=by rw[hs o i];exact wpAny_operating (Qi h₂ (λr s₃ h₃=>Qb (wpAny_letTemporaryGo (Qf h₃))) λ_ _ x=>x)
 first
  |exact Qf (Qb fin)
  |exact Qb (Qf (Qb fin))
  |exact Qb fin
def q2c{H:Hp}(h:Heap)(hb:J1<h.objs.size):jd P w H (h.push {cls:=.type "dict",data:=.dict #[]}) h.objs.size (.dK []):=
 ⟨QV _,beq_eq_false_iff_ne.mpr (JQ (QK hb)),[],.nil,Heap.DictOf.new h⟩
abbrev VV:List (V×V)->List (Value×Value)->Prop:=VX λp q=>RelV p.1 q.1/\RelV p.2 q.2
def rE(kvs more:List (Key×V)):List (Key×V):=more.foldl (λacc kv=>putK acc kv.1 kv.2) kvs
def KV.merge:∀{more:List (Key×V)}{rs:List (Key×Value)}{kvs:List (Key×V)}{vs:List (Key×Value)},KV more rs->KV kvs vs->KV (rE kvs more) (merged vs rs):=by
 intro more rs kvs vs r;unfold KV at r
 induction r generalizing kvs vs with
 |nil=>intro q;exact q
 |@cons p q ps qs h t ih=>
  intro r0;have e:KV (putK kvs p.1 p.2) (stored vs q.1 q.2):=by have:=r0.put p.1 h.2;rw[<-h.1];exact this
  exact ih e
theorem eV{P:Program}{w:World}:∀{kvs:List (Key×V)}{ws:List (Value×Value)},VV (kvs.map λkv=>(kV kv.1,kv.2)) ws->∃rs,Carries (kq P w) ws rs/\KV kvs rs
 |[],_,r=>by rw[Y9]at r;cases r;exact⟨[],U3,.nil⟩
 |p::kvs,_,r=>by
  rw[Qw]at r;cases r with
  |@cons a b as bs h t=>
   obtain⟨rs,c,q⟩:=eV t;obtain⟨b1,b2⟩:=b;exact⟨(p.1,b2)::rs,⟨PR h.1,rfl,c⟩,.cons ⟨rfl,h.2⟩ q⟩
def IsD(H:Hp)(a:Addr):Prop:=(∃kvs,Rd H a (.dK kvs))\/∃kvs,Rd H a (.dT kvs)
def q4z{X:Cx}{Y:St}{H:Hp}(I:Inv X pins Y H s)(d:IsD H a):
  s.TypeIs (.ref a) "dict"/\(∀b,Y6 a=.ref b->∃ob,s.heap.get? b=Qa ob/\ob.dict=Qg)/\(a==J1)=Qh:=by
 rcases d with⟨kvs,e⟩|⟨kvs,e⟩
 .obtain⟨_,hd,vs,_,dd⟩:=TJ I.qI e;refine⟨dd.typeIs,λb q=>?_,hd⟩;cases q;refine XF dd λob _ _ h1 h2 _=>?_;exact⟨ob,h1,h2.2.1⟩
 .obtain⟨_,hd,xs,_,dd⟩:=Fy I.qI e;refine⟨dd.typeIs,λb q=>?_,hd⟩;cases q;refine XF dd λob _ _ h1 h2 _=>?_;exact⟨ob,h1,h2.2.1⟩
end L2
namespace HT
open PySem PyProof.Rows
variable{t sl:Addr}{Q:NZ}{vu:Value}{lo hi:Option Int}
section
variable{prog:Program}{w:World}{A:Around}{E:NZ}{s:Shared}
def q2G{b:Addr}{vs ws:List Value}(ht:IsTup s.heap t vs.toArray)(hb:IsTup s.heap b ws.toArray)(hv:vs≠[])
  (h1:ws=[]->Q (.ref t) s) (h2:ws≠[]->Q (.ref s.heap.objs.size) {s with heap:=s.heap.push {cls:=.type "tuple",data:=.seq (vs++ws).toArray}})
  (hsz:vs.length+ws.length<=QI):wpAny (model prog w) A (Yn .Add (.ref t) (.ref b)) Q E s:=by
 obtain⟨⟨cls,dd,data,sl⟩,ho,hc,n,hd⟩:=id ht;obtain⟨⟨L7,wi,data2,w4⟩,vQ,jH,n2,hd2⟩:=id hb;simp only at hc hd jH hd2;subst hc hd jH hd2;have e:vs.toArray++ws.toArray=(vs++ws).toArray:=by simp
 by_cases hw:ws=[]
 .exact Zd ⟨_,ho,rfl⟩ ⟨_,vQ,rfl⟩ ZJ seq_tuple_add Vo Vg (U9 _ _)
   (tuple_addW1 t b vs.toArray ws.toArray n n2 dd wi sl w4 (by simpa using hv) (by simp[hw])) ⟨ho,vQ,h1 hw⟩
 .refine Zd ⟨_,ho,rfl⟩ ⟨_,vQ,rfl⟩ ZJ seq_tuple_add Vo Vg (U9 _ _)
   (tuple_addW2 t b vs.toArray ws.toArray n n2 dd wi sl w4 (by simpa using hv) (by simpa using hw) (by rw[QB,QB];exact hsz)) ⟨ho,vQ,?_⟩
  rw[e];exact h2 hw
noncomputable def qr(n d:Nat):Option Int->Nat
 |none=>d
 |some v=>if v<0 then(v+(n:Int)).toNat else min v.toNat n
def q8I(n d:Nat)(hd:d<=n)(o:Option Int):qr n d o<=n:=by
 cases o with
 |none=>exact hd
 |some v=>
  show(if v<0 then(v+(n:Int)).toNat else min v.toNat n)<=n
  by_cases hv:v<0
  .rw[if_pos hv];lia
  .rw[if_neg hv];exact Nat.min_le_right _ _
def ef(v:Int)(n d:Nat):(if v<0 then max (v+(n:Int)) 0 else min v (n:Int))=((qr n d (Qa v):Nat):Int):=by
 show(if v<0 then max (v+(n:Int)) 0 else min v (n:Int))=(((if v<0 then(v+(n:Int)).toNat else min v.toNat n):Nat):Int)
 by_cases hv:v<0
 .simp only[if_pos hv];lia
 .simp only[if_neg hv];lia
def q1K(lo hi:Option Int)(n:Nat):UM lo hi 1 (n:Int)=(((qr n 0 lo:Nat):Int),((qr n n hi:Nat):Int)):=by
 have h1:¬((1:Int)<0):=∅
 unfold UM;simp only[h1,if_false];refine Prod.ext ?_ ?_
 .cases lo with
  |none=>rfl
  |some v=>exact ef v n 0
 .cases hi with
  |none=>rfl
  |some v=>exact ef v n n
def q7M(i j:Nat):YJ (i:Int) (j:Int) 1=j-i:=by
 unfold YJ;have h1:(1:Int)>0:=∅
 simp only[h1,if_true,Int.ediv_one];split<;>lia
def q0L{v:Value}{o:Option Int}{Q:Option Int->Shared->Prop}(p:Wl v o)(h:Q o s):wpAny (model prog w) A (Builtin.Slice.slicePartIndex v) Q E s:=by
 cases p with
 |none=>exact slicePart_none h
 |int i t=>exact slicePart_int h
def q0K{vl:Value}{n:Nat}{Q:Int×Int×Nat->Shared->Prop}(hs:s.heap.IsSliceOf sl vl vu .none)(pl:Wl vl lo)(pu:Wl vu hi)
  (h:Q (((qr n 0 lo:Nat):Int),1,qr n n hi-qr n 0 lo) s):wpAny (model prog w) A (Wa (.ref sl) (pure (n:Int))) Q E s:=by
 refine qV (id hs) λos XX DN uc=>?_;unfold Wa Builtin.Slice.sliceFields;refine Qb (Qb (Vu XX uc rfl (Qb (Vu XX uc rfl (Qb (Vu XX uc rfl (Qf ?_)))))));refine Qb (slicePart_none ?_);rw[if_neg (by decide)];refine Qb (q0L pl (Qb (q0L pu (Qb (Qf ?_)))));show wpAny _ _ (match UM lo hi 1 (n:Int)with|(lo,hi)=>pure (lo,(1:Int),YJ lo hi 1)) _ _ s;rw[q1K lo hi n];show wpAny _ _ (pure (((qr n 0 lo:Nat):Int),(1:Int),YJ ((qr n 0 lo:Nat):Int) ((qr n n hi:Nat):Int) 1)) _ _ s;rw[q7M];exact Qf h
def q7H(xs:Array Value)(i k:Nat):((Qt k).filterMap λ(m:Nat)=>xs[((i:Int)+(m:Int)*1).toNat]?).toArray=((xs.toList.drop i).take k).toArray:=by
 have e:(λ(m:Nat)=>xs[((i:Int)+(m:Int)*1).toNat]?)=λm=>xs[i+m]?:=by
  funext m;have:((i:Int)+(m:Int)*1).toNat=i+m:=∅
  rw[this]
 rw[e];have:=pick_run xs i k;rw[List.filterMap_map]at this;have e2:((λx=>xs[x]?)∘λx=>i+x)=λm=>xs[i+m]?:=rfl;rw[e2]at this;rw[this]
def q44{items:Array Value}{vl:Value}(ht:IsTup s.heap t items)(hs:s.heap.IsSliceOf sl vl vu .none)(pl:Wl vl lo)(pu:Wl vu hi)
  (hw:¬(qr items.size 0 lo=0/\qr items.size items.size hi=items.size))
  (h:Q (.ref s.heap.objs.size) {s with heap:=s.heap.push {cls:=.type "tuple",data:=.seq ((items.toList.drop (qr items.size 0 lo)).take (qr items.size items.size hi-qr items.size 0 lo)).toArray}})
  (hsz:items.size<=QI):wpAny (model prog w) A (Vt (.ref t) (.ref sl)) Q E s:=by
 have GN:sizeOk (.seq ((items.toList.drop (qr items.size 0 lo)).take (qr items.size items.size hi-qr items.size 0 lo)).toArray):=by show((items.toList.drop (qr items.size 0 lo)).take (qr items.size items.size hi-qr items.size 0 lo)).toArray.size<=QI;rw[QB,Y8,WR,J8];lia
 have hj:qr items.size items.size hi<=items.size:=q8I _ _ (Qs _) hi;obtain⟨os,XX,DN,uc⟩:=id hs;have OD:s.TypeIs (.ref sl) "slice":=⟨os,XX,DN⟩
 unfold Vt
 try with_reducible refine Q4 ?_
 first|refine Qb (Qf ?_)|skip
 refine Qb (wpAny_sequenceKey ht.typeIs (by decide) ?_);refine Qb (UE (name:=Qy "__getitem__") ht.typeIs Jx
  (J3 Jx ht.typeIs entry_tuple_getitem ?_ (args_tuple_getitem _ _)))
 show wpAny _ _ (UI (.ref t)>>=_) _ _ s;refine Qb (tupleItemsOf_ ht ?_);refine Qb (UN OD ?_);rw[if_pos (by decide)];refine Qb (q0K hs pl pu ?_);have wN:¬((((qr items.size 0 lo:Nat):Int)==0&&(1:Int)==1&&(qr items.size items.size hi-qr items.size 0 lo)==items.size)=Qd):=by intro q;rw[Qp,Qp]at q;have q1:((qr items.size 0 lo:Nat):Int)=0:=eq_of_beq q.1.1;have q2:qr items.size items.size hi-qr items.size 0 lo=items.size:=eq_of_beq q.2;exact hw ⟨∅,∅⟩
 show wpAny _ _ (if(((qr items.size 0 lo:Nat):Int)==0&&(1:Int)==1&&(qr items.size items.size hi-qr items.size 0 lo)==items.size)=Qd then _ else _) _ _ s;rw[if_neg wN,q7H]
 first
  |exact Qb (m:=YR _) (JF (Qf ⟨_,rfl,Qf h⟩) GN)
  |exact Qb (m:=YR _) (JF (Qb (Qf (Qf ⟨_,rfl,Qf h⟩))) GN)
  |exact Qb (Qb (m:=YR _) (JF (Qf (Qf ⟨_,rfl,Qf h⟩)) GN))
  |exact Qb (Qb (m:=YR _) (JF (Qf ⟨_,rfl,Qf h⟩) GN))
end
end HT
namespace L2
open PySem PySem.Spec PyProof.Rows
variable{X:Cx}{e:Expr}{pos:Pos}{xs:List V}{us:List Value}{n t':Nat}{i:Int}{α:Type}{pins:List (Addr×Obj)}{Y:St}{H:Hp}{s:Shared}
section
variable{te:TE}{lo hi:Option Expr}{tl th:TO}{p2:Pos}
def cz(X:Cx)(r:V->Option Int->Option Int->Hp->VK->Prop):Prop:=
 ∀(pins:List (Addr×Obj))(s:Shared)(Y:St)(H:Hp)(x:V)(v vl vu:Value)(lo hi:Option Int)(sl:Addr)(Q:VK),Inv X pins Y H s->RelV x v->s.heap.IsSliceOf sl vl vu .none->Wl vl lo->Wl vu hi->r x lo hi H Q->
  ∃T id,FK (.type T) "__getitem__"=pure (Qa (.builtin id))/\s.TypeIs v T/\wpAny (model X.prog X.w) X.A (Vt v (.ref sl)) (EP X pins Y Q) X.xe s
def Rn(xs:List V)(lo hi:Option Int):List V:=(xs.drop (HT.qr xs.length 0 lo)).take (HT.qr xs.length xs.length hi-HT.qr xs.length 0 lo)
def LB(xs:List V)(lo hi:Option Int):(Rn xs lo hi).length<=xs.length:=by unfold Rn;rw[Y8,WR];lia
def q7d(K:QL):V->Option Int->Option Int->Hp->VK->Prop:=λx lo hi H Q=>∃a xs,x=.ref a/\zZ K H a xs/\
 ¬(HT.qr xs.length 0 lo=0/\HT.qr xs.length xs.length hi=xs.length)/\∀p,H p=Qg->Q (.ref p) (upd H p (.qA (Rn xs lo hi)))
def q97:cz X (q7d X.K):=by
 intro pins s Y H x v vl vu lo hi sl Q I rx hs pl pu h;refine zK h λa xs zz hx hw q=>?_;subst zz;cases rx;refine qV (I.tuple hx) λits r ht hz=>?_;have qT:its.toArray.size=xs.length:=by rw[QB];exact r.length.symm
 refine⟨"tuple",_,Jx.lookup,ht.typeIs,?_⟩;refine HT.q44 ht hs pl pu (by rw[qT];exact hw) ?_ (by rw[qT];exact hz);rw[qT];refine⟨.ref s.heap.objs.size,_,I.laid (λb ob q=>Qk _ q) (Qs _) ?_,rfl,q _ (I.qI.fresh (Qs _))⟩;exact⟨Qx (LB xs lo hi) hz,_,(r.drop (HT.qr xs.length 0 lo)).take (HT.qr xs.length xs.length hi-HT.qr xs.length 0 lo),IsTup.new _ _⟩
def q7V(K:QL):R2:=λx y H Q=>∃a b xs ys,x=.ref a/\y=.ref b/\zZ K H a xs/\zZ K H b ys/\xs≠[]/\xs.length+ys.length<=QI/\
 (ys=[]->Q (.ref a) H)/\(ys≠[]->∀p,H p=Qg->Q (.ref p) (upd H p (.qA (xs++ys))))
def Vals.AG(r:Vals xs us):us=[]↔xs=[]:=by
 cases r with
 |nil=>simp
 |cons _ _=>simp
def q6p:zF X (Yn .Add) (q7V X.K):=by intro pins s Y H x y v u Q I rx ry h;obtain⟨a,b,xs,ys,rfl,rfl,ha,hb,hx,hz,q1,q2⟩:=h;cases rx;cases ry;obtain⟨its,r1,p1,_⟩:=I.tuple ha;obtain⟨yi,r2,p2,_⟩:=I.tuple hb;refine HT.q2G p1 p2 (λz=>hx (r1.AG.mp z)) (λz=>⟨.ref a,H,I,rfl,q1 (r2.AG.mp z)⟩) (λz=>?_) (by rw[<-r1.length,<-r2.length];exact hz);refine⟨.ref s.heap.objs.size,_,I.laid (λb ob q=>Qk _ q) (Qs _) ?_,rfl,q2 (λw=>z (r2.AG.mpr w)) _ (I.qI.fresh (Qs _))⟩;exact⟨by rw[QT];exact hz,_,r1.append r2,IsTup.new _ _⟩
end
noncomputable def PQ(n:Nat)(i:Int):Option Nat:=if 0<=i then(if i<n then Qa i.toNat else Qg)else if-(n:Int)<=i then Qa (i+n).toNat else Qg
def XA{α:Type}(xs:List α)(i:Int):Option α:=(PQ xs.length i).bind λj=>xs[j]?
def q5D{j:Nat}(h:PQ n i=Qa j):seqIndex? i n=Qa j/\j<n/\-(n:Int)<=i/\i<n:=by
 unfold PQ at h
 by_cases h0:0<=i
 .rw[if_pos h0]at h
  by_cases h1:i<n
  .rw[if_pos h1]at h;have e:=QY h;exact⟨by rw[seqIndex_of h0 h1,e],∅,∅,h1⟩
  .rw[if_neg h1]at h;cases h
 .rw[if_neg h0]at h
  by_cases h1:-(n:Int)<=i
  .rw[if_pos h1]at h;exact⟨by rw[seqIndex_neg ∅ h1,(QY h)],∅,h1,∅⟩
  .rw[if_neg h1]at h;cases h
def dJ{xs:List α}{v:α}(h:XA xs i=Qa v):∃j,seqIndex? i xs.length=Qa j/\xs[j]?=Qa v/\j<xs.length/\-(xs.length:Int)<=i/\i<xs.length:=by
 unfold XA at h;cases e:PQ xs.length i with
 |none=>rw[e]at h;cases h
 |some j=>
  rw[e]at h;refine wH (q5D e) λh1 h2 h3 h4=>?_;exact⟨j,h1,h,h2,h3,h4⟩
def E7(b:Expr):Prop:=∀o i,ZR b Qh o i=operate [o,i] (Vt o i)
def E5(X:Cx)(r:R2):Prop:=
 ∀(value slice:Expr)(pins:List (Addr×Obj))(s:Shared)(Y:St)(H:Hp)(x y:V)(v u:Value)(Q:VK),Inv X pins Y H s->RelV x v->RelV y u->r x y H Q->
  ZR slice Qh v u=operate [v,u] (Vt v u)->wpAny (model X.prog X.w) X.A (WQ value slice v u) (EP X pins Y Q) X.xe s
section
variable{a b:Expr}{ta tb:TE}
def q7Y(K:QL):R2:=λx y H Q=>∃p xs i v,x=.ref p/\y=.int i/\qv K H p xs/\XA xs i=Qa v/\Q v H
def q7Z(K:QL):R2:=λx y H Q=>∃p xs i v,x=.ref p/\y=.int i/\zZ K H p xs/\XA xs i=Qa v/\Q v H
def ng:E5 X (q7Y X.K):=by
 intro value slice pins s Y H x y v u Q I rx ry h hs;obtain⟨p,xs,i,z,rfl,rfl,hq,he,q⟩:=h;cases rx;obtain⟨t,rfl⟩:=ry;refine qV (I.list hq) λits r pl hz=>?_;refine xm (dJ he) λj h1 h2 h3 h4 h5=>?_;obtain⟨w,ew,vI⟩:=r.get h2;have hl:=r.length;have hn:=Ds;have fin:EP X pins Y Q w s:=⟨z,H,I,vI,q⟩
 by_cases h0:0<=i
 .have hj:i.toNat=j:=by rw[seqIndex_of h0 h5]at h1;exact QY h1
  exact item_listR pl.isList h0 ∅ (by rw[hj];simpa using ew) fin hs
 .have hj:(i+(its.toArray.size:Int)).toNat=j:=by rw[seqIndex_neg ∅ h4]at h1;rw[QB,<-hl];exact QY h1
  exact subscriptTail_builtinR pl.isList.typeIs Ze.lookup
   (wpAny_getItem_list_neg pl.isList ∅ (by rw[QB]<;>lia) ∅ (by rw[hj];simpa using ew) ⟨rfl,fin⟩) hs
def q5G:E5 X (q7Z X.K):=by
 intro value slice pins s Y H x y v u Q I rx ry h hs;obtain⟨p,xs,i,z,rfl,rfl,hq,he,q⟩:=h;cases rx;obtain⟨t,rfl⟩:=ry;refine qV (I.tuple hq) λits r pl hz=>?_;refine xm (dJ he) λj h1 h2 h3 h4 h5=>?_;obtain⟨w,ew,vI⟩:=r.get h2;have hn:=Ds;have fin:EP X pins Y Q w s:=⟨z,H,I,vI,q⟩
 exact subscriptTail_builtinR pl.typeIs slot_tuple_getitem.lookup
  (getItem_tuple pl ∅ ∅ (by rw[QB,<-r.length];exact h1) (by simpa using ew) ⟨rfl,fin⟩) hs
def q99(lo hi:Option Int)(n:Nat):(Ui lo hi Qg n).1=((HT.qr n 0 lo:Nat):Int)/\(Ui lo hi Qg n).2.1=((HT.qr n n hi:Nat):Int)/\(Ui lo hi Qg n).2.2=1:=by
 refine⟨?_,?_,rfl⟩
 .cases lo with
  |none=>simp[Ui,HT.qr]
  |some i=>
   simp only[Ui,HT.qr,Option.getD_none,show(1:Int)>0 by decide,if_true]
   by_cases h:i<0
   .simp only[h,if_true]<;>lia
   .simp only[h,if_false]<;>lia
 .cases hi with
  |none=>simp[Ui,HT.qr]
  |some i=>
   simp only[Ui,HT.qr,Option.getD_none,show(1:Int)>0 by decide,if_true]
   by_cases h:i<0
   .simp only[h,if_true]<;>lia
   .simp only[h,if_false]<;>lia
def q98(its:List Value)(lo hi:Option Int):ZK its.toArray lo hi Qg=((its.drop (HT.qr its.length 0 lo)).take (HT.qr its.length its.length hi-HT.qr its.length 0 lo)).toArray:=by obtain⟨h1,h2,h3⟩:=q99 lo hi its.toArray.size;unfold ZK;rw[h1,h2,h3];simp only[sliceRange_one,pick_run,QB]<;>rfl
def q7c(K:QL):V->Option Int->Option Int->Hp->VK->Prop:=λx lo hi H Q=>∃a xs,x=.ref a/\qv K H a xs/\∀p,H p=Qg->Q (.ref p) (upd H p (.q6 (Rn xs lo hi)))
def q95:cz X (q7c X.K):=by intro pins s Y H x v vl vu lo hi sl Q I rx hs pl pu h;refine qL h λa xs zz hx q=>?_;subst zz;cases rx;refine qV (I.list hx) λits r ht hz=>?_;have qT:=r.length;refine⟨"list",_,Ze.lookup,ht.isList.typeIs,?_⟩;refine wpAny_getItem_list_slice ht.isList hs pl pu .none (by simp) ?_ (by rw[QB]<;>lia);rw[q98,<-qT];refine⟨.ref s.heap.objs.size,_,I.laid (λb ob q=>Qk _ q) (Qs _) ?_,rfl,q _ (I.qI.fresh (Qs _))⟩;exact⟨Qx (LB xs lo hi) hz,_,0,(r.drop (HT.qr xs.length 0 lo)).take (HT.qr xs.length xs.length hi-HT.qr xs.length 0 lo),QH _ rfl⟩
def eS:E1 X (.builtin "len") (λxs H Q=>∃p ys,xs=[.ref p]/\(qv X.K H p ys\/zZ X.K H p ys)/\Q (.int ys.length) H):=by
 intro pins s Y H xs us Q I r h;refine qL h λp ys zz hq q=>?_;subst zz;obtain⟨u,rfl,rx⟩:=vals1 r;cases rx;have hn:=Ds;rcases hq with hq|hq
 .refine qV (I.list hq) λits r' pl hz=>?_;have qT:=r'.length;exact Calls.call_len_list pl.isList (by simp only[QB]<;>lia) ⟨.int ys.length,H,I.tok _,⟨s.toks+1,by rw[QB,qT]⟩,q⟩
 .refine qV (I.tuple hq) λits r' pl hz=>?_;have qT:=r'.length;exact len_tuple pl (by simp only[QB]<;>lia) ⟨.int ys.length,H,I.tok _,⟨s.toks+1,by rw[QB,qT]⟩,q⟩
def q2D:E1 X (.builtin "len") (λxs H Q=>∃z,xs=[.str z]/\z.length<=QI/\Q (.int z.length) H):=by intro pins s Y H xs us Q I r h;obtain⟨z,rfl,hz,q⟩:=h;obtain⟨u,rfl,t,rfl⟩:=vals1 r;have hn:=Ds;exact len_str ∅ ⟨.int z.length,H,I.tok _,⟨_,rfl⟩,q⟩
def eT:E1 X (.type "list") (λxs H Q=>∃p ys,xs=[.ref p]/\(qv X.K H p ys\/zZ X.K H p ys)/\∀l,H l=Qg->Q (.ref l) (upd H l (.q6 ys))):=by
 intro pins s Y H xs us Q I r h;refine qL h λp ys zz hq q=>?_;subst zz;obtain⟨u,rfl,rx⟩:=vals1 r;cases rx;have fin:∀(its:List Value),Vals ys its->ys.length<=QI->∀(h':Heap)(c':Nat),(∀b o',s.heap.get? b=Qa o'->h'.get? b=Qa o')->
   h'.get? s.heap.objs.size=Qa {cls:=.type "list",dict:=Qg,data:=.seq its.toArray c',slots:=#[]}->EP X pins Y Q (.ref s.heap.objs.size) {s with heap:=h'}:=λits r' hz h' c' kp e=>
  ⟨.ref s.heap.objs.size,_,I.laid kp (Qs _) (show jd X.prog X.w _ h' _ (.q6 ys) from⟨hz,its,c',r',e⟩),rfl,q _ (I.qI.fresh (Qs _))⟩
 rcases hq with hq|hq
 .refine qV (I.list hq) λits r' pl hz=>?_;have qT:=r'.length;obtain⟨o,ho,hc,n,hd⟩:=pl.isList;exact call_list_seq p (.inl rfl) ho hc hd (λh' c' kp e=>fin its r' hz h' c' kp e) (by simp<;>lia)
 .refine qV (I.tuple hq) λits r' pl hz=>?_;have qT:=r'.length;obtain⟨o,ho,hc,n,hd⟩:=pl;exact call_list_seq p (.inr rfl) ho hc hd (λh' c' kp e=>fin its r' hz h' c' kp e) (by simp<;>lia)
def eU:E1 X (.type "tuple") (λxs H Q=>∃p ys,xs=[.ref p]/\((qv X.K H p ys/\∀l,H l=Qg->Q (.ref l) (upd H l (.qA ys)))\/(zZ X.K H p ys/\Q (.ref p) H))):=by
 intro pins s Y H xs us Q I r h;obtain⟨p,ys,rfl,h⟩:=h;obtain⟨u,rfl,rx⟩:=vals1 r;cases rx;rcases h with⟨hq,q⟩|⟨hq,q⟩
 .refine qV (I.list hq) λits r' pl hz=>?_;have qT:=r'.length;refine call_tuple_list pl.isList (λh' kp=>?_) (by simp<;>lia);have I1:Inv X pins Y H {s with heap:=h'}:=I.kept (t':=s.toks) kp;have I2:Inv X pins Y (upd H h'.objs.size (.qA ys)) {s with heap:=h'.push {cls:=.type "tuple",data:=.seq its.toArray}}:=
   I1.laid (t':=s.toks) (λb o e=>Qk _ e) (Qs _) (⟨hz,its,r',IsTup.new _ _⟩)
  exact⟨.ref h'.objs.size,_,I2,rfl,q _ (I1.qI.fresh (Qs _))⟩
 .refine qV (I.tuple hq) λits r' pl hz=>?_;exact call_tuple_same pl ⟨.ref p,H,I,rfl,q⟩
def tyV(K:QL)(T:String)(x:V)(H:Hp):Prop:=match x with
 |.str _=>T="str"
 |.int _=>T="int"
 |.ref p=>(T="list"/\∃xs,qv K H p xs)\/(T="tuple"/\∃o,K.lookup p=Qa o/\o.cls=.type "tuple"/\o.dict=Qg)\/
   (T="dict"/\((∃kvs,H p=Qa (.dK kvs))\/∃kvs,H p=Qa (.dT kvs)))\/(T="set"/\∃S n,H p=Qa (.set S n))
 |_=>False
def Cu{T:String}{x:V}{v:Value}(I:Inv X pins Y H s)(r:RelV x v)(ty:tyV X.K T x H):
  s.TypeIs v T/\∀a,v=.ref a->∃ob,s.heap.get? a=Qa ob/\ob.dict=Qg:=by
 cases x with
 |str z=>
  obtain⟨t,rfl⟩:=r;cases ty;exact⟨typeIs_str s z t,λ_ e=>nomatch e⟩
 |int i=>
  obtain⟨t,rfl⟩:=r;cases ty;exact⟨FL s i t,λ_ e=>nomatch e⟩
 |ref p=>
  cases r;rcases ty with⟨rfl,xs,hq⟩|⟨rfl,o,hk,hc,hd⟩|⟨rfl,hk⟩|⟨rfl,S,n,hk⟩
  .refine qV (I.list hq) λits _ pl _=>?_;refine⟨pl.isList.typeIs,λa e=>?_⟩;cases e;refine zK pl λo n e c hd _=>?_;exact⟨o,e,hd⟩
  .refine⟨⟨o,I.vU p o hk,hc⟩,λa e=>?_⟩;cases e;exact⟨o,I.vU _ o hk,hd⟩
  .have z:∃o,s.heap.get? p=Qa o/\o.ExactDict:=by
    rcases hk with⟨kvs,hk⟩|⟨kvs,hk⟩
    .obtain⟨_,_,_,_,o,_,_,e,ex,_⟩:=I.qI p _ hk;exact⟨o,e,ex⟩
    .obtain⟨_,_,_,_,o,_,_,e,ex,_⟩:=I.qI p _ hk;exact⟨o,e,ex⟩
   obtain⟨o,e,ex⟩:=z;refine⟨⟨o,e,ex.1⟩,λa e2=>?_⟩;cases e2;exact⟨o,e,ex.2.1⟩
  .obtain⟨o,_,_,_,e,ex,_⟩:=I.qI p _ hk;refine⟨⟨o,e,ex.1⟩,λa e2=>?_⟩;cases e2;exact⟨o,e,ex.2.1⟩
 |_=>exact YW ty
variable{o:Expr}{es:List Expr}{to:TE}{t:TA}{name:Str}{q1Q LA:Pos}{T id:String}{r:V->List V->Hp->VK->Prop}
end
def cq(X:Cx)(id:String)(r:V->List V->Hp->VK->Prop):Prop:=
 ∀(pins:List (Addr×Obj))(s:Shared)(Y:St)(H:Hp)(x:V)(xs:List V)(v:Value)(us:List Value)(Q:VK),Inv X pins Y H s->RelV x v->Vals xs us->r x xs H Q->
  wpAny (model X.prog X.w) X.A (call (.builtin id) (v::us)) (EP X pins Y Q) X.xe s
theorem Vals.one:∀{x:V}{us:List Value},Vals [x] us->∃u,us=[u]/\RelV x u
 |_,_,.cons r .nil=>⟨_,rfl,r⟩
theorem Vals.zero:∀{us:List Value},Vals [] us->us=[]
 |_,.nil=>rfl
theorem Vals.dropLast(h:Vals xs us):Vals xs.dropLast us.dropLast:=by
 induction h with
 |nil=>exact .nil
 |cons r t ih=>
  cases t with
  |nil=>exact .nil
  |cons q t'=>exact .cons r ih
theorem Vals.reverse(h:Vals xs us):Vals xs.reverse us.reverse:=by
 induction h with
 |nil=>exact .nil
 |cons r t ih=>rw[Jm,Jm];exact Vals.append ih (.cons r .nil)
theorem Vals.rep(h:Vals xs us):∀k:Nat,Vals (Qr k xs).flatten (Qr k us).flatten
 |0=>.nil
 |k+1=>by rw[Yz,Yz,Jq,Jq];exact Vals.append h (Vals.rep h k)
def q2z(l:List α):l.eraseIdx (l.length-1)=l.dropLast:=by
 induction l with
 |nil=>rfl
 |cons a r ih=>
  cases r with
  |nil=>rfl
  |cons b r=>
   have e:(a::b::r).length-1=((b::r).length-1)+1:=by have h1:(a::b::r).length=r.length+2:=rfl;have h2:(b::r).length=r.length+1:=rfl;lia
   rw[e,List.eraseIdx_cons_succ,ih]
   all_goals rfl
section
variable{l b:Addr}{ys zs:List V}
def Inv.Sv{its R7:List Value}{n:Nat}{f:Array Value->Array Value}{t':Nat}(I:Inv X pins Y H s)(hH:H l=Qa (.q6 xs))
  (e:s.heap.get? l=Qa {cls:=.type "list",data:=.seq its.toArray n}) (hf:f its.toArray=R7.toArray) (hv:Vals ys R7) (hz:ys.length<=QI):
  Inv X pins Y (upd H l (.q6 ys)) {s with heap:=s.heap.update l (Q9 f),toks:=t'}:=by
 have q:=PySem.IsL.update e f;rw[hf]at q;refine I.write (by rw[hH];exact trivial) (.inl rfl) (λb' u hb hu=>(JM s.heap (Q9 f) (JQ hb)).trans hu) ⟨_,q⟩ ?_;exact⟨hz,R7,_,hv,q⟩
def Inv.Dw{its:List Value}{t':Nat}(I:Inv X pins Y H s)(hv:Vals ys its)(hz:ys.length<=QI):
  Inv X pins Y (upd H s.heap.objs.size (.q6 ys)) {s with heap:=s.heap.push {cls:=.type "list",data:=.seq its.toArray},toks:=t'}:=
 I.laid (λ_ _ q=>Qk _ q) (Qs _) ⟨hz,its,0,hv,QH _ rfl⟩
theorem Inv.fresh(I:Inv X pins Y H s):H s.heap.objs.size=Qg:=I.qI.fresh (Qs _)
def Inv.Sy(I:Inv X pins Y H s)(hH:H l=Qa (.q6 xs)):xs.length<=QI/\∃(its:List Value)(n:Nat),Vals xs its/\xs.length=its.length/\s.heap.get? l=Qa {cls:=.type "list",data:=.seq its.toArray n}:=by obtain⟨z,its,n,r,e⟩:=I.qI l _ hH;exact⟨z,its,n,r,r.length,e⟩
def q6X(h:n<=QI):Yh n=Qh:=by unfold Yh;exact decide_eq_false ∅
end
def q7T:V->List V->Hp->VK->Prop:=λx vs H Q=>∃l xs y,x=.ref l/\vs=[y]/\H l=Qa (.q6 xs)/\xs.length<QI/\Q .qE (upd H l (.q6 (xs++[y])))
def A9:cq X "list.append" q7T:=by intro pins s Y H x vs v us Q I rx rv h;obtain⟨l,xs,y,rfl,rfl,hH,hz,q⟩:=h;cases rx;obtain⟨u,rfl,ru⟩:=rv.one;obtain⟨z,its,n,r,hl,e⟩:=I.Sy hH;refine UX F.slot_list_append ⟨_,e,rfl⟩ F.entry_list_append (F.args_list_append_2 _ _) (PySem.list_append l its.toArray n u (by rw[QB];lia)) ⟨e,?_⟩;refine⟨.qE,_,I.Sv hH e (by simp) (r.append (.cons ru .nil)) ?_,rfl,q⟩;rw[QT,UJ];lia
def q7a:V->List V->Hp->VK->Prop:=λx vs H Q=>∃l xs y,x=.ref l/\vs=[]/\H l=Qa (.q6 xs)/\xs[xs.length-1]?=Qa y/\Q y (upd H l (.q6 xs.dropLast))
def q6G:cq X "list.pop" q7a:=by
 intro pins s Y H x vs v us Q I rx rv h;obtain⟨l,xs,y,rfl,rfl,hH,hy,q⟩:=h;cases rx;have hus:=rv.zero;subst hus;obtain⟨z,its,n,r,hl,e⟩:=I.Sy hH;obtain⟨u,hu,ru⟩:=r.get hy;have Xa:its.toArray[its.toArray.size-1]?=Qa u:=by show its.toArray[its.length-1]?=Qa u;rw[<-YN,<-hl];exact hu
 refine UX F.slot_list_pop ⟨_,e,rfl⟩ F.entry_list_pop (F.args_list_pop_1 _) (MeetsSeq.list_pop_last l its.toArray n u Xa (by rw[QB];lia)) ⟨e,?_⟩;refine⟨y,_,I.Sv hH e ?_ r.dropLast ?_,ru,q⟩
 .
  rw[QB,List.eraseIdxIfInBounds_toArray,q2z]
 .rw[List.length_dropLast];lia
def len_rep(xs:List α)(k:Nat):(Qr k xs).flatten.length=k*xs.length:=by
 induction k with
 |zero=>simp
 |succ k ih=>rw[Yz,Jq,QT,ih,Nat.succ_mul,Nat.add_comm]
end L2
namespace Att
open PySem PySem.W PySem.Calls PyProof.Rows
variable{P:Params}{h:Heap}{l:OpenLaw}{n:Nat}
def q4c:∀(ns:List Int)(vs:List Value),WellAll P h vs (ns.map WData.int)->IntsAre vs ns:=by
 intro ns
 induction ns with
 |nil=>
  intro vs w;rw[Y9]at w;cases w;exact .nil
 |cons n ns ih=>
  intro vs w;rw[Qw]at w;cases w with
  |cons a b=>
   cases a;exact .cons _ _ (ih _ b)
def q8L(hn:l.most=Qa n){args:List WData}{zj:List Value}
  (GG:l.row.toRowW.claim.pre args=Qd) (yh:WellAll P h zj args):
  ∃a vs ns,zj=[Y6 a]/\args=[WData.list (ns.map WData.int)]/\h.get? a=Qa {cls:=.type "list",data:=.seq vs.toArray}/\IntsAre vs ns/\ns.length<=n:=by
 have hc:l.pre.holds [] {args:=args}=Qd:=(pre_splitW GG).2;refine qL (hasAllW_cons ((pre_splitW GG).1)) λd r zz h1 h2=>?_;subst zz;obtain rfl:=hasAllW_nil h2;refine qR (hasW_list h1) λxs zz h3=>?_;subst zz;obtain⟨ns,rfl⟩:=items_int h3;have qT:ns.length<=n:=by
  unfold OpenLaw.pre at hc;have h4:(WTm.not (.lt (.lit (.int (n:Int))) (.len (.arg 0)))).holds [] {args:=[.list (ns.map .int)]}=Qd:=by have h4:=(holds_andW hc).1;rw[hn]at h4;exact h4
  have h5:=condW_of h4 (w_not (w_lt w_lit (w_len_list (w_arg rfl))));rw[Qm]at h5;refine Nat.le_of_not_lt λq=>?_
  first
   |(rw[decide_eq_true ∅]at h5;exact absurd h5 (by decide))
   |(simp at h5;lia)
 cases yh with
 |cons w1 w2=>
  cases w2;cases w1 with
  |list ho Tb=>exact⟨_,_,ns,rfl,rfl,ho,q4c ns _ Tb,qT⟩
def q7P(l:OpenLaw)(args:List WData):l.row.toRowW.claim.post args (.bool Qd) args=Qd:=
 postW_of
  (by first|rfl|decide|simp[WShape.has,WShape.arms,WShape.armsAll])
  (w_eq_bool (w_res rfl) w_lit) rfl
def q1X{q:Program}{loose:List Str}{XP:(Str->Option Value)->Heap->Prop}{YP:World->Heap->Prop}{d:DefRec}
  (hn:l.most=Qa n) (ub:d.params.defaults=[])
  (call:∀(w:World)(s₀ s₁:Shared)(mg mb:Str->Option Value)(fa:Addr)(o:Obj)(pm cd doc:Value)(a:Addr)(vs:List Value)(ns:List Int),
   Ground q loose [] XP w s₀ mg mb s₁.heap->YP w s₁.heap->
   s₁.heap.get? fa=Qa o->o.data=.func (docDef d.name d.params d.body d.scope pm cd doc)->s₁.heap.CodeRec cd d.name->mg d.name=Qa (.ref fa)->
   s₁.heap.get? a=Qa {cls:=.type "list",data:=.seq vs.toArray}->IntsAre vs ns->ns.length<=n->s₁.gens=#[]->
   codeAny (model l.prog w) WA (.call (.ref fa) ⟨[.ref a],[]⟩) (λr s'=>r=.ok (.ret (.bool Qd))/\OldK s₁.heap s'.heap/\s'.os=s₁.os/\AllBare s'.gens) s₁):
  WalkO q loose XP YP l.row.toRowW d [] (λf vs=>PySem.call f vs):=by
 intro w s₀ s₁ mg mb G Y fa o pm cd doc dV kV ho hd z8 hD DS hg args zj as GG hlay hrd yh Tt;obtain rfl:dV=.none:=Dflts.none hD ub;obtain rfl:kV=.none:=Dflts.noKw hD;obtain⟨a,vs,ns,rfl,rfl,Oa,OM,qT⟩:=q8L hn GG yh;refine enter_call (Vh (call w s₀ s₁ mg mb fa o pm cd doc a vs ns G Y ho (fd_plain hd) z8 DS Oa OM qT hg) λr s' hq=>?_);obtain⟨rfl,h2,h3,h4⟩:=hq;exact⟨.inl ⟨.bool Qd,.bool Qd,[],rfl,λ_=>rfl,.bool Qd,q7P l _,λ_=>⟨Jt,λ_ hm=>(nomatch hm)⟩⟩,h2,h3,h4⟩
end Att
namespace L2
open PySem PySem.Spec PyProof.Rows
variable{P:Program}{w:World}{K:QL}{mg:Str->Option Value}{fd:FuncData}{x qual:Str}{st:Stmt}
theorem q16:∀{vs:List Value}{ns:List Int},IntsAre vs ns->Vals (ns.map V.int) vs
 |_,_,.nil=>.nil
 |_,_,.cons n t h=>.cons ⟨t,rfl⟩ (q16 h)
def IV(H:Hp):Prop:=∀b,H b=Qg\/∃o xs,H b=Qa (.frz o (.q6 xs))
def q5a{P:Program}{w:World}{mb:Str->Option Value}{CX:uN}{k:Nat}{fa a:Addr}{fd:FuncData}{sp:Sp}{s₁:Shared}{vs:List Value}{ns:List Int}
  (KX:K.In s₁.heap) (yg:s₁.heap.Ns mainGlobals mg) (hb:s₁.heap.Ns builtinsNs mb) (hbb:∀x:Str,x≠"__name__"->mb x=bootBuiltins x) (q4M:s₁.heap.NoLimit) (hg:s₁.gens=#[])
  (ha:s₁.heap.get? a=Qa {cls:=.type "list",data:=.seq vs.toArray}) (hi:IntsAre vs ns) (hl:ns.length<=QI) (hr:Room k WA)
  (F:∀base:Heap,K.In base->base.Ns mainGlobals mg->FnOk P w K mg base CX k fa fd [x] sp) (q4E:∀(s:Shared)(u:Value),BindsTo s fd ⟨[u],[]⟩ [(x,u)])
  (xM:∀H:Hp,IV H->qv K H a (ns.map V.int)->sp [.ref a] H (λv _=>v=.bl Qd) λ_ _ _=>False)
  (O9:∀H e s',CX [] H s₁ (λ_ _ _=>False) e s'->False):
  codeAny (model P w) WA (.call (.ref fa) ⟨[.ref a],[]⟩) (λr s'=>r=.ok (.ret (.bool Qd))/\OldK s₁.heap s'.heap/\s'.os=s₁.os/\AllBare s'.gens) s₁:=by
 have rv:=q16 hi;have L9:∀H:Hp,IV H->qv K H a (ns.map V.int)->zW P w H s₁.heap->(∀b,H b≠Qg->b=a)->(H a≠Qg->K.lookup a=Qg)->
   codeAny (model P w) WA (.call (.ref fa) ⟨[.ref a],[]⟩) (λr s'=>r=.ok (.ret (.bool Qd))/\OldK s₁.heap s'.heap/\s'.os=s₁.os/\AllBare s'.gens) s₁:=by
  intro H hO hS qI hA hK;have dR:∀{b:Addr}{o:Obj},s₁.heap.get? b=Qa o->H b=Qg->(ue s₁.heap H).get? b=Qa o:=λe n=>q4J e n;have CH:∀{b:Addr}{o:Obj}{es:Array DictEntry}{ep:Nat},s₁.heap.get? b=Qa o->o.data=.dict es ep->H b=Qg:=λ{b o es ep} e d=>by
   cases q:H b with
   |none=>rfl
   |some u=>
    have e':=hA b (by rw[q];simp);subst e';rw[ha]at e;cases e;cases d
  have AJ:∀{b:Addr}{m:Str->Option Value},s₁.heap.Ns b m->(ue s₁.heap H).Ns b m:=λ{b m}⟨o,es,ep,e,d,r⟩=>⟨o,es,ep,dR e (CH e d),d,r⟩
  have lZ:K.In (ue s₁.heap H):=λb o e=>dR (KX b o e) (by
   cases q:H b with
   |none=>rfl
   |some u=>
    have e':=hA b (by rw[q];simp);subst e';rw[hK (by rw[q];simp)]at e;cases e)
  have hM:Mod K mg (ue s₁.heap H):=⟨lZ,AJ yg,⟨mb,AJ hb,hbb⟩,let⟨mc,h1,h2⟩:=q4M;⟨mc,AJ h1,h2⟩⟩
  have e0:Env0 P w K mg (ue s₁.heap H) WA [] s₁ H:=⟨rfl,hM,λb o e=>q6f e,Nat.le_of_eq (q4K _ _),trivial,λb hb=>absurd (show b∈([]:List Addr) from hb) (by simp),qI,.of_eq hg⟩
  refine Vh ((F _ lZ (AJ yg)).run WA [] s₁ H ⟨[.ref a],[]⟩ [.ref a] [.ref a] _ _ hr e0 (q4E s₁ (.ref a)) (.cons rfl .nil) (xM H hO hS)) λr s' h=>?_;cases r with
  |error e=>exact(O9 H e s' h).elim
  |ok fl=>
   cases fl with
   |next=>exact YW h
   |brk=>exact YW h
   |cont=>exact YW h
   |ret u=>
    obtain⟨v,H',os,bare,un,q4S,r',q⟩:=h;have q':=q;subst q';obtain rfl:u=W9 Qd:=r';refine⟨rfl,OldK.of_keep λb o e=>?_,os,bare⟩;cases q:H b with
    |none=>exact un.keep b o e q (by intro z;exact absurd (show b∈([]:List Addr) from z) (by simp)) (by simp)
    |some u=>
     rcases hO b with z|⟨ob,xs,z⟩
     .rw[q]at z;cases z
     .
      obtain⟨e1,_⟩:=qI b _ z;obtain⟨e2,_⟩:=q4S b _ (un.wq b ob _ z);rw[e]at e1;cases e1;exact e2
 cases hk:K.lookup a with
 |some o=>
  have e:=KX a o hk;rw[ha]at e;cases e;refine L9 (λ_=>Qg) (λ_=>.inl rfl) (.inr ⟨_,vs.toArray,_,hk,rfl,rfl,rfl,by rw[QB,hi.length];exact hl,by simpa using rv⟩) (λb u z=>by have z':(Qg:Option HO)=Qa u:=z;cases z') (λb z=>absurd rfl z) λz=>absurd rfl z
 |none=>
  refine L9 (λb=>if b=a then Qa (.frz {cls:=.type "list",data:=.seq vs.toArray} (.q6 (ns.map V.int)))else Qg) (λb=>?_) (.inl (.inr ⟨{cls:=.type "list",data:=.seq vs.toArray},if_pos rfl⟩)) (λb u z=>?_) (λb z=>?_) λ_=>hk
  .by_cases hb:b=a
   .exact .inr ⟨_,_,if_pos hb⟩
   .exact .inl (if_neg hb)
  .by_cases hb:b=a
   .have z':=(if_pos hb).symm.trans z;cases z';subst hb;exact⟨ha,by rw[Qm];exact hl,vs,_,rv,ha⟩
   .
    cases((if_neg hb).symm.trans z)
  .by_cases hb:b=a
   .exact hb
   .exact absurd (if_neg hb) z
abbrev Fe{K:QL}{h:Heap}(_:K.In h):QL:=K
def qAW{l:WK}{n k:Nat}{q:Program}{loose:List Str}{XP:(Str->Option Value)->Heap->Prop}{YP:World->Heap->Prop}{d:DefRec}{K:Params->QL}{CX:World->uN}{sp:World->Sp}
  (hn:l.most=Qa n) (mP:n<=QI) (ub:d.params.defaults=[]) (hr:Room k WA)
  (hY:∀(w:World)(h:Heap),YP w h->(K w.params).In h)
  (F:∀(w:World)(mg:Str->Option Value)(fa:Addr)(h:Heap),(K w.params).In h->h.Ns mainGlobals mg->mg d.name=Qa (.ref fa)->
   ∃fd:FuncData,(∀(s:Shared)(u:Value),BindsTo s fd ⟨[u],[]⟩ [(x,u)])/\
    ∀base:Heap,(K w.params).In base->base.Ns mainGlobals mg->FnOk l.prog w (K w.params) mg base (CX w) k fa fd [x] (sp w))
  (xM:∀(w:World)(H:Hp)(a:Addr)(ns:List Int),ns.length<=n->IV H->qv (K w.params) H a (ns.map V.int)->sp w [.ref a] H (λv _=>v=.bl Qd) λ_ _ _=>False)
  (O9:∀(w:World)(H:Hp)(s:Shared)(e:Value)(s':Shared),CX w [] H s (λ_ _ _=>False) e s'->False):
  PySem.W.WalkO q loose XP YP l.row.toRowW d [] (λf vs=>PySem.call f vs):=by
 refine Att.q1X hn ub λw s₀ s₁ mg mb fa o pm cd doc a vs ns G Y ho hd z8 DS Oa OM qT hg=>?_;have KX:=hY w _ Y;obtain⟨fd,hb,hF⟩:=F w mg fa _ KX G.T.g DS;exact q5a KX G.T.g G.T.b G.T.builtins G.T.nolimit hg Oa OM (Qx qT mP) hr hF hb (λH hO hS=>xM w H a ns qT hO hS) λH e s'=>O9 w H s₁ e s'
def TH(s:Stmt):Arguments:=match s with
 |.FunctionDef _ a _ _ _ _ _ _ _ _=>a
 |_=>{posonlyargs:=[],args:=[],vararg:=Qg,kwonlyargs:=[],kw_defaults:=[],kwarg:=Qg,defaults:=[]}
def uT(s:Stmt):List Stmt:=match s with
 |.FunctionDef _ _ b _ _ _ _ _ _ _=>b
 |_=>[]
noncomputable def yy(s:Stmt):Scope:=match s with
 |.FunctionDef _ _ _ _ _ _ sc _ _ _=>sc
 |_=>{kind:=.function,names:=[],isGenerator:=Qh,isCoroutine:=Qh}
structure Fun(K:QL)(x qual:Str)(st:Stmt)(f:Addr)(fd:FuncData):Prop where
 ex:∃(oc:Value)(od:Option Addr)(kV doc pm:Value)(an:Option Addr)(ze ct:Value)(wR:Array (Option Value)),
  fd=J9 x qual (TH st) (uT st) (yy st) .none kV doc pm an ze ct/\K.lookup f=Qa ⟨oc,od,.func fd,wR⟩/\UY K ze qual=Qd
 kp:Yt K (.ref f)=Qd
section
variable{base:Heap}
def Fun.binds{f:Addr}{ps:List Str}(F:Fun K x qual st f fd)
  (h:∀(kV doc pm:Value)(an:Option Addr)(ze ct:Value)(us:List Value),us.length=ps.length->bindArgs (J9 x qual (TH st) (uT st) (yy st) .none kV doc pm an ze ct) ⟨us,[]⟩=pure (ps.zip us)):Binds K fd ps []:=by
 obtain⟨oc,od,kV,doc,pm,an,ze,ct,wR,rfl,lk,z8⟩:=F.ex;exact .all (h kV doc pm an ze ct)
def q3Y{f:Addr}{oc:Value}{od an:Option Addr}{wR:Array (Option Value)}{kV doc pm ze ct:Value}(l:K.lookup f=Qa ⟨oc,od,.func (J9 x qual (TH st) (uT st) (yy st) .none kV doc pm an ze ct),wR⟩)
  (c:UY K ze qual=Qd) (k:Yt K (.ref f)=Qd):Fun K x qual st f (J9 x qual (TH st) (uT st) (yy st) .none kV doc pm an ze ct):=⟨⟨oc,od,kV,doc,pm,an,ze,ct,wR,rfl,l,c⟩,k⟩
end
end L2
namespace Ev
def oB{α β:Type}{o:Option α}{f:α->Option β}{b:β}(h:o.bind f=Qa b):∃a,o=Qa a/\f a=Qa b:=Option.bind_eq_some_iff.mp h
def oM{α β:Type}{o:Option α}{f:α->β}{b:β}(h:o.map f=Qa b):∃a,o=Qa a/\f a=b:=YF.mp h
def oC{α β:Type}{o:Option α}{f:α->Option β}{b:β}{C:Prop}(h:o.bind f=Qa b)(k:∀a,o=Qa a->f a=Qa b->C):C:=(oB h).elim λa h=>k a h.1 h.2
def nS{α:Type}{l:α}{β:Prop}(h:Qg=Qa l):β:=nomatch h
open PySem
inductive D where
 |qE|bl (b:Bool)|int (i:Int)|str (x:Str)|qA (xs:List D)|q6 (xs:List D)|qJ (ks vs:List D)|exc (c:Nat)
 deriving Inhabited
inductive R(α:Type)where
 |ok (a:α)|err (c:Nat)|q9
 deriving Inhabited
def nR{α:Type}{a:α}{β:Prop}(h:R.q9=.ok a):β:=nomatch h
def R.bind{α β:Type}:R α->(α->R β)->R β
 |.ok a,f=>f a
 |.err c,_=>.err c
 |.q9,_=>.q9
@[simp]def qB{α β:Type}(a:α)(f:α->R β):(R.ok a).bind f=f a:=rfl
@[simp]def qB3{α β:Type}(c:Nat)(f:α->R β):(R.err c).bind f=.err c:=rfl
@[simp]def qB4{α β:Type}(f:α->R β):(R.q9:R α).bind f=.q9:=rfl
def b2i(b:Bool):Int:=if b then 1 else 0
mutual
noncomputable def qD:D->D->Bool
 |.qE,.qE=>Qd
 |.bl a,.bl b=>a==b
 |.int a,.int b=>decide (a=b)
 |.bl a,.int b=>decide (b2i a=b)
 |.int a,.bl b=>decide (a=b2i b)
 |.str a,.str b=>decide (a=b)
 |.qA a,.qA b=>z6 a b
 |.q6 a,.q6 b=>z6 a b
 |_,_=>Qh
noncomputable def z6:List D->List D->Bool
 |[],[]=>Qd
 |a::l,b::m=>qD a b&&z6 l m
 |_,_=>Qh
end
noncomputable def qK:Nat->D->Bool
 |_,.qE=>Qd
 |_,.bl _=>Qd
 |_,.int _=>Qd
 |_,.str _=>Qd
 |k+1,.qA a=>a.all (qK k)
 |k+1,.q6 a=>a.all (qK k)
 |_,_=>Qh
def pl(d:D):Bool:=qK 8 d
def zU(l:List D):Bool:=l.all pl
mutual
noncomputable def qU:D->D->Bool
 |.int a,.int b=>decide (a<b)
 |.qA a,.qA b=>qt a b
 |.q6 a,.q6 b=>qt a b
 |_,_=>Qh
noncomputable def qt:List D->List D->Bool
 |[],_::_=>Qd
 |a::l,b::m=>if qD a b then qt l m else qU a b
 |_,[]=>Qh
end
mutual
def zC:D->D->Bool
 |.int _,.int _=>Qd
 |.qA a,.qA b=>jl a b
 |.q6 a,.q6 b=>jl a b
 |_,_=>Qh
def jl:List D->List D->Bool
 |a::l,b::m=>if qD a b then jl l m else zC a b
 |_,_=>Qd
end
mutual
def qH:D->Bool
 |.int _=>Qd
 |.qA a=>qx a
 |_=>Qh
def qx:List D->Bool
 |[]=>Qd
 |a::l=>qH a&&qx l
end
def ins(x:D):List D->List D
 |[]=>[x]
 |y::l=>if qU x y then x::y::l else y::ins x l
def jP:List D->List D
 |[]=>[]
 |x::l=>ins x (jP l)
noncomputable def vg(p:D->D->Bool)(l:List D):Bool:=l.all λa=>l.all λb=>p a b
def dedup:List D->List D
 |[]=>[]
 |x::l=>if l.any (qD x)then dedup l else x::dedup l
def Pt(l:List D):Bool:=decide ((dedup l).length=l.length)
noncomputable def tr:D->R Bool
 |.qE=>.ok Qh
 |.bl b=>.ok b
 |.int i=>.ok (i !=0)
 |.str x=>.ok (x.length !=0)
 |.qA xs=>.ok (!xs.isEmpty)
 |.q6 xs=>.ok (!xs.isEmpty)
 |.qJ _ _=>.q9
 |.exc _=>.q9
inductive Op2 where|add|sub|mul|fdiv|mod|shl|shr|band|bor
 deriving DecidableEq
inductive Cm where|eq|ne|lt|le|gt|ge|R5|AI|mem|yK
 deriving DecidableEq
inductive Bi where
 |len|sorted|jS|tuple|list|all|bits|count|index|any|isTup|PN|isInt|isBool|isVal|isExc (c:Nat)
 deriving DecidableEq
def big:Nat:=1000000
def yH(f:List D->R D):D->R D
 |.q6 xs=>f xs
 |_=>.q9
noncomputable def intD(f:Int->R D):D->R D
 |.int i=>f i
 |_=>.q9
def q0t(f:List D->R D):D->R D
 |.qA xs=>f xs
 |_=>.q9
def aq(r:R D):D->R D
 |.qE=>r
 |_=>.q9
def q1H(x y:D):R D:=match x with
 |.int a=>intD (λb=>.ok (.int (a+b))) y
 |.q6 a=>yH (λb=>if a.length+b.length<=big then .ok (.q6 (a++b))else .q9) y
 |.qA a=>q0t (λb=>if a.length+b.length<=big then .ok (.qA (a++b))else .q9) y
 |_=>.q9
def q6H(x y:D):R D:=match x with
 |.int a=>intD (λb=>if(-(2^62)<a/\a<2^62)\/(-(2^62)<b/\b<2^62)then .ok (.int (a*b))else .q9) y
 |.q6 a=>intD (λk=>if 0<=k/\k<=1000/\a.length*k.toNat<=big then .ok (.q6 (Qr k.toNat a).flatten)else .q9) y
 |_=>.q9
noncomputable def jh:Op2->Int->Int->R D
 |.sub,a,b=>.ok (.int (a-b))
 |.fdiv,a,b=>if 0<b/\b<1073741824 then .ok (.int (a/b))else .q9
 |.mod,a,b=>if 0<b then .ok (.int (a %b))else .q9
 |.shl,a,b=>if 0<=a/\a<2^62/\0<=b/\b<=1000 then .ok (.int ((a.toNat<<<b.toNat:Nat):Int))else .q9
 |.shr,a,b=>if 0<=a/\0<=b then .ok (.int ((a.toNat>>>b.toNat:Nat):Int))else .q9
 |.band,a,b=>if 0<=a/\0<=b then .ok (.int ((a.toNat&&&b.toNat:Nat):Int))else .q9
 |.bor,a,b=>if 0<=a/\0<=b then .ok (.int ((a.toNat|||b.toNat:Nat):Int))else .q9
 |_,_,_=>.q9
def zD(o:Op2)(x y:D):R D:=match o with
 |.add=>q1H x y
 |.mul=>q6H x y
 |_=>intD (λa=>intD (jh o a) y) x
def RG(o:Op2)(h:o≠.add)(h2:o≠.mul)(a b:Int):zD o (.int a) (.int b)=jh o a b:=by
 unfold zD;split
 .cases h rfl
 .cases h2 rfl
 .dsimp only[intD]
def memD(x:D):D->R Bool
 |.q6 xs=>if pl x&&zU xs then .ok (xs.any λy=>qD y x)else .q9
 |.qA xs=>if pl x&&zU xs then .ok (xs.any λy=>qD y x)else .q9
 |.qJ ks _=>match x with
  |.int i=>.ok (ks.any λy=>qD y (.int i))
  |_=>.q9
 |_=>.q9
def qc(o:Cm)(a b:D):R D:=match o with
 |.eq=>if pl a&&pl b then .ok (.bl (qD a b))else .q9
 |.ne=>if pl a&&pl b then .ok (.bl (!qD a b))else .q9
 |.lt=>if pl a&&pl b&&qH a&&qH b&&zC a b then .ok (.bl (qU a b))else .q9
 |.gt=>intD (λa=>intD (λb=>.ok (.bl (decide (b<a)))) b) a
 |.le=>intD (λa=>intD (λb=>.ok (.bl (decide (a<=b)))) b) a
 |.ge=>if pl a&&pl b&&qH a&&qH b&&zC a b then .ok (.bl (!qU a b))else .q9
 |.R5=>aq (.ok (.bl (match a with|.qE=>Qd|_=>Qh))) b
 |.AI=>aq (.ok (.bl (match a with|.qE=>Qh|_=>Qd))) b
 |.mem=>(memD a b).bind λr=>.ok (.bl r)
 |.yK=>(memD a b).bind λr=>.ok (.bl (!r))
noncomputable def yL(xs:List D)(i:Int):R D:=
 match(if 0<=i then xs[i.toNat]?else if-(xs.length:Int)<=i then xs[(i+xs.length).toNat]?else Qg)with
 |some d=>.ok d
 |none=>.q9
noncomputable def look(i:Int):List D->List D->R D
 |.int k::ks,v::vs=>if k=i then .ok v else look i ks vs
 |_,_=>.q9
noncomputable def put(i:Int)(x:D):List D->List D->R (List D×List D)
 |[],[]=>.ok ([.int i],[x])
 |.int k::ks,v::vs=>if k=i then .ok (.int k::ks,x::vs)else(put i x ks vs).bind λr=>.ok (.int k::r.1,v::r.2)
 |_,_=>.q9
def jo:D->D->R D
 |.q6 xs,.int i=>yL xs i
 |.qA xs,.int i=>yL xs i
 |.qJ ks vs,.int i=>look i ks vs
 |_,_=>.q9
noncomputable def yX(n d:Nat):Option Int->Nat
 |none=>d
 |some v=>if v<0 then(v+n).toNat else min v.toNat n
def jM{α:Type}(xs:List α)(lo hi:Option Int):List α:=(xs.drop (yX xs.length 0 lo)).take (yX xs.length xs.length hi-yX xs.length 0 lo)
noncomputable def q0p{α:Type}:List α->List α
 |[]=>[]
 |[a]=>[a]
 |[a,_]=>[a]
 |a::_::_::l=>a::q0p l
def yo(st:Nat)(lo hi:Option Int):D->R D
 |.q6 xs=>if st=0 then .ok (.q6 (jM xs lo hi))else if st=1 then .ok (.q6 xs.reverse)else if st=3 then .ok (.q6 (q0p xs))else .q9
 |.qA xs=>if st=0 then .ok (.qA (jM xs lo hi))else .q9
 |_=>.q9
noncomputable def ints?:List D->Option (List Int)
 |[]=>Qa []
 |.int i::l=>(ints? l).map (i::·)
 |_=>Qg
noncomputable def bools?:List D->Option (List Bool)
 |[]=>Qa []
 |.bl i::l=>(bools? l).map (i::·)
 |_=>Qg
def j9:D->R (List D)
 |.q6 xs=>.ok xs
 |.qA xs=>.ok xs
 |.qJ ks _=>if(ints? ks).isSome then .ok ks else .q9
 |_=>.q9
def yD:D->R (List D)
 |.q6 xs=>.ok xs
 |.qA xs=>.ok xs
 |_=>.q9
def Xc:D->Bool
 |.int _=>Qd
 |_=>Qh
noncomputable def yC:D->Bool
 |.qA (.int _::_)=>Qd
 |_=>Qh
noncomputable def jq:D->Bool
 |.qA []=>Qd
 |.qA (.int _::_)=>Qd
 |_=>Qh
def ji(xs:List D):Bool:=decide (xs.length<64)&&qx xs&&zU xs&&vg zC xs&&Pt xs&&(xs.all Xc||xs.all jq)
def idxOf(x:D):List D->Nat->R D
 |[],_=>.q9
 |y::l,n=>if qD y x then .ok (.int n)else idxOf x l (n+1)
def vy(f:D->R D):List D->R D
 |[d]=>f d
 |_=>.q9
noncomputable def cF(f:D->D->R D):List D->R D
 |[d,e]=>f d e
 |_=>.q9
noncomputable def q5f:D->R D
 |.q6 xs=>.ok (.int xs.length)
 |.qA xs=>.ok (.int xs.length)
 |.qJ ks _=>.ok (.int ks.length)
 |.str x=>.ok (.int x.length)
 |_=>.q9
def bO(f:List D->R D):D->R D
 |.q6 xs=>f xs
 |.qA xs=>f xs
 |_=>.q9
def q4x:D->R D
 |.int _=>.ok (.bl Qh)
 |.bl _=>.ok (.bl Qd)
 |_=>.q9
def q52:D->R D
 |.qA _=>.ok (.bl Qd)
 |_=>.q9
def Lh(f:Nat->R D):D->R D
 |.exc c=>f c
 |_=>.q9
def EA(xs:List D):R D:=match bools? xs with
 |some bs=>.ok (.bl (bs.all id))
 |none=>.q9
def EB(xs:List D):R D:=match bools? xs with
 |some bs=>.ok (.bl (bs.any id))
 |none=>.q9
def zB(sub:Nat->Nat->Bool)(b:Bi)(ds:List D):R D:=match b with
 |.len=>vy q5f ds
 |.sorted=>vy (λd=>(j9 d).bind λxs=>if ji xs then .ok (.q6 (jP xs))else .q9) ds
 |.jS=>vy (λd=>(yD d).bind λxs=>if qx xs&&zU xs&&decide (xs.length<=1000)&&ji (dedup xs)then .ok (.q6 (jP (dedup xs)))else .q9) ds
 |.tuple=>vy (bO λxs=>.ok (.qA xs)) ds
 |.list=>vy (bO λxs=>.ok (.q6 xs)) ds
 |.all=>vy (yH EA) ds
 |.bits=>vy (intD λi=>if 0<=i then .ok (.int (if i=0 then 0 else((i.toNat.log2+1:Nat):Int)))else .q9) ds
 |.count=>cF (λd x=>yH (λxs=>if pl x&&zU xs then .ok (.int ((xs.filter λy=>qD y x).length))else .q9) d) ds
 |.index=>cF (λd x=>yH (λxs=>if pl x&&zU xs then idxOf x xs 0 else .q9) d) ds
 |.any=>vy (yH EB) ds
 |.isTup=>vy q52 ds
 |.PN=>vy (yH λ_=>.ok (.bl Qd)) ds
 |.isInt=>vy (intD λ_=>.ok (.bl Qd)) ds
 |.isBool=>vy q4x ds
 |.isVal=>vy (Lh λ_=>.ok (.bl Qd)) ds
 |.isExc c=>vy (Lh λe=>.ok (.bl (sub e c))) ds
set_option genInjectivity false in
mutual
inductive L where
 |zP (i:Nat)|bor (i:Nat)|qh (d:D)
 |op (o:Op2) (a b:L)|cm (o:Cm) (a b:L)|neg (a:L)|not (a:L)|and (a b:L)|or (a b:L)|ite (c:T) (a b:L)
 |qA (xs:List L)|q6 (xs:List L)|qJ (k v:L)
 |idx (a i:L)|sl (st:Nat) (a:L) (lo hi:List L)
 |call (f:Nat) (xs:List L)|bi (b:Bi) (xs:List L)
 |comp (k:Nat) (elt:L) (it:I) (cond:List T)
 |skey (a:L) (f:Nat)|lrng (xs:List L)
 |idxC (i:Nat) (k:L)|getC (i:Nat) (k d:L)|sxor (a b:L)|minK (a:L) (f:Nat)|revL (a:L)
inductive T where
 |e (a:L)|and (a b:T)|or (a b:T)|not (a:T)
inductive I where
 |rng (xs:List L)|e (a:L)|b (i:Nat)|rev (a:L)
end
noncomputable abbrev qC:L:=.zP 0
noncomputable abbrev qG:L:=.zP 1
noncomputable abbrev qO:L:=.zP 2
noncomputable abbrev qp:L:=.zP 3
noncomputable abbrev qS:L:=.zP 4
noncomputable abbrev zV:L:=.zP 5
noncomputable abbrev jL:L:=.zP 6
noncomputable abbrev vd:L:=.zP 7
noncomputable abbrev kZ(n:Int):L:=.qh (.int n)
inductive Sl where|val (d:D)|own (d:D)|zq (xss:List (List D))|jy (m:List (List Int×Int))
 deriving Inhabited
abbrev Env:=List (Option Sl)
noncomputable def jG(Z:Env)(i:Nat):R D:=match Z[i]?with
 |some (Qa (.val d))=>.ok d
 |_=>.q9
noncomputable def Ta(Z:Env)(i:Nat):R D:=match Z[i]?with
 |some (Qa (.val d))=>.ok d
 |some (Qa (.own d))=>.ok d
 |_=>.q9
noncomputable def wV:List D->R (List D)
 |[.int j]=>if-(2^62)<=j/\j<2^62 then .ok ((Qt j.toNat).map λ(k:Nat)=>.int k)else .q9
 |[.int i,.int j]=>if-(2^62)<=i/\i<2^62/\-(2^62)<=j/\j<2^62 then .ok ((Qt (j-i).toNat).map λ(k:Nat)=>.int (i+k))else .q9
 |_=>.q9
noncomputable def kG(k:Nat)(d:D):R (List D):=
 if k=0 then .ok [d]else match d with
  |.qA xs=>if xs.length=k then .ok xs else .q9
  |_=>.q9
def zj(ds:List D):Env:=ds.map λd=>Qa (.val d)
def jv(elt:Env->R D)(cond:Env->R Bool)(k:Nat)(Z:Env):List D->R (List D)
 |[]=>.ok []
 |d::ds=>(kG k d).bind λxs=>(cond (zj xs++Z)).bind λb=>
   if b then(elt (zj xs++Z)).bind λe=>(jv elt cond k Z ds).bind λes=>.ok (e::es)else jv elt cond k Z ds
def R.uw{α:Type}:R α->R α
 |.err _=>.q9
 |r=>r
@[simp]def vw{α:Type}(a:α):(R.ok a).uw=.ok a:=rfl
@[simp]def qBd{α:Type}:(R.q9:R α).uw=.q9:=rfl
@[simp]def qBc{α:Type}(c:Nat):(R.err c:R α).uw=.q9:=rfl
noncomputable def xU:List D->R (Option Int)
 |[]=>.ok Qg
 |[.int i]=>.ok (Qa i)
 |_=>.q9
def kz(ps:List (D×D)):List (D×D):=ps.foldr (λx l=>insK x l) []
where
 insK (x:D×D):List (D×D)->List (D×D)
  |[]=>[x]
  |y::l=>if qU x.1 y.1 then x::y::l else y::insK x l
noncomputable def zu(m:List (List Int×Int))(k:List Int):Option Int:=match m with
 |[]=>Qg
 |(j,v)::m=>if j=k then Qa v else zu m k
noncomputable def jm(m:List (List Int×Int))(k:List Int)(v:Int):List (List Int×Int):=match m with
 |[]=>[(k,v)]
 |(j,u)::m=>if j=k then(j,v)::m else(j,u)::jm m k v
noncomputable def yZ(m:List (List Int×Int)):D:=.qJ (m.map λx=>.qA (x.1.map .int)) (m.map λx=>.int x.2)
def xk:D->Option (List (List Int×Int))
 |.qJ ks vs=>go ks vs
 |_=>Qg
where
 go:List D->List D->Option (List (List Int×Int))
  |[],[]=>Qa []
  |.qA ds::ks,.int v::vs=>(ints? ds).bind λk=>(go ks vs).map λm=>(k,v)::m
  |_,_=>Qg
noncomputable def wK(Z:Env)(i:Nat):R (List (List Int×Int)):=match Z[i]?with
 |some (Qa (.jy m))=>.ok m
 |_=>.q9
def vo:D->R (List Int)
 |.qA ds=>match ints? ds with
  |some k=>.ok k
  |none=>.q9
 |_=>.q9
def Ak:D->R (List D)
 |.q6 xs=>.ok xs.reverse
 |_=>.q9
def X6(xs ys:List D):List D:=(dedup ys).filter (λy=>!(xs.any (qD y)))++(dedup xs).filter (λx=>!(ys.any (qD x)))
def RO:D->R (List D)
 |.q6 xs=>if qx xs&&zU xs&&xs.all jq&&decide (xs.length<=40)then .ok xs else .q9
 |_=>.q9
def IB(xs ys:List D):R D:=if decide ((dedup xs).length+(dedup ys).length<=40)&&ji (X6 xs ys)then .ok (.q6 (jP (X6 xs ys)))else .q9
def xh:List (D×D)->D×D->D×D
 |[],b=>b
 |x::l,b=>xh l (if qU x.1 b.1 then x else b)
def mapR(f:D->R D):List D->R (List D)
 |[]=>.ok []
 |x::l=>(f x).bind λy=>(mapR f l).bind λm=>.ok (y::m)
section
variable(G:Nat->List D->R D)(sub:Nat->Nat->Bool)
mutual
def ev:L->Env->R D
 |.zP i,Z=>jG Z i
 |.bor i,Z=>Ta Z i
 |.qh d,_=>.ok d
 |.op o a b,Z=>(ev a Z).bind λx=>(ev b Z).bind λy=>zD o x y
 |.cm o a b,Z=>(ev a Z).bind λx=>(ev b Z).bind λy=>qc o x y
 |.neg a,Z=>(ev a Z).bind λx=>match x with
   |.int i=>.ok (.int (-i))
   |_=>.q9
 |.not a,Z=>(ev a Z).bind λx=>(tr x).bind λb=>.ok (.bl (!b))
 |.and a b,Z=>(ev a Z).bind λx=>match x with
   |.bl Qd=>ev b Z
   |.bl Qh=>.ok (.bl Qh)
   |_=>.q9
 |.or a b,Z=>(ev a Z).bind λx=>match x with
   |.bl Qd=>.ok (.bl Qd)
   |.bl Qh=>ev b Z
   |_=>.q9
 |.ite c a b,Z=>(qz c Z).bind λt=>if t then ev a Z else ev b Z
 |.qA xs,Z=>(zg xs Z).bind λds=>if ds.length<=big then .ok (.qA ds)else .q9
 |.q6 xs,Z=>(zg xs Z).bind λds=>if ds.length<=big then .ok (.q6 ds)else .q9
 |.qJ k v,Z=>(ev k Z).bind λx=>(ev v Z).bind λy=>match x with
   |.int i=>.ok (.qJ [.int i] [y])
   |_=>.q9
 |.idx a i,Z=>(ev a Z).bind λx=>(ev i Z).bind λy=>jo x y
 |.sl st a lo hi,Z=>(ev a Z).bind λx=>(zg lo Z).bind λl=>(zg hi Z).bind λh=>(xU l).bind λl=>(xU h).bind λh=>yo st l h x
 |.call f xs,Z=>(zg xs Z).bind λds=>G f ds
 |.bi b xs,Z=>(zg xs Z).bind λds=>zB sub b ds
 |.comp k elt it cond,Z=>(j8 it Z).bind λds=>(jv (ev elt) (kF cond) k Z ds).uw.bind λes=>if es.length<=big then .ok (.q6 es)else .q9
 |.skey a f,Z=>(ev a Z).bind λd=>(j9 d).bind λxs=>(mapR (λx=>G f [x]) xs).uw.bind λks=>
   if ji ks then .ok (.q6 ((kz (ks.zip xs)).map (·.2)))else .q9
 |.lrng xs,Z=>(zg xs Z).bind λds=>(wV ds).bind λis=>if is.length<=big then .ok (.q6 is)else .q9
 |.idxC i k,Z=>(wK Z i).bind λm=>(ev k Z).bind λx=>(vo x).bind λk=>match zu m k with
   |some v=>.ok (.int v)
   |none=>.q9
 |.getC i k d,Z=>(wK Z i).bind λm=>(ev k Z).bind λx=>(ev d Z).bind λd=>intD (λd=>(vo x).bind λk=>.ok (.int ((zu m k).getD d))) d
 |.sxor a b,Z=>(ev a Z).bind λx=>(RO x).bind λxs=>(ev b Z).bind λy=>(RO y).bind λys=>IB xs ys
 |.minK a f,Z=>(ev a Z).bind (yH λxs=>(mapR (λx=>G f [x]) xs).uw.bind λks=>if zU ks&&qx ks&&vg zC ks&&decide (xs.length<=1000)then(match ks.zip xs with
   |[]=>.ok .qE
   |p::l=>.ok (xh l p).2)else .q9)
 |.revL a,Z=>(ev a Z).bind λx=>(Ak x).bind λxs=>.ok (.q6 xs)
def zg:List L->Env->R (List D)
 |[],_=>.ok []
 |a::l,Z=>(ev a Z).bind λx=>(zg l Z).bind λxs=>.ok (x::xs)
def j8:I->Env->R (List D)
 |.rng xs,Z=>(zg xs Z).bind wV
 |.e a,Z=>(ev a Z).bind j9
 |.b i,Z=>(Ta Z i).bind yD
 |.rev a,Z=>(ev a Z).bind Ak
def qz:T->Env->R Bool
 |.and a b,Z=>(qz a Z).bind λt=>if t then qz b Z else .ok Qh
 |.or a b,Z=>(qz a Z).bind λt=>if t then .ok Qd else qz b Z
 |.not a,Z=>(qz a Z).bind λt=>.ok (!t)
 |.e a,Z=>(ev a Z).bind tr
def kF:List T->Env->R Bool
 |[],_=>.ok Qd
 |a::l,Z=>(qz a Z).bind λt=>if t then kF l Z else .ok Qh
end
end
set_option genInjectivity false in
inductive S where
 |set (i:Nat) (a:L)|zY (i:Nat) (a:L)|setT (is:List Nat) (a:L)|aug (i:Nat) (o:Op2) (a:L)
 |setE (i:Nat) (a:L)|app2 (i:Nat) (k a:L)|frz (i j:Nat)
 |app (i:Nat) (a:L)|ext (i:Nat) (a:L)|pop (j i:Nat)|put (i:Nat) (k v:L)
 |expr (a:L)|ifs (c:T) (a b:List S)|qw (k:Nat) (is:List Nat) (it:I) (body:List S)|whl (c:T) (body:List S)
 |ret (a:L)|wU|retO (i:Nat)|brk|cont|pass
 |raise (c:Nat)|tryE (body:List S) (c i j:Nat)|retF (i:Nat)|setF (i f:Nat) (args:List L)|setC (i:Nat)|putC (i:Nat) (k v:L)|augC (i:Nat) (o:Op2) (k v:L)
inductive F where|nx|brk|cont|ret (d:D)|wU (d:D)
inductive RS where|ok (Z:Env) (f:F)|err (c:Nat) (Z:Env)|q9
def zI{d:D}{f:Int->RS}(h:(match d with|.int n=>f n|_=>.q9)≠.q9):∃n,d=.int n:=by cases d<;>first|exact⟨_,rfl⟩|cases h rfl
def zL{d:D}{f:List D->RS}(h:(match d with|.q6 n=>f n|_=>.q9)≠.q9):∃n,d=.q6 n:=by cases d<;>first|exact⟨_,rfl⟩|cases h rfl
def zJ{d:D}{f:Int->R D}(h:intD f d≠.q9):∃n,d=.int n:=by cases d<;>first|exact⟨_,rfl⟩|cases h rfl
def zM{d:D}{f:List D->R D}(h:yH f d≠.q9):∃n,d=.q6 n:=by cases d<;>first|exact⟨_,rfl⟩|cases h rfl
def zR{d:D}(h:Ak d≠.q9):∃n,d=.q6 n:=by cases d<;>first|exact⟨_,rfl⟩|cases h rfl
def R.go{α:Type}(r:R α)(Z:Env)(f:α->RS):RS:=match r with
 |.ok a=>f a
 |.err c=>.err c Z
 |.q9=>.q9
@[simp]def qF{α:Type}(a:α)(Z:Env)(f:α->RS):(R.ok a).go Z f=f a:=rfl
@[simp]def qBF{α:Type}(c:Nat)(Z:Env)(f:α->RS):(R.err c:R α).go Z f=.err c Z:=rfl
@[simp]def qBG{α:Type}(Z:Env)(f:α->RS):(R.q9:R α).go Z f=.q9:=rfl
def RS.nx(r:RS)(f:Env->RS):RS:=match r with
 |.ok Z .nx=>f Z
 |r=>r
@[simp]def ja(Z:Env)(f:Env->RS):(RS.ok Z .nx).nx f=f Z:=rfl
@[simp]def au(Z:Env)(d:D)(f:Env->RS):(RS.ok Z (.ret d)).nx f=.ok Z (.ret d):=rfl
@[simp]def sI(Z:Env)(c:Nat)(f:Env->RS):(RS.err c Z).nx f=.err c Z:=rfl
def RS.turn(r:RS)(f:Env->RS):RS:=match r with
 |.ok Z .nx=>f Z
 |.ok Z .cont=>f Z
 |.ok Z .brk=>.ok Z .nx
 |.ok Z (.ret d)=>.ok Z (.ret d)
 |.ok Z (.wU d)=>.ok Z (.wU d)
 |.err c Z=>.err c Z
 |.q9=>.q9
@[simp]def qC1(Z:Env)(d:D)(f:Env->RS):(RS.ok Z (.wU d)).turn f=.ok Z (.wU d):=rfl
@[simp]def qBe(Z:Env)(d:D)(f:Env->RS):(RS.ok Z (.wU d)).nx f=.ok Z (.wU d):=rfl
@[simp]def v9(Z:Env)(f:Env->RS):(RS.ok Z .nx).turn f=f Z:=rfl
@[simp]def qC0(Z:Env)(d:D)(f:Env->RS):(RS.ok Z (.ret d)).turn f=.ok Z (.ret d):=rfl
@[simp]def qBz(Z:Env)(c:Nat)(f:Env->RS):(RS.err c Z).turn f=.err c Z:=rfl
def uI:List Nat->List D->Env->Env
 |i::is,d::ds,Z=>uI is ds (Z.set i (Qa (.val d)))
 |_,_,Z=>Z
def zb(body:Env->RS)(k:Nat)(is:List Nat):List D->Env->RS
 |[],Z=>.ok Z .nx
 |d::ds,Z=>(kG k d).go Z λxs=>(body (uI is xs Z)).turn λρ'=>zb body k is ds ρ'
def uM(c:Env->R Bool)(body:Env->RS):Nat->Env->RS
 |0,_=>.q9
 |n+1,Z=>(c Z).go Z λt=>if t then(body Z).turn λρ'=>uM c body n ρ' else .ok Z .nx
def yW(o:Op2):D->D->R D
 |.int m,.int n=>zD o (.int m) (.int n)
 |_,_=>.q9
section
variable(G:Nat->List D->R D)(sub:Nat->Nat->Bool)
mutual
def ex:S->Env->RS
 |.set i a,Z=>(ev G sub a Z).go Z λd=>.ok (Z.set i (Qa (.val d))) .nx
 |.zY i a,Z=>(ev G sub a Z).go Z λd=>.ok (Z.set i (Qa (.own d))) .nx
 |.setT is a,Z=>(ev G sub a Z).go Z λd=>(kG is.length d).go Z λxs=>.ok (uI is xs Z) .nx
 |.aug i o a,Z=>(jG Z i).go Z λx=>(ev G sub a Z).go Z λy=>(yW o x y).go Z λz=>.ok (Z.set i (Qa (.val z))) .nx
 |.app i a,Z=>match Z[i]?with
   |some (Qa (.own (.q6 xs)))=>(ev G sub a Z).go Z λd=>if xs.length<big then .ok (Z.set i (Qa (.own (.q6 (xs++[d]))))) .nx else .q9
   |_=>.q9
 |.ext i a,Z=>match Z[i]?with
   |some (Qa (.own (.q6 xs)))=>(ev G sub a Z).go Z λd=>match d with
     |.q6 ys=>if xs.length+ys.length<=big then .ok (Z.set i (Qa (.own (.q6 (xs++ys))))) .nx else .q9
     |_=>.q9
   |_=>.q9
 |.pop j i,Z=>match Z[i]?with
   |some (Qa (.own (.q6 xs)))=>match xs.getLast? with
     |some d=>.ok ((Z.set i (Qa (.own (.q6 xs.dropLast)))).set j (Qa (.val d))) .nx
     |none=>.q9
   |_=>.q9
 |.put i k v,Z=>match Z[i]?with
   |some (Qa (.own (.qJ ks vs)))=>(ev G sub v Z).go Z λy=>(ev G sub k Z).go Z λx=>match x with
     |.int n=>if ks.length<big then(put n y ks vs).go Z λr=>.ok (Z.set i (Qa (.own (.qJ r.1 r.2)))) .nx else .q9
     |_=>.q9
   |_=>.q9
 |.setE i a,Z=>(ev G sub a Z).go Z λd=>match d with
   |.int n=>if 0<=n/\n<=1000 then .ok (Z.set i (Qa (.zq (Qr n.toNat [])))) .nx else .q9
   |_=>.q9
 |.app2 i k a,Z=>match Z[i]?with
   |some (Qa (.zq xss))=>(ev G sub k Z).go Z λx=>match x with
     |.int n=>if 0<=n then(match xss[n.toNat]?with
       |some ys=>(ev G sub a Z).go Z λd=>if ys.length<big then .ok (Z.set i (Qa (.zq (xss.set n.toNat (ys++[d]))))) .nx else .q9
       |none=>.q9)else .q9
     |_=>.q9
   |_=>.q9
 |.frz i j,Z=>match Z[j]?with
   |some (Qa (.own (.q6 xs)))=>if i=j then .q9 else .ok ((Z.set j (Qa (.val (.q6 xs)))).set i (Qa (.val (.q6 xs)))) .nx
   |_=>.q9
 |.expr a,Z=>(ev G sub a Z).go Z λ_=>.ok Z .nx
 |.ifs c a b,Z=>(qz G sub c Z).go Z λt=>if t then qN a Z else qN b Z
 |.qw k is it body,Z=>(j8 G sub it Z).go Z λds=>zb (qN body) k is ds Z
 |.whl c body,Z=>uM (qz G sub c) (qN body) 100000 Z
 |.ret a,Z=>(ev G sub a Z).go Z λd=>.ok Z (.ret d)
 |.wU,Z=>.ok Z (.ret .qE)
 |.retO i,Z=>match Z[i]?with
   |some (Qa (.own d))=>.ok (Z.set i Qg) (.ret d)
   |some (Qa (.zq xss))=>.ok (Z.set i Qg) (.ret (.q6 (xss.map .q6)))
   |_=>.q9
 |.brk,Z=>.ok Z .brk
 |.cont,Z=>.ok Z .cont
 |.pass,Z=>.ok Z .nx
 |.raise c,Z=>.err c Z
 |.retF i,Z=>(wK Z i).go Z λm=>.ok (Z.set i Qg) (.wU (yZ m))
 |.setF i f args,Z=>(zg G sub args Z).go Z λds=>(G f ds).go Z λd=>match xk d with
   |some m=>.ok (Z.set i (Qa (.jy m))) .nx
   |none=>.q9
 |.setC i,Z=>.ok (Z.set i (Qa (.jy []))) .nx
 |.putC i k v,Z=>(ev G sub v Z).go Z λy=>(wK Z i).go Z λm=>(ev G sub k Z).go Z λx=>(vo x).go Z λk=>match y with
   |.int v=>if m.length<big then .ok (Z.set i (Qa (.jy (jm m k v)))) .nx else .q9
   |_=>.q9
 |.augC i o k v,Z=>(wK Z i).go Z λm=>(ev G sub k Z).go Z λx=>(vo x).go Z λk=>match zu m k with
   |some u=>(ev G sub v Z).go Z λy=>(yW o (.int u) y).go Z λz=>match z with
    |.int z=>if m.length<big then .ok (Z.set i (Qa (.jy (jm m k z)))) .nx else .q9
    |_=>.q9
   |none=>.q9
 |.tryE body c i j,Z=>match qN body Z with
   |.err e ρ'=>if sub e c then .ok ((ρ'.set j (Qa (.val (.exc e)))).set i Qg) .nx else .q9
   |r=>r
def qN:List S->Env->RS
 |[],Z=>.ok Z .nx
 |s::l,Z=>(ex s Z).nx λρ'=>qN l ρ'
end
def Py(n:Nat)(body:List S)(ds:List D):R D:=match qN G sub body (zj ds++Qr (n-ds.length) Qg)with
 |.ok _ (.wU d)=>.ok d
 |.err c _=>.err c
 |_=>.q9
def run(n:Nat)(body:List S)(ds:List D):R D:=match qN G sub body (zj ds++Qr (n-ds.length) Qg)with
 |.ok _ .nx=>.ok .qE
 |.ok _ (.ret d)=>.ok d
 |.err c _=>.err c
 |_=>.q9
end
structure Ct where
 N:List Str
 kinds:List (Str×NameKind)
 funs:List Str
 consts:List (Str×D)
 excs:List Str
 muts:List Str
 fresh:List Str
 deep:List Str
 nw:Bool:=Qh
 news:List Nat:=[]
 cnts:List Str:=[]
noncomputable def jC(x:Str):List Str->Option Nat
 |[]=>Qg
 |y::l=>if x=y then Qa 0 else(jC x l).map (·+1)
noncomputable def yJ(x:Str):Bool:=!(x==Qy "__debug__")&&!(x==Qy "__classdict__")
def Ct.yR(C:Ct)(x:Str):Bool:=yJ x&&match C.kinds.lookup x with
 |some .local|some .cell|some .free=>Qd
 |_=>Qh
def Ct.loc(C:Ct)(x:Str):Option Nat:=if yJ x then(match C.kinds.lookup x with
 |some .local|some .cell=>jC x C.N
 |_=>Qg)else Qg
def Ct.glob(C:Ct)(x:Str):Bool:=yJ x&&decide (C.kinds.lookup x=Qa .globalImplicit)
noncomputable def Xm:FN->Option Op2
 |.Add=>Qa .add|.Sub=>Qa .sub|.Mult=>Qa .mul|.FloorDiv=>Qa .fdiv|.Mod=>Qa .mod|.LShift=>Qa .shl|.RShift=>Qa .shr
 |.BitAnd=>Qa .band|.BitOr=>Qa .bor|_=>Qg
noncomputable def wh:CmpOp->Cm
 |.Eq=>.eq|.NotEq=>.ne|.Lt=>.lt|.LtE=>.le|.Gt=>.gt|.GtE=>.ge|.Is=>.R5|.IsNot=>.AI|.In=>.mem|.NotIn=>.yK
noncomputable def TC:Const->Option D
 |.none=>Qa .qE|.bool b=>Qa (.bl b)|.int i=>Qa (.int i)|.str x=>if x.length<=1000 then Qa (.str x)else Qg|_=>Qg
noncomputable def Fi(x:Str):Str:=⟨#[33]++x.cps⟩
def Ct.inner(C:Ct)(ts:List Str)(sc:Scope):Ct:=
 {C with N:=ts++C.N.map (λx=>if x∈ts then Fi x else x),kinds:=sc.names,muts:=C.muts.filter (λx=>!decide (x∈ts)),cnts:=C.cnts.filter (λx=>!decide (x∈ts))}
def Ct.Cb(C:Ct)(ts:List Str)(sc:Scope):Bool:=
 decide (sc.kind=.function)&&decide ((C.inner ts sc).N.Nodup)&&ts.all (λx=>decide (sc.names.lookup x=Qa .local)||decide (sc.names.lookup x=Qa .cell))&&
 sc.names.all (λy=>(decide (y.2≠.cell)||decide (y.1∈ts)&&decide (sc.names.lookup y.1=Qa .cell))&&(decide (y.2≠.free)||decide (C.kinds.lookup y.1=Qa .cell)||decide (C.kinds.lookup y.1=Qa .free))&&(decide (y.2≠.local)||decide (sc.names.lookup y.1=Qa .local)))&&
 C.N.all (λy=>if y∈ts then decide (sc.names.lookup (Fi y)=Qg)else decide (sc.names.lookup y≠Qa .local))
noncomputable def Expr.isName:Expr->Option Str
 |.Name x _=>Qa x
 |_=>Qg
def jI{e:Expr}{x:Str}(h:Expr.isName e=Qa x):∃q,e=.Name x q:=by
 unfold Expr.isName at h;split at h
 .cases h;exact⟨_,rfl⟩
 .cases h
noncomputable def pair{α:Type}:List α->Option (α×α)
 |[a,b]=>Qa (a,b)
 |_=>Qg
def CO{α:Type}{l:List α}{r:α×α}(h:pair l=Qa r):l=[r.1,r.2]:=by
 cases l with
 |nil=>cases h
 |cons a l=>cases l with
  |nil=>cases h
  |cons b l=>cases l with
   |nil=>cases h;rfl
   |cons _ _=>cases h
def RZ:Expr->Option (Nat×List Str)
 |.Name x _=>Qa (0,[x])
 |.Tuple xs _ _=>(pair xs).bind λab=>(Expr.isName ab.1).bind λx=>(Expr.isName ab.2).map λy=>(2,[x,y])
 |_=>Qg
noncomputable def C8{α β:Type}(f:α->Option β):List α->Option (List β)
 |[]=>Qa []
 |a::l=>(f a).bind λb=>(C8 f l).map λm=>b::m
noncomputable def Fj(x:Str):Option Bi:=
 if x=Qy "len"then Qa .len else if x=Qy "sorted"then Qa .sorted else if x=Qy "tuple"then Qa .tuple else if x=Qy "list"then Qa .list
 else if x=Qy "all"then Qa .all else if x=Qy "any"then Qa .any else Qg
def S8(C:Ct)(x:Str):Option Bi:=
 if C.glob x then
  if x=Qy "tuple"then Qa .isTup else if x=Qy "list"then Qa .PN else if x=Qy "int"then Qa .isInt else if x=Qy "bool"then Qa .isBool
  else if x=Qy "ValueError"then Qa .isVal else(jC x C.excs).map .isExc
 else Qg
def S7:Expr->Bool
 |.BoolOp _ _ _=>Qd
 |.UnaryOp .Not _ _=>Qd
 |_=>Qh
noncomputable def kR{α:Type}:List α->Option α
 |[a]=>Qa a
 |_=>Qg
def ky{α:Type}{l:List α}{a:α}(h:kR l=Qa a):l=[a]:=by
 cases l with
 |nil=>cases h
 |cons b r=>cases r with
  |nil=>cases h;rfl
  |cons _ _=>cases h
def o5(l:List FC):Option Str:=(kR l).bind λk=>if k.arg=Qa (Qy "key")then Expr.isName k.value else Qg
def q5V{l:List FC}{g:Str}(h:o5 l=Qa g):∃q p,l=[⟨Qa (Qy "key"),.Name g q,p⟩]:=by
 obtain⟨⟨a,e,p⟩,h1,h⟩:=oB h;rw[ky h1];dsimp only at h;split at h
 .rename_i ha;obtain⟨q,rfl⟩:=jI h;subst ha;exact⟨q,p,rfl⟩
 .cases h
def SN(l:List FC):Option Str:=(pair l).bind λk=>if k.1.arg=Qa (Qy "key")/\k.2.arg=Qa (Qy "default")/\isNoneE k.2.value=Qd then Expr.isName k.1.value else Qg
where
 isNoneE:Expr->Bool
  |.Constant c _ _=>match c with
   |.none=>Qd
   |_=>Qh
  |_=>Qh
def q5W{l:List FC}{g:Str}(h:SN l=Qa g):∃q p p2 k q2,l=[⟨Qa (Qy "key"),.Name g q,p⟩,⟨Qa (Qy "default"),.Constant .none k q2,p2⟩]:=by
 obtain⟨⟨⟨a,e,p⟩,⟨a2,e2,p2⟩⟩,h1,h⟩:=oB h;rw[CO h1];dsimp only at h|-;split at h
 .rename_i ha;obtain⟨h2,h3,h4⟩:=ha;obtain⟨q,rfl⟩:=jI h;subst h2 h3;unfold SN.isNoneE at h4;split at h4
  .split at h4
   .exact⟨_,_,_,_,_,rfl⟩
   .cases h4
  .cases h4
 .cases h
noncomputable def q0j:Option Expr->Option Nat
 |none=>Qa 0
 |some (.UnaryOp .USub (.Constant (.int 1) _ _) _)=>Qa 1
 |_=>Qg
def EO:Expr->Option (Str×List Expr)
 |.Call f args yE _=>if yE.isEmpty then(Expr.isName f).map λf=>(f,args)else Qg
 |_=>Qg
def eR{e:Expr}{f:Str}{args:List Expr}(h:EO e=Qa (f,args)):∃q pos,e=.Call (.Name f q) args [] pos:=by
 unfold EO at h;split at h
 .split at h
  .rename_i hk;obtain⟨x,e1,e2⟩:=oM h;obtain⟨q,rfl⟩:=jI e1;cases e2;cases Q8.mp hk;exact⟨_,_,rfl⟩
  .cases h
 .cases h
def nO(C:Ct)(e:Expr):Option (List Expr):=(EO e).bind λy=>if y.1=Qy "range"/\C.glob y.1/\jC y.1 C.funs=Qg then Qa y.2 else Qg
def R4(e:Expr):Option (Str×Expr):=(EO e).bind λy=>(kR y.2).map λa=>(y.1,a)
def PM{e:Expr}{g:Str}{a:Expr}(h:R4 e=Qa (g,a)):∃q pos,e=.Call (.Name g q) [a] [] pos:=by obtain⟨⟨f,as⟩,g1,h⟩:=oB h;obtain⟨b,g2,h⟩:=oM h;cases h;have z:as=[_]:=ky g2;subst z;exact eR g1
def EW(C:Ct)(e:Expr):Option Str:=(Expr.isName e).bind λx=>if x∈C.cnts/\C.yR x then Qa x else Qg
def tT(C:Ct)(e:Expr):Option Expr:=(R4 e).bind λy=>if y.1=Qy "reversed"/\C.glob y.1/\jC y.1 C.funs=Qg then Qa y.2 else Qg
def cU(C:Ct):Expr->Option (Expr×Expr)
 |.BinOp a op b _=>if op=.BitXor then(R4 a).bind λx=>(R4 b).bind λy=>if x.1=Qy "set"/\y.1=Qy "set"/\C.glob x.1/\jC x.1 C.funs=Qg then Qa (x.2,y.2)else Qg else Qg
 |_=>Qg
mutual
def cE:Nat->Ct->Expr->Option L
 |0,_,_=>Qg
 |n+1,C,e=>match e with
  |.Constant c _ _=>(TC c).map .qh
  |.Name x _=>if C.yR x then(if x∈C.muts then Qg else(jC x C.N).map .zP)else if C.glob x then(C.consts.lookup x).map .qh else Qg
  |.BinOp a op b _=>(Xm op).bind λo=>(cB n C a).bind λa=>(cB n C b).map (.op o a)
  |.Compare a ops bs _=>(kR ops).bind λop=>(kR bs).bind λb=>(cB n C a).bind λa=>(cB n C b).map (.cm (wh op) a)
  |.UnaryOp op a _=>match op with
   |.Not=>(cB n C a).map .not
   |.USub=>(cE n C a).map .neg
   |_=>Qg
  |.BoolOp op xs _=>Iy n C op xs
  |.IfExp c a b _=>(cT n C c).bind λc=>(cE n C a).bind λa=>(cE n C b).map (.ite c a)
  |.Tuple xs _ _=>(jk n C xs).map .qA
  |.List xs _=>(jk n C xs).map .q6
  |.Subscript a i _=>match i with
   |.Slice lo hi st _=>(q0j st).bind λk=>(cB n C a).bind λa=>(jk n C lo.toList).bind λlo=>(jk n C hi.toList).bind λhi=>if k=0\/(lo.isEmpty/\hi.isEmpty)then Qa (.sl k a lo hi)else Qg
   |i=>match EW C a with
    |some x=>(jC x C.N).bind λj=>(cE n C i).map (.idxC j)
    |none=>(cB n C a).bind λa=>(cE n C i).map (.idx a)
  |.Call g args yE cp=>match g with
   |.Name f _=>if C.glob f then(match jC f C.funs with
    |some i=>if yE.isEmpty/\¬args.isEmpty/\i∉C.news then(jk n C args).map (.call i)else Qg
    |none=>if yE.isEmpty then EM n C f args else if f=Qy "sorted"then(kR args).bind λa=>(o5 yE).bind λg=>if C.glob g then(cB n C a).bind λa=>(jC g C.funs).bind λi=>if i∈C.news then Qg else Qa (.skey a i)else Qg else if f=Qy "min"then(kR args).bind λa=>(SN yE).bind λg=>if C.glob g then(cE n C a).bind λa=>(jC g C.funs).bind λi=>if i∈C.news then Qg else Qa (.minK a i)else Qg else Qg)
    else Qg
   |.Attribute o m ap=>if yE.isEmpty/\ap.endLine==cp.line then match EW C o with
    |some x=>if m=Qy "get"then(pair args).bind λkd=>(jC x C.N).bind λj=>(cE n C kd.1).bind λk=>(cE n C kd.2).map (.getC j k)else Qg
    |none=>(cB n C o).bind λo=>if args.isEmpty then(if m=Qy "bit_length"then Qa (.bi .bits [o])else Qg)else(kR args).bind λy=>match y with
    |.Constant c _ _=>(TC c).bind λd=>if m=Qy "count"then Qa (.bi .count [o,.qh d])else if m=Qy "index"then Qa (.bi .index [o,.qh d])else Qg
    |_=>Qg
    else Qg
   |_=>Qg
  |.ListComp elt gs sc _=>(kR gs).bind λg=>if g.is_async=0 then(RZ g.target).bind λt=>(cI n C g.iter).bind λit=>(cE n (C.inner t.2 sc) elt).bind λelt=>(XD n (C.inner t.2 sc) g.ifs).bind λifs=>if C.Cb t.2 sc&&decide (ifs.length<=1)then Qa (.comp t.1 elt it ifs)else Qg else Qg
  |_=>Qg
def cB:Nat->Ct->Expr->Option L
 |0,_,_=>Qg
 |n+1,C,e=>match e with
  |.Name x p=>if C.yR x/\x∈C.muts then(jC x C.N).map .bor else cE n C (.Name x p)
  |e=>cE n C e
def jk:Nat->Ct->List Expr->Option (List L)
 |0,_,_=>Qg
 |_+1,_,[]=>Qa []
 |n+1,C,e::es=>(cE n C e).bind λa=>(jk n C es).map λl=>a::l
def Iy:Nat->Ct->BoolOp->List Expr->Option L
 |0,_,_,_=>Qg
 |n+1,C,_,[a]=>cE n C a
 |n+1,C,op,a::b::r=>(cE n C a).bind λa=>(Iy n C op (b::r)).map λb=>match op with|.And=>.and a b|.Or=>.or a b
 |_+1,_,_,[]=>Qg
def cT:Nat->Ct->Expr->Option T
 |0,_,_=>Qg
 |n+1,C,e=>match e with
  |.BoolOp op xs _=>L1 n C op xs
  |.UnaryOp .Not a _=>(cT n C a).map .not
  |.IfExp _ _ _ _=>Qg
  |e=>(cB n C e).map .e
def L1:Nat->Ct->BoolOp->List Expr->Option T
 |0,_,_,_=>Qg
 |n+1,C,_,[a]=>cT n C a
 |n+1,C,op,a::b::r=>(cT n C a).bind λa=>(L1 n C op (b::r)).map λb=>match op with|.And=>.and a b|.Or=>.or a b
 |_+1,_,_,[]=>Qg
def XD:Nat->Ct->List Expr->Option (List T)
 |0,_,_=>Qg
 |_+1,_,[]=>Qa []
 |n+1,C,e::es=>(cT n C e).bind λa=>(XD n C es).map λl=>a::l
def cI:Nat->Ct->Expr->Option I
 |0,_,_=>Qg
 |n+1,C,e=>match nO C e with
  |some args=>if args.length=1\/args.length=2 then(jk n C args).map .rng else Qg
  |none=>match tT C e with
  |some a=>(cE n C a).map .rev
  |none=>match Expr.isName e with
   |some x=>if C.yR x/\x∈C.muts then(jC x C.N).map .b else(cE n C e).map .e
   |none=>(cE n C e).map .e
def EM:Nat->Ct->Str->List Expr->Option L
 |0,_,_,_=>Qg
 |n+1,C,f,args=>match args with
  |[y]=>match R4 y with
   |some (g,a)=>if f=Qy "list"/\g=Qy "range"/\C.glob g/\jC g C.funs=Qg then(cE n C a).map λl=>.lrng [l]else if f=Qy "sorted"/\g=Qy "set"/\C.glob g/\jC g C.funs=Qg then(cB n C a).map λa=>.bi .jS [a]
    else if f=Qy "list"/\g=Qy "reversed"/\C.glob g/\jC g C.funs=Qg then(cB n C a).map .revL
    else(Fj f).bind λb=>(cB n C y).map λa=>.bi b [a]
   |none=>if f=Qy "sorted"then(match cU C y with
    |some (a,b)=>(cE n C a).bind λa=>(cE n C b).map (.sxor a)
    |none=>(cB n C y).map λa=>.bi .sorted [a])else(Fj f).bind λb=>(cB n C y).map λa=>.bi b [a]
  |[a,y]=>if f=Qy "isinstance"then(Expr.isName y).bind λc=>(cB n C a).bind λa=>(S8 C c).map λb=>.bi b [a]else Qg
  |_=>Qg
end
def q53:Expr->Bool
 |.Tuple _ _ _=>Qd
 |_=>Qh
def Ct.aT(C:Ct):Expr->Bool
 |.Name x _=>decide (x∈C.muts)
 |_=>Qh
def AO:Expr->Bool
 |.Constant (.str x) _ _=>decide (x.length<=1000)
 |_=>Qh
def Ct.av(C:Ct):Expr->Bool
 |.FormattedValue e k sp _=>decide (k=-1)&&sp.isNone&&match Expr.isName e with
  |some y=>C.glob y&&match C.consts.lookup y with
   |some (.int a)=>decide (a.natAbs.log2<1920)&&decide ((Qy (toString a)).length<=1000)
   |_=>Qh
  |none=>Qh
 |_=>Qh
def Ct.AN(C:Ct):Expr->Bool
 |.JoinedStr xs _=>match xs with
  |a::b::r=>AO a&&C.av b&&(match r with
   |[]=>Qd
   |[c]=>AO c
   |_=>Qh)
  |_=>Qh
 |e=>AO e
noncomputable def Ic:Expr->Option (Expr×List Expr×List FC×Pos)
 |.Call f a k p=>Qa (f,a,k,p)
 |_=>Qg
def q1S{e:Expr}{r:Expr×List Expr×List FC×Pos}(h:Ic e=Qa r):e=.Call r.1 r.2.1 r.2.2.1 r.2.2.2:=by
 unfold Ic at h;split at h
 .cases h;rfl
 .cases h
def aP(e:Expr):Option (Expr×Str×List Expr×Pos×Pos):=(Ic e).bind λc=>if c.2.2.1.isEmpty then(match c.1 with
 |.Attribute o m ap=>Qa (o,m,c.2.1,ap,c.2.2.2)
 |_=>Qg)else Qg
def rG{e o:Expr}{m:Str}{as:List Expr}{ap cp:Pos}(h:aP e=Qa (o,m,as,ap,cp)):e=.Call (.Attribute o m ap) as [] cp:=by
 obtain⟨⟨f,a,k,p⟩,h1,h⟩:=oB h;rw[q1S h1];dsimp only at h|-;split at h
 .rename_i hk;cases Q8.mp hk;split at h
  .cases h;rfl
  .cases h
 .cases h
def rh:Expr->Bool
 |.List xs _=>xs.isEmpty
 |_=>Qh
def deepOf:Expr->Option (Str×Str×Expr×Scope×Pos)
 |.ListComp elt gs sc vp=>if rh elt then(kR gs).bind λg=>if g.ifs.isEmpty/\g.is_async=0 then(Expr.isName g.target).bind λt=>(R4 g.iter).map λf=>(t,f.1,f.2,sc,vp)else Qg else Qg
 |_=>Qg
def q2a{v:Expr}{t g:Str}{a:Expr}{sc:Scope}{vp:Pos}(h:deepOf v=Qa (t,g,a,sc,vp)):∃q1 q2 q3 q4,v=.ListComp (.List [] q1) [⟨.Name t q2,.Call (.Name g q3) [a] [] q4,[],0⟩] sc vp:=by
 unfold deepOf at h;split at h
 .split at h
  .rename_i hn;obtain⟨⟨tg,it,ifs,k⟩,hg,h⟩:=oB h;dsimp only at h;split at h
   .rename_i hc;obtain⟨x,h1,h⟩:=oB h;obtain⟨⟨f,b⟩,h2,h⟩:=oM h;cases h;obtain⟨q2,rfl⟩:=jI h1;obtain⟨q3,q4,rfl⟩:=PM h2;obtain⟨wy,jH⟩:=hc;rw[ky hg,Q8.mp wy,jH];unfold rh at hn;split at hn
    .rw[Q8.mp hn];exact⟨_,_,_,_,rfl⟩
    .cases hn
   .cases h
  .cases h
 .cases h
def Iu(C:Ct)(fE:Expr->Option L)(x:Str)(xp:Pos)(i:Nat)(v:Expr):Option S:=(deepOf v).bind λd=>if d.2.1=Qy "range"/\C.glob d.2.1/\jC d.2.1 C.funs=Qg/\x∈C.muts/\C.Cb [d.1] d.2.2.2.1/\C.kinds.lookup x=Qa .local/\(xp.line==d.2.2.2.2.line)=Qd/\d.2.2.2.1.names.lookup d.1=Qa .local/\
 (d.2.2.2.1.names.any λy=>y.1==x&&(y.2==.local||y.2==.cell))=Qh then(fE d.2.2.1).map (.setE i)else Qg
def eF(C:Ct)(fE:Expr->Option L)(Rv:List Expr->Option (List L))(i:Nat):Expr->Option S
 |.List xs _=>(Rv xs).map λl=>.zY i (.q6 l)
 |.Dict ks ws _=>(kR ks).bind λk=>k.bind λk=>(kR ws).bind λw=>(fE k).bind λk=>(fE w).map λw=>.zY i (.qJ k w)
 |_=>Qg
def Ir(C:Ct)(Rv:List Expr->Option (List L))(i:Nat):Expr->Option S
 |.Call g args yE _=>(Expr.isName g).bind λf=>(jC f C.funs).bind λj=>if j∈C.news/\C.glob f/\yE.isEmpty/\¬args.isEmpty then(Rv args).map (.setF i j)else Qg
 |.Dict ks ws _=>if ks.isEmpty/\ws.isEmpty then Qa (.setC i)else Qg
 |_=>Qg
def Iw(C:Ct)(fE:Expr->Option L)(i:Nat)(v:Expr):Option S:=match aP v with
 |some (o,m,as,ap,cp)=>(match Expr.isName o with
  |some y=>if y∈C.muts/\m=Qy "pop"then(if as.isEmpty&&ap.endLine==cp.line&&yJ y then(C.loc y).map (.pop i)else Qg)else(fE v).map (.set i)
  |none=>(fE v).map (.set i))
 |none=>match Expr.isName v with
  |some y=>if y∈C.muts then Qg else(fE v).map (.set i)
  |none=>(fE v).map (.set i)
def Iq(C:Ct)(fE:Expr->Option L)(Rv:List Expr->Option (List L))(ts:List Expr)(v:Expr):Option S:=(kR ts).bind λt=>match t with
 |.Name x xp=>(C.loc x).bind λi=>if x∈C.cnts then Ir C Rv i v else if x∈C.deep then Iu C fE x xp i v else if x∈C.muts then eF C fE Rv i v else Iw C fE i v
 |.Tuple xs _ _=>(pair xs).bind λab=>(Expr.isName ab.1).bind λx=>(Expr.isName ab.2).bind λy=>(C.loc x).bind λi=>(C.loc y).bind λj=>(fE v).bind λlv=>if x∈C.muts\/y∈C.muts\/x=y\/q53 v then Qg else Qa (.setT [i,j] lv)
 |.Subscript o k _=>(Expr.isName o).bind λx=>if x∈C.cnts/\yJ x then(C.loc x).bind λi=>(fE k).bind λk=>(fE v).map (.putC i k)else if x∈C.muts/\yJ x then(C.loc x).bind λi=>(fE k).bind λk=>(fE v).map (.put i k)else Qg
 |_=>Qg
def bt:Expr->Option (Str×Expr)
 |.Subscript o k _=>(Expr.isName o).map λx=>(x,k)
 |_=>Qg
def eG(C:Ct)(fE:Expr->Option L)(t:Expr)(op:FN)(v:Expr):Option S:=match bt t with
 |some (x,k)=>if x∈C.cnts/\yJ x then(C.loc x).bind λi=>(Xm op).bind λo=>(fE k).bind λk=>(fE v).map (.augC i o k)else Qg
 |none=>(Expr.isName t).bind λx=>if x∈C.muts then Qg else(C.loc x).bind λi=>(Xm op).bind λo=>(fE v).map (.aug i o)
def eL(C:Ct)(fE:Expr->Option L)(m:Str)(as:List Expr)(ap cp:Pos):Expr->Option S
 |.Name x _=>if x∈C.muts/\(ap.endLine==cp.line)=Qd/\yJ x/\m=Qy "extend"then(kR as).bind λa=>(C.loc x).bind λi=>(fE a).map (.ext i)else if x∈C.muts/\(ap.endLine==cp.line)=Qd/\yJ x/\m=Qy "append"then(kR as).bind λa=>(C.loc x).bind λi=>(fE a).map (.app i)else Qg
 |.Subscript o k _=>(Expr.isName o).bind λx=>if(ap.endLine==cp.line)=Qd/\yJ x/\x∈C.deep/\x∈C.muts/\m=Qy "append"then(kR as).bind λa=>(C.loc x).bind λi=>(fE k).bind λk=>(fE a).map (.app2 i k)else Qg
 |_=>Qg
def q4y:Expr->Bool
 |.ListComp _ _ _ _=>Qd
 |_=>Qh
def cExp(C:Ct)(fE:Expr->Option L)(e:Expr):Option S:=match aP e with
 |some (o,m,as,ap,cp)=>eL C fE m as ap cp o
 |none=>if q4y e then Qg else(fE e).map .expr
def eM(C:Ct)(fE:Expr->Option L):Option Expr->Option S
 |some e=>(match Expr.isName e with
  |some x=>if x∈C.cnts then(C.loc x).map .retF else if x∈C.muts then(C.loc x).map .retO else(fE e).map .ret
  |none=>(fE e).map .ret)
 |none=>Qg
def q2B(C:Ct)(a b:Option Expr):Option S:=a.bind λe=>if b.isNone then(R4 e).bind λc=>if C.glob c.1/\C.AN c.2 then(jC c.1 C.excs).map .raise else Qg else Qg
def X2:Stmt->Option (Str×Str)
 |.Assign ts v _=>(kR ts).bind λt=>(Expr.isName t).bind λy=>(Expr.isName v).map λx=>(y,x)
 |_=>Qg
def q8o{s:Stmt}{r:Str×Str}(h:X2 s=Qa r):∃q q2 pos,s=.Assign [.Name r.1 q] (.Name r.2 q2) pos:=by
 unfold X2 at h;split at h
 .obtain⟨t,h1,h⟩:=oB h;obtain⟨y,h2,h⟩:=oB h;obtain⟨x,h3,rfl⟩:=oM h;obtain⟨q,rfl⟩:=jI h2;obtain⟨q2,rfl⟩:=jI h3;rw[ky h1];exact⟨_,_,_,rfl⟩
 .cases h
def q2A(C:Ct):ExceptHandler->Option (Nat×Nat×Nat)
 |.ExceptHandler ty nm b _=>ty.bind λty=>(Expr.isName ty).bind λc=>nm.bind λx=>(kR b).bind λst=>(X2 st).bind λs=>if C.glob c/\yJ x/\x∉C.muts/\s.1∉C.muts/\s.2=x/\x≠s.1/\C.kinds.lookup x=Qa .local then(jC c C.excs).bind λc=>(C.loc x).bind λi=>(C.loc s.1).map λj=>(c,i,j)else Qg
def L3(C:Ct)(fS:List Stmt->Option (List S))(body:List Stmt)(hs:List ExceptHandler)(oe fb:List Stmt):Option S:=if oe.isEmpty/\fb.isEmpty then(kR hs).bind λh=>(q2A C h).bind λr=>(fS body).map λb=>.tryE b r.1 r.2.1 r.2.2 else Qg
mutual
def cS:Nat->Ct->Stmt->Option S
 |0,_,_=>Qg
 |n+1,C,s=>match s with
  |.Assign ts v _=>Iq C (cE n C) (jk n C) ts v
  |.AugAssign t op v _=>eG C (cE n C) t op v
  |.Expr e _=>cExp C (cE n C) e
  |.If c a b _=>(cT n C c).bind λc=>(xj n C a).bind λa=>(xj n C b).map (.ifs c a)
  |.For tg it body oe _=>if oe.isEmpty/\¬C.aT it then(RZ tg).bind λt=>(cI n C it).bind λit=>(xj n C body).bind λbody=>(C8 C.loc t.2).bind λis=>if t.2.any (λx=>decide (x∈C.muts))\/¬t.2.Nodup then Qg else Qa (.qw t.1 is it body)else Qg
  |.While c body oe _=>if oe.isEmpty then(cT n C c).bind λc=>(xj n C body).map (.whl c)else Qg
  |.Return r _=>eM C (cE n C) r
  |.Raise a b _=>q2B C a b
  |.Try body hs oe fb _=>L3 C (xj n C) body hs oe fb
  |_=>Qg
def xj:Nat->Ct->List Stmt->Option (List S)
 |0,_,_=>Qg
 |_+1,_,[]=>Qa []
 |n+1,C,e::es=>(cS n C e).bind λa=>(xj n C es).map λl=>a::l
end
end Ev
namespace Ev
open PySem
def D.ind{P:D->Prop}{Q:List D->Prop}(hn:P .qE)(hb:∀b,P (.bl b))(hi:∀i,P (.int i))(hs:∀x,P (.str x))(ht:∀l,Q l->P (.qA l))(hl:∀l,Q l->P (.q6 l))(hd:∀k v,Q k->Q v->P (.qJ k v))(he:∀c,P (.exc c))
  (q0:Q []) (q1:∀a l,P a->Q l->Q (a::l)):(∀d,P d)/\∀l,Q l:=
 ⟨λd=>D.rec hn hb hi hs ht hl hd he q0 q1 d,λl=>D.rec_1 hn hb hi hs ht hl hd he q0 q1 l⟩
def DY{a:D}{l:List D}:qx (a::l)=Qd↔qH a=Qd/\qx l=Qd:=by simp[qx]
def iH:(∀a b:D,qH a=Qd->qH b=Qd->(qD a b=Qd↔a=b))/\(∀a b:List D,qx a=Qd->qx b=Qd->(z6 a b=Qd↔a=b)):=by
 have:=D.ind (P:=λa=>∀b,qH a=Qd->qH b=Qd->(qD a b=Qd↔a=b)) (Q:=λa=>∀b,qx a=Qd->qx b=Qd->(z6 a b=Qd↔a=b))
  (λb h=>by simp[qH]at h) (λ_ b h=>by simp[qH]at h) (λi b h1 h2=>by cases b<;>simp_all [qH,qD]) (λ_ b h=>by simp[qH]at h)
  (λl ih b h1 h2=>by cases b<;>simp_all [qH,qD])
  (λ_ _ b h=>by simp[qH]at h) (λ_ _ _ _ b h=>by simp[qH]at h) (λ_ b h=>by simp[qH]at h)
  (λb h1 h2=>by cases b<;>simp[z6])
  (λa l PJ um b h1 h2=>by
   cases b with
   |nil=>simp[z6]
   |cons c m=>
    rw[DY]at h1 h2;simp only[z6,Qp,Vl];rw[PJ c h1.1 h2.1,um m h1.2 h2.2])
 exact this
def jN{a b:D}(ha:qH a=Qd)(hb:qH b=Qd):qD a b=Qd↔a=b:=iH.1 a b ha hb
def q2s{a b:List D}(ha:qx a=Qd)(hb:qx b=Qd):z6 a b=Qd↔a=b:=iH.2 a b ha hb
def q5w:(∀a:D,qH a=Qd->qU a a=Qh)/\(∀a:List D,qx a=Qd->qt a a=Qh):=by
 refine D.ind (P:=λa=>qH a=Qd->qU a a=Qh) (Q:=λa=>qx a=Qd->qt a a=Qh)
  (λh=>by simp[qH]at h) (λ_ h=>by simp[qH]at h) (λi h=>by simp[qU]) (λ_ h=>by simp[qH]at h) (λl ih h=>by simpa[qU]using ih (by simpa[qH]using h))
  (λ_ _ h=>by simp[qH]at h) (λ_ _ _ _ h=>by simp[qH]at h) (λ_ h=>by simp[qH]at h) (λ_=>by simp[qt]) (λa l PJ um h=>?_)
 rw[DY]at h;rw[qt,if_pos ((jN h.1 h.1).mpr rfl)];exact um h.2
def C6{a:D}(h:qH a=Qd):qU a a=Qh:=q5w.1 a h
def q5y:(∀a b:D,qH a=Qd->qH b=Qd->zC a b=Qd->qU a b=Qd\/a=b\/qU b a=Qd)/\(∀a b:List D,qx a=Qd->qx b=Qd->jl a b=Qd->qt a b=Qd\/a=b\/qt b a=Qd):=by
 refine D.ind (P:=λa=>∀b,qH a=Qd->qH b=Qd->zC a b=Qd->qU a b=Qd\/a=b\/qU b a=Qd) (Q:=λa=>∀b,qx a=Qd->qx b=Qd->jl a b=Qd->qt a b=Qd\/a=b\/qt b a=Qd)
  (λb h=>by simp[qH]at h) (λ_ b h=>by simp[qH]at h) (λi b h1 h2 c=>?_) (λ_ b h=>by simp[qH]at h) (λl ih b h1 h2 c=>?_)
  (λ_ _ b h=>by simp[qH]at h) (λ_ _ _ _ b h=>by simp[qH]at h) (λ_ b h=>by simp[qH]at h) (λb h1 h2 c=>by cases b<;>simp[qt]) (λa l PJ um b h1 h2 c=>?_)
 .cases b<;>simp_all [qH,zC,qU];lia
 .cases b<;>simp_all [qH,zC,qU]
 .cases b with
  |nil=>simp[qt]
  |cons d m=>
   rw[DY]at h1 h2;simp only[jl]at c
   by_cases e:a=d
   .subst e;have ee:=(jN h1.1 h1.1).mpr rfl;rw[qt,qt,if_pos ee,if_pos ee];rw[if_pos ee]at c;rcases um m h1.2 h2.2 c with q|q|q
    .exact .inl q
    .exact .inr (.inl (by rw[q]))
    .exact .inr (.inr q)
   .have e1:¬qD a d=Qd:=λq=>e ((jN h1.1 h2.1).mp q);rw[qt,qt,if_neg e1,if_neg (λq=>e ((jN h2.1 h1.1).mp q).symm)];rw[if_neg e1]at c;rcases PJ d h1.1 h2.1 c with q|q|q
    .exact .inl q
    .exact absurd q e
    .exact .inr (.inr q)
def A0{a b:D}(ha:qH a=Qd)(hb:qH b=Qd)(c:zC a b=Qd):qU a b=Qd\/a=b\/qU b a=Qd:=q5y.1 a b ha hb c
def q5x:(∀a b c:D,qH a=Qd->qH b=Qd->qH c=Qd->qU a b=Qd->qU b c=Qd->qU a c=Qd)/\(∀a b c:List D,qx a=Qd->qx b=Qd->qx c=Qd->qt a b=Qd->qt b c=Qd->qt a c=Qd):=by
 refine D.ind (P:=λa=>∀b c,qH a=Qd->qH b=Qd->qH c=Qd->qU a b=Qd->qU b c=Qd->qU a c=Qd) (Q:=λa=>∀b c,qx a=Qd->qx b=Qd->qx c=Qd->qt a b=Qd->qt b c=Qd->qt a c=Qd)
  (λb c h=>by simp[qH]at h) (λ_ b c h=>by simp[qH]at h) (λi b c h1 h2 h3 p q=>?_) (λ_ b c h=>by simp[qH]at h) (λl ih b c h1 h2 h3 p q=>?_)
  (λ_ _ b c h=>by simp[qH]at h) (λ_ _ _ _ b c h=>by simp[qH]at h) (λ_ b c h=>by simp[qH]at h) (λb c h1 h2 h3 p q=>?_) (λa l PJ um b c h1 h2 h3 p q=>?_)
 .cases b with
  |int j=>cases c with
   |int k=>
    have p':i<j:=(by simpa[qU]using p);have q':j<k:=(by simpa[qU]using q);have:i<k:=∅;simpa[qU]using this
   |qA _=>cases q
   |qE=>cases q
   |bl _=>cases q
   |str _=>cases q
   |q6 _=>cases q
   |qJ _ _=>cases q
   |exc _=>cases q
  |qA _=>cases p
  |qE=>cases p
  |bl _=>cases p
  |str _=>cases p
  |q6 _=>cases p
  |qJ _ _=>cases p
  |exc _=>cases p
 .cases b with
  |qA j=>cases c with
   |qA k=>exact ih j k (by simpa[qH]using h1) (by simpa[qH]using h2) (by simpa[qH]using h3) p q
   |int _=>cases q
   |qE=>cases q
   |bl _=>cases q
   |str _=>cases q
   |q6 _=>cases q
   |qJ _ _=>cases q
   |exc _=>cases q
  |int _=>cases p
  |qE=>cases p
  |bl _=>cases p
  |str _=>cases p
  |q6 _=>cases p
  |qJ _ _=>cases p
  |exc _=>cases p
 .cases b with
  |nil=>simp[qt]at p
  |cons d m=>cases c with
   |nil=>simp[qt]at q
   |cons e n=>simp[qt]
 .cases b with
  |nil=>simp[qt]at p
  |cons d m=>cases c with
   |nil=>simp[qt]at q
   |cons e n=>
    rw[DY]at h1 h2 h3;rw[qt]at p q|-
    by_cases e1:a=d
    .subst e1;rw[if_pos ((jN h1.1 h1.1).mpr rfl)]at p
     by_cases e2:a=e
     .subst e2;rw[if_pos ((jN h1.1 h1.1).mpr rfl)]at q|-;exact um m n h1.2 h2.2 h3.2 p q
     .
      rw[if_neg (λz=>e2 ((jN h1.1 h3.1).mp z))]at q|-;exact q
    .have rV:¬qD a d=Qd:=λz=>e1 ((jN h1.1 h2.1).mp z);rw[if_neg rV]at p
     by_cases e2:d=e
     .subst e2;rw[if_neg rV];exact p
     .
      rw[if_neg (λz=>e2 ((jN h2.1 h3.1).mp z))]at q;have r:=PJ d e h1.1 h2.1 h3.1 p q
      by_cases e3:a=e
      .subst e3;rw[C6 h1.1]at r;cases r
      .
       rw[if_neg (λz=>e3 ((jN h1.1 h3.1).mp z))];exact r
def C7{a b c:D}(ha:qH a=Qd)(hb:qH b=Qd)(hc:qH c=Qd)(p:qU a b=Qd)(q:qU b c=Qd):qU a c=Qd:=q5x.1 a b c ha hb hc p q
theorem S6(x:D):∀l:List D,(ins x l).Perm (x::l)
 |[]=>.refl _
 |y::l=>by
  unfold ins;split
  .exact .refl _
  .exact ((S6 x l).cons y).trans (.swap x y l)
theorem kN:∀l:List D,(jP l).Perm l
 |[]=>.refl _
 |x::l=>(S6 x (jP l)).trans ((kN l).cons x)
def j0{l:List D}:qx l=Qd↔∀d∈l,qH d=Qd:=by
 induction l with
 |nil=>simp[qx]
 |cons a l ih=>rw[DY,ih];simp
def qo(l:List D):Prop:=l.Pairwise λa b=>qU b a=Qh
theorem nE{x:D}:∀{l:List D},qH x=Qd->(∀d∈l,qH d=Qd)->qo l->qo (ins x l)
 |[],_,_,_=>by unfold ins;exact ZZ _ _
 |y::l,hx,hl,s=>by
  have s':=QX.mp s;unfold ins;split
  .rename_i c;refine QX.mpr ⟨λd hd=>?_,s⟩;rcases Qo.mp hd with rfl|hd
   .cases q:qU d x with
    |false=>rfl
    |true=>rw[<-C6 hx];exact(C7 hx (hl d Qe) hx c q).symm▸rfl
   .cases q:qU d x with
    |false=>rfl
    |true=>
     have r:=C7 (hl d (Qc _ hd)) hx (hl y Qe) q c;rw[s'.1 d hd]at r;cases r
  .rename_i c;refine QX.mpr ⟨λd hd=>?_,nE hx (λd hd=>hl d (Qc _ hd)) s'.2⟩;rcases Qo.mp ((S6 x l).mem_iff.mp hd)with rfl|hd
   .simpa using c
   .exact s'.1 d hd
theorem R6:∀{l:List D},(∀d∈l,qH d=Qd)->qo (jP l)
 |[],_=>Jt
 |x::l,h=>nE (h x Qe) (λd hd=>h d (Qc _ ((kN l).mem_iff.mp hd))) (R6 λd hd=>h d (Qc _ hd))
theorem FU:∀{l m:List D},l.Perm m->(∀d∈l,qH d=Qd)->(∀a∈l,∀b∈l,zC a b=Qd)->qo l->qo m->l=m
 |[],m,p,_,_,_,_=>(List.Perm.nil_eq p)
 |a::l,[],p,_,_,_,_=>absurd p.length_eq (by simp)
 |a::l,b::m,p,h,c,s1,s2=>by
  have RN:=QX.mp s1;have s2':=QX.mp s2;have hb:=p.mem_iff.mpr Qe;have e:a=b:=by
   rcases Qo.mp hb with q|q
   .exact q.symm
   .rcases Qo.mp (p.mem_iff.mp Qe)with r|r
    .exact r
    .
     rcases A0 (h a Qe) (h b hb) (c a Qe b hb)with t|t|t
     .rw[(s2'.1 a r)]at t;cases t
     .exact t
     .rw[(RN.1 b q)]at t;cases t
  subst e;rw[FU p.cons_inv (λd hd=>h d (Qc _ hd)) (λx hx y hy=>c x (Qc _ hx) y (Qc _ hy)) RN.2 s2'.2]
end Ev
namespace Ev
open PySem
section
variable{G:Nat->List D->R D}{sub:Nat->Nat->Bool}
@[simp]def jf:=@ev.eq_1
@[simp]def iM:=@ev.eq_2
@[simp]def zf:=@ev.eq_3
@[simp]def zT:=@ev.eq_4
@[simp]def Rt:=@ev.eq_5
@[simp]theorem q34(a:L)(Z:Env):ev G sub (.neg a) Z=(ev G sub a Z).bind λx=>match x with
   |.int i=>.ok (.int (-i))
   |_=>.q9:=rfl
@[simp]def iT:=@ev.eq_7
@[simp]theorem iK(a b:L)(Z:Env):ev G sub (.and a b) Z=(ev G sub a Z).bind λx=>match x with
   |.bl Qd=>ev G sub b Z
   |.bl Qh=>.ok (.bl Qh)
   |_=>.q9:=rfl
@[simp]theorem q36(a b:L)(Z:Env):ev G sub (.or a b) Z=(ev G sub a Z).bind λx=>match x with
   |.bl Qd=>.ok (.bl Qd)
   |.bl Qh=>ev G sub b Z
   |_=>.q9:=rfl
@[simp]def D8:=@ev.eq_10
@[simp]def Le:=@ev.eq_11
@[simp]def D9:=@ev.eq_12
@[simp]theorem q31(k v:L)(Z:Env):ev G sub (.qJ k v) Z=(ev G sub k Z).bind λx=>(ev G sub v Z).bind λy=>match x with
   |.int i=>.ok (.qJ [.int i] [y])
   |_=>.q9:=rfl
@[simp]def xn:=@ev.eq_14
@[simp]def TR:=@ev.eq_15
@[simp]def vC:=@ev.eq_16
@[simp]def jA:=@ev.eq_17
@[simp]def xA:=@ev.eq_18
@[simp]def iV:=@ev.eq_19
@[simp]def iP:=@ev.eq_20
@[simp]theorem iO(i:Nat)(k:L)(Z:Env):ev G sub (.idxC i k) Z=(wK Z i).bind λm=>(ev G sub k Z).bind λx=>(vo x).bind λk=>match zu m k with
   |some v=>.ok (.int v)
   |none=>.q9:=rfl
@[simp]def iN:=@ev.eq_22
@[simp]def iW:=@ev.eq_23
@[simp]theorem iQ(a:L)(f:Nat)(Z:Env):ev G sub (.minK a f) Z=(ev G sub a Z).bind (yH λxs=>(mapR (λx=>G f [x]) xs).uw.bind λks=>if zU ks&&qx ks&&vg zC ks&&decide (xs.length<=1000)then(match ks.zip xs with
   |[]=>.ok .qE
   |p::l=>.ok (xh l p).2)else .q9):=rfl
@[simp]def iU:=@ev.eq_25
@[simp]def jW(Z:Env):zg G sub [] Z=.ok []:=rfl
@[simp]def kJ:=@zg.eq_2
@[simp]def wI:=@j8.eq_1
@[simp]def iX:=@j8.eq_3
@[simp]def yc:=@j8.eq_2
@[simp]def iY:=@j8.eq_4
@[simp]def IE:=@qz.eq_1
@[simp]def q0s:=@qz.eq_2
@[simp]def IF:=@qz.eq_3
@[simp]def uL:=@qz.eq_4
@[simp]def Cs:=@kF.eq_1
@[simp]def Cr:=@kF.eq_2
@[simp]def zh:=@ex.eq_1
@[simp]def XG:=@ex.eq_2
@[simp]def qBC:=@ex.eq_3
@[simp]def qB8:=@ex.eq_4
@[simp]theorem Ru(i:Nat)(a:L)(Z:Env):ex G sub (.app i a) Z=match Z[i]?with
   |some (Qa (.own (.q6 xs)))=>(ev G sub a Z).go Z λd=>if xs.length<big then .ok (Z.set i (Qa (.own (.q6 (xs++[d]))))) .nx else .q9
   |_=>.q9:=rfl
@[simp]theorem ia(i:Nat)(a:L)(Z:Env):ex G sub (.ext i a) Z=match Z[i]?with
   |some (Qa (.own (.q6 xs)))=>(ev G sub a Z).go Z λd=>match d with
     |.q6 ys=>if xs.length+ys.length<=big then .ok (Z.set i (Qa (.own (.q6 (xs++ys))))) .nx else .q9
     |_=>.q9
   |_=>.q9:=rfl
@[simp]theorem qB9(j i:Nat)(Z:Env):ex G sub (.pop j i) Z=match Z[i]?with
   |some (Qa (.own (.q6 xs)))=>match xs.getLast? with
     |some d=>.ok ((Z.set i (Qa (.own (.q6 xs.dropLast)))).set j (Qa (.val d))) .nx
     |none=>.q9
   |_=>.q9:=rfl
@[simp]theorem ib(i:Nat)(k v:L)(Z:Env):ex G sub (.put i k v) Z=match Z[i]?with
   |some (Qa (.own (.qJ ks vs)))=>(ev G sub v Z).go Z λy=>(ev G sub k Z).go Z λx=>match x with
     |.int n=>if ks.length<big then(put n y ks vs).go Z λr=>.ok (Z.set i (Qa (.own (.qJ r.1 r.2)))) .nx else .q9
     |_=>.q9
   |_=>.q9:=rfl
@[simp]theorem q3A(i:Nat)(a:L)(Z:Env):ex G sub (.setE i a) Z=(ev G sub a Z).go Z λd=>match d with
   |.int n=>if 0<=n/\n<=1000 then .ok (Z.set i (Qa (.zq (Qr n.toNat [])))) .nx else .q9
   |_=>.q9:=rfl
@[simp]theorem q37(i:Nat)(k a:L)(Z:Env):ex G sub (.app2 i k a) Z=match Z[i]?with
   |some (Qa (.zq xss))=>(ev G sub k Z).go Z λx=>match x with
     |.int n=>if 0<=n then(match xss[n.toNat]?with
       |some ys=>(ev G sub a Z).go Z λd=>if ys.length<big then .ok (Z.set i (Qa (.zq (xss.set n.toNat (ys++[d]))))) .nx else .q9
       |none=>.q9)else .q9
     |_=>.q9
   |_=>.q9:=rfl
@[simp]def q38:=@ex.eq_12
@[simp]def wJ:=@ex.eq_13
@[simp]def vD:=@ex.eq_14
@[simp]def q3B:=@ex.eq_15
@[simp]def kL:=@ex.eq_16
@[simp]theorem Lg(i:Nat)(Z:Env):ex G sub (.retO i) Z=match Z[i]?with
   |some (Qa (.own d))=>.ok (Z.set i Qg) (.ret d)
   |some (Qa (.zq xss))=>.ok (Z.set i Qg) (.ret (.q6 (xss.map .q6)))
   |_=>.q9:=rfl
@[simp]def qBA:=@ex.eq_22
@[simp]def q39:=@ex.eq_23
@[simp]theorem ie(i f:Nat)(args:List L)(Z:Env):ex G sub (.setF i f args) Z=(zg G sub args Z).go Z λds=>(G f ds).go Z λd=>match xk d with
   |some m=>.ok (Z.set i (Qa (.jy m))) .nx
   |none=>.q9:=rfl
@[simp]def qBB:=@ex.eq_25
@[simp]theorem ic(i:Nat)(k v:L)(Z:Env):ex G sub (.putC i k v) Z=(ev G sub v Z).go Z λy=>(wK Z i).go Z λm=>(ev G sub k Z).go Z λx=>(vo x).go Z λk=>match y with
   |.int v=>if m.length<big then .ok (Z.set i (Qa (.jy (jm m k v)))) .nx else .q9
   |_=>.q9:=rfl
@[simp]theorem iZ(i:Nat)(o:Op2)(k v:L)(Z:Env):ex G sub (.augC i o k v) Z=(wK Z i).go Z λm=>(ev G sub k Z).go Z λx=>(vo x).go Z λk=>match zu m k with
   |some u=>(ev G sub v Z).go Z λy=>(yW o (.int u) y).go Z λz=>match z with
    |.int z=>if m.length<big then .ok (Z.set i (Qa (.jy (jm m k z)))) .nx else .q9
    |_=>.q9
   |none=>.q9:=rfl
@[simp]theorem qBD(body:List S)(c i j:Nat)(Z:Env):ex G sub (.tryE body c i j) Z=match qN G sub body Z with
   |.err e ρ'=>if sub e c then .ok ((ρ'.set j (Qa (.val (.exc e)))).set i Qg) .nx else .q9
   |r=>r:=rfl
@[simp]def za(Z:Env):qN G sub [] Z=.ok Z .nx:=rfl
@[simp]def jF:=@qN.eq_2
end
end Ev
namespace Ev
open PySem
noncomputable abbrev wv(d:D):Option Sl:=Qa (.val d)
noncomputable def nI(t:Nat):D:=.int (t:Int)
def nL(l:List Nat):List D:=l.map nI
@[simp]def qBZ:nL []=[]:=rfl
@[simp]def yI(a:Nat)(l:List Nat):nL (a::l)=nI a::nL l:=rfl
@[simp]def rP(a b:List Nat):nL (a++b)=nL a++nL b:=JA
@[simp]def uG(l:List Nat):(nL l).length=l.length:=Qm _
@[simp]def aV(a b:Nat):nI a=nI b↔a=b:=by unfold nI;simp;lia
def aX{a b:List Nat}:nL a=nL b↔a=b:=by unfold nL;exact⟨λh=>(List.map_inj_right (λx y e=>(aV x y).mp e)).mp h,λh=>by rw[h]⟩
@[simp]def add_n(a b:Nat):zD .add (nI a) (nI b)=.ok (nI (a+b)):=rfl
@[simp]def q8x(a b:Nat)(ha:a<2^62)(hb:b<=1000):zD .shl (nI a) (nI b)=.ok (nI (a<<<b)):=by unfold nI;rw[RG _ (by decide) (by decide)];unfold jh;dsimp only;rw[if_pos ∅];rfl
@[simp]def qBw(a b:Nat):zD .shr (nI a) (nI b)=.ok (nI (a>>>b)):=by unfold nI;rw[RG _ (by decide) (by decide)];unfold jh;dsimp only;rw[if_pos ∅];rfl
@[simp]def dQ(a b:Nat):zD .band (nI a) (nI b)=.ok (nI (a&&&b)):=by unfold nI;rw[RG _ (by decide) (by decide)];unfold jh;dsimp only;rw[if_pos ∅];rfl
@[simp]def q1z(a b:Nat):zD .bor (nI a) (nI b)=.ok (nI (a|||b)):=by unfold nI;rw[RG _ (by decide) (by decide)];unfold jh;dsimp only;rw[if_pos ∅];rfl
def q0l(a b:Nat)(h:b<=a):zD .sub (nI a) (nI b)=.ok (nI (a-b)):=by unfold nI;rw[RG _ (by decide) (by decide)];unfold jh;congr 2;lia
@[simp]def CB(a b:Nat)(h:0<b):zD .mod (nI a) (nI b)=.ok (nI (a %b)):=by unfold nI;rw[RG _ (by decide) (by decide)];unfold jh;dsimp only;rw[if_pos ∅];rfl
@[simp]def Lm(a b:Nat)(h:0<b)(h2:b<1073741824):zD .fdiv (nI a) (nI b)=.ok (nI (a/b)):=by unfold nI;rw[RG _ (by decide) (by decide)];unfold jh;dsimp only;rw[if_pos ∅];rfl
@[simp]def pl_n(a:Nat):pl (nI a)=Qd:=rfl
@[simp]def qBp(a:Int):pl (.int a)=Qd:=rfl
@[simp]def qBo(a:Bool):pl (.bl a)=Qd:=rfl
@[simp]def qBs(a:Str):pl (.str a)=Qd:=rfl
@[simp]def qBr:pl .qE=Qd:=rfl
@[simp]def qBl(k a:Nat):qK k (nI a)=Qd:=by cases k<;>rfl
@[simp]def qBk(k:Nat)(a:Int):qK k (.int a)=Qd:=by cases k<;>rfl
@[simp]def qBi(k:Nat)(a:Bool):qK k (.bl a)=Qd:=by cases k<;>rfl
@[simp]def qBn(k:Nat)(a:Str):qK k (.str a)=Qd:=by cases k<;>rfl
@[simp]def qBm(k:Nat):qK k .qE=Qd:=by cases k<;>rfl
@[simp]def ym(k:Nat)(l:List D):qK (k+1) (.qA l)=l.all (qK k):=by simp[qK]
@[simp]def Xp(k:Nat)(l:List D):qK (k+1) (.q6 l)=l.all (qK k):=by simp[qK]
@[simp]def qAm(k:Nat)(l:List Nat):(nL l).all (qK k)=Qd:=by simp[nL]
@[simp]def sf(l:List Nat):pl (.qA (nL l))=Qd:=by unfold pl;simp
@[simp]def qBq(l:List Nat):pl (.q6 (nL l))=Qd:=by unfold pl;simp
@[simp]def qBh:zU []=Qd:=rfl
@[simp]def qBf(a:D)(l:List D):zU (a::l)=(pl a&&zU l):=rfl
def vX{l:List D}:zU l=Qd↔∀d∈l,pl d=Qd:=by unfold zU;simp
@[simp]def q7L(l:List Nat):zU (nL l)=Qd:=vX.mpr λd hd=>by obtain⟨a,_,rfl⟩:=Qn.mp hd;rfl
@[simp]def q2v(a b:Nat):qD (nI a) (nI b)=decide (a=b):=by
 have:qD (.int (a:Int)) (.int (b:Int))=decide ((a:Int)=b):=by simp[qD]
 rw[nI,nI,this];exact decide_eq_decide.mpr ∅
@[simp]def Oe(a:Nat):qH (nI a)=Qd:=by simp[nI,qH]
@[simp]def GJ(l:List Nat):qx (nL l)=Qd:=j0.mpr λd hd=>by obtain⟨a,_,rfl⟩:=Qn.mp hd;exact Oe a
@[simp]def Of(l:List Nat):qH (.qA (nL l))=Qd:=by simp[qH]
@[simp]def La(a b:List Nat):qD (.qA (nL a)) (.qA (nL b))=decide (a=b):=by rw[QR,jN (Of a) (Of b)];simp[aX]
@[simp]def lt_n(a b:Nat):qc .lt (nI a) (nI b)=.ok (.bl (decide (a<b))):=by simp[nI,qc,zC,qU,pl,qH]
@[simp]def ge_n(a b:Nat):qc .ge (nI a) (nI b)=.ok (.bl (decide (b<=a))):=by simp[nI,qc,zC,qU,pl,qH];rw[QR];simp
@[simp]def q48(a b:Nat):qc .gt (nI a) (nI b)=.ok (.bl (decide (b<a))):=by simp[nI,qc,intD]
@[simp]def le_n(a b:Nat):qc .le (nI a) (nI b)=.ok (.bl (decide (a<=b))):=by simp[nI,qc,intD]
@[simp]def iD(a b:Nat):qc .eq (nI a) (nI b)=.ok (.bl (decide (a=b))):=by simp[qc]
@[simp]def q6K(a b:Nat):qc .ne (nI a) (nI b)=.ok (.bl (!decide (a=b))):=by simp[qc]
@[simp]def Cq(b:Bool):tr (.bl b)=.ok b:=rfl
@[simp]def qBx(l:List D):tr (.q6 l)=.ok (!l.isEmpty):=rfl
@[simp]def qBy(l:List D):tr (.qA l)=.ok (!l.isEmpty):=rfl
@[simp]def u9(l:List D):j9 (.q6 l)=.ok l:=rfl
@[simp]def q59(l:List D):yD (.q6 l)=.ok l:=rfl
@[simp]def qBL(l:List D):yD (.qA l)=.ok l:=rfl
@[simp]def qBM(l:List D):j9 (.qA l)=.ok l:=rfl
theorem nH:∀l:List Nat,ints? (nL l)=Qa (l.map λ(a:Nat)=>(a:Int))
 |[]=>rfl
 |a::l=>by simp[ints?,nI,nH l]
@[simp]def q5A(k:List Nat)(v:List D):j9 (.qJ (nL k) v)=.ok (nL k):=by simp[j9,nH]
def sH:D.int 0=nI 0:=rfl
def RE:D.int 1=nI 1:=rfl
def Pu:D.int 2=nI 2:=rfl
@[simp]def uH(j:Nat)(h:j<2^62):wV [nI j]=.ok (nL (Qt j)):=by unfold wV nI;simp only;rw[if_pos ∅];simp[nL,nI]
@[simp]def unp0(d:D):kG 0 d=.ok [d]:=rfl
@[simp]def unp2(a b:D):kG 2 (.qA [a,b])=.ok [a,b]:=rfl
@[simp]def qBu(i:Nat)(d:D)(Z:Env):uI [i] [d] Z=Z.set i (Qa (.val d)):=rfl
@[simp]def qBv(i j:Nat)(d e:D)(Z:Env):uI [i,j] [d,e] Z=(Z.set i (Qa (.val d))).set j (Qa (.val e)):=rfl
@[simp]def qAT:zj []=[]:=rfl
@[simp]def qAS(d:D)(l:List D):zj (d::l)=Qa (.val d)::zj l:=rfl
@[simp]def qB5(elt:Env->R D)(cond:Env->R Bool)(k:Nat)(Z:Env):jv elt cond k Z []=.ok []:=rfl
theorem fJ{elt:Env->R D}{cond:Env->R Bool}{k:Nat}{Z:Env}{g:D->D}{p:D->Bool}:∀{ds:List D},
  (∀d∈ds,∃xs,kG k d=.ok xs/\cond (zj xs++Z)=.ok (p d)/\(p d=Qd->elt (zj xs++Z)=.ok (g d)))->jv elt cond k Z ds=.ok ((ds.filter p).map g)
 |[],_=>rfl
 |d::ds,h=>by
  obtain⟨xs,h1,h2,h3⟩:=h d Qe;have ih:=fJ (elt:=elt) (cond:=cond) (k:=k) (Z:=Z) (g:=g) (p:=p) (ds:=ds) λe he=>h e (Qc _ he);unfold jv;rw[h1,qB,h2,qB];cases hp:p d with
  |true=>rw[if_pos rfl,h3 hp,qB,ih];simp[JY,hp]
  |false=>rw[if_neg (by simp),ih];simp[JY,hp]
@[simp]theorem lP(Z:Env)(i:Nat):jG Z i=match Z[i]?with
 |some (Qa (.val d))=>.ok d
 |_=>.q9:=rfl
@[simp]theorem qBE(Z:Env)(i:Nat):Ta Z i=match Z[i]?with
 |some (Qa (.val d))=>.ok d
 |some (Qa (.own d))=>.ok d
 |_=>.q9:=rfl
@[simp]def qAn(o:Op2)(a b:Nat):yW o (nI a) (nI b)=zD o (nI a) (nI b):=rfl
def zt:big=1000000:=rfl
def TX(body:Env->RS)(k:Nat)(is:List Nat)(Z:Env):zb body k is [] Z=.ok Z .nx:=rfl
def jx(body:Env->RS)(i:Nat)(d:D)(ds:List D)(Z:Env):zb body 0 [i] (d::ds) Z=(body (Z.set i (Qa (.val d)))).turn λρ'=>zb body 0 [i] ds ρ':=rfl
def q3V(body:Env->RS)(i j:Nat)(a b:D)(ds:List D)(Z:Env):zb body 2 [i,j] (.qA [a,b]::ds) Z=(body ((Z.set i (Qa (.val a))).set j (Qa (.val b)))).turn λρ'=>zb body 2 [i,j] ds ρ':=rfl
def qAY(c:Env->R Bool)(body:Env->RS)(n:Nat)(Z:Env):uM c body (n+1) Z=(c Z).go Z λt=>if t then(body Z).turn λρ'=>uM c body n ρ' else .ok Z .nx:=rfl
section
variable{sub:Nat->Nat->Bool}
@[simp]def Ik(xs:List D):zB sub .len [.q6 xs]=.ok (nI xs.length):=rfl
@[simp]def qB0(xs:List D):zB sub .len [.qA xs]=.ok (nI xs.length):=rfl
@[simp]def qAz(ks vs:List D):zB sub .len [.qJ ks vs]=.ok (nI ks.length):=rfl
@[simp]def EG(xs:List D):zB sub .tuple [.q6 xs]=.ok (.qA xs):=rfl
@[simp]def qB2(xs:List D):zB sub .tuple [.qA xs]=.ok (.qA xs):=rfl
@[simp]def q1i(xs:List D):zB sub .list [.q6 xs]=.ok (.q6 xs):=rfl
@[simp]def qB1(xs:List D):zB sub .list [.qA xs]=.ok (.q6 xs):=rfl
@[simp]def qAx(sub:Nat->Nat->Bool)(l:List D):zB sub .isTup [.qA l]=.ok (.bl Qd):=rfl
@[simp]def qAw(sub:Nat->Nat->Bool)(l:List D):zB sub .PN [.q6 l]=.ok (.bl Qd):=rfl
@[simp]def qAu(sub:Nat->Nat->Bool)(i:Int):zB sub .isInt [.int i]=.ok (.bl Qd):=rfl
@[simp]def qAv(sub:Nat->Nat->Bool)(i:Nat):zB sub .isInt [nI i]=.ok (.bl Qd):=rfl
@[simp]def qAq(sub:Nat->Nat->Bool)(i:Int):zB sub .isBool [.int i]=.ok (.bl Qh):=rfl
@[simp]def qAs(sub:Nat->Nat->Bool)(i:Nat):zB sub .isBool [nI i]=.ok (.bl Qh):=rfl
@[simp]def qAr(sub:Nat->Nat->Bool)(b:Bool):zB sub .isBool [.bl b]=.ok (.bl Qd):=rfl
@[simp]def qAy(sub:Nat->Nat->Bool)(e:Nat):zB sub .isVal [.exc e]=.ok (.bl Qd):=rfl
@[simp]def qAt(sub:Nat->Nat->Bool)(c e:Nat):zB sub (.isExc c) [.exc e]=.ok (.bl (sub e c)):=rfl
@[simp]def de(d:D):zB sub .sorted [d]=(j9 d).bind λxs=>if ji xs then .ok (.q6 (jP xs))else .q9:=rfl
@[simp]def q1k(d:D):zB sub .jS [d]=(yD d).bind λxs=>if qx xs&&zU xs&&decide (xs.length<=1000)&&ji (dedup xs)then .ok (.q6 (jP (dedup xs)))else .q9:=rfl
@[simp]theorem dZ(xs:List D):zB sub .all [.q6 xs]=match bools? xs with
   |some bs=>.ok (.bl (bs.all id))
   |none=>.q9:=rfl
@[simp]theorem q1e(xs:List D):zB sub .any [.q6 xs]=match bools? xs with
 |some bs=>.ok (.bl (bs.any id))
 |none=>.q9:=rfl
@[simp]def qAo(xs:List D)(x:D):zB sub .count [.q6 xs,x]=if pl x&&zU xs then .ok (.int ((xs.filter λy=>qD y x).length))else .q9:=rfl
@[simp]def qAp(xs:List D)(x:D):zB sub .index [.q6 xs,x]=if pl x&&zU xs then idxOf x xs 0 else .q9:=rfl
end
end Ev
namespace Ev
open PySem
structure Ix where
 (A4 Ck holds A5 q6P RA AF qB6 qA0 q55 q54 q5m q5n qBX qBb q9y qBK qBH L9:Nat)
 (qBN qBO qBV qBR qBS qBP qBU qBQ qBT qBW:Nat)
namespace B
def aH:List S:=[.aug 1 .bor (.op .shl (kZ 1) qO)]
def A4:List S:=[
 .set 1 (kZ 0),
 .qw 0 [2] (.e qC) aH,
 .ret qG]
def holds:List S:=[
 .ret (.cm .eq (.op .band (.op .shr qC qG) (kZ 1)) (kZ 1))]
def Ck(f:Ix):List S:=[
 .ret (.bi .tuple [.comp 0 qC (.rng [.bi .bits [qC]]) [.e (.call f.holds [qG,qC])]])]
def A5:List S:=[
 .ret (.op .sub (.op .shl (kZ 1) qC) (kZ 1))]
def A6:List S:=[.ifs (.e (.cm .eq (.op .band qp qG) qp)) [.ret (.qh (.bl Qd))] []]
def RA(f:Ix):List S:=[
 .ifs (.e (.call f.holds [qG,qO])) [.ret (.qh (.bl Qh))] [],
 .qw 0 [3] (.e (.idx qC qO)) A6,
 .ret (.qh (.bl Qh))]
def AF(f:Ix):List S:=[
 .ret (.comp 0 qC (.e (.call f.Ck [qO])) [.e (.call f.RA [qG,qO,qC])])]
end B
section
variable{G:Nat->List D->R D}{sub:Nat->Nat->Bool}{f:Ix}
noncomputable def z9(m:Nat)(ts:List Nat):Nat:=ts.foldl (λm t=>m|||(1<<<t)) m
theorem pj:∀(ts:List Nat)(m:Nat)(x y:Option Sl),(∀t∈ts,t<=1000)->
  ∃y',zb (qN G sub B.aH) 0 [2] (nL ts) [x,Qa (.val (nI m)),y]=.ok [x,Qa (.val (nI (z9 m ts))),y'] .nx
 |[],m,x,y,_=>⟨y,rfl⟩
 |t::ts,m,x,y,h=>by obtain⟨y',e⟩:=pj ts (m|||(1<<<t)) x (Qa (.val (nI t))) (λu hu=>h u (Qc _ hu));refine⟨y',Eq.trans ?_ e⟩;rw[yI,jx];simp[B.aH,RE,(h t Qe)]
def q82(ts:List Nat)(h:∀t∈ts,t<=1000)(d:D)(hd:d=.qA (nL ts)\/d=.q6 (nL ts)):run G sub 3 B.A4 [d]=.ok (nI (z9 0 ts)):=by obtain⟨y',e⟩:=pj (G:=G) (sub:=sub) ts 0 (Qa (.val d)) Qg h;rcases hd with rfl|rfl<;>simp[run,B.A4,sH,e]
def q81(m t:Nat):run G sub 2 B.holds [nI m,nI t]=.ok (.bl (m.testBit t)):=by simp only[run,B.holds];simp[RE,Nat.testBit_eq_decide_div_mod_eq,Nat.and_one_is_mod,ZS]
noncomputable def uR(m:Nat):Nat:=if m=0 then 0 else m.log2+1
def qZ(m:Nat):List Nat:=(Qt (uR m)).filter m.testBit
def q1p(m:Nat):zB sub .bits [nI m]=.ok (nI (uR m)):=by
 show(if 0<=(m:Int)then R.ok (D.int (if(m:Int)=0 then 0 else(((m:Int).toNat.log2+1:Nat):Int)))else R.q9)=_;unfold nI uR;rw[if_pos ∅]
 by_cases h:m=0
 .subst h;rfl
 .rw[if_neg ∅,if_neg h];rfl
def dz(m:Nat)(h:m<2^62):uR m<=62:=by
 unfold uR;split
 .lia
 .have:=(Nat.log2_lt (by assumption)).mpr h;lia
def q3O(l:List Nat)(p:Nat->Bool)(q:D->Bool)(h:∀a∈l,q (nI a)=p a):(nL l).filter q=nL (l.filter p):=by
 induction l with
 |nil=>rfl
 |cons a l ih=>
  rw[yI,JY,JY,(h a Qe),(ih λb hb=>h b (Qc _ hb))];split<;>simp
def natOf:D->Nat
 |.int i=>i.toNat
 |_=>0
@[simp]def qBa(a:Nat):natOf (nI a)=a:=by simp[natOf,nI]
def EX{elt:Env->R D}{cond:Env->R Bool}{Z:Env}{p:Nat->Bool}{l:List Nat}(hc:∀a∈l,cond (Qa (.val (nI a))::Z)=.ok (p a))(he:∀a∈l,elt (Qa (.val (nI a))::Z)=.ok (nI a)):
  jv elt cond 0 Z (nL l)=.ok (nL (l.filter p)):=by
 rw[fJ (g:=id) (p:=λd=>p (natOf d))]
 .rw[List.map_id,q3O l p];intro a _;simp
 .intro d hd;refine qR (Qn.mp hd) λa ha zz=>?_;subst zz;refine⟨[nI a],rfl,?_,λ_=>?_⟩
  .simp[hc a ha]
  .simp[he a ha]
def q8H(hH:∀m t:Nat,G f.holds [nI m,nI t]=.ok (.bl (m.testBit t)))(m:Nat)(h:m<2^62):run G sub 1 (B.Ck f) [nI m]=.ok (.qA (nL (qZ m))):=by
 have hb:=dz m h;have hl:((Qt (uR m)).filter m.testBit).length<=big:=Qx (QS _ _) (by rw[Q1,zt];lia);have e:=EX (elt:=ev G sub qC) (cond:=kF G sub [.e (.call f.holds [qG,qC])]) (Z:=[Qa (.val (nI m))]) (p:=m.testBit) (l:=Qt (uR m))
  (λa _=>by cases q:m.testBit a<;>simp[hH,q]) (λa _=>by simp)
 have e0:j8 G sub (.rng [.bi .bits [qC]]) [Qa (.val (nI m))]=.ok (nL (Qt (uR m))):=by rw[wI,kJ,jA,kJ,jf,jW];show((zB sub .bits [nI m]).bind λx=>R.ok [x]).bind wV=_;rw[q1p,qB,qB,uH _ (Yj hb (by decide))]
 have e1:ev G sub (.comp 0 qC (.rng [.bi .bits [qC]]) [.e (.call f.holds [qG,qC])]) [Qa (.val (nI m))]=.ok (.q6 (nL (qZ m))):=by rw[xA,e0,qB,e,vw,qB,uG,if_pos hl];rfl
 show run G sub 1 [.ret (.bi .tuple [.comp 0 qC (.rng [.bi .bits [qC]]) [.e (.call f.holds [qG,qC])]])] [nI m]=_;generalize (L.comp 0 qC (.rng [.bi .bits [qC]]) [.e (.call f.holds [qG,qC])])=cc at e1;simp only[run];simp[e1]
def q83(n:Nat)(h:n<=1000):run G sub 1 B.A5 [nI n]=.ok (nI (2^n-1)):=by simp only[run,B.A5];simp[RE,h];rw[q0l _ _ (by rw[WL];exact Nat.one_le_two_pow)];simp[WL]
noncomputable def zS(nd:List (List Nat))(k t:Nat):Bool:=!k.testBit t&&((nd.getD t []).any λx=>x&&&k==x)
def vG(nd:List (List Nat)):D:=.q6 (nd.map λl=>.q6 (nL l))
def q64(k x:Nat)(a c d:Option Sl):qN G sub B.A6 [a,Qa (.val (nI k)),c,Qa (.val (nI x))]=.ok [a,Qa (.val (nI k)),c,Qa (.val (nI x))] (if x&&&k=x then .ret (.bl Qd)else .nx):=by
 by_cases h:x&&&k=x<;>simp[B.A6,h]
theorem pq(k:Nat)(a c:Option Sl):∀(l:List Nat)(d:Option Sl),∃d',zb (qN G sub B.A6) 0 [3] (nL l) [a,Qa (.val (nI k)),c,d]=
  .ok [a,Qa (.val (nI k)),c,d'] (if l.any (λx=>x&&&k==x)=Qd then .ret (.bl Qd)else .nx)
 |[],d=>⟨d,rfl⟩
 |x::l,d=>by
  obtain⟨d',e⟩:=pq k a c l (Qa (.val (nI x)));rw[yI,jx];simp;rw[q64 k x a c d]
  by_cases h:x&&&k=x
  .exact⟨Qa (.val (nI x)),by simp[h]⟩
  .refine⟨d',?_⟩;rw[if_neg h,v9,e];simp[h]
def RD(l:List D)(t:Nat)(d:D)(h:l[t]?=Qa d):yL l (t:Int)=.ok d:=by unfold yL;rw[if_pos ∅];simp[h]
def q84(hH:∀m t:Nat,G f.holds [nI m,nI t]=.ok (.bl (m.testBit t)))(nd:List (List Nat))(k t:Nat)(h:t<nd.length):run G sub 4 (B.RA f) [vG nd,nI k,nI t]=.ok (.bl (zS nd k t)):=by
 unfold zS;have e1:nd.getD t []=nd[t]:=by simp[JH,h]
 have e2:jo (vG nd) (nI t)=.ok (.q6 (nL (nd.getD t []))):=by refine RD _ _ _ ?_;rw[QJ,Qv h,e1];rfl
 generalize nd.getD t []=l at e2|-;obtain⟨d',e⟩:=pq (G:=G) (sub:=sub) k (Qa (.val (vG nd))) (Qa (.val (nI t))) l Qg;simp only[run,B.RA];cases q:k.testBit t
 .cases r:l.any (λx=>x&&&k==x)
  .rw[r]at e;simp[hH,q,e2,e]
  .rw[r]at e;simp[hH,q,e2,e]
 .simp[hH,q]
def yl(nd:List (List Nat))(k b:Nat):List Nat:=(qZ b).filter (zS nd k)
def jZ{m t:Nat}:t∈qZ m↔m.testBit t=Qd:=by
 unfold qZ;rw[QO,QN];refine⟨λh=>h.2,λh=>⟨?_,h⟩⟩;have:m≠0:=by intro z;subst z;simp at h
 unfold uR;rw[if_neg this];have:=(Nat.le_log2 this).mpr (Vi h);lia
def q86(hT:∀m:Nat,m<2^62->G f.Ck [nI m]=.ok (.qA (nL (qZ m))))(nd:List (List Nat))(hM:∀k t:Nat,t<nd.length->G f.RA [vG nd,nI k,nI t]=.ok (.bl (zS nd k t)))(k b:Nat)(hb:b<2^nd.length)(hn:nd.length<=60):
  run G sub 3 (B.AF f) [vG nd,nI k,nI b]=.ok (.q6 (nL (yl nd k b))):=by
 have G5:b<2^62:=QF hb (Q6 (by decide) ∅);have qj:∀t∈qZ b,t<nd.length:=λt ht=>by have:=Vi (jZ.mp ht);exact(Z0 (by decide)).mp (Yj this hb)
 have e:=EX (elt:=ev G sub qC) (cond:=kF G sub [.e (.call f.RA [qG,qO,qC])]) (Z:=[Qa (.val (vG nd)),Qa (.val (nI k)),Qa (.val (nI b))]) (p:=zS nd k) (l:=qZ b)
  (λa ha=>by cases q:zS nd k a<;>simp[hM k a (qj a ha),q]) (λa _=>by simp)
 have hl:((qZ b).filter (zS nd k)).length<=big:=by refine Qx (QS _ _) (Qx (QS _ _) ?_);rw[Q1,zt];have:=dz b G5;lia
 simp only[run,B.AF];simp[hT b G5,e,hl,yl]
end
end Ev
namespace Ev
open PySem PySem.SeqAt
mutual
def Dv(h:Heap):D->Value->Prop
 |.qE,u=>u=.none
 |.bl b,u=>u=.bool b
 |.int i,u=>∃t,u=.int i t
 |.str x,u=>∃t,u=.str x t
 |.qA ds,u=>∃a us,u=.ref a/\h.IsTuple a (QP us)/\zA h ds us
 |.q6 ds,u=>∃a us,u=.ref a/\h.IsList a (QP us)/\zA h ds us
 |.qJ _ _,_=>True
 |.exc _,_=>True
def zA(h:Heap):List D->List Value->Prop
 |[],us=>us=[]
 |d::ds,us=>∃u r,us=u::r/\Dv h d u/\zA h ds r
end
theorem zA.length{h:Heap}:∀{ds:List D}{us:List Value},zA h ds us->ds.length=us.length
 |[],us,x=>by cases x;rfl
 |d::ds,us,x=>by obtain⟨u,r,e,_,y⟩:=x;subst e;simp[zA.length y]
theorem zA.get{h:Heap}:∀{ds:List D}{us:List Value}{i:Nat}{d:D},zA h ds us->ds[i]?=Qa d->∃u,us[i]?=Qa u/\Dv h d u
 |[],us,i,d,x,e=>by simp at e
 |a::ds,us,0,d,x,e=>by obtain⟨u,r,q,y,_⟩:=x;subst q;simp at e;subst e;exact⟨u,rfl,y⟩
 |a::ds,us,i+1,d,x,e=>by obtain⟨u,r,q,_,y⟩:=x;subst q;refine qR (zA.get y (by simpa using e)) λv e1 e2=>?_;exact⟨v,by simpa using e1,e2⟩
theorem zA.mem{h:Heap}:∀{ds:List D}{us:List Value}{u:Value},zA h ds us->u∈us->∃d∈ds,Dv h d u
 |[],us,u,x,e=>by cases x;cases e
 |a::ds,us,u,x,e=>by
  refine qL x λw r q y1 y2=>?_;subst q;rcases Qo.mp e with rfl|e
  .exact⟨a,Qe,y1⟩
  .obtain⟨d,hd,z⟩:=zA.mem y2 e;exact⟨d,Qc _ hd,z⟩
def uW(ds es:List D)(j:Nat):Bool:=match ds[j]?,es[j]?with
 |some d,Qa e=>qD d e
 |_,_=>Qd
def all_succ(f:Nat->Bool)(n:Nat):(Qt (n+1)).all f=(f 0&&(Qt n).all (λi=>f (i+1))):=by rw[FD,Vm,WB];rfl
theorem D5:∀ds es:List D,((Qt (min ds.length es.length)).all (uW ds es)&&ds.length==es.length)=z6 ds es
 |[],[]=>rfl
 |[],_::_=>by simp[z6]
 |_::_,[]=>by simp[z6]
 |d::ds,e::es=>by
  have ih:=D5 ds es;rw[QG,QG,Nat.succ_min_succ,all_succ,z6,<-ih];have h1:uW (d::ds) (e::es) 0=qD d e:=rfl;have h2:(λi=>uW (d::ds) (e::es) (i+1))=uW ds es:=by funext i;simp[uW]
  rw[h1,h2];have h3:(ds.length+1==es.length+1)=(ds.length==es.length):=by simp
  rw[h3,Bool.and_assoc]
def LW{ds es:List D}(h:ds.length=es.length):(Qt ds.length).all (uW ds es)=z6 ds es:=by have:=D5 ds es;rw[<-h,Nat.min_self]at this;simpa using this
theorem Ej:∀{ds es:List D},ds.length≠es.length->z6 ds es=Qh
 |[],[],h=>absurd rfl h
 |[],_::_,_=>by simp[z6]
 |_::_,[],_=>by simp[z6]
 |d::ds,e::es,h=>by rw[z6,Ej (λq=>h (by simp[q]))];simp
def qAI{h:Heap}{a:Addr}{us vs:List Value}(x:h.IsTuple a us.toArray)(y:h.IsTuple a vs.toArray):us=vs:=by
 obtain⟨o,e,_,n,d⟩:=x;obtain⟨o',e',_,n',d'⟩:=y;rw[e]at e';cases e';rw[d]at d';injection d' with d1 _
 simpa using congrArg Wi d1
def q5v{h:Heap}{a:Addr}{us vs:List Value}(x:h.IsList a us.toArray)(y:h.IsList a vs.toArray):us=vs:=by
 obtain⟨o,e,_,n,d⟩:=x;obtain⟨o',e',_,n',d'⟩:=y;rw[e]at e';cases e';rw[d]at d';injection d' with d1 _
 simpa using congrArg Wi d1
def q0u{h:Heap}{a:Addr}{us vs:List Value}(x:h.IsTuple a us.toArray)(y:h.IsList a vs.toArray):False:=by
 obtain⟨o,e,c,_⟩:=x;obtain⟨o',e',c',_⟩:=y;rw[e]at e';cases e';rw[c]at c';injection c' with q
 exact absurd q (by decide)
def LZ:∀(k:Nat){h:Heap}{d e:D}{u:Value},qK k d=Qd->qK k e=Qd->Dv h d u->Dv h e u->qD d e=Qd:=by
 have lists:∀(k:Nat),(∀{h:Heap}{d e:D}{u:Value},qK k d=Qd->qK k e=Qd->Dv h d u->Dv h e u->qD d e=Qd)->∀{h:Heap}{ds es:List D}{us:List Value},ds.all (qK k)=Qd->es.all (qK k)=Qd->zA h ds us->zA h es us->z6 ds es=Qd:=by
  intro k ih h ds
  induction ds with
  |nil=>
   intro es us _ _ x y;cases x;cases es with
   |nil=>simp[z6]
   |cons e es=>obtain⟨_,_,q,_⟩:=y;cases q
  |cons d ds um=>
   intro es us p q x y;obtain⟨u,r,e1,x1,x2⟩:=x;subst e1;cases es with
   |nil=>cases y
   |cons e es=>
    refine qL y λu' r' e2 y1 y2=>?_;injection e2 with e3 e4
    subst e3 e4;simp only[Vm,Qp]at p q;rw[z6,ih p.1 q.1 x1 y1,um p.2 q.2 x2 y2];rfl
 intro k
 induction k with
 |zero=>
  intro h d e u p q x y;cases d<;>cases e<;>first
   |(simp[qK]at p;done)
   |(simp[qK]at q;done)
   |(obtain⟨t,rfl⟩:=x;obtain⟨t',q'⟩:=y;injection q' with q1 _;subst q1;simp[qD];done)
   |(obtain⟨t,rfl⟩:=x;obtain⟨t',q'⟩:=y;cases q';done)
   |(obtain⟨t,rfl⟩:=x;cases y;done)
   |(obtain⟨t,rfl⟩:=y;cases x;done)
   |(cases x;cases y;simp[qD];done)
   |(cases x;cases y;done)
 |succ k ih=>
  intro h d e u p q x y;cases d<;>cases e<;>first
   |(simp[qK]at p;done)
   |(simp[qK]at q;done)
   |(obtain⟨a,us,rfl,x1,x2⟩:=x;obtain⟨a',vc,q',y1,y2⟩:=y;injection q' with q1;subst q1;cases qAI x1 y1;rw[ym]at p q;simpa[qD]using lists k (λ{h d e u}=>ih) p q x2 y2;done)
   |(obtain⟨a,us,rfl,x1,x2⟩:=x;obtain⟨a',vc,q',y1,y2⟩:=y;injection q' with q1;subst q1;cases q5v x1 y1;rw[Xp]at p q;simpa[qD]using lists k (λ{h d e u}=>ih) p q x2 y2;done)
   |(obtain⟨a,us,rfl,x1,x2⟩:=x;obtain⟨a',vc,q',y1,y2⟩:=y;injection q' with q1;subst q1;exact(q0u x1 y1).elim)
   |(obtain⟨a,us,rfl,x1,x2⟩:=x;obtain⟨a',vc,q',y1,y2⟩:=y;injection q' with q1;subst q1;exact(q0u y1 x1).elim)
   |(obtain⟨a,us,rfl,x1,x2⟩:=x;obtain⟨t',q'⟩:=y;cases q';done)
   |(obtain⟨a,us,rfl,x1,x2⟩:=x;cases y;done)
   |(obtain⟨a,us,rfl,x1,x2⟩:=y;obtain⟨t',q'⟩:=x;cases q';done)
   |(obtain⟨a,us,rfl,x1,x2⟩:=y;cases x;done)
   |(obtain⟨t,rfl⟩:=x;obtain⟨t',q'⟩:=y;injection q' with q1 _;subst q1;simp[qD];done)
   |(obtain⟨t,rfl⟩:=x;obtain⟨t',q'⟩:=y;cases q';done)
   |(obtain⟨t,rfl⟩:=x;cases y;done)
   |(obtain⟨t,rfl⟩:=y;cases x;done)
   |(cases x;cases y;simp[qD];done)
   |(cases x;cases y;done)
def eqTo{A:Around}{s:Shared}{u v:Value}{b c:Bool}(h:EqAt A s u v b)(e:b=c:=by first|rfl|simp[qD,b2i,VJ]):EqAt A s u v c:=e▸h
def iB{A:Around}{s:Shared}{d e:D}{u1 u2:Value}(hk:∀l,d=.qA l->∀m,e=.qA m->EqAt A s u1 u2 (qD d e))(hl:∀l,d=.q6 l->∀m,e=.q6 m->EqAt A s u1 u2 (qD d e))(p:∃k,qK k d=Qd)(q:∃k,qK k e=Qd)(x1:Dv s.heap d u1)(x2:Dv s.heap e u2)(hu:A.units<cLine):EqAt A s u1 u2 (qD d e):=by
 cases d with
 |qE=>
  cases x1;cases e with
  |qE=>cases x2;exact eqTo (EqAt.same .none)
  |bl b2=>cases x2;exact eqTo (EqAt.none_bool b2)
  |int i2=>obtain⟨t2,rfl⟩:=x2;exact eqTo (EqAt.none_int i2 t2)
  |str w2=>obtain⟨t2,rfl⟩:=x2;exact eqTo (EqAt.none_str w2 t2)
  |qA l2=>obtain⟨a2,j4,rfl,y2,z2⟩:=x2;exact eqTo (EqAt.none_tuple y2 hu)
  |q6 l2=>obtain⟨a2,j4,rfl,y2,z2⟩:=x2;exact eqTo (EqAt.none_list y2 hu)
  |_=>obtain⟨k,q⟩:=q;cases k<;>simp[qK]at q
 |bl b1=>
  cases x1;cases e with
  |qE=>cases x2;exact eqTo (EqAt.bool_none b1)
  |bl b2=>cases x2;exact eqTo (EqAt.bool_bool b1 b2)
  |int i2=>obtain⟨t2,rfl⟩:=x2;exact eqTo (EqAt.bool_int b1 i2 t2)
  |str w2=>obtain⟨t2,rfl⟩:=x2;exact eqTo (EqAt.bool_str b1 w2 t2)
  |qA l2=>obtain⟨a2,j4,rfl,y2,z2⟩:=x2;exact eqTo (EqAt.bool_tuple b1 y2 hu)
  |q6 l2=>obtain⟨a2,j4,rfl,y2,z2⟩:=x2;exact eqTo (EqAt.bool_list b1 y2 hu)
  |_=>obtain⟨k,q⟩:=q;cases k<;>simp[qK]at q
 |int i1=>
  obtain⟨t1,rfl⟩:=x1;cases e with
  |qE=>cases x2;exact eqTo (EqAt.int_none i1 t1)
  |bl b2=>cases x2;exact eqTo (EqAt.int_bool i1 t1 b2)
  |int i2=>obtain⟨t2,rfl⟩:=x2;exact eqTo (EqAt.int_int i1 t1 i2 t2)
  |str w2=>obtain⟨t2,rfl⟩:=x2;exact eqTo (EqAt.int_str i1 t1 w2 t2)
  |qA l2=>obtain⟨a2,j4,rfl,y2,z2⟩:=x2;exact eqTo (EqAt.int_tuple i1 t1 y2 hu)
  |q6 l2=>obtain⟨a2,j4,rfl,y2,z2⟩:=x2;exact eqTo (EqAt.int_list i1 t1 y2 hu)
  |_=>obtain⟨k,q⟩:=q;cases k<;>simp[qK]at q
 |str w1=>
  obtain⟨t1,rfl⟩:=x1;cases e with
  |qE=>cases x2;exact eqTo (EqAt.str_none w1 t1)
  |bl b2=>cases x2;exact eqTo (EqAt.str_bool w1 t1 b2)
  |int i2=>obtain⟨t2,rfl⟩:=x2;exact eqTo (EqAt.str_int w1 t1 i2 t2)
  |str w2=>obtain⟨t2,rfl⟩:=x2;exact eqTo (EqAt.str_str w1 t1 w2 t2)
  |qA l2=>obtain⟨a2,j4,rfl,y2,z2⟩:=x2;exact eqTo (EqAt.str_tuple w1 t1 y2 hu)
  |q6 l2=>obtain⟨a2,j4,rfl,y2,z2⟩:=x2;exact eqTo (EqAt.str_list w1 t1 y2 hu)
  |_=>obtain⟨k,q⟩:=q;cases k<;>simp[qK]at q
 |qA l1=>
  obtain⟨a1,Cw,rfl,y1,z1⟩:=x1;cases e with
  |qE=>cases x2;exact eqTo (EqAt.tuple_none y1 hu)
  |bl b2=>cases x2;exact eqTo (EqAt.tuple_bool b2 y1 hu)
  |int i2=>obtain⟨t2,rfl⟩:=x2;exact eqTo (EqAt.tuple_int i2 t2 y1 hu)
  |str w2=>obtain⟨t2,rfl⟩:=x2;exact eqTo (EqAt.tuple_str w2 t2 y1 hu)
  |qA l2=>exact hk _ rfl _ rfl
  |q6 l2=>obtain⟨a2,j4,rfl,y2,z2⟩:=x2;exact eqTo (EqAt.tuple_list y1 y2 hu)
  |_=>obtain⟨k,q⟩:=q;cases k<;>simp[qK]at q
 |q6 l1=>
  obtain⟨a1,Cw,rfl,y1,z1⟩:=x1;cases e with
  |qE=>cases x2;exact eqTo (EqAt.list_none y1 hu)
  |bl b2=>cases x2;exact eqTo (EqAt.list_bool b2 y1 hu)
  |int i2=>obtain⟨t2,rfl⟩:=x2;exact eqTo (EqAt.list_int i2 t2 y1 hu)
  |str w2=>obtain⟨t2,rfl⟩:=x2;exact eqTo (EqAt.list_str w2 t2 y1 hu)
  |qA l2=>obtain⟨a2,j4,rfl,y2,z2⟩:=x2;exact eqTo (EqAt.list_tuple y1 y2 hu)
  |q6 l2=>exact hl _ rfl _ rfl
  |_=>obtain⟨k,q⟩:=q;cases k<;>simp[qK]at q
 |_=>obtain⟨k,p⟩:=p;cases k<;>simp[qK]at p
def rcTo{A:Around}{s:Shared}{u v:Value}{b c:Bool}(h:RcAt A s u v b)(e:b=c:=by first|rfl|simp[qD,b2i,VJ]):RcAt A s u v c:=e▸h
def q7f{A:Around}{s:Shared}{d e:D}{u1 u2:Value}(hk:∀l,d=.qA l->∀m,e=.qA m->RcAt A s u1 u2 (qD d e))(hl:∀l,d=.q6 l->∀m,e=.q6 m->RcAt A s u1 u2 (qD d e))(p:∃k,qK k d=Qd)(q:∃k,qK k e=Qd)(x1:Dv s.heap d u1)(x2:Dv s.heap e u2)(hu:A.units<cLine):RcAt A s u1 u2 (qD d e):=by
 cases d with
 |qE=>
  cases x1;cases e with
  |qE=>cases x2;exact rcTo RcAt.none_none
  |bl b2=>cases x2;exact rcTo (RcAt.none_bool b2)
  |int i2=>obtain⟨t2,rfl⟩:=x2;exact rcTo (RcAt.none_int i2 t2)
  |str w2=>obtain⟨t2,rfl⟩:=x2;exact rcTo (RcAt.none_str w2 t2)
  |qA l2=>obtain⟨a2,j4,rfl,y2,z2⟩:=x2;exact rcTo (RcAt.none_tuple y2 hu)
  |q6 l2=>obtain⟨a2,j4,rfl,y2,z2⟩:=x2;exact rcTo (RcAt.none_list y2 hu)
  |_=>obtain⟨k,q⟩:=q;cases k<;>simp[qK]at q
 |bl b1=>
  cases x1;cases e with
  |qE=>cases x2;exact rcTo (RcAt.bool_none b1)
  |bl b2=>cases x2;exact rcTo (RcAt.bool_bool b1 b2)
  |int i2=>obtain⟨t2,rfl⟩:=x2;exact rcTo (RcAt.bool_int b1 i2 t2)
  |str w2=>obtain⟨t2,rfl⟩:=x2;exact rcTo (RcAt.bool_str b1 w2 t2)
  |qA l2=>obtain⟨a2,j4,rfl,y2,z2⟩:=x2;exact rcTo (RcAt.bool_tuple b1 y2 hu)
  |q6 l2=>obtain⟨a2,j4,rfl,y2,z2⟩:=x2;exact rcTo (RcAt.bool_list b1 y2 hu)
  |_=>obtain⟨k,q⟩:=q;cases k<;>simp[qK]at q
 |int i1=>
  obtain⟨t1,rfl⟩:=x1;cases e with
  |qE=>cases x2;exact rcTo (RcAt.int_none i1 t1)
  |bl b2=>cases x2;exact rcTo (RcAt.int_bool i1 t1 b2)
  |int i2=>obtain⟨t2,rfl⟩:=x2;exact rcTo (RcAt.int_int i1 t1 i2 t2)
  |str w2=>obtain⟨t2,rfl⟩:=x2;exact rcTo (RcAt.int_str i1 t1 w2 t2)
  |qA l2=>obtain⟨a2,j4,rfl,y2,z2⟩:=x2;exact rcTo (RcAt.int_tuple i1 t1 y2 hu)
  |q6 l2=>obtain⟨a2,j4,rfl,y2,z2⟩:=x2;exact rcTo (RcAt.int_list i1 t1 y2 hu)
  |_=>obtain⟨k,q⟩:=q;cases k<;>simp[qK]at q
 |str w1=>
  obtain⟨t1,rfl⟩:=x1;cases e with
  |qE=>cases x2;exact rcTo (RcAt.str_none w1 t1)
  |bl b2=>cases x2;exact rcTo (RcAt.str_bool w1 t1 b2)
  |int i2=>obtain⟨t2,rfl⟩:=x2;exact rcTo (RcAt.str_int w1 t1 i2 t2)
  |str w2=>obtain⟨t2,rfl⟩:=x2;exact rcTo (RcAt.str_str w1 t1 w2 t2)
  |qA l2=>obtain⟨a2,j4,rfl,y2,z2⟩:=x2;exact rcTo (RcAt.str_tuple w1 t1 y2 hu)
  |q6 l2=>obtain⟨a2,j4,rfl,y2,z2⟩:=x2;exact rcTo (RcAt.str_list w1 t1 y2 hu)
  |_=>obtain⟨k,q⟩:=q;cases k<;>simp[qK]at q
 |qA l1=>
  obtain⟨a1,Cw,rfl,y1,z1⟩:=x1;cases e with
  |qE=>cases x2;exact rcTo (RcAt.tuple_none y1 hu)
  |bl b2=>cases x2;exact rcTo (RcAt.tuple_bool b2 y1 hu)
  |int i2=>obtain⟨t2,rfl⟩:=x2;exact rcTo (RcAt.tuple_int i2 t2 y1 hu)
  |str w2=>obtain⟨t2,rfl⟩:=x2;exact rcTo (RcAt.tuple_str w2 t2 y1 hu)
  |qA l2=>exact hk _ rfl _ rfl
  |q6 l2=>obtain⟨a2,j4,rfl,y2,z2⟩:=x2;exact rcTo (RcAt.tuple_list y1 y2 hu)
  |_=>obtain⟨k,q⟩:=q;cases k<;>simp[qK]at q
 |q6 l1=>
  obtain⟨a1,Cw,rfl,y1,z1⟩:=x1;cases e with
  |qE=>cases x2;exact rcTo (RcAt.list_none y1 hu)
  |bl b2=>cases x2;exact rcTo (RcAt.list_bool b2 y1 hu)
  |int i2=>obtain⟨t2,rfl⟩:=x2;exact rcTo (RcAt.list_int i2 t2 y1 hu)
  |str w2=>obtain⟨t2,rfl⟩:=x2;exact rcTo (RcAt.list_str w2 t2 y1 hu)
  |qA l2=>obtain⟨a2,j4,rfl,y2,z2⟩:=x2;exact rcTo (RcAt.list_tuple y1 y2 hu)
  |q6 l2=>exact hl _ rfl _ rfl
  |_=>obtain⟨k,q⟩:=q;cases k<;>simp[qK]at q
 |_=>obtain⟨k,p⟩:=p;cases k<;>simp[qK]at p
def neTo{A:Around}{s:Shared}{u v:Value}{b c:Bool}(h:RcNeAt A s u v b)(e:b=c:=by first|rfl|simp[qD,b2i,VJ]):RcNeAt A s u v c:=e▸h
def q7h{A:Around}{s:Shared}{d e:D}{u1 u2:Value}(hk:∀l,d=.qA l->∀m,e=.qA m->RcNeAt A s u1 u2 (!qD d e))(hl:∀l,d=.q6 l->∀m,e=.q6 m->RcNeAt A s u1 u2 (!qD d e))(p:∃k,qK k d=Qd)(q:∃k,qK k e=Qd)(x1:Dv s.heap d u1)(x2:Dv s.heap e u2)(hu:A.units<cLine):RcNeAt A s u1 u2 (!qD d e):=by
 cases d with
 |qE=>
  cases x1;cases e with
  |qE=>cases x2;exact neTo RcNeAt.none_none
  |bl b2=>cases x2;exact neTo (RcNeAt.none_bool b2)
  |int i2=>obtain⟨t2,rfl⟩:=x2;exact neTo (RcNeAt.none_int i2 t2)
  |str w2=>obtain⟨t2,rfl⟩:=x2;exact neTo (RcNeAt.none_str w2 t2)
  |qA l2=>obtain⟨a2,j4,rfl,y2,z2⟩:=x2;exact neTo (RcNeAt.none_tuple y2 hu)
  |q6 l2=>obtain⟨a2,j4,rfl,y2,z2⟩:=x2;exact neTo (RcNeAt.none_list y2 hu)
  |_=>obtain⟨k,q⟩:=q;cases k<;>simp[qK]at q
 |bl b1=>
  cases x1;cases e with
  |qE=>cases x2;exact neTo (RcNeAt.bool_none b1)
  |bl b2=>cases x2;exact neTo (RcNeAt.bool_bool b1 b2)
  |int i2=>obtain⟨t2,rfl⟩:=x2;exact neTo (RcNeAt.bool_int b1 i2 t2)
  |str w2=>obtain⟨t2,rfl⟩:=x2;exact neTo (RcNeAt.bool_str b1 w2 t2)
  |qA l2=>obtain⟨a2,j4,rfl,y2,z2⟩:=x2;exact neTo (RcNeAt.bool_tuple b1 y2 hu)
  |q6 l2=>obtain⟨a2,j4,rfl,y2,z2⟩:=x2;exact neTo (RcNeAt.bool_list b1 y2 hu)
  |_=>obtain⟨k,q⟩:=q;cases k<;>simp[qK]at q
 |int i1=>
  obtain⟨t1,rfl⟩:=x1;cases e with
  |qE=>cases x2;exact neTo (RcNeAt.int_none i1 t1)
  |bl b2=>cases x2;exact neTo (RcNeAt.int_bool i1 t1 b2)
  |int i2=>obtain⟨t2,rfl⟩:=x2;exact neTo (RcNeAt.int_int i1 t1 i2 t2)
  |str w2=>obtain⟨t2,rfl⟩:=x2;exact neTo (RcNeAt.int_str i1 t1 w2 t2)
  |qA l2=>obtain⟨a2,j4,rfl,y2,z2⟩:=x2;exact neTo (RcNeAt.int_tuple i1 t1 y2 hu)
  |q6 l2=>obtain⟨a2,j4,rfl,y2,z2⟩:=x2;exact neTo (RcNeAt.int_list i1 t1 y2 hu)
  |_=>obtain⟨k,q⟩:=q;cases k<;>simp[qK]at q
 |str w1=>
  obtain⟨t1,rfl⟩:=x1;cases e with
  |qE=>cases x2;exact neTo (RcNeAt.str_none w1 t1)
  |bl b2=>cases x2;exact neTo (RcNeAt.str_bool w1 t1 b2)
  |int i2=>obtain⟨t2,rfl⟩:=x2;exact neTo (RcNeAt.str_int w1 t1 i2 t2)
  |str w2=>obtain⟨t2,rfl⟩:=x2;exact neTo (RcNeAt.str_str w1 t1 w2 t2)
  |qA l2=>obtain⟨a2,j4,rfl,y2,z2⟩:=x2;exact neTo (RcNeAt.str_tuple w1 t1 y2 hu)
  |q6 l2=>obtain⟨a2,j4,rfl,y2,z2⟩:=x2;exact neTo (RcNeAt.str_list w1 t1 y2 hu)
  |_=>obtain⟨k,q⟩:=q;cases k<;>simp[qK]at q
 |qA l1=>
  obtain⟨a1,Cw,rfl,y1,z1⟩:=x1;cases e with
  |qE=>cases x2;exact neTo (RcNeAt.tuple_none y1 hu)
  |bl b2=>cases x2;exact neTo (RcNeAt.tuple_bool b2 y1 hu)
  |int i2=>obtain⟨t2,rfl⟩:=x2;exact neTo (RcNeAt.tuple_int i2 t2 y1 hu)
  |str w2=>obtain⟨t2,rfl⟩:=x2;exact neTo (RcNeAt.tuple_str w2 t2 y1 hu)
  |qA l2=>exact hk _ rfl _ rfl
  |q6 l2=>obtain⟨a2,j4,rfl,y2,z2⟩:=x2;exact neTo (RcNeAt.tuple_list y1 y2 hu)
  |_=>obtain⟨k,q⟩:=q;cases k<;>simp[qK]at q
 |q6 l1=>
  obtain⟨a1,Cw,rfl,y1,z1⟩:=x1;cases e with
  |qE=>cases x2;exact neTo (RcNeAt.list_none y1 hu)
  |bl b2=>cases x2;exact neTo (RcNeAt.list_bool b2 y1 hu)
  |int i2=>obtain⟨t2,rfl⟩:=x2;exact neTo (RcNeAt.list_int i2 t2 y1 hu)
  |str w2=>obtain⟨t2,rfl⟩:=x2;exact neTo (RcNeAt.list_str w2 t2 y1 hu)
  |qA l2=>obtain⟨a2,j4,rfl,y2,z2⟩:=x2;exact neTo (RcNeAt.list_tuple y1 y2 hu)
  |q6 l2=>exact hl _ rfl _ rfl
  |_=>obtain⟨k,q⟩:=q;cases k<;>simp[qK]at q
 |_=>obtain⟨k,p⟩:=p;cases k<;>simp[qK]at p
def PO{A:Around}{s:Shared}{k:Nat}(ih:∀{A:Around}{d e:D}{u v:Value},qK k d=Qd->qK k e=Qd->Dv s.heap d u->Dv s.heap e v->A.units+k<cLine->EqAt A s u v (qD d e))
  {ds es:List D}{us vs:List Value}(p:ds.all (qK k)=Qd) (q:es.all (qK k)=Qd) (x:zA s.heap ds us) (y:zA s.heap es vs) (hu:A.units+k<cLine):
  ∀j(h1:j<us.toArray.size)(h2:j<vs.toArray.size),EqAt A s us.toArray[j] vs.toArray[j] (uW ds es j):=by
 intro j h1 h2;have l1:j<ds.length:=by rw[x.length];simpa using h1
 have l2:j<es.length:=by rw[y.length];simpa using h2
 obtain⟨u,e1,z1⟩:=x.get (Qv l1);obtain⟨v,e2,z2⟩:=y.get (Qv l2);have f1:us.toArray[j]=u:=by have:us[j]?=Qa u:=e1;rw[Qv (by simpa using h1)]at this;simpa using this
 have f2:vs.toArray[j]=v:=by have:vs[j]?=Qa v:=e2;rw[Qv (by simpa using h2)]at this;simpa using this
 rw[f1,f2];have f3:uW ds es j=qD ds[j] es[j]:=by simp[uW,l1,l2]
 rw[f3];exact ih (Qq.mp p _ (Jl l1)) (Qq.mp q _ (Jl l2)) z1 z2 hu
theorem x8:∀(k:Nat){A:Around}{s:Shared}{d e:D}{u v:Value},qK k d=Qd->qK k e=Qd->Dv s.heap d u->Dv s.heap e v->A.units+k<cLine->EqAt A s u v (qD d e)
 |0,A,s,d,e,u,v,p,q,x,y,hu=>iB (λl h=>by subst h;simp[qK]at p) (λl h=>by subst h;simp[qK]at p) ⟨0,p⟩ ⟨0,q⟩ x y ∅
 |k+1,A,s,d,e,u,v,p,q,x,y,hu=>by
  refine iB (λl h m h'=>?_) (λl h m h'=>?_) ⟨_,p⟩ ⟨_,q⟩ x y ∅
  .subst h h';obtain⟨a,us,rfl,x1,x2⟩:=x;refine qL y λb vs zz y1 y2=>?_;subst zz
   by_cases ne:a=b
   .subst ne;have:=LZ (k+1) p q (⟨a,us,rfl,x1,x2⟩) (⟨a,vs,rfl,y1,y2⟩);rw[this];exact EqAt.same _
   .rw[ym]at p q;have h:=RcAt.tuples x1 y1 (show A.units<cLine by lia) (PO (λ{A d e u v}=>x8 k) p q x2 y2 (by rw[Jb];lia));have e1:us.toArray.size=l.length:=(by rw[x2.length];simp);have e2:vs.toArray.size=m.length:=(by rw[y2.length];simp);rw[e1,e2,D5]at h;have e3:qD (.qA l) (.qA m)=z6 l m:=(by simp[qD]);rw[e3];exact EqAt.of_refs ne h
  .subst h h';obtain⟨a,us,rfl,x1,x2⟩:=x;refine qL y λb vs zz y1 y2=>?_;subst zz
   by_cases ne:a=b
   .subst ne;have:=LZ (k+1) p q (⟨a,us,rfl,x1,x2⟩) (⟨a,vs,rfl,y1,y2⟩);rw[this];exact EqAt.same _
   .rw[Xp]at p q;have e1:us.toArray.size=l.length:=(by rw[x2.length];simp);have e2:vs.toArray.size=m.length:=(by rw[y2.length];simp);have e3:qD (.q6 l) (.q6 m)=z6 l m:=(by simp[qD]);rw[e3]
    by_cases hl:l.length=m.length
    .have h:=RcAt.lists x1 y1 (by rw[e1,e2,hl]) (show A.units<cLine by lia) (PO (λ{A d e u v}=>x8 k) p q x2 y2 (by rw[Jb];lia));rw[e1,LW hl]at h;exact EqAt.of_refs ne h
    .have h:=RcAt.lists_lengths x1 y1 (by rw[e1,e2];simpa using hl) (show A.units<cLine by lia);rw[Ej hl];exact EqAt.of_refs ne h
def q7e(k:Nat){A:Around}{s:Shared}{d e:D}{u v:Value}(p:qK k d=Qd)(q:qK k e=Qd)(x:Dv s.heap d u)(y:Dv s.heap e v)(hu:A.units+k<cLine):RcAt A s u v (qD d e):=by
 refine q7f (λl h m h'=>?_) (λl h m h'=>?_) ⟨_,p⟩ ⟨_,q⟩ x y ∅
 .subst h h';cases k with
  |zero=>simp[qK]at p
  |succ k=>
   obtain⟨a,us,rfl,x1,x2⟩:=x;refine qL y λb vs zz y1 y2=>?_;subst zz;rw[ym]at p q;have h:=RcAt.tuples x1 y1 (show A.units<cLine by lia) (PO (λ{A d e u v}=>x8 k) p q x2 y2 (by rw[Jb];lia));have e1:us.toArray.size=l.length:=(by rw[x2.length];simp);have e2:vs.toArray.size=m.length:=(by rw[y2.length];simp);rw[e1,e2,D5]at h;have e3:qD (.qA l) (.qA m)=z6 l m:=(by simp[qD]);rw[e3];exact h
 .subst h h';cases k with
  |zero=>simp[qK]at p
  |succ k=>
   obtain⟨a,us,rfl,x1,x2⟩:=x;refine qL y λb vs zz y1 y2=>?_;subst zz;rw[Xp]at p q;have e1:us.toArray.size=l.length:=(by rw[x2.length];simp);have e2:vs.toArray.size=m.length:=(by rw[y2.length];simp);have e3:qD (.q6 l) (.q6 m)=z6 l m:=(by simp[qD]);rw[e3]
   by_cases hl:l.length=m.length
   .have h:=RcAt.lists x1 y1 (by rw[e1,e2,hl]) (show A.units<cLine by lia) (PO (λ{A d e u v}=>x8 k) p q x2 y2 (by rw[Jb];lia));rw[e1,LW hl]at h;exact h
   .rw[Ej hl];exact RcAt.lists_lengths x1 y1 (by rw[e1,e2];simpa using hl) ∅
def q7g(k:Nat){A:Around}{s:Shared}{d e:D}{u v:Value}(p:qK k d=Qd)(q:qK k e=Qd)(x:Dv s.heap d u)(y:Dv s.heap e v)(hu:A.units+k<cLine):RcNeAt A s u v (!qD d e):=by
 refine q7h (λl h m h'=>?_) (λl h m h'=>?_) ⟨_,p⟩ ⟨_,q⟩ x y ∅
 .subst h h';cases k with
  |zero=>simp[qK]at p
  |succ k=>
   refine qL x λa us zz x1 x2=>?_;subst zz;refine qL y λb vs zz y1 y2=>?_;subst zz;rw[ym]at p q;have h:=RcNeAt.tuples x1 y1 (show A.units<cLine by lia) (PO (λ{A d e u v}=>x8 k) p q x2 y2 (by rw[Jb];lia));have e1:us.toArray.size=l.length:=(by rw[x2.length];simp);have e2:vs.toArray.size=m.length:=(by rw[y2.length];simp);rw[e1,e2,D5]at h;have e3:qD (.qA l) (.qA m)=z6 l m:=(by simp[qD]);rw[e3];exact h
 .subst h h';cases k with
  |zero=>simp[qK]at p
  |succ k=>
   refine qL x λa us zz x1 x2=>?_;subst zz;refine qL y λb vs zz y1 y2=>?_;subst zz;rw[Xp]at p q;have e1:us.toArray.size=l.length:=(by rw[x2.length];simp);have e2:vs.toArray.size=m.length:=(by rw[y2.length];simp);have e3:qD (.q6 l) (.q6 m)=z6 l m:=(by simp[qD]);rw[e3]
   by_cases hl:l.length=m.length
   .have h:=RcNeAt.lists x1 y1 (by rw[e1,e2,hl]) (show A.units<cLine by lia) (PO (λ{A d e u v}=>x8 k) p q x2 y2 (by rw[Jb];lia));rw[e1,LW hl]at h;exact h
   .rw[Ej hl];exact RcNeAt.lists_lengths x1 y1 (by rw[e1,e2];simpa using hl) ∅
end Ev
namespace Ev
open PySem
mutual
def norm:D->D
 |.bl b=>.int (b2i b)
 |.qA l=>.qA (ux l)
 |.q6 l=>.q6 (ux l)
 |d=>d
def ux:List D->List D
 |[]=>[]
 |a::l=>norm a::ux l
end
theorem LV{k:Nat}(ih:∀{d e:D},qK k d=Qd->qK k e=Qd->(qD d e=Qd↔norm d=norm e)):∀{l m:List D},l.all (qK k)=Qd->m.all (qK k)=Qd->(z6 l m=Qd↔ux l=ux m)
 |[],[],_,_=>by simp[z6,ux]
 |[],_::_,_,_=>by simp[z6,ux]
 |_::_,[],_,_=>by simp[z6,ux]
 |d::l,e::m,p,q=>by simp only[Vm,Qp]at p q;simp only[z6,ux,Qp,Vl];rw[ih p.1 q.1,LV ih p.2 q.2]
theorem D6:∀(k:Nat){d e:D},qK k d=Qd->qK k e=Qd->(qD d e=Qd↔norm d=norm e)
 |0,d,e,p,q=>by
  cases d<;>cases e<;>first
   |(simp[qK]at p;done)
   |(simp[qK]at q;done)
   |(simp[qD,norm,b2i];done)
   |(rename_i a b;cases a<;>cases b<;>simp[qD,norm,b2i];done)
   |(rename_i a b;cases a<;>simp[qD,norm,b2i]<;>lia)
   |(rename_i a b;cases b<;>simp[qD,norm,b2i]<;>lia)
 |k+1,d,e,p,q=>by
  cases d<;>cases e<;>first
   |(simp[qK]at p;done)
   |(simp[qK]at q;done)
   |(simp[qD,norm,b2i];done)
   |(rw[ym]at p q;simpa[qD,norm]using LV (λ{d e}=>D6 k) p q;done)
   |(rw[Xp]at p q;simpa[qD,norm]using LV (λ{d e}=>D6 k) p q;done)
   |(rename_i a b;cases a<;>cases b<;>simp[qD,norm,b2i];done)
   |(rename_i a b;cases a<;>simp[qD,norm,b2i]<;>lia)
   |(rename_i a b;cases b<;>simp[qD,norm,b2i]<;>lia)
def q2t{k:Nat}{d d' e:D}(p:qK k d=Qd)(p':qK k d'=Qd)(q:qK k e=Qd)(h:qD d d'=Qd):qD d e=qD d' e:=by rw[QR,D6 k p q,D6 k p' q,((D6 k p p').mp h)]
end Ev
namespace Ev
open PySem PySem.SeqAt
open PySem.AutoSeq1 (wpAny_loadPart')
open PySem.MeetsSeq PySem.MeetsSeq2 PySem.MeetsSeq3
def IU(A:Around)(s:Shared)(u v:Value)(b:Bool):Prop:=
 ∀(prog:Program)(w:World)(E:NZ)(Q:NZ),Q (.bool b) s->wpAny (model prog w) A (richCompare .Lt u v) Q E s
def IQ(A:Around)(s:Shared)(u v:Value)(b:Bool):Prop:=
 ∀(prog:Program)(w:World)(E:NZ)(Q:NZ),Q (.bool b) s->wpAny (model prog w) A (richCompare .GtE u v) Q E s
def q0w(l b:Addr)(items kl:List Value)(n n2:Nat)(dd wi:Option Addr)(sl w4:Array (Option Value))(ds es:List D)(c:jl ds es=Qd):
  Meets (Ua.«tuple.__lt__» ⟨[.ref l,.ref b],[]⟩)
   (λA R s=>s.heap.get? l=Qa {cls:=.type "tuple",dict:=dd,data:=.seq items.toArray n,slots:=sl}/\s.heap.get? b=Qa {cls:=.type "tuple",dict:=wi,data:=.seq kl.toArray n2,slots:=w4}/\
    zA s.heap ds items/\zA s.heap es kl/\(∀d∈ds,∀e∈es,∀u v,Dv s.heap d u->Dv s.heap e v->EqAt A.in1 s u v (qD d e)/\(zC d e=Qd->IU A.in1 s u v (qU d e)))/\
    R (.ok (.ret (.bool (qt ds es)))) s):=
 .of_wp λprog w A R s h=>by
  obtain⟨hp,g,d,tk,os⟩:=s;obtain⟨hl,hb,hx,hy,P6,h⟩:=h;have f2:=U4;have z1:items.toArray.size=ds.length:=by rw[hx.length];simp
  have z2:kl.toArray.size=es.length:=by rw[hy.length];simp
  wp_walk using Ux hl,Ux hb,UZ _ (λrest b s'=>b.1=Qg/\s'=⟨hp,g,d,tk,os⟩/\∃(vs ws:List Value)(zE zX:List D),rest=vs.zip ws/\
   zA hp zE vs/\zA hp zX ws/\(∀x∈zE,x∈ds)/\(∀x∈zX,x∈es)/\jl zE zX=Qd/\zE.length+kl.toArray.size=zX.length+items.toArray.size/\R (.ok (.ret (.bool (qt zE zX)))) ⟨hp,g,d,tk,os⟩) _
  case turn=>
   rintro⟨y,x⟩ rest b s' ⟨kg,rfl,vs,ws,zE,zX,hz,hv,hw,sd,se,hc,qT,hR⟩;cases zE with
   |nil=>cases hv;rw[WC]at hz;cases hz
   |cons d1 uU=>
    refine qL hv λu1 r1 e1 v1 v2=>?_;subst e1;cases zX with
    |nil=>cases hw;rw[We]at hz;cases hz
    |cons d2 TQ=>
     refine qL hw λu2 r2 e2 w1 w2=>?_;subst e2;rw[Ut]at hz;injection hz with Ov DX
     injection Ov with Xa Oq
     subst Xa Oq;rw[qt]at hR;rw[jl]at hc;simp only[QG]at qT;have hh:=P6 d1 (sd d1 Qe) d2 (se d2 Qe) _ _ v1 w1;refine Qb (hh.1 prog w _ _ ?_);cases e:qD d1 d2 with
     |true=>
      rw[e,if_pos rfl]at hR hc
      wp_walk
      exact⟨rfl,rfl,_,_,_,_,DX,v2,w2,λx hx=>sd x (Qc _ hx),λx hx=>se x (Qc _ hx),hc,∅,hR⟩
     |false=>
      rw[e,if_neg (by simp)]at hR hc;have y0:=hh.2 hc prog w
      wp_walk using y0
      exact⟨_,rfl,by simpa using hR⟩
  case fin=>
   rintro⟨b1,b2⟩ s' ⟨kg,rfl,vs,ws,zE,zX,hz,hv,hw,sd,se,hc,qT,hR⟩;simp only at kg;subst kg;have hq:qt zE zX=decide (items.toArray.size<kl.toArray.size):=by
    cases zE with
    |nil=>cases zX with
     |nil=>
      simp only[Jz]at qT;rw[show qt [] []=Qh by simp[qt]];exact(decide_eq_false ∅).symm
     |cons _ _=>
      simp only[Jz,QG]at qT;rw[qt];exact(decide_eq_true ∅).symm
    |cons _ _=>cases zX with
     |nil=>
      simp only[Jz,QG]at qT;rw[qt];exact(decide_eq_false ∅).symm
     |cons _ _=>
      refine kX hv λ_ _ e1 _=>?_;refine kX hw λ_ _ e2 _=>?_;subst e1 e2;rw[Ut]at hz;cases hz
   rw[hq]at hR
   wp_walk
   exact⟨_,rfl,by simpa[VL]using hR⟩
  case h=>
   exact⟨rfl,rfl,items,kl,ds,es,by simp,hx,hy,λ_ h=>h,λ_ h=>h,c,∅,h⟩
def qAK(l b:Addr)(items kl:List Value)(n n2:Nat)(dd wi:Option Addr)(sl w4:Array (Option Value))(ds es:List D)(c:jl ds es=Qd):
  Meets (Ua.«tuple.__ge__» ⟨[.ref l,.ref b],[]⟩)
   (λA R s=>s.heap.get? l=Qa {cls:=.type "tuple",dict:=dd,data:=.seq items.toArray n,slots:=sl}/\s.heap.get? b=Qa {cls:=.type "tuple",dict:=wi,data:=.seq kl.toArray n2,slots:=w4}/\
    zA s.heap ds items/\zA s.heap es kl/\(∀d∈ds,∀e∈es,∀u v,Dv s.heap d u->Dv s.heap e v->EqAt A.in1 s u v (qD d e)/\(zC d e=Qd->IQ A.in1 s u v (!qU d e)))/\
    R (.ok (.ret (.bool (!qt ds es)))) s):=
 .of_wp λprog w A R s h=>by
  obtain⟨hp,g,d,tk,os⟩:=s;obtain⟨hl,hb,hx,hy,P6,h⟩:=h;have f2:=U4;have z1:items.toArray.size=ds.length:=by rw[hx.length];simp
  have z2:kl.toArray.size=es.length:=by rw[hy.length];simp
  wp_walk using Ux hl,Ux hb,UZ _ (λrest b s'=>b.1=Qg/\s'=⟨hp,g,d,tk,os⟩/\∃(vs ws:List Value)(zE zX:List D),rest=vs.zip ws/\
   zA hp zE vs/\zA hp zX ws/\(∀x∈zE,x∈ds)/\(∀x∈zX,x∈es)/\jl zE zX=Qd/\zE.length+kl.toArray.size=zX.length+items.toArray.size/\R (.ok (.ret (.bool (!qt zE zX)))) ⟨hp,g,d,tk,os⟩) _
  case turn=>
   rintro⟨y,x⟩ rest b s' ⟨kg,rfl,vs,ws,zE,zX,hz,hv,hw,sd,se,hc,qT,hR⟩;cases zE with
   |nil=>cases hv;rw[WC]at hz;cases hz
   |cons d1 uU=>
    refine qL hv λu1 r1 e1 v1 v2=>?_;subst e1;cases zX with
    |nil=>cases hw;rw[We]at hz;cases hz
    |cons d2 TQ=>
     refine qL hw λu2 r2 e2 w1 w2=>?_;subst e2;rw[Ut]at hz;injection hz with Ov DX
     injection Ov with Xa Oq
     subst Xa Oq;rw[qt]at hR;rw[jl]at hc;simp only[QG]at qT;have hh:=P6 d1 (sd d1 Qe) d2 (se d2 Qe) _ _ v1 w1;refine Qb (hh.1 prog w _ _ ?_);cases e:qD d1 d2 with
     |true=>
      rw[e,if_pos rfl]at hR hc
      wp_walk
      exact⟨rfl,rfl,_,_,_,_,DX,v2,w2,λx hx=>sd x (Qc _ hx),λx hx=>se x (Qc _ hx),hc,∅,hR⟩
     |false=>
      rw[e,if_neg (by simp)]at hR hc;have y0:=hh.2 hc prog w
      wp_walk using y0
      exact⟨_,rfl,by simpa using hR⟩
  case fin=>
   rintro⟨b1,b2⟩ s' ⟨kg,rfl,vs,ws,zE,zX,hz,hv,hw,sd,se,hc,qT,hR⟩;simp only at kg;subst kg;have hq:(!qt zE zX)=decide (items.toArray.size≥kl.toArray.size):=by
    cases zE with
    |nil=>cases zX with
     |nil=>
      simp only[Jz]at qT;rw[show qt [] []=Qh by simp[qt]];exact(decide_eq_true ∅).symm
     |cons _ _=>
      simp only[Jz,QG]at qT;rw[qt];exact(decide_eq_false ∅).symm
    |cons _ _=>cases zX with
     |nil=>
      simp only[Jz,QG]at qT;rw[qt];exact(decide_eq_true ∅).symm
     |cons _ _=>
      refine kX hv λ_ _ e1 _=>?_;refine kX hw λ_ _ e2 _=>?_;subst e1 e2;rw[Ut]at hz;cases hz
   rw[hq]at hR
   wp_walk
   exact⟨_,rfl,by simpa[VL]using hR⟩
  case h=>
   exact⟨rfl,rfl,items,kl,ds,es,by simp,hx,hy,λ_ h=>h,λ_ h=>h,c,∅,h⟩
def Pn:∀(k:Nat){A:Around}{s:Shared}{d e:D}{u v:Value},qK k d=Qd->qK k e=Qd->qH d=Qd->qH e=Qd->zC d e=Qd->Dv s.heap d u->Dv s.heap e v->A.units+k<cLine->IU A s u v (qU d e)/\IQ A s u v (!qU d e):=by
 intro k
 induction k with
 |zero=>
  intro A s d e u v p q h1 h2 c x y hu;cases d<;>cases e<;>first
   |(simp[zC]at c;done)
   |(simp[qK]at p;done)
   |skip
  obtain⟨t,rfl⟩:=x;obtain⟨t',rfl⟩:=y;refine⟨λprog w E Q h=>?_,λprog w E Q h=>?_⟩
  .exact (Zf (by simpa[qU]using h):wpAny (model prog w) A (JG .Lt _ _) Q E s)
  .refine (Zg ?_:wpAny (model prog w) A (JG .GtE _ _) Q E s);have e:∀a b:Int,(!decide (a<b))=decide (b<=a):=λa b=>by rw[QR];simp
   simp only[qU]at h;rw[e]at h;exact h
 |succ k ih=>
  intro A s d e u v p q h1 h2 c x y hu;cases d<;>cases e<;>first
   |(simp[zC]at c;done)
   |(simp[qH]at h1;done)
   |skip
  .obtain⟨t,rfl⟩:=x;obtain⟨t',rfl⟩:=y;refine⟨λprog w E Q h=>?_,λprog w E Q h=>?_⟩
   .exact (Zf (by simpa[qU]using h):wpAny (model prog w) A (JG .Lt _ _) Q E s)
   .refine (Zg ?_:wpAny (model prog w) A (JG .GtE _ _) Q E s);have e:∀a b:Int,(!decide (a<b))=decide (b<=a):=λa b=>by rw[QR];simp
    simp only[qU]at h;rw[e]at h;exact h
  .rename_i ds es;refine qL x λa us zz x1 x2=>?_;subst zz;refine qL y λb vs zz y1 y2=>?_;subst zz;rw[ym]at p q;have c':jl ds es=Qd:=(by simpa[zC]using c);have wu:qx ds=Qd:=(by simpa[qH]using h1);have wx:qx es=Qd:=(by simpa[qH]using h2);obtain⟨⟨cls,dd,data,sl⟩,ho,hc,n,hd⟩:=id x1;obtain⟨⟨L7,wi,data2,w4⟩,vQ,jH,n2,hd2⟩:=id y1;simp only at hc hd jH hd2;subst hc hd jH hd2;have el:∀d∈ds,∀e∈es,∀u v,Dv s.heap d u->Dv s.heap e v->EqAt A.in1 s u v (qD d e)/\(zC d e=Qd->IU A.in1 s u v (qU d e)/\IQ A.in1 s u v (!qU d e)):=by intro d hd e he u v x y;have p1:=Qq.mp p d hd;have q1:=Qq.mp q e he;have vS:A.in1.units+k<cLine:=(by rw[Jb];lia);exact⟨x8 k p1 q1 x y vS,λc=>ih p1 q1 (j0.mp wu d hd) (j0.mp wx e he) c x y vS⟩
   have e1:qU (.qA ds) (.qA es)=qt ds es:=(by simp[qU]);rw[e1];refine⟨λprog w E Q h=>?_,λprog w E Q h=>?_⟩
   .exact richCompare_meets_room ⟨_,ho,rfl⟩ ⟨_,vQ,rfl⟩ Vs ZL (Zv _ _) (q0w a b us vs n n2 dd wi sl w4 ds es c')
     ⟨ho,vQ,x2,y2,λd hd e he u v x y=>⟨(el d hd e he u v x y).1,λc=>((el d hd e he u v x y).2 c).1⟩,show W9 (qt ds es)≠FO/\Q (.bool (qt ds es)) s from⟨(λx=>nomatch x),h⟩⟩ ∅
   .exact richCompare_meets_room ⟨_,ho,rfl⟩ ⟨_,vQ,rfl⟩ PySem.F.slot_tuple_ge PySem.F.entry_tuple_ge (PySem.F.args_tuple_ge_2 _ _) (qAK a b us vs n n2 dd wi sl w4 ds es c')
     ⟨ho,vQ,x2,y2,λd hd e he u v x y=>⟨(el d hd e he u v x y).1,λc=>((el d hd e he u v x y).2 c).2⟩,show W9 (!qt ds es)≠FO/\Q (.bool (!qt ds es)) s from⟨(λx=>nomatch x),h⟩⟩ ∅
end Ev
namespace Ev
open PySem
mutual
def hv:D->Int
 |.int i=>hashInt i
 |.qA ds=>F0 (Jp (vT ds))
 |_=>0
def vT:List D->List Int
 |[]=>[]
 |d::ds=>hv d::vT ds
end
theorem Oj:∀a b:List D,vT (a++b)=vT a++vT b
 |[],_=>by simp[vT]
 |d::a,b=>by simp[vT,Oj a b]
section
variable{prog:Program}{w:World}
def q7S:∀(k:Nat){A:Around}{E:NZ}{s:Shared}{d:D}{u:Value}{Q:Int->Shared->Prop},qK k d=Qd->qH d=Qd->Dv s.heap d u->A.units+k<cLine->
  (∀t,Q (hv d) {s with toks:=t})->wpAny (model prog w) A (pyHash u) Q E s:=by
 intro k
 induction k with
 |zero=>
  intro A E s d u Q p hh x hu h;cases d<;>first
   |(simp[qH]at hh;done)
   |(simp[qK]at p;done)
   |skip
  obtain⟨t,rfl⟩:=x;exact ZF (by have:=h (s.toks+1);simpa[hv]using this)
 |succ k ih=>
  intro A E s d u Q p hh x hu h;cases d<;>first
   |(simp[qH]at hh;done)
   |skip
  .obtain⟨t,rfl⟩:=x;exact ZF (by have:=h (s.toks+1);simpa[hv]using this)
  .rename_i ds;refine qL x λa us zz x1 x2=>?_;subst zz;rw[ym]at p;have hT:s.TypeIs (.ref a) "tuple":=let⟨o,ho,hc,_⟩:=x1;⟨o,ho,hc⟩;obtain⟨o,ho,hc,n,hd⟩:=x1;unfold pyHash pyHashByItsType;refine Qb (wpAny_cRoomFor_or (.inr ∅) ?_);refine Qb (Yv hT F.slot_tuple_hash.lookup (Uy (λz=>absurd z (by rw[beq_builtin_none];decide)) λ_=>Qb (Yv hT F.slot_tuple_hash.lookup (Qb (wpAny_callSpecialIfBoundUnlessNone?_slot hT F.slot_tuple_hash
    (J3 F.slot_tuple_hash hT F.entry_tuple_hash (show wpAny _ _ (UI _>>=_) _ _ s from Qb (wpAny_tupleItemsOf ho hd (Qb ?_))) (F.args_tuple_hash_1 _)))))))
   rw[<-Wb];refine UZ _
    (λrest(b:Array Int) s'=>∃done left t,ds=done++left/\zA s.heap left rest/\b.toList=vT done/\s'={s with toks:=t})
    _ ?_ ?_ _ _ ⟨[],ds,s.toks,rfl,by simpa using x2,by simp[vT],rfl⟩
   .rintro y rest b s' ⟨done,left,t,e,hl,hb,rfl⟩;cases left with
    |nil=>cases hl
    |cons d1 left=>
     refine qL hl λu1 r1 e1 v1 v2=>?_;injection e1 with e2 e3
     subst e2 e3;have hm:d1∈ds:=(by rw[e];simp);refine Qb (ih (Qq.mp p _ hm) (j0.mp (by simpa[qH]using hh) _ hm) v1 (by rw[Jb];lia) λt'=>?_)
     first
      |exact Qf ⟨done++[d1],left,t',by simp[e],v2,by simp[hb,Oj,vT],rfl⟩
      |exact Qb (Qf (Qf ⟨done++[d1],left,t',by simp[e],v2,by simp[hb,Oj,vT],rfl⟩))
   .rintro b s' ⟨done,left,t,e,hl,hb,rfl⟩;cases left with
    |cons _ _=>obtain⟨_,_,q,_⟩:=hl;cases q
    |nil=>
     rw[Q3]at e;subst e;show wpAny _ _ (retInt (Jp b.toList)) _ _ _;rw[hb];refine wpAny_ret_mkInt ?_;show wpAny _ _ (if(decide (-(2:Int)^63<=Jp (vT ds))&&decide (Jp (vT ds)<2^63))=Qd then _ else _) Q E _;have hq:∀t,Q (F0 (Jp (vT ds))) {s with toks:=t}:=λt=>by have:=h t;simpa[hv]using this
     unfold F0 at hq
     by_cases hr:(decide (-(2:Int)^63<=Jp (vT ds))&&decide (Jp (vT ds)<2^63))=Qd
     .rw[if_pos hr]at hq|-;exact Qf (hq _)
     .rw[if_neg hr]at hq|-;exact Qb (W2 (Qf (hq _)))
def LM{M:Model}{A:Around}{E:NZ}{s:Shared}{β:Type}{us:List Value}{b0:β}{body:Value->β->Sem (ForInStep β)}{Q:β->Shared->Prop}{ds:List D}(x:zA s.heap ds us)
  (hb:∀v d,d∈ds->Dv s.heap d v->∀Q':ForInStep β->Shared->Prop,Q' (.yield b0) s->wpAny M A (body v b0) Q' E s) (h:Q b0 s):wpAny M A (forIn us.toArray b0 body) Q E s:=by
 rw[<-Wb];refine UZ _ (λrest r t=>(r=b0/\t=s)/\∀v∈rest,v∈us) _ (λv rest r t i=>?_) (λr t i=>?_) _ _ ⟨⟨rfl,rfl⟩,λv hv=>by simpa using hv⟩
 .obtain⟨⟨rfl,rfl⟩,m⟩:=i;refine qR (x.mem (m v Qe)) λd hd z=>?_;exact hb v d hd z _ ⟨⟨rfl,rfl⟩,λy hy=>m y (Qc _ hy)⟩
 .obtain⟨⟨rfl,rfl⟩,_⟩:=i;exact h
def tF:∀(k n:Nat){A:Around}{E:NZ}{s:Shared}{d:D}{u:Value}{Q:Bool->Shared->Prop},k<=n->qK k d=Qd->qH d=Qd->Dv s.heap d u->Q Qd s->wpAny (model prog w) A (eqIsQuiet n u) Q E s:=by
 intro k
 induction k with
 |zero=>
  intro n A E s d u Q hk p hh x h;cases d<;>first
   |(simp[qH]at hh;done)
   |(simp[qK]at p;done)
   |skip
  obtain⟨t,rfl⟩:=x;rw[eqIsQuiet_byValue _ (by rfl)];exact Qf h
 |succ k ih=>
  intro n A E s d u Q hk p hh x h;cases d<;>first
   |(simp[qH]at hh;done)
   |skip
  .obtain⟨t,rfl⟩:=x;rw[eqIsQuiet_byValue _ (by rfl)];exact Qf h
  .rename_i ds;refine qL x λa us zz x1 x2=>?_;subst zz;rw[ym]at p;have hT:s.TypeIs (.ref a) "tuple":=let⟨o,ho,hc,_⟩:=x1;⟨o,ho,hc⟩;obtain⟨o,ho,hc,m,hd⟩:=x1;cases n with
   |zero=>lia
   |succ n=>
    unfold eqIsQuiet;refine Qb (Yv hT F.slot_tuple_eq.lookup (Qb (Ur hT isSubtype_tuple_tuple (Qb (Uj ho hd ?_)))));refine Qb (LM x2 (λv d1 XJ z Q' q=>Qb (ih n ∅ (Qq.mp p _ XJ) (j0.mp (by simpa[qH]using hh) _ XJ) z (Qf q))) ?_);exact Qf h
def rm:∀(k n:Nat){A:Around}{E:NZ}{s:Shared}{d:D}{u:Value}{Q:Bool->Shared->Prop},k<=n->qK k d=Qd->qH d=Qd->Dv s.heap d u->Q Qh s->wpAny (model prog w) A (Vv n u) Q E s:=by
 intro k
 induction k with
 |zero=>
  intro n A E s d u Q hk p hh x h;cases d<;>first
   |(simp[qH]at hh;done)
   |(simp[qK]at p;done)
   |skip
  obtain⟨t,rfl⟩:=x;unfold Vv;exact Qf h
 |succ k ih=>
  intro n A E s d u Q hk p hh x h;cases d<;>first
   |(simp[qH]at hh;done)
   |skip
  .obtain⟨t,rfl⟩:=x;unfold Vv;exact Qf h
  .rename_i ds;refine qL x λa us zz x1 x2=>?_;subst zz;rw[ym]at p;have hT:s.TypeIs (.ref a) "tuple":=let⟨o,ho,hc,_⟩:=x1;⟨o,ho,hc⟩;obtain⟨o,ho,hc,m,hd⟩:=x1;cases n with
   |zero=>lia
   |succ n=>
    unfold Vv;refine Qb (UN hT (Qb (Qf (Qb (Uj ho hd ?_)))));refine Qb (LM x2 (λv d1 XJ z Q' q=>Qb (ih n ∅ (Qq.mp p _ XJ) (j0.mp (by simpa[qH]using hh) _ XJ) z (Qf q))) ?_);exact Qf h
def q27:∀(k n:Nat){A:Around}{E:NZ}{s:Shared}{d:D}{u:Value}{Q:Bool->Shared->Prop},k<=n->qK k d=Qd->qH d=Qd->Dv s.heap d u->Q Qd s->wpAny (model prog w) A (hashByValue n u) Q E s:=by
 intro k
 induction k with
 |zero=>
  intro n A E s d u Q hk p hh x h;cases d<;>first
   |(simp[qH]at hh;done)
   |(simp[qK]at p;done)
   |skip
  obtain⟨t,rfl⟩:=x;cases n<;>exact Qf h
 |succ k ih=>
  intro n A E s d u Q hk p hh x h;cases d<;>first
   |(simp[qH]at hh;done)
   |skip
  .obtain⟨t,rfl⟩:=x;cases n<;>exact Qf h
  .rename_i ds;refine qL x λa us zz x1 x2=>?_;subst zz;rw[ym]at p;have hT:s.TypeIs (.ref a) "tuple":=let⟨o,ho,hc,_⟩:=x1;⟨o,ho,hc⟩;obtain⟨o,ho,hc,m,hd⟩:=x1;cases n with
   |zero=>lia
   |succ n=>
    unfold hashByValue;refine Qb (Yv hT F.slot_tuple_hash.lookup (Qb (Uj ho hd ?_)));refine Qb (LM x2 (λv d1 XJ z Q' q=>Qb (ih n ∅ (Qq.mp p _ XJ) (j0.mp (by simpa[qH]using hh) _ XJ) z (Qf q))) ?_);exact Qf h
end
end Ev
namespace Snd
open PySem PySem.Spec PyProof.Rows L2 Ev
variable{H H1 H2 H' Hf k9 H0:Hp}{a e tg iter elt:QC}{K:QL}{vs:List V}{d r:D}{v:V}{ds xs:List D}{O as O0 fp:List Addr}{o:HO}{op:FN}{X:Cx}{c:Prop}{x y:Str}{i j k1:Nat}{pins:List (Addr×Obj)}{Y:L2.St}{s s' s2:Shared}{u:Value}{h:Heap}{us:List Value}{A:Around}{Z:Ev.Env}{os:List (List Addr)}{G:Nat->List D->R D}{sub:Nat->Nat->Bool}{l la lb:L}{α β:Type}{E:NZ}{pos jK q px py:Pos}{lc:T}{es ifs:List QC}{ls:List L}{body:List Stmt}{J:It}{kvs:List (Key×V)}{P:Program}{w:World}{it:Addr}{li:I}{scope sc:Scope}{env:YK}{ts:List Str}
def u7(a C:Addr):Heap->Prop:=λh=>∃o,h.get? a=Qa o/\o.cls=.ref C
def zi:Key->D
 |.inl i=>.int i
 |.inr x=>.str x
structure Pm where
 K:QL
 cls:List Addr
mutual
def Rep(p:Pm)(H:Hp):D->V->Prop
 |.qE,v=>v=.qE
 |.bl b,v=>v=.bl b
 |.int i,v=>v=.int i
 |.str x,v=>v=.str x/\x.length<=big
 |.qA ds,v=>∃a vs,v=.ref a/\zZ p.K H a vs/\vs.length<=QI/\qM p H ds vs
 |.q6 ds,v=>∃a vs,v=.ref a/\qv p.K H a vs/\qM p H ds vs
 |.qJ ks ds,v=>∃a kvs o,v=.ref a/\H a=Qa (.frz o (.dK kvs))/\ks=kvs.map (λq=>zi q.1)/\qM p H ds (kvs.map (·.2))
 |.exc c,v=>∃a C,v=.ref a/\p.cls[c]?=Qa C/\H a=Qa (.ext (u7 a C))
def qM(p:Pm)(H:Hp):List D->List V->Prop
 |[],vs=>vs=[]
 |d::ds,vs=>∃v r,vs=v::r/\Rep p H d v/\qM p H ds r
end
def Ext(H H':Hp):Prop:=∀a o,H a=Qa o->H' a=Qa o
def Ext.refl(H:Hp):Ext H H:=λ_ _ e=>e
def Ext.trans(a:Ext H H1)(b:Ext H1 H2):Ext H H2:=λx o e=>b x o (a x o e)
theorem Ext.upd{H:Hp}{a:Addr}{o:HO}(n:H a=Qg):Ext H (upd H a o):=λb u e=>by rw[qY (jJ e n)];exact e
def Ext.rd{a:Addr}{u:HO}(x:Ext H H')(r:Rd H a u):Rd H' a u:=r.elim (λe=>.inl (x _ _ e)) λ⟨o,e⟩=>.inr ⟨o,x _ _ e⟩
def Ext.wX(x:Ext H H'){a:Addr}(r:qv K H a vs):qv K H' a vs:=r.elim (λe=>.inl (x.rd e)) .inr
def Ext.jT(x:Ext H H'){a:Addr}(r:zZ K H a vs):zZ K H' a vs:=r.elim (λe=>.inl (x.rd e)) .inr
def tS(x:Ext H H'):(∀d v,Rep p H d v->Rep p H' d v)/\(∀ds vs,qM p H ds vs->qM p H' ds vs):=by
 refine D.ind
  (λv h=>h) (λ_ v h=>h) (λ_ v h=>h) (λ_ v h=>h) (λl ih v h=>?_) (λl ih v h=>?_) (λk l ihk ih v h=>?_) (λc v h=>?_) (λvs h=>h) (λd ds uj uk vs h=>?_)
 .obtain⟨a,vs,e,s,z,r⟩:=h;exact⟨a,vs,e,x.jT s,z,ih _ r⟩
 .obtain⟨a,vs,e,s,r⟩:=h;exact⟨a,vs,e,x.wX s,ih _ r⟩
 .obtain⟨a,kvs,o,e,s,q,r⟩:=h;exact⟨a,kvs,o,e,x _ _ s,q,ih _ r⟩
 .obtain⟨a,C,e,s,q⟩:=h;exact⟨a,C,e,s,x _ _ q⟩
 .obtain⟨v,r,e,h1,h2⟩:=h;exact⟨v,r,e,uj _ h1,uk _ h2⟩
def Rep.mono(h:Rep p H d v)(x:Ext H H'):Rep p H' d v:=(tS x).1 d v h
def qM.mono(h:qM p H ds vs)(x:Ext H H'):qM p H' ds vs:=(tS x).2 ds vs h
theorem qM.length:∀{ds:List D}{vs:List V},qM p H ds vs->ds.length=vs.length
 |[],vs,h=>by cases h;rfl
 |d::ds,vs,h=>by obtain⟨v,r,e,_,h2⟩:=h;subst e;simp[qM.length h2]
theorem qM.get:∀{ds:List D}{vs:List V}{i:Nat}{d:D},qM p H ds vs->ds[i]?=Qa d->∃v,vs[i]?=Qa v/\Rep p H d v
 |[],vs,i,d,h,e=>by simp at e
 |a::ds,vs,0,d,h,e=>by refine qL h λv r q h1 _=>?_;subst q;simp at e;subst e;exact⟨v,rfl,h1⟩
 |a::ds,vs,i+1,d,h,e=>by refine qL h λv r q _ h2=>?_;subst q;refine qR (qM.get h2 (by simpa using e)) λw e1 e2=>?_;exact⟨w,by simpa using e1,e2⟩
theorem qM.append:∀{ds es:List D}{vs us:List V},qM p H ds vs->qM p H es us->qM p H (ds++es) (vs++us)
 |[],es,vs,us,h,h'=>by cases h;exact h'
 |d::ds,es,vs,us,h,h'=>by refine qL h λv r q h1 h2=>?_;subst q;exact⟨v,r++us,rfl,h1,qM.append h2 h'⟩
theorem qM.take:∀{ds:List D}{vs:List V}(n:Nat),qM p H ds vs->qM p H (ds.take n) (vs.take n)
 |_,_,0,_=>by simp[qM]
 |[],vs,n+1,h=>by cases h;simp[qM]
 |d::ds,vs,n+1,h=>by refine qL h λv r q h1 h2=>?_;subst q;exact⟨v,r.take n,rfl,h1,qM.take n h2⟩
theorem qM.drop:∀{ds:List D}{vs:List V}(n:Nat),qM p H ds vs->qM p H (ds.drop n) (vs.drop n)
 |_,_,0,h=>h
 |[],vs,n+1,h=>by cases h;simp[qM]
 |d::ds,vs,n+1,h=>by refine qL h λv r q h1 h2=>?_;subst q;exact qM.drop n h2
def qM.snoc(h:qM p H ds vs)(h1:Rep p H d v):qM p H (ds++[d]) (vs++[v]):=h.append ⟨v,[],rfl,h1,rfl⟩
theorem qM.reverse:∀{ds:List D}{vs:List V},qM p H ds vs->qM p H ds.reverse vs.reverse
 |[],vs,h=>by cases h;simp[qM]
 |d::ds,vs,h=>by refine qL h λv r q h1 h2=>?_;subst q;rw[Jm,Jm];exact(qM.reverse h2).snoc h1
def fz(O:List Addr)(H:Hp):Hp:=λa=>if a∈O then Qg else H a
def zO(x:Ext H H'):Ext (fz O H) (fz O H'):=λa o e=>by
 unfold fz at e|-;split at e
 .exact nS e
 .rename_i h;rw[if_neg h];exact x _ _ e
def qu:Ext (fz O H) H:=λa o e=>by
 unfold fz at e;split at e
 .exact nS e
 .exact e
def q3b:fz [] H=H:=by funext a;simp[fz]
def wt{a:Addr}(h:H a=Qa o)(n:a∉O):fz O H a=Qa o:=by unfold fz;rw[if_neg n];exact h
def Lx{a:Addr}(h:a∈O):fz O (upd H a o)=fz O H:=by
 funext b;unfold fz;split
 .rfl
 .rename_i n;exact qY λe=>n (e▸h)
def j6(p:Pm)(H Hf:Hp):D->V->Prop
 |.q6 ds,v=>∃a vs,v=.ref a/\qv p.K H a vs/\qM p Hf ds vs
 |.qJ ks ds,v=>∃a kvs,v=.ref a/\Rd H a (.dK kvs)/\ks=kvs.map (λq=>zi q.1)/\qM p Hf ds (kvs.map (·.2))
 |d,v=>Rep p Hf d v
def Rep.b(h:Rep p Hf d v)(x:Ext Hf H):j6 p H Hf d v:=by
 cases d with
 |q6 ds=>obtain⟨a,vs,e,s,r⟩:=h;exact⟨a,vs,e,x.wX s,r⟩
 |qJ ks ds=>obtain⟨a,kvs,o,e,s,q,r⟩:=h;exact⟨a,kvs,e,.inr ⟨o,x _ _ s⟩,q,r⟩
 |_=>exact h
theorem j6.mono(h:j6 p H Hf d v)(x:Ext H H')(y:Ext Hf k9):j6 p H' k9 d v:=by
 cases d with
 |q6 ds=>obtain⟨a,vs,e,s,r⟩:=h;exact⟨a,vs,e,x.wX s,r.mono y⟩
 |qJ ks ds=>obtain⟨a,kvs,e,s,q,r⟩:=h;exact⟨a,kvs,e,x.rd s,q,r.mono y⟩
 |qE=>exact h
 |bl _=>exact h
 |int _=>exact h
 |str _=>exact h
 |qA _=>exact Rep.mono h y
 |exc _=>exact Rep.mono h y
def IW(p:Pm)(H Hf:Hp)(a:Addr):D->Prop
 |.q6 ds=>∃vs,H a=Qa (.q6 vs)/\qM p Hf ds vs
 |.qJ ks ds=>∃kvs,H a=Qa (.dK kvs)/\ks=kvs.map (λq=>zi q.1)/\qM p Hf ds (kvs.map (·.2))
 |_=>False
def xc(p:Pm)(H Hf:Hp):List Addr->List (List D)->Prop
 |[],xss=>xss=[]
 |b::bs,xss=>∃xs r,xss=xs::r/\(∃vs,H b=Qa (.q6 vs)/\qM p Hf xs vs)/\xc p H Hf bs r
noncomputable def tkH(ks:List Int):Int:=F0 (Jp (ks.map hashInt))
abbrev Te:=List Int×Addr×Value
def q2q(x:Te):DictEntry:=⟨tkH x.1,.ref x.2.1,x.2.2⟩
def TD(a:Addr)(xs:List Te):Heap->Prop:=λh=>(a==J1)=Qh/\∃o es ep,h.get? a=Qa o/\o.ExactDict/\o.data=.dict es ep/\es.toList=xs.map q2q/\(xs.map (·.1)).Nodup
def wa(p:Pm)(Hf:Hp):List (List Int×Int)->List Te->Prop
 |[],xs=>xs=[]
 |q::m,xs=>∃b t r,xs=(q.1,b,.int q.2 t)::r/\zZ p.K Hf b (q.1.map V.int)/\wa p Hf m r
def yv(p:Pm)(H Hf:Hp)(a:Addr)(m:List (List Int×Int)):Prop:=∃xs,H a=Qa (.ext (TD a xs))/\wa p Hf m xs
theorem wa.mono(x:Ext H H'):∀{m:List (List Int×Int)}{xs:List Te},wa p H m xs->wa p H' m xs
 |[],_,h=>h
 |_::_,_,h=>let⟨b,t,r,e,s,h2⟩:=h;⟨b,t,r,e,x.jT s,wa.mono x h2⟩
theorem yv.mono{a:Addr}(h:yv p H Hf a m)(x:Ext H H')(y:Ext Hf k9):yv p H' k9 a m:=let⟨xs,h1,h2⟩:=h;⟨xs,x _ _ h1,h2.mono y⟩
def yV(p:Pm)(H Hf:Hp):Option Sl->Option V->List Addr->Prop
 |none,_,as=>as=[]
 |some (.val d),Y,as=>as=[]/\∃v,Y=Qa v/\Rep p Hf d v
 |some (.own d),Y,as=>∃a,Y=Qa (.ref a)/\as=[a]/\IW p H Hf a d
 |some (.jy m),Y,as=>∃a,Y=Qa (.ref a)/\as=[a]/\yv p H Hf a m
 |some (.zq xss),Y,as=>∃a bs,Y=Qa (.ref a)/\as=a::bs/\H a=Qa (.q6 (bs.map V.ref))/\xc p H Hf bs xss
def kU(p:Pm)(H Hf:Hp):Ev.Env->L2.St->List (List Addr)->Prop
 |[],_,_=>True
 |x::Z,Y,os=>∃y Y' as qy,Y=y::Y'/\os=as::qy/\yV p H Hf x y as/\kU p H Hf Z Y' qy
structure Rel(p:Pm)(Z:Ev.Env)(Y:L2.St)(os:List (List Addr))(H:Hp):Prop where
 nd:os.flatten.Nodup
 there:∀a∈os.flatten,∃o,H a=Qa o
 slots:kU p H (fz os.flatten H) Z Y os
def Fin(p:Pm)(O:List Addr)(H:Hp)(r:D):VK:=λz H'=>Ext H H'/\Rep p (fz O H') r z
def Th(O:List Addr)(H:Hp):Prop:=∀a∈O,∃o,H a=Qa o
def Th.ext(h:Th O H)(x:Ext H H'):Th O H':=λa ha=>let⟨o,e⟩:=h a ha;⟨o,x _ _ e⟩
def Th.out{a:Addr}(h:Th O H)(n:H a=Qg):a∉O:=λz=>by obtain⟨o,e⟩:=h a z;rw[n]at e;exact nS e
def fin_same(h:Rep p (fz O H) r z):Fin p O H r z H:=⟨Ext.refl _,h⟩
def XH{a:Addr}(hO:Th O H)(h:qM p (fz O H) ds vs)(n:H a=Qg):Fin p O H (.q6 ds) (.ref a) (upd H a (.q6 vs)):=
 ⟨Ext.upd n,a,vs,rfl,qv.of (wt zr (hO.out n)),h.mono (zO (Ext.upd n))⟩
def Ln{a:Addr}(hO:Th O H)(h:qM p (fz O H) ds vs)(z:vs.length<=QI)(n:H a=Qg):Fin p O H (.qA ds) (.ref a) (upd H a (.qA vs)):=
 ⟨Ext.upd n,a,vs,rfl,zZ.of (wt zr (hO.out n)),z,h.mono (zO (Ext.upd n))⟩
def vh:big<=QI:=by rw[Jk];decide
noncomputable def RH:Op2->FN
 |.add=>.Add|.sub=>.Sub|.mul=>.Mult|.fdiv=>.FloorDiv|.mod=>.Mod|.shl=>.LShift|.shr=>.RShift|.band=>.BitAnd|.bor=>.BitOr
def ax{o:Op2}(h:Xm op=Qa o):op=RH o:=by cases op<;>simp[Xm]at h<;>subst h<;>rfl
section
variable{p:Pm}
def q7U(K:QL):R2:=λx y H Q=>∃l b xs zs,x=.ref l/\y=.ref b/\qv K H l xs/\qv K H b zs/\xs.length+zs.length<=QI/\∀q,H q=Qg->Q (.ref q) (upd H q (.q6 (xs++zs)))
def q6o:zF X (Yn .Add) (q7U X.K):=by
 intro pins s Y H x y v u Q I rx ry h;obtain⟨l,b,xs,zs,rfl,rfl,hH,hB,hz,q⟩:=h;cases rx;cases ry;obtain⟨its,r,⟨o1,n,e,c1,d1,f1⟩,z1⟩:=I.list hH;obtain⟨yi,r2,⟨o2,n2,e2,c2,d2,f2⟩,z2⟩:=I.list hB;have hl:=r.length;have vk:=r2.length;obtain⟨oc,od,odt,os⟩:=o1;obtain⟨oc2,od2,odt2,AW⟩:=o2;simp only at c1 d1 f1 c2 d2 f2;subst c1 f1 c2 f2;refine Zd ⟨_,e,rfl⟩ ⟨_,e2,rfl⟩ noFill_list_add seq_list_add PySem.F.slot_list_add PySem.F.entry_list_add (PySem.F.args_list_add_2 _ _) (list_addW l b its.toArray yi.toArray n n2 od od2 os AW (by rw[QB,QB];lia)) ⟨e,e2,?_⟩;have ea:its.toArray++yi.toArray=(its++yi).toArray:=by simp
 rw[ea];exact⟨.ref _,_,I.Dw (r.append r2) (by rw[QT];lia),rfl,q _ I.fresh⟩
def q1a{a b:Int}(ha:0<=a)(hb:0<=b):Uu a b=((a.toNat&&&b.toNat:Nat):Int):=by unfold Uu;simp[ha,hb]
def q20{a b:Int}(ha:0<=a)(hb:0<=b):U8 a b=((a.toNat|||b.toNat:Nat):Int):=by
 unfold U8 Uu Builtin.bitNot;rw[(decide_eq_false ∅),(decide_eq_false ∅)];have e1:(-(-a-1)-1).toNat=a.toNat:=∅
 have e2:(-(-b-1)-1).toNat=b.toNat:=∅
 rw[e1,e2];lia
def Cj(a b:Str):(a++b).length=a.length+b.length:=by show(a.cps++b.cps).size=_;rw[Array.size_append];rfl
def q7W(K:QL):R2:=λx y H Q=>∃a b xs ys,x=.ref a/\y=.ref b/\zZ K H a xs/\zZ K H b ys/\xs.length+ys.length<=QI/\
 (ys=[]->Q (.ref a) H)/\(xs=[]->Q (.ref b) H)/\(xs≠[]->ys≠[]->∀p,H p=Qg->Q (.ref p) (upd H p (.qA (xs++ys))))
def q6q:zF X (Yn .Add) (q7W X.K):=by
 intro pins s Y H x y v u Q I rx ry h;refine LR h λa b xs ys qe qf ha hb hz q1 q2 q3=>?_;subst qe qf
 by_cases hx:xs=[]
 .cases rx;cases ry;refine qV (I.tuple ha) λits r1 p1 _=>?_;refine qV (I.tuple hb) λyi r2 p2 _=>?_;have e0:=r1.AG.mpr hx;subst e0;obtain⟨⟨cls,dd,data,sl⟩,ho,hc,n,hd⟩:=id p1;obtain⟨⟨L7,wi,data2,w4⟩,vQ,jH,n2,hd2⟩:=id p2;simp only at hc hd jH hd2;subst hc hd jH hd2;exact Zd ⟨_,ho,rfl⟩ ⟨_,vQ,rfl⟩ ZJ seq_tuple_add Vo Vg (U9 _ _)
   (tuple_addW0 a b _ yi.toArray n n2 dd wi sl w4 (by simp)) ⟨ho,vQ,⟨.ref b,H,I,rfl,q2 hx⟩⟩
 .exact q6p pins s Y H _ _ v u Q I rx ry ⟨a,b,xs,ys,rfl,rfl,ha,hb,hx,hz,q1,λhy=>q3 hx hy⟩
def q7b(K:QL):R2:=λx y H Q=>∃l k xs,x=.ref l/\y=.int k/\qv K H l xs/\-(2^63)<=k/\k<2^63/\xs.length*k.toNat<=QI/\
 ∀p,H p=Qg->Q (.ref p) (upd H p (.q6 (Qr k.toNat xs).flatten))
def q73:zF X (Yn .Mult) (q7b X.K):=by
 intro pins s Y H x y v u Q I rx ry h;refine LQ h λl k xs qe qf hH h1 h2 hz q=>?_;subst qe qf;cases rx;obtain⟨t,rfl⟩:=ry;obtain⟨its,r,⟨o1,n,e,c1,d1,f1⟩,z1⟩:=I.list hH;have hl:=r.length;obtain⟨oc,od,odt,os⟩:=o1;simp only at c1 d1 f1;subst c1 f1;have hs:QI=2^24:=Jk;have qT:its.toArray.size*k.toNat<=2^24:=by rw[QB,<-hl,<-hs];exact hz
 refine wpAny_binaryOp_repeat_ref (by decide) ⟨_,e,rfl⟩ (λs'=>FL s' k t) noFill_list_mul PySem.F.fills_int_mul ZT repeat_list PySem.F.slot_int_index.lookup
  (UX ZT (FL s k t) PySem.F.entry_int_rmul (PySem.F.args_int_rmul_2 _ _) (lm_int_rmul_list_any k t l its.toArray n od os)
   ⟨e,rfl,⟨_,e,rfl⟩,UX PySem.F.slot_list_mul ⟨_,e,rfl⟩ PySem.F.entry_list_mul (PySem.F.args_list_mul_2 _ _)
    (lm_list_mul_any l its.toArray n od os k t (by simp[Builtin.List.listFitsIndex];lia) ∅ (by simp[Yh,QI];lia))
    ⟨e,?_⟩⟩)
 rw[listMul_foldl_if];exact⟨.ref _,_,I.Dw (r.rep k.toNat) (by rw[len_rep,Nat.mul_comm];exact hz),rfl,q _ I.fresh⟩
theorem tQ{p:Pm}{H:Hp}{ds:List D}{vs:List V}(h:qM p H ds vs):∀k:Nat,qM p H (Qr k ds).flatten (Qr k vs).flatten
 |0=>by simp[qM]
 |k+1=>by rw[Yz,Yz,Jq,Jq];exact h.append (tQ h k)
def q6J{a b:Int}(h:(-(2^62)<a/\a<2^62)\/(-(2^62)<b/\b<2^62)):Xz a b:=by unfold Xz;lia
def uo(h:intD f d=.ok r):∃a,d=.int a/\f a=.ok r:=by cases d<;>first|(cases h;done)|exact⟨_,rfl,h⟩
def q5u(h:yH f d=.ok r):∃a,d=.q6 a/\f a=.ok r:=by cases d<;>first|(cases h;done)|exact⟨_,rfl,h⟩
def qAH(h:q0t f d=.ok r):∃a,d=.qA a/\f a=.ok r:=by cases d<;>first|(cases h;done)|exact⟨_,rfl,h⟩
def ro{q:R D}(h:aq q d=.ok r):d=.qE/\q=.ok r:=by cases d<;>first|(cases h;done)|exact⟨rfl,h⟩
def bH:Op2->R2
 |.add=>vY λi j=>.int (i+j)
 |.sub=>vY λi j=>.int (i-j)
 |.mul=>rI Xz λi j=>.int (i*j)
 |.fdiv=>rI IL λi j=>.int (i/j)
 |.mod=>rI (λ_ j=>0<j) λi j=>.int (i %j)
 |.shl=>rI IM λi j=>.int (i*2^j.toNat)
 |.shr=>rI (λ_ j=>0<=j) λi j=>.int (i/2^j.toNat)
 |.band=>vY λi j=>.int (Uu i j)
 |.bor=>vY λi j=>.int (U8 i j)
theorem q6u:∀o:Op2,zF X (Yn (RH o)) (bH o)
 |.add=>q6m|.sub=>q77|.mul=>q6z|.fdiv=>q6r|.mod=>q6y|.shl=>q74|.shr=>q75|.band=>q6n|.bor=>q72
theorem q4q:∀o:Op2,zF X (YZ (RH o)) (bH o)
 |.add=>q4n|.sub=>q4w|.mul=>q4s|.fdiv=>q4p|.mod=>q4r|.shl=>q4u|.shr=>q4v|.band=>q4o|.bor=>q4t
def wO{_:Decidable c}{x:D}(h:(if c then R.ok x else .q9)=.ok r):c/\x=r:=by
 by_cases z:c
 .rw[if_pos z]at h;cases h;exact⟨z,rfl⟩
 .rw[if_neg z]at h;exact nR h
def TV{i j:Int}(e:j=i)(h:D.int i=r):Fin p O H r (.int j) H:=by subst e h;exact fin_same rfl
def nF(o:Op2){m n:Int}(h:zD o (.int m) (.int n)=.ok r):bH o (.int m) (.int n) H (Fin p O H r):=by
 cases o with
 |add=>cases h;exact⟨_,_,rfl,rfl,fin_same rfl⟩
 |mul=>
  obtain⟨c,e⟩:=wO h;exact⟨_,_,rfl,rfl,q6J c,TV rfl e⟩
 |sub=>cases h;exact⟨_,_,rfl,rfl,fin_same rfl⟩
 |fdiv=>
  obtain⟨c,e⟩:=wO h;exact⟨_,_,rfl,rfl,c,TV rfl e⟩
 |mod=>
  obtain⟨c,e⟩:=wO h;exact⟨_,_,rfl,rfl,c,TV rfl e⟩
 |shl=>
  obtain⟨c,e⟩:=wO h;refine⟨_,_,rfl,rfl,⟨c.2.2.1,∅,∅⟩,TV ?_ e⟩;rw[Nat.shiftLeft_eq,Int.natCast_mul,Int.natCast_pow,Int.toNat_of_nonneg c.1];rfl
 |shr=>
  obtain⟨c,e⟩:=wO h;refine⟨_,_,rfl,rfl,c.2,TV ?_ e⟩;rw[ZS,Int.natCast_ediv,Int.natCast_pow,Int.toNat_of_nonneg c.1];rfl
 |band=>
  obtain⟨c,e⟩:=wO h;exact⟨_,_,rfl,rfl,TV (q1a c.1 c.2) e⟩
 |bor=>
  obtain⟨c,e⟩:=wO h;exact⟨_,_,rfl,rfl,TV (q20 c.1 c.2) e⟩
def q6v{o:Op2}{e:D}(h:zD o d e=.ok r)(h1:o≠.add)(h2:o≠.mul):∃m n,d=.int m/\e=.int n:=by
 unfold zD at h;split at h
 .cases h1 rfl
 .cases h2 rfl
 .obtain⟨m,e1,h⟩:=uo h;obtain⟨n,e2,_⟩:=uo h;exact⟨m,n,e1,e2⟩
def q76(hK:p.K=X.K)(hO:Th O H):∀(o:Op2)(d e r:D)(x y:V),zD o d e=.ok r->j6 p H (fz O H) d x->j6 p H (fz O H) e y->
  ∃r2:R2,zF X (Yn (RH o)) r2/\r2 x y H (Fin p O H r):=by
 intro o d e r x y h hx hy;have cD:(∃m n,d=.int m/\e=.int n)->∃r2:R2,zF X (Yn (RH o)) r2/\r2 x y H (Fin p O H r):=λzz=>kX zz λm n e1 e2=>by subst e1 e2;cases hx;cases hy;exact⟨_,q6u o,nF o h⟩
 by_cases h1:o=.add
 .subst h1;cases d with
  |int m=>obtain⟨n,e1,_⟩:=uo h;exact cD ⟨_,_,rfl,e1⟩
  |q6 ds=>
   obtain⟨es,rfl,h⟩:=q5u h;obtain⟨c,rfl⟩:=wO h;refine qL hx λa vs zz s1 r1=>?_;subst zz;refine qL hy λb us zz s2 r2=>?_;subst zz;exact⟨_,q6o,a,b,vs,us,rfl,rfl,hK▸s1,hK▸s2,Qx (by rw[<-r1.length,<-r2.length];exact c) vh,λq n=>XH hO (r1.append r2) n⟩
  |qA ds=>
   obtain⟨es,rfl,h⟩:=qAH h;obtain⟨c,rfl⟩:=wO h;refine zK hx λa vs zz s1 z1 r1=>?_;subst zz;refine zK hy λb us zz s2 z2 r2=>?_;subst zz;have c':vs.length+us.length<=QI:=Qx (by rw[<-r1.length,<-r2.length];exact c) vh;refine⟨_,q6q,a,b,vs,us,rfl,rfl,hK▸qu.jT s1,hK▸qu.jT s2,c',λe=>?_,λe=>?_,λn1 n2 q n=>Ln hO (r1.append r2) (by rw[QT];exact c') n⟩
   .subst e;cases(J6.mp r2.length:es=[]);rw[Q3];exact fin_same ⟨a,vs,rfl,s1,z1,r1⟩
   .subst e;cases(J6.mp r1.length:ds=[]);rw[YL];exact fin_same ⟨b,us,rfl,s2,z2,r2⟩
  |_=>exact nR h
 by_cases h2:o=.mul
 .subst h2;cases d with
  |int m=>obtain⟨n,e1,_⟩:=uo h;exact cD ⟨_,_,rfl,e1⟩
  |q6 ds=>
   obtain⟨k,rfl,h⟩:=uo h;obtain⟨c,rfl⟩:=wO h;refine qL hx λa vs zz s1 r1=>?_;subst zz;cases hy;exact⟨_,q73,a,k,vs,rfl,rfl,hK▸s1,∅,∅,Qx (by rw[<-r1.length];exact c.2.2) vh,λq n=>XH hO (tQ r1 _) n⟩
  |_=>exact nR h
 exact cD (q6v h h1 h2)
end
section
variable{p:Pm}
def vP(hK:p.K=X.K)(I:Inv X pins Y H s):(∀d v u,Rep p H d v->RelV v u->Dv s.heap d u)/\(∀ds vs us,qM p H ds vs->Vals vs us->zA s.heap ds us):=by
 refine D.ind
  (λv u h r=>?_) (λb v u h r=>?_) (λi v u h r=>?_) (λx v u h r=>?_) (λl ih v u h r=>?_) (λl ih v u h r=>?_) (λ_ _ _ _ _ _ _ _=>trivial) (λ_ _ _ _ _=>trivial) (λvs us h r=>?_) (λd ds uj uk vs us h r=>?_)
 .cases h;exact r
 .cases h;exact r
 .cases h;exact r
 .obtain⟨rfl,_⟩:=h;exact r
 .obtain⟨a,vs,rfl,s1,z,r1⟩:=h;cases r;obtain⟨its,rv,pt,_⟩:=I.tuple (hK▸s1);exact⟨a,its,rfl,pt,ih _ _ r1 rv⟩
 .obtain⟨a,vs,rfl,s1,r1⟩:=h;cases r;obtain⟨its,rv,pt,_⟩:=I.list (hK▸s1);exact⟨a,its,rfl,pt.isList,ih _ _ r1 rv⟩
 .cases h;cases r;rfl
 .obtain⟨v,r',rfl,h1,h2⟩:=h;cases r with
  |cons ra rb=>exact⟨_,_,rfl,uj _ _ h1 ra,uk _ _ h2 rb⟩
def wG(hK:p.K=X.K)(I:Inv X pins Y H s)(x:Ext Hf H)(h:j6 p H Hf d v)(r:RelV v u):Dv s.heap d u:=by
 cases d with
 |q6 ds=>
  obtain⟨a,vs,rfl,s1,r1⟩:=h;exact(vP hK I).1 (.q6 ds) _ _ ⟨a,vs,rfl,s1,r1.mono x⟩ r
 |qJ _ _=>trivial
 |exc _=>trivial
 |qE=>exact(vP hK I).1 .qE _ _ (Rep.mono h x) r
 |bl b=>exact(vP hK I).1 (.bl b) _ _ (Rep.mono h x) r
 |int i=>exact(vP hK I).1 (.int i) _ _ (Rep.mono h x) r
 |str y=>exact(vP hK I).1 (.str y) _ _ (Rep.mono h x) r
 |qA l=>exact(vP hK I).1 (.qA l) _ _ (Rep.mono h x) r
def Aj(p:Pm)(ok:D->D->Bool)(g:D->D->Bool):R2:=λx y H Q=>∃d e Hf,Ext Hf H/\j6 p H Hf d x/\j6 p H Hf e y/\ok d e=Qd/\Q (.bl (g d e)) H
def q2J(hK:p.K=X.K)(hu:X.A.units+64<cLine):zF X (JG .Eq) (Aj p (λa b=>pl a&&pl b) qD):=by intro pins s Y H x y v u Q I rx ry h;refine qi h λd e Hf xt h1 h2 c q=>?_;simp at c;exact q7e 8 c.1 c.2 (wG hK I xt h1 rx) (wG hK I xt h2 ry) ∅ X.prog X.w X.xe _ ⟨.bl _,H,I,rfl,q⟩
def q2M(hK:p.K=X.K)(hu:X.A.units+64<cLine):zF X (JG .NotEq) (Aj p (λa b=>pl a&&pl b) (λa b=>!qD a b)):=by intro pins s Y H x y v u Q I rx ry h;refine qi h λd e Hf xt h1 h2 c q=>?_;simp at c;exact q7g 8 c.1 c.2 (wG hK I xt h1 rx) (wG hK I xt h2 ry) ∅ X.prog X.w X.xe _ ⟨.bl _,H,I,rfl,q⟩
def AV(a b:D):Bool:=pl a&&pl b&&qH a&&qH b&&zC a b
def q2L(hK:p.K=X.K)(hu:X.A.units+64<cLine):zF X (JG .Lt) (Aj p AV qU):=by intro pins s Y H x y v u Q I rx ry h;refine qi h λd e Hf xt h1 h2 c q=>?_;simp only[AV,Qp]at c;exact(Pn 8 c.1.1.1.1 c.1.1.1.2 c.1.1.2 c.1.2 c.2 (wG hK I xt h1 rx) (wG hK I xt h2 ry) ∅).1 X.prog X.w X.xe _ ⟨.bl _,H,I,rfl,q⟩
def q2K(hK:p.K=X.K)(hu:X.A.units+64<cLine):zF X (JG .GtE) (Aj p AV (λa b=>!qU a b)):=by intro pins s Y H x y v u Q I rx ry h;refine qi h λd e Hf xt h1 h2 c q=>?_;simp only[AV,Qp]at c;exact(Pn 8 c.1.1.1.1 c.1.1.1.2 c.1.1.2 c.1.2 c.2 (wG hK I xt h1 rx) (wG hK I xt h2 ry) ∅).2 X.prog X.w X.xe _ ⟨.bl _,H,I,rfl,q⟩
noncomputable def eqTo(h:Heap)(ds:List D)(x:D)(u:Value):Bool:=@decide (∃d∈ds,Dv h d u/\qD d x=Qd) (Ue _)
def Ei{x:D}(pd:zU ds=Qd)(px:pl x=Qd)(hd:d∈ds)(y:Dv h d u):eqTo h ds x u=qD d x:=by unfold eqTo;rw[QR,@decide_eq_true_eq _ (Ue _)];refine⟨λzz=>qV zz λe he z w=>?_,λw=>⟨d,hd,y,w⟩⟩;have p1:=vX.mp pd d hd;have p2:=vX.mp pd e he;rw[q2t p1 p2 px (LZ 8 p1 p2 y z)];exact w
theorem Ia{h:Heap}{ds:List D}{x:D}(pd:zU ds=Qd)(px:pl x=Qd):∀{es:List D}{us:List Value},(∀e∈es,e∈ds)->zA h es us->us.any (eqTo h ds x)=es.any λy=>qD y x
 |[],us,_,y=>by cases y;rfl
 |e::es,us,hs,y=>by refine qL y λu r zz y1 y2=>?_;subst zz;rw[JK,JK,Ei pd px (hs e Qe) y1,Ia pd px (λz hz=>hs z (Qc _ hz)) y2]
def tH(p:Pm)(neg:Bool):R2:=λx y H Q=>∃d e Hf ds,Ext Hf H/\j6 p H Hf d x/\j6 p H Hf e y/\(e=.q6 ds\/e=.qA ds)/\pl d=Qd/\zU ds=Qd/\Q (.bl (neg^^ds.any λy=>qD y d)) H
def Pp{x:D}(pd:zU ds=Qd)(px:pl x=Qd)(y:zA s.heap ds us)(z:Dv s.heap x u)(hu:A.units+8<cLine):
  ∀w,w∈us.toArray->SeqAt.EqAt A s w u (eqTo s.heap ds x w):=λw hw=>by
 obtain⟨d,hd,yd⟩:=y.mem (by simpa using hw);rw[Ei pd px hd yd];exact x8 8 (vX.mp pd d hd) px yd z hu
def f6(hK:p.K=X.K)(hu:X.A.units+64<cLine):zF X (JG .In) (tH p Qh):=by
 intro pins s Y H x y v u Q I rx ry h;obtain⟨d,e,Hf,ds,xt,h1,h2,c,p1,p2,q⟩:=h;have z1:=wG hK I xt h1 rx;have z2:=wG hK I xt h2 ry;have vS:X.A.in1.units+8<cLine:=by rw[Jb];lia
 have q':∀us:List Value,zA s.heap ds us->EP X pins Y Q (.bool (us.toArray.any (eqTo s.heap ds d))) s:=λus y=>by rw[List.any_toArray,Ia p2 p1 (λ_ h=>h) y];exact⟨.bl _,H,I,rfl,by simpa using q⟩
 rcases c with rfl|rfl
 .refine qL z2 λa us zz w1 w2=>?_;subst zz;exact SeqAt.in_listAt (eqTo s.heap ds d) w1 (Pp p2 p1 w2 z1 vS) (q' us w2)
 .refine qL z2 λa us zz w1 w2=>?_;subst zz;exact SeqAt.in_tupleAt (eqTo s.heap ds d) w1 (Pp p2 p1 w2 z1 vS) (q' us w2)
def f7(hK:p.K=X.K)(hu:X.A.units+64<cLine):zF X (JG .NotIn) (tH p Qd):=by
 intro pins s Y H x y v u Q I rx ry h;obtain⟨d,e,Hf,ds,xt,h1,h2,c,p1,p2,q⟩:=h;have z1:=wG hK I xt h1 rx;have z2:=wG hK I xt h2 ry;have vS:X.A.in1.units+8<cLine:=by rw[Jb];lia
 have q':∀us:List Value,zA s.heap ds us->EP X pins Y Q (.bool (!us.toArray.any (eqTo s.heap ds d))) s:=λus y=>by rw[List.any_toArray,Ia p2 p1 (λ_ h=>h) y];exact⟨.bl _,H,I,rfl,by simpa using q⟩
 rcases c with rfl|rfl
 .refine qL z2 λa us zz w1 w2=>?_;subst zz;exact SeqAt.notIn_listAt (eqTo s.heap ds d) w1 (Pp p2 p1 w2 z1 vS) (q' us w2)
 .refine qL z2 λa us zz w1 w2=>?_;subst zz;exact SeqAt.notIn_tupleAt (eqTo s.heap ds d) w1 (Pp p2 p1 w2 z1 vS) (q' us w2)
end
section
variable{p:Pm}
noncomputable def fA:Cm->CmpOp
 |.eq=>.Eq|.ne=>.NotEq|.lt=>.Lt|.le=>.LtE|.gt=>.Gt|.ge=>.GtE|.R5=>.Is|.AI=>.IsNot|.mem=>.In|.yK=>.NotIn
def fB(op:CmpOp):fA (wh op)=op:=by cases op<;>rfl
def nq(kvs:List (Key×V))(i:Int):((kvs.map λq=>zi q.1).any λy=>qD y (.int i))=(w8 kvs (.inl i)).isSome:=by
 induction kvs with
 |nil=>rfl
 |cons q r ih=>
  rw[Qw,JK,ih];obtain⟨k,v⟩:=q;cases k with
  |inl j=>
   by_cases e:j=i
   .subst e;rw[Cy rfl];simp[zi,qD]
   .rw[FW (λz=>e (Ww z))];simp[zi,qD,e]
  |inr x=>rw[FW (by intro z;cases z)];simp[zi,qD]
def q6t(hu:X.A.units+64<cLine):zF X (JG .In) (λx y H Q=>∃i a kvs,x=.int i/\y=.ref a/\Rd H a (.dK kvs)/\Q (.bl (w8 kvs (.inl i)).isSome) H):=by intro pins s Y H x y v u Q I rx ry h;obtain⟨i,a,kvs,rfl,rfl,e,q⟩:=h;cases ry;exact q2W ∅ I (.inl ⟨kvs,.inl i,e,rfl,rfl⟩) rx λs' I'=>⟨.bl _,H,I',rfl,q⟩
def q70(hu:X.A.units+64<cLine):zF X (JG .NotIn) (λx y H Q=>∃i a kvs,x=.int i/\y=.ref a/\Rd H a (.dK kvs)/\Q (.bl (!(w8 kvs (.inl i)).isSome)) H):=by intro pins s Y H x y v u Q I rx ry h;obtain⟨i,a,kvs,rfl,rfl,e,q⟩:=h;cases ry;exact q2Y ∅ I (.inl ⟨kvs,.inl i,e,rfl,rfl⟩) rx λs' I'=>⟨.bl _,H,I',rfl,q⟩
def rq{x:V}(h:j6 p H Hf d x):decide (x=.qE)=(match d with|.qE=>Qd|_=>Qh):=by
 cases d with
 |qE=>cases h;rfl
 |bl b=>cases h;rfl
 |int i=>cases h;rfl
 |str y=>obtain⟨rfl,_⟩:=h;rfl
 |qA l=>obtain⟨_,_,rfl,_⟩:=h;rfl
 |q6 l=>obtain⟨_,_,rfl,_⟩:=h;rfl
 |qJ k l=>obtain⟨_,_,rfl,_⟩:=h;rfl
 |exc c=>obtain⟨_,_,rfl,_⟩:=h;rfl
def f9(hK:p.K=X.K)(hO:Th O H)(hu:X.A.units+64<cLine):∀(o:Cm)(d e r:D)(x y:V),qc o d e=.ok r->j6 p H (fz O H) d x->j6 p H (fz O H) e y->
  ∃r2:R2,zF X (JG (fA o)) r2/\r2 x y H (Fin p O H r):=by
 intro o d e r x y h hx hy;have pf:∀b:Bool,Fin p O H (.bl b) (.bl b) H:=λb=>fin_same rfl;cases o with
 |eq=>
  obtain⟨c,rfl⟩:=wO h;exact⟨_,q2J hK hu,d,e,_,qu,hx,hy,c,pf _⟩
 |ne=>
  obtain⟨c,rfl⟩:=wO h;exact⟨_,q2M hK hu,d,e,_,qu,hx,hy,c,pf _⟩
 |lt=>
  obtain⟨c,rfl⟩:=wO h;exact⟨_,q2L hK hu,d,e,_,qu,hx,hy,c,pf _⟩
 |ge=>
  obtain⟨c,rfl⟩:=wO h;exact⟨_,q2K hK hu,d,e,_,qu,hx,hy,c,pf _⟩
 |le=>
  obtain⟨a,rfl,h⟩:=uo h;obtain⟨b,rfl,h⟩:=uo h;cases h;cases hx;cases hy;exact⟨_,q6x,_,_,rfl,rfl,pf _⟩
 |gt=>
  obtain⟨a,rfl,h⟩:=uo h;obtain⟨b,rfl,h⟩:=uo h;cases h;cases hx;cases hy;exact⟨_,q6s,_,_,rfl,rfl,pf _⟩
 |R5=>
  obtain⟨rfl,h⟩:=ro h;cases h;cases(show y=_ from hy);refine⟨_,q6w,rfl,?_⟩;rw[(rq hx)];cases d<;>exact pf _
 |AI=>
  obtain⟨rfl,h⟩:=ro h;cases h;cases(show y=_ from hy);refine⟨_,q71,rfl,?_⟩;rw[(rq hx)];cases d<;>exact pf _
 |mem=>
  simp only[qc,memD]at h;split at h
  .split at h
   .rename_i xs c;simp at c;cases h;exact⟨_,f6 hK hu,d,_,_,xs,qu,hx,hy,.inl rfl,c.1,c.2,by simpa using pf _⟩
   .exact nR h
  .split at h
   .rename_i xs c;simp at c;cases h;exact⟨_,f6 hK hu,d,_,_,xs,qu,hx,hy,.inr rfl,c.1,c.2,by simpa using pf _⟩
   .exact nR h
  .split at h
   .cases h;cases hx;refine zK hy λa kvs qe s1 qf _=>?_;subst qe qf;refine⟨_,q6t hu,_,a,kvs,rfl,rfl,s1,?_⟩;rw[<-nq];exact pf _
   .exact nR h
  .exact nR h
 |yK=>
  simp only[qc,memD]at h;split at h
  .split at h
   .rename_i xs c;simp at c;cases h;exact⟨_,f7 hK hu,d,_,_,xs,qu,hx,hy,.inl rfl,c.1,c.2,by simpa using pf _⟩
   .exact nR h
  .split at h
   .rename_i xs c;simp at c;cases h;exact⟨_,f7 hK hu,d,_,_,xs,qu,hx,hy,.inr rfl,c.1,c.2,by simpa using pf _⟩
   .exact nR h
  .split at h
   .cases h;cases hx;refine zK hy λa kvs qe s1 qf _=>?_;subst qe qf;refine⟨_,q70 hu,_,a,kvs,rfl,rfl,s1,?_⟩;rw[<-nq];exact pf _
   .exact nR h
  .exact nR h
def sG{i:Int}(h:qM p Hf ds vs)(e:yL ds i=.ok d):∃v,XA vs i=Qa v/\Rep p Hf d v:=by
 have hl:=h.length;unfold yL at e;unfold XA PQ;split at e
 .rename_i z hz;cases e;split at hz
  .rename_i c;refine qR (h.get hz) λv e1 e2=>?_;refine⟨v,?_,e2⟩;have:=(Qj.mp e1).1;rw[if_pos c,if_pos ∅];exact e1
  .rename_i c;split at hz
   .rename_i c2;refine qR (h.get hz) λv e1 e2=>?_;refine⟨v,?_,e2⟩;rw[if_neg c,if_pos ∅];rw[hl]at e1;exact e1
   .exact nS hz
 .exact nR e
theorem pB{Hf:Hp}{i:Int}{d:D}:∀{kvs:List (Key×V)}{ds:List D},qM p Hf ds (kvs.map (·.2))->look i (kvs.map λq=>zi q.1) ds=.ok d->∃v,w8 kvs (.inl i)=Qa v/\Rep p Hf d v
 |[],ds,h,e=>by cases ds<;>simp[look]at e
 |(k,w)::r,ds,h,e=>by
  cases ds with
  |nil=>cases k<;>simp[look,zi]at e
  |cons d1 ds=>
   refine qL h λv r' q h1 h2=>?_;injection q with q1 q2
   subst q1 q2;cases k with
   |inl j=>
    simp only[Qw,zi,look]at e;split at e
    .rename_i c;subst c;cases e;exact⟨w,Cy rfl,h1⟩
    .rename_i c;refine qR (pB h2 e) λv e1 e2=>?_;exact⟨v,by rw[FW (λz=>c (Ww z))];exact e1,e2⟩
   |inr x=>simp[look,zi]at e
def q5E(hu:X.A.units+64<cLine):E5 X (λx y H Q=>∃a kvs i v,x=.ref a/\y=.int i/\Rd H a (.dK kvs)/\w8 kvs (.inl i)=Qa v/\Q v H):=by intro value slice pins s Y H x y v u Q I rx ry h hs;obtain⟨a,kvs,i,z,rfl,rfl,e,hv,q⟩:=h;cases rx;have g:E2 H a (.int i) (Qa z):=.inl ⟨kvs,.inl i,e,rfl,hv.symm⟩;obtain⟨ht,_⟩:=q4z I (.inl ⟨kvs,e⟩);exact F1 ht slot_dict_getitem.lookup (q2V ∅ I g ry λw' s' I' vI=>⟨z,H,I',vI,q⟩) hs
def q5F(hK:p.K=X.K)(hu:X.A.units+64<cLine):∀(d e r:D)(x y:V),jo d e=.ok r->j6 p H (fz O H) d x->j6 p H (fz O H) e y->
  ∃r2:R2,E5 X r2/\r2 x y H (Fin p O H r):=by
 intro d e r x y h hx hy;unfold jo at h;split at h
 .cases hy;refine qL hx λa vs zz s1 r1=>?_;subst zz;obtain⟨v,e1,e2⟩:=sG r1 h;exact⟨_,ng,a,vs,_,v,rfl,rfl,hK▸s1,e1,fin_same e2⟩
 .cases hy;refine zK hx λa vs zz s1 z r1=>?_;subst zz;obtain⟨v,e1,e2⟩:=sG r1 h;exact⟨_,q5G,a,vs,_,v,rfl,rfl,hK▸qu.jT s1,e1,fin_same e2⟩
 .cases hy;refine zK hx λa kvs qe s1 qf r1=>?_;subst qe qf;obtain⟨v,e1,e2⟩:=pB r1 h;exact⟨_,q5E hu,a,kvs,_,v,rfl,rfl,s1,e1,fin_same e2⟩
 .exact nR h
def qAE{x:V}(hK:p.K=X.K)(h:tr d=.ok b)(hx:j6 p H (fz O H) d x):d7 X.K x H b:=by
 unfold tr at h;split at h<;>cases h
 .cases hx;rfl
 .cases hx;rfl
 .cases hx;rfl
 .obtain⟨rfl,z⟩:=hx;refine⟨Qx z vh,?_⟩;rw[QR];simp
 .refine zK hx λa vs zz s1 z r1=>?_;subst zz;refine .inr (.inl ⟨vs,hK▸qu.jT s1,?_⟩);have:=r1.length;rename_i ds;cases ds<;>cases vs<;>first|rfl|(simp at this)
 .obtain⟨a,vs,rfl,s1,r1⟩:=hx;refine .inl ⟨vs,hK▸s1,?_⟩;have:=r1.length;rename_i ds;cases ds<;>cases vs<;>first|rfl|(simp at this)
end
structure BOk(X:Cx)(pins:List (Addr×Obj))(H:Hp)(B:Heap):Prop where
 qI:zW X.prog X.w H B
 keep:∀b o,X.s₀.heap.get? b=Qa o->X.H₀ b=Qg->b∉zy X.stack->b∉X.ex->B.get? b=Qa o
 there:∀b o,X.s₀.heap.get? b=Qa o->b∉zy X.stack->b∉X.ex->∃o',B.get? b=Qa o'
 pin:∀q∈X.pn++pins,B.get? q.1=Qa q.2
def wA(X:Cx)(p:Pm)(pins:List (Addr×Obj))(Y:L2.St)(H:Hp)(c:Nat)(e:Value)(s':Shared):Prop:=
 ∃H' a C,e=.ref a/\p.cls[c]?=Qa C/\Ext H H'/\
  ((∃s1 vs,Inv X pins Y H' s1/\Heap.MadeExcOf s1.heap s'.heap a (.ref C) vs/\s'={s1 with heap:=s'.heap})\/
   (∃B t,Inv X pins Y H' s'/\BOk X pins H' B/\Heap.FlyingW B X.stack a (.ref C) (.ref t) s'.heap)\/
   (∃B t L,X.env.frame=Qa L/\Inv X pins Y H' s'/\BOk X pins H' B/\Heap.HeldW B X.stack a (.ref C) (.ref t) L s'.heap))
def wA.ext{p:Pm}{c:Nat}{e:Value}(m:wA X p pins Y H1 c e s')(x:Ext H H1):wA X p pins Y H c e s':=by obtain⟨H',a,C,h1,h2,h3,h4⟩:=m;exact⟨H',a,C,h1,h2,x.trans h3,h4⟩
theorem AY{p:Pm}{H H' Hf k9:Hp}(x:Ext H H')(y:Ext Hf k9):∀{bs:List Addr}{xss:List (List D)},xc p H Hf bs xss->xc p H' k9 bs xss
 |[],_,h=>h
 |b::bs,xss,h=>by obtain⟨xs,r,e,⟨vs,h1,h2⟩,h3⟩:=h;exact⟨xs,r,e,⟨vs,x _ _ h1,h2.mono y⟩,AY x y h3⟩
def q7A{p:Pm}(x:Ext H H')(y:Ext Hf k9){a:Addr}(h:IW p H Hf a d):IW p H' k9 a d:=by
 cases d with
 |q6 ds=>obtain⟨vs,h1,h2⟩:=h;exact⟨vs,x _ _ h1,h2.mono y⟩
 |qJ ks ds=>obtain⟨kvs,h1,h2,h3⟩:=h;exact⟨kvs,x _ _ h1,h2,h3.mono y⟩
 |_=>exact h.elim
def bS{p:Pm}(x:Ext H H')(y:Ext Hf k9){sl:Option Sl}{v:Option V}(h:yV p H Hf sl v as):yV p H' k9 sl v as:=by
 cases sl with
 |none=>exact h
 |some s=>cases s with
  |val d=>obtain⟨h1,w,h2,h3⟩:=h;exact⟨h1,w,h2,h3.mono y⟩
  |own d=>obtain⟨a,h1,h2,h3⟩:=h;exact⟨a,h1,h2,q7A x y h3⟩
  |jy m=>obtain⟨a,h1,h2,h3⟩:=h;exact⟨a,h1,h2,h3.mono x y⟩
  |zq xss=>obtain⟨a,bs,h1,h2,h3,h4⟩:=h;exact⟨a,bs,h1,h2,x _ _ h3,AY x y h4⟩
theorem RU{p:Pm}{H H' Hf k9:Hp}(x:Ext H H')(y:Ext Hf k9):∀{Z:Ev.Env}{Y:L2.St}{os:List (List Addr)},kU p H Hf Z Y os->kU p H' k9 Z Y os
 |[],_,_,h=>h
 |_::Z,_,_,h=>by refine x6 h λy1 Y' as qy e1 e2 h1 h2=>?_;exact⟨y1,Y',as,qy,e1,e2,bS x y h1,RU x y h2⟩
def Rel.th{p:Pm}(r:Rel p Z Y os H):Th os.flatten H:=r.there
theorem Rel.ext{p:Pm}(r:Rel p Z Y os H)(x:Ext H H'):Rel p Z Y os H':=
 ⟨r.nd,r.th.ext x,RU x (zO x) r.slots⟩
theorem FR{p:Pm}{H Hf:Hp}:∀{Z:Ev.Env}{Y:L2.St}{os:List (List Addr)}{i:Nat}{x:Option Sl},kU p H Hf Z Y os->Z[i]?=Qa x->∃y as,Y[i]?=Qa y/\os[i]?=Qa as/\yV p H Hf x y as
 |[],_,_,i,x,h,e=>by simp at e
 |x0::Z,_,_,0,x,h,e=>by refine x6 h λy1 Y' as qy qe qf h1 h2=>?_;subst qe qf;simp at e;subst e;exact⟨y1,as,rfl,rfl,h1⟩
 |x0::Z,_,_,i+1,x,h,e=>by refine x6 h λy1 Y' as qy qe qf h1 h2=>?_;subst qe qf;refine qL (FR h2 (by simpa using e)) λy bs e1 e2 e3=>?_;exact⟨y,bs,by simpa using e1,by simpa using e2,e3⟩
def Rel.val{p:Pm}(r:Rel p Z Y os H)(e:jG Z i=.ok d):∃v,Y[i]?=Qa (Qa v)/\Rep p (fz os.flatten H) d v:=by
 unfold jG at e;split at e
 .rename_i d' h;cases e;obtain⟨y,as,e1,_,h1,v,e2,h2⟩:=FR r.slots h;exact⟨v,by rw[e1,e2],h2⟩
 .exact nR e
def Rel.bor{p:Pm}(r:Rel p Z Y os H)(e:Ta Z i=.ok d):∃v,Y[i]?=Qa (Qa v)/\j6 p H (fz os.flatten H) d v:=by
 unfold Ta at e;split at e
 .rename_i d' h;cases e;obtain⟨y,as,e1,_,h1,v,e2,h2⟩:=FR r.slots h;exact⟨v,by rw[e1,e2],h2.b qu⟩
 .rename_i d' h;cases e;refine TL (FR r.slots h) λy as e1 _ a e2 _ h2=>?_;refine⟨.ref a,by rw[e1,e2],?_⟩;cases d with
  |q6 ds=>obtain⟨vs,q1,q2⟩:=h2;exact⟨a,vs,rfl,qv.of q1,q2⟩
  |qJ ks ds=>obtain⟨kvs,q1,q2,q3⟩:=h2;exact⟨a,kvs,rfl,.inl q1,q2,q3⟩
  |_=>exact h2.elim
 .exact nR e
section
variable{p:Pm}
def Gd(X:Cx)(p:Pm)(pins:List (Addr×Obj))(Y:L2.St)(os:List (List Addr))(H:Hp)(r:R D)(u:Value)(s':Shared):Prop:=
 ∃d v H',r=.ok d/\Inv X pins Y H' s'/\RelV v u/\Ext H H'/\Rep p (fz os.flatten H') d v
def Gb(X:Cx)(p:Pm)(pins:List (Addr×Obj))(Y:L2.St)(os:List (List Addr))(H:Hp)(r:R D)(u:Value)(s':Shared):Prop:=
 ∃d v H',r=.ok d/\Inv X pins Y H' s'/\RelV v u/\Ext H H'/\j6 p H' (fz os.flatten H') d v
def Er{α:Type}(X:Cx)(p:Pm)(pins:List (Addr×Obj))(Y:L2.St)(H:Hp)(r:R α)(e:Value)(s':Shared):Prop:=∃c,r=.err c/\wA X p pins Y H c e s'
def SE(X:Cx)(p:Pm)(G:Nat->List D->R D)(sub:Nat->Nat->Bool)(e:QC)(l:L):Prop:=
 ∀(pins:List (Addr×Obj))(s:Shared)(Y:L2.St)(H:Hp)(Z:Ev.Env)(os:List (List Addr)),Inv X pins Y H s->Rel p Z Y os H->ev G sub l Z≠.q9->
  wpAny (model X.prog X.w) X.A (Jw e X.env) (Gd X p pins Y os H (ev G sub l Z)) (Er X p pins Y H (ev G sub l Z)) s
def SB(X:Cx)(p:Pm)(G:Nat->List D->R D)(sub:Nat->Nat->Bool)(e:QC)(l:L):Prop:=
 ∀(pins:List (Addr×Obj))(s:Shared)(Y:L2.St)(H:Hp)(Z:Ev.Env)(os:List (List Addr)),Inv X pins Y H s->Rel p Z Y os H->ev G sub l Z≠.q9->
  wpAny (model X.prog X.w) X.A (Jw e X.env) (Gb X p pins Y os H (ev G sub l Z)) (Er X p pins Y H (ev G sub l Z)) s
theorem SE.b(h:SE X p G sub e l):SB X p G sub e l:=λpins s Y H Z os I R hs=>
 Qi (h pins s Y H Z os I R hs) (λu s' zz=>qi zz λd v H' e1 I' rv x q=>⟨d,v,H',e1,I',rv,x,q.b qu⟩) λ_ _ z=>z
def z7{r:R α}{f:α->R β}(h:r.bind f≠.q9):r≠.q9:=λe=>h (by rw[e];rfl)
def TM{rr:R D}(x:Ext H H1)(e:rr=.ok r)(h:EP (X.qn E) pins Y (Fin p os.flatten H1 r) u s'):Gd X p pins Y os H rr u s':=by refine zK h λv H' I' rv x' q=>?_;exact⟨r,v,H',e,I'.yr,rv,x.trans x',q⟩
def Ar{b:QC}{f:Value->Value->Sem Value}{g:D->D->R D}(ha:SB X p G sub a la)(hb:SB X p G sub b lb)
  (hf:∀(E:NZ)(pins:List (Addr×Obj))(s:Shared)(Y:L2.St)(H:Hp)(os:List (List Addr))(x y:V)(v u:Value)(d e r:D),Inv X pins Y H s->Th os.flatten H->RelV x v->RelV y u->j6 p H (fz os.flatten H) d x->j6 p H (fz os.flatten H) e y->g d e=.ok r->
   wpAny (model X.prog X.w) X.A (f v u) (EP (X.qn E) pins Y (Fin p os.flatten H r)) E s)
  (hg:∀d e,g d e=.q9\/∃r,g d e=.ok r)
  {pins:List (Addr×Obj)}{s:Shared}{Y:L2.St}{H:Hp}{Z:Ev.Env}{os:List (List Addr)}(I:Inv X pins Y H s) (R:Rel p Z Y os H) {rr:Ev.R D}(er:rr=(ev G sub la Z).bind λx=>(ev G sub lb Z).bind λy=>g x y) (hs:rr≠.q9):
  wpAny (model X.prog X.w) X.A (Jw a X.env) (λv s₁=>wpAny (model X.prog X.w) X.A (Jw b X.env) (λu s₂=>wpAny (model X.prog X.w) X.A (f v u) (Gd X p pins Y os H rr) (Er X p pins Y H rr) s₂) (Er X p pins Y H rr) s₁) (Er X p pins Y H rr) s:=by
 subst er;refine Qi (ha pins s Y H Z os I R (z7 hs)) (λv s1 zz=>qi zz λd x H1 e1 I1 r1 x1 q1=>?_) (λe s' zz=>qR zz λc e1 m=>⟨c,by rw[e1];rfl,m⟩);rw[e1,qB]at hs|-;have R1:=R.ext x1;refine Qi (hb pins s1 Y H1 Z os I1 R1 (z7 hs)) (λu s2 zz=>qi zz λd2 y H2 e2 I2 r2 x2 q2=>?_) (λe s' zz=>qR zz λc e2 m=>⟨c,by rw[e2];rfl,m.ext x1⟩);rw[e2,qB]at hs|-;rcases hg d d2 with z|⟨r,z⟩
 .exact absurd z hs
 rw[z];exact Qi (hf _ pins s2 Y H2 os x y v u d d2 r I2 (R1.ext x2).th r1 r2 (q1.mono x2 (zO x2)) q2 z) (λw s3 h3=>TM (x1.trans x2) rfl h3) λ_ _ z=>z
def GP{_:Decidable c}{x:D}:(if c then R.ok x else .q9)=.q9\/∃r,(if c then R.ok x else .q9)=.ok r:=by
 by_cases z:c
 .rw[if_pos z];exact .inr ⟨_,rfl⟩
 .rw[if_neg z];exact .inl rfl
def PL{f:Int->R D}(h:∀i,f i=.q9\/∃r,f i=.ok r)(d:D):intD f d=.q9\/∃r,intD f d=.ok r:=by cases d<;>first|exact h _|exact .inl rfl
def q6l(o:Op2)(a b:Int):jh o a b=.q9\/∃r,jh o a b=.ok r:=by cases o<;>first|exact .inl rfl|exact .inr ⟨_,rfl⟩|exact GP
def sO(o:Op2)(d e:D):zD o d e=.q9\/∃r,zD o d e=.ok r:=by
 unfold zD;split
 .cases d<;>first|exact .inl rfl|exact PL (λ_=>.inr ⟨_,rfl⟩) e|(cases e<;>first|exact .inl rfl|exact GP)
 .cases d<;>first|exact .inl rfl|exact PL (λ_=>GP) e
 .exact PL (λa=>PL (q6l o a) e) d
def q65(d e:D):memD d e=.q9\/∃r,memD d e=.ok r:=by
 unfold memD;split<;>first
  |exact .inl rfl
  |(split<;>first|exact .inr ⟨_,rfl⟩|exact .inl rfl)
def eg(o:Cm)(d e:D):qc o d e=.q9\/∃r,qc o d e=.ok r:=by
 cases o<;>first
  |exact GP
  |exact PL (λa=>PL (λb=>.inr ⟨_,rfl⟩) e) d
  |(cases e<;>first|exact .inl rfl|exact .inr ⟨_,rfl⟩)
  |(unfold qc;dsimp only;rcases q65 d e with z|⟨r,z⟩<;>rw[z]<;>first|exact .inl rfl|exact .inr ⟨_,rfl⟩)
def q6b(l:List D)(i:Int):yL l i=.q9\/∃r,yL l i=.ok r:=by unfold yL;split<;>first|exact .inr ⟨_,rfl⟩|exact .inl rfl
theorem p9(i:Int):∀(ks vs:List D),look i ks vs=.q9\/∃r,look i ks vs=.ok r
 |[],vs=>by unfold look;exact .inl rfl
 |k::ks,[]=>by cases k<;>(unfold look;exact .inl rfl)
 |k::ks,v::vs=>by
  cases k<;>first
   |(unfold look;exact .inl rfl)
   |(unfold look;split<;>first|exact .inr ⟨_,rfl⟩|exact p9 i ks vs)
def q4a(d e:D):jo d e=.q9\/∃r,jo d e=.ok r:=by unfold jo;split<;>first|exact q6b _ _|exact p9 _ _ _|exact .inl rfl
def q8e{b:QC}{o:Op2}(hK:p.K=X.K)(ho:Xm op=Qa o)(ha:SB X p G sub a la)(hb:SB X p G sub b lb):SE X p G sub (.BinOp a op b pos) (.op o la lb):=by intro pins s Y H Z os I R hs;rw[ax ho];refine wpAny_BinOp (Ar ha hb (λE pins s Y H os x y v u d e r I t rx ry h1 h2 h=>?_) (sO o) I R (zT ..) hs);obtain⟨r2,k,q⟩:=q76 (X:=X.qn E) hK t o d e r x y h h1 h2;exact k pins s Y H x y v u _ (I.qn E) rx ry q
def q8R{b:QC}{op:CmpOp}(hK:p.K=X.K)(hu:X.A.units+64<cLine)(hm:behindInMarks op b=Qh)(ha:SB X p G sub a la)(hb:SB X p G sub b lb):SE X p G sub (.Compare a [op] [b] pos) (.cm (wh op) la lb):=by intro pins s Y H Z os I R hs;refine wpAny_Compare1 (Ar ha hb (λE pins s Y H os x y v u d e r I t rx ry h1 h2 h=>?_) (eg (wh op)) I R (Rt ..) hs) hm;obtain⟨r2,k,q⟩:=f9 (X:=X.qn E) hK t hu (wh op) d e r x y h h1 h2;rw[fB]at k;exact k pins s Y H x y v u _ (I.qn E) rx ry q
def q8V{b:QC}(hK:p.K=X.K)(hu:X.A.units+64<cLine)(hs:E7 b)(ha:SB X p G sub a la)(hb:SB X p G sub b lb):SE X p G sub (.Subscript a b pos) (.idx la lb):=by intro pins s Y H Z os I R hn;refine W0 (Ar ha hb (λE pins s Y H os x y v u d e r I t rx ry h1 h2 h=>?_) q4a I R (xn ..) hn);obtain⟨r2,k,q⟩:=q5F (X:=X.qn E) (O:=os.flatten) hK hu d e r x y h h1 h2;exact k a b pins s Y H x y v u _ (I.qn E) rx ry q (hs _ _)
end
section
variable{p:Pm}
def q05{c:Const}(h:TC c=Qa d):SE X p G sub (.Constant c j pos) (.qh d):=by
 intro pins s Y H Z os I R hs;cases c<;>simp[TC]at h
 .subst h;exact Constant_none ⟨_,.qE,H,rfl,I,rfl,Ext.refl _,rfl⟩
 .subst h;exact Constant_bool ⟨_,.bl _,H,rfl,I,rfl,Ext.refl _,rfl⟩
 .subst h;exact wpAny_Constant_int ⟨_,.int _,H,rfl,I.tok _,⟨_,rfl⟩,Ext.refl _,rfl⟩
 .obtain⟨h1,rfl⟩:=h;exact Calls.Constant_str ⟨_,.str _,H,rfl,I.tok _,⟨_,rfl⟩,Ext.refl _,rfl,Qx h1 (by decide)⟩
def vv{Q:NZ}(I:Inv X pins Y H s)(hN:X.N[i]?=Qa x)(hv:kA X.env.scope x)(e:Y[i]?=Qa (Qa v))
  (hd:(x==("__debug__":Str))=Qh) (z8:(x==("__classdict__":Str))=Qh) (h:∀u,RelV v u->Q u s):wpAny (model X.prog X.w) X.A (Jw (.Name x pos) X.env) Q E s:=by
 obtain⟨m,hn,hl⟩:=I.loc;obtain⟨u,r,l⟩:=hl i x v hN e hv;rcases l with⟨hk,hm⟩|⟨hk,c,hc,P4⟩
 .exact wpAny_Name (wpAny_loadName_local I.ok.kind hk hn hm (h u r)) hd
 .rcases hk with hk|hk
  .exact wpAny_Name (wpAny_loadName_cell I.ok.kind hk hc P4 (h u r)) hd
  .exact wpAny_Name (wpAny_loadName_free I.ok.kind hk hc P4 (h u r) z8) hd
def q8l(hN:X.N[i]?=Qa x)(hv:kA X.env.scope x)(hd:(x==("__debug__":Str))=Qh)(z8:(x==("__classdict__":Str))=Qh):SE X p G sub (.Name x pos) (.zP i):=by
 intro pins s Y H Z os I R hs;rw[jf]at hs|-;cases e:jG Z i with
 |ok d=>
  obtain⟨v,e1,q⟩:=R.val e;exact vv I hN hv e1 hd z8 λu r=>⟨d,v,H,rfl,I,r,Ext.refl _,q⟩
 |err c=>unfold jG at e;split at e<;>cases e
 |q9=>exact absurd e hs
def q02(hN:X.N[i]?=Qa x)(hv:kA X.env.scope x)(hd:(x==("__debug__":Str))=Qh)(z8:(x==("__classdict__":Str))=Qh):SB X p G sub (.Name x pos) (.bor i):=by
 intro pins s Y H Z os I R hs;rw[iM]at hs|-;cases e:Ta Z i with
 |ok d=>
  obtain⟨v,e1,q⟩:=R.bor e;exact vv I hN hv e1 hd z8 λu r=>⟨d,v,H,rfl,I,r,Ext.refl _,q⟩
 |err c=>unfold Ta at e;split at e<;>cases e
 |q9=>exact absurd e hs
def q8U(hg:Gl X x)(hm:X.mg x=Qa u)(r:RelV v u)(hr:∀H,Rep p H d v)(hd:(x==("__debug__":Str))=Qh):SE X p G sub (.Name x pos) (.qh d):=λpins s Y H Z os I R hs=>
 uu I hg hm ⟨d,v,H,rfl,I,r,Ext.refl _,hr _⟩ hd
def q8b(ha:SE X p G sub a la):SE X p G sub (.UnaryOp .USub a pos) (.neg la):=by intro pins s Y H Z os I R hs;dsimp only[q34]at hs|-;refine UnaryOp_ (Qi (ha pins s Y H Z os I R (z7 hs)) (λv s1 zz=>qi zz λd x H1 e1 I1 r1 x1 q1=>?_) (λe s' zz=>qR zz λc e1 m=>⟨c,by rw[e1];rfl,m⟩));rw[e1]at hs|-;obtain⟨_,rfl⟩:=zJ hs;cases q1;obtain⟨t,rfl⟩:=r1;exact neg_int ⟨_,.int _,H1,rfl,I1.tok _,⟨_,rfl⟩,x1,rfl⟩
def Tp(X:Cx)(p:Pm)(pins:List (Addr×Obj))(Y:L2.St)(H:Hp)(r:R Bool)(b:Bool)(s':Shared):Prop:=∃H',r=.ok b/\Inv X pins Y H' s'/\Ext H H'
def ST(X:Cx)(p:Pm)(G:Nat->List D->R D)(sub:Nat->Nat->Bool)(e:QC)(l:T):Prop:=
 ∀(ve:Sem Value)(pins:List (Addr×Obj))(s:Shared)(Y:L2.St)(H:Hp)(Z:Ev.Env)(os:List (List Addr)),(ve=Jw e X.env\/S7 e=Qd)->Inv X pins Y H s->Rel p Z Y os H->qz G sub l Z≠.q9->
  wpAny (model X.prog X.w) X.A (isTrue e X.env ve) (Tp X p pins Y H (qz G sub l Z)) (Er X p pins Y H (qz G sub l Z)) s
def c9(hK:p.K=X.K){x:V}{v:Value}{rr:R Bool}(I:Inv X pins Y H s)(r:RelV x v)(q:j6 p H (fz os.flatten H) d x)(x0:Ext H0 H)(hs:tr d≠.q9)(er:rr=tr d):
  wpAny (model X.prog X.w) X.A (truthy v) (Tp X p pins Y H0 rr) E s:=by
 cases e:tr d with
 |ok b=>
  refine Cn (qAF pins s Y H x v (λb' H'=>b'=b/\H'=H) (I.qn E) r ⟨b,qAE hK e q,rfl,rfl⟩) λb' s' h=>?_;obtain⟨H',I',rfl,rfl⟩:=h;exact⟨H',by rw[er,e],I'.yr,x0⟩
 |err c=>unfold tr at e;split at e<;>cases e
 |q9=>exact absurd e hs
def q9u(hK:p.K=X.K)(he:∀ve,isTrue e X.env ve=(do let v <-ve;standAt e.pos;WD [v] (truthy v)))(hb:S7 e=Qh)(h:SB X p G sub e l):ST X p G sub e (.e l):=by
 intro ve pins s Y H Z os hw I R hs;rcases hw with rfl|hw
 .rw[uL]at hs|-;refine isTrue_plain (Qi (h pins s Y H Z os I R (z7 hs)) (λv s1 zz=>qi zz λd x H1 e1 I1 r1 x1 q1=>?_) (λe s' zz=>qR zz λc e1 m=>⟨c,by rw[e1];rfl,m⟩)) (he _);rw[e1]at hs|-;exact c9 hK I1 r1 q1 x1 hs rfl
 .rw[hb]at hw;cases hw
def q9t{b:QC}{op:CmpOp}(hK:p.K=X.K)(hu:X.A.units+64<cLine)(hm:behindInMarks op b=Qh)(ha:SB X p G sub a la)(hb:SB X p G sub b lb):ST X p G sub (.Compare a [op] [b] pos) (.e (.cm (wh op) la lb)):=by
 intro ve pins s Y H Z os hw I R hs;rw[uL]at hs|-;have two:=Ar (X:=X) ha hb (f:=JG op) (g:=qc (wh op)) (λE pins s Y H os x y v u d e r I t rx ry h1 h2 h=>by obtain⟨r2,k,q⟩:=f9 (X:=X.qn E) hK t hu (wh op) d e r x y h h1 h2;rw[fB]at k;exact k pins s Y H x y v u _ (I.qn E) rx ry q) (eg (wh op)) I R (Rt ..) (z7 hs)
 have er:∀e s',Er X p pins Y H (ev G sub (.cm (wh op) la lb) Z) e s'->Er X p pins Y H ((ev G sub (.cm (wh op) la lb) Z).bind tr) e s':=λe s' zz=>qR zz λc e1 m=>⟨c,by rw[e1];rfl,m⟩
 refine wpAny_isTrue_Compare1 (Qi two (λv s1 h1=>Qi h1 (λu s2 h2=>Qi h2 (λw s3 h3=>?_) er) er) er) hm;refine qi h3 λd x H1 e1 I1 r1 x1 q1=>?_;rw[e1]at hs|-;exact c9 hK I1 r1 (q1.b qu) x1 hs rfl
def q9v{la:T}(ha:ST X p G sub a la):ST X p G sub (.UnaryOp .Not a pos) (.not la):=by intro ve pins s Y H Z os hw I R hs;rw[IF]at hs|-;refine isTrue_not (Qi (ha _ pins s Y H Z os (.inl rfl) I R (z7 hs)) (λb s1 zz=>qV zz λH1 e1 I1 x1=>?_) (λe s' zz=>qR zz λc e1 m=>⟨c,by rw[e1];rfl,m⟩));exact⟨H1,by rw[e1];rfl,I1,x1⟩
def q9s{la:T}(ha:ST X p G sub a la):ST X p G sub (.BoolOp .And [a] pos) la:=by
 intro ve pins s Y H Z os hw I R hs;refine isTrue_and (Qi (ha _ pins s Y H Z os (.inl rfl) I R hs) (λc s1 e=>?_) (λ_ _ z=>z));cases c with
 |true=>exact isTrue_and_nil e
 |false=>exact e
def q9x{la:T}(ha:ST X p G sub a la):ST X p G sub (.BoolOp .Or [a] pos) la:=by
 intro ve pins s Y H Z os hw I R hs;refine isTrue_or (Qi (ha _ pins s Y H Z os (.inl rfl) I R hs) (λc s1 e=>?_) (λ_ _ z=>z));cases c with
 |false=>exact isTrue_or_nil e
 |true=>exact e
def q9r{b:QC}{r:List QC}{la lb:T}(ha:ST X p G sub a la)(hb:ST X p G sub (.BoolOp .And (b::r) pos) lb):ST X p G sub (.BoolOp .And (a::b::r) pos) (.and la lb):=by
 intro ve pins s Y H Z os hw I R hs;rw[IE]at hs|-;refine isTrue_and (Qi (ha _ pins s Y H Z os (.inl rfl) I R (z7 hs)) (λc s1 zz=>qV zz λH1 e1 I1 x1=>?_) (λe s' zz=>qR zz λc e1 m=>⟨c,by rw[e1];rfl,m⟩));rw[e1,qB]at hs|-;cases c with
 |false=>exact⟨H1,rfl,I1,x1⟩
 |true=>
  rw[if_pos rfl]at hs|-;exact Qi (hb _ pins s1 Y H1 Z os (.inr rfl) I1 (R.ext x1) hs) (λc s2 zz=>qV zz λH2 e2 I2 x2=>⟨H2,e2,I2,x1.trans x2⟩) (λe s' zz=>qR zz λc e1 m=>⟨c,e1,m.ext x1⟩)
def q9w{b:QC}{r:List QC}{la lb:T}(ha:ST X p G sub a la)(hb:ST X p G sub (.BoolOp .Or (b::r) pos) lb):ST X p G sub (.BoolOp .Or (a::b::r) pos) (.or la lb):=by
 intro ve pins s Y H Z os hw I R hs;rw[q0s]at hs|-;refine isTrue_or (Qi (ha _ pins s Y H Z os (.inl rfl) I R (z7 hs)) (λc s1 zz=>qV zz λH1 e1 I1 x1=>?_) (λe s' zz=>qR zz λc e1 m=>⟨c,by rw[e1];rfl,m⟩));rw[e1,qB]at hs|-;cases c with
 |true=>exact⟨H1,rfl,I1,x1⟩
 |false=>
  rw[if_neg (by simp)]at hs|-;exact Qi (hb _ pins s1 Y H1 Z os (.inr rfl) I1 (R.ext x1) hs) (λc s2 zz=>qV zz λH2 e2 I2 x2=>⟨H2,e2,I2,x1.trans x2⟩) (λe s' zz=>qR zz λc e1 m=>⟨c,e1,m.ext x1⟩)
def q8d{op:BoolOp}(ha:SE X p G sub a la):SE X p G sub (.BoolOp op [a] pos) la:=λpins s Y H Z os I R hs=>BoolOp_one (ha pins s Y H Z os I R hs)
def Gd.ext{r:R D}(x:Ext H H1)(h:Gd X p pins Y os H1 r u s'):Gd X p pins Y os H r u s':=by refine qi h λd v H' e I rv y q=>?_;exact⟨d,v,H',e,I,rv,x.trans y,q⟩
theorem Er.ext{r:R α}(x:Ext H H1)(h:Er X p pins Y H1 r u s'):Er X p pins Y H r u s':=by obtain⟨c,e,m⟩:=h;exact⟨c,e,m.ext x⟩
theorem Er.bind{r:R α}{f:α->R β}(h:Er X p pins Y H r u s'):Er X p pins Y H (r.bind f) u s':=by obtain⟨c,e,m⟩:=h;exact⟨c,by rw[e];rfl,m⟩
def q8M{b:QC}{r:List QC}(ha:SE X p G sub a la)(hb:SE X p G sub (.BoolOp .And (b::r) pos) lb):SE X p G sub (.BoolOp .And (a::b::r) pos) (.and la lb):=by
 intro pins s Y H Z os I R hs;dsimp only[iK]at hs|-;refine BoolOp_and (Qi (ha pins s Y H Z os I R (z7 hs)) (λv s1 zz=>qi zz λd x H1 e1 I1 r1 x1 q1=>?_) (λe s' z=>z.bind));rw[e1]at hs|-;cases d<;>first
  |cases hs rfl
  |skip
 rename_i c;cases q1;cases r1;refine Yy ?_;cases c with
 |true=>exact Qi (hb pins s1 Y H1 Z os I1 (R.ext x1) hs) (λ_ _ z=>z.ext x1) (λ_ _ z=>z.ext x1)
 |false=>exact⟨_,.bl Qh,H1,rfl,I1,rfl,x1,rfl⟩
def q8f{b:QC}{r:List QC}(ha:SE X p G sub a la)(hb:SE X p G sub (.BoolOp .Or (b::r) pos) lb):SE X p G sub (.BoolOp .Or (a::b::r) pos) (.or la lb):=by
 intro pins s Y H Z os I R hs;dsimp only[q36]at hs|-;refine BoolOp_or (Qi (ha pins s Y H Z os I R (z7 hs)) (λv s1 zz=>qi zz λd x H1 e1 I1 r1 x1 q1=>?_) (λe s' z=>z.bind));rw[e1]at hs|-;cases d<;>first
  |cases hs rfl
  |skip
 rename_i c;cases q1;cases r1;refine Yy ?_;cases c with
 |false=>exact Qi (hb pins s1 Y H1 Z os I1 (R.ext x1) hs) (λ_ _ z=>z.ext x1) (λ_ _ z=>z.ext x1)
 |true=>exact⟨_,.bl Qd,H1,rfl,I1,rfl,x1,rfl⟩
def q8c(hK:p.K=X.K)(ha:SB X p G sub a la):SE X p G sub (.UnaryOp .Not a pos) (.not la):=by intro pins s Y H Z os I R hs;rw[iT]at hs|-;refine UnaryOp_ (Qi (ha pins s Y H Z os I R (z7 hs)) (λv s1 zz=>qi zz λd x H1 e1 I1 r1 x1 q1=>?_) (λe s' z=>z.bind));rw[e1,qB]at hs|-;refine not_of (Cn (c9 hK I1 r1 q1 x1 (z7 hs) rfl) λb s2 zz=>qV zz λH2 e2 I2 x2=>?_);rw[e2];exact⟨_,.bl _,H2,rfl,I2,rfl,x2,rfl⟩
def q8X{c b:QC}(hc:ST X p G sub c lc)(ha:SE X p G sub a la)(hb:SE X p G sub b lb):SE X p G sub (.IfExp c a b pos) (.ite lc la lb):=by
 intro pins s Y H Z os I R hs;rw[D8]at hs|-;refine wpAny_IfExp (Qi (hc _ pins s Y H Z os (.inl rfl) I R (z7 hs)) (λt s1 zz=>qV zz λH1 e1 I1 x1=>?_) (λe s' z=>z.bind));rw[e1,qB]at hs|-;cases t with
 |true=>exact Qi (ha pins s1 Y H1 Z os I1 (R.ext x1) hs) (λ_ _ z=>z.ext x1) (λ_ _ z=>z.ext x1)
 |false=>exact Qi (hb pins s1 Y H1 Z os I1 (R.ext x1) hs) (λ_ _ z=>z.ext x1) (λ_ _ z=>z.ext x1)
def Ga(X:Cx)(p:Pm)(pins:List (Addr×Obj))(Y:L2.St)(os:List (List Addr))(H:Hp)(r:R (List D))(us:List Value)(s':Shared):Prop:=
 ∃ds vs H',r=.ok ds/\Inv X pins Y H' s'/\Vals vs us/\Ext H H'/\qM p (fz os.flatten H') ds vs
def SA(X:Cx)(p:Pm)(G:Nat->List D->R D)(sub:Nat->Nat->Bool)(es:List QC)(l:List L):Prop:=
 ∀(pos:Pos)(pins:List (Addr×Obj))(s:Shared)(Y:L2.St)(H:Hp)(Z:Ev.Env)(os:List (List Addr)),Inv X pins Y H s->Rel p Z Y os H->zg G sub l Z≠.q9->
  wpAny (model X.prog X.w) X.A (Us (UO pos (Q5 es X.env))) (Ga X p pins Y os H (zg G sub l Z)) (Er X p pins Y H (zg G sub l Z)) s
def q01:SA X p G sub [] []:=λ_ _ _ _ H _ _ I _ _=>Q0 ⟨[],[],H,rfl,I,.nil,Ext.refl _,rfl⟩
def q00(ha:SE X p G sub e l)(hr:SA X p G sub es ls)(qX:Q5 (e::es) X.env=(Qh,Jw e X.env)::Q5 es X.env):SA X p G sub (e::es) (l::ls):=by intro pos pins s Y H Z os I R hs;rw[qX];rw[kJ]at hs|-;show wpAny _ _ (Us ((Qh,Jw e X.env)::UO pos (Q5 es X.env))) _ _ s;refine QW (Qi (ha pins s Y H Z os I R (z7 hs)) (λu s1 zz=>qi zz λd x H1 e1 I1 r1 x1 q1=>?_) (λe s' z=>z.bind));rw[e1,qB]at hs|-;refine Qi (hr pos pins s1 Y H1 Z os I1 (R.ext x1) (z7 hs)) (λus s2 zz=>qi zz λds vs H2 e2 I2 r2 x2 q2=>?_) (λe s' z=>(z.ext x1).bind);rw[e2];exact⟨d::ds,x::vs,H2,rfl,I2,.cons r1 r2,x1.trans x2,x,vs,rfl,q1.mono (zO x2),q2⟩
def Ew{a:Addr}(t:Th O H)(n:H a=Qg):fz O (upd H a o) a=Qa o:=wt zr λm=>by obtain⟨u,e⟩:=t a m;rw[n]at e;exact nS e
def q8k(h:SA X p G sub es ls):SE X p G sub (.Tuple es k1 pos) (.qA ls):=by
 intro pins s Y H Z os I R hs;rw[Le]at hs|-;refine wpAny_Tuple_spliced (Qi (h pos pins s Y H Z os I R (z7 hs)) (λus s1 zz=>qi zz λds vs H1 e1 I1 r1 x1 q1=>?_) (λe s' z=>z.bind));rw[e1,qB]at hs|-;have z:ds.length<=big:=by
  by_cases z:ds.length<=big
  .exact z
  .rw[if_neg z]at hs;cases hs rfl
 rw[if_pos z];have z1:vs.length<=QI:=Qx (q1.length▸z) vh;refine⟨by rw[<-r1.length];exact z1,?_⟩;have hf:H1 s1.heap.objs.size=Qg:=I1.qI.fresh (Qs _);refine⟨_,.ref s1.heap.objs.size,upd H1 s1.heap.objs.size (.qA vs),rfl,I1.laid (t':=s1.toks) (λb u e=>Qk _ e) (Qs _) ?_,rfl,x1.trans (Ext.upd hf),?_⟩
 .exact⟨z1,us,r1,⟨_,QH _ rfl,rfl,_,rfl⟩⟩
 .exact⟨_,vs,rfl,zZ.of (Ew (R.ext x1).th hf),z1,q1.mono (zO (Ext.upd hf))⟩
def q8Z(h:SA X p G sub es ls):SE X p G sub (.List es pos) (.q6 ls):=by
 intro pins s Y H Z os I R hs;rw[D9]at hs|-;refine W3 (Qi (h pos pins s Y H Z os I R (z7 hs)) (λus s1 zz=>qi zz λds vs H1 e1 I1 r1 x1 q1=>?_) (λe s' z=>z.bind));rw[e1,qB]at hs|-;have z:ds.length<=big:=by
  by_cases z:ds.length<=big
  .exact z
  .rw[if_neg z]at hs;cases hs rfl
 rw[if_pos z];have z1:vs.length<=QI:=Qx (q1.length▸z) vh;refine⟨by rw[<-r1.length];exact z1,?_⟩;have hf:H1 s1.heap.objs.size=Qg:=I1.qI.fresh (Qs _);refine⟨_,.ref s1.heap.objs.size,upd H1 s1.heap.objs.size (.q6 vs),rfl,I1.laid (t':=s1.toks) (λb u e=>Qk _ e) (Qs _) ?_,rfl,x1.trans (Ext.upd hf),?_⟩
 .exact⟨z1,us,0,r1,QH _ rfl⟩
 .exact⟨_,vs,rfl,qv.of (Ew (R.ext x1).th hf),q1.mono (zO (Ext.upd hf))⟩
end
theorem Aw{H Hf:Hp}{x:Option Sl}{y:Option V}{as:List Addr}(h:yV p H Hf x y as):∀{Z:Ev.Env}{Y:L2.St}{os:List (List Addr)}(i:Nat),kU p H Hf Z Y os->kU p H Hf (Z.set i x) (Y.set i y) (os.set i as)
 |[],_,_,_,_=>trivial
 |_::Z,_,_,0,q=>by refine x6 q λy1 Y' X9 qy qe qf h1 h2=>?_;subst qe qf;exact⟨y,Y',as,qy,rfl,rfl,h,h2⟩
 |_::Z,_,_,i+1,q=>by refine x6 q λy1 Y' X9 qy qe qf h1 h2=>?_;subst qe qf;exact⟨y1,Y'.set i y,X9,qy.set i as,rfl,rfl,h1,Aw h i h2⟩
theorem yk{as:List Addr}:∀{os:List (List Addr)}{i:Nat},b∈(os.set i as).flatten->b∈os.flatten\/b∈as
 |[],i,h=>by simp at h
 |o::os,0,h=>by
  simp at h;rcases h with h|h
  .exact .inr h
  .exact .inl (by simp;exact .inr h)
 |o::os,i+1,h=>by
  simp only[Yi,Jq,QA]at h;rcases h with h|h
  .exact .inl (by simp only[Jq,QA];exact .inl h)
  .rcases yk h with h|h
   .exact .inl (by simp only[Jq,QA];exact .inr h)
   .exact .inr h
theorem CI{as:List Addr}(na:as.Nodup):∀{os:List (List Addr)}{i:Nat},os.flatten.Nodup->(∀a∈as,a∉os.flatten)->(os.set i as).flatten.Nodup
 |[],i,h,_=>by simp
 |o::os,0,h,d=>by simp at h|-;have h2:=QU.mp h;refine QU.mpr ⟨na,h2.2.1,λa ha b hb e=>?_⟩;subst e;exact d a ha (by simp only[Jq,QA];exact .inr hb)
 |o::os,i+1,h,d=>by
  simp at h|-;have h2:=QU.mp h;refine QU.mpr ⟨h2.1,CI na h2.2.1 (λa ha hb=>d a ha (by simp only[Jq,QA];exact .inr hb)),λa ha b hb e=>?_⟩;subst e;rcases yk hb with hb|hb
  .exact h2.2.2 a ha a hb rfl
  .exact d a hb (by simp;exact .inl ha)
structure Bd(p:Pm)(H0:Hp)(O0:List Addr)(Z:Ev.Env)(Y:L2.St)(os:List (List Addr))(H:Hp):Prop where
 rel:Rel p Z Y (os++[O0]) H
 len:os.length=Z.length
 jE:Y.length=Z.length
 ext:Ext H0 H
 new:∀a∈os.flatten,H0 a=Qg
def Bd.mono{p:Pm}(b:Bd p H0 O0 Z Y os H)(x:Ext H H1):Bd p H0 O0 Z Y os H1:=
 ⟨b.rel.ext x,b.len,b.jE,b.ext.trans x,b.new⟩
def xr{A B:List Addr}(h:∀a∈B,a∈A):Ext (fz A H) (fz B H):=λa o e=>by
 unfold fz at e|-;split at e
 .exact nS e
 .rename_i n;rw[if_neg λm=>n (h a m)];exact e
def ye(os:List (List Addr))(O:List Addr):(os++[O]).flatten=os.flatten++O:=by simp
def Lw:Ext (fz (os++[O0]).flatten H) (fz O0 H):=xr λa h=>by rw[ye];exact Ql _ h
def wW(h:i<os.length):(os++[O]).set i as=os.set i as++[O]:=by rw[List.set_append,if_pos h]
def Bd.X3{p:Pm}(b:Bd p H0 O0 Z Y os H)(hi:i<Z.length)(h:Rep p (fz (os++[O0]).flatten H) d v):
  Bd p H0 O0 (Z.set i (Qa (.val d))) (Y.set i (Qa v)) (os.set i []) H:=by
 have sub:∀a∈(os.set i []++[O0]).flatten,a∈(os++[O0]).flatten:=λa ha=>by rw[<-wW (by rw[b.len];exact hi)]at ha;exact(yk ha).elim id λz=>absurd z (by simp)
 have y:Ext (fz (os++[O0]).flatten H) (fz (os.set i []++[O0]).flatten H):=xr sub;refine⟨⟨?_,λa ha=>b.rel.there a (sub a ha),?_⟩,by simp[b.len],by simp[b.jE],b.ext,λa ha=>?_⟩
 .rw[<-wW (by rw[b.len];exact hi)];exact CI Y0 b.rel.nd λa ha=>absurd ha (by simp)
 .have:=Aw (x:=Qa (.val d)) (y:=Qa v) (as:=[]) (⟨rfl,v,rfl,h.mono y⟩) i (RU (Ext.refl H) y b.rel.slots)
  rwa [wW (by rw[b.len];exact hi)]at this
 .exact (yk ha).elim (b.new a) λz=>absurd z (by simp)
def Bd.X2{p:Pm}{y:Option V}(b:Bd p H0 O0 Z Y os H)(hi:i<Z.length):
  Bd p H0 O0 (Z.set i Qg) (Y.set i y) (os.set i []) H:=by
 have sub:∀a∈(os.set i []++[O0]).flatten,a∈(os++[O0]).flatten:=λa ha=>by rw[<-wW (by rw[b.len];exact hi)]at ha;exact(yk ha).elim id λz=>absurd z (by simp)
 have z:Ext (fz (os++[O0]).flatten H) (fz (os.set i []++[O0]).flatten H):=xr sub;refine⟨⟨?_,λa ha=>b.rel.there a (sub a ha),?_⟩,by simp[b.len],by simp[b.jE],b.ext,λa ha=>?_⟩
 .rw[<-wW (by rw[b.len];exact hi)];exact CI Y0 b.rel.nd λa ha=>absurd ha (by simp)
 .have:=Aw (x:=Qg) (y:=y) (as:=[]) rfl i (RU (Ext.refl H) z b.rel.slots)
  rwa [wW (by rw[b.len];exact hi)]at this
 .exact (yk ha).elim (b.new a) λz=>absurd z (by simp)
def Bd.zY{p:Pm}{sl:Sl}(b:Bd p H0 O0 Z Y os H)(hi:i<Z.length)(x:Ext H H1)(nd:as.Nodup)(na:∀a∈as,H a=Qg)
  (th:∀a∈as,∃o,H1 a=Qa o) (h:yV p H1 (fz ((os++[O0]).flatten++as) H1) (Qa sl) (Qa v) as):
  Bd p H0 O0 (Z.set i (Qa sl)) (Y.set i (Qa v)) (os.set i as) H1:=by
 have lt:i<os.length:=by rw[b.len];exact hi
 have sub:∀a∈(os.set i as++[O0]).flatten,a∈(os++[O0]).flatten++as:=λa ha=>by rw[<-wW lt]at ha;exact QA.mpr (yk ha)
 have y:Ext (fz ((os++[O0]).flatten++as) H1) (fz (os.set i as++[O0]).flatten H1):=xr sub;have z:Ext (fz (os++[O0]).flatten H) (fz ((os++[O0]).flatten++as) H1):=λc o e=>by
  unfold fz at e|-;split at e
  .exact nS e
  .rename_i n;rw[if_neg λm=>?_]
   .exact x _ _ e
   .rcases QA.mp m with m|m
    .exact n m
    .rw[na c m]at e;exact nS e
 have dis:∀a∈as,a∉(os++[O0]).flatten:=λa ha hb=>by obtain⟨o,e⟩:=b.rel.there a hb;rw[na a ha]at e;exact nS e
 refine⟨⟨?_,λa ha=>?_,?_⟩,by simp[b.len],by simp[b.jE],b.ext.trans x,λa ha=>?_⟩
 .rw[<-wW lt];exact CI nd b.rel.nd dis
 .rcases QA.mp (sub a ha)with m|m
  .obtain⟨o,e⟩:=b.rel.there a m;exact⟨o,x _ _ e⟩
  .exact th a m
 .have:=Aw (bS (Ext.refl H1) y h) i (RU x (z.trans y) b.rel.slots)
  rwa [wW lt]at this
 .rcases yk ha with m|m
  .exact b.new a m
  .cases e:H0 a with
   |none=>rfl
   |some o=>have:=b.ext a o e;rw[na a m]at this;exact nS this
def FlR(p:Pm)(H0:Hp)(O0:List Addr)(H:Hp):F->Flow->Prop
 |.nx,.next=>True
 |.brk,.brk=>True
 |.cont,.cont=>True
 |.ret d,.ret u=>∃v,RelV v u/\Rep p (fz O0 H) d v
 |.wU d,.ret u=>∃a m,u=.ref a/\d=yZ m/\H0 a=Qg/\yv p H (fz (a::O0) H) a m
 |_,_=>False
section
variable{p:Pm}
def Es(X:Cx)(p:Pm)(H0:Hp)(O0:List Addr)(pins:List (Addr×Obj))(r:RS)(e:Value)(s':Shared):Prop:=
 ∃c ρ' Y' qy H',r=.err c ρ'/\Bd p H0 O0 ρ' Y' qy H'/\wA X p pins Y' H' c e s'
def Gs(X:Cx)(p:Pm)(H0:Hp)(O0:List Addr)(pins:List (Addr×Obj))(r:RS)(f:Flow)(s':Shared):Prop:=
 ∃ρ' fl Y' qy H',r=.ok ρ' fl/\Bd p H0 O0 ρ' Y' qy H'/\Inv X pins Y' H' s'/\FlR p H0 O0 H' fl f
def SS(X:Cx)(p:Pm)(G:Nat->List D->R D)(sub:Nat->Nat->Bool)(st:Stmt)(l:S):Prop:=
 ∀(H0:Hp)(O0:List Addr)(E:NZ),PassesOwn (model X.prog X.w) X.A X.env E->∀(pins:List (Addr×Obj))(s:Shared)(Y:L2.St)(H:Hp)(Z:Ev.Env)(os:List (List Addr)),Inv X pins Y H s->Bd p H0 O0 Z Y os H->
  ex G sub l Z≠.q9->(∀e s',Es X p H0 O0 pins (ex G sub l Z) e s'->E e s')->wpAny (model X.prog X.w) X.A (exec st X.env) (Gs X p H0 O0 pins (ex G sub l Z)) E s
def wb(X:Cx)(p:Pm)(G:Nat->List D->R D)(sub:Nat->Nat->Bool)(st:List Stmt)(l:List S):Prop:=
 ∀(H0:Hp)(O0:List Addr)(E:NZ),PassesOwn (model X.prog X.w) X.A X.env E->∀(pins:List (Addr×Obj))(s:Shared)(Y:L2.St)(H:Hp)(Z:Ev.Env)(os:List (List Addr)),Inv X pins Y H s->Bd p H0 O0 Z Y os H->
  qN G sub l Z≠.q9->(∀e s',Es X p H0 O0 pins (qN G sub l Z) e s'->E e s')->wpAny (model X.prog X.w) X.A (execs st X.env) (Gs X p H0 O0 pins (qN G sub l Z)) E s
def zx{r:R α}{f:α->RS}(h:r.go Z f≠.q9):r≠.q9:=λe=>h (by rw[e];rfl)
def jn{r:R α}{f:α->RS}{e:Value}(B:Bd p H0 O0 Z Y os H)(h:Er X p pins Y H r e s'):Es X p H0 O0 pins (r.go Z f) e s':=by obtain⟨c,e1,m⟩:=h;exact⟨c,Z,Y,os,H,by rw[e1];rfl,B,m⟩
def q9q:wb X p G sub [] []:=λH0 O0 E _ pins s Y H Z os I B _ _=>Va ⟨Z,.nx,Y,os,H,rfl,B,I,trivial⟩
def q9p{st:Stmt}{IA:List Stmt}{l:S}{ls:List S}(h1:SS X p G sub st l)(h2:wb X p G sub IA ls):wb X p G sub (st::IA) (l::ls):=by
 intro H0 O0 E hp pins s Y H Z os I B hs hE;have e0:qN G sub (l::ls) Z=(ex G sub l Z).nx λρ'=>qN G sub ls ρ':=rfl;rw[e0]at hs hE|-;have ns:ex G sub l Z≠.q9:=λe=>hs (by rw[e];rfl);refine wpAny_execs_cons (Cn (h1 H0 O0 E hp pins s Y H Z os I B ns (λe s'⟨c,ρ',Y',qy,H',e1,B1,m⟩=>hE e s' ⟨c,ρ',Y',qy,H',by rw[e1];rfl,B1,m⟩)) λf s1 q=>?_);refine Rr q λρ1 fl σ1 xV H1 e1 B1 I1 r1=>?_;rw[e1]at hs hE|-;cases fl<;>cases f<;>first|exact r1.elim|skip
 .exact h2 H0 O0 E hp pins s1 σ1 H1 ρ1 xV I1 B1 hs hE
 all_goals exact⟨_,_,σ1,xV,H1,rfl,B1,I1,r1⟩
def q9T(he:SE X p G sub e l)(y9:Y1 e Qg pos.line X.env=pure Qh):SS X p G sub (.Expr e pos) (.expr l):=by intro H0 O0 E hp pins s Y H Z os I B hs hE;have e0:ex G sub (.expr l) Z=(ev G sub l Z).go Z λ_=>.ok Z .nx:=rfl;rw[e0]at hs hE|-;refine Wm (Qi (he pins s Y H Z _ I B.rel (zx hs)) (λv s1 zz=>qi zz λd x H1 e1 I1 r1 x1 q1=>?_) (λe s' z=>hE e s' (jn B z))) I.quiet y9;rw[e1];exact⟨Z,.nx,Y,os,H1,rfl,B.mono x1,I1,trivial⟩
def q9a(he:SE X p G sub e l):SS X p G sub (.Return (Qa e) pos) (.ret l):=by intro H0 O0 E hp pins s Y H Z os I B hs hE;have e0:ex G sub (.ret l) Z=(ev G sub l Z).go Z λd=>.ok Z (.ret d):=rfl;rw[e0]at hs hE|-;refine Vw (Qi (he pins s Y H Z _ I B.rel (zx hs)) (λv s1 zz=>qi zz λd x H1 e1 I1 r1 x1 q1=>?_) (λe s' z=>hE e s' (jn B z)));rw[e1];exact⟨Z,.ret d,Y,os,H1,rfl,B.mono x1,I1,x,r1,q1.mono Lw⟩
def q9W{c:QC}{a b:List Stmt}{la lb:List S}(hc:ST X p G sub c lc)(ha:wb X p G sub a la)(hb:wb X p G sub b lb):SS X p G sub (.If c a b pos) (.ifs lc la lb):=by
 intro H0 O0 E hp pins s Y H Z os I B hs hE;have e0:ex G sub (.ifs lc la lb) Z=(qz G sub lc Z).go Z λt=>if t then qN G sub la Z else qN G sub lb Z:=rfl
 rw[e0]at hs hE|-;refine wpAny_If (Qi (hc _ pins s Y H Z _ (.inl rfl) I B.rel (zx hs)) (λt s1 zz=>qV zz λH1 e1 I1 x1=>?_) (λe s' z=>hE e s' (jn B z)));rw[e1,qF]at hs hE|-;cases t with
 |true=>exact ha H0 O0 E hp pins s1 Y H1 Z os I1 (B.mono x1) hs hE
 |false=>exact hb H0 O0 E hp pins s1 Y H1 Z os I1 (B.mono x1) hs hE
def q9d(hN:X.N.Nodup)(hi:X.N[i]?=Qa x)(hx:Loc X.env.scope x)(hf:X.fn x=Qd\/X.env.scope.names.lookup x=Qa .local)(he:SE X p G sub e l)
  (y9:Y1 e (Qa (.Name x jK)) pos.line X.env=pure Qh):SS X p G sub (.Assign [.Name x jK] e pos) (.set i l):=by
 intro H0 O0 E hp pins s Y H Z os I B hs hE;have e0:ex G sub (.set i l) Z=(ev G sub l Z).go Z λd=>.ok (Z.set i (Qa (.val d))) .nx:=rfl;rw[e0]at hs hE|-;refine YA (Qi (he pins s Y H Z _ I B.rel (zx hs)) (λv s1 zz=>qi zz λd y H1 e1 I1 r1 x1 q1=>?_) (λe s' z=>hE e s' (jn B z))) y9;rw[e1];exact wY I1 hN hi hx r1 (λs2 I2=>⟨_,.nx,_,_,H1,rfl,(B.mono x1).X3 (by rw[<-B.jE,I.len];exact(Qj.mp hi).1) q1,I2,trivial⟩) hf
def BOk.Cv{pl:List (Addr×Obj)}{B:Heap}(b:BOk X (pins++pl) H B):BOk X pins H B:=
 ⟨b.qI,b.keep,b.there,λq hq=>b.pin q ((QA.mp hq).elim (λz=>QD _ z) λz=>Ql _ (QD _ z))⟩
theorem wA.Cv{pl:List (Addr×Obj)}{c:Nat}{e:Value}(m:wA X p (pins++pl) Y H c e s'):wA X p pins Y H c e s':=by
 obtain⟨H',a,C,h1,h2,h3,h4⟩:=m;refine⟨H',a,C,h1,h2,h3,?_⟩;rcases h4 with⟨s1,vs,q1,q2⟩|⟨B,t,q1,q2,q3⟩|⟨B,t,L,q0,q1,q2,q3⟩
 .exact .inl ⟨s1,vs,q1.w5,q2⟩
 .exact .inr (.inl ⟨B,t,q1.w5,q2.Cv,q3⟩)
 .exact .inr (.inr ⟨B,t,L,q0,q1.w5,q2.Cv,q3⟩)
def q9l{lb:List S}{c:QC}(hc:ST X p G sub c lc)(hb:wb X p G sub body lb):SS X p G sub (.While c body [] pos) (.whl lc lb):=by
 intro H0 O0 E hp pins s Y H Z os I B hs hE;have e0:ex G sub (.whl lc lb) Z=uM (qz G sub lc) (qN G sub lb) 100000 Z:=rfl;rw[e0]at hs hE|-;generalize hr:uM (qz G sub lc) (qN G sub lb) 100000 Z=r at hs hE|-;refine wpAny_While (codeAny_whileLoop (λn s'=>∃ρ' Y' qy H',Inv X pins Y' H' s'/\Bd p H0 O0 ρ' Y' qy H'/\uM (qz G sub lc) (qN G sub lb) n ρ'=r) ?_ 100000 ⟨Z,Y,os,H,I,B,hr⟩);rintro n s1 ⟨ρ1,σ1,xV,H1,I1,B1,w1⟩;cases n with
 |zero=>exact absurd w1.symm hs
 |succ n=>
  have w2:uM (qz G sub lc) (qN G sub lb) (n+1) ρ1=(qz G sub lc ρ1).go ρ1 λt=>if t then(qN G sub lb ρ1).turn λρ'=>uM (qz G sub lc) (qN G sub lb) n ρ' else .ok ρ1 .nx:=rfl
  rw[w2]at w1;have ns:qz G sub lc ρ1≠.q9:=λe=>hs (by rw[<-w1,e];rfl);refine YX hp (Qi (hc _ pins s1 σ1 H1 ρ1 _ (.inl rfl) I1 B1.rel ns) (λt s2 zz=>qV zz λH2 e2 I2 x2=>?_) (λe s' z=>hE e s' (by rw[<-w1];exact jn B1 z)));rw[e2,qF]at w1;cases t with
  |true=>
   rw[if_pos rfl]at w1|-;have ns:qN G sub lb ρ1≠.q9:=λe=>hs (by rw[<-w1,e];rfl);refine YX hp (Cn (hb H0 O0 E hp pins s2 σ1 H2 ρ1 xV I2 (B1.mono x2) ns (λe s'⟨c,ρ',Y',qy,H',e1,B1,m⟩=>hE e s' ⟨c,ρ',Y',qy,H',by rw[<-w1,e1];rfl,B1,m⟩)) λf s3 q3=>?_);refine Rr q3 λρ3 fl σ3 Xn H3 e3 B3 I3 r3=>?_;rw[e3]at w1;cases fl<;>cases f<;>first|exact r3.elim|skip
   .exact⟨n,Yg _,ρ3,σ3,Xn,H3,I3,B3,w1⟩
   .exact⟨ρ3,.nx,σ3,Xn,H3,w1.symm,B3,I3,trivial⟩
   .exact⟨n,Yg _,ρ3,σ3,Xn,H3,I3,B3,w1⟩
   .exact⟨ρ3,_,σ3,Xn,H3,w1.symm,B3,I3,r3⟩
   .exact⟨ρ3,_,σ3,Xn,H3,w1.symm,B3,I3,r3⟩
  |false=>
   rw[if_neg Wf]at w1|-;exact Va ⟨ρ1,.nx,σ1,xV,H2,w1.symm,B1.mono x2,I2,trivial⟩
end
structure Wk(J:It)(Hf:Hp)(vs:List V):Prop where
 go:∀i H',Ext Hf H'->i<vs.length->J.go i H'
 X7:∀i H' x uO,Ext Hf H'->i<vs.length->J.X7 i H' x uO->uO=H'/\vs[i]?=Qa x
 stop:∀H',Ext Hf H'->J.stop vs.length H'
def Wk.mono(k:Wk J Hf vs)(x:Ext Hf k9):Wk J k9 vs:=
 ⟨λi H' y=>k.go i H' (x.trans y),λi H' v uO y=>k.X7 i H' v uO (x.trans y),λH' y=>k.stop H' (x.trans y)⟩
def qAa{a:Addr}(h:qv K Hf a vs):Wk (cZ K a) Hf vs:=
 ⟨λi H' x hi=>⟨vs,vs[i],x.wX h,by simp[hi]⟩,λi H' v uO x _ y=>⟨y.1,y.2 vs (x.wX h)⟩,λH' x=>⟨vs,x.wX h,Qs _⟩⟩
def qAc{a:Addr}(h:zZ K Hf a vs):Wk (cb K a) Hf vs:=
 ⟨λi H' x hi=>⟨vs,vs[i],x.jT h,by simp[hi]⟩,λi H' v uO x _ y=>⟨y.1,y.2 vs (x.jT h)⟩,λH' x=>⟨vs,x.jT h,Qs _⟩⟩
def q18(lo:Int)(n:Nat):Wk (Fd lo n) Hf ((Qt n).map λ(k:Nat)=>V.int (lo+k)):=by
 refine⟨λi H' _ hi=>?_,λi H' v uO _ hi y=>⟨y.1,?_⟩,λH' _=>?_⟩
 .show i<n;simpa using hi
 .
  rw[y.2];simp[(by simpa using hi)]
 .show n<=_;simp
def IT(d:Addr)(o:Obj)(kvs:List (Key×V)):It:=
 ⟨λi H=>H d=Qa (.frz o (.dK kvs))/\i<kvs.length,λi H x H'=>H'=H/\∃q,kvs[i]?=Qa q/\x=kV q.1,λi H=>H d=Qa (.frz o (.dK kvs))/\kvs.length<=i⟩
def qAZ{d:Addr}{o:Obj}(h:Hf d=Qa (.frz o (.dK kvs))):Wk (IT d o kvs) Hf (kvs.map λq=>kV q.1):=by refine⟨λi H' x hi=>⟨x _ _ h,by simpa using hi⟩,λi H' v uO x _ y=>⟨y.1,?_⟩,λH' x=>⟨x _ _ h,by simp⟩⟩;obtain⟨q,e1,e2⟩:=y.2;rw[QJ,e1,e2];rfl
def nT(h:(kq P w).is k u=Qd):RelV (kV k) u:=by
 rcases uC h with⟨i,t,rfl,rfl⟩|⟨x,t,rfl,rfl⟩
 .exact⟨t,rfl⟩
 .exact⟨t,rfl⟩
def Lv{d:Addr}{o:Obj}(ok:zW P w H h)(e:H d=Qa (.frz o (.dK kvs))):
  kvs.length<=QI/\(d==J1)=Qh/\∃vs es ep,KV kvs vs/\o.data=.dict es ep/\h.DictAt (kq P w) d vs ep:=by
 obtain⟨h1,z,hd,vs,rel,o',es,ep,h2,h3,h4,h5,h6,h7⟩:=ok d _ e;rw[h1]at h2;cases h2;exact⟨z,hd,vs,es,ep,rel,h4,o,es,h1,h3,h4,h5,h6,h7⟩
def KV.key{vs:List (Key×Value)}(r:KV kvs vs){q:Key×V}(e:kvs[i]?=Qa q):∃u,vs[i]?=Qa (q.1,u):=by
 induction r generalizing i with
 |nil=>simp at e
 |@cons p p' ps ps' h t ih=>
  cases i with
  |zero=>simp at e;subst e;exact⟨p'.2,by simp[h.1]⟩
  |succ i=>simpa using ih (by simpa using e)
def qAN{tg:Expr}{d:Addr}{o:Obj}{es:Array DictEntry}{ep:Nat}(hd:o.data=.dict es ep):
  Turn P w K tg (IT d o kvs) [it] it (λi h=>h.IsKeyIter it d i kvs.length ep)where
 mem:=by simp
 obj:=λi h st b hb=>by
  have e:b=it:=by simpa using hb
  subst e;refine qV st λo e c d=>?_;exact⟨o,e,λv z=>by rw[d]at z;cases z⟩
 keep:=λi h h' st k=>st.at λo e=>k it (by simp) o e
 item:=by intro X hP hw hK hc i pins s Y H E I hf st hg;subst hP hw hK;obtain⟨hq,hi⟩:=hg;obtain⟨z,wM,vs,zX,wm,rel,dd,hm⟩:=Lv I.qI hq;rw[hd]at dd;cases dd;have hl:=KV.length rel;obtain⟨u,hu⟩:=KV.key rel (i:=i) (q:=kvs[i]) (by simp[hi]);refine je (hf it (by simp)) λf0 f1 f2 f3 f4 f5=>?_;refine wpAny_pyNext_dict_item (hl▸st) hm hu λkey h' q4L jz sb=>?_;have I1:Inv X pins Y H {s with heap:=h'}:=I.turned (t':=s.toks) (λb o hb e=>(sb.2 b hb).trans e) f0 f1 f3 f4 f5;refine qV (id jz) λo1 e c d1=>?_;exact⟨key,rfl,DH (s:={s with heap:=h'}) e c d1 (by decide) ⟨kV (kvs[i]).1,H,I1,nT q4L,⟨rfl,_,by simp[hi],rfl⟩,hl▸jz,λb hb=>(hf b hb).1⟩⟩
 done:=by intro X hP hw hK hc i pins s Y H E I hf st hg;subst hP hw hK;obtain⟨hq,hi⟩:=hg;obtain⟨z,wM,vs,zX,wm,rel,dd,hm⟩:=Lv I.qI hq;rw[hd]at dd;cases dd;have hl:=KV.length rel;refine je (hf it (by simp)) λf0 f1 f2 f3 f4 f5=>?_;exact wpAny_pyNext_dict_end (I.ok.hd hc) (hl▸st) hm (by rw[Yk];lia) λh' eb=>⟨rfl,I.turned (t':=s.toks) (λb o hb e=>eb b o hb e) f0 f1 f3 f4 f5⟩
 self:=λ_ _ _ _ _ st h=>wpAny_pyIter_keyiter st h
def Gi(X:Cx)(p:Pm)(fr:Bool)(tg:Expr)(pins:List (Addr×Obj))(Y:L2.St)(os:List (List Addr))(H:Hp)(r:R (List D))(uB:Value)(s2:Shared):Prop:=
 ∃ds,r=.ok ds/\cu X pins Y tg (λJ H'=>Ext H H'/\∃vs,qM p (fz os.flatten H') ds vs/\Wk J (if fr then fz os.flatten H' else H') vs) uB s2
def SI(X:Cx)(p:Pm)(G:Nat->List D->R D)(sub:Nat->Nat->Bool)(fr:Bool)(tg e:QC)(l:I):Prop:=
 ∀(pins:List (Addr×Obj))(s:Shared)(Y:L2.St)(H:Hp)(Z:Ev.Env)(os:List (List Addr)),Inv X pins Y H s->Rel p Z Y os H->j8 G sub l Z≠.q9->
  wpAny (model X.prog X.w) X.A (Jw e X.env) (λv s1=>wpAny (model X.prog X.w) X.A (pyIter v) (Gi X p fr tg pins Y os H (j8 G sub l Z)) (Er X p pins Y H (j8 G sub l Z)) s1) (Er X p pins Y H (j8 G sub l Z)) s
section
variable{p:Pm}
theorem SH{Hf:Hp}:∀{kvs:List (Key×V)},(ints? (kvs.map λq=>zi q.1)).isSome=Qd->qM p Hf (kvs.map λq=>zi q.1) (kvs.map λq=>kV q.1)
 |[],_=>rfl
 |(.inl i,v)::r,h=>by refine⟨.int i,_,rfl,rfl,SH ?_⟩;have h':((ints? (r.map λq=>zi q.1)).map (i::·)).isSome=Qd:=h;simpa using h'
 |(.inr x,v)::r,h=>by simp[zi,ints?]at h
def nZ{fr:Bool}{tg:Expr}(hK:p.K=X.K)(I:Inv X pins Y H s)(x0:Ext H0 H)(rv:RelV v u)
  (q:Rep p (fz os.flatten H) (.qA xs) v):wpAny (model X.prog X.w) X.A (pyIter u) (Gi X p fr tg pins Y os H0 (.ok xs)) E s:=by
 refine zK q λa vs zz s1 z r1=>?_;subst zz;cases rv;refine qV (I.tuple (hK▸qu.jT s1)) λits rv pt hz=>?_;refine wpAny_pyIter_tuple pt ?_;refine⟨xs,rfl,s.heap.objs.size,[s.heap.objs.size],_,_,H,rfl,I.kept (t':=s.toks) λb o e=>Qk _ e,qAR a _,⟨_,QH _ rfl,rfl,rfl⟩,λb hb=>?_,x0,vs,r1,?_⟩
 .have e:b=s.heap.objs.size:=by simpa using hb
  subst e;exact I.xC (Qs _) (I.qI.fresh (Qs _))
 .have:=qAc (hK▸s1:zZ X.K (fz os.flatten H) a vs);cases fr
  .exact this.mono qu
  .exact this
def nY{fr:Bool}{tg:Expr}(hK:p.K=X.K)(I:Inv X pins Y H s)(x0:Ext H0 H)(rv:RelV v u)
  (q:∃a vs,v=.ref a/\qv p.K (if fr then fz os.flatten H else H) a vs/\qM p (fz os.flatten H) xs vs):wpAny (model X.prog X.w) X.A (pyIter u) (Gi X p fr tg pins Y os H0 (.ok xs)) E s:=by
 refine qL q λa vs zz s1 r1=>?_;subst zz;cases rv;have RN:qv X.K H a vs:=by
  cases fr
  .exact hK▸s1
  .exact hK▸qu.wX s1
 refine qV (I.list RN) λits rv pt hz=>?_;refine UP pt.isList ?_;refine⟨xs,rfl,s.heap.objs.size,[s.heap.objs.size],_,_,H,rfl,I.kept (t':=s.toks) λb o e=>Qk _ e,qAO a _,⟨_,QH _ rfl,rfl,rfl⟩,λb hb=>?_,x0,vs,r1,?_⟩
 .have e:b=s.heap.objs.size:=by simpa using hb
  subst e;exact I.xC (Qs _) (I.qI.fresh (Qs _))
 .exact qAa (hK▸s1)
def q5C{tg:Expr}{ks ws:List D}(I:Inv X pins Y H s)(x0:Ext H0 H)(rv:RelV v u)(XR:(ints? ks).isSome=Qd)
  (q:Rep p (fz os.flatten H) (.qJ ks ws) v):wpAny (model X.prog X.w) X.A (pyIter u) (Gi X p Qd tg pins Y os H0 (.ok ks)) E s:=by
 obtain⟨a,kvs,o,rfl,s1,rfl,r1⟩:=q;cases rv;obtain⟨z,hd,vs,es,ep,rel,dd,hm⟩:=Lv I.qI (qu _ _ s1);refine wpAny_pyIter_dict hd hm ?_;refine⟨_,rfl,s.heap.objs.size,[s.heap.objs.size],_,IT a o kvs,H,rfl,I.kept (t':=s.toks) λb o e=>Qk _ e,qAN dd,⟨_,QH _ rfl,rfl,by rw[(KV.length rel)];rfl⟩,λb hb=>?_,x0,_,SH XR,qAZ s1⟩;have e:b=s.heap.objs.size:=by simpa using hb
 subst e;exact I.xC (Qs _) (I.qI.fresh (Qs _))
def q0F(hK:p.K=X.K)(h:SE X p G sub e l):SI X p G sub Qd tg e (.e l):=by
 intro pins s Y H Z os I R hs;rw[yc]at hs|-;refine Qi (h pins s Y H Z os I R (z7 hs)) (λv s1 zz=>qi zz λd x H1 e1 I1 r1 x1 q1=>?_) (λe s' z=>z.bind);rw[e1,qB]at hs|-;cases d<;>first
  |cases hs rfl
  |skip
 .exact nZ hK I1 x1 r1 q1
 .exact nY hK I1 x1 r1 q1
 .rename_i ks ws;cases XR:(ints? ks).isSome with
  |true=>
   have e0:j9 (.qJ ks ws)=.ok ks:=(by simp[j9,XR]);rw[e0];exact q5C I1 x1 r1 XR q1
  |false=>exact absurd (by simp[j9,XR]) hs
def q8y(hK:p.K=X.K)(hN:X.N[i]?=Qa x)(hv:kA X.env.scope x)(hd:(x==("__debug__":Str))=Qh)(z8:(x==("__classdict__":Str))=Qh):SI X p G sub Qh tg (.Name x pos) (.b i):=by
 intro pins s Y H Z os I R hs;rw[iX]at hs|-;refine Qi (q02 (G:=G) (sub:=sub) hN hv hd z8 pins s Y H Z os I R (z7 hs)) (λv s1 zz=>qi zz λd x H1 e1 I1 r1 x1 q1=>?_) (λe s' z=>z.bind);rw[iM]at e1;rw[e1]at hs|-;cases d<;>first
  |cases hs rfl
  |skip
 .exact nZ hK I1 x1 r1 q1
 .exact nY (fr:=Qh) hK I1 x1 r1 q1
theorem Am{Hf:Hp}(lo:Int):∀(l:List Nat),qM p Hf (l.map λ(k:Nat)=>D.int (lo+k)) (l.map λ(k:Nat)=>V.int (lo+k))
 |[]=>rfl
 |k::l=>⟨_,_,rfl,rfl,Am lo l⟩
def tW(n:Nat):(Qt n).map (λ(k:Nat)=>D.int k)=(Qt n).map (λ(k:Nat)=>D.int (0+k)):=by simp
theorem Lf{Z:Ev.Env}:∀{ls:List L}{ds:List D},zg G sub ls Z=.ok ds->ds.length=ls.length
 |[],ds,e=>by cases e;rfl
 |l::ls,ds,e=>by
  rw[kJ]at e;cases h:ev G sub l Z with
  |ok d=>
   rw[h]at e;cases h2:zg G sub ls Z with
   |ok zE=>rw[h2,qB]at e;cases e;simp[Lf h2]
   |err c=>rw[h2]at e;cases e
   |q9=>rw[h2]at e;cases e
  |err c=>rw[h]at e;cases e
  |q9=>rw[h]at e;cases e
def bP(hg:Gl X "range")(hm:X.mg "range"=Qg)(ha:SA X p G sub [a] [l])(qX:Q5 [a] X.env=[(Qh,Jw a X.env)]):SI X p G sub Qd tg (.Call (.Name "range" q) [a] [] pos) (.rng [l]):=by
 intro pins s Y H Z os I R hs;rw[wI]at hs|-;refine Call_ (jr I hg hm boot_range (Q2 (Qi (ha pos pins s Y H Z os I R (z7 hs)) (λus s1 zz=>qi zz λds vs H1 e1 I1 r1 x1 q1=>?_) (λe s' z=>z.bind)) qX rfl));have hl:=Lf e1;rw[e1,qB]at hs|-;unfold wV at hs|-;split at hs
 .rename_i j;split at hs
  .rename_i hj;refine qL q1 λv r zz h1 h2=>?_;subst zz;cases h1;cases h2;cases r1 with
   |cons ra rb=>
    cases rb;obtain⟨t,rfl⟩:=ra;rw[if_pos hj];refine call_range_1 (Qi (tJ (tg:=tg) (R:=λJ H'=>H'=H1/\J=Fd 0 j.toNat) (E:=λ_ _=>False) I1 ∅ ∅ hj.1 hj.2 ⟨rfl,by simp⟩) (λuB s2 h=>?_) (λ_ _ z=>z.elim));obtain⟨it,fp,tn,J,H',e2,I2,T,st,f,rfl,rfl⟩:=h;refine⟨_,rfl,it,fp,tn,_,H',e2,I2,T,st,f,x1,_,?_,(q18 0 j.toNat)⟩;rw[tW];exact Am 0 _
  .cases hs rfl
 .simp at hl
 .cases hs rfl
def q0J{b:QC}{m:L}(hg:Gl X "range")(hm:X.mg "range"=Qg)(ha:SA X p G sub [a,b] [l,m])(qX:Q5 [a,b] X.env=[(Qh,Jw a X.env),(Qh,Jw b X.env)])(xy:Q5 [b] X.env=[(Qh,Jw b X.env)]):
  SI X p G sub Qd tg (.Call (.Name "range" q) [a,b] [] pos) (.rng [l,m]):=by
 intro pins s Y H Z os I R hs;rw[wI]at hs|-;refine Call_ (jr I hg hm boot_range (Q2 (Qi (ha pos pins s Y H Z os I R (z7 hs)) (λus s1 zz=>qi zz λds vs H1 e1 I1 r1 x1 q1=>?_) (λe s' z=>z.bind)) (by rw[qX,xy]) (by rw[xy];rfl)));have hl:=Lf e1;rw[e1,qB]at hs|-;unfold wV at hs|-;split at hs
 .simp at hl
 .rename_i i j;split at hs
  .rename_i hj;refine qL q1 λv r zz h1 h2=>?_;subst zz;refine qL h2 λv2 r2 zz h3 h4=>?_;subst zz;cases h1;cases h3;cases h4;cases r1 with
   |cons ra rb=>
    cases rb with
    |cons rc rd=>
    cases rd;obtain⟨t,rfl⟩:=ra;obtain⟨t',rfl⟩:=rc;rw[if_pos hj];refine call_range_2 (Qi (tJ (tg:=tg) (R:=λJ H'=>H'=H1/\J=Fd i (j-i).toNat) (E:=λ_ _=>False) I1 hj.1 hj.2.1 hj.2.2.1 hj.2.2.2 ⟨rfl,rfl⟩) (λuB s2 h=>?_) (λ_ _ z=>z.elim));obtain⟨it,fp,tn,J,H',e2,I2,T,st,f,rfl,rfl⟩:=h;exact⟨_,rfl,it,fp,tn,_,H',e2,I2,T,st,f,x1,_,Am i _,(q18 i (j-i).toNat)⟩
  .cases hs rfl
 .cases hs rfl
def SG(X:Cx)(p:Pm)(tg:QC)(k:Nat)(is:List Nat):Prop:=
 ∀(E:NZ)(H0:Hp)(O0:List Addr)(pins:List (Addr×Obj))(s:Shared)(Y:L2.St)(H:Hp)(Z:Ev.Env)(os:List (List Addr))(d:D)(xs:List D)(v:V)(u:Value),Inv X pins Y H s->Bd p H0 O0 Z Y os H->RelV v u->
  Rep p (fz (os++[O0]).flatten H) d v->kG k d=.ok xs->wpAny (model X.prog X.w) X.A (VB tg X.env u) (λ_ s'=>∃Y' qy,Inv X pins Y' H s'/\Bd p H0 O0 (uI is xs Z) Y' qy H) E s
def q8v(hN:X.N.Nodup)(hi:X.N[i]?=Qa x)(hx:Loc X.env.scope x)(hf:X.fn x=Qd\/X.env.scope.names.lookup x=Qa .local):SG X p (.Name x pos) 0 [i]:=by intro E H0 O0 pins s Y H Z os d xs v u I B rv q e;cases e;exact UL (wY I hN hi hx rv (λs2 I2=>⟨_,_,I2,B.X3 (by rw[<-B.jE,I.len];exact(Qj.mp hi).1) q⟩) hf)
def q0D(hK:p.K=X.K)(hc:X.calm=Qd)(hN:X.N.Nodup)(hi:X.N[i]?=Qa x)(hx:Loc X.env.scope x)(hf:X.fn x=Qd\/X.env.scope.names.lookup x=Qa .local)
  (hj:X.N[j]?=Qa y) (hy:Loc X.env.scope y) (hf2:X.fn y=Qd\/X.env.scope.names.lookup y=Qa .local):SG X p (.Tuple [.Name x px,.Name y py] k1 pos) 2 [i,j]:=by
 intro E H0 O0 pins s Y H Z os d xs v u I B rv q e;cases d<;>first
  |(exfalso;unfold kG at e;rw[if_neg (by decide)]at e;cases e;done)
  |skip
 rename_i ds;unfold kG at e;rw[if_neg (by decide)]at e;dsimp only at e;split at e
 .rename_i hl;cases e;refine zK q λa vs zz s1 z r1=>?_;subst zz;obtain⟨d1,d2,rfl⟩:∃d1 d2,xs=[d1,d2]:=by
   match xs,hl with
   |[d1,d2],_=>exact⟨d1,d2,rfl⟩
  .refine qL r1 λv1 r zz q1 h2=>?_;subst zz;refine qL h2 λv2 r2 zz q2 h4=>?_;subst zz;cases h4;have lt:i<Z.length:=(by rw[<-B.jE,I.len];exact(Qj.mp hi).1);refine Qi (sW (X:=X.qn E) (n:=2) hc (Ac (Ab (X:=X.qn E) hN hi hx hf) (Ac (Ab (X:=X.qn E) hN hj hy hf2) sX rfl) rfl) rfl rfl pins s Y H (.ref a) u (λY' H'=>H'=H/\Y'=(Y.set i (Qa v1)).set j (Qa v2)) (I.qn E) rv
    ⟨a,[v1,v2],rfl,hK▸qu.jT s1,rfl,v1,[v2],rfl,v2,[],rfl,rfl,rfl,rfl⟩) (λ_ s' h=>?_) (λ_ _ z=>z)
   refine qL h λY' H' I' qe qf=>?_;subst qe qf;have sub:∀a∈(os.set i []++[O0]).flatten,a∈(os++[O0]).flatten:=λa ha=>by rw[<-wW (by rw[B.len];exact lt)]at ha;exact(yk ha).elim id λz=>absurd z (by simp)
   exact⟨_,_,I'.yr,(B.X3 lt q1).X3 (by simpa using(by rw[<-B.jE,I.len];exact(Qj.mp hj).1)) (q2.mono (xr sub))⟩
 .cases e
def Bd.q7l(b:Bd p H0 O0 Z Y os H):Bd p (fz os.flatten H) O0 Z Y os H/\Ext H0 (fz os.flatten H):=
 ⟨⟨b.rel,b.len,b.jE,qu,λa ha=>by unfold fz;rw[if_pos ha]⟩,λa o e=>wt (b.ext a o e) λm=>by rw[b.new a m]at e;cases e⟩
def Bd.back{cV:Hp}(b:Bd p cV O0 Z Y os H)(x:Ext H0 cV):Bd p H0 O0 Z Y os H:=
 ⟨b.rel,b.len,b.jE,x.trans b.ext,λa ha=>by
  cases e:H0 a with
  |none=>rfl
  |some o=>have:=x a o e;rw[b.new a ha]at this;cases this⟩
def Bd.kept{AW:List (List Addr)}(b:Bd p (fz AW.flatten H2) O0 Z Y os H):Ext (fz (AW++[O0]).flatten H2) (fz (os++[O0]).flatten H):=λa o e=>by
 unfold fz at e;split at e
 .cases e
 .rename_i n;rw[ye]at n;have e':=wt e λm=>n (QD _ m);refine wt (b.ext a o e') λm=>?_;rw[ye]at m;rcases QA.mp m with m|m
  .rw[b.new a m]at e';cases e'
  .exact n (Ql _ m)
def q0z(k:Nat)(d:D):kG k d=.q9\/∃xs,kG k d=.ok xs:=by
 unfold kG;split
 .exact .inr ⟨_,rfl⟩
 .split
  .split
   .exact .inr ⟨_,rfl⟩
   .exact .inl rfl
  .exact .inl rfl
def q9V{lb:List S}(hc:X.calm=Qd)(hi:SI X p G sub Qd tg iter li)(hg:SG X p tg k is)(hb:wb X p G sub body lb)(XO:∀x,Vx iter X.env x=pure x):
  SS X p G sub (.For tg iter body [] pos) (.qw k is li lb):=by
 intro H0 O0 E hp pins s Y H Z os I B hs hE;have e0:ex G sub (.qw k is li lb) Z=(j8 G sub li Z).go Z λds=>zb (qN G sub lb) k is ds Z:=rfl;rw[e0]at hs hE|-;refine wpAny_For (Qi (hi pins s Y H Z _ I B.rel (zx hs)) (λv s1 h1=>Qi h1 (λuB s2 h2=>?_) (λe s' z=>hE e s' (jn B z))) (λe s' z=>hE e s' (jn B z))) XO;refine Eh h2 λds e1 it fp tn J H2 zz I2 T yP f2 x2 vs rep wk=>?_;subst zz;rw[e1,qF]at hs hE|-;rw[if_pos rfl]at wk;obtain⟨B2',FY⟩:=(B.mono x2).q7l;have qT:=rep.length;generalize hr:zb (qN G sub lb) k is ds Z=r at hs hE|-;have xY:∀{H':Hp},(∀b∈fp,H' b=Qg)->∀b∈fp,zH X pins H' b:=λhn b hb=>⟨hn b hb,(f2 b hb).2⟩
 refine codeAny_forLoop_any (λn s'=>∃i ρ' Y' qy H',Inv X pins Y' H' s'/\tn i s'.heap/\(∀b∈fp,H' b=Qg)/\Bd p (fz os.flatten H2) O0 ρ' Y' qy H'/\zb (qN G sub lb) k is (ds.drop i) ρ'=r/\n=ds.length-i/\i<=ds.length) ?_ ds.length
  ⟨0,Z,Y,os,H2,I2,yP,λb hb=>(f2 b hb).1,B2',by simpa using hr,by simp,QV _⟩
 rintro n s3 ⟨i,ρ3,σ3,Xn,H3,I3,st3,l6,B3,w3,rfl,hi3⟩;have xw:=B3.kept.trans qu
 by_cases qj:i<ds.length
 .
  rw[(Ud qj)]at w3;have xa:(kG k ds[i]).go ρ3 (λxs=>(qN G sub lb (uI is xs ρ3)).turn λρ'=>zb (qN G sub lb) k is (ds.drop (i+1)) ρ')=r:=w3;rcases q0z k ds[i]with hu|⟨xs,hu⟩
  .rw[hu]at xa;exact absurd xa.symm hs
  rw[hu,qF]at xa;refine YX hp (Qi (T.item X rfl rfl rfl hc i pins s3 σ3 H3 E I3 (xY l6) st3 (wk.go i H3 xw (qT▸qj))) (λr4 s4⟨u,Ob,h4⟩=>?_) (λ_ _ z=>z));subst Ob;refine YX hp (Qi h4 (λ_ s5⟨x,H5,I5,r5,y5,X4,TY⟩=>?_) (λ_ _ z=>z));obtain⟨rfl,hx⟩:=wk.X7 i H3 x H5 xw (qT▸qj) y5;refine qR (rep.get (i:=i) (d:=ds[i]) (by simp[qj])) λv' yA xX=>?_;rw[hx]at yA;cases yA;refine YX hp (Qi (hg E _ O0 _ s5 σ3 H5 ρ3 Xn ds[i] xs x u (I5.pinned (xY TY) (T.obj _ _ X4)) B3 r5 (xX.mono B3.kept) hu) (λ_ s6 zz=>kX zz λσ6 os6 I6 B6=>?_) (λ_ _ z=>z));have ns:qN G sub lb (uI is xs ρ3)≠.q9:=λe=>hs (by rw[<-xa,e];rfl);refine YX hp (Qi (hb _ O0 E hp _ s6 σ6 H5 (uI is xs ρ3) os6 I6 B6 ns (λe s' z=>hE e s' ?_)) (λf s7 q7=>?_) (λ_ _ z=>z))
  .refine D4 z λc ρ' Y' qy H' z1 z2 z3=>?_;exact⟨c,ρ',Y',qy,H',by rw[<-xa,z1];rfl,z2.back FY,z3.Cv⟩
  .refine Rr q7 λρ7 fl σ7 AX H7 e7 B7 I7 r7=>?_;rw[e7]at xa;have again:zb (qN G sub lb) k is (ds.drop (i+1)) ρ7=r->∃m,m<ds.length-i/\∃i ρ' Y' qy H',Inv X pins Y' H' s7/\tn i s7.heap/\(∀b∈fp,H' b=Qg)/\Bd p (fz os.flatten H2) O0 ρ' Y' qy H'/\zb (qN G sub lb) k is (ds.drop i) ρ'=r/\m=ds.length-i/\i<=ds.length:=λw7=>by refine⟨ds.length-(i+1),∅,i+1,ρ7,σ7,AX,H7,I7.w5,T.keep _ _ _ X4 λb hb o e=>(I7.pin (b,o) (Ql _ (Ql _ (Pr hb e)))).1,λb hb=>?_,B7,w7,rfl,qj⟩;obtain⟨o,e,d⟩:=T.obj _ _ X4 b hb;exact(I7.pin (b,o) (Ql _ (Ql _ (Pr hb e)))).2.1
   cases fl<;>cases f<;>first|exact r7.elim|skip
   .exact again xa
   .exact⟨ρ7,.nx,σ7,AX,H7,xa.symm,B7.back FY,I7.w5,trivial⟩
   .exact again xa
   .exact⟨ρ7,_,σ7,AX,H7,xa.symm,B7.back FY,I7.w5,r7⟩
   .refine zK r7 λa m' z1 z2 z3 z4=>?_;refine⟨ρ7,_,σ7,AX,H7,xa.symm,B7.back FY,I7.w5,a,m',z1,z2,?_,z4⟩;cases e:H0 a with
    |none=>rfl
    |some o=>have:=FY a o e;rw[z3]at this;cases this
 .have ei:i=ds.length:=∅
  subst ei;refine YX hp (Qi (T.done X rfl rfl rfl hc ds.length pins s3 σ3 H3 E I3 (xY l6) st3 (qT▸wk.stop H3 xw)) (λr4 s4⟨Ob,I4⟩=>?_) (λ_ _ z=>z));subst Ob;rw[List.drop_length]at w3;exact Va ⟨ρ3,.nx,σ3,Xn,H3,w3.symm,B3.back FY,I4,trivial⟩
end
def zw(X:Cx)(s2:Shared)(H2:Hp)(sc:Scope)(cl:List (Str×Addr))(C:Addr)(N':List Str)(fp:List Addr):Cx:=
 {X with N:=N',s₀:=s2,H₀:=H2,env:=Zh sc cl C X.env,outer:=X.stack,ex:=fp,fn:=λx=>sc.names.lookup x==Qa .cell,pn:=[],xe:=λ_ _=>False}
def q2I(scope:Scope)(env:YK):∀(l:List (Str×NameKind))(cs:List (Str×Addr)),(∀x∈l,x.2=.free->∃c,env.cells.lookup x.1=Qa c)->
  ∃cl,(forIn l cs λx r=>do
   if(x.2==W6)=Qd then do
    let a <-cellOf env x.1
    pure (YD ((x.1,a)::r))
   else pure (YD r):Sem (List (Str×Addr)))=pure cl/\(∀y c,cl.lookup y=Qa c->cs.lookup y=Qa c\/env.cells.lookup y=Qa c)/\(∀x∈l,x.2=.free->∃c,cl.lookup x.1=Qa c)/\∀y c,cs.lookup y=Qa c->∃c',cl.lookup y=Qa c':=by
 intro l
 induction l with
 |nil=>intro cs _;exact⟨cs,rfl,λy c h=>.inl h,λx hx=>absurd hx (by simp),λy c h=>⟨c,h⟩⟩
 |cons x l ih=>
  intro cs h;obtain⟨n,k⟩:=x
  by_cases hk:k=.free
  .subst hk;obtain⟨c,hc⟩:=h (n,.free) Qe rfl;have ua:cellOf env n=pure c:=(by unfold cellOf;rw[hc]);refine D3 (ih ((n,c)::cs) (λx hx=>h x (Qc _ hx))) λcl e h1 h2 h3=>?_;refine⟨cl,?_,λy c' hy=>?_,λx hx hf=>?_,λy c' hy=>?_⟩
   .rw[VE];simp only[beq_self_eq_true,if_true,ua];exact e
   .rcases h1 y c' hy with z|z
    .rw[Jf]at z;cases PH:y==n with
     |true=>rw[PH]at z;cases z;rw[beq_iff_eq.mp PH];exact .inr hc
     |false=>rw[PH]at z;exact .inl z
    .exact .inr z
   .rcases Qo.mp hx with rfl|hx
    .exact h3 n c (by simp[Jf])
    .exact h2 x hx hf
   .cases PH:y==n with
    |true=>exact h3 y c (by rw[Jf,PH])
    |false=>exact h3 y c' (by rw[Jf,PH];exact hy)
  .have hb:(k==W6)=Qh:=(by simpa using hk);refine D3 (ih cs (λx hx=>h x (Qc _ hx))) λcl e h1 h2 h3=>?_;refine⟨cl,?_,h1,λx hx hf=>?_,h3⟩
   .rw[VE];simp only[hb,JZ,if_false];exact e
   .rcases Qo.mp hx with rfl|hx
    .exact absurd hf hk
    .exact h2 x hx hf
def L6(h:∀x∈scope.names,x.2=.free->∃c,env.cells.lookup x.1=Qa c):
  ∃cl,closureFor scope env=pure cl/\(∀y c,cl.lookup y=Qa c->env.cells.lookup y=Qa c)/\∀x∈scope.names,x.2=.free->∃c,cl.lookup x.1=Qa c:=by
 refine D3 (q2I scope env scope.names [] h) λcl e h1 h2 _=>?_;refine⟨cl,?_,λy c hy=>(h1 y c hy).elim (λz=>by simp at z) id,h2⟩;unfold closureFor;dsimp only;rw[e];rfl
def Xe(sc:Scope)(env:YK)(x:Str):(U0 sc env).names.lookup x=(sc.names.lookup x).map λk=>if(k==W6&&env.scope.kind==.function&&env.kindOf x==Qa .cell)=Qd then VO else k:=by
 unfold U0
 induction sc.names with
 |nil=>rfl
 |cons q r ih=>
  obtain⟨n,k⟩:=q;rw[Qw];cases hx:x==n with
  |true=>
   have e:=beq_iff_eq.mp hx;subst e;dsimp only;split
   .rename_i h;rw[Jf,Jf,hx];dsimp only;rw[Uk,if_pos h]
   .rename_i h;rw[Jf,Jf,hx];dsimp only;rw[Uk,if_neg h]
  |false=>
   dsimp only;split
   .rw[Jf,Jf,hx];exact ih
   .rw[Jf,Jf,hx];exact ih
structure ScOk(X:Cx)(sc:Scope)(ts:List Str):Prop where
 kind:sc.kind=.function
 cell:∀y∈sc.names,y.2=.cell->y.1∈ts/\sc.names.lookup y.1=Qa .cell
 free:∀y∈sc.names,y.2=.free->X.env.kindOf y.1=Qa .cell\/X.env.kindOf y.1=Qa .free
 names:∀y∈sc.names,y.2=.local->sc.names.lookup y.1=Qa .local
 q1b:∀y∈X.N,y∈ts->sc.names.lookup (Fi y)=Qg
 out:∀y∈X.N,y∉ts->sc.names.lookup y≠Qa .local
def zQ(ts N:List Str):List Str:=ts++N.map λx=>if x∈ts then Fi x else x
structure ClOk(X:Cx)(sc:Scope)(n:Nat)(h:Heap)(cl:List (Str×Addr)):Prop where
 old:∀y c,cl.lookup y=Qa c->X.env.cells.lookup y=Qa c\/(n<=c/\c<h.objs.size/\h.IsCell c Qg)
 free:∀y,sc.names.lookup y=Qa .free->∃c,cl.lookup y=Qa c/\X.env.cells.lookup y=Qa c
 own:∀y,sc.names.lookup y=Qa .cell->∃c,cl.lookup y=Qa c/\n<=c
 inj:∀x y c,cl.lookup x=Qa c->cl.lookup y=Qa c->x=y
def q4e{cl:List (Str×Addr)}(I2:Inv X pins Y H2 s2)(S:ScOk X sc ts){h':Heap}(co:ClOk X sc (s2.heap.objs.size+2) h' cl)
  (f2:∀b∈fp,zH X pins H2 b) (ho:∀b∈fp,∃o,s2.heap.get? b=Qa o) {tk:Nat}(yg:∃m,h'.Ns (s2.heap.objs.size+1) m)
  (kp:∀b o,s2.heap.get? b=Qa o->h'.get? b=Qa o) (hD:h'.get? s2.heap.objs.size=Qa {cls:=.type "list",data:=.seq ([]:List Value).toArray}):
  Inv (zw X s2 H2 sc cl (s2.heap.objs.size+1) (zQ ts X.N) fp) [] (Qr ts.length Qg++Y) (upd H2 s2.heap.objs.size (.q6 [])) {s2 with heap:=h',toks:=tk}:=by
 have l7:∀x,((U0 sc X.env).names.lookup x=Qa .cell\/(U0 sc X.env).names.lookup x=Qa .free)->sc.names.lookup x=Qa .free\/sc.names.lookup x=Qa .cell:=λx hx=>by
  rw[Xe]at hx;cases e:sc.names.lookup x with
  |none=>rw[e]at hx;rcases hx with hx|hx<;>exact nS hx
  |some k=>
   cases k with
   |free=>exact .inl rfl
   |cell=>exact .inr rfl
   |_=>rw[e]at hx;rcases hx with hx|hx<;>simp at hx
 have cellAt:∀x c,cl.lookup x=Qa c->(∃v,h'.IsCell c v)/\upd H2 s2.heap.objs.size (.q6 []) c=Qg:=λx c h=>by
  rcases co.old x c h with z|⟨z1,z2,z3⟩
  .refine kX (I2.cell x c z) λv o vm hd=>?_;exact⟨⟨v,o,kp _ _ vm,hd⟩,by rw[qY (QK (Qu vm))];exact I2.kB x c z⟩
  .exact⟨⟨_,z3⟩,by rw[qY ∅];exact I2.qI.fresh ∅⟩
 refine⟨⟨I2.ok.mod,S.kind,I2.ok.glob,I2.ok.blt,J4 _,co.inj,λx hx=>(l7 x hx).elim (λz=>(co.free x z).imp λ_ z=>z.1) λz=>(co.own x z).imp λ_ z=>z.1,λx c h g=>?_,I2.ok.hd,I2.ok.frames,.inl rfl,λb hb=>⟨?_,λx c h=>?_⟩,
  I2.bs,Qx I2.ok.yY I2.sz,λb o e hb=>?_,λb hb hm=>?_,I2.stack,I2.bq⟩,rfl,I2.bare,Un.laid kp (Qs _) (I2.qI.fresh (Qs _)),?_,λx c h=>(cellAt x c h).1,?_,λx c h=>(cellAt x c h).2,λp hp=>absurd (show p∈([]:List (Addr×Obj)) from hp) (by simp),?_,?_⟩
 .refine qR (co.own x (beq_iff_eq.mp h)) λc' e1 e2=>?_;have g:cl.lookup x=Qa c:=g;rw[e1]at g;cases g;exact Qx (by show s2.heap.objs.size<=_;lia) e2
 .obtain⟨o,e⟩:=ho b hb;exact QK (UC (Qu e))
 .rcases co.old x c h with z|⟨z,_⟩
  .exact (f2 b hb).2.2.2.2.1 x c z
  .obtain⟨o,e⟩:=ho b hb;exactλy=>by have:=Qu e;lia
 .rcases (f2 b hb).2.2.2.1 with z|z
  .exact I2.ok.Xj b o e z
  .exact absurd (QF (Qu e) (Qx I2.ok.yY z)) (Jv _)
 .rcases Qo.mp (I2.X5 b hm)with z|z
  .exact (f2 b hb).2.1 z
  .exact (f2 b hb).2.2.1 z
 .obtain⟨m,hm⟩:=yg;refine qR I2.loc λm2 mP vk=>?_;refine⟨m,hm,λi x v e1 e2 e3=>?_⟩;have e3:kA (U0 sc X.env) x:=e3;have e1:(zQ ts X.N)[i]?=Qa x:=e1;unfold zQ at e1;have hi:¬i<ts.length:=λz=>by rw[QZ (by simpa using z),ZY,if_pos z]at e2;cases e2
  rw[Jh ∅]at e1;rw[Jh (by rw[JW];lia),JW]at e2;rw[QJ]at e1;cases ey:X.N[i-ts.length]?with
  |none=>rw[ey]at e1;exact nS e1
  |some y=>
   rw[ey]at e1;have e1:(if y∈ts then Fi y else y)=x:=(by simpa using e1);have yN:y∈X.N:=Qz ey
   by_cases hy:y∈ts
   .rw[if_pos hy]at e1;have hb:=S.q1b y yN hy;rw[e1]at hb;unfold kA at e3;rw[Xe,hb]at e3;rcases e3 with z|z|z<;>exact nS z
   .rw[if_neg hy]at e1;subst e1;have hf:sc.names.lookup y=Qa .free:=by
     rcases e3 with z|z
     .exfalso;rw[Xe]at z;cases e:sc.names.lookup y with
      |none=>rw[e]at z;exact nS z
      |some k=>
       rw[e]at z;cases k with
       |«local»=>exact S.out y yN hy e
       |_=>simp at z<;>(split at z<;>cases z)
     .exact (l7 y z).elim id λz=>absurd (S.cell _ (Jj z) rfl).1 hy
    have hk:=S.free _ (Jj hf) rfl;refine qR (vk _ y v ey e2 (.inr hk)) λu r l=>?_;refine⟨u,r,.inr ⟨?_,?_⟩⟩
    .rcases e3 with z|z
     .exfalso;rw[Xe,hf,Uk]at z;have z:=QY z;split at z<;>cases z
     .exact z
    .refine qR (co.free y hf) λc hc wy=>?_;rcases l with⟨l1,_⟩|⟨_,c',uZ,P4⟩
     .rcases hk with z|z<;>(rw[l1]at z;cases z)
     .rw[uZ]at wy;cases wy;refine qR P4 λo vm hd=>?_;exact⟨c,hc,o,kp _ _ vm,hd⟩
 .show upd H2 s2.heap.objs.size _ (s2.heap.objs.size+1)=Qg;rw[qY (Nat.succ_ne_self _)];exact(I2.qI.fresh (J4 _))
 .exact I2.qI.laid kp (Qs _) ⟨QV _,[],0,.nil,hD⟩
 .show _=(zQ ts X.N).length;unfold zQ;rw[QT,QT,JW,Qm,I2.len]
theorem ER:∀(names:List (Str×NameKind))(n:Nat)(acc:List (Str×Addr)),UD n names acc=UD n names []++acc
 |[],_,_=>rfl
 |(x,k)::r,n,acc=>by
  unfold UD;split
  .rw[ER r _ ((x,n)::acc),ER r _ [(x,n)],Jg];rfl
  .exact ER r n acc
theorem ES:∀(names:List (Str×NameKind))(n:Nat)(acc:List (Str×Addr))(x:Str),((x,VO)∈names\/∃c,(x,c)∈acc)↔∃c,(x,c)∈UD n names acc
 |[],_,_,_=>⟨λh=>h.elim (λz=>nomatch z) id,.inr⟩
 |(y,k)::r,n,acc,x=>by
  unfold UD;split
  .rename_i hk;rw[<-ES r _ _ x];have hk:=beq_iff_eq.mp hk;subst hk;constructor
   .rintro (h|⟨c,h⟩)
    .rcases Qo.mp h with e|h
     .cases e;exact .inr ⟨n,Qe⟩
     .exact .inl h
    .exact .inr ⟨c,Qc _ h⟩
   .rintro (h|⟨c,h⟩)
    .exact .inl (Qc _ h)
    .rcases Qo.mp h with e|h
     .cases e;exact .inl Qe
     .exact .inr ⟨c,h⟩
  .rename_i hk;rw[<-ES r _ _ x];constructor
   .rintro (h|h)
    .rcases Qo.mp h with e|h
     .cases e;cases hk rfl
     .exact .inl h
    .exact .inr h
   .rintro (h|h)
    .exact .inl (Qc _ h)
    .exact .inr h
theorem pC{x:Str}{c:Addr}:∀{l:List (Str×Addr)},(x,c)∈l->∃c',l.lookup x=Qa c'
 |(y,d)::l,h=>by
  rw[Jf];cases e:x==y with
  |true=>exact⟨d,rfl⟩
  |false=>
   rcases Qo.mp h with z|z
   .cases z;simp at e
   .exact pC z
def eA{vO:List (Str×Addr)}{E:NZ}{P:Value->YK->Addr->Shared->Prop}(I2:Inv X pins Y H2 s2)(S:ScOk X sc ts)
  (vi:∀y c,vO.lookup y=Qa c->X.env.cells.lookup y=Qa c) (xE:∀x∈sc.names,x.2=.free->∃c,vO.lookup x.1=Qa c) (f2:∀b∈fp,zH X pins H2 b) (ho:∀b∈fp,∃o,s2.heap.get? b=Qa o)
  (h:∀cl h1,ClOk X sc (s2.heap.objs.size+2) h1 cl->(∀b o,s2.heap.get? b=Qa o->h1.get? b=Qa o)->Inv (zw X s2 H2 sc cl (s2.heap.objs.size+1) (zQ ts X.N) fp) [] (Qr ts.length Qg++Y) (upd H2 s2.heap.objs.size (.q6 [])) {s2 with heap:=h1}->
   P (.ref s2.heap.objs.size) (Zh sc cl (s2.heap.objs.size+1) X.env) (s2.heap.objs.size+1) {s2 with heap:=h1}):
  wpAny (model X.prog X.w) X.A (newList []) (λacc s3=>wpAny (model X.prog X.w) X.A (Wo sc X.env.globals vO [] X.env.qual Qg .none (Qa X.env)) (λya s4=>P acc {ya with scope:=U0 sc X.env} ya.locals s4) E s3) E s2:=by
 refine JF ?_;simp only[Wo,Hg,if_true];refine Qb (wpAny_alloc (Qb (wpAny_layCells _ (λname kind cells=>by cases hkc:kind==VO<;>simp[hkc]) _ _ _ _ ?_)));rw[Zw];refine Qb (Qf (Qf ?_));generalize hH2:s2.heap.push {cls:=.type "list",dict:=Qg,data:=.seq ([]:List Value).toArray}=HH;have hC:HH.objs.size=s2.heap.objs.size+1:=by rw[<-hH2,Uz]
 have O8:(HH.push {cls:=.type "dict",data:=.dict #[]}).objs.size=s2.heap.objs.size+2:=by rw[Uz,hC]
 have ok:=cellsFrom_ok sc.names (HH.push {cls:=.type "dict",data:=.dict #[]}) (s2.heap.objs.size+2) [] ⟨λ_ _ hm=>(nomatch hm),Jt⟩ (by rw[O8];exact Qs _);rw[O8]at ok;dsimp only;rw[O8,hC,ER];generalize hl1:UD (s2.heap.objs.size+2) sc.names []=l1 at ok;generalize hh1:pushCells (HH.push {cls:=.type "dict",data:=.dict #[]}) sc.names=h1 at ok;have o4:∀b o,HH.get? b=Qa o->h1.get? b=Qa o:=λb o e=>by rw[<-hh1];exact pushCells_keeps _ _ b o (Qk _ e)
 have kp:∀b o,s2.heap.get? b=Qa o->h1.get? b=Qa o:=λb o e=>o4 b o (hH2▸Qk _ e);have hD:h1.get? s2.heap.objs.size=Qa {cls:=.type "list",data:=.seq ([]:List Value).toArray}:=o4 _ _ (hH2▸QH _ rfl);have yg:h1.Ns (s2.heap.objs.size+1) λ_=>Qg:=by rw[<-hh1,<-hC];exact(Heap.Ns.new HH (.type "dict")).keeps (pushCells_keeps _ _)
 have own:∀y c,l1.lookup y=Qa c->(y,VO)∈sc.names/\s2.heap.objs.size+2<=c/\c<h1.objs.size/\h1.IsCell c Qg:=λy c e=>by have m:=Jj e;have z:=ok.empty y c m;rw[<-hl1]at m;exact⟨((ES _ _ [] y).mpr ⟨c,m⟩).resolve_right (λw=>by obtain⟨_,w⟩:=w;cases w),z.2,z.1.lt,z.1⟩
 have look:∀y,(l1++vO).lookup y=(l1.lookup y).or (vO.lookup y):=λy=>List.lookup_append;have co:ClOk X sc (s2.heap.objs.size+2) h1 (l1++vO):=by
  refine⟨λy c e=>?_,λy e=>?_,λy e=>?_,λx y c e1 e2=>?_⟩
  .rw[look]at e;cases q:l1.lookup y with
   |some c'=>rw[q]at e;cases e;exact .inr (own y _ q).2
   |none=>rw[q]at e;exact .inl (vi y c e)
  .obtain⟨c,hc⟩:=xE (y,.free) (Jj e) rfl;refine⟨c,?_,vi y c hc⟩;rw[look];cases q:l1.lookup y with
   |some c'=>
    have:=(S.cell _ (own y _ q).1 rfl).2;rw[e]at this;cases this
   |none=>exact hc
  .obtain⟨c,m⟩:=(ES sc.names (s2.heap.objs.size+2) [] y).mp (.inl (Jj e));rw[hl1]at m;obtain⟨c',q⟩:=pC m;exact⟨c',by rw[look,q];rfl,(own y _ q).2.1⟩
  .rw[look]at e1 e2;have lt:∀z,vO.lookup z=Qa c->c<s2.heap.objs.size:=λz hz=>by obtain⟨v,o,e,_⟩:=I2.cell z c (vi z c hz);exact Qu e
   cases q1:l1.lookup x with
   |some c1=>
    rw[q1]at e1;cases e1;cases q2:l1.lookup y with
    |some c2=>rw[q2]at e2;cases e2;exact PySem.name_of_addr ok.apart (Jj q1) (Jj q2)
    |none=>
     rw[q2]at e2;have:=lt y e2;have:=(own x _ q1).2.1;lia
   |none=>
    rw[q1]at e1;cases q2:l1.lookup y with
    |some c2=>
     rw[q2]at e2;cases e2;have:=lt x e1;have:=(own y _ q2).2.1;lia
    |none=>rw[q2]at e2;exact I2.ok.inj x y c (vi x c e1) (vi y c e2)
 exact h (l1++vO) h1 co kp (q4e I2 S co f2 ho (tk:=s2.toks) ⟨_,yg⟩ kp hD)
def q2O{elt:Ev.Env->R D}{cond:Ev.Env->R Bool}{k:Nat}{es:List D}(h:jv elt cond k Z (d::ds)=.ok es):
  ∃xs b,kG k d=.ok xs/\cond (zj xs++Z)=.ok b/\(b=Qd->∃e zX,elt (zj xs++Z)=.ok e/\jv elt cond k Z ds=.ok zX/\es=e::zX)/\(b=Qh->jv elt cond k Z ds=.ok es):=by
 unfold jv at h;cases h1:kG k d with
 |ok xs=>
  rw[h1,qB]at h;cases h2:cond (zj xs++Z)with
  |ok b=>
   rw[h2,qB]at h;refine⟨xs,b,rfl,h2,λhb=>?_,λhb=>?_⟩
   .subst hb;rw[if_pos rfl]at h;cases h3:elt (zj xs++Z)with
    |ok e=>
     rw[h3,qB]at h;cases h4:jv elt cond k Z ds with
     |ok zX=>rw[h4,qB]at h;cases h;exact⟨e,zX,rfl,rfl,rfl⟩
     |err c=>rw[h4]at h;cases h
     |q9=>rw[h4]at h;exact nR h
    |err c=>rw[h3]at h;cases h
    |q9=>rw[h3]at h;exact nR h
   .subst hb;rw[if_neg (by simp)]at h;exact h
  |err c=>rw[h2]at h;cases h
  |q9=>rw[h2]at h;exact nR h
 |err c=>rw[h1]at h;cases h
 |q9=>rw[h1]at h;exact nR h
theorem bU{H Hf:Hp}:∀{Z:Ev.Env}{Y:L2.St}{os:List (List Addr)},kU p H Hf Z Y os->kU p H Hf Z Y (os++more)
 |[],_,_,_=>trivial
 |_::Z,_,_,h=>by refine x6 h λy Y' as qy qe qf h1 h2=>?_;subst qe qf;exact⟨y,Y',as,qy++more,rfl,rfl,h1,bU h2⟩
theorem bV{p:Pm}{H Hf:Hp}{Z:Ev.Env}{Y:L2.St}{os:List (List Addr)}(h:kU p H Hf Z Y os):∀{xs:List D}{vs:List V},qM p Hf xs vs->kU p H Hf (zj xs++Z) (vs.map Qa++Y) (Qr xs.length []++os)
 |[],vs,r=>by cases r;exact h
 |d::xs,vs,r=>by refine qL r λv r' zz h1 h2=>?_;subst zz;exact⟨Qa v,r'.map Qa++Y,[],Qr xs.length []++os,rfl,by simp[Yz],⟨rfl,v,rfl,h1⟩,bV h h2⟩
def Et(n:Nat)(os:List (List Addr))(D:Addr):(Qr n []++os++[[D]]).flatten=os.flatten++[D]:=by simp
section
variable{prog:Program}{R:ZI->Shared->Prop}
def fK{target:QC}{it acc:Value}(I:Nat->Shared->Prop)
  (turn:∀n s,I n s->wpAny (model prog w) A (pyNext it) (λr s₁=>match r with
   |none=>R (.ok .next) s₁
   |some v=>wpAny (model prog w) A (letOwnedTupleGo target it v) (λ_ s₁'=>wpAny (model prog w) A (VB target env v) (λ_ s₂=>
     wpAny (model prog w) A (forIn ifs Qd λc r=>if r=Qd then do let ok <-isTrue c env (Jw c env);pure (YD ok)else pure (YD r)) (λok s₃=>
      if ok=Qd then wpAny (model prog w) A (Jw elt env) (λx s₄=>
       wpAny (model prog w) A (call (.builtin "list.append") [acc,x]) (λ_ s₅=>∃m,m<n/\I m s₅) (λ_ _=>False) s₄) (λ_ _=>False) s₃
      else∃m,m<n/\I m s₃) (λ_ _=>False) s₂) (λ_ _=>False) s₁') (λ_ _=>False) s₁) (λ_ _=>False) s)
  (n:Nat) (h:I n s):codeAny (model prog w) A (.compLoop (.ListComp elt [⟨target,iter,ifs,0⟩] scope pos) 0 it acc env) R s:=by
 refine codeAny_loop rfl I (λn s hI=>?_) n h;show wpAny _ A ((compTurn (.ListComp elt [⟨target,iter,ifs,0⟩] scope pos) 0 it acc env).onRaise (λx=>do ZM x env;theTreesLotGoes x)) _ _ s;refine wpAny_noted ?_;rw[compTurn_list];refine Qb (WS (Qb (Qi (turn n s hI) (λr s₁ h₁=>?_) λ_ _ h'=>h'.elim)));cases r with
 |none=>exact Qf h₁
 |some v=>
  refine Qb (Qi h₁ (λ_ s₁' h₁'=>?_) λ_ _ h'=>h'.elim);refine Qb (Qi h₁' (λ_ s₂ h₂=>Qb (Qi h₂ (λok s₃ h₃=>?_) λ_ _ h'=>h'.elim)) λ_ _ h'=>h'.elim);cases ok with
  |false=>exact Qf ⟨rfl,h₃⟩
  |true=>
   exact Qb (Qb (Qi h₃ (λx s₄ h₄=>Qb (Qi h₄ (λ_ s₅ h₅=>Qf (Qf ⟨rfl,h₅⟩)) λ_ _ h'=>h'.elim)) λ_ _ h'=>h'.elim))
end
def X8(X:Cx)(p:Pm)(tg:QC)(k m:Nat):Prop:=
 ∀(E:NZ)(pins:List (Addr×Obj))(s:Shared)(σt Y:L2.St)(H Hf:Hp)(d:D)(xs:List D)(v:V)(u:Value),Inv X pins (σt++Y) H s->σt.length=m->RelV v u->Ext Hf H->Rep p Hf d v->kG k d=.ok xs->
  wpAny (model X.prog X.w) X.A (VB tg X.env u) (λ_ s'=>∃vs,qM p Hf xs vs/\vs.length=m/\Inv X pins (vs.map Qa++Y) H s') E s
section
variable{p:Pm}
def q0E(hN:X.N.Nodup)(hi:X.N[0]?=Qa x)(hx:Loc X.env.scope x)(hl:X.fn x=Qd\/X.env.scope.names.lookup x=Qa .local):X8 X p (.Name x pos) 0 1:=by
 intro E pins s σt Y H Hf d xs v u I hm rv xt q e;cases e;obtain⟨o,rfl⟩:∃o,σt=[o]:=by
  match σt,hm with
  |[o],_=>exact⟨o,rfl⟩
 exact UL (wY I hN hi hx rv (λs2 I2=>⟨[v],⟨v,[],rfl,q,rfl⟩,rfl,I2⟩) hl)
def q8w(hK:p.K=X.K)(hc:X.calm=Qd)(hN:X.N.Nodup)(hi:X.N[0]?=Qa x)(hx:Loc X.env.scope x)(hl:X.fn x=Qd\/X.env.scope.names.lookup x=Qa .local)(hj:X.N[1]?=Qa y)(hx2:Loc X.env.scope y)(vk:X.fn y=Qd\/X.env.scope.names.lookup y=Qa .local):X8 X p (.Tuple [.Name x px,.Name y py] k1 pos) 2 2:=by
 intro E pins s σt Y H Hf d xs v u I hm rv xt q e;obtain⟨o1,o2,rfl⟩:∃o1 o2,σt=[o1,o2]:=by
  match σt,hm with
  |[o1,o2],_=>exact⟨o1,o2,rfl⟩
 cases d<;>first
  |(exfalso;unfold kG at e;rw[if_neg (by decide)]at e;cases e;done)
  |skip
 rename_i ds;unfold kG at e;rw[if_neg (by decide)]at e;dsimp only at e;split at e
 .rename_i Ts;cases e;refine zK q λa vs zz s1 z r1=>?_;subst zz;obtain⟨d1,d2,rfl⟩:∃d1 d2,xs=[d1,d2]:=by
   match xs,Ts with
   |[d1,d2],_=>exact⟨d1,d2,rfl⟩
  refine qL r1 λv1 r zz q1 h2=>?_;subst zz;refine qL h2 λv2 r2 zz q2 h4=>?_;subst zz;cases h4;refine Qi (sW (X:=X.qn E) (n:=2) hc (Ac (Ab (X:=X.qn E) hN hi hx hl) (Ac (Ab (X:=X.qn E) hN hj hx2 vk) sX rfl) rfl) rfl rfl pins s _ H (.ref a) u (λY' H'=>H'=H/\Y'=Qa v1::Qa v2::Y) (I.qn E) rv
   ⟨a,[v1,v2],rfl,hK▸xt.jT s1,rfl,v1,[v2],rfl,v2,[],rfl,rfl,rfl,rfl⟩) (λ_ s' h=>?_) (λ_ _ z=>z)
  refine qL h λY' H' I' qe qf=>?_;subst qe qf;exact⟨[v1,v2],⟨v1,_,rfl,q1,v2,_,rfl,q2,rfl⟩,rfl,I'.yr⟩
 .exact nR e
def E8(X:Cx)(p:Pm)(G:Nat->List D->R D)(sub:Nat->Nat->Bool)(ifs:List QC)(lc:List T):Prop:=(ifs=[]/\lc=[])\/∃c l,ifs=[c]/\lc=[l]/\ST X p G sub c l
def fM{k:Nat}{le:L}{lc:List T}{tn:Nat->Heap->Prop}
  {ds es:List D}{vs:List V}{vO:List (Str×Addr)}{E:NZ}{RR:Value->Addr->ZI->Shared->Prop}(hc:X.calm=Qd) (S:ScOk X sc ts) (vi:∀y c,vO.lookup y=Qa c->X.env.cells.lookup y=Qa c)
  (xE:∀x∈sc.names,x.2=.free->∃c,vO.lookup x.1=Qa c) (hE:∀s2 H2 cl C fp,SE (zw X s2 H2 sc cl C (zQ ts X.N) fp) p G sub elt le) (hT:∀s2 H2 cl C fp,E8 (zw X s2 H2 sc cl C (zQ ts X.N) fp) p G sub ifs lc)
  (hG:∀s2 H2 cl C fp,X8 (zw X s2 H2 sc cl C (zQ ts X.N) fp) p tg k ts.length)
  (I2:Inv X pins Y H2 s2) (R2:Rel p Z Y os H2) (T:Turn X.prog X.w X.K tg J fp it tn) (yP:tn 0 s2.heap) (f2:∀b∈fp,zH X pins H2 b) (rep:qM p (fz os.flatten H2) ds vs) (wk:Wk J H2 vs)
  (hgo:jv (ev G sub le) (kF G sub lc) k Z ds=.ok es) (ly:es.length<=big)
  (OA:∀D C s' H',Inv X pins Y H' s'->Ext H2 H'->Rep p (fz os.flatten H') (.q6 es) (.ref D)->(∃m,s'.heap.Ns C m)->zH X pins H' C->H2 D=Qg->RR (.ref D) C (.ok .next) s'):
  wpAny (model X.prog X.w) X.A (newList []) (λacc s3=>wpAny (model X.prog X.w) X.A (Wo sc X.env.globals vO [] X.env.qual Qg .none (Qa X.env)) (λya s4=>
   codeAny (model X.prog X.w) X.A (.compStart (.ListComp elt [⟨tg,iter,ifs,0⟩] sc pos) 0 (.ref it) acc {ya with scope:=U0 sc X.env}) (RR acc ya.locals) s4) E s3) E s2:=by
 have ho:∀b∈fp,∃o,s2.heap.get? b=Qa o:=λb hb=>let⟨o,e,_⟩:=T.obj 0 _ yP b hb;⟨o,e⟩;refine eA (P:=λacc ya C s4=>codeAny (model X.prog X.w) X.A (.compStart (.ListComp elt [⟨tg,iter,ifs,0⟩] sc pos) 0 (.ref it) acc ya) (RR acc C) s4) I2 S vi xE f2 ho λcl h1 co kp I4=>?_;generalize hs4:({s2 with heap:=h1}:Shared)=s4 at I4|-;have Cg:tn 0 s4.heap:=T.keep _ _ _ yP λb hb o e=>by rw[<-hs4];exact kp b o e
 have fr:H2 s2.heap.objs.size=Qg:=I2.qI.fresh (Qs _);have frC:H2 (s2.heap.objs.size+1)=Qg:=I2.qI.fresh (J4 _);have xY:∀{H':Hp},(∀b∈fp,H' b=Qg)->∀b∈fp,zH (zw X s2 H2 sc cl (s2.heap.objs.size+1) (zQ ts X.N) fp) [] H' b:=λ{H'} hn b hb=>by
  refine⟨hn b hb,?_,λhm=>?_,.inl hb,λx c h=>?_,λp hp=>absurd (show p∈([]:List (Addr×Obj)) from hp) (by simp)⟩
  .obtain⟨o,e⟩:=ho b hb;exact QK (UC (Qu e))
  .rcases Qo.mp (I2.X5 b hm)with z|z
   .exact (f2 b hb).2.1 z
   .exact (f2 b hb).2.2.1 z
  .rcases co.old x c h with z|⟨z,_⟩
   .exact (f2 b hb).2.2.2.2.1 x c z
   .obtain⟨o,e⟩:=ho b hb;exactλy=>by have:=Qu e;lia
 have qT:ds.length=vs.length:=rep.length;have xR:codeAny (model X.prog X.w) X.A (.compLoop (.ListComp elt [⟨tg,iter,ifs,0⟩] sc pos) 0 (.ref it) (.ref s2.heap.objs.size) (Zh sc cl (s2.heap.objs.size+1) X.env)) (RR (.ref s2.heap.objs.size) (s2.heap.objs.size+1)) s4:=by
  refine fK (λn s'=>∃i σt H' ys TN TQ,Inv (zw X s2 H2 sc cl (s2.heap.objs.size+1) (zQ ts X.N) fp) [] (σt++Y) H' s'/\σt.length=ts.length/\tn i s'.heap/\(∀b∈fp,H' b=Qg)/\Ext H2 H'/\H' s2.heap.objs.size=Qa (.q6 ys)/\
   qM p (fz (os.flatten++[s2.heap.objs.size]) H') TN ys/\jv (ev G sub le) (kF G sub lc) k Z (ds.drop i)=.ok TQ/\TN++TQ=es/\n=ds.length-i/\i<=ds.length) ?_ ds.length
   ⟨0,Qr ts.length Qg,upd H2 s2.heap.objs.size (.q6 []),[],[],es,I4,by simp,Cg,λb hb=>?_,Ext.upd fr,zr,rfl,by simpa using hgo,rfl,by simp,QV _⟩
  .rintro n s5 ⟨i,σt,H5,ys,TN,TQ,I5,hσ,X4,TY,x5,xD,An,G1,DP,rfl,hi5⟩
   by_cases qj:i<ds.length
   .
    rw[(Ud qj)]at G1;refine zK (q2O G1) λxs b hu xv DV q4Q=>?_;refine Qi (T.item (zw X s2 H2 sc cl (s2.heap.objs.size+1) (zQ ts X.N) fp) rfl rfl rfl hc i [] s5 _ H5 (λ_ _=>False) I5 (xY TY) X4 (wk.go i H5 x5 (qT▸qj))) (λr s6⟨u,hr,h6⟩=>?_) (λ_ _ z=>z);subst hr;refine Qi h6 (λ_ s7⟨x,H7,I7,r7,y7,RW,Ls⟩=>?_) (λ_ _ z=>z);obtain⟨rfl,hx⟩:=wk.X7 i H5 x H7 x5 (qT▸qj) y7;refine qR (rep.get (i:=i) (d:=ds[i]) (by simp[qj])) λv' yA xX=>?_;rw[hx]at yA;cases yA;have xf:Ext (fz os.flatten H2) (fz (os.flatten++[s2.heap.objs.size]) H7):=λa o e=>by
     unfold fz at e;split at e
     .exact nS e
     .rename_i n;refine wt (x5 a o e) λm=>?_;rcases QA.mp m with m|m
      .exact n m
      .rw[QE.mp m,fr]at e;exact nS e
    refine Qi (hG s2 H2 cl (s2.heap.objs.size+1) fp (λ_ _=>False) _ s7 σt Y H7 (fz (os.flatten++[s2.heap.objs.size]) H7) ds[i] xs x u (I7.pinned (xY Ls) (T.obj _ _ RW)) hσ r7 qu (xX.mono xf) hu) (λ_ s8 zz=>qV zz λFX tX GA I8=>?_) (λ_ _ z=>z);have RL:Rel p (zj xs++Z) (FX.map Qa++Y) (Qr xs.length []++os++[[s2.heap.objs.size]]) H7:=by
     refine⟨?_,λa ha=>?_,?_⟩
     .rw[Et];refine QU.mpr ⟨R2.nd,by simp,λa ha b hb e=>?_⟩;rw[QE.mp hb]at e;obtain⟨o,q⟩:=R2.there a ha;rw[e,fr]at q;exact nS q
     .rw[Et]at ha;rcases QA.mp ha with m|m
      .obtain⟨o,q⟩:=R2.there a m;exact⟨o,x5 _ _ q⟩
      .rw[QE.mp m];exact⟨_,xD⟩
     .rw[Et];exact bU (bV (RU x5 xf R2.slots) tX)
    have qAA:wpAny (model X.prog X.w) X.A (forIn ifs Qd λc r=>if r=Qd then do let ok <-isTrue c (Zh sc cl (s2.heap.objs.size+1) X.env) (Jw c (Zh sc cl (s2.heap.objs.size+1) X.env));pure (YD ok)else pure (YD r))
      (λok s9=>ok=b/\∃H9,Inv (zw X s2 H2 sc cl (s2.heap.objs.size+1) (zQ ts X.N) fp) ([]++CT fp s7.heap) (FX.map Qa++Y) H9 s9/\Ext H7 H9) (λ_ _=>False) s8:=by
     rcases hT s2 H2 cl (s2.heap.objs.size+1) fp with⟨rfl,rfl⟩|⟨c,l,rfl,rfl,qX⟩
     .have:b=Qd:=(by rw[Cs]at xv;cases xv;rfl);exact wpAny_tests_nil ⟨this.symm,H7,I8,Ext.refl _⟩
     .have e1:qz G sub l (zj xs++Z)=.ok b:=by
       rw[Cr]at xv;cases h:qz G sub l (zj xs++Z)with
       |ok t=>
        rw[h]at xv;cases t
        .simpa using xv
        .simpa using xv
       |err c=>rw[h]at xv;cases xv
       |q9=>rw[h]at xv;exact nR xv
      refine wpAny_tests_one (Qi (qX _ _ s8 _ H7 (zj xs++Z) _ (.inl rfl) I8 RL (by rw[e1];simp)) (λt s9 zz=>qV zz λH9 e9 I9 x9=>?_) (λe s' zz=>qR zz λc z _=>by rw[e1]at z;cases z));rw[e1]at e9;cases e9;exact⟨rfl,H9,I9,x9⟩
    refine Qi qAA (λok s9⟨qI,H9,I9,x9⟩=>?_) (λ_ _ z=>z);subst qI;have ni:∀{s':Shared}{Y':L2.St}{H':Hp},Inv (zw X s2 H2 sc cl (s2.heap.objs.size+1) (zQ ts X.N) fp) ([]++CT fp s7.heap) Y' H' s'->tn (i+1) s'.heap/\∀b∈fp,H' b=Qg:=λ{s' Y' H'} I'=>
     ⟨T.keep _ _ _ RW λb hb o e=>(I'.pin (b,o) (Ql _ (Ql _ (Pr hb e)))).1,λb hb=>by obtain⟨o,e,d⟩:=T.obj _ _ RW b hb;exact(I'.pin (b,o) (Ql _ (Ql _ (Pr hb e)))).2.1⟩
    cases ok with
    |false=>
     rw[if_neg (by simp)];obtain⟨k1,k2⟩:=ni I9;exact⟨ds.length-(i+1),∅,i+1,FX.map Qa,H9,ys,TN,TQ,I9.w5,by simpa using GA,k1,k2,x5.trans x9,x9 _ _ xD,An.mono (zO x9),q4Q rfl,DP,rfl,qj⟩
    |true=>
     rw[if_pos rfl];refine qL (DV rfl) λe' zX xx q4G zz=>?_;subst zz;refine Qi (hE s2 H2 cl (s2.heap.objs.size+1) fp _ s9 _ H9 (zj xs++Z) _ I9 (RL.ext x9) (by rw[xx];simp)) (λy s10 h10=>?_) (λe s' zz=>qR zz λc z _=>by rw[xx]at z;cases z);refine qi h10 λd10 IG cW Ee I10 r10 cQ tC=>?_;rw[xx]at Ee;cases Ee;rw[Et]at tC;have hz:TN.length=ys.length:=An.length;have hzb:ys.length<QI:=by have h1:TN.length+(zX.length+1)=es.length:=(by rw[<-DP];simp);have:=vh;lia
     refine Qi (A9 (X:=zw X s2 H2 sc cl (s2.heap.objs.size+1) (zQ ts X.N) fp) _ s10 _ cW (.ref s2.heap.objs.size) [IG] (.ref s2.heap.objs.size) [y] (λz H'=>H'=upd cW s2.heap.objs.size (.q6 (ys++[IG]))) I10 rfl (.cons r10 .nil)
      ⟨_,ys,IG,rfl,rfl,cQ _ _ (x9 _ _ xD),hzb,rfl⟩) (λ_ s11 O6=>?_) (λ_ _ z=>z)
     refine qL O6 λ_ H11 Rf _ zz=>?_;subst zz;obtain⟨k1,k2⟩:=ni Rf;refine⟨ds.length-(i+1),∅,i+1,FX.map Qa,_,ys++[IG],TN++[e'],zX,Rf.w5,by simpa using GA,k1,k2,λa o e=>?_,zr,?_,q4G,by simpa using DP,rfl,qj⟩
     .rw[qY (jJ e fr)];exact cQ _ _ (x9 _ _ (x5 _ _ e))
     .rw[Lx (by simp)];exact(An.mono (zO (x9.trans cQ))).snoc tC
   .have ei:i=ds.length:=∅;subst ei;refine Qi (T.done (zw X s2 H2 sc cl (s2.heap.objs.size+1) (zQ ts X.N) fp) rfl rfl rfl hc ds.length [] s5 _ H5 (λ_ _=>False) I5 (xY TY) X4 (qT▸wk.stop H5 x5)) (λr s6⟨hr,I6⟩=>?_) (λ_ _ z=>z);subst hr;rw[List.drop_length]at G1;have e1:TQ=[]:=(by cases G1;rfl);subst e1;rw[Q3]at DP;subst DP;refine qR I6.loc λm hm _=>?_;refine OA _ _ s6 H5 ?_ x5 ⟨_,ys,rfl,qv.of (wt xD λm=>?_),An.mono (xr λa ha=>QD _ ha)⟩ ⟨m,hm⟩ (I2.xC (J4 _) I6.free) fr
    .exact I2.L4 (ch:=fp) I6.os I6.base I6.qI I6.bare λb hb=>⟨(f2 b hb).2.2.2.1,(f2 b hb).2.1,(f2 b hb).2.2.2.2.1,(f2 b hb).2.2.2.2.2⟩
    .obtain⟨o,q⟩:=R2.there _ m;rw[fr]at q;exact nS q
  .obtain⟨o,e⟩:=ho b hb;rw[qY (QK (Qu e))];exact(f2 b hb).1
 exact codeAny_compStart_list xR (T.self _ 0 _ _ _ Cg xR)
end
section
variable{p:Pm}
def AH{r:R α}{f:α->R β}(h:r.uw.bind f≠.q9):∃a,r=.ok a:=by
 cases r with
 |ok a=>exact⟨a,rfl⟩
 |err c=>cases h rfl
 |q9=>cases h rfl
def cM{fr:Bool}(w:Wk J (if fr then fz os.flatten H else H) vs):Wk J H vs:=by
 cases fr
 .exact w
 .exact w.mono qu
def Lu(ok:X.Ok)(S:ScOk X sc ts):∀x∈sc.names,x.2=.free->∃c,X.env.cells.lookup x.1=Qa c:=λx hx hf=>ok.has x.1 (S.free x hx hf)
def q8S{lc:List T}(hc:X.calm=Qd)(S:ScOk X sc ts)(hi:SI X p G sub fr tg iter li)
  (hE:∀s2 H2 cl C fp,SE (zw X s2 H2 sc cl C (zQ ts X.N) fp) p G sub elt le) (hT:∀s2 H2 cl C fp,E8 (zw X s2 H2 sc cl C (zQ ts X.N) fp) p G sub ifs lc)
  (hG:∀s2 H2 cl C fp,X8 (zw X s2 H2 sc cl C (zQ ts X.N) fp) p tg k ts.length) (XO:∀x,Vx iter X.env x=pure x):
  SE X p G sub (.ListComp elt [⟨tg,iter,ifs,0⟩] sc pos) (.comp k le li lc):=by
 intro pins s Y H Z os I R hs;rw[xA]at hs|-;refine qV (L6 (Lu I.ok S)) λcl kM vi xE=>?_;rw[eval_ListComp];refine Uv (use:=Qg) rfl XO kM S.kind S.names (Qi (hi pins s Y H Z os I R (z7 hs)) (λv s1 h1=>Qi h1 (λuB s2 h2=>?_) (λe s' z=>z.bind)) (λe s' z=>z.bind));refine Eh h2 λds e1 it fp tn J H2 zz I2 T yP f2 x2 vs rep wk=>?_;subst zz;rw[e1,qB]at hs|-;obtain⟨es,ud⟩:=AH hs;rw[ud,vw,qB]at hs|-;have z:es.length<=big:=by
  by_cases z:es.length<=big
  .exact z
  .rw[if_neg z]at hs;cases hs rfl
 rw[if_pos z];refine fM hc S vi xE hE hT hG I2 (R.ext x2) T yP f2 rep (cM wk) ud z λD C s' H' I' x' q' yg fC _=>?_;obtain⟨m,hm⟩:=yg;refine⟨m,hm,λh' ug=>⟨.q6 es,.ref D,H',rfl,?_,rfl,x2.trans x',q'⟩⟩;refine je fC λf0 f1 f2 f3 f4 f5=>?_;exact I'.turned (λb o hb e=>ug.extBut b o hb e) f0 f1 f3 f4 f5
def q9e{fr:Bool}{Cf:Pos}{k:Nat}{le:L}{lc:List T}(hc:X.calm=Qd)(S:ScOk X sc ts)(hi:SI X p G sub fr tg iter li)
  (hE:∀s2 H2 cl C fp,SE (zw X s2 H2 sc cl C (zQ ts X.N) fp) p G sub elt le) (hT:∀s2 H2 cl C fp,E8 (zw X s2 H2 sc cl C (zQ ts X.N) fp) p G sub ifs lc)
  (hG:∀s2 H2 cl C fp,X8 (zw X s2 H2 sc cl C (zQ ts X.N) fp) p tg k ts.length) (XO:∀x,Vx iter X.env x=pure x)
  (hN:X.N.Nodup) (DQ:X.N[i]?=Qa x) (hx:Loc X.env.scope x) (hf:X.fn x=Qd\/X.env.scope.names.lookup x=Qa .local)
  (y9:Y1 (.ListComp elt [⟨tg,iter,ifs,0⟩] sc pos) (Qa (.Name x jK)) Cf.line X.env=pure Qd):
  SS X p G sub (.Assign [.Name x jK] (.ListComp elt [⟨tg,iter,ifs,0⟩] sc pos) Cf) (.set i (.comp k le li lc)):=by
 intro H0 O0 E hp pins s Y H Z os I B hs uY;have e0:ex G sub (.set i (.comp k le li lc)) Z=(ev G sub (.comp k le li lc) Z).go Z λd=>.ok (Z.set i (Qa (.val d))) .nx:=rfl;rw[e0]at hs uY|-;rw[xA]at hs uY|-;refine qV (L6 (Lu I.ok S)) λcl kM vi xE=>?_;rw[exec_Assign_Name_used _ _ _ _ y9];refine Qb (WS (Qb ?_));show wpAny _ X.A (do let _ <-comprehension (.ListComp elt [⟨tg,iter,ifs,0⟩] sc pos) sc X.env _ (newList []) Qh (Jw iter X.env) (Qa (VB (.Name x jK) X.env))) _ _ s;refine Qb (Qi (Uv (use:=Qa (VB (.Name x jK) X.env)) (Q:=λ_ s'=>Gs X p H0 O0 pins (((j8 G sub li Z).bind λds=>(jv (ev G sub le) (kF G sub lc) k Z ds).uw.bind λes=>if es.length<=big then .ok (.q6 es)else .q9).go Z λd=>.ok (Z.set i (Qa (.val d))) .nx) .next s') rfl XO kM S.kind S.names
  (Qi (hi pins s Y H Z _ I B.rel (z7 (zx hs))) (λv s1 h1=>Qi h1 (λuB s2 h2=>?_) (λe s' z=>uY e s' (jn B z.bind))) (λe s' z=>uY e s' (jn B z.bind)))) (λ_ s' hq=>Qf (Qf hq)) λ_ _ e=>e)
 refine Eh h2 λds e1 it fp tn J H2 zz I2 T yP f2 x2 vs rep wk=>?_;subst zz;rw[e1,qB]at hs|-;obtain⟨es,ud⟩:=AH (zx hs);rw[ud,vw,qB]at hs|-;have z:es.length<=big:=by
  by_cases z:es.length<=big
  .exact z
  .rw[if_neg z]at hs;cases hs rfl
 rw[if_pos z];refine fM (RR:=λacc C=>compPost (model X.prog X.w) X.A _ (Qa (VB (.Name x jK) X.env)) _ acc C) hc S vi xE hE hT hG I2 (B.rel.ext x2) T yP f2 rep (cM wk) ud z λD C s' H' I' x' q' yg fC _=>?_;obtain⟨m,hm⟩:=yg;refine je fC λf0 f1 Ll f3 f4 f5=>?_;refine XF (id hm) λoC Lb LU OY DO Oc=>?_;have IP:Inv X (pins++[(C,oC)]) Y H' s':=I'.Pw λq hq=>(QA.mp hq).elim (λz=>I'.pin q (Ql _ z)) λz=>by cases QE.mp z;exact⟨OY,f0,f1,Ll,λv z=>by rw[DO]at z;cases z⟩
 refine UL (wY IP hN DQ hx (v:=.ref D) rfl (λs3 I3=>?_) hf);refine⟨m,⟨oC,Lb,LU,((I3.pin (C,oC) (Ql _ (Ql _ (QE.mpr rfl)))).1),DO,Oc⟩,λh' ug=>⟨_,.nx,_,_,H',rfl,(B.mono (x2.trans x')).X3 (by rw[<-B.jE,I.len];exact(Qj.mp DQ).1) q',?_,trivial⟩⟩;exact I3.w5.turned (t':=s3.toks) (λb o hb e=>ug.extBut b o hb e) f0 f1 f3 f4 f5
end
def vB(r:R D):Prop:=r=.q9\/∃d,r=.ok d
def vM(d:D):vB (.ok d):=.inr ⟨d,rfl⟩
def kW:vB .q9:=.inl rfl
def Fg{r:R D}[Decidable c](h:vB r):vB (if c then r else .q9):=by
 by_cases z:c
 .rw[if_pos z];exact h
 .rw[if_neg z];exact kW
theorem wB(h:∀d,vB (f d)):∀ds,vB (vy f ds)
 |[]=>kW
 |[d]=>h d
 |_::_::_=>kW
theorem dE(h:∀d e,vB (f d e)):∀ds,vB (cF f ds)
 |[]=>kW
 |[_]=>kW
 |[d,e]=>h d e
 |_::_::_::_=>kW
def Fh(h:∀xs,vB (f xs))(d:D):vB (yH f d):=by cases d<;>first|exact kW|exact h _
def dC(h:∀xs,vB (f xs))(d:D):vB (bO f d):=by cases d<;>first|exact kW|exact h _
def dB(h:∀i,vB (f i))(d:D):vB (intD f d):=by cases d<;>first|exact kW|exact h _
def d9(h:∀i,vB (f i))(d:D):vB (Lh f d):=by cases d<;>first|exact kW|exact h _
theorem dA(x:D):∀(l:List D)(n:Nat),vB (idxOf x l n)
 |[],_=>kW
 |y::l,n=>by
  rw[idxOf]
  by_cases z:qD y x=Qd
  .rw[if_pos z];exact vM _
  .rw[if_neg z];exact dA x l (n+1)
def EF(sub:Nat->Nat->Bool)(b:Bi)(ds:List D):zB sub b ds=.q9\/∃r,zB sub b ds=.ok r:=by
 have it:∀d,j9 d=.q9\/∃r,j9 d=.ok r:=λd=>by
  cases d<;>first
   |exact .inr ⟨_,rfl⟩
   |exact .inl rfl
   |skip
  rename_i ks vs;cases z:(ints? ks).isSome with
  |true=>exact .inr ⟨ks,by rw[j9,z];rfl⟩
  |false=>exact .inl (by rw[j9,z];rfl)
 have it2:∀d,yD d=.q9\/∃r,yD d=.ok r:=λd=>by cases d<;>first|exact .inr ⟨_,rfl⟩|exact .inl rfl
 cases b with
 |len=>exact wB (λd=>by cases d<;>first|exact kW|exact vM _) ds
 |sorted=>exact wB (λd=>by rcases it d with z|⟨r,z⟩<;>rw[z];exact kW;exact Fg (vM _)) ds
 |jS=>exact wB (λd=>by rcases it2 d with z|⟨r,z⟩<;>rw[z];exact kW;exact Fg (vM _)) ds
 |tuple=>exact wB (dC λ_=>vM _) ds
 |list=>exact wB (dC λ_=>vM _) ds
 |all=>exact wB (Fh λxs=>by unfold EA;cases bools? xs<;>first|exact kW|exact vM _) ds
 |bits=>exact wB (dB λ_=>Fg (vM _)) ds
 |count=>exact dE (λ_ _=>Fh (λ_=>Fg (vM _)) _) ds
 |index=>exact dE (λ_ _=>Fh (λ_=>Fg (dA _ _ _)) _) ds
 |any=>exact wB (Fh λxs=>by unfold EB;cases bools? xs<;>first|exact kW|exact vM _) ds
 |isTup=>exact wB (λd=>by cases d<;>first|exact kW|exact vM _) ds
 |PN=>exact wB (Fh λ_=>vM _) ds
 |isInt=>exact wB (dB λ_=>vM _) ds
 |isBool=>exact wB (λd=>by cases d<;>first|exact kW|exact vM _) ds
 |isVal=>exact wB (d9 λ_=>vM _) ds
 |isExc c=>exact wB (d9 λ_=>vM _) ds
def BS(X:Cx)(p:Pm)(sub:Nat->Nat->Bool)(b:Bi)(fv:Value):Prop:=
 ∀(E:NZ)(pins:List (Addr×Obj))(s:Shared)(Y:L2.St)(H:Hp)(os:List (List Addr))(d r:D)(v:V)(u:Value),Inv X pins Y H s->Th os.flatten H->RelV v u->j6 p H (fz os.flatten H) d v->zB sub b [d]=.ok r->
  wpAny (model X.prog X.w) X.A (call fv [u]) (EP (X.qn E) pins Y (Fin p os.flatten H r)) E s
section
variable{p:Pm}
def Ca(ha:SB X p G sub a l)(qX:Q5 [a] X.env=[(Qh,Jw a X.env)]){Q:List Value->Shared->Prop}(I:Inv X pins Y H s)(R:Rel p Z Y os H)(hs:ev G sub l Z≠.q9)
  (hq:∀u s1,Gb X p pins Y os H (ev G sub l Z) u s1->Q [u] s1) (he:∀e s',Er X p pins Y H (ev G sub l Z) e s'->E e s'):wpAny (model X.prog X.w) X.A (Us (UO pos (Q5 [a] X.env))) Q E s:=by
 rw[qX];exact QW (Qi (ha pins s Y H Z os I R hs) (λu s1 h=>Q0 (hq u s1 h)) he)
def RF{f:D->R α}(l:L)(Z:Ev.Env)(g:List D->R α)(h:∀d,g [d]=f d):(zg G sub [l] Z).bind g=(ev G sub l Z).bind f:=by rw[kJ,jW];cases ev G sub l Z<;>first|exact h _|rfl
def dY{s1:Shared}{b:Bi}{fv:Value}(hB:BS X p sub b fv)(R:Rel p Z Y os H)(hs:ev G sub (.bi b [l]) Z≠.q9)(h:Gb X p pins Y os H (ev G sub l Z) u s1):
  wpAny (model X.prog X.w) X.A (call fv [u]) (Gd X p pins Y os H (ev G sub (.bi b [l]) Z)) (Er X p pins Y H (ev G sub (.bi b [l]) Z)) s1:=by
 refine qi h λd v H1 e1 I1 r1 x1 q1=>?_;have e0:ev G sub (.bi b [l]) Z=zB sub b [d]:=by rw[jA,RF l Z _ (λ_=>rfl),e1];rfl
 rw[e0]at hs|-;rcases EF sub b [d]with z|⟨r,z⟩
 .exact absurd z hs
 .rw[z];exact Qi (hB (Er X p pins Y H (.ok r)) pins s1 Y H1 os d r v u I1 (R.ext x1).th r1 q1 z) (λw s2 h2=>TM x1 rfl h2) λ_ _ z=>z
def Fl{b:Bi}{e:Value}(h:Er X p pins Y H (ev G sub l Z) e s'):Er X p pins Y H (ev G sub (.bi b [l]) Z) e s':=by rw[jA,RF l Z _ (λ_=>rfl)];exact h.bind
def Fm{b:Bi}(hs:ev G sub (.bi b [l]) Z≠.q9):ev G sub l Z≠.q9:=λe=>hs (by rw[jA,RF l Z _ (λ_=>rfl),e];rfl)
def Aq{id:String}{b:Bi}(hB:BS X p sub b (.builtin id))(hg:Gl X x)(hm:X.mg x=Qg)(hv:bootBuiltins x=Qa (.builtin id))(ha:SB X p G sub a l)
  (hn:x≠"__name__") (XM:(x==("__debug__":Str))=Qh) (qX:Q5 [a] X.env=[(Qh,Jw a X.env)]):SE X p G sub (.Call (.Name x q) [a] [] pos) (.bi b [l]):=by
 intro pins s Y H Z os I R hs;refine Je (jr I hg hm hv ?_ hn XM);exact Yl (Ca ha qX I R (Fm hs) (λu s1 h=>dY hB R hs h) (λ_ _=>Fl)) qX rfl
def q04{T:String}{b:Bi}(hB:BS X p sub b (.type T))(hg:Gl X x)(hm:X.mg x=Qg)(hv:bootBuiltins x=Qa (.type T))(ha:SB X p G sub a l)
  (hn:x≠"__name__") (XM:(x==("__debug__":Str))=Qh) (qX:Q5 [a] X.env=[(Qh,Jw a X.env)]):SE X p G sub (.Call (.Name x q) [a] [] pos) (.bi b [l]):=by
 intro pins s Y H Z os I R hs;refine Je (jr I hg hm hv ?_ hn XM);exact Q2 (Ca ha qX I R (Fm hs) (λu s1 h=>dY hB R hs h) (λ_ _=>Fl)) qX rfl
def q23(hK:p.K=X.K):BS X p sub .len (.builtin "len"):=by
 intro E pins s Y H os d r v u I t rv q h;cases d<;>first
  |(cases h;done)
  |skip
 .cases h;obtain⟨rfl,z⟩:=q;exact q2D pins s Y H _ _ _ (I.qn E) (.cons rv .nil) ⟨_,rfl,Qx z vh,fin_same rfl⟩
 .cases h;refine zK q λa vs zz s1 z r1=>?_;subst zz;refine eS pins s Y H _ _ _ (I.qn E) (.cons rv .nil) ⟨a,vs,rfl,.inr (hK▸qu.jT s1),?_⟩;rw[<-r1.length];exact fin_same rfl
 .cases h;refine qL q λa vs zz s1 r1=>?_;subst zz;refine eS pins s Y H _ _ _ (I.qn E) (.cons rv .nil) ⟨a,vs,rfl,.inl (hK▸s1),?_⟩;rw[<-r1.length];exact fin_same rfl
 .cases h;refine zK q λa kvs qe s1 qf r1=>?_;subst qe qf;cases rv;refine q2X I s1 λt s' I'=>⟨.int _,H,I'.qn E,⟨t,rfl⟩,?_⟩
  rw[Qm];exact fin_same rfl
def q26(hK:p.K=X.K):BS X p sub .tuple (.type "tuple"):=by
 intro E pins s Y H os d r v u I t rv q h;cases d<;>first
  |(cases h;done)
  |skip
 .cases h;refine zK q λa vs zz s1 z r1=>?_;subst zz;exact eU pins s Y H _ _ _ (I.qn E) (.cons rv .nil) ⟨a,vs,rfl,.inr ⟨hK▸qu.jT s1,fin_same ⟨a,vs,rfl,s1,z,r1⟩⟩⟩
 .cases h;refine qL q λa vs zz s1 r1=>?_;subst zz;have RN:=hK▸s1;refine qV (I.list RN) λ_ _ _ hz=>?_;exact eU pins s Y H _ _ _ (I.qn E) (.cons rv .nil) ⟨a,vs,rfl,.inl ⟨RN,λl hl=>Ln t r1 hz hl⟩⟩
def q24(hK:p.K=X.K):BS X p sub .list (.type "list"):=by
 intro E pins s Y H os d r v u I t rv q h;cases d<;>first
  |(cases h;done)
  |skip
 .cases h;refine zK q λa vs zz s1 z r1=>?_;subst zz;exact eT pins s Y H _ _ _ (I.qn E) (.cons rv .nil) ⟨a,vs,rfl,.inr (hK▸qu.jT s1),λl hl=>XH t r1 hl⟩
 .cases h;refine qL q λa vs zz s1 r1=>?_;subst zz;exact eT pins s Y H _ _ _ (I.qn E) (.cons rv .nil) ⟨a,vs,rfl,.inl (hK▸s1),λl hl=>XH t r1 hl⟩
def q15(r:Vals vs us)(h:us[i]?=Qa u):∃v,vs[i]?=Qa v/\RelV v u:=by
 cases e:vs[i]?with
 |none=>rw[r.none_of e]at h;cases h
 |some v=>
  obtain⟨u',h1,h2⟩:=r.get e;rw[h]at h1;cases h1;exact⟨v,rfl,h2⟩
theorem Io{Hf:Hp}:∀{ds:List D}{bs:List Bool}{vs:List V},bools? ds=Qa bs->qM p Hf ds vs->vs=bs.map V.bl
 |[],bs,vs,h,r=>by cases h;exact r
 |.bl b::ds,bs,vs,h,r=>by
  obtain⟨v,r',rfl,h1,h2⟩:=r;have h':(bools? ds).map (b::·)=Qa bs:=h;cases e:bools? ds with
  |none=>rw[e]at h';cases h'
  |some bs'=>
   rw[e]at h';cases h';cases h1;rw[Io e h2];rfl
 |.qE::_,_,_,h,_=>by cases h
 |.int _::_,_,_,h,_=>by cases h
 |.str _::_,_,_,h,_=>by cases h
 |.qA _::_,_,_,h,_=>by cases h
 |.q6 _::_,_,_,h,_=>by cases h
 |.qJ _ _::_,_,_,h,_=>by cases h
 |.exc _::_,_,_,h,_=>by cases h
theorem range_all{α:Type}(f:α->Bool)(d:α):∀(l:List α),(Qt l.length).all (λi=>f (l.getD i d))=l.all f
 |[]=>rfl
 |a::l=>by rw[QG,all_succ,Vm];congr 1;exact range_all f d l
def q21(hK:p.K=X.K)(hc:X.calm=Qd):BS X p sub .all (.builtin "all"):=by
 intro E pins s Y H os d r v u I t rv q h;cases d<;>first
  |(cases h;done)
  |skip
 rename_i xs;replace h:EA _=.ok r:=h;unfold EA at h;split at h
 .rename_i bs hb;cases h;refine qL q λa vs zz s1 r1=>?_;subst zz;have e0:=Io hb r1;subst e0;cases rv;refine qV (I.list (hK▸s1:qv X.K H a _)) λits rv pt hz=>?_;have hl:its.length=bs.length:=by rw[<-rv.length];simp
  refine call_all_walk (UP pt.isList ⟨_,_,_,_,_,_,λi=>bs.getD i Qh,rfl,Walks.list (A:=X.A.in1) (I.ok.hd hc) s.heap.objs.size a (QK (by obtain⟨_,e,_⟩:=pt.isList;exact Qu e)) its.toArray,⟨⟨_,QH _ rfl,rfl,rfl⟩,pt.isList.push _⟩,λi v s Q E hP hQ=>?_,λh' tk hk=>?_⟩)
  .
   obtain⟨w,hw,vI⟩:=q15 rv (by simpa using hP);rw[QJ]at hw;cases eb:bs[i]?with
   |none=>rw[eb]at hw;cases hw
   |some b=>
    rw[eb]at hw;cases hw;cases vI;refine Yy ?_;have e2:bs.getD i Qh=b:=(by simp[JH,eb]);dsimp only at hQ;rw[e2]at hQ;exact hQ
  .refine⟨.bl _,H,(I.qn E).kept λb o e=>hk b o (by simp;exact QK (Qu e)) (Qk _ e),rfl,?_⟩;have:(Qt its.toArray.size).all (λi=>bs.getD i Qh)=bs.all id:=by rw[QB,hl];exact range_all id Qh bs
   rw[this];exact fin_same rfl
 .cases h
def range_any(bs:List Bool):(Qt bs.length).any (λi=>bs.getD i Qh)=bs.any id:=by
 rw[QR,Jc,Jc];constructor
 .rintro⟨i,hi,h⟩;have hi:=QN.mp hi;refine⟨bs[i],Jl hi,?_⟩;simpa[JH,hi]using h
 .rintro⟨b,hb,h⟩;obtain⟨i,hi,rfl⟩:=Hh.mp hb;exact⟨i,QN.mpr hi,by simpa[JH,hi]using h⟩
def q22(hK:p.K=X.K)(hc:X.calm=Qd):BS X p sub .any (.builtin "any"):=by
 intro E pins s Y H os d r v u I t rv q h;cases d<;>first
  |(cases h;done)
  |skip
 rename_i xs;replace h:EB _=.ok r:=h;unfold EB at h;split at h
 .rename_i bs hb;cases h;refine qL q λa vs zz s1 r1=>?_;subst zz;have e0:=Io hb r1;subst e0;cases rv;refine qV (I.list (hK▸s1:qv X.K H a _)) λits rv pt hz=>?_;have hl:its.length=bs.length:=by rw[<-rv.length];simp
  refine call_any_walk (UP pt.isList ⟨_,_,_,_,_,_,λi=>bs.getD i Qh,rfl,Walks.list (A:=X.A.in1) (I.ok.hd hc) s.heap.objs.size a (QK (by obtain⟨_,e,_⟩:=pt.isList;exact Qu e)) its.toArray,⟨⟨_,QH _ rfl,rfl,rfl⟩,pt.isList.push _⟩,λi v s Q E hP hQ=>?_,λh' tk hk=>?_⟩)
  .
   obtain⟨w,hw,vI⟩:=q15 rv (by simpa using hP);rw[QJ]at hw;cases eb:bs[i]?with
   |none=>rw[eb]at hw;cases hw
   |some b=>
    rw[eb]at hw;cases hw;cases vI;refine Yy ?_;have e2:bs.getD i Qh=b:=(by simp[JH,eb]);dsimp only at hQ;rw[e2]at hQ;exact hQ
  .refine⟨.bl _,H,(I.qn E).kept λb o e=>hk b o (by simp;exact QK (Qu e)) (Qk _ e),rfl,?_⟩;have:(Qt its.toArray.size).any (λi=>bs.getD i Qh)=bs.any id:=by rw[QB,hl];exact range_any bs
   rw[this];exact fin_same rfl
 .cases h
end
end Snd
namespace qo
open PySem PySem.W PyProof.Rows
variable{c:Nat->Nat->Bool}{n i j m:Nat}{p:Array Nat}{α:Type}
def run{α:Type}(c:Nat->Nat->Bool):KasT α->α
 |.ret a=>a
 |.ask i j k=>run c (k (c i j))
theorem run_bind{α β:Type}(c:Nat->Nat->Bool)(f:α->KasT β):∀t:KasT α,run c (t.bind f)=run c (f (run c t))
 |.ret a=>rfl
 |.ask i j k=>run_bind c f (k (c i j))
def w9{α:Type}(c:Nat->Nat->Bool)(n:Nat):KasT α->Prop
 |.ret _=>True
 |.ask i j k=>i<n/\j<n/\w9 c n (k (c i j))
theorem T9{α β:Type}{c:Nat->Nat->Bool}{n:Nat}{f:α->KasT β}:∀{t:KasT α},w9 c n t->w9 c n (f (run c t))->w9 c n (t.bind f)
 |.ret a,_,h=>h
 |.ask i j k,h1,h=>⟨h1.1,h1.2.1,T9 h1.2.2 h⟩
theorem cN{α:Type}{cmp:Nat->Nat->(Bool->Shared->Prop)->Shared->Prop}{c:Nat->Nat->Bool}{n:Nat}{s:Shared}{Q:α->Shared->Prop}(hc:∀i j C,i<n->j<n->C (c i j) s->cmp i j C s):∀(t:KasT α),w9 c n t->Q (run c t) s->t.kasWp cmp Q s
 |.ret a,_,h=>h
 |.ask i j k,b,h=>hc i j _ b.1 b.2.1 (cN hc (k (c i j)) b.2.2 h)
structure Ord(c:Nat->Nat->Bool)(n:Nat):Prop where
 irr:∀i,i<n->c i i=Qh
 c6:∀i j,i<n->j<n->i≠j->c i j=Qh->c j i=Qd
 tr:∀i j k,i<n->j<n->k<n->c i j=Qd->c j k=Qd->c i k=Qd
def at_(p:Array Nat)(i:Nat):Nat:=p.getD i 0
structure Pm(p:Array Nat)(n:Nat):Prop where
 sz:p.size=n
 lt:∀i,i<n->at_ p i<n
 inj:∀i j,i<n->j<n->at_ p i=at_ p j->i=j
def Up(c:Nat->Nat->Bool)(p:Array Nat)(m:Nat):Prop:=∀i j,i<j->j<m->c (at_ p i) (at_ p j)=Qd
def Dn(c:Nat->Nat->Bool)(p:Array Nat)(m:Nat):Prop:=∀i j,i<j->j<m->c (at_ p j) (at_ p i)=Qd
def Ord.q1W(o:Ord c n)(hi:i<n)(hj:j<n)(h:c i j=Qd):c j i=Qh:=by
 cases e:c j i with
 |false=>rfl
 |true=>have:=o.tr i j i hi hj hi h e;rw[o.irr i hi]at this;cases this
def Up.succ(o:Ord c n)(P:Pm p n)(h1:1<=m)(hm:m<n)(u:Up c p m)(h:c (at_ p (m-1)) (at_ p m)=Qd):Up c p (m+1):=λi j vj hj=>by
 by_cases e:j<m
 .exact u i j vj e
 .have e:j=m:=∅
  subst e
  by_cases e2:i=j-1
  .rw[e2];exact h
  .exact o.tr _ (at_ p (j-1)) _ (P.lt _ ∅) (P.lt _ ∅) (P.lt _ hm) (u i (j-1) ∅ ∅) h
def Dn.succ(o:Ord c n)(P:Pm p n)(h1:1<=m)(hm:m<n)(u:Dn c p m)(h:c (at_ p m) (at_ p (m-1))=Qd):Dn c p (m+1):=λi j vj hj=>by
 by_cases e:j<m
 .exact u i j vj e
 .have e:j=m:=∅
  subst e
  by_cases e2:i=j-1
  .rw[e2];exact h
  .exact o.tr _ (at_ p (j-1)) _ (P.lt _ hm) (P.lt _ ∅) (P.lt _ ∅) h (u i (j-1) ∅ ∅)
def Xv(i j:Nat)(k:Bool->KasT α):run c (.ask i j k)=run c (k (c i j)):=rfl
def XC{k:Bool->KasT α}(h1:i<n)(h2:j<n)(h:w9 c n (k (c i j))):w9 c n (.ask i j k):=⟨h1,h2,h⟩
theorem Ie(o:Ord c n){p:Array Nat}(P:Pm p n):∀(f m:Nat),1<=m->m+f=n->Up c p m->w9 c n (kas_asc p f m)/\∃r,run c (kas_asc p f m)=r/\m<=r/\r<=n/\Up c p r/\(r=n\/c (at_ p r) (at_ p (r-1))=Qd)
 |0,m,h1,hn,u=>⟨trivial,m,rfl,Qs _,∅,u,.inl ∅⟩
 |f+1,m,h1,hn,u=>by
  have hm:m<n:=∅
  have e0:kas_asc p (f+1) m=.ask (p.getD m 0) (p.getD (m-1) 0) λc=>if c=Qd then .ret m else kas_asc p f (m+1):=rfl
  rw[e0];cases e:c (at_ p m) (at_ p (m-1))with
  |true=>
   have e':c (p.getD m 0) (p.getD (m-1) 0)=Qd:=e;refine⟨XC (P.lt m hm) (P.lt (m-1) ∅) ?_,m,?_,Qs _,UB hm,u,.inr e⟩
   .rw[e'];trivial
   .rw[Xv,e'];rfl
  |false=>
   have e':c (p.getD m 0) (p.getD (m-1) 0)=Qh:=e;have up:=u.succ o P h1 hm (o.c6 _ _ (P.lt m hm) (P.lt (m-1) ∅) (λz=>by have:=P.inj m (m-1) hm ∅ z;lia) e);obtain⟨b1,r,b2,b3,b4,b5,b6⟩:=Ie o P f (m+1) ∅ ∅ up;refine⟨XC (P.lt m hm) (P.lt (m-1) ∅) ?_,r,?_,∅,b4,b5,b6⟩
   .rw[e'];exact b1
   .rw[Xv,e'];exact b2
theorem gn(o:Ord c n){p:Array Nat}(P:Pm p n):∀(f m:Nat),1<=m->m+f=n->Dn c p m->w9 c n (Wq f p m 0)/\∃r,run c (Wq f p m 0)=(p,r,0)/\m<=r/\r<=n/\Dn c p r
 |0,m,h1,hn,u=>⟨trivial,m,rfl,Qs _,∅,u⟩
 |f+1,m,h1,hn,u=>by
  have hm:m<n:=∅
  have e0:Wq (f+1) p m 0=.ask (p.getD m 0) (p.getD (m-1) 0) λc=>if c=Qd then Wq f p (m+1) 0
   else .ask (p.getD (m-1) 0) (p.getD m 0) λd=>if d=Qd then .ret (p,m,0)else Wq f p (m+1) (0+1):=rfl
  rw[e0];cases e:c (at_ p m) (at_ p (m-1))with
  |true=>
   have e':c (p.getD m 0) (p.getD (m-1) 0)=Qd:=e;obtain⟨b1,r,b2,b3,b4,b5⟩:=gn o P f (m+1) ∅ ∅ (u.succ o P h1 hm e);refine⟨XC (P.lt m hm) (P.lt (m-1) ∅) ?_,r,?_,∅,b4,b5⟩
   .rw[e'];exact b1
   .rw[Xv,e'];exact b2
  |false=>
   have e':c (p.getD m 0) (p.getD (m-1) 0)=Qh:=e;have e2:c (at_ p (m-1)) (at_ p m)=Qd:=o.c6 _ _ (P.lt m hm) (P.lt (m-1) ∅) (λz=>by have:=P.inj m (m-1) hm ∅ z;lia) e;have D0:c (p.getD (m-1) 0) (p.getD m 0)=Qd:=e2;refine⟨XC (P.lt m hm) (P.lt (m-1) ∅) ?_,m,?_,Qs _,UB hm,u⟩
   .rw[e'];refine XC (P.lt (m-1) ∅) (P.lt m hm) ?_;rw[D0];trivial
   .rw[Xv,e'];show run c (KasT.ask (p.getD (m-1) 0) (p.getD m 0) λd=>if d=Qd then .ret (p,m,0)else Wq f p (m+1) (0+1))=_;rw[Xv,D0];rfl
def CW(hm:m<=p.size)(k:Nat):at_ (WE p 0 m) k=if k<m then at_ p (m-1-k)else at_ p k:=by
 have g:∀(q:Array Nat)(i:Nat),at_ q i=q[i]?.getD 0:=λq i=>by unfold at_;simp[Yc]
 rw[g,show WE p 0 m=mirror p 0 m ((m-0)/2) from rfl,(getElem?_mirror_all (xs:=p) (i:=0) (j:=m) hm k)]
 by_cases h:k<m
 .rw[if_pos ⟨QV _,h⟩,if_pos h,g];congr 2;lia
 .rw[if_neg (λz=>h z.2),if_neg h,g]
def Pm.rev(P:Pm p n)(hm:m<=n):Pm (WE p 0 m) n:=by
 have hs:m<=p.size:=by rw[P.sz];exact hm
 refine⟨by rw[show WE p 0 m=mirror p 0 m ((m-0)/2) from rfl,mirror_size,P.sz],λi hi=>?_,λi j hi hj h=>?_⟩
 .rw[CW hs];split
  .exact P.lt _ ∅
  .exact P.lt _ hi
 .rw[CW hs,CW hs]at h;split at h<;>split at h
  .have:=P.inj _ _ ∅ ∅ h;lia
  .have:=P.inj _ _ ∅ ∅ h;lia
  .have:=P.inj _ _ ∅ ∅ h;lia
  .exact P.inj _ _ hi hj h
def Dn.rev(hm:m<=p.size)(d:Dn c p m):Up c (WE p 0 m) m:=λi j vj hj=>by rw[CW hm,CW hm,if_pos ∅,if_pos hj];exact d _ _ ∅ ∅
def q2Q(o:Ord c n)(hn:2<=n)(P:Pm p n):w9 c n (kas_count n p)/\∃m q,run c (kas_count n p)=(m,q)/\1<=m/\m<=n/\Pm q n/\Up c q m:=by
 obtain⟨a1,r,hr,a2,a3,a4,a5⟩:=Ie o P (n-1) 1 (Qs _) ∅ (λi j vj hj=>by lia);have q45:∀t,t=(if(r==n)=Qd then KasT.ret (r,p)else if r>1 then .ask (p.getD 0 0) (p.getD (r-1) 0) λc=>if c=Qd then .ret (r,p)else kas_descPart r n (WE p 0 r)else kas_descPart r n p)->w9 c n t/\∃m q,run c t=(m,q)/\1<=m/\m<=n/\Pm q n/\Up c q m:=by
  intro t ht
  by_cases e:r=n
  .rw[if_pos (by simp[e])]at ht;subst ht;exact⟨trivial,r,p,rfl,a2,a3,P,a4⟩
  .rw[if_neg (by simpa using e)]at ht
   by_cases e2:r>1
   .rw[if_pos e2]at ht;have h0:c (p.getD 0 0) (p.getD (r-1) 0)=Qd:=a4 0 (r-1) ∅ ∅;subst ht;refine⟨XC (P.lt 0 ∅) (P.lt (r-1) ∅) ?_,r,p,?_,a2,a3,P,a4⟩
    .rw[h0];trivial
    .rw[Xv,h0];rfl
   .rw[if_neg e2]at ht;have er:r=1:=∅;subst er;have qj:c (at_ p 1) (at_ p 0)=Qd:=by
     rcases a5 with z|z
     .exact absurd z e
     .exact z
    have d2:Dn c p 2:=λi j vj hj=>by have e1:i=0:=∅;have e2:j=1:=∅;subst e1 e2;exact qj
    obtain⟨b1,m,b2,b3,b4,b5⟩:=gn o P (n-2) 2 ∅ ∅ d2;obtain⟨k1,k0,k00,k2,k3,k4,k5⟩:=Ie o (P.rev b4) (n-m) m ∅ ∅ (b5.rev (by rw[P.sz];exact b4));have r3:run c (kas_tail3 m n p)=(k0,WE p 0 m):=by unfold kas_tail3;rw[run_bind,k00];rfl
    have dp:kas_descPart 1 n p=(Wq (n-2) p 2 0).bind λr=>if r.2.2>0 then kas_tail3 r.2.1 n (WE r.1 (r.2.1-(r.2.2+1)) r.2.1)else kas_tail3 r.2.1 n r.1:=rfl
    subst ht;rw[dp];refine⟨T9 b1 ?_,_,_,?_,∅,k3,P.rev b4,k4⟩
    .rw[b2];dsimp only;rw[if_neg (by simp)];exact(T9 k1 trivial)
    .rw[run_bind,b2];dsimp only;rw[if_neg (by simp)];exact r3
 obtain⟨g1,g2⟩:=q45 _ rfl;refine⟨?_,?_⟩
 .unfold kas_count;refine T9 a1 ?_;rw[hr];exact g1
 .unfold kas_count;rw[run_bind,hr];exact g2
theorem bD(o:Ord c n){p:Array Nat}(P:Pm p n){k:Nat}(hk:k<n)(u:Up c p k):∀(f l r:Nat),l<=r->r<=k->r-l<=f->(∀i,i<l->c (at_ p i) (at_ p k)=Qd)->(∀i,r<=i->i<k->c (at_ p k) (at_ p i)=Qd)->
  w9 c n (kas_place p k f l r)/\∃m,run c (kas_place p k f l r)=m/\m<=k/\(∀i,i<m->c (at_ p i) (at_ p k)=Qd)/\∀i,m<=i->i<k->c (at_ p k) (at_ p i)=Qd
 |0,l,r,hlr,hrk,hf,h1,h2=>⟨trivial,l,rfl,∅,h1,λi hi=>h2 i ∅⟩
 |f+1,l,r,hlr,hrk,hf,h1,h2=>by
  unfold kas_place
  by_cases e:l≥r
  .rw[if_pos e];exact⟨trivial,l,rfl,∅,h1,λi hi=>h2 i ∅⟩
  .rw[if_neg e];have hmid:(l+r)/2<r:=∅;cases q:c (at_ p k) (at_ p ((l+r)/2))with
   |true=>
    have q':c (p.getD k 0) (p.getD ((l+r)/2) 0)=Qd:=q;obtain⟨b1,m,b2,b3⟩:=bD o P hk u f l ((l+r)/2) ∅ ∅ ∅ h1 (λi hi hik=>by
     by_cases e3:i=(l+r)/2
     .rw[e3];exact q
     .exact o.tr _ (at_ p ((l+r)/2)) _ (P.lt _ hk) (P.lt _ ∅) (P.lt _ ∅) q (u _ _ ∅ hik))
    refine⟨XC (P.lt k hk) (P.lt _ ∅) ?_,m,?_,b3⟩
    .rw[q'];exact b1
    .rw[Xv,q'];exact b2
   |false=>
    have q':c (p.getD k 0) (p.getD ((l+r)/2) 0)=Qh:=q;have q2:=o.c6 _ _ (P.lt k hk) (P.lt ((l+r)/2) ∅) (λz=>by have:=P.inj k ((l+r)/2) hk ∅ z;lia) q;obtain⟨b1,m,b2,b3⟩:=bD o P hk u f ((l+r)/2+1) r ∅ hrk ∅ (λi hi=>by
     by_cases e3:i=(l+r)/2
     .rw[e3];exact q2
     .exact o.tr _ (at_ p ((l+r)/2)) _ (P.lt _ ∅) (P.lt _ ∅) (P.lt _ hk) (u _ _ ∅ ∅) q2) h2
    refine⟨XC (P.lt k hk) (P.lt _ ∅) ?_,m,?_,b3⟩
    .rw[q'];exact b1
    .rw[Xv,q'];exact b2
def Fo{k:Nat}(hk:k<p.size)(hm:m<=k)(i:Nat):at_ (bubble p k (k-m)) i=if i=m then at_ p k else if m<i/\i<=k then at_ p (i-1)else at_ p i:=by
 have e:=getElem?_bubble hk (k-m) ∅ i;have g:∀(q:Array Nat)(i:Nat),at_ q i=q[i]?.getD 0:=λq i=>by unfold at_;simp[Yc]
 rw[show k-(k-m)=m by lia]at e;rw[g,e];split
 .rw[g]
 .split
  .rw[g]
  .rw[g]
theorem df(o:Ord c n):∀(f:Nat)(p:Array Nat)(k:Nat),Pm p n->1<=k->k+f=n->Up c p k->w9 c n (kas_bin f p k)/\Pm (run c (kas_bin f p k)) n/\Up c (run c (kas_bin f p k)) n
 |0,p,k,P,h1,hn,u=>⟨trivial,P,show Up c p n from(show k=n by lia)▸u⟩
 |f+1,p,k,P,h1,hn,u=>by
  have hk:k<n:=∅
  obtain⟨b1,m,hm,b2,b3,b4⟩:=bD o P hk u k 0 k (QV _) (Qs _) ∅ (λi hi=>by lia) (λi hi G9=>by lia);have DR:k<p.size:=by rw[P.sz];exact hk
  have P':Pm (bubble p k (k-m)) n:=by
   refine⟨by rw[bubble_size,P.sz],λi hi=>?_,λi j hi hj h=>?_⟩
   .rw[Fo DR b2];split
    .exact P.lt _ hk
    .split
     .exact P.lt _ ∅
     .exact P.lt _ hi
   .rw[Fo DR b2,Fo DR b2]at h;split at h
    .split at h
     .lia
     .split at h
      .have:=P.inj _ _ hk ∅ h;lia
      .have:=P.inj _ _ hk hj h;lia
    .split at h
     .split at h
      .have:=P.inj _ _ ∅ hk h;lia
      .split at h
       .have:=P.inj _ _ ∅ ∅ h;lia
       .have:=P.inj _ _ ∅ hj h;lia
     .split at h
      .have:=P.inj _ _ hi hk h;lia
      .split at h
       .have:=P.inj _ _ hi ∅ h;lia
       .exact P.inj _ _ hi hj h
  have u':Up c (bubble p k (k-m)) (k+1):=λi j vj hj=>by
   rw[Fo DR b2,Fo DR b2]
   by_cases ei:i=m
   .rw[if_pos ei,if_neg ∅,if_pos ∅];exact b4 _ ∅ ∅
   .rw[if_neg ei]
    by_cases ej:j=m
    .rw[if_neg ∅,if_pos ej];exact b3 _ ∅
    .rw[if_neg ej]
     by_cases i4:m<i/\i<=k
     .rw[if_pos i4,if_pos ∅];exact u _ _ ∅ ∅
     .rw[if_neg i4]
      by_cases i5:m<j/\j<=k
      .rw[if_pos i5];exact u _ _ ∅ ∅
      .rw[if_neg i5];exact u _ _ vj ∅
  obtain⟨d1,d2,d3⟩:=df o f _ (k+1) P' ∅ ∅ u';have e0:kas_bin (f+1) p k=(kas_place p k k 0 k).bind λl=>kas_bin f (bubble p k (k-l)) (k+1):=rfl;rw[e0];refine⟨T9 b1 (by rw[hm];exact d1),?_,?_⟩
  .rw[run_bind,hm];exact d2
  .rw[run_bind,hm];exact d3
def bE:Pm (QP (Qt n)) n:=by
 have e:∀i,i<n->at_ (QP (Qt n)) i=i:=λi hi=>by simp[at_,Yc,hi]
 refine⟨by simp,λi hi=>by rw[e i hi];exact hi,λi j hi hj h=>?_⟩;rw[e i hi,e j hj]at h;exact h
def q0c(o:Ord c n)(hn:2<=n):w9 c n (YY n)/\Pm (run c (YY n)) n/\Up c (run c (YY n)) n:=by
 obtain⟨a1,m,q,a2,a3,a4,a5,a6⟩:=q2Q o hn (bE (n:=n));unfold YY
 by_cases e:m<n
 .obtain⟨b1,b2,b3⟩:=df o (n-max m 1) q (max m 1) a5 ∅ ∅ (by rw[show max m 1=m by lia];exact a6);refine⟨T9 a1 (by rw[a2];dsimp only;rw[if_pos e];exact b1),?_,?_⟩
  .rw[run_bind,a2];dsimp only;rw[if_pos e];exact b2
  .rw[run_bind,a2];dsimp only;rw[if_pos e];exact b3
 .refine⟨T9 a1 (by rw[a2];dsimp only;rw[if_neg e];trivial),?_,?_⟩
  .rw[run_bind,a2];dsimp only;rw[if_neg e];exact a5
  .rw[run_bind,a2];dsimp only;rw[if_neg e];have:m=n:=∅;subst this;exact a6
theorem len_sub:∀{a b:List Nat},a.Nodup->(∀x∈a,x∈b)->a.length<=b.length
 |[],_,_,_=>QV _
 |x::a,b,nd,h=>by have hx:=h x Qe;have jQ:=QQ.mp nd;have:=len_sub jQ.2 λy hy=>(Hi (λ(z:y=x)=>jQ.1 (z▸hy))).mpr (h y (Qc _ hy));rw[Um hx]at this;have:=FE hx;simp;lia
def Pm.perm(P:Pm p n):p.toList.Perm (Qt n):=by
 have e:p.toList=(Qt n).map (at_ p):=by
  refine Vj λi=>?_
  by_cases h:i<n
  .have hs:i<p.size:=(by rw[P.sz];exact h);rw[QJ,Ug h,YN];simp[at_,Yc,hs]
  .rw[JD (by simp[P.sz];lia),JD (by simp;lia)]
 have nd:p.toList.Nodup:=by
  rw[e];refine Jd.mpr (JB.mpr λi j hi hj vj h=>?_);have XQ:i<n:=by simpa using hi
  have hj':j<n:=by simpa using hj
  have:=P.inj i j XQ hj' (by simpa using h);lia
 refine(JN nd Vq).mpr λa=>⟨λh=>?_,λh=>?_⟩
 .rw[e]at h;obtain⟨i,hi,rfl⟩:=Qn.mp h;exact QN.mpr (P.lt i (QN.mp hi))
 .refine Decidable.byContradiction λOX=>?_;have Og:∀x∈p.toList,x∈(Qt n).erase a:=λx hx=>by refine(List.Nodup.mem_erase_iff Vq).mpr ⟨λz=>OX (z▸hx),?_⟩;rw[e]at hx;obtain⟨i,hi,rfl⟩:=Qn.mp hx;exact QN.mpr (P.lt i (QN.mp hi))
  have OR:=len_sub nd Og;rw[Um h,Q1,J8,P.sz]at OR;have:=QN.mp h;lia
section
variable{prog:Program}{w:World}{A:Around}{E:NZ}{s:Shared}
def pick{α:Type}(p:Array Nat)(xs:List α)(d:α):List α:=p.toList.map λi=>xs.getD i d
def RI(P:Pm p n)(xs:List α)(d:α):(pick p xs d).length=n:=by unfold pick;rw[Qm,J8,P.sz]
def Ad(xs:List α)(d:α):pick (QP (Qt xs.length)) xs d=xs:=by
 unfold pick;refine Vj λi=>?_;simp
 by_cases h:i<xs.length
 .rw[Ug h];simp[h]
 .rw[JD (by simp;lia),JD ∅];rfl
def q9F{a:Addr}{vs:List Value}{e0:Nat}{P:PySem.Fin->Shared->Prop}(ho:s.heap.get? a=Qa (JV "list" vs.toArray e0))(DK:vs.length<64)(o:Ord c vs.length)
  (hk:2<=vs.length->∀h',(∀b x,b≠a->s.heap.get? b=Qa x->h'.get? b=Qa x)->wpAny (model prog w) A (F2 vs.toArray) (λκ s'=>s'={s with heap:=h'}/\∀i j C,i<vs.length->j<vs.length->C (c i j) s'->FF prog w A κ vs i j C s') (λ_ _=>False) {s with heap:=h'})
  (fin:∀(p:Array Nat)(h':Heap)(e:Nat),Pm p vs.length->Up c p vs.length->(∀b x,b≠a->s.heap.get? b=Qa x->h'.get? b=Qa x)->h'.get? a=Qa (JV "list" (pick p vs Jr).toArray e)->P (.done (.ret .none)) {s with heap:=h'}):
  wpAny (model prog w) A (Ua.«list.sort» ⟨[.ref a],[]⟩) P E s:=by
 have lta:a<s.heap.objs.size:=Qu ho;obtain⟨e1,g1⟩:∃e1,(s.heap.update a (Q9 λ_=>(#[]:Array Value))).get? a=Qa (JV "list" #[] e1):=⟨_,Yw ho λ_=>#[]⟩
 generalize hh3:((s.heap.update a (Q9 λ_=>(#[]:Array Value))).push (JV "tuple" vs.toArray 0)).push (JV "list" #[] 0)=h3;have kp:∀b x,b≠a->s.heap.get? b=Qa x->h3.get? b=Qa x:=λb x nb q=>by rw[<-hh3];exact Qk _ (Qk _ ((JM _ _ (JQ nb)).trans q))
 have g3:h3.get? a=Qa (JV "list" #[] e1):=by rw[<-hh3];exact Qk _ (Qk _ g1)
 have Xw:vs.length<=QI:=by rw[Jk];lia
 rw[list_sort_plain];refine Qb (Zi ho rfl (Qb (Uw ho rfl (Qb (Wr g1 rfl (Qb (wpAny_newTuple ?_ Xw)))) (by simpa using Xw) (QV _))));refine Qb (VF ?_ (QV _));refine Q4 ?_;have hs3:({s with heap:=((s.heap.update a (Q9 λ_=>(#[]:Array Value))).push {cls:=.type "tuple",data:=.seq vs.toArray.toList.toArray}).push {cls:=.type "list",data:=.seq ([]:List Value).toArray}}:Shared)={s with heap:=h3}:=by rw[<-hh3]
 rw[hs3];dsimp only
 by_cases h2:vs.toArray.size<2
 .rw[if_pos h2,if_pos h2];refine Qb (Qf ?_);rw[StateT.run_pure];refine Qb (Qf ?_);dsimp only;have eo:((vs.toArray.zip vs.toArray).map λx=>x.2)=vs.toArray:=by apply UK.mp;simp[List.map_snd_zip]
  simp only[eo];refine Qb (Wr g3 rfl (Qb (Uw g3 rfl ?_ (QV _) (by simpa using WM Xw))));simp;obtain⟨e2,g4⟩:∃e2,(h3.update a (Q9 λ_=>vs.toArray)).get? a=Qa (JV "list" vs.toArray e2):=⟨_,Yw g3 λ_=>vs.toArray⟩
  have qT:vs.length<2:=by simpa using h2
  refine Qf (fin (QP (Qt vs.length)) _ e2 bE (λi j vj hj=>by lia) (λb x nb q=>(JM _ _ (JQ nb)).trans (kp b x nb q)) ?_);rw[Ad];exact g4
 .have wx:2<=vs.length:=by have:¬vs.length<2:=(by simpa using h2);lia
  rw[if_neg h2,if_neg h2];refine uV (q0c o wx) λbX Ax bY=>?_;refine Qb (Qi (hk wx h3 kp) (λκ s4 h4=>?_) λ_ _ x=>x.elim);obtain⟨rfl,ask⟩:=h4;refine Qb (Qi (kat_run (Q:=λst s5=>s5={s with heap:=h3}/\arrOf st=(run c (YY vs.length)).map (kas_item (vs.toArray.zip vs.toArray))/\failedOf st=Qg) (G:=λp s5=>p=run c (YY vs.length)/\s5={s with heap:=h3}) rfl wx DK (λp st s5 a1 a2 a3 a4=>⟨a4.2,by rw[a2,a4.1],a3⟩) (cN ask _ bX ⟨rfl,rfl⟩)) ?_ λ_ _ x=>x);rintro⟨⟨⟩,st⟩ s5 ⟨rfl,OF,hf⟩;dsimp only;rw[kat_snds rfl OF];refine Qb (Wr g3 rfl (Qb (Uw g3 rfl ?_ (QV _) (by show(QP (pick (run c (YY vs.length)) vs Jr)).size<=_;rw[QB,(RI Ax vs _)];exact WM Xw))));rw[hf];simp;obtain⟨e2,g4⟩:∃e2,(h3.update a (Q9 λ_=>QP (pick (run c (YY vs.length)) vs Jr))).get? a=Qa (JV "list" (QP (pick (run c (YY vs.length)) vs Jr)) e2):=⟨_,Yw g3 λ_=>QP (pick (run c (YY vs.length)) vs Jr)⟩
  exact Qf (fin _ _ e2 Ax bY (λb x nb q=>(JM _ _ (JQ nb)).trans (kp b x nb q)) g4)
def q0d{x:Value}{Gv:List Value->Prop}{Q:NZ}(DK:n<64)(o:Ord c n)(qT:∀vs,Gv vs->vs.length=n)
  (DL:∀(R:List Value->Shared->Prop),(∀vs h' tk,Gv vs->(∀b x,s.heap.get? b=Qa x->h'.get? b=Qa x)->R vs {s with heap:=h',toks:=tk})->wpAny (model prog w) A.in1 (collect x) R E s)
  (hk:∀vs,Gv vs->2<=vs.length->∀h' tk,(∀b x,s.heap.get? b=Qa x->h'.get? b=Qa x)->wpAny (model prog w) A.in1.in1 (F2 vs.toArray) (λκ s'=>s'={s with heap:=h',toks:=tk}/\∀i j C,i<vs.length->j<vs.length->C (c i j) s'->FF prog w A.in1.in1 κ vs i j C s') (λ_ _=>False) {s with heap:=h',toks:=tk})
  (fin:∀(vs:List Value)(p:Array Nat)(D:Addr)(h':Heap)(tk e:Nat),Gv vs->Pm p n->Up c p n->(∀b x,s.heap.get? b=Qa x->h'.get? b=Qa x)->s.heap.get? D=Qg->h'.get? D=Qa (JV "list" (pick p vs Jr).toArray e)->Q (.ref D) {s with heap:=h',toks:=tk}):
  wpAny (model prog w) A (call (.builtin "sorted") [x]) Q E s:=by
 refine Calls.call_function_entry kind_sorted plain_sorted entry_sorted (args_sorted1 _) ?_;unfold Ua.«sorted»;refine Qb (Qf (Qb (DL _ λvs h1 tk gv k1=>?_)));have hl:=qT vs gv;have OR:s.heap.get? h1.objs.size=Qg:=by
  cases q:s.heap.get? h1.objs.size with
  |none=>rfl
  |some x=>exact absurd (Qu (k1 _ _ q)) (Jv _)
 refine Qb (VF ?_ (by rw[Jk];lia));refine Qb (Q4 (J3 slot_list_sort ⟨_,QH _ rfl,rfl⟩ entry_list_sort (q9F (QH _ rfl) (hl▸DK) (hl▸o) (λh2 h' k=>?_) λp h' e P U k g=>?_) (args_list_sort _)))
 .exact hk vs gv h2 h' tk λb x q=>k b x (QK (Qu (k1 b x q))) (Qk _ (k1 b x q))
 .exact⟨_,rfl,Qf ⟨_,rfl,fin vs p _ h' tk e gv (hl▸P) (hl▸U) (λb x q=>k b x (QK (Qu (k1 b x q))) (Qk _ (k1 b x q))) OR g⟩⟩
end
end qo
namespace Snd
open PySem PySem.Spec PyProof.Rows L2 Ev
variable{P prog:Program}{w:World}{H H0 H' Hf H2:Hp}{h h' B base:Heap}{a e v tg:QC}{o:HO}{X:Cx}{pins:List (Addr×Obj)}{Y:L2.St}{s s' s2:Shared}{t' i n c j e1 kk ln:Nat}{ds ks ql:List D}{A:Around}{E:NZ}{Q:Unit->Shared->Prop}{d dc:D}{u a0 fl dV doc pm ze oc:Value}{us:List Value}{p:Pm}{G:Nat->List D->R D}{sub:Nat->Nat->Bool}{O O0 as fp:List Addr}{vs:List V}{q pos q2 q3 q4 jK Ah ap cp p2 xp:Pos}{Dd Cc kS:Addr}{M:Model}{env:YK}{Ex:XK}{fd:FuncData}{ps ts:List Str}{K:QL}{mg:Str->Option Value}{name qual x y cn fn:Str}{params:Arguments}{body:List Stmt}{scope sc:Scope}{an od:Option Addr}{t:Tok}{C:Ct}{α:Type}{l lk lv la:L}{Z:Ev.Env}{os:List (List Addr)}{es cs:List QC}{ls:List L}{op:FN}{kvs:List (Key×V)}{items:Array Value}{xs:List Te}{ops:List CmpOp}{is:List Nat}
def AL{a:Addr}(x:jd P w H h a o):∃ob,h.get? a=Qa ob:=by
 cases o with
 |q6 xs=>obtain⟨_,_,_,_,e⟩:=x;exact⟨_,e⟩
 |qA xs=>obtain⟨_,_,_,o,e,_⟩:=x;exact⟨_,e⟩
 |dK kvs=>obtain⟨_,_,_,_,o,_,_,e,_⟩:=x;exact⟨_,e⟩
 |dT kvs=>obtain⟨_,_,_,_,o,_,_,e,_⟩:=x;exact⟨_,e⟩
 |set S n=>obtain⟨o,_,_,_,e,_⟩:=x;exact⟨_,e⟩
 |ins C dx fs=>obtain⟨_,_,_,e,_⟩:=x;exact⟨_,e⟩
 |own y=>obtain⟨_,e⟩:=x;exact⟨_,e⟩
 |xd fs=>obtain⟨_,⟨_,_,_,e,_⟩,_⟩:=x;exact⟨_,e⟩
 |rng lo hi=>obtain⟨_,_,_,e⟩:=x;exact⟨_,e⟩
 |frz ob u=>obtain⟨e,_⟩:=x;exact⟨_,e⟩
 |tbl ps=>exact⟨_,x⟩
 |met f y=>exact⟨_,x⟩
 |ext φ=>obtain⟨_,⟨_,e⟩,_⟩:=x;exact⟨_,e⟩
def GF{a:Addr}(x:zW P w H h)(n:h.get? a=Qg):H a=Qg:=by
 cases q:H a with
 |none=>rfl
 |some o=>
  obtain⟨ob,e⟩:=AL (x a o q);rw[n]at e;exact nS e
def q4j{a:Addr}{t':Nat}(I:Inv X pins Y H s)(k:∀b u,s.heap.get? b=Qa u->h'.get? b=Qa u)(hn:s.heap.get? a=Qg)(new:jd X.prog X.w (upd H a o) h' a o):
  Inv X pins Y (upd H a o) {s with heap:=h',toks:=t'}:=by
 have hf:=GF I.qI hn;have nb:∀b u,s.heap.get? b=Qa u->b≠a:=λb u e z=>by rw[z,hn]at e;exact nS e
 refine I.un ⟨λb u q _ _ _=>k b u q,λb u q _ _ _=>⟨u.slots,k b u q⟩,λb u q n _=>by rw[qY (nb b u q)];exact n,λb u q _=>⟨u,k b u q⟩,λb xs q=>by rw[qY (jJ q hf)];exact q,λb u xs q=>by rw[qY (jJ q hf)];exact q,λb ps q=>⟨#[],by rw[qY (jJ q hf),q];simp⟩⟩ λb u e=>?_
 by_cases hb:b=a
 .subst hb;rw[zr]at e;cases e;exact new
 .rw[qY hb]at e;exact(I.qI b u e).xZ (λc v _ q=>k c v q) (λc q=>by rw[qY (jJ q hf)];exact q) λc xs q=>by rw[qY (jJ q hf)];exact q
def Rp(k:∀b o,h.get? b=Qa o->h'.get? b=Qa o):(∀d u,Dv h d u->Dv h' d u)/\(∀ds us,zA h ds us->zA h' ds us):=by
 refine D.ind
  (λu r=>r) (λ_ u r=>r) (λ_ u r=>r) (λ_ u r=>r) (λl ih u r=>?_) (λl ih u r=>?_) (λ_ _ _ _ u r=>r) (λ_ u r=>r) (λus r=>r) (λd ds uj uk us r=>?_)
 .obtain⟨a,us,rfl,⟨o,e,c⟩,r1⟩:=r;exact⟨a,us,rfl,⟨o,k _ _ e,c⟩,ih _ r1⟩
 .obtain⟨a,us,rfl,⟨o,e,c⟩,r1⟩:=r;exact⟨a,us,rfl,⟨o,k _ _ e,c⟩,ih _ r1⟩
 .obtain⟨u,r',rfl,h1,h2⟩:=r;exact⟨u,r',rfl,uj _ h1,uk _ h2⟩
theorem LD:∀l:List D,(dedup l).length<=l.length
 |[]=>Qs _
 |x::l=>by
  unfold dedup;split
  .exact WM (LD l)
  .exact Nat.succ_le_succ (LD l)
theorem rn:∀{l:List D},Pt l=Qd->(∀d∈l,qH d=Qd)->l.Pairwise (·≠·)
 |[],_,_=>.nil
 |x::l,h,hh=>by
  have h':=of_decide_eq_true h;unfold dedup at h';split at h'
  .have:=LD l;simp at h';lia
  .rename_i c;refine QX.mpr ⟨λy hy z=>c ?_,rn (decide_eq_true (by simpa using h')) λd hd=>hh d (Qc _ hd)⟩;refine Jc.mpr ⟨y,hy,(jN (hh x Qe) (hh y (Qc _ hy))).mpr z⟩
structure SoOk(ds:List D):Prop where
 len:ds.length<64
 vR:∀d∈ds,qH d=Qd
 CV:∀d∈ds,pl d=Qd
 cmp:∀a∈ds,∀b∈ds,zC a b=Qd
 Ro:ds.Pairwise (·≠·)
def Cd(h:ji ds=Qd):SoOk ds/\((∀d∈ds,Xc d=Qd)\/∀d∈ds,jq d=Qd):=by unfold ji at h;simp only[Qp,JS,Qq]at h;obtain⟨⟨⟨⟨⟨h1,h2⟩,h3⟩,h4⟩,h5⟩,h6⟩:=h;have wx:=j0.mp h2;refine⟨⟨of_decide_eq_true h1,wx,vX.mp h3,λa ha b hb=>?_,rn h5 wx⟩,h6⟩;unfold vg at h4;simp at h4;exact h4 a ha b hb
def wg(ds:List D)(i j:Nat):Bool:=qU (ds.getD i .qE) (ds.getD j .qE)
def getD_mem(h:i<ds.length):ds.getD i .qE∈ds:=by
 have:ds.getD i .qE=ds[i]:=by simp[h]
 rw[this];exact Jl h
def SoOk.ord(h:SoOk ds):qo.Ord (wg ds) ds.length:=by
 refine⟨λi hi=>C6 (h.vR _ (getD_mem hi)),λi j hi hj ne hc=>?_,λi j k hi hj hk a b=>C7 (h.vR _ (getD_mem hi)) (h.vR _ (getD_mem hj)) (h.vR _ (getD_mem hk)) a b⟩;rcases A0 (h.vR _ (getD_mem hi)) (h.vR _ (getD_mem hj)) (h.cmp _ (getD_mem hi) _ (getD_mem hj))with z|z|z
 .have uZ:qU (ds.getD i .qE) (ds.getD j .qE)=Qh:=hc;rw[z]at uZ;cases uZ
 .exfalso;have ei:ds.getD i .qE=ds[i]:=by simp[hi]
  have ej:ds.getD j .qE=ds[j]:=by simp[hj]
  rw[ei,ej]at z;rcases Nat.lt_or_gt_of_ne ne with l|l
  .exact JB.mp h.Ro i j hi hj l z
  .exact JB.mp h.Ro j i hj hi l z.symm
 .exact z
def Ae{p:Array Nat}(h:SoOk ds)(P:qo.Pm p ds.length)(U:qo.Up (wg ds) p ds.length):qo.pick p ds .qE=jP ds:=by
 have perm:(qo.pick p ds .qE).Perm ds:=by
  have:=P.perm.map λi=>ds.getD i .qE;have e:(Qt ds.length).map (λi=>ds.getD i .qE)=ds:=by have:=qo.Ad ds (.qE:D);unfold qo.pick at this;simpa using this
  rw[e]at this;exact this
 have hm:∀d∈qo.pick p ds .qE,d∈ds:=λd hd=>perm.mem_iff.mp hd;refine FU (perm.trans (kN ds).symm) (λd hd=>h.vR d (hm d hd)) (λa ha b hb=>h.cmp a (hm a ha) b (hm b hb)) ?_ (R6 h.vR);refine JB.mpr λi j hi hj vj=>?_;have li:i<ds.length:=by rw[<-qo.RI P ds .qE];exact hi
 have lj:j<ds.length:=by rw[<-qo.RI P ds .qE];exact hj
 have dH:∀k(hk:k<(qo.pick p ds .qE).length),(qo.pick p ds .qE)[k]=ds.getD (qo.at_ p k) .qE:=λk hk=>by
  have lk:k<p.size:=by rw[P.sz,<-qo.RI P ds .qE];exact hk
  simp[qo.pick,qo.at_,Yc,lk]
 rw[dH i hi,dH j hj];have:=U i j vj lj;exact h.ord.q1W (P.lt i li) (P.lt j lj) this
open PySem.W
theorem oo{Q:Bool->Shared->Prop}(hu:A.units+k<cLine):∀{ds es:List D}{us vs:List Value}(i:Nat),1<=i->zA s.heap ds us->zA s.heap es vs->(∀d∈ds,qK k d=Qd)->(∀d∈es,qK k d=Qd)->(∀d∈ds,qH d=Qd)->(∀d∈es,qH d=Qd)->
  jl ds es=Qd->fin=decide (ds.length<es.length)->Q (qt ds es) s->KatLex prog w A b fin Q (us.zip vs) i s
 |[],es,us,vs,i,hi,x,y,p1,p2,g1,g2,c,hf,q=>by
  cases x;rw[WC];refine kat_nil ?_;rw[hf];cases es with
  |nil=>simpa[qt]using q
  |cons e es=>simpa[qt]using q
 |d::ds,[],us,vs,i,hi,x,y,p1,p2,g1,g2,c,hf,q=>by cases y;rw[We];refine kat_nil ?_;rw[hf];simpa[qt]using q
 |d::ds,e::es,us,vs,i,hi,x,y,p1,p2,g1,g2,c,hf,q=>by
  refine qL x λu vc zz x1 x2=>?_;subst zz;refine qL y λv Xx zz y1 y2=>?_;subst zz;rw[Ut];have pd:=p1 d Qe;have pe:=p2 e Qe;rw[qt]at q;rw[jl]at c;refine kat_cons (x8 k pd pe x1 y1 hu prog w _ _ ?_);cases z:qD d e with
  |true=>
   rw[z,if_pos rfl]at q c;refine kat_yes (oo hu (i+1) ∅ x2 y2 (λd hd=>p1 d (Qc _ hd)) (λd hd=>p2 d (Qc _ hd)) (λd hd=>g1 d (Qc _ hd)) (λd hd=>g2 d (Qc _ hd)) c ?_ q);rw[hf];simp
  |false=>
   rw[z,if_neg (by simp)]at q c;refine kat_no ?_;have hb:(b&&i==0)=Qh:=by have:(i==0)=Qh:=(by simp;lia);rw[this,VS]
   rw[hb];exact kat_one _ _ ((Pn k pd pe (g1 d Qe) (g2 e Qe) c x1 y1 hu).1 prog w _ _ q)
def qAJ{Q:Bool->Shared->Prop}{e:D}{v:Value}(hu:A.units+k<cLine)(td:yC d=Qd)(te:yC e=Qd)(x:Dv s.heap d u)(y:Dv s.heap e v)(p1:qK (k+1) d=Qd)(p2:qK (k+1) e=Qd)(g1:qH d=Qd)(g2:qH e=Qd)
  (c:zC d e=Qd) (q:Q (qU d e) s):wpAny (model prog w) A (keyLt' (tuples' Qd) u v) Q E s:=by
 unfold yC at td te;split at td
 .rename_i i ds;split at te
  .rename_i j es;obtain⟨a,us,rfl,⟨ox,hx,cx,n1,dx⟩,x1⟩:=x;obtain⟨b,vs,rfl,⟨oy,hy,cy,n2,dy⟩,y1⟩:=y;obtain⟨u1,vc,rfl,⟨t1,rfl⟩,x2⟩:=x1;obtain⟨v1,Xx,rfl,⟨t2,rfl⟩,y2⟩:=y1;rw[ym,Qq]at p1 p2;have q3c:=j0.mp g1;have q3d:=j0.mp g2;have c':jl (D.int i::ds) (D.int j::es)=Qd:=c;have q':Q (qt (D.int i::ds) (D.int j::es)) s:=q;refine kat_lt hx dx hy dy ?_;show KatLex prog w A Qd _ Q ((Y5 i t1,Y5 j t2)::vc.zip Xx) 0 s;refine kat_cons (SeqAt.EqAt.int_int i t1 j t2 prog w _ _ ?_);rw[qt]at q';rw[jl]at c';have eq1:qD (D.int i) (D.int j)=(i==j):=by have:qD (D.int i) (D.int j)=decide (i=j):=(by simp[qD]);rw[this,QR];simp
   rw[eq1]at q' c';cases z:(i==j)with
   |true=>
    rw[z,if_pos rfl]at q' c';refine kat_yes (oo hu 1 (Qs _) x2 y2 (λd hd=>p1 d (Qc _ hd)) (λd hd=>p2 d (Qc _ hd)) (λd hd=>q3c d (Qc _ hd)) (λd hd=>q3d d (Qc _ hd)) c' ?_ q');simp[x2.length,y2.length]
   |false=>
    rw[z,if_neg (by simp)]at q' c';refine kat_no ?_;have e3:qU (D.int i) (D.int j)=decide (i<j):=(by simp[qU]);rw[e3]at q';exact oneLt_int q'
  .cases te
 .cases td
theorem nt{h:Heap}:∀{ds:List D}{us:List Value},zA h ds us->(∀d∈ds,yC d=Qd)->∃fs,KatTups h us fs/\fs.length=ds.length/\∀f∈fs,∃i t,f=Y5 i t
 |[],us,x,_=>by cases x;exact⟨[],KatTups.nil,rfl,λf hf=>absurd hf (by simp)⟩
 |d::ds,us,x,t=>by
  refine qL x λu r zz x1 x2=>?_;subst zz;refine qV (nt x2 λd hd=>t d (Qc _ hd)) λfs k1 k2 k3=>?_;have td:=t d Qe;unfold yC at td;split at td
  .rename_i i0 tl0;obtain⟨a,us,rfl,⟨ox,hx,cx,n1,dx⟩,y1⟩:=x1;obtain⟨u1,vc,rfl,⟨t1,rfl⟩,y2⟩:=y1;refine⟨Y5 i0 t1::fs,KatTups.cons hx cx dx (by simp) k1,by simp[k2],λf hf=>?_⟩;rcases Qo.mp hf with rfl|hf
   .exact⟨_,_,rfl⟩
   .exact k3 f hf
  .cases td
def Rz(x:zA h ds us)(hi:i<ds.length):Dv h (ds.getD i .qE) (us.getD i Jr):=by
 obtain⟨u,e1,e2⟩:=x.get (i:=i) (d:=ds[i]) (by simp[hi]);have e3:ds.getD i .qE=ds[i]:=by simp[hi]
 have e4:us.getD i Jr=u:=by simp[JH,e1]
 rw[e3,e4];exact e2
def q5S(hu:A.units+8<cLine)(so:SoOk ds)(hI:∀d∈ds,yC d=Qd)(x:zA s.heap ds us)(h2:2<=us.length):
  wpAny (model prog w) A (F2 us.toArray) (λκ s'=>s'=s/\∀i j C,i<us.length->j<us.length->C (wg ds i j) s'->FF prog w A κ us i j C s') (λ_ _=>False) s:=by
 have hl:=x.length;refine qV (nt x hI) λfs k1 k2 k3=>?_;refine kat_kind (T:=.type "int") k1 ∅ (λv hv=>?_) (by decide) ⟨rfl,λi j C hi hj hC=>?_⟩
 .obtain⟨i,t,rfl⟩:=k3 v hv;exact Looks.of_pure rfl
 .have mi:=getD_mem (ds:=ds) (i:=i) ∅;have mj:=getD_mem (ds:=ds) (i:=j) ∅;exact qAJ (k:=7) ∅ (hI _ mi) (hI _ mj) (Rz x ∅) (Rz x ∅) (so.CV _ mi) (so.CV _ mj) (so.vR _ mi) (so.vR _ mj) (so.cmp _ mi _ mj) hC
theorem ip:∀{ds:List D}{us:List Value}{Q:List (Option Value)->Shared->Prop},zA s.heap ds us->(∀d∈ds,jq d=Qd)->(∀fs:List (Option Value),fs.length=ds.length->(∀i:Nat,i<ds.length->((fs.getD i Qg).isSome=Qd↔yC (ds.getD i .qE)=Qd))->Q fs s)->wpAny (model prog w) A (us.mapM firstOfTuple') Q E s
 |[],us,Q,x,_,h=>by cases x;rw[List.mapM_nil];exact Qf (h [] rfl λi hi=>absurd hi (by simp))
 |d::ds,us,Q,x,t,h=>by
  refine qL x λu r zz x1 x2=>?_;subst zz;have td:=t d Qe;have rest:∀f:Option Value,(f.isSome=Qd↔yC d=Qd)->wpAny (model prog w) A (r.mapM firstOfTuple') (λbs s'=>wpAny (model prog w) A (pure (f::bs)) Q E s') E s:=λf hf=>
   ip x2 (λd hd=>t d (Qc _ hd)) λfs l1 l2=>Qf (h (f::fs) (by simp[l1]) λi hi=>by
    cases i with
    |zero=>exact hf
    |succ i=>exact l2 i (by simpa using hi))
  rw[List.mapM_cons];refine Qb ?_;rw[kas_first_eq];have go:∀(a:Addr)(vs:List Value),u=.ref a->IsTup s.heap a vs.toArray->(vs[0]?.isSome=Qd↔yC d=Qd)->wpAny (model prog w) A (do
    if(<-typeOf u)!=.type "tuple"then return Qg
    return (<-U5 u)[0]?) (λf s'=>wpAny (model prog w) A (r.mapM firstOfTuple'>>=λbs=>pure (f::bs)) Q E s') E s:=λa vs hu0 ht hf=>by
   subst hu0;obtain⟨o,ho,hc,n,hd⟩:=ht;refine Qb (Looks.here ((Looks.ld ho).andThen .now) ?_);rw[hc,if_neg (by first|decide|simp)];refine Qb (Zi ho hd (Qf ?_));have e:vs.toArray[0]?=vs[0]?:=(by simp);rw[e];exact Qb (rest _ hf)
  unfold jq at td;split at td
  .refine qL x1 λa vs zz z y1=>?_;subst zz;cases y1;exact go a [] rfl z (by simp[yC])
  .refine qL x1 λa vs zz z y1=>?_;subst zz;refine qL y1 λu1 vc zz _ _=>?_;subst zz;exact go a _ rfl z (by simp[yC])
  .cases td
def q6k{Q:Bool->Shared->Prop}{e:D}{v:Value}(hu:A.units+(k+1)<cLine)(td:jq d=Qd)(te:jq e=Qd)(x:Dv s.heap d u)(y:Dv s.heap e v)(p1:qK (k+1) d=Qd)(p2:qK (k+1) e=Qd)(g1:qH d=Qd)(g2:qH e=Qd)
  (c:zC d e=Qd) (q:Q (qU d e) s) (b:Bool):wpAny (model prog w) A (oneLt' b u v) Q E s:=by
 cases b with
 |false=>exact kat_one _ _ ((Pn (k+1) p1 p2 g1 g2 c x y hu).1 prog w _ _ q)
 |true=>
  obtain⟨ds,rfl⟩:∃ds,d=.qA ds:=by unfold jq at td;split at td<;>first|exact⟨_,rfl⟩|cases td
  obtain⟨es,rfl⟩:∃es,e=.qA es:=by unfold jq at te;split at te<;>first|exact⟨_,rfl⟩|cases te
  refine qL x λa us zz x1 x2=>?_;subst zz;refine qL y λb vs zz y1 y2=>?_;subst zz;rw[ym]at p1 p2;obtain⟨⟨cls,dd,data,sl⟩,ho,hc,n,hd⟩:=id x1;obtain⟨⟨L7,wi,data2,w4⟩,vQ,jH,n2,hd2⟩:=id y1;simp only at hc hd jH hd2;subst hc hd jH hd2;have e1:qU (.qA ds) (.qA es)=qt ds es:=by simp[qU]
  rw[e1]at q;rw[oneLt'_eq];simp;refine Qb (wpAny_cRoomFor ∅ ?_);refine Qb (wpAny_callSpecialIfBound?_slot ⟨_,ho,rfl⟩ Vs (UX Vs ⟨_,ho,rfl⟩ ZL (Zv _ _) (q0w a b us vs n n2 dd wi sl w4 ds es (by simpa[zC]using c)) ⟨ho,vQ,x2,y2,λd hd e he u v x y=>?_,?_⟩))
  .have vS:A.in1.units+k<cLine:=(by rw[Jb];lia);have q1:=Qq.mp p1 d hd;have q2:=Qq.mp p2 e he;exact⟨x8 k q1 q2 x y vS,λc=>(Pn k q1 q2 (j0.mp (by simpa[qH]using g1) d hd) (j0.mp (by simpa[qH]using g2) e he) c x y vS).1⟩
  .exact Yy q
def q5T(hu:A.units+8<cLine)(so:SoOk ds)(hk:∀d∈ds,jq d=Qd)(hI:¬∀d∈ds,yC d=Qd)(x:zA s.heap ds us)(h2:2<=us.length):
  wpAny (model prog w) A (F2 us.toArray) (λκ s'=>s'=s/\∀i j C,i<us.length->j<us.length->C (wg ds i j) s'->FF prog w A κ us i j C s') (λ_ _=>False) s:=by
 have hl:=x.length;have lt:∀(b:Bool)(i j:Nat)(C:Bool->Shared->Prop),i<us.length->j<us.length->C (wg ds i j) s->wpAny (model prog w) A (oneLt' b (us.getD i Jr) (us.getD j Jr)) C (λ_ _=>False) s:=λb i j C hi hj hC=>by have mi:=getD_mem (ds:=ds) (i:=i) ∅;have mj:=getD_mem (ds:=ds) (i:=j) ∅;exact q6k ∅ (hk _ mi) (hk _ mj) (Rz x ∅) (Rz x ∅) (so.CV _ mi) (so.CV _ mj) (so.vR _ mi) (so.vR _ mj) (so.cmp _ mi _ mj) hC b
 rw[keyKind'_eq,List.mapM_toArray,map_eq_pure_bind];refine Qb (Qb (ip x hk λfs l1 l2=>Qf ?_));have OX:¬(fs.toArray.all (·.isSome))=Qd:=λh=>hI λd hd=>by obtain⟨i,hi,rfl⟩:=Hh.mp hd;have:=Qq.mp (by simpa using h) (fs[i]'∅) (Jl _);simpa[JH,hi]using((l2 i hi).mp (by simpa[JH,show i<fs.length by lia]using this))
 rw[if_neg OX]
 by_cases h0:(fs.toArray[0]?.bind id).isSome=Qd
 .rw[if_pos h0];exact Qf ⟨rfl,λi j C hi hj hC=>lt Qh i j C hi hj hC⟩
 .rw[if_neg h0];have ty:∀v∈us,Looks (model prog w) s.heap (typeOf v) (.type "tuple"):=λv hv=>by
   obtain⟨d,hd,dv⟩:=x.mem hv;have:=hk d hd;obtain⟨es,rfl⟩:∃es,d=.qA es:=by unfold jq at this;split at this<;>first|exact⟨_,rfl⟩|cases this
   obtain⟨a,vs,rfl,⟨o,ho,hc,n,hdd⟩,_⟩:=dv;exact hc▸((Looks.ld ho).andThen .now)
  rw[oneTypeOnly'_eq,List.mapM_toArray,map_eq_pure_bind];refine Qb (Qb (Qb (kas_mapM _ (λv hv Q' hq=>(ty v hv).here hq) (Qf ?_))));obtain⟨u0,ur,rfl⟩:∃u0 ur,us=u0::ur:=by
   match us,h2 with
   |u0::ur,_=>exact⟨u0,ur,rfl⟩
  have Tb:((List.map (λ_=>J5 "tuple") (u0::ur)).toArray.all λx=>x==J5 "tuple")=Qd:=by simp only[List.all_toArray,WB,Qq];intro _ _;rfl
  have h00:(List.map (λ_=>J5 "tuple") (u0::ur)).toArray[0]?=Qa (J5 "tuple"):=by simp
  rw[h00];simp;exact Qf (Qf ⟨rfl,λi j C hi hj hC=>lt Qd i j C hi hj hC⟩)
def SJ(hu:A.units+8<cLine)(so:SoOk ds)(hk:(∀d∈ds,Xc d=Qd)\/∀d∈ds,jq d=Qd)(x:zA s.heap ds us)(h2:2<=us.length):
  wpAny (model prog w) A (F2 us.toArray) (λκ s'=>s'=s/\∀i j C,i<us.length->j<us.length->C (wg ds i j) s'->FF prog w A κ us i j C s') (λ_ _=>False) s:=by
 have hl:=x.length;rcases hk with hk|hk
 .have q1M:∀u∈us,∃i t,u=Y5 i t:=λu hu=>by
   obtain⟨d,hd,dv⟩:=x.mem hu;have:=hk d hd;unfold Xc at this;split at this
   .obtain⟨t,e⟩:=dv;exact⟨_,t,e⟩
   .cases this
  refine kas_kind (T:=.type "int") h2 (λv hv=>?_) (by decide) (by decide) ⟨rfl,λi j C hi hj hC=>?_⟩
  .obtain⟨i,t,rfl⟩:=q1M v hv;exact Looks.of_pure rfl
  .have di:=Rz x (i:=i) ∅;have dj:=Rz x (i:=j) ∅;have ki:=hk _ (getD_mem (ds:=ds) (i:=i) ∅);have kj:=hk _ (getD_mem (ds:=ds) (i:=j) ∅);unfold wg at hC;unfold FF;unfold Xc at ki kj;split at ki
   .rename_i m e1;split at kj
    .rename_i n e2;rw[e1]at di hC;rw[e2]at dj hC;obtain⟨t1,f1⟩:=di;obtain⟨t2,f2⟩:=dj;rw[f1,f2];refine kat_lt_int ?_;have e3:qU (D.int m) (D.int n)=decide (m<n):=(by simp[qU]);rw[e3]at hC;exact hC
    .cases kj
   .cases ki
 .by_cases hI:∀d∈ds,yC d=Qd
  .exact q5S hu so hI x h2
  .exact q5T hu so hk hI x h2
theorem b9{Hf:Hp}{ds:List D}{vs:List V}(r:qM p Hf ds vs):∀{l:List Nat},(∀i∈l,i<ds.length)->qM p Hf (l.map λi=>ds.getD i .qE) (l.map λi=>vs.getD i .qE)
 |[],_=>rfl
 |i::l,h=>by
  have hi:=h i Qe;obtain⟨v,e1,e2⟩:=r.get (i:=i) (d:=ds[i]) (by simp[hi]);refine⟨vs.getD i .qE,_,rfl,?_,b9 r λi hi=>h i (Qc _ hi)⟩;have e3:ds.getD i .qE=ds[i]:=by simp[hi]
  have e4:vs.getD i .qE=v:=by simp[JH,e1]
  dsimp only;rw[e3,e4];exact e2
theorem bA{vs:List V}{us:List Value}(r:Vals vs us):∀{l:List Nat},(∀i∈l,i<vs.length)->Vals (l.map λi=>vs.getD i .qE) (l.map λi=>us.getD i Jr)
 |[],_=>.nil
 |i::l,h=>by
  have hi:=h i Qe;obtain⟨u,e1,e2⟩:=r.get (i:=i) (x:=vs[i]) (by simp[hi]);have e3:vs.getD i .qE=vs[i]:=by simp[hi]
  have e4:us.getD i Jr=u:=by simp[JH,e1]
  refine .cons ?_ (bA r λi hi=>h i (Qc _ hi));dsimp only;rw[e3,e4];exact e2
def oZ{q:Array Nat}{tk e:Nat}(I:Inv X pins Y H s)(t:Th O H)(r1:qM p (fz O H) ds vs)(rv:Vals vs us)(hz:vs.length<=QI)
  (P:qo.Pm q n) (hn:n=ds.length) (k:∀b x,s.heap.get? b=Qa x->h'.get? b=Qa x) (nD:s.heap.get? Dd=Qg) (g:h'.get? Dd=Qa (JV "list" (qo.pick q us Jr).toArray e)):
  EP (X.qn E) pins Y (Fin p O H (.q6 (qo.pick q ds .qE))) (.ref Dd) {s with heap:=h',toks:=tk}:=by
 have hl:=r1.length;have lt:∀i∈q.toList,i<ds.length:=λi hi=>by have:=P.perm.mem_iff.mp hi;rw[<-hn];exact QN.mp this
 have hf:=GF I.qI nD;refine⟨.ref Dd,upd H Dd (.q6 (qo.pick q vs .qE)),(q4j (o:=.q6 (qo.pick q vs .qE)) I k nD ⟨?_,_,_,bA rv (λi hi=>hl▸lt i hi),g⟩).qn E,rfl,Ext.upd hf,Dd,_,rfl,qv.of (Ew t hf),(b9 r1 lt).mono (zO (Ext.upd hf))⟩;rw[qo.RI P,hn,hl];exact hz
def Yld(X:Cx)(p:Pm)(A:Around)(E:NZ)(s:Shared)(Hf:Hp)(ds:List D)(x:Value):Prop:=
 ∃vs:List V,qM p Hf ds vs/\vs.length<=QI/\∀(R:List Value->Shared->Prop),(∀us h' tk,Vals vs us->(∀b x,s.heap.get? b=Qa x->h'.get? b=Qa x)->R us {s with heap:=h',toks:=tk})->wpAny (model X.prog X.w) A (collect x) R E s
def q1C{v:V}(hK:p.K=X.K)(hc:X.calm=Qd)(hA:A.handled=Qg)(I:Inv X pins Y H s)(rv:RelV v u)(q:j6 p H (fz O H) d v)(hi:j9 d=.ok ds):
  Yld X p A E s (fz O H) ds u:=by
 cases d<;>first
  |(exfalso;simpa[j9]using hi)
  |skip
 .cases hi;refine zK q λa vs zz s1 z r1=>?_;subst zz;cases rv;obtain⟨its,rv,⟨o,ho,kM,n,hd⟩,hz⟩:=I.tuple (hK▸qu.jT s1:zZ X.K H a vs);exact⟨vs,r1,hz,λR hR=>wpAny_collect_seq a (.inr rfl) ho kM hd (λh' k=>by simpa using hR its h' s.toks rv k) (by simpa[<-rv.length]using hz)⟩
 .cases hi;refine qL q λa vs zz s1 r1=>?_;subst zz;cases rv;obtain⟨its,rv,pt,hz⟩:=I.list (hK▸s1:qv X.K H a vs);obtain⟨o,ho,kM,n,hd⟩:=pt.isList;exact⟨vs,r1,hz,λR hR=>wpAny_collect_seq a (.inl rfl) ho kM hd (λh' k=>by simpa using hR its h' s.toks rv k) (by simpa[<-rv.length]using hz)⟩
 .rename_i ks ws;obtain⟨a,kvs,rfl,s1,rfl,r1⟩:=q;cases rv;have XR:(ints? (kvs.map λq=>zi q.1)).isSome=Qd:=by
   cases h:(ints? (kvs.map λq=>zi q.1)).isSome with
   |true=>rfl
   |false=>simp[j9,h]at hi
  have e0:j9 (.qJ (kvs.map λq=>zi q.1) ws)=.ok (kvs.map λq=>zi q.1):=by simp[j9,XR]
  rw[e0]at hi;cases hi;obtain⟨z,hd,xs,rel,o,es,ep,h1,h2,h3,h4,h5,h6⟩:=TJ I.qI s1;have hl:=KV.length rel;refine⟨_,SH XR,by simpa using z,λR hR=>FG (PySem.W.kdl_dict hd) hA ⟨o,es,h1,h2,h3,h4,h5,h6⟩ (hl▸z) λh' tk acc hk XI=>hR _ h' tk ?_ hk⟩;obtain⟨a1,a2⟩:=XI;have all:∀(ks:List (Key×V))(us:List Value),us.length=ks.length->(∀(i:Nat)(q:Key×V)(u:Value),ks[i]?=Qa q->us[i]?=Qa u->RelV (kV q.1) u)->Vals (ks.map λq=>kV q.1) us:=by
   intro ks
   induction ks with
   |nil=>intro us hl _;cases us with
    |nil=>exact .nil
    |cons _ _=>simp at hl
   |cons q ks ih=>intro us hl h;cases us with
    |nil=>simp at hl
    |cons u us=>exact .cons (h 0 q u rfl rfl) (ih us (by simpa using hl) λi q u e1 e2=>h (i+1) q u (by simpa using e1) (by simpa using e2))
  refine all kvs acc.toList (by rw[J8,a1,hl]) λi q u e1 e2=>?_;have hi:i<acc.size:=by have:=(Qj.mp e2).1;simpa using this
  obtain⟨k',x',b1,b2⟩:=a2 i u (by simpa using e2);obtain⟨u',vS⟩:=KV.key rel e1;rw[b1]at vS;cases vS;exact nT b2
def q25(hK:p.K=X.K)(hc:X.calm=Qd)(hu:X.A.units+64<cLine):BS X p sub .sorted (.builtin "sorted"):=by
 intro E pins s Y H os d r v u I t rv q h;cases hi:j9 d with
 |q9=>exact absurd (show(j9 d).bind _=.ok r from h) (by rw[hi];intro z;cases z)
 |err c=>exact absurd (show(j9 d).bind _=.ok r from h) (by rw[hi];intro z;cases z)
 |ok ds=>
  have h':(if ji ds then R.ok (D.q6 (jP ds))else .q9)=.ok r:=by rw[<-h];show _=(j9 d).bind _;rw[hi];rfl
  split at h'
  .rename_i so;cases h';obtain⟨sk,kd⟩:=Cd so;refine qV (q1C (E:=E) hK hc (A:=X.A.in1) (I.ok.hd hc) I rv q hi) λvs r1 hz DL=>?_;refine qo.q0d (Gv:=λus=>Vals vs us) sk.len sk.ord (λus w0=>by rw[<-w0.length,<-r1.length]) DL (λus w0 h2 h' tk k=>?_) λus q D h' tk e w0 P U k nD g=>?_
   .exact SJ (by show X.A.units+1+1+8<cLine;lia) sk kd ((Rp k).2 _ _ ((vP hK I).2 ds vs us (r1.mono qu) w0)) h2
   .rw[<-Ae sk P U];exact oZ I t r1 w0 hz P rfl k nD g
  .cases h'
def T7(B:Heap)(l:List YK)(e:Addr)(cls a0 fl:Value)(h:Heap):Prop:=B.StaysIn h/\B.get? e=Qg/\h.FunFrames B l/\h.TracedAtW B e cls a0 fl
section
variable{l outer:List YK}{e L:Addr}{cls:Value}
def Au{o:Option Addr}(h:T7 B l e cls a0 fl s.heap)(hQ:∀h',T7 B l e cls a0 (o.elim Jr λf=>VZ f) h'->s.heap.UpToSlots h'->Q () {s with heap:=h'}):wpAny M A (setFlight (.ref e) o) Q E s:=by
 obtain⟨k1,k2,k3,oe,vs,T,oT,ts,g1,g2,g3,g4,g5,g6,g7,g8,g9⟩:=h;have sz:=(Zj.mp g9).1;generalize hv:(o.elim Jr λf=>VZ f)=fv at hQ;have Xo:∀b,b≠T->(s.heap.update T (Obj.mapFields λx=>x.setIfInBounds 3 fv)).get? b=s.heap.get? b:=λb nb=>JM _ _ (JQ nb);have sE:∀b x,s.heap.get? b=Qa x->(∀vs,x.data≠.fields vs)->b≠T:=λb x q nf z=>by rw[z,g7]at q;cases q;exact nf ts g8
 unfold setFlight;refine Qb (Vu g1 g3 g4 ?_);rw[if_pos (by simp),hv];refine Ws g7 g8 sz (hQ _ ⟨λb x q=>(Xo b λz=>by rw[z,g5]at q;exact nS q).trans (k1 b x q),k2,k3.of_keeps λb x q nf=>⟨x,(Xo b (sE b x q nf)).trans q,rfl⟩,?_⟩ λb x q nf=>⟨x.slots,(Xo b (sE b x q nf)).trans q⟩);exact⟨oe,vs,T,_,_,(Xo e (JQ g6)).trans g1,g2,g3,g4,g5,g6,YQ _ g7 (VP (YI g8 _)),YI g8 _,by simp[sz]⟩
def sC(Tg:A.frames=Qa (env::outer))(hf:env.frame=Qa L)(h:T7 B (env::outer) e cls a0 fl s.heap)(hfl:fl=.none\/fl=VZ L)(hQ:∀h',T7 B (env::outer) e cls a0 (VZ L) h'->s.heap.UpToSlots h'->Q () {s with heap:=h'}):
  wpAny M A (ZM (.ref e) env) Q E s:=by
 rcases hfl with rfl|rfl
 .exact wpAny_looks_onW Tg hf h hQ
 .exact wpAny_noteFrame_againW hf h.2.2.2 (hQ s.heap h (Heap.UpToSlots.refl _))
def q6Y(Tg:A.frames=Qa (env::outer))(hf:env.frame=Qa L)(mI:B.StaysIn h)(hl:h.FunFrames B (env::outer))(hx:Heap.MadeExcOf h s.heap e cls args)
  (hQ:∀h' t,T7 B (env::outer) e cls (.ref t) (VZ L) h'->s.heap.UpToSlots h'->Q () {s with heap:=h'}):wpAny M A (ZM (.ref e) env) Q E s:=by
 obtain⟨t,g1,g2,g3⟩:=hx.there;have ne:B.get? e=Qg:=by
  cases q:B.get? e with
  |none=>rfl
  |some o=>have:=mI e o q;rw[hx.new]at this;exact nS this
 unfold ZM;simp only[hf];refine Qb (Vu g1 rfl (x:=.none) rfl ?_);rw[if_neg (by decide)];refine wpAny_entryW Tg (hl.of_keeps λb o q _=>⟨o,hx.keeps b o q,rfl⟩) hf g1 (λb o q=>hx.keeps b o (mI b o q)) ne rfl (by simp) rfl λh' hN=>?_;obtain⟨n1,n2,n3,n4⟩:=hN;exact hQ h' t ⟨n1,ne,n2,n3⟩ n4
end
def lC(ok:X.Ok):∀b∈X.fs,b∈zy X.stack:=λb hb=>by
 rcases ok.vL with e|⟨e,hf⟩
 .rw[e];exact hb
 .rw[e];unfold zy;rw[JC,hf];exact Qc _ hb
def R3(I:Inv X pins Y H s)(b:BOk X pins H B)(st:B.StaysIn h')(up:s.heap.UpToSlots h'):Inv X pins Y H {s with heap:=h'}:=by
 have AK:∀c o,X.s₀.heap.get? c=Qa o->c∉X.fs->c∉zy X.stack:=λc o e hc hm=>by
  rcases Qo.mp (I.X5 c hm)with z|z
  .exact absurd (QF (Qu e) I.ok.above) (by rw[z];exact Jv _)
  .exact hc z
 have slot:∀c o,X.s₀.heap.get? c=Qa o->X.H₀ c=Qg->c∈X.fs->c∉X.ex->∃sl,h'.get? c=Qa {o with slots:=sl}:=λc o e n hc hx=>by obtain⟨sl,e1⟩:=I.base.slot c o e n hc hx;obtain⟨_,o',vm,wM⟩:=I.ok.funs.mem hc;rw[e]at vm;cases vm;obtain⟨bQ,e2⟩:=up c _ e1 wM;exact⟨bQ,e2⟩
 have Ft:∀c v,s.heap.IsCell c v->h'.IsCell c v:=λc v zz=>qR zz λo e d=>by
  obtain⟨sl,e2⟩:=up c o e λvs z=>by rw[d]at z;cases z
  exact⟨_,e2,d⟩
 refine⟨I.ok,I.os,I.bare,⟨λc o e n hc hx=>?_,slot,I.base.free,λc o e hx=>?_,I.base.yq,I.base.wq,I.base.yp⟩,?_,λx c e=>?_,I.free,I.kB,λq hq=>?_,(b.qI.kept st),I.len⟩
 .exact st _ _ (b.keep c o e n (AK c o e hc) hx)
 .by_cases hc:c∈X.fs
  .obtain⟨sl,e2⟩:=slot c o e (I.ok.xq c hc) hc hx;exact⟨_,e2⟩
  .obtain⟨o',e2⟩:=b.there c o e (AK c o e hc) hx;exact⟨_,st _ _ e2⟩
 .refine qR I.loc λm hn hl=>?_;refine⟨m,up.ns hn,λi x v e1 e2 e3=>?_⟩;obtain⟨u,r,l⟩:=hl i x v e1 e2 e3;refine⟨u,r,?_⟩;rcases l with l|⟨k,c,e,z⟩
  .exact .inl l
  .exact .inr ⟨k,c,e,Ft c _ z⟩
 .obtain⟨v,z⟩:=I.cell x c e;exact⟨v,Ft c v z⟩
 .refine yz (I.pin q hq) λ_ n ne nf d=>?_;exact⟨st _ _ (b.pin q hq),n,ne,nf,d⟩
def Tn(X:Cx)(h:Heap):Heap:=PySem.W.hideAll h (zy X.stack)
def G8{o:Obj}(e:h.get? b=Qa o)(n:b∉zy X.stack):(Tn X h).get? b=Qa o:=Z9 _ e n
def q6e{o:Obj}(e:(Tn X h).get? b=Qa o):h.get? b=Qa o:=FJ _ e
def q4I(hb:b∈zy X.stack):(Tn X h).get? b=Qg:=ZX _ hb
def eE(I:Inv X pins Y H s):BOk X pins H (Tn X s.heap):=by
 have rg:∀b o,H b=Qa o->b∉zy X.stack:=λb o e hm=>by rw[I.bq b hm]at e;exact nS e
 refine⟨λa o e=>?_,λb o e n hb hx=>?_,λb o e hb hx=>?_,λq hq=>?_⟩
 .refine (I.qI a o e).xZ (λc v hc q=>G8 q ?_) (λ_ q=>q) λ_ _ q=>q;rcases hc with rfl|hc
  .exact rg _ _ e
  .exact rg _ _ hc
 .exact G8 (I.base.keep b o e n (λz=>hb (lC I.ok b z)) hx) hb
 .obtain⟨o',e'⟩:=I.base.there b o e hx;exact⟨o',G8 e' hb⟩
 .refine yz (I.pin q hq) λe n ne nf d=>?_;refine G8 e λz=>?_;rcases Qo.mp (I.X5 _ z)with z|z
  .exact ne z
  .exact nf z
def q4H(I:Inv X pins Y H s):s.heap.FunFrames (Tn X s.heap) X.stack:=by
 have all:∀l:List YK,(∀b∈zy l,b∈zy X.stack)->s.heap.FunFrames X.base l->s.heap.FunFrames (Tn X s.heap) l:=by
  intro l
  induction l with
  |nil=>intro _ _;trivial
  |cons env r ih=>
   intro hs hl;obtain⟨hk,⟨L,o,hf,hn,ho,hd⟩,hr⟩:=hl;have hL:=hs L (by unfold zy;rw[JC,hf];exact Qe);exact⟨hk,⟨L,o,hf,q4I hL,ho,hd⟩,ih (λb hb=>hs b (by unfold zy;rw[JC,hf];exact Qc _ hb)) hr⟩
 exact all X.stack (λ_ hb=>hb) I.stack
structure Top(X:Cx):Prop where
 vL:X.stack=X.env::X.outer
 frame:X.env.frame=Qa X.env.locals
theorem Top.frames(T:Top X)(ok:X.Ok):X.A.frames=Qa (X.env::X.outer):=by rw[ok.frames,T.vL]
def aQ{E:NZ}{Q:Unit->Shared->Prop}{e:Value}(T:Top X)(m:wA X p pins Y H c e s)
  (hQ:∀H' a C B t h',e=.ref a->p.cls[c]?=Qa C->Ext H H'->Inv X pins Y H' {s with heap:=h'}->BOk X pins H' B->T7 B X.stack a (.ref C) (.ref t) (VZ X.env.locals) h'->Q () {s with heap:=h'}):wpAny (model X.prog X.w) X.A (ZM e X.env) Q E s:=by
 obtain⟨H',a,C,rfl,h2,h3,h4⟩:=m;rcases h4 with⟨s1,vs,I,mk,es⟩|⟨B,t,I,b,f⟩|⟨B,t,L,hL,I,b,f⟩
 .
  refine q6Y (B:=Tn X s1.heap) (T.frames I.ok) T.frame (λb o e=>q6e e) (T.vL▸q4H I) mk λh' t tr up=>?_;have hs:({s with heap:=h'}:Shared)={s1 with heap:=h'}:=by rw[es]
  refine hQ H' a C _ t h' rfl h2 h3 ?_ (eE I) (T.vL▸tr);rw[hs];exact R3 I (eE I) tr.1 ((Heap.UpToSlots.of_keeps mk.keeps).trans up)
 .refine sC (fl:=.none) (T.frames I.ok) T.frame (T.vL▸f) (.inl rfl) λh' tr up=>?_;exact hQ H' a C B t h' rfl h2 h3 (R3 I b tr.1 up) b (T.vL▸tr)
 .rw[T.frame]at hL;cases hL;refine sC (fl:=VZ X.env.locals) (T.frames I.ok) T.frame (T.vL▸f) (.inr rfl) λh' tr up=>?_;exact hQ H' a C B t h' rfl h2 h3 (R3 I b tr.1 up) b (T.vL▸tr)
def q6A{e:Value}{P:NZ}(T:Top X)(m:wA X p pins Y H c e s)(hP:∀s',wA X p pins Y H c e s'->P e s'):notedBy (model X.prog X.w) X.A X.env (cameBackBy (model X.prog X.w) X.A X.env P) e s:=by refine aQ T m λH' a C B t h' e1 e2 e3 I b tr=>?_;subst e1;obtain⟨_,_,_,oe,vs,T',oT,ts,g1,g2,g3,g4,_⟩:=id tr;unfold cameBackBy;refine Qb (Vu g1 g3 g4 ?_);rw[if_neg (by simp),T.frame];refine Au tr λh2 Cp cG=>?_;exact hP _ ⟨H',a,C,rfl,e2,e3,.inr (.inr ⟨B,t,_,T.frame,R3 I b Cp.1 cG,b,Cp⟩)⟩
def Lc(T:Top X):PassesOwn (model X.prog X.w) X.A X.env (Es X p H0 O0 pins r):=λe s h=>by refine D4 h λc ρ' Y' qy H' h1 h2 m=>?_;exact q6A T m λs' m'=>⟨c,ρ',Y',qy,H',h1,h2,m'⟩
def j5(P:Program)(w:World):uN:=λouter H s E e s'=>∃H' a C B t,e=.ref a/\E e (Qa C) H'/\Ext H H'/\s'.os=s.os/\AllBare s'.gens/\zW P w H' B/\(∀b o,s.heap.get? b=Qa o->H b=Qg->b∉zy outer->B.get? b=Qa o)/\
 (∀b o,s.heap.get? b=Qa o->H b=Qg->H' b=Qg)/\(∀b o,s.heap.get? b=Qa o->H b=Qg->b∈zy outer->∃sl,s'.heap.get? b=Qa {o with slots:=sl})/\Heap.FlyingW B outer a (.ref C) (.ref t) s'.heap
def rJ{e:Value}(T:Top X)(m8:X.ex=[])(m:wA X p pins Y H c e s)(x0:Ext X.H₀ H)
  (hE:∀C H',p.cls[c]?=Qa C->Ext X.H₀ H'->Ex e (Qa C) H') (hQ:∀s',j5 X.prog X.w X.outer X.H₀ X.s₀ Ex e s'->Q () s'):wpAny (model X.prog X.w) X.A (leaving X.env e) Q E s:=by
 unfold leaving;refine Qb (aQ T m λH' a C B t h' e1 e2 e3 I b tr=>?_);subst e1;refine Au tr λh2 Cp cG=>hQ _ ?_;have I2:=R3 I b Cp.1 cG;have nx:∀b,b∉X.ex:=λb=>by rw[m8];simp
 obtain⟨k1,k2,⟨_,_,k3⟩,k4⟩:=(T.vL▸Cp)
 refine⟨H',a,C,B,t,rfl,hE C H' e2 (x0.trans e3),x0.trans e3,I2.os,I2.bare,b.qI,λc o q n hc=>?_,λc o q n=>I2.base.free c o q n (nx c),λc o q n hc=>I2.base.slot c o q n hc (nx c),k1,k2,k3,k4⟩;refine b.keep c o q n (λhm=>?_) (nx c);rcases Qo.mp (I2.X5 c hm)with z|z
 .exact absurd (QF (Qu q) I2.ok.above) (by rw[z];exact Jv _)
 .exact hc z
def rH{e:Value}(I:Inv X pins Y H s)(h:j5 X.prog X.w X.stack H s Ex e s')(hE:∀C H',Ex e (Qa C) H'->p.cls[c]?=Qa C):wA X p pins Y H c e s':=by
 obtain⟨H',a,C,B,t,rfl,h1,h2,h3,h4,h5,h6,h7,h8,h9⟩:=h;have qI:=h5.kept h9.1;have un:Un (zy X.stack) [] H H' s.heap s'.heap:=by
  refine⟨λb o q n hb _=>h9.1 _ _ (h6 b o q n hb),λb o q n hb _=>h8 b o q n hb,λb o q n _=>h7 b o q n,λb o q _=>?_,λb xs q=>h2 _ _ q,λb o u q=>h2 _ _ q,λb ps q=>⟨#[],by rw[h2 _ _ q];simp⟩⟩;cases n:H b with
  |some u=>exact AL (qI b u (h2 _ _ n))
  |none=>
   by_cases hb:b∈zy X.stack
   .obtain⟨sl,e⟩:=h8 b o q n hb;exact⟨_,e⟩
   .exact⟨_,h9.1 _ _ (h6 b o q n hb)⟩
 refine⟨H',a,C,rfl,hE C H' h1,h2,.inr (.inl ⟨B,t,(I.L4 h3 un qI h4 (λb z=>absurd z (by simp))),⟨h5,λb o q n hb hx=>?_,λb o q hb hx=>?_,λq hq=>?_⟩,h9⟩)⟩
 .exact h6 b o (I.base.keep b o q n (λz=>hb (lC I.ok b z)) hx) (I.base.free b o q n hx) hb
 .obtain⟨o',q'⟩:=I.base.there b o q hx;cases n:H b with
  |some u=>exact AL (h5 b u (h2 _ _ n))
  |none=>exact⟨_,h6 b o' q' n hb⟩
 .refine yz (I.pin q hq) λq1 n ne nf d=>?_;refine h6 _ _ q1 n λz=>?_;rcases Qo.mp (I.X5 _ z)with z|z
  .exact ne z
  .exact nf z
def yO(p:Pm)(G:Nat->List D->R D)(f n:Nat):Sp:=λvs H Q E=>∃ds O,vs.length=n/\O.Nodup/\Th O H/\qM p (fz O H) ds vs/\G f ds≠.q9/\
 (∀r v H',G f ds=.ok r->Ext H H'->Rep p (fz O H') r v->Q v H')/\(∀c C H' e,G f ds=.err c->p.cls[c]?=Qa C->Ext H H'->E e (Qa C) H')
def RV(p:Pm)(G:Nat->List D->R D)(f n:Nat):Sp:=λvs H Q E=>∃ds O,vs.length=n/\O.Nodup/\Th O H/\qM p (fz O H) ds vs/\G f ds≠.q9/\
 (∀m a H',G f ds=.ok (yZ m)->Ext H H'->H a=Qg->yv p H' (fz (a::O) H') a m->Q (.ref a) H')/\(∀c C H' e,G f ds=.err c->p.cls[c]?=Qa C->Ext H H'->E e (Qa C) H')
def bK{k:Nat}(F:FnOk X.prog X.w X.K X.mg X.base (j5 X.prog X.w) k f fd ps (yO p G j ps.length))
  (hr:Room k X.A) (hb:Binds X.K fd ps []) (I:Inv X pins Y H s) (r:Vals vs us) (nd:O.Nodup) (t:Th O H) (q:qM p (fz O H) ds vs) (hl:ds.length=ps.length) (hs:G j ds≠.q9):
  wpAny (model X.prog X.w) X.A (call (.ref f) us) (λu s'=>∃d v H',G j ds=.ok d/\Inv X pins Y H' s'/\RelV v u/\Ext H H'/\Rep p (fz O H') d v) (Er X p pins Y H (G j ds)) s:=by
 have XT:vs.length=ps.length:=by rw[<-q.length];exact hl
 have bZ:yO p G j ps.length vs H (λv H'=>∃d,G j ds=.ok d/\Ext H H'/\Rep p (fz O H') d v) (λe C H'=>∃c C',G j ds=.err c/\C=Qa C'/\p.cls[c]?=Qa C'):=
  ⟨ds,O,XT,nd,t,q,hs,λr v H' e x w=>⟨r,e,x,w⟩,λc C H' e h1 h2 _=>⟨c,C,h1,rfl,h2⟩⟩
 have kg:=hb s us I.vU (by rw[Q3,<-r.length];exact XT);rw[Q3]at kg;refine W4 (Vh (F.run X.A X.stack s H ⟨us,[]⟩ us vs _ _ hr I.i9 kg r bZ) λrr s' hq=>?_);cases rr with
 |error e=>
  have hq:j5 X.prog X.w X.stack H s (λe C H'=>∃c C',G j ds=.err c/\C=Qa C'/\p.cls[c]?=Qa C') e s':=hq;obtain⟨H',a,C,B,tt,h0,⟨c,C',h1,h2,h3⟩,DX⟩:=id hq;exact⟨c,h1,rH I hq λC2 H2⟨c2,C3,g1,g2,g3⟩=>by rw[h1]at g1;cases g1;cases g2;exact g3⟩
 |ok fl=>
  cases fl with
  |ret u=>
   refine TL (I.after hq) λv H' I' rv d e x w=>?_;exact⟨d,v,H',e,I',rv,x,w⟩
  |next=>exact YW hq
  |brk=>exact YW hq
  |cont=>exact YW hq
def q7z{k:Nat}(F:FnOk X.prog X.w X.K X.mg X.base (j5 X.prog X.w) k f fd ps (RV p G j ps.length))
  (hr:Room k X.A) (hb:Binds X.K fd ps []) (I:Inv X pins Y H s) (r:Vals vs us) (nd:O.Nodup) (t:Th O H) (q:qM p (fz O H) ds vs) (hl:ds.length=ps.length) (hs:G j ds≠.q9):
  wpAny (model X.prog X.w) X.A (call (.ref f) us) (λu s'=>∃m a H',G j ds=.ok (yZ m)/\Inv X pins Y H' s'/\u=.ref a/\Ext H H'/\H a=Qg/\yv p H' (fz (a::O) H') a m) (Er X p pins Y H (G j ds)) s:=by
 have XT:vs.length=ps.length:=by rw[<-q.length];exact hl
 have bZ:RV p G j ps.length vs H (λv H'=>∃m a,v=.ref a/\G j ds=.ok (yZ m)/\Ext H H'/\H a=Qg/\yv p H' (fz (a::O) H') a m) (λe C H'=>∃c C',G j ds=.err c/\C=Qa C'/\p.cls[c]?=Qa C'):=
  ⟨ds,O,XT,nd,t,q,hs,λm a H' e x n h=>⟨m,a,rfl,e,x,n,h⟩,λc C H' e h1 h2 _=>⟨c,C,h1,rfl,h2⟩⟩
 have kg:=hb s us I.vU (by rw[Q3,<-r.length];exact XT);rw[Q3]at kg;refine W4 (Vh (F.run X.A X.stack s H ⟨us,[]⟩ us vs _ _ hr I.i9 kg r bZ) λrr s' hq=>?_);cases rr with
 |error e=>
  have hq:j5 X.prog X.w X.stack H s (λe C H'=>∃c C',G j ds=.err c/\C=Qa C'/\p.cls[c]?=Qa C') e s':=hq;obtain⟨H',a,C,B,tt,h0,⟨c,C',h1,h2,h3⟩,DX⟩:=id hq;exact⟨c,h1,rH I hq λC2 H2⟨c2,C3,g1,g2,g3⟩=>by rw[h1]at g1;cases g1;cases g2;exact g3⟩
 |ok fl=>
  cases fl with
  |ret u=>
   obtain⟨v,H',I',rv,m,a,ev,e,x,n,h⟩:=I.after hq;subst ev;exact⟨m,a,H',e,I',rv,x,n,h⟩
  |next=>exact YW hq
  |brk=>exact YW hq
  |cont=>exact YW hq
theorem q0O{H Hf:Hp}:∀(n:Nat),kU p H Hf (Qr n Qg) (Qr n Qg) (Qr n [])
 |0=>trivial
 |n+1=>⟨Qg,Qr n Qg,[],Qr n [],rfl,rfl,rfl,q0O n⟩
def q3R(n:Nat)(O:List Addr):(Qr n []++[O]).flatten=O:=by simp
def dU{N:List Str}(nd:O.Nodup)(t:Th O H)(q:qM p (fz O H) ds vs)(hl:vs.length<=N.length):
  Bd p H O (zj ds++Qr (N.length-ds.length) Qg) (L2.start N vs) (Qr N.length []) H:=by
 have e:=q.length;have f:(Qr N.length []++[O]).flatten=O:=q3R _ _;refine⟨⟨by rw[f];exact nd,by rw[f];exact t,?_⟩,?_,?_,Ext.refl _,λa ha=>absurd ha (by simp)⟩
 .rw[f];have h:=bU (more:=[O]) (bV (p:=p) (H:=H) (Hf:=fz O H) (q0O (N.length-ds.length)) q);have e2:Qr ds.length ([]:List Addr)++Qr (N.length-ds.length) []=Qr N.length []:=by rw[List.replicate_append_replicate];congr 1;lia
  rw[e2]at h;unfold L2.start;rw[<-e];exact h
 .simp[zj];lia
 .simp[zj,L2.start];lia
def q3T{k:Nat}{f:Addr}{kV ct:Value}
  {wR:Array (Option Value)}{N ps:List Str}{G':Nat->List D->R D}{l:List S}(lk:K.lookup f=Qa ⟨oc,od,.func (J9 name qual params body scope dV kV doc pm an ze ct),wR⟩) (z8:UY K ze qual=Qd) (S:FnScope N ps scope)
  (hG:∀ds,G j ds≠.q9->ds.length=ps.length->G j ds=Ev.run G' sub N.length l ds)
  (P0:∀(A:Around)(outer:List YK)(s:Shared)(H:Hp)(E:XK),Room k (A.deeper (Wj qual scope s.heap.objs.size f ze))->Env0 P w K mg base A outer s H->wb (TF (j5 P w) P w K mg base N qual scope f ze A outer s H E) p G' sub body l):
  FnOk P w K mg base (j5 P w) (k+1) f (J9 name qual params body scope dV kV doc pm an ze ct) ps (yO p G j ps.length):=by
 refine⟨λvs H Q E h=>h.choose_spec.choose_spec.1,λA outer s H args us vs Q E hr e0 hb r xM=>?_⟩;refine LO xM λds O hl nd t q ns q1 q2=>?_;have KX:K.In s.heap:=e0.mod.xP.keeps λb o e=>(e0.bs b o e).1;have ON:∀y∈ps.zip us,scope.names.lookup y.1=Qa .local\/(scope.names.lookup y.1=Qa .cell/\((UD (s.heap.objs.size+1) scope.names []).lookup y.1).isSome=Qd):=λ⟨n,v⟩ hy=>by
  rcases S.par n (VD hy).1 with q|q
  .exact .inl q
  .exact .inr ⟨q,Vn _ _ _ (.inl q)⟩
 refine codeAny_call_function hr.depth (KX _ _ lk) rfl S.co S.gen rfl (F3 KX z8) (hb _ _ _ _ ?_);refine F4 S.kind ON λenv he s1 x=>?_;subst he;refine⟨(e0.mod.nolimit.keeps λb o e=>(e0.bs b o e).1).keeps x.toInCall.keep,codeAny_func ?_⟩;have xH:ps.length<=N.length:=by have:=congrArg YG S.pre;rw[Y8]at this;lia
 have Od:=hG ds ns (by rw[q.length];exact hl);rw[Od]at ns q1 q2;unfold Ev.run at ns q1 q2;have T:Top (TF (j5 P w) P w K mg base N qual scope f ze A outer s H E):=⟨rfl,rfl⟩
 generalize hr0:qN G' sub l (zj ds++Qr (N.length-ds.length) Qg)=r0 at ns q1 q2;refine Qi (P0 A outer s H E (hr.deeper _) e0 H O _ (Lc (p:=p) (H0:=H) (O0:=O) (pins:=[]) (r:=r0) T) [] s1 _ H _ _ (nM S hr.hd e0 hl r x) (dU (N:=N) nd t q ∅) (by rw[hr0];exact(λe=>ns (by rw[e]))) (λe s' z=>by rw[hr0]at z;exact z)) (λfl s' hs=>?_) λe s' hs=>?_
 .rw[hr0]at hs;refine Rr hs λρ' Lp Y' qy H' e1 B' I' r'=>?_;subst e1;cases Lp<;>cases fl<;>first|exact r'.elim|skip
  .exact⟨.qE,H',I'.os,I'.bare,I'.base,I'.qI,rfl,q1 .qE .qE H' rfl B'.ext rfl⟩
  .cases ns rfl
  .cases ns rfl
  .obtain⟨v,rv,w'⟩:=r';exact⟨v,H',I'.os,I'.bare,I'.base,I'.qI,rv,q1 _ v H' rfl B'.ext w'⟩
  .cases ns rfl
 .refine D4 hs λc ρ' Y' qy H' e1 B' m=>?_;subst e1;exact rJ T rfl m B'.ext (λC H2 h1 h2=>q2 c C H2 e rfl h1 h2) λs2 h2=>h2
def q3U{k:Nat}{f:Addr}{kV ct:Value}
  {wR:Array (Option Value)}{N ps:List Str}{G':Nat->List D->R D}{l:List S}(lk:K.lookup f=Qa ⟨oc,od,.func (J9 name qual params body scope dV kV doc pm an ze ct),wR⟩) (z8:UY K ze qual=Qd) (S:FnScope N ps scope)
  (hG:∀ds,G j ds≠.q9->ds.length=ps.length->G j ds=Ev.Py G' sub N.length l ds)
  (P0:∀(A:Around)(outer:List YK)(s:Shared)(H:Hp)(E:XK),Room k (A.deeper (Wj qual scope s.heap.objs.size f ze))->Env0 P w K mg base A outer s H->wb (TF (j5 P w) P w K mg base N qual scope f ze A outer s H E) p G' sub body l):
  FnOk P w K mg base (j5 P w) (k+1) f (J9 name qual params body scope dV kV doc pm an ze ct) ps (RV p G j ps.length):=by
 refine⟨λvs H Q E h=>h.choose_spec.choose_spec.1,λA outer s H args us vs Q E hr e0 hb r xM=>?_⟩;refine LO xM λds O hl nd t q ns q1 q2=>?_;have KX:K.In s.heap:=e0.mod.xP.keeps λb o e=>(e0.bs b o e).1;have ON:∀y∈ps.zip us,scope.names.lookup y.1=Qa .local\/(scope.names.lookup y.1=Qa .cell/\((UD (s.heap.objs.size+1) scope.names []).lookup y.1).isSome=Qd):=λ⟨n,v⟩ hy=>by
  rcases S.par n (VD hy).1 with q|q
  .exact .inl q
  .exact .inr ⟨q,Vn _ _ _ (.inl q)⟩
 refine codeAny_call_function hr.depth (KX _ _ lk) rfl S.co S.gen rfl (F3 KX z8) (hb _ _ _ _ ?_);refine F4 S.kind ON λenv he s1 x=>?_;subst he;refine⟨(e0.mod.nolimit.keeps λb o e=>(e0.bs b o e).1).keeps x.toInCall.keep,codeAny_func ?_⟩;have xH:ps.length<=N.length:=by have:=congrArg YG S.pre;rw[Y8]at this;lia
 have Od:=hG ds ns (by rw[q.length];exact hl);rw[Od]at ns q1 q2;unfold Ev.Py at ns q1 q2;have T:Top (TF (j5 P w) P w K mg base N qual scope f ze A outer s H E):=⟨rfl,rfl⟩
 generalize hr0:qN G' sub l (zj ds++Qr (N.length-ds.length) Qg)=r0 at ns q1 q2;refine Qi (P0 A outer s H E (hr.deeper _) e0 H O _ (Lc (p:=p) (H0:=H) (O0:=O) (pins:=[]) (r:=r0) T) [] s1 _ H _ _ (nM S hr.hd e0 hl r x) (dU (N:=N) nd t q ∅) (by rw[hr0];exact(λe=>ns (by rw[e]))) (λe s' z=>by rw[hr0]at z;exact z)) (λfl s' hs=>?_) λe s' hs=>?_
 .rw[hr0]at hs;refine Rr hs λρ' Lp Y' qy H' e1 B' I' r'=>?_;subst e1;cases Lp<;>cases fl<;>first|exact r'.elim|skip
  .cases ns rfl
  .cases ns rfl
  .cases ns rfl
  .cases ns rfl
  .refine zK r' λa m qe qf z3 z4=>?_;subst qe qf;exact⟨.ref a,H',I'.os,I'.bare,I'.base,I'.qI,rfl,q1 m a H' rfl B'.ext z3 z4⟩
 .refine D4 hs λc ρ' Y' qy H' e1 B' m=>?_;subst e1;exact rJ T rfl m B'.ext (λC H2 h1 h2=>q2 c C H2 e rfl h1 h2) λs2 h2=>h2
def JP(X:Cx)(e:QC)(y:Str):Prop:=∀(E:NZ)(pins:List (Addr×Obj))(Y:L2.St)(H:Hp)(s:Shared),Inv X pins Y H s->
 wpAny (model X.prog X.w) X.A (Jw e X.env) (λu s'=>(∃t,u=.str y t)/\Inv X pins Y H s') E s
def SM(X:Cx)(e:QC):Prop:=∀(E:NZ)(pins:List (Addr×Obj))(Y:L2.St)(H:Hp)(s:Shared),Inv X pins Y H s->
 wpAny (model X.prog X.w) X.A (Jw e X.env) (λu s'=>Inv X pins Y H s') E s
def q5I:JP X (.Constant (.str x) j pos) x:=λE pins Y H s I=>
 Calls.Constant_str ⟨⟨_,rfl⟩,I.tok _⟩
def q5H{a:Int}(hg:Gl X x)(hm:X.mg x=Qa (.int a t))(hd:(x==("__debug__":Str))=Qh)(hl:a.natAbs.log2<1920):JP X (.FormattedValue (.Name x q) (-1) Qg pos) (toString a):=λE pins Y H s I=>
 PyProof.Rows.FormattedValue_plain (uu I hg hm (PyProof.Rows.formatField_int_small hl ⟨⟨_,rfl⟩,I.tok _⟩) hd)
def Dh{rest:List (Sem Value)}{out:Str}{Q:NZ}(he:JP X e y)(I:Inv X pins Y H s)(hz:(out++y).length<=QI)
  (h:∀s',Inv X pins Y H s'->wpAny (model X.prog X.w) X.A (joinParts (out++y) rest) Q E s'):wpAny (model X.prog X.w) X.A (joinParts out (Jw e X.env::rest)) Q E s:=
 PyProof.Rows.joinParts_cons (Qi (he E pins Y H s I) (λu s'⟨⟨t,e⟩,I'⟩=>by subst e;exact⟨hz,h s' I'⟩) λ_ _ z=>z)
def q9E{b:QC}(ha:JP X a x)(hb:JP X b y)(h1:(V4++x).length<=QI)(h2:(V4++x++y).length<=QI):SM X (.JoinedStr [a,b] pos):=λE pins Y H s I=>
 Wc (Dh ha I h1 λs1 I1=>Dh hb I1 h2 λs2 I2=>Wg (I2.tok _) h2)
def q9D{z:Str}{b c:QC}(ha:JP X a x)(hb:JP X b y)(hc:JP X c z)(h1:(V4++x).length<=QI)(h2:(V4++x++y).length<=QI)(h3:(V4++x++y++z).length<=QI):SM X (.JoinedStr [a,b,c] pos):=λE pins Y H s I=>
 Wc (Dh ha I h1 λs1 I1=>Dh hb I1 h2 λs2 I2=>Dh hc I2 h3 λs3 I3=>Wg (I3.tok _) h3)
def q9Z{C:Addr}{bm:List Value}{rZ q4b B:String}{np LA:Pos}(hc:X.calm=Qd)(hg:Gl X x)(O:OwnCls x C bm rZ X.mg X.base)(FB:ExcBaseFacts B rZ q4b bm)(kM:p.cls[c]?=Qa C)(ha:SM X a)
  (hd:(x==("__debug__":Str))=Qh) (qX:Q5 [a] X.env=[(Qh,Jw a X.env)]):SS X p G sub (.Raise (Qa (.Call (.Name x np) [a] [] LA)) Qg pos) (.raise c):=by
 intro H0 O0 E hp pins s Y H Z os I B hs hE;have e0:ex G sub (.raise c) Z=.err c Z:=rfl;rw[e0]at hE|-;obtain⟨tl,N,nm,q,bs,hdct,sn,sb,ab,col,dd,k0,k1,k2,k3,k5,mN,hC,hN,hni,T⟩:=O.obj;refine wpAny_Raise_call_subT (C:=C) (nm:=nm) (q:=q) (N:=N) (bs:=bs) (bm:=tl) (hdct:=hdct) (sn:=sn) (sub:=sb) (ab:=ab) (col:=col) (dd:=dd) (k0:=k0) (k1:=k1) (k2:=k2) (k3:=k3) (k5:=k5)
  FB (mN:=mN) (T.hasType FB.hasBase) (I.ok.hd hc) (by rw[qX];rfl) hni (uu I hg O.bound ⟨rfl,?_⟩ hd)
 rw[qX];refine Yo ?_;show wpAny _ _ (Us ((Qh,Jw a X.env)::UO LA [])) _ _ s;refine QW (Qi (ha E pins Y H s I) (λu s1 I1=>?_) λ_ _ z=>z);refine Q0 ⟨rfl,show 1<=QI by rw[Jk];decide,I1.bk _ _ hC,hN.keeps I1.bk,T.keeps I1.bk,λh' e mk=>?_⟩;exact hE _ _ ⟨c,Z,Y,os,H,rfl,B,H,e,C,rfl,kM,Ext.refl _,.inl ⟨s1,_,I1,mk,rfl⟩⟩
def mk(X:Cx)(e:Addr):Cx:={X with A:=X.A.mark (Qa (.ref e)),calm:=Qh}
def nK{e:Addr}(I:Inv X pins Y H s):Inv (mk X e) pins Y H s:=
 ⟨⟨I.ok.mod,I.ok.kind,I.ok.glob,I.ok.blt,I.ok.above,I.ok.inj,I.ok.has,I.ok.XE,λz=>(nomatch z),I.ok.frames,I.ok.vL,I.ok.DB,I.ok.bs,I.ok.yY,I.ok.Xj,I.ok.TU,I.ok.funs,I.ok.xq⟩,I.os,I.bare,I.base,I.loc,I.cell,I.free,I.kB,I.pin,I.qI,I.len⟩
def q4k{a C:Addr}(I:Inv X pins Y H s)(b:BOk X pins H B)(tr:T7 B X.stack a (.ref C) a0 fl s.heap):
  H a=Qg/\Inv X pins Y (upd H a (.ext (u7 a C))) s:=by
 obtain⟨k1,k2,k3,oe,vs,T,oT,ts,g1,g2,g3,_⟩:=tr;have hn:=GF b.qI k2;have AK:a∉zy X.stack:=λhm=>by obtain⟨_,o,ho,hd⟩:=k3.mem hm;rw[g1]at ho;cases ho;exact hd _ g3
 have n0:∀o,X.s₀.heap.get? a=Qa o->a∉X.ex->False:=λo e hx=>by obtain⟨o',e'⟩:=b.there a o e AK hx;rw[k2]at e';exact nS e'
 have qI:zW X.prog X.w (upd H a (.ext (u7 a C))) s.heap:=λc u e=>by
  by_cases hc:c=a
  .subst hc;rw[zr]at e;cases e;exact⟨⟨oe,g1,g2.1⟩,⟨oe,g1⟩,λh1 h2⟨o,e1,e2⟩ k=>⟨o,k o e1,e2⟩⟩
  .rw[qY hc]at e;exact(I.qI c u e).xZ (λ_ _ _ q=>q) (λd q=>by rw[qY (jJ q hn)];exact q) λd xs q=>by rw[qY (jJ q hn)];exact q
 refine⟨hn,I.ok,I.os,I.bare,⟨I.base.keep,I.base.slot,λc o e n hx=>?_,I.base.there,λc xs e=>?_,λc o u e=>?_,λc ps e=>?_⟩,I.loc,I.cell,?_,λx c e=>?_,λq hq=>?_,qI,I.len⟩
 .rw[qY λz=>by rw[z]at e hx;exact n0 o e hx];exact I.base.free c o e n hx
 .have:=I.base.yq c xs e;rw[qY (jJ this hn)];exact this
 .have:=I.base.wq c o u e;rw[qY (jJ this hn)];exact this
 .obtain⟨more,this⟩:=I.base.yp c ps e;exact⟨more,by rw[qY (jJ this hn)];exact this⟩
 .rw[qY λz=>?_]
  .exact I.free
  .obtain⟨m,⟨o,es,ep,ho,hd,_⟩,_⟩:=I.loc;rw[z,g1]at ho;cases ho;rw[g3]at hd;cases hd
 .rw[qY λz=>?_]
  .exact I.kB x c e
  .obtain⟨v,o,ho,hd⟩:=I.cell x c e;rw[z,g1]at ho;cases ho;rw[g3]at hd;cases hd
 .refine yz (I.pin q hq) λe n ne nf d=>?_;refine⟨e,?_,ne,nf,d⟩;rw[qY λz=>?_]
  .exact n
  .have:=b.pin q hq;rw[z,k2]at this;exact nS this
def name_goes(I:Inv X pins Y H s)(hN:X.N.Nodup)(hi:X.N[i]?=Qa x)(hl:X.env.scope.names.lookup x=Qa .local)
  (h:∀s',Inv X pins (Y.set i Qg) H s'->Q () s'):wpAny (model X.prog X.w) X.A (do bindName X.env x .none;unbindBehindTheSuite X.env x pos) Q E s:=by
 obtain⟨m,hn,Tt⟩:=id I.loc;have yx:=I.yx;refine wpAny_nameGoes_keeps hl hn (by rw[I.ok.kind];rfl) λh' v DT hs=>?_;obtain⟨oL,_,_,mS,_⟩:=id hn;have qI:zW X.prog X.w H h':=λb ob e=>by
  refine(I.qI b ob e).xZ (λc w' hc q=>(hs.2 c ?_).trans q) (λ_ q=>q) λ_ _ q=>q;rintro rfl;rcases hc with rfl|hc
  .rw[I.free]at e;exact nS e
  .rw[I.free]at hc;exact nS hc
 have low:∀b o,X.s₀.heap.get? b=Qa o->b≠X.env.locals:=λb o e=>QK (QF (Qu e) I.ok.above);refine h _ ⟨I.ok,I.os,I.bare,⟨λb o e n hb hx=>?_,λb o e n hb hx=>?_,I.base.free,λb o e hx=>?_,I.base.yq,I.base.wq,I.base.yp⟩,⟨_,DT,λj y v' e1 e2 e3=>?_⟩,λy c e=>?_,I.free,I.kB,λq hq=>?_,qI,by simpa using I.len⟩
 .exact (hs.2 b (low b o e)).trans (I.base.keep b o e n hb hx)
 .obtain⟨sl,e1⟩:=I.base.slot b o e n hb hx;exact⟨sl,(hs.2 b (low b o e)).trans e1⟩
 .obtain⟨o',e1⟩:=I.base.there b o e hx;exact⟨o',(hs.2 b (low b o e)).trans e1⟩
 .by_cases hj:j=i
  .subst hj;rw[Yd (by rw[I.len];exact(Qj.mp hi).1)]at e2;cases e2
  .rw[Yp (JQ hj)]at e2;refine qR (Tt j y v' e1 e2 e3) λu' r' q=>?_;refine⟨u',r',?_⟩;rcases q with⟨k,e⟩|⟨k,c,e,z⟩
   .refine .inl ⟨k,?_⟩;have:y≠x:=λe=>hj (ak hN e1 (e▸hi));simp[this,e]
   .exact .inr ⟨k,c,e,z.sameBut hs (yx y c e)⟩
 .obtain⟨w',z⟩:=I.cell y c e;exact⟨w',z.sameBut hs (yx y c e)⟩
 .refine yz (I.pin q hq) λe n ne nf d=>?_;exact⟨(hs.2 q.1 ne).trans e,n,ne,nf,d⟩
def q8p(l:List α)(i j:Nat)(a b c:α)(h:i≠j):((l.set i a).set j b).set i c=(l.set j b).set i c:=by rw[List.set_comm _ _ h,List.set_set]
def q9k{lb:List S}(T:Top X)(hN:X.N.Nodup)(hi:X.N[i]?=Qa x)(hl:X.env.scope.names.lookup x=Qa .local)(hj:X.N[j]?=Qa y)(hy:Loc X.env.scope y)(hfy:X.fn y=Qd\/X.env.scope.names.lookup y=Qa .local)
  (Ou:x≠y) (hg:Gl X cn) (hm:X.mg cn=Qa (.ref Cc)) (Og:∀e Ce,p.cls[e]?=Qa Ce->PySem.W.exmOne X.K (.ref Ce) (.ref Cc)=Qa (sub e c)) (hdc:(cn==("__debug__":Str))=Qh) (hd:(x==("__debug__":Str))=Qh) (z8:(x==("__classdict__":Str))=Qh)
  (hb:wb X p G sub body lb):SS X p G sub (.Try body [.ExceptHandler (Qa (.Name cn q)) (Qa x) [.Assign [.Name y q2] (.Name x q3) q4] jK] [] [] pos) (.tryE lb c i j):=by
 intro H0 O0 E hp pins s Y H Z os I B hs hE;have e0:ex G sub (.tryE lb c i j) Z=match qN G sub lb Z with
   |.err e ρ'=>if sub e c then .ok ((ρ'.set j (Qa (.val (.exc e)))).set i Qg) .nx else .q9
   |r=>r:=rfl
 rw[e0]at hs hE|-;generalize hr:qN G sub lb Z=r0 at hs hE|-;have vj:i≠j:=λe=>Ou (by rw[e,hj]at hi;exact(QY hi).symm);refine wpAny_Try_except (Qi (hb H0 O0 _ (Lc (p:=p) (H0:=H0) (O0:=O0) (pins:=pins) (r:=r0) T) pins s Y H Z os I B (by rw[hr];exact(λe=>hs (by rw[e]))) (λe s' z=>by rw[hr]at z;exact z)) (λf s1 qq=>?_) (λe s1 qq=>?_))
 .rw[hr]at qq;refine Rr qq λρ1 fl σ1 xV H1 e1 B1 I1 r1=>?_;subst e1;cases fl<;>cases f<;>first|exact r1.elim|skip
  .exact Va ⟨ρ1,.nx,σ1,xV,H1,rfl,B1,I1,trivial⟩
  .exact⟨ρ1,.brk,σ1,xV,H1,rfl,B1,I1,trivial⟩
  .exact⟨ρ1,.cont,σ1,xV,H1,rfl,B1,I1,trivial⟩
  .exact⟨ρ1,_,σ1,xV,H1,rfl,B1,I1,r1⟩
  .exact⟨ρ1,_,σ1,xV,H1,rfl,B1,I1,r1⟩
 .refine D4 qq λc' ρ' Y' qy H' e1 B' m=>?_;subst e1;have GI:sub c' c=Qd:=by
   cases h:sub c' c with
   |true=>rfl
   |false=>exact absurd (by simp[h]) hs
  refine aQ T m λH2 a C Bh t h2 ea hV x2 I2 bo tr=>?_;subst ea;refine Au (s:={s1 with heap:=h2}) (o:=Qg) tr λh3 c7 up3=>?_;have I3:=R3 (s:={s1 with heap:=h2}) I2 bo c7.1 up3;refine wpAny_handleBy_cons (codeAny_handlers_test ?_) (by intro q;cases q);refine uu (X:=mk X a) (nK I3) hg hm ?_ hdc;have LT:VT (model X.prog X.w) h3 (typeOf (.ref a)) (.ref C):=by obtain⟨ob,g1,g2⟩:=c7.2.2.2.there;exact g2▸(ZN g1).andThen .now
  refine PySem.W.Looks.here (s:={s1 with heap:=h3}) (PySem.W.exm_one I3.vU LT (Og c' C hV)) ?_;rw[GI,if_pos rfl];refine codeAny_handlers_suite_as ?_;refine Au (s:={s1 with heap:=h3}) (o:=Qg) c7 λh4 tr4 up4=>?_;obtain⟨hn,I5⟩:=q4k (R3 (s:={s1 with heap:=h3}) I3 bo tr4.1 up4) bo tr4;have lt:i<ρ'.length:=by rw[<-B'.jE,I2.len];exact(Qj.mp hi).1
  have q6Z:a∉(qy++[O0]).flatten:=λz=>by obtain⟨o,e⟩:=B'.rel.there a z;rw[x2 _ _ e]at hn;cases hn
  have rep:Rep p (fz (qy++[O0]).flatten (upd H2 a (.ext (u7 a C)))) (.exc c') (.ref a):=⟨a,C,rfl,hV,wt zr q6Z⟩
  have qA3:∀b∈(qy.set i []++[O0]).flatten,b∈(qy++[O0]).flatten:=λb hb=>by rw[<-wW (by rw[B'.len];exact lt)]at hb;exact(yk hb).elim id λz=>absurd z (by simp)
  have B7:=((B'.mono (x2.trans (Ext.upd hn))).X3 lt rep).X3 (i:=j) (by simpa using(by rw[<-B'.jE,I2.len];exact(Qj.mp hj).1)) (rep.mono (xr qA3));refine wY (v:=.ref a) I5 hN hi (.inl hl) rfl (λs6 I6=>?_) (.inr hl);refine wpAny_execs_cons (YA (vv (X:=mk X a) (v:=.ref a) (nK I6) hi (.inl hl) ?_ hd z8 λu r=>?_) rfl)
  .rw[Yd (by rw[B'.jE];exact lt)]
  refine wY (v:=.ref a) I6 hN hj hy r (λs7 I7=>?_) hfy;refine Va ?_;refine name_goes I7 hN hi hl λs8 I8=>?_;refine⟨_,.nx,_,_,_,?_,(B7.X2 (i:=i) (y:=Qg) (by simpa using lt)),I8,trivial⟩;show(if sub c' c=Qd then _ else _)=_;rw[if_pos GI,q8p _ _ _ _ _ _ vj]
open PySem.Builtin PySem.Builtin.ObjectAttr
structure ExOk(K:QL)(C:Addr):Prop where
 ga:findIn K (.ref C) "__getattribute__"=Qa (Qa (.builtin "BaseException.__getattribute__"))
 gh:findIn K (.ref C) "__getattr__"=Qa Qg
 bex:mroIn K C (.type "BaseException")=Qa Qd
 own:findIn K (.ref C) "__class__"=Qa (Qa (.builtin "object.__class__"))
 spc:specialIn K (.builtin "object.__class__") "__get__"=Qa (Qa (.builtin "getset_descriptor.__get__"))
 tk:takesIn K (.builtin "object.__class__")=Qa Qd
 mro:mroIn K C (.type "object")=Qa Qd
 cls:isClsIn K C=Qd
def En{x C:Addr}(q:u7 x C h):VT M h (typeOf (.ref x)) (.ref C):=by obtain⟨o,e1,e2⟩:=q;exact e2▸(ZN e1).andThen .now
def q3E{x C:Addr}(Z:K.In h)(o:ExOk K C):VT M h (find (.ref x) (.ref C) "__class__") (.bind (.builtin "getset_descriptor.__get__") (.builtin "object.__class__")):=by refine(looks_findIn (M:=M) Z o.own).andThen ((looks_specialIn Z o.spc).andThen ((show VT M h (dataDescriptor? (Qa (.builtin "object.__class__")) (Qa (.builtin "getset_descriptor.__get__"))) (Qa (.builtin "getset_descriptor.__get__",.builtin "object.__class__")) from(looks_takesIn (M:=M) Z o.tk).andThen .now).andThen ?_));exact PySem.W.Looks.tag .now
def q3F{x C:Addr}{tp:Value}{R:ZI->Shared->Prop}(Z:K.In s.heap)(o:ExOk K C)(q:u7 x C s.heap)(hR:R (.ok (.ret (.ref C))) s):codeAny (model prog w) A (.call (.builtin "getset_descriptor.__get__") ⟨[.builtin "object.__class__",.ref x,tp],[]⟩) R s:=by
 obtain⟨hp,ge,dr,tk,os⟩:=s;have z0:=En (M:=model prog w) q;have z4:=looks_mroIn (M:=model prog w) (show K.In hp from Z) o.mro;refine Wt KF.slot_gs.plain KF.entry_gs (KF.slot_gs.check _ _ _ _ _ _ _ _ KF.type_class (KF.args_gs _ _ _) (show wpAny _ _ (UR _) _ _ _ from ?_));unfold UR;rw[dga_obj];refine Qb (Qf ?_);unfold Z3 Z4 Z6 isInstance;simp only[KF.owner_class]
 repeat lk
 refine⟨Code.quiet_builtin _ (by decide+kernel),Yx KF.entry_class ?_⟩;unfold Ua.«object.__class__»;unfold shownTypeOf
 repeat lk
 exact hR
def q3C{x C:Addr}{nv:Value}(Z:K.In s.heap)(o:ExOk K C)(q:u7 x C s.heap)(hq:Q () s):wpAny (model prog w) A (checkBuiltinCall "BaseException.__getattribute__" ⟨[.ref x,nv],[]⟩) Q E s:=by
 obtain⟨hp,ge,dr,tk,os⟩:=s;have z0:=En (M:=model prog w) q;have z4:=looks_mroIn (M:=model prog w) Z o.bex;have k1:builtinKind "BaseException.__getattribute__"=Qa .slot:=by decide+kernel
 have k2:splitId "BaseException.__getattribute__"=Qa ("BaseException","__getattribute__"):=by decide+kernel
 have k3:=PySem.F.args_bexc_ga (.ref x) nv;unfold F5 at k3;unfold checkBuiltinCall;simp only[k1,k2];refine Qb ?_;unfold isInstance
 repeat lk
 exact hq
def q3D{x C:Addr}{Q:Option Value->Shared->Prop}(Z:K.In s.heap)(o:ExOk K C)(q:u7 x C s.heap)(hq:Q (Qa (.ref C)) {s with toks:=s.toks+1}):wpAny (model prog w) A (getAttr? (.ref x) "__class__") Q E s:=by
 obtain⟨hp,ge,dr,tk,os⟩:=s;have z0:=En (M:=model prog w) q;have z1:=looks_findIn (M:=model prog w) Z o.ga;have z2:=q3E (M:=model prog w) (x:=x) Z o;have nb:(onTheHeap (Y6 C)&&V5 "BaseException.__getattribute__"==V5 "object.__getattribute__")=Qh:=by
  have:(V5 "BaseException.__getattribute__"==V5 "object.__getattribute__")=Qh:=by decide+kernel
  rw[this,VS]
 unfold getAttr? getAttrBy? getAttrBy;refine Qb (wpAny_mkText (Qb (VG (Q4 (Qb (z0.at (Qb (z1.at ?_))))))));dsimp only;rw[nb,if_neg (by decide)];unfold getAttrByItsOwn hookBefore;rw[if_pos (show onTheHeap (Y6 C)=Qd from rfl)];refine Qb ((looks_findIn (M:=model prog w) Z o.gh).at (Qb (VG (Q4 ?_))));show wpAny _ _ (boundAndCalled _ _ _) _ _ _;unfold boundAndCalled;refine Qb (Wu (Zx.ga.bind (.ref x)) ?_);refine W4 (Wt Zx.ga.plain PySem.F.entry_bexc_ga (q3C (s:={heap:=hp,gens:=ge,drawn:=dr,toks:=tk+1,os:=os}) Z o q ?_));unfold Ua.«object.__getattribute__»;refine Qb (Qf (Qb (Qf (Qb (z0.at (Qb (z2.at ?_)))))));dsimp only;show wpAny _ _ (Builtin.ObjectAttr.bindTo _ _ _ _) _ _ _;show wpAny _ _ (WD [_] (call _ [_,Y6 x,Y6 C])>>=ret) _ _ _;exact Qb (Q4 (W4 (q3F (s:={heap:=hp,gens:=ge,drawn:=dr,toks:=tk+1,os:=os}) Z o q (Qf (handed_on rfl (Qf hq))))))
def nu{x C:Addr}(o:ExOk K C):KitX K (.ref x) (.ref C) (u7 x C)where
 ty:=λ_ _ _ q=>En q
 it:=λ_ _ Z _=>by
  obtain⟨cd,hc⟩:=Ve.mp o.cls;unfold clsIn at hc;split at hc
  .rename_i ho;intro A' Q' E' s' k q;unfold isType;unfold loadHead;exact Qb (wpAny_loadPart (k _ _ (Z _ _ ho)) (Qf q))
  .cases hc
 ne:=λh tp dd its n sl Z htp=>by
  obtain⟨cd,hc⟩:=Ve.mp o.cls;refine Yq.mpr λq=>?_;cases Y6.inj (beq_iff_eq.mp q);unfold clsIn at hc;split at hc
  .rename_i ho;cases(Z _ _ ho).symm.trans htp
  .cases hc
 ca:=λZ q k=>q3D Z o q k
def BI(X:Cx)(p:Pm)(sub:Nat->Nat->Bool)(b:Bi)(cv:Value):Prop:=
 ∀(E:NZ)(pins:List (Addr×Obj))(s:Shared)(Y:L2.St)(H:Hp)(os:List (List Addr))(d r:D)(v:V)(u:Value),Inv X pins Y H s->RelV v u->j6 p H (fz os.flatten H) d v->zB sub b [d]=.ok r->
  wpAny (model X.prog X.w) X.A (call (.builtin "isinstance") [u,cv]) (EP (X.qn E) pins Y (Fin p os.flatten H r)) E s
def GV{t:Value}:kitOne K t t=Qa Qd:=by unfold kitOne;rw[if_pos (beq_self_eq_true t)]
def xo(I:Inv X pins Y H s)(b:Bool)(tk:Nat):EP (X.qn E) pins Y (Fin p O H (.bl b)) (.bool b) {s with toks:=tk}:=
 ⟨.bl b,H,(I.qn E).tok tk,rfl,fin_same rfl⟩
def q1l(hK:p.K=X.K):BI X p sub .isTup (.type "tuple"):=by
 intro E pins s Y H os d r v u I rv q h;cases d<;>first
  |(cases h;done)
  |skip
 cases h;refine zK q λa vs zz s1 z r1=>?_;subst zz;cases rv;obtain⟨its,rv,⟨o,e,c,_⟩,_⟩:=I.tuple (hK▸qu.jT s1);exact Zk kitx_tuple I.vU ⟨o,e,c⟩ GV (λz=>nomatch z) λtk=>xo I _ tk
def q1j(hK:p.K=X.K):BI X p sub .PN (.type "list"):=by
 intro E pins s Y H os d r v u I rv q h;cases d<;>first
  |(cases h;done)
  |skip
 cases h;refine qL q λa vs zz s1 r1=>?_;subst zz;cases rv;obtain⟨its,rv,⟨o,n,e,c,_⟩,_⟩:=I.list (hK▸s1);exact Zk kitx_list I.vU ⟨o,e,c⟩ GV (λz=>nomatch z) λtk=>xo I _ tk
def q1h:BI X p sub .isInt (.type "int"):=by
 intro E pins s Y H os d r v u I rv q h;cases d<;>first
  |(cases h;done)
  |skip
 cases h;cases q;obtain⟨t,rfl⟩:=rv;exact Zk kitx_int I.vU trivial GV (λz=>nomatch z) λtk=>xo I _ tk
def q5U:kitOne K (.type "int") (.type "bool")=Qa Qh:=by
 have h1:(J5 "int"==J5 "bool")=Qh:=by decide+kernel
 have h2:kitMeta "bool"=Qd:=by decide+kernel
 have h3:(fastBuiltinMro "int").map (·.contains (J5 "bool"))=Qa Qh:=by decide+kernel
 unfold kitOne kitCls subIn;rw[if_neg (by rw[h1];decide)];dsimp only;rw[if_pos h2,h3]
def q1f:BI X p sub .isBool (.type "bool"):=by
 intro E pins s Y H os d r v u I rv q h;cases d<;>first
  |(cases h;done)
  |skip
 .cases h;cases q;cases rv;exact Zk kitx_bool I.vU trivial GV (λz=>nomatch z) λtk=>xo I _ tk
 .cases h;cases q;obtain⟨t,rfl⟩:=rv;exact Zk kitx_int I.vU trivial q5U (λz=>nomatch z) λtk=>xo I _ tk
def ig{v:V}(I:Inv X pins Y H s)(q:Rep p (fz O H) (.exc c) v):∃a C,v=.ref a/\p.cls[c]?=Qa C/\u7 a C s.heap:=by refine qL q λa C e h1 h2=>?_;exact⟨a,C,e,h1,(I.qI a _ (qu _ _ h2)).1⟩
def q1m(hX:∀(c:Nat)(C:Addr),p.cls[c]?=Qa C->ExOk X.K C/\kitOne X.K (.ref C) (.type "ValueError")=Qa Qd):BI X p sub .isVal (.type "ValueError"):=by
 intro E pins s Y H os d r v u I rv q h;cases d<;>first
  |(cases h;done)
  |skip
 cases h;refine qL (ig I q) λa C zz h1 h2=>?_;subst zz;cases rv;obtain⟨k1,k2⟩:=hX _ C h1;exact Zk (nu k1) I.vU h2 k2 (λz=>nomatch z) λtk=>xo I _ tk
def q1g(hX:∀(c:Nat)(C:Addr),p.cls[c]?=Qa C->ExOk X.K C/\kitOne X.K (.ref C) (.ref Cc)=Qa (sub c k)):BI X p sub (.isExc k) (.ref Cc):=by
 intro E pins s Y H os d r v u I rv q h;cases d<;>first
  |(cases h;done)
  |skip
 cases h;refine qL (ig I q) λa C zz h1 h2=>?_;subst zz;cases rv;obtain⟨k1,k2⟩:=hX _ C h1;exact Zk (nu k1) I.vU h2 k2 (λz=>nomatch z) λtk=>xo I _ tk
def Pz(hB:BI X p sub b cv)(hg:Gl X "isinstance")(hm:X.mg "isinstance"=Qg)(ha:SB X p G sub a l)
  (hc:∀(E:NZ)(Q:NZ)(pins:List (Addr×Obj))(s:Shared)(Y:L2.St)(H:Hp),Inv X pins Y H s->Q cv s->wpAny (model X.prog X.w) X.A (Jw (.Name cn q2) X.env) Q E s)
  (qX:Q5 [a,.Name cn q2] X.env=[(Qh,Jw a X.env),(Qh,Jw (.Name cn q2) X.env)]):SE X p G sub (.Call (.Name "isinstance" q) [a,.Name cn q2] [] pos) (.bi b [l]):=by
 intro pins s Y H Z os I R hs;refine Je (jr I hg hm boot_isinstance ?_ (by decide) (by decide));refine Yl ?_ (by rw[qX];rfl) rfl;rw[qX];refine QW (Qi (ha pins s Y H Z os I R (Fm hs)) (λu s1 h=>?_) (λ_ _=>Fl));refine qi h λd v H1 e1 I1 r1 x1 q1=>?_;have e0:ev G sub (.bi b [l]) Z=zB sub b [d]:=by rw[jA,RF l Z _ (λ_=>rfl),e1];rfl
 rw[e0]at hs|-;refine QW (hc _ _ pins s1 Y H1 I1 (Q0 ?_));rcases EF sub b [d]with z|⟨r,z⟩
 .exact absurd z hs
 .rw[z];exact Qi (hB (Er X p pins Y H (.ok r)) pins s1 Y H1 os d r v u I1 r1 q1 z) (λw s2 h2=>TM x1 rfl h2) λ_ _ z=>z
def q3a{a:Addr}(n:H a=Qg):Ext (fz O H) (fz (O++[a]) (upd H a o)):=λc u e=>by
 unfold fz at e|-;split at e
 .exact nS e
 .rename_i h;have ne:c≠a:=λz=>by rw[z,n]at e;exact nS e
  rw[if_neg (by simp[h,ne]),qY ne];exact e
def q7p(x:∀a o,H a=Qa o->(∀kvs,o≠.dK kvs)->H' a=Qa o):(∀d v,Rep p H d v->Rep p H' d v)/\(∀ds vs,qM p H ds vs->qM p H' ds vs):=by
 refine D.ind
  (λv h=>h) (λ_ v h=>h) (λ_ v h=>h) (λ_ v h=>h) (λl ih v h=>?_) (λl ih v h=>?_) (λk l ihk ih v h=>?_) (λc v h=>?_) (λvs h=>h) (λd ds uj uk vs h=>?_)
 .obtain⟨a,vs,e,s,z,r⟩:=h;exact⟨a,vs,e,(λh=>h.elim (λr=>.inl (r.elim (λe=>.inl (x _ _ e (λ_ z=>nomatch z))) λ⟨o,e⟩=>.inr ⟨o,x _ _ e (λ_ z=>nomatch z)⟩)) .inr) s,z,ih _ r⟩
 .obtain⟨a,vs,e,s,r⟩:=h;exact⟨a,vs,e,(λh=>h.elim (λr=>.inl (r.elim (λe=>.inl (x _ _ e (λ_ z=>nomatch z))) λ⟨o,e⟩=>.inr ⟨o,x _ _ e (λ_ z=>nomatch z)⟩)) .inr) s,ih _ r⟩
 .obtain⟨a,kvs,o,e,s,q,r⟩:=h;exact⟨a,kvs,o,e,x _ _ s (λ_ z=>nomatch z),q,ih _ r⟩
 .obtain⟨a,C,e,s,q⟩:=h;exact⟨a,C,e,s,x _ _ q (λ_ z=>nomatch z)⟩
 .obtain⟨v,r,e,h1,h2⟩:=h;exact⟨v,r,e,uj _ h1,uk _ h2⟩
def q7o{v:V}(x:∀a o,H a=Qa o->(∀kvs,o≠.dK kvs)->H' a=Qa o)(h:Rep p H d v):Rep p H' d v:=(q7p x).1 d v h
theorem ay{p:Pm}{H Hf:Hp}{o:HO}{c:Addr}:∀{bs:List Addr}{xss:List (List D)},c∉bs->xc p H Hf bs xss->xc p (upd H c o) Hf bs xss
 |[],_,_,h=>h
 |b::bs,xss,n,h=>by obtain⟨xs,r,e,⟨vs,h1,h2⟩,h3⟩:=h;exact⟨xs,r,e,⟨vs,by rw[qY λz=>n (by simp[z])];exact h1,h2⟩,ay (λz=>n (Qc _ z)) h3⟩
def bR{x:Option Sl}{y:Option V}{c:Addr}(n:c∉as)(h:yV p H Hf x y as):yV p (upd H c o) Hf x y as:=by
 cases x with
 |none=>exact h
 |some sl=>
  cases sl with
  |val d=>exact h
  |own d=>
   obtain⟨a,h1,h2,h3⟩:=h;have ne:a≠c:=λz=>n (by rw[h2,z];simp);refine⟨a,h1,h2,?_⟩;cases d with
   |q6 ds=>obtain⟨vs,q1,q2⟩:=h3;exact⟨vs,by rw[qY ne];exact q1,q2⟩
   |qJ ks ds=>obtain⟨kvs,q1,q2,q3⟩:=h3;exact⟨kvs,by rw[qY ne];exact q1,q2,q3⟩
   |_=>exact h3
  |jy m=>
   obtain⟨a,h1,h2,xs,h3,h4⟩:=h;exact⟨a,h1,h2,xs,by rw[qY λz=>n (by rw[h2,z];simp)];exact h3,h4⟩
  |zq xss=>
   refine zK h λa bs h1 h2 h3 h4=>?_;subst h2;exact⟨a,bs,h1,rfl,by rw[qY λz=>n (by simp[z])];exact h3,ay (λz=>n (Qc _ z)) h4⟩
theorem bT{p:Pm}{H Hf:Hp}{o:HO}{c:Addr}:∀{Z:Ev.Env}{Y:L2.St}{os:List (List Addr)},c∉os.flatten->kU p H Hf Z Y os->kU p (upd H c o) Hf Z Y os
 |[],_,_,_,_=>trivial
 |_::Z,_,_,n,h=>by refine x6 h λy1 Y' as qy qe qf h1 h2=>?_;subst qe qf;simp only[Jq,QA,not_or]at n;exact⟨y1,Y',as,qy,rfl,rfl,bR n.1 h1,bT n.2 h2⟩
theorem q0Q{p:Pm}{H Hf:Hp}{o:HO}{x:Option Sl}{c:Addr}:∀{Z:Ev.Env}{Y:L2.St}{os:List (List Addr)}(i:Nat){y:Option V}{as:List Addr},kU p H Hf Z Y os->Y[i]?=Qa y->os[i]?=Qa as->c∈as->os.flatten.Nodup->yV p (upd H c o) Hf x y as->
  kU p (upd H c o) Hf (Z.set i x) Y os
 |[],_,_,_,_,_,_,_,_,_,_,_=>trivial
 |_::Z,_,_,0,y,as,h,e1,e2,hc,nd,q=>by refine x6 h λy1 Y' X9 qy qe qf h1 h2=>?_;subst qe qf;simp at e1 e2;subst e1 e2;simp at nd;exact⟨_,Y',_,qy,rfl,rfl,q,bT (λz=>(QU.mp nd).2.2 c hc c z rfl) h2⟩
 |_::Z,_,_,i+1,y,as,h,e1,e2,hc,nd,q=>by refine x6 h λy1 Y' X9 qy qe qf h1 h2=>?_;subst qe qf;simp at nd;exact⟨y1,Y',X9,qy,rfl,rfl,bR (λz=>(QU.mp nd).2.2 c z c (Ju.mpr ⟨as,Qz (by simpa using e2),hc⟩) rfl) h1,q0Q i h2 (by simpa using e1) (by simpa using e2) hc (QU.mp nd).2.1 q⟩
def Bd.write{sl:Sl}{y:Option V}{c:Addr}(b:Bd p H0 O0 Z Y os H)(e1:Y[i]?=Qa y)(e2:os[i]?=Qa as)(hc:c∈as)
  (q:yV p (upd H c o) (fz (os++[O0]).flatten H) (Qa sl) y as):Bd p H0 O0 (Z.set i (Qa sl)) Y os (upd H c o):=by
 have mo:=Ju.mpr ⟨as,Qz e2,hc⟩;refine⟨⟨b.rel.nd,λa ha=>?_,?_⟩,by simp[b.len],by simp[b.jE],λa u e=>?_,b.new⟩
 .by_cases h:a=c
  .subst h;exact⟨_,zr⟩
  .obtain⟨u,e⟩:=b.rel.there a ha;exact⟨u,by rw[qY h];exact e⟩
 .rw[Lx (by rw[ye];exact QD _ mo)];exact q0Q i b.rel.slots e1 (by rw[QZ (Qj.mp e2).1];exact e2) hc b.rel.nd q
 .rw[qY λz=>by rw[z,b.new c mo]at e;cases e];exact b.ext a u e
theorem Bd.at{p:Pm}{H0:Hp}{O0:List Addr}{Z:Ev.Env}{Y:L2.St}{os:List (List Addr)}{H:Hp}{i:Nat}{x:Option Sl}(b:Bd p H0 O0 Z Y os H)(h:Z[i]?=Qa x):∃y as,Y[i]?=Qa y/\os[i]?=Qa as/\yV p H (fz (os++[O0]).flatten H) x y as:=by refine qL (FR b.rel.slots h) λy as e1 e2 h1=>?_;rw[QZ (by rw[b.len];exact(Qj.mp h).1)]at e2;exact⟨y,as,e1,e2,h1⟩
def Ek{H1:Hp}{r:R α}{f:α->RS}{e:Value}(B:Bd p H0 O0 Z Y os H)(x:Ext H H1)(h:Er X p pins Y H1 r e s'):Es X p H0 O0 pins (r.go Z f) e s':=by obtain⟨c,e1,m⟩:=h;exact⟨c,Z,Y,os,H,by rw[e1];rfl,B,m.ext x⟩
def q9i(hN:X.N.Nodup)(hi:X.N[i]?=Qa x)(hx:Loc X.env.scope x)(hf:X.fn x=Qd\/X.env.scope.names.lookup x=Qa .local)(h:SA X p G sub es ls):
  SS X p G sub (.Assign [.Name x jK] (.List es Ah) pos) (.zY i (.q6 ls)):=by
 intro H0 O0 E hp pins s Y H Z os I B hs hE;have e0:ex G sub (.zY i (.q6 ls)) Z=(ev G sub (.q6 ls) Z).go Z λd=>.ok (Z.set i (Qa (.own d))) .nx:=rfl;rw[e0,D9]at hs hE|-;refine YA (W3 (Qi (h Ah pins s Y H Z _ I B.rel (z7 (zx hs))) (λus s1 zz=>qi zz λds vs H1 e1 I1 r1 x1 q1=>?_) (λe s' z=>hE e s' (jn B z.bind)))) rfl;rw[e1,qB]at hs hE|-;have z:ds.length<=big:=by
  by_cases z:ds.length<=big
  .exact z
  .rw[if_neg z]at hs;cases hs rfl
 rw[if_pos z];have z1:vs.length<=QI:=Qx (q1.length▸z) vh;refine⟨by rw[<-r1.length];exact z1,?_⟩;have Tg:H1 s1.heap.objs.size=Qg:=I1.qI.fresh (Qs _);have I2:Inv X pins Y (upd H1 s1.heap.objs.size (.q6 vs)) {s1 with heap:=s1.heap.push {cls:=.type "list",data:=.seq us.toArray}}:=I1.Dw (t':=s1.toks) r1 z1;refine wY (v:=.ref s1.heap.objs.size) I2 hN hi hx rfl (λs3 I3=>⟨_,.nx,_,_,_,rfl,(B.mono x1).zY (by rw[<-B.jE,I.len];exact(Qj.mp hi).1) (Ext.upd Tg) (as:=[s1.heap.objs.size]) (by simp) (λa ha=>?_) (λa ha=>?_) ⟨_,rfl,rfl,vs,zr,q1.mono (q3a Tg)⟩,I3,trivial⟩) hf
 .rw[QE.mp ha];exact Tg
 .rw[QE.mp ha];exact⟨_,zr⟩
def q9N(hi:X.N[i]?=Qa x)(hv:kA X.env.scope x)(hd:(x==("__debug__":Str))=Qh)(z8:(x==("__classdict__":Str))=Qh)(ha:SE X p G sub a l)
  (qX:Q5 [a] X.env=[(Qh,Jw a X.env)]) (zo:(ap.endLine==cp.line)=Qd):SS X p G sub (.Expr (.Call (.Attribute (.Name x q) "append" ap) [a] [] cp) pos) (.app i l):=by
 intro H0 O0 E hp pins s Y H Z os I B hs hE;have e0:ex G sub (.app i l) Z=match Z[i]?with
   |some (Qa (.own (.q6 xs)))=>(ev G sub l Z).go Z λd=>if xs.length<big then .ok (Z.set i (Qa (.own (.q6 (xs++[d]))))) .nx else .q9
   |_=>.q9:=rfl
 rw[e0]at hs hE|-;split at hs
 .rename_i xs hρ;simp only[hρ]at hE|-;refine LP (B.at hρ) λy as s1 s2 a' qe qf vs s5 s6=>?_;subst qe qf;refine Wm (YS rfl (by rw[qX];rfl) zo rfl (vv I hi hv s1 hd z8 λu r=>?_)) I.quiet rfl;cases r;obtain⟨h1,h2⟩:=Cu (T:="list") (x:=.ref a') I rfl (.inl ⟨rfl,_,qv.of s5⟩);refine⟨"list","list.append",Yu,Zl,Zm,h1,h2,?_⟩;rw[qX];refine JL rfl (Yo ?_);show wpAny _ _ (Us ((Qh,Jw a X.env)::[])) _ _ s;refine QW (Qi (ha pins s Y H Z _ I B.rel (zx hs)) (λv s3 zz=>qi zz λd x' H1 e1 I1 r1 x1 q1=>Q0 ?_) (λe s' z=>hE e s' (jn B z)));rw[e1,qF]at hs hE|-;have z:xs.length<big:=by
   by_cases z:xs.length<big
   .exact z
   .rw[if_neg z]at hs;cases hs rfl
  rw[if_pos z];have hl:=s6.length;refine Qi (A9 (X:=X.qn E) pins s3 Y H1 (.ref a') [x'] _ _ (λz H'=>H'=upd H1 a' (.q6 (vs++[x']))) (I1.qn E) rfl (.cons r1 .nil) ⟨a',vs,x',rfl,rfl,x1 _ _ s5,QF ∅ vh,rfl⟩) (λw s4⟨zv,H2,I2,_,eH⟩=>?_) (λ_ _ z=>z);subst eH;exact⟨_,.nx,Y,os,_,rfl,(B.mono x1).write s1 s2 (by simp) ⟨a',rfl,rfl,_,zr,(s6.mono (zO x1)).snoc q1⟩,I2.yr,trivial⟩
 .cases hs rfl
def q9X(hN:X.N.Nodup)(hi:X.N[i]?=Qa x)(hx:Loc X.env.scope x)(hf:X.fn x=Qd\/X.env.scope.names.lookup x=Qa .local)(hj:X.N[j]?=Qa y)(hv:kA X.env.scope y)(hd:(y==("__debug__":Str))=Qh)(z8:(y==("__classdict__":Str))=Qh)
  (zo:(ap.endLine==cp.line)=Qd):SS X p G sub (.Assign [.Name x jK] (.Call (.Attribute (.Name y q) "pop" ap) [] [] cp) pos) (.pop i j):=by
 intro H0 O0 E hp pins s Y H Z os I B hs hE;have e0:ex G sub (.pop i j) Z=match Z[j]?with
   |some (Qa (.own (.q6 xs)))=>match xs.getLast? with
     |some d=>.ok ((Z.set j (Qa (.own (.q6 xs.dropLast)))).set i (Qa (.val d))) .nx
     |none=>.q9
   |_=>.q9:=rfl
 rw[e0]at hs hE|-;split at hs
 .rename_i xs hρ;simp only[hρ]at hE|-;split at hs
  .rename_i d OQ;simp only[OQ]at hE|-;refine LP (B.at hρ) λy' as s1 s2 a' qe qf vs s5 s6=>?_;subst qe qf;have hl:=s6.length;obtain⟨v,mq,PC⟩:=s6.get (by rw[List.getLast?_eq_getElem?]at OQ;exact OQ);rw[hl]at mq;have lt:i<Z.length:=(by rw[<-B.jE,I.len];exact(Qj.mp hi).1);refine YA (wpAny_Call_method0_late rfl zo (vv I hj hv s1 hd z8 λu r=>?_)) rfl;cases r;obtain⟨h1,h2⟩:=Cu (T:="list") (x:=.ref a') I rfl (.inl ⟨rfl,_,qv.of s5⟩);refine⟨"list","list.pop",Yu,PySem.F.slot_list_pop,PySem.F.type_list_pop,h1,h2,?_⟩;refine JL rfl (Hj ?_);refine Qi (q6G (X:=X.qn E) pins s Y H (.ref a') [] _ _ (λz H'=>z=v/\H'=upd H a' (.q6 vs.dropLast)) (I.qn E) rfl .nil ⟨a',vs,v,rfl,rfl,s5,mq,rfl,rfl⟩) (λw s4 zz=>zK zz λzv H2 I2 rz ez eH=>?_) (λ_ _ z=>z);subst ez eH;have dl:qM p (fz (os++[O0]).flatten H) xs.dropLast vs.dropLast:=by rw[F6,F6,hl];exact s6.take _
   have B2:Bd p H0 O0 (Z.set j (Qa (.own (.q6 xs.dropLast)))) Y os (upd H a' (.q6 vs.dropLast)):=B.write s1 s2 (by simp) ⟨a',rfl,rfl,_,zr,dl⟩;have m:a'∈(os++[O0]).flatten:=(by rw[ye];exact QD _ (Ju.mpr ⟨_,Qz s2,by simp⟩));exact wY I2.yr hN hi hx rz (λs5 I5=>⟨_,.nx,_,_,_,rfl,B2.X3 (by simpa using lt) (by rw[Lx m];exact PC),I5,trivial⟩) hf
  .cases hs rfl
 .cases hs rfl
def dN(o:Op2)(d e r:D)(x y:V)(h:yW o d e=.ok r)(hx:Rep p (fz O H) d x)(hy:Rep p (fz O H) e y):∃r2:R2,zF X (YZ (RH o)) r2/\r2 x y H (Fin p O H r):=by
 unfold yW at h;split at h
 .rename_i m n;cases hx;cases hy;exact⟨_,q4q o,nF o h⟩
 .exact nR h
def dM(o:Op2)(d e:D):yW o d e=.q9\/∃r,yW o d e=.ok r:=by
 unfold yW;split
 .exact sO _ _ _
 .exact .inl rfl
def q9P{o:Op2}(hN:X.N.Nodup)(hi:X.N[i]?=Qa x)(hx:Loc X.env.scope x)(hf:X.fn x=Qd\/X.env.scope.names.lookup x=Qa .local)(ho:Xm op=Qa o)(he:SE X p G sub e l):
  SS X p G sub (.AugAssign (.Name x jK) op e pos) (.aug i o l):=by
 intro H0 O0 E hp pins s Y H Z os I B hs hE;have e0:ex G sub (.aug i o l) Z=(jG Z i).go Z λx=>(ev G sub l Z).go Z λy=>(yW o x y).go Z λz=>.ok (Z.set i (Qa (.val z))) .nx:=rfl;rw[e0]at hs hE|-;rw[ax ho];cases hg:jG Z i with
 |q9=>simp only[hg]at hs;cases hs rfl
 |err c=>unfold jG at hg;split at hg<;>cases hg
 |ok d=>
 simp only[hg,qF]at hs hE|-;refine qR (B.rel.val hg) λv e1 q4U=>?_;refine qR I.loc λm hn hl=>?_;obtain⟨u,r,lk⟩:=hl i x v hi e1 (by rcases hx with k|k;exact .inl k;exact .inr (.inl k));refine wpAny_AugAssign_Name ?_;have go:wpAny (model X.prog X.w) X.A (Jw e X.env) (λw s₂=>wpAny (model X.prog X.w) X.A (YZ (RH o) u w) (λr s₃=>wpAny (model X.prog X.w) X.A (storeName X.env x r) (λ_=>Gs X p H0 O0 pins ((ev G sub l Z).go Z λy=>(yW o d y).go Z λz=>.ok (Z.set i (Qa (.val z))) .nx) .next) E s₃) E s₂) E s:=by
  refine Qi (he pins s Y H Z _ I B.rel (zx hs)) (λw s1 zz=>qi zz λd2 y H1 e2 I1 r1 x1 q1=>?_) (λe s' z=>hE e s' (jn B z));rw[e2,qF]at hs hE|-;rcases dM o d d2 with z|⟨dr,z⟩
  .rw[z]at hs;cases hs rfl
  rw[z,qF];refine qR (dN (X:=X.qn E) (p:=p) (O:=(os++[O0]).flatten) (H:=H1) o d d2 dr v y z (q4U.mono (zO x1)) q1) λr2 k q=>?_;refine Qi (k pins s1 Y H1 v y u w _ (I1.qn E) r r1 q) (λzz s2 zz=>zK zz λzv H2 I2 tG x2 q2=>?_) (λ_ _ z=>z);exact wY I2.yr hN hi hx tG (λs3 I3=>⟨_,.nx,_,_,H2,rfl,((B.mono x1).mono x2).X3 (by rw[<-B.jE,I.len];exact(Qj.mp hi).1) q2,I3,trivial⟩) hf
 rcases lk with⟨hk,hm⟩|⟨hk,c,hc,P4⟩
 .exact wpAny_loadName_local I.ok.kind hk hn hm go
 .rcases hk with hk|hk
  .exact wpAny_loadName_cell I.ok.kind hk hc P4 go
  .have hk:X.env.scope.names.lookup x=Qa .free:=hk;rcases hx with k|k<;>(rw[k]at hk;cases hk)
def q9f{k:QC}(hN:X.N.Nodup)(hi:X.N[i]?=Qa x)(hx:Loc X.env.scope x)(hf:X.fn x=Qd\/X.env.scope.names.lookup x=Qa .local)(hk:SE X p G sub k lk)(hv:SE X p G sub v lv):
  SS X p G sub (.Assign [.Name x jK] (.Dict [Qa k] [v] Ah) pos) (.zY i (.qJ lk lv)):=by
 intro H0 O0 E hp pins s Y H Z os I B hs hE;have e0:ex G sub (.zY i (.qJ lk lv)) Z=(ev G sub (.qJ lk lv) Z).go Z λd=>.ok (Z.set i (Qa (.own d))) .nx:=rfl;rw[e0,q31]at hs hE|-;have hn:H s.heap.objs.size=Qg:=I.qI.fresh (Qs _);have x0:Ext H (upd H s.heap.objs.size (.dK [])):=Ext.upd hn;have B1:=B.mono x0;refine YA (wpAny_Dict_walk (knd:=kq X.prog X.w) rfl rfl (by simp) (by simp) (pairTrees_cons_walk (Qi (hk pins _ Y _ Z _ (I.laid (a:=s.heap.objs.size) (o:=.dK []) (h':=s.heap.push {cls:=.type "dict",data:=.dict #[]}) (t':=s.toks) (λ_ _ q=>Qk _ q) (Qs _) (q2c s.heap I.big)) B1.rel (z7 (zx hs))) (λu s1 zz=>qi zz λd1 y1 H1 e1 IS r1 x1 q1=>?_) (λe s' z=>hE e s' (Ek B x0 z.bind))))) rfl;rw[e1]at hs hE|-;refine Qi (hv pins s1 Y H1 Z _ IS (B1.rel.ext x1) (z7 (zx hs))) (λu2 s2 zz=>qi zz λd2 y2 H2 e2 I2 r2 x2 q2=>?_) (λe s' z=>hE e s' (Ek B (x0.trans x1) z.bind));rw[e2]at hs hE|-;refine pairTrees_nil_walk ?_;cases d1<;>first
  |cases hs rfl
  |skip
 rename_i n;cases q1;have Tw:H2 s.heap.objs.size=Qa (.dK []):=x2 _ _ (x1 _ _ zr);refine i6 (LH I2.qI Tw) λz hd vs0 r0 dd=>?_;cases r0;refine qR (eV (P:=X.prog) (w:=X.w) (kvs:=[(YU n,y2)]) (ws:=[(u,u2)]) (.cons ⟨r1,r2⟩ .nil)) λrs c rk=>?_;refine⟨rs,c,dd,λh' uS GI=>?_⟩;have he:∃q,h'.get? s.heap.objs.size=Qa q:=let⟨q,_,_,hq,_⟩:=uS;⟨q,hq⟩;have hz:(rE [] [((YU n:Key),y2)]).length<=QI:=by rw[Jk];show 1<=_;decide
 have I3:Inv X pins Y (upd H2 s.heap.objs.size (.dK [(YU n,y2)])) {s2 with heap:=h',toks:=s2.toks+[(u,u2)].length}:=Ea I2 (by rw[Tw];exact U3) GI he (gp hz hd (rk.merge .nil) uS);have xt:Ext H (upd H2 s.heap.objs.size (.dK [(YU n,y2)])):=λa o e=>by rw[qY (jJ e hn)];exact x2 _ _ (x1 _ _ (x0 _ _ e))
 refine wY (v:=.ref s.heap.objs.size) I3 hN hi hx rfl (λs3 I4=>⟨_,.nx,_,_,_,rfl,B.zY (by rw[<-B.jE,I.len];exact(Qj.mp hi).1) xt (as:=[s.heap.objs.size]) (by simp) (λa ha=>?_) (λa ha=>?_) ⟨_,rfl,rfl,_,zr,rfl,y2,[],rfl,q7o ?_ q2,rfl⟩,I4,trivial⟩) hf
 .rw[QE.mp ha];exact hn
 .rw[QE.mp ha];exact⟨_,zr⟩
 .intro a o e nd;unfold fz at e|-;split at e
  .exact nS e
  .rename_i h;have ne:a≠s.heap.objs.size:=λz=>by rw[z,Tw]at e;exact nd _ (QY e).symm
   rw[if_neg λm=>(QA.mp m).elim h λz=>ne (QE.mp z),qY ne];exact e
theorem t9{Hf:Hp}{y:D}{v:V}{n:Int}(hy:Rep p Hf y v):∀{kvs:List (Key×V)}{ds:List D}{r:List D×List D},(kvs.map (·.1)).Nodup->qM p Hf ds (kvs.map (·.2))->put n y (kvs.map λq=>zi q.1) ds=.ok r->
  r.1=(putK kvs (.inl n) v).map (λq=>zi q.1)/\qM p Hf r.2 ((putK kvs (.inl n) v).map (·.2))
 |[],ds,r,_,h,e=>by cases(show ds=[] from by cases ds with|nil=>rfl|cons _ _=>obtain⟨_,_,z,_⟩:=h;cases z);cases e;exact⟨rfl,v,[],rfl,hy,rfl⟩
 |(k,w)::t,ds,r,nd,h,e=>by
  cases ds with
  |nil=>cases h
  |cons d1 ds=>
   refine qL h λv0 r' q h1 h2=>?_;injection q with q1 q2
   subst q1 q2;have jQ:=QQ.mp nd;cases k with
   |inr x=>simp[put,zi]at e
   |inl j=>
    have e':(if j=n then R.ok (D.int j::t.map (λq=>zi q.1),y::ds)else(put n y (t.map λq=>zi q.1) ds).bind λr=>.ok (.int j::r.1,d1::r.2))=.ok r:=e;clear e
    by_cases c:j=n
    .rw[if_pos c]at e';subst c;cases e';have eq:putK ((YU j,w)::t) (.inl j) v=(YU j,v)::t:=by
      unfold putK;rw[if_pos (by simp),Qw,if_pos rfl];congr 1;have:∀q∈t,(if q.1=(YU j:Key)then(q.1,v)else q)=q:=λq hq=>if_neg λz=>jQ.1 (Qn.mpr ⟨q,hq,z⟩)
      conv=>rhs;rw[<-List.map_id t]
      exact YB λq hq=>this q hq
     rw[eq];exact⟨rfl,v,_,rfl,hy,h2⟩
    .rw[if_neg c]at e';cases e2:put n y (t.map λq=>zi q.1) ds with
     |ok r2=>
      rw[e2]at e';cases e';obtain⟨g1,g2⟩:=t9 hy jQ.2 h2 e2;have eq:putK ((YU j,w)::t) (.inl n) v=(YU j,w)::putK t (.inl n) v:=by
       unfold putK;have c':¬((YU j:Key)=YU n):=λz=>c (Ww z);rw[JK];simp only[c',decide_false,ZQ];split
       .rw[Qw,if_neg c']
       .rfl
      rw[eq];exact⟨by rw[Qw,<-g1];rfl,w,_,rfl,h1,g2⟩
     |err c=>rw[e2]at e';cases e'
     |q9=>rw[e2]at e';exact nR e'
theorem t6(n:Int)(y:D):∀(ks vs:List D),put n y ks vs=.q9\/∃r,put n y ks vs=.ok r
 |[],[]=>.inr ⟨_,rfl⟩
 |[],_::_=>.inl rfl
 |k::ks,[]=>by cases k<;>exact .inl rfl
 |k::ks,v::vs=>by
  cases k<;>first
   |exact .inl rfl
   |(unfold put
     split
     .exact .inr ⟨_,rfl⟩
     .rcases t6 n y ks vs with z|⟨r,z⟩
      .rw[z];exact .inl rfl
      .rw[z];exact .inr ⟨_,rfl⟩)
def q2d{a:Addr}(ok:zW P w H h)(e:H a=Qa (.dK kvs)):(kvs.map (·.1)).Nodup:=by
 obtain⟨z,hd,vs,rel,_,_,_,_,_,_,_,_,nd⟩:=LH ok e;have:∀{l:List (Key×V)}{m:List (Key×Value)},KV l m->l.map (·.1)=m.map (·.1):=by
  intro l m r;unfold KV at r
  induction r with
  |nil=>rfl
  |cons h t ih=>rw[Qw,Qw,ih,h.1]
 rw[this rel];exact nd
def q9Y{k:QC}(hu:X.A.units+64<cLine)(hi:X.N[i]?=Qa x)(Dc:kA X.env.scope x)(hd:(x==("__debug__":Str))=Qh)(z8:(x==("__classdict__":Str))=Qh)(hk:SE X p G sub k lk)(hv:SE X p G sub v lv)
  (y9:Y1 v (Qa (.Subscript (.Name x q) k jK)) pos.line X.env=pure Qh):SS X p G sub (.Assign [.Subscript (.Name x q) k jK] v pos) (.put i lk lv):=by
 intro H0 O0 E hp pins s Y H Z os I B hs hE;have e0:ex G sub (.put i lk lv) Z=match Z[i]?with
   |some (Qa (.own (.qJ ks vs)))=>(ev G sub lv Z).go Z λy=>(ev G sub lk Z).go Z λx=>match x with
     |.int n=>if ks.length<big then(put n y ks vs).go Z λr=>.ok (Z.set i (Qa (.own (.qJ r.1 r.2)))) .nx else .q9
     |_=>.q9
   |_=>.q9:=rfl
 rw[e0]at hs hE|-;split at hs
 .rename_i ks ds hρ;simp only[hρ]at hE|-;obtain⟨y,as,s1,s2,a',rfl,rfl,kvs,s5,s6,s7⟩:=B.at hρ;refine wpAny_Assign_Subscript (Qi (hv pins s Y H Z _ I B.rel (zx hs)) (λu1 t1 zz=>qi zz λd1 y1 H1 e1 I1 r1 x1 q1=>?_) (λe s' z=>hE e s' (jn B z))) y9;rw[e1,qF]at hs hE|-;refine vv I1 hi Dc s1 hd z8 λu r=>?_;cases r;refine Qi (hk pins t1 Y H1 Z _ I1 (B.mono x1).rel (zx hs)) (λu2 t2 zz=>qi zz λd2 y2 H2 e2 I2 r2 x2 q2=>?_) (λe s' z=>hE e s' (Ek B x1 z));rw[e2]at hs hE|-;obtain⟨n,rfl⟩:=zI hs;have hs:(if ks.length<big then(put n d1 ks ds).go Z λr=>RS.ok (Z.set i (Qa (.own (.qJ r.1 r.2)))) .nx else .q9)≠.q9:=hs;show wpAny _ _ _ (λ_=>Gs X p H0 O0 pins (if ks.length<big then(put n d1 ks ds).go Z λr=>RS.ok (Z.set i (Qa (.own (.qJ r.1 r.2)))) .nx else .q9) Flow.next) _ _
  by_cases z:ks.length<big
  .rw[if_pos z]at hs|-;rcases t6 n d1 ks ds with w|⟨r,w⟩
   .rw[w]at hs;cases hs rfl
   rw[w];cases q2;have cR:=x1.trans x2;have h5:H2 a'=Qa (.dK kvs):=cR _ _ s5;subst s6;obtain⟨g1,g2⟩:=t9 (v:=y1) (q1.mono (zO x2)) (q2d I2.qI h5) (s7.mono (zO cR)) w;refine q2Z (A:=X.A) ∅ I2 (E3.k (k:=.inl n) h5 (QF (by simpa using z) vh)) r2 r1 λt3 I3=>?_;exact⟨_,.nx,Y,os,_,rfl,(B.mono cR).write s1 s2 (by simp) ⟨a',rfl,rfl,_,zr,g1,g2⟩,I3,trivial⟩
  .rw[if_neg z]at hs;cases hs rfl
 .cases hs rfl
def q2N{iter:QC}{it:Addr}{tn:Nat->Heap->Prop}{J:It}
  {ds:List D}{vs:List V}{vO:List (Str×Addr)}{E:NZ}{RR:Value->Addr->ZI->Shared->Prop}(hc:X.calm=Qd) (S:ScOk X sc ts) (vi:∀y c,vO.lookup y=Qa c->X.env.cells.lookup y=Qa c)
  (xE:∀x∈sc.names,x.2=.free->∃c,vO.lookup x.1=Qa c)
  (hG:∀s2 H2 cl C fp,X8 (zw X s2 H2 sc cl C (zQ ts X.N) fp) p tg 0 ts.length)
  (I2:Inv X pins Y H2 s2) (T:Turn X.prog X.w X.K tg J fp it tn) (yP:tn 0 s2.heap) (f2:∀b∈fp,zH X pins H2 b) (rep:qM p (fz os.flatten H2) ds vs) (wk:Wk J H2 vs) (ly:ds.length<=1000)
  (OA:∀D C s' H' bs,Inv X pins Y H' s'->Ext H2 H'->H' D=Qa (.q6 (bs.map V.ref))->bs.length=ds.length->(D::bs).Nodup->(∀b∈D::bs,H2 b=Qg)->(∀b∈bs,H' b=Qa (.q6 []))->(∃m,s'.heap.Ns C m)->zH X pins H' C->RR (.ref D) C (.ok .next) s'):
  wpAny (model X.prog X.w) X.A (newList []) (λacc s3=>wpAny (model X.prog X.w) X.A (Wo sc X.env.globals vO [] X.env.qual Qg .none (Qa X.env)) (λya s4=>
   codeAny (model X.prog X.w) X.A (.compStart (.ListComp (.List [] q) [⟨tg,iter,[],0⟩] sc pos) 0 (.ref it) acc {ya with scope:=U0 sc X.env}) (RR acc ya.locals) s4) E s3) E s2:=by
 have ho:∀b∈fp,∃o,s2.heap.get? b=Qa o:=λb hb=>let⟨o,e,_⟩:=T.obj 0 _ yP b hb;⟨o,e⟩;refine eA (P:=λacc ya C s4=>codeAny (model X.prog X.w) X.A (.compStart (.ListComp (.List [] q) [⟨tg,iter,[],0⟩] sc pos) 0 (.ref it) acc ya) (RR acc C) s4) I2 S vi xE f2 ho λcl h1 co kp I4=>?_;generalize hs4:({s2 with heap:=h1}:Shared)=s4 at I4|-;have Cg:tn 0 s4.heap:=T.keep _ _ _ yP λb hb o e=>by rw[<-hs4];exact kp b o e
 have fr:H2 s2.heap.objs.size=Qg:=I2.qI.fresh (Qs _);have xY:∀{H':Hp},(∀b∈fp,H' b=Qg)->∀b∈fp,zH (zw X s2 H2 sc cl (s2.heap.objs.size+1) (zQ ts X.N) fp) [] H' b:=λ{H'} hn b hb=>by
  refine⟨hn b hb,?_,λhm=>?_,.inl hb,λx c h=>?_,λp hp=>absurd (show p∈([]:List (Addr×Obj)) from hp) (by simp)⟩
  .obtain⟨o,e⟩:=ho b hb;exact QK (UC (Qu e))
  .rcases Qo.mp (I2.X5 b hm)with z|z
   .exact (f2 b hb).2.1 z
   .exact (f2 b hb).2.2.1 z
  .rcases co.old x c h with z|⟨z,_⟩
   .exact (f2 b hb).2.2.2.2.1 x c z
   .obtain⟨o,e⟩:=ho b hb;exactλy=>by have:=Qu e;lia
 have qT:ds.length=vs.length:=rep.length;have xR:codeAny (model X.prog X.w) X.A (.compLoop (.ListComp (.List [] q) [⟨tg,iter,[],0⟩] sc pos) 0 (.ref it) (.ref s2.heap.objs.size) (Zh sc cl (s2.heap.objs.size+1) X.env)) (RR (.ref s2.heap.objs.size) (s2.heap.objs.size+1)) s4:=by
  refine fK (λn s'=>∃i σt H' bs,Inv (zw X s2 H2 sc cl (s2.heap.objs.size+1) (zQ ts X.N) fp) [] (σt++Y) H' s'/\σt.length=ts.length/\tn i s'.heap/\(∀b∈fp,H' b=Qg)/\Ext H2 H'/\H' s2.heap.objs.size=Qa (.q6 (bs.map V.ref))/\
   (s2.heap.objs.size::bs).Nodup/\(∀b∈bs,H2 b=Qg/\H' b=Qa (.q6 []))/\bs.length=i/\n=ds.length-i/\i<=ds.length) ?_ ds.length
   ⟨0,Qr ts.length Qg,upd H2 s2.heap.objs.size (.q6 []),[],I4,by simp,Cg,λb hb=>?_,Ext.upd fr,zr,by simp,λb hb=>absurd hb (by simp),rfl,by simp,QV _⟩
  .rintro n s5 ⟨i,σt,H5,bs,I5,hσ,X4,TY,x5,xD,AA,EL,SR,rfl,hi5⟩
   by_cases qj:i<ds.length
   .refine Qi (T.item (zw X s2 H2 sc cl (s2.heap.objs.size+1) (zQ ts X.N) fp) rfl rfl rfl hc i [] s5 _ H5 (λ_ _=>False) I5 (xY TY) X4 (wk.go i H5 x5 (qT▸qj))) (λr s6⟨u,hr,h6⟩=>?_) (λ_ _ z=>z);subst hr;refine Qi h6 (λ_ s7⟨x,H7,I7,r7,y7,RW,Ls⟩=>?_) (λ_ _ z=>z);obtain⟨rfl,hx⟩:=wk.X7 i H5 x H7 x5 (qT▸qj) y7;refine qR (rep.get (i:=i) (d:=ds[i]) (by simp[qj])) λv' yA xX=>?_;rw[hx]at yA;cases yA;refine Qi (hG s2 H2 cl (s2.heap.objs.size+1) fp (λ_ _=>False) _ s7 σt Y H7 (fz os.flatten H2) ds[i] [ds[i]] x u (I7.pinned (xY Ls) (T.obj _ _ RW)) hσ r7 (qu.trans x5) xX rfl) (λ_ s8 zz=>qV zz λFX tX GA I8=>?_) (λ_ _ z=>z);refine wpAny_tests_nil ?_;rw[if_pos rfl];refine W3 (Q0 ⟨QV _,?_⟩);have Rx:H7 s8.heap.objs.size=Qg:=I8.qI.fresh (Qs _);have ae:s2.heap.objs.size≠s8.heap.objs.size:=jJ xD Rx;refine Qi (A9 (X:=zw X s2 H2 sc cl (s2.heap.objs.size+1) (zQ ts X.N) fp) _ _ _ _ (.ref s2.heap.objs.size) [.ref s8.heap.objs.size] (.ref s2.heap.objs.size) [.ref s8.heap.objs.size] (λz H'=>H'=upd (upd H7 s8.heap.objs.size (.q6 [])) s2.heap.objs.size (.q6 (bs.map V.ref++[.ref s8.heap.objs.size]))) (I8.Dw (t':=s8.toks) (ys:=[]) (its:=[]) .nil (QV _)) rfl (.cons rfl .nil)
     ⟨_,bs.map V.ref,.ref s8.heap.objs.size,rfl,rfl,(by rw[qY ae];exact xD),?_,rfl⟩) (λ_ s11 O6=>?_) (λ_ _ z=>z)
    .rw[Qm,SR,Jk];exact QF qj (Qx ly (by decide))
    refine qL O6 λ_ H11 Rf _ zz=>?_;subst zz;have k2:∀b∈fp,upd (upd H7 s8.heap.objs.size (.q6 [])) s2.heap.objs.size (.q6 (bs.map V.ref++[.ref s8.heap.objs.size])) b=Qg:=λb hb=>by refine qR (T.obj _ _ RW b hb) λo e d=>?_;exact(Rf.pin (b,o) (Ql _ (Ql _ (Pr hb e)))).2.1
    have nb:s8.heap.objs.size∉bs:=λz=>by rw[(EL _ z).2]at Rx;cases Rx
    have jQ:=QQ.mp AA;refine⟨ds.length-(i+1),∅,i+1,FX.map Qa,_,bs++[s8.heap.objs.size],Rf.w5,by simpa using GA,(T.keep _ _ _ RW λb hb o e=>(Rf.pin (b,o) (Ql _ (Ql _ (Pr hb e)))).1),k2,λa o e=>?_,by rw[zr,JA];rfl,?_,λb hb=>?_,by simp[SR],rfl,qj⟩
    .rw[qY (jJ e fr),qY (jJ (x5 _ _ e) Rx)];exact x5 _ _ e
    .refine QQ.mpr ⟨λz=>?_,QU.mpr ⟨jQ.2,by simp,λa ha b hb e=>?_⟩⟩
     .rcases QA.mp z with z|z
      .exact jQ.1 z
      .exact ae (QE.mp z)
     .rw[QE.mp hb]at e;exact nb (e▸ha)
    .rcases QA.mp hb with hb|hb
     .obtain⟨g1,g2⟩:=EL b hb;refine⟨g1,?_⟩;have n1:b≠s2.heap.objs.size:=λz=>jQ.1 (z▸hb);have n2:b≠s8.heap.objs.size:=λz=>nb (z▸hb);rw[qY n1,qY n2];exact g2
     .rw[QE.mp hb];refine⟨?_,by rw[qY (JQ ae),zr]⟩;cases e:H2 s8.heap.objs.size with
      |none=>rfl
      |some o=>rw[x5 _ _ e]at Rx;cases Rx
   .have ei:i=ds.length:=∅;refine Qi (T.done (zw X s2 H2 sc cl (s2.heap.objs.size+1) (zQ ts X.N) fp) rfl rfl rfl hc i [] s5 _ H5 (λ_ _=>False) I5 (xY TY) X4 (by rw[ei];exact qT▸wk.stop H5 x5)) (λr s6⟨hr,I6⟩=>?_) (λ_ _ z=>z);subst hr;refine qR I6.loc λm hm _=>?_;refine OA _ _ s6 H5 bs ?_ x5 xD (SR.trans ei) AA (λb hb=>?_) (λb hb=>(EL b hb).2) ⟨m,hm⟩ (I2.xC (J4 _) I6.free)
    .exact I2.L4 (ch:=fp) I6.os I6.base I6.qI I6.bare λb hb=>⟨(f2 b hb).2.2.2.1,(f2 b hb).2.1,(f2 b hb).2.2.2.2.1,(f2 b hb).2.2.2.2.2⟩
    .rcases Qo.mp hb with rfl|hb
     .exact fr
     .exact (EL b hb).1
  .obtain⟨o,e⟩:=ho b hb;rw[qY (QK (Qu e))];exact(f2 b hb).1
 exact codeAny_compStart_list xR (T.self _ 0 _ _ _ Cg xR)
theorem sR{H Hf:Hp}:∀{bs:List Addr},(∀b∈bs,H b=Qa (.q6 []))->xc p H Hf bs (Qr bs.length [])
 |[],_=>rfl
 |b::bs,h=>⟨[],Qr bs.length [],rfl,⟨[],h b (by simp),rfl⟩,sR λc hc=>h c (Qc _ hc)⟩
def q9g{t:Str}{Cf:Pos}(hc:X.calm=Qd)(S:ScOk X sc [t])(hg:Gl X "range")(hm:X.mg "range"=Qg)(ha:SE X p G sub a l)(qX:Q5 [a] X.env=[(Qh,Jw a X.env)])
  (hNi:(zQ [t] X.N).Nodup) (Oi:sc.names.lookup t=Qa .local)
  (hN:X.N.Nodup) (DQ:X.N[i]?=Qa x) (hx:Loc X.env.scope x) (hf:X.fn x=Qd\/X.env.scope.names.lookup x=Qa .local)
  (y9:Y1 (.ListComp (.List [] q) [⟨.Name t q2,.Call (.Name "range" q3) [a] [] q4,[],0⟩] sc pos) (Qa (.Name x jK)) Cf.line X.env=pure Qd):
  SS X p G sub (.Assign [.Name x jK] (.ListComp (.List [] q) [⟨.Name t q2,.Call (.Name "range" q3) [a] [] q4,[],0⟩] sc pos) Cf) (.setE i l):=by
 intro H0 O0 E hp pins s Y H Z os I B hs uY;have e0:ex G sub (.setE i l) Z=(ev G sub l Z).go Z λd=>match d with
   |.int n=>if 0<=n/\n<=1000 then .ok (Z.set i (Qa (.zq (Qr n.toNat [])))) .nx else .q9
   |_=>.q9:=rfl
 rw[e0]at hs uY|-;refine qV (L6 (Lu I.ok S)) λcl kM vi xE=>?_;have hG:∀s2 H2 cl C fp,X8 (zw X s2 H2 sc cl C (zQ [t] X.N) fp) p (.Name t q2) 0 [t].length:=λs2 H2 cl C fp=>by
  have z:(U0 sc X.env).names.lookup t=Qa .local:=by rw[Xe,Oi];rfl
  exact q0E hNi rfl (.inl z) (.inr z)
 rw[exec_Assign_Name_used _ _ _ _ y9];refine Qb (WS (Qb ?_));show wpAny _ X.A (do let _ <-comprehension (.ListComp (.List [] q) [⟨.Name t q2,.Call (.Name "range" q3) [a] [] q4,[],0⟩] sc pos) sc X.env _ (newList []) Qh (Jw (.Call (.Name "range" q3) [a] [] q4) X.env) (Qa (VB (.Name x jK) X.env))) _ _ s;have si:=bP (X:=X) (p:=p) (G:=G) (sub:=sub) (tg:=.Name t q2) (q:=q3) (pos:=q4) hg hm (q00 ha q01 (by rw[qX];rfl)) qX;cases xx:ev G sub l Z with
 |q9=>simp only[xx]at hs;cases hs rfl
 |err c=>
  have y0:j8 G sub (.rng [l]) Z=.err c:=by rw[wI,kJ,xx];rfl
  refine Qb (Qi (Uv (use:=Qa (VB (.Name x jK) X.env)) (Q:=λ_ s'=>False) rfl (λ_=>rfl) kM S.kind S.names
   (Qi (si pins s Y H Z _ I B.rel (by rw[y0];simp)) (λv s1 h1=>Qi h1 (λuB s2 h2=>?_) (λe s' z=>uY e s' ?_)) (λe s' z=>uY e s' ?_))) (λ_ s' hq=>hq.elim) λ_ _ e=>e)
  .refine qR h2 λds e1 _=>?_;rw[y0]at e1;cases e1
  .rw[y0]at z;refine qR z λc' e1 m=>?_;cases e1;exact⟨c,Z,Y,os,H,by rw[xx];rfl,B,m⟩
  .rw[y0]at z;refine qR z λc' e1 m=>?_;cases e1;exact⟨c,Z,Y,os,H,by rw[xx];rfl,B,m⟩
 |ok d=>
  simp only[xx]at hs uY|-;obtain⟨n,rfl⟩:=zI hs;have hs:(if 0<=n/\n<=1000 then RS.ok (Z.set i (Qa (.zq (Qr n.toNat [])))) .nx else .q9)≠.q9:=hs
  by_cases hn:0<=n/\n<=1000
  .have y0:j8 G sub (.rng [l]) Z=.ok ((Qt n.toNat).map λ(k:Nat)=>.int k):=by rw[wI,kJ,xx,jW];show wV [.int n]=_;unfold wV;dsimp only;rw[if_pos ∅]
   refine Qb (Qi (Uv (use:=Qa (VB (.Name x jK) X.env)) (Q:=λ_ s'=>Gs X p H0 O0 pins (if 0<=n/\n<=1000 then RS.ok (Z.set i (Qa (.zq (Qr n.toNat [])))) .nx else .q9) .next s') rfl (λ_=>rfl) kM S.kind S.names
    (Qi (si pins s Y H Z _ I B.rel (by rw[y0];simp)) (λv s1 h1=>Qi h1 (λuB s2 h2=>?_) (λe s' zz=>qR zz λc z _=>by rw[y0]at z;cases z)) (λe s' zz=>qR zz λc z _=>by rw[y0]at z;cases z))) (λ_ s' hq=>Qf (Qf hq)) λ_ _ e=>e)
   rw[y0]at h2;refine Eh h2 λds e1 it fp tn J H2 zz I2 T yP f2 x2 vs rep wk=>?_;subst zz;cases e1;have mJ:((Qt n.toNat).map λ(k:Nat)=>D.int k).length=n.toNat:=(by simp);refine q2N (RR:=λacc C=>compPost (model X.prog X.w) X.A _ (Qa (VB (.Name x jK) X.env)) _ acc C) hc S vi xE hG I2 T yP f2 rep (cM wk) (by rw[mJ];lia) λD C s' H' bs I' x' xD lbs nd nw nl yg fC=>?_;obtain⟨m,XW⟩:=yg;refine je fC λf0 f1 Ll f3 f4 f5=>?_;refine XF (id XW) λoC Lb LU OY DO Oc=>?_;have IP:Inv X (pins++[(C,oC)]) Y H' s':=I'.Pw λq hq=>(QA.mp hq).elim (λz=>I'.pin q (Ql _ z)) λz=>by cases QE.mp z;exact⟨OY,f0,f1,Ll,λv z=>by rw[DO]at z;cases z⟩
   refine UL (wY IP hN DQ hx (v:=.ref D) rfl (λs3 I3=>?_) hf);rw[if_pos hn];refine⟨m,⟨oC,Lb,LU,((I3.pin (C,oC) (Ql _ (Ql _ (QE.mpr rfl)))).1),DO,Oc⟩,λh' ug=>⟨_,.nx,_,_,H',rfl,(B.mono x2).zY (by rw[<-B.jE,I.len];exact(Qj.mp DQ).1) x' (as:=D::bs) nd nw (λb hb=>?_) ⟨D,bs,rfl,rfl,xD,?_⟩,?_,trivial⟩⟩
   .rcases Qo.mp hb with rfl|hb
    .exact⟨_,xD⟩
    .exact⟨_,nl b hb⟩
   .rw[<-(lbs.trans mJ)];exact sR nl
   .exact I3.w5.turned (t':=s3.toks) (λb o hb e=>ug.extBut b o hb e) f0 f1 f3 f4 f5
  .rw[if_neg hn]at hs;cases hs rfl
theorem az{H Hf:Hp}:∀{bs:List Addr}{xss:List (List D)}{n:Nat}{ys:List D},bs.Nodup->xc p H Hf bs xss->xss[n]?=Qa ys->∃b vs,bs[n]?=Qa b/\H b=Qa (.q6 vs)/\qM p Hf ys vs/\∀d v,Rep p Hf d v->xc p (upd H b (.q6 (vs++[v]))) Hf bs (xss.set n (ys++[d]))
 |[],xss,n,ys,_,h,e=>by cases(show xss=[] from h);simp at e
 |b::bs,_,0,ys,nd,h,e=>by obtain⟨xs,r,rfl,⟨vs,h1,h2⟩,h3⟩:=h;simp at e;subst e;exact⟨b,vs,rfl,h1,h2,λd v q=>⟨_,r,rfl,⟨_,zr,h2.snoc q⟩,ay (QQ.mp nd).1 h3⟩⟩
 |b::bs,_,n+1,ys,nd,h,e=>by obtain⟨xs,r,rfl,⟨vs,h1,h2⟩,h3⟩:=h;refine zK (az (QQ.mp nd).2 h3 (by simpa using e)) λb' Xx g1 g2 g3 g4=>?_;refine⟨b',Xx,by simpa using g1,g2,g3,λd v q=>⟨xs,_,rfl,⟨vs,?_,h2⟩,g4 d v q⟩⟩;have ne:b≠b':=λz=>(QQ.mp nd).1 (z▸Qz g1);rw[qY ne];exact h1
def q9O{k:QC}(hi:X.N[i]?=Qa x)(hv:kA X.env.scope x)(hd:(x==("__debug__":Str))=Qh)(z8:(x==("__classdict__":Str))=Qh)(hk:SE X p G sub k lk)(P9:E7 k)(ha:SE X p G sub a l)
  (qX:Q5 [a] X.env=[(Qh,Jw a X.env)]) (zo:(ap.endLine==cp.line)=Qd):SS X p G sub (.Expr (.Call (.Attribute (.Subscript (.Name x q) k q2) "append" ap) [a] [] cp) pos) (.app2 i lk l):=by
 intro H0 O0 E hp pins s Y H Z os I B hs hE;have e0:ex G sub (.app2 i lk l) Z=match Z[i]?with
   |some (Qa (.zq xss))=>(ev G sub lk Z).go Z λx=>match x with
     |.int n=>if 0<=n then(match xss[n.toNat]?with
       |some ys=>(ev G sub l Z).go Z λd=>if ys.length<big then .ok (Z.set i (Qa (.zq (xss.set n.toNat (ys++[d]))))) .nx else .q9
       |none=>.q9)else .q9
     |_=>.q9
   |_=>.q9:=rfl
 rw[e0]at hs hE|-;split at hs
 .rename_i xss hρ;simp only[hρ]at hE|-;refine i8 (B.at hρ) λy as s1 s2 a0 bs qe qf s5 s6=>?_;subst qe qf;have Xh:(a0::bs).Nodup:=by
   have h1:(a0::bs).Sublist os.flatten:=by obtain⟨l1,l2,e⟩:=Wh (Qz s2);rw[e,List.flatten_append,Jq];exact(List.sublist_append_left _ _).trans (List.sublist_append_right _ _)
   have h2:os.flatten.Nodup:=(by have:=B.rel.nd;rw[ye]at this;exact(QU.mp this).1);exact h2.sublist h1
  refine Wm (YS rfl (by rw[qX];rfl) zo rfl (W0 (vv I hi hv s1 hd z8 λu r=>?_))) I.quiet rfl;cases r;refine Qi (hk pins s Y H Z _ I B.rel (zx hs)) (λu1 t1 zz=>qi zz λd1 y1 H1 e1 I1 r1 x1 q1=>?_) (λe s' z=>hE e s' (jn B z));rw[e1]at hs hE|-;obtain⟨n,rfl⟩:=zI hs;have hs:(if 0<=n then(match xss[n.toNat]?with
       |some ys=>(ev G sub l Z).go Z λd=>if ys.length<big then RS.ok (Z.set i (Qa (.zq (xss.set n.toNat (ys++[d]))))) .nx else .q9
       |none=>.q9)else .q9)≠.q9:=hs
  have hE:∀e s',Es X p H0 O0 pins (if 0<=n then(match xss[n.toNat]?with
       |some ys=>(ev G sub l Z).go Z λd=>if ys.length<big then RS.ok (Z.set i (Qa (.zq (xss.set n.toNat (ys++[d]))))) .nx else .q9
       |none=>.q9)else .q9) e s'->E e s':=hE
  by_cases hn:0<=n
  .rw[if_pos hn]at hs hE;cases De:xss[n.toNat]?with
   |none=>simp only[De]at hs;cases hs rfl
   |some ys=>
   simp only[De]at hs hE;cases(show y1=_ from q1);refine zK (az (QQ.mp Xh).2 (AY x1 (zO x1) s6) De) λb vs g1 g2 g3 g4=>?_;have OG:XA (bs.map V.ref) n=Qa (.ref b):=by have qj:=(Qj.mp g1).1;unfold XA PQ;rw[if_pos hn,if_pos (by rw[Qm];lia)];show(bs.map V.ref)[n.toNat]?=_;rw[QJ,g1];rfl
   refine ng (X:=X.qn E) (.Name x q) k pins t1 Y H1 (.ref a0) (.int n) _ _ (λz H'=>z=.ref b/\H'=H1) (I1.qn E) rfl r1 ⟨a0,bs.map V.ref,n,.ref b,rfl,rfl,qv.of (x1 _ _ s5),OG,rfl,rfl⟩ (P9 _ _)|>λh=>Qi h (λu2 t2 zz=>zK zz λz H2 I2 rz ez eH=>?_) (λ_ _ z=>z)
   subst ez eH;cases rz;have I2:=I2.yr;obtain⟨h1,h2⟩:=Cu (T:="list") (x:=.ref b) I2 rfl (.inl ⟨rfl,_,qv.of g2⟩);refine⟨"list","list.append",Yu,Zl,Zm,h1,h2,?_⟩;rw[qX];refine JL rfl (Yo ?_);show wpAny _ _ (Us ((Qh,Jw a X.env)::[])) _ _ t2;refine QW (Qi (ha pins t2 Y H2 Z _ I2 (B.mono x1).rel (zx hs)) (λv t3 zz=>qi zz λd x' H3 e3 I3 r3 x3 q3=>Q0 ?_) (λe s' z=>hE e s' (Ek B x1 z)));rw[e3,qF]at hs;have z:ys.length<big:=by
    by_cases z:ys.length<big
    .exact z
    .rw[if_neg z]at hs;cases hs rfl
   refine zK (az (QQ.mp Xh).2 (AY (x1.trans x3) (zO (x1.trans x3)) s6) De) λb' Xx k1 k2 k3 k4=>?_;rw[g1]at k1;cases k1;have hl:=k3.length;refine Qi (A9 (X:=X.qn E) pins t3 Y H3 (.ref b) [x'] _ _ (λz H'=>H'=upd H3 b (.q6 (Xx++[x']))) (I3.qn E) rfl (.cons r3 .nil) ⟨b,Xx,x',rfl,rfl,k2,QF ∅ vh,rfl⟩) (λw t4⟨zv,H4,I4,_,eH⟩=>?_) (λ_ _ z=>z);subst eH;have mb:b∈bs:=Qz g1;have nb:a0≠b:=λz=>(QQ.mp Xh).1 (z▸mb);refine⟨_,.nx,Y,os,_,?_,(B.mono (x1.trans x3)).write (c:=b) (sl:=.zq (xss.set n.toNat (ys++[d]))) (o:=.q6 (Xx++[x'])) s1 s2 (Qc _ mb) ⟨a0,bs,rfl,rfl,?_,k4 d x' q3⟩,I4.yr,trivial⟩
   .show (if 0<=n then(match xss[n.toNat]?with
       |some ys=>(ev G sub l Z).go Z λd=>if ys.length<big then RS.ok (Z.set i (Qa (.zq (xss.set n.toNat (ys++[d]))))) .nx else .q9
       |none=>.q9)else .q9)=_
    rw[if_pos hn,De];dsimp only;rw[e3,qF,if_pos z]
   .rw[qY nb];exact x3 _ _ (x1 _ _ s5)
  .rw[if_neg hn]at hs;cases hs rfl
 .cases hs rfl
def Bd.out{a:Addr}(b:Bd p H0 O0 Z Y os H)(m:a∈os.flatten):a∉O0:=λh=>by have:=b.rel.nd;rw[ye]at this;exact(QU.mp this).2.2 a m a h rfl
def q4f{a:Addr}(I:Inv X pins Y H s)(e:H a=Qa (.dK kvs)):∃o,Inv X pins Y (upd H a (.frz o (.dK kvs))) s:=by
 obtain⟨o,ho⟩:=AL (I.qI a _ e);have CG:∀{b:Addr}{u:HO},H b=Qa u->(∀k,u≠.dK k)->b≠a:=λ{b u} q n z=>by rw[z,e]at q;exact n _ (QY q).symm
 refine⟨o,I.un ⟨λb u q _ _ _=>q,λb u q _ _ _=>⟨u.slots,q⟩,λb u q n _=>by rw[qY λz=>by rw[z,e]at n;cases n];exact n,λb u q _=>⟨u,q⟩,λb xs q=>by rw[qY (CG q λ_ z=>nomatch z)];exact q,λb u xs q=>by rw[qY (CG q λ_ z=>nomatch z)];exact q,λb ps q=>⟨#[],by rw[qY (CG q λ_ z=>nomatch z),q];simp⟩⟩ λb u q=>?_⟩;have st:∀{c:Addr}{v:HO},jd X.prog X.w H s.heap c v->jd X.prog X.w (upd H a (.frz o (.dK kvs))) s.heap c v:=λh=>h.xZ (λ_ _ _ q=>q) (λc q=>by rw[qY (CG q λ_ z=>nomatch z)];exact q) λc xs q=>by rw[qY (CG q λ_ z=>nomatch z)];exact q
 by_cases hb:b=a
 .subst hb;rw[zr]at q;cases q;exact⟨ho,st (I.qI b _ e)⟩
 .rw[qY hb]at q;exact st (I.qI b u q)
def q3Z{O':List Addr}{a:Addr}(m:a∈O)(h:∀b∈O',b∈O):Ext (fz O H) (fz O' (upd H a o)):=λc u e=>by
 unfold fz at e|-;split at e
 .cases e
 .rename_i n;have ne:c≠a:=λz=>n (z▸m);rw[if_neg λz=>n (h c z),qY ne];exact e
def q0B(lt:i<os.length):∀a∈(os.set i []++[O0]).flatten,a∈(os++[O0]).flatten:=λa ha=>by rw[<-wW lt]at ha;exact(yk ha).elim id λz=>absurd z (by simp)
theorem q0P{H H' Hf k9:Hp}{x:Option Sl}{o:HO}{c:Addr}(hH:H'=upd H c o)(yf:Ext Hf k9):∀{Z:Ev.Env}{Y:L2.St}{os:List (List Addr)}(i:Nat){y:Option V}{as:List Addr},kU p H Hf Z Y os->Y[i]?=Qa y->os[i]?=Qa as->c∈as->os.flatten.Nodup->yV p H' k9 x y []->
  kU p H' k9 (Z.set i x) Y (os.set i [])
 |[],_,_,_,_,_,_,_,_,_,_,_=>trivial
 |_::Z,_,_,0,y,as,h,e1,e2,hc,nd,q=>by refine x6 h λy1 Y' X9 qy qe qf h1 h2=>?_;subst qe qf;simp at e1 e2;subst e1 e2;simp at nd;subst hH;exact⟨_,Y',_,qy,rfl,rfl,q,RU (Ext.refl _) yf (bT (λz=>(QU.mp nd).2.2 c hc c z rfl) h2)⟩
 |_::Z,_,_,i+1,y,as,h,e1,e2,hc,nd,q=>by refine x6 h λy1 Y' X9 qy qe qf h1 h2=>?_;subst qe qf;simp at nd;refine⟨y1,Y',X9,qy.set i [],rfl,rfl,?_,q0P hH yf i h2 (by simpa using e1) (by simpa using e2) hc (QU.mp nd).2.1 q⟩;subst hH;exact bS (Ext.refl _) yf (bR (λz=>(QU.mp nd).2.2 c z c (Ju.mpr ⟨as,Qz (by simpa using e2),hc⟩) rfl) h1)
def Bd.alone{a:Addr}(b:Bd p H0 O0 Z Y os H)(e2:os[i]?=Qa [a]):a∉(os.set i []++[O0]).flatten:=by
 intro z;rw[ye]at z;rcases QA.mp z with z|z
 .obtain⟨as,h1,h2⟩:=Ju.mp z;obtain⟨j,hj,ej⟩:=Ja h1
  by_cases c:j=i
  .subst c;rw[List.getElem_set_self]at ej;rw[<-ej]at h2;simp at h2
  .rw[List.getElem_set_ne (JQ c)]at ej;have:∀(l:List (List Addr))(i j:Nat)(hi:i<l.length)(hj:j<l.length),i≠j->a∈l[i]->a∈l[j]->¬l.flatten.Nodup:=by
    intro l
    induction l with
    |nil=>intro i j hi;simp at hi
    |cons x l ih=>
     intro i j hi hj ne h1 h2 nd;simp at nd;have nd:=QU.mp nd;cases i with
     |zero=>
      cases j with
      |zero=>exact ne rfl
      |succ j=>exact nd.2.2 a h1 a (Ju.mpr ⟨_,Jl (by simpa using hj),by simpa using h2⟩) rfl
     |succ i=>
      cases j with
      |zero=>exact nd.2.2 a h2 a (Ju.mpr ⟨_,Jl (by simpa using hi),by simpa using h1⟩) rfl
      |succ j=>exact ih i j (by simpa using hi) (by simpa using hj) ∅ (by simpa using h1) (by simpa using h2) nd.2.1
   exact this os i j ((Qj.mp e2).1) (by simpa using hj) (JQ c) (by rw[((Qj.mp e2).2)];simp) (by rw[ej];exact h2) (by have:=b.rel.nd;rw[ye]at this;exact(QU.mp this).1)
 .exact b.out (Ju.mpr ⟨[a],Qz e2,by simp⟩) z
def Bd.q3X{a:Addr}{o:Obj}(b:Bd p H0 O0 Z Y os H)(e1:Y[i]?=Qa (Qa (.ref a)))(e2:os[i]?=Qa [a])(hk:ks=kvs.map (λq=>zi q.1))(hr:qM p (fz (os++[O0]).flatten H) ds (kvs.map (·.2))):
  Rep p (fz (os.set i []++[O0]).flatten (upd H a (.frz o (.dK kvs)))) (.qJ ks ds) (.ref a)/\Bd p H0 O0 (Z.set i (Qa (.val (.qJ ks ds)))) Y (os.set i []) (upd H a (.frz o (.dK kvs))):=by
 have lt:i<os.length:=(Qj.mp e2).1;have mo:a∈os.flatten:=Ju.mpr ⟨[a],Qz e2,by simp⟩;have ri:=b.alone e2;have yf:Ext (fz (os++[O0]).flatten H) (fz (os.set i []++[O0]).flatten (upd H a (.frz o (.dK kvs)))):=q3Z (by rw[ye];exact QD _ mo) (q0B lt);have rep:Rep p (fz (os.set i []++[O0]).flatten (upd H a (.frz o (.dK kvs)))) (.qJ ks ds) (.ref a):=⟨a,kvs,o,rfl,wt zr ri,hk,hr.mono yf⟩
 refine⟨rep,⟨⟨?_,λc hc=>?_,?_⟩,by simp[b.len],by simp[b.jE],λc u e=>?_,λc hc=>?_⟩⟩
 .rw[<-wW lt];exact CI Y0 b.rel.nd λa ha=>absurd ha (by simp)
 .obtain⟨u,e⟩:=b.rel.there c (q0B lt c hc);have ne:c≠a:=λz=>ri (z▸hc);exact⟨u,by rw[qY ne];exact e⟩
 .have:=q0P (x:=Qa (.val (.qJ ks ds))) (c:=a) (o:=.frz o (.dK kvs)) rfl yf i b.rel.slots e1 (by rw[QZ lt];exact e2) (QE.mpr rfl) b.rel.nd ⟨rfl,.ref a,rfl,rep⟩
  rwa [wW lt]at this
 .rw[qY λz=>by rw[z,b.new a mo]at e;cases e];exact b.ext c u e
 .exact (yk hc).elim (b.new c) λz=>absurd z (by simp)
theorem sS{H:Hp}{O O':List Addr}:∀{bs:List Addr}{xss:List (List D)},(∀b∈bs,b∉O')->(∀b∈O',b∈O)->xc p H (fz O H) bs xss->qM p (fz O' H) (xss.map .q6) (bs.map V.ref)
 |[],xss,_,_,h=>by cases h;rfl
 |b::bs,_,n,hs,h=>by obtain⟨xs,r,rfl,⟨vs,h1,h2⟩,h3⟩:=h;exact⟨.ref b,bs.map V.ref,rfl,⟨b,vs,rfl,qv.of (wt h1 (n b (by simp))),h2.mono (xr hs)⟩,sS (λc hc=>n c (Qc _ hc)) hs h3⟩
def q9c(hi:X.N[i]?=Qa x)(hv:kA X.env.scope x)(hd:(x==("__debug__":Str))=Qh)(z8:(x==("__classdict__":Str))=Qh):SS X p G sub (.Return (Qa (.Name x q)) pos) (.retO i):=by
 intro H0 O0 E hp pins s Y H Z os I B hs hE;have e0:ex G sub (.retO i) Z=match Z[i]?with
   |some (Qa (.own d))=>.ok (Z.set i Qg) (.ret d)
   |some (Qa (.zq xss))=>.ok (Z.set i Qg) (.ret (.q6 (xss.map .q6)))
   |_=>.q9:=rfl
 rw[e0]at hs hE|-;have lt:i<Z.length:=by rw[<-B.jE,I.len];exact(Qj.mp hi).1
 have wk:Inv X pins (Y.set i Qg) H s:=I.weak (by simp) λj v e=>by
  by_cases c:i=j
  .subst c;rw[Yd (by rw[B.jE];exact lt)]at e;cases e
  .rw[Yp c]at e;exact e
 split at hs
 .rename_i d hρ;refine TL (B.at hρ) λy as s1 s2 a qe qf s5=>?_;subst qe qf;have mo:a∈os.flatten:=Ju.mpr ⟨[a],Qz s2,by simp⟩;refine Vw (vv I hi hv s1 hd z8 λu r=>?_);cases r;cases d<;>first
   |exact s5.elim
   |skip
  .obtain⟨vs,h1,h2⟩:=s5;exact⟨_,_,_,_,H,rfl,B.X2 lt,wk,.ref a,rfl,a,vs,rfl,qv.of (wt h1 (B.out mo)),h2.mono Lw⟩
  .refine qV s5 λkvs h1 h2 h3=>?_;obtain⟨o,I2⟩:=q4f wk h1;obtain⟨rep,B2⟩:=B.q3X (o:=o) s1 s2 h2 h3;have B3:=B2.X2 (i:=i) (y:=Qg) (by simpa using lt);rw[List.set_set]at B3;exact⟨_,_,_,_,_,rfl,B3,I2,.ref a,rfl,rep.mono Lw⟩
 .rename_i xss hρ;refine i8 (B.at hρ) λy as s1 s2 a bs qe qf s5 s6=>?_;subst qe qf;have mo:∀b∈a::bs,b∈os.flatten:=λb hb=>Ju.mpr ⟨_,Qz s2,hb⟩;refine Vw (vv I hi hv s1 hd z8 λu r=>?_);cases r;exact⟨_,_,_,_,H,rfl,B.X2 (y:=Qg) lt,wk,.ref a,rfl,a,bs.map V.ref,rfl,qv.of (wt s5 (B.out (mo a (by simp)))),sS (λb hb=>B.out (mo b (Qc _ hb))) (λb hb=>by rw[ye];exact Ql _ hb) s6⟩
 .cases hs rfl
def q9j{px py tp:Pos}(hg:SG X p (.Tuple [.Name x px,.Name y py] k1 tp) 2 [i,j])(he:SE X p G sub e l)
  (y9:swapsWithSole [.Tuple [.Name x px,.Name y py] k1 tp] e pos.line X.env=pure Qh) (hw:swappedStores [.Tuple [.Name x px,.Name y py] k1 tp] e X.env=pure Qg):SS X p G sub (.Assign [.Tuple [.Name x px,.Name y py] k1 tp] e pos) (.setT [i,j] l):=by
 intro H0 O0 E hp pins s Y H Z os I B hs hE;have e0:ex G sub (.setT [i,j] l) Z=(ev G sub l Z).go Z λd=>(kG 2 d).go Z λxs=>.ok (uI [i,j] xs Z) .nx:=rfl;rw[e0]at hs hE|-;refine wpAny_Assign_stores (Qi (he pins s Y H Z _ I B.rel (zx hs)) (λv s1 zz=>qi zz λd x' H1 e1 I1 r1 x1 q1=>?_) (λe s' z=>hE e s' (jn B z))) y9 hw;rw[e1,qF]at hs hE|-;rcases q0z 2 d with z|⟨xs,z⟩
 .rw[z]at hs;cases hs rfl
 rw[z,qF];exact Qi (hg E H0 O0 pins s1 Y H1 Z os d xs x' v I1 (B.mono x1) r1 q1 z) (λ_ s2 zz=>kX zz λY' qy I2 B2=>⟨_,.nx,Y',qy,H1,rfl,B2,I2,trivial⟩) (λ_ _ z=>z)
def q1q{i:Int}(h:0<=i):((Zy i:Nat):Int)=if i=0 then 0 else((i.toNat.log2+1:Nat):Int):=by
 unfold Zy
 by_cases c:i=0
 .subst c;rfl
 .have e:i.natAbs=i.toNat:=∅
  rw[if_neg c,if_neg (by simpa using c),e]
def q8N{o:QC}(Tc:U1 o "bit_length" X.env (Jw o X.env)=Jw o X.env)(zo:(ap.endLine==cp.line)=Qd)(ho:SB X p G sub o l):SE X p G sub (.Call (.Attribute o "bit_length" ap) [] [] cp) (.bi .bits [l]):=by
 intro pins s Y H Z os I R hs;refine wpAny_Call_method0_late Tc zo (Qi (ho pins s Y H Z os I R (Fm hs)) (λu s1 h=>?_) (λ_ _=>Fl));refine qi h λd v H1 e1 I1 r1 x1 q1=>?_;have e0:ev G sub (.bi .bits [l]) Z=zB sub .bits [d]:=by rw[jA,RF l Z _ (λ_=>rfl),e1];rfl
 rw[e0]at hs|-;obtain⟨i,rfl⟩:=zJ hs;have hs:(if 0<=i then Ev.R.ok (D.int (if i=0 then 0 else((i.toNat.log2+1:Nat):Int)))else .q9)≠.q9:=hs
 by_cases hi:0<=i
 .have e2:zB sub .bits [.int i]=.ok (.int (if i=0 then 0 else((i.toNat.log2+1:Nat):Int))):=by show(if 0<=i then _ else _)=_;rw[if_pos hi]
  cases q1;obtain⟨t,rfl⟩:=r1;refine⟨"int","int.bit_length",PySem.F.plainAttrs_int,PySem.F.slot_int_bit_length,PySem.F.type_int_bit_length,FL _ _ _,(λ_ z=>by cases z),?_⟩;refine JL rfl (Hj ?_);refine PyProof.Rows.call_int_bit_length ?_;exact⟨_,.int _,H1,e2,I1.tok _,⟨_,by rw[q1q hi]⟩,x1,rfl⟩
 .rw[if_neg hi]at hs;cases hs rfl
theorem fN{h:Heap}{ds:List D}{x:D}(pd:zU ds=Qd)(px:pl x=Qd):∀{es:List D}{us:List Value},(∀e∈es,e∈ds)->zA h es us->us.countP (eqTo h ds x)=(es.filter λy=>qD y x).length
 |[],us,_,y=>by cases y;rfl
 |e::es,us,hs,y=>by refine qL y λu r zz y1 y2=>?_;subst zz;rw[List.countP_cons,fN pd px (λz hz=>hs z (Qc _ hz)) y2,Ei pd px (hs e Qe) y1,JY];split<;>simp
theorem n9{h:Heap}{ds:List D}{x:D}(pd:zU ds=Qd)(px:pl x=Qd):∀{es:List D}{us:List Value}{n:Nat}{r:D},(∀e∈es,e∈ds)->zA h es us->idxOf x es n=.ok r->
  ∃(j:Nat)(hj:j<us.length),r=.int ((n+j:Nat):Int)/\eqTo h ds x us[j]=Qd/\∀m(hm:m<us.length),m<j->eqTo h ds x us[m]=Qh
 |[],us,n,r,_,y,e=>by exact nR e
 |d::es,us,n,r,hs,y,e=>by
  refine qL y λu r' zz y1 y2=>?_;subst zz;have eu:=Ei pd px (hs d Qe) y1;unfold idxOf at e;split at e
  .rename_i c;cases e;exact⟨0,by simp,by simp,by simpa[eu]using c,λm hm z=>absurd z (Nat.not_lt_zero _)⟩
  .rename_i c;obtain⟨j,hj,e1,e2,e3⟩:=n9 pd px (λz hz=>hs z (Qc _ hz)) y2 e;refine⟨j+1,by simpa using hj,by rw[e1];congr 1;lia,by simpa using e2,λm hm z=>?_⟩;cases m with
   |zero=>simpa[eu]using c
   |succ m=>simpa using e3 m (by simpa using hm) ∅
def q03{id:String}{b:Bi}{o:QC}{c:Const}(hK:p.K=X.K)(DM:TC c=Qa dc)(slot:Slot "list" name id)(hty:typeOf (.builtin id)=pure (.type "method_descriptor"))
  (Tc:U1 o name X.env (Jw o X.env)=Jw o X.env) (zo:(ap.endLine==cp.line)=Qd) (ho:SB X p G sub o l)
  (hl:∀d r,zB sub b [d,dc]=.ok r->∃xs,d=.q6 xs)
  (hm:∀(E:NZ)(pins:List (Addr×Obj))(s:Shared)(Y:L2.St)(H:Hp)(os:List (List Addr))(xs:List D)(v w:V)(u u2:Value)(r:D),Inv X pins Y H s->RelV v u->RelV w u2->j6 p H (fz os.flatten H) (.q6 xs) v->Rep p (fz os.flatten H) dc w->zB sub b [.q6 xs,dc]=.ok r->
   wpAny (model X.prog X.w) X.A (call (.builtin id) [u,u2]) (EP (X.qn E) pins Y (Fin p os.flatten H r)) E s):
  SE X p G sub (.Call (.Attribute o name ap) [.Constant c j q] [] cp) (.bi b [l,.qh dc]):=by
 intro pins s Y H Z os I R hs;have e0:ev G sub (.bi b [l,.qh dc]) Z=(ev G sub l Z).bind λx=>zB sub b [x,dc]:=by rw[jA,kJ];cases ev G sub l Z<;>rfl
 rw[e0]at hs|-;refine YS Tc rfl zo rfl (Qi (ho pins s Y H Z os I R (z7 hs)) (λu s1 h=>?_) (λ_ _ z=>z.bind));refine qi h λd v H1 e1 I1 r1 x1 q1=>?_;rw[e1,qB]at hs|-;rcases EF sub b [d,dc]with z|⟨r,z⟩
 .exact absurd z hs
 obtain⟨xs,rfl⟩:=hl d r z;have bG:=q1;refine qL bG λa vs zz s5 s6=>?_;subst zz;cases r1;obtain⟨h1,h2⟩:=Cu (T:="list") (x:=.ref a) I1 rfl (.inl ⟨rfl,_,hK▸s5⟩);refine⟨"list",id,Yu,slot,hty,h1,h2,?_⟩;refine JL rfl (Yo ?_);show wpAny _ _ (Us ((Qh,Jw (.Constant c j q) X.env)::[])) _ _ s1;refine QW (Qi (q05 (X:=X) (p:=p) (G:=G) (sub:=sub) DM pins s1 Y H1 Z os I1 (R.ext x1) (by rw[zf];simp)) (λu2 s2 zz=>qi zz λd2 w H2 e2 I2 r2 x2 q2=>Q0 ?_) (λe s' zz=>qR zz λc z _=>by rw[zf]at z;cases z));rw[zf]at e2;cases e2;rw[z];exact Qi (hm (Er X p pins Y H (.ok r)) pins s2 Y H2 os xs (.ref a) w (.ref a) u2 r I2 rfl r2 (q1.mono x2 (zO x2)) q2 z) (λw' s3 h3=>TM (x1.trans x2) rfl h3) λ_ _ z=>z
def q8T{o:QC}{c:Const}(hK:p.K=X.K)(hu:X.A.units+64<cLine)(DM:TC c=Qa dc)(Tc:U1 o "count" X.env (Jw o X.env)=Jw o X.env)(zo:(ap.endLine==cp.line)=Qd)(ho:SB X p G sub o l):
  SE X p G sub (.Call (.Attribute o "count" ap) [.Constant c j q] [] cp) (.bi .count [l,.qh dc]):=by
 refine q03 hK DM Zz PySem.F.type_list_count Tc zo ho (λd r h=>?_) λE pins s Y H os xs v w u u2 r I rv vI q1 q2 h=>?_
 .cases d<;>first
   |(cases h;done)
   |exact⟨_,rfl⟩
 .have h:(if pl dc&&zU xs then Ev.R.ok (D.int ((xs.filter λy=>qD y dc).length))else .q9)=.ok r:=h;split at h
  .rename_i c;simp at c;cases h;obtain⟨a,us,rfl,⟨⟨cl,dd,da,sl⟩,e1,e2,n,e3⟩,y⟩:=(wG hK I qu q1 rv)
   simp only at e2 e3;subst e2 e3;refine UX Zz ⟨_,e1,rfl⟩ PySem.F.entry_list_count (PySem.F.args_list_count_2 _ _) (SeqAt.list_countAt a us.toArray n dd sl u2 (eqTo s.heap xs dc)) ⟨e1,Pp c.2 c.1 y ((vP hK I).1 dc w u2 (q2.mono qu) vI) (by rw[Jb];lia),?_⟩;refine⟨.int _,H,(I.qn E).tok _,⟨_,rfl⟩,?_⟩;rw[show us.toArray.toList=us from rfl,fN c.2 c.1 (λ_ h=>h) y];exact fin_same rfl
  .exact nR h
def q8W{o:QC}{c:Const}(hK:p.K=X.K)(hu:X.A.units+64<cLine)(DM:TC c=Qa dc)(Tc:U1 o "index" X.env (Jw o X.env)=Jw o X.env)(zo:(ap.endLine==cp.line)=Qd)(ho:SB X p G sub o l):
  SE X p G sub (.Call (.Attribute o "index" ap) [.Constant c j q] [] cp) (.bi .index [l,.qh dc]):=by
 refine q03 hK DM ZA PySem.F.type_list_index Tc zo ho (λd r h=>?_) λE pins s Y H os xs v w u u2 r I rv vI q1 q2 h=>?_
 .cases d<;>first
   |(cases h;done)
   |exact⟨_,rfl⟩
 .have h:(if pl dc&&zU xs then idxOf dc xs 0 else .q9)=.ok r:=h;split at h
  .rename_i c;simp at c;have zl:xs.length<=QI:=by obtain⟨a,vs,rfl,s5,s6⟩:=q1;cases rv;obtain⟨its,r1,_,hz⟩:=I.list (hK▸s5);have:=s6.length;have:=r1.length;lia
   obtain⟨a,us,rfl,⟨⟨cl,dd,da,sl⟩,e1,e2,n,e3⟩,y⟩:=(wG hK I qu q1 rv)
   simp only at e2 e3;subst e2 e3;obtain⟨k,hk,er,zm,wN⟩:=n9 c.2 c.1 (λ_ h=>h) y h;subst er;have hl:=y.length;have hsz:=Jk;refine UX ZA ⟨_,e1,rfl⟩ PySem.F.entry_list_index (PySem.F.args_list_index_2 _ _) (SeqAt.list_indexAt a us.toArray n dd sl u2 (eqTo s.heap xs dc) k (by simpa using hk) ∅ (by simpa using zm) (λm hm z=>by simpa using wN m (by simpa using hm) z)) ⟨e1,Pp c.2 c.1 y ((vP hK I).1 dc w u2 (q2.mono qu) vI) (by rw[Jb];lia),?_⟩;refine⟨.int _,H,(I.qn E).tok _,⟨_,rfl⟩,?_⟩;rw[WN];exact fin_same rfl
  .exact nR h
open HT
def qAM{t sl:Addr}{vl vu:Value}{lo hi:Option Int}{Q:NZ}(ht:IsTup s.heap t items)(hs:s.heap.IsSliceOf sl vl vu .none)(pl:Wl vl lo)(pu:Wl vu hi)
  (hw:qr items.size 0 lo=0/\qr items.size items.size hi=items.size) (h:Q (.ref t) s):wpAny (model prog w) A (Vt (.ref t) (.ref sl)) Q E s:=by
 obtain⟨os,XX,DN,uc⟩:=hs;have OD:s.TypeIs (.ref sl) "slice":=⟨os,XX,DN⟩
 unfold Vt
 try with_reducible refine Q4 ?_
 first|refine Qb (Qf ?_)|skip
 refine Qb (wpAny_sequenceKey ht.typeIs (by decide) ?_);refine Qb (UE (name:=Qy "__getitem__") ht.typeIs Jx (J3 Jx ht.typeIs entry_tuple_getitem ?_ (args_tuple_getitem _ _)));show wpAny _ _ (UI (.ref t)>>=_) _ _ s;refine Qb (tupleItemsOf_ ht (Qb (UN OD ?_)));rw[if_pos (by decide)];refine Qb (q0K ⟨os,XX,DN,uc⟩ pl pu ?_);show wpAny _ _ (if(((qr items.size 0 lo:Nat):Int)==0&&(1:Int)==1&&(qr items.size items.size hi-qr items.size 0 lo)==items.size)=Qd then _ else _) _ _ s;rw[if_pos (by rw[hw.1,hw.2];simp)];unfold Builtin.Tuple.tupleIsExact;refine Qb (Qb (UN ht.typeIs (Qf ?_)));rw[if_pos (by decide)];exact Qb (W2 (Qf ⟨_,rfl,Qf h⟩))
theorem iu{α β:Type}{g:α->Option β}{h:α->β}:∀{l:List α},(∀k∈l,g k=Qa (h k))->l.filterMap g=l.map h
 |[],_=>rfl
 |a::l,q=>by rw[JC,q a (by simp),Qw,iu λk hk=>q k (Qc _ hk)]
def q7J(its:List Value):ZK its.toArray Qg Qg (Qa (-1))=its.reverse.toArray:=by
 unfold ZK;have hb:Ui Qg Qg (Qa (-1)) its.toArray.size=((its.length:Int)-1,-1,-1):=by simp[Ui]
 rw[hb];dsimp only;unfold sliceRange;have hc:(if(-1:Int)>0 then(if((its.length:Int)-1)< -1 then((-1:Int)-((its.length:Int)-1)+-1-1)/ -1 else 0)else(if((its.length:Int)-1)>-1 then(((its.length:Int)-1) - -1 - -1-1)/(-(-1))else 0)).toNat=its.length:=by
  rw[if_neg (by decide)];split
  .simp
  .omega
 simp only[hc];congr 1;rw[List.filterMap_map];rw[iu (h:=λk=>its.getD (its.length-1-k) default)]
 .apply WT
  .simp
  .intro n h1 h2;have hn:n<its.length:=(by simpa using h1);simp[Y2,List.getElem_reverse];rw[Qv (by omega)];simp
 .intro k hk;have hk:=QN.mp hk;have e:((its.length:Int)-1+-1*(k:Int)).toNat=its.length-1-k:=by omega
  show its.toArray[((its.length:Int)-1+-1*(k:Int)).toNat]?=_;rw[e,List.getElem?_toArray,Y2,Qv (by omega)];simp
def qAU(h:Vals vs us):Vals vs.reverse us.reverse:=by
 induction h with
 |nil=>exact .nil
 |cons h t ih=>rw[Jm,Jm];exact ih.append (.cons h .nil)
def SO(X:Cx)(p:Pm)(G:Nat->List D->R D)(sub:Nat->Nat->Bool)(e:Option QC)(l:List L):Prop:=(e=Qg/\l=[])\/∃e' l',e=Qa e'/\l=[l']/\SE X p G sub e' l'
def q0W{e:Option QC}{l:List L}(h:SO X p G sub e l)(I:Inv X pins Y H s)(R:Rel p Z Y os H)(hs:zg G sub l Z≠.q9):
  wpAny (model X.prog X.w) X.A (evalPart e X.env) (λu s'=>∃ds H',zg G sub l Z=.ok ds/\Inv X pins Y H' s'/\Ext H H'/\∀o,xU ds=.ok o->Wl u o) (Er X p pins Y H (zg G sub l Z)) s:=by
 rcases h with⟨rfl,rfl⟩|⟨e',l',rfl,rfl,h⟩
 .rw[evalPart_none];exact Qf ⟨[],H,rfl,I,Ext.refl _,λo e=>by cases e;exact .none⟩
 .rw[evalPart_some];have e0:zg G sub [l'] Z=(ev G sub l' Z).bind λx=>.ok [x]:=by rw[kJ];cases ev G sub l' Z<;>rfl
  rw[e0]at hs|-;refine Qi (h pins s Y H Z os I R (z7 hs)) (λu s1 zz=>qi zz λd v H1 e1 I1 r1 x1 q1=>?_) (λ_ _ z=>z.bind);refine⟨[d],H1,by rw[e1];rfl,I1,x1,λo e=>?_⟩;cases d<;>first
   |(cases e;done)
   |skip
  rename_i i0;obtain rfl:Qa i0=o:=by have e:Ev.R.ok (Qa i0)=.ok o:=e;cases e;rfl
  cases q1;obtain⟨t,rfl⟩:=r1;exact .int _ t
def tP(h:qM p Hf ds vs)(lo hi:Option Int):qM p Hf (jM ds lo hi) (Rn vs lo hi):=by unfold jM Rn;rw[h.length];exact(h.drop _).take _
def q2S(xs:List α)(lo hi:Option Int)(h:HT.qr xs.length 0 lo=0/\HT.qr xs.length xs.length hi=xs.length):jM xs lo hi=xs:=by unfold jM;have h1:yX xs.length 0 lo=0:=h.1;have h2:yX xs.length xs.length hi=xs.length:=h.2;rw[h1,h2];simp
def q8j{lo hi:Option QC}{SY SX:List L}(hK:p.K=X.K)(ha:SB X p G sub a la)(Tt:SO X p G sub lo SY)(hhi:SO X p G sub hi SX):SE X p G sub (.Subscript a (.Slice lo hi Qg p2) pos) (.sl 0 la SY SX):=by
 intro pins s Y H Z os I R hs;rw[TR]at hs|-;refine W0 (Qi (ha pins s Y H Z os I R (z7 hs)) (λv s1 zz=>qi zz λd x H1 e1 I1 r1 x1 q1=>?_) (λ_ _ z=>z.bind));rw[e1,qB]at hs|-;have R1:=R.ext x1;refine wpAny_Slice (Qi (q0W Tt I1 R1 (z7 hs)) (λvl s2 zz=>zK zz λl1 H2 e2 I2 x2 CN=>?_) (λ_ _ z=>(z.ext x1).bind));rw[e2,qB]at hs|-;have R2:=R1.ext x2;refine Qi (q0W hhi I2 R2 (z7 hs)) (λvu s3 zz=>zK zz λl2 H3 e3 I3 x3 p3=>?_) (λ_ _ z=>(z.ext (x1.trans x2)).bind);rw[e3,qB]at hs|-;rw[evalPart_none];refine Qf ?_;have sQ:∀l:List D,xU l=.q9\/∃o,xU l=.ok o:=λl=>by unfold xU;split<;>first|exact .inr ⟨_,rfl⟩|exact .inl rfl
 rcases sQ l1 with z|⟨o1,z1⟩
 .rw[z]at hs;cases hs rfl
 rcases sQ l2 with z|⟨o2,z2⟩
 .rw[z1,qB,z]at hs;cases hs rfl
 rw[z1,qB,z2,qB]at hs|-;have I4:Inv X pins Y H3 {s3 with heap:=s3.heap.push {cls:=.type "slice",data:=.fields #[vl,vu,.none]}}:=I3.kept (t':=s3.toks) λb ob q=>Qk _ q;have x13:=(x1.trans x2).trans x3;have q3:=q1.mono (x2.trans x3) (zO (x2.trans x3));have t3:=(R2.ext x3).th;show wpAny (model X.prog X.w) X.A (WQ a (.Slice lo hi Qg p2) v (.ref s3.heap.objs.size)) _ _ {s3 with heap:=s3.heap.push {cls:=.type "slice",data:=.fields #[vl,vu,.none]}};have fin:∀(E:NZ)(rr:Ev.R D)(r:D),rr=.ok r->∀u s',EP (X.qn E) pins Y (Fin p os.flatten H3 r) u s'->Gd X p pins Y os H rr u s':=λE rr r e u s' h=>TM x13 e h;cases d<;>first
  |cases hs rfl
  |skip
 .rename_i xs;have e5:yo 0 o1 o2 (.qA xs)=.ok (.qA (jM xs o1 o2)):=rfl;rw[e5];refine zK q3 λt vs zz s5 z5 s6=>?_;subst zz;cases r1;have s5':zZ X.K H3 t vs:=hK▸qu.jT s5
  by_cases hw:HT.qr vs.length 0 o1=0/\HT.qr vs.length vs.length o2=vs.length
  .refine qV (I4.tuple s5') λits rv ht hz=>?_;have qT:its.toArray.size=vs.length:=(by rw[QB];exact rv.length.symm);refine F1 (ops:=[.ref s3.heap.objs.size,.ref t]) ht.typeIs Jx.lookup (qAM ht (UG ..) (CN o1 z1) (p3 o2 z2) (by rw[qT];exact hw) ?_) (by with_unfolding_all rfl);rw[q2S xs o1 o2 (by rw[s6.length];exact hw)];exact⟨_,.ref t,H3,rfl,I4,rfl,x13,t,vs,rfl,s5,z5,s6⟩
  .obtain⟨T,id',hT,ht,hg⟩:=q97 (X:=X.qn (Er X p pins Y H (Ev.R.ok (D.qA (jM xs o1 o2))))) pins _ Y H3 (.ref t) _ vl vu o1 o2 s3.heap.objs.size (Fin p os.flatten H3 (.qA (jM xs o1 o2))) (I4.qn _) rfl (UG ..) (CN o1 z1) (p3 o2 z2)
    ⟨t,vs,rfl,s5',hw,λq n=>Ln t3 (tP s6 o1 o2) (Qx (LB vs o1 o2) z5) n⟩
   exact F1 (ops:=[.ref s3.heap.objs.size,.ref t]) ht hT (Qi hg (λu s' h=>fin _ _ _ rfl u s' h) λ_ _ z=>z) (by with_unfolding_all rfl)
 .rename_i xs;have e5:yo 0 o1 o2 (.q6 xs)=.ok (.q6 (jM xs o1 o2)):=rfl;rw[e5];refine qL q3 λt vs zz s5 s6=>?_;subst zz;cases r1;obtain⟨T,id',hT,ht,hg⟩:=q95 (X:=X.qn (Er X p pins Y H (Ev.R.ok (D.q6 (jM xs o1 o2))))) pins _ Y H3 (.ref t) _ vl vu o1 o2 s3.heap.objs.size (Fin p os.flatten H3 (.q6 (jM xs o1 o2))) (I4.qn _) rfl (UG ..) (CN o1 z1) (p3 o2 z2)
   ⟨t,vs,rfl,hK▸s5,λq n=>XH t3 (tP s6 o1 o2) n⟩
  exact F1 (ops:=[.ref s3.heap.objs.size,.ref t]) ht hT (Qi hg (λu s' h=>fin _ _ _ rfl u s' h) λ_ _ z=>z) (by with_unfolding_all rfl)
def q96{se:QC}{k:Nat}{st:Int}{f:{α:Type}->List α->List α}(hK:p.K=X.K)(ha:SB X p G sub a la)(h0:st≠0)
  (hse:∀(E:NZ)(Q:NZ)(pins:List (Addr×Obj))(s:Shared)(Y:L2.St)(H:Hp),Inv X pins Y H s->(∀t s',Inv X pins Y H s'->Q (.int st t) s')->wpAny (model X.prog X.w) X.A (Jw se X.env) Q E s)
  (hk:∀d r,yo k Qg Qg d=.ok r->∃xs,d=.q6 xs/\r=.q6 (f xs)) (GL:∀d,yo k Qg Qg d=.q9\/∃r,yo k Qg Qg d=.ok r) (hp:∀its:List Value,ZK its.toArray Qg Qg (Qa st)=(f its).toArray) (hv:∀{vs:List V}{us:List Value},Vals vs us->Vals (f vs) (f us)) (hr:∀{H:Hp}{ds:List D}{vs:List V},qM p H ds vs->qM p H (f ds) (f vs))
  (hf:∀{vs:List V},(f vs).length<=vs.length):SE X p G sub (.Subscript a (.Slice Qg Qg (Qa se) p2) pos) (.sl k la [] []):=by
 intro pins s Y H Z os I R hs;rw[TR]at hs|-;refine W0 (Qi (ha pins s Y H Z os I R (z7 hs)) (λv s1 zz=>qi zz λd x H1 e1 I1 r1 x1 q1=>?_) (λ_ _ z=>z.bind));rw[e1,qB]at hs|-;have hs:yo k Qg Qg d≠.q9:=hs;refine wpAny_Slice ?_;rw[evalPart_none];refine Qf (Qf ?_);rw[evalPart_some];refine hse _ _ pins s1 Y H1 I1 λt s3 I3=>?_;rcases GL d with z|⟨r,z⟩
 .exact absurd z hs
 refine qR (hk d r z) λxs qe qf=>?_;subst qe qf;have e5:((zg G sub [] Z).bind λl=>(zg G sub [] Z).bind λh=>(xU l).bind λl=>(xU h).bind λh=>yo k l h (.q6 xs))=.ok (.q6 (f xs)):=z;rw[e5];refine qL q1 λtt vs zz s5 s6=>?_;subst zz;cases r1;have I4:Inv X pins Y H1 {s3 with heap:=s3.heap.push {cls:=.type "slice",data:=.fields #[.none,.none,.int st t]}}:=I3.kept (t':=s3.toks) λb ob q=>Qk _ q;show wpAny (model X.prog X.w) X.A (WQ a (.Slice Qg Qg (Qa se) p2) (.ref tt) (.ref s3.heap.objs.size)) _ _ {s3 with heap:=s3.heap.push {cls:=.type "slice",data:=.fields #[.none,.none,.int st t]}};refine qV (I4.list (hK▸s5)) λits rv ht hz=>?_;have qT:=rv.length;refine F1 (ops:=[.ref tt,.ref s3.heap.objs.size]) ht.isList.typeIs Ze.lookup ?_ (by with_unfolding_all rfl);refine wpAny_getItem_list_slice ht.isList (UG ..) .none .none (.int st t) (λq=>h0 (QY q)) ?_ (by rw[QB];omega);rw[hp];have hn:H1 (s3.heap.push {cls:=.type "slice",data:=.fields #[.none,.none,.int st t]}).objs.size=Qg:=I4.qI.fresh (Qs _);obtain⟨g1,g2⟩:=XH (p:=p) (R.ext x1).th (hr s6) hn;exact⟨_,.ref _,_,rfl,(I4.Dw (t':=s3.toks) (hv rv) (Qx hf hz)),rfl,x1.trans g1,g2⟩
def q8g{q1:Pos}(hK:p.K=X.K)(ha:SB X p G sub a la):SE X p G sub (.Subscript a (.Slice Qg Qg (Qa (.UnaryOp .USub (.Constant (.int 1) j q1) q2)) p2) pos) (.sl 1 la [] []):=by
 refine q96 (st:=-1) (f:=λl=>l.reverse) hK ha (by decide) (λE Q pins s Y H I h=>?_) (λd r h=>?_) (λd=>?_) q7J qAU qM.reverse (by simp)
 .exact UnaryOp_ (wpAny_Constant_int (neg_int (h _ _ ((I.tok _).tok _))))
 .cases d<;>first
   |(exfalso;simpa[yo]using h)
   |(cases h;exact⟨_,rfl,rfl⟩)
 .cases d<;>first
   |exact .inl rfl
   |exact .inr ⟨_,rfl⟩
theorem nA(x:D×D):∀l:List (D×D),(kz.insK x l).map (·.1)=ins x.1 (l.map (·.1))
 |[]=>rfl
 |y::l=>by
  show(if qU x.1 y.1 then x::y::l else y::kz.insK x l).map (·.1)=if qU x.1 y.1 then x.1::y.1::l.map (·.1)else y.1::ins x.1 (l.map (·.1))
  split
  .rfl
  .rw[Qw,nA x l]
theorem q0Y:∀l:List (D×D),(kz l).map (·.1)=jP (l.map (·.1))
 |[]=>rfl
 |x::l=>by show(kz.insK x (kz l)).map (·.1)=ins x.1 (jP (l.map (·.1)));rw[nA,q0Y l]
theorem nC(x:D×D):∀l:List (D×D),(kz.insK x l).Perm (x::l)
 |[]=>.refl _
 |y::l=>by
  show(if qU x.1 y.1 then x::y::l else y::kz.insK x l).Perm _;split
  .exact .refl _
  .exact ((nC x l).cons y).trans (.swap x y l)
theorem q0a:∀l:List (D×D),(kz l).Perm l
 |[]=>.refl _
 |x::l=>(nC x (kz l)).trans ((q0a l).cons x)
theorem sT:∀{l m:List (D×D)},l.Perm m->l.map (·.1)=m.map (·.1)->(l.map (·.1)).Pairwise (·≠·)->l=m
 |[],m,h,_,_=>by rw[List.nil_perm.mp h]
 |x::l,[],h,_,_=>by cases List.perm_nil.mp h
 |x::l,y::m,h,e,nd=>by
  have e1:x.1=y.1:=by simpa using(List.cons.inj (by simpa using e)).1
  have e2:l.map (·.1)=m.map (·.1):=by simpa using(List.cons.inj (by simpa using e)).2
  have jQ:=QX.mp nd;have hx:x∈y::m:=h.mem_iff.mp (by simp);have exy:x=y:=by
   rcases Qo.mp hx with z|z
   .exact z
   .exfalso;have:x.1∈l.map (·.1):=(by rw[e2];exact Qn.mpr ⟨x,z,rfl⟩);exact jQ.1 _ this rfl
  subst exy;rw[sT (List.perm_cons _|>.mp h) e2 jQ.2]
def q7I{xs:List D}{q:Array Nat}(hl:ql.length=xs.length)(h:SoOk ql)(P:qo.Pm q ql.length)(U:qo.Up (wg ql) q ql.length):qo.pick q xs .qE=(kz (ql.zip xs)).map (·.2):=by
 have lz:(ql.zip xs).length=ql.length:=by simp[hl]
 have lt:∀i∈q.toList,i<ql.length:=λi hi=>QN.mp (P.perm.mem_iff.mp hi);have gz:∀i,i<ql.length->(ql.zip xs).getD i (.qE,.qE)=(ql.getD i .qE,xs.getD i .qE):=λi hi=>by
  have wz:i<xs.length:=∅
  have hz:i<(ql.zip xs).length:=∅
  rw[Y2,Qv hz,List.getElem_zip];simp[Y2,hi,wz]
 have f1:(qo.pick q (ql.zip xs) (.qE,.qE)).map (·.1)=qo.pick q ql .qE:=by unfold qo.pick;rw[J0];exact YB λi hi=>by show((ql.zip xs).getD i (.qE,.qE)).1=_;rw[gz i (lt i hi)]
 have f2:(qo.pick q (ql.zip xs) (.qE,.qE)).map (·.2)=qo.pick q xs .qE:=by unfold qo.pick;rw[J0];exact YB λi hi=>by show((ql.zip xs).getD i (.qE,.qE)).2=_;rw[gz i (lt i hi)]
 have perm:(qo.pick q (ql.zip xs) (.qE,.qE)).Perm (ql.zip xs):=by
  have:=P.perm.map λi=>(ql.zip xs).getD i (.qE,.qE);have e:(Qt ql.length).map (λi=>(ql.zip xs).getD i (.qE,.qE))=ql.zip xs:=by have:=qo.Ad (ql.zip xs) ((.qE,.qE):D×D);unfold qo.pick at this;rw[lz]at this;simpa using this
  rw[e]at this;exact this
 have fz:(ql.zip xs).map (·.1)=ql:=by rw[List.map_fst_zip ∅]
 have e1:(qo.pick q (ql.zip xs) (.qE,.qE)).map (·.1)=(kz (ql.zip xs)).map (·.1):=by rw[f1,q0Y,fz,Ae h P U]
 have nd:((qo.pick q (ql.zip xs) (.qE,.qE)).map (·.1)).Pairwise (·≠·):=by rw[f1,Ae h P U];exact(kN ql).symm.pairwise h.Ro (λz=>JQ z)
 rw[<-f2,sT (perm.trans (q0a _).symm) e1 nd]
def iz(I:Inv X pins Y H s)(hn:s.heap.get? b=Qg)(hl:X.env.locals<b):zH X pins H b:=by
 have ne:∀c o,s.heap.get? c=Qa o->c≠b:=λc o e z=>by rw[z,hn]at e;cases e
 refine⟨GF I.qI hn,VC hl,λz=>?_,.inr (Qx I.ok.above (UB hl)),λx c e=>?_,λq hq=>?_⟩
 .obtain⟨_,o,ho,_⟩:=I.funs.mem z;exact ne _ _ ho rfl
 .obtain⟨v,o,ho,_⟩:=I.cell x c e;exact ne _ _ ho
 .exact ne _ _ (I.pin q hq).1
def q4d{a:Addr}(I:Inv X pins Y H s)(f:zH X pins H a)(new:jd X.prog X.w (upd H a o) s.heap a o):Inv X pins Y (upd H a o) s:=by
 refine je f λhn f1 f2 f3 f4 f5=>?_;have qI:zW X.prog X.w (upd H a o) s.heap:=λc u e=>by
  by_cases hc:c=a
  .subst hc;rw[zr]at e;cases e;exact new
  .rw[qY hc]at e;exact(I.qI c u e).xZ (λ_ _ _ q=>q) (λd q=>by rw[qY (jJ q hn)];exact q) λd xs q=>by rw[qY (jJ q hn)];exact q
 refine⟨I.ok,I.os,I.bare,⟨I.base.keep,I.base.slot,λc u e n hx=>?_,I.base.there,λc xs e=>?_,λc u v e=>?_,λc ps e=>?_⟩,I.loc,I.cell,?_,λx c e=>?_,λq hq=>?_,qI,I.len⟩
 .rw[qY λz=>?_]
  .exact I.base.free c u e n hx
  .rw[z]at e hx;rcases f3 with g|g
   .exact hx g
   .exact absurd (QF (Qu e) g) (Jv _)
 .have:=I.base.yq c xs e;rw[qY (jJ this hn)];exact this
 .have:=I.base.wq c u v e;rw[qY (jJ this hn)];exact this
 .obtain⟨more,this⟩:=I.base.yp c ps e;exact⟨more,by rw[qY (jJ this hn)];exact this⟩
 .rw[qY (JQ f1)];exact I.free
 .rw[qY (f4 x c e)];exact I.kB x c e
 .refine yz (I.pin q hq) λe n ne nf d=>?_;exact⟨e,by rw[qY (f5 q hq)];exact n,ne,nf,d⟩
def Oz(X:Cx):Cx:={X with A:=X.A.in1.in1}
def q4h(I:Inv X pins Y H s):Inv (Oz X) pins Y H s:=
 ⟨⟨I.ok.mod,I.ok.kind,I.ok.glob,I.ok.blt,I.ok.above,I.ok.inj,I.ok.has,I.ok.XE,λz=>I.ok.hd z,I.ok.frames,I.ok.vL,I.ok.DB,I.ok.bs,I.ok.yY,I.ok.Xj,I.ok.TU,I.ok.funs,I.ok.xq⟩,I.os,I.bare,I.base,I.loc,I.cell,I.free,I.kB,I.pin,I.qI,I.len⟩
def q4l(ok:X.Ok)(I:Inv (Oz X) pins Y H s):Inv X pins Y H s:=
 ⟨ok,I.os,I.bare,I.base,I.loc,I.cell,I.free,I.kB,I.pin,I.qI,I.len⟩
def A3{x:D}{l:List D}(h:mapR f (x::l)=.ok ks):∃k r,f x=.ok k/\mapR f l=.ok r/\ks=k::r:=by
 unfold mapR at h;cases h1:f x with
 |ok k=>
  rw[h1]at h;cases h2:mapR f l with
  |ok r=>rw[h2,qB]at h;cases h;exact⟨k,r,rfl,rfl,rfl⟩
  |err c=>rw[h2]at h;cases h
  |q9=>rw[h2]at h;cases h
 |err c=>rw[h1]at h;cases h
 |q9=>rw[h1]at h;cases h
theorem aE:∀{l ks:List D},mapR f l=.ok ks->ks.length=l.length
 |[],ks,h=>by cases h;rfl
 |x::l,ks,h=>by obtain⟨k,r,_,h2,rfl⟩:=A3 h;simp[aE h2]
def sa{a b:Addr}(I:Inv X pins Y H s)(fa:zH X pins H a)(fb:zH X pins H b)(ea:s.heap.get? a=Qa oa)(eb:s.heap.get? b=Qa ob)(da:∀v,oa.data≠.cell v)(db:∀v,ob.data≠.cell v):
  Inv X (pins++[(a,oa),(b,ob)]) Y H s:=I.Pw λq hq=>(QA.mp hq).elim (λz=>I.pin q (Ql _ z)) λz=>by
 rcases Qo.mp z with rfl|z
 .exact⟨ea,fa.1,fa.2.1,fa.2.2.1,da⟩
 .cases QE.mp z;exact⟨eb,fb.1,fb.2.1,fb.2.2.1,db⟩
def Eu(f:zH X pins H b)(n:H' b=Qg):zH X pins H' b:=⟨n,f.2⟩
theorem nr{k j:Nat}{fd:FuncData}{ps:List Str}{pins:List (Addr×Obj)}{Y:L2.St}{O:List Addr}{Dd kS:Addr}{E:NZ}{body:Value->PUnit->Sem (ForInStep PUnit)}
  (F:FnOk X.prog X.w X.K X.mg X.base (j5 X.prog X.w) k f fd ps (yO p G j ps.length)) (hr:Room k X.A.in1.in1) (hb:Binds X.K fd ps []) (h1:∀ds,G j ds≠.q9->ds.length=ps.length) (nd:O.Nodup) (jB:Dd≠kS) (dD:∀v,oD.data≠.cell v)
  (P0:∀x ks e(s:Shared)(C:NZ),YG ks<64->wpAny (model X.prog X.w) X.A.in1.in1 (call (.ref f) [x]) (λkv s'=>s'.heap.get? kS=Qa (JV "list" (QP ks) e)/\C kv {s' with heap:=s'.heap.update kS (Q9 (·.push kv))}) (λ_ _=>False) s->
   wpAny (model X.prog X.w) X.A.in1.in1 (body x ⟨⟩) (λr s'=>r=.yield ⟨⟩/\∃kv,C kv s') E s):
  ∀(xs ql:List D)(vs:List V)(us:List Value)(ks:List Value)(kvs:List V)(Fx:List D)(e:Nat)(H:Hp)(s:Shared),mapR (λx=>G j [x]) xs=.ok ql->Inv X pins Y H s->Th O H->qM p (fz O H) xs vs->Vals vs us->zH X pins H Dd->zH X pins H kS->s.heap.get? Dd=Qa oD->s.heap.get? kS=Qa (JV "list" (QP ks) e)->
   qM p (fz O H) Fx kvs->Vals kvs ks->ks.length+xs.length<64->
   wpAny (model X.prog X.w) X.A.in1.in1 (forIn us Zn body) (λ_ s'=>∃xQ Dp e' H',Inv X pins Y H' s'/\Ext H H'/\zH X pins H' Dd/\zH X pins H' kS/\s'.heap.get? Dd=Qa oD/\s'.heap.get? kS=Qa (JV "list" (QP xQ) e')/\qM p (fz O H') (Fx++ql) Dp/\Vals Dp xQ) E s
 |[],ql,vs,us,ks,kvs,Fx,e,H,s,hm,I,t,rx,rv,fD,fk,gD,gk,rk,X1,hz=>by cases hm;cases rx;cases rv;rw[Zw];exact Qf ⟨ks,kvs,e,H,I,Ext.refl _,fD,fk,gD,gk,by simpa using rk,X1⟩
 |x::xs,ql,vs,us,ks,kvs,Fx,e,H,s,hm,I,t,rx,rv,fD,fk,gD,gk,rk,X1,hz=>by
  refine qL (A3 hm) λkd kr e1 e2 zz=>?_;subst zz;refine qL rx λv vr zz RK RM=>?_;subst zz;cases rv with
  |cons ru rr=>
  rename_i u ur;rw[VE];rw[QG]at hz;refine Qb (Qi (P0 u ks e s (λkv s'=>∃v' H',Inv X pins Y H' s'/\Ext H H'/\zH X pins H' Dd/\zH X pins H' kS/\s'.heap.get? Dd=Qa oD/\(∃e',s'.heap.get? kS=Qa (JV "list" (QP (ks++[kv])) e'))/\RelV v' kv/\Rep p (fz O H') kd v') ∅
   (Qi (bK (X:=Oz X) (k:=k) (j:=j) (f:=f) (fd:=fd) (ps:=ps) (ds:=[x]) (vs:=[v]) (us:=[u]) (O:=O) F hr hb (sa (q4h I) fD fk gD gk dD (λv z=>by cases z)) (.cons ru .nil) nd t ⟨v,[],rfl,RK,rfl⟩ (h1 _ (by rw[e1];simp)) (by rw[e1];simp)) (λkv s1 h=>?_) (λe' s' zz=>qR zz λc z _=>by rw[e1]at z;cases z))) (λq s' hq=>?_) λ_ _ z=>z)
  .refine qi h λd' v' H1 g1 I1 xX x1 q1=>?_;rw[e1]at g1;cases g1;have pD:=I1.pin (Dd,oD) (Ql _ (Ql _ (by simp)));have pk:=I1.pin (kS,JV "list" (QP ks) e) (Ql _ (Ql _ (by simp)));have IS:=q4l I.ok I1.w5;have iq:=Eu fk pk.2.1;refine je (id iq) λg0 g1 g2 g3 g4 g5=>?_;have sb:=Js s1.heap kS (Q9 (·.push kv));have ea:(QP ks).push kv=QP (ks++[kv]):=(by simp);refine⟨pk.1,v',H1,IS.turned (λb o hb e=>(sb.2 b hb).trans e) g0 g1 g3 g4 g5,x1,Eu fD pD.2.1,iq,(sb.2 _ jB).trans pD.1,⟨_,by rw[<-ea];exact Yw pk.1 (·.push kv)⟩,xX,q1⟩
  .obtain⟨rfl,kv,v',H1,I1,x1,fD1,fk1,DD,⟨e',gk1⟩,xX,q1⟩:=hq;refine Qi (nr F hr hb h1 nd jB dD P0 xs kr vr ur (ks++[kv]) (kvs++[v']) (Fx++[kd]) e' H1 s' e2 I1 (t.ext x1) (RM.mono (zO x1)) rr fD1 fk1 DD gk1 ((rk.mono (zO x1)).snoc q1) (X1.append (.cons xX .nil)) (by simp;lia)) (λ_ CZ h=>?_) λ_ _ z=>z;refine LR h λxQ Dp e3 H' I' x' a1 a2 a3 a4 a5 a6=>?_;exact⟨xQ,Dp,e3,H',I',x1.trans x',a1,a2,a3,a4,by simpa using a5,a6⟩
def nj{A:Around}{E:NZ}{P:PySem.Fin->Shared->Prop}{st:SortSt}{e:Nat}{ks out:List Value}(I:Inv X pins Y H s)(fD:zH X pins H Dd)(fk:zH X pins H kS)(jB:Dd≠kS)
  (gD:s.heap.get? Dd=Qa (JV "list" #[] e1)) (gk:s.heap.get? kS=Qa (JV "list" (QP ks) e)) (q4T:(arrOf st).map (·.2)=QP out) (hz:out.length<64) (hkz:ks.length<64) (hf:failedOf st=Qg)
  (h:∀h' e2,Inv X pins Y H {s with heap:=h'}->h'.get? Dd=Qa (JV "list" (QP out) e2)->P (.done (.ret .none)) {s with heap:=h'}):wpAny (model X.prog X.w) A (ksk_tail Dd Qh e1 (.ref kS) st) P E s:=by
 refine je fk λk0 k1 k2 k3 k4 k5=>?_;refine je fD λd0 d1 d2 d3 d4 d5=>?_;have s1:=Js s.heap kS (Q9 λ_=>(#[]:Array Value));have I1:Inv X pins Y H {s with heap:=s.heap.update kS (Q9 λ_=>(#[]:Array Value))}:=I.turned (t':=s.toks) (λb o hb e=>(s1.2 b hb).trans e) k0 k1 k3 k4 k5;have DD:(s.heap.update kS (Q9 λ_=>(#[]:Array Value))).get? Dd=Qa (JV "list" #[] e1):=(s1.2 _ jB).trans gD;have I2:Inv X pins Y H {s with heap:=(s.heap.update kS (Q9 λ_=>(#[]:Array Value))).update Dd (Q9 λ_=>QP out)}:=I1.turned (t':=s.toks) (λb o hb e=>((Js (s.heap.update kS (Q9 λ_=>(#[]:Array Value))) Dd (Q9 λ_=>QP out)).2 b hb).trans e) d0 d1 d3 d4 d5;obtain⟨e2,g2⟩:∃e2,((s.heap.update kS (Q9 λ_=>(#[]:Array Value))).update Dd (Q9 λ_=>QP out)).get? Dd=Qa (JV "list" (QP out) e2):=⟨_,Yw DD λ_=>QP out⟩
 unfold ksk_tail;dsimp only;rw[q4T];refine Qb (Uw gk rfl (Qb (Vy (Qb (Wr DD rfl (Qb (Uw DD rfl ?_ (QV _) ?_)))))) (by rw[QB,Jk];lia) (QV _))
 .rw[hf];simp;exact Qf (h _ e2 I2 g2)
 .show (QP out).size<=_;rw[QB,Jk];lia
def q5R{E:NZ}{P:PySem.Fin->Shared->Prop}{e:Nat}{ks:List Value}{kvs:List V}(hK:p.K=X.K)(hu:X.A.units+64<cLine)(so:SoOk ql)(kd:(∀d∈ql,Xc d=Qd)\/∀d∈ql,jq d=Qd)
  (I:Inv X pins Y H s) (fD:zH X pins H Dd) (fk:zH X pins H kS) (jB:Dd≠kS) (gD:s.heap.get? Dd=Qa (JV "list" #[] e1)) (gk:s.heap.get? kS=Qa (JV "list" (QP ks) e)) (rk:qM p (fz O H) ql kvs) (X1:Vals kvs ks) (hl:ks.length=us.length)
  (h:∀q h' e2,qo.Pm q ql.length->qo.Up (wg ql) q ql.length->Inv X pins Y H {s with heap:=h'}->h'.get? Dd=Qa (JV "list" (QP (qo.pick q us Jr)) e2)->P (.done (.ret .none)) {s with heap:=h'}):
  wpAny (model X.prog X.w) X.A.in1.in1 (ksk_end Dd Qh us.toArray e1 (.ref kS) (QP ks)) P E s:=by
 have PA:=rk.length.trans X1.length;have DK:=so.len;unfold ksk_end;dsimp only;rw[if_neg (by decide)]
 by_cases h2:us.toArray.size<2
 .rw[if_pos h2,if_pos h2];refine Qb (Qf ?_);rw[StateT.run_pure];refine Qb (Qf ?_);have wx:us.length<2:=by simpa using h2
  have eo:(((QP ks).zip us.toArray).map λx=>x.2)=us.toArray:=by apply UK.mp;simp[List.map_snd_zip (show us.length<=ks.length by lia)]
  refine nj (out:=us) I fD fk jB gD gk ?_ ∅ ∅ rfl λh' e2 I' g'=>h (QP (Qt us.length)) h' e2 (by rw[(PA.trans hl)];exact qo.bE) (λi j vj hj=>by lia) I' (by rw[(qo.Ad us _)];exact g');exact eo
 .have wx:2<=us.length:=by have:¬us.length<2:=(by simpa using h2);lia
  rw[if_neg h2,if_neg h2];have lW:2<=ks.length:=∅
  refine uV (qo.q0c (PA▸so.ord) lW) λbX Ax bY=>?_;have kk:=SJ (prog:=X.prog) (w:=X.w) (A:=X.A.in1.in1) (s:=s) (us:=ks) (by show X.A.units+1+1+8<cLine;lia) so kd ((vP hK I).2 ql kvs ks (rk.mono qu) X1) lW;refine Qb (Qi kk (λκ s4 h4=>?_) λ_ _ x=>x.elim);obtain⟨rfl,ask⟩:=h4;rw[show(if(Qh=Qd)then((QP ks).zip us.toArray).reverse else(QP ks).zip us.toArray)=(QP ks).zip us.toArray from rfl];refine Qb (Qi (kat_run (Q:=λst s5=>s5=s4/\arrOf st=(qo.run (wg ql) (YY us.length)).map (kas_item ((QP ks).zip us.toArray))/\failedOf st=Qg) (G:=λp s5=>p=qo.run (wg ql) (YY us.length)/\s5=s4) hl wx ∅ (λp st s5 a1 a2 a3 a4=>⟨a4.2,by rw[a2,a4.1],a3⟩) (by rw[<-hl];exact qo.cN ask _ bX ⟨rfl,rfl⟩)) ?_ λ_ _ x=>x);rintro⟨⟨⟩,st⟩ s5 ⟨rfl,OF,hf⟩;have q0V:qo.Pm (qo.run (wg ql) (YY us.length)) ql.length:=by rw[<-hl,PA];exact Ax
  exact nj (out:=qo.pick (qo.run (wg ql) (YY us.length)) us Jr) I fD fk jB gD gk (kat_snds hl OF) (by rw[qo.RI q0V];lia) ∅ hf λh' e2 I' g'=>h _ h' e2 q0V (by rw[<-hl,PA];exact bY) I' g'
def q5B(d:D):j9 d=.q9\/∃r,j9 d=.ok r:=by
 unfold j9;split<;>first
  |exact .inr ⟨_,rfl⟩
  |exact .inl rfl
  |(split<;>first|exact .inr ⟨_,rfl⟩|exact .inl rfl)
def q8i{k:Nat}(hK:p.K=X.K)(hc:X.calm=Qd)(hu:X.A.units+64<cLine)(F:FnOk X.prog X.w X.K X.mg X.base (j5 X.prog X.w) k f fd ps (yO p G j ps.length))(hr:Room k X.A.in1.in1)(hb:Binds X.K fd ps [])(h1:∀ds,G j ds≠.q9->ds.length=ps.length)
  (OJ:Gl X fn) (OT:X.mg fn=Qa (.ref f)) (ub:(fn==("__debug__":Str))=Qh) (hg:Gl X "sorted") (hm:X.mg "sorted"=Qg) (ha:SB X p G sub a la) (qX:Q5 [a] X.env=[(Qh,Jw a X.env)]):
  SE X p G sub (.Call (.Name "sorted" q) [a] [⟨Qa "key",.Name fn q2,q3⟩] pos) (.skey la j):=by
 intro pins s Y H Z os I R hs;rw[iV]at hs|-;refine Je (jr I hg hm YV ?_ (by decide) (by decide));refine WG ?_ (by rw[qX];rfl) (by rw[qX];rfl) rfl rfl;refine Ca ha qX I R (z7 hs) (λu s1 h=>?_) (λe s' z=>z.bind);refine qi h λd v H1 e1 I1 r1 x1 q1=>?_;rw[e1,qB]at hs|-;refine Vf (uu I1 OJ OT (W7 ?_) ub);rcases q5B d with hi|⟨xs,hi⟩
 .rw[hi]at hs;cases hs rfl
 rw[hi,qB]at hs|-;obtain⟨ql,Tr⟩:=AH hs;rw[Tr,vw,qB]at hs|-;have uh:ji ql=Qd:=by
  cases z:ji ql with
  |true=>rfl
  |false=>rw[z,if_neg (by simp)]at hs;cases hs rfl
 rw[uh,if_pos rfl];obtain⟨sk,kd⟩:=Cd uh;have mL:=aE Tr;have R1:=R.ext x1;refine qV (q1C (E:=Er X p pins Y H (Ev.R.ok (D.q6 ((kz (ql.zip xs)).map (·.2))))) hK hc (A:=X.A.in1) (I.ok.hd hc) I1 r1 q1 hi) λvs rx hz DL=>?_;have XT:=rx.length;have DK:=sk.len;show wpAny _ _ (call (.builtin "sorted") [u] [(Qy "key",.ref f)]) _ _ s1;refine PyProof.Rows.call_function_entry_kw kind_sorted plain_sorted entry_sorted (ksk_s1 _ _) ?_;unfold Ua.«sorted»;refine Qb (m:=checkCount "sorted" 1 1 _) (Qf (Qb (DL _ λus wu tk w0 k1=>?_)));have hlu:=w0.length;have Xw:us.length<=QI:=by rw[Jk];lia
 refine Qb (VF ?_ Xw);have I2:Inv X pins Y H1 {s1 with heap:=wu,toks:=tk}:=I1.kept k1;have a9:=I2.lt;generalize hDd:wu.objs.size=Dd at a9;have nD:s1.heap.get? Dd=Qg:=by
  cases z:s1.heap.get? Dd with
  |none=>rfl
  |some o=>exact absurd (Qu (k1 _ _ z)) (by rw[hDd];exact Jv _)
 have Ey:(wu.push {cls:=.type "list",data:=.seq us.toArray}).get? Dd=Qa (JV "list" us.toArray 0):=by rw[<-hDd];exact QH _ rfl
 refine Qb (Q4 (PyProof.Rows.wpAny_call_entry_kw slot_list_sort ⟨_,Ey,rfl⟩ entry_list_sort ?_ (ksk_l1 _ _)));rw[ksk_t1];unfold ksk_tree;obtain⟨LL,g1⟩:∃LL,((wu.push {cls:=.type "list",data:=.seq us.toArray}).update Dd (Q9 λ_=>(#[]:Array Value))).get? Dd=Qa (JV "list" #[] LL):=⟨_,Yw Ey λ_=>#[]⟩
 refine Qb (Zi Ey rfl (Qb (Uw Ey rfl (Qb (Wr g1 rfl (Qb (wpAny_newTuple ?_ Xw)))) (by simpa using Xw) (QV _))));refine Qb (VF ?_ (QV _));refine Q4 ?_;generalize hh3:(((wu.push {cls:=.type "list",data:=.seq us.toArray}).update Dd (Q9 λ_=>(#[]:Array Value))).push {cls:=.type "tuple",data:=.seq us.toArray.toList.toArray})=h3;generalize hkS:h3.objs.size=kS;have nz:∀b x,s1.heap.get? b=Qa x->h3.get? b=Qa x:=λb x z=>by
  have nb:b≠Dd:=λw=>by rw[w,nD]at z;cases z
  rw[<-hh3];exact Qk _ ((JM _ _ (JQ nb)).trans (Qk _ (k1 b x z)))
 have g3:h3.get? Dd=Qa (JV "list" #[] LL):=by rw[<-hh3];exact Qk _ g1
 have jg:Dd<kS:=by rw[<-hkS];exact Qu g3
 have nk:s1.heap.get? kS=Qg:=by
  cases z:s1.heap.get? kS with
  |none=>rfl
  |some o=>exact absurd (Qu (nz _ _ z)) (by rw[hkS];exact Jv _)
 have I4:Inv X pins Y H1 {s1 with heap:=h3.push {cls:=.type "list",data:=.seq ([]:List Value).toArray},toks:=tk}:=I1.kept λb x z=>Qk _ (nz b x z);have gk4:(h3.push {cls:=.type "list",data:=.seq ([]:List Value).toArray}).get? kS=Qa (JV "list" (QP []) 0):=by rw[<-hkS];exact QH _ rfl
 unfold ksk_rest;refine Qb (W2 ?_);rw[List.forIn_toArray];refine Qb (Qi (nr F hr hb h1 R1.nd (QK jg) (λv z=>by cases z) (λx ks e s' C Xb hx=>?_) xs ql vs us [] [] [] 0 H1 _ Tr I4 R1.th rx w0 (iz I1 nD a9) (iz I1 nk (WJ a9 jg)) (Qk _ g3) gk4 rfl .nil (by simp;lia)) (λ_ s5 hd=>?_) λ_ _ z=>z)
 .refine Qb (VG (Qi hx (λkv CZ⟨g,hC⟩=>?_) λ_ _ hF=>hF.elim));refine Qb (Uw g rfl (Qf ⟨rfl,kv,hC⟩) (by rw[QB,Jk];lia) ?_);rw[Array.size_push,QB,Jk];lia
 .refine LR hd λxQ Dp e' H' I' x' fD fk gD gk rk X1=>?_;rw[YL]at rk;refine Qb (Zi gk rfl ?_);refine q5R hK hu sk kd I' fD fk (QK jg) gD gk rk X1 ?_ λq h' e2 P U I5 g5=>⟨_,rfl,Qf ⟨_,rfl,?_⟩⟩
  .have:=rk.length;have:=X1.length;lia
  .have hxk:=rx.mono (zO x');have lt:∀i∈q.toList,i<xs.length:=λi hi=>by have:=P.perm.mem_iff.mp hi;rw[<-mL];exact QN.mp this
   have lt2:∀i∈q.toList,i<vs.length:=λi hi=>XT▸lt i hi;have I6:=q4d (o:=.q6 (qo.pick q vs .qE)) I5 fD ⟨by rw[qo.RI P,Jk];lia,_,_,bA w0 lt2,g5⟩;have aU:=fD.1;rw[<-q7I mL sk P U];refine⟨_,.ref Dd,_,rfl,I6,rfl,(x1.trans x').trans (Ext.upd aU),Dd,_,rfl,qv.of (Ew (R1.th.ext x') aU),(b9 hxk lt).mono (zO (Ext.upd aU))⟩
def DG(h:wK Z i≠.q9):∃m,Z[i]?=Qa (Qa (.jy m))/\wK Z i=.ok m:=by
 unfold wK at h|-;split at h
 .rename_i m e;exact⟨m,e,rfl⟩
 .cases h rfl
def L5(m:List (List Int×Int)):xk (yZ m)=Qa m:=by
 have ii:∀k:List Int,ints? (k.map D.int)=Qa k:=λk=>by
  induction k with
  |nil=>rfl
  |cons i k ih=>simp[ints?,ih]
 unfold xk yZ;show xk.go (m.map λx=>.qA (x.1.map .int)) (m.map λx=>.int x.2)=Qa m
 induction m with
 |nil=>rfl
 |cons p m ih=>
  obtain⟨k,v⟩:=p;rw[Qw,Qw,xk.go,ii];simp only[Option.bind_some,ih,Uk]
def q9b(hi:X.N[i]?=Qa x)(hv:kA X.env.scope x)(hd:(x==("__debug__":Str))=Qh)(z8:(x==("__classdict__":Str))=Qh):SS X p G sub (.Return (Qa (.Name x q)) pos) (.retF i):=by
 intro H0 O0 E hp pins s Y H Z os I B hs hE;rw[q39]at hs hE|-;have lt:i<Z.length:=by rw[<-B.jE,I.len];exact(Qj.mp hi).1
 have wk:Inv X pins (Y.set i Qg) H s:=I.weak (by simp) λj v e=>by
  by_cases c:i=j
  .subst c;rw[Yd (by rw[B.jE];exact lt)]at e;cases e
  .rw[Yp c]at e;exact e
 refine qR (DG (zx hs)) λm hρ hg=>?_;rw[hg];refine TL (B.at hρ) λy as s1 s2 a qe qf h1=>?_;subst qe qf;have mo:a∈os.flatten:=Ju.mpr ⟨[a],Qz s2,by simp⟩;refine Vw (vv I hi hv s1 hd z8 λu r=>?_);cases r;exact⟨_,.wU (yZ m),_,_,H,rfl,B.X2 (y:=Qg) lt,wk,a,m,rfl,rfl,B.new a mo,h1.mono (Ext.refl _) (xr λb hb=>by rw[ye];exact(Qo.mp hb).elim (λe=>QD _ (e▸mo)) λh=>Ql _ h)⟩
def q9h(hN:X.N.Nodup)(hi:X.N[i]?=Qa x)(hx:Loc X.env.scope x)(hf:X.fn x=Qd\/X.env.scope.names.lookup x=Qa .local)
  (F:FnOk X.prog X.w X.K X.mg X.base (j5 X.prog X.w) kk f fd ps (RV p G j ps.length)) (hr:Room kk X.A) (hg:Gl X fn) (hm:X.mg fn=Qa (.ref f)) (hk:Yt X.K (.ref f)=Qd) (hb:Binds X.K fd ps []) (ha:SA X p G sub (e::es) ls) (qT:∀ds,G j ds≠.q9->ds.length=ps.length)
  (XM:(fn==("__debug__":Str))=Qh) (he:Q5 (e::es) X.env=(Qh,Jw e X.env)::Q5 es X.env) (xH:(UO cp (Q5 es X.env)).any (·.1)=Qh):
  SS X p G sub (.Assign [.Name x jK] (.Call (.Name fn q) (e::es) [] cp) pos) (.setF i j ls):=by
 intro H0 O0 E hp pins s Y H Z os I B hs hE;dsimp only[ie]at hs hE|-;refine YA (Je (uu I hg hm ?_ XM)) rfl;refine F7 I.ok.mod.xP hk (Qi (ha cp pins s Y H Z _ I B.rel (zx hs)) (λus s1 zz=>qi zz λds vs H1 e1 I1 r1 x1 q1=>⟨I1.vU,?_⟩) (λe s' z=>hE e s' (jn B z))) he xH;rw[e1,qF]at hs hE|-;have B1:=B.mono x1;refine Qi (q7z F hr hb I1 r1 B1.rel.nd B1.rel.th q1 (qT ds (zx hs)) (zx hs)) (λu s2⟨m,a,H2,e2,I2,eu,x2,na,ll⟩=>?_) (λe s' z=>hE e s' (jn B1 z));subst eu;rw[e2,qF,L5];refine wY (v:=.ref a) I2 hN hi hx rfl (λs3 I3=>⟨_,.nx,_,_,_,rfl,B1.zY (by rw[<-B.jE,I.len];exact(Qj.mp hi).1) x2 (as:=[a]) (by simp) (λb hb=>?_) (λb hb=>?_) ⟨a,rfl,rfl,ll.mono (Ext.refl _) (xr λb hb=>?_)⟩,I3,trivial⟩) hf
 .rw[QE.mp hb];exact na
 .obtain⟨xs,h,_⟩:=ll;rw[QE.mp hb];exact⟨_,h⟩
 .rcases QA.mp hb with h|h
  .exact Qc _ h
  .rw[QE.mp h];exact Qe
open PySem.AutoSeq1 (wpAny_loadPart')
def q3I(l:Addr)(items:Array Value)(n:Nat)(b:Addr)(kl:Array Value)(n2:Nat)(sl:Array (Option Value))(hc0:¬(!items.isEmpty&&Yh (items.size+kl.size))=Qd)(wy:items.size<=QI)(xy:items.size+kl.size<=QI+1):
  Meets (Ua.«list.extend» ⟨[.ref l,.ref b],[]⟩) (λ_ R s=>s.heap.get? l=Qa {cls:=.type "list",dict:=Qg,data:=.seq items n,slots:=#[]}/\s.heap.get? b=Qa {cls:=.type "list",dict:=Qg,data:=.seq kl n2,slots:=sl}/\R (.ok (.ret Jr)) {s with heap:=s.heap.update l (Q9 λx=>x++kl),toks:=s.toks}):=
 .of_wp λprog w A R s h=>by
  obtain⟨hp,g,d,tk,os⟩:=s;obtain⟨hl,hb,h⟩:=h;have f1:=AutoSeq1.idx_int;have f2:=U4;have f3:=AutoSeq1.sub_list_list;have f4:=AutoSeq1.sub_tuple_list;have f5:=AutoSeq1.sub_list_tuple
  wp_walk using(Vb hl rfl (_hz':=(by rw[Array.size_append];exact xy))),Ux hl,Ux hb
  exact⟨_,rfl,h⟩
def q3H{l b:Addr}{xs zs:List V}(I:Inv X pins Y H s)(hH:H l=Qa (.q6 xs))(hB:qv X.K H b zs)(hz:xs.length+zs.length<=QI):
  wpAny (model X.prog X.w) X.A (call (.builtin "list.extend") [.ref l,.ref b]) (λ_ s'=>Inv X pins Y (upd H l (.q6 (xs++zs))) s') E s:=by
 refine q2p (I.Sy hH) λz its n r hl e=>?_;obtain⟨yi,r2,⟨⟨c2,d2,da2,w4⟩,n2,e2,jH,hd2,hda2⟩,z2⟩:=I.list hB;simp only at jH hd2 hda2;subst jH hd2 hda2;have vk:=r2.length;have hsz:its.toArray.size+yi.toArray.size<=QI:=by rw[QB,QB];lia
 have q4N:¬(!its.toArray.isEmpty&&Yh (its.toArray.size+yi.toArray.size))=Qd:=by rw[q6X hsz,VS];exact Wf
 refine UX Zo ⟨_,e,rfl⟩ PySem.F.entry_list_extend (PySem.F.args_list_extend_2 _ _) (q3I l its.toArray n b yi.toArray n2 w4 q4N (by rw[QB];lia) ∅) ⟨e,e2,?_⟩;refine I.Sv hH e (by simp) (r.append r2) ?_;rw[QT];lia
def q9U(hK:p.K=X.K)(hi:X.N[i]?=Qa x)(hv:kA X.env.scope x)(hd:(x==("__debug__":Str))=Qh)(z8:(x==("__classdict__":Str))=Qh)(ha:SE X p G sub a l)
  (qX:Q5 [a] X.env=[(Qh,Jw a X.env)]) (zo:(ap.endLine==cp.line)=Qd):SS X p G sub (.Expr (.Call (.Attribute (.Name x q) "extend" ap) [a] [] cp) pos) (.ext i l):=by
 intro H0 O0 E hp pins s Y H Z os I B hs hE;rw[ia]at hs hE|-;split at hs
 .rename_i xs hρ;simp only[hρ]at hE|-;refine LP (B.at hρ) λy as s1 s2 a' qe qf vs s5 s6=>?_;subst qe qf;refine Wm (YS rfl (by rw[qX];rfl) zo rfl (vv I hi hv s1 hd z8 λu r=>?_)) I.quiet rfl;cases r;obtain⟨h1,h2⟩:=Cu (T:="list") (x:=.ref a') I rfl (.inl ⟨rfl,_,qv.of s5⟩);refine⟨"list","list.extend",Yu,Zo,PySem.F.type_list_extend,h1,h2,?_⟩;rw[qX];refine JL rfl (Yo ?_);refine QW (Qi (ha pins s Y H Z _ I B.rel (zx hs)) (λv s3 zz=>qi zz λd x' H1 e1 I1 r1 x1 q1=>Q0 ?_) (λe s' z=>hE e s' (jn B z)));rw[e1,qF]at hs hE|-;obtain⟨ys,rfl⟩:=zL hs;dsimp only at hs hE|-;have z:xs.length+ys.length<=big:=by
   by_cases z:xs.length+ys.length<=big
   .exact z
   .rw[if_neg z]at hs;cases hs rfl
  rw[if_pos z];refine qL q1 λb us zz sq q3=>?_;subst zz;cases r1;have l1:=s6.length;have l2:=q3.length;refine Qi (q3H I1 (x1 _ _ s5) (hK▸qu.wX sq) (Qx ∅ vh)) (λw s4 I2=>?_) (λ_ _ z=>z);exact⟨_,.nx,Y,os,_,rfl,(B.mono x1).write s1 s2 (by simp) ⟨a',rfl,rfl,_,zr,(s6.mono (zO x1)).append q3⟩,I2,trivial⟩
 .cases hs rfl
theorem nW{P:Program}{w:World}:∀{ks:List Int}{us:List Value},Vals (ks.map V.int) us->ItemsAre (Uq P w) ks us
 |[],_,r=>by rw[Y9]at r;cases r;exact .nil
 |k::ks,_,r=>by
  rw[Qw]at r;cases r with
  |cons h t=>
   obtain⟨t',rfl⟩:=h;exact .cons (by simp[Uq,Vd]) (nW t)
theorem fP{p:Pm}{Hf:Hp}:∀{m:List (List Int×Int)}{xs:List Te},wa p Hf m xs->∀x∈xs,zZ p.K Hf x.2.1 (x.1.map V.int)
 |[],xs,h=>by cases h;exactλx hx=>absurd hx (by simp)
 |q::m,xs,h=>by
  refine XF h λb t r zz s h2=>?_;subst zz;intro x hx;rcases Qo.mp hx with rfl|hx
  .exact s
  .exact fP h2 x hx
theorem fQ{p:Pm}{Hf:Hp}:∀{m:List (List Int×Int)}{xs:List Te},wa p Hf m xs->m.length=xs.length
 |[],xs,h=>by cases h;rfl
 |q::m,xs,h=>by refine XF h λb t r zz s h2=>?_;subst zz;simp[fQ h2]
theorem Fu{p:Pm}{Hf:Hp}:∀{m:List (List Int×Int)}{xs:List Te},wa p Hf m xs->(∀v,zu m k=Qa v->∃b t,UT xs k=Qa (b,.int v t))/\(zu m k=Qg->UT xs k=Qg)
 |[],xs,h=>by cases h;exact⟨λv e=>by simp[zu]at e,λ_=>rfl⟩
 |(j,u)::m,xs,h=>by
  refine XF h λb t r zz s h2=>?_;subst zz;obtain⟨i1,i2⟩:=Fu h2;rw[zu]
  by_cases c:j=k
  .have e:UT (((j,u).1,b,Y5 (j,u).2 t)::r) k=Qa (b,.int u t):=(by simp[UT,JR,c]);rw[if_pos c,e];exact⟨λv q=>by cases q;exact⟨b,t,rfl⟩,λq=>by cases q⟩
  .have e:UT (((j,u).1,b,Y5 (j,u).2 t)::r) k=UT r k:=(by simp[UT,JR,c]);rw[if_neg c,e];exact⟨i1,i2⟩
theorem fR{p:Pm}{Hf:Hp}{v:Int}{t:Tok}(sq:zZ p.K Hf b (k.map V.int)):∀{m:List (List Int×Int)}{xs:List Te},wa p Hf m xs->(xs.map (·.1)).Nodup->wa p Hf (jm m k v) (storedH xs k b (.int v t))
 |[],xs,h,_=>by cases h;exact⟨b,t,[],rfl,sq,rfl⟩
 |(j,u)::m,xs,h,nd=>by
  refine XF h λb' t' r zz s h2=>?_;subst zz;rw[Qw,QQ]at nd;rw[jm]
  by_cases c:j=k
  .subst c;have e:UT (((j,u).1,b',Y5 (j,u).2 t')::r) j=Qa (b',.int u t'):=(by simp[UT,JR]);rw[if_pos rfl,storedH_old e,Qw,map_putAt_of_not_mem r j _ nd.1];exact⟨b',t,r,by simp[putAt],s,h2⟩
  .have e:UT (((j,u).1,b',Y5 (j,u).2 t')::r) k=UT r k:=(by simp[UT,JR,c]);have ih:=fR (v:=v) (t:=t) sq h2 nd.2;rw[if_neg c];refine⟨b',t',storedH r k b (.int v t),?_,s,ih⟩;unfold storedH;rw[e];split
   .rw[Qw];congr 1;simp[putAt,c]
   .rfl
def q0n{a:Addr}(h1 h2:Heap)(h:TD a xs h1)(k:∀o,h1.get? a=Qa o->h2.get? a=Qa o):TD a xs h2:=
 let⟨ne,o,es,ep,g1,g⟩:=h;⟨ne,o,es,ep,k o g1,g⟩
def Dj(h:vo d≠.q9):∃ds k,d=.qA ds/\ints? ds=Qa k/\vo d=.ok k:=by
 unfold vo at h|-;split at h
 .rename_i ds;split at h
  .rename_i k e;exact⟨ds,k,rfl,e,by simp[e]⟩
  .cases h rfl
 .cases h rfl
theorem nJ{p:Pm}{H:Hp}:∀{ds:List D}{k:List Int}{vs:List V},ints? ds=Qa k->qM p H ds vs->vs=k.map V.int
 |[],k,vs,e,r=>by cases e;cases r;rfl
 |d::ds,k,vs,e,r=>by
  obtain⟨v,r',rfl,h1,h2⟩:=r;cases d<;>first
   |(simp[ints?]at e;done)
   |skip
  rename_i i;rw[ints?]at e;obtain⟨k',e1,e2⟩:=oM e;cases e2;cases h1;rw[nJ e1 h2];rfl
section
variable{a b:Addr}{m:List (List Int×Int)}{k:List Int}
def Dk(I:Inv X pins Y H s)(sq:zZ X.K H b (k.map V.int)):(UW (Uq X.prog X.w)).is s.heap k b:=by obtain⟨its,rv,⟨o,e,c,n,hd⟩,_⟩:=I.tuple sq;exact⟨o,its.toArray,n,e,c,hd,by simpa using nW rv⟩
def CL(hK:p.K=X.K)(I:Inv X pins Y H s)(h:yv p H Hf a m)(x:Ext Hf H):∃xs,H a=Qa (.ext (TD a xs))/\wa p Hf m xs/\(a==J1)=Qh/\s.heap.DictOfH (UW (Uq X.prog X.w)) a xs/\∀c,Y6 a=.ref c->∃ob,s.heap.get? c=Qa ob/\ob.dict=Qg:=by
 refine qR h λxs h1 h2=>?_;obtain⟨⟨ne,o,es,ep,g1,g2,g3,g4,g5⟩,_,_⟩:=(I.qI a _ h1)
 exact⟨xs,h1,h2,ne,⟨o,es,ep,g1,g2,g3,g4,λy hy=>Dk I (hK▸x.jT (fP h2 y hy)),g5⟩,λc e=>by cases e;exact⟨o,g1,g2.2.1⟩⟩
def GU{y:V}(hq:vo d=.ok k)(r:RelV y u)(q:Rep p Hf d y):∃b,y=.ref b/\u=.ref b/\zZ p.K Hf b (k.map V.int):=by obtain⟨ds,k',rfl,e,e2⟩:=Dj (by rw[hq];simp);rw[hq]at e2;cases e2;refine zK q λb vs zz sq _ rl=>?_;subst zz;have:=nJ e rl;subst this;exact⟨b,rfl,r,sq⟩
def q2C{t':Nat}{IJ:List Te}(I:Inv X pins Y H s)(h1:H a=Qa (.ext (TD a xs)))(ne:(a==J1)=Qh)(dd:h'.DictOfH (UW (Uq X.prog X.w)) a IJ)(hs:JE a s.heap h'):Inv X pins Y (upd H a (.ext (TD a IJ))) {s with heap:=h',toks:=t'}:=by obtain⟨o,es,ep,g1,g2,g3,g4,_,g5⟩:=dd;exact Ea I (by rw[h1];exact U3) hs ⟨o,g1⟩ ⟨⟨ne,o,es,ep,g1,g2,g3,g4,g5⟩,⟨o,g1⟩,q0n⟩
def q9S(hN:X.N.Nodup)(hi:X.N[i]?=Qa x)(hx:Loc X.env.scope x)(hf:X.fn x=Qd\/X.env.scope.names.lookup x=Qa .local):
  SS X p G sub (.Assign [.Name x jK] (.Dict [] [] Ah) pos) (.setC i):=by
 intro H0 O0 E hp pins s Y H Z os I B hs hE;have hn:H s.heap.objs.size=Qg:=I.qI.fresh (Qs _);have hg:(s.heap.push {cls:=.type "dict",data:=.dict #[]}).get? s.heap.objs.size=Qa {cls:=.type "dict",data:=.dict #[]}:=QH _ rfl;have I1:=I.laid (a:=s.heap.objs.size) (o:=.ext (TD s.heap.objs.size [])) (h':=s.heap.push {cls:=.type "dict",data:=.dict #[]}) (t':=s.toks) (λ_ _ q=>Qk _ q) (Qs _)
  ⟨⟨beq_eq_false_iff_ne.mpr (JQ (QK I.big)),_,#[],0,hg,⟨rfl,rfl,rfl⟩,rfl,rfl,Y0⟩,⟨_,hg⟩,q0n⟩
 refine YA ?_ rfl;rw[eval_Dict_empty];refine Qb (WS (JF ?_));refine wY (v:=.ref s.heap.objs.size) I1 hN hi hx rfl (λs3 I4=>⟨_,.nx,_,_,_,rfl,B.zY (by rw[<-B.jE,I.len];exact(Qj.mp hi).1) (Ext.upd hn) (as:=[s.heap.objs.size]) (by simp) (λa ha=>?_) (λa ha=>?_) ⟨_,rfl,rfl,[],zr,rfl⟩,I4,trivial⟩) hf
 .rw[QE.mp ha];exact hn
 .rw[QE.mp ha];exact⟨_,zr⟩
theorem Rel.jy(r:Rel p Z Y os H)(h:Z[i]?=Qa (Qa (.jy m))):∃a,Y[i]?=Qa (Qa (.ref a))/\yv p H (fz os.flatten H) a m:=by refine TL (FR r.slots h) λy as e1 _ a e2 _ h2=>?_;exact⟨a,by rw[e1,e2],h2⟩
def q8Q{k:QC}(hK:p.K=X.K)(hu:X.A.units+64<cLine)(hi:X.N[i]?=Qa x)(hv:kA X.env.scope x)(hd:(x==("__debug__":Str))=Qh)(z8:(x==("__classdict__":Str))=Qh)(hk:SE X p G sub k lk)(hs:E7 k):
  SE X p G sub (.Subscript (.Name x q) k pos) (.idxC i lk):=by
 intro pins s Y H Z os I R hn;dsimp only[iO]at hn|-;refine qR (DG (z7 hn)) λm hρ hg=>?_;rw[hg,qB]at hn|-;refine qR (R.jy hρ) λa s1 ho=>?_;refine qA5 PySem.F.slot_dict_getitem.lookup hs (vv I hi hv s1 hd z8 λu r=>?_);cases r;refine Qi (hk pins s Y H Z os I R (z7 hn)) (λu2 t2 zz=>qi zz λd2 y2 H2 e2 I2 r2 x2 q2=>?_) (λe s' z=>z.bind);rw[e2,qB]at hn|-;refine qL (Dj (z7 hn)) λds kk _ _ ek=>?_;rw[ek,qB]at hn|-;refine qV (GU ek r2 q2) λb qe qf sq=>?_;subst qe qf;refine xm (CL hK I2 (ho.mono x2 (zO x2)) qu) λxs h1 h2 ne dd _=>?_;cases hc:zu m kk with
 |none=>rw[hc]at hn;cases hn rfl
 |some v=>
  obtain⟨b',t',ha⟩:=(Fu h2).1 v hc;refine⟨dd.typeIs,WZ (J2 ∅) (Dk I2 (hK▸qu.jT sq)) dd ha ?_⟩;exact⟨.int v,.int v,H2,rfl,I2.tok _,⟨t',rfl⟩,x2,rfl⟩
def q8P{k d:QC}{ld:L}(hK:p.K=X.K)(hu:X.A.units+64<cLine)(hi:X.N[i]?=Qa x)(hv:kA X.env.scope x)(hd:(x==("__debug__":Str))=Qh)(z8:(x==("__classdict__":Str))=Qh)(hk:SE X p G sub k lk)(hde:SE X p G sub d ld)
  (qX:Q5 [k,d] X.env=[(Qh,Jw k X.env),(Qh,Jw d X.env)]) (zo:(ap.endLine==cp.line)=Qd):SE X p G sub (.Call (.Attribute (.Name x q) "get" ap) [k,d] [] cp) (.getC i lk ld):=by
 intro pins s Y H Z os I R hn;rw[iN]at hn|-;refine qR (DG (z7 hn)) λm hρ hg=>?_;rw[hg]at hn|-;refine qR (R.jy hρ) λa s1 ho=>?_;refine YS rfl (by rw[qX];rfl) zo rfl (vv I hi hv s1 hd z8 λu r=>?_);cases r;refine xm (CL hK I ho qu) λxs h1 h2 ne dd nod=>?_;refine⟨"dict","dict.get",PySem.F.plainAttrs_dict,ZU,PySem.F.type_dict_get,dd.typeIs,nod,?_⟩;rw[qX];refine JL rfl (Yo ?_);refine QW (Qi (hk pins s Y H Z os I R (z7 hn)) (λu2 t2 zz=>qi zz λd2 y2 H2 e2 I2 r2 x2 q2=>?_) (λe s' z=>z.bind));rw[e2]at hn|-;refine QW (Qi (hde pins t2 Y H2 Z os I2 (R.ext x2) (z7 hn)) (λu3 t3 zz=>qi zz λd3 y3 H3 e3 I3 r3 x3 q3=>Q0 ?_) (λe s' z=>z.bind.ext x2));rw[e3]at hn|-;cases d3<;>first
  |cases hn rfl
  |skip
 rename_i dv;replace hn:(vo d2).bind (λk=>Ev.R.ok (D.int ((zu m k).getD dv)))≠.q9:=hn;show wpAny _ _ _ (Gd X p pins Y os H ((vo d2).bind λk=>Ev.R.ok (D.int ((zu m k).getD dv)))) _ _;refine qL (Dj (z7 hn)) λds kk _ _ ek=>?_;rw[ek];refine qV (GU ek r2 (q2.mono (zO x3))) λb qe qf sq=>?_;subst qe qf;cases q3;obtain⟨t3',rfl⟩:=r3;refine xm (CL hK I3 (ho.mono (x2.trans x3) (zO (x2.trans x3))) qu) λxs3 h13 lV ne3 gj _=>?_;refine call_meetsIn ZU gj.typeIs PySem.F.entry_dict_get (PySem.F.args_dict_get_3 _ _ _) (meetsH_dict_get_default (UW (Uq X.prog X.w)) a b ne3 (.int dv t3')) ⟨J2 ∅,kk,xs3,Dk I3 (hK▸qu.jT sq),gj,?_⟩;refine⟨_,.int ((zu m kk).getD dv),H3,rfl,I3.tok _,?_,x2.trans x3,rfl⟩;cases hc:zu m kk with
 |none=>rw[(Fu lV).2 hc];exact⟨t3',rfl⟩
 |some v=>
  obtain⟨b',t',ha⟩:=(Fu lV).1 v hc;rw[ha];exact⟨t',rfl⟩
def eQ{v:Int}(hK:p.K=X.K)(hu:A.units+64<cLine)(I:Inv X pins Y H s)(h:yv p H Hf a m)(x:Ext Hf H)(sq:zZ p.K Hf b (k.map V.int))(hl:m.length<big)
  (hq:∀xs s',Inv X pins Y (upd H a (.ext (TD a xs))) s'->wa p Hf (jm m k v) xs->Q () s'):wpAny (model X.prog X.w) A (setItem (.ref a) (.ref b) (.int v t)) Q E s:=by
 refine xm (CL hK I h x) λxs h1 h2 ne dd _=>?_;have hz:xs.length<=QI:=by rw[<-fQ h2];exact Qx (UB hl) vh
 refine wpAny_setItem_heap (J2 ∅) (Dk I (hK▸x.jT sq)) dd λh' uS hs=>hq _ _ (q2C I h1 ne uS hs) ?_;obtain⟨_,_,_,_,_,_,_,_,nd⟩:=dd;exact fR sq h2 nd
def q9R{k:QC}(hK:p.K=X.K)(hu:X.A.units+64<cLine)(hi:X.N[i]?=Qa x)(Dc:kA X.env.scope x)(hd:(x==("__debug__":Str))=Qh)(z8:(x==("__classdict__":Str))=Qh)(hk:SE X p G sub k lk)(hv:SE X p G sub v lv)
  (y9:Y1 v (Qa (.Subscript (.Name x q) k jK)) pos.line X.env=pure Qh):SS X p G sub (.Assign [.Subscript (.Name x q) k jK] v pos) (.putC i lk lv):=by
 intro H0 O0 E hp pins s Y H Z os I B hs hE;dsimp only[ic]at hs hE|-;refine wpAny_Assign_Subscript (Qi (hv pins s Y H Z _ I B.rel (zx hs)) (λu1 t1 zz=>qi zz λd1 y1 H1 e1 I1 r1 x1 q1=>?_) (λe s' z=>hE e s' (jn B z))) y9;rw[e1,qF]at hs hE|-;refine qR (DG (zx hs)) λm hρ hg=>?_;rw[hg,qF]at hs hE|-;have B1:=B.mono x1;refine TL (B1.at hρ) λy as s1 s2 a qe qf h1=>?_;subst qe qf;refine vv I1 hi Dc s1 hd z8 λu r=>?_;cases r;refine Qi (hk pins t1 Y H1 Z _ I1 B1.rel (zx hs)) (λu2 t2 zz=>qi zz λd2 y2 H2 e2 I2 r2 x2 q2=>?_) (λe s' z=>hE e s' (jn B1 z));rw[e2,qF]at hs hE|-;refine qL (Dj (zx hs)) λds kk _ _ ek=>?_;rw[ek,qF]at hs hE|-;refine qV (GU ek r2 q2) λb qe qf sq=>?_;subst qe qf;obtain⟨v1,rfl⟩:=zI hs;replace hs:(if m.length<big then RS.ok (Z.set i (Qa (.jy (jm m kk v1)))) .nx else .q9)≠.q9:=hs;have z:m.length<big:=by
  by_cases z:m.length<big
  .exact z
  .rw[if_neg z]at hs;cases hs rfl
 cases q1;obtain⟨t',rfl⟩:=r1;refine eQ hK hu I2 (h1.mono x2 (zO x2)) qu sq z λxs t3 I3 hc=>?_;dsimp only;rw[if_pos z];exact⟨_,.nx,Y,os,_,rfl,(B1.mono x2).write s1 s2 (by simp) ⟨a,rfl,rfl,xs,zr,hc⟩,I3,trivial⟩
def q9Q{k:QC}{o:Op2}(hK:p.K=X.K)(hu:X.A.units+64<cLine)(hi:X.N[i]?=Qa x)(Dc:kA X.env.scope x)(hd:(x==("__debug__":Str))=Qh)(z8:(x==("__classdict__":Str))=Qh)(ho:Xm op=Qa o)(hk:SE X p G sub k lk)(hv:SE X p G sub v lv)
  (ha:∀ov iv new,augStore k ov iv new=(do WD [new,ov,iv] (setItem ov iv new);release [new,ov,iv] [];pure .next)):SS X p G sub (.AugAssign (.Subscript (.Name x q) k jK) op v pos) (.augC i o lk lv):=by
 intro H0 O0 E hp pins s Y H Z os I B hs hE;dsimp only[iZ]at hs hE|-;rw[ax ho];refine qR (DG (zx hs)) λm hρ hg=>?_;rw[hg,qF]at hs hE|-;refine TL (B.at hρ) λy as s1 s2 a qe qf h1=>?_;subst qe qf;refine wpAny_AugAssign_SubscriptAny (vv I hi Dc s1 hd z8 λu r=>?_) ha;cases r;refine Qi (hk pins s Y H Z _ I B.rel (zx hs)) (λu2 t2 zz=>qi zz λd2 y2 H2 e2 I2 r2 x2 q2=>?_) (λe s' z=>hE e s' (jn B z));rw[e2,qF]at hs hE|-;refine qL (Dj (zx hs)) λds kk _ _ ek=>?_;rw[ek,qF]at hs hE|-;refine qV (GU ek r2 q2) λb qe qf sq=>?_;subst qe qf;have B2:=B.mono x2;refine xm (CL hK I2 (h1.mono x2 (zO x2)) qu) λxs g1 g2 ne dd _=>?_;cases hc:zu m kk with
 |none=>simp only[hc]at hs;cases hs rfl
 |some w=>
  simp only[hc]at hs hE|-;obtain⟨b',t',OG⟩:=(Fu g2).1 w hc;refine WZ (J2 ∅) (Dk I2 (hK▸qu.jT sq)) dd OG ?_;refine Qi (hv pins _ Y H2 Z _ (I2.tok _) B2.rel (zx hs)) (λu3 t3 zz=>qi zz λd3 y3 H3 e3 I3 r3 x3 q3=>?_) (λe s' z=>hE e s' (jn B2 z));rw[e3,qF]at hs hE|-;rcases dM o (.int w) d3 with z|⟨z,hz⟩
  .rw[z]at hs;cases hs rfl
  rw[hz,qF]at hs hE|-;obtain⟨zv,rfl⟩:=zI hs;replace hs:(if m.length<big then RS.ok (Z.set i (Qa (.jy (jm m kk zv)))) .nx else .q9)≠.q9:=hs;have hl:m.length<big:=by
   by_cases z:m.length<big
   .exact z
   .rw[if_neg z]at hs;cases hs rfl
  refine qR (dN (X:=X.qn E) (O:=(os++[O0]).flatten) (H:=H3) o (.int w) d3 (.int zv) (.int w) y3 hz rfl q3) λtG k2' wx=>?_;refine Qi (k2' pins t3 Y H3 (.int w) y3 (.int w t') u3 _ (I3.qn E) ⟨t',rfl⟩ r3 wx) (λu4 t4 zz=>zK zz λv4 H4 I4 r4 x4 q4=>?_) (λ_ _ z=>z);cases q4;obtain⟨t4',rfl⟩:=r4;have II:=x3.trans x4;refine eQ hK hu I4.yr ((h1.mono x2 (zO x2)).mono II (zO II)) qu ((zO II).jT sq) hl λIJ t5 I5 uZ=>?_;dsimp only;rw[if_pos hl];exact⟨_,.nx,Y,os,_,rfl,((B2.mono II)).write s1 s2 (by simp) ⟨a,rfl,rfl,IJ,zr,uZ⟩,I5,trivial⟩
end
def q5p:FK (.type "list_reverseiterator") "__len__"=pure Qg:=by rw[V6,UU];kernel_rfl
def q5o:FK (.type "list_reverseiterator") "__length_hint__"=pure (Qa (.builtin "list_reverseiterator.__length_hint__")):=by rw[V6,UU];kernel_rfl
def q5q:isSubtype (.type "list_reverseiterator") (.type "list_reverseiterator")=pure Qd:=by rw[F8];kernel_rfl
def q3J{R:ZI->Shared->Prop}{I l:Addr}(hh:A.handled=Qg)(zm:s.heap.IsRevIter I l ((items.size:Int)-1))(hl:s.heap.IsList l items)(jB:l≠I)(S:Addr)(res:Value)(c₀:Nat)(hS:s.heap.get? S=Qa {cls:=.type "list",data:=.seq #[] c₀}) (wL:S≠I) (OC:S≠l) (hn:items.size<=QI)
  (hR:∀h' tk ju c',(∀b o,b≠S->b≠I->s.heap.get? b=Qa o->h'.get? b=Qa o)->h'.get? S=Qa {cls:=.type "list",dict:=Qg,data:=.seq ju c',slots:=#[]}->
   ItemsOf (λi v=>items[items.size-1-i]?=Qa v) ju items.size->R (.ok (.ret res)) {s with heap:=h',toks:=tk}):
  wpAny (model prog w) A.in1 (YE (.ref S) (.ref I) res)
   (λfin s'=>match fin with|.done f=>R (.ok f) s'|.again c'=>c'.quiet=Qd/\codeAny (model prog w) A c' R s') (λe s'=>R (.error e) s') s:=by
 have hSf:S∉[I,l]:=λhm=>by simp at hm;exact hm.elim wL OC
 unfold YE;refine Qb (UN zm.typeIs ?_);have h1:WH (.ref S) (.ref I)=Qh:=by simp[WH,wL]
 have h2:(J5 "list_reverseiterator"==J5 "list")=Qh:=by decide
 have h3:(J5 "list_reverseiterator"==J5 "tuple")=Qh:=by decide
 simp only[h1,h2,h3,Bool.or_false,JZ,if_false];refine Qb (Wv zm ?_);refine Qb (Q4 ?_);unfold UH;refine Qb (Yv zm.typeIs q5p ?_);refine Qb (Yv zm.typeIs q5o ?_)
 wp_delta
 refine Qb (Ur zm.typeIs q5q ?_);refine Qf ?_;rw[if_neg (by decide)];refine Qf ⟨Y3 F.plain_extend_loop _,codeAny_extend_loopS (Walks.listRev (A:=A.in1) hh I l jB items).toS hn _ hSf _ items.size 0 _ _ _ rfl (QV _) ⟨QV _,by simpa using zm,hl⟩ hS (ItemsOf.nil _) λs' ju c' hm OB XI=>?_⟩;rw[Moved.eq_with hm];refine hR s'.heap s'.toks ju c' (λb ob hb hI e=>hm.heap b ob (λxF=>?_) e) OB XI;rcases Qo.mp xF with e'|xF
 .exact hb e'
 .exact hI (QE.mp xF)
def q2E{Q:NZ}{I l:Addr}(hh:A.handled=Qg)(zm:s.heap.IsRevIter I l ((items.size:Int)-1))(hl:s.heap.IsList l items)(jB:l≠I)(hn:items.size<=QI)
  (hQ:∀h' tk ju c',(∀b o,b≠I->s.heap.get? b=Qa o->h'.get? b=Qa o)->h'.get? s.heap.objs.size=Qa {cls:=.type "list",dict:=Qg,data:=.seq ju c',slots:=#[]}->
   ItemsOf (λi v=>items[items.size-1-i]?=Qa v) ju items.size->Q (.ref s.heap.objs.size) {s with heap:=h',toks:=tk}):
  wpAny (model prog w) A (call (.type "list") [.ref I]) Q E s:=by
 refine callType_codes (Q₁:=λobj s₁=>obj=.ref s.heap.objs.size/\s₁={s with heap:=s.heap.push {cls:=.type "list",data:=.seq #[]}}) F.called_list (F.typeCall_list_1 _) F.entry_list_init
  (code_list_new _ ⟨rfl,rfl⟩) λobj s₁ h₁=>?_
 obtain⟨rfl,rfl⟩:=h₁;have hS:(s.heap.push {cls:=.type "list",data:=.seq #[]}).get? s.heap.objs.size=Qa {cls:=.type "list",data:=.seq #[]}:=QH _ rfl;have wL:s.heap.objs.size≠I:=λe=>by obtain⟨o,ho,_⟩:=zm;exact absurd (Qu ho) (by rw[e];exact Jv _)
 have OC:s.heap.objs.size≠l:=λe=>by obtain⟨o,ho,_⟩:=hl;exact absurd (Qu ho) (by rw[e];exact Jv _)
 refine⟨⟨_,hS,rfl⟩,F.args_list_init_2 _ _,?_⟩;show wpAny _ _ (do let old <-U5 (.ref s.heap.objs.size);Builtin.List.listUpdate (.ref s.heap.objs.size) (λ_=>#[]);letGo old.toList.reverse;YE (.ref s.heap.objs.size) (.ref I) .none) _ _ _;refine Qb ?_;unfold U5;refine Qb (Uj hS rfl (Qf ?_));show wpAny _ _ (updateSeq s.heap.objs.size (λ_=>#[])>>=λ_=>letGo (#[]:Array Value).toList.reverse>>=λ_=>YE (.ref s.heap.objs.size) (.ref I) .none) _ _ _;refine Qb (Vb hS rfl ?_);have hS₂:=YQ (Q9 (λ_=>(#[]:Array Value))) hS rfl;have Xo:∀b o,s.heap.get? b=Qa o->((s.heap.push {cls:=.type "list",data:=.seq #[]}).update s.heap.objs.size (Q9 (λ_=>(#[]:Array Value)))).get? b=Qa o:=
  λb o e=>(JM _ _ (VC (Qu e))).trans (Qk _ e)
 refine Qb (Vy ?_);refine q3J (A:=A.in1) (items:=items) hh (zm.at λo e=>Xo I o e) (hl.at λo e=>Xo l o e) jB s.heap.objs.size .none _ hS₂ wL OC hn λh' tk ju c' hk OB XI=>?_;exact⟨rfl,hQ h' tk ju c' (λb o hb e=>hk b o (QK (Qu e)) hb (Xo b o e)) OB XI⟩
def cf(K:QL)(a:Addr)(n:Nat):It where
 go:=λi H=>∃xs x,qv K H a xs/\xs.length=n/\i<n/\xs[n-1-i]?=Qa x
 X7:=λi H x H'=>H'=H/\∀ys,qv K H a ys->ys[n-1-i]?=Qa x
 stop:=λi H=>i=n
def qAQ{tg:Expr}(a it:Addr)(n:Nat)(jB:a≠it):Turn P w K tg (cf K a n) [it] it (λi h=>i<=n/\h.IsRevIter it a ((n:Int)-1-(i:Int)))where
 mem:=by simp
 obj:=λi h st b hb=>by
  have e:b=it:=by simpa using hb
  subst e;obtain⟨_,o,e,c,d⟩:=st;exact⟨o,e,λv z=>by rw[d]at z;cases z⟩
 keep:=λi h h' st k=>⟨st.1,st.2.at λo e=>k it (by simp) o e⟩
 item:=by intro X hP hw hK hc i pins s Y H E I hf st hg;subst hP hw hK;refine zK hg λxs x hq hn hi hx=>?_;refine qV (I.list hq) λits rv p hz=>?_;refine qR (rv.get hx) λu hu ru=>?_;refine je (hf it (by simp)) λf0 f1 f2 f3 f4 f5=>?_;have zm:=st.2;rw[show(n:Int)-1-(i:Int)=((n-1-i:Nat):Int) by lia]at zm;refine wpAny_pyNext_rev_item zm p.isList (x:=u) (by simpa using hu) λh' jz sb=>?_;have I1:Inv X pins Y H {s with heap:=h'}:=I.turned (t':=s.toks) (λb o hb e=>(sb.2 b hb).trans e) f0 f1 f3 f4 f5;rw[show((n-1-i:Nat):Int)-1=(n:Int)-1-((i+1:Nat):Int) by lia]at jz;refine qV (id jz) λo e c d=>?_;exact⟨u,rfl,DH (s:={s with heap:=h'}) e c d (by decide) ⟨x,H,I1,ru,⟨rfl,λys hy=>by rw[I.ot hy hq];exact hx⟩,⟨hi,jz⟩,λb hb=>(hf b hb).1⟩⟩
 done:=by intro X hP hw hK hc i pins s Y H E I hf st hg;subst hP hw hK;have hg:i=n:=hg;subst hg;refine je (hf it (by simp)) λf0 f1 f2 f3 f4 f5=>?_;have zm:=st.2;rw[show(i:Int)-1-(i:Int)=-1 by lia]at zm;exact wpAny_pyNext_rev_end (I.ok.hd hc) zm λh' eb=>⟨rfl,I.turned (t':=s.toks) (λb o hb e=>eb b o hb e) f0 f1 f3 f4 f5⟩
 self:=λ_ _ _ _ _ st h=>Wv st.2 h
def qAb{a:Addr}(h:qv K Hf a vs):Wk (cf K a vs.length) Hf vs.reverse where
 go:=λi H' x hi=>by rw[Yb]at hi;exact⟨vs,vs[vs.length-1-i],x.wX h,rfl,hi,Qv ∅⟩
 X7:=λi H' y uO x hi hy=>by rw[Yb]at hi;refine⟨hy.1,?_⟩;rw[F9 hi];exact hy.2 vs (x.wX h)
 stop:=λH' x=>by show vs.reverse.length=vs.length;simp
def q93(hK:p.K=X.K)(hg:Gl X "reversed")(hm:X.mg "reversed"=Qg)(ha:SE X p G sub a l)(qX:Q5 [a] X.env=[(Qh,Jw a X.env)]):SI X p G sub Qd tg (.Call (.Name "reversed" q) [a] [] pos) (.rev l):=by
 intro pins s Y H Z os I R hs;rw[iY]at hs|-;refine Call_ (jr I hg hm boot_reversed (Q2 ?_ qX rfl));rw[qX];refine QW (Qi (ha pins s Y H Z os I R (z7 hs)) (λu s1 h=>Q0 ?_) (λe s' z=>z.bind));refine qi h λd v H1 e1 I1 r1 x1 q1=>?_;rw[e1]at hs|-;obtain⟨xs,rfl⟩:=zR hs;refine qL q1 λa' vs zz sq rl=>?_;subst zz;cases r1;refine qV (I1.list (hK▸qu.wX sq:qv X.K H1 a' vs)) λits rv pt hz=>?_;refine call_reversed_list pt.isList ?_;have GH:(s1.heap.push (revObj a' ((its.toArray.size:Int)-1))).IsRevIter s1.heap.objs.size a' ((vs.length:Int)-1-((0:Nat):Int)):=⟨_,QH _ rfl,rfl,by rw[QB,rv.length];simp[revObj]⟩
 refine Wv GH ?_;refine⟨xs.reverse,rfl,s1.heap.objs.size,[s1.heap.objs.size],_,_,H1,rfl,I1.kept (t':=s1.toks) λb o e=>Qk _ e,qAQ a' _ vs.length (QK (by obtain⟨o,e,_⟩:=pt.isList;exact Qu e)),⟨QV _,GH⟩,λb hb=>?_,x1,vs.reverse,rl.reverse,?_⟩
 .have e:b=s1.heap.objs.size:=by simpa using hb
  subst e;exact I1.xC (Qs _) (I1.qI.fresh (Qs _))
 .exact qAb (hK▸sq)
def q8h(hK:p.K=X.K)(hc:X.calm=Qd)(Ti:Gl X "list")(OU:X.mg "list"=Qg)(OL:Gl X "reversed")(OV:X.mg "reversed"=Qg)(ha:SB X p G sub a l)
  (qX:Q5 [a] X.env=[(Qh,Jw a X.env)]):SE X p G sub (.Call (.Name "list" q) [.Call (.Name "reversed" q2) [a] [] q3] [] pos) (.revL l):=by
 intro pins s Y H Z os I R hs;rw[iU]at hs|-;refine Je (jr I Ti OU Uh ?_ (by decide) (by decide));refine Q2 ?_ rfl rfl;show wpAny _ _ (Us ((Qh,Jw (.Call (.Name "reversed" q2) [a] [] q3) X.env)::UO pos [])) _ _ s;refine QW ?_;refine Call_ (jr I OL OV boot_reversed (Q2 ?_ qX rfl));rw[qX];show wpAny _ _ (Us ((Qh,Jw a X.env)::UO q3 [])) _ _ s;refine QW (Qi (ha pins s Y H Z os I R (z7 hs)) (λu s1 h=>Q0 ?_) (λe s' z=>z.bind));refine qi h λd v H1 e1 I1 r1 x1 q1=>?_;rw[e1]at hs|-;cases d<;>first
  |cases hs rfl
  |skip
 rename_i xs;refine qL q1 λa' vs zz sq rl=>?_;subst zz;cases r1;refine qV (I1.list (hK▸sq:qv X.K H1 a' vs)) λits rv pt hz=>?_;have hl:=rv.length;have qj:a'<s1.heap.objs.size:=by obtain⟨o,e,_⟩:=pt.isList;exact Qu e
 refine call_reversed_list pt.isList (Q0 ?_);have GH:(s1.heap.push (revObj a' ((its.toArray.size:Int)-1))).IsRevIter s1.heap.objs.size a' ((its.toArray.size:Int)-1):=⟨_,QH _ rfl,rfl,rfl⟩
 have I2:Inv X pins Y H1 {s1 with heap:=s1.heap.push (revObj a' ((its.toArray.size:Int)-1))}:=I1.kept (t':=s1.toks) λb o e=>Qk _ e;refine q2E (items:=its.toArray) (I.ok.hd hc) GH (pt.isList.at λo e=>Qk _ e) (QK qj) (by rw[QB,<-hl];exact hz) λh' tk ju c' hk hS XI=>?_;have hsz:(s1.heap.push (revObj a' ((its.toArray.size:Int)-1))).objs.size=s1.heap.objs.size+1:=Uz _ _;refine je (id (I1.xC (Qs _) (I1.qI.fresh (Qs _)))) λf0 f1 f2 f3 f4 f5=>?_;have I3:Inv X pins Y H1 {s1 with heap:=h',toks:=tk}:=I1.kept (t':=tk) λb o e=>hk b o (QK (Qu e)) (Qk _ e);have fr:H1 (s1.heap.push (revObj a' ((its.toArray.size:Int)-1))).objs.size=Qg:=I1.qI.fresh (by rw[hsz];exact J4 _);have q4A:ju.toList=its.reverse:=by
  apply Vj;intro i;have lu:ju.size=its.length:=by rw[XI.1,QB]
  by_cases hi:i<its.length
  .have wz:i<ju.size:=(by rw[lu];exact hi);have:=XI.2 i ju[i] (JT wz);rw[F9 hi,YN,JT wz,<-this];simp
  .rw[JD (by rw[J8,lu];lia),JD (by rw[Yb];lia)]
 refine⟨_,.ref _,upd H1 _ (.q6 vs.reverse),rfl,I1.laid (t':=tk) (λb o e=>hk b o (QK (Qu e)) (Qk _ e)) (by rw[hsz];exact J4 _) (⟨by rw[Yb];exact hz,ju.toList,c',(by rw[q4A];exact rv.reverse),hS⟩),rfl,x1.trans (Ext.upd fr),?_⟩;exact(XH (R.ext x1).th rl.reverse fr).2
def q6C(a v d:Value):F5 "min" ⟨[a],[(Qy "key",v),(Qy "default",d)]⟩:=by unfold F5;kernel_rfl
def A8:(toString "min"++toString ".loop":String)="min.loop":=by decide
def S0(X:Cx):Cx:={X with A:=X.A.in1}
def q4i(I:Inv X pins Y H s):Inv (S0 X) pins Y H s:=
 ⟨⟨I.ok.mod,I.ok.kind,I.ok.glob,I.ok.blt,I.ok.above,I.ok.inj,I.ok.has,I.ok.XE,λz=>I.ok.hd z,I.ok.frames,I.ok.vL,I.ok.DB,I.ok.bs,I.ok.yY,I.ok.Xj,I.ok.TU,I.ok.funs,I.ok.xq⟩,I.os,I.bare,I.base,I.loc,I.cell,I.free,I.kB,I.pin,I.qI,I.len⟩
def q4m(ok:X.Ok)(I:Inv (S0 X) pins Y H s):Inv X pins Y H s:=
 ⟨ok,I.os,I.bare,I.base,I.loc,I.cell,I.free,I.kB,I.pin,I.qI,I.len⟩
def ck(ks:List D):Prop:=(∀d∈ks,qK 8 d=Qd/\qH d=Qd)/\∀a∈ks,∀b∈ks,zC a b=Qd
def nX{I l:Addr}(x:h.IsListIter I l i):∃o,h.get? I=Qa o/\∀v,o.data≠.cell v:=by refine qV x λo e c d=>?_;exact⟨o,e,λv z=>by rw[d]at z;cases z⟩
def GR{I l:Addr}(x:h.IsListIter I l i){o:Obj}(e:h.get? I=Qa o)(e':h'.get? I=Qa o):h'.IsListIter I l i:=by obtain⟨o',e1,c,d⟩:=x;rw[e]at e1;cases e1;exact⟨o,e',c,d⟩
def rK{k:Nat}{f:Addr}{I S:Addr}{oI oS:Obj}{x kd:D}{v:V}{Q:NZ}
  (F:FnOk X.prog X.w X.K X.mg X.base (j5 X.prog X.w) k f fd ps (yO p G j ps.length)) (hr:Room k X.A.in1) (hb:Binds X.K fd ps []) (h1:∀ds,G j ds≠.q9->ds.length=ps.length) (nd:O.Nodup)
  (Iv:Inv X pins Y H s) (t:Th O H) (ru:RelV v u) (rx:Rep p (fz O H) x v) (e1:G j [x]=.ok kd) (fI:zH X pins H I) (fS:zH X pins H S) (gI:s.heap.get? I=Qa oI) (gS:s.heap.get? S=Qa oS) (dI:∀v,oI.data≠.cell v) (dS:∀v,oS.data≠.cell v)
  (hq:∀kv ku H1 s1,Inv X pins Y H1 s1->Ext H H1->RelV kv ku->Rep p (fz O H1) kd kv->zH X pins H1 I->zH X pins H1 S->s1.heap.get? I=Qa oI->s1.heap.get? S=Qa oS->Q ku s1):wpAny (model X.prog X.w) X.A.in1 (call (.ref f) [u]) Q E s:=by
 refine Qi (bK (X:=S0 X) (k:=k) (j:=j) (f:=f) (fd:=fd) (ps:=ps) (ds:=[x]) (vs:=[v]) (us:=[u]) (O:=O) F hr hb (sa (q4i Iv) fI fS gI gS dI dS) (.cons ru .nil) nd t ⟨v,[],rfl,rx,rfl⟩ (h1 _ (by rw[e1];simp)) (by rw[e1];simp)) (λkv s1 h=>?_) (λe' s' zz=>qR zz λc z _=>by rw[e1]at z;cases z);obtain⟨d',v',H1,g1,I1,xX,x1,q1⟩:=h;rw[e1]at g1;cases g1;have pI:=I1.pin (I,oI) (Ql _ (Ql _ (by simp)));have pS:=I1.pin (S,oS) (Ql _ (Ql _ (by simp)));exact hq v' kv H1 s1 (q4m Iv.ok I1.w5) x1 xX q1 (Eu fI pI.2.1) (Eu fS pS.2.1) pI.1 pS.1
def cJ{S:Addr}{xs:Array Value}(Iv:Inv X pins Y H s)(fS:zH X pins H S):Inv X pins Y H {s with heap:=s.heap.update S (Q9 λ_=>xs)}:=by refine je fS λg0 g1 g2 g3 g4 g5=>?_;exact Iv.turned (λb o hb e=>((Js s.heap S (Q9 λ_=>xs)).2 b hb).trans e) g0 g1 g3 g4 g5
theorem aR{k j:Nat}{f:Addr}{fd:FuncData}{ps:List Str}{pins:List (Addr×Obj)}{Y:L2.St}{O:List Addr}{l I S:Addr}{T8:List V}{dk:Str}{dv:Value}{R:ZI->Shared->Prop}(hK:p.K=X.K)(hu:X.A.units+64<cLine)(hh:X.A.handled=Qg)
  (F:FnOk X.prog X.w X.K X.mg X.base (j5 X.prog X.w) k f fd ps (yO p G j ps.length)) (hr:Room k X.A.in1) (hb:Binds X.K fd ps []) (h1:∀ds,G j ds≠.q9->ds.length=ps.length) (nd:O.Nodup) (wL:S≠I):
  ∀(xs ql:List D)(n:Nat)(H:Hp)(s:Shared)(bd kd:D)(bv kv:V)(bu ku:Value)(c:Nat),mapR (λx=>G j [x]) xs=.ok ql->Inv X pins Y H s->Th O H->qv X.K H l T8->n+xs.length=T8.length->qM p (fz O H) xs (T8.drop n)->zH X pins H I->zH X pins H S->s.heap.IsListIter I l n->s.heap.get? S=Qa (JV "list" #[bu,ku] c)->
   RelV bv bu->Rep p (fz O H) bd bv->RelV kv ku->Rep p (fz O H) kd kv->ck (kd::ql)->
   (∀s' H' v' u',Inv X pins Y H' s'->Ext H H'->RelV v' u'->Rep p (fz O H') (xh (ql.zip xs) (kd,bd)).2 v'->R (.ok (.ret u')) s')->codeAny (model X.prog X.w) X.A (.builtin "min.loop" ⟨[.ref I,.ref f,.ref S],[(dk,dv)]⟩) R s
 |[],ql,n,H,s,bd,kd,bv,kv,bu,ku,c,hm,Iv,t,sq,hn,rx,fI,fS,zm,gS,rb,qb,rk,qk,ko,hR=>by cases hm;refine qV (Iv.list sq) λits rv pt hz=>?_;have XT:=rv.length;refine Yx Vp ?_;rw[Ym JJ _];show wpAny _ X.A.in1 (seqItems? (.ref S)>>=_) _ _ _;refine Qb (Uj gS rfl ?_);show wpAny _ X.A.in1 (tryCatch (pyNext (.ref I)) _>>=_) _ _ _;refine Qb (Ul (V9 hh zm pt.isList (by simp at hn|-;lia) λh' eb=>?_));refine je (id fI) λg0 g1 g2 g3 g4 g5=>?_;have I1:Inv X pins Y H {s with heap:=h'}:=Iv.turned (t':=s.toks) (λb o hb e=>eb b o hb e) g0 g1 g3 g4 g5;show wpAny _ X.A.in1 (updateSeq S (λ_=>#[])>>=_) _ _ _;refine Qb ?_;refine Vb (eb S _ wL gS) rfl (Qb (Vy (Qf ?_)));exact hR _ H bv bu (cJ I1 fS) (Ext.refl _) rb qb
 |x::xs,ql,n,H,s,bd,kd,bv,kv,bu,ku,c,hm,Iv,t,sq,hn,rx,fI,fS,zm,gS,rb,qb,rk,qk,ko,hR=>by
  refine qL (A3 hm) λxO kr e1 e2 zz=>?_;subst zz;refine qL rx λv vr ed RK RM=>?_;rw[QG]at hn;refine qV (Iv.list sq) λits rv pt hz=>?_;have hvn:T8[n]?=Qa v:=by have:(T8.drop n)[0]?=Qa v:=(by rw[ed];rfl);simpa using this
  have i3:T8.drop (n+1)=vr:=by have:(T8.drop n).drop 1=vr:=(by rw[ed];rfl);rw[List.drop_drop]at this;exact this
  obtain⟨u,hu2,ru⟩:=rv.get hvn;refine Yx Vp ?_;rw[Ym JJ _];show wpAny _ X.A.in1 (seqItems? (.ref S)>>=_) _ _ _;refine Qb (Uj gS rfl ?_);show wpAny _ X.A.in1 (tryCatch (pyNext (.ref I)) _>>=_) _ _ _;refine Qb (Ul (V0 zm pt.isList (x:=u) (by simpa using hu2) λh' jz sb=>?_));refine je (id fI) λg0 g1 g2 g3 g4 g5=>?_;have I1:Inv X pins Y H {s with heap:=h'}:=Iv.turned (t':=s.toks) (λb o hb e=>(sb.2 b hb).trans e) g0 g1 g3 g4 g5;refine qR (nX jz) λoI gI dI=>?_;show wpAny _ X.A.in1 (tryCatch (WD [u] (call (.ref f) [u])) _>>=_) _ _ _;refine Qb (Ul (Q4 (rK F hr hb h1 nd I1 t ru RK e1 fI fS gI ((sb.2 S wL).trans gS) dI (λv z=>by cases z) λGW vq H2 s2 I2 x2 Al Ai Eo Rw TZ Ry=>?_)));have mE:s2.heap.IsListIter I l (n+1):=GR jz gI TZ;have k0:=ko.1 kd Qe;have k1:=ko.1 xO (by simp);show wpAny _ X.A.in1 (tryCatch (WD [u,vq] (richCompare .Lt vq ku>>=_)) _>>=_) _ _ _;refine Qb (Ul (Q4 (Qb ((Pn 8 k1.1 k0.1 k1.2 k0.2 (ko.2 xO (by simp) kd (by simp)) ((vP hK I2).1 xO GW vq (Ai.mono qu) Al) ((vP hK I2).1 kd kv ku ((qk.mono (zO x2)).mono qu) rk) (by rw[Jb];lia)).1 X.prog X.w _ _ ?_))));refine Qb (Q4 (Yy ?_));refine Qb (Vy (Qf ?_));have q4D:xh ((xO::kr).zip (x::xs)) (kd,bd)=xh (kr.zip xs) (if qU xO kd then(xO,x)else(kd,bd)):=rfl;rw[q4D]at hR
  by_cases qj:qU xO kd=Qd
  .rw[if_pos qj]at hR;simp only[qj,if_true];obtain⟨c2,jH⟩:∃c2,(s2.heap.update S (Q9 λ_=>#[u,vq])).get? S=Qa (JV "list" #[u,vq] c2):=⟨_,Yw Ry λ_=>#[u,vq]⟩
   refine Qb ?_;refine Vb Ry rfl (Qb (Vy ?_));rw[A8];refine Qf ⟨Y3 JJ _,aR hK hu hh F hr hb h1 nd wL xs kr (n+1) H2 _ x xO v GW u vq c2 e2 (cJ I2 Rw) (t.ext x2) (x2.wX sq) ∅ (by rw[i3];exact RM.mono (zO x2)) Eo Rw (GR mE TZ (((Js s2.heap S (Q9 λ_=>#[u,vq])).2 I wL.symm).trans TZ)) jH ru (RK.mono (zO x2)) Al Ai ⟨λd hd=>ko.1 d (Qc _ hd),λa ha b hb=>ko.2 a (Qc _ ha) b (Qc _ hb)⟩ λs' H' v' u' a1 a2 a3 a4=>hR s' H' v' u' a1 (x2.trans a2) a3 a4⟩
  .
   rw[if_neg qj]at hR;simp only[(Yq.mpr qj),JZ,if_false];refine Qb (Vy ?_);rw[A8];have sub:∀d∈kd::kr,d∈kd::xO::kr:=λd hd=>by rcases Qo.mp hd with h|h<;>simp[h]
   refine Qf ⟨Y3 JJ _,aR hK hu hh F hr hb h1 nd wL xs kr (n+1) H2 s2 bd kd bv kv bu ku c e2 I2 (t.ext x2) (x2.wX sq) ∅ (by rw[i3];exact RM.mono (zO x2)) Eo Rw mE Ry rb (qb.mono (zO x2)) rk (qk.mono (zO x2)) ⟨λd hd=>ko.1 d (sub d hd),λa ha b hb=>ko.2 a (sub a ha) b (sub b hb)⟩ λs' H' v' u' a1 a2 a3 a4=>hR s' H' v' u' a1 (x2.trans a2) a3 a4⟩
def q8a{k c0:Nat}{f:Addr}{q5:Pos}(hK:p.K=X.K)(hc:X.calm=Qd)(hu:X.A.units+64<cLine)(F:FnOk X.prog X.w X.K X.mg X.base (j5 X.prog X.w) k f fd ps (yO p G j ps.length))(hr:Room k X.A.in1)(hb:Binds X.K fd ps [])(h1:∀ds,G j ds≠.q9->ds.length=ps.length)
  (OJ:Gl X fn) (OT:X.mg fn=Qa (.ref f)) (ub:(fn==("__debug__":Str))=Qh) (hg:Gl X "min") (hm:X.mg "min"=Qg) (ha:SE X p G sub a la) (qX:Q5 [a] X.env=[(Qh,Jw a X.env)]):
  SE X p G sub (.Call (.Name "min" q) [a] [⟨Qa "key",.Name fn q2,q3⟩,⟨Qa "default",.Constant .none c0 q4,q5⟩] pos) (.minK la j):=by
 intro pins s Y H Z os I R hs;dsimp only[iQ]at hs|-;refine Je (jr I hg hm PyProof.Rows.boot_min ?_ (by decide) (by decide));refine WG ?_ (by rw[qX];rfl) (by rw[qX];rfl) rfl rfl;refine Ca ha.b qX I R (z7 hs) (λu s1 h=>?_) (λe s' z=>z.bind);refine qi h λd v H1 e1 I1 r1 x1 q1=>?_;rw[e1,qB]at hs|-;refine Vf (uu I1 OJ OT (Vf (Constant_none (W7 ?_))) ub);obtain⟨xs,rfl⟩:=zM hs;unfold yH at hs|-;dsimp only at hs|-;obtain⟨ql,Tr⟩:=AH hs;rw[Tr,vw,qB]at hs|-;have ua:(zU ql&&qx ql&&vg zC ql&&decide (xs.length<=1000))=Qd:=by
  cases z:(zU ql&&qx ql&&vg zC ql&&decide (xs.length<=1000))with
  |true=>rfl
  |false=>rw[z,if_neg (by simp)]at hs;cases hs rfl
 rw[ua,if_pos rfl];simp at ua;obtain⟨⟨⟨c1,c2⟩,c3⟩,c4⟩:=ua;have ko:ck ql:=⟨λd hd=>⟨vX.mp c1 d hd,j0.mp c2 d hd⟩,λa ha b hb=>Qq.mp (Qq.mp c3 a ha) b hb⟩
 refine qL q1 λl vs zz sq rl=>?_;subst zz;cases r1;have bg:qv X.K H1 l vs:=hK▸sq;refine qV (I1.list bg) λits rv pt hz=>?_;have R1:=R.ext x1;have hh:X.A.handled=Qg:=I.ok.hd hc;refine kmk_tree PySem.F.kind_min PySem.F.plain_min PySem.F.entry_min (q6C _ _ _) ?_;show wpAny _ X.A.in1 (Builtin.Builtins.bindParams "min" ["key","default"] 0 ⟨[],[(Qy "key",.ref f),(Qy "default",.none)]⟩>>=_) _ _ s1;refine Qb (Wu rfl ?_);refine Qb (Qf ?_);refine Qb (UP pt.isList ?_);refine Qb (VF ?_ (QV _));rw[A8];refine Qf ⟨Y3 JJ _,?_⟩;generalize hh1:s1.heap.push {cls:=.type "list_iterator",data:=.fields #[.ref l,.int 0 0]}=hp1;have hS:hp1.objs.size=s1.heap.objs.size+1:=by rw[<-hh1];exact Uz _ _
 have wL:hp1.objs.size≠s1.heap.objs.size:=by rw[hS];exact VC (Yg _)
 have kp:∀b o,s1.heap.get? b=Qa o->(hp1.push {cls:=.type "list",data:=.seq ([]:List Value).toArray}).get? b=Qa o:=λb o e=>Qk _ (by rw[<-hh1];exact Qk _ e);have I2:Inv X pins Y H1 {s1 with heap:=hp1.push {cls:=.type "list",data:=.seq ([]:List Value).toArray}}:=I1.kept (t':=s1.toks) kp;have fI:zH X pins H1 s1.heap.objs.size:=I1.xC (Qs _) (I1.qI.fresh (Qs _));have fS:zH X pins H1 hp1.objs.size:=I1.xC (by rw[hS];exact J4 _) (I1.qI.fresh (by rw[hS];exact J4 _));have zm:(hp1.push {cls:=.type "list",data:=.seq ([]:List Value).toArray}).IsListIter s1.heap.objs.size l 0:=⟨_,Qk _ (by rw[<-hh1];exact QH _ rfl),rfl,rfl⟩
 have gS:(hp1.push {cls:=.type "list",data:=.seq ([]:List Value).toArray}).get? hp1.objs.size=Qa (JV "list" #[] 0):=QH _ rfl;refine qV (I2.list bg) λyi tw sx _=>?_;refine Yx Vp ?_;rw[Ym JJ _];show wpAny _ X.A.in1 (seqItems? (.ref _)>>=_) _ _ _;refine Qb (Uj gS rfl ?_);show wpAny _ X.A.in1 (tryCatch (pyNext (.ref s1.heap.objs.size)) _>>=_) _ _ _;cases xs with
 |nil=>
  cases(J6.mp (aE Tr));refine Qb (Ul (V9 hh zm sx.isList (by have:yi=[]:=J6.mp (by rw[<-tw.length,(J6.mp rl.length.symm)];rfl);rw[this];rfl) λh' eb=>?_));refine je (id fI) λg0 g1 g2 g3 g4 g5=>?_;have I3:Inv X pins Y H1 {s1 with heap:=h'}:=I2.turned (t':=s1.toks) (λb o hb e=>eb b o hb e) g0 g1 g3 g4 g5;show wpAny _ X.A.in1 (rule _>>=λ_=>ret Jr) _ _ _;refine Qb (W2 (Qf ?_));exact⟨.qE,.qE,H1,rfl,I3,rfl,x1,rfl⟩
 |cons x xs=>
  refine qL (A3 Tr) λxO kr k1 k2 zz=>?_;subst zz;refine qL rl λv1 vr zz RK RM=>?_;subst zz;refine qR (tw.get (i:=0) (x:=v1) rfl) λu1 hu1 tY=>?_;refine Qb (Ul (V0 zm sx.isList (x:=u1) (by simpa using hu1) λh' jz sb=>?_));refine je (id fI) λg0 g1 g2 g3 g4 g5=>?_;have I3:Inv X pins Y H1 {s1 with heap:=h'}:=I2.turned (t':=s1.toks) (λb o hb e=>(sb.2 b hb).trans e) g0 g1 g3 g4 g5;refine qR (nX jz) λoI gI dI=>?_;show wpAny _ X.A.in1 (tryCatch (WD [u1] (call (.ref f) [u1])) _>>=_) _ _ _;refine Qb (Ul (Q4 (rK F hr hb h1 R1.nd I3 R1.th tY RK k1 fI fS gI ((sb.2 _ wL).trans gS) dI (λv z=>by cases z) λGW vq H2 s2 I4 x2 Al Ai Eo Rw TZ Ry=>?_)));obtain⟨c2,jH⟩:∃c2,(s2.heap.update hp1.objs.size (Q9 λ_=>#[u1,vq])).get? hp1.objs.size=Qa (JV "list" #[u1,vq] c2):=⟨_,Yw Ry λ_=>#[u1,vq]⟩
  show wpAny _ X.A.in1 (updateSeq hp1.objs.size (λ_=>#[u1,vq])>>=_) _ _ _;refine Qb ?_;refine Vb Ry rfl ?_;rw[A8];refine Qf ⟨Y3 JJ _,aR hK hu hh F hr hb h1 R1.nd wL xs kr 1 H2 _ x xO v1 GW u1 vq c2 k2 (cJ I4 Rw) (R1.th.ext x2) (x2.wX bg) (by have:=RM.length;simp;lia) (by simpa using RM.mono (zO x2)) Eo Rw (GR (GR jz gI TZ) TZ (((Js s2.heap hp1.objs.size (Q9 λ_=>#[u1,vq])).2 _ wL.symm).trans TZ)) jH tY (RK.mono (zO x2)) Al Ai ko λs' H' v' u' a1 a2 a3 a4=>?_⟩;exact⟨_,v',H',rfl,a1,a3,x1.trans (x2.trans a2),a4⟩
theorem q17(f:Nat->V):∀(its:List Value)(k:Nat),(∀j v,its[j]?=Qa v->RelV (f (k+j)) v)->Vals ((Qt its.length).map λj=>f (k+j)) its
 |[],k,_=>.nil
 |v::r,k,h=>by
  have ih:=q17 f r (k+1) λj u e=>by
   have:=h (j+1) u (by simpa using e)
   rwa [show k+(j+1)=k+1+j by lia]at this
  have e:(Qt (v::r).length).map (λj=>f (k+j))=f (k+0)::(Qt r.length).map (λj=>f (k+1+j)):=by rw[QG,FD,Qw,J0];congr 1;refine YB λa _=>?_;simp;congr 1;lia
  rw[e];exact .cons (h 0 v rfl) ih
def q8Y(hc:X.calm=Qd)(Ti:Gl X "list")(OU:X.mg "list"=Qg)(OL:Gl X "range")(OV:X.mg "range"=Qg)(G6:(("list":Str)==("__debug__":Str))=Qh)(ha:SE X p G sub a l)
  (qX:Q5 [a] X.env=[(Qh,Jw a X.env)]):SE X p G sub (.Call (.Name "list" q) [.Call (.Name "range" q2) [a] [] q3] [] pos) (.lrng [l]):=by
 intro pins s Y H Z os I R hs;have e0:ev G sub (.lrng [l]) Z=(ev G sub l Z).bind λd=>(wV [d]).bind λis=>if is.length<=big then .ok (.q6 is)else .q9:=by rw[iP];exact RF (α:=D) (f:=λd=>(wV [d]).bind λis=>if is.length<=big then Ev.R.ok (D.q6 is)else .q9) l Z _ λ_=>rfl
 rw[e0]at hs|-;refine Je (jr I Ti OU Uh ?_ (by decide) G6);refine Q2 ?_ rfl rfl;show wpAny _ _ (Us ((Qh,Jw (.Call (.Name "range" q2) [a] [] q3) X.env)::UO pos [])) _ _ s;refine QW ?_;refine Call_ (jr I OL OV boot_range (Q2 ?_ qX rfl));rw[qX];show wpAny _ _ (Us ((Qh,Jw a X.env)::UO q3 [])) _ _ s;refine QW (Qi (ha pins s Y H Z os I R (z7 hs)) (λu s1 h=>Q0 ?_) (λe s' z=>z.bind));refine qi h λd v H1 e1 I1 r1 x1 q1=>?_;rw[e1,qB]at hs|-;cases d<;>first
  |cases hs rfl
  |skip
 rename_i j;have er:wV [.int j]=if-(2^62)<=j/\j<2^62 then .ok ((Qt j.toNat).map λ(k:Nat)=>D.int k)else .q9:=rfl
 by_cases hj:-(2^62)<=j/\j<2^62
 .rw[er,if_pos hj,qB]at hs|-
  by_cases hb:((Qt j.toNat).map λ(k:Nat)=>D.int k).length<=big
  .rw[if_pos hb];rw[Qm,Q1]at hb;cases q1;obtain⟨t,rfl⟩:=r1;refine call_range_1 (Q0 ?_);have I2:Inv X pins Y H1 {s1 with heap:=s1.heap.push {cls:=.type "range",data:=.fields #[.int 0 s1.toks,.int j t,.int 1 (s1.toks+1)]},toks:=s1.toks+1+1}:=I1.kept λb o e=>Qk _ e;have hsz:Wx 0 j 1=(j.toNat:Int):=(by rw[rangeSize_one];split<;>lia);refine call_list_range (I.ok.hd hc) (IsRange.new ..) (small_one ∅ ∅ hj.1 hj.2) hsz (by rw[zt]at hb;lia) λh' tk ju c' hk e items=>?_;have qT:ju.toList.length=j.toNat:=(by rw[J8];exact items.1);have rv:Vals ((Qt ju.toList.length).map λk=>V.int (0+((0+k:Nat):Int))) ju.toList:=q17 (λk=>V.int (0+(k:Int))) ju.toList 0 λi u eu=>by obtain⟨t',rfl⟩:=items.2 i u (by rw[<-YN];exact eu);refine⟨t',?_⟩;congr 1
   rw[qT]at rv;have fr:=I2.qI.fresh (Qs _);refine⟨_,.ref _,upd H1 _ (.q6 ((Qt j.toNat).map λ(k:Nat)=>V.int (0+(k:Int)))),rfl,I2.laid (t':=tk) hk (Qs _) (⟨by rw[Qm,Q1];exact Qx hb vh,ju.toList,c',(by simpa using rv),e⟩),rfl,x1.trans (Ext.upd fr),?_⟩;rw[tW];exact(XH (R.ext x1).th (Am 0 _) fr).2
  .rw[if_neg hb]at hs;cases hs rfl
 .rw[er,if_neg hj]at hs;cases hs rfl
theorem xN{x:Str}:∀{N:List Str}{i:Nat},jC x N=Qa i->N[i]?=Qa x
 |[],i,h=>by exact nS h
 |y::N,i,h=>by
  unfold jC at h;split at h
  .rename_i c;cases h;subst c;rfl
  .cases e:jC x N with
   |none=>rw[e]at h;exact nS h
   |some j=>rw[e]at h;cases h;simpa using xN e
noncomputable def kQ:QC->Bool
 |.Starred _ _=>Qh
 |.Set _ _ _=>Qh
 |.Slice _ _ _ _=>Qh
 |.Call (.Name _ _) [] [] _=>Qh
 |_=>Qd
def jU(h:kQ e=Qd):Q5 (e::es) env=(Qh,Jw e env)::Q5 es env:=by cases e<;>first|rfl|(cases h;done)
def S9(h:kQ e=Qd):E7 e:=by intro o i;cases e<;>first|rfl|(cases h;done)
def pZ{op:CmpOp}(h:kQ e=Qd):behindInMarks op e=Qh:=by cases e<;>first|rfl|(cases h;done)
def Lr(h:kQ e=Qd):∀x,Vx e env x=pure x:=by intro x;cases e<;>first|rfl|(cases h;done)
def Ih(h:kQ e=Qd):U1 e name env (Jw e env)=Jw e env:=by
 unfold U1;split
 .cases h
 .rfl
def kH:∀{n:Nat}{C:Ct}{e:QC}{l:L},cE n C e=Qa l->kQ e=Qd:=by
 intro n;cases n with
 |zero=>intro C e l h;exact nS h
 |succ n=>
  intro C e l h;cases e with
  |Call g args yE pos=>
   cases g with
   |Name f q=>
    cases args with
    |cons a r=>rfl
    |nil=>
     cases yE with
     |cons a r=>rfl
     |nil=>
      exfalso;unfold cE at h;dsimp only at h;split at h
      .split at h
       .split at h
        .rename_i z;exact z.2.1 rfl
        .exact nS h
       .cases n with
        |zero=>exact nS h
        |succ n=>exact nS h
      .exact nS h
   |_=>rfl
  |Starred _ _=>exact nS h
  |Set _ _ _=>exact nS h
  |Slice _ _ _ _=>exact nS h
  |_=>rfl
def xi(h:cB n C e=Qa l):kQ e=Qd:=by
 cases n with
 |zero=>simp[cB]at h
 |succ n=>
  unfold cB at h;split at h
  .rfl
  .exact kH h
noncomputable def zk:List Str:=["len","sorted","tuple","list","sum","all","int","abs","range","isinstance","set","bool","ValueError","min","max","any","reversed"]
def cj(a b:Option NameKind):Prop:=a=b\/(a=Qa .free/\b=Qa .cell)
def excTail:List Value:=[.type "ValueError",.type "Exception",.type "BaseException",.type "object"]
structure CtOk(k:Nat)(X:Cx)(C:Ct)(p:Pm)(G:Nat->List D->R D)(sub:Nat->Nat->Bool):Prop where
 N:X.N=C.N
 nd:C.N.Nodup
 kinds:∀x,cj (C.kinds.lookup x) (X.env.scope.names.lookup x)
 calm:X.calm=Qd
 K:p.K=X.K
 room:Room (k+2) X.A
 blt:∀x∈zk,X.mg x=Qg
 funs:∀(j:Nat)(f:Str),C.funs[j]?=Qa f->j∉C.news->∃fa fd ps,FnOk X.prog X.w X.K X.mg X.base (j5 X.prog X.w) k fa fd ps (yO p G j ps.length)/\X.mg f=Qa (.ref fa)/\Yt X.K (.ref fa)=Qd/\Binds X.K fd ps []/\∀ds,G j ds≠.q9->ds.length=ps.length
 consts:∀(x:Str)(d:D),C.consts.lookup x=Qa d->∃a t,d=.int a/\X.mg x=Qa (.int a t)
 rf:∀(j:Nat)(f:Str),C.funs[j]?=Qa f->j∈C.news->∃fa fd ps,FnOk X.prog X.w X.K X.mg X.base (j5 X.prog X.w) k fa fd ps (RV p G j ps.length)/\X.mg f=Qa (.ref fa)/\Yt X.K (.ref fa)=Qd/\Binds X.K fd ps []/\∀ds,G j ds≠.q9->ds.length=ps.length
 excs:∀(c:Nat)(x:Str),C.excs[c]?=Qa x->∃Cc,p.cls[c]?=Qa Cc/\OwnCls x Cc excTail "ValueError.__new__" X.mg X.base
 Lj:∀(c:Nat)(Cc:Addr),p.cls[c]?=Qa Cc->ExOk X.K Cc/\kitOne X.K (.ref Cc) (.type "ValueError")=Qa Qd
 Li:∀(e c:Nat)(Ce Cc:Addr),p.cls[e]?=Qa Ce->p.cls[c]?=Qa Cc->exmOne X.K (.ref Ce) (.ref Cc)=Qa (sub e c)/\kitOne X.K (.ref Ce) (.ref Cc)=Qa (sub e c)
structure SSet:Prop where
 one:∀(X:Cx)(p:Pm)(G:Nat->List D->R D)(sub:Nat->Nat->Bool)(a:QC)(la:L)(q q2 q3 pos:Pos),p.K=X.K->X.calm=Qd->X.A.units+64<cLine->X.mg "sorted"=Qg->X.mg "set"=Qg->SB X p G sub a la->kQ a=Qd->Gl X "sorted"->Gl X "set"->
  SE X p G sub (.Call (.Name "sorted" q) [.Call (.Name "set" q2) [a] [] q3] [] pos) (.bi .jS [la])
 two:∀(X:Cx)(p:Pm)(G:Nat->List D->R D)(sub:Nat->Nat->Bool)(a b:QC)(la lb:L)(q q2 q3 q4 q5 xp pos:Pos),p.K=X.K->X.calm=Qd->X.A.units+64<cLine->X.mg "sorted"=Qg->X.mg "set"=Qg->SE X p G sub a la->SE X p G sub b lb->kQ a=Qd->kQ b=Qd->Gl X "sorted"->Gl X "set"->
  SE X p G sub (.Call (.Name "sorted" q) [.BinOp (.Call (.Name "set" q2) [a] [] q3) .BitXor (.Call (.Name "set" q4) [b] [] q5) xp] [] pos) (.sxor la lb)
section
variable{k:Nat}
def xT(h:yJ x=Qd):(x==("__debug__":Str))=Qh/\(x==("__classdict__":Str))=Qh:=by unfold yJ at h;simp only[Qp,Jn]at h;exact h
def CtOk.hu(T:CtOk k X C p G sub):X.A.units+64<cLine:=T.room.units
theorem CtOk.yR(T:CtOk k X C p G sub)(h:C.yR x=Qd):kA X.env.scope x/\(x==("__debug__":Str))=Qh/\(x==("__classdict__":Str))=Qh:=by
 unfold Ct.yR at h;rw[Qp]at h;refine⟨?_,xT h.1⟩;have h2:=h.2;have kk:=T.kinds x;unfold kA;split at h2
 .rename_i e;rw[e]at kk;rcases kk with z|⟨z,_⟩
  .exact .inl z.symm
  .cases z
 .rename_i e;rw[e]at kk;rcases kk with z|⟨z,_⟩
  .exact .inr (.inl z.symm)
  .cases z
 .rename_i e;rw[e]at kk;rcases kk with z|⟨_,z⟩
  .exact .inr (.inr z.symm)
  .exact .inr (.inl z)
 .cases h2
theorem CtOk.glob(T:CtOk k X C p G sub)(h:C.glob x=Qd):Gl X x/\(x==("__debug__":Str))=Qh:=by
 unfold Ct.glob at h;rw[Qp]at h;refine⟨?_,(xT h.1).1⟩;have kk:=T.kinds x;rw[(of_decide_eq_true h.2)]at kk;rcases kk with z|⟨z,_⟩
 .exact z.symm
 .cases z
theorem CtOk.loc(T:CtOk k X C p G sub)(h:C.loc x=Qa i):Loc X.env.scope x/\X.N[i]?=Qa x:=by
 unfold Ct.loc at h;have kk:=T.kinds x;split at h
 case isFalse=>exact nS h
 split at h
 .rename_i e;rw[e]at kk;rcases kk with z|⟨z,_⟩
  .exact⟨.inl z.symm,by rw[T.N];exact xN h⟩
  .cases z
 .rename_i e;rw[e]at kk;rcases kk with z|⟨z,_⟩
  .exact⟨.inr z.symm,by rw[T.N];exact xN h⟩
  .cases z
 .exact nS h
def p8(h:C.loc x=Qa i):(x==("__debug__":Str))=Qh/\(x==("__classdict__":Str))=Qh:=by
 unfold Ct.loc at h;split at h
 .rename_i e;exact xT e
 .exact nS h
def CtOk.at(T:CtOk k X C p G sub)(h:jC x C.N=Qa i):X.N[i]?=Qa x:=by rw[T.N];exact xN h
def Po{f:α->Bool}{l:List α}(h:l.all f=Qd):∀x∈l,f x=Qd:=Qq.mp h
theorem CtOk.inner(T:CtOk k X C p G sub)(h:C.Cb ts sc=Qd):ScOk X sc ts/\(zQ ts X.N).Nodup/\(∀x∈ts,sc.names.lookup x=Qa .local\/sc.names.lookup x=Qa .cell)/\
  ∀s2 H2 cl C' fp,CtOk k (zw X s2 H2 sc cl C' (zQ ts X.N) fp) (C.inner ts sc) p G sub:=by
 unfold Ct.Cb at h;simp only[Qp,decide_eq_true_eq]at h;obtain⟨⟨⟨⟨h1,h2⟩,h3⟩,h4⟩,h5⟩:=h;have eN:(C.inner ts sc).N=zQ ts X.N:=by unfold Ct.inner zQ;rw[T.N]
 have O7:=Po h4;have lX:=Po h5;have h3':∀x∈ts,sc.names.lookup x=Qa .local\/sc.names.lookup x=Qa .cell:=λx hx=>by have:=Po h3 x hx;simp only[JS,decide_eq_true_eq]at this;exact this
 refine⟨⟨h1,λy hy hc=>?_,λy hy hf=>?_,λy hy hl=>?_,λy hy hm=>?_,λy hy hm=>?_⟩,by rw[<-eN];exact h2,h3',λs2 H2 cl C' fp=>⟨eN.symm,h2,λx=>?_,T.calm,T.K,T.room,T.blt,T.funs,T.consts,T.rf,T.excs,T.Lj,T.Li⟩⟩
 .have:=O7 y hy;simp only[Qp,JS,decide_eq_true_eq]at this;exact this.1.1.resolve_left λz=>z hc
 .have:=O7 y hy;simp only[Qp,JS,decide_eq_true_eq]at this;have kk:=T.kinds y.1;rcases this.1.2 with(z|z)|z
  .exact absurd hf z
  .rw[z]at kk;rcases kk with w|⟨w,_⟩
   .exact .inl w.symm
   .cases w
  .rw[z]at kk;rcases kk with w|⟨_,w⟩
   .exact .inr w.symm
   .exact .inl w
 .have:=O7 y hy;simp only[Qp,JS,decide_eq_true_eq]at this;rcases this.2 with z|z
  .exact absurd hl z
  .exact z
 .have:=lX y (by rw[<-T.N];exact hy);rw[if_pos hm]at this;exact of_decide_eq_true this
 .have:=lX y (by rw[<-T.N];exact hy);rw[if_neg hm]at this;exact of_decide_eq_true this
 .show cj (sc.names.lookup x) ((U0 sc X.env).names.lookup x);rw[Xe];cases e:sc.names.lookup x with
  |none=>exact .inl rfl
  |some kd=>
   rw[Uk];split
   .rename_i c;simp only[Qp,beq_iff_eq]at c;exact .inr ⟨by rw[c.1.1],rfl⟩
   .exact .inl rfl
end
section
variable{k:Nat}
structure SoE(k:Nat)(p:Pm)(G:Nat->List D->R D)(sub:Nat->Nat->Bool)(n:Nat):Prop where
 E:∀(X:Cx)(C:Ct),CtOk k X C p G sub->∀e l,cE n C e=Qa l->SE X p G sub e l
 B:∀(X:Cx)(C:Ct),CtOk k X C p G sub->∀e l,cB n C e=Qa l->SB X p G sub e l
 Es:∀(X:Cx)(C:Ct),CtOk k X C p G sub->∀es ls,jk n C es=Qa ls->SA X p G sub es ls
 Bo:∀(X:Cx)(C:Ct),CtOk k X C p G sub->∀op xs l,Iy n C op xs=Qa l->∀pos,SE X p G sub (.BoolOp op xs pos) l
 T:∀(X:Cx)(C:Ct),CtOk k X C p G sub->∀e t,cT n C e=Qa t->ST X p G sub e t
 To:∀(X:Cx)(C:Ct),CtOk k X C p G sub->∀op xs t,L1 n C op xs=Qa t->∀pos,ST X p G sub (.BoolOp op xs pos) t
 I:∀(X:Cx)(C:Ct),CtOk k X C p G sub->∀e i,cI n C e=Qa i->∀tg,(∃fr,SI X p G sub fr tg e i)/\(C.aT e=Qh->SI X p G sub Qd tg e i)
 Call:∀(X:Cx)(C:Ct),CtOk k X C p G sub->∀f args l,EM n C f args=Qa l->C.glob f=Qd->jC f C.funs=Qg->∀q pos,SE X p G sub (.Call (.Name f q) args [] pos) l
def q1r:("len":Str)∈zk:=by unfold zk;simp
def EI:("sorted":Str)∈zk:=by unfold zk;simp
def eD:("tuple":Str)∈zk:=by unfold zk;simp
def EJ:("list":Str)∈zk:=by unfold zk;simp
def q1w:("all":Str)∈zk:=by unfold zk;simp
def q1x:("int":Str)∈zk:=by unfold zk;simp
def Im:("range":Str)∈zk:=by unfold zk;simp
def q1y:("isinstance":Str)∈zk:=by unfold zk;simp
def eB:("set":Str)∈zk:=by unfold zk;simp
def q1s:("bool":Str)∈zk:=by unfold zk;simp
def q1u:("min":Str)∈zk:=by unfold zk;simp
def q1v:("any":Str)∈zk:=by unfold zk;simp
def eC:("reversed":Str)∈zk:=by unfold zk;simp
def q1t:("ValueError":Str)∈zk:=by unfold zk;simp
def Fq(h:jk (n+1) C (e::es)=Qa ls):∃a l,cE n C e=Qa a/\jk n C es=Qa l/\ls=a::l:=by refine oC h λa g1 h=>?_;obtain⟨l,g2,h⟩:=oM h;exact⟨a,l,g1,g2,h.symm⟩
def eO{ls:List Ev.T}(h:XD (n+1) C (e::es)=Qa ls):∃a l,cT n C e=Qa a/\XD n C es=Qa l/\ls=a::l:=by refine oC h λa g1 h=>?_;obtain⟨l,g2,h⟩:=oM h;exact⟨a,l,g1,g2,h.symm⟩
def nP(h:nO C e=Qa args):∃q pos,e=.Call (.Name (Qy "range") q) args [] pos/\C.glob (Qy "range")=Qd:=by
 obtain⟨⟨f,as⟩,g1,h⟩:=oB h;split at h
 .rename_i hf;obtain⟨rfl,hg,_⟩:=hf;cases h;obtain⟨q,pos,rfl⟩:=eR g1;exact⟨_,_,rfl,hg⟩
 .exact nS h
def tU(h:tT C e=Qa a):∃q pos,e=.Call (.Name (Qy "reversed") q) [a] [] pos/\C.glob (Qy "reversed")=Qd:=by
 obtain⟨⟨f,b⟩,g1,h⟩:=oB h;split at h
 .rename_i hf;obtain⟨rfl,hg,_⟩:=hf;cases h;obtain⟨q,pos,rfl⟩:=PM g1;exact⟨_,_,rfl,hg⟩
 .exact nS h
def qAh{b:QC}(h:cU C e=Qa (a,b)):∃q1 q2 q3 q4 xp,e=.BinOp (.Call (.Name (Qy "set") q1) [a] [] q2) .BitXor (.Call (.Name (Qy "set") q3) [b] [] q4) xp/\C.glob (Qy "set")=Qd:=by
 unfold cU at h;split at h
 .split at h
  .rename_i ho;obtain⟨⟨f,a'⟩,g1,h1⟩:=oB h;obtain⟨⟨f2,b'⟩,g2,h⟩:=oB h1;split at h
   .rename_i hf;cases h;refine wH hf λqe qf hg _=>?_;subst qe qf;obtain⟨q1,q2,rfl⟩:=PM g1;obtain⟨q3,q4,rfl⟩:=PM g2;subst ho;exact⟨_,_,_,_,_,rfl,hg⟩
   .exact nS h
  .exact nS h
 .exact nS h
def fF(h:EW C e=Qa x):(∃q,e=.Name x q)/\C.yR x=Qd:=by
 refine oC h λy g1 h=>?_;split at h
 .rename_i hc;cases h;exact⟨jI g1,hc.2⟩
 .exact nS h
theorem EN{C:Ct}:∀{n:Nat}{es:List QC}{ls:List L},jk n C es=Qa ls->∀x∈es,kQ x=Qd
 |0,es,ls,h=>by simp[jk]at h
 |n+1,[],ls,h=>λx hx=>absurd hx (by simp)
 |n+1,e::es,ls,h=>by
  refine qL (Fq h) λa l g1 g2 zz=>?_;subst zz;intro x hx;rcases Qo.mp hx with rfl|hx
  .exact kH g1
  .exact EN g2 x hx
theorem bj{env:YK}{pos:Pos}:∀{es:List QC},(∀x∈es,kQ x=Qd)->(UO pos (Q5 es env)).any (·.1)=Qh
 |[],_=>rfl
 |e::es,h=>by rw[jU (h e (by simp))];show(Qh||(UO pos (Q5 es env)).any (·.1))=Qh;rw[bj λx hx=>h x (Qc _ hx)];rfl
def q8O(F:FnOk X.prog X.w X.K X.mg X.base (j5 X.prog X.w) kk f fd ps (yO p G j ps.length))(hr:Room kk X.A)
  (hg:Gl X x) (hm:X.mg x=Qa (.ref f)) (hk:Yt X.K (.ref f)=Qd) (hb:Binds X.K fd ps []) (ha:SA X p G sub (e::es) ls) (qT:∀ds,G j ds≠.q9->ds.length=ps.length)
  (XM:(x==("__debug__":Str))=Qh) (he:Q5 (e::es) X.env=(Qh,Jw e X.env)::Q5 es X.env) (xH:(UO pos (Q5 es X.env)).any (·.1)=Qh):SE X p G sub (.Call (.Name x q) (e::es) [] pos) (.call j ls):=by
 intro pins s Y H Z os I R hs;rw[vC]at hs|-;refine Je (uu I hg hm ?_ XM);refine F7 I.ok.mod.xP hk (Qi (ha pos pins s Y H Z os I R (z7 hs)) (λus s1 zz=>qi zz λds vs H1 e1 I1 r1 x1 q1=>⟨I1.vU,?_⟩) (λe s' z=>z.bind)) he xH;rw[e1]at hs|-;exact Qi (bK F hr hb I1 r1 (R.ext x1).nd (R.ext x1).th q1 (qT ds hs) hs) (λu s2 zz=>qi zz λd v H2 e2 I2 rv x2 q2=>⟨d,v,H2,e2,I2,rv,x1.trans x2,q2⟩) (λe s' z=>z.ext x1)
def L0{i:I}(h:cI n C e=Qa i):kQ e=Qd:=by
 cases n with
 |zero=>exact nS h
 |succ n=>
  unfold cI at h;split at h
  .rename_i args hr;obtain⟨q,pos,rfl,_⟩:=nP hr;cases args with
   |cons a r=>rfl
   |nil=>rw[if_neg (by decide)]at h;exact nS h
  .split at h
   .rename_i a hr;obtain⟨q,pos,rfl,_⟩:=tU hr;rfl
   split at h
   .rename_i x hx;obtain⟨q,rfl⟩:=jI hx;rfl
   .obtain⟨l,e1,_⟩:=oM h;exact kH e1
def eP{ts:List Ev.T}(ih:∀m,m<n->∀(X:Cx)(C:Ct),CtOk k X C p G sub->∀e t,cT m C e=Qa t->ST X p G sub e t)(T:CtOk k X C p G sub)(h:XD n C ifs=Qa ts)(hl:ts.length<=1):E8 X p G sub ifs ts:=by
 cases n with
 |zero=>simp[XD]at h
 |succ n=>
  cases ifs with
  |nil=>simp[XD]at h;exact .inl ⟨rfl,h⟩
  |cons c r=>
   obtain⟨a,l,g1,g2,rfl⟩:=eO h;cases l with
   |cons _ _=>exact absurd hl (λz=>Nat.not_succ_le_zero _ (Nat.le_of_succ_le_succ z))
   |nil=>
    cases r with
    |nil=>exact .inr ⟨c,a,rfl,rfl,ih n (Yg n) X C T _ _ g1⟩
    |cons c2 r2=>
     cases n with
     |zero=>exact nS g2
     |succ n=>obtain⟨_,_,_,_,z⟩:=eO g2;cases z
def q0o(hK:p.K=X.K)(hc:X.calm=Qd)(nd:(zQ ts X.N).Nodup)(rl:∀x∈ts,sc.names.lookup x=Qa .local\/sc.names.lookup x=Qa .cell)
  (h:RZ tg=Qa (kk,ts)):X8 (zw X s2 H2 sc cl C' (zQ ts X.N) fp) p tg kk ts.length:=by
 have lo:∀x∈ts,Loc (zw X s2 H2 sc cl C' (zQ ts X.N) fp).env.scope x/\((zw X s2 H2 sc cl C' (zQ ts X.N) fp).fn x=Qd\/(zw X s2 H2 sc cl C' (zQ ts X.N) fp).env.scope.names.lookup x=Qa .local):=λx hx=>by
  rcases rl x hx with z|z
  .have:(U0 sc X.env).names.lookup x=Qa .local:=(by rw[Xe,z];rfl);exact⟨.inl this,.inr this⟩
  .have:(U0 sc X.env).names.lookup x=Qa .cell:=(by rw[Xe,z];rfl);exact⟨.inr this,.inl (beq_iff_eq.mpr z)⟩
 unfold RZ at h;split at h
 .cases h;have:=lo _ (Qe ..);exact q0E nd rfl this.1 this.2
 .refine oC h λab h1 h=>?_;refine oC h λx h2 h=>?_;obtain⟨y,h3,h⟩:=oM h;obtain⟨q1,e1⟩:=jI h2;obtain⟨q2,e2⟩:=jI h3;rw[CO h1,e1,e2];cases h;have a1:=lo _ (Qe ..);have a2:=lo _ (Qc _ (Qe ..));exact q8w hK hc nd rfl a1.1 a1.2 rfl a2.1 a2.2
 .exact nS h
def eI(h:cE (n+1) C (.Compare a ops cs q)=Qa l):∃op b la lb,ops=[op]/\cs=[b]/\cB n C a=Qa la/\cB n C b=Qa lb/\l=.cm (wh op) la lb:=by refine oC h λop h1 h=>?_;refine oC h λb h2 h=>?_;refine oC h λla g1 h=>?_;refine qR (oM h) λlb g2 h=>?_;exact⟨op,b,la,lb,ky h1,ky h2,g1,g2,h.symm⟩
def q28(h:cB n C (.Compare a ops cs q)=Qa l):∃m op b la lb,m<n/\ops=[op]/\cs=[b]/\cB m C a=Qa la/\cB m C b=Qa lb/\l=.cm (wh op) la lb:=by
 cases n with
 |zero=>exact nS h
 |succ n=>
  cases n with
  |zero=>exact nS h
  |succ n=>
   obtain⟨op,b,la,lb,z⟩:=eI (q:=q) h;exact⟨n,op,b,la,lb,QF (Yg n) (J4 _),z⟩
noncomputable def plainT:QC->Bool
 |.BoolOp _ _ _=>Qh
 |.UnaryOp .Not _ _=>Qh
 |.IfExp _ _ _ _=>Qh
 |.Compare _ _ _ _=>Qh
 |_=>Qd
def q7O(h:plainT e=Qd):∀ve,isTrue e env ve=(do let v <-ve;standAt e.pos;WD [v] (truthy v)):=by
 intro ve;cases e<;>first|(cases h;done)|skip
 all_goals first|(with_unfolding_all rfl;done)|(rename_i op _ _;cases op<;>first|(cases h;done)|(with_unfolding_all rfl))
def q7N(h:plainT e=Qd):S7 e=Qh:=by
 cases e<;>first|rfl|(cases h;done)|skip
 rename_i op _ _;cases op<;>first|rfl|(cases h;done)
def Iz(h:jk n C []=Qa ls):ls=[]:=by
 cases n with
 |zero=>exact nS h
 |succ n=>cases h;rfl
def eJ(h:jk n C [a]=Qa ls):∃l,ls=[l]:=by
 cases n with
 |zero=>exact nS h
 |succ n=>
  obtain⟨l,_,_,g2,rfl⟩:=Fq h;rw[Iz g2];exact⟨_,rfl⟩
def q29{b:QC}(h:jk n C [a,b]=Qa ls):∃l m,ls=[l,m]:=by
 cases n with
 |zero=>exact nS h
 |succ n=>
  refine qL (Fq h) λl _ _ g2 zz=>?_;subst zz;obtain⟨m,rfl⟩:=eJ g2;exact⟨_,_,rfl⟩
def q1d(T:CtOk k X C p G sub)(h:Fj f=Qa b)(hg:Gl X f)(hd:(f==("__debug__":Str))=Qh)(ha:SB X p G sub a la)(qX:Q5 [a] X.env=[(Qh,Jw a X.env)]):SE X p G sub (.Call (.Name f q) [a] [] pos) (.bi b [la]):=by
 unfold Fj at h;split at h
 .rename_i e;cases h;subst e;exact Aq (q23 T.K) hg (T.blt _ q1r) PySem.boot_len ha (by decide) hd qX
 split at h
 .rename_i e;cases h;subst e;exact Aq (q25 T.K T.calm T.hu) hg (T.blt _ EI) YV ha (by decide) hd qX
 split at h
 .rename_i e;cases h;subst e;exact q04 (q26 T.K) hg (T.blt _ eD) WO ha (by decide) hd qX
 split at h
 .rename_i e;cases h;subst e;exact q04 (q24 T.K) hg (T.blt _ EJ) Uh ha (by decide) hd qX
 split at h
 .rename_i e;cases h;subst e;exact Aq (q21 T.K T.calm) hg (T.blt _ q1w) PyProof.Rows.boot_all ha (by decide) hd qX
 split at h
 .rename_i e;cases h;subst e;exact Aq (q22 T.K T.calm) hg (T.blt _ q1v) PyProof.Rows.boot_any ha (by decide) hd qX
 .exact nS h
def q56{c:Str}(T:CtOk k X C p G sub)(h:S8 C c=Qa b)(hg:Gl X "isinstance")(ha:SB X p G sub a la)(qX:Q5 [a,.Name c q2] X.env=[(Qh,Jw a X.env),(Qh,Jw (.Name c q2) X.env)]):SE X p G sub (.Call (.Name "isinstance" q) [a,.Name c q2] [] pos) (.bi b [la]):=by
 have hm:=T.blt _ q1y;unfold S8 at h;split at h
 .rename_i hgc;obtain⟨g1,g2⟩:=T.glob hgc;split at h
  .rename_i e;cases h;subst e;exact Pz (q1l T.K) hg hm ha (λE Q pins s Y H I hq=>jr I g1 (T.blt _ eD) WO hq (by decide) g2) qX
  split at h
  .rename_i e;cases h;subst e;exact Pz (q1j T.K) hg hm ha (λE Q pins s Y H I hq=>jr I g1 (T.blt _ EJ) Uh hq (by decide) g2) qX
  split at h
  .rename_i e;cases h;subst e;exact Pz q1h hg hm ha (λE Q pins s Y H I hq=>jr I g1 (T.blt _ q1x) PyProof.Rows.boot_int hq (by decide) g2) qX
  split at h
  .rename_i e;cases h;subst e;exact Pz q1f hg hm ha (λE Q pins s Y H I hq=>jr I g1 (T.blt _ q1s) PyProof.Rows.boot_bool hq (by decide) g2) qX
  split at h
  .rename_i e;cases h;subst e;exact Pz (q1m T.Lj) hg hm ha (λE Q pins s Y H I hq=>jr I g1 (T.blt _ q1t) (by decide+kernel) hq (by decide) g2) qX
  .obtain⟨kk,e1,rfl⟩:=oM h;obtain⟨Cc,wy,jH⟩:=T.excs kk c (xN e1);exact Pz (q1g λe Ce he=>⟨(T.Lj e Ce he).1,(T.Li e kk Ce Cc he wy).2⟩) hg hm ha (λE Q pins s Y H I hq=>uu I g1 jH.bound hq g2) qX
 .exact nS h
def fL(h:cE (n+1) C (.ListComp elt gs sc pos)=Qa l):∃tg it ifs kk ts li le lc,gs=[⟨tg,it,ifs,0⟩]/\RZ tg=Qa (kk,ts)/\cI n C it=Qa li/\cE n (C.inner ts sc) elt=Qa le/\XD n (C.inner ts sc) ifs=Qa lc/\C.Cb ts sc=Qd/\lc.length<=1/\l=.comp kk le li lc:=by
 refine oC h λg hg h=>?_;split at h
 .rename_i ha;obtain⟨⟨kk,ts⟩,Tz,h⟩:=oB h;refine oC h λli c1 h=>?_;refine oC h λle c2 h=>?_;refine oC h λlc c3 h=>?_;split at h
  .rename_i Tx;cases h;rw[Qp,decide_eq_true_eq]at Tx;obtain⟨tg,it,ifs,a⟩:=g;cases ha;exact⟨tg,it,ifs,kk,ts,li,le,lc,ky hg,Tz,c1,c2,c3,Tx.1,Tx.2,rfl⟩
  .exact nS h
 .exact nS h
def sound(u5:SSet):∀n,SoE k p G sub n:=by
 intro n
 induction n using Nat.strongRecOn with
 |ind n ih=>
  cases n with
  |zero=>
   refine⟨λX C T e l h=>?_,λX C T e l h=>?_,λX C T e l h=>?_,λX C T op e l h=>?_,λX C T e l h=>?_,λX C T op e l h=>?_,λX C T e l h=>?_,λX C T f a l h=>?_⟩
   all_goals exact nS h
  |succ n=>
   have qm:=ih n (Yg n);have hE:∀(X:Cx)(C:Ct),CtOk k X C p G sub->∀e l,cE (n+1) C e=Qa l->SE X p G sub e l:=by
    intro X C T e l h;cases e with
    |Constant c j pos=>
     obtain⟨d,e1,rfl⟩:=oM h;exact q05 e1
    |Name x pos=>
     unfold cE at h;dsimp only at h;split at h
     .rename_i hv;split at h
      .exact nS h
      .obtain⟨i,e1,rfl⟩:=oM h;obtain⟨v1,v2,v3⟩:=T.yR hv;exact q8l (T.at e1) v1 v2 v3
     .split at h
      .rename_i hg;obtain⟨d,e1,rfl⟩:=oM h;obtain⟨a,t,rfl,hm⟩:=T.consts x d e1;obtain⟨g1,g2⟩:=T.glob hg;exact q8U (v:=.int a) g1 hm ⟨t,rfl⟩ (λ_=>rfl) g2
      .exact nS h
    |BinOp a op b pos=>
     refine oC h λo e1 h=>?_;refine oC h λla e2 h=>?_;obtain⟨lb,e3,rfl⟩:=oM h;exact q8e T.K e1 (qm.B X C T _ _ e2) (qm.B X C T _ _ e3)
    |Compare a ops bs pos=>
     obtain⟨op,b,la,lb,rfl,rfl,e2,e3,rfl⟩:=eI h;exact q8R T.K T.hu (pZ (xi e3)) (qm.B X C T _ _ e2) (qm.B X C T _ _ e3)
    |UnaryOp op a pos=>
     cases op with
     |Not=>
      obtain⟨d,e1,rfl⟩:=oM h;exact q8c T.K (qm.B X C T _ _ e1)
     |USub=>
      obtain⟨d,e1,rfl⟩:=oM h;exact q8b (qm.E X C T _ _ e1)
     |_=>exact nS h
    |BoolOp op xs pos=>exact qm.Bo X C T _ _ _ h _
    |IfExp c a b pos=>
     refine oC h λlc e1 h=>?_;refine oC h λla e2 h=>?_;obtain⟨lb,e3,rfl⟩:=oM h;exact q8X (qm.T X C T _ _ e1) (qm.E X C T _ _ e2) (qm.E X C T _ _ e3)
    |Tuple xs j pos=>
     obtain⟨d,e1,rfl⟩:=oM h;exact q8k (qm.Es X C T _ _ e1)
    |List xs pos=>
     obtain⟨d,e1,rfl⟩:=oM h;exact q8Z (qm.Es X C T _ _ e1)
    |Subscript a i pos=>
     have P9:∀i,(match EW C a with
       |some x=>(jC x C.N).bind λj=>(cE n C i).map (.idxC j)
       |none=>(cB n C a).bind λa=>(cE n C i).map (.idx a))=Qa l->SE X p G sub (.Subscript a i pos) l:=λi h2=>by
      clear h;split at h2
      .rename_i x hx;refine oC h2 λj e1 h=>?_;obtain⟨li,e2,rfl⟩:=oM h;obtain⟨⟨q,rfl⟩,hv⟩:=fF hx;obtain⟨v1,v2,v3⟩:=T.yR hv;exact q8Q T.K T.hu (T.at e1) v1 v2 v3 (qm.E X C T _ _ e2) (S9 (kH e2))
      refine oC h2 λla e1 h=>?_;obtain⟨li,e2,rfl⟩:=oM h;exact q8V T.K T.hu (S9 (kH e2)) (qm.B X C T _ _ e1) (qm.E X C T _ _ e2).b
     cases i with
     |Slice lo hi st p2=>
      refine oC h λkk e1 h=>?_;refine oC h λla e2 h=>?_;refine oC h λSY e3 h=>?_;refine oC h λSX e4 h=>?_;split at h
      .rename_i hc;cases h;have so:∀(o:Option QC)(ls:List L),jk n C o.toList=Qa ls->SO X p G sub o ls:=by
        intro o ls ho;cases o with
        |none=>exact .inl ⟨rfl,Iz ho⟩
        |some e=>
         cases n with
         |zero=>exact nS ho
         |succ n=>
          obtain⟨l1,l2,g1,g2,rfl⟩:=Fq ho;rw[Iz g2];exact .inr ⟨e,l1,rfl,rfl,(ih n (QF (Yg n) (J4 _))).E X C T _ _ g1⟩
       have hn:∀(o:Option QC)(ls:List L),jk n C o.toList=Qa ls->ls.isEmpty=Qd->o=Qg/\ls=[]:=by
        intro o ls ho hl;rcases so o ls ho with⟨z1,z2⟩|⟨_,_,_,z2,_⟩
        .exact⟨z1,z2⟩
        .rw[z2]at hl;cases hl
       unfold q0j at e1;split at e1
       .cases e1;exact q8j T.K (qm.B X C T _ _ e2) (so _ _ e3) (so _ _ e4)
       .cases e1;have hc:=hc.resolve_left (by decide);obtain⟨rfl,rfl⟩:=hn _ _ e3 hc.1;obtain⟨rfl,rfl⟩:=hn _ _ e4 hc.2;exact q8g T.K (qm.B X C T _ _ e2)
       .exact nS e1
      .exact nS h
     |_=>exact P9 _ h
    |Call gg args yE pos=>
     cases gg with
     |Name f q=>
      unfold cE at h;dsimp only at h;split at h
      .rename_i hg;obtain⟨g1,g2⟩:=T.glob hg;split at h
       .rename_i i hi;split at h
        .rename_i jB;obtain⟨Tq,jB,xG⟩:=jB;obtain⟨ls,e1,rfl⟩:=oM h;refine qi (T.funs i f (xN hi) xG) λfa fd ps F hm hk hb qT=>?_;have Rh:=qm.Es X C T _ _ e1;cases Q8.mp Tq;cases args with
         |nil=>cases jB rfl
         |cons a r=>
          have Xk:∀x∈a::r,kQ x=Qd:=EN e1;exact q8O F (T.room.mono (Nat.le_add_right _ _)) g1 hm hk hb Rh qT g2 (jU (Xk a (Qe ..))) (bj λx hx=>Xk x (Qc _ hx))
        .exact nS h
       .rename_i hi;split at h
        .rename_i Tq;cases Q8.mp Tq;exact qm.Call X C T f args l h hg hi q pos
        .split at h
         .rename_i hf;refine oC h λa ha h1=>?_;clear h;cases ky ha;refine oC h1 λg OO h=>?_;split at h
          .rename_i OK;refine oC h λla e1 h=>?_;refine oC h λj e2 h=>?_;split at h
           .exact nS h
           rename_i xG;cases h;subst hf;refine qi (T.funs j g (xN e2) xG) λfa fd ps F hm hk hb qT=>?_;obtain⟨O4,O5⟩:=T.glob OK;obtain⟨q2,q3,rfl⟩:=q5V OO;exact q8i T.K T.calm T.hu F T.room.in1.in1 hb qT O4 hm O5 g1 (T.blt _ EI) (qm.B X C T _ _ e1) (jU (xi e1))
          .exact nS h
         .split at h
          .rename_i hf;refine oC h λa ha h1=>?_;clear h;cases ky ha;refine oC h1 λg OO h=>?_;split at h
           .rename_i OK;refine oC h λla e1 h=>?_;refine oC h λj e2 h=>?_;split at h
            .exact nS h
            rename_i xG;cases h;subst hf;refine qi (T.funs j g (xN e2) xG) λfa fd ps F hm hk hb qT=>?_;obtain⟨O4,O5⟩:=T.glob OK;obtain⟨q2,q3,q4,k1,q5,rfl⟩:=q5W OO;exact q8a T.K T.calm T.hu F (T.room.in1.mono (J4 _)) hb qT O4 hm O5 g1 (T.blt _ q1u) (qm.E X C T _ _ e1) (jU (kH e1))
           .exact nS h
          .exact nS h
      .exact nS h
     |Attribute o m ap=>
      unfold cE at h;dsimp only at h;split at h
      .rename_i zo;obtain⟨Tq,zo⟩:=zo;cases Q8.mp Tq;split at h
       .rename_i x hx;obtain⟨⟨q,rfl⟩,hv⟩:=fF hx;split at h
        .rename_i hm;obtain⟨⟨ka,kb⟩,e0,h⟩:=oB h;refine oC h λj e1 h=>?_;refine oC h λlk e2 h=>?_;obtain⟨ld,e3,rfl⟩:=oM h;cases CO e0;subst hm;refine uV (T.yR hv) λv1 v2 v3=>?_;exact q8P T.K T.hu (T.at e1) v1 v2 v3 (qm.E X C T _ _ e2) (qm.E X C T _ _ e3) (by rw[jU (kH e2),jU (kH e3)];rfl) zo
        .exact nS h
       refine oC h λlo e1 h1=>?_;clear h;split at h1
       .rename_i ha0;cases Q8.mp ha0;split at h1
        .rename_i hm;cases h1;subst hm;exact q8N (Ih (xi e1)) zo (qm.B X C T _ _ e1)
        .exact nS h1
       .refine oC h1 λy hy h=>?_;clear h1;cases ky hy;cases y with
        |Constant c j q=>
         refine oC h λd e2 h1=>?_;clear h;have h:=h1;clear h1;split at h
         .rename_i hm;cases h;subst hm;exact q8T T.K T.hu e2 (Ih (xi e1)) zo (qm.B X C T _ _ e1)
         .split at h
          .rename_i hm;cases h;subst hm;exact q8W T.K T.hu e2 (Ih (xi e1)) zo (qm.B X C T _ _ e1)
          .exact nS h
        |_=>exact nS h
      .exact nS h
     |_=>exact nS h
    |ListComp elt gs sc pos=>
     obtain⟨tg,it,ifs,kk,ts,li,le,lc,rfl,Tz,e1,e2,e3,q4X,q4Y,rfl⟩:=fL h;refine wH (T.inner q4X) λS CD GB inner=>?_;obtain⟨fr,hi⟩:=(qm.I X C T _ _ e1 tg).1;refine q8S T.calm S hi (λs2 H2 cl C' fp=>qm.E _ _ (inner s2 H2 cl C' fp) _ _ e2) (λs2 H2 cl C' fp=>eP (λm hm X C T e t h=>(ih m (UC hm)).T X C T e t h) (inner s2 H2 cl C' fp) e3 q4Y) (λs2 H2 cl C' fp=>?_) (Lr (L0 e1));exact q0o T.K T.calm CD GB Tz
    |_=>exact nS h
   have hB:∀(X:Cx)(C:Ct),CtOk k X C p G sub->∀e l,cB (n+1) C e=Qa l->SB X p G sub e l:=by
    intro X C T e l h;unfold cB at h;split at h
    .rename_i x q;split at h
     .rename_i hv;obtain⟨i,e1,rfl⟩:=oM h;obtain⟨v1,v2,v3⟩:=T.yR hv.1;exact q02 (T.at e1) v1 v2 v3
     .exact (qm.E X C T _ _ h).b
    .exact (qm.E X C T _ _ h).b
   refine⟨hE,hB,λX C T es ls h=>?_,λX C T op xs l h pos=>?_,λX C T e t h=>?_,λX C T op xs t h pos=>?_,λX C T e i h tg=>?_,λX C T f args l h hg hi q pos=>?_⟩
   .cases es with
    |nil=>cases h;exact q01
    |cons e es=>
     obtain⟨a,l,g1,g2,rfl⟩:=Fq h;exact q00 (qm.E X C T _ _ g1) (qm.Es X C T _ _ g2) (jU (kH g1))
   .cases xs with
    |nil=>exact nS h
    |cons a r=>
     cases r with
     |nil=>
      exact q8d (qm.E X C T _ _ h)
     |cons b r=>
      refine oC h λla g1 h=>?_;obtain⟨lb,g2,rfl⟩:=oM h;cases op with
      |And=>exact q8M (qm.E X C T _ _ g1) (qm.Bo X C T _ _ _ g2 _)
      |Or=>exact q8f (qm.E X C T _ _ g1) (qm.Bo X C T _ _ _ g2 _)
   .unfold cT at h;split at h
    .exact qm.To X C T _ _ _ h _
    .obtain⟨a,e1,rfl⟩:=oM h;exact q9v (qm.T X C T _ _ e1)
    .exact nS h
    .rename_i x1 x2 x3;obtain⟨a,e1,rfl⟩:=oM h
     by_cases m6:∃l0 ops cs q0,e=.Compare l0 ops cs q0
     .obtain⟨l0,ops,cs,q0,rfl⟩:=m6;obtain⟨m,op,b,la,lb,hm,rfl,rfl,g1,g2,rfl⟩:=q28 e1;exact q9t T.K T.hu (pZ (xi g2)) ((ih m ∅).B X C T _ _ g1) ((ih m ∅).B X C T _ _ g2)
     .have pt:plainT e=Qd:=by
       cases e<;>first|rfl|skip
       .exact absurd rfl (x1 _ _ _)
       .rename_i op a q;cases op<;>first|rfl|exact absurd rfl (x2 _ _)
       .exact absurd rfl (x3 _ _ _ _)
       .exact absurd ⟨_,_,_,_,rfl⟩ m6
      exact q9u T.K (q7O pt) (q7N pt) (qm.B X C T _ _ e1)
   .cases xs with
    |nil=>exact nS h
    |cons a r=>
     cases r with
     |nil=>
      cases op with
      |And=>exact q9s (qm.T X C T _ _ h)
      |Or=>exact q9x (qm.T X C T _ _ h)
     |cons b r=>
      refine oC h λla g1 h=>?_;obtain⟨lb,g2,rfl⟩:=oM h;cases op with
      |And=>exact q9r (qm.T X C T _ _ g1) (qm.To X C T _ _ _ g2 _)
      |Or=>exact q9w (qm.T X C T _ _ g1) (qm.To X C T _ _ _ g2 _)
   .have plain:(cE n C e).map I.e=Qa i->(∃fr,SI X p G sub fr tg e i)/\(C.aT e=Qh->SI X p G sub Qd tg e i):=λh=>by obtain⟨l,e1,rfl⟩:=oM h;exact⟨⟨Qd,q0F T.K (qm.E X C T _ _ e1)⟩,λ_=>q0F T.K (qm.E X C T _ _ e1)⟩
    unfold cI at h;split at h
    .rename_i args hr;refine kX (nP hr) λq pos zz hg=>?_;subst zz;obtain⟨g1,g2⟩:=T.glob hg;have hm:=T.blt _ Im;split at h
     .refine qR (oM h) λls e1 zz=>?_;subst zz;have Rh:=qm.Es X C T _ _ e1;have Xk:=EN e1;cases args with
      |nil=>rename_i z;exact absurd z (by decide)
      |cons a r=>
       have s1:=jU (es:=r) (env:=X.env) (Xk a (Qe ..));cases r with
       |nil=>
        obtain⟨la,rfl⟩:=eJ e1;exact⟨⟨Qd,bP g1 hm Rh s1⟩,λ_=>bP g1 hm Rh s1⟩
       |cons b r=>
        cases r with
        |nil=>
         obtain⟨la,lb,rfl⟩:=q29 e1;have s2:Q5 [b] X.env=[(Qh,Jw b X.env)]:=jU (Xk b (Qc _ (Qe ..)));rw[s2]at s1;exact⟨⟨Qd,q0J g1 hm Rh s1 s2⟩,λ_=>q0J g1 hm Rh s1 s2⟩
        |cons _ _=>rename_i z;exact z.elim (λz=>nomatch z) λz=>nomatch z
     .exact nS h
    .split at h
     .rename_i a hr;refine kX (tU hr) λq pos zz hg=>?_;subst zz;refine qR (oM h) λla e1 zz=>?_;subst zz;have sr:SI X p G sub Qd tg (.Call (.Name (Qy "reversed") q) [a] [] pos) (.rev la):=q93 T.K (T.glob hg).1 (T.blt _ eC) (qm.E X C T _ _ e1) (jU (kH e1));exact⟨⟨Qd,sr⟩,λ_=>sr⟩
     split at h
     .rename_i x hx;obtain⟨q,rfl⟩:=jI hx;split at h
      .rename_i hv;obtain⟨i,e1,rfl⟩:=oM h;obtain⟨v1,v2,v3⟩:=T.yR hv.1;refine⟨⟨Qh,q8y T.K (T.at e1) v1 v2 v3⟩,λmO=>?_⟩;exact absurd hv.2 (of_decide_eq_false mO)
      .exact plain h
     .exact plain h
   .obtain⟨gf,gd⟩:=T.glob hg;have one:∀a l,((Fj f).bind λb=>(cB n C a).map λa=>L.bi b [a])=Qa l->SE X p G sub (.Call (.Name f q) [a] [] pos) l:=by intro a l h;refine oC h λb g1 h=>?_;obtain⟨la,g2,rfl⟩:=oM h;exact q1d T g1 gf gd (qm.B X C T _ _ g2) (jU (xi g2))
    cases args with
    |nil=>exact nS h
    |cons y r=>
     cases r with
     |nil=>
      unfold EM at h;dsimp only at h;split at h
      .rename_i g a hy;obtain⟨q2,q3,rfl⟩:=PM hy;split at h
       .rename_i hf;refine wH hf λqe qf Tj XO=>?_;subst qe qf;obtain⟨la,e1,rfl⟩:=oM h;exact q8Y T.calm gf (T.blt _ EJ) (T.glob Tj).1 (T.blt _ Im) (by decide) (qm.E X C T _ _ e1) (jU (kH e1))
       split at h
       .rename_i hf;refine wH hf λqe qf Tj XO=>?_;subst qe qf;obtain⟨la,e1,rfl⟩:=oM h;exact u5.one X p G sub a la q q2 q3 pos T.K T.calm T.hu (T.blt _ EI) (T.blt _ eB) (qm.B X C T _ _ e1) (xi e1) gf (T.glob Tj).1
       split at h
       .rename_i hf;refine wH hf λqe qf Tj XO=>?_;subst qe qf;obtain⟨la,e1,rfl⟩:=oM h;exact q8h T.K T.calm gf (T.blt _ EJ) (T.glob Tj).1 (T.blt _ eC) (qm.B X C T _ _ e1) (jU (xi e1))
       .exact one _ _ h
      .split at h
       .rename_i hf;subst hf;split at h
        .rename_i a b hx;obtain⟨q1,q2,q3,q4,xp,rfl,Tj⟩:=qAh hx;refine oC h λla e1 h=>?_;refine qR (oM h) λlb e2 zz=>?_;subst zz;exact u5.two X p G sub a b la lb q q1 q2 q3 q4 xp pos T.K T.calm T.hu (T.blt _ EI) (T.blt _ eB) (qm.E X C T _ _ e1) (qm.E X C T _ _ e2) (kH e1) (kH e2) gf (T.glob Tj).1
        .obtain⟨la,e1,rfl⟩:=oM h;exact one _ _ (by rw[e1];rfl)
       .exact one _ _ h
     |cons y2 r=>
      cases r with
      |nil=>
       unfold EM at h;dsimp only at h;split at h
       .rename_i hf;subst hf;refine oC h λc hc h=>?_;refine oC h λla g1 h=>?_;obtain⟨b,g2,rfl⟩:=oM h;obtain⟨q2,rfl⟩:=jI hc;exact q56 T g2 gf (qm.B X C T _ _ g1) (by rw[jU (xi g1)];rfl)
       .exact nS h
      |cons _ _=>exact nS h
end
section
variable{k:Nat}
structure BdOk(X:Cx):Prop where
 top:Top X
 fn:∀x,X.fn x=Qd
 kf:X.env.scope.kind=.function
def BdOk.bk(b:BdOk X):X.env.blockKind=.function:=by unfold Env.blockKind;rw[b.kf];rfl
def bw{tg:Option QC}(h:∀e g s q,v≠.ListComp e g s q)(h1:∀e g s q,v≠.SetComp e g s q)(h2:∀e w g s q,v≠.DictComp e w g s q):Y1 v tg ln env=pure Qh:=by
 cases v<;>first
  |rfl
  |exact absurd rfl (h _ _ _ _)
  |exact absurd rfl (h1 _ _ _ _)
  |exact absurd rfl (h2 _ _ _ _ _)
def Rj(h:cE n C v=Qa l):(∀e g s q,v≠.SetComp e g s q)/\∀e w g s q,v≠.DictComp e w g s q:=by
 cases n with
 |zero=>exact nS h
 |succ n=>exact⟨λe g s q z=>(by subst z;exact nS h),λe w g s q z=>(by subst z;exact nS h)⟩
def qA7(h:cE n C v=Qa l):Y1 v (Qa (.Name x q)) ln env=pure Qh\/∃e g s q',v=.ListComp e g s q'/\Y1 v (Qa (.Name x q)) ln env=pure Qd:=by
 by_cases hc:∃e g s q,v=.ListComp e g s q
 .obtain⟨e,g,s,q',rfl⟩:=hc;have hp:∃b,Y1 (.ListComp e g s q') (Qa (.Name x q)) ln env=pure b:=⟨_,rfl⟩
  obtain⟨b,hb⟩:=hp;cases b with
  |false=>exact .inl hb
  |true=>exact .inr ⟨e,g,s,q',rfl,hb⟩
 .exact .inl (bw (λe g s q z=>hc ⟨e,g,s,q,z⟩) (Rj h).1 (Rj h).2)
def bx{ts:QC}(h:cE n C v=Qa l)(ht:∀t q,ts≠.Name t q):Y1 v (Qa ts) ln env=pure Qh:=by
 by_cases hc:∃e g s q,v=.ListComp e g s q
 .obtain⟨e,g,s,q',rfl⟩:=hc;cases ts<;>first|rfl|exact absurd rfl (ht _ _)
 .exact bw (λe g s q z=>hc ⟨e,g,s,q,z⟩) (Rj h).1 (Rj h).2
def aw(h:AO e=Qd):∃y:Str,JP X e y/\y.length<=1000:=by
 cases e<;>first
  |(cases h;done)
  |skip
 rename_i c j q;cases c<;>first
  |(cases h;done)
  |exact⟨_,q5I,of_decide_eq_true h⟩
def q6h(T:CtOk k X C p G sub)(h:C.av e=Qd):∃y:Str,JP X e y/\y.length<=1000:=by
 unfold Ct.av at h;split at h
 .rw[Qp,Qp,decide_eq_true_eq,Zp]at h;obtain⟨⟨rfl,rfl⟩,h⟩:=h;split at h
  .rename_i y hy;obtain⟨q,rfl⟩:=jI hy;rw[Qp]at h;obtain⟨h1,h3⟩:=h;obtain⟨g1,g2⟩:=T.glob h1;split at h3
   .rename_i a e1;rw[Qp,decide_eq_true_eq,decide_eq_true_eq]at h3;refine kX (T.consts _ _ e1) λa' t ea hm=>?_;cases ea;exact⟨_,q5H g1 hm g2 h3.1,h3.2⟩
   .cases h3
  .cases h
 .cases h
def Ci(x:Str):(V4++x).length=x.length:=by rw[Cj];show 0+x.length=_;omega
def q6j(T:CtOk k X C p G sub)(h:C.AN e=Qd):SM X e:=by
 have big:(3000:Nat)<=QI:=by rw[Jk];decide
 unfold Ct.AN at h;split at h
 .split at h
  .rename_i a b r;rw[Qp,Qp]at h;obtain⟨x,j1,l1⟩:=aw h.1.1;obtain⟨y,j2,l2⟩:=q6h T h.1.2;have h3:=h.2;split at h3
   .exact q9E j1 j2 (by rw[Ci];lia) (by rw[Cj,Ci];lia)
   .obtain⟨z,j3,l3⟩:=aw h3;exact q9D j1 j2 j3 (by rw[Ci];lia) (by rw[Cj,Ci];lia) (by rw[Cj,Cj,Ci];lia)
   .cases h3
  .cases h
 .obtain⟨x,j1,l1⟩:=aw h;exactλE pins Y H s I=>Qi (j1 E pins Y H s I) (λ_ _ h=>h.2) λ_ _ z=>z
def q6i(h:C.AN e=Qd):kQ e=Qd:=by cases e<;>first|rfl|(cases h;done)
def aC{t:Str}(h:C8 C.loc (t::ts)=Qa is):∃b m,C.loc t=Qa b/\C8 C.loc ts=Qa m/\is=b::m:=by refine oC h λb g1 h=>?_;obtain⟨m,g2,h⟩:=oM h;exact⟨b,m,g1,g2,h.symm⟩
def qAB(T:CtOk k X C p G sub)(B:BdOk X)(h:RZ tg=Qa (kk,ts))(hm:C8 C.loc ts=Qa is):SG X p tg kk is:=by
 have hN:X.N.Nodup:=by rw[T.N];exact T.nd
 unfold RZ at h;split at h
 .cases h;refine qL (aC hm) λi _ e2 z zz=>?_;subst zz;cases z;obtain⟨l1,l2⟩:=T.loc e2;exact q8v hN l2 l1 (.inl (B.fn _))
 .refine oC h λab h1 h=>?_;refine oC h λx h2 h=>?_;obtain⟨y,h3,h⟩:=oM h;obtain⟨q1,e1⟩:=jI h2;obtain⟨q2,e2⟩:=jI h3;rw[CO h1,e1,e2];cases h;refine qL (aC hm) λi _ e2 z zz=>?_;subst zz;refine qL (aC z) λj _ e4 z2 zz=>?_;subst zz;cases z2;obtain⟨l1,l2⟩:=T.loc e2;obtain⟨l3,l4⟩:=T.loc e4;exact q0D T.K T.calm hN l2 l1 (.inl (B.fn _)) l4 l3 (.inl (B.fn _))
 .exact nS h
structure SoS(k:Nat)(p:Pm)(G:Nat->List D->R D)(sub:Nat->Nat->Bool)(n:Nat):Prop where
 S:∀(X:Cx)(C:Ct),CtOk k X C p G sub->BdOk X->∀s l,cS n C s=Qa l->SS X p G sub s l
 Ss:∀(X:Cx)(C:Ct),CtOk k X C p G sub->BdOk X->∀s l,xj n C s=Qa l->wb X p G sub s l
theorem EE{x:Str}{xp pos:Pos}{i:Nat}{v:QC}{l:Ev.S}(so:SoE k p G sub n)(uJ:∀m,SoE k p G sub m)(T:CtOk k X C p G sub)(B:BdOk X)(hl:C.loc x=Qa i)(h:(cE n C v).map (S.set i)=Qa l):SS X p G sub (.Assign [.Name x xp] v pos) l:=by
 have hN:X.N.Nodup:=by rw[T.N];exact T.nd
 obtain⟨l1,l2⟩:=T.loc hl;have hf:X.fn x=Qd\/X.env.scope.names.lookup x=Qa .local:=.inl (B.fn _);obtain⟨lv,e1,rfl⟩:=oM h;rcases qA7 e1 with z|⟨el,gs,sc,q',rfl,z⟩
 .exact q9d hN l2 l1 hf (so.E X C T _ _ e1) z
 .cases n with
  |zero=>exact nS e1
  |succ m=>
   obtain⟨tg,it,ifs,kk,ts,li,le,lc,rfl,Tz,c1,c2,c3,Tx,qT,rfl⟩:=fL e1;refine wH (T.inner Tx) λS CD GB inner=>?_;obtain⟨fr,hi⟩:=((uJ m).I X C T _ _ c1 tg).1;refine q9e T.calm S hi (λs2 H2 cl C' fp=>(uJ m).E _ _ (inner s2 H2 cl C' fp) _ _ c2) (λs2 H2 cl C' fp=>eP (λm' _ X C T e t h=>(uJ m').T X C T e t h) (inner s2 H2 cl C' fp) c3 qT) (λs2 H2 cl C' fp=>?_) (Lr (L0 c1)) hN l2 l1 hf z;exact q0o T.K T.calm CD GB Tz
def q1T{l:Ev.S}(so:SoE k p G sub n)(T:CtOk k X C p G sub)(B:BdOk X)(hl:C.loc x=Qa i)(h:Iu C (cE n C) x xp i v=Qa l):SS X p G sub (.Assign [.Name x xp] v pos) l:=by
 obtain⟨l1,l2⟩:=T.loc hl;obtain⟨⟨t,g,a,sc,vp⟩,hd,h1⟩:=oB h;obtain⟨q1,q2,q3,q4,rfl⟩:=q2a hd;split at h1
 .rename_i hc;obtain⟨rfl,Ti,G7,mO,Tx,XS,zo,Oi,OE⟩:=hc;refine qR (oM h1) λla e1 zz=>?_;subst zz;refine wH (T.inner Tx) λS CD GB inner=>?_;obtain⟨g1,g2⟩:=T.glob Ti;have kx:X.env.kindOf x=Qa .local:=by
   have kk:=T.kinds x;rw[XS]at kk;rcases kk with z|⟨z,_⟩
   .exact z.symm
   .cases z
  refine q9g T.calm S g1 (T.blt _ Im) (so.E X C T _ _ e1) (jU (kH e1)) CD Oi (by rw[T.N];exact T.nd) l2 l1 (.inl (B.fn _)) ?_;show(pure _:Sem Bool)=pure Qd;congr 1;rw[B.bk];have k2:(X.env.kindOf x==Qa .local)=Qd:=by rw[kx];rfl
  rw[k2];have Ts:(xp.line==(PySem.Expr.ListComp (.List [] q1) [⟨.Name t q2,.Call (.Name (Qy "range") q3) [a] [] q4,[],0⟩] sc vp).pos.line)=Qd:=zo;rw[Ts,OE];rfl
 .exact nS h1
def qA6{k:QC}(h:bt e=Qa (x,k)):∃q q2,e=.Subscript (.Name x q) k q2:=by
 unfold bt at h;split at h
 .obtain⟨y,e1,h⟩:=oM h;cases h;obtain⟨q,rfl⟩:=jI e1;exact⟨_,_,rfl⟩
 .exact nS h
def q1Y(h:kQ e=Qd):∀ov iv new,augStore e ov iv new=(do WD [new,ov,iv] (setItem ov iv new);release [new,ov,iv] [];pure .next):=by intro o i w;cases e<;>first|rfl|(cases h;done)
def q1U(so:SoE k p G sub n)(uJ:∀m,SoE k p G sub m)(T:CtOk k X C p G sub)(B:BdOk X){l:Ev.S}(h0:Iq C (cE n C) (jk n C) [.Name x xp] v=Qa l):SS X p G sub (.Assign [.Name x xp] v pos) l:=by
 have hN:X.N.Nodup:=by rw[T.N];exact T.nd
 obtain⟨i,hl,h⟩:=oB (show((C.loc x).bind λi=>if x∈C.cnts then Ir C (jk n C) i v else if x∈C.deep then Iu C (cE n C) x xp i v else if x∈C.muts then eF C (cE n C) (jk n C) i v else Iw C (cE n C) i v)=Qa l from h0);obtain⟨l1,l2⟩:=T.loc hl;have hf:X.fn x=Qd\/X.env.scope.names.lookup x=Qa .local:=.inl (B.fn _);split at h
 .cases v with
  |Call gg args yE q=>
   refine oC h λfn a1 h=>?_;refine oC h λj a2 h=>?_;obtain⟨q1,n1⟩:=jI a1;split at h
   .rename_i hc;refine wH hc λc1 c2 c3 c4=>?_;obtain⟨ls,e1,rfl⟩:=oM h;refine qi (T.rf j fn (xN a2) c1) λfa fd ps F hm hk hb qT=>?_;obtain⟨g1,g2⟩:=T.glob c2;rw[n1,Q8.mp c3];cases args with
    |nil=>cases c4 rfl
    |cons a r=>
     have Xk:=EN e1;exact q9h hN l2 l1 hf F (T.room.mono (Nat.le_add_right _ _)) g1 hm hk hb (so.Es X C T _ _ e1) qT g2 (jU (Xk a (Qe ..))) (bj λx hx=>Xk x (Qc _ hx))
   .exact nS h
  |Dict ks ws q=>
   unfold Ir at h;dsimp only at h;split at h
   .rename_i hc;cases h;cases Q8.mp hc.1;cases Q8.mp hc.2;exact q9S hN l2 l1 hf
   .exact nS h
  |_=>exact nS h
 split at h
 .exact q1T so T B hl h
 split at h
 .cases v with
  |List xs q=>
   obtain⟨ls,e1,rfl⟩:=oM h;exact q9i hN l2 l1 hf (so.Es X C T _ _ e1)
  |Dict ks ws q=>
   refine oC h λk1 a1 h=>?_;refine oC h λk2 a2 h=>?_;refine oC h λw a3 h=>?_;refine oC h λlk e1 h=>?_;obtain⟨lw,e2,rfl⟩:=oM h;rw[ky a1,ky a3,a2];exact q9f hN l2 l1 hf (so.E X C T _ _ e1) (so.E X C T _ _ e2)
  |_=>exact nS h
 .unfold Iw at h;split at h
  .rename_i o m as ap cp hv;cases rG hv;split at h
   .rename_i y hy;obtain⟨q,rfl⟩:=jI hy;split at h
    .rename_i hm;split at h
     .rename_i hc;rw[Qp,Qp]at hc;cases Q8.mp hc.1.1;obtain⟨j,e1,rfl⟩:=oM h;obtain⟨m1,m2⟩:=T.loc e1;obtain⟨d1,d2⟩:=xT hc.2;obtain⟨_,rfl⟩:=hm;exact q9X hN l2 l1 hf m2 (m1.elim .inl λz=>.inr (.inl z)) d1 d2 hc.1.2
     .exact nS h
    .exact EE so uJ T B hl h
   .exact EE so uJ T B hl h
  .split at h
   .rename_i y hy;obtain⟨q,rfl⟩:=jI hy;split at h
    .exact nS h
    .exact EE so uJ T B hl h
   .exact EE so uJ T B hl h
def q1V{ts:List QC}{l:Ev.S}(so:SoE k p G sub n)(uJ:∀m,SoE k p G sub m)(T:CtOk k X C p G sub)(B:BdOk X)(h:Iq C (cE n C) (jk n C) ts v=Qa l):SS X p G sub (.Assign ts v pos) l:=by
 refine oC h λt ht h1=>?_;cases ky ht;cases t with
 |Name x xp=>exact q1U so uJ T B h
 |Tuple xs k1 tp=>
  refine oC h1 λab a1 h1=>?_;refine oC h1 λx a2 h1=>?_;refine oC h1 λy a3 h1=>?_;refine oC h1 λi e1 h1=>?_;refine oC h1 λj e2 h1=>?_;refine oC h1 λlv e3 h1=>?_;obtain⟨px,n1⟩:=jI a2;obtain⟨py,n2⟩:=jI a3;rw[CO a1,n1,n2];split at h1
  .exact nS h1
  .rename_i hc;cases h1;obtain⟨l1,l2⟩:=T.loc e1;obtain⟨l3,l4⟩:=T.loc e2;refine q9j (q0D T.K T.calm (by rw[T.N];exact T.nd) l2 l1 (.inl (B.fn _)) l4 l3 (.inl (B.fn _))) (so.E X C T _ _ e3) (show Y1 v (Qa (.Tuple [.Name x px,.Name y py] k1 tp)) pos.line X.env=pure Qh from bx e3 (λ_ _ z=>by cases z)) ?_;cases v<;>first|rfl|(cases(Yq.mpr λz=>hc (.inr (.inr (.inr z))));done)
 |Subscript o k q=>
  refine oC h1 λx a2 h1=>?_;obtain⟨px,n1⟩:=jI a2;rw[n1];split at h1
  .rename_i hc;refine oC h1 λi e1 h1=>?_;refine oC h1 λlk e2 h1=>?_;obtain⟨lv,e3,rfl⟩:=oM h1;obtain⟨l1,l2⟩:=T.loc e1;obtain⟨d1,d2⟩:=xT hc.2;exact q9R T.K T.hu l2 (l1.elim .inl λz=>.inr (.inl z)) d1 d2 (so.E X C T _ _ e2) (so.E X C T _ _ e3) (bx e3 (λ_ _ z=>by cases z))
  split at h1
  .rename_i hc;refine oC h1 λi e1 h1=>?_;refine oC h1 λlk e2 h1=>?_;obtain⟨lv,e3,rfl⟩:=oM h1;obtain⟨l1,l2⟩:=T.loc e1;obtain⟨d1,d2⟩:=xT hc.2;exact q9Y T.hu l2 (l1.elim .inl λz=>.inr (.inl z)) d1 d2 (so.E X C T _ _ e2) (so.E X C T _ _ e3) (bx e3 (λ_ _ z=>by cases z))
  .exact nS h1
 |_=>exact nS h1
def q3G{l:Ev.S}(so:SoE k p G sub n)(T:CtOk k X C p G sub)(h:cExp C (cE n C) e=Qa l):SS X p G sub (.Expr e pos) l:=by
 unfold cExp at h;split at h
 .rename_i o m as ap cp hv;cases rG hv;unfold eL at h;split at h
  .split at h
   .rename_i hc;refine wH hc λ_ zo Tv zz=>?_;subst zz;refine oC h λa a1 h1=>?_;refine oC h1 λi e1 h1=>?_;obtain⟨la,e2,rfl⟩:=oM h1;obtain⟨l1,l2⟩:=T.loc e1;obtain⟨d1,d2⟩:=xT Tv;rw[ky a1];exact q9U T.K l2 (l1.elim .inl λz=>.inr (.inl z)) d1 d2 (so.E X C T _ _ e2) (jU (kH e2)) zo
   split at h
   .rename_i hc;refine oC h λa a1 h1=>?_;cases ky a1;refine oC h1 λi e1 h1=>?_;obtain⟨la,e2,rfl⟩:=oM h1;refine wH hc λ_ zo Tv zz=>?_;subst zz;obtain⟨l1,l2⟩:=T.loc e1;obtain⟨d1,d2⟩:=xT Tv;exact q9N l2 (l1.elim .inl λz=>.inr (.inl z)) d1 d2 (so.E X C T _ _ e2) (jU (kH e2)) zo
   .exact nS h
  .refine oC h λx a2 h2=>?_;obtain⟨px,rfl⟩:=jI a2;split at h2
   .rename_i hc;refine oC h2 λa a1 h1=>?_;cases ky a1;refine oC h1 λi e1 h1=>?_;refine oC h1 λlk e2 h1=>?_;obtain⟨la,e3,rfl⟩:=oM h1;refine yz hc λzo Tv _ _ zz=>?_;subst zz;obtain⟨l1,l2⟩:=T.loc e1;obtain⟨d1,d2⟩:=xT Tv;exact q9O l2 (l1.elim .inl λz=>.inr (.inl z)) d1 d2 (so.E X C T _ _ e2) (S9 (kH e2)) (so.E X C T _ _ e3) (jU (kH e3)) zo
   .exact nS h2
  .exact nS h
 split at h
 .exact nS h
 .rename_i hx;obtain⟨le,e1,rfl⟩:=oM h;exact q9T (so.E X C T _ _ e1) (bw (λe g s q z=>hx (by rw[z];rfl)) (Rj e1).1 (Rj e1).2)
def qAG{body oe fb:List PySem.Stmt}{l:Ev.S}(T:CtOk k X C p G sub)(B:BdOk X)(qm:∀s l,xj n C s=Qa l->wb X p G sub s l)(h:L3 C (xj n C) body hs oe fb=Qa l):SS X p G sub (.Try body hs oe fb pos) l:=by
 unfold L3 at h;split at h
 .rename_i hc;cases Q8.mp hc.1;cases Q8.mp hc.2;refine oC h λhd a1 h1=>?_;cases ky a1;obtain⟨⟨c,i,j⟩,a2,h1⟩:=oB h1;obtain⟨lb,e4,rfl⟩:=oM h1;obtain⟨ty,nm,b,q⟩:=hd;refine oC a2 λty' b1 h=>?_;refine oC h λcn b2 h=>?_;refine oC h λx b3 h=>?_;refine oC h λst b4 h=>?_;obtain⟨⟨y,x'⟩,b5,h⟩:=oB h;obtain⟨q1,n1⟩:=jI b2;obtain⟨q2,q3,q4,n2⟩:=q8o b5;split at h
  .rename_i hc;obtain⟨hg,Tv,_,_,rfl,Ou,XS⟩:=hc;refine oC h λc' e1 h=>?_;refine oC h λi' e2 h=>?_;refine qR (oM h) λj' e3 h=>?_;cases h;rw[b1,b3,ky b4,n1,n2];obtain⟨g1,g2⟩:=T.glob hg;refine qR (T.excs c _ (xN e1)) λCc wy jH=>?_;obtain⟨l1,l2⟩:=T.loc e2;obtain⟨l3,l4⟩:=T.loc e3;obtain⟨d1,d2⟩:=xT Tv;refine q9k B.top (by rw[T.N];exact T.nd) l2 ?_ l4 l3 (.inl (B.fn _)) Ou g1 jH.bound (λe Ce he=>(T.Li e c Ce Cc he wy).1) g2 d1 d2 (qm _ _ e4);rcases T.kinds _ with z|⟨z,_⟩
   .exact z.symm.trans XS
   .rw[XS]at z;cases z
  .exact nS h
 .exact nS h
def q9J(u5:SSet):∀n,SoS k p G sub n:=by
 intro n;have so:=λn=>sound (k:=k) (p:=p) (G:=G) (sub:=sub) u5 n
 induction n with
 |zero=>exact⟨λX C T B s l h=>(by exact nS h),λX C T B s l h=>(by exact nS h)⟩
 |succ n qm=>
  refine⟨λX C T B st l h=>?_,λX C T B IA l h=>?_⟩
  .
   cases st with
   |Assign ts v pos=>exact q1V (so n) so T B h
   |AugAssign tg0 op v pos=>
    unfold cS eG at h;dsimp only at h;split at h
    .rename_i x ke hx;obtain⟨q,q2,rfl⟩:=qA6 hx;split at h
     .rename_i hc;refine oC h λi e1 h=>?_;refine oC h λo e2 h=>?_;refine oC h λlk e3 h=>?_;obtain⟨lv,e4,rfl⟩:=oM h;obtain⟨l1,l2⟩:=T.loc e1;obtain⟨d1,d2⟩:=xT hc.2;exact q9Q T.K T.hu l2 (l1.elim .inl λz=>.inr (.inl z)) d1 d2 e2 ((so n).E X C T _ _ e3) ((so n).E X C T _ _ e4) (q1Y (kH e3))
     .exact nS h
    refine oC h λx a1 h=>?_;obtain⟨q,n1⟩:=jI a1;rw[n1];split at h
    .exact nS h
    .refine oC h λi e1 h=>?_;refine oC h λo e2 h=>?_;obtain⟨lv,e3,rfl⟩:=oM h;obtain⟨l1,l2⟩:=T.loc e1;exact q9P (by rw[T.N];exact T.nd) l2 l1 (.inl (B.fn _)) e2 ((so n).E X C T _ _ e3)
   |Expr e pos=>exact q3G (so n) T h
   |If c0 a0 b0 pos=>
    refine oC h λc e1 h=>?_;refine oC h λa e2 h=>?_;obtain⟨b,e3,rfl⟩:=oM h;exact q9W ((so n).T X C T _ _ e1) (qm.Ss X C T B _ _ e2) (qm.Ss X C T B _ _ e3)
   |For tg0 it0 body0 oe pos=>
    unfold cS at h;dsimp only at h;split at h
    .rename_i hc;cases Q8.mp hc.1;obtain⟨⟨kk,ts⟩,Tz,h⟩:=oB h;refine oC h λli c1 h=>?_;refine oC h λlb c2 h=>?_;refine oC h λis hmo h=>?_;split at h
     .exact nS h
     .cases h;exact q9V T.calm (((so n).I X C T _ _ c1 _).2 (Yq.mpr hc.2)) (qAB T B Tz hmo) (qm.Ss X C T B _ _ c2) (Lr (L0 c1))
    .exact nS h
   |While c0 body0 oe pos=>
    unfold cS at h;dsimp only at h;split at h
    .rename_i hc;cases Q8.mp hc;refine oC h λc e1 h=>?_;obtain⟨b,e2,rfl⟩:=oM h;exact q9l ((so n).T X C T _ _ e1) (qm.Ss X C T B _ _ e2)
    .exact nS h
   |Return r0 pos=>
    have plain:∀e,(cE n C e).map S.ret=Qa l->SS X p G sub (.Return (Qa e) pos) l:=λe h=>by obtain⟨le,e1,rfl⟩:=oM h;exact q9a ((so n).E X C T _ _ e1)
    cases r0 with
    |none=>exact nS h
    |some e=>
     unfold cS eM at h;dsimp only at h;split at h
     .rename_i x hx;obtain⟨q,rfl⟩:=jI hx;split at h
      .obtain⟨i,e1,rfl⟩:=oM h;obtain⟨l1,l2⟩:=T.loc e1;obtain⟨d1,d2⟩:=p8 e1;exact q9b l2 (l1.elim .inl λz=>.inr (.inl z)) d1 d2
      split at h
      .obtain⟨i,e1,rfl⟩:=oM h;obtain⟨l1,l2⟩:=T.loc e1;obtain⟨d1,d2⟩:=p8 e1;exact q9c l2 (l1.elim .inl λz=>.inr (.inl z)) d1 d2
      .exact plain _ h
     .exact plain _ h
   |Break=>exact nS h
   |Continue=>exact nS h
   |Pass=>exact nS h
   |Raise a0 b0 pos=>
    refine oC h λe a1 h=>?_;split at h
    .rename_i hb;obtain⟨⟨cn,m⟩,a2,h⟩:=oB h;obtain⟨q,q2,n1⟩:=PM a2;rw[a1,Zp.mp hb,n1];dsimp only at h;split at h
     .rename_i hc;obtain⟨c,e1,rfl⟩:=oM h;obtain⟨g1,g2⟩:=T.glob hc.1;obtain⟨Cc,wy,jH⟩:=T.excs c _ (xN e1);exact q9Z T.calm g1 jH PySem.F.excBase_ValueError wy (q6j T hc.2) g2 (jU (q6i hc.2))
     .exact nS h
    .exact nS h
   |Try a0 b0 c0 d0 pos=>exact qAG T B (λs l h=>qm.Ss X C T B s l h) h
   |_=>exact nS h
  .cases IA with
   |nil=>cases h;exact q9q
   |cons s r=>
    refine oC h λa g1 h=>?_;obtain⟨l',g2,rfl⟩:=oM h;exact q9p (qm.S X C T B _ _ g1) (qm.Ss X C T B _ _ g2)
end
theorem q5g:∀{us:List α},us.length=1->∃a,us=[a]
 |[a],_=>⟨a,rfl⟩
theorem q5h:∀{us:List α},us.length=2->∃a b,us=[a,b]
 |[a,b],_=>⟨a,b,rfl⟩
theorem q5i:∀{us:List α},us.length=3->∃a b c,us=[a,b,c]
 |[a,b,c],_=>⟨a,b,c,rfl⟩
structure DefI where
 name:Str
 st:Stmt
 N:List Str
 ps:List Str
 muts:List Str
 deep:List Str
 l:List Ev.S
 nw:Bool:=Qh
 cnts:List Str:=[]
structure TxtI where
 ds:List DefI
 consts:List (Str×D)
 excs:List Str
 sub:Nat->Nat->Bool
def TxtI.ct(t:TxtI)(d:DefI):Ct:={N:=d.N,kinds:=(yy d.st).names,funs:=t.ds.map (·.name),consts:=t.consts,excs:=t.excs,muts:=d.muts,fresh:=[],deep:=d.deep,nw:=d.nw,cnts:=d.cnts,news:=(Qt t.ds.length).filter λj=>match t.ds[j]?with|some d=>d.nw|none=>Qh}
def Gk(t:TxtI):Nat->Nat->List D->R D
 |0,_,_=>.q9
 |n+1,f,xs=>match t.ds[f]?with
  |some d=>if xs.length=d.ps.length then(if d.nw then Ev.Py (Gk t n) t.sub d.N.length d.l xs else Ev.run (Gk t n) t.sub d.N.length d.l xs)else .q9
  |none=>.q9
structure DefOk(t:TxtI)(d:DefI):Prop where
 sc:FnScope d.N d.ps (yy d.st)
 cs:xj 60 (t.ct d) (uT d.st)=Qa d.l
 bd:∀(kV doc pm:Value)(an:Option Addr)(ze ct:Value)(us:List Value),us.length=d.ps.length->bindArgs (J9 d.name d.name (TH d.st) (uT d.st) (yy d.st) .none kV doc pm an ze ct) ⟨us,[]⟩=pure (d.ps.zip us)
def E4(K:QL)(x:Str)(st:Stmt):Prop:=∃f fd,nsIn K mainGlobals x=Qa (Qa (.ref f))/\Fun K x x st f fd
def q3S{st:Stmt}{f:Addr}{wR:Array (Option Value)}{kV ct:Value}(a:nsIn K mainGlobals x=Qa (Qa (.ref f)))
  (l:K.lookup f=Qa ⟨oc,od,.func (J9 x x (TH st) (uT st) (yy st) .none kV doc pm an ze ct),wR⟩) (c:UY K ze x=Qd) (k:Yt K (.ref f)=Qd):E4 K x st:=⟨f,_,a,q3Y l c k⟩
structure ExcI(K:QL)(x:Str)(C:Addr):Prop where
 at_:nsIn K mainGlobals x=Qa (Qa (.ref C))
 exc:excIn K C excTail "ValueError.__new__"=Qd
 ok:ExOk K C
 val:kitOne K (.ref C) (.type "ValueError")=Qa Qd
structure TxtOk(K:QL)(t:TxtI)(p:Pm):Prop where
 pk:p.K=K
 def_:∀(j:Nat)(d:DefI),t.ds[j]?=Qa d->DefOk t d/\E4 K d.name d.st
 blt:∀x∈zk,nsIn K mainGlobals x=Qa Qg
 qh:∀(x:Str)(d:D),t.consts.lookup x=Qa d->∃a tk,d=.int a/\nsIn K mainGlobals x=Qa (Qa (.int a tk))
 exc:∀(c:Nat)(x:Str),t.excs[c]?=Qa x->∃C,p.cls[c]?=Qa C/\ExcI K x C
 cls:∀(c:Nat)(C:Addr),p.cls[c]?=Qa C->∃x,t.excs[c]?=Qa x/\ExcI K x C
 sub:∀(e c:Nat)(Ce Cc:Addr),p.cls[e]?=Qa Ce->p.cls[c]?=Qa Cc->exmOne K (.ref Ce) (.ref Cc)=Qa (t.sub e c)/\kitOne K (.ref Ce) (.ref Cc)=Qa (t.sub e c)
def q7B{C:Addr}{tl:List Value}{nw:String}(P:Program)(M:Mod K mg h)(e:nsIn K mainGlobals x=Qa (Qa (.ref C)))(q:excIn K C tl nw=Qd):OwnCls x C tl nw mg h:=by
 obtain⟨mb,b1,b2⟩:=M.blt;obtain⟨o,es,ep,ho,hd,hk,hm⟩:=M.glob;refine own_of_in (p:=P) (loose:=es.toList.filterMap λy=>match y.key with|.str z _=>Qa z|_=>Qg) M.xP ⟨M.glob,b1,M.nolimit,b2,λx _ hx _ _ _=>?_⟩ e q;rw[<-hm x];unfold nsFind findBy;rw[Option.map_eq_none_iff,Array.find?_eq_none];intro y hy hs;obtain⟨n,t,ht⟩:=hk y hy;rw[ht]at hs;have e:n=x:=by simpa[Value.isStr]using hs
 exact hx (U2.mpr ⟨y,by simpa using hy,by rw[ht,e]⟩)
section
variable{t:TxtI}
def lR{d:DefI}(hd:t.ds[j]?=Qa d)(ns:Gk t n j ds≠.q9):ds.length=d.ps.length:=by
 cases n with
 |zero=>cases ns rfl
 |succ n=>
  unfold Gk at ns;rw[hd]at ns;dsimp only at ns
  by_cases hl:ds.length=d.ps.length
  .exact hl
  .rw[if_neg hl]at ns;cases ns rfl
def q7Q(u5:SSet)(T:TxtOk K t p)(xP:K.In base)(glob:base.Ns mainGlobals mg):∀(n j:Nat)(d:DefI)(f:Addr)(fd:FuncData),t.ds[j]?=Qa d->Fun K d.name d.name d.st f fd->(d.nw=Qh->FnOk P w K mg base (j5 P w) (3*n) f fd d.ps (yO p (Gk t n) j d.ps.length))/\(d.nw=Qd->FnOk P w K mg base (j5 P w) (3*n) f fd d.ps (RV p (Gk t n) j d.ps.length)):=by
 intro n
 induction n with
 |zero=>
  intro j d f fd hd F;refine⟨λ_=>⟨λvs H Q E h=>h.choose_spec.choose_spec.1,λA outer s H args us vs Q E hr e0 hb r xM=>?_⟩,λ_=>⟨λvs H Q E h=>h.choose_spec.choose_spec.1,λA outer s H args us vs Q E hr e0 hb r xM=>?_⟩⟩
  .obtain⟨ds,O,_,_,_,_,ns,_⟩:=xM;cases ns rfl
  .obtain⟨ds,O,_,_,_,_,ns,_⟩:=xM;cases ns rfl
 |succ n ih=>
  intro j d f fd hd F;obtain⟨D1,_⟩:=T.def_ j d hd;obtain⟨oc,od,kV,doc,pm,an,ze,ct,wR,LN,lk,z8⟩:=F.ex;subst LN;have body:∀(A:Around)(outer:List YK)(s:Shared)(H:Hp)(E:XK),Room (3*n+2) (A.deeper (Wj d.name (yy d.st) s.heap.objs.size f ze))->Env0 P w K mg base A outer s H->wb (TF (j5 P w) P w K mg base d.N d.name (yy d.st) f ze A outer s H E) p (Gk t n) t.sub (uT d.st) d.l:=λA outer s H E hr e0=>by
   refine(q9J (k:=3*n) (p:=p) (G:=Gk t n) (sub:=t.sub) u5 60).Ss _ (t.ct d) ⟨rfl,D1.sc.nd,λx=>.inl rfl,rfl,T.pk,hr,λx hx=>mg_none_of xP glob (T.blt x hx),λj' f' hf hj=>?_,λx dd hx=>?_,λj' f' hf hj=>?_,λc x hx=>?_,λc C hc=>?_,T.sub⟩ ⟨⟨rfl,rfl⟩,λ_=>rfl,D1.sc.kind⟩ _ _ D1.cs
   .have hf:(t.ds.map (·.name))[j']?=Qa f':=hf;rw[QJ]at hf;cases e:t.ds[j']?with
    |none=>rw[e]at hf;cases hf
    |some d'=>
     rw[e]at hf;cases hf;have xG:d'.nw=Qh:=by
      cases z:d'.nw with
      |false=>rfl
      |true=>exact absurd (QO.mpr ⟨QN.mpr (Qj.mp e).1,by rw[e];exact z⟩) hj
     refine Eg (T.def_ j' d' e) λD2 fa DC a' F'=>?_;exact⟨fa,DC,d'.ps,(ih j' d' fa DC e F').1 xG,mg_of xP glob a',F'.kp,F'.binds D2.bd,λds ns=>lR e ns⟩
   .refine kX (T.qh x dd hx) λa' tk e1 e2=>?_;exact⟨a',tk,e1,mg_of xP glob e2⟩
   .have hf:(t.ds.map (·.name))[j']?=Qa f':=hf;rw[QJ]at hf;cases e:t.ds[j']?with
    |none=>rw[e]at hf;cases hf
    |some d'=>
     rw[e]at hf;cases hf;have xG:d'.nw=Qd:=by have:=(QO.mp hj).2;rw[e]at this;exact this
     refine Eg (T.def_ j' d' e) λD2 fa DC a' F'=>?_;exact⟨fa,DC,d'.ps,(ih j' d' fa DC e F').2 xG,mg_of xP glob a',F'.kp,F'.binds D2.bd,λds ns=>lR e ns⟩
   .refine qR (T.exc c x hx) λC e1 e2=>?_;exact⟨C,e1,q7B P e0.mod e2.at_ e2.exc⟩
   .refine qR (T.cls c C hc) λx e1 e2=>?_;exact⟨e2.ok,e2.val⟩
  have new:d.nw=Qd->FnOk P w K mg base (j5 P w) (3*(n+1)) f (J9 d.name d.name (TH d.st) (uT d.st) (yy d.st) .none kV doc pm an ze ct) d.ps (RV p (Gk t (n+1)) j d.ps.length):=λhw=>
   q3U lk z8 D1.sc (λds ns hl=>by rw[Gk,hd];dsimp only;rw[if_pos hl,hw,if_pos rfl]) body
  exact⟨λhw=>q3T lk z8 D1.sc (λds ns hl=>by rw[Gk,hd];dsimp only;rw[if_pos hl,hw,if_neg Wf]) body,new⟩
def q5b{l:WK}{fa:Addr}{d:DefI}(u5:SSet)(T:TxtOk K t p)(Z:K.In h)(g:h.Ns mainGlobals mg)(hj:t.ds[j]?=Qa d)(xG:d.nw=Qh)(xI:d.ps=[x])(hfa:mg d.name=Qa (.ref fa))(n:Nat):
  ∃fd:FuncData,(∀(s:Shared)(u:Value),BindsTo s fd ⟨[u],[]⟩ [(x,u)])/\∀base:Heap,K.In base->base.Ns mainGlobals mg->FnOk l.prog w K mg base (j5 l.prog w) (3*n) fa fd [x] (yO p (Gk t n) j 1):=by
 refine Eg (T.def_ j d hj) λD1 f fd a F=>?_;cases(hfa.symm.trans (mg_of Z g a));refine⟨fd,λs u=>?_,λbase kb nb=>?_⟩
 .obtain⟨oc,od,kV,doc,pm,an,ze,ct,wR,LN,lk,z8⟩:=F.ex;subst LN;have:=D1.bd kV doc pm an ze ct [u] (by rw[xI];rfl);rw[xI]at this;exact .of_eq this
 .have:=(q7Q (P:=l.prog) (w:=w) u5 T kb nb n j d fa fd hj F).1 xG;rw[xI]at this;exact this
def q0f(K:QL):Sp:=λvs H Q _=>∃(a:Addr)(ns:List Int),vs=[.ref a]/\qv K H a (ns.map V.int)/\ns.length<=63/\∀H',Q (.bl Qd) H'
theorem tR{H:Hp}:∀ns:List Int,qM p H (ns.map D.int) (ns.map V.int)
 |[]=>rfl
 |n::ns=>⟨.int n,ns.map V.int,rfl,rfl,tR ns⟩
def q9K(hK:p.K=K)(hm:∀ns:List Int,ns.length<=63->G j [.q6 (ns.map D.int)]=.ok (.bl Qd))(vs:List V)(H:Hp)(Q:VK)(E:XK)(h:q0f K vs H Q E):yO p G j 1 vs H Q E:=by
 refine zK h λa ns zz hS hl hQ=>?_;subst zz;have e:=hm ns hl;refine⟨[.q6 (ns.map D.int)],[],rfl,Y0,λb hb=>absurd hb (by simp),⟨.ref a,[],rfl,⟨a,ns.map V.int,rfl,by rw[q3b,hK];exact hS,tR ns⟩,rfl⟩,by rw[e];simp,λr v H' er _ q=>?_,λc C H' ex er _ _=>?_⟩
 .rw[e]at er;cases er;cases q;exact hQ H'
 .rw[e]at er;cases er
def q2T{e:Value}(h:j5 P w [] H s (λ_ _ _=>False) e s'):False:=by obtain⟨_,_,_,_,_,_,z,_⟩:=h;exact z
end
def walk{l:WK}{q:Program}{loose:List Str}{XP:(Str->Option Value)->Heap->Prop}{YP:World->Heap->Prop}{d:DefRec}{K:Params->QL}(n:Nat)(hn:l.most=Qa 63)(ub:d.params.defaults=[])(hr:Room (3*n) WA)
  (hY:∀(w:World)(h:Heap),YP w h->(K w.params).In h)
  (F:∀(w:World)(mg:Str->Option Value)(fa:Addr)(h:Heap),(K w.params).In h->h.Ns mainGlobals mg->mg d.name=Qa (.ref fa)->
   ∃fd:FuncData,(∀(s:Shared)(u:Value),BindsTo s fd ⟨[u],[]⟩ [(x,u)])/\∀base:Heap,(K w.params).In base->base.Ns mainGlobals mg->FnOk l.prog w (K w.params) mg base (j5 l.prog w) (3*n) fa fd [x] (q0f (K w.params))):
  PySem.W.WalkO q loose XP YP l.row.toRowW d [] (λf vs=>PySem.call f vs):=
 L2.qAW hn (by decide) ub hr hY F (λ_ _ a ns hl _ hS=>⟨a,ns,rfl,hS,hl,λ_=>rfl⟩) λ_ _ _ _ _ z=>q2T z
end Snd
set_option maxHeartbeats 4000000
namespace SetT
open PySem PySem.SetTable
variable{l W As:List Nat}{i j m N:Nat}{t:SetTable}{α:Type}{h:Int}{hs:List Int}{owner:Array (Option Nat)}
noncomputable def AP(m:Nat):SetTable:={(default:SetTable)with mask:=m}
def startM(m:Nat)(h:Int):Probe:=(AP m).probeStart h
def wc(m:Nat)(p:Probe):Probe:=(AP m).advance p
def q1L(t:SetTable)(p:Probe):t.advance p=wc t.mask p:=rfl
def path(m:Nat)(h:Int):Nat->Probe
 |0=>startM m h
 |n+1=>wc m (path m h n)
noncomputable def lp(m:Nat)(h:Int):Nat->Nat×Nat
 |0=>(bits h %(m+1),bits h)
 |k+1=>leap m (lp m h k).1 (lp m h k).2
noncomputable def cc(m:Nat)(h:Int):Nat->Nat
 |0=>0
 |k+1=>cc m h k+(runEnd m (lp m h k).1-(lp m h k).1)+1
def q7y(m i:Nat):runEnd m i-i<=9:=by unfold runEnd;split<;>lia
def Ap(m i:Nat):i<=runEnd m i:=by unfold runEnd;split<;>lia
def tv(m i:Nat)(h:i<=m):runEnd m i<=m:=by unfold runEnd;split<;>lia
theorem eW(m:Nat)(h:Int):∀k,cc m h k<=10*k
 |0=>Qs _
 |k+1=>by have:=eW m h k;have:=q7y m (lp m h k).1;simp only[cc];lia
def at_(m:Nat)(h:Int)(k r:Nat):Probe:={j:=(lp m h k).1+r,more:=runEnd m (lp m h k).1-(lp m h k).1-r,i:=(lp m h k).1,perturb:=(lp m h k).2,dummy:=Qg}
theorem CQ(m:Nat)(h:Int)(k:Nat)(hk:path m h (cc m h k)=at_ m h k 0):∀r,r<=runEnd m (lp m h k).1-(lp m h k).1->path m h (cc m h k+r)=at_ m h k r
 |0,_=>hk
 |r+1,hr=>by show wc m (path m h (cc m h k+r))=_;rw[(CQ m h k hk r ∅)];unfold wc UA at_;simp;rw[if_pos ∅];rfl
theorem CP(m:Nat)(h:Int):∀k,path m h (cc m h k)=at_ m h k 0
 |0=>rfl
 |k+1=>by show wc m (path m h (cc m h k+(runEnd m (lp m h k).1-(lp m h k).1)))=_;rw[(CQ m h k (CP m h k) (runEnd m (lp m h k).1-(lp m h k).1) (Qs _))];unfold wc UA at_;simp only[AP];rw[if_neg ∅];rfl
def q1o(h:Int):bits h<2^64:=by
 unfold bits;have h1:0<=h %(2^64:Int):=Int.emod_nonneg _ (by decide);have h2:h %(2^64:Int)<2^64:=Int.emod_lt_of_pos _ (by decide);have:((2:Int)^64).toNat=2^64:=by decide
 lia
theorem sV(m:Nat)(h:Int):∀k,(lp m h k).2=bits h/32^k
 |0=>by simp[lp]
 |k+1=>by show(lp m h k).2/32=_;rw[sV m h k,Nat.div_div_eq_div_mul,Ha]
def q7G(m:Nat)(h:Int)(k:Nat)(hk:13<=k):(lp m h k).2=0:=by
 rw[sV];refine Nat.div_eq_of_lt (QF (q1o h) ?_)
 calc 2^64<=32^13:=by decide
  _<=32^k:=Q6 (by decide) hk
theorem pG(m:Nat)(h:Int):∀k,(lp m h k).1<=m
 |0=>by have:=UQ (bits h) (show m+1>0 by lia);show bits h %(m+1)<=m;lia
 |k+1=>by have:=UQ ((lp m h k).1*5+1+(lp m h k).2/32) (show m+1>0 by lia);show((lp m h k).1*5+1+(lp m h k).2/32) %(m+1)<=m;lia
def I0(m i:Nat):Nat:=(i*5+1) %(m+1)
def its(m:Nat):Nat->Nat->Nat
 |0,i=>i
 |d+1,i=>its m d (I0 m i)
theorem Dg(m:Nat):∀a b i,its m (a+b) i=its m b (its m a i)
 |0,b,i=>by rw[WN];rfl
 |a+1,b,i=>by rw[Nat.succ_add];exact Dg m a b (I0 m i)
theorem pF(m:Nat)(h:Int)(k:Nat)(hk:13<=k):∀d,(lp m h (k+d)).1=its m d (lp m h k).1
 |0=>rfl
 |d+1=>by rw[Dg m d 1,<-pF m h k hk d];show(leap m (lp m h (k+d)).1 (lp m h (k+d)).2).1=I0 m _;rw[q7G m h (k+d) ∅];rfl
def k8(m:Nat):Prop:=m=7\/m=15\/m=31\/m=63\/m=127\/m=255
def CK(m:Nat):Nat->Nat->List Nat
 |0,_=>[]
 |n+1,i=>i::CK m n (I0 m i)
theorem aM(m:Nat):∀n i e,e∈CK m n i->∃d,d<n/\its m d i=e
 |0,_,_,h=>nomatch h
 |n+1,i,e,h=>by
  rcases Qo.mp h with rfl|h
  .exact⟨0,∅,rfl⟩
  .obtain⟨d,hd,q⟩:=aM m n _ e h;exact⟨d+1,∅,q⟩
def q2U(m:Nat)(g:k8 m):its m (m+1) 0=0/\∀e,e<=m->e∈CK m (m+1) 0:=by
 have key:∀m,its m (m+1) 0=0->(Qt (m+1)).all (λe=>(CK m (m+1) 0).contains e)=Qd->its m (m+1) 0=0/\∀e,e<=m->e∈CK m (m+1) 0:=λm h1 h2=>
  ⟨h1,λe he=>by have:=Qq.mp h2 e (QN.mpr ∅);exact List.contains_iff_mem.mp this⟩
 rcases g with rfl|rfl|rfl|rfl|rfl|rfl<;>exact key _ (by decide+kernel) (by decide+kernel)
def cyc(m:Nat)(g:k8 m)(i e:Nat)(hi:i<=m)(he:e<=m):∃d,d<=m/\its m d i=e:=by
 obtain⟨h0,hc⟩:=q2U m g;obtain⟨a,ha,qa⟩:=aM m _ _ _ (hc i hi);obtain⟨b,hb,qb⟩:=aM m _ _ _ (hc e he)
 by_cases kC:a<=b
 .refine⟨b-a,∅,?_⟩;rw[<-qa,<-Dg,show a+(b-a)=b by lia,qb]
 .refine⟨b+(m+1)-a,∅,?_⟩;rw[<-qa,<-Dg,show a+(b+(m+1)-a)=(m+1)+b by lia,Dg,h0,qb]
def rF(m:Nat)(g:k8 m)(h:Int)(e:Nat)(he:e<=m):∃k,k<=m+13/\(lp m h k).1=e:=by obtain⟨d,hd,q⟩:=cyc m g (lp m h 13).1 e (pG m h 13) he;exact⟨13+d,∅,by rw[pF m h 13 ∅];exact q⟩
def met(m:Nat)(g:k8 m)(h:Int)(e:Nat)(he:e<=m):∃n,n<=10*(m+13)/\(path m h n).j=e:=by obtain⟨k,hk,q⟩:=rF m g h e he;refine⟨cc m h k,Qx (eW m h k) ∅,?_⟩;rw[CP];show(lp m h k).1+0=e;lia
theorem sU(m:Nat)(h:Int):∀n,(path m h n).dummy=Qg
 |0=>rfl
 |n+1=>by show(wc m (path m h n)).dummy=Qg;unfold wc UA;split<;>exact sU m h n
theorem Aa(m:Nat)(h:Int):∀n,(path m h n).j+(path m h n).more<=m/\(path m h n).i<=m
 |0=>by have h1:=pG m h 0;have h2:=tv m _ h1;have h3:=Ap m (lp m h 0).1;show(lp m h 0).1+(runEnd m (lp m h 0).1-(lp m h 0).1)<=m/\(lp m h 0).1<=m;lia
 |n+1=>by
  have ih:=Aa m h n;show(wc m (path m h n)).j+(wc m (path m h n)).more<=m/\(wc m (path m h n)).i<=m;unfold wc UA;split
  .simp only;lia
  .have h1:(leap m (path m h n).i (path m h n).perturb).1<=m:=by have:=UQ ((path m h n).i*5+1+(path m h n).perturb/32) (show m+1>0 by lia);show((path m h n).i*5+1+(path m h n).perturb/32) %(m+1)<=m;lia
   have h2:=tv m _ h1;have h3:=Ap m (leap m (path m h n).i (path m h n).perturb).1;simp only[AP];lia
def jV(l:List Nat):Prop:=l.Pairwise (·<·)
def q43(l:List Nat)(i d:Nat)(h:i<l.length):l.toArray.getD i d=l[i]:=by simp[Zq,h]
def jV.lt{k:Nat}(r:jV l)(h:i<k)(hk:k<l.length):l[i]'∅<l[k]:=JB.mp r i k ∅ hk h
theorem Ii(l:List Nat)(r:jV l)(j:Nat):∀(zc lo hi:Nat),hi-lo<2^zc->lo<=hi->hi<=l.length->(∀i,i<lo->(h:i<l.length)->l[i]<j)->(∀i,hi<=i->(h:i<l.length)->j<=l[i])->
  below.go l.toArray j zc lo hi<=l.length/\(∀i,i<below.go l.toArray j zc lo hi->(h:i<l.length)->l[i]<j)/\(∀i,below.go l.toArray j zc lo hi<=i->(h:i<l.length)->j<=l[i])
 |0,lo,hi,hf,hlh,hh,h1,h2=>by
  have e:lo=hi:=by simp at hf;lia
  subst e;exact⟨hh,h1,h2⟩
 |zc+1,lo,hi,hf,hlh,hh,h1,h2=>by
  unfold below.go
  by_cases c:lo<hi
  .rw[if_pos c];simp only;have hm:(lo+hi)/2<l.length:=∅;rw[q43 l _ _ hm];have hp:2^(zc+1)=2*2^zc:=by rw[Ha];lia
   by_cases d:l[(lo+hi)/2]<j
   .rw[if_pos d];refine Ii l r j zc _ hi ∅ ∅ hh (λi XQ hl=>?_) h2
    by_cases e:i=(lo+hi)/2
    .subst e;exact d
    .exact WJ (r.lt ∅ hm) d
   .rw[if_neg d];refine Ii l r j zc lo _ ∅ ∅ ∅ h1 (λi XQ hl=>?_)
    by_cases e:i=(lo+hi)/2
    .subst e;lia
    .have:=r.lt (show(lo+hi)/2<i by lia) hl;lia
  .rw[if_neg c];have e:lo=hi:=∅;subst e;exact⟨hh,h1,h2⟩
theorem q0x:∀n:Nat,n<2^n
 |0=>by decide
 |n+1=>by have:=q0x n;rw[Ha];lia
def XB(l:List Nat)(r:jV l)(j:Nat):below l.toArray j<=l.length/\(∀i,i<below l.toArray j->(h:i<l.length)->l[i]<j)/\(∀i,below l.toArray j<=i->(h:i<l.length)->j<=l[i]):=by
 unfold below;have e:l.toArray.size=l.length:=by simp
 rw[e];exact Ii l r j l.length 0 l.length (by have:=q0x l.length;lia) ∅ (Qs _) (λi h _=>by lia) (λi h1 h2=>by lia)
def RT(hp:t.place=l.toArray)(r:jV l)(h:l[i]?=Qa j):t.slot j=.live i:=by
 obtain⟨b1,b2,b3⟩:=XB l r j;obtain⟨hi,e⟩:=Qj.mp h;have eb:below l.toArray j=i:=by
  by_cases c:below l.toArray j<i
  .have:=b3 _ (Qs _) ∅;have:=r.lt c hi;lia
  .by_cases d:i<below l.toArray j
   .have:=b2 i d hi;lia
   .lia
 unfold slot;simp only[hp,eb];rw[if_pos (by simp[h])]
def G4(r:jV l)(j:Nat):has l.toArray j=Qd↔j∈l:=by
 unfold has;constructor
 .intro q;exact Qz (by simpa using(by simpa using q):l[below l.toArray j]?=Qa j)
 .intro h;obtain⟨i,hi,e⟩:=Ja h;have:=RT (t:={(default:SetTable)with place:=l.toArray}) rfl r (i:=i) (j:=j) (by rw[Qv hi,e]);unfold slot at this;simp only at this;split at this
  .rename_i q;exact q
  .split at this<;>cases this
def q1c(r:jV l)(h:j∈l):l[below l.toArray j]?=Qa j:=by have q:=(G4 r j).mpr h;unfold has at q;simpa using q
def rt(hp:t.place=l.toArray)(h:j∉l):¬(t.place[below t.place j]?==Qa j)=Qd:=λq=>h (by rw[hp]at q;exact Qz (by simpa using(by simpa using q):l[below l.toArray j]?=Qa j))
def q0N(hp:t.place=l.toArray)(hd:t.dummies=W.toArray)(r:jV W)(h:j∉l++W):t.slot j=.empty:=by unfold slot;simp only;rw[QA,not_or]at h;rw[if_neg (rt hp h.1),hd,if_neg λq=>h.2 ((G4 r j).mp q)]
def q0M(hp:t.place=l.toArray)(hd:t.dummies=W.toArray)(r:jV W)(h1:j∉l)(h:j∈W):t.slot j=.dummy:=by unfold slot;simp only;rw[if_neg (rt hp h1),hd,if_pos ((G4 r j).mpr h)]
def El(l:List α)(p:Nat):eraseAt l.toArray p=(l.eraseIdx p).toArray:=by unfold eraseAt;apply UK.mp;simp;rw[Q7];simp;exact JO (by simp)
def GQ(l:List α)(p:Nat)(x:α)(_hp:p<=l.length):insertAt l.toArray p x=(l.take p++x::l.drop p).toArray:=by unfold insertAt;apply UK.mp;simp;exact JO (by simp)
abbrev Ent:=Nat×Int×Value
noncomputable def slots(Z:List Ent):List Nat:=Z.map (·.1)
def vW(t:SetTable)(Z:List Ent):List Nat:=slots Z++t.dummies.toList
structure WF(t:SetTable)(Z:List Ent):Prop where
 place:t.place=(slots Z).toArray
 vZ:jV (slots Z)
 X0:jV t.dummies.toList
 sep:∀j∈t.dummies.toList,j∉slots Z
 good:k8 t.mask
 le:∀z∈Z,z.1<=t.mask
 jY:Z.length+t.dummies.size<=t.mask
 way:∀z∈Z,∃n,(path t.mask z.2.1 n).j=z.1/\∀k,k<n->(path t.mask z.2.1 k).j∈vW t Z
theorem oj:∀{a b:List Nat},a.Nodup->(∀x∈a,x∈b)->a.length<=b.length
 |[],_,_,_=>QV _
 |x::a,b,nd,h=>by
  have hx:=h x Qe;have jQ:=QQ.mp nd;have:=oj jQ.2 λy hy=>by have jB:y≠x:=λq=>jQ.1 (q▸hy);exact(Hi jB).mpr (h y (Qc _ hy))
  have e:=Um hx;have hp:=FE hx;simp only[QG];lia
def q0X(l:List Nat)(m:Nat)(h:l.length<=m):∃e,e<=m/\e∉l:=by
 apply Ji;intro q;have:=oj (a:=Qt (m+1)) (b:=l) Vq λx hx=>by apply Ji;intro hn;exact q ⟨x,by have:=QN.mp hx;lia,hn⟩
 rw[Q1]at this;lia
def least{P:Nat->Prop}[DecidablePred P]:∀n,P n->∃m,m<=n/\P m/\∀k,k<m->¬P k:=by
 intro n
 induction n using Nat.strongRecOn with
 |ind n ih=>
  intro h
  by_cases c:∃k,k<n/\P k
  .obtain⟨k,hk,p⟩:=c;obtain⟨m,h1,h2,h3⟩:=ih k hk p;exact⟨m,∅,h2,h3⟩
  .exact⟨n,Qs _,h,λk hk p=>c ⟨k,hk,p⟩⟩
def Rc(m:Nat)(h:Int)(l:List Nat)(N:Nat):Prop:=(path m h N).j∉l/\∀k,k<N->(path m h k).j∈l
def Lo(g:k8 m)(h:Int)(l:List Nat)(hl:l.length<=m):∃N,N<=10*(m+13)/\Rc m h l N:=by obtain⟨e,he,hn⟩:=q0X l m hl;obtain⟨n,h1,h2⟩:=met m g h e he;obtain⟨N,h3,h4,h5⟩:=least (P:=λn=>(path m h n).j∉l) n (by rw[h2];exact hn);exact⟨N,∅,h4,λk hk=>Ji λq=>h5 k hk q⟩
def Fb(m:Nat)(h:Int)(Z:List Ent)(k:Nat):Prop:=∃z∈Z,z.1=(path m h k).j/\z.2.1=h
def pd(p:Probe)(d:Option Nat):Probe:={p with dummy:=d}
def IZ(t:SetTable)(h:Int)(n:Nat)(d:Option Nat):t.advance (pd (path t.mask h n) d)=pd (path t.mask h (n+1)) d:=by show _=pd (wc t.mask (path t.mask h n)) d;rw[<-q1L];unfold UA pd;simp only;split<;>rfl
def T2(t:SetTable)(h:Int)(N:Nat)(d:Option Nat):Prop:=∀j,d=Qa j->j∈t.dummies.toList/\∃k,k<N/\(path t.mask h k).j=j
theorem su{t:SetTable}{Z:List Ent}(wf:WF t Z){h:Int}{hash:Nat->Int}(hh:∀i z,Z[i]?=Qa z->hash i=z.2.1){N:Nat}(ff:Rc t.mask h (vW t Z) N):
  ∀zc n d,n<=N->N-n<zc->T2 t h N d->
   (∃k i z d',n<=k/\k<N/\Z[i]?=Qa z/\z.1=(path t.mask h k).j/\z.2.1=h/\(∀k',n<=k'->k'<k->¬Fb t.mask h Z k')/\T2 t h N d'/\probe.go t hash h zc (pd (path t.mask h n) d)=Qa (.candidate (path t.mask h k).j i (pd (path t.mask h (k+1)) d')))\/
   ((∀k',n<=k'->k'<N->¬Fb t.mask h Z k')/\∃d',T2 t h N d'/\probe.go t hash h zc (pd (path t.mask h n) d)=Qa (.empty (path t.mask h N).j d'))
 |0,n,_,_,hf,_=>by lia
 |zc+1,n,d,hn,hf,hd=>by
  by_cases e:n=N
  .subst e;refine .inr ⟨λk' h1 h2=>by lia,d,hd,?_⟩;unfold probe.go;rw[show t.slot (pd (path t.mask h n) d).j=.empty from q0N wf.place (by simp) wf.X0 ff.1];rfl
  .have hl:=ff.2 n ∅;have more:∀d',T2 t h N d'->¬Fb t.mask h Z n->probe.go t hash h (zc+1) (pd (path t.mask h n) d)=probe.go t hash h zc (pd (path t.mask h (n+1)) d')->
     (∃k i z d',n<=k/\k<N/\Z[i]?=Qa z/\z.1=(path t.mask h k).j/\z.2.1=h/\(∀k',n<=k'->k'<k->¬Fb t.mask h Z k')/\T2 t h N d'/\probe.go t hash h (zc+1) (pd (path t.mask h n) d)=Qa (.candidate (path t.mask h k).j i (pd (path t.mask h (k+1)) d')))\/
     ((∀k',n<=k'->k'<N->¬Fb t.mask h Z k')/\∃d',T2 t h N d'/\probe.go t hash h (zc+1) (pd (path t.mask h n) d)=Qa (.empty (path t.mask h N).j d')):=λd' wM nc eq=>by
    rw[eq];rcases su wf hh ff zc (n+1) d' ∅ ∅ wM with⟨k,i2,z2,d2,a1,a2,a3,a4,a5,a6,a8,a7⟩|⟨a1,d2,a8,a2⟩
    .refine .inl ⟨k,i2,z2,d2,∅,a2,a3,a4,a5,λk' h1 h2=>?_,a8,a7⟩
     by_cases q:k'=n
     .subst q;exact nc
     .exact a6 k' ∅ h2
    .refine .inr ⟨λk' h1 h2=>?_,d2,a8,a2⟩
     by_cases q:k'=n
     .subst q;exact nc
     .exact a1 k' ∅ h2
   rcases QA.mp hl with hl|hl
   .obtain⟨i,hi,ei⟩:=Ja hl;have hs:(slots Z)[i]?=Qa (path t.mask h n).j:=(by rw[Qv hi,ei]);have hz:∃z,Z[i]?=Qa z/\z.1=(path t.mask h n).j:=by
     unfold slots at hs;rw[QJ]at hs;cases q:Z[i]?with
     |none=>rw[q]at hs;cases hs
     |some z=>rw[q]at hs;exact⟨z,rfl,QY hs⟩
    obtain⟨z,hz,ez⟩:=hz;have sl:t.slot (pd (path t.mask h n) d).j=.live i:=RT wf.place wf.vZ hs
    by_cases c:z.2.1=h
    .refine .inl ⟨n,i,z,d,Qs _,∅,hz,ez,c,λk' h1 h2=>by lia,hd,?_⟩;unfold probe.go;rw[sl];simp only[hh i z hz];rw[if_pos (by simpa using c),IZ];rfl
    .refine more d hd ?_ ?_
     .rintro⟨y,hy,e1,e2⟩;obtain⟨i',XQ,Ef⟩:=Ja hy;have ug:(slots Z)[i']?=Qa (path t.mask h n).j:=by unfold slots;rw[QJ,Qv XQ,Ef];exact congrArg Qa e1
      have:i'=i:=by have q1:=RT wf.place wf.vZ ug;rw[RT wf.place wf.vZ hs]at q1;cases q1;rfl
      subst this;rw[Qv XQ,Ef]at hz;cases hz;exact c e2
     .rw[probe.go,sl];simp only[hh i z hz];rw[if_neg (by simpa using c),IZ]
   .have sl:t.slot (pd (path t.mask h n) d).j=.dummy:=q0M wf.place (by simp) wf.X0 (wf.sep _ hl) hl;refine more (Qa (path t.mask h n).j) (λj e=>by cases e;exact⟨hl,n,∅,rfl⟩) ?_ ?_
    .rintro⟨y,hy,e1,e2⟩;exact wf.sep _ hl (e1▸V7 hy)
    .rw[probe.go,sl];show probe.go t hash h zc (t.advance (pd (path t.mask h n) (Qa (path t.mask h n).j)))=_;rw[IZ]
def q2F(wf:WF t Z)(ff:Rc t.mask h (vW t Z) N)(hz:z∈Z)(e:z.2.1=h):∃k,k<N/\z.1=(path t.mask h k).j:=by
 obtain⟨n,h1,h2⟩:=wf.way z hz;rw[e]at h1 h2;refine⟨n,?_,h1.symm⟩;apply Ji;intro q
 by_cases c:n=N
 .subst c;exact ff.1 (by rw[h1];exact QD _ (V7 hz))
 .exact ff.1 (h2 N ∅)
def kh(Z:List Ent)(p:Nat)(z:Ent):List Ent:=Z.take p++z::Z.drop p
def CA:y∈kh Z p z↔y=z\/y∈Z:=by
 unfold kh;rw[QA,Qo];have:(y∈Z)↔(y∈Z.take p\/y∈Z.drop p):=by rw[<-QA,JX]
 rw[this];constructor
 .rintro (h|h|h)
  .exact .inr (.inl h)
  .exact .inl h
  .exact .inr (.inr h)
 .rintro (h|h|h)
  .exact .inr (.inl h)
  .exact .inl h
  .exact .inr (.inr h)
def S4(Z:List Ent)(p:Nat)(z:Ent):(kh Z p z).Perm (z::Z):=by unfold kh;refine Ub.trans ?_;rw[JX]
def PK{β:Type}(f:Ent->β)(Z:List Ent)(p:Nat)(z:Ent):(kh Z p z).map f=(Z.map f).take p++f z::(Z.map f).drop p:=by unfold kh;rw[JA,Qw,Ys,YO]
def tV(r:jV l)(hj:j∉l):jV (l.take (below l.toArray j)++j::l.drop (below l.toArray j)):=by
 obtain⟨b1,b2,b3⟩:=XB l r j;unfold jV;rw[VU,QX];have ht:∀a∈l.take (below l.toArray j),a<j:=λa ha=>by obtain⟨i,hi,e⟩:=Ja ha;rw[List.getElem_take]at e;rw[Y8]at hi;rw[<-e];exact b2 i ∅ ∅
 have hd:∀a∈l.drop (below l.toArray j),j<a:=λa ha=>by obtain⟨i,hi,e⟩:=Ja ha;rw[List.getElem_drop]at e;rw[WR]at hi;have:=b3 (below l.toArray j+i) ∅ ∅;rw[e]at this;have jB:j≠a:=λq=>hj (q▸List.mem_of_mem_drop ha);lia
 refine⟨J7 (Wz _ _) r,⟨hd,J7 (List.drop_sublist _ _) r⟩,λa ha b hb=>?_⟩;rcases Qo.mp hb with rfl|hb
 .exact ht a ha
 .exact WJ (ht a ha) (hd b hb)
def rT(nd:l.Nodup){hi:i<l.length}{hj:j<l.length}(e:l[i]=l[j]):i=j:=(List.getElem?_inj hi nd).mp (by rw[Qv hi,Qv hj,e])
def bF(r:jV t.dummies.toList)(j:Nat):jV (t.put j).1.dummies.toList/\(∀a,a∈(t.put j).1.dummies.toList↔a∈t.dummies.toList/\a≠j)/\(j∈t.dummies.toList->(t.put j).1.dummies.size+1=t.dummies.size)/\(j∉t.dummies.toList->(t.put j).1.dummies=t.dummies):=by
 have e:(t.put j).1.dummies=if has t.dummies j then eraseAt t.dummies (below t.dummies j)else t.dummies:=rfl
 have hh:=G4 r j;have et:t.dummies.toList.toArray=t.dummies:=by simp
 rw[et]at hh
 by_cases c:j∈t.dummies.toList
 .have eb:=q1c r c;rw[et]at eb;rw[if_pos (hh.mpr c)]at e;have e2:(t.put j).1.dummies=(t.dummies.toList.eraseIdx (below t.dummies j)).toArray:=by rw[e,<-et,El,et]
  obtain⟨hb,hU⟩:=Qj.mp eb;refine⟨by rw[e2];exact J7 (VM _ _) r,λa=>?_,λ_=>?_,λn=>absurd c n⟩
  .rw[e2];rw[W5];constructor
   .rintro⟨i,hi,jB,rfl⟩;exact⟨Jl hi,λz=>jB (rT (ZC (λh=>QK h) r) (z.trans hU.symm))⟩
   .rintro⟨h1,h2⟩;obtain⟨i,hi,rfl⟩:=Ja h1;exact⟨i,hi,λz=>h2 (by subst z;exact hU),rfl⟩
  .rw[e2,QB,U6 hb];have:t.dummies.size=t.dummies.toList.length:=(by simp);lia
 .rw[if_neg (λz=>c (hh.mp z))]at e;refine⟨by rw[e];exact r,λa=>?_,λz=>absurd z c,λ_=>e⟩;rw[e];exact⟨λh=>⟨h,λz=>c (z▸h)⟩,λh=>h.1⟩
def WF.insert(wf:WF t Z)(ej:(path t.mask h N).j=j)(hj:j∉slots Z)(hw:∀k,k<N->(path t.mask h k).j∈vW t Z)(jY:j∈t.dummies.toList\/Z.length+t.dummies.size<t.mask)(pl:Bool):
  WF {(t.put j).1 with plain:=pl} (kh Z (t.put j).2 (j,h,x)):=by
 have ep:(t.put j).2=below (slots Z).toArray j:=by show below t.place _=_;rw[wf.place]
 obtain⟨d1,d2,d3,d4⟩:=bF wf.X0 j;refine⟨?_,?_,d1,λa ha=>?_,wf.good,λz hz=>?_,?_,λz hz=>?_⟩
 .show insertAt t.place (below t.place j) j=_;rw[ep,wf.place,GQ _ _ _ ((XB (slots Z) wf.vZ j).1)];unfold slots;rw[PK]
 .rw[ep];unfold slots;rw[PK];exact tV wf.vZ hj
 .obtain⟨h1,h2⟩:=(d2 a).mp ha;intro hm;obtain⟨y,hy,e⟩:=Qn.mp hm;rcases CA.mp hy with rfl|hy
  .exact h2 e.symm
  .exact wf.sep a h1 (Qn.mpr ⟨y,hy,e⟩)
 .rcases CA.mp hz with rfl|hz
  .have:=Aa t.mask h N;show j<=t.mask;lia
  .exact wf.le z hz
 .rw[(S4 _ _ _).length_eq,QG];show Z.length+1+(t.put j).1.dummies.size<=t.mask
  by_cases c:j∈t.dummies.toList
  .have:=d3 c;have:=wf.jY;lia
  .rw[d4 c];have:=jY.resolve_left c;lia
 .have sub:∀a,a∈vW t Z->a∈vW {(t.put j).1 with plain:=pl} (kh Z (t.put j).2 (j,h,x)):=λa ha=>by
   by_cases c:a=j
   .exact QD _ (Qn.mpr ⟨(j,h,x),CA.mpr (.inl rfl),c.symm⟩)
   .rcases QA.mp ha with ha|ha
    .obtain⟨y,hy,e⟩:=Qn.mp ha;exact QD _ (Qn.mpr ⟨y,CA.mpr (.inr hy),e⟩)
    .exact Ql _ ((d2 a).mpr ⟨ha,c⟩)
  rcases CA.mp hz with rfl|hz
  .exact⟨N,ej,λk hk=>sub _ (hw k hk)⟩
  .obtain⟨n,h1,h2⟩:=wf.way z hz;exact⟨n,h1,λk hk=>sub _ (h2 k hk)⟩
theorem WF.drop{Z:List Ent}(wf:WF t Z){z:Ent}(hz:Z[i]?=Qa z):WF (t.drop i) (Z.eraseIdx i)/\(t.drop i).mask=t.mask/\(t.drop i).led=t.led/\(t.drop i).plain=t.plain/\(t.drop i).fill=t.fill:=by
 obtain⟨hi,ez⟩:=Qj.mp hz;have ep:t.place[i]?=Qa z.1:=by rw[wf.place];simp[slots,hz]
 have et:t.dummies.toList.toArray=t.dummies:=by simp
 have hm:z.1∈slots Z:=V7 (Qz hz);have hn:z.1∉t.dummies.toList:=λh=>wf.sep _ h hm;have e:t.drop i={t with place:=eraseAt t.place i,dummies:=insertAt t.dummies (below t.dummies z.1) z.1}:=by unfold SetTable.drop;rw[ep]
 have hb:=(XB t.dummies.toList wf.X0 z.1).1;rw[et]at hb;have ed:(t.drop i).dummies.toList=t.dummies.toList.take (below t.dummies z.1)++z.1::t.dummies.toList.drop (below t.dummies z.1):=by rw[e];show(insertAt t.dummies (below t.dummies z.1) z.1).toList=_;have:=GQ t.dummies.toList (below t.dummies z.1) z.1 hb;rw[et]at this;rw[this]
 have md:∀a,a∈(t.drop i).dummies.toList↔a=z.1\/a∈t.dummies.toList:=λa=>by
  rw[ed,QA,Qo]
  conv=>rhs;rhs;rw[<-JX (below t.dummies z.1) t.dummies.toList,QA]
  constructor
  .rintro (h|h|h)
   .exact .inr (.inl h)
   .exact .inl h
   .exact .inr (.inr h)
  .rintro (h|h|h)
   .exact .inr (.inl h)
   .exact .inl h
   .exact .inr (.inr h)
 have es:slots (Z.eraseIdx i)=(slots Z).eraseIdx i:=by simp[slots,Q7,Ys,YO]
 have hsi:(slots Z)[i]?=Qa z.1:=by simp[slots,hz]
 obtain⟨wz,ij⟩:=Qj.mp hsi;have ms:∀a,a∈slots (Z.eraseIdx i)↔a∈slots Z/\a≠z.1:=λa=>by
  rw[es,W5];constructor
  .rintro⟨k,hk,jB,rfl⟩;exact⟨Jl hk,λy=>jB (rT (ZC (λh=>QK h) wf.vZ) (y.trans ij.symm))⟩
  .rintro⟨h1,h2⟩;obtain⟨k,hk,rfl⟩:=Ja h1;exact⟨k,hk,λy=>h2 (by subst y;exact ij),rfl⟩
 have szd:(t.drop i).dummies.size=t.dummies.size+1:=by
  have:(t.drop i).dummies.size=(t.drop i).dummies.toList.length:=by simp
  rw[this,ed];simp;lia
 have szp:(t.drop i).place.size+1=t.place.size:=by rw[e];show(eraseAt t.place i).size+1=_;rw[wf.place,El,QB,QB,U6 wz];lia
 refine⟨⟨?_,?_,?_,λa ha=>?_,by rw[e];exact wf.good,λy hy=>?_,?_,λy hy=>?_⟩,by rw[e],by rw[e],by rw[e],?_⟩
 .rw[e,es];show eraseAt t.place i=_;rw[wf.place,El]
 .rw[es];exact J7 (VM _ _) wf.vZ
 .rw[ed];have:=tV wf.X0 hn;rw[et]at this;exact this
 .rw[ms];rcases(md a).mp ha with rfl|ha
  .exact λh=>h.2 rfl
  .exact λh=>wf.sep a ha h.1
 .rw[e];exact wf.le y (Uo hy)
 .rw[szd,U6 hi,e];have:=wf.jY;show _<=t.mask;lia
 .obtain⟨n,h1,h2⟩:=wf.way y (Uo hy);have em:(t.drop i).mask=t.mask:=by rw[e]
  rw[em];refine⟨n,h1,λk hk=>?_⟩;rcases QA.mp (h2 k hk)with h|h
  .by_cases c:(path t.mask y.2.1 k).j=z.1
   .exact Ql _ ((md _).mpr (.inl c))
   .exact QD _ ((ms _).mpr ⟨h,c⟩)
  .exact Ql _ ((md _).mpr (.inr h))
 .unfold SetTable.fill;lia
def T4(owner:Array (Option Nat))(j:Nat):Prop:=(owner.getD j (Qa 0)).isNone=Qh
theorem l8(m:Nat)(h:Int)(owner:Array (Option Nat)):∀zc k0,(∃K,k0<=K/\K<k0+zc/\¬T4 owner (lp m h K).1)->(∀n,n<cc m h k0->T4 owner (path m h n).j)->
  ∃n,layClean.free m owner zc (lp m h k0).1 (lp m h k0).2=Qa (path m h n).j/\¬T4 owner (path m h n).j/\∀k,k<n->T4 owner (path m h k).j
 |0,k0,⟨K,h1,h2,_⟩,_=>by lia
 |zc+1,k0,⟨K,h1,h2,h3⟩,ho=>by
  unfold layClean.free;cases q:(Qt (runEnd m (lp m h k0).1+1-(lp m h k0).1)).find? (λk=>(owner.getD ((lp m h k0).1+k) (Qa 0)).isNone)with
  |some r=>
   have hr:=List.find?_some q;have hm:=QN.mp (List.mem_of_find?_eq_some q);have hge:=Ap m (lp m h k0).1;have hp:=CQ m h k0 (CP m h k0) r ∅;refine⟨cc m h k0+r,by rw[hp];rfl,?_,λk hk=>?_⟩
   .rw[hp];show¬(owner.getD ((lp m h k0).1+r) (Qa 0)).isNone=Qh;rw[hr];simp
   .by_cases c:k<cc m h k0
    .exact ho k c
    .obtain⟨r',rfl⟩:∃r',k=cc m h k0+r':=⟨k-cc m h k0,∅⟩
     rw[CQ m h k0 (CP m h k0) r' ∅];show(owner.getD ((lp m h k0).1+r') (Qa 0)).isNone=Qh;have qj:r'<r:=∅;rw[List.find?_eq_some_iff_append]at q;obtain⟨_,as,bs,e,hn⟩:=q;have xF:r'∈as:=by
      have e1:(Qt (runEnd m (lp m h k0).1+1-(lp m h k0).1))[r']?=Qa r':=(by rw[Ug ∅]);have e2:(Qt (runEnd m (lp m h k0).1+1-(lp m h k0).1))[r]?=Qa r:=(by rw[Ug ∅]);rw[e]at e1 e2;have hl:as.length=r:=by have e3:(as++r::bs)[as.length]?=Qa r:=(by simp);have q4O:as.length<(Qt (runEnd m (lp m h k0).1+1-(lp m h k0).1)).length:=(by rw[e];simp);rw[<-e,Ug (by simpa using q4O)]at e3;exact QY e3
      rw[QZ ∅]at e1;exact Qz e1
     have:=hn r' xF;simpa using this
  |none=>
   have hge:=Ap m (lp m h k0).1;have run:∀r,r<=runEnd m (lp m h k0).1-(lp m h k0).1->T4 owner ((lp m h k0).1+r):=λr hr=>by have:=(List.find?_eq_none.mp q) r (QN.mpr ∅);exact Yq.mpr this
   have hK:k0+1<=K:=by apply Ji;intro z;have:K=k0:=∅;subst this;exact h3 (by have:=run 0 ∅;simpa using this)
   refine l8 m h owner zc (k0+1) ⟨K,hK,∅,h3⟩ λn DT=>?_
   by_cases c:n<cc m h k0
   .exact ho n c
   .have e:cc m h (k0+1)=cc m h k0+(runEnd m (lp m h k0).1-(lp m h k0).1)+1:=rfl;obtain⟨r',rfl⟩:∃r',n=cc m h k0+r':=⟨n-cc m h k0,∅⟩
    rw[CQ m h k0 (CP m h k0) r' ∅];exact run r' ∅
structure Laid(m:Nat)(hs:List Int)(owner:Array (Option Nat))(As:List Nat):Prop where
 size:owner.size=m+1
 len:As.length=hs.length
 nd:As.Nodup
 own:∀(j q:Nat),owner[j]?=Qa (Qa q)↔As[q]?=Qa j
 way:∀(q:Nat)(h:Int)(j:Nat),hs[q]?=Qa h->As[q]?=Qa j->∃n,(path m h n).j=j/\∀k,k<n->(path m h k).j∈As
def Laid.le(L:Laid m hs owner As)(hj:j∈As):j<=m:=by obtain⟨q,hq⟩:=VW hj;have:=(L.own j q).mpr hq;have:=(Zj.mp this).1;rw[L.size]at this;lia
def Laid.vW(L:Laid m hs owner As)(hj:j<=m):T4 owner j↔j∈As:=by
 have qj:j<owner.size:=by rw[L.size];lia
 have e:owner.getD j (Qa 0)=owner[j]:=by simp[Zq,qj]
 unfold T4;rw[e];constructor
 .intro h;cases q:owner[j]with
  |none=>rw[q]at h;cases h
  |some k=>exact Qz ((L.own j k).mp (by rw[JT qj,q]))
 .intro h;obtain⟨q,hq⟩:=VW h;have:=(L.own j q).mpr hq;rw[JT qj]at this;rw[QY this];rfl
def q5X(m:Nat):Laid m [] (Array.replicate (m+1) Qg) []:=by
 refine⟨by simp,rfl,Y0,λj q=>?_,λq h j e=>by simp at e⟩;constructor
 .intro e;rw[Array.getElem?_replicate]at e;split at e<;>simp at e
 .intro e;simp at e
def q5Y(g:k8 m)(L:Laid m hs owner As)(h:Int)(jY:hs.length<=m):
  ∃j,layClean.free m owner (turns m) (bits h %(m+1)) (bits h)=Qa j/\Laid m (hs++[h]) (owner.setIfInBounds j (Qa hs.length)) (As++[j]):=by
 obtain⟨e,he,hn⟩:=q0X As m (by rw[L.len];exact jY);obtain⟨K,hK,eK⟩:=rF m g h e he;obtain⟨n,f1,f2,f3⟩:=l8 m h owner (turns m) 0 ⟨K,QV _,by unfold turns;lia,by rw[eK,L.vW he];exact hn⟩ (λn hn=>by simp[cc]at hn);have hj:(path m h n).j<=m:=by have:=Aa m h n;lia
 have mG:(path m h n).j∉As:=λz=>f2 ((L.vW hj).mpr z);refine⟨(path m h n).j,f1,by simp[L.size],by simp[L.len],?_,λj q=>?_,λq h' j e1 e2=>?_⟩
 .rw[QU];refine⟨L.nd,by simp,λa ha b hb=>?_⟩;have:b=(path m h n).j:=by simpa using hb
  subst this;exactλz=>mG (z▸ha)
 .by_cases c:j=(path m h n).j
  .subst c;rw[Array.getElem?_setIfInBounds_self_of_lt (by rw[L.size];lia)];constructor
   .intro z;have:hs.length=q:=(by simpa using z);subst this;rw[Jh (by rw[L.len];exact Qs _),L.len];simp
   .intro z
    by_cases d:q<As.length
    .rw[QZ d]at z;exact absurd (Qz z) mG
    .rw[Jh ∅]at z;have:q-As.length=0:=by apply Ji;intro y;rw[JD (by simp;lia)]at z;cases z
     have:=L.len;have:q=hs.length:=∅;subst this;rfl
  .rw[Array.getElem?_setIfInBounds_ne (JQ c),L.own];constructor
   .intro z;rw[QZ (Qj.mp z).1];exact z
   .intro z
    by_cases d:q<As.length
    .rw[QZ d]at z;exact z
    .rw[Jh ∅]at z;have:j∈[(path m h n).j]:=Qz z;exact absurd (by simpa using this) c
 .have hl:=L.len;have up:∀a,a∈As->a∈As++[(path m h n).j]:=λa ha=>QD _ ha
  by_cases d:q<As.length
  .rw[QZ ∅]at e1;rw[QZ d]at e2;obtain⟨n',w1,w2⟩:=L.way q h' j e1 e2;exact⟨n',w1,λk hk=>up _ (w2 k hk)⟩
  .have hq:q=As.length:=by have:=(Qj.mp e2).1;simp at this;lia
   subst hq;rw[Jh ∅]at e1 e2;simp[hl]at e1 e2;subst e1 e2;exact⟨n,rfl,λk hk=>up _ ((L.vW (by have:=Aa m h k;lia)).mp (f3 k hk))⟩
theorem oY{m:Nat}(g:k8 m):∀(rest hs:List Int)(owner:Array (Option Nat))(As:List Nat),Laid m hs owner As->hs.length+rest.length<=m->
  ∃AZ IK,rest.foldl (λ(acc:Option (Array (Option Nat)×Nat)) h=>do
    let(owner,k) <-acc
    let j <-layClean.free m owner (turns m) (bits h %(m+1)) (bits h)
    pure (owner.setIfInBounds j (Qa k),k+1)) (Qa (owner,hs.length))=Qa (AZ,hs.length+rest.length)/\Laid m (hs++rest) AZ IK
 |[],hs,owner,As,L,_=>⟨owner,As,rfl,by rw[Q3];exact L⟩
 |h::rest,hs,owner,As,L,hl=>by simp at hl;obtain⟨j,e,L'⟩:=q5Y g L h ∅;have:=oY g rest (hs++[h]) _ _ L' (by simp;lia);obtain⟨AZ,IK,e2,L2⟩:=this;refine⟨AZ,IK,?_,by simpa using L2⟩;rw[VH];simp only[QT,UJ]at e2;simp only[bind,Option.bind,e,pure,QG];rw[show hs.length+(rest.length+1)=hs.length+1+rest.length by lia];exact e2
def oh(g:k8 m)(hs:List Int)(hl:hs.length<=m):∃owner As,layClean m hs.toArray=Qa owner/\Laid m hs owner As:=by obtain⟨owner,As,e,L⟩:=oY g hs [] _ _ (q5X m) (by simpa using hl);refine⟨owner,As,?_,by simpa using L⟩;unfold layClean;rw[List.foldl_toArray];simp only[Jz,WN]at e;rw[e];rfl
def vV(m:Nat)(owner:Array (Option Nat)):List (Nat×Nat):=(Qt (m+1)).filterMap λj=>(owner.getD j Qg).map (j,·)
def Xg{q:Nat}(L:Laid m hs owner As):(j,q)∈vV m owner↔As[q]?=Qa j:=by
 unfold vV;rw[U2];constructor
 .rintro⟨j',h1,h2⟩;have qj:j'<owner.size:=by rw[L.size];exact QN.mp h1
  have e:owner.getD j' Qg=owner[j']:=by simp[Zq,qj]
  rw[e]at h2;cases c:owner[j']with
  |none=>rw[c]at h2;cases h2
  |some q'=>
   rw[c]at h2;have:(j',q')=(j,q):=(by simpa using h2);cases this;exact(L.own j q).mp (by rw[JT qj,c])
 .intro h;have hj:=L.le (Qz h);have qj:j<owner.size:=by rw[L.size];lia
  refine⟨j,QN.mpr ∅,?_⟩;have e:owner.getD j Qg=owner[j]:=by simp[Zq,qj]
  have:=(L.own j q).mpr h;rw[JT qj]at this;rw[e,QY this];rfl
def ou(m:Nat)(owner:Array (Option Nat)):jV ((vV m owner).map (·.1)):=by unfold jV vV;rw[Jd];refine List.Pairwise.filterMap _ (λa a' qj b hb b' kg=>?_) Jo;obtain⟨q,_,rfl⟩:=YF.mp hb;obtain⟨q',_,rfl⟩:=YF.mp kg;exact qj
def ow(L:Laid m hs owner As):((vV m owner).map (·.2)).Perm (Qt hs.length):=by
 have nd:((vV m owner).map (·.2)).Nodup:=by have r:=ou m owner;unfold jV at r;rw[Jd]at r;unfold List.Nodup;rw[Jd];refine YT (λ{a b} ha hb qj=>?_) r;intro e;obtain⟨j,q⟩:=a;obtain⟨j',q'⟩:=b;simp only at e qj;subst e;have h2:=(Xg L).mp hb;rw[((Xg L).mp ha)]at h2;have:=QY h2;lia
 rw[JN nd Vq];intro q;rw[Qn,QN];constructor
 .rintro⟨⟨j,q'⟩,h,rfl⟩;have:=(Qj.mp ((Xg L).mp h)).1;rw[L.len]at this;exact this
 .intro h;have qj:q<As.length:=by rw[L.len];exact h
  exact⟨(As[q],q),(Xg L).mpr (Qv qj),rfl⟩
theorem ik{α β:Type}{f g:α->Option β}:∀{l:List α},(∀a∈l,f a=g a)->l.filterMap f=l.filterMap g
 |[],_=>rfl
 |a::l,h=>by rw[JC,JC,h a Qe,ik λb hb=>h b (Qc _ hb)]
def q61(es:List α)(d:α):(Qt es.length).map (λq=>es.getD q d)=es:=by
 apply WT
 .simp
 .intro i h1 h2;simp at h1|-;rw[Qv h1];rfl
def og(m fi mo:Nat)(le pl:Bool)(es:List (Int×Value))(g:k8 m)(jY:es.length<=m):
  ∃t' kE Z',laid m fi mo le pl (es.toArray.map (·.1))=Qa (t',kE)/\WF t' Z'/\kE.filterMap (es.toArray[·]?)=(Z'.map (·.2)).toArray/\(Z'.map (·.2)).Perm es/\
   t'.mask=m/\t'.led=le/\t'.plain=pl/\t'.dummies=#[]:=by
 obtain⟨owner,As,e,L⟩:=oh g (es.map (·.1)) (by rw[Qm];exact jY);have hl:(es.map (·.1)).length=es.length:=Qm _
 let d:Int×Value:=(0,Jr)
 let Z':List Ent:=(vV m owner).map λp=>(p.1,es.getD p.2 d)
 have qj:∀p∈vV m owner,p.2<es.length:=λp hp=>by have:=(Qj.mp ((Xg L).mp hp)).1;rw[L.len,hl]at this;exact this
 have z1:slots Z'=(vV m owner).map (·.1):=by show((vV m owner).map λp=>(p.1,es.getD p.2 d)).map (·.1)=_;rw[J0];rfl
 have z2:Z'.map (·.2)=((vV m owner).map (·.2)).map (λq=>es.getD q d):=by show((vV m owner).map λp=>(p.1,es.getD p.2 d)).map (·.2)=_;rw[J0,J0];rfl
 have zp:(Z'.map (·.2)).Perm es:=by rw[z2];refine((ow L).map _).trans ?_;rw[hl,q61]
 have zl:Z'.length=es.length:=by have:=zp.length_eq;rwa [Qm]at this
 refine⟨{mask:=m,place:=((vV m owner).map (·.1)).toArray,dummies:=#[],finger:=fi,led:=le,moves:=mo,plain:=pl},
  ((vV m owner).map (·.2)).toArray,Z',?_,?_,?_,zp,rfl,rfl,rfl,rfl⟩
 .unfold laid;rw[show es.toArray.map (·.1)=(es.map (·.1)).toArray by simp,e];rfl
 .refine⟨?_,?_,Jt,λj hj=>absurd hj (by simp),g,λz hz=>?_,by rw[zl];exact jY,λz hz=>?_⟩
  .rw[z1]
  .rw[z1];exact ou _ _
  .obtain⟨p,hp,rfl⟩:=Qn.mp hz;exact L.le (Qz ((Xg L).mp hp))
  .obtain⟨p,hp,rfl⟩:=Qn.mp hz;have hq:=qj p hp;have he:(es.map (·.1))[p.2]?=Qa (es.getD p.2 d).1:=by rw[QJ,Qv hq];simp[JH,hq]
   obtain⟨n,w1,w2⟩:=L.way p.2 _ p.1 he ((Xg L).mp hp);refine⟨n,w1,λk hk=>QD _ ?_⟩;rw[z1];obtain⟨q,DW⟩:=VW (w2 k hk);exact Qn.mpr ⟨(_,q),(Xg L).mpr DW,rfl⟩
 .rw[z2];apply UK.mp;simp only[Array.toList_filterMap];show List.filterMap (λx=>es.toArray[x]?) ((vV m owner).map (·.2))=_;refine(ik (g:=Qa∘λq=>es.getD q d) λq hq=>?_).trans (by rw[List.filterMap_eq_map]);obtain⟨p,hp,rfl⟩:=Qn.mp hq;have:=qj p hp;simp[JH,this]
def tM(t:SetTable)(es:List (Int×Value))(xb:Nat)(g:k8 (sizeAbove xb-1))(jY:es.length<=sizeAbove xb-1):
  ∃t' kE Z',t.relaid (es.toArray.map (·.1)) xb=Qa (t',kE)/\WF t' Z'/\kE.filterMap (es.toArray[·]?)=(Z'.map (·.2)).toArray/\(Z'.map (·.2)).Perm es/\
   t'.mask=sizeAbove xb-1/\t'.led=t.led/\t'.plain=t.plain/\t'.dummies=#[]:=og _ _ _ _ _ es g jY
theorem WF.size(wf:WF t Z):t.place.size=Z.length:=by rw[wf.place];simp[slots]
theorem WF.fill(wf:WF t Z):t.fill=Z.length+t.dummies.size:=by unfold SetTable.fill;rw[wf.size]
def sM(t:SetTable)(Z:List Ent):(vW t Z).length=Z.length+t.dummies.size:=by simp[vW,slots]
end SetT
namespace Snd
open PySem PySem.Spec PySem.W PyProof.Rows L2 Ev SetT
variable{h h' h₀:Heap}{a l:Addr}{Z:List Ent}{t t' tb:SetTable}{ep i n:Nat}{prog:Program}{w:World}{A:Around}{E:NZ}{s:Shared}{ds xs:List D}{x u:Value}{d:D}{α:Type}{M:D->Value->Prop}{c cl:Prop}{Q:Bool->Shared->Prop}{P:List ((Int×Value)×D)}{led:Bool}{us:List Value}{wr O:List Addr}{X:Cx}{p:Pm}{G:Nat->List D->R D}{sub:Nat->Nat->Bool}{pins:List (Addr×Obj)}{Y:L2.St}{H:Hp}{v:V}{os:List (List Addr)}
def Fc(h:Heap)(Z:List Ent)(ds:List D):Prop:=Z.length=ds.length/\∀(i:Nat)(z:Ent)(d:D),Z[i]?=Qa z->ds[i]?=Qa d->Dv h d z.2.2/\hv d=z.2.1/\qK 8 d=Qd/\qH d=Qd
structure SetIn(h:Heap)(a:Addr)(Z:List Ent)(t:SetTable)(ep:Nat):Prop where
 obj:∃o,h.get? a=Qa o/\o.ExactSet/\o.data=.set (Z.map (·.2)).toArray ep t
 wf:WF t Z
 plain:t.plain=Qd
theorem SetIn.fits(S:SetIn h a Z t ep):t.fits (Z.map (·.2)).toArray.size=Qd:=by unfold W8;rw[S.wf.size,S.wf.fill];have:=S.wf.jY;simp[this]
def Fc.at(e:Fc h Z ds){z:Ent}(hz:Z[i]?=Qa z):∃d,ds[i]?=Qa d/\Dv h d z.2.2/\hv d=z.2.1/\qK 8 d=Qd/\qH d=Qd:=by
 have wz:i<ds.length:=by rw[<-e.1];exact((Qj.mp hz).1)
 exact⟨ds[i],by simp[wz],e.2 i z ds[i] hz (by simp[wz])⟩
def k6{Q:(Array (Int×Value)×Nat×SetTable)->Shared->Prop}(S:SetIn s.heap a Z t ep)(h:Q ((Z.map (·.2)).toArray,ep,t) s):wpAny (model prog w) A (setState a) Q E s:=by refine qV S.obj λo ho _ hd=>?_;exact wpAny_setState_of ho hd S.fits h
def q41(wf:WF t Z):t.gaveWay=Qh:=by unfold SetTable.gaveWay;rcases wf.good with h|h|h|h|h|h<;>rw[h]<;>rfl
def if2{M:Model}[Decidable c]{a b:Sem α}{Q:α->Shared->Prop}(h1:c->wpAny M A a Q E s)(h2:¬c->wpAny M A b Q E s):wpAny M A (if c then a else b) Q E s:=by
 by_cases k:c
 .rw[if_pos k];exact h1 k
 .rw[if_neg k];exact h2 k
def q8m{stored:List Value}(px:qK 8 d=Qd)(hx:qH d=Qd)(Dx:Dv s.heap d x)(hs:∀y∈stored,∃e,Dv s.heap e y/\qK 8 e=Qd/\qH e=Qd)(h:Q Qh s):wpAny (model prog w) A (searchCouldBeSeen x stored) Q E s:=by
 unfold searchCouldBeSeen;refine Qb ?_;refine UZ _ (λrest r s'=>r.1=Qg/\s'=s/\∀y∈rest,∃e,Dv s.heap e y/\qK 8 e=Qd/\qH e=Qd) _ ?_ ?_ _ _ ⟨rfl,rfl,hs⟩
 .rintro v rest r s' ⟨hr,rfl,Tb⟩;refine qV (Tb v Qe) λe z pe he=>?_;have tl:=λu vS=>Tb u (Qc _ vS);refine if2 (λ_=>Qf ⟨rfl,rfl,tl⟩) λ_=>?_
  .refine Qb (tF 8 8 (Qs _) px hx Dx ?_);simp;refine Qb (tF 8 8 (Qs _) pe he z ?_);simp;refine Qb (rm 8 8 (Qs _) px hx Dx ?_);simp;refine Qb (rm 8 8 (Qs _) pe he z ?_);simp;exact Qf ⟨rfl,rfl,tl⟩
 .rintro⟨r1,r2⟩ s' ⟨hr,rfl,_⟩;simp only at hr;subst hr;exact Qf h
def if3{M:Model}[Decidable c]{m:Sem Bool}{a b:Sem α}{Q:α->Shared->Prop}(hm:∀Q':Bool->Shared->Prop,Q' Qh s->wpAny M A m Q' E s)(h:wpAny M A b Q E s):wpAny M A (if c then m>>=λz=>if z=Qd then a else b else b) Q E s:=
 if2 (λ_=>Qb (hm _ (by simp;exact h))) λ_=>h
def uP(ds:List D):Prop:=∀d∈ds,∃l,d=.qA l
theorem bN{ad:Bool}(S:SetIn s.heap a Z t ep)(en:Fc s.heap Z ds)(tu:uP ds)(px:qK 8 d=Qd)(hx:qH d=Qd)(Dx:Dv s.heap d x)(hu:A.units+8<cLine){N:Nat}(ff:Rc t.mask (hv d) (vW t Z) N){Q:SetFound->Shared->Prop}
  (hy:∀i,ds[i]?=Qa d->Q (.there (if ad then Qg else Qa i)) s) (hq:d∉ds->∀j wd,(wd=Qh/\j=(path t.mask (hv d) N).j)\/(wd=Qd/\j∈t.dummies.toList/\∃k,k<N/\(path t.mask (hv d) k).j=j)->Q (.free j wd) s) (hN:N<=10*(t.mask+13)):
  ∀(zc n:Nat)(dm:Option Nat)(st:Option SetTable.Probe),st.getD (t.probeStart (hv d))=pd (path t.mask (hv d) n) dm->T2 t (hv d) N dm->n<=N->N-n<zc->(∀k,k<n->∀(i:Nat)(z:Ent),Z[i]?=Qa z->ds[i]?=Qa d->z.1=(path t.mask (hv d) k).j->False)->
   wpAny (model prog w) A (setSearchFrom a x (hv d) ad zc st) Q E s
 |0,n,_,_,_,_,_,hf,_=>by lia
 |zc+1,n,dm,st,qX,XN,hn,hf,wN=>by
  unfold setSearchFrom;refine Qb (k6 S ?_);dsimp only;rw[q41 S.wf,qX];simp only[JZ,if_false];have hh:∀(i:Nat)(z:Ent),Z[i]?=Qa z->(((Z.map (·.2)).toArray[i]?.map (·.1)).getD 0)=z.2.1:=λi z hz=>by simp[hz]
  generalize hg:SetTable.probe t _ (hv d) (pd (path t.mask (hv d) n) dm)=g;rcases su S.wf hh ff (10*Vz t.mask) n dm hn (by unfold Vz;lia) XN with⟨k,i,z,d',h1,h2,h3,h4,h5,h6,h8,h7⟩|⟨h1,d',h8,h2⟩
  .have OI:=hg.symm.trans h7;subst OI;dsimp only;refine xm (en.at h3) λe e1 e2 e3 e4 e5=>?_;have ud:(Z.map (·.2)).toArray[i]?=Qa z.2:=(by simp[h3]);refine if3 (λQ' DW=>q8m px hx Dx (λy Xa=>?_) DW) ?_
   .simp only[Qn]at Xa;obtain⟨y',hy1,rfl⟩:=Xa;have hm:y'∈(Z.map (·.2)).toArray:=(Array.mem_filter.mp (Array.mem_def.mpr hy1)).1;have Tu:y'∈Z.map (·.2):=(by simpa using hm);obtain⟨zz,Ow,rfl⟩:=Qn.mp Tu;obtain⟨i',XQ,Ef⟩:=Ja Ow;refine xm (en.at (i:=i') (z:=zz) (by rw[Qv XQ,Ef])) λf _ f2 f3 f4 f5=>?_;exact⟨f,f2,f4,f5⟩
   rw[ud];dsimp only;refine Qb (Q4 (x8 8 (A:=A) e4 px e2 Dx hu prog w E _ ?_));refine Qb (k6 S ?_);have sm:t.sameMemory t.moves t.mask=Qa Qd:=(by unfold SetTable.sameMemory;simp);have sl:=RT S.wf.place S.wf.vZ (by unfold slots;rw[QJ,h3];exact congrArg Qa h4);obtain⟨l,el⟩:=tu e (Qz e1);have D0:=e2;rw[el]at D0;refine qL D0 λb us eb x1 x2=>?_
   by_cases c:e=d
   .
    rw[((jN e5 hx).mpr c)];have n7:=hy i (by rw[e1,c]);cases ad with
    |true=>exact Qf n7
    |false=>
     dsimp only;rw[if_neg (by decide),sm];dsimp only;rw[if_pos rfl,sl];dsimp only;rw[ud];dsimp only;rw[eb];refine Qb (wpAny_isSame_ref_self (Qb (Qf ?_)));rw[if_pos rfl];dsimp only;rw[if_pos rfl];exact Qf n7
   .have ne:qD e d=Qh:=by
     cases q:qD e d with
     |false=>rfl
     |true=>exact absurd ((jN e5 hx).mp q) c
    rw[ne];dsimp only;rw[if_neg (by rw[VS];decide),sm];dsimp only;rw[if_pos rfl,sl];dsimp only;rw[ud];dsimp only;rw[eb];refine Qb (wpAny_isSame_ref_self (Qb (Qf ?_)));rw[if_pos rfl];dsimp only;rw[if_neg (by decide)];refine bN S en tu px hx Dx hu ff hy hq hN zc (k+1) d' _ rfl h8 ∅ ∅ λk' G9 i' z' Xb wM Lk=>?_;have hz:=en.2 i' z' d Xb wM
    by_cases c1:k'<n
    .exact wN k' c1 i' z' Xb wM Lk
    .by_cases c2:k'=k
     .subst c2;have q1:=RT S.wf.place S.wf.vZ (by unfold slots;rw[QJ,Xb];exact congrArg Qa Lk);rw[sl]at q1;cases q1;rw[e1]at wM;exact c (QY wM)
     .exact h6 k' ∅ ∅ ⟨z',Qz Xb,Lk,hz.2.1.symm⟩
  .have OI:=hg.symm.trans h2;subst OI;dsimp only
   suffices hno2:d∉ds by
    cases d' with
    |none=>exact Qf (hq hno2 _ _ (.inl ⟨rfl,rfl⟩))
    |some j=>
     obtain⟨g1,g2⟩:=h8 j rfl;dsimp only;rw[(q0M S.wf.place (by simp) S.wf.X0 (S.wf.sep _ g1) g1),if_neg (by cases ad<;>decide)];exact Qf (hq hno2 _ _ (.inr ⟨rfl,g1,g2⟩))
   intro hm;obtain⟨i,hi,ei⟩:=Ja hm;have wz:i<Z.length:=(by rw[en.1];exact hi);have Tf:ds[i]?=Qa d:=(by rw[Qv hi,ei]);have n8:Z[i]?=Qa Z[i]:=(by simp[wz]);have hz:=en.2 i Z[i] d n8 Tf;obtain⟨k,k1,k2⟩:=q2F S.wf ff (Jl wz) hz.2.1.symm
   by_cases c:k<n
   .exact wN k c i _ n8 Tf k2
   .exact h1 k ∅ k1 ⟨_,Jl wz,k2,hz.2.1.symm⟩
def Rl(h:Heap)(e:Int×Value)(d:D):Prop:=Dv h d e.2/\hv d=e.1/\qK 8 d=Qd/\qH d=Qd
def yU(h:Heap)(P:List ((Int×Value)×D)):Prop:=∀p∈P,Rl h p.1 p.2
def yU.ents(q:yU h P)(e:P.map (·.1)=Z.map (·.2)):Fc h Z (P.map (·.2)):=by
 refine⟨by simp[(by have:=congrArg YG e;simpa using this)],λi z d hz hd=>?_⟩;rw[QJ]at hd;cases hp:P[i]?with
 |none=>rw[hp]at hd;exact nS hd
 |some p=>
  rw[hp]at hd;have e1:p.2=d:=QY hd;have e2:(P.map (·.1))[i]?=Qa p.1:=by rw[QJ,hp];rfl
  rw[e,QJ,hz]at e2;have e3:z.2=p.1:=QY e2;have:=q p (Qz hp);rw[<-e3,e1]at this;exact this
def CS{β:Type}(f:α->β){l m:List β}(p:l.Perm m):∀P:List α,P.map f=m->∃P':List α,P'.Perm P/\P'.map f=l:=by
 induction p with
 |nil=>exactλP e=>⟨P,.refl _,e⟩
 |cons x _ ih=>
  intro P e;cases P with
  |nil=>cases e
  |cons y P=>
   simp at e;obtain⟨P',p1,p2⟩:=ih P e.2;exact⟨y::P',p1.cons y,by rw[Qw,e.1,p2]⟩
 |swap x y l=>
  intro P e
  match P,e with
  |u::v::P,e=>
   simp at e;exact⟨v::u::P,.swap _ _ _,by simp[e.1,e.2.1,e.2.2]⟩
 |trans _ _ uj uk=>
  intro P e;obtain⟨P1,p1,e1⟩:=uk P e;obtain⟨P2,p2,e2⟩:=uj P1 e1;exact⟨P2,p2.trans p1,e2⟩
structure SetD(M:D->Value->Prop)(h₀ h:Heap)(a:Addr)(ds:List D)(led:Bool)(cl:Prop):Prop where
 ex:∃Z t ep P,SetIn h a Z t ep/\yU h₀ P/\P.map (·.1)=Z.map (·.2)/\(P.map (·.2)).Perm ds/\t.tooFull=Qh/\t.led=led/\(∀p∈P,M p.2 p.1.2)/\(cl->t.dummies=#[])
 kp:∀b o,h₀.get? b=Qa o->h.get? b=Qa o
 nw:h₀.get? a=Qg
def yU.keep(q:yU h P)(k:∀b o,h.get? b=Qa o->h'.get? b=Qa o):yU h' P:=λp hp=>let⟨r1,r2⟩:=q p hp;⟨(Rp k).1 _ _ r1,r2⟩
def Dm(kp:∀b o,h₀.get? b=Qa o->h.get? b=Qa o)(nw:h₀.get? a=Qg)(k:JE a h h'):∀b o,h₀.get? b=Qa o->h'.get? b=Qa o:=λb o e=>by rw[k.2 b (λc=>by subst c;rw[nw]at e;exact nS e)];exact kp b o e
def tO(h3:n<64):k8 (QM (Jy n)-1)/\n<=QM (Jy n)-1/\n*5<(QM (Jy n)-1)*3:=by
 have key:∀n,n<64->k8 (QM (Jy n)-1)/\n<=QM (Jy n)-1/\n*5<(QM (Jy n)-1)*3:=by unfold k8;decide+kernel
 exact key n h3
def RX{Z':List Ent}{Q:Unit->Shared->Prop}(S:SetIn s.heap a Z t ep)(wf:WF t' Z')(pl:t'.plain=Qd)(hl:Z'.length<=64)
  (h:∀h',JE a s.heap h'->SetIn h' a Z' t' (ep+1)->Q () {s with heap:=h'}):wpAny (model prog w) A (storeSet a (Z'.map (·.2)).toArray t') Q E s:=by
 refine qV S.obj λo ho hx hd=>?_;have hg:(s.heap.update a (Obj.putSet (Z'.map (·.2)).toArray t')).get? a=Qa {o with data:=.set (Z'.map (·.2)).toArray (ep+1) t'}:=by have:=YQ (Obj.putSet (Z'.map (·.2)).toArray t') ho (by rw[putSet_of _ t' hd];rfl);rw[putSet_of _ t' hd]at this;exact this
 refine wpAny_storeSet_of ho hd (h _ (Js s.heap a _) ⟨⟨_,hg,hx,rfl⟩,wf,pl⟩) ?_;rw[Jk];simp;lia
def tN{Q:Unit->Shared->Prop}(S:SetIn s.heap a Z t ep)(g:k8 (QM n-1))(jY:Z.length<=QM n-1)(hl:Z.length<=64)
  (h:∀h' Z' t',JE a s.heap h'->SetIn h' a Z' t' (ep+1)->(Z'.map (·.2)).Perm (Z.map (·.2))->t'.mask=QM n-1->t'.led=t.led->t'.dummies=#[]->Q () {s with heap:=h'}):wpAny (model prog w) A (setRelay a n) Q E s:=by
 obtain⟨t',kE,Z',r1,r2,r3,r4,r5,r6,r7,r8⟩:=tM t (Z.map (·.2)) n g (by rw[Qm];exact jY);unfold setRelay;refine Qb (k6 S ?_);dsimp only;have hs:¬(QM n>QI):=by rw[Jk];rcases g with g|g|g|g|g|g<;>lia
 rw[if_neg hs];refine Qb ?_;rw[r1];have hz:Z'.length=Z.length:=by have:=r4.length_eq;simpa using this
 change wpAny _ _ (if((kE.filterMap ((Z.map (·.2)).toArray[·]?)).size !=(Z.map (·.2)).toArray.size)=Qd then(ZV "internal:set-table-lost-an-element">>=λ_=>pure (kE.filterMap ((Z.map (·.2)).toArray[·]?),t'))else pure (kE.filterMap ((Z.map (·.2)).toArray[·]?),t')) _ _ _;rw[r3,if_neg (by simp[hz])];exact Qf (RX S r2 (by rw[r7];exact S.plain) ∅ λh' k S'=>h h' Z' t' k S' r4 r5 r6 r8)
def t8(t:SetTable)(j:Nat)(h:t.plain=Qd):({(t.put j).1 with plain:=Qd}:SetTable)=(t.put j).1:=by obtain⟨a,b,c,e,f,g,p⟩:=t;cases h;rfl
def d8(S:SetD M h₀ s.heap a ds led cl)(tu:uP (d::ds))(px:qK 8 d=Qd)(hx:qH d=Qd)(Rb:Dv h₀ d x)(mx:M d x)(hu:A.units+8<cLine)(hl:d∉ds->ds.length<63)
  (hy:d∈ds->Q Qh s) (hq:d∉ds->∀h',JE a s.heap h'->SetD M h₀ h' a (d::ds) led cl->Q Qd {s with heap:=h'}):wpAny (model prog w) A (V1 a x (hv d)) Q E s:=by
 obtain⟨⟨Z,t,ep,P,S,pr,e1,e2,tf,le,mm,kM⟩,kp,nw⟩:=S;have Dx:=(Rp kp).1 _ _ Rb;have qT:Z.length=ds.length:=by have h1:=congrArg YG e1;have h2:=e2.length_eq;simp at h1 h2;lia
 have tf':(Z.length+t.dummies.size)*5<t.mask*3:=by have:=tf;unfold JU at this;rw[S.wf.fill]at this;simpa using this
 obtain⟨N,n1,n2⟩:=Lo S.wf.good (hv d) (vW t Z) (by rw[sM];exact S.wf.jY);have hm:t.mask<=255:=by rcases S.wf.good with h|h|h|h|h|h<;>lia
 obtain⟨l,rfl⟩:=tu d Qe;unfold V1 setAddHashedIn;refine Q4 (Qb (k6 S ?_));dsimp only;have bs:byScan x (Z.map (·.2)).toArray=Qh:=by refine kX Dx λb us zz _=>?_;subst zz;rfl
 rw[bs];simp only[JZ,if_false];unfold setSearch;refine Qb (bN S ((pr.keep kp).ents e1) (λe he=>tu e (Qc _ (e2.mem_iff.mp he))) px hx Dx hu n2 (λi hm=>?_) (λhm j wd hj=>?_) n1 100000 0 Qg Qg rfl (λj e=>by exact nS e) (QV _) ∅ (λk hk=>by lia))
 .exact Qf (hy (e2.mem_iff.mp (Qz hm)))
 .dsimp only;obtain⟨N',ej,PE,hj0,q4F⟩:∃N',(path t.mask (hv (.qA l)) N').j=j/\(∀k,k<N'->(path t.mask (hv (.qA l)) k).j∈vW t Z)/\j∉slots Z/\(j∈t.dummies.toList\/Z.length+t.dummies.size<t.mask):=by
   rcases hj with⟨_,rfl⟩|⟨_,h1,k,hk,ek⟩
   .exact⟨N,rfl,n2.2,λh=>n2.1 (QD _ h),.inr (by rcases S.wf.good with h|h|h|h|h|h<;>lia)⟩
   .exact⟨k,ek,λk' G9=>n2.2 k' ∅,S.wf.sep _ h1,.inl h1⟩
  refine Qb (k6 S ?_);rw[show(t.put j).1.plain=Qd from S.plain];rw[if_pos rfl];refine Qb (q27 8 8 (Qs _) px hx Dx ?_);rw[if_pos rfl];have wf:=S.wf.insert (x:=x) ej hj0 PE q4F Qd;rw[t8 _ _ S.plain]at wf;refine wH (bF S.wf.X0 j) λ_ _ pd3 pd4=>?_;have hp:(t.put j).2<=Z.length:=by have:=(XB (slots Z) S.wf.vZ j).1;show WU t.place j<=_;rw[S.wf.place];simpa[slots]using this
  have ei:Hb (Z.map (·.2)).toArray (t.put j).2 (hv (.qA l),x)=((kh Z (t.put j).2 (j,hv (.qA l),x)).map (·.2)).toArray:=by rw[GQ _ _ _ (by simpa using hp),PK]
  have XU:(kh Z (t.put j).2 (j,hv (.qA l),x)).length=Z.length+1:=by have:=(S4 Z (t.put j).2 (j,hv (.qA l),x)).length_eq;simpa using this
  rw[ei]
  let P':List ((Int×Value)×D):=P.take (t.put j).2++((hv (.qA l),x),.qA l)::P.drop (t.put j).2
  have pp:P'.Perm (((hv (.qA l),x),.qA l)::P):=by refine Ub.trans (.cons _ ?_);rw[JX]
  have q1:P'.map (·.1)=(kh Z (t.put j).2 (j,hv (.qA l),x)).map (·.2):=by rw[PK,<-e1];simp[P',Ys,YO]
  have q2:=Uc (pp.map (λp=>p.2)) (Uc (by rw[Qw]) (e2.cons (D.qA l)));have Px:yU h₀ P':=λp vE=>by
   rcases Qo.mp (pp.mem_iff.mp vE)with h|h
   .subst h;exact⟨Rb,rfl,px,hx⟩
   .exact pr p h
  have RC:∀p∈P',M p.2 p.1.2:=λp vE=>by
   rcases Qo.mp (pp.mem_iff.mp vE)with h|h
   .subst h;exact mx
   .exact mm p h
  have wN:D.qA l∉ds:=λh=>hm (e2.mem_iff.mpr h);have hl:=hl wN;refine Qb (RX S wf S.plain ∅ λh' k S'=>?_);have R8:=Dm kp nw k;have hf:(t.put j).1.tooFull=decide ((Z.length+1+(t.put j).1.dummies.size)*5≥t.mask*3):=by unfold JU;rw[wf.fill,XU];rfl
  by_cases c:(!wd&&(t.put j).1.tooFull)=Qd
  .rw[if_pos c];have hsz:(Z.map (·.2)).toArray.size+1=Z.length+1:=(by simp);refine uV (tO (n:=Z.length+1) ∅) λg1 g2 g3=>?_;rw[hsz];refine Qb (tN S' g1 (by rw[XU];exact g2) ∅ λh2 Z2 t2 k2 S2 p2 m2 l2 gw=>?_);obtain⟨P2,o1,o2⟩:=CS (·.1) p2 P' q1;refine Qf (hq wN h2 (k.trans k2) ⟨⟨Z2,t2,_,P2,S2,λp vE=>Px p (o1.mem_iff.mp vE),o2,Uc (o1.map (λp=>p.2)) q2,?_,?_,λp vE=>RC p (o1.mem_iff.mp vE),λ_=>gw⟩,Dm R8 nw k2,nw⟩)
   .unfold JU;rw[S2.wf.fill,m2,gw];have R0:Z2.length=Z.length+1:=(by have:=p2.length_eq;simp[XU]at this;lia);rw[R0];simpa using g3
   .rw[l2];exact le
  .rw[if_neg c];refine Qf (hq wN h' k ⟨⟨_,_,_,P',S',Px,q1,q2,?_,le,RC,λz=>?_⟩,R8,nw⟩)
   .rcases hj with⟨rfl,_⟩|⟨_,h1,_⟩
    .simpa using c
    .rw[hf];have:=pd3 h1;rw[decide_eq_false_iff_not];lia
   .have e0:=kM z;have:j∉t.dummies.toList:=(by rw[e0];simp);rw[pd4 this];exact e0
theorem sv{t:SetTable}{Z:List Ent}(wf:WF t Z)(wj:t.dummies=#[]) {h:Int}{hash:Nat->Int}(hh:∀i,(hash i==h)=Qh) {N:Nat}(ff:Rc t.mask h (slots Z) N):
  ∀zc n,n<=N->N-n<zc->VA t hash h zc (path t.mask h n)=Qa (.empty (path t.mask h N).j Qg)
 |0,n,_,hf=>by lia
 |zc+1,n,hn,hf=>by
  by_cases e:n=N
  .subst e;unfold VA;rw[q0N wf.place (by rw[wj]) Jt (by simpa using ff.1)];simp only[sU]
  .
   obtain⟨i,hi,ei⟩:=Ja (ff.2 n ∅);unfold VA;rw[RT wf.place wf.vZ (by rw[Qv hi,ei])];simp only[hh i,JZ,if_false];exact sv wf wj hh ff zc (n+1) ∅ ∅
def q3W(wf:WF t Z)(wj:t.dummies=#[]) {h:Int}{N:Nat}(ff:Rc t.mask h (slots Z) N) (hN:N<=10*(t.mask+13)):t.freeSlot h=Qa ((path t.mask h N).j,Qh):=by unfold SetTable.freeSlot;have:=sv wf wj (h:=h) (hash:=λ_=>h+1) (λi=>by simp;lia) ff (10*Vz t.mask) 0 (QV _) (by unfold Vz;lia);rw[show t.probe (λ_=>h+1) h (t.probeStart h)=_ from this];rfl
def q7m(t:SetTable)(es:List (Int×Value))(xb:Nat)(g:k8 (QM xb-1))(jY:es.length<=QM xb-1)
  (h:t.relaid (es.toArray.map (·.1)) xb=Qa (t',kE)):kE.toList.Perm (Qt es.length):=by
 obtain⟨owner,As,e,L⟩:=oh g (es.map (·.1)) (by rw[Qm];exact jY);have h2:SetTable.laid (QM xb-1) t.finger (t.movedTo (QM xb-1)) t.led t.plain (es.toArray.map (·.1))=Qa (t',kE):=h;unfold SetTable.laid at h2;rw[show es.toArray.map (·.1)=(es.map (·.1)).toArray by simp,e]at h2;have h3:kE=((vV (QM xb-1) owner).map (·.2)).toArray:=(congrArg (·.2) (QY h2)).symm;rw[h3];have:=ow L;rw[Qm]at this;exact this
def q7n(hn:n=Z.length)(g:k8 (QM (Jy n)-1))(jY:n<=QM (Jy n)-1):
  ∃Z' t',relayAll t (Z.map (·.2)).toArray (Jy n)=((Z'.map (·.2)).toArray,t',Qh)/\WF t' Z'/\(Z'.map (·.2)).Perm (Z.map (·.2))/\t'.mask=QM (Jy n)-1/\t'.led=t.led/\t'.plain=t.plain/\t'.dummies=#[]:=by
 have fw:(Z.map (·.2)).length<=QM (Jy n)-1:=by rw[Qm,<-hn];exact jY
 refine LQ (tM t (Z.map (·.2)) (Jy n) g fw) λt' kE Z' r1 r2 r3 r4 r5 r6 r7=>?_;refine⟨Z',t',?_,r2,r4,r5,r6,r7⟩;unfold relayAll;rw[r1];dsimp only;rw[r3];have c1:coversAll kE (Z.map (·.2)).toArray.size=Qd:=by unfold coversAll;rw[List.isPerm_iff];simpa using(q7m t (Z.map (·.2)) (Jy n) g fw r1)
 have c2:t'.fits (Z'.map (·.2)).toArray.size=Qd:=by unfold W8;rw[r2.size,r2.fill];have:=r2.jY;simp[this]
 rw[c1,c2];rfl
def cY(ds:List D):Prop:=∀d∈ds,∃i,d=.int i
section
variable{n:Int}
def lO{M:Model}{Q:Unit->Shared->Prop}(h:Q () s):wpAny M A (match Qh with|true=>rule "set.scan.the-table-gave-way"|false=>pure ()) Q E s:=Qf h
def add_int(S:SetD M h₀ s.heap a ds led True)(tu:cY ds)(Rb:Dv h₀ (.int n) x)(mx:M (.int n) x)(hl:.int n∉ds->ds.length<63)
  (hy:.int n∈ds->Q Qh s) (hq:.int n∉ds->∀h',JE a s.heap h'->SetD M h₀ h' a (.int n::ds) led True->Q Qd {s with heap:=h'}):wpAny (model prog w) A (V1 a x (hv (.int n))) Q E s:=by
 obtain⟨⟨Z,t,ep,P,S,pr,e1,e2,tf,le,mm,kM⟩,kp,nw⟩:=S;have wj:=kM trivial;have px:qK 8 (.int n)=Qd:=rfl;have hx:qH (.int n)=Qd:=rfl;have qT:Z.length=ds.length:=by have h1:=congrArg YG e1;have h2:=e2.length_eq;simp at h1 h2;lia
 have tf':Z.length*5<t.mask*3:=by have:=tf;unfold JU at this;rw[S.wf.fill,wj]at this;simpa using this
 obtain⟨N,n1,n2⟩:=Lo S.wf.good (hv (.int n)) (slots Z) (by have:=S.wf.jY;rw[wj]at this;simpa[slots]using this);have lD:=q3W S.wf wj n2 n1;obtain⟨tk,rfl⟩:=Rb;have P6:ElemsOf (Uq prog w) (Z.map (·.2)):=λe he=>by obtain⟨z,hz,rfl⟩:=Qn.mp he;obtain⟨i,hi,ei⟩:=Ja hz;refine xm (((pr.keep kp).ents e1).at (i:=i) (z:=z) (by rw[Qv hi,ei])) λd d1 d2 d3 d4 d5=>?_;obtain⟨m,rfl⟩:=tu d (e2.mem_iff.mp (Qz d1));obtain⟨tk',d6⟩:=d2;rw[d6];exact⟨⟨m,by simp[Uq,Vd],d3.symm⟩,rfl⟩
 have mD:∀p∈P,(Uq prog w).is n p.1.2=Qd↔p.2=.int n:=λp hp=>by obtain⟨m,em⟩:=tu p.2 (e2.mem_iff.mp (Qn.mpr ⟨p,hp,rfl⟩));have:=((pr.keep kp) p hp).1;rw[em]at this;obtain⟨tk',q⟩:=this;rw[q,em];simp[Uq,Vd]
 unfold V1 setAddHashedIn;refine qV S.obj λo ho m8 hd=>?_;refine Q4 (Qb (k6 S ?_));dsimp only;rw[byScan_of (knd:=Uq prog w) rfl (by show(Z.map (·.2)).toArray.size<4096;simp;rcases S.wf.good with h|h|h|h|h|h<;>lia) (by simpa using P6)];rw[if_pos rfl];unfold setAddByScan;refine Qb (Qb (W2 ?_));refine Qb (wpAny_setScan_of (knd:=Uq prog w) (k:=n) (by simp[Uq,Vd]) ho hd S.fits (by simpa using P6) ?_);cases hr:List.findIdx? (λe=>(Uq prog w).is n e.2) (Z.map (·.2)).toArray.toList with
 |some j=>
  dsimp only;refine qR (List.findIdx?_eq_some_iff_getElem.mp hr) λhj mV _=>?_;refine Qf (Qf (hy ?_));obtain⟨p,hp,wm⟩:=Qn.mp (by rw[e1];exact Jl hj);rw[<-wm]at mV;exact e2.mem_iff.mp (Qn.mpr ⟨p,hp,(mD p hp).mp mV⟩)
 |none=>
  dsimp only;have wN:D.int n∉ds:=λh=>by
   obtain⟨p,hp,wm⟩:=Qn.mp (e2.mem_iff.mpr h);have h2:p.1∈(Z.map (·.2)).toArray.toList:=by have:p.1∈P.map (λp=>p.1):=Qn.mpr ⟨p,hp,rfl⟩;rw[e1]at this;exact this
   have:=List.findIdx?_eq_none_iff.mp hr _ h2;rw[((mD p hp).mpr wm)]at this;cases this
  have hl:=hl wN;generalize hz:(path t.mask (hv (.int n)) N).j=j at lD;have wf:=S.wf.insert (x:=.int n tk) hz (hz▸n2.1) (λk hk=>QD _ (n2.2 k hk)) (.inr (by rw[wj];show Z.length+0<t.mask;have:=S.wf.good;rcases this with h|h|h|h|h|h<;>lia)) Qd;rw[t8 _ _ S.plain]at wf;have gr:(t.put j).1.dummies=#[]:=by rw[(bF S.wf.X0 j).2.2.2 (by rw[wj];simp)];exact wj
  have hp:(t.put j).2<=Z.length:=by have:=(XB (slots Z) S.wf.vZ j).1;show WU t.place j<=_;rw[S.wf.place];simpa[slots]using this
  have ei:Hb (Z.map (·.2)).toArray (t.put j).2 (hv (.int n),.int n tk)=((kh Z (t.put j).2 (j,hv (.int n),.int n tk)).map (·.2)).toArray:=by rw[GQ _ _ _ (by simpa using hp),PK]
  have XU:(kh Z (t.put j).2 (j,hv (.int n),.int n tk)).length=Z.length+1:=by have:=(S4 Z (t.put j).2 (j,hv (.int n),.int n tk)).length_eq;simpa using this
  have hft:(t.put j).1.fits ((kh Z (t.put j).2 (j,hv (.int n),.int n tk)).map (·.2)).toArray.size=Qd:=by unfold W8;rw[wf.size,wf.fill];have:=wf.jY;simp[this]
  have hL:layNew t (Z.map (·.2)).toArray (hv (.int n)) (.int n tk)=(((kh Z (t.put j).2 (j,hv (.int n),.int n tk)).map (·.2)).toArray,(t.put j).1,Qh,Qh):=by unfold layNew;rw[lD];dsimp only;rw[ei];unfold SetTable.orStandIn;rw[hft];rfl
  let P':List ((Int×Value)×D):=P.take (t.put j).2++((hv (.int n),.int n tk),.int n)::P.drop (t.put j).2
  have pp:P'.Perm (((hv (.int n),.int n tk),.int n)::P):=by refine Ub.trans (.cons _ ?_);rw[JX]
  have q1:P'.map (·.1)=(kh Z (t.put j).2 (j,hv (.int n),.int n tk)).map (·.2):=by rw[PK,<-e1];simp[P',Ys,YO]
  have q2:(P'.map (·.2)).Perm (.int n::ds):=Uc (pp.map (λp=>p.2)) (Uc (by rw[Qw]) (e2.cons (D.int n)));have Px:yU h₀ P':=λp vE=>by
   rcases Qo.mp (pp.mem_iff.mp vE)with h|h
   .subst h;exact⟨⟨tk,rfl⟩,rfl,px,hx⟩
   .exact pr p h
  have RC:∀p∈P',M p.2 p.1.2:=λp vE=>by
   rcases Qo.mp (pp.mem_iff.mp vE)with h|h
   .subst h;exact mx
   .exact mm p h
  rw[hL];dsimp only;refine Qb (lO ?_);rw[show(t.put j).1.plain=Qd from S.plain];rw[if_pos rfl,hashByValue_scannable 8 (x:=.int n tk) rfl];refine Qb (Qf ?_);rw[if_pos (show plainKind (.int n tk)=Qd from rfl)];refine Qb (RX S wf S.plain ∅ λh' k S'=>?_);have R8:=Dm kp nw k;have hf:(t.put j).1.tooFull=decide ((Z.length+1)*5≥t.mask*3):=by unfold JU;rw[wf.fill,XU,gr];rfl
  by_cases c:(Z.length+1)*5≥t.mask*3
  .rw[if_pos (by rw[hf];simpa using c)];refine uV (tO (n:=Z.length+1) ∅) λg1 g2 g3=>?_;have hsz:((kh Z (t.put j).2 (j,hv (.int n),.int n tk)).map (·.2)).toArray.size=Z.length+1:=(by simp[XU]);rw[hsz];refine LO (q7n (Z:=kh Z (t.put j).2 (j,hv (.int n),.int n tk)) (t:=(t.put j).1) XU.symm g1 g2) λZ2 t2 y1 y2 y3 y4 y5 y6 y7=>?_;rw[y1];dsimp only;have R0:Z2.length=Z.length+1:=(by have:=y3.length_eq;simp[XU]at this;lia);refine Qb (lO ?_);refine Qb (RX S' y2 (by rw[y6];exact S.plain) ∅ λh2 k2 S2=>?_);refine qR (CS (·.1) y3 P' q1) λP2 o1 o2=>?_;refine Qf (Qf (hq wN h2 (k.trans k2) ⟨⟨Z2,t2,_,P2,S2,λp vE=>Px p (o1.mem_iff.mp vE),o2,Uc (o1.map (λp=>p.2)) q2,?_,?_,λp vE=>RC p (o1.mem_iff.mp vE),λ_=>y7⟩,Dm R8 nw k2,nw⟩))
   .unfold JU;rw[S2.wf.fill,y4,R0,y7];simpa using g3
   .rw[y5];exact le
  .rw[if_neg (by rw[hf];simpa using c)];exact Qf (Qf (hq wN h' k ⟨⟨_,_,_,P',S',Px,q1,q2,by rw[hf];simpa using c,le,RC,λ_=>gr⟩,R8,nw⟩))
end
def Rg(xs:List D):Prop:=uP xs\/cY xs
def q1I(S:SetD M h₀ s.heap a ds led True)(kn:Rg (d::ds))(px:qK 8 d=Qd)(hx:qH d=Qd)(Dx:Dv h₀ d x)(mx:M d x)(hu:A.units+10<cLine)(hl:d∉ds->ds.length<63)
  (hy:d∈ds->∀tk,Q Qh {s with toks:=tk}) (hq:d∉ds->∀h' tk,JE a s.heap h'->SetD M h₀ h' a (d::ds) led True->Q Qd {s with heap:=h',toks:=tk}):wpAny (model prog w) A (setAdd a x) Q E s:=by
 unfold setAdd;refine Q4 (Qb (q7S 8 px hx ((Rp S.kp).1 _ _ Dx) ∅ λtk=>?_));rcases kn with kn|kn
 .exact d8 (s:={s with toks:=tk}) S kn px hx Dx mx ∅ hl (λh=>hy h tk) λh h' k S'=>hq h h' tk k S'
 .obtain⟨n,rfl⟩:=kn d Qe;exact add_int (s:={s with toks:=tk}) S (λe he=>kn e (Qc _ he)) Dx mx hl (λh=>hy h tk) λh h' k S'=>hq h h' tk k S'
def SetD.move(S:SetD M h₀ h a ds led True)(ha:a∉wr)(hw:∀b∈wr,h₀.get? b=Qg)(k:∀b o,b∉wr->h.get? b=Qa o->h'.get? b=Qa o):SetD M h₀ h' a ds led True:=by obtain⟨⟨Z,t,ep,P,⟨⟨o,ho,r⟩,wf,pl⟩,q⟩,kp,nw⟩:=S;refine⟨⟨Z,t,ep,P,⟨⟨o,k a o ha ho,r⟩,wf,pl⟩,q⟩,λb o e=>k b o (λhb=>?_) (kp b o e),nw⟩;rw[hw b hb]at e;exact nS e
def q0m{e:D}(h:xs[i]?=Qa d):e∈xs.take (i+1)↔e=d\/e∈xs.take i:=by rw[List.take_succ,h,QA];simp;exact Or.comm
def Av{R:ZI->Shared->Prop}{I:Addr}{fp:List Addr}{P:Nat->Value->Prop}{St:Nat->Heap->Prop}(W:Walks prog w A.in1 I fp wr n P St)(lq:a∉fp)(hw:∀b∈wr,h₀.get? b=Qg)
  (dx:zA h₀ xs us) (mx:∀(i:Nat) d v,xs[i]?=Qa d->us[i]?=Qa v->M d v) (hP:∀i v,P i v->us[i]?=Qa v) (hn:n=us.length) (kn:Rg xs) (hh:qx xs=Qd) (hp:∀d∈xs,qK 8 d=Qd) (hu:A.units+11<cLine) (hl:∀l:List D,l.Nodup->(∀d∈l,d∈xs)->l.length<64):
  ∀(k i:Nat)(s:Shared)(ds:List D),n-i=k->i<=n->St i s.heap->SetD M h₀ s.heap a ds led True->ds.Nodup->(∀d,d∈ds↔d∈xs.take i)->
   (∀h' tk zE,(∀b o,b∉a::wr->s.heap.get? b=Qa o->h'.get? b=Qa o)->SetD M h₀ h' a zE led True->zE.Nodup->(∀d,d∈zE↔d∈xs)->R (.ok (.ret .none)) {s with heap:=h',toks:=tk})->
   codeAny (model prog w) A (.builtin "set.update.loop" ⟨[.ref a,.ref I],[]⟩) R s:=by
 have lx:a∉wr:=λh=>lq (W.sub _ h);have Ot:=dx.length;intro k
 induction k with
 |zero=>
  intro i s ds hk hi qX S nd hm hR;have:i=n:=∅
  subst this;refine Yx F.entry_set_update_loop ?_;rw[Ym F.plain_set_update_loop _];refine Qb (W.done s _ _ qX λh' tk XW=>?_);refine Qf (hR h' tk ds (λb o hb e=>XW b o (λh=>hb (Qc _ h)) e) (S.move lx hw XW) nd λd=>?_);rw[hm d,JO ∅]
 |succ k ih=>
  intro i s ds hk hi qX S nd hm hR;refine Yx F.entry_set_update_loop ?_;rw[Ym F.plain_set_update_loop _];refine Qb (W.item i s _ _ ∅ qX λv h1 IC hv me XW=>?_);have yA:=hP i v hv;have P9:i<xs.length:=∅
  have Tf:xs[i]?=Qa xs[i]:=by simp[P9]
  refine qR (dx.get Tf) λv' PC Dx=>?_;rw[yA]at PC;cases PC;have S1:=S.move lx hw XW;have sub:∀d∈ds,d∈xs:=λd hd=>List.mem_of_mem_take ((hm d).mp hd);have xF:=Jl P9;have kn':Rg (xs[i]::ds):=by
   rcases kn with kn|kn
   .exact .inl λd hd=>(Qo.mp hd).elim (λh=>kn d (h▸xF)) λh=>kn d (sub d h)
   .exact .inr λd hd=>(Qo.mp hd).elim (λh=>kn d (h▸xF)) λh=>kn d (sub d h)
  refine Qb (Q4 (q1I S1 kn' (hp _ xF) (j0.mp hh _ xF) Dx (mx i _ _ Tf yA) (by rw[Jb];lia) (λhd=>by have:=hl (xs[i]::ds) (QQ.mpr ⟨hd,nd⟩) (λd wM=>(Qo.mp wM).elim (λh=>h▸xF) (sub d));simp at this;lia) (λhd tk=>?_) λhd h2 tk k2 S2=>?_))
  .refine Qf ⟨Y3 F.plain_set_update_loop _,ih (i+1) _ ds ∅ ∅ me S1 nd (λd=>?_) λh3 Co LI k3 S3 aZ m3=>?_⟩
   .rw[q0m Tf,hm d];exact⟨.inr,λh=>h.elim (λe=>e▸(hm _).mp hd) id⟩
   .exact hR h3 Co LI (λb o hb e=>k3 b o hb (XW b o (λh=>hb (Qc _ h)) e)) S3 aZ m3
  .refine Qf ⟨Y3 F.plain_set_update_loop _,ih (i+1) _ (xs[i]::ds) ∅ ∅ (W.frame _ _ _ me λb hb o e=>?_) S2 (QQ.mpr ⟨hd,nd⟩) (λd=>?_) λh3 Co LI k3 S3 aZ m3=>?_⟩
   .
    rw[k2.2 b (λh:b=a=>lq (by rw[<-h];exact hb))];exact e
   .rw[q0m Tf,Qo,hm d]
   .refine hR h3 Co LI (λb o hb e=>k3 b o hb ?_) S3 aZ m3;rw[k2.2 b (λh:b=a=>hb (by rw[h];exact Qe))];exact XW b o (λh=>hb (Qc _ h)) e
noncomputable def j7(w:World):Bool:=w.params.followText "set-order"
def vJ(w:World):Obj:={cls:=.type "set",dict:=Qg,data:=.set #[] 0 (.fresh 0 0 (!j7 w))}
def q6Q(v:Value)(h:Q₁ (.ref s.heap.objs.size) {s with heap:=s.heap.push (vJ w)}):codeAny (model prog w) A (.call (.builtin "set.__new__") ⟨[.type "set",v],[]⟩) (wants Q₁ E) s:=by
 refine codeAny_of_tree (?_);refine Qb (Wu (F.newCall_set_1 v) (Qf (And.intro (Y3 F.plain_set_new _) (Yx F.entry_set_new ?_))));rw[(Ym F.plain_set_new _)];unfold Ua.«set.__new__»;unfold Builtin.Frozenset.newClass;have hss:=Zs;obtain⟨hp,ge,dr,tk,os⟩:=s
 wp_walk
 refine VQ (Qf ?_);simp;exact Qb (wpAny_alloc (Qf (Qf h)))
def q8n(hn:h₀.get? h₀.objs.size=Qg):SetD M h₀ (h₀.push (vJ w)) h₀.objs.size [] (!j7 w) True:=by refine⟨⟨[],.fresh 0 0 (!j7 w),0,[],⟨⟨vJ w,QH _ rfl,⟨rfl,rfl,rfl⟩,rfl⟩,⟨rfl,Jt,Jt,λj hj=>by simp[SetTable.fresh]at hj,.inl rfl,λz hz=>by simp at hz,QV _,λz hz=>by simp at hz⟩,rfl⟩,λp hp=>by simp at hp,rfl,.nil,rfl,rfl,λp hp=>by simp at hp,λ_=>rfl⟩,λb o e=>Qk _ e,hn⟩
structure Src(prog:Program)(w:World)(ty:String)(l:Addr)(us:List Value)(h:Heap)(St:Addr->Nat->Heap->Prop):Prop where
 obj:∃o n,h.get? l=Qa o/\o.cls=.type ty/\o.data=.seq us.toArray n
 br:isSubtype (.type ty) (.type "set")=pure Qh
 qA2:isSubtype (.type ty) (.type "frozenset")=pure Qh
 ne:(J5 ty==J5 "dict")=Qh
 walks:∀{A:Around}(I:Addr),A.handled=Qg->l≠I->Walks prog w A I [I,l] [I] us.length (λi v=>us[i]?=Qa v) (St I)
 iter:∀{A:Around}{E:NZ}{s:Shared}{Q:NZ},(∀o,h.get? l=Qa o->s.heap.get? l=Qa o)->
  (∀o:Obj,St s.heap.objs.size 0 (s.heap.push o)->Q (.ref s.heap.objs.size) {s with heap:=s.heap.push o})->wpAny (model prog w) A (pyIter (.ref l)) Q E s
def src_list(hl:h.IsList l us.toArray):Src prog w "list" l us h (λI i h=>h.IsListIter I l i/\h.IsList l us.toArray):=by
 obtain⟨o,ho,hc,n,hd⟩:=hl;refine⟨⟨o,n,ho,hc,hd⟩,F.sub_list_set,F.sub_list_frozenset,by decide,λI hh ne=>by simpa using Walks.list hh I l ne us.toArray,λk hq=>?_⟩;have vk:Heap.IsList _ l us.toArray:=⟨o,k o ho,hc,n,hd⟩
 exact UP vk (hq _ ⟨⟨_,QH _ rfl,rfl,rfl⟩,o,Qk _ (k o ho),hc,n,hd⟩)
def src_tuple(hl:h.IsTuple l us.toArray):Src prog w "tuple" l us h (λI i h=>h.IsTupleIter I l i/\h.IsTuple l us.toArray):=by
 obtain⟨o,ho,hc,n,hd⟩:=hl;refine⟨⟨o,n,ho,hc,hd⟩,F.sub_tuple_set,F.sub_tuple_frozenset,by decide,λI hh ne=>by simpa using Walks.tuple hh I l ne us.toArray,λk hq=>?_⟩;have vk:Heap.IsTuple _ l us.toArray:=⟨o,k o ho,hc,n,hd⟩
 exact wpAny_pyIter_tuple vk (hq _ ⟨⟨_,QH _ rfl,rfl,rfl⟩,o,Qk _ (k o ho),hc,n,hd⟩)
def l9(h:Heap):h.get? h.objs.size=Qg:=by
 cases e:h.get? h.objs.size with
 |none=>rfl
 |some o=>exact absurd (Qu e) (Jv _)
def Made(w:World)(xs:List D)(us:List Value)(s:Shared)(h':Heap):Prop:=∃ds,SetD (λd v=>∃i:Nat,xs[i]?=Qa d/\us[i]?=Qa v) s.heap h' s.heap.objs.size ds (!j7 w) True/\ds.Nodup/\∀d,d∈ds↔d∈xs
def q3N{ty:String}{St:Addr->Nat->Heap->Prop}{Q:Unit->Shared->Prop}(S:Src prog w ty l us s.heap St)(hh:A.handled=Qg)
  (dx:zA s.heap xs us) (kn:Rg xs) (hx:qx xs=Qd) (hp:∀d∈xs,qK 8 d=Qd) (hu:A.units+16<cLine) (hl:∀l:List D,l.Nodup->(∀d∈l,d∈xs)->l.length<64)
  (h:∀(h':Heap)(tk:Nat),Made w xs us s h'->Q () {s with heap:=h',toks:=tk}):
  wpAny (model prog w) A (pyIter (.ref l)) (λa s'=>wpAny (model prog w) A (runValue (.builtin "set.update.loop" ⟨[.ref s.heap.objs.size,a],[]⟩)>>=λ_=>pure ()) Q E s') E {s with heap:=s.heap.push (vJ w)}:=by
 refine kX S.obj λol nl DU _=>?_;have qj:=Qu DU;refine S.iter (λo e=>Qk _ e) λo qX=>?_;have hsz:(s.heap.push (vJ w)).objs.size=s.heap.objs.size+1:=Uz _ _;refine Qb (wpAny_runValue ?_);refine Av (M:=λd v=>∃i:Nat,xs[i]?=Qa d/\us[i]?=Qa v) (h₀:=s.heap) (led:=!j7 w) (S.walks (s.heap.push (vJ w)).objs.size (by simp[hh]) (by rw[hsz];exact QK (UC qj))) ?_ ?_ dx (λi d v e1 e2=>⟨i,e1,e2⟩) (λi v e=>e) rfl kn hx hp ∅ hl (us.length-0) 0 _ [] rfl (QV _) qX ?_ Y0 (λd=>by simp) λh' tk zE k S' nd m=>?_
 .rw[hsz];simp only[Qo,Vr,or_false,not_or];exact⟨QK (Yg _),VC qj⟩
 .intro b hb;rw[QE.mp hb,hsz];cases e:s.heap.get? (s.heap.objs.size+1)with
  |none=>rfl
  |some o'=>exact absurd (Qu e) (Nat.not_lt.mpr (J4 _))
 .obtain⟨⟨Z,t,ep,P,⟨⟨o',ho,r⟩,wf,pl⟩,q⟩,kp,nw⟩:=q8n (M:=λd v=>∃i:Nat,xs[i]?=Qa d/\us[i]?=Qa v) (w:=w) (l9 s.heap);exact⟨⟨Z,t,ep,P,⟨⟨o',Qk _ ho,r⟩,wf,pl⟩,q⟩,λb o' e=>Qk _ (kp b o' e),nw⟩
 .show wpAny _ _ _ _ _ _;exact Qf (h h' tk ⟨zE,S',nd,m⟩)
set_option maxHeartbeats 3200000 in
def q0A{ty:String}{l:Addr}{St:Addr->Nat->Heap->Prop}{Q:NZ}(S:Src prog w ty l us s.heap St)(hh:A.handled=Qg)
  (dx:zA s.heap xs us) (kn:Rg xs) (hx:qx xs=Qd) (hp:∀d∈xs,qK 8 d=Qd) (hu:A.units+20<cLine) (hl:∀l:List D,l.Nodup->(∀d∈l,d∈xs)->l.length<64)
  (h:∀(h':Heap)(tk:Nat),Made w xs us s h'->Q (.ref s.heap.objs.size) {s with heap:=h',toks:=tk}):wpAny (model prog w) A (call (.type "set") [.ref l]) Q E s:=by
 obtain⟨c0,tl0,mro0⟩:=F.called_set.mro;have qBY:=F.called_set.made;have q0k:=F.called_set.sub;refine W4 (codeAny_of_tree (?_));refine Qf (And.intro (Code.quiet_builtin _ (by decide+kernel)) (Yx F.entry_type_call ?_));rw[(Around.under_plain (weight_type_call_type "set" [.ref l] []) rfl)];have ht:=F.called_set.notType;have OH:=F.called_set.canCreate;have htc:=F.typeCall_set_1 (.ref l)
 repeat (any_goals (first|assumption|wp_step))
 refine Vh (q6Q (.ref l) (E:=E) (Q₁:=λv s₁=>v=.ref s.heap.objs.size/\s₁={s with heap:=s.heap.push (vJ w)}) ⟨rfl,rfl⟩) λr s₁ hr=>?_;cases r with
 |error e=>exact hr
 |ok fl=>
  cases fl with
  |ret v=>
   obtain⟨rfl,rfl⟩:=hr;have T0:ZD {s with heap:=s.heap.push (vJ w)} (.ref s.heap.objs.size) "set":=⟨_,(QH _ rfl),rfl⟩
   have li:=F.called_set.init.lookup;have bi:=F.called_set.init.bind (.ref s.heap.objs.size)
   repeat (any_goals (first|assumption|wp_step))
   refine Vh (Wt (R:=wants (λr s₂=>r=.none/\∃h' tk,s₂={s with heap:=h',toks:=tk}/\Made w xs us s h') E) F.called_set.init.plain F.entry_set_init (check_set_init_1 T0 ?_)) λr₂ s₂ hr₂=>?_
   .refine qL S.obj λol nl DU kM G6=>?_;have e1:=S.br;have e2:=S.qA2;have e3:=S.ne;obtain⟨ocl,odi,oda,wR⟩:=ol;simp only at kM G6;subst kM G6;have hol':=Qk (vJ w) DU;unfold Ua.«set.__init__»;unfold noKeywords VI;generalize hPI:pyIter=PI
    wp_walk
    subst hPI;exact q3N S (by simp[hh]) dx kn hx hp (by simp;lia) hl λh' tk m=>Qf ⟨rfl,h',tk,rfl,m⟩
   .cases r₂ with
    |error e=>exact hr₂
    |ok fl₂=>
     cases fl₂ with
     |ret r=>
      refine Eg hr₂ λqe h' tk qf m=>?_;subst qe qf
      repeat (any_goals (first|assumption|wp_step))
      exact h _ _ m
     |_=>exact hr₂.elim
  |_=>exact hr.elim
def FP:Slot "set_iterator" "__next__" "set_iterator.__next__":=by
 refine .of (owner:="set_iterator") (n:="__next__") ?_ (by decide+kernel) (by decide+kernel) (by decide+kernel) ?_ ?_
 .rw[V6,UU];kernel_rfl
 .first
   |exact .inl (by decide+kernel)
   |exact .inr (by decide+kernel)
 .rw[F8];kernel_rfl
def q0G:Slot "set_iterator" "__iter__" "set_iterator.__iter__":=by
 refine .of (owner:="set_iterator") (n:="__iter__") ?_ (by decide+kernel) (by decide+kernel) (by decide+kernel) ?_ ?_
 .rw[V6,UU];kernel_rfl
 .first
   |exact .inl (by decide+kernel)
   |exact .inr (by decide+kernel)
 .rw[F8];kernel_rfl
def q0I:entryFor table "set_iterator.__next__"=Qa Ua.«set_iterator.__next__»:=entryFor_of_tree (by kernel_rfl)
def q92:entryFor table "set_iterator.__iter__"=Qa Ua.«dict_keyiterator.__iter__»:=Hc (id':="dict_keyiterator.__iter__") (by kernel_rfl) (by decide+kernel) (by decide+kernel) (by kernel_rfl)
def q8s:entryFor table "set.__iter__"=Qa Ua.«frozenset.__iter__»:=Hc (id':="frozenset.__iter__") (by kernel_rfl) (by decide+kernel) (by decide+kernel) (by kernel_rfl)
def q0H(a:Value):F5 "set_iterator.__next__" ⟨[a],[]⟩:=by unfold F5;kernel_rfl
def q91(a:Value):F5 "set_iterator.__iter__" ⟨[a],[]⟩:=by unfold F5;kernel_rfl
def wZ(w:World)(a:Addr)(ep:Nat)(Z:List Ent):List (Int×Value):=if j7 w then(pickOrder (w.params.setOrder a ep) (Z.map (·.2)).toArray).toList else Z.map (·.2)
def kT(w:World)(Z:List Ent)(i:Nat):Nat:=if j7 w then 0 else match i with
 |0=>0
 |k+1=>match Z[k]?with
  |some z=>z.1+1
  |none=>0
def T3(h:Heap)(I a:Addr)(slot i n ep:Nat):Prop:=∃o,h.get? I=Qa o/\o.cls=.type "set_iterator"/\o.data=.fields #[.int slot 0,.int i 0,.ref a,.int n 0,.int ep 0]
theorem sY{α:Type}(next:Nat->Nat):∀(n k:Nat)(left:List α)(out:Array α),left.length=n->((Zt next n k left out).toList).Perm (out.toList++left)
 |0,k,left,out,h=>by have:left=[]:=J6.mp h;subst this;simp[Zt]
 |n+1,k,left,out,h=>by unfold Zt;have qj:next k %left.length<left.length:=UQ _ ∅;rw[Qv qj];dsimp only;refine(sY next n (k+1) _ _ (by rw[List.length_eraseIdx];simp[qj];lia)).trans ?_;rw[Array.toList_push,Jg];refine List.Perm.append_left _ ?_;rw[Q7];refine(Ub (l₁:=left.take (next k %left.length)) (l₂:=left.drop (next k %left.length+1))).symm.trans ?_;rw[<-Ud qj,JX]
def cL(w:World)(a:Addr)(ep:Nat)(Z:List Ent):(wZ w a ep Z).Perm (Z.map (·.2)):=by
 unfold wZ;split
 .have:=sY (w.params.setOrder a ep) (Z.map (·.2)).toArray.size 0 (Z.map (·.2)) #[] (by simp);simpa[pickOrder]using this
 .exact .refl _
def below_at(wf:WF t Z)(hi:i<=Z.length)(hb:j7 w=Qh):WU t.place (kT w Z i)=i:=by
 have hls:(slots Z).length=Z.length:=by simp[slots]
 rw[wf.place];cases i with
 |zero=>
  have e:kT w Z 0=0:=by unfold kT;rw[hb];rfl
  rw[e];obtain⟨b1,b2,b3⟩:=XB (slots Z) wf.vZ 0;apply Ji;intro q;have h0:=b2 0 ∅ ∅;lia
 |succ k=>
  have hk:k<Z.length:=∅
  have e:kT w Z (k+1)=Z[k].1+1:=by unfold kT;rw[hb];simp[hk]
  rw[e];refine uV (XB (slots Z) wf.vZ (Z[k].1+1)) λb1 b2 b3=>?_;have ek:(slots Z)[k]'∅=Z[k].1:=by simp[slots]
  apply Ji;intro q;rcases Nat.lt_or_gt_of_ne q with q|q
  .have:=b3 k ∅ ∅;lia
  .have h1:=b2 (k+1) q ∅;have h2:=wf.vZ.lt (i:=k) (k:=k+1) ∅ ∅;lia
section
variable{I:Addr}
def Ri(h:Q (j7 w) s):wpAny (model prog w) A setsByText Q E s:=by unfold setsByText;exact Qb (VQ (Qf h))
def q09(S:SetIn s.heap a Z t ep)(le:t.led=!j7 w)(hi:i<=Z.length){Q:Option (Value×Nat)->Shared->Prop}(h:Q (((wZ w a ep Z)[i]?).map λe=>(e.2,kT w Z (i+1))) s):wpAny (model prog w) A (setNext a (kT w Z i) i ep) Q E s:=by
 unfold setNext;refine Qb (k6 S (Qb (Ri ?_)));cases hb:j7 w with
 |true=>
  rw[if_pos rfl];have e0:∀j,kT w Z j=0:=λj=>by unfold kT;rw[hb];rfl
  simp;unfold setWalk;refine Qb (Qb (k6 S (Qb (Ri ?_))));rw[hb];refine Qb (VQ (Qf (Qf ?_)));unfold wZ at h;rw[hb,e0]at h;rw[e0];simp at h;exact h
 |false=>
  rw[if_neg (by decide)];refine Uy (λhd=>?_) λ_=>?_
  .exfalso;have:(!t.plain&&decide ((Z.map (·.2)).toArray.size>1))=Qd:=hd;rw[S.plain]at this;cases this
  refine Qb ?_;change wpAny _ _ (if(!t.led&&!(Z.map (·.2)).toArray.isEmpty)=Qd then ZV "set:maker-not-led"else pure ()) _ _ _;rw[le,hb];rw[if_neg (by simp)];refine Qf (Qf ?_);rw[below_at S.wf hi hb];unfold wZ at h;rw[hb]at h;simp only[JZ,if_false]at h
  by_cases c:i<Z.length
  .have e1:(Z.map (·.2)).toArray[i]?=Qa Z[i].2:=(by simp[c]);have e2:t.place[i]?=Qa Z[i].1:=(by rw[S.wf.place];simp[slots,c]);have e3:kT w Z (i+1)=Z[i].1+1:=(by unfold kT;rw[hb];simp[c]);rw[e1,e2];rw[e3]at h;simpa[c]using h
  .have e1:(Z.map (·.2)).toArray[i]?=Qg:=(by simp;lia);rw[e1];have e4:(Z.map (·.2))[i]?=Qg:=(by simp;lia);rw[e4]at h;exact h
end
section
variable{I:Addr}
def IH:(wZ w a ep Z).length=Z.length:=by have:=(cL w a ep Z).length_eq;simpa using this
def LS{Q:Array (Int×Value)->Shared->Prop}(S:SetIn s.heap a Z t ep)(h:Q (Z.map (·.2)).toArray s):wpAny (model prog w) A (setEntries a) Q E s:=by unfold setEntries;exact Qb (k6 S (Qf h))
def q90{Q:Option Value->Shared->Prop}(S:SetIn s.heap a Z t ep)(le:t.led=!j7 w)(zm:T3 s.heap I a (kT w Z i) i Z.length ep)(he:(wZ w a ep Z)[i]?=Qa e)
  (hQ:∀h',T3 h' I a (kT w Z (i+1)) (i+1) Z.length ep->JE I s.heap h'->Q (Qa e.2) {s with heap:=h'}):wpAny (model prog w) A (pyNext (.ref I)) Q E s:=by
 obtain⟨o,ho,hc,hd⟩:=zm;have hT:s.TypeIs (.ref I) "set_iterator":=⟨o,ho,hc⟩
 have hi:i<Z.length:=by rw[<-IH];exact(Qj.mp he).1
 unfold pyNext;refine Qb (VG (UE (name:=Qy "__next__") hT FP (J3 FP hT q0I ?_ (q0H _))));show wpAny _ _ (fieldsOf (.ref I)>>=_) _ _ s;refine Qb (wpAny_fieldsOf ho hd ?_);refine Qb (LS S ?_);rw[if_neg (by simp)];refine Qb (q09 S le ∅ ?_);rw[he];dsimp;have g1:=YQ (Obj.mapFields (·.setIfInBounds 0 (VZ (kT w Z (i+1))))) ho (VP (YI hd _));have d1:=YI hd (·.setIfInBounds 0 (VZ (kT w Z (i+1))));refine Qb (Ws ho hd (by simp) (Qb (Ws g1 d1 (by simp) (Qf ⟨e.2,rfl,Qf (hQ _ ?_ ?_)⟩))))
 .refine⟨_,YQ _ g1 (VP (YI d1 _)),?_,?_⟩
  .exact (Obj.cls_mapFields ..).trans ((Obj.cls_mapFields ..).trans hc)
  .rw[YI d1];simp[VZ]
 .exact (Js ..).trans (Js ..)
end
section
variable{I:Addr}
def q8z{Q:Option Value->Shared->Prop}(hh:A.handled=Qg)(S:SetIn s.heap a Z t ep)(le:t.led=!j7 w)(zm:T3 s.heap I a (kT w Z Z.length) Z.length Z.length ep)
  (hQ:∀h',Heap.ExtBut I s.heap h'->Q Qg {s with heap:=h'}):wpAny (model prog w) A (pyNext (.ref I)) Q E s:=by
 obtain⟨o,ho,hc,hd⟩:=zm;have hT:s.TypeIs (.ref I) "set_iterator":=⟨o,ho,hc⟩
 have he:(wZ w a ep Z)[Z.length]?=Qg:=by rw[Yk,IH];exact Qs _
 unfold pyNext;refine Qb (VG (UE (name:=Qy "__next__") hT FP (J3 FP hT q0I ?_ (q0H _))));show wpAny _ _ (fieldsOf (.ref I)>>=_) _ _ s;refine Qb (wpAny_fieldsOf ho hd ?_);refine Qb (LS S ?_);rw[if_neg (by simp)];refine Qb (q09 S le (Qs _) ?_);rw[he];dsimp only[Option.map];refine Qb (Ws ho hd (by simp) ?_);refine Qb (show wpAny _ _ (newExc (.type "StopIteration") []) _ _ _ from ?_);simp only[newExc,newTuple];refine Qb (JF ?_ (by size_fits));refine Qb (Wu (by simp only[firstArgMember];rfl) ?_);refine JF ?_ (by size_fits);simp only[raiseNew];refine Qb (wpAny_handled ?_);rw[show A.in1.handled=Qg from hh];refine(Qb (Qf (wpAny_throw ?_)));refine(Qb (Ur ⟨_,QH _ rfl,rfl⟩ isSubtype_stop ?_));exact Qf (hQ _ (((Js ..).extBut.push _).push _))
def q94{Q:NZ}(zm:s.TypeIs (.ref I) "set_iterator")(h:Q (.ref I) s):wpAny (model prog w) A (pyIter (.ref I)) Q E s:=by refine wpAny_pyIter_slot zm q0G (J3 q0G zm q92 ?_ (q91 _));exact Qf ⟨_,rfl,"set_iterator",_,zm,FP.lookup,h⟩
def q8r{Q:NZ}(S:SetIn s.heap a Z t ep)
  (h:Q (.ref s.heap.objs.size) {s with heap:=s.heap.push {cls:=.type "set_iterator",data:=.fields #[.int 0 0,.int 0 0,.ref a,.int Z.length 0,.int ep 0]}}):wpAny (model prog w) A (pyIter (.ref a)) Q E s:=by
 obtain⟨o,ho,hx,hd⟩:=S.obj;have hT:s.TypeIs (.ref a) "set":=⟨o,ho,hx.1⟩
 refine wpAny_pyIter_slot hT F.slot_set_iter (J3 F.slot_set_iter hT q8s ?_ (F.args_set_iter_1 _));unfold Ua.«frozenset.__iter__»;show wpAny _ _ (V2 a>>=_) _ _ s;unfold V2;refine Qb (Qb (LS S (Qf ?_)));unfold setDrawn;refine Qb (Qb (k6 S (Qb (Ri (Qf ?_)))));have e0:(!j7 w&&(!t.plain&&decide ((Z.map (·.2)).toArray.size>1)))=Qh:=by rw[S.plain];simp
 refine Uy (λz=>absurd (show(!j7 w&&(!t.plain&&decide ((Z.map (·.2)).toArray.size>1)))=Qd from z) (by rw[e0];decide)) λ_=>?_;refine Qb (Qf ?_);unfold setEpoch;refine Qb (Qb (k6 S (Qf ?_)));unfold newFields;refine Qb (JF ?_);have T1:ZD {s with heap:=s.heap.push {cls:=.type "set_iterator",data:=.fields #[.int 0 0,.int 0 0,.ref a,.int Z.length 0,.int ep 0]}} (.ref s.heap.objs.size) "set_iterator":=⟨_,QH _ rfl,rfl⟩
 rw[show(Z.map (·.2)).toArray.size=Z.length by simp];exact Qf ⟨_,rfl,"set_iterator",_,T1,FP.lookup,h⟩
def q8q(hT:s.TypeIs (.ref a) "set")(h:Q Qh s):wpAny (model prog w) A (UH (.ref a)) Q E s:=by
 unfold UH;refine Qb (Yv hT F.slot_set_len.lookup ?_);generalize hid:("set.__len__":String)=id0
 wp_delta
 rw[show splitId id0=Qa ("set","__len__") by subst hid;decide+kernel];subst hid;refine Qb (Ur hT Zs ?_);refine Uy (λz=>absurd z (by decide)) λ_=>Uy (λ_=>?_) λz=>absurd (by decide+kernel) z;exact Qb (UN hT (Qf h))
def T3.at{sl:Nat}(x:T3 h I a sl i n ep)(k:∀o,h.get? I=Qa o->h'.get? I=Qa o):T3 h' I a sl i n ep:=let⟨o,e,r⟩:=x;⟨o,k o e,r⟩
def SetIn.at(S:SetIn h a Z t ep)(k:∀o,h.get? a=Qa o->h'.get? a=Qa o):SetIn h' a Z t ep:=let⟨⟨o,e,r⟩,wf,pl⟩:=S;⟨⟨o,k o e,r⟩,wf,pl⟩
def qAX(hh:A.handled=Qg)(le:t.led=!j7 w)(jB:a≠I):
  Walks prog w A I [I,a] [I] Z.length (λi v=>∃e,(wZ w a ep Z)[i]?=Qa e/\v=e.2) (λi h=>T3 h I a (kT w Z i) i Z.length ep/\SetIn h a Z t ep)where
 sub:=λb hb=>Qo.mpr (.inl (QE.mp hb))
 frame:=λi h h' st k=>And.intro (st.1.at λo e=>k I (by simp) o e) (st.2.at λo e=>k a (by simp) o e)
 item:=λi s Q E hi st hQ=>by
  have hl:i<(wZ w a ep Z).length:=by rw[IH];exact hi
  refine q90 st.2 le st.1 (Qv hl) λh' it' k=>hQ _ h' s.toks ⟨_,Qv hl,rfl⟩ ⟨it',st.2.at λo e=>?_⟩ λb o hb e=>?_
  .rw[k.2 a jB];exact e
  .rw[k.2 b (λz=>hb (by simp[z]))];exact e
 done:=λs Q E st hQ=>q8z hh st.2 le st.1 λh' k=>hQ h' s.toks λb o hb e=>k b o (λz=>hb (by simp[z])) e
 self:=λi s Q E st hQ=>let⟨o,ho,hc,_⟩:=st.1;q94 ⟨o,ho,hc⟩ hQ
def q9M(le:t.led=!j7 w):KdlSrc prog w "set" a a Z.length (λi v=>∃e,(wZ w a ep Z)[i]?=Qa e/\v=e.2) (λh=>SetIn h a Z t ep)where
 type:=λs S=>let⟨o,ho,hx,_⟩:=S.obj;⟨o,ho,hx.1⟩
 there:=λh S=>let⟨o,ho,_⟩:=S.obj;⟨Qu ho,Qu ho⟩
 keep:=λh h' S k=>S.at λo e=>k a (.inl rfl) o e
 notList:=by decide
 notTuple:=by decide
 hint:=λA E s Q S hq=>let⟨o,ho,hx,_⟩:=S.obj;q8q ⟨o,ho,hx.1⟩ hq
 iter:=λA s hh S=>by
  refine qV S.obj λo ho hx hd=>?_;have e0:kT w Z 0=0:=by unfold kT;split<;>rfl
  refine⟨{cls:=.type "set_iterator",data:=.fields #[.int 0 0,.int 0 0,.ref a,.int Z.length 0,.int ep 0]},_,λE Q hq=>q8r S hq,qAX hh le (QK (Qu ho)),⟨_,QH _ rfl,rfl,?_⟩,S.at λo e=>Qk _ e⟩;rw[e0];rfl
end
theorem xl:∀{l:List D}{d:D},qx l=Qd->(d∈dedup l↔d∈l)
 |[],d,_=>by simp[dedup]
 |x::l,d,h=>by
  have hx:=j0.mp h;have hl:=j0.mpr λe he=>hx e (Qc _ he);unfold dedup;split
  .rename_i c;obtain⟨y,hy,ey⟩:=Jc.mp c;rw[xl hl,Qo];exact⟨.inr,λq=>q.elim (λe=>by rw[e,((jN (hx x Qe) (hx y (Qc _ hy))).mp ey)];exact hy) id⟩
  .rw[Qo,Qo,xl hl]
theorem sub_len:∀{a b:List D},a.Nodup->(∀x∈a,x∈b)->a.length<=b.length
 |[],_,_,_=>QV _
 |x::a,b,nd,h=>by
  have jQ:=QQ.mp nd;obtain⟨b1,b2,rfl⟩:=Wh (h x Qe);have:=sub_len (a:=a) (b:=b1++b2) jQ.2 λy hy=>by
   have:=h y (Qc _ hy);simp at this|-;rcases this with q|q|q
   .exact .inl q
   .exact absurd q (λq=>jQ.1 (q▸hy))
   .exact .inr q
  simp at this|-;lia
theorem ao:∀{a b:List D},a.Nodup->b.Nodup->(∀x,x∈a↔x∈b)->a.Perm b
 |[],b,_,_,h=>by
  cases b with
  |nil=>exact .nil
  |cons y b=>exact absurd ((h y).mpr Qe) (by simp)
 |x::a,b,na,nb,h=>by
  have rQ:=QQ.mp na;obtain⟨b1,b2,rfl⟩:=Wh ((h x).mp Qe);have pm:(b1++x::b2).Perm (x::(b1++b2)):=Ub;have rR:=QQ.mp (pm.nodup_iff.mp nb);refine(List.Perm.cons x (ao rQ.2 rR.2 λy=>?_)).trans pm.symm;have hy:=h y;rw[pm.mem_iff,Qo,Qo]at hy;constructor
  .intro q;exact(hy.mp (.inr q)).resolve_left λe=>rQ.1 (e▸q)
  .intro q;exact(hy.mpr (.inr q)).resolve_left λe=>rR.1 (e▸q)
def SoOk.perm{a b:List D}(h:SoOk a)(p:b.Perm a):SoOk b:=by have m:∀d∈b,d∈a:=λd hd=>p.mem_iff.mp hd;exact⟨by rw[p.length_eq];exact h.len,λd hd=>h.vR d (m d hd),λd hd=>h.CV d (m d hd),λx hx y hy=>h.cmp x (m x hx) y (m y hy),p.symm.pairwise h.Ro λe q=>e q.symm⟩
def q58{a b:List D}(h:SoOk a)(p:b.Perm a):jP b=jP a:=by have m:∀d∈jP b,d∈a:=λd hd=>p.mem_iff.mp ((kN b).mem_iff.mp hd);exact FU (((kN b).trans p).trans (kN a).symm) (λd hd=>h.vR d (m d hd)) (λx hx y hy=>h.cmp x (m x hx) y (m y hy)) (R6 (h.perm p).vR) (R6 h.vR)
theorem bJ{p:Pm}{xs:List D}{us:List Value}(r:qM p Hf xs vs)(rv:Vals vs us):∀(P:List ((Int×Value)×D)),(∀q∈P,∃i:Nat,xs[i]?=Qa q.2/\us[i]?=Qa q.1.2)->
  ∃yS,qM p Hf (P.map (·.2)) yS/\Vals yS (P.map (·.1.2))
 |[],_=>⟨[],rfl,.nil⟩
 |q::P,h=>by obtain⟨yS,h1,h2⟩:=bJ r rv P λx hx=>h x (Qc _ hx);obtain⟨i,e1,e2⟩:=h q Qe;obtain⟨v,e3,rp⟩:=r.get e1;obtain⟨u,e4,rl⟩:=rv.get e3;rw[e2]at e4;cases e4;exact⟨v::yS,⟨v,yS,rfl,rp,h1⟩,.cons rl h2⟩
def q0g(hK:p.K=X.K)(I:Inv X pins Y H s)(rv:RelV v u)(q:j6 p H (fz O H) d v)(hi:yD d=.ok xs):
  ∃l us vs ty St,u=.ref l/\Src X.prog X.w ty l us s.heap St/\qM p (fz O H) xs vs/\Vals vs us/\vs.length<=QI:=by
 cases d<;>first
  |(exfalso;simpa[yD]using hi)
  |skip
 .cases hi;refine zK q λa vs zz s1 z r1=>?_;subst zz;cases rv;refine qV (I.tuple (hK▸qu.jT s1:zZ X.K H a vs)) λits rv tp hz=>?_;exact⟨a,its,vs,_,_,rfl,src_tuple tp,r1,rv,hz⟩
 .cases hi;refine qL q λa vs zz s1 r1=>?_;subst zz;cases rv;refine qV (I.list (hK▸s1:qv X.K H a vs)) λits rv pt hz=>?_;exact⟨a,its,vs,_,_,rfl,src_list pt.isList,r1,rv,hz⟩
def q0e(hK:p.K=X.K)(hc:X.calm=Qd)(hu:X.A.units+64<cLine){zs:List D}(I1:Inv X pins Y H s)(t:Th os.flatten H)
  (Si:SetIn s.heap a Z tb ep) (e1:P.map (·.1)=Z.map (·.2)) (le:tb.led=!j7 X.w) (rp:∀P2:List ((Int×Value)×D),(∀q∈P2,q∈P)->∃yS,qM p (fz os.flatten H) (P2.map (·.2)) yS/\Vals yS (P2.map (·.1.2))) (pz:(P.map (·.2)).Perm zs) (so:ji zs=Qd):
  wpAny (model X.prog X.w) X.A (call (.builtin "sorted") [.ref a]) (EP (X.qn E) pins Y (Fin p os.flatten H (.q6 (jP zs)))) E s:=by
 obtain⟨sk,kd⟩:=Cd so;refine qR (CS (·.1) (e1▸cL X.w a ep Z) P rfl) λP2 p1 p2=>?_;have pm:(P2.map (·.2)).Perm zs:=(p1.map (λq=>q.2)).trans pz;have FQ:=sk.perm pm;refine qR (rp P2 λq hq=>p1.mem_iff.mp hq) λyS w1 w2=>?_;have R0:yS.length<=QI:=by have:=FQ.len;rw[<-w1.length,Jk];lia
 have kd2:(∀d∈P2.map (·.2),Xc d=Qd)\/∀d∈P2.map (·.2),jq d=Qd:=by
  rcases kd with kd|kd
  .exact .inl λd hd=>kd d (pm.mem_iff.mp hd)
  .exact .inr λd hd=>kd d (pm.mem_iff.mp hd)
 have lh:Z.length=P2.length:=by rw[<-IH (w:=X.w) (a:=a) (ep:=ep)];exact(by rw[<-p2];simp)
 refine qo.q0d (s:=s) (Gv:=λvc=>vc=P2.map (·.1.2)) FQ.len FQ.ord (λvc e=>by rw[e];simp) (λR hR=>?_) (λvc e h2 lT tk k=>?_) λvc q D lT tk e eu Pq U k nD g=>?_
 .refine FG (A:=X.A.in1) (q9M (t:=tb) (Z:=Z) (ep:=ep) le) (by simp[(I1.ok.hd hc)]) Si (by rw[lh,Jk];have:=FQ.len;simp at this;lia) λh3 Co acc k3 it=>hR _ h3 Co ?_ k3;obtain⟨a1,a2⟩:=it;apply Vj;intro i;cases ea:acc.toList[i]?with
  |none=>
   have:P2.length<=i:=by have:=Yk.mp ea;rw[J8,a1,lh]at this;exact this
   rw[JD (by simpa using this)]
  |some v'=>
   rw[YN]at ea;refine qR (a2 i v' ea) λe' f1 f2=>?_;rw[<-p2,QJ]at f1;rw[QJ];cases iA:P2[i]?with
   |none=>rw[iA]at f1;exact nS f1
   |some q'=>rw[iA]at f1;cases f1;rw[f2];rfl
 .subst e;exact SJ (s:={s with heap:=lT,toks:=tk}) (by show X.A.units+1+1+8<cLine;lia) FQ kd2 ((Rp k).2 _ _ ((vP hK I1).2 _ yS _ (w1.mono qu) w2)) h2
 .subst eu;rw[<-q58 sk pm,<-Ae FQ Pq U];exact oZ I1 t w1 w2 R0 Pq rfl k nD g
def q9o(hK:p.K=X.K)(hc:X.calm=Qd)(hu:X.A.units+64<cLine){r:D}(I:Inv X pins Y H s)(t:Th os.flatten H)(rv:RelV v u)(q:j6 p H (fz os.flatten H) d v)(h:zB sub .jS [d]=.ok r):
  wpAny (model X.prog X.w) X.A (call (.type "set") [u]) (λx s2=>wpAny (model X.prog X.w) X.A (call (.builtin "sorted") [x]) (EP (X.qn E) pins Y (Fin p os.flatten H r)) E s2) E s:=by
 cases hi:yD d with
 |q9=>exact absurd (show(yD d).bind _=.ok r from h) (by rw[hi];intro z;exact nR z)
 |err c=>exact absurd (show(yD d).bind _=.ok r from h) (by rw[hi];intro z;cases z)
 |ok xs=>
  have h':(if qx xs&&zU xs&&decide (xs.length<=1000)&&ji (dedup xs)then R.ok (D.q6 (jP (dedup xs)))else .q9)=.ok r:=by rw[<-h];show _=(yD d).bind _;rw[hi];rfl
  split at h'
  .rename_i cs;cases h';simp at cs;obtain⟨⟨⟨c1,c2⟩,c3⟩,so⟩:=cs;obtain⟨sk,kd⟩:=Cd so;obtain⟨l,us,vs,ty,St,rfl,S,r1,w0,hz⟩:=q0g hK I rv q hi;have kn:Rg xs:=by
    rcases kd with kd|kd
    .refine .inr λd hd=>?_;have:=kd d ((xl c1).mpr hd);cases d<;>first|exact⟨_,rfl⟩|cases this
    .refine .inl λd hd=>?_;have:=kd d ((xl c1).mpr hd);cases d<;>first|exact⟨_,rfl⟩|cases this
   refine q0A S (I.ok.hd hc) ((vP hK I).2 xs vs us (r1.mono qu) w0) kn c1 (λd hd=>vX.mp c2 d hd) ∅ (λl nd hm=>Yj (sub_len nd λd hd=>(xl c1).mpr (hm d hd)) sk.len) λh1 IC zz=>qV zz λds SD nd mem=>?_;obtain⟨⟨Z,tb,ep,P,Si,pr,e1,e2,tf,le,mm,_⟩,kp,nw⟩:=SD;have I1:Inv X pins Y H {s with heap:=h1,toks:=IC}:=I.kept kp;exact q0e hK hc hu I1 t Si e1 le (λP2 h2=>bJ r1 w0 P2 λq hq=>mm q (h2 q hq)) (e2.trans (ao nd sk.Ro λx=>(mem x).trans (xl c1).symm)) so
  .exact nR h'
def Ip:bootBuiltins "set"=Qa (.type "set"):=by kernel_rfl
def q9m:∀(X:Cx)(p:Pm)(G:Nat->List D->R D)(sub:Nat->Nat->Bool)(a:QC)(la:L)(q q2 q3 pos:Pos),p.K=X.K->X.calm=Qd->X.A.units+64<cLine->X.mg "sorted"=Qg->X.mg "set"=Qg->SB X p G sub a la->kQ a=Qd->Gl X "sorted"->Gl X "set"->SE X p G sub (.Call (.Name "sorted" q) [.Call (.Name "set" q2) [a] [] q3] [] pos) (.bi .jS [la]):=by
 intro X p G sub a la q q2 q3 pos hK hc hu m1 m2 ha oa g1 g2 pins s Y H Z os I R hs;have qX:Q5 [a] X.env=[(Qh,Jw a X.env)]:=jU oa;have DZ:Q5 [.Call (.Name "set" q2) [a] [] q3] X.env=[(Qh,Jw (.Call (.Name "set" q2) [a] [] q3) X.env)]:=jU rfl;refine Je (jr I g1 m1 YV ?_);refine Yl ?_ DZ rfl;rw[DZ];show wpAny _ _ (Us ((Qh,Jw (.Call (.Name "set" q2) [a] [] q3) X.env)::UO pos [])) _ _ s;refine QW (Qi (Q:=λx s2=>wpAny (model X.prog X.w) X.A (call (.builtin "sorted") [x]) (Gd X p pins Y os H (ev G sub (.bi .jS [la]) Z)) (Er X p pins Y H (ev G sub (.bi .jS [la]) Z)) s2) (E:=Er X p pins Y H (ev G sub (.bi .jS [la]) Z)) ?_ (λx s2 h=>Q0 h) λ_ _ z=>z);refine Je (jr I g2 m2 Ip ?_);refine Q2 (Ca ha qX I R (Fm hs) (λu s1 h=>?_) (λ_ _=>Fl)) qX rfl;refine qi h λd v H1 e1 I1 r1 x1 q1=>?_;have e0:ev G sub (.bi .jS [la]) Z=zB sub .jS [d]:=by rw[jA,RF (f:=λd=>zB sub .jS [d]) la Z _ (λ_=>rfl),e1];rfl
 rw[e0]at hs|-;rcases EF sub .jS [d]with z|⟨r,z⟩
 .exact absurd z hs
 .rw[z];exact Qi (q9o hK hc hu (E:=Er X p pins Y H (.ok r)) I1 (R.ext x1).th r1 q1 z) (λx s2 h2=>Qi h2 (λw s3 h3=>TM x1 rfl h3) λ_ _ z=>z) λ_ _ z=>z
def q3P(S:SetIn s.heap a Z t ep)(en:Fc s.heap Z ds)(tu:uP (d::ds))(px:qK 8 d=Qd)(hx:qH d=Qd)(Dx:Dv s.heap d x)(hu:A.units+8<cLine){Q:Option Nat->Shared->Prop}(hy:∀i,ds[i]?=Qa d->Q (Qa i) s)(hq:d∉ds->Q Qg s):wpAny (model prog w) A (setFind a x (hv d)) Q E s:=by
 obtain⟨N,n1,n2⟩:=Lo S.wf.good (hv d) (vW t Z) (by rw[sM];exact S.wf.jY);have hm:t.mask<=255:=by rcases S.wf.good with h|h|h|h|h|h<;>lia
 obtain⟨l,rfl⟩:=tu d Qe;unfold setFind setFindIn;refine Qb (k6 S ?_);dsimp only;have bs:byScan x (Z.map (·.2)).toArray=Qh:=by refine kX Dx λb us zz _=>?_;subst zz;rfl
 rw[bs];simp;unfold setSearch;refine Qb (bN S en (λe he=>tu e (Qc _ he)) px hx Dx hu n2 (λi hi=>?_) (λhn j wd hj=>?_) n1 100000 0 Qg Qg rfl (λj e=>by exact nS e) (QV _) ∅ (λk hk=>by lia))
 .exact Qf (hy i hi)
 .exact Qf (hq hn)
def q2P{l:List α}(hi:i<l.length):(l[i]::l.eraseIdx i).Perm l:=by rw[Q7];refine(Ub).symm.trans ?_;rw[<-Ud hi,JX]
def q2b(S:SetD M h₀ s.heap a ds led False)(tu:uP (d::ds))(px:qK 8 d=Qd)(hx:qH d=Qd)(Rb:Dv h₀ d x)(hu:A.units+8<cLine)(hl:ds.length<=64)
  (hn:d∉ds->Q Qh s) (hy:∀h' zE,ds.Perm (d::zE)->JE a s.heap h'->SetD M h₀ h' a zE led False->Q Qd {s with heap:=h'}):wpAny (model prog w) A (ZO a x (hv d)) Q E s:=by
 obtain⟨⟨Z,t,ep,P,S,pr,e1,e2,tf,le,mm,_⟩,kp,nw⟩:=S;have qT:Z.length=ds.length:=by have h1:=congrArg YG e1;have h2:=e2.length_eq;simp at h1 h2;lia
 unfold ZO;refine Qb (q3P S ((pr.keep kp).ents e1) (λe he=>(Qo.mp he).elim (λh=>tu e (h▸Qe)) λh=>tu e (Qc _ (e2.mem_iff.mp h))) px hx ((Rp kp).1 _ _ Rb) hu (λi hi=>?_) (λhm=>?_))
 .dsimp only;refine Qb (k6 S ?_);dsimp only;have hip:i<P.length:=by have:=(Qj.mp hi).1;simpa using this
  have hiz:i<Z.length:=by have:=congrArg YG e1;simp at this;lia
  refine yz (S.wf.drop (i:=i) (z:=Z[i]) (by simp[hiz])) λwf m1 m2 m3 m4=>?_;have ee:SetTable.eraseAt (Z.map (·.2)).toArray i=((Z.eraseIdx i).map (·.2)).toArray:=by rw[El];congr 1;simp[Q7,Ys,YO]
  have pp:(P[i]::P.eraseIdx i).Perm P:=q2P hip;have hd:P[i].2=d:=by have:=(Qj.mp hi).2;simpa using this
  rw[ee];refine Qb (RX S wf (by rw[m3];exact S.plain) (by have:=Z7 Z i;lia) λh' k S'=>?_);refine Qb (wpAny_point (Qf ?_));have pd:(P.map (·.2)).Perm (d::(P.eraseIdx i).map (·.2)):=by
   have:=(pp.map (λq=>q.2)).symm
   rwa [Qw,hd]at this
  refine hy h' ((P.eraseIdx i).map (·.2)) (e2.symm.trans pd) k ⟨⟨_,_,_,P.eraseIdx i,S',λq hq=>pr q (Uo hq),?_,.refl _,?_,m2.trans le,λq hq=>mm q (Uo hq),λz=>z.elim⟩,Dm kp nw k,nw⟩
  .have:(P.eraseIdx i).map (·.1)=(P.map (·.1)).eraseIdx i:=(by simp[Q7,Ys,YO]);rw[this,e1];simp[Q7,Ys,YO]
  .unfold JU at tf|-;rw[m4,m1];exact tf
 .exact Qf (hn λh=>hm (e2.mem_iff.mpr h))
def qAV{q79:List Addr}{fl:Option Addr}(S:SetIn s.heap a Z t ep)(le:t.led=!j7 w){Q:Array (Int×Value)->Shared->Prop}(h:∀Ib:Array (Int×Value),Ib.toList=wZ w a ep Z->Q Ib s):wpAny (model prog w) A (setWalkUnseen a q79 fl) Q E s:=by
 unfold setWalkUnseen;refine Qb (k6 S (Qb (Ri ?_)));rw[if_pos (by rw[le,S.plain];cases j7 w<;>rfl)];unfold setWalk;refine Qb (k6 S (Qb (Ri ?_)));cases hb:j7 w with
 |true=>
  rw[if_pos rfl];refine Qb (VQ (Qf (h _ ?_)));unfold wZ;rw[hb];rfl
 |false=>
  rw[if_neg (by decide)];refine Uy (λhd=>?_) λ_=>?_
  .exfalso;have:(!t.plain&&decide ((Z.map (·.2)).toArray.size>1))=Qd:=hd;rw[S.plain]at this;cases this
  refine Qb ?_;change wpAny _ _ (if(!t.led&&decide ((Z.map (·.2)).toArray.size>1))=Qd then ZV "set:maker-not-led"else pure ()) _ _ _;rw[le,hb,if_neg (by simp)];refine Qf (Qf (h _ ?_));unfold wZ;rw[hb];simp
def q7r(h3:n<64):k8 (QM (n*2)-1)/\n<=QM (n*2)-1/\n*5<(QM (n*2)-1)*3:=by
 have key:∀n,n<64->k8 (QM (n*2)-1)/\n<=QM (n*2)-1/\n*5<(QM (n*2)-1)*3:=by unfold k8;decide+kernel
 exact key n h3
def q69{b:Addr}{Zr:List Ent}{tr:SetTable}{er:Nat}{q2o:Sem Unit}(S:SetIn s.heap b Z t ep)(wj:t.dummies=#[]) (tf:t.tooFull=Qh) (hz:Z.length<64) (le:t.led=led) (Sr:SetIn s.heap a Zr tr er) (hZr:Zr=[]) (GC:tr.mask=7) (m7:tr.dummies=#[]) (SW:tr.led=led) (jB:a≠b) {Q:Unit->Shared->Prop}
  (h:∀h' Z' t' wm,JE a s.heap h'->SetIn h' a Z' t' wm->(Z'.map (·.2)).Perm (Z.map (·.2))->t'.tooFull=Qh->t'.led=led->Q () {s with heap:=h'}):wpAny (model prog w) A (setMerge a b q2o) Q E s:=by
 subst hZr;unfold setMerge;rw[if_neg (by simpa using jB)];refine Qb (k6 S ?_);dsimp only;have m9:tr.fill=0:=by rw[Sr.wf.fill,m7];rfl
 have hp0:tr.place.size=0:=by rw[Sr.wf.size];rfl
 by_cases hZ:Z=[]
 .subst hZ;rw[if_pos (show(List.map (λx:Ent=>x.snd) []).toArray.isEmpty=Qd from rfl)];refine Qf (h s.heap [] tr er (ZP _ _) Sr (.refl _) ?_ SW);unfold JU;rw[m9,GC];rfl
 .have DV:0<Z.length:=List.length_pos_iff.mpr hZ;rw[if_neg (by simpa using hZ)];have hsz:(Z.map (·.2)).toArray.size=Z.length:=by simp
  refine Qb (Qi (Q:=λ_ s1=>∃h1 t1 e1,s1={s with heap:=h1}/\JE a s.heap h1/\SetIn h1 a [] t1 e1/\t1.dummies=#[]/\t1.led=led/\Z.length<=t1.mask/\Z.length*5<t1.mask*3) ?_ (λ_ s1 hs1=>?_) (λ_ _ z=>z))
  .unfold setRoomFor;refine Qb (k6 Sr ?_);dsimp only;rw[hsz];unfold SetTable.roomFor;rw[m9,hp0,GC,WN]
   by_cases c:Z.length*5≥7*3
   .rw[if_pos c];refine uV (q7r hz) λg1 g2 g3=>?_;refine tN Sr g1 (QV _) (QV _) λh1 Z1 t1 k1 S1 p1 m1 l1 d1=>?_;have hZ1:Z1=[]:=by have:=p1.length_eq;simp at this;exact this
    subst hZ1;exact⟨h1,t1,_,rfl,k1,S1,d1,l1.trans SW,by rw[m1];exact g2,by rw[m1];exact g3⟩
   .rw[if_neg c];refine Qf ⟨s.heap,tr,er,rfl,ZP _ _,Sr,m7,SW,by rw[GC];lia,by rw[GC];lia⟩
  .refine LQ hs1 λh1 t1 e1 zz k1 S1 d1 l1 f1 f2=>?_;subst zz;refine Qb (k6 (s:={s with heap:=h1}) S1 ?_);dsimp only;have hf1:t1.fill=0:=(by rw[S1.wf.fill,d1];rfl);have mK:(t1.led&&t.led)=led:=(by rw[l1,le];cases led<;>rfl);have xH:(t1.plain&&t.plain)=Qd:=(by rw[S1.plain,S.plain];rfl);have q4V:t1.road t=if t1.mask==t.mask then .slotForSlot else .clean:=by unfold SetTable.road;rw[hf1,wj];simp
   rw[q4V]
   by_cases c:(t1.mask==t.mask)=Qd
   .rw[if_pos c];refine RX (s:={s with heap:=h1}) (t':={t with finger:=t1.finger,led:=t1.led&&t.led,moves:=t1.moves,plain:=t1.plain&&t.plain}) S1 ⟨S.wf.place,S.wf.vZ,S.wf.X0,S.wf.sep,S.wf.good,S.wf.le,S.wf.jY,S.wf.way⟩ xH ∅ λh' k S'=>?_;exact h h' Z _ _ (k1.trans k) S' (.refl _) tf mK
   .rw[if_neg c];obtain⟨t',kE,Z',r1,r2,r3,r4,r5,r6,r7,r8⟩:=og t1.mask t1.finger t1.moves (t1.led&&t.led) (t1.plain&&t.plain) (Z.map (·.2)) S1.wf.good (by rw[Qm];exact f1);have Xb:Z'.length=Z.length:=(by have:=r4.length_eq;simpa using this);refine Qb ?_;rw[r1];change wpAny _ _ (if((kE.filterMap ((Z.map (·.2)).toArray[·]?)).size !=(Z.map (·.2)).toArray.size)=Qd then(ZV "internal:set-table-lost-an-element">>=λ_=>pure (kE.filterMap ((Z.map (·.2)).toArray[·]?),t'))else pure (kE.filterMap ((Z.map (·.2)).toArray[·]?),t')) _ _ _;rw[r3,if_neg (by simp[Xb])];refine Qf (RX (s:={s with heap:=h1}) S1 r2 (by rw[r7];exact xH) ∅ λh' k S'=>?_);refine h h' Z' t' _ (k1.trans k) S' r4 ?_ (by rw[r6];exact mK);unfold JU;rw[r2.fill,r8,r5,Xb];simpa using f2
section
variable{b:Addr}
def qAj:entryFor table "set.__xor__"=Qa Ua.«frozenset.__xor__»:=Hc (id':="frozenset.__xor__") (by kernel_rfl) (by decide+kernel) (by decide+kernel) (by kernel_rfl)
theorem ir{body:Int×Value->PUnit->Sem (ForInStep PUnit)}{C:Shared->Prop}(hu:A.units+8<cLine)(hC:∀s1 h' ds,C s1->SetD M h₀ h' a ds led False->C {s1 with heap:=h'})
  (hb:∀(h:Int)(x:Value)(s:Shared)(Q:ForInStep PUnit->Shared->Prop),wpAny (model prog w) A (ZO a x h) (λr s1=>if r=Qd then C s1/\Q (.yield ⟨⟩) s1 else wpAny (model prog w) A (V1 a x h) (λ_ s2=>C s2/\Q (.yield ⟨⟩) s2) E s1) E s->wpAny (model prog w) A (body (h,x) ⟨⟩) Q E s):
  ∀(P:List ((Int×Value)×D))(ds:List D)(s:Shared),C s->SetD M h₀ s.heap a ds led False->ds.Nodup->(P.map (·.2)).Nodup->uP (P.map (·.2)++ds)->yU h₀ P->(∀q∈P,M q.2 q.1.2)->ds.length+P.length<63->
   wpAny (model prog w) A (forIn (P.map (·.1)) Zn body) (λ_ s'=>∃h' zE,s'={s with heap:=h'}/\SetD M h₀ h' a zE led False/\zE.Nodup/\∀e,e∈zE↔(e∈ds/\e∉P.map (·.2))\/(e∈P.map (·.2)/\e∉ds)) E s
 |[],ds,s,hc,S,nd,_,_,_,_,_=>by rw[Y9,Zw];exact Qf ⟨s.heap,ds,rfl,S,nd,λe=>by simp⟩
 |q::P,ds,s,hc,S,nd,CF,tu,pr,mm,hl=>by
  rw[Qw,VE];rw[Qw]at CF tu;rw[QG]at hl;have aa:=QQ.mp CF;obtain⟨⟨h,x⟩,d⟩:=q;refine wH (pr _ Qe) λdx eh px hx=>?_;have mx:=mm _ Qe;simp only at dx eh px hx mx aa;subst eh;have tud:uP (d::ds):=λe he=>(Qo.mp he).elim (λz=>tu e (z▸QD _ Qe)) λz=>tu e (Ql _ z);have go:∀(h1:Heap)(uU:List D),C {s with heap:=h1}->SetD M h₀ h1 a uU led False->uU.Nodup->(∀e,e∈uU↔(e∈ds/\e≠d)\/(e=d/\d∉ds))->uU.length+P.length<63->(∀e∈uU,e=d\/e∈ds)->
    wpAny (model prog w) A (forIn (P.map (·.1)) Zn body) (λ_ s'=>∃h' zE,s'={s with heap:=h'}/\SetD M h₀ h' a zE led False/\zE.Nodup/\∀e,e∈zE↔(e∈ds/\e∉d::P.map (·.2))\/(e∈d::P.map (·.2)/\e∉ds)) E {s with heap:=h1}:=λh1 uU wy S1 nd1 m1 l1 br=>by
   refine Qi (ir hu hC hb P uU {s with heap:=h1} wy S1 nd1 aa.2 (λe he=>?_) (λq hq=>pr q (Qc _ hq)) (λq hq=>mm q (Qc _ hq)) l1) (λ_ s' zz=>zK zz λh' zE e1 S' jQ m'=>⟨h',zE,e1,S',jQ,λe=>?_⟩) (λ_ _ z=>z)
   .rcases QA.mp he with z|z
    .exact tu e (QD _ (Qc _ z))
    .rcases br e z with rfl|z
     .exact tu e (QD _ Qe)
     .exact tu e (Ql _ z)
   .rw[m',m1,Qo]
    by_cases c1:e=d
    .subst c1;have:=aa.1
     by_cases c2:e∈ds<;>simp[c2,this]
    .by_cases c2:e∈ds<;>by_cases c3:e∈P.map (·.2)<;>simp[c1,c2,c3]
  refine Qb (hb _ _ _ _ (q2b S tud px hx dx hu ∅ (λhn=>?_) (λh' zE pd k S'=>?_)))
  .rw[if_neg (by decide)];refine d8 S tud px hx dx mx hu (λ_=>by lia) (λhy=>absurd hy hn) λ_ h' k S'=>⟨hC s h' _ hc S',go h' (d::ds) (hC s h' _ hc S') S' (QQ.mpr ⟨hn,nd⟩) (λe=>?_) (by rw[QG];lia) (λe he=>Qo.mp he)⟩
   rw[Qo]
   by_cases c1:e=d
   .subst c1;simp[hn]
   .simp[c1]
  .rw[if_pos rfl];have rS:=QQ.mp (pd.nodup_iff.mp nd);have vk:=pd.length_eq;rw[QG]at vk;refine⟨hC s h' _ hc S',go h' zE (hC s h' _ hc S') S' rS.2 (λe=>?_) ∅ λe he=>.inr (pd.mem_iff.mpr (Qc _ he))⟩;rw[pd.mem_iff,Qo]
   by_cases c1:e=d
   .subst c1;simp[rS.1,(pd.mem_iff.mpr Qe)]
   .simp[c1]
end
section
variable{b:Addr}
def ED(S:SetIn s.heap a Z t ep)(h:Q Qd s):wpAny (model prog w) A (VR (.ref a)) Q E s:=by obtain⟨o,ho,hx,hd⟩:=S.obj;unfold VR;refine Qb (Ur ⟨o,ho,hx.1⟩ Zs ?_);exact Qf h
def qAi{Za Zb:List Ent}{ta:SetTable}{ea eb:Nat}{Pa Pb:List ((Int×Value)×D)}(hu:A.units+64<cLine)(Sa:SetIn s.heap a Za ta ea)(Sb:SetIn s.heap b Zb tb eb)(kC:a≠b)(SU:ta.led=!j7 w)(SV:tb.led=!j7 w)(LJ:tb.dummies=#[]) (bz:tb.tooFull=Qh)
  (pa:yU s.heap Pa) (pb:yU s.heap Pb) (qa:Pa.map (·.1)=Za.map (·.2)) (qb:Pb.map (·.1)=Zb.map (·.2)) (AB:(Pa.map (·.2)).Nodup) (Xh:(Pb.map (·.2)).Nodup) (tu:uP (Pa.map (·.2)++Pb.map (·.2))) (hl:Pb.length+Pa.length<63) {Q:NZ}
  (h:∀(h':Heap)(Z:List Ent)(t:SetTable)(ep:Nat)(P:List ((Int×Value)×D)),(∀c o,s.heap.get? c=Qa o->h'.get? c=Qa o)->SetIn h' s.heap.objs.size Z t ep->P.map (·.1)=Z.map (·.2)->t.led=!j7 w->(∀q∈P,∃q'∈Pa++Pb,q'.2=q.2/\q'.1.2=q.1.2)->(P.map (·.2)).Nodup->
   (∀e,e∈P.map (·.2)↔(e∈Pb.map (·.2)/\e∉Pa.map (·.2))\/(e∈Pa.map (·.2)/\e∉Pb.map (·.2)))->Q (.ref s.heap.objs.size) {s with heap:=h'}):
  wpAny (model prog w) A (call (.builtin "set.__xor__") [.ref a,.ref b]) Q E s:=by
 refine qV Sa.obj λoa GD my hda=>?_;refine qV Sb.obj λob OZ hxb XM=>?_;have lg:s.TypeIs (.ref a) "set":=⟨oa,GD,my.1⟩
 have hTb:s.TypeIs (.ref b) "set":=⟨ob,OZ,hxb.1⟩
 refine J3 F.slot_set_xor lg qAj ?_ (F.args_set_xor_2 _ _);show wpAny _ A.in1 (Builtin.Frozenset.slot1 "__xor__" ⟨[.ref a,.ref b],[]⟩>>=_) _ _ s;refine Qb (Wu (a:=(Y6 a,Y6 b)) rfl ?_);dsimp only;simp;refine Qb ?_;refine Qb (ED (A:=A.in1) Sa ?_);refine ED (A:=A.in1) Sb ?_;simp;refine Qb (Qf ?_);refine Qb ?_;show wpAny _ A.in1 (V3 a>>=_) _ _ s;unfold V3;refine Qb (Qb (Ur (T:="set") (b:=Qd) lg Zs (Qf ?_)));rw[if_pos rfl];unfold Builtin.Frozenset.newFrom;refine Qb ?_;unfold newSet;refine Qb (Qb (Ri ?_));dsimp only;refine JF ?_;have hsz:(s.heap.push (vJ w)).objs.size=s.heap.objs.size+1:=Uz _ _;have ny:∀c o,s.heap.get? c=Qa o->(s.heap.push (vJ w)).get? c=Qa o:=λc o e=>Qk _ e;have nR:s.heap.get? s.heap.objs.size=Qg:=l9 s.heap;have hRa:s.heap.objs.size≠a:=λe=>by rw[<-e,nR]at GD;exact nS GD
 have hRb:s.heap.objs.size≠b:=λe=>by rw[<-e,nR]at OZ;exact nS OZ
 have Sr:SetIn (s.heap.push (vJ w)) s.heap.objs.size [] (.fresh 0 0 (!j7 w)) 0:=⟨⟨vJ w,QH _ rfl,⟨rfl,rfl,rfl⟩,rfl⟩,⟨rfl,Jt,Jt,λj hj=>by simp[SetTable.fresh]at hj,.inl rfl,λz hz=>by simp at hz,QV _,λz hz=>by simp at hz⟩,rfl⟩
 have IX:SetIn (s.heap.push (vJ w)) b Zb tb eb:=Sb.at λo e=>ny b o e;refine Qb (Qf ?_);refine Qb (Q4 ?_);unfold VI;refine Qb (ED (A:=A.in1) (s:={s with heap:=s.heap.push (vJ w)}) IX ?_);rw[if_pos rfl];refine Qb (Qf ?_);unfold Builtin.Frozenset.merge;refine Qb ?_;unfold setEpoch;refine Qb (k6 (s:={s with heap:=s.heap.push (vJ w)}) IX (Qf ?_));have hZb:Zb.length=Pb.length:=by have:=congrArg YG qb;simpa using this.symm
 refine q69 (A:=A.in1) (s:={s with heap:=s.heap.push (vJ w)}) IX LJ bz ∅ SV Sr rfl rfl rfl rfl hRb λh1 Z1 t1 e1 k1 S1 p1 tf1 l1=>?_;refine Qf ?_;have SK:∀c o,s.heap.get? c=Qa o->h1.get? c=Qa o:=λc o e=>by rw[k1.2 c (λz=>by rw[z,nR]at e;exact nS e)];exact ny c o e
 refine qR (CS (·.1) p1 Pb qb) λP1 o1 o2=>?_
 let M:D->Value->Prop:=λd v=>∃q'∈Pa++Pb,q'.2=d/\q'.1.2=v
 have SD:SetD M s.heap h1 s.heap.objs.size (Pb.map (·.2)) (!j7 w) False:=⟨⟨Z1,t1,e1,P1,S1,λq hq=>pb q (o1.mem_iff.mp hq),o2,o1.map _,tf1,l1,λq hq=>⟨q,Ql _ (o1.mem_iff.mp hq),rfl,rfl⟩,λz=>z.elim⟩,SK,nR⟩
 refine Qb (Qf ?_);refine Qb (Q4 ?_);unfold Builtin.Frozenset.symmetricDifferenceUpdate;have E9:SetIn h1 a Za ta ea:=Sa.at λo e=>SK a o e;have q49:ZD {s with heap:=h1} (.ref a) "set":=⟨oa,SK a oa GD,my.1⟩
 rw[if_neg (by simpa using JQ hRa)];refine Qb (UN (s:={s with heap:=h1}) q49 ?_);rw[if_neg (by decide)];refine Qb (ED (A:=A.in1) (s:={s with heap:=h1}) E9 ?_);rw[if_pos rfl];refine Qb (Qf (Qb (Qf ?_)));unfold setEpoch;refine Qb (Qb (k6 (s:={s with heap:=h1}) E9 (Qf ?_)));refine Q4 (Qb (qAV (A:=A.in1) (s:={s with heap:=h1}) E9 SU λIb q4C=>?_));refine qR (CS (·.1) (qa▸cL w a ea Za) Pa rfl) λP2 CM CN=>?_;have Tu:∀e,e∈P2.map (·.2)↔e∈Pa.map (·.2):=λe=>(CM.map (λq=>q.2)).mem_iff;rw[<-Wb,q4C,<-CN];refine Qb (Qi (ir (A:=A.in1) (M:=M) (h₀:=s.heap) (led:=!j7 w) (a:=s.heap.objs.size) (C:=λs'=>SetIn s'.heap a Za ta ea) (by rw[Jb];lia) (λs1 h' ds _ S'=>Sa.at λo e=>S'.kp a o e) (λhh x s' Q' hw=>?_) P2 (Pb.map (·.2)) {s with heap:=h1} E9 SD Xh ((CM.map (λq=>q.2)).nodup_iff.mpr AB)
  (λe he=>tu e ((QA.mp he).elim (λz=>QD _ ((Tu e).mp z)) λz=>Ql _ z)) (λq hq=>pa q (CM.mem_iff.mp hq)) (λq hq=>⟨q,QD _ (CM.mem_iff.mp hq),rfl,rfl⟩) (by rw[Qm,CM.length_eq];exact hl)) (λ_ s' ug=>?_) (λ_ _ z=>z))
 .refine Qb (Q4 (Qb (Qi hw (λr s1 hr=>?_) (λ_ _ z=>z))));have un:∀s2:Shared,SetIn s2.heap a Za ta ea->Q' (.yield ⟨⟩) s2->wpAny (model prog w) A.in1 (VN (toString "frozenset."++toString "__xor__") a ea>>=λ_=>pure (YD Zn)) Q' E s2:=λs2 S2 q2=>by unfold VN setEpoch;refine Qb (Qb (Qb (k6 S2 (Qf ?_))));dsimp only;rw[if_neg (by simp)];exact Qf (Qf q2)
  cases r with
  |true=>
   rw[if_pos rfl]at hr;exact Qf (un s1 hr.1 hr.2)
  |false=>
   rw[if_neg (by decide)]at hr;exact Qb (Qi hr (λ_ s2 h2=>Qf (un s2 h2.1 h2.2)) (λ_ _ z=>z))
 .refine zK ug λh' zE zz SD' jQ m'=>?_;subst zz;obtain⟨⟨Z',t',wm,P',S',Px,bG,tE,tf',l',RC,_⟩,kp',_⟩:=SD';refine Qf (Qf (Qf ⟨_,rfl,h h' Z' t' wm P' kp' S' bG l' (λq hq=>RC q hq) (tE.nodup_iff.mpr jQ) λe=>?_⟩));rw[tE.mem_iff,m',Tu]
end
def q06(h:RO d≠.q9):∃xs,d=.q6 xs/\RO d=.ok xs/\qx xs=Qd/\zU xs=Qd/\(∀e∈xs,jq e=Qd)/\xs.length<=40:=by
 unfold RO at h|-;split at h
 .rename_i xs;split at h
  .rename_i c;simp only[Qp,decide_eq_true_eq]at c;refine⟨xs,rfl,?_,c.1.1.1,c.1.1.2,λe he=>Qq.mp c.1.2 e he,c.2⟩;rw[if_pos (by simp only[Qp,decide_eq_true_eq];exact c)]
  .cases h rfl
 .cases h rfl
def cC(h:∀e∈xs,jq e=Qd):uP xs:=λd hd=>by have:=h d hd;cases d<;>first|exact⟨_,rfl⟩|cases this
def qAk{ys:List D}(hx:qx xs=Qd)(hy:qx ys=Qd)(e:D):e∈X6 xs ys↔(e∈ys/\e∉xs)\/(e∈xs/\e∉ys):=by
 have any:∀(l:List D)(e:D),qx l=Qd->qH e=Qd->(l.any (qD e)=Qd↔e∈l):=λl e hl he=>by rw[Jc];exact⟨λzz=>qR zz λy h1 h2=>(jN he (j0.mp hl y h1)).mp h2▸h1,λh=>⟨e,h,(jN he he).mpr rfl⟩⟩
 unfold X6;rw[QA,QO,QO,xl hy,xl hx];refine or_congr (and_congr_right λh=>?_) (and_congr_right λh=>?_)
 .rw[Jn,<-Bool.not_eq_true,any xs e hx (j0.mp hy e h)]
 .rw[Jn,<-Bool.not_eq_true,any ys e hy (j0.mp hx e h)]
def q7K(I:Inv X pins Y H s)(fa:zH X pins H a)(ea:s.heap.get? a=Qa oa)(da:∀v,oa.data≠.cell v):Inv X (pins++[(a,oa)]) Y H s:=I.Pw λq hq=>(QA.mp hq).elim (λz=>I.pin q (Ql _ z)) λz=>by cases QE.mp z;exact⟨ea,fa.1,fa.2.1,fa.2.2.1,da⟩
def rL{E:NZ}{Q:NZ}(hK:p.K=X.K)(hc:X.calm=Qd)(hu:X.A.units+64<cLine)(I:Inv X pins Y H s)(rv:RelV v u)(q:Rep p (fz O H) (.q6 xs) v)(c1:qx xs=Qd)(c2:zU xs=Qd)(c3:∀e∈xs,jq e=Qd)(c4:xs.length<=40)
  (h:∀(h':Heap)(tk:Nat)(us:List Value)(vs:List V)(Z:List Ent)(t:SetTable)(ep:Nat)(P:List ((Int×Value)×D)),(∀c o,s.heap.get? c=Qa o->h'.get? c=Qa o)->qM p (fz O H) xs vs->Vals vs us->SetIn h' s.heap.objs.size Z t ep->P.map (·.1)=Z.map (·.2)->t.led=!j7 X.w->t.dummies=#[]->t.tooFull=Qh->
   (∀q∈P,∃i:Nat,xs[i]?=Qa q.2/\us[i]?=Qa q.1.2)->(∀q∈P,hv q.2=q.1.1)->(P.map (·.2)).Nodup->(∀e,e∈P.map (·.2)↔e∈xs)->Q (.ref s.heap.objs.size) {s with heap:=h',toks:=tk}):wpAny (model X.prog X.w) X.A (call (.type "set") [u]) Q E s:=by
 obtain⟨l,us,vs,ty,St,rfl,S,r1,w0,hz⟩:=q0g hK I rv (q.b qu) rfl;refine q0A S (I.ok.hd hc) ((vP hK I).2 xs vs us (r1.mono qu) w0) (.inl (cC c3)) c1 (λd hd=>vX.mp c2 d hd) ∅ (λl nd hm=>Yj (sub_len nd hm) ∅) λh1 IC zz=>qV zz λds SD nd mem=>?_;obtain⟨⟨Z,tb,ep,P,Si,pr,e1,e2,tf,le,mm,cl⟩,kp,nw⟩:=SD;exact h h1 IC us vs Z tb ep P kp r1 w0 Si e1 le (cl trivial) tf mm (λq hq=>(pr q hq).2.1) (e2.nodup_iff.mpr nd) λe=>e2.mem_iff.trans (mem e)
def q9n:∀(X:Cx)(p:Pm)(G:Nat->List D->R D)(sub:Nat->Nat->Bool)(a b:QC)(la lb:L)(q q2 q3 q4 q5 xp pos:Pos),p.K=X.K->X.calm=Qd->X.A.units+64<cLine->X.mg "sorted"=Qg->X.mg "set"=Qg->SE X p G sub a la->SE X p G sub b lb->kQ a=Qd->kQ b=Qd->Gl X "sorted"->Gl X "set"->
  SE X p G sub (.Call (.Name "sorted" q) [.BinOp (.Call (.Name "set" q2) [a] [] q3) .BitXor (.Call (.Name "set" q4) [b] [] q5) xp] [] pos) (.sxor la lb):=by
 intro X p G sub a b la lb q q2 q3 q4 q5 xp pos hK hc hu m1 m2 ha hb oa ob g1 g2 pins s Y H Z os I R hs;rw[iW]at hs|-;have mf:Q5 [a] X.env=[(Qh,Jw a X.env)]:=jU oa;have mh:Q5 [b] X.env=[(Qh,Jw b X.env)]:=jU ob;have DZ:Q5 [.BinOp (.Call (.Name "set" q2) [a] [] q3) .BitXor (.Call (.Name "set" q4) [b] [] q5) xp] X.env=[(Qh,Jw (.BinOp (.Call (.Name "set" q2) [a] [] q3) .BitXor (.Call (.Name "set" q4) [b] [] q5) xp) X.env)]:=jU rfl;refine Je (jr I g1 m1 YV ?_);refine Yl ?_ DZ rfl;rw[DZ];show wpAny _ _ (Us ((Qh,Jw (.BinOp (.Call (.Name "set" q2) [a] [] q3) .BitXor (.Call (.Name "set" q4) [b] [] q5) xp) X.env)::UO pos [])) _ _ s;refine QW (wpAny_BinOp ?_);refine Je (jr I g2 m2 Ip ?_);refine Q2 ?_ mf rfl;rw[mf];show wpAny _ _ (Us ((Qh,Jw a X.env)::UO q3 [])) _ _ s;refine QW (Qi (ha pins s Y H Z os I R (z7 hs)) (λu1 s1 h1=>Q0 ?_) (λe s' z=>z.bind));refine qi h1 λd1 v1 H1 e1 I1 r1 x1 w1=>?_;rw[e1,qB]at hs|-;obtain⟨xs,rfl,ex,EY,fT,fU,cx4⟩:=q06 (z7 hs);rw[ex,qB]at hs|-;refine rL hK hc hu I1 r1 w1 EY fT fU cx4 λh2 tk2 us vs Za ta ea Pa R8 ra va Sa qa SU dua tfa rM hva AB aN=>?_;refine qV (id Sa.obj) λoA mR hxA hdA=>?_;have I2:Inv X pins Y H1 {s1 with heap:=h2,toks:=tk2}:=I1.kept R8;have I2p:=q7K I2 (I1.xC (Qs _) (I1.qI.fresh (Qs _))) mR (λv z=>by rw[hdA]at z;cases z);have R1:=R.ext x1;refine Je (jr I2 g2 m2 Ip ?_);refine Q2 ?_ mh rfl;rw[mh];show wpAny _ _ (Us ((Qh,Jw b X.env)::UO q5 [])) _ _ _;refine QW (Qi (hb _ _ Y H1 Z os I2p R1 (z7 hs)) (λu3 s3 h3=>Q0 ?_) (λe s' zz=>qR zz λc z m=>⟨c,by rw[z];rfl,(wA.Cv m).ext x1⟩));refine qi h3 λd3 v3 H3 e3 cX r3 x3 w3=>?_;rw[e3,qB]at hs|-;obtain⟨ys,rfl,ey,EZ,fV,fW,cy4⟩:=q06 (z7 hs);rw[ey,qB]at hs|-;have pA:=cX.pin (s1.heap.objs.size,oA) (Ql _ (Ql _ (by simp)));have I3:Inv X pins Y H3 s3:=cX.w5;refine rL hK hc hu I3 r3 w3 EZ fV fW cy4 λh4 ID ws vt Zb tb eb Pb o3 rb vb Sb qb SV LJ bz rN hvb Xh aO=>?_;have cw:SetIn h4 s1.heap.objs.size Za ta ea:=Sa.at λo e=>by rw[mR]at e;cases e;exact o3 _ _ pA.1
 have I4:Inv X pins Y H3 {s3 with heap:=h4,toks:=ID}:=I3.kept o3;have tI:=ra.mono (zO x3);unfold IB at hs|-;have ua:(decide ((dedup xs).length+(dedup ys).length<=40)&&ji (X6 xs ys))=Qd:=by
  cases z:(decide ((dedup xs).length+(dedup ys).length<=40)&&ji (X6 xs ys))with
  |true=>rfl
  |false=>rw[z,if_neg (by simp)]at hs;cases hs rfl
 rw[ua,if_pos rfl];rw[Qp,decide_eq_true_eq]at ua;obtain⟨c40,so⟩:=ua;obtain⟨sk,kd⟩:=Cd so;have gu:∀(zs:List D)(vz:List V)(uz:List Value)(P:List ((Int×Value)×D)),qM p (fz os.flatten H3) zs vz->Vals vz uz->qx zs=Qd->zU zs=Qd->(∀q∈P,∃i:Nat,zs[i]?=Qa q.2/\uz[i]?=Qa q.1.2)->(∀q∈P,hv q.2=q.1.1)->yU h4 P:=λzs vz uz P rz vz' Ow R0 mz hz3 q hq=>by obtain⟨i,a1,a2⟩:=mz q hq;obtain⟨v',b1,b2⟩:=rz.get a1;obtain⟨u',b3,b4⟩:=vz'.get b1;rw[a2]at b3;cases b3;have hm:=Qz a1;exact⟨(vP hK I4).1 _ _ _ (b2.mono qu) b4,hz3 q hq,vX.mp R0 _ hm,j0.mp Ow _ hm⟩
 have la:Pa.length<=(dedup xs).length:=by have:=sub_len AB (b:=dedup xs) λe he=>(xl EY).mpr ((aN e).mp he);simpa using this
 have lb':Pb.length<=(dedup ys).length:=by have:=sub_len Xh (b:=dedup ys) λe he=>(xl EZ).mpr ((aO e).mp he);simpa using this
 refine wpAny_binaryOp_same (op:=.BitXor) (T:="set") (let⟨o,ho,hx,_⟩:=cw.obj;⟨o,ho,hx.1⟩) (let⟨o,ho,hx,_⟩:=Sb.obj;⟨o,ho,hx.1⟩) F.fills_set_xor F.slot_set_xor ?_;refine qAi (s:={s3 with heap:=h4,toks:=ID}) hu cw Sb (QK (Qu pA.1)) SU SV LJ bz (gu xs vs us Pa tI va EY fT rM hva) (gu ys vt ws Pb rb vb EZ fV rN hvb) qa qb AB Xh (λe he=>(QA.mp he).elim (λz=>cC fU e ((aN e).mp z)) λz=>cC fW e ((aO e).mp z)) ∅ λh5 Z5 t5 ep5 P5 kp5 S5 q5' l5 mm5 AA m5=>⟨by simp,Q0 ?_⟩
 have I5:Inv X pins Y H3 {s3 with heap:=h5,toks:=ID}:=I4.kept (t':=ID) kp5;refine Qi (q0e hK hc hu (E:=Er X p pins Y H (Ev.R.ok (D.q6 (jP (X6 xs ys))))) I5 (R1.ext x3).th S5 q5' l5 (λP2 hP2=>bJ (xs:=xs++ys) (vs:=vs++vt) (us:=us++ws) (tI.append rb) (va.append vb) P2 λq hq=>?_) (ao AA sk.Ro λe=>?_) so) (λw6 s6 h6=>TM (x1.trans x3) rfl h6) (λ_ _ z=>z)
 .refine qV (mm5 q (hP2 q hq)) λq' DW f1 f2=>?_;rcases QA.mp DW with z|z
  .refine qR (rM q' z) λi a1 a2=>?_;rw[f1]at a1;rw[f2]at a2;exact⟨i,by rw[QZ (Qj.mp a1).1];exact a1,by rw[QZ (Qj.mp a2).1];exact a2⟩
  .refine qR (rN q' z) λi a1 a2=>?_;rw[f1]at a1;rw[f2]at a2;exact⟨xs.length+i,by rw[Jh ∅,FH];exact a1,by rw[(ra.length.trans va.length),Jh ∅,FH];exact a2⟩
 .rw[m5,qAk EY EZ,aN,aO]
def sset:SSet:=⟨q9m,q9n⟩
end Snd
namespace Mk
open PySem Ev
variable{a c x t n j m K M N w:Nat}{nd:List (List Nat)}{ks l ms qs p:List Nat}{G:Nat->List D->R D}{Z ρ':Ev.Env}{d s r o:D}{ds as v:List D}{α:Type}{y:Option Sl}{z:R D}{xs:List L}{it:I}
def yj(c:Int):Ev.L:=.op .add (.op .add (.op .add qG (.qh (.int c))) (.op .mul (kZ 4) zV)) vd
def Gy:List Ev.S:=[.set 6 (.op .bor qS (.op .shl (kZ 1) zV)),.ifs (.e (.cm .yK jL (.bor 2))) [.put 2 jL (.qh (.bl Qd)),.app 3 jL] []]
def Dz:List Ev.S:=[.pop 4 3,.qw 0 [5] (.e (.call 6 [qC,qS,qG])) Gy]
def Pk:List Ev.S:=[.ifs (.or (.not (.e (.call 8 [qp]))) (.or (.e (.cm .le qp qO)) (.e (.cm .ge qp qC)))) [.ret (.qh (.bl Qh))] [],.set 2 qp]
def Pg:List Ev.S:=[.expr (.call 11 [qG,qp])]
def Ph:List Ev.S:=[.ifs (.e (.cm .ge (.idx qO (.op .sub qS (kZ 1))) (.idx qO qS))) [.raise 1] []]
def Gu:Ev.S:=.ifs (.or (.not (.e (.bi .isTup [qC]))) (.e (.cm .ne (.bi .len [qC]) (kZ 2)))) [.raise 1] []
def Pj:Ev.S:=.ifs (.or (.not (.e (.call 8 [qG]))) (.or (.e (.cm .lt qG (kZ 0))) (.e (.cm .gt qG (kZ 10))))) [.raise 1] []
def Gw:Ev.S:=.ifs (.or (.not (.e (.bi .PN [qO]))) (.e (.cm .gt (.bi .len [qO]) (kZ 1300)))) [.raise 1] []
def Du:List Ev.S:=[.app2 1 (.idx qO (kZ 0)) (.call 0 [(.idx qO (kZ 1))])]
def Se:Ev.L:=.comp 2 qG (.e (.idx qC (kZ 1))) [(.and (.e (.cm .eq qC zV)) (.e (.bi .all [(.comp 0 (.cm .mem qC qS) (.e qG) [])])))]
def Pd:List Ev.S:=[.set 4 Se,.ifs (.and (.e (.cm .yK qp qG)) (.e (.cm .ne qS (.q6 [])))) [.app 2 qp] []]
def Dt:Ev.L:=.comp 0 qC (.e qO) [(.e (.cm .ne qC qS))]
def Sd:Ev.T:=.and (.e (.cm .yK qO (.bor 1))) (.and (.e (.cm .mem qS (.bor 1))) (.e (.cm .mem qp (.call 30 [qC,qS]))))
def Gg:List Ev.S:=[.set 4 (.bi .tuple [Dt]),.ifs Sd [.app 1 qO] []]
def Pc:List Ev.S:=[.qw 0 [3] (.e qO) Gg]
def Xf:List Ev.L:=[(kZ 1),(kZ 2),(kZ 4),(kZ 8),(kZ 16),(kZ 32),(kZ 64)]
def Sn:Ev.S:=.set 8 (.call 27 [qC,yj 10,jL])
def Gq:Ev.S:=.ifs (.e (.cm .gt (.op .mod (.call 26 [qC,yj 40]) (kZ 3)) (kZ 0))) [.set 8 (.sl 0 (.zP 8) [] [(.op .add (kZ 1) (.op .mod (.call 26 [qC,yj 41]) (kZ 2)))])] []
def So:Ev.S:=.app 4 (.qA [zV,(.ite (.e (.cm .gt (.op .mod (.call 26 [qC,(.op .add (.op .add qG (kZ 70)) zV)]) (kZ 4)) (kZ 0))) (.zP 8) (.qA []))])
def Dy:List Ev.S:=[Sn,Gq,So]
def Sq:Ev.L:=.comp 0 qC (.rng [qp]) [(.e (.cm .ne qC jL))]
def Gr:Ev.L:=.idx (.q6 [(kZ 1),(kZ 1),(kZ 2),(kZ 2),(kZ 3),(kZ 0)]) (.op .mod (.call 26 [qC,(.op .add (.op .add qG (kZ 1)) zV)]) (kZ 6))
def Pf:List Ev.S:=[.set 6 Sq,.qw 0 [7] (.rng [Gr]) Dy]
def Gp:Ev.S:=.set 3 (.op .mod (.call 26 [qC,qG]) (.op .add qO (kZ 1)))
def oN:List Ev.S:=[.set 1 (kZ 0),.qw 0 [2] (.e qC) [.aug 1 .bor (.op .shl (kZ 1) qO)],.ret qG]
def oX:List Ev.S:=[.ret (.bi .tuple [(.comp 0 qC (.rng [(.bi .bits [qC])]) [(.e (.call 2 [qG,qC]))])])]
def o6:List Ev.S:=[.ret (.cm .eq (.op .band (.op .shr qC qG) (kZ 1)) (kZ 1))]
def oO:List Ev.S:=[.ret (.op .sub (.op .shl (kZ 1) qC) (kZ 1))]
def oQ:List Ev.S:=[.setE 1 (.idx qC (kZ 0)),.qw 0 [2] (.e (.idx qC (kZ 1))) Du,.retO 1]
def oP:List Ev.S:=[.ifs (.e (.call 2 [qG,qO])) [.ret (.qh (.bl Qh))] [],.qw 0 [3] (.e (.idx qC qO)) [.ifs (.e (.cm .eq (.op .band qp qG) qp)) [.ret (.qh (.bl Qd))] []],.ret (.qh (.bl Qh))]
def oR:List Ev.S:=[.ret (.comp 0 qC (.e (.call 1 [qO])) [(.e (.call 5 [qG,qO,qC]))])]
def oW:List Ev.S:=[.zY 2 (.qJ (kZ 0) (.qh (.bl Qd))),.zY 3 (.q6 [(kZ 0)]),.whl (.e (.bor 3)) Dz,.retO 2]
def GX:List Ev.S:=[.ret (.and (.bi .isInt [qC]) (.not (.bi .isBool [qC])))]
def o7:List Ev.S:=[.ifs (.not (.e (.bi .isTup [qG]))) [.ret (.qh (.bl Qh))] [],.set 2 (.neg (kZ 1)),.qw 0 [3] (.e qG) Pk,.ret (.qh (.bl Qd))]
def oK:List Ev.S:=[Gu,.set 1 (.idx qC (kZ 0)),.set 2 (.idx qC (kZ 1)),Pj,Gw,.qw 0 [3] (.e qO) Pg,.qw 0 [4] (.rng [(kZ 1),(.bi .len [qO])]) Ph]
def Xd:List Ev.S:=[.ifs (.or (.not (.e (.bi .isTup [qG]))) (.e (.cm .ne (.bi .len [qG]) (kZ 2)))) [.raise 1] [],.set 2 (.idx qG (kZ 0)),.set 3 (.idx qG (kZ 1)),.ifs (.or (.not (.e (.call 8 [qO]))) (.or (.e (.cm .lt qO (kZ 0))) (.e (.cm .ge qO qC)))) [.raise 1] [],.ifs (.not (.e (.call 9 [qC,qp]))) [.raise 1] [],.ifs (.e (.cm .mem qO qp)) [.raise 1] []]
def Ge:List Ev.S:=[.ret (.skey (.comp 0 (.call 1 [qC]) (.e (.call 14 [qC])) []) 13)]
def Gf:List Ev.S:=[.ret (.qA [(.bi .len [qC]),qC])]
def R9:List Ev.S:=[.expr (.call 10 [qC]),.ret (.call 7 [(.call 4 [qC]),(.call 3 [(.idx qC (kZ 0))])])]
def PY:List Ev.S:=[.set 1 (.call 14 [qC]),.ret (.call 16 [(.idx qC (kZ 0)),qG])]
def oV:List Ev.S:=[.zY 2 (.q6 []),.qw 0 [3] (.rng [qC]) [.ext 2 (.comp 0 (.qA [qS,(.call 1 [qC])]) (.e (.call 17 [qG,qp])) [])],.ret (.qA [qC,(.bi .sorted [(.bor 2)])])]
def oJ:List Ev.S:=[.zY 2 (.q6 []),.qw 0 [3] (.e (.bi .sorted [qC])) [.ifs (.and (.e (.call 18 [qC,qp,qG])) (.not (.e (.bi .any [(.comp 0 (.cm .eq (.op .band qS qC) qC) (.b 2) [])])))) [.app 2 qp] []],.retO 2]
def SQ:List Ev.S:=[.ret (.and (.not (.call 2 [qG,qO])) (.cm .mem (.op .bor qG (.op .shl (kZ 1) qO)) qC))]
def yF:List Ev.S:=[.expr (.call 10 [qC]),.expr (.call 10 [qG]),.ifs (.e (.cm .ne (.idx qC (kZ 0)) (.idx qG (kZ 0)))) [.raise 3] []]
def PT:List Ev.S:=[.ret (.cm .R5 (.call 21 [qC,qG]) (.qh .qE))]
def PX:List Ev.S:=[.expr (.call 19 [qC,qG]),.set 2 (.sxor (.call 12 [qC]) (.call 12 [qG])),.ret (.minK qO 13)]
def Dr:List Ev.S:=[.set 1 (.call 14 [qC]),.setF 2 23 [(.idx qC (kZ 1)),qG],.zY 3 (.q6 []),.qw 0 [4] (.rev (.idx qC (kZ 1))) [.set 5 (.call 24 [qS,qG]),.ifs (.e (.bi .all [(.comp 0 (.cm .gt (.idxC 3 qC) (kZ 1)) (.e zV) [])])) [.qw 0 [6] (.e zV) [.augC 2 .sub jL (kZ 1)]] [.app 3 qS]],.ret (.qA [(.idx qC (kZ 0)),(.revL (.bor 3))])]
def oU:List Ev.S:=[.setC 2,.qw 0 [3] (.e qC) [.qw 0 [4] (.e (.call 24 [qp,qG])) [.putC 2 qS (.op .add (.getC 2 qS (kZ 0)) (kZ 1))]],.retF 2]
def SP:List Ev.S:=[.set 2 (.idx qC (kZ 0)),.set 3 (.call 0 [(.idx qC (kZ 1))]),.ret (.comp 0 (.qA [qp,qC]) (.e qG) [(.and (.e (.cm .eq (.op .band qC qS) qS)) (.not (.e (.call 2 [qC,qp]))))])]
def PU:List Ev.S:=[.ifs (.e qC) [.ret (.idx qC (.op .mod qG (.bi .len [qC])))] [],.ret (kZ 0)]
def Dq:List Ev.S:=[.set 2 (.op .mod (.op .add (.call 25 [qC,qG]) (.op .mul (kZ 104729) (.op .add qG (kZ 1)))) (kZ 4294967291)),.set 2 (.op .mod (.op .mul qO (kZ 48271)) (kZ 4294967279)),.ret (.op .mod (.op .add (.op .mul (.op .fdiv qO (kZ 64)) (kZ 69621)) qO) (kZ 4294967231))]
def GZ:List Ev.S:=[.set 3 (.op .fdiv (.call 26 [qC,qG]) (kZ 8)),.ret (.bi .tuple [(.comp 0 (.idx qp qC) (.rng [(.bi .len [qO])]) [(.e (.cm .eq (.op .mod (.op .fdiv qS (.idx (.q6 Xf) qC)) (kZ 2)) (kZ 1)))])])]
def GY:List Ev.S:=[Gp,.zY 4 (.q6 []),.qw 0 [5] (.rng [qp]) Pf,.ret (.qA [qp,(.bi .jS [(.bor 4)])])]
def uq:List Ev.S:=[.set 1 (.q6 [(.qA [])]),.qw 0 [2] (.rng [qC]) [.set 1 (.op .add qG (.comp 0 (.op .add qC (.qA [qp])) (.e qG) []))],.ret (.comp 2 qG (.e (.bi .sorted [(.comp 0 (.qA [(.bi .len [qC]),qC]) (.e qG) [])])) [])]
def o9:List Ev.S:=[.zY 2 (.q6 []),.qw 0 [3] (.rng [(.idx qC (kZ 0))]) Pd,.retO 2]
def oH:List Ev.S:=[.zY 1 (.q6 [(.qA [])]),.qw 0 [2] (.e (.sl 0 (.call 29 [(.idx qC (kZ 0))]) [(kZ 1)] [])) Pc,.retO 1]
def PV:List Ev.S:=[.ifs (.e (.cm .R5 qC (.qh .qE))) [.ret (.qh (.str "ok"))] [],.set 1 (.q6 [(.bi (.isExc 4) [qC]),(.bi (.isExc 1) [qC]),(.bi (.isExc 2) [qC])]),.set 1 (.op .add qG (.q6 [(.bi (.isExc 5) [qC]),(.bi (.isExc 3) [qC])])),.ifs (.or (.e (.cm .ne (.bi .count [qG,(.qh (.bl Qd))]) (kZ 1))) (.not (.e (.bi .isVal [qC])))) [.ret (.qh (.str "wrong"))] [],.ret (.idx (.q6 [(.qh (.str "number")),(.qh (.str "rules")),(.qh (.str "state")),(.qh (.str "text")),(.qh (.str "unlike"))]) (.bi .index [qG,(.qh (.bl Qd))]))]
def PW:List Ev.S:=[.set 3 (.qh .qE),.set 4 (.qh .qE),.tryE [.ifs (.e (.cm .eq qC (kZ 0))) [.set 4 (.call 20 [qG,qO])] [.ifs (.e (.cm .eq qC (kZ 1))) [.set 4 (.call 21 [qG,qO])] [.set 4 (.ite (.e (.cm .eq qC (kZ 2))) (.call 15 [qG]) (.call 22 [qG]))]]] 0 5 3,.ret (.ite (.e (.cm .R5 qp (.qh .qE))) qS (.call 32 [qp]))]
def oF:List Ev.S:=[.zY 2 (.q6 []),.qw 0 [3] (.rng [(.idx qC (kZ 0))]) [.set 5 (.comp 0 qC (.e qG) [(.e (.cm .mem qS (.call 30 [qG,qC])))]),.qw 0 [4] (.e zV) [.set 6 (.comp 0 qC (.e zV) [(.and (.e (.cm .ne qC zV)) (.e (.bi .all [(.comp 0 (.cm .mem qC jL) (.e qC) [])])))]),.ifs (.e (.cm .eq jL (.q6 []))) [.app 2 (.qA [qp,qS])] []]],.ret (.qA [(.idx qC (kZ 0)),(.bi .sorted [(.bor 2)])])]
def oG:List Ev.S:=[.set 2 (.bi .list [(.idx qC (kZ 1))]),.qw 0 [3] (.e (.sl 1 (.idx qC (kZ 1)) [] [])) [.set 4 (.comp 0 qC (.e qO) [(.e (.cm .ne qC qS))]),.ifs (.e (.cm .eq (.call 31 [(.qA [(.idx qC (kZ 0)),qS])]) qG)) [.set 2 qS] []],.ret (.qA [(.idx qC (kZ 0)),qO])]
def oE:List Ev.S:=[.set 2 (.call 26 [qC,(kZ 100)]),.setT [3,4] qG,.ifs (.e (.cm .eq (.op .mod qO (kZ 4)) (kZ 0))) [.ret (.call 28 [qC,(kZ 110),(kZ 4)])] [],.ifs (.and (.e (.cm .eq (.op .mod qO (kZ 4)) (kZ 1))) (.e qS)) [.set 5 (.op .mod (.op .fdiv qO (kZ 8)) (.bi .len [qS])),.ret (.qA [qp,(.op .add (.sl 0 qS [] [zV]) (.sl 0 qS [(.op .add zV (kZ 1))] []))])] [],.zY 6 (.q6 []),.set 7 (.call 27 [qC,(kZ 101),(.lrng [qp])]),.qw 2 [8,9] (.e qS) [.app 6 (.qA [(.zP 8),(.bi .tuple [(.bi .jS [(.op .add (.zP 9) (.bi .tuple [(.comp 0 qC (.e vd) [(.e (.cm .ne qC (.zP 9)))])]))])])])],.ret (.qA [qp,(.bi .jS [(.op .add qS (.bor 6))])])]
def o8:List Ev.S:=[.set 1 (.call 28 [qC,(kZ 0),(kZ 4)]),.set 2 (.call 36 [qC,qG]),.set 3 (.call 31 [qG]),.set 4 (.call 33 [(kZ 2),qG,qG]),.ifs (.or (.not (.e (.bi .isTup [qS]))) (.or (.e (.cm .ne qS (.call 34 [qG,qp]))) (.e (.cm .ne (.call 31 [qS]) qp)))) [.ret (.qh (.bl Qh))] [],.ifs (.e (.cm .ne (.call 33 [(kZ 3),qG,qG]) (.call 35 [qG,qp]))) [.ret (.qh (.bl Qh))] [],.ifs (.e (.cm .ne (.idx qG (kZ 0)) (.idx qO (kZ 0)))) [.ret (.cm .eq (.comp 0 (.call 33 [qC,qO,qp]) (.rng [(kZ 2)]) []) (.op .mul (.q6 [(.qh (.str "unlike"))]) (kZ 2)))] [],.set 5 (.call 31 [qO]),.set 6 (.call 33 [(kZ 0),qG,qO]),.ifs (.or (.not (.e (.bi .isBool [jL]))) (.or (.e (.cm .ne jL (.cm .eq qp zV))) (.e (.cm .ne jL (.cm .eq (.call 33 [(kZ 2),qO,qO]) qS))))) [.ret (.qh (.bl Qh))] [],.set 7 (.comp 0 qC (.e (.call 29 [(.idx qG (kZ 0))])) [(.e (.cm .ne (.cm .mem qC qS) (.cm .mem qC jL)))]),.ifs (.e (.cm .ne (.call 33 [(kZ 1),qG,qO]) (.ite (.e vd) (.idx vd (kZ 0)) (.qh .qE)))) [.ret (.qh (.bl Qh))] [],.set 8 (.qA [(.idx qG (kZ 0)),(.q6 [(.qA [(.idx qG (kZ 0)),(.qA [])])])]),.ifs (.e (.cm .ne (.comp 0 (.call 33 [qC,(.zP 9),(.qA [(kZ 9),(.q6 [])])]) (.rng [(kZ 4)]) []) (.op .mul (.q6 [(.qh (.str "rules"))]) (kZ 4)))) [.ret (.qh (.bl Qh))] [],.ret (.cm .eq (.comp 0 (.call 33 [qC,(.qA [(kZ 9),(.q6 [])]),(.zP 9)]) (.rng [(kZ 2)]) []) (.op .mul (.q6 [(.qh (.str "rules"))]) (kZ 2)))]
def q8(a b:Nat):Bool:=a==b||b==0
def Ec:List (Nat×Nat×List Ev.S×Bool):=[(1,3,oN,Qh),(1,1,oX,Qh),(2,2,o6,Qh),(1,1,oO,Qh),(1,3,oQ,Qh),(3,4,oP,Qh),(3,3,oR,Qh),(2,7,oW,Qh),(1,1,GX,Qh),(2,4,o7,Qh),(1,5,oK,Qh),(2,4,Xd,Qh),(1,1,Ge,Qh),(1,1,Gf,Qh),(1,1,R9,Qh),(1,2,PY,Qh),(2,4,oV,Qh),(2,4,oJ,Qh),(3,3,SQ,Qh),(2,2,yF,Qh),(2,2,PT,Qh),(2,3,PX,Qh),(1,7,Dr,Qh),(2,5,oU,Qd),(2,4,SP,Qh),(2,2,PU,Qh),(2,3,Dq,Qh),(3,4,GZ,Qh),(3,9,GY,Qh),(1,3,uq,Qh),(2,5,o9,Qh),(1,5,oH,Qh),(1,2,PV,Qh),(3,6,PW,Qh),(2,7,oF,Qh),(2,5,oG,Qh),(2,10,oE,Qh),(1,9,o8,Qh)]
def Gm:Nat->Nat->List D->R D
 |0,_,_=>.q9
 |n+1,f,xs=>match Ec[f]?with
  |some d=>if xs.length=d.1 then(if d.2.2.2 then Ev.Py (Gm n) q8 d.2.1 d.2.2.1 xs else Ev.run (Gm n) q8 d.2.1 d.2.2.1 xs)else .q9
  |none=>.q9
noncomputable def ix:Ix:=⟨0,1,2,3,4,5,6,7,8,9,10,11,12,13,14,15,18,19,20,21,22,23,24,25,26,27,28,29,30⟩
def lG(k:Nat)(ts:List Nat)(h:∀t∈ts,t<=1000)(d:D)(hd:d=.qA (nL ts)\/d=.q6 (nL ts)):Gm (k+1) 0 [d]=.ok (nI (z9 0 ts)):=q82 ts h d hd
def Ez(k m t:Nat):Gm (k+1) 2 [nI m,nI t]=.ok (.bl (m.testBit t)):=q81 (G:=Gm k) (sub:=q8) m t
def O2(k m:Nat)(h:m<2^62):Gm (k+2) 1 [nI m]=.ok (.qA (nL (qZ m))):=q8H (f:=ix) (λm t=>Ez k m t) m h
def q3j(k n:Nat)(h:n<=1000):Gm (k+1) 3 [nI n]=.ok (nI (2^n-1)):=q83 n h
def q3q(k:Nat)(nd:List (List Nat))(m t:Nat)(h:t<nd.length):Gm (k+2) 5 [vG nd,nI m,nI t]=.ok (.bl (zS nd m t)):=q84 (f:=ix) (λm t=>Ez k m t) nd m t h
def q3r(k:Nat)(nd:List (List Nat))(m b:Nat)(hb:b<2^nd.length)(hn:nd.length<=60):Gm (k+3) 6 [vG nd,nI m,nI b]=.ok (.q6 (nL (yl nd m b))):=
 q86 (f:=ix) (λm h=>O2 k m h) nd (λm t h=>q3q k nd m t h) m b hb hn
def Sm(a b:Nat):Prop:=∀i,a.testBit i=Qd->b.testBit i=Qd
def q0T(a:Nat):Sm a a:=λ_ h=>h
def q0U{b:Nat}(h:Sm a b)(g:Sm b c):Sm a c:=λi x=>g i (h i x)
def uQ{k:Nat}:x&&&k=x↔Sm x k:=by
 constructor
 .intro h i hi;rw[<-h,Nat.testBit_and,Qp]at hi;exact hi.2
 .intro h;refine JI λi=>?_;rw[Nat.testBit_and];cases q:x.testBit i with
  |false=>rfl
  |true=>rw[h i q];rfl
def q0R{b:Nat}(h:Sm a b)(g:Sm b a):a=b:=JI λi=>QR.mpr ⟨h i,g i⟩
def q9A{b:Nat}(h:Sm a b):a<=b:=by rw[<-uQ.mpr h];exact Nat.and_le_right
def we(k t i:Nat):(k|||1<<<t).testBit i=(k.testBit i||decide (t=i)):=by rw[Vc,WL,Nat.testBit_two_pow]
def q1n(ts:List Nat):∀(m i:Nat),(z9 m ts).testBit i=(m.testBit i||decide (i∈ts)):=by
 induction ts with
 |nil=>intro m i;simp[z9]
 |cons t ts ih=>
  intro m i;show(z9 (m|||1<<<t) ts).testBit i=_;rw[ih,we,Bool.or_assoc];congr 1
  by_cases h:t=i
  .subst h;simp
  .have h':¬i=t:=λe=>h e.symm;simp[h,h']
def wC(ts:List Nat)(i:Nat):(z9 0 ts).testBit i=decide (i∈ts):=by rw[q1n];simp
def q9B{b:Nat}(h:Sm a c)(g:Sm b c):Sm (a|||b) c:=λi x=>by rw[Vc,JS]at x;exact x.elim (h i) (g i)
def q0S(a b:Nat):Sm a (a|||b):=λi x=>by rw[Vc,x];rfl
def q9C(a b:Nat):Sm b (a|||b):=λi x=>by rw[Vc,x,Bool.or_true]
def q78{k:Nat}(h:k.testBit t=Qd):k|||1<<<t=k:=JI λi=>by
 rw[we]
 by_cases e:t=i
 .subst e;simp[h]
 .simp[e]
def pN(h:a<2^n)(q:a.testBit t=Qd):t<n:=(Z0 (by decide:1<2)).mp (Yj (Vi q) h)
def aA(h:∀i,a.testBit i=Qd->i<n):a<2^n:=Nat.lt_pow_two_of_testBit _ λi hi=>by
 cases q:a.testBit i with
 |false=>rfl
 |true=>exact absurd (h i q) ∅
def Po:(2^n-1).testBit t=Qd↔t<n:=by rw[Nat.testBit_two_pow_sub_one];simp
inductive Rch(nd:List (List Nat)):Nat->Prop
 |z:Rch nd 0
 |s {k t:Nat}:Rch nd k->zS nd k t=Qd->Rch nd (k|||1<<<t)
def A7{k:Nat}(h:zS nd k t=Qd):t<nd.length:=by
 unfold zS at h;rw[Qp]at h;refine Nat.lt_of_not_le λg=>?_;have:nd.getD t []=[]:=by simp[JH,g]
 rw[this]at h;simp at h
def pv{k:Nat}(s:Sm j k)(h:zS nd j t=Qd):k.testBit t=Qd\/zS nd k t=Qd:=by
 cases q:k.testBit t with
 |true=>exact .inl rfl
 |false=>
  refine .inr ?_;unfold zS at h|-;rw[Qp]at h;rw[q,Bool.not_false,ZW];obtain⟨x,hx,hj⟩:=Jc.mp h.2;refine Jc.mpr ⟨x,hx,?_⟩;rw[beq_iff_eq]at hj|-;exact uQ.mpr (q0U (uQ.mp hj) s)
def C9{k:Nat}(h:zS nd k t=Qd):k.testBit t=Qh:=by unfold zS at h;rw[Qp]at h;simpa using h.1
def q7k{k:Nat}(r:Rch nd k)(s:Sm j k)(h:zS nd j t=Qd):Rch nd (k|||1<<<t):=by
 rcases pv s h with q|q
 .rw[q78 q];exact r
 .exact .s r q
def q7j{b:Nat}(ha:Rch nd a)(hb:Rch nd b):Rch nd (a|||b):=by
 induction hb with
 |z=>rw[Nat.or_zero];exact ha
 |s hk hm ih=>rw[<-Nat.or_assoc];exact q7k ih (q9C _ _) hm
def Xs(h:Rch nd k):k<2^nd.length:=by
 refine aA λi=>?_
 induction h with
 |z=>simp
 |s hk hm ih=>
  intro q;rw[we,JS]at q;rcases q with q|q
  .exact ih q
  .rw[<-of_decide_eq_true q];exact A7 hm
theorem vx:∀(N:Nat)(l:List Nat),l.Nodup->(∀x∈l,x<N)->l.length<=N
 |0,l,_,h=>by
  cases l with
  |nil=>simp
  |cons a l=>exact absurd (h a Qe) ∅
 |N+1,l,d,h=>by
  have h1:=vx N (l.erase N) (d.erase N) λx hx=>by have h2:=(d.mem_erase_iff).mp hx;have h3:=h x h2.2;have h4:=h2.1;lia
  by_cases m:N∈l
  .rw[Um m]at h1;lia
  .rw[List.erase_of_not_mem m]at h1;lia
noncomputable def jD(k:Nat):List Nat->List Nat->List Nat
 |_,[]=>[]
 |ks,t::ts=>if k|||1<<<t∈ks then jD k ks ts else(k|||1<<<t)::jD k (ks++[k|||1<<<t]) ts
def k7(n:Nat):List D:=Qr n (.bl Qd)
theorem t7(i:Nat):∀(ks:List Nat),i∉ks->put (i:Int) (.bl Qd) (nL ks) (k7 ks.length)=.ok (nL (ks++[i]),k7 (ks++[i]).length)
 |[],_=>rfl
 |k::ks,h=>by
  have h1:¬((k:Int)=i):=λe=>h (by have:k=i:=∅;subst this;exact Qe)
  show put (i:Int) (.bl Qd) (nI k::nL ks) (.bl Qd::k7 ks.length)=_;unfold nI put;rw[if_neg h1,(t7 i ks λg=>h (Qc _ g))];rfl
def EC(l:List Nat)(i:Nat):(nL l).any (λy=>qD y (nI i))=decide (i∈l):=by
 induction l with
 |nil=>simp
 |cons a l ih=>
  rw[yI,JK,ih,q2v]
  by_cases h:a=i
  .subst h;simp
  .have:¬i=a:=λe=>h e.symm;simp[h,this]
def aj(l:List Nat)(v:List D)(i:Nat):qc .yK (nI i) (.qJ (nL l) v)=.ok (.bl (!decide (i∈l))):=by have e:memD (nI i) (.qJ (nL l) v)=.ok ((nL l).any λy=>qD y (nI i)):=rfl;have e2:qc .yK (nI i) (.qJ (nL l) v)=(memD (nI i) (.qJ (nL l) v)).bind λr=>.ok (.bl (!r)):=rfl;rw[e2,e,EC];rfl
theorem bh{G:Nat->List D->R D}(a b:Option Sl)(N k:Nat)(hN:N<=1000):∀(ts ks ws:List Nat)(x y:Option Sl),ks.Nodup->(∀z∈ks,z<N)->(∀t∈ts,t<=1000/\k|||1<<<t<N)->ws.length<=ks.length->
  ∃x' y',zb (qN G q8 Gy) 0 [5] (nL ts) [a,b,Qa (.own (.qJ (nL ks) (k7 ks.length))),Qa (.own (.q6 (nL ws))),wv (nI k),x,y]=
   .ok [a,b,Qa (.own (.qJ (nL (ks++jD k ks ts)) (k7 (ks++jD k ks ts).length))),Qa (.own (.q6 (nL (ws++jD k ks ts)))),wv (nI k),x',y'] .nx
 |[],ks,ws,x,y,_,_,_,_=>⟨x,y,by simp[jD,TX]⟩
 |t::ts,ks,ws,x,y,hd,hk,ht,hw=>by
  have Oh:=ht t Qe;have qT:=vx N ks hd hk;have mn:∀u∈ts,u<=1000/\k|||1<<<u<N:=λu hu=>ht u (Qc _ hu)
  rw[yI,jx]
  by_cases q:k|||1<<<t∈ks
  .obtain⟨x',y',e⟩:=bh (G:=G) a b N k hN ts ks ws (wv (nI t)) (wv (nI (k|||1<<<t))) hd hk mn hw;refine⟨x',y',?_⟩;have e0:jD k ks (t::ts)=jD k ks ts:=(by rw[jD,if_pos q]);rw[e0,<-e];simp[Gy,RE,Oh.1,aj,q]
  .obtain⟨x',y',e⟩:=bh (G:=G) a b N k hN ts (ks++[k|||1<<<t]) (ws++[k|||1<<<t]) (wv (nI t)) (wv (nI (k|||1<<<t)))
    (QU.mpr ⟨hd,by simp,λu hu v hv=>by rw[QE]at hv;subst hv;exactλz=>q (z▸hu)⟩)
    (λz hz=>by
     rcases QA.mp hz with h|h
     .exact hk z h
     .rw[QE]at h;subst h;exact Oh.2) mn (by simp;lia)
   refine⟨x',y',?_⟩;have e0:jD k ks (t::ts)=(k|||1<<<t)::jD k (ks++[k|||1<<<t]) ts:=(by rw[jD,if_neg q]);have e1:∀l:List Nat,l++jD k ks (t::ts)=(l++[k|||1<<<t])++jD k (ks++[k|||1<<<t]) ts:=λl=>by rw[e0];simp
   rw[e1,e1,<-e];have b2:ws.length<big:=(by rw[zt];lia);have e3:∀Z:Ev.Env,Z[2]?=Qa (Qa (.own (.qJ (nL ks) (k7 ks.length))))->Z[6]?=Qa (wv (nI (k|||1<<<t)))->ex G q8 (.put 2 jL (.qh (.bl Qd))) Z=
     .ok (Z.set 2 (Qa (.own (.qJ (nL (ks++[k|||1<<<t])) (k7 (ks++[k|||1<<<t]).length))))) .nx:=λZ h1 h2=>by
    rw[ib,h1];simp only[zf,qF,jf,lP,h2];show(if(nL ks).length<big then(put ((k|||1<<<t:Nat):Int) (.bl Qd) (nL ks) (k7 ks.length)).go Z _ else _)=_;rw[uG,if_pos (by rw[zt];lia),(t7 (k|||1<<<t) ks q)];rfl
   simp only[Gy,jF,za,wJ];simp[-ib,RE,Oh.1,aj,q,e3,b2]
structure Inv(nd:List (List Nat))(ks ws:List Nat):Prop where
 nodup:ks.Nodup
 Xr:∀x∈ks,Rch nd x
 zero:0∈ks
 sub:∀x∈ws,x∈ks
 cl:∀x∈ks,x∈ws\/∀t,zS nd x t=Qd->x|||1<<<t∈ks
theorem ah{k x:Nat}:∀(ts ks:List Nat),x∈jD k ks ts->∃t∈ts,x=k|||1<<<t
 |[],ks,h=>by simp[jD]at h
 |t::ts,ks,h=>by
  unfold jD at h;split at h
  .obtain⟨u,hu,e⟩:=ah ts ks h;exact⟨u,Qc _ hu,e⟩
  .rcases Qo.mp h with h|h
   .exact⟨t,Qe,h⟩
   .obtain⟨u,hu,e⟩:=ah ts _ h;exact⟨u,Qc _ hu,e⟩
theorem ag:∀(ts ks:List Nat)(t:Nat),t∈ts->k|||1<<<t∈ks++jD k ks ts
 |u::ts,ks,t,h=>by
  unfold jD;split
  .rename_i q;rcases Qo.mp h with rfl|h
   .exact QD _ q
   .exact ag ts ks t h
  .rcases Qo.mp h with rfl|h
   .simp
   .have:=ag (k:=k) ts (ks++[k|||1<<<u]) t h;simpa using this
theorem ai:∀(ts ks:List Nat),ks.Nodup->(ks++jD k ks ts).Nodup
 |[],ks,h=>by simpa[jD]using h
 |t::ts,ks,h=>by
  unfold jD;split
  .exact ai ts ks h
  .rename_i q;have:=ai (k:=k) ts (ks++[k|||1<<<t]) (QU.mpr ⟨h,by simp,λu hu v hv=>by rw[QE]at hv;subst hv;exactλz=>q (z▸hu)⟩);simpa using this
def dt(n:Nat):∀t,t∈qZ (2^n-1)↔t<n:=λt=>jZ.trans Po
theorem q0i(K:Nat)(hn:nd.length<=9):∀(f:Nat)(ks ws:List Nat)(x y z:Option Sl),Inv nd ks ws->ws.length<=ks.length->2^nd.length-ks.length+ws.length<f->
  ∃xQ x' y' z',Inv nd xQ []/\uM (qz (Gm (K+3)) q8 (.e (.bor 3))) (qN (Gm (K+3)) q8 Dz) f [wv (vG nd),wv (nI (2^nd.length-1)),Qa (.own (.qJ (nL ks) (k7 ks.length))),Qa (.own (.q6 (nL ws))),x,y,z]=
   .ok [wv (vG nd),wv (nI (2^nd.length-1)),Qa (.own (.qJ (nL xQ) (k7 xQ.length))),Qa (.own (.q6 [])),x',y',z'] .nx
 |0,ks,ws,x,y,z,_,_,h=>absurd h ∅
 |f+1,ks,ws,x,y,z,I,hl,h=>by
  rw[qAY];rcases List.eq_nil_or_concat ws with rfl|⟨ws,k,rfl⟩
  .exact⟨ks,x,y,z,I,by simp⟩
  .have hN:2^nd.length<=1000:=Qx (Q6 (by decide) hn) (by decide);have hk:=I.Xr k (I.sub k (by simp));have qj:∀x∈ks,x<2^nd.length:=λx hx=>Xs (I.Xr x hx);generalize hts:yl nd k (2^nd.length-1)=ts;have OW:∀t∈ts,zS nd k t=Qd:=λt ht=>by rw[<-hts]at ht;exact(QO.mp ht).2
   have q4B:∀t,zS nd k t=Qd->t∈ts:=λt ht=>by rw[<-hts];exact QO.mpr ⟨(dt _ t).mpr (A7 ht),ht⟩
   have htt:∀t∈ts,t<=1000/\k|||1<<<t<2^nd.length:=λt ht=>⟨by have:=A7 (OW t ht);lia,Xs (.s hk (OW t ht))⟩
   have Ts:ws.length<=ks.length:=(by simp at hl;lia);obtain⟨x',y',e⟩:=bh (G:=Gm (K+3)) (wv (vG nd)) (wv (nI (2^nd.length-1))) (2^nd.length) k hN ts ks ws y z I.nodup qj htt Ts;have uf:=ai (k:=k) ts ks I.nodup;have mY:∀x∈ks++jD k ks ts,Rch nd x:=λx hx=>by
    rcases QA.mp hx with h|h
    .exact I.Xr x h
    .obtain⟨t,ht,rfl⟩:=ah ts ks h;exact .s hk (OW t ht)
   have I':Inv nd (ks++jD k ks ts) (ws++jD k ks ts):=by
    refine⟨uf,mY,QD _ I.zero,λx hx=>?_,λx hx=>?_⟩
    .rcases QA.mp hx with h|h
     .exact QD _ (I.sub x (by simp[h]))
     .exact Ql _ h
    .rcases QA.mp hx with h|h
     .by_cases q:x=k
      .subst q;exact .inr λt ht=>ag ts ks t (q4B t ht)
      .rcases I.cl x h with g|g
       .refine .inl (QD _ ?_);simp at g;exact g.resolve_right q
       .exact .inr λt ht=>QD _ (g t ht)
     .exact .inl (Ql _ h)
   have qT:=vx _ _ uf λx hx=>Xs (mY x hx);obtain⟨xQ,x2,y2,z2,I2,e2⟩:=q0i K hn f (ks++jD k ks ts) (ws++jD k ks ts) (wv (nI k)) x' y' I' (by simp;lia) (by simp at h qT|-;lia);refine⟨xQ,x2,y2,z2,I2,Eq.trans ?_ e2⟩;have e3:=q3r K nd k (2^nd.length-1) (by have:=Nat.one_le_two_pow (n:=nd.length);lia) ∅;rw[hts]at e3;simp[Dz,e3,e]
def q4g(I:Inv nd ks [])(x:Nat):x∈ks↔Rch nd x:=by
 refine⟨I.Xr x,λh=>?_⟩
 induction h with
 |z=>exact I.zero
 |s hk hm ih=>
  rcases I.cl _ ih with h|h
  .cases h
  .exact h _ hm
def q3y(K:Nat)(hn:nd.length<=9):∃ks:List Nat,ks.Nodup/\(∀x,x∈ks↔Rch nd x)/\Gm (K+4) 7 [vG nd,nI (2^nd.length-1)]=.ok (.qJ (nL ks) (k7 ks.length)):=by
 have hN:2^nd.length<=1000:=Qx (Q6 (by decide) hn) (by decide);have h0:Inv nd [0] [0]:=⟨by simp,λx hx=>by rw[QE]at hx;subst hx;exact .z,by simp,λx hx=>hx,λx hx=>.inl hx⟩
 obtain⟨ks,x,y,z,I,e⟩:=q0i K hn 100000 [0] [0] Qg Qg Qg h0 (by simp) (by simp;lia);refine⟨ks,I.nodup,q4g I,?_⟩;show Ev.run (Gm (K+3)) q8 7 [.zY 2 (.qJ (kZ 0) (.qh (.bl Qd))),.zY 3 (.q6 [(kZ 0)]),.whl (.e (.bor 3)) Dz,.retO 2] [vG nd,nI (2^nd.length-1)]=_;generalize hW:ex (Gm (K+3)) q8 (.whl (.e (.bor 3)) Dz)=W;have PE:=congrFun hW [wv (vG nd),wv (nI (2^nd.length-1)),Qa (.own (.qJ (nL [0]) (k7 1))),Qa (.own (.q6 (nL [0]))),Qg,Qg,Qg];rw[q3B]at PE;replace PE:=e.symm.trans PE;simp only[Ev.run,jF,za,hW];have hb:(1:Nat)<=big:=by decide
 simp[hb];rw[show(D.int 0)=nI 0 from rfl];have PF:W [wv (vG nd),wv (nI (2^nd.length-1)),Qa (.own (.qJ [nI 0] [.bl Qd])),Qa (.own (.q6 [nI 0])),Qg,Qg,Qg]=_:=PE.symm;rw[PF];simp
noncomputable def iL(zs:List Int):List D:=zs.map D.int
@[simp]def qBJ:iL []=[]:=rfl
@[simp]def Ox(z:Int)(l:List Int):iL (z::l)=.int z::iL l:=rfl
@[simp]def q4Z(l:List Int):(iL l).length=l.length:=Qm _
def aW(l:List Nat):nL l=iL (l.map λ(a:Nat)=>(a:Int)):=by simp[nL,iL,nI]
@[simp]def qBj(k:Nat)(l:List Int):(iL l).all (qK k)=Qd:=by simp[iL]
@[simp]def qBt(l:List Int):pl (.qA (iL l))=Qd:=by unfold pl;simp
@[simp]def qBg(l:List Int):zU (iL l)=Qd:=vX.mpr λd hd=>by obtain⟨a,_,rfl⟩:=Qn.mp hd;rfl
@[simp]def qBI(l:List Int):qx (iL l)=Qd:=j0.mpr λd hd=>by obtain⟨a,_,rfl⟩:=Qn.mp hd;simp[qH]
@[simp]def LY(a b:Int):qD (.int a) (.int b)=decide (a=b):=by simp[qD]
def q1O(l:List Int)(i:Int):(iL l).any (λy=>qD y (.int i))=decide (i∈l):=by
 induction l with
 |nil=>simp
 |cons a l ih=>
  rw[Ox,JK,ih,LY]
  by_cases h:a=i
  .subst h;simp
  .have:¬i=a:=λe=>h e.symm;simp[h,this]
def q67(i:Int)(l:List Int):qc .mem (.int i) (.qA (iL l))=.ok (.bl (decide (i∈l))):=by have e2:qc .mem (.int i) (.qA (iL l))=(memD (.int i) (.qA (iL l))).bind λr=>.ok (.bl r):=rfl;rw[e2,memD];simp[q1O]
@[simp]def le_i(a b:Int):qc .le (.int a) (.int b)=.ok (.bl (decide (a<=b))):=rfl
@[simp]def q47(a b:Int):qc .gt (.int a) (.int b)=.ok (.bl (decide (b<a))):=rfl
@[simp]def ge_i(a b:Int):qc .ge (.int a) (.int b)=.ok (.bl (!decide (a<b))):=by simp[qc,qH,zC,qU]
@[simp]def lt_i(a b:Int):qc .lt (.int a) (.int b)=.ok (.bl (decide (a<b))):=by simp[qc,qH,zC,qU]
def DF(k:Nat)(i:Int):Gm (k+1) 8 [.int i]=.ok (.bl Qd):=by show Ev.run (Gm k) q8 1 GX [.int i]=_;simp[Ev.run,GX]
noncomputable def vn(c:Int):Int->List Int->Bool
 |_,[]=>Qd
 |a,t::ts=>decide (a<t)&&decide (t<c)&&vn c t ts
theorem Av(k:Nat)(c:Int)(x:Option Sl):∀(zs:List Int)(a:Int)(y:Option Sl),∃a' y',zb (qN (Gm (k+1)) q8 Pk) 0 [3] (iL zs) [wv (.int c),x,wv (.int a),y]=
  .ok [wv (.int c),x,a',y'] (if vn c a zs=Qd then .nx else .ret (.bl Qh))
 |[],a,y=>⟨wv (.int a),y,rfl⟩
 |t::zs,a,y=>by
  obtain⟨a',y',e⟩:=Av k c x zs t (wv (.int t));rw[Ox,jx]
  by_cases h1:a<t
  .by_cases h2:t<c
   .refine⟨a',y',?_⟩;have h3:¬t<=a:=∅;have e0:vn c a (t::zs)=vn c t zs:=(by simp[vn,h1,h2]);rw[e0,<-e];simp[Pk,DF,h3,h2]
   .have h3:¬t<=a:=∅;exact⟨wv (.int a),wv (.int t),by simp[Pk,DF,h3,h2,vn]⟩
  .have h3:t<=a:=∅;exact⟨wv (.int a),wv (.int t),by simp[Pk,DF,h3,h1,vn]⟩
def q3m(k:Nat)(c:Int)(zs:List Int):Gm (k+2) 9 [.int c,.qA (iL zs)]=.ok (.bl (vn c (-1) zs)):=by obtain⟨a',y',e⟩:=Av k c (wv (.qA (iL zs))) zs (-1) Qg;show Ev.run (Gm (k+1)) q8 4 [.ifs (.not (.e (.bi .isTup [qG]))) [.ret (.qh (.bl Qh))] [],.set 2 (.neg (kZ 1)),.qw 0 [3] (.e qG) Pk,.ret (.qh (.bl Qd))] [.int c,.qA (iL zs)]=_;cases q:vn c (-1) zs<;>simp[Ev.run,e,q]
abbrev Wy:=Int×Option (List Int)
def qd:Wy->D
 |(t,Qa zs)=>.qA [.int t,.qA (iL zs)]
 |(t,Qg)=>.qA [.int t]
def vA(c:Int):Wy->Bool
 |(t,Qa zs)=>decide (0<=t)&&decide (t<c)&&vn c (-1) zs&&!decide (t∈zs)
 |_=>Qh
def sF(a:D)(l:List D):yL (a::l) 0=.ok a:=by simp[yL]
def q6a(a b:D)(l:List D):yL (a::b::l) 1=.ok b:=by simp[yL]
def yB(a:D)(l:List D):jo (.qA (a::l)) (.int 0)=.ok a:=sF a l
def u6(a b:D)(l:List D):jo (.qA (a::b::l)) (.int 1)=.ok b:=q6a a b l
def q40(k:Nat)(c:Int)(w:Wy):Gm (k+3) 11 [.int c,qd w]=if vA c w=Qd then .ok .qE else .err 1:=by
 show Ev.run (Gm (k+2)) q8 4 Xd [.int c,qd w]=_;obtain⟨t,_|zs⟩:=w
 .simp[Ev.run,Xd,qd,vA,Pu]
 .have e1:=DF (k+1) t;have e2:=q3m k c zs
  by_cases h1:t<0
  .have:¬0<=t:=∅;simp[Ev.run,Xd,qd,vA,Pu,yB,u6,e1,e2,h1,this]
  .have wu:0<=t:=∅
   by_cases h2:t<c
   .cases q:vn c (-1) zs
    .simp[Ev.run,Xd,qd,vA,Pu,yB,u6,e1,e2,h1,wu,h2,q]
    .by_cases h3:t∈zs<;>simp[Ev.run,Xd,qd,vA,Pu,yB,u6,e1,e2,h1,wu,h2,q,q67,h3]
   .simp[Ev.run,Xd,qd,vA,Pu,yB,u6,e1,e2,h1,wu,h2]
theorem tm(k:Nat)(c:Int)(a b e:Option Sl):∀(ws:List Wy)(x:Option Sl),∃x',zb (qN (Gm (k+3)) q8 Pg) 0 [3] (ws.map qd) [a,wv (.int c),b,x,e]=
  if ws.all (vA c)=Qd then .ok [a,wv (.int c),b,x',e] .nx else .err 1 [a,wv (.int c),b,x',e]
 |[],x=>⟨x,rfl⟩
 |w::ws,x=>by
  have e1:=q40 k c w;rw[Qw,jx];cases q:vA c w
  .refine⟨wv (qd w),?_⟩;simp[Pg,e1,q]
  .obtain⟨x',e2⟩:=tm k c a b e ws (wv (qd w));refine⟨x',?_⟩;rw[Vm,q,ZW,<-e2];simp[Pg,e1,q]
theorem L8:∀(a b:List Int),jl (iL a) (iL b)=Qd
 |[],_=>by simp[jl]
 |_::_,[]=>by simp[jl]
 |a::l,b::m=>by
  simp only[Ox,jl,LY];split
  .exact L8 l m
  .simp[zC]
def Ra:Wy->Bool
 |(_,Qa _)=>Qd
 |_=>Qh
def qAg{w:Wy}{c:Int}(h:vA c w=Qd):Ra w=Qd:=by
 obtain⟨t,_|zs⟩:=w
 .simp[vA]at h
 .rfl
def RJ(w:Wy):pl (qd w)=Qd:=by
 obtain⟨t,_|zs⟩:=w
 .rfl
 .unfold pl qd;simp
def XZ(w:Wy):qH (qd w)=Qd:=by obtain⟨t,_|zs⟩:=w<;>simp[qd,qH,qx]
def EV(v w:Wy)(hv:Ra v=Qd)(hw:Ra w=Qd):zC (qd v) (qd w)=Qd:=by
 obtain⟨t,_|zs⟩:=v
 .cases hv
 obtain⟨u,_|ys⟩:=w
 .cases hw
 simp only[qd,zC,jl,LY];split
 .split
  .rfl
  .simp[zC,L8]
 .simp[zC]
def q42(v w:Wy)(hv:Ra v=Qd)(hw:Ra w=Qd):qc .ge (qd v) (qd w)=.ok (.bl (!qU (qd v) (qd w))):=by
 have h:qc .ge (qd v) (qd w)=if pl (qd v)&&pl (qd w)&&qH (qd v)&&qH (qd w)&&zC (qd v) (qd w)then .ok (.bl (!qU (qd v) (qd w)))else .q9:=rfl
 rw[h,RJ,RJ,XZ,XZ,EV v w hv hw];rfl
open Classical in
theorem tq{G:Nat->List D->R D}(a b e:Option Sl)(ws:List Wy)(hw:∀w∈ws,Ra w=Qd):∀(ps:List Nat)(x:Option Sl),(∀p∈ps,p+1<ws.length)->∃x',zb (qN G q8 Ph) 0 [4] (nL (ps.map (·+1))) [a,b,wv (.q6 (ws.map qd)),e,x]=
  if(∀p∈ps,∀v w,ws[p]?=Qa v->ws[p+1]?=Qa w->qU (qd v) (qd w)=Qd)then .ok [a,b,wv (.q6 (ws.map qd)),e,x'] .nx else .err 1 [a,b,wv (.q6 (ws.map qd)),e,x']
 |[],x,_=>⟨x,by simp[TX]⟩
 |p::ps,x,hp=>by
  have h1:=hp p Qe;obtain⟨v,hv⟩:∃v,ws[p]?=Qa v:=⟨_,Qv ∅⟩
  obtain⟨w,PF⟩:∃w,ws[p+1]?=Qa w:=⟨_,Qv h1⟩
  have e1:jo (.q6 (ws.map qd)) (nI p)=.ok (qd v):=RD _ _ _ (by rw[QJ,hv];rfl);have e2:jo (.q6 (ws.map qd)) (nI (p+1))=.ok (qd w):=RD _ _ _ (by rw[QJ,PF];rfl);have e3:=q42 v w (hw v (Qz hv)) (hw w (Qz PF));have e4:zD .sub (nI (p+1)) (nI 1)=.ok (nI p):=q0l _ _ ∅;rw[Qw,yI,jx]
  by_cases q:qU (qd v) (qd w)=Qd
  .obtain⟨x',e5⟩:=tq (G:=G) a b e ws hw ps (wv (nI (p+1))) λr hr=>hp r (Qc _ hr);refine⟨x',?_⟩;have e6:(∀r∈p::ps,∀v w,ws[r]?=Qa v->ws[r+1]?=Qa w->qU (qd v) (qd w)=Qd)↔(∀r∈ps,∀v w,ws[r]?=Qa v->ws[r+1]?=Qa w->qU (qd v) (qd w)=Qd):=by rw[Y4];exact⟨λh=>h.2,λh=>⟨λv' w' a1 a2=>by rw[hv]at a1;rw[PF]at a2;cases a1;cases a2;exact q,h⟩⟩
   simp only[e6];rw[<-e5];simp[Ph,RE,e4,e1,e2,e3,q]
  .refine⟨wv (nI (p+1)),?_⟩;rw[if_neg λh=>q (h p Qe v w hv PF)];simp[Ph,RE,e4,e1,e2,e3,q]
def xW(n:Int)(ws:List Wy):D:=.qA [.int n,.q6 (ws.map qd)]
def T5(ws:List Wy):Prop:=∀p,p+1<ws.length->∀v w,ws[p]?=Qa v->ws[p+1]?=Qa w->qU (qd v) (qd w)=Qd
def q7q(l:Nat)(h:l<2^60):wV [.int 1,nI l]=.ok (nL ((Qt (l-1)).map (·+1))):=by
 unfold wV nI;simp only;rw[if_pos ∅];congr 1;have:((l:Int)-1).toNat=l-1:=∅
 rw[this];simp only[nL,J0];refine YB λa _=>?_;simp;congr 1;lia
def len_eq(ws:List Wy):(ws.map qd).length=ws.length:=Qm _
def q7u(a b:D)(Z:Ev.Env):ex G q8 Gu (wv (.qA [a,b])::Z)=.ok (wv (.qA [a,b])::Z) .nx:=by simp[Gu,Pu]
def q7v(h9:∀i,G 8 [.int i]=.ok (.bl Qd))(x:Option Sl)(n:Int)(Z:Ev.Env):ex G q8 Pj (x::wv (.int n)::Z)=if 0<=n/\n<=10 then .ok (x::wv (.int n)::Z) .nx else .err 1 (x::wv (.int n)::Z):=by
 by_cases h0:n<0
 .have:¬0<=n:=∅
  simp[Pj,h9,h0,this]
 have lU:0<=n:=∅
 by_cases h1:10<n
 .have:¬n<=10:=∅
  simp[Pj,h9,h0,lU,h1,this]
 have wu:n<=10:=∅
 simp[Pj,h9,h0,lU,h1,wu]
def q7w(x y:Option Sl)(l:List D)(Z:Ev.Env)(h:l.length<=1300):ex G q8 Gw (x::y::wv (.q6 l)::Z)=.ok (x::y::wv (.q6 l)::Z) .nx:=by
 have e:qc .gt (nI l.length) (.int 1300)=.ok (.bl Qh):=by rw[nI,q47,(decide_eq_false ∅)]
 simp[Gw,e]
open Classical in
def q7x{G:Nat->List D->R D}(a b e:Option Sl)(ws:List Wy)(hl:ws.length<=1300)(hw:∀w∈ws,Ra w=Qd):∃x',ex G q8 (.qw 0 [4] (.rng [(kZ 1),(.bi .len [qO])]) Ph) [a,b,wv (.q6 (ws.map qd)),e,Qg]=
  if T5 ws then .ok [a,b,wv (.q6 (ws.map qd)),e,x'] .nx else .err 1 [a,b,wv (.q6 (ws.map qd)),e,x']:=by
 obtain⟨x2,e3⟩:=tq a b e ws hw (Qt (ws.length-1)) Qg (λp hp=>by rw[QN]at hp;lia);refine⟨x2,?_⟩;have e4:=q7q ws.length (Yj hl (by decide));have e5:(∀p∈Qt (ws.length-1),∀v w,ws[p]?=Qa v->ws[p+1]?=Qa w->qU (qd v) (qd w)=Qd)↔T5 ws:=
  ⟨λh p hp=>h p (QN.mpr ∅),λh p hp=>h p (by rw[QN]at hp;lia)⟩
 have e7:j8 G q8 (.rng [(kZ 1),(.bi .len [qO])]) [a,b,wv (.q6 (ws.map qd)),e,Qg]=.ok (nL ((Qt (ws.length-1)).map (·+1))):=by have e8:zg G q8 [(kZ 1),(.bi .len [qO])] [a,b,wv (.q6 (ws.map qd)),e,Qg]=.ok [.int 1,nI (ws.map qd).length]:=rfl;rw[wI,e8,qB,len_eq,e4]
 rw[vD,e7,qF,e3]
 by_cases r:T5 ws
 .rw[if_pos (e5.mpr r),if_pos r]
 .rw[if_neg (λg=>r (e5.mp g)),if_neg r]
open Classical in
def Lz(k:Nat)(n:Int)(ws:List Wy)(hl:ws.length<=1300):Gm (k+4) 10 [xW n ws]=if(0<=n/\n<=10)/\ws.all (vA n)=Qd/\T5 ws then .ok .qE else .err 1:=by
 show Ev.run (Gm (k+3)) q8 5 [Gu,.set 1 (.idx qC (kZ 0)),.set 2 (.idx qC (kZ 1)),Pj,Gw,.qw 0 [3] (.e qO) Pg,.qw 0 [4] (.rng [(kZ 1),(.bi .len [qO])]) Ph] [xW n ws]=_;simp only[Ev.run,jF,za,xW,qAS,qAT,List.cons_append,YL,q7u,ja,zh,xn,jf,zf,lP,List.getElem?_cons_zero,qB,yB,u6,qF,QG,Jz,Qr,Yi,YH,Nat.reduceAdd,Nat.reduceSub,q7v (DF (k+2))]
 by_cases h:0<=n/\n<=10
 .simp only[if_pos h,ja,q7w _ _ _ _ (by rw[len_eq];exact hl)];obtain⟨x1,e2⟩:=tm k n (wv (xW n ws)) (wv (.q6 (ws.map qd))) Qg ws Qg;unfold xW at e2;have e8:ex (Gm (k+3)) q8 (.qw 0 [3] (.e qO) Pg) [wv (.qA [.int n,.q6 (ws.map qd)]),wv (.int n),wv (.q6 (ws.map qd)),Qg,Qg]=_:=e2;rw[e8];cases q:ws.all (vA n)
  .simp
  .
   obtain⟨x2,e3⟩:=q7x (wv (xW n ws)) (wv (.int n)) x1 ws hl (λw hw=>qAg (Qq.mp q w hw));unfold xW at e3;rw[if_pos rfl,ja,e3]
   by_cases r:T5 ws
   .rw[if_pos r,if_pos ⟨h,rfl,r⟩,ja]
   .rw[if_neg r,if_neg λg=>r g.2.2,sI]
 .rw[if_neg h,if_neg λg=>h g.1,sI]
abbrev Wn:=Nat×List Nat
def uK(w:Wn):Wy:=((w.1:Int),Qa (w.2.map λ(a:Nat)=>(a:Int)))
def wD(w:Wn):D:=.qA [nI w.1,.qA (nL w.2)]
def yT(w:Wn):qd (uK w)=wD w:=by unfold qd uK wD;rw[aW];rfl
def aG(ws:List Wn):(ws.map uK).map qd=ws.map wD:=by rw[J0];exact YB λw _=>yT w
def rD(n:Nat)(ws:List Wn):D:=.qA [nI n,.q6 (ws.map wD)]
def q7X(n:Nat)(ws:List Wn):rD n ws=xW n (ws.map uK):=by unfold rD xW;rw[aG];rfl
structure Good(n:Nat)(ws:List Wn):Prop where
 n5:n<=5
 len:ws.length<=60
 ok:∀w∈ws,vA n (uK w)=Qd
 rise:T5 (ws.map uK)
theorem nQ{c:Int}:∀{zs:List Int}{a:Int},vn c a zs=Qd↔(a::zs).Pairwise (·<·)/\∀z∈zs,z<c
 |[],a=>by simp[vn]
 |t::zs,a=>by
  rw[vn,Qp,Qp,nQ,decide_eq_true_eq,decide_eq_true_eq];constructor
  .rintro⟨⟨h1,h2⟩,h3,h4⟩;refine⟨QX.mpr ⟨λz hz=>?_,h3⟩,λz hz=>?_⟩
   .rcases Qo.mp hz with rfl|hz
    .exact h1
    .exact Int.lt_trans h1 ((QX.mp h3).1 z hz)
   .rcases Qo.mp hz with rfl|hz
    .exact h2
    .exact h4 z hz
  .rintro⟨h1,h2⟩;have h3:=QX.mp h1;exact⟨⟨h3.1 t Qe,h2 t Qe⟩,h3.2,λz hz=>h2 z (Qc _ hz)⟩
def jV(n:Nat)(l:List Nat):Prop:=l.Pairwise (·<·)/\∀x∈l,x<n
def q51:vn n (-1) (l.map λ(a:Nat)=>(a:Int))=Qd↔jV n l:=by
 rw[nQ,QX,Jd];constructor
 .rintro⟨⟨_,h1⟩,h2⟩;exact⟨h1.imp λh=>by lia,λx hx=>by have:=h2 x (Qn.mpr ⟨x,hx,rfl⟩);lia⟩
 .rintro⟨h1,h2⟩;refine⟨⟨λz hz=>?_,h1.imp λh=>by lia⟩,λz hz=>?_⟩
  .obtain⟨x,hx,rfl⟩:=Qn.mp hz;lia
  .obtain⟨x,hx,rfl⟩:=Qn.mp hz;have:=h2 x hx;lia
def E0{w:Wn}:vA n (uK w)=Qd↔w.1<n/\jV n w.2/\w.1∉w.2:=by
 unfold vA uK;simp only[Qp,q51,decide_eq_true_eq,Jn,decide_eq_false_iff_not,Qn];constructor
 .rintro⟨⟨⟨h1,h2⟩,h3⟩,h4⟩;exact⟨∅,h3,λh=>h4 ⟨w.1,h,rfl⟩⟩
 .rintro⟨h1,h2,h3⟩;refine⟨⟨⟨∅,∅⟩,h2⟩,λ⟨x,hx,e⟩=>h3 ?_⟩;have:x=w.1:=∅
  exact this▸hx
section
variable{ws:List Wn}(g:Good n ws)
include g
def DI(k:Nat):Gm (k+4) 10 [rD n ws]=.ok .qE:=by rw[q7X,Lz k n (ws.map uK) (by rw[Qm];have:=g.len;lia)];have:=g.n5;refine if_pos ⟨⟨∅,∅⟩,?_,g.rise⟩;rw[WB];exact Qq.mpr λw hw=>g.ok w hw
end
def CY(h:m<2^n):jV n (qZ m):=
 ⟨Ye _ Jo,λx hx=>pN h (jZ.mp hx)⟩
def ph(m:Nat):z9 0 (qZ m)=m:=JI λi=>by
 rw[wC];cases q:m.testBit i with
 |false=>exact decide_eq_false λh=>by rw[jZ,q]at h;cases h
 |true=>exact decide_eq_true (jZ.mpr q)
def Fn{b:Nat}(h:qZ a=qZ b):a=b:=by rw[<-ph a,h,ph]
def yQ(xss:List (List Nat))(w:Wn):List (List Nat):=xss.set w.1 (xss.getD w.1 []++[z9 0 w.2])
def qW(n:Nat)(ws:List Wn):List (List Nat):=ws.foldl yQ (Qr n [])
def bp(xss:List (List Nat))(w:Wn):(yQ xss w).length=xss.length:=List.length_set
theorem iw:∀(ws:List Wn)(xss:List (List Nat)),(ws.foldl yQ xss).length=xss.length
 |[],_=>rfl
 |w::ws,xss=>by rw[VH,iw ws,bp]
def Xi(n:Nat)(ws:List Wn):(qW n ws).length=n:=by unfold qW;rw[iw,JW]
theorem iy(t x:Nat):∀(ws:List Wn)(xss:List (List Nat)),(∀w∈ws,w.1<xss.length)->(x∈(ws.foldl yQ xss).getD t []↔x∈xss.getD t []\/∃w∈ws,w.1=t/\x=z9 0 w.2)
 |[],xss,_=>by simp
 |w::ws,xss,h=>by
  rw[VH,iy t x ws (yQ xss w) λv hv=>by rw[bp];exact h v (Qc _ hv)];have e:x∈(yQ xss w).getD t []↔x∈xss.getD t []\/(w.1=t/\x=z9 0 w.2):=by
   unfold yQ
   by_cases q:w.1=t
   .subst q;simp[JH,(h w Qe)]
   .simp[JH,Yp q,q]
  rw[e];simp only[Qo,exists_eq_or_imp,or_assoc]
def aK(h:∀w∈ws,w.1<n)(k t:Nat):zS (qW n ws) k t=(!k.testBit t&&ws.any λw=>decide (w.1=t)&&w.2.all k.testBit):=by
 unfold zS;congr 1;rw[QR,Jc,Jc];have hm:∀x,x∈(qW n ws).getD t []↔∃w∈ws,w.1=t/\x=z9 0 w.2:=λx=>by
  unfold qW;rw[iy t x ws _ λw hw=>by rw[JW];exact h w hw];have:(Qr n ([]:List Nat)).getD t []=[]:=by
   by_cases q:t<n<;>simp[JH,q]
  rw[this];simp
 have hs:∀s:List Nat,Sm (z9 0 s) k↔s.all k.testBit=Qd:=λs=>by rw[Qq];exact⟨λg e he=>g e (by rw[wC];exact decide_eq_true he),λg i hi=>g i (by rw[wC]at hi;exact of_decide_eq_true hi)⟩
 constructor
 .rintro⟨x,hx,e⟩;refine qV ((hm x).mp hx) λw hw h1 h2=>?_;refine⟨w,hw,?_⟩;rw[beq_iff_eq,uQ,h2,hs]at e;simp[h1,e]
 .rintro⟨w,hw,e⟩;rw[Qp,decide_eq_true_eq]at e;exact⟨z9 0 w.2,(hm _).mpr ⟨w,hw,e.1,rfl⟩,by rw[beq_iff_eq,uQ,hs];exact e.2⟩
def q1R{a b:L}(h1:Z[i]?=Qa (Qa (.zq xss)))(h2:ev G q8 a Z=.ok (nI t))(h3:xss[t]?=Qa ys)(h4:ev G q8 b Z=.ok d)(h5:ys.length<big):
  ex G q8 (.app2 i a b) Z=.ok (Z.set i (Qa (.zq (xss.set t (ys++[d]))))) .nx:=by
 rw[q37,h1];simp only[h2,qF];show(if 0<=(t:Int)then(match xss[((t:Int)).toNat]?with
       |some ys=>(ev G q8 b Z).go Z λd=>if ys.length<big then .ok (Z.set i (Qa (.zq (xss.set ((t:Int)).toNat (ys++[d]))))) .nx else .q9
       |none=>.q9)else .q9)=_
 rw[if_pos ∅];simp only[Int.toNat_natCast,h3,h4,qF];rw[if_pos h5]
theorem rU(k:Nat)(x:Option Sl):∀(ws:List Wn)(xss:List (List Nat))(y:Option Sl),(∀w∈ws,w.1<xss.length/\∀e∈w.2,e<=1000)->(∀l∈xss,l.length+ws.length<=1000)->
  ∃y',zb (qN (Gm (k+1)) q8 Du) 0 [2] (ws.map wD) [x,Qa (.zq (xss.map nL)),y]=.ok [x,Qa (.zq ((ws.foldl yQ xss).map nL)),y'] .nx
 |[],xss,y,_,_=>⟨y,rfl⟩
 |w::ws,xss,y,h,hl=>by
  have h1:=h w Qe;have hg:xss.getD w.1 []=xss[w.1]'h1.1:=by simp[JH,h1.1]
  have hm:xss.getD w.1 []∈xss:=by rw[hg];exact Jl _
  have vk:=hl _ hm;simp only[QG]at hl vk;obtain⟨y',e⟩:=rU k x ws (yQ xss w) (wv (wD w)) (λv hv=>by rw[bp];exact h v (Qc _ hv)) (λl Tu=>by
   unfold yQ at Tu;rcases List.mem_or_eq_of_mem_set Tu with q|q
   .have:=hl l q;lia
   .rw[q,QT,UJ];lia)
  refine⟨y',?_⟩;rw[Qw,jx,VH,<-e];have e1:=lG k w.2 h1.2 (.qA (nL w.2)) (.inl rfl);have e2:=q1R (G:=Gm (k+1)) (Z:=[x,Qa (.zq (xss.map nL)),wv (wD w)]) (i:=1) (a:=.idx qO (kZ 0)) (b:=.call 0 [(.idx qO (kZ 1))]) (xss:=xss.map nL) (t:=w.1) (ys:=nL (xss.getD w.1 [])) (d:=nI (z9 0 w.2)) rfl (by simp[wD,yB]) (by rw[QJ,Qv h1.1,hg];rfl) (by simp[wD,u6,e1]) (by rw[uG,zt];lia);have e3:(xss.map nL).set w.1 (nL (xss.getD w.1 [])++[nI (z9 0 w.2)])=(yQ xss w).map nL:=by unfold yQ;rw[List.map_set];simp
  rw[e3]at e2;simp only[Du,jF,za,Yi,YH]at e2|-;rw[e2];rfl
section
variable{ws:List Wn}(g:Good n ws)
include g
def G2:∀w∈ws,w.1<n:=λw hw=>(E0.mp (g.ok w hw)).1
def q46(k:Nat):Gm (k+2) 4 [rD n ws]=.ok (vG (qW n ws)):=by
 have hn:=g.n5;obtain⟨y',e⟩:=rU k (wv (rD n ws)) ws (Qr n []) Qg (λw hw=>by
  have h:=E0.mp (g.ok w hw);rw[JW];exact⟨h.1,λe he=>by have:=h.2.1.2 e he;lia⟩) (λl hl=>by
  rw[List.eq_of_mem_replicate hl];have:=g.len;simp;lia)
 have e0:((Qr n ([]:List Nat)).map nL)=Qr n []:=by rw[List.map_replicate];rfl
 rw[e0]at e;show Ev.run (Gm (k+1)) q8 3 [.setE 1 (.idx qC (kZ 0)),.qw 0 [2] (.e (.idx qC (kZ 1))) Du,.retO 1] [rD n ws]=_;have e1:ex (Gm (k+1)) q8 (.setE 1 (.idx qC (kZ 0))) [wv (rD n ws),Qg,Qg]=.ok [wv (rD n ws),Qa (.zq (Qr n [])),Qg] .nx:=by
  have:ev (Gm (k+1)) q8 (.idx qC (kZ 0)) [wv (rD n ws),Qg,Qg]=.ok (nI n):=by simp[rD,yB]
  rw[q3A,this,qF];show(if 0<=(n:Int)/\(n:Int)<=1000 then _ else _)=_;rw[if_pos ∅];rfl
 have e2:ex (Gm (k+1)) q8 (.qw 0 [2] (.e (.idx qC (kZ 1))) Du) [wv (rD n ws),Qa (.zq (Qr n [])),Qg]=.ok [wv (rD n ws),Qa (.zq ((ws.foldl yQ (Qr n [])).map nL)),y'] .nx:=by
  have:j8 (Gm (k+1)) q8 (.e (.idx qC (kZ 1))) [wv (rD n ws),Qa (.zq (Qr n [])),Qg]=.ok (ws.map wD):=by simp[rD,u6]
  rw[vD,this,qF,e]
 have e3:zj [rD n ws]++Qr (3 -[rD n ws].length) Qg=[wv (rD n ws),Qg,Qg]:=rfl;simp only[Ev.run,jF,za,e3,e1,e2,ja];simp[qW,vG]
def G3(k:Nat):∃ks:List Nat,ks.Nodup/\(∀x,x∈ks↔Rch (qW n ws) x)/\Gm (k+5) 14 [rD n ws]=.ok (.qJ (nL ks) (k7 ks.length)):=by have hn:=g.n5;obtain⟨ks,h1,h2,e5⟩:=q3y (nd:=qW n ws) k (by rw[Xi];lia);refine⟨ks,h1,h2,?_⟩;rw[Xi]at e5;show Ev.run (Gm (k+4)) q8 1 R9 [rD n ws]=_;have e1:=DI g k;have e2:=q46 g (k+2);have e3:=q3j (k+3) n ∅;have e6:jo (rD n ws) (.int 0)=.ok (nI n):=yB _ _;simp[Ev.run,R9,e1,e2,e3,e5,e6]
end
noncomputable def jb:Nat->List Nat
 |0=>[0]
 |1=>[0,1]
 |2=>[0,1,2,3]
 |3=>[0,1,2,4,3,5,6,7]
 |4=>[0,1,2,4,8,3,5,9,6,10,12,7,11,13,14,15]
 |5=>[0,1,2,4,8,16,3,5,9,17,6,10,18,12,20,24,7,11,19,13,21,25,14,22,26,28,15,23,27,29,30,31]
 |_=>[]
def tD(m:Nat):D:=.qA (nL (qZ m))
def PZ{P:Nat->Prop}(h:n<=5)(h0:P 0)(h1:P 1)(h2:P 2)(h3:P 3)(h4:P 4)(h5:P 5):P n:=by
 match n,h with
 |0,_=>exact h0
 |1,_=>exact h1
 |2,_=>exact h2
 |3,_=>exact h3
 |4,_=>exact h4
 |5,_=>exact h5
def RP(h:n<=5):∀m,m∈jb n↔m<2^n:=by exactλm=>⟨(PZ (P:=λn=>∀x∈jb n,x<2^n) h (by decide) (by decide) (by decide) (by decide) (by decide) (by decide)) m,(PZ (P:=λn=>∀x,x<2^n->x∈jb n) h (by decide) (by decide) (by decide) (by decide) (by decide+kernel) (by decide+kernel)) m⟩
def RQ(h:n<=5):(jb n).Nodup:=
 PZ (P:=λn=>(jb n).Nodup) h (by decide) (by decide) (by decide) (by decide+kernel) (by decide+kernel) (by decide+kernel)
def q8t(h:n<=5):(jb n).Pairwise λa b=>¬b&&&a=b:=
 PZ (P:=λn=>(jb n).Pairwise λa b=>¬b&&&a=b) h (by decide) (by decide) (by decide) (by decide+kernel) (by decide+kernel) (by decide+kernel)
def zi(l:List Nat):D:=wD (l.length,l)
def q0C(h:n<=5):(jb n).Pairwise λa b=>qU (zi (qZ b)) (zi (qZ a))=Qh:=
 PZ (P:=λn=>(jb n).Pairwise λa b=>qU (zi (qZ b)) (zi (qZ a))=Qh) h (by decide+kernel) (by decide+kernel) (by decide+kernel) (by decide+kernel) (by decide+kernel) (by decide+kernel)
def q8u(h:n<=5):∃ms,jb n=0::ms:=
 PZ (P:=λn=>∃ms,jb n=0::ms) h ⟨_,rfl⟩ ⟨_,rfl⟩ ⟨_,rfl⟩ ⟨_,rfl⟩ ⟨_,rfl⟩ ⟨_,rfl⟩
def q8A(G:Nat->List D->R D):Ev.run G q8 3 uq [nI 0]=.ok (.q6 ((jb 0).map tD)):=by kernel_rfl
def q8B(G:Nat->List D->R D):Ev.run G q8 3 uq [nI 1]=.ok (.q6 ((jb 1).map tD)):=by kernel_rfl
def q8C(G:Nat->List D->R D):Ev.run G q8 3 uq [nI 2]=.ok (.q6 ((jb 2).map tD)):=by kernel_rfl
def q8D(G:Nat->List D->R D):Ev.run G q8 3 uq [nI 3]=.ok (.q6 ((jb 3).map tD)):=by kernel_rfl
def q8E(G:Nat->List D->R D):Ev.run G q8 3 uq [nI 4]=.ok (.q6 ((jb 4).map tD)):=by kernel_rfl
def q8F(G:Nat->List D->R D):Ev.run G q8 3 uq [nI 5]=.ok (.q6 ((jb 5).map tD)):=by kernel_rfl
def zd(k f:Nat)(xs:List D)(a b:Nat)(l:List S)(h:Ec[f]?=Qa (a,b,l,Qh))(hl:xs.length=a):Gm (k+1) f xs=Ev.run (Gm k) q8 b l xs:=by rw[Gm,h];exact if_pos hl
def q1D(k f:Nat)(xs:List D)(a b:Nat)(l:List S)(h:Ec[f]?=Qa (a,b,l,Qd))(hl:xs.length=a):Gm (k+1) f xs=Ev.Py (Gm k) q8 b l xs:=by rw[Gm,h];exact if_pos hl
def lN(k:Nat)(h:n<=5):Gm (k+1) 29 [nI n]=.ok (.q6 ((jb n).map tD)):=by
 have e:Gm (k+1) 29 [nI n]=Ev.run (Gm k) q8 3 uq [nI n]:=zd k 29 _ 1 3 _ rfl rfl;refine e.trans ?_;clear e
 match n,h with
 |0,_=>exact q8A _
 |1,_=>exact q8B _
 |2,_=>exact q8C _
 |3,_=>exact q8D _
 |4,_=>exact q8E _
 |5,_=>exact q8F _
section
def qg{s:S}{l:List S}(h:ex G q8 s Z=.ok ρ' .nx):qN G q8 (s::l) Z=qN G q8 l ρ':=by rw[jF,h,ja]
def jX{s:S}{l:List S}(h:ex G q8 s Z=.ok ρ' (.ret d)):qN G q8 (s::l) Z=.ok ρ' (.ret d):=by rw[jF,h,au]
def jt{l:List S}(h0:zj ds++Qr (n-ds.length) Qg=Z)(h:qN G q8 l Z=.ok ρ' (.ret d)):Ev.run G q8 n l ds=.ok d:=by unfold Ev.run;rw[h0,h]
theorem TB{α:Type}{elt:Ev.Env->R D}{cond:Ev.Env->R Bool}{k:Nat}{Z:Ev.Env}{f g:α->D}{us:α->List D}{p:α->Bool}:∀{xs:List α},
  (∀x∈xs,kG k (f x)=.ok (us x)/\cond (zj (us x)++Z)=.ok (p x)/\(p x=Qd->elt (zj (us x)++Z)=.ok (g x)))->jv elt cond k Z (xs.map f)=.ok ((xs.filter p).map g)
 |[],_=>rfl
 |x::xs,h=>by
  obtain⟨h1,h2,h3⟩:=h x Qe;have ih:=TB (elt:=elt) (cond:=cond) (k:=k) (Z:=Z) (f:=f) (g:=g) (us:=us) (p:=p) (xs:=xs) λe he=>h e (Qc _ he);rw[Qw,jv,h1,qB,h2,qB];cases hp:p x with
  |true=>rw[if_pos rfl,h3 hp,qB,ih];simp[JY,hp]
  |false=>rw[if_neg (by simp),ih];simp[JY,hp]
def q68(i:Nat)(l:List Nat):qc .mem (nI i) (.qA (nL l))=.ok (.bl (decide (i∈l))):=by have e2:qc .mem (nI i) (.qA (nL l))=(memD (nI i) (.qA (nL l))).bind λr=>.ok (.bl r):=rfl;rw[e2,memD];simp[EC]
def rA(i:Nat)(l:List Nat):qc .mem (nI i) (.q6 (nL l))=.ok (.bl (decide (i∈l))):=by have e2:qc .mem (nI i) (.q6 (nL l))=(memD (nI i) (.q6 (nL l))).bind λr=>.ok (.bl r):=rfl;rw[e2,memD];simp[EC]
def q6T(i:Nat)(l:List Nat):qc .yK (nI i) (.qA (nL l))=.ok (.bl (!decide (i∈l))):=by have e2:qc .yK (nI i) (.qA (nL l))=(memD (nI i) (.qA (nL l))).bind λr=>.ok (.bl (!r)):=rfl;rw[e2,memD];simp[EC]
theorem EK{α:Type}(f:α->Bool):∀l:List α,bools? (l.map λx=>D.bl (f x))=Qa (l.map f)
 |[]=>rfl
 |x::l=>by simp[bools?,EK f l]
def filter_tt(l:List α):l.filter (λ_=>Qd)=l:=V8.mpr λ_ _=>rfl
def aY(l:List Nat):nL l=l.map nI:=rfl
def iJ(i j:Nat)(l s:List Nat)(hl:l.length<=1000)(h1:Z[i]?=Qa (wv (.qA (nL l))))(h2:Z[j]?=Qa (wv (.qA (nL s)))):
  ev G q8 (.bi .all [(.comp 0 (.cm .mem qC (.zP (j+1))) (.e (.zP i)) [])]) Z=.ok (.bl (l.all λe=>decide (e∈s))):=by
 have e0:j8 G q8 (.e (.zP i)) Z=.ok (nL l):=by simp[h1]
 have e1:jv (ev G q8 (.cm .mem qC (.zP (j+1)))) (kF G q8 []) 0 Z (l.map nI)=.ok ((l.filter λ_=>Qd).map λe=>.bl (decide (e∈s))):=
  TB (us:=λe=>[nI e]) λe _=>⟨rfl,rfl,λ_=>by simp[h2,q68]⟩
 rw[filter_tt]at e1;have hb:(l.map λe=>D.bl (decide (e∈s))).length<=big:=by rw[Qm,zt];lia
 rw[jA,kJ,xA,e0,qB,aY,e1,vw,qB,if_pos hb,qB,jW,qB,qB,dZ,EK];simp
variable{ws:List Wn}
def q6d(g:Good n ws)(s:List Nat)(x y:Option Sl)(t:Nat):ev G q8 Se [wv (rD n ws),wv (.qA (nL s)),x,wv (nI t),y]=
  .ok (.q6 ((ws.filter λw=>decide (w.1=t)&&w.2.all λe=>decide (e∈s)).map λw=>.qA (nL w.2))):=by
 have e0:j8 G q8 (.e (.idx qC (kZ 1))) [wv (rD n ws),wv (.qA (nL s)),x,wv (nI t),y]=.ok (ws.map wD):=by simp[rD,u6]
 have e1:jv (ev G q8 qG) (kF G q8 [(.and (.e (.cm .eq qC zV)) (.e (.bi .all [(.comp 0 (.cm .mem qC qS) (.e qG) [])])))]) 2 [wv (rD n ws),wv (.qA (nL s)),x,wv (nI t),y] (ws.map wD)=
   .ok ((ws.filter λw=>decide (w.1=t)&&w.2.all λe=>decide (e∈s)).map λw=>.qA (nL w.2)):=
  TB (us:=λw=>[nI w.1,.qA (nL w.2)]) λw hw=>by
   have h5:=g.n5;have hr:=(E0.mp (g.ok w hw)).2.1;have hl:w.2.length<=1000:=by have:=vx n w.2 (hr.1.imp λh=>by lia) hr.2;lia
   refine⟨rfl,?_,λ_=>rfl⟩;show kF G q8 _ [wv (nI w.1),wv (.qA (nL w.2)),wv (rD n ws),wv (.qA (nL s)),x,wv (nI t),y]=_;simp only[Cr,Cs,IE,uL];rw[(iJ (G:=G) (Z:=[wv (nI w.1),wv (.qA (nL w.2)),wv (rD n ws),wv (.qA (nL s)),x,wv (nI t),y]) 1 3 w.2 s hl rfl rfl)];generalize (w.2.all λe=>decide (e∈s))=bb
   by_cases q:w.1=t<;>cases bb<;>simp[q]
 have hb:=g.len;have G5:((ws.filter λw=>decide (w.1=t)&&w.2.all λe=>decide (e∈s)).map λw=>D.qA (nL w.2)).length<=big:=by rw[Qm,zt];exact Qx (QS _ _) ∅
 rw[Se,xA,e0,qB,e1,vw,qB,if_pos G5]
def ne_nil(l:List D)(h:zU l=Qd)(h2:∀d∈l,qK 7 d=Qd):qc .ne (.q6 l) (.q6 [])=.ok (.bl (!l.isEmpty)):=by
 have h3:pl (.q6 l)=Qd:=by unfold pl;rw[Xp];exact Qq.mpr h2
 have e:qc .ne (.q6 l) (.q6 [])=if pl (.q6 l)&&pl (.q6 [])then .ok (.bl (!qD (.q6 l) (.q6 [])))else .q9:=rfl
 rw[e,h3];have:pl (.q6 [])=Qd:=rfl;rw[this];cases l<;>simp[qD,z6]
theorem ar{G:Nat->List D->R D}(g:Good n ws)(m:Nat):∀(ts acc:List Nat)(x y:Option Sl),acc.length+ts.length<=1000->
  ∃x' y',zb (qN G q8 Pd) 0 [3] (nL ts) [wv (rD n ws),wv (tD m),Qa (.own (.q6 (nL acc))),x,y]=
   .ok [wv (rD n ws),wv (tD m),Qa (.own (.q6 (nL (acc++ts.filter (zS (qW n ws) m))))),x',y'] .nx
 |[],acc,x,y,_=>⟨x,y,by simp[TX]⟩
 |t::ts,acc,x,y,hl=>by
  simp only[QG]at hl;have e1:=q6d (G:=G) g (qZ m) (Qa (.own (.q6 (nL acc)))) y t;have hm:=aK (G2 g) m t;have Tb:∀s:List Nat,s.all (λe=>decide (e∈qZ m))=s.all m.testBit:=λs=>by rw[QR];simp[Qq,jZ]
  simp only[Tb]at e1;have hn:decide (t∈qZ m)=m.testBit t:=by rw[QR,decide_eq_true_eq,jZ]
  generalize Ti:(ws.filter λw=>decide (w.1=t)&&w.2.all m.testBit)=gl at e1;have OE:(ws.any λw=>decide (w.1=t)&&w.2.all m.testBit)=!gl.isEmpty:=by
   rw[<-Ti,QR,Jc];cases q:(ws.filter λw=>decide (w.1=t)&&w.2.all m.testBit)with
   |nil=>
    simp only[List.isEmpty_nil,Bool.not_true,JZ,iff_false];rintro⟨w,hw,h⟩;have:=(QO (p:=λw:Wn=>decide (w.1=t)&&w.2.all m.testBit)).mpr ⟨hw,h⟩;rw[q]at this;cases this
   |cons w l=>
    have:w∈(ws.filter λw=>decide (w.1=t)&&w.2.all m.testBit):=(by rw[q];exact Qe);have:=QO.mp this;simp only[List.isEmpty_cons,Bool.not_false,iff_true];exact⟨w,this.1,this.2⟩
  rw[OE]at hm;have e2:qc .ne (.q6 (gl.map λw=>D.qA (nL w.2))) (.q6 [])=.ok (.bl (!gl.isEmpty)):=by rw[ne_nil _ (vX.mpr λd hd=>by obtain⟨w,_,rfl⟩:=Qn.mp hd;exact sf _) (λd hd=>by obtain⟨w,_,rfl⟩:=Qn.mp hd;simp)];cases gl<;>rfl
  have e3:=q6T t (qZ m);rw[hn]at e3;have b1:acc.length<big:=by rw[zt];lia
  rw[yI,jx];cases q:zS (qW n ws) m t with
  |true=>
   obtain⟨x',y',e⟩:=ar (G:=G) g m ts (acc++[t]) (wv (nI t)) (wv (.q6 (gl.map λw=>D.qA (nL w.2)))) (by simp;lia);refine⟨x',y',?_⟩;rw[JY,if_pos q];have:acc++t::ts.filter (zS (qW n ws) m)=acc++[t]++ts.filter (zS (qW n ws) m):=(by simp);rw[this,<-e];rw[q]at hm;have OS:=hm.symm;rw[Qp]at OS;unfold tD at*;simp only[Pd,jF,za,zh,Yi,YH,e1,qF,ja];have hb:(0:Nat)<=big:=QV _;simp[e3,e2,OS.1,OS.2,b1]
  |false=>
   obtain⟨x',y',e⟩:=ar (G:=G) g m ts acc (wv (nI t)) (wv (.q6 (gl.map λw=>D.qA (nL w.2)))) ∅;refine⟨x',y',?_⟩;rw[JY,if_neg (by simp[q]),<-e];rw[q]at hm;have hb:(0:Nat)<=big:=QV _;unfold tD at*;simp only[Pd,jF,za,zh,Yi,YH,e1,qF,ja];cases q1:m.testBit t with
   |true=>simp[e3,q1]
   |false=>
    have q2:gl.isEmpty=Qd:=(by rw[q1]at hm;simpa using hm.symm);simp[e3,q1,e2,q2]
theorem Oy:∀{l m:List Nat},l.Pairwise (·<·)->m.Pairwise (·<·)->(∀x,x∈l↔x∈m)->l=m
 |[],[],_,_,_=>rfl
 |[],b::m,_,_,h=>absurd ((h b).mpr Qe) Vr
 |a::l,[],_,_,h=>absurd ((h a).mp Qe) Vr
 |a::l,b::m,hl,hm,h=>by
  obtain⟨l1,l2⟩:=QX.mp hl;obtain⟨m1,m2⟩:=QX.mp hm;have e:a=b:=by
   have ha:=(h a).mp Qe;have hb:=(h b).mpr Qe;rcases Qo.mp ha with e|ha
   .exact e
   .rcases Qo.mp hb with e|hb
    .exact e.symm
    .have:=m1 a ha;have:=l1 b hb;lia
  subst e;rw[Oy l2 m2 λx=>?_];have hx:=h x;simp at hx;constructor
  .intro Ot;exact(hx.mp (.inr Ot)).resolve_left λz=>by have:=l1 x Ot;lia
  .intro n6;exact(hx.mpr (.inr n6)).resolve_left λz=>by have:=m1 x n6;lia
def Il(h:l.Pairwise (·<·)):qZ (z9 0 l)=l:=
 Oy (Ye _ Jo) h λx=>by rw[jZ,wC,decide_eq_true_eq]
def du(n:Nat):qZ (2^n-1)=Qt n:=
 Oy (Ye _ Jo) Jo λx=>by rw[dt,QN]
def lF(g:Good n ws)(k m:Nat):Gm (k+1) 30 [rD n ws,tD m]=.ok (.q6 (nL (yl (qW n ws) m (2^n-1)))):=by
 have h5:=g.n5;obtain⟨x',y',e⟩:=ar (G:=Gm k) g m (Qt n) [] Qg Qg (by simp;lia);have h0:=zd k 30 [rD n ws,tD m] 2 5 [.zY 2 (.q6 []),.qw 0 [3] (.rng [(.idx qC (kZ 0))]) Pd,.retO 2] rfl rfl;rw[h0];unfold yl;rw[du];have e6:jo (rD n ws) (.int 0)=.ok (nI n):=yB _ _;have e7:j8 (Gm k) q8 (.rng [(.idx qC (kZ 0))]) [wv (rD n ws),wv (tD m),Qa (.own (.q6 [])),Qg,Qg]=.ok (nL (Qt n)):=by
  have:zg (Gm k) q8 [(.idx qC (kZ 0))] [wv (rD n ws),wv (tD m),Qa (.own (.q6 [])),Qg,Qg]=.ok [nI n]:=by simp[e6]
  rw[wI,this,qB,uH n ∅]
 have e8:ex (Gm k) q8 (.qw 0 [3] (.rng [(.idx qC (kZ 0))]) Pd) [wv (rD n ws),wv (tD m),Qa (.own (.q6 [])),Qg,Qg]=.ok [wv (rD n ws),wv (tD m),Qa (.own (.q6 (nL (List.filter (zS (qW n ws) m) (Qt n))))),x',y'] .nx:=by rw[vD,e7,qF];exact e
 have e9:zj [rD n ws,tD m]++Qr (5 -[rD n ws,tD m].length) Qg=[wv (rD n ws),wv (tD m),Qg,Qg,Qg]:=rfl;have hb:([]:List D).length<=big:=QV _;have Ee:ex (Gm k) q8 (.zY 2 (.q6 [])) [wv (rD n ws),wv (tD m),Qg,Qg,Qg]=.ok [wv (rD n ws),wv (tD m),Qa (.own (.q6 [])),Qg,Qg] .nx:=by rw[XG,D9,jW,qB,if_pos hb,qF];rfl
 exact jt e9 (by rw[qg Ee,qg e8];exact jX (by rw[Lg];rfl))
end
section
variable{ws:List Wn}
noncomputable def rB(nd:List (List Nat))(m:Nat):Bool:=@decide (Rch nd m) (Ue _)
def Xq:rB nd m=Qd↔Rch nd m:=@decide_eq_true_iff _ (Ue _)
noncomputable def qQ(n:Nat)(ws:List Wn):List Nat:=(jb n).filter (rB (qW n ws))
def wo(m t:Nat):Nat:=z9 0 ((qZ m).filter λe=>!decide (e=t))
def qAe(m t:Nat):qZ (wo m t)=(qZ m).filter λe=>!decide (e=t):=
 Il (Ye _ (Ye _ Jo))
def q19(m t i:Nat):(wo m t).testBit i=(m.testBit i&&!decide (i=t)):=by rw[wo,wC,QR,decide_eq_true_eq,QO,jZ,Qp]
def qAd(h:m.testBit t=Qd):wo m t|||1<<<t=m:=JI λi=>by
 rw[we,q19]
 by_cases e:t=i
 .subst e;simp[h]
 .have:¬i=t:=λz=>e z.symm;simp[e,this]
def qAf{k:Nat}(h:k.testBit t=Qh):wo (k|||1<<<t) t=k:=JI λi=>by
 rw[q19,we]
 by_cases e:t=i
 .subst e;simp[h]
 .have:¬i=t:=λz=>e z.symm;simp[e,this]
def q1P(l:List Nat)(i:Nat):(l.map tD).any (λy=>qD y (tD i))=decide (i∈l):=by
 induction l with
 |nil=>simp
 |cons a l ih=>
  have e:qD (tD a) (tD i)=decide (a=i):=by unfold tD;rw[La];exact decide_eq_decide.mpr ⟨Fn,λh=>by rw[h]⟩
  rw[Qw,JK,ih,e]
  by_cases h:a=i
  .subst h;simp
  .have:¬i=a:=λe=>h e.symm;simp[h,this]
def CU(m:Nat):pl (tD m)=Qd:=sf _
def bB(l:List Nat):zU (l.map tD)=Qd:=vX.mpr λd hd=>by obtain⟨a,_,rfl⟩:=Qn.mp hd;exact CU a
def r9(i:Nat)(l:List Nat):memD (tD i) (.q6 (l.map tD))=.ok (decide (i∈l)):=by rw[memD,CU,bB,q1P];rfl
def aL(i:Nat)(l:List Nat):qc .mem (tD i) (.q6 (l.map tD))=.ok (.bl (decide (i∈l))):=by have e2:qc .mem (tD i) (.q6 (l.map tD))=(memD (tD i) (.q6 (l.map tD))).bind λr=>.ok (.bl r):=rfl;rw[e2,r9];rfl
def q6S(i:Nat)(l:List Nat):qc .yK (tD i) (.q6 (l.map tD))=.ok (.bl (!decide (i∈l))):=by have e2:qc .yK (tD i) (.q6 (l.map tD))=(memD (tD i) (.q6 (l.map tD))).bind λr=>.ok (.bl (!r)):=rfl;rw[e2,r9];rfl
def dw(h:m<2^5):(qZ m).length<=5:=
 vx 5 _ ((CY h).1.imp λh=>by lia) (CY h).2
def q5r(r f y:Option Sl)(m t:Nat)(hm:m<2^5):ex G q8 (.set 4 (.bi .tuple [Dt])) [r,f,wv (tD m),wv (nI t),y]=.ok [r,f,wv (tD m),wv (nI t),wv (tD (wo m t))] .nx:=by
 have e0:j8 G q8 (.e qO) [r,f,wv (tD m),wv (nI t),y]=.ok (nL (qZ m)):=rfl;have e1:=EX (elt:=ev G q8 qC) (cond:=kF G q8 [(.e (.cm .ne qC qS))]) (Z:=[r,f,wv (tD m),wv (nI t),y]) (p:=λe=>!decide (e=t)) (l:=qZ m)
  (λa _=>by by_cases q:a=t<;>simp[q]) (λa _=>rfl)
 have hb:(nL ((qZ m).filter λe=>!decide (e=t))).length<=big:=by rw[uG,zt];exact Qx (QS _ _) (Qx (dw hm) (by decide))
 have e2:ev G q8 Dt [r,f,wv (tD m),wv (nI t),y]=.ok (.q6 (nL ((qZ m).filter λe=>!decide (e=t)))):=by rw[Dt,xA,e0,qB,e1,vw,qB,if_pos hb]
 have e3:ev G q8 (.bi .tuple [Dt]) [r,f,wv (tD m),wv (nI t),y]=.ok (tD (wo m t)):=by rw[jA,kJ,e2,qB,jW,qB,qB,EG,<-qAe];rfl
 rw[zh,e3,qF];rfl
def rC(g:Good n ws)(j t:Nat):decide (t∈yl (qW n ws) j (2^n-1))=zS (qW n ws) j t:=by rw[QR,decide_eq_true_eq];unfold yl;rw[QO,du,QN];exact⟨λh=>h.2,λh=>⟨by have:=A7 h;rwa [Xi]at this,h⟩⟩
def q5t(g:Good n ws)(m t:Nat)(fd:List Nat)(j:Nat)(e1:G 30 [rD n ws,tD j]=.ok (.q6 (nL (yl (qW n ws) j (2^n-1))))):qz G q8 Sd [wv (rD n ws),Qa (.own (.q6 (fd.map tD))),wv (tD m),wv (nI t),wv (tD j)]=
  .ok (!decide (m∈fd)&&(decide (j∈fd)&&zS (qW n ws) j t)):=by
 have e2:=rA t (yl (qW n ws) j (2^n-1));rw[rC g]at e2;have e3:=q6S m fd;have e4:=aL j fd;rw[Sd]
 by_cases q1:m∈fd
 .simp[e3,q1]
 .by_cases q2:j∈fd
  .cases q3:zS (qW n ws) j t<;>rw[q3]at e2<;>simp[e3,q1,e4,q2,e1,e2]
  .simp[e3,q1,e4,q2]
noncomputable def yw(nd:List (List Nat))(m:Nat)(ts fd:List Nat):List Nat:=
 if m∈fd then fd else if ts.any (λt=>decide (wo m t∈fd)&&zS nd (wo m t) t)=Qd then fd++[m]else fd
theorem Su(g:Good n ws)(k m:Nat)(hm:m<2^5):∀(ts fd:List Nat)(x y:Option Sl),(m∉fd->fd.length<1000)->
  ∃x' y',zb (qN (Gm (k+1)) q8 Gg) 0 [3] (nL ts) [wv (rD n ws),Qa (.own (.q6 (fd.map tD))),wv (tD m),x,y]=
   .ok [wv (rD n ws),Qa (.own (.q6 ((yw (qW n ws) m ts fd).map tD))),wv (tD m),x',y'] .nx
 |[],fd,x,y,_=>⟨x,y,by simp[TX,yw]⟩
 |t::ts,fd,x,y,hl=>by
  rw[yI,jx];have e1:=q5r (G:=Gm (k+1)) (wv (rD n ws)) (Qa (.own (.q6 (fd.map tD)))) y m t hm;simp only[Yi,YH,Gg]at e1|-;rw[qg e1,jF,wJ,(q5t g m t fd (wo m t) (lF g k (wo m t))),qF];cases q:(!decide (m∈fd)&&(decide (wo m t∈fd)&&zS (qW n ws) (wo m t) t))with
  |true=>
   have q0:=q;rw[Qp]at q0;have q1:m∉fd:=(by simpa using q0.1);obtain⟨x',y',e⟩:=Su g k m hm ts (fd++[m]) (wv (nI t)) (wv (tD (wo m t))) (λh=>absurd (by simp) h);refine⟨x',y',?_⟩;have ea:yw (qW n ws) m (t::ts) fd=fd++[m]:=by unfold yw;rw[if_neg q1,JK,q0.2];rfl
   have eb:yw (qW n ws) m ts (fd++[m])=fd++[m]:=(by unfold yw;rw[if_pos (by simp)]);rw[eb]at e;rw[ea,<-e];have e5:qN (Gm (k+1)) q8 [.app 1 qO] [wv (rD n ws),Qa (.own (.q6 (fd.map tD))),wv (tD m),wv (nI t),wv (tD (wo m t))]=.ok [wv (rD n ws),Qa (.own (.q6 ((fd++[m]).map tD))),wv (tD m),wv (nI t),wv (tD (wo m t))] .nx:=by rw[qg (ρ':=[wv (rD n ws),Qa (.own (.q6 ((fd++[m]).map tD))),wv (tD m),wv (nI t),wv (tD (wo m t))]),za];rw[Ru];show(if(fd.map tD).length<big then _ else _)=_;rw[if_pos (by rw[Qm,zt];have:=hl q1;lia),JA];rfl
   rw[if_pos rfl,e5,ja,za,v9];rfl
  |false=>
   obtain⟨x',y',e⟩:=Su g k m hm ts fd (wv (nI t)) (wv (tD (wo m t))) hl;refine⟨x',y',?_⟩;have ea:yw (qW n ws) m (t::ts) fd=yw (qW n ws) m ts fd:=by
    unfold yw
    by_cases q1:m∈fd
    .rw[if_pos q1,if_pos q1]
    .have q2:(decide (wo m t∈fd)&&zS (qW n ws) (wo m t) t)=Qh:=(by simpa[q1]using q);rw[if_neg q1,if_neg q1,JK,q2,ZQ]
   rw[ea,<-e,if_neg (by simp),za,ja,za,v9];rfl
def q1J{pre:List Nat}(g:Good n ws)(hs:jb n=pre++m::ms)(h0:0∈pre):
  yw (qW n ws) m (qZ m) (pre.filter (rB (qW n ws)))=(pre++[m]).filter (rB (qW n ws)):=by
 have uf:=RQ g.n5;have mU:=q8t g.n5;rw[hs]at uf mU;have mM:m∉pre:=λh=>(QU.mp uf).2.2 m h m Qe rfl;unfold yw;rw[if_neg (λh=>mM (QO.mp h).1),U7];have key:(qZ m).any (λt=>decide (wo m t∈pre.filter (rB (qW n ws)))&&zS (qW n ws) (wo m t) t)=Qd↔Rch (qW n ws) m:=by
  rw[Jc];constructor
  .rintro⟨t,ht,h⟩;rw[Qp,decide_eq_true_eq]at h;have:=Rch.s (Xq.mp (QO.mp h.1).2) h.2
   rwa [qAd (jZ.mp ht)]at this
  .intro h;cases h with
   |z=>exact absurd h0 mM
   |@s j t hj ht=>
    have mH:=C9 ht;refine⟨t,jZ.mpr (by rw[we];simp),?_⟩;rw[qAf mH,Qp,decide_eq_true_eq];refine⟨QO.mpr ⟨?_,Xq.mpr hj⟩,ht⟩;have qj:=Xs hj;rw[Xi]at qj;have mC:=(RP g.n5 j).mpr qj;rw[hs]at mC;rcases QA.mp mC with h|h
    .exact h
    .rcases Qo.mp h with h|h
     .have:(j|||1<<<t).testBit t=Qd:=(by rw[we];simp);rw[<-h,mH]at this;cases this
     .
      exact absurd (uQ.mpr (q0S j _)) ((QX.mp ((VU.mp mU).2.1)).1 j h)
 by_cases q:Rch (qW n ws) m
 .rw[if_pos (key.mpr q)];have:rB (qW n ws) m=Qd:=Xq.mpr q;simp[this]
 .rw[if_neg λh=>q (key.mp h)];have:rB (qW n ws) m=Qh:=by
   cases e:rB (qW n ws) m with
   |false=>rfl
   |true=>exact absurd (Xq.mp e) q
  simp[this]
theorem pK(g:Good n ws)(k:Nat):∀(ms pre:List Nat)(x y z:Option Sl),jb n=pre++ms->0∈pre->
  ∃x' y' z',zb (qN (Gm (k+1)) q8 Pc) 0 [2] (ms.map tD) [wv (rD n ws),Qa (.own (.q6 ((pre.filter (rB (qW n ws))).map tD))),x,y,z]=
   .ok [wv (rD n ws),Qa (.own (.q6 ((qQ n ws).map tD))),x',y',z'] .nx
 |[],pre,x,y,z,hs,_=>⟨x,y,z,by rw[Y9,TX,qQ,hs,Q3]⟩
 |m::ms,pre,x,y,z,hs,h0=>by
  have hn:=g.n5;have hm:m<2^n:=(RP hn m).mp (by rw[hs];simp);have qT:(jb n).length<=32:=Qx (vx (2^n) _ (RQ hn) λx hx=>(RP hn x).mp hx) (Qx (Q6 (by decide) hn) (by decide));have hl:(pre.filter (rB (qW n ws))).length<1000:=by rw[hs,QT]at qT;exact Yj (QS _ _) ∅
  obtain⟨x1,y1,e1⟩:=Su g k m (QF hm (Q6 (by decide) hn)) (qZ m) (pre.filter (rB (qW n ws))) y z λ_=>hl;rw[q1J g hs h0]at e1;obtain⟨x2,y2,z2,e2⟩:=pK g k ms (pre++[m]) (wv (tD m)) x1 y1 (by rw[hs];simp) (by simp[h0]);refine⟨x2,y2,z2,?_⟩;rw[<-e2,Qw,jx];have e3:ex (Gm (k+1)) q8 (.qw 0 [3] (.e qO) Gg) [wv (rD n ws),Qa (.own (.q6 ((pre.filter (rB (qW n ws))).map tD))),wv (tD m),y,z]=.ok [wv (rD n ws),Qa (.own (.q6 (((pre++[m]).filter (rB (qW n ws))).map tD))),wv (tD m),x1,y1] .nx:=by have:j8 (Gm (k+1)) q8 (.e qO) [wv (rD n ws),Qa (.own (.q6 ((pre.filter (rB (qW n ws))).map tD))),wv (tD m),y,z]=.ok (nL (qZ m)):=rfl;rw[vD,this,qF,e1]
  have e4:qN (Gm (k+1)) q8 Pc [wv (rD n ws),Qa (.own (.q6 ((pre.filter (rB (qW n ws))).map tD))),wv (tD m),y,z]=.ok [wv (rD n ws),Qa (.own (.q6 (((pre++[m]).filter (rB (qW n ws))).map tD))),wv (tD m),x1,y1] .nx:=by rw[Pc,qg e3,za]
  simp only[Yi,YH];rw[e4,v9]
def q5s(e1:G 29 [nI n]=.ok (.q6 (d::ms.map tD))):j8 G q8 (.e (.sl 0 (.call 29 [(.idx qC (kZ 0))]) [(kZ 1)] [])) [wv (rD n ws),y,Qg,Qg,Qg]=.ok (ms.map tD):=by have e6:jo (rD n ws) (.int 0)=.ok (nI n):=yB _ _;rw[yc,TR];simp[e6,e1,xU,yo,jM,yX,JO]
def G0(g:Good n ws)(k:Nat):Gm (k+2) 31 [rD n ws]=.ok (.q6 ((qQ n ws).map tD)):=by
 have hn:=g.n5;obtain⟨ms,hz⟩:=q8u hn;obtain⟨x,y,z,e⟩:=pK g k ms [0] Qg Qg Qg (by rw[hz];rfl) (by simp);have f0:[0].filter (rB (qW n ws))=[0]:=by simp[(Xq.mpr .z)]
 rw[f0]at e;have e1:=lN k hn;rw[hz,Qw]at e1;have e6:jo (rD n ws) (.int 0)=.ok (nI n):=yB _ _;refine(zd (k+1) 31 [rD n ws] 1 5 [.zY 1 (.q6 [(.qA [])]),.qw 0 [2] (.e (.sl 0 (.call 29 [(.idx qC (kZ 0))]) [(kZ 1)] [])) Pc,.retO 1] rfl rfl).trans ?_;have e2:ex (Gm (k+1)) q8 (.zY 1 (.q6 [(.qA [])])) [wv (rD n ws),Qg,Qg,Qg,Qg]=.ok [wv (rD n ws),Qa (.own (.q6 ([0].map tD))),Qg,Qg,Qg] .nx:=by rw[XG,D9,kJ,Le,jW,qB,if_pos (by decide),qB,qB,qB,if_pos (by decide),qF];rfl
 have e4:ex (Gm (k+1)) q8 (.qw 0 [2] (.e (.sl 0 (.call 29 [(.idx qC (kZ 0))]) [(kZ 1)] [])) Pc) [wv (rD n ws),Qa (.own (.q6 ([0].map tD))),Qg,Qg,Qg]=.ok [wv (rD n ws),Qa (.own (.q6 ((qQ n ws).map tD))),x,y,z] .nx:=by rw[vD,(q5s (G:=Gm (k+1)) (n:=n) (ws:=ws) (y:=Qa (.own (.q6 ([0].map tD)))) e1),qF,e]
 exact jt (Z:=[wv (rD n ws),Qg,Qg,Qg,Qg]) rfl (by rw[qg e2,qg e4];exact jX (by rw[Lg];rfl))
end
section
variable{ws:List Wn}
theorem aF{α:Type}{f:D->R D}{h h2:α->D}:∀{l:List α},(∀x∈l,f (h x)=.ok (h2 x))->mapR f (l.map h)=.ok (l.map h2)
 |[],_=>rfl
 |x::l,e=>by rw[Qw,mapR,e x Qe,qB,aF λy hy=>e y (Qc _ hy)];rfl
theorem nB(h:D->D)(x:D):∀l:List D,kz.insK (x,h x) (l.map λk=>(k,h k))=(ins x l).map λk=>(k,h k)
 |[]=>rfl
 |y::l=>by
  rw[Qw,kz.insK,ins];split
  .rfl
  .rw[nB h x l];rfl
theorem q0Z(h:D->D):∀l:List D,kz (l.map λk=>(k,h k))=(jP l).map λk=>(k,h k)
 |[]=>rfl
 |x::l=>by have ih:=q0Z h l;unfold kz at ih|-;rw[Qw,List.foldr_cons,ih,nB];rfl
def kD(m:Nat):D:=zi (qZ m)
noncomputable def bW:D->D
 |.qA [_,d]=>d
 |_=>.qE
theorem zip_map{α β γ:Type}(f:α->β)(h:α->γ):∀l:List α,(l.map f).zip (l.map h)=l.map λx=>(f x,h x)
 |[]=>rfl
 |x::l=>by simp[zip_map f h l]
theorem Fv:∀{l:List D},l.Pairwise (λa b=>qD a b=Qh)->dedup l=l
 |[],_=>rfl
 |x::l,h=>by
  obtain⟨h1,h2⟩:=QX.mp h;have:l.any (qD x)=Qh:=by rw[List.any_eq_false];intro d hd;simp[h1 d hd]
  rw[dedup,this,Fv h2];rfl
def Di(m:Nat):kD m=qd (uK ((qZ m).length,qZ m)):=by rw[yT];rfl
def nh{b:Nat}(h:kD a=kD b):a=b:=by
 have:bW (kD a)=bW (kD b):=by rw[h]
 exact Fn (aX.mp (D.qA.inj this))
def xJ(m:Nat):qH (kD m)=Qd:=by rw[Di];exact XZ _
def EU(a b:Nat):zC (kD a) (kD b)=Qd:=by rw[Di,Di];exact EV _ _ rfl rfl
def sort_k(h:ks.Nodup)(hl:ks.length<64):ji (ks.map kD)=Qd:=by
 have h1:qx (ks.map kD)=Qd:=j0.mpr λd hd=>by obtain⟨a,_,rfl⟩:=Qn.mp hd;exact xJ a
 have h2:zU (ks.map kD)=Qd:=vX.mpr λd hd=>by obtain⟨a,_,rfl⟩:=Qn.mp hd;rw[Di];exact RJ _
 have h3:vg zC (ks.map kD)=Qd:=by unfold vg;refine Qq.mpr λa ha=>Qq.mpr λb hb=>?_;obtain⟨x,_,rfl⟩:=Qn.mp ha;obtain⟨y,_,rfl⟩:=Qn.mp hb;exact EU x y
 have h4:dedup (ks.map kD)=ks.map kD:=Fv (Jd.mpr (h.imp λ{a b} kC=>by
  cases q:qD (kD a) (kD b)with
  |false=>rfl
  |true=>exact absurd (nh ((jN (xJ a) (xJ b)).mp q)) kC))
 have h5:(ks.map kD).all jq=Qd:=Qq.mpr λd hd=>by obtain⟨a,_,rfl⟩:=Qn.mp hd;rfl
 unfold ji Pt;rw[h1,h2,h3,h4,h5,Qm];simp[hl]
def q7F{m:List Nat}(h1:l.Nodup)(h2:m.Nodup)(h:∀x,x∈l↔x∈m):l.Perm m:=(JN h1 h2).mpr h
def TK(g:Good n ws)(m:Nat):m∈qQ n ws↔Rch (qW n ws) m:=by unfold qQ;rw[QO,RP g.n5,Xq];exact⟨λh=>h.2,λh=>⟨by have:=Xs h;rwa [Xi]at this,h⟩⟩
def q57(g:Good n ws)(h:ks.Nodup)(hm:∀x,x∈ks↔Rch (qW n ws) x):jP (ks.map kD)=(qQ n ws).map kD:=by
 have hp:ks.Perm (qQ n ws):=q7F h ((RQ g.n5).filter _) λx=>by rw[hm,TK g]
 have hh:∀d∈ks.map kD,qH d=Qd:=λd hd=>by obtain⟨a,_,rfl⟩:=Qn.mp hd;exact xJ a
 have hq:=kN (ks.map kD);refine FU (hq.trans (hp.map kD)) (λd hd=>hh d (hq.mem_iff.mp hd)) (λa ha b hb=>?_) (R6 hh) ?_
 .obtain⟨x,_,rfl⟩:=Qn.mp (hq.mem_iff.mp ha);obtain⟨y,_,rfl⟩:=Qn.mp (hq.mem_iff.mp hb);exact EU x y
 .unfold qo qQ;rw[Jd];exact(q0C g.n5).filter _
def lI(k m:Nat):Gm (k+1) 13 [tD m]=.ok (kD m):=by
 refine(zd k 13 [tD m] 1 1 Gf rfl rfl).trans ?_;have b:(2:Nat)<=big:=by decide
 simp[Ev.run,Gf,tD,b,kD,zi,wD]
def q9z(g:Good n ws)(h:ks.Nodup)(hm:∀x,x∈ks↔Rch (qW n ws) x)(e17:G 14 [rD n ws]=.ok (.qJ (nL ks) (k7 ks.length)))(e1:∀m,m<2^62->G 1 [nI m]=.ok (tD m))(e16:∀m,G 13 [tD m]=.ok (kD m)):
  Ev.run G q8 1 Ge [rD n ws]=.ok (.q6 ((qQ n ws).map tD)):=by
 have hn:=g.n5;have qj:∀x∈ks,x<2^n:=λx hx=>by have:=Xs ((hm x).mp hx);rwa [Xi]at this
 have hl:ks.length<=32:=Qx (vx _ _ h qj) (Qx (Q6 (by decide) hn) (by decide));have a1:j8 G q8 (.e (.call 14 [qC])) [wv (rD n ws)]=.ok (nL ks):=by simp[e17]
 have a2:jv (ev G q8 (.call 1 [qC])) (kF G q8 []) 0 [wv (rD n ws)] (ks.map nI)=.ok ((ks.filter λ_=>Qd).map tD):=
  TB (us:=λe=>[nI e]) λe he=>⟨rfl,rfl,λ_=>by have:=e1 e (QF (qj e he) (Q6 (by decide) ∅));simp[this]⟩
 rw[filter_tt]at a2;have b1:(ks.map tD).length<=big:=by rw[Qm,zt];lia
 have a3:ev G q8 (.comp 0 (.call 1 [qC]) (.e (.call 14 [qC])) []) [wv (rD n ws)]=.ok (.q6 (ks.map tD)):=by rw[xA,a1,qB,aY,a2,vw,qB,if_pos b1]
 have a5:kz ((ks.map kD).zip (ks.map tD))=(jP (ks.map kD)).map λk=>(k,bW k):=by rw[<-q0Z,zip_map,J0];rfl
 have a6:ev G q8 (.skey (.comp 0 (.call 1 [qC]) (.e (.call 14 [qC])) []) 13) [wv (rD n ws)]=.ok (.q6 ((qQ n ws).map tD)):=by rw[iV,a3,qB,u9,qB,(aF λm _=>e16 m),vw,qB,sort_k h ∅,if_pos rfl,a5,q57 g h hm];congr 2;simp only[J0];rfl
 exact jt (Z:=[wv (rD n ws)]) rfl (jX (by rw[kL,a6,qF]))
def lS(g:Good n ws)(k:Nat):Gm (k+6) 12 [rD n ws]=.ok (.q6 ((qQ n ws).map tD)):=by refine qV (G3 g k) λks h hm e=>?_;exact(zd (k+5) 12 [rD n ws] 1 1 Ge rfl rfl).trans (q9z g h hm e (λm h=>O2 (k+3) m h) (λm=>lI (k+4) m))
end
def q0k(c:Nat):q8 c 0=Qd:=by simp[q8]
section
variable{th:D}
def AQ(G:Nat->List D->R D)(i:Nat)(x:R D):Nat->List D->R D:=λf xs=>cond (Nat.beq f i) x (G f xs)
def qA4:Nat->Nat->Bool:=λe c=>cond (Nat.beq c 0) Qd (q8 e c)
def sub_eq:q8=qA4:=by
 funext e c;cases c with
 |zero=>exact q0k e
 |succ c=>rfl
def Xu{x d:R D}{s:Nat->Nat->Bool}{l:List S}(i:Nat)(e:Ev.run G s n l as=Ev.run (AQ G i x) s n l as)(h:x=z)(f:Ev.run (AQ G i z) s n l as=d):Ev.run G s n l as=d:=by subst h;exact e.trans f
def Ao{x d:R D}{l:List S}(i:Nat)(e:Ev.run G q8 n l as=Ev.run (AQ G i x) q8 n l as)(h:x=z)(f:Ev.run (AQ G i z) q8 n l as=d):Ev.run G q8 n l as=d:=by subst h;exact e.trans f
def q2k(h:G 10 [r]=.err c):Ev.run G q8 1 R9 [r]=.err c:=by simp[Ev.run,R9,h]
end
def q87(G:Nat->List D->R D):Ev.run G q8 2 PV [.exc 1]=.ok (.str (YC "rules")):=by kernel_rfl
def bL:D:=.str (YC "rules")
def lL(k:Nat):Gm (k+1) 32 [.exc 1]=.ok bL:=(zd k 32 [.exc 1] 1 2 PV rfl rfl).trans (q87 _)
section
variable{ws:List Wn}
def kc(h:zg G q8 xs Z=.ok ds)(hl:ds.length<=1000):ev G q8 (.qA xs) Z=.ok (.qA ds):=by rw[Le,h,qB,if_pos (by rw[zt];lia)]
def xB(h:zg G q8 xs Z=.ok ds)(hl:ds.length<=1000):ev G q8 (.q6 xs) Z=.ok (.q6 ds):=by rw[D9,h,qB,if_pos (by rw[zt];lia)]
def jw{a b:L}{x y:D}(h1:ev G q8 a Z=.ok x)(h2:ev G q8 b Z=.ok y):zg G q8 [a,b] Z=.ok [x,y]:=by rw[kJ,h1,qB,kJ,h2,qB,jW];rfl
def zN{a:L}{x:D}(h1:ev G q8 a Z=.ok x):zg G q8 [a] Z=.ok [x]:=by rw[kJ,h1,qB,jW];rfl
def FZ(r:D):Prop:=∃(c:Int)(vs:List Wy),r=xW c vs/\vs.length<=1300/\¬((0<=c/\c<=10)/\vs.all (vA c)=Qd/\T5 vs)
def dP(h:FZ r)(k:Nat):Gm (k+4) 10 [r]=.err 1:=by refine qL h λc vs zz hl hb=>?_;subst zz;rw[Lz k c vs hl,if_neg hb]
def q1Z{w:Wy}{c:Int}(hl:vs.length<=1300)(hw:w∈vs)(hb:vA c w=Qh):FZ (xW c vs):=
 ⟨c,vs,rfl,hl,λh=>by rw[Qq.mp h.2.1 w hw]at hb;cases hb⟩
def pO{v:Wy}:qU (qd v) (qd v)=Qh:=C6 (XZ v)
def q5z{v w:Wy}(h:qU (qd v) (qd w)=Qd):qU (qd w) (qd v)=Qh:=by
 cases q:qU (qd w) (qd v)with
 |false=>rfl
 |true=>have:=C7 (XZ v) (XZ w) (XZ v) h q;rw[pO]at this;cases this
end
section
variable{ws:List Wn}
def q80(zs:List Int)(i:Nat):∃c:Int,Ev.run G q8 2 PU [.q6 (iL zs),nI i]=.ok (.int c):=by
 cases zs with
 |nil=>exact⟨0,by simp[Ev.run,PU]⟩
 |cons z zs=>
  have hl:0<(z::zs).length:=by simp
  have qj:=UQ i hl;have h1:zD .mod (nI i) (nI (z::zs).length)=.ok (nI (i %(z::zs).length)):=CB _ _ hl;generalize hA:i %(z::zs).length=A at h1 qj;refine⟨(z::zs)[A],?_⟩;have h2:jo (.q6 (iL (z::zs))) (nI A)=.ok (.int ((z::zs)[A])):=RD _ _ _ (by unfold iL;rw[QJ,Qv qj];rfl)
  have t:qz G q8 (.e qC) [wv (.q6 (iL (z::zs))),wv (nI i)]=.ok Qd:=rfl;refine jt (Z:=[wv (.q6 (iL (z::zs))),wv (nI i)]) (ρ':=[wv (.q6 (iL (z::zs))),wv (nI i)]) rfl ?_;rw[PU];refine jX ?_;rw[wJ,t,qF,if_pos rfl];refine jX ?_;have h3:zB q8 .len [.q6 (iL (z::zs))]=.ok (nI (z::zs).length):=by rw[Ik,q4Z]
  rw[kL,xn,jf,zT,jf,jA,kJ,jf,jW];show(((R.ok (D.q6 (iL (z::zs)))).bind λx=>((R.ok (nI i)).bind λx=>((((R.ok (D.q6 (iL (z::zs)))).bind λx=>(R.ok ([]:List D)).bind λxs=>R.ok (x::xs)).bind λds=>zB q8 .len ds).bind λy=>zD .mod x y)).bind λy=>jo x y).go _ _)=_;simp only[qB];rw[h3,qB,h1,qB,h2,qF]
def IY(a b:Int):zD .add (.int a) (.int b)=.ok (.int (a+b)):=rfl
def rO(a b:Int)(h:-(2^62)<a/\a<2^62):zD .mul (.int a) (.int b)=.ok (.int (a*b)):=by unfold zD;exact if_pos (.inl h)
def mul_r(a b:Int)(h:-(2^62)<b/\b<2^62):zD .mul (.int a) (.int b)=.ok (.int (a*b)):=by unfold zD;exact if_pos (.inr h)
def aS(a b:Int)(h:0<b):∃N:Nat,zD .mod (.int a) (.int b)=.ok (.int N):=⟨(a %b).toNat,by have:=Int.emod_nonneg a (Int.ne_of_gt h);unfold zD;dsimp only[intD,jh];rw[if_pos h];congr 2;lia⟩
def q3M(a b:Int)(h:0<b/\b<1073741824):zD .fdiv (.int a) (.int b)=.ok (.int (a/b)):=by unfold zD;exact if_pos h
def q85(s:D)(i:Nat)(hc:∃c:Int,G 25 [s,nI i]=.ok (.int c)):∃N:Nat,Ev.run G q8 3 Dq [s,nI i]=.ok (nI N):=by
 obtain⟨c,hc⟩:=hc;obtain⟨N1,e1⟩:=aS (c+104729*((i:Int)+1)) 4294967291 (by decide);obtain⟨N2,e2⟩:=aS ((N1:Int)*48271) 4294967279 (by decide);obtain⟨N3,e3⟩:=aS ((N2:Int)/64*69621+N2) 4294967231 (by decide);refine⟨N3,?_⟩;have a1:ev G q8 (.op .mod (.op .add (.call 25 [qC,qG]) (.op .mul (kZ 104729) (.op .add qG (kZ 1)))) (kZ 4294967291)) [wv s,wv (nI i),Qg]=.ok (nI N1):=by have v0:jG [wv s,wv (nI i),Qg] 0=.ok s:=rfl;have v1:jG [wv s,wv (nI i),Qg] 1=.ok (nI i):=rfl;rw[zT,zT,vC,jw (by rw[jf,v0]) (by rw[jf,v1]),qB,hc,qB,zT,zf,qB,zT,jf,v1,qB,zf,qB,nI,IY,qB,rO _ _ (by decide),qB,IY,qB,zf,qB,e1];rfl
 have a2:ev G q8 (.op .mod (.op .mul qO (kZ 48271)) (kZ 4294967279)) [wv s,wv (nI i),wv (nI N1)]=.ok (nI N2):=by have v2:jG [wv s,wv (nI i),wv (nI N1)] 2=.ok (.int N1):=rfl;rw[zT,zT,jf,v2,qB,zf,qB,mul_r _ _ (by decide),qB,zf,qB,e2];rfl
 have a3:ev G q8 (.op .mod (.op .add (.op .mul (.op .fdiv qO (kZ 64)) (kZ 69621)) qO) (kZ 4294967231)) [wv s,wv (nI i),wv (nI N2)]=.ok (nI N3):=by have v2:jG [wv s,wv (nI i),wv (nI N2)] 2=.ok (.int N2):=rfl;rw[zT,zT,zT,zT,jf,v2,qB,zf,qB,q3M _ _ (by decide),qB,zf,qB,mul_r _ _ (by decide),qB,qB,IY,qB,zf,qB,e3];rfl
 refine jt (Z:=[wv s,wv (nI i),Qg]) (ρ':=[wv s,wv (nI i),wv (nI N2)]) rfl ?_;rw[Dq,qg (ρ':=[wv s,wv (nI i),wv (nI N1)]) (by rw[zh,a1,qF];rfl),qg (ρ':=[wv s,wv (nI i),wv (nI N2)]) (by rw[zh,a2,qF];rfl)];exact jX (by rw[kL,a3,qF])
def sub_sub(o:List Nat)(p:Nat->Bool):(((Qt o.length).filter p).map λj=>o.getD j 0).Sublist o:=by
 have h:(Qt o.length).map (λj=>o.getD j 0)=o:=by refine WT (by simp) λi h1 h2=>?_;simp at h1;simp[JH,h1]
 have:=(List.filter_sublist (p:=p) (l:=Qt o.length)).map λj=>o.getD j 0
 rwa [h]at this
def q8G(s:D)(i:Nat)(o:List Nat)(ho:o.length<=7)(hm:∃N:Nat,G 26 [s,nI i]=.ok (nI N)):∃l:List Nat,l.Sublist o/\Ev.run G q8 4 GZ [s,nI i,.q6 (nL o)]=.ok (.qA (nL l)):=by
 obtain⟨N,hm⟩:=hm;have a1:ev G q8 (.op .fdiv (.call 26 [qC,qG]) (kZ 8)) [wv s,wv (nI i),wv (.q6 (nL o)),Qg]=.ok (nI (N/8)):=by have:zD .fdiv (nI N) (.int 8)=.ok (nI (N/8)):=Lm N 8 (by decide) (by decide);rw[zT,vC,jw (G:=G) (x:=s) (y:=nI i) rfl rfl,qB,hm,qB,zf,qB,this]
 generalize N/8=M at a1;have pw:∀j,j<7->∀Z:Ev.Env,Z[0]?=Qa (wv (nI j))->∃P:Nat,0<P/\P<1073741824/\ev G q8 (.idx (.q6 Xf) qC) Z=.ok (nI P):=λj hj Z hρ=>by
  have h1:ev G q8 (.q6 Xf) Z=.ok (.q6 (nL [1,2,4,8,16,32,64])):=xB rfl (by simp);have h2:ev G q8 qC Z=.ok (nI j):=by rw[jf,jG,hρ]
  have h3:∃P:Nat,0<P/\P<1073741824/\[1,2,4,8,16,32,64][j]?=Qa P:=by
   match j,hj with
   |0,_=>exact⟨1,by decide,by decide,rfl⟩
   |1,_=>exact⟨2,by decide,by decide,rfl⟩
   |2,_=>exact⟨4,by decide,by decide,rfl⟩
   |3,_=>exact⟨8,by decide,by decide,rfl⟩
   |4,_=>exact⟨16,by decide,by decide,rfl⟩
   |5,_=>exact⟨32,by decide,by decide,rfl⟩
   |6,_=>exact⟨64,by decide,by decide,rfl⟩
  refine qV h3 λP p1 p2 p3=>?_;refine⟨P,p1,p2,?_⟩;rw[xn,h1,qB,h2,qB];exact RD _ _ _ (by unfold nL;rw[QJ,p3];rfl)
 have hp:∀j,j<7->∃b:Bool,kF G q8 [(.e (.cm .eq (.op .mod (.op .fdiv qS (.idx (.q6 Xf) qC)) (kZ 2)) (kZ 1)))] [wv (nI j),wv s,wv (nI i),wv (.q6 (nL o)),wv (nI M)]=.ok b:=λj hj=>by refine qV (pw j hj [wv (nI j),wv s,wv (nI i),wv (.q6 (nL o)),wv (nI M)] rfl) λP p1 p2 p3=>?_;have h4:ev G q8 qS [wv (nI j),wv s,wv (nI i),wv (.q6 (nL o)),wv (nI M)]=.ok (nI M):=rfl;have h5:zD .mod (nI (M/P)) (.int 2)=.ok (nI (M/P %2)):=CB _ 2 (by decide);have h6:qc .eq (nI (M/P %2)) (.int 1)=.ok (.bl (decide (M/P %2=1))):=iD _ 1;refine⟨decide (M/P %2=1),?_⟩;rw[Cr,uL,Rt,zT,zT,h4,qB,p3,qB,Lm M P p1 p2,qB,zf,qB,h5,qB,zf,qB,h6,qB,Cq,qB,Cs];cases decide (M/P %2=1)<;>rfl
 have Tw:∃p:Nat->Bool,∀j,j<7->kF G q8 [(.e (.cm .eq (.op .mod (.op .fdiv qS (.idx (.q6 Xf) qC)) (kZ 2)) (kZ 1)))] [wv (nI j),wv s,wv (nI i),wv (.q6 (nL o)),wv (nI M)]=.ok (p j):=by refine⟨λj=>if h:j<7 then(hp j h).choose else Qh,λj hj=>?_⟩;simp only[hj,dif_pos];exact(hp j hj).choose_spec
 obtain⟨p,hp3⟩:=Tw;refine⟨_,sub_sub o p,?_⟩;have a2:jv (ev G q8 (.idx qp qC)) (kF G q8 [(.e (.cm .eq (.op .mod (.op .fdiv qS (.idx (.q6 Xf) qC)) (kZ 2)) (kZ 1)))]) 0 [wv s,wv (nI i),wv (.q6 (nL o)),wv (nI M)] ((Qt o.length).map nI)=.ok (((Qt o.length).filter p).map λj=>nI (o.getD j 0)):=
  TB (us:=λj=>[nI j]) λj hj=>by have mF:=QN.mp hj;refine⟨rfl,hp3 j ∅,λ_=>?_⟩;have h1:jo (.q6 (nL o)) (nI j)=.ok (nI (o.getD j 0)):=RD _ _ _ (by unfold nL;rw[QJ,Qv mF];simp[JH,mF]);exact h1
 have b1:(((Qt o.length).filter p).map λj=>nI (o.getD j 0)).length<=big:=by rw[Qm,zt];refine Qx (QS _ _) ?_;rw[Q1];lia
 have a3:j8 G q8 (.rng [(.bi .len [qO])]) [wv s,wv (nI i),wv (.q6 (nL o)),wv (nI M)]=.ok ((Qt o.length).map nI):=by
  have h1:zg G q8 [(.bi .len [qO])] [wv s,wv (nI i),wv (.q6 (nL o)),wv (nI M)]=.ok [nI o.length]:=zN (by have:zB q8 .len [.q6 (nL o)]=.ok (nI o.length):=(by rw[Ik,uG]);rw[jA,zN (G:=G) (x:=.q6 (nL o)) rfl,qB,this])
  rw[wI,h1,qB,uH _ ∅];rfl
 have a4:ev G q8 (.comp 0 (.idx qp qC) (.rng [(.bi .len [qO])]) [(.e (.cm .eq (.op .mod (.op .fdiv qS (.idx (.q6 Xf) qC)) (kZ 2)) (kZ 1)))]) [wv s,wv (nI i),wv (.q6 (nL o)),wv (nI M)]=.ok (.q6 (nL (((Qt o.length).filter p).map λj=>o.getD j 0))):=by rw[xA,a3,qB,a2,vw,qB,if_pos b1];unfold nL;rw[J0];rfl
 refine jt (Z:=[wv s,wv (nI i),wv (.q6 (nL o)),Qg]) (ρ':=[wv s,wv (nI i),wv (.q6 (nL o)),wv (nI M)]) rfl ?_;show qN G q8 [.set 3 (.op .fdiv (.call 26 [qC,qG]) (kZ 8)),.ret (.bi .tuple [(.comp 0 (.idx qp qC) (.rng [(.bi .len [qO])]) [(.e (.cm .eq (.op .mod (.op .fdiv qS (.idx (.q6 Xf) qC)) (kZ 2)) (kZ 1)))])])] _=_;rw[qg (ρ':=[wv s,wv (nI i),wv (.q6 (nL o)),wv (nI M)]) (by rw[zh,a1,qF];rfl)];exact jX (by rw[kL,jA,zN a4,qB,EG,qF])
end
section
variable{ws:List Wn}
def q6I(a b:Nat)(h:a<2^62):zD .mul (nI a) (nI b)=.ok (nI (a*b)):=by unfold nI;rw[rO _ _ ∅];congr 2
def GoodW(n:Nat)(w:Wn):Prop:=w.1<n/\jV n w.2/\w.1∉w.2
structure Draw(G:Nat->List D->R D)(s:D):Prop where
 mix:∀i:Nat,∃N:Nat,G 26 [s,nI i]=.ok (nI N)
 sub:∀(i:Nat)(o:List Nat),o.length<=7->∃l:List Nat,l.Sublist o/\G 27 [s,nI i,.q6 (nL o)]=.ok (.qA (nL l))
def zG(K M:Nat)(s:D)(n:Nat)(acc:List Wn)(t:Nat)(o:List Nat)(x y:Option Sl):Ev.Env:=
 [wv s,wv (nI K),wv (nI M),wv (nI n),Qa (.own (.q6 (acc.map wD))),wv (nI t),wv (.q6 (nL o)),x,y]
def Ld{o:List Nat}(c:Nat):ev G q8 (yj c) (zG K M s n acc t o (wv (nI j)) y)=.ok (nI (K+c+4*t+j)):=by have h1:zD .mul (.int 4) (nI t)=.ok (nI (4*t)):=q6I 4 t (by decide);have h2:zD .add (nI K) (.int c)=.ok (nI (K+c)):=add_n K c;have v1:jG (zG K M s n acc t o (wv (nI j)) y) 1=.ok (nI K):=rfl;have v5:jG (zG K M s n acc t o (wv (nI j)) y) 5=.ok (nI t):=rfl;have v7:jG (zG K M s n acc t o (wv (nI j)) y) 7=.ok (nI j):=rfl;rw[yj,zT,zT,zT,jf,v1,qB,zf,qB,h2,qB,zT,zf,qB,jf,v5,qB,h1,qB,add_n,qB,jf,v7,qB,add_n]
def kY{a b:L}{x y:D}(h1:ev G q8 a Z=.ok x)(h2:ev G q8 b Z=.ok y)(h:G f [x,y]=.ok d):ev G q8 (.call f [a,b]) Z=.ok d:=by rw[vC,jw h1 h2,qB,h]
def DA{a:L}(hc:0<c)(h:ev G q8 a Z=.ok (nI N)):ev G q8 (.op .mod a (.qh (.int c))) Z=.ok (nI (N %c)):=by rw[zT,h,qB,zf,qB];exact CB N c hc
def q0r{a:L}(h:ev G q8 a Z=.ok (nI N)):qz G q8 (.e (.cm .gt a (kZ 0))) Z=.ok (decide (0<N)):=by rw[uL,Rt,h,qB,zf,qB,sH,q48,qB,Cq]
def q7s(d:Draw G s){o:List Nat}{acc:List Wn}(ho:o.length<=7)(PB:∀l:List Nat,l.Sublist o->GoodW n (t,l))(hl:acc.length<1000):
  ∃(w:Wn)(y':Option Sl),GoodW n w/\qN G q8 Dy (zG K M s n acc t o (wv (nI j)) y)=.ok (zG K M s n (acc++[w]) t o (wv (nI j)) y') .nx:=by
 obtain⟨l,Tt,e23⟩:=d.sub (K+10+4*t+j) o ho;obtain⟨N1,m1⟩:=d.mix (K+40+4*t+j);obtain⟨N2,m2⟩:=d.mix (K+41+4*t+j);obtain⟨N3,m3⟩:=d.mix (K+70+t);have e1:ex G q8 Sn (zG K M s n acc t o (wv (nI j)) y)=.ok (zG K M s n acc t o (wv (nI j)) (wv (.qA (nL l)))) .nx:=by
  have h3:zg G q8 [qC,yj 10,jL] (zG K M s n acc t o (wv (nI j)) y)=.ok [s,nI (K+10+4*t+j),.q6 (nL o)]:=by have v0:ev G q8 qC (zG K M s n acc t o (wv (nI j)) y)=.ok s:=rfl;rw[kJ,v0,qB,kJ];rw[show yj 10=yj ((10:Nat):Int) from rfl,(Ld (K:=K) (M:=M) (G:=G) (n:=n) 10 (s:=s) (acc:=acc) (t:=t) (j:=j) (o:=o) (y:=y)),qB,zN rfl];rfl
  rw[Sn,zh,vC,h3,qB,e23,qF];rfl
 have e2:∃l2:List Nat,l2.Sublist o/\ex G q8 Gq (zG K M s n acc t o (wv (nI j)) (wv (.qA (nL l))))=.ok (zG K M s n acc t o (wv (nI j)) (wv (.qA (nL l2)))) .nx:=by
  have v0:ev G q8 qC (zG K M s n acc t o (wv (nI j)) (wv (.qA (nL l))))=.ok s:=rfl;have t1:=q0r (DA (c:=3) (by decide) (kY v0 (Ld (K:=K) (M:=M) (G:=G) (n:=n) 40 (s:=s) (acc:=acc) (t:=t) (j:=j) (o:=o) (y:=wv (.qA (nL l)))) m1))
  by_cases q:0<N1 %3
  .rw[decide_eq_true q]at t1;refine⟨l.take (1+N2 %2),(Wz _ _).trans Tt,?_⟩;have c2:ev G q8 (.op .add (kZ 1) (.op .mod (.call 26 [qC,yj 41]) (kZ 2))) (zG K M s n acc t o (wv (nI j)) (wv (.qA (nL l))))=.ok (nI (1+N2 %2)):=by rw[zT,zf,qB];refine(congrArg (λz:R D=>z.bind λy=>zD .add (.int 1) y) (DA (c:=2) (by decide) (kY v0 (Ld (K:=K) (M:=M) (G:=G) (n:=n) 41 (s:=s) (acc:=acc) (t:=t) (j:=j) (o:=o) (y:=wv (.qA (nL l)))) m2))).trans ?_;exact add_n 1 _
   have v8:ev G q8 (.zP 8) (zG K M s n acc t o (wv (nI j)) (wv (.qA (nL l))))=.ok (.qA (nL l)):=rfl;have a6:xU [nI (1+N2 %2)]=.ok (Qa ((1+N2 %2:Nat):Int)):=rfl;have a8:xU []=.ok Qg:=rfl;have a4:yo 0 Qg (Qa ((1+N2 %2:Nat):Int)) (.qA (nL l))=.ok (.qA (nL (l.take (1+N2 %2)))):=by
    generalize 1+N2 %2=A;have:¬((A:Int)<0):=∅;simp only[yo,jM,yX,if_true,if_neg this,Int.toNat_natCast,List.drop_zero,Nat.sub_zero];congr 2;unfold nL;rw[Ys,Qm];rcases Nat.le_total A l.length with h|h
    .rw[Nat.min_eq_left h]
    .rw[Nat.min_eq_right h,JO (by simp),JO (by simp;lia)]
   have c3:ev G q8 (.sl 0 (.zP 8) [] [(.op .add (kZ 1) (.op .mod (.call 26 [qC,yj 41]) (kZ 2)))]) (zG K M s n acc t o (wv (nI j)) (wv (.qA (nL l))))=.ok (.qA (nL (l.take (1+N2 %2)))):=by rw[TR,v8,qB,jW,qB,zN c2,qB,a8,qB,a6,qB,a4]
   have RY:qz G q8 (.e (.cm .gt (.op .mod (.call 26 [qC,yj 40]) (kZ 3)) (kZ 0))) (zG K M s n acc t o (wv (nI j)) (wv (.qA (nL l))))=.ok Qd:=t1;rw[Gq,wJ,RY,qF,if_pos rfl,qg (ρ':=zG K M s n acc t o (wv (nI j)) (wv (.qA (nL (l.take (1+N2 %2)))))) (by rw[zh,c3,qF];rfl),za]
  .rw[decide_eq_false q]at t1;have RY:qz G q8 (.e (.cm .gt (.op .mod (.call 26 [qC,yj 40]) (kZ 3)) (kZ 0))) (zG K M s n acc t o (wv (nI j)) (wv (.qA (nL l))))=.ok Qh:=t1;exact⟨l,Tt,by rw[Gq,wJ,RY,qF,if_neg (by simp),za]⟩
 refine qR e2 λl2 vk e2=>?_;have e3:∃l3:List Nat,l3.Sublist o/\ex G q8 So (zG K M s n acc t o (wv (nI j)) (wv (.qA (nL l2))))=.ok (zG K M s n (acc++[(t,l3)]) t o (wv (nI j)) (wv (.qA (nL l2)))) .nx:=by
  have v0:ev G q8 qC (zG K M s n acc t o (wv (nI j)) (wv (.qA (nL l2))))=.ok s:=rfl;have v5:ev G q8 zV (zG K M s n acc t o (wv (nI j)) (wv (.qA (nL l2))))=.ok (nI t):=rfl;have v1:ev G q8 qG (zG K M s n acc t o (wv (nI j)) (wv (.qA (nL l2))))=.ok (nI K):=rfl;have v8:ev G q8 (.zP 8) (zG K M s n acc t o (wv (nI j)) (wv (.qA (nL l2))))=.ok (.qA (nL l2)):=rfl;have k70:ev G q8 (.op .add (.op .add qG (kZ 70)) zV) (zG K M s n acc t o (wv (nI j)) (wv (.qA (nL l2))))=.ok (nI (K+70+t)):=by have h2:zD .add (nI K) (.int 70)=.ok (nI (K+70)):=add_n K 70;rw[zT,zT,v1,qB,zf,qB,h2,qB,v5,qB,add_n]
  have t1:=q0r (DA (c:=4) (by decide) (kY v0 k70 m3));have key:∃l3:List Nat,l3.Sublist o/\ev G q8 (.ite (.e (.cm .gt (.op .mod (.call 26 [qC,(.op .add (.op .add qG (kZ 70)) zV)]) (kZ 4)) (kZ 0))) (.zP 8) (.qA [])) (zG K M s n acc t o (wv (nI j)) (wv (.qA (nL l2))))=.ok (.qA (nL l3)):=by
   by_cases q:0<N3 %4
   .rw[decide_eq_true q]at t1;have RY:qz G q8 (.e (.cm .gt (.op .mod (.call 26 [qC,(.op .add (.op .add qG (kZ 70)) zV)]) (kZ 4)) (kZ 0))) (zG K M s n acc t o (wv (nI j)) (wv (.qA (nL l2))))=.ok Qd:=t1;exact⟨l2,vk,by rw[D8,RY,qB,if_pos rfl,v8]⟩
   .rw[decide_eq_false q]at t1;have RY:qz G q8 (.e (.cm .gt (.op .mod (.call 26 [qC,(.op .add (.op .add qG (kZ 70)) zV)]) (kZ 4)) (kZ 0))) (zG K M s n acc t o (wv (nI j)) (wv (.qA (nL l2))))=.ok Qh:=t1;exact⟨[],List.nil_sublist _,by rw[D8,RY,qB,if_neg (by simp)];exact kc (jW _) (by simp)⟩
  refine qR key λl3 OP key=>?_;refine⟨l3,OP,?_⟩;rw[So,Ru];show(ev G q8 _ _).go _ _=_;rw[kc (jw v5 key) (by simp),qF];show(if(acc.map wD).length<big then _ else _)=_;rw[if_pos (by rw[Qm,zt];lia)];unfold zG;rw[JA];rfl
 obtain⟨l3,OP,e3⟩:=e3;exact⟨(t,l3),_,PB l3 OP,by rw[Dy,qg e1,qg e2,qg e3,za]⟩
theorem tZ{s:D}{t:Nat}{o:List Nat}(d:Draw G s)(ho:o.length<=7)(PB:∀l:List Nat,l.Sublist o->GoodW n (t,l)):∀(js:List Nat)(acc:List Wn)(x y:Option Sl),acc.length+js.length<=1000->
  ∃(vs:List Wn)(x' y':Option Sl),(∀w∈vs,GoodW n w)/\vs.length=js.length/\zb (qN G q8 Dy) 0 [7] (nL js) (zG K M s n acc t o x y)=.ok (zG K M s n (acc++vs) t o x' y') .nx
 |[],acc,x,y,_=>⟨[],x,y,by simp,rfl,by simp[TX]⟩
 |j::js,acc,x,y,hl=>by simp at hl;obtain⟨w,y1,hw,e1⟩:=q7s d (j:=j) (y:=y) ho PB (acc:=acc) ∅;obtain⟨vs,x2,y2,hv,PD,e2⟩:=tZ d ho PB js (acc++[w]) (wv (nI j)) y1 (by simp;lia);refine⟨w::vs,x2,y2,Y4.mpr ⟨hw,hv⟩,by simp[PD],?_⟩;rw[yI,jx];have:YM (zG K M s n acc t o x y) 7 (wv (nI j))=zG K M s n acc t o (wv (nI j)) y:=rfl;rw[this,e1,v9,e2];simp
def vH(K M:Nat)(s:D)(n:Nat)(acc:List Wn)(t:Option Sl)(o x y:Option Sl):Ev.Env:=
 [wv s,wv (nI K),wv (nI M),wv (nI n),Qa (.own (.q6 (acc.map wD))),t,o,x,y]
def q7t{o x:Option Sl}(d:Draw G s)(hn:n<=5)(ht:t<n)(hl:acc.length+3<=1000):
  ∃(vs:List Wn)(o' x' y':Option Sl),(∀w∈vs,GoodW n w)/\vs.length<=3/\qN G q8 Pf (vH K M s n acc (wv (nI t)) o x y)=.ok (vH K M s n (acc++vs) (wv (nI t)) o' x' y') .nx:=by
 generalize ho:(Qt n).filter (λe=>!decide (e=t))=os;have DU:os.length<=7:=by rw[<-ho];refine Qx (QS _ _) ?_;rw[Q1];lia
 have PB:∀l:List Nat,l.Sublist os->GoodW n (t,l):=λl h=>by
  have hm:∀x∈l,x<n/\¬x=t:=λx hx=>by have:=h.subset hx;rw[<-ho]at this;simpa using this
  refine⟨ht,⟨?_,λx hx=>(hm x hx).1⟩,λh=>(hm t h).2 rfl⟩;refine J7 h ?_;rw[<-ho];exact Ye _ Jo
 have e1:ex G q8 (.set 6 Sq) (vH K M s n acc (wv (nI t)) o x y)=.ok (zG K M s n acc t os x y) .nx:=by
  have a1:=EX (elt:=ev G q8 qC) (cond:=kF G q8 [(.e (.cm .ne qC jL))]) (Z:=vH K M s n acc (wv (nI t)) o x y) (p:=λe=>!decide (e=t)) (l:=Qt n)
   (λa _=>by have v0:ev G q8 qC (wv (nI a)::vH K M s n acc (wv (nI t)) o x y)=.ok (nI a):=rfl;have v6:ev G q8 jL (wv (nI a)::vH K M s n acc (wv (nI t)) o x y)=.ok (nI t):=rfl;rw[Cr,uL,Rt,v0,qB,v6,qB,q6K,qB,Cq,qB,Cs];cases !decide (a=t)<;>rfl) (λa _=>rfl)
  have a2:j8 G q8 (.rng [qp]) (vH K M s n acc (wv (nI t)) o x y)=.ok (nL (Qt n)):=by rw[wI,zN rfl,qB,uH n ∅]
  have b1:(nL os).length<=big:=by rw[uG,zt];lia
  rw[ho]at a1;rw[Sq,zh,xA,a2,qB,a1,vw,qB,if_pos b1,qF];rfl
 obtain⟨N,m⟩:=d.mix (K+1+t);have e2:∃c:Nat,c<=3/\ev G q8 Gr (zG K M s n acc t os x y)=.ok (nI c):=by
  have v0:ev G q8 qC (zG K M s n acc t os x y)=.ok s:=rfl;have v5:ev G q8 zV (zG K M s n acc t os x y)=.ok (nI t):=rfl;have v1:ev G q8 qG (zG K M s n acc t os x y)=.ok (nI K):=rfl;have k1:ev G q8 (.op .add (.op .add qG (kZ 1)) zV) (zG K M s n acc t os x y)=.ok (nI (K+1+t)):=by have h2:zD .add (nI K) (.int 1)=.ok (nI (K+1)):=add_n K 1;rw[zT,zT,v1,qB,zf,qB,h2,qB,v5,qB,add_n]
  have c1:=DA (c:=6) (by decide) (kY v0 k1 m);have h1:ev G q8 (.q6 [(kZ 1),(kZ 1),(kZ 2),(kZ 2),(kZ 3),(kZ 0)]) (zG K M s n acc t os x y)=.ok (.q6 (nL [1,1,2,2,3,0])):=xB rfl (by simp);have h3:∃P:Nat,P<=3/\[1,1,2,2,3,0][N %6]?=Qa P:=by
   have h6:N %6<6:=UQ _ (by decide)
   match N %6,h6 with
   |0,_=>exact⟨1,by decide,rfl⟩
   |1,_=>exact⟨1,by decide,rfl⟩
   |2,_=>exact⟨2,by decide,rfl⟩
   |3,_=>exact⟨2,by decide,rfl⟩
   |4,_=>exact⟨3,by decide,rfl⟩
   |5,_=>exact⟨0,by decide,rfl⟩
  obtain⟨P,p1,p3⟩:=h3;refine⟨P,p1,?_⟩;rw[Gr,xn,h1,qB];refine(congrArg (λz:R D=>z.bind λy=>jo (.q6 (nL [1,1,2,2,3,0])) y) c1).trans ?_;exact RD _ _ _ (by unfold nL;rw[QJ,p3];rfl)
 refine qR e2 λc hc e2=>?_;obtain⟨vs,x2,y2,hv,PD,e3⟩:=tZ d DU PB (Qt c) acc x y (by rw[Q1];lia);refine⟨vs,wv (.q6 (nL os)),x2,y2,hv,by rw[PD,Q1];lia,?_⟩;have e4:ex G q8 (.qw 0 [7] (.rng [Gr]) Dy) (zG K M s n acc t os x y)=.ok (zG K M s n (acc++vs) t os x2 y2) .nx:=by rw[vD,wI,zN e2,qB,uH c ∅,qF,e3]
 rw[Pf,qg e1,qg e4,za];rfl
theorem tj{s:D}(d:Draw G s)(hn:n<=5):∀(ts:List Nat)(acc:List Wn)(t o x y:Option Sl),(∀u∈ts,u<n)->acc.length+3*ts.length<=1000->
  ∃(vs:List Wn)(t' o' x' y':Option Sl),(∀w∈vs,GoodW n w)/\vs.length<=3*ts.length/\zb (qN G q8 Pf) 0 [5] (nL ts) (vH K M s n acc t o x y)=.ok (vH K M s n (acc++vs) t' o' x' y') .nx
 |[],acc,t,o,x,y,_,_=>⟨[],t,o,x,y,by simp,by simp,by simp[TX]⟩
 |u::ts,acc,t,o,x,y,hu,hl=>by
  simp at hl;obtain⟨vs,o1,x1,y1,hv,PD,e1⟩:=q7t d hn (hu u Qe) (acc:=acc) (o:=o) (x:=x) (y:=y) ∅;obtain⟨yS,t2,o2,x2,y2,PC,hvl2,e2⟩:=tj d hn ts (acc++vs) (wv (nI u)) o1 x1 y1 (λv hv=>hu v (Qc _ hv)) (by simp;lia);refine⟨vs++yS,t2,o2,x2,y2,λw hw=>?_,by simp;lia,?_⟩
  .rcases QA.mp hw with h|h
   .exact hv w h
   .exact PC w h
  .rw[yI,jx];have:YM (vH K M s n acc t o x y) 5 (wv (nI u))=vH K M s n acc (wv (nI u)) o x y:=rfl;rw[this,e1,v9,e2,Jg]
end
section
variable{ws:List Wn}
theorem Eb:∀{l:List D}{d:D},d∈dedup l->d∈l
 |[],_,h=>h
 |x::l,d,h=>by
  rw[dedup]at h;split at h
  .exact Qc _ (Eb h)
  .rcases Qo.mp h with rfl|h
   .exact Qe
   .exact Qc _ (Eb h)
theorem LG:∀{l:List D},(dedup l).Pairwise λa b=>qD a b=Qh
 |[]=>Jt
 |x::l=>by
  rw[dedup];split
  .exact LG
  .rename_i h;refine QX.mpr ⟨λd hd=>?_,LG⟩;cases q:qD x d with
   |false=>rfl
   |true=>exact absurd (Jc.mpr ⟨d,Eb hd,q⟩) h
theorem LF:∀l:List D,(dedup l).length<=l.length
 |[]=>Qs _
 |x::l=>by
  have:=LF l;rw[dedup];split
  .simp;lia
  .simp;lia
def xK(w:Wn):qH (wD w)=Qd:=by rw[<-yT];exact XZ _
theorem oq{n:Nat}:∀{l:List D},(∀d∈l,∃w,GoodW n w/\d=wD w)->∃ws:List Wn,(∀w∈ws,GoodW n w)/\l=ws.map wD
 |[],_=>⟨[],by simp,rfl⟩
 |d::l,h=>by obtain⟨w,hw,rfl⟩:=h d Qe;obtain⟨ws,Oo,rfl⟩:=oq λe he=>h e (Qc _ he);exact⟨w::ws,Y4.mpr ⟨hw,Oo⟩,rfl⟩
theorem tB{α:Type}{R:α->α->Prop}:∀{l:List α},l.Pairwise R->∀(p:Nat)(a b:α),l[p]?=Qa a->l[p+1]?=Qa b->R a b
 |[],_,p,a,b,h,_=>by simp at h
 |x::l,h,0,a,b,h1,h2=>by obtain⟨h3,_⟩:=QX.mp h;simp at h1;subst h1;rw[Z8]at h2;exact h3 b (Qz h2)
 |x::l,h,p+1,a,b,h1,h2=>by obtain⟨_,h4⟩:=QX.mp h;rw[Z8]at h1 h2;exact tB h4 p a b h1 h2
def Cz{v w:Wn}(h:wD v=wD w):v=w:=by have h1:=D.qA.inj h;rw[Vl,Vl]at h1;exact Prod.ext ((aV _ _).mp h1.1) (aX.mp (D.qA.inj h1.2.1))
def Up(ws:List Wn):Prop:=(ws.map wD).Pairwise λa b=>qU a b=Qd
def q12(hn:n<=5)(hl:ws.length<=60)(h:∀w∈ws,GoodW n w)(u:Up ws):Good n ws:=
 ⟨hn,hl,λw hw=>E0.mpr (h w hw),λp xH v w h1 h2=>tB u p (qd v) (qd w) (by rw[<-aG,QJ,h1];rfl) (by rw[<-aG,QJ,h2];rfl)⟩
def q0h(hn:n<=5){dd:List D}(XN:∀d∈dd,∃w,GoodW n w/\d=wD w)(XY:dd.Pairwise λa b=>qD a b=Qh)(qT:dd.length<=60):∃ws:List Wn,Good n ws/\Up ws/\jP dd=ws.map wD/\ji dd=Qd:=by
 have hp:=kN dd;have P8:∀d∈dd,qH d=Qd:=λd hx=>by obtain⟨w,_,rfl⟩:=XN d hx;exact xK w
 have z8:∀a∈dd,∀b∈dd,zC a b=Qd:=λa ha b hb=>by obtain⟨v,_,rfl⟩:=XN a ha;obtain⟨w,_,rfl⟩:=XN b hb;rw[<-yT,<-yT];exact EV _ _ rfl rfl
 have uf:dd.Nodup:=by refine YT (λ{a b} ha hb kC e=>?_) XY;subst e;rw[(jN (P8 a ha) (P8 a ha)).mpr rfl]at kC;cases kC
 obtain⟨ws,Oo,Om⟩:=oq λd hx=>XN d (hp.mem_iff.mp hx);have mZ:Up ws:=by
  unfold Up;rw[<-Om];refine YT (λ{a b} ha hb kC=>?_) (List.Pairwise.and (hp.nodup_iff.mpr uf) (R6 P8));rcases A0 (P8 a (hp.mem_iff.mp ha)) (P8 b (hp.mem_iff.mp hb)) (z8 a (hp.mem_iff.mp ha) b (hp.mem_iff.mp hb))with t|t|t
  .exact t
  .exact absurd t kC.1
  .rw[kC.2]at t;cases t
 have yh:ws.length=dd.length:=by rw[<-hp.length_eq,Om,Qm]
 refine⟨ws,q12 hn ∅ Oo mZ,mZ,Om,?_⟩;have t1:=j0.mpr P8;have t2:=vX.mpr λd hx=>by obtain⟨w,_,rfl⟩:=XN d hx;rw[<-yT];exact RJ _
 have t3:vg zC dd=Qd:=Qq.mpr λa ha=>Qq.mpr λb hb=>z8 a ha b hb;have t5:dd.all jq=Qd:=Qq.mpr λd hx=>by obtain⟨w,_,rfl⟩:=XN d hx;rfl
 unfold ji Pt;rw[t1,t2,t3,Fv XY,t5,decide_eq_true (by lia:dd.length<64)];simp
def q08(hn:n<=5){acc:List Wn}(h:∀w∈acc,GoodW n w)(hl:acc.length<=60):∃ws:List Wn,Good n ws/\Up ws/\ws.length<=acc.length/\zB q8 .jS [.q6 (acc.map wD)]=.ok (.q6 (ws.map wD)):=by
 obtain⟨ws,g,u,e,s⟩:=q0h hn (dd:=dedup (acc.map wD)) (λd hx=>by obtain⟨w,hw,rfl⟩:=Qn.mp (Eb hx);exact⟨w,h w hw,rfl⟩) LG (Qx (LF _) (by rw[Qm];exact hl))
 have yh:ws.length<=acc.length:=by have h1:=(kN (dedup (acc.map wD))).length_eq;have h2:=LF (acc.map wD);rw[e,Qm]at h1;rw[Qm]at h2;lia
 refine⟨ws,g,u,yh,?_⟩;have s1:qx (acc.map wD)=Qd:=j0.mpr λd hx=>by obtain⟨w,_,rfl⟩:=Qn.mp hx;exact xK w
 have s2:zU (acc.map wD)=Qd:=vX.mpr λd hx=>by obtain⟨w,_,rfl⟩:=Qn.mp hx;rw[<-yT];exact RJ _
 have s3:decide ((acc.map wD).length<=1000)=Qd:=decide_eq_true (by rw[Qm];lia);rw[q1k,q59,qB,s1,s2,s3,s,e];rfl
def q0b(hn:n<=5){acc:List Wn}(h:∀w∈acc,GoodW n w)(hd:acc.Nodup)(hl:acc.length<=60):∃ws:List Wn,Good n ws/\(∀w,w∈ws↔w∈acc)/\Up ws/\zB q8 .sorted [.q6 (acc.map wD)]=.ok (.q6 (ws.map wD)):=by
 obtain⟨ws,g,hup,e,s⟩:=q0h hn (dd:=acc.map wD) (λd hx=>by
  obtain⟨w,hw,rfl⟩:=Qn.mp hx;exact⟨w,h w hw,rfl⟩) (Jd.mpr (hd.imp λ{a b} kC=>by
   cases q:qD (wD a) (wD b)with
   |false=>rfl
   |true=>exact absurd (Cz ((jN (xK a) (xK b)).mp q)) kC)) (by rw[Qm];exact hl)
 have mm:∀(w:Wn)(l:List Wn),wD w∈l.map wD↔w∈l:=λw l=>⟨λh=>by obtain⟨v,hv,e⟩:=Qn.mp h;exact Cz e▸hv,λh=>Qn.mpr ⟨w,h,rfl⟩⟩
 refine⟨ws,g,λw=>by rw[<-mm,<-e,(kN _).mem_iff,mm],hup,?_⟩;rw[de,u9,qB,s,if_pos rfl,e]
def q89(hM:M<=5)(d:Draw G s):∃(n:Nat)(ws:List Wn),n<=M/\Good n ws/\Up ws/\ws.length<=15/\Ev.run G q8 9 GY [s,nI K,nI M]=.ok (rD n ws):=by
 obtain⟨N,m⟩:=d.mix K;have mQ:N %(M+1)<=M:=by have:=UQ N (Nat.succ_pos M);lia
 generalize hN:N %(M+1)=n at mQ;have hn:n<=5:=∅
 obtain⟨vs,t,o,x,y,hv,PD,e⟩:=tj (K:=K) (M:=M) (n:=n) d hn (Qt n) [] Qg Qg Qg Qg (λu hu=>QN.mp hu) (by simp;lia);rw[Q1]at PD;obtain⟨ws,hg,hu,yh,es⟩:=q08 hn hv ∅;refine⟨n,ws,mQ,hg,hu,∅,?_⟩;have e1:ex G q8 Gp [wv s,wv (nI K),wv (nI M),Qg,Qg,Qg,Qg,Qg,Qg]=.ok [wv s,wv (nI K),wv (nI M),wv (nI n),Qg,Qg,Qg,Qg,Qg] .nx:=by
  have v0:ev G q8 qC [wv s,wv (nI K),wv (nI M),Qg,Qg,Qg,Qg,Qg,Qg]=.ok s:=rfl;have v1:ev G q8 qG [wv s,wv (nI K),wv (nI M),Qg,Qg,Qg,Qg,Qg,Qg]=.ok (nI K):=rfl;have v2:ev G q8 qO [wv s,wv (nI K),wv (nI M),Qg,Qg,Qg,Qg,Qg,Qg]=.ok (nI M):=rfl;have h2:zD .add (nI M) (.int 1)=.ok (nI (M+1)):=add_n M 1;have h3:zD .mod (nI N) (nI (M+1))=.ok (nI n):=by rw[CB N (M+1) (Nat.succ_pos M),hN]
  rw[Gp,zh,zT,kY v0 v1 m,qB,zT,v2,qB,zf,qB,h2,qB,h3,qF];rfl
 have e2:ex G q8 (.zY 4 (.q6 [])) [wv s,wv (nI K),wv (nI M),wv (nI n),Qg,Qg,Qg,Qg,Qg]=.ok (vH K M s n [] Qg Qg Qg Qg) .nx:=by rw[XG,xB (jW _) (by simp),qF];rfl
 have e3:ex G q8 (.qw 0 [5] (.rng [qp]) Pf) (vH K M s n [] Qg Qg Qg Qg)=.ok (vH K M s n vs t o x y) .nx:=by rw[vD,wI,zN rfl,qB,uH n ∅,qF,e];rfl
 have e4:ex G q8 (.ret (.qA [qp,(.bi .jS [(.bor 4)])])) (vH K M s n vs t o x y)=.ok (vH K M s n vs t o x y) (.ret (rD n ws)):=by rw[kL,kc (jw rfl (by rw[jA,zN rfl,qB,es])) (by simp),qF];rfl
 refine jt (Z:=[wv s,wv (nI K),wv (nI M),Qg,Qg,Qg,Qg,Qg,Qg]) (ρ':=vH K M s n vs t o x y) rfl ?_;show qN G q8 [Gp,.zY 4 (.q6 []),.qw 0 [5] (.rng [qp]) Pf,.ret (.qA [qp,(.bi .jS [(.bor 4)])])] _=_;rw[qg e1,qg e2,qg e3];exact jX e4
def O1(k:Nat)(zs:List Int)(i:Nat):∃N:Nat,Gm (k+2) 26 [.q6 (iL zs),nI i]=.ok (nI N):=by obtain⟨c,hc⟩:=q80 zs i;obtain⟨N,h⟩:=q85 (.q6 (iL zs)) i ⟨c,(zd k 25 _ 2 2 PU rfl rfl).trans hc⟩;exact⟨N,(zd (k+1) 26 _ 2 3 Dq rfl rfl).trans h⟩
def lE(k:Nat)(zs:List Int):Draw (Gm (k+3)) (.q6 (iL zs)):=by refine⟨λi=>O1 (k+1) zs i,λi o ho=>?_⟩;obtain⟨l,hl,h⟩:=q8G (.q6 (iL zs)) i o ho (O1 k zs i);exact⟨l,hl,(zd (k+2) 27 _ 3 4 GZ rfl rfl).trans h⟩
def lM(k K:Nat)(hM:M<=5)(zs:List Int):∃(n:Nat)(ws:List Wn),n<=M/\Good n ws/\Up ws/\ws.length<=15/\Gm (k+4) 28 [.q6 (iL zs),nI K,nI M]=.ok (rD n ws):=by obtain⟨n,ws,h1,hg,hu,yh,h⟩:=q89 hM (lE k zs);exact⟨n,ws,h1,hg,hu,yh,(zd (k+3) 28 _ 3 9 GY rfl rfl).trans h⟩
end
section
variable{ws:List Wn}
def eZ(a b:Nat):Bool:=match zB q8 .jS [.qA (nL (qZ a++qZ b))]with
 |.ok (.q6 l)=>z6 l (nL (qZ (a|||b)))&&qx l
 |_=>Qh
def q2H:∀a,a<32->∀b,b<32->eZ a b=Qd:=by decide+kernel
def q9I{b:Nat}(ha:a<32)(hb:b<32):zB q8 .jS [.qA (nL (qZ a++qZ b))]=.ok (.q6 (nL (qZ (a|||b)))):=by
 have h:=q2H a ha b hb;unfold eZ at h;split at h
 .rename_i l e;rw[Qp]at h;rw[e,(q2s h.2 (GJ _)).mp h.1]
 .cases h
end
section
variable{ws:List Wn}
def AE(h:pl d=Qd)(h2:qD d d=Qd):qc .ne d d=.ok (.bl Qh):=by
 have:qc .ne d d=if pl d&&pl d then .ok (.bl (!qD d d))else .q9:=rfl
 rw[this,h,h2];rfl
def iF(h:pl d=Qd)(h2:qD d d=Qd):qc .eq d d=.ok (.bl Qd):=by
 have:qc .eq d d=if pl d&&pl d then .ok (.bl (qD d d))else .q9:=rfl
 rw[this,h,h2];rfl
def LX{l:List D}(h:∀d∈l,qD d d=Qd):z6 l l=Qd:=by
 induction l with
 |nil=>simp[z6]
 |cons a l ih=>rw[z6,h a Qe,ih λd hd=>h d (Qc _ hd)];rfl
def iI(m:Nat):qD (tD m) (tD m)=Qd:=by unfold tD;rw[La];simp
def Af(l:List Nat):pl (.q6 (l.map tD))=Qd:=by unfold pl;rw[Xp];exact Qq.mpr λd hd=>by obtain⟨a,_,rfl⟩:=Qn.mp hd;simp[tD]
def q2u(l:List Nat):qD (.q6 (l.map tD)) (.q6 (l.map tD))=Qd:=by rw[qD];exact LX λd hd=>by obtain⟨a,_,rfl⟩:=Qn.mp hd;exact iI a
def bC(n:Nat)(ws:List Wn):pl (rD n ws)=Qd:=by unfold pl rD;simp[wD]
def q2y(w:Wn):qD (wD w) (wD w)=Qd:=(jN (xK w) (xK w)).mpr rfl
def q2w(n:Nat)(ws:List Wn):qD (rD n ws) (rD n ws)=Qd:=by
 have:z6 (ws.map wD) (ws.map wD)=Qd:=LX λd hd=>by obtain⟨a,_,rfl⟩:=Qn.mp hd;exact q2y a
 simp[rD,qD,z6,this]
def q2g(g:Good n ws):(qQ n ws).length<=32:=by have hn:=g.n5;refine Qx (QS _ _) ?_;exact Qx (vx (2^n) _ (RQ hn) λx hx=>(RP hn x).mp hx) (Qx (Q6 (by decide) hn) (by decide))
def q2h(g:Good n ws)(h:m∈qQ n ws):m<32:=by have:=Xs ((TK g m).mp h);rw[Xi]at this;exact QF this (Q6 (by decide) g.n5:2^n<=2^5)
def yb{f:Nat}{a b c:L}{x y z:D}(h1:ev G q8 a Z=.ok x)(h2:ev G q8 b Z=.ok y)(h3:ev G q8 c Z=.ok z)(h:G f [x,y,z]=.ok d):ev G q8 (.call f [a,b,c]) Z=.ok d:=by rw[vC,kJ,h1,qB,jw h2 h3,qB,qB,h]
def jO{o:Cm}{a b:L}{x y:D}{r:R D}(h1:ev G q8 a Z=.ok x)(h2:ev G q8 b Z=.ok y)(h:qc o x y=r):ev G q8 (.cm o a b) Z=r:=by rw[Rt,h1,qB,h2,qB,h]
def jj{a:L}{b:Bool}(h:ev G q8 a Z=.ok (.bl b)):qz G q8 (.e a) Z=.ok b:=by rw[uL,h,qB,Cq]
def AU{a b:T}(h1:qz G q8 a Z=.ok Qh)(h2:qz G q8 b Z=.ok Qh):qz G q8 (.or a b) Z=.ok Qh:=by rw[q0s,h1,qB,if_neg (by simp),h2]
def ui{c:T}{l:List S}(h:qz G q8 c Z=.ok Qh):ex G q8 (.ifs c l []) Z=.ok Z .nx:=by rw[wJ,h,qF,if_neg (by simp),za]
def qB7(Z:Ev.Env):ev G q8 (.neg (kZ 1)) Z=.ok (.int (-1)):=rfl
def q2x(x:PySem.Str):qD (.str x) (.str x)=Qd:=by simp[qD]
end
section
def EH(m:Nat):(qZ m).Pairwise (·<·):=(CY Nat.lt_two_pow_self).1
def wQ(F t m:Nat):Bool:=!m.testBit t&&F.testBit (m|||1<<<t)
noncomputable def xS(p:Nat->Bool):List Nat->List Nat->List Nat
 |acc,[]=>acc
 |acc,m::ms=>xS p (if(p m&&!(acc.any λo=>decide (m&&&o=o)))=Qd then acc++[m]else acc) ms
theorem Pl{p:Nat->Bool}:∀(ms acc:List Nat),∃l:List Nat,l.Sublist ms/\(∀x∈l,p x=Qd)/\xS p acc ms=acc++l
 |[],acc=>⟨[],List.nil_sublist _,nofun,(Q3 _).symm⟩
 |m::ms,acc=>by
  unfold xS;split
  .rename_i h;obtain⟨l,h1,h2,h3⟩:=Pl ms (acc++[m]);exact⟨m::l,h1.cons_cons m,Y4.mpr ⟨(Bool.and_eq_true_iff.mp h).1,h2⟩,by rw[h3,Jg];rfl⟩
  .obtain⟨l,h1,h2,h3⟩:=Pl ms acc;exact⟨l,h1.cons m,h2,h3⟩
def pM{p:Nat->Bool}{acc:List Nat}(h:x∈acc):x∈xS p acc ms:=by obtain⟨l,_,_,e⟩:=Pl ms acc;rw[e];exact QD _ h
theorem Gz{p:Nat->Bool}{x:Nat}(hp:p x=Qd):∀(ms acc:List Nat),x∈ms->∃o∈xS p acc ms,Sm o x
 |m::ms,acc,h=>by
  unfold xS;rcases Qo.mp h with rfl|h
  .split
   .exact⟨x,pM (by simp),q0T x⟩
   .rename_i q;rw[hp,ZW,Jn,Bool.not_eq_false]at q;obtain⟨o,ho,e⟩:=Jc.mp q;refine⟨o,pM ho,uQ.mp ?_⟩;rw[Hd];exact of_decide_eq_true e
  .exact Gz hp ms _ h
def kO(F t:Nat):List Nat:=xS (wQ F t) [] (qZ F)
def Pe{F:Nat}(h:x∈kO F t):F.testBit x=Qd/\wQ F t x=Qd:=by obtain⟨l,h1,h2,e⟩:=Pl (qZ F) [];rw[kO,e,YL]at h;exact⟨jZ.mp (h1.subset h),h2 x h⟩
def p6(F t:Nat):(kO F t).Nodup:=by obtain⟨l,h1,h2,e⟩:=Pl (qZ F) [];rw[kO,e,YL];exact((EH F).sublist h1).imp λh=>QK h
inductive Gen(F:Nat):Nat->Prop
 |z:Gen F 0
 |s {k t:Nat}:Gen F k->k.testBit t=Qh->F.testBit (k|||1<<<t)=Qd->Gen F (k|||1<<<t)
structure Fam(n F:Nat):Prop where
 n4:n<=4
 lt:∀x,F.testBit x=Qd->x<2^n
 or:∀a b,F.testBit a=Qd->F.testBit b=Qd->F.testBit (a|||b)=Qd
 zero:F.testBit 0=Qd
 gen:∀x,F.testBit x=Qd->Gen F x
variable{F:Nat}{ws:List Wn}
def yt(F t:Nat):List Wn:=(kO F t).map λm=>(t,qZ m)
def yu(n F:Nat):List Wn:=(Qt n).flatMap (yt F)
def cP{w:Wn}:w∈yu n F↔∃t,t<n/\∃m∈kO F t,w=(t,qZ m):=by
 unfold yu yt;simp;constructor
 .rintro⟨t,h,m,hm,rfl⟩;exact⟨t,h,m,hm,rfl⟩
 .rintro⟨t,h,m,hm,rfl⟩;exact⟨t,h,m,hm,rfl⟩
section
variable(f:Fam n F)
include f
def b7:2^n<=16:=Q6 (by decide:0<2) f.n4
def p4(ht:t<n):(kO F t).length<=15:=by refine vx 15 _ (p6 F t) λx hx=>?_;obtain⟨h1,h2⟩:=Pe hx;have h3:=f.lt x h1;have h4:=b7 f;have h5:=f.n4;rw[wQ,Qp,Jn]at h2;refine Nat.lt_of_le_of_ne ∅ λe=>?_;subst e;have:=(Po (n:=4) (t:=t)).mpr ∅;rw[show 2^4-1=15 from rfl,h2.1]at this;cases this
theorem cO:∀ts:List Nat,(∀t∈ts,t<n)->(ts.flatMap (yt F)).length<=15*ts.length
 |[],_=>by simp
 |t::ts,h=>by have h1:=cO ts λu hu=>h u (Qc _ hu);have h2:=p4 f (h t Qe);rw[Vk,QT,yt,Qm,QG];lia
def q1A:∀w∈yu n F,GoodW n w:=λw hw=>by obtain⟨t,ht,m,hm,rfl⟩:=cP.mp hw;obtain⟨h1,h2⟩:=Pe hm;rw[wQ,Qp,Jn]at h2;exact⟨ht,CY (f.lt m h1),λh=>by rw[jZ.mp h]at h2;cases h2.1⟩
theorem q1B:(yu n F).Nodup:=by refine He.mpr ⟨λt _=>Jd.mpr ((p6 F t).imp λh e=>h (Fn (WI e).2)),Jo.imp λ{a b} kC x hx y hy e=>?_⟩;obtain⟨m,_,rfl⟩:=Qn.mp hx;obtain⟨k,_,rfl⟩:=Qn.mp hy;exact QK kC (WI e).1
def q3K(g:Good n ws)(hw:∀w,w∈ws↔w∈yu n F)(x:Nat):Rch (qW n ws) x↔F.testBit x=Qd:=by
 have aI:∀k t,zS (qW n ws) k t=Qd↔k.testBit t=Qh/\t<n/\∃m∈kO F t,Sm m k:=λk t=>by
  rw[aK (G2 g),Qp,Jn,Jc];refine and_congr_right λ_=>⟨?_,?_⟩
  .rintro⟨w,h1,h2⟩;obtain⟨u,hu,m,hm,rfl⟩:=cP.mp ((hw w).mp h1);rw[Qp,decide_eq_true_eq,Qq]at h2;have:=h2.1;subst this;exact⟨hu,m,hm,λi hi=>h2.2 i (jZ.mpr hi)⟩
  .rintro⟨ht,m,hm,hs⟩;refine⟨(t,qZ m),(hw _).mpr (cP.mpr ⟨t,ht,m,hm,rfl⟩),?_⟩;rw[Qp,decide_eq_true_eq,Qq];exact⟨rfl,λi hi=>hs i (jZ.mp hi)⟩
 constructor
 .intro h
  induction h with
  |z=>exact f.zero
  |@s k t hk hm ih=>
   refine i6 ((aI k t).mp hm) λ_ ht m hm hs=>?_;obtain⟨_,h2⟩:=Pe hm;rw[wQ,Qp]at h2;have:=f.or k _ ih h2.2;rw[show k|||(m|||1<<<t)=k|||1<<<t from ?_]at this
   .exact this
   .rw[<-Nat.or_assoc];congr 1;exact q0R (q9B (q0T k) hs) (q0S k m)
 .intro h;have hg:=f.gen x h;clear h
  induction hg with
  |z=>exact .z
  |@s k t hk hb hF ih=>
   have hkF:F.testBit k=Qd:=by
    cases hk with
    |z=>exact f.zero
    |s _ _ h=>exact h
   have ht:=pN (f.lt _ hF) (by rw[we];simp:(k|||1<<<t).testBit t=Qd);obtain⟨m,hm,hs⟩:=Gz (p:=wQ F t) (x:=k) (by rw[wQ,hb,hF];rfl) (qZ F) [] (jZ.mpr hkF);exact .s ih ((aI k t).mpr ⟨hb,ht,m,hm,hs⟩)
end
def comp_map{l:List α}{f g:α->D}{x:L}(h1:j8 G q8 it Z=.ok (l.map f))(h2:∀a∈l,ev G q8 x (wv (f a)::Z)=.ok (g a))(hl:l.length<=1000):ev G q8 (.comp 0 x it []) Z=.ok (.q6 (l.map g)):=by rw[xA,h1,qB,(TB (us:=λa=>[f a]) λa ha=>⟨rfl,rfl,λ_=>h2 a ha⟩),vw,qB,filter_tt,if_pos (by rw[Qm,zt];lia)]
def q66(l:List Nat)(v:List D)(i:Nat):qc .mem (nI i) (.qJ (nL l) v)=.ok (.bl (decide (i∈l))):=by
 have:=aj l v i;unfold qc at this|-;dsimp only at this|-;cases q:memD (nI i) (.qJ (nL l) v)with
 |ok b=>
  rw[q,qB]at this;rw[qB,Bool.not_inj (D.bl.inj (R.ok.inj this))]
 |err c=>rw[q]at this;cases this
 |q9=>rw[q]at this;cases this
def q35{a:L}{x:Bool}(h:ev G q8 a Z=.ok (.bl x)):ev G q8 (.not a) Z=.ok (.bl (!x)):=by rw[iT,h,qB,Cq,qB]
def q30{a b:L}{x y:Bool}(h:ev G q8 a Z=.ok (.bl x))(h2:ev G q8 b Z=.ok (.bl y)):ev G q8 (.and a b) Z=.ok (.bl (x&&y)):=by
 rw[iK,h,qB];cases x
 .rfl
 .exact h2
def q3t(k:Nat)(ht:t<=1000)(m:Nat):Gm (k+2) 18 [.qJ (nL ks) v,nI m,nI t]=.ok (.bl (wQ (z9 0 ks) t m)):=by
 refine(zd (k+1) 18 _ 3 3 SQ rfl rfl).trans ?_;have b:ev (Gm (k+1)) q8 (.op .bor qG (.op .shl (kZ 1) qO)) [wv (.qJ (nL ks) v),wv (nI m),wv (nI t)]=.ok (nI (m|||1<<<t)):=by have:zD .shl (.int 1) (nI t)=.ok (nI (1<<<t)):=q8x 1 t (by decide) ht;rw[zT,show ev (Gm (k+1)) q8 qG _=.ok (nI m) from rfl,qB,zT,zf,qB,show ev (Gm (k+1)) q8 qO _=.ok (nI t) from rfl,qB,this,qB,q1z]
 refine jt (Z:=[wv (.qJ (nL ks) v),wv (nI m),wv (nI t)]) (ρ':=[wv (.qJ (nL ks) v),wv (nI m),wv (nI t)]) rfl (jX ?_);rw[kL,q30 (q35 (kY (G:=Gm (k+1)) (Z:=[wv (.qJ (nL ks) v),wv (nI m),wv (nI t)]) (a:=qG) (b:=qO) (x:=nI m) (y:=nI t) rfl rfl (Ez k m t))) (jO b rfl (q66 ks v _)),qF,wQ,wC]
def Gj:L:=.comp 0 (.cm .eq (.op .band qS qC) qC) (.b 2) []
def Gh:List S:=[.ifs (.and (.e (.call 18 [qC,qp,qG])) (.not (.e (.bi .any [Gj])))) [.app 2 qp] []]
def uE(f:D)(t:Nat)(acc:List Nat)(x:Option Sl):Ev.Env:=[wv f,wv (nI t),Qa (.own (.q6 (nL acc))),x]
theorem p5{t:Nat}{p:Nat->Bool}(gy:∀m,G 18 [f,nI m,nI t]=.ok (.bl (p m))):∀(ms acc:List Nat)(x:Option Sl),acc.length+ms.length<=1000->
  ∃x',zb (qN G q8 Gh) 0 [3] (nL ms) (uE f t acc x)=.ok (uE f t (xS p acc ms) x') .nx
 |[],acc,x,_=>⟨x,rfl⟩
 |m::ms,acc,x,h=>by
  rw[QG]at h;generalize hρ:uE f t acc (wv (nI m))=Z;have c:ev G q8 Gj Z=.ok (.q6 (acc.map λo=>D.bl (decide (m&&&o=o)))):=comp_map (f:=nI) (by rw[iX,<-hρ];rfl) (λo _=>by
   have:ev G q8 (.op .band qS qC) (wv (nI o)::Z)=.ok (nI (m&&&o)):=by rw[zT,show ev G q8 qS (wv (nI o)::Z)=.ok (nI m) by rw[<-hρ];rfl,qB,show ev G q8 qC (wv (nI o)::Z)=.ok (nI o) from rfl,qB,dQ]
   exact jO this (y:=nI o) rfl (iD _ _)) ∅
  have a:qz G q8 (.e (.bi .any [Gj])) Z=.ok (acc.any λo=>decide (m&&&o=o)):=jj (by rw[jA,zN c,qB,q1e,EK];show R.ok (D.bl ((acc.map _).any id))=_;rw[List.any_map];rfl);have b:qz G q8 (.and (.e (.call 18 [qC,qp,qG])) (.not (.e (.bi .any [Gj])))) Z=.ok (p m&&!(acc.any λo=>decide (m&&&o=o))):=by rw[IE,jj (yb (x:=f) (y:=nI m) (z:=nI t) (by rw[<-hρ];rfl) (by rw[<-hρ];rfl) (by rw[<-hρ];rfl) (gy m)),qB,IF,a,qB];cases p m<;>rfl
  obtain⟨x',e⟩:=p5 gy ms (if(p m&&!(acc.any λo=>decide (m&&&o=o)))=Qd then acc++[m]else acc) (wv (nI m)) (by split<;>(try rw[QT,UJ])<;>lia);refine⟨x',?_⟩;rw[yI,jx,show YM (uE f t acc x) 3 (wv (nI m))=Z from hρ,xS,<-e];have s:qN G q8 Gh Z=.ok (uE f t (if(p m&&!(acc.any λo=>decide (m&&&o=o)))=Qd then acc++[m]else acc) (wv (nI m))) .nx:=by
   rw[Gh,jF,wJ,b,qF];split
   .rw[qg (ρ':=uE f t (acc++[m]) (wv (nI m))) (by rw[Ru,<-hρ];show(R.ok (nI m)).go _ _=_;rw[qF,if_pos (by rw[uG,zt];lia)];unfold uE;rw[rP];rfl),za];rfl
   .rw[za,<-hρ];rfl
  rw[s,v9]
def q9G(h:ks.Nodup)(hl:ks.length<64):ji (nL ks)=Qd:=by
 have h3:vg zC (nL ks)=Qd:=by unfold vg;refine Qq.mpr λa ha=>Qq.mpr λb hb=>?_;obtain⟨x,_,rfl⟩:=Qn.mp ha;obtain⟨y,_,rfl⟩:=Qn.mp hb;simp[nI,zC]
 have h4:dedup (nL ks)=nL ks:=Fv (Jd.mpr (h.imp λ{a b} kC=>by
  cases q:qD (nI a) (nI b)with
  |false=>rfl
  |true=>exact absurd ((aV a b).mp ((jN (Oe a) (Oe b)).mp q)) kC))
 have h5:(nL ks).all Xc=Qd:=Qq.mpr λd hd=>by obtain⟨a,_,rfl⟩:=Qn.mp hd;rfl
 unfold ji Pt;rw[GJ,q7L,h3,h4,h5,uG];simp[hl]
def nU(h:ks.Nodup):jP (nL ks)=nL (qZ (z9 0 ks)):=by
 refine FU ?_ (λd hd=>?_) (λa ha b hb=>?_) (R6 λd hd=>j0.mp (GJ ks) d hd) ?_
 .refine (kN _).trans (List.Perm.map _ ((JN h ((EH _).imp λh=>QK h)).mpr λx=>?_));rw[jZ,wC,decide_eq_true_eq]
 .exact j0.mp (GJ ks) d ((kN _).mem_iff.mp hd)
 .obtain⟨x,_,rfl⟩:=Qn.mp ((kN _).mem_iff.mp ha);obtain⟨y,_,rfl⟩:=Qn.mp ((kN _).mem_iff.mp hb);simp[nI,zC]
 .refine Jd.mpr ((EH _).imp λ{a b} kC=>?_);have e:qU (nI b) (nI a)=decide ((b:Int)<a):=by simp[nI,qU]
  rw[e];exact decide_eq_false ∅
def q3n(k:Nat)(hd:ks.Nodup)(hl:ks.length<=16)(ht:t<=1000):Gm (k+3) 17 [.qJ (nL ks) v,nI t]=.ok (.q6 (nL (kO (z9 0 ks) t))):=by
 have hb:(qZ (z9 0 ks)).length<=16:=by
  have:(nL (qZ (z9 0 ks))).length=(nL ks).length:=by rw[<-nU hd];exact(kN _).length_eq
  rw[uG,uG]at this;lia
 obtain⟨x',e⟩:=p5 (λm=>q3t k ht m) (qZ (z9 0 ks)) [] Qg (by simp;lia);refine(zd (k+2) 17 _ 2 4 [.zY 2 (.q6 []),.qw 0 [3] (.e (.bi .sorted [qC])) Gh,.retO 2] rfl rfl).trans ?_;refine jt (Z:=[wv (.qJ (nL ks) v),wv (nI t),Qg,Qg]) (ρ':=YM (uE (.qJ (nL ks) v) t (kO (z9 0 ks) t) x') 2 Qg) rfl ?_;refine(qg (ρ':=uE (.qJ (nL ks) v) t [] Qg) (by rw[XG,xB (jW _) (by simp),qF];rfl)).trans ?_;refine(qg (ρ':=uE (.qJ (nL ks) v) t (kO (z9 0 ks) t) x') (by rw[vD,yc,jA,zN rfl,qB,de,q5A,qB,q9G hd ∅,if_pos rfl,qB,u9,qF,nU hd,e];rfl)).trans ?_
 exact jX (by rw[Lg];rfl)
end
section
variable{F:Nat}{ws:List Wn}
def Ag:L:=.comp 0 (.qA [qS,(.call 1 [qC])]) (.e (.call 17 [qG,qp])) []
def uy(n:Nat)(f:D)(acc:List Wn)(x:Option Sl):Ev.Env:=[wv (nI n),wv f,Qa (.own (.q6 (acc.map wD))),x]
theorem sg{f:D}(fm:Fam n F)(gx:∀t,t<n->G 17 [f,nI t]=.ok (.q6 (nL (kO F t))))(e1:∀m,m<16->G 1 [nI m]=.ok (tD m)):∀(ts:List Nat)(acc:List Wn)(x:Option Sl),(∀t∈ts,t<n)->acc.length+15*ts.length<=1000->
  ∃x',zb (qN G q8 [.ext 2 Ag]) 0 [3] (nL ts) (uy n f acc x)=.ok (uy n f (acc++ts.flatMap (yt F)) x') .nx
 |[],acc,x,_,_=>⟨x,by rw[List.flatMap_nil,Q3];rfl⟩
 |t::ts,acc,x,ht,h=>by
  rw[QG]at h;have h1:=ht t Qe;have h2:=p4 fm h1;have hw:(yt F t).length<=15:=by rw[yt,Qm];exact h2
  obtain⟨x',e⟩:=sg fm gx e1 ts (acc++yt F t) (wv (nI t)) (λu hu=>ht u (Qc _ hu)) (by rw[QT];lia);refine⟨x',?_⟩;generalize hρ:uy n f acc (wv (nI t))=Z;have c:ev G q8 Ag Z=.ok (.q6 ((kO F t).map λm=>wD (t,qZ m))):=comp_map (f:=nI) (by rw[yc,kY (x:=f) (y:=nI t) (by rw[<-hρ];rfl) (by rw[<-hρ];rfl) (gx t h1),qB];rfl) (λm hm=>by have hm:=QF (fm.lt m (Pe hm).1) (b7 fm);exact kc (jw (x:=nI t) (by rw[<-hρ];rfl) (show ev G q8 (.call 1 [qC]) (wv (nI m)::Z)=.ok (tD m) by rw[vC,zN (x:=nI m) rfl,qB,e1 m hm])) (by simp)) ∅
  have s:qN G q8 [.ext 2 Ag] Z=.ok (uy n f (acc++yt F t) (wv (nI t))) .nx:=by refine qg (l:=[]) ?_;rw[ia,show Z[2]?=Qa (Qa (.own (.q6 (acc.map wD)))) by rw[<-hρ];rfl];dsimp only;rw[c,qF];dsimp only;rw[if_pos (by rw[Qm,Qm,zt];lia),<-hρ];unfold uy yt;rw[JA,J0];rfl
  rw[yI,jx,show YM (uy n f acc x) 3 (wv (nI t))=Z from hρ,s,v9,e,Vk,Jg]
def q62(h:∀x,x∈ks↔F.testBit x=Qd):z9 0 ks=F:=JI λi=>by rw[wC,QR,decide_eq_true_eq,h]
structure Own(n F:Nat)(ws:List Wn):Prop where
 Ep:Fam n F
 good:Good n ws
 Xr:∀x,Rch (qW n ws) x↔F.testBit x=Qd
 mem:∀w,w∈ws↔w∈yu n F
 up:Up ws
 po:∀k ks v,ks.Nodup->(∀x,x∈ks↔F.testBit x=Qd)->Gm (k+4) 16 [nI n,.qJ (nL ks) v]=.ok (rD n ws)
def q3v(fm:Fam n F):∃ws,Own n F ws:=by
 have hn:=fm.n4;obtain⟨ws,g,hm,hu,es⟩:=q0b (by lia:n<=5) (q1A fm) (q1B fm) (by have:=cO fm (Qt n) λt h=>QN.mp h;rw[Q1]at this;unfold yu;lia);refine⟨ws,fm,g,q3K fm g hm,hm,hu,λk ks v hd hk=>?_⟩;obtain⟨x',e⟩:=sg (G:=Gm (k+3)) (f:=.qJ (nL ks) v) fm (λt ht=>by rw[<-(q62 hk)];exact q3n k hd (vx 16 ks hd λx hx=>QF (fm.lt x ((hk x).mp hx)) (b7 fm)) ∅) (λm hm=>O2 (k+1) m ∅) (Qt n) [] Qg (λt h=>QN.mp h) (by rw[Q1,Jz];lia);refine(zd (k+3) 16 _ 2 4 [.zY 2 (.q6 []),.qw 0 [3] (.rng [qC]) [.ext 2 Ag],.ret (.qA [qC,(.bi .sorted [(.bor 2)])])] rfl rfl).trans ?_;refine jt (Z:=[wv (nI n),wv (.qJ (nL ks) v),Qg,Qg]) (ρ':=uy n (.qJ (nL ks) v) (yu n F) x') rfl ?_;refine(qg (ρ':=uy n (.qJ (nL ks) v) [] Qg) (by rw[XG,xB (jW _) (by simp),qF];rfl)).trans ?_;refine(qg (ρ':=uy n (.qJ (nL ks) v) (yu n F) x') (by rw[vD,wI,zN (x:=nI n) rfl,qB,uH n ∅,qF,e];rfl)).trans ?_
 exact jX (by rw[kL,kc (jw (x:=nI n) rfl (by rw[jA,zN rfl,qB,es])) (by simp),qF];rfl)
def GO(n:Nat)(ws:List Wn):jo (rD n ws) (.int 0)=.ok (nI n):=yB _ _
def tK(h:Rch (qW n ws) k):k<2^n:=by have:=Xs h;rwa [Xi]at this
def q3L(hn:n<=4)(h:∀z,F.testBit z=Qd↔Rch (qW n ws) z):Fam n F:=by
 refine⟨hn,λx hx=>tK ((h x).mp hx),λx y hx hy=>(h _).mpr (q7j ((h x).mp hx) ((h y).mp hy)),(h 0).mpr .z,λx hx=>?_⟩;have hr:=(h x).mp hx;clear hx
 induction hr with
 |z=>exact .z
 |s hk hm ih=>exact .s ih (C9 hm) ((h _).mpr (.s hk hm))
def lK(g:Good n ws)(hn:n<=4):∃F us,Own n F us/\(∀z,F.testBit z=Qd↔Rch (qW n ws) z)/\∀k,Gm (k+6) 15 [rD n ws]=.ok (rD n us):=by
 refine qV (G3 g 0) λks0 _ Tq _=>?_;have hF:∀z,(z9 0 ks0).testBit z=Qd↔Rch (qW n ws) z:=λz=>by rw[wC,decide_eq_true_eq,Tq]
 obtain⟨us,o⟩:=q3v (q3L hn hF);refine⟨_,us,o,hF,λk=>?_⟩;refine qV (G3 g k) λks hd hk e=>?_;refine(zd (k+5) 15 _ 1 2 PY rfl rfl).trans ?_;refine jt (Z:=[wv (rD n ws),Qg]) (ρ':=[wv (rD n ws),wv (.qJ (nL ks) (k7 ks.length))]) rfl ?_;refine(qg (ρ':=[wv (rD n ws),wv (.qJ (nL ks) (k7 ks.length))]) (by rw[zh,vC,zN (x:=rD n ws) rfl,qB,e,qF];rfl)).trans ?_;exact jX (by rw[kL,kY (a:=.idx qC (kZ 0)) (Z:=[wv (rD n ws),wv (.qJ (nL ks) (k7 ks.length))]) (x:=nI n) (y:=.qJ (nL ks) (k7 ks.length)) (GO n ws) rfl (o.po (k+1) ks _ hd λx=>(hk x).trans (hF x).symm),qF])
def q13(u:Up us):qo (us.map wD):=YT (λ{a b} ha hb h=>by obtain⟨v,_,rfl⟩:=Qn.mp ha;obtain⟨w,_,rfl⟩:=Qn.mp hb;rw[<-yT,<-yT]at h|-;exact q5z h) u
def cH(u:Up us):us.Nodup:=(Jd.mp u).imp λ{a b} h e=>by subst e;rw[<-yT,pO]at h;cases h
def q11(u:Up us)(v:Up vs)(h:∀w,w∈us↔w∈vs):us=vs:=by
 have e:=FU (((JN (cH u) (cH v)).mpr h).map wD) (λd hd=>by obtain⟨w,_,rfl⟩:=Qn.mp hd;exact xK w) (λa ha b hb=>by obtain⟨x,_,rfl⟩:=Qn.mp ha;obtain⟨y,_,rfl⟩:=Qn.mp hb;rw[<-yT,<-yT];exact EV _ _ rfl rfl) (q13 u) (q13 v)
 exact(List.map_inj_right λa b h=>Cz h).mp e
def q7C(o:Own n F us)(o':Own n F vs):us=vs:=q11 o.up o'.up λw=>(o.mem w).trans (o'.mem w).symm
end
section
variable{F:Nat}{ws:List Wn}
def uX(i:Nat)(h:jG Z i=.ok (rD n ws)):ev G q8 (.idx (.zP i) (kZ 0)) Z=.ok (nI n):=by rw[xn,jf,h,qB,zf,qB,GO]
def Em(i:Nat)(h:jG Z i=.ok (rD n ws)):ev G q8 (.idx (.zP i) (kZ 1)) Z=.ok (.q6 (ws.map wD)):=by rw[xn,jf,h,qB,zf,qB];exact u6 _ _ _
def Rm{l:List α}{f g:α->D}{p:α->Bool}{x:L}{cs:List T}(h1:j8 G q8 it Z=.ok (l.map f))(h2:∀a∈l,kF G q8 cs (wv (f a)::Z)=.ok (p a))(h3:∀a∈l,p a=Qd->ev G q8 x (wv (f a)::Z)=.ok (g a))(hl:l.length<=1000):
  ev G q8 (.comp 0 x it cs) Z=.ok (.q6 ((l.filter p).map g)):=by
 have:=QS p l;rw[xA,h1,qB,(TB (us:=λa=>[f a]) λa ha=>⟨rfl,h2 a ha,h3 a ha⟩),vw,qB,if_pos (by rw[Qm,zt];lia)]
def FV{a:T}(h:qz G q8 a Z=.ok b):kF G q8 [a] Z=.ok b:=by rw[Cr,h,qB,Cs];cases b<;>rfl
def cA{a b:T}{x y:Bool}(h:qz G q8 a Z=.ok x)(h2:qz G q8 b Z=.ok y):qz G q8 (.and a b) Z=.ok (x&&y):=by
 rw[IE,h,qB];cases x
 .rfl
 .rw[if_pos rfl,h2];rfl
def D7(a b:Nat):qD (tD a) (tD b)=decide (a=b):=by unfold tD;rw[La,QR,decide_eq_true_eq,decide_eq_true_eq];exact⟨Fn,λh=>by rw[h]⟩
def q6N(a b:Nat):qc .ne (tD a) (tD b)=.ok (.bl (!decide (a=b))):=by
 have:qc .ne (tD a) (tD b)=if pl (tD a)&&pl (tD b)then .ok (.bl (!qD (tD a) (tD b)))else .q9:=rfl
 rw[this,CU,CU,D7];rfl
def eq_nil(l:List Nat):qc .eq (.q6 (l.map tD)) (.q6 [])=.ok (.bl l.isEmpty):=by
 have:qc .eq (.q6 (l.map tD)) (.q6 [])=if pl (.q6 (l.map tD))&&pl (.q6 [])then .ok (.bl (qD (.q6 (l.map tD)) (.q6 [])))else .q9:=rfl
 rw[this,Af];cases l with
 |nil=>simp[qD,z6,pl]
 |cons a l=>simp[qD,z6,pl]
def uv(so:List Nat)(m:Nat):Bool:=(so.filter λo=>!decide (o=m)&&(qZ o).all λe=>decide (e∈qZ m)).isEmpty
def pJ:L:=.comp 0 qC (.e qG) [(.e (.cm .mem qS (.call 30 [qG,qC])))]
def Sj:L:=.comp 0 qC (.e zV) [(.and (.e (.cm .ne qC zV)) (.e (.bi .all [(.comp 0 (.cm .mem qC jL) (.e qC) [])])))]
def Sh:List S:=[.set 6 Sj,.ifs (.e (.cm .eq jL (.q6 []))) [.app 2 (.qA [qp,qS])] []]
def Sk:List S:=[.set 5 pJ,.qw 0 [4] (.e zV) Sh]
def km(r d:D)(acc:List Wn)(t x s y:Option Sl):Ev.Env:=[wv r,wv d,Qa (.own (.q6 (acc.map wD))),t,x,s,y]
theorem pE{r d:D}{t:Nat}{so:List Nat}(uh:so.length<=32)(h5:∀m∈so,m<32):∀(ms:List Nat)(acc:List Wn)(x y:Option Sl),(∀m∈ms,m<32)->acc.length+ms.length<=1000->
  ∃x' y',zb (qN G q8 Sh) 0 [4] (ms.map tD) (km r d acc (wv (nI t)) x (wv (.q6 (so.map tD))) y)=
   .ok (km r d (acc++(ms.filter (uv so)).map λm=>(t,qZ m)) (wv (nI t)) x' (wv (.q6 (so.map tD))) y') .nx
 |[],acc,x,y,_,_=>⟨x,y,by rw[show acc++(([]:List Nat).filter (uv so)).map (λm=>(t,qZ m))=acc from Q3 _];rfl⟩
 |m::ms,acc,x,y,hm,hl=>by
  rw[QG]at hl
  let uD:=so.filter λo=>!decide (o=m)&&(qZ o).all λe=>decide (e∈qZ m)
  generalize hρ:km r d acc (wv (nI t)) (wv (tD m)) (wv (.q6 (so.map tD))) y=Z;have c:ev G q8 Sj Z=.ok (.q6 (uD.map tD)):=Rm (f:=tD) (by rw[<-hρ];rfl) (λo ho=>by refine FV (cA (jj (jO (x:=tD o) (y:=tD m) rfl (by rw[<-hρ];rfl) (q6N o m))) (jj ?_));exact iJ 0 5 (qZ o) (qZ m) ((λm h=>Qx (dw h) (by decide)) o (h5 o ho)) rfl (by rw[<-hρ];rfl)) (λ_ _ _=>rfl) ∅
  generalize hρ2:km r d acc (wv (nI t)) (wv (tD m)) (wv (.q6 (so.map tD))) (wv (.q6 (uD.map tD)))=ρ2;have s1:ex G q8 (.set 6 Sj) Z=.ok ρ2 .nx:=by rw[zh,c,qF,<-hρ,<-hρ2];rfl
  have ti:qz G q8 (.e (.cm .eq jL (.q6 []))) ρ2=.ok uD.isEmpty:=jj (jO (x:=.q6 (uD.map tD)) (y:=.q6 []) (by rw[<-hρ2];rfl) (xB (jW _) (by simp)) (eq_nil uD));have hb:uv so m=uD.isEmpty:=rfl;have s2:qN G q8 Sh Z=.ok (km r d (acc++([m].filter (uv so)).map λm=>(t,qZ m)) (wv (nI t)) (wv (tD m)) (wv (.q6 (so.map tD))) (wv (.q6 (uD.map tD)))) .nx:=by
   refine(qg s1).trans ?_;rw[jF,wJ,ti,qF];cases q:uD.isEmpty with
   |true=>
    rw[if_pos rfl];have a:qN G q8 [.app 2 (.qA [qp,qS])] ρ2=.ok (km r d (acc++[(t,qZ m)]) (wv (nI t)) (wv (tD m)) (wv (.q6 (so.map tD))) (wv (.q6 (uD.map tD)))) .nx:=by rw[jF,Ru,show ρ2[2]?=Qa (Qa (.own (.q6 (acc.map wD)))) by rw[<-hρ2];rfl];dsimp only;rw[kc (jw (x:=nI t) (y:=tD m) (by rw[<-hρ2];rfl) (by rw[<-hρ2];rfl)) (by simp),qF,if_pos (by rw[Qm,zt];lia),ja,za,<-hρ2];unfold km;rw[JA];rfl
    rw[a,ja,za];simp[hb,q]
   |false=>
    rw[if_neg (by simp),za,ja,za,<-hρ2];simp[hb,q]
  obtain⟨x',y',e⟩:=pE (so:=so) (r:=r) (d:=d) (t:=t) uh h5 ms (acc++([m].filter (uv so)).map λm=>(t,qZ m)) (wv (tD m)) (wv (.q6 (uD.map tD))) (λu hu=>hm u (Qc _ hu)) (by have:=QS (uv so) [m];rw[QT,Qm];simp at this;lia)
  refine⟨x',y',?_⟩;rw[Qw,jx,show YM (km r d acc (wv (nI t)) x (wv (.q6 (so.map tD))) y) 4 (wv (tD m))=Z from hρ,s2,v9,e];congr 2;rw[Jg,<-JA,<-U7];rfl
def yM(n:Nat)(ws:List Wn)(ds:List Nat)(t:Nat):List Nat:=ds.filter λm=>zS (qW n ws) m t
def yn(n:Nat)(ws:List Wn)(ds:List Nat)(t:Nat):List Wn:=((yM n ws ds t).filter (uv (yM n ws ds t))).map λm=>(t,qZ m)
theorem pH(g:Good n ws){ds:List Nat}(uc:ds.length<=32)(h5:∀m∈ds,m<32)(hJ:∀m,G 30 [rD n ws,tD m]=.ok (.q6 (nL (yl (qW n ws) m (2^n-1))))):∀(ts:List Nat)(acc:List Wn)(t x s y:Option Sl),acc.length+32*ts.length<=1000->
  ∃t' x' s' y',zb (qN G q8 Sk) 0 [3] (nL ts) (km (rD n ws) (.q6 (ds.map tD)) acc t x s y)=.ok (km (rD n ws) (.q6 (ds.map tD)) (acc++ts.flatMap (yn n ws ds)) t' x' s' y') .nx
 |[],acc,t,x,s,y,_=>⟨t,x,s,y,by rw[List.flatMap_nil,Q3];rfl⟩
 |u::ts,acc,t,x,s,y,hl=>by
  rw[QG]at hl;generalize hρ:km (rD n ws) (.q6 (ds.map tD)) acc (wv (nI u)) x s y=Z;have GL:(yM n ws ds u).length<=32:=Qx (QS _ _) uc;have ma:∀m∈yM n ws ds u,m<32:=λm hm=>h5 m (QO.mp hm).1;have c:ev G q8 pJ Z=.ok (.q6 ((yM n ws ds u).map tD)):=Rm (f:=tD) (by rw[<-hρ];rfl) (λm _=>by refine FV (jj (jO (x:=nI u) (y:=.q6 (nL (yl (qW n ws) m (2^n-1)))) (by rw[<-hρ];rfl) (kY (x:=rD n ws) (y:=tD m) (by rw[<-hρ];rfl) rfl (hJ m)) ?_));rw[rA,rC g]) (λ_ _ _=>rfl) ∅
  obtain⟨x2,y2,e2⟩:=pE (G:=G) (r:=rD n ws) (d:=.q6 (ds.map tD)) (t:=u) GL ma (yM n ws ds u) acc x y ma ∅;have s1:qN G q8 Sk Z=.ok (km (rD n ws) (.q6 (ds.map tD)) (acc++yn n ws ds u) (wv (nI u)) x2 (wv (.q6 ((yM n ws ds u).map tD))) y2) .nx:=by refine(qg (ρ':=km (rD n ws) (.q6 (ds.map tD)) acc (wv (nI u)) x (wv (.q6 ((yM n ws ds u).map tD))) y) (by rw[zh,c,qF,<-hρ];rfl)).trans ?_;refine(qg ?_).trans (za _);rw[vD,yc,show ev G q8 zV (km (rD n ws) (.q6 (ds.map tD)) acc (wv (nI u)) x (wv (.q6 ((yM n ws ds u).map tD))) y)=.ok (.q6 ((yM n ws ds u).map tD)) from rfl,qB,u9,qF,e2];rfl
  have xH:(yn n ws ds u).length<=32:=by unfold yn;rw[Qm];exact Qx (QS _ _) GL
  obtain⟨t',x',s',y',e⟩:=pH g uc h5 hJ ts (acc++yn n ws ds u) (wv (nI u)) x2 (wv (.q6 ((yM n ws ds u).map tD))) y2 (by rw[QT];lia);refine⟨t',x',s',y',?_⟩;rw[yI,jx,show YM (km (rD n ws) (.q6 (ds.map tD)) acc t x s y) 3 (wv (nI u))=Z from hρ,s1,v9,e,Vk,Jg]
def aJ{k:Nat}(hk:Rch (qW n ws) k)(hb:k.testBit t=Qh):zS (qW n ws) k t=Qd↔Rch (qW n ws) (k|||1<<<t):=by
 refine⟨λh=>.s hk h,λh=>?_⟩;have key:∀m,Rch (qW n ws) m->m.testBit t=Qd->∃j,zS (qW n ws) j t=Qd/\∀i,j.testBit i=Qd->m.testBit i=Qd/\i≠t:=λm hm=>by
  induction hm with
  |z=>intro h;simp at h
  |@s j u hj hu ih=>
   intro kg
   by_cases e:u=t
   .subst e;exact⟨j,hu,λi hi=>⟨by rw[we,hi];rfl,λe=>by subst e;rw[C9 hu]at hi;cases hi⟩⟩
   .rw[we,JS]at kg;obtain⟨j',h1,h2⟩:=ih (kg.resolve_right (by simp[e]));exact⟨j',h1,λi hi=>⟨by rw[we,(h2 i hi).1];rfl,(h2 i hi).2⟩⟩
 obtain⟨j,h1,h2⟩:=key _ h (by rw[we];simp);have hs:Sm j k:=λi hi=>by obtain⟨a,b⟩:=h2 i hi;rw[we,JS]at a;exact a.resolve_right (by simp[JQ b])
 rcases pv hs h1 with h|h
 .rw[hb]at h;cases h
 .exact h
def q5j:uv so m=Qd↔∀o∈so,Sm o m->o=m:=by
 unfold uv;rw[Q8,List.filter_eq_nil_iff];refine forall_congr' λo=>forall_congr' λho=>?_;rw[Qp,Qq];constructor
 .intro h hs;apply Ji;intro ne;exact h ⟨by simp[ne],λe he=>decide_eq_true (jZ.mpr (hs e (jZ.mp he)))⟩
 .rintro h ⟨h1,h2⟩;have:=h λi hi=>jZ.mp (of_decide_eq_true (h2 i (jZ.mpr hi)));rw[this]at h1;simp at h1
theorem Sz{p:Nat->Bool}:∀(ms acc:List Nat),acc.Pairwise (λa b=>¬Sm a b)->(xS p acc ms).Pairwise λa b=>¬Sm a b
 |[],acc,h=>h
 |m::ms,acc,h=>by
  unfold xS;split
  .rename_i q;refine Sz ms _ (VU.mpr ⟨h,ZZ _ _,λa ha b hb hs=>?_⟩);rw[QE.mp hb]at hs;rw[Qp,Jn,List.any_eq_false]at q;exact q.2 a ha (decide_eq_true (by rw[Hd];exact uQ.mpr hs))
  .exact Sz ms _ h
def q5k{p:Nat}(hp:p∈kO F t)(hx:x∈kO F t)(hs:Sm p x):p=x:=by
 have h1:(kO F t).Pairwise λa b=>¬Sm a b:=Sz _ _ Jt;obtain⟨l,g1,_,e⟩:=Pl (p:=wQ F t) (qZ F) [];have h2:(kO F t).Pairwise (·<·):=by rw[kO,e,YL];exact(EH F).sublist g1
 obtain⟨i,hi,ei⟩:=Ja hp;obtain⟨j,hj,ej⟩:=Ja hx;rcases Nat.lt_trichotomy i j with c|c|c
 .exact absurd (by rw[ei,ej];exact hs) (JB.mp h1 i j hi hj c)
 .subst c;rw[<-ei,ej]
 .have:=JB.mp h2 j i hj hi c;rw[ei,ej]at this;have:=q9A hs;lia
def q5l:x∈kO F t↔F.testBit x=Qd/\wQ F t x=Qd/\∀o,F.testBit o=Qd->wQ F t o=Qd->Sm o x->o=x:=by
 constructor
 .intro h;obtain⟨h1,h2⟩:=Pe h;refine⟨h1,h2,λo ho1 vQ hs=>?_⟩;obtain⟨p,hp,xI⟩:=Gz vQ (qZ F) [] (jZ.mpr ho1);have e:=q5k hp h (q0U xI hs);subst e;exact q0R hs xI
 .rintro⟨h1,h2,h3⟩;obtain⟨p,hp,xI⟩:=Gz h2 (qZ F) [] (jZ.mpr h1);obtain⟨g1,g2⟩:=Pe hp;have:=h3 p g1 g2 xI;subst this;exact hp
def q7R{w:Wn}(g:Good n ws)(hF:∀z,F.testBit z=Qd↔Rch (qW n ws) z):w∈yn n ws (qQ n ws) t↔w∈yt F t:=by
 have uh:∀m,m∈yM n ws (qQ n ws) t↔F.testBit m=Qd/\wQ F t m=Qd:=λm=>by unfold yM;rw[QO,TK g,hF];refine and_congr_right λhm=>?_;rw[wQ,Qp,Jn,hF];exact⟨λh=>⟨C9 h,(aJ hm (C9 h)).mp h⟩,λh=>(aJ hm h.1).mpr h.2⟩
 unfold yn yt;rw[Qn,Qn];refine exists_congr λm=>and_congr_left λ_=>?_;rw[QO,q5j,q5l,uh,and_assoc];exact and_congr_right λ_=>and_congr_right λ_=>⟨λh o h1 h2=>h o ((uh o).mpr ⟨h1,h2⟩),λh o ho=>h o ((uh o).mp ho).1 ((uh o).mp ho).2⟩
def LK(g:Good n ws):(qQ n ws).Nodup:=(RQ g.n5).filter _
def sy(g:Good n ws):((Qt n).flatMap (yn n ws (qQ n ws))).Nodup:=by refine He.mpr ⟨λt _=>Jd.mpr ((((LK g).filter _).filter _).imp λh e=>h (Fn (WI e).2)),Jo.imp λ{a b} kC x hx y hy e=>?_⟩;obtain⟨m,_,rfl⟩:=Qn.mp hx;obtain⟨k,_,rfl⟩:=Qn.mp hy;exact QK kC (WI e).1
def q3o(g:Good n ws)(o:Own n F us)(hF:∀z,F.testBit z=Qd↔Rch (qW n ws) z)(k:Nat):Gm (k+2) 34 [rD n ws,.q6 ((qQ n ws).map tD)]=.ok (rD n us):=by
 have hn:=o.Ep.n4;have mem:∀w,w∈(Qt n).flatMap (yn n ws (qQ n ws))↔w∈yu n F:=λw=>by unfold yu;rw[WV,WV];exact exists_congr λt=>and_congr_right λ_=>q7R g hF
 have qT:((Qt n).flatMap (yn n ws (qQ n ws))).length<=60:=by rw[((JN (sy g) (q1B o.Ep)).mpr mem).length_eq];have:=cO o.Ep (Qt n) λt h=>QN.mp h;rw[Q1]at this;unfold yu;lia
 refine D3 (q0b (by lia:n<=5) (λw hw=>q1A o.Ep w ((mem w).mp hw)) (sy g) qT) λvs gv hm hu es=>?_;have ev:=q11 hu o.up λw=>((hm w).trans (mem w)).trans (o.mem w).symm;subst ev;obtain⟨t',x',s',y',e⟩:=pH g (q2g g) (λm hm=>q2h g hm) (λm=>lF g k m) (Qt n) [] Qg Qg Qg Qg (by rw[Q1,Jz];lia);refine(zd (k+1) 34 _ 2 7 [.zY 2 (.q6 []),.qw 0 [3] (.rng [(.idx qC (kZ 0))]) Sk,.ret (.qA [(.idx qC (kZ 0)),(.bi .sorted [(.bor 2)])])] rfl rfl).trans ?_;refine jt (Z:=[wv (rD n ws),wv (.q6 ((qQ n ws).map tD)),Qg,Qg,Qg,Qg,Qg]) (ρ':=km (rD n ws) (.q6 ((qQ n ws).map tD)) ((Qt n).flatMap (yn n ws (qQ n ws))) t' x' s' y') rfl ?_;refine(qg (ρ':=km (rD n ws) (.q6 ((qQ n ws).map tD)) [] Qg Qg Qg Qg) (by rw[XG,xB (jW _) (by simp),qF];rfl)).trans ?_;refine(qg (ρ':=km (rD n ws) (.q6 ((qQ n ws).map tD)) ((Qt n).flatMap (yn n ws (qQ n ws))) t' x' s' y') (by rw[vD,wI,zN (uX 0 rfl),qB,uH n ∅,qF,e];rfl)).trans ?_
 exact jX (by rw[kL,kc (jw (uX 0 rfl) (by rw[jA,zN rfl,qB,es])) (by simp),qF];rfl)
def gq(g:Good n ws)(g':Good n us)(h:∀x,Rch (qW n us) x↔Rch (qW n ws) x):qQ n us=qQ n ws:=List.filter_congr λx _=>QR.mpr (by rw[Xq,Xq];exact h x)
end
section
variable{F:Nat}{ws:List Wn}
abbrev vf:=List (List Int×Int)
def eY(m:vf)(k:List Int)(v:Int)(j:List Int):zu (jm m k v) j=if j=k then Qa v else zu m j:=by
 induction m with
 |nil=>
  rw[jm,zu,zu]
  by_cases e:k=j
  .rw[if_pos e,if_pos e.symm]
  .rw[if_neg e,if_neg (JQ e)];rfl
 |cons p m ih=>
  obtain⟨a,b⟩:=p;rw[jm]
  by_cases c:a=k
  .rw[if_pos c,zu,zu]
   by_cases e:a=j
   .rw[if_pos e,if_pos (by rw[<-e,c])]
   .rw[if_neg e,if_neg (λz=>e (by rw[c,z])),if_neg e]
  .rw[if_neg c,zu,zu,ih]
   by_cases e:a=j
   .rw[if_pos e,if_pos e,if_neg (λz=>c (by rw[e,z]))]
   .rw[if_neg e,if_neg e]
def fO(m:vf)(k:List Int)(v:Int):(jm m k v).length<=m.length+1:=by
 induction m with
 |nil=>simp[jm]
 |cons p m ih=>
  obtain⟨a,b⟩:=p;rw[jm];split
  .simp
  .simp;lia
def vl(m:vf)(k:List Int):Int:=(zu m k).getD 0
def Pos(m:vf):Prop:=∀k v,zu m k=Qa v->0<v
def sh{m:vf}(p:Pos m)(h:0<vl m k):zu m k=Qa (vl m k):=by
 unfold vl at h|-;cases e:zu m k with
 |none=>rw[e]at h;simp at h
 |some v=>rfl
def cK(m:vf)(k:List Int)(v:Int)(j:List Int):vl (jm m k v) j=if j=k then v else vl m j:=by unfold vl;rw[eY];split<;>rfl
def sj{m:vf}{v:Int}(p:Pos m)(h:0<v):Pos (jm m k v):=λj u e=>by
 rw[eY]at e;split at e
 .cases e;exact h
 .exact p j u e
def kI(t x:Nat):List Int:=[(t:Int),(x:Int)]
def kK(t x:Nat):D:=.qA [nI t,nI x]
def GS(t x:Nat):vo (kK t x)=.ok (kI t x):=by simp[vo,kK,kI,ints?,nI]
def SF{u y:Nat}(h:kI t x=kI u y):t=u/\x=y:=by simp[kI]at h;exact⟨∅,∅⟩
def jR(w:Wn)(ks:List Nat):List Nat:=ks.filter λx=>decide (x&&&z9 0 w.2=z9 0 w.2)&&!x.testBit w.1
def keysOf(ks:List Nat)(w:Wn):List (List Int):=(jR w ks).map (kI w.1)
def AR{w:Wn}:x∈jR w ks↔x∈ks/\w.2.all x.testBit=Qd/\x.testBit w.1=Qh:=by
 unfold jR;rw[QO,Qp,decide_eq_true_eq,Jn,Hd,uQ,Qq];refine and_congr_right λ_=>and_congr_left λ_=>⟨λh e he=>h e (by rw[wC];exact decide_eq_true he),λh i hi=>?_⟩
 rw[wC]at hi;exact h i (of_decide_eq_true hi)
def iE(a b:Nat):qc .eq (nI a) (nI b)=.ok (.bl (decide (a=b))):=by
 have:qc .eq (nI a) (nI b)=if pl (nI a)&&pl (nI b)then .ok (.bl (qD (nI a) (nI b)))else .q9:=rfl
 rw[this];simp[nI,pl,qK,qD];lia
def lH(k:Nat){w:Wn}(hw:GoodW n w)(hn:n<=5)(hl:ks.length<=32):Gm (k+2) 24 [wD w,.qJ (nL ks) v]=.ok (.q6 ((jR w ks).map (kK w.1))):=by
 refine(zd (k+1) 24 _ 2 4 SP rfl rfl).trans ?_;refine jt (Z:=[wv (wD w),wv (.qJ (nL ks) v),Qg,Qg]) (ρ':=[wv (wD w),wv (.qJ (nL ks) v),wv (nI w.1),wv (nI (z9 0 w.2))]) rfl ?_;have i0:jo (wD w) (.int 0)=.ok (nI w.1):=yB _ _;have i1:jo (wD w) (.int 1)=.ok (.qA (nL w.2)):=u6 _ _ _;refine(qg (ρ':=[wv (wD w),wv (.qJ (nL ks) v),wv (nI w.1),Qg]) (by rw[zh,xn];simp[i0])).trans ?_;refine(qg (ρ':=[wv (wD w),wv (.qJ (nL ks) v),wv (nI w.1),wv (nI (z9 0 w.2))]) ?_).trans ?_
 .have e:Gm (k+1) 0 [.qA (nL w.2)]=.ok (nI (z9 0 w.2)):=lG k w.2 (λt ht=>by have:=hw.2.1.2 t ht;lia) _ (.inl rfl);rw[zh,vC,zN (x:=.qA (nL w.2)) (by rw[xn];simp[i1]),qB,e,qF];rfl
 .generalize hρ:[Qa (Sl.val (wD w)),wv (.qJ (nL ks) v),wv (nI w.1),wv (nI (z9 0 w.2))]=Z;refine jX ?_;rw[kL,Rm (f:=nI) (g:=kK w.1) (l:=ks) (p:=λx=>decide (x&&&z9 0 w.2=z9 0 w.2)&&!x.testBit w.1) (by rw[<-hρ];simp;rfl) (λx _=>?_) (λx _ _=>?_) ∅,qF]
  .rfl
  .refine FV (cA (jj (jO (x:=nI (x&&&z9 0 w.2)) (y:=nI (z9 0 w.2)) ?_ (by rw[<-hρ];rfl) (iE _ _))) ?_)
   .have:zD .band (nI x) (nI (z9 0 w.2))=.ok (nI (x&&&z9 0 w.2)):=dQ _ _;rw[<-hρ,zT];simp[this]
   .rw[IF,jj (kY (x:=nI x) (y:=nI w.1) rfl (by rw[<-hρ];rfl) (Ez k x w.1)),qB]
  .exact kc (jw (x:=nI w.1) (y:=nI x) (by rw[<-hρ];rfl) rfl) (by simp)
def AM:List S:=[.putC 2 qS (.op .add (.getC 2 qS (kZ 0)) (kZ 1))]
def CJ:List S:=[.qw 0 [4] (.e (.call 24 [qp,qG])) AM]
def kP(a b:D)(m:vf)(c x:Option Sl):Ev.Env:=[wv a,wv b,Qa (.jy m),c,x]
theorem sJ{a b:D}{t:Nat}{c:Option Sl}:∀(xs:List Nat)(m:vf)(x:Option Sl),m.length+xs.length<=100000->Pos m->
  ∃m' x',zb (qN G q8 AM) 0 [4] (xs.map (kK t)) (kP a b m c x)=.ok (kP a b m' c x') .nx/\m'.length<=m.length+xs.length/\Pos m'/\∀j,vl m' j=vl m j+(xs.map (kI t)).count j
 |[],m,x,_,p=>⟨m,x,rfl,by simp,p,λj=>by simp⟩
 |y::xs,m,x,hl,p=>by
  rw[QG]at hl;have hv:0<=vl m (kI t y):=by
   unfold vl;cases e:zu m (kI t y)with
   |none=>exact Int.le_refl _
   |some v=>exact Int.le_of_lt (p _ _ e)
  have qT:=fO m (kI t y) (vl m (kI t y)+1);have s:qN G q8 AM (kP a b m c (wv (kK t y)))=.ok (kP a b (jm m (kI t y) (vl m (kI t y)+1)) c (wv (kK t y))) .nx:=by
   have v4:ev G q8 qS (kP a b m c (wv (kK t y)))=.ok (kK t y):=rfl;have gt:wK (kP a b m c (wv (kK t y))) 2=.ok m:=rfl;have g:ev G q8 (.getC 2 qS (kZ 0)) (kP a b m c (wv (kK t y)))=.ok (.int (vl m (kI t y))):=by rw[iN,gt,qB,v4,qB,zf,qB];unfold intD;dsimp only;rw[GS,qB];rfl
   have ad:ev G q8 (.op .add (.getC 2 qS (kZ 0)) (kZ 1)) (kP a b m c (wv (kK t y)))=.ok (.int (vl m (kI t y)+1)):=by rw[zT,g,qB,zf,qB];rfl
   unfold AM;rw[jF,ic,ad,qF,gt,qF,v4,qF,GS,qF];dsimp only;rw[if_pos (by rw[zt];lia),ja,za];rfl
  obtain⟨m',x',e,h1,h2,h3⟩:=sJ xs (jm m (kI t y) (vl m (kI t y)+1)) (wv (kK t y)) ∅ (sj p ∅);refine⟨m',x',?_,by rw[QG];lia,h2,λj=>?_⟩
  .rw[Qw,jx,show YM (kP a b m c x) 4 (wv (kK t y))=kP a b m c (wv (kK t y)) from rfl,s,v9,e]
  .rw[h3,cK,Qw,List.count_cons]
   by_cases c:j=kI t y
   .subst c;simp;lia
   .rw[if_neg c];have:(kI t y==j)=Qh:=(by simpa using JQ c);simp[this]
def sP(w:Wn)(ks:List Nat):(jR w ks).length<=ks.length:=QS _ _
theorem sL{a:D}{ks:List Nat}{v:List D}(hn:n<=5)(hk:ks.length<=32)(Rq:∀w,GoodW n w->G 24 [wD w,.qJ (nL ks) v]=.ok (.q6 ((jR w ks).map (kK w.1)))):∀(ws:List Wn)(m:vf)(c x:Option Sl),(∀w∈ws,GoodW n w)->m.length+32*ws.length<=100000->Pos m->
  ∃m' c' x',zb (qN G q8 CJ) 0 [3] (ws.map wD) (kP a (.qJ (nL ks) v) m c x)=.ok (kP a (.qJ (nL ks) v) m' c' x') .nx/\m'.length<=m.length+32*ws.length/\Pos m'/\∀j,vl m' j=vl m j+(ws.flatMap (keysOf ks)).count j
 |[],m,c,x,_,_,p=>⟨m,c,x,rfl,by simp,p,λj=>by simp⟩
 |w::ws,m,c,x,hg,hl,p=>by
  rw[QG]at hl;have ho:=sP w ks;obtain⟨m1,x1,e1,l1,p1,v1⟩:=sJ (jR w ks) m x ∅ p;obtain⟨m2,c2,x2,e2,l2,p2,v2⟩:=sL hn hk Rq ws m1 (wv (wD w)) x1 (λu hu=>hg u (Qc _ hu)) ∅ p1;refine⟨m2,c2,x2,?_,by rw[QG];lia,p2,λj=>?_⟩
  .have s:qN G q8 CJ (kP a (.qJ (nL ks) v) m (wv (wD w)) x)=.ok (kP a (.qJ (nL ks) v) m1 (wv (wD w)) x1) .nx:=by unfold CJ;rw[jF,vD,yc,kY rfl rfl (Rq w (hg w Qe)),qB,u9,qF,e1,ja,za]
   rw[Qw,jx,show YM (kP a (.qJ (nL ks) v) m c x) 3 (wv (wD w))=kP a (.qJ (nL ks) v) m (wv (wD w)) x from rfl,s,v9,e2]
  .rw[v2,v1,Vk,List.count_append,keysOf];simp;lia
def q3s(k:Nat)(hn:n<=5)(hk:ks.length<=32)(hg:∀w∈ws,GoodW n w)(hl:ws.length<=60):
  ∃m:vf,Gm (k+3) 23 [.q6 (ws.map wD),.qJ (nL ks) v]=.ok (yZ m)/\m.length<=1920/\Pos m/\∀j,vl m j=(ws.flatMap (keysOf ks)).count j:=by
 obtain⟨m,c,x,e,l,p,h⟩:=sL hn hk (λw hw=>lH k hw hn hk) ws [] Qg Qg hg (by simp;lia) (λk v h=>by cases h);refine⟨m,?_,by simp at l;lia,p,λj=>by rw[h];simp[vl,zu]⟩;refine(q1D (k+2) 23 _ 2 5 [.setC 2,.qw 0 [3] (.e qC) CJ,.retF 2] rfl rfl).trans ?_;unfold Ev.Py;have e0:qN (Gm (k+2)) q8 [.setC 2,.qw 0 [3] (.e qC) CJ,.retF 2] [wv (.q6 (ws.map wD)),wv (.qJ (nL ks) v),Qg,Qg,Qg]=.ok [wv (.q6 (ws.map wD)),wv (.qJ (nL ks) v),Qg,c,x] (.wU (yZ m)):=by refine(qg (ρ':=kP (.q6 (ws.map wD)) (.qJ (nL ks) v) [] Qg Qg) rfl).trans ?_;refine(qg (ρ':=kP (.q6 (ws.map wD)) (.qJ (nL ks) v) m c x) (by rw[vD,yc,show ev (Gm (k+2)) q8 qC (kP (.q6 (ws.map wD)) (.qJ (nL ks) v) [] Qg Qg)=.ok (.q6 (ws.map wD)) from rfl,qB,u9,qF,e])).trans ?_;rfl
 show(match qN (Gm (k+2)) q8 _ [wv (.q6 (ws.map wD)),wv (.qJ (nL ks) v),Qg,Qg,Qg]with
  |.ok _ (.wU d)=>R.ok d
  |.err c _=>.err c
  |_=>.q9)=_
 rw[e0]
theorem nG:∀k:List Int,ints? (k.map D.int)=Qa k
 |[]=>rfl
 |i::k=>by simp[ints?,nG k]
def L5(m:vf):xk (yZ m)=Qa m:=by
 unfold xk yZ;show xk.go (m.map λx=>.qA (x.1.map .int)) (m.map λx=>.int x.2)=Qa m
 induction m with
 |nil=>rfl
 |cons p m ih=>
  obtain⟨k,v⟩:=p;rw[Qw,Qw,xk.go,nG];simp only[Option.bind_some,ih,Uk]
end
section
variable{F:Nat}{ws:List Wn}
def Az:List S:=[.augC 2 .sub jL (kZ 1)]
def bc:L:=.bi .all [(.comp 0 (.cm .gt (.idxC 3 qC) (kZ 1)) (.e zV) [])]
def Ay:List S:=[.set 5 (.call 24 [qS,qG]),.ifs (.e bc) [.qw 0 [6] (.e zV) Az] [.app 3 qS]]
def jc(r f:D)(m:vf)(K:List Wn)(a b c:Option Sl):Ev.Env:=[wv r,wv f,Qa (.jy m),Qa (.own (.q6 (K.map wD))),a,b,c]
theorem gm{r f:D}{K:List Wn}{a b:Option Sl}{t:Nat}:∀(xs:List Nat)(m:vf)(x:Option Sl),m.length+xs.length<=100000->Pos m->xs.Nodup->(∀x∈xs,1<vl m (kI t x))->
  ∃m' x',zb (qN G q8 Az) 0 [6] (xs.map (kK t)) (jc r f m K a b x)=.ok (jc r f m' K a b x') .nx/\m'.length<=m.length+xs.length/\Pos m'/\∀j,vl m' j=vl m j-(xs.map (kI t)).count j
 |[],m,x,_,p,_,_=>⟨m,x,rfl,by simp,p,λj=>by simp⟩
 |y::xs,m,x,hl,p,nd,hv=>by
  rw[QG]at hl;have h1:=hv y Qe;have jQ:=QQ.mp nd;have qT:=fO m (kI t y) (vl m (kI t y)-1);have s:qN G q8 Az (jc r f m K a b (wv (kK t y)))=.ok (jc r f (jm m (kI t y) (vl m (kI t y)-1)) K a b (wv (kK t y))) .nx:=by have v4:ev G q8 jL (jc r f m K a b (wv (kK t y)))=.ok (kK t y):=rfl;have gt:wK (jc r f m K a b (wv (kK t y))) 2=.ok m:=rfl;have cg:=sh p (k:=kI t y) ∅;unfold Az;rw[jF,iZ,gt,qF,v4,qF,GS,qF,cg];dsimp only;rw[zf,qF,show yW .sub (.int (vl m (kI t y))) (.int 1)=.ok (.int (vl m (kI t y)-1)) from rfl,qF];dsimp only;rw[if_pos (by rw[zt];lia),ja,za];rfl
  obtain⟨m',x',e,g1,g2,g3⟩:=gm xs (jm m (kI t y) (vl m (kI t y)-1)) (wv (kK t y)) ∅ (sj p ∅) jQ.2 (λz hz=>by rw[cK,if_neg (λe=>jQ.1 (by have:=(SF e).2;subst this;exact hz))];exact hv z (Qc _ hz))
  refine⟨m',x',?_,by rw[QG];lia,g2,λj=>?_⟩
  .rw[Qw,jx,show YM (jc r f m K a b x) 6 (wv (kK t y))=jc r f m K a b (wv (kK t y)) from rfl,s,v9,e]
  .rw[g3,cK,Qw,List.count_cons]
   by_cases c:j=kI t y
   .subst c;simp;lia
   .rw[if_neg c];have:(kI t y==j)=Qh:=(by simpa using JQ c);simp[this]
def wF(ks:List Nat)(l:List Wn)(j:List Int):Nat:=(l.flatMap (keysOf ks)).count j
def Rk(ks:List Nat)(l m:List Wn)(j:List Int):wF ks (l++m) j=wF ks l j+wF ks m j:=by unfold wF;rw[List.flatMap_append,List.count_append]
def fH(ks:List Nat)(w:Wn)(j:List Int):wF ks [w] j=(keysOf ks w).count j:=by unfold wF;simp
def q5O{w:Wn}(hd:ks.Nodup)(h:x∈jR w ks):(keysOf ks w).count (kI w.1 x)=1:=by exact Nat.le_antisymm (List.nodup_iff_count.mp (Jd.mpr ((hd.filter _).imp λh e=>h (SF e).2)) _) (List.count_pos_iff.mpr (Qn.mpr ⟨x,h,rfl⟩))
def fG{l:List Wn}:0<wF ks l (kI t x)↔∃w∈l,w.1=t/\x∈jR w ks:=by
 unfold wF;rw[List.count_pos_iff,WV];refine exists_congr λw=>and_congr_right λ_=>?_;unfold keysOf;rw[Qn];constructor
 .rintro⟨y,hy,e⟩;obtain⟨rfl,rfl⟩:=SF e;exact⟨rfl,hy⟩
 .rintro⟨rfl,h⟩;exact⟨x,h,rfl⟩
noncomputable def FT(ks:List Nat):List Wn->List Wn->List Wn
 |[],kp=>kp
 |w::rp,kp=>if((jR w ks).all λx=>decide (0<wF ks (rp.reverse++kp) (kI w.1 x)))=Qd then FT ks rp kp else FT ks rp (w::kp)
def gt1(a:Int):qc .gt (.int a) (.int 1)=.ok (.bl (decide (1<a))):=by have:qc .gt (.int a) (.int 1)=.ok (.bl (decide (a>1))):=rfl;rw[this]
theorem ba{r:D}{ks:List Nat}{v:List D}(hk:ks.length<=32)(hd:ks.Nodup)(Rq:∀w,GoodW n w->G 24 [wD w,.qJ (nL ks) v]=.ok (.q6 ((jR w ks).map (kK w.1)))):∀(rp kp:List Wn)(m:vf)(a b c:Option Sl),(∀w∈rp,GoodW n w)->m.length+32*rp.length<=100000->kp.length+rp.length<=1000->Pos m->(∀j,vl m j=wF ks (rp.reverse++kp) j)->
  ∃m' a' b' c',zb (qN G q8 Ay) 0 [4] (rp.map wD) (jc r (.qJ (nL ks) v) m kp.reverse a b c)=.ok (jc r (.qJ (nL ks) v) m' (FT ks rp kp).reverse a' b' c') .nx
 |[],kp,m,a,b,c,_,_,_,_,_=>⟨m,a,b,c,rfl⟩
 |w::rp,kp,m,a,b,c,hg,hl,PA,p,hv=>by
  rw[QG]at hl PA;have ho:=sP w ks;have Ol:∀x∈jR w ks,vl m (kI w.1 x)=1+wF ks (rp.reverse++kp) (kI w.1 x):=λx hx=>by rw[hv,Jm,Jg,Rk,Rk,Rk,fH,q5O hd hx];lia
  generalize hρ:jc r (.qJ (nL ks) v) m kp.reverse (wv (wD w)) (wv (.q6 ((jR w ks).map (kK w.1)))) c=Z;have s1:ex G q8 (.set 5 (.call 24 [qS,qG])) (jc r (.qJ (nL ks) v) m kp.reverse (wv (wD w)) b c)=.ok Z .nx:=by rw[zh,kY (x:=wD w) (y:=.qJ (nL ks) v) rfl rfl (Rq w (hg w Qe)),qF,<-hρ];rfl
  have hc:ev G q8 (.comp 0 (.cm .gt (.idxC 3 qC) (kZ 1)) (.e zV) []) Z=.ok (.q6 ((jR w ks).map λx=>.bl (decide (1<vl m (kI w.1 x))))):=comp_map (f:=kK w.1) (by rw[<-hρ];rfl) (λx hx=>by have cg:=sh p (k:=kI w.1 x) (by have:=Ol x hx;lia);have gt:wK (wv (kK w.1 x)::Z) 3=.ok m:=(by rw[<-hρ];rfl);refine jO (x:=.int (vl m (kI w.1 x))) (y:=.int 1) ?_ rfl (gt1 _);rw[iO,gt,qB,show ev G q8 qC (wv (kK w.1 x)::Z)=.ok (kK w.1 x) from rfl,qB,GS,qB,cg]) ∅
  have ht:qz G q8 (.e bc) Z=.ok ((jR w ks).all λx=>decide (0<wF ks (rp.reverse++kp) (kI w.1 x))):=by refine jj ?_;unfold bc;rw[jA,zN hc,qB,dZ,EK];show R.ok (D.bl _)=_;congr 2;rw[WB];refine QR.mpr ?_;rw[Qq,Qq];refine forall_congr' λx=>forall_congr' λhx=>?_;have:=Ol x hx;simp;lia
  rw[Qw,jx,show YM (jc r (.qJ (nL ks) v) m kp.reverse a b c) 4 (wv (wD w))=jc r (.qJ (nL ks) v) m kp.reverse (wv (wD w)) b c from rfl];rw[FT]
  by_cases q:((jR w ks).all λx=>decide (0<wF ks (rp.reverse++kp) (kI w.1 x)))=Qd
  .rw[if_pos q];obtain⟨m1,x1,e1,l1,p1,v1⟩:=gm (G:=G) (r:=r) (f:=.qJ (nL ks) v) (K:=kp.reverse) (a:=wv (wD w)) (b:=wv (.q6 ((jR w ks).map (kK w.1)))) (t:=w.1) (jR w ks) m c ∅ p (hd.filter _) (λx hx=>by have h1:=of_decide_eq_true ((Qq.mp q) x hx);have:=Ol x hx;lia)
   have s2:qN G q8 Ay (jc r (.qJ (nL ks) v) m kp.reverse (wv (wD w)) b c)=.ok (jc r (.qJ (nL ks) v) m1 kp.reverse (wv (wD w)) (wv (.q6 ((jR w ks).map (kK w.1)))) x1) .nx:=by refine(qg s1).trans ?_;rw[jF,wJ,ht,qF,if_pos q,jF,vD,yc,show ev G q8 zV Z=.ok (.q6 ((jR w ks).map (kK w.1))) by rw[<-hρ];rfl,qB,u9,qF,<-hρ,e1,ja,za,ja,za]
   obtain⟨m2,a2,b2,c2,e2⟩:=ba (r:=r) (v:=v) hk hd Rq rp kp m1 (wv (wD w)) (wv (.q6 ((jR w ks).map (kK w.1)))) x1 (λu hu=>hg u (Qc _ hu)) ∅ ∅ p1 (λj=>by rw[v1,hv,Jm,Jg,Rk,Rk,Rk,fH,keysOf];lia)
   exact⟨m2,a2,b2,c2,by rw[s2,v9,e2]⟩
  .rw[if_neg q];have s2:qN G q8 Ay (jc r (.qJ (nL ks) v) m kp.reverse (wv (wD w)) b c)=.ok (jc r (.qJ (nL ks) v) m (w::kp).reverse (wv (wD w)) (wv (.q6 ((jR w ks).map (kK w.1)))) c) .nx:=by refine(qg s1).trans ?_;rw[jF,wJ,ht,qF,(Yq.mpr q),if_neg (by simp),jF,Ru,show Z[3]?=Qa (Qa (.own (.q6 (kp.reverse.map wD)))) by rw[<-hρ];rfl];dsimp only;rw[show ev G q8 qS Z=.ok (wD w) by rw[<-hρ];rfl,qF,if_pos (by rw[Qm,Yb,zt];lia),ja,za,ja,za,<-hρ];unfold jc;rw[Jm,JA];rfl
   obtain⟨m2,a2,b2,c2,e2⟩:=ba (r:=r) (v:=v) hk hd Rq rp (w::kp) m (wv (wD w)) (wv (.q6 ((jR w ks).map (kK w.1)))) c (λu hu=>hg u (Qc _ hu)) ∅ (by rw[QG];lia) p (λj=>by rw[hv,Jm,Jg];rfl)
   exact⟨m2,a2,b2,c2,by rw[s2,v9,e2]⟩
end
section
variable{F:Nat}{ws:List Wn}
def goodW(g:Good n ws):∀w∈ws,GoodW n w:=λw hw=>E0.mp (g.ok w hw)
def DJ{l:List Wn}(g:Good n ws)(u:Up ws)(h:l.Sublist ws):Good n l/\Up l:=by have u':=J7 (h.map wD) u;exact⟨q12 g.n5 (Qx h.length_le g.len) (λw hw=>goodW g w (h.subset hw)) u',u'⟩
def RB{k:Nat}(hA:∀w∈A,w.1<n):zS (qW n A) k t=Qd↔k.testBit t=Qh/\∃w∈A,w.1=t/\w.2.all k.testBit=Qd:=by rw[aK hA,Qp,Jn,Jc];refine and_congr_right λ_=>exists_congr λw=>and_congr_right λ_=>?_;rw[Qp,decide_eq_true_eq]
def q7i(hA:∀w∈A,w.1<n)(h:∀w∈B,w∈A)(hm:Rch (qW n B) m):Rch (qW n A) m:=by
 induction hm with
 |z=>exact .z
 |s hk hu ih=>
  obtain⟨h1,w,hw,h2⟩:=(RB λw hw=>hA w (h w hw)).mp hu;exact .s ih ((RB hA).mpr ⟨h1,w,h w hw,h2⟩)
def Fz(gA:Good n A)(gB:Good n B):qQ n A=qQ n B↔∀x,Rch (qW n A) x↔Rch (qW n B) x:=
 ⟨λh x=>by rw[<-TK gA,h,TK gB],λh=>gq gB gA h⟩
def q9L{w:Wn}(gW:Good n ws)(gA:Good n A)(gB:Good n B)(hk:∀x,x∈ks↔Rch (qW n ws) x)(hA:∀v,v∈A↔v=w\/v∈B)(hR:∀x,Rch (qW n A) x↔Rch (qW n ws) x):
  ((jR w ks).all λx=>decide (0<wF ks B (kI w.1 x)))=Qd↔qQ n B=qQ n ws:=by
 have lA:=G2 gA;have lB:=G2 gB;rw[Fz gB gW,Qq];constructor
 .intro h x;refine⟨λhx=>(hR x).mp (q7i lA (λv hv=>(hA v).mpr (.inr hv)) hx),λmr=>?_⟩;have hx:=(hR x).mpr mr;clear mr
  induction hx with
  |z=>exact .z
  |@s k t G9 hu ih=>
   obtain⟨h1,v,hv,h2,h3⟩:=(RB lA).mp hu;rcases(hA v).mp hv with rfl|hv
   .have ho:k∈jR v ks:=AR.mpr ⟨(hk k).mpr ((hR k).mp G9),h3,by rw[h2];exact h1⟩;obtain⟨v',yA,h4,h5⟩:=fG.mp (of_decide_eq_true (h k ho));exact .s ih ((RB lB).mpr ⟨h1,v',yA,h4.trans h2,(AR.mp h5).2.1⟩)
   .exact .s ih ((RB lB).mpr ⟨h1,v,hv,h2,h3⟩)
 .intro h x hx;obtain⟨h1,h2,h3⟩:=AR.mp hx;have mw:=(hk x).mp h1;obtain⟨_,v,hv,h4,h5⟩:=(RB lB).mp ((aJ ((h x).mpr mw) h3).mpr ((h _).mpr ((hR _).mp (.s ((hR x).mpr mw) ((RB lA).mpr ⟨h3,w,(hA w).mpr (.inl rfl),rfl,h2⟩)))));exact decide_eq_true (fG.mpr ⟨v,hv,h4,AR.mpr ⟨h1,h5,by rw[h4];exact h3⟩⟩)
noncomputable def vK(n:Nat)(ws:List Wn):List Wn->List Wn->List Wn
 |[],kp=>kp
 |w::rp,kp=>if qQ n (rp.reverse++kp)=qQ n ws then vK n ws rp kp else vK n ws rp (w::kp)
theorem bf{ks:List Nat}(g:Good n ws)(u:Up ws)(hk:∀x,x∈ks↔Rch (qW n ws) x):∀(rp kp:List Wn),(rp.reverse++kp).Sublist ws->(∀x,Rch (qW n (rp.reverse++kp)) x↔Rch (qW n ws) x)->FT ks rp kp=vK n ws rp kp
 |[],kp,_,_=>rfl
 |w::rp,kp,hs,hR=>by
  rw[Jm,Jg]at hs hR;have xy:(rp.reverse++kp).Sublist ws:=ZE ((US rp.reverse).append (FI w kp)) hs;have gB:=(DJ g u xy).1;have key:=q9L (w:=w) g ((DJ g u hs).1) gB hk (λv=>by simp;constructor<;>(rintro(h|h|h)<;>simp[h])) hR;rw[FT,vK]
  by_cases c:qQ n (rp.reverse++kp)=qQ n ws
  .rw[if_pos (key.mpr c),if_pos c];exact bf g u hk rp kp xy ((Fz gB g).mp c)
  .rw[if_neg (λz=>c (key.mp z)),if_neg c];exact bf g u hk rp (w::kp) hs hR
def q3x(g:Good n ws)(u:Up ws)(k:Nat):Gm (k+6) 22 [rD n ws]=.ok (rD n (vK n ws ws.reverse [])):=by
 have hn:=g.n5;refine qV (G3 g k) λks hd hk e=>?_;have XS:ks.length<=32:=Qx (vx (2^n) _ hd λx hx=>tK ((hk x).mp hx)) (Qx (Q6 (by decide) hn) (by decide));have qT:=g.len;refine D3 (q3s (k+2) hn (v:=k7 ks.length) XS (goodW g) qT) λm em ml mp mv=>?_;obtain⟨m',a',b',c',el⟩:=ba (G:=Gm (k+5)) (r:=rD n ws) (v:=k7 ks.length) XS hd (λw hw=>lH (k+3) hw hn XS) ws.reverse [] m Qg Qg Qg (λw hw=>goodW g w (List.mem_reverse.mp hw)) (by rw[Yb];lia) (by rw[Yb,Jz];lia) mp (λj=>by rw[mv,Yr,Q3];rfl);rw[bf g u hk ws.reverse [] (by rw[Yr,Q3];exact US _) (λx=>by rw[Yr,Q3])]at el;refine(zd (k+5) 22 _ 1 7 [.set 1 (.call 14 [qC]),.setF 2 23 [(.idx qC (kZ 1)),qG],.zY 3 (.q6 []),.qw 0 [4] (.rev (.idx qC (kZ 1))) Ay,.ret (.qA [(.idx qC (kZ 0)),(.revL (.bor 3))])] rfl rfl).trans ?_;generalize hf:D.qJ (nL ks) (k7 ks.length)=f at e em el;refine jt (Z:=[wv (rD n ws),Qg,Qg,Qg,Qg,Qg,Qg]) (ρ':=jc (rD n ws) f m' (vK n ws ws.reverse []).reverse a' b' c') rfl ?_;refine(qg (ρ':=[wv (rD n ws),wv f,Qg,Qg,Qg,Qg,Qg]) (by rw[zh,vC,zN (x:=rD n ws) rfl,qB,e,qF];rfl)).trans ?_;refine(qg (ρ':=[wv (rD n ws),wv f,Qa (.jy m),Qg,Qg,Qg,Qg]) (by rw[ie,jw (x:=.q6 (ws.map wD)) (y:=f) (Em 0 rfl) rfl,qF,em,qF,L5];rfl)).trans ?_
 refine(qg (ρ':=jc (rD n ws) f m ([]:List Wn).reverse Qg Qg Qg) (by rw[XG,xB (jW _) (by simp),qF];rfl)).trans ?_;refine(qg (ρ':=jc (rD n ws) f m' (vK n ws ws.reverse []).reverse a' b' c') (by rw[vD,iY,Em (n:=n) (ws:=ws) 0 rfl,qB,show Ak (.q6 (ws.map wD))=.ok (ws.reverse.map wD) by rw[WW];rfl,qF,el])).trans ?_
 have v2:ev (Gm (k+5)) q8 (.revL (.bor 3)) (jc (rD n ws) f m' (vK n ws ws.reverse []).reverse a' b' c')=.ok (.q6 ((vK n ws ws.reverse []).map wD)):=by rw[iU,show ev (Gm (k+5)) q8 (.bor 3) (jc (rD n ws) f m' (vK n ws ws.reverse []).reverse a' b' c')=.ok (.q6 ((vK n ws ws.reverse []).reverse.map wD)) from rfl,qB];show(R.ok ((vK n ws ws.reverse []).reverse.map wD).reverse).bind _=_;rw[qB,<-WW,Yr]
 exact jX (by rw[kL,kc (jw (x:=nI n) (uX 0 rfl) v2) (by simp),qF];rfl)
def q6O(v w:Wn):qc .ne (wD v) (wD w)=.ok (.bl (!decide (v=w))):=by
 have:qc .ne (wD v) (wD w)=if pl (wD v)&&pl (wD w)then .ok (.bl (!qD (wD v) (wD w)))else .q9:=rfl
 have pw:∀w:Wn,pl (wD w)=Qd:=λw=>by rw[<-yT];exact RJ _
 rw[this,pw,pw];have:qD (wD v) (wD w)=decide (v=w):=by rw[QR,jN (xK v) (xK w),decide_eq_true_eq];exact⟨Cz,λh=>by rw[h]⟩
 rw[this];rfl
theorem iG:∀a b:List Nat,z6 (a.map tD) (b.map tD)=decide (a=b)
 |[],[]=>by simp[z6]
 |[],_::_=>by simp[z6]
 |_::_,[]=>by simp[z6]
 |x::a,y::b=>by rw[Qw,Qw,z6,D7,iG a b,QR];simp
def iC(a b:List Nat):qc .eq (.q6 (a.map tD)) (.q6 (b.map tD))=.ok (.bl (decide (a=b))):=by
 have:qc .eq (.q6 (a.map tD)) (.q6 (b.map tD))=if pl (.q6 (a.map tD))&&pl (.q6 (b.map tD))then .ok (.bl (qD (.q6 (a.map tD)) (.q6 (b.map tD))))else .q9:=rfl
 rw[this,Af,Af,qD,iG];rfl
def Sw:L:=.comp 0 qC (.e qO) [(.e (.cm .ne qC qS))]
def pL:L:=.cm .eq (.call 31 [(.qA [(.idx qC (kZ 0)),qS])]) qG
def Gx:List S:=[.set 4 Sw,.ifs (.e pL) [.set 2 qS] []]
def uF(n:Nat)(ws:List Wn)(ds:List Nat)(cur:List Wn)(a b:Option Sl):Ev.Env:=[wv (rD n ws),wv (.q6 (ds.map tD)),wv (.q6 (cur.map wD)),a,b]
theorem Sx(g:Good n ws)(u:Up ws)(k:Nat):∀(rp kp:List Wn)(a b:Option Sl),(rp.reverse++kp).Sublist ws->
  ∃a' b',zb (qN (Gm (k+2)) q8 Gx) 0 [3] (rp.map wD) (uF n ws (qQ n ws) (rp.reverse++kp) a b)=.ok (uF n ws (qQ n ws) (vK n ws rp kp) a' b') .nx
 |[],kp,a,b,_=>⟨a,b,rfl⟩
 |w::rp,kp,a,b,hs=>by
  have hs0:=hs;rw[Jm,Jg]at hs;have xy:=ZE ((US rp.reverse).append (FI w kp)) hs;obtain⟨gA,uA⟩:=DJ g u hs;have gB:=(DJ g u xy).1;have hf:(rp.reverse++([w]++kp)).filter (λv=>!decide (v=w))=rp.reverse++kp:=by
   rw[U7,U7];refine uV (QU.mp (cH uA)) λ_ n2 n3=>?_;have f1:rp.reverse.filter (λv=>!decide (v=w))=rp.reverse:=V8.mpr λv hv=>by have:=n3 v hv w (by simp);simp[this]
   have f2:kp.filter (λv=>!decide (v=w))=kp:=V8.mpr λv hv=>by
    have:v≠w:=λe=>((QQ.mp n2).1) (e▸hv)
    simp[this]
   rw[f1,f2];simp
  generalize hρ:uF n ws (qQ n ws) (rp.reverse++([w]++kp)) (wv (wD w)) b=Z;have hl:=Qx hs.length_le g.len;have c:ev (Gm (k+2)) q8 Sw Z=.ok (.q6 ((rp.reverse++kp).map wD)):=by rw[<-hf];exact Rm (by rw[<-hρ];rfl) (λv _=>FV (jj (jO rfl (by rw[<-hρ];rfl) (q6O v w)))) (λ_ _ _=>rfl) ∅
  generalize hρ2:uF n ws (qQ n ws) (rp.reverse++([w]++kp)) (wv (wD w)) (wv (.q6 ((rp.reverse++kp).map wD)))=ρ2;have s1:ex (Gm (k+2)) q8 (.set 4 Sw) Z=.ok ρ2 .nx:=by rw[zh,c,qF,<-hρ,<-hρ2];rfl
  have t1:qz (Gm (k+2)) q8 (.e pL) ρ2=.ok (decide (qQ n (rp.reverse++kp)=qQ n ws)):=by refine jj (jO (x:=.q6 ((qQ n (rp.reverse++kp)).map tD)) (y:=.q6 ((qQ n ws).map tD)) ?_ (by rw[<-hρ2];rfl) (iC _ _));have a1:ev (Gm (k+2)) q8 (.qA [(.idx qC (kZ 0)),qS]) ρ2=.ok (rD n (rp.reverse++kp)):=kc (jw (x:=nI n) (y:=.q6 ((rp.reverse++kp).map wD)) (by rw[<-hρ2];exact uX 0 rfl) (by rw[<-hρ2];rfl)) (by simp);rw[vC,zN a1,qB,G0 gB k]
  rw[Qw,jx,vK];have u5:YM (uF n ws (qQ n ws) ((w::rp).reverse++kp) a b) 3 (wv (wD w))=Z:=by rw[<-hρ,Jm,Jg];rfl
  rw[u5]
  by_cases q:qQ n (rp.reverse++kp)=qQ n ws
  .rw[if_pos q];rw[decide_eq_true q]at t1;have s2:qN (Gm (k+2)) q8 Gx Z=.ok (uF n ws (qQ n ws) (rp.reverse++kp) (wv (wD w)) (wv (.q6 ((rp.reverse++kp).map wD)))) .nx:=by refine(qg s1).trans ?_;rw[jF,wJ,t1,qF,if_pos rfl,jF,zh,show ev (Gm (k+2)) q8 qS ρ2=.ok (.q6 ((rp.reverse++kp).map wD)) by rw[<-hρ2];rfl,qF,ja,za,ja,za,<-hρ2];rfl
   obtain⟨a',b',e⟩:=Sx g u k rp kp (wv (wD w)) (wv (.q6 ((rp.reverse++kp).map wD))) xy;exact⟨a',b',by rw[s2,v9,e]⟩
  .rw[if_neg q];rw[decide_eq_false q]at t1;have s2:qN (Gm (k+2)) q8 Gx Z=.ok (uF n ws (qQ n ws) (rp.reverse++(w::kp)) (wv (wD w)) (wv (.q6 ((rp.reverse++kp).map wD)))) .nx:=by refine(qg s1).trans ?_;rw[jF,ui t1,ja,za,<-hρ2];rfl
   obtain⟨a',b',e⟩:=Sx g u k rp (w::kp) (wv (wD w)) (wv (.q6 ((rp.reverse++kp).map wD))) hs;exact⟨a',b',by rw[s2,v9,e]⟩
def q3p(g:Good n ws)(u:Up ws)(k:Nat):Gm (k+3) 35 [rD n ws,.q6 ((qQ n ws).map tD)]=.ok (rD n (vK n ws ws.reverse [])):=by
 obtain⟨a',b',e⟩:=Sx g u k ws.reverse [] Qg Qg (by rw[Yr,Q3];exact US _);rw[Yr,Q3]at e;refine(zd (k+2) 35 _ 2 5 [.set 2 (.bi .list [(.idx qC (kZ 1))]),.qw 0 [3] (.e (.sl 1 (.idx qC (kZ 1)) [] [])) Gx,.ret (.qA [(.idx qC (kZ 0)),qO])] rfl rfl).trans ?_;refine jt (Z:=[wv (rD n ws),wv (.q6 ((qQ n ws).map tD)),Qg,Qg,Qg]) (ρ':=uF n ws (qQ n ws) (vK n ws ws.reverse []) a' b') rfl ?_;refine(qg (ρ':=uF n ws (qQ n ws) ws Qg Qg) (by rw[zh,jA,zN (Em 0 rfl),qB,q1i,qF];rfl)).trans ?_;refine(qg (ρ':=uF n ws (qQ n ws) (vK n ws ws.reverse []) a' b') (by rw[vD,yc,TR,Em (n:=n) (ws:=ws) 0 rfl,qB,jW,qB,qB];show((R.ok (D.q6 (ws.map wD).reverse)).bind j9).go _ _=_;rw[qB,u9,qF,<-WW,e])).trans ?_
 exact jX (by rw[kL,kc (jw (uX 0 rfl) rfl) (by simp),qF];rfl)
end
section
variable{F:Nat}{ws vs:List Wn}
def jg(a b:Nat):Bool:=qU (kD a) (kD b)
def pP(a:Nat):jg a a=Qh:=C6 (xJ a)
def pR(a b:Nat):jg a b=Qd\/a=b\/jg b a=Qd:=(A0 (xJ a) (xJ b) (EU a b)).imp id (Or.imp nh id)
def pQ{b:Nat}(h:jg a b=Qd)(g:jg b c=Qd):jg a c=Qd:=C7 (xJ a) (xJ b) (xJ c) h g
def vN:List Nat->Nat->Nat
 |[],b=>b
 |x::l,b=>vN l (if jg x b then x else b)
theorem dX:∀(l:List Nat)(b:Nat),vN l b∈b::l
 |[],b=>by simp[vN]
 |x::l,b=>by
  rw[vN];have:=dX l (if jg x b then x else b);rcases Qo.mp this with h|h
  .rw[h];split<;>simp
  .exact Qc _ (Qc _ h)
theorem dW:∀(l:List Nat)(b q:Nat),q∈b::l->jg q (vN l b)=Qh
 |[],b,q,h=>by rw[QE.mp h,vN];exact pP b
 |x::l,b,q,h=>by
  rw[vN];have ih:=dW l (if jg x b then x else b);have h0:=ih _ Qe;rcases Qo.mp h with rfl|h
  .by_cases c:jg x q=Qd
   .rw[if_pos c]at h0|-;cases z:jg q (vN l x)with
    |false=>rfl
    |true=>rw[pQ c z]at h0;cases h0
   .rw[if_neg c]at h0|-;exact h0
  .rcases Qo.mp h with rfl|h
   .by_cases c:jg q b=Qd
    .rw[if_pos c]at h0|-;exact h0
    .rw[if_neg c]at h0|-;cases z:jg q (vN l b)with
     |false=>rfl
     |true=>
      rcases pR q b with t|t|t
      .exact absurd t c
      .subst t;rw[z]at h0;cases h0
      .rw[pQ t z]at h0;cases h0
   .exact ih q (Qc _ h)
theorem Ij:∀(l:List Nat)(b:Nat),xh (l.map λm=>(kD m,tD m)) (kD b,tD b)=(kD (vN l b),tD (vN l b))
 |[],b=>rfl
 |x::l,b=>by
  rw[Qw,xh,vN];show xh _ (if jg x b=Qd then(kD x,tD x)else(kD b,tD b))=_
  by_cases c:jg x b=Qd
  .rw[if_pos c,if_pos c];exact Ij l x
  .rw[if_neg c,if_neg c];exact Ij l b
def q3Q(hp:l.Pairwise λa b=>jg b a=Qh)(hm:∀x,x∈qs↔x∈l){q:Nat}{r:List Nat}(hq:qs=q::r):l.head?=Qa (vN r q):=by
 have hb:=dX r q;rw[<-hq,hm]at hb;cases l with
 |nil=>cases hb
 |cons p l=>
  have h1:jg (vN r q) p=Qh:=by
   rcases Qo.mp hb with e|e
   .rw[e];exact pP p
   .exact (QX.mp hp).1 _ e
  have h2:=dW r q p (by rw[<-hq,hm];exact Qe);rcases pR (vN r q) p with t|t|t
  .rw[h1]at t;cases t
  .rw[t];rfl
  .rw[h2]at t;cases t
noncomputable def parts(n:Nat)(ws vs:List Wn):List Nat:=(jb n).filter λs=>decide (s∈qQ n ws)!=decide (s∈qQ n vs)
def b8(g:Good n ws)(g':Good n vs):x∈parts n ws vs↔(x∈qQ n ws/\x∉qQ n vs)\/(x∈qQ n vs/\x∉qQ n ws):=by
 unfold parts;rw[QO]
 by_cases h1:x∈qQ n ws<;>by_cases h2:x∈qQ n vs<;>simp[h1,h2]
 .exact (λh=>(QO.mp h).1) h1
 .exact (λh=>(QO.mp h).1) h2
def q7E(hn:n<=5):(parts n ws vs).Pairwise λa b=>jg b a=Qh:=(q0C hn).filter _
def q7D(g:Good n ws)(g':Good n vs):parts n ws vs=[]↔qQ n ws=qQ n vs:=by
 constructor
 .intro h;refine(Fz g g').mpr λx=>?_;rw[<-TK g,<-TK g'];have:x∉parts n ws vs:=by rw[h];simp
  rw[b8 g g']at this
  by_cases h1:x∈qQ n ws<;>by_cases h2:x∈qQ n vs<;>simp_all
 .intro h;refine WX.mpr λx hx=>?_;rw[b8 g g',h]at hx;rcases hx with hx|hx<;>exact hx.2 hx.1
def dF(l:List Nat)(x:Nat):(l.map tD).any (qD (tD x))=decide (x∈l):=by rw[List.any_map,QR,Jc,decide_eq_true_eq];simp only[Function.comp,D7,decide_eq_true_eq];exact⟨λ⟨y,h,e⟩=>e▸h,λh=>⟨x,h,rfl⟩⟩
def GK(a:Nat):qH (tD a)=Qd:=Of _
def qA9{b:Nat}(h:tD a=tD b):a=b:=of_decide_eq_true ((D7 a b).symm.trans ((jN (GK a) (GK b)).mpr h))
def Fw(h:l.Nodup):dedup (l.map tD)=l.map tD:=Fv (Jd.mpr (h.imp λ{a b} kC=>by rw[D7];exact decide_eq_false kC))
def il(l:List Nat)(p:D->Bool)(q:Nat->Bool)(h:∀x∈l,p (tD x)=q x):(l.map tD).filter p=(l.filter q).map tD:=by rw[List.filter_map];congr 1;exact List.filter_congr h
noncomputable def Xy(a b:List Nat):List Nat:=b.filter (λy=>!decide (y∈a))++a.filter (λx=>!decide (x∈b))
def qAl{a b:List Nat}(ha:a.Nodup)(hb:b.Nodup):X6 (a.map tD) (b.map tD)=(Xy a b).map tD:=by unfold X6 Xy;rw[Fw ha,Fw hb,JA,il b _ (λy=>!decide (y∈a)) (λx _=>by rw[dF]),il a _ (λx=>!decide (x∈b)) (λx _=>by rw[dF])]
def q0v(m:Nat):jq (tD m)=Qd:=by unfold tD;cases qZ m<;>rfl
def q9H(h:l.Nodup)(hl:l.length<64):ji (l.map tD)=Qd:=by
 have h1:qx (l.map tD)=Qd:=j0.mpr λd hd=>by obtain⟨a,_,rfl⟩:=Qn.mp hd;exact GK a
 have h3:vg zC (l.map tD)=Qd:=by unfold vg;refine Qq.mpr λa ha=>Qq.mpr λb hb=>?_;obtain⟨x,_,rfl⟩:=Qn.mp ha;obtain⟨y,_,rfl⟩:=Qn.mp hb;unfold tD;rw[aW,aW];exact L8 _ _
 have h5:(l.map tD).all jq=Qd:=Qq.mpr λd hd=>by obtain⟨a,_,rfl⟩:=Qn.mp hd;exact q0v a
 unfold ji Pt;rw[h1,bB,h3,Fw h,h5,Qm];simp[hl]
theorem liftT:∀(l:List D),(∀d∈l,∃a:Nat,d=tD a)->∃ss:List Nat,l=ss.map tD
 |[],_=>⟨[],rfl⟩
 |d::l,h=>by obtain⟨a,rfl⟩:=h d Qe;obtain⟨ss,rfl⟩:=liftT l λe he=>h e (Qc _ he);exact⟨a::ss,rfl⟩
def qA8{a b:List Nat}(ha:a.Nodup)(hb:b.Nodup)(la:a.length<=16)(lb:b.length<=16):∃qs:List Nat,(∀x,x∈qs↔(x∈a/\x∉b)\/(x∈b/\x∉a))/\qs.length<=32/\IB (a.map tD) (b.map tD)=.ok (.q6 (qs.map tD)):=by
 have uf:(Xy a b).Nodup:=QU.mpr ⟨hb.filter _,ha.filter _,λx hx y hy e=>by subst e;have h1:=(QO.mp hx).2;simp[((QO.mp hy).1)]at h1⟩
 have qT:(Xy a b).length<=32:=by unfold Xy;rw[QT];have:=QS (λy=>!decide (y∈a)) b;have:=QS (λx=>!decide (x∈b)) a;lia
 obtain⟨qs,e⟩:=liftT (jP ((Xy a b).map tD)) λd hd=>by obtain⟨x,_,rfl⟩:=Qn.mp ((kN _).mem_iff.mp hd);exact⟨x,rfl⟩
 have mm:∀(x:Nat)(l:List Nat),tD x∈l.map tD↔x∈l:=λx l=>⟨λh=>by obtain⟨v,hv,e⟩:=Qn.mp h;exact qA9 e▸hv,λh=>Qn.mpr ⟨x,h,rfl⟩⟩
 refine⟨qs,λx=>?_,?_,?_⟩
 .rw[<-mm x qs,<-e,(kN _).mem_iff,mm,Xy,QA,QO,QO];simp;exact Or.comm
 .have:=(kN ((Xy a b).map tD)).length_eq;rw[e,Qm,Qm]at this;lia
 .unfold IB;rw[qAl ha hb,Fw ha,Fw hb,q9H uf ∅,Qm,Qm,decide_eq_true (by lia:a.length+b.length<=40),e];rfl
def q07(hl:l.length<=16):RO (.q6 (l.map tD))=.ok (l.map tD):=by
 have s1:qx (l.map tD)=Qd:=j0.mpr λd hd=>by obtain⟨a,_,rfl⟩:=Qn.mp hd;exact GK a
 have s2:(l.map tD).all jq=Qd:=Qq.mpr λd hd=>by obtain⟨a,_,rfl⟩:=Qn.mp hd;exact q0v a
 unfold RO;dsimp only;rw[s1,bB,s2,Qm,decide_eq_true (by lia:l.length<=40)];rfl
def AS:Option Nat->D
 |some m=>tD m
 |none=>.qE
def q6B:List Nat->D
 |[]=>.qE
 |q::r=>tD (vN r q)
def q32{a:L}(hl:qs.length<=1000)(e:ev G q8 a Z=.ok (.q6 (qs.map tD)))(e13:∀m,G 13 [tD m]=.ok (kD m)):ev G q8 (.minK a 13) Z=.ok (q6B qs):=by
 have h1:zU (qs.map kD)=Qd:=vX.mpr λd hd=>by obtain⟨a,_,rfl⟩:=Qn.mp hd;rw[Di];exact RJ _
 have h2:qx (qs.map kD)=Qd:=j0.mpr λd hd=>by obtain⟨a,_,rfl⟩:=Qn.mp hd;exact xJ a
 have h3:vg zC (qs.map kD)=Qd:=by unfold vg;refine Qq.mpr λa ha=>Qq.mpr λb hb=>?_;obtain⟨x,_,rfl⟩:=Qn.mp ha;obtain⟨y,_,rfl⟩:=Qn.mp hb;exact EU x y
 rw[iQ,e,qB];unfold yH;dsimp only;rw[(aF λm _=>e13 m),vw,qB,h1,h2,h3,Qm,decide_eq_true hl,zip_map];cases qs with
 |nil=>rfl
 |cons q r=>
  show(if _ then R.ok (xh (r.map λm=>(kD m,tD m)) (kD q,tD q)).2 else _)=_;rw[Ij];rfl
def oi{b:Nat}(h1:G 10 [rD a us]=.ok .qE)(h2:G 10 [rD b ts]=.ok .qE):Ev.run G q8 2 yF [rD a us,rD b ts]=if a=b then .ok .qE else .err 3:=by
 have i1:=GO a us;have i2:=GO b ts
 by_cases q:a=b
 .subst q;simp[Ev.run,yF,h1,h2,i1,i2]
 .simp[Ev.run,yF,h1,h2,i1,i2,q]
def Ed(g:Good n ws)(hn:n<=4):(qQ n ws).length<=16:=by refine Qx (QS _ _) ?_;exact Qx (vx (2^n) _ (RQ g.n5) λx hx=>(RP g.n5 x).mp hx) (Qx (Q6 (by decide) hn) (by decide))
def lJ(g:Good n ws)(g':Good n vs)(hn:n<=4)(k:Nat):Gm (k+7) 21 [rD n ws,rD n vs]=.ok (AS (parts n ws vs).head?):=by
 refine qV (qA8 (LK g) (LK g') (Ed g hn) (Ed g' hn)) λqs hq hl e=>?_;refine(zd (k+6) 21 _ 2 3 PX rfl rfl).trans ?_;refine jt (Z:=[wv (rD n ws),wv (rD n vs),Qg]) (ρ':=[wv (rD n ws),wv (rD n vs),wv (.q6 (qs.map tD))]) rfl ?_;refine(qg (ρ':=[wv (rD n ws),wv (rD n vs),Qg]) (by rw[q38,kY (x:=rD n ws) (y:=rD n vs) rfl rfl ((zd (k+5) 19 _ 2 2 yF rfl rfl).trans ((oi (DI g (k+1)) (DI g' (k+1))).trans (if_pos rfl))),qF])).trans ?_;refine(qg (ρ':=[wv (rD n ws),wv (rD n vs),wv (.q6 (qs.map tD))]) (by rw[zh,iW,vC,zN (x:=rD n ws) rfl,qB,lS g k,qB,q07 (Ed g hn),qB,vC,zN (x:=rD n vs) rfl,qB,lS g' k,qB,q07 (Ed g' hn),qB,e,qF];rfl)).trans ?_
 refine jX ?_;rw[kL,q32 (qs:=qs) ∅ rfl (λm=>lI (k+5) m),qF];congr 2;have hm:∀x,x∈qs↔x∈parts n ws vs:=λx=>by rw[hq,b8 g g']
 cases mX:qs with
 |nil=>
  have:parts n ws vs=[]:=WX.mpr λx hx=>by have:=(hm x).mpr hx;rw[mX]at this;cases this
  rw[this];rfl
 |cons q r=>rw[q3Q (q7E g.n5) hm mX];rfl
def q3i(g:Good n ws)(g':Good n vs)(hn:n<=4)(k:Nat):Gm (k+8) 20 [rD n ws,rD n vs]=.ok (.bl (decide (qQ n ws=qQ n vs))):=by
 refine(zd (k+7) 20 _ 2 2 PT rfl rfl).trans ?_;refine jt (Z:=[wv (rD n ws),wv (rD n vs)]) (ρ':=[wv (rD n ws),wv (rD n vs)]) rfl ?_;refine jX ?_;rw[kL,jO (kY rfl rfl (lJ g g' hn k)) rfl rfl];have hp:=q7D g g';cases q:parts n ws vs with
 |nil=>rw[decide_eq_true (hp.mp q)];rfl
 |cons m l=>rw[decide_eq_false λh=>by rw[hp.mpr h]at q;cases q];rfl
end
section
variable{F:Nat}{ws vs:List Wn}
def Sg:L:=.bi .tuple [(.bi .jS [(.op .add (.zP 9) (.bi .tuple [(.comp 0 qC (.e vd) [(.e (.cm .ne qC (.zP 9)))])]))])]
def Gn:List S:=[.app 6 (.qA [(.zP 8),Sg])]
def yG(s:D)(n:Nat)(ws:List Wn)(N:D)(acc:List Wn)(p:List Nat)(x y:Option Sl):Ev.Env:=[wv s,wv (rD n ws),wv N,wv (nI n),wv (.q6 (ws.map wD)),Qg,Qa (.own (.q6 (acc.map wD))),wv (.qA (nL p)),x,y]
def vF(p:List Nat)(w:Wn):Wn:=(w.1,qZ (z9 0 w.2|||z9 0 (p.filter λe=>!decide (e=w.1))))
def rX(a b:Nat):qc .ne (nI a) (nI b)=.ok (.bl (!decide (a=b))):=by
 have:qc .ne (nI a) (nI b)=if pl (nI a)&&pl (nI b)then .ok (.bl (!qD (nI a) (nI b)))else .q9:=rfl
 rw[this];simp[nI,pl,qK,qD];lia
def pg(h:∀x∈l,x<5):z9 0 l<32:=aA λi hi=>by rw[wC]at hi;exact h i (of_decide_eq_true hi)
def q6F{w:Wn}(hn:n<=5)(hp:∀x∈p,x<n)(hw:GoodW n w):GoodW n (vF p w):=by
 have hb:∀i,(z9 0 w.2|||z9 0 (p.filter λe=>!decide (e=w.1))).testBit i=Qd↔i∈w.2\/(i∈p/\i≠w.1):=λi=>by rw[Vc,wC,wC,JS,decide_eq_true_eq,decide_eq_true_eq,QO];simp
 refine⟨hw.1,CY (aA λi hi=>?_),λh=>?_⟩
 .rcases (hb i).mp hi with h|h
  .exact hw.2.1.2 i h
  .exact hp i h.1
 .rcases (hb w.1).mp (jZ.mp h)with h|h
  .exact hw.2.2 h
  .exact h.2 rfl
def q33(hn:n<=5)(hp:∀x∈p,x<n)(XY:p.Pairwise (·<·)){w:Wn}(hw:GoodW n w)(h7:jG Z 7=.ok (.qA (nL p)))(h8:jG Z 8=.ok (nI w.1))(h9:jG Z 9=.ok (.qA (nL w.2))):ev G q8 Sg Z=.ok (.qA (nL (vF p w).2)):=by
 have pl7:p.length<=5:=Qx (vx n p (XY.imp λh=>QK h) hp) hn;have c:ev G q8 (.comp 0 qC (.e vd) [(.e (.cm .ne qC (.zP 9)))]) Z=.ok (.q6 ((p.filter λe=>!decide (e=w.1)).map nI)):=Rm (f:=nI) (by rw[yc,jf,h7,qB];rfl) (λe _=>FV (jj (jO (x:=nI e) (y:=nI w.1) rfl (by rw[jf];unfold jG at h8|-;exact h8) (rX e w.1)))) (λ_ _ _=>rfl) ∅
 have a1:ev G q8 (.bi .tuple [(.comp 0 qC (.e vd) [(.e (.cm .ne qC (.zP 9)))])]) Z=.ok (.qA (nL (p.filter λe=>!decide (e=w.1)))):=by rw[jA,zN c,qB,EG];rfl
 have wl:w.2.length<=5:=Qx (vx n w.2 (hw.2.1.1.imp λh=>QK h) hw.2.1.2) hn;have fl:=QS (λe=>!decide (e=w.1)) p;have a2:ev G q8 (.op .add (.zP 9) (.bi .tuple [(.comp 0 qC (.e vd) [(.e (.cm .ne qC (.zP 9)))])])) Z=.ok (.qA (nL (w.2++p.filter λe=>!decide (e=w.1)))):=by rw[zT,jf,h9,qB,a1,qB];show(if(nL w.2).length+(nL (p.filter λe=>!decide (e=w.1))).length<=big then R.ok (D.qA (nL w.2++nL (p.filter λe=>!decide (e=w.1))))else .q9)=_;rw[if_pos (by unfold nL;rw[Qm,Qm,zt];lia),rP]
 have s:=q9I (a:=z9 0 w.2) (b:=z9 0 (p.filter λe=>!decide (e=w.1))) (pg λx hx=>by have:=hw.2.1.2 x hx;lia) (pg λx hx=>by have:=hp x (QO.mp hx).1;lia);rw[(Il hw.2.1.1),(Il (XY.filter _))]at s;unfold Sg;rw[jA,zN (show ev G q8 (.bi .jS [(.op .add (.zP 9) (.bi .tuple [(.comp 0 qC (.e vd) [(.e (.cm .ne qC (.zP 9)))])]))]) Z=.ok (.q6 (nL (vF p w).2)) by rw[jA,zN a2,qB,s];rfl),qB,EG]
theorem p7{s N:D}{p:List Nat}(hn:n<=5)(hp:∀x∈p,x<n)(XY:p.Pairwise (·<·)):∀(us acc:List Wn)(x y:Option Sl),(∀w∈us,GoodW n w)->acc.length+us.length<=1000->
  ∃x' y',zb (qN G q8 Gn) 2 [8,9] (us.map wD) (yG s n ws N acc p x y)=.ok (yG s n ws N (acc++us.map (vF p)) p x' y') .nx
 |[],acc,x,y,_,_=>⟨x,y,by rw[Y9,Y9,Q3];rfl⟩
 |w::us,acc,x,y,hg,hl=>by
  rw[QG]at hl;obtain⟨x',y',e⟩:=p7 hn hp XY us (acc++[vF p w]) (wv (nI w.1)) (wv (.qA (nL w.2))) (λu hu=>hg u (Qc _ hu)) (by simp;lia);refine⟨x',y',?_⟩;generalize hρ:yG s n ws N acc p (wv (nI w.1)) (wv (.qA (nL w.2)))=Z;have s1:qN G q8 Gn Z=.ok (yG s n ws N (acc++[vF p w]) p (wv (nI w.1)) (wv (.qA (nL w.2)))) .nx:=by unfold Gn;rw[jF,Ru,show Z[6]?=Qa (Qa (.own (.q6 (acc.map wD)))) by rw[<-hρ];rfl];dsimp only;rw[kc (jw (x:=nI w.1) (y:=.qA (nL (vF p w).2)) (by rw[<-hρ];rfl) (q33 hn hp XY (hg w Qe) (by rw[<-hρ];rfl) (by rw[<-hρ];rfl) (by rw[<-hρ];rfl))) (by simp),qF,if_pos (by rw[Qm,zt];lia),ja,za,<-hρ];unfold yG;rw[JA];rfl
  rw[Qw,show wD w=.qA [nI w.1,.qA (nL w.2)] from rfl,q3V];rw[show(YM (YM (yG s n ws N acc p x y) 8 (wv (nI w.1))) 9 (wv (.qA (nL w.2))))=Z from hρ,s1,v9,e,Qw,Jg];rfl
def q2R(l:List α)(i:Nat)(h:i<l.length):jM l Qg (Qa (i:Int))++jM l (Qa ((i:Int)+1)) Qg=l.eraseIdx i:=by
 have b1:yX l.length l.length (Qa (i:Int))=i:=by unfold yX;simp only;rw[if_neg ∅];lia
 have b2:yX l.length 0 (Qa ((i:Int)+1))=i+1:=by unfold yX;simp only;rw[if_neg ∅];lia
 unfold jM;rw[b1,b2,Q7];simp only[yX,List.drop_zero,Nat.sub_zero];rw[JO (l:=List.drop (i+1) l) (by simp)]
def Sf:S:=.ifs (.e (.cm .eq (.op .mod qO (kZ 4)) (kZ 0))) [.ret (.call 28 [qC,(kZ 110),(kZ 4)])] []
def p0:T:=.and (.e (.cm .eq (.op .mod qO (kZ 4)) (kZ 1))) (.e qS)
def oz:List S:=[.set 5 (.op .mod (.op .fdiv qO (kZ 8)) (.bi .len [qS])),.ret (.qA [qp,(.op .add (.sl 0 qS [] [zV]) (.sl 0 qS [(.op .add zV (kZ 1))] []))])]
def iR(h:jG Z 2=.ok (nI N)):qz G q8 (.e (.cm .eq (.op .mod qO (kZ 4)) (.qh (.int c)))) Z=.ok (decide (N %4=c)):=
 jj (jO (DA (by decide) (by rw[jf,h])) rfl (iE _ _))
def q3u(g:Good n ws)(u:Up ws)(hn:n<=4)(yh:ws.length<=15)(k:Nat)(zs:List Int):∃(n':Nat)(vs:List Wn),n'<=4/\Good n' vs/\Up vs/\Gm (k+5) 36 [.q6 (iL zs),rD n ws]=.ok (rD n' vs):=by
 obtain⟨N,hN⟩:=O1 (k+2) zs 100;have dG:Gm (k+5) 36 [.q6 (iL zs),rD n ws]=Ev.run (Gm (k+4)) q8 10 [.set 2 (.call 26 [qC,(kZ 100)]),.setT [3,4] qG,Sf,.ifs p0 oz [],.zY 6 (.q6 []),.set 7 (.call 27 [qC,(kZ 101),(.lrng [qp])]),.qw 2 [8,9] (.e qS) Gn,.ret (.qA [qp,(.bi .jS [(.op .add qS (.bor 6))])])] [.q6 (iL zs),rD n ws]:=zd (k+4) 36 _ 2 10 _ rfl rfl;rw[dG];clear dG
 let s:D:=.q6 (iL zs)
 generalize hρ:[Qa (Sl.val (.q6 (iL zs))),wv (rD n ws),wv (nI N),wv (nI n),wv (.q6 (ws.map wD)),Qg,Qg,Qg,Qg,Qg]=Z;have pre:∀(l:List S),qN (Gm (k+4)) q8 (.set 2 (.call 26 [qC,(kZ 100)])::.setT [3,4] qG::l) [wv (.q6 (iL zs)),wv (rD n ws),Qg,Qg,Qg,Qg,Qg,Qg,Qg,Qg]=qN (Gm (k+4)) q8 l Z:=λl=>by refine(qg (ρ':=[wv (.q6 (iL zs)),wv (rD n ws),wv (nI N),Qg,Qg,Qg,Qg,Qg,Qg,Qg]) (by rw[zh,kY (x:=.q6 (iL zs)) (y:=nI 100) rfl rfl hN,qF];rfl)).trans ?_;refine qg ?_;rw[<-hρ];rfl
 have v2:jG Z 2=.ok (nI N):=by rw[<-hρ];rfl
 have t1:qz (Gm (k+4)) q8 (.e (.cm .eq (.op .mod qO (kZ 4)) (kZ 0))) Z=.ok (decide (N %4=0)):=iR (c:=0) v2
 by_cases q:N %4=0
 .rw[decide_eq_true q]at t1;refine i7 (lM k 110 (by decide:4<=5) zs) λn' vs h1 hg hu _ e=>?_;refine⟨n',vs,h1,hg,hu,jt (ρ':=Z) rfl ((pre _).trans (jX ?_))⟩;unfold Sf;rw[wJ,t1,qF,if_pos rfl,jF,kL,yb (x:=.q6 (iL zs)) (y:=nI 110) (z:=nI 4) (by rw[<-hρ];rfl) rfl rfl e,qF,au]
 .rw[decide_eq_false q]at t1;have s1:ex (Gm (k+4)) q8 Sf Z=.ok Z .nx:=ui t1;have t3:qz (Gm (k+4)) q8 (.e qS) Z=.ok (!ws.isEmpty):=by rw[uL,show ev (Gm (k+4)) q8 qS Z=.ok (.q6 (ws.map wD)) by rw[<-hρ];rfl,qB];show R.ok (!(ws.map wD).isEmpty)=_;rw[List.isEmpty_map]
  have t4:qz (Gm (k+4)) q8 p0 Z=.ok (decide (N %4=1)&&!ws.isEmpty):=cA (iR (G:=Gm (k+4)) (c:=1) v2) t3
  by_cases q2:(decide (N %4=1)&&!ws.isEmpty)=Qd
  .rw[q2]at t4;have DV:0<ws.length:=by
    rw[Qp,Jn]at q2;cases ws with
    |nil=>simp at q2
    |cons=>simp
   obtain⟨g2,u2⟩:=DJ g u (VM _ _);refine⟨n,_,hn,g2,u2,jt (ρ':=Z.set 5 (wv (nI (N/8 %ws.length)))) rfl ((pre _).trans ((qg s1).trans (jX ?_)))⟩;rw[wJ,t4,qF,if_pos rfl];unfold oz;have f1:zD .fdiv (nI N) (.int 8)=.ok (nI (N/8)):=Lm N 8 (by decide) (by decide);have f2:zD .mod (nI (N/8)) (nI ws.length)=.ok (nI (N/8 %ws.length)):=CB _ _ DV;have v4:∀x:Option Sl,ev (Gm (k+4)) q8 qS (Z.set 5 x)=.ok (.q6 (ws.map wD)):=λx=>by rw[<-hρ];rfl
   refine(qg (ρ':=Z.set 5 (wv (nI (N/8 %ws.length)))) ?_).trans (jX ?_)
   .rw[zh,zT,zT,jf,v2,qB,zf,qB,f1,qB,jA,zN (show ev (Gm (k+4)) q8 qS Z=.ok (.q6 (ws.map wD)) by rw[<-hρ];rfl),qB,Ik,qB,Qm,f2,qF]
   .have v5:ev (Gm (k+4)) q8 zV (Z.set 5 (wv (nI (N/8 %ws.length))))=.ok (nI (N/8 %ws.length)):=(by rw[<-hρ];rfl);have a1:ev (Gm (k+4)) q8 (.sl 0 qS [] [zV]) (Z.set 5 (wv (nI (N/8 %ws.length))))=.ok (.q6 (jM (ws.map wD) Qg (Qa ((N/8 %ws.length:Nat):Int)))):=by rw[TR,v4,qB,jW,qB,zN v5,qB];rfl
    have a2:ev (Gm (k+4)) q8 (.sl 0 qS [(.op .add zV (kZ 1))] []) (Z.set 5 (wv (nI (N/8 %ws.length))))=.ok (.q6 (jM (ws.map wD) (Qa (((N/8 %ws.length:Nat):Int)+1)) Qg)):=by rw[TR,v4,qB,zN (x:=.int (((N/8 %ws.length:Nat):Int)+1)) (by rw[zT,v5,qB,zf,qB];rfl),qB,jW,qB];rfl
    have ce:=q2R (ws.map wD) (N/8 %ws.length) (by rw[Qm];exact(UQ _ DV));have lc:(jM (ws.map wD) Qg (Qa ((N/8 %ws.length:Nat):Int))).length+(jM (ws.map wD) (Qa (((N/8 %ws.length:Nat):Int)+1)) Qg).length<=1000:=by rw[<-QT,ce];have:=Z7 (ws.map wD) (N/8 %ws.length);rw[Qm]at this;lia
    have a3:ev (Gm (k+4)) q8 (.op .add (.sl 0 qS [] [zV]) (.sl 0 qS [(.op .add zV (kZ 1))] [])) (Z.set 5 (wv (nI (N/8 %ws.length))))=.ok (.q6 ((ws.eraseIdx (N/8 %ws.length)).map wD)):=by rw[zT,a1,qB,a2,qB];show(if(jM (ws.map wD) Qg (Qa ((N/8 %ws.length:Nat):Int))).length+(jM (ws.map wD) (Qa (((N/8 %ws.length:Nat):Int)+1)) Qg).length<=big then R.ok (D.q6 (jM (ws.map wD) Qg (Qa ((N/8 %ws.length:Nat):Int))++jM (ws.map wD) (Qa (((N/8 %ws.length:Nat):Int)+1)) Qg))else .q9)=_;rw[if_pos (by rw[zt];lia),ce];congr 2;simp[Q7,Ys,YO]
    rw[kL,kc (jw (x:=nI n) (by rw[<-hρ];rfl) a3) (by simp),qF];rfl
  .rw[Yq.mpr q2]at t4;obtain⟨p,xI,hp⟩:=(lE (k+1) zs).sub 101 (Qt n) (by rw[Q1];lia);have mW:∀x∈p,x<n:=λx hx=>QN.mp (xI.subset hx);obtain⟨x',y',e⟩:=p7 (G:=Gm (k+4)) (ws:=ws) (s:=.q6 (iL zs)) (N:=nI N) (by lia:n<=5) mW (Jo.sublist xI) ws [] Qg Qg (goodW g) (by simp;lia);rw[YL]at e;obtain⟨vs,g2,u2,_,es⟩:=q08 (by lia:n<=5) (acc:=ws++ws.map (vF p)) (λw hw=>by
    rcases QA.mp hw with h|h
    .exact goodW g w h
    .obtain⟨v,hv,rfl⟩:=Qn.mp h;exact q6F ∅ mW (goodW g v hv)) (by rw[QT,Qm];lia)
   refine⟨n,vs,hn,g2,u2,jt (ρ':=yG (.q6 (iL zs)) n ws (nI N) (ws.map (vF p)) p x' y') rfl ((pre _).trans ((qg s1).trans ((qg (ui t4)).trans ?_)))⟩;refine(qg (ρ':=Z.set 6 (Qa (.own (.q6 [])))) (by rw[XG,xB (jW _) (by simp),qF])).trans ?_;refine(qg (ρ':=yG (.q6 (iL zs)) n ws (nI N) [] p Qg Qg) ?_).trans ?_
   .have lr:ev (Gm (k+4)) q8 (.lrng [qp]) (Z.set 6 (Qa (.own (.q6 []))))=.ok (.q6 (nL (Qt n))):=by rw[iP,zN (x:=nI n) (by rw[<-hρ];rfl),qB,uH n ∅,qB,if_pos (by rw[aY,Qm,Q1,zt];lia)]
    rw[zh,yb (x:=.q6 (iL zs)) (y:=nI 101) (by rw[<-hρ];rfl) rfl lr hp,qF,<-hρ];rfl
   .refine (qg (ρ':=yG (.q6 (iL zs)) n ws (nI N) (ws.map (vF p)) p x' y') (by rw[vD,yc,show ev (Gm (k+4)) q8 qS (yG (.q6 (iL zs)) n ws (nI N) [] p Qg Qg)=.ok (.q6 (ws.map wD)) from rfl,qB,u9,qF,e])).trans ?_
    refine jX ?_;have a1:ev (Gm (k+4)) q8 (.op .add qS (.bor 6)) (yG (.q6 (iL zs)) n ws (nI N) (ws.map (vF p)) p x' y')=.ok (.q6 ((ws++ws.map (vF p)).map wD)):=by rw[zT,show ev (Gm (k+4)) q8 qS (yG (.q6 (iL zs)) n ws (nI N) (ws.map (vF p)) p x' y')=.ok (.q6 (ws.map wD)) from rfl,qB,show ev (Gm (k+4)) q8 (.bor 6) (yG (.q6 (iL zs)) n ws (nI N) (ws.map (vF p)) p x' y')=.ok (.q6 ((ws.map (vF p)).map wD)) from rfl,qB];show(if(ws.map wD).length+((ws.map (vF p)).map wD).length<=big then R.ok (D.q6 (ws.map wD++(ws.map (vF p)).map wD))else .q9)=_;rw[if_pos (by rw[Qm,Qm,Qm,zt];lia),JA]
    rw[kL,kc (jw (x:=nI n) rfl (by rw[jA,zN a1,qB,es])) (by simp),qF];rfl
end
section
variable{F:Nat}{ws vs:List Wn}
section
variable{th:D}
def q5c(h:G 10 [r]=.err c):Ev.run G q8 2 yF [r,o]=.err c:=by simp[Ev.run,yF,h]
def q5d(h1:G 10 [r]=.ok .qE)(h:G 10 [o]=.err c):Ev.run G q8 2 yF [r,o]=.err c:=by simp[Ev.run,yF,h,h1]
def q2m(h:G 19 [r,o]=.err c):Ev.run G q8 3 PX [r,o]=.err c:=by simp[Ev.run,PX,h]
def q2l(h:G 21 [r,o]=.err c):Ev.run G q8 2 PT [r,o]=.err c:=by simp[Ev.run,PT,h]
def q2j(h:G 14 [r]=.err c):Ev.run G q8 2 PY [r]=.err c:=by simp[Ev.run,PY,h]
def q2n(h:G 14 [r]=.err c):Ev.run G q8 7 Dr [r]=.err c:=by simp[Ev.run,Dr,h]
noncomputable def Fs(G:Nat->List D->R D)(r o:D):Nat->R D
 |0=>G 20 [r,o]
 |1=>G 21 [r,o]
 |2=>G 15 [r]
 |_=>G 22 [r]
def qAD(hw:w<=3)(h:Fs G r o w=.ok d):Ev.run G q8 6 PW [nI w,r,o]=.ok d:=by
 match w,hw with
 |0,_=>exact Ao 20 (by kernel_rfl) h (by kernel_rfl)
 |1,_=>exact Ao 21 (by kernel_rfl) h (by kernel_rfl)
 |2,_=>exact Ao 15 (by kernel_rfl) h (by kernel_rfl)
 |3,_=>exact Ao 22 (by kernel_rfl) h (by kernel_rfl)
def qAC(hw:w<=3)(h:Fs G r o w=.err c)(h2:G 32 [.exc c]=.ok d):Ev.run G q8 6 PW [nI w,r,o]=.ok d:=by
 rw[sub_eq]
 match w,hw with
 |0,_=>exact Xu 20 (by kernel_rfl) h (Xu 32 (by kernel_rfl) h2 (by kernel_rfl))
 |1,_=>exact Xu 21 (by kernel_rfl) h (Xu 32 (by kernel_rfl) h2 (by kernel_rfl))
 |2,_=>exact Xu 15 (by kernel_rfl) h (Xu 32 (by kernel_rfl) h2 (by kernel_rfl))
 |3,_=>exact Xu 22 (by kernel_rfl) h (Xu 32 (by kernel_rfl) h2 (by kernel_rfl))
end
def DE(k:Nat)(hw:w<=3)(h:Fs (Gm (k+1)) r o w=.ok d):Gm (k+2) 33 [nI w,r,o]=.ok d:=(zd (k+1) 33 _ 3 6 PW rfl rfl).trans (qAD hw h)
def O3(k:Nat)(hw:w<=3)(h:Fs (Gm (k+1)) r o w=.err c)(h2:Gm (k+1) 32 [.exc c]=.ok d):Gm (k+2) 33 [nI w,r,o]=.ok d:=(zd (k+1) 33 _ 3 6 PW rfl rfl).trans (qAC hw h h2)
def bM:D:=.str (YC "unlike")
def q88(G:Nat->List D->R D):Ev.run G q8 2 PV [.exc 3]=.ok bM:=by kernel_rfl
def q3w(k:Nat):Gm (k+1) 32 [.exc 3]=.ok bM:=(zd k 32 [.exc 3] 1 2 PV rfl rfl).trans (q88 _)
def Ly(h:∀j,Gm (j+5) 19 [r,o]=.err c)(k:Nat)(hw:w<=1):Fs (Gm (k+7)) r o w=.err c:=by
 have p:∀j,Gm (j+6) 21 [r,o]=.err c:=λj=>(zd (j+5) 21 _ 2 3 PX rfl rfl).trans (q2m (h j))
 match w,hw with
 |0,_=>exact(zd (k+6) 20 _ 2 2 PT rfl rfl).trans (q2l (p k))
 |1,_=>exact p (k+1)
def q3z{n':Nat}(g:Good n ws)(g':Good n' vs)(h:n≠n')(k:Nat)(hw:w<=1):Gm (k+8) 33 [nI w,rD n ws,rD n' vs]=.ok bM:=
 O3 (k+6) ∅ (Ly (λj=>(zd (j+4) 19 _ 2 2 yF rfl rfl).trans ((oi (DI g j) (DI g' j)).trans (if_neg h))) k hw) (q3w (k+6))
def Ig(n:Nat):D:=.qA [nI n,.q6 [.qA [nI n,.qA []]]]
def nine:D:=.qA [.int 9,.q6 []]
def dO(n:Nat):FZ (Ig n):=q1Z (c:=n) (vs:=[((n:Int),Qa [])]) (w:=((n:Int),Qa [])) (by simp) (by simp) (by simp[vA])
def q6R(k:Nat):Gm (k+4) 10 [nine]=.ok .qE:=(Lz k 9 [] (by simp)).trans (if_pos ⟨by decide,rfl,λp hp=>by simp at hp⟩)
def q3k(h:FZ r)(o:D)(k:Nat)(hw:w<=3):Gm (k+8) 33 [nI w,r,o]=.ok bL:=by
 refine O3 (k+6) hw ?_ (lL (k+6));have b:=λj=>dP h j;have m:∀j,Gm (j+5) 14 [r]=.err 1:=λj=>(zd (j+4) 14 _ 1 1 R9 rfl rfl).trans (q2k (b j))
 by_cases q:w<=1
 .exact Ly (λj=>(zd (j+4) 19 _ 2 2 yF rfl rfl).trans (q5c (b j))) k q
 .match w,hw,q with
  |2,_,_=>exact(zd (k+6) 15 _ 1 2 PY rfl rfl).trans (q2j (m (k+1)))
  |3,_,_=>exact(zd (k+6) 22 _ 1 7 Dr rfl rfl).trans (q2n (m (k+1)))
def q3l(h:FZ o)(k:Nat)(hw:w<=1):Gm (k+8) 33 [nI w,nine,o]=.ok bL:=
 O3 (k+6) ∅ (Ly (λj=>(zd (j+4) 19 _ 2 2 yF rfl rfl).trans (q5d (q6R j) (dP h j))) k hw) (lL (k+6))
def q2r(a b:List Wn):qc .eq (rD n a) (rD n b)=.ok (.bl (decide (a=b))):=by
 have e:qD (rD n a) (rD n b)=decide (a=b):=by
  have key:∀a b:List Wn,z6 (a.map wD) (b.map wD)=decide (a=b):=λa=>by
   induction a with
   |nil=>intro b;cases b<;>simp[z6]
   |cons x a ih=>
    intro b;cases b with
    |nil=>simp[z6]
    |cons y b=>
     have:qD (wD x) (wD y)=decide (x=y):=by rw[QR,jN (xK x) (xK y),decide_eq_true_eq];exact⟨Cz,λh=>by rw[h]⟩
     rw[Qw,Qw,z6,this,ih,QR];simp
  unfold rD;rw[qD,z6,z6,qD,key];simp[nI,qD,z6]
 have:qc .eq (rD n a) (rD n b)=if pl (rD n a)&&pl (rD n b)then .ok (.bl (qD (rD n a) (rD n b)))else .q9:=rfl
 rw[this,bC,bC,e];rfl
def af(a b:Bool):qc .ne (.bl a) (.bl b)=.ok (.bl (a !=b)):=by cases a<;>cases b<;>rfl
def rY{a:List Wn}:qc .ne (rD n a) (rD n a)=.ok (.bl Qh):=AE (bC n a) (q2w n a)
def q6M(x:Option Nat):qc .ne (AS x) (AS x)=.ok (.bl Qh):=by
 cases x with
 |none=>rfl
 |some m=>exact AE (CU m) (iI m)
def sA{a:L}(h:ev G q8 a Z=.ok (.bl Qd)):qz G q8 (.not (.e a)) Z=.ok Qh:=by rw[IF,jj h,qB];rfl
def q8K(s:PySem.Str)(m:Nat)(c:Cm)(b:Bool)(h:∀d:D,pl d=Qd->qD d d=Qd->qc c d d=.ok (.bl b)):qc c (.q6 (Qr m (.str s))) (.q6 (Qr m (.str s)))=.ok (.bl b):=by
 refine h _ ?_ ?_
 .unfold pl;rw[Xp];exact Qq.mpr λd hd=>by rw[(List.mem_replicate.mp hd).2];rfl
 .rw[qD];exact LX λd hd=>by rw[(List.mem_replicate.mp hd).2];exact q2x s
def c5{x:L}{s:PySem.Str}(m:Nat)(hm:m<=4)(h:∀w,w<m->ev G q8 x (wv (nI w)::Z)=.ok (.str s))(c:Cm)(b:Bool)(hc:∀d:D,pl d=Qd->qD d d=Qd->qc c d d=.ok (.bl b)):
  ev G q8 (.cm c (.comp 0 x (.rng [(.qh (.int m))]) []) (.op .mul (.q6 [(.qh (.str s))]) (.qh (.int m)))) Z=.ok (.bl b):=by
 have e1:ev G q8 (.comp 0 x (.rng [(.qh (.int m))]) []) Z=.ok (.q6 (Qr m (.str s))):=by rw[comp_map (f:=nI) (g:=λ_=>.str s) (l:=Qt m) (by rw[wI,zN (x:=nI m) rfl,qB,uH m ∅];rfl) (λw hw=>h w (QN.mp hw)) (by rw[Q1];lia)];congr 2;rw[List.map_const',Q1]
 have e2:ev G q8 (.op .mul (.q6 [(.qh (.str s))]) (.qh (.int m))) Z=.ok (.q6 (Qr m (.str s))):=by
  have:m=0\/m=1\/m=2\/m=3\/m=4:=∅
  rcases this with rfl|rfl|rfl|rfl|rfl<;>rfl
 exact jO e1 e2 (q8K s m c b hc)
def pT:S:=.ifs (.or (.not (.e (.bi .isTup [qS]))) (.or (.e (.cm .ne qS (.call 34 [qG,qp]))) (.e (.cm .ne (.call 31 [qS]) qp)))) [.ret (.qh (.bl Qh))] []
def pU:S:=.ifs (.e (.cm .ne (.call 33 [(kZ 3),qG,qG]) (.call 35 [qG,qp]))) [.ret (.qh (.bl Qh))] []
def A1:T:=.e (.cm .ne (.idx qG (kZ 0)) (.idx qO (kZ 0)))
def A2:L:=.cm .eq (.comp 0 (.call 33 [qC,qO,qp]) (.rng [(kZ 2)]) []) (.op .mul (.q6 [(.qh (.str (YC "unlike")))]) (kZ 2))
def pV:S:=.ifs (.or (.not (.e (.bi .isBool [jL]))) (.or (.e (.cm .ne jL (.cm .eq qp zV))) (.e (.cm .ne jL (.cm .eq (.call 33 [(kZ 2),qO,qO]) qS))))) [.ret (.qh (.bl Qh))] []
def pX:L:=.comp 0 qC (.e (.call 29 [(.idx qG (kZ 0))])) [(.e (.cm .ne (.cm .mem qC qS) (.cm .mem qC jL)))]
def pW:S:=.ifs (.e (.cm .ne (.call 33 [(kZ 1),qG,qO]) (.ite (.e vd) (.idx vd (kZ 0)) (.qh .qE)))) [.ret (.qh (.bl Qh))] []
def aB:L:=.qA [(.idx qG (kZ 0)),(.q6 [(.qA [(.idx qG (kZ 0)),(.qA [])])])]
def q60:S:=.ifs (.e (.cm .ne (.comp 0 (.call 33 [qC,(.zP 9),(.qA [(kZ 9),(.q6 [])])]) (.rng [(kZ 4)]) []) (.op .mul (.q6 [(.qh (.str (YC "rules")))]) (kZ 4)))) [.ret (.qh (.bl Qh))] []
def pY:L:=.cm .eq (.comp 0 (.call 33 [qC,(.qA [(kZ 9),(.q6 [])]),(.zP 9)]) (.rng [(kZ 2)]) []) (.op .mul (.q6 [(.qh (.str (YC "rules")))]) (kZ 2))
def q5Z:List S:=[.set 1 (.call 28 [qC,(kZ 0),(kZ 4)]),.set 2 (.call 36 [qC,qG]),.set 3 (.call 31 [qG]),.set 4 (.call 33 [(kZ 2),qG,qG]),pT,pU,.ifs A1 [.ret A2] [],.set 5 (.call 31 [qO]),.set 6 (.call 33 [(kZ 0),qG,qO]),pV,.set 7 pX,pW,.set 8 aB,q60,.ret pY]
def iS(Z:Ev.Env):ev G q8 (.qA [(kZ 9),(.q6 [])]) Z=.ok nine:=kc (jw rfl (xB (jW _) (by simp))) (by simp)
def q63(zs:List Int):Gm 12 37 [.q6 (iL zs)]=.ok (.bl Qd):=by
 refine(zd 11 37 _ 1 9 q5Z rfl rfl).trans ?_;refine i7 (lM 7 0 (by decide:4<=5) zs) λn ws hn g u yh e28=>?_;refine zK (q3u g u hn yh 6 zs) λn' vs DT g' u' e36=>?_;refine qL (lK g hn) λF us o hF hp=>?_;have q2i:Gm 11 31 [rD n us]=.ok (.q6 ((qQ n ws).map tD)):=by rw[<-(gq g o.good λx=>(o.Xr x).trans (hF x))];exact G0 o.good 9
 generalize hρ4:[Qa (Sl.val (.q6 (iL zs))),wv (rD n ws),wv (rD n' vs),wv (.q6 ((qQ n ws).map tD)),wv (rD n us),Qg,Qg,Qg,Qg]=ρ4;have head:∀l,qN (Gm 11) q8 (.set 1 (.call 28 [qC,(kZ 0),(kZ 4)])::.set 2 (.call 36 [qC,qG])::.set 3 (.call 31 [qG])::.set 4 (.call 33 [(kZ 2),qG,qG])::l) [wv (.q6 (iL zs)),Qg,Qg,Qg,Qg,Qg,Qg,Qg,Qg]=qN (Gm 11) q8 l ρ4:=λl=>by refine(qg (ρ':=[wv (.q6 (iL zs)),wv (rD n ws),Qg,Qg,Qg,Qg,Qg,Qg,Qg]) (by rw[zh,yb (x:=.q6 (iL zs)) (y:=nI 0) (z:=nI 4) rfl rfl rfl e28,qF];rfl)).trans ?_;refine(qg (ρ':=[wv (.q6 (iL zs)),wv (rD n ws),wv (rD n' vs),Qg,Qg,Qg,Qg,Qg,Qg]) (by rw[zh,kY (x:=.q6 (iL zs)) (y:=rD n ws) rfl rfl e36,qF];rfl)).trans ?_;refine(qg (ρ':=[wv (.q6 (iL zs)),wv (rD n ws),wv (rD n' vs),wv (.q6 ((qQ n ws).map tD)),Qg,Qg,Qg,Qg,Qg]) (by rw[zh,vC,zN (x:=rD n ws) rfl,qB,(G0 g 9),qF];rfl)).trans ?_;exact qg (by rw[zh,yb (x:=nI 2) (y:=rD n ws) (z:=rD n ws) rfl rfl rfl (DE 9 (by decide) (hp 4)),qF,<-hρ4];rfl)
 have v1:ev (Gm 11) q8 qG ρ4=.ok (rD n ws):=by rw[<-hρ4];rfl
 have v3:ev (Gm 11) q8 qp ρ4=.ok (.q6 ((qQ n ws).map tD)):=by rw[<-hρ4];rfl
 have v4:ev (Gm 11) q8 qS ρ4=.ok (rD n us):=by rw[<-hρ4];rfl
 have s1:ex (Gm 11) q8 pT ρ4=.ok ρ4 .nx:=by
  refine ui (AU (sA ?_) (AU (jj ?_) (jj ?_)))
  .rw[jA,zN v4,qB];rfl
  .exact jO v4 (kY v1 v3 (q3o g o hF 9)) rY
  .exact jO (by rw[vC,zN v4,qB,q2i]) v3 (AE (Af _) (q2u _))
 have s2:ex (Gm 11) q8 pU ρ4=.ok ρ4 .nx:=ui (jj (jO (yb (x:=nI 3) rfl v1 v1 (DE 9 (by decide) (q3x g u 4))) (kY v1 v3 (q3p g u 8)) rY));have t3:qz (Gm 11) q8 A1 ρ4=.ok (!decide (n=n')):=jj (jO (x:=nI n) (y:=nI n') (uX 1 (by rw[<-hρ4];rfl)) (uX 2 (by rw[<-hρ4];rfl)) (rX n n'))
 by_cases q:n=n'
 .subst q;have s3:ex (Gm 11) q8 (.ifs A1 [.ret A2] []) ρ4=.ok ρ4 .nx:=ui (by rw[t3];simp);refine qL (lK g' hn) λF' vc o' lY vE=>?_;have q4W:vc=us↔qQ n ws=qQ n vs:=by
   constructor
   .intro e;refine(Fz g g').mpr λx=>?_;rw[<-hF,<-o.Xr,<-lY,<-o'.Xr,e]
   .intro e;have:F'=F:=JI λi=>QR.mpr (by rw[lY,hF];exact((Fz g g').mp e i).symm);subst this;exact q7C o' o
  generalize hρ6:[Qa (Sl.val (.q6 (iL zs))),wv (rD n ws),wv (rD n vs),wv (.q6 ((qQ n ws).map tD)),wv (rD n us),wv (.q6 ((qQ n vs).map tD)),wv (.bl (decide (qQ n ws=qQ n vs))),Qg,Qg]=ρ6;have s5:∀l,qN (Gm 11) q8 (.set 5 (.call 31 [qO])::.set 6 (.call 33 [(kZ 0),qG,qO])::l) ρ4=qN (Gm 11) q8 l ρ6:=λl=>by rw[<-hρ4];refine(qg (ρ':=[Qa (Sl.val (.q6 (iL zs))),wv (rD n ws),wv (rD n vs),wv (.q6 ((qQ n ws).map tD)),wv (rD n us),wv (.q6 ((qQ n vs).map tD)),Qg,Qg,Qg]) (by rw[zh,vC,zN (x:=rD n vs) rfl,qB,(G0 g' 9),qF];rfl)).trans ?_;exact qg (by rw[zh,yb (x:=nI 0) (y:=rD n ws) (z:=rD n vs) rfl rfl rfl (DE 9 (by decide) (q3i g g' hn 2)),qF,<-hρ6];rfl)
  have w6:ev (Gm 11) q8 jL ρ6=.ok (.bl (decide (qQ n ws=qQ n vs))):=by rw[<-hρ6];rfl
  have w2:ev (Gm 11) q8 qO ρ6=.ok (rD n vs):=by rw[<-hρ6];rfl
  have w1:ev (Gm 11) q8 qG ρ6=.ok (rD n ws):=by rw[<-hρ6];rfl
  have s6:ex (Gm 11) q8 pV ρ6=.ok ρ6 .nx:=by
   refine ui (AU (sA ?_) (AU (jj ?_) (jj ?_)))
   .rw[jA,zN w6,qB];rfl
   .refine jO w6 (jO (by rw[<-hρ6];rfl) (by rw[<-hρ6];rfl) (iC _ _)) ?_;rw[af];simp
   .refine jO w6 (jO (yb (x:=nI 2) rfl w2 w2 (DE 9 (by decide) (vE 4))) (by rw[<-hρ6];rfl) (q2r _ _)) ?_;rw[af,show decide (vc=us)=decide (qQ n ws=qQ n vs) from by rw[decide_eq_decide];exact q4W];simp
  have e7:ev (Gm 11) q8 pX ρ6=.ok (.q6 ((parts n ws vs).map tD)):=by
   refine Rm (f:=tD) (l:=jb n) (by rw[yc,vC,zN (x:=nI n) (uX 1 (by rw[<-hρ6];rfl)),qB,(lN 10 (by lia:n<=5)),qB,u9]) (λx hx=>?_) (λ_ _ _=>rfl) ?_
   .refine FV (jj (jO (jO (x:=tD x) (y:=.q6 ((qQ n ws).map tD)) rfl (by rw[<-hρ6];rfl) (aL x _)) (jO (x:=tD x) (y:=.q6 ((qQ n vs).map tD)) rfl (by rw[<-hρ6];rfl) (aL x _)) (af _ _)))
   .exact Qx (vx (2^n) _ (RQ ∅) λx hx=>(RP ∅ x).mp hx) (Qx (Q6 (by decide) hn) (by decide))
  generalize hρ7:ρ6.set 7 (wv (.q6 ((parts n ws vs).map tD)))=ρ7;have x7:ev (Gm 11) q8 vd ρ7=.ok (.q6 ((parts n ws vs).map tD)):=by rw[<-hρ7,<-hρ6];rfl
  have ei0:∀P:List Nat,ev (Gm 11) q8 vd ρ7=.ok (.q6 (P.map tD))->ev (Gm 11) q8 (.ite (.e vd) (.idx vd (kZ 0)) (.qh .qE)) ρ7=.ok (AS P.head?):=λP x7=>by
   cases P with
   |nil=>rw[D8,uL,x7,qB];rfl
   |cons m l=>
    have t:qz (Gm 11) q8 (.e vd) ρ7=.ok Qd:=(by rw[uL,x7,qB];rfl);rw[D8,t,qB,if_pos rfl,xn,x7,qB,zf,qB];exact sF (tD m) (l.map tD)
  have s8:ex (Gm 11) q8 pW ρ7=.ok ρ7 .nx:=ui (jj (jO (yb (x:=nI 1) rfl (by rw[<-hρ7,<-hρ6];rfl) (by rw[<-hρ7,<-hρ6];rfl) (DE 9 (by decide) (lJ g g' hn 3))) (ei0 _ x7) (q6M _)));generalize hρ8:ρ7.set 8 (wv (Ig n))=ρ8;have s9:ex (Gm 11) q8 (.set 8 aB) ρ7=.ok ρ8 .nx:=by have i0:ev (Gm 11) q8 (.idx qG (kZ 0)) ρ7=.ok (nI n):=uX 1 (by rw[<-hρ7,<-hρ6];rfl);unfold aB;rw[zh,kc (jw i0 (xB (zN (kc (jw i0 (kc (jW _) (by simp))) (by simp))) (by simp))) (by simp),qF,<-hρ8];rfl
  have y8:∀w:Nat,ev (Gm 11) q8 (.zP 9) (wv (nI w)::ρ8)=.ok (Ig n):=λw=>by rw[<-hρ8,<-hρ7,<-hρ6];rfl
  refine jt (ρ':=ρ8) rfl ((head _).trans ((qg s1).trans ((qg s2).trans ((qg s3).trans ((s5 _).trans ((qg s6).trans ((qg (by rw[zh,e7,qF,hρ7])).trans ((qg s8).trans ((qg s9).trans ((qg (ui (jj (c5 4 (by decide) (λw hw=>yb (x:=nI w) rfl (y8 w) (iS _) (q3k (dO n) nine 3 ∅)) .ne Qh λd h1 h2=>AE h1 h2)))).trans (jX ?_)))))))))));rw[kL,show ev (Gm 11) q8 pY ρ8=.ok (.bl Qd) from c5 2 (by decide) (λw hw=>yb (x:=nI w) rfl (iS _) (y8 w) (q3l (dO n) 3 ∅)) .eq Qd λd h1 h2=>iF h1 h2,qF]
 .have s3:ex (Gm 11) q8 (.ifs A1 [.ret A2] []) ρ4=.ok ρ4 (.ret (.bl Qd)):=by have e3:ev (Gm 11) q8 A2 ρ4=.ok (.bl Qd):=c5 2 (by decide) (λw hw=>yb (x:=nI w) (y:=rD n ws) (z:=rD n' vs) rfl (by rw[<-hρ4];rfl) (by rw[<-hρ4];rfl) (q3z g g' q 3 ∅)) .eq Qd λd h1 h2=>iF h1 h2;rw[wJ,t3,qF,decide_eq_false q,if_pos (show(!false)=Qd from rfl),jF,kL,e3,qF,au]
  exact jt (ρ':=ρ4) rfl ((head _).trans ((qg s1).trans ((qg s2).trans (jX s3))))
end
end Mk
namespace Tk
open PySem PySem.W L2 Ev Snd
noncomputable def top(i:Nat):Stmt:=PySem.Challenge.pw_learnyard_k30_whole_paths.main.body.getD i (.Pass ⟨0,0,0,0⟩)
def gK:DefI:=⟨"mask_of",top 8,["things","mask","thing"],["things"],[],[],Mk.oN,Qh,[]⟩
def gi:DefI:=⟨"things_of",top 9,["mask"],["mask"],[],[],Mk.oX,Qh,[]⟩
def fy:DefI:=⟨"holds",top 10,["mask","thing"],["mask","thing"],[],[],Mk.o6,Qh,[]⟩
def gL:DefI:=⟨"mask_of_all",top 11,["count"],["count"],[],[],Mk.oO,Qh,[]⟩
def gO:DefI:=⟨"needs_of",top 12,["rules","needs","way"],["rules"],["needs"],["needs"],Mk.oQ,Qh,[]⟩
def gN:DefI:=⟨"may_learn",top 13,["needs","known","thing","needed"],["needs","known","thing"],[],[],Mk.oP,Qh,[]⟩
def gP:DefI:=⟨"next_within",top 14,["needs","known","bounds"],["needs","known","bounds"],[],[],Mk.oR,Qh,[]⟩
def gc:DefI:=⟨"states_within",top 15,["needs","bounds","found","waiting","known","thing","larger"],["needs","bounds"],["waiting","found"],[],Mk.oW,Qh,[]⟩
def gE:DefI:=⟨"is_whole",top 19,["value"],["value"],[],[],Mk.GX,Qh,[]⟩
def gC:DefI:=⟨"is_set",top 20,["count","things","ahead","thing"],["count","things"],[],[],Mk.o7,Qh,[]⟩
def gH:DefI:=⟨"look_rules",top 21,["rules","count","ways","way","place"],["rules"],[],[],Mk.oK,Qh,[]⟩
def gJ:DefI:=⟨"look_way",top 22,["count","way","thing","needed"],["count","way"],[],[],Mk.Xd,Qh,[]⟩
def gZ:DefI:=⟨"states",top 23,["rules"],["rules"],[],[],Mk.Ge,Qh,[]⟩
def gb:DefI:=⟨"states_order",top 24,["things"],["things"],[],[],Mk.Gf,Qh,[]⟩
def gM:DefI:=⟨"masks_of_states",top 25,["rules"],["rules"],[],[],Mk.R9,Qh,[]⟩
def gV:DefI:=⟨"paths",top 27,["rules","found"],["rules"],[],[],Mk.PY,Qh,[]⟩
def gX:DefI:=⟨"paths_of",top 28,["count","found","ways","thing"],["count","found"],["ways"],[],Mk.oV,Qh,[]⟩
def gF:DefI:=⟨"least_openings",top 29,["found","thing","least","mask"],["found","thing"],["least"],[],Mk.oJ,Qh,[]⟩
def gT:DefI:=⟨"opens",top 30,["found","mask","thing"],["found","mask","thing"],[],[],Mk.SQ,Qh,[]⟩
def gG:DefI:=⟨"look_both",top 31,["one","other"],["one","other"],[],[],Mk.yF,Qh,[]⟩
def fx:DefI:=⟨"alike",top 32,["one","other"],["one","other"],[],[],Mk.PT,Qh,[]⟩
def gU:DefI:=⟨"parting",top 33,["one","other","apart"],["one","other"],[],[],Mk.PX,Qh,[]⟩
def gY:DefI:=⟨"spare",top 34,["rules","found","counts","kept","way","opened","opening"],["rules"],["kept"],[],Mk.Dr,Qh,["counts"]⟩
def gR:DefI:=⟨"opened_counts",top 35,["ways","found","counts","way","opening"],["ways","found"],[],[],Mk.oU,Qd,["counts"]⟩
def gQ:DefI:=⟨"opened_by",top 36,["way","found","thing","needed"],["way","found"],[],[],Mk.SP,Qh,[]⟩
def fX:DefI:=⟨"_law_cell",top 38,["_law_script","_law_k"],["_law_script","_law_k"],[],[],Mk.PU,Qh,[]⟩
def fY:DefI:=⟨"_law_mix",top 39,["_law_script","_law_k","_law_number"],["_law_script","_law_k"],[],[],Mk.Dq,Qh,[]⟩
def ft:DefI:=⟨"_law_subset",top 40,["_law_script","_law_k","_law_things","_law_number"],["_law_script","_law_k","_law_things"],[],[],Mk.GZ,Qh,[]⟩
def fh:DefI:=⟨"_law_rules",top 41,["_law_script","_law_k","_law_most","_law_many","_law_found","_law_thing","_law_others","_law_j","_law_needed"],["_law_script","_law_k","_law_most"],["_law_found"],[],Mk.GY,Qh,[]⟩
def fj:DefI:=⟨"_law_sets",top 42,["_law_many","_law_found","_law_thing"],["_law_many"],[],[],Mk.uq,Qh,[]⟩
def fZ:DefI:=⟨"_law_next",top 43,["_law_rules_here","_law_things","_law_found","_law_thing","_law_good"],["_law_rules_here","_law_things"],["_law_found"],[],Mk.o9,Qh,[]⟩
def fq:DefI:=⟨"_law_states",top 44,["_law_rules_here","_law_found","_law_things","_law_thing","_law_less"],["_law_rules_here"],["_law_found"],[],Mk.oH,Qh,[]⟩
def fg:DefI:=⟨"_law_refusal",top 45,["_law_kept","_law_kinds"],["_law_kept"],[],[],Mk.PV,Qh,[]⟩
def fu:DefI:=⟨"_law_told",top 46,["_law_way","_law_one","_law_other_here","_law_kept","_law_found","e"],["_law_way","_law_one","_law_other_here"],[],[],Mk.PW,Qh,[]⟩
def fe:DefI:=⟨"_law_paths",top 47,["_law_rules_here","_law_due","_law_found","_law_thing","_law_state","_law_some","_law_lesser"],["_law_rules_here","_law_due"],["_law_found"],[],Mk.oF,Qh,[]⟩
def fo:DefI:=⟨"_law_spare",top 48,["_law_rules_here","_law_due","_law_ways","_law_way","_law_fewer"],["_law_rules_here","_law_due"],[],[],Mk.oG,Qh,[]⟩
def fc:DefI:=⟨"_law_other",top 49,["_law_script","_law_rules_here","_law_number","_law_many","_law_ways","_law_at","_law_more","_law_some","_law_thing","_law_needed"],["_law_script","_law_rules_here"],["_law_more"],[],Mk.oE,Qh,[]⟩
def LC:DefI:=⟨"law",top 50,["_law_script","_law_one","_law_other_here","_law_due","_law_found","_law_theirs","_law_same","_law_parts","_law_bad"],["_law_script"],[],[],Mk.o8,Qh,[]⟩
def tx:TxtI:={ds:=[gK,gi,fy,gL,gO,gN,gP,gc,gE,gC,gH,gJ,gZ,gb,gM,gV,gX,gF,gT,gG,fx,gU,gY,gR,gQ,fX,fY,ft,fh,fj,fZ,fq,fg,fu,fe,fo,fc,LC],consts:=[("MOST_THINGS",.int 10),("MOST_WAYS",.int 1300)],excs:=["LearnError","BadRules","BadState","Unlike","BadNumber","BadText"],sub:=Mk.q8}
def q1N:∀d∈tx.ds,DefOk tx d:=by simp only[tx,Y4];refine⟨?_,?_,?_,?_,?_,?_,?_,?_,?_,?_,?_,?_,?_,?_,?_,?_,?_,?_,?_,?_,?_,?_,?_,?_,?_,?_,?_,?_,?_,?_,?_,?_,?_,?_,?_,?_,?_,?_,λ_ h=>absurd h Vr⟩<;>exact⟨⟨rfl,rfl,rfl,by decide+kernel,rfl,by decide+kernel,by decide+kernel⟩,by kernel_rfl,λ_ _ _ _ _ _ us hl=>by first|(obtain⟨a,e⟩:=q5g hl;subst e;rfl)|(obtain⟨a,b,e⟩:=q5h hl;subst e;rfl)|(obtain⟨a,b,c,e⟩:=q5i hl;subst e;rfl)|(obtain⟨a,b,c,d,e⟩:=len_4 hl;subst e;rfl)⟩
def q2e:Mk.Ec=tx.ds.map λd=>(d.ps.length,d.N.length,d.l,d.nw):=rfl
theorem lQ:∀k:Nat,Snd.Gk tx k=Mk.Gm k
 |0=>rfl
 |k+1=>by
  funext f xs;rw[Snd.Gk,Mk.Gm,q2e,QJ,lQ k];cases tx.ds[f]?with
  |none=>rfl
  |some d=>rfl
def q4P(ns:List Int)(_:ns.length<=63):Snd.Gk tx 12 37 [.q6 (ns.map Ev.D.int)]=.ok (.bl Qd):=by rw[lQ];exact Mk.q63 ns
def ET{α:Type}{P:Nat->Prop}{l:List α}{x:α}{c:Nat}(h:l[c]?=Qa x)(hl:l.length=6)(h0:c=0->P 0)(h1:c=1->P 1)(h2:c=2->P 2)(h3:c=3->P 3)(h4:c=4->P 4)(h5:c=5->P 5):P c:=by
 have hc:c<6:=by rw[<-hl];exact(Qj.mp h).1
 match c,hc with
 |0,_=>exact h0 rfl
 |1,_=>exact h1 rfl
 |2,_=>exact h2 rfl
 |3,_=>exact h3 rfl
 |4,_=>exact h4 rfl
 |5,_=>exact h5 rfl
def txt{K:QL}{C0 C1 C2 C3 C4 C5:Addr}{t0 t1:Tok}(hf:∀d∈tx.ds,E4 K d.name d.st)(hb:∀x∈zk,nsIn K mainGlobals x=Qa Qg)
  (k0:nsIn K mainGlobals "MOST_THINGS"=Qa (Qa (.int 10 t0)))
  (k1:nsIn K mainGlobals "MOST_WAYS"=Qa (Qa (.int 1300 t1)))
  (e0:ExcI K "LearnError" C0)
  (e1:ExcI K "BadRules" C1)
  (e2:ExcI K "BadState" C2)
  (e3:ExcI K "Unlike" C3)
  (e4:ExcI K "BadNumber" C4)
  (e5:ExcI K "BadText" C5)
  (hs:∀(e c:Nat)(Ce Cc:Addr),[C0,C1,C2,C3,C4,C5][e]?=Qa Ce->[C0,C1,C2,C3,C4,C5][c]?=Qa Cc->exmOne K (.ref Ce) (.ref Cc)=Qa (Mk.q8 e c)/\kitOne K (.ref Ce) (.ref Cc)=Qa (Mk.q8 e c)):TxtOk K tx ⟨K,[C0,C1,C2,C3,C4,C5]⟩:=by
 refine⟨rfl,λj d h=>⟨q1N d (Qz h),hf d (Qz h)⟩,hb,λx d h=>?_,λc x h=>?_,λc C h=>?_,hs⟩
 .have h:List.lookup x [(("MOST_THINGS":Str),(D.int 10)),(("MOST_WAYS":Str),(D.int 1300))]=Qa d:=h;rw[Jf]at h;split at h
  .rename_i hx;cases h;cases beq_iff_eq.mp hx;exact⟨_,_,rfl,k0⟩
  rw[Jf]at h;split at h
  .rename_i hx;cases h;cases beq_iff_eq.mp hx;exact⟨_,_,rfl,k1⟩
  cases h
 .refine ET (P:=λc=>∃C,[C0,C1,C2,C3,C4,C5][c]?=Qa C/\ExcI K x C) h rfl (λz=>by subst z;cases h;exact⟨_,rfl,e0⟩) (λz=>by subst z;cases h;exact⟨_,rfl,e1⟩) (λz=>by subst z;cases h;exact⟨_,rfl,e2⟩) (λz=>by subst z;cases h;exact⟨_,rfl,e3⟩) (λz=>by subst z;cases h;exact⟨_,rfl,e4⟩) (λz=>by subst z;cases h;exact⟨_,rfl,e5⟩)
 .refine ET (P:=λc=>∃x,tx.excs[c]?=Qa x/\ExcI K x C) h rfl (λz=>by subst z;cases h;exact⟨_,rfl,e0⟩) (λz=>by subst z;cases h;exact⟨_,rfl,e1⟩) (λz=>by subst z;cases h;exact⟨_,rfl,e2⟩) (λz=>by subst z;cases h;exact⟨_,rfl,e3⟩) (λz=>by subst z;cases h;exact⟨_,rfl,e4⟩) (λz=>by subst z;cases h;exact⟨_,rfl,e5⟩)
end Tk
open PySem PySem.W PyProof.Rows L2 Ev Snd
namespace Tk
def q5e{p q:Program}{loose:List Str}{Xt:Shared->Bool}{α:Type}{Yf:Shared->α}{Ya:World->α}{N:Nat}{g0:Bool}{H₀:Params->Heap}{gs₀:Array GenState}{d₀:Drawn}{k₀:Nat}(op:∀w:World,(fencedOpening treeTable p w N).map (λs=>(s.heap,s.gens,s.drawn,s.toks))=Qa (H₀ w.params,gs₀,d₀,k₀))
  (run:∀(w:World)(os:OsState),(topFrom treeTable p w N ⟨H₀ w.params,gs₀,d₀,k₀,os⟩).map (λs=>(openSeen q loose (importedModules p.main.body) Xt g0 s,Yf s))=Qa (openGood q loose,Ya w)):LeftO p q loose Xt Yf Ya N g0:=λw=>by
 obtain⟨⟨h,gs,d,k,os⟩,e,e'⟩:=YF.mp (op w);obtain⟨rfl,rfl,rfl,rfl⟩:h=H₀ w.params/\gs=gs₀/\d=d₀/\k=k₀:=by simpa using e'
 unfold openEnds;rw[e];exact run w os
def looseL:List Str:=(PySem.Challenge.pw_learnyard_k30_whole_paths.main.scope.names.map (·.1)).filter (·!="law")
def qP:Program:=view PySem.Challenge.pw_learnyard_k30_whole_paths [PySem.Challenge.pw_learnyard_k30_whole_paths.main.body.length-1]
set_option maxRecDepth 100000 in
def q8J:PySem.Challenge.rw_learnyard_k30_whole_paths.wellSaid=Qd:=by rw[Fast.te9446332074065402090];kernel_rfl
end Tk
local macro_rules|`(tactic| o_head $H)=>`(tactic| refine holds_open (q:=Tk.qP) (loose:=Tk.looseL) (Xt:=λ s=>xlAt Tk.qP [] s&&recOk (RowW.records (OpenRow.toRowW (OpenLaw.row PySem.Challenge.rw_learnyard_k30_whole_paths))) s) (XP:=XL Tk.qP []) (Yf:=Hook.obs $H) (Ya:=Hook.val $H) (YP:=Hook.says $H) (N:=9000) ?hl (Hook.of $H) (Hook.keeps $H) (λ s e=>xl_of s (Bool.and_eq_true_iff.mp e).1) XL.keeps (by rfl) (by rfl) (by rfl) (λ s e=>recFacts_of (Bool.and_eq_true_iff.mp e).2) (by rfl) (by assumption) (by decide +kernel) ⟨rfl,rfl,rfl,rfl,rfl,by decide +kernel⟩ ?hw ?hc)
set_option maxRecDepth 100000 in
set_option maxHeartbeats 0 in
theorem PySem.Challenge.cw_learnyard_k30_whole_paths_holds : PySem.Challenge.rw_learnyard_k30_whole_paths.Holds := by
 w_on
 refine holds_law Tk.q8J λ said=>?_
 k_head
 case hl =>
  refine Tk.q5e (boot_open (by kernel_rfl) (by kernel_rfl) (λ s=>by kernel_rfl)) λ w os=>?_
  unfold topFrom
  rw[Fast.te14082659384304107361,Fast.te14364793385576792824,Fast.te4187177175401517315]
  kernel_rfl
 (case hw=>w_witness2)
 k_fill
 refine Snd.walk (l:=PySem.Challenge.rw_learnyard_k30_whole_paths) (x := "_law_script") 12 rfl rfl ⟨rfl,by decide,by decide⟩ (λ w h Y=>PySem.W.kIn_of Y) ?F
 case F =>
  intro w mg fa h KX G DS
  have F:∀d∈Tk.tx.ds,E4 (L2.Fe KX) d.name d.st:=by
   dsimp only[L2.Fe]
   simp only[Tk.tx,List.forall_mem_cons,Tk.gK,Tk.gi,Tk.fy,Tk.gL,Tk.gO,Tk.gN,Tk.gP,Tk.gc,Tk.gE,Tk.gC,Tk.gH,Tk.gJ,Tk.gZ,Tk.gb,Tk.gM,Tk.gV,Tk.gX,Tk.gF,Tk.gT,Tk.gG,Tk.fx,Tk.gU,Tk.gY,Tk.gR,Tk.gQ,Tk.fX,Tk.fY,Tk.ft,Tk.fh,Tk.fj,Tk.fZ,Tk.fq,Tk.fg,Tk.fu,Tk.fe,Tk.fo,Tk.fc,Tk.LC]
   refine' ⟨?_,?_,?_,?_,?_,?_,?_,?_,?_,?_,?_,?_,?_,?_,?_,?_,?_,?_,?_,?_,?_,?_,?_,?_,?_,?_,?_,?_,?_,?_,?_,?_,?_,?_,?_,?_,?_,?_,λ _ z=>absurd z List.not_mem_nil⟩<;>(refine' q3S ?a ?l ?c ?k;(case a=>k_is);(case l=>k_is);(case c=>k_is);(case k=>k_is))
  have T:∃p,TxtOk (L2.Fe KX) Tk.tx p:=by
   dsimp only[L2.Fe]
   refine' ⟨_,Tk.txt (t0:=356) (t1:=358) (λ d h=>by simpa only [L2.Fe] using F d h) ?hb ?zk0 ?zk1 ⟨?za0,?zx0,⟨?zg0,?zh0,?zb0,?zo0,?zs0,?zt0,?zm0,?zc0⟩,?zv0⟩ ⟨?za1,?zx1,⟨?zg1,?zh1,?zb1,?zo1,?zs1,?zt1,?zm1,?zc1⟩,?zv1⟩ ⟨?za2,?zx2,⟨?zg2,?zh2,?zb2,?zo2,?zs2,?zt2,?zm2,?zc2⟩,?zv2⟩ ⟨?za3,?zx3,⟨?zg3,?zh3,?zb3,?zo3,?zs3,?zt3,?zm3,?zc3⟩,?zv3⟩ ⟨?za4,?zx4,⟨?zg4,?zh4,?zb4,?zo4,?zs4,?zt4,?zm4,?zc4⟩,?zv4⟩ ⟨?za5,?zx5,⟨?zg5,?zh5,?zb5,?zo5,?zs5,?zt5,?zm5,?zc5⟩,?zv5⟩ ?hs⟩
   (case za0=>k_is);(case zx0=>k_exc);(case zg0=>k_is);(case zh0=>k_is);(case zb0=>k_is);(case zo0=>k_is);(case zs0=>k_is);(case zt0=>k_is);(case zm0=>k_is);(case zc0=>k_is);(case zv0=>kit_is)
   (case za1=>k_is);(case zx1=>k_exc);(case zg1=>k_is);(case zh1=>k_is);(case zb1=>k_is);(case zo1=>k_is);(case zs1=>k_is);(case zt1=>k_is);(case zm1=>k_is);(case zc1=>k_is);(case zv1=>kit_is)
   (case za2=>k_is);(case zx2=>k_exc);(case zg2=>k_is);(case zh2=>k_is);(case zb2=>k_is);(case zo2=>k_is);(case zs2=>k_is);(case zt2=>k_is);(case zm2=>k_is);(case zc2=>k_is);(case zv2=>kit_is)
   (case za3=>k_is);(case zx3=>k_exc);(case zg3=>k_is);(case zh3=>k_is);(case zb3=>k_is);(case zo3=>k_is);(case zs3=>k_is);(case zt3=>k_is);(case zm3=>k_is);(case zc3=>k_is);(case zv3=>kit_is)
   (case za4=>k_is);(case zx4=>k_exc);(case zg4=>k_is);(case zh4=>k_is);(case zb4=>k_is);(case zo4=>k_is);(case zs4=>k_is);(case zt4=>k_is);(case zm4=>k_is);(case zc4=>k_is);(case zv4=>kit_is)
   (case za5=>k_is);(case zx5=>k_exc);(case zg5=>k_is);(case zh5=>k_is);(case zb5=>k_is);(case zo5=>k_is);(case zs5=>k_is);(case zt5=>k_is);(case zm5=>k_is);(case zc5=>k_is);(case zv5=>kit_is)
   (case hs =>
    intro e c Ce Cc h1 h2
    refine Tk.ET (P:=λ e=>exmOne _ (.ref Ce) (.ref Cc)=some (Mk.q8 e c)/\kitOne _ (.ref Ce) (.ref Cc)=some (Mk.q8 e c)) h1 rfl ?_ ?_ ?_ ?_ ?_ ?_<;>
    (intro z;subst z;cases h1;refine Tk.ET (P:=λ c=>exmOne _ _ (.ref Cc)=some (Mk.q8 _ c)/\kitOne _ _ (.ref Cc)=some (Mk.q8 _ c)) h2 rfl ?_ ?_ ?_ ?_ ?_ ?_<;>(intro z;subst z;cases h2;refine⟨?_,?_⟩;kts_exm;kit_is)))
   (case zk0=>kernel_rfl)
   (case zk1=>kernel_rfl)
   (case hb=>simp only[zk,List.forall_mem_cons];refine⟨?_,?_,?_,?_,?_,?_,?_,?_,?_,?_,?_,?_,?_,?_,?_,?_,?_,λ _ z=>absurd z List.not_mem_nil⟩<;>k_is)
  obtain⟨p,T⟩:=T
  obtain⟨fd,hb,hF⟩:=Snd.q5b (l:=PySem.Challenge.rw_learnyard_k30_whole_paths) (w:=w) (j:=37) (d:=Tk.LC) (x := "_law_script") Snd.sset T KX G rfl rfl rfl DS 12
  exact⟨fd,hb,λ base kb nb=>(hF base kb nb).imp (Snd.q9K T.pk Tk.q4P)⟩
