import PyProof.Rows.All
import Wide.All
import OpenK.AllK
import Wide.FinOn
import Lean
import PyProof.EqAt
import PyProof.EqKinds
import PyProof.TupleCall
import PyProof.CollectIter
import PyProof.TupleOfStr
import PyProof.TupleOfSeq
import KE.KDictOf
import KE.KDictSum
import PyProof.AttrMissHeap
import KE.KSortAsk
import PyProof.SetKind
import PyProof.TupleKey
import PyProof.SetRoads
import PyProof.DictIter
import KE.KDictList
import KE.KItemsList
import PySem.Challenge.RW_wearplan_k12_least
open List renaming length_map->k1v,getElem?_eq_getElem->k1u,getElem?_eq_some_iff->k1t,getD_eq_getElem?_getD->k1r,mem_cons_of_mem->k1o,mem_of_getElem?->k1m,map_cons->k1l,length_cons->k1k,getElem?_map->k1h,mem_cons_self->k1g,getElem?_set_ne->k1e,mem_singleton->k1d,length_append->k1b,map_append->j1z,getElem?_append_right->j1y,getElem?_cons_succ->j1w,getElem?_cons_zero->j1v,mem_map->j1u,mem_append_right->j1s,map_nil->j1r,getElem?_append_left->j1q,mem_cons->j1n,size_toArray->j1m,all_eq_true->j1l,mem_append->j1g,take_append_drop->j1f,drop_eq_getElem_cons->i1z,nil_append->i1x,getElem?_set->i1w,append_assoc->i1v,getElem_mem->i1t,mem_append_left->i1s,all_cons->i1n,map_map->i1j,eq_nil_of_length_eq_zero->i1g,length_singleton->i1d,perm_append_comm->i1b,take_length->h1z,cons_append->h1y,length_range->h1u,getElem?_eq_none_iff->h1t,append_nil->h1s,of_mem_zip->h1m,length_reverse->h1k,find?_cons->h1j,getElem?_set_self->h1h,range_succ_eq_map->h1g,length_take->h1c,mem_iff_getElem?->g1y,mem_iff_getElem->g1w,nodup_cons->g1v,length_nil->g1t,any_cons->g1q,length_eq_zero_iff->g1o,any_eq_true->g1n,take_succ->g1m,take_of_length_le->g1l,contains_cons->g1j,find?_eq_none->g1i,mem_filter->g1h,getElem?_toArray->g1f,length_filter_le->g1b,mem_range->f1x,mem_of_find?_eq_some->f1v,filterMap_cons->f1t,range_succ->f1h,pairwise_cons->f1g,drop_eq_nil_of_le->f1c,reverse_cons->e1z,take_add_one->e1y,getElem?_reverse->e1u,pairwise_append->e1r,replicate_succ->e1o,forIn_cons->e1n,length_set->e1m,find?_some->e1j,map_congr_left->e1h,drop_zero->d1x,drop_drop->d1w,pairwise_iff_getElem->d1u,pairwise_singleton->d1k,drop_length->d1g,filter_cons->d1c,all_map->c1w,getElem?_eq_none->c1v,filter_nil->c1u,mem_of_mem_take->c1l,range_eq_range'->c1j,range'_append_1->c1i,forall_mem_cons->c1h,mem_filterMap->b1y,filterMap_map->b1x,length_range'->b1u,mapM_toArray->b1n,ext_getElem?->b1m,reverse_perm->b1j,flatten_cons->b1e,lookup_cons->a1y,zipIdx_cons->a1x,getElem_map->a1v,all_toArray->a1u,perm_middle->a1r,map_reverse->a1q,foldl_cons->a1m,all_append->a1h,map_id->a1g
open Array renaming getElem?_eq_getElem->j1h,getElem_mem->j1b,toList_extract->i1r,length_toList->i1o,perm_iff_toList_perm->i1k,getElem?_toList->i1c,toList_append->h1v,mem_toList_iff->g1x,getD_eq_getD_getElem?->g1c,toList_setIfInBounds->g1a,size_extract->f1i,getElem?_eq_none->f1b,getElem?_eq_some_iff->e1d,toList_reverse->c1k,toList_push->b1i
open PySem
open PySem.W renaming Frag->Fg
open PySem.Heap renaming get?_push_of_some->k1w,get?_push_size->k1s,lt_size->k1n,get?_update_self->j1x,get?_update_other->j1t,size_push->j1j,get?_update_ne->f1s,get?_push_cases->e1s,get?_none_of_le->c1p,get?_push_ne->b1g
open Nat renaming le_refl->k1q,ne_of_lt->k1i,lt_of_lt_of_le->k1f,le_trans->j1o,zero_le->j1e,ne_of_gt->i1p,lt_of_succ_lt->i1l,zero_add->i1e,pow_le_pow_right->i1a,lt_succ_of_lt->h1w,lt_succ_self->h1r,sub_self->h1n,le_succ->h1i,le_of_lt->h1b,lt_irrefl->g1r,not_lt_zero->g1d,sub_zero->f1n,add_sub_cancel_left->f1j,lt_of_le_of_lt->f1f,mul_comm->e1w,le_of_eq->e1c,pow_succ->d1z,lt_succ_of_le->d1q,lt_succ_iff_lt_or_eq->d1p,le_of_not_lt->d1f,zero_lt_succ->d1d,lt_trichotomy->b1h,lt_trans->b1d,add_zero->b1c,succ_add->b1b,succ_ne_self->a1w,mod_eq_of_lt->a1s,mod_mul->a1j
open Bool renaming and_eq_true->k1p,false_ne_true->k1j,false_eq_true->k1a,not_true->j1i,not_eq_true'->i1m,not_false->i1h,true_and->h1p,and_eq_true_iff->c1g,and_false->c1f,eq_false_iff->b1r,eq_iff_iff->a1p
open Option renaming map_eq_some_iff->k1c,isNone_iff_eq_none->f1y,bind_some->f1u,isSome_iff_exists->f1q,getD_some->d1e,getD_none->a1z
open PySem.Obj renaming data_mapFields->j1p,isFreed_of_fields->j1a,cls_mapFields->g1s
open Ne renaming symm->j1k
open PySem.Heap.SameBut renaming update->j1d,trans->d1y,refl->b1k
open Int renaming toNat_natCast->j1c,emod_lt_of_pos->h1a,emod_nonneg->g1g,le_refl->e1i,zero_add->c1r,le_trans->b1a
open PyProof.Rows renaming callWith_type1->i1y,slot_tuple_getitem->g1u,callWith_builtin1->e1x
open PySem.W.Fast renaming te14364793385576792824->i1u
open Option.some renaming inj->i1q
open PySem.Calls renaming callWith_builtin->i1i,spliced_cons->g1k,spliced_nil->f1a,Name_function_global->e1g,evalArgs_plain->c1n
open PySem.F renaming slot_dict_itemiterator_next->i1f,plain_min_loop->h1x,plainAttrs_dict->h1q,slot_dict_valueiterator_next->h1o,slot_dict_keyiterator_next->h1e,slot_tuple_iterator_next->h1d,slot_tuple_lt->g1e,plain_extend_loop->f1w,slot_dict_itemiterator_iter->f1r,args_tuple_add_2->f1p,slot_dict_values->f1o,entry_tuple_add->f1l,slot_dict_items->f1e,slot_tuple_add->f1d,slot_dict_get->e1v,slot_dict_values_iter->e1t,args_tuple_iterator_next_1->e1q,slot_dict_items_iter->e1p,entry_tuple_iterator_next->e1l,slot_zip_next->e1k,excBase_ValueError->e1f,entry_extend_loop->d1t,type_dict_values->d1r,args_dict_get_3->d1n,plainAttrs_list->d1m,args_tuple_lt_2->d1l,plain_list_iadd->d1j,type_dict_items->d1i,entry_dict_get->d1a,entry_tuple_lt->c1z,slot_dict_iter->c1y,entry_min_loop->c1x,slot_set_iter->c1t,args_list_append_2->c1m,entry_list_append->c1d,slot_list_append->b1w
open PySem renaming mem_of_lookup->h1l,evalArgs_none->g1p,list_append->b1s
open List.Perm renaming append_right->h1f,append_left->g1z,of_eq->a1i
open PySem.Around renaming under_plainId->f1z
open PySem.SetTable renaming toList_insertAt->f1m
open PySem.Code renaming quiet_builtin->f1k
open PyProof.Rows.LSm renaming kept_iter->e1e,range_all->a1f
open PySem.SeqAt.EqAt renaming int_int->e1b,int_str->c1b,str_int->c1a,same->a1n
open PySem.W renaming callWith_K->e1a,mg_of->d1h,cellsFrom_some->d1b,looks_findIn->c1o,findObj_own->c1e,looks_mroIn->c1c,tail_of_in->b1v,kitx_list->b1q,kitx_dict->b1p,bind_fn->a1o,kia_one->a1l
open Classical renaming byContradiction->d1v
open PySem.SeqAt.RcAt renaming lists_lengths->d1s,tuples->b1l,lists->a1t
open PySem.PassesOwn renaming leaving->d1o
open Nat.succ renaming inj->c1s
open Std.Legacy.Range renaming forIn_eq_forIn_range'->c1q
open PySem.Paired renaming length->b1z
open PySem.Heap.Ns1 renaming of_empty->b1t
open Iff renaming rfl->b1o
open Decidable renaming not_not->b1f
open StateT renaming run_lift->a1k
open PySem.Walks renaming list->a1e
open PySem.W.KatTups renaming cons->a1d
open PySem renaming wpAny_bind->y0,wpAny_pure->d0,Value->Z0,Shared->Y0,Addr->X0,Program->V0,World->T0,starEach->R0,Params->P0,wpAny_newObj_type->N0,wpAny_mono->K0,Heap->J0,wpAny_holding->D0,Around->A0,wpAny_call_entry->Z1,Stmt->Y1,bootBuiltins->W1,wpAny_field->V1,attributeBase->U1,wpAny_setField_rec->T1,compareOp->R1,DictEntry->M1,wpAny_truthy_bool->J1,rawInt->G1,wpAny_setField->B1,wpAny_Call_Name_kw->A1,wpAny_seqItems->Z2,wpAny_standAt->X2,mainGlobals->V2,sizeLine_eq->U2,wpAny_setState_of->T2,ExceptHandler->Q2,cLine->O2,sysModules->N2,wpAny_loadPart_at->J2,tupleKeyHash->C2,swapsWith->B2,codeAny->A2,FuncData->l3,OsState->Y3,wpAny_comprehension_free->X3,wpAny_Call_method0_late->W3,wpAny_attempt->T3,tupleKind->S3,treeTable->R3,backTo->Q3,binaryOp->K3,wpAny_pyIter_slot->G3,wpAny_dictEntries->E3,IsTupleKey->D3,wpAny_isSubtype_exc->B3,wpAny_isInstance->p4,wpAny_askSetting->a4,wpAny_typeNameOfWhole_itemiter->Z4,wpAny_typeNameOfWhole_keyiter->Y4,wpAny_typeNameOfWhole_valiter->X4,codeAny_mono->W4,letOwnedTupleGo->V4,wpAny_dictEpoch->U4,codeAny_builtin->T4,wpAny_updateSeq->S4,wpAny_of_eq->R4,wpAny_letGo->Q4,Scope->P4,behindInMarks->O4,wpAny_passesOwn->N4,wpAny_loadPart'->M4,assignEach->K4,wpAny_call->G4,wpAny_pyIter_tuple->E4,wpAny_rule->D4,sliceBounds->C4,wpAny_typeOf->B4,wpAny_pyIter_list->A4,isSubtype_stop->p5,ofAClassStatement->a5,wpAny_isOneOf_itemiter->Y5,plainObj_wpAny_Assign_Attribute->W5,wpAny_notOrdered_dict->V5,wpAny_isOneOf_valiter->U5,call_meets->S5,wpAny_forIn_list->R5,plainKind->Q5,wpAny_onRaise->P5,wpAny_handled->O5,codeAny_call_builtin->N5,wpAny_updateSeq_pair->M5,wpAny_execs_nil->K5,wpAny_loadPart->G5,wpAny_fieldsOf->E5,wpAny_eqBool_tuple->D5,wpAny_check_type_call_sub->C5,codeAny_call_builtin_code->B5,wpAny_assign_Name->A5
open PyProof.Rows renaming SortSt->B0,pendingOf->O1,Keyed->Z3,failedOf->O3,seqObj->Z5,envOfC->T5
open PySem.W renaming segRun_of->N3,piece_app->M3
set_option compiler.extract_closed false
set_option bootstrap.genMatcherCode false
set_option genSizeOf false
set_option genSizeOfSpec false
set_option linter.all false
set_option linter.unusedVariables false
local macro_rules|`(def $n:declId $s:optDeclSig $v:declVal)=>do
 let t<-`(noncomputable def $n:declId $s:optDeclSig $v:declVal)
 return t.raw.rewriteBottomUp fun x=>x.setInfo .none
section
variable{A B C D F G H:Prop}{R:Prop}
def qA(h:A/\B)(k:A->B->R):R:=k h.1 h.2
def qAA(h:A/\B/\C)(k:A->B->C->R):R:=k h.1 h.2.1 h.2.2
def qAAA(h:A/\B/\C/\D)(k:A->B->C->D->R):R:=k h.1 h.2.1 h.2.2.1 h.2.2.2
def qAAAA(h:A/\B/\C/\D/\F)(k:A->B->C->D->F->R):R:=k h.1 h.2.1 h.2.2.1 h.2.2.2.1 h.2.2.2.2
def qAAAAA(h:A/\B/\C/\D/\F/\G)(k:A->B->C->D->F->G->R):R:=k h.1 h.2.1 h.2.2.1 h.2.2.2.1 h.2.2.2.2.1 h.2.2.2.2.2
def qAAAAAA(h:A/\B/\C/\D/\F/\G/\H)(k:A->B->C->D->F->G->H->R):R:=k h.1 h.2.1 h.2.2.1 h.2.2.2.1 h.2.2.2.2.1 h.2.2.2.2.2.1 h.2.2.2.2.2.2
end
section
variable{T0:Sort _}{A B C D F G:T0->Prop}{R:Prop}
def qE(h:∃a,A a)(k:∀a,A a->R):R:=h.elim λa h=>k a h
def qEA(h:∃a,A a/\B a)(k:∀a,A a->B a->R):R:=h.elim λa h=>k a h.1 h.2
def qEAA(h:∃a,A a/\B a/\C a)(k:∀a,A a->B a->C a->R):R:=h.elim λa h=>k a h.1 h.2.1 h.2.2
def qEAAA(h:∃a,A a/\B a/\C a/\D a)(k:∀a,A a->B a->C a->D a->R):R:=h.elim λa h=>k a h.1 h.2.1 h.2.2.1 h.2.2.2
def qEAAAA(h:∃a,A a/\B a/\C a/\D a/\F a)(k:∀a,A a->B a->C a->D a->F a->R):R:=h.elim λa h=>k a h.1 h.2.1 h.2.2.1 h.2.2.2.1 h.2.2.2.2
def qEAAAAA(h:∃a,A a/\B a/\C a/\D a/\F a/\G a)(k:∀a,A a->B a->C a->D a->F a->G a->R):R:=h.elim λa h=>k a h.1 h.2.1 h.2.2.1 h.2.2.2.1 h.2.2.2.2.1 h.2.2.2.2.2
end
section
variable{T0 T1:Sort _}{A B C D F G:T0->T1->Prop}{R:Prop}
def qEE(h:∃a b,A a b)(k:∀a b,A a b->R):R:=h.elim λa h=>h.elim λb h=>k a b h
def qEEA(h:∃a b,A a b/\B a b)(k:∀a b,A a b->B a b->R):R:=h.elim λa h=>h.elim λb h=>k a b h.1 h.2
def qEEAA(h:∃a b,A a b/\B a b/\C a b)(k:∀a b,A a b->B a b->C a b->R):R:=h.elim λa h=>h.elim λb h=>k a b h.1 h.2.1 h.2.2
def qEEAAA(h:∃a b,A a b/\B a b/\C a b/\D a b)(k:∀a b,A a b->B a b->C a b->D a b->R):R:=h.elim λa h=>h.elim λb h=>k a b h.1 h.2.1 h.2.2.1 h.2.2.2
def qEEAAAA(h:∃a b,A a b/\B a b/\C a b/\D a b/\F a b)(k:∀a b,A a b->B a b->C a b->D a b->F a b->R):R:=h.elim λa h=>h.elim λb h=>k a b h.1 h.2.1 h.2.2.1 h.2.2.2.1 h.2.2.2.2
def qEEAAAAA(h:∃a b,A a b/\B a b/\C a b/\D a b/\F a b/\G a b)(k:∀a b,A a b->B a b->C a b->D a b->F a b->G a b->R):R:=h.elim λa h=>h.elim λb h=>k a b h.1 h.2.1 h.2.2.1 h.2.2.2.1 h.2.2.2.2.1 h.2.2.2.2.2
end
section
variable{T0 T1 T2:Sort _}{A B C D F:T0->T1->T2->Prop}{R:Prop}
def qEEE(h:∃a b c,A a b c)(k:∀a b c,A a b c->R):R:=h.elim λa h=>h.elim λb h=>h.elim λc h=>k a b c h
def qEEEA(h:∃a b c,A a b c/\B a b c)(k:∀a b c,A a b c->B a b c->R):R:=h.elim λa h=>h.elim λb h=>h.elim λc h=>k a b c h.1 h.2
def qEEEAA(h:∃a b c,A a b c/\B a b c/\C a b c)(k:∀a b c,A a b c->B a b c->C a b c->R):R:=h.elim λa h=>h.elim λb h=>h.elim λc h=>k a b c h.1 h.2.1 h.2.2
def qEEEAAA(h:∃a b c,A a b c/\B a b c/\C a b c/\D a b c)(k:∀a b c,A a b c->B a b c->C a b c->D a b c->R):R:=h.elim λa h=>h.elim λb h=>h.elim λc h=>k a b c h.1 h.2.1 h.2.2.1 h.2.2.2
def qEEEAAAA(h:∃a b c,A a b c/\B a b c/\C a b c/\D a b c/\F a b c)(k:∀a b c,A a b c->B a b c->C a b c->D a b c->F a b c->R):R:=h.elim λa h=>h.elim λb h=>h.elim λc h=>k a b c h.1 h.2.1 h.2.2.1 h.2.2.2.1 h.2.2.2.2
end
section
variable{T0 T1 T2 T3:Sort _}{A B C D F:T0->T1->T2->T3->Prop}{R:Prop}
def qEEEE(h:∃a b c d,A a b c d)(k:∀a b c d,A a b c d->R):R:=h.elim λa h=>h.elim λb h=>h.elim λc h=>h.elim λd h=>k a b c d h
def qEEEEA(h:∃a b c d,A a b c d/\B a b c d)(k:∀a b c d,A a b c d->B a b c d->R):R:=h.elim λa h=>h.elim λb h=>h.elim λc h=>h.elim λd h=>k a b c d h.1 h.2
def qEEEEAA(h:∃a b c d,A a b c d/\B a b c d/\C a b c d)(k:∀a b c d,A a b c d->B a b c d->C a b c d->R):R:=h.elim λa h=>h.elim λb h=>h.elim λc h=>h.elim λd h=>k a b c d h.1 h.2.1 h.2.2
def qEEEEAAA(h:∃a b c d,A a b c d/\B a b c d/\C a b c d/\D a b c d)(k:∀a b c d,A a b c d->B a b c d->C a b c d->D a b c d->R):R:=h.elim λa h=>h.elim λb h=>h.elim λc h=>h.elim λd h=>k a b c d h.1 h.2.1 h.2.2.1 h.2.2.2
def qEEEEAAAA(h:∃a b c d,A a b c d/\B a b c d/\C a b c d/\D a b c d/\F a b c d)(k:∀a b c d,A a b c d->B a b c d->C a b c d->D a b c d->F a b c d->R):R:=h.elim λa h=>h.elim λb h=>h.elim λc h=>h.elim λd h=>k a b c d h.1 h.2.1 h.2.2.1 h.2.2.2.1 h.2.2.2.2
end
section
variable{T0 T1 T2 T3 T4:Sort _}{A B C D:T0->T1->T2->T3->T4->Prop}{R:Prop}
def qEEEEE(h:∃a b c d e,A a b c d e)(k:∀a b c d e,A a b c d e->R):R:=h.elim λa h=>h.elim λb h=>h.elim λc h=>h.elim λd h=>h.elim λe h=>k a b c d e h
def qEEEEEA(h:∃a b c d e,A a b c d e/\B a b c d e)(k:∀a b c d e,A a b c d e->B a b c d e->R):R:=h.elim λa h=>h.elim λb h=>h.elim λc h=>h.elim λd h=>h.elim λe h=>k a b c d e h.1 h.2
def qEEEEEAA(h:∃a b c d e,A a b c d e/\B a b c d e/\C a b c d e)(k:∀a b c d e,A a b c d e->B a b c d e->C a b c d e->R):R:=h.elim λa h=>h.elim λb h=>h.elim λc h=>h.elim λd h=>h.elim λe h=>k a b c d e h.1 h.2.1 h.2.2
def qEEEEEAAA(h:∃a b c d e,A a b c d e/\B a b c d e/\C a b c d e/\D a b c d e)(k:∀a b c d e,A a b c d e->B a b c d e->C a b c d e->D a b c d e->R):R:=h.elim λa h=>h.elim λb h=>h.elim λc h=>h.elim λd h=>h.elim λe h=>k a b c d e h.1 h.2.1 h.2.2.1 h.2.2.2
end
section
variable{T0 T1 T2 T3 T4 T5:Sort _}{A:T0->T1->T2->T3->T4->T5->Prop}{R:Prop}
def qEEEEEE(h:∃a b c d e f,A a b c d e f)(k:∀a b c d e f,A a b c d e f->R):R:=h.elim λa h=>h.elim λb h=>h.elim λc h=>h.elim λd h=>h.elim λe h=>h.elim λf h=>k a b c d e f h
end
def qAAEA{T0:Sort _}{A B:Prop}{C D:T0->Prop}{R:Prop}(h:A/\(B/\(∃a,C a/\(D a))))(k:A->B->∀a,C a->D a->R):R:=h.elim λi h=>h.elim λj h=>h.elim λa h=>h.elim λl h=>k i j a l h
def qAEA{T0:Sort _}{A:Prop}{B C:T0->Prop}{R:Prop}(h:A/\(∃a,B a/\(C a)))(k:A->∀a,B a->C a->R):R:=h.elim λi h=>h.elim λa h=>h.elim λj h=>k i a j h
def qEAAE{T0 T1:Sort _}{A B:T0->Prop}{C:T0->T1->Prop}{R:Prop}(h:∃a,A a/\(B a/\(∃b,C a b)))(k:∀a,A a->B a->∀b,C a b->R):R:=h.elim λa h=>h.elim λi h=>h.elim λj h=>h.elim λb h=>k a i j b h
def qAEEA{T0 T1:Sort _}{A:Prop}{B C:T0->T1->Prop}{R:Prop}(h:A/\(∃a,∃b,B a b/\(C a b)))(k:A->∀a,∀b,B a b->C a b->R):R:=h.elim λi h=>h.elim λa h=>h.elim λb h=>h.elim λj h=>k i a b j h
def qAEEAA{T0 T1:Sort _}{A:Prop}{B C D:T0->T1->Prop}{R:Prop}(h:A/\(∃a,∃b,B a b/\(C a b/\(D a b))))(k:A->∀a,∀b,B a b->C a b->D a b->R):R:=h.elim λi h=>h.elim λa h=>h.elim λb h=>h.elim λj h=>h.elim λl h=>k i a b j l h
def qAEAEAAA{T0 T1:Sort _}{A:Prop}{B:T0->Prop}{C D F G:T0->T1->Prop}{R:Prop}(h:A/\(∃a,B a/\(∃b,C a b/\(D a b/\(F a b/\(G a b))))))(k:A->∀a,B a->∀b,C a b->D a b->F a b->G a b->R):R:=h.elim λi h=>h.elim λa h=>h.elim λj h=>h.elim λb h=>h.elim λl h=>h.elim λm h=>h.elim λn h=>k i a j b l m n h
set_option hygiene false in
local macro_rules|`(tactic|obtain $p:rcasesPatMed:=$e:term)=>do
 let c:=p.raw[0].getArgs
 unless c.size==1&&c[0]!.getNumArgs==3&&!(toString p).any fun x=>x=='|' do Lean.Macro.throwUnsupported
 let v:=fun x=>Lean.mkIdent (.mkSimple x)
 let mut n:Array (Lean.TSyntax `term):=#[]
 let q:=c[0]![1].getSepArgs
 let o:=fun (k:Array Lean.Syntax)=>(Lean.mkNode ``Lean.Parser.Tactic.rcasesPatLo #[Lean.mkNode ``Lean.Parser.Tactic.rcasesPatMed #[Lean.mkNullNode #[(Lean.mkNode ``Lean.Parser.Tactic.rcasesPat.tuple #[c[0]![0],Lean.mkNullNode (Lean.mkSepArray k (Lean.mkAtom ",")),c[0]![2]]).raw]],Lean.mkNullNode]).raw
 let q:=if q.size>9 then (q.extract 0 6).push (o (q.extract 6 99)) else q
 let l:=q.size-1
 let t:=("EA EEAA E EAA A EEA EE EEEAA AA EEEEEAAA EEAAA AAAAA EAAA EEEAAAA EEAAAA EEEEEAA AAAA EEE EEEA EEAAAAA AAA EEEEA EAAAA EEEEAA EEEAAA EEEEAAA EEEEAAAA EEEEEE EEEEEA EAAAAA AAAAAA EEEEE EEEE AAEA AEA EAAE AEEA AEEAA AEAEAAA".splitOn " ").filter fun x=>x.length==l
 let a<-t.toArray.mapM fun x=>`(Lean.Parser.Tactic.tacticSeq|refine $(v ("q"++x)) $e ?_)
 let mut r<-`(tactic|first $[|$a]*)
 if e.raw.isIdent then r<-`(tactic|($r;try clear $(⟨e⟩):ident))
 for q in q do
  let m:=q[0][0]
  let k:=m[0][0]
  if m.getNumArgs==1&&k.isIdent&&k.getId !=`rfl then n:=n.push ⟨k⟩
  else if m.getNumArgs==1&&k.isAtom&&k.getAtomVal=="_" then n:=n.push (<-`(_))
  else
   let z:=v "z'"
   n:=n.push z
   let y<-if m.getNumArgs==1&&k.isIdent then `(tactic|subst $z)else `(tactic|obtain $(⟨q[0]⟩):rcasesPatMed:=$z)
   r<-`(tactic|($r;intro $n*;$y))
   n:=#[]
 if n.size>0 then r<-`(tactic|($r;intro $n*))
 return r
set_option hygiene false in
local macro_rules|`(tactic|rintro $ps:rintroPat*)=>do
 if (toString ps).any fun x=>x=='|'||x==':' then Lean.Macro.throwUnsupported
 let z:=Lean.mkIdent (.mkSimple "z'")
 let mut r<-`(tactic|skip)
 for p in ps do
  let k:=p.raw[0]
  r<-if k.isOfKind ``Lean.Parser.Tactic.rcasesPat.one&&k[0].getId !=`rfl then `(tactic|($r;intro $(⟨k[0]⟩):ident))else if k.isOfKind ``Lean.Parser.Tactic.rcasesPat.ignore then `(tactic|($r;intro _))else if k.isOfKind ``Lean.Parser.Tactic.rcasesPat.one then `(tactic|($r;intro $z:ident;subst $z))else `(tactic|($r;intro $z:ident;obtain $(⟨Lean.mkNode ``Lean.Parser.Tactic.rcasesPatMed #[Lean.mkNullNode #[k]]⟩):rcasesPatMed:=$z))
 return r
local macro_rules|`(tactic|let $p:term:=$e:term)=>do
 unless p.raw.isOfKind ``Lean.Parser.Term.anonymousCtor do Lean.Macro.throwUnsupported
 let o:=fun k x=>Lean.mkNode ``Lean.Parser.Tactic.rcasesPatLo #[Lean.mkNode ``Lean.Parser.Tactic.rcasesPatMed #[Lean.mkNullNode #[(Lean.mkNode k x).raw]],Lean.mkNullNode]
 let r:=p.raw.rewriteBottomUp fun x=>if x.isIdent then o ``Lean.Parser.Tactic.rcasesPat.one #[x] else if x.isOfKind ``Lean.Parser.Term.hole then o ``Lean.Parser.Tactic.rcasesPat.ignore x.getArgs else if x.isOfKind ``Lean.Parser.Term.anonymousCtor then o ``Lean.Parser.Tactic.rcasesPat.tuple x.getArgs else x
 `(tactic|obtain $(⟨r[0]⟩):rcasesPatMed:=$e)
noncomputable section
def Q0:type_of%@decide_eq_false:=@decide_eq_false
def O0:type_of%@if_neg:=@if_neg
def M0:type_of%@decide_eq_true:=@decide_eq_true
def H0:type_of%@if_pos:=@if_pos
def G0:type_of%@decide_eq_true_eq:=@decide_eq_true_eq
def N1:type_of%@if_true:=@if_true
def K1:type_of%@if_false:=@if_false
def W2:type_of%@true_and:=@true_and
def U3:type_of%@decide_eq_false_iff_not:=@decide_eq_false_iff_not
def X5:type_of%@of_decide_eq_true:=@of_decide_eq_true
open PyProof.Rows in
local macro_rules | `(tactic|walk_at "7")=>`(tactic|((try dsimp only);lia))
open PyProof.Rows in
local macro_rules | `(tactic|walk_at "v3")=>`(tactic|first |exact Or.inl rfl |exact Or.inr (Or.inl rfl)|exact Or.inr (Or.inr rfl))
open PyProof.Rows in
local macro_rules | `(tactic|walk_at "k7")=>`(tactic|exact ⟨rfl,rfl,rfl,by decide +kernel,rfl,by decide +kernel,by decide +kernel⟩)
open PyProof.Rows in
local macro_rules | `(tactic|walk_at "v2")=>`(tactic|first |exact Or.inl rfl |exact Or.inr rfl)
open PyProof.Rows in
local macro_rules | `(tactic|walk_at "v1")=>`(tactic|first |exact .inl rfl |exact .inr rfl)
set_option Elab.async false
set_option maxRecDepth 100000
namespace L2
open Spec PyProof.Rows
variable{us:List Z0}{H:Hp}{a b C:X0}{o:HO}{u:Z0}{P:V0}{w:T0}{h:J0}{x:Str}{e tg:Expr}{i k:Nat}{v y:V}{X:Cx}{t:TE}{A:A0}{s:Y0}{pins:List (X0×Obj)}{σ:St}{pos:Pos}{op:CmpOp}{K:Fg}{fp:List X0}{r:R2}
abbrev Key:=Sum Int Str
def c0p:Key->Z0->Bool
 | .inl k,v=>Value.isInt k v
 | .inr x,v=>Value.isStrOf x v
def keyH(w:T0):Key->Int
 | .inl k=>hashInt k
 | .inr x=>hashStr w x
def z6:∀{k:Key} {v:Z0},c0p k v=true->(∃i t,k=Sum.inl i/\v=Value.int i t)\/(∃x t,k=Sum.inr x/\v=Value.str x t)
 | .inl i,v,h=>by
  let ⟨t,e⟩:=Value.isInt_shape h
  grind
 | .inr x,v,h=>by
  let ⟨t,e⟩:=Value.isStrOf_shape h
  grind
def b0f(i:Int)(t:Tok):c0p (.inl i) (.int i t)=true:=by simp[c0p,Value.isInt]
def b0e(x:Str)(t:Tok):c0p (.inr x) (.str x t)=true:=by simp[c0p,Value.isStrOf]
def zU5(a b:Int):decide ((Sum.inl a:Key)=Sum.inl b)=(a==b):=by grind
def zU6(a b:Str):decide ((Sum.inr a:Key)=Sum.inr b)=decide (a=b):=by simp
def zU7(a:Int)(b:Str):decide ((Sum.inl a:Key)=Sum.inr b)=false:=rfl
def zU8(a:Str)(b:Int):decide ((Sum.inr a:Key)=Sum.inl b)=false:=rfl
def b4(prog:V0)(w:T0):PySem.KeyKind prog w Key where
 is:=c0p
 hash:=keyH w
 inj:=λv a b ha hb=>by
  rcases z6 ha with ⟨i,t,rfl,rfl⟩|⟨x,t,rfl,rfl⟩
  .rcases z6 hb with ⟨j,u,rfl,e⟩|⟨y,u,rfl,e⟩
   .injection e with e1 _;rw[e1]
   .exact nomatch e
  .rcases z6 hb with ⟨j,u,rfl,e⟩|⟨y,u,rfl,e⟩
   .exact nomatch e
   .injection e with e1 _;rw[e1]
 byValue:=λk v h=>by
  rcases z6 h with ⟨i,t,rfl,rfl⟩|⟨x,t,rfl,rfl⟩<;>rfl
 pyHash:=λhv h=>by
  rcases z6 hv with ⟨i,t,rfl,rfl⟩|⟨x,t,rfl,rfl⟩
  .exact wpAny_pyHash_int h
  .exact wpAny_pyHash_str h
 eqBool:=λhu hv h=>by
  rcases z6 hu with ⟨i,t,rfl,rfl⟩|⟨x,t,rfl,rfl⟩
  .rcases z6 hv with ⟨j,u,rfl,rfl⟩|⟨y,u,rfl,rfl⟩
   .rw[zU5]at h;exact wpAny_eqBool_int h
   .rw[zU7]at h;exact c1b i t y u _ _ _ _ h
  .rcases z6 hv with ⟨j,u,rfl,rfl⟩|⟨y,u,rfl,rfl⟩
   .rw[zU8]at h;exact c1a x t j u _ _ _ _ h
   .rw[zU6]at h;exact wpAny_eqBool_str h
 «strs»:=λk x t v h=>by
  rcases z6 h with ⟨i,u,rfl,e⟩|⟨y,u,rfl,e⟩
  .exact nomatch e
  .injection e with e1 _
   subst e1;cases v<;>rfl
def q0e(prog:V0)(w:T0)(i:Int)(t:Tok):(b4 prog w).is (.inl i) (.int i t)=true:=b0f i t
def h0n(prog:V0)(w:T0)(x:Str)(t:Tok):(b4 prog w).is (.inr x) (.str x t)=true:=b0e x t
inductive V where
 |non |bl (b:Bool)|int (i:Int)|str (x:Str)|byt (b:Array UInt8)|flt (b:UInt64)|ref (a:X0)|ty (n:String)
 deriving DecidableEq
def RelV:V->Z0->Prop
 | .non,u=>u=Value.none
 | .bl b,u=>u=Value.bool b
 | .int i,u=>∃t,u=Value.int i t
 | .str x,u=>∃t,u=Value.str x t
 | .byt b,u=>∃t,u=Value.bytes b t
 | .flt b,u=>∃t,u=Value.float b t
 | .ref a,u=>u=Value.ref a
 | .ty n,u=>u=Value.type n
abbrev zy8:List V->List Z0->Prop:=Paired RelV
theorem zy8.length{xs:List V}(r:zy8 xs us):xs.length=us.length:=b1z r
theorem zy8.get:∀{xs:List V} {us:List Z0} {i:Nat} {x:V},zy8 xs us->xs[i]?=some x->∃u,us[i]?=some u/\RelV x u
 |_,_,_,_,.nil,e=>by simp at e
 |_,_,0,_,.cons r _,e=>by simp at e;subst e;exact ⟨_,rfl,r⟩
 |_,_,i+1,x,.cons _ t,e=>by
  let ⟨u,a,b⟩:=zy8.get t (by simpa using e)
  grind
theorem zy8.set{x:V}{u:Z0}(r:RelV x u):∀{xs:List V} {us:List Z0} (i:Nat),zy8 xs us->zy8 (xs.set i x) (us.set i u)
 |_,_,_,.nil=>.nil
 |_,_,0,.cons _ t=>.cons r t
 |_,_,i+1,.cons q t=>.cons q (zy8.set r i t)
theorem zy8.append:∀{xs a:List V} {us ws:List Z0},zy8 xs us->zy8 a ws->zy8 (xs++a) (us++ws)
 |_,_,_,_,.nil,s=>s
 |_,_,_,_,.cons r t,s=>.cons r (zy8.append t s)
theorem zy8.take:∀{xs:List V} {us:List Z0} (n:Nat),zy8 xs us->zy8 (xs.take n) (us.take n)
 |_,_,0,_=>.nil
 |_,_,_+1,.nil=>.nil
 |_,_,n+1,.cons r t=>.cons r (zy8.take n t)
theorem zy8.drop:∀{xs:List V} {us:List Z0} (n:Nat),zy8 xs us->zy8 (xs.drop n) (us.drop n)
 |_,_,0,r=>r
 |_,_,_+1,.nil=>.nil
 |_,_,n+1,.cons _ t=>zy8.drop n t
def zk4:Option V->Option Z0->Prop
 |some v,some u=>RelV v u
 |none,none=>True
 |_,_=>False
def KV{κ:Type}:List (κ×V)->List (κ×Value)->Prop:=Paired λ(p:κ×V) (q:κ×Value)=>p.1=q.1/\RelV p.2 q.2
def kV:Key->V
 | .inl i=>.int i
 | .inr x=>.str x
inductive HO where
 |lst (xs:List V)
 |tup (xs:List V)
 |dK (kvs:List (Key×V))|dT (kvs:List (List Key×V)) (G:X0->Prop)
 |set (S:Int->Bool) (n:Nat)
 |ins (C dx:X0) (fs:List (Str×V))
 |own (x:X0)
 |xd (fs:List (Str×V))
 |met (f x:X0)
 |rng (lo hi:Int)
 |frz (o:Obj) (u:HO)
 |tbl (ps:Array Z0)
 |ext (φ:J0->Prop)
abbrev Hp:=X0->Option HO
def upd(H:Hp)(a:X0)(o:HO):Hp:=λb=>if b=a then some o else H b
def j3:upd H a o a=some o:=by unfold upd;rw[H0 rfl]
def j0(h:b≠a):upd H a o b=H b:=by unfold upd;rw[O0 h]
def q0d{u:HO}:upd (upd H a o) a u=upd H a u:=by
 funext b;unfold upd;split<;>rfl
def v1s{u:HO}(h:H a=some o)(h':H b=some u)(d:o≠u):a≠b:=by
 intro e;subst e;rw[h]at h';exact d (i1q h')
def i0(h:H a=some o)(h':H b=none):a≠b:=by grind
def zZ7(h:J0)(a:X0)(items:Array Z0):Prop:=∃o,h.get? a=some o/\o.cls=.type "tuple"/\(∃n,o.data=.seq items n)/\o.dict=none
def zZ7.tup{h:J0}{a:X0}{items:Array Z0}(x:zZ7 h a items):IsTup h a items:=let ⟨o,e,c,d,_⟩:=x;⟨o,e,c,d⟩
def zZ7.new(h:J0)(items:Array Z0):zZ7 (h.push {cls:=.type "tuple",data:=.seq items}) h.objs.size items:=⟨_,k1s _ rfl,rfl,⟨_,rfl⟩,rfl⟩
section
variable(P:V0)(w:T0)
def zx6(H:Hp)(h:J0)(a:X0):HO->Prop
 | .lst xs=>xs.length<=sizeLine/\∃(its:List Z0) (n:Nat),zy8 xs its/\h.get? a=some {cls:=.type "list",data:=.seq its.toArray n}
 | .tup xs=>xs.length<=sizeLine/\∃its:List Z0,zy8 xs its/\zZ7 h a its.toArray
 | .dK kvs=>kvs.length<=sizeLine/\(a==N2)=false/\∃vs,KV kvs vs/\h.DictOf (b4 P w) a vs
 | .dT kvs G=>kvs.length<=sizeLine/\(a==N2)=false/\∃xs:List (List Key×Addr×Value),
  Paired (λ(p:List Key×V) (q:List Key×Addr×Value)=>p.1=q.1/\H q.2.1=some (.tup (p.1.map kV))/\RelV p.2 q.2.2/\G q.2.1) kvs xs/\
  ∃o es ep,h.get? a=some o/\o.ExactDict/\o.data=.dict es ep/\es.toList=xs.map (entryOfKey (S3 (b4 P w)))/\(xs.map (·.1)).Nodup
 | .set S n=>h.SetOf (intKind P w) a S n
 | .ins C dx fs=>H dx=some (.own a)/\fs.length<=1000/\dx≠a/\h.get? a=some (PySem.W.instObj C dx)/\
  ∃mA,h.Ns1 dx mA/\(∀f,zk4 (fs.lookup f) (mA f))/\PySem.Within mA (fs.map (·.1))
 | .own _=>∃o,h.get? a=some o
 | .xd fs=>∃mA,h.Ns1 a mA/\∀f,zk4 (fs.lookup f) (mA f)
 | .rng lo hi=>∃t u v,h.get? a=some {cls:=.type "range",data:=.fields #[.int lo t,.int hi u,.int 1 v]}
 | .frz o u=>h.get? a=some o/\zx6 H h a u
 | .tbl ps=>h.get? a=some {cls:=.none,data:=.fields ps}
 | .met f x=>h.get? a=some (PySem.W.methodObj (.ref f) (.ref x))
 | .ext φ=>φ h/\(∃o,h.get? a=some o)/\∀h1 h2:J0,φ h1->(∀o,h1.get? a=some o->h2.get? a=some o)->φ h2
def HOk(H:Hp)(h:J0):Prop:=∀a o,H a=some o->zx6 P w H h a o
end
section
variable{P:V0}{w:T0}{H H':Hp}{h h':J0}{a:X0}{o:HO}
theorem zx6.lt(x:zx6 P w H h a o):a<h.objs.size:=by
 cases o with
 |lst c=>let ⟨_,_,_,_,e⟩:=x;exact k1n e
 |tup c=>let ⟨_,_,_,p⟩:=x;exact p.tup.lt
 |dK b=>let ⟨_,_,_,_,o,_,_,e,_⟩:=x;exact k1n e
 |dT b G=>let ⟨_,_,_,_,o,_,_,e,_⟩:=x;exact k1n e
 |set S n=>let ⟨o,_,_,_,e,_⟩:=x;exact k1n e
 |ins C d fs=>let ⟨_,_,_,e,_⟩:=x;exact k1n e
 |own y=>let ⟨_,e⟩:=x;exact k1n e
 |xd fs=>let ⟨_,⟨_,_,_,e,_⟩,_⟩:=x;exact k1n e
 |rng lo g=>let ⟨_,_,_,e⟩:=x;exact k1n e
 |frz ob u=>let ⟨e,_⟩:=x;exact k1n e
 |tbl i=>exact k1n x
 |met f y=>exact k1n x
 |ext j=>let ⟨_,⟨_,e⟩,_⟩:=x;exact k1n e
theorem Paired.zV0{c d:Type}{F G:c->d->Prop}:∀{l₁:List c} {l₂:List d},Paired F l₁ l₂->(∀a b,F a b->G a b)->Paired G l₁ l₂
 |_,_,.nil,_=>.nil
 |_,_,.cons r t,f=>.cons (f _ _ r) (Paired.zV0 t f)
def zx6.zo2(x:zx6 P w H h a o)(k:∀b u,(b=a\/H b=some (.own a))->h.get? b=some u->h'.get? b=some u)
 (ho:∀b,H b=some (.own a)->H' b=some (.own a)) (F:∀b xs,H b=some (.tup xs)->H' b=some (.tup xs)):zx6 P w H' h' a o:=by
 induction o with
 |lst xs=>let ⟨z,j,n,r,e⟩:=x;exact ⟨z,j,n,r,k _ _ (.inl rfl) e⟩
 |tup xs=>let ⟨z,j,r,ob,e,c⟩:=x;exact ⟨z,j,r,ob,k _ _ (.inl rfl) e,c⟩
 |dK l=>let ⟨z,y,I,r,ob,g,i,e,c⟩:=x;exact ⟨z,y,I,r,ob,g,i,k _ _ (.inl rfl) e,c⟩
 |dT l G=>
  let ⟨z,y,xs,r,ob,g,i,e,c⟩:=x;exact ⟨z,y,xs,Paired.zV0 r λp q z=>⟨z.1,F _ _ z.2.1,z.2.2⟩,ob,g,i,k _ _ (.inl rfl) e,c⟩
 |set S n=>let ⟨ob,g,i,t,e,c⟩:=x;exact ⟨ob,g,i,t,k _ _ (.inl rfl) e,c⟩
 |ins C L fs=>
  let ⟨d,z,ne,e,m,⟨B,g,i,e2,c⟩,r⟩:=x;exact ⟨ho _ d,z,ne,k _ _ (.inl rfl) e,m,⟨B,g,i,k _ _ (.inr d) e2,c⟩,r⟩
 |own y=>let ⟨ob,e⟩:=x;exact ⟨ob,k _ _ (.inl rfl) e⟩
 |xd fs=>let ⟨m,⟨B,g,i,e,c⟩,r⟩:=x;exact ⟨m,⟨B,g,i,k _ _ (.inl rfl) e,c⟩,r⟩
 |rng lo M=>let ⟨t,u,v,e⟩:=x;exact ⟨t,u,v,k _ _ (.inl rfl) e⟩
 |frz ob u J=>let ⟨e,q⟩:=x;exact ⟨k _ _ (.inl rfl) e,J q⟩
 |tbl D=>
  have e:h.get? a=some {cls:=.none,data:=.fields D}:=x;show h'.get? a=some {cls:=.none,data:=.fields D};exact k a _ (.inl rfl) e
 |met f y=>
  have e:h.get? a=some (PySem.W.methodObj (.ref f) (.ref y)):=x;show h'.get? a=some (PySem.W.methodObj (.ref f) (.ref y));exact k a _ (.inl rfl) e
 |ext N=>let ⟨p,⟨o,e⟩,st⟩:=x;exact ⟨st _ _ p λo q=>k _ _ (.inl rfl) q,⟨o,k _ _ (.inl rfl) e⟩,st⟩
theorem HOk.lt(x:HOk P w H h)(e:H a=some o):a<h.objs.size:=(x a o e).lt
def HOk.fresh(x:HOk P w H h)(e:h.objs.size<=a):H a=none:=by
 cases q:H a with
 |none=>rfl
 |some u=>exact absurd (k1f (x.lt q) e) (g1r _)
def HOk.kept(x:HOk P w H h)(k:∀b u,h.get? b=some u->h'.get? b=some u):HOk P w H h':=λa o e=>
 (x a o e).zo2 (λb u _ q=>k b u q) (λ_ q=>q) λ_ _ q=>q
def HOk.laid(x:HOk P w H h)(k:∀b u,h.get? b=some u->h'.get? b=some u)(f:h.objs.size<=a)(new:zx6 P w (upd H a o) h' a o):HOk P w (upd H a o) h':=λb u e=>by
 have hn:=x.fresh f;by_cases d:b=a
 .subst d;rw[j3]at e;cases e;exact new
 .rw[j0 d]at e;exact (x b u e).zo2 (λc v _ q=>k c v q) (λc q=>by rw[j0 (i0 q hn)];exact q) λc g q=>by rw[j0 (i0 q hn)];exact q
end
def Rd(H:Hp)(a:X0)(u:HO):Prop:=H a=some u\/∃o,H a=some (.frz o u)
def Rd.ok{u:HO}(r:Rd H a u)(x:HOk P w H h):zx6 P w H h a u:=by
 rcases r with r |⟨o,r⟩
 .exact x a u r
 .let ⟨_,q⟩:=x a _ r;exact q
def Mut:Option HO->Prop
 |some (.lst _)=>True
 |some (.dK _)=>True
 |some (.dT _ _)=>True
 |some (.set _ _)=>True
 |some (.ins _ _ _)=>True
 |some (.ext _)=>True
 |_=>False
section
variable{P:V0}{w:T0}{H:Hp}{h h':J0}{x e:X0}{o':HO}
def HOk.write(ok:HOk P w H h)(g:Mut (H x))(n:e=x\/H e=some (.own x))(k:∀b u,b≠e->h.get? b=some u->h'.get? b=some u)(m:∃u,h'.get? e=some u)
 (new:zx6 P w (upd H x o') h' x o'):HOk P w (upd H x o') h':=λb u q=>by
 have d:∀c y,H c=some (.own y)->c≠x:=λc y r z=>by subst z;rw[r]at g;exact g
 have f:∀c i,H c=some (.tup i)->c≠x:=λc i r z=>by subst z;rw[r]at g;exact g
 by_cases j:b=x
 .subst j;rw[j3]at q;cases q;exact new
 .rw[j0 j]at q;by_cases a:b=e
  .have o:H b=some (.own x):=by
    rcases n with z |z
    .exact absurd (a.trans z) j
    .rw[a];exact z
   rw[q]at o;cases o;let ⟨v,p⟩:=m;exact ⟨v,by rw[a];exact p⟩
  .refine (ok b u q).zo2 (λc v l r=>k c v ?_ r) (λc r=>by rw[j0 (d c b r)];exact r) λc i r=>by rw[j0 (f c i r)];exact r
   rcases l with rfl |l
   .exact a
   .rintro rfl;rcases n with z |z
    .exact d c b l z
    .rw[l]at z;cases z;exact j rfl
end
structure Un(fs ex:List X0)(H H':Hp)(h h':J0):Prop where
 keep:∀b o,h.get? b=some o->H b=none->b∉fs->b∉ex->h'.get? b=some o
 slot:∀b o,h.get? b=some o->H b=none->b∈fs->b∉ex->∃sl,h'.get? b=some {o with slots:=sl}
 free:∀b o,h.get? b=some o->H b=none->b∉ex->H' b=none
 there:∀b o,h.get? b=some o->b∉ex->∃o',h'.get? b=some o'
 zl0:∀b xs,H b=some (.tup xs)->H' b=some (.tup xs)
 zj8:∀b o u,H b=some (.frz o u)->H' b=some (.frz o u)
 zg2:∀b ps,H b=some (.tbl ps)->∃more,H' b=some (.tbl (ps++more))
section
variable{fs ex:List X0}{H H1:Hp}{h h1 h':J0}{a x e:X0}{o:HO}
def Un.any(u:Un fs ex H H1 h h1){ob:Obj}(q:h.get? b=some ob)(n:H b=none)(hx:b∉ex):∃sl,h1.get? b=some {ob with slots:=sl}:=by
 by_cases a:b∈fs
 .exact u.slot b ob q n a hx
 .exact ⟨ob.slots,u.keep b ob q n a hx⟩
def Un.kept(k:∀b u,h.get? b=some u->h'.get? b=some u):Un fs ex H H h h':=
 ⟨λb ob q _ _ _=>k b ob q,λb ob q _ _ _=>⟨ob.slots,k b ob q⟩,λ_ _ _ n _=>n,λb ob q _=>⟨ob,k b ob q⟩,λ_ _ q=>q,λ_ _ _ q=>q,λ_ a q=>⟨#[],by rw[q];simp⟩⟩
def Un.refl:Un fs ex H H h h:=Un.kept λ_ _ q=>q
def Un.laid(k:∀b u,h.get? b=some u->h'.get? b=some u)(c:h.objs.size<=a)(hn:H a=none):Un fs ex H (upd H a o) h h' where
 keep:=λb u q _ _ _=>k b u q
 slot:=λb u q _ _ _=>⟨u.slots,k b u q⟩
 free:=λb u q n _=>by rw[j0 (k1i (k1f (k1n q) c))];exact n
 there:=λb u q _=>⟨u,k b u q⟩
 zl0:=λb d q=>by rw[j0 (i0 q hn)];exact q
 zj8:=λb u d q=>by rw[j0 (i0 q hn)];exact q
 zg2:=λb e q=>⟨#[],by rw[j0 (i0 q hn),q];simp⟩
def Un.write(a:Mut (H x))(i:e=x\/H e=some (.own x))(k:∀b u,b≠e->h.get? b=some u->h'.get? b=some u)(d:∃u,h'.get? e=some u):Un fs ex H (upd H x o) h h':=by
 have hx:∀b,H b=none->b≠x:=λb n z=>by subst z;rw[n]at a;exact a
 have c:∀b,H b=none->b≠e:=λb n z=>by
  grind
 have hm:∀b u,H b=some u->¬Mut (some u)->b≠x:=λb u q f z=>by subst z;rw[q]at a;exact f a
 refine ⟨λb u q n _ _=>k b u (c b n) q,λb u q n _ _=>⟨u.slots,k b u (c b n) q⟩,λb u q n _=>by rw[j0 (hx b n)];exact n,λb u q _=>?_,
  λb g q=>by rw[j0 (hm b _ q λz=>z)];exact q,λb u g q=>by rw[j0 (hm b _ q λz=>z)];exact q,λb j q=>⟨#[],by rw[j0 (hm b _ q λz=>z),q];simp⟩⟩
 grind
end
def trk(h:J0)(H:Hp):List X0:=(List.range h.objs.size).filter λa=>(H a).isSome
def za2(h:J0)(H:Hp):J0:=PySem.W.hideAll h (trk h H)
def b0d(h:J0)(H:Hp):(za2 h H).objs.size=h.objs.size:=PySem.W.hideAll_size _ _
def v1r{o:Obj}(e:h.get? b=some o)(n:H b=none):(za2 h H).get? b=some o:=
 PySem.W.hideAll_get _ e λhm=>by
  have q:=(g1h.mp hm).2
  grind
def p1v{o:Obj}(e:(za2 h H).get? b=some o):h.get? b=some o/\H b=none:=by
 have a:=PySem.W.of_hideAll (trk h H) e;refine ⟨a,?_⟩;cases q:H b with
 |none=>rfl
 |some x=>
  have hm:b∈trk h H:=g1h.mpr ⟨List.mem_range.mpr (k1n a),by simp[q]⟩;have z:(za2 h H).get? b=none:=PySem.W.hideAll_none (trk h H) hm
  grind
def p1u(g h:J0)(L:X0):List (X0×Obj):=(List.range h.objs.size).filterMap λa=>if a=L\/(g.get? a).isSome=true then none else (h.get? a).map λo=>(a,o)
def rest(g h:J0)(L d:X0):List (X0×Obj):=(p1u g h L).filter λp=>decide (p.1≠d)
structure Mod(K:Fg)(mg:Str->Option Z0)(base:J0):Prop where
 kin:K.In base
 glob:base.Ns V2 mg
 blt:∃mb,base.Ns builtinsNs mb/\∀x:Str,x≠"__name__"->mb x=W1 x
 nolimit:base.NoLimit
structure Cx where
 prog:V0
 w:T0
 K:Fg
 mg:Str->Option Z0
 base:J0
 A:A0
 N:List Str
 zy0:Y0
 zz6:Hp
 env:Env
 outer:List Env
 stack:List Env
 ex:List X0
 fn:Str->Bool
 calm:Bool
 pn:List (X0×Obj)
 xe:Z0->Y0->Prop
 fl:Bool:=true
def frs(l:List Env):List X0:=l.filterMap (·.frame)
abbrev Cx.fs(X:Cx):List X0:=frs X.outer
def Vis(sc:P4)(x:Str):Prop:=sc.names.lookup x=some .local\/sc.names.lookup x=some .cell\/sc.names.lookup x=some .free
def Loc(sc:P4)(x:Str):Prop:=sc.names.lookup x=some .local\/sc.names.lookup x=some .cell
def Look(env:Env)(h:J0)(m:Str->Option Z0)(x:Str)(u:Z0):Prop:=
 (env.kindOf x=some .local/\m x=some u)\/((env.kindOf x=some .cell\/env.kindOf x=some .free)/\∃c,env.cells.lookup x=some c/\h.IsCell c (some u))
structure Cx.Ok(X:Cx):Prop where
 mod:Mod X.K X.mg X.base
 kind:X.env.scope.kind=.function
 glob:X.env.globals=V2
 blt:X.env.builtins=builtinsNs
 above:X.zy0.heap.objs.size<=X.env.locals
 inj:∀x y c,X.env.cells.lookup x=some c->X.env.cells.lookup y=some c->x=y
 has:∀x,(X.env.kindOf x=some .cell\/X.env.kindOf x=some .free)->∃c,X.env.cells.lookup x=some c
 cab:∀x c,X.fn x=true->X.env.cells.lookup x=some c->X.zy0.heap.objs.size<=c
 hd:X.calm=true->X.A.handled=none
 frames:X.A.frames=some X.stack
 stk:X.stack=X.outer\/(X.stack=X.env::X.outer/\X.env.frame=some X.env.locals)
 exf:∀b∈X.ex,b≠X.env.locals/\∀x c,X.env.cells.lookup x=some c->c≠b
 bs:∀b o,X.base.get? b=some o->X.zy0.heap.get? b=some o/\X.zz6 b=none
 bsz:X.base.objs.size<=X.zy0.heap.objs.size
 zb6:∀b o,X.base.get? b=some o->b∉X.ex
 zb7:∀b∈X.ex,b∉X.fs
 zk7:X.zy0.heap.FunFrames X.base X.outer
 frf:∀b∈X.fs,X.zz6 b=none
structure Inv(X:Cx)(pins:List (X0×Obj))(σ:List (Option V))(H:Hp)(s:Y0):Prop where
 ok:X.Ok
 os:s.os=X.zy0.os
 bare:AllBare s.gens
 base:Un X.fs X.ex X.zz6 H X.zy0.heap s.heap
 loc:∃m,s.heap.Ns X.env.locals m/\∀(i:Nat) (x:Str) (v:V),X.N[i]?=some x->σ[i]?=some (some v)->Vis X.env.scope x->∃u,RelV v u/\Look X.env s.heap m x u
 cell:∀x c,X.env.cells.lookup x=some c->∃v,s.heap.IsCell c v
 free:H X.env.locals=none
 zv3:∀x c,X.env.cells.lookup x=some c->H c=none
 pin:∀p∈X.pn++pins,s.heap.get? p.1=some p.2/\H p.1=none/\p.1≠X.env.locals/\p.1∉X.fs/\∀v,p.2.data≠.cell v
 hok:HOk X.prog X.w H s.heap
 len:σ.length=X.N.length
section
variable{X:Cx}{pins:List (X0×Obj)}{σ:List (Option V)}{H H':Hp}{s:Y0}{h':J0}
def Cx.Ok.nofr(ok:X.Ok){o:Obj}(e:X.base.get? b=some o):b∉X.fs:=λa=>by
 have:=(ok.zk7.mem a).1
 grind
theorem Inv.bs(I:Inv X pins σ H s):∀b o,X.base.get? b=some o->s.heap.get? b=some o/\H b=none:=λb o e=>
 ⟨I.base.keep b o (I.ok.bs b o e).1 (I.ok.bs b o e).2 (I.ok.nofr e) (I.ok.zb6 b o e),I.base.free b o (I.ok.bs b o e).1 (I.ok.bs b o e).2 (I.ok.zb6 b o e)⟩
def Inv.bk(I:Inv X pins σ H s):∀b o,X.base.get? b=some o->s.heap.get? b=some o:=λb o e=>(I.bs b o e).1
theorem Inv.mod(I:Inv X pins σ H s):Mod X.K X.mg X.base:=I.ok.mod
def Inv.kIn(I:Inv X pins σ H s):X.K.In s.heap:=I.ok.mod.kin.keeps I.bk
def Inv.fr(I:Inv X pins σ H s):∃m,Fr X.base X.env.locals s.heap m:=
 let ⟨m,hn,_⟩:=I.loc
 ⟨m,hn,I.bk,j1o I.ok.bsz I.ok.above⟩
theorem Inv.lt(I:Inv X pins σ H s):X.env.locals<s.heap.objs.size:=let ⟨_,hn,_⟩:=I.loc;hn.lt
def Inv.sz(I:Inv X pins σ H s):X.zy0.heap.objs.size<=s.heap.objs.size:=j1o I.ok.above (h1b I.lt)
def Inv.nofs(I:Inv X pins σ H s)(h:s.heap.objs.size<=a):a∉X.fs:=λb=>by
 let ⟨_,o,ho,_⟩:=I.ok.zk7.mem b;exact absurd (k1f (k1n ho) (j1o I.sz h)) (g1r _)
def Inv.cne(I:Inv X pins σ H s):∀x c,X.env.cells.lookup x=some c->c≠X.env.locals:=λx c e z=>by
 let ⟨v,o,ho,hd⟩:=I.cell x c e;let ⟨m,⟨d,f,g,a,b,_⟩,_⟩:=I.loc
 grind
theorem Inv.zk7(I:Inv X pins σ H s):s.heap.FunFrames X.base X.outer:=by
 have all:∀(l:List Env),(∀b∈frs l,b∈X.fs)->X.zy0.heap.FunFrames X.base l->s.heap.FunFrames X.base l:=by
  intro l
  induction l with
  |nil=>intro _ _;trivial
  |cons env r f=>
   intro hs g;let ⟨i,⟨L,o,a,hn,ho,hd⟩,hr⟩:=g;have c:=hs L (by unfold frs;rw[f1t,a];exact k1g);let ⟨sl,e⟩:=I.base.slot L o ho (I.ok.frf L c) c λz=>I.ok.zb7 L z c
   exact ⟨i,⟨L,_,a,hn,e,hd⟩,f (λb d=>hs b (by unfold frs;rw[f1t,a];exact k1o _ d)) hr⟩
 exact all X.outer (λ_ d=>d) I.ok.zk7
theorem Inv.stack(I:Inv X pins σ H s):s.heap.FunFrames X.base X.stack:=by
 rcases I.ok.stk with e |⟨e,a⟩
 .rw[e];exact I.zk7
 .rw[e];let ⟨m,hn,_⟩:=I.loc;refine .cons (by rw[I.ok.kind];decide) a hn ?_ I.zk7;exact c1p (j1o I.ok.bsz I.ok.above)
def Inv.zg3(I:Inv X pins σ H s):∀b∈frs X.stack,b∈X.env.locals::X.fs:=λb a=>by
 rcases I.ok.stk with e |⟨e,c⟩
 .grind
 .rw[e]at a;unfold frs at a;rw[f1t,c]at a;exact a
def Inv.zi3(I:Inv X pins σ H s):∀b∈frs X.stack,H b=none:=λb a=>by
 rcases j1n.mp (I.zg3 b a)with e |a
 .rw[e];exact I.free
 .let ⟨_,o,ho,_⟩:=I.ok.zk7.mem a;exact I.base.free b o ho (I.ok.frf b a) λz=>I.ok.zb7 b z a
def Inv.step{g':Array GenState}{t':Nat}{d':Drawn}{ch:List X0}(I:Inv X pins σ H s)
 (a:∀b∈ch,(b∈X.ex\/X.zy0.heap.objs.size<=b)/\b≠X.env.locals/\(∀x c,X.env.cells.lookup x=some c->c≠b)/\∀p∈X.pn++pins,p.1≠b)
 (keep:∀b o,b≠X.env.locals->b∉X.fs->b∉ch->s.heap.get? b=some o->H b=none->h'.get? b=some o)
 (slot:∀b o,b≠X.env.locals->b∈X.fs->b∉ch->s.heap.get? b=some o->H b=none->∃sl,h'.get? b=some {o with slots:=sl}) (free:∀b o,b∉ch->s.heap.get? b=some o->H b=none->H' b=none)
 (there:∀b o,b∉ch->s.heap.get? b=some o->∃y,h'.get? b=some y)
 (zl0:∀b xs,H b=some (.tup xs)->H' b=some (.tup xs)) (zj8:∀b o u,H b=some (.frz o u)->H' b=some (.frz o u)) (zg2:∀b ps,H b=some (.tbl ps)->∃more,H' b=some (.tbl (ps++more)))
 (ns:∀m,s.heap.Ns X.env.locals m->h'.Ns X.env.locals m) (hok:HOk X.prog X.w H' h') (G:AllBare g'):
 Inv X pins σ H' {s with heap:=h',gens:=g',drawn:=d',toks:=t'}:=by
 have neL:∀b o,X.zy0.heap.get? b=some o->b≠X.env.locals:=λb o e=>k1i (k1f (k1n e) I.ok.above)
 have j:∀b o,X.zy0.heap.get? b=some o->b∉X.ex->b∉ch:=λb o e hx t=>by
  rcases (a b t).1 with z |z
  .exact hx z
  .exact absurd (k1f (k1n e) z) (g1r _)
 have f:∀x c,X.env.cells.lookup x=some c->∀v,s.heap.IsCell c v->h'.IsCell c v:=λx c e v ⟨o,ho,hd⟩=>by
  have g:c∉ch:=λz=>(a c z).2.2.1 x c e rfl
  by_cases C:c∈X.fs
  .let ⟨sl,q⟩:=slot c o (I.cne x c e) C g ho (I.zv3 x c e);exact ⟨_,q,hd⟩
  .exact ⟨o,keep c o (I.cne x c e) C g ho (I.zv3 x c e),hd⟩
 refine ⟨I.ok,I.os,G,⟨λb o e n t hx=>?_,λb o e n t hx=>?_,λb o e n hx=>?_,λb o e hx=>?_,λb xs e=>zl0 b xs (I.base.zl0 b xs e),λb o xs e=>zj8 b o xs (I.base.zj8 b o xs e),λb ps e=>?_⟩,?_,λx c e=>?_,?_,λx c e=>?_,λp D=>?_,hok,I.len⟩
 .exact keep b o (neL b o e) t (j b o e hx) (I.base.keep b o e n t hx) (I.base.free b o e n hx)
 .let ⟨sl,e1⟩:=I.base.slot b o e n t hx;let ⟨B,e2⟩:=slot b _ (neL b o e) t (j b o e hx) e1 (I.base.free b o e n hx);exact ⟨B,e2⟩
 .let ⟨y,e1⟩:=I.base.there b o e hx;exact free b y (j b o e hx) e1 (I.base.free b o e n hx)
 .let ⟨y,e1⟩:=I.base.there b o e hx;exact there b y (j b o e hx) e1
 .let ⟨m1,e1⟩:=I.base.zg2 b ps e;let ⟨m2,e2⟩:=zg2 b _ e1;exact ⟨m1++m2,by rw[e2,Array.append_assoc]⟩
 .let ⟨m,hn,J⟩:=I.loc;refine ⟨m,ns m hn,λi x v e1 e2 e3=>?_⟩;let ⟨u,r,l⟩:=J i x v e1 e2 e3;refine ⟨u,r,?_⟩;rcases l with l |⟨k,c,e,z⟩
  .exact .inl l
  .exact .inr ⟨k,c,e,f x c e _ z⟩
 .let ⟨v,z⟩:=I.cell x c e;exact ⟨v,f x c e v z⟩
 .let ⟨m,⟨o,_,_,ho,_⟩,_⟩:=I.loc;exact free _ o (λz=>(a _ z).2.1 rfl) ho I.free
 .let ⟨v,o,ho,hd⟩:=I.cell x c e;exact free c o (λz=>(a c z).2.2.1 x c e rfl) ho (I.zv3 x c e)
 .let ⟨e,n,ne,F,d⟩:=I.pin p D;have g:p.1∉ch:=λz=>(a p.1 z).2.2.2 p D rfl
  exact ⟨keep p.1 p.2 ne F g e n,free p.1 p.2 g e n,ne,F,d⟩
def Inv.un{t':Nat}(I:Inv X pins σ H s)(u:Un X.fs [] H H' s.heap h')(hok:HOk X.prog X.w H' h'):Inv X pins σ H' {s with heap:=h',toks:=t'}:=by
 let ⟨m,⟨o,j,k,ho,r⟩,_⟩:=id I.loc;let ⟨sl,g⟩:=u.any ho I.free (by simp);exact I.step (g':=s.gens) (d':=s.drawn) (ch:=[]) (λ_ z=>nomatch z) (λb o _ c _ e n=>u.keep b o e n c (by simp)) (λb o _ c _ e n=>u.slot b o e n c (by simp)) (λb o _ e n=>u.free b o e n (by simp)) (λb o _ e=>u.there b o e (by simp)) u.zl0 u.zj8 u.zg2 (λl hm=>by
  let ⟨p,d,f,a,i⟩:=hm;rw[ho]at a;cases a;exact ⟨_,d,f,g,i⟩) hok I.bare
def Inv.call{g':Array GenState}{t':Nat}{d':Drawn}{ch:List X0}(I:Inv X pins σ H s)(u:Un (frs X.stack) ch H H' s.heap h')(hok:HOk X.prog X.w H' h')(k:AllBare g')
 (d:∀b∈ch,(b∈X.ex\/X.zy0.heap.objs.size<=b)/\b≠X.env.locals/\(∀x c,X.env.cells.lookup x=some c->c≠b)/\∀p∈X.pn++pins,p.1≠b):
 Inv X pins σ H' {s with heap:=h',gens:=g',drawn:=d',toks:=t'}:=by
 let ⟨m,⟨o,v,y,ho,r⟩,_⟩:=id I.loc;let ⟨sl,g⟩:=u.any ho I.free λz=>(d _ z).2.1 rfl
 exact I.step (ch:=ch) d (λb o g l a e n=>u.keep b o e n (λz=>(j1n.mp (I.zg3 b z)).elim g l) a) (λb o _ _ a e n=>u.any e n a) (λb o a e n=>u.free b o e n a) (λb o a e=>u.there b o e a) u.zl0 u.zj8 u.zg2 (λB hm=>by
  let ⟨C,i,j,f,t⟩:=hm;rw[ho]at f;cases f;exact ⟨_,i,j,g,t⟩) hok k
def Inv.turned{t':Nat}{it:X0}(I:Inv X pins σ H s)(k:∀b o,b≠it->s.heap.get? b=some o->h'.get? b=some o)(hn:H it=none)(f:it≠X.env.locals)
 (h1:it∈X.ex\/X.zy0.heap.objs.size<=it) (g:∀x c,X.env.cells.lookup x=some c->c≠it) (i:∀p∈X.pn++pins,p.1≠it):Inv X pins σ H {s with heap:=h',toks:=t'}:=by
 have d:∀b u,H b=some u->b≠it:=λb u e z=>by rw[z,hn]at e;cases e
 refine I.step (g':=s.gens) (d':=s.drawn) (ch:=[it]) (λb j=>?_) (λb o _ _ a e _=>k b o (λz=>a (by simp[z])) e) (λb o _ _ a e _=>⟨o.slots,k b o (λz=>a (by simp[z])) e⟩) (λ_ _ _ _ n=>n)
  (λb o a e=>⟨o,k b o (λz=>a (by simp[z])) e⟩) (λ_ _ e=>e) (λ_ _ _ e=>e) (λb w e=>⟨#[],by rw[e];simp⟩) (λm hm=>?_) (λb u e=>?_) I.bare
 .have e:b=it:=by simpa using j
  subst e;exact ⟨h1,f,g,i⟩
 .let ⟨o,l,t,ho,r⟩:=hm;exact ⟨o,l,t,k _ o (j1k f) ho,r⟩
 .refine (I.hok b u e).zo2 (λc v a q=>k c v ?_ q) (λ_ q=>q) λ_ _ q=>q
  rcases a with z |z
  .rw[z];exact d b u e
  .exact d c _ z
def Inv.tok(I:Inv X pins σ H s)(t:Nat):Inv X pins σ H {s with toks:=t}:=I.un Un.refl I.hok
theorem Inv.kept{t':Nat}(I:Inv X pins σ H s)(k:∀b u,s.heap.get? b=some u->h'.get? b=some u):Inv X pins σ H {s with heap:=h',toks:=t'}:=I.un (Un.kept k) (I.hok.kept k)
theorem Inv.laid{t':Nat}(I:Inv X pins σ H s)(k:∀b u,s.heap.get? b=some u->h'.get? b=some u)(c:s.heap.objs.size<=a)(new:zx6 X.prog X.w (upd H a o) h' a o):
 Inv X pins σ (upd H a o) {s with heap:=h',toks:=t'}:=I.un (Un.laid k c (I.hok.fresh c)) (I.hok.laid k c new)
theorem Inv.write{x e:X0}{o:HO}{t':Nat}(I:Inv X pins σ H s)(c:Mut (H x))(d:e=x\/H e=some (.own x))(k:∀b u,b≠e->s.heap.get? b=some u->h'.get? b=some u)(a:∃u,h'.get? e=some u)
 (new:zx6 X.prog X.w (upd H x o) h' x o):Inv X pins σ (upd H x o) {s with heap:=h',toks:=t'}:=I.un (Un.write c d k a) (I.hok.write c d k a new)
def Inv.weak{a:List (Option V)}(I:Inv X pins σ H s)(c:a.length=σ.length)(w:∀(i:Nat) v,a[i]?=some (some v)->σ[i]?=some (some v)):Inv X pins a H s:=
 ⟨I.ok,I.os,I.bare,I.base,let ⟨m,hn,b⟩:=I.loc;⟨m,hn,λi x v e1 e2 e3=>b i x v e1 (w i v e2) e3⟩,I.cell,I.free,I.zv3,I.pin,I.hok,c.trans I.len⟩
def Inv.zc0{a:List (X0×Obj)}(I:Inv X pins σ H s)(h:∀p∈a,s.heap.get? p.1=some p.2/\H p.1=none/\p.1≠X.env.locals/\p.1∉X.fs/\∀v,p.2.data≠.cell v):Inv X a σ H s:=
 ⟨I.ok,I.os,I.bare,I.base,I.loc,I.cell,I.free,I.zv3,λp b=>(j1g.mp b).elim (λz=>I.pin p (i1s _ z)) (h p),I.hok,I.len⟩
def n0f{N:List Str}(c:N.Nodup){j:Nat}(a:N[i]?=some x)(b:N[j]?=some x):i=j:=by
 let ⟨d,e1⟩:=k1t.mp a;let ⟨e,e2⟩:=k1t.mp b;exact (List.getElem_inj c).mp (e1.trans e2.symm)
def q0c{M:Model}{A:A0}{E:Z0->Y0->Prop}{Q:Unit->Y0->Prop}(I:Inv X pins σ H s)(hN:X.N.Nodup)(J:X.N[i]?=some x)(hx:Loc X.env.scope x)(r:RelV v u)
 (h:∀W,Inv X pins (σ.set i (some v)) H W->(∃a,Heap.SameBut a s.heap W.heap/\(a=X.env.locals\/X.env.cells.lookup x=some a))->Q () W) (hf:X.fn x=true\/X.env.scope.names.lookup x=some .local:=by first |exact .inl rfl |exact .inr rfl |assumption):wpAny M A (storeName X.env x u) Q E s:=by
 let ⟨m,hn,hl⟩:=id I.loc;have L:(X.env.scope.kind== .class||(X.env.scope.kind== .module&&X.env.locals !=X.env.globals))=false:=by rw[I.ok.kind];rfl
 have t:i<σ.length:=by rw[I.len];exact (k1t.mp J).1
 have cne:=I.cne;have f:∀{a:X0} {G:J0},(∃o,s.heap.get? a=some o/\H a=none)->Heap.SameBut a s.heap G->HOk X.prog X.w H G:=λ{a G} ha hs b ob e=>by
  let ⟨_,_,l⟩:=ha;refine (I.hok b ob e).zo2 (λc U g q=>(hs.2 c ?_).trans q) (λ_ q=>q) λ_ _ q=>q
  rintro rfl;rcases g with rfl |g
  .rw[l]at e;cases e
  .rw[l]at g;cases g
 rcases hx with B |B
 .refine wpAny_storeName_local B hn (λG Z hs=>?_) L;let ⟨oL,_,_,aa,_⟩:=id hn;refine h _ ⟨I.ok,I.os,I.bare,⟨λb o e n C hx=>?_,λb o e n C hx=>?_,I.base.free,λb o e hx=>?_,I.base.zl0,I.base.zj8,I.base.zg2⟩,⟨_,Z,λj y v' e1 e2 e3=>?_⟩,λy c e=>?_,I.free,I.zv3,λp hp=>?_,f ⟨oL,aa,I.free⟩ hs,by simpa using I.len⟩ ⟨_,hs,.inl rfl⟩
  .exact (hs.2 b (k1i (k1f (k1n e) I.ok.above))).trans (I.base.keep b o e n C hx)
  .let ⟨sl,e1⟩:=I.base.slot b o e n C hx;exact ⟨sl,(hs.2 b (k1i (k1f (k1n e) I.ok.above))).trans e1⟩
  .let ⟨o',e1⟩:=I.base.there b o e hx;exact ⟨o',(hs.2 b (k1i (k1f (k1n e) I.ok.above))).trans e1⟩
  .by_cases D:j=i
   .subst D;rw[J]at e1;cases e1;rw[h1h t]at e2;cases e2;exact ⟨u,r,.inl ⟨B,by simp⟩⟩
   .rw[k1e (j1k D)]at e2;let ⟨u',r',q⟩:=hl j y v' e1 e2 e3;refine ⟨u',r',?_⟩;rcases q with ⟨k,e⟩|⟨k,c,e,z⟩
    .refine .inl ⟨k,?_⟩;have:y≠x:=λe=>D (n0f hN e1 (e▸J))
     simp[this,e]
    .exact .inr ⟨k,c,e,z.sameBut hs (cne y c e)⟩
  .let ⟨U,z⟩:=I.cell y c e;exact ⟨U,z.sameBut hs (cne y c e)⟩
  .let ⟨e,n,ne,nf,d⟩:=I.pin p hp;exact ⟨(hs.2 p.1 ne).trans e,n,ne,nf,d⟩
 .have F:X.fn x=true:=by
   rcases hf with z |z
   .exact z
   .rw[z]at B;cases B
  let ⟨c,g⟩:=I.ok.has x (.inl B);let ⟨U,z⟩:=I.cell x c g;refine wpAny_storeName_cell I.ok.kind B g z (λG O hs=>?_);let ⟨oc,P,R⟩:=id z;refine h {s with heap:=G} ⟨I.ok,I.os,I.bare,⟨λb o e n C hx=>?_,λb o e n C hx=>?_,I.base.free,λb o e hx=>?_,I.base.zl0,I.base.zj8,I.base.zg2⟩,⟨m,hn.sameBut hs (j1k (cne x c g)),λj y v' e1 e2 e3=>?_⟩,λy V e=>?_,I.free,I.zv3,λp hp=>?_,f ⟨oc,P,I.zv3 x c g⟩ hs,by simpa using I.len⟩ ⟨c,hs,.inr g⟩
  .exact (hs.2 b (k1i (k1f (k1n e) (I.ok.cab x c F g)))).trans (I.base.keep b o e n C hx)
  .let ⟨sl,e1⟩:=I.base.slot b o e n C hx;exact ⟨sl,(hs.2 b (k1i (k1f (k1n e) (I.ok.cab x c F g)))).trans e1⟩
  .let ⟨o',e1⟩:=I.base.there b o e hx;exact ⟨o',(hs.2 b (k1i (k1f (k1n e) (I.ok.cab x c F g)))).trans e1⟩
  .by_cases D:j=i
   .subst D;rw[J]at e1;cases e1;rw[h1h t]at e2;cases e2;exact ⟨u,r,.inr ⟨.inl B,c,g,O⟩⟩
   .rw[k1e (j1k D)]at e2;let ⟨u',r',q⟩:=hl j y v' e1 e2 e3;refine ⟨u',r',?_⟩;rcases q with q |⟨k,V,e,z'⟩
    .exact .inl q
    .refine .inr ⟨k,V,e,z'.sameBut hs ?_⟩;rintro rfl;exact D (n0f hN e1 (I.ok.inj _ _ _ e g▸J))
  .by_cases S:V=c
   .subst S;exact ⟨_,O⟩
   .let ⟨w2,z2⟩:=I.cell y V e;exact ⟨w2,z2.sameBut hs S⟩
  .let ⟨e,n,ne,nf,d⟩:=I.pin p hp;refine ⟨(hs.2 p.1 ?_).trans e,n,ne,nf,d⟩;intro q;rw[q,P]at e;have q':oc=p.2:=i1q e;exact d U (by rw[<-q'];exact R)
def q0s{M:Model}{A:A0}{E:Z0->Y0->Prop}{Q:Unit->Y0->Prop}(I:Inv X pins σ H s)(b:X.N.Nodup)(c:X.N[i]?=some x)(hx:Loc X.env.scope x)(r:RelV v u)
 (h:∀a,Inv X pins (σ.set i (some v)) H a->Q () a) (d:X.fn x=true\/X.env.scope.names.lookup x=some .local:=by first |exact .inl rfl |exact .inr rfl |assumption):wpAny M A (storeName X.env x u) Q E s:=
 q0c I b c hx r (λa e _=>h a e) d
def Inv.zU9{a:Y0}{ch:List X0}(I:Inv X pins σ H s)(ho:a.os=s.os)(u:Un (frs X.stack) ch H H' s.heap a.heap)(hok:HOk X.prog X.w H' a.heap)(f:AllBare a.gens)
 (d:∀b∈ch,(b∈X.ex\/X.zy0.heap.objs.size<=b)/\b≠X.env.locals/\(∀x c,X.env.cells.lookup x=some c->c≠b)/\∀p∈X.pn++pins,p.1≠b):Inv X pins σ H' a:=by
 let ⟨l,g,i,j,k⟩:=a;have e:k=s.os:=ho;subst e;exact I.call (g':=g) (t':=j) (d':=i) u hok f d
end
abbrev XK:=Z0->Option X0->Hp->Prop
abbrev St:=List (Option V)
abbrev VK:=V->Hp->Prop
abbrev TE:=St->Hp->VK->Prop
abbrev TT:=St->Hp->(Bool->Hp->Prop)->Prop
abbrev TA:=St->Hp->(List V->Hp->Prop)->Prop
structure Ends where
 nx:St->Hp->Prop
 rt:VK
 bk:St->Hp->Prop:=λ_ _=>False
 ct:St->Hp->Prop:=λ_ _=>False
abbrev TS:=Ends->St->Hp->Prop
def EP(X:Cx)(pins:List (X0×Obj))(σ:St)(Q:VK)(u:Z0)(s':Y0):Prop:=∃v H',Inv X pins σ H' s'/\RelV v u/\Q v H'
def TP(X:Cx)(pins:List (X0×Obj))(σ:St)(Q:Bool->Hp->Prop)(b:Bool)(s':Y0):Prop:=∃H',Inv X pins σ H' s'/\Q b H'
def AP(X:Cx)(pins:List (X0×Obj))(σ:St)(Q:List V->Hp->Prop)(us:List Z0)(s':Y0):Prop:=∃vs H',Inv X pins σ H' s'/\zy8 vs us/\Q vs H'
def SP(X:Cx)(pins:List (X0×Obj))(D:Ends)(f:Flow)(s':Y0):Prop:=
 match f with
 | .next=>∃ σ' H',Inv X pins σ' H' s'/\D.nx σ' H'
 | .brk=>∃ σ' H',Inv X pins σ' H' s'/\D.bk σ' H'
 | .cont=>∃ σ' H',Inv X pins σ' H' s'/\D.ct σ' H'
 | .ret u=>∃v σ' H',Inv X pins σ' H' s'/\RelV v u/\D.rt v H'
def PE(X:Cx)(e:Expr)(t:TE):Prop:=
 ∀(pins:List (X0×Obj)) (s:Y0) (σ:St) (H:Hp) (Q:VK),Inv X pins σ H s->t σ H Q->wpAny (model X.prog X.w) X.A (eval e X.env) (EP X pins σ Q) X.xe s
def PT(X:Cx)(e:Expr)(t:TT):Prop:=
 ∀(pins:List (X0×Obj)) (s:Y0) (σ:St) (H:Hp) (Q:Bool->Hp->Prop),Inv X pins σ H s->t σ H Q->wpAny (model X.prog X.w) X.A (isTrue e X.env (eval e X.env)) (TP X pins σ Q) X.xe s
def PW(X:Cx)(e:Expr)(t:TT):Prop:=
 ∀(whole:Sem Z0) (pins:List (X0×Obj)) (s:Y0) (σ:St) (H:Hp) (Q:Bool->Hp->Prop),Inv X pins σ H s->t σ H Q->wpAny (model X.prog X.w) X.A (isTrue e X.env whole) (TP X pins σ Q) X.xe s
def PW.pt{t:TT}(h:PW X e t):PT X e t:=h _
def PA(X:Cx)(es:List Expr)(t:TA):Prop:=
 ∀(pos:Pos) (pins:List (X0×Obj)) (s:Y0) (σ:St) (H:Hp) (Q:List V->Hp->Prop),Inv X pins σ H s->t σ H Q->wpAny (model X.prog X.w) X.A (spliced (Q3 pos (R0 es X.env))) (AP X pins σ Q) X.xe s
def PS(X:Cx)(st:Y1)(t:TS):Prop:=
 ∀(pins:List (X0×Obj)) (s:Y0) (σ:St) (H:Hp) (D:Ends),Inv X pins σ H s->t D σ H->wpAny (model X.prog X.w) X.A (exec st X.env) (SP X pins D) X.xe s
def PSs(X:Cx)(st:List Y1)(t:TS):Prop:=
 ∀(pins:List (X0×Obj)) (s:Y0) (σ:St) (H:Hp) (D:Ends),Inv X pins σ H s->t D σ H->wpAny (model X.prog X.w) X.A (execs st X.env) (SP X pins D) X.xe s
def thn{b:Type}{t:Sem b}{Q c:b->Y0->Prop}{M:Model}{E:Z0->Y0->Prop}(h:wpAny M A t Q E s)(d:∀a s,Q a s->c a s):wpAny M A t c E s:=K0 h d λ_ _ x=>x
section
variable{X:Cx}
def zV1(i:Nat):TE:=λσ H Q=>∃v,σ[i]?=some (some v)/\Q v H
def tC(v:V):TE:=λ_ H Q=>Q v H
def i8(j:X.N[i]?=some x)(k:Vis X.env.scope x)(hd:(x==("__debug__":Str))=false:=by decide)(f:(x==("__classdict__":Str))=false:=by decide):PE X (.Name x pos) (zV1 i):=by
 intro d s n H Q I h;let ⟨v,e,h⟩:=h;let ⟨m,hn,o⟩:=I.loc;let ⟨u,r,l⟩:=o i x v j e k;have fin:EP X d n Q u s:=⟨v,H,I,r,h⟩;rcases l with ⟨b,hm⟩|⟨b,c,g,a⟩
 .exact wpAny_Name (wpAny_loadName_local I.ok.kind b hn hm fin) hd
 .rcases b with b |b
  .exact wpAny_Name (wpAny_loadName_cell I.ok.kind b g a fin) hd
  .exact wpAny_Name (wpAny_loadName_free I.ok.kind b g a fin f) hd
def r0n{i j pos}:PE X (.Constant (.int i) j pos) (tC (.int i)):=λ_ _ _ H _ I h=>wpAny_Constant_int ⟨.int i,H,I.tok _,⟨_,rfl⟩,h⟩
def zB8{b j pos}:PE X (.Constant (.bool b) j pos) (tC (.bl b)):=λ_ _ _ H _ I h=>Constant_bool ⟨.bl b,H,I,rfl,h⟩
def zT0{j pos}:PE X (.Constant .none j pos) (tC .non):=λ_ _ _ H _ I h=>Constant_none ⟨.non,H,I,rfl,h⟩
def zT1{x j pos}:PE X (.Constant (.str x) j pos) (tC (.str x)):=λ_ _ _ H _ I h=>Calls.Constant_str ⟨.str x,H,I.tok _,⟨_,rfl⟩,h⟩
def Gl(X:Cx)(x:Str):Prop:=X.env.kindOf x=some .globalImplicit
def v0i{E:Z0->Y0->Prop}{pos:Pos}{Q:Z0->Y0->Prop}(I:Inv X pins σ H s)(a:Gl X x)(hm:X.mg x=some u)(h:Q u s)
 (hd:(x==("__debug__":Str))=false:=by decide):wpAny (model X.prog X.w) X.A (eval (.Name x pos) X.env) Q E s:=
 e1g I.ok.kind a (Calls.loadGlobal_global (by rw[I.ok.glob];exact I.mod.glob.keeps I.bk) hm h) hd
def x0u{E:Z0->Y0->Prop}{pos:Pos}{Q:Z0->Y0->Prop}(I:Inv X pins σ H s)(a:Gl X x)(hm:X.mg x=none)(b:W1 x=some u)(h:Q u s)
 (hn:x≠"__name__":=by decide) (hd:(x==("__debug__":Str))=false:=by decide):wpAny (model X.prog X.w) X.A (eval (.Name x pos) X.env) Q E s:=by
 let ⟨e,c,d⟩:=I.mod.blt;exact e1g I.ok.kind a (Calls.loadGlobal_builtin (by rw[I.ok.glob];exact I.mod.glob.keeps I.bk) hm (by rw[I.ok.blt];exact c.keeps I.bk) ((d x hn).trans b) h) hd
def b0c(a:Gl X x)(hm:X.mg x=some u)(r:RelV v u)(hd:(x==("__debug__":Str))=false:=by decide):PE X (.Name x pos) (tC v):=
 λ_ _ _ H _ I h=>v0i I a hm ⟨v,H,I,r,h⟩ hd
def p1t(a:Gl X x)(hm:X.mg x=none)(b:W1 x=some u)(r:RelV v u)(hn:x≠"__name__":=by decide)(hd:(x==("__debug__":Str))=false:=by decide):PE X (.Name x pos) (tC v):=
 λ_ _ _ H _ I h=>x0u I a hm b ⟨v,H,I,r,h⟩ hn hd
variable{a b:Expr}{ta tb:TE}{pos:Pos}
def tB(t:TE):TT:=λσ H Q=>t σ H λx H1=>∃c,x=.bl c/\Q c H1
def zT2(h:PE X e t)(b:∀whole,isTrue e X.env whole=(do let v<-whole;standAt e.pos;holding [v] (truthy v)):=by intro _;rfl):PT X e (tB t):=by
 intro a s c H Q I f;refine isTrue_plain (thn (h a s c H _ I f) λv l zz=>?_) (b _);let ⟨x,g,i,j,k⟩:=zz;let ⟨d,rfl,q⟩:=k;cases j;exact J1 ⟨g,i,q⟩
variable{tA tB':TT}{rest:List Expr}
def tAnd(t u:TT):TT:=λσ H Q=>t σ H λc H1=>if c=true then u σ H1 Q else Q false H1
def tOr(t u:TT):TT:=λσ H Q=>t σ H λc H1=>if c=true then Q true H1 else u σ H1 Q
def tNot(t:TT):TT:=λσ H Q=>t σ H λc H1=>Q (!c) H1
def p1s(ha:PT X a tA):PW X (.BoolOp .And [a] pos) tA:=by
 intro f b s d H Q I h;refine isTrue_and (thn (ha b s d H Q I h) λc g e=>?_);cases c with
 |true=>exact isTrue_and_nil e
 |false=>exact e
def pw_or1(ha:PT X a tA):PW X (.BoolOp .Or [a] pos) tA:=by
 intro f b s d H Q I h;refine isTrue_or (thn (ha b s d H Q I h) λc g e=>?_);cases c with
 |false=>exact isTrue_or_nil e
 |true=>exact e
def pw_and(ha:PT X a tA)(j:PW X (.BoolOp .And (b::rest) pos) tB'):PW X (.BoolOp .And (a::b::rest) pos) (tAnd tA tB'):=by
 intro k d s e H Q I h;refine isTrue_and (thn (ha d s e H _ I h) λc l zz=>?_);let ⟨f,g,i⟩:=zz;cases c with
 |true=>exact j k d l e f Q g i
 |false=>exact ⟨f,g,i⟩
def pw_or(ha:PT X a tA)(j:PW X (.BoolOp .Or (b::rest) pos) tB'):PW X (.BoolOp .Or (a::b::rest) pos) (tOr tA tB'):=by
 intro k d s e H Q I h;refine isTrue_or (thn (ha d s e H _ I h) λc l zz=>?_);let ⟨f,g,i⟩:=zz;cases c with
 |true=>exact ⟨f,g,i⟩
 |false=>exact j k d l e f Q g i
def zT3(ha:PT X a tA):PT X (.UnaryOp .Not a pos) (tNot tA):=by
 intro b s d H Q I h;exact isTrue_not (ha b s d H (λc e=>Q (!c) e) I h)
def zB9(ta tb:TE):TE:=λσ H Q=>ta σ H λx H1=>∃c,x=.bl c/\if c=true then tb σ H1 Q else Q (.bl false) H1
def zA0(ta:TE):TE:=λσ H Q=>ta σ H λx H1=>∃c,x=.bl c/\Q (.bl (!c)) H1
def zT4{op}(h:PE X a t):PE X (.BoolOp op [a] pos) t:=λb s c H Q I d=>BoolOp_one (h b s c H Q I d)
def zT5(ha:PE X a ta)(j:PE X (.BoolOp .And (b::rest) pos) tb):PE X (.BoolOp .And (a::b::rest) pos) (zB9 ta tb):=by
 intro d s f H Q I h;refine BoolOp_and (thn (ha d s f H _ I h) λv k zz=>?_);let ⟨x,g,i,l,e⟩:=zz;let ⟨c,rfl,e⟩:=e;cases l;refine J1 ?_;cases c with
 |true=>exact j d k f g Q i e
 |false=>exact ⟨.bl false,g,i,rfl,e⟩
def zT6(ha:PE X a ta):PE X (.UnaryOp .Not a pos) (zA0 ta):=by
 intro b s e H Q I h;refine UnaryOp_ (thn (ha b s e H _ I h) λv j zz=>?_);let ⟨x,f,g,i,d⟩:=zz;let ⟨c,rfl,d⟩:=d;cases i;exact not_of (J1 ⟨.bl (!c),f,g,rfl,d⟩)
def tIf(t:TT)(ta tb:TE):TE:=λσ H Q=>t σ H λc H1=>if c=true then ta σ H1 Q else tb σ H1 Q
def v1p{c:Expr}(l:PT X c tA)(ha:PE X a ta)(m:PE X b tb):PE X (.IfExp c a b pos) (tIf tA ta tb):=by
 intro e s f H Q I h;refine wpAny_IfExp (thn (l e s f H _ I h) λd g zz=>?_);let ⟨i,j,k⟩:=zz;cases d with
 |true=>exact ha e g f i Q j k
 |false=>exact m e g f i Q j k
end
def SqL(K:Fg)(H:Hp)(a:X0)(xs:List V):Prop:=
 Rd H a (.lst xs)\/
  ∃(o:Obj) (its:Array Z0) (n:Nat),K.lookup a=some o/\o.cls=.type "list"/\o.dict=none/\o.data=.seq its n/\its.size<=sizeLine/\zy8 xs its.toList
def SqT(K:Fg)(H:Hp)(a:X0)(xs:List V):Prop:=
 Rd H a (.tup xs)\/
  ∃(o:Obj) (its:Array Z0) (n:Nat),K.lookup a=some o/\o.cls=.type "tuple"/\o.data=.seq its n/\its.size<=sizeLine/\zy8 xs its.toList
def absV:Z0->Option V
 | .none=>some .non
 | .bool b=>some (.bl b)
 | .int i _=>some (.int i)
 | .str x _=>some (.str x)
 | .bytes b _=>some (.byt b)
 | .float b _=>some (.flt b)
 | .ref a=>some (.ref a)
 | .type n=>some (.ty n)
 |_=>none
def RelV.abs{x:V}(r:RelV x u):absV u=some x:=by
 cases x with
 |non=>cases r;rfl
 |bl _=>cases r;rfl
 |int _=>let ⟨t,rfl⟩:=r;rfl
 |str _=>let ⟨t,rfl⟩:=r;rfl
 |byt _=>let ⟨t,rfl⟩:=r;rfl
 |flt _=>let ⟨t,rfl⟩:=r;rfl
 |ref _=>cases r;rfl
 |ty _=>cases r;rfl
def RelV.inj{x:V}(r:RelV x u)(q:RelV y u):x=y:=i1q (r.abs.symm.trans q.abs)
theorem zy8.inj:∀{xs a:List V} {us:List Z0},zy8 xs us->zy8 a us->xs=a
 |_,_,_,.nil,.nil=>rfl
 |_,_,_,.cons r t,.cons b c=>by rw[r.inj b,zy8.inj t c]
section
variable{X:Cx}{pins:List (X0×Obj)}{σ:St}{H:Hp}{s:Y0}{a:X0}{xs ys:List V}
def SqL.of(h:H a=some (.lst xs)):SqL K H a xs:=.inl (.inl h)
def SqT.of(h:H a=some (.tup xs)):SqT K H a xs:=.inl (.inl h)
def Inv.list(I:Inv X pins σ H s)(h:SqL X.K H a xs):∃b:List Z0,zy8 xs b/\PlainL s.heap a b.toArray/\xs.length<=sizeLine:=by
 rcases h with h |⟨o,b,n,c,d,hd,hs,hz,r⟩
 .let ⟨z,b,n,r,e⟩:=h.ok I.hok;exact ⟨b,r,⟨_,n,e,rfl,rfl,rfl⟩,z⟩
 .refine ⟨b.toList,r,⟨o,n,I.kIn a o c,d,hd,by simpa using hs⟩,?_⟩;have e:=r.length
  grind
def Inv.tuple(I:Inv X pins σ H s)(h:SqT X.K H a xs):∃b:List Z0,zy8 xs b/\IsTup s.heap a b.toArray/\xs.length<=sizeLine:=by
 rcases h with h |⟨o,b,n,c,d,hs,hz,r⟩
 .let ⟨z,b,r,p⟩:=h.ok I.hok;exact ⟨b,r,p.tup,z⟩
 .refine ⟨b.toList,r,⟨o,I.kIn a o c,d,n,by simpa using hs⟩,?_⟩;have e:=r.length
  grind
def Inv.zl1(I:Inv X pins σ H s)(h:SqL X.K H a xs)(h':SqL X.K H a ys):xs=ys:=by
 let ⟨c,r,⟨o,n,e,_,_,d⟩,_⟩:=I.list h;let ⟨b,i,⟨k,l,f,_,_,g⟩,_⟩:=I.list h';rw[e]at f;cases f;rw[d]at g;injection g with j _
 have:c=b:=by simpa using congrArg Array.toList j
 subst this;exact r.inj i
def Inv.zk8(I:Inv X pins σ H s)(h:SqT X.K H a xs)(h':SqT X.K H a ys):xs=ys:=by
 let ⟨c,r,⟨o,e,_,n,d⟩,_⟩:=I.tuple h;let ⟨b,i,⟨k,f,_,l,g⟩,_⟩:=I.tuple h';rw[e]at f;cases f;rw[d]at g;injection g with j _
 have:c=b:=by simpa using congrArg Array.toList j
 subst this;exact r.inj i
end
abbrev Cx.zb8(X:Cx)(E:Z0->Y0->Prop):Cx:={X with xe:=E}
abbrev Cx.nox(X:Cx):Cx:=X.zb8 λ_ _=>False
theorem Cx.Ok.zb8(ok:X.Ok)(E:Z0->Y0->Prop):(X.zb8 E).Ok:=
 ⟨ok.mod,ok.kind,ok.glob,ok.blt,ok.above,ok.inj,ok.has,ok.cab,ok.hd,ok.frames,ok.stk,ok.exf,ok.bs,ok.bsz,ok.zb6,ok.zb7,ok.zk7,ok.frf⟩
def Cx.Ok.zq6{E:Z0->Y0->Prop}(ok:(X.zb8 E).Ok):X.Ok:=
 ⟨ok.mod,ok.kind,ok.glob,ok.blt,ok.above,ok.inj,ok.has,ok.cab,ok.hd,ok.frames,ok.stk,ok.exf,ok.bs,ok.bsz,ok.zb6,ok.zb7,ok.zk7,ok.frf⟩
section
variable{X:Cx}{pins:List (X0×Obj)}{σ:St}{H:Hp}{s:Y0}{E:Z0->Y0->Prop}
theorem Inv.zb8(I:Inv X pins σ H s)(E:Z0->Y0->Prop):Inv (X.zb8 E) pins σ H s:=⟨I.ok.zb8 E,I.os,I.bare,I.base,I.loc,I.cell,I.free,I.zv3,I.pin,I.hok,I.len⟩
theorem Inv.zq6(I:Inv (X.zb8 E) pins σ H s):Inv X pins σ H s:=⟨I.ok.zq6,I.os,I.bare,I.base,I.loc,I.cell,I.free,I.zv3,I.pin,I.hok,I.len⟩
theorem SP.zq6{D:Ends}{f:Flow}{c:Y0}(h:SP (X.zb8 E) pins D f c):SP X pins D f c:=by
 cases f with
 |next=>let ⟨a,b,I,q⟩:=h;exact ⟨a,b,I.zq6,q⟩
 |brk=>let ⟨a,b,I,q⟩:=h;exact ⟨a,b,I.zq6,q⟩
 |cont=>let ⟨a,b,I,q⟩:=h;exact ⟨a,b,I.zq6,q⟩
 |ret u=>let ⟨v,a,b,I,r,q⟩:=h;exact ⟨v,a,b,I.zq6,r,q⟩
theorem PSs.nox{st:List Y1}{t:TS}(h:PSs X.nox st t):PSs X st t:=λa s b H D I c=>
 K0 (h a s b H D (I.zb8 _) c) (λ_ _ q=>q.zq6) λ_ _ z=>False.elim z
end
section
variable{X:Cx}{st:Y1}{rest:List Y1}{t u:TS}{e:Expr}{te:TE}{pos:Pos}
def zA1:TS:=λD σ H=>D.nx σ H
def tSeq(t u:TS):TS:=λD σ H=>t {D with nx:=u D} σ H
def p1r:PSs X [] zA1:=λ_ _ a H _ I h=>K5 ⟨a,H,I,h⟩
def f0d(h1:PS X st t)(c:PSs X rest u):PSs X (st::rest) (tSeq t u):=by
 intro a s d H D I h;refine wpAny_execs_cons (thn (h1 a s d H {D with nx:=u D} I h) λf e q=>?_);cases f with
 |next=>
  let ⟨b,g,i,q⟩:=q;exact c a e b g D i q
 |ret v=>exact q
 |brk=>exact q
 |cont=>exact q
def t0c(h1:PS X st t):PSs X [st] t:=by
 intro a s b H D I h;refine wpAny_execs_cons (thn (h1 a s b H D I h) λf c q=>?_);cases f with
 |next=>exact K5 q
 |ret v=>exact q
 |brk=>exact q
 |cont=>exact q
def Inv.quiet(I:Inv X pins σ H s):interactive X.env=false:=by simp[interactive,I.ok.kind]
def zA2(te:TE):TS:=λD σ H=>te σ H λ_ H1=>D.nx σ H1
def p1q(c:PE X e te)(hs:B2 e none pos.line X.env=pure false:=by rfl):PS X (.Expr e pos) (zA2 te):=by
 intro a s b H D I h;exact wpAny_Expr_any (thn (c a s b H _ I h) λv i zz=>by let ⟨x,d,f,j,g⟩:=zz;exact ⟨b,d,f,g⟩) I.quiet hs
def tRet(te:TE):TS:=λD σ H=>te σ H D.rt
def r1t(c:PE X e te):PS X (.Return (some e) pos) (tRet te):=by
 intro a s b H D I h;exact wpAny_Return_some (thn (c a s b H _ I h) λv j zz=>by let ⟨x,d,f,g,i⟩:=zz;exact ⟨x,b,d,f,g,i⟩)
def tIfS(c:TT)(t u:TS):TS:=λD σ H=>c σ H λb H1=>if b=true then t D σ H1 else u D σ H1
def zT7{c:Expr}{a b:List Y1}{g:TT}(m:PT X c g)(ha:PSs X a t)(n:PSs X b u):PS X (.If c a b pos) (tIfS g t u):=by
 intro e s f H D I h;refine wpAny_If (thn (m e s f H _ I h) λd i zz=>?_);let ⟨j,k,l⟩:=zz;cases d with
 |true=>exact ha e i f j D k l
 |false=>exact n e i f j D k l
end
abbrev TG:=V->St->Hp->(St->Hp->Prop)->Prop
abbrev TGs:=List V->St->Hp->(St->Hp->Prop)->Prop
def PG(X:Cx)(target:Expr)(t:TG):Prop:=
 ∀(pins:List (X0×Obj)) (s:Y0) (σ:St) (H:Hp) (v:V) (u:Z0) (Q:St->Hp->Prop),Inv X pins σ H s->RelV v u->t v σ H Q->
  wpAny (model X.prog X.w) X.A (assign target X.env u) (λ_ s'=>∃ σ' H',Inv X pins σ' H' s'/\Q σ' H') X.xe s
def PGs(X:Cx)(ts:List Expr)(t:TGs):Prop:=
 ∀(pins:List (X0×Obj)) (s:Y0) (σ:St) (H:Hp) (vs:List V) (us:List Z0) (Q:St->Hp->Prop),Inv X pins σ H s->zy8 vs us->t vs σ H Q->
  wpAny (model X.prog X.w) X.A (assignInOrder ((K4 ts X.env).map (·.2)) us) (λ_ s'=>∃ σ' H',Inv X pins σ' H' s'/\Q σ' H') X.xe s
abbrev zA3:=V->V->V->Hp->(Hp->Prop)->Prop
def PSet(X:Cx)(t:zA3):Prop:=
 ∀(pins:List (X0×Obj)) (s:Y0) (σ:St) (H:Hp) (o i v:V) (ov iv u:Z0) (Q:Hp->Prop),Inv X pins σ H s->RelV o ov->RelV i iv->RelV v u->t o i v H Q->
  wpAny (model X.prog X.w) X.A (setItem ov iv u) (λ_ s'=>∃H',Inv X pins σ H' s'/\Q H') X.xe s
section
variable{X:Cx}{pos:Pos}
def n0e(i:Nat):TG:=λv σ H Q=>Q (σ.set i (some v)) H
def v0h(b:X.N.Nodup)(c:X.N[i]?=some x)(hx:Loc X.env.scope x)(d:X.fn x=true\/X.env.scope.names.lookup x=some .local:=by first |exact .inl rfl |exact .inr rfl |assumption):PG X (.Name x pos) (n0e i):=by
 intro a s f H v u Q I r h;exact A5 (q0s I b c hx r (λg e=>⟨_,H,e,h⟩) d)
def gNil:TGs:=λvs σ H Q=>vs=[]/\Q σ H
def zT8(t:TG)(u:TGs):TGs:=λvs σ H Q=>∃v r,vs=v::r/\t v σ H λσ' H'=>u r σ' H' Q
def p1p:PGs X [] gNil:=by
 intro a s b H c d Q I r h;let ⟨e,h⟩:=h;subst e;exact assignInOrder_nil ⟨b,H,I,h⟩
def v1o{b:List Expr}{t:TG}{u:TGs}(h1:PG X e t)(d:PGs X b u)
 (hs:(K4 (e::b) X.env).map (·.2)=assign e X.env::(K4 b X.env).map (·.2):=by rfl):PGs X (e::b) (zT8 t u):=by
 intro a s f H m n Q I r h;let ⟨v,o,e1,h⟩:=h;subst e1;cases r with
 |cons r g=>
  rw[hs];refine assignInOrder_cons (thn (h1 a s f H _ _ _ I r h) λ_ i zz=>?_);let ⟨c,j,k,l⟩:=zz;exact d a i c j _ _ Q k g l
def zT9(K:Fg)(n:Nat)(t:TGs):TG:=λv σ H Q=>∃a xs,v=.ref a/\SqT K H a xs/\xs.length=n/\t xs σ H Q
def zS0{d:List Expr}{k:Nat}{t:TGs}{n:Nat}(i:X.calm=true)(h:PGs X d t)
 (hn:(K4 d X.env).length=n:=by rfl) (f:(K4 d X.env).findIdx? (·.1)=none:=by rfl):PG X (.Tuple d k pos) (zT9 X.K n t):=by
 intro c s j H v u Q I r g;let ⟨a,l,e1,m,p,g⟩:=g;subst e1;cases r;let ⟨w,y,z,hz⟩:=I.tuple m;refine assign_Tuple_tuple (I.ok.hd i) z (by simp[hn,<- p,y.length]) f λC hx=>?_
 have B:=I.kept (t':=s.toks) λb o e=>hx b o (k1i (k1n e)) e
 exact h c _ j H l _ Q B (by grind) g
def gSub(to ti:TE)(t:zA3):TG:=λv σ H Q=>to σ H λo H1=>ti σ H1 λi H2=>t o i v H2 λH3=>Q σ H3
def r1s{o i:Expr}{to e:TE}{t:zA3}(ho:PE X o to)(f:PE X i e)(hs:PSet X t)
 (ha:∀v,assign (.Subscript o i pos) X.env v=(do
  let b<-holding [v] (eval o X.env)
  let c<-holding [v,b] (eval i X.env)
  standAt pos
  holding [v,b,c] (setItem b c v)
  release [v,b,c] []):=by intro _;rfl):PG X (.Subscript o i pos) (gSub to e t):=by
 intro a s d H v u Q I r h;refine y0 (D0 (thn (ho a s d H _ I h) λb g zz=>?_));let ⟨x,j,k,l,m⟩:=zz;refine y0 (D0 (thn (f a g d j _ k m) λc n zy=>?_));let ⟨y,p,I2,w,z⟩:=zy;refine y0 (X2 (y0 (D0 (thn (hs a n d p x y v b c u _ I2 l w r z) λ_ D zx=>?_))));let ⟨B,C,q3⟩:=zx;exact wpAny_release ⟨d,B,C,q3⟩
def zA4(te:TE)(g:TG):TS:=λD σ H=>te σ H λx H1=>g x σ H1 D.nx
def r1r{b:TE}{g:TG}(d:PE X e b)(f:PG X tg g)(hs:swapsWithSole [tg] e pos.line X.env=pure false:=by rfl)(i:swappedStores [tg] e X.env=pure none:=by rfl)
 (h1:(K4 [tg] X.env).map (·.2)=[assign tg X.env]:=by rfl):PS X (.Assign [tg] e pos) (zA4 b g):=by
 intro a s c H D I h;refine wpAny_Assign_stores (thn (d a s c H _ I h) λv j zz=>?_) hs i;let ⟨x,k,l,m,n⟩:=zz;rw[h1];exact thn (f a j c k x v _ l m n) λ_ o q=>q
def b0b{c:TE}{a:Pos}(d:X.N.Nodup)(f:X.N[i]?=some x)(hx:Loc X.env.scope x)(g:PE X e c)(hs:B2 e (some (.Name x a)) pos.line X.env=pure false:=by rfl)(j:X.fn x=true\/X.env.scope.names.lookup x=some .local:=by first |exact .inl rfl |exact .inr rfl |assumption):
 PS X (.Assign [.Name x a] e pos) (zA4 c (n0e i)):=by
 intro b s k H D I h;refine wpAny_Assign_Name (thn (g b s k H _ I h) λv p zz=>?_) hs;let ⟨y,l,m,n,o⟩:=zz;exact q0s m d f hx n (λr I2=>⟨_,l,I2,o⟩) j
end
structure It where
 go:Nat->Hp->Prop
 yld:Nat->Hp->V->Hp->Prop
 stop:Nat->Hp->Prop
def zd4(X:Cx)(pins:List (X0×Obj))(H:Hp)(b:X0):Prop:=
 H b=none/\b≠X.env.locals/\b∉X.fs/\(b∈X.ex\/X.zy0.heap.objs.size<=b)/\(∀x c,X.env.cells.lookup x=some c->c≠b)/\∀p∈X.pn++pins,p.1≠b
def Inv.za3{d:Hp}(I:Inv X pins σ H s)(a:s.heap.objs.size<=b)(hn:d b=none):zd4 X pins d b:=by
 refine ⟨hn,i1p (k1f I.lt a),I.nofs a,.inr (j1o I.sz a),λx c e z=>?_,λp f z=>?_⟩
 .let ⟨v,q⟩:=I.cell x c e;exact absurd (k1f q.lt (by grind)) (g1r _)
 .exact absurd (k1f (k1n (I.pin p f).1) (by grind)) (g1r _)
structure Turn(P:V0)(w:T0)(K:Fg)(tg:Expr)(J:It)(fp:List X0)(it:X0)(tn:Nat->J0->Prop):Prop where
 mem:it∈fp
 obj:∀i h,tn i h->∀b∈fp,∃o,h.get? b=some o/\∀v,o.data≠.cell v
 keep:∀i h h',tn i h->(∀b∈fp,∀o,h.get? b=some o->h'.get? b=some o)->tn i h'
 item:∀(X:Cx),X.prog=P->X.w=w->X.K=K->X.calm=true->∀(i:Nat) (pins:List (X0×Obj)) (s:Y0) (σ:St) (H:Hp) (E:Z0->Y0->Prop),Inv X pins σ H s->(∀b∈fp,zd4 X pins H b)->tn i s.heap->J.go i H->
  wpAny (model P w) X.A (pyNext (.ref it)) (λr s1=>∃u,r=some u/\
   wpAny (model P w) X.A (V4 tg (.ref it) u) (λ_ s2=>∃x H',Inv X pins σ H' s2/\RelV x u/\J.yld i H x H'/\tn (i+1) s2.heap/\∀b∈fp,H' b=none) E s1) E s
 done:∀(X:Cx),X.prog=P->X.w=w->X.K=K->X.calm=true->∀(i:Nat) (pins:List (X0×Obj)) (s:Y0) (σ:St) (H:Hp) (E:Z0->Y0->Prop),Inv X pins σ H s->(∀b∈fp,zd4 X pins H b)->tn i s.heap->J.stop i H->
  wpAny (model P w) X.A (pyNext (.ref it)) (λr s1=>r=none/\Inv X pins σ H s1) E s
 self:∀(A:A0) (i:Nat) (s:Y0) (Q:Z0->Y0->Prop) (E:Z0->Y0->Prop),tn i s.heap->Q (.ref it) s->wpAny (model P w) A (pyIter (.ref it)) Q E s
abbrev TI:=St->Hp->(It->Hp->Prop)->Prop
def PIE(X:Cx)(pins:List (X0×Obj))(σ:St)(tg:Expr)(R:It->Hp->Prop)(itv:Z0)(s2:Y0):Prop:=
 ∃(it:X0) (fp:List X0) (tn:Nat->J0->Prop) (J:It) (H':Hp),itv=.ref it/\Inv X pins σ H' s2/\Turn X.prog X.w X.K tg J fp it tn/\tn 0 s2.heap/\(∀b∈fp,zd4 X pins H' b)/\R J H'
def PI(X:Cx)(tg iter:Expr)(wi:TI):Prop:=
 ∀(pins:List (X0×Obj)) (s:Y0) (σ:St) (H:Hp) (R:It->Hp->Prop),Inv X pins σ H s->wi σ H R->
  wpAny (model X.prog X.w) X.A (eval iter X.env) (λv s1=>wpAny (model X.prog X.w) X.A (pyIter v) (PIE X pins σ tg R) X.xe s1) X.xe s
def c0o{M:Model}{A:A0}{E:Z0->Y0->Prop}{tg:Expr}{it:X0}{u:Z0}{o:Obj}{n:String}{vs:Array Z0}{Q:Unit->Y0->Prop}(ho:s.heap.get? it=some o)(b:o.cls=.type n)(hd:o.data=.fields vs)
 (hn:["enumerate","zip","dict_itemiterator","dict_reverseitemiterator","odict_iterator","itertools.zip_longest","itertools.pairwise"].contains n=false) (a:Q () s):wpAny M A (V4 tg (.ref it) u) Q E s:=by
 unfold V4;cases tg<;>first
  |exact d0 a
  |(cases u<;>first
     |exact d0 a
     |(refine y0 (wpAny_load ho ?_);rw[b,hd];show wpAny M A (if (["enumerate","zip","dict_itemiterator","dict_reverseitemiterator","odict_iterator","itertools.zip_longest","itertools.pairwise"].contains n&&vs[0]? ==some (G1 _))=true then _ else _) Q E s;rw[O0 (by intro h;rw[hn,Bool.false_and]at h;cases h)];exact d0 a))
def Itl(K:Fg)(a:X0):It:=
 ⟨λi H=>∃xs x,SqL K H a xs/\xs[i]?=some x,λi H x H'=>H'=H/\∀xs,SqL K H a xs->xs[i]?=some x,λi H=>∃xs,SqL K H a xs/\xs.length<=i⟩
def Itt(K:Fg)(a:X0):It:=
 ⟨λi H=>∃xs x,SqT K H a xs/\xs[i]?=some x,λi H x H'=>H'=H/\∀xs,SqT K H a xs->xs[i]?=some x,λi H=>∃xs,SqT K H a xs/\xs.length<=i⟩
def Itr(lo:Int)(n:Nat):It:=⟨λi _=>i<n,λi H x H'=>H'=H/\x=.int (lo+i),λi _=>n<=i⟩
def b0a(a it:X0):Turn P w K tg (Itl K a) [it] it (λi h=>h.IsListIter it a i)where
 mem:=by simp
 obj:=λi h st b f=>by
  have e:b=it:=by simpa using f
  subst e;let ⟨o,e,c,d⟩:=st
  grind
 keep:=λi h D st k=>st.at λo e=>k it (by simp) o e
 item:=by
  intro X n r t F i g s G H E I l st v;subst n r t;let ⟨J,x,m,hx⟩:=v;let ⟨y,z,p,hz⟩:=I.list m;let ⟨u,L,M⟩:=z.get hx;let ⟨f0,f1,f2,B,C,f5⟩:=l it (by simp);refine wpAny_pyNext_list_item st p.isList (x:=u) (by simpa using L) λD j N=>?_
  have O:=I.turned (t':=s.toks) (λb o f e=>(N.2 b f).trans e) f0 f1 B C f5;let ⟨o,e,c,d⟩:=id j;exact ⟨u,rfl,c0o e c d (by decide) ⟨x,H,O,M,⟨rfl,λS Q=>by rw[I.zl1 Q m];exact hx⟩,j,λb f=>(l b f).1⟩⟩
 done:=by
  intro X n r t F i g s G H E I l st v;subst n r t;let ⟨J,m,hx⟩:=v;let ⟨y,z,p,hz⟩:=I.list m;let ⟨f0,f1,f2,B,C,f5⟩:=l it (by simp);have U:=z.length;exact wpAny_pyNext_list_end (I.ok.hd F) st p.isList (by simp;lia) λD R=>⟨rfl,I.turned (t':=s.toks) (λb o f e=>R b o f e) f0 f1 B C f5⟩
 self:=λ_ _ _ _ _ st h=>wpAny_pyIter_listiter st h
def c0n(a it:X0):Turn P w K tg (Itt K a) [it] it (λi h=>h.IsTupleIter it a i)where
 mem:=by simp
 obj:=λi h st b g=>by
  have e:b=it:=by simpa using g
  subst e;let ⟨o,e,c,d⟩:=st
  grind
 keep:=λi h m st k=>st.at λo e=>k it (by simp) o e
 item:=by
  intro X t v y F i f s G H E I n st z;subst t v y;let ⟨J,x,r,hx⟩:=z;let ⟨j,B,p,hz⟩:=I.tuple r;let ⟨u,L,M⟩:=B.get hx;let ⟨f0,f1,f2,C,D,f5⟩:=n it (by simp);refine wpAny_pyNext_tuple_item st (show s.heap.IsTuple a j.toArray from p) (x:=u) (by simpa using L) λm l N=>?_
  have O:Inv X f G H {s with heap:=m}:=I.turned (t':=s.toks) (λb o g e=>(N.2 b g).trans e) f0 f1 C D f5;let ⟨o,e,c,d⟩:=id l;exact ⟨u,rfl,c0o (s:={s with heap:=m}) e c d (by decide) ⟨x,H,O,M,⟨rfl,λS Q=>by rw[I.zk8 Q r];exact hx⟩,l,λb g=>(n b g).1⟩⟩
 done:=by
  intro X t v y F i f s G H E I n st z;subst t v y;let ⟨J,r,hx⟩:=z;let ⟨j,B,p,hz⟩:=I.tuple r;let ⟨f0,f1,f2,C,D,f5⟩:=n it (by simp);have U:=B.length;exact wpAny_pyNext_tuple_end (I.ok.hd F) st (show s.heap.IsTuple a j.toArray from p) (by simp;lia) λm R=>⟨rfl,I.turned (t':=s.toks) (λb o g e=>R b o g e) f0 f1 C D f5⟩
 self:=λ_ _ _ _ _ st h=>wpAny_pyIter_tupleiter st h
def c0m(it:X0)(lo:Int)(n:Nat):Turn P w K tg (Itr lo n) [it] it (λi h=>IsRangeIter h it (lo+(i:Nat)*1) ((n:Int)-(i:Nat)) 1)where
 mem:=by simp
 obj:=λi h st b c=>by
  grind
 keep:=λi h g st k=>k it (by simp) _ st
 item:=by
  intro X r u y j i a s z H E I f st l;subst r u y;let ⟨f0,f1,f2,m,p,f5⟩:=f it (by simp);have W:=Walks.range (prog:=X.prog) (w:=X.w) (I.ok.hd j) it lo 1 n;refine W.item i s _ _ l st λv g tk B d C=>?_
  let ⟨t,rfl⟩:=B;have D:Inv X a z H {s with heap:=g,toks:=tk}:=I.turned (λb o c e=>C b o (by grind) e) f0 f1 m p f5;refine ⟨_,rfl,c0o d rfl rfl (by decide) ⟨.int (lo+i),H,D,⟨t,?_⟩,⟨rfl,rfl⟩,d,λb c=>(f b c).1⟩⟩
  grind
 done:=by
  intro X r u y j i a s z H E I f st l;let ⟨f0,f1,f2,m,p,f5⟩:=f it (by simp);exact wpAny_pyNext_range_end (I.ok.hd j) st (by have:n<=i:=l;lia) λg F=>⟨rfl,I.turned (λb o c e=>F b o c e) f0 f1 m p f5⟩
 self:=λ_ _ _ _ _ st h=>wpAny_pyIter_rangeiter st h
section
variable{X:Cx}{tg:Expr}
def f0c{R:It->Hp->Prop}{E:Z0->Y0->Prop}{lo a:Int}{t u v:Tok}{tk:Nat}(I:Inv X pins σ H s)(h1:-(2^62)<=lo)(d:lo<2^62)(f:-(2^62)<=a)(g:a<2^62)
 (q:R (Itr lo (a-lo).toNat) H):wpAny (model X.prog X.w) X.A (pyIter (.ref s.heap.objs.size)) (PIE X pins σ tg R) E {s with heap:=s.heap.push {cls:=.type "range",data:=.fields #[.int lo t,.int a u,.int 1 v]},toks:=tk}:=by
 refine wpAny_pyIter_range (IsRange.new ..) (small_one h1 d f g) ?_;have c:Inv X pins σ H {s with heap:=s.heap.push {cls:=.type "range",data:=.fields #[.int lo t,.int a u,.int 1 v]},toks:=tk}:=I.kept λb o e=>k1w _ e
 refine ⟨(s.heap.push {cls:=.type "range",data:=.fields #[.int lo t,.int a u,.int 1 v]}).objs.size,[(s.heap.push {cls:=.type "range",data:=.fields #[.int lo t,.int a u,.int 1 v]}).objs.size],_,_,H,rfl,
  c.kept (t':=tk) λb o e=>k1w _ e,c0m _ lo (a-lo).toNat,?_,λb i=>?_,q⟩
 .have e1:lo+((0:Nat):Int)*1=lo:=by simp
  have e2:(((a-lo).toNat:Nat):Int)-((0:Nat):Int)=Builtin.Range.rangeSize lo a 1:=by rw[rangeSize_one];split<;>lia
  show IsRangeIter _ _ (lo+((0:Nat):Int)*1) ((((a-lo).toNat:Nat):Int)-((0:Nat):Int)) 1;rw[e1,e2];exact k1s _ rfl
 .have e:b=(s.heap.push {cls:=.type "range",data:=.fields #[.int lo t,.int a u,.int 1 v]}).objs.size:=by simpa using i
  subst e;exact c.za3 (k1q _) (c.hok.fresh (k1q _))
def zA5(ta:TA):TI:=λσ H R=>ta σ H λvs H1=>∃j:Int,vs=[.int j]/\-(2^62)<=j/\j<2^62/\R (Itr 0 j.toNat) H1
def zA6(ta:TA):TI:=λσ H R=>ta σ H λvs H1=>∃i j:Int,vs=[.int i,.int j]/\(-(2^62)<=i/\i<2^62/\-(2^62)<=j/\j<2^62)/\R (Itr i (j-i).toNat) H1
def a0z{a:Expr}{d:TA}{p:Pos}(f:Gl X "range")(hm:X.mg "range"=none)(ha:PA X [a] d)(hs:R0 [a] X.env=[(false,eval a X.env)]:=by rfl):PI X tg (.Call (.Name "range" p) [a] [] pos) (zA5 d):=by
 intro b s g H R I h;refine Call_ (x0u I f hm boot_range (i1y (thn (ha pos b s g H _ I h) λn o zz=>?_) hs rfl));let ⟨u,v,i,k,c⟩:=zz;let ⟨j,e,c,l,q⟩:=c;subst e;cases k with
 |cons r m=>
  cases m;let ⟨t,rfl⟩:=r;exact call_range_1 (f0c i (by lia) (by lia) c l (by grind))
def a0y{a b:Expr}{k:TA}{p pos:Pos}(l:Gl X "range")(hm:X.mg "range"=none)(ha:PA X [a,b] k)(hs:R0 [a,b] X.env=[(false,eval a X.env),(false,eval b X.env)]:=by rfl)(d:R0 [b] X.env=[(false,eval b X.env)]:=by rfl):
 PI X tg (.Call (.Name "range" p) [a,b] [] pos) (zA6 k):=by
 intro c s m H R I h;refine Call_ (x0u I l hm boot_range (i1y (thn (ha pos c s m H _ I h) λy z ⟨B,C,n,o,f⟩=>?_) (by grind) (by rw[d];rfl)));let ⟨i,j,e,⟨f,u,q3,v⟩,q⟩:=f;subst e;cases o with
 |cons r g=>
  cases g with
  |cons w g=>
   cases g;let ⟨t,rfl⟩:=r;let ⟨D,rfl⟩:=w;exact call_range_2 (f0c n f u q3 v q)
def tFor(wi:TI)(g:TG)(tb:TS):TS:=λD σ H=>wi σ H λJ H1=>∃W:Nat->Nat->St->Hp->Prop,(∃m,W 0 m σ H1)/\∀i m σ H,W i m σ H->
 (J.stop i H/\D.nx σ H)\/(J.go i H/\∃N:St->Hp->Prop,(∀ σ' H',N σ' H'->∃m',m'<m/\W (i+1) m' σ' H')/\∀x H',J.yld i H x H'->g x σ H' λσ2 H2=>tb {D with nx:=N,ct:=N,bk:=D.nx} σ2 H2)
def k0u(fp:List X0)(h:J0):List (X0×Obj):=fp.filterMap λb=>(h.get? b).map λo=>(b,o)
def u9{o:Obj}(a:b∈fp)(e:h.get? b=some o):(b,o)∈k0u fp h:=b1y.mpr ⟨b,a,by rw[e];rfl⟩
def a0x{p:X0×Obj}(a:p∈k0u fp h):p.1∈fp/\h.get? p.1=some p.2:=by
 let ⟨b,c,e⟩:=b1y.mp a;cases q:h.get? b with
 |none=>rw[q]at e;cases e
 |some o=>
  grind
def Inv.pinned(I:Inv X pins σ H s)(a:∀b∈fp,zd4 X pins H b)(ho:∀b∈fp,∃o,s.heap.get? b=some o/\∀v,o.data≠.cell v):Inv X (pins++k0u fp s.heap) σ H s:=
 I.zc0 λp c=>(j1g.mp c).elim (λz=>I.pin p (j1s _ z)) λz=>by
  let ⟨d,e⟩:=a0x z;let ⟨f0,f1,f2,_⟩:=a p.1 d
  grind
def Inv.zt7{a:List (X0×Obj)}(I:Inv X (pins++a) σ H s):Inv X pins σ H s:=I.zc0 λp b=>I.pin p (j1s _ (i1s _ b))
def zS1{iter:Expr}{body:List Y1}{Z:TI}{g:TG}{tb:TS}{pos:Pos}(F:PassesOwn (model X.prog X.w) X.A X.env X.xe)(hc:X.calm=true)(hi:PI X tg iter Z)(hg:PG X tg g)(j:PSs X body tb)
 (hs:∀x,foldedSetIterable iter X.env x=pure x:=by intro _;rfl):PS X (.For tg iter body [] pos) (tFor Z g tb):=by
 intro a s σ H D I h;refine wpAny_For (thn (hi a s σ H _ I h) λv s1 h1=>thn h1 λaa s2 h2=>?_) hs;let ⟨it,fp,tn,J,H2,e,I2,T,Q,f2,W,⟨m0,w0⟩,G⟩:=h2;subst e;have k:∀{z:Hp},(∀b∈fp,z b=none)->∀b∈fp,zd4 X a z b:=λhn b j=>⟨hn b j,(f2 b j).2⟩
 refine codeAny_forLoop_any (λn s'=>∃i l z,Inv X a l z s'/\tn i s'.heap/\(∀b∈fp,z b=none)/\W i n l z) ?_ m0 ⟨0,σ,H2,I2,Q,λb j=>(f2 b j).1,w0⟩;rintro n s3 ⟨i,p,P,I3,L,M,w3⟩;rcases G i n p P w3 with ⟨stop,qn⟩|⟨go,N,hN,step⟩
 .refine N4 F (thn (T.done X rfl rfl rfl hc i a s3 p P X.xe I3 (k M) L stop) λr s4 zz=>?_);let ⟨hr,I4⟩:=zz;subst hr;exact K5 ⟨p,P,I4,qn⟩
 .refine N4 F (thn (T.item X rfl rfl rfl hc i a s3 p P X.xe I3 (k M) L go) λr s4 zy=>?_);let ⟨u,hr,h4⟩:=zy;subst hr;refine N4 F (thn h4 λ_ s5 zx=>?_);let ⟨x,H5,I5,r5,y5,C,R⟩:=zx;have S:=I5.pinned (k R) (T.obj _ _ C);refine N4 F (thn (hg _ s5 p H5 x u _ S r5 (step x H5 y5)) λ_ s6 zw=>?_);let ⟨U,H6,I6,q6⟩:=zw;refine N4 F (thn (j _ s6 U H6 _ I6 q6) λf V B=>?_);have again:∀{c:St} {t:Hp},Inv X (a++k0u fp s5.heap) c t V->N c t->∃m,m<n/\∃i l z,Inv X a l z V/\tn i V.heap/\(∀b∈fp,z b=none)/\W i m l z:=λ{c t} y O=>by
   let ⟨m',hm,w7⟩:=hN c t O;refine ⟨m',hm,i+1,c,t,y.zt7,T.keep _ _ _ C λb j o e=>(y.pin (b,o) (j1s _ (j1s _ (u9 j e)))).1,λb j=>?_,w7⟩;let ⟨o,e,d⟩:=T.obj _ _ C b j;exact (y.pin (b,o) (j1s _ (j1s _ (u9 j e)))).2.1
  cases f with
  |next=>let ⟨c,t,y,O⟩:=B;exact again y O
  |cont=>let ⟨c,t,y,O⟩:=B;exact again y O
  |brk=>let ⟨c,t,y,B⟩:=B;exact ⟨c,t,y.zt7,B⟩
  |ret v=>let ⟨x7,c,t,y,r7,B⟩:=B;exact ⟨x7,c,t,y.zt7,r7,B⟩
end
abbrev R2:=V->V->Hp->VK->Prop
def OpR(X:Cx)(f:Z0->Z0->Sem Z0)(r:R2):Prop:=
 ∀(pins:List (X0×Obj)) (s:Y0) (σ:St) (H:Hp) (x y:V) (v u:Z0) (Q:VK),Inv X pins σ H s->RelV x v->RelV y u->r x y H Q->
  wpAny (model X.prog X.w) X.A (f v u) (EP X pins σ Q) X.xe s
def UnR(X:Cx)(f:Z0->Sem Z0)(r:V->Hp->VK->Prop):Prop:=
 ∀(pins:List (X0×Obj)) (s:Y0) (σ:St) (H:Hp) (x:V) (v:Z0) (Q:VK),Inv X pins σ H s->RelV x v->r x H Q->
  wpAny (model X.prog X.w) X.A (f v) (EP X pins σ Q) X.xe s
def x0t(X:Cx)(f:Z0)(r:List V->Hp->VK->Prop):Prop:=
 ∀(pins:List (X0×Obj)) (s:Y0) (σ:St) (H:Hp) (xs:List V) (us:List Z0) (Q:VK),Inv X pins σ H s->zy8 xs us->r xs H Q->
  wpAny (model X.prog X.w) X.A (call f us) (EP X pins σ Q) X.xe s
def tOp(r:R2)(ta tb:TE):TE:=λσ H Q=>ta σ H λx H1=>tb σ H1 λy H2=>r x y H2 Q
def tUn(r:V->Hp->VK->Prop)(ta:TE):TE:=λσ H Q=>ta σ H λx H1=>r x H1 Q
def rI(C:Int->Int->Prop)(g:Int->Int->V):R2:=λx y H Q=>∃i j,x=.int i/\y=.int j/\C i j/\Q (g i j) H
def rI0(g:Int->Int->V):R2:=λx y H Q=>∃i j,x=.int i/\y=.int j/\Q (g i j) H
def rU(g:Int->V):V->Hp->VK->Prop:=λx H Q=>∃i,x=.int i/\Q (g i) H
section
variable{X:Cx}{a b:Expr}{ta tb:TE}{pos:Pos}
def zA7(ha:PE X a ta)(j:PE X b tb){R:V->V->Hp->Prop}(I:Inv X pins σ H s)
 (h:ta σ H λx g=>tb σ g λy c=>R x y c) {Q:Z0->Y0->Prop} {f:Z0->Z0->Sem Z0}
 (n:∀v u i x y c,Inv X pins σ c i->RelV x v->RelV y u->R x y c->wpAny (model X.prog X.w) X.A (f v u) Q X.xe i):
 wpAny (model X.prog X.w) X.A (eval a X.env) (λv d=>wpAny (model X.prog X.w) X.A (eval b X.env) (λu e=>wpAny (model X.prog X.w) X.A (f v u) Q X.xe e) X.xe d) X.xe s:=by
 refine thn (ha pins s σ H _ I h) λv k zz=>?_;let ⟨x,g,l,o,m⟩:=zz
 refine thn (j pins k σ g _ l m) λu i zy=>?_;let ⟨y,c,I2,p,r⟩:=zy
 grind
def zA8{op:Operator}(ho:OpR X (K3 op) r)(ha:PE X a ta)(d:PE X b tb):PE X (.BinOp a op b pos) (tOp r ta tb):=by
 intro c s e H Q I h;exact wpAny_BinOp (zA7 ha d I h λv u f x y g I2 i j q=>ho c f e g x y v u Q I2 i j q)
def zA9{op:UnaryOp}{r:V->Hp->VK->Prop}(ho:UnR X (unaryOp op) r)(ha:PE X a ta):PE X (.UnaryOp op a pos) (tUn r ta):=by
 intro b s c H Q I h;exact UnaryOp_ (thn (ha b s c H _ I h) λv d zz=>by let ⟨x,e,f,g,i⟩:=zz;exact ho b d c e x v Q f g i)
def opI{f:Z0->Z0->Sem Z0}{C:Int->Int->Prop}{g:Int->Int->Int}
 (rule:∀(i j:Int) (t u:Tok) (s:Y0) (Q:Z0->Y0->Prop) (E:Z0->Y0->Prop),C i j->Q (.int (g i j) s.toks) {s with toks:=s.toks+1}->wpAny (model X.prog X.w) X.A (f (.int i t) (.int j u)) Q E s):
 OpR X f (rI C λi j=>.int (g i j)):=by
 intro a s k H x y v u Q I b c h;let ⟨i,j,rfl,rfl,d,q⟩:=h;let ⟨t,rfl⟩:=b;let ⟨e,rfl⟩:=c;exact rule i j t e s _ _ d ⟨.int (g i j),H,I.tok _,⟨_,rfl⟩,q⟩
def opI0{f:Z0->Z0->Sem Z0}{g:Int->Int->Int}
 (rule:∀(i j:Int) (t u:Tok) (s:Y0) (Q:Z0->Y0->Prop) (E:Z0->Y0->Prop),Q (.int (g i j) s.toks) {s with toks:=s.toks+1}->wpAny (model X.prog X.w) X.A (f (.int i t) (.int j u)) Q E s):
 OpR X f (rI0 λi j=>.int (g i j)):=by
 intro a s e H x y v u Q I b c h;let ⟨i,j,rfl,rfl,q⟩:=h;let ⟨t,rfl⟩:=b;let ⟨d,rfl⟩:=c;exact rule i j t d s _ _ ⟨.int (g i j),H,I.tok _,⟨_,rfl⟩,q⟩
def zC1{f:Z0->Z0->Sem Z0}{g:Int->Int->Bool}
 (rule:∀(i j:Int) (t u:Tok) (s:Y0) (Q:Z0->Y0->Prop) (E:Z0->Y0->Prop),Q (.bool (g i j)) s->wpAny (model X.prog X.w) X.A (f (.int i t) (.int j u)) Q E s):
 OpR X f (rI0 λi j=>.bl (g i j)):=by
 intro a s e H x y v u Q I b c h;let ⟨i,j,rfl,rfl,q⟩:=h;let ⟨t,rfl⟩:=b;let ⟨d,rfl⟩:=c;exact rule i j t d s _ _ ⟨.bl (g i j),H,I,rfl,q⟩
def zC2(i j:Int):Prop:=0<j/\j<1073741824
def z00(i j:Int):Prop:=0<=j/\j<=1000000/\i.natAbs<2^64
def zV2(i j:Int):Prop:=(-(2^64)<i/\i<2^64)\/(-(2^64)<j/\j<2^64)
def zV2.ok{i j:Int}(h:zV2 i j):IntMulOk i j:=by
 rcases h with ⟨a,b⟩|⟨a,b⟩
 .exact .of_left (intBits_le_64 a b)
 .exact .of_right (intBits_le_64 a b)
def zS2:OpR X (K3 .Add) (rI0 λi j=>.int (i+j)):=opI0 λ_ _ _ _ _ _ _ q=>add_int q
def r1q:OpR X (K3 .Sub) (rI0 λi j=>.int (i-j)):=opI0 λ_ _ _ _ _ _ _ q=>sub_int q
def a0w:OpR X (K3 .Mult) (rI zV2 λi j=>.int (i*j)):=opI λ_ _ _ _ _ _ _ a q=>mul_int q a.ok
def p1o:OpR X (K3 .FloorDiv) (rI zC2 λi j=>.int (i/j)):=opI λi j _ _ _ _ _ a q=>by
 have b:(0:Int)<j:=a.1;have c:j<1073741824:=a.2;exact floordiv_int (by lia) (by rw[Int.fdiv_eq_ediv_of_nonneg i (by lia)];exact q) (.inl (PyProof.noPylong_small (by lia)))
def r1p:OpR X (K3 .Mod) (rI (λ_ j=>0<j) λi j=>.int (i%j)):=opI λi j _ _ _ _ _ a q=>by
 have b:(0:Int)<j:=a;exact mod_int' (by lia) (by rw[Int.fmod_eq_emod_of_nonneg i (by lia)];exact q)
def zS3:OpR X (K3 .Pow) (rI z00 λi j=>.int (i^j.toNat)):=opI λ_ _ _ _ _ _ _ a q=>pow_int_small a.1 a.2.1 a.2.2 q
def unI{f:Z0->Sem Z0}{g:Int->Int}
 (rule:∀(i:Int) (t:Tok) (s:Y0) (Q:Z0->Y0->Prop) (E:Z0->Y0->Prop),Q (.int (g i) s.toks) {s with toks:=s.toks+1}->wpAny (model X.prog X.w) X.A (f (.int i t)) Q E s):
 UnR X f (rU λi=>.int (g i)):=by
 intro a s c H x v Q I b h;let ⟨i,rfl,q⟩:=h;let ⟨t,rfl⟩:=b;exact rule i t s _ _ ⟨.int (g i),H,I.tok _,⟨_,rfl⟩,q⟩
def zS4:UnR X (unaryOp .USub) (rU λi=>.int (-i)):=unI λ_ _ _ _ _ q=>neg_int q
end
def z01:V->V->Bool
 | .non,.non=>true | .non,.int _=>true | .int _,.non=>true | .non,.bl _=>true | .bl _,.non=>true | .non,.str _=>true | .str _,.non=>true
 | .int _,.int _=>true | .bl _,.bl _=>true | .str _,.str _=>true | .byt _,.byt _=>true
 | .int _,.str _=>true | .str _,.int _=>true | .bl _,.str _=>true | .str _,.bl _=>true
 |_,_=>false
def rEq:R2:=λx y H Q=>z01 x y=true/\Q (.bl (decide (x=y))) H
def rNe:R2:=λx y H Q=>z01 x y=true/\Q (.bl (!decide (x=y))) H
def a0v{i j:Int}:decide (V.int i=V.int j)=(i==j):=by grind
def r1o{i j:Bool}:decide (V.bl i=V.bl j)=(i==j):=by grind
def a0u{i j:Str}:decide (V.str i=V.str j)=(i==j):=by grind
def a0t{i j:Array UInt8}:decide (V.byt i=V.byt j)=(i.toList==j.toList):=by
 rw[a1p]
 simp_all
section
variable{X:Cx}{a b c:Expr}{ta tb tc:TE}{pos:Pos}
def x5{Q:VK}{k a:Bool}(I:Inv X pins σ H s)(q:Q (.bl k) H)(e:k=a):EP X pins σ Q (.bool a) s:=by
 subst e;exact ⟨.bl k,H,I,rfl,q⟩
def z02:OpR X (R1 .Eq) rEq:=by
 intro d s e H x y v u Q I c a h;let ⟨hs,q⟩:=h;cases x with
 |non=>
  cases c;cases y with
  |non=>cases a;exact PySem.EqNone.eq_none_none (x5 I q (by simp))
  |bl j=>cases a;exact PySem.EqNone.eq_none_bool (x5 I q (by simp))
  |int j=>let ⟨b,rfl⟩:=a;exact PySem.EqNone.eq_none_int (x5 I q (by simp))
  |str j=>let ⟨b,rfl⟩:=a;exact PySem.EqNone.eq_none_str (x5 I q (by simp))
  |_=>exact absurd hs k1j
 |bl i=>
  cases c;cases y with
  |non=>cases a;exact PySem.EqNone.eq_bool_none (x5 I q (by simp))
  |bl j=>cases a;exact eq_bool (x5 I q r1o)
  |str j=>let ⟨b,rfl⟩:=a;exact PySem.EqMixed.eq_bool_str (x5 I q (by simp))
  |_=>exact absurd hs k1j
 |int i=>
  let ⟨t,rfl⟩:=c;cases y with
  |non=>cases a;exact PySem.EqNone.eq_int_none (x5 I q (by simp))
  |int j=>let ⟨b,rfl⟩:=a;exact eq_int (x5 I q a0v)
  |str j=>let ⟨b,rfl⟩:=a;exact PySem.EqMixed.eq_int_str (x5 I q (by simp))
  |_=>exact absurd hs k1j
 |str i=>
  let ⟨t,rfl⟩:=c;cases y with
  |non=>cases a;exact PySem.EqNone.eq_str_none (x5 I q (by simp))
  |bl j=>cases a;exact PySem.EqMixed.eq_str_bool (x5 I q (by simp))
  |int j=>let ⟨b,rfl⟩:=a;exact PySem.EqMixed.eq_str_int (x5 I q (by simp))
  |str j=>let ⟨b,rfl⟩:=a;exact eq_str (x5 I q a0u)
  |_=>exact absurd hs k1j
 |byt i=>
  let ⟨t,rfl⟩:=c;cases y with
  |byt j=>let ⟨b,rfl⟩:=a;exact PySem.W.eq_bytes (x5 I q a0t)
  |_=>exact absurd hs k1j
 |_=>cases y<;>exact absurd hs k1j
def z03:OpR X (R1 .NotEq) rNe:=by
 intro d s e H x y v u Q I c a h;let ⟨hs,q⟩:=h;cases x with
 |non=>
  cases c;cases y with
  |non=>cases a;exact PySem.EqNone.ne_none_none (x5 I q (by simp))
  |bl j=>cases a;exact PySem.EqNone.ne_none_bool (x5 I q (by simp))
  |int j=>let ⟨b,rfl⟩:=a;exact PySem.EqNone.ne_none_int (x5 I q (by simp))
  |str j=>let ⟨b,rfl⟩:=a;exact PySem.EqNone.ne_none_str (x5 I q (by simp))
  |_=>exact absurd hs k1j
 |bl i=>
  cases c;cases y with
  |non=>cases a;exact PySem.EqNone.ne_bool_none (x5 I q (by simp))
  |bl j=>cases a;exact ne_bool (x5 I q (congrArg not r1o))
  |str j=>let ⟨b,rfl⟩:=a;exact PySem.EqMixed.ne_bool_str (x5 I q (by simp))
  |_=>exact absurd hs k1j
 |int i=>
  let ⟨t,rfl⟩:=c;cases y with
  |non=>cases a;exact PySem.EqNone.ne_int_none (x5 I q (by simp))
  |int j=>let ⟨b,rfl⟩:=a;exact ne_int (x5 I q (congrArg not a0v))
  |str j=>let ⟨b,rfl⟩:=a;exact PySem.EqMixed.ne_int_str (x5 I q (by simp))
  |_=>exact absurd hs k1j
 |str i=>
  let ⟨t,rfl⟩:=c;cases y with
  |non=>cases a;exact PySem.EqNone.ne_str_none (x5 I q (by simp))
  |bl j=>cases a;exact PySem.EqMixed.ne_str_bool (x5 I q (by simp))
  |int j=>let ⟨b,rfl⟩:=a;exact PySem.EqMixed.ne_str_int (x5 I q (by simp))
  |str j=>let ⟨b,rfl⟩:=a;exact ne_str (x5 I q (congrArg not a0u))
  |_=>exact absurd hs k1j
 |byt i=>
  let ⟨t,rfl⟩:=c;cases y with
  |byt j=>let ⟨b,rfl⟩:=a;exact PySem.W.ne_bytes (x5 I q (congrArg not a0t))
  |_=>exact absurd hs k1j
 |_=>cases y<;>exact absurd hs k1j
def z04:OpR X (R1 .Lt) (rI0 λi j=>.bl (decide (i<j))):=zC1 λ_ _ _ _ _ _ _ q=>lt_int q
def z05:OpR X (R1 .LtE) (rI0 λi j=>.bl (decide (i<=j))):=zC1 λ_ _ _ _ _ _ _ q=>le_int q
def zS5:OpR X (R1 .Gt) (rI0 λi j=>.bl (decide (j<i))):=zC1 λ_ _ _ _ _ _ _ q=>gt_int q
def z06:OpR X (R1 .GtE) (rI0 λi j=>.bl (decide (j<=i))):=zC1 λ_ _ _ _ _ _ _ q=>ge_int q
def zS6:OpR X (R1 .Is) (λx y H Q=>y=.non/\Q (.bl (decide (x=.non))) H):=by
 intro a s d H x y v u Q I b c h;let ⟨rfl,q⟩:=h;cases c;refine is_none_gen (x5 I q ?_);cases x<;>first
  |(cases b;rfl)
  |(let ⟨t,rfl⟩:=b;rfl)
def p1n:OpR X (R1 .IsNot) (λx y H Q=>y=.non/\Q (.bl (!decide (x=.non))) H):=by
 intro a s d H x y v u Q I b c h;let ⟨rfl,q⟩:=h;cases c;refine isnot_none_gen (x5 I q ?_);cases x<;>first
  |(cases b;rfl)
  |(let ⟨t,rfl⟩:=b;rfl)
def nomark(b:Expr)(h:op≠.In:=by decide)(a:op≠.NotIn:=by decide):O4 op b=false:=by
 have e1:(op==CmpOp.In)=false:=by cases op<;>first |rfl |exact absurd rfl h
 have e2:(op==CmpOp.NotIn)=false:=by cases op<;>first |rfl |exact absurd rfl a
 cases b<;>simp[O4,e1,e2]
def p1m(ho:OpR X (R1 op) r)(ha:PE X a ta)(d:PE X b tb)(hm:O4 op b=false):PE X (.Compare a [op] [b] pos) (tOp r ta tb):=by
 intro c s e H Q I h;exact wpAny_Compare1 (zA7 ha d I h λv u f x y g I2 i j q=>ho c f e g x y v u Q I2 i j q) hm
def zS7(t:TE):TT:=λσ H Q=>t σ H λx H'=>∃k,x=.bl k/\Q k H'
def p1l(ho:OpR X (R1 op) r)(ha:PE X a ta)(g:PE X b tb)(hm:O4 op b=false):PT X (.Compare a [op] [b] pos) (zS7 (tOp r ta tb)):=by
 intro d s f H Q I h;refine wpAny_isTrue_Compare1 (thn (ha d s f H _ I h) λv i ⟨x,j,l,m,n⟩=>thn (g d i f j _ l n) λu o ⟨y,p,I2,t,w⟩=>
  thn (ho d o f p x y v u _ I2 m t w) λc F zz=>?_) hm;let ⟨z,B,C,D,k,e,q3⟩:=zz
 subst e;cases D;exact J1 ⟨B,C,q3⟩
def a0s(r r':R2)(ta tb tc:TE):TE:=λσ H Q=>ta σ H λx H1=>tb σ H1 λy H2=>r x y H2 λz H3=>∃k,z=.bl k/\
 (if k=true then tc σ H3 λw' H4=>r' y w' H4 Q else Q (.bl false) H3)
def v1n{g:CmpOp}{l:R2}(ho:OpR X (R1 op) r)(j:OpR X (R1 g) l)(ha:PE X a ta)(p:PE X b tb)(t:PE X c tc)
 (hm:lastMarks [op,g] [b,c]=false:=by with_unfolding_all rfl):PE X (.Compare a [op,g] [b,c] pos) (a0s r l ta tb tc):=by
 intro f s i H Q I h;refine Compare_chain (thn (ha f s i H _ I h) λv w ⟨x,B,C,D,F⟩=>chain_link (thn (p f w i B _ C F) λu G ⟨y,J,I2,m,L⟩=>
  thn (ho f G i J x y v u _ I2 D m L) λd M zz=>?_)) hm;let ⟨z,n,o,N,k,e,q3⟩:=zz
 subst e;cases N;refine J1 ?_;cases k with
 |false=>exact ite_ff ⟨.bl false,n,o,rfl,q3⟩
 |true=>exact ite_tt (chain_last (thn (t f M i n _ o q3) λO P ⟨R,S,U,V,W⟩=>j f P i S y R u O Q U m V W))
def v1m{g:CmpOp}{l:R2}(ho:OpR X (R1 op) r)(j:OpR X (R1 g) l)(ha:PE X a ta)(p:PE X b tb)(t:PE X c tc)
 (hm:lastMarks [op,g] [b,c]=false:=by with_unfolding_all rfl):PT X (.Compare a [op,g] [b,c] pos) (zS7 (a0s r l ta tb tc)):=by
 intro f s i H Q I h;refine isTrue_chain (thn (ha f s i H _ I h) λv w ⟨x,B,C,D,F⟩=>test_link (thn (p f w i B _ C F) λu G ⟨y,J,I2,m,L⟩=>
  thn (ho f G i J x y v u _ I2 D m L) λd M zz=>?_)) hm;let ⟨z,n,o,N,k,e,q3⟩:=zz
 subst e;cases N;refine J1 ?_;cases k with
 |false=>
  let ⟨k',O,P⟩:=q3;cases O;exact ite_ff ⟨n,o,P⟩
 |true=>
  refine ite_tt (test_last (thn (t f M i n _ o q3) λR S ⟨U,V,W,Z,q4⟩=>thn (j f S i V y U u R _ W m Z q4) λd' s5 zy=>?_));let ⟨z2,H5,I5,r5,k2,e2,q5⟩:=zy;subst e2;cases r5;exact J1 ⟨H5,I5,q5⟩
def k0t:(sizeLine:Nat)<2^63:=by rw[U2];decide
def c0l{x:V}(r:zy8 [x] us):∃u,us=[u]/\RelV x u:=by
 cases r with
 |cons a b=>cases b;exact ⟨_,rfl,a⟩
def vals2{x:V}(r:zy8 [x,y] us):∃u a,us=[u,a]/\RelV x u/\RelV y a:=by
 cases r with
 |cons b c=>
  cases c with
  |cons d e=>cases e;exact ⟨_,_,rfl,b,d⟩
def v1l:x0t X (.builtin "abs") (λxs H Q=>∃i,xs=[.int i]/\Q (.int (if i<0 then -i else i)) H):=by
 intro a s b H xs c Q I r h;let ⟨i,rfl,q⟩:=h;let ⟨u,rfl,t,rfl⟩:=c0l r;exact call_abs_int λu tk=>⟨.int (if i<0 then -i else i),H,I.tok _,⟨_,rfl⟩,q⟩
def k0s(c:X.calm=true):x0t X (.builtin "min") (λxs H Q=>∃i j,xs=[.int i,.int j]/\Q (.int (if j<i then j else i)) H):=by
 intro b s d H xs e Q I r h;let ⟨i,j,rfl,q⟩:=h;let ⟨u,f,rfl,⟨t,rfl⟩,⟨g,rfl⟩⟩:=vals2 r;refine min_two_ints (I.ok.hd c) λl tk k=>⟨_,H,I.kept k,?_,q⟩
 by_cases a:j<i
 .rw[H0 a,H0 a];exact ⟨_,rfl⟩
 .rw[O0 a,O0 a];exact ⟨_,rfl⟩
def k0r:x0t X (.type "int") (λxs H Q=>(∃i,xs=[.int i]/\Q (.int i) H)\/∃k,xs=[.bl k]/\Q (.int (if k then 1 else 0)) H):=by
 intro a s c H xs d Q I r h;rcases h with ⟨i,rfl,q⟩|⟨k,rfl,q⟩
 .let ⟨u,rfl,t,rfl⟩:=c0l r;exact call_int_int ⟨.int i,H,I,⟨_,rfl⟩,q⟩
 .let ⟨u,rfl,b⟩:=c0l r;cases b;exact call_int_bool ⟨.int (if k then 1 else 0),H,I.tok _,⟨_,rfl⟩,q⟩
end
structure zV3(h:J0)(x dx C:X0)(mA:Str->Option Z0):Prop where
 obj:h.get? x=some (PySem.W.instObj C dx)
 ns:h.Ns1 dx mA
 ne:dx≠x
def q0b{c:X0}{d:Str->Option Z0}(n:h.Ns1 c d):∃f,h.get? c=some f/\∀name,PySem.W.lookIn name f=some (d name):=by
 let ⟨o,g,k,ho,hd,i,_,hm⟩:=n;refine ⟨o,ho,λname=>?_⟩;have e:=hm name;unfold nsFind findBy at e;rw[<-Array.find?_toList]at e;unfold PySem.W.lookIn;rw[hd];dsimp only;split
 .grind
 .rename_i q;rw[q]at e;have a:g.toList.any (·.refKey)=false:=by
   rw[List.any_eq_false];intro y j;let ⟨z,t,b⟩:=i y (g1x.mp j);simp[DictEntry.refKey,b]
  grind
def zV3.look{x b:X0}{c:Str->Option Z0}(I:zV3 h x b C c):∃a,PySem.W.InstAt h x (PySem.W.instObj C b) C (some a)/\∀name,PySem.W.lookIn name a=some (c name):=
 let ⟨a,ho,d⟩:=q0b I.ns
 ⟨a,⟨I.obj,rfl,rfl,ho⟩,d⟩
section
variable{prog:V0}{w:T0}{A:A0}{E:Z0->Y0->Prop}{s:Y0}{K:Fg}{x dx C f:X0}{mA:Str->Option Z0}{name:Str}{v:Z0}
def p1k{expr:Bool}{Q:Z0->Y0->Prop}(X:K.In s.heap)(I:zV3 s.heap x dx C mA)(b:PySem.W.plainGet K C name=true)(c:PySem.W.hasDictIn K C=true)
 (ha:PySem.W.findIn K (.ref C) name=some none) (d:mA name=some v) (a:PySem.W.handedIn v=true) (h:Q v {s with toks:=s.toks+1}):
 wpAny (model prog w) A (getAttr (.ref x) name expr) Q E s:=by
 let ⟨f,J,e⟩:=I.look;exact PySem.W.get_value X J (PySem.W.plainGet_of b).1 (c1e c ha rfl (by rw[e,d])) a h
def p1j{ns:List Str}{Q:Unit->Y0->Prop}(X:K.In s.heap)(I:zV3 s.heap x dx C mA)
 (hs:PySem.W.findIn K (.ref C) "__setattr__"=some (some (.builtin "object.__setattr__"))) (i:PySem.W.plainOver K C=true) (j:PySem.W.takerIn K C name=some none) (k:PySem.W.hasDictIn K C=true)
 (l:PySem.Within mA ns) (hsz:ns.length<=sizeLine)
 (h:∀h',zV3 h' x dx C (λy=>if y=name then some v else mA y)->Heap.SameBut dx s.heap h'->Q () {s with heap:=h',toks:=s.toks+2}):
 wpAny (model prog w) A (setAttr (.ref x) name v) Q E s:=by
 let ⟨p,J,r⟩:=I.look;refine PySem.W.set_plain X J hs (PySem.W.osa_open X J i j λb=>?_);let ⟨cd,m,d⟩:=PySem.W.any_some k;have hx:=I.obj;refine y0 (d0 (y0 (y0 (G5 hx (y0 (PySem.W.Looks.here (PySem.W.looks_clsIn X m) ?_))))));rw[d];refine d0 (y0 (d0 (y0 ?_)));refine wpAny_nsSet1 I.ns λh' a c=>?_
 let ⟨t,n,o,e,f,g⟩:=a.count (PySem.Within.cons name v l);refine y0 (wpAny_lookBehind e (by rw[f];exact pastItsLine_dict (j1o g (by grind))) ?_);exact d0 (h _ ⟨(c.2 _ (j1k I.ne)).trans I.obj,a,I.ne⟩ c)
def v1k{R:Result->Y0->Prop}{vs:List Z0}{a:List (Str×Value)}(X:K.In s.heap)(hm:PySem.W.makesIn K C=true)
 (b:PySem.W.findIn K (.ref C) "__init__"=some (some (.ref f))) (c:PySem.W.typeIn K (.ref f)=some (.type "function"))
 (h:A2 (model prog w) (A.under (.builtin "type.__call__" ⟨.ref C::vs,a⟩)) (.call (.ref f) ⟨.ref (s.heap.objs.size+1)::vs,a⟩) (PySem.W.InitBack (s.heap.objs.size+1) R)
  {s with heap:=(s.heap.push PySem.W.emptyDict).push (PySem.W.instObj C s.heap.objs.size)}):
 A2 (model prog w) A (.call (.ref C) ⟨vs,a⟩) R s:=by
 let ⟨e,g,d,t,os⟩:=s;exact PySem.W.make_core (PySem.W.makes_of X hm) (c1o X b) (λself=>a1o X self c) (.inl rfl) h
end
def zk5(f:Str)(v:V):List (Str×V)->List (Str×V)
 | []=>[(f,v)]
 |(g,x)::r=>if g=f then (g,v)::r else (g,x)::zk5 f v r
theorem v0g(f g:Str)(v:V):∀fs:List (Str×V),(zk5 f v fs).lookup g=if g=f then some v else fs.lookup g
 | []=>by
  show List.lookup g [(f,v)]=_
  grind
 |(k,x)::r=>by
  have a:=v0g f g v r;rw[show zk5 f v ((k,x)::r)=(if k=f then (k,v)::r else (k,x)::zk5 f v r)from rfl]
  grind
theorem q0a(f:Str)(v:V):∀fs:List (Str×V),f∈(zk5 f v fs).map (·.1)/\∀g,g∈fs.map (·.1)->g∈(zk5 f v fs).map (·.1)
 | []=>⟨by simp[zk5],λg h=>by simp at h⟩
 |(k,x)::r=>by
  let ⟨a,b⟩:=q0a f v r;rw[show zk5 f v ((k,x)::r)=(if k=f then (k,v)::r else (k,x)::zk5 f v r)from rfl]
  grind
theorem p0z(f:Str)(v:V):∀fs:List (Str×V),(zk5 f v fs).length<=fs.length+1
 | []=>by simp[zk5]
 |(k,x)::r=>by
  have a:=p0z f v r;rw[show zk5 f v ((k,x)::r)=(if k=f then (k,v)::r else (k,x)::zk5 f v r)from rfl]
  grind
def zk4.some_of{o:Option Z0}(r:zk4 (some v) o):∃u,o=some u/\RelV v u:=by
 cases o with
 |none=>exact r.elim
 |some u=>exact ⟨u,rfl,r⟩
def k0q(r:RelV v u):PySem.W.handedIn u=true:=by
 cases v with
 |non=>cases r;rfl
 |bl b=>cases r;rfl
 |int i=>let ⟨t,e⟩:=r;cases e;rfl
 |str x=>let ⟨t,e⟩:=r;cases e;rfl
 |byt b=>let ⟨t,e⟩:=r;cases e;rfl
 |flt b=>let ⟨t,e⟩:=r;cases e;rfl
 |ref a=>cases r;rfl
 |ty n=>cases r;rfl
section
variable{P:V0}{w:T0}{H:Hp}{h:J0}{a C dx:X0}{fs:List (Str×V)}
def h0m(hok:HOk P w H h)(e:H a=some (.ins C dx fs)):∃b,zV3 h a dx C b/\(∀f,zk4 (fs.lookup f) (b f))/\PySem.Within b (fs.map (·.1))/\fs.length<=1000/\H dx=some (.own a):=by
 let ⟨d,z,ne,ob,b,n,r,q⟩:=(hok a _ e);exact ⟨b,⟨ob,n,ne⟩,r,q,z,d⟩
end
structure Cls(K:Fg)(C:X0):Prop where
 pg:PySem.W.plainGet K C Str.empty=true
 hd:PySem.W.hasDictIn K C=true
 po:PySem.W.plainOver K C=true
 sa:PySem.W.findIn K (.ref C) "__setattr__"=some (some (.builtin "object.__setattr__"))
def Cls.get(c:Cls K C)(f:Str):PySem.W.plainGet K C f=true:=c.pg
def zy9(K:Fg)(C:X0)(f:Str):Prop:=PySem.W.findIn K (.ref C) f=some none
def zy9.zS8{f:Str}(n:zy9 K C f):PySem.W.takerIn K C f=some none:=by
 unfold PySem.W.takerIn;rw[show PySem.W.findIn K (.ref C) f=some none from n];rfl
section
variable{X:Cx}{pins:List (X0×Obj)}{σ:St}{H:Hp}{s:Y0}{a C dx:X0}{fs:List (Str×V)}{f:Str}{v:V}{A:A0}{E:Z0->Y0->Prop}
def c0k{b:Bool}{Q:Z0->Y0->Prop}(I:Inv X pins σ H s)(e:H a=some (.ins C dx fs))(c:Cls X.K C)(n:zy9 X.K C f)(l:fs.lookup f=some v)
 (h:∀u d,Inv X pins σ H d->RelV v u->Q u d):wpAny (model X.prog X.w) A (getAttr (.ref a) f b) Q E s:=by
 let ⟨j,O,r,_,_,_⟩:=h0m I.hok e;let ⟨u,i,g⟩:=zk4.some_of (by rw[<-l];exact r f);exact p1k I.kIn O (c.get f) c.hd n i (k0q g) (h u _ (I.tok _) g)
def c0j{Q:Unit->Y0->Prop}(I:Inv X pins σ H s)(e:H a=some (.ins C dx fs))(c:Cls X.K C)(n:zy9 X.K C f)(B:fs.length<1000)(k:RelV y u)
 (h:∀i,Inv X pins σ (upd H a (.ins C dx (zk5 f y fs))) i->Q () i):wpAny (model X.prog X.w) A (setAttr (.ref a) f u) Q E s:=by
 let ⟨D,O,r,j,_,ho⟩:=h0m I.hok e;have hz:(fs.map (·.1)).length<=sizeLine:=by rw[k1v,U2];lia
 refine p1j I.kIn O c.sa c.po n.zS8 c.hd j hz λl d m=>h _ ?_
 have hd:∃o,l.get? dx=some o:=let ⟨o,_,_,p,_⟩:=d.ns;⟨o,p⟩
 refine I.write (by rw[e];exact True.intro) (.inr ho) (λb q t z=>(m.2 b t).trans z) hd ?_;refine ⟨by rw[j0 O.ne];exact ho,?_,O.ne,d.obj,_,d.ns,λg=>?_,λg v=>?_⟩
 .have:=p0z f y fs;lia
 .rw[v0g];by_cases q:g=f
  .rw[H0 q,H0 q];exact k
  .grind
 .by_cases q:g=f
  .rw[q];exact (q0a f y fs).1
  .refine (q0a f y fs).2 g (j g λz=>v ?_)
   grind
def Inv.made(I:Inv X pins σ H s):Inv X pins σ (upd (upd H s.heap.objs.size (.own (s.heap.objs.size+1))) (s.heap.objs.size+1) (.ins C s.heap.objs.size []))
 {s with heap:=(s.heap.push PySem.W.emptyDict).push (PySem.W.instObj C s.heap.objs.size)}:=by
 have e1:(s.heap.push PySem.W.emptyDict).get? s.heap.objs.size=some PySem.W.emptyDict:=k1s s.heap rfl;have e2:((s.heap.push PySem.W.emptyDict).push (PySem.W.instObj C s.heap.objs.size)).get? (s.heap.objs.size+1)=some (PySem.W.instObj C s.heap.objs.size):=by
  have:=k1s (s.heap.push PySem.W.emptyDict) (o:=PySem.W.instObj C s.heap.objs.size) rfl
  rwa[j1j]at this
 have e3:(s.heap.push PySem.W.emptyDict).Ns s.heap.objs.size (λ_=>none):=⟨PySem.W.emptyDict,#[],_,e1,rfl,(λe c=>absurd c (by simp)),λ_=>rfl⟩;have d:=I.laid (a:=s.heap.objs.size) (o:=.own (s.heap.objs.size+1)) (h':=s.heap.push PySem.W.emptyDict) (t':=s.toks) (λb u q=>k1w _ q) (k1q _) ⟨_,e1⟩;refine d.laid (a:=s.heap.objs.size+1) (o:=.ins C s.heap.objs.size []) (t':=s.toks) (λb u q=>k1w _ q) (e1c (j1j _ _)) ?_;have ne:s.heap.objs.size≠s.heap.objs.size+1:=k1i (h1r _);refine ⟨by rw[j0 ne,j3],j1e _,ne,e2,λ_=>none,(b1t e3).at λo q=>k1w _ q,λ_=>True.intro,λy f=>absurd rfl f⟩
def a0r{prog:V0}{w:T0}{env:Env}{f:Str}{pos:Pos}{s:Y0}{Q:Z0->Y0->Prop}(b:U1 e f env (eval e env)=eval e env)
 (h:wpAny (model prog w) A (eval e env) (λo a=>wpAny (model prog w) A (getAttr o f true) Q E a) E s):wpAny (model prog w) A (eval (.Attribute e f pos) env) Q E s:=
 Attribute_any_ h (by rw[arm_eval_Attribute,b])
end
def tFld(K:Fg)(ta:TE)(f:Str):TE:=λσ H Q=>ta σ H λx H1=>∃a C dx fs v,x=.ref a/\H1 a=some (.ins C dx fs)/\Cls K C/\zy9 K C f/\fs.lookup f=some v/\Q v H1
def sFld(K:Fg)(ta tv:TE)(f:Str):TS:=λD σ H=>tv σ H λy H1=>ta σ H1 λx H2=>∃a C dx fs,x=.ref a/\H2 a=some (.ins C dx fs)/\Cls K C/\zy9 K C f/\fs.length<1000/\
 D.nx σ (upd H2 a (.ins C dx (zk5 f y fs)))
section
variable{X:Cx}{o e value:Expr}{f:Str}{pos pos':Pos}{ta tv:TE}
def zS9(d:PE X e ta)(g:U1 e f X.env (eval e X.env)=eval e X.env):PE X (.Attribute e f pos) (tFld X.K ta f):=by
 intro b s i H Q I h;refine a0r g (thn (d b s i H _ I h) λu r zz=>?_);let ⟨x,j,k,m,a,C,t,fs,v,ex,o,c,n,l,q⟩:=zz;subst ex;obtain rfl:u=Value.ref a:=m;exact c0k k o c n l λw y I2 p=>⟨v,j,I2,p,q⟩
def zR0(ha:PE X o ta)(e:PE X value tv)(hs:B2 value (some (.Attribute o f pos')) pos.line X.env=pure false):PS X (.Assign [.Attribute o f pos'] value pos) (sFld X.K ta tv f):=by
 intro b s d H D I h;refine W5 (thn (e b s d H _ I h) λu g ⟨y,i,j,k,q⟩=>thn (ha b g d i _ j q) λm w zz=>?_) hs;let ⟨x,z,I2,p,a,C,B,fs,ex,r,c,n,l,t⟩:=zz;subst ex;obtain rfl:m=Value.ref a:=p;exact c0j I2 r c n l k λF v=>⟨d,_,v,t⟩
end
section
variable{H:Hp}
inductive zf2(K:Fg)(H:Hp):V->Z0->Prop where
 |non:zf2 K H .non (.type "NoneType")
 |bl (x:Bool):zf2 K H (.bl x) (.type "bool")
 |int (i:Int):zf2 K H (.int i) (.type "int")
 |str (x:Str):zf2 K H (.str x) (.type "str")
 |flt (x:UInt64):zf2 K H (.flt x) (.type "float")
 |lst {a:X0} {xs:List V} (e:H a=some (.lst xs)):zf2 K H (.ref a) (.type "list")
 |frz {a:X0} {o:Obj} {xs:List V} (e:H a=some (.frz o (.lst xs))):zf2 K H (.ref a) (.type "list")
 |tup {a:X0} {xs:List V} (e:H a=some (.tup xs)):zf2 K H (.ref a) (.type "tuple")
 |dK {a:X0} {kvs:List (Key×V)} (e:H a=some (.dK kvs)):zf2 K H (.ref a) (.type "dict")
 |dT {a:X0} {kvs:List (List Key×V)} {G:X0->Prop} (e:H a=some (.dT kvs G)):zf2 K H (.ref a) (.type "dict")
 |ins {a C dx:X0} {fs:List (Str×V)} (e:H a=some (.ins C dx fs)) (cl:Cls K C) (ha:PySem.W.findIn K (.ref C) "__class__"=some (some (.builtin "object.__class__")))
  (hn:PySem.W.specialIn K (.builtin "object.__class__") "__get__"=some (some (.builtin "getset_descriptor.__get__"))) (htk:PySem.W.takesIn K (.builtin "object.__class__")=some true)
  (hm:PySem.W.mroIn K C (.type "object")=some true):zf2 K H (.ref a) (.ref C)
end
structure zu7(k:Nat)(A:A0):Prop where
 hd:A.handled=none
 dp:A.depth+3*k+5<recursionLimit
 un:A.units+16*k+200<O2
def zu7.mono{j:Nat}(r:zu7 k A)(h:j<=k):zu7 j A:=⟨r.hd,by have:=r.dp;lia,by have:=r.un;lia⟩
def zu7.m{j:Nat}(r:zu7 k A)(h:j<=k:=by decide):zu7 j A:=r.mono h
theorem zu7.deeper(r:zu7 (k+1) A)(env:Env):zu7 k (A.deeper env):=
 ⟨r.hd,by have:=r.dp;show A.depth+1+3*k+5<_;lia,by have:=r.un;show A.units+3+16*k+200<_;lia⟩
def c0i{a:List (Str×Value)}:(A.under (.builtin "type.__call__" ⟨.ref C::us,a⟩)).depth=A.depth+1:=rfl
def c0h{a:List (Str×Value)}:(A.under (.builtin "type.__call__" ⟨.ref C::us,a⟩)).units=A.units+1:=rfl
def zu7.make(r:zu7 (k+1) A)(C:X0)(us:List Z0)(a:List (Str×Value)):zu7 k (A.under (.builtin "type.__call__" ⟨.ref C::us,a⟩)):=
 ⟨r.hd,by have:=r.dp;rw[c0i];lia,by have:=r.un;rw[c0h];lia⟩
theorem zu7.depth(r:zu7 k A):A.depth<recursionLimit:=by have:=r.dp;lia
def zu7.zw4(r:zu7 k A):A.units<O2:=by have:=r.un;lia
def tNil:TA:=λ_ H Q=>Q [] H
def z07(ta:TE)(tr:TA):TA:=λσ H Q=>ta σ H λx H1=>tr σ H1 λxs H2=>Q (x::xs) H2
section
variable{X:Cx}{e:Expr}{es:List Expr}{te:TE}{t:TA}{pos:Pos}
def f0b:PA X [] tNil:=λ_ _ _ _ H Q I h=>f1a ⟨[],H,I,.nil,h⟩
def n0d(ha:PE X e te)(hr:PA X es t)(hs:R0 (e::es) X.env=(false,eval e X.env)::R0 es X.env:=by rfl):PA X (e::es) (z07 te t):=by
 intro pos a s b H Q I h;rw[hs];refine g1k (thn (ha a s b H _ I h) λu c zz=>?_);let ⟨x,d,f,g,i⟩:=zz;exact thn (hr pos a c b d _ f i) λn o ⟨j,k,I2,l,m⟩=>⟨x::j,k,I2,.cons g l,m⟩
def tTup(t:TA):TE:=λσ H Q=>t σ H λxs H1=>xs.length<=sizeLine/\∀p,H1 p=none->Q (.ref p) (upd H1 p (.tup xs))
def tLst(t:TA):TE:=λσ H Q=>t σ H λxs H1=>xs.length<=sizeLine/\∀p,H1 p=none->Q (.ref p) (upd H1 p (.lst xs))
def zR1{f}(h:PA X es t):PE X (.Tuple es f pos) (tTup t):=by
 intro a s g H Q I i;refine wpAny_Tuple_spliced (thn (h pos a s g H _ I i) λj c ⟨k,l,d,r,z,q⟩=>⟨by rw[<-r.length];exact z,?_⟩);have m:=d.hok.fresh (k1q _);refine ⟨.ref c.heap.objs.size,upd l c.heap.objs.size (.tup k),d.laid (λb u e=>k1w _ e) (k1q _) ?_,rfl,q _ m⟩;exact ⟨z,j,r,⟨_,k1s _ rfl,rfl,⟨_,rfl⟩,rfl⟩⟩
def a0q(h:PA X es t):PE X (.List es pos) (tLst t):=by
 intro a s f H Q I g;refine wpAny_List_spliced (thn (h pos a s f H _ I g) λi c ⟨j,k,d,r,z,q⟩=>⟨by rw[<-r.length];exact z,?_⟩);have l:=d.hok.fresh (k1q _);refine ⟨.ref c.heap.objs.size,upd k c.heap.objs.size (.lst j),d.laid (λb u e=>k1w _ e) (k1q _) ?_,rfl,q _ l⟩;exact ⟨z,i,0,r,k1s _ rfl⟩
end
abbrev Sp:=List V->Hp->VK->XK->Prop
abbrev CXT:=List Env->Hp->Y0->XK->Z0->Y0->Prop
structure za4(P:V0)(w:T0)(K:Fg)(mg:Str->Option Z0)(base:J0)(A:A0)(outer:List Env)(s:Y0)(H:Hp):Prop where
 frames:A.frames=some outer
 mod:Mod K mg base
 bs:∀b o,base.get? b=some o->s.heap.get? b=some o/\H b=none
 bsz:base.objs.size<=s.heap.objs.size
 zk7:s.heap.FunFrames base outer
 frf:∀b∈frs outer,H b=none
 hok:HOk P w H s.heap
 bare:AllBare s.gens
def CE(outer:List Env)(P:V0)(w:T0)(H:Hp)(s:Y0)(Q:VK)(u:Z0)(s':Y0):Prop:=
 ∃v H',s'.os=s.os/\AllBare s'.gens/\Un (frs outer) [] H H' s.heap s'.heap/\HOk P w H' s'.heap/\RelV v u/\Q v H'
def CR(CX:CXT)(outer:List Env)(P:V0)(w:T0)(H:Hp)(s:Y0)(Q:VK)(E:XK)(r:Result)(s':Y0):Prop:=
 match r with
 | .ok (.ret u)=>CE outer P w H s Q u s'
 | .ok _=>False
 | .error e=>CX outer H s E e s'
structure zo4(P:V0)(w:T0)(K:Fg)(mg:Str->Option Z0)(base:J0)(CX:CXT)(k:Nat)(f:X0)(fd:l3)(ps:List Str)(sp:Sp):Prop where
 len:∀vs H Q E,sp vs H Q E->vs.length=ps.length
 run:∀(A:A0) (outer:List Env) (s:Y0) (H:Hp) (args:Args) (us:List Z0) (vs:List V) (Q:VK) (E:XK),zu7 k A->za4 P w K mg base A outer s H->BindsTo s fd args (ps.zip us)->zy8 vs us->sp vs H Q E->
  A2 (model P w) A (.call (.ref f) args) (CR CX outer P w H s Q E) s
def za4.make{mg:Str->Option Z0}{base:J0}{outer:List Env}(e:za4 P w K mg base A outer s H)(C:X0)(us:List Z0)(a:List (Str×Value)):
 za4 P w K mg base (A.under (.builtin "type.__call__" ⟨.ref C::us,a⟩)) outer s H:=⟨by first |exact e.frames |(simpa[Code.envs]using e.frames),e.mod,e.bs,e.bsz,e.zk7,e.frf,e.hok,e.bare⟩
section
variable{X:Cx}{pins:List (X0×Obj)}{σ:St}{H:Hp}{s s':Y0}
def Inv.z08(I:Inv X pins σ H s):za4 X.prog X.w X.K X.mg X.base X.A X.stack s H:=
 ⟨I.ok.frames,I.ok.mod,I.bs,j1o I.ok.bsz I.sz,I.stack,I.zi3,I.hok,I.bare⟩
def Inv.after{Q:VK}(I:Inv X pins σ H s)(h:CE X.stack X.prog X.w H s Q u s'):EP X pins σ Q u s':=by
 let ⟨v,c,os,bare,un,hok,r,q⟩:=h;let ⟨e,g,d,t,a⟩:=s';obtain rfl:a=s.os:=os;exact ⟨v,c,I.call (h':=e) (g':=g) (d':=d) (t':=t) (ch:=[]) un hok bare (λb z=>absurd z (by simp)),r,q⟩
end
def Binds(K:Fg)(fd:l3)(ps:List Str)(ds:List Z0):Prop:=
 ∀(s:Y0) (us:List Z0),K.In s.heap->(us++ds).length=ps.length->BindsTo s fd ⟨us,[]⟩ (ps.zip (us++ds))
def Binds.all{a:l3}{ps:List Str}(h:∀us:List Z0,us.length=ps.length->bindArgs a ⟨us,[]⟩=pure (ps.zip us)):Binds K a ps []:=λs us _ b=>by
 rw[h1s]at b ⊢;exact .of_eq (h us b)
def r1n(CX:CXT)(X:Cx)(E:XK):Prop:=∀(pins:List (X0×Obj)) (σ:St) (H:Hp) (s:Y0) (e:Z0) (s':Y0),Inv X pins σ H s->CX X.stack H s E e s'->X.xe e s'
section
variable{f C:X0}
structure Mk(K:Fg)(C f:X0):Prop where
 makes:PySem.W.makesIn K C=true
 init:PySem.W.findIn K (.ref C) "__init__"=some (some (.ref f))
 fn:PySem.W.isFn K (.ref f)=true
 kp:PySem.W.keepIn K (.ref C)=true
end
section
variable{fd:l3}{ps ks:List Str}
end
structure zz2(N P:List Str)(sc:P4):Prop where
 kind:sc.kind=.function
 co:sc.isCoroutine=false
 gen:sc.isGenerator=false
 nd:N.Nodup
 pre:N.take P.length=P
 par:∀x∈P,sc.names.lookup x=some .local\/sc.names.lookup x=some .cell
 zR2:∀y∈sc.names,y.2≠.free
theorem k0p{kindOf:Str->Option NameKind}{x:Str}:∀{binds:List (Str×Value)} {m:Str->Option Z0},(∀v,(x,v)∉binds)->bindL kindOf binds m x=m x
 | [],_,_=>rfl
 |(n,v)::r,m,h=>by
  unfold bindL;rw[k0p λw a=>h w (k1o _ a)];split
  .grind
  .rfl
theorem k0o{kindOf:Str->Option NameKind}{x:Str}:∀{binds:List (Str×Value)} {m:Str->Option Z0},(∀v,(x,v)∉binds)->bindC kindOf binds m x=m x
 | [],_,_=>rfl
 |(n,v)::r,m,h=>by
  unfold bindC;rw[k0o λw a=>h w (k1o _ a)];split
  .rfl
  .grind
theorem k0n{kindOf:Str->Option NameKind}{x:Str}{v:Z0}:∀{P:List Str} {vs:List Z0} {i:Nat} {m:Str->Option Z0},P.Nodup->P[i]?=some x->vs[i]?=some v->kindOf x=some .local->
 bindL kindOf (P.zip vs) m x=some v
 | [],_,_,_,_,h,_,_=>by simp at h
 |_::_,[],_,_,_,_,h,_=>by simp at h
 |p::P,w::vs,0,m,nd,a,b,c=>by
  simp at a b;subst a;subst b;show bindL kindOf ((p,w)::P.zip vs) m p=_;unfold bindL;rw[k0p λv d=>(g1v.mp nd).1 (h1m d).1,H0 c];simp
 |p::P,w::vs,i+1,m,nd,a,b,c=>by
  unfold bindL;exact k0n (i:=i) (g1v.mp nd).2 (by simpa using a) (by simpa using b) c
theorem k0m{kindOf:Str->Option NameKind}{x:Str}{v:Z0}:∀{P:List Str} {vs:List Z0} {i:Nat} {m:Str->Option Z0},P.Nodup->P[i]?=some x->vs[i]?=some v->kindOf x≠some .local->
 bindC kindOf (P.zip vs) m x=some v
 | [],_,_,_,_,h,_,_=>by simp at h
 |_::_,[],_,_,_,_,h,_=>by simp at h
 |p::P,w::vs,0,m,nd,a,b,c=>by
  simp at a b;subst a;subst b;show bindC kindOf ((p,w)::P.zip vs) m p=_;unfold bindC;rw[k0o λv d=>(g1v.mp nd).1 (h1m d).1,O0 c];simp
 |p::P,w::vs,i+1,m,nd,a,b,c=>by
  unfold bindC;exact k0m (i:=i) (g1v.mp nd).2 (by simpa using a) (by simpa using b) c
def start(N:List Str)(vs:List V):St:=vs.map some++List.replicate (N.length-vs.length) none
def zX2(CX:CXT)(P:V0)(w:T0)(K:Fg)(mg:Str->Option Z0)(base:J0)(N:List Str)(qual:Str)(scope:P4)(f:X0)(cd:Z0)(A:A0)(outer:List Env)(s:Y0)(H:Hp)(E:XK):Cx where
 prog:=P
 w:=w
 K:=K
 mg:=mg
 base:=base
 A:=A.deeper (T5 qual scope s.heap.objs.size f cd)
 N:=N
 zy0:=s
 zz6:=H
 env:=T5 qual scope s.heap.objs.size f cd
 outer:=outer
 stack:=T5 qual scope s.heap.objs.size f cd::outer
 ex:=[]
 calm:=true
 fn:=λ_=>true
 pn:=[]
 xe:=λe s'=>wpAny (model P w) (A.deeper (T5 qual scope s.heap.objs.size f cd)) (leaving (T5 qual scope s.heap.objs.size f cd) e) (λ_ s''=>CX outer H s E e s'') (λe' s''=>CX outer H s E e' s'') s'
def f0a{a:P4}{n:Nat}(h:a.names.lookup x=some .cell):∃c,(cellsFrom n a.names []).lookup x=some c:=by
 have q:=d1b a.names n [] (.inl h);exact f1q.mp q
def a0p{CX:CXT}{P:V0}{w:T0}{K:Fg}{mg:Str->Option Z0}{base:J0}{N ps:List Str}{a:Str}{scope:P4}{f:X0}{cd:Z0}{A:A0}{outer:List Env}{s o:Y0}{H:Hp}{E:XK}{us:List Z0}{vs:List V}
 (S:zz2 N ps scope) (hd:A.handled=none) (e0:za4 P w K mg base A outer s H) (F:vs.length=ps.length) (r:zy8 vs us)
 (x:InCallC s s.heap.objs.size (bindL (T5 a scope s.heap.objs.size f cd).kindOf (ps.zip us) λ_=>none) (cellsFrom (s.heap.objs.size+1) scope.names []) (bindC (T5 a scope s.heap.objs.size f cd).kindOf (ps.zip us) λ_=>none) o):
 Inv (zX2 CX P w K mg base N a scope f cd A outer s H E) [] (start N vs) H o:=by
 have C:=by have:=congrArg List.length S.pre;rw[h1c]at this;omega
 let ⟨m,tk,rfl,t⟩:=x.done;have d:∀b:X0,b∉(zX2 CX P w K mg base N a scope f cd A outer s H E).ex:=λb z=>absurd (show b∈([]:List X0)from z) (by simp)
 refine ⟨⟨e0.mod,S.kind,rfl,rfl,k1q _,λy z c m n=>?_,λy g=>?_,λy c _ h=>?_,λ_=>hd,Around.frames_deeper e0.frames,.inr ⟨rfl,rfl⟩,λb z=>absurd z (d b),e0.bs,e0.bsz,λb _ _=>d b,λb z=>absurd z (d b),e0.zk7,e0.frf⟩,
  rfl,e0.bare,Un.kept t,⟨_,x.toInCall.ns,λi y v m n G=>?_⟩,λy c h=>⟨_,x.cell y c h⟩,e0.hok.fresh (k1q _),λy c h=>?_,λp j=>absurd (show p∈([]:List (X0×Obj))from j) (by simp),e0.hok.kept t,?_⟩
 .exact name_of_addr x.apart (h1l m) (h1l n)
 .rcases g with g |g
  .exact f0a g
  .exact absurd rfl (S.zR2 _ (h1l g))
 .exact h1b (x.above y c (h1l h))
 .have I:i<vs.length:=by
   unfold start at n
   grind
  have ha:vs[i]?=some v:=by
   unfold start at n
   grind
  let ⟨u,B,D⟩:=r.get ha;have j:ps[i]?=some y:=by
   rw[<-S.pre,List.getElem?_take_of_lt (by lia)];exact m
  have l:ps.Nodup:=by rw[<-S.pre];exact S.nd.sublist (List.take_sublist _ _)
  refine ⟨u,D,?_⟩;rcases S.par y (k1m j)with k |k
  .exact .inl ⟨k,k0n l j B k⟩
  .let ⟨c,e⟩:=f0a k;refine .inr ⟨.inl k,c,e,?_⟩;have q:=x.cell y c e;rw[k0m l j B (by show scope.names.lookup y≠_;rw[k];decide)]at q;exact q
 .exact e0.hok.fresh (h1b (x.above y c (h1l h)))
 .unfold start;show _=N.length
  grind
def zR3{CX:CXT}{P:V0}{w:T0}{K:Fg}{mg:Str->Option Z0}{base:J0}{k:Nat}{f:X0}{name a:Str}{c:Arguments}{body:List Y1}{scope:P4}{D kV doc pm cdv ct M:Z0}{F O:Option X0}
 {m:Array (Option Z0)} {N ps:List Str} {sp:Sp} (lk:K.lookup f=some ⟨M,O,.func (PySem.W.fnOf name a c body scope D kV doc pm F cdv ct),m⟩) (p:PySem.W.codeIn K cdv a=true) (S:zz2 N ps scope)
 (len:∀vs H Q E,sp vs H Q E->vs.length=ps.length)
 (i:∀(A:A0) (outer:List Env) (s:Y0) (H:Hp) (vs:List V) (Q:VK) (E:XK),zu7 k (A.deeper (T5 a scope s.heap.objs.size f cdv))->sp vs H Q E->
  ∃t,PSs (zX2 CX P w K mg base N a scope f cdv A outer s H E) body t/\t {nx:=λ_ g=>Q .non g,rt:=Q} (start N vs) H):
 zo4 P w K mg base CX (k+1) f (PySem.W.fnOf name a c body scope D kV doc pm F cdv ct) ps sp:=by
 refine ⟨len,λA outer s H args R vs Q E hr e0 U r l=>?_⟩;have X:=len _ _ _ _ l;have G:K.In s.heap:=e0.mod.kin.keeps λb o e=>(e0.bs b o e).1
 have z:s.heap.NoLimit:=e0.mod.nolimit.keeps λb o e=>(e0.bs b o e).1
 have j:∀y∈ps.zip R,scope.names.lookup y.1=some .local\/(scope.names.lookup y.1=some .cell/\((cellsFrom (s.heap.objs.size+1) scope.names []).lookup y.1).isSome=true):=λ⟨n,v⟩ Z=>by
  rcases S.par n (h1m Z).1 with q |q
  .exact .inl q
  .exact .inr ⟨q,d1b _ _ _ (.inl q)⟩
 refine codeAny_call_function hr.depth (G _ _ lk) rfl S.co S.gen rfl (PySem.W.codeRec_of G p) (U _ _ _ _ ?_);refine wpAny_newFunctionEnv_cells S.kind j λenv he L x=>?_
 subst he;refine ⟨z.keeps x.toInCall.keep,codeAny_func ?_⟩;let ⟨t,ht,hq⟩:=i A outer s H vs Q E (hr.deeper _) l;have I:Inv (zX2 CX P w K mg base N a scope f cdv A outer s H E) [] (start N vs) H L:=a0p S hr.hd e0 X r x;refine K0 (ht [] L (start N vs) H _ I hq) (λfl B hs=>?_) λe B hs=>hs
 have fin:∀{d:St} {g:Hp} {v:V} {u:Z0},Inv (zX2 CX P w K mg base N a scope f cdv A outer s H E) [] d g B->RelV v u->Q v g->CE outer P w H s Q u B:=
  λ{d g v u} J C q=>⟨v,g,J.os,J.bare,J.base,J.hok,C,q⟩
 cases fl with
 |ret u=>
  let ⟨v,d,g,J,C,q⟩:=hs;exact fin J C q
 |next=>
  let ⟨d,g,J,q⟩:=hs;exact fin (v:=V.non) (u:=Value.none) J rfl q
 |brk=>
  let ⟨_,_,_,q⟩:=hs;exact False.elim q
 |cont=>
  let ⟨_,_,_,q⟩:=hs;exact False.elim q
section
variable{X:Cx}{x:Str}{p pos:Pos}{e:Expr}{es:List Expr}{t:TA}{id T:String}{r:List V->Hp->VK->Prop}
def tCB(r:List V->Hp->VK->Prop)(t:TA):TE:=λσ H Q=>t σ H λvs H1=>r vs H1 Q
def q0r(f:x0t X (.builtin id) r)(g:Gl X x)(hm:X.mg x=none)(i:W1 x=some (.builtin id))(ha:PA X (e::es) t)(hn:x≠"__name__":=by decide)(b:(x==("__debug__":Str))=false:=by decide)
 (j:R0 (e::es) X.env=(false,eval e X.env)::R0 es X.env:=by rfl) (c:(Q3 pos (R0 es X.env)).any (·.1)=false:=by rfl):PE X (.Call (.Name x p) (e::es) [] pos) (tCB r t):=by
 intro a s d H Q I h;refine A1 (x0u I g hm i ?_ hn b);exact e1x (thn (ha pos a s d H _ I h) λk l zz=>by let ⟨m,n,o,u,v⟩:=zz;exact f a l d n m k Q o u v) j c
def k0l(f:x0t X (.type T) r)(g:Gl X x)(hm:X.mg x=none)(i:W1 x=some (.type T))(ha:PA X (e::es) t)(hn:x≠"__name__":=by decide)(b:(x==("__debug__":Str))=false:=by decide)
 (j:R0 (e::es) X.env=(false,eval e X.env)::R0 es X.env:=by rfl) (c:(Q3 pos (R0 es X.env)).any (·.1)=false:=by rfl):PE X (.Call (.Name x p) (e::es) [] pos) (tCB r t):=by
 intro a s d H Q I h;refine A1 (x0u I g hm i ?_ hn b);exact i1y (thn (ha pos a s d H _ I h) λk l zz=>by let ⟨m,n,o,u,v⟩:=zz;exact f a l d n m k Q o u v) j c
end
end L2
namespace HT
open PyProof.Rows
section
variable{prog:V0}{w:T0}{A:A0}{E:Z0->Y0->Prop}{s:Y0}
def zX3{t b:X0}{vs ws:List Z0}{Q:Z0->Y0->Prop}(o:IsTup s.heap t vs.toArray)(p:IsTup s.heap b ws.toArray)(j:vs≠[])
 (h1:ws=[]->Q (.ref t) s) (r:ws≠[]->Q (.ref s.heap.objs.size) {s with heap:=s.heap.push {cls:=.type "tuple",data:=.seq (vs++ws).toArray}})
 (hsz:vs.length+ws.length<=sizeLine):wpAny (model prog w) A (K3 .Add (.ref t) (.ref b)) Q E s:=by
 let ⟨⟨cls,k,data,sl⟩,ho,l,n,hd⟩:=id o;let ⟨⟨m,c,data2,d⟩,a,f,n2,g⟩:=id p;simp only at l hd f g;subst l hd f g;have e:vs.toArray++ws.toArray=(vs++ws).toArray:=by simp
 by_cases i:ws=[]
 .exact concat_meets ⟨_,ho,rfl⟩ ⟨_,a,rfl⟩ noFill_tuple_add seq_tuple_add f1d f1l (f1p _ _)
   (tuple_addW1 t b vs.toArray ws.toArray n n2 k c sl d (by simpa using j) (by simp[i])) ⟨ho,a,h1 i⟩
 .refine concat_meets ⟨_,ho,rfl⟩ ⟨_,a,rfl⟩ noFill_tuple_add seq_tuple_add f1d f1l (f1p _ _)
   (tuple_addW2 t b vs.toArray ws.toArray n n2 k c sl d (by simpa using j) (by simpa using i) (by rw[j1m,j1m];exact hsz)) ⟨ho,a,?_⟩
  rw[e];exact r i
def sIx(n d:Nat):Option Int->Nat
 |none=>d
 |some v=>if v<0 then (v+(n:Int)).toNat else min v.toNat n
def za5(n d:Nat):sIx n d none=d:=rfl
def a0o(v:Int)(n d:Nat):(if v<0 then max (v+(n:Int)) 0 else min v (n:Int))=((sIx n d (some v):Nat):Int):=by
 show (if v<0 then max (v+(n:Int)) 0 else min v (n:Int))=(((if v<0 then (v+(n:Int)).toNat else min v.toNat n):Nat):Int)
 grind
def c0g(lo a:Option Int)(n:Nat):Builtin.Slice.sliceAdjust lo a 1 (n:Int)=(((sIx n 0 lo:Nat):Int),((sIx n n a:Nat):Int)):=by
 have b:¬((1:Int)<0):=by lia
 unfold Builtin.Slice.sliceAdjust;refine Prod.ext ?_ ?_
 .cases lo with
  |none=>rfl
  |some v=>exact a0o v n 0
 .cases a with
  |none=>rfl
  |some v=>exact a0o v n n
def c0f(i j:Nat):Builtin.Slice.slicePlaces (i:Int) (j:Int) 1=j-i:=by
 unfold Builtin.Slice.slicePlaces
 grind
def n0u{v:Z0}{o:Option Int}{Q:Option Int->Y0->Prop}(p:IsPart v o)(h:Q o s):wpAny (model prog w) A (Builtin.Slice.slicePartIndex v) Q E s:=by
 cases p with
 |none=>exact slicePart_none h
 |int i t=>exact slicePart_int h
def r0c{sl:X0}{d e:Z0}{lo a:Option Int}{n:Nat}{Q:Int×Int×Nat->Y0->Prop}(hs:s.heap.IsSliceOf sl d e .none)(f:IsPart d lo)(g:IsPart e a)
 (h:Q (((sIx n 0 lo:Nat):Int),1,sIx n n a-sIx n 0 lo) s):wpAny (model prog w) A (Builtin.Slice.sliceApplied (.ref sl) (pure (n:Int))) Q E s:=by
 let ⟨os,b,i,c⟩:=id hs;refine y0 (y0 (V1 b c rfl (y0 (V1 b c rfl (y0 (V1 b c rfl (d0 ?_)))))));refine y0 (slicePart_none ?_);refine y0 (n0u f (y0 (n0u g (y0 (d0 ?_)))));show wpAny _ _ (match Builtin.Slice.sliceAdjust lo a 1 (n:Int)with |(lo,a)=>pure (lo,(1:Int),Builtin.Slice.slicePlaces lo a 1)) _ _ s;rw[c0g lo a n];show wpAny _ _ (pure (((sIx n 0 lo:Nat):Int),(1:Int),Builtin.Slice.slicePlaces ((sIx n 0 lo:Nat):Int) ((sIx n n a:Nat):Int) 1)) _ _ s;rw[c0f];exact d0 h
def v1j(xs:Array Z0)(i k:Nat):((List.range k).filterMap λ(m:Nat)=>xs[((i:Int)+(m:Int)*1).toNat]?).toArray=((xs.toList.drop i).take k).toArray:=by
 have e:(λ(m:Nat)=>xs[((i:Int)+(m:Int)*1).toNat]?)=λm=>xs[i+m]?:=by
  grind
 rw[e];have:=pick_run xs i k;rw[b1x]at this;have e2:((λx=>xs[x]?)∘λx=>i+x)=λm=>xs[i+m]?:=rfl
 grind
def zr2{t sl:X0}{items:Array Z0}{i j:Z0}{lo b:Option Int}{Q:Z0->Y0->Prop}(c:IsTup s.heap t items)(hs:s.heap.IsSliceOf sl i j .none)(k:IsPart i lo)(l:IsPart j b)
 (n:¬(sIx items.size 0 lo=0/\sIx items.size items.size b=items.size))
 (h:Q (.ref s.heap.objs.size) {s with heap:=s.heap.push {cls:=.type "tuple",data:=.seq ((items.toList.drop (sIx items.size 0 lo)).take (sIx items.size items.size b-sIx items.size 0 lo)).toArray}})
 (hsz:items.size<=sizeLine):wpAny (model prog w) A (getItem (.ref t) (.ref sl)) Q E s:=by
 have a:=by
  show ((items.toList.drop (sIx items.size 0 lo)).take (sIx items.size items.size b-sIx items.size 0 lo)).toArray.size<=sizeLine
  grind
 let ⟨os,d,e,m⟩:=id hs;have f:s.TypeIs (.ref sl) "slice":=⟨os,d,e⟩;unfold getItem
 try with_reducible refine D0 ?_
 refine y0 (wpAny_sequenceKey c.typeIs (by decide) ?_);refine y0 (wpAny_callSpecial?_slot c.typeIs g1u
  (Z1 g1u c.typeIs entry_tuple_getitem ?_ (args_tuple_getitem _ _)))
 show wpAny _ _ (Builtin.Tuple.tupleItemsOf (.ref t) >>= _) _ _ s;refine y0 (tupleItemsOf_ c ?_);refine y0 (B4 f ?_);refine y0 (r0c hs k l ?_);have g:¬((((sIx items.size 0 lo:Nat):Int)==0&&(1:Int)==1&&(sIx items.size items.size b-sIx items.size 0 lo)==items.size)=true):=by
  grind
 show wpAny _ _ (if (((sIx items.size 0 lo:Nat):Int)==0&&(1:Int)==1&&(sIx items.size items.size b-sIx items.size 0 lo)==items.size)=true then _ else _) _ _ s;rw[O0 g,v1j]
 first
  |exact y0 (N0 (d0 ⟨_,rfl,d0 h⟩) a)
  |exact y0 (N0 (y0 (d0 (d0 ⟨_,rfl,d0 h⟩))) a)
  |exact y0 (y0 (N0 (d0 (d0 ⟨_,rfl,d0 h⟩)) a))
  |exact y0 (y0 (N0 (d0 ⟨_,rfl,d0 h⟩) a))
end
end HT
namespace L2
open Spec PyProof.Rows
variable{xs:List V}{α:Type}{s:Y0}{x:V}
abbrev TO:=St->Hp->(Option Int->Hp->Prop)->Prop
def PO(X:Cx)(e:Option Expr)(t:TO):Prop:=
 ∀(pins:List (X0×Obj)) (s:Y0) (σ:St) (H:Hp) (Q:Option Int->Hp->Prop),Inv X pins σ H s->t σ H Q->
  wpAny (model X.prog X.w) X.A (evalPart e X.env) (λu s'=>∃o H',Inv X pins σ H' s'/\IsPart u o/\Q o H') X.xe s
def p1i:TO:=λ_ H Q=>Q none H
def z09(t:TE):TO:=λσ H Q=>t σ H λx H1=>∃i,x=.int i/\Q (some i) H1
def c0e{ns:List Int}:∀{us:List Z0},zy8 (ns.map V.int) us->IntsAre us ns:=by
 induction ns with
 |nil=>intro us r;rw[j1r]at r;cases r;exact .nil
 |cons n ns a=>
  intro us r;cases r with
  |cons b c=>
   let ⟨t,e⟩:=b;subst e;exact .cons n t (a c)
section
variable{X:Cx}{e:Expr}{te:TE}{lo hi:Option Expr}{tl th:TO}{pos p2:Pos}
def p1h:PO X none p1i:=by
 intro a s b H Q I h;exact d0 ⟨none,H,I,.none,h⟩
def p1g(h:PE X e te):PO X (some e) (z09 te):=by
 intro a s b H Q I c;refine thn (h a s b H _ I c) λu k zz=>?_;let ⟨x,d,f,g,j⟩:=zz
 let ⟨i,rfl,q⟩:=j;let ⟨t,rfl⟩:=g;exact ⟨some i,d,f,.int i t,q⟩
def SlR(X:Cx)(r:V->Option Int->Option Int->Hp->VK->Prop):Prop:=
 ∀(pins:List (X0×Obj)) (s:Y0) (σ:St) (H:Hp) (x:V) (v vl vu:Z0) (lo hi:Option Int) (sl:X0) (Q:VK),Inv X pins σ H s->RelV x v->s.heap.IsSliceOf sl vl vu .none->IsPart vl lo->IsPart vu hi->r x lo hi H Q->
  ∃T id,typeLookup (.type T) "__getitem__"=pure (some (.builtin id))/\s.TypeIs v T/\wpAny (model X.prog X.w) X.A (getItem v (.ref sl)) (EP X pins σ Q) X.xe s
def SlR.or{r b:V->Option Int->Option Int->Hp->VK->Prop}(h:SlR X r)(h':SlR X b):SlR X (λx lo hi H Q=>r x lo hi H Q\/b x lo hi H Q):=by
 intro a s c H x v d e lo hi sl Q I f hs g i q;rcases q with q |q
 .exact h a s c H x v d e lo hi sl Q I f hs g i q
 .exact h' a s c H x v d e lo hi sl Q I f hs g i q
def tSl(r:V->Option Int->Option Int->Hp->VK->Prop)(te:TE)(tl th:TO):TE:=λσ H Q=>te σ H λx H1=>tl σ H1 λl H2=>th σ H2 λu H3=>r x l u H3 Q
def v1i{r:V->Option Int->Option Int->Hp->VK->Prop}(hr:SlR X r)(j:PE X e te)(k:PO X lo tl)(m:PO X hi th):PE X (.Subscript e (.Slice lo hi none p2) pos) (tSl r te tl th):=by
 intro a s d H Q I h;refine Subscript_ (thn (j a s d H _ I h) λv n zz=>?_);let ⟨x,o,p,t,y⟩:=zz;refine wpAny_Slice (thn (k a n d o _ p y) λf z ⟨l,B,I2,C,D⟩=>thn (m a z d B _ I2 D) λg c zy=>?_);let ⟨u,i,F,G,q3⟩:=zy;rw[evalPart_none];refine d0 ?_;have J:Inv X a d i {c with heap:=c.heap.push {cls:=.type "slice",data:=.fields #[f,g,.none]}}:=F.kept (t':=c.toks) λb ob q=>k1w _ q
 let ⟨T,id,L,M,N⟩:=hr a {c with heap:=c.heap.push {cls:=.type "slice",data:=.fields #[f,g,.none]}} d i x v f g l u c.heap.objs.size Q J t (Heap.IsSliceOf.new ..) C G q3;show wpAny (model X.prog X.w) X.A (subscriptTail e (.Slice lo hi none p2) v (.ref c.heap.objs.size)) (EP X a d Q) X.xe {c with heap:=c.heap.push {cls:=.type "slice",data:=.fields #[f,g,.none]}};exact tail_any (ops:=[.ref c.heap.objs.size,v]) M L N (by with_unfolding_all rfl)
def zV4(xs:List V)(lo hi:Option Int):List V:=(xs.drop (HT.sIx xs.length 0 lo)).take (HT.sIx xs.length xs.length hi-HT.sIx xs.length 0 lo)
def p0y(xs:List V)(lo hi:Option Int):(zV4 xs lo hi).length<=xs.length:=by
 unfold zV4
 grind
def rSlT(K:Fg):V->Option Int->Option Int->Hp->VK->Prop:=λx lo hi H Q=>∃a xs,x=.ref a/\SqT K H a xs/\
 ¬(HT.sIx xs.length 0 lo=0/\HT.sIx xs.length xs.length hi=xs.length)/\∀p,H p=none->Q (.ref p) (upd H p (.tup (zV4 xs lo hi)))
def zR4:SlR X (rSlT X.K):=by
 intro f s l H x v m n lo hi sl Q I i hs j k h;let ⟨a,c,rfl,hx,o,q⟩:=h;cases i;let ⟨e,r,g,hz⟩:=I.tuple hx;have d:e.toArray.size=c.length:=by rw[j1m];exact r.length.symm
 refine ⟨"tuple",_,g1u.lookup,g.typeIs,?_⟩;refine HT.zr2 g hs j k (by grind) ?_ (by grind);rw[d];refine ⟨.ref s.heap.objs.size,_,I.laid (λb ob q=>k1w _ q) (k1q _) ?_,rfl,q _ (I.hok.fresh (k1q _))⟩;exact ⟨Nat.le_trans (p0y c lo hi) hz,_,(r.drop (HT.sIx c.length 0 lo)).take (HT.sIx c.length c.length hi-HT.sIx c.length 0 lo),zZ7.new _ _⟩
def z10(K:Fg):R2:=λx y H Q=>∃a b xs ys,x=.ref a/\y=.ref b/\SqT K H a xs/\SqT K H b ys/\xs≠[]/\xs.length+ys.length<=sizeLine/\
 (ys=[]->Q (.ref a) H)/\(ys≠[]->∀p,H p=none->Q (.ref p) (upd H p (.tup (xs++ys))))
def zy8.zo5{us:List Z0}(r:zy8 xs us):us=[]↔xs=[]:=by
 cases r with
 |nil=>simp
 |cons _ _=>simp
def p1f:OpR X (K3 .Add) (z10 X.K):=by
 intro e s n H x y v u Q I g i h;let ⟨a,b,o,p,rfl,rfl,ha,j,hx,hz,k,l⟩:=h;cases g;cases i;let ⟨m,d,p1,_⟩:=I.tuple ha;let ⟨f,c,p2,_⟩:=I.tuple j;refine HT.zX3 p1 p2 (λz=>hx (d.zo5.mp z)) (λz=>⟨.ref a,H,I,rfl,k (c.zo5.mp z)⟩) (λz=>?_) (by rw[<-d.length,<- c.length];exact hz);refine ⟨.ref s.heap.objs.size,_,I.laid (λb ob q=>k1w _ q) (k1q _) ?_,rfl,l (λw=>z (c.zo5.mpr w)) _ (I.hok.fresh (k1q _))⟩;exact ⟨by rw[k1b];exact hz,_,d.append c,zZ7.new _ _⟩
end
def ixN(n:Nat)(i:Int):Option Nat:=if 0<=i then (if i<n then some i.toNat else none)else if -(n:Int)<=i then some (i+n).toNat else none
def atI{α:Type}(xs:List α)(i:Int):Option α:=(ixN xs.length i).bind λj=>xs[j]?
def a0n{n:Nat}{i:Int}{j:Nat}(h:ixN n i=some j):seqIndex? i n=some j/\j<n/\-(n:Int)<=i/\i<n:=by
 unfold ixN at h;by_cases h0:0<=i
 .rw[H0 h0]at h;by_cases a:i<n
  .rw[H0 a]at h;have e:=i1q h;exact ⟨by rw[seqIndex_of h0 a,e],by lia,by lia,a⟩
  .grind
 .rw[O0 h0]at h;by_cases a:-(n:Int)<=i
  .rw[H0 a]at h;have e:=i1q h;exact ⟨by rw[seqIndex_neg (by lia) a,e],by lia,a,by lia⟩
  .grind
def h0l{xs:List α}{i:Int}{v:α}(h:atI xs i=some v):∃j,seqIndex? i xs.length=some j/\xs[j]?=some v/\j<xs.length/\-(xs.length:Int)<=i/\i<xs.length:=by
 unfold atI at h;cases e:ixN xs.length i with
 |none=>rw[e]at h;cases h
 |some j=>
  rw[e]at h;let ⟨a,b,c,d⟩:=a0n e
  grind
def v0f{xs:List α}{j:Nat}{v:α}(h:xs[j]?=some v):atI xs (j:Int)=some v:=by
 have a:=(k1t.mp h).1;have e:ixN xs.length (j:Int)=some j:=by
  unfold ixN
  grind
 unfold atI;rw[e];exact h
def e0z(xs:List α)(v:α):atI (xs++[v]) (-1)=some v:=by
 have a:(xs++[v]).length=xs.length+1:=by simp
 have e:ixN (xs++[v]).length (-1)=some xs.length:=by
  unfold ixN;rw[a,O0 (by decide),H0 (by lia)];congr 1;lia
 unfold atI;rw[e];show (xs++[v])[xs.length]?=some v;simp
def h0k(b:Expr):Prop:=∀o i,subscripted b false o i=operate [o,i] (getItem o i)
def IxR(X:Cx)(r:R2):Prop:=
 ∀(value slice:Expr) (pins:List (X0×Obj)) (s:Y0) (σ:St) (H:Hp) (x y:V) (v u:Z0) (Q:VK),Inv X pins σ H s->RelV x v->RelV y u->r x y H Q->
  subscripted slice false v u=operate [v,u] (getItem v u)->wpAny (model X.prog X.w) X.A (subscriptTail value slice v u) (EP X pins σ Q) X.xe s
def MtR(X:Cx)(id:String)(r:V->List V->Hp->VK->Prop):Prop:=
 ∀(pins:List (X0×Obj)) (s:Y0) (σ:St) (H:Hp) (x:V) (xs:List V) (v:Z0) (us:List Z0) (Q:VK),Inv X pins σ H s->RelV x v->zy8 xs us->r x xs H Q->
  wpAny (model X.prog X.w) X.A (call (.builtin id) (v::us)) (EP X pins σ Q) X.xe s
section
variable{X:Cx}{a b:Expr}{ta tb:TE}{pos:Pos}
def IxR.or{r b:R2}(h:IxR X r)(h':IxR X b):IxR X (λx y H Q=>r x y H Q\/b x y H Q):=by
 intro value slice a s c H x y v u Q I d e q hs;rcases q with q |q
 .exact h value slice a s c H x y v u Q I d e q hs
 .exact h' value slice a s c H x y v u Q I d e q hs
def a0m{r:R2}(hr:IxR X r)(ha:PE X a ta)(d:PE X b tb)(hs:h0k b):PE X (.Subscript a b pos) (tOp r ta tb):=by
 intro c s e H Q I h;exact Subscript_ (zA7 ha d I h λv u f x y g I2 i j q=>hr a b c f e g x y v u Q I2 i j q (hs _ _))
def rIxL(K:Fg):R2:=λx y H Q=>∃p xs i v,x=.ref p/\y=.int i/\SqL K H p xs/\atI xs i=some v/\Q v H
def rIxT(K:Fg):R2:=λx y H Q=>∃p xs i v,x=.ref p/\y=.int i/\SqT K H p xs/\atI xs i=some v/\Q v H
def rIxS:R2:=λx y H Q=>∃z i c,x=.str z/\y=.int i/\z.length<=sizeLine/\atI z.cps.toList i=some c/\Q (.str ⟨#[c]⟩) H
def zc1:IxR X (rIxL X.K):=by
 intro value slice a s f H x y v u Q I g k h hs;let ⟨p,D,i,z,rfl,rfl,l,m,q⟩:=h;cases g;let ⟨t,rfl⟩:=k;let ⟨b,r,c,hz⟩:=I.list l;let ⟨j,e,n,F,o,B⟩:=h0l m;let ⟨w,G,d⟩:=r.get n;have J:=r.length;have hn:=k0t;have fin:EP X a f Q w s:=⟨z,H,I,d,q⟩;by_cases h0:0<=i
 .have C:i.toNat=j:=by
   rw[seqIndex_of h0 B]at e
   grind
  exact item_listR c.isList h0 (by lia) (by grind) fin hs
 .have C:(i+(b.toArray.size:Int)).toNat=j:=by
   rw[seqIndex_neg (by lia) o]at e
   grind
  exact subscriptTail_builtinR c.isList.typeIs slot_list_getitem.lookup
   (wpAny_getItem_list_neg c.isList (by lia) (by grind) (by lia) (by grind) ⟨rfl,fin⟩) hs
def zc2:IxR X (rIxT X.K):=by
 intro value slice a s d H x y v u Q I e f h hs;let ⟨p,n,i,z,rfl,rfl,g,k,q⟩:=h;cases e;let ⟨t,rfl⟩:=f;let ⟨l,r,c,hz⟩:=I.tuple g;let ⟨j,o,m,B,C,D⟩:=h0l k;let ⟨w,F,b⟩:=r.get m;have G:=r.length;have hn:=k0t;have fin:EP X a d Q w s:=⟨z,H,I,b,q⟩;exact subscriptTail_builtinR c.typeIs slot_tuple_getitem.lookup
  (getItem_tuple (j:=j) c (by lia) (by lia) (by grind) (by grind) ⟨rfl,fin⟩) hs
def zR5:IxR X rIxS:=by
 intro value slice a s m H x y v u Q I b d h hs;let ⟨z,i,c,rfl,rfl,hz,e,q⟩:=h;let ⟨t,rfl⟩:=b;let ⟨n,rfl⟩:=d;let ⟨j,f,o,p,g,k⟩:=h0l e;have l:z.cps.toList.length=z.length:=by simp[Str.length]
 rw[l]at f g k;have hn:=k0t;exact tail_any (typeIs_str s z t) slot_str_getitem.lookup (getItem_str (by
  have e1:decide (i< -(2^63:Int))=false:=Q0 (by lia);have e2:decide (i>=2^63)=false:=Q0 (by lia);rw[e1,e2,Bool.or_false]) (by grind) ⟨.str ⟨#[c]⟩,H,I.tok _,⟨_,rfl⟩,q⟩) hs
def rIx(K:Fg):R2:=λx y H Q=>rIxL K x y H Q\/rIxT K x y H Q\/rIxS x y H Q
def n0t:IxR X (rIx X.K):=zc1.or (zc2.or zR5)
def c0d(a:List Z0)(n j:Nat)(u:Z0):Obj.mapSeq (·.setIfInBounds j u) {cls:=.type "list",data:=.seq a.toArray n}={cls:=.type "list",data:=.seq (a.set j u).toArray n}:=by
 simp[Obj.mapSeq]
theorem Inv.lst{pins:List (X0×Obj)}{σ:St}{H:Hp}{s:Y0}{p:X0}{xs:List V}(I:Inv X pins σ H s)(h:H p=some (.lst xs)):
 ∃(a:List Z0) (n:Nat),zy8 xs a/\s.heap.get? p=some {cls:=.type "list",data:=.seq a.toArray n}/\xs.length<=sizeLine:=by
 let ⟨z,a,n,r,e⟩:=I.hok p _ h
 grind
def Inv.zR6{pins:List (X0×Obj)}{σ:St}{H:Hp}{p:X0}{c:List V}{a its':List Z0}{n d:Nat}{f:Obj->Obj}(I:Inv X pins σ H s)(h:H p=some (.lst xs))
 (ho:s.heap.get? p=some {cls:=.type "list",data:=.seq a.toArray n}) (g:f {cls:=.type "list",data:=.seq a.toArray n}={cls:=.type "list",data:=.seq its'.toArray d}) (r:zy8 c its') (hz:c.length<=sizeLine) (t:Nat):
 Inv X pins σ (upd H p (.lst c)) {s with heap:=s.heap.update p f,toks:=t}:=by
 have e:(s.heap.update p f).get? p=some {cls:=.type "list",data:=.seq its'.toArray d}:=by
  rw[j1x f ho (by rw[g]<;>rfl),g]
 refine I.write (x:=p) (e:=p) (by rw[h];trivial) (.inl rfl) (λb u i q=>(j1t _ _ (j1k i)).trans q) ⟨_,e⟩ ?_;exact ⟨hz,its',d,r,e⟩
def z11:V->V->V->Hp->(Hp->Prop)->Prop:=λo i v H Q=>∃p xs k j,o=.ref p/\i=.int k/\H p=some (.lst xs)/\ixN xs.length k=some j/\Q (upd H p (.lst (xs.set j v)))
def e0y:PSet X z11:=by
 intro a s e H o i v C D u Q I f g l h;let ⟨p,m,k,j,rfl,rfl,c,w,q⟩:=h;cases f;let ⟨t,rfl⟩:=g;let ⟨b,n,r,ho,hz⟩:=I.lst c;let ⟨d,F,y,z⟩:=a0n w;have G:=r.length;have hn:=k0t;have J:Inv X a e (upd H p (.lst (m.set j v))) {s with heap:=s.heap.update p (Obj.mapSeq (·.setIfInBounds j u))}:=
  I.zR6 c ho (c0d b n j u) (r.set l j) (by grind) s.toks
 by_cases h0:0<=k
 .have B:k.toNat=j:=by
   rw[seqIndex_of h0 z]at d
   grind
  exact PySem.W.ki_setAt ho h0 (by lia) (by grind) (by grind)
 .have B:(k+(b.toArray.size:Int)).toNat=j:=by
   rw[seqIndex_neg (by lia) y]at d
   grind
  exact PySem.W.ki_setBack ho (by lia) (by grind) (by lia) (by grind)
def k0k(lo a:Option Int)(n:Nat):(C4 lo a none n).1=((HT.sIx n 0 lo:Nat):Int)/\(C4 lo a none n).2.1=((HT.sIx n n a:Nat):Int)/\(C4 lo a none n).2.2=1:=by
 refine ⟨?_,?_,rfl⟩
 .cases lo with
  |none=>simp[C4,HT.sIx]
  |some i=>
   simp only[C4,HT.sIx,a1z,N1]
   grind
 .cases a with
  |none=>simp[C4,HT.sIx]
  |some i=>
   simp only[C4,HT.sIx,a1z,N1]
   grind
def n0c(a:List Z0)(lo b:Option Int):slicePick a.toArray lo b none=((a.drop (HT.sIx a.length 0 lo)).take (HT.sIx a.length a.length b-HT.sIx a.length 0 lo)).toArray:=by
 let ⟨c,d,e⟩:=k0k lo b a.toArray.size;unfold slicePick;rw[c,d,e];simp only[sliceRange_one,pick_run]<;>rfl
def rSlL(K:Fg):V->Option Int->Option Int->Hp->VK->Prop:=λx lo hi H Q=>∃a xs,x=.ref a/\SqL K H a xs/\∀p,H p=none->Q (.ref p) (upd H p (.lst (zV4 xs lo hi)))
def p1e:SlR X (rSlL X.K):=by
 intro e s m H x v n o lo f sl Q I i hs j k h;let ⟨a,c,rfl,hx,q⟩:=h;cases i;let ⟨l,r,g,hz⟩:=I.list hx;have d:=r.length;refine ⟨"list",_,slot_list_getitem.lookup,g.isList.typeIs,?_⟩;refine wpAny_getItem_list_slice g.isList hs j k .none (by simp) ?_ (by grind);rw[n0c,<- d];refine ⟨.ref s.heap.objs.size,_,I.laid (λb ob q=>k1w _ q) (k1q _) ?_,rfl,q _ (I.hok.fresh (k1q _))⟩;exact ⟨Nat.le_trans (p0y c lo f) hz,_,0,(r.drop (HT.sIx c.length 0 lo)).take (HT.sIx c.length c.length f-HT.sIx c.length 0 lo),k1s _ rfl⟩
def z0x:V->Bool
 | .non=>true
 | .bl _=>true
 | .int _=>true
 | .str _=>true
 |_=>false
def eqV:V->V->Bool
 | .non,.non=>true
 | .bl a,.bl b=>a==b
 | .bl a,.int b=>(if a then 1 else 0)==b
 | .int a,.bl b=>a==(if b then 1 else 0)
 | .int a,.int b=>a==b
 | .str a,.str b=>a==b
 |_,_=>false
def a0l{A:A0}{y:V}{u v:Z0}(e:RelV y u)(c:RelV x v)(g:z0x y=true)(f:z0x x=true):SeqAt.EqAt A s u v (eqV y x):=by
 cases y with
 |non=>
  cases e;cases x with
  |non=>cases c;exact a1n _
  |bl b=>cases c;exact SeqAt.EqAt.none_bool b
  |int b=>let ⟨t,rfl⟩:=c;exact SeqAt.EqAt.none_int b t
  |str b=>let ⟨t,rfl⟩:=c;exact SeqAt.EqAt.none_str b t
  |_=>exact absurd f k1j
 |bl a=>
  cases e;cases x with
  |non=>cases c;exact SeqAt.EqAt.bool_none a
  |bl b=>cases c;exact SeqAt.EqAt.bool_bool a b
  |int b=>let ⟨t,rfl⟩:=c;exact SeqAt.EqAt.bool_int a b t
  |str b=>let ⟨t,rfl⟩:=c;exact SeqAt.EqAt.bool_str a b t
  |_=>exact absurd f k1j
 |int a=>
  let ⟨d,rfl⟩:=e;cases x with
  |non=>cases c;exact SeqAt.EqAt.int_none a d
  |bl b=>cases c;exact SeqAt.EqAt.int_bool a d b
  |int b=>let ⟨t,rfl⟩:=c;exact e1b a d b t
  |str b=>let ⟨t,rfl⟩:=c;exact c1b a d b t
  |_=>exact absurd f k1j
 |str a=>
  let ⟨d,rfl⟩:=e;cases x with
  |non=>cases c;exact SeqAt.EqAt.str_none a d
  |bl b=>cases c;exact SeqAt.EqAt.str_bool a d b
  |int b=>let ⟨t,rfl⟩:=c;exact c1a a d b t
  |str b=>let ⟨t,rfl⟩:=c;exact SeqAt.EqAt.str_str a d b t
  |_=>exact absurd f k1j
 |_=>exact absurd g k1j
def eqU(x:V)(u:Z0):Bool:=match u with
 | .none=>eqV .non x
 | .bool b=>eqV (.bl b) x
 | .int i _=>eqV (.int i) x
 | .str z _=>eqV (.str z) x
 |_=>false
def r1m{y:V}{u:Z0}(r:RelV y u)(f:z0x y=true):eqU x u=eqV y x:=by
 cases y with
 |non=>cases r;rfl
 |bl b=>cases r;rfl
 |int i=>let ⟨t,rfl⟩:=r;rfl
 |str z=>let ⟨t,rfl⟩:=r;rfl
 |_=>exact absurd f k1j
theorem p0x{x:V}:∀{xs:List V} {us:List Z0},zy8 xs us->xs.all z0x=true->us.any (eqU x)=xs.any λy=>eqV y x
 |_,_,.nil,_=>rfl
 |y::xs,u::us,.cons r t,f=>by
  rw[i1n,k1p]at f;rw[g1q,g1q,r1m r f.1,p0x t f.2]
theorem u0a{A:A0}{s:Y0}{x:V}{v:Z0}(b:RelV x v)(c:z0x x=true):∀{xs:List V} {us:List Z0},zy8 xs us->xs.all z0x=true->∀u∈us,SeqAt.EqAt A s u v (eqU x u)
 |_,_,.nil,_=>λu a=>by cases a
 |y::xs,u::us,.cons r t,f=>λd a=>by
  rw[i1n,k1p]at f;rcases j1n.mp a with rfl |a
  .rw[r1m r f.1];exact a0l r b f.1 c
  .exact u0a b c t f.2 d a
def inV(x:V)(xs:List V):Bool:=xs.any λy=>eqV y x
def rIn(K:Fg)(neg:Bool):R2:=λx y H Q=>∃p xs,y=.ref p/\(SqL K H p xs\/SqT K H p xs)/\z0x x=true/\xs.all z0x=true/\Q (.bl (if neg then !inV x xs else inV x xs)) H
def a0k:OpR X (R1 .In) (rIn X.K false):=by
 intro d s j H x y v u Q I e g h;let ⟨p,k,rfl,b,f,fs,q⟩:=h;cases g;rcases b with b |b
 .let ⟨a,r,c,hz⟩:=I.list b;refine SeqAt.in_listAt (eqU x) c.isList (λw i=>u0a e f r fs w (by grind)) ⟨.bl _,H,I,rfl,?_⟩;rw[show a.toArray.any (eqU x)=a.any (eqU x)by simp,p0x r fs];exact q
 .let ⟨a,r,c,hz⟩:=I.tuple b;refine SeqAt.in_tupleAt (eqU x) c (λw i=>u0a e f r fs w (by grind)) ⟨.bl _,H,I,rfl,?_⟩;rw[show a.toArray.any (eqU x)=a.any (eqU x)by simp,p0x r fs];exact q
def k0j:OpR X (R1 .NotIn) (rIn X.K true):=by
 intro d s j H x y v u Q I e g h;let ⟨p,k,rfl,b,f,fs,q⟩:=h;cases g;rcases b with b |b
 .let ⟨a,r,c,hz⟩:=I.list b;refine SeqAt.notIn_listAt (eqU x) c.isList (λw i=>u0a e f r fs w (by grind)) ⟨.bl _,H,I,rfl,?_⟩;rw[show a.toArray.any (eqU x)=a.any (eqU x)by simp,p0x r fs];exact q
 .let ⟨a,r,c,hz⟩:=I.tuple b;refine SeqAt.notIn_tupleAt (eqU x) c (λw i=>u0a e f r fs w (by grind)) ⟨.bl _,H,I,rfl,?_⟩;rw[show a.toArray.any (eqU x)=a.any (eqU x)by simp,p0x r fs];exact q
def x0s:x0t X (.builtin "len") (λxs H Q=>∃p b,xs=[.ref p]/\(SqL X.K H p b\/SqT X.K H p b)/\Q (.int b.length) H):=by
 intro g s j H xs k Q I r h;let ⟨p,b,rfl,c,q⟩:=h;let ⟨u,rfl,i⟩:=c0l r;cases i;have hn:=k0t;rcases c with c |c
 .let ⟨d,e,f,hz⟩:=I.list c;have a:=e.length;exact Calls.call_len_list f.isList (by grind) ⟨.int b.length,H,I.tok _,⟨s.toks+1,by rw[j1m,a]⟩,q⟩
 .let ⟨d,e,f,hz⟩:=I.tuple c;have a:=e.length;exact len_tuple f (by grind) ⟨.int b.length,H,I.tok _,⟨s.toks+1,by rw[j1m,a]⟩,q⟩
def k0i:x0t X (.type "list") (λxs H Q=>∃p d,xs=[.ref p]/\(SqL X.K H p d\/SqT X.K H p d)/\∀l,H l=none->Q (.ref l) (upd H l (.lst d))):=by
 intro i s y H xs B Q I r h;let ⟨p,d,rfl,j,q⟩:=h;let ⟨u,rfl,z⟩:=c0l r;cases z;have fin:∀(a:List Z0),zy8 d a->d.length<=sizeLine->∀(c:J0) (f:Nat),(∀b v,s.heap.get? b=some v->c.get? b=some v)->
  c.get? s.heap.objs.size=some {cls:=.type "list",dict:=none,data:=.seq a.toArray f,slots:=#[]}->EP X i y Q (.ref s.heap.objs.size) {s with heap:=c}:=λa g hz c f kp e=>
  ⟨.ref s.heap.objs.size,_,I.laid kp (k1q _) (show zx6 X.prog X.w _ c _ (.lst d)from ⟨hz,a,f,g,e⟩),rfl,q _ (I.hok.fresh (k1q _))⟩
 rcases j with j |j
 .let ⟨a,g,m,hz⟩:=I.list j;have k:=g.length;let ⟨o,ho,t,n,hd⟩:=m.isList;exact call_list_seq p (.inl rfl) ho t hd (λc f kp e=>fin a g hz c f kp e) (by grind)
 .let ⟨a,g,m,hz⟩:=I.tuple j;have k:=g.length;let ⟨o,ho,t,n,hd⟩:=m;exact call_list_seq p (.inr rfl) ho t hd (λc f kp e=>fin a g hz c f kp e) (by grind)
def z0i:x0t X (.type "tuple") (λxs H Q=>∃p c,xs=[.ref p]/\((SqL X.K H p c/\∀l,H l=none->Q (.ref l) (upd H l (.tup c)))\/(SqT X.K H p c/\Q (.ref p) H))):=by
 intro d s n H xs v Q I r h;let ⟨p,c,rfl,h⟩:=h;let ⟨u,rfl,t⟩:=c0l r;cases t;rcases h with ⟨f,q⟩|⟨f,q⟩
 .let ⟨a,g,i,hz⟩:=I.list f;have k:=g.length;refine call_tuple_list i.isList (λj kp=>?_) (by grind);have m:=I.kept (t':=s.toks) kp;have I2:Inv X d n (upd H j.objs.size (.tup c)) {s with heap:=j.push {cls:=.type "tuple",data:=.seq a.toArray}}:=
   m.laid (λb o e=>k1w _ e) (k1q _) (⟨hz,a,g,zZ7.new _ _⟩)
  exact ⟨.ref j.objs.size,_,I2,rfl,q _ (m.hok.fresh (k1q _))⟩
 .let ⟨a,g,i,hz⟩:=I.tuple f;exact call_tuple_same i ⟨.ref p,H,I,rfl,q⟩
def tyV(K:Fg)(T:String)(x:V)(H:Hp):Prop:=match x with
 | .str _=>T="str"
 | .int _=>T="int"
 | .ref p=>(T="list"/\∃xs,SqL K H p xs)\/(T="tuple"/\∃o,K.lookup p=some o/\o.cls=.type "tuple"/\o.dict=none)\/
  (T="dict"/\((∃kvs,H p=some (.dK kvs))\/∃kvs G,H p=some (.dT kvs G)))\/(T="set"/\∃S n,H p=some (.set S n))\/(T="tuple"/\∃xs,H p=some (.tup xs))
 |_=>False
def r1l{pins:List (X0×Obj)}{σ:St}{H:Hp}{T:String}{v:Z0}(I:Inv X pins σ H s)(r:RelV x v)(ty:tyV X.K T x H):
 s.TypeIs v T/\∀a,v=.ref a->∃ob,s.heap.get? a=some ob/\ob.dict=none:=by
 cases x with
 |str z=>
  let ⟨t,rfl⟩:=r;cases ty;exact ⟨typeIs_str s z t,λ_ e=>nomatch e⟩
 |int i=>
  let ⟨t,rfl⟩:=r;cases ty;exact ⟨typeIs_int s i t,λ_ e=>nomatch e⟩
 |ref p=>
  cases r;rcases ty with ⟨rfl,j,k⟩|⟨rfl,o,b,l,hd⟩|⟨rfl,b⟩|⟨rfl,S,n,b⟩|⟨rfl,j,b⟩
  .let ⟨d,_,g,_⟩:=I.list k;refine ⟨g.isList.typeIs,λa e=>?_⟩;cases e;let ⟨o,n,e,c,hd,_⟩:=g
   grind
  .refine ⟨⟨o,I.kIn p o b,l⟩,λa e=>?_⟩;cases e;exact ⟨o,I.kIn _ o b,hd⟩
  .have z:∃o,s.heap.get? p=some o/\o.ExactDict:=by
    rcases b with ⟨f,b⟩|⟨f,G,b⟩
    .let ⟨_,_,_,_,o,_,_,e,ex,_⟩:=I.hok p _ b
     grind
    .let ⟨_,_,_,_,o,_,_,e,ex,_⟩:=I.hok p _ b
     grind
   let ⟨o,e,ex⟩:=z;refine ⟨⟨o,e,ex.1⟩,λa e2=>?_⟩;cases e2;exact ⟨o,e,ex.2.1⟩
  .let ⟨o,_,_,_,e,ex,_⟩:=I.hok p _ b;refine ⟨⟨o,e,ex.1⟩,λa e2=>?_⟩;cases e2;exact ⟨o,e,ex.2.1⟩
  .let ⟨_,d,_,o,e,c,_,hd⟩:=I.hok p _ b;refine ⟨⟨o,e,c⟩,λa e2=>?_⟩
   grind
 |_=>exact False.elim ty
def tBM0(K:Fg)(T:String)(r:V->List V->Hp->VK->Prop)(to:TE):TE:=λσ H Q=>to σ H λx H1=>tyV K T x H1/\r x [] H1 Q
def tBM(K:Fg)(T:String)(r:V->List V->Hp->VK->Prop)(to:TE)(t:TA):TE:=λσ H Q=>to σ H λx H1=>tyV K T x H1/\t σ H1 λxs H2=>r x xs H2 Q
variable{o e:Expr}{es:List Expr}{to:TE}{t:TA}{name:Str}{apos zv1:Pos}{T id:String}{r:V->List V->Hp->VK->Prop}
def zR7(i:PlainAttrs T)(slot:Slot T name id)(d:typeOf (.builtin id)=pure (.type "method_descriptor"))(hm:MtR X id r)(ho:PE X o to)
 (b:U1 o name X.env (eval o X.env)=eval o X.env:=by rfl) (c:(apos.endLine==zv1.line)=true:=by rfl):PE X (.Call (.Attribute o name apos) [] [] zv1) (tBM0 X.K T r to):=by
 intro a s e H Q I h;refine W3 b c (thn (ho a s e H _ I h) λv j zz=>?_);let ⟨x,k,f,g,ty,l⟩:=zz;let ⟨m,n⟩:=r1l f g ty;exact ⟨T,id,i,slot,d,m,n,i1i rfl (g1p (hm a j e k x [] v [] Q f g .nil l))⟩
def z12(m:PlainAttrs T)(slot:Slot T name id)(g:typeOf (.builtin id)=pure (.type "method_descriptor"))(hm:MtR X id r)(ho:PE X o to)(ha:PA X (e::es) t)
 (b:U1 o name X.env (eval o X.env)=eval o X.env:=by rfl)
 (d:((Q3 zv1 (R0 (e::es) X.env)).all (λx=>!x.1)&&(backToKw zv1 (keywordEach [] X.env)).all (λx=>x.1.isSome)
  &&decide ((e::es).length+([]:List Keyword).length+(if ([]:List Keyword).isEmpty then 0 else 1)<30))=true:=by rfl)
 (c:(apos.endLine==zv1.line)=true:=by rfl) (hs:R0 (e::es) X.env=(false,eval e X.env)::R0 es X.env:=by rfl) (f:(Q3 zv1 (R0 es X.env)).any (·.1)=false:=by rfl):
 PE X (.Call (.Attribute o name apos) (e::es) [] zv1) (tBM X.K T r to t):=by
 intro a s i H Q I h;refine wpAny_Call_method_late b d c rfl (thn (ho a s i H _ I h) λv n zz=>?_);let ⟨x,p,j,k,ty,u⟩:=zz;let ⟨w,y⟩:=r1l j k ty;refine ⟨T,id,m,slot,g,w,y,?_⟩;have l:=ha zv1 a n i p _ j u;rw[hs]at l ⊢;refine i1i (by grind) (c1n ?_);exact thn l λz B ⟨C,D,I2,F,G⟩=>hm a B i D x C v z Q I2 k F G
end
def MtM(X:Cx)(id:String)(r:V->List V->Hp->VK->Prop):Prop:=
 ∀(pins:List (X0×Obj)) (s:Y0) (σ:St) (H:Hp) (x:V) (xs:List V) (v:Z0) (us:List Z0) (Q:VK),Inv X pins σ H s->RelV x v->zy8 xs us->r x xs H Q->
  wpAny (model X.prog X.w) X.A (call (.builtin id) (v::us)) (EP X pins σ Q) X.xe s
def zy8.one:∀{x:V} {us:List Z0},zy8 [x] us->∃u,us=[u]/\RelV x u
 |_,_,.cons r .nil=>⟨_,rfl,r⟩
def zy8.two:∀{x y:V} {us:List Z0},zy8 [x,y] us->∃u v,us=[u,v]/\RelV x u/\RelV y v
 |_,_,_,.cons r (.cons q .nil)=>⟨_,_,rfl,r,q⟩
def zy8.zero:∀{us:List Z0},zy8 [] us->us=[]
 |_,.nil=>rfl
theorem zy8.reverse{us:List Z0}(h:zy8 xs us):zy8 xs.reverse us.reverse:=by
 induction h with
 |nil=>exact .nil
 |cons r t a=>rw[e1z,e1z];exact zy8.append a (.cons r .nil)
theorem zy8.rep{xs:List V}{us:List Z0}(h:zy8 xs us):∀k:Nat,zy8 (List.replicate k xs).flatten (List.replicate k us).flatten
 | 0=>.nil
 |k+1=>by
  exact zy8.append h (zy8.rep h k)
theorem k0h(a:List Z0):∀(k:Nat) (b:List Z0),
 List.foldl (λc d=>c++d) b.toArray (List.replicate k a.toArray)=(b++(List.replicate k a).flatten).toArray
 | 0,b=>by simp
 |k+1,b=>by
  have e:b.toArray++a.toArray=(b++a).toArray:=by simp
  have e2:(b++a)++(List.replicate k a).flatten=b++(List.replicate (k+1) a).flatten:=by
   grind
  rw[<-e2,<- k0h a k (b++a),<- e,e1o,a1m]
section
variable{X:Cx}{pins:List (X0×Obj)}{σ:St}{H:Hp}{s:Y0}{l:X0}{xs ys:List V}
def Inv.z13{a its':List Z0}{n:Nat}{f:Array Z0->Array Z0}{t':Nat}(I:Inv X pins σ H s)(b:H l=some (.lst xs))
 (e:s.heap.get? l=some {cls:=.type "list",data:=.seq a.toArray n}) (c:f a.toArray=its'.toArray) (d:zy8 ys its') (hz:ys.length<=sizeLine):
 Inv X pins σ (upd H l (.lst ys)) {s with heap:=s.heap.update l (Obj.mapSeq f),toks:=t'}:=by
 have q:=PySem.IsL.update e f;rw[c]at q;refine I.write (by rw[b];exact trivial) (.inl rfl) (λj u g i=>(j1t s.heap (Obj.mapSeq f) (j1k g)).trans i) ⟨_,q⟩ ?_;exact ⟨hz,its',_,d,q⟩
def Inv.lnew{a:List Z0}{t':Nat}(I:Inv X pins σ H s)(b:zy8 ys a)(hz:ys.length<=sizeLine):
 Inv X pins σ (upd H s.heap.objs.size (.lst ys)) {s with heap:=s.heap.push {cls:=.type "list",data:=.seq a.toArray},toks:=t'}:=
 I.laid (λ_ _ q=>k1w _ q) (k1q _) ⟨hz,a,0,b,k1s _ rfl⟩
theorem Inv.fresh(I:Inv X pins σ H s):H s.heap.objs.size=none:=I.hok.fresh (k1q _)
def Inv.zV5(I:Inv X pins σ H s)(b:H l=some (.lst xs)):xs.length<=sizeLine/\∃(a:List Z0) (n:Nat),zy8 xs a/\xs.length=a.length/\s.heap.get? l=some {cls:=.type "list",data:=.seq a.toArray n}:=by
 let ⟨z,a,n,r,e⟩:=I.hok l _ b;exact ⟨z,a,n,r,r.length,e⟩
def v1h{n:Nat}(h:n<=sizeLine):Builtin.List.listTooLong n=false:=by
 exact Q0 (by lia)
end
section
variable{X:Cx}
def a0j:V->List V->Hp->VK->Prop:=λx vs H Q=>∃l xs y,x=.ref l/\vs=[y]/\H l=some (.lst xs)/\xs.length<sizeLine/\Q .non (upd H l (.lst (xs++[y])))
def a0i:MtM X "list.append" a0j:=by
 intro b s i H x j v k Q I d f h;let ⟨l,m,y,rfl,rfl,c,hz,q⟩:=h;cases d;let ⟨u,rfl,g⟩:=f.one;let ⟨z,a,n,r,o,e⟩:=I.zV5 c;refine S5 b1w ⟨_,e,rfl⟩ c1d (c1m _ _) (b1s l a.toArray n u (by grind)) ⟨e,?_⟩;refine ⟨.non,_,I.z13 c e (by simp) (r.append (.cons g .nil)) ?_,rfl,q⟩
 grind
def e0x:V->List V->Hp->VK->Prop:=λx vs H Q=>∃l xs,x=.ref l/\vs=[]/\H l=some (.lst xs)/\Q .non (upd H l (.lst xs.reverse))
def c0c:MtM X "list.reverse" e0x:=by
 intro c s i H x j v k Q I f g h;let ⟨l,m,rfl,rfl,d,q⟩:=h;cases f;have b:=g.zero;subst b;let ⟨z,a,n,r,o,e⟩:=I.zV5 d;refine S5 F.slot_list_reverse ⟨_,e,rfl⟩ F.entry_list_reverse (F.args_list_reverse_1 _) (AutoSeq1.list_reverse_list_0 l a.toArray n (by rw[j1m];lia)) ⟨e,?_⟩;refine ⟨.non,_,I.z13 (its':=a.reverse) d e (by simp) r.reverse ?_,rfl,q⟩;rw[h1k];lia
def rCat:R2:=λx y H Q=>∃l b xs zs,x=.ref l/\y=.ref b/\H l=some (.lst xs)/\H b=some (.lst zs)/\xs.length+zs.length<=sizeLine/\∀p,H p=none->Q (.ref p) (upd H p (.lst (xs++zs)))
def zR8:OpR X (K3 .Add) rCat:=by
 intro d s p H x y v u Q I f g h;let ⟨l,b,t,w,rfl,rfl,i,j,hz,q⟩:=h;cases f;cases g;let ⟨z,c,n,r,B,e⟩:=I.zV5 i;let ⟨z2,a,n2,k,m,e2⟩:=I.zV5 j;refine PySem.P.add_list e e2 ?_ (by grind);have o:c.toArray++a.toArray=(c++a).toArray:=by simp
 rw[o];exact ⟨.ref _,_,I.lnew (r.append k) (by grind),rfl,q _ I.fresh⟩
def rRep:R2:=λx y H Q=>∃l k xs,x=.ref l/\y=.int k/\H l=some (.lst xs)/\-(2^63)<=k/\k<2^63/\xs.length*k.toNat<=sizeLine/\
 ∀p,H p=none->Q (.ref p) (upd H p (.lst (List.replicate k.toNat xs).flatten))
def p1d(xs:List α)(k:Nat):(List.replicate k xs).flatten.length=k*xs.length:=by simp
def zR9:OpR X (K3 .Mult) rRep:=by
 intro j s M H x y v u Q I o p h;let ⟨l,k,N,rfl,rfl,w,B,C,hz,q⟩:=h;cases o;let ⟨t,rfl⟩:=p;let ⟨z,b,n,r,D,e⟩:=I.zV5 w;have d:b.toArray.size*k.toNat<=sizeLine:=by rw[j1m,<- D];exact hz
 have f:¬b.toArray.size*k.toNat>(2^63-1)/8:=by
  have:(sizeLine:Nat)<=(2^63-1)/8:=by decide
  lia
 have g:¬(!Builtin.List.listFitsIndex k)=true:=by
  rw[fitsIndex_both B C]
  grind
 have c:¬Builtin.List.listTooLong (b.toArray.size*k.toNat)=true:=by
  rw[v1h d]
  grind
 have i:List.foldl (λG J=>G++J) #[] (List.replicate (if b.toArray.isEmpty=true then 0 else k.toNat) b.toArray)=(List.replicate k.toNat b).flatten.toArray:=by
  have f0:=λm=>by
   have:=k0h b m [];rw[i1x]at this;exact this
  rw[f0];cases b with
  |nil=>simp
  |cons a O=>rw[O0 (by simp)]
 refine wpAny_binaryOp_repeat_ref (by decide) ⟨_,e,rfl⟩ (λL=>typeIs_int L k t) noFill_list_mul F.fills_int_mul F.slot_int_rmul repeat_list F.slot_int_index.lookup
  (S5 F.slot_int_rmul (typeIs_int s k t) F.entry_int_rmul (F.args_int_rmul_2 _ _) (int___rmul___int_list k t l b.toArray n)
   ⟨e,rfl,⟨_,e,rfl⟩,S5 F.slot_list_mul ⟨_,e,rfl⟩ F.entry_list_mul (F.args_list_mul_2 _ _) (AutoListH.list___mul___list_int_3 l b.toArray n k t g f c) ⟨e,?_⟩⟩)
 rw[i];exact ⟨.ref _,_,I.lnew (r.rep k.toNat) (by rw[p1d,e1w];exact hz),rfl,q _ I.fresh⟩
end
section
set_option maxRecDepth 100000 in
end
end L2
namespace Att
open W Calls PyProof.Rows
def p0w{P:P0}{h:J0}:∀(ns:List Int) (vs:List Z0),WellAll P h vs (ns.map WData.int)->IntsAre vs ns:=by
 intro ns
 induction ns with
 |nil=>
  intro vs w;cases w;exact .nil
 |cons n ns c=>
  intro vs w;cases w with
  |cons a b=>
   cases a;exact .cons _ _ (c _ b)
def a0h{l:OpenLaw}{n:Nat}(hn:l.most=some n){P:P0}{h:J0}{args:List WData}{b:List Z0}
 (c:l.row.toRowW.claim.pre args=true) (i:WellAll P h b args):
 ∃a vs ns,b=[Value.ref a]/\args=[WData.list (ns.map WData.int)]/\h.get? a=some {cls:=.type "list",data:=.seq vs.toArray}/\IntsAre vs ns/\ns.length<=n:=by
 have j:=(pre_splitW c).1;have k:l.pre.holds [] {args:=args}=true:=(pre_splitW c).2;let ⟨d,r,rfl,m,o⟩:=hasAllW_cons j;obtain rfl:=hasAllW_nil o;let ⟨v,rfl,p⟩:=hasW_list m;let ⟨ns,rfl⟩:=items_int p;have e:ns.length<=n:=by
  have g:=by
   have g:=(holds_andW k).1;rw[hn]at g;exact g
  have w:=condW_of g (w_not (w_lt w_lit (w_len_list (w_arg rfl))))
  grind
 cases i with
 |cons t u=>
  cases u;cases t with
  |list ho f=>exact ⟨_,_,ns,rfl,rfl,ho,p0w ns _ f,e⟩
def a0g(l:OpenLaw)(args:List WData):l.row.toRowW.claim.post args (.bool true) args=true:=
 postW_of
  (show WShape.has [] (.bool true) .bool=true by first |rfl |decide |simp[WShape.has])
  (w_eq_bool (w_res rfl) w_lit) rfl
def zi4{l:OpenLaw}{n:Nat}{q:V0}{loose:List Str}{XP:(Str->Option Z0)->J0->Prop}{YP:T0->J0->Prop}{d:DefRec}
 (hn:l.most=some n) (k:d.params.defaults=[])
 (call:∀(w:T0) (zy0 b:Y0) (mg m:Str->Option Z0) (fa:X0) (o:Obj) (pm cd doc:Z0) (a:X0) (vs:List Z0) (ns:List Int),
  Ground q loose [] XP w zy0 mg m b.heap->YP w b.heap->
  b.heap.get? fa=some o->o.data=.func (docDef d.name d.params d.body d.scope pm cd doc)->b.heap.CodeRec cd d.name->mg d.name=some (.ref fa)->
  b.heap.get? a=some {cls:=.type "list",data:=.seq vs.toArray}->IntsAre vs ns->ns.length<=n->b.gens=#[]->
  A2 (model l.prog w) callerA (.call (.ref fa) ⟨[.ref a],[]⟩) (λr j=>r=.ok (.ret (.bool true))/\OldK b.heap j.heap/\j.os=b.os/\AllBare j.gens) b):
 WalkO q loose XP YP l.row.toRowW d [] (λf vs=>PySem.call f vs):=by
 intro w zy0 b mg m G Y fa o pm cd doc B kV ho hd p v t C args y as e z D u F;obtain rfl:B=.none:=Dflts.none v k;obtain rfl:kV=.none:=Dflts.noKw v;let ⟨a,vs,ns,rfl,rfl,g,c,i⟩:=a0h hn e u;refine enter_call (W4 (call w zy0 b mg m fa o pm cd doc a vs ns G Y ho (fd_plain hd) p t g c i C) λr j I=>?_);let ⟨rfl,J,L,M⟩:=I;exact ⟨.inl ⟨.bool true,.bool true,[],rfl,λ_=>rfl,.bool true,a0g l _,λ_=>⟨List.Pairwise.nil,λ_ hm=>(nomatch hm)⟩⟩,J,L,M⟩
section
end
end Att
namespace L2
open Spec PyProof.Rows
variable{X:Cx}{x:Str}{H H':Hp}{o:Option V}{u:Z0}{y:V}{P:V0}{w:T0}{G:X0->Prop}{kvs:List (List Key×V)}{xs:List (List Key×Addr×Value)}{a:X0}{pos:Pos}
theorem k0g:∀{vs:List Z0} {ns:List Int},IntsAre vs ns->zy8 (ns.map V.int) vs
 |_,_,.nil=>.nil
 |_,_,.cons n t h=>.cons ⟨t,rfl⟩ (k0g h)
def zV6(H:Hp):Prop:=∀b,H b=none\/∃o xs,H b=some (.frz o (.lst xs))
def v1g{P:V0}{w:T0}{K:Fg}{mg J:Str->Option Z0}{CX:CXT}{k:Nat}{fa a:X0}{S:l3}{x:Str}{sp:Sp}{c:Y0}{vs:List Z0}{ns:List Int}
 (U:K.In c.heap) (p:c.heap.Ns V2 mg) (g:c.heap.Ns builtinsNs J) (L:∀x:Str,x≠"__name__"->J x=W1 x) (t:c.heap.NoLimit) (hg:c.gens=#[])
 (ha:c.heap.get? a=some {cls:=.type "list",data:=.seq vs.toArray}) (X:IntsAre vs ns) (Z:ns.length<=sizeLine) (hr:zu7 k callerA)
 (F:∀base:J0,K.In base->base.Ns V2 mg->zo4 P w K mg base CX k fa S [x] sp) (l:∀(s:Y0) (u:Z0),BindsTo s S ⟨[u],[]⟩ [(x,u)])
 (M:∀H:Hp,zV6 H->SqL K H a (ns.map V.int)->sp [.ref a] H (λv _=>v=.bl true) λ_ _ _=>False)
 (N:∀H e i,CX [] H c (λ_ _ _=>False) e i->False):
 A2 (model P w) callerA (.call (.ref fa) ⟨[.ref a],[]⟩) (λr i=>r=.ok (.ret (.bool true))/\OldK c.heap i.heap/\i.os=c.os/\AllBare i.gens) c:=by
 have rv:=k0g X;have y:=X.length;have core:∀H:Hp,zV6 H->SqL K H a (ns.map V.int)->HOk P w H c.heap->(∀b,H b≠none->b=a)->(H a≠none->K.lookup a=none)->
  A2 (model P w) callerA (.call (.ref fa) ⟨[.ref a],[]⟩) (λr i=>r=.ok (.ret (.bool true))/\OldK c.heap i.heap/\i.os=c.os/\AllBare i.gens) c:=by
  intro H hO hS hok hA hK;have f:∀{b:X0} {o:Obj},c.heap.get? b=some o->H b=none->(za2 c.heap H).get? b=some o:=λe n=>v1r e n
  have O:∀{b:X0} {o:Obj} {B:Array M1} {C:Nat},c.heap.get? b=some o->o.data=.dict B C->H b=none:=λ{b o B C} e d=>by
   cases q:H b with
   |none=>rfl
   |some u=>
    have Q:b=a:=hA b (by rw[q];simp);subst Q;rw[ha]at e;cases e;have d':Data.seq vs.toArray _=Data.dict B C:=d;cases d'
  have j:∀{b:X0} {m:Str->Option Z0},c.heap.Ns b m->(za2 c.heap H).Ns b m:=λ{b m} zz=>by let ⟨o,B,C,e,d,r⟩:=zz;exact ⟨o,B,C,f e (O e d),d,r⟩
  have D:K.In (za2 c.heap H):=λb o e=>f (U b o e) (by
   cases q:H b with
   |none=>rfl
   |some u=>
    have Q:b=a:=hA b (by rw[q];simp);subst Q;rw[hK (by rw[q];simp)]at e;cases e)
  have hM:Mod K mg (za2 c.heap H):=⟨D,j p,⟨J,j g,L⟩,let ⟨mc,h1,h2⟩:=t;⟨mc,j h1,h2⟩⟩;have e0:za4 P w K mg (za2 c.heap H) callerA [] c H:=⟨rfl,hM,λb o e=>p1v e,e1c (b0d _ _),trivial,λb g=>absurd (show b∈([]:List X0)from g) (by simp),hok,.of_eq hg⟩;refine W4 ((F _ D (j p)).run callerA [] c H ⟨[.ref a],[]⟩ [.ref a] [.ref a] _ _ hr e0 (l c (.ref a)) (.cons rfl .nil) (M H hO hS)) λr i h=>?_
  cases r with
  |error e=>exact (N H e i h).elim
  |ok fl=>
   cases fl with
   |next=>exact False.elim h
   |brk=>exact False.elim h
   |cont=>exact False.elim h
   |ret u=>
    let ⟨v,H',os,bare,un,G,r',q⟩:=h;have q':v=.bl true:=q;subst q';obtain rfl:u=Value.bool true:=r';refine ⟨rfl,OldK.of_keep λb o e=>?_,os,bare⟩;cases q:H b with
    |none=>exact un.keep b o e q (by intro z;exact absurd (show b∈([]:List X0)from z) (by simp)) (by simp)
    |some u=>
     rcases hO b with z |⟨ob,xs,z⟩
     .rw[q]at z;cases z
     .have z2:=un.zj8 b ob _ z;let ⟨e1,_⟩:=hok b _ z;let ⟨e2,_⟩:=G b _ z2;rw[e]at e1;cases e1;exact e2
 cases R:K.lookup a with
 |some o=>
  have e:=U a o R;rw[ha]at e;cases e;refine core (λ_=>none) (λ_=>.inl rfl) (.inr ⟨_,vs.toArray,_,R,rfl,rfl,rfl,by rw[j1m,y];exact Z,by simpa using rv⟩) (λb u z=>by have I:(none:Option HO)=some u:=z;cases I) (λb z=>absurd rfl z) λz=>absurd rfl z
 |none=>
  refine core (λb=>if b=a then some (.frz {cls:=.type "list",data:=.seq vs.toArray} (.lst (ns.map V.int)))else none) (λb=>?_) (.inl (.inr ⟨{cls:=.type "list",data:=.seq vs.toArray},H0 rfl⟩)) (λb u z=>?_) (λb z=>?_) λ_=>R
  .by_cases g:b=a
   .exact .inr ⟨_,_,H0 g⟩
   .exact .inl (O0 g)
  .by_cases g:b=a
   .have I:=(H0 g).symm.trans z;cases I;subst g;exact ⟨ha,by rw[k1v];exact Z,vs,_,rv,ha⟩
   .have I:=(O0 g).symm.trans z;cases I
  .by_cases g:b=a
   .exact g
   .exact absurd (O0 g) z
def zX4{l:PySem.W.OpenLaw}{n k:Nat}{q:V0}{loose:List Str}{XP:(Str->Option Z0)->J0->Prop}{YP:T0->J0->Prop}{d:DefRec}{K:P0->Fg}{CX:T0->CXT}{sp:T0->Sp}{x:Str}
 (hn:l.most=some n) (p:n<=sizeLine) (r:d.params.defaults=[]) (hr:zu7 k callerA)
 (I:∀(w:T0) (h:J0),YP w h->(K w.params).In h)
 (F:∀(w:T0) (mg:Str->Option Z0) (fa:X0) (h:J0),(K w.params).In h->h.Ns V2 mg->mg d.name=some (.ref fa)->
  ∃t:l3,(∀(s:Y0) (u:Z0),BindsTo s t ⟨[u],[]⟩ [(x,u)])/\
   ∀base:J0,(K w.params).In base->base.Ns V2 mg->zo4 l.prog w (K w.params) mg base (CX w) k fa t [x] (sp w))
 (y:∀(w:T0) (H:Hp) (a:X0) (ns:List Int),ns.length<=n->zV6 H->SqL (K w.params) H a (ns.map V.int)->sp w [.ref a] H (λv _=>v=.bl true) λ_ _ _=>False)
 (z:∀(w:T0) (H:Hp) (s:Y0) (e:Z0) (B:Y0),CX w [] H s (λ_ _ _=>False) e B->False):
 PySem.W.WalkO q loose XP YP l.row.toRowW d [] (λf vs=>PySem.call f vs):=by
 refine Att.zi4 hn r λw zy0 j mg Q fa o pm cd doc a vs ns G Y ho hd J C m i c L=>?_
 have D:=I w _ Y;let ⟨t,M,N⟩:=F w mg fa _ D G.T.g C;exact v1g D G.T.g G.T.b G.T.builtins G.T.nolimit L m i (j1o c p) hr N M (λH O P=>y w H a ns c O P) λH e B=>z w H j e B
def inClass(s:Y1)(j:Nat):Y1:=match s with
 | .ClassDef _ _ _ body _ _ _ _ _ _ _=>body.getD j (.Pass ⟨0,0,0,0⟩)
 |_=>.Pass ⟨0,0,0,0⟩
def zo6(s:Y1):Arguments:=match s with
 | .FunctionDef _ a _ _ _ _ _ _ _ _=>a
 |_=>{posonlyargs:=[],args:=[],vararg:=none,kwonlyargs:=[],kw_defaults:=[],kwarg:=none,defaults:=[]}
def zw5(s:Y1):List Y1:=match s with
 | .FunctionDef _ _ b _ _ _ _ _ _ _=>b
 |_=>[]
def zz0(s:Y1):P4:=match s with
 | .FunctionDef _ _ _ _ _ _ sc _ _ _=>sc
 |_=>{kind:=.function,names:=[],isGenerator:=false,isCoroutine:=false}
abbrev CX0:CXT:=λ_ _ _ _ _ _=>False
abbrev E0:XK:=λ_ _ _=>False
def z14:r1n CX0 X E0:=λ_ _ _ _ _ _ _ h=>h.elim
structure Fun(K:Fg)(x qual:Str)(st:Y1)(f:X0)(fd:l3):Prop where
 ex:∃(oc:Z0) (od:Option X0) (kV doc pm:Z0) (an:Option X0) (cdv ct:Z0) (osl:Array (Option Z0)),
  fd=PySem.W.fnOf x qual (zo6 st) (zw5 st) (zz0 st) .none kV doc pm an cdv ct/\K.lookup f=some ⟨oc,od,.func fd,osl⟩/\PySem.W.codeIn K cdv qual=true
 kp:PySem.W.keepIn K (.ref f)=true
section
variable{P:V0}{w:T0}{K:Fg}{mg:Str->Option Z0}{base:J0}
def Fun.ok{a:Str}{st:Y1}{f:X0}{e:l3}{N ps:List Str}{k:Nat}{sp:Sp}(F:Fun K x a st f e)(S:zz2 N ps (zz0 st))(len:∀vs H Q E,sp vs H Q E->vs.length=ps.length)
 (b:∀(cdv:Z0) (A:A0) (outer:List Env) (s:Y0) (H:Hp) (vs:List V) (Q:VK) (E:XK),zu7 k (A.deeper (T5 a (zz0 st) s.heap.objs.size f cdv))->sp vs H Q E->
  ∃t,PSs (zX2 CX0 P w K mg base N a (zz0 st) f cdv A outer s H E).nox (zw5 st) t/\t {nx:=λ_ H'=>Q .non H',rt:=Q} (start N vs) H):zo4 P w K mg base CX0 (k+1) f e ps sp:=by
 let ⟨i,j,kV,doc,pm,l,cdv,ct,g,rfl,lk,c⟩:=F.ex;refine zR3 lk c S len λA outer s H vs Q E hr d=>?_
 let ⟨t,h,q⟩:=b cdv A outer s H vs Q E hr d;exact ⟨t,h.nox,q⟩
def Fun.binds{a:Str}{st:Y1}{f:X0}{c:l3}{ps:List Str}(F:Fun K x a st f c)
 (h:∀(kV doc pm:Z0) (b:Option X0) (cdv ct:Z0) (us:List Z0),us.length=ps.length->bindArgs (PySem.W.fnOf x a (zo6 st) (zw5 st) (zz0 st) .none kV doc pm b cdv ct) ⟨us,[]⟩=pure (ps.zip us)):Binds K c ps []:=by
 let ⟨g,i,kV,doc,pm,b,cdv,ct,d,rfl,lk,e⟩:=F.ex;exact .all (h kV doc pm b cdv ct)
end
section
variable{X:Cx}
def pv(i:Nat){pos:Pos}(b:X.N[i]?=some x:=by rfl)(c:Vis X.env.scope x:=by walk_at "v3")(hd:(x==("__debug__":Str))=false:=by decide)
 (a:(x==("__classdict__":Str))=false:=by decide):PE X (.Name x pos) (zV1 i):=i8 b c hd a
end
def zz7(H H':Hp):Prop:=∀b o,H b=some o->H' b=some o
def zz7.refl(H:Hp):zz7 H H:=λ_ _ h=>h
def zz7.trans{d e:Hp}(a:zz7 H d)(b:zz7 d e):zz7 H e:=λc o h=>b c o (a c o h)
def zz7.free(e:zz7 H H'){l:X0}(h:H' l=Option.none):H l=Option.none:=by
 cases q:H l with
 |none=>rfl
 |some o=>
  rw[e l o q]at h;cases h
section
variable{κ:Type}[DecidableEq κ]
def zf3(kvs:List (κ×V))(k:κ):Option V:=(kvs.find? λkv=>decide (kv.1=k)).map (·.2)
def putK(kvs:List (κ×V))(k:κ)(v:V):List (κ×V):=
 if (kvs.any λkv=>decide (kv.1=k))=true then kvs.map (λkv=>if kv.1=k then (kv.1,v)else kv)else kvs++[(k,v)]
def q0q{p:κ×V}{r:List (κ×V)}{k:κ}(e:p.1=k):zf3 (p::r) k=some p.2:=by simp[zf3,e]
def q0p{p:κ×V}{r:List (κ×V)}{k:κ}(e:¬p.1=k):zf3 (p::r) k=zf3 r k:=by simp[zf3,e]
theorem e0w(k:κ):∀kvs:List (κ×V),(kvs.any λa=>decide (a.1=k))=(zf3 kvs k).isSome
 | []=>rfl
 |p::r=>by
  rw[g1q];by_cases e:p.1=k
  .simp only[q0q e,M0 e,Bool.true_or,Option.isSome_some]
  .rw[q0p e,Q0 e];exact e0w k r
def z0h(kvs:List (κ×V))(k:κ)(v:V):(putK kvs k v).length<=kvs.length+1:=by
 unfold putK
 grind
def zk4.zc3{u:Option Z0}(r:zk4 o u):o.isSome=u.isSome:=by
 cases o with
 |none=>cases u with
  |none=>rfl
  |some _=>exact r.elim
 |some _=>cases u with
  |none=>exact r.elim
  |some _=>rfl
theorem zk4.getD{u:Option Z0}{d:V}{d':Z0}(r:zk4 o u)(rd:RelV d d'):RelV (o.getD d) (u.getD d'):=by
 cases o with
 |none=>cases u with
  |none=>exact rd
  |some _=>exact r.elim
 |some _=>cases u with
  |none=>exact r.elim
  |some _=>exact r
def KV.val{kvs:List (κ×V)}{vs:List (κ×Value)}(r:KV kvs vs)(k:κ):zk4 (zf3 kvs k) (valueAt vs k):=by
 unfold KV at r
 induction r with
 |nil=>exact True.intro
 | @cons p q i a h t f=>
  let ⟨d,g⟩:=h;by_cases e:p.1=k
  .have c:q.1=k:=d.symm.trans e;have b:valueAt (q::a) k=some q.2:=by simp[valueAt,h1j,c]
   rw[q0q e,b];exact g
  .have c:¬q.1=k:=λz=>e (d.trans z)
   have b:valueAt (q::a) k=valueAt a k:=by simp[valueAt,h1j,c]
   rw[q0p e,b];exact f
theorem KV.any{kvs:List (κ×V)}{vs:List (κ×Value)}(r:KV kvs vs)(k:κ):(kvs.any λa=>decide (a.1=k))=vs.any λa=>decide (a.1=k):=by
 induction r with
 |nil=>rfl
 |cons h t b=>rw[g1q,g1q,b,h.1]
def KV.zX5{kvs:List (κ×V)}{vs:List (κ×Value)}(r:KV kvs vs)(k:κ)(c:RelV y u):
 KV (kvs.map λa=>if a.1=k then (a.1,y)else a) (vs.map λa=>if a.1=k then (a.1,u)else a):=by
 induction r with
 |nil=>exact .nil
 | @cons p q d e h t b=>
  rw[k1l,k1l];refine .cons ?_ b
  grind
def KV.put{kvs:List (κ×V)}{vs:List (κ×Value)}(r:KV kvs vs)(k:κ)(a:RelV y u):KV (putK kvs k y) (stored vs k u):=by
 unfold putK stored;rw[r.any k];by_cases e:(vs.any λb=>decide (b.1=k))=true
 .rw[H0 e,H0 e];exact r.zX5 k a
 .rw[O0 e,O0 e];exact Paired.snoc r ⟨rfl,a⟩
theorem KV.length{kvs:List (κ×V)}{vs:List (κ×Value)}(r:KV kvs vs):kvs.length=vs.length:=b1z r
end
def a0f{k:Key}(r:RelV (kV k) u):(b4 P w).is k u=true:=by
 cases k with
 |inl i=>let ⟨t,e⟩:=r;subst e;exact q0e P w i t
 |inr x=>let ⟨t,e⟩:=r;subst e;exact h0n P w x t
theorem k0f{P:V0}{w:T0}:∀{ks:List Key} {us:List Z0},zy8 (ks.map kV) us->ItemsAre (b4 P w) ks us
 | [],_,r=>by rw[j1r]at r;cases r;exact .nil
 |k::ks,_,r=>by
  cases r with
  |cons h t=>exact .cons (a0f h) (k0f t)
abbrev KT(H:Hp)(G:X0->Prop):List (List Key×V)->List (List Key×Addr×Value)->Prop:=Paired λp q=>p.1=q.1/\H q.2.1=some (.tup (p.1.map kV))/\RelV p.2 q.2.2/\G q.2.1
def KT.val(r:KT H G kvs xs)(k:List Key):zk4 (zf3 kvs k) ((atKey xs k).map (·.2)):=by
 induction r with
 |nil=>exact True.intro
 | @cons p q i a h t f=>
  let ⟨d,_,g⟩:=h;by_cases e:p.1=k
  .have c:=d.symm.trans e;have b:atKey (q::a) k=some q.2:=by simp[atKey,c]
   rw[q0q e,b];exact g.1
  .have c:¬q.1=k:=λz=>e (d.trans z)
   have b:atKey (q::a) k=atKey a k:=by simp[atKey,c]
   rw[q0p e,b];exact f
def KT.zX5(r:KT H G kvs xs)(k:List Key)(c:RelV y u):
 KT H G (kvs.map λa=>if a.1=k then (a.1,y)else a) (xs.map (putAt k u)):=by
 induction r with
 |nil=>exact .nil
 | @cons p q d e h t b=>
  rw[k1l];refine .cons ?_ b;let ⟨f,g,i⟩:=h;unfold putAt
  grind
def KT.put(r:KT H G kvs xs)(k:List Key){b:X0}(d:H b=some (.tup (k.map kV)))(a:RelV y u):
 KT H (λc=>G c\/c=b) (putK kvs k y) (storedH xs k b u):=by
 have e:(kvs.any λf=>decide (f.1=k))=(atKey xs k).isSome:=by
  rw[e0w,(r.val k).zc3,Option.isSome_map]
 unfold putK storedH;rw[e];by_cases q:(atKey xs k).isSome=true
 .rw[H0 q,H0 q];exact Paired.zV0 (r.zX5 k a) λ_ _ z=>⟨z.1,z.2.1,z.2.2.1,.inl z.2.2.2⟩
 .rw[O0 q,O0 q];exact Paired.snoc (Paired.zV0 r λ_ _ z=>⟨z.1,z.2.1,z.2.2.1,.inl z.2.2.2⟩) ⟨rfl,d,a,.inr rfl⟩
def KT.keeps(r:KT H G kvs xs)(c:∀b a,H b=some (.tup a)->H' b=some (.tup a)):KT H' G kvs xs:=
 Paired.zV0 r λ_ _ z=>⟨z.1,c _ _ z.2.1,z.2.2⟩
section
variable{P:V0}{w:T0}{H:Hp}{h:J0}{a:X0}
def p1c{u:HO}(ok:HOk P w H h)(e:Rd H a u):zx6 P w H h a u:=e.ok ok
def a0e{kvs:List (Key×V)}(ok:HOk P w H h)(e:Rd H a (.dK kvs)):kvs.length<=sizeLine/\(a==N2)=false/\∃vs,KV kvs vs/\h.DictOf (b4 P w) a vs:=
 show zx6 P w H h a (.dK kvs)from p1c ok e
def zQ0{kvs:List (Key×V)}(ok:HOk P w H h)(e:H a=some (.dK kvs)):kvs.length<=sizeLine/\(a==N2)=false/\∃vs,KV kvs vs/\h.DictOf (b4 P w) a vs:=a0e ok (.inl e)
def r0m{ks:List Key}(ok:HOk P w H h)(e:H a=some (.tup (ks.map kV))):(S3 (b4 P w)).is h ks a:=by
 let ⟨_,b,r,o,c,d,⟨n,f⟩,_⟩:=(show zx6 P w H h a (.tup (ks.map kV))from ok a _ e);exact ⟨o,b.toArray,n,c,d,f,by simpa using k0f r⟩
def a0d(ok:HOk P w H h)(e:Rd H a (.dT kvs G)):kvs.length<=sizeLine/\(a==N2)=false/\
 ∃xs,KT H G kvs xs/\h.DictOfH (S3 (b4 P w)) a xs:=by
 let ⟨z,y,xs,r,o,b,c,d,f,g,i,j⟩:=(p1c ok e);refine ⟨z,y,xs,r,o,b,c,d,f,g,i,λx hx=>?_,j⟩;have all:∀{l:List (List Key×V)} {m:List (List Key×Addr×Value)},KT H G l m->∀x∈m,(S3 (b4 P w)).is h x.1 x.2.1:=by
  intro l m q
  induction q with
  |nil=>intro x hx;exact nomatch hx
  | @cons p q n u v t k=>
   intro x hx;rcases j1n.mp hx with e |hx
   .subst e;exact r0m ok (by grind)
   .exact k x hx
 grind
def p1b(ok:HOk P w H h)(e:H a=some (.dT kvs G)):kvs.length<=sizeLine/\(a==N2)=false/\
 ∃xs,KT H G kvs xs/\h.DictOfH (S3 (b4 P w)) a xs:=a0d ok (.inl e)
end
def zV7(H:Hp)(a:X0)(y:V)(r:Option V):Prop:=
 (∃kvs k,Rd H a (.dK kvs)/\y=kV k/\r=zf3 kvs k)\/∃kvs G k b,Rd H a (.dT kvs G)/\y=.ref b/\H b=some (.tup (k.map kV))/\r=zf3 kvs k
def zQ1(H:Hp)(a:X0)(y v:V)(H':Hp):Prop:=
 (∃kvs k,H a=some (.dK kvs)/\y=kV k/\kvs.length<sizeLine/\H'=upd H a (.dK (putK kvs k v)))\/
 ∃kvs G k b,H a=some (.dT kvs G)/\y=.ref b/\H b=some (.tup (k.map kV))/\kvs.length<sizeLine/\H'=upd H a (.dT (putK kvs k v) λc=>G c\/c=b)
def zQ1.t{b:X0}{k:List Key}{v:V}(e:H a=some (.dT kvs G))(d:H b=some (.tup (k.map kV)))(f:kvs.length<sizeLine):
 zQ1 H a (.ref b) v (upd H a (.dT (putK kvs k v) λc=>G c\/c=b)):=.inr ⟨kvs,G,k,b,e,rfl,d,f,rfl⟩
section
variable{X:Cx}{pins:List (X0×Obj)}{σ:St}{H:Hp}{s:Y0}{a:X0}{y v:V}{u r:Z0}{o:Option V}{A:A0}{E:Z0->Y0->Prop}
def Inv.big(I:Inv X pins σ H s):N2<s.heap.objs.size:=by
 have h:=(I.mod.glob.keeps I.bk).lt;exact b1d (by decide) h
def a0c{Q:Z0->Y0->Prop}(B:A.units+1<O2)(I:Inv X pins σ H s)(g:zV7 H a y (some v))(r:RelV y u)(h:∀d t,Inv X pins σ H t->RelV v d->Q d t):
 wpAny (model X.prog X.w) A (getItem (.ref a) u) Q E s:=by
 rcases g with ⟨f,k,e,i,l⟩|⟨f,G,k,b,e,i,C,l⟩
 .subst i;let ⟨z,hd,D,rel,j⟩:=a0e I.hok e;let ⟨d,m,c⟩:=zk4.some_of (v:=v) (o:=valueAt D k) (by rw[l];exact rel.val k);exact wpAny_getItem_of (a0f r) j.mapOf m (h d _ (I.tok _) c)
 .subst i;cases (show u=Value.ref b from r);let ⟨z,hd,F,rel,j⟩:=a0d I.hok e;let ⟨d,m,c⟩:=zk4.some_of (v:=v) (o:=(atKey F k).map (·.2)) (by rw[l];exact rel.val k);let ⟨p,J,n⟩:=k1c.mp m;refine wpAny_getItem_heap (tupleKind_room_in1 B) (r0m I.hok C) j J ?_;rw[n];exact h d _ (I.tok _) c
def v0e{h':J0}{t':Nat}{ob:HO}(I:Inv X pins σ H s)(c:Mut (H a))(hs:Heap.SameBut a s.heap h')(d:∃q,h'.get? a=some q)(new:zx6 X.prog X.w (upd H a ob) h' a ob):
 Inv X pins σ (upd H a ob) {s with heap:=h',toks:=t'}:=
 I.write (x:=a) (e:=a) c (.inl rfl) (λb q f z=>(hs.2 b f).trans z) d new
def r1k{H':Hp}{h':J0}{kvs:List (Key×V)}{vs:List (Key×Value)}(z:kvs.length<=sizeLine)(hd:(a==N2)=false)(rel:KV kvs vs)(b:h'.DictOf (b4 P w) a vs):
 zx6 P w H' h' a (.dK kvs):=⟨z,hd,vs,rel,b⟩
def a0b{Q:Unit->Y0->Prop}(J:A.units+1<O2)(I:Inv X pins σ H s)(g:zQ1 H a y v H')(p:RelV y u)(t:RelV v r)(h:∀B,Inv X pins σ H' B->Q () B):
 wpAny (model X.prog X.w) A (setItem (.ref a) u r) Q E s:=by
 rcases g with ⟨d,k,e,j,l,m⟩|⟨d,G,k,b,e,j,C,l,m⟩
 .subst j m;let ⟨z,hd,L,rel,n⟩:=zQ0 I.hok e;have hz:L.length<=sizeLine:=by rw[<-rel.length];exact z
  have o:(putK d k v).length<=sizeLine:=by have:=z0h d k v;lia
  refine wpAny_setItem_pairs (hsz:=hz) (a0f p) n λD f hs=>h _ ?_
  have M:∃q,D.get? a=some q:=let ⟨q,_,_,i,_⟩:=f;⟨q,i⟩
  exact v0e I (by rw[e];exact True.intro) hs M (r1k o hd (rel.put k t) f)
 .subst j m;cases (show u=Value.ref b from p);let ⟨z,hd,N,rel,n⟩:=p1b I.hok e;have hz:N.length<=sizeLine:=by rw[<-Paired.length rel];exact z
  have o:(putK d k v).length<=sizeLine:=by have:=z0h d k v;lia
  refine wpAny_setItem_heap (hsz:=hz) (tupleKind_room_in1 J) (r0m I.hok C) n λD f hs=>h _ ?_
  let ⟨q,O,P,i,R,S,U,_,V⟩:=f;refine v0e I (by rw[e];exact True.intro) hs ⟨q,i⟩ ⟨o,hd,_,(rel.put k C t).keeps λc W F=>?_,q,O,P,i,R,S,U,V⟩;rw[j0 (v1s F e (λz=>nomatch z))];exact F
end
def z15(i:Expr):Prop:=∀ov iv,subscripted i false ov iv=operate [ov,iv] (getItem ov iv)
def p1a{prog:V0}{w:T0}{A:A0}{E:Z0->Y0->Prop}{s:Y0}{env:Env}{value slice:Expr}{pos:Pos}{T id:String}{Q:Z0->Y0->Prop}
 (g:typeLookup (.type T) "__getitem__"=pure (some (.builtin id))) (hs:z15 slice)
 (h:wpAny (model prog w) A (eval value env) (λo c=>wpAny (model prog w) A (eval slice env) (λi a=>a.TypeIs o T/\wpAny (model prog w) A (getItem o i) Q E a) E c) E s):
 wpAny (model prog w) A (eval (.Subscript value slice pos) env) Q E s:=by
 refine Subscript_ (K0 h (λo c e=>K0 e (λi a b=>?_) λ_ _ x=>x) λ_ _ x=>x);let ⟨j,b⟩:=b;refine y0 ?_;refine y0 (wpAny_specialOf j g ?_);have fin:wpAny (model prog w) A (subscripted slice false o i) (λr d=>wpAny (model prog w) A (letTemporaryGo value o r >>= λ_=>pure r) Q E d) E a:=by
  rw[hs o i];exact wpAny_operating (K0 b (λr d f=>y0 (wpAny_letTemporaryGo (d0 f))) λ_ _ x=>x)
 first
  |exact d0 (y0 fin)
  |exact y0 (d0 (y0 fin))
  |exact y0 fin
def h0j{pins:List (X0×Obj)}{σ:St}{s:Y0}(I:Inv X pins σ H s)(g:zV7 H a y o):s.TypeIs (.ref a) "dict":=by
 rcases g with ⟨c,k,e,_,_⟩|⟨c,G,k,b,e,_,_,_⟩
 .let ⟨_,_,f,_,d⟩:=a0e I.hok e;exact d.typeIs
 .let ⟨_,_,i,_,d⟩:=a0d I.hok e;exact d.typeIs
def z16(td ty:TE):TE:=λσ H Q=>td σ H λx H1=>ty σ H1 λy H2=>∃a v,x=.ref a/\zV7 H2 a y (some v)/\Q v H2
def z17(td ty tv:TE):TS:=λD σ H=>tv σ H λv H1=>td σ H1 λx H2=>ty σ H2 λy H3=>∃a H4,x=.ref a/\zQ1 H3 a y v H4/\D.nx σ H4
section
variable{X:Cx}{o i value:Expr}{pos pos':Pos}{td ty tv:TE}
def o1z(e:X.A.units+1<O2)(ho:PE X o td)(f:PE X i ty)(hs:z15 i):PE X (.Subscript o i pos) (z16 td ty):=by
 intro b s d H Q I h;refine p1a PySem.F.slot_dict_getitem.lookup hs (thn (ho b s d H _ I h) λu j ⟨x,k,l,m,n⟩=>thn (f b j d k _ l n) λz B zz=>?_);let ⟨y,p,I2,r,a,v,ex,g,t⟩:=zz;subst ex;obtain rfl:u=Value.ref a:=m;exact ⟨h0j I2 g,a0c e I2 g r λC D w c=>⟨v,p,w,c,t⟩⟩
def o1y(d:X.A.units+1<O2)(ho:PE X o td)(e:PE X i ty)(f:PE X value tv)(hs:B2 value (some (.Subscript o i pos')) pos.line X.env=pure false):
 PS X (.Assign [.Subscript o i pos'] value pos) (z17 td ty tv):=by
 intro b s c H D I h;refine wpAny_Assign_Subscript (thn (f b s c H _ I h) λr j ⟨v,k,l,m,n⟩=>thn (ho b j c k _ l n) λu p ⟨x,t,I2,w,z⟩=>thn (e b p c t _ I2 z) λJ L zz=>?_) hs;let ⟨y,M,B,C,a,F,ex,g,q3⟩:=zz;subst ex;obtain rfl:u=Value.ref a:=w;exact a0b d B g C m λN G=>⟨c,F,G,q3⟩
end
def e0v(h:J0)(a:N2<h.objs.size):zx6 P w H (h.push {cls:=.type "dict",data:=.dict #[]}) h.objs.size (.dK []):=
 ⟨Nat.zero_le _,beq_eq_false_iff_ne.mpr (j1k (k1i a)),[],.nil,Heap.DictOf.new h⟩
def n0b(h:J0)(a:N2<h.objs.size):zx6 P w H (h.push {cls:=.type "dict",data:=.dict #[]}) h.objs.size (.dT [] λ_=>False):=
 ⟨Nat.zero_le _,beq_eq_false_iff_ne.mpr (j1k (k1i a)),[],.nil,_,#[],0,k1s _ rfl,⟨rfl,rfl,rfl⟩,rfl,rfl,List.nodup_nil⟩
def zQ2:TE:=λ_ H Q=>∀p,H p=none->Q (.ref p) (upd H p (.dK []))
def zQ3:TE:=λ_ H Q=>∀p,H p=none->Q (.ref p) (upd H p (.dT [] λ_=>False))
section
variable{X:Cx}{pos:Pos}
def v1f:PE X (.Dict [] [] pos) zQ2:=λa s b H Q I h=>
 wpAny_Dict_empty ⟨.ref s.heap.objs.size,_,I.laid (λ_ _ q=>k1w _ q) (k1q _) (e0v s.heap I.big),rfl,h _ (I.hok.fresh (k1q _))⟩
def v1e:PE X (.Dict [] [] pos) zQ3:=λa s b H Q I h=>
 wpAny_Dict_empty ⟨.ref s.heap.objs.size,_,I.laid (λ_ _ q=>k1w _ q) (k1q _) (n0b s.heap I.big),rfl,h _ (I.hok.fresh (k1q _))⟩
end
def a0a:List (TE×TE)->St->Hp->(List (V×V)->Hp->Prop)->Prop
 | [],_,H,Q=>Q [] H
 |(tk,tv)::r,σ,H,Q=>tk σ H λx H1=>tv σ H1 λy H2=>a0a r σ H2 λps H3=>Q ((x,y)::ps) H3
abbrev VV:List (V×V)->List (Z0×Value)->Prop:=Paired λp q=>RelV p.1 q.1/\RelV p.2 q.2
def PPs(X:Cx)(pos:Pos)(keys:List (Option Expr))(values:List Expr)(trs:List (TE×TE)):Prop:=
 ∀(pins:List (X0×Obj)) (s:Y0) (σ:St) (H:Hp) (Q:List (V×V)->Hp->Prop),Inv X pins σ H s->a0a trs σ H Q->
  wpAny (model X.prog X.w) X.A (evalPairs (pairTrees keys values X.env pos)) (λvs s'=>∃ps H',Inv X pins σ H' s'/\VV ps vs/\Q ps H') X.xe s
def o1x:PPs X pos [] [] []:=λa s b H Q I h=>pairTrees_nil_walk ⟨[],H,I,.nil,h⟩
def v1d{k v:Expr}{ks:List (Option Expr)}{vs:List Expr}{tk d:TE}{b:List (TE×TE)}(e:PE X k tk)(f:PE X v d)(hr:PPs X pos ks vs b):
 PPs X pos (some k::ks) (v::vs) ((tk,d)::b):=λa s c H Q I h=>
 pairTrees_cons_walk (thn (e a s c H _ I h) λu g ⟨x,i,j,l,m⟩=>thn (f a g c i _ j m) λB n ⟨y,o,I2,p,r⟩=>
  thn (hr a n c o _ I2 r) λws C ⟨t,w,z,rel,q3⟩=>⟨(x,y)::t,w,z,.cons ⟨l,p⟩ rel,q3⟩)
def k0e(kvs more:List (Key×V)):List (Key×V):=more.foldl (λacc kv=>putK acc kv.1 kv.2) kvs
def KV.merge:∀{more:List (Key×V)} {a:List (Key×Value)} {kvs:List (Key×V)} {vs:List (Key×Value)},KV more a->KV kvs vs->KV (k0e kvs more) (merged vs a):=by
 intro more a kvs vs r
 induction r generalizing kvs vs with
 |nil=>intro q;exact q
 | @cons p q d f h t b=>
  intro c;have e:KV (putK kvs p.1 p.2) (stored vs q.1 q.2):=by
   have:=c.put p.1 h.2
   grind
  exact b e
theorem t0z:∀(more kvs:List (Key×V)),(k0e kvs more).length<=kvs.length+more.length
 | [],kvs=>by show kvs.length<=kvs.length+0;lia
 |p::r,kvs=>by
  have a:=t0z r (putK kvs p.1 p.2);have b:=z0h kvs p.1 p.2;show (k0e (putK kvs p.1 p.2) r).length<=_
  grind
theorem n0s{P:V0}{w:T0}:∀{kvs:List (Key×V)} {ws:List (Z0×Value)},VV (kvs.map λe=>(kV e.1,e.2)) ws->∃d,Carries (b4 P w) ws d/\KV kvs d
 | [],_,r=>by rw[j1r]at r;cases r;exact ⟨[],True.intro,.nil⟩
 |p::kvs,_,r=>by
  cases r with
  | @cons a b as bs h t=>
   let ⟨d,c,q⟩:=n0s t;let ⟨g,f⟩:=b;exact ⟨(p.1,f)::d,⟨a0f h.1,rfl,c⟩,.cons ⟨rfl,h.2⟩ q⟩
def z18(trs:List (TE×TE)):TE:=λσ H Q=>∀p,H p=none->a0a trs σ (upd H p (.dK [])) λps H2=>H2 p=some (.dK [])/\∃kvs:List (Key×V),ps=kvs.map (λkv=>(kV kv.1,kv.2))/\kvs.length<=15/\Q (.ref p) (upd H2 p (.dK (k0e [] kvs)))
def o1w{keys:List (Option Expr)}{values:List Expr}{a:List (TE×TE)}(h:PPs X pos keys values a)(b:keys.all (·.isSome)=true)(j:keys.length=values.length)(h0:keys≠[])
 (i:keys.length<=15):PE X (.Dict keys values pos) (z18 a):=by
 intro d s k H Q I q;have hn:=I.hok.fresh (k1q s.heap.objs.size);have l:=I.laid (t':=s.toks) (λ_ _ q=>k1w _ q) (k1q _) (e0v s.heap I.big);refine wpAny_Dict_walk (knd:=b4 X.prog X.w) b j h0 i (thn (h d _ k _ _ l (q _ hn)) λws D zz=>?_);let ⟨F,G,I2,rel,e,f,m,lk,n⟩:=zz;subst m;let ⟨o,c,p⟩:=n0s rel;let ⟨z,hd,r,t,u⟩:=zQ0 I2.hok e;cases t;refine ⟨o,c,u,λv g hs=>⟨.ref s.heap.objs.size,_,?_,rfl,n⟩⟩;have hz:(k0e [] f).length<=sizeLine:=by
  have y:=t0z f [];rw[g1t]at y;rw[U2];lia
 have B:∃q,v.get? s.heap.objs.size=some q:=let ⟨q,_,_,C,_⟩:=g;⟨q,C⟩
 exact v0e I2 (by rw[e];exact True.intro) hs B (r1k hz hd (p.merge .nil) g)
structure M2(X:Cx)(o:Expr)(m:Str)(apos:Pos)(e f:Expr)(zv1:Pos):Prop where
 base:U1 o m X.env (eval o X.env)=eval o X.env
 few:((Q3 zv1 (R0 [e,f] X.env)).all (λx=>!x.1)&&(backToKw zv1 (keywordEach [] X.env)).all (λx=>x.1.isSome)
  &&decide (([e,f]:List Expr).length+([]:List Keyword).length+(if ([]:List Keyword).isEmpty then 0 else 1)<30))=true
 line:(apos.endLine==zv1.line)=true
 trees:Q3 zv1 (R0 [e,f] X.env)=[(false,eval e X.env),(false,eval f X.env)]
def IsD(H:Hp)(a:X0):Prop:=(∃kvs,Rd H a (.dK kvs))\/∃kvs G,Rd H a (.dT kvs G)
def k0d{pins:List (X0×Obj)}{σ:St}{s:Y0}(I:Inv X pins σ H s)(d:IsD H a):
 s.TypeIs (.ref a) "dict"/\(∀b,Value.ref a=.ref b->∃ob,s.heap.get? b=some ob/\ob.dict=none)/\(a==N2)=false:=by
 rcases d with ⟨f,e⟩|⟨f,G,e⟩
 .let ⟨_,hd,j,_,c⟩:=a0e I.hok e;refine ⟨c.typeIs,λb q=>?_,hd⟩;cases q;let ⟨ob,_,_,g,i,_⟩:=c;exact ⟨ob,g,i.2.1⟩
 .let ⟨_,hd,k,_,c⟩:=a0d I.hok e;refine ⟨c.typeIs,λb q=>?_,hd⟩;cases q;let ⟨ob,_,_,g,i,_⟩:=c;exact ⟨ob,g,i.2.1⟩
section
variable{X:Cx}{pins:List (X0×Obj)}{σ:St}{H:Hp}{s:Y0}{a:X0}{y d:V}{u r:Z0}{o:Option V}{A:A0}{E:Z0->Y0->Prop}
def zQ4{Q:Z0->Y0->Prop}(p:A.units+1<O2)(I:Inv X pins σ H s)(g:zV7 H a y o)(j:RelV y u)(rd:RelV d r)(h:∀m n,Inv X pins σ H n->RelV (o.getD d) m->Q m n):
 wpAny (model X.prog X.w) A (call (.builtin "dict.get") [.ref a,u,r]) Q E s:=by
 rcases g with ⟨f,k,e,i,l⟩|⟨f,G,k,b,e,i,t,l⟩
 .subst i;let ⟨z,hd,B,rel,c⟩:=a0e I.hok e;refine call_meetsIn e1v c.typeIs d1a (d1n _ _ _) (meets_dict_get_default (b4 X.prog X.w) a (a0f j) hd r) ⟨_,c.mapOf,h _ _ (I.tok _) ?_⟩;rw[l];exact (rel.val k).getD rd
 .subst i;cases (show u=Value.ref b from j);let ⟨z,hd,v,rel,c⟩:=a0d I.hok e;refine call_meetsIn e1v c.typeIs d1a (d1n _ _ _) (meetsH_dict_get_default (S3 (b4 X.prog X.w)) a b hd r) ⟨tupleKind_room_in1 p,k,v,r0m I.hok t,c,h _ _ (I.tok _) ?_⟩;rw[l];exact (rel.val k).getD rd
end
def zQ5(td ty tx:TE):TE:=λσ H Q=>td σ H λx H1=>∃a,x=.ref a/\IsD H1 a/\ty σ H1 λy H2=>tx σ H2 λz H3=>∃o,zV7 H3 a y o/\Q (o.getD z) H3
section
variable{X:Cx}{o e f:Expr}{apos zv1:Pos}{td ty tx:TE}
def v1c(k:X.A.units+1<O2)(ho:PE X o td)(l:PE X e ty)(n:PE X f tx)(m:M2 X o "get" apos e f zv1):PE X (.Call (.Attribute o "get" apos) [e,f] [] zv1) (zQ5 td ty tx):=by
 intro b s c H Q I h;refine wpAny_Call_method m.base m.few m.line h1q e1v PySem.F.type_dict_get (thn (ho b s c H _ I h) λu p zz=>?_);let ⟨x,r,j,t,a,ex,d,v⟩:=zz;subst ex;obtain rfl:u=Value.ref a:=t;let ⟨t1,t2,_⟩:=k0d j d;refine ⟨t1,t2,?_⟩;rw[m.trees];refine i1i rfl (c1n (g1k (thn (l b p c r _ j v) λN w ⟨y,B,I2,C,D⟩=>
  g1k (thn (n b w c B _ I2 D) λO P ⟨z,G,J,L,R,g,q3⟩=>f1a ?_))))
 exact zQ4 k J g C L λS U M i=>⟨_,G,M,i,q3⟩
end
end L2
set_option maxHeartbeats 4000000
namespace PySem.W
open Calls PyProof.Rows Builtin Builtin.ObjectAttr Builtin.Getset_descriptor
section
variable{prog:V0}{w:T0}{A:A0}{E:Z0->Y0->Prop}{R:Result->Y0->Prop}{h:J0}{g:Array GenState}{d:Drawn}{t:Nat}{os:Y3}
variable{nm q:Str}{C N:X0}{bs bm bmB:List Z0}{hdct:Bool}{sn:List Str}{sub:List Z0}{ab:Bool}{col:Option Bool}{dd:Option X0}{k0 k1 k2 k3 k5:Option Z0}{B newId zZ8:String}
abbrev zf4(C t:X0):Obj:={cls:=.ref C,data:=.fields #[.ref t,.none,.none,.none,.bool false,.none]}
abbrev zc4(rest:List Z0):Obj:={cls:=.type "tuple",data:=.seq rest.toArray}
def zi5(F:ExcBaseFacts B newId zZ8 bmB)(T:OwnTail h bmB bm){rest:List Z0}{f:X0}
 (c:h.get? C=some (excClassObj nm q C N bs bm hdct sn sub ab col dd k0 k1 k2 k3 k5 newId))
 (m:Looks (model prog w) h (typeLookup (.ref C) "__init__") (some (.ref f))) (n:∀self,Looks (model prog w) h (bindSpecial (.ref f) self) (.ref f,[self]))
 (p:A2 (model prog w) (A.under (.builtin "type.__call__" ⟨.ref C::rest,[]⟩)) (.call (.ref f) ⟨.ref (h.objs.size+1)::rest,[]⟩) (InitBack (h.objs.size+1) R) ⟨(h.push (zc4 rest)).push (zf4 C h.objs.size),g,d,t,os⟩)
 (j:rest.length<=sizeLine):
 A2 (model prog w) A (.call (.ref C) ⟨rest,[]⟩) R ⟨h,g,d,t,os⟩:=by
 have f1:=tc_lookup;have f2:=tc_bind (.ref C);have D:(⟨h,g,d,t,os⟩:Y0).TypeIs (.ref C) "type":=⟨_,c,rfl⟩;refine codeAny_of_tree ?_;show wpAny _ _ (callAny (.ref C) _) _ _ _
 repeat (any_goals (first |assumption |with_reducible refine J2 c ?_ |wp_step))
 refine ⟨rfl,?_⟩;refine codeAny_call_builtin_at (f1k _ (by decide +kernel)) entry_typeCall (C5 c ?_)
 repeat (first |with_reducible refine J2 c ?_ |with_reducible refine wpAny_madeBy_exc c ?_ |wp_step)
 refine B5 (f1k _ F.quiet) (wpAny_check_new_subT F T c ?_);refine codeAny_exc_new_subT F T c ?_ j;show wpAny _ _ _ _ _ _;have k:∀b o,h.get? b=some o->((h.push (zc4 rest)).push (zf4 C h.objs.size)).get? b=some o:=λb o e=>k1w _ (k1w _ e)
 have a:=k _ _ c;have i:((h.push (zc4 rest)).push (zf4 C h.objs.size)).get? (h.objs.size+1)=some (zf4 C h.objs.size):=by heap_get
 have l:(Value.ref C::bm).contains (.ref C)=true:=by simp
 have u:=m.keeps k;have y:=(n (.ref (h.objs.size+1))).keeps k;unfold isInstance
 repeat (first |with_reducible refine J2 i ?_ |(with_reducible refine B3 a ?_;rw[l])|wp_step)
 refine B3 a ?_;rw[l];have t1:Looks (model prog w) ((h.push (zc4 rest)).push (zf4 C h.objs.size)) (typeOf (.ref (h.objs.size+1))) (.ref C):=(Looks.ld i).andThen .now;unfold callSpecial? specialOf;simp only[j1i,k1a,K1];refine y0 (D0 (y0 (y0 (t1.at (u.at ?_)))));dsimp only;refine D0 (y0 (y.at (y0 (G4 (W4 p λr G z=>?_)))));rcases r with e |(v |_ |_ |_)<;>first |exact z |exact z.elim |skip
 let ⟨rfl,z⟩:=z;exact d0 (d0 z)
def zk9(F:ExcBaseFacts B newId zZ8 bmB)(T:OwnTail h bmB bm){m:Str->Option Z0}{Q:Z0->Y0->Prop}
 (f:h.get? C=some (excClassObj nm q C N bs bm hdct sn sub ab col dd k0 k1 k2 k3 k5 newId)) (hn:h.Ns N m) (n:m "__init__"=none)
 (u:∀h' t2,(∀b o,h.get? b=some o->h'.get? b=some o)->h'.get? (h.objs.size+1)=some (zf4 C t2)->Q (.ref (h.objs.size+1)) ⟨h',g,d,t,os⟩):
 wpAny (model prog w) A (call (.ref C) []) Q E ⟨h,g,d,t,os⟩:=by
 have f1:=tc_lookup;have f2:=tc_bind (.ref C);have z:(⟨h,g,d,t,os⟩:Y0).TypeIs (.ref C) "type":=⟨_,f,rfl⟩;refine G4 (codeAny_of_tree ?_);show wpAny _ _ (callAny (.ref C) _) _ _ _
 repeat (any_goals (first |assumption |with_reducible refine J2 f ?_ |wp_step))
 refine ⟨rfl,?_⟩;refine codeAny_call_builtin_at (f1k _ (by decide +kernel)) entry_typeCall (C5 f ?_)
 repeat (first |with_reducible refine J2 f ?_ |with_reducible refine wpAny_madeBy_exc f ?_ |wp_step)
 refine B5 (f1k _ F.quiet) (wpAny_check_new_subT F T f ?_);refine codeAny_exc_new_subT F T f ?_ (by decide);show wpAny _ _ _ _ _ _;have k:∀b o,h.get? b=some o->((h.push (zc4 [])).push (zf4 C h.objs.size)).get? b=some o:=λb o e=>k1w _ (k1w _ e)
 have a:=k _ _ f;have j:((h.push (zc4 [])).push (zf4 C h.objs.size)).Ns N m:=let ⟨o,v,y,e,r⟩:=hn;⟨o,v,y,k _ _ e,r⟩
 have c:((h.push (zc4 [])).push (zf4 C h.objs.size)).get? (h.objs.size+1)=some (zf4 C h.objs.size):=by heap_get
 have l:(Value.ref C::bm).contains (.ref C)=true:=by simp
 have i:=T.keeps k;unfold isInstance
 repeat (first |with_reducible refine J2 c ?_ |(with_reducible refine B3 a ?_;rw[l])|wp_step)
 refine B3 a ?_;rw[l];have t1:Looks (model prog w) ((h.push (zc4 [])).push (zf4 C h.objs.size)) (typeOf (.ref (h.objs.size+1))) (.ref C):=(Looks.ld c).andThen .now;unfold callSpecial? specialOf;simp only[j1i,k1a,K1];refine y0 (D0 (y0 (y0 (t1.at (wpAny_typeLookup_tail a j i F.mroIs F.init.lookup ?_)))));rw[n];dsimp only;refine D0 (y0 (R4 (F.init.bind _) ?_));refine y0 (G4 (N5 F.init.plain F.initEntry (wpAny_check_init_subT F i a c rfl ?_)))
 wp_walk
 refine u _ (h.objs.size+2) (λb o p=>?_) ?_
 .rw[j1t _ _ (i1p (h1w (k1n p)))];exact k1w _ (k b o p)
 .rw[j1x _ (k1w _ c) rfl];simp only[j1j];rfl
end
end PySem.W
namespace PySem.W
open Calls PyProof.Rows Builtin Builtin.ObjectAttr Builtin.Getset_descriptor
variable{ox:Obj}{od:Option Obj}
abbrev zx8:List Z0:=[.type "ValueError",.type "Exception",.type "BaseException",.type "object"]
def e0u:List Z0->Bool
 | .ref _::r=>e0u r
 |l=>l==zx8
theorem k0c(self:Z0):∀{l:List Z0},e0u l=true->refuseLoop self "__setattr__" l=pure ()
 | .ref c::r,e=>by rw[refuseLoop_ref];exact k0c self e
 | [],e=>by cases e
 | .type n::r,e=>by
  have a:=beq_iff_eq.mp e;rw[a];exact PySem.F.store_ValueError.passes self
 | .none::r,e=>by cases (beq_iff_eq.mp e:(Value.none::r)=zx8)
 | .bool _::r,e=>by cases (beq_iff_eq.mp e:(Value.bool _::r)=zx8)
 | .int _ _::r,e=>by cases (beq_iff_eq.mp e:(Value.int _ _::r)=zx8)
 | .str _ _::r,e=>by cases (beq_iff_eq.mp e:(Value.str _ _::r)=zx8)
 | .bytes _ _::r,e=>by cases (beq_iff_eq.mp e:(Value.bytes _ _::r)=zx8)
 | .float _ _::r,e=>by cases (beq_iff_eq.mp e:(Value.float _ _::r)=zx8)
 | .builtin _::r,e=>by cases (beq_iff_eq.mp e:(Value.builtin _::r)=zx8)
 | .notImplemented::r,e=>by cases (beq_iff_eq.mp e:(Value.notImplemented::r)=zx8)
 | .ellipsis::r,e=>by cases (beq_iff_eq.mp e:(Value.ellipsis::r)=zx8)
theorem r1j:∀{l:List Z0} {b:Z0},e0u l=true->zx8.contains b=true->l.contains b=true
 | .ref c::r,b,e,q=>by rw[g1j,r1j (l:=r) e q,Bool.or_true]
 | [],b,e,q=>by cases e
 | .type n::r,b,e,q=>by rw[(beq_iff_eq.mp e:(Value.type n::r)=zx8)];exact q
 | .none::r,_,e,_=>by cases (beq_iff_eq.mp e:(Value.none::r)=zx8)
 | .bool _::r,_,e,_=>by cases (beq_iff_eq.mp e:(Value.bool _::r)=zx8)
 | .int _ _::r,_,e,_=>by cases (beq_iff_eq.mp e:(Value.int _ _::r)=zx8)
 | .str _ _::r,_,e,_=>by cases (beq_iff_eq.mp e:(Value.str _ _::r)=zx8)
 | .bytes _ _::r,_,e,_=>by cases (beq_iff_eq.mp e:(Value.bytes _ _::r)=zx8)
 | .float _ _::r,_,e,_=>by cases (beq_iff_eq.mp e:(Value.float _ _::r)=zx8)
 | .builtin _::r,_,e,_=>by cases (beq_iff_eq.mp e:(Value.builtin _::r)=zx8)
 | .notImplemented::r,_,e,_=>by cases (beq_iff_eq.mp e:(Value.notImplemented::r)=zx8)
 | .ellipsis::r,_,e,_=>by cases (beq_iff_eq.mp e:(Value.ellipsis::r)=zx8)
structure XC(K:Frag)(C:X0):Prop where
 over:(clsIn K C).any (λcd=>e0u cd.mro)=true
 sa:findIn K (.ref C) "__setattr__"=some (some (.builtin "object.__setattr__"))
 ga:findIn K (.ref C) "__getattribute__"=some (some (.builtin "BaseException.__getattribute__"))
 gh:findIn K (.ref C) "__getattr__"=some none
 hd:hasDictIn K C=true
 ca:findIn K (.ref C) "__class__"=some (some (.builtin "object.__class__"))
 cg:specialIn K (.builtin "object.__class__") "__get__"=some (some (.builtin "getset_descriptor.__get__"))
 ct:takesIn K (.builtin "object.__class__")=some true
section
variable{prog:V0}{w:T0}{A:A0}{E:Z0->Y0->Prop}{K:Frag}{C x:X0}{s:Y0}{R:Result->Y0->Prop}
theorem XC.mro(c:XC K C){b:Z0}(a:zx8.contains b=true):mroIn K C b=some true:=by
 let ⟨cd,d,ho⟩:=any_some c.over;have ne:cd.mro.isEmpty=false:=by cases q:cd.mro with |nil=>rw[q]at ho;cases ho |cons _ _=>rfl
 unfold mroIn;rw[d,f1u,O0 (by grind),r1j ho a]
def z19{name:Str}{tk:Tok}{v:Z0}{r:Option Z0}(X:K.In s.heap)(I:InstAt s.heap x ox C od)(c:XC K C)(ht:takerIn K C name=some r)
 (h:∀b,wpAny (model prog w) A.in1 (match r with |some a=>setByDescriptor a (.ref x) v |none=>storeInOwnDict (.ref x) (.ref C) (.str name tk) name v b)
  (fun fin s'=>match fin with | .done f=>R (.ok f) s' | .again c'=>c'.quiet=true/\A2 (model prog w) A c' R s') (fun e s'=>R (.error e) s') s):
 A2 (model prog w) A (.call (.builtin "object.__setattr__") ⟨[.ref x,.str name tk,v],[]⟩) R s:=by
 have SF:=PySem.F.store_object;let ⟨cd,hc,ho⟩:=any_some c.over;have sub:Looks (model prog w) s.heap (isInstance (.ref x) (.type "object")) true:=I.type.andThen (looks_mroIn X (c.mro (by decide)));refine N5 SF.slot.plain SF.entry (@check_slot (model prog w) _ _ s "object.__setattr__" "object" "__setattr__" (.ref x) [.str name tk,v] [] _ SF.kind SF.split sub (SF.args (.ref x) (.str name tk) v) ?_);let ⟨attr,ha,hr⟩:=Option.bind_eq_some_iff.mp ht;have hm:Looks (model prog w) s.heap (mroOf (.ref C)) cd.mro:=(looks_clsIn X hc).andThen .now;have L3:Looks (model prog w) s.heap (storeTaker? attr) r:=by
  cases attr with
  |none=>cases hr;exact .now
  |some a=>
   let ⟨b,hb,rfl⟩:=k1c.mp hr;refine (looks_takesIn X hb).andThen ?_;cases b<;>exact .now
 rw[osa_eq,refuse_eq];refine y0 (y0 (I.type.here (y0 (hm.here ?_))));rw[k0c _ ho];refine d0 (y0 (I.type.here (y0 ((looks_findIn X ha).here (y0 (L3.here ?_))))));exact h _
def zQ6{name:Str}{v:Z0}{Q:Unit->Y0->Prop}{vs:Array Z0}(X:K.In s.heap)(c:XC K C)(hx:s.heap.get? x=some ⟨.ref C,none,.fields vs,#[]⟩)(ht:takerIn K C name=some none)
 (h:∀h',h'.get? x=some ⟨.ref C,some s.heap.objs.size,.fields vs,#[]⟩->h'.Ns1 s.heap.objs.size (fun y=>if y=name then some v else none)->
  (∀b o,b≠x->s.heap.get? b=some o->h'.get? b=some o)->Q () {s with heap:=h',toks:=s.toks+2}):
 wpAny (model prog w) A (setAttr (.ref x) name v) Q E s:=by
 have J:InstAt s.heap x ⟨.ref C,none,.fields vs,#[]⟩ C none:=⟨hx,rfl,rfl,trivial⟩;refine set_plain X J c.sa (z19 (s:={s with toks:=s.toks+1}) (r:=none) X J c ht fun b=>?_);let ⟨cd,hc,hd'⟩:=any_some c.hd;let ⟨hp,g,d,t,os⟩:=s;refine y0 (d0 (y0 (y0 (G5 hx (y0 (Looks.here (s:=⟨hp,g,d,t+1,os⟩) (looks_clsIn X hc) ?_))))));rw[hd'];have zQ7:(hp.push {cls:=.type "dict",data:=.dict #[]}).get? x=some ⟨.ref C,none,.fields vs,#[]⟩:=k1w _ hx;have hxs:x≠hp.objs.size:=k1i (k1n hx);show wpAny _ _ (alloc {cls:=.type "dict",data:=.dict #[]} >>= fun d=>update x (fun o=>{cls:=o.cls,dict:=some d,data:=o.data,slots:=o.slots}) >>= fun _=>dictMade (.ref C) x d) _ _ _;refine y0 (wpAny_alloc' ?_);refine y0 (wpAny_update' zQ7 ?_);refine d0 ?_;have hgd:((hp.push {cls:=.type "dict",data:=.dict #[]}).update x fun o=>{cls:=o.cls,dict:=some hp.objs.size,data:=o.data,slots:=o.slots}).get? hp.objs.size
  =some {cls:=.type "dict",data:=.dict #[]}:=
  (f1s _ _ _ _ hxs.symm).trans (Heap.get?_push_at rfl rfl)
 have hnd:((hp.push {cls:=.type "dict",data:=.dict #[]}).update x fun o=>{cls:=o.cls,dict:=some hp.objs.size,data:=o.data,slots:=o.slots}).Ns hp.objs.size (fun _=>none):=
  ⟨_,#[],_,hgd,rfl,fun e he=>absurd he (by simp),fun _=>rfl⟩
 show wpAny _ _ (storeInDict hp.objs.size (.str name t) name v) _ _ _;unfold storeInDict newKeyGuard;refine y0 (d0 (y0 (wpAny_nsSet1 (b1t hnd) fun h' hn' hs=>?_)));let ⟨oD,esD,epD,hoD,hdD,hcD⟩:=hn'.count (Within.cons name v Within.nil);refine y0 (wpAny_lookBehind hoD (by rw[hdD];exact pastItsLine_dict (j1o hcD (by rw[k1k,g1t,U2];lia))) ?_);refine d0 (h h' ?_ hn' fun b o hb e=>?_)
 .refine (hs.2 x hxs).trans (j1x _ zQ7 rfl)
 .exact (hs.2 b (k1i (k1n e))).trans ((f1s _ _ _ _ hb).trans (k1w _ e))
def v1b:builtinKind "BaseException.__getattribute__"=some .slot:=by decide +kernel
def z1z:splitId "BaseException.__getattribute__"=some ("BaseException","__getattribute__"):=by decide +kernel
def zg4:Slot "ValueError" "__getattribute__" "BaseException.__getattribute__":=
 .of (owner:="BaseException") (n:="__getattribute__") rfl rfl rfl rfl
  (by first |exact .inl rfl |exact .inr rfl) rfl
def z1y{name:Str}{fill expr:Bool}{r:Found}{t:Tok}{Q:Z0->Y0->Prop}(X:K.In s.heap)(I:InstAt s.heap x ox C od)(c:XC K C)
 (hf:findObj K C od name=some r)
 (h:wpAny (model prog w) A.in1 (match r with | .value v=>ret v | .bind g a=>bindTo g a (.ref x) (.ref C)| .missing=>unsupported "") (fun fin s'=>∃v,fin=.done (.ret v)/\wpAny (model prog w) A (handedOut v) Q E s') (fun _ _=>False) s)
 (hr:r≠.missing):wpAny (model prog w) A (getAttrBy (.ref x) (.str name t) fill expr) Q E s:=by
 let ⟨hp,g,d,tk,os⟩:=s;have L0:=I.type (M:=model prog w);have L1:=looks_findIn (M:=model prog w) X c.ga;have LG:=looks_findIn (M:=model prog w) X c.gh;have L2:=looks_find (M:=model prog w) X I hf;have hx0:(expr&&onTheHeap (Value.builtin "BaseException.__getattribute__"))=false:=by cases expr<;>rfl
 have hx2:(Value.builtin "BaseException.__getattribute__"==Value.builtin "object.__getattribute__")=false:=by decide +kernel
 have hx1:(onTheHeap (Value.ref C)&&Value.builtin "BaseException.__getattribute__"==Value.builtin "object.__getattribute__")=false:=by rw[hx2];rfl
 have sub:Looks (model prog w) hp (isInstance (.ref x) (.type "BaseException")) true:=I.type.andThen (looks_mroIn X (c.mro (by decide)));have hbnd:=zg4.bind (.ref x);unfold getAttrBy;refine D0 (y0 (L0.at (y0 (L1.at ?_))));dsimp only;rw[O0 (by rw[hx1];decide)];unfold getAttrByItsOwn hookBefore;rw[H0 (show onTheHeap (Value.ref C)=true from rfl)];refine y0 (LG.at (y0 (T3 (D0 ?_))));unfold callGetattribute;rw[O0 (by rw[hx0];decide)];unfold boundAndCalled;rw[hbnd];refine y0 (d0 ?_);refine G4 (N5 zg4.plain F.entry_bexc_ga (@check_slot (model prog w) _ _ ⟨hp,g,d,tk,os⟩ "BaseException.__getattribute__" "BaseException" "__getattribute__" (.ref x) [.str name t] [] _ v1b z1z sub (F.args_bexc_ga (.ref x) (.str name t)) ?_));refine y0 (d0 (y0 (d0 (y0 (L0.at (y0 (L2.at ?_)))))));cases r with
 |value v=>
  refine K0 h (fun fin s' z=>?_) fun _ _ z=>z.elim
  let ⟨v,rfl,z⟩:=z;exact z
 |bind g a=>
  refine K0 h (fun fin s' z=>?_) fun _ _ z=>z.elim
  let ⟨v,rfl,z⟩:=z;exact z
 |missing=>exact absurd rfl hr
def z20{name:Str}{expr:Bool}{v:Z0}{Q:Z0->Y0->Prop}(X:K.In s.heap)(I:InstAt s.heap x ox C od)(c:XC K C)
 (a:findObj K C od name=some (.value v)) (b:handedIn v=true) (h:Q v {s with toks:=s.toks+1}):wpAny (model prog w) A (getAttr (.ref x) name expr) Q E s:=by
 unfold getAttr;refine y0 (wpAny_mkText (z1y (s:={s with toks:=s.toks+1}) X I c a (d0 ⟨v,rfl,?_⟩) (λq=>by cases q)));rw[handedOut_of b];exact d0 h
def z21{Q:Option Z0->Y0->Prop}(X:K.In s.heap)(I:InstAt s.heap x ox C od)(c:XC K C)(h:Q (some (.ref C)) {s with toks:=s.toks+1}):
 wpAny (model prog w) A (getAttr? (.ref x) "__class__") Q E s:=by
 have a:findObj K C od "__class__"=some (.bind (.builtin "getset_descriptor.__get__") (.builtin "object.__class__")):=by
  let ⟨cd,b,_⟩:=any_some c.hd;unfold findObj;rw[b,f1u,c.ca,f1u];show ((specialIn K (.builtin "object.__class__") "__get__").bind _)=_;rw[c.cg,f1u];show ((takesIn K (.builtin "object.__class__")).bind _)=_;rw[c.ct];rfl
 unfold getAttr? getAttrBy?;refine y0 (wpAny_mkText (y0 (T3 (z1y (s:={s with toks:=s.toks+1}) X I c a ?_ (λq=>by cases q)))));show wpAny _ _ (holding [_] (call (.builtin "getset_descriptor.__get__") [.builtin "object.__class__",.ref x,.ref C]) >>= ret) _ _ _;refine y0 (D0 (G4 (class_get (s:={s with toks:=s.toks+1}) X I (c.mro (by decide)) (d0 ⟨_,rfl,?_⟩))));exact handed_on rfl (d0 h)
def zZ9(c:XC K C):KitX K (.ref x) (.ref C) (λh=>InstAt h x ox C od)where
 ty:=λ_ _ _ I=>I.type
 it:=λ_ _ X _=>by
  let ⟨b,a,_⟩:=any_some c.hd;unfold clsIn at a;split at a
  .rename_i i j d f ho;intro m o p r k q;exact y0 (G5 (k _ _ (X _ _ ho)) (d0 q))
  .cases a
 ne:=λh tp t l n sl X g=>by
  let ⟨b,a,_⟩:=any_some c.hd;refine b1r.mpr λq=>?_
  have e:=Value.ref.inj (beq_iff_eq.mp q);subst e;unfold clsIn at a;split at a
  .rename_i i j d f ho;have z:=(X _ _ ho).symm.trans g;cases z
  .cases a
 ca:=λX I k=>z21 X I c k
end
end PySem.W
namespace L2
open Spec PyProof.Rows
variable{P:V0}{w:T0}{H:Hp}{h:J0}{fr k:Nat}{x C a f:X0}{od T:Option X0}{pins:List (X0×Obj)}{σ:St}{s s':Y0}{y:Str}{scope:P4}{W:XW}{fd:l3}{ps:List Str}{sp:Sp}
open W (XC)
def XO(fr:Nat)(x C:X0)(od:Option X0):HO:=.ext λh=>∃o vs,h.get? x=some o/\o.cls=.ref C/\o.dict=od/\o.data=.fields vs/\((fr=1->o.slots=#[]/\vs[1]?=some .none/\4<vs.size)/\(fr≠0->vs[2]?=some .none))
def XD(dx:X0)(fs:List (Str×V)):HO:=.ext λh=>∃mA,h.Ns1 dx mA/\(∀f,zk4 (fs.lookup f) (mA f))/\PySem.Within mA (fs.map (·.1))
def XO.ok(hx:∃o vs,h.get? x=some o/\o.cls=.ref C/\o.dict=od/\o.data=.fields vs/\((fr=1->o.slots=#[]/\vs[1]?=some .none/\4<vs.size)/\(fr≠0->vs[2]?=some .none))):zx6 P w H h x (XO fr x C od):=by
 refine ⟨hx,?_,λa b q k=>?_⟩
 .grind
 .grind
def XD.ok{b:X0}{fs:List (Str×V)}(hx:∃a,h.Ns1 b a/\(∀f,zk4 (fs.lookup f) (a f))/\PySem.Within a (fs.map (·.1))):zx6 P w H h b (XD b fs):=by
 refine ⟨hx,?_,λg i q k=>?_⟩
 .let ⟨a,⟨o,c,d,e,_⟩,_⟩:=hx;exact ⟨o,e⟩
 .let ⟨a,⟨o,c,d,e,r⟩,z⟩:=q;exact ⟨a,⟨o,c,d,k o e,r⟩,z⟩
def zx6.there{o:HO}(x:zx6 P w H h a o):∃u,h.get? a=some u:=by
 cases o with
 |lst c=>let ⟨_,_,_,_,e⟩:=x;exact ⟨_,e⟩
 |tup c=>let ⟨_,_,_,o,e,_⟩:=x;exact ⟨_,e⟩
 |dK b=>let ⟨_,_,_,_,o,_,_,e,_⟩:=x;exact ⟨_,e⟩
 |dT b G=>let ⟨_,_,_,_,o,_,_,e,_⟩:=x;exact ⟨_,e⟩
 |set S n=>let ⟨o,_,_,_,e,_⟩:=x;exact ⟨_,e⟩
 |ins C d fs=>let ⟨_,_,_,e,_⟩:=x;exact ⟨_,e⟩
 |own y=>let ⟨_,e⟩:=x;exact ⟨_,e⟩
 |xd fs=>let ⟨_,⟨_,_,_,e,_⟩,_⟩:=x;exact ⟨_,e⟩
 |rng lo g=>let ⟨_,_,_,e⟩:=x;exact ⟨_,e⟩
 |frz ob u=>let ⟨e,_⟩:=x;exact ⟨_,e⟩
 |tbl i=>exact ⟨_,x⟩
 |met f y=>exact ⟨_,x⟩
 |ext j=>let ⟨_,⟨_,e⟩,_⟩:=x;exact ⟨_,e⟩
def HOk.free(x:HOk P w H h)(e:h.get? a=none):H a=none:=by
 cases q:H a with
 |none=>rfl
 |some u=>
  let ⟨o,z⟩:=(x a u q).there
  grind
def Inv.z22{X:Cx}{h':J0}{o:HO}{t':Nat}(I:Inv X pins σ H s)(k:∀b u,s.heap.get? b=some u->h'.get? b=some u)(d:s.heap.get? a=none)(new:zx6 X.prog X.w (upd H a o) h' a o):
 Inv X pins σ (upd H a o) {s with heap:=h',toks:=t'}:=by
 have hn:=I.hok.free d;have i:∀b u,s.heap.get? b=some u->b≠a:=λb u q z=>by rw[z,d]at q;cases q
 refine I.un (t':=t') ⟨λb u q _ _ _=>k b u q,λb u q _ _ _=>⟨u.slots,k b u q⟩,λb u q n _=>by rw[j0 (i b u q)];exact n,λb u q _=>⟨u,k b u q⟩,λb f q=>by rw[j0 (i0 q hn)];exact q,
  λb u f q=>by rw[j0 (i0 q hn)];exact q,λb j q=>⟨#[],by rw[j0 (i0 q hn),q];simp⟩⟩ λb u e=>?_
 by_cases g:b=a
 .subst g;rw[j3]at e;cases e;exact new
 .rw[j0 g]at e;exact (I.hok b u e).zo2 (λc v _ q=>k c v q) (λc q=>by rw[j0 (i0 q hn)];exact q) λc f q=>by rw[j0 (i0 q hn)];exact q
theorem XO.get(hok:HOk P w H h)(e:H x=some (XO fr x C od)):
 ∃o vs,h.get? x=some o/\o.cls=.ref C/\o.dict=od/\o.data=.fields vs/\((fr=1->o.slots=#[]/\vs[1]?=some .none/\4<vs.size)/\(fr≠0->vs[2]?=some .none)):=(hok x _ e).1
def XD.get{a:X0}{fs:List (Str×V)}(hok:HOk P w H h)(e:H a=some (XD a fs)):
 ∃b,h.Ns1 a b/\(∀f,zk4 (fs.lookup f) (b f))/\PySem.Within b (fs.map (·.1)):=(hok a _ e).1
section
variable{X:Cx}{pins:List (X0×Obj)}{σ:St}{H:Hp}{s:Y0}{x C dx:X0}{fs:List (Str×V)}{f:Str}{v:V}{A:A0}{E:Z0->Y0->Prop}
def z23{y:V}{u:Z0}{Q:Unit->Y0->Prop}(I:Inv X pins σ H s)(e:H x=some (XO 1 x C none))(c:XC X.K C)(n:zy9 X.K C f)(L:RelV y u)
 (h:∀d s',H d=none->d≠x->Inv X pins σ (upd (upd H d (XD d [(f,y)])) x (XO 1 x C (some d))) s'->Q () s'):wpAny (model X.prog X.w) A (setAttr (.ref x) f u) Q E s:=by
 let ⟨o,k,hx,B,D,F,i⟩:=XO.get I.hok e;let ⟨G,M,N⟩:=i.1 rfl;have O:=i.2;clear i;let ⟨oc,od,P,R⟩:=o;dsimp only at B D F G;subst B D F G;have r:x≠s.heap.objs.size:=k1i (k1n hx);refine PySem.W.zQ6 I.kIn c hx n.zS8 λJ e1 e2 e3=>h s.heap.objs.size _ (I.hok.fresh (k1q _)) r.symm ?_
 have mu:Mut (H x):=by rw[e];exact True.intro
 have keep:∀b o,b≠x->s.heap.get? b=some o->J.get? b=some o:=e3;have t:∃o k,J.get? x=some o/\o.cls=.ref C/\o.dict=some s.heap.objs.size/\o.data=.fields k/\((1=1->o.slots=#[]/\k[1]?=some .none/\4<k.size)/\(1≠0->k[2]?=some .none)):=⟨_,k,e1,rfl,rfl,rfl,λ_=>⟨rfl,M,N⟩,O⟩;have j:H s.heap.objs.size=none:=I.hok.fresh (k1q _);have neF:∀b o,s.heap.get? b=some o->b≠s.heap.objs.size:=λb o q=>k1i (k1n q)
 have neT:∀b u,H b=some u->b≠s.heap.objs.size:=λb u q z=>by rw[z,j]at q;cases q
 have nx:∀b,H b=none->b≠x:=λb q z=>by rw[z,e]at q;cases q
 have tr:∀b u,H b=some u->b≠x->(upd (upd H s.heap.objs.size (XD s.heap.objs.size [(f,y)])) x (XO 1 x C (some s.heap.objs.size))) b=some u:=λb u q z=>by rw[j0 z,j0 (neT b u q)];exact q
 refine I.un (t':=s.toks+2) ⟨λb o q m _ _=>keep b o (nx b m) q,λb o q m _ _=>⟨o.slots,keep b o (nx b m) q⟩,λb o q m _=>?_,λb o q _=>?_,λb S q=>?_,λb o u q=>?_,λb ps q=>⟨#[],?_⟩⟩ ?_
 .rw[j0 (nx b m),j0 (neF b o q)];exact m
 .by_cases z:b=x
  .subst z;exact ⟨_,e1⟩
  .exact ⟨o,keep b o z q⟩
 .exact tr b _ q (λz=>by rw[z,e]at q;cases q)
 .exact tr b _ q (λz=>by rw[z,e]at q;cases q)
 .rw[tr b _ q (λz=>by rw[z,e]at q;cases q)];simp
 .intro b u q;by_cases z:b=x
  .subst z;rw[j3]at q;cases q;exact XO.ok t
  .rw[j0 z]at q;by_cases z2:b=s.heap.objs.size
   .subst z2;rw[j3]at q;cases q;refine XD.ok ⟨_,e2,λg=>?_,λg U=>?_⟩
    .have l:=v0g f g y [];rw[show zk5 f y []=[(f,y)]from rfl]at l;rw[l];by_cases w:g=f
     .rw[H0 w,H0 w];exact L
     .rw[O0 w,O0 w];exact True.intro
    .by_cases w:g=f
     .rw[w];simp
     .exact absurd (O0 w) U
   .rw[j0 z2]at q;refine (I.hok b u q).zo2 (λZ v' p a=>keep Z v' ?_ a) (λv a=>tr v _ a (λz=>by rw[z,e]at a;cases a)) (λv S a=>tr v _ a (λz=>by rw[z,e]at a;cases a));rcases p with p |p
    .rw[p];exact z
    .exact λz=>by rw[z,e]at p;cases p
def XO.inst(I:Inv X pins σ H s)(e:H x=some (XO fr x C od))(g:∀d,od=some d->∃o,s.heap.get? d=some o):∃i a,PySem.W.InstAt s.heap x i C a/\∀d,od=some d->∃o,a=some o/\s.heap.get? d=some o:=by
 let ⟨o,j,hx,b,c,f,_⟩:=XO.get I.hok e;cases od with
 |none=>exact ⟨o,none,⟨hx,b,by unfold PySem.W.notCls;rw[f],by rw[c];trivial⟩,λd z=>by cases z⟩
 |some d=>
  let ⟨od,hd⟩:=g d rfl;exact ⟨o,some od,⟨hx,b,by unfold PySem.W.notCls;rw[f],by rw[c];exact hd⟩,λk z=>by cases z;exact ⟨od,rfl,hd⟩⟩
def xget{b:Bool}{Q:Z0->Y0->Prop}(I:Inv X pins σ H s)(e:H x=some (XO fr x C (some dx)))(j:H dx=some (XD dx fs))(c:XC X.K C)(n:zy9 X.K C f)(l:fs.lookup f=some v)
 (h:∀u s',Inv X pins σ H s'->RelV v u->Q u s'):wpAny (model X.prog X.w) A (getAttr (.ref x) f b) Q E s:=by
 let ⟨m,hn,r,D⟩:=XD.get I.hok j;let ⟨u,p,i⟩:=zk4.some_of (v:=v) (o:=m f) (by rw[<-l];exact r f);let ⟨t,a,y⟩:=q0b hn;let ⟨F,B,J,k⟩:=XO.inst I e λd z=>by cases z;exact ⟨t,a⟩
 let ⟨G,rfl,g⟩:=k dx rfl;rw[a]at g;cases g;exact PySem.W.z20 I.kIn J c (c1e c.hd n rfl (by rw[y,p])) (k0q i) (h u _ (I.tok _) i)
end
def sX0(K:Fg)(ta tv:TE)(f:Str):TS:=λD σ H=>tv σ H λy H1=>ta σ H1 λx H2=>∃a C,x=.ref a/\H2 a=some (XO 1 a C none)/\XC K C/\zy9 K C f/\
 ∀d,H2 d=none->d≠a->D.nx σ (upd (upd H2 d (XD d [(f,y)])) a (XO 1 a C (some d)))
def z24(K:Fg)(ta:TE)(f:Str):TE:=λσ H Q=>ta σ H λx H1=>∃fr a C d fs v,x=.ref a/\H1 a=some (XO fr a C (some d))/\H1 d=some (XD d fs)/\XC K C/\zy9 K C f/\fs.lookup f=some v/\Q v H1
section
variable{X:Cx}{o e value:Expr}{f:Str}{pos pos':Pos}{ta tv:TE}
def v1a(ha:PE X o ta)(i:PE X value tv)(hs:B2 value (some (.Attribute o f pos')) pos.line X.env=pure false):PS X (.Assign [.Attribute o f pos'] value pos) (sX0 X.K ta tv f):=by
 intro b s e H D I h;refine W5 (thn (i b s e H _ I h) λu j ⟨y,k,l,m,q⟩=>thn (ha b j e k _ l q) λp z zz=>?_) hs;let ⟨x,B,I2,r,a,C,ex,t,c,n,v⟩:=zz;subst ex;obtain rfl:p=Value.ref a:=r;exact z23 I2 t c n m λd F hd g w=>⟨e,_,w,v d hd g⟩
def o1v(d:PE X e ta)(g:U1 e f X.env (eval e X.env)=eval e X.env):PE X (.Attribute e f pos) (z24 X.K ta f):=by
 intro b s i H Q I h;refine a0r g (thn (d b s i H _ I h) λu t zz=>?_);let ⟨x,j,k,m,fr,a,C,w,fs,v,ex,o,p,c,n,l,q⟩:=zz;subst ex;obtain rfl:u=Value.ref a:=m;exact xget k o p c n l λy z I2 r=>⟨v,j,I2,r,q⟩
end
def zf5(K:Fg)(C:X0):Bool:=match K.lookup C with
 |some ⟨.type "type",_,.cls cd,sl⟩=>(match cd.mro,sl.toList with
  | .ref C'::bm,[_,_,_,_,some (.builtin n),_]=>C'==C&&n=="ValueError.__new__"&&!cd.hasDel&&PySem.W.tailIn K PySem.W.zx8 bm
  |_,_=>false)
 |_=>false
def r1i{K:Fg}(X:K.In h)(q:zf5 K C=true):∃k l N bs d b m sub o a p e f g i j,
 h.get? C=some (excClassObj k l C N bs d b m sub o a p e f g i j "ValueError.__new__")/\OwnTail h PySem.W.zx8 d:=by
 unfold zf5 at q;split at q
 .rename_i p cd sl ho;split at q
  .rename_i u d e f g i n j hm hs;simp only[k1p,beq_iff_eq,i1m]at q;let ⟨⟨⟨rfl,rfl⟩,c⟩,t⟩:=q;let ⟨k,bs,mro,ns,l,hd,m,sub,o,a,del⟩:=cd;subst hm c;have r:sl=#[e,f,g,i,some (.builtin "ValueError.__new__"),j]:=by
    grind
   subst r;exact ⟨k,l,ns,bs,d,hd,m,sub,o,a,p,e,f,g,i,j,X _ _ ho,b1v X t⟩
  .cases q
 .cases q
structure XMk(K:Fg)(C f:X0):Prop where
 sh:zf5 K C=true
 init:PySem.W.findIn K (.ref C) "__init__"=some (some (.ref f))
 fn:PySem.W.isFn K (.ref f)=true
 kp:PySem.W.keepIn K (.ref C)=true
section
variable{X:Cx}{CX:CXT}{k:Nat}{f C:X0}{fd:l3}{ps:List Str}{sp:Sp}{E:XK}{e o:Expr}
def Inv.z25{us:List Z0}(I:Inv X pins σ H s):
 Inv X pins σ (upd H (s.heap.objs.size+1) (XO 1 (s.heap.objs.size+1) C none)) {s with heap:=(s.heap.push (PySem.W.zc4 us)).push (PySem.W.zf4 C s.heap.objs.size)}:=by
 have a:=I.kept (h':=s.heap.push (PySem.W.zc4 us)) (t':=s.toks) λb o e=>k1w _ e
 have e2:=by
  have:=k1s (s.heap.push (PySem.W.zc4 us)) (o:=PySem.W.zf4 C s.heap.objs.size) rfl
  rwa[j1j]at this
 exact a.laid (λb u q=>k1w _ q) (e1c (j1j _ _)) (XO.ok ⟨_,_,e2,rfl,rfl,rfl,⟨λ_=>⟨rfl,rfl,by simp⟩,λ_=>rfl⟩⟩)
def k0b{pins:List (X0×Obj)}{σ:St}{H:Hp}{s:Y0}{Q:VK}{us:List Z0}{vs:List V}(M:XMk X.K C f)(F:zo4 X.prog X.w X.K X.mg X.base CX k f fd ps sp)(hr:zu7 (k+1) X.A)(m:Binds X.K fd ps [])
 (hx:r1n CX X E) (I:Inv X pins σ H s) (r:zy8 vs us) (hz:vs.length<=sizeLine)
 (i:sp (.ref (s.heap.objs.size+1)::vs) (upd H (s.heap.objs.size+1) (XO 1 (s.heap.objs.size+1) C none)) (λv n=>v=.non/\Q (.ref (s.heap.objs.size+1)) n) E):
 wpAny (model X.prog X.w) X.A (call (.ref C) us) (λu s'=>u=.ref (s.heap.objs.size+1)/\EP X pins σ Q u s') X.xe s:=by
 have I2:=Inv.z25 (C:=C) (us:=us) I;have j:zy8 (V.ref (s.heap.objs.size+1)::vs) (Value.ref (s.heap.objs.size+1)::us):=.cons rfl r;have o:(Value.ref (s.heap.objs.size+1)::us++[]).length=ps.length:=by
  have e:=j.length;rw[F.len _ _ _ _ i]at e
  (simp[*])
 let ⟨L,O,N,bs,P,l,R,sub,S,p,U,Z,k1,k2,k3,k5,t,y⟩:=r1i I.kIn M.sh;have b:=m _ (Value.ref (s.heap.objs.size+1)::us) I2.kIn o;rw[h1s]at b;have c:=F.run _ X.stack _ _ ⟨Value.ref (s.heap.objs.size+1)::us,[]⟩ (Value.ref (s.heap.objs.size+1)::us) _ _ E (hr.make C us []) (I2.z08.make C us []) b j i;let ⟨z,g,d,tk,os⟩:=s;refine G4 (PySem.W.zi5 e1f y t (c1o I.kIn M.init) (λself=>a1o I.kIn self (beq_iff_eq.mp M.fn)) (W4 c λr s' a=>?_) (by rw[<-r.length];exact hz));cases r with
 |error e=>exact hx pins σ _ _ e s' I2 a
 |ok fl=>
  cases fl with
  |ret u=>
   let ⟨v,B,D,G,J,q3⟩:=I2.after a;subst J;exact ⟨G,rfl,⟨V.ref (z.objs.size+1),B,D,rfl,q3⟩⟩
  |next=>exact False.elim a
  |brk=>exact False.elim a
  |cont=>exact False.elim a
structure zV8(K:Fg)(C:X0):Prop where
 ex:PySem.W.excIn K C PySem.W.zx8 "ValueError.__new__"=true
 kp:PySem.W.keepIn K (.ref C)=true
def u1z{Q:VK}{A:A0}{E:Z0->Y0->Prop}(M:zV8 X.K C)(I:Inv X pins σ H s)(h:Q (.ref (s.heap.objs.size+1)) (upd H (s.heap.objs.size+1) (XO 1 (s.heap.objs.size+1) C none))):
 wpAny (model X.prog X.w) A (call (.ref C) []) (EP X pins σ Q) E s:=by
 have q:=M.ex;unfold PySem.W.excIn at q;split at q
 .rename_i p cd sl ho;split at q
  .rename_i r t e f i j n k hm hs;simp only[k1p,beq_iff_eq,i1m]at q;let ⟨⟨⟨⟨⟨rfl,rfl⟩,a⟩,l⟩,hok⟩,b⟩:=q;let ⟨u,bs,mro,ns,v,hd,y,sub,z,m,del⟩:=cd;subst hm a;have c:sl=#[e,f,i,j,some (.builtin "ValueError.__new__"),k]:=by
    grind
   subst c;let ⟨o,g,d,tk,os⟩:=s;refine PySem.W.zk9 e1f (b1v I.kIn l) (I.kIn _ _ ho) (Heap.Ns.of_isNs (PySem.W.isNs_of_in I.kIn hok)) (PySem.W.nsMap_none_of_in I.kIn hok b) (λB t2 kp hx=>?_);exact ⟨.ref (o.objs.size+1),_,I.z22 kp (c1p (h1i _)) (XO.ok ⟨_,_,hx,rfl,rfl,rfl,⟨λ_=>⟨rfl,rfl,by simp⟩,λ_=>rfl⟩⟩),rfl,h⟩
  .cases q
 .cases q
end
open W (XC)
inductive TyX(K:Fg)(H:Hp):V->Z0->Prop where
 |of {x:V} {t:Z0} (h:zf2 K H x t):TyX K H x t
 |exc {fr:Nat} {a C d:X0} {fs:List (Str×V)} (e:H a=some (XO fr a C (some d))) (ed:H d=some (XD d fs)) (c:XC K C):TyX K H (.ref a) (.ref C)
 |exc0 {fr:Nat} {a C:X0} (e:H a=some (XO fr a C none)) (c:XC K C):TyX K H (.ref a) (.ref C)
section
variable{X:Cx}
def InstB(K:Fg)(H:Hp)(t:Z0)(c:V)(b:Bool):Prop:=
 (∃n,c=.ty n/\PySem.W.kitOne K t (.type n)=some b)\/(∃C,c=.ref C/\PySem.W.kitOne K t (.ref C)=some b)\/∃(a:X0) (cs:List String),c=.ref a/\H a=some (.tup (cs.map V.ty))/\PySem.W.kitAny K t (cs.map Value.type)=some b
def zQ8(K:Fg):List V->Hp->VK->Prop:=λvs H Q=>∃x c t b,vs=[x,c]/\TyX K H x t/\InstB K H t c b/\Q (.bl b) H
theorem r1h:∀{cs:List String} {us:List Z0},zy8 (cs.map V.ty) us->us=cs.map Value.type
 | [],_,.nil=>rfl
 |c::cs,_,.cons r t=>by
  have e:=r;rw[e,r1h t];rfl
def i5{Q:VK}{c:V}{u f t:Z0}{b:Bool}{g:J0->Prop}(I:Inv X pins σ H s)(Z:PySem.W.KitX X.K u t g)(p:g s.heap)(d:RelV c f)(e:InstB X.K H t c b)
 (hx:u≠.builtin "__main__.__loader__#opaque") (q:Q (.bl b) H):wpAny (model X.prog X.w) X.A (call (.builtin "isinstance") [u,f]) (EP X pins σ Q) X.xe s:=by
 have fin:∀tk,EP X pins σ Q (.bool b) {s with toks:=tk}:=λtk=>⟨.bl b,H,I.tok tk,rfl,q⟩
 rcases e with ⟨n,rfl,e⟩|⟨C,rfl,e⟩|⟨a,m,rfl,ha,e⟩
 .cases d;exact a1l Z I.kIn p e hx fin
 .cases d;exact a1l Z I.kIn p e hx fin
 .cases d;let ⟨z,i,r,o,ho,j,⟨n,hd⟩,_⟩:=(I.hok a _ ha);obtain rfl:=r1h r;let ⟨v,y,k,l⟩:=o;subst j hd;exact PySem.W.kia_tup Z I.kIn p ho e hx fin
def z1x:x0t X (.builtin "isinstance") (zQ8 X.K):=by
 intro D s U H r V Q I L h;let ⟨x,c,t,b,rfl,ty,e,q⟩:=h;let ⟨u,Z,rfl,g,j⟩:=zy8.two L;cases ty with
 |exc f M c=>
  rename_i fr a C d fs;cases g;let ⟨N,hn,_,_⟩:=XD.get I.hok M;let ⟨F,v,_⟩:=q0b hn;let ⟨P,w,J,k⟩:=XO.inst I f λd z=>by cases z;exact ⟨F,v⟩
  exact i5 I (PySem.W.zZ9 c) J j e (λz=>nomatch z) q
 |exc0 f c=>
  rename_i fr a C;cases g;let ⟨P,w,J,k⟩:=XO.inst I f λd z=>by cases z
  exact i5 I (PySem.W.zZ9 c) J j e (λz=>nomatch z) q
 |of ty=>
  cases ty with
  |non=>cases g;exact i5 I PySem.W.kitx_none True.intro j e (λz=>nomatch z) q
  |bl y=>cases g;exact i5 I PySem.W.kitx_bool True.intro j e (λz=>nomatch z) q
  |int i=>let ⟨t,z⟩:=g;cases z;exact i5 I PySem.W.kitx_int True.intro j e (λz=>nomatch z) q
  |str y=>let ⟨t,z⟩:=g;cases z;exact i5 I PySem.W.kitx_str True.intro j e (λz=>nomatch z) q
  |flt y=>let ⟨t,z⟩:=g;cases z;exact i5 I PySem.W.kitx_float True.intro j e (λz=>nomatch z) q
  | @lst a r f=>
   cases g;let ⟨_,_,n,_,l⟩:=(I.hok a _ f);exact i5 I b1q ⟨_,l,rfl⟩ j e (λz=>nomatch z) q
  | @frz a ob r f=>
   cases g;let ⟨_,_,_,n,_,l⟩:=(I.hok a _ f);exact i5 I b1q ⟨_,l,rfl⟩ j e (λz=>nomatch z) q
  | @tup a r f=>
   cases g;let ⟨_,_,_,p⟩:=(I.hok a _ f);let ⟨o,l,m,_⟩:=p;exact i5 I PySem.W.kitx_tuple ⟨o,l,m⟩ j e (λz=>nomatch z) q
  | @dK a B f=>
   cases g;let ⟨_,_,vs,_,p⟩:=(I.hok a _ f);let ⟨o,R,S,l,m,_⟩:=p;exact i5 I b1p ⟨o,l,m.1⟩ j e (λz=>nomatch z) q
  | @dT a B G f=>
   cases g;let ⟨_,_,r,_,o,R,S,l,m,_⟩:=(I.hok a _ f);exact i5 I b1p ⟨o,l,m.1⟩ j e (λz=>nomatch z) q
  | @ins a C dx fs f cl ha hn htk hm=>
   cases g;let ⟨N,O,_⟩:=h0m I.hok f;let ⟨F,J,_⟩:=O.look;exact i5 I (PySem.W.kitx_own (cl.get _) cl.hd ha hn htk hm) J j e (λz=>nomatch z) q
def rAll(K:Fg):List V->Hp->VK->Prop:=λvs H Q=>∃(a:X0) (bs:List Bool),vs=[.ref a]/\SqL K H a (bs.map V.bl)/\Q (.bl (bs.all id)) H
theorem n0a:∀{bs:List Bool} {us:List Z0},zy8 (bs.map V.bl) us->PyProof.Rows.LSm.BoolsAre us bs
 | [],_,.nil=>.nil
 |b::bs,_,.cons r t=>by
  have e:=r;subst e;exact .cons b (n0a t)
def u1y(l:X.calm=true):x0t X (.builtin "all") (rAll X.K):=by
 intro g s w H y z Q I m h;let ⟨a,bs,rfl,n,q⟩:=h;let ⟨u,rfl,o⟩:=m.one;cases o;let ⟨c,r,p,hz⟩:=I.list n;have d:=p.isList;have j:=n0a r;have f:a<s.heap.objs.size:=by let ⟨_,e,_⟩:=d;exact k1n e
 refine call_all_walk (A4 d ?_);refine ⟨s.heap.objs.size,[s.heap.objs.size,a],[s.heap.objs.size],c.toArray.size,_,_,λi=>(bs[i]?).getD true,rfl,a1e (A:=X.A.in1) (I.ok.hd l) _ a (k1i f) c.toArray,
  ⟨⟨_,k1s _ rfl,rfl,rfl⟩,d.push _⟩,λi v B C D F k=>?_,λG tk t=>?_⟩
 .let ⟨b,e,rfl⟩:=j.get i v (by grind);simp only[e]at k;exact J1 k
 .have e:((List.range c.toArray.size).all λi=>(bs[i]?).getD true)=bs.all id:=by
   rw[j1m,j.length];exact a1f bs
  rw[e];exact ⟨.bl _,H,I.kept (e1e t),rfl,q⟩
end
def z0n{env:Env}(h:∀p∈scope.names,p.2=.free->∃c,env.cells.lookup p.1=some c):
 ∃cl,closureFor scope env=pure cl/\(∀y c,cl.lookup y=some c->env.cells.lookup y=some c)/\∀y,(y,NameKind.free)∈scope.names->∃c,cl.lookup y=some c:=by
 have key:∀(a:List (Str×NameKind)) (b:List (Str×Addr)),(∀p∈a,p.2=.free->∃c,env.cells.lookup p.1=some c)->(∀y c,b.lookup y=some c->env.cells.lookup y=some c)->
  ∃cl,(forIn a b (λ(p:Str×NameKind) (r:List (Str×Addr))=>match p with |(name,kind)=>if (kind==NameKind.free)=true then cellOf env name >>= λc=>pure (ForInStep.yield ((name,c)::r))else pure (ForInStep.yield r)):Sem (List (Str×Addr)))=pure cl/\
   (∀y c,cl.lookup y=some c->env.cells.lookup y=some c)/\(∀y,(y,NameKind.free)∈a->∃c,cl.lookup y=some c)/\∀y c,b.lookup y=some c->∃d,cl.lookup y=some d:=by
  intro a
  induction a with
  |nil=>intro b _ f;exact ⟨b,rfl,f,(λy l=>by cases l),λy c e=>⟨c,e⟩⟩
  |cons p r t=>
   intro b m f;let ⟨pn,g⟩:=p;rw[e1n];dsimp only;by_cases n:g=.free
   .let ⟨c,e⟩:=m (pn,g) k1g n;have w:cellOf env pn=pure c:=by
     unfold cellOf
     (simp[*])
    have B:(g==NameKind.free)=true:=by rw[n];rfl
    let ⟨cl,u,i,j,v⟩:=t ((pn,c)::b) (λq o=>m q (k1o _ o)) (λy d k=>by
     rw[a1y]at k;split at k
     .simp_all
     .exact f y d k)
    refine ⟨cl,?_,i,λy l=>?_,λy d k=>?_⟩
    .simp_all
    .rcases j1n.mp l with z |z
     .simp_all
     .exact j y z
    .by_cases z:y=pn
     .simp_all
     .exact v y d (by grind)
   .have B:¬(g==NameKind.free)=true:=by simpa using n
    let ⟨cl,u,i,j,v⟩:=t b (λq o=>m q (k1o _ o)) f
    grind
 let ⟨cl,u,i,j,_⟩:=key scope.names [] h (λy c e=>by cases e);refine ⟨cl,?_,i,j⟩;unfold closureFor
 simp_all
theorem x0r{env:Env}:∀{a:List (Str×NameKind)} {x:Str} {k:NameKind},(a.map λ(n,k)=>if (k==NameKind.free&&env.scope.kind== .function&&env.kindOf n==some .cell)then (n,NameKind.cell)else (n,k)).lookup x=some k->
 k=.cell\/k=.free->(∀y∈a,y.2≠.cell)->(x,NameKind.free)∈a
 | [],_,_,h,_,_=>by simp at h
 |(n,b)::r,x,k,h,c,d=>by
  have h:List.lookup x ((if (b==NameKind.free&&env.scope.kind== .function&&env.kindOf n==some .cell)=true then (n,NameKind.cell)else (n,b))::(r.map λ(n,k)=>if (k==NameKind.free&&env.scope.kind== .function&&env.kindOf n==some .cell)then (n,NameKind.cell)else (n,k)))=some k:=h;by_cases hx:x=n
  . (split at *<;>simp_all)
  .refine k1o _ (x0r (env:=env) ?_ c λy e=>d y (k1o _ e))
   grind
section
def k0a{env:Env}(h:scope.names.lookup y=some .free):(relabel scope env).names.lookup y=some .cell\/(relabel scope env).names.lookup y=some .free:=by
 unfold relabel;generalize scope.names=a at h
 induction a with
 |nil=>cases h
 |cons p r b=>
  grind
end
structure zu0(X:Cx)(pins:List (X0×Obj))(H:Hp)(C:X0):Prop where
 free:H C=none
 ne:C≠X.env.locals
 yng:X.zy0.heap.objs.size<=C
 cell:∀x c,X.env.cells.lookup x=some c->c≠C
 pin:∀p∈X.pn++pins,p.1≠C
open W (XC)
def Fly(c:Bool)(h:J0)(x C:X0)(od T:Option X0):Prop:=∃o vs,h.get? x=some o/\o.cls=.ref C/\o.dict=od/\o.data=.fields vs/\(1<vs.size/\(c=true->vs[2]?=some .none))/\
 match T with
 |none=>vs[1]?=some .none
 |some t=>vs[1]?=some (.ref t)/\t≠x/\∃ot ts,h.get? t=some ot/\ot.data=.fields ts/\3<ts.size
def o0k(o:Obj)(f):(o.mapFields f).dict=o.dict:=by
 let ⟨c,d,a,sl⟩:=o;cases a<;>rfl
section
variable{M:Model}{A:A0}{E:Z0->Y0->Prop}{s:Y0}
def u1x{base:J0}{env:Env}{outer:List Env}{L x:X0}{t:Obj}{vs:Array Z0}{head:Z0}{d:Bool}{Q:Unit->Y0->Prop}
 (u:A.frames=some (env::outer)) (B:s.heap.FunFrames base (env::outer)) (C:env.frame=some L) (D:s.heap.get? x=some t) (hd:t.data=.fields vs) (hsz:1<vs.size)
 (h:∀h' T,(∀b o,b≠x->b∉frs (env::outer)->s.heap.get? b=some o->h'.get? b=some o)->(∀b o,s.heap.get? b=some o->b≠x->∃sl,h'.get? b=some {o with slots:=sl})->
  h'.get? x=some (t.mapFields (·.setIfInBounds 1 (.ref T)))->s.heap.objs.size<=T->(∃m ts,h'.get? T=some m/\m.data=.fields ts/\3<ts.size)->Q () {s with heap:=h'}):
 wpAny M A (do let a<-frameOf env;let n<-entryPlaceOf L d;let b<-EntryCells.newEntry head a .none (G1 L) .none n;setField (.ref x) 1 b) Q E s:=by
 have p:x∉(env::outer).filterMap (·.frame):=λhm=>by
  let ⟨_,o,ho,F⟩:=B.mem hm
  grind
 refine y0 (wpAny_frameOf_fun u B C λf c=>?_);refine y0 (wpAny_entryPlaceOf λn v=>?_);refine y0 (N0 ?_ (v.sizeOk5 _ _ _ _ _));have g:=(c.2.1 x p).trans D;generalize G:({cls:=.type "traceback",dict:=none,data:=.fields ([head,.ref L,.none,G1 L,.none]++(if n.isEmpty then List.replicate 6 Value.none else n)).toArray}:Obj)=m;have r:m.data=.fields ([head,.ref L,.none,G1 L,.none]++(if n.isEmpty then List.replicate 6 Value.none else n)).toArray:=by rw[<-G]
 have i:=k1w m g;refine B1 i hd hsz ?_;have w:=i1p (k1n g);have j:=j1p hd (·.setIfInBounds 1 (Value.ref f.objs.size));have k:=j1a r;refine h _ f.objs.size (λb o l y z=>?_) (λb o z l=>?_) (j1x _ i (j1a j)) (by rw[c.1];exact k1q _) ⟨m,_,?_,r,?_⟩
 .rw[j1t _ _ (j1k l)];exact k1w _ ((c.2.1 b y).trans z)
 .let ⟨sl,e⟩:=c.2.2 b o z;exact ⟨sl,by rw[j1t _ _ (j1k l)];exact k1w _ e⟩
 .rw[j1t _ _ (j1k w)];exact k1s f k
 .grind
end
def Top(X:Cx):Prop:=X.stack=X.env::X.outer/\X.env.frame=some X.env.locals
section
variable{X:Cx}{pins:List (X0×Obj)}{σ:St}{H:Hp}{s:Y0}{A:A0}{E:Z0->Y0->Prop}{x C:X0}{od T:Option X0}{c:Bool}
def Inv.z26{h':J0}{ch:List X0}(I:Inv X pins σ H s)(a:∀b∈ch,zu0 X pins H b)(tp:Top X)
 (keep:∀b o,b∉ch->b∉frs X.stack->s.heap.get? b=some o->h'.get? b=some o) (slot:∀b o,b∉ch->s.heap.get? b=some o->∃sl,h'.get? b=some {o with slots:=sl})
 (nx:∀b∈ch,∃o,h'.get? b=some o):Inv X pins σ H {s with heap:=h'}:=by
 have mem:∀b,b≠X.env.locals->b∉X.fs->b∉frs X.stack:=λb j k d=>by
  rcases j1n.mp (I.zg3 b d)with z |z
  .exact j z
  .exact k z
 refine I.step (g':=s.gens) (d':=s.drawn) (t':=s.toks) (ch:=ch) (λb i=>⟨.inr (a b i).yng,(a b i).ne,(a b i).cell,(a b i).pin⟩) (λb o j k d e _=>keep b o d (mem b j k) e) (λb o _ _ d e _=>slot b o d e) (λb o _ _ n=>n)
  (λb o d e=>by let ⟨sl,q⟩:=slot b o d e;exact ⟨_,q⟩) (λ_ _ e=>e) (λ_ _ _ e=>e) (λb w e=>⟨#[],by rw[e];simp⟩) (λm hm=>?_) (λb u e=>?_) I.bare
 .let ⟨o,l,p,ho,r⟩:=hm;let ⟨sl,q⟩:=slot _ o (λz=>(a _ z).ne rfl) ho;exact ⟨_,l,p,q,r⟩
 .have f:∀c v,H c=some v->c∉ch:=λc v q z=>by rw[(a c z).free]at q;cases q
  have g:∀c v,H c=some v->c∉frs X.stack:=λc v q z=>by rw[I.zi3 c z]at q;cases q
  refine (I.hok b u e).zo2 (λc v t q=>?_) (λ_ q=>q) λ_ _ q=>q
  rcases t with z |z
  .subst z;exact keep c v (f c _ e) (g c _ e) q
  .exact keep c v (f c _ z) (g c _ z) q
def Inv.zj0(I:Inv X pins σ H s){t:X0}(h:s.heap.objs.size<=t):zu0 X pins H t:=
 ⟨I.hok.fresh h,i1p (k1f I.lt h),j1o I.sz h,λy c e=>by let ⟨v,z⟩:=I.cell y c e;exact k1i (k1f z.lt h),λp a=>k1i (k1f (k1n (I.pin p a).1) h)⟩
def e0t{M:Model}{Q:Unit->Y0->Prop}{head:Z0}{d:Bool}(I:Inv X pins σ H s)(tp:Top X)(m:A.frames=some X.stack)(f:Fly c s.heap x C od T)(r:zu0 X pins H x)
 (h:∀s' t,Inv X pins σ H s'->Fly c s'.heap x C od (some t)->zu0 X pins H t->Q () s'):
 wpAny M A (do let a<-frameOf X.env;let u<-entryPlaceOf X.env.locals d;let b<-EntryCells.newEntry head a .none (G1 X.env.locals) .none u;setField (.ref x) 1 b) Q E s:=by
 let ⟨t1,v⟩:=id tp;rw[t1]at m;have k:=t1▸I.stack;let ⟨o,L,hx,w,hd,i,g,_⟩:=f;refine u1x m k v hx i g.1 λN t y B n p ⟨D,F,G,J,k7⟩=>h _ t ?_ ?_ (I.zj0 p)
 .refine I.z26 (λb j=>by rw[k1d.mp j];exact r) tp (λb o j O e=>y b o (λz=>j (by simp[z])) (by grind) e) (λb o j e=>B b o e λz=>j (by simp[z])) (λb j=>by rw[k1d.mp j];exact ⟨_,n⟩)
 .have l:=i1p (k1f (k1n hx) p);refine ⟨_,_,n,(g1s _ _).trans w,(o0k _ _).trans hd,j1p i _,⟨by simpa using g.1,λz=>by simpa using g.2 z⟩,by simp[g.1],l,D,F,G,J,k7⟩
def z1w{M:Model}{Q:Unit->Y0->Prop}(I:Inv X pins σ H s)(tp:Top X)(p:A.frames=some X.stack)(f:Fly c s.heap x C od T)(r:zu0 X pins H x)(lt:∀t,T=some t->zu0 X pins H t)
 (h:∀s' t,Inv X pins σ H s'->Fly c s'.heap x C od (some t)->zu0 X pins H t->Q () s'):wpAny M A (noteFrame (.ref x) X.env) Q E s:=by
 let ⟨o,w,hx,y,hd,a,l,u⟩:=id f;unfold noteFrame;simp only[tp.2];cases T with
 |none=>
  refine y0 (V1 hx a u ?_);exact e0t I tp p f r h
 |some t=>
  let ⟨v,j,F,m,n,d,i⟩:=u;have lt:=lt t rfl;refine y0 (V1 hx a v ?_);have B:m[3]?=some m[3]:=by simp[i]
  refine y0 (V1 n d B ?_);by_cases q:(m[3]==G1 X.env.locals)=true
  .rw[H0 q];exact d0 (h s t I f lt)
  .rw[O0 q];refine y0 (B1 n d i ?_);have other:∀b,b≠t->(s.heap.update t (Obj.mapFields (·.setIfInBounds 3 Value.none))).get? b=s.heap.get? b:=λb g=>j1t _ _ (j1k g)
   have k:=j1x (Obj.mapFields (·.setIfInBounds 3 Value.none)) n (j1a (j1p d _));have D:Inv X pins σ H {s with heap:=s.heap.update t (Obj.mapFields (·.setIfInBounds 3 Value.none))}:=
    I.z26 (λb g=>by rw[k1d.mp g];exact lt) tp (λb o g G e=>(other b λz=>g (by simp[z])).trans e) (λb o g e=>⟨o.slots,(other b λz=>g (by simp[z])).trans e⟩) (λb g=>by rw[k1d.mp g];exact ⟨_,k⟩)
   exact e0t (T:=some t) D tp p ⟨o,w,(other x (j1k j)).trans hx,y,hd,a,l,v,j,_,_,k,j1p d _,by simpa using i⟩ r h
def t0y{M:Model}{fr:Option X0}{Q:Unit->Y0->Prop}(I:Inv X pins σ H s)(tp:Top X)(f:Fly c s.heap x C od T)(lt:∀t,T=some t->zu0 X pins H t)
 (h:∀s',Inv X pins σ H s'->Fly c s'.heap x C od T->Q () s'):wpAny M A (setFlight (.ref x) fr) Q E s:=by
 let ⟨o,r,hx,u,hd,a,l,n⟩:=id f;cases T with
 |none=>
  refine y0 (V1 hx a n ?_);exact d0 (h s I f)
 |some t=>
  let ⟨p,j,v,w,m,d,k⟩:=n;have lt:=lt t rfl;refine y0 (V1 hx a p ?_);refine B1 m d k (h _ ?_ ?_)
  .have other:∀b,b≠t->(s.heap.update t (Obj.mapFields (·.setIfInBounds 3 (fr.elim Value.none λf=>G1 f)))).get? b=s.heap.get? b:=λb g=>j1t _ _ (j1k g)
   have i:=j1x (Obj.mapFields (·.setIfInBounds 3 (fr.elim Value.none λf=>G1 f))) m (j1a (j1p d _));exact I.z26 (λb g=>by rw[k1d.mp g];exact lt) tp (λb o g y e=>(other b λz=>g (by simp[z])).trans e) (λb o g e=>⟨o.slots,(other b λz=>g (by simp[z])).trans e⟩) (λb g=>by rw[k1d.mp g];exact ⟨_,i⟩)
  .have i:=j1x (Obj.mapFields (·.setIfInBounds 3 (fr.elim Value.none λf=>G1 f))) m (j1a (j1p d _));exact ⟨o,r,(j1t _ _ j).trans hx,u,hd,a,l,p,j,_,_,i,j1p d _,by simpa using k⟩
end
open W (XC)
abbrev XW:=X0->Option X0->St->Hp->Prop
def o1u(X:Cx)(pins:List (X0×Obj))(W:XW)(e:Z0)(s:Y0):Prop:=
 ∃x C od T σ H,e=.ref x/\Inv X pins σ H s/\Fly X.fl s.heap x C od T/\zu0 X pins H x/\(∀t,T=some t->zu0 X pins H t)/\W C od σ H
def v0d(X:Cx)(W:XW):Prop:=∀pins e s,o1u X pins W e s->X.xe e s
def CXc(c:Bool)(P:V0)(w:T0):CXT:=λouter H s E e s'=>
 ∃x C od T H',e=.ref x/\s'.os=s.os/\AllBare s'.gens/\Un (frs outer) [] H H' s.heap s'.heap/\HOk P w H' s'.heap/\Fly c s'.heap x C od T/\H' x=none/\s.heap.objs.size<=x/\(∀t,T=some t->H' t=none/\s.heap.objs.size<=t)/\E (.ref C) od H'
abbrev CX1(P:V0)(w:T0):CXT:=CXc true P w
def Fly.weak{c:Bool}(f:Fly true h x C od T):Fly c h x C od T:=by
 let ⟨o,d,hx,e,hd,a,b,g⟩:=f;exact ⟨o,d,hx,e,hd,a,⟨b.1,λ_=>b.2 rfl⟩,g⟩
section
variable{X:Cx}{pins:List (X0×Obj)}{σ:St}{H:Hp}{s:Y0}{A:A0}
def e0s{e:Z0}(I:Inv X pins σ H s)(h:CX1 X.prog X.w X.stack H s (λg od a=>∃C,g=.ref C/\W C od σ a) e s'):o1u X pins W e s':=by
 let ⟨x,C,od,T,a,rfl,os,bare,un,hok,f,hx,i,c,m,j,q⟩:=h;cases j;have k:Inv X pins σ a s':=I.zU9 (ch:=[]) os un hok bare λb z=>by cases z
 have d:∀t,a t=none->s.heap.objs.size<=t->zu0 X pins a t:=λt h0 hz=>by
  have l:=I.zj0 hz;exact ⟨h0,l.ne,l.yng,l.cell,l.pin⟩
 exact ⟨x,C,od,T,σ,a,rfl,k,f.weak,d x hx i,λt e=>d t (c t e).1 (c t e).2,q⟩
def z1v(sp:Sp)(W:XW)(t:TA):TE:=λσ H Q=>t σ H λvs H1=>sp vs H1 Q λCv od H'=>∃C,Cv=.ref C/\W C od σ H'
def o1t{Q:VK}{us:List Z0}{vs:List V}(F:zo4 X.prog X.w X.K X.mg X.base (CX1 X.prog X.w) k f fd ps sp)(hr:zu7 k X.A)(c:Binds X.K fd ps [])(d:v0d X W)
 (I:Inv X pins σ H s) (r:zy8 vs us) (h:sp vs H Q λg od i=>∃C,g=.ref C/\W C od σ i):wpAny (model X.prog X.w) X.A (call (.ref f) us) (EP X pins σ Q) X.xe s:=by
 have j:(us++[]).length=ps.length:=by rw[h1s,<- r.length];exact F.len _ _ _ _ h
 have a:=c s us I.kIn j;rw[h1s]at a;refine G4 (W4 (F.run X.A X.stack s H ⟨us,[]⟩ us vs Q _ hr I.z08 a r h) λr l b=>?_);cases r with
 |error e=>exact d pins e l (e0s I b)
 |ok fl=>
  cases fl with
  |ret u=>exact I.after b
  |next=>exact False.elim b
  |brk=>exact False.elim b
  |cont=>exact False.elim b
def u1w{W:XW}{x:Str}{p pos:Pos}{e:Expr}{a:List Expr}{t:TA}(F:zo4 X.prog X.w X.K X.mg X.base (CX1 X.prog X.w) k f fd ps sp)(hr:zu7 k X.A)(i:Gl X x)(hm:X.mg x=some (.ref f))
 (j:PySem.W.keepIn X.K (.ref f)=true) (l:Binds X.K fd ps []) (m:v0d X W)
 (ha:PA X (e::a) t) (c:(x==("__debug__":Str))=false:=by decide) (n:R0 (e::a) X.env=(false,eval e X.env)::R0 a X.env:=by rfl) (d:(Q3 pos (R0 a X.env)).any (·.1)=false:=by rfl):
 PE X (.Call (.Name x p) (e::a) [] pos) (z1v sp W t):=by
 intro b s o H Q I h;refine A1 (v0i I i hm ?_ c);refine e1a I.ok.mod.kin j (thn (ha pos b s o H _ I h) λu v ⟨y,z,g,r,q⟩=>⟨g.kIn,?_⟩) n d;exact o1t F hr l m g r q
def zQ9(C:X0)(sp:Sp)(W:XW)(t:TA):TE:=λσ H Q=>t σ H λvs H1=>∀x dx,H1 x=none->H1 dx=none->dx≠x->
 sp (.ref x::vs) (upd (upd H1 dx (.own x)) x (.ins C dx [])) (λv H2=>v=.non/\Q (.ref x) H2) λCv od H'=>∃C,Cv=.ref C/\W C od σ H'
def u1v{W:XW}{x:Str}{p pos:Pos}{e:Expr}{g:List Expr}{t:TA}(M:Mk X.K C f)(F:zo4 X.prog X.w X.K X.mg X.base (CX1 X.prog X.w) k f fd ps sp)(hr:zu7 (k+1) X.A)(y:Gl X x)
 (hm:X.mg x=some (.ref C)) (z:Binds X.K fd ps []) (B:v0d X W)
 (ha:PA X (e::g) t) (l:(x==("__debug__":Str))=false:=by decide) (D:R0 (e::g) X.env=(false,eval e X.env)::R0 g X.env:=by rfl) (m:(Q3 pos (R0 g X.env)).any (·.1)=false:=by rfl):
 PE X (.Call (.Name x p) (e::g) [] pos) (zQ9 C sp W t):=by
 intro c s G H Q I h;refine A1 (v0i I y hm ?_ l);refine e1a I.ok.mod.kin M.kp (thn (ha pos c s G H _ I h) λd b ⟨J,U,i,r,q⟩=>⟨i.kIn,?_⟩) D m;have n:=q (b.heap.objs.size+1) b.heap.objs.size (i.hok.fresh (h1i _)) (i.hok.fresh (k1q _)) (k1i (h1r _));have I2:=Inv.made (C:=C) i;have o:zy8 (V.ref (b.heap.objs.size+1)::J) (Value.ref (b.heap.objs.size+1)::d):=.cons rfl r;have L:(Value.ref (b.heap.objs.size+1)::d++[]).length=ps.length:=by
  have e:=o.length;rw[F.len _ _ _ _ n]at e
  grind
 have j:=z _ (Value.ref (b.heap.objs.size+1)::d) I2.kIn L;rw[h1s]at j;refine G4 (v1k i.kIn M.makes M.init (beq_iff_eq.mp M.fn) (W4 (F.run _ X.stack _ _ ⟨Value.ref (b.heap.objs.size+1)::d,[]⟩ (Value.ref (b.heap.objs.size+1)::d) _ _ _ (hr.make C d [])
  (I2.z08.make C d []) j o n) λr N a=>?_))
 cases r with
 |error e=>exact B c e N (e0s I2 a)
 |ok fl=>
  cases fl with
  |ret u=>
   let ⟨v,O,P,R,S,q3⟩:=I2.after a;subst S;exact ⟨R,⟨V.ref (b.heap.objs.size+1),O,P,rfl,q3⟩⟩
  |next=>exact False.elim a
  |brk=>exact False.elim a
  |cont=>exact False.elim a
end
section
variable{P:V0}{w:T0}{K:Fg}{mg:Str->Option Z0}{base:J0}
abbrev cxX(P:V0)(w:T0)(K:Fg)(mg:Str->Option Z0)(base:J0)(N:List Str)(qual:Str)(scope:P4)(f:X0)(cd:Z0)(A:A0)(outer:List Env)(s:Y0)(H:Hp)(E:XK):Cx:=
 zX2 (CX1 P w) P w K mg base N qual scope f cd A outer s H E
def w4{N:List Str}{a:Str}{cd:Z0}{A:A0}{outer:List Env}{E:XK}:v0d (cxX P w K mg base N a scope f cd A outer s H E) λC od _ b=>E (.ref C) od b:=by
 intro d e j h;let ⟨x,C,od,T,k,b,rfl,I,ff,c,lt,q⟩:=h;have tp:Top (cxX P w K mg base N a scope f cd A outer s H E):=⟨rfl,rfl⟩;show wpAny _ _ (leaving _ (.ref x)) _ _ _;refine y0 (z1w I tp I.ok.frames ff c lt λl t g f1 l1=>t0y g tp f1 (λi e=>by cases e;exact l1) λm I2 f2=>?_);exact ⟨x,C,od,some t,b,rfl,I2.os,I2.bare,I2.base,I2.hok,f2,c.free,c.yng,λi e=>by cases e;exact ⟨l1.free,l1.yng⟩,q⟩
def Fun.okX{x a:Str}{st:Y1}{N:List Str}{k:Nat}(F:Fun K x a st f fd)(S:zz2 N ps (zz0 st))(len:∀vs H Q E,sp vs H Q E->vs.length=ps.length)
 (b:∀(cdv:Z0) (A:A0) (outer:List Env) (s:Y0) (H:Hp) (vs:List V) (Q:VK) (E:XK),zu7 k (A.deeper (T5 a (zz0 st) s.heap.objs.size f cdv))->sp vs H Q E->
  ∃t,PSs (cxX P w K mg base N a (zz0 st) f cdv A outer s H E) (zw5 st) t/\t {nx:=λ_ e=>Q .non e,rt:=Q} (start N vs) H):zo4 P w K mg base (CX1 P w) (k+1) f fd ps sp:=by
 let ⟨i,j,kV,doc,pm,l,cdv,ct,g,rfl,lk,c⟩:=F.ex;exact zR3 lk c S len λA outer s H vs Q E hr d=>b cdv A outer s H vs Q E hr d
end
section
variable{X:Cx}{pins:List (X0×Obj)}{σ:St}{H:Hp}{s:Y0}
def drop(H:Hp)(x:X0):Hp:=λb=>if b=x then none else H b
def x0q{H:Hp}{b:X0}(h:b≠x):drop H x b=H b:=O0 h
def t0x{H:Hp}:drop H x x=none:=H0 rfl
theorem Inv.drop{k:J0->Prop}(I:Inv X pins σ H s)(e:H x=some (.ext k)):Inv X pins σ (drop H x) s:=by
 have ne:∀b u,H b=some u->(∀ g,u≠.ext g)->b≠x:=λb u q n z=>by rw[z,e]at q;exact n k (i1q q).symm
 have j:∀b,H b=none->L2.drop H x b=none:=λb q=>by
  by_cases z:b=x
  .grind
  .rw[x0q z];exact q
 have i:∀b a,H b=some (.own a)->L2.drop H x b=some (.own a):=λb a q=>by rw[x0q (ne b _ q λg z=>by cases z)];exact q
 have d:∀b f,H b=some (.tup f)->L2.drop H x b=some (.tup f):=λb f q=>by rw[x0q (ne b _ q λg z=>by cases z)];exact q
 refine ⟨I.ok,I.os,I.bare,⟨I.base.keep,I.base.slot,λb o q n hx=>j b (I.base.free b o q n hx),I.base.there,λb f q=>d b f (I.base.zl0 b f q),λb o u q=>?_,λb l q=>?_⟩,I.loc,I.cell,j _ I.free,λy c q=>j c (I.zv3 y c q),λp r=>?_,λb u q=>?_,I.len⟩
 .have z:=I.base.zj8 b o u q;rw[x0q (ne b _ z λg z=>by cases z)];exact z
 .let ⟨m,z⟩:=I.base.zg2 b l q;exact ⟨m,by rw[x0q (ne b _ z λg z=>by cases z)];exact z⟩
 .let ⟨a,b,c⟩:=I.pin p r
  grind
 .have t:b≠x:=λz=>by rw[z,t0x]at q;cases q
  rw[x0q t]at q;exact (I.hok b u q).zo2 (λ_ _ _ z=>z) (λc z=>i c _ z) λc f z=>d c f z
def j0z{M:Model}{A:A0}{E:Z0->Y0->Prop}{env:Env}{k:Sem Z0}{Q:Flow->Y0->Prop}{C:X0}{s:Y0}(B:A.handled=none)
 (h:wpAny M A k (λv b=>∃e od vs l m N bs i a n sub o c p r t u w y f,v=.ref e/\b.heap.get? C=some (excClassObj l m C N bs i a n sub o c p r t u w y f)/\i.contains (.type "BaseException")=true/\
  b.heap.get? e=some ⟨.ref C,od,.fields vs,#[]⟩/\vs[1]?=some .none/\E (.ref e) b) E s):
 wpAny M A (raiseStmt env (some k) none) Q E s:=by
 unfold raiseStmt;refine y0 (K0 h (λv b D=>?_) λ_ _ x=>x);let ⟨e,od,vs,l,m,N,bs,i,a,n,sub,o,c,p,r,t,u,w,y,f,rfl,z,F,G,I,J⟩:=D;have j:(Value.ref C::i).contains (.type "BaseException")=true:=by rw[g1j,F,Bool.or_true]
 let ⟨L,g,d,tk,os⟩:=b
 repeat (first |with_reducible refine J2 G ?_ |with_reducible refine J2 z ?_ |(with_reducible refine B3 z ?_;rw[j])|wp_step)
 rw[I];refine d0 ?_;rw[O0 (by decide)];exact d0 (wpAny_raiseNew_none B J)
def e0r{M:Model}(G:v0d X W)(I:Inv X pins σ H s)(e:H x=some (XO 1 x C od))(J:zf5 X.K C=true)(L:X.zy0.heap.objs.size<=x)(q:W C od σ (L2.drop H x)):
 ∃g i vs j k N bs f a l sub m b n r u v w B D,Value.ref x=.ref g/\s.heap.get? C=some (excClassObj j k C N bs f a l sub m b n r u v w B D)/\f.contains (.type "BaseException")=true/\
  s.heap.get? g=some ⟨.ref C,i,.fields vs,#[]⟩/\vs[1]?=some .none/\X.xe (.ref g) s:=by
 let ⟨o,vs,hx,O,P,Q,d⟩:=XO.get I.hok e;let ⟨R,F,h7⟩:=d.1 rfl;have S:=d.2;let ⟨j,k,N,bs,f,a,l,sub,m,b,n,r,u,v,w,B,U,V⟩:=r1i I.kIn J;have Z:=Inv.drop I e;let ⟨oc,odd,aa,ac⟩:=o;subst O P Q R;refine ⟨x,odd,vs,j,k,N,bs,f,a,l,sub,m,b,n,r,u,v,w,B,_,rfl,U,V.hasType rfl,hx,F,?_⟩;refine G pins _ _ ⟨x,C,odd,none,σ,_,rfl,Z,⟨_,vs,hx,rfl,rfl,rfl,⟨(e1d.mp F).1,λ_=>S (by decide)⟩,F⟩,⟨t0x,λz=>?_,L,λy c q z=>?_,λp hp z=>?_⟩,(λt z=>by cases z),q⟩
 .have:=I.free;rw[<-z,e]at this;cases this
 .have:=I.zv3 y c q;rw[z,e]at this;cases this
 .have:=(I.pin p hp).2.1;rw[z,e]at this;cases this
def z1u(C:X0)(sp:Sp)(W:XW)(t:TA):TS:=λ_ σ H=>t σ H λvs H1=>vs.length<=sizeLine/\∀x,H1 x=none->
 sp (.ref x::vs) (upd H1 x (XO 1 x C none)) (λv H2=>v=.non/\∃od,H2 x=some (XO 1 x C od)/\W C od σ (L2.drop H2 x)) E0
def o1s(C:X0)(W:XW):TS:=λ_ σ H=>∀x,H x=none->W C none σ (L2.drop (upd H x (XO 1 x C none)) x)
def z1t{x:Str}{p a pos:Pos}{e:Expr}{i:List Expr}{t:TA}(z:X.calm=true)(B:v0d X W)(M:XMk X.K C f)(F:zo4 X.prog X.w X.K X.mg X.base CX0 k f fd ps sp)(hr:zu7 (k+1) X.A)
 (G:Gl X x) (hm:X.mg x=some (.ref C)) (J:Binds X.K fd ps [])
 (ha:PA X (e::i) t) (m:(x==("__debug__":Str))=false:=by decide) (L:R0 (e::i) X.env=(false,eval e X.env)::R0 i X.env:=by rfl) (n:(Q3 a (R0 i X.env)).any (·.1)=false:=by rfl):
 PS X (.Raise (some (.Call (.Name x p) (e::i) [] a)) none pos) (z1u C sp W t):=by
 intro c s j H D I h;refine y0 (X2 (j0z (C:=C) (I.ok.hd z) (y0 (thn (Q:=λv g=>∃x b d,v=.ref x/\X.zy0.heap.objs.size<=x/\Inv X c j b g/\b x=some (XO 1 x C d)/\W C d j (L2.drop b x)) ?_ λv g ⟨x,b,d,o,N,I2,e2,u⟩=>y0 (X2 (d0 ?_))))))
 .refine A1 (v0i I G hm ?_ m);refine e1a I.ok.mod.kin M.kp (thn (ha a c s j H _ I h) λP g ⟨R,S,l,r,hz,q⟩=>⟨l.kIn,?_⟩) L n;refine thn (k0b (Q:=λv b=>∃d,b (g.heap.objs.size+1)=some (XO 1 (g.heap.objs.size+1) C d)/\W C d j (L2.drop b (g.heap.objs.size+1))) M F hr J (z14) l r hz (q _ (l.hok.fresh (h1i _)))) λv U zz=>?_;let ⟨o,y,b,I2,V,d,O,u⟩:=zz
  exact ⟨_,b,d,o,j1o l.sz (h1i _),I2,O,u⟩
 .subst o;exact e0r (M:=model X.prog X.w) B I2 e2 M.sh N u
def z1s{x:Str}{p b pos:Pos}(i:X.calm=true)(j:v0d X W)(M:zV8 X.K C)(k:zf5 X.K C=true)(l:Gl X x)(hm:X.mg x=some (.ref C))(d:(x==("__debug__":Str))=false:=by decide):
 PS X (.Raise (some (.Call (.Name x p) [] [] b)) none pos) (o1s C W):=by
 intro c s e H D I h;refine y0 (X2 (j0z (C:=C) (I.ok.hd i) (y0 (thn (Q:=λv g=>∃x a,v=.ref x/\X.zy0.heap.objs.size<=x/\Inv X c e a g/\a x=some (XO 1 x C none)/\W C none e (L2.drop a x)) ?_ λv g ⟨x,a,m,n,I2,e2,f⟩=>y0 (X2 (d0 ?_))))))
 .refine A1 (v0i I l hm ?_ d);refine PySem.W.callWith_K0 I.kIn M.kp (thn (u1z (Q:=λv a=>v=.ref (s.heap.objs.size+1)/\a (s.heap.objs.size+1)=some (XO 1 (s.heap.objs.size+1) C none)/\W C none e (L2.drop a (s.heap.objs.size+1))) M I ⟨rfl,j3,h _ (I.hok.fresh (h1i _))⟩) λv u zz=>?_);let ⟨y,a,I2,o,r,t,f⟩:=zz;subst r;exact ⟨_,a,o,j1o I.sz (h1i _),I2,t,f⟩
 .subst m;exact e0r (M:=model X.prog X.w) j I2 e2 k n f
end
open W (XC)
section
variable{X:Cx}{pins:List (X0×Obj)}{σ:St}{H:Hp}{s:Y0}
def m0z{M:Model}{A:A0}{E:Z0->Y0->Prop}{i:Nat}{n:Str}{pos:Pos}{Q:Unit->Y0->Prop}(I:Inv X pins σ H s)(D:X.N.Nodup)(r:X.N[i]?=some n)(t:X.env.scope.names.lookup n=some .local)
 (h:∀s',Inv X pins (σ.set i none) H s'->Q () s'):wpAny M A (do bindName X.env n .none;unbindBehindTheSuite X.env n pos) Q E s:=by
 have f:(X.env.scope.kind== .class||(X.env.scope.kind== .module&&X.env.locals !=X.env.globals))=false:=by rw[I.ok.kind];rfl
 refine y0 (wpAny_bindName (q0s (v:=.non) I D r (.inl t) rfl (λV a=>?_) (.inr t)));refine P5 ?_;let ⟨m,hn,F⟩:=id a.loc;have g:i<σ.length:=by rw[I.len];exact (k1t.mp r).1
 let ⟨u,W,l⟩:=F i n .non r (h1h g) (.inl t);have hm:m n=some u:=by
  rcases l with ⟨_,z⟩|⟨z,_⟩
  .exact z
  .have Z:X.env.scope.names.lookup n=some .cell\/X.env.scope.names.lookup n=some .free:=z
   simp_all
 refine wpAny_unbindName_local t hn hm f λh' w B hs=>h _ ?_
 have cne:=a.cne;have up:∀b,X.zy0.heap.objs.size<=X.env.locals->∀o,X.zy0.heap.get? b=some o->b≠X.env.locals:=λb hz o e=>k1i (k1f (k1n e) hz)
 refine ⟨a.ok,a.os,a.bare,⟨λb o e n C hx=>?_,λb o e n C hx=>?_,a.base.free,λb o e hx=>?_,a.base.zl0,a.base.zj8,a.base.zg2⟩,⟨_,B,λj y L e1 e2 e3=>?_⟩,λy c e=>?_,a.free,a.zv3,λp O=>?_,λb ob e=>?_,?_⟩
 .exact (hs.2 b (up b a.ok.above o e)).trans (a.base.keep b o e n C hx)
 .let ⟨sl,q⟩:=a.base.slot b o e n C hx;exact ⟨sl,(hs.2 b (up b a.ok.above o e)).trans q⟩
 .let ⟨P,q⟩:=a.base.there b o e hx;exact ⟨P,(hs.2 b (up b a.ok.above o e)).trans q⟩
 .by_cases G:j=i
  .simp_all
  .rw[k1e (j1k G)]at e2;let ⟨R,S,q⟩:=F j y L e1 (by grind) e3;refine ⟨R,S,?_⟩;rcases q with ⟨k,e⟩|⟨k,c,e,z⟩
   .refine .inl ⟨k,?_⟩;have:y≠n:=λe=>G (n0f D e1 (e▸r))
    simp[this,e]
   .exact .inr ⟨k,c,e,z.sameBut hs (cne y c e)⟩
 .let ⟨J,z⟩:=a.cell y c e;exact ⟨J,z.sameBut hs (cne y c e)⟩
 .let ⟨e,n,ne,U,d⟩:=a.pin p O;exact ⟨(hs.2 p.1 ne).trans e,n,ne,U,d⟩
 .refine (a.hok b ob e).zo2 (λc J hc q=>(hs.2 c ?_).trans q) (λ_ q=>q) λ_ _ q=>q
  intro z;have fr:=a.free
  simp_all
 .rw[e1m];exact I.len
abbrev Cx.more(X:Cx)(pins:List (X0×Obj)):Cx:={X with pn:=X.pn++pins}
abbrev Cx.tr(X:Cx)(pins:List (X0×Obj))(W:XW):Cx:={X with pn:=X.pn++pins,xe:=λe s'=>o1u (X.more pins) [] W e s'}
abbrev Cx.hdl(X:Cx)(x:X0):Cx:={X with A:=X.A.mark (some (.ref x)),calm:=false,fl:=false,xe:=λ_ _=>False}
def zP0(ok:X.Ok):(X.more pins).Ok:=⟨ok.mod,ok.kind,ok.glob,ok.blt,ok.above,ok.inj,ok.has,ok.cab,ok.hd,ok.frames,ok.stk,ok.exf,ok.bs,ok.bsz,ok.zb6,ok.zb7,ok.zk7,ok.frf⟩
theorem Inv.tr(I:Inv X pins σ H s):Inv (X.tr pins W) [] σ H s:=
 ⟨⟨I.ok.mod,I.ok.kind,I.ok.glob,I.ok.blt,I.ok.above,I.ok.inj,I.ok.has,I.ok.cab,I.ok.hd,I.ok.frames,I.ok.stk,I.ok.exf,I.ok.bs,I.ok.bsz,I.ok.zb6,I.ok.zb7,I.ok.zk7,I.ok.frf⟩,I.os,I.bare,I.base,I.loc,I.cell,I.free,I.zv3,λp a=>I.pin p (by simp_all),I.hok,I.len⟩
def Inv.zY0{a:List (X0×Obj)}{Y:Cx}(c:Y=X.tr pins W\/Y=X.more pins)(I:Inv Y a σ H s):Inv X pins σ H s:=by
 rcases c with rfl |rfl
 .exact ⟨⟨I.ok.mod,I.ok.kind,I.ok.glob,I.ok.blt,I.ok.above,I.ok.inj,I.ok.has,I.ok.cab,I.ok.hd,I.ok.frames,I.ok.stk,I.ok.exf,I.ok.bs,I.ok.bsz,I.ok.zb6,I.ok.zb7,I.ok.zk7,I.ok.frf⟩,I.os,I.bare,I.base,I.loc,I.cell,I.free,I.zv3,λp b=>I.pin p (i1s _ b),I.hok,I.len⟩
 .exact ⟨⟨I.ok.mod,I.ok.kind,I.ok.glob,I.ok.blt,I.ok.above,I.ok.inj,I.ok.has,I.ok.cab,I.ok.hd,I.ok.frames,I.ok.stk,I.ok.exf,I.ok.bs,I.ok.bsz,I.ok.zb6,I.ok.zb7,I.ok.zk7,I.ok.frf⟩,I.os,I.bare,I.base,I.loc,I.cell,I.free,I.zv3,λp b=>I.pin p (i1s _ b),I.hok,I.len⟩
theorem Inv.hdl(I:Inv X pins σ H s):Inv (X.hdl x) pins σ H s:=
 ⟨⟨I.ok.mod,I.ok.kind,I.ok.glob,I.ok.blt,I.ok.above,I.ok.inj,I.ok.has,I.ok.cab,(λz=>by cases z),I.ok.frames,I.ok.stk,I.ok.exf,I.ok.bs,I.ok.bsz,I.ok.zb6,I.ok.zb7,I.ok.zk7,I.ok.frf⟩,I.os,I.bare,I.base,I.loc,I.cell,I.free,I.zv3,I.pin,I.hok,I.len⟩
def Inv.zi6(ok:X.Ok)(I:Inv (X.hdl x) pins σ H s):Inv X pins σ H s:=⟨ok,I.os,I.bare,I.base,I.loc,I.cell,I.free,I.zv3,I.pin,I.hok,I.len⟩
def u1u:v0d (X.tr pins W) W:=by
 intro a e m h;let ⟨x,C,g,T,i,b,rfl,I,f,j,lt,q⟩:=h;have c:∀t,zu0 (X.tr pins W) a b t->zu0 (X.more pins) [] b t:=λt l=>⟨l.free,l.ne,l.yng,l.cell,λp k=>l.pin p (i1s _ (by simp_all))⟩
 have d:=I.zY0 (.inl rfl);exact ⟨x,C,g,T,i,b,rfl,⟨zP0 d.ok,I.os,I.bare,I.base,I.loc,I.cell,I.free,I.zv3,λp k=>d.pin p (by grind),I.hok,I.len⟩,f,c x j,λt e=>c t (lt t e),q⟩
theorem SP.zY0{D:Ends}{f:Flow}(h:SP (X.tr pins W) [] D f s'):SP X pins D f s':=by
 cases f with
 |next=>let ⟨a,b,I,q⟩:=h;exact ⟨a,b,I.zY0 (.inl rfl),q⟩
 |brk=>let ⟨a,b,I,q⟩:=h;exact ⟨a,b,I.zY0 (.inl rfl),q⟩
 |cont=>let ⟨a,b,I,q⟩:=h;exact ⟨a,b,I.zY0 (.inl rfl),q⟩
 |ret u=>let ⟨v,a,b,I,r,q⟩:=h;exact ⟨v,a,b,I.zY0 (.inl rfl),r,q⟩
theorem SP.zi6{D:Ends}{f:Flow}(ok:X.Ok)(h:SP (X.hdl x) pins D f s'):SP X pins D f s':=by
 cases f with
 |next=>let ⟨a,b,I,q⟩:=h;exact ⟨a,b,I.zi6 ok,q⟩
 |brk=>let ⟨a,b,I,q⟩:=h;exact ⟨a,b,I.zi6 ok,q⟩
 |cont=>let ⟨a,b,I,q⟩:=h;exact ⟨a,b,I.zi6 ok,q⟩
 |ret u=>let ⟨v,a,b,I,r,q⟩:=h;exact ⟨v,a,b,I.zi6 ok,r,q⟩
abbrev XTS:=X0->Option X0->TS
def PH(X:Cx)(hs:List Q2)(t:XTS):Prop:=∀(pins:List (X0×Obj)) (x C:X0) (od T:Option X0) (s:Y0) (σ:St) (H:Hp) (D:Ends),Inv X pins σ H s->Fly X.fl s.heap x C od T->zu0 X pins H x->(∀t,T=some t->zu0 X pins H t)->t C od D σ H->
 wpAny (model X.prog X.w) X.A (handleBy (.ref x) X.env hs) (SP X pins D) X.xe s
def zP1:PH X [] λ_ _ _ _ _=>False:=λ_ _ _ _ _ _ _ _ _ _ _ _ _ h=>h.elim
structure XHd(K:Fg)(D:X0):Prop where
 ty:PySem.W.typeIn K (.ref D)=some (.type "type")
 cl:(PySem.W.clsIn K D).isSome=true
 sub:PySem.W.mroIn K D (.type "BaseException")=some true
def j0y{A:A0}{E:Z0->Y0->Prop}{D:X0}{b:Bool}{Q:Bool->Y0->Prop}(I:Inv X pins σ H s)(f:Fly X.fl s.heap x C od T)(d:XHd X.K D)(a:PySem.W.mroIn X.K C (.ref D)=some b)(q:Q b s):
 wpAny (model X.prog X.w) A (excMatches (.ref x) (.ref D)) Q E s:=by
 let ⟨o,l,hx,c,_⟩:=f;have e:=PySem.W.looks_typeIn (M:=model X.prog X.w) I.kIn d.ty;have L2:=c1c (M:=model X.prog X.w) I.kIn d.sub;have g:=c1c (M:=model X.prog X.w) I.kIn a;have i:PySem.W.Looks (model X.prog X.w) s.heap (typeOf (.ref x)) (.ref C):=c▸(PySem.W.Looks.ld hx).andThen .now;have j:PySem.W.Looks (model X.prog X.w) s.heap (isType (.ref D)) true:=by
  have z:=d.cl;unfold PySem.W.clsIn at z;split at z
  .rename_i ho;intro m n p r k q;exact y0 (G5 (k _ _ (I.kIn _ _ ho)) (d0 q))
  .cases z
 have LT:PySem.W.Looks (model X.prog X.w) s.heap (isInstance (.ref D) (.type "tuple")) false:=e.andThen (PySem.W.Looks.of_pure tc_notTuple);have LE:PySem.W.Looks (model X.prog X.w) s.heap (isExcClass (.ref D)) true:=j.andThen L2;refine y0 (LT.here ?_);refine y0 (d0 ?_);refine y0 (y0 (y0 (LE.here ?_)));refine d0 (d0 (y0 (i.here (y0 (y0 (y0 (g.here ?_)))))));cases b with
 |true=>
  exact d0 (d0 (d0 q))
 |false=>
  exact d0 (d0 (d0 q))
def o1r{D:X0}{np pos:Pos}{c:Y1}{a:List Y1}{rest:List Q2}{ts:TS}{tr:XTS}(tp:Top X)(d:XHd X.K D)(i:Gl X y)(hm:X.mg y=some (.ref D))(hs:∀x,PSs (X.hdl x) (c::a) ts)(hr:PH X rest tr)
 (g:(y==("__debug__":Str))=false:=by decide):
 PH X (.ExceptHandler (some (.Name y np)) none (c::a) pos::rest) (λC od E σ H=>∃b,PySem.W.mroIn X.K C (.ref D)=some b/\if b=true then ts E σ H else tr C od E σ H):=by
 intro e x C od T s σ H E I f j lt ⟨b,k,q⟩;refine wpAny_handleBy_cons (codeAny_handlers_test (v0i (X:=X.hdl x) I.hdl i hm ?_ g)) (by intro z;cases z);refine j0y I f d k ?_;cases b with
 |true=>
  rw[H0 rfl]at q;refine codeAny_handlers_suite (t0y I tp f lt λl m f1=>?_);exact K0 (hs x e l σ H E m.hdl q) (λfl n z=>z.zi6 I.ok) λ_ _ z=>z.elim
 |false=>
  rw[O0 k1j]at q;exact hr e x C od T s σ H E I f j lt q
def Inv.z27(I:Inv X pins σ H s)(l:zu0 X pins H x)(f:Fly X.fl s.heap x C od T):Inv X pins σ (upd H x (XO (bif X.fl then 2 else 0) x C od)) s:=by
 let ⟨o,i,hx,j,k,r,t,_⟩:=f;have nx:∀b u,H b=some u->b≠x:=λb u q z=>by rw[z,l.free]at q;cases q
 refine ⟨I.ok,I.os,I.bare,⟨I.base.keep,I.base.slot,λb ob q n hx=>?_,I.base.there,λb e q=>?_,λb ob u q=>?_,λb v q=>?_⟩,I.loc,I.cell,?_,λy c q=>?_,λp g=>?_,λb u q=>?_,I.len⟩
 .rw[j0 (k1i (k1f (k1n q) l.yng))];exact I.base.free b ob q n hx
 .have z:=I.base.zl0 b e q;rw[j0 (nx b _ z)];exact z
 .have z:=I.base.zj8 b ob u q;rw[j0 (nx b _ z)];exact z
 .let ⟨m,z⟩:=I.base.zg2 b v q;exact ⟨m,by rw[j0 (nx b _ z)];exact z⟩
 .rw[j0 l.ne.symm];exact I.free
 .rw[j0 (l.cell y c q)];exact I.zv3 y c q
 .let ⟨a,b,c⟩:=I.pin p g;exact ⟨a,by rw[j0 (l.pin p g)];exact b,c⟩
 .by_cases z:b=x
  .subst z;rw[j3]at q;cases q;exact XO.ok ⟨o,i,hx,j,k,r,(λz=>by cases d:X.fl<;>rw[d]at z<;>cases z),λz=>t.2 (by cases d:X.fl with |true=>rfl |false=>rw[d]at z;exact absurd rfl z)⟩
  .rw[j0 z]at q;exact (I.hok b u q).zo2 (λ_ _ _ w=>w) (λc w=>by rw[j0 (nx c _ w)];exact w) λc e w=>by rw[j0 (nx c _ w)];exact w
def z28{D:X0}{n:Str}{i:Nat}{np pos:Pos}{j:Y1}{e:List Y1}{rest:List Q2}{ts:X0->TS}{tr:XTS}(tp:Top X)(d:XHd X.K D)(F:Gl X y)(hm:X.mg y=some (.ref D))(p:X.N.Nodup)(r:X.N[i]?=some n)(o:X.env.scope.names.lookup n=some .local)
 (hs:∀x,PSs (X.hdl x) (j::e) (ts x)) (hr:PH X rest tr) (t:(y==("__debug__":Str))=false:=by decide):
 PH X (.ExceptHandler (some (.Name y np)) (some n) (j::e) pos::rest) (λC od E σ H=>∃b,PySem.W.mroIn X.K C (.ref D)=some b/\if b=true then
  (∀x,H x=none->ts x {nx:=λa c=>E.nx (a.set i none) c,rt:=E.rt,bk:=λa c=>E.bk (a.set i none) c,ct:=λa c=>E.ct (a.set i none) c} (σ.set i (some (.ref x))) (upd H x (XO (bif X.fl then 2 else 0) x C od)))else tr C od E σ H):=by
 intro g x C od T s σ H E I f w lt ⟨b,G,q⟩;refine wpAny_handleBy_cons (codeAny_handlers_test (v0i (X:=X.hdl x) I.hdl F hm ?_ t)) (by intro z;cases z);refine j0y I f d G ?_;cases b with
 |true=>
  rw[H0 rfl]at q;refine codeAny_handlers_suite_as (t0y I tp f lt λJ L f1=>?_);have I2:Inv X g σ (upd H x (XO (bif X.fl then 2 else 0) x C od)) J:=L.z27 w f1;refine q0s (v:=.ref x) I2 p r (.inl o) rfl (λM O=>?_) (.inr o);refine K0 (hs x g M _ _ _ O.hdl (q x w.free)) (λfl Q z=>?_) λ_ _ z=>z.elim
  have z:=z.zi6 I.ok;cases fl with
  |next=>let ⟨a,c,k,l⟩:=z;exact m0z k p r o λB m=>⟨_,c,m,l⟩
  |brk=>let ⟨a,c,k,l⟩:=z;exact m0z k p r o λB m=>⟨_,c,m,l⟩
  |cont=>let ⟨a,c,k,l⟩:=z;exact m0z k p r o λB m=>⟨_,c,m,l⟩
  |ret u=>let ⟨v,a,c,k,P,l⟩:=z;exact m0z k p r o λB m=>⟨v,_,c,m,P,l⟩
 |false=>
  rw[O0 k1j]at q;exact hr g x C od T s σ H E I f w lt q
def tTry(tb:XW->TS)(th:XTS):TS:=λD σ H=>∃W:XW,tb W D σ H/\∀C od σ' H',W C od σ' H'->th C od D σ' H'
def zP2{body:List Y1}{a:Q2}{hs:List Q2}{pos:Pos}{tb:XW->TS}{g:XTS}(tp:Top X)(m:∀pins W,PSs (X.tr pins W) body (tb W))(n:PH X (a::hs) g):PS X (.Try body (a::hs) [] [] pos) (tTry tb g):=by
 intro pins s o H D I ⟨W,q,r⟩;refine wpAny_Try_except (K0 (m pins W [] s o H D I.tr q) (λf v z=>?_) λe v z=>?_)
 .have z:=z.zY0;cases f with
  |next=>exact K5 z
  |brk=>exact z
  |cont=>exact z
  |ret u=>exact z
 .let ⟨x,C,i,T,b,c,rfl,w,f,j,lt,y⟩:=z;have k:=w.zY0 (W:=W) (.inr rfl);have d:∀t,zu0 (X.more pins) [] c t->zu0 X pins c t:=λt l=>⟨l.free,l.ne,l.yng,l.cell,λp B=>l.pin p (i1s _ B)⟩
  refine z1w k tp k.ok.frames f (d x j) (λt e=>d t (lt t e)) λM t I2 f2 l2=>?_
  refine t0y I2 tp f2 (λF e=>by cases e;exact l2) λG J L=>?_
  exact n pins x C i (some t) G b c D J L (d x j) (λF e=>by cases e;exact l2) (r C i b c y)
end
open W (XC)
structure zy4(K:Fg)(mg:Str->Option Z0)(x:Str)(st:Y1)(ps:List Str)(f:X0)(fd:l3):Prop where
 F:Fun K x x st f fd
 m:mg x=some (.ref f)
 b:Binds K fd ps []
structure FnAt(P:V0)(w:T0)(K:Fg)(mg:Str->Option Z0)(base:J0)(CX:CXT)(x:Str)(k:Nat)(ps:List Str)(sp:Sp):Prop where
 ex:∃f fd,zo4 P w K mg base CX k f fd ps sp/\mg x=some (.ref f)/\PySem.W.keepIn K (.ref f)=true/\Binds K fd ps []
def zy4.at{K:Fg}{mg:Str->Option Z0}{base:J0}{CX:CXT}{x:Str}{st:Y1}(D:zy4 K mg x st ps f fd)(F:zo4 P w K mg base CX k f fd ps sp):FnAt P w K mg base CX x k ps sp:=
 ⟨f,fd,F,D.m,D.F.kp,D.b⟩
section
variable{X:Cx}{x:Str}{p pos:Pos}{e:Expr}{es:List Expr}{t:TA}{k:Nat}{ps:List Str}{sp:Sp}
def z29(G:FnAt X.prog X.w X.K X.mg X.base (CX1 X.prog X.w) x k ps sp)(hr:zu7 k X.A)(d:v0d X W)(ha:PA X (e::es) t)(g:Gl X x:=by rfl)(a:(x==("__debug__":Str))=false:=by decide)
 (i:R0 (e::es) X.env=(false,eval e X.env)::R0 es X.env:=by rfl) (c:(Q3 pos (R0 es X.env)).any (·.1)=false:=by rfl):PE X (.Call (.Name x p) (e::es) [] pos) (z1v sp W t):=by
 let ⟨f,j,F,m,kp,b⟩:=G.ex;exact u1w F hr g m kp b d ha a i c
def pty(n:String)(hm:X.mg y=none)(a:W1 y=some (.type n))(b:Gl X y:=by rfl)(hn:y≠"__name__":=by decide)(hd:(y==("__debug__":Str))=false:=by decide):PE X (.Name y pos) (tC (.ty n)):=p1t b hm a rfl hn hd
def pb{id:String}{r:List V->Hp->VK->Prop}(c:x0t X (.builtin id) r)(hm:X.mg x=none)(d:W1 x=some (.builtin id))(ha:PA X (e::es) t)(f:Gl X x:=by rfl)(hn:x≠"__name__":=by decide)(a:(x==("__debug__":Str))=false:=by decide)
 (g:R0 (e::es) X.env=(false,eval e X.env)::R0 es X.env:=by rfl) (b:(Q3 pos (R0 es X.env)).any (·.1)=false:=by rfl):PE X (.Call (.Name x p) (e::es) [] pos) (tCB r t):=q0r c f hm d ha hn a g b
end
def z1r:W1 "len"=some (.builtin "len"):=by kernel_rfl
def zP3:W1 "abs"=some (.builtin "abs"):=by kernel_rfl
def zP4:W1 "all"=some (.builtin "all"):=by kernel_rfl
def z1q:W1 "min"=some (.builtin "min"):=by kernel_rfl
def m0y:W1 "isinstance"=some (.builtin "isinstance"):=by kernel_rfl
def r1g:W1 "int"=some (.type "int"):=by kernel_rfl
def o1q:W1 "bool"=some (.type "bool"):=by kernel_rfl
def h0i:W1 "list"=some (.type "list"):=by kernel_rfl
def m0x:W1 "tuple"=some (.type "tuple"):=by kernel_rfl
def o1p{f:Type}{xs:List f}{k:Int}(h:0<xs.length):∃v,atI xs (k%(xs.length:Nat))=some v/\v∈xs:=by
 have g:=g1g k (b:=(xs.length:Int)) (by lia);have i:=h1a k (b:=(xs.length:Int)) (by lia);have d:(k%(xs.length:Nat)).toNat<xs.length:=by lia
 refine ⟨xs[(k%(xs.length:Nat)).toNat],?_,i1t d⟩;have e:k%(xs.length:Nat)=(((k%(xs.length:Nat)).toNat:Nat):Int):=by lia
 have q:∀z:Int,z=k%(xs.length:Nat)->z=((z.toNat:Nat):Int)->∀hz:z.toNat<xs.length,atI xs z=some xs[z.toNat]:=by
  intro z _ a c;generalize z.toNat=j at a c;subst a;exact v0f (k1u c)
 exact q _ rfl e d
end L2
set_option maxHeartbeats 8000000
namespace L2
open Spec PyProof.Rows
def BT:List String:=["NoneType","bool","int","str","list","tuple","dict"]
def zP5(K:Fg){n:String}(h:n∈BT):PySem.W.kitOne K (.type n) (.type "bool")=some (n=="bool")/\PySem.W.kitOne K (.type n) (.type "int")=some (n=="int"||n=="bool")/\
 PySem.W.kitOne K (.type n) (.type "list")=some (n=="list")/\PySem.W.kitOne K (.type n) (.type "tuple")=some (n=="tuple")/\PySem.W.kitAny K (.type n) [.type "list",.type "tuple"]=some (n=="list"||n=="tuple"):=by
 simp only[BT,j1n,List.not_mem_nil,or_false]at h;rcases h with rfl |rfl |rfl |rfl |rfl |rfl |rfl
 .exact ⟨by kernel_rfl,by kernel_rfl,by kernel_rfl,by kernel_rfl,by kernel_rfl⟩
 .exact ⟨by kernel_rfl,by kernel_rfl,by kernel_rfl,by kernel_rfl,by kernel_rfl⟩
 .exact ⟨by kernel_rfl,by kernel_rfl,by kernel_rfl,by kernel_rfl,by kernel_rfl⟩
 .exact ⟨by kernel_rfl,by kernel_rfl,by kernel_rfl,by kernel_rfl,by kernel_rfl⟩
 .exact ⟨by kernel_rfl,by kernel_rfl,by kernel_rfl,by kernel_rfl,by kernel_rfl⟩
 .exact ⟨by kernel_rfl,by kernel_rfl,by kernel_rfl,by kernel_rfl,by kernel_rfl⟩
 .exact ⟨by kernel_rfl,by kernel_rfl,by kernel_rfl,by kernel_rfl,by kernel_rfl⟩
end L2
set_option maxHeartbeats 8000000
namespace L2
open Spec PyProof.Rows
open W (XC zx8)
structure zP6(K:Fg)(W C:X0):Prop where
 mro:(PySem.W.clsIn K C).map (·.mro)=some (.ref C:: .ref W::zx8)
 ty:PySem.W.typeIn K (.ref C)=some (.type "type")
 xc:XC K C
theorem zP6.mroIn{K:Fg}{W C:X0}(c:zP6 K W C)(b:Z0):PySem.W.mroIn K C b=some ((Value.ref C:: .ref W::zx8).contains b):=by
 let ⟨cd,a,d⟩:=k1c.mp c.mro;unfold PySem.W.mroIn;rw[a,f1u,d];rfl
def zz7.new{H:Hp}{p:X0}{o:HO}(h:H p=none):zz7 H (upd H p o):=λb u e=>by rw[j0 (i0 e h)];exact e
def zf6(C:X0)(a:Str):Sp:=λvs H Q _=>∃(x:X0) (v:V),vs=[.ref x,v]/\H x=some (XO 1 x C none)/\∀d,H d=none->d≠x->Q .non (upd (upd H d (XD d [(a,v)])) x (XO 1 x C (some d)))
open W (XC zx8)
structure MkE(P:V0)(w:T0)(K:Fg)(mg:Str->Option Z0)(base:J0)(x:Str)(C:X0)(k:Nat)(ps:List Str)(sp:Sp):Prop where
 ex:∃f fd,XMk K C f/\zo4 P w K mg base CX0 k f fd ps sp/\Binds K fd ps []
 m:mg x=some (.ref C)
def z1p{X:Cx}{W:XW}{x:Str}{C:X0}{k:Nat}{ps:List Str}{sp:Sp}{p a pos:Pos}{e:Expr}{b:List Expr}{t:TA}(g:X.calm=true)(i:v0d X W)(M:MkE X.prog X.w X.K X.mg X.base x C k ps sp)(hr:zu7 (k+1) X.A)(ha:PA X (e::b) t)(j:Gl X x:=by rfl)
 (c:(x==("__debug__":Str))=false:=by decide) (l:R0 (e::b) X.env=(false,eval e X.env)::R0 b X.env:=by rfl) (d:(Q3 a (R0 b X.env)).any (·.1)=false:=by rfl):
 PS X (.Raise (some (.Call (.Name x p) (e::b) [] a)) none pos) (z1u C sp W t):=by
 let ⟨f,u,n,o,r⟩:=M.ex;exact z1t g i n o hr j M.m r ha c l d
def sz1{a:V}:[a].length<=PySem.sizeLine:=by show 1<=PySem.sizeLine;decide
end L2
namespace DL
open Spec L2
open W (XC)
inductive D where
 |non |bl (b:Bool)|int (i:Int)|str (x:Str)
 |lst (xs:List D)|tup (xs:List D)|scr (xs:List D)|dic (kvs:List (Key×D))|dwk (kvs:List (Key×D))|dwt (kvs:List (List Int×D))
 |ins (C:X0) (fs:List (Str×D))|exc (C:X0) (fs:List (Str×D))
 |ref (a:X0)|ty (n:String)
abbrev Frag:=Fg
mutual
def Rep(K:Frag)(F:Hp):D->V->Prop
 | .non,v=>v=.non
 | .bl b,v=>v=.bl b
 | .int i,v=>v=.int i
 | .str x,v=>v=.str x
 | .lst ds,v=>∃a vs,v=.ref a/\F a=some (.lst vs)/\zz5 K F ds vs
 | .tup ds,v=>∃a vs,v=.ref a/\F a=some (.tup vs)/\zz5 K F ds vs
 | .scr ds,v=>∃a vs,v=.ref a/\SqL K F a vs/\zz5 K F ds vs
 | .dic kvs,v=>∃a us,v=.ref a/\F a=some (.dK us)/\zj1 K F kvs us
 | .dwk kvs,v=>∃a o us,v=.ref a/\F a=some (.frz o (.dK us))/\zj1 K F kvs us
 | .dwt kvs,v=>∃a o,∃us:List (List Key×V)×(X0->Prop),v=.ref a/\F a=some (.frz o (.dT us.1 us.2))/\(∀b,us.2 b->∃xs,F b=some (.tup xs))/\zx5 K F kvs us.1
 | .ins C fs,v=>∃a dx us,v=.ref a/\F a=some (.ins C dx us)/\F dx=some (.own a)/\zv7 K F fs us
 | .exc C fs,v=>∃a fr,v=.ref a/\((fs=[]/\F a=some (XO fr a C none))\/∃d us,F a=some (XO fr a C (some d))/\F d=some (XD d us)/\zv7 K F fs us)
 | .ref a,v=>v=.ref a
 | .ty n,v=>v=.ty n
def zz5(K:Frag)(F:Hp):List D->List V->Prop
 | [],vs=>vs=[]
 |d::ds,vs=>∃v r,vs=v::r/\Rep K F d v/\zz5 K F ds r
def zv7(K:Frag)(F:Hp):List (Str×D)->List (Str×V)->Prop
 | [],vs=>vs=[]
 |(x,d)::ds,vs=>∃v r,vs=(x,v)::r/\Rep K F d v/\zv7 K F ds r
def zj1(K:Frag)(F:Hp):List (Key×D)->List (Key×V)->Prop
 | [],vs=>vs=[]
 |(x,d)::ds,vs=>∃v r,vs=(x,v)::r/\Rep K F d v/\zj1 K F ds r
def zx5(K:Frag)(F:Hp):List (List Int×D)->List (List Key×V)->Prop
 | [],vs=>vs=[]
 |(x,d)::ds,vs=>∃v r,vs=(x.map Sum.inl,v)::r/\Rep K F d v/\zx5 K F ds r
end
def _root_.L2.zz7.rd{F b:Hp}{a:X0}{u:HO}(s:zz7 F b)(h:Rd F a u):Rd b a u:=by
 rcases h with h |⟨o,h⟩
 .exact .inl (s _ _ h)
 .exact .inr ⟨o,s _ _ h⟩
def _root_.L2.zz7.sqL{K:Frag}{F b:Hp}{a:X0}{xs:List V}(s:zz7 F b)(h:SqL K F a xs):SqL K b a xs:=h.imp s.rd id
def _root_.L2.zz7.sqT{K:Frag}{F b:Hp}{a:X0}{xs:List V}(s:zz7 F b)(h:SqT K F a xs):SqT K b a xs:=h.imp s.rd id
mutual
theorem Rep.mono{K:Frag}{F F':Hp}(s:zz7 F F'):∀{d:D} {v:V},Rep K F d v->Rep K F' d v
 | .non,v,h=>by unfold Rep at h ⊢; exact h
 | .bl b,v,h=>by unfold Rep at h ⊢; exact h
 | .int i,v,h=>by unfold Rep at h ⊢; exact h
 | .str x,v,h=>by unfold Rep at h ⊢; exact h
 | .lst ds,v,h=>by unfold Rep at h ⊢; let ⟨a,vs,e,q,r⟩:=h;exact ⟨a,vs,e,s _ _ q,zz5.mono s r⟩
 | .tup ds,v,h=>by unfold Rep at h ⊢; let ⟨a,vs,e,q,r⟩:=h;exact ⟨a,vs,e,s _ _ q,zz5.mono s r⟩
 | .scr ds,v,h=>by unfold Rep at h ⊢; let ⟨a,vs,e,q,r⟩:=h;exact ⟨a,vs,e,s.sqL q,zz5.mono s r⟩
 | .dic ds,v,h=>by unfold Rep at h ⊢; let ⟨a,vs,e,q,r⟩:=h;exact ⟨a,vs,e,s _ _ q,zj1.mono s r⟩
 | .dwk ds,v,h=>by unfold Rep at h ⊢; let ⟨a,o,vs,e,q,r⟩:=h;exact ⟨a,o,vs,e,s _ _ q,zj1.mono s r⟩
 | .dwt ds,v,h=>by unfold Rep at h ⊢; let ⟨a,o,vs,e,q,g,r⟩:=h;exact ⟨a,o,vs,e,s _ _ q,(fun b z=>let ⟨xs,y⟩:=g b z;⟨xs,s _ _ y⟩),zx5.mono s r⟩
 | .ins C fs,v,h=>by unfold Rep at h ⊢; let ⟨a,dx,vs,e,q,q2,r⟩:=h;exact ⟨a,dx,vs,e,s _ _ q,s _ _ q2,zv7.mono s r⟩
 | .exc C fs,v,h=>by
  unfold Rep at h ⊢;let ⟨a,fr,e,h⟩:=h;refine ⟨a,fr,e,?_⟩;rcases h with ⟨e1,q⟩|⟨d,us,q,q2,r⟩
  .exact .inl ⟨e1,s _ _ q⟩
  .exact .inr ⟨d,us,s _ _ q,s _ _ q2,zv7.mono s r⟩
 | .ref a,v,h=>by unfold Rep at h ⊢; exact h
 | .ty n,v,h=>by unfold Rep at h ⊢; exact h
theorem zz5.mono{K:Frag}{F F':Hp}(s:zz7 F F'):∀{ds:List D} {vs:List V},zz5 K F ds vs->zz5 K F' ds vs
 | [],vs,h=>by unfold zz5 at h ⊢; exact h
 |d::ds,vs,h=>by unfold zz5 at h ⊢; let ⟨v,r,e,q,z⟩:=h;exact ⟨v,r,e,Rep.mono s q,zz5.mono s z⟩
theorem zv7.mono{K:Frag}{F F':Hp}(s:zz7 F F'):∀{ds:List (Str×D)} {vs:List (Str×V)},zv7 K F ds vs->zv7 K F' ds vs
 | [],vs,h=>by unfold zv7 at h ⊢; exact h
 |(x,d)::ds,vs,h=>by unfold zv7 at h ⊢; let ⟨v,r,e,q,z⟩:=h;exact ⟨v,r,e,Rep.mono s q,zv7.mono s z⟩
theorem zj1.mono{K:Frag}{F F':Hp}(s:zz7 F F'):∀{ds:List (Key×D)} {vs:List (Key×V)},zj1 K F ds vs->zj1 K F' ds vs
 | [],vs,h=>by unfold zj1 at h ⊢; exact h
 |(x,d)::ds,vs,h=>by unfold zj1 at h ⊢; let ⟨v,r,e,q,z⟩:=h;exact ⟨v,r,e,Rep.mono s q,zj1.mono s z⟩
theorem zx5.mono{K:Frag}{F F':Hp}(s:zz7 F F'):∀{ds:List (List Int×D)} {vs:List (List Key×V)},zx5 K F ds vs->zx5 K F' ds vs
 | [],vs,h=>by unfold zx5 at h ⊢; exact h
 |(x,d)::ds,vs,h=>by unfold zx5 at h ⊢; let ⟨v,r,e,q,z⟩:=h;exact ⟨v,r,e,Rep.mono s q,zx5.mono s z⟩
end
def zc5(K:Frag)(F:Hp)(ds:List (List Int×D))(us:List (List Key×V)×(X0->Prop)):Prop:=(∀b,us.2 b->∃xs,F b=some (.tup xs))/\zx5 K F ds us.1
theorem zc5.mono{K:Frag}{F a:Hp}(s:zz7 F a){ds:List (List Int×D)}{us:List (List Key×V)×(X0->Prop)}(h:zc5 K F ds us):zc5 K a ds us:=⟨λb z=>let ⟨c,y⟩:=h.1 b z;⟨c,s _ _ y⟩,h.2.mono s⟩
section
variable{K:Frag}{F:Hp}
def zx1{v:V}:Rep K F .non v↔v=.non:=by unfold Rep;exact b1o
def zy2{b:Bool}{v:V}:Rep K F (.bl b) v↔v=.bl b:=by unfold Rep;exact b1o
def zz4{i:Int}{v:V}:Rep K F (.int i) v↔v=.int i:=by unfold Rep;exact b1o
def zx3{x:Str}{v:V}:Rep K F (.str x) v↔v=.str x:=by unfold Rep;exact b1o
def zu9{a:X0}{v:V}:Rep K F (.ref a) v↔v=.ref a:=by unfold Rep;exact b1o
def zm6{n:String}{v:V}:Rep K F (.ty n) v↔v=.ty n:=by unfold Rep;exact b1o
def zy6{ds:List D}{v:V}:Rep K F (.lst ds) v↔∃a vs,v=.ref a/\F a=some (.lst vs)/\zz5 K F ds vs:=by rw[Rep]
def zz9{ds:List D}{v:V}:Rep K F (.tup ds) v↔∃a vs,v=.ref a/\F a=some (.tup vs)/\zz5 K F ds vs:=by rw[Rep]
def zr3{ds:List D}{v:V}:Rep K F (.scr ds) v↔∃a vs,v=.ref a/\SqL K F a vs/\zz5 K F ds vs:=by rw[Rep]
def zX6{ds:List (Key×D)}{v:V}:Rep K F (.dwk ds) v↔∃a o us,v=.ref a/\F a=some (.frz o (.dK us))/\zj1 K F ds us:=by rw[Rep]
def zw3{ds:List (List Int×D)}{v:V}:Rep K F (.dwt ds) v↔∃a o us,v=.ref a/\F a=some (.frz o (.dT us.1 us.2))/\zc5 K F ds us:=by rw[Rep];exact b1o
def zl2{ds:List (Key×D)}{v:V}:Rep K F (.dic ds) v↔∃a us,v=.ref a/\F a=some (.dK us)/\zj1 K F ds us:=by rw[Rep]
def zl3{C:X0}{fs:List (Str×D)}{v:V}:Rep K F (.ins C fs) v↔∃a b us,v=.ref a/\F a=some (.ins C b us)/\F b=some (.own a)/\zv7 K F fs us:=by rw[Rep]
def zl4{C:X0}{fs:List (Str×D)}{v:V}:Rep K F (.exc C fs) v↔∃a fr,v=.ref a/\((fs=[]/\F a=some (XO fr a C none))\/∃d us,F a=some (XO fr a C (some d))/\F d=some (XD d us)/\zv7 K F fs us):=by rw[Rep]
def zz8{vs:List V}:zz5 K F [] vs↔vs=[]:=by rw[zz5]
def zz1{d:D}{ds:List D}{vs:List V}:zz5 K F (d::ds) vs↔∃v r,vs=v::r/\Rep K F d v/\zz5 K F ds r:=by rw[zz5]
def zz5.cons{d:D}{ds:List D}{v:V}{vs:List V}(h:Rep K F d v)(t:zz5 K F ds vs):zz5 K F (d::ds) (v::vs):=zz1.mpr ⟨v,vs,rfl,h,t⟩
def zz5.nil:zz5 K F [] []:=zz8.mpr rfl
theorem zz5.length:∀{ds:List D} {vs:List V},zz5 K F ds vs->vs.length=ds.length
 | [],vs,h=>by rw[zz8.mp h];rfl
 |d::ds,vs,h=>by let ⟨v,r,rfl,_,z⟩:=zz1.mp h;rw[k1k,k1k,zz5.length z]
theorem zz5.append:∀{ds a:List D} {vs us:List V},zz5 K F ds vs->zz5 K F a us->zz5 K F (ds++a) (vs++us)
 | [],a,vs,us,h,b=>by rw[zz8.mp h];exact b
 |d::ds,a,vs,us,h,b=>by let ⟨v,r,rfl,q,z⟩:=zz1.mp h;exact zz5.cons q (zz5.append z b)
theorem zz5.get:∀{ds:List D} {vs:List V} {i:Nat} {d:D},zz5 K F ds vs->ds[i]?=some d->∃v,vs[i]?=some v/\Rep K F d v
 | [],vs,i,d,h,e=>by simp at e
 |d::ds,vs,0,c,h,e=>by let ⟨v,r,rfl,q,z⟩:=zz1.mp h;simp at e;subst e;exact ⟨v,rfl,q⟩
 |d::ds,vs,i+1,c,h,e=>by let ⟨v,r,rfl,q,z⟩:=zz1.mp h;simp at e;let ⟨u,a,b⟩:=zz5.get z e;exact ⟨u,by simpa using a,b⟩
theorem zz5.set{d:D}{v:V}(q:Rep K F d v):∀{ds:List D} {vs:List V} (i:Nat),zz5 K F ds vs->zz5 K F (ds.set i d) (vs.set i v)
 | [],vs,i,h=>by rw[zz8.mp h];exact zz5.nil
 |e::ds,vs,0,h=>by let ⟨u,r,rfl,_,z⟩:=zz1.mp h;exact zz5.cons q z
 |e::ds,vs,i+1,h=>by let ⟨u,r,rfl,p,z⟩:=zz1.mp h;exact zz5.cons p (zz5.set q i z)
theorem zz5.take:∀{ds:List D} {vs:List V} (n:Nat),zz5 K F ds vs->zz5 K F (ds.take n) (vs.take n)
 | [],vs,n,h=>by rw[zz8.mp h];simp;exact zz5.nil
 |d::ds,vs,0,h=>by simp;exact zz5.nil
 |d::ds,vs,n+1,h=>by let ⟨u,r,rfl,p,z⟩:=zz1.mp h;simp;exact zz5.cons p (zz5.take n z)
theorem zz5.drop:∀{ds:List D} {vs:List V} (n:Nat),zz5 K F ds vs->zz5 K F (ds.drop n) (vs.drop n)
 | [],vs,n,h=>by rw[zz8.mp h];simp;exact zz5.nil
 |d::ds,vs,0,h=>by simpa using h
 |d::ds,vs,n+1,h=>by let ⟨u,r,rfl,p,z⟩:=zz1.mp h;simp;exact zz5.drop n z
theorem zz5.atI{ds:List D}{vs:List V}{i:Int}{d:D}(h:zz5 K F ds vs)(e:L2.atI ds i=some d):∃v,L2.atI vs i=some v/\Rep K F d v:=by
 unfold L2.atI at e ⊢;rw[h.length];cases c:ixN ds.length i with
 |none=>rw[c]at e;cases e
 |some j=>
  rw[c]at e;let ⟨v,a,b⟩:=h.get e
  grind
end
open W (XC)
abbrev Dk:=Option (X0×List D)
inductive Cell where
 |no |val (d:D)|own (ds:List D)|obj (C:X0) (fs:List (Str×D))|zm3 (kvs:List (Key×D))|zt9 (kvs:List (List Int×D))
abbrev En:=List Cell
def zo7(K:Frag)(F H zz6:Hp)(sf:Option X0):Cell->Option V->Prop
 | .no,_=>True
 | .val d,v=>∃u,v=some u/\Rep K F d u
 | .own ds,v=>∃a vs,v=some (.ref a)/\H a=some (.lst vs)/\F a=none/\zz6 a=none/\zz5 K F ds vs
 | .obj C fs,v=>∃a dx us,v=some (.ref a)/\sf=some a/\H a=some (.ins C dx us)/\H dx=some (.own a)/\F a=none/\F dx=none/\zz6 a=none/\zz6 dx=none/\zv7 K F fs us
 | .zm3 kvs,v=>∃a us,v=some (.ref a)/\H a=some (.dK us)/\F a=none/\zz6 a=none/\zj1 K F kvs us
 | .zt9 kvs,v=>∃a us,v=some (.ref a)/\H a=some (.dT us.1 us.2)/\F a=none/\zz6 a=none/\zc5 K F kvs us
def Off(δ:Dk)(b:X0):Prop:=∀a ds,δ=some (a,ds)->b≠a
def zX7(K:Frag)(F H:Hp)(δ:Dk):Prop:=∀a ds,δ=some (a,ds)->F a=none/\∃vs,H a=some (.lst vs)/\zz5 K F ds vs
def DkTo(zz6:Hp)(zv8 δ:Dk):Prop:=(∀a ds,zv8=some (a,ds)->∃es,δ=some (a,es))/\∀a ds,δ=some (a,ds)->zv8=none->zz6 a=none
structure Ran(K:Frag)(zf7 zz6:Hp)(zv8:Dk)(F H:Hp)(δ:Dk):Prop where
 sub:zz7 F H
 dk:zX7 K F H δ
 keep:∀b o,zz6 b=some o->Off zv8 b->H b=some o
 f0:zz7 zf7 F
 zl5:∀b o,F b=some o->zf7 b=some o\/zz6 b=none
 dto:DkTo zz6 zv8 δ
structure Y2 where
 zf7:Hp
 zz6:Hp
 zv8:Dk
 sf:Option X0:=none
def y6(ρ:En)(σ:St)(i:Nat)(a:X0):Prop:=((∃ds,ρ[i]?=some (.own ds))\/(∃C fs,ρ[i]?=some (.obj C fs))\/(∃kvs,ρ[i]?=some (.zm3 kvs))\/∃kvs,ρ[i]?=some (.zt9 kvs))/\σ[i]?=some (some (.ref a))
structure I2(K:Frag)(Y:Y2)(F H:Hp)(σ:St)(ρ:En)(δ:Dk):Prop where
 ran:Ran K Y.zf7 Y.zz6 Y.zv8 F H δ
 env:∀(i:Nat) (c:Cell),ρ[i]?=some c->zo7 K F H Y.zz6 Y.sf c (σ[i]?).join
 len:ρ.length=σ.length
 apart:∀(i j:Nat) (a:X0),i≠j->y6 ρ σ i a->y6 ρ σ j a->False
 off:∀(i:Nat) (a:X0),y6 ρ σ i a->Off δ a
section
variable{K:Frag}{Y:Y2}{F H:Hp}{σ:St}{ρ:En}{δ:Dk}
theorem I2.sub(I:I2 K Y F H σ ρ δ):zz7 F H:=I.ran.sub
def x4{σ:St}{i:Nat}{v:V}(h:(σ[i]?).join=some v):σ[i]?=some (some v):=by grind
def Ran.fresh(R:Ran K Y.zf7 Y.zz6 Y.zv8 F H δ){p:X0}(h:H p=none):Y.zz6 p=none:=by
 cases q:Y.zz6 p with
 |none=>rfl
 |some o=>
  by_cases z:∃ds,Y.zv8=some (p,ds)
  .let ⟨ds,z⟩:=z;let ⟨b,z2⟩:=R.dto.1 p ds z;let ⟨_,c,z3,_⟩:=R.dk p b z2
   grind
  .have:=R.keep p o q (λa ds e w=>z ⟨ds,by rw[e,w]⟩)
   grind
def Ran.alloc{o:HO}{p:X0}(R:Ran K Y.zf7 Y.zz6 Y.zv8 F H δ)(h:H p=none):Ran K Y.zf7 Y.zz6 Y.zv8 (upd F p o) (upd H p o) δ:=by
 have c:F p=none:=R.sub.free h;have h0:=R.fresh h;refine ⟨λb u e=>?_,λa ds e=>?_,λb u e f=>?_,λb u e=>?_,λb u e=>?_,R.dto⟩
 .by_cases z:b=p
  .subst z;rw[j3]at e ⊢; exact e
  .rw[j0 z]at e ⊢; exact R.sub _ _ e
 .let ⟨q,g,d,r⟩:=R.dk a ds e;have z:a≠p:=i0 d h;exact ⟨by rw[j0 z];exact q,g,by rw[j0 z];exact d,r.mono (zz7.new c)⟩
 .rw[j0 (i0 (R.keep b u e f) h)];exact R.keep b u e f
 .rw[j0 (i0 (R.f0 b u e) c)];exact R.f0 b u e
 .by_cases z:b=p
  .subst z;exact .inr h0
  .rw[j0 z]at e;exact R.zl5 b u e
def zo7.alloc{o:HO}{p:X0}{c:Cell}{v:Option V}{zz6:Hp}{sf:Option X0}(s:zz7 F H)(h:H p=none)(x:zo7 K F H zz6 sf c v):zo7 K (upd F p o) (upd H p o) zz6 sf c v:=by
 have b:=s.free h;cases c with
 |no=>trivial
 |val d=>let ⟨u,e,r⟩:=x;exact ⟨u,e,r.mono (zz7.new b)⟩
 |own ds=>
  let ⟨a,l,e,q,f,g,r⟩:=x;have z:=i0 q h;exact ⟨a,l,e,by rw[j0 z];exact q,by rw[j0 z];exact f,g,r.mono (zz7.new b)⟩
 |obj C fs=>
  let ⟨a,m,i,e,n,q,k,f,f2,g,g2,r⟩:=x;have z:=i0 q h;have z2:=i0 k h;exact ⟨a,m,i,e,n,by rw[j0 z];exact q,by rw[j0 z2];exact k,by rw[j0 z];exact f,by rw[j0 z2];exact f2,g,g2,r.mono (zz7.new b)⟩
 |zm3 j=>
  let ⟨a,i,e,q,f,g,r⟩:=x;have z:=i0 q h;exact ⟨a,i,e,by rw[j0 z];exact q,by rw[j0 z];exact f,g,r.mono (zz7.new b)⟩
 |zt9 j=>
  let ⟨a,i,e,q,f,g,r⟩:=x;have z:=i0 q h;exact ⟨a,i,e,by rw[j0 z];exact q,by rw[j0 z];exact f,g,r.mono (zz7.new b)⟩
theorem I2.alloc{o:HO}{p:X0}(I:I2 K Y F H σ ρ δ)(h:H p=none):I2 K Y (upd F p o) (upd H p o) σ ρ δ:=
 ⟨I.ran.alloc h,λi c e=>(I.env i c e).alloc I.sub h,I.len,I.apart,I.off⟩
theorem I2.lst{ds:List D}{vs:List V}{p:X0}(I:I2 K Y F H σ ρ δ)(h:H p=none)(r:zz5 K F ds vs):Rep K (upd F p (.lst vs)) (.lst ds) (.ref p):=
 zy6.mpr ⟨p,vs,rfl,j3,r.mono (zz7.new (I.sub.free h))⟩
theorem I2.tup{ds:List D}{vs:List V}{p:X0}(I:I2 K Y F H σ ρ δ)(h:H p=none)(r:zz5 K F ds vs):Rep K (upd F p (.tup vs)) (.tup ds) (.ref p):=
 zz9.mpr ⟨p,vs,rfl,j3,r.mono (zz7.new (I.sub.free h))⟩
def I2.grow{o:HO}{p:X0}(I:I2 K Y F H σ ρ δ)(h:H p=none):zz7 F (upd F p o):=zz7.new (I.sub.free h)
def I2.put{i:Nat}{v:V}{d:D}(I:I2 K Y F H σ ρ δ)(r:Rep K F d v):I2 K Y F H (σ.set i (some v)) (ρ.set i (.val d)) δ:=by
 have key:∀j a,y6 (ρ.set i (.val d)) (σ.set i (some v)) j a->j≠i/\y6 ρ σ j a:=λj a o=>by
  by_cases z:j=i
  .subst z;rcases o.1 with ⟨ds,q⟩|⟨C,fs,q⟩|⟨k,q⟩|⟨k,q⟩<;>
   .rw[i1w]at q;simp at q
  .refine ⟨z,?_⟩;let ⟨f,g⟩:=o;simp only[k1e (j1k z)]at f g;exact ⟨f,g⟩
 refine ⟨I.ran,λj c e=>?_,by simp[I.len],λa b c n f g=>I.apart a b c n (key a c f).2 (key b c g).2,λj a o=>I.off j a (key j a o).2⟩;by_cases z:j=i
 .subst z;rw[i1w]at e;by_cases l:j<ρ.length
  .simp[l]at e;subst e;refine ⟨v,?_,r⟩;rw[i1w];simp[I.len▸l]
  .simp[l]at e
 .rw[k1e (j1k z)]at e ⊢;exact I.env j c e
def I2.gone{i:Nat}(I:I2 K Y F H σ ρ δ):I2 K Y F H (σ.set i none) (ρ.set i .no) δ:=by
 have key:∀j a,y6 (ρ.set i .no) (σ.set i none) j a->j≠i/\y6 ρ σ j a:=λj a o=>by
  by_cases z:j=i
  .subst z;rcases o.1 with ⟨ds,q⟩|⟨C,fs,q⟩|⟨g,q⟩|⟨g,q⟩<;>
   .rw[i1w]at q;simp at q
  .refine ⟨z,?_⟩;let ⟨d,f⟩:=o;simp only[k1e (j1k z)]at d f;exact ⟨d,f⟩
 refine ⟨I.ran,λj c e=>?_,by simp[I.len],λa b c n d f=>I.apart a b c n (key a c d).2 (key b c f).2,λj a o=>I.off j a (key j a o).2⟩;by_cases z:j=i
 .subst z;rw[i1w]at e;by_cases k:j<ρ.length
  .simp[k]at e;subst e;trivial
  .simp[k]at e
 .rw[k1e (j1k z)]at e ⊢;exact I.env j c e
def I2.freeze{i:Nat}{ds:List D}(I:I2 K Y F H σ ρ δ)(e:ρ[i]?=some (.own ds)):
 ∃a vs,σ[i]?=some (some (.ref a))/\F a=none/\I2 K Y (upd F a (.lst vs)) H σ (ρ.set i (.val (.lst ds))) δ/\Rep K (upd F a (.lst vs)) (.lst ds) (.ref a):=by
 let ⟨a,vs,q,h,f,g,r⟩:=I.env i _ e;have hs:=x4 q;have ho:y6 ρ σ i a:=⟨.inl ⟨ds,e⟩,hs⟩;have N:Rep K (upd F a (.lst vs)) (.lst ds) (.ref a):=zy6.mpr ⟨a,vs,rfl,j3,r.mono (zz7.new f)⟩;refine ⟨a,vs,hs,f,?_,N⟩;have key:∀j b,y6 (ρ.set i (.val (.lst ds))) σ j b->j≠i/\y6 ρ σ j b:=λj b o=>by
  by_cases z:j=i
  .subst z;rcases o.1 with ⟨ds,q⟩|⟨C,fs,q⟩|⟨p,q⟩|⟨p,q⟩<;>
   .rw[i1w]at q;simp at q
  .refine ⟨z,?_⟩;let ⟨B,J⟩:=o;simp only[k1e (j1k z)]at B;exact ⟨B,J⟩
 refine ⟨⟨λb u e=>?_,λb G e=>?_,I.ran.keep,λb u e=>?_,λb u e=>?_,I.ran.dto⟩,λj c t=>?_,by simp[I.len],λx y b n B J=>I.apart x y b n (key x b B).2 (key y b J).2,λj b o=>I.off j b (key j b o).2⟩
 .by_cases z:b=a
  .subst z;rw[j3]at e;cases e;exact h
  .rw[j0 z]at e;exact I.sub _ _ e
 .let ⟨Q,l,R,q3⟩:=I.ran.dk b G e;exact ⟨by rw[j0 (j1k (I.off i a ho b G e))];exact Q,l,R,q3.mono (zz7.new f)⟩
 .rw[j0 (i0 (I.ran.f0 b u e) f)];exact I.ran.f0 b u e
 .by_cases z:b=a
  .subst z;exact .inr g
  .rw[j0 z]at e;exact I.ran.zl5 b u e
 .by_cases z:j=i
  .subst z;rw[i1w]at t;by_cases O:j<ρ.length
   .simp[O]at t;subst t;exact ⟨_,q,N⟩
   .simp[O]at t
  .rw[k1e (j1k z)]at t;have w:=I.env j c t;cases c with
   |no=>trivial
   |val d=>let ⟨u,e1,m⟩:=w;exact ⟨u,e1,m.mono (zz7.new f)⟩
   |own G=>
    let ⟨b,l,e1,k,f1,g1,m⟩:=w;have v:b≠a:=λw=>I.apart j i a z ⟨.inl ⟨G,t⟩,by rw[<-w];exact x4 e1⟩ ho
    exact ⟨b,l,e1,k,by rw[j0 v];exact f1,g1,m.mono (zz7.new f)⟩
   |obj C fs=>
    let ⟨b,P,l,e1,L,k,M,f1,f2,g1,g2,m⟩:=w;have v:b≠a:=λw=>by rw[w,h]at k;cases k
    have nd:P≠a:=λw=>by rw[w,h]at M;cases M
    exact ⟨b,P,l,e1,L,k,M,by rw[j0 v];exact f1,by rw[j0 nd];exact f2,g1,g2,m.mono (zz7.new f)⟩
   |zm3 p=>
    let ⟨b,l,e1,k,f1,g1,m⟩:=w;have v:b≠a:=λw=>by rw[w,h]at k;cases k
    exact ⟨b,l,e1,k,by rw[j0 v];exact f1,g1,m.mono (zz7.new f)⟩
   |zt9 p=>
    let ⟨b,l,e1,k,f1,g1,m⟩:=w;have v:b≠a:=λw=>by rw[w,h]at k;cases k
    exact ⟨b,l,e1,k,by rw[j0 v];exact f1,g1,m.mono (zz7.new f)⟩
def I2.zX8{i:Nat}{ds:List (List Int×D)}(I:I2 K Y F H σ ρ δ)(e:ρ[i]?=some (.zt9 ds)):
 ∃a,∃vs:List (List Key×V)×(X0->Prop),σ[i]?=some (some (.ref a))/\H a=some (.dT vs.1 vs.2)/\F a=none/\∀o,I2 K Y (upd F a (.frz o (.dT vs.1 vs.2))) (upd H a (.frz o (.dT vs.1 vs.2))) σ (ρ.set i (.val (.dwt ds))) δ/\Rep K (upd F a (.frz o (.dT vs.1 vs.2))) (.dwt ds) (.ref a):=by
 let ⟨a,vs,q,h,f,g,r⟩:=I.env i _ e;have hs:=x4 q;have ho:y6 ρ σ i a:=⟨.inr (.inr (.inr ⟨ds,e⟩)),hs⟩;refine ⟨a,vs,hs,h,f,λo=>?_⟩;have N:Rep K (upd F a (.frz o (.dT vs.1 vs.2))) (.dwt ds) (.ref a):=zw3.mpr ⟨a,o,vs,rfl,j3,r.mono (zz7.new f)⟩;refine ⟨?_,N⟩;have key:∀j b,y6 (ρ.set i (.val (.dwt ds))) σ j b->j≠i/\y6 ρ σ j b:=λj b O=>by
  by_cases z:j=i
  .subst z;rcases O.1 with ⟨ds,q⟩|⟨C,fs,q⟩|⟨m,q⟩|⟨m,q⟩<;>
   .rw[i1w]at q;simp at q
  .refine ⟨z,?_⟩;let ⟨B,J⟩:=O;simp only[k1e (j1k z)]at B;exact ⟨B,J⟩
 refine ⟨⟨λb u e=>?_,λb G e=>?_,λb u e R=>?_,λb u e=>?_,λb u e=>?_,I.ran.dto⟩,λj c v=>?_,by simp[I.len],λx y b n B J=>I.apart x y b n (key x b B).2 (key y b J).2,λj b o=>I.off j b (key j b o).2⟩
 .by_cases z:b=a
  .subst z;rw[j3]at e ⊢; exact e
  .rw[j0 z]at e ⊢; exact I.sub _ _ e
 .let ⟨S,p,U,q3⟩:=I.ran.dk b G e;exact ⟨by rw[j0 (j1k (I.off i a ho b G e))];exact S,p,by rw[j0 (j1k (I.off i a ho b G e))];exact U,q3.mono (zz7.new f)⟩
 .rw[j0 (i0 e g)];exact I.ran.keep b u e R
 .rw[j0 (i0 (I.ran.f0 b u e) f)];exact I.ran.f0 b u e
 .by_cases z:b=a
  .subst z;exact .inr g
  .rw[j0 z]at e;exact I.ran.zl5 b u e
 .by_cases z:j=i
  .subst z;rw[i1w]at v;by_cases P:j<ρ.length
   .simp[P]at v;subst v;exact ⟨_,q,N⟩
   .simp[P]at v
  .rw[k1e (j1k z)]at v;have w:=I.env j c v;cases c with
   |no=>trivial
   |val d=>let ⟨u,e1,t⟩:=w;exact ⟨u,e1,t.mono (zz7.new f)⟩
   |own G=>
    let ⟨b,p,e1,k,f1,g1,t⟩:=w;have l:b≠a:=λw=>by rw[w,h]at k;cases k
    exact ⟨b,p,e1,by rw[j0 l];exact k,by rw[j0 l];exact f1,g1,t.mono (zz7.new f)⟩
   |obj C fs=>
    let ⟨b,Q,p,e1,L,k,M,f1,f2,g1,g2,t⟩:=w;have l:b≠a:=λw=>by rw[w,h]at k;cases k
    have nd:Q≠a:=λw=>by rw[w,h]at M;cases M
    exact ⟨b,Q,p,e1,L,by rw[j0 l];exact k,by rw[j0 nd];exact M,by rw[j0 l];exact f1,by rw[j0 nd];exact f2,g1,g2,t.mono (zz7.new f)⟩
   |zm3 m=>
    let ⟨b,p,e1,k,f1,g1,t⟩:=w;have l:b≠a:=λw=>by rw[w,h]at k;cases k
    exact ⟨b,p,e1,by rw[j0 l];exact k,by rw[j0 l];exact f1,g1,t.mono (zz7.new f)⟩
   |zt9 m=>
    let ⟨b,p,e1,k,f1,g1,t⟩:=w;have l:b≠a:=λw=>I.apart j i a z ⟨.inr (.inr (.inr ⟨m,v⟩)),by rw[<-w];exact x4 e1⟩ ho
    exact ⟨b,p,e1,by rw[j0 l];exact k,by rw[j0 l];exact f1,g1,t.mono (zz7.new f)⟩
end
open W (XC)
abbrev XK2:=X0->List (Str×D)->En->Dk->Prop
abbrev K2:=D->En->Dk->Prop
abbrev TE2:=XK2->En->Dk->K2->Prop
abbrev TT2:=XK2->En->Dk->(Bool->En->Dk->Prop)->Prop
abbrev TA2:=XK2->En->Dk->(List D->En->Dk->Prop)->Prop
def zV9(K:Frag)(F:Hp)(od:Option X0)(fs:List (Str×D)):Prop:=match od with
 |none=>fs=[]
 |some d=>∃us,F d=some (XD d us)/\zv7 K F fs us
def XR(K:Frag)(Y:Y2)(W:XW)(F:Hp)(x:XK2):Prop:=∀C od fs σ' F' H' ρ' δ',I2 K Y F' H' σ' ρ' δ'->zz7 F F'->zV9 K F' od fs->x C fs ρ' δ'->W C od σ' H'
def XR.mono{K:Frag}{Y:Y2}{W:XW}{F F1:Hp}{x:XK2}(h:XR K Y W F x)(s:zz7 F F1):XR K Y W F1 x:=λC d fs a e f b c I g=>h C d fs a e f b c I (s.trans g)
def upE(K:Frag)(Y:Y2)(W:XW)(t:TE2):TE:=λσ H Q=>∃F ρ δ x q,I2 K Y F H σ ρ δ/\t x ρ δ q/\(∀d v F' H' ρ' δ',I2 K Y F' H' σ ρ' δ'->zz7 F F'->Rep K F' d v->q d ρ' δ'->Q v H')/\XR K Y W F x
def upT(K:Frag)(Y:Y2)(W:XW)(t:TT2):TT:=λσ H Q=>∃F ρ δ x q,I2 K Y F H σ ρ δ/\t x ρ δ q/\(∀b F' H' ρ' δ',I2 K Y F' H' σ ρ' δ'->zz7 F F'->q b ρ' δ'->Q b H')/\XR K Y W F x
def upA(K:Frag)(Y:Y2)(W:XW)(t:TA2):TA:=λσ H Q=>∃F ρ δ x q,I2 K Y F H σ ρ δ/\t x ρ δ q/\(∀ds vs F' H' ρ' δ',I2 K Y F' H' σ ρ' δ'->zz7 F F'->zz5 K F' ds vs->q ds ρ' δ'->Q vs H')/\XR K Y W F x
structure PE2(X:Cx)(Y:Y2)(W:XW)(e:Expr)(t:TE2):Prop where
 go:PE X e (upE X.K Y W t)
structure PT2(X:Cx)(Y:Y2)(W:XW)(e:Expr)(t:TT2):Prop where
 go:PT X e (upT X.K Y W t)
structure PW2(X:Cx)(Y:Y2)(W:XW)(e:Expr)(t:TT2):Prop where
 go:PW X e (upT X.K Y W t)
structure PA2(X:Cx)(Y:Y2)(W:XW)(es:List Expr)(t:TA2):Prop where
 go:PA X es (upA X.K Y W t)
def z1o{X:Cx}{e:Expr}{t t':TE}(h:PE X e t)(k:∀ σ H Q,t' σ H Q->t σ H Q):PE X e t':=λa s σ H Q I q=>h a s σ H Q I (k σ H Q q)
def o1o{X:Cx}{e:Expr}{t t':TT}(h:PT X e t)(k:∀ σ H Q,t' σ H Q->t σ H Q):PT X e t':=λa s σ H Q I q=>h a s σ H Q I (k σ H Q q)
def o1n{X:Cx}{e:Expr}{t t':TT}(h:PW X e t)(k:∀ σ H Q,t' σ H Q->t σ H Q):PW X e t':=λw a s σ H Q I q=>h w a s σ H Q I (k σ H Q q)
def o1m{X:Cx}{b:List Expr}{t t':TA}(h:PA X b t)(k:∀ σ H Q,t' σ H Q->t σ H Q):PA X b t':=λp a s σ H Q I q=>h p a s σ H Q I (k σ H Q q)
def r1f:Expr->Bool | .Starred _ _=>false |_=>true
def i6{e:Expr}{a:List Expr}{env:Env}(h:r1f e=true):R0 (e::a) env=(false,eval e env)::R0 a env:=by
 cases e<;>first |rfl |cases h
theorem b8{pos:Pos}{env:Env}:∀{a:List Expr},a.all r1f=true->(Q3 pos (R0 a env)).any (·.1)=false
 | [],_=>rfl
 |e::a,h=>by
  rw[i1n,k1p]at h;rw[i6 h.1];show (false||(Q3 pos (R0 a env)).any (·.1))=false;rw[b8 h.2];rfl
def pe2{X:Cx}{Y:Y2}{W:XW}{e:Expr}{t:TE}{u:TE2}(h:PE X e t)(k:∀ σ H Q,upE X.K Y W u σ H Q->t σ H Q):PE2 X Y W e u:=⟨z1o h k⟩
def pt2{X:Cx}{Y:Y2}{W:XW}{e:Expr}{t:TT}{u:TT2}(h:PT X e t)(k:∀ σ H Q,upT X.K Y W u σ H Q->t σ H Q):PT2 X Y W e u:=⟨o1o h k⟩
def pw2{X:Cx}{Y:Y2}{W:XW}{e:Expr}{t:TT}{u:TT2}(h:PW X e t)(k:∀ σ H Q,upT X.K Y W u σ H Q->t σ H Q):PW2 X Y W e u:=⟨o1n h k⟩
def pa2{X:Cx}{Y:Y2}{W:XW}{a:List Expr}{t:TA}{u:TA2}(h:PA X a t)(k:∀ σ H Q,upA X.K Y W u σ H Q->t σ H Q):PA2 X Y W a u:=⟨o1m h k⟩
section
variable{X:Cx}{Y:Y2}{W:XW}{a b c:Expr}{ta tb tc:TE2}{pos:Pos}
def t2C(d:D):TE2:=λ_ ρ δ q=>q d ρ δ
def zX9{e:Expr}{v:V}{d:D}(h:PE X e (tC v))(r:∀F,Rep X.K F d v):PE2 X Y W e (t2C d):=pe2 h λb H Q zz=>by let ⟨F,a,δ,x,q,I,h,k,c⟩:=zz;exact k d v F H a δ I (zz7.refl F) (r F) h
def b3{i j pos}:PE2 X Y W (.Constant (.int i) j pos) (t2C (.int i)):=zX9 r0n λF=>zz4.mpr rfl
def r0b{i j pos}:PE2 X Y W (.Constant (.bool i) j pos) (t2C (.bl i)):=zX9 zB8 λF=>zy2.mpr rfl
def j0x{j pos}:PE2 X Y W (.Constant .none j pos) (t2C .non):=zX9 zT0 λF=>zx1.mpr rfl
def z0m{i j pos}:PE2 X Y W (.Constant (.str i) j pos) (t2C (.str i)):=zX9 zT1 λF=>zx3.mpr rfl
def rdV(ρ:En)(i:Nat)(k:D->En->Prop):Prop:=match ρ[i]? with
 |some (.val d)=>k d ρ
 |some (.own ds)=>k (.lst ds) (ρ.set i (.val (.lst ds)))
 |_=>False
def t2V(i:Nat):TE2:=λ_ ρ δ q=>rdV ρ i λd ρ'=>q d ρ' δ
def zP7{K:Frag}{F H:Hp}{σ:St}{c:En}{δ:Dk}{i:Nat}{k:D->En->Prop}(I:I2 K Y F H σ c δ)(h:rdV c i k):
 ∃d v g b,σ[i]?=some (some v)/\I2 K Y g H σ b δ/\zz7 F g/\Rep K g d v/\k d b:=by
 unfold rdV at h;split at h
 .rename_i d e;let ⟨v,q,r⟩:=I.env i _ e;exact ⟨d,v,F,c,x4 q,I,zz7.refl F,r,h⟩
 .rename_i ds e;let ⟨a,l,q,f,j,r⟩:=I.freeze e;exact ⟨_,_,_,_,q,j,zz7.new f,r,h⟩
 .exact h.elim
def zx0(i:Nat){x:Str}{pos:Pos}(c:X.N[i]?=some x:=by rfl)(f:Vis X.env.scope x:=by walk_at "v3")(hd:(x==("__debug__":Str))=false:=by decide)
 (a:(x==("__classdict__":Str))=false:=by decide):PE2 X Y W (.Name x pos) (t2V i):=pe2 (i8 c f hd a) λm H Q zz=>by
 let ⟨F,n,δ,x,q,I,h,k,o⟩:=zz
 let ⟨d,v,g,b,e,j,s,r,l⟩:=zP7 I h;exact ⟨v,e,k d v g H b δ j s r l⟩
def z30{x:Str}{n:Int}{u:Z0}(hm:X.mg x=some u)(r:∃t,u=.int n t)(a:Gl X x:=by rfl)(hd:(x==("__debug__":Str))=false:=by decide):PE2 X Y W (.Name x pos) (t2C (.int n)):=zX9 (b0c (v:=.int n) a hm r hd) λF=>zz4.mpr rfl
def z31{x:Str}{C:X0}(hm:X.mg x=some (.ref C))(a:Gl X x:=by rfl)(hd:(x==("__debug__":Str))=false:=by decide):PE2 X Y W (.Name x pos) (t2C (.ref C)):=zX9 (b0c (v:=.ref C) a hm rfl hd) λF=>zu9.mpr rfl
def z32(n:String){y:Str}(hm:X.mg y=none)(a:W1 y=some (.type n))(b:Gl X y:=by rfl)(hn:y≠"__name__":=by decide)(hd:(y==("__debug__":Str))=false:=by decide):PE2 X Y W (.Name y pos) (t2C (.ty n)):=
 zX9 (pty n hm a b hn hd) λF=>zm6.mpr rfl
def h0h:TA2:=λ_ ρ δ q=>q [] ρ δ
def x0p(te:TE2)(tr:TA2):TA2:=λx ρ δ q=>te x ρ δ λd ρ1 δ1=>tr x ρ1 δ1 λds ρ2 δ2=>q (d::ds) ρ2 δ2
def y4:PA2 X Y W [] h0h:=pa2 f0b λb H Q zz=>by let ⟨F,a,δ,x,q,I,h,k,c⟩:=zz;exact k [] [] F H a δ I (zz7.refl F) zz5.nil h
def l0{e:Expr}{a:List Expr}{g:TE2}{t:TA2}(ha:PE2 X Y W e g)(hr:PA2 X Y W a t)(hs:R0 (e::a) X.env=(false,eval e X.env)::R0 a X.env:=by exact i6 rfl):PA2 X Y W (e::a) (x0p g t):=
 pa2 (n0d ha.go hr.go hs) λB H Q zz=>by let ⟨F,m,δ,x,q,I,h,k,i⟩:=zz;exact ⟨F,m,δ,x,_,I,h,λn v1 F1 C b c o j p r=>⟨F1,b,c,x,_,o,r,λds u F2 v d f w l y z=>
  k (n::ds) (v1::u) F2 v d f w (j.trans l) (zz5.cons (p.mono l) y) z,i.mono j⟩,i⟩
def h0g{n:Nat}(h:n<=1000):n<=PySem.sizeLine:=j1o h (by decide)
def u1t(t:TA2):TE2:=λx ρ δ q=>t x ρ δ λds ρ1 δ1=>ds.length<=1000/\q (.lst ds) ρ1 δ1
def u1s(t:TA2):TE2:=λx ρ δ q=>t x ρ δ λds ρ1 δ1=>ds.length<=1000/\q (.tup ds) ρ1 δ1
def b5{e:List Expr}{t:TA2}(h:PA2 X Y W e t):PE2 X Y W (.List e pos) (u1t t):=pe2 (a0q h.go) λm H Q zz=>by let ⟨F,i,δ,x,q,I,h,k,j⟩:=zz;exact 
 ⟨F,i,δ,x,_,I,h,λds n F1 o a b c l f g=>⟨h0g (by rw[f.length];exact g.1),λp d=>k _ _ _ _ a b (c.alloc d) (l.trans (c.grow d)) (c.lst d f) g.2⟩,j⟩
def y0g{i}{e:List Expr}{t:TA2}(h:PA2 X Y W e t):PE2 X Y W (.Tuple e i pos) (u1s t):=pe2 (zR1 h.go) λn H Q zz=>by let ⟨F,j,δ,x,q,I,h,k,l⟩:=zz;exact 
 ⟨F,j,δ,x,_,I,h,λds o F1 r a b c m f g=>⟨h0g (by rw[f.length];exact g.1),λp d=>k _ _ _ _ a b (c.alloc d) (m.trans (c.grow d)) (c.tup d f) g.2⟩,l⟩
abbrev F2:=D->D->(D->Prop)->Prop
def OpD(K:Frag)(r:R2)(f:F2):Prop:=∀(Y:Y2) (F H:Hp) (σ:St) (ρ:En) (δ:Dk) (x y:V) (d1 d2:D) (Q1:VK) (q:D->Prop),I2 K Y F H σ ρ δ->Rep K F d1 x->Rep K F d2 y->f d1 d2 q->
 (∀d v F' H',I2 K Y F' H' σ ρ δ->zz7 F F'->Rep K F' d v->q d->Q1 v H')->r x y H Q1
def zd5(f:F2)(ta tb:TE2):TE2:=λx ρ δ q=>ta x ρ δ λd1 ρ1 δ1=>tb x ρ1 δ1 λd2 ρ2 δ2=>f d1 d2 λd=>q d ρ2 δ2
def u1r{r:R2}{f:F2}(m:OpD X.K r f){σ:St}{H:Hp}{Q:VK}(h:upE X.K Y W (zd5 f ta tb) σ H Q):tOp r (upE X.K Y W ta) (upE X.K Y W tb) σ H Q:=by
 let ⟨F,n,δ,x,q,I,h,k,i⟩:=h;exact ⟨F,n,δ,x,_,I,h,λo v1 F1 M c e p j t u=>⟨F1,c,e,x,_,p,u,λw v2 F2 y a b g l z B=>
  m Y F2 y σ a b v1 v2 o w _ _ g (t.mono l) z B λd v C D g G J L=>k d v C D a b g ((j.trans l).trans G) J L,i.mono j⟩,i⟩
def t0b{op:Operator}{r:R2}{f:F2}(ho:OpR X (K3 op) r)(c:OpD X.K r f)(ha:PE2 X Y W a ta)(d:PE2 X Y W b tb):PE2 X Y W (.BinOp a op b pos) (zd5 f ta tb):=pe2 (zA8 ho ha.go d.go) λe H Q h=>u1r c h
def e0q{op:CmpOp}{r:R2}{f:F2}(ho:OpR X (R1 op) r)(c:OpD X.K r f)(ha:PE2 X Y W a ta)(d:PE2 X Y W b tb)(hm:O4 op b=false):PE2 X Y W (.Compare a [op] [b] pos) (zd5 f ta tb):=pe2 (p1m ho ha.go d.go hm) λe H Q h=>u1r c h
def z1n{r:R2}{f:F2}(hr:IxR X r)(c:OpD X.K r f)(ha:PE2 X Y W a ta)(d:PE2 X Y W b tb)(hs:h0k b:=by exact λ_ _=>rfl):PE2 X Y W (.Subscript a b pos) (zd5 f ta tb):=pe2 (a0m hr ha.go d.go hs) λe H Q h=>u1r c h
def t2B(t:TE2):TT2:=λx ρ δ q=>t x ρ δ λd ρ1 δ1=>match d with | .bl k=>q k ρ1 δ1 |_=>False
def h0f{t:TE2}{σ:St}{H:Hp}{Q:Bool->Hp->Prop}(h:upT X.K Y W (t2B t) σ H Q):upE X.K Y W t σ H λx g=>∃c,x=.bl c/\Q c g:=by
 let ⟨F,i,δ,x,q,I,h,k,j⟩:=h;refine ⟨F,i,δ,x,_,I,h,λd v l m a e n o p f=>?_,j⟩;cases d with
 |bl b=>exact ⟨b,zy2.mp p,k b l m a e n o f⟩
 |_=>exact f.elim
def e0p{e:Expr}{t:TE2}(h:PE2 X Y W e t)(a:∀whole,isTrue e X.env whole=(do let v<-whole;standAt e.pos;holding [v] (truthy v)):=by intro _;rfl):PT2 X Y W e (t2B t):=pt2 (zT2 h.go a) λb H Q h=>h0f h
def i9{op:CmpOp}{r:R2}{f:F2}(ho:OpR X (R1 op) r)(c:OpD X.K r f)(ha:PE2 X Y W a ta)(d:PE2 X Y W b tb)(hm:O4 op b=false):PT2 X Y W (.Compare a [op] [b] pos) (t2B (zd5 f ta tb)):=
 pt2 (p1l ho ha.go d.go hm) λe H Q h=>u1r c (h0f h)
def u1q(t:TT2):TT2:=λx ρ δ q=>t x ρ δ λk ρ1 δ1=>q (!k) ρ1 δ1
def e0o{t:TT2}(h:PT2 X Y W a t):PT2 X Y W (.UnaryOp .Not a pos) (u1q t):=pt2 (zT3 h.go) λn H Q zz=>by let ⟨F,e,δ,x,q,I,h,k,f⟩:=zz;exact ⟨F,e,δ,x,_,I,h,λb g i c d j l m=>k _ g i c d j l m,f⟩
def u1p(t u:TT2):TT2:=λx ρ δ q=>t x ρ δ λk ρ1 δ1=>if k=true then u x ρ1 δ1 q else q false ρ1 δ1
def t2Or(t u:TT2):TT2:=λx ρ δ q=>t x ρ δ λk ρ1 δ1=>if k=true then q true ρ1 δ1 else u x ρ1 δ1 q
variable{tA tB':TT2}{rest:List Expr}
def z1m(ha:PT2 X Y W a tA):PW2 X Y W (.BoolOp .And [a] pos) tA:=⟨p1s ha.go⟩
def e0n(ha:PT2 X Y W a tA):PW2 X Y W (.BoolOp .Or [a] pos) tA:=⟨pw_or1 ha.go⟩
def r1e(ha:PT2 X Y W a tA)(n:PW2 X Y W (.BoolOp .And (b::rest) pos) tB'):PW2 X Y W (.BoolOp .And (a::b::rest) pos) (u1p tA tB'):=pw2 (pw_and ha.go n.go) λv H Q zz=>by
 let ⟨F,o,δ,x,q,I,h,k,j⟩:=zz
 refine ⟨F,o,δ,x,_,I,h,λb l p c d m f e=>?_,j⟩;cases b with
 |true=>rw[H0 rfl]at e ⊢; exact ⟨l,c,d,x,q,m,e,λb F2 r g i I2 t u=>k b F2 r g i I2 (f.trans t) u,j.mono f⟩
 |false=>rw[O0 k1j]at e ⊢; exact k false l p c d m f e
def u1o(ha:PT2 X Y W a tA)(n:PW2 X Y W (.BoolOp .Or (b::rest) pos) tB'):PW2 X Y W (.BoolOp .Or (a::b::rest) pos) (t2Or tA tB'):=pw2 (pw_or ha.go n.go) λv H Q zz=>by
 let ⟨F,o,δ,x,q,I,h,k,j⟩:=zz
 refine ⟨F,o,δ,x,_,I,h,λb l p c d m f e=>?_,j⟩;cases b with
 |true=>rw[H0 rfl]at e ⊢; exact k true l p c d m f e
 |false=>rw[O0 k1j]at e ⊢; exact ⟨l,c,d,x,q,m,e,λb F2 r g i I2 t u=>k b F2 r g i I2 (f.trans t) u,j.mono f⟩
theorem PW2.pt(h:PW2 X Y W a tA):PT2 X Y W a tA:=⟨PW.pt h.go⟩
def e0m(ta tb:TE2):TE2:=λx ρ δ q=>ta x ρ δ λd ρ1 δ1=>match d with | .bl k=>if k=true then tb x ρ1 δ1 q else q (.bl false) ρ1 δ1 |_=>False
def e0l(ta:TE2):TE2:=λx ρ δ q=>ta x ρ δ λd ρ1 δ1=>match d with | .bl k=>q (.bl (!k)) ρ1 δ1 |_=>False
def r1d{op}(h:PE2 X Y W a ta):PE2 X Y W (.BoolOp op [a] pos) ta:=⟨zT4 h.go⟩
def r1c(ha:PE2 X Y W a ta)(o:PE2 X Y W (.BoolOp .And (b::rest) pos) tb):PE2 X Y W (.BoolOp .And (a::b::rest) pos) (e0m ta tb):=pe2 (zT5 ha.go o.go) λB H Q zz=>by
 let ⟨F,p,δ,x,q,I,h,k,l⟩:=zz
 refine ⟨F,p,δ,x,_,I,h,λd v m r e f n g t c=>?_,l⟩;cases d with
 |bl b=>
  refine ⟨b,zy2.mp t,?_⟩;cases b with
  |true=>dsimp only at c;rw[H0 rfl]at c ⊢; exact ⟨m,e,f,x,q,n,c,λd v F2 u i j I2 w y z=>k d v F2 u i j I2 (g.trans w) y z,l.mono g⟩
  |false=>dsimp only at c;rw[O0 k1j]at c ⊢; exact k _ _ m r e f n g (zy2.mpr rfl) c
 |_=>exact c.elim
def zP8(ha:PE2 X Y W a ta):PE2 X Y W (.UnaryOp .Not a pos) (e0l ta):=pe2 (zT6 ha.go) λp H Q zz=>by
 let ⟨F,g,δ,x,q,I,h,k,i⟩:=zz
 refine ⟨F,g,δ,x,_,I,h,λd v j l c e m n o f=>?_,i⟩;cases d with
 |bl b=>exact ⟨b,zy2.mp o,k _ _ j l c e m n (zy2.mpr rfl) f⟩
 |_=>exact f.elim
def t2If(t:TT2)(ta tb:TE2):TE2:=λx ρ δ q=>t x ρ δ λk ρ1 δ1=>if k=true then ta x ρ1 δ1 q else tb x ρ1 δ1 q
def z34{e:Expr}(w:PT2 X Y W e tA)(ha:PE2 X Y W a ta)(y:PE2 X Y W b tb):PE2 X Y W (.IfExp e a b pos) (t2If tA ta tb):=pe2 (v1p w.go ha.go y.go) λB H Q zz=>by
 let ⟨F,z,δ,x,q,I,h,k,m⟩:=zz
 refine ⟨F,z,δ,x,_,I,h,λb t C g i u j l=>?_,m⟩;cases b with
 |true=>rw[H0 rfl]at l ⊢; exact ⟨t,g,i,x,q,u,l,λd v F2 n c f I2 o p r=>k d v F2 n c f I2 (j.trans o) p r,m.mono j⟩
 |false=>rw[O0 k1j]at l ⊢; exact ⟨t,g,i,x,q,u,l,λd v F2 n c f I2 o p r=>k d v F2 n c f I2 (j.trans o) p r,m.mono j⟩
def t0a(f f':F2)(ta tb tc:TE2):TE2:=λx ρ δ q=>ta x ρ δ λd1 ρ1 δ1=>tb x ρ1 δ1 λd2 ρ2 δ2=>f d1 d2 λd=>match d with
 | .bl k=>if k=true then tc x ρ2 δ2 λd3 ρ3 δ3=>f' d2 d3 λd=>q d ρ3 δ3 else q (.bl false) ρ2 δ2
 |_=>False
def e0k{r j:R2}{f t:F2}(J:OpD X.K r f)(l:OpD X.K j t){σ:St}{H:Hp}{Q:VK}(h:upE X.K Y W (t0a f t ta tb tc) σ H Q):a0s r j (upE X.K Y W ta) (upE X.K Y W tb) (upE X.K Y W tc) σ H Q:=by
 let ⟨F,L,δ,x,q,I,h,k,m⟩:=h;refine ⟨F,L,δ,x,_,I,h,λM v1 F1 H1 n o N u O P=>⟨F1,n,o,x,_,N,P,λw v2 F2 R a c I2 y z S=>?_,m.mono u⟩,m⟩;refine J Y F2 R σ a c v1 v2 M w _ _ I2 (O.mono y) z S λd v B U C D j e=>?_
 cases d with
 |bl b=>
  refine ⟨b,zy2.mp j,?_⟩;have p:=(u.trans y).trans D;cases b with
  |true=>
   dsimp only at e;exact ⟨B,a,c,x,_,C,e,λV v3 Z H3 g i I3 G r3 h3=>l Y Z H3 σ g i v2 v3 w V _ _ I3 (z.mono (D.trans G)) r3 h3 λd v F4 H4 I4 s5 r4 q4=>k d v F4 H4 g i I4 ((p.trans G).trans s5) r4 q4,m.mono p⟩
  |false=>
   dsimp only at e;exact k _ _ B U a c C p (zy2.mpr rfl) e
 |_=>exact e.elim
def u1n{op d:CmpOp}{r i:R2}{f j:F2}(ho:OpR X (R1 op) r)(e:OpR X (R1 d) i)(k:OpD X.K r f)(g:OpD X.K i j)(ha:PE2 X Y W a ta)(l:PE2 X Y W b tb)(m:PE2 X Y W c tc)
 (hm:lastMarks [op,d] [b,c]=false:=by with_unfolding_all rfl):PE2 X Y W (.Compare a [op,d] [b,c] pos) (t0a f j ta tb tc):=pe2 (v1n ho e ha.go l.go m.go hm) λn H Q h=>e0k k g h
def u1m{op d:CmpOp}{r i:R2}{f j:F2}(ho:OpR X (R1 op) r)(e:OpR X (R1 d) i)(k:OpD X.K r f)(g:OpD X.K i j)(ha:PE2 X Y W a ta)(l:PE2 X Y W b tb)(m:PE2 X Y W c tc)
 (hm:lastMarks [op,d] [b,c]=false:=by with_unfolding_all rfl):PT2 X Y W (.Compare a [op,d] [b,c] pos) (t2B (t0a f j ta tb tc)):=pt2 (v1m ho e ha.go l.go m.go hm) λn H Q h=>e0k k g (h0f h)
abbrev F1:=List D->(D->Prop)->Prop
def t0w(K:Frag)(r:List V->Hp->VK->Prop)(f:F1):Prop:=∀(Y:Y2) (F H:Hp) (σ:St) (ρ:En) (δ:Dk) (vs:List V) (ds:List D) (Q1:VK) (q:D->Prop),I2 K Y F H σ ρ δ->zz5 K F ds vs->f ds q->
 (∀d v F' H',I2 K Y F' H' σ ρ δ->zz7 F F'->Rep K F' d v->q d->Q1 v H')->r vs H Q1
def zP9(f:F1)(t:TA2):TE2:=λx ρ δ q=>t x ρ δ λds ρ1 δ1=>f ds λd=>q d ρ1 δ1
def zO0{r:List V->Hp->VK->Prop}{f:F1}{t:TA2}(c:t0w X.K r f){σ:St}{H:Hp}{Q:VK}(h:upE X.K Y W (zP9 f t) σ H Q):tCB r (upA X.K Y W t) σ H Q:=by
 let ⟨F,e,δ,x,q,I,h,k,g⟩:=h;exact ⟨F,e,δ,x,_,I,h,λds i F1 j a b l m n o=>c Y F1 j σ a b i ds _ _ l n o λd v p u w y z B=>k d v p u a b w (m.trans y) z B,g⟩
variable{x:Str}{e:Expr}{es:List Expr}{t:TA2}{p:Pos}
def z35{id:String}{r:List V->Hp->VK->Prop}{f:F1}(c:x0t X (.builtin id) r)(d:t0w X.K r f)(hm:X.mg x=none)(g:W1 x=some (.builtin id))(ha:PA2 X Y W (e::es) t)(i:Gl X x:=by rfl)(hn:x≠"__name__":=by decide)(a:(x==("__debug__":Str))=false:=by decide)
 (j:R0 (e::es) X.env=(false,eval e X.env)::R0 es X.env:=by exact i6 rfl) (b:(Q3 pos (R0 es X.env)).any (·.1)=false:=by exact b8 rfl):PE2 X Y W (.Call (.Name x p) (e::es) [] pos) (zP9 f t):=pe2 (q0r c i hm g ha.go hn a j b) λk H Q h=>zO0 d h
def u1l{T:String}{r:List V->Hp->VK->Prop}{f:F1}(c:x0t X (.type T) r)(d:t0w X.K r f)(hm:X.mg x=none)(g:W1 x=some (.type T))(ha:PA2 X Y W (e::es) t)(i:Gl X x:=by rfl)(hn:x≠"__name__":=by decide)(a:(x==("__debug__":Str))=false:=by decide)
 (j:R0 (e::es) X.env=(false,eval e X.env)::R0 es X.env:=by exact i6 rfl) (b:(Q3 pos (R0 es X.env)).any (·.1)=false:=by exact b8 rfl):PE2 X Y W (.Call (.Name x p) (e::es) [] pos) (zP9 f t):=pe2 (k0l c i hm g ha.go hn a j b) λk H Q h=>zO0 d h
def t2Un(f:D->(D->Prop)->Prop)(ta:TE2):TE2:=λx ρ δ q=>ta x ρ δ λd ρ1 δ1=>f d λd=>q d ρ1 δ1
def e0j(ha:PE2 X Y W a ta):PE2 X Y W (.UnaryOp .USub a pos) (t2Un (λd q=>match d with | .int i=>q (.int (-i))|_=>False) ta):=pe2 (zA9 zS4 ha.go) λp H Q zz=>by
 let ⟨F,f,δ,x,q,I,h,k,g⟩:=zz
 refine ⟨F,f,δ,x,_,I,h,λd v j l b c m n o e=>?_,g⟩;cases d with
 |int i=>exact ⟨i,zz4.mp o,k _ _ j l b c m n (zz4.mpr rfl) e⟩
 |_=>exact e.elim
end
open W (XC)
section
variable{X:Cx}{K:Frag}
def e0i{f:Z0->Z0->Sem Z0}{r b:R2}(h:OpR X f r)(h':OpR X f b):OpR X f (λx y H Q=>r x y H Q\/b x y H Q):=by
 intro a s c H x y v u Q I d e q;rcases q with q |q
 .exact h a s c H x y v u Q I d e q
 .exact h' a s c H x y v u Q I d e q
def fI(C:Int->Int->Prop)(g:Int->Int->D):F2:=λd1 d2 q=>match d1,d2 with
 | .int i,.int j=>C i j/\q (g i j)
 |_,_=>False
def dI{C:Int->Int->Prop}{g:Int->Int->V}{g':Int->Int->D}(h:∀F i j,Rep K F (g' i j) (g i j)):OpD K (rI C g) (fI C g'):=by
 intro Y F H d e δ x y f l m q I b c a k;unfold fI at a;split at a
 .rename_i i j;exact ⟨i,j,zz4.mp b,zz4.mp c,a.1,k _ _ F H I (zz7.refl F) (h F i j) a.2⟩
 .exact a.elim
def fI0(g:Int->Int->D):F2:=λd1 d2 q=>match d1,d2 with
 | .int i,.int j=>q (g i j)
 |_,_=>False
def dI0{g:Int->Int->V}{g':Int->Int->D}(h:∀F i j,Rep K F (g' i j) (g i j)):OpD K (rI0 g) (fI0 g'):=by
 intro Y F H d e δ x y f l m q I b c a k;unfold fI0 at a;split at a
 .rename_i i j;exact ⟨i,j,zz4.mp b,zz4.mp c,k _ _ F H I (zz7.refl F) (h F i j) a⟩
 .exact a.elim
def o1l(K:Frag):R2:=λx y H Q=>rI0 (λi j=>.int (i+j)) x y H Q\/rCat x y H Q
def z36:F2:=λd1 d2 q=>match d1,d2 with
 | .int i,.int j=>q (.int (i+j))
 | .lst xs,.lst ys=>xs.length+ys.length<=1000/\q (.lst (xs++ys))
 |_,_=>False
def o1k:OpR X (K3 .Add) (o1l X.K):=e0i zS2 zR8
def zO1:OpD K (o1l K) z36:=by
 intro Y F H m n δ x y o r t q I e f c k;unfold z36 at c;split at c
 .rename_i i j;exact .inl ⟨i,j,zz4.mp e,zz4.mp f,k _ _ F H I (zz7.refl F) (zz4.mpr rfl) c⟩
 .let ⟨a,g,rfl,e1,z1⟩:=zy6.mp e;let ⟨b,l,rfl,e2,z2⟩:=zy6.mp f;refine .inr ⟨a,b,g,l,rfl,rfl,I.sub _ _ e1,I.sub _ _ e2,h0g (by rw[z1.length,z2.length];exact c.1),λp d=>k _ _ _ _ (I.alloc d) (I.grow d) (I.lst d (z1.append z2)) c.2⟩
 .exact c.elim
abbrev z37:F2:=fI0 λi j=>.int (i-j)
abbrev mulF:F2:=fI zV2 λi j=>.int (i*j)
abbrev u1k:F2:=fI zC2 λi j=>.int (i/j)
abbrev modF:F2:=fI (λ_ j=>0<j) λi j=>.int (i%j)
abbrev powF:F2:=fI z00 λi j=>.int (i^j.toNat)
abbrev ltF:F2:=fI0 λi j=>.bl (decide (i<j))
abbrev leF:F2:=fI0 λi j=>.bl (decide (i<=j))
abbrev gtF:F2:=fI0 λi j=>.bl (decide (j<i))
abbrev geF:F2:=fI0 λi j=>.bl (decide (j<=i))
def zO2:OpD K (rI0 λi j=>.int (i-j)) z37:=dI0 λ_ _ _=>zz4.mpr rfl
def o1j:OpD K (rI zV2 λi j=>.int (i*j)) mulF:=dI λ_ _ _=>zz4.mpr rfl
def zO3:OpD K (rI zC2 λi j=>.int (i/j)) u1k:=dI λ_ _ _=>zz4.mpr rfl
def zO4:OpD K (rI (λ_ j=>0<j) λi j=>.int (i%j)) modF:=dI λ_ _ _=>zz4.mpr rfl
def z38:OpD K (rI z00 λi j=>.int (i^j.toNat)) powF:=dI λ_ _ _=>zz4.mpr rfl
def d_lt:OpD K (rI0 λi j=>.bl (decide (i<j))) ltF:=dI0 λ_ _ _=>zy2.mpr rfl
def d_le:OpD K (rI0 λi j=>.bl (decide (i<=j))) leF:=dI0 λ_ _ _=>zy2.mpr rfl
def d_gt:OpD K (rI0 λi j=>.bl (decide (j<i))) gtF:=dI0 λ_ _ _=>zy2.mpr rfl
def d_ge:OpD K (rI0 λi j=>.bl (decide (j<=i))) geF:=dI0 λ_ _ _=>zy2.mpr rfl
def z39:F2:=λd1 d2 q=>match d1,d2 with
 | .lst xs,.int k=>xs.length*k.toNat<=1000/\0<=k/\k<=1000/\q (.lst (List.replicate k.toNat xs).flatten)
 |_,_=>False
theorem zz5.rep{F:Hp}{ds:List D}{vs:List V}(h:zz5 K F ds vs):∀n:Nat,zz5 K F (List.replicate n ds).flatten (List.replicate n vs).flatten
 | 0=>by simp;exact zz5.nil
 |n+1=>by rw[e1o,e1o];exact h.append (zz5.rep h n)
def z40:OpD K rRep z39:=by
 intro Y F H j l δ x y m o r q I d e b k;unfold z39 at b;split at b
 .rename_i t n;let ⟨a,f,rfl,e1,z1⟩:=zy6.mp d;let ⟨g,u,v,i⟩:=b;refine ⟨a,n,f,rfl,zz4.mp e,I.sub _ _ e1,by lia,by lia,h0g (by rw[z1.length];exact g),λp c=>k _ _ _ _ (I.alloc c) (I.grow c) (I.lst c (z1.rep _)) i⟩
 .exact b.elim
def eqD:D->D->Option Bool
 | .int i,.int j=>some (decide (i=j))
 | .bl i,.bl j=>some (decide (i=j))
 | .str i,.str j=>some (decide (i=j))
 | .non,.non=>some true
 | .non,.int _=>some false | .non,.bl _=>some false | .non,.str _=>some false
 | .int _,.non=>some false | .bl _,.non=>some false | .str _,.non=>some false
 | .int _,.str _=>some false | .bl _,.str _=>some false
 | .str _,.int _=>some false | .str _,.bl _=>some false
 |_,_=>none
def eqF:F2:=λd1 d2 q=>match eqD d1 d2 with |some b=>q (.bl b)|none=>False
def neF:F2:=λd1 d2 q=>match eqD d1 d2 with |some b=>q (.bl (!b))|none=>False
def zO5{F:Hp}{d e:D}{x y:V}{b:Bool}(h:eqD d e=some b)(a:Rep K F d x)(c:Rep K F e y):z01 x y=true/\decide (x=y)=b:=by
 unfold eqD at h;split at h<;>first |cases h |skip
 all_goals
  first
   |(rw[zz4.mp a,zz4.mp c];exact ⟨rfl,by simp⟩)
   |(rw[zy2.mp a,zy2.mp c];exact ⟨rfl,by simp⟩)
   |(rw[zx3.mp a,zx3.mp c];exact ⟨rfl,by simp⟩)
   |(rw[zx1.mp a,zx1.mp c];exact ⟨rfl,by simp⟩)
   |(rw[zx1.mp a,zz4.mp c];exact ⟨rfl,by simp⟩)
   |(rw[zx1.mp a,zy2.mp c];exact ⟨rfl,by simp⟩)
   |(rw[zx1.mp a,zx3.mp c];exact ⟨rfl,by simp⟩)
   |(rw[zz4.mp a,zx1.mp c];exact ⟨rfl,by simp⟩)
   |(rw[zy2.mp a,zx1.mp c];exact ⟨rfl,by simp⟩)
   |(rw[zx3.mp a,zx1.mp c];exact ⟨rfl,by simp⟩)
   |(rw[zz4.mp a,zx3.mp c];exact ⟨rfl,by simp⟩)
   |(rw[zy2.mp a,zx3.mp c];exact ⟨rfl,by simp⟩)
   |(rw[zx3.mp a,zz4.mp c];exact ⟨rfl,by simp⟩)
   |(rw[zx3.mp a,zy2.mp c];exact ⟨rfl,by simp⟩)
def d_eq:OpD K rEq eqF:=by
 intro Y F H f g δ x y i j l q I c d a k;unfold eqF at a;split at a
 .rename_i b e;let ⟨s,e2⟩:=zO5 e c d;exact ⟨s,by rw[e2];exact k _ _ F H I (zz7.refl F) (zy2.mpr rfl) a⟩
 .exact a.elim
def d_ne:OpD K rNe neF:=by
 intro Y F H f g δ x y i j l q I c d a k;unfold neF at a;split at a
 .rename_i b e;let ⟨s,e2⟩:=zO5 e c d;exact ⟨s,by rw[e2];exact k _ _ F H I (zz7.refl F) (zy2.mpr rfl) a⟩
 .exact a.elim
def n0r:D->Bool | .non=>true |_=>false
def isNF:F2:=λd1 d2 q=>match d2 with | .non=>q (.bl (n0r d1))|_=>False
def u1j:F2:=λd1 d2 q=>match d2 with | .non=>q (.bl (!n0r d1))|_=>False
def z1l{F:Hp}{d:D}{x:V}(r:Rep K F d x):decide (x=.non)=n0r d:=by
 cases d with
 |non=>rw[zx1.mp r];rfl
 |bl b=>rw[zy2.mp r];rfl
 |int b=>rw[zz4.mp r];rfl
 |str b=>rw[zx3.mp r];rfl
 |lst b=>let ⟨a,c,rfl,_⟩:=zy6.mp r;rfl
 |tup b=>let ⟨a,c,rfl,_⟩:=zz9.mp r;rfl
 |scr b=>let ⟨a,c,rfl,_⟩:=zr3.mp r;rfl
 |dic b=>let ⟨a,c,rfl,_⟩:=zl2.mp r;rfl
 |dwk b=>let ⟨a,o,c,rfl,_⟩:=zX6.mp r;rfl
 |dwt b=>let ⟨a,o,c,rfl,_⟩:=zw3.mp r;rfl
 |ins C b=>let ⟨a,e,c,rfl,_⟩:=zl3.mp r;rfl
 |exc C b=>let ⟨a,fr,rfl,_⟩:=zl4.mp r;rfl
 |ref a=>rw[zu9.mp r];rfl
 |ty a=>rw[zm6.mp r];rfl
def z41:OpD K (λx y H Q=>y=.non/\Q (.bl (decide (x=.non))) H) isNF:=by
 intro Y F H e f δ x y g b i q I c d a k;cases b with
 |non=>exact ⟨zx1.mp d,by rw[z1l c];exact k _ _ F H I (zz7.refl F) (zy2.mpr rfl) a⟩
 |_=>exact a.elim
def zO6:OpD K (λx y H Q=>y=.non/\Q (.bl (!decide (x=.non))) H) u1j:=by
 intro Y F H e f δ x y g b i q I c d a k;cases b with
 |non=>exact ⟨zx1.mp d,by rw[z1l c];exact k _ _ F H I (zz7.refl F) (zy2.mpr rfl) a⟩
 |_=>exact a.elim
def zm4:D->Option (List D)
 | .lst xs=>some xs | .tup xs=>some xs | .scr xs=>some xs |_=>none
def ixF:F2:=λd1 d2 q=>match zm4 d1,d2 with
 |some xs,.int i=>match atI xs i with |some d=>q d |none=>False
 |_,_=>False
def p0v{F H:Hp}{d:D}{xs:List D}{x:V}(s:zz7 F H)(h:zm4 d=some xs)(r:Rep K F d x):∃a vs,x=.ref a/\(SqL K H a vs\/SqT K H a vs)/\zz5 K F xs vs:=by
 cases d with
 |lst b=>cases h;let ⟨a,vs,rfl,e,z⟩:=zy6.mp r;exact ⟨a,vs,rfl,.inl (SqL.of (s _ _ e)),z⟩
 |tup b=>cases h;let ⟨a,vs,rfl,e,z⟩:=zz9.mp r;exact ⟨a,vs,rfl,.inr (SqT.of (s _ _ e)),z⟩
 |scr b=>cases h;let ⟨a,vs,rfl,e,z⟩:=zr3.mp r;exact ⟨a,vs,rfl,.inl (s.sqL e),z⟩
 |_=>cases h
def zO7:OpD K (rIx K) ixF:=by
 intro Y F H n o δ x y p r t q I j c b k;unfold ixF at b;split at b
 .rename_i u i e;split at b
  .rename_i d l;let ⟨a,f,rfl,sq,z⟩:=p0v I.sub e j;let ⟨v,g,m⟩:=z.atI l;have fin:=k d v F H I (zz7.refl F) m b;rcases sq with sq |sq
   .exact .inl ⟨a,f,i,v,rfl,zz4.mp c,sq,g,fin⟩
   .exact .inr (.inl ⟨a,f,i,v,rfl,zz4.mp c,sq,g,fin⟩)
  .exact b.elim
 .exact b.elim
def z8:D->Bool | .non=>true | .bl _=>true | .int _=>true | .str _=>true |_=>false
def toV:D->V | .bl b=>.bl b | .int i=>.int i | .str x=>.str x |_=>.non
def z1k{F:Hp}{d:D}{x:V}(h:z8 d=true)(r:Rep K F d x):x=toV d/\z0x x=true:=by
 cases d with
 |non=>rw[zx1.mp r];exact ⟨rfl,rfl⟩
 |bl b=>rw[zy2.mp r];exact ⟨rfl,rfl⟩
 |int b=>rw[zz4.mp r];exact ⟨rfl,rfl⟩
 |str b=>rw[zx3.mp r];exact ⟨rfl,rfl⟩
 |_=>cases h
theorem x8{F:Hp}:∀{ds:List D} {xs:List V},ds.all z8=true->zz5 K F ds xs->xs=ds.map toV/\xs.all z0x=true
 | [],xs,_,r=>by rw[zz8.mp r];exact ⟨rfl,rfl⟩
 |d::ds,xs,h,r=>by
  let ⟨v,c,rfl,a,b⟩:=zz1.mp r;rw[i1n,k1p]at h;let ⟨e1,e2⟩:=z1k h.1 a;let ⟨e3,e4⟩:=x8 h.2 b
  grind
def inD(d:D)(xs:List D):Bool:=xs.any λe=>eqV (toV e) (toV d)
def inF:F2:=λd1 d2 q=>match zm4 d2 with |some xs=>(z8 d1&&xs.all z8)=true/\q (.bl (inD d1 xs))|none=>False
def j0w:F2:=λd1 d2 q=>match zm4 d2 with |some xs=>(z8 d1&&xs.all z8)=true/\q (.bl (!inD d1 xs))|none=>False
def z1j(d:D)(xs:List D):inV (toV d) (xs.map toV)=inD d xs:=by unfold inV inD;rw[List.any_map];rfl
def d_in:OpD K (rIn K false) inF:=by
 intro Y F H j l δ x y m n o q I d f b k;unfold inF at b;split at b
 .rename_i p e;let ⟨c,g⟩:=b;rw[k1p]at c;let ⟨a,i,rfl,sq,z⟩:=p0v I.sub e f;let ⟨e1,e2⟩:=z1k c.1 d;let ⟨e3,e4⟩:=x8 c.2 z;refine ⟨a,i,rfl,sq,e2,e4,?_⟩;rw[e1,e3,z1j];exact k _ _ F H I (zz7.refl F) (zy2.mpr rfl) g
 .exact b.elim
def o1i:OpD K (rIn K true) j0w:=by
 intro Y F H j l δ x y m n o q I d f b k;unfold j0w at b;split at b
 .rename_i p e;let ⟨c,g⟩:=b;rw[k1p]at c;let ⟨a,i,rfl,sq,z⟩:=p0v I.sub e f;let ⟨e1,e2⟩:=z1k c.1 d;let ⟨e3,e4⟩:=x8 c.2 z;refine ⟨a,i,rfl,sq,e2,e4,?_⟩;rw[e1,e3,z1j];exact k _ _ F H I (zz7.refl F) (zy2.mpr rfl) g
 .exact b.elim
def z43:F1:=λds q=>match ds with | [d]=>(match zm4 d with |some xs=>q (.int (xs.length:Nat))|none=>False)|_=>False
def z0g{F:Hp}{d:D}{vs:List V}(r:zz5 K F [d] vs):∃v,vs=[v]/\Rep K F d v:=by
 let ⟨v,l,rfl,a,b⟩:=zz1.mp r;rw[zz8.mp b];exact ⟨v,rfl,a⟩
def u1i{F:Hp}{d e:D}{vs:List V}(r:zz5 K F [d,e] vs):∃v u,vs=[v,u]/\Rep K F d v/\Rep K F e u:=by
 let ⟨v,l,rfl,b,a⟩:=zz1.mp r;let ⟨u,rfl,c⟩:=z0g a
 grind
def zO8:t0w K (λxs H Q=>∃p c,xs=[.ref p]/\(SqL K H p c\/SqT K H p c)/\Q (.int c.length) H) z43:=by
 intro Y F H g i δ j ds l q I r b k;unfold z43 at b;split at b
 .split at b
  .rename_i xs e;let ⟨v,rfl,d⟩:=z0g r;let ⟨a,f,rfl,sq,z⟩:=p0v I.sub e d;exact ⟨a,f,rfl,sq,by rw[z.length];exact k _ _ F H I (zz7.refl F) (zz4.mpr rfl) b⟩
  .exact b.elim
 .exact b.elim
def z44:F1:=λds q=>match ds with | [.int i]=>q (.int (if i<0 then -i else i))|_=>False
def z45:t0w K (λxs H Q=>∃i,xs=[.int i]/\Q (.int (if i<0 then -i else i)) H) z44:=by
 intro Y F H c d δ e ds f q I r a k;unfold z44 at a;split at a
 .let ⟨v,rfl,b⟩:=z0g r;rw[zz4.mp b];exact ⟨_,rfl,k _ _ F H I (zz7.refl F) (zz4.mpr rfl) a⟩
 .exact a.elim
def z46:F1:=λds q=>match ds with | [.int i,.int j]=>q (.int (if j<i then j else i))|_=>False
def zO9:t0w K (λxs H Q=>∃i j,xs=[.int i,.int j]/\Q (.int (if j<i then j else i)) H) z46:=by
 intro Y F H d e δ f ds g q I r a k;unfold z46 at a;split at a
 .let ⟨v,u,rfl,b,c⟩:=u1i r;rw[zz4.mp b,zz4.mp c];exact ⟨_,_,rfl,k _ _ F H I (zz7.refl F) (zz4.mpr rfl) a⟩
 .exact a.elim
def z47:F1:=λds q=>match ds with | [.int i]=>q (.int i)| [.bl k]=>q (.int (if k then 1 else 0))|_=>False
def zN0:t0w K (λxs H Q=>(∃i,xs=[.int i]/\Q (.int i) H)\/∃k,xs=[.bl k]/\Q (.int (if k then 1 else 0)) H) z47:=by
 intro Y F H c d δ e ds f q I r a k;unfold z47 at a;split at a
 .let ⟨v,rfl,b⟩:=z0g r;rw[zz4.mp b];exact .inl ⟨_,rfl,k _ _ F H I (zz7.refl F) (zz4.mpr rfl) a⟩
 .let ⟨v,rfl,b⟩:=z0g r;rw[zy2.mp b];exact .inr ⟨_,rfl,k _ _ F H I (zz7.refl F) (zz4.mpr rfl) a⟩
 .exact a.elim
def z1i:F1:=λds q=>match ds with | [d]=>(match zm4 d with |some xs=>q (.lst xs)|none=>False)|_=>False
def zN1:t0w K (λxs H Q=>∃p c,xs=[.ref p]/\(SqL K H p c\/SqT K H p c)/\∀l,H l=none->Q (.ref l) (upd H l (.lst c))) z1i:=by
 intro Y F H i j δ m ds n q I r b k;unfold z1i at b;split at b
 .split at b
  .rename_i xs e;let ⟨v,rfl,f⟩:=z0g r;let ⟨a,g,rfl,sq,z⟩:=p0v I.sub e f;exact ⟨a,g,rfl,sq,λl d=>k _ _ _ _ (I.alloc d) (I.grow d) (I.lst d z) b⟩
  .exact b.elim
 .exact b.elim
def j0v:F1:=λds q=>match ds with | [.lst xs]=>q (.tup xs)| [.scr xs]=>q (.tup xs)| [.tup xs]=>q (.tup xs)|_=>False
def z1h:t0w K (λxs H Q=>∃p g,xs=[.ref p]/\((SqL K H p g/\∀l,H l=none->Q (.ref l) (upd H l (.tup g)))\/(SqT K H p g/\Q (.ref p) H))) j0v:=by
 intro Y F H i j δ m ds n q I r c k;unfold j0v at c;split at c
 .let ⟨v,rfl,f⟩:=z0g r;let ⟨a,d,rfl,e,z⟩:=zy6.mp f;exact ⟨a,d,rfl,.inl ⟨SqL.of (I.sub _ _ e),λl b=>k _ _ _ _ (I.alloc b) (I.grow b) (I.tup b z) c⟩⟩
 .let ⟨v,rfl,f⟩:=z0g r;let ⟨a,d,rfl,e,z⟩:=zr3.mp f;exact ⟨a,d,rfl,.inl ⟨I.sub.sqL e,λl b=>k _ _ _ _ (I.alloc b) (I.grow b) (I.tup b z) c⟩⟩
 .let ⟨v,rfl,f⟩:=z0g r;let ⟨a,d,rfl,e,z⟩:=zz9.mp f;exact ⟨a,d,rfl,.inr ⟨SqT.of (I.sub _ _ e),k _ _ F H I (zz7.refl F) (zz9.mpr ⟨a,d,rfl,e,z⟩) c⟩⟩
 .exact c.elim
def zd6:List D->Option (List Bool)
 | []=>some []
 | .bl b::r=>(zd6 r).map (b::·)
 |_=>none
theorem o1h{F:Hp}:∀{ds:List D} {bs:List Bool} {vs:List V},zd6 ds=some bs->zz5 K F ds vs->vs=bs.map V.bl
 | [],bs,vs,h,r=>by cases h;rw[zz8.mp r];rfl
 |d::ds,bs,vs,h,r=>by
  let ⟨v,l,rfl,a,c⟩:=zz1.mp r;cases d with
  |bl b=>
   let ⟨e,e1,rfl⟩:=k1c.mp h;rw[zy2.mp a,o1h e1 c];rfl
  |_=>cases h
def z48:F1:=λds q=>match ds with | [.lst xs]=>(match zd6 xs with |some bs=>q (.bl (bs.all id))|none=>False)|_=>False
def z49:t0w K (rAll K) z48:=by
 intro Y F H d f δ g ds i q I r b k;unfold z48 at b;split at b
 .split at b
  .rename_i j _ bs e;let ⟨v,rfl,c⟩:=z0g r;let ⟨a,l,rfl,e2,z⟩:=zy6.mp c;exact ⟨a,bs,rfl,SqL.of (by rw[<-o1h e z];exact I.sub _ _ e2),k _ _ F H I (zz7.refl F) (zy2.mpr rfl) b⟩
  .exact b.elim
 .exact b.elim
structure z50(K:Frag)(C:X0):Prop where
 cl:Cls K C
 ha:PySem.W.findIn K (.ref C) "__class__"=some (some (.builtin "object.__class__"))
 hn:PySem.W.specialIn K (.builtin "object.__class__") "__get__"=some (some (.builtin "getset_descriptor.__get__"))
 htk:PySem.W.takesIn K (.builtin "object.__class__")=some true
 hm:PySem.W.mroIn K C (.type "object")=some true
def tyD:D->Z0
 | .non=>.type "NoneType" | .bl _=>.type "bool" | .int _=>.type "int" | .str _=>.type "str" | .lst _=>.type "list" | .scr _=>.type "list" | .tup _=>.type "tuple" | .dic _=>.type "dict"
 | .ins C _=>.ref C | .exc C _=>.ref C |_=>.none
def TyD(K:Frag):D->Prop
 | .ins C _=>z50 K C | .exc C _=>XC K C | .ref _=>False | .ty _=>False | .scr _=>False | .dwk _=>False | .dwt _=>False |_=>True
def z51{F H:Hp}{d:D}{x:V}(s:zz7 F H)(t:TyD K d)(r:Rep K F d x):TyX K H x (tyD d):=by
 cases d with
 |non=>rw[zx1.mp r];exact .of .non
 |bl b=>rw[zy2.mp r];exact .of (.bl b)
 |int b=>rw[zz4.mp r];exact .of (.int b)
 |str b=>rw[zx3.mp r];exact .of (.str b)
 |lst b=>let ⟨a,c,rfl,e,_⟩:=zy6.mp r;exact .of (.lst (s _ _ e))
 |tup b=>let ⟨a,c,rfl,e,_⟩:=zz9.mp r;exact .of (.tup (s _ _ e))
 |scr b=>exact t.elim
 |dic b=>let ⟨a,c,rfl,e,_⟩:=zl2.mp r;exact .of (.dK (s _ _ e))
 |dwk b=>exact t.elim
 |dwt b=>exact t.elim
 |ins C b=>let ⟨a,f,c,rfl,e,_⟩:=zl3.mp r;exact .of (.ins (s _ _ e) t.cl t.ha t.hn t.htk t.hm)
 |exc C b=>
  let ⟨a,fr,rfl,h⟩:=zl4.mp r;rcases h with ⟨_,e⟩|⟨d,g,e,e2,_⟩
  .exact .exc0 (s _ _ e) t
  .exact .exc (s _ _ e) (s _ _ e2) t
 |ref a=>exact t.elim
 |ty a=>exact t.elim
def z52:List D->Option (List String)
 | []=>some []
 | .ty n::r=>(z52 r).map (n::·)
 |_=>none
theorem zN2{F:Hp}:∀{ds:List D} {ns:List String} {vs:List V},z52 ds=some ns->zz5 K F ds vs->vs=ns.map V.ty
 | [],bs,vs,h,r=>by cases h;rw[zz8.mp r];rfl
 |d::ds,bs,vs,h,r=>by
  let ⟨v,l,rfl,a,c⟩:=zz1.mp r;cases d with
  |ty b=>
   let ⟨e,e1,rfl⟩:=k1c.mp h;rw[zm6.mp a,zN2 e1 c];rfl
  |_=>cases h
def j0u(K:Frag)(d c:D):Option Bool:=match c with
 | .ty n=>PySem.W.kitOne K (tyD d) (.type n)
 | .ref C=>PySem.W.kitOne K (tyD d) (.ref C)
 | .tup cs=>match z52 cs with |some ns=>PySem.W.kitAny K (tyD d) (ns.map Value.type)|none=>none
 |_=>none
def c0b(K:Frag):F1:=λds q=>match ds with | [d,c]=>TyD K d/\(match j0u K d c with |some b=>q (.bl b)|none=>False)|_=>False
def zN3:t0w K (zQ8 K) (c0b K):=by
 intro Y F H i j δ l ds m q I r c k;unfold c0b at c;split at c
 .let ⟨f,c⟩:=c;let ⟨v,u,rfl,g,d⟩:=u1i r;split at c
  .rename_i b e;refine ⟨v,u,_,b,rfl,z51 I.sub f g,?_,k _ _ F H I (zz7.refl F) (zy2.mpr rfl) c⟩;unfold j0u at e;split at e
   .exact .inl ⟨_,zm6.mp d,e⟩
   .exact .inr (.inl ⟨_,zu9.mp d,e⟩)
   .split at e
    .rename_i ns en;let ⟨a,n,rfl,e2,z⟩:=zz9.mp d;exact .inr (.inr ⟨a,ns,rfl,by rw[<-zN2 en z];exact I.sub _ _ e2,e⟩)
    .cases e
   .cases e
  .exact c.elim
 .exact c.elim
end
open W (XC)
structure zd7 where
 nx:En->Dk->Prop
 rt:D->Dk->Prop
 xc:XK2
 bk:En->Dk->Prop:=λ_ _=>False
 ct:En->Dk->Prop:=λ_ _=>False
abbrev TS2:=zd7->En->Dk->Prop
structure ER(K:Frag)(Y:Y2)(W:XW)(F:Hp)(E2:zd7)(E1:Ends):Prop where
 nx:∀ σ' F' H' ρ' δ',I2 K Y F' H' σ' ρ' δ'->zz7 F F'->E2.nx ρ' δ'->E1.nx σ' H'
 rt:∀d v σ' F' H' ρ' δ',I2 K Y F' H' σ' ρ' δ'->zz7 F F'->Rep K F' d v->E2.rt d δ'->E1.rt v H'
 xc:XR K Y W F E2.xc
 bk:∀ σ' F' H' ρ' δ',I2 K Y F' H' σ' ρ' δ'->zz7 F F'->E2.bk ρ' δ'->E1.bk σ' H'
 ct:∀ σ' F' H' ρ' δ',I2 K Y F' H' σ' ρ' δ'->zz7 F F'->E2.ct ρ' δ'->E1.ct σ' H'
theorem ER.mono{K:Frag}{Y:Y2}{W:XW}{F F1:Hp}{i:zd7}{j:Ends}(h:ER K Y W F i j)(s:zz7 F F1):ER K Y W F1 i j:=
 ⟨λa e f b c I g=>h.nx a e f b c I (s.trans g),λd v a e f b c I g=>h.rt d v a e f b c I (s.trans g),h.xc.mono s,λa e f b c I g=>h.bk a e f b c I (s.trans g),λa e f b c I g=>h.ct a e f b c I (s.trans g)⟩
def upS(K:Frag)(Y:Y2)(W:XW)(t:TS2):TS:=λE1 σ H=>∃F ρ δ E2,I2 K Y F H σ ρ δ/\t E2 ρ δ/\ER K Y W F E2 E1
structure PS2(X:Cx)(Y:Y2)(W:XW)(st:Y1)(t:TS2):Prop where
 go:PS X st (upS X.K Y W t)
structure zl6(X:Cx)(Y:Y2)(W:XW)(st:List Y1)(t:TS2):Prop where
 go:PSs X st (upS X.K Y W t)
def m0w{X:Cx}{st:Y1}{t t':TS}(h:PS X st t)(k:∀D σ H,t' D σ H->t D σ H):PS X st t':=λa s σ H D I q=>h a s σ H D I (k D σ H q)
def q0o{X:Cx}{st:List Y1}{t t':TS}(h:PSs X st t)(k:∀D σ H,t' D σ H->t D σ H):PSs X st t':=λa s σ H D I q=>h a s σ H D I (k D σ H q)
def ps2{X:Cx}{Y:Y2}{W:XW}{st:Y1}{t:TS}{u:TS2}(h:PS X st t)(k:∀D σ H,upS X.K Y W u D σ H->t D σ H):PS2 X Y W st u:=⟨m0w h k⟩
def pss2{X:Cx}{Y:Y2}{W:XW}{st:List Y1}{t:TS}{u:TS2}(h:PSs X st t)(k:∀D σ H,upS X.K Y W u D σ H->t D σ H):zl6 X Y W st u:=⟨q0o h k⟩
section
variable{X:Cx}{Y:Y2}{W:XW}{st:Y1}{rest:List Y1}{t u:TS2}{e:Expr}{te:TE2}{pos:Pos}
def e0h:TS2:=λE ρ δ=>E.nx ρ δ
def z1g(t u:TS2):TS2:=λE ρ δ=>t {E with nx:=u E} ρ δ
def y0f:zl6 X Y W [] e0h:=pss2 p1r λc a H zz=>by let ⟨F,b,δ,d,I,h,er⟩:=zz;exact er.nx a F H b δ I (zz7.refl F) h
def d4(h1:PS2 X Y W st t)(d:zl6 X Y W rest u):zl6 X Y W (st::rest) (z1g t u):=pss2 (f0d h1.go d.go) λl m H zz=>by let ⟨F,e,δ,a,I,h,er⟩:=zz;exact 
 ⟨F,e,δ,{a with nx:=u a},I,h,⟨λf g n b c i j k=>⟨g,b,c,a,i,k,er.mono j⟩,er.rt,er.xc,er.bk,er.ct⟩⟩
def y8(h1:PS2 X Y W st t):zl6 X Y W [st] t:=⟨t0c h1.go⟩
def e0g(te:TE2):TS2:=λE ρ δ=>te E.xc ρ δ λ_ ρ1 δ1=>E.nx ρ1 δ1
def o1f(c:PE2 X Y W e te)(hs:B2 e none pos.line X.env=pure false:=by rfl):PS2 X Y W (.Expr e pos) (e0g te):=ps2 (p1q c.go hs) λo f H zz=>by let ⟨F,g,δ,i,I,h,er⟩:=zz;exact 
 ⟨F,g,δ,i.xc,_,I,h,λd v j k a b l m p n=>er.nx f j k a b l m n,er.xc⟩
def u1h(te:TE2):TS2:=λE ρ δ=>te E.xc ρ δ λd _ δ1=>E.rt d δ1
def y0e(c:PE2 X Y W e te):PS2 X Y W (.Return (some e) pos) (u1h te):=ps2 (r1t c.go) λp f H zz=>by let ⟨F,g,δ,i,I,h,er⟩:=zz;exact 
 ⟨F,g,δ,i.xc,_,I,h,λd v j k a b l m n o=>er.rt d v f j k a b l m n o,er.xc⟩
def z1f(c:TT2)(t u:TS2):TS2:=λE ρ δ=>c E.xc ρ δ λb ρ1 δ1=>if b=true then t E ρ1 δ1 else u E ρ1 δ1
def p0u{c:Expr}{a b:List Y1}{i:TT2}(m:PT2 X Y W c i)(ha:zl6 X Y W a t)(n:zl6 X Y W b u):PS2 X Y W (.If c a b pos) (z1f i t u):=ps2 (zT7 m.go ha.go n.go) λp r H zz=>by
 let ⟨F,o,δ,g,I,h,er⟩:=zz
 refine ⟨F,o,δ,g.xc,_,I,h,λb j v d e k l f=>?_,er.xc⟩;cases b with
 |true=>rw[H0 rfl]at f ⊢; exact ⟨j,d,e,g,k,f,er.mono l⟩
 |false=>rw[O0 k1j]at f ⊢; exact ⟨j,d,e,g,k,f,er.mono l⟩
variable{i:Nat}{x:Str}{pos' p:Pos}
def c0a(i:Nat)(te:TE2):TS2:=λE ρ δ=>te E.xc ρ δ λd ρ1 δ1=>E.nx (ρ1.set i (.val d)) δ1
def v7(i:Nat)(b:X.N.Nodup)(c:PE2 X Y W e te)(f:X.N[i]?=some x:=by rfl)(hx:Loc X.env.scope x:=by walk_at "v2")(hs:B2 e (some (.Name x pos')) pos.line X.env=pure false:=by rfl)
 (g:X.fn x=true\/X.env.scope.names.lookup x=some .local:=by walk_at "v1"):PS2 X Y W (.Assign [.Name x pos'] e pos) (c0a i te):=ps2 (b0b b f hx c.go hs g) λu w H zz=>by let ⟨F,j,δ,k,I,h,er⟩:=zz;exact 
 ⟨F,j,δ,k.xc,_,I,h,λd v l m n a o p r t=>er.nx _ l m _ a (o.put r) p t,er.xc⟩
theorem I2.own{K:Frag}{F H:Hp}{σ:St}{y:En}{δ:Dk}{i:Nat}{p:X0}{ds:List D}{vs:List V}(I:I2 K Y F H σ y δ)(h:H p=none)(r:zz5 K F ds vs):I2 K Y F (upd H p (.lst vs)) (σ.set i (some (.ref p))) (y.set i (.own ds)) δ:=by
 have Q:F p=none:=I.sub.free h;have h0:=I.ran.fresh h;have key:∀j a,y6 (y.set i (.own ds)) (σ.set i (some (.ref p))) j a->(j=i/\a=p)\/(j≠i/\y6 y σ j a):=λj a o=>by
  by_cases z:j=i
  .subst z;have:=o.2;rw[i1w]at this;by_cases B:j<σ.length
   .simp[B]at this;exact .inl ⟨rfl,this.symm⟩
   .simp[B]at this
  .let ⟨M,J⟩:=o;simp only[k1e (j1k z)]at M J;exact .inr ⟨z,M,J⟩
 have l:∀j a,y6 y σ j a->a≠p:=λj a o=>by
  rcases o.1 with ⟨ds,q⟩|⟨C,fs,q⟩|⟨m,q⟩|⟨m,q⟩
  .let ⟨b,g,e,t,_⟩:=I.env j _ q;rw[o.2]at e;cases e;exact i0 t h
  .let ⟨b,R,g,e,U,t,_⟩:=I.env j _ q;rw[o.2]at e;cases e;exact i0 t h
  .let ⟨b,g,e,t,_⟩:=I.env j _ q;rw[o.2]at e;cases e;exact i0 t h
  .let ⟨b,g,e,t,_⟩:=I.env j _ q;rw[o.2]at e;cases e;exact i0 t h
 refine ⟨⟨λb u e=>?_,λa N e=>?_,λb u e f=>?_,I.ran.f0,I.ran.zl5,I.ran.dto⟩,λj c e=>?_,by simp[I.len],λa b c n M J=>?_,λj a o=>?_⟩
 .rw[j0 (i0 e Q)];exact I.sub _ _ e
 .let ⟨q,g,L,W⟩:=I.ran.dk a N e;exact ⟨q,g,by rw[j0 (i0 L h)];exact L,W⟩
 .rw[j0 (i0 (I.ran.keep b u e f) h)];exact I.ran.keep b u e f
 .by_cases z:j=i
  .subst z;rw[i1w]at e;by_cases B:j<y.length
   .simp[B]at e;subst e;refine ⟨p,vs,?_,j3,Q,h0,r⟩;rw[i1w];simp[I.len▸B]
   .simp[B]at e
  .rw[k1e (j1k z)]at e ⊢;have w:=I.env j c e;cases c with
   |no=>trivial
   |val d=>exact w
   |own N=>
    let ⟨b,g,e1,k,f1,g1,v⟩:=w;exact ⟨b,g,e1,by rw[j0 (i0 k h)];exact k,f1,g1,v⟩
   |obj C fs=>
    let ⟨b,R,g,e1,P,k,S,f1,f2,g1,g2,v⟩:=w;exact ⟨b,R,g,e1,P,by rw[j0 (i0 k h)];exact k,by rw[j0 (i0 S h)];exact S,f1,f2,g1,g2,v⟩
   |zm3 m=>
    let ⟨b,g,e1,k,f1,g1,v⟩:=w;exact ⟨b,g,e1,by rw[j0 (i0 k h)];exact k,f1,g1,v⟩
   |zt9 m=>
    let ⟨b,g,e1,k,f1,g1,v⟩:=w;exact ⟨b,g,e1,by rw[j0 (i0 k h)];exact k,f1,g1,v⟩
 .rcases key a c M with ⟨z1,z2⟩|⟨z1,z2⟩
  .rcases key b c J with ⟨O,G⟩|⟨O,G⟩
   .exact n (z1.trans O.symm)
   .exact l b c G z2
  .rcases key b c J with ⟨O,G⟩|⟨O,G⟩
   .exact l a c z2 G
   .exact I.apart a b c n z2 G
 .rcases key j a o with ⟨z1,z2⟩|⟨z1,z2⟩
  .intro b N X w;let ⟨_,g,L,_⟩:=I.ran.dk b N X;rw[<-w,z2,h]at L;cases L
  .exact I.off j a z2
theorem I2.zt9{K:Frag}{F H:Hp}{σ:St}{ρ:En}{δ:Dk}{i:Nat}{p:X0}{ds:List (List Int×D)}{vs:List (List Key×V)×(X0->Prop)}(I:I2 K Y F H σ ρ δ)(h:H p=none)(r:zc5 K F ds vs):I2 K Y F (upd H p (.dT vs.1 vs.2)) (σ.set i (some (.ref p))) (ρ.set i (.zt9 ds)) δ:=by
 have hF:=I.sub.free h;have h0:=I.ran.fresh h;have key:∀j a,y6 (ρ.set i (.zt9 ds)) (σ.set i (some (.ref p))) j a->(j=i/\a=p)\/(j≠i/\y6 ρ σ j a):=fun j a o=>by
  by_cases z:j=i
  .subst z;have:=o.2
   grind
  .let ⟨o1,o2⟩:=o;simp only[k1e (j1k z)]at o1 o2;exact .inr ⟨z,o1,o2⟩
 have addr:∀j a,y6 ρ σ j a->a≠p:=fun j a o=>by
  rcases o.1 with ⟨ds,q⟩|⟨C,fs,q⟩|⟨kvs,q⟩|⟨kvs,q⟩
  .let ⟨b,us,e,hb,_⟩:=I.env j _ q;rw[o.2]at e
   grind
  .let ⟨b,dx,us,e,es0,hb,_⟩:=I.env j _ q;rw[o.2]at e
   (simp at *;lia)
  .let ⟨b,us,e,hb,_⟩:=I.env j _ q;rw[o.2]at e
   grind
  .let ⟨b,us,e,hb,_⟩:=I.env j _ q;rw[o.2]at e
   grind
 refine ⟨⟨fun b u e=>?_,fun a es e=>?_,fun b u e f=>?_,I.ran.f0,I.ran.zl5,I.ran.dto⟩,fun j c e=>?_,by simp[I.len],fun a b c n o1 o2=>?_,fun j a o=>?_⟩
 .rw[j0 (i0 e hF)];exact I.sub _ _ e
 .let ⟨q,us,q2,r2⟩:=I.ran.dk a es e;exact ⟨q,us,by rw[j0 (i0 q2 h)];exact q2,r2⟩
 .rw[j0 (i0 (I.ran.keep b u e f) h)];exact I.ran.keep b u e f
 .by_cases z:j=i
  .subst z;by_cases hl:j<ρ.length
   .simp[hl]at e;subst e;refine ⟨p,vs,?_,j3,hF,h0,r⟩;simp[I.len▸hl]
   .simp[hl]at e
  .rw[k1e (j1k z)]at e ⊢;have w:=I.env j c e;cases c with
   |no=>trivial
   |val d=>exact w
   |own es=>
    let ⟨b,us,e1,h1,f1,g1,r1⟩:=w;exact ⟨b,us,e1,by rw[j0 (i0 h1 h)];exact h1,f1,g1,r1⟩
   |obj C fs=>
    let ⟨b,dx,us,e1,es1,h1,h2,f1,f2,g1,g2,r1⟩:=w;exact ⟨b,dx,us,e1,es1,by rw[j0 (i0 h1 h)];exact h1,by rw[j0 (i0 h2 h)];exact h2,f1,f2,g1,g2,r1⟩
   |zm3 kvs=>
    let ⟨b,us,e1,h1,f1,g1,r1⟩:=w;exact ⟨b,us,e1,by rw[j0 (i0 h1 h)];exact h1,f1,g1,r1⟩
   |zt9 kvs=>
    let ⟨b,us,e1,h1,f1,g1,r1⟩:=w;exact ⟨b,us,e1,by rw[j0 (i0 h1 h)];exact h1,f1,g1,r1⟩
 .rcases key a c o1 with ⟨z1,z2⟩|⟨z1,z2⟩
  .grind
  .rcases key b c o2 with ⟨y1,y2⟩|⟨y1,y2⟩
   .solve_by_elim
   .exact I.apart a b c n z2 y2
 .rcases key j a o with ⟨z1,z2⟩|⟨z1,z2⟩
  .intro b es eb w;let ⟨_,us,q2,_⟩:=I.ran.dk b es eb
   grind
  .exact I.off j a z2
def u1g(i:Nat)(ta:TA2):TS2:=λE ρ δ=>ta E.xc ρ δ λds ρ1 δ1=>ds.length<=1000/\E.nx (ρ1.set i (.own ds)) δ1
def zN6(i:Nat){b:List Expr}{d:TA2}{a:Pos}(g:X.N.Nodup)(ha:PA2 X Y W b d)(j:X.N[i]?=some x:=by rfl)(hx:Loc X.env.scope x:=by walk_at "v2")(hs:B2 (.List b a) (some (.Name x pos')) pos.line X.env=pure false:=by rfl)
 (k:X.fn x=true\/X.env.scope.names.lookup x=some .local:=by walk_at "v1"):PS2 X Y W (.Assign [.Name x pos'] (.List b a) pos) (u1g i d):=ps2 (b0b g j hx (a0q ha.go) hs k) λu v H zz=>by let ⟨F,l,δ,m,I,h,er⟩:=zz;exact 
 ⟨F,l,δ,m.xc,_,I,h,λds w F1 y n c o r e f=>⟨h0g (by rw[e.length];exact f.1),λp t=>er.nx _ F1 _ _ c (o.own t e) r f.2⟩,er.xc⟩
def za6(ρ:En)(i:Nat):Bool:=match ρ[i]? with |some .no=>false |none=>false |_=>true
def o1e{K:Frag}{F H:Hp}{σ:St}{b:En}{δ:Dk}(I:I2 K Y F H σ b δ)(h:za6 b i=true):∃v,σ[i]?=some (some v):=by
 unfold za6 at h;split at h
 .cases h
 .cases h
 .rename_i o n1 n2;cases e:b[i]? with
  |none=>exact absurd e n2
  |some c=>
   have w:=I.env i c e;cases c with
   |no=>exact absurd e n1
   |val d=>let ⟨v,q,_⟩:=w;exact ⟨v,x4 q⟩
   |own ds=>let ⟨a,f,q,_⟩:=w;exact ⟨_,x4 q⟩
   |obj C fs=>let ⟨a,j,f,q,_⟩:=w;exact ⟨_,x4 q⟩
   |zm3 g=>let ⟨a,f,q,_⟩:=w;exact ⟨_,x4 q⟩
   |zt9 g=>let ⟨a,f,q,_⟩:=w;exact ⟨_,x4 q⟩
def za7(ρ:En)(δ:Dk)(i:Nat):Option (List D):=match ρ[i]? with
 |some (.own ds)=>some ds
 |some (.val (.ref a))=>(match δ with |some (b,ds)=>if a=b then some ds else none |none=>none)
 |some (.val d)=>zm4 d
 |_=>none
def zN7{K:Frag}{F H:Hp}{σ:St}{f:En}{δ:Dk}{ds:List D}(I:I2 K Y F H σ f δ)(h:za7 f δ i=some ds):∃a vs,σ[i]?=some (some (.ref a))/\(SqL K H a vs\/SqT K H a vs)/\zz5 K F ds vs:=by
 unfold za7 at h;split at h
 .rename_i g e;cases h;let ⟨a,vs,q,c,_,_,r⟩:=I.env i _ e;exact ⟨a,vs,x4 q,.inl (SqL.of c),r⟩
 .rename_i a e;split at h
  .rename_i b g;by_cases z:a=b
   .subst z;simp at h;subst h;let ⟨u,q,r⟩:=I.env i _ e;rw[zu9.mp r]at q;let ⟨_,vs,c,j⟩:=I.ran.dk a g rfl;exact ⟨a,vs,x4 q,.inl (SqL.of c),j⟩
   .simp[z]at h
  .cases h
 .rename_i d _ e;let ⟨u,q,r⟩:=I.env i _ e;let ⟨a,vs,rfl,sq,z⟩:=p0v I.sub h r
  grind
 .cases h
variable{a b:Expr}{ta tb:TE2}
def ixQ(o:Option (List D))(d:D):Option D:=match o,d with |some xs,.int j=>atI xs j |_,_=>none
def j0t(i:Nat)(tb:TE2):TE2:=λx ρ δ q=>za6 ρ i=true/\tb x ρ δ λd ρ1 δ1=>match ixQ (za7 ρ1 δ1 i) d with |some e=>q e ρ1 δ1 |none=>False
def z1d(i:Nat)(y:PE2 X Y W b tb)(B:X.N[i]?=some x:=by rfl)(C:Vis X.env.scope x:=by walk_at "v3")(hd:(x==("__debug__":Str))=false:=by decide)
 (f:(x==("__classdict__":Str))=false:=by decide) (hs:h0k b:=by exact λ_ _=>rfl):PE2 X Y W (.Subscript (.Name x p) b pos) (j0t i tb):=pe2 (a0m n0t (i8 B C hd f) y.go hs) λR H Q zz=>by
 let ⟨F,D,δ,x,q,I,h,k,G⟩:=zz
 let ⟨v,n⟩:=o1e I h.1;refine ⟨v,n,F,D,δ,x,_,I,h.2,λd w J L g l o M r m=>?_,G⟩;split at m
 .rename_i e c;unfold ixQ at c;split at c
  .rename_i S j O;let ⟨a,t,u,sq,z⟩:=zN7 o O;rw[n]at u;cases u;let ⟨v2,e2,P⟩:=z.atI c;have fin:=k e v2 J L g l o M P m;rcases sq with sq |sq
   .exact .inl ⟨a,t,j,v2,rfl,zz4.mp r,sq,e2,fin⟩
   .exact .inr (.inl ⟨a,t,j,v2,rfl,zz4.mp r,sq,e2,fin⟩)
  .cases c
 .exact m.elim
def j0s(i:Nat):TE2:=λx ρ δ q=>match za7 ρ δ i with |some xs=>q (.int (xs.length:Nat)) ρ δ |none=>False
def o1d(i:Nat){np:Pos}(hm:X.mg "len"=none)(f:Gl X "len":=by rfl)(g:X.N[i]?=some x:=by rfl)(j:Vis X.env.scope x:=by walk_at "v3")(hd:(x==("__debug__":Str))=false:=by decide)
 (c:(x==("__classdict__":Str))=false:=by decide) (b:R0 [.Name x p] X.env=[(false,eval (.Name x p) X.env)]:=by rfl) (d:(Q3 pos (R0 [] X.env)).any (·.1)=false:=by exact b8 rfl):
 PE2 X Y W (.Call (.Name "len" np) [.Name x p] [] pos) (j0s i):=pe2 (q0r x0s f hm z1r (n0d (i8 g j hd c) f0b b) (by decide) (by decide) b d) λo H Q zz=>by
 let ⟨F,l,δ,x,q,I,h,k,r⟩:=zz
 unfold j0s at h;split at h
 .rename_i t e;let ⟨a,m,n,sq,z⟩:=zN7 I e;exact ⟨_,n,a,m,rfl,sq,by rw[z.length];exact k _ _ F H l δ I (zz7.refl F) (zz4.mpr rfl) h⟩
 .exact h.elim
def zb9(ρ:En)(δ:Dk)(i:Nat):Option (List D×(List D->En×Dk)):=match ρ[i]? with
 |some (.own ds)=>some (ds,λes=>(ρ.set i (.own es),δ))
 |some (.val (.ref a))=>(match δ with |some (b,ds)=>if a=b then some (ds,λes=>(ρ,some (b,es)))else none |none=>none)
 |_=>none
def u1f{K:Frag}{F H:Hp}{σ:St}{L:En}{δ:Dk}{ds:List D}{put:List D->En×Dk}(I:I2 K Y F H σ L δ)(h:zb9 L δ i=some (ds,put)):
 ∃a vs,σ[i]?=some (some (.ref a))/\H a=some (.lst vs)/\zz5 K F ds vs/\∀m us,zz5 K F m us->I2 K Y F (upd H a (.lst us)) σ (put m).1 (put m).2:=by
 unfold zb9 at h;split at h
 .rename_i m e;cases h;let ⟨a,vs,q,p,M,h0,r⟩:=I.env i _ e;have hs:=x4 q;have ho:y6 L σ i a:=⟨.inl ⟨_,e⟩,hs⟩;refine ⟨a,vs,hs,p,r,λm us P=>?_⟩;have key:∀j b,y6 (L.set i (.own m)) σ j b->y6 L σ j b:=λj b o=>by
   by_cases z:j=i
   .subst z;exact ⟨ho.1,o.2⟩
   .let ⟨O,Q⟩:=o;simp only[k1e (j1k z)]at O;exact ⟨O,Q⟩
  refine ⟨⟨λb u e=>?_,λb fs e=>?_,λb u e f=>?_,I.ran.f0,I.ran.zl5,I.ran.dto⟩,λj c t=>?_,by simp[I.len],λx y b n O Q=>I.apart x y b n (key x b O) (key y b Q),λj b o=>I.off j b (key j b o)⟩
  .rw[j0 (i0 e M)];exact I.sub _ _ e
  .let ⟨S,ws,U,q3⟩:=I.ran.dk b fs e;exact ⟨S,ws,by rw[j0 (j1k (I.off i a ho b fs e))];exact U,q3⟩
  .rw[j0 (i0 e h0)];exact I.ran.keep b u e f
  .by_cases z:j=i
   .subst z;by_cases V:j<L.length
    .simp[V]at t;subst t;exact ⟨a,us,q,j3,M,h0,P⟩
    .simp_all
   .rw[k1e (j1k z)]at t;have w:=I.env j c t;cases c with
    |no=>trivial
    |val d=>exact w
    |own fs=>
     let ⟨b,ws,e1,g,f1,g1,l⟩:=w;have k:b≠a:=λw=>I.apart j i a z ⟨.inl ⟨fs,t⟩,by rw[<-w];exact x4 e1⟩ ho
     exact ⟨b,ws,e1,by rw[j0 k];exact g,f1,g1,l⟩
    |obj C fs=>
     let ⟨b,N,ws,e1,v,g,B,f1,f2,g1,g2,l⟩:=w;have k:b≠a:=λw=>by rw[w,p]at g;cases g
     have nd:N≠a:=λw=>by rw[w,p]at B;cases B
     exact ⟨b,N,ws,e1,v,by rw[j0 k];exact g,by rw[j0 nd];exact B,f1,f2,g1,g2,l⟩
    |zm3 G=>
     let ⟨b,ws,e1,g,f1,g1,l⟩:=w;have k:b≠a:=λw=>by rw[w,p]at g;cases g
     exact ⟨b,ws,e1,by rw[j0 k];exact g,f1,g1,l⟩
    |zt9 G=>
     let ⟨b,ws,e1,g,f1,g1,l⟩:=w;have k:b≠a:=λw=>by rw[w,p]at g;cases g
     exact ⟨b,ws,e1,by rw[j0 k];exact g,f1,g1,l⟩
 .rename_i a e;split at h
  .rename_i b m;by_cases z:a=b
   .subst z;simp at h;let ⟨rfl,rfl⟩:=h;let ⟨u,q,r⟩:=I.env i _ e;rw[zu9.mp r]at q;let ⟨M,vs,p,W⟩:=I.ran.dk a m rfl;refine ⟨a,vs,x4 q,p,W,λfs us P=>?_⟩;refine ⟨⟨λb u e=>?_,λb J e=>?_,λb u X fb=>?_,I.ran.f0,I.ran.zl5,⟨λb J e=>?_,λb J e n=>?_⟩⟩,λj c t=>?_,I.len,I.apart,λj b o c J e=>?_⟩
    .rw[j0 (i0 e M)];exact I.sub _ _ e
    .cases e;exact ⟨M,us,j3,P⟩
    .have k:b≠a:=by
      intro w;subst w;cases hd:Y.zv8 with
      |none=>
       have:=I.ran.dto.2 b m rfl hd
       grind
      |some Z=>
       let ⟨c,J⟩:=Z;let ⟨R,w2⟩:=I.ran.dto.1 c J hd;cases w2;exact fb b J hd rfl
     rw[j0 k];exact I.ran.keep b u X fb
    .let ⟨R,w⟩:=I.ran.dto.1 b J e
     simp_all
    .cases e;exact I.ran.dto.2 a m rfl n
    .have w:=I.env j c t;cases c with
     |no=>trivial
     |val d=>exact w
     |own fs=>
      let ⟨b,ws,e1,g,f1,g1,l⟩:=w;have k:=I.off j b ⟨.inl ⟨fs,t⟩,x4 e1⟩ a m rfl;exact ⟨b,ws,e1,by rw[j0 k];exact g,f1,g1,l⟩
     |obj C fs=>
      let ⟨b,N,ws,e1,v,g,B,f1,f2,g1,g2,l⟩:=w;have k:b≠a:=λw=>by rw[w,p]at g;cases g
      have nd:N≠a:=λw=>by rw[w,p]at B;cases B
      exact ⟨b,N,ws,e1,v,by rw[j0 k];exact g,by rw[j0 nd];exact B,f1,f2,g1,g2,l⟩
     |zm3 G=>
      let ⟨b,ws,e1,g,f1,g1,l⟩:=w;have k:b≠a:=λw=>by rw[w,p]at g;cases g
      exact ⟨b,ws,e1,by rw[j0 k];exact g,f1,g1,l⟩
     |zt9 G=>
      let ⟨b,ws,e1,g,f1,g1,l⟩:=w;have k:b≠a:=λw=>by rw[w,p]at g;cases g
      exact ⟨b,ws,e1,by rw[j0 k];exact g,f1,g1,l⟩
    .cases e;exact I.off j b o a m rfl
   .simp[z]at h
  .cases h
 .cases h
def I2.mutT{K:Frag}{F H:Hp}{σ:St}{k:En}{δ:Dk}{ds:List (List Int×D)}(I:I2 K Y F H σ k δ)(e:k[i]?=some (.zt9 ds)):
 ∃a,∃vs:List (List Key×V)×(X0->Prop),σ[i]?=some (some (.ref a))/\H a=some (.dT vs.1 vs.2)/\zc5 K F ds vs/\∀B,∀us:List (List Key×V)×(X0->Prop),zc5 K F B us->I2 K Y F (upd H a (.dT us.1 us.2)) σ (k.set i (.zt9 B)) δ:=by
 let ⟨a,vs,q,p,N,h0,r⟩:=I.env i _ e;have hs:=x4 q;have ho:y6 k σ i a:=⟨.inr (.inr (.inr ⟨_,e⟩)),hs⟩;refine ⟨a,vs,hs,p,r,λB us P=>?_⟩;have key:∀j b,y6 (k.set i (.zt9 B)) σ j b->y6 k σ j b:=λj b o=>by
  by_cases z:j=i
  .subst z;exact ⟨ho.1,o.2⟩
  .let ⟨G,J⟩:=o;simp only[k1e (j1k z)]at G;exact ⟨G,J⟩
 refine ⟨⟨λb u e=>?_,λb fs e=>?_,λb u e f=>?_,I.ran.f0,I.ran.zl5,I.ran.dto⟩,λj c t=>?_,by simp[I.len],λx y b n G J=>I.apart x y b n (key x b G) (key y b J),λj b o=>I.off j b (key j b o)⟩
 .rw[j0 (i0 e N)];exact I.sub _ _ e
 .let ⟨Q,ws,R,q3⟩:=I.ran.dk b fs e;exact ⟨Q,ws,by rw[j0 (j1k (I.off i a ho b fs e))];exact R,q3⟩
 .rw[j0 (i0 e h0)];exact I.ran.keep b u e f
 .by_cases z:j=i
  .subst z;by_cases S:j<k.length
   .simp[S]at t;subst t;exact ⟨a,us,q,j3,N,h0,P⟩
   .simp_all
  .rw[k1e (j1k z)]at t;have w:=I.env j c t;cases c with
   |no=>trivial
   |val d=>exact w
   |own fs=>
    let ⟨b,ws,e1,g,f1,g1,l⟩:=w;have m:b≠a:=λw=>by rw[w,p]at g;cases g
    exact ⟨b,ws,e1,by rw[j0 m];exact g,f1,g1,l⟩
   |obj C fs=>
    let ⟨b,O,ws,e1,L,g,M,f1,f2,g1,g2,l⟩:=w;have m:b≠a:=λw=>by rw[w,p]at g;cases g
    have nd:O≠a:=λw=>by rw[w,p]at M;cases M
    exact ⟨b,O,ws,e1,L,by rw[j0 m];exact g,by rw[j0 nd];exact M,f1,f2,g1,g2,l⟩
   |zm3 v=>
    let ⟨b,ws,e1,g,f1,g1,l⟩:=w;have m:b≠a:=λw=>by rw[w,p]at g;cases g
    exact ⟨b,ws,e1,by rw[j0 m];exact g,f1,g1,l⟩
   |zt9 v=>
    let ⟨b,ws,e1,g,f1,g1,l⟩:=w;have m:b≠a:=λw=>I.apart j i a z ⟨.inr (.inr (.inr ⟨v,t⟩)),by rw[<-w];exact x4 e1⟩ ho
    exact ⟨b,ws,e1,by rw[j0 m];exact g,f1,g1,l⟩
def e0f(i:Nat)(tj te:TE2):TS2:=λE ρ δ=>te E.xc ρ δ λd ρ1 δ1=>za6 ρ1 i=true/\tj E.xc ρ1 δ1 λdj ρ2 δ2=>match zb9 ρ2 δ2 i,dj with
 |some (ds,put),.int j=>(match ixN ds.length j with |some m=>E.nx (put (ds.set m d)).1 (put (ds.set m d)).2 |none=>False)
 |_,_=>False
def z1c(i:Nat){j:Expr}{t:TE2}{b:Pos}(J:PE2 X Y W j t)(L:PE2 X Y W e te)(M:X.N[i]?=some x:=by rfl)(O:Vis X.env.scope x:=by walk_at "v3")(hd:(x==("__debug__":Str))=false:=by decide)
 (g:(x==("__classdict__":Str))=false:=by decide)
 (ha:∀v,assign (.Subscript (.Name x p) j b) X.env v=(do
  let f<-holding [v] (eval (.Name x p) X.env)
  let k<-holding [v,f] (eval j X.env)
  standAt b
  holding [v,f,k] (setItem f k v)
  release [v,f,k] []):=by intro _;rfl)
 (hs:swapsWithSole [.Subscript (.Name x p) j b] e pos.line X.env=pure false:=by rfl) (P:swappedStores [.Subscript (.Name x p) j b] e X.env=pure none:=by rfl)
 (h1:(K4 [.Subscript (.Name x p) j b] X.env).map (·.2)=[assign (.Subscript (.Name x p) j b) X.env]:=by rfl):
 PS2 X Y W (.Assign [.Subscript (.Name x p) j b] e pos) (e0f i t te):=ps2 (r1r L.go (r1s (i8 M O hd g) J.go e0y ha) hs P h1) λE1 Q H zz=>by
 let ⟨F,R,δ,u,I,h,er⟩:=zz
 refine ⟨F,R,δ,u.xc,_,I,h,λd v F1 H1 l n y B S h1=>?_,er.xc⟩;let ⟨o,C⟩:=o1e y h1.1;refine ⟨o,C,F1,l,n,u.xc,_,y,h1.2,λdj w F2 H2 U V r D Z c=>?_,er.xc.mono B⟩;split at c
 .rename_i ds put j em;split at c
  .rename_i m hm;let ⟨a,vs,G,hh,z,up⟩:=u1f r em;rw[C]at G;cases G;refine ⟨a,vs,j,m,rfl,zz4.mp Z,hh,by rw[z.length];exact hm,er.nx Q F2 _ _ _ (up _ _ (z.set (S.mono D) m)) (B.trans D) c⟩
  .exact c.elim
 .exact c.elim
abbrev FM:=List D->List D->(D->List D->Prop)->Prop
def MtD(K:Frag)(r:V->List V->Hp->VK->Prop)(m:FM):Prop:=∀(F H:Hp) (a:X0) (vs us:List V) (ds es:List D) (Q:VK) (q:D->List D->Prop),H a=some (.lst vs)->zz5 K F ds vs->zz5 K F es us->m ds es q->
 (∀d v ds' vs',Rep K F d v->zz5 K F ds' vs'->q d ds'->Q v (upd H a (.lst vs')))->r (.ref a) us H Q
def t2MV(i:Nat)(m:FM)(ta:TA2):TE2:=λx ρ δ q=>(zb9 ρ δ i).isSome=true/\ta x ρ δ λes ρ1 δ1=>match zb9 ρ1 δ1 i with
 |some (ds,put)=>m ds es λd ds'=>q d (put ds').1 (put ds').2
 |none=>False
def z53(i:Nat){name:Str}{id:String}{r:V->List V->Hp->VK->Prop}{m:FM}{c:List Expr}{t:TA2}{apos b:Pos}(slot:Slot "list" name id)(o:typeOf (.builtin id)=pure (.type "method_descriptor"))(hm:MtM X id r)(u:MtD X.K r m)(w:PA2 X Y W (e::c) t)
 (M:X.N[i]?=some x:=by rfl) (O:Vis X.env.scope x:=by walk_at "v3") (hd:(x==("__debug__":Str))=false:=by decide) (y:(x==("__classdict__":Str))=false:=by decide)
 (g:U1 (.Name x p) name X.env (eval (.Name x p) X.env)=eval (.Name x p) X.env:=by rfl)
 (l:((Q3 b (R0 (e::c) X.env)).all (λx=>!x.1)&&(backToKw b (keywordEach [] X.env)).all (λx=>x.1.isSome)
  &&decide ((e::c).length+([]:List Keyword).length+(if ([]:List Keyword).isEmpty then 0 else 1)<30))=true:=by rfl)
 (j:(apos.endLine==b.line)=true:=by rfl) (hs:R0 (e::c) X.env=(false,eval e X.env)::R0 c X.env:=by exact i6 rfl) (f:(Q3 b (R0 c X.env)).any (·.1)=false:=by exact b8 rfl):
 PE2 X Y W (.Call (.Attribute (.Name x p) name apos) (e::c) [] b) (t2MV i m t):=pe2 (z12 d1m slot o hm (i8 M O hd y) w.go g l j hs f) λσ H Q zz=>by
 let ⟨F,P,δ,x,q,I,h,k,R⟩:=zz
 let ⟨h0,h⟩:=h;let ⟨⟨S,J⟩,e0⟩:=f1q.mp h0;let ⟨a,U,L,Z,z,up⟩:=u1f I e0;refine ⟨_,L,.inl ⟨rfl,U,SqL.of Z⟩,F,P,δ,x,_,I,h,λc us F1 H1 aa ab I1 s1 r1 B=>?_,R⟩;split at B
 .rename_i ds put em;let ⟨a',C,n,D,z',G⟩:=u1f I1 em;rw[L]at n;cases n;exact u F1 H1 a C us ds c _ _ D z' r1 B λd v ac ws r2 r3 q'=>k d v F1 _ _ _ (G _ _ r3) s1 r2 q'
 .exact B.elim
def z1b(i:Nat)(m:FM):TE2:=λx ρ δ q=>match zb9 ρ δ i with
 |some (ds,put)=>m ds [] λd ds'=>q d (put ds').1 (put ds').2
 |none=>False
def zN8(i:Nat){name:Str}{id:String}{r:V->List V->Hp->VK->Prop}{m:FM}{apos b:Pos}(slot:Slot "list" name id)(f:typeOf (.builtin id)=pure (.type "method_descriptor"))(hm:MtM X id r)(g:MtD X.K r m)
 (o:X.N[i]?=some x:=by rfl) (t:Vis X.env.scope x:=by walk_at "v3") (hd:(x==("__debug__":Str))=false:=by decide) (j:(x==("__classdict__":Str))=false:=by decide)
 (c:U1 (.Name x p) name X.env (eval (.Name x p) X.env)=eval (.Name x p) X.env:=by rfl) (e:(apos.endLine==b.line)=true:=by rfl):
 PE2 X Y W (.Call (.Attribute (.Name x p) name apos) [] [] b) (z1b i m):=pe2 (zR7 d1m slot f hm (i8 o t hd j) c e) λG H Q zz=>by
 let ⟨F,J,δ,x,q,I,h,k,L⟩:=zz
 unfold z1b at h;split at h
 .rename_i ds put u;let ⟨a,l,w,n,z,up⟩:=u1f I u;exact ⟨_,w,.inl ⟨rfl,l,SqL.of n⟩,g F H a l [] ds [] _ _ n z zz5.nil h λd v y ws B C D=>k d v F _ _ _ (up _ _ C) (zz7.refl F) B D⟩
 .exact h.elim
def p0t:FM:=λds es q=>match es with | [e]=>ds.length<1000/\q .non (ds++[e])|_=>False
def u1e{K:Frag}:MtD K a0j p0t:=by
 intro F H a b e ds f Q q c z r h k;unfold p0t at h;split at h
 .let ⟨v,rfl,d⟩:=z0g r;exact ⟨a,b,v,rfl,rfl,c,k1f (by rw[z.length];exact h.1) (show 1000<=PySem.sizeLine by decide),k _ _ _ _ (zx1.mpr rfl) (z.append (zz5.cons d zz5.nil)) h.2⟩
 .exact h.elim
def h0e(K:Frag)(f:Str)(ta:TE2):TE2:=λx ρ δ q=>ta x ρ δ λd ρ1 δ1=>match d with
 | .ins C fs=>(Cls K C/\zy9 K C f)/\(match fs.lookup f with |some e=>q e ρ1 δ1 |none=>False)
 |_=>False
theorem zv7.look{K:Frag}{F:Hp}{f:Str}:∀{fs:List (Str×D)} {us:List (Str×V)} {d:D},zv7 K F fs us->fs.lookup f=some d->∃v,us.lookup f=some v/\Rep K F d v
 | [],us,d,r,e=>by cases e
 |(g,c)::fs,us,d,r,e=>by
  let ⟨v,l,rfl,b,a⟩:=r;rw[a1y]at e ⊢;split at e
  .simp_all
  .exact zv7.look a e
def zN9{f:Str}(ha:PE2 X Y W a ta)(l:U1 a f X.env (eval a X.env)=eval a X.env:=by rfl):PE2 X Y W (.Attribute a f pos) (h0e X.K f ta):=pe2 (zS9 ha.go l) λJ H Q zz=>by
 let ⟨F,m,δ,x,q,I,h,k,o⟩:=zz
 refine ⟨F,m,δ,x,_,I,h,λd v p r g i j t u b=>?_,o⟩;cases d with
 |ins C fs=>
  let ⟨⟨c,n⟩,b⟩:=b;let ⟨a,w,y,rfl,e1,e2,z⟩:=zl3.mp u;split at b
  .rename_i e B;let ⟨v,D,G⟩:=z.look B;exact ⟨a,C,w,y,v,rfl,j.sub _ _ e1,c,n,D,k e v p r g i j t G b⟩
  .exact b.elim
 |_=>exact b.elim
def j0r(K:Frag)(f:Str)(ta:TE2):TE2:=λx ρ δ q=>ta x ρ δ λd ρ1 δ1=>match d with
 | .exc C fs=>(XC K C/\zy9 K C f)/\(match fs.lookup f with |some e=>q e ρ1 δ1 |none=>False)
 |_=>False
def o1c{f:Str}(ha:PE2 X Y W a ta)(o:U1 a f X.env (eval a X.env)=eval a X.env:=by rfl):PE2 X Y W (.Attribute a f pos) (j0r X.K f ta):=pe2 (o1v ha.go o) λL H Q zz=>by
 let ⟨F,p,δ,x,q,I,h,k,r⟩:=zz
 refine ⟨F,p,δ,x,_,I,h,λd v t u i j l w y b=>?_,r⟩;cases d with
 |exc C fs=>
  let ⟨⟨c,n⟩,b⟩:=b;let ⟨a,fr,rfl,z⟩:=zl4.mp y;split at b
  .rename_i e m;rcases z with ⟨g,_⟩|⟨d,B,e1,e2,D⟩
   .rw[g]at m;cases m
   .let ⟨v,G,J⟩:=D.look m;exact ⟨fr,a,C,d,B,v,rfl,l.sub _ _ e1,l.sub _ _ e2,c,n,G,k e v t u i j l w J b⟩
  .exact b.elim
 |_=>exact b.elim
def m0v(f:Str)(v:D):List (Str×D)->List (Str×D)
 | []=>[(f,v)]
 |(g,u)::r=>if g=f then (g,v)::r else (g,u)::m0v f v r
theorem zv7.put{K:Frag}{F:Hp}{f:Str}{d:D}{v:V}(q:Rep K F d v):∀{fs:List (Str×D)} {us:List (Str×V)},zv7 K F fs us->zv7 K F (m0v f d fs) (zk5 f v us)
 | [],us,r=>by
  subst r;exact ⟨v,[],rfl,q,by unfold zv7;rfl⟩
 |(g,c)::fs,us,r=>by
  let ⟨w,l,rfl,a,b⟩:=r;unfold m0v zk5;by_cases z:g=f
  .rw[H0 z,H0 z];unfold zv7
   grind
  .rw[O0 z,O0 z];exact ⟨w,_,rfl,a,zv7.put q b⟩
theorem zv7.length{K:Frag}{F:Hp}:∀{fs:List (Str×D)} {us:List (Str×V)},zv7 K F fs us->us.length=fs.length
 | [],us,r=>by unfold zv7 at r;subst r;rfl
 |(g,c)::fs,us,r=>by
  let ⟨w,l,rfl,b,a⟩:=r;rw[k1k,k1k,zv7.length a]
def j0q(K:Frag)(i:Nat)(f:Str)(te:TE2):TS2:=λE ρ δ=>te E.xc ρ δ λd ρ1 δ1=>match ρ1[i]? with
 |some (.obj C fs)=>(Cls K C/\zy9 K C f)/\fs.length<1000/\E.nx (ρ1.set i (.obj C (m0v f d fs))) δ1
 |_=>False
def I2.self{K:Frag}{F H:Hp}{σ:St}{l:En}{δ:Dk}{C:X0}{fs:List (Str×D)}(I:I2 K Y F H σ l δ)(e:l[i]?=some (.obj C fs)):
 ∃a m us,σ[i]?=some (some (.ref a))/\H a=some (.ins C m us)/\zv7 K F fs us/\∀G ws,zv7 K F G ws->I2 K Y F (upd H a (.ins C m ws)) σ (l.set i (.obj C G)) δ:=by
 let ⟨a,m,us,q,L,v,hd,R,M,h0,N,r⟩:=I.env i _ e;have hs:=x4 q;have ho:y6 l σ i a:=⟨.inr (.inl ⟨_,_,e⟩),hs⟩;refine ⟨a,m,us,hs,v,r,λG ws S=>?_⟩;have O:m≠a:=λw=>by rw[w,v]at hd;cases hd
 have key:∀j b,y6 (l.set i (.obj C G)) σ j b->y6 l σ j b:=λj b o=>by
  by_cases z:j=i
  .subst z;exact ⟨ho.1,o.2⟩
  .let ⟨J,P⟩:=o;simp only[k1e (j1k z)]at J;exact ⟨J,P⟩
 refine ⟨⟨λb u e=>?_,λb fs e=>?_,λb u e f=>?_,I.ran.f0,I.ran.zl5,I.ran.dto⟩,λj c B=>?_,by simp[I.len],λx y b n J P=>I.apart x y b n (key x b J) (key y b P),λj b o=>I.off j b (key j b o)⟩
 .rw[j0 (i0 e R)];exact I.sub _ _ e
 .let ⟨U,k,V,q3⟩:=I.ran.dk b fs e;exact ⟨U,k,by rw[j0 (j1k (I.off i a ho b fs e))];exact V,q3⟩
 .rw[j0 (i0 e h0)];exact I.ran.keep b u e f
 .by_cases z:j=i
  .subst z;by_cases W:j<l.length
   .simp[W]at B;subst B;exact ⟨a,m,ws,q,L,j3,by rw[j0 O];exact hd,R,M,h0,N,S⟩
   .simp_all
  .rw[k1e (j1k z)]at B;have w:=I.env j c B;cases c with
   |no=>trivial
   |val d=>exact w
   |own fs=>
    let ⟨b,k,e1,g,f1,g1,p⟩:=w;have t:b≠a:=λw=>by rw[w,v]at g;cases g
    exact ⟨b,k,e1,by rw[j0 t];exact g,f1,g1,p⟩
   |obj Z fs=>
    let ⟨b,dy,k,e1,X,g,h2,f1,f2,g1,g2,p⟩:=w;have t:b≠a:=λw=>I.apart j i a z ⟨.inr (.inl ⟨_,_,B⟩),by rw[<-w];exact x4 e1⟩ ho
    simp_all
   |zm3 Q=>
    let ⟨b,k,e1,g,f1,g1,p⟩:=w;have t:b≠a:=λw=>by rw[w,v]at g;cases g
    exact ⟨b,k,e1,by rw[j0 t];exact g,f1,g1,p⟩
   |zt9 Q=>
    let ⟨b,k,e1,g,f1,g1,p⟩:=w;have t:b≠a:=λw=>by rw[w,v]at g;cases g
    exact ⟨b,k,e1,by rw[j0 t];exact g,f1,g1,p⟩
def o1b(i:Nat){f:Str}{b:Pos}(m:PE2 X Y W e te)(o:X.N[i]?=some x:=by rfl)(r:Vis X.env.scope x:=by walk_at "v3")(hd:(x==("__debug__":Str))=false:=by decide)(j:(x==("__classdict__":Str))=false:=by decide)
 (hs:B2 e (some (.Attribute (.Name x p) f b)) pos.line X.env=pure false:=by rfl):PS2 X Y W (.Assign [.Attribute (.Name x p) f b] e pos) (j0q X.K i f te):=ps2 (zR0 (i8 o r hd j) m.go hs) λQ t H zz=>by
 let ⟨F,u,δ,w,I,h,er⟩:=zz
 refine ⟨F,u,δ,w.xc,_,I,h,λd v F1 R y k z B D g=>?_,er.xc⟩;split at g
 .rename_i C fs G;let ⟨⟨c,n⟩,J,g⟩:=g;let ⟨a,L,M,O,P,l,up⟩:=z.self G;exact ⟨_,O,a,C,L,M,rfl,P,c,n,by rw[l.length];exact J,er.nx t F1 _ _ k (up _ _ (l.put D)) B g⟩
 .exact g.elim
end
open W (XC)
open PyProof.Rows (envOfC)
abbrev Sp2:=List D->Dk->(D->Dk->Prop)->(X0->List (Str×D)->Dk->Prop)->Prop
def upF(K:Frag)(sp:Sp2):Sp:=λvs H Q E=>∃F ds δ q x,zz7 F H/\zX7 K F H δ/\zz5 K F ds vs/\sp ds δ q x/\
 (∀d v F' H' δ',Ran K F H δ F' H' δ'->Rep K F' d v->q d δ'->Q v H')/\∀C od fs F' H' δ',Ran K F H δ F' H' δ'->zV9 K F' od fs->x C fs δ'->E (.ref C) od H'
abbrev Fun2(P:V0)(w:T0)(K:Frag)(mg:Str->Option Z0)(base:J0)(x:Str)(k:Nat)(ps:List Str)(sp:Sp2):Prop:=FnAt P w K mg base (CX1 P w) x k ps (upF K sp)
section
variable{K:Frag}{Y:Y2}{F H F' H':Hp}{σ:St}{ρ:En}{δ δ':Dk}
theorem Ran.trans{zf7 zz6:Hp}{zv8:Dk}(R:Ran K zf7 zz6 zv8 F H δ)(S:Ran K F H δ F' H' δ'):Ran K zf7 zz6 zv8 F' H' δ':=by
 have d:∀b o,zz6 b=some o->Off zv8 b->Off δ b:=λb o e f a ds q w=>by
  subst w;cases hd:zv8 with
  |none=>have:=R.dto.2 b ds q hd;rw[e]at this;cases this
  |some p=>
   let ⟨c,g⟩:=p;let ⟨i,z⟩:=R.dto.1 c g hd;rw[q]at z;cases z;exact f b g hd rfl
 have fr:∀p,H p=none->zz6 p=none:=λp h=>(Ran.fresh (Y:=⟨zf7,zz6,zv8,none⟩) R h)
 refine ⟨S.sub,S.dk,λb o e f=>S.keep b o (R.keep b o e f) (d b o e f),R.f0.trans S.f0,λb o e=>?_,⟨λa ds e=>?_,λa ds e n=>?_⟩⟩
 .rcases S.zl5 b o e with z |z
  .exact R.zl5 b o z
  .simp_all
 .let ⟨i,z⟩:=R.dto.1 a ds e;exact S.dto.1 a i z
 .cases hd:δ with
  |none=>exact fr a (S.dto.2 a ds e hd)
  |some p=>
   let ⟨c,g⟩:=p;let ⟨i,z⟩:=S.dto.1 c g hd;rw[e]at z;cases z;exact R.dto.2 a g hd n
def I2.call(I:I2 K Y F H σ ρ δ)(S:Ran K F H δ F' H' δ'):I2 K Y F' H' σ ρ δ':=by
 have g:∀a o,H a=some o->F a=none->F' a=none:=λa o h f=>by
  cases q:F' a with
  |none=>rfl
  |some u=>
   rcases S.zl5 a u q with z |z
   .grind
   .grind
 have n:∀j a,y6 ρ σ j a->∃o,H a=some o:=λj a o=>by
  rcases o.1 with ⟨ds,q⟩|⟨C,fs,q⟩|⟨y,q⟩|⟨y,q⟩
  .let ⟨b,t,e,B,_⟩:=I.env j _ q;rw[o.2]at e
   grind
  .let ⟨b,v,t,e,L,B,_⟩:=I.env j _ q;rw[o.2]at e
   simp_all
  .let ⟨b,t,e,B,_⟩:=I.env j _ q;rw[o.2]at e
   grind
  .let ⟨b,t,e,B,_⟩:=I.env j _ q;rw[o.2]at e
   grind
 refine ⟨I.ran.trans S,λi c e=>?_,I.len,I.apart,λj a o b ds e w=>?_⟩
 .have w:=I.env i c e;cases c with
  |no=>trivial
  |val d=>let ⟨u,e1,r⟩:=w;exact ⟨u,e1,r.mono S.f0⟩
  |own ds=>
   let ⟨a,m,e1,k,f1,g1,l⟩:=w;have of:=I.off i a ⟨.inl ⟨ds,e⟩,x4 e1⟩;exact ⟨a,m,e1,S.keep a _ k of,g a _ k f1,g1,l.mono S.f0⟩
  |obj C fs=>
   let ⟨a,v,t,e1,D,k,G,f1,f2,g1,g2,l⟩:=w;have of:=I.off i a ⟨.inr (.inl ⟨C,fs,e⟩),x4 e1⟩;have M:Off δ v:=λb ds q w=>by
    let ⟨_,m,O,_⟩:=I.ran.dk b ds q
    simp_all
   exact ⟨a,v,t,e1,D,S.keep a _ k of,S.keep v _ G M,g a _ k f1,g v _ G f2,g1,g2,l.mono S.f0⟩
  |zm3 ds=>
   let ⟨a,m,e1,k,f1,g1,l⟩:=w;have of:=I.off i a ⟨.inr (.inr (.inl ⟨ds,e⟩)),x4 e1⟩;exact ⟨a,m,e1,S.keep a _ k of,g a _ k f1,g1,l.mono S.f0⟩
  |zt9 ds=>
   let ⟨a,m,e1,k,f1,g1,l⟩:=w;have of:=I.off i a ⟨.inr (.inr (.inr ⟨ds,e⟩)),x4 e1⟩;exact ⟨a,m,e1,S.keep a _ k of,g a _ k f1,g1,l.mono S.f0⟩
 .subst w;let ⟨u,N⟩:=n j a o;cases hd:δ with
  |none=>have:=S.dto.2 a ds e hd;rw[N]at this;cases this
  |some p=>
   let ⟨c,J⟩:=p;let ⟨P,z⟩:=S.dto.1 c J hd;rw[e]at z;cases z;exact I.off j a o a J hd rfl
theorem Ran.refl(s:zz7 F H)(d:zX7 K F H δ):Ran K F H δ F H δ:=⟨s,d,λ_ _ e _=>e,zz7.refl F,λ_ _ e=>.inl e,λa ds e=>⟨ds,e⟩,λa ds e n=>by rw[n]at e;cases e⟩
end
section
variable{X:Cx}{Y:Y2}{W:XW}{x:Str}{p pos:Pos}{e:Expr}{es:List Expr}{t:TA2}{k:Nat}{ps:List Str}{sp:Sp2}
def r0l(sp:Sp2)(t:TA2):TE2:=λx ρ δ q=>t x ρ δ λds ρ1 δ1=>sp ds δ1 (λd δ2=>q d ρ1 δ2) λC fs δ2=>x C fs ρ1 δ2
def o1a{σ:St}{H:Hp}{Q:VK}(h:upE X.K Y W (r0l sp t) σ H Q):z1v (upF X.K sp) W (upA X.K Y W t) σ H Q:=by
 let ⟨F,n,δ,x,q,I,h,k,l⟩:=h;refine ⟨F,n,δ,x,_,I,h,λds u F1 w b e c m o p=>⟨F1,ds,e,_,_,c.sub,c.ran.dk,o,p,λd v f g a R i j=>?_,λC r fs f g a R i j=>?_⟩,l⟩
 .exact k d v f g b a (c.call R) (m.trans R.f0) i j
 .exact ⟨C,rfl,l C r fs σ f g b a (c.call R) (m.trans R.f0) i j⟩
def l4(G:Fun2 X.prog X.w X.K X.mg X.base x k ps sp)(hr:zu7 k X.A)(c:v0d X W)(ha:PA2 X Y W (e::es) t)(d:Gl X x:=by rfl)(a:(x==("__debug__":Str))=false:=by decide)
 (f:R0 (e::es) X.env=(false,eval e X.env)::R0 es X.env:=by exact i6 rfl) (b:(Q3 pos (R0 es X.env)).any (·.1)=false:=by exact b8 rfl):PE2 X Y W (.Call (.Name x p) (e::es) [] pos) (r0l sp t):=pe2 (z29 G hr c ha.go d a f b) λg H Q h=>o1a h
def e0e:v0d X (λ_ _ _ _=>False):=λa e s zz=>by let ⟨_,_,_,_,_,_,_,_,_,_,_,q⟩:=zz;exact q.elim
end
def o4(N:List Str)(ds:List D):En:=ds.map .val++List.replicate (N.length-ds.length) .no
theorem v0c{K:Frag}{F H zz6:Hp}{sf:Option X0}:∀{ds:List D} {vs:List V},zz5 K F ds vs->∀(n i:Nat) (c:Cell),(ds.map Cell.val++List.replicate n Cell.no)[i]?=some c->zo7 K F H zz6 sf c ((vs.map some++List.replicate n none:St)[i]?).join
 | [],vs,r,n,i,c,e=>by
  rw[j1r,i1x,List.getElem?_replicate]at e;split at e
  .cases e;trivial
  .cases e
 |d::ds,vs,r,n,0,c,e=>by
  let ⟨v,l,rfl,a,b⟩:=zz1.mp r;cases e;exact ⟨v,rfl,a⟩
 |d::ds,vs,r,n,i+1,c,e=>by
  let ⟨v,l,rfl,a,b⟩:=zz1.mp r;exact v0c b n i c e
def f8{ds:List D}{n i:Nat}{c:Cell}(e:(ds.map Cell.val++List.replicate n Cell.no)[i]?=some c):(∃d,c=.val d)\/c=.no:=by grind
theorem I2.start{K:Frag}{F H:Hp}{δ:Dk}{ds:List D}{vs:List V}{N:List Str}(s:zz7 F H)(dk:zX7 K F H δ)(r:zz5 K F ds vs):I2 K ⟨F,H,δ,none⟩ F H (L2.start N vs) (o4 N ds) δ:=by
 have no:∀i a,¬y6 (o4 N ds) (L2.start N vs) i a:=λi a o=>by
  rcases o.1 with ⟨f,q⟩|⟨C,fs,q⟩|⟨b,q⟩|⟨b,q⟩
  .rcases f8 q with ⟨d,z⟩|z<;>cases z
  .rcases f8 q with ⟨d,z⟩|z<;>cases z
  .rcases f8 q with ⟨d,z⟩|z<;>cases z
  .rcases f8 q with ⟨d,z⟩|z<;>cases z
 refine ⟨Ran.refl s dk,λi c e=>?_,?_,λi j a _ o _=>no i a o,λi a o=>absurd o (no i a)⟩
 .unfold L2.start;rw[r.length];exact v0c r _ i c e
 .unfold L2.start o4;simp[r.length]
section
variable{P:V0}{w:T0}{K:Frag}{mg:Str->Option Z0}{base:J0}
def z55{x:Str}{st:Y1}{f:X0}{o:l3}{N ps:List Str}{k:Nat}{sp:Sp2}(D:zy4 K mg x st ps f o)(S:zz2 N ps (zz0 st))(len:∀ds δ q x,sp ds δ q x->ds.length=ps.length)
 (b:∀(cdv:Z0) (A:A0) (outer:List Env) (s:Y0) (H:Hp) (E:XK) (Y:Y2),zu7 k (A.deeper (T5 x (zz0 st) s.heap.objs.size f cdv))->
  ∃t,zl6 (cxX P w K mg base N x (zz0 st) f cdv A outer s H E) Y (λC m _ c=>E (.ref C) m c) (zw5 st) t/\
   ∀ds δ q x,sp ds δ q x->t {nx:=λ_ δ=>q .non δ,rt:=q,xc:=λC fs _ δ=>x C fs δ} (o4 N ds) δ):zo4 P w K mg base (CX1 P w) (k+1) f o ps (upF K sp):=by
 refine D.F.okX S (λy H Q E h=>?_) λcdv A outer s H y Q E hr h=>?_
 .let ⟨F,ds,δ,q,x,_,_,r,h,_⟩:=h;rw[r.length];exact len ds δ q x h
 .let ⟨F,ds,δ,q,x,B,dk,r,h,p,G⟩:=h;let ⟨t,I,rd⟩:=b cdv A outer s H E ⟨F,H,δ,none⟩ hr;refine ⟨_,I.go,F,o4 N ds,δ,_,I2.start B dk r,rd ds δ q x h,⟨λe g c i a j u l=>?_,λd v e g c i a j u n l=>?_,λC m fs e g c i a j u n l=>?_,λ_ _ _ _ _ _ _ z=>z.elim,λ_ _ _ _ _ _ _ z=>z.elim⟩⟩
  .exact p .non .non g c a j.ran (zx1.mpr rfl) l
  .exact p d v g c a j.ran n l
  .exact G C m fs g c a j.ran n l
def zC3{x:Str}{st:Y1}{f:X0}{b:l3}{N ps:List Str}{k:Nat}{sp:Sp2}(D:zy4 K mg x st ps f b)(S:zz2 N ps (zz0 st))(len:∀ds δ q x,sp ds δ q x->ds.length=ps.length)
 (a:∀(cdv:Z0) (A:A0) (outer:List Env) (s:Y0) (H:Hp) (E:XK) (Y:Y2),zu7 k (A.deeper (T5 x (zz0 st) s.heap.objs.size f cdv))->
  ∃t,zl6 (cxX P w K mg base N x (zz0 st) f cdv A outer s H E) Y (λC c _ d=>E (.ref C) c d) (zw5 st) t/\
   ∀ds δ q x,sp ds δ q x->t {nx:=λ_ δ=>q .non δ,rt:=q,xc:=λC fs _ δ=>x C fs δ} (o4 N ds) δ):Fun2 P w K mg base x (k+1) ps sp:=D.at (z55 D S len a)
def upI(K:Frag)(C:X0)(sp:Sp2):Sp:=λvs H Q E=>∃p dx us H1 F ds δ q x,vs=.ref p::us/\H=upd (upd H1 dx (.own p)) p (.ins C dx [])/\H1 p=none/\H1 dx=none/\dx≠p/\zz7 F H1/\zX7 K F H1 δ/\zz5 K F ds us/\sp ds δ q x/\
 (∀fs F' H' δ',Ran K F H1 δ F' H' δ'->Rep K F' (.ins C fs) (.ref p)->q (.ins C fs) δ'->Q .non H')/\∀C od fs F' H' δ',Ran K F H1 δ F' H' δ'->zV9 K F' od fs->x C fs δ'->E (.ref C) od H'
structure zm5(P:V0)(w:T0)(K:Frag)(mg:Str->Option Z0)(base:J0)(x:Str)(k:Nat)(sp:Sp2):Prop where
 ex:∃C f fd ps,Mk K C f/\zo4 P w K mg base (CX1 P w) k f fd ps (upI K C sp)/\mg x=some (.ref C)/\Binds K fd ps []
end
section
variable{X:Cx}{Y:Y2}{W:XW}{x:Str}{p pos:Pos}{e:Expr}{es:List Expr}{t:TA2}{k:Nat}{sp:Sp2}
def v0b(G:zm5 X.prog X.w X.K X.mg X.base x k sp)(hr:zu7 (k+1) X.A)(B:v0d X W)(ha:PA2 X Y W (e::es) t)(D:Gl X x:=by rfl)(g:(x==("__debug__":Str))=false:=by decide)
 (J:R0 (e::es) X.env=(false,eval e X.env)::R0 es X.env:=by exact i6 rfl) (i:(Q3 pos (R0 es X.env)).any (·.1)=false:=by exact b8 rfl):PE2 X Y W (.Call (.Name x p) (e::es) [] pos) (r0l sp t):=by
 let ⟨C,f,fd,ps,M,F,m,b⟩:=G.ex;refine pe2 (u1v M F hr D m b B ha.go g J i) λL H Q h=>?_
 let ⟨F,N,δ,x,q,I,h,k,v⟩:=h;refine ⟨F,N,δ,x,_,I,h,λds O F1 P c j d z S U=>λy V Z l ne=>⟨y,V,O,P,F1,ds,j,_,_,rfl,rfl,Z,l,ne,d.sub,d.ran.dk,S,U,λfs n o a R r u=>⟨rfl,?_⟩,λC od fs n o a R r u=>?_⟩,v⟩
 .exact k _ _ n o c a (d.call R) (z.trans R.f0) r u
 .exact ⟨C,rfl,v C od fs L n o c a (d.call R) (z.trans R.f0) r u⟩
end
def I2.zM0{K:Frag}{F f:Hp}{δ:Dk}{ds:List D}{us:List V}{N:List Str}{C p g:X0}(s:zz7 F f)(dk:zX7 K F f δ)(r:zz5 K F ds us)(l:f p=none)(k:f g=none)(ne:g≠p):
 I2 K ⟨F,f,δ,some p⟩ F (upd (upd f g (.own p)) p (.ins C g [])) (some (.ref p)::L2.start N us) (.obj C []::o4 N ds) δ:=by
 have own:∀i a,y6 (.obj C []::o4 N ds) (some (.ref p)::L2.start N us) i a->i=0/\a=p:=λi a o=>by
  cases i with
  |zero=>have z:=o.2;cases z;exact ⟨rfl,rfl⟩
  |succ i=>
   rcases o.1 with ⟨B,q⟩|⟨C,fs,q⟩|⟨m,q⟩|⟨m,q⟩
   .rcases f8 q with ⟨d,z⟩|z<;>cases z
   .rcases f8 q with ⟨d,z⟩|z<;>cases z
   .rcases f8 q with ⟨d,z⟩|z<;>cases z
   .rcases f8 q with ⟨d,z⟩|z<;>cases z
 have kp:∀b o,f b=some o->upd (upd f g (.own p)) p (.ins C g []) b=some o:=λb o e=>by
  rw[j0 (i0 e l),j0 (i0 e k)];exact e
 refine ⟨⟨λb o e=>kp b o (s b o e),λa ds e=>?_,λb o e _=>kp b o e,zz7.refl F,λb o e=>.inl e,λa ds e=>⟨ds,e⟩,λa ds e n=>by rw[show δ=none from n]at e;cases e⟩,λi c e=>?_,?_,λi j a n t u=>n ((own i a t).1.trans (own j a u).1.symm),λi a o b ds e w=>?_⟩
 .let ⟨q,v,y,r⟩:=dk a ds e
  (constructor<;>simp_all)
 .cases i with
  |zero=>
   cases e;refine ⟨p,g,[],rfl,rfl,j3,by rw[j0 ne,j3],s.free l,s.free k,l,k,?_⟩;unfold zv7;rfl
  |succ i=>
   unfold L2.start;rw[r.length];exact v0c r _ i c e
 .unfold L2.start o4;simp[r.length]
 .let ⟨_,rfl⟩:=own i a o;let ⟨_,v,y,_⟩:=dk b ds e
  simp_all
section
variable{P:V0}{w:T0}{K:Frag}{mg:Str->Option Z0}{base:J0}
def zM1{x qual cn:Str}{st:Y1}{f C:X0}{fd:l3}{N ps:List Str}{k:Nat}{sp:Sp2}(Fn:Fun K x qual st f fd)(M:Mk K C f)(hm:mg cn=some (.ref C))(b:Binds K fd ("self"::ps) [])(S:zz2 ("self"::N) ("self"::ps) (zz0 st))(len:∀ds δ q x,sp ds δ q x->ds.length=ps.length)
 (z56:∀(cdv:Z0) (A:A0) (outer:List Env) (s:Y0) (H:Hp) (E:XK) (Y:Y2),zu7 k (A.deeper (T5 qual (zz0 st) s.heap.objs.size f cdv))->
  ∃t,zl6 (cxX P w K mg base ("self"::N) qual (zz0 st) f cdv A outer s H E) Y (fun C od _ H'=>E (.ref C) od H') (zw5 st) t/\
   ∀ds δ q x,sp ds δ q x->t {nx:=fun ρ δ=>∃fs,ρ[0]?=some (.obj C fs)/\q (.ins C fs) δ,rt:=fun _ _=>False,xc:=fun C fs _ δ=>x C fs δ} (.obj C []::o4 N ds) δ):zm5 P w K mg base cn (k+1) sp:=by
 refine ⟨C,f,fd,_,M,Fn.okX S (fun vs H Q E h=>?_) (fun cdv A outer s H vs Q E hr h=>?_),hm,b⟩
 .let ⟨p,dx,us,H1,F,ds,δ,q,x,rfl,_,_,_,_,_,_,r,h,_⟩:=h;rw[k1k,k1k,r.length,len ds δ q x h]
 .let ⟨p,dx,us,H1,F,ds,δ,q,x,rfl,rfl,hp,hdx,ne,s1,dk,r,h,kq,kx⟩:=h;let ⟨t,ht,rd⟩:=z56 cdv A outer s _ E ⟨F,H1,δ,some p⟩ hr;have es:L2.start ("self"::N) (V.ref p::us)=some (.ref p)::L2.start N us:=by unfold L2.start;simp
  refine ⟨_,ht.go,?_⟩;rw[es];refine ⟨F,_,δ,_,I2.zM0 s1 dk r hp hdx ne,rd ds δ q x h,⟨fun σ' F' H' ρ' δ' I' s' h'=>?_,fun d v σ' F' H' ρ' δ' I' s' r' h'=>h'.elim,fun C od fs σ' F' H' ρ' δ' I' s' r' h'=>?_,fun _ _ _ _ _ _ _ z=>z.elim,fun _ _ _ _ _ _ _ z=>z.elim⟩⟩
  .let ⟨fs,e0,hq⟩:=h';let ⟨a,dy,ws,e1,es1,h1,h2,f1,f2,g1,g2,r1⟩:=I'.env 0 _ e0;cases es1;have nd:dy≠p:=fun w=>by rw[w,h1]at h2;cases h2
   have sF:zz7 F' (upd (upd F' dy (.own p)) p (.ins C dy ws)):=fun b o e=>by rw[j0 (i0 e f1),j0 (i0 e f2)];exact e
   have R:=I'.ran;refine kq fs (upd (upd F' dy (.own p)) p (.ins C dy ws)) H' δ' ⟨fun b o e=>?_,fun a ds e=>?_,R.keep,R.f0.trans sF,fun b o e=>?_,R.dto⟩ (zl3.mpr ⟨p,dy,ws,rfl,j3,by rw[j0 nd,j3],r1.mono sF⟩) hq
   .by_cases z:b=p
    .subst z;rw[j3]at e;cases e;exact h1
    .rw[j0 z]at e;by_cases z2:b=dy
     .subst z2;rw[j3]at e;cases e;exact h2
     .rw[j0 z2]at e;exact R.sub _ _ e
   .let ⟨q1,vs,q2,q3⟩:=R.dk a ds e;have n1:a≠p:=fun w=>by rw[w,h1]at q2;cases q2
    have n2:a≠dy:=fun w=>by rw[w,h2]at q2;cases q2
    exact ⟨by rw[j0 n1,j0 n2];exact q1,vs,q2,q3.mono sF⟩
   .by_cases z:b=p
    .simp_all
    .rw[j0 z]at e;by_cases z2:b=dy
     . (subst_vars;simp_all)
     .rw[j0 z2]at e;exact R.zl5 b o e
  .exact kx C od fs F' H' δ' I'.ran r' h'
end
section
variable{X:Cx}{Y:Y2}{W:XW}{x:Str}{p pos zv1:Pos}{e:Expr}{es:List Expr}{t:TA2}{k:Nat}{ps:List Str}{C:X0}{f g:Str}
def u1d{H:Hp}{x d:X0}{o a c:HO}(hx:H x=none)(ne:d≠x):L2.drop (upd (upd (upd H x a) d o) x c) x=upd H d o:=by
 funext b;by_cases z:b=x
 .subst z;rw[t0x,j0 (j1k ne)];exact hx.symm
 .rw[x0q z,j0 z];by_cases z2:b=d
  .subst z2;rw[j3,j3]
  .rw[j0 z2,j0 z2,j0 z]
def z1a{H:Hp}{x:X0}{o:HO}(hx:H x=none):L2.drop (upd H x o) x=H:=by
 funext b;by_cases z:b=x
 .subst z;rw[t0x];exact hx.symm
 .rw[x0q z,j0 z]
def z57{K:Frag}{F:Hp}{f:Str}{d:D}{v:V}(r:Rep K F d v):zv7 K F [(f,d)] [(f,v)]:=by
 exact ⟨v,[],rfl,r,by unfold zv7;rfl⟩
def q0n(C:X0)(f:Str)(t:TA2):TS2:=λE ρ δ=>t E.xc ρ δ λds ρ1 δ1=>match ds with | [d]=>E.xc C [(f,d)] ρ1 δ1 |_=>False
def y1z(m:X.calm=true)(n:v0d X W)(M:MkE X.prog X.w X.K X.mg X.base x C k ps (zf6 C f))(hr:zu7 (k+1) X.A)(ha:PA2 X Y W (e::es) t)(o:Gl X x:=by rfl)(b:(x==("__debug__":Str))=false:=by decide)
 (r:R0 (e::es) X.env=(false,eval e X.env)::R0 es X.env:=by exact i6 rfl) (c:(Q3 zv1 (R0 es X.env)).any (·.1)=false:=by exact b8 rfl):
 PS2 X Y W (.Raise (some (.Call (.Name x p) (e::es) [] zv1)) none pos) (q0n C f t):=ps2 (z1p m n M hr ha.go o b r c) λN u H zz=>by
 let ⟨F,z,δ,B,I,h,er⟩:=zz
 refine ⟨F,z,δ,B.xc,_,I,h,λds O F1 P d g i D G j=>?_,er.xc⟩;split at j
 .let ⟨v,rfl,J⟩:=z0g G;refine ⟨sz1,λy L=>⟨y,v,rfl,j3,λl a ne=>⟨rfl,some l,j3,?_⟩⟩⟩;rw[u1d L ne];have hd:=by rw[j0 ne]at a;exact a
  exact er.xc C (some l) _ u _ _ d g (i.alloc hd) (D.trans (i.grow hd)) ⟨_,j3,(z57 J).mono (i.grow hd)⟩ j
 .exact j.elim
def q0m(C:X0):TS2:=λE ρ δ=>E.xc C [] ρ δ
def y1y(b:X.calm=true)(c:v0d X W)(M:zV8 X.K C)(d:zf5 X.K C=true)(hm:X.mg x=some (.ref C))(e:Gl X x:=by rfl)(a:(x==("__debug__":Str))=false:=by decide):
 PS2 X Y W (.Raise (some (.Call (.Name x p) [] [] zv1)) none pos) (q0m C):=ps2 (z1s b c M d e hm a) λj f H zz=>by
 let ⟨F,g,δ,k,I,h,er⟩:=zz
 intro y i;rw[z1a i];exact er.xc C none [] f F H g δ I (zz7.refl F) rfl h
abbrev zd8:=X0->List (Str×D)->TS2
def upH(K:Frag)(Y:Y2)(W:XW)(t:zd8):XTS:=λC od E1 σ H=>∃F ρ δ E2 fs,I2 K Y F H σ ρ δ/\zV9 K F od fs/\t C fs E2 ρ δ/\ER K Y W F E2 E1
structure PH2(X:Cx)(Y:Y2)(W:XW)(hs:List Q2)(t:zd8):Prop where
 go:PH X hs (upH X.K Y W t)
def y1x{hs:List Q2}{t t':XTS}(h:PH X hs t)(k:∀C a D σ H,t' C a D σ H->t C a D σ H):PH X hs t':=λb x C a T s σ H D I f l lt q=>h b x C a T s σ H D I f l lt (k C a D σ H q)
def t2H0:zd8:=λ_ _ _ _ _=>False
def zM4:PH2 X Y W [] t2H0:=⟨y1x zP1 λC a D b H zz=>by let ⟨F,c,δ,d,fs,I,r,h,er⟩:=zz;exact h.elim⟩
def ph2{hs:List Q2}{t:XTS}{u:zd8}(h:PH X hs t)(k:∀C a D σ H,upH X.K Y W u C a D σ H->t C a D σ H):PH2 X Y W hs u:=⟨y1x h k⟩
abbrev W0:XW:=λ_ _ _ _=>False
def noX(E:zd7):zd7:={E with xc:=λ_ _ _ _=>False}
def t2H(K:Frag)(D:X0)(ts:TS2)(tr:zd8):zd8:=λC fs E ρ δ=>match PySem.W.mroIn K C (.ref D)with |some b=>if b=true then ts (noX E) ρ δ else tr C fs E ρ δ |none=>False
theorem ER.noX{K:Frag}{F:Hp}{a:zd7}{b:Ends}(h:ER K Y W F a b):ER K Y W0 F (noX a) b:=⟨h.nx,h.rt,λ_ _ _ _ _ _ _ _ _ _ _ z=>z,h.bk,h.ct⟩
variable{D:X0}{y n:Str}{np:Pos}{za8:Y1}{zl7:List Y1}{rest:List Q2}{ts:TS2}{tr:zd8}
def n1z(tp:Top X)(d:XHd X.K D)(hm:X.mg y=some (.ref D))(hs:∀x,zl6 (X.hdl x) Y W0 (za8::zl7) ts)(hr:PH2 X Y W rest tr)(g:Gl X y:=by rfl)(a:(y==("__debug__":Str))=false:=by decide):
 PH2 X Y W (.ExceptHandler (some (.Name y np)) none (za8::zl7) pos::rest) (t2H X.K D ts tr):=ph2 (o1r (ts:=upS X.K Y W0 ts) tp d g hm (λx=>(hs x).go) hr.go a) λC i j k H zz=>by
 let ⟨F,c,δ,f,fs,I,r,h,er⟩:=zz
 unfold t2H at h;split at h
 .rename_i b e;refine ⟨b,e,?_⟩;cases b with
  |true=>rw[H0 rfl]at h ⊢; exact ⟨F,c,δ,noX f,I,h,er.noX⟩
  |false=>rw[O0 k1j]at h ⊢; exact ⟨F,c,δ,f,fs,I,r,h,er⟩
 .exact h.elim
def asE(i:Nat)(E:zd7):zd7:={nx:=λρ δ=>E.nx (ρ.set i .no) δ,rt:=E.rt,xc:=λ_ _ _ _=>False,bk:=λρ δ=>E.bk (ρ.set i .no) δ,ct:=λρ δ=>E.ct (ρ.set i .no) δ}
def b0z(K:Frag)(i:Nat)(D:X0)(ts:TS2)(tr:zd8):zd8:=λC fs E ρ δ=>match PySem.W.mroIn K C (.ref D)with |some b=>if b=true then ts (asE i E) (ρ.set i (.val (.exc C fs))) δ else tr C fs E ρ δ |none=>False
def z58(i:Nat)(tp:Top X)(d:XHd X.K D)(hm:X.mg y=some (.ref D))(G:X.N.Nodup)(hs:∀x,zl6 (X.hdl x) Y W0 (za8::zl7) ts)(hr:PH2 X Y W rest tr)(J:X.N[i]?=some n:=by rfl)(L:X.env.scope.names.lookup n=some .local:=by rfl)(M:Gl X y:=by rfl)(t:(y==("__debug__":Str))=false:=by decide):
 PH2 X Y W (.ExceptHandler (some (.Name y np)) (some n) (za8::zl7) pos::rest) (b0z X.K i D ts tr):=ph2 (z28 tp d M hm G J L (λx=>(hs x).go) hr.go t) λC u U V H zz=>by
 let ⟨F,O,δ,B,fs,I,r,h,er⟩:=zz
 unfold b0z at h;split at h
 .rename_i b e;refine ⟨b,e,?_⟩;cases b with
  |true=>
   intro y w;have m:=I.grow (o:=XO (bif X.fl then 2 else 0) y C u) w;have P:Rep X.K (upd F y (XO (bif X.fl then 2 else 0) y C u)) (.exc C fs) (.ref y):=by
    refine zl4.mpr ⟨y,(bif X.fl then 2 else 0),rfl,?_⟩;cases u with
    |none=>exact .inl ⟨r,j3⟩
    |some Q=>
     let ⟨R,e1,S⟩:=r;refine .inr ⟨Q,R,j3,?_,S.mono m⟩;rw[j0 (i0 (I.sub _ _ e1) w)];exact e1
   refine ⟨_,_,δ,asE i B,(I.alloc w).put P,h,⟨λc g j f a k l p=>?_,λd v c g j f a k l=>er.rt d v c g j f a k (m.trans l),λ_ _ _ _ _ _ _ _ _ _ _ z=>z,λc g j f a k l p=>?_,λc g j f a k l p=>?_⟩⟩
   .exact er.nx _ g j _ a k.gone (m.trans l) p
   .exact er.bk _ g j _ a k.gone (m.trans l) p
   .exact er.ct _ g j _ a k.gone (m.trans l) p
  |false=>rw[O0 k1j]at h ⊢; exact ⟨F,O,δ,B,fs,I,r,h,er⟩
 .exact h.elim
def u1b(tb:TS2)(th:zd8):TS2:=λE ρ δ=>tb {E with xc:=λC fs ρ' δ'=>th C fs E ρ' δ'} ρ δ
def zM5{body:List Y1}{c:Q2}{hs:List Q2}{tb:TS2}{g:zd8}(tp:Top X)(r:∀pins f,zl6 (X.tr pins f) Y f body tb)(t:PH2 X Y W (c::hs) g):PS2 X Y W (.Try body (c::hs) [] [] pos) (u1b tb g):=
 ps2 (zP2 (tb:=λf=>upS X.K Y f tb) tp (λp f=>(r p f).go) t.go) λv w H zz=>by let ⟨F,u,δ,o,I,h,er⟩:=zz;exact 
  ⟨λC i d j=>∃e a b fs,I2 X.K Y e j d a b/\zz7 F e/\zV9 X.K e i fs/\g C fs o a b,
   ⟨F,u,δ,_,I,h,⟨er.nx,er.rt,λC i fs d e j a b k l m n=>⟨e,a,b,fs,k,l,m,n⟩,er.bk,er.ct⟩⟩,
   λC i d j zy=>by let ⟨e,a,b,fs,k,l,m,n⟩:=zy;exact ⟨e,a,b,o,fs,k,m,n,er.mono l⟩⟩
end
open W (XC)
def y1w(K:Frag)(F H:Hp)(d:D)(v:V)(H':Hp):Prop:=(H'=H/\Rep K F d v)\/∃p vs es,H p=none/\H'=upd H p (.tup vs)/\v=.ref p/\d=.tup es/\zz5 K F es vs
structure zj2(K:Frag)(J:It)(F:Hp)(ds:List D):Prop where
 item:∀(i:Nat) (d:D) (F' H:Hp),ds[i]?=some d->zz7 F F'->zz7 F' H->J.go i H/\∀v H',J.yld i H v H'->y1w K F' H d v H'
 stop:∀(F' H:Hp),zz7 F F'->zz7 F' H->J.stop ds.length H
def I2.yld{K:Frag}{Y:Y2}{F H c:Hp}{σ:St}{e:En}{δ:Dk}{d:D}{v:V}(I:I2 K Y F H σ e δ)(y:y1w K F H d v c):∃a,I2 K Y a c σ e δ/\zz7 F a/\Rep K a d v/\∀D u,H D=some u->F D=none->a D=none:=by
 rcases y with ⟨rfl,r⟩|⟨p,f,g,b,rfl,rfl,rfl,r⟩
 .exact ⟨F,I,zz7.refl F,r,λ_ _ _ z=>z⟩
 .exact ⟨_,I.alloc b,I.grow b,I.tup b r,λD u h z=>by rw[j0 (i0 h b)];exact z⟩
abbrev TI2:=XK2->En->Dk->(List D->En->Dk->Prop)->Prop
def z59(K:Frag)(Y:Y2)(W:XW)(t:TI2):TI:=λσ H R=>∃F ρ δ x q,I2 K Y F H σ ρ δ/\t x ρ δ q/\(∀ds J F' H' ρ' δ',I2 K Y F' H' σ ρ' δ'->zz7 F F'->zj2 K J F' ds->q ds ρ' δ'->R J H')/\XR K Y W F x
structure PI2(X:Cx)(Y:Y2)(W:XW)(tg iter:Expr)(t:TI2):Prop where
 go:PI X tg iter (z59 X.K Y W t)
def n1y{X:Cx}{b iter:Expr}{t t':TI}(h:PI X b iter t)(k:∀ σ H R,t' σ H R->t σ H R):PI X b iter t':=λa s σ H R I q=>h a s σ H R I (k σ H R q)
def pi2{X:Cx}{Y:Y2}{W:XW}{a iter:Expr}{t:TI}{u:TI2}(h:PI X a iter t)(k:∀ σ H R,z59 X.K Y W u σ H R->t σ H R):PI2 X Y W a iter u:=⟨n1y h k⟩
section
variable{X:Cx}{Y:Y2}{W:XW}{tg:Expr}{K:Frag}
def n1x{F:Hp}{a:X0}{xs:List V}{ds:List D}(h:SqT K F a xs)(r:zz5 K F ds xs):zj2 K (Itt K a) F ds:=by
 refine ⟨λi d g H e b c=>?_,λg H b c=>?_⟩
 .let ⟨v,f,j⟩:=r.get e;have hs:=(b.trans c).sqT h;refine ⟨⟨xs,v,hs,f⟩,λu k y=>?_⟩;let ⟨rfl,y⟩:=y;have:=y xs hs;rw[f]at this;cases this;exact .inl ⟨rfl,j.mono b⟩
 .exact ⟨xs,(b.trans c).sqT h,by rw[r.length];exact k1q _⟩
def y1v{F:Hp}{a:X0}{xs:List V}{ds:List D}(h:SqL K F a xs)(r:zz5 K F ds xs):zj2 K (Itl K a) F ds:=by
 refine ⟨λi d g H e b c=>?_,λg H b c=>?_⟩
 .let ⟨v,f,j⟩:=r.get e;have hs:=(b.trans c).sqL h;refine ⟨⟨xs,v,hs,f⟩,λu k y=>?_⟩;let ⟨rfl,y⟩:=y;have:=y xs hs;rw[f]at this;cases this;exact .inl ⟨rfl,j.mono b⟩
 .exact ⟨xs,(b.trans c).sqL h,by rw[r.length];exact k1q _⟩
def zc6(lo:Int)(n:Nat):List D:=(List.range n).map λ(k:Nat)=>D.int (lo+(k:Int))
def h9{lo:Int}{n i:Nat}{d:D}(e:(zc6 lo n)[i]?=some d):i<n/\d=.int (lo+(i:Int)):=by
 unfold zc6 at e
 grind
def a8{lo:Int}{n:Nat}:(zc6 lo n).length=n:=by unfold zc6;simp
def y1u{F:Hp}{lo:Int}{n:Nat}:zj2 K (Itr lo n) F (zc6 lo n):=by
 refine ⟨λi d a H e b c=>?_,λa H b c=>?_⟩
 .let ⟨f,rfl⟩:=h9 e;refine ⟨f,λv g y=>?_⟩;let ⟨rfl,rfl⟩:=y;exact .inl ⟨rfl,zz4.mpr rfl⟩
 .rw[a8];exact k1q _
def iSeq(K:Frag)(tl:TE):TI:=λσ H R=>tl σ H λx H1=>∃a,x=.ref a/\(((∃xs,SqL K H1 a xs)/\R (Itl K a) H1)\/((∃xs,SqT K H1 a xs)/\R (Itt K a) H1))
def r1b{l:Expr}{k:TE}(n:PE X l k):PI X tg l (iSeq X.K k):=by
 intro d s r H R I h;refine thn (n d s r H _ I h) λv f zz=>?_;let ⟨x,m,c,t,u⟩:=zz
 let ⟨a,e,q⟩:=u;subst e;cases t;rcases q with ⟨⟨w,g⟩,q⟩|⟨⟨w,g⟩,q⟩
 .let ⟨i,y,p,hz⟩:=c.list g;refine A4 p.isList ?_;refine ⟨f.heap.objs.size,[f.heap.objs.size],_,_,m,rfl,c.kept λb o e=>k1w _ e,b0a a _,⟨_,k1s _ rfl,rfl,rfl⟩,λb j=>?_,q⟩;have e:=by simpa using j
  subst e;exact c.za3 (k1q _) (c.hok.fresh (k1q _))
 .let ⟨i,y,p,hz⟩:=c.tuple g;refine E4 p ?_;refine ⟨f.heap.objs.size,[f.heap.objs.size],_,_,m,rfl,c.kept λb o e=>k1w _ e,c0n a _,⟨_,k1s _ rfl,rfl,rfl⟩,λb j=>?_,q⟩;have e:=by simpa using j
  subst e;exact c.za3 (k1q _) (c.hok.fresh (k1q _))
def t2Is(te:TE2):TI2:=λx ρ δ q=>te x ρ δ λd ρ1 δ1=>match zm4 d with |some ds=>q ds ρ1 δ1 |none=>False
def r1a{F:Hp}{d:D}{xs:List D}{x:V}(h:zm4 d=some xs)(r:Rep K F d x):∃a vs,x=.ref a/\(SqL K F a vs\/SqT K F a vs)/\zz5 K F xs vs:=p0v (zz7.refl F) h r
def e0d{l:Expr}{i:TE2}(p:PE2 X Y W l i):PI2 X Y W tg l (t2Is i):=pi2 (r1b p.go) λw H R zz=>by
 let ⟨F,r,δ,x,q,I,h,k,t⟩:=zz
 refine ⟨F,r,δ,x,_,I,h,λd v j m b c f n u g=>?_,t⟩;split at g
 .rename_i ds e;let ⟨a,o,rfl,sq,z⟩:=r1a e u;refine ⟨a,rfl,?_⟩;rcases sq with sq |sq
  .exact .inl ⟨⟨o,f.sub.sqL sq⟩,k ds _ j m b c f n (y1v sq z) g⟩
  .exact .inr ⟨⟨o,f.sub.sqT sq⟩,k ds _ j m b c f n (n1x sq z) g⟩
 .exact g.elim
variable{a b:Expr}{ta:TA2}{p pos:Pos}
def t2R1(ta:TA2):TI2:=λx ρ δ q=>ta x ρ δ λds ρ1 δ1=>match ds with | [.int j]=>(-(2^62)<=j/\j<2^62)/\q (zc6 0 j.toNat) ρ1 δ1 |_=>False
def t0v(hm:X.mg "range"=none)(ha:PA2 X Y W [a] ta)(e:Gl X "range":=by rfl)(hs:R0 [a] X.env=[(false,eval a X.env)]:=by rfl):PI2 X Y W tg (.Call (.Name "range" p) [a] [] pos) (t2R1 ta):=pi2 (a0z e hm ha.go hs) λt H R zz=>by
 let ⟨F,f,δ,x,q,I,h,k,g⟩:=zz
 refine ⟨F,f,δ,x,_,I,h,λds u i l c d m n o b=>?_,g⟩;split at b
 .rename_i j;let ⟨v,rfl,r⟩:=z0g o;rw[zz4.mp r];exact ⟨j,rfl,b.1.1,b.1.2,k _ _ i l c d m n y1u b.2⟩
 .exact b.elim
def t2R2(ta:TA2):TI2:=λx ρ δ q=>ta x ρ δ λds ρ1 δ1=>match ds with | [.int i,.int j]=>(-(2^62)<=i/\i<2^62/\-(2^62)<=j/\j<2^62)/\q (zc6 i (j-i).toNat) ρ1 δ1 |_=>False
def y1t(hm:X.mg "range"=none)(ha:PA2 X Y W [a,b] ta)(g:Gl X "range":=by rfl)(hs:R0 [a,b] X.env=[(false,eval a X.env),(false,eval b X.env)]:=by rfl)(d:R0 [b] X.env=[(false,eval b X.env)]:=by rfl):
 PI2 X Y W tg (.Call (.Name "range" p) [a,b] [] pos) (t2R2 ta):=pi2 (a0y g hm ha.go hs d) λB H R zz=>by
 let ⟨F,l,δ,x,q,I,h,k,m⟩:=zz
 refine ⟨F,l,δ,x,_,I,h,λds C n o e f r t w c=>?_,m⟩;split at c
 .rename_i i j;let ⟨v,u,rfl,y,z⟩:=u1i w;rw[zz4.mp y,zz4.mp z];exact ⟨i,j,rfl,c.1,k _ _ n o e f r t y1u c.2⟩
 .exact c.elim
end
abbrev G2:=D->En->Option En
def TgD(K:Frag)(g:TG)(g2:G2):Prop:=∀(Y:Y2) (F H:Hp) (σ:St) (ρ ρ':En) (δ:Dk) (d:D) (v:V) (Q:St->Hp->Prop),I2 K Y F H σ ρ δ->Rep K F d v->g2 d ρ=some ρ'->(∀ σ',I2 K Y F H σ' ρ' δ->Q σ' H)->g v σ H Q
def g2N(i:Nat):G2:=λd ρ=>some (ρ.set i (.val d))
def m0u{K:Frag}{i:Nat}:TgD K (n0e i) (g2N i):=λY F H b c a δ d v Q I r e k=>by cases e;exact k _ (I.put r)
def p0s:List Nat->List D->En->Option En
 | [],[],ρ=>some ρ
 |i::is,d::ds,ρ=>p0s is ds (ρ.set i (.val d))
 |_,_,_=>none
def g2T(is:List Nat):G2:=λd ρ=>match d with | .tup ds=>p0s is ds ρ |_=>none
def zY1:List Nat->TGs
 | []=>gNil
 |i::is=>zT8 (n0e i) (zY1 is)
theorem q1z{K:Frag}:∀{is:List Nat} {ds:List D} {vs:List V} {Y:Y2} {F H:Hp} {σ:St} {b a:En} {δ:Dk} {Q:St->Hp->Prop},I2 K Y F H σ b δ->zz5 K F ds vs->p0s is ds b=some a->(∀ c,I2 K Y F H c a δ->Q c H)->zY1 is vs σ H Q/\vs.length=is.length
 | [],[],vs,Y,F,H,σ,b,a,δ,Q,I,r,e,k=>by cases e;rw[zz8.mp r];exact ⟨⟨rfl,k σ I⟩,rfl⟩
 |i::is,d::ds,vs,Y,F,H,σ,b,a,δ,Q,I,r,e,k=>by
  let ⟨v,l,rfl,f,g⟩:=zz1.mp r;let ⟨j,m⟩:=q1z (I.put f) g e k;exact ⟨⟨v,l,rfl,j⟩,by rw[k1k,k1k,m]⟩
 | [],d::ds,vs,Y,F,H,σ,b,a,δ,Q,I,r,e,k=>by cases e
 |i::is,[],vs,Y,F,H,σ,b,a,δ,Q,I,r,e,k=>by cases e
def zM6{K:Frag}{is:List Nat}{n:Nat}(hn:is.length=n):TgD K (zT9 K n (zY1 is)) (g2T is):=λY F H j l b δ d v Q I r e k=>by
 unfold g2T at e;split at e
 .let ⟨a,c,rfl,f,z⟩:=zz9.mp r;let ⟨g,i⟩:=q1z I z e k;exact ⟨a,c,rfl,SqT.of (I.sub _ _ f),by rw[i,hn],g⟩
 .cases e
def forL(g:G2)(body:TS2)(E:zd7):List D->En->Dk->Prop
 | [],ρ,δ=>E.nx ρ δ
 |d::ds,ρ,δ=>match g d ρ with
  |some ρ'=>body {E with nx:=forL g body E ds,ct:=forL g body E ds,bk:=E.nx} ρ' δ
  |none=>False
def u1a(ti:TI2)(g:G2)(body:TS2):TS2:=λE ρ δ=>ti E.xc ρ δ λds ρ1 δ1=>forL g body E ds ρ1 δ1
section
variable{X:Cx}{Y:Y2}{W:XW}{tg iter:Expr}{pos:Pos}
def e0c{body:List Y1}{ti:TI2}{g:TG}{g2:G2}{tb:TS2}(hp:PassesOwn (model X.prog X.w) X.A X.env X.xe)(hc:X.calm=true)(hi:PI2 X Y W tg iter ti)(hg:PG X tg g)(hd:TgD X.K g g2)(hb:zl6 X Y W body tb)
 (hs:∀x,foldedSetIterable iter X.env x=pure x:=by intro _;rfl):PS2 X Y W (.For tg iter body [] pos) (u1a ti g2 tb):=ps2 (zS1 hp hc hi.go hg hb.go hs) λE1 σ H zz=>by
 let ⟨F,ρ,δ,Q,I,h,er⟩:=zz
 refine ⟨F,ρ,δ,Q.xc,_,I,h,λds J F1 H1 R S I1 N z h1=>?_,er.xc⟩;refine ⟨λi m σ H=>∃u f c,I2 X.K Y u H σ f c/\zz7 F1 u/\forL g2 tb Q (ds.drop i) f c/\i<=ds.length/\m=ds.length-i,⟨ds.length,F1,R,S,I1,zz7.refl F1,by simpa using h1,j1e _,by simp⟩,?_⟩;rintro i m B U ⟨u,f,c,O,P,n,hi,rfl⟩;cases e:ds[i]? with
 |none=>
  have V:=h1t.mp e;have ei:i=ds.length:=by lia
  subst ei;rw[d1g]at n;exact .inl ⟨z.stop u U P O.sub,er.nx B u U f c O (N.trans P) n⟩
 |some d=>
  have V:=(k1t.mp e).1;let ⟨go,yl⟩:=z.item i d u U e P O.sub;refine .inr ⟨go,λC D=>∃F2 k l,I2 X.K Y F2 D C k l/\zz7 F1 F2/\forL g2 tb Q (ds.drop (i+1)) k l,λC D zy=>by let ⟨F2,k,l,o,Z,h2⟩:=zy;exact ⟨ds.length-(i+1),by lia,F2,k,l,o,Z,h2,V,rfl⟩,λx D y=>?_⟩;let ⟨F2,o,Z,r2,_⟩:=O.yld (yl x D y);have ed:ds.drop i=d::ds.drop (i+1):=by rw[i1z V];congr 1;exact (k1t.mp e).2
  rw[ed]at n;unfold forL at n;split at n
  .rename_i G e3;refine hd Y F2 D B f G c d x _ o r2 e3 λaa I3=>?_
   have sa:=P.trans Z;refine ⟨F2,G,c,_,I3,n,⟨λj p L a b r t M=>⟨p,a,b,r,sa.trans t,M⟩,λd v j p L a b r t=>er.rt d v j p L a b r ((N.trans sa).trans t),er.xc.mono (N.trans sa),λj p L a b r t M=>er.nx j p L a b r ((N.trans sa).trans t) M,λj p L a b r t M=>⟨p,a,b,r,sa.trans t,M⟩⟩⟩
  .exact n.elim
end
section
variable{K:Frag}{Y:Y2}{F H:Hp}{σ:St}{ρ:En}{δ:Dk}
def I2.ice{D:X0}{vs:List V}(I:I2 K Y F H σ ρ δ)(g:F D=none)(h0:Y.zz6 D=none)(hd:Off δ D)(m:H D=some (.lst vs))(no:∀j a,y6 ρ σ j a->a≠D):I2 K Y (upd F D (.lst vs)) H σ ρ δ:=by
 refine ⟨⟨λb u e=>?_,λb fs e=>?_,I.ran.keep,λb u e=>?_,λb u e=>?_,I.ran.dto⟩,λj c e=>?_,I.len,I.apart,I.off⟩
 .by_cases z:b=D
  .subst z;rw[j3]at e;cases e;exact m
  .rw[j0 z]at e;exact I.sub _ _ e
 .let ⟨o,ws,p,q3⟩:=I.ran.dk b fs e;exact ⟨by rw[j0 (j1k (hd b fs e))];exact o,ws,p,q3.mono (zz7.new g)⟩
 .rw[j0 (i0 (I.ran.f0 b u e) g)];exact I.ran.f0 b u e
 .by_cases z:b=D
  .subst z;exact .inr h0
  .rw[j0 z]at e;exact I.ran.zl5 b u e
 .have w:=I.env j c e;cases c with
  |no=>trivial
  |val d=>let ⟨u,e1,f⟩:=w;exact ⟨u,e1,f.mono (zz7.new g)⟩
  |own fs=>
   let ⟨b,ws,e1,i,f1,g1,f⟩:=w;exact ⟨b,ws,e1,i,by rw[j0 (no j b ⟨.inl ⟨fs,e⟩,x4 e1⟩)];exact f1,g1,f.mono (zz7.new g)⟩
  |obj C fs=>
   let ⟨b,n,ws,e1,k,i,l,f1,f2,g1,g2,f⟩:=w;have nd:n≠D:=λw=>by rw[w,m]at l;cases l
   exact ⟨b,n,ws,e1,k,i,l,by rw[j0 (no j b ⟨.inr (.inl ⟨C,fs,e⟩),x4 e1⟩)];exact f1,by rw[j0 nd];exact f2,g1,g2,f.mono (zz7.new g)⟩
  |zm3 fs=>
   let ⟨b,ws,e1,i,f1,g1,f⟩:=w;exact ⟨b,ws,e1,i,by rw[j0 (no j b ⟨.inr (.inr (.inl ⟨fs,e⟩)),x4 e1⟩)];exact f1,g1,f.mono (zz7.new g)⟩
  |zt9 fs=>
   let ⟨b,ws,e1,i,f1,g1,f⟩:=w;exact ⟨b,ws,e1,i,by rw[j0 (no j b ⟨.inr (.inr (.inr ⟨fs,e⟩)),x4 e1⟩)];exact f1,g1,f.mono (zz7.new g)⟩
def I2.zc7{j:Nat}{a:X0}(I:I2 K Y F H σ ρ δ)(o:y6 ρ σ j a):∃u,H a=some u:=by
 rcases o.1 with ⟨ds,q⟩|⟨C,fs,q⟩|⟨c,q⟩|⟨c,q⟩
 rotate_left 2
 .let ⟨b,d,e,f,_⟩:=I.env j _ q;rw[o.2]at e
  grind
 .let ⟨b,d,e,f,_⟩:=I.env j _ q;rw[o.2]at e
  grind
 .let ⟨b,d,e,f,_⟩:=I.env j _ q;rw[o.2]at e
  grind
 .let ⟨b,i,d,e,g,f,_⟩:=I.env j _ q;rw[o.2]at e
  simp_all
def k9:Option Cell->Cell |some (.val d)=>.val d |_=>.no
def zu8(ρ:En)(js:List Nat):En:=js.map λj=>k9 ρ[j]?
def j9(te:TE2)(js:List Nat)(ρ:En)(q:List D->Dk->Prop):List D->List D->Dk->Prop
 | [],acc,δ=>q acc δ
 |d::ds,acc,δ=>te (λ_ _ _ _=>False) (.val d::zu8 ρ js) δ λe _ δ1=>acc.length<1000/\j9 te js ρ q ds (acc++[e]) δ1
end
section
variable{Y:Y2}{x:Str}{js:List Nat}{te:TE2}{ti:TI2}
def teY(K:Frag)(te:TE2):TE:=λσ H Q=>∃Y',upE K Y' W0 te σ H Q
variable{i:Nat}
def I2.take{K:Frag}{F H:Hp}{σ:St}{ρ:En}{δ:Dk}{D:X0}{ds:List DL.D}{vs:List V}(I:I2 K Y F H σ ρ δ)(hF:F D=none)(h0:Y.zz6 D=none)(hd:Off δ D)(hD:H D=some (.lst vs))(no:∀j a,y6 ρ σ j a->a≠D)(r:zz5 K F ds vs):I2 K Y F H (σ.set i (some (.ref D))) (ρ.set i (.own ds)) δ:=by
 have key:∀j a,y6 (ρ.set i (.own ds)) (σ.set i (some (.ref D))) j a->(j=i/\a=D)\/(j≠i/\y6 ρ σ j a):=fun j a o=>by
  by_cases z:j=i
  .subst z;have:=o.2
   grind
  .let ⟨o1,o2⟩:=o;simp only[k1e (j1k z)]at o1 o2;exact .inr ⟨z,o1,o2⟩
 refine ⟨I.ran,fun j c e=>?_,by simp[I.len],fun a b c n o1 o2=>?_,fun j a o=>?_⟩
 .by_cases z:j=i
  .subst z;by_cases hl:j<ρ.length
   .simp[hl]at e;subst e;refine ⟨D,vs,?_,hD,hF,h0,r⟩;simp[I.len▸hl]
   .simp[hl]at e
  .rw[k1e (j1k z)]at e ⊢;exact I.env j c e
 .rcases key a c o1 with ⟨z1,z2⟩|⟨z1,z2⟩
  .grind
  .rcases key b c o2 with ⟨y1,y2⟩|⟨y1,y2⟩
   .solve_by_elim
   .exact I.apart a b c n z2 y2
 .rcases key j a o with ⟨z1,z2⟩|⟨z1,z2⟩
  .simp_all
  .exact I.off j a z2
end
section
variable{X:Cx}{Y:Y2}{W:XW}{pos:Pos}
def I2.deck{K:Frag}{F H:Hp}{σ:St}{m:En}{p:X0}{ds:List D}{vs:List V}(I:I2 K Y F H σ m none)(h:H p=none)(r:zz5 K F ds vs):I2 K Y F (upd H p (.lst vs)) σ m (some (p,ds)):=by
 have n:=I.sub.free h;have h0:=I.ran.fresh h;have n0:Y.zv8=none:=by
  cases hd:Y.zv8 with
  |none=>rfl
  |some q=>
   let ⟨a,k⟩:=q;let ⟨t,z⟩:=I.ran.dto.1 a k hd;cases z
 refine ⟨⟨λb u e=>by rw[j0 (i0 e n)];exact I.sub _ _ e,λa t e=>(by cases e;exact ⟨n,vs,j3,r⟩),λb u e f=>by rw[j0 (i0 e h0)];exact I.ran.keep b u e f,I.ran.f0,I.ran.zl5,⟨λa k e=>(by grind),λa k e _=>(by simp_all)⟩⟩,λj c e=>?_,I.len,I.apart,λj a o b t e=>?_⟩
 .have w:=I.env j c e;cases c with
  |no=>trivial
  |val d=>exact w
  |own fs=>
   let ⟨b,ws,e1,g,f1,g1,i⟩:=w;exact ⟨b,ws,e1,by rw[j0 (i0 g h)];exact g,f1,g1,i⟩
  |obj C fs=>
   let ⟨b,y,ws,e1,l,g,v,f1,f2,g1,g2,i⟩:=w;exact ⟨b,y,ws,e1,l,by rw[j0 (i0 g h)];exact g,by rw[j0 (i0 v h)];exact v,f1,f2,g1,g2,i⟩
  |zm3 fs=>
   let ⟨b,ws,e1,g,f1,g1,i⟩:=w;exact ⟨b,ws,e1,by rw[j0 (i0 g h)];exact g,f1,g1,i⟩
  |zt9 fs=>
   let ⟨b,ws,e1,g,f1,g1,i⟩:=w;exact ⟨b,ws,e1,by rw[j0 (i0 g h)];exact g,f1,g1,i⟩
 .cases e;let ⟨u,B⟩:=I.zc7 o
  grind
def m0t(ta:TA2):TS2:=λE ρ δ=>ta E.xc ρ δ λds ρ1 δ1=>δ1=none/\ds.length<=1000/\∀p,E.rt (.ref p) (some (p,ds))
def t1z{c:List Expr}{d:TA2}{a:Pos}(ha:PA2 X Y W c d):PS2 X Y W (.Return (some (.List c a)) pos) (m0t d):=ps2 (r1t (a0q ha.go)) λr g H zz=>by let ⟨F,i,δ,j,I,h,er⟩:=zz;exact 
 ⟨F,i,δ,j.xc,_,I,h,λds t F1 u b k l m e f=>⟨h0g (by rw[e.length];exact f.2.1),λp n=>by
  let ⟨rfl,_,o⟩:=f;exact er.rt _ _ g F1 _ b _ (l.deck n e) m (zu9.mpr rfl) (o p)⟩,er.xc⟩
def q1y{e:Expr}{o:HO}{d:D}(h:PE X e (λσ H Q=>∀p,H p=none->Q (.ref p) (upd H p o)))(r:∀F p,Rep X.K (upd F p o) d (.ref p)):PE2 X Y W e (t2C d):=pe2 h λσ H Q ⟨F,b,δ,x,q,I,h,k,c⟩=>λp a=>
 k _ _ _ _ b δ (I.alloc a) (I.grow a) (r F p) h
end
open W (XC)
section
variable{X:Cx}{Y:Y2}{W:XW}{pos:Pos}
def n1v:PE2 X Y W (.Dict [] [] pos) (t2C (.dic [])):=q1y v1f λF p=>zl2.mpr ⟨p,[],rfl,j3,by unfold zj1;rfl⟩
def n1u{i b p c}{k v:Int}(a:([some (Expr.Constant (.int k) i p)]:List (Option Expr)).all (·.isSome)=true:=by rfl):PE2 X Y W (.Dict [some (.Constant (.int k) i p)] [.Constant (.int v) b c] pos) (t2C (.dic [(.inl k,.int v)])):=
 q1y (o:=.dK [(.inl k,.int v)]) (z1o (o1w (v1d r0n r0n o1x) a rfl (by simp) (by show 1<=15;decide)) λe H Q h p d=>⟨j3,[(.inl k,.int v)],rfl,by show 1<=15;decide,by rw[q0d];exact h p d⟩)
  λF p=>zl2.mpr ⟨p,_,rfl,j3,by unfold zj1;exact ⟨_,[],rfl,zz4.mpr rfl,by unfold zj1;rfl⟩⟩
end
section
variable(K:Frag)
open W (kitOne kitAny)
def ko{n:String}(h:n∈BT):kitOne K (.type n) (.type "bool")=some (n=="bool")/\kitOne K (.type n) (.type "int")=some (n=="int"||n=="bool")/\
 kitOne K (.type n) (.type "list")=some (n=="list")/\kitOne K (.type n) (.type "tuple")=some (n=="tuple")/\kitAny K (.type n) [.type "list",.type "tuple"]=some (n=="list"||n=="tuple"):=zP5 K h
def y1s{d:D}(h:TyD K d)(c:∀C fs,d≠.ins C fs/\d≠.exc C fs):j0u K d (.ty "bool")=some (match d with | .bl _=>true |_=>false):=by
 cases d with
 |non=>exact (ko K (by decide)).1
 |bl b=>exact (ko K (by decide)).1
 |int b=>exact (ko K (by decide)).1
 |str b=>exact (ko K (by decide)).1
 |lst b=>exact (ko K (by decide)).1
 |tup b=>exact (ko K (by decide)).1
 |scr b=>exact h.elim
 |dic b=>exact (ko K (by decide)).1
 |dwk b=>exact h.elim
 |dwt b=>exact h.elim
 |ins C b=>exact absurd rfl (c C b).1
 |exc C b=>exact absurd rfl (c C b).2
 |ref a=>exact h.elim
 |ty a=>exact h.elim
def q1x{d:D}(h:TyD K d)(c:∀C fs,d≠.ins C fs/\d≠.exc C fs):j0u K d (.ty "int")=some (match d with | .bl _=>true | .int _=>true |_=>false):=by
 cases d with
 |non=>exact (ko K (by decide)).2.1
 |bl b=>exact (ko K (by decide)).2.1
 |int b=>exact (ko K (by decide)).2.1
 |str b=>exact (ko K (by decide)).2.1
 |lst b=>exact (ko K (by decide)).2.1
 |tup b=>exact (ko K (by decide)).2.1
 |scr b=>exact h.elim
 |dic b=>exact (ko K (by decide)).2.1
 |dwk b=>exact h.elim
 |dwt b=>exact h.elim
 |ins C b=>exact absurd rfl (c C b).1
 |exc C b=>exact absurd rfl (c C b).2
 |ref a=>exact h.elim
 |ty a=>exact h.elim
def zL0{d:D}(h:TyD K d)(c:∀C fs,d≠.ins C fs/\d≠.exc C fs):j0u K d (.tup [.ty "list",.ty "tuple"])=some (match d with | .lst _=>true | .tup _=>true |_=>false):=by
 cases d with
 |non=>exact (ko K (n:="NoneType") (by decide)).2.2.2.2
 |bl b=>exact (ko K (n:="bool") (by decide)).2.2.2.2
 |int b=>exact (ko K (n:="int") (by decide)).2.2.2.2
 |str b=>exact (ko K (n:="str") (by decide)).2.2.2.2
 |lst b=>exact (ko K (n:="list") (by decide)).2.2.2.2
 |tup b=>exact (ko K (n:="tuple") (by decide)).2.2.2.2
 |scr b=>exact h.elim
 |dic b=>exact (ko K (n:="dict") (by decide)).2.2.2.2
 |dwk b=>exact h.elim
 |dwt b=>exact h.elim
 |ins C b=>exact absurd rfl (c C b).1
 |exc C b=>exact absurd rfl (c C b).2
 |ref a=>exact h.elim
 |ty a=>exact h.elim
end
def o5:D->Bool
 | .non=>true | .bl _=>true | .int _=>true | .str _=>true | .lst _=>true | .tup _=>true | .dic _=>true |_=>false
def m0s{K:Frag}{d:D}(h:o5 d=true):TyD K d/\∀C fs,d≠.ins C fs/\d≠.exc C fs:=by
 cases d with
 |scr b=>cases h
 |dwk b=>cases h
 |dwt b=>cases h
 |ins C b=>cases h
 |exc C b=>cases h
 |ref a=>cases h
 |ty a=>cases h
 |_=>exact ⟨trivial,λC fs=>⟨(by simp),(by simp)⟩⟩
def j4:D->Int->Int->Bool
 | .int i,lo,hi=>decide (lo<=i)&&decide (i<=hi)
 |_,_,_=>false
section
variable{X:Cx}{Y:Y2}{W:XW}{pos:Pos}{a:Expr}{ta:TE2}
def z60{x:Str}{n:Int}(hm:∃t,X.mg x=some (.int n t))(a:Gl X x:=by rfl)(hd:(x==("__debug__":Str))=false:=by decide):PE2 X Y W (.Name x pos) (t2C (.int n)):=by
 let ⟨t,hm⟩:=hm;exact z30 hm ⟨t,rfl⟩ a hd
def n1t(K:Frag){f:Str}(ha:PE2 X Y W a ta)(b:X.K=K:=by rfl)(c:U1 a f X.env (eval a X.env)=eval a X.env:=by rfl):PE2 X Y W (.Attribute a f pos) (h0e K f ta):=b▸zN9 ha c
def t1y(K:Frag){f:Str}(ha:PE2 X Y W a ta)(b:X.K=K:=by rfl)(c:U1 a f X.env (eval a X.env)=eval a X.env:=by rfl):PE2 X Y W (.Attribute a f pos) (j0r K f ta):=b▸o1c ha c
variable{x:Str}{p:Pos}{e:Expr}{te:TE2}
def t1x(K:Frag)(i:Nat){f:Str}{a:Pos}(c:PE2 X Y W e te)(d:X.K=K:=by rfl)(g:X.N[i]?=some x:=by rfl)(j:Vis X.env.scope x:=by walk_at "v3")(hd:(x==("__debug__":Str))=false:=by decide)(b:(x==("__classdict__":Str))=false:=by decide)
 (hs:B2 e (some (.Attribute (.Name x p) f a)) pos.line X.env=pure false:=by rfl):PS2 X Y W (.Assign [.Attribute (.Name x p) f a] e pos) (j0q K i f te):=d▸o1b i c g j hd b hs
variable{D:X0}{y n:Str}{np:Pos}{za8:Y1}{zl7:List Y1}{rest:List Q2}{ts:TS2}{tr:zd8}
def t1w(K:Frag)(tp:Top X)(d:XHd K D)(hm:X.mg y=some (.ref D))(hs:∀x,zl6 (X.hdl x) Y W0 (za8::zl7) ts)(hr:PH2 X Y W rest tr)(b:X.K=K:=by rfl)(c:Gl X y:=by rfl)(a:(y==("__debug__":Str))=false:=by decide):
 PH2 X Y W (.ExceptHandler (some (.Name y np)) none (za8::zl7) pos::rest) (t2H K D ts tr):=by subst b;exact n1z tp d hm hs hr c a
def zL1(K:Frag)(i:Nat)(tp:Top X)(d:XHd K D)(hm:X.mg y=some (.ref D))(b:X.N.Nodup)(hs:∀x,zl6 (X.hdl x) Y W0 (za8::zl7) ts)(hr:PH2 X Y W rest tr)(c:X.K=K:=by rfl)(e:X.N[i]?=some n:=by rfl)(f:X.env.scope.names.lookup n=some .local:=by rfl)(g:Gl X y:=by rfl)(a:(y==("__debug__":Str))=false:=by decide):
 PH2 X Y W (.ExceptHandler (some (.Name y np)) (some n) (za8::zl7) pos::rest) (b0z K i D ts tr):=by subst c;exact z58 i tp d hm b hs hr e f g a
end
open L2
def h0d{a:Type}(l:List a)(k:Nat):atI l (no_index (OfNat.ofNat k))=l[k]?:=by
 have e:(OfNat.ofNat k:Int)=((k:Nat):Int):=rfl;unfold atI ixN
 grind
def h0c(n k:Nat):ixN n (no_index (OfNat.ofNat k))=if k<n then some k else none:=by
 have e:(OfNat.ofNat k:Int)=((k:Nat):Int):=rfl;rw[e];unfold ixN
 grind
open Spec L2
def y0d(g:G2)(body:TS2)(E:zd7)(rest:En->Dk->Prop)(d:D)(ρ:En)(δ:Dk):Prop:=match g d ρ with
 |some ρ'=>body {E with nx:=rest,ct:=rest,bk:=E.nx} ρ' δ
 |none=>False
def m7{g:G2}{body:TS2}{E:zd7}{a:En}{δ:Dk}{ds:List D}(P:Nat->En->Dk->Prop)(h0:P 0 a δ)
 (step:∀(i:Nat) (d:D) (a:En) (δ:Dk) (rest:En->Dk->Prop),ds[i]?=some d->P i a δ->(∀ b c,P (i+1) b c->rest b c)->y0d g body E rest d a δ) (fin:∀ a δ,P ds.length a δ->E.nx a δ):forL g body E ds a δ:=by
 have key:∀(k i:Nat) (a:En) (δ:Dk),i+k=ds.length->P i a δ->forL g body E (ds.drop i) a δ:=by
  intro k
  induction k with
  |zero=>
   intro i a δ f p;rw[f1c (by lia)];have:i=ds.length:=by lia
   subst this;exact fin a δ p
  |succ k j=>
   intro i a δ f p;have e:i<ds.length:=by lia
   rw[i1z e];have:=step i ds[i] a δ (forL g body E (ds.drop (i+1))) (by simp[e]) p λb c l=>j (i+1) b c (by lia) l
   unfold y0d at this;unfold forL;exact this
 have:=key ds.length 0 a δ (by lia) h0
 rwa[d1x]at this
def z9{f:TE2}{g:List Nat}{j:En}{q:List D->Dk->Prop}{ds:List D}{a:List D}{δ:Dk}(P:Nat->List D->Dk->Prop)(h0:P 0 a δ)
 (step:∀(i:Nat) (d:D) (a:List D) (δ:Dk) (rest:List D->Dk->Prop),ds[i]?=some d->P i a δ->(∀b c,P (i+1) b c->rest b c)->f (λ_ _ _ _=>False) (.val d::zu8 j g) δ λe _ l=>a.length<1000/\rest (a++[e]) l)
 (fin:∀a δ,P ds.length a δ->q a δ):j9 f g j q ds a δ:=by
 have key:∀(k i:Nat) (a:List D) (δ:Dk),i+k=ds.length->P i a δ->j9 f g j q (ds.drop i) a δ:=by
  intro k
  induction k with
  |zero=>
   intro i a δ n p;rw[f1c (by lia)];have:i=ds.length:=by lia
   subst this;exact fin a δ p
  |succ k o=>
   intro i a δ n p;have m:i<ds.length:=by lia
   rw[i1z m];unfold j9;exact step i ds[i] a δ (λb c=>j9 f g j q (ds.drop (i+1)) b c) (by simp[m]) p λb c r=>o (i+1) b c (by lia) r
 have:=key ds.length 0 a δ (by lia) h0
 rwa[d1x]at this
theorem z0l{K:Frag}{F:Hp}:∀ns:List Int,zz5 K F (ns.map D.int) (ns.map V.int)
 | []=>zz5.nil
 |n::ns=>zz5.cons (zz4.mpr rfl) (z0l ns)
def b0y:Sp2:=λds δ q _=>∃ns:List Int,ds=[.scr (ns.map D.int)]/\ns.length<=63/\δ=none/\∀ δ',q (.bl true) δ'
end DL
namespace L2
open Spec PyProof.Rows
variable{j l:X0}{i:Nat}{xs:Array Z0}{A:A0}{b:Bool}{h h':J0}{s:Y0}{X:Cx}{pins:List (X0×Obj)}{σ:List (Option V)}{H:Hp}{scope:P4}{js:List Nat}{target iter:Expr}{it:Z0}
section
variable{prog:V0}{w:T0}{A:A0}{E:Z0->Y0->Prop}{s:Y0}
def zL2{t:X0}{x:Z0}{Q:Z0->Y0->Prop}(a:s.heap.IsTupleIter j t i)(d:s.heap.IsTuple t xs)(hx:xs[i]?=some x)
 (e:∀h',h'.IsTupleIter j t (i+1)->Heap.SameBut j s.heap h'->Q x {s with heap:=h'}):wpAny (model prog w) A (Builtin.SmallTypes.nextOf (.ref j)) Q E s:=by
 let ⟨o,ho,f,hd⟩:=id a;let ⟨g,b,_,k,c⟩:=d;refine y0 (wpAny_callSpecial?_slot a.typeIs h1d (Z1 h1d a.typeIs e1l ?_ (e1q _)));show wpAny _ _ (field (.ref j) 0 >>= _) _ _ s;refine y0 (V1 ho hd rfl ?_);refine y0 (V1 ho hd rfl ?_);refine y0 (Z2 b c ?_);simp only[j1c,hx];refine y0 (B1 ho hd (by simp) (d0 ⟨x,rfl,d0 (e _ ⟨_,j1x _ ho (j1a (j1p hd _)),(g1s ..).trans f,?_⟩ (j1d ..))⟩));rw[j1p hd];simp[G1]
def b0x{t:X0}{Q:Z0->Y0->Prop}(d:A.handled=none)(a:s.heap.IsTupleIter j t i)(f:s.heap.IsTuple t xs)(hx:xs[i]?=none)
 (g:∀h' e,Heap.ExtBut j s.heap h'->(∃o,h'.get? e=some o/\o.cls=.type "StopIteration")->E (.ref e) {s with heap:=h'}):wpAny (model prog w) A (Builtin.SmallTypes.nextOf (.ref j)) Q E s:=by
 let ⟨o,ho,k,hd⟩:=id a;let ⟨l,b,_,m,c⟩:=f;refine y0 (wpAny_callSpecial?_slot a.typeIs h1d (Z1 h1d a.typeIs e1l ?_ (e1q _)));show wpAny _ _ (field (.ref j) 0 >>= _) _ _ s;refine y0 (V1 ho hd rfl ?_);refine y0 (V1 ho hd rfl ?_);refine y0 (Z2 b c ?_);simp only[j1c,hx];refine y0 (D4 (y0 (B1 ho hd (by simp) (y0 ?_))));refine y0 (N0 (y0 (R4 rfl (N0 ?_ (by size_fits)))) (by size_fits));refine y0 (O5 ?_)
 first |rw[show A.in1.handled=none from d]|rw[d]
 exact y0 (d0 (wpAny_throw (g _ _ (((j1d ..).extBut.push _).push _) ⟨_,k1s _ rfl,rfl⟩)))
end
def y1r{prog:V0}{w:T0}(d:A.handled=none)(j t:X0)(ne:t≠j)(xs:Array Z0):
 Draws prog w A j [j,t] xs.size (λi v=>xs[i]?=some v) (λi h=>h.IsTupleIter j t i/\h.IsTuple t xs)where
 live:=λ_ _ st=>let ⟨o,ho,_⟩:=st.1;⟨o,ho⟩
 frame:=λ_ _ _ st k=>⟨st.1.at λo e=>k j (by simp) o e,let ⟨o,e,r⟩:=st.2;⟨o,k t (by simp) o e,r⟩⟩
 item:=λi s Q E b st f=>zL2 st.1 st.2 (x:=xs[i]) (by simp[b]) λg a c=>f _ g s.toks (by simp[b]) ⟨a,let ⟨o,e,r⟩:=st.2;⟨o,c.extBut _ _ ne e,r⟩⟩ c
 done:=λs Q E st l=>b0x d st.1 st.2 (by simp) l
def zj9(b:Bool)(h:J0)(l:X0)(xs:Array Z0):Prop:=match b with |true=>h.IsTuple l xs |false=>h.IsList l xs
def zi7(b:Bool)(h:J0)(j l:X0)(i:Nat):Prop:=match b with |true=>h.IsTupleIter j l i |false=>h.IsListIter j l i
def itN(b:Bool):String:=match b with |true=>"tuple_iterator" |false=>"list_iterator"
def w0i(b:Bool){prog:V0}{w:T0}(a:A.handled=none)(j l:X0)(ne:l≠j)(xs:Array Z0):
 Draws prog w A j [j,l] xs.size (λi v=>xs[i]?=some v) (λi h=>zi7 b h j l i/\zj9 b h l xs):=by
 cases b
 .exact Draws.list a j l ne xs
 .exact y1r a j l ne xs
def zi7.obj(q:zi7 b h j l i):∃o,h.get? j=some o/\o.cls=.type (itN b)/\o.data=.fields #[.ref l,.int i 0]:=by
 cases b
 .let ⟨o,e,c,d⟩:=q;exact ⟨o,e,c,d⟩
 .let ⟨o,e,c,d⟩:=q;exact ⟨o,e,c,d⟩
def zi7.of{o:Obj}(e:h.get? j=some o)(c:o.cls=.type (itN b))(d:o.data=.fields #[.ref l,.int i 0]):zi7 b h j l i:=by
 cases b
 .exact ⟨o,e,c,d⟩
 .exact ⟨o,e,c,d⟩
def zi7.zo2(q:zi7 b h j l i)(k:∀o,h.get? j=some o->h'.get? j=some o):zi7 b h' j l i:=by
 let ⟨o,e,c,d⟩:=q.obj;exact .of (k o e) c d
def zj9.obj(q:zj9 b h l xs):∃o,h.get? l=some o/\o.cls=.type (if b=true then "tuple" else "list")/\∃n,o.data=.seq xs n:=by
 cases b
 .let ⟨o,e,c,n,d⟩:=q;exact ⟨o,e,c,n,d⟩
 .let ⟨o,e,c,n,d⟩:=q;exact ⟨o,e,c,n,d⟩
def zj9.zo2(q:zj9 b h l xs)(k:∀o,h.get? l=some o->h'.get? l=some o):zj9 b h' l xs:=by
 cases b
 .let ⟨o,e,c,n,d⟩:=q;exact ⟨o,k o e,c,n,d⟩
 .let ⟨o,e,c,n,d⟩:=q;exact ⟨o,k o e,c,n,d⟩
def m0r{prog:V0}{w:T0}{A:A0}{E:Z0->Y0->Prop}{Q:Z0->Y0->Prop}(a:zj9 b s.heap l xs)
 (h:Q (.ref s.heap.objs.size) {s with heap:=s.heap.push {cls:=.type (itN b),data:=.fields #[.ref l,.int 0 0]}}):wpAny (model prog w) A (pyIter (.ref l)) Q E s:=by
 cases b
 .exact A4 a h
 .exact E4 a h
open AutoSeq1 (wpAny_loadPart')
abbrev enH(b:Bool)(h:J0)(l:X0):J0:=h.push {cls:=.type (itN b),data:=.fields #[.ref l,.int 0 0]}
def y1q(l:X0)(xs:Array Z0)(n:Nat)(b:Option X0)(sl:Array (Option Z0)):
 Meets (Builtin.«enumerate.__new__» ⟨[.type "enumerate",.ref l],[]⟩) (λ_ R s=>s.heap.get? l=some {cls:=.type "tuple",dict:=b,data:=.seq xs n,slots:=sl}/\
  R (.ok (.ret (.ref (enH true s.heap l).objs.size))) {s with heap:=(enH true s.heap l).push {cls:=.type "enumerate",data:=.fields #[.none,.bool false,.ref s.heap.objs.size,G1 0,.none,.none]}}):=
 .of_wp λprog w A R s h=>by
  let ⟨i,g,d,tk,os⟩:=s;let ⟨a,h⟩:=h;have e:=sub_enumerate;have f:Heap.IsTuple (Shared.heap ⟨i,g,d,tk,os⟩) l xs:=⟨_,a,rfl,n,rfl⟩
  wp_walk using M4 a
  refine wpAny_stack_any λst=>d0 ?_
  split
  .rename_i c _ _ _ _ _;cases (c==Value.type "enumerate")<;>(wp_walk using M4 a,E4 f;exact ⟨_,rfl,h⟩)
  .wp_walk using M4 a,E4 f
   exact ⟨_,rfl,h⟩
section
variable{prog:V0}{w:T0}{A:A0}{E:Z0->Y0->Prop}{s:Y0}
def t1v{Q:Z0->Y0->Prop}(e:s.heap.IsTuple l xs)
 (h:∀h',IsEnum h' (s.heap.objs.size+1) s.heap.objs.size 0 .none->h'.IsTupleIter s.heap.objs.size l 0->(∀b o,s.heap.get? b=some o->h'.get? b=some o)->Q (.ref (s.heap.objs.size+1)) {s with heap:=h'}):
 wpAny (model prog w) A (call (.type "enumerate") [.ref l]) Q E s:=by
 let ⟨⟨c,a,i,sl⟩,f,g,n,hd⟩:=e;cases g;cases hd;refine callType_new F.called_enumerate (by decide) (F.typeCall_enumerate_1 _) (F.newCall_enumerate_1 _) (λobj=>F.args_object_init_2 obj _) F.entry_enumerate_new (y1q l xs n a sl) ⟨f,?_⟩;have hz:(enH true s.heap l).objs.size=s.heap.objs.size+1:=j1j ..;have d:=k1s (enH true s.heap l) (o:={cls:=.type "enumerate",data:=.fields #[.none,.bool false,.ref s.heap.objs.size,G1 0,.none,.none]}) rfl;rw[hz]at d ⊢;exact ⟨⟨_,d,rfl⟩,h _ d ⟨_,k1w _ (k1s _ rfl),rfl,rfl⟩ λb o x=>k1w _ (k1w _ x)⟩
def n1s{Q:Z0->Y0->Prop}(e:zj9 b s.heap l xs)
 (h:∀h',IsEnum h' (s.heap.objs.size+1) s.heap.objs.size 0 .none->zi7 b h' s.heap.objs.size l 0->(∀b o,s.heap.get? b=some o->h'.get? b=some o)->Q (.ref (s.heap.objs.size+1)) {s with heap:=h'}):
 wpAny (model prog w) A (call (.type "enumerate") [.ref l]) Q E s:=by
 cases b
 .exact call_enumerate_list e λh' a c _ d=>h h' a c d
 .exact t1v e λh' a c d=>h h' a c d
end
abbrev zp1(b:Bool)(h:J0)(l:X0):J0:=h.push {cls:=.type (itN b),data:=.fields #[.ref l,.int 0 0]}
abbrev zp2(b b':Bool)(h:J0)(l l':X0):J0:=(zp1 b h l).push {cls:=.type (itN b'),data:=.fields #[.ref l',.int 0 0]}
abbrev zp3(b b':Bool)(h:J0)(l l':X0):J0:=(zp2 b b' h l l').push {cls:=.type "tuple",data:=.seq #[.ref h.objs.size,.ref (zp1 b h l).objs.size]}
abbrev zp4(b b':Bool)(h:J0)(l l':X0):J0:=(zp3 b b' h l l').push {cls:=.type "tuple",data:=.seq #[.none,.none]}
abbrev zp5(b b':Bool)(h:J0)(l l':X0):J0:=(zp4 b b' h l l').push {cls:=.type "zip",data:=.fields #[.none,.bool false,.bool false,.ref (zp2 b b' h l l').objs.size,.ref (zp3 b b' h l l').objs.size]}
def t1u(b c:Bool)(l a:X0)(xs f:Array Z0):
 Meets (Builtin.«zip.__new__» ⟨[.type "zip",.ref l,.ref a],[]⟩) (λ_ R s=>zj9 b s.heap l xs/\zj9 c s.heap a f/\R (.ok (.ret (.ref (zp4 b c s.heap l a).objs.size))) {s with heap:=zp5 b c s.heap l a}):=
 .of_wp λprog w A R s h=>by
  let ⟨i,g,d,tk,os⟩:=s;let ⟨k,m,h⟩:=h;have j:=sub_zip;have n:zj9 b (Shared.heap ⟨i,g,d,tk,os⟩) l xs:=k;have p:zj9 c (Shared.heap ⟨zp1 b i l,g,d,tk,os⟩) a f:=m.zo2 λo e=>k1w _ e
  wp_walk using m0r n,m0r p
  exact ⟨_,rfl,h⟩
section
variable{prog:V0}{w:T0}{A:A0}{E:Z0->Y0->Prop}{s:Y0}
def n1r{d:Bool}{a:X0}{f:Array Z0}{Q:Z0->Y0->Prop}(h1:zj9 b s.heap l xs)(i:zj9 d s.heap a f)
 (h:∀h',IsZip h' (s.heap.objs.size+4) (s.heap.objs.size+2) (s.heap.objs.size+3) .none->IsPair h' (s.heap.objs.size+2) (.ref s.heap.objs.size) (.ref (s.heap.objs.size+1))->IsPair h' (s.heap.objs.size+3) .none .none->
  zi7 b h' s.heap.objs.size l 0->zi7 d h' (s.heap.objs.size+1) a 0->(∀c o,s.heap.get? c=some o->h'.get? c=some o)->Q (.ref (s.heap.objs.size+4)) {s with heap:=h'}):
 wpAny (model prog w) A (call (.type "zip") [.ref l,.ref a]) Q E s:=by
 refine callType_new F.called_zip (by decide) (F.typeCall_zip_2 _ _) (F.newCall_zip_2 _ _) (λobj=>F.args_object_init_3 obj _ _) F.entry_zip_new (t1u b d l a xs f) ⟨h1,i,?_⟩;have z1:(zp1 b s.heap l).objs.size=s.heap.objs.size+1:=j1j ..;have z2:(zp2 b d s.heap l a).objs.size=s.heap.objs.size+2:=by rw[j1j,z1]
 have z3:(zp3 b d s.heap l a).objs.size=s.heap.objs.size+3:=by rw[j1j,z2]
 have g:(zp4 b d s.heap l a).objs.size=s.heap.objs.size+4:=by rw[j1j,z3]
 have u:∀{h:J0} {o} {c u},h.get? c=some u->(h.push o).get? c=some u:=λe=>k1w _ e
 have g5:(zp5 b d s.heap l a).get? (zp4 b d s.heap l a).objs.size=some _:=k1s _ rfl;have g4:(zp5 b d s.heap l a).get? (zp3 b d s.heap l a).objs.size=some _:=u (k1s _ rfl);have g3:(zp5 b d s.heap l a).get? (zp2 b d s.heap l a).objs.size=some _:=u (u (k1s _ rfl));have g2:(zp5 b d s.heap l a).get? (zp1 b s.heap l).objs.size=some _:=u (u (u (k1s _ rfl)));have g1:(zp5 b d s.heap l a).get? s.heap.objs.size=some _:=u (u (u (u (k1s _ rfl))));rw[z2,z3,g]at g5;rw[z1,z2]at g3;rw[z3]at g4;rw[z1]at g2;rw[g];exact ⟨⟨_,g5,rfl⟩,h _ g5 g3 g4 (.of g1 rfl rfl) (.of g2 rfl rfl) λc o x=>u (u (u (u (u x))))⟩
structure ZA(z TI TO j1 j2:X0):Prop where
 a:TI≠z
 b:TO≠z
 c:j1≠z
 d:j2≠z
 e:TI≠TO
 f:TI≠j1
 g:TI≠j2
 h:TO≠j1
 i:TO≠j2
 j:j1≠j2
def n1q{z TI TO X j2:X0}{f1 f2:List X0}{n1 n2 k:Nat}{P1 P2:Nat->Z0->Prop}{S1 S2:Nat->J0->Prop}{a0 b0:Z0}{Q:Z0->Y0->Prop}(D1:Draws prog w A X f1 n1 P1 S1)(D2:Draws prog w A j2 f2 n2 P2 S2)
 (Z:ZA z TI TO X j2) (o1:∀c∈f1,c≠z/\c≠TO/\c≠j2) (o2:∀c∈f2,c≠z/\c≠TO/\c≠X)
 (hz:IsZip s.heap z TI TO .none) (ag:IsPair s.heap TI (.ref X) (.ref j2)) (ah:IsPair s.heap TO a0 b0) (s1:S1 k s.heap) (s2:S2 k s.heap) (l1:k<n1) (l2:k<n2)
 (hQ:∀x y h' tk,P1 k x->P2 k y->IsZip h' z TI TO (G1 s.heap.objs.size)->IsPair h' TO x y->S1 (k+1) h'->S2 (k+1) h'->IsPair h' s.heap.objs.size x y->
  (∀c o,c≠z->c≠TO->c≠X->c≠j2->s.heap.get? c=some o->h'.get? c=some o)->Q (.ref s.heap.objs.size) {s with heap:=h',toks:=tk}):
 wpAny (model prog w) A (Builtin.«zip.__next__» ⟨[.ref z],[]⟩) (λfin s'=>∃v,fin=.done (.ret v)/\Q v s') E s:=by
 let ⟨hp,ge,dr,ai,os⟩:=s;show wpAny _ _ (field (.ref z) 2 >>= _) _ _ _;refine y0 (V1 hz rfl rfl ?_);refine y0 (V1 hz rfl rfl (y0 (Z2 ag rfl ?_)));refine y0 ?_;refine y0 (V1 hz rfl rfl (d0 ?_));refine y0 (D4 (y0 (V1 hz rfl rfl (y0 (T1 hz (by simp) λaa L f=>?_)))));refine y0 ?_;refine y0 (y0 (P5 ?_));have M:=D1.frame _ _ _ s1 λc p o e=>f.extBut c o (o1 c p).1 e
 refine y0 (D1.item k ⟨aa,ge,dr,ai,os⟩ _ _ l1 M λx aj ab px N g=>d0 ?_);have r:=g.extBut _ _ Z.h (f.extBut _ _ Z.b ah);refine y0 (Z2 r rfl (y0 (M5 r λac G j=>?_)));refine y0 (Q4 (d0 (y0 (y0 (P5 ?_)))));have O:=D2.frame _ _ _ s2 λc p o e=>j.extBut c o (o2 c p).2.1 (g.extBut c o (o2 c p).2.2 (f.extBut c o (o2 c p).1 e))
 refine y0 (D2.item k ⟨ac,ge,dr,ab,os⟩ _ _ l2 O λy ak ae py P l=>d0 ?_);have t:=l.extBut _ _ Z.i G;refine y0 (Z2 t rfl (y0 (M5 t λn a m=>?_)));replace a:IsPair n TO x y:=a;refine y0 (Q4 (d0 (d0 (y0 (Z2 a rfl (y0 (wpAny_newTuple ?_)))))));have af:n.objs.size=hp.objs.size:=by rw[m.1,l.1,j.1,g.1,f.1]
 have u:=m.extBut _ _ Z.b.symm (l.extBut _ _ Z.d.symm (j.extBut _ _ Z.b.symm (g.extBut _ _ Z.c.symm L)));have R:∀c o,c≠z->c≠TO->c≠X->c≠j2->hp.get? c=some o->n.get? c=some o:=λc o c1 c2 c3 c4 e=>
  m.extBut _ _ c2 (l.extBut _ _ c4 (j.extBut _ _ c2 (g.extBut _ _ c3 (f.extBut _ _ c1 e))))
 have I:=k1n u;have S:=D1.frame _ _ _ N λc p o e=>m.extBut c o (o1 c p).2.1 (l.extBut c o (o1 c p).2.2 (j.extBut c o (o1 c p).2.1 e))
 have U:=D2.frame _ _ _ P λc p o e=>m.extBut c o (o2 c p).2.1 e
 refine y0 ?_;have V:IsZip (n.push {cls:=.type "tuple",data:=.seq #[x,y]}) z TI TO .ellipsis:=k1w _ u;refine y0 (T1 V (by simp) λal W B=>?_);refine T1 W (by simp) λJ C D=>?_
 have up:∀c o,c≠z->n.get? c=some o->J.get? c=some o:=λc o c1 e=>D.extBut _ _ c1 (B.extBut _ _ c1 (k1w _ e))
 have F:=D.extBut _ _ (i1p I) (B.extBut _ _ (i1p I) (k1s _ rfl));rw[af]at C F;refine d0 ⟨_,rfl,?_⟩;rw[af];exact hQ x y J ae px py C (up _ _ Z.b a) (D1.frame _ _ _ S λc p o e=>up c o (o1 c p).1 e) (D2.frame _ _ _ U λc p o e=>up c o (o2 c p).1 e) F λc o c1 c2 c3 c4 e=>up c o c1 (R c o c1 c2 c3 c4 e)
end
section
variable{prog:V0}{w:T0}{A:A0}{E:Z0->Y0->Prop}{s:Y0}
def zL3{z TI TO C G:X0}{f1 f2:List X0}{n1 n2 k:Nat}{P1 P2:Nat->Z0->Prop}{P R:Nat->J0->Prop}{a0 b0:Z0}{Q:Fin->Y0->Prop}(S:Draws prog w A C f1 n1 P1 P)(D2:Draws prog w A G f2 n2 P2 R)
 (Z:ZA z TI TO C G) (o1:∀c∈f1,c≠z/\c≠TO/\c≠G) (U:∀c∈f2,c≠z/\c≠TO/\c≠C)
 (hz:IsZip s.heap z TI TO .none) (V:IsPair s.heap TI (.ref C) (.ref G)) (W:IsPair s.heap TO a0 b0) (s1:P k s.heap) (s2:R k s.heap) (le:k=n1\/(k<n1/\k=n2))
 (hE:∀h' e tk,(∀c o,c≠z->c≠TO->c≠C->c≠G->s.heap.get? c=some o->h'.get? c=some o)->(∃o,h'.get? e=some o/\o.cls=.type "StopIteration")->E (.ref e) {s with heap:=h',toks:=tk}):
 wpAny (model prog w) A (Builtin.«zip.__next__» ⟨[.ref z],[]⟩) Q E s:=by
 let ⟨hp,ge,X,I,os⟩:=s;show wpAny _ _ (field (.ref z) 2 >>= _) _ _ _;refine y0 (V1 hz rfl (x:=.bool false) rfl ?_);show wpAny _ _ (field (.ref z) 3 >>= _) _ _ _;refine y0 (V1 hz rfl (x:=.ref TI) rfl (y0 (Z2 V rfl ?_)));show wpAny _ _ (Builtin.SmallTypes.ownedTupleIsFree (.ref z) >>= _) _ _ _;refine y0 ?_;unfold Builtin.SmallTypes.ownedTupleIsFree;refine y0 (V1 hz rfl (x:=.none) rfl (d0 ?_));simp only[N1];refine y0 (D4 (y0 (V1 hz rfl (x:=.ref TO) rfl (y0 (T1 hz (by simp) λi m g=>?_)))));replace m:IsZip i z TI TO .ellipsis:=m;replace g:Heap.SameBut z hp i:=g;refine y0 ?_;simp only[a1x,List.zipIdx_nil,e1n,List.forIn_nil];refine y0 (y0 (P5 ?_));show wpAny _ _ (Builtin.SmallTypes.nextOf (.ref C) >>= _) _ _ _;have t:P k i:=S.frame _ _ _ s1 λc M o e=>g.extBut c o (o1 c M).1 e
 rcases le with rfl |⟨l1,rfl⟩
 .refine y0 (S.done ⟨i,ge,X,I,os⟩ _ _ t λj e a zz=>?_);let ⟨oe,p,u⟩:=zz;replace a:Heap.ExtBut C i j:=a;have v:IsZip j z TI TO .ellipsis:=a _ _ Z.c.symm m;have J:e≠z:=λq=>by subst q;rw[v]at p;cases p;simp at u
  refine T1 v (by simp) λl _ f=>hE l e I (λc o c1 _ c3 _ q=>f.extBut _ _ c1 (a _ _ c3 (g.extBut _ _ c1 q))) ⟨oe,f.extBut _ _ J p,u⟩
 .refine y0 (S.item k ⟨i,ge,X,I,os⟩ _ _ l1 t λx j D px aa a=>d0 ?_);replace a:Heap.SameBut C i j:=a;have r:IsPair j TO a0 b0:=a.extBut _ _ Z.h (g.extBut _ _ Z.b W);refine y0 (Z2 r rfl (y0 (M5 r λl O f=>?_)));replace f:Heap.SameBut TO j l:=f;refine y0 (Q4 (d0 (y0 (y0 (P5 ?_)))));show wpAny _ _ (Builtin.SmallTypes.nextOf (.ref G) >>= _) _ _ _;have L:R k l:=D2.frame _ _ _ s2 λc M o e=>f.extBut c o (U c M).2.1 (a.extBut c o (U c M).2.2 (g.extBut c o (U c M).1 e))
  refine y0 (D2.done ⟨l,ge,X,D,os⟩ _ _ L λF e n zy=>?_);let ⟨oe,p,u⟩:=zy;replace n:Heap.ExtBut G l F:=n;have y:IsZip F z TI TO .ellipsis:=n _ _ Z.d.symm (f.extBut _ _ Z.b.symm (a.extBut _ _ Z.c.symm m));have J:e≠z:=λq=>by subst q;rw[y]at p;cases p;simp at u
  refine T1 y (by simp) λN _ B=>hE N e D (λc o c1 c2 c3 c4 q=>B.extBut _ _ c1 (n _ _ c4 (f.extBut _ _ c2 (a.extBut _ _ c3 (g.extBut _ _ c1 q))))) ⟨oe,B.extBut _ _ J p,u⟩
end
def Inv.zo8{t':Nat}{ch:List X0}(I:Inv X pins σ H s)(k:∀b o,b∉ch->s.heap.get? b=some o->h'.get? b=some o)(f:∀b∈ch,zd4 X pins H b):
 Inv X pins σ H {s with heap:=h',toks:=t'}:=by
 have d:∀b u,H b=some u->b∉ch:=λb u e z=>by rw[(f b z).1]at e;cases e
 refine I.step (g':=s.gens) (d':=s.drawn) (ch:=ch) (λb g=>?_) (λb o _ _ a e _=>k b o a e) (λb o _ _ a e _=>⟨o.slots,k b o a e⟩) (λ_ _ _ _ n=>n)
  (λb o a e=>⟨o,k b o a e⟩) (λ_ _ e=>e) (λ_ _ _ e=>e) (λb t e=>⟨#[],by rw[e];simp⟩) (λm hm=>?_) (λb u e=>?_) I.bare
 .let ⟨_,f1,_,i,j,f5⟩:=f b g;exact ⟨i,f1,j,f5⟩
 .let ⟨o,l,p,ho,r⟩:=hm;exact ⟨o,l,p,k _ o (λz=>(f _ z).2.1 rfl) ho,r⟩
 .refine (I.hok b u e).zo2 (λc v a q=>k c v ?_ q) (λ_ q=>q) λ_ _ q=>q
  rcases a with z |z
  .rw[z];exact d b u e
  .exact d c _ z
def Sq(K:Fg)(b:Bool)(H:Hp)(a:X0)(xs:List V):Prop:=match b with |true=>SqT K H a xs |false=>SqL K H a xs
def Inv.sq{a:X0}{xs:List V}(I:Inv X pins σ H s)(h:Sq X.K b H a xs):∃c:List Z0,zy8 xs c/\zj9 b s.heap a c.toArray/\xs.length<=sizeLine:=by
 cases b
 .let ⟨c,r,p,z⟩:=I.list h;exact ⟨c,r,p.isList,z⟩
 .let ⟨c,r,p,z⟩:=I.tuple h;exact ⟨c,r,p,z⟩
def Inv.zc8{a:X0}{xs c:List V}(I:Inv X pins σ H s)(h:Sq X.K b H a xs)(h':Sq X.K b H a c):xs=c:=by
 cases b
 .exact I.zl1 h h'
 .exact I.zk8 h h'
def Itz(K:Fg)(b b':Bool)(a a':X0):It:=
 ⟨λi H=>∃xs ys x y,Sq K b H a xs/\xs[i]?=some x/\Sq K b' H a' ys/\ys[i]?=some y,
  λi H v H'=>∃p x y,H p=none/\v=.ref p/\H'=upd H p (.tup [x,y])/\(∀xs,Sq K b H a xs->xs[i]?=some x)/\∀ys,Sq K b' H a' ys->ys[i]?=some y,
  λi H=>∃xs ys,Sq K b H a xs/\Sq K b' H a' ys/\(xs.length=i\/(i<xs.length/\ys.length=i))⟩
def zipT(b b':Bool)(a a' z TI TO j1 j2:X0)(i:Nat)(h:J0):Prop:=IsZip h z TI TO .none/\IsPair h TI (.ref j1) (.ref j2)/\(∃u v,IsPair h TO u v)/\zi7 b h j1 a i/\zi7 b' h j2 a' i
def t1t{P:V0}{w:T0}{K:Fg}{S:List Expr}{x1}{pos:Pos}(b b':Bool)(a M z TI TO r t:X0)(Z:ZA z TI TO r t)(na:a≠z/\a≠TO/\a≠r/\a≠t)(B:M≠z/\M≠TO/\M≠r/\M≠t):
 Turn P w K (.Tuple S x1 pos) (Itz K b b' a M) [z,TI,TO,r,t] z (zipT b b' a M z TI TO r t)where
 mem:=by simp
 obj:=λi h st c n=>by
  let ⟨hz,p,⟨u,v,C⟩,N,O⟩:=st;have m:c=z\/c=TI\/c=TO\/c=r\/c=t:=by simpa using n
  rcases m with rfl |rfl |rfl |rfl |rfl
  .exact ⟨_,hz,λv q=>by simp at q⟩
  .exact ⟨_,p,λv q=>by simp at q⟩
  .exact ⟨_,C,λv q=>by simp at q⟩
  .let ⟨o,e,_,d⟩:=N.obj;exact ⟨o,e,λv q=>by rw[d]at q;cases q⟩
  .let ⟨o,e,_,d⟩:=O.obj;exact ⟨o,e,λv q=>by rw[d]at q;cases q⟩
 keep:=λi h U st k=>by
  let ⟨hz,p,⟨u,v,C⟩,N,O⟩:=st;exact ⟨k z (by simp) _ hz,k TI (by simp) _ p,⟨u,v,k TO (by simp) _ C⟩,N.zo2 λo e=>k r (by simp) o e,O.zo2 λo e=>k t (by simp) o e⟩
 item:=by
  intro X hP hw hK n i G s σ H E I hf st hg;subst hP hw hK;let ⟨xs,ys,x,y,q1,e1,q2,e2⟩:=hg;let ⟨J,r1,p1,z1⟩:=I.sq q1;let ⟨D,r2,p2,z2⟩:=I.sq q2;let ⟨u1,g1,v1⟩:=r1.get e1;let ⟨u2,g2,v2⟩:=r2.get e2;let ⟨hz,p,⟨u,v,C⟩,N,O⟩:=st;have l1:=(k1t.mp g1).1;have l2:=(k1t.mp g2).1;have V:X.A.in1.handled=none:=I.ok.hd n;have D1:=w0i b (prog:=X.prog) (w:=X.w) V r a na.2.2.1 J.toArray;have D2:=w0i b' (prog:=X.prog) (w:=X.w) V t M B.2.2.2 D.toArray;have hT:s.TypeIs (.ref z) "zip":=⟨_,hz,rfl⟩;unfold pyNext;refine y0 (T3 (wpAny_callSpecial?_slot (name:=Str.ofString "__next__") hT e1k (Z1 e1k hT F.entry_zip_next
   (n1q D1 D2 Z (λc n=>?_) (λc n=>?_) hz p C ⟨N,p1⟩ ⟨O,p2⟩ (by simpa using l1) (by simpa using l2) λx' y' U tk px py ae aa af ag ah kk=>d0 ⟨_,rfl,?_⟩) (F.args_zip_next_1 _))))
  .have:c=r\/c=a:=by simpa using n
   rcases this with rfl |rfl
   .exact ⟨Z.c,Z.h.symm,Z.j⟩
   .exact ⟨na.1,na.2.1,na.2.2.2⟩
  .have:c=t\/c=M:=by simpa using n
   rcases this with rfl |rfl
   .exact ⟨Z.d,Z.i.symm,Z.j.symm⟩
   .exact ⟨B.1,B.2.1,B.2.2.1⟩
  have ex:x'=u1:=by
   grind
  have ey:y'=u2:=by
   have ab:D.toArray[i]?=some y':=py;rw[g1f,g2]at ab;exact (i1q ab).symm
  subst ex ey;refine wpAny_letOwnedTupleGo_zip (s:={s with heap:=U,toks:=tk}) ae λL R l=>?_
  replace l:Heap.SameBut z U L:=l;have ai:H s.heap.objs.size=none:=I.hok.fresh (k1q _);have Il:Inv X G σ (upd H s.heap.objs.size (.tup [x,y])) {s with heap:=s.heap.push {cls:=.type "tuple",data:=.seq #[x',y']}}:=I.laid (t':=s.toks) (λb u e=>k1w _ e) (k1q _)
   ⟨by show 2<=sizeLine;decide,[x',y'],.cons v1 (.cons v2 .nil),⟨_,k1s _ rfl,rfl,⟨_,rfl⟩,rfl⟩⟩
  have lt:∀{c o},s.heap.get? c=some o->c≠s.heap.objs.size:=λe=>k1i (k1n e)
  have nT:∀c∈[z,TI,TO,r,t],c≠s.heap.objs.size:=λc n=>by
   have m:c=z\/c=TI\/c=TO\/c=r\/c=t:=by simpa using n
   rcases m with rfl |rfl |rfl |rfl |rfl
   .exact lt hz
   .exact lt p
   .exact lt C
   .let ⟨o,e,_⟩:=N.obj;exact lt e
   .let ⟨o,e,_⟩:=O.obj;exact lt e
  have ac:∀c∈[z,TI,TO,r,t],upd H s.heap.objs.size (.tup [x,y]) c=none:=λc n=>by rw[j0 (nT c n)];exact (hf c n).1
  have If:Inv X G σ (upd H s.heap.objs.size (.tup [x,y])) {s with heap:=L,toks:=tk}:=Inv.zo8 (s:={s with heap:=s.heap.push {cls:=.type "tuple",data:=.seq #[x',y']}}) (ch:=[z,TI,TO,r,t]) (h':=L) (t':=tk) Il (λc o n e=>by
   have m:c≠z/\c≠TI/\c≠TO/\c≠r/\c≠t:=by simpa using n
   rcases e1s e with ⟨rfl,rfl⟩|e
   .exact l.extBut _ _ m.1 ah
   .exact l.extBut _ _ m.1 (kk c o m.1 m.2.2.1 m.2.2.2.1 m.2.2.2.2 e)) λc n=>⟨ac c n,(hf c n).2⟩
  refine ⟨.ref s.heap.objs.size,_,If,rfl,⟨s.heap.objs.size,x,y,ai,rfl,rfl,λzs hq=>by rw[I.zc8 hq q1];exact e1,λzs hq=>by rw[I.zc8 hq q2];exact e2⟩,?_,ac⟩;exact ⟨R,l.extBut _ _ Z.a (kk _ _ Z.a Z.e Z.f Z.g p),⟨_,_,l.extBut _ _ Z.b aa⟩,af.1.zo2 λo e=>l.extBut _ _ Z.c e,ag.1.zo2 λo e=>l.extBut _ _ Z.d e⟩
 done:=by
  intro X hP hw hK n i G s σ H E I hf st hg;subst hP hw hK;let ⟨xs,ys,q1,q2,le⟩:=hg;let ⟨J,r1,p1,z1⟩:=I.sq q1;let ⟨D,r2,p2,z2⟩:=I.sq q2;let ⟨hz,p,⟨u,v,C⟩,N,O⟩:=st;have V:X.A.in1.handled=none:=I.ok.hd n;have D1:=w0i b (prog:=X.prog) (w:=X.w) V r a na.2.2.1 J.toArray;have D2:=w0i b' (prog:=X.prog) (w:=X.w) V t M B.2.2.2 D.toArray;have hT:s.TypeIs (.ref z) "zip":=⟨_,hz,rfl⟩;have ak:=r1.length;have al:=r2.length;unfold pyNext;refine y0 (T3 (wpAny_callSpecial?_slot (name:=Str.ofString "__next__") hT e1k (Z1 e1k hT F.entry_zip_next
   (zL3 D1 D2 Z (λc n=>?_) (λc n=>?_) hz p C ⟨N,p1⟩ ⟨O,p2⟩ ?_ λU e tk kk ⟨o,ho,aj⟩=>?_) (F.args_zip_next_1 _))))
  .have:c=r\/c=a:=by simpa using n
   rcases this with rfl |rfl
   .exact ⟨Z.c,Z.h.symm,Z.j⟩
   .exact ⟨na.1,na.2.1,na.2.2.2⟩
  .have:c=t\/c=M:=by simpa using n
   rcases this with rfl |rfl
   .exact ⟨Z.d,Z.i.symm,Z.j.symm⟩
   .exact ⟨B.1,B.2.1,B.2.2.1⟩
  .simp only[j1m];lia
  .refine y0 (p4 (T:="StopIteration") (b:=true) ⟨o,ho,aj⟩ p5 (d0 ⟨rfl,?_⟩));exact I.zo8 (ch:=[z,TI,TO,r,t]) (h':=U) (t':=tk) (λc o n e=>by
    have m:c≠z/\c≠TI/\c≠TO/\c≠r/\c≠t:=by simpa using n
    exact kk c o m.1 m.2.2.1 m.2.2.2.1 m.2.2.2.2 e) hf
 self:=λA i s Q E st h=>wpAny_pyIter_zip st.1 h
def Ite(K:Fg)(b:Bool)(a:X0):It:=
 ⟨λi H=>∃xs x,Sq K b H a xs/\xs[i]?=some x,
  λi H v H'=>∃p x,H p=none/\v=.ref p/\H'=upd H p (.tup [.int i,x])/\∀xs,Sq K b H a xs->xs[i]?=some x,
  λi H=>∃xs,Sq K b H a xs/\xs.length=i⟩
def z61(b:Bool)(a e j:X0)(i:Nat)(h:J0):Prop:=(∃old,IsEnum h e j (i:Int) old)/\zi7 b h j a i
def y1p{P:V0}{w:T0}{K:Fg}{B:List Expr}{x1}{pos:Pos}(b:Bool)(a e j:X0)(y:e≠j)(na:a≠e/\a≠j):
 Turn P w K (.Tuple B x1 pos) (Ite K b a) [e,j] e (z61 b a e j)where
 mem:=by simp
 obj:=λi h st c l=>by
  let ⟨⟨old,r⟩,t⟩:=st;have g:c=e\/c=j:=by simpa using l
  rcases g with rfl |rfl
  .exact ⟨_,r,λv q=>by simp at q⟩
  .let ⟨o,e,_,d⟩:=t.obj;exact ⟨o,e,λv q=>by rw[d]at q;cases q⟩
 keep:=λi h C st k=>by
  let ⟨⟨old,r⟩,t⟩:=st;exact ⟨⟨old,k e (by simp) _ r⟩,t.zo2 λo e=>k j (by simp) o e⟩
 item:=by
  intro X M N O l i n s R H E I J st S;subst M N O;let ⟨xs,x,L,e1⟩:=S;let ⟨m,U,p1,z1⟩:=I.sq L;let ⟨u1,g1,v1⟩:=U.get e1;let ⟨⟨old,r⟩,t⟩:=st;have l1:=(k1t.mp g1).1;have V:X.A.in1.handled=none:=I.ok.hd l;have Z:=w0i b (prog:=X.prog) (w:=X.w) V j a na.2 m.toArray;refine wpAny_pyNext_enum_itemD Z r ⟨t,p1⟩ (by simpa using l1) y (by simp[y,na.1.symm]) λD C tk px ho aa ab af kk=>⟨_,rfl,?_⟩
  have ex:D=u1:=by
   have F:m.toArray[i]?=some D:=px;rw[g1f,g1]at F;exact (i1q F).symm
  subst ex;refine wpAny_letOwnedTupleGo_enum (s:={s with heap:=C,toks:=tk+1}) ho λp z f=>?_
  replace f:Heap.SameBut e C p:=f;have ac:H s.heap.objs.size=none:=I.hok.fresh (k1q _);have Il:Inv X n R (upd H s.heap.objs.size (.tup [.int i,x])) {s with heap:=s.heap.push {cls:=.type "tuple",data:=.seq #[.int i tk,D]}}:=I.laid (t':=s.toks) (λb u e=>k1w _ e) (k1q _)
   ⟨by show 2<=sizeLine;decide,[.int i tk,D],.cons ⟨tk,rfl⟩ (.cons v1 .nil),⟨_,k1s _ rfl,rfl,⟨_,rfl⟩,rfl⟩⟩
  have lt:∀{c o},s.heap.get? c=some o->c≠s.heap.objs.size:=λe=>k1i (k1n e)
  have nT:∀c∈[e,j],c≠s.heap.objs.size:=λc l=>by
   have g:c=e\/c=j:=by simpa using l
   rcases g with rfl |rfl
   .exact lt r
   .let ⟨o,e,_⟩:=t.obj;exact lt e
  have G:∀c∈[e,j],upd H s.heap.objs.size (.tup [.int i,x]) c=none:=λc l=>by rw[j0 (nT c l)];exact (J c l).1
  have If:Inv X n R (upd H s.heap.objs.size (.tup [.int i,x])) {s with heap:=p,toks:=tk+1}:=Inv.zo8 (s:={s with heap:=s.heap.push {cls:=.type "tuple",data:=.seq #[.int i tk,D]}}) (ch:=[e,j]) (h':=p) (t':=tk+1) Il (λc o l q=>by
   have g:c≠e/\c≠j:=by simpa using l
   rcases e1s q with ⟨rfl,rfl⟩|q
   .exact f.extBut _ _ g.1 ab
   .exact f.extBut _ _ g.1 (kk c o g.1 g.2 q)) λc l=>⟨G c l,(J c l).2⟩
  refine ⟨.ref s.heap.objs.size,_,If,rfl,⟨s.heap.objs.size,x,ac,rfl,rfl,λzs hq=>by rw[I.zc8 hq L];exact e1⟩,?_,G⟩;exact ⟨⟨_,by simpa using z⟩,aa.1.zo2 λo q=>f.extBut _ _ y.symm q⟩
 done:=by
  intro X M N O l i n s R H E I J st S;subst M N O;let ⟨xs,L,le⟩:=S;let ⟨m,U,p1,z1⟩:=I.sq L;let ⟨⟨old,r⟩,t⟩:=st;have V:X.A.in1.handled=none:=I.ok.hd l;have Z:=w0i b (prog:=X.prog) (w:=X.w) V j a na.2 m.toArray;have ae:=U.length;have en:m.toArray.size=i:=by simp only[j1m];lia
  refine wpAny_pyNext_enum_endD Z r ⟨by rw[en];exact t,p1⟩ λC sb=>⟨rfl,?_⟩
  exact I.zo8 (ch:=[e,j]) (h':=C) (t':=s.toks) (λc o l q=>by
   have g:c≠e/\c≠j:=by simpa using l
   exact sb c o g.2 q) J
 self:=λA i s Q E st h=>let ⟨⟨_,r⟩,_⟩:=st;wpAny_pyIter_enum r h
def zL4:W1 "zip"=some (.type "zip"):=by decide +kernel
def j0p:W1 "enumerate"=some (.type "enumerate"):=by decide +kernel
def Cx.zy1(X:Cx)(xs:List Str)(js:List Nat)(scope:P4)(cl:List (Str×Addr))(C:X0)(zy0:Y0)(zz6:Hp)(fp:List X0):Cx:=
 {X with N:=xs++js.map (λj=>X.N.getD j ""),zy0:=zy0,zz6:=zz6,env:=compEnvC scope cl C X.env,outer:=X.stack,ex:=fp,fn:=λ_=>false,pn:=[],xe:=λ_ _=>False}
def y0c(σ:St)(js:List Nat):St:=js.map λj=>(σ[j]?).join
structure zx2(X:Cx)(xs:List Str)(js:List Nat)(scope:P4):Prop where
 kind:scope.kind=.function
 cell:∀y∈scope.names,y.2≠.cell
 loc:∀y∈scope.names,y.2=.local->scope.names.lookup y.1=some .local
 free:∀y∈scope.names,y.2=.free->X.env.kindOf y.1=some .cell\/X.env.kindOf y.1=some .free
 zk6:∀j∈js,scope.names.lookup (X.N.getD j "")=some .free
 nd:(xs++js.map (λj=>X.N.getD j "")).Nodup
def e0b(names:List (Str×NameKind))(N xs:List Str)(js:List Nat)(scope:P4):Bool:=
 (scope.kind== .function)&&(scope.names.all λy=>(y.2 !=.cell)&&((y.2 !=.local)||scope.names.lookup y.1==some .local)&&((y.2 !=.free)||(names.lookup y.1==some .cell||names.lookup y.1==some .free)))&&
  (js.all λj=>scope.names.lookup (N.getD j "")==some .free)&&decide ((xs++js.map (λj=>N.getD j "")).Nodup)
def zx2.of(xs:List Str)(js:List Nat)(h:e0b X.env.scope.names X.N xs js scope=true):zx2 X xs js scope:=by
 unfold e0b at h;simp only[k1p,j1l,beq_iff_eq,bne_iff_ne,Bool.or_eq_true,G0]at h;let ⟨⟨⟨h1,h2⟩,h4⟩,h5⟩:=h;refine ⟨h1,fun y hy=>(h2 y hy).1.1,fun y hy e=>?_,fun y hy e=>?_,h4,h5⟩
 .grind
 .rcases (h2 y hy).2 with z |z
  .solve_by_elim
  .exact z
section
variable{X:Cx}{pins:List (X0×Obj)}{σ:St}{H:Hp}{s:Y0}
def y1o{xs:List Str}{cl:List (Str×Addr)}{fp:List X0}{h':J0}{tk:Nat}(I:Inv X pins σ H s)(S:zx2 X xs js scope)
 (h1:∀y c,cl.lookup y=some c->X.env.cells.lookup y=some c) (D:∀y,(y,NameKind.free)∈scope.names->∃c,cl.lookup y=some c)
 (B:∀b∈fp,zd4 X pins H b) (F:∀b∈fp,b<s.heap.objs.size)
 (hn:h'.Ns s.heap.objs.size (λ_=>none)) (C:∀b o,s.heap.get? b=some o->h'.get? b=some o):
 Inv (X.zy1 xs js scope cl s.heap.objs.size s H fp) [] (List.replicate xs.length none++y0c σ js) H {s with heap:=h',toks:=tk}:=by
 have f:=I.hok.fresh (k1q _);refine ⟨⟨I.ok.mod,S.kind,I.ok.glob,I.ok.blt,k1q _,λy z c a b=>I.ok.inj y z c (h1 y c a) (h1 z c b),λy k=>?_,(λy c z=>by cases z),I.ok.hd,I.ok.frames,.inl rfl,λb g=>⟨Nat.ne_of_lt (F b g),λy c e=>(B b g).2.2.2.2.1 y c (h1 y c e)⟩,
  I.bs,j1o I.ok.bsz I.sz,λb o e g=>?_,λb g z=>?_,I.stack,I.zi3⟩,rfl,I.bare,Un.kept C,⟨_,hn,λi y v e1 e2 e3=>?_⟩,λy c e=>?_,f,λy c e=>I.zv3 y c (h1 y c e),(λp Q=>by cases Q),I.hok.kept C,?_⟩
 .rcases k with k |k
  .exact D y (x0r k (.inl rfl) S.cell)
  .exact D y (x0r k (.inr rfl) S.cell)
 .rcases (B b g).2.2.2.1 with z |z
  .exact I.ok.zb6 b o e z
  .exact absurd (k1f (k1n e) (j1o I.ok.bsz z)) (g1r _)
 .rcases j1n.mp (I.zg3 b z)with q |q
  .exact (B b g).2.1 q
  .exact (B b g).2.2.1 q
 .have e1:(xs++js.map (λj=>X.N.getD j ""))[i]?=some y:=e1;by_cases Z:i<xs.length
  .grind
  .rw[j1y (by lia)]at e1;rw[j1y (by simp;lia)]at e2;simp only[List.length_replicate]at e2;generalize i-xs.length=i at e1 e2;unfold y0c at e2;rw[k1h]at e1 e2;cases G:js[i]? with
   |none=>rw[G]at e1;cases e1
   |some j=>
    rw[G]at e1 e2;have e1:X.N.getD j ""=y:=i1q e1;have e2:(σ[j]?).join=some v:=i1q e2;have J:=k1m G;have n:σ[j]?=some (some v):=by
     grind
    have R:j<X.N.length:=by rw[<-I.len];exact (k1t.mp n).1
    have U:X.N[j]?=some y:=by
     grind
    have t:scope.names.lookup y=some .free:=by rw[<-e1];exact S.zk6 j J
    have d:=h1l t;let ⟨c,O⟩:=D y d;have L:=h1 y c O;have M:=S.free (y,.free) d rfl;let ⟨m,hm,V⟩:=I.loc;have w:Vis X.env.scope y:=by rcases M with q |q;exact .inr (.inl q);exact .inr (.inr q)
    let ⟨u,r,l⟩:=V j y v U n w;refine ⟨u,r,.inr ⟨k0a t,c,O,?_⟩⟩;rcases l with ⟨q,_⟩|⟨q,c',P,W⟩
    .simp_all
    .rw[L]at P;cases P;let ⟨o,ho,hd⟩:=W;exact ⟨o,C _ _ ho,hd⟩
 .let ⟨v,o,ho,hd⟩:=I.cell y c (h1 y c e);exact ⟨v,o,C _ _ ho,hd⟩
 .show (List.replicate xs.length none++y0c σ js).length=(xs++js.map (λj=>X.N.getD j "")).length;unfold y0c;simp
end
def tgV(K:Fg)(tup:Bool)(n:Nat)(v:V)(H:Hp)(k:List V->Prop):Prop:=match tup with
 |false=>k [v]
 |true=>∃a ws,v=.ref a/\SqT K H a ws/\ws.length=n/\k ws
structure TgM(K:Fg)(tup:Bool)(n:Nat)(g:TG):Prop where
 go:∀(zk6:St) (v:V) (H:Hp) (Q:St->Hp->Prop),tgV K tup n v H (λws=>Q (ws.map some++zk6) H)->g v (List.replicate n none++zk6) H Q
def t0u{K:Fg}:TgM K false 1 (n0e 0):=⟨λzk6 v H Q h=>h⟩
theorem j0o:∀(ws:List V) (pre post:St) (H:Hp) (Q:St->Hp->Prop),Q (pre++ws.map some++post) H->DL.zY1 (List.range' pre.length ws.length) ws (pre++List.replicate ws.length none++post) H Q
 | [],pre,post,H,Q,h=>⟨rfl,by simpa using h⟩
 |w::ws,pre,post,H,Q,h=>by
  refine ⟨w,ws,rfl,?_⟩;show DL.zY1 (List.range' (pre.length+1) ws.length) ws ((pre++List.replicate (w::ws).length none++post).set pre.length (some w)) H Q;have e:(pre++List.replicate (w::ws).length (none:Option V)++post).set pre.length (some w)=(pre++[some w])++List.replicate ws.length none++post:=by
   grind
  rw[e];have:=j0o ws (pre++[some w]) post H Q (by simp_all)
  simp_all
def n1p{K:Fg}{n:Nat}{is:List Nat}(b:is=List.range' 0 n):TgM K true n (zT9 K n (DL.zY1 is)):=⟨λzk6 v H Q h=>by
 subst b;let ⟨a,ws,rfl,q,c,h⟩:=h;subst c;exact ⟨a,ws,rfl,q,rfl,j0o ws [] zk6 H Q h⟩⟩
def zU0(X:Cx)(ifs:List Expr)(t:TT):Prop:=∀(pins:List (X0×Obj)) (s:Y0) (σ:St) (H:Hp) (Q:Bool->Hp->Prop),Inv X pins σ H s->t σ H Q->
 wpAny (model X.prog X.w) X.A (forIn ifs true λc r=>if r=true then do let ok<-isTrue c X.env (eval c X.env);pure (ForInStep.yield ok)else pure (ForInStep.yield r)) (TP X pins σ Q) X.xe s
def q0l:zU0 X [] (λ_ H Q=>Q true H):=λa s b H Q I h=>wpAny_tests_nil ⟨H,I,h⟩
def t1s{c:Expr}{t:TT}(h:PT X c t):zU0 X [c] t:=λa s b H Q I q=>wpAny_tests_one (h a s b H Q I q)
def z62(target iter:Expr)(ifs:List Expr)(it:Z0)(env:Env)(tail:Sem Fin)(c:Code):Sem Fin:=do
 standAt iter.pos
 match<-pyNext it with
 |none=>pure (.done .next)
 |some v=>
  V4 target it v
  assign target env v
  let mut ok:=true
  for c in ifs do
   if ok then ok<-isTrue c env (eval c env)
  if ok then tail else again c
structure zo9(e:Expr)(d:Nat)(it acc:Z0)(env:Env)(target iter:Expr)(ifs:List Expr)(tail:Sem Fin):Prop where
 eq:compTurn e d it acc env=z62 target iter ifs it env tail (.compLoop e d it acc env)
 fr:(Code.compLoop e d it acc env).isFrame=false
 qu:(Code.compLoop e d it acc env).quiet=true
 un:∀A:A0,A.under (.compLoop e d it acc env)=A
 st:∀{prog:V0} {w:T0} {A:A0} {R:Result->Y0->Prop} {s:Y0},A2 (model prog w) A (.compLoop e d it acc env) R s->wpAny (model prog w) A (pyIter it) (λit' s'=>A2 (model prog w) A (.compLoop e d it' acc env) R s') (λ_ _=>False) s->A2 (model prog w) A (.compStart e d it acc env) R s
def n0q{prog:V0}{w:T0}{A:A0}{R:Result->Y0->Prop}{s:Y0}{e:Expr}{d:Nat}{p:List Expr}{g:Z0}{env:Env}{tail:Sem Fin}(T:zo9 e d it g env target iter p tail)(I:Nat->Y0->Prop)
 (t:∀n s,I n s->wpAny (model prog w) A (pyNext it) (λr a=>match r with
  |none=>R (.ok .next) a
  |some v=>wpAny (model prog w) A (V4 target it v) (λ_ b=>wpAny (model prog w) A (assign target env v) (λ_ i=>
   wpAny (model prog w) A (forIn p true λc r=>if r=true then do let ok<-isTrue c env (eval c env);pure (ForInStep.yield ok)else pure (ForInStep.yield r)) (λok f=>
    if ok=true then wpAny (model prog w) A tail (λfin j=>fin=.again (.compLoop e d it g env)/\∃m,m<n/\I m j) (λ_ _=>False) f
    else ∃m,m<n/\I m f) (λ_ _=>False) i) (λ_ _=>False) b) (λ_ _=>False) a) (λ_ _=>False) s)
 (n:Nat) (h:I n s):A2 (model prog w) A (.compLoop e d it g env) R s:=by
 refine codeAny_loop T.qu I (λn s C=>?_) n h;have D:=T.fr;show wpAny _ _ (if (Code.compLoop e d it g env).isFrame then _ else _) _ _ _;rw[O0 (by rw[D];decide),T.eq,T.un];refine wpAny_noted ?_;refine y0 (X2 (y0 (K0 (t n s C) (λr a k=>?_) λ_ _ z=>z.elim)));cases r with
 |none=>exact d0 k
 |some v=>
  refine y0 (K0 k (λ_ b o=>?_) λ_ _ z=>z.elim);refine y0 (K0 o (λ_ i u=>y0 (K0 u (λok f l=>?_) λ_ _ z=>z.elim)) λ_ _ z=>z.elim);cases ok with
  |false=>exact d0 ⟨rfl,l⟩
  |true=>exact K0 l (λfin j ⟨y,B⟩=>by subst y;exact ⟨rfl,B⟩) λ_ _ z=>z.elim
def n1o(e elt:Expr)(it acc:Z0)(env:Env):Sem Fin:=do
 (do let v<-eval elt env;let _<-call (.builtin "list.append") [acc,v])
 again (.compLoop e 0 it acc env)
def y1n{a:Expr}{b:List Expr}{pos:Pos}{c:Z0}{env:Env}:zo9 (.ListComp a [⟨target,iter,b,0⟩] scope pos) 0 it c env target iter b (n1o (.ListComp a [⟨target,iter,b,0⟩] scope pos) a it c env):=
 ⟨rfl,rfl,rfl,λ_=>rfl,λh0 h=>codeAny_compStart_list h0 (K0 h (λ_ _ z=>z) λ_ _ z=>z.elim)⟩
abbrev TB:=St->Hp->(Hp->Prop)->Prop
def PB(X:Cx)(tail:Sem Fin)(c:Code)(tb:TB):Prop:=∀(pins:List (X0×Obj)) (s:Y0) (σ:St) (H:Hp) (Q:Hp->Prop),Inv X pins σ H s->tb σ H Q->
 wpAny (model X.prog X.w) X.A tail (λfin s'=>fin=.again c/\∃H',Inv X pins σ H' s'/\Q H') (λ_ _=>False) s
def t1r(X:Cx)(new:Sem Z0)(u:X0->HO):Prop:=∀(pins:List (X0×Obj)) (s:Y0) (σ:St) (H:Hp) (Q:Z0->Y0->Prop) (E:Z0->Y0->Prop),Inv X pins σ H s->
 (∀h' tk,h'.objs.size=s.heap.objs.size+1->(∀b o,s.heap.get? b=some o->h'.get? b=some o)->Inv X pins σ (upd H s.heap.objs.size (u s.heap.objs.size)) {s with heap:=h',toks:=tk}->Q (.ref s.heap.objs.size) {s with heap:=h',toks:=tk})->wpAny (model X.prog X.w) X.A new Q E s
def r0k(K:Fg)(J:It)(tup:Bool)(n:Nat)(zk6:St)(tc:TT)(tb:TB)(H1:Hp)(Q:Hp->Prop):Prop:=∃P:Nat->Nat->Hp->Prop,(∃m,P 0 m H1)/\∀i m H2,P i m H2->
 ((J.stop i H2/\Q H2)\/(J.go i H2/\∀v H3,J.yld i H2 v H3->tgV K tup n v H3 λws=>ws.length=n->tc (ws.map some++zk6) H3 λok H4=>
  if ok=true then tb (ws.map some++zk6) H4 λH5=>∃m',m'<m/\P (i+1) m' H5 else ∃m',m'<m/\P (i+1) m' H4))
section
variable{X:Cx}
def s9{e:Expr}{new:Sem Z0}{L:X0->HO}{xs:List Str}{n r:Nat}{target iter:Expr}{ag:List Expr}{js:List Nat}{scope:P4}{cl:List (Str×Addr)}{tup:Bool}{g:TG}{tc:TT}{tb:X0->TB}{J:It}{fp:List X0}{it:X0}{tn:Nat->J0->Prop}{pins:List (X0×Obj)}{σ:St}{B:Hp}{t:Y0}
 {tail:Z0->X0->Env->Sem Fin} {Q:V->Hp->Prop} {RR:Z0->X0->Result->Y0->Prop} {E:Z0->Y0->Prop} (hc:X.calm=true) (S:zx2 X xs js scope) (hn:xs.length=n+r)
 (ah:∀it D env,zo9 e 0 it (.ref D) env target iter ag (tail it D env)) (ai:t1r X new L)
 (hg:∀C zy0 zz6 fp cl,PG (X.zy1 xs js scope cl C zy0 zz6 fp) target g) (gm:TgM X.K tup n g) (ht:∀C zy0 zz6 fp cl,zU0 (X.zy1 xs js scope cl C zy0 zz6 fp) ag tc)
 (f:∀D C zy0 zz6 fp cl it,PB (X.zy1 xs js scope cl C zy0 zz6 fp) (tail it D (compEnvC scope cl C X.env)) (.compLoop e 0 it (.ref D) (compEnvC scope cl C X.env)) (tb D))
 (h1:∀y c,cl.lookup y=some c->X.env.cells.lookup y=some c) (h2:∀y,(y,NameKind.free)∈scope.names->∃c,cl.lookup y=some c)
 (I:Inv X pins σ B t) (T:Turn X.prog X.w X.K target J fp it tn) (st:tn 0 t.heap) (hf:∀b∈fp,zd4 X pins B b)
 (q:∀D,B D=none->r0k X.K J tup n (List.replicate r none++y0c σ js) tc (tb D) (upd B D (L D)) λH2=>Q (.ref D) H2)
 (ax:∀D C j l,Inv X pins σ j l->zu0 X pins j C->(∃m,l.heap.Ns C m)->Q (.ref D) j->RR (.ref D) C (.ok .next) l):
 wpAny (model X.prog X.w) X.A new (λaj ak=>wpAny (model X.prog X.w) X.A (newFunctionEnv scope X.env.globals cl [] X.env.qual none .none (some X.env)) (λU al=>
  A2 (model X.prog X.w) X.A (.compStart e 0 (.ref it) aj {U with scope:=relabel scope X.env}) (RR aj U.locals) al) E ak) E t:=by
 have ay:=I.hok.fresh (k1q _);refine ai pins t σ B _ E I λG tk bb an I3=>wpAny_newFunctionEnv S.cell (by simp) (λao N O=>?_) S.kind
 generalize hD:t.heap.objs.size=D at*
 have aq:=λb o (e:G.get? b=some o)=>O.extBut b o (k1i (k1n e)) (k1w _ e)
 have W:=λb o e=>aq b o (an b o e)
 have Z:∀b∈fp,b<t.heap.objs.size:=λb f=>by let ⟨o,e,_⟩:=T.obj _ _ st b f;exact k1n e
 have ac:∀b∈fp,zd4 X pins (upd B D (L D)) b:=λb f=>⟨by rw[j0 (show b≠D from k1i (hD▸Z b f))];exact (hf b f).1,(hf b f).2⟩
 have IC:=y1o (tk:=tk+([]:List (Str×Value)).length) I3 S h1 h2 ac (λb f=>k1f (Z b f) (by show t.heap.objs.size<=G.objs.size;lia)) N aq;let ⟨P,⟨m0,p0⟩,ar⟩:=q D ay;have e0:List.replicate xs.length (none:Option V)++y0c σ js=List.replicate n none++(List.replicate r none++y0c σ js):=by
  rw[hn,<- i1v,List.replicate_append_replicate]
 rw[e0]at IC;generalize List.replicate r none++y0c σ js=zk6 at*
 have aa:∀l:Y0,l={t with heap:=ao,toks:=tk+([]:List (Str×Value)).length}->
  A2 (model X.prog X.w) X.A (.compLoop e 0 (.ref it) (.ref D) (compEnvC scope cl G.objs.size X.env)) (RR (.ref D) G.objs.size) l:=by
  rintro l rfl;refine n0q (ah _ _ _) (λk l=>∃i j,Inv (X.zy1 xs js scope cl G.objs.size {t with heap:=G,toks:=tk} (upd B D (L D)) fp) [] (List.replicate n none++zk6) j l/\tn i l.heap/\(∀b∈fp,j b=none)/\P i k j) ?_ m0 ⟨0,_,IC,T.keep _ _ _ st λb f o e=>W b o e,λb f=>(ac b f).1,p0⟩;rintro k s3 ⟨i,H3,J3,au,av,p3⟩;have tr:=ar i k H3 p3;have M:∀{j:Hp} {l:Y0} {F:St},Inv (X.zy1 xs js scope cl G.objs.size {t with heap:=G,toks:=tk} (upd B D (L D)) fp) [] F j l->(∀b∈fp,j b=none)->∀b∈fp,zd4 (X.zy1 xs js scope cl G.objs.size {t with heap:=G,toks:=tk} (upd B D (L D)) fp) [] j b:=
   λ{j l F} JJ hn b f=>⟨hn b f,(JJ.ok.exf b f).1,JJ.ok.zb7 b f,.inl f,(JJ.ok.exf b f).2,λp hp=>by cases hp⟩
  rcases tr with ⟨stop,qn⟩|⟨go,step⟩
  .refine K0 (T.done (X.zy1 xs js scope cl G.objs.size {t with heap:=G,toks:=tk} (upd B D (L D)) fp) rfl rfl rfl hc i [] s3 _ H3 (λ_ _=>False) J3 (M J3 av) au stop) (λr s4 zz=>?_) λ_ _ z=>z;let ⟨hr,J4⟩:=zz
   subst hr;have I4:=by
    refine I3.zU9 J4.os J4.base J4.hok J4.bare λb f=>?_
    let ⟨_,f1,f2,f3,f4,f5⟩:=ac b f;exact ⟨f3,f1,f4,f5⟩
   refine ax D G.objs.size H3 s4 I4 ⟨J4.free,?_,?_,?_,?_⟩ (let ⟨m,hm,_⟩:=J4.loc;⟨m,hm⟩) qn
   .exact i1p I3.lt
   .exact I3.sz
   .exact λy c e=>by let ⟨v,z⟩:=I3.cell y c e;exact k1i z.lt
   .exact λp hp=>k1i (k1n (I3.pin p hp).1)
  .refine K0 (T.item (X.zy1 xs js scope cl G.objs.size {t with heap:=G,toks:=tk} (upd B D (L D)) fp) rfl rfl rfl hc i [] s3 _ H3 (λ_ _=>False) J3 (M J3 av) au go) (λr s4 zy=>?_) λ_ _ z=>z;let ⟨u,hr,h4⟩:=zy
   subst hr;refine K0 h4 (λ_ s5 zx=>?_) λ_ _ z=>z;let ⟨v,H5,J5,r5,y5,ae,az⟩:=zx
   have ba:=J5.pinned (M J5 az) (T.obj _ _ ae);have back:∀{ws:List V} {j:Hp} {l:Y0} {pp},ws.length=n->Inv (X.zy1 xs js scope cl G.objs.size {t with heap:=G,toks:=tk} (upd B D (L D)) fp) pp (ws.map some++zk6) j l->Inv (X.zy1 xs js scope cl G.objs.size {t with heap:=G,toks:=tk} (upd B D (L D)) fp) pp (List.replicate n none++zk6) j l:=
    λ{ws j l pp} hw JJ=>by
     refine JJ.weak (by simp[hw]) λk v e=>?_
     grind
   have seen:∀{j:Hp} {l:Y0} {F:St},Inv (X.zy1 xs js scope cl G.objs.size {t with heap:=G,toks:=tk} (upd B D (L D)) fp) ([]++k0u fp s5.heap) F j l->tn (i+1) l.heap/\∀b∈fp,j b=none:=λ{j l F} JJ=>by
    refine ⟨T.keep _ _ _ ae λb f o e=>(JJ.pin (b,o) (j1s _ (j1s _ (u9 f e)))).1,λb f=>?_⟩;let ⟨o,e,d⟩:=T.obj _ _ ae b f;exact (JJ.pin (b,o) (j1s _ (j1s _ (u9 f e)))).2.1
   have ab:=step v H5 y5;refine K0 (hg G.objs.size {t with heap:=G,toks:=tk} (upd B D (L D)) fp cl _ s5 _ H5 v u (λF j=>∃ws:List V,F=ws.map some++zk6/\j=H5/\(ws.length=n->tc (ws.map some++zk6) H5 λok H4=>
    if ok=true then tb D (ws.map some++zk6) H4 λH5=>∃R,R<k/\P (i+1) R H5 else ∃R,R<k/\P (i+1) R H4)) ba r5 (gm.go _ _ _ _ ?_)) (λ_ s6 ⟨bc,H6,J6,ws,e1,e2,h6⟩=>?_) λ_ _ z=>z
   .cases tup
    .exact ⟨_,rfl,rfl,ab⟩
    .let ⟨a,ws,z1,z2,z3,z4⟩:=ab;exact ⟨a,ws,z1,z2,z3,ws,rfl,rfl,z4⟩
   subst e1 e2;have hw:ws.length=n:=by have:=J6.len.trans J3.len.symm;simpa using this
   have h6:=h6 hw;refine K0 (ht G.objs.size {t with heap:=G,toks:=tk} (upd B D (L D)) fp cl _ s6 _ _ _ J6 h6) (λok s7 zw=>?_) λ_ _ z=>z;let ⟨H7,J7,q7⟩:=zw
   cases ok with
   |false=>
    let ⟨R,af,p7⟩:=q7;let ⟨w1,w2⟩:=seen J7;exact ⟨R,af,i+1,H7,back hw J7.zt7,w1,w2,p7⟩
   |true=>
    refine K0 (f D G.objs.size {t with heap:=G,toks:=tk} (upd B D (L D)) fp cl _ _ s7 _ H7 _ J7 q7) (λfin s8 zv=>?_) λ_ _ z=>z;let ⟨aw,H8,J8,R,af,p8⟩:=zv
    let ⟨w1,w2⟩:=seen J8;exact ⟨aw,R,af,i+1,_,back hw J8.zt7,w1,w2,p8⟩
 exact (ah _ _ _).st (aa _ rfl) (T.self X.A 0 _ _ _ (T.keep _ _ _ st λb f o e=>W b o e) (aa _ rfl))
def e0a:t1r X (newList []) (λ_=>.lst []):=by
 intro a s c H Q E I h;refine N0 ?_;exact h _ s.toks (j1j ..) (λb o e=>k1w _ e) (I.laid (t':=s.toks) (λ_ _ q=>k1w _ q) (k1q _) ⟨by simp,[],0,.nil,k1s _ rfl⟩)
def z63(D:X0)(te:TE):TB:=λσ H Q=>te σ H λy H1=>∃ys,H1 D=some (.lst ys)/\ys.length<sizeLine/\Q (upd H1 D (.lst (ys++[y])))
def q1w{e elt:Expr}{D:X0}{te:TE}(hxe:X.xe=fun _ _=>False)(he:PE X elt te):PB X (n1o e elt it (.ref D) X.env) (.compLoop e 0 it (.ref D) X.env) (z63 D te):=by
 intro pins s σ H Q I h;unfold n1o;have he':=he pins s σ H _ I h;rw[hxe]at he';refine y0 (y0 (K0 he' (fun y s8 ⟨yv,H8,J8,ry,ys,hD8,hz8,q⟩=>y0 ?_) fun _ _ z=>z));let ⟨z,its,nn,r,hl,e⟩:=J8.zV5 hD8;refine S5 b1w ⟨_,e,rfl⟩ c1d (c1m _ _) (b1s D its.toArray nn y (by simp_all)) ⟨e,d0 (d0 ⟨rfl,_,?_,q⟩)⟩;exact J8.z13 (t':=s8.toks) hD8 e (f:=fun xs=>xs.push y) (by simp) (r.append (.cons ry .nil)) (by (simp at *;lia))
def y1m(K:Fg)(wi:TI)(tup:Bool)(n:Nat)(js:List Nat)(tc:TT)(te:TE):TE:=λσ H Q=>wi σ H λJ H1=>∀D,H1 D=none->r0k K J tup n (y0c σ js) tc (z63 D te) (upd H1 D (.lst [])) λH2=>Q (.ref D) H2
def t1q{xs:List Str}{c:Expr}{d:List Expr}{pos:Pos}{tup:Bool}{g:TG}{l:TT}{t:TE}{u:TI}(G:X.calm=true)(S:zx2 X xs js scope)(M:PI X target iter u)
 (N:∀C zy0 zz6 fp cl,PG (X.zy1 xs js scope cl C zy0 zz6 fp) target g) (O:TgM X.K tup xs.length g) (P:∀C zy0 zz6 fp cl,zU0 (X.zy1 xs js scope cl C zy0 zz6 fp) d l)
 (R:∀C zy0 zz6 fp cl,PE (X.zy1 xs js scope cl C zy0 zz6 fp) c t) (hs:∀v,foldedSetIterable iter X.env v=pure v:=by intro _;rfl):
 PE X (.ListComp c [⟨target,iter,d,0⟩] scope pos) (y1m X.K u tup xs.length js l t):=by
 intro a s y H Q I h;let ⟨cl,U,c1,c2⟩:=z0n (scope:=scope) (env:=X.env) λp V W=>I.ok.has p.1 (S.free p V W)
 rw[eval_ListComp];refine X3 (use:=none) rfl hs U S.kind S.loc (thn (M a s y H _ I h) λxv z f=>thn f λZ B i=>?_);let ⟨it,fp,tn,J,F,rfl,I2,T,st,hf,q⟩:=i;refine s9 (RR:=λj C=>compPost (model X.prog X.w) X.A X.xe none (EP X a y Q) j C) (n:=xs.length) (r:=0) G S rfl (λ_ _ _=>y1n) e0a N O P (λD C zy0 zz6 fp cl it=>q1w (X:=X.zy1 xs js scope cl C zy0 zz6 fp) rfl (R C zy0 zz6 fp cl)) c1 c2 I2 T st hf q ?_;rintro D C F s' I' L ⟨m,hm⟩ qq;refine ⟨m,hm,λh' k=>⟨.ref D,F,?_,rfl,qq⟩⟩;exact I'.turned (t':=s'.toks) (it:=C) (λb o hb e=>k.extBut b o hb e) L.free L.ne (.inr L.yng) L.cell L.pin
def d0z{i:Nat}{y:Str}{py:Pos}{xs:List Str}{d:Expr}{f:List Expr}{pos j:Pos}{tup:Bool}{g:TG}{O:TT}{P:TE}{R:TI}(hc:X.calm=true)(S:zx2 X xs js scope)(hi:PI X target iter R)
 (hg:∀C zy0 zz6 fp cl,PG (X.zy1 xs js scope cl C zy0 zz6 fp) target g) (gm:TgM X.K tup xs.length g) (ht:∀C zy0 zz6 fp cl,zU0 (X.zy1 xs js scope cl C zy0 zz6 fp) f O)
 (he:∀C zy0 zz6 fp cl,PE (X.zy1 xs js scope cl C zy0 zz6 fp) d P) (hN:X.N.Nodup) (hy:X.N[i]?=some y) (hl:Loc X.env.scope y)
 (u:B2 (.ListComp d [⟨target,iter,f,0⟩] scope pos) (some (.Name y py)) j.line X.env=pure true)
 (hs:∀v,foldedSetIterable iter X.env v=pure v:=by intro _;rfl) (B:X.fn y=true\/X.env.scope.names.lookup y=some .local:=by first |exact .inl rfl |exact .inr rfl |assumption):
 PS X (.Assign [.Name y py] (.ListComp d [⟨target,iter,f,0⟩] scope pos) j) (zA4 (y1m X.K R tup xs.length js O P) (n0e i)):=by
 intro c s U H D I h;let ⟨cl,c0,c1,c2⟩:=z0n (scope:=scope) (env:=X.env) λp hp hk=>I.ok.has p.1 (S.free p hp hk)
 rw[exec_Assign_Name_used _ _ _ _ u];refine y0 (X2 (y0 ?_));show wpAny _ _ (do let _<-comprehension (.ListComp d [⟨target,iter,f,0⟩] scope pos) scope X.env _ (newList []) false (eval iter X.env) (some (assign (.Name y py) X.env))) _ _ s;refine y0 (K0 (X3 (use:=some (assign (.Name y py) X.env)) (Q:=λ_ k=>SP X c D .next k) rfl hs c0 S.kind S.loc
  (thn (hi c s U H _ I h) λxv V l=>thn l λaa W t=>?_)) (λ_ k hq=>d0 (d0 hq)) λ_ _ e=>e)
 let ⟨it,fp,tn,J,Z,rfl,I2,T,st,hf,q⟩:=t;refine s9 (Q:=λv H1=>n0e i v U H1 D.nx) (RR:=λF C=>compPost (model X.prog X.w) X.A X.xe (some (assign (.Name y py) X.env)) (λ_ k=>SP X c D .next k) F C) (n:=xs.length) (r:=0) hc S rfl (λ_ _ _=>y1n) e0a hg gm ht (λD C zy0 zz6 fp cl it=>q1w (X:=X.zy1 xs js scope cl C zy0 zz6 fp) rfl (he C zy0 zz6 fp cl)) c1 c2 I2 T st hf q ?_;rintro E C Z k I' L ⟨m,hm⟩ qq;show wpAny _ _ (assign (.Name y py) X.env (.ref E)) _ _ _;refine A5 (q0c (v:=.ref E) I' hN hy hl rfl (λs2 I2 zz=>?_) B);let ⟨a,sb,ha⟩:=zz;have G:C≠a:=by
  rcases ha with z |z
  .rw[z];exact L.ne
  .exact (L.cell y a z).symm
 refine ⟨m,hm.sameBut sb G,λh' M=>⟨_,Z,?_,qq⟩⟩;exact I2.turned (t':=s2.toks) (it:=C) (λb o hb e=>M.extBut b o hb e) L.free L.ne (.inr L.yng) L.cell L.pin
end
section
variable{X:Cx}{elts:List Expr}{x1:Nat}{zL5:Pos}
def iZip(K:Fg)(ta:TA):TI:=λσ H R=>ta σ H λvs H1=>∃a a' b b',vs=[.ref a,.ref a']/\(∃xs,Sq K b H1 a xs)/\(∃ys,Sq K b' H1 a' ys)/\R (Itz K b b' a a') H1
def zL6{a b:Expr}{ta:TA}{p pos:Pos}(hg:Gl X "zip")(hm:X.mg "zip"=none)(ha:PA X [a,b] ta)(hs:R0 [a,b] X.env=[(false,eval a X.env),(false,eval b X.env)]:=by rfl)(hs2:R0 [b] X.env=[(false,eval b X.env)]:=by rfl):
 PI X (.Tuple elts x1 zL5) (.Call (.Name "zip" p) [a,b] [] pos) (iZip X.K ta):=by
 intro pins s σ H R I h;refine Call_ (x0u I hg hm zL4 (i1y (thn (ha pos pins s σ H _ I h) fun us s1 ⟨vs,H1,I1,r1,q1⟩=>?_) (by simp_all) (by rw[hs2];rfl)));let ⟨a1,a2,b1,b2,e,⟨xs,k1⟩,⟨ys,k2⟩,q⟩:=q1;subst e;cases r1 with
 |cons r rr=>
  cases rr with
  |cons r' rr=>
   cases rr;cases r;cases r';let ⟨its1,v1,p1,z1⟩:=I1.sq k1;let ⟨its2,v2,p2,z2⟩:=I1.sq k2;have l1:a1<s1.heap.objs.size:=by let ⟨o,e,_⟩:=p1.obj;exact k1n e
   have l2:a2<s1.heap.objs.size:=by let ⟨o,e,_⟩:=p2.obj;exact k1n e
   refine n1r p1 p2 fun h' hz hTI hTO i1 i2 kk=>wpAny_pyIter_zip hz ?_
   have ne:∀{c k:Nat},c<s1.heap.objs.size->c≠s1.heap.objs.size+k:=fun h z=>by lia
   have ap:∀{k l:Nat},k≠l->s1.heap.objs.size+k≠s1.heap.objs.size+l:=fun h z=>h (by lia)
   have ap0:∀{l:Nat},l≠0->s1.heap.objs.size≠s1.heap.objs.size+l:=fun h z=>h (by lia)
   refine ⟨_,[s1.heap.objs.size+4,s1.heap.objs.size+2,s1.heap.objs.size+3,s1.heap.objs.size,s1.heap.objs.size+1],_,_,H1,rfl,I1.kept kk,t1t b1 b2 a1 a2 _ _ _ _ _ ⟨ap (by decide),ap (by decide),ap0 (by decide),ap (by decide),ap (by decide),(ap0 (by decide)).symm,ap (by decide),(ap0 (by decide)).symm,ap (by decide),ap0 (by decide)⟩
    ⟨ne l1,ne l1,k1i l1,ne l1⟩ ⟨ne l2,ne l2,k1i l2,ne l2⟩,⟨hz,hTI,⟨_,_,hTO⟩,i1,i2⟩,fun c hc=>?_,q⟩
   have hle:s1.heap.objs.size<=c:=by
    (simp_all;lia)
   exact I1.za3 hle (I1.hok.fresh hle)
def iEnu(K:Fg)(ta:TA):TI:=λσ H R=>ta σ H λvs H1=>∃a b,vs=[.ref a]/\(∃xs,Sq K b H1 a xs)/\R (Ite K b a) H1
def n1n{a:Expr}{ta:TA}{p pos:Pos}(hg:Gl X "enumerate")(hm:X.mg "enumerate"=none)(ha:PA X [a] ta)(hs:R0 [a] X.env=[(false,eval a X.env)]:=by rfl):
 PI X (.Tuple elts x1 zL5) (.Call (.Name "enumerate" p) [a] [] pos) (iEnu X.K ta):=by
 intro pins s σ H R I h;refine Call_ (x0u I hg hm j0p (i1y (thn (ha pos pins s σ H _ I h) fun us s1 zz=>?_) hs rfl));let ⟨vs,H1,I1,r1,q1⟩:=zz;let ⟨a1,b1,e,⟨xs,k1⟩,q⟩:=q1;subst e;cases r1 with
 |cons r rr=>
  cases rr;cases r;let ⟨its1,v1,p1,z1⟩:=I1.sq k1;have l1:a1<s1.heap.objs.size:=by let ⟨o,e,_⟩:=p1.obj;exact k1n e
  refine n1s p1 fun h' he i1 kk=>wpAny_pyIter_enum he ?_
  refine ⟨_,[s1.heap.objs.size+1,s1.heap.objs.size],_,_,H1,rfl,I1.kept kk,y1p b1 a1 _ _ (a1w _) ⟨Nat.ne_of_lt (h1w l1),k1i l1⟩,⟨⟨_,he⟩,i1⟩,fun c hc=>?_,q⟩;have hle:s1.heap.objs.size<=c:=by
   (simp_all;lia)
  exact I1.za3 hle (I1.hok.fresh hle)
end
section
variable{X:Cx}
def zL7:W1 "sum"=some (.builtin "sum"):=by decide +kernel
def y1l(ns:List Int):Prop:=∀j,j<ns.length->InLong (ns.getD j 0)/\InLong (preSum (λi=>ns.getD i 0) (j+1))
theorem v0a(ns:List Int):∀j,preSum (λi=>ns.getD i 0) j=(ns.take j).sum
 | 0=>by simp[preSum]
 |j+1=>by
  rw[PySem.sum_take_succ,<- v0a ns j];rfl
def rSum(K:Fg):List V->Hp->VK->Prop:=λvs H Q=>∃(b:Bool) (a:X0) (ns:List Int),vs=[.ref a]/\Sq K b H a (ns.map V.int)/\y1l ns/\Q (.int ns.sum) H
def d0y(b:Bool){prog:V0}{w:T0}(c:A.handled=none)(j a:X0)(ne:a≠j)(xs:Array Z0):
 Walks prog w A j [j,a] [j] xs.size (λi v=>xs[i]?=some v) (λi h=>zi7 b h j a i/\zj9 b h a xs):=by
 cases b
 .exact a1e c j a ne xs
 .exact Walks.tuple c j a ne xs
def t1p(C:X.calm=true):x0t X (.builtin "sum") (rSum X.K):=by
 intro w s P H R S Q I D h;let ⟨b,a,ns,rfl,F,l,q⟩:=h;let ⟨u,rfl,G⟩:=D.one;cases (show u=Value.ref a from G);let ⟨d,r,p,hz⟩:=I.sq F;have U:=c0e r;have g:a<s.heap.objs.size:=by let ⟨_,e,_⟩:=p.obj;exact k1n e
 have f:d.length=ns.length:=by have:=r.length;simpa using this.symm
 refine call_sum_walk (m0r p ?_);refine ⟨s.heap.objs.size,[s.heap.objs.size,a],[s.heap.objs.size],d.toArray.size,_,_,λi=>ns.getD i 0,rfl,d0y b (A:=X.A.in1) (I.ok.hd C) _ a (k1i g) d.toArray,
  ⟨.of (k1s _ rfl) rfl rfl,p.zo2 λo e=>k1w _ e⟩,λc m=>?_,λi v J=>?_,λj L=>l j (by simpa[f]using L),λW tk M N=>?_⟩
 .show c<(s.heap.push _).objs.size;rw[j1j];have:c=s.heap.objs.size\/c=a:=by simpa using m
  rcases this with rfl |rfl
  .exact h1r _
  .exact h1w g
 .have k:d[i]?=some v:=by simpa using J
  have Z:=(k1t.mp k).1;have n:i<(ns.map V.int).length:=by rw[k1v];lia
  let ⟨u,y,B⟩:=r.get (k1u n);rw[k]at y;cases y;rw[a1v]at B;let ⟨t,e⟩:=B;refine ⟨t,?_⟩;rw[e];show Value.int ns[i] t=Value.int (ns.getD i 0) t;rw[k1r,k1u (by lia)];rfl
 .rw[j1m,f,v0a,h1z];have hn:∀c o,s.heap.get? c=some o->c∉ [s.heap.objs.size]:=λc o e z=>by
   have O:c=s.heap.objs.size:=by simpa using z
   subst O;exact absurd (k1n e) (g1r _)
  exact ⟨.int _,H,I.kept λc o e=>N c o (hn c o e) (k1w _ e),⟨M,rfl⟩,q⟩
def zL8(K:Fg):R2:=λx y H Q=>∃a b xs ys,x=.ref a/\y=.ref b/\SqT K H a xs/\SqT K H b ys/\xs.length+ys.length<=sizeLine/\
 (xs=[]->Q (.ref b) H)/\(xs≠[]->ys=[]->Q (.ref a) H)/\(xs≠[]->ys≠[]->∀p,H p=none->Q (.ref p) (upd H p (.tup (xs++ys))))
def n1m:OpR X (K3 .Add) (zL8 X.K):=by
 intro c s w H x y v u Q I l m h;let ⟨a,b,o,z,rfl,rfl,ha,p,hz,B,C,D⟩:=h;by_cases hx:o=[]
 .cases l;cases m;let ⟨d,F,p1,_⟩:=I.tuple ha;let ⟨e,L,p2,_⟩:=I.tuple p;have G:d=[]:=F.zo5.mpr hx;let ⟨⟨cls,J,data,sl⟩,ho,r,n,hd⟩:=id p1;let ⟨⟨t,j,data2,k⟩,f,g,n2,i⟩:=id p2;simp only at r hd g i;subst r hd g i;exact concat_meets ⟨_,ho,rfl⟩ ⟨_,f,rfl⟩ noFill_tuple_add seq_tuple_add f1d f1l (f1p _ _) (tuple_addW0 a b d.toArray e.toArray n n2 J j sl k (by simp[G])) ⟨ho,f,.ref b,H,I,rfl,B hx⟩
 .exact p1f c s w H _ _ v u Q I l m ⟨a,b,o,z,rfl,rfl,ha,p,hx,hz,C hx,D hx⟩
end
end L2
namespace DL
open Spec L2
variable{F:Hp}{d:D}{xs:List V}{b:Bool}{a:X0}{ds es:List D}{u:HO}{n:Nat}
open W (XC)
section
variable{X:Cx}{Y:Y2}{W:XW}{K:Frag}
def j0n{xs:List D}{x:V}(h:zm4 d=some xs)(r:Rep K F d x):∃a vs b,x=.ref a/\Sq K b F a vs/\zz5 K F xs vs:=by
 let ⟨a,vs,e,sq,z⟩:=r1a h r;rcases sq with sq |sq
 .exact ⟨a,vs,false,e,sq,z⟩
 .exact ⟨a,vs,true,e,sq,z⟩
def _root_.L2.zz7.sq{c:Hp}(s:zz7 F c)(h:Sq K b F a xs):Sq K b c a xs:=by
 cases b
 .exact s.sqL h
 .exact s.sqT h
def zW0(ds es:List D):List D:=List.zipWith (λd e=>D.tup [d,e]) ds es
def d0x{i:Nat}{c:D}(h:(zW0 ds es)[i]?=some c):∃d e,ds[i]?=some d/\es[i]?=some e/\c=.tup [d,e]:=by
 unfold zW0 at h
 grind
def d0w:(zW0 ds es).length=min ds.length es.length:=by unfold zW0;simp
def n1l{m:Bool}{n:X0}{g:List V}(h:Sq K b F a xs)(h':Sq K m F n g)(r:zz5 K F ds xs)(o:zz5 K F es g):zj2 K (Itz K b m a n) F (zW0 ds es):=by
 refine ⟨λi c B H e f j=>?_,λB H f j=>?_⟩
 .let ⟨d,L,e1,e2,rfl⟩:=d0x e;let ⟨v,t,C⟩:=r.get e1;let ⟨D,k,l⟩:=o.get e2;have w:=(f.trans j).sq h;have z:=(f.trans j).sq h';refine ⟨⟨xs,g,v,D,w,t,z,k⟩,λu M y=>?_⟩;let ⟨p,x,y,G,rfl,rfl,I,J⟩:=y;have e3:=I xs w;have e4:=J g z;rw[t]at e3;rw[k]at e4;cases e3;cases e4;exact .inr ⟨p,_,_,G,rfl,rfl,rfl,zz5.cons (C.mono f) (zz5.cons (l.mono f) zz5.nil)⟩
 .rw[d0w];refine ⟨xs,g,(f.trans j).sq h,(f.trans j).sq h',?_⟩;rw[r.length,o.length];lia
def m0q(k:Nat)(ds:List D):List D:=match ds with | []=>[]|d::r=>.tup [.int (k:Int),d]::m0q (k+1) r
theorem x0o:∀(ds:List D) (k:Nat),(m0q k ds).length=ds.length
 | [],k=>rfl
 |d::r,k=>by unfold m0q;rw[k1k,k1k,x0o r]
theorem x0n:∀{ds:List D} {k i:Nat} {c:D},(m0q k ds)[i]?=some c->∃d,ds[i]?=some d/\c=.tup [.int ((k+i:Nat):Int),d]
 | [],k,i,c,h=>by unfold m0q at h;simp at h
 |d::r,k,0,c,h=>by unfold m0q at h;simp at h;exact ⟨d,rfl,h.symm⟩
 |d::r,k,i+1,c,h=>by
  unfold m0q at h;let ⟨e,h1,h2⟩:=x0n h
  (simp_all;lia)
def t1o(h:Sq K b F a xs)(r:zz5 K F ds xs):zj2 K (Ite K b a) F (m0q 0 ds):=by
 refine ⟨λi c l H e f g=>?_,λl H f g=>?_⟩
 .let ⟨d,e1,rfl⟩:=x0n e;let ⟨v,j,m⟩:=r.get e1;have k:=(f.trans g).sq h;refine ⟨⟨xs,v,k,j⟩,λu t y=>?_⟩;let ⟨p,x,n,rfl,rfl,o⟩:=y;have e3:=o xs k;rw[j]at e3;cases e3;rw[i1e];exact .inr ⟨p,_,_,n,rfl,rfl,rfl,zz5.cons (zz4.mpr rfl) (zz5.cons (m.mono f) zz5.nil)⟩
 .rw[x0o];exact ⟨xs,(f.trans g).sq h,r.length⟩
variable{a b:Expr}{ta:TA2}{p pos zL5:Pos}{elts:List Expr}{x1:Nat}
def t1n(ta:TA2):TI2:=λx ρ δ q=>ta x ρ δ λds ρ1 δ1=>match ds with | [d,e]=>(match zm4 d,zm4 e with |some xs,some ys=>q (zW0 xs ys) ρ1 δ1 |_,_=>False)|_=>False
def zL9(hm:X.mg "zip"=none)(ha:PA2 X Y W [a,b] ta)(l:Gl X "zip":=by rfl)(hs:R0 [a,b] X.env=[(false,eval a X.env),(false,eval b X.env)]:=by rfl)(d:R0 [b] X.env=[(false,eval b X.env)]:=by rfl):
 PI2 X Y W (.Tuple elts x1 zL5) (.Call (.Name "zip" p) [a,b] [] pos) (t1n ta):=pi2 (zL6 l hm ha.go hs d) λM H R zz=>by
 let ⟨F,m,δ,x,q,I,h,k,n⟩:=zz
 refine ⟨F,m,δ,x,_,I,h,λds N o r e f g t w c=>?_,n⟩;split at c
 .split at c
  .rename_i O P e1 e2;let ⟨v,u,rfl,y,z⟩:=u1i w;let ⟨B,C,D,rfl,i,z1⟩:=j0n e1 y;let ⟨G,J,L,rfl,j,z2⟩:=j0n e2 z;exact ⟨B,G,D,L,rfl,⟨_,g.sub.sq i⟩,⟨_,g.sub.sq j⟩,k _ _ o r e f g t (n1l i j z1 z2) c⟩
  .exact c.elim
 .exact c.elim
def t1m(ta:TA2):TI2:=λx ρ δ q=>ta x ρ δ λds ρ1 δ1=>match ds with | [d]=>(match zm4 d with |some xs=>q (m0q 0 xs) ρ1 δ1 |none=>False)|_=>False
def n1k(hm:X.mg "enumerate"=none)(ha:PA2 X Y W [a] ta)(g:Gl X "enumerate":=by rfl)(hs:R0 [a] X.env=[(false,eval a X.env)]:=by rfl):
 PI2 X Y W (.Tuple elts x1 zL5) (.Call (.Name "enumerate" p) [a] [] pos) (t1m ta):=pi2 (n1n g hm ha.go hs) λy H R zz=>by
 let ⟨F,i,δ,x,q,I,h,k,j⟩:=zz
 refine ⟨F,i,δ,x,_,I,h,λds z l m c d e n o b=>?_,j⟩;split at b
 .split at b
  .rename_i B e1;let ⟨v,rfl,r⟩:=z0g o;let ⟨t,u,w,rfl,f,z1⟩:=j0n e1 r;exact ⟨t,w,rfl,⟨_,e.sub.sq f⟩,k _ _ l m c d e n (t1o f z1) b⟩
  .exact b.elim
 .exact b.elim
end
def tgD(tup:Bool)(n:Nat)(d:D):Option (List D):=match tup,d with
 |false,d=>some [d]
 |true,.tup ds=>if ds.length=n then some ds else none
 |true,_=>none
def zy1(tup:Bool)(n:Nat)(tc:TT2)(te:TE2)(js:List Nat)(ρ:En)(q:List D->Dk->Prop):List D->List D->Dk->Prop
 | [],acc,δ=>q acc δ
 |d::ds,acc,δ=>match tgD tup n d with
  |some es=>tc (λ_ _ _ _=>False) (es.map .val++zu8 ρ js) δ λb ρ1 δ1=>if b=true then te (λ_ _ _ _=>False) ρ1 δ1 λe _ δ2=>acc.length<1000/\zy1 tup n tc te js ρ q ds (acc++[e]) δ2 else zy1 tup n tc te js ρ q ds acc δ1
  |none=>False
section
variable{K:Frag}{Y:Y2}{F H:Hp}{σ:St}{ρ:En}{δ:Dk}
theorem j0m{zz6:Hp}{sf:Option X0}{cs:En}{a:St}(b:∀(i:Nat) (c:Cell),cs[i]?=some c->zo7 K F H zz6 sf c (a[i]?).join):∀{es:List D} {ws:List V},zz5 K F es ws->∀(i:Nat) (c:Cell),(es.map Cell.val++cs)[i]?=some c->zo7 K F H zz6 sf c ((ws.map some++a:St)[i]?).join
 | [],ws,r,i,c,e=>by rw[zz8.mp r];exact b i c e
 |d::es,ws,r,0,c,e=>by
  let ⟨v,l,rfl,f,g⟩:=zz1.mp r;cases e;exact ⟨v,rfl,f⟩
 |d::es,ws,r,i+1,c,e=>by
  let ⟨v,l,rfl,f,g⟩:=zz1.mp r;exact j0m b g i c e
def I2.zY2{ws:List V}{b:List Nat}(I:I2 K Y F H σ ρ δ)(r:zz5 K F es ws):I2 K ⟨F,H,δ,none⟩ F H (ws.map some++y0c σ b) (es.map .val++zu8 ρ b) δ:=by
 have f:∀(i:Nat) c,(es.map Cell.val++zu8 ρ b)[i]?=some c->(∃e,c=.val e)\/c=.no:=λi c e=>by
  have m:=k1m e;rcases j1g.mp m with m |m
  .grind
  .let ⟨j,_,rfl⟩:=j1u.mp m;unfold k9
   (split<;>simp_all)
 have no:∀i a,¬y6 (es.map .val++zu8 ρ b) (ws.map some++y0c σ b) i a:=λi a o=>by
  rcases o.1 with ⟨es,q⟩|⟨C,fs,q⟩|⟨d,q⟩|⟨d,q⟩
  .grind
  .grind
  .grind
  .grind
 refine ⟨Ran.refl I.sub I.ran.dk,j0m (λi c e=>?_) r,by simp[y0c,zu8,r.length],λi j a _ o _=>absurd o (no i a),λi a o=>absurd o (no i a)⟩;unfold zu8 at e;rw[k1h,k1c]at e;let ⟨j,g,rfl⟩:=e;unfold y0c;rw[k1h,g];cases k:ρ[j]? with
 |none=>trivial
 |some c=>
  have w:=I.env j c k;cases c with
  |val e=>exact w
  |_=>trivial
end
section
variable{K:Frag}{Y:Y2}{F H:Hp}{σ:St}{ρ:En}{δ:Dk}
structure zi0(Y:Y2)(F H:Hp)(σ:St)(ρ:En)(δ:Dk)(D:X0):Prop where
 f:F D=none
 h0:Y.zz6 D=none
 off:Off δ D
 no:∀j a,y6 ρ σ j a->a≠D
 nx:∀x,H D≠some (.own x)
def I2.z64{D:X0}(I:I2 K Y F H σ ρ δ)(c:H D=none):zi0 Y F H σ ρ δ D:=by
 refine ⟨I.sub.free c,I.ran.fresh c,λb f e w=>?_,λj a o=>?_,λx e=>?_⟩
 .let ⟨_,i,d,_⟩:=I.ran.dk b f e;rw[<-w,c]at d;cases d
 .let ⟨u,g⟩:=I.zc7 o;exact i0 g c
 .rw[c]at e;cases e
def I2.zi8{D:X0}{o:HO}(I:I2 K Y F H σ ρ δ)(L:zi0 Y F H σ ρ δ D):I2 K Y F (upd H D o) σ ρ δ:=by
 refine ⟨⟨λb u e=>?_,λb fs e=>?_,λb u e f=>?_,I.ran.f0,I.ran.zl5,I.ran.dto⟩,λj c e=>?_,I.len,I.apart,I.off⟩
 .rw[j0 (i0 e L.f)];exact I.sub _ _ e
 .let ⟨m,ws,n,q3⟩:=I.ran.dk b fs e;exact ⟨m,ws,by rw[j0 (j1k (L.off b fs e))];exact n,q3⟩
 .rw[j0 (i0 e L.h0)];exact I.ran.keep b u e f
 .have w:=I.env j c e;cases c with
  |no=>trivial
  |val d=>exact w
  |own fs=>
   let ⟨b,ws,e1,a,g⟩:=w;exact ⟨b,ws,e1,by rw[j0 (L.no j b ⟨.inl ⟨fs,e⟩,x4 e1⟩)];exact a,g⟩
  |obj C fs=>
   let ⟨b,k,ws,e1,i,a,l,g⟩:=w;exact ⟨b,k,ws,e1,i,by rw[j0 (L.no j b ⟨.inr (.inl ⟨C,fs,e⟩),x4 e1⟩)];exact a,by rw[j0 (show k≠D from λw=>L.nx b (w▸l))];exact l,g⟩
  |zm3 fs=>
   let ⟨b,ws,e1,a,g⟩:=w;exact ⟨b,ws,e1,by rw[j0 (L.no j b ⟨.inr (.inr (.inl ⟨fs,e⟩)),x4 e1⟩)];exact a,g⟩
  |zt9 fs=>
   let ⟨b,ws,e1,a,g⟩:=w;exact ⟨b,ws,e1,by rw[j0 (L.no j b ⟨.inr (.inr (.inr ⟨fs,e⟩)),x4 e1⟩)];exact a,g⟩
def I2.iceG{D:X0}(I:I2 K Y F H σ ρ δ)(L:zi0 Y F H σ ρ δ D)(m:H D=some u):I2 K Y (upd F D u) H σ ρ δ:=by
 have sm:=zz7.new (o:=u) L.f;refine ⟨⟨λb v e=>?_,λb fs e=>?_,I.ran.keep,λb v e=>?_,λb v e=>?_,I.ran.dto⟩,λj c e=>?_,I.len,I.apart,I.off⟩
 .by_cases z:b=D
  .subst z;rw[j3]at e;cases e;exact m
  .rw[j0 z]at e;exact I.sub _ _ e
 .let ⟨n,ws,p,q3⟩:=I.ran.dk b fs e;exact ⟨by rw[j0 (j1k (L.off b fs e))];exact n,ws,p,q3.mono sm⟩
 .rw[j0 (i0 (I.ran.f0 b v e) L.f)];exact I.ran.f0 b v e
 .by_cases z:b=D
  .subst z;exact .inr L.h0
  .rw[j0 z]at e;exact I.ran.zl5 b v e
 .have w:=I.env j c e;cases c with
  |no=>trivial
  |val d=>let ⟨u,e1,a⟩:=w;exact ⟨u,e1,a.mono sm⟩
  |own fs=>
   let ⟨b,ws,e1,g,f1,g1,a⟩:=w;exact ⟨b,ws,e1,g,by rw[j0 (L.no j b ⟨.inl ⟨fs,e⟩,x4 e1⟩)];exact f1,g1,a.mono sm⟩
  |obj C fs=>
   let ⟨b,k,ws,e1,i,g,l,f1,f2,g1,g2,a⟩:=w;exact ⟨b,k,ws,e1,i,g,l,by rw[j0 (L.no j b ⟨.inr (.inl ⟨C,fs,e⟩),x4 e1⟩)];exact f1,by rw[j0 (show k≠D from λw=>L.nx b (w▸l))];exact f2,g1,g2,a.mono sm⟩
  |zm3 fs=>
   let ⟨b,ws,e1,g,f1,g1,a⟩:=w;exact ⟨b,ws,e1,g,by rw[j0 (L.no j b ⟨.inr (.inr (.inl ⟨fs,e⟩)),x4 e1⟩)];exact f1,g1,a.mono sm⟩
  |zt9 fs=>
   let ⟨b,ws,e1,g,f1,g1,a⟩:=w;exact ⟨b,ws,e1,g,by rw[j0 (L.no j b ⟨.inr (.inr (.inr ⟨fs,e⟩)),x4 e1⟩)];exact f1,g1,a.mono sm⟩
def zi0.ran{D:X0}{g i:Hp}{a:Dk}(L:zi0 Y F H σ ρ δ D)(d:H D=some u)(R:Ran K F H δ g i a):i D=some u/\zi0 Y g i σ ρ a D:=by
 have j:=R.keep D _ d L.off;refine ⟨j,?_,L.h0,λb l e w=>?_,L.no,λx e=>L.nx x (by rw[d,<- j,e])⟩
 .cases z:g D with
  |none=>rfl
  |some u=>
   rcases R.zl5 D u z with w |w
   .rw[L.f]at w;cases w
   .rw[d]at w;cases w
 .cases hd:δ with
  |none=>have:=R.dto.2 b l e hd;rw[<-w,d]at this;cases this
  |some p=>
   let ⟨c,k⟩:=p;let ⟨m,z⟩:=R.dto.1 c k hd;rw[e]at z;cases z;exact L.off b k hd w
theorem zi0.upd{D:X0}(L:zi0 Y F H σ ρ δ D)(a:∀x,u≠.own x):zi0 Y F (upd H D u) σ ρ δ D:=⟨L.f,L.h0,L.off,L.no,λx e=>by rw[j3]at e;exact a x (i1q e)⟩
def zi0.yld{v:V}{f b:Hp}{D:X0}(L:zi0 Y F H σ ρ δ D)(c:H D=some u)(g:y1w K F H d v b)(i:f D=none):b D=some u/\zi0 Y f b σ ρ δ D:=by
 have a:b D=some u:=by
  rcases g with ⟨rfl,_⟩|⟨p,k,l,j,rfl,_⟩
  .exact c
  .rw[j0 (i0 c j)];exact c
 exact ⟨a,i,L.h0,L.off,L.no,λx e=>L.nx x (by rw[c,<- a,e])⟩
end
section
variable{X:Cx}{Y:Y2}{W:XW}{pos:Pos}{target elt iter:Expr}{ifs:List Expr}{xs:List Str}{js:List Nat}{scope:P4}{tc:TT2}{te:TE2}{ti:TI2}{tup:Bool}{g:TG}
def tcY(K:Frag)(tc:TT2):TT:=λσ H Q=>∃Y',upT K Y' W0 tc σ H Q
def q1v{K:Frag}{H:Hp}{v:V}{k:List V->Prop}(e:tgD tup n d=some es)(r:Rep K F d v)(s:zz7 F H)(h:∀ws,zz5 K F es ws->k ws):tgV K tup n v H k:=by
 unfold tgD at e;split at e
 .cases e;exact h [v] (zz5.cons r zz5.nil)
 .split at e
  .rename_i hn;cases e;let ⟨a,b,rfl,c,z⟩:=zz9.mp r;exact ⟨a,b,rfl,SqT.of (s _ _ c),by rw[z.length];exact hn,h b z⟩
  .cases e
 .cases e
def j0l{σ:St}{g:En}{r:Dk}{F1 S:Hp}{J:It}{q:List D->Dk->Prop}{Q:X0->Hp->Prop}(I1:I2 X.K Y F1 S σ g r)(C:zj2 X.K J F1 ds)(h1:zy1 tup n tc te js g q ds [] r)
 (k:∀D L U t b vs,I2 X.K Y L U σ g t->zz7 F1 L->U D=some (.lst vs)->L D=none->Y.zz6 D=none->Off t D->(∀j a,y6 g σ j a->a≠D)->zz5 X.K L b vs->q b t->Q D U):
 ∀D,S D=none->r0k X.K J tup n (y0c σ js) (tcY X.K tc) (z63 D (teY X.K te)) (upd S D (.lst [])) λo=>Q D o:=by
 intro D hD;have L0:=I1.z64 hD;refine ⟨λi m o=>∃F2 c b u,I2 X.K Y F2 o σ g c/\zz7 F1 F2/\o D=some (.lst u)/\zi0 Y F2 o σ g c D/\zz5 X.K F2 b u/\zy1 tup n tc te js g q (ds.drop i) b c/\i<=ds.length/\m=ds.length-i,
  ⟨ds.length,F1,r,[],[],I1.zi8 L0,zz7.refl F1,j3,L0.upd (λ_ z=>nomatch z),zz5.nil,by simpa using h1,j1e _,by simp⟩,?_⟩
 rintro i m o ⟨F2,c,b,u,p,F,w,l,M,B,hi,rfl⟩;cases e:ds[i]? with
 |none=>
  have N:=h1t.mp e;have ei:i=ds.length:=by lia
  subst ei;rw[d1g]at B;exact .inl ⟨C.stop F2 o F p.sub,k D F2 o c b u p F w l.f l.h0 l.off l.no M B⟩
 |some d=>
  have N:=(k1t.mp e).1;let ⟨go,yl⟩:=C.item i d F2 o e F p.sub;refine .inr ⟨go,λv V y=>?_⟩;have hy:=yl v V y;let ⟨W,O,P,r3,Z⟩:=p.yld hy;let ⟨G,L3⟩:=l.yld w hy (Z D _ w l.f);have ed:ds.drop i=d::ds.drop (i+1):=by rw[i1z N];congr 1;exact (k1t.mp e).2
  rw[ed]at B;unfold zy1 at B;split at B
  .rename_i es aa;refine q1v aa r3 O.sub λws ab _=>?_
   refine ⟨⟨W,V,c,none⟩,W,_,c,_,_,O.zY2 ab,B,λbb F4 H4 ac I I4 R h4=>?_,λ_ _ _ _ _ _ _ _ _ _ _ z=>z⟩;let ⟨ae,L4⟩:=L3.ran G I4.ran;cases bb with
   |false=>exact ⟨ds.length-(i+1),by lia,F4,I,b,u,O.call I4.ran,(F.trans P).trans R,ae,L4,M.mono (P.trans R),h4,N,rfl⟩
   |true=>
    refine ⟨⟨W,V,c,none⟩,F4,ac,I,_,_,I4,h4,λd5 v5 F5 H5 ah af I5 s5 r5 h5=>?_,λ_ _ _ _ _ _ _ _ _ _ _ z=>z⟩;let ⟨ag,L5⟩:=L3.ran G I5.ran;exact ⟨u,ag,by rw[M.length];exact k1f h5.1 (by decide),ds.length-(i+1),by lia,F5,af,b++[d5],u++[v5],(O.call I5.ran).zi8 L5,(F.trans P).trans (R.trans s5),j3,L5.upd (λ_ z=>nomatch z),(M.mono (P.trans (R.trans s5))).append (zz5.cons r5 zz5.nil),h5.2,N,rfl⟩
  .exact B.elim
structure zC4(X:Cx)(Y:Y2)(W:XW)(ifs:List Expr)(t:TT2):Prop where
 go:zU0 X ifs (upT X.K Y W t)
def r0j:TT2:=λ_ ρ δ q=>q true ρ δ
def h0b:zC4 X Y W [] r0j:=⟨λa s c H Q I zz=>by let ⟨F,d,δ,x,q,b,h,k,e⟩:=zz;exact q0l a s c H Q I (k true F H d δ b (zz7.refl F) h)⟩
def y1k{c:Expr}(h:PT2 X Y W c tc):zC4 X Y W [c] tc:=⟨t1s h.go⟩
variable{i:Nat}{y:Str}{py zg5:Pos}
def s0z(ti:TI2)(tup:Bool)(n:Nat)(js:List Nat)(tc:TT2)(te:TE2):TE2:=λx ρ δ q=>ti x ρ δ λds ρ1 δ1=>zy1 tup n tc te js ρ1 (λacc δ2=>q (.lst acc) ρ1 δ2) ds [] δ1
def d0v{σ:St}{H:Hp}{Q:VK}(h:upE X.K Y W (s0z ti tup n js tc te) σ H Q):y1m X.K (z59 X.K Y W ti) tup n js (tcY X.K tc) (teY X.K te) σ H Q:=by
 let ⟨F,e,δ,x,q,I,h,k,f⟩:=h;refine ⟨F,e,δ,x,_,I,h,λds J F1 w a g i j b l=>j0l i b l λD y z c m o p t u d h0 of no r v=>?_,f⟩;exact k _ _ _ _ a c (p.ice d h0 of u no) ((j.trans t).trans (zz7.new d)) (zy6.mpr ⟨D,o,rfl,j3,r.mono (zz7.new d)⟩) v
variable(hc:X.calm=true)(S:zx2 X xs js scope)(hi:PI2 X Y W target iter ti)(hg:(xs++js.map (fun j=>X.N.getD j "")).Nodup->∀C zy0 zz6 fp cl,PG (X.zy1 xs js scope cl C zy0 zz6 fp) target g)(gm:TgM X.K tup xs.length g)
 (ht:∀C zy0 zz6 fp cl Y',zC4 (X.zy1 xs js scope cl C zy0 zz6 fp) Y' W0 ifs tc) (he:∀C zy0 zz6 fp cl Y',PE2 (X.zy1 xs js scope cl C zy0 zz6 fp) Y' W0 elt te)
include hc S hi hg gm ht he
def t1l(hs:∀v,foldedSetIterable iter X.env v=pure v:=by intro _;rfl):PE2 X Y W (.ListComp elt [⟨target,iter,ifs,0⟩] scope pos) (s0z ti tup xs.length js tc te):=
 pe2 (t1q hc S hi.go (hg S.nd) gm (fun C zy0 zz6 fp cl pins s σ H Q I ⟨Y',h⟩=>(ht C zy0 zz6 fp cl Y').go pins s σ H Q I h) (fun C zy0 zz6 fp cl pins s σ H Q I ⟨Y',h⟩=>(he C zy0 zz6 fp cl Y').go pins s σ H Q I h) hs) fun σ H Q h=>d0v h
def d0u(hN:X.N.Nodup)(hy:X.N[i]?=some y:=by rfl)(hl:Loc X.env.scope y:=by walk_at "v2")
 (hsw:B2 (.ListComp elt [⟨target,iter,ifs,0⟩] scope pos) (some (.Name y py)) zg5.line X.env=pure true:=by rfl) (hs:∀v,foldedSetIterable iter X.env v=pure v:=by intro _;rfl) (hfn:X.fn y=true\/X.env.scope.names.lookup y=some .local:=by walk_at "v1"):
 PS2 X Y W (.Assign [.Name y py] (.ListComp elt [⟨target,iter,ifs,0⟩] scope pos) zg5) (c0a i (s0z ti tup xs.length js tc te)):=
 ps2 (d0z hc S hi.go (hg S.nd) gm (fun C zy0 zz6 fp cl pins s σ H Q I ⟨Y',h⟩=>(ht C zy0 zz6 fp cl Y').go pins s σ H Q I h) (fun C zy0 zz6 fp cl pins s σ H Q I ⟨Y',h⟩=>(he C zy0 zz6 fp cl Y').go pins s σ H Q I h) hN hy hl hsw hs hfn) fun E1 σ H ⟨F,ρ,δ,E2,I,h,er⟩=>
  d0v ⟨F,ρ,δ,E2.xc,_,I,h,fun d v F' H' ρ' δ' I' s' r' h'=>er.nx _ F' H' _ δ' (I'.put r') s' h',er.xc⟩
omit hc S hi hg gm ht he in
def d0t(i:Nat)(ti:TI2)(tup:Bool)(n:Nat)(js:List Nat)(tc:TT2)(te:TE2):TS2:=λE ρ δ=>ti E.xc ρ δ λds ρ1 δ1=>zy1 tup n tc te js ρ1 (λacc δ2=>E.nx (ρ1.set i (.own acc)) δ2) ds [] δ1
def y1j(hN:X.N.Nodup)(hy:X.N[i]?=some y:=by rfl)(hl:Loc X.env.scope y:=by walk_at "v2")
 (hsw:B2 (.ListComp elt [⟨target,iter,ifs,0⟩] scope pos) (some (.Name y py)) zg5.line X.env=pure true:=by rfl) (hs:∀v,foldedSetIterable iter X.env v=pure v:=by intro _;rfl) (hfn:X.fn y=true\/X.env.scope.names.lookup y=some .local:=by walk_at "v1"):
 PS2 X Y W (.Assign [.Name y py] (.ListComp elt [⟨target,iter,ifs,0⟩] scope pos) zg5) (d0t i ti tup xs.length js tc te):=
 ps2 (d0z hc S hi.go (hg S.nd) gm (fun C zy0 zz6 fp cl pins s σ H Q I ⟨Y',h⟩=>(ht C zy0 zz6 fp cl Y').go pins s σ H Q I h) (fun C zy0 zz6 fp cl pins s σ H Q I ⟨Y',h⟩=>(he C zy0 zz6 fp cl Y').go pins s σ H Q I h) hN hy hl hsw hs hfn) fun E1 σ H ⟨F,ρ,δ,E2,I,h,er⟩=>
  ⟨F,ρ,δ,E2.xc,_,I,h,fun ds J F1 H1 ρ1 δ1 I1 s1 src h1=>j0l I1 src h1 fun D F' H' δ' acc vs I' s' hD hF h0 of no r hq=>
   er.nx _ F' H' _ δ' (I'.take hF h0 of hD no r) (s1.trans s') hq,er.xc⟩
end
open W (XC)
mutual
def lfD:D->Bool
 | .lst _=>false | .scr _=>false | .dic _=>false | .dwk _=>false | .dwt _=>false
 | .tup xs=>zC5 xs
 | .ins _ fs=>zU1 fs | .exc _ fs=>zU1 fs
 |_=>true
def zC5:List D->Bool
 | []=>true
 |d::ds=>lfD d&&zC5 ds
def zU1:List (Str×D)->Bool
 | []=>true
 |(_,d)::ds=>lfD d&&zU1 ds
end
mutual
theorem Rep.lf{K:Frag}{F F':Hp}(s:∀b o,F b=some o->(∀vs,o≠.lst vs)->F' b=some o):∀{d:D} {v:V},lfD d=true->Rep K F d v->Rep K F' d v
 | .non,v,_,h=>by unfold Rep at h ⊢; exact h
 | .bl b,v,_,h=>by unfold Rep at h ⊢; exact h
 | .int i,v,_,h=>by unfold Rep at h ⊢; exact h
 | .str x,v,_,h=>by unfold Rep at h ⊢; exact h
 | .lst ds,v,l,h=>by unfold lfD at l;cases l
 | .tup ds,v,l,h=>by unfold Rep at h ⊢; unfold lfD at l;let ⟨a,vs,e,q,r⟩:=h;exact ⟨a,vs,e,s _ _ q (fun vs z=>by cases z),zz5.lf s l r⟩
 | .scr ds,v,l,h=>by unfold lfD at l;cases l
 | .dic ds,v,l,h=>by unfold lfD at l;cases l
 | .dwk ds,v,l,h=>by unfold lfD at l;cases l
 | .dwt ds,v,l,h=>by unfold lfD at l;cases l
 | .ins C fs,v,l,h=>by unfold Rep at h ⊢; unfold lfD at l;let ⟨a,dx,vs,e,q,q2,r⟩:=h;exact ⟨a,dx,vs,e,s _ _ q (fun vs z=>by cases z),s _ _ q2 (fun vs z=>by cases z),zv7.lf s l r⟩
 | .exc C fs,v,l,h=>by
  unfold Rep at h ⊢;unfold lfD at l;let ⟨a,fr,e,h⟩:=h;refine ⟨a,fr,e,?_⟩;rcases h with ⟨e1,q⟩|⟨d,us,q,q2,r⟩
  .exact .inl ⟨e1,s _ _ q (fun vs z=>by cases z)⟩
  .exact .inr ⟨d,us,s _ _ q (fun vs z=>by cases z),s _ _ q2 (fun vs z=>by cases z),zv7.lf s l r⟩
 | .ref a,v,_,h=>by unfold Rep at h ⊢; exact h
 | .ty n,v,_,h=>by unfold Rep at h ⊢; exact h
theorem zz5.lf{K:Frag}{F F':Hp}(s:∀b o,F b=some o->(∀vs,o≠.lst vs)->F' b=some o):∀{ds:List D} {vs:List V},zC5 ds=true->zz5 K F ds vs->zz5 K F' ds vs
 | [],vs,_,h=>by unfold zz5 at h ⊢; exact h
 |d::ds,vs,l,h=>by
  unfold zz5 at h ⊢;unfold zC5 at l;rw[k1p]at l;let ⟨v,r,e,q,z⟩:=h;exact ⟨v,r,e,Rep.lf s l.1 q,zz5.lf s l.2 z⟩
theorem zv7.lf{K:Frag}{F F':Hp}(s:∀b o,F b=some o->(∀vs,o≠.lst vs)->F' b=some o):∀{ds:List (Str×D)} {vs:List (Str×V)},zU1 ds=true->zv7 K F ds vs->zv7 K F' ds vs
 | [],vs,_,h=>by unfold zv7 at h ⊢; exact h
 |(x,d)::ds,vs,l,h=>by
  unfold zv7 at h ⊢;unfold zU1 at l;rw[k1p]at l;let ⟨v,r,e,q,z⟩:=h;exact ⟨v,r,e,Rep.lf s l.1 q,zv7.lf s l.2 z⟩
end
inductive BA where |v (d:D)|o (i:Nat)
abbrev TB2:=XK2->En->Dk->(List BA->En->Dk->Prop)->Prop
section
variable{te:TE2}{t:TB2}{x:Str}
def q1u(ρ:En)(σ:St)(b:X0):Prop:=∃(i:Nat) (ds:List D),ρ[i]?=some (Cell.own ds)/\σ[i]?=some (some (V.ref b))
open Classical in
open Classical in
def back(ρ:En)(σ:St)(F:Hp):Hp:=λb=>if q1u ρ σ b then none else F b
end
open W (XC)
section
variable{X:Cx}{K:Frag}
def z0f:List D->Option (List Int)
 | []=>some []
 | .int i::r=>(z0f r).map (i::·)
 |_=>none
theorem r0i{F:Hp}:∀{ds:List D} {ns:List Int} {vs:List V},z0f ds=some ns->zz5 K F ds vs->vs=ns.map V.int
 | [],ns,vs,h,r=>by cases h;rw[zz8.mp r];rfl
 |d::ds,ns,vs,h,r=>by
  let ⟨v,l,rfl,a,c⟩:=zz1.mp r;cases d with
  |int b=>
   let ⟨e,e1,rfl⟩:=k1c.mp h;rw[zz4.mp a,r0i e1 c];rfl
  |_=>cases h
theorem y7:∀ns:List Int,z0f (ns.map D.int)=some ns
 | []=>rfl
 |n::ns=>by rw[k1l];unfold z0f;rw[y7 ns];rfl
def zC6(ns:List Int):Prop:=ns.length<=1000/\∀n∈ns,-(2^40)<=n/\n<=2^40
theorem j0k:∀(ns:List Int),(∀n∈ns,-(2^40)<=n/\n<=2^40)->-(2^40*(ns.length:Int))<=ns.sum/\ns.sum<=2^40*(ns.length:Int)
 | [],_=>by simp
 |n::ns,h=>by
  have a:=j0k ns λm hm=>h m (k1o _ hm)
  have b:=h n k1g
  grind
def t1k{ns:List Int}(h:zC6 ns):y1l ns:=λj a=>by
 have b:-(2^40)<=ns.getD j 0/\ns.getD j 0<=2^40:=by
  rw[k1r,k1u a];exact h.2 _ (i1t a)
 refine ⟨⟨by lia,by lia⟩,?_⟩;rw[v0a];have c:=j0k (ns.take (j+1)) λm hm=>h.2 m (c1l hm)
 have d:(ns.take (j+1)).length<=1000:=j1o (by grind) h.1;exact ⟨by lia,by lia⟩
def sumF:F1:=λds q=>match ds with | [d]=>(match zm4 d with |some xs=>(match z0f xs with |some ns=>zC6 ns/\q (.int ns.sum)|none=>False)|none=>False)|_=>False
def z65:t0w K (rSum K) sumF:=by
 intro Y F H f g δ i ds j q I r c k;unfold sumF at c;split at c
 .split at c
  .split at c
   .rename_i l e _ ns en;let ⟨v,rfl,d⟩:=z0g r;let ⟨a,m,b,rfl,sq,z⟩:=j0n e d;exact ⟨b,a,ns,rfl,by rw[<-r0i en z];exact I.sub.sq sq,t1k c.1,k _ _ F H I (zz7.refl F) (zz4.mpr rfl) c.2⟩
   .exact c.elim
  .exact c.elim
 .exact c.elim
def zK2(K:Frag):R2:=λx y H Q=>o1l K x y H Q\/zL8 K x y H Q
def z66:F2:=λd1 d2 q=>match d1,d2 with
 | .int i,.int j=>q (.int (i+j))
 | .lst xs,.lst ys=>xs.length+ys.length<=1000/\q (.lst (xs++ys))
 | .tup xs,.tup ys=>xs.length+ys.length<=1000/\q (.tup (xs++ys))
 |_,_=>False
def x0m:OpR X (K3 .Add) (zK2 X.K):=e0i o1k n1m
def r0h:OpD K (zK2 K) z66:=by
 intro Y F H i j δ x y w z l q I d e c k;unfold z66 at c;split at c
 .exact .inl (zO1 Y F H i j δ x y _ _ l q I d e c k)
 .exact .inl (zO1 Y F H i j δ x y _ _ l q I d e c k)
 .rename_i n o;have r:=d;have f:=e;let ⟨a,t,rfl,e1,z1⟩:=zz9.mp d;let ⟨b,u,rfl,e2,z2⟩:=zz9.mp e;refine .inr ⟨a,b,t,u,rfl,rfl,SqT.of (I.sub _ _ e1),SqT.of (I.sub _ _ e2),h0g (by rw[z1.length,z2.length];exact c.1),λm=>?_,λm v=>?_,λ_ _ p g=>k _ _ _ _ (I.alloc g) (I.grow g) (I.tup g (z1.append z2)) c.2⟩
  .have:n=[]:=i1g (by rw[<-z1.length,m];rfl);subst this;exact k _ _ F H I (zz7.refl F) f c.2
  .have:o=[]:=i1g (by rw[<-z2.length,v];rfl);subst this;exact k _ _ F H I (zz7.refl F) (by grind) c.2
 .exact c.elim
end
section
variable{ta:TA2}{i:Nat}{x:Str}
end
structure KNo(K:Frag)(C:X0):Prop where
 n:PySem.W.kitOne K (.type "NoneType") (.ref C)=some false
 b:PySem.W.kitOne K (.type "bool") (.ref C)=some false
 i:PySem.W.kitOne K (.type "int") (.ref C)=some false
 s:PySem.W.kitOne K (.type "str") (.ref C)=some false
 l:PySem.W.kitOne K (.type "list") (.ref C)=some false
 t:PySem.W.kitOne K (.type "tuple") (.ref C)=some false
 d:PySem.W.kitOne K (.type "dict") (.ref C)=some false
def u0z{K:Frag}{C:X0}{d:D}(N:KNo K C)(h:o5 d=true):j0u K d (.ref C)=some false:=by
 cases d with
 |non=>exact N.n
 |bl b=>exact N.b
 |int b=>exact N.i
 |str b=>exact N.s
 |lst b=>exact N.l
 |tup b=>exact N.t
 |dic b=>exact N.d
 |_=>cases h
def t1j{K:Frag}{C:X0}{fs:List (Str×D)}:j0u K (.ins C fs) (.ref C)=some true:=by
 show PySem.W.kitOne K (.ref C) (.ref C)=some true;unfold PySem.W.kitOne
 grind
def d0s{tup:Bool}{n:Nat}{j:TT2}{l:TE2}{m:List Nat}{o:En}{q:List D->Dk->Prop}{ds:List D}{a:List D}{δ:Dk}(P:Nat->List D->Dk->Prop)(h0:P 0 a δ)
 (step:∀(i:Nat) (d:D) (a:List D) (δ:Dk) (rest:List D->Dk->Prop),ds[i]?=some d->P i a δ->(∀c f,P (i+1) c f->rest c f)->match tgD tup n d with
  |some v=>j (λ_ _ _ _=>False) (v.map .val++zu8 o m) δ λb r g=>if b=true then l (λ_ _ _ _=>False) r g λe _ t=>a.length<1000/\rest (a++[e]) t else rest a g
  |none=>False)
 (fin:∀a δ,P ds.length a δ->q a δ):zy1 tup n j l m o q ds a δ:=by
 have key:∀(k i:Nat) (a:List D) (δ:Dk),i+k=ds.length->P i a δ->zy1 tup n j l m o q (ds.drop i) a δ:=by
  intro k
  induction k with
  |zero=>
   intro i a δ w p;rw[f1c (by lia)];have:i=ds.length:=by lia
   subst this;exact fin a δ p
  |succ k y=>
   intro i a δ w p;have u:i<ds.length:=by lia
   rw[i1z u];have:=step i ds[i] a δ (zy1 tup n j l m o q (ds.drop (i+1))) (by simp[u]) p λc f z=>y (i+1) c f (by lia) z
   exact this
 have:=key ds.length 0 a δ (by lia) h0
 grind
end DL
namespace L2
open Spec PyProof.Rows
section
variable{X:Cx}
def zg6:List V->List V->Bool
 | [],[]=>true
 |x::xs,y::ys=>eqV x y&&zg6 xs ys
 |_,_=>false
theorem q0k:∀(xs a:List V),((List.range (min xs.length a.length)).all (λj=>match xs[j]?,a[j]? with |some x,some y=>eqV x y |_,_=>false)&&xs.length==a.length)=zg6 xs a
 | [],[]=>rfl
 | [],_::_=>by simp[zg6]
 |_::_,[]=>by simp[zg6]
 |x::xs,y::a=>by
  have b:=q0k xs a;have e:min (x::xs).length (y::a).length=min xs.length a.length+1:=by simp only[k1k];lia
  rw[e,h1g,i1n,c1w];unfold zg6
  grind
def zC7(K:Fg)(neg:Bool):R2:=λx y H Q=>∃a b xs ys,x=.ref a/\y=.ref b/\SqT K H a xs/\SqT K H b ys/\xs.all z0x=true/\ys.all z0x=true/\Q (.bl (if neg then !zg6 xs ys else zg6 xs ys)) H
def m0p{A:A0}{s:Y0}{xs a:List V}{us ws:List Z0}(r:zy8 xs us)(c:zy8 a ws)(f:xs.all z0x=true)(e:a.all z0x=true):∀j (h1:j<us.toArray.size) (d:j<ws.toArray.size),SeqAt.EqAt A s us.toArray[j] ws.toArray[j] (match xs[j]?,a[j]? with |some x,some y=>eqV x y |_,_=>false):=by
 intro j h1 d;have l1:j<xs.length:=by rw[r.length];simpa using h1
 have l2:j<a.length:=by rw[c.length];simpa using d
 let ⟨u,l,g⟩:=r.get (k1u l1);let ⟨w,m,b⟩:=c.get (k1u l2);have i:us.toArray[j]=u:=by
  grind
 have k:ws.toArray[j]=w:=by
  grind
 rw[i,k,k1u l1,k1u l2];exact a0l g b (j1l.mp f _ (i1t l1)) (j1l.mp e _ (i1t l2))
def zK3(f:X.A.units<O2):OpR X (R1 .Eq) (zC7 X.K false):=by
 intro c s n H x y v u Q I g i h;let ⟨a,b,j,k,rfl,rfl,ha,l,f1,f2,q⟩:=h;cases g;cases i;let ⟨m,r,p,_⟩:=I.tuple ha;let ⟨d,e,p2,_⟩:=I.tuple l;refine SeqAt.eq_tupleAt p p2 f (m0p r e f1 f2) ⟨.bl (zg6 j k),H,I,?_,q⟩;rw[<-q0k,r.length,e.length];rfl
def zK4(f:X.A.units<O2):OpR X (R1 .NotEq) (zC7 X.K true):=by
 intro c s n H x y v u Q I g i h;let ⟨a,b,j,k,rfl,rfl,ha,l,f1,f2,q⟩:=h;cases g;cases i;let ⟨m,r,p,_⟩:=I.tuple ha;let ⟨d,e,p2,_⟩:=I.tuple l;refine SeqAt.RcNeAt.tuples p p2 f (m0p r e f1 f2) X.prog X.w X.xe _ ⟨.bl (!zg6 j k),H,I,?_,q⟩;rw[<-q0k,r.length,e.length];rfl
end
end L2
namespace DL
open Spec L2
open W (XC)
section
variable{X:Cx}{K:Frag}
def rEqE(K:Frag):R2:=λx y H Q=>rEq x y H Q\/zC7 K false x y H Q
def rNeE(K:Frag):R2:=λx y H Q=>rNe x y H Q\/zC7 K true x y H Q
def t0t(a:X.A.units<O2):OpR X (R1 .Eq) (rEqE X.K):=e0i z02 (zK3 a)
def r0g(a:X.A.units<O2):OpR X (R1 .NotEq) (rNeE X.K):=e0i z03 (zK4 a)
def zg7:List D->List D->Bool
 | [],[]=>true
 |x::xs,y::ys=>eqV (toV x) (toV y)&&zg7 xs ys
 |_,_=>false
theorem j0j:∀xs a:List D,zg6 (xs.map toV) (a.map toV)=zg7 xs a
 | [],[]=>rfl
 | [],_::_=>rfl
 |_::_,[]=>rfl
 |x::xs,y::a=>by rw[k1l,k1l];unfold zg6 zg7;rw[j0j xs a]
def eqG:F2:=λd1 d2 q=>match eqD d1 d2 with
 |some b=>q (.bl b)
 |none=>match d1,d2 with | .tup xs,.tup ys=>(xs.all z8&&ys.all z8)=true/\q (.bl (zg7 xs ys))|_,_=>False
def neG:F2:=λd1 d2 q=>match eqD d1 d2 with
 |some b=>q (.bl (!b))
 |none=>match d1,d2 with | .tup xs,.tup ys=>(xs.all z8&&ys.all z8)=true/\q (.bl (!zg7 xs ys))|_,_=>False
def m0o:OpD K (rEqE K) eqG:=by
 intro Y F H i j δ x y l m n q I f g c k;unfold eqG at c;split at c
 .rename_i b e;exact .inl (d_eq Y F H i j δ x y l m n q I f g (by unfold eqF;rw[e];exact c) k)
 .split at c
  .let ⟨d,c⟩:=c;rw[k1p]at d;let ⟨a,o,rfl,e1,z1⟩:=zz9.mp f;let ⟨b,p,rfl,e2,z2⟩:=zz9.mp g;let ⟨e3,e4⟩:=x8 d.1 z1;let ⟨e5,e6⟩:=x8 d.2 z2;refine .inr ⟨a,b,o,p,rfl,rfl,SqT.of (I.sub _ _ e1),SqT.of (I.sub _ _ e2),e4,e6,?_⟩;rw[e3,e5,j0j];exact k _ _ F H I (zz7.refl F) (zy2.mpr rfl) c
  .exact c.elim
def j0i:OpD K (rNeE K) neG:=by
 intro Y F H i j δ x y l m n q I f g c k;unfold neG at c;split at c
 .rename_i b e;exact .inl (d_ne Y F H i j δ x y l m n q I f g (by unfold neF;rw[e];exact c) k)
 .split at c
  .let ⟨d,c⟩:=c;rw[k1p]at d;let ⟨a,o,rfl,e1,z1⟩:=zz9.mp f;let ⟨b,p,rfl,e2,z2⟩:=zz9.mp g;let ⟨e3,e4⟩:=x8 d.1 z1;let ⟨e5,e6⟩:=x8 d.2 z2;refine .inr ⟨a,b,o,p,rfl,rfl,SqT.of (I.sub _ _ e1),SqT.of (I.sub _ _ e2),e4,e6,?_⟩;rw[e3,e5,j0j];exact k _ _ F H I (zz7.refl F) (zy2.mpr rfl) c
  .exact c.elim
def cutD(xs:List D)(lo hi:Option Int):List D:=(xs.drop (HT.sIx xs.length 0 lo)).take (HT.sIx xs.length xs.length hi-HT.sIx xs.length 0 lo)
def zz5.cut{F:Hp}{ds:List D}{vs:List V}{lo a:Option Int}(r:zz5 K F ds vs):zz5 K F (cutD ds lo a) (zV4 vs lo a):=by
 unfold cutD zV4;rw[r.length];exact (r.drop _).take _
abbrev TO2:=XK2->En->Dk->(Option Int->En->Dk->Prop)->Prop
variable{Y:Y2}{W:XW}{e lo hi:Expr}{te tl th:TE2}{pos p2:Pos}
def upO(K:Frag)(Y:Y2)(W:XW)(t:TO2):TO:=λσ H Q=>∃F ρ δ x q,I2 K Y F H σ ρ δ/\t x ρ δ q/\(∀o F' H' ρ' δ',I2 K Y F' H' σ ρ' δ'->zz7 F F'->q o ρ' δ'->Q o H')/\XR K Y W F x
structure PO2(X:Cx)(Y:Y2)(W:XW)(e:Option Expr)(t:TO2):Prop where
 go:PO X e (upO X.K Y W t)
def t2ON:TO2:=λ_ ρ δ q=>q none ρ δ
def t2OI(te:TE2):TO2:=λx ρ δ q=>te x ρ δ λd ρ1 δ1=>match d with | .int i=>q (some i) ρ1 δ1 |_=>False
def n1g:PO2 X Y W none t2ON:=⟨λa s b H Q I zz=>by let ⟨F,c,δ,x,q,d,h,k,e⟩:=zz;exact p1h a s b H Q I (k none F H c δ d (zz7.refl F) h)⟩
def n1f(h:PE2 X Y W e te):PO2 X Y W (some e) (t2OI te):=⟨λa s g H Q I zz=>by let ⟨F,j,δ,x,q,l,m,k,n⟩:=zz;exact p1g h.go a s g H Q I ⟨F,j,δ,x,_,l,m,λd v F1 o b c p r t f=>by
 cases d with
 |int i=>exact ⟨i,zz4.mp t,k (some i) F1 o b c p r f⟩
 |_=>exact f.elim,n⟩⟩
def slF(d:D)(l u:Option Int)(q:D->Prop):Prop:=match d with
 | .lst xs=>q (.lst (cutD xs l u))
 | .tup xs=>¬(HT.sIx xs.length 0 l=0/\HT.sIx xs.length xs.length u=xs.length)/\q (.tup (cutD xs l u))
 |_=>False
def t2Sl(te:TE2)(tl th:TO2):TE2:=λx ρ δ q=>te x ρ δ λd ρ1 δ1=>tl x ρ1 δ1 λl ρ2 δ2=>th x ρ2 δ2 λu ρ3 δ3=>slF d l u λe=>q e ρ3 δ3
def t1i{lo hi:Option Expr}{tl th:TO2}(J:PE2 X Y W e te)(L:PO2 X Y W lo tl)(M:PO2 X Y W hi th):PE2 X Y W (.Subscript e (.Slice lo hi none p2) pos) (t2Sl te tl th):=pe2 (v1i (SlR.or p1e zR4) J.go L.go M.go) λV H Q zz=>by
 let ⟨F,N,δ,x,q,I,h,k,j⟩:=zz
 refine ⟨F,N,δ,x,_,I,h,λd v F1 Z m n O o P R=>⟨F1,m,n,x,_,O,R,λl F2 H2 r t w y S=>⟨F2,r,t,x,_,w,S,λu F3 H3 f g b D i=>?_,j.mono (o.trans y)⟩,j.mono o⟩,j⟩;have sa:=(o.trans y).trans D;have G:=P.mono (y.trans D);cases d with
 |lst U=>
  let ⟨a,B,rfl,C,z⟩:=zy6.mp G;exact .inl ⟨a,B,rfl,SqL.of (b.sub _ _ C),λp c=>k _ _ _ _ f g (b.alloc c) (sa.trans (b.grow c)) (b.lst c z.cut) i⟩
 |tup U=>
  let ⟨a,B,rfl,C,z⟩:=zz9.mp G;exact .inr ⟨a,B,rfl,SqT.of (b.sub _ _ C),by rw[z.length];exact i.1,λp c=>k _ _ _ _ f g (b.alloc c) (sa.trans (b.grow c)) (b.tup c z.cut) i.2⟩
 |_=>exact i.elim
end
theorem m0n{c:TE2}{f:List Nat}{g:En}{q:List D->Dk->Prop}:∀(ds a:List D) (δ:Dk),zy1 false 1 r0j c f g q ds a δ=j9 c f g q ds a δ
 | [],a,δ=>rfl
 |d::ds,a,δ=>by
  show (c (λ_ _ _ _=>False) (.val d::zu8 g f) δ λe _ i=>a.length<1000/\zy1 false 1 r0j c f g q ds (a++[e]) i)=c (λ_ _ _ _=>False) (.val d::zu8 g f) δ λe _ b=>a.length<1000/\j9 c f g q ds (a++[e]) b
  congr 1;funext e j b;rw[m0n ds (a++[e]) b]
def n1e{X:Cx}{Y:Y2}{W:XW}{pos:Pos}{i a p b}(k v:Int):PE2 X Y W (.Dict [some (.Constant (.int k) i p)] [.Constant (.int v) a b] pos) (t2C (.dic [(.inl k,.int v)])):=n1u
end DL
namespace L2
open Spec PyProof.Rows W SeqAt
open AutoSeq1 (wpAny_loadPart')
open MeetsSeq MeetsSeq2 MeetsSeq3 SeqRoads2
def t1h(xs:Array Z0):Prop:=∀v∈xs.toList,∃i t,v=Value.int i t
def p0r{prog:V0}{w:T0}{A:A0}{E:Z0->Y0->Prop}{s:Y0}{a b:Int}{t u:Tok}{Q:Z0->Y0->Prop}(h:∀c,Q (.bool c) s):wpAny (model prog w) A (richCompare .Lt (.int a t) (.int b u)) Q E s:=by
 have:=PyProof.Rows.lt_int (prog:=prog) (w:=w) (A:=A) (E:=E) (s:=s) (a:=a) (b:=b) (t:=t) (u:=u) (Q:=Q) (h _);exact this
def n0p(l b:X0)(items e:Array Z0)(n n2:Nat)(o j:Option X0)(sl k:Array (Option Z0))(r:t1h items)(v:t1h e):
 Meets (Builtin.«tuple.__lt__» ⟨[.ref l,.ref b],[]⟩)
  (λA R s=>s.heap.get? l=some {cls:=.type "tuple",dict:=o,data:=.seq items n,slots:=sl}/\s.heap.get? b=some {cls:=.type "tuple",dict:=j,data:=.seq e n2,slots:=k}/\
   ∀c,R (.ok (.ret (.bool c))) s):=
 .of_wp λprog w A R s h=>by
  let ⟨i,g,d,tk,os⟩:=s;let ⟨z,B,h⟩:=h;have f2:=AutoSeq1.sub_tuple_tuple
  wp_walk using M4 z,M4 B,R5 _ (λrest b m=>b.1=none/\m=⟨i,g,d,tk,os⟩/\∀p∈rest,p∈items.toList.zip e.toList) _
  case turn=>
   rintro ⟨y,x⟩ rest b m ⟨f,rfl,hz⟩;have hm:=hz _ k1g;let ⟨a,t,rfl⟩:=r y (h1m hm).1;let ⟨c,u,rfl⟩:=v x (h1m hm).2;refine y0 (e1b a t c u prog w _ _ ?_);cases C:(a==c)with
   |true=>
    wp_walk
    exact ⟨rfl,rfl,λp i=>hz p (k1o _ i)⟩
   |false=>
    wp_walk using p0r
    intro c
    wp_walk
    exact ⟨_,rfl,h _⟩
  case fin=>
   rintro ⟨D,F⟩ m ⟨f,rfl,hz⟩;simp only at f;subst f
   wp_walk
   exact ⟨_,rfl,h _⟩
  case h=>
   exact ⟨rfl,rfl,λp i=>i⟩
def zi9(h:J0)(v:Z0):Prop:=∃a dd items n sl,v=.ref a/\h.get? a=some {cls:=.type "tuple",dict:=dd,data:=.seq items n,slots:=sl}/\t1h items
def zi9.keep{h h':J0}{v:Z0}(k:∀b o,h.get? b=some o->h'.get? b=some o)(t:zi9 h v):zi9 h' v:=by
 let ⟨a,c,items,n,sl,rfl,e,i⟩:=t;exact ⟨a,c,items,n,sl,rfl,k _ _ e,i⟩
section
variable{prog:V0}{w:T0}{A:A0}{E:Z0->Y0->Prop}{s:Y0}
def j0h{x y:Z0}{Q:Bool->Y0->Prop}(i:A.units<O2)(j:zi9 s.heap x)(ty:zi9 s.heap y)(h:∀c,Q c s):wpAny (model prog w) A (keyLt' oneType' x y) Q E s:=by
 let ⟨a,k,items,n,sl,rfl,e,l⟩:=j;let ⟨b,f,d,n2,g,rfl,m,o⟩:=ty;rw[keyLt'_oneType,oneLt'_eq];simp only[N1];refine y0 (wpAny_cRoomFor i ?_);exact y0 (wpAny_callSpecialIfBound?_slot (T:="tuple") ⟨_,e,rfl⟩ g1e (S5 g1e ⟨_,e,rfl⟩ c1z (d1l _ _) (n0p a b items d n n2 k f sl g l o) ⟨e,m,λc=>J1 (h c)⟩))
def d0r{vs:List Z0}{v1:Z0}{Q:SortKind->Y0->Prop}(G:2<=vs.length)(p:∀v∈vs,zi9 s.heap v)(h1:vs[0]?=some v1)(t:∃a j n sl,v1=.ref a/\s.heap.get? a=some {cls:=.type "tuple",dict:=j,data:=.seq #[] n,slots:=sl})(h:Q oneType' s):
 wpAny (model prog w) A (keyKind' vs.toArray) Q E s:=by
 have u:∀v∈vs,s.TypeIs v "tuple":=λv c=>by
  let ⟨a,j,items,n,sl,rfl,e,i⟩:=p v c;exact ⟨_,e,rfl⟩
 have first:∀(l:List Z0),(∀v∈l,zi9 s.heap v)->∀{b:List (Option Z0)->Y0->Prop},(∀r:List (Option Z0),r.length=l.length->(∀v,l[0]?=some v->(∃a j n sl,v=.ref a/\s.heap.get? a=some {cls:=.type "tuple",dict:=j,data:=.seq #[] n,slots:=sl})->r[0]?=some none)->b r s)->wpAny (model prog w) A (l.mapM firstOfTuple') b E s:=by
  intro l
  induction l with
  |nil=>intro _ b d;rw[List.mapM_nil];exact d0 (d [] rfl λv e=>by cases e)
  |cons x l o=>
   intro k b d;rw[List.mapM_cons];let ⟨a,j,items,n,sl,rfl,e,i⟩:=k x k1g;rw[kas_first_eq];refine y0 (y0 (B4 (T:="tuple") ⟨_,e,rfl⟩ ?_));rw[O0 (by decide)];refine y0 (listItems_at e rfl ?_);refine d0 (y0 (o (λv c=>k v (k1o _ c)) λr hr _=>d0 (d _ (by simp[hr]) λv y c=>?_)));cases y;let ⟨I,B,J,C,D,g⟩:=c;cases D;rw[e]at g;cases g;rfl
 have f:∀(l:List Z0),(∀v∈l,s.TypeIs v "tuple")->∀{b:List Z0->Y0->Prop},b (l.map λ_=>Value.type "tuple") s->wpAny (model prog w) A (l.mapM typeOf) b E s:=by
  intro l
  induction l with
  |nil=>intro _ b d;rw[List.mapM_nil];exact d0 d
  |cons x l o=>
   intro k b d;rw[List.mapM_cons];exact y0 (B4 (k x k1g) (y0 (o (λv c=>k v (k1o _ c)) (d0 d))))
 rw[keyKind'_eq,b1n,map_eq_pure_bind];refine y0 (y0 (first vs p λr hr h0=>d0 ?_));have e0:=h0 v1 h1 t;have hn:r.toArray.all (·.isSome)=false:=by
  rw[b1r];intro z;rw[a1u,j1l]at z;have:=z none (k1m e0);cases this
 have F:(r.toArray[0]?.bind id).isSome=false:=by rw[g1f,e0];rfl
 rw[hn,F];simp only[k1a,K1];rw[oneTypeOnly'_eq,b1n,map_eq_pure_bind];refine y0 (y0 (y0 (f vs u (d0 ?_))));have m:((vs.map λ_=>Value.type "tuple").toArray.all λx=>x==Value.type "tuple")=true:=by
  rw[a1u,j1l];intro x hx;let ⟨_,_,rfl⟩:=j1u.mp hx;decide
 have hz:(vs.map λ_=>Value.type "tuple").toArray[0]?=some (Value.type "tuple"):=by rw[g1f,k1h,h1];rfl
 rw[hz];simp only[m,N1];exact d0 (d0 h)
end
section
def EmpT(h:J0)(v:Z0):Prop:=∃a dd n sl,v=.ref a/\h.get? a=some {cls:=.type "tuple",dict:=dd,data:=.seq #[] n,slots:=sl}
end
open Spec PyProof.Rows W
def h0a{c g:Type}{R:c->g->Prop}{us a:List g}(p:a.Perm us):∀{xs:List c},Paired R xs us->∃b:List c,b.Perm xs/\Paired R b a:=by
 induction p with
 |nil=>intro xs h;exact ⟨xs,.refl _,h⟩
 |cons x p i=>
  intro xs h;cases h with
  |cons r t=>
   let ⟨b,py,d⟩:=i t;exact ⟨_::b,py.cons _,.cons r d⟩
 |swap x y l=>
  intro xs h;cases h with
  |cons r t=>
   cases t with
   |cons j t2=>exact ⟨_,.swap _ _ _,.cons j (.cons r t2)⟩
 |trans p1 p2 e f=>
  intro xs h;let ⟨b,py,d⟩:=f h;let ⟨k,m,hz⟩:=e d;exact ⟨k,m.trans py,hz⟩
def j0g{ns:List Int}:∀{us:List Z0},zy8 (ns.map V.int) us->∀w∈us,∃i t,w=Value.int i t:=by
 induction ns with
 |nil=>intro us r w a;rw[j1r]at r;cases r;cases a
 |cons n ns b=>
  intro us r w a;rw[k1l]at r;cases r with
  |cons c d=>
   rcases j1n.mp a with rfl |a
   .let ⟨t,e⟩:=c;exact ⟨n,t,e⟩
   .exact b d w a
section
def zK5(K:Fg):List V->Hp->VK->Prop:=λvs H Q=>∃a xs,vs=[.ref a]/\SqL K H a xs/\xs.length<64/\(∀v∈xs,∃p ns,v=.ref p/\SqT K H p (List.map V.int ns))/\(∀v,xs[0]?=some v->∃p,v=.ref p/\SqT K H p [])/\
 ∀ys:List V,ys.Perm xs->∀l,H l=none->Q (.ref l) (upd H l (.lst ys))
end
end L2
namespace DL
open Spec L2
def y1i{K:Fg}{F:Hp}{us a:List V}(p:a.Perm us):∀{ds:List D},zz5 K F ds us->∃b:List D,b.Perm ds/\zz5 K F b a:=by
 induction p with
 |nil=>intro ds h;exact ⟨ds,.refl _,h⟩
 |cons x p i=>
  intro ds h;cases ds with
  |nil=>cases zz8.mp h
  |cons d ds=>
   let ⟨v,r,e,c,t⟩:=zz1.mp h;cases e;let ⟨b,j,k⟩:=i t;exact ⟨_::b,j.cons _,.cons c k⟩
 |swap x y l=>
  intro ds h;cases ds with
  |nil=>cases zz8.mp h
  |cons d ds=>
   let ⟨v,r,e,c,t⟩:=zz1.mp h;cases e;cases ds with
   |nil=>cases zz8.mp t
   |cons w ds=>
    let ⟨v,r,e,m,t⟩:=zz1.mp t;cases e;exact ⟨_,.swap _ _ _,.cons m (.cons c t)⟩
 |trans p1 p2 f g=>
  intro ds h;let ⟨z,py,n⟩:=g h;let ⟨o,u,hz⟩:=f n;exact ⟨o,u.trans py,hz⟩
def n1d:F1:=λds q=>match ds with
 | [.lst xs]=>xs.length<64/\(∀x∈xs,∃ns:List Int,x=.tup (ns.map D.int))/\(∀x,xs[0]?=some x->x=.tup [])/\∀ys:List D,ys.Perm xs->q (.lst ys)
 |_=>False
theorem y1h{K:Fg}{F:Hp}:∀{ds:List D} {vs:List V},zz5 K F ds vs->∀v∈vs,∃d∈ds,Rep K F d v
 | [],vs,h,v,a=>by rw[zz8.mp h]at a;cases a
 |d::ds,vs,h,v,a=>by
  let ⟨u,r,rfl,b,t⟩:=zz1.mp h;rcases j1n.mp a with rfl |a
  .exact ⟨d,k1g,b⟩
  .let ⟨e,c,f⟩:=y1h t v a;exact ⟨e,k1o _ c,f⟩
def zK6{K:Fg}:t0w K (zK5 K) n1d:=by
 intro Y F H M N δ O ds P q I r b k;unfold n1d at b;split at b
 .rename_i i;let ⟨c,m,h0,n⟩:=b;let ⟨v,rfl,o⟩:=z0g r;let ⟨a,f,rfl,e,z⟩:=zy6.mp o;have tup:∀(ns:List Int) (v:V),Rep K F (.tup (ns.map D.int)) v->∃p,v=.ref p/\SqT K H p (List.map V.int ns):=λns v t=>by
   let ⟨p,ws,rfl,w,y⟩:=zz9.mp t;exact ⟨p,rfl,by rw[<-r0i (y7 ns) y];exact SqT.of (I.sub _ _ w)⟩
  refine ⟨a,f,rfl,SqL.of (I.sub _ _ e),by rw[z.length];exact c,λv B=>?_,λv j=>?_,λQ py l g=>?_⟩
  .let ⟨d,hd,rd⟩:=y1h z v B;let ⟨ns,rfl⟩:=m d hd;let ⟨p,e1,e2⟩:=tup ns v rd;exact ⟨p,ns,e1,e2⟩
  .cases f with
   |nil=>cases j
   |cons u f=>
    cases j;cases i with
    |nil=>cases zz8.mp z
    |cons x i=>
     let ⟨_,_,C,rd,_⟩:=zz1.mp z;cases C;have:=h0 x rfl;subst this;exact tup [] _ rd
  .let ⟨G,J,L⟩:=y1i py z;exact k _ _ _ _ (I.alloc g) (I.grow g) (I.lst g L) (n G J)
 .exact b.elim
end DL
namespace L2
open Spec PyProof.Rows W
open AutoSeq1 (wpAny_loadPart')
end L2
namespace DL
open Spec L2
def zn0:W1 "sorted"=some (.builtin "sorted"):=by decide +kernel
end DL
namespace L2
def zu7.zK7{k:Nat}{A:PySem.Around}(r:zu7 k A):A.units+2<PySem.cLine:=by have:=r.un;lia
end L2
namespace DL
open Spec L2
def n1c{H:Hp}{a b:X0}{x y z:HO}(ne:b≠a):upd (upd (upd H a x) b y) a z=upd (upd H b y) a z:=by
 funext c;by_cases h:c=a
 .subst h;rw[j3,j3]
 .rw[j0 h,j0 h];by_cases g:c=b
  .subst g;rw[j3,j3]
  .rw[j0 g,j0 g,j0 h]
def p6{X:Cx}{Y:Y2}{W:XW}{b:List Y1}{t t':TS2}(h:zl6 X Y W b t)(k:∀E a δ,t' E a δ->t E a δ):zl6 X Y W b t':=⟨q0o h.go λD d H zz=>by let ⟨F,a,δ,c,I,q,er⟩:=zz;exact ⟨F,a,δ,c,I,k _ _ _ q,er⟩⟩
end DL
namespace L2
open Spec PyProof.Rows W
end L2
namespace DL
open Spec L2
section
variable{j:Expr}{te tj:TE2}
end
def n0o{r:TE2}{t:List Nat}{u:En}{q:List D->Dk->Prop}{ds:List D}{δ:Dk}(I:Nat->Dk->Prop)(R:Nat->D->D->Prop)(F:ds.length<=1000)(h0:I 0 δ)
 (step:∀(i:Nat) (d:D) (b:Dk),ds[i]?=some d->I i b->∀Q:D->Dk->Prop,(∀e c,R i d e->I (i+1) c->Q e c)->r (λ_ _ _ _=>False) (.val d::zu8 u t) b λe _ c=>Q e c)
 (fin:∀a b,a.length=ds.length->(∀i d e,ds[i]?=some d->a[i]?=some e->R i d e)->I ds.length b->q a b):j9 r t u q ds [] δ:=by
 refine z9 (λi a b=>a.length=i/\(∀j d e,ds[j]?=some d->a[j]?=some e->R j d e)/\I i b) ⟨rfl,λj d e _ h=>(by simp at h),h0⟩ ?_ ?_
 .rintro i d a b rest l ⟨rfl,v,w⟩ g;have y:=(k1t.mp l).1;refine step _ d b l w (λe c=>a.length<1000/\rest (a++[e]) c) λe c hr m=>⟨by lia,g _ _ ⟨by rw[k1b];rfl,λj z B k f=>?_,m⟩⟩
  rcases Nat.lt_or_ge j a.length with n |n
  .rw[j1q n]at f;exact v j z B k f
  .rw[j1y n]at f;have o:j-a.length=0:=by
    have:=(k1t.mp f).1;simp at this;lia
   rw[o]at f;have p:j=a.length:=by lia
   subst p;rw[l]at k;cases k;cases f;exact hr
 .rintro a b ⟨k,f,C⟩;exact fin a b k f C
def y1g{j:TE2}{k:List Nat}{l:En}{q:List D->Dk->Prop}{ds:List D}{δ:Dk}(f:D->D)(n:ds.length<=1000)
 (step:∀d∈ds,∀Q:D->Dk->Prop,Q (f d) δ->j (λ_ _ _ _=>False) (.val d::zu8 l k) δ λe _ g=>Q e g) (fin:q (ds.map f) δ):j9 j k l q ds [] δ:=by
 refine n0o (λ_ a=>a=δ) (λ_ d e=>e=f d) n rfl (λi d a m h Q o=>?_) λb a t p r=>?_
 .subst h;exact step d (k1m m) Q (o _ _ rfl rfl)
 .subst r;have:b=ds.map f:=by
   apply b1m;intro i;rw[k1h];cases e1:ds[i]? with
   |none=>
    rw[h1t]at e1;rw[c1v (by lia)];rfl
   |some d=>
    have m:=(k1t.mp e1).1;have c:i<b.length:=by lia
    rw[k1u c,p i d _ e1 (k1u c)];rfl
  rw[this];exact fin
theorem p0q(k:Int):∀c:List Int,inD (.int k) (c.map D.int)=decide (k∈c)
 | []=>by simp[inD]
 |a::c=>by
  have b:=p0q k c;unfold inD at b ⊢;rw[k1l,g1q,b];have:eqV (toV (.int a)) (toV (.int k))=decide (k=a):=by
   show (decide (a=k))=decide (k=a);exact decide_eq_decide.mpr eq_comm
  rw[this];by_cases h:k=a<;>simp[h]
def x0l(c:List Int):(c.map D.int).all z8=true:=by
 rw[j1l];intro d hd;let ⟨x,_,rfl⟩:=j1u.mp hd;rfl
end DL
namespace L2
open Spec PyProof.Rows
end L2
namespace DL
open Spec L2
section
variable{ta:TA2}{te:TE2}
end
end DL
namespace L2
open Spec PyProof.Rows
end L2
namespace DL
open Spec L2
end DL
namespace L2
open Spec PyProof.Rows W
open AutoSeq1 (wpAny_loadPart')
end L2
namespace DL
open Spec L2
def neL:F2:=λd1 d2 q=>match d1,d2 with | .lst xs,.lst ys=>(xs.all z8&&ys.all z8)=true/\q (.bl (!zg7 xs ys))|_,_=>False
section
variable{ta tb:TE2}{x:Str}
variable{i:Nat}
end
end DL
namespace L2
def zu7.zJ1{k:Nat}{A:PySem.Around}(r:zu7 k A):A.units+1<PySem.cLine:=by have:=r.un;lia
end L2
namespace DL
open Spec L2
section
variable{te tj tx:TE2}{x:Str}{i:Nat}
end
end DL
namespace L2
open Spec PyProof.Rows
end L2
namespace DL
open Spec L2
section
variable{te:TE2}{x:Str}{i:Nat}
end
end DL
namespace L2
open Spec PyProof.Rows
end L2
namespace DL
open Spec L2
open W (XC)
open PyProof.Rows (envOfC)
end DL
namespace L2
open Spec PyProof.Rows Calls
end L2
namespace DL
open Spec L2
section
variable{ta:TA2}{p:Pos}
theorem zz5.rev{K:Frag}{F:Hp}:∀{ds:List D} {vs:List V},zz5 K F ds vs->zz5 K F ds.reverse vs.reverse
 | [],vs,h=>by
  have:=h.length;cases vs with
  |nil=>exact zz5.nil
  |cons v vs=>simp at this
 |d::ds,vs,h=>by
  let ⟨v,l,rfl,a,b⟩:=zz1.mp h;rw[e1z,e1z];exact (zz5.rev b).append (zz5.cons a zz5.nil)
end
end DL
namespace L2
open Spec PyProof.Rows Calls W
section
def zr4(ns:List Int)(m:Int):Prop:=m∈ns/\∀n∈ns,m<=n
def zJ8{ns:List Int}{a:List Z0}(r:zy8 (ns.map V.int) a){i:Nat}{v:Z0}(e:a[i]?=some v):∃t,v=Value.int (ns.getD i 0) t:=by
 have g:=(k1t.mp e).1;have c:a.length=ns.length:=by have:=r.length;simpa using this.symm
 have b:i<(ns.map V.int).length:=by rw[k1v];lia
 let ⟨u,d,f⟩:=r.get (k1u b);rw[e]at d;cases d;rw[a1v]at f;let ⟨t,e⟩:=f;refine ⟨t,?_⟩;rw[e];show Value.int ns[i] t=Value.int (ns.getD i 0) t;rw[k1r,k1u (by lia)];rfl
end
end L2
namespace DL
open Spec L2
section
end
section
end
theorem y1f:∀(n:Nat) (l:List Int),l.Nodup->(∀x∈l,0<=x/\x<(n:Int))->l.length<=n
 | 0,l,_,h=>by
  cases l with
  |nil=>exact k1q _
  |cons a l=>have:=h a (k1g ..);lia
 |n+1,l,nd,h=>by
  by_cases m:(n:Int)∈l
  .have b:=y1f n (l.erase (n:Int)) (nd.erase _) λx hx=>by
    grind
   grind
  .have b:=y1f n l nd λx hx=>by
    grind
   lia
end DL
namespace L2
open Spec PyProof.Rows Calls
end L2
namespace DL
open Spec L2
end DL
namespace L2
open Spec PyProof.Rows
end L2
namespace DL
open Spec L2
end DL
namespace L2
open Spec PyProof.Rows
section
variable{X:Cx}{pins:List (X0×Obj)}{σ:St}{H:Hp}{s:Y0}
def y1e(K:Fg)(b:Bool)(H:Hp)(x:V)(xs:List V):Prop:=(∃a,x=.ref a/\Sq K b H a xs)/\xs.all z0x=true
def zI0(K:Fg)(H:Hp)(x y:V)(r:Bool):Prop:=(z0x x=true/\z0x y=true/\r=eqV x y)\/∃b xs ys,y1e K b H x xs/\y1e K b H y ys/\r=zg6 xs ys
def m1z{x y:V}{u:Z0}(d:RelV x u)(c:RelV y u)(g:z0x x=true)(f:z0x y=true):eqV x y=true:=by
 cases x with
 |non=>
  cases d;cases y with
  |non=>rfl
  |bl b=>cases c
  |int b=>let ⟨t,e⟩:=c;cases e
  |str b=>let ⟨t,e⟩:=c;cases e
  |_=>cases f
 |bl a=>
  cases d;cases y with
  |non=>cases c
  |bl b=>cases c;simp[eqV]
  |int b=>let ⟨t,e⟩:=c;cases e
  |str b=>let ⟨t,e⟩:=c;cases e
  |_=>cases f
 |int a=>
  let ⟨t,rfl⟩:=d;cases y with
  |non=>cases c
  |bl b=>cases c
  |int b=>let ⟨t,e⟩:=c;cases e;simp[eqV]
  |str b=>let ⟨t,e⟩:=c;cases e
  |_=>cases f
 |str a=>
  let ⟨t,rfl⟩:=d;cases y with
  |non=>cases c
  |bl b=>cases c
  |int b=>let ⟨t,e⟩:=c;cases e
  |str b=>let ⟨t,e⟩:=c;cases e;simp[eqV]
  |_=>cases f
 |_=>cases g
theorem d0q:∀{xs c:List V} {us:List Z0},zy8 xs us->zy8 c us->xs.all z0x=true->c.all z0x=true->zg6 xs c=true
 | [],[],_,_,_,_,_=>rfl
 |x::xs,y::c,us,a,b,f1,f2=>by
  cases a with
  |cons d t1=>
   cases b with
   |cons e t2=>
    rw[i1n,k1p]at f1 f2;unfold zg6;rw[m1z d e f1.1 f2.1,d0q t1 t2 f1.2 f2.2];rfl
 | [],_::_,us,a,b,_,_=>by cases a;cases b
 |_::_,[],us,a,b,_,_=>by cases b;cases a
def zI1{A:A0}{x y:V}{u w:Z0}{r:Bool}(I:Inv X pins σ H s)(j:A.units<O2)(h:zI0 X.K H x y r)(m:RelV x u)(p:RelV y w):SeqAt.EqAt A s u w r:=by
 rcases h with ⟨f1,f2,rfl⟩|⟨b,t,v,⟨⟨a,rfl,ha⟩,f1⟩,⟨⟨c,rfl,z⟩,f2⟩,rfl⟩
 .exact a0l m p f1 f2
 .cases m;cases p;let ⟨g,e,p1,_⟩:=I.sq ha;let ⟨d,f,p2,_⟩:=I.sq z;have e0:=q0k t v;by_cases i:a=c
  .subst i;have:g=d:=by
    cases b
    .let ⟨o,ho,_,n,hd⟩:=p1;let ⟨B,k,_,n2,l⟩:=p2
     grind
    .let ⟨o,ho,_,n,hd⟩:=p1;let ⟨B,k,_,n2,l⟩:=p2
     grind
   subst this;rw[d0q e f f1 f2];exact a1n _
  .refine SeqAt.EqAt.of_refs i ?_;cases b
   .by_cases hz:g.toArray.size=d.toArray.size
    .have:=a1t p1 p2 hz j (m0p e f f1 f2);rw[<-e0,e.length,f.length]
     grind
    .have:=d1s p1 p2 (by grind) j;have e1:(t.length==v.length)=false:=by
      rw[e.length,f.length];simpa using hz
     grind
   .have:=b1l p1 p2 j (m0p e f f1 f2);rw[<-e0,e.length,f.length]
    grind
def rEqR(K:Fg)(neg:Bool):R2:=λx y H Q=>∃b a c xs ys,∃e:Nat->Bool,x=.ref a/\y=.ref c/\Sq K b H a xs/\Sq K b H c ys/\(∀(j:Nat) u w,xs[j]?=some u->ys[j]?=some w->zI0 K H u w (e j))/\
 Q (.bl (if neg=true then !((List.range (min xs.length ys.length)).all e&&xs.length==ys.length)else (List.range (min xs.length ys.length)).all e&&xs.length==ys.length)) H
def y1d{A:A0}{xs a:List V}{us ws:List Z0}{e:Nat->Bool}(I:Inv X pins σ H s)(f:A.units<O2)(r:zy8 xs us)(c:zy8 a ws)(g:∀(j:Nat) u w,xs[j]?=some u->a[j]?=some w->zI0 X.K H u w (e j)):
 ∀j (h1:j<us.toArray.size) (d:j<ws.toArray.size),SeqAt.EqAt A s us.toArray[j] ws.toArray[j] (e j):=by
 intro j h1 d;have l1:j<xs.length:=by rw[r.length];simpa using h1
 have l2:j<a.length:=by rw[c.length];simpa using d
 let ⟨u,i,k⟩:=r.get (k1u l1);let ⟨w,n,b⟩:=c.get (k1u l2);have l:us.toArray[j]=u:=by
  grind
 have m:ws.toArray[j]=w:=by
  grind
 rw[l,m];exact zI1 I f (g j _ _ (k1u l1) (k1u l2)) k b
def zI2(m:X.A.units+1<O2):OpR X (R1 .Eq) (rEqR X.K false):=by
 intro k s z H x y v u Q I n o h;let ⟨b,a,c,B,C,e,rfl,rfl,ha,t,l,q⟩:=h;cases n;cases o;let ⟨i,r,p,_⟩:=I.sq ha;let ⟨f,j,p2,_⟩:=I.sq t;have d:X.A.units<O2:=by lia
 have g:=m;rw[r.length,j.length]at q;cases b
 .by_cases hz:i.toArray.size=f.toArray.size
  .refine a1t p p2 hz d (y1d I g r j l) X.prog X.w X.xe _ ⟨.bl _,H,I,rfl,?_⟩
   grind
  .refine d1s p p2 (by grind) d X.prog X.w X.xe _ ⟨.bl _,H,I,rfl,?_⟩
   grind
 .refine b1l p p2 d (y1d I g r j l) X.prog X.w X.xe _ ⟨.bl _,H,I,rfl,?_⟩;simpa using q
end
end L2
namespace DL
open Spec L2
def eqR:D->D->Option Bool
 | .tup xs,.tup ys=>if (xs.all z8&&ys.all z8)=true then some (zg7 xs ys)else none
 | .lst xs,.lst ys=>if (xs.all z8&&ys.all z8)=true then some (zg7 xs ys)else none
 |x,y=>if (z8 x&&z8 y)=true then some (eqV (toV x) (toV y))else none
def zW2:List D->List D->Option Bool
 | [],[]=>some true
 |x::xs,y::ys=>match eqR x y,zW2 xs ys with |some a,some b=>some (a&&b)|_,_=>none
 | [],_::_=>some false
 |_::_,[]=>some false
def z73{K:Frag}{F H:Hp}{x y:D}{v u:V}{r:Bool}(s:zz7 F H)(h:eqR x y=some r)(d:Rep K F x v)(e:Rep K F y u):zI0 K H v u r:=by
 unfold eqR at h;split at h
 .split at h
  .rename_i c;cases h;rw[k1p]at c;let ⟨a,f,rfl,e1,z1⟩:=zz9.mp d;let ⟨b,g,rfl,e2,z2⟩:=zz9.mp e;let ⟨e3,e4⟩:=x8 c.1 z1;let ⟨e5,e6⟩:=x8 c.2 z2;exact .inr ⟨true,f,g,⟨⟨a,rfl,SqT.of (s _ _ e1)⟩,e4⟩,⟨⟨b,rfl,SqT.of (s _ _ e2)⟩,e6⟩,by rw[e3,e5,j0j]⟩
  .cases h
 .split at h
  .rename_i c;cases h;rw[k1p]at c;let ⟨a,f,rfl,e1,z1⟩:=zy6.mp d;let ⟨b,g,rfl,e2,z2⟩:=zy6.mp e;let ⟨e3,e4⟩:=x8 c.1 z1;let ⟨e5,e6⟩:=x8 c.2 z2;exact .inr ⟨false,f,g,⟨⟨a,rfl,SqL.of (s _ _ e1)⟩,e4⟩,⟨⟨b,rfl,SqL.of (s _ _ e2)⟩,e6⟩,by rw[e3,e5,j0j]⟩
  .cases h
 .split at h
  .rename_i c;cases h;rw[k1p]at c;let ⟨e3,e4⟩:=x8 (by simp[c.1]) (zz5.cons d zz5.nil);let ⟨e5,e6⟩:=x8 (by simp[c.2]) (zz5.cons e zz5.nil);have i:=by simpa using e3
   have j:=by simpa using e5
   exact .inl ⟨by simpa using e4,by simpa using e6,by rw[i,j]⟩
  .cases h
theorem y1c{K:Frag}{F H:Hp}(s:zz7 F H):∀{xs i:List D} {vs us:List V} {r:Bool},zW2 xs i=some r->zz5 K F xs vs->zz5 K F i us->∃e:Nat->Bool,(∀(j:Nat) u w,vs[j]?=some u->us[j]?=some w->zI0 K H u w (e j))/\((List.range (min vs.length us.length)).all e&&vs.length==us.length)=r
 | [],[],vs,us,r,h,c,d=>by
  cases h;rw[zz8.mp c,zz8.mp d]
  simp_all
 |x::xs,y::i,vs,us,r,h,c,d=>by
  let ⟨v,f,rfl,k,z1⟩:=zz1.mp c;let ⟨u,g,rfl,l,z2⟩:=zz1.mp d;unfold zW2 at h;split at h
  .rename_i a b m n;cases h;let ⟨e,o,hr⟩:=y1c s n z1 z2;refine ⟨λj=>match j with | 0=>a |j+1=>e j,λj p t e1 e2=>?_,?_⟩
   .cases j with
    |zero=>cases e1;cases e2;exact z73 s m k l
    |succ j=>exact o j p t e1 e2
   .rw[<-hr];have z:min (v::f).length (u::g).length=min f.length g.length+1:=by simp only[k1k];lia
    rw[z,h1g,i1n,c1w,<- Bool.and_assoc]
    grind
  .cases h
 | [],y::i,vs,us,r,h,c,d=>by
  cases h;let ⟨u,g,rfl,l,z2⟩:=zz1.mp d;rw[zz8.mp c]
  simp_all
 |x::xs,[],vs,us,r,h,c,d=>by
  cases h;let ⟨v,f,rfl,k,z1⟩:=zz1.mp c;rw[zz8.mp d]
  simp_all
def z74(neg:Bool):F2:=λd1 d2 q=>match d1,d2 with
 | .lst xs,.lst ys=>(match zW2 xs ys with |some r=>q (.bl (if neg=true then !r else r))|none=>False)
 | .tup xs,.tup ys=>(match zW2 xs ys with |some r=>q (.bl (if neg=true then !r else r))|none=>False)
 |_,_=>False
def z75{K:Fg}{neg:Bool}:OpD K (rEqR K neg) (z74 neg):=by
 intro Y F H l m δ x y n o p q I i j c k;unfold z74 at c;split at c
 .split at c
  .rename_i r er;let ⟨a,d,rfl,e1,z1⟩:=zy6.mp i;let ⟨b,f,rfl,e2,z2⟩:=zy6.mp j;let ⟨e,g,hr⟩:=y1c I.sub er z1 z2;exact ⟨false,a,b,d,f,e,rfl,rfl,SqL.of (I.sub _ _ e1),SqL.of (I.sub _ _ e2),g,by rw[hr];exact k _ _ F H I (zz7.refl F) (zy2.mpr rfl) c⟩
  .exact c.elim
 .split at c
  .rename_i r er;let ⟨a,d,rfl,e1,z1⟩:=zz9.mp i;let ⟨b,f,rfl,e2,z2⟩:=zz9.mp j;let ⟨e,g,hr⟩:=y1c I.sub er z1 z2;exact ⟨true,a,b,d,f,e,rfl,rfl,SqT.of (I.sub _ _ e1),SqT.of (I.sub _ _ e2),g,by rw[hr];exact k _ _ F H I (zz7.refl F) (zy2.mpr rfl) c⟩
  .exact c.elim
 .exact c.elim
end DL
namespace L2
open Spec PyProof.Rows Calls
section
def y1b:entryFor table "dict_itemiterator.__iter__"=some Builtin.«dict_keyiterator.__iter__»:=
 entryFor_alias (id':="dict_keyiterator.__iter__") (by kernel_rfl) (by first |decide +kernel |rfl) (by decide +kernel) (by kernel_rfl)
end
end L2
namespace DL
open Spec L2
section
variable{te:TE2}
end
section
end
section
variable{te:TE2}
end
section
variable{ta tb:TE2}
end
end DL
namespace L2
open Spec PyProof.Rows Calls W
variable{H:Hp}{h:J0}
section
def HOk.put{P:V0}{w:T0}{a:X0}{o:HO}(x:HOk P w H h)(hn:H a=none)(new:zx6 P w (upd H a o) h a o):HOk P w (upd H a o) h:=λb u e=>by
 by_cases d:b=a
 .subst d;rw[j3]at e;cases e;exact new
 .rw[j0 d]at e;exact (x b u e).zo2 (λc v _ q=>q) (λc q=>by rw[j0 (i0 q hn)];exact q) λc f q=>by rw[j0 (i0 q hn)];exact q
def Un.put{fs:List X0}{d:Hp}{h1:J0}{a:X0}{o:HO}(u:Un fs [] H d h h1)(f:h.objs.size<=a)(hn:d a=none):Un fs [] H (upd d a o) h h1 where
 keep:=u.keep
 slot:=u.slot
 free:=λb v q n z=>by rw[j0 (k1i (k1f (k1n q) f))];exact u.free b v q n z
 there:=u.there
 zl0:=λb c q=>by rw[j0 (i0 (u.zl0 b c q) hn)];exact u.zl0 b c q
 zj8:=λb v c q=>by rw[j0 (i0 (u.zj8 b v c q) hn)];exact u.zj8 b v c q
 zg2:=λb g q=>by
  let ⟨more,e⟩:=u.zg2 b g q;exact ⟨more,by rw[j0 (i0 e hn)];exact e⟩
def Un.z77{fs:List X0}{h':J0}(k:∀b u,h.get? b=some u->h'.get? b=some u):Un fs [] H H h h' where
 keep:=λb u q _ _ _=>k b u q
 slot:=λb u q _ _ _=>⟨u.slots,k b u q⟩
 free:=λb u q n _=>n
 there:=λb u q _=>⟨u,k b u q⟩
 zl0:=λb a q=>q
 zj8:=λb u a q=>q
 zg2:=λb c q=>⟨#[],by rw[q];simp⟩
end
end L2
namespace DL
open Spec L2
end DL
namespace L2
open Spec PyProof.Rows
open AutoSeq1 (wpAny_loadPart')
end L2
namespace DL
open Spec L2
variable{C:X0}
open W (XC)
section
variable{X:Cx}{Y:Y2}{W:XW}{target elt iter:Expr}{xs:List Str}{js:List Nat}{scope:P4}{te:TE2}{ti:TI2}{tup:Bool}{g:TG}
variable(hc:X.calm=true)(S:zx2 X xs js scope)(hi:PI2 X Y W target iter ti)(hg:(xs++js.map (fun j=>X.N.getD j "")).Nodup->∀C zy0 zz6 fp cl,PG (X.zy1 xs js scope cl C zy0 zz6 fp) target g)(gm:TgM X.K tup xs.length g)
 (ht:∀C zy0 zz6 fp cl Y',zC4 (X.zy1 xs js scope cl C zy0 zz6 fp) Y' W0 [] r0j) (he:∀C zy0 zz6 fp cl Y',PE2 (X.zy1 xs js scope cl C zy0 zz6 fp) Y' W0 elt te)
include hc S hi hg gm ht he
end
structure Tg{α:Type}(q:α):Type where
def r0a(q:K2)(ρ:En)(_:Tg q):D->Dk->Prop:=λd δ=>q d ρ δ
def m1w(x:XK2)(ρ:En)(_:Tg x):X0->List (Str×D)->Dk->Prop:=λC fs δ=>x C fs ρ δ
section
variable{q:K2}{x:XK2}{ρ:En}{u:Tg q}{v:Tg x}{δ:Dk}
def m0m{d:D}:r0a q ρ u d δ=q d ρ δ:=rfl
def z78{i:Int}:r0a q ρ u (.int i) δ=q (.int i) ρ δ:=rfl
def k_bl{i:Bool}:r0a q ρ u (.bl i) δ=q (.bl i) ρ δ:=rfl
def z79{i:Str}:r0a q ρ u (.str i) δ=q (.str i) ρ δ:=rfl
def z80:r0a q ρ u .non δ=q .non ρ δ:=rfl
def z81{i:List D}:r0a q ρ u (.lst i) δ=q (.lst i) ρ δ:=rfl
def z82{i:List D}:r0a q ρ u (.tup i) δ=q (.tup i) ρ δ:=rfl
def z83{fs:List (Str×D)}:r0a q ρ u (.ins C fs) δ=q (.ins C fs) ρ δ:=rfl
def z84{i:X0}:r0a q ρ u (.ref i) δ=q (.ref i) ρ δ:=rfl
def z85{i:List (Key×D)}:r0a q ρ u (.dwk i) δ=q (.dwk i) ρ δ:=rfl
def z86{i:List (Key×D)}:r0a q ρ u (.dic i) δ=q (.dic i) ρ δ:=rfl
def z87:m1w x ρ v C [] δ=x C [] ρ δ:=rfl
def zI4{a:Str×D}{fs:List (Str×D)}:m1w x ρ v C (a::fs) δ=x C (a::fs) ρ δ:=rfl
def zI5{sp:Sp2}{t:TA2}{q:K2}:r0l sp t x ρ δ q=t x ρ δ λds a b=>sp ds b (r0a q a ⟨⟩) (m1w x a ⟨⟩):=rfl
end
theorem n0n{f:TE2}{g:List Nat}{j:En}{q:List D->Dk->Prop}{δ:Dk}:∀{ds a:List D} (c:List D),ds.length=c.length->a.length+ds.length<=1000->
 (∀(i:Nat) (d e:D),ds[i]?=some d->c[i]?=some e->∀Q:D->Dk->Prop,Q e δ->f (λ_ _ _ _=>False) (.val d::zu8 j g) δ λe _ b=>Q e b)->q (a++c) δ->j9 f g j q ds a δ
 | [],a,[],_,_,_,fin=>by unfold j9;rw[h1s]at fin;exact fin
 |d::ds,a,e::c,k,ha,step,fin=>by
  unfold j9;rw[k1k]at ha;rw[k1k,k1k]at k;exact step 0 d e rfl rfl (λe b=>a.length<1000/\j9 f g j q ds (a++[e]) b) ⟨by lia,n0n c (by lia) (by rw[k1b,i1d];lia) (λi d e l m=>step (i+1) d e (by rw[j1w];exact l) (by rw[j1w];exact m)) (by rw[i1v];exact fin)⟩
def w0h{c:Type}{j:TE2}{k:List Nat}{m:En}{q:List D->Dk->Prop}{δ:Dk}(g f:c->D)(l:List c)(p:l.length<=1000)(step:∀a∈l,∀Q:D->Dk->Prop,Q (f a) δ->j (λ_ _ _ _=>False) (.val (g a)::zu8 m k) δ λe _ b=>Q e b)(fin:q (l.map f) δ):j9 j k m q (l.map g) [] δ:=
 n0n (l.map f) (by rw[k1v,k1v]) (by rw[k1v];show 0+_<=_;lia) (λi d e hd n Q o=>by
  rw[k1h,k1c]at hd;let ⟨a,ha,rfl⟩:=hd;rw[k1h,ha]at n;cases n;exact step a (k1m ha) Q o) fin
theorem w0g{r:Type}{tup:Bool}{n:Nat}{i:TT2}{j:TE2}{k:List Nat}{m:En}{q:List D->Dk->Prop}{δ:Dk}(g f:r->D)(p:r->Bool):∀(l:List r) {c:List D},c.length+l.length<=1000->
 (∀a∈l,∀Q:Option D->Dk->Prop,(p a=true->Q (some (f a)) δ)->(p a=false->Q none δ)->∃xs,tgD tup n (g a)=some xs/\i (λ_ _ _ _=>False) (xs.map .val++zu8 m k) δ λb t d=>if b=true then j (λ_ _ _ _=>False) t d λe _ u=>Q (some e) u else Q none d)->q (c++(l.filter p).map f) δ->zy1 tup n i j k m q (l.map g) c δ
 | [],c,_,_,fin=>by rw[j1r];unfold zy1;rw[c1u,j1r,h1s]at fin;exact fin
 |a::l,c,w,step,fin=>by
  rw[k1l];unfold zy1;rw[k1k]at w;let ⟨xs,e1,e2⟩:=step a (k1g ..) (λo d=>match o with |some e=>c.length<1000/\zy1 tup n i j k m q (l.map g) (c++[e]) d |none=>zy1 tup n i j k m q (l.map g) c d)
   (λh=>⟨by lia,w0g g f p l (by rw[k1b,i1d];lia) (λb v=>step b (k1o _ v)) (by rw[List.filter_cons_of_pos h,k1l]at fin;rw[i1v];exact fin)⟩)
   (λh=>w0g g f p l (by lia) (λb v=>step b (k1o _ v)) (by rw[List.filter_cons_of_neg (by rw[h];exact k1j)]at fin;exact fin))
  rw[e1];exact e2
def q1t{f:Type}{gt:G2}{body:TS2}{E:zd7}{b:En}{δ:Dk}(g:f->D)(l:List f)(P:Nat->En->Dk->Prop)(h0:P 0 b δ)(step:∀(i:Nat) (a:f) (b:En) (δ:Dk) (rest:En->Dk->Prop),l[i]?=some a->P i b δ->(∀ c e,P (i+1) c e->rest c e)->y0d gt body E rest (g a) b δ)(fin:∀ b δ,P l.length b δ->E.nx b δ):forL gt body E (l.map g) b δ:=
 m7 P h0 (λi d b δ rest hd j hr=>by
  rw[k1h,k1c]at hd;let ⟨a,ha,rfl⟩:=hd;exact step i a b δ rest ha j hr) (by rw[k1v];exact fin)
end DL
namespace L2
open Spec PyProof.Rows SeqAt
end L2
namespace DL
open Spec L2
section
end
end DL
namespace L2
open Spec PyProof.Rows Calls W
end L2
namespace DL
open Spec L2
end DL
namespace L2
open Spec PyProof.Rows Calls W
end L2
namespace DL
open Spec L2
end DL
namespace L2
open Spec PyProof.Rows
open W (XC)
end L2
namespace DL
open Spec L2
open W (XC)
open PyProof.Rows (envOfC)
end DL
namespace L2
open Spec PyProof.Rows Builtin Builtin.Str
section
variable{X:Cx}
abbrev TJ:=St->Hp->Str->VK->Prop
def PJ(X:Cx)(es:List Expr)(t:TJ):Prop:=∀(pins:List (X0×Obj)) (s:Y0) (σ:St) (H:Hp) (out:Str) (Q:VK),Inv X pins σ H s->t σ H out Q->wpAny (model X.prog X.w) X.A (joinParts out (evalEach es X.env)) (EP X pins σ Q) X.xe s
end
end L2
namespace DL
open Spec L2
section
variable{X:Cx}{Y:Y2}{W:XW}{es:List Expr}{t:TA2}
end
end DL
namespace L2
open Spec PyProof.Rows Builtin Builtin.Str
end L2
namespace DL
open Spec L2
end DL
namespace L2
open Spec PyProof.Rows
end L2
namespace DL
open Spec L2
end DL
namespace L2
open Spec PyProof.Rows
open W (XC)
open W (XC)
end L2
namespace DL
open Spec L2
open W (XC)
open PyProof.Rows (envOfC)
end DL
namespace L2
open Spec PyProof.Rows
end L2
namespace DL
open Spec L2
open W (XC)
open PyProof.Rows (envOfC)
open W (XC)
end DL
namespace L2
open Spec PyProof.Rows Calls W
section
variable{prog:V0}{w:T0}{A:A0}{E:Z0->Y0->Prop}{s:Y0}{it d:X0}{i ep:Nat}{es:Array M1}{o:Obj}
def t1d{Q:Z0->Y0->Prop}(hs:(d==N2)=false)(ho:s.heap.get? d=some o)(hx:o.ExactDict)(hd:o.data=.dict es ep)
 (h:Q (.ref s.heap.objs.size) {s with heap:=s.heap.push {cls:=.type "dict_keyiterator",data:=.fields #[.ref d,.int 0 0,.int es.size 0,.int ep 0]}}):wpAny (model prog w) A (pyIter (.ref d)) Q E s:=by
 have t:s.TypeIs (.ref d) "dict":=⟨o,ho,hx.1⟩;refine G3 t c1y (Z1 c1y t PySem.F.entry_dict_iter ?_ (PySem.F.args_dict_iter_1 _));refine y0 (y0 (V5 t ?_));refine d0 ?_;show wpAny _ _ (Builtin.Dict.showsAll d >>= λ_=>_) _ _ s;unfold Builtin.Dict.showsAll;rw[hs];refine y0 (d0 (y0 (E3 ho hd (y0 (U4 ho hd (y0 (N0 (d0 ⟨_,rfl,"dict_keyiterator",_,⟨_,k1s _ rfl,rfl⟩,h1e.lookup,?_⟩))))))));simpa[G1]using h
def d0p{Q:Option Z0->Y0->Prop}(e:A.handled=none)(hit:s.heap.IsKeyIter it d i es.size ep)(ho:s.heap.get? d=some o)(hd:o.data=.dict es ep)(g:i<=es.size)
 (h:∀(z:i<es.size) h',h'.IsKeyIter it d (i+1) es.size ep->Heap.SameBut it s.heap h'->Q (some es[i].key) {s with heap:=h'}) (hn:i=es.size->∀h',Heap.ExtBut it s.heap h'->Q none {s with heap:=h'}):wpAny (model prog w) A (pyNext (.ref it)) Q E s:=by
 let ⟨j,b,f,a⟩:=id hit;refine y0 (T3 (wpAny_callSpecial?_slot hit.typeIs h1e (Z1 h1e hit.typeIs PySem.F.entry_dict_keyiterator_next
  (y0 (d0 (y0 (y0 (y0 (Y4 hit.typeIs (d0 (y0 (E5 b a ?_))))))))) (PySem.F.args_dict_keyiterator_next_1 _))))
 show wpAny _ _ (if (Value.ref d==Value.none)=true then _ else _) (λr k=>_) _ s;refine y0 (d0 (y0 (E3 ho hd ?_)));rw[O0 (by simp)];refine y0 (d0 (y0 (U4 ho hd ?_)));rw[O0 (by simp)];refine d0 ?_;by_cases z:i<es.size
 .simp only[j1c,j1h z];refine y0 (y0 (Y4 hit.typeIs (d0 (y0 (wpAny_isOneOf_keyiter hit.typeIs ?_)))));show wpAny _ _ (setField (.ref it) 1 (G1 ((i:Int)+1)) >>= λ_=>_) _ _ s;refine y0 (B1 b a (by simp) ?_);have c:(s.heap.update it (Obj.mapFields (·.setIfInBounds 1 (G1 ((i:Int)+1))))).IsKeyIter it d (i+1) es.size ep:=⟨_,j1x _ b (j1a (j1p a _)),(g1s ..).trans f,by rw[j1p a];simp[G1]⟩;refine y0 (D0 (y0 (wpAny_isOneOf_keyiter c.typeIs ?_)));exact d0 (d0 ⟨_,rfl,d0 (h z _ c (j1d ..))⟩)
 .simp only[j1c,f1b (d1f z)];refine y0 (y0 (Y4 hit.typeIs (d0 ?_)));show wpAny _ _ (setField (.ref it) 0 .none >>= λ_=>_) _ _ s;refine y0 (B1 b a (by simp) ?_);refine y0 ?_;refine y0 (N0 (y0 (R4 (by rfl) (N0 ?_ (by size_fits)))) (by size_fits));refine y0 (O5 ?_);rw[show A.in1.handled=none from e];refine y0 (d0 (wpAny_throw ?_));exact y0 (p4 ⟨_,k1s _ rfl,rfl⟩ p5 (d0 (hn (by lia) _ (((j1d ..).extBut.push _).push _))))
def t0s{Q:Option Z0->Y0->Prop}(e:A.handled=none)(hit:s.heap.IsValIter it d i es.size ep)(ho:s.heap.get? d=some o)(hd:o.data=.dict es ep)(g:i<=es.size)
 (h:∀(z:i<es.size) h',h'.IsValIter it d (i+1) es.size ep->Heap.SameBut it s.heap h'->Q (some es[i].val) {s with heap:=h'}) (hn:i=es.size->∀h',Heap.ExtBut it s.heap h'->Q none {s with heap:=h'}):wpAny (model prog w) A (pyNext (.ref it)) Q E s:=by
 let ⟨j,b,f,a⟩:=id hit;refine y0 (T3 (wpAny_callSpecial?_slot hit.typeIs h1o (Z1 h1o hit.typeIs PySem.F.entry_dict_valueiterator_next
  (y0 (d0 (y0 (y0 (y0 (X4 hit.typeIs (d0 (y0 (E5 b a ?_))))))))) (PySem.F.args_dict_valueiterator_next_1 _))))
 show wpAny _ _ (if (Value.ref d==Value.none)=true then _ else _) (λr k=>_) _ s;refine y0 (d0 (y0 (E3 ho hd ?_)));rw[O0 (by simp)];refine y0 (d0 (y0 (U4 ho hd ?_)));rw[O0 (by simp)];refine d0 ?_;by_cases z:i<es.size
 .simp only[j1c,j1h z];refine y0 (y0 (X4 hit.typeIs (d0 (y0 (U5 hit.typeIs ?_)))));show wpAny _ _ (setField (.ref it) 1 (G1 ((i:Int)+1)) >>= λ_=>_) _ _ s;refine y0 (B1 b a (by simp) ?_);have c:(s.heap.update it (Obj.mapFields (·.setIfInBounds 1 (G1 ((i:Int)+1))))).IsValIter it d (i+1) es.size ep:=⟨_,j1x _ b (j1a (j1p a _)),(g1s ..).trans f,by rw[j1p a];simp[G1]⟩;refine y0 (D0 (y0 (U5 c.typeIs ?_)));refine y0 (U5 c.typeIs ?_);exact d0 (d0 ⟨_,rfl,d0 (h z _ c (j1d ..))⟩)
 .simp only[j1c,f1b (d1f z)];refine y0 (y0 (X4 hit.typeIs (d0 ?_)));show wpAny _ _ (setField (.ref it) 0 .none >>= λ_=>_) _ _ s;refine y0 (B1 b a (by simp) ?_);refine y0 ?_;refine y0 (N0 (y0 (R4 (by rfl) (N0 ?_ (by size_fits)))) (by size_fits));refine y0 (O5 ?_);rw[show A.in1.handled=none from e];refine y0 (d0 (wpAny_throw ?_));exact y0 (p4 ⟨_,k1s _ rfl,rfl⟩ p5 (d0 (hn (by lia) _ (((j1d ..).extBut.push _).push _))))
def n0m{R:Z0->Y0->Prop}(hs:(d==N2)=false)(ho:s.heap.get? d=some o)(hx:o.ExactDict)(h:R (.ref s.heap.objs.size) {s with heap:=s.heap.push {cls:=.type "dict_values",data:=.fields #[.ref d]}}):
 wpAny (model prog w) A (call (.builtin "dict.values") [.ref d]) R E s:=by
 have t:s.TypeIs (.ref d) "dict":=⟨o,ho,hx.1⟩;refine Z1 f1o t PySem.F.entry_dict_values ?_ (PySem.F.args_dict_values_1 _);refine y0 ?_;refine y0 (V5 t ?_);refine d0 ?_;unfold Builtin.Dict.showsAll;rw[hs];exact y0 (d0 (y0 (N0 (d0 ⟨_,rfl,h⟩))))
def j0f{v:X0}{Q:Z0->Y0->Prop}(a:s.heap.IsValuesView v d)(ho:s.heap.get? d=some o)(hd:o.data=.dict es ep)
 (h:Q (.ref s.heap.objs.size) {s with heap:=s.heap.push {cls:=.type "dict_valueiterator",data:=.fields #[.ref d,.int 0 0,.int es.size 0,.int ep 0]}}):wpAny (model prog w) A (pyIter (.ref v)) Q E s:=by
 let ⟨f,b,e,c⟩:=id a;refine G3 a.typeIs e1t (Z1 e1t a.typeIs PySem.F.entry_dict_values_iter ?_ (PySem.F.args_dict_values_iter_1 _));refine y0 (d0 (y0 (y0 (V1 b c rfl (d0 (y0 (y0 (E3 ho hd (y0 (U4 ho hd ?_))))))))));simp only[show Builtin.Dict_items.ownsTuple "dict_valueiterator"=false by decide,k1a,K1];refine N0 (d0 ⟨_,rfl,"dict_valueiterator",_,⟨_,k1s _ rfl,rfl⟩,h1o.lookup,?_⟩);simpa[G1]using h
def m1v(r:X0)(hd:o.data=.dict es ep):KdlSrc prog w "dict_values" r d es.size (λi v=>∃z:i<es.size,v=es[i].val) (λh=>h.IsValuesView r d/\h.get? d=some o)where
 type:=λ_ m=>m.1.typeIs
 there:=λ_ m=>⟨let ⟨_,e,_⟩:=m.1;k1n e,k1n m.2⟩
 keep:=λ_ _ m k=>⟨let ⟨q,e,x⟩:=m.1;⟨q,k r (.inl rfl) q e,x⟩,k d (.inr rfl) o m.2⟩
 notList:=by decide
 notTuple:=by decide
 hint:=λ_ _ _ _ m q=>kdl_hint_values m.1.typeIs q
 iter:=λA s n m=>⟨_,λi h=>h.IsValIter s.heap.objs.size d i es.size ep/\h.get? d=some o,(λ_ _ q=>j0f m.1 m.2 hd q),{
  sub:=λb p=>by simp at p;simp[p]
  frame:=λ_ _ _ st k=>⟨st.1.at λq e=>k _ (by simp) q e,k d (by simp) o st.2⟩
  item:=λi f Q E t st g=>t0s n st.1 st.2 hd (h1b t) (λz j a b=>g _ j f.toks ⟨z,rfl⟩ ⟨a,b.extBut d o (k1i (k1n m.2)) st.2⟩ λc q l e=>b.extBut c q (λy=>l (by simp[y])) e) λe=>absurd e (k1i t)
  done:=λf Q E st g=>t0s n st.1 st.2 hd (k1q _) (λz=>absurd z (g1r _)) λ_ j e=>g j f.toks λc q l w=>e c q (λy=>l (by simp[y])) w
  self:=λ_ _ _ _ st q=>wpAny_pyIter_valiter st.1 q},⟨⟨_,k1s _ rfl,rfl,rfl⟩,k1w _ m.2⟩⟩
end
theorem y1a:∀{xs:List V} {us:List Z0},xs.length=us.length->(∀(i:Nat) x u,xs[i]?=some x->us[i]?=some u->RelV x u)->zy8 xs us
 | [],[],_,_=>.nil
 |x::xs,u::us,a,h=>.cons (h 0 x u rfl rfl) (y1a (by grind) λi y v e1 e2=>h (i+1) y v e1 e2)
 | [],_::_,a,_=>by simp at a
 |_::_,[],a,_=>by simp at a
section
variable{X:Cx}{pins:List (X0×Obj)}{σ:St}{H:Hp}{s:Y0}{a:X0}{kvs:List (List Key×V)}{G:X0->Prop}
def q1s(I:Inv X pins σ H s)(e:H a=some (.dT kvs G)):∃o,Inv X pins σ (upd H a (.frz o (.dT kvs G))) s:=by
 let ⟨z,hd,b,rel,o,c,d,ho,r⟩:=(I.hok a _ e);exact ⟨o,v0e I (by rw[e];trivial) (b1k _ _) ⟨o,ho⟩ ⟨ho,z,hd,b,Paired.zV0 rel λp q y=>⟨y.1,by rw[j0 (v1s y.2.1 e (λz=>nomatch z))];exact y.2.1,y.2.2⟩,o,c,d,ho,r⟩⟩
structure z89(H:Hp)(h:J0)(a:X0)(kvs:List (List Key×V))(G:X0->Prop)(o:Obj)(es:Array M1)(ep:Nat):Prop where
 ho:h.get? a=some o
 hx:o.ExactDict
 hd:o.data=.dict es ep
 hs:(a==N2)=false
 hz:kvs.length<=sizeLine
 sz:es.size=kvs.length
 key:∀(i:Nat) (z:i<es.size),∃k x b,kvs[i]?=some (k,x)/\es[i].key=.ref b/\H b=some (.tup (k.map kV))/\G b/\RelV x es[i].val
def n0l(I:Inv X pins σ H s)(e:Rd H a (.dT kvs G)):∃o b d,z89 H s.heap a kvs G o b d:=by
 let ⟨z,y,c,r,o,b,d,j,k,n,g,v⟩:=(p1c I.hok e);have u:=b1z r;have sz:b.size=kvs.length:=by rw[<-Array.length_toList,g,k1v,u]
 refine ⟨o,b,d,j,k,n,y,z,sz,λi B=>?_⟩;have get:∀{l:List (List Key×V)} {m:List (List Key×Addr×Value)},KT H G l m->∀(i:Nat) q,m[i]?=some q->∃x,l[i]?=some (q.1,x)/\H q.2.1=some (.tup (q.1.map kV))/\G q.2.1/\RelV x q.2.2:=by
  intro l m q
  induction q with
  |nil=>intro i q e;cases e
  | @cons p q C D F t J=>
   grind
 have f:i<c.length:=by lia
 let ⟨x,g1,g2,g3,g4⟩:=get r i c[i] (k1u f);have e2:b[i]=entryOfKey (S3 (b4 X.prog X.w)) c[i]:=by
  have q:b.toList[i]?=(c.map (entryOfKey (S3 (b4 X.prog X.w))))[i]?:=by rw[g]
  grind
 rw[e2];exact ⟨_,x,_,g1,rfl,g2,g3,g4⟩
def ItT(a:X0)(o:Obj)(kvs:List (List Key×V))(G:X0->Prop):It:=
 ⟨λi H=>H a=some (.frz o (.dT kvs G))/\i<kvs.length,λi H v H'=>H'=H/\∃k x b,kvs[i]?=some (k,x)/\v=.ref b/\G b/\H b=some (.tup (k.map kV)),λi H=>H a=some (.frz o (.dT kvs G))/\kvs.length=i⟩
def s0y{o:Obj}{b:Array M1}{c:Nat}(I:Inv X pins σ H s)(e:H a=some (.frz o (.dT kvs G)))(hd:o.data=.dict b c):z89 H s.heap a kvs G o b c:=by
 let ⟨g,d,f,R⟩:=n0l I (.inr ⟨o,e⟩);have ho:=(I.hok a _ e).1;have q:=R.ho;rw[ho]at q;cases q;have q:=R.hd
 grind
def b0w{P:V0}{w:T0}{K:Fg}{C:Expr}(a it:X0)(o:Obj)(kvs:List (List Key×V))(G:X0->Prop)(v:Nat)(hd:∃m,o.data=.dict m v):Turn P w K C (ItT a o kvs G) [it] it (λi h=>h.IsKeyIter it a i kvs.length v)where
 mem:=by simp
 obj:=λi h st b f=>by
  have e:=by simpa using f
  subst e;let ⟨o,e,c,d⟩:=st
  grind
 keep:=λi h y st k=>st.at λo e=>k it (by simp) o e
 item:=by
  intro X D F J p i j s L H E I n st r;let ⟨e,B⟩:=r;let ⟨m,hd⟩:=hd;have R:=s0y I e hd;let ⟨f0,f1,f2,t,u,f5⟩:=n it (by simp);have l:i<m.size:=by rw[R.sz];exact B
  rw[<-R.sz]at st;refine d0p (I.ok.hd p) st R.ho hd (h1b l) (λz y g M=>?_) λz=>absurd z (k1i l)
  have N:=I.turned (t':=s.toks) (λb o f e=>(M.2 b f).trans e) f0 f1 t u f5;let ⟨S,e2,c2,O⟩:=id g;let ⟨k,x,b,g1,g2,g3,g4,g5⟩:=R.key i z;rw[R.sz]at g;rw[g2];exact ⟨_,rfl,c0o e2 c2 O (by decide) ⟨.ref b,H,N,rfl,⟨rfl,k,x,b,g1,rfl,g4,g3⟩,g,λb f=>(n b f).1⟩⟩
 done:=by
  intro X D F J p i j s L H E I n st r;let ⟨e,B⟩:=r;let ⟨m,hd⟩:=hd;have R:=s0y I e hd;let ⟨f0,f1,f2,t,u,f5⟩:=n it (by simp);rw[<-R.sz]at st;exact d0p (I.ok.hd p) st R.ho hd (by rw[R.sz];lia) (λz=>absurd z (by rw[R.sz];lia)) λ_ y Q=>⟨rfl,I.turned (λb o f e=>Q b o f e) f0 f1 t u f5⟩
 self:=λ_ _ _ _ _ st h=>wpAny_pyIter_keyiter st h
variable{tg:Expr}
def zI7(tl:TE):TI:=λσ H R=>tl σ H λx H1=>∃a o kvs G,x=.ref a/\H1 a=some (.frz o (.dT kvs G))/\R (ItT a o kvs G) H1
def t1c{l:Expr}{g:TE}(k:PE X l g):PI X tg l (zI7 g):=by
 intro c s m H R I h;refine thn (k c s m H _ I h) λv i zz=>?_;let ⟨x,n,d,p,r⟩:=zz
 let ⟨a,o,f,G,e,j,q⟩:=r;subst e;cases p;let ⟨y,t,u,R2⟩:=n0l d (.inr ⟨o,j⟩);have ho:=(d.hok a _ j).1;have e2:=R2.ho;rw[ho]at e2;cases e2;refine t1d R2.hs R2.ho R2.hx R2.hd ?_;refine ⟨i.heap.objs.size,[i.heap.objs.size],_,_,n,rfl,d.kept λb o e=>k1w _ e,b0w a _ o f G u ⟨t,R2.hd⟩,⟨_,k1s _ rfl,rfl,by rw[R2.sz];rfl⟩,λb w=>?_,q⟩;have e:=by simpa using w
 subst e;exact d.za3 (k1q _) (d.hok.fresh (k1q _))
def z90(t:TE):TE:=λσ H Q=>t σ H λv H1=>∃a kvs G,v=.ref a/\H1 a=some (.dT kvs G)/\∀o,Q v (upd H1 a (.frz o (.dT kvs G)))
def g0z{e:Expr}{t:TE}(h:PE X e t):PE X e (z90 t):=λb s c H Q I q=>
 thn (h b s c H _ I q) λv k zz=>by
  let ⟨x,l,d,f,a,g,G,e,i,j⟩:=zz
  let ⟨o,I2⟩:=q1s d i;exact ⟨x,_,I2,f,j o⟩
def m1u(td:TE):TE:=λσ H Q=>td σ H λx H1=>∃a kvs G,x=.ref a/\Rd H1 a (.dT kvs G)/\∀p,H1 p=none->Q (.ref p) (upd H1 p (.lst (kvs.map (·.2))))
def j0e{o:Expr}{D:TE}{apos d p2 m:Pos}(L:X.calm=true)(r:Gl X "list")(t:X.mg "list"=none)(ho:PE X o D)(f:U1 o "values" X.env (eval o X.env)=eval o X.env:=by rfl)(g:(apos.endLine==d.line)=true:=by rfl)
 (B:R0 [.Call (.Attribute o "values" apos) [] [] d] X.env=[(false,eval (.Call (.Attribute o "values" apos) [] [] d) X.env)]:=by rfl):
 PE X (.Call (.Name "list" p2) [.Call (.Attribute o "values" apos) [] [] d] [] m) (m1u D):=by
 intro n s M H Q I h;refine A1 (x0u I r t h0i (i1y ?_ B rfl) (by decide) (by decide));refine g1k ?_;refine W3 f g (thn (ho n s M H _ I h) λv F zz=>?_);let ⟨x,V,p,N,a,j,G,e,rd,O⟩:=zz;subst e;cases N;let ⟨t1,t2,C⟩:=k0d p (.inr ⟨j,G,rd⟩);let ⟨ob,P,W,R⟩:=n0l p rd;refine ⟨"dict","dict.values",h1q,f1o,d1r,t1,t2,i1i rfl (g1p ?_)⟩;refine n0m C R.ho R.hx (f1a ?_);refine kdl_call (m1v F.heap.objs.size R.hd) (p.ok.hd L) ⟨⟨_,k1s _ rfl,rfl,rfl⟩,k1w _ R.ho⟩ (by rw[R.sz];exact R.hz) λS tk l c kp J ha=>?_
 have U:zy8 (j.map (·.2)) l.toList:=by
  apply y1a
  .have q:l.toList.length=P.size:=by rw[i1o];exact ha.1
   rw[k1v,q,R.sz]
  .intro i x u e1 e2;rw[i1c]at e2;let ⟨z,rfl⟩:=ha.2 i u e2;let ⟨k,y,b,g1,_,_,_,g5⟩:=R.key i z
   grind
 rw[j1j]at J ⊢;exact ⟨.ref (F.heap.objs.size+1),_,p.laid (λb o e=>kp b o (k1w _ e)) (h1i _) (show zx6 X.prog X.w _ S _ (.lst (j.map (·.2)))from ⟨by rw[k1v];exact R.hz,l.toList,c,U,by simpa using J⟩),rfl,O _ (p.hok.fresh (h1i _))⟩
end
section
variable{X:Cx}{pins:List (X0×Obj)}{σ:St}{H:Hp}{s:Y0}
def zI8(tk tv:TE):TE:=λσ H Q=>∀p,H p=none->tk σ (upd H p (.dT [] λ_=>False)) λx H1=>tv σ H1 λy H2=>H2 p=some (.dT [] λ_=>False)/\∃b ks,x=.ref b/\H2 b=some (.tup (List.map kV ks))/\Q (.ref p) (upd H2 p (.dT [(ks,y)] λc=>False\/c=b))
def t1b{k v:Expr}{pos:Pos}{tk i:TE}(p:X.A.units<O2)(t:PE X k tk)(w:PE X v i)(d:([some k]:List (Option Expr)).all (·.isSome)=true:=by rfl):PE X (.Dict [some k] [v] pos) (zI8 tk i):=by
 intro a s j H Q I q;have hn:=I.hok.fresh (k1q s.heap.objs.size);have B:=I.laid (t':=s.toks) (λ_ _ q=>k1w _ q) (k1q _) (n0b s.heap I.big);refine wpAny_Dict_any d rfl (by simp) (by simp) (pairTrees_cons_walk (thn (t a _ j _ _ B (q _ hn)) λu C ⟨x,D,F,J,L⟩=>thn (w a C j D _ F L) λr s3 ⟨y,H2,f,M,e,b,N,ex,l,O⟩=>pairTrees_nil_walk ?_));subst ex;cases J;let ⟨z,hd,xs,rel,P⟩:=p1b f.hok e;cases rel;unfold storeAll;rw[e1n];refine y0 (y0 (wpAny_dictSet_heap p (r0m f.hok l) P (λh' g hs=>d0 ?_) (j1e _)));dsimp only;refine d0 ⟨.ref s.heap.objs.size,_,?_,rfl,O⟩;let ⟨o,R,S,m,U,V,W,_,Z⟩:=g;have kt:=KT.put (G:=λ_=>False) .nil N l M;refine v0e f (by rw[e];exact True.intro) hs ⟨o,m⟩ ⟨by show 1<=sizeLine;decide,hd,_,(kt.keeps λc ys n=>?_),o,R,S,m,U,V,W,Z⟩;rw[j0 (v1s n e (λz=>nomatch z))];exact n
end
end L2
namespace DL
open Spec L2
def zo0(kvs:List (List Int×D))(k:List Int):Option D:=(kvs.find? λkv=>decide (kv.1=k)).map (·.2)
def zf8(kvs:List (List Int×D))(k:List Int)(v:D):List (List Int×D):=if (kvs.any λkv=>decide (kv.1=k))=true then kvs.map (λkv=>if kv.1=k then (kv.1,v)else kv)else kvs++[(k,v)]
section
variable{K:Frag}{F:Hp}
def zn1{a b:List Int}:(a.map Sum.inl:List Key)=b.map Sum.inl↔a=b:=⟨λh=>by
 induction a generalizing b with
 |nil=>cases b with
  |nil=>rfl
  |cons y b=>cases h
 |cons x a c=>cases b with
  |nil=>cases h
  |cons y b=>rw[k1l]at h;injection h with d e;cases d;rw[c e],λh=>by rw[h]⟩
def s0x(ks:List Int):(ks.map (Sum.inl:Int->Key)).map kV=ks.map V.int:=by rw[i1j];rfl
def zx5.nil:zx5 K F [] []:=rfl
def zx5.cons{x:List Int}{d:D}{v:V}{ds:List (List Int×D)}{us:List (List Key×V)}(r:Rep K F d v)(z:zx5 K F ds us):zx5 K F ((x,d)::ds) ((x.map Sum.inl,v)::us):=by unfold zx5;exact ⟨v,us,rfl,r,z⟩
theorem zx5.length:∀{ds:List (List Int×D)} {us:List (List Key×V)},zx5 K F ds us->us.length=ds.length
 | [],us,h=>by unfold zx5 at h;rw[h];rfl
 |(x,d)::ds,us,h=>by unfold zx5 at h;let ⟨v,r,rfl,_,z⟩:=h;rw[k1k,k1k,zx5.length z]
theorem zx5.any(k:List Int):∀{ds:List (List Int×D)} {us:List (List Key×V)},zx5 K F ds us->(us.any λa=>decide (a.1=k.map Sum.inl))=ds.any λa=>decide (a.1=k)
 | [],us,h=>by unfold zx5 at h;rw[h];rfl
 |(x,d)::ds,us,h=>by
  let ⟨v,r,rfl,_,z⟩:=h;rw[g1q,zx5.any k z];congr 1;exact decide_eq_decide.mpr zn1
theorem zx5.zX5(k:List Int){d:D}{v:V}(r:Rep K F d v):∀{ds:List (List Int×D)} {us:List (List Key×V)},zx5 K F ds us->zx5 K F (ds.map λa=>if a.1=k then (a.1,d)else a) (us.map λa=>if a.1=k.map Sum.inl then (a.1,v)else a)
 | [],us,h=>by unfold zx5 at h;rw[h];exact zx5.nil
 |(x,e)::ds,us,h=>by
  let ⟨w,l,rfl,q,z⟩:=h;rw[k1l,k1l];by_cases b:x=k
  .simp only[b];exact zx5.cons r (zx5.zX5 k r z)
  .rw[O0 b,O0 (λy=>b (zn1.mp y))];exact zx5.cons q (zx5.zX5 k r z)
theorem zx5.snoc{k:List Int}{d:D}{v:V}(r:Rep K F d v):∀{ds:List (List Int×D)} {us:List (List Key×V)},zx5 K F ds us->zx5 K F (ds++[(k,d)]) (us++[(k.map Sum.inl,v)])
 | [],us,h=>by unfold zx5 at h;rw[h];exact zx5.cons r zx5.nil
 |(x,e)::ds,us,h=>by unfold zx5 at h;let ⟨w,l,rfl,q,z⟩:=h;exact zx5.cons q (zx5.snoc r z)
def zx5.put{k:List Int}{d:D}{v:V}{ds:List (List Int×D)}{us:List (List Key×V)}(z:zx5 K F ds us)(r:Rep K F d v):zx5 K F (zf8 ds k d) (putK us (k.map Sum.inl) v):=by
 unfold zf8 putK;rw[zx5.any k z];split
 .exact zx5.zX5 k r z
 .exact zx5.snoc r z
theorem zx5.val(k:List Int):∀{ds:List (List Int×D)} {us:List (List Key×V)},zx5 K F ds us->match zo0 ds k with |some d=>∃v,zf3 us (k.map Sum.inl)=some v/\Rep K F d v |none=>zf3 us (k.map Sum.inl)=none
 | [],us,h=>by unfold zx5 at h;rw[h];rfl
 |(x,e)::ds,us,h=>by
  let ⟨w,l,rfl,q,z⟩:=h;have b:=zx5.val k z;by_cases a:x=k
  .subst a;have e1:zo0 ((x,e)::ds) x=some e:=by unfold zo0;simp[h1j]
   rw[e1];exact ⟨w,q0q rfl,q⟩
  .have e1:zo0 ((x,e)::ds) k=zo0 ds k:=by unfold zo0;simp[a]
   rw[e1,q0p (λy=>a (zn1.mp y))];exact b
theorem zx5.get:∀{ds:List (List Int×D)} {us:List (List Key×V)},zx5 K F ds us->∀(i:Nat) (k:List Key) (v:V),us[i]?=some (k,v)->∃n d,ds[i]?=some (n,d)/\k=n.map Sum.inl/\Rep K F d v
 | [],us,h,i,k,v,e=>by unfold zx5 at h;rw[h]at e;cases e
 |(y,d)::ds,us,h,i,k,v,e=>by
  let ⟨w,l,rfl,q,z⟩:=h;cases i with
  |zero=>cases e;exact ⟨y,d,rfl,rfl,q⟩
  |succ i=>exact zx5.get z i k v e
theorem zx5.reps:∀{ds:List (List Int×D)} {us:List (List Key×V)},zx5 K F ds us->zz5 K F (ds.map (·.2)) (us.map (·.2))
 | [],us,h=>by unfold zx5 at h;rw[h];exact zz5.nil
 |(x,d)::ds,us,h=>by unfold zx5 at h;let ⟨v,r,rfl,q,z⟩:=h;exact zz5.cons q (zx5.reps z)
def zc9:D->Option (List Int)| .tup xs=>z0f xs |_=>none
def t1a{d:D}{v:V}{ks:List Int}(h:zc9 d=some ks)(r:Rep K F d v):∃b,v=.ref b/\F b=some (.tup ((ks.map (Sum.inl:Int->Key)).map kV)):=by
 unfold zc9 at h;split at h
 .let ⟨b,a,rfl,e,z⟩:=zz9.mp r;exact ⟨b,rfl,by rw[s0x,<- r0i h z];exact e⟩
 .cases h
end
section
variable{X:Cx}{Y:Y2}{W:XW}{e j tg:Expr}{te tj tx:TE2}{x:Str}{i:Nat}{p pos pos' zg5:Pos}
def m0l(i:Nat):TS2:=λE ρ δ=>E.nx (ρ.set i (.zt9 [])) δ
def s1z(i:Nat)(a:X.N.Nodup)(b:X.N[i]?=some x:=by rfl)(hx:Loc X.env.scope x:=by walk_at "v2")
 (hs:B2 (.Dict [] [] p) (some (.Name x pos')) pos.line X.env=pure false:=by rfl) (c:X.fn x=true\/X.env.scope.names.lookup x=some .local:=by walk_at "v1"):
 PS2 X Y W (.Assign [.Name x pos'] (.Dict [] [] p) pos) (m0l i):=ps2 (b0b a b hx v1e hs c) λe f H ⟨F,g,δ,j,I,h,er⟩=>
 λq d=>er.nx _ F _ _ δ (I.zt9 (vs:=([],λ_=>False)) d ⟨λ_ z=>z.elim,zx5.nil⟩) (zz7.refl F) h
def d0o(i:Nat)(tj te:TE2):TS2:=λE ρ δ=>te E.xc ρ δ λd ρ1 δ1=>za6 ρ1 i=true/\tj E.xc ρ1 δ1 λdj ρ2 δ2=>match ρ2[i]?,zc9 dj with
 |some (.zt9 kvs),some k=>kvs.length<1000/\E.nx (ρ2.set i (.zt9 (zf8 kvs k d))) δ2
 |_,_=>False
def m1t(i:Nat)(P:X.A.units+1<O2)(Q:PE2 X Y W j tj)(R:PE2 X Y W e te)(S:X.N[i]?=some x:=by rfl)(U:Vis X.env.scope x:=by walk_at "v3")(hd:(x==("__debug__":Str))=false:=by decide)
 (l:(x==("__classdict__":Str))=false:=by decide) (hs:B2 e (some (.Subscript (.Name x p) j zg5)) pos.line X.env=pure false:=by rfl):
 PS2 X Y W (.Assign [.Subscript (.Name x p) j zg5] e pos) (d0o i tj te):=ps2 (o1y P (i8 S U hd l) Q.go R.go hs) λE1 V H zz=>by
 let ⟨F,Z,δ,y,I,h,er⟩:=zz
 refine ⟨F,Z,δ,y.xc,_,I,h,λd v F1 H1 m n B C r1 D=>?_,er.xc⟩;let ⟨o,G⟩:=o1e B D.1;refine ⟨o,G,F1,m,n,y.xc,_,B,D.2,λdj w F2 H2 aa r f J r2 g=>?_,er.xc.mono C⟩;split at g
 .rename_i ab k em ek;let ⟨a,L,M,hh,z,up⟩:=f.mutT em;rw[G]at M;cases M;let ⟨b,rfl,O⟩:=t1a ek r2;refine ⟨a,_,rfl,zQ1.t hh (f.sub _ _ O) (k1f (by rw[z.2.length];exact g.1) (by decide)),er.nx V F2 _ _ r (up _ (putK L.1 (k.map Sum.inl) v,λc=>L.2 c\/c=b) ⟨λc u=>?_,z.2.put (r1.mono J)⟩) (C.trans J) g.2⟩;rcases u with u |rfl
  .exact z.1 c u
  .exact ⟨_,O⟩
 .exact g.elim
def za0(ρ:En)(i:Nat):Option (List (List Int×D)):=match ρ[i]? with
 |some (.zt9 kvs)=>some kvs
 |some (.val (.dwt kvs))=>some kvs
 |_=>none
def m1s{K:Frag}{F H:Hp}{σ:St}{c:En}{δ:Dk}{b:List (List Int×D)}(I:I2 K Y F H σ c δ)(h:za0 c i=some b):∃a,∃us:List (List Key×V)×(X0->Prop),σ[i]?=some (some (.ref a))/\Rd H a (.dT us.1 us.2)/\zc5 K F b us:=by
 unfold za0 at h;split at h
 .rename_i d e;cases h;let ⟨a,us,q,f,_,_,r⟩:=I.env i _ e;exact ⟨a,us,x4 q,.inl f,r⟩
 .rename_i d e;cases h;let ⟨v,q,r⟩:=I.env i _ e;let ⟨a,o,us,rfl,e2,z⟩:=zw3.mp r;exact ⟨a,us,x4 q,.inr ⟨o,I.sub _ _ e2⟩,z⟩
 .cases h
def m1r{H:Hp}{a b:X0}{c:List (List Key×V)}{G:X0->Prop}{k:List Key}(e:Rd H a (.dT c G))(d:H b=some (.tup (k.map kV))):zV7 H a (.ref b) (zf3 c k):=.inr ⟨c,G,k,b,e,rfl,d,rfl⟩
def d0n(i:Nat)(ty tx:TE2):TE2:=λx ρ δ q=>(za0 ρ i).isSome=true/\ty x ρ δ λdk ρ1 δ1=>tx x ρ1 δ1 λdd ρ2 δ2=>match za0 ρ2 i,zc9 dk with
 |some kvs,some k=>q ((zo0 kvs k).getD dd) ρ2 δ2
 |_,_=>False
def m1q(i:Nat){f:Expr}{apos g:Pos}(R:X.A.units+1<O2)(S:PE2 X Y W e te)(U:PE2 X Y W f tx)(m:M2 X (.Name x p) "get" apos e f g)(V:X.N[i]?=some x:=by rfl)(Z:Vis X.env.scope x:=by walk_at "v3")(hd:(x==("__debug__":Str))=false:=by decide)
 (u:(x==("__classdict__":Str))=false:=by decide):PE2 X Y W (.Call (.Attribute (.Name x p) "get" apos) [e,f] [] g) (d0n i te tx):=pe2 (v1c R (i8 V Z hd u) S.go U.go m) λσ H Q zz=>by
 let ⟨F,ρ,δ,x,q,I,h,k,D⟩:=zz
 let ⟨h0,h⟩:=h;let ⟨aa,e⟩:=f1q.mp h0;let ⟨a,G,J,hh,z⟩:=m1s I e;refine ⟨_,J,a,rfl,.inr ⟨G.1,G.2,hh⟩,F,ρ,δ,x,_,I,h,λdk v1 F1 H1 w y I1 B r1 h1=>⟨F1,w,y,x,_,I1,h1,λdd v2 F2 L l n c C r2 j=>?_,D.mono B⟩,D⟩;split at j
 .rename_i o M e' ek;let ⟨a',ab,r,t,z'⟩:=m1s c e';rw[J]at r;cases r;let ⟨b,rfl,O⟩:=t1a ek (r1.mono C);have hz:=z'.2.val M;cases P:zo0 o M with
  |some d=>
   rw[P]at hz j;let ⟨v,e3,r3⟩:=hz;exact ⟨some v,by rw[<-e3];exact m1r t (c.sub _ _ O),k _ _ F2 L l n c (B.trans C) r3 j⟩
  |none=>
   rw[P]at hz j;exact ⟨none,by rw[<-hz];exact m1r t (c.sub _ _ O),k _ _ F2 L l n c (B.trans C) r2 j⟩
 .exact j.elim
def z92(i:Nat):TE2:=λ_ ρ δ q=>match ρ[i]? with |some (.zt9 kvs)=>q (.dwt kvs) (ρ.set i (.val (.dwt kvs))) δ |_=>False
def z93(i:Nat)(d:X.N[i]?=some x:=by rfl)(f:Vis X.env.scope x:=by walk_at "v3")(hd:(x==("__debug__":Str))=false:=by decide)
 (b:(x==("__classdict__":Str))=false:=by decide):PE2 X Y W (.Name x pos) (z92 i):=pe2 (g0z (i8 d f hd b)) λn H Q zz=>by
 let ⟨F,p,δ,x,q,I,h,k,r⟩:=zz
 unfold z92 at h;split at h
 .rename_i g e;let ⟨a,c,j,l,m,up⟩:=I.zX8 e;exact ⟨_,j,a,c.1,c.2,rfl,l,λo=>k _ _ _ _ _ δ (up o).1 (zz7.new m) (up o).2 h⟩
 .exact h.elim
def m0k(te:TE2):TI2:=λx ρ δ q=>te x ρ δ λd ρ1 δ1=>match d with | .dwt kvs=>q (kvs.map λkv=>D.tup (kv.1.map D.int)) ρ1 δ1 |_=>False
def s1y{l:Expr}(g:PE2 X Y W l te):PI2 X Y W tg l (m0k te):=pi2 (t1c g.go) λQ H R zz=>by
 let ⟨F,w,δ,x,q,I,h,k,B⟩:=zz
 refine ⟨F,w,δ,x,_,I,h,λd v C D j m r G J p=>?_,B⟩;split at p
 .let ⟨a,o,t,rfl,e2,z⟩:=zw3.mp J;have g:=z.2.length;refine ⟨a,o,t.1,t.2,rfl,r.sub _ _ e2,k _ _ C D j m r G ⟨λi d F2 L e c f=>⟨⟨f _ _ (c _ _ e2),?_⟩,λu S y=>?_⟩,λF2 L c f=>⟨f _ _ (c _ _ e2),by rw[k1v];exact g⟩⟩ p⟩
  .grind
  .let ⟨rfl,M,N,b,e3,rfl,O,P⟩:=y;let ⟨n,U,e4,rfl,_⟩:=z.2.get i M N e3;rw[k1h,e4]at e;cases e;let ⟨V,ex⟩:=z.1 b O;have e5:=f _ _ (c _ _ ex);rw[P,s0x]at e5;cases e5;exact .inl ⟨rfl,zz9.mpr ⟨b,_,rfl,c _ _ ex,z0l n⟩⟩
 .exact p.elim
def d0m(i:Nat)(v:Int):TE2:=λ_ ρ δ q=>match ρ[i]? with
 |some (.val (.lst xs))=>(match z0f xs with |some ks=>q (.dwt [(ks,.int v)]) ρ δ |none=>False)
 |some (.val (.tup xs))=>(match z0f xs with |some ks=>q (.dwt [(ks,.int v)]) ρ δ |none=>False)
 |_=>False
def m1p(i:Nat){c:Nat}{m np d:Pos}{v:Int}(R:X.A.units+1<O2)(hm:X.mg "tuple"=none)(S:Gl X "tuple":=by rfl)(U:X.N[i]?=some x:=by rfl)(Z:Vis X.env.scope x:=by walk_at "v3")(hd:(x==("__debug__":Str))=false:=by decide)
 (C:(x==("__classdict__":Str))=false:=by decide) (n:R0 [.Name x p] X.env=[(false,eval (.Name x p) X.env)]:=by rfl) (D:(Q3 d (R0 [] X.env)).any (·.1)=false:=by exact b8 rfl):
 PE2 X Y W (.Dict [some (.Call (.Name "tuple" np) [.Name x p] [] d)] [.Constant (.int v) c m] pos) (d0m i v):=
 pe2 (g0z (t1b (i1l R) (k0l z0i S hm m0x (n0d (i8 U Z hd C) f0b n) (by decide) (by decide) n D) r0n)) λσ H Q zz=>by
 let ⟨F,O,δ,x,q,I,h,k,kx⟩:=zz
 unfold d0m at h;intro p t;split at h
 .rename_i xs e;split at h
  .rename_i f G;let ⟨u,J,r⟩:=I.env i _ e;let ⟨a,vs,rfl,g,z⟩:=zy6.mp r;have L:=r0i G z;subst L;have na:=i0 (I.sub _ _ g) t;refine ⟨_,x4 J,a,_,rfl,.inl ⟨.inl (.inl (by rw[j0 na];exact I.sub _ _ g)),λl y=>?_⟩⟩;have nl:l≠p:=λw=>by rw[w,j3]at y;cases y
   rw[j0 nl]at y;refine ⟨by rw[j0 (j1k nl),j3],l,f.map Sum.inl,rfl,by rw[j3,s0x],p,_,_,rfl,j3,λo=>?_⟩;have P:=I.alloc (o:=.tup (f.map V.int)) y;have B:upd H l (.tup (f.map V.int)) p=none:=by rw[j0 (j1k nl)];exact t
   have M:=P.alloc (o:=.frz o (.dT [(f.map Sum.inl,.int v)] λc=>False\/c=l)) B;rw[n1c nl,q0d];refine k _ _ _ _ O δ M ((I.grow y).trans (P.grow B)) (zw3.mpr ⟨p,o,([(f.map Sum.inl,.int v)],λc=>False\/c=l),rfl,j3,λb j=>?_,zx5.cons (zz4.mpr rfl) zx5.nil⟩) h;rcases j with j |rfl
   .exact j.elim
   .exact ⟨_,by rw[j0 nl,j3]⟩
  .exact h.elim
 .rename_i xs e;split at h
  .rename_i f G;let ⟨u,J,r⟩:=I.env i _ e;let ⟨a,vs,rfl,g,z⟩:=zz9.mp r;have L:=r0i G z;subst L;have na:=i0 (I.sub _ _ g) t;refine ⟨_,x4 J,a,_,rfl,.inr ⟨.inl (.inl (by rw[j0 na];exact I.sub _ _ g)),?_⟩⟩;refine ⟨j3,a,f.map Sum.inl,rfl,by rw[j0 na,s0x];exact I.sub _ _ g,p,_,_,rfl,j3,λo=>?_⟩;rw[q0d,q0d];refine k _ _ _ _ O δ (I.alloc t) (I.grow t) (zw3.mpr ⟨p,o,([(f.map Sum.inl,.int v)],λc=>False\/c=a),rfl,j3,λb j=>?_,zx5.cons (zz4.mpr rfl) zx5.nil⟩) h;rcases j with j |rfl
   .exact j.elim
   .exact ⟨_,by rw[j0 na];exact g⟩
  .exact h.elim
 .exact h.elim
end
open PyProof.Rows (envOfC)
end DL
namespace SRT
open PyProof.Rows
variable{α β:Type}{st st':B0}{Q:Unit->B0->Prop}{a:Array Z3}{i n m j lo:Nat}
local macro_rules | `(tactic|walk_at "bare")=>do
 let ids:=#["gallop","mergeLo","mergeHi","mergeAt","setMinGallop","countRun","binarySort","sortRuns"].map fun s=>Lean.mkIdent (Lean.mkPrivateNameCore `PySem.Builtin.List.W1All (`PySem.Builtin++Lean.Name.mkSimple s))
 `(tactic|first |unfold $(ids[0]!):ident |unfold $(ids[1]!):ident |unfold $(ids[2]!):ident |unfold $(ids[3]!):ident |unfold $(ids[4]!):ident |unfold $(ids[5]!):ident |unfold $(ids[6]!):ident |unfold $(ids[7]!):ident)
def x1z:Bool->Z3->Array Z3->Nat->Nat->Nat->StateT B0 Sem (Option Nat):=sortPriv%PySem.Builtin.gallop
def d0l:Array Z3->Array Z3->StateT B0 Sem (Array Z3):=sortPriv%PySem.Builtin.mergeLo
def d0k:Array Z3->Array Z3->StateT B0 Sem (Array Z3):=sortPriv%PySem.Builtin.mergeHi
def x1y:Nat->StateT B0 Sem Unit:=sortPriv%PySem.Builtin.setMinGallop
structure zn2(prog:V0)(w:T0)(A:A0)(J:Y0->Prop)(κ:SortKind)(S:Z3->Prop):Prop where
 lt:∀x y,S x->S y->∀s,J s->wpAny (model prog w) A (keyLt' κ x.1 y.1) (λ_ s'=>J s') (λ_ _=>False) s
section
variable{prog:V0}{w:T0}{A:A0}{J:Y0->Prop}{κ:SortKind}{S:Z3->Prop}
def jw(prog:V0)(w:T0)(A:A0)(J:Y0->Prop){α:Type}(m:StateT B0 Sem α)(Q:α->B0->Prop)(st:B0):Prop:=
 ∀s,J s->wpAny (model prog w) A (m.run st) (λr s'=>J s'/\Q r.1 r.2) (λ_ _=>False) s
def i3{a:α}{Q:α->B0->Prop}(h:Q a st):jw prog w A J (pure a) Q st:=λs j=>by rw[StateT.run_pure];exact d0 ⟨j,h⟩
def o6{m:StateT B0 Sem α}{Q b:α->B0->Prop}(h:jw prog w A J m Q st)(c:∀a st',Q a st'->b a st'):jw prog w A J m b st:=
 λs j=>K0 (h s j) (λr d q=>⟨q.1,c _ _ q.2⟩) λ_ _ e=>e
def y3{m:StateT B0 Sem α}{f:α->StateT B0 Sem β}{Q:β->B0->Prop}(h:jw prog w A J m (λa st'=>jw prog w A J (f a) Q st') st):jw prog w A J (m >>= f) Q st:=
 λs j=>by rw[StateT.run_bind];exact y0 (K0 (h s j) (λr b q=>q.2 b q.1) λ_ _ e=>e)
def v0j{Q:B0->B0->Prop}(h:Q st st):jw prog w A J get Q st:=λs j=>by rw[StateT.run_get];exact d0 ⟨j,h⟩
def zH1{Q:PUnit->B0->Prop}(h:Q ⟨⟩ st'):jw prog w A J (set st') Q st:=λs j=>by rw[StateT.run_set];exact d0 ⟨j,h⟩
def q9{f:B0->B0}{Q:PUnit->B0->Prop}(h:Q ⟨⟩ (f st)):jw prog w A J (modify f) Q st:=λs j=>by rw[StateT.run_modify];exact d0 ⟨j,h⟩
def s0w{x:String}(h:Q () st):jw prog w A J (liftM (rule x:Sem Unit)) Q st:=λs j=>by
 show wpAny _ A ((StateT.lift (rule x):StateT B0 Sem Unit).run st) _ _ s;rw[a1k];exact y0 (D4 (d0 ⟨j,h⟩))
theorem q1r{β:Type}{f:Nat->β->StateT B0 Sem (ForInStep β)}{Q:β->B0->Prop}(I:Nat->β->B0->Prop):∀(l:List Nat) {c:β} {st:B0},
 (∀n x b st,x∈l->n<l.length->I (n+1) b st->jw prog w A J (f x b) (λr st'=>match r with | .done a=>Q a st' | .yield a=>I n a st') st)->
 (∀b st,I 0 b st->Q b st)->I l.length c st->jw prog w A J (forIn l c f) Q st
 | [],c,st,_,e,h=>by rw[List.forIn_nil];exact i3 (e _ _ h)
 |x::l,c,st,hs,e,h=>by
  rw[e1n];refine y3 (o6 (hs l.length x c st (k1g ..) (h1r _) h) λr st' q=>?_);cases r with
  |done b=>exact i3 q
  |yield b=>exact q1r I l (λn y b st d hn=>hs n y b st (k1o _ d) (h1w hn)) e q
def j5{a b:Nat}{f:Nat->β->StateT B0 Sem (ForInStep β)}{Q:β->B0->Prop}(I:Nat->β->B0->Prop){c:β}{st:B0}
 (hs:∀n x c st,a<=x->x<b->n<b-a->I (n+1) c st->jw prog w A J (f x c) (λr st'=>match r with | .done d=>Q d st' | .yield d=>I n d st') st)
 (g:∀c st,I 0 c st->Q c st) (h:I (b-a) c st):jw prog w A J (forIn [a:b] c f) Q st:=by
 rw[c1q];have e:([a:b]:Std.Legacy.Range).size=b-a:=by simp[Std.Legacy.Range.size]
 show jw prog w A J (forIn (List.range' a ([a:b]:Std.Legacy.Range).size 1) c f) Q st;rw[e];refine q1r I _ (λn x c st hx hn i=>?_) g (by rw[b1u];exact h);rw[List.mem_range'_1]at hx;rw[b1u]at hn;exact hs n x c st hx.1 (by lia) hn i
def n0k{a:Type}{V:a}{B:a->StateT B0 Sem α}{Q:α->B0->Prop}(h:jw prog w A J (B V) Q st):jw prog w A J (have F:=V;B F) Q st:=h
def u6{c:Prop}{i:Decidable c}{m a:StateT B0 Sem α}{Q:α->B0->Prop}(h:c->jw prog w A J m Q st)(h':¬c->jw prog w A J a Q st):jw prog w A J (@ite _ c i m a) Q st:=by
 by_cases e:c
 .rw[H0 e];exact h e
 .rw[O0 e];exact h' e
def d0j{a:Type}{F:PUnit->β->a->StateT B0 Sem α}{m:StateT B0 Sem α}{Q:α->B0->Prop}(P:β->a->Prop)(b:∀o i,P o i->jw prog w A J (F ⟨⟩ o i) Q st)(hm:(∀o i,P o i->jw prog w A J (F ⟨⟩ o i) Q st)->jw prog w A J m Q st):jw prog w A J m Q st:=hm b
def q1q{c:Prop}{i:Decidable c}{F:PUnit->β->StateT B0 Sem α}{x y:β}{Q:α->B0->Prop}(h:∀z,jw prog w A J (F ⟨⟩ z) Q st):jw prog w A J (@ite _ c i (F ⟨⟩ x) (F ⟨⟩ y)) Q st:=u6 (λ_=>h x) λ_=>h y
def u7{x y:Nat}{m a:StateT B0 Sem α}{Q:α->B0->Prop}(h:x=y->jw prog w A J m Q st)(h':¬x=y->jw prog w A J a Q st):jw prog w A J (if (x==y)=true then m else a) Q st:=
 u6 (λe=>h (beq_iff_eq.mp e)) λe=>h' λz=>e (beq_iff_eq.mpr z)
def w5{Q:Z3->B0->Prop}(b:i<a.size)(h:Q a[i] st):jw prog w A J (elem' a i) Q st:=by
 rw[elem'_eq,j1h b];exact i3 h
def x1x{x y:Z3}{Q:Option Bool->B0->Prop}(C:zn2 prog w A J κ S)(a:kindOf st=κ)(hx:S x)(c:S y)(h:∀b,Q (some b) st):jw prog w A J (lt' x y) Q st:=by
 rw[lt'_eq];refine y3 (v0j (y3 ?_));rw[a];intro s j;show wpAny _ A ((StateT.lift (keyLt' κ x.1 y.1).attempt:StateT B0 Sem _).run st) _ _ s;rw[a1k];exact y0 (T3 (K0 (C.lt x y hx c s j) (λb f d=>d0 ⟨d,i3 (h b)⟩) λ_ _ e=>e.elim))
def t0r{l:Bool}{k:Z3}{Q:Option Bool->B0->Prop}(C:zn2 prog w A J κ S)(c:kindOf st=κ)(d:S k)(ha:∀p∈a,S p)(e:i<a.size)(h:∀b,Q (some b) st):
 jw prog w A J (elem' a i >>= λx=>if l=true then lt' x k else lt' k x >>= λo=>pure (Option.map (λx=>!x) o)) Q st:=by
 refine y3 (w5 e ?_);have m:=ha _ (j1b e);split
 .exact x1x C c m d h
 .exact y3 (x1x C c d m λb=>i3 (h (!b)))
def z0k{l:Bool}{k:Z3}{b t:Nat}{Q:Option Nat->B0->Prop}(C:zn2 prog w A J κ S)(u:kindOf st=κ)(v:S k)(ha:∀p∈a,S p)(D:b+n<=a.size)(F:t<n)
 (h:∀m,m<=n->Q (some m) st):jw prog w A J (x1z l k a b n t) Q st:=by
 unfold x1z;walk_at "bare";dsimp only;have f:∀lo y:Nat,y<=n->jw prog w A J (forIn [0:n] ((none,lo,y):Option (Option Nat)×Nat×Nat) λx s=>if s.2.1>=s.2.2 then pure (ForInStep.done (none,s.2.1,s.2.2))else do
  let r<-elem' a (b+(s.2.1+(s.2.2-s.2.1)/2)) >>= λx=>if l=true then lt' x k else lt' k x >>= λo=>pure (Option.map (λx=>!x) o)
  match r with
  |some more=>if more=true then pure (ForInStep.yield (none,s.2.1+(s.2.2-s.2.1)/2+1,s.2.2))else pure (ForInStep.yield (none,s.2.1,s.2.1+(s.2.2-s.2.1)/2))
  |_=>pure (ForInStep.done (some none,s.2.1,s.2.2))) (λr d=>r.1=none/\r.2.2<=n/\d=st) st:=by
  intro lo y B;refine j5 (λ_ c d=>c.1=none/\c.2.2<=n/\d=st) (λi x c d _ hx _ zz=>?_) (λc d z=>z) ⟨rfl,B,rfl⟩;let ⟨g,j,e⟩:=zz;subst e;split
  .exact i3 ⟨rfl,j,rfl⟩
  .refine y3 (t0r C u v ha (by lia) λc=>?_);cases c
   .exact i3 ⟨rfl,by dsimp only;lia,rfl⟩
   .exact i3 ⟨rfl,j,rfl⟩
 refine y3 (t0r C u v ha (by lia) λright=>?_);dsimp only;split
 .refine y3 (o6 (j5 (Q:=λr d=>r.1=none/\d=st) (λ_ c d=>c.1=none/\d=st) (λi x c d _ hx _ ⟨g,e⟩=>?_) (λc d z=>z) ⟨rfl,rfl⟩) λc d ⟨g,e⟩=>?_)
  .subst e;split
   .exact i3 ⟨rfl,rfl⟩
   .refine y3 (t0r C u v ha (by lia) λc=>?_);cases c
    .exact i3 ⟨rfl,rfl⟩
    .exact i3 ⟨rfl,rfl⟩
  .subst e;rw[g];refine y3 (o6 (f _ _ (by lia)) λc d zy=>?_);let ⟨g,j,e⟩:=zy;subst e;rw[g];exact i3 (h _ j)
 .refine y3 (o6 (j5 (Q:=λr d=>r.1=none/\d=st) (λ_ c d=>c.1=none/\d=st) (λi x c d _ hx _ ⟨g,e⟩=>?_) (λc d z=>z) ⟨rfl,rfl⟩) λc d ⟨g,e⟩=>?_)
  .subst e;split
   .exact i3 ⟨rfl,rfl⟩
   .refine y3 (t0r C u v ha (by lia) λc=>?_);cases c
    .exact i3 ⟨rfl,rfl⟩
    .exact i3 ⟨rfl,rfl⟩
  .subst e;rw[g];refine y3 (o6 (f _ _ (by lia)) λc d zx=>?_);let ⟨g,j,e⟩:=zx;subst e;rw[g];exact i3 (h _ j)
structure Sm(st st':B0):Prop where
 k:kindOf st'=kindOf st
 a:arrOf st'=arrOf st
 p:O1 st'=O1 st
 f:O3 st'=O3 st
def Sm.refl:Sm st st:=⟨rfl,rfl,rfl,rfl⟩
def Sm.min(h:Sm st st')(g:Nat):Sm st (SortSt.mk' (kindOf st') (arrOf st') (O1 st') g (O3 st')):=⟨h.k,h.a,h.p,h.f⟩
def t0q{g:Nat}(h:Q () (SortSt.mk' (kindOf st) (arrOf st) (O1 st) g (O3 st))):jw prog w A J (x1y g) Q st:=by
 unfold x1y;walk_at "bare";exact q9 h
def zs7(a b out:Array Z3)(ia ib:Nat):Prop:=out.toList.Perm (a.toList.take ia++b.toList.take ib)
section
variable{a b out:Array Z3}{ia ib k:Nat}
def zs7.swap(h:zs7 a b out ia ib):zs7 b a out ib ia:=List.Perm.trans h i1b
def zs7.zY3(h:zs7 a b out ia ib):zs7 a b (out++b.extract ib (ib+k)) ia (ib+k):=by
 unfold zs7 at h ⊢;rw[h1v,i1r,List.extract_eq_drop_take,f1j,show b.toList.take (ib+k)=b.toList.take ib++(b.toList.drop ib).take k from List.take_add,<- i1v];exact h.append_right _
def zs7.zY4(h:zs7 a b out ia ib):zs7 a b (out++a.extract ia (ia+k)) (ia+k) ib:=h.swap.zY3.swap
def zs7.zl8(h:zs7 a b out ia ib)(c:ib<b.size):zs7 a b (out.push b[ib]) ia (ib+1):=by
 have z:=h.zY3 (k:=1);have e:b.extract ib (ib+1)=#[b[ib]]:=by
  apply Array.ext';rw[i1r,List.extract_eq_drop_take,f1j,i1z (by simpa using c)];simp
 rw[e]at z;simpa using z
def zs7.zn3(h:zs7 a b out ia ib)(c:ia<a.size):zs7 a b (out.push a[ia]) (ia+1) ib:=(h.swap.zl8 c).swap
def zs7.done(h:zs7 a b out ia ib):(out++a.extract ia a.size++b.extract ib b.size).Perm (a++b):=by
 rw[i1k];simp only[h1v,i1r,List.extract_eq_drop_take];rw[g1l (by simp),g1l (by simp)];refine ((h1f _ (h1f _ h)).trans ?_);have e1:a.toList++b.toList=(a.toList.take ia++a.toList.drop ia)++(b.toList.take ib++b.toList.drop ib):=by rw[j1f,j1f]
 rw[e1];simp only[i1v];refine g1z _ ?_;rw[<-List.append_assoc,<- i1v];exact h1f _ i1b
def zs7.last(h:zs7 a b out ia ib):(out++b.extract ib b.size++a.extract ia a.size).Perm (a++b):=by
 have:=h.swap.done;rw[i1k]at this ⊢;refine this.trans ?_;simp only[h1v];exact i1b
structure Lo(a b:Array Z3)(st st':B0)(m:Nat)(r:Option (Array Z3))(out:Array Z3)(ia ib:Nat):Prop where
 sm:Sm st st'
 ok:match r with |some x=>x.Perm (a++b)|none=>zs7 a b out ia ib/\ia+1<a.size/\ib<b.size/\m<=ia+ib
def Lo.on(s:Sm st st')(o:zs7 a b out ia ib)(x:ia+1<a.size)(y:ib<b.size)(z:m<=ia+ib):Lo a b st st' m none out ia ib:=⟨s,o,x,y,z⟩
def Lo.fin{x:Array Z3}(s:Sm st st')(o:x.Perm (a++b)):Lo a b st st' m (some x) out ia ib:=⟨s,o⟩
def Lo.el{P:Prop}(h:Lo a b st st' m none out ia ib)(f:Sm st st'->zs7 a b out ia ib->ia+1<a.size->ib<b.size->m<=ia+ib->P):P:=let ⟨s,o,x,y,z⟩:=h;f s o x y z
end
local macro_rules | `(tactic|walk_at "lo")=>`(tactic|repeat' first
 |refine u7 (fun _=>?_) fun _=>?_
 |refine u6 (fun _=>?_) fun _=>?_
 |exact i3 (Lo.fin (by assumption) (zs7.done (by assumption)))
 |exact i3 (Lo.fin (by assumption) (zs7.last (by assumption)))
 |exact i3 (Lo.on (by assumption) (by assumption) (by try dsimp only at *; omega) (by try dsimp only at *; omega) (by try dsimp only at *; omega))
 |exact i3 ⟨rfl,Lo.on (by assumption) (by assumption) (by try dsimp only at *; omega) (by try dsimp only at *; omega) (by try dsimp only at *; omega)⟩)
def b0v{b:Array Z3}{Q:Array Z3->B0->Prop}(C:zn2 prog w A J κ S)(O:kindOf st=κ)(P:∀p∈a,S p)(R:∀p∈b,S p)(ha:0<a.size)(X:0<b.size)
 (h:∀r st',Sm st st'->r.Perm (a++b)->Q r st'):jw prog w A J (d0l a b) Q st:=by
 unfold d0l;walk_at "bare";have U:zs7 a b #[b[0]] 0 1:=by
  have:zs7 a b #[] 0 0:=by unfold zs7;simp
  simpa using this.zl8 X
 refine y3 (s0w (y3 (w5 X (u7 (λe=>i3 (h _ _ .refl U.done)) λn1=>u7 (λe=>i3 (h _ _ .refl U.last)) λn2=>?_))));refine y3 (v0j (y3 (o6 (j5 (Q:=λc st'=>Lo a b st st' (a.size+b.size+1) c.1 c.2.1 c.2.2.1 c.2.2.2.1) (λn c st'=>c.1=none/\Lo a b st st' (a.size+b.size-n+1) c.1 c.2.1 c.2.2.1 c.2.2.2.1) ?_ (λc st' z=>z.2) ⟨rfl,Lo.on .refl U (by lia) (by lia) (by lia)⟩) λc st' z=>?_)))
 .rintro n x ⟨r,l,B,u,mg⟩ t _ _ hn ⟨hr,d⟩;dsimp only at hr d;subst hr;refine d.el λsm ho g f v=>?_
  refine y3 (o6 (j5 (Q:=λc st'=>Lo a b st st' (a.size+b.size-n+1) c.1 c.2.1 c.2.2.1 c.2.2.2.1) (λm c st'=>c.1=none/\Lo a b st st' (a.size+b.size-(n+1)+1+(a.size+b.size-m)) c.1 c.2.1 c.2.2.1 c.2.2.2.1) ?_ ?_ ⟨rfl,Lo.on sm ho g f (by lia)⟩) ?_)
  .rintro m x ⟨r,l,B,u,M,N⟩ t _ _ hm ⟨hr,d⟩;dsimp only at hr d;subst hr;refine d.el λsm ho g f v=>?_
   refine y3 (w5 f (y3 (w5 (i1l g) (y3 (x1x C (sm.k.trans O) (R _ (j1b _)) (P _ (j1b _)) λc=>?_)))));cases c
   .refine y3 (w5 (i1l g) ?_);have:=ho.zn3 (i1l g);walk_at "lo"
   .refine y3 (w5 f ?_);have:=ho.zl8 f;walk_at "lo"
  .rintro ⟨r,l,B,u,M,N⟩ t ⟨hr,d⟩;dsimp only at hr d ⊢;subst hr;exact d.el λsm ho g f v=>.on sm ho g f (by lia)
  .rintro ⟨r,l,B,u,M,N⟩ t d;dsimp only at d;cases r with
   |some r=>exact i3 (Lo.fin d.sm d.ok)
   |none=>
   refine d.el λsm ho g f v=>?_
   refine y3 (s0w (y3 (o6 (j5 (Q:=λc st'=>Lo a b st st' (a.size+b.size-n+1) c.1 c.2.1 c.2.2.1 c.2.2.2.1) (λm c st'=>c.1=none/\Lo a b st st' (a.size+b.size-n+1) c.1 c.2.1 c.2.2.1 c.2.2.2.1) ?_ (λc st' z=>z.2) ⟨rfl,Lo.on sm ho g f v⟩) ?_)))
   .rintro m x ⟨r,l,B,u,mg,M,N⟩ t _ _ hm ⟨hr,d⟩;dsimp only at hr d;subst hr;refine d.el λsm ho g f v=>?_
    refine n0k ?_;generalize y:(λ(_:PUnit) (_:Nat)=>(_:StateT B0 Sem _))=F;refine q1q λaa=>?_
    rw[<-y];clear y F;refine y3 (t0q (y3 (w5 f (y3 (z0k C (sm.k.trans O) (R _ (j1b _)) P (by walk_at "7") (by walk_at "7") λk V=>?_)))));dsimp only at V;refine n0k ?_;generalize y:(λ(_:PUnit) (_:Array Z3) (_:Nat)=>(_:StateT B0 Sem _))=F;refine d0j (F:=F) (λo i=>zs7 a b o i u/\i+1<a.size/\B<=i) (λo1 i1 z=>?_) λH=>u6 (λ_=>u7 (λ_=>i3 (Lo.fin (sm.min _) ho.zY4.last)) λn3=>u7 (λ_=>i3 (Lo.fin (sm.min _) ho.zY4.done)) λn4=>H _ _ ⟨ho.zY4,by (try dsimp only at n3 n4);(try dsimp only);lia,Nat.le_add_right _ _⟩) λ_=>H _ _ ⟨ho,g,k1q _⟩
    rw[<-y];clear y F;let ⟨I,L,h6⟩:=z;refine y3 (w5 f (u7 (λ_=>i3 (Lo.fin (sm.min _) (I.zl8 f).done)) λn5=>?_));have D:=I.zl8 f
    try dsimp only at n5
    refine y3 (w5 (i1l L) (y3 (z0k C (sm.k.trans O) (P _ (j1b _)) R (by walk_at "7") (by walk_at "7") λk2 W=>?_)))
    try dsimp only at W
    refine n0k ?_;generalize y:(λ(_:PUnit) (_:Array Z3) (_:Nat)=>(_:StateT B0 Sem _))=F;refine d0j (F:=F) (λo j=>zs7 a b o i1 j/\j<b.size/\u<j) (λo2 j2 z=>?_) λH=>u6 (λ_=>u7 (λ_=>i3 (Lo.fin (sm.min _) D.zY3.done)) λn6=>H _ _ ⟨D.zY3,by (try dsimp only at n6);(try dsimp only);lia,by (try dsimp only);lia⟩) λ_=>H _ _ ⟨D,by (try dsimp only);lia,h1r _⟩
    rw[<-y];clear y F;let ⟨G,Z,h7⟩:=z;refine y3 (w5 (i1l L) (u7 (λ_=>i3 (Lo.fin (sm.min _) (G.zn3 (i1l L)).last)) λn7=>?_))
    try dsimp only at n7
    exact u6 (λ_=>i3 (Lo.on (sm.min _) (G.zn3 (i1l L)) (by walk_at "7") Z (by walk_at "7"))) λ_=>i3 ⟨rfl,Lo.on (sm.min _) (G.zn3 (i1l L)) (by walk_at "7") Z (by walk_at "7")⟩
   .rintro ⟨r,l,B,u,mg,M,N⟩ t d;dsimp only at d;cases r with
    |some r=>exact i3 (Lo.fin d.sm d.ok)
    |none=>
    refine d.el λsm ho g f v=>?_
    exact y3 (t0q (i3 ⟨rfl,Lo.on (sm.min _) ho g f v⟩))
 .let ⟨r,l,B,u,mg⟩:=c;dsimp only at z;cases r with
  |some r=>exact i3 (h _ _ z.sm z.ok)
  |none=>exact z.el λsm ho g f v=>by lia
def zr1(a b out:Array Z3)(na nb:Nat):Prop:=out.toList.Perm (a.toList.drop na++b.toList.drop nb)
section
variable{a b out:Array Z3}{na nb k:Nat}
def zr1.swap(h:zr1 a b out na nb):zr1 b a out nb na:=List.Perm.trans h i1b
def zr1.zY4(h:zr1 a b out na nb)(c:k<=na):zr1 a b (out++(a.extract k na).reverse) k nb:=by
 unfold zr1 at h ⊢;rw[h1v,c1k,i1r,List.extract_eq_drop_take];have e:a.toList.drop k=(a.toList.drop k).take (na-k)++a.toList.drop na:=by
  have:=j1f (na-k) (a.toList.drop k);rw[d1w,show k+(na-k)=na by lia]at this;exact this.symm
 refine (i1b.trans (List.Perm.append (b1j _) h)).trans ?_;rw[<-List.append_assoc,<- e]
def zr1.zY3(h:zr1 a b out na nb)(c:k<=nb):zr1 a b (out++(b.extract k nb).reverse) na k:=(h.swap.zY4 c).swap
def zr1.zn3(h:zr1 a b out na nb)(c:na-1<a.size)(h0:0<na):zr1 a b (out.push a[na-1]) (na-1) nb:=by
 have z:=h.zY4 (k:=na-1) (by lia);have e:a.extract (na-1) na=#[a[na-1]]:=by
  apply Array.ext';rw[i1r,List.extract_eq_drop_take,show na-(na-1)=1 by lia,i1z (by simpa using c)];simp
 rw[e]at z;simpa using z
def zr1.zl8(h:zr1 a b out na nb)(c:nb-1<b.size)(h0:0<nb):zr1 a b (out.push b[nb-1]) na (nb-1):=(h.swap.zn3 c h0).swap
def zr1.done(h:zr1 a b out na nb):(a.extract 0 na++b.extract 0 nb++out.reverse).Perm (a++b):=by
 rw[i1k];simp only[h1v,i1r,List.extract_eq_drop_take,c1k,d1x,f1n];refine (g1z _ ((b1j _).trans h)).trans ?_;have e1:a.toList++b.toList=(a.toList.take na++a.toList.drop na)++(b.toList.take nb++b.toList.drop nb):=by rw[j1f,j1f]
 rw[e1];simp only[i1v];refine g1z _ ?_;rw[<-List.append_assoc,<- i1v];exact h1f _ i1b
def zr1.last(h:zr1 a b out na nb):(b.extract 0 nb++a.extract 0 na++out.reverse).Perm (a++b):=by
 have:=h.swap.done;rw[i1k]at this ⊢;refine this.trans ?_;simp only[h1v];exact i1b
structure Hi(a b:Array Z3)(st st':B0)(m:Nat)(r:Option (Array Z3))(out:Array Z3)(na nb:Nat):Prop where
 sm:Sm st st'
 ok:match r with |some x=>x.Perm (a++b)|none=>zr1 a b out na nb/\(0<na/\na<=a.size)/\(1<nb/\nb<=b.size)/\m+na+nb<=a.size+b.size
def Hi.on(s:Sm st st')(o:zr1 a b out na nb)(x:0<na/\na<=a.size)(y:1<nb/\nb<=b.size)(z:m+na+nb<=a.size+b.size):Hi a b st st' m none out na nb:=⟨s,o,x,y,z⟩
def Hi.fin{x:Array Z3}(s:Sm st st')(o:x.Perm (a++b)):Hi a b st st' m (some x) out na nb:=⟨s,o⟩
def Hi.el{P:Prop}(h:Hi a b st st' m none out na nb)(f:Sm st st'->zr1 a b out na nb->0<na->na<=a.size->1<nb->nb<=b.size->m+na+nb<=a.size+b.size->P):P:=let ⟨s,o,⟨x,c⟩,⟨y,d⟩,z⟩:=h;f s o x c y d z
end
def b0u{b:Array Z3}{Q:Array Z3->B0->Prop}(C:zn2 prog w A J κ S)(W:kindOf st=κ)(X:∀p∈a,S p)(Z:∀p∈b,S p)(ha:0<a.size)(hb:0<b.size)
 (h:∀r st',Sm st st'->r.Perm (a++b)->Q r st'):jw prog w A J (d0k a b) Q st:=by
 unfold d0k;walk_at "bare";have o0:zr1 a b #[a[a.size-1]] (a.size-1) b.size:=by
  have:zr1 a b #[] a.size b.size:=by unfold zr1;simp
  simpa using this.zn3 (by lia) ha
 refine y3 (s0w (y3 (w5 (by lia) (u7 (λe=>i3 (h _ _ .refl o0.done)) λn1=>u7 (λe=>i3 (h _ _ .refl o0.last)) λn2=>?_))));refine y3 (v0j (y3 (o6 (j5 (Q:=λc st'=>Hi a b st st' (a.size+b.size+1) c.1 c.2.2.2.1 c.2.1 c.2.2.1) (λn c st'=>c.1=none/\Hi a b st st' (a.size+b.size-n+1) c.1 c.2.2.2.1 c.2.1 c.2.2.1) ?_ (λc st' z=>z.2) ⟨rfl,Hi.on .refl o0 (by lia) (by lia) (by lia)⟩) λc st' z=>?_)))
 .rintro n x ⟨r,na,B,t,mg⟩ v _ _ hn ⟨hr,g⟩;dsimp only at hr g;subst hr;refine g.el λsm ho l d u f I=>?_
  refine y3 (o6 (j5 (Q:=λc st'=>Hi a b st st' (a.size+b.size-n+1) c.1 c.2.2.2.1 c.2.1 c.2.2.1) (λm c st'=>c.1=none/\Hi a b st st' (a.size+b.size-(n+1)+1+(a.size+b.size-m)) c.1 c.2.2.2.1 c.2.1 c.2.2.1) ?_ ?_ ⟨rfl,Hi.on sm ho ⟨l,d⟩ ⟨u,f⟩ (by lia)⟩) ?_)
  .rintro m x ⟨r,na,B,t,U,V⟩ v _ _ hm ⟨hr,g⟩;dsimp only at hr g;subst hr;refine g.el λsm ho l d u f I=>?_
   have O:na-1<a.size:=by lia
   have L:B-1<b.size:=by lia
   refine y3 (w5 L (y3 (w5 O (y3 (x1x C (sm.k.trans W) (Z _ (j1b _)) (X _ (j1b _)) λc=>?_)))));cases c
   .refine y3 (w5 L ?_);have o:=ho.zl8 L (by lia);refine u7 (λ_=>i3 (Hi.fin sm o.last)) λP=>?_
    dsimp only at P;exact u6 (λ_=>i3 (Hi.on sm o ⟨l,d⟩ (by walk_at "7") (by walk_at "7"))) λ_=>i3 ⟨rfl,Hi.on sm o ⟨l,d⟩ (by walk_at "7") (by walk_at "7")⟩
   .refine y3 (w5 O ?_);have o:=ho.zn3 O l;refine u7 (λ_=>i3 (Hi.fin sm o.done)) λP=>?_
    dsimp only at P;exact u6 (λ_=>i3 (Hi.on sm o (by walk_at "7") ⟨u,f⟩ (by walk_at "7"))) λ_=>i3 ⟨rfl,Hi.on sm o (by walk_at "7") ⟨u,f⟩ (by walk_at "7")⟩
  .rintro ⟨r,na,B,t,U,V⟩ v ⟨hr,g⟩;dsimp only at hr g ⊢;subst hr;exact g.el λsm ho l d u f I=>.on sm ho ⟨l,d⟩ ⟨u,f⟩ (by lia)
  .rintro ⟨r,na,B,t,U,V⟩ v g;dsimp only at g;cases r with
   |some r=>exact i3 (Hi.fin g.sm g.ok)
   |none=>
   refine g.el λsm ho l d u f I=>?_
   refine y3 (s0w (y3 (o6 (j5 (Q:=λc st'=>Hi a b st st' (a.size+b.size-n+1) c.1 c.2.2.2.1 c.2.1 c.2.2.1) (λm c st'=>c.1=none/\Hi a b st st' (a.size+b.size-n+1) c.1 c.2.2.2.1 c.2.1 c.2.2.1) ?_ (λc st' z=>z.2) ⟨rfl,Hi.on sm ho ⟨l,d⟩ ⟨u,f⟩ I⟩) ?_)))
   .rintro m x ⟨r,na,B,t,mg,U,V⟩ v _ _ hm ⟨hr,g⟩;dsimp only at hr g;subst hr;refine g.el λsm ho l d u f I=>?_
    have L:B-1<b.size:=by lia
    refine n0k ?_;generalize M:(λ(_:PUnit) (_:Nat)=>(_:StateT B0 Sem _))=F;refine q1q λab=>?_
    rw[<-M];clear M F;refine y3 (t0q (y3 (w5 L (y3 (z0k C (sm.k.trans W) (Z _ (j1b _)) X (by walk_at "7") (by walk_at "7") λk D=>?_)))))
    try dsimp only at D
    refine n0k ?_;generalize M:(λ(_:PUnit) (_:Nat) (_:Array Z3)=>(_:StateT B0 Sem _))=F;refine d0j (F:=F) (λi o=>zr1 a b o i B/\0<i/\i<=a.size/\i<=na) (λO o1 z=>?_) λH=>u6 (λ_=>u7 (λ_=>i3 (Hi.fin (sm.min _) (ho.zY4 D).done)) λP=>H _ _ ⟨ho.zY4 D,by (try dsimp only at P);lia,by lia,D⟩) λ_=>H _ _ ⟨ho,l,d,k1q _⟩
    rw[<-M];clear M F;let ⟨R,h4,ae,aa⟩:=z;refine y3 (w5 L (u7 (λ_=>i3 (Hi.fin (sm.min _) (R.zl8 L (by lia)).last)) λn5=>?_));have G:=R.zl8 L (by lia)
    try dsimp only at n5
    refine y3 (w5 (by walk_at "7") (y3 (z0k C (sm.k.trans W) (X _ (j1b _)) Z (by walk_at "7") (by walk_at "7") λk2 y=>?_)))
    try dsimp only at y
    refine n0k ?_;generalize M:(λ(_:PUnit) (_:Nat) (_:Array Z3)=>(_:StateT B0 Sem _))=F;refine d0j (F:=F) (λj o=>zr1 a b o O j/\(1<j/\j<=b.size)/\j<=B-1) (λj2 o2 z=>?_) λH=>u6 (λ_=>u7 (λ_=>i3 (Hi.fin (sm.min _) (G.zY3 y).last)) λn6=>u7 (λ_=>i3 (Hi.fin (sm.min _) (G.zY3 y).done)) λn7=>H _ _ ⟨G.zY3 y,by (try dsimp only at n6 n7);lia,y⟩) λ_=>H _ _ ⟨G,by (try dsimp only);lia,k1q _⟩
    rw[<-M];clear M F;let ⟨N,h5,h6⟩:=z;refine y3 (w5 (by walk_at "7") (u7 (λ_=>i3 (Hi.fin (sm.min _) (N.zn3 (by walk_at "7") h4).done)) λn7=>?_))
    try dsimp only at n7
    exact u6 (λ_=>i3 (Hi.on (sm.min _) (N.zn3 (by walk_at "7") h4) (by walk_at "7") h5 (by walk_at "7"))) λ_=>i3 ⟨rfl,Hi.on (sm.min _) (N.zn3 (by walk_at "7") h4) (by walk_at "7") h5 (by walk_at "7")⟩
   .rintro ⟨r,na,B,t,mg,U,V⟩ v g;dsimp only at g;cases r with
    |some r=>exact i3 (Hi.fin g.sm g.ok)
    |none=>
    refine g.el λsm ho l d u f I=>?_
    exact y3 (t0q (i3 ⟨rfl,Hi.on (sm.min _) ho ⟨l,d⟩ ⟨u,f⟩ I⟩))
 .let ⟨r,na,B,t,mg⟩:=c;dsimp only at z;cases r with
  |some r=>exact i3 (h _ _ z.sm z.ok)
  |none=>exact z.el λsm ho l d u f I=>by lia
structure Pm(st st':B0):Prop where
 k:kindOf st'=kindOf st
 a:(arrOf st').Perm (arrOf st)
 p:O1 st'=O1 st
 f:O3 st'=O3 st
theorem Pm.refl:Pm st st:=⟨rfl,.refl _,rfl,rfl⟩
def Pm.mem(h:Pm st st')(b:∀p∈arrOf st,S p):∀p∈arrOf st',S p:=λp m=>b p (h.a.mem_iff.mp m)
theorem Pm.size(h:Pm st st'):(arrOf st').size=(arrOf st).size:=h.a.size_eq
def p0p{Q:Option Bool->B0->Prop}(C:zn2 prog w A J κ S)(P:Pm st st')(e:kindOf st=κ)(d:∀p∈arrOf st,S p)(f:i<(arrOf st).size)(g:j<(arrOf st).size)(h:∀b,Q (some b) st'):jw prog w A J (ltAt' i j) Q st':=by
 rw[ltAt'_eq];have a:i<(arrOf st').size:=by rw[P.size];exact f
 have c:j<(arrOf st').size:=by rw[P.size];exact g
 exact y3 (v0j (y3 (w5 a (y3 (w5 c (x1x C (P.k.trans e) (P.mem d _ (j1b _)) (P.mem d _ (j1b _)) h))))))
def w0f(P:Pm st st')(h:∀b,Pm st b->Q () b):jw prog w A J (reverseSlice' i j) Q st':=by
 rw[reverseSlice'_eq];exact q9 (h _ ⟨P.k,(mirror_perm _ _ _ _).trans P.a,P.p,P.f⟩)
def m1o(P:Pm st st')(h:∀b,Pm st b->Q () b):jw prog w A J (moveDown' i j) Q st':=by
 rw[moveDown'_eq];exact q9 (h _ ⟨P.k,(bubble_perm _ _ _).trans P.a,P.p,P.f⟩)
def x1w{ok:Nat}{Q:Bool->B0->Prop}(C:zn2 prog w A J κ S)(i:kindOf st=κ)(j:∀p∈arrOf st,S p)(hn:lo+n<=(arrOf st).size)(h:∀st',Pm st st'->Q true st'):jw prog w A J (binarySort' lo n ok) Q st:=by
 unfold binarySort';walk_at "bare";refine y3 (o6 (j5 (Q:=λc st'=>c.1=none/\Pm st st') (λ_ c st'=>c.1=none/\Pm st st') (λm k c o _ hx _ ⟨d,P⟩=>?_) (λ_ _ z=>z) ⟨rfl,.refl⟩) λc st' ⟨d,P⟩=>?_)
 .refine y3 (o6 (j5 (Q:=λc st'=>c.1=none/\Pm st st') (λ_ c st'=>c.1=none/\c.2.1<=k/\c.2.2<=k/\Pm st st') ?_ (λ_ _ z=>⟨z.1,z.2.2.2⟩) ⟨rfl,j1e _,k1q _,P⟩) ?_)
  .rintro m x ⟨r,l,u⟩ e _ _ _ ⟨hr,f,g,a⟩;dsimp only at hr f g;subst hr;refine u6 (λ_=>i3 ⟨rfl,a⟩) λt=>?_
   dsimp only at t;refine y3 (p0p C a i j (by lia) (by dsimp only;lia) λb=>?_);cases b
   .exact i3 ⟨rfl,by dsimp only;lia,g,a⟩
   .exact i3 ⟨rfl,f,by dsimp only;lia,a⟩
  .rintro ⟨r,l,u⟩ e ⟨hr,a⟩;dsimp only at hr;subst hr;exact y3 (m1o a λv P3=>i3 ⟨rfl,P3⟩)
 .let ⟨r,u⟩:=c;dsimp only at d;subst d;exact i3 (h _ P)
def s1w{Q:Option Nat->B0->Prop}(C:zn2 prog w A J κ S)(t:kindOf st=κ)(u:∀p∈arrOf st,S p)(hn:lo+n<=(arrOf st).size)(h0:0<n)(h:∀m st',0<m->m<=n->Pm st st'->Q (some m) st'):
 jw prog w A J (countRun' lo n) Q st:=by
 have rise:∀(a:Nat) (f:B0) (B:Option (Option Nat)×Nat->B0->Prop),0<a->a<=n->Pm st f->(∀m st',0<m->m<=n->Pm st st'->B (none,m) st')->
  jw prog w A J (forIn [a:n] ((none,a):Option (Option Nat)×Nat) λ_ s=>do
   let r<-ltAt' (lo+s.2) (lo+s.2-1)
   match r with
   |some d=>if d=true then pure (ForInStep.done (none,s.2))else pure (ForInStep.yield (none,s.2+1))
   |_=>pure (ForInStep.done (some none,s.2))) B f:=by
  intro a f B ha U P I;refine o6 (j5 (Q:=λc st'=>∃m,c=(none,m)/\0<m/\m<=n/\Pm st st') (λk c st'=>∃m,c=(none,m)/\0<m/\m+k<=n/\Pm st st') ?_ ?_ ⟨a,rfl,ha,by lia,P⟩) ?_
  .rintro k x _ g _ _ _ ⟨m,rfl,i,j,e⟩;refine y3 (p0p C e t u (by walk_at "7") (by walk_at "7") λb=>?_);cases b
   .exact i3 ⟨m+1,rfl,by lia,by lia,e⟩
   .exact i3 ⟨m,rfl,i,by lia,e⟩
  .rintro _ g ⟨m,rfl,i,j,e⟩;exact ⟨m,rfl,i,by lia,e⟩
  .rintro _ g ⟨m,rfl,i,j,e⟩;exact I m g i j e
 unfold countRun';walk_at "bare";refine y3 (rise 1 st _ (by lia) h0 .refl λm f i j l=>?_);refine u7 (λ_=>i3 (h _ _ i j l)) λn1=>?_
 dsimp only at n1;refine u6 (λ_=>y3 (p0p C l t u (by walk_at "7") (by walk_at "7") λb=>u6 (λ_=>i3 (h _ _ i j l)) λ_=>y3 (w0f l λg e=>?_))) λ_=>?_
 rotate_left;have e:=l
 all_goals
  refine y3 (s0w (y3 (o6 (j5 (Q:=λc st'=>c.1=none/\0<c.2.1/\c.2.1<=n/\Pm st st') (λk c st'=>c.1=none/\0<c.2.1/\c.2.1+k<=n/\Pm st st') ?_ (λc st' z=>⟨z.1,z.2.1,by lia,z.2.2.2⟩) ⟨rfl,by (try dsimp only);lia,by (try dsimp only);lia,e⟩) ?_)))
  .rintro k x ⟨r,m2,q⟩ D _ _ _ ⟨hr,o,v,P3⟩;dsimp only at hr o v;subst hr;refine y3 (p0p C P3 t u (by walk_at "7") (by walk_at "7") λb=>?_);cases b
   .refine y3 (p0p C P3 t u (by walk_at "7") (by walk_at "7") λb=>?_);cases b
    .exact i3 ⟨rfl,by (try dsimp only);lia,by (try dsimp only);lia,P3⟩
    .exact i3 ⟨rfl,o,by (try dsimp only);lia,P3⟩
   .refine u6 (λ_=>u6 (λ_=>y3 (w0f P3 λF y=>i3 ?_)) λ_=>i3 ?_) λz=>absurd rfl z
    .exact ⟨rfl,by (try dsimp only);lia,by (try dsimp only);lia,y⟩
    .exact ⟨rfl,by (try dsimp only);lia,by (try dsimp only);lia,P3⟩
  .rintro ⟨r,m2,q⟩ D ⟨hr,o,v,P3⟩;dsimp only at hr o v;subst hr;refine u6 (λ_=>y3 (w0f P3 λF y=>?_)) λ_=>?_
   rotate_left;have y:=P3
   all_goals
    exact y3 (w0f y λG L=>y3 (rise m2 G _ o v L λm3 M N O R=>i3 (h _ _ N O R)))
theorem j0d{t:Nat}:∀(m:List Z3) (n:Nat) (a:Array Z3),t+n+m.length<=a.size->((m.zipIdx n).foldl (λa x=>match x with |(p,j)=>a.setIfInBounds (t+j) p) a).toList=a.toList.take (t+n)++(m++a.toList.drop (t+n+m.length))
 | [],n,a,_=>by simp
 |p::m,n,a,h=>by
  rw[a1x,a1m];rw[k1k]at h;dsimp only;rw[j0d m (n+1) (a.setIfInBounds (t+n) p) (by rw[Array.size_setIfInBounds];lia),g1a,List.set_eq_take_append_cons_drop,H0 (by simp;lia)];have l1:(a.toList.take (t+n)++[p]).length=t+(n+1):=by simp;lia
  rw[show a.toList.take (t+n)++p::a.toList.drop (t+n+1)=(a.toList.take (t+n)++[p])++a.toList.drop (t+n+1)by simp,List.take_left' l1,List.drop_append,List.drop_of_length_le (by rw[l1];lia),l1,d1w,k1k,i1x];rw[show t+n+1+(t+(n+1)+m.length-(t+(n+1)))=t+n+(m.length+1)by lia];simp
def b0t{sa na n b pw2:Nat}{Q:Bool->B0->Prop}(C:zn2 prog w A J κ S)(g:kindOf st=κ)(l:O3 st=none)(c:∀p∈arrOf st,S p)(e1:(O1 st)[i]?=some (sa,na,n))(e2:(O1 st)[i+1]?=some (sa+na,b,pw2))
 (h1:0<na) (D:0<b) (F:sa+na+b<=(arrOf st).size)
 (h:∀st',kindOf st'=kindOf st->O3 st'=none->(arrOf st').Perm (arrOf st)->O1 st'=((O1 st).setIfInBounds i (sa,na+b,n)).eraseIdxIfInBounds (i+1)->Q true st'):jw prog w A J (mergeAt' i) Q st:=by
 unfold mergeAt';walk_at "bare";refine y3 (v0j ?_);rw[e1,e2];refine y3 (zH1 (y3 (w5 (by show sa+na<(arrOf st).size;lia) (y3 (z0k C g (c _ (j1b _)) c (by show sa+na<=(arrOf st).size;lia) h1 λk t=>?_)))));refine u7 (λ_=>i3 (h _ rfl l (.refl _) rfl)) λn1=>?_
 refine y3 (w5 (by show sa+k+(na-k)-1<(arrOf st).size;lia) (y3 (z0k C g (c _ (j1b _)) c (by show sa+na+b<=(arrOf st).size;lia) (by lia) λd y=>?_)));refine u7 (λ_=>i3 (h _ rfl l (.refl _) rfl)) λn2=>?_
 have hx:∀(u v:Nat),∀p∈(arrOf st).extract u v,S p:=λu v p m=>by
  have z:=g1x.mpr m;rw[i1r,List.extract_eq_drop_take]at z;exact c p (g1x.mp (List.mem_of_mem_drop (c1l z)))
 have fin:∀(r:Array Z3) (st':B0),Sm (SortSt.mk' (kindOf st) (arrOf st) (((O1 st).setIfInBounds i (sa,na+b,n)).eraseIdxIfInBounds (i+1)) (gallopOf st) (O3 st)) st'->r.Perm ((arrOf st).extract (sa+k) (sa+na)++(arrOf st).extract (sa+na) (sa+na+d))->
  Q true (SortSt.mk' (kindOf st') ((r.toList.zipIdx).foldl (λa x=>match x with |(p,j)=>a.setIfInBounds (sa+k+j) p) (arrOf st')) (O1 st') (gallopOf st') (O3 st')):=by
  intro r st' sm pr;refine h _ sm.k (sm.f.trans l) ?_ sm.p;have G:r.size=na-k+d:=by rw[pr.size_eq];simp;lia
  have B:arrOf st'=arrOf st:=sm.a;show (List.foldl _ (arrOf st') _).Perm _;rw[B,i1k,j0d _ 0 _ (by simp;lia)];have e:(arrOf st).toList=(arrOf st).toList.take (sa+k)++(((arrOf st).extract (sa+k) (sa+na)++(arrOf st).extract (sa+na) (sa+na+d)).toList++(arrOf st).toList.drop (sa+k+0+r.toList.length)):=by
   rw[h1v,i1r,i1r,List.extract_eq_drop_take,List.extract_eq_drop_take];have c1:=j1f (sa+k) (arrOf st).toList;have c2:=j1f (na-k) ((arrOf st).toList.drop (sa+k));have o:=j1f d ((arrOf st).toList.drop (sa+na));rw[d1w,show sa+k+(na-k)=sa+na by lia]at c2;rw[d1w]at o;rw[show sa+na-(sa+k)=na-k by lia,f1j,show sa+k+0+r.toList.length=sa+na+d by simp;lia,i1v,o,c2,c1]
  refine List.Perm.trans (g1z _ (h1f _ (i1k.mp pr))) ?_;rw[b1c]at e ⊢;rw[<-e]
 refine u6 (λ_=>y3 (b0v C g (hx _ _) (hx _ _) (by rw[f1i];show 0<min _ (arrOf st).size-_;lia) (by rw[f1i];show 0<min _ (arrOf st).size-_;lia) λr st' sm pr=>?_)) λ_=>y3 (b0u C g (hx _ _) (hx _ _) (by rw[f1i];show 0<min _ (arrOf st).size-_;lia) (by rw[f1i];show 0<min _ (arrOf st).size-_;lia) λr st' sm pr=>?_)
 all_goals
  refine y3 (q9 (y3 (v0j (i3 ?_))));have z:=fin r st' sm pr;have f:O3 st'=none:=sm.f.trans l;show Q (Option.isNone (O3 st')) _;rw[f];exact z
def zw6:Nat->List (Nat×Nat×Nat)->Nat->Prop
 |a,[],b=>a=b
 |a,x::r,b=>x.1=a/\0<x.2.1/\zw6 (a+x.2.1) r b
theorem zw6.le:∀{l:List (Nat×Nat×Nat)} {a b:Nat},zw6 a l b->a<=b
 | [],a,b,h=>e1c h
 |x::r,a,b,h=>by have:=zw6.le h.2.2;lia
theorem zw6.push{n p:Nat}(hn:0<n):∀{l:List (Nat×Nat×Nat)} {a b:Nat},zw6 a l b->zw6 a (l++[(b,n,p)]) (b+n)
 | [],a,b,h=>by cases h;exact ⟨rfl,hn,rfl⟩
 |x::r,a,b,h=>⟨h.1,h.2.1,zw6.push hn h.2.2⟩
theorem zw6.pow{f:Nat×Nat×Nat->Nat×Nat×Nat}(c:∀x,(f x).1=x.1/\(f x).2.1=x.2.1):∀{l:List (Nat×Nat×Nat)} {a b:Nat} (i:Nat),zw6 a l b->zw6 a (l.modify i f) b
 | [],a,b,i,h=>by cases i<;>exact h
 |x::r,a,b,0,h=>by
  rw[List.modify_zero_cons];exact ⟨(c x).1.trans h.1,by rw[(c x).2];exact h.2.1,by rw[(c x).2];exact h.2.2⟩
 |x::r,a,b,i+1,h=>by
  rw[List.modify_succ_cons];exact ⟨h.1,h.2.1,zw6.pow c i h.2.2⟩
theorem zw6.merge{x y:Nat×Nat×Nat}:∀{l:List (Nat×Nat×Nat)} {a b:Nat} (i:Nat),zw6 a l b->l[i]?=some x->l[i+1]?=some y->
 y.1=x.1+x.2.1/\0<x.2.1/\0<y.2.1/\x.1+x.2.1+y.2.1<=b/\zw6 a ((l.set i (x.1,x.2.1+y.2.1,x.2.2)).eraseIdx (i+1)) b
 | [],a,b,i,h,e,_=>by cases e
 | [z],a,b,i,h,e,c=>by cases i<;>simp at c
 |z::u::r,a,b,0,h,e,c=>by
  cases e;cases c;let ⟨f,g,p,j,d⟩:=h;have:=d.le;refine ⟨by lia,g,j,by lia,?_⟩;show zw6 a ((x.1,x.2.1+y.2.1,x.2.2)::r) b;exact ⟨f,by show 0<x.2.1+y.2.1;lia,by show zw6 (a+(x.2.1+y.2.1)) r b;rw[<-Nat.add_assoc];exact d⟩
 |z::u::r,a,b,i+1,h,e,c=>by
  let ⟨k,m,q3,n,o⟩:=zw6.merge i h.2.2 (by simpa using e) (by simpa using c);refine ⟨k,m,q3,n,?_⟩;show zw6 a (z::(((u::r).set i (x.1,x.2.1+y.2.1,x.2.2)).eraseIdx (i+1))) b;exact ⟨h.1,h.2.1,o⟩
structure RI(st:B0)(lo:Nat)(st':B0):Prop where
 k:kindOf st'=kindOf st
 f:O3 st'=none
 a:(arrOf st').Perm (arrOf st)
 c:zw6 0 (O1 st').toList lo
 l:lo<=(arrOf st).size
def n0j{Q:Bool->B0->Prop}(C:zn2 prog w A J κ S)(g:kindOf st=κ)(j:∀p∈arrOf st,S p)(R:RI st lo st')(n:i+1<(O1 st').size)(h:∀b,RI st lo b->Q true b):jw prog w A J (mergeAt' i) Q st':=by
 obtain ⟨⟨sa,na,t⟩,e1⟩:∃x,(O1 st')[i]?=some x:=⟨_,j1h (by lia)⟩;obtain ⟨⟨u,v,pw2⟩,e2⟩:∃x,(O1 st')[i+1]?=some x:=⟨_,j1h n⟩;let ⟨d,e,q3,o,r⟩:=R.c.merge i (by rw[i1c];exact e1) (by rw[i1c];exact e2);have hz:=R.a.size_eq;have y:=R.l;dsimp only at d e q3 o;rw[d]at e2;refine b0t C (R.k.trans g) R.f (λp m=>j p (R.a.mem_iff.mp m)) e1 e2 e q3 (by lia) λb k f a p=>h b ⟨k.trans R.k,f,a.trans R.a,?_,R.l⟩
 rw[p,Array.toList_eraseIdxIfInBounds,g1a];exact r
theorem RI.push(R:RI st lo st')(hn:0<n)(b:lo+n<=(arrOf st).size):RI st (lo+n) (setPending st' ((O1 st').push (lo,n,0))):=
 ⟨R.k,R.f,R.a,by show zw6 0 ((O1 st').push (lo,n,0)).toList _;rw[b1i];exact R.c.push hn,b⟩
def zh0{Q:Unit->B0->Prop}(C:zn2 prog w A J κ S)(i:kindOf st=κ)(j:∀p∈arrOf st,S p)(I:O1 st=#[])(L:O3 st=none)
 (h:∀st',(arrOf st').Perm (arrOf st)->O3 st'=none->Q () st'):jw prog w A J sortRuns' Q st:=by
 rw[sortRuns'_eq];refine y3 (v0j (y3 (o6 (j5 (Q:=λc st'=>c.1=none/\RI st c.2 st') (λ_ c st'=>c.1=none/\RI st c.2 st') ?_ (λ_ _ z=>z) ⟨rfl,⟨rfl,L,.refl _,by rw[I];rfl,j1e _⟩⟩) ?_)))
 .rintro n x ⟨r,lo⟩ b _ _ _ ⟨hr,R⟩;dsimp only at hr R;subst hr;refine u6 (λ_=>i3 ⟨rfl,R⟩) λn1=>?_
  dsimp only at n1;have hz:=R.a.size_eq;have v:∀p∈arrOf b,S p:=λp m=>j p (R.a.mem_iff.mp m)
  refine y3 (s1w C (R.k.trans i) v (by show lo+((arrOf st).size-lo)<=_;lia) (by show 0<(arrOf st).size-lo;lia) λm d O M P=>?_);dsimp only at M;have R2:RI st lo d:=⟨P.k.trans R.k,P.f.trans R.f,P.a.trans R.a,by rw[P.p];exact R.c,R.l⟩;have N:=R2.a.size_eq;have y:∀p∈arrOf d,S p:=λp m=>j p (R2.a.mem_iff.mp m)
  refine u6 (λhm=>y3 (s0w (y3 (x1w C (R2.k.trans i) y (by show lo+min ((arrOf st).size-lo) _<=_;lia) λB P3=>u6 (λz=>absurd z (by decide)) λ_=>?_)))) λhm=>?_
  have D:RI st lo B:=⟨P3.k.trans R2.k,P3.f.trans R2.f,P3.a.trans R2.a,by rw[P3.p];exact R2.c,R2.l⟩;have e:0<min ((arrOf st).size-lo) (minRun' (arrOf st).size (arrOf st).size 0)/\lo+min ((arrOf st).size-lo) (minRun' (arrOf st).size (arrOf st).size 0)<=(arrOf st).size:=by
   have hm:m<minRun' (arrOf st).size (arrOf st).size 0:=hm;lia
  rotate_left;have D:=R2;have e:0<m/\lo+m<=(arrOf st).size:=by lia
  all_goals
   refine y3 (v0j ?_);dsimp only;generalize Array.back? _=o;cases o with
   |none=>exact y3 (q9 (i3 ⟨rfl,D.push e.1 e.2⟩))
   |some x=>
   refine y3 (o6 (j5 (Q:=λc st'=>c.1=none/\RI st lo st') (λ_ c st'=>c.1=none/\RI st lo st') ?_ (λ_ _ z=>z) ⟨rfl,D⟩) ?_)
   .rintro n x ⟨r,u⟩ b _ _ _ ⟨hr,R⟩;dsimp only at hr;subst hr;refine y3 (v0j ?_);by_cases t:(O1 b).size>1
    .rw[H0 t,j1h (by lia)];exact u6 (λ_=>i3 ⟨rfl,R⟩) λ_=>y3 (n0j C i j R (by lia) λF G=>u6 (λz=>absurd z (by decide)) λ_=>i3 ⟨rfl,G⟩)
    .rw[O0 t];exact i3 ⟨rfl,R⟩
   .rintro ⟨r,u⟩ b ⟨hr,R⟩;dsimp only at hr;subst hr;refine y3 (q9 (y3 (q9 (i3 ⟨rfl,RI.push (st':=setPending b ((O1 b).modify ((O1 b).size-1) _)) ⟨R.k,R.f,R.a,?_,R.l⟩ e.1 e.2⟩))));show zw6 0 ((O1 b).modify _ _).toList lo;rw[Array.toList_modify];refine zw6.pow ?_ _ R.c;exact λx=>⟨rfl,rfl⟩
 .rintro ⟨r,lo⟩ b ⟨hr,R⟩;dsimp only at hr R;subst hr;refine y3 (o6 (j5 (Q:=λc st'=>RI st lo st') (λ_ c st'=>RI st lo st') ?_ (λ_ _ z=>z) R) ?_)
  .rintro n x ⟨r,u⟩ d _ _ _ R2;refine y3 (v0j (u6 (λ_=>i3 R2) λt=>y3 (n0j C i j R2 ?_ λF G=>u6 (λz=>absurd z (by decide)) λ_=>i3 G)))
   (try dsimp only at t)
   have key:∀(o:Option Nat) (g:Nat->Bool),(if o.any g=true then (O1 d).size-2-1 else (O1 d).size-2)+1<(O1 d).size:=λo g=>by split<;>lia
   exact key _ _
  .rintro ⟨r,u⟩ d R2;cases r
   .exact i3 (h _ R2.a R2.f)
   .exact i3 (h _ R2.a R2.f)
end
end SRT
namespace STB
open PyProof.Rows
variable{i j n slot m:Nat}{t:SetTable}{b a:X0}{Q:Bool->Y0->Prop}{h h':J0}
def gN:Nat->Nat->Nat
 | 0,x=>x
 |n+1,x=>gN n (5*x+1)
def q1p(a b x:Nat):gN (a+b) x=gN b (gN a x):=by
 induction a generalizing x with
 |zero=>rw[i1e];rfl
 |succ a c=>rw[b1b];exact c _
theorem q1o(m:Nat):∀(n x y:Nat),x%m=y%m->gN n x%m=gN n y%m
 | 0,x,y,h=>h
 |n+1,x,y,h=>q1o m n _ _ (by rw[Nat.add_mod,Nat.mul_mod,h,<- Nat.mul_mod,<- Nat.add_mod])
theorem q1n:∀k:Nat,∃b c,b=2^k*(2*c+1)/\∀x,gN (2^k) x=(1+4*b)*x+b
 | 0=>⟨1,0,rfl,λx=>by show gN 0 (5*x+1)=_;show 5*x+1=_;lia⟩
 |k+1=>by
  let ⟨b,c,e,h⟩:=q1n k;refine ⟨2*b*(1+2*b),c+b+2*c*b,?_,λx=>?_⟩
  .rw[d1z];grind
  .rw[d1z,Nat.mul_two,q1p,h,h];grind
theorem q1m:∀(k x y:Nat),∃n,n<2^k/\gN n x%2^k=y%2^k
 | 0,x,y=>⟨0,by decide,by rw[Nat.mod_one,Nat.mod_one]⟩
 |k+1,x,y=>by
  let ⟨n,hn,e⟩:=q1m k x y;let ⟨b,c,j,h⟩:=q1n k;have i:2^(k+1)=2*2^k:=by rw[d1z,e1w]
  have pos:0<2^k:=Nat.pow_pos (by decide);by_cases q:gN n x%2^(k+1)=y%2^(k+1)
  .grind
  .refine ⟨n+2^k,by lia,?_⟩;rw[q1p,h];generalize hz:gN n x=z at*
   have e1:(1+4*b)*z+b=z+2^k*(2*((2*c+1)*(2*z)+c)+1):=by
    grind
   rw[e1,Nat.mul_add,Nat.mul_one,<- Nat.mul_assoc,e1w (2^k) 2,<- i];rw[<-Nat.add_assoc,Nat.add_right_comm,Nat.add_mul_mod_self_left];rw[i]at q ⊢;have f:=a1j (x:=z) (a:=2^k) (b:=2);have d:=a1j (x:=y) (a:=2^k) (b:=2);have g:=a1j (x:=z+2^k) (a:=2^k) (b:=2);rw[e1w 2 (2^k)]at q ⊢;rw[f,d]at q;rw[g,d,Nat.add_mod_right,e,Nat.add_div_right _ pos];rw[e]at q;have l:∀a:Nat,a%2=0\/a%2=1:=λa=>by lia
   grind
def lp(mask:Nat):Nat->Nat->Nat->Nat×Nat
 | 0,i,q=>(i,q)
 |n+1,i,q=>lp mask n (SetTable.leap mask i q).1 (SetTable.leap mask i q).2
theorem q1l(mask a:Nat):∀b i q,lp mask (b+a) i q=lp mask a (lp mask b i q).1 (lp mask b i q).2
 | 0,i,q=>by rw[i1e];rfl
 |b+1,i,q=>by rw[b1b];exact q1l mask a b _ _
theorem lp_q(mask:Nat):∀n i q,(lp mask n i q).2=q/32^n
 | 0,i,q=>by show q=_;rw[Nat.div_one]
 |n+1,i,q=>by
  show (lp mask n _ (q/32)).2=_;rw[lp_q mask n,Nat.div_div_eq_div_mul,d1z,e1w]
theorem lp_i{mask:Nat}:∀n i,(lp mask n i 0).1%(mask+1)=gN n i%(mask+1)
 | 0,i=>rfl
 |n+1,i=>by
  show (lp mask n ((i*5+1+0/32)%(mask+1)) (0/32)).1%(mask+1)=gN n (5*i+1)%(mask+1);rw[lp_i n];exact q1o _ n _ _ (by rw[Nat.mod_mod,e1w])
theorem m1n{mask:Nat}:∀n i q,(lp mask (n+1) i q).1<=mask
 | 0,i,q=>Nat.le_of_lt_succ (Nat.mod_lt _ (Nat.succ_pos _))
 |n+1,i,q=>m1n n _ _
def q1k{mask k:Nat}(hm:mask+1=2^k){e q:Nat}(b:e<=mask)(c:q<2^64):∃n,n<=mask+13/\(lp mask (n+1) i q).1=e:=by
 let ⟨n,hn,h⟩:=q1m k (lp mask 13 i q).1 e;refine ⟨12+n,by lia,?_⟩;rw[show 12+n+1=13+n by lia,q1l,lp_q,Nat.div_eq_of_lt (show q<32^13 from k1f c (by decide))];have a:=lp_i (mask:=mask) n (lp mask 13 i q).1;rw[hm,h,<- hm,a1s (d1q b)]at a;rw[a1s]at a
 .exact a
 .cases n with
  |zero=>exact d1q (m1n 12 i q)
  |succ n=>exact d1q (m1n n _ _)
def adv(t:SetTable):Nat->SetTable.Probe->SetTable.Probe
 | 0,p=>p
 |n+1,p=>adv t n (t.advance p)
theorem x1v(t:SetTable)(a:Nat):∀b p,adv t (b+a) p=adv t a (adv t b p)
 | 0,p=>by rw[i1e];rfl
 |b+1,p=>by rw[b1b];exact x1v t a b _
def j0c(mask i:Nat):SetTable.runEnd mask i-i<=9:=by unfold SetTable.runEnd;split<;>lia
theorem m0j(t:SetTable):∀(m:Nat) (p:SetTable.Probe),p.more=m->m<=9->∃d,d<=m+1/\(adv t d p).j=(SetTable.leap t.mask p.i p.perturb).1/\(adv t d p).i=(SetTable.leap t.mask p.i p.perturb).1/\(adv t d p).perturb=(SetTable.leap t.mask p.i p.perturb).2/\(adv t d p).more<=9
 | 0,p,e,_=>by
  refine ⟨1,by lia,?_⟩;show (t.advance p).j=_/\(t.advance p).i=_/\(t.advance p).perturb=_/\(t.advance p).more<=9;unfold SetTable.advance;rw[O0 (by lia)];exact ⟨rfl,rfl,rfl,j0c _ _⟩
 |m+1,p,e,h=>by
  have a:t.advance p={p with j:=p.j+1,more:=p.more-1}:=by unfold SetTable.advance;rw[H0 (by lia)]
  let ⟨d,hd,r⟩:=m0j t m (t.advance p) (by rw[a];show p.more-1=m;lia) (by lia);refine ⟨d+1,by lia,?_⟩;rw[show adv t (d+1) p=adv t d (t.advance p)from rfl];rw[a]at r ⊢;exact r
theorem j0b(t:SetTable):∀(n:Nat) (p:SetTable.Probe),p.more<=9->∃d,d<=10*(n+1)/\(adv t d p).j=(lp t.mask (n+1) p.i p.perturb).1/\(adv t d p).i=(lp t.mask (n+1) p.i p.perturb).1/\(adv t d p).perturb=(lp t.mask (n+1) p.i p.perturb).2/\(adv t d p).more<=9
 | 0,p,h=>by
  let ⟨d,hd,r⟩:=m0j t p.more p rfl h;exact ⟨d,by lia,r⟩
 |n+1,p,h=>by
  let ⟨d,hd,g,a,b,c⟩:=m0j t p.more p rfl h;let ⟨e,f,q⟩:=j0b t n (adv t d p) c;refine ⟨d+e,by lia,?_⟩;rw[x1v];rw[a,b]at q;exact q
def Emp(t:SetTable)(p:SetTable.Probe)(d:Nat):Prop:=t.slot (adv t d p).j=.empty
def zH2{k:Nat}(hm:t.mask+1=2^k){e:Nat}(a:e<=t.mask)(hs:t.slot e=.empty){p:SetTable.Probe}(h1:p.more<=9)(b:p.perturb<2^64):∃d,d<=10*(t.mask+14)/\Emp t p d:=by
 let ⟨n,hn,e1⟩:=q1k hm a b;let ⟨d,hd,r,_⟩:=j0b t n p h1;exact ⟨d,by lia,by unfold Emp;rw[r,e1,hs]⟩
inductive Found(t:SetTable)(p:SetTable.Probe)(d:Nat):Option SetTable.Met->Prop
 |empty (j:Nat) (hs:t.slot j=.empty):Found t p d (some (.empty j p.dummy))
 |zC8 (j i:Nat) (next:SetTable.Probe) (d':Nat) (hd:d'<d) (hn:Emp t next d') (hp:t.place[i]?=some j) (hj:t.slot j=.live i) (hdm:next.dummy=p.dummy):Found t p d (some (.candidate j i next))
def j0a(h:t.slot j=.live i):t.place[i]?=some j:=by
 grind [SetTable.slot]
def n0i(hd:t.dummies=#[]):t.slot j≠.dummy:=by
 unfold SetTable.slot;dsimp only;split
 .grind
 .rw[O0]
  .grind
  .rw[hd];unfold SetTable.has;simp
def x1u(t:SetTable)(p:SetTable.Probe):(t.advance p).dummy=p.dummy:=by unfold SetTable.advance;split<;>rfl
theorem d0i{t:SetTable}(hd:t.dummies=#[])(hashAt:Nat->Int)(h:Int):∀(d a:Nat) (p:SetTable.Probe),Emp t p d->d<a->Found t p d (SetTable.probe.go t hashAt h a p)
 |d,0,p,_,g=>absurd g (g1d _)
 |d,a+1,p,c,g=>by
  unfold SetTable.probe.go;cases e:t.slot p.j with
  |empty=>exact .empty p.j e
  |dummy=>exact absurd e (n0i hd)
  |live i=>
   dsimp only;cases d with
   |zero=>unfold Emp adv at c;rw[e]at c;cases c
   |succ d=>
    have b:=c;split
    .exact .zC8 p.j i _ d (h1r _) b (j0a e) e (x1u t p)
    .have:=d0i hd hashAt h d a (t.advance p) b (by lia);generalize SetTable.probe.go t hashAt h a (t.advance p)=r at this;cases this with
     |empty j hs=>rw[x1u];exact .empty j hs
     |zC8 j i next k hd hn l m f=>exact .zC8 j i next k (by lia) hn l m (by rw[f,x1u])
theorem pig:∀(n:Nat) (l:List Nat),(∀j,j<n->j∈l)->n<=l.length
 | 0,l,_=>j1e _
 |n+1,l,h=>by
  have m:=h n (h1r n);have:=pig n (l.erase n) λj a=>(List.mem_erase_of_ne (by lia)).mpr (h j (by lia))
  grind
def m1m(l:List Nat)(n:Nat)(h:l.length<n):∃j,j<n/\j∉l:=
 d1v λc=>absurd (pig n l λj a=>d1v λq=>c ⟨j,a,q⟩) (by lia)
def x1t(hd:t.dummies=#[])(a:t.place.size<=t.mask):∃e,e<=t.mask/\t.slot e=.empty:=by
 let ⟨e,b,hn⟩:=m1m t.place.toList (t.mask+1) (by simp;lia);refine ⟨e,by lia,?_⟩;cases h:t.slot e with
 |empty=>rfl
 |dummy=>exact absurd h (n0i hd)
 |live i=>exact absurd (g1x.mpr (Array.mem_of_getElem? (j0a h))) hn
theorem q1j:∀(f k n:Nat),n<2^(k+f)->∃m,SetTable.sizeAbove.go n f (2^k)=2^m/\k<=m/\n<2^m/\(2^m=2^k\/2^m<=2*n)
 | 0,k,n,h=>⟨k,rfl,k1q _,h,.inl rfl⟩
 |f+1,k,n,h=>by
  unfold SetTable.sizeAbove.go;split
  .rename_i a;let ⟨m,e,b,c,d⟩:=q1j f (k+1) n (by grind)
   grind
  .grind
def r0f(h:n<2^60):∃m,SetTable.sizeAbove n=2^m/\3<=m/\n<2^m/\(2^m=8\/2^m<=2*n):=by
 let ⟨m,a,b,c,d⟩:=q1j 64 3 n (k1f h (i1a (by decide) (by decide)));exact ⟨m,a,b,c,d⟩
def x1s(h:Int):SetTable.bits h<2^64:=by
 unfold SetTable.bits
 (simp_all;lia)
theorem i0z{mask k:Nat}(hm:mask+1=2^k)(owner:Array (Option Nat)){e:Nat}(d:e<=mask)(ho:owner.getD e (some 0)=none):
 ∀(n a i q:Nat),(lp mask n i q).1=e->n<a->∃j,SetTable.layClean.free mask owner a i q=some j/\owner.getD j (some 0)=none
 |n,0,i,q,_,h=>absurd h (g1d _)
 |n,a+1,i,q,b,h=>by
  unfold SetTable.layClean.free;cases c:(List.range (SetTable.runEnd mask i+1-i)).find? λk=>(owner.getD (i+k) (some 0)).isNone with
  |some k=>exact ⟨i+k,rfl,by have:=e1j c;exact f1y.mp this⟩
  |none=>
   cases n with
   |zero=>
    have f:i=e:=b;subst f;have h0:(0:Nat)∈List.range (SetTable.runEnd mask i+1-i):=f1x.mpr (by unfold SetTable.runEnd;split<;>lia);have:=g1i.mp c 0 h0;rw[b1c,ho]at this;simp at this
   |succ n=>exact i0z hm owner d ho n a _ _ b (by lia)
theorem s0v{k:Nat}:∀(l:List (Option Nat)) (j:Nat),l[j]?=some none->((l.set j (some k)).filterMap id).Perm (k::l.filterMap id)
 | [],j,h=>by simp at h
 |a::l,0,h=>by
  (constructor<;>simp_all)
 |a::l,j+1,h=>by
  cases a with
  |none=>simp;exact s0v l j h
  |some x=>simp;exact ((s0v l j h).cons x).trans (List.Perm.swap ..)
theorem x1r:∀(l:List (Option Nat)),(l.filterMap id).length<l.length->∃e,e<l.length/\l[e]?=some none
 | [],h=>by simp at h
 |none::l,_=>⟨0,by simp,rfl⟩
 |some x::l,h=>by
  let ⟨e,a,b⟩:=x1r l (by simp_all);exact ⟨e+1,by simpa using a,by simpa using b⟩
def zC9(mask:Nat)(acc:Option (Array (Option Nat)×Nat))(h:Int):Option (Array (Option Nat)×Nat):=do
 let (owner,k)<-acc
 let j<-SetTable.layClean.free mask owner (SetTable.turns mask) (SetTable.bits h%(mask+1)) (SetTable.bits h)
 pure (owner.setIfInBounds j (some k),k+1)
theorem d0h{mask k:Nat}(hm:mask+1=2^k):∀(hs:List Int) (owner:Array (Option Nat)) (n:Nat),owner.size=mask+1->(owner.toList.filterMap id).Perm (List.range n)->n+hs.length<=mask->
 ∃o,hs.foldl (zC9 mask) (some (owner,n))=some (o,n+hs.length)/\o.size=mask+1/\(o.toList.filterMap id).Perm (List.range (n+hs.length))
 | [],owner,n,h1,h2,_=>⟨owner,rfl,h1,h2⟩
 |h::hs,owner,n,h1,h2,h3=>by
  rw[k1k]at h3;let ⟨e,e1,e2⟩:=x1r owner.toList (by rw[h2.length_eq,h1u,i1o];lia);rw[i1o]at e1;rw[i1c]at e2;let ⟨m,hm1,hm2⟩:=q1k hm (i:=SetTable.bits h%(mask+1)) (show e<=mask by lia) (x1s h);let ⟨j,j1,j2⟩:=i0z hm owner (show e<=mask by lia) (by rw[g1c,e2];rfl) (m+1) (SetTable.turns mask) _ _ hm2 (by unfold SetTable.turns;lia);have hj:owner[j]?=some none:=by
   rw[g1c]at j2
   grind
  have step:zC9 mask (some (owner,n)) h=some (owner.setIfInBounds j (some n),n+1):=by
   unfold zC9
   simp_all
  let ⟨o,o1,o2,o3⟩:=d0h hm hs (owner.setIfInBounds j (some n)) (n+1) (by simpa using h1) (by
   rw[g1a];refine (s0v _ j (by rw[i1c];exact hj)).trans ((h2.cons n).trans ?_);rw[f1h];exact (List.perm_append_singleton n _).symm) (by lia)
  (simp_all;lia)
def i0y(l:List (Option Nat)):(List.range l.length).filterMap (λj=>(l[j]?).getD none)=l.filterMap id:=by
 induction l with
 |nil=>rfl
 |cons a l b=>
  rw[k1k,h1g,f1t,b1x];have:(λj=>((a::l)[j]?).getD none)∘Nat.succ=λj=>(l[j]?).getD none:=by funext j;simp
  grind
def Up(l:List Nat):Prop:=l.Pairwise (·<·)
def x1q{t:SetTable}{hs:Array Int}{c:Nat}(n:c<2^60)(hn:hs.size<SetTable.sizeAbove c):
 ∃t' order k,t.relaid hs c=some (t',order)/\order.toList.Perm (List.range hs.size)/\t'.mask+1=2^k/\3<=k/\t'.mask+1=SetTable.sizeAbove c/\t'.dummies=#[]/\t'.place.size=hs.size/\t'.led=t.led/\t'.plain=t.plain/\Up t'.place.toList:=by
 let ⟨k,e,p,_,_⟩:=r0f n;obtain ⟨mask,d⟩:∃mask,SetTable.sizeAbove c-1=mask:=⟨_,rfl⟩;have hm:mask+1=2^k:=by lia
 let ⟨o,r,w,i⟩:=d0h hm hs.toList (Array.replicate (mask+1) none) 0 (by simp) (by
  have:(List.replicate (mask+1) (none:Option Nat)).filterMap id=[]:=by rw[List.filterMap_replicate];rfl
  rw[Array.toList_replicate,this];exact .refl _) (by grind)
 have z:SetTable.layClean mask hs=some o:=by
  unfold SetTable.layClean;rw[<-Array.foldl_toList];show Option.map _ (hs.toList.foldl (zC9 mask) (some (Array.replicate (mask+1) none,0)))=_;rw[r];rfl
 unfold SetTable.relaid SetTable.laid;rw[d,z];have B:((List.range (mask+1)).filterMap λj=>(o.getD j none).map (j,·)).map (·.2)=o.toList.filterMap id:=by
  rw[List.map_filterMap,<- i0y,i1o,w];congr 1;funext j;rw[g1c,i1c];cases (o[j]?).getD none<;>rfl
 rw[i1e,i1o]at i;refine ⟨_,_,k,rfl,?_,?_,p,?_,rfl,?_,rfl,rfl,?_⟩
 .simp_all
 .exact hm
 .simp_all
 .have:=congrArg List.length B;rw[k1v,i.length_eq,h1u]at this
  simp_all
 .unfold Up;rw[List.pairwise_map,List.pairwise_filterMap];refine List.pairwise_lt_range.imp λ{a b} g x hx y f=>?_
  cases l:o.getD a none with
  |none=>rw[l]at hx;simp at hx
  |some u=>
   cases m:o.getD b none with
   |none=>rw[m]at f;simp at f
   |some v=>rw[l]at hx;rw[m]at f;simp at hx f;rw[<-hx,<- f];exact g
def o0j{b:Type}{a:Array b}{order:Array Nat}(h:order.toList.Perm (List.range a.size)):(order.filterMap (a[·]?)).toList.Perm a.toList:=by
 rw[Array.toList_filterMap];refine (h.filterMap _).trans ?_;rw[filterMap_getElem?_range]
theorem m0i{xs:Array Nat}{j:Nat}:∀(f lo hi:Nat),lo<=hi->hi<=xs.size->hi-lo<=f->(∀i (h:i<xs.size),i<lo->xs[i]<j)->(∀i (h:i<xs.size),hi<=i->¬xs[i]<j)->(∀a b (ha:a<xs.size) (hb:b<xs.size),a<b->xs[a]<xs[b])->
 ∃p,SetTable.below.go xs j f lo hi=p/\p<=xs.size/\(∀i (h:i<xs.size),i<p->xs[i]<j)/\(∀i (h:i<xs.size),p<=i->¬xs[i]<j)
 | 0,lo,hi,h1,h2,h3,a,b,_=>⟨lo,rfl,by lia,a,fun i h q=>b i h (by lia)⟩
 |f+1,lo,hi,h1,h2,h3,a,b,up=>by
  unfold SetTable.below.go;split
  .have hm:(lo+hi)/2<xs.size:=by lia
   have hg:xs.getD ((lo+hi)/2) j=xs[(lo+hi)/2]:=by rw[Array.getD,dif_pos hm];rfl
   dsimp only;rw[hg];split
   .rename_i hlt2;exact m0i f _ hi (by lia) h2 (by lia) (fun i h q=>by
     by_cases e:i=(lo+hi)/2
     . (subst_vars;simp_all)
     .exact b1d (up i _ h hm (by lia)) hlt2) b up
   .rename_i hnlt;exact m0i f lo _ (by lia) (by lia) (by lia) a (fun i h q=>by
     by_cases e:i=(lo+hi)/2
     . (simp[*])
     .have:=up _ i hm h (by lia);lia) up
  .grind
def Up.ix{xs:Array Nat}(u:Up xs.toList)(a b:Nat)(ha:a<xs.size)(hb:b<xs.size)(h:a<b):xs[a]<xs[b]:=by
 have:=d1u.mp u a b (by simp_all) (by simp_all) h
 solve_by_elim
def q0j{xs:Array Nat}(u:Up xs.toList)(j:Nat):SetTable.below xs j<=xs.size/\(∀i (h:i<xs.size),i<SetTable.below xs j->xs[i]<j)/\(∀i (h:i<xs.size),SetTable.below xs j<=i->¬xs[i]<j):=by
 let ⟨p,e,r⟩:=m0i xs.size 0 xs.size (j1e _) (k1q _) (by lia) (λi h q=>absurd q (g1d _)) (λi h q=>absurd h (by lia)) u.ix;rw[show SetTable.below xs j=p from e];exact r
def i0x(u:Up t.place.toList)(h:t.slot j=.empty):∀i (a:i<t.place.size),t.place[i]≠j:=by
 intro i a e;let ⟨_,d,c⟩:=q0j u j;have f:SetTable.below t.place j=i:=by
  rcases b1h i (SetTable.below t.place j)with q |q |q
  .grind
  .exact q.symm
  .have b:SetTable.below t.place j<t.place.size:=by lia
   have:=c _ b (k1q _);have:=u.ix _ i b a q;lia
 grind [SetTable.slot]
def q1i(u:Up t.place.toList)(hd:t.dummies=#[])(h:t.slot j=.empty):Up (t.put j).1.place.toList/\(t.put j).1.place.size=t.place.size+1/\(t.put j).1.dummies=#[]/\(t.put j).2<=t.place.size:=by
 let ⟨b0,b1,b2⟩:=q0j u j;have hn:=i0x u h;unfold SetTable.put;refine ⟨?_,?_,?_,b0⟩
 .rw[f1m];unfold Up;have split:=(j1f (SetTable.below t.place j) t.place.toList);have u':(t.place.toList.take (SetTable.below t.place j)++t.place.toList.drop (SetTable.below t.place j)).Pairwise (·<·):=by rw[split];exact u
  rw[e1r]at u';have lo:∀a∈t.place.toList.take (SetTable.below t.place j),a<j:=fun a ha=>by
   let ⟨i,hi,e⟩:=g1w.mp ha
   grind
  have hi2:∀a∈t.place.toList.drop (SetTable.below t.place j),j<a:=fun a ha=>by
   let ⟨i,hi,e⟩:=g1w.mp ha
   grind
  simp only[i1v,e1r,f1g,j1n]
  (constructor<;>simp_all)
 .have:=congrArg List.length (f1m t.place (SetTable.below t.place j) j)
  (simp_all;lia)
 .rw[hd];unfold SetTable.has;simp
def PT(h:J0)(b:X0):Prop:=∃o items n,h.get? b=some o/\o.cls=.type "tuple"/\o.data=.seq items n/\∀v∈items.toList,Q5 v=true
section
variable{prog:V0}{w:T0}{A:A0}{E:Z0->Y0->Prop}{s:Y0}
def b0s{v:Z0}(n:Nat)(h:Q5 v=true):hashByValue n v=pure true:=by
 cases v<;>simp[Q5]at h<;>(cases n<;>simp[hashByValue])
def g0y{v:Z0}(n:Nat)(h:Q5 v=true):a5 n v=pure false:=by
 cases v<;>simp[Q5]at h<;>(cases n<;>simp[a5])
def PT.ty(p:PT s.heap b):s.TypeIs (.ref b) "tuple":=let ⟨o,_,_,e,c,_⟩:=p;⟨o,e,c⟩
def m1l(p:PT s.heap b)(h:Q true s):wpAny (model prog w) A (hashByValue 8 (.ref b)) Q E s:=by
 have e:=p.ty;let ⟨o,items,n,ho,_,hd,f⟩:=p;refine y0 (wpAny_specialOf e F.slot_tuple_hash.lookup ?_);refine y0 (Z2 ho hd ?_);refine y0 ?_;rw[<-Array.forIn_toList];refine R5 _ (λrest r c=>r.1=none/\c=s/\∀v∈rest,Q5 v=true) _ ?_ ?_ _ _ ⟨rfl,rfl,f⟩
 .rintro v rest r c ⟨hr,rfl,a⟩;rw[b0s _ (a v k1g)];exact d0 ⟨rfl,rfl,λu d=>a u (k1o _ d)⟩
 .rintro ⟨g,i⟩ c ⟨hr,rfl,_⟩;subst hr;exact d0 h
def d0g(p:PT s.heap b)(h:Q false s):wpAny (model prog w) A (a5 8 (.ref b)) Q E s:=by
 have e:=p.ty;let ⟨o,items,n,ho,_,hd,f⟩:=p;unfold a5;refine y0 (B4 e ?_);dsimp only;refine y0 (d0 ?_);refine y0 (Z2 ho hd ?_);refine y0 ?_;rw[<-Array.forIn_toList];refine R5 _ (λrest r c=>r.1=none/\c=s/\∀v∈rest,Q5 v=true) _ ?_ ?_ _ _ ⟨rfl,rfl,f⟩
 .rintro v rest r c ⟨hr,rfl,a⟩;rw[g0y _ (a v k1g)];refine y0 (d0 ?_);exact d0 ⟨rfl,rfl,λu d=>a u (k1o _ d)⟩
 .rintro ⟨g,i⟩ c ⟨hr,rfl,_⟩;subst hr;exact d0 h
def m1k{K:Type}[DecidableEq K]{knd:KeyKind prog w K}{k:List K}(f:D3 knd s.heap k b)(pb:PT s.heap b){Q:Bool->Y0->Prop}(l:List Z0)
 (g:∀v∈l,∃c ks,v=.ref c/\D3 knd s.heap ks c/\PT s.heap c) (h:Q false s):wpAny (model prog w) A (searchCouldBeSeen (.ref b) l) Q E s:=by
 refine y0 ?_;refine R5 _ (λrest r e=>r.1=none/\e=s/\∀v∈rest,∃c ks,v=.ref c/\D3 knd s.heap ks c/\PT s.heap c) _ ?_ ?_ _ _ ⟨rfl,rfl,g⟩
 .rintro v rest r e ⟨hr,rfl,a⟩;let ⟨c,ks,rfl,i,j⟩:=a v k1g;dsimp only;split
  .exact d0 ⟨rfl,rfl,λu d=>a u (k1o _ d)⟩
  .refine y0 (wpAny_eqIsQuiet_tuple f ?_);refine y0 (wpAny_eqIsQuiet_tuple i ?_);refine y0 (d0g pb ?_);refine y0 (d0g j ?_);exact d0 ⟨rfl,rfl,λu d=>a u (k1o _ d)⟩
 .rintro ⟨m,n⟩ e ⟨hr,rfl,_⟩;subst hr;exact d0 h
structure zw7(t:SetTable)(n:Nat):Prop where
 m:∃k,t.mask+1=2^k/\3<=k
 d:t.dummies=#[]
 z:t.place.size=n
 r:n*5<t.mask*3
 p:t.plain=true
 b:t.mask∈[7,31,127,511,2047,8191]
 u:Up t.place.toList
def zw7.le(T:zw7 t n):t.mask<=8191:=by have:=T.b;simp at this;lia
theorem zw7.fits(T:zw7 t n):t.fits n=true:=by
 unfold SetTable.fits SetTable.fill;rw[T.z,T.d];have:=T.r;simp;lia
def zw7.odd(T:zw7 t n):t.gaveWay=false:=by
 let ⟨k,e,h⟩:=T.m;unfold SetTable.gaveWay
 grind
def zw7.emp(T:zw7 t n){p:SetTable.Probe}(h1:p.more<=9)(c:p.perturb<2^64):∃d,d<=10*(t.mask+14)/\Emp t p d:=by
 let ⟨k,e,_⟩:=T.m;let ⟨e1,a,b⟩:=x1t T.d (by rw[T.z];have:=T.r;lia);exact zH2 e a b h1 c
def s1v(t:SetTable)(h:Int):(t.probeStart h).more<=9/\(t.probeStart h).perturb<2^64/\(t.probeStart h).dummy=none:=⟨j0c _ _,x1s h,rfl⟩
section
variable{K:Type}[DecidableEq K](knd:KeyKind prog w K)
def enT(p:List K×Addr):Int×Value:=(C2 knd p.1,.ref p.2)
def TS(h:J0)(a:X0)(xs:List (List K×Addr)):Prop:=
 ∃o es ep t,h.get? a=some o/\o.ExactSet/\o.data=.set es ep t/\es.toList=xs.map (enT knd)/\(∀p∈xs,D3 knd h p.1 p.2/\PT h p.2)/\zw7 t xs.length/\t.led=!(w.params.followText "set-order")
variable{knd}
def x1p{b:X0}{k:List K}{xs:List (List K×Addr)}{o:Obj}{f:Array (Int×Value)}{O:Nat}(J:A.units<O2)(ho:s.heap.get? a=some o)(hd:o.data=.set f O t)
 (u:f.toList=xs.map (enT knd)) (hx:∀p∈xs,D3 knd s.heap p.1 p.2/\PT s.heap p.2) (T:zw7 t xs.length) (y:D3 knd s.heap k b) (pb:PT s.heap b) {Q:SetFound->Y0->Prop}
 (h1:(∃p∈xs,p.1=k)->Q (.there none) s) (P:∀j,t.slot j=.empty->Q (.free j false) s):
 ∀(d c:Nat) (st:Option SetTable.Probe),Emp t (st.getD (t.probeStart (C2 knd k))) d->d<c->(st.getD (t.probeStart (C2 knd k))).dummy=none->d<10*SetTable.turns t.mask->
  wpAny (model prog w) A (setSearchFrom a (.ref b) (C2 knd k) true c st) Q E s:=by
 intro d
 induction d using Nat.strongRecOn with
 |_ d W=>
  intro c st g R B C;cases c with
  |zero=>exact absurd R (g1d _)
  |succ c=>
   have l:f.size=xs.length:=by rw[<-Array.length_toList,u,k1v]
   refine y0 (T2 ho hd (by rw[l];exact T.fits) ?_);dsimp only;rw[T.odd];simp only[k1a,K1];have F:∀ha,Found t (st.getD (t.probeStart (C2 knd k))) d (SetTable.probe t ha (C2 knd k) (st.getD (t.probeStart (C2 knd k)))):=λha=>d0i T.d ha _ d _ _ g C
   generalize hr:SetTable.probe t _ (C2 knd k) (st.getD (t.probeStart (C2 knd k)))=r;have G:=hr▸F _;cases G with
   |empty j hs=>
    rw[B];exact d0 (P j hs)
   |zC8 j i next X S hn U L M=>
    dsimp only;have D:i<xs.length:=by rw[<-T.z];exact (e1d.mp U).1
    obtain ⟨p,m⟩:∃p,xs[i]?=some p:=⟨_,k1u D⟩;have hm:=k1m m;have n:f[i]?=some (C2 knd p.1,.ref p.2):=by
     rw[<-Array.getElem?_toList,u,k1h,m];rfl
    have fits:t.fits f.size=true:=by rw[l];exact T.fits
    split
    .refine y0 (m1k y pb _ (λv V=>?_) ?_)
     .let ⟨e,I,rfl⟩:=j1u.mp V;have:=(Array.mem_filter.mp (g1x.mp I)).1;rw[<-Array.mem_toList_iff,u]at this;let ⟨q,N,rfl⟩:=j1u.mp this;exact ⟨q.2,q.1,rfl,(hx q N).1,(hx q N).2⟩
     rw[n];refine y0 (D0 (D5 J (hx p hm).1 y ?_));refine y0 (T2 ho hd fits ?_);by_cases e:p.1=k
     .rw[M0 e];exact d0 (h1 ⟨p,hm,e⟩)
     .rw[Q0 e];have sm:t.sameMemory t.moves t.mask=some true:=by unfold SetTable.sameMemory;rw[H0 (by simp)]
      rw[sm];simp only[c1f,N1,L,n];refine y0 (wpAny_isSame_ref_self ?_)
      grind
    .rw[n];refine y0 (D0 (D5 J (hx p hm).1 y ?_));refine y0 (T2 ho hd fits ?_);by_cases e:p.1=k
     .rw[M0 e];exact d0 (h1 ⟨p,hm,e⟩)
     .rw[Q0 e];have sm:t.sameMemory t.moves t.mask=some true:=by unfold SetTable.sameMemory;rw[H0 (by simp)]
      rw[sm];simp only[c1f,N1,L,n];refine y0 (wpAny_isSame_ref_self ?_)
      grind
def d0f{c:X0}{ks:List K}(x:D3 knd h ks c)(b:c≠a)(hs:Heap.SameBut a h h'):D3 knd h' ks c:=by
 let ⟨o,items,n,e,r⟩:=x;exact ⟨o,items,n,by rw[hs.2 c b];exact e,r⟩
def x1o{c:X0}(x:PT h c)(b:c≠a)(hs:Heap.SameBut a h h'):PT h' c:=by
 let ⟨o,items,n,e,r⟩:=x;exact ⟨o,items,n,by rw[hs.2 c b];exact e,r⟩
theorem zw7.put(T:zw7 t n)(h:t.slot j=.empty)(r:(n+1)*5<t.mask*3):zw7 (t.put j).1 (n+1):=by
 let ⟨a,b,c,_⟩:=q1i T.u T.d h;exact ⟨T.m,c,by rw[b,T.z],r,T.p,T.b,a⟩
def s1u{o:Obj}{b:Array (Int×Value)}{i:Nat}(ho:s.heap.get? a=some o)(hd:o.data=.set b i t)(j:t.fits b.size=true)(hn:b.size=n)(l:t.plain=true)(h0:0<n)(h1:n<=1229)(B:SetTable.sizeAbove (n*4)-1∈[7,31,127,511,2047,8191]){Q:Unit->Y0->Prop}
 (h:∀c t',c.toList.Perm b.toList->zw7 t' n->t'.led=t.led->Q () {s with heap:=s.heap.update a (Obj.putSet c t')}):
 wpAny (model prog w) A (setRelay a (SetTable.grown n)) Q E s:=by
 have m:SetTable.grown n=n*4:=by unfold SetTable.grown;rw[O0 (by lia)]
 rw[m];let ⟨k,e1,e2,e3,e4⟩:=r0f (f1f (show n*4<=5000 by lia) (by decide));let ⟨t',order,p,r,f,u,v,C,y,g,r8,z,e⟩:=x1q (hs:=b.map (·.1)) (f1f (show n*4<=5000 by lia) (by decide)) (by grind);rw[Array.size_map]at f g;refine y0 (T2 ho hd j ?_);dsimp only;rw[O0 (by have:=U2;lia),r];refine y0 ?_;have d:=o0j f;have hz:(order.filterMap (b[·]?)).size=b.size:=by rw[<-Array.length_toList,d.length_eq,i1o]
 wp_delta
 rw[O0 (by simp[hz])];refine d0 (wpAny_storeSet_of ho hd (h _ t' d ⟨⟨p,u,v⟩,y,g.trans hn,by lia,z.trans l,(by grind),e⟩ r8) (by rw[hz];have:=U2;lia))
def zu1{g n:Type}{f:g->n}{l m:List n}(h:l.Perm m):∀xs:List g,m=xs.map f->∃c:List g,c.Perm xs/\l=c.map f:=by
 induction h with
 |nil=>intro xs e;exact ⟨xs,.refl _,e⟩
 |cons x h o=>
  intro xs e;cases xs with
  |nil=>cases e
  |cons y d=>
   injection e with e1 e2
   let ⟨i,p,q⟩:=o d e2;exact ⟨y::i,p.cons y,by rw[k1l,q,e1]⟩
 |swap x y l=>
  intro xs e
  match xs,e with
  |a::b::d,e=>
   injection e with e1 e2
   injection e2 with e3 e4
   exact ⟨b::a::d,List.Perm.swap ..,by rw[k1l,k1l,e1,e3,e4]⟩
  | [a],e=>simp at e
  | [],e=>simp at e
 |trans u v j k=>
  intro xs e;let ⟨d,p,q⟩:=k xs e;let ⟨i,r,t⟩:=j d q;exact ⟨i,r.trans p,t⟩
def m1j(b:X0)(a:Array (Int×Value)):byScan (.ref b) a=false:=rfl
def zH3{k:List K}{xs:List (List K×Addr)}(X:A.units<O2)(S:TS knd s.heap a xs)(J:D3 knd s.heap k b)(pb:PT s.heap b)(hn:xs.length<4000){Q:Bool->Y0->Prop}
 (h1:(∃p∈xs,p.1=k)->Q false {s with toks:=s.toks+(S3 knd).draws k})
 (Z:∀h' n,Heap.SameBut a s.heap h'->TS knd h' a n->n.Perm ((k,b)::xs)->Q true {s with heap:=h',toks:=s.toks+(S3 knd).draws k}):
 wpAny (model prog w) A (setAdd a (.ref b)) Q E s:=by
 let ⟨o,L,ep,t,ho,hex,hd,M,hx,T,hl⟩:=S;have ne:∀{c:X0},PT s.heap c->c≠a:=λ{c} pc e=>by
  subst e;let ⟨o',_,_,e1,e2,_⟩:=pc;rw[ho]at e1;cases e1;rw[hex.1]at e2;injection e2 with e3
  exact absurd e3 (by decide)
 have F:L.size=xs.length:=by rw[<-Array.length_toList,M,k1v]
 have fits:t.fits L.size=true:=by rw[F];exact T.fits
 unfold setAdd;refine D0 (y0 (wpAny_pyHash_tuple X J ?_));unfold setAddHashed;refine D0 ?_;unfold setAddHashedIn;refine y0 (T2 ho hd fits ?_);dsimp only;rw[m1j];simp only[k1a,K1];let ⟨s1,s2,s3⟩:=s1v t (C2 knd k);let ⟨d,aa,N⟩:=T.emp s1 s2;have hb:=T.le;refine y0 ?_;unfold setSearch;refine x1p (s:={s with toks:=s.toks+(S3 knd).draws k}) X ho hd M hx T J pb (λq=>?_) (λj hj=>?_) d 100000 none N (by lia) s3 (by unfold SetTable.turns;lia)
 .dsimp only;exact d0 (h1 q)
 .dsimp only;refine y0 (T2 ho hd fits ?_);dsimp only;let ⟨u1,O,u3,u4⟩:=q1i T.u T.d hj;rw[T.z]at O u4;rw[H0 (show (t.put j).1.plain=true from T.p)];refine y0 (m1l (s:={s with toks:=s.toks+(S3 knd).draws k}) pb ?_);simp only[N1,i1h,h1p];generalize P:SetTable.insertAt L (t.put j).2 (C2 knd k,Value.ref b)=f;have y:f.toList=(xs.take (t.put j).2++(k,b)::xs.drop (t.put j).2).map (enT knd):=by
   rw[<-P,f1m,M,j1z,k1l,List.map_take,List.map_drop];rfl
  have G:(xs.take (t.put j).2++(k,b)::xs.drop (t.put j).2).Perm ((k,b)::xs):=by
   have:=a1r (a:=(k,b)) (l₁:=xs.take (t.put j).2) (l₂:=xs.drop (t.put j).2)
   rwa[j1f]at this
  have B:f.size=xs.length+1:=by rw[<-Array.length_toList,y,k1v,G.length_eq,k1k]
  have ab:=U2;refine y0 (wpAny_storeSet_of (s:={s with toks:=s.toks+(S3 knd).draws k}) ho hd ?_ (by rw[B];lia));have R:(s.heap.update a (Obj.putSet f (t.put j).1)).get? a=some {o with data:=.set f (ep+1) (t.put j).1}:=by
   have:=j1x (Obj.putSet f (t.put j).1) ho (by rw[putSet_of f _ hd];rfl);rw[putSet_of f _ hd]at this;exact this
  have v:=j1d s.heap a (Obj.putSet f (t.put j).1);have keys:∀h',Heap.SameBut a s.heap h'->∀p∈(k,b)::xs,D3 knd h' p.1 p.2/\PT h' p.2:=λh' v p m=>by
   rcases j1n.mp m with rfl |m
   .exact ⟨d0f J (ne pb) v,x1o pb (ne pb) v⟩
   .exact ⟨d0f (hx p m).1 (ne (hx p m).2) v,x1o (hx p m).2 (ne (hx p m).2) v⟩
  have C:(t.put j).1.mask=t.mask:=rfl;have hr:=T.r;have g:(t.put j).1.fill=xs.length+1:=by unfold SetTable.fill;rw[O,u3];rfl
  split
  .rename_i i;have gr:xs.length+1<=1229/\SetTable.sizeAbove ((xs.length+1)*4)-1∈[7,31,127,511,2047,8191]:=by
    unfold SetTable.tooFull at i;rw[g,C]at i;have U:=T.b;simp at i U;have:xs.length+1=5\/xs.length+1=19\/xs.length+1=77\/xs.length+1=307\/xs.length+1=1229:=by lia
    rcases this with e |e |e |e |e<;>(rw[e];decide)
   refine y0 ?_;rw[F];refine s1u (s:={s with heap:=s.heap.update a (Obj.putSet f (t.put j).1),toks:=s.toks+(S3 knd).draws k}) R rfl (by unfold SetTable.fits;rw[B,g,C,O];simp;lia) B T.p (by lia) gr.1 gr.2 λl D pm T' V=>?_
   refine d0 ?_;let ⟨n,p1,p2⟩:=zu1 pm _ y;have I:=v.trans (j1d (s.heap.update a (Obj.putSet f (t.put j).1)) a (Obj.putSet l D));have W:((s.heap.update a (Obj.putSet f (t.put j).1)).update a (Obj.putSet l D)).get? a=some {o with data:=.set l (ep+1+1) D}:=by
    have:=j1x (Obj.putSet l D) R (by rw[putSet_of l D rfl];rfl);rw[putSet_of l D rfl]at this;exact this
   have pp:=p1.trans G;exact Z _ n I ⟨_,l,_,D,W,hex,rfl,p2,λp m=>keys _ I p (pp.mem_iff.mp m),by rw[pp.length_eq,k1k];exact T',V.trans hl⟩ pp
  .rename_i i;refine d0 ?_;have r:(xs.length+1)*5<t.mask*3:=by
    unfold SetTable.tooFull at i;rw[g,C]at i;simp at i;lia
   exact Z _ _ v ⟨_,f,_,_,R,hex,rfl,y,λp m=>keys _ v p (G.mem_iff.mp m),by rw[G.length_eq,k1k];exact T.put hj r,hl⟩ G
theorem zw7.fresh(a:Bool):zw7 (SetTable.fresh 0 0 a) 0:=⟨⟨3,rfl,by decide⟩,rfl,rfl,show 0*5<7*3 by decide,rfl,show 7∈[7,31,127,511,2047,8191]by decide,.nil⟩
end
end
def o0i:entryFor table "set.__iter__"=some Builtin.«frozenset.__iter__»:=
 entryFor_alias (id':="frozenset.__iter__") (by kernel_rfl) rfl (by decide +kernel) (by kernel_rfl)
def zv2:Slot "set_iterator" "__next__" "set_iterator.__next__":=
 .of (owner:="set_iterator") (n:="__next__") rfl rfl rfl rfl
  (by first |exact .inl rfl |exact .inr rfl) rfl
def m0h:entryFor table "set_iterator.__next__"=some Builtin.«set_iterator.__next__»:=entryFor_of_tree (by kernel_rfl)
def d0e:Manifest.owners.lookup (String.ofList ['r','o','t','a','r','e','t','i','_','t','e','s'].reverse)=some Manifest.sig_set_iterator:=by kernel_rfl
def i0w(a:Z0):argsOk "set_iterator.__next__" ⟨[a],[]⟩:=by
 unfold argsOk;rw[signature?_of (n:=['_','_','t','x','e','n','_','_']) (by kernel_rfl) d0e];kernel_rfl
section
variable{prog:V0}{w:T0}{A:A0}{E:Z0->Y0->Prop}{s:Y0}{a it:X0}{o:Obj}{es:Array (Int×Value)}{ep n:Nat}{t:SetTable}
def m1i{Q:Z0->Y0->Prop}(ho:s.heap.get? a=some o)(hx:o.ExactSet)(hd:o.data=.set es ep t)(T:zw7 t n)(hn:es.size=n)
 (h:Q (.ref s.heap.objs.size) {s with heap:=s.heap.push {cls:=.type "set_iterator",data:=.fields #[.int 0 0,.int 0 0,.ref a,.int es.size 0,.int ep 0]}}):wpAny (model prog w) A (pyIter (.ref a)) Q E s:=by
 have ty:s.TypeIs (.ref a) "set":=⟨o,ho,hx.1⟩;have fits:t.fits es.size=true:=by rw[hn];exact T.fits
 refine G3 ty c1t (Z1 c1t ty o0i ?_ (PySem.F.args_set_iter_1 _));unfold Builtin.«frozenset.__iter__» Builtin.Frozenset.slot0 slotArgs;simp only[j1i,bind_assoc];refine y0 (d0 ?_);refine y0 (d0 ?_);refine y0 (y0 (wpAny_setEntries_of ho hd fits (d0 ?_)));refine y0 (y0 (T2 ho hd fits ?_));refine y0 (y0 (a4 (d0 ?_)));refine d0 ?_;rw[O0 (by show ¬((_&&(!t.plain&&decide (es.size>1)))=true);rw[T.p];simp)];refine y0 (d0 ?_);refine y0 (wpAny_setEpoch_of ho hd fits ?_);refine y0 (N0 ?_);refine d0 ⟨_,rfl,"set_iterator",_,⟨_,k1s _ rfl,rfl⟩,zv2.lookup,?_⟩;simpa[G1]using h
def zZ0(h:J0)(it a:X0)(slot i n ep:Nat):Prop:=∃o,h.get? it=some o/\o.cls=.type "set_iterator"/\o.data=.fields #[.int slot 0,.int i 0,.ref a,.int n 0,.int ep 0]
def zZ0.ty(h:zZ0 s.heap it a slot i m ep):s.TypeIs (.ref it) "set_iterator":=let ⟨o,e,c,_⟩:=h;⟨o,e,c⟩
def zd9(w:T0)(a:X0)(ep:Nat)(es:Array (Int×Value)):List Z0:=(if w.params.followText "set-order" then (pickOrder (w.params.setOrder a ep) es).toList else es.toList).map (·.2)
theorem x1n{c:Type}(f:Nat->Nat):∀(n k:Nat) (l:List c) (a:Array c),l.length=n->(pickOrder.go f n k l a).toList.Perm (a.toList++l)
 | 0,k,l,a,h=>by rw[g1o.mp h];unfold pickOrder.go;simp
 |n+1,k,l,a,h=>by
  unfold pickOrder.go;have b:f k%l.length<l.length:=Nat.mod_lt _ (by lia);rw[k1u b];refine (x1n f n (k+1) (l.eraseIdx (f k%l.length)) _ (by grind)).trans ?_;rw[b1i,i1v];refine g1z _ ?_;rw[List.singleton_append];generalize f k%l.length=j at b;have e1:l=l.take j++l[j]::l.drop (j+1):=by rw[List.getElem_cons_drop b,j1f]
  have e2:=List.eraseIdx_eq_take_drop_succ l j;rw[e2];exact a1r.symm.trans (by rw[<-e1])
def zo3(w:T0)(a:X0)(ep:Nat)(es:Array (Int×Value)):(zd9 w a ep es).Perm (es.toList.map (·.2)):=by
 refine List.Perm.map _ ?_;split
 .have:=x1n (w.params.setOrder a ep) es.size 0 es.toList #[] (by simp);exact this
 .exact .refl _
def AtP(w:T0)(t:SetTable)(slot i:Nat):Prop:=w.params.followText "set-order"=false->SetTable.below t.place slot=i
def b0r{t:SetTable}{n:Nat}(T:zw7 t n)(h:i<t.place.size):SetTable.below t.place (t.place[i]+1)=i+1:=by
 let ⟨a,b,c⟩:=q0j T.u (t.place[i]+1);rcases b1h (SetTable.below t.place (t.place[i]+1)) (i+1)with q |q |q
 .grind
 .exact q
 .have d:i+1<t.place.size:=by lia
  have:=b (i+1) d q;have:=T.u.ix i (i+1) h d (by lia);lia
def g0x{t:SetTable}{n:Nat}(T:zw7 t n):SetTable.below t.place 0=0:=by
 let ⟨a,b,c⟩:=q0j T.u 0;rcases Nat.eq_zero_or_pos (SetTable.below t.place 0)with q |q
 .exact q
 .have:=b 0 (by lia) q;lia
def x1m{Q:Option Z0->Y0->Prop}(D:A.handled=none)(hit:zZ0 s.heap it a slot i es.size ep)(ho:s.heap.get? a=some o)(hd:o.data=.set es ep t)(T:zw7 t n)(hn:es.size=n)
 (M:t.led=!(w.params.followText "set-order")) (F:AtP w t slot i) (N:i<=es.size)
 (h:∀v h' b,(zd9 w a ep es)[i]?=some v->zZ0 h' it a b (i+1) es.size ep->AtP w t b (i+1)->Heap.SameBut it s.heap h'->Q (some v) {s with heap:=h'})
 (g:i=es.size->∀h',Heap.ExtBut it s.heap h'->Q none {s with heap:=h'}):
 wpAny (model prog w) A (pyNext (.ref it)) Q E s:=by
 have fits:t.fits es.size=true:=by rw[hn];exact T.fits
 let ⟨G,d,I,c⟩:=id hit;refine y0 (T3 (wpAny_callSpecial?_slot hit.ty zv2 (Z1 zv2 hit.ty m0h ?_ (i0w _))));refine y0 (d0 ?_);refine y0 (E5 d c ?_);refine y0 (wpAny_setEntries_of ho hd fits ?_);rw[O0 (by simp)];have nx:∀(R:Option (Z0×Nat)->Y0->Prop) (r:Z0->Y0->Prop),(∀v b,(zd9 w a ep es)[i]?=some v->AtP w t b (i+1)->R (some (v,b)) s)->(i=es.size->R none s)->wpAny (model prog w) A.in1 (setNext a slot i ep) R r s:=by
  intro R r u O;refine y0 (T2 ho hd fits ?_);refine y0 (y0 (a4 (d0 ?_)));have P:(zd9 w a ep es).length=es.size:=by rw[(zo3 w a ep es).length_eq,k1v,i1o]
  by_cases f:w.params.followText "set-order"=true
  .have y:(model prog w).w.params.followText "set-order"=true:=f;rw[H0 y,O0 (by simp)];refine y0 (y0 (T2 ho hd fits ?_));refine y0 (y0 (a4 (d0 ?_)));rw[H0 y];refine y0 (a4 (d0 ?_));refine d0 ?_;have ol:zd9 w a ep es=(pickOrder (w.params.setOrder a ep) es).toList.map (·.2):=by unfold zd9;rw[H0 f]
   have j:(zd9 w a ep es)[i]?=((pickOrder (w.params.setOrder a ep) es)[i]?).map (·.2):=by rw[ol,k1h,i1c]
   show R (Option.map (λe=>(e.2,slot)) (pickOrder (w.params.setOrder a ep) es)[i]?) s;cases q:(pickOrder (w.params.setOrder a ep) es)[i]? with
   |none=>
    grind
   |some e=>
    rw[q]at j;exact u _ _ j λB=>by rw[f]at B;cases B
  .have k:=by simpa using f
   rw[O0 (show ¬(model prog w).w.params.followText "set-order"=true from f),O0 (by show ¬((!t.plain&&decide (es.size>1))=true);rw[T.p];simp)];refine y0 ?_
   wp_delta
   rw[O0 (by grind)];refine d0 (d0 ?_);rw[F k];have ol:zd9 w a ep es=es.toList.map (·.2):=by unfold zd9;rw[O0 f]
   by_cases z:i<es.size
   .have C:i<t.place.size:=by rw[T.z];lia
    rw[j1h z,j1h C];exact u _ _ (by grind) λ_=>b0r T C
   .grind
 refine y0 (nx _ _ (λv b J l=>?_) (λhz=>?_))
 .refine y0 (B1 d c (by simp) ?_);have g1:(s.heap.update it (Obj.mapFields (·.setIfInBounds 0 (G1 b)))).get? it=some (Obj.mapFields (·.setIfInBounds 0 (G1 b)) G):=j1x _ d (j1a (j1p c _));have m:=j1p c (·.setIfInBounds 0 (G1 b));refine y0 (B1 g1 m (by simp) ?_);have g2:=j1x (Obj.mapFields (·.setIfInBounds 1 (G1 ((i:Int)+1)))) g1 (j1a (j1p m _));have L:=j1p m (·.setIfInBounds 1 (G1 ((i:Int)+1)));refine d0 ⟨_,rfl,d0 (h v _ b J ⟨_,g2,(g1s ..).trans ((g1s ..).trans I),?_⟩ l ((j1d ..).trans (j1d ..)))⟩;rw[L];simp[G1]
 .refine y0 (B1 d c (by simp) ?_);refine y0 ?_;refine y0 (N0 (y0 (R4 (by rfl) (N0 ?_ (by size_fits)))) (by size_fits));refine y0 (O5 ?_);rw[show A.in1.handled=none from D];refine y0 (d0 (wpAny_throw ?_));exact y0 (p4 ⟨_,k1s _ rfl,rfl⟩ p5 (d0 (g hz _ (((j1d ..).extBut.push _).push _))))
end
open PyProof.Rows W
def r0e:Slot "set_iterator" "__iter__" "set_iterator.__iter__":=
 .of (owner:="set_iterator") (n:="__iter__") rfl rfl rfl rfl
  (by first |exact .inl rfl |exact .inr rfl) rfl
def i0v(a:Z0):argsOk "set_iterator.__iter__" ⟨[a],[]⟩:=by
 unfold argsOk;rw[signature?_of (n:=['_','_','r','e','t','i','_','_']) (by kernel_rfl) d0e];kernel_rfl
section
variable{prog:V0}{w:T0}{A:A0}{E:Z0->Y0->Prop}{s:Y0}{a it r:X0}{o:Obj}{es:Array (Int×Value)}{ep n:Nat}{t:SetTable}
def s1t(a:s.TypeIs (.ref r) "set")(h:Q false s):wpAny (model prog w) A (Builtin.List.listLengthHint (.ref r)) Q E s:=by
 refine y0 (wpAny_specialOf a PySem.F.slot_set_len.lookup ?_);generalize c:("set.__len__":String)=e
 wp_delta
 subst c;refine y0 (p4 (b:=true) a rfl ?_);refine wpAny_ite_split (λd=>absurd d (by decide)) (λ_=>?_);refine y0 (B4 a ?_);exact d0 h
def zZ0.at(x:zZ0 h it a slot i m ep)(e:∀o,h.get? it=some o->h'.get? it=some o):zZ0 h' it a slot i m ep:=let ⟨o,ho,q⟩:=x;⟨o,e _ ho,q⟩
def m1h{Q:Z0->Y0->Prop}(hit:zZ0 s.heap it a slot i m ep)(h:Q (.ref it) s):wpAny (model prog w) A (pyIter (.ref it)) Q E s:=by
 refine G3 hit.ty r0e (Z1 r0e hit.ty (entryFor_alias (id':="dict_keyiterator.__iter__") (b:=Builtin.«dict_keyiterator.__iter__») (by kernel_rfl) rfl (by decide +kernel) (by kernel_rfl)) ?_ (i0v _));exact d0 ⟨_,rfl,"set_iterator",_,hit.ty,zv2.lookup,h⟩
def zW4(hx:o.ExactSet)(hd:o.data=.set es ep t)(T:zw7 t n)(hn:es.size=n)(u:t.led=!(w.params.followText "set-order")):
 KdlSrc prog w "set" a a es.size (λi v=>(zd9 w a ep es)[i]?=some v) (λh=>h.get? a=some o)where
 type:=λ_ m=>⟨o,m,hx.1⟩
 there:=λ_ m=>⟨Heap.lt_size m,k1n m⟩
 keep:=λ_ _ m k=>k a (.inl rfl) o m
 notList:=by decide
 notTuple:=by decide
 hint:=λ_ _ _ _ m q=>s1t ⟨o,m,hx.1⟩ q
 iter:=λA s B m=>⟨_,λi h=>(∃slot,zZ0 h s.heap.objs.size a slot i es.size ep/\AtP w t slot i)/\h.get? a=some o,(λ_ _ q=>m1i m hx hd T hn q),{
  sub:=λb C=>by simp at C;simp[C]
  frame:=λ_ _ _ st k=>⟨let ⟨sl,x,y⟩:=st.1;⟨sl,x.at λq e=>k _ (by simp) q e,y⟩,k a (by simp) o st.2⟩
  item:=λi g Q E D st j=>by
   let ⟨⟨sl,x,y⟩,z⟩:=st;refine x1m B x z hd T hn u y (h1b D) (λv f d l F G p=>?_) λe=>absurd e (k1i D)
   exact j v f g.toks l ⟨⟨d,F,G⟩,by rw[p.2 a (k1i (k1n m))];exact z⟩ λc q r e=>by rw[p.2 c (λy=>r (by simp[y]))];exact e
  done:=λg Q E st j=>by
   let ⟨⟨sl,x,y⟩,z⟩:=st;refine x1m B x z hd T hn u y (k1q _) (λv f d l F G p=>?_) λ_ f e=>j f g.toks λc q r w=>e c q (λy=>r (by simp[y])) w
   have:=k1t.mp l;let ⟨lt,_⟩:=this;rw[(zo3 w a ep es).length_eq,k1v]at lt
   grind
  self:=λ_ _ _ _ st q=>let ⟨_,x,_⟩:=st.1;m1h x q},⟨⟨0,⟨_,k1s _ rfl,rfl,rfl⟩,λ_=>g0x T⟩,k1w _ m⟩⟩
end
end STB
namespace L2
open Spec PyProof.Rows
variable{target iter e elt t2 it2 o:Expr}{ifs:List Expr}{scope:P4}{pos apos zv1:Pos}{it acc v:Z0}{env:Env}{H:Hp}{wi:TI}{a I:X0}{vs:List Z0}{k:Nat}{h h':J0}{as:List X0}{P:V0}{w:T0}
def zH4(e kx vx:Expr)(it:Z0)(D:X0)(env:Env):Sem Fin:=do
 (do
  let kv<-eval kx env
  let vv<-holding [kv] (eval vx env)
  standAt {kx.pos with endLine:=vx.pos.endLine,endCol:=vx.pos.endCol}
  holding [kv,vv] (dictSet D kv vv))
 again (.compLoop e 0 it (.ref D) env)
def i0u{a b:Expr}{D:X0}:zo9 (.DictComp a b [⟨target,iter,ifs,0⟩] scope pos) 0 it (.ref D) env target iter ifs (zH4 (.DictComp a b [⟨target,iter,ifs,0⟩] scope pos) a b it D env):=
 ⟨rfl,rfl,rfl,λ_=>rfl,λh0 h=>codeAny_compStart_dict h0 (K0 h (λ_ _ z=>z) λ_ _ z=>z.elim)⟩
def zH5(e elt:Expr)(it acc:Z0)(env:Env):Sem Fin:=do
 (do let v<-eval elt env;standAt elt.pos;let _<-call (.builtin "set.add") [acc,v])
 again (.compLoop e 1 it acc env)
def zH6(e it2:Expr)(it acc:Z0)(env:Env):Sem Fin:=do
 let x<-eval it2 env
 standAt it2.pos
 let x<-foldedSetIterable it2 env x
 let _<-runOwn (.compStart e 1 (<-holding [x] (pyIter x)) acc env) env
 again (.compLoop e 0 it acc env)
def x1l{d:Nat}(g:(clausesOf e)[d]?=some ⟨target,iter,ifs,0⟩)(j:(Code.compStart e d it acc env).isFrame=false)(b:∀a,(Code.compLoop e d a acc env).quiet=true)(i:∀A:A0,A.under (.compStart e d it acc env)=A){prog:V0}{w:T0}{A:A0}{R:Result->Y0->Prop}{s:Y0}
 (h0:A2 (model prog w) A (.compLoop e d it acc env) R s) (h:wpAny (model prog w) A (pyIter it) (λa c=>A2 (model prog w) A (.compLoop e d a acc env) R c) (λ_ _=>False) s):A2 (model prog w) A (.compStart e d it acc env) R s:=by
 refine codeAny_of_tree ?_;show wpAny _ _ (if (Code.compStart e d it acc env).isFrame then _ else _) _ _ s;rw[O0 (by grind),i];refine wpAny_notedAt ?_;unfold compStart;rw[g];refine y0 (a4 (wpAny_ite ?_));split
 .first
   |exact y0 (d0 (d0 (And.intro (b _) h0)))
   |exact d0 (And.intro (b _) h0)
 .first
   |exact y0 (D4 (y0 (X2 (y0 (K0 h (λa c f=>d0 (And.intro (b _) f)) λ_ _ x=>x.elim)))))
   |(refine y0 (D4 ?_);show wpAny _ _ (standAt iter.pos >>= _) _ _ s;exact y0 (X2 (y0 (K0 h (λa c f=>d0 (And.intro (b _) f)) λ_ _ x=>x.elim))))
def x1k{if2:List Expr}:zo9 (.SetComp elt [⟨target,iter,ifs,0⟩,⟨t2,it2,if2,0⟩] scope pos) 0 it acc env target iter ifs (zH6 (.SetComp elt [⟨target,iter,ifs,0⟩,⟨t2,it2,if2,0⟩] scope pos) it2 it acc env):=
 ⟨rfl,rfl,rfl,λ_=>rfl,λh0 h=>x1l rfl rfl (λ_=>rfl) (λ_=>rfl) h0 h⟩
def x1j{if2:List Expr}:zo9 (.SetComp elt [⟨target,iter,ifs,0⟩,⟨t2,it2,if2,0⟩] scope pos) 1 it acc env t2 it2 if2 (zH5 (.SetComp elt [⟨target,iter,ifs,0⟩,⟨t2,it2,if2,0⟩] scope pos) elt it acc env):=
 ⟨rfl,rfl,rfl,λ_=>rfl,λh0 h=>x1l rfl rfl (λ_=>rfl) (λ_=>rfl) h0 h⟩
open Spec PyProof.Rows STB
def zB0(P:V0)(w:T0)(a:X0)(xs:List (List Key×Addr))(h:J0):Prop:=∃o es ep t,h.get? a=some o/\o.ExactSet/\o.data=.set es ep t/\es.toList=xs.map (enT (b4 P w))/\zw7 t xs.length/\t.led=!(w.params.followText "set-order")
def zg8(P:V0)(w:T0)(xs:List (List Key×Addr))(a:X0):HO:=.ext (zB0 P w a xs)
def zw8(H:Hp)(xs:List (List Key×Addr)):Prop:=∀p∈xs,∃ns:List Int,p.1=ns.map Sum.inl/\H p.2=some (.tup (ns.map V.int))
section
variable{P:V0}{w:T0}{H:Hp}{h:J0}{a:X0}{xs:List (List Key×Addr)}
def q1h(x:zB0 P w a xs h):zx6 P w H h a (zg8 P w xs a):=
 ⟨x,(let ⟨o,_,_,_,e,_⟩:=x;⟨o,e⟩),λd f ⟨o,b,c,t,e,r⟩ k=>⟨o,b,c,t,k o e,r⟩⟩
def m0g(ks:List Int):(ks.map (Sum.inl:Int->Key)).map kV=ks.map V.int:=by rw[i1j];rfl
def zH7{ns:List Int}(ok:HOk P w H h)(e:H a=some (.tup (ns.map V.int))):STB.PT h a:=by
 let ⟨_,d,r,o,f,g,⟨n,i⟩,_⟩:=(ok a _ e);refine ⟨o,d.toArray,n,f,g,i,λv b=>?_⟩;have:∀{l:List Int} {c:List Z0},zy8 (l.map V.int) c->∀v∈c,Q5 v=true:=by
  intro l
  induction l with
  |nil=>intro c r v b;cases r;cases b
  |cons x l k=>
   intro c r v b;cases r with
   |cons j m=>
    rcases j1n.mp b with rfl |b
    .let ⟨t,rfl⟩:=j;rfl
    .grind
 grind
def z94(ok:HOk P w H h)(x:zB0 P w a xs h)(k:zw8 H xs):STB.TS (b4 P w) h a xs:=by
 let ⟨o,b,c,t,e,hx,hd,d,T,f⟩:=x;refine ⟨o,b,c,t,e,hx,hd,d,λp g=>?_,T,f⟩;let ⟨ns,e1,e2⟩:=k p g;exact ⟨by rw[e1];exact r0m ok (by rw[m0g];exact e2),zH7 ok e2⟩
def z95(x:STB.TS (b4 P w) h a xs):zB0 P w a xs h:=let ⟨o,b,c,t,e,hx,hd,d,_,T,f⟩:=x;⟨o,b,c,t,e,hx,hd,d,T,f⟩
theorem zw8.upd{D:X0}{o:HO}(k:zw8 H xs)(h:∀a,H D≠some (.tup a)):zw8 (upd H D o) xs:=λp b=>by
 let ⟨ns,e1,e2⟩:=k p b;exact ⟨ns,e1,by rw[j0 (λz=>h _ (z▸e2))];exact e2⟩
end
section
variable{X:Cx}
def m1g:t1r X (newSet (.type "set")) (zg8 X.prog X.w []):=by
 intro a s c H Q E I h;refine y0 (y0 (a4 (d0 ?_)));refine N0 ?_;refine h _ s.toks (j1j ..) (λb o e=>k1w _ e) (I.laid (λb o e=>k1w _ e) (k1q _) (q1h ⟨_,#[],0,_,k1s _ rfl,⟨rfl,rfl,rfl⟩,rfl,rfl,zw7.fresh _,rfl⟩))
def s1s{pins:List (X0×Obj)}{s:Y0}{σ:St}{D b:X0}{ns:List Int}{xs:List (List Key×Addr)}{Q:Z0->Y0->Prop}{E:Z0->Y0->Prop}(hu:X.A.units+1<O2)(I:Inv X pins σ H s)(hD:H D=some (zg8 X.prog X.w xs D))(hk:zw8 H xs)(hl:xs.length<4000)
 (hb:H b=some (.tup (ns.map V.int))) (h:∀s' xs',Inv X pins σ (upd H D (zg8 X.prog X.w xs' D)) s'->zw8 (upd H D (zg8 X.prog X.w xs' D)) xs'->xs'.length<=xs.length+1->(∀p∈xs',p∈xs\/p=(ns.map Sum.inl,b))->(∀k:List Key,(∃c,(k,c)∈xs')↔k=ns.map Sum.inl\/∃c,(k,c)∈xs)->Q .none s'):
 wpAny (model X.prog X.w) X.A (call (.builtin "set.add") [.ref D,.ref b]) Q E s:=by
 have S0:=(I.hok D _ hD).1;have S:=z94 I.hok S0 hk;let ⟨o,es,ep,t,e,hx,hd,he,T,hled⟩:=id S0;have kb:=r0m (ks:=ns.map Sum.inl) I.hok (by rw[m0g];exact hb);have nt:∀ys,H D≠some (.tup ys):=fun ys z=>by rw[hD]at z;cases z
 have eid:upd H D (zg8 X.prog X.w xs D)=H:=by
  funext c;by_cases z:c=D
  .rw[z,j3,hD]
  .rw[j0 z]
 refine Z1 F.slot_set_add ⟨o,e,hx.1⟩ F.entry_set_add ?_ (F.args_set_add_2 _ _);unfold Builtin.«set.add» Builtin.Frozenset.oneOther;simp only[List.isEmpty_nil,bind_assoc];unfold Builtin.Frozenset.addrOf;refine y0 (d0 ?_)
 try dsimp only
 refine y0 (d0 ?_)
 try dsimp only
 refine y0 (zH3 (A:=X.A.in1) hu S kb (zH7 I.hok hb) hl (fun ⟨p,hp,ep⟩=>?_) fun h' xs' sb S' pm=>?_)
 .refine d0 ⟨_,rfl,h _ xs (by rw[eid];exact I.tok _) (by rw[eid];exact hk) (h1i _) (fun p hp=>.inl hp) fun k=>⟨.inr,fun z=>?_⟩⟩;rcases z with rfl |z
  .exact ⟨p.2,ep▸hp⟩
  .exact z
 .have kk:zw8 H xs':=fun p hp=>by
   rcases j1n.mp (pm.mem_iff.mp hp)with rfl |hp
   .exact ⟨ns,rfl,hb⟩
   .exact hk p hp
  refine d0 ⟨_,rfl,h _ xs' (v0e I (by rw[hD];trivial) sb (let ⟨o,_,_,_,e,_⟩:=S';⟨o,e⟩) (q1h (z95 S'))) (kk.upd nt) (by rw[pm.length_eq];exact k1q _) (fun p hp=>(j1n.mp (pm.mem_iff.mp hp)).symm) fun k=>?_⟩;constructor
  .rintro ⟨c,z⟩;rcases j1n.mp (pm.mem_iff.mp z)with z |z
   .cases z;exact .inl rfl
   .exact .inr ⟨c,z⟩
  .rintro (rfl |⟨c,z⟩)
   .exact ⟨b,pm.mem_iff.mpr (k1g ..)⟩
   .exact ⟨c,pm.mem_iff.mpr (k1o _ z)⟩
def x1i(wi:TI)(g:TG)(tb:TB):TB:=λσ H Q=>wi σ H λJ H1=>∃P:Nat->Nat->Hp->Prop,(∃m,P 0 m H1)/\∀i m H2,P i m H2->((J.stop i H2/\Q H2)\/(J.go i H2/\∀v H3,J.yld i H2 v H3->
 g v σ H3 λσ' H4=>σ.length=σ'.length/\(∀(k:Nat) (v:V),σ[k]?=some (some v)->σ'[k]?=some (some v))/\tb σ' H4 λH5=>∃m',m'<m/\P (i+1) m' H5))
def s1r{D:X0}{g:TG}{tb:TB}{tail:Z0->Sem Fin}(Z:X.calm=true)(t:X.xe=λ_ _=>False)(hT:∀it,zo9 e 1 it (.ref D) X.env t2 it2 [] (tail it))(hi:PI X t2 it2 wi)(hg:PG X t2 g)
 (c:∀it,PB X (tail it) (.compLoop e 1 it (.ref D) X.env) tb) (hs:∀v,foldedSetIterable it2 X.env v=pure v):PB X (zH6 e it2 it (.ref D) X.env) (.compLoop e 0 it (.ref D) X.env) (x1i wi g tb):=by
 intro a s O H Q I h;have y:=hi a s O H _ I h;rw[t]at y;refine y0 (K0 y (λx s1 h1=>y0 (X2 (y0 (R4 (hs x) (y0 (D0 (K0 h1 (λaa s2 h2=>?_) λ_ _ z=>z))))))) λ_ _ z=>z);let ⟨B,fp,tn,J,H1,rfl,I1,T,st,hf,P,⟨m0,p0⟩,C⟩:=h2;refine y0 (wpAny_runOwn ?_);have m:A2 (model X.prog X.w) X.A (.compLoop e 1 (.ref B) (.ref D) X.env) (λr n=>match r with | .ok f=>wpAny (model X.prog X.w) X.A (again (.compLoop e 0 it (.ref D) X.env)) (λfin n=>fin=.again (.compLoop e 0 it (.ref D) X.env)/\∃l,Inv X a O l n/\Q l) (λ_ _=>False) n | .error e=>cameBackBy (model X.prog X.w) X.A X.env (λ_ _=>False) e n) s2:=by
  refine n0q (hT _) (λk n=>∃i l,Inv X a O l n/\tn i n.heap/\(∀b∈fp,l b=none)/\P i k l) ?_ m0 ⟨0,H1,I1,st,λb c=>(hf b c).1,p0⟩;rintro k s3 ⟨i,N,J3,F,G,p3⟩;have j:∀{l:Hp},(∀b∈fp,l b=none)->∀b∈fp,zd4 X a l b:=λ{l} hn b c=>⟨hn b c,(hf b c).2⟩
  rcases C i k N p3 with ⟨stop,qn⟩|⟨go,step⟩
  .refine K0 (T.done X rfl rfl rfl Z i a s3 _ N (λ_ _=>False) J3 (j G) F stop) (λr s4 zz=>?_) λ_ _ z=>z;let ⟨hr,J4⟩:=zz
   subst hr;exact d0 ⟨rfl,N,J4,qn⟩
  .refine K0 (T.item X rfl rfl rfl Z i a s3 _ N (λ_ _=>False) J3 (j G) F go) (λr s4 zy=>?_) λ_ _ z=>z;let ⟨u,hr,h4⟩:=zy
   subst hr;refine K0 h4 (λ_ s5 zx=>?_) λ_ _ z=>z;let ⟨v,H5,J5,r5,y5,p,R⟩:=zx
   have S:=J5.pinned (j R) (T.obj _ _ p);have L:=hg _ s5 _ H5 v u _ S r5 (step v H5 y5);rw[t]at L;refine K0 L (λ_ s6 zw=>?_) λ_ _ z=>z;let ⟨U,H6,J6,hl,hk,h6⟩:=zw
   refine wpAny_tests_nil ?_;refine K0 (c _ _ s6 U H6 _ J6 h6) (λfin s8 ⟨M,H8,V,m',W,p8⟩=>⟨M,m',W,i+1,H8,V.zt7.weak hl hk,?_,λb c=>?_,p8⟩) λ_ _ z=>z
   .exact T.keep _ _ _ p λb c o e=>(V.pin (b,o) (j1s _ (j1s _ (u9 c e)))).1
   .let ⟨o,e,d⟩:=T.obj _ _ p b c;exact (V.pin (b,o) (j1s _ (j1s _ (u9 c e)))).2.1
 exact (hT _).st m (T.self X.A 0 _ _ _ st m)
def m1f(P:V0)(w:T0)(D:X0)(te:TE):TB:=λσ H Q=>te σ H λx H1=>∃b ns xs,x=.ref b/\H1 b=some (.tup (List.map V.int ns))/\H1 D=some (zg8 P w xs D)/\zw8 H1 xs/\xs.length<4000/\
 ∀xs',zw8 (upd H1 D (zg8 P w xs' D)) xs'->xs'.length<=xs.length+1->(∀p∈xs',p∈xs\/p=(ns.map Sum.inl,b))->(∀k:List Key,(∃c,(k,c)∈xs')↔k=ns.map Sum.inl\/∃c,(k,c)∈xs)->Q (upd H1 D (zg8 P w xs' D))
def zH8{D:X0}{g:TE}(d:X.xe=λ_ _=>False)(i:X.A.units+1<O2)(j:PE X elt g):PB X (zH5 e elt it (.ref D) X.env) (.compLoop e 1 it (.ref D) X.env) (m1f X.prog X.w D g):=by
 intro a s k H Q I h;have c:=j a s k H _ I h;rw[d]at c;refine y0 (y0 (K0 c (λv G l=>y0 (X2 ?_)) λ_ _ z=>z));let ⟨x,J,m,n,b,ns,L,rfl,o,p,r,t,q⟩:=l;cases n;exact y0 (s1s i m p r t o λM f u y B C F=>d0 (d0 ⟨rfl,_,u,q f y B C F⟩))
def z96(K:Fg)(P:V0)(w:T0)(wi wi2:TI)(g2:TG)(te:TE)(r:Nat):TE:=λσ H Q=>wi σ H λJ H1=>∀D,H1 D=none->r0k K J false 1 (List.replicate r none++y0c σ []) (λ_ H Q=>Q true H) (x1i wi2 g2 (m1f P w D te)) (upd H1 D (zg8 P w [] D)) λH2=>Q (.ref D) H2
def m1e{x0:Str}{xs:List Str}{i:Pos}{elt t2 it2:Expr}{pos:Pos}{r:TE}{a:TI}{g2:TG}(t:X.calm=true)(B:X.A.units+1<O2)(S:zx2 X (x0::xs) [] scope)(F:PI X (.Name x0 i) iter wi)
 (G:∀C zy0 zz6 fp cl,PG (X.zy1 (x0::xs) [] scope cl C zy0 zz6 fp) (.Name x0 i) (n0e 0)) (j:∀C zy0 zz6 fp cl,PI (X.zy1 (x0::xs) [] scope cl C zy0 zz6 fp) t2 it2 a) (k:∀C zy0 zz6 fp cl,PG (X.zy1 (x0::xs) [] scope cl C zy0 zz6 fp) t2 g2)
 (M:∀C zy0 zz6 fp cl,PE (X.zy1 (x0::xs) [] scope cl C zy0 zz6 fp) elt r) (hs:∀v,foldedSetIterable iter X.env v=pure v:=by intro _;rfl) (l:∀env v,foldedSetIterable it2 env v=pure v:=by intro _ _;rfl):
 PE X (.SetComp elt [⟨.Name x0 i,iter,[],0⟩,⟨t2,it2,[],0⟩] scope pos) (z96 X.K X.prog X.w wi a g2 r xs.length):=by
 intro c s N H Q I h;let ⟨cl,O,c1,c2⟩:=z0n λp P R=>I.ok.has p.1 (S.free p P R)
 refine X3 rfl hs O S.kind S.loc (thn (F c s N H _ I h) λxv u d=>thn d λU y f=>?_);let ⟨g,fp,tn,J,z,rfl,I2,T,st,V,q⟩:=f;refine s9 t S (by simp;lia) (λg D env=>x1k) m1g G t0u (λ_ _ _ _ _=>q0l)
  (λD C zy0 zz6 fp cl g=>s1r t rfl (λg=>x1j) (j C zy0 zz6 fp cl) (k C zy0 zz6 fp cl) (λg=>zH8 (X:=X.zy1 (x0::xs) [] scope cl C zy0 zz6 fp) rfl B (M C zy0 zz6 fp cl)) (l _)) c1 c2 I2 T st V q ?_
 rintro D C z s' W L ⟨m,hm⟩ Z;refine ⟨m,hm,λh' n=>⟨.ref D,z,?_,rfl,Z⟩⟩;exact W.turned (λb o hb e=>n.extBut b o hb e) L.free L.ne (.inr L.yng) L.cell L.pin
end
open Spec PyProof.Rows W SeqAt
def p0o(prog:V0)(w:T0)(A:A0)(vs:List Z0)(s:Y0):Prop:=∃ κ,(∀(Q:SortKind->Y0->Prop) (E:Z0->Y0->Prop),Q κ s->wpAny (model prog w) A (keyKind' vs.toArray) Q E s)/\
 ∀x∈vs,∀y∈vs,∀Q:Bool->Y0->Prop,(∀c,Q c s)->wpAny (model prog w) A (keyLt' κ x y) Q (λ_ _=>False) s
section
variable{prog:V0}{w:T0}{A:A0}{E:Z0->Y0->Prop}{s:Y0}
def m0f{n:Nat}{P:PySem.Fin->Y0->Prop}(ho:s.heap.get? a=some (Z5 "list" vs.toArray n))(hz:vs.length<=4000)
 (hs:2<=vs.length->∀m:J0,(∀b o,b≠a->s.heap.get? b=some o->m.get? b=some o)->p0o prog w A vs {s with heap:=m})
 (h:∀g:List Z0,g.Perm vs->P (.done (.ret .none)) {s with heap:=sortedHeap s.heap a vs g.toArray}):wpAny (model prog w) A (Builtin.«list.sort» ⟨[.ref a],[]⟩) P E s:=by
 obtain ⟨e1,i⟩:∃e1,(s.heap.update a (Obj.mapSeq λ_=>(#[]:Array Z0))).get? a=some (Z5 "list" #[] e1):=⟨_,get?_update_seq ho λ_=>#[]⟩;have d:(((s.heap.update a (Obj.mapSeq λ_=>#[])).push (Z5 "tuple" vs.toArray 0)).push (Z5 "list" #[] 0)).get? a=some (Z5 "list" #[] e1):=k1w _ (k1w _ i);have kp:∀b o,b≠a->s.heap.get? b=some o->(((s.heap.update a (Obj.mapSeq λ_=>#[])).push (Z5 "tuple" vs.toArray 0)).push (Z5 "list" #[] 0)).get? b=some o:=λb o t e=>
  k1w _ (k1w _ (by rw[f1s _ _ _ _ t];exact e))
 rw[list_sort_plain];refine y0 (listItems_at ho rfl ?_);refine y0 (listUpdate_at ho rfl ?_ (by rw[j1m,U2];lia) (j1e _));refine y0 (seqEpoch_at i rfl ?_);refine y0 (wpAny_newTuple ?_ (by show vs.length<=_;rw[U2];lia));refine y0 (wpAny_newList ?_ (j1e _));refine D0 ?_;dsimp only;by_cases j:vs.toArray.size<2
 .rw[H0 j,H0 j];refine y0 (d0 ?_);refine y0 (d0 ?_);refine y0 (seqEpoch_at d rfl ?_);refine y0 (listUpdate_at d rfl ?_ (j1e _) (by grind));simp only[bne_self_eq_false];have e:(arrOf (SortSt.mk' general' (vs.toArray.zip vs.toArray) #[] 7 none)).map (·.2)=vs.toArray:=by
   grind
  refine d0 ?_;have:=h vs (List.Perm.refl _);rw[<-e]at this;exact this
 .rw[O0 j,O0 j];have l:2<=vs.length:=by rw[j1m]at j;lia
  let ⟨r,u,v⟩:=hs l _ kp;refine y0 (u _ _ ?_);generalize z:({s with heap:=((s.heap.update a (Obj.mapSeq λ_=>(#[]:Array Z0))).push (Z5 "tuple" vs.toArray 0)).push (Z5 "list" #[] 0)}:Y0)=B at*
  have mem:=λp k=>by
   have k:p∈(vs.toArray.zip vs.toArray):=k;simp at k;exact (h1m k).1
  refine y0 (K0 (SRT.zh0 (Q:=λ_ c=>(arrOf c).Perm (arrOf (SortSt.mk' r (vs.toArray.zip vs.toArray) #[] 7 none))/\O3 c=none)
   ⟨λx y hx C D F=>by subst F;exact v x.1 hx y.1 C _ λ_=>rfl⟩ rfl mem rfl rfl (λc p f=>⟨p,f⟩) B rfl) ?_ λ_ _ e=>e.elim)
  rintro ⟨⟨⟩,c⟩ D ⟨rfl,pm,G⟩;have pp:((arrOf c).map (·.2)).toList.Perm vs:=by
   have e:(arrOf (SortSt.mk' r (vs.toArray.zip vs.toArray) #[] 7 none)).toList.map (·.2)=vs:=by
    simp;exact List.map_snd_zip (k1q _)
   rw[Array.toList_map];exact (pm.toList.map _).trans (a1i e)
  subst z;refine y0 (seqEpoch_at d rfl ?_);refine y0 (listUpdate_at d rfl ?_ (j1e _) (by rw[<-Array.length_toList,pp.length_eq,U2];lia));rw[G];simp only[bne_self_eq_false];have:=h _ pp;exact d0 this
def s1q(b:Bool){x y:Int}{t u:Tok}{Q:Bool->Y0->Prop}(h:∀c,Q c s):wpAny (model prog w) A (oneLt' b (.int x t) (.int y u)) Q E s:=by
 cases b with
 |true=>exact kat_lt_int (h _)
 |false=>exact kat_one _ _ (p0r λc=>h c)
theorem m0e{b fin:Bool}{Q:Bool->Y0->Prop}(h:∀c,Q c s):∀(l:List (Z0×Value)) (i:Nat),(∀p∈l,(∃a t,p.1=Value.int a t)/\∃a t,p.2=Value.int a t)->KatLex prog w A b fin Q l i s
 | [],i,_=>kat_nil (h _)
 |(p,q)::l,i,d=>by
  let ⟨⟨x,t,e1⟩,y,u,e2⟩:=d _ (k1g ..);cases e1;cases e2;refine kat_cons (e1b x t y u prog w _ _ ?_);exact kat_go (λ_=>kat_yes (m0e h l (i+1) λp m=>d p (k1o _ m))) λ_=>kat_no (s1q _ h)
def za1(k:Nat)(h:J0)(v:Z0):Prop:=∃a dd items n sl,v=.ref a/\h.get? a=some {cls:=.type "tuple",dict:=dd,data:=.seq items n,slots:=sl}/\t1h items/\items.size=k
theorem za1.i(t:za1 k h v):zi9 h v:=let ⟨a,b,items,n,sl,e,g,i,_⟩:=t;⟨a,b,items,n,sl,e,g,i⟩
def b0q(I:A.units<O2)(B:2<=vs.length)(b:∀v∈vs,za1 k s.heap v):p0o prog w A vs s:=by
 by_cases J:k=0
 .subst J;obtain ⟨v1,C,rfl⟩:∃v1 C,vs=v1::C:=by
   cases vs with
   |nil=>simp at B
   |cons x y=>exact ⟨x,y,rfl⟩
  let ⟨a,j,items,n,sl,e,g,i,hz⟩:=b v1 (k1g ..);have L:=Array.size_eq_zero_iff.mp hz;subst L;exact ⟨oneType',λQ E q=>d0r B (λv o=>(b v o).i) rfl ⟨a,j,n,sl,e,g⟩ q,λx hx y r Q q=>j0h I (b x hx).i (b y r).i q⟩
 .have zl0:∀l:List Z0,(∀v∈l,za1 k s.heap v)->∃fs,KatTups s.heap l fs/\fs.length=l.length/\∀f∈fs,∃i t,f=Value.int i t:=by
   intro l
   induction l with
   |nil=>intro _;exact ⟨[],KatTups.nil,rfl,λf c=>by cases c⟩
   |cons v l M=>
    intro D;let ⟨fs,u,F,z⟩:=M λv m=>D v (k1o _ m)
    let ⟨a,j,items,n,sl,rfl,g,i,hz⟩:=D v (k1g ..);have h0:0<items.size:=by lia
    refine ⟨items[0]::fs,a1d g rfl rfl (j1h h0) u,by rw[k1k,k1k,F],λf c=>?_⟩;rcases j1n.mp c with rfl |c
    .exact i _ (by simp)
    .exact z f c
  let ⟨fs,u,F,z⟩:=zl0 vs b;refine ⟨tuples' true,λQ E q=>kat_kind (T:=.type "int") u (by lia) (λv o=>?_) rfl q,λx hx y r Q q=>?_⟩
  .let ⟨i,t,rfl⟩:=z v o;exact .now
  .let ⟨a,j,items,n,sl,rfl,g,i,hz⟩:=b x hx;let ⟨U,N,d,V,O,rfl,P,R,S⟩:=b y r;exact kat_lt g rfl P rfl (m0e q _ _ λp G=>⟨i _ (h1m G).1,R _ (h1m G).2⟩)
def TupP(h:J0)(v:Z0):Prop:=∃a dd n sl b x t,v=.ref a/\h.get? a=some {cls:=.type "tuple",dict:=dd,data:=.seq #[.ref b,.int x t] n,slots:=sl}/\zi9 h (.ref b)
def m1d{x y:Z0}{Q:Bool->Y0->Prop}(j:A.units<O2)(k:zi9 s.heap x)(ty:zi9 s.heap y)(h:∀c,Q c s):wpAny (model prog w) A (eqBool x y) Q E s:=by
 have key:∀{v:Z0},zi9 s.heap v->∃a d,v=.ref a/\D3 (b4 prog w) s.heap d a:=λ{v} t=>by
  let ⟨a,u,items,n,sl,rfl,g,i⟩:=t;have:∀l:List Z0,(∀v∈l,∃i t,v=Value.int i t)->∃d,ItemsAre (b4 prog w) d l:=by
   intro l
   induction l with
   |nil=>intro _;exact ⟨[],.nil⟩
   |cons v l o=>
    intro f;let ⟨d,e⟩:=o λv m=>f v (k1o _ m)
    let ⟨i,t,rfl⟩:=f v (k1g ..);exact ⟨Sum.inl i::d,.cons (q0e prog w i t) e⟩
  let ⟨d,e⟩:=this items.toList i;exact ⟨a,d,rfl,_,items,n,g,rfl,rfl,e⟩
 let ⟨a,d,rfl,p⟩:=key k;let ⟨b,z,rfl,r⟩:=key ty;exact D5 j p r (h _)
def g0w(M:A.units<O2)(h2:2<=vs.length)(B:∀v∈vs,TupP s.heap v):p0o prog w A vs s:=by
 have zl0:∀l:List Z0,(∀v∈l,TupP s.heap v)->∃fs,KatTups s.heap l fs/\fs.length=l.length/\∀f∈fs,zi9 s.heap f:=by
  intro l
  induction l with
  |nil=>intro _;exact ⟨[],KatTups.nil,rfl,λf N=>by cases N⟩
  |cons v l V=>
   intro O;let ⟨fs,C,P,R⟩:=V λv m=>O v (k1o _ m)
   let ⟨a,S,n,sl,b,x,t,rfl,g,D⟩:=O v (k1g ..);refine ⟨.ref b::fs,a1d g rfl rfl rfl C,by rw[k1k,k1k,P],λf N=>?_⟩
   grind
 let ⟨fs,C,P,R⟩:=zl0 vs B;refine ⟨tuples' false,λQ E q=>kat_kind (T:=.type "tuple") C (by lia) (λv W=>?_) rfl q,λx hx y X Q q=>?_⟩
 .let ⟨a,S,items,n,sl,rfl,g,i⟩:=R v W;exact (Looks.ld g).andThen .now
 .let ⟨a,S,n,sl,b,z,t,rfl,g,D⟩:=B x hx;let ⟨a',Z,n',aa,U,z',t',rfl,g',k⟩:=B y X;refine kat_lt g rfl g' rfl (kat_cons (m1d M D k λc=>kat_go (λ_=>kat_yes (m0e q _ _ λp hp=>?_)) λ_=>kat_no ?_))
  .simp_all
  .let ⟨c,F,items,nc,G,e,I,ic⟩:=D;let ⟨c',o,j,J,r,e',u,L⟩:=k;cases e;cases e';refine kat_one _ _ ?_;show wpAny (model prog w) A (richCompare .Lt (.ref b) (.ref U)) _ _ s;refine wpAny_richCompare_same_room ⟨_,I,rfl⟩ ⟨_,u,rfl⟩ g1e ?_ M;exact S5 g1e ⟨_,I,rfl⟩ c1z (d1l _ _) (n0p b U items j nc J F o G r ic L) ⟨I,u,λd=>⟨nofun,q d⟩⟩
end
open Spec PyProof.Rows Calls W
def ItS(it d n ep:X0)(i:Nat)(h:J0):Prop:=∃x0 f ok ov,h.get? it=some {cls:=.type "dict_itemiterator",dict:=none,data:=.fields #[x0,.bool f,.ref d,.int i 0,.int n 0,.int ep 0,ok,ov],slots:=#[]}/\(x0=.none\/∃(a:X0) (oa:Obj),x0=G1 a/\h.get? a=some oa/\a≠it)
def ItF(it d n ep:X0)(i:Nat)(x0:Z0)(h:J0):Prop:=∃f ok ov,h.get? it=some {cls:=.type "dict_itemiterator",dict:=none,data:=.fields #[x0,.bool f,.ref d,.int i 0,.int n 0,.int ep 0,ok,ov],slots:=#[]}
def ItF.s{it d n a:X0}{i:Nat}{h:J0}(x:ItF it d n a i .none h):ItS it d n a i h:=let ⟨f,ok,b,e⟩:=x;⟨.none,f,ok,b,e,.inl rfl⟩
def ItS.keep{it d n a:X0}{i:Nat}(x:ItS it d n a i h)(k:∀b o,h.get? b=some o->∃c,h'.get? b=some c)(g:∀o,h.get? it=some o->h'.get? it=some o):ItS it d n a i h':=by
 let ⟨x0,f,ok,j,e,r⟩:=x;refine ⟨x0,f,ok,j,g _ e,r.imp id ?_⟩
 grind
section
variable{prog:V0}{w:T0}{A:A0}{E:Z0->Y0->Prop}{s:Y0}{it d:X0}{i ep:Nat}{es:Array M1}{o:Obj}
def i0t{R:Z0->Y0->Prop}(hs:(d==N2)=false)(ho:s.heap.get? d=some o)(hx:o.ExactDict)(h:R (.ref s.heap.objs.size) {s with heap:=s.heap.push {cls:=.type "dict_items",data:=.fields #[.ref d]}}):
 wpAny (model prog w) A (call (.builtin "dict.items") [.ref d]) R E s:=by
 have t:s.TypeIs (.ref d) "dict":=⟨o,ho,hx.1⟩;refine Z1 f1e t PySem.F.entry_dict_items ?_ (PySem.F.args_dict_items_1 _);refine y0 (y0 (V5 t (d0 ?_)));unfold Builtin.Dict.showsAll;rw[hs];exact y0 (d0 (y0 (N0 (d0 ⟨_,rfl,h⟩))))
def i0s{v:X0}{Q:Z0->Y0->Prop}(a:s.heap.IsItemsView v d)(ho:s.heap.get? d=some o)(hd:o.data=.dict es ep)
 (h:∀h',h'=s.heap.push {cls:=.type "dict_itemiterator",data:=.fields #[.none,.bool false,.ref d,.int 0 0,.int es.size 0,.int ep 0,.none,.none]}->ItS s.heap.objs.size d es.size ep 0 h'->Q (.ref s.heap.objs.size) {s with heap:=h'}):wpAny (model prog w) A (pyIter (.ref v)) Q E s:=by
 let ⟨f,b,e,c⟩:=id a;refine G3 a.typeIs e1p (Z1 e1p a.typeIs PySem.F.entry_dict_items_iter ?_ (PySem.F.args_dict_items_iter_1 _));refine y0 (d0 (y0 (y0 (V1 b c rfl (d0 (y0 (y0 (E3 ho hd (y0 (U4 ho hd ?_))))))))));simp only[show Builtin.Dict_items.ownsTuple "dict_itemiterator"=true by decide,N1];refine N0 (d0 ⟨_,rfl,"dict_itemiterator",_,⟨_,k1s _ rfl,rfl⟩,i1f.lookup,?_⟩) (by simp only[sizeOk,Builtin.Dict_items.ownedTupleFields,j1m,k1b,k1k,g1t,U2];lia);exact h _ rfl ⟨.none,false,.none,.none,by simp[G1];exact k1s _ rfl,.inl rfl⟩
def t0p{Q:Option Z0->Y0->Prop}(O:A.handled=none)(hit:ItS it d es.size ep i s.heap)(ho:s.heap.get? d=some o)(hd:o.data=.dict es ep)(R:i<=es.size)
 (h:∀(z:i<es.size) h',ItS it d es.size ep (i+1) h'->(ItF it d es.size ep i .none s.heap->ItF it d es.size ep (i+1) (G1 s.heap.objs.size) h')->h'.get? s.heap.objs.size=some {cls:=.type "tuple",data:=.seq #[es[i].key,es[i].val]}->h'.objs.size=s.heap.objs.size+1->(∀b o,b≠it->s.heap.get? b=some o->h'.get? b=some o)->Q (some (.ref s.heap.objs.size)) {s with heap:=h'})
 (hn:i=es.size->∀h',Heap.ExtBut it s.heap h'->Q none {s with heap:=h'}):wpAny (model prog w) A (pyNext (.ref it)) Q E s:=by
 let ⟨x0,f,ok,G,c,P⟩:=hit;have ty:s.TypeIs (.ref it) "dict_itemiterator":=⟨_,c,rfl⟩;have lt:=k1n c;refine y0 (T3 (wpAny_callSpecial?_slot ty i1f (Z1 i1f ty PySem.F.entry_dict_itemiterator_next
  (y0 (d0 (y0 (y0 (y0 (Z4 ty (d0 (y0 (E5 c rfl ?_))))))))) (PySem.F.args_dict_itemiterator_next_1 _))))
 simp only[show Builtin.Dict_items.ownsTuple "dict_itemiterator"=true by decide,N1];show wpAny _ _ (if (Value.ref d==Value.none)=true then _ else _) (λr S=>_) _ s;refine y0 (d0 (y0 (E3 ho hd ?_)));rw[O0 (by simp)];refine y0 (d0 (y0 (U4 ho hd ?_)));rw[O0 (by simp)];refine d0 ?_;by_cases z:i<es.size
 .simp only[show ¬((i:Int)<0)by lia,K1,j1c,j1h z];refine y0 (y0 (Z4 ty (d0 (y0 (Y5 ty ?_)))));show wpAny _ _ (setField (.ref it) 3 (G1 ((i:Int)+1)) >>= λ_=>_) _ _ s;refine y0 (T1 c (by simp) λk e1 t=>?_);have u:k.get? it=some {cls:=.type "dict_itemiterator",dict:=none,data:=.fields #[x0,.bool f,.ref d,.int ((i+1:Nat):Int) 0,.int es.size 0,.int ep 0,ok,G],slots:=#[]}:=by simpa[G1]using e1
  have v:Shared.TypeIs {s with heap:=k} (.ref it) "dict_itemiterator":=⟨_,u,rfl⟩;refine y0 (D0 (y0 (Y5 v (y0 (Y5 v ?_)))));show wpAny _ _ (Builtin.Dict_items.pairFromOwner (.ref it) 6 es[i].key es[i].val) _ _ {s with heap:=k};unfold Builtin.Dict_items.pairFromOwner;have sz1:k.objs.size=s.heap.objs.size:=t.1;have y:∀b o,b≠it->s.heap.get? b=some o->(k.push {cls:=.type "tuple",data:=.seq #[es[i].key,es[i].val]}).get? b=some o:=λb o B e=>k1w _ (t.extBut b o B e)
  have e2:=k1w {cls:=.type "tuple",data:=.seq #[es[i].key,es[i].val]} u;have t2:(k.push {cls:=.type "tuple",data:=.seq #[es[i].key,es[i].val]}).get? s.heap.objs.size=some {cls:=.type "tuple",data:=.seq #[es[i].key,es[i].val]}:=by rw[<-sz1];exact k1s _ rfl
  have I:(k.push {cls:=.type "tuple",data:=.seq #[es[i].key,es[i].val]}).objs.size=s.heap.objs.size+1:=by rw[j1j,sz1]
  show wpAny _ _ (Builtin.Dict_items.ownedTupleIsFree (.ref it) >>= λ_=>_) _ _ {s with heap:=k.push {cls:=.type "tuple",data:=.seq #[es[i].key,es[i].val]}};rw[sz1];generalize k.push {cls:=.type "tuple",data:=.seq #[es[i].key,es[i].val]}=C at*
  have j:∀g,Heap.SameBut it C g->ItS it d es.size ep (i+1) g->(ItF it d es.size ep i .none s.heap->ItF it d es.size ep (i+1) (G1 s.heap.objs.size) g)->Q (some (.ref s.heap.objs.size)) {s with heap:=g}:=λg p st fr=>
   h z g st fr (p.extBut _ _ (i1p lt) t2) (by rw[p.1,I]) λb o B e=>p.extBut b o B (y b o B e)
  refine y0 ?_;unfold Builtin.Dict_items.ownedTupleIsFree;rcases P with rfl |⟨a,D,rfl,ha,l⟩
  .refine y0 (V1 e2 rfl (x:=.none) rfl (d0 ?_));simp only[N1];refine y0 (V1 e2 rfl (x:=ok) rfl (y0 (V1 e2 rfl (x:=G) rfl ?_)));refine y0 (T1 e2 (by simp) λg e3 m=>y0 (T1 e3 (by simp) λU e4 J=>y0 (T1 e4 (by simp) λV e5 L=>y0 (T1 e5 (by simp) λN e6 M=>?_))));have p:=(d1y (d1y (d1y m J) L) M:Heap.SameBut it C N);exact y0 (Q4 (d0 (d0 ⟨_,rfl,d0 (j N p ⟨_,_,_,_,e6,.inr ⟨_,_,rfl,p.extBut _ _ (i1p lt) t2,i1p lt⟩⟩ λ_=>⟨_,_,_,e6⟩)⟩)))
  .have n:=y a D l ha;have no:∀{g:J0},ItF it d es.size ep i .none s.heap->ItF it d es.size ep (i+1) (G1 s.heap.objs.size) g:=λ⟨f,ok,G,e⟩=>by rw[c]at e;simp[G1]at e
   refine y0 (V1 e2 rfl (x:=G1 a) rfl ?_);show wpAny _ _ (loadIfAlive ((a:Int).toNat) >>= λ_=>_) _ _ _;rw[j1c];refine y0 (kdx_alive n ?_);simp only[Option.isNone_some,k1a,K1];refine y0 (V1 e2 rfl (x:=.bool f) rfl ?_);cases f with
   |true=>
    rw[O0 (show ¬((Value.bool true !=Value.bool true)=true)by decide)];refine d0 ?_;simp only[k1a,K1];exact d0 (d0 ⟨_,rfl,d0 (j C (b1k _ _) ⟨_,_,_,_,e2,.inr ⟨a,D,rfl,n,l⟩⟩ no)⟩)
   |false=>
    rw[H0 (show (Value.bool false !=Value.bool true)=true from rfl)];refine y0 (T1 e2 (by simp) λg e3 m=>d0 ?_);simp only[k1a,K1];exact d0 (d0 ⟨_,rfl,d0 (j g m ⟨_,_,_,_,e3,.inr ⟨a,D,rfl,(m:Heap.SameBut it C g).extBut a D l n,l⟩⟩ no)⟩)
 .simp only[show ¬((i:Int)<0)by lia,K1,j1c,f1b (d1f z)];refine y0 (y0 (Z4 ty (d0 ?_)));show wpAny _ _ (setField (.ref it) 2 .none >>= λ_=>_) _ _ s;refine y0 (B1 c rfl (by simp) (y0 ?_));refine y0 (N0 (y0 (R4 (by rfl) (N0 ?_ (by size_fits)))) (by size_fits));refine y0 (O5 ?_);rw[show A.in1.handled=none from O];refine y0 (d0 (wpAny_throw ?_));exact y0 (p4 ⟨_,k1s _ rfl,rfl⟩ p5 (d0 (hn (by lia) _ (((j1d ..).extBut.push _).push _))))
def m1c{b:List Expr}{e:Nat}{n:X0}{Q:Unit->Y0->Prop}(hit:ItF it d n ep i (G1 a) s.heap)(h:∀h',ItF it d n ep i .none h'->Heap.SameBut it s.heap h'->Q () {s with heap:=h'}):wpAny (model prog w) A (V4 (.Tuple b e pos) (.ref it) (.ref a)) Q E s:=by
 let ⟨f,ok,g,c⟩:=id hit;refine y0 (wpAny_load c ?_);show wpAny _ _ (if (["enumerate","zip","dict_itemiterator","dict_reverseitemiterator","odict_iterator","itertools.zip_longest","itertools.pairwise"].contains "dict_itemiterator"&&(#[G1 a,.bool f,.ref d,.int i 0,.int n 0,.int ep 0,ok,g]:Array Z0)[0]? ==some (G1 a))=true then _ else _) Q E s;rw[H0 (by simp)];exact T1 c (by simp) λh' j k=>h h' ⟨_,_,_,j⟩ k
structure Made(es:Array M1)(I:X0)(h:J0)(as:List X0):Prop where
 rise:as.Pairwise (·<·)
 above:∀a∈as,I<a
 obj:∀(j:Nat) (a:X0),as[j]?=some a->∃z:j<es.size,h.get? a=some {cls:=.type "tuple",data:=.seq #[es[j].key,es[j].val]}
def Made.lt(m:Made es I h as)(ha:a∈as):a<h.objs.size:=by
 let ⟨j,b⟩:=g1y.mp ha;let ⟨_,e⟩:=m.obj j a b;exact k1n e
def Made.keep(m:Made es I h as)(k:∀b o,I<b->h.get? b=some o->h'.get? b=some o):Made es I h' as:=
 ⟨m.rise,m.above,λj a c=>let ⟨z,e⟩:=m.obj j a c;⟨z,k a _ (m.above a (k1m c)) e⟩⟩
def Made.snoc(m:Made es I h as)(h1:∀b∈as,b<a)(f:I<a)(g:∃z:as.length<es.size,h.get? a=some {cls:=.type "tuple",data:=.seq #[es[as.length].key,es[as.length].val]}):Made es I h (as++[a]):=by
 refine ⟨List.pairwise_append.mpr ⟨m.rise,d1k _ _,λx hx y d=>by rw[k1d.mp d];exact h1 x hx⟩,λx hx=>?_,λj x c=>?_⟩
 .rcases j1g.mp hx with hx |hx
  .exact m.above x hx
  .simp_all
 .by_cases e:j<as.length
  .rw[j1q e]at c;exact m.obj j x c
  .grind
def x1h{S:X0}(hh:A.handled=none)(hSI:S<I)(hSd:d≠S)(hId:d≠I)(hd:o.data=.dict es ep)(hz:es.size<=sizeLine)(res:Z0){h1:J0}{R:Result->Y0->Prop}
 (hR:∀h' tk acc c as,(∀b o,b≠S->b≠I->h1.get? b=some o->h'.get? b=some o)->h'.get? S=some {cls:=.type "list",dict:=none,data:=.seq acc c,slots:=#[]}->as.length=es.size->Made es I h' as->acc.toList=as.map Value.ref->R (.ok (.ret res)) {s with heap:=h',toks:=tk}):
 ∀(k i:Nat) (h:J0) (tk c:Nat) (acc:Array Z0) (as:List X0),es.size-i=k->i<=es.size->ItS I d es.size ep i h->h.get? d=some o->(∀b o,b≠S->b≠I->h1.get? b=some o->h.get? b=some o)->
  h.get? S=some {cls:=.type "list",dict:=none,data:=.seq acc c,slots:=#[]}->acc.toList=as.map Value.ref->as.length=i->Made es I h as->A2 (model prog w) A (.builtin "list.extend.loop" ⟨[.ref S,.ref I,res],[]⟩) R {s with heap:=h,toks:=tk}:=by
 have nSI:=k1i hSI;intro k
 induction k with
 |zero=>
  intro i h tk c acc as hk hi st ho kp hS ha hl m;refine T4 d1t ?_;refine y0 (t0p hh st ho hd hi (fun z=>absurd z (by lia)) fun _ h' eb=>?_);exact d0 (hR h' tk acc c as (fun b o n1 n2 e=>eb b o n2 (kp b o n1 n2 e)) (eb S _ nSI hS) (by lia) (m.keep fun b o lt e=>eb b o (i1p lt) e) ha)
 |succ k ih=>
  intro i h tk c acc as hk hi st ho kp hS ha hl m;have hsz:acc.size=i:=by rw[<-Array.length_toList,ha,k1v,hl]
  have iI:I<h.objs.size:=by let ⟨x0,f,ok,ov,e,_⟩:=st;exact k1n e
  refine T4 d1t ?_;refine y0 (t0p hh st ho hd hi (fun z h' st' _ t' z' k'=>?_) fun z=>absurd z (by lia));have hS':=k' S _ nSI hS;have up:∀b o,b≠S->h'.get? b=some o->(h'.update S (Obj.mapSeq (·.push (Value.ref h.objs.size)))).get? b=some o:=fun b o hb e=>(j1t _ _ (j1k hb)).trans e
  refine y0 (S4 hS' rfl (d0 ⟨plainId_quiet f1w _,?_⟩) (by (simp_all;lia)) (by (simp at *;lia)));have hS2:=j1x (Obj.mapSeq (·.push (Value.ref h.objs.size))) hS' rfl;refine ih (i+1) _ tk _ (acc.push (Value.ref h.objs.size)) (as++[h.objs.size]) (by lia) z (st'.keep (fun b o e=>?_) fun o e=>up I o (j1k nSI) e) (up d _ hSd (k' d _ hId ho)) (fun b o n1 n2 e=>up b o n1 (k' b o n2 (kp b o n1 n2 e))) hS2
   (by simp_all) (by simp_all) (Made.snoc (m.keep fun b o lt e=>up b o (i1p (b1d hSI lt)) (k' b o (i1p lt) e)) (fun b hb=>m.lt hb) iI ⟨by lia,?_⟩)
  .grind
  .grind
def i0r{v:X0}{R:List Z0->Y0->Prop}(N:A.handled=none)(L:s.heap.IsItemsView v d)(ho:s.heap.get? d=some o)(hd:o.data=.dict es ep)(hz:es.size<=sizeLine)
 (h:∀h' tk as,(∀b o,s.heap.get? b=some o->h'.get? b=some o)->as.length=es.size->Made es (s.heap.objs.size+1) h' as->R (as.map Value.ref) {s with heap:=h',toks:=tk}):wpAny (model prog w) A (collect (.ref v)) R E s:=by
 have G:v<s.heap.objs.size:=let ⟨_,e,_⟩:=L;k1n e
 have hdl:=k1n ho;unfold collect;refine y0 (wpAny_runValue (T4 entry_proto_collect' ?_));rw[f1z PySem.F.plain_proto_collect _];show wpAny _ A.in1 (newList [] >>= λl=>again (.builtin "list.__iadd__" ⟨[l,.ref v],[]⟩)) _ _ s;refine y0 (N0 (d0 ⟨plainId_quiet d1j _,T4 entry_list_iadd' ?_⟩));rw[f1z d1j _];generalize B:s.heap.objs.size=S at*
 have O:(s.heap.push {cls:=.type "list",data:=.seq ([]:List Z0).toArray}).get? S=some {cls:=.type "list",data:=.seq #[]}:=by rw[<-B];exact k1s _ rfl
 have sz:(s.heap.push {cls:=.type "list",data:=.seq ([]:List Z0).toArray}).objs.size=S+1:=by rw[j1j,B]
 show wpAny _ A.in1 (Builtin.List.listExtendWith (.ref S) (.ref v) (.ref S)) _ _ _;unfold Builtin.List.listExtendWith;have g:(s.heap.push {cls:=.type "list",data:=.seq ([]:List Z0).toArray}).IsItemsView v d:=let ⟨q,e,r⟩:=L;⟨q,k1w _ e,r⟩
 refine y0 (B4 (T:="dict_items") (s:={s with heap:=s.heap.push {cls:=.type "list",data:=.seq ([]:List Z0).toArray}}) g.typeIs ?_);have P:Builtin.List.listSameRef (.ref S) (.ref v)=false:=by simp[Builtin.List.listSameRef];exact i1p G
 simp only[P,show (Value.type "dict_items"==Value.type "list")=false by decide,show (Value.type "dict_items"==Value.type "tuple")=false by decide,Bool.or_false,k1a,K1];refine y0 (i0s (s:={s with heap:=s.heap.push {cls:=.type "list",data:=.seq ([]:List Z0).toArray}}) g (k1w _ ho) hd λI e2 i=>?_);dsimp only at e2 i ⊢;rw[sz]at i ⊢;have C:∀b o,(s.heap.push {cls:=.type "list",data:=.seq ([]:List Z0).toArray}).get? b=some o->I.get? b=some o:=λb o e=>by rw[e2];exact k1w _ e
 have key:∀(h:J0) (c tk:Nat),(∀b o,b≠S->I.get? b=some o->h.get? b=some o)->h.get? S=some {cls:=.type "list",data:=.seq #[] c}->A2 (model prog w) A (.builtin "list.extend.loop" ⟨[.ref S,.ref (S+1),.ref S],[]⟩)
  (λq J=>∃h' tk f c as,q=.ok (.ret (.ref S))/\J={s with heap:=h',toks:=tk}/\(∀b o,s.heap.get? b=some o->h'.get? b=some o)/\h'.get? S=some {cls:=.type "list",dict:=none,data:=.seq f c,slots:=#[]}/\as.length=es.size/\Made es (S+1) h' as/\f.toList=as.map Value.ref) {s with heap:=h,toks:=tk}:=by
  intro h c tk D M;refine x1h (h1:=s.heap) N (h1r S) (k1i hdl) (k1i (h1w hdl)) hd hz _ (λh' tk f c as m n p t u=>⟨h',tk,f,c,as,rfl,rfl,λb o e=>m b o (λz=>?_) (λz=>?_) e,n,p,t,u⟩) es.size 0 h tk c #[] [] (f1n _) (j1e _) (i.keep (λb o e=>?_) λo e=>D _ o (a1w S) e) (D d _ (k1i hdl) (C d _ (k1w _ ho)))
   (λb o n1 n2 e=>D b o n1 (C b o (k1w _ e))) M rfl rfl ⟨List.Pairwise.nil,(λ_ z=>nomatch z),λj a Q=>by simp at Q⟩
  .by_cases y:b=S
   .subst y;exact ⟨_,M⟩
   .exact ⟨o,D b o y e⟩
  .exact k1i (B▸Heap.lt_size e) z
  .exact k1i (h1w (B▸Heap.lt_size e)) z
 have k:=C S _ O;refine y0 (D0 (kdx_hint (let ⟨q,e,r⟩:=g;⟨q,C v q e,r.1⟩) ?_));refine wpAny_ite_split (λ_=>?_) (λ_=>d0 ⟨plainId_quiet f1w _,W4 (key I 0 s.toks (λb o _ e=>e) k) λq J z=>?_⟩)
 .refine y0 (D4 (y0 ?_));show wpAny _ _ (updateSeq S (·.push .none) >>= λ_=>updateSeq S (·.pop)) _ _ _;refine y0 (S4 k rfl ?_);have e3:=j1x (Obj.mapSeq (·.push Value.none)) k rfl;refine S4 (hz:=by seq_fits) e3 rfl ?_;have e4:=j1x (Obj.mapSeq (·.pop)) e3 rfl;refine d0 ⟨plainId_quiet f1w _,W4 (key _ _ _ (λb o y e=>(j1t _ _ (j1k y)).trans ((j1t _ _ (j1k y)).trans e)) e4) λq J z=>?_⟩;let ⟨h',tk,f,c,as,rfl,rfl,m,n,p,t,u⟩:=z;show wpAny _ A (load S >>= λ_=>_) _ _ _;exact y0 (wpAny_load n (d0 (by rw[u];exact h h' tk as m p t)))
 .let ⟨h',tk,f,c,as,rfl,rfl,m,n,p,t,u⟩:=z;show wpAny _ A (load S >>= λ_=>_) _ _ _;exact y0 (wpAny_load n (d0 (by rw[u];exact h h' tk as m p t)))
end
open Spec PyProof.Rows Calls W
section
variable{prog:V0}{w:T0}{A:A0}{E:Z0->Y0->Prop}{s:Y0}
def p0n{Q:Z0->Y0->Prop}(h:wpAny (model prog w) A.in1 (collect v) (λvs a=>vs.length<=4000/\(2<=vs.length->∀i:J0,(∀b o,a.heap.get? b=some o->i.get? b=some o)->p0o prog w A.in1.in1 vs {a with heap:=i})/\
 ∀(c:List Z0) (h':J0) (e:Nat),c.Perm vs->(∀b o,a.heap.get? b=some o->h'.get? b=some o)->h'.get? a.heap.objs.size=some (Z5 "list" c.toArray e)->Q (.ref a.heap.objs.size) {a with heap:=h'}) E s):wpAny (model prog w) A (call (.builtin "sorted") [v]) Q E s:=by
 refine Calls.call_function_entry kind_sorted plain_sorted entry_sorted (args_sorted1 _) ?_;refine y0 (d0 (y0 (K0 h (λvs a ⟨j,hs,k⟩=>?_) λ_ _ z=>z)));refine y0 (wpAny_newList ?_ (by rw[U2];lia));have d:(a.heap.push (Z5 "list" vs.toArray 0)).get? a.heap.objs.size=some (Z5 "list" vs.toArray 0):=k1s _ rfl;refine y0 (D0 (Z1 slot_list_sort ⟨_,d,rfl⟩ entry_list_sort (m0f d j (λl i m=>hs l i λb o e=>m b o (k1i (k1n e)) (k1w _ e)) λc n=>⟨_,rfl,?_⟩) (args_list_sort _)));let ⟨e,p⟩:=sortedHeap_at d;refine d0 ⟨_,rfl,k c _ e n (λb r g=>?_) (by simpa using p)⟩;have f:=k1n g;rw[sortedHeap_old (k1i f) (by rw[size_push'];exact h1w f),b1g _ _ _ (k1i f)];exact g
end
section
variable{X:Cx}
def x1g{b:X0}{ns:List Int}(ok:HOk P w H h)(e:H b=some (.tup (ns.map V.int))):za1 ns.length h (.ref b):=by
 let ⟨_,its,r,⟨cls,dd,data,sl⟩,ho,hc,⟨n,hd⟩,hdd⟩:=(ok b _ e);subst hc hd hdd;refine ⟨b,_,its.toArray,n,sl,rfl,ho,fun v hv=>j0g r v (by solve_by_elim),?_⟩;have:=r.length
 grind
def za1.keep(t:za1 k h v)(q:∀b o,h.get? b=some o->h'.get? b=some o):za1 k h' v:=let ⟨a,c,items,n,sl,e,g,r⟩:=t;⟨a,c,items,n,sl,e,q _ _ g,r⟩
def i0q:∀{vs:List Z0} {as:List X0},vs.Perm (as.map Value.ref)->∃bs:List X0,bs.Perm as/\vs=bs.map Value.ref:=fun {vs as} h=>by
 let ⟨bs,p,e⟩:=STB.zu1 h as rfl
 solve_by_elim
theorem p0m:∀l:List X0,zy8 (l.map V.ref) (l.map Value.ref)
 | []=>.nil
 |a::l=>.cons rfl (p0m l)
def q1g(P:V0)(w:T0):List V->Hp->VK->Prop:=λvs H Q=>∃(D:X0) (xs:List (List Key×Addr)) (k:Nat),vs=[.ref D]/\H D=some (zg8 P w xs D)/\zw8 H xs/\(∀p∈xs,p.1.length=k)/\xs.length<=4000/\
 ∀(l:X0) (bs:List X0),H l=none->bs.Perm (xs.map (·.2))->Q (.ref l) (upd H l (.lst (bs.map V.ref)))
def i0p(F:X.calm=true)(G:X.A.units+2<O2):x0t X (.builtin "sorted") (q1g X.prog X.w):=by
 intro d s J H xs us Q I L h;let ⟨D,n,k,rfl,M,N,hl,hz,q⟩:=h;let ⟨u,rfl,O⟩:=L.one;cases O;let ⟨o,c,g,t,e,hx,hd,r,T,f⟩:=(I.hok D _ M).1;have j:c.size=n.length:=by rw[<-Array.length_toList,r,k1v]
 refine p0n (kdu_collect (STB.zW4 hx hd T j f) (I.ok.hd F) e (by rw[U2];lia) λy tk a z ha=>?_);have pm:a.toList.Perm ((n.map (·.2)).map Value.ref):=by
  have e1:a.toList=STB.zd9 X.w D g c:=by
   apply b1m;intro i;have B:(STB.zd9 X.w D g c).length=c.size:=by rw[(STB.zo3 X.w D g c).length_eq,k1v,i1o]
   cases e2:a.toList[i]? with
   |none=>
    have:=h1t.mp e2;rw[i1o,ha.1]at this
    simp_all
   |some v=>exact (ha.2 i v (by grind)).symm
  rw[e1];refine (STB.zo3 X.w D g c).trans (a1i ?_);rw[r,i1j,i1j];rfl
 have P:∀v∈a.toList,za1 k s.heap v:=λv l=>by
  let ⟨b,R,rfl⟩:=j1u.mp (pm.mem_iff.mp l);let ⟨p,S,rfl⟩:=j1u.mp R;let ⟨ns,e1,e2⟩:=N p S;have:=x1g I.hok e2
  grind
 refine ⟨by rw[pm.length_eq];simpa using hz,λU h6 W=>b0q G U λv l=>(P v l).keep λb o e=>W b o (z b o e),λZ h' e' p' k' g'=>?_⟩;let ⟨bs,pb,rfl⟩:=i0q (p'.trans pm);have C:Inv X d J H {s with heap:=y,toks:=tk}:=I.kept z;have m:=pb.length_eq;simp only[k1v]at m;exact ⟨.ref y.objs.size,_,C.laid k' (k1q _) (show zx6 X.prog X.w _ _ _ (.lst (bs.map V.ref))from ⟨by rw[k1v,U2];lia,_,e',p0m bs,g'⟩),rfl,q _ bs (C.hok.fresh (k1q _)) pb⟩
def zB1:Hp->List (V×V)->List V->VK->Prop
 |H,[],acc,Q=>∀(p:X0) (zs:List V),H p=none->zs.Perm acc->Q (.ref p) (upd H p (.lst zs))
 |H,(k,v)::r,acc,Q=>∀p,H p=none->zB1 (upd H p (.tup [k,v])) r (acc++[.ref p]) Q
theorem d0d{fs:List X0}{P:V0}{w:T0}{H:Hp}{h h':J0}{Q:VK}{d:Array M1}{S:X0}(y:h.objs.size<=S):∀(ps:List (V×V)) (i:Nat) (as:List X0) (acc:List V) (c:Hp),as.length=ps.length->as.Pairwise (·<·)->(∀a∈as,S<a)->
 (∀(j:Nat) (a:X0),as[j]?=some a->∃z:i+j<d.size,h'.get? a=some {cls:=.type "tuple",data:=.seq #[d[i+j].key,d[i+j].val]})->(∀(j:Nat) (p:V×V) (z:i+j<d.size),ps[j]?=some p->RelV p.1 d[i+j].key/\RelV p.2 d[i+j].val)->(∀a∈as,c a=none)->Un fs [] H c h h'->HOk P w c h'->zB1 c ps acc Q->
 ∃e,Un fs [] H e h h'/\HOk P w e h'/\∀(p:X0) (B:List V),e p=none->B.Perm (acc++as.map V.ref)->Q (.ref p) (upd e p (.lst B))
 | [],i,as,acc,c,f,hr,ha,l,m,n,u,ok,q=>by
  have:as=[]:=i1g f;subst this;exact ⟨c,u,ok,by rw[j1r,h1s];exact q⟩
 |(k,v)::ps,i,[],acc,c,f,hr,ha,l,m,n,u,ok,q=>by cases f
 |(k,v)::ps,i,a::as,acc,c,f,hr,ha,l,m,n,u,ok,q=>by
  have hn:=n a (k1g ..);have r:=ha a (k1g ..);let ⟨z,e3⟩:=l 0 a rfl;let ⟨C,D⟩:=m 0 (k,v) z rfl;have g:=f1g.mp hr;have new:zx6 P w (upd c a (.tup [k,v])) h' a (.tup [k,v]):=⟨by show 2<=sizeLine;decide,[_,_],.cons C (.cons D .nil),⟨_,e3,rfl,⟨_,rfl⟩,rfl⟩⟩;let ⟨e,z1,z2,F⟩:=d0d y ps (i+1) as (acc++[.ref a]) (upd c a (.tup [k,v])) (c1s f) g.2 (λb o=>ha b (k1o _ o))
   (λj b t=>by have:=l (j+1) b t;rwa[show i+(j+1)=i+1+j by lia]at this) (λj p z t=>by have:=m (j+1) p (by lia) t;simpa only[show i+(j+1)=i+1+j by lia]using this)
   (λb o=>by rw[j0 (i1p (g.1 b o))];exact n b (k1o _ o)) (u.put (h1b (f1f y r)) hn) (ok.put hn new) (q a hn)
  grind
def x1f(H:Hp)(kvs:List (List Key×V))(G:X0->Prop)(ps:List (V×V)):Prop:=ps.length=kvs.length/\∀(i:Nat) (p:V×V),ps[i]?=some p->∃k x b,kvs[i]?=some (k,x)/\p=(.ref b,x)/\G b/\H b=some (.tup (k.map kV))
def s1p{pins:List (X0×Obj)}{σ:St}{s:Y0}{d:List (List Key×V)}{G:X0->Prop}{o:Obj}{c:Array M1}{f:Nat}(R:z89 H s.heap a d G o c f):∃ps,x1f H d G ps/\∀(j:Nat) (p:V×V) (z:j<c.size),ps[j]?=some p->RelV p.1 c[j].key/\RelV p.2 c[j].val:=by
 have:∀n,n<=c.size->∃ps:List (V×V),ps.length=n/\∀(j:Nat) (p:V×V) (z:j<c.size),ps[j]?=some p->(∃k x b,d[j]?=some (k,x)/\p=(.ref b,x)/\G b/\H b=some (.tup (k.map kV)))/\RelV p.1 c[j].key/\RelV p.2 c[j].val:=by
  intro n
  induction n with
  |zero=>intro _;exact ⟨[],rfl,λj p z e=>by simp at e⟩
  |succ n g=>
   intro hn;let ⟨ps,e1,e2⟩:=g (Nat.le_of_succ_le hn);let ⟨k,x,b,g1,g2,g3,g4,g5⟩:=R.key n hn;refine ⟨ps++[(.ref b,x)],by rw[k1b,e1];rfl,λj p z e=>?_⟩;by_cases m:j<ps.length
   .grind
   .have l:=(k1t.mp e).1;rw[k1b,i1d]at l;have:j=n:=by lia
    subst this;rw[j1y (by lia),e1,h1n]at e;cases e;exact ⟨⟨k,x,b,g1,rfl,g4,g3⟩,g2,g5⟩
 let ⟨ps,e1,e2⟩:=this c.size (k1q _);refine ⟨ps,⟨e1.trans R.sz,λi p e=>?_⟩,λj p z e=>(e2 j p z e).2⟩
 grind
def m1b(td:TE):TE:=λσ H Q=>td σ H λx H1=>∃a kvs G,x=.ref a/\Rd H1 a (.dT kvs G)/\kvs.length<=4000/\(∀p∈kvs,(∃ns:List Int,p.1=ns.map Sum.inl)/\∃n:Int,p.2=.int n)/\∀ps,x1f H1 kvs G ps->zB1 H1 ps [] Q
def i0o{U:TE}{p2 r:Pos}(hc:X.calm=true)(hu:X.A.units+2<O2)(B:Gl X "sorted")(C:X.mg "sorted"=none)(ho:PE X o U)(f:U1 o "items" X.env (eval o X.env)=eval o X.env:=by rfl)(g:(apos.endLine==zv1.line)=true:=by rfl)
 (D:R0 [.Call (.Attribute o "items" apos) [] [] zv1] X.env=[(false,eval (.Call (.Attribute o "items" apos) [] [] zv1) X.env)]:=by rfl):
 PE X (.Call (.Name "sorted" p2) [.Call (.Attribute o "items" apos) [] [] zv1] [] r) (m1b U):=by
 intro d s F H Q I h;refine A1 (x0u I B C DL.zn0 (e1x ?_ D rfl) (by decide) (by decide));refine g1k ?_;refine W3 f g (thn (ho d s F H _ I h) λv J zz=>?_);let ⟨x,H1,l,r1,a,L,G,e,rd,hz,hi,q1⟩:=zz;subst e;cases r1;let ⟨t1,t2,M⟩:=k0d l (.inr ⟨L,G,rd⟩);let ⟨ob,es,ep,R⟩:=n0l l rd;let ⟨W,Z,pr⟩:=s1p (pins:=d) (σ:=F) R;refine ⟨"dict","dict.items",h1q,f1e,d1i,t1,t2,i1i rfl (g1p ?_)⟩;refine i0t M R.ho R.hx (f1a ?_);refine p0n (i0r (l.ok.hd hc) ⟨_,k1s _ rfl,rfl,rfl⟩ (k1w _ R.ho) R.hd (by rw[R.sz];exact R.hz) λh' tk as k1 N m=>?_);have kp:=λb o e=>k1 b o (k1w _ e)
 refine ⟨by rw[k1v,N,R.sz];exact hz,λh2 h6 k6=>g0w hu h2 λv hv=>?_,λaa h2 e' pm k2 g2=>?_⟩
 .let ⟨c,O,rfl⟩:=j1u.mp hv;let ⟨j,P⟩:=g1y.mp O;let ⟨z,e2⟩:=m.obj j c P;let ⟨k,x,b,g1,g2,g3,g4,g5⟩:=R.key j z;let ⟨⟨ns,e3⟩,n,e4⟩:=hi _ (k1m g1);subst e3 e4;let ⟨t,e5⟩:=g5;rw[g2,e5]at e2;exact ⟨c,_,_,_,b,n,t,rfl,k6 _ _ e2,(za1.keep (x1g l.hok (by rw[m0g]at g3;exact g3)) λb o e=>k6 b o (kp b o e)).i⟩
 .let ⟨bs,pb,rfl⟩:=i0q pm;have u:J.heap.objs.size<=(J.heap.push {cls:=.type "dict_items",data:=.fields #[.ref a]}).objs.size+1:=by rw[j1j];exact j1o (h1i _) (h1i _)
  let ⟨H2,u2,y,q2⟩:=d0d u W 0 as [] H1 (by rw[N,R.sz,Z.1]) m.rise m.above (λj b P=>by let ⟨z,e⟩:=m.obj j b P;simp only[i1e];exact ⟨z,e⟩) (λj p z e=>by simp only[i1e]at z ⊢; exact pr j p z e)
   (λb hb=>l.hok.fresh (h1b (f1f u (m.above b hb)))) (Un.z77 kp) (l.hok.kept kp) (q1 W Z)
  have I2:Inv X d F H2 {J with heap:=h',toks:=tk}:=l.un u2 y;have S:=pb.length_eq;exact ⟨.ref h'.objs.size,_,I2.laid k2 (k1q _) (show zx6 X.prog X.w _ _ _ (.lst (bs.map V.ref))from ⟨by rw[k1v,S,N,R.sz];exact R.hz,_,e',p0m bs,g2⟩),rfl,q2 _ _ (y.fresh (k1q _)) (by grind)⟩
def ItiT(a:X0)(o:Obj)(kvs:List (List Key×V))(G:X0->Prop):It:=
 ⟨λi H=>H a=some (.frz o (.dT kvs G))/\i<kvs.length,λi H v H'=>∃p k x b,H p=none/\v=.ref p/\H'=upd H p (.tup [.ref b,x])/\kvs[i]?=some (k,x)/\G b/\H b=some (.tup (k.map kV)),λi H=>H a=some (.frz o (.dT kvs G))/\kvs.length=i⟩
def g0v{K:Fg}{m:List Expr}{O}(a it:X0)(o:Obj)(n:List (List Key×V))(G:X0->Prop)(L:Nat)(hd:∃l,o.data=.dict l L):Turn P w K (.Tuple m O pos) (ItiT a o n G) [it] it (λi h=>ItF it a n.length L i .none h)where
 mem:=by simp
 obj:=λi h st b y=>by
  have e:=by simpa using y
  subst e;let ⟨f,ok,B,e⟩:=st
  simp_all
 keep:=λi h M st k=>let ⟨f,ok,B,e⟩:=st;⟨f,ok,B,k it (by simp) _ e⟩
 item:=by
  intro X Q S U d i g s C H E I v st D;let ⟨e,p⟩:=D;let ⟨l,hd⟩:=hd;have R:=s0y I e hd;rw[<-R.sz]at st p;refine t0p (I.ok.hd d) st.s R.ho hd (h1b p) (λz M _ fr Z sz k'=>⟨_,rfl,?_⟩) λz=>absurd z (k1i p)
  let ⟨k,x,b,g1,g2,g3,g4,g5⟩:=R.key i z;refine m1c (fr st) λh2 r N=>?_
  have J:=I.hok.fresh (k1q _);have Il:Inv X g C (upd H s.heap.objs.size (.tup [.ref b,x])) {s with heap:=s.heap.push {cls:=.type "tuple",data:=.seq #[l[i].key,l[i].val]}}:=I.laid (λb u e=>k1w _ e) (k1q _)
   ⟨by show 2<=sizeLine;decide,[l[i].key,l[i].val],.cons g2 (.cons g5 .nil),⟨_,k1s _ rfl,rfl,⟨_,rfl⟩,rfl⟩⟩
  have lt:=let ⟨_,_,_,e⟩:=st;k1n e
  have t:∀c∈[it],upd H s.heap.objs.size (.tup [.ref b,x]) c=none:=λc d=>by
   have j:=by simpa using d
   rw[j0 (j▸Nat.ne_of_lt lt)];exact (v c d).1
  have If:Inv X g C (upd H s.heap.objs.size (.tup [.ref b,x])) {s with heap:=h2}:=Inv.zo8 (s:={s with heap:=s.heap.push {cls:=.type "tuple",data:=.seq #[l[i].key,l[i].val]}}) Il (λc o d q=>by
   have j:=by simpa using d
   rcases e1s q with ⟨rfl,rfl⟩|q
   .exact N.extBut _ _ j Z
   .exact N.extBut _ _ j (k' c o j q)) λc d=>⟨t c d,(v c d).2⟩
  rw[R.sz]at r;exact ⟨.ref s.heap.objs.size,_,If,rfl,⟨s.heap.objs.size,k,x,b,J,rfl,rfl,g1,g4,g3⟩,r,t⟩
 done:=by
  intro X Q S U d i g s C H E I v st D;let ⟨e,p⟩:=D;let ⟨l,hd⟩:=hd;have R:=s0y I e hd;let ⟨f0,f1,f2,f3,f4,f5⟩:=v it (by simp);rw[<-R.sz]at st p;exact t0p (I.ok.hd d) st.s R.ho hd (by lia) (λz=>absurd z (by lia)) λ_ M eb=>⟨rfl,I.turned (λb o y e=>eb b o y e) f0 f1 f3 f4 f5⟩
 self:=λ_ _ _ _ _ st h=>let ⟨f,ok,B,e⟩:=st;by
  refine G3 ⟨_,e,rfl⟩ f1r (Z1 f1r ⟨_,e,rfl⟩ y1b ?_ (PySem.F.args_dict_itemiterator_iter_1 _));exact d0 ⟨_,rfl,"dict_itemiterator",_,⟨_,e,rfl⟩,i1f.lookup,h⟩
def m1a(tl:TE):TI:=λσ H R=>tl σ H λx H1=>∃a o kvs G,x=.ref a/\H1 a=some (.frz o (.dT kvs G))/\R (ItiT a o kvs G) H1
def x1e{n:TE}{i:List Expr}{u}{pos:Pos}(ho:PE X o n)(d:U1 o "items" X.env (eval o X.env)=eval o X.env:=by rfl)(f:(apos.endLine==zv1.line)=true:=by rfl):
 PI X (.Tuple i u pos) (.Call (.Attribute o "items" apos) [] [] zv1) (m1a n):=by
 intro c s p H R I h;refine W3 d f (thn (ho c s p H _ I h) λv j zz=>?_);let ⟨x,r,k,w,a,ob,g,G,e,l,q⟩:=zz;subst e;cases w;let ⟨t1,t2,m⟩:=k0d k (.inr ⟨g,G,.inr ⟨ob,l⟩⟩);let ⟨D,y,t,R2⟩:=n0l k (.inr ⟨ob,l⟩);have e2:=R2.ho;rw[(k.hok a _ l).1]at e2;cases e2;refine ⟨"dict","dict.items",h1q,f1e,d1i,t1,t2,i1i rfl (g1p ?_)⟩;refine i0t m R2.ho R2.hx (i0s ⟨_,k1s _ rfl,rfl,rfl⟩ (k1w _ R2.ho) R2.hd λz e2 B=>?_);have I2:Inv X c p r {j with heap:=j.heap.push {cls:=.type "dict_items",data:=.fields #[.ref a]}}:=k.kept λb o e=>k1w _ e
 have fr:ItF (j.heap.push {cls:=.type "dict_items",data:=.fields #[.ref a]}).objs.size a g.length t 0 .none z:=by
  rw[e2,<- R2.sz];exact ⟨false,.none,.none,k1s _ rfl⟩
 refine ⟨(j.heap.push {cls:=.type "dict_items",data:=.fields #[.ref a]}).objs.size,[_],_,_,r,rfl,I2.kept λb o e=>(by rw[e2];exact k1w _ e),g0v a _ ob g G t ⟨y,R2.hd⟩,fr,λb C=>?_,q⟩;have e:b=(j.heap.push {cls:=.type "dict_items",data:=.fields #[.ref a]}).objs.size:=by simpa using C
 subst e;exact I2.za3 (k1q _) (I2.hok.fresh (k1q _))
def z97(a:X0)(o:Obj)(kvs:List (List Key×V))(G:X0->Prop):It:=
 ⟨λi H=>H a=some (.frz o (.dT kvs G))/\i<kvs.length,λi H v H'=>H'=H/\∃k,kvs[i]?=some (k,v),λi H=>H a=some (.frz o (.dT kvs G))/\kvs.length=i⟩
def b0p{K:Fg}{C:Expr}(a it:X0)(o:Obj)(j:List (List Key×V))(G:X0->Prop)(y:Nat)(hd:∃p,o.data=.dict p y):Turn P w K C (z97 a o j G) [it] it (λi h=>h.IsValIter it a i j.length y)where
 mem:=by simp
 obj:=λi h st b f=>by
  have e:=by simpa using f
  subst e;let ⟨o,e,c,d⟩:=st
  simp_all
 keep:=λi h B st k=>st.at λo e=>k it (by simp) o e
 item:=by
  intro X D F J r i l s L H E I n st t;let ⟨e,m⟩:=t;let ⟨p,hd⟩:=hd;have R:=s0y I e hd;let ⟨f0,f1,f2,u,v,f5⟩:=n it (by simp);rw[<-R.sz]at st m;refine t0s (I.ok.hd r) st R.ho hd (h1b m) (λz B g M=>?_) λz=>absurd z (k1i m)
  have N:=I.turned (t':=s.toks) (λb o f e=>(M.2 b f).trans e) f0 f1 u v f5;let ⟨S,e2,c2,O⟩:=id g;let ⟨k,x,b,g1,g2,g3,g4,g5⟩:=R.key i z;rw[R.sz]at g;exact ⟨_,rfl,c0o e2 c2 O (by decide) ⟨x,H,N,g5,⟨rfl,k,g1⟩,g,λb f=>(n b f).1⟩⟩
 done:=by
  intro X D F J r i l s L H E I n st t;let ⟨e,m⟩:=t;let ⟨p,hd⟩:=hd;have R:=s0y I e hd;let ⟨f0,f1,f2,u,v,f5⟩:=n it (by simp);rw[<-R.sz]at st m;exact t0s (I.ok.hd r) st R.ho hd (by lia) (λz=>absurd z (by lia)) λ_ B Q=>⟨rfl,I.turned (λb o f e=>Q b o f e) f0 f1 u v f5⟩
 self:=λ_ _ _ _ _ st h=>wpAny_pyIter_valiter st h
variable{tg:Expr}
def zH9(tl:TE):TI:=λσ H R=>tl σ H λx H1=>∃a o kvs G,x=.ref a/\H1 a=some (.frz o (.dT kvs G))/\R (z97 a o kvs G) H1
def s1o{m:TE}(ho:PE X o m)(d:U1 o "values" X.env (eval o X.env)=eval o X.env:=by rfl)(f:(apos.endLine==zv1.line)=true:=by rfl):
 PI X tg (.Call (.Attribute o "values" apos) [] [] zv1) (zH9 m):=by
 intro c s n H R I h;refine W3 d f (thn (ho c s n H _ I h) λv i zz=>?_);let ⟨x,p,j,r,a,ob,g,G,e,k,q⟩:=zz;subst e;cases r;let ⟨t1,t2,l⟩:=k0d j (.inr ⟨g,G,.inr ⟨ob,k⟩⟩);let ⟨y,t,u,R2⟩:=n0l j (.inr ⟨ob,k⟩);have e2:=R2.ho;rw[(j.hok a _ k).1]at e2;cases e2;refine ⟨"dict","dict.values",h1q,f1o,d1r,t1,t2,i1i rfl (g1p ?_)⟩;refine n0m l R2.ho R2.hx (j0f ⟨_,k1s _ rfl,rfl,rfl⟩ (k1w _ R2.ho) R2.hd ?_);have I2:Inv X c n p {i with heap:=i.heap.push {cls:=.type "dict_values",data:=.fields #[.ref a]}}:=j.kept λb o e=>k1w _ e
 refine ⟨(i.heap.push {cls:=.type "dict_values",data:=.fields #[.ref a]}).objs.size,[_],_,_,p,rfl,I2.kept λb o e=>k1w _ e,b0p a _ ob g G u ⟨t,R2.hd⟩,⟨_,k1s _ rfl,rfl,by rw[R2.sz];rfl⟩,λb w=>?_,q⟩;have e:b=(i.heap.push {cls:=.type "dict_values",data:=.fields #[.ref a]}).objs.size:=by simpa using w
 subst e;exact I2.za3 (k1q _) (I2.hok.fresh (k1q _))
end
open Spec PyProof.Rows
section
variable{X:Cx}
def d0c:t1r X newDict (λ_=>.dT [] λ_=>False):=by
 intro a s c H Q E I h;refine N0 ?_;exact h _ s.toks (j1j ..) (λb o e=>k1w _ e) (I.laid (λ_ _ q=>k1w _ q) (k1q _) (n0b s.heap I.big))
def zB2(D:X0)(tk tv:TE):TB:=λσ H Q=>tk σ H λx H1=>tv σ H1 λy H2=>∃kvs G b ks,x=.ref b/\H2 b=some (.tup (List.map kV ks))/\H2 D=some (.dT kvs G)/\kvs.length<sizeLine/\Q (upd H2 D (.dT (putK kvs ks y) λc=>G c\/c=b))
def q1f{l m:Expr}{D:X0}{tk n:TE}(d:X.xe=λ_ _=>False)(C:X.A.units<O2)(F:PE X l tk)(J:PE X m n):PB X (zH4 e l m it D X.env) (.compLoop e 0 it (.ref D) X.env) (zB2 D tk n):=by
 intro a s p H Q I h;have f:=F a s p H _ I h;rw[d]at f;refine y0 (y0 (K0 f (λu L ⟨x,M,N,O,P⟩=>y0 (D0 ?_)) λ_ _ z=>z));have g:=J a L p M _ N P;rw[d]at g;refine K0 g (λv s2 ⟨y,H2,i,R,j,G,b,r,ex,t,e,hl,q⟩=>y0 (X2 (D0 ?_))) λ_ _ z=>z
 subst ex;cases O;let ⟨z,hd,xs,rel,S⟩:=p1b i.hok e;refine wpAny_dictSet_heap C (r0m i.hok t) S (λh' k hs=>d0 ⟨rfl,_,?_,q⟩) (by rw[<-Paired.length rel];exact z);let ⟨o,U,V,w,W,Z,h4,_,h5⟩:=k;have kt:=KT.put rel r t R;refine v0e i (by rw[e];exact True.intro) hs ⟨o,w⟩ ⟨by have:=z0h j r y;lia,hd,_,(kt.keeps λc ys B=>?_),o,U,V,w,W,Z,h4,h5⟩;rw[j0 (v1s B e (λz=>nomatch z))];exact B
def zG0(K:Fg)(wi:TI)(tup:Bool)(n:Nat)(js:List Nat)(tk tv:TE):TE:=λσ H Q=>wi σ H λJ H1=>∀D,H1 D=none->r0k K J tup n (List.replicate 0 none++y0c σ js) (λ_ H Q=>Q true H) (zB2 D tk tv) (upd H1 D (.dT [] λ_=>False)) λH2=>Q (.ref D) H2
def s1n{xs:List Str}{k l:Expr}{a:List Nat}{pos:Pos}{tup:Bool}{g:TG}{tk n:TE}(y:X.calm=true)(z:X.A.units<O2)(S:zx2 X xs a scope)(B:PI X target iter wi)
 (F:∀C zy0 zz6 fp cl,PG (X.zy1 xs a scope cl C zy0 zz6 fp) target g) (G:TgM X.K tup xs.length g) (i:∀C zy0 zz6 fp cl,PE (X.zy1 xs a scope cl C zy0 zz6 fp) k tk)
 (M:∀C zy0 zz6 fp cl,PE (X.zy1 xs a scope cl C zy0 zz6 fp) l n) (hs:∀v,foldedSetIterable iter X.env v=pure v:=by intro _;rfl):
 PE X (.DictComp k l [⟨target,iter,[],0⟩] scope pos) (zG0 X.K wi tup xs.length a tk n):=by
 intro c s N H Q I h;let ⟨cl,O,c1,c2⟩:=z0n λp P i=>I.ok.has p.1 (S.free p P i)
 refine X3 rfl hs O S.kind S.loc (thn (B c s N H _ I h) λxv r d=>thn d λR t f=>?_);let ⟨u,fp,tn,J,w,rfl,I2,T,st,U,q⟩:=f;refine s9 y S rfl (λu D env=>i0u) d0c F G (λ_ _ _ _ _=>q0l)
  (λD C zy0 zz6 fp cl u=>q1f rfl z (i C zy0 zz6 fp cl) (M C zy0 zz6 fp cl)) c1 c2 I2 T st U q ?_
 rintro D C w s' V L ⟨m,hm⟩ W;refine ⟨m,hm,λh' j=>⟨.ref D,w,?_,rfl,W⟩⟩;exact V.turned (λb o Z e=>j.extBut b o Z e) L.free L.ne (.inr L.yng) L.cell L.pin
end
end L2
namespace DL
open Spec L2
def m0d(tup:Bool)(n:Nat)(tk tv:TE2)(js:List Nat)(ρ:En)(q:List (List Int×D)->Dk->Prop):List D->List (List Int×D)->Dk->Prop
 | [],acc,δ=>q acc δ
 |d::ds,acc,δ=>match tgD tup n d with
  |some es=>tk (λ_ _ _ _=>False) (es.map .val++zu8 ρ js) δ λdk ρ1 δ1=>tv (λ_ _ _ _=>False) ρ1 δ1 λdv _ δ2=>match zc9 dk with |some k=>acc.length<1000/\m0d tup n tk tv js ρ q ds (zf8 acc k dv) δ2 |none=>False
  |none=>False
section
variable{X:Cx}{Y:Y2}{W:XW}{target kx vx iter:Expr}{xs:List Str}{js:List Nat}{scope:P4}{pos:Pos}{tk tv:TE2}{ti:TI2}{tup:Bool}{g:TG}
def i0n{σ:St}{g:En}{w:Dk}{F1 V:Hp}{J:It}{n:Nat}{ds:List D}{q:List (List Int×D)->Dk->Prop}{Q:X0->Hp->Prop}(I1:I2 X.K Y F1 V σ g w)(F:zj2 X.K J F1 ds)(h1:m0d tup n tk tv js g q ds [] w)
 (k:∀D N O B j us,I2 X.K Y N O σ g B->zz7 F1 N->O D=some (.dT us.1 us.2)->zi0 Y N O σ g B D->zc5 X.K N j us->q j B->Q D O):
 ∀D,V D=none->r0k X.K J tup n (List.replicate 0 none++y0c σ js) (λ_ H Q=>Q true H) (zB2 D (teY X.K tk) (teY X.K tv)) (upd V D (.dT [] λ_=>False)) λt=>Q D t:=by
 intro D hD;have L0:=I1.z64 hD;refine ⟨λi m t=>∃F2 a j us,I2 X.K Y F2 t σ g a/\zz7 F1 F2/\t D=some (.dT us.1 us.2)/\zi0 Y F2 t σ g a D/\zc5 X.K F2 j us/\m0d tup n tk tv js g q (ds.drop i) j a/\i<=ds.length/\m=ds.length-i,
  ⟨ds.length,F1,w,[],([],λ_=>False),I1.zi8 L0,zz7.refl F1,j3,L0.upd (λ_ z=>nomatch z),⟨λ_ z=>z.elim,zx5.nil⟩,by simpa using h1,j1e _,by simp⟩,?_⟩
 rintro i m t ⟨F2,a,j,us,u,P,l,r,W,C,hi,rfl⟩;cases e:ds[i]? with
 |none=>
  have Z:=h1t.mp e;have ei:i=ds.length:=by lia
  subst ei;rw[d1g]at C;exact .inl ⟨F.stop F2 t P u.sub,k D F2 t a j us u P l r W C⟩
 |some d=>
  have Z:=(k1t.mp e).1;let ⟨go,yl⟩:=F.item i d F2 t e P u.sub;refine .inr ⟨go,λv G y=>?_⟩;have hy:=yl v G y;let ⟨R,I3,s3,r3,aa⟩:=u.yld hy;have I:G D=some (.dT us.1 us.2):=by
   rcases hy with ⟨rfl,_⟩|⟨p,vs,es,hp,rfl,_⟩
   .exact l
   .rw[j0 (i0 l hp)];exact l
  have L3:zi0 Y R G σ g a D:=⟨aa D _ l r.f,r.h0,r.off,r.no,λx e=>by rw[I]at e;cases e⟩;have ed:ds.drop i=d::ds.drop (i+1):=by rw[i1z Z];congr 1;exact (k1t.mp e).2
  rw[ed]at C;unfold m0d at C;split at C
  .rename_i es ab;refine q1v ab r3 I3.sub λws ac _=>?_
   dsimp only;refine ⟨⟨R,G,a,none⟩,R,_,a,_,_,I3.zY2 ac,C,λdk v4 F4 H4 ae af I4 s4 r4 h4=>?_,λ_ _ _ _ _ _ _ _ _ _ _ z=>z⟩;refine ⟨⟨R,G,a,none⟩,F4,ae,af,_,_,I4,h4,λd5 v5 F5 H5 ai ag I5 s5 r5 S=>?_,λ_ _ _ _ _ _ _ _ _ _ _ z=>z⟩;split at S
   .rename_i U ek;let ⟨ah,L5⟩:=L3.ran I I5.ran;let ⟨b,rfl,eb⟩:=t1a ek (r4.mono s5);have L:=s3.trans (s4.trans s5);have M:=W.mono L;have I6:=(I3.call I5.ran).zi8 (o:=.dT (putK us.1 (U.map Sum.inl) v5) λc=>us.2 c\/c=b) L5;refine ⟨us.1,us.2,b,U.map Sum.inl,rfl,I5.sub _ _ eb,ah,by rw[W.2.length];exact k1f S.1 (by decide),ds.length-(i+1),by lia,F5,ag,zf8 j U d5,(putK us.1 (U.map Sum.inl) v5,λc=>us.2 c\/c=b),I6,P.trans L,j3,L5.upd (λ_ z=>nomatch z),⟨λc hc=>?_,M.2.put r5⟩,S.2,Z,rfl⟩;rcases hc with hc |rfl
    .exact M.1 c hc
    .exact ⟨_,eb⟩
   .exact S.elim
  .exact C.elim
def p0l(ti:TI2)(tup:Bool)(n:Nat)(js:List Nat)(tk tv:TE2):TE2:=λx ρ δ q=>ti x ρ δ λds ρ1 δ1=>m0d tup n tk tv js ρ1 (λacc δ2=>q (.dwt acc) ρ1 δ2) ds [] δ1
def s1m(p:X.calm=true)(t:X.A.units<O2)(S:zx2 X xs js scope)(w:PI2 X Y W target iter ti)(y:(xs++js.map (λj=>X.N.getD j "")).Nodup->∀C zy0 zz6 fp cl,PG (X.zy1 xs js scope cl C zy0 zz6 fp) target g)(B:TgM X.K tup xs.length g)
 (G:∀C zy0 zz6 fp cl b,PE2 (X.zy1 xs js scope cl C zy0 zz6 fp) b W0 kx tk) (M:∀C zy0 zz6 fp cl b,PE2 (X.zy1 xs js scope cl C zy0 zz6 fp) b W0 vx tv) (hs:∀v,foldedSetIterable iter X.env v=pure v:=by intro _;rfl):PE2 X Y W (.DictComp kx vx [⟨target,iter,[],0⟩] scope pos) (p0l ti tup xs.length js tk tv):=
 pe2 (g0z (s1n p t S w.go (y S.nd) B (λC zy0 zz6 fp cl a s d H Q I ⟨b,h⟩=>(G C zy0 zz6 fp cl b).go a s d H Q I h) (λC zy0 zz6 fp cl a s d H Q I ⟨b,h⟩=>(M C zy0 zz6 fp cl b).go a s d H Q I h) hs)) λd H Q ⟨F,O,δ,x,q,I,h,k,kx⟩=>
  ⟨F,O,δ,x,_,I,h,λds J F1 H1 e P R U i V=>i0n R i V λD F' H' l Z c I' s' hD L r q'=>⟨D,c.1,c.2,rfl,hD,λo=>by
   have m:=I'.zi8 (o:=.frz o (.dT c.1 c.2)) L;have n:=L.upd (u:=.frz o (.dT c.1 c.2)) (λ_ z=>nomatch z);exact k _ _ _ _ e l (m.iceG n j3) ((U.trans s').trans (zz7.new L.f)) (zw3.mpr ⟨D,o,c,rfl,j3,r.mono (zz7.new L.f)⟩) q'⟩,kx⟩
end
end DL
namespace L2
open Spec PyProof.Rows
structure zb0(H:Hp)(us:List (List Key×V))(BB:List (List (List Int))):Prop where
 len:BB.length=us.length
 at_:∀(i:Nat) k v,us[i]?=some (k,v)->∃sv ws bb,v=.ref sv/\H sv=some (.lst ws)/\BB[i]?=some bb/\ws.length=bb.length/\∀(j:Nat) (b:List Int),bb[j]?=some b->∃t v1 v2 c,ws[j]?=some (.ref t)/\H t=some (.tup [v1,v2,.ref c])/\H c=some (.tup (b.map V.int))
structure z98(P:V0)(w:T0)(F H:Hp)(D:X0)(l:List (List Int))(xs:List (List Key×Addr))(H':Hp):Prop where
 eq:H'=upd H D (zg8 P w xs D)
 key:zw8 F xs
 len:xs.length<=l.length
 mem:∀k:List Key,(∃c,(k,c)∈xs)↔∃b∈l,k=b.map Sum.inl
def l1z{K:Fg}{P:V0}{w:T0}{F H:Hp}{us:List (List Key×V)}{G:X0->Prop}{a:X0}{o:Obj}{BB:List (List (List Int))}{Q:V->Hp->Prop}(sm:zz7 F H)(S:zb0 F us BB)(hz:BB.flatten.length<=4000)(hd:H a=some (.frz o (.dT us G)))
 (X:∀D xs n,H D=none->z98 P w F H D BB.flatten xs n->Q (.ref D) n):
 ∀D,H D=none->r0k K (z97 a o us G) false 1 (List.replicate 3 none++[]) (λ_ H Q=>Q true H) (x1i (DL.iSeq K (zV1 0)) (zT9 K 3 (DL.zY1 [1,2,3])) (m1f P w D (zV1 3))) (upd H D (zg8 P w [] D)) λl=>Q (.ref D) l:=by
 intro D L;refine ⟨λi m l=>∃xs,z98 P w F H D (BB.take i).flatten xs l/\i<=us.length/\m=us.length-i,⟨us.length,[],⟨rfl,λp g=>(nomatch g),k1q _,λk=>⟨λ⟨c,z⟩=>(nomatch z),λ⟨b,z,_⟩=>(nomatch z)⟩⟩,j1e _,by simp⟩,?_⟩;rintro i m l ⟨xs,I,hi,rfl⟩;have M:∀b u,H b=some u->l b=some u:=λb u e=>by rw[I.eq,j0 (i0 e L)];exact e
 have Z:∀{xs:List (List Key×Addr)} {n:Hp},(∀b u,H b=some u->n b=some u)->zw8 F xs->zw8 n xs:=λh k p g=>let ⟨ns,a,b⟩:=k p g;⟨ns,a,h _ _ (sm _ _ b)⟩
 by_cases hl:i=us.length
 .refine .inl ⟨⟨M _ _ hd,hl.symm⟩,X D xs l L ?_⟩;rw[g1l (by rw[S.len];lia)]at I;exact I
 .have r:i<us.length:=by lia
  refine .inr ⟨⟨M _ _ hd,r⟩,λv H3 y=>?_⟩;let ⟨rfl,k,e⟩:=y;let ⟨N,ws,d,rfl,e1,e2,e3,e4⟩:=S.at_ i k v e;have fl:(BB.take (i+1)).flatten=(BB.take i).flatten++d:=by rw[e1y,e2];simp
  have aa:(BB.take i).flatten.length+d.length<=4000:=by
   have:=congrArg List.length fl;rw[k1b]at this;have h2:BB.flatten=(BB.take (i+1)).flatten++(BB.drop (i+1)).flatten:=by rw[<-List.flatten_append,j1f]
   grind
  intro _;dsimp only;refine ⟨.ref N,rfl,N,rfl,.inl ⟨⟨ws,.inl (.inl (M _ _ (sm _ _ e1)))⟩,λj m C=>∃xs,z98 P w F H D ((BB.take i).flatten++d.take j) xs C/\j<=ws.length/\m=ws.length-j,⟨ws.length,xs,⟨I.eq,I.key,by simpa using I.len,by simpa using I.mem⟩,j1e _,by simp⟩,?_⟩⟩;rintro j m C ⟨R,J,hj,rfl⟩;have f:∀b u,H b=some u->C b=some u:=λb u e=>by rw[J.eq,j0 (i0 e L)];exact e
  have sq:SqL K C N ws:=.inl (.inl (f _ _ (sm _ _ e1)));by_cases O:j=ws.length
  .refine .inl ⟨⟨ws,sq,e1c O.symm⟩,us.length-(i+1),by lia,R,?_,r,rfl⟩
   grind
  .have B:j<d.length:=by lia
   let ⟨t,v1,v2,c,g1,g2,g3⟩:=e4 j d[j] (k1u B);refine .inr ⟨⟨ws,_,sq,g1⟩,λv H5 y=>?_⟩;let ⟨rfl,hy⟩:=y;have U:=hy ws sq;rw[g1]at U;cases U;refine ⟨t,[v1,v2,.ref c],rfl,.inl (.inl (f _ _ (sm _ _ g2))),rfl,v1,_,rfl,v2,_,rfl,.ref c,_,rfl,rfl,?_⟩;refine ⟨rfl,λk v e=>?_,?_⟩
   .match k,e with
    | 0,e=>exact e
    | 1,e=>cases e
    | 2,e=>cases e
    | 3,e=>cases e
    |k+4,e=>simp at e
   .have tl:(BB.take i).flatten++d.take (j+1)=(BB.take i).flatten++d.take j++[d[j]]:=by rw[e1y,k1u B,i1v];rfl
    have jl:=J.len;rw[k1b,h1c]at jl;refine ⟨.ref c,rfl,c,d[j],R,rfl,f _ _ (sm _ _ g3),by rw[J.eq,j3],Z f J.key,by lia,λzs kz lz nz mz=>⟨ws.length-(j+1),by lia,zs,⟨by rw[J.eq,q0d],λp g=>?_,?_,λk=>?_⟩,by lia,rfl⟩⟩
    .rcases nz p g with g |rfl
     .exact J.key p g
     .grind
    .grind
    .rw[mz k,J.mem k,tl]
     grind
open Spec PyProof.Rows Calls W
def zr4.snoc{l:List Int}{m x:Int}(h:zr4 l m):zr4 (l++[x]) (if x<m then x else m):=by
 let ⟨a,b⟩:=h;constructor
 .grind
 .grind
def zr4.one(x:Int):zr4 [x] x:=⟨List.mem_singleton.mpr rfl,λn hn=>by rw[k1d.mp hn];exact e1i _⟩
section
variable{prog:V0}{w:T0}{A:A0}{R:Result->Y0->Prop}{I:X0}{fp wr:List X0}{n:Nat}{P:Nat->Z0->Prop}{St:Nat->J0->Prop}
def x1d(W:Walks prog w A.in1 I fp wr n P St)(ns:List Int)(hn:n=ns.length)(hP:∀i v,P i v->∃t,v=Value.int (ns.getD i 0) t)(S:X0)(hSf:S∉fp)(d:Z0):
 ∀(k i:Nat) (s:Y0) (acc:Array Z0) (c:Nat),n-i=k->i<=n->St i s.heap->s.heap.get? S=some {cls:=.type "list",dict:=none,data:=.seq acc c,slots:=#[]}->(acc=#[]/\i=0\/∃m t,acc=#[.int m t,.int m t]/\zr4 (ns.take i) m)->
 (∀v h' tk,(ns=[]->v=d)->(ns≠[]->∃m t,v=.int m t/\zr4 ns m)->(∀b o,b∉wr->b≠S->s.heap.get? b=some o->h'.get? b=some o)->R (.ok (.ret v)) {s with heap:=h',toks:=tk})->
 A2 (model prog w) A (.builtin "min.loop" ⟨[.ref I,.none,.ref S],[("default",d)]⟩) R s:=by
 have hSw:S∉wr:=fun h=>hSf (W.sub _ h)
 have zZ1:(toString "min"++toString ".loop":String)="min.loop":=by decide
 intro k
 induction k with
 |zero=>
  intro i s acc c hk hi st eS inv hR;refine T4 c1x ?_;rw[f1z h1x _];show wpAny _ A.in1 (seqItems? (.ref S) >>= fun _=>_) _ _ s;refine y0 (Z2 eS rfl ?_);show wpAny _ A.in1 (tryCatch (pyNext (.ref I)) _ >>= fun _=>_) _ _ s;have ei:i=n:=by lia
  refine y0 (wpAny_tryCatch (W.done s _ _ (ei▸st) fun h' tk hk'=>?_));rcases inv with ⟨rfl,rfl⟩|⟨m,t,rfl,hm⟩
  .have e0:ns=[]:=i1g (by lia);exact y0 (D4 (d0 (hR d h' tk (fun _=>rfl) (fun z=>absurd e0 z) fun b o n1 n2 e=>hk' b o n1 e)))
  .have eS':=hk' S _ hSw eS;rw[g1l (by lia)]at hm;have ne:ns≠[]:=fun z=>by rw[z]at hm;exact nomatch hm.1
   show wpAny _ A.in1 (updateSeq S (fun _=>#[]) >>= fun _=>_) _ _ _;refine y0 (S4 eS' rfl (y0 (Q4 (d0 ?_))));exact hR _ _ tk (fun z=>absurd z ne) (fun _=>⟨m,t,rfl,hm⟩) fun b o n1 n2 e=>(j1t _ _ (j1k n2)).trans (hk' b o n1 e)
 |succ k ih=>
  intro i s acc c hk hi st eS inv hR;have hlt:i<n:=by lia
  refine T4 c1x ?_;rw[f1z h1x _];show wpAny _ A.in1 (seqItems? (.ref S) >>= fun _=>_) _ _ s;refine y0 (Z2 eS rfl ?_);show wpAny _ A.in1 (tryCatch (pyNext (.ref I)) _ >>= fun _=>_) _ _ s;refine y0 (wpAny_tryCatch (W.item i s _ _ hlt st fun v h' tk hv st' hk'=>?_));have eS':=hk' S _ hSw eS;let ⟨t,rfl⟩:=hP i v hv;have tk1:ns.take (i+1)=ns.take i++[ns.getD i 0]:=by rw[e1y,k1u (by lia),k1r,k1u (by lia)];rfl
  have fr:∀{f},St (i+1) (h'.update S f):=W.frame _ _ _ st' fun b hbf o e=>(j1t _ _ (fun z:S=b=>hSf (by rw[z];exact hbf))).trans e
  rcases inv with ⟨rfl,rfl⟩|⟨m,u,rfl,hm⟩
  .show wpAny _ A.in1 (updateSeq S (fun _=>#[.int (ns.getD 0 0) t,.int (ns.getD 0 0) t]) >>= fun _=>_) _ _ _;refine y0 (S4 eS' rfl ?_);rw[zZ1];refine d0 ⟨plainId_quiet h1x _,ih 1 _ _ _ (by lia) hlt fr (j1x _ eS' rfl) (.inr ⟨_,t,rfl,?_⟩) fun v h2 tk2 a1 a2 a3=>hR v h2 tk2 a1 a2 fun b o n1 n2 e=>a3 b o n1 n2 ((j1t _ _ (j1k n2)).trans (hk' b o n1 e))⟩;rw[tk1];exact zr4.one _
  .show wpAny _ A.in1 (tryCatch (holding [.int (ns.getD i 0) t,.int (ns.getD i 0) t] (richCompare .Lt (.int (ns.getD i 0) t) (.int m u) >>= fun _=>_)) _ >>= fun _=>_) _ _ _;refine y0 (wpAny_tryCatch (D0 (y0 (lt_int ?_))));refine y0 (D0 (J1 (y0 (Q4 (d0 ?_)))));have sn:=hm.snoc (x:=ns.getD i 0);rw[<-tk1]at sn;by_cases hb:ns.getD i 0<m
   .rw[M0 hb];rw[H0 hb]at sn;simp only[N1];refine y0 (S4 eS' rfl (y0 (Q4 ?_)));rw[zZ1];exact d0 ⟨plainId_quiet h1x _,ih (i+1) _ _ _ (by lia) hlt fr (j1x _ eS' rfl) (.inr ⟨_,t,rfl,sn⟩) fun v h2 tk2 a1 a2 a3=>hR v h2 tk2 a1 a2 fun b o n1 n2 e=>a3 b o n1 n2 ((j1t _ _ (j1k n2)).trans (hk' b o n1 e))⟩
   .rw[Q0 hb];rw[O0 hb]at sn;simp only[k1a,K1];refine y0 (Q4 ?_);rw[zZ1];exact d0 ⟨plainId_quiet h1x _,ih (i+1) _ _ c (by lia) hlt st' eS' (.inr ⟨m,u,rfl,sn⟩) fun v h2 tk2 a1 a2 a3=>hR v h2 tk2 a1 a2 fun b o n1 n2 e=>a3 b o n1 n2 (hk' b o n1 e)⟩
end
section
variable{X:Cx}
def z99(K:Fg)(ta:TA)(te:TE):TE:=λσ H Q=>ta σ H λvs H1=>te σ H1 λu H2=>∃(a:X0) (b:Bool) (ns:List Int),vs=[.ref a]/\Sq K b H2 a (ns.map V.int)/\(ns=[]->Q u H2)/\∀m,zr4 ns m->Q (.int m) H2
def s1l(a v:Z0):argsOk "min" ⟨[a],[(Str.ofString "default",v)]⟩:=rfl
def l1y{a e:Expr}{ta:TA}{te:TE}{p pos kp:Pos}(hc:X.calm=true)(hg:Gl X "min")(hm:X.mg "min"=none)(ha:PA X [a] ta)(he:PE X e te)(hs:R0 [a] X.env=[(false,eval a X.env)]:=by rfl):
 PE X (.Call (.Name "min" p) [a] [⟨some "default",e,kp⟩] pos) (z99 X.K ta te):=by
 intro pins s σ H Q I h;refine A1 (x0u I hg hm z1q (PyProof.Rows.callWith_builtin_kwB (by rw[hs];rfl) rfl ?_) (by decide) (by decide));have ha2:=ha pos pins s σ H _ I h;rw[hs]at ha2 ⊢;refine evalArgs_kwB rfl (thn ha2 fun us s1 zz=>?_);let ⟨vs,H1,I1,r1,q1⟩:=zz;refine kws_cons (thn (he pins s1 σ H1 _ I1 q1) fun v s2 ⟨u,H2,I2,r2,a1,b,ns,e1,hq,q0,qm⟩=>kws_nil ?_);subst e1;let ⟨x,rfl,rx⟩:=r1.one;cases rx;let ⟨its,r,pl,hz⟩:=I2.sq hq;have hlt:a1<s2.heap.objs.size:=by let ⟨_,e,_⟩:=pl.obj;exact k1n e
 have hlen:=by have:=r.length;simpa using this.symm
 have zZ1:(toString "min"++toString ".loop":String)="min.loop":=by decide
 refine kmk_tree PySem.F.kind_min PySem.F.plain_min PySem.F.entry_min (s1l _ _) ?_;refine y0 (R4 rfl (y0 (d0 (y0 (m0r pl (y0 (N0 ?_)))))));have k2:∀b' o,s2.heap.get? b'=some o->((s2.heap.push {cls:=.type (itN b),data:=.fields #[.ref a1,.int 0 0]}).push {cls:=.type "list",data:=.seq ([]:List Z0).toArray}).get? b'=some o:=fun b' o e=>k1w _ (k1w _ e)
 refine d0 ⟨plainId_quiet h1x _,?_⟩;refine x1d (d0y b (A:=X.A.in1) (I2.ok.hd hc) s2.heap.objs.size a1 (k1i hlt) its.toArray) ns (by grind) (fun i w hw=>zJ8 r (by grind)) _ ?_ v its.toArray.size 0 _ #[] 0 (f1n _) (j1e _)
  ⟨.of (k1w _ (k1s _ rfl)) rfl rfl,pl.zo2 fun o e=>k2 _ o e⟩ (k1s _ rfl) (.inl ⟨rfl,rfl⟩) fun w h' tk z0 z1 kp=>?_
 .rw[j1j]
  grind
 .have I3:Inv X pins σ H2 {s2 with heap:=h',toks:=tk}:=I2.kept fun c o e=>kp c o (fun z=>k1i (k1n e) (k1d.mp z)) (fun z=>by rw[j1j]at z;exact k1i (h1w (k1n e)) z) (k2 c o e)
  by_cases hn:ns=[]
  .rw[z0 hn];exact ⟨u,H2,I3,r2,q0 hn⟩
  .let ⟨m,t,rfl,hm⟩:=z1 hn;exact ⟨.int m,H2,I3,⟨t,rfl⟩,qm m hm⟩
def rAny(K:Fg):List V->Hp->VK->Prop:=λvs H Q=>∃(a:X0) (bs:List Bool),vs=[.ref a]/\SqL K H a (bs.map V.bl)/\Q (.bl (bs.any id)) H
def s1k(o:X.calm=true):x0t X (.builtin "any") (rAny X.K):=by
 intro l s B H C D Q I t h;let ⟨a,bs,rfl,w,q⟩:=h;let ⟨u,rfl,y⟩:=t.one;cases y;let ⟨c,r,p,hz⟩:=I.list w;have g:=p.isList;have m:=n0a r;have j:a<s.heap.objs.size:=by let ⟨_,e,_⟩:=g;exact k1n e
 refine call_any_walk (A4 g ?_);refine ⟨s.heap.objs.size,[s.heap.objs.size,a],[s.heap.objs.size],c.toArray.size,_,_,λi=>(bs[i]?).getD false,rfl,a1e (A:=X.A.in1) (I.ok.hd o) _ a (k1i j) c.toArray,
  ⟨⟨_,k1s _ rfl,rfl,rfl⟩,g.push _⟩,λi v F G J L n=>?_,λM tk z=>?_⟩
 .let ⟨b,e,rfl⟩:=m.get i v (by grind);simp only[e]at n;exact J1 n
 .have e:((List.range c.toArray.size).any λi=>(bs[i]?).getD false)=bs.any id:=by
   rw[j1m,m.length];rw[a1p,g1n,g1n];constructor
   .rintro ⟨i,k,f⟩;have d:=f1x.mp k;rw[k1u d]at f;exact ⟨bs[i],i1t d,f⟩
   .rintro ⟨b,k,f⟩;let ⟨i,d,rfl⟩:=g1w.mp k;exact ⟨i,f1x.mpr d,by rw[k1u d];exact f⟩
  rw[e];exact ⟨.bl _,H,I.kept (e1e z),rfl,q⟩
def ItRv(K:Fg)(a:X0)(n:Nat):It:=
 ⟨λi H=>i<n/\∃xs,SqL K H a xs/\xs.length=n,λi H x H'=>H'=H/\∀xs,SqL K H a xs->xs[n-1-i]?=some x,λi H=>i=n⟩
def l1x{P:V0}{w:T0}{K:Fg}{L:Expr}(a it:X0)(n:Nat):Turn P w K L (ItRv K a n) [it] it (λi h=>i<=n/\h.IsRevIter it a ((n:Int)-1-i))where
 mem:=by simp
 obj:=λi h st b j=>by
  have e:b=it:=by simpa using j
  subst e;let ⟨_,o,e,c,d⟩:=st
  grind
 keep:=λi h t st k=>⟨st.1,st.2.at λo e=>k it (by simp) o e⟩
 item:=by
  intro X y z B F i g s G H E I v st m;subst y z B;let ⟨M,N,J,hl⟩:=m;let ⟨O,Q,p,hz⟩:=I.list J;have r:n-1-i<N.length:=by lia
  let ⟨u,R,S⟩:=Q.get (k1u r);let ⟨f0,f1,f2,C,D,f5⟩:=v it (by simp);have f:=st.2;rw[show (n:Int)-1-i=((n-1-i:Nat):Int)by lia]at f;refine wpAny_pyNext_rev_item f p.isList (x:=u) (by simpa using R) λt l U=>?_
  have V:Inv X g G H {s with heap:=t}:=I.turned (t':=s.toks) (λb o j e=>(U.2 b j).trans e) f0 f1 C D f5;rw[show ((n-1-i:Nat):Int)-1=(n:Int)-1-((i+1:Nat):Int)by lia]at l;let ⟨o,e,c,d⟩:=id l;exact ⟨u,rfl,c0o (s:={s with heap:=t}) e c d (by decide) ⟨_,H,V,S,⟨rfl,λys Z=>by rw[I.zl1 Z J];exact k1u r⟩,⟨M,l⟩,λb j=>(v b j).1⟩⟩
 done:=by
  intro X y z B F i g s G H E I v st m;subst y z B;have m:i=n:=m;subst m;let ⟨f0,f1,f2,C,D,f5⟩:=v it (by simp);have f:=st.2;rw[show (i:Int)-1-i=-1 by lia]at f;exact wpAny_pyNext_rev_end (I.ok.hd F) f λt eb=>⟨rfl,I.turned (t':=s.toks) (λb o j e=>eb b o j e) f0 f1 C D f5⟩
 self:=λ_ _ _ _ _ st h=>wpAny_pyIter_revIter st.2 h
def iRev(K:Fg)(ta:TA):TI:=λσ H R=>ta σ H λvs H1=>∃a xs,vs=[.ref a]/\SqL K H1 a xs/\R (ItRv K a xs.length) H1
variable{tg:Expr}
def zG1{a:Expr}{i:TA}{p pos:Pos}(k:Gl X "reversed")(hm:X.mg "reversed"=none)(ha:PA X [a] i)(hs:R0 [a] X.env=[(false,eval a X.env)]:=by rfl):PI X tg (.Call (.Name "reversed" p) [a] [] pos) (iRev X.K i):=by
 intro d s l H R I h;refine Call_ (x0u I k hm boot_reversed (i1y (thn (ha pos d s l H _ I h) λD j zz=>?_) hs rfl));let ⟨F,m,g,n,t⟩:=zz;let ⟨b,v,e,w,q⟩:=t;subst e;let ⟨u,rfl,y⟩:=n.one;cases y;let ⟨z,r,B,hz⟩:=g.list w;have f:=r.length.symm;refine call_reversed_list B.isList (wpAny_pyIter_revIter ⟨_,k1s _ rfl,rfl,rfl⟩ ?_);refine ⟨j.heap.objs.size,[j.heap.objs.size],_,_,m,rfl,g.kept λb o e=>k1w _ e,l1x b _ v.length,⟨Nat.zero_le _,?_⟩,λc C=>?_,q⟩
 .refine ⟨_,k1s _ rfl,rfl,?_⟩;rw[j1m,f];show Data.fields #[_,G1 _]=_;simp
 .have e:=by simpa using C
  subst e;exact g.za3 (k1q _) (g.hok.fresh (k1q _))
end
end L2
namespace DL
open Spec L2
section
variable{K:Frag}{F:Hp}
def zW5:List D->Option (List (List Int))
 | []=>some []
 | .tup [_,_,.tup xs]::r=>match z0f xs,zW5 r with |some a,some b=>some (a::b)|_,_=>none
 |_=>none
def zU2:List (List Int×D)->Option (List (List (List Int)))
 | []=>some []
 |(_,.lst ss)::r=>match zW5 ss,zU2 r with |some a,some b=>some (a::b)|_,_=>none
 |_=>none
def yz0:∀{f:List D} {g:List (List Int)} {ws:List V},zW5 f=some g->zz5 K F f ws->ws.length=g.length/\∀(j:Nat) (b:List Int),g[j]?=some b->∃t v1 v2 c,ws[j]?=some (.ref t)/\F t=some (.tup [v1,v2,.ref c])/\F c=some (.tup (b.map V.int)):=by
 intro f
 induction f with
 |nil=>intro g ws h r;cases h;rw[zz8.mp r];exact ⟨rfl,λj b e=>by simp at e⟩
 |cons d f i=>
  intro g ws h r;let ⟨v,l,rfl,k,m⟩:=zz1.mp r;unfold zW5 at h;split at h
  .contradiction
  .rename_i e;cases e;split at h
   .rename_i a b e1 e2;cases h;let ⟨p,u⟩:=i e2 m;let ⟨t,w,rfl,y,z⟩:=zz9.mp k;let ⟨v1,l1,rfl,z1,z⟩:=zz1.mp z;let ⟨v2,l2,rfl,z2,z⟩:=zz1.mp z;let ⟨v3,B,rfl,z3,z⟩:=zz1.mp z;cases zz8.mp z;let ⟨c,C,rfl,n,o⟩:=zz9.mp z3;rw[r0i e1 o]at n
    grind
   .cases h
  .cases h
def yz1:∀{c:List (List Int×D)} {BB:List (List (List Int))} {us:List (List Key×V)},zU2 c=some BB->zx5 K F c us->zb0 F us BB:=by
 intro c
 induction c with
 |nil=>intro BB us h r;cases h;unfold zx5 at r;subst r;exact ⟨rfl,λi k v e=>by simp at e⟩
 |cons j c d=>
  intro BB us h r;let ⟨v,l,rfl,f,g⟩:=r;unfold zU2 at h;split at h
  .contradiction
  .rename_i e;cases e;split at h
   .rename_i a b e1 e2;cases h;have S:=d e2 g;refine ⟨by rw[k1k,k1k,S.len],λi k w e=>?_⟩;cases i with
    |zero=>
     cases e;let ⟨m,ws,rfl,n,z⟩:=zy6.mp f;let ⟨o,p⟩:=yz0 e1 z
     simp_all
    |succ i=>exact S.at_ i k w e
   .cases h
  .cases h
def tupI(z:List Int):D:=.tup (z.map D.int)
theorem i0m:∀(bs:List X0) (a:List (List Int)),bs.length=a.length->(∀(i:Nat) (b:X0) (z:List Int),bs[i]?=some b->a[i]?=some z->F b=some (.tup (z.map V.int)))->zz5 K F (a.map tupI) (bs.map V.ref)
 | [],[],_,_=>zz5.nil
 |b::bs,z::a,c,h=>zz5.cons (zz9.mpr ⟨b,_,rfl,h 0 b z rfl rfl,z0l z⟩) (i0m bs a (c1s c) λi b z e1 e2=>h (i+1) b z e1 e2)
 | [],_::_,c,_=>by cases c
 |_::_,[],c,_=>by cases c
def l1w{xs:List (List Key×Addr)}(d:zw8 F xs):∀bs:List X0,(∀b∈bs,∃k,(k,b)∈xs)->∃a:List (List Int),bs.length=a.length/\∀(i:Nat) (b:X0) (z:List Int),bs[i]?=some b->a[i]?=some z->F b=some (.tup (z.map V.int))/\(z.map Sum.inl,b)∈xs:=by
 intro bs
 induction bs with
 |nil=>intro _;exact ⟨[],rfl,λi b z e=>by simp at e⟩
 |cons b bs f=>
  intro h;let ⟨a,g,j⟩:=f λc l=>h c (k1o _ l)
  let ⟨k,hm⟩:=h b (k1g ..);let ⟨ns,e1,e2⟩:=d _ hm;dsimp only at e1 e2;subst e1;refine ⟨ns::a,by rw[k1k,k1k,g],λi c z g1 g2=>?_⟩;cases i with
  |zero=>cases g1;cases g2;exact ⟨e2,hm⟩
  |succ i=>exact j i c z g1 g2
end
section
variable{X:Cx}{Y:Y2}{W:XW}{x0 x1 x2 x3 y:Str}{p p0 p0' p1 p2 p3 p3' tp yp apos zv1 pos zg5:Pos}{kt:Nat}{scope:P4}
def x0k(i:Nat):TE2:=λ_ ρ δ q=>match ρ[i]? with
 |some (.val (.dwt kvs))=>(match zU2 kvs with |some BB=>BB.flatten.length<=4000/\(∃k:Nat,∀b∈BB.flatten,b.length=k)/\∀zs:List (List Int),(∀z,z∈zs↔z∈BB.flatten)->zs.length<=BB.flatten.length->q (.lst (zs.map tupI)) ρ δ |none=>False)
 |_=>False
def b0o(i:Nat)(hc:X.calm=true)(hu:X.A.units+2<O2)(hm:X.mg "sorted"=none)(S:zx2 X [x0,x1,x2,x3] [] scope)
 (hg0:([x0,x1,x2,x3]++([]:List Nat).map (fun j=>X.N.getD j "")).Nodup->∀C zy0 zz6 fp cl,PG (X.zy1 [x0,x1,x2,x3] [] scope cl C zy0 zz6 fp) (.Name x0 p0) (n0e 0))
 (hg2:([x0,x1,x2,x3]++([]:List Nat).map (fun j=>X.N.getD j "")).Nodup->∀C zy0 zz6 fp cl,PG (X.zy1 [x0,x1,x2,x3] [] scope cl C zy0 zz6 fp) (.Tuple [.Name x1 p1,.Name x2 p2,.Name x3 p3] kt tp) (zT9 X.K 3 (zY1 [1,2,3])))
 (h0:∀C zy0 zz6 fp cl,PE (X.zy1 [x0,x1,x2,x3] [] scope cl C zy0 zz6 fp) (.Name x0 p0') (zV1 0)) (h3:∀C zy0 zz6 fp cl,PE (X.zy1 [x0,x1,x2,x3] [] scope cl C zy0 zz6 fp) (.Name x3 p3') (zV1 3))
 (hg:Gl X "sorted":=by rfl) (hN:X.N[i]?=some y:=by rfl) (hv:Vis X.env.scope y:=by walk_at "v3") (hd:(y==("__debug__":Str))=false:=by decide) (hcd:(y==("__classdict__":Str))=false:=by decide)
 (yz2:U1 (.Name y yp) "values" X.env (eval (.Name y yp) X.env)=eval (.Name y yp) X.env:=by rfl) (yz3:(apos.endLine==zv1.line)=true:=by rfl)
 (hst:R0 [.SetComp (.Name x3 p3') [⟨.Name x0 p0,.Call (.Attribute (.Name y yp) "values" apos) [] [] zv1,[],0⟩,⟨.Tuple [.Name x1 p1,.Name x2 p2,.Name x3 p3] kt tp,.Name x0 p0',[],0⟩] scope zg5] X.env=[(false,eval (.SetComp (.Name x3 p3') [⟨.Name x0 p0,.Call (.Attribute (.Name y yp) "values" apos) [] [] zv1,[],0⟩,⟨.Tuple [.Name x1 p1,.Name x2 p2,.Name x3 p3] kt tp,.Name x0 p0',[],0⟩] scope zg5) X.env)]:=by exact i6 rfl):
 PE2 X Y W (.Call (.Name "sorted" p) [.SetComp (.Name x3 p3') [⟨.Name x0 p0,.Call (.Attribute (.Name y yp) "values" apos) [] [] zv1,[],0⟩,⟨.Tuple [.Name x1 p1,.Name x2 p2,.Name x3 p3] kt tp,.Name x0 p0',[],0⟩] scope zg5] [] pos) (x0k i):=
 pe2 (q0r (i0p hc hu) hg hm zn0 (n0d (m1e hc (i1l hu) S (s1o (i8 hN hv hd hcd) yz2 yz3) (hg0 S.nd) (fun C zy0 zz6 fp cl=>r1b (h0 C zy0 zz6 fp cl)) (hg2 S.nd) h3 (fun _=>rfl) (fun _ _=>rfl)) f0b hst) (by decide) (by decide) hst rfl) fun σ H Q zz=>by
 let ⟨F,ρ,δ,x,q,I,h,k,kx⟩:=zz
 unfold x0k at h;split at h
 .rename_i kvs e;split at h
  .rename_i BB eB;let ⟨hz,⟨n,hn⟩,hq⟩:=h;let ⟨u,hu',r⟩:=I.env i _ e;let ⟨a,o,us,rfl,ea,z⟩:=zw3.mp r;refine ⟨_,x4 hu',a,o,us.1,us.2,rfl,I.sub _ _ ea,l1z (Q:=fun v H2=>q1g X.prog X.w [v] H2 Q) I.sub (yz1 eB z.2) hz (I.sub _ _ ea) fun D xs H' hD J=>?_⟩;have L:=I.z64 hD;have kH:zw8 H' xs:=fun p hp=>by
    let ⟨ns,e1,e2⟩:=J.key p hp;exact ⟨ns,e1,by rw[J.eq,j0 (i0 (I.sub _ _ e2) hD)];exact I.sub _ _ e2⟩
   refine ⟨D,xs,n,rfl,by rw[J.eq,j3],kH,fun p hp=>?_,j1o J.len hz,fun l bs hl pb=>?_⟩
   .let ⟨b,hb,e1⟩:=(J.mem p.1).mp ⟨p.2,hp⟩
    (simp[*])
   .have I1:=I.zi8 (o:=zg8 X.prog X.w xs D) L;rw[<-J.eq]at I1;have I2':=I1.alloc (o:=.lst (bs.map V.ref)) hl;let ⟨zs,z1,z2⟩:=l1w J.key bs fun b hb=>by
     grind
    have sm:=I1.grow (o:=.lst (bs.map V.ref)) hl;refine k _ _ _ _ ρ δ I2' sm (I1.lst hl (i0m bs zs z1 fun i b z e1 e2=>(z2 i b z e1 e2).1)) (hq zs (fun z=>?_) ?_)
    .constructor
     .intro hz';let ⟨j,hj⟩:=g1y.mp hz';have hjl:=(k1t.mp hj).1;have hm':=(z2 j bs[j] z (k1u (by lia)) hj).2;let ⟨b,hb,e1⟩:=(J.mem _).mp ⟨_,hm'⟩;rw[zn1.mp e1];exact hb
     .intro hb;let ⟨c,hc'⟩:=(J.mem (z.map Sum.inl)).mpr ⟨z,hb,rfl⟩;have hcb:=pb.mem_iff.mpr (j1u.mpr ⟨_,hc',rfl⟩);let ⟨j,hj⟩:=g1y.mp hcb;have hjl:=(k1t.mp hj).1;have hz':zs[j]?=some zs[j]:=k1u (by lia);let ⟨f1,_⟩:=z2 j c _ hj hz';let ⟨ns,e1,e2⟩:=J.key _ hc';rw[e2]at f1;have e3:zs[j]=ns:=by
       have:=i1q f1;injection this with this
       have hinj:∀a b:List Int,a.map V.int=b.map V.int->a=b:=by
        intro a
        induction a with
        |nil=>intro b h;cases b with |nil=>rfl |cons _ _=>cases h
        |cons x a ih=>intro b h;cases b with |nil=>cases h |cons y b=>rw[k1l]at h;injection h with h1 h2;cases h1;rw[ih b h2]
       solve_by_elim
      rw[zn1.mp e1,<- e3]
      grind
    .have:=pb.length_eq;rw[k1v]at this;have:=J.len;lia
  .exact h.elim
 .exact h.elim
end
section
variable{X:Cx}{Y:Y2}{W:XW}{te tj:TE2}{ta:TA2}{K:Frag}{tg:Expr}{x:Str}{p apos zv1 p2 pos pos2 kp:Pos}{a e j:Expr}
def b0n(kv:List Int×D):D:=.tup [tupI kv.1,kv.2]
def q0i(te:TE2):TI2:=λx ρ δ q=>te x ρ δ λd ρ1 δ1=>match d with | .dwt kvs=>q (kvs.map b0n) ρ1 δ1 |_=>False
def x1c{o:Expr}{j:List Expr}{G}{l:Pos}(r:PE2 X Y W o te)(c:U1 o "items" X.env (eval o X.env)=eval o X.env:=by rfl)(f:(apos.endLine==zv1.line)=true:=by rfl):
 PI2 X Y W (.Tuple j G l) (.Call (.Attribute o "items" apos) [] [] zv1) (q0i te):=pi2 (x1e r.go c f) λσ H R zz=>by
 let ⟨F,J,δ,x,q,I,h,k,L⟩:=zz
 refine ⟨F,J,δ,x,_,I,h,λd v M N t w C O P B=>?_,L⟩;split at B
 .let ⟨a,o,D,rfl,e2,z⟩:=zw3.mp P;have r:=z.2.length;refine ⟨a,o,D.1,D.2,rfl,C.sub _ _ e2,k _ _ M N t w C O ⟨λi d F2 Q e g m=>⟨⟨m _ _ (g _ _ e2),?_⟩,λu H3 y=>?_⟩,λF2 Q g m=>⟨m _ _ (g _ _ e2),by rw[k1v];exact r⟩⟩ B⟩
  .grind
  .let ⟨p,S,U,b,V,rfl,rfl,e3,Z,eb⟩:=y;let ⟨n,dd,e4,rfl,r4⟩:=z.2.get i S U e3;rw[k1h,e4]at e;cases e;let ⟨xs,ex⟩:=z.1 b Z;have e5:=m _ _ (g _ _ ex);rw[eb,s0x]at e5;cases e5;exact .inr ⟨p,_,_,V,rfl,rfl,rfl,zz5.cons (zz9.mpr ⟨b,_,rfl,g _ _ ex,z0l n⟩) (zz5.cons (r4.mono g) zz5.nil)⟩
 .exact B.elim
theorem q1e{σ:St}{ρ:En}{δ:Dk}{Q:VK}:∀(kvs:List (List Int×D)) (ps:List (V×V)) (ds:List D) (vs:List V) (F H:Hp),I2 K Y F H σ ρ δ->ps.length=kvs.length->(∀(i:Nat) (p:V×V) kv,ps[i]?=some p->kvs[i]?=some kv->Rep K F (tupI kv.1) p.1/\Rep K F kv.2 p.2)->zz5 K F ds vs->
 (∀v F' H' ds',I2 K Y F' H' σ ρ δ->zz7 F F'->ds'.Perm (ds++kvs.map b0n)->Rep K F' (.lst ds') v->Q v H')->zB1 H ps vs Q
 | [],[],ds,vs,F,H,I,hl,hp,r,k=>fun p zs hq pm=>by
  obtain ⟨ds',p1,r'⟩:∃ds':List D,ds'.Perm ds/\zz5 K F ds' zs:=by
   have:∀{zs vs:List V},zs.Perm vs->∀{ds:List D},zz5 K F ds vs->∃ds':List D,ds'.Perm ds/\zz5 K F ds' zs:=by
    intro zs vs h
    induction h with
    |nil=>intro ds r;exact ⟨ds,.refl _,r⟩
    |cons x _ ih=>
     intro ds r;cases ds with
     |nil=>cases zz8.mp r
     |cons d ds=>let ⟨v,l,e,r1,r2⟩:=zz1.mp r;cases e;let ⟨ds',q1,q2⟩:=ih r2;exact ⟨d::ds',q1.cons d,zz5.cons r1 q2⟩
    |swap x y l=>
     intro ds r;cases ds with
     |nil=>cases zz8.mp r
     |cons d ds=>
      let ⟨v,l,e,r1,r2⟩:=zz1.mp r;cases e;cases ds with
      |nil=>cases zz8.mp r2
      |cons d2 ds=>let ⟨v,l,e,r3,r4⟩:=zz1.mp r2;cases e;exact ⟨d2::d::ds,.swap _ _ _,zz5.cons r3 (zz5.cons r1 r4)⟩
    |trans _ _ ih1 ih2=>
     intro ds r;let ⟨d1,q1,r1⟩:=ih2 r;let ⟨d2,q2,r2⟩:=ih1 r1;exact ⟨d2,q2.trans q1,r2⟩
   solve_by_elim
  exact k _ _ _ ds' (I.alloc hq) (I.grow hq) (by simp_all) (I.lst hq r')
 |kv::kvs,q::ps,ds,vs,F,H,I,hl,hp,r,k=>fun l hq=>by
  let ⟨r1,r2⟩:=hp 0 q kv rfl rfl;have sm:=I.grow (o:=.tup [q.1,q.2]) hq;refine q1e kvs ps (ds++[b0n kv]) _ _ _ (I.alloc hq) (c1s hl) (fun i p kv e1 e2=>(hp (i+1) p kv e1 e2).imp (·.mono sm) (·.mono sm)) (zz5.append (r.mono sm) (zz5.cons (I.tup hq (zz5.cons r1 (zz5.cons r2 zz5.nil))) zz5.nil)) fun v F' H' ds' I' s' p' r'=>k v F' H' ds' I' (sm.trans s') ?_ r'
  simp_all
 | [],_::_,_,_,_,_,_,hl,_,_,_=>by cases hl
 |_::_,[],_,_,_,_,_,hl,_,_,_=>by cases hl
def t0o(i:Nat):TE2:=λ_ ρ δ q=>match za0 ρ i with |some kvs=>kvs.length<=4000/\(∀kv∈kvs,∃n:Int,kv.2=.int n)/\∀ds,ds.Perm (kvs.map b0n)->q (.lst ds) ρ δ |none=>False
def i0l(i:Nat)(y:X.calm=true)(B:X.A.units+2<O2)(hm:X.mg "sorted"=none)(C:Gl X "sorted":=by rfl)(D:X.N[i]?=some x:=by rfl)(G:Vis X.env.scope x:=by walk_at "v3")(hd:(x==("__debug__":Str))=false:=by decide)
 (g:(x==("__classdict__":Str))=false:=by decide) (c:U1 (.Name x p) "items" X.env (eval (.Name x p) X.env)=eval (.Name x p) X.env:=by rfl) (f:(apos.endLine==zv1.line)=true:=by rfl)
 (l:R0 [.Call (.Attribute (.Name x p) "items" apos) [] [] zv1] X.env=[(false,eval (.Call (.Attribute (.Name x p) "items" apos) [] [] zv1) X.env)]:=by rfl):
 PE2 X Y W (.Call (.Name "sorted" p2) [.Call (.Attribute (.Name x p) "items" apos) [] [] zv1] [] pos2) (t0o i):=pe2 (i0o y B C hm (i8 D G hd g) c f l) λσ H Q zz=>by
 let ⟨F,J,δ,x,q,I,h,k,kx⟩:=zz
 unfold t0o at h;split at h
 .rename_i o e;let ⟨hz,L,M⟩:=h;let ⟨a,u,O,P,z⟩:=m1s I e;have R:=z.2.length;refine ⟨_,O,a,u.1,u.2,rfl,P,by lia,λp S=>?_,λU w=>q1e o U [] [] F H I (by rw[w.1,R]) (λi p kv e1 e2=>?_) zz5.nil λv F' H' r V Z p' r'=>k _ _ _ _ J δ V Z r' (M r p')⟩
  .let ⟨j,hj⟩:=g1y.mp S;let ⟨n,d,e4,e5,t⟩:=z.2.get j p.1 p.2 hj;let ⟨m,em⟩:=L _ (k1m e4);subst em;exact ⟨⟨n,e5⟩,m,zz4.mp t⟩
  .let ⟨kk,xx,b,e3,rfl,gb,eb⟩:=w.2 i p e1;let ⟨n,dd,e4,rfl,t⟩:=z.2.get i kk xx e3;rw[e2]at e4;cases e4;let ⟨xs,ex⟩:=z.1 b gb;have e5:=I.sub _ _ ex;rw[eb,s0x]at e5;cases e5;exact ⟨zz9.mpr ⟨b,_,rfl,ex,z0l n⟩,t⟩
 .exact h.elim
def d0b(ta:TA2)(te:TE2):TE2:=λx ρ δ q=>ta x ρ δ λds ρ1 δ1=>te x ρ1 δ1 λd ρ2 δ2=>match ds with | [c]=>(match zm4 c with |some xs=>(match z0f xs with |some ns=>(ns=[]->q d ρ2 δ2)/\∀m,zr4 ns m->q (.int m) ρ2 δ2 |none=>False)|none=>False)|_=>False
def l1v(z:X.calm=true)(hm:X.mg "min"=none)(ha:PA2 X Y W [a] ta)(B:PE2 X Y W e te)(C:Gl X "min":=by rfl)(hs:R0 [a] X.env=[(false,eval a X.env)]:=by exact i6 rfl):
 PE2 X Y W (.Call (.Name "min" p) [a] [⟨some "default",e,kp⟩] pos) (d0b ta te):=pe2 (l1y z C hm ha.go B.go hs) λR H Q zz=>by let ⟨F,D,δ,x,q,I,h,k,t⟩:=zz;exact 
 ⟨F,D,δ,x,_,I,h,λds S F1 U j l G n J L=>⟨F1,j,l,x,_,G,L,λd v F2 u g i f o M b=>by
  split at b
  .split at b
   .split at b
    .rename_i c V e1 _ ns e2;let ⟨w,rfl,r⟩:=z0g (J.mono o);let ⟨N,O,P,rfl,y,z1⟩:=j0n e1 r;rw[r0i e2 z1]at y;exact ⟨N,P,ns,rfl,f.sub.sq y,λhn=>k _ _ F2 u g i f (n.trans o) M (b.1 hn),λm hm=>k _ _ F2 u g i f (n.trans o) (zz4.mpr rfl) (b.2 m hm)⟩
    .exact b.elim
   .exact b.elim
  .exact b.elim,t.mono n⟩,t⟩
def anyF:F1:=λds q=>match ds with | [.lst xs]=>(match zd6 xs with |some bs=>q (.bl (bs.any id))|none=>False)|_=>False
def yz4:t0w K (rAny K) anyF:=by
 intro Y F H d f δ g ds i q I r b k;unfold anyF at b;split at b
 .split at b
  .rename_i j _ bs e;let ⟨v,rfl,c⟩:=z0g r;let ⟨a,l,rfl,e2,z⟩:=zy6.mp c;exact ⟨a,bs,rfl,SqL.of (by rw[<-o1h e z];exact I.sub _ _ e2),k _ _ F H I (zz7.refl F) (zy2.mpr rfl) b⟩
  .exact b.elim
 .exact b.elim
def t0n:FM:=λds es q=>match es with | []=>q .non ds.reverse |_=>False
def x1b:MtD K e0x t0n:=by
 intro F H a b d ds e Q q c z r h k;unfold t0n at h;split at h
 .rw[zz8.mp r];exact ⟨a,b,rfl,rfl,c,k _ _ _ _ (zx1.mpr rfl) z.rev h⟩
 .exact h.elim
def zG2:W1 "any"=some (.builtin "any"):=by decide +kernel
def s1j(ta:TA2):TI2:=λx ρ δ q=>ta x ρ δ λds ρ1 δ1=>match ds with | [.lst xs]=>q xs.reverse ρ1 δ1 |_=>False
def zG3(hm:X.mg "reversed"=none)(ha:PA2 X Y W [a] ta)(C:Gl X "reversed":=by rfl)(hs:R0 [a] X.env=[(false,eval a X.env)]:=by exact i6 rfl):PI2 X Y W tg (.Call (.Name "reversed" p) [a] [] pos) (s1j ta):=pi2 (zG1 C hm ha.go hs) λV H R zz=>by
 let ⟨F,D,δ,x,q,I,h,k,G⟩:=zz
 refine ⟨F,D,δ,x,_,I,h,λds Z J L f g n M N j=>?_,G⟩;split at j
 .rename_i O;let ⟨v,rfl,P⟩:=z0g N;let ⟨b,c,rfl,o,z⟩:=zy6.mp P;have Q:=z.length;refine ⟨b,c,rfl,SqL.of (n.sub _ _ o),k _ _ J L f g n M ⟨λi d F2 r e l t=>?_,λF2 r l t=>?_⟩ j⟩
  .have B:=(k1t.mp e).1;rw[h1k]at B;rw[e1u B]at e;let ⟨w,S,m⟩:=z.get e;have sq:SqL X.K r b c:=SqL.of (t _ _ (l _ _ o));refine ⟨⟨by lia,c,sq,rfl⟩,λu H3 y=>?_⟩;let ⟨rfl,U⟩:=y;have:=U c sq;rw[Q,S]at this;cases this;exact .inl ⟨rfl,m.mono l⟩
  .show O.reverse.length=c.length
   simp_all
 .exact j.elim
def d0a(te tj:TE2):TE2:=λx ρ δ q=>te x ρ δ λd ρ1 δ1=>tj x ρ1 δ1 λdj ρ2 δ2=>match d,zc9 dj with
 | .dwt kvs,some k=>(match zo0 kvs k with |some v=>q v ρ2 δ2 |none=>False)
 |_,_=>False
def l1u(t:X.A.units+1<O2)(u:PE2 X Y W e te)(y:PE2 X Y W j tj)(hs:z15 j:=by exact λ_ _=>rfl):PE2 X Y W (.Subscript e j pos) (d0a te tj):=pe2 (o1z t u.go y.go hs) λV H Q zz=>by let ⟨F,B,δ,x,q,I,h,k,n⟩:=zz;exact 
 ⟨F,B,δ,x,_,I,h,λd v F1 Z g i C p D G=>⟨F1,g,i,x,_,C,G,λdj w F2 J l m c r L f=>by
  split at f
  .rename_i M N O;split at f
   .rename_i vd P;let ⟨a,o,us,rfl,R,z⟩:=zw3.mp (D.mono r);let ⟨b,rfl,S⟩:=t1a O L;have hz:=z.2.val N;rw[P]at hz;let ⟨v3,e3,U⟩:=hz;exact ⟨a,v3,rfl,by rw[<-e3];exact m1r (.inr ⟨o,c.sub _ _ R⟩) (c.sub _ _ S),k _ _ F2 J l m c (p.trans r) U f⟩
   .exact f.elim
  .exact f.elim,n.mono p⟩,n⟩
end
end DL
namespace L2
open Spec PyProof.Rows
section
variable{X:Cx}
def zG4(K:Fg)(i:Nat)(wi:TI)(tup:Bool)(n:Nat)(js:List Nat)(tk tv:TE):TS:=λE σ H=>wi σ H λJ H1=>∀D,H1 D=none->r0k K J tup n (List.replicate 0 none++y0c σ js) (λ_ H Q=>Q true H) (zB2 D tk tv) (upd H1 D (.dT [] λ_=>False)) λH2=>∃kvs G,H2 D=some (.dT kvs G)/\∀o,E.nx (σ.set i (some (.ref D))) (upd H2 D (.frz o (.dT kvs G)))
def s1i{i:Nat}{y:Str}{py:Pos}{xs:List Str}{target t u iter:Expr}{f:List Nat}{scope:P4}{pos c:Pos}{tup:Bool}{g:TG}{tk R:TE}{U:TI}(hc:X.calm=true)(hu:X.A.units<O2)(S:zx2 X xs f scope)(hi:PI X target iter U)
 (hg:∀C zy0 zz6 fp cl,PG (X.zy1 xs f scope cl C zy0 zz6 fp) target g) (gm:TgM X.K tup xs.length g) (w:∀C zy0 zz6 fp cl,PE (X.zy1 xs f scope cl C zy0 zz6 fp) t tk)
 (hv:∀C zy0 zz6 fp cl,PE (X.zy1 xs f scope cl C zy0 zz6 fp) u R) (hN:X.N.Nodup) (hy:X.N[i]?=some y) (hl:Loc X.env.scope y)
 (B:B2 (.DictComp t u [⟨target,iter,[],0⟩] scope pos) (some (.Name y py)) c.line X.env=pure true)
 (hs:∀v,foldedSetIterable iter X.env v=pure v:=by intro _;rfl) (F:X.fn y=true\/X.env.scope.names.lookup y=some .local:=by first |exact .inl rfl |exact .inr rfl |assumption):
 PS X (.Assign [.Name y py] (.DictComp t u [⟨target,iter,[],0⟩] scope pos) c) (zG4 X.K i U tup xs.length f tk R):=by
 intro j s V H D I h;let ⟨cl,c0,c1,c2⟩:=z0n λp hp w=>I.ok.has p.1 (S.free p hp w)
 rw[exec_Assign_Name_used _ _ _ _ B];refine y0 (X2 (y0 ?_));refine y0 (K0 (X3 rfl hs c0 S.kind S.loc
  (thn (hi j s V H _ I h) λxv W k=>thn k λaa Z l=>?_)) (λ_ s' hq=>d0 (d0 hq)) λ_ _ e=>e)
 let ⟨it,fp,tn,J,H',rfl,I2,T,st,hf,q⟩:=l;refine s9 (Q:=λv H2=>∃n d G,v=.ref n/\H2 n=some (.dT d G)/\∀o,D.nx (V.set i (some v)) (upd H2 n (.frz o (.dT d G)))) (r:=0) hc S rfl (λit D env=>i0u) d0c hg gm (λ_ _ _ _ _=>q0l)
  (λD C zy0 zz6 fp cl it=>q1f rfl hu (w C zy0 zz6 fp cl) (hv C zy0 zz6 fp cl)) c1 c2 I2 T st hf (λn hD=>?_) ?_
 .grind
 .rintro E C H' s' I' L ⟨m,hm⟩ ⟨n,d,G,ee,M,qq⟩;refine A5 (q0c (v:=.ref E) I' hN hy hl rfl (λs2 I2 zz=>?_) F);let ⟨a,sb,ha⟩:=zz;have O:C≠a:=by
   rcases ha with z |z
   .rw[z];exact L.ne
   .exact (L.cell y a z).symm
  refine ⟨m,hm.sameBut sb O,λh' P=>?_⟩;have I3:=I2.turned (t':=s2.toks) (λb o hb e=>P.extBut b o hb e) L.free L.ne (.inr L.yng) L.cell L.pin;let ⟨o,I4⟩:=q1s I3 M;exact ⟨_,_,I4,qq o⟩
end
end L2
namespace DL
open Spec L2
section
variable{X:Cx}{Y:Y2}{W:XW}{target kx vx iter:Expr}{xs:List Str}{js:List Nat}{scope:P4}{pos zg5 py:Pos}{tk tv:TE2}{ti:TI2}{tup:Bool}{g:TG}{y:Str}
def s1h(i:Nat)(t:X.calm=true)(w:X.A.units<O2)(S:zx2 X xs js scope)(B:PI2 X Y W target iter ti)(G:(xs++js.map (λj=>X.N.getD j "")).Nodup->∀C zy0 zz6 fp cl,PG (X.zy1 xs js scope cl C zy0 zz6 fp) target g)(M:TgM X.K tup xs.length g)
 (O:∀C zy0 zz6 fp cl b,PE2 (X.zy1 xs js scope cl C zy0 zz6 fp) b W0 kx tk) (P:∀C zy0 zz6 fp cl b,PE2 (X.zy1 xs js scope cl C zy0 zz6 fp) b W0 vx tv) (R:X.N.Nodup) (U:X.N[i]?=some y:=by rfl) (V:Loc X.env.scope y:=by walk_at "v2")
 (e:B2 (.DictComp kx vx [⟨target,iter,[],0⟩] scope pos) (some (.Name y py)) zg5.line X.env=pure true:=by rfl) (hs:∀v,foldedSetIterable iter X.env v=pure v:=by intro _;rfl) (k:X.fn y=true\/X.env.scope.names.lookup y=some .local:=by walk_at "v1"):
 PS2 X Y W (.Assign [.Name y py] (.DictComp kx vx [⟨target,iter,[],0⟩] scope pos) zg5) (c0a i (p0l ti tup xs.length js tk tv)):=
 ps2 (s1i t w S B.go (G S.nd) M (λC zy0 zz6 fp cl a s d H Q I ⟨b,h⟩=>(O C zy0 zz6 fp cl b).go a s d H Q I h) (λC zy0 zz6 fp cl a s d H Q I ⟨b,h⟩=>(P C zy0 zz6 fp cl b).go a s d H Q I h) R U V e hs k) λE1 d H ⟨F,Z,δ,E2,I,h,er⟩=>
  ⟨F,Z,δ,E2.xc,_,I,h,λds J F1 H1 aa ab I1 s1 l h1=>i0n I1 l h1 λD F' H' m ac c I' s' hD L r q'=>⟨c.1,c.2,hD,λo=>by
   have n:=I'.zi8 (o:=.frz o (.dT c.1 c.2)) L;have p:=L.upd (u:=.frz o (.dT c.1 c.2)) (λ_ z=>nomatch z);have I3:=n.iceG p j3;exact er.nx _ _ _ _ m (I3.put (zw3.mpr ⟨D,o,c,rfl,j3,r.mono (zz7.new L.f)⟩)) ((s1.trans s').trans (zz7.new L.f)) q'⟩,er.xc⟩
end
end DL
namespace HT
open PyProof.Rows
end HT
namespace L2
open Spec PyProof.Rows
end L2
namespace DL
open Spec L2
section
variable{e:Expr}{te:TE2}
end
end DL
namespace L2
open Spec PyProof.Rows Calls W
end L2
namespace DL
open Spec L2
variable{d:D}{v:V}
open PyProof.Rows (envOfC)
section
variable{X:Cx}{Y:Y2}{W:XW}{o:Expr}{te:TE2}
def c0z(te:TE2):TE2:=λx ρ δ q=>te x ρ δ λd ρ1 δ1=>match d with | .dwt kvs=>q (.lst (kvs.map (·.2))) ρ1 δ1 |_=>False
def b0m{apos b p2 f:Pos}(u:X.calm=true)(hm:X.mg "list"=none)(ho:PE2 X Y W o te)(i:Gl X "list":=by rfl)(c:U1 o "values" X.env (eval o X.env)=eval o X.env:=by rfl)(e:(apos.endLine==b.line)=true:=by rfl)
 (j:R0 [.Call (.Attribute o "values" apos) [] [] b] X.env=[(false,eval (.Call (.Attribute o "values" apos) [] [] b) X.env)]:=by rfl):
 PE2 X Y W (.Call (.Name "list" p2) [.Call (.Attribute o "values" apos) [] [] b] [] f) (c0z te):=pe2 (j0e u i hm ho.go c e j) λD H Q zz=>by
 let ⟨F,w,δ,x,q,I,h,k,y⟩:=zz
 refine ⟨F,w,δ,x,_,I,h,λd v F1 G l m g z B n=>?_,y⟩;split at n
 .let ⟨a,o,t,rfl,C,i⟩:=zw3.mp B;exact ⟨a,t.1,t.2,rfl,.inr ⟨o,g.sub _ _ C⟩,λp r=>k _ _ _ _ l m (g.alloc r) (z.trans (g.grow r)) (g.lst r i.2.reps) n⟩
 .exact n.elim
end
section
variable{K:Frag}{F:Hp}{l a0:X0}{us:List V}{w:HO}
def nrf:D->Bool
 | .non | .bl _ | .int _ | .str _ | .ty _=>true
 |_=>false
def c1:D->Bool
 | .lst ds | .tup ds | .scr ds=>ds.all nrf
 | .ref _=>true
 |d=>nrf d
def c2:D->Bool
 | .tup ds=>ds.all c1
 |d=>c1 d
def s0u(h:nrf d=true)(r:Rep K F d v):Rep K (upd F l w) d v/\∀a,v≠.ref a:=by
 cases d with
 |non=>cases zx1.mp r;exact ⟨zx1.mpr rfl,λ_ e=>nomatch e⟩
 |bl b=>cases zy2.mp r;exact ⟨zy2.mpr rfl,λ_ e=>nomatch e⟩
 |int b=>cases zz4.mp r;exact ⟨zz4.mpr rfl,λ_ e=>nomatch e⟩
 |str b=>cases zx3.mp r;exact ⟨zx3.mpr rfl,λ_ e=>nomatch e⟩
 |ty b=>cases zm6.mp r;exact ⟨zm6.mpr rfl,λ_ e=>nomatch e⟩
 |_=>cases h
theorem q0h:∀{ds:List D} {vs:List V},ds.all nrf=true->zz5 K F ds vs->zz5 K (upd F l w) ds vs/\∀a,V.ref a∉vs
 | [],vs,_,r=>by rw[zz8.mp r];exact ⟨zz5.nil,λa h=>nomatch h⟩
 |d::ds,vs,h,r=>by
  let ⟨v,vs,rfl,b,c⟩:=zz1.mp r;rw[i1n,k1p]at h;let ⟨e,f⟩:=s0u (l:=l) (w:=w) h.1 b;let ⟨g,i⟩:=q0h h.2 c;refine ⟨zz5.cons e g,λa h=>?_⟩;rcases j1n.mp h with h |h
  .exact f a h.symm
  .exact i a h
def q1d(f:F l=some (.lst (.ref a0::us)))(h:c1 d=true)(r:Rep K F d v):Rep K (upd F l w) d v:=by
 have key:∀{a:X0} {c:List V},F a=some (.lst c)->(∀b,V.ref b∉c)->upd F l w a=F a:=λ{a c} e q=>j0 λz=>by
  subst z;rw[f]at e;cases e;exact q a0 (k1g ..)
 cases d with
 |lst ds=>
  let ⟨a,c,rfl,e,r⟩:=zy6.mp r;let ⟨g,q⟩:=q0h (l:=l) (w:=w) h r;exact zy6.mpr ⟨a,c,rfl,(key e q).trans e,g⟩
 |tup ds=>
  let ⟨a,c,rfl,e,r⟩:=zz9.mp r;exact zz9.mpr ⟨a,c,rfl,by rw[j0 (λz=>by rw[z,f]at e;cases e)];exact e,(q0h h r).1⟩
 |scr ds=>
  let ⟨a,c,rfl,e,r⟩:=zr3.mp r;let ⟨g,q⟩:=q0h (l:=l) (w:=w) h r;refine zr3.mpr ⟨a,c,rfl,?_,g⟩;rcases e with (e |⟨o,e⟩)|e
  .exact .inl (.inl ((key e q).trans e))
  .exact .inl (.inr ⟨o,by rw[j0 (λz=>by rw[z,f]at e;cases e)];exact e⟩)
  .exact .inr e
 |ref a=>cases zu9.mp r;exact zu9.mpr rfl
 |non=>exact (s0u (d:=.non) rfl r).1
 |bl b=>exact (s0u (d:=(.bl b)) rfl r).1
 |int b=>exact (s0u (d:=(.int b)) rfl r).1
 |str b=>exact (s0u (d:=(.str b)) rfl r).1
 |ty b=>exact (s0u (d:=(.ty b)) rfl r).1
 |_=>cases h
theorem p0k{p:D->Bool}(a:∀{d:D} {v:V},p d=true->Rep K F d v->Rep K (upd F l w) d v):∀{ds:List D} {vs:List V},ds.all p=true->zz5 K F ds vs->zz5 K (upd F l w) ds vs
 | [],vs,_,r=>by rw[zz8.mp r];exact zz5.nil
 |d::ds,vs,h,r=>by
  let ⟨v,vs,rfl,b,c⟩:=zz1.mp r;rw[i1n,k1p]at h;exact zz5.cons (a h.1 b) (p0k a h.2 c)
def zG5(b:F l=some (.lst (.ref a0::us)))(h:c2 d=true)(r:Rep K F d v):Rep K (upd F l w) d v:=by
 cases d with
 |tup ds=>
  let ⟨a,c,rfl,e,r⟩:=zz9.mp r;exact zz9.mpr ⟨a,c,rfl,by rw[j0 (λz=>by rw[z,b]at e;cases e)];exact e,p0k (q1d b) h r⟩
 |_=>exact q1d b h r
end
def c2C:Cell->Bool
 | .no=>true
 | .val d=>c2 d
 |_=>false
section
variable{X:Cx}{Y:Y2}{W:XW}{st:Y1}{rest:List Y1}{t u:TS2}{pos:Pos}
abbrev F0:Hp:=λ_=>none
def s1g(F:Hp):zz7 F0 F:=λb o e=>nomatch e
def upS0(K:Frag)(Y:Y2)(W:XW)(t:TS2):TS:=λE1 σ H=>∃F ρ δ E2,I2 K Y F H σ ρ δ/\t E2 ρ δ/\ER K Y W F0 E2 E1
structure PS0(X:Cx)(Y:Y2)(W:XW)(st:Y1)(t:TS2):Prop where
 go:PS X st (upS0 X.K Y W t)
structure zW6(X:Cx)(Y:Y2)(W:XW)(st:List Y1)(t:TS2):Prop where
 go:PSs X st (upS0 X.K Y W t)
def zG6(h:PS2 X Y W st t):PS0 X Y W st t:=⟨m0w h.go λc d H zz=>by let ⟨F,a,δ,b,I,h,er⟩:=zz;exact ⟨F,a,δ,b,I,h,er.mono (s1g F)⟩⟩
def q1c(h:zl6 X Y W rest t):zW6 X Y W rest t:=⟨q0o h.go λc d H zz=>by let ⟨F,a,δ,b,I,h,er⟩:=zz;exact ⟨F,a,δ,b,I,h,er.mono (s1g F)⟩⟩
def l1t(h:PS0 X Y W st t):zW6 X Y W [st] t:=⟨t0c h.go⟩
def m0c(h1:PS0 X Y W st t)(d:zW6 X Y W rest u):zW6 X Y W (st::rest) (z1g t u):=⟨q0o (f0d h1.go d.go) λk l H zz=>by let ⟨F,e,δ,a,I,h,er⟩:=zz;exact 
 ⟨F,e,δ,{a with nx:=u a},I,h,⟨λf g m b c i _ j=>⟨g,b,c,a,i,j,er⟩,er.rt,er.xc,er.bk,er.ct⟩⟩⟩
def yz6{c:Expr}{a b:List Y1}{i:TT2}(l:PT2 X Y W c i)(ha:zW6 X Y W a t)(m:zW6 X Y W b u):PS0 X Y W (.If c a b pos) (z1f i t u):=⟨m0w (zT7 l.go ha.go m.go) λo p H zz=>by
 let ⟨F,n,δ,g,I,h,er⟩:=zz
 refine ⟨F,n,δ,g.xc,_,I,h,λb j r d e k v f=>?_,er.xc.mono (s1g F)⟩;cases b with
 |true=>rw[H0 rfl]at f ⊢; exact ⟨j,d,e,g,k,f,er⟩
 |false=>rw[O0 k1j]at f ⊢; exact ⟨j,d,e,g,k,f,er⟩⟩
def l1s(i:Nat):TS2:=λE ρ δ=>∃s0 s1 ss rest,ρ[i]?=some (.val (.tup (.lst (.tup s0::s1::ss)::rest)))/\(D.tup s0::(ss++rest)).all c2=true/\(∀(j:Nat) c,j≠i->ρ[j]?=some c->c2C c=true)/\(∀a ds,δ=some (a,ds)->ds.all c2=true)/\
 E.nx (ρ.set i (.val (.tup (.lst (.tup s0:: .tup s0::ss)::rest)))) δ
def s1f(i:Nat){x:Str}{p1 p2 g m n p C q3 P Q:Pos}{z0 z1 z2 z3:Nat}(hF:Y.zf7=Y.zz6)(hO:zV6 Y.zz6)(hN:X.N[i]?=some x:=by rfl)(hv:Vis X.env.scope x:=by walk_at "v3")(hd:(x==("__debug__":Str))=false:=by decide)
 (D:(x==("__classdict__":Str))=false:=by decide)
 (ha:∀v,assign (.Subscript (.Subscript (.Name x p1) (.Constant (.int 0) z0 p2) g) (.Constant (.int 1) z1 m) n) X.env v=(do
  let M<-holding [v] (eval (.Subscript (.Name x p1) (.Constant (.int 0) z0 p2) g) X.env)
  let S<-holding [v,M] (eval (.Constant (.int 1) z1 m) X.env)
  standAt n
  holding [v,M,S] (setItem M S v)
  release [v,M,S] []):=by intro _;rfl)
 (hs:swapsWithSole [.Subscript (.Subscript (.Name x p1) (.Constant (.int 0) z0 p2) g) (.Constant (.int 1) z1 m) n] (.Subscript (.Subscript (.Name x p) (.Constant (.int 0) z2 C) q3) (.Constant (.int 0) z3 P) Q) pos.line X.env=pure false:=by rfl)
 (hw:swappedStores [.Subscript (.Subscript (.Name x p1) (.Constant (.int 0) z0 p2) g) (.Constant (.int 1) z1 m) n] (.Subscript (.Subscript (.Name x p) (.Constant (.int 0) z2 C) q3) (.Constant (.int 0) z3 P) Q) X.env=pure none:=by rfl)
 (h1:(K4 [.Subscript (.Subscript (.Name x p1) (.Constant (.int 0) z0 p2) g) (.Constant (.int 1) z1 m) n] X.env).map (·.2)=[assign (.Subscript (.Subscript (.Name x p1) (.Constant (.int 0) z0 p2) g) (.Constant (.int 1) z1 m) n) X.env]:=by rfl):
 PS0 X Y W (.Assign [.Subscript (.Subscript (.Name x p1) (.Constant (.int 0) z0 p2) g) (.Constant (.int 1) z1 m) n] (.Subscript (.Subscript (.Name x p) (.Constant (.int 0) z2 C) q3) (.Constant (.int 0) z3 P) Q) pos) (l1s i):=
 ⟨m0w (r1r (a0m zc1 (a0m zc2 (i8 hN hv hd D) r0n (λ_ _=>rfl)) r0n (λ_ _=>rfl)) (r1s (a0m zc2 (i8 hN hv hd D) r0n (λ_ _=>rfl)) r0n e0y ha) hs hw h1) λE1 σ H zz=>by
 let ⟨F,ρ,δ,E2,I,h,er⟩:=zz
 let ⟨s0,s1,ss,rest,e,G,J,U,h⟩:=h;let ⟨v,ev,rv⟩:=I.env i _ e;let ⟨tt,vs,rfl,O,rt⟩:=zz9.mp rv;let ⟨vl,vr,rfl,rl,rr⟩:=zz1.mp rt;let ⟨l,ws,rfl,fl,Z⟩:=zy6.mp rl;let ⟨v0,w1,rfl,r0,aa⟩:=zz1.mp Z;let ⟨v1,w2,rfl,r1,r2⟩:=zz1.mp aa;let ⟨B,ae,rfl,f0,_⟩:=zz9.mp r0;have ht:=I.sub _ _ O;have hl:=I.sub _ _ fl;have L:=x4 ev;have t:∀(v:V) (l:List V),atI (v::l) 0=some v:=λv l=>by
  unfold atI ixN;rw[H0 (by decide),H0 (by simp only[k1k];lia)];rfl
 have ab:ixN (V.ref B::v1::w2).length 1=some 1:=by
  unfold ixN;rw[H0 (by decide),H0 (by simp only[k1k];lia)];rfl
 refine ⟨_,L,tt,_,0,.ref l,rfl,rfl,.inl (.inl ht),t _ _,l,_,0,.ref B,rfl,rfl,.inl (.inl hl),t _ _,_,L,tt,_,0,.ref l,rfl,rfl,.inl (.inl ht),t _ _,l,_,1,1,rfl,rfl,hl,ab,?_⟩;have h0:Y.zz6 l=none:=by
  rcases hO l with z |⟨o,xs,z⟩
  .exact z
  .have:=I.ran.f0 l _ (by rw[hF];exact z);rw[fl]at this;cases this
 simp only[i1n,a1h,k1p]at G;have R:∀{d v},c2 d=true->Rep X.K F d v->Rep X.K (upd F l (.lst (.ref B:: .ref B::w2))) d v:=λ{d v}=>zG5 fl
 have nl:∀{b:X0} {o:HO},Y.zz6 b=some o->b≠l:=λ{b o} e z=>by rw[z,h0]at e;cases e
 refine er.nx σ (upd F l (.lst (.ref B:: .ref B::w2))) _ _ _ ⟨⟨λb o e=>?_,λa ds e=>?_,λb o e f=>?_,λb o e=>?_,λb o e=>?_,I.ran.dto⟩,λj c e=>?_,by rw[e1m];exact I.len,λj k a ne w o2=>?_,λj a w=>?_⟩ (s1g _) h
 .by_cases z:b=l
  .subst z;rw[j3]at e;cases e;exact j3
  .rw[j0 z]at e;exact (j0 z).trans (I.sub _ _ e)
 .let ⟨p,ws,C,q3⟩:=I.ran.dk a ds e;have z:a≠l:=λz=>by rw[z,fl]at p;cases p
  exact ⟨(j0 z).trans p,ws,(j0 z).trans C,p0k R (U a ds e) q3⟩
 .exact (j0 (nl e)).trans (I.ran.keep b o e f)
 .rw[j0 (nl (by rw[<-hF];exact e))];exact I.ran.f0 b o e
 .by_cases z:b=l
  .exact .inr (by rw[z];exact h0)
  .rw[j0 z]at e;exact I.ran.zl5 b o e
 .by_cases z:j=i
  .subst z;have y:=(k1t.mp ‹ρ[j]?=some _›).1;rw[h1h y]at e;cases e;have ac:tt≠l:=λz=>by rw[z,fl]at O;cases O
   exact ⟨_,ev,zz9.mpr ⟨tt,_,rfl,(j0 ac).trans O,zz5.cons (zy6.mpr ⟨l,_,rfl,j3,zz5.cons (R G.1 r0) (zz5.cons (R G.1 r0) (p0k R G.2.1 r2))⟩) (p0k R G.2.2 rr)⟩⟩
  .rw[k1e (j1k z)]at e;have:=I.env j c e;have hj:=J j c z e;cases c with
   |no=>trivial
   |val d=>let ⟨u,e1,r⟩:=this;exact ⟨u,e1,R hj r⟩
   |_=>cases hj
 all_goals
  exfalso;have w:=w.1;by_cases z:j=i
  .subst z;have y:=(k1t.mp ‹ρ[j]?=some _›).1;rw[h1h y]at w;simp at w
  .rw[k1e (j1k z)]at w;rcases w with ⟨_,q⟩|⟨_,_,q⟩|⟨_,q⟩|⟨_,q⟩<;>cases J j _ z q⟩
end
def x1a(K:Frag)(sp:Sp2):Sp:=λvs H Q E=>∃ds δ q x,zV6 H/\zX7 K H H δ/\zz5 K H ds vs/\sp ds δ q x/\
 (∀d v F' H' δ',Ran K H H δ F' H' δ'->Rep K F' d v->q d δ'->Q v H')/\∀C od fs F' H' δ',Ran K H H δ F' H' δ'->zV9 K F' od fs->x C fs δ'->E (.ref C) od H'
section
variable{P:V0}{w:T0}{K:Frag}{mg:Str->Option Z0}{base:J0}
def yz7{x:Str}{st:Y1}{f:X0}{o:l3}{N ps:List Str}{k:Nat}{sp:Sp2}(D:zy4 K mg x st ps f o)(S:zz2 N ps (zz0 st))(len:∀ds δ q x,sp ds δ q x->ds.length=ps.length)
 (b:∀(cdv:Z0) (A:A0) (outer:List Env) (s:Y0) (H:Hp) (E:XK) (Y:Y2),Y.zf7=Y.zz6->zV6 Y.zz6->zu7 k (A.deeper (T5 x (zz0 st) s.heap.objs.size f cdv))->
  ∃t,zW6 (cxX P w K mg base N x (zz0 st) f cdv A outer s H E) Y (λC m _ c=>E (.ref C) m c) (zw5 st) t/\
   ∀ds δ q x,sp ds δ q x->t {nx:=λ_ δ=>q .non δ,rt:=q,xc:=λC fs _ δ=>x C fs δ} (o4 N ds) δ):zo4 P w K mg base (CX1 P w) (k+1) f o ps (x1a K sp):=by
 refine D.F.okX S (λy H Q E h=>?_) λcdv A outer s H y Q E hr h=>?_
 .let ⟨ds,δ,q,x,_,_,r,h,_⟩:=h;rw[r.length];exact len ds δ q x h
 .let ⟨ds,δ,q,x,B,dk,r,h,p,G⟩:=h;let ⟨t,I,rd⟩:=b cdv A outer s H E ⟨H,H,δ,none⟩ rfl B hr;refine ⟨_,I.go,H,o4 N ds,δ,_,I2.start (zz7.refl H) dk r,rd ds δ q x h,⟨λe g c i a j u l=>?_,λd v e g c i a j u n l=>?_,λC m fs e g c i a j u n l=>?_,λ_ _ _ _ _ _ _ z=>z.elim,λ_ _ _ _ _ _ _ z=>z.elim⟩⟩
  .exact p .non .non g c a j.ran (zx1.mpr rfl) l
  .exact p d v g c a j.ran n l
  .exact G C m fs g c a j.ran n l
end
def zG7{l:PySem.W.OpenLaw}{k:Nat}{q:V0}{loose:List Str}{XP:(Str->Option Z0)->J0->Prop}{YP:T0->J0->Prop}{d:DefRec}{K:P0->Fg}{x:Str}(hn:l.most=some 63)(b:d.params.defaults=[])(hr:zu7 k callerA)
 (g:∀(w:T0) (h:J0),YP w h->(K w.params).In h)
 (F:∀(w:T0) (mg:Str->Option Z0) (fa:X0) (h:J0),(K w.params).In h->h.Ns V2 mg->mg d.name=some (.ref fa)->
  ∃c:l3,(∀(s:Y0) (u:Z0),BindsTo s c ⟨[u],[]⟩ [(x,u)])/\∀base:J0,(K w.params).In base->base.Ns V2 mg->zo4 l.prog w (K w.params) mg base (CX1 l.prog w) k fa c [x] (x1a (K w.params) b0y)):
 PySem.W.WalkO q loose XP YP l.row.toRowW d [] (λf vs=>PySem.call f vs):=
 L2.zX4 (n:=63) (k:=k) (x:=x) (CX:=λw=>CX1 l.prog w) (sp:=λw=>x1a (K w.params) b0y) hn (by decide) b hr g F
  (λw H a ns i j m=>⟨[.scr (ns.map D.int)],none,λd _=>d=.bl true,λ_ _ _=>False,j,λa ds e=>(by cases e),zz5.cons (zr3.mpr ⟨a,_,rfl,m,z0l ns⟩) zz5.nil,⟨ns,rfl,i,rfl,λ_=>rfl⟩,
   λd v p t o R r e=>(by subst e;exact zy2.mp r),λ_ _ _ _ _ _ _ _ z=>z⟩)
  λw H s e y zz=>by let ⟨_,_,_,_,_,_,_,_,_,_,_,_,_,_,z⟩:=zz;exact z
end DL
namespace L2
open Spec PyProof.Rows Calls W
section
variable{prog:V0}{w:T0}{A:A0}{s:Y0}
def w1z{vs:List Z0}{v1:Z0}(b:A.units<O2)(c:2<=vs.length)(a:∀v∈vs,zi9 s.heap v)(e:vs[0]?=some v1)(h0:EmpT s.heap v1):p0o prog w A vs s:=
 ⟨oneType',λ_ _ h=>d0r c a e h0 h,λx hx y d _ h=>j0h b (a x hx) (a y d) h⟩
end
section
variable{X:Cx}
def i0k(hu:X.A.units+2<O2):x0t X (.builtin "sorted") (zK5 X.K):=by
 intro D s σ H xs us Q I N h;let ⟨a,F,rfl,O,P,R,h0,q⟩:=h;let ⟨u,rfl,S⟩:=N.one;cases (show u=Value.ref a from S);let ⟨f,r,U,hz⟩:=I.list O;have G:=r.length;have tup:∀v∈f,zi9 s.heap v:=λv t=>by
  let ⟨i,V,e⟩:=g1w.mp t;have c:i<F.length:=by lia
  let ⟨u,g,k⟩:=r.get (k1u c);rw[k1u V]at g;cases g;let ⟨p,ns,e1,hs⟩:=R _ (i1t c);rw[e1]at k;let ⟨d,y,⟨⟨cls,z,data,sl⟩,ho,l,n,hd⟩,_⟩:=I.tuple hs;simp only at l hd;subst l hd;refine ⟨p,z,d.toArray,n,sl,by rw[<-e];exact k,ho,λw W=>?_⟩;exact j0g y w (by simpa using W)
 refine p0n (collect_list U.isList ?_ (by rw[U2];lia));have kp:∀b o,s.heap.get? b=some o->((s.heap.push (Z5 "list" #[] 0)).update s.heap.objs.size (Obj.mapSeq (·++f.toArray))).get? b=some o:=λb o q=>by
  have m:b<s.heap.objs.size:=k1n q;rw[f1s _ _ _ _ (k1i m),b1g _ _ _ (k1i m)];exact q
 have j:s.heap.objs.size<=((s.heap.push (Z5 "list" #[] 0)).update s.heap.objs.size (Obj.mapSeq (·++f.toArray))).objs.size:=by
  rw[Heap.size_update,size_push'];exact h1i _
 generalize (s.heap.push (Z5 "list" #[] 0)).update s.heap.objs.size (Obj.mapSeq (·++f.toArray))=Z at kp j;refine ⟨by lia,λh2 h6 J=>?_,λB h' e' p' k' g'=>?_⟩
 .have c:0<F.length:=by lia
  let ⟨u,g,k⟩:=r.get (k1u c);let ⟨p,e2,hs⟩:=h0 _ (k1u c);rw[e2]at k;let ⟨d,y,⟨⟨cls,z,data,sl⟩,ho,l,n,hd⟩,_⟩:=I.tuple hs;simp only at l hd;subst l hd;have hn:d=[]:=y.zo5.mpr rfl;subst hn;exact w1z (by show X.A.units+1+1<O2;lia) h2 (λv t=>(tup v t).keep λb o e=>J b o (kp b o e)) g ⟨p,z,n,sl,k,J _ _ (kp _ _ ho)⟩
 .let ⟨L,M,C⟩:=h0a p' r;exact ⟨.ref Z.objs.size,_,I.laid (t':=s.toks) (λb o e=>k' b o (kp b o e)) j (show zx6 X.prog X.w _ _ _ (.lst L)from ⟨by rw[M.length_eq];exact hz,B,e',C,g'⟩),rfl,q L M _ (I.hok.fresh j)⟩
end
end L2
namespace HD
open W PyProof.Rows Calls
abbrev N:Z0:=.none
abbrev r(a:Nat):Z0:=.ref a
abbrev s(x:String)(t:Nat):Z0:=.str (Str.ofString x) t
abbrev i(n:Int)(t:Nat):Z0:=.int n t
abbrev b(x:Bool):Z0:=.bool x
abbrev ty(x:String):Z0:=.type x
abbrev bi(x:String):Z0:=.builtin x
abbrev ob(c:Z0)(d:Data):Obj:={cls:=c,data:=d}
abbrev tp(l:List Z0):Obj:=ob (.type "tuple") (.seq ⟨l⟩)
abbrev fl(c:Z0)(l:List Z0):Obj:=ob c (.fields ⟨l⟩)
abbrev en(P:P0)(x:String)(t:Nat)(v:Z0):M1:=⟨PyData.keyHash P (Str.ofString x),.str (Str.ofString x) t,v⟩
abbrev di(l:List M1)(n:Nat):Obj:=ob (.type "dict") (.dict ⟨l⟩ n)
abbrev fn(c:Z0)(n q:String)(st:Y1)(g:Nat)(m cd:Z0):Obj:=
 ob c (.func {name:=Str.ofString n,qualname:=Str.ofString q,params:=L2.zo6 st,body:=.stmts (L2.zw5 st),scope:=L2.zz0 st,globals:=g,closure:=[],defaults:=.none,kwdefaults:=.none,pyModule:=m,code:=cd})
abbrev co(n:String)(bs mro:List Z0)(ns:Nat)(q:String)(hd hl:Bool)(subs:List Z0)(sl:List (Option Z0)):Obj:={cls:=.type "type",data:=.cls {name:=Str.ofString n,bases:=bs,mro:=mro,ns:=ns,qualname:=Str.ofString q,hasDict:=hd,hasDel:=hl,subclasses:=subs},slots:=⟨sl⟩}
def x(g:P0->List Obj)(i:Nat)(P:P0):Obj:=(g P).getD i default
def insT(t:BT):Nat->Obj->BT:=
 @BT.rec (λ_=>Nat->Obj->BT) (λ_ o=>.node o .nil .nil)
  (λv l r ihl ihr i o=>@Bool.rec (λ_=>BT) (@Bool.rec (λ_=>BT) (.node v l (ihr (i/2-1) o)) (.node v (ihl (i/2) o) r) (Nat.beq (i%2) 1)) (.node o l r) (Nat.beq i 0)) t
def zf9(l:List Obj):Nat->BT->BT:=
 @List.rec Obj (λ_=>Nat->BT->BT) (λ_ t=>t) (λo _ ih n t=>ih (Nat.succ n) (insT t n o)) l
def ze0(l:List (Nat×Obj)):BT->BT:=
 @List.rec (Nat×Obj) (λ_=>BT->BT) (λt=>t) (λp _ ih t=>ih (insT t p.1 p.2)) l
section
variable{p:V0}{w:T0}{zb1:Nat}{ann:Option Z0}{bb n:Nat}{st:SharedT}{l:List Y1}{env:Env}{c:Code}{q:Pos}{B:List Frame}{rr:Option (Flow×SharedT×Code×Pos)}
def w8(h:PySem.W.Fast.tw10110043849684766642 PySem.W.Fast.tw14364793385576792824 p w zb1 ann bb n st ⟨(PySem.W.Fast.tw12563942051412417395 l env).wrap doneF deadEnd id id,c,q,B⟩=rr):
 segRunT R3 p w zb1 ann bb n st (piecesOf l env c q B)=rr:=by
 unfold piecesOf;rw[PySem.W.Fast.te10110043849684766642,i1u,PySem.W.Fast.te12563942051412417395];exact h
def zG8{s:Y0}{t:Thread}{r:Option (Y0×Thread)}(h:PySem.W.Fast.tw15667345088766844465 PySem.W.Fast.tw14364793385576792824 p w zb1 ann n s t=r):topGo R3 p w zb1 ann n s t=r:=by
 rw[PySem.W.Fast.te15667345088766844465,i1u];exact h
def l1r{s:Y0}{t:Thread}{r:Option Y0}(h:PySem.W.Fast.tw14082659384304107361 PySem.W.Fast.tw14364793385576792824 p w zb1 ann n s t=r):topRun R3 p w zb1 ann n s t=r:=by
 rw[PySem.W.Fast.te14082659384304107361,i1u];exact h
def w1y{s:Y0}{r:Option (Flow×Shared×Code×Pos)}(h:PySem.W.Fast.tw14374325043358763698 PySem.W.Fast.tw14364793385576792824 p w zb1 ann bb n s ⟨(PySem.W.Fast.tw1066825118222455980 l env).wrap (λ_=>doneF .next) deadEnd id id,c,q,B⟩=r):
 segRun R3 p w zb1 ann bb n s (blockOf l env c q B)=r:=by
 unfold blockOf;rw[PySem.W.Fast.te14374325043358763698,i1u,PySem.W.Fast.te1066825118222455980];exact h
def i0j{N:Nat}{s a r:Y0}{b d:List Y1}{pos f q:Pos}(e:b=d)(h:segRun R3 p w zb1 ann 1 n s (blockOf b env c pos [topFrame q])=some (.next,a,c,f))
 (k:topRun R3 p w zb1 ann N a (restOf d env c f [topFrame q])=some r):topRun R3 p w zb1 ann (n+N) s ⟨denote R3 (.body b env),c,pos,[topFrame q]⟩=some r:=by
 subst e;exact piece_block h k
end
def FnF(K:Fg)(x:Str)(st:Y1):Prop:=∃f fd,PySem.W.nsIn K V2 x=some (some (.ref f))/\L2.Fun K x x st f fd
def FnF.at{K:Fg}{h:J0}{mg:Str->Option Z0}{x:Str}{st:Y1}(F:FnF K x st)(X:K.In h)(G:h.Ns V2 mg){ps:List Str}
 (b:∀(kV doc pm:Z0) (d:Option X0) (cdv ct:Z0) (us:List Z0),us.length=ps.length->bindArgs (PySem.W.fnOf x x (L2.zo6 st) (L2.zw5 st) (L2.zz0 st) .none kV doc pm d cdv ct) ⟨us,[]⟩=pure (ps.zip us)):∃f c,L2.zy4 K mg x st ps f c:=by
 let ⟨f,c,a,u⟩:=F;exact ⟨f,c,u,d1h X G a,u.binds b⟩
def zB3(K:Fg)(C:X0)(q:Str)(st:Y1):Prop:=∃f fd,L2.XMk K C f/\L2.Fun K "__init__" q st f fd
def MkF(K:Fg)(C:X0)(q:Str)(st:Y1):Prop:=∃f fd,L2.Mk K C f/\L2.Fun K "__init__" q st f fd
inductive zY5(K:Fg):List (String×Stmt)->Prop
 |nil:zY5 K []
 |cons {x:String} {st:Y1} {l:List (String×Stmt)}:FnF K (Str.ofString x) st->zY5 K l->zY5 K ((x,st)::l)
theorem zY5.nth{K:Fg}{x:String}{st:Y1}:∀{l:List (String×Stmt)} {i:Nat},zY5 K l->l[i]?=some (x,st)->FnF K (Str.ofString x) st
 |_,0,.cons h _,e=>by simp at e;let ⟨rfl,rfl⟩:=e;exact h
 |_,i+1,.cons _ t,e=>t.nth (i:=i) (by simpa using e)
theorem zY5.at{K:Fg}{h:J0}{mg:Str->Option Z0}{x:String}{st:Y1}{l:List (String×Stmt)}(F:zY5 K l)(X:K.In h)(G:h.Ns V2 mg)(i:Nat)(e:l[i]?=some (x,st)){ps:List Str}
 (b:∀(kV doc pm:Z0) (a:Option X0) (cdv ct:Z0) (us:List Z0),us.length=ps.length->bindArgs (PySem.W.fnOf (Str.ofString x) (Str.ofString x) (L2.zo6 st) (L2.zw5 st) (L2.zz0 st) .none kV doc pm a cdv ct) ⟨us,[]⟩=pure (ps.zip us)):∃f c,L2.zy4 K mg (Str.ofString x) st ps f c:=(F.nth e).at X G b
end HD
set_option maxHeartbeats 8000000
namespace K12
open L2 DL
variable{f C:X0}{fd:l3}{i n m:Nat}{lo hi r call v:Int}{d sd rd:D}{ns k ws st c sh:List Int}{δ:Dk}{q:D->Dk->Prop}{x:X0->List (Str×D)->Dk->Prop}{ps:List zy3}{g:List Int->D->Prop}{l:List (List Int×D)}{ls:List (List (List Int×D))}
open W (XC)
local macro_rules | `(tactic|walk_at $s:str)=>do
 unless s.getString.startsWith "=" do Lean.Macro.throwUnsupported
 let w:=s.getString.splitOn " "
 let v:=fun (x:String)=>Lean.mkIdent x.toName
 let tab:=("l0 2 zx0 1 y4 0 rfl 0 0 0 b3 0 y8 1 1 0 nd 0 d4 2 @0 0 w4 0 l4 4 :i 1 y0e 1 2 0 t0b 4 v0h 4 @1 0 4 0 z1d 2 3 0 K 0 @2 1 p0u 3 y0f 0 v7 3 @3 0 5 0 z35 5 i9 5 @4 1 zx2.of 3 v1o 2 x0m 0 r0h 0 n1t 2 T.zG9 0 e0d 1 6 0 e0o 1 e0p 1 t0u 0 y0g 1 t1l 7 o1f 1 hr.zw4 0 h0b 0 T.zb2 0 e0c 6 PassesOwn.leaving 0 o1d 2 u1l 5 m0x 0 y1z 5 z60 1 z0i 0 z1h 0 z1n 4 n0t 0 zO7 0 [ 0 zS0 2 p1p 0 7 0 z0m 0 e0q 5 t0t 1 m0o 0 a0w 0 o1j 0 r1p 0 zO4 0 zy7 0 :is 1 z53 6 PySem.F.slot_list_append 0 PySem.F.type_list_append 0 a0i 0 u1e 0 zS5 0 d_gt 0 e0e 0 t1x 3 x0s 0 zO8 0 z1r 0 zN6 3 m0u 1 r1c 2 z1x 0 zN3 1 :K 1 T.zj3 0 m0y 0 z32 3 PW2.pt 1 r1q 0 zO2 0 hr.zJ1 0 @5 0 r1d 1 T.zl9 0 z04 0 d_lt 0 zM6 2 e0j 1 8 0 @6 1 z05 0 d_le 0 u1o 2 e0n 1 r0b 0 u1y 1 z49 0 T.yz8 0 zP4 0 zk0 0 [0 0 y1y 5 j0x 0 b5 1 hr.zK7 0 T.zZ2 0 t1w 6 T.zF0 0 r1g 0 z1c 3 zu2 0 zn4 0 T.ze1 0 n1p 2 [0,1 0 a0k 0 d_in 0 n1k 2 T.zh1 0 ['_law_spec_here 0 zr5 0 t0v 2 s1m 8 T.zF1 0 10 0 11 0 'int 0 zP8 1 'bool 0 T.zF2 0 o1q 0 zv9 0 p1o 0 zO3 0 z06 0 d_ge 0 T.zY6 0 ['entry 0 zx7 0 ['k 0 y1t 2 v0b 4 zx4 0 t1p 1 z65 0 T.yz9 0 zL7 0 T.ze2 0 T.ze3 0 T.ze4 0 [5,6 0 z34 3 r1e 2 z1m 1 T.zr6 0 T.zt8 0 T.zs8 0 ['choice 0 i0k 1 zK6 0 zn0 0 y1k 1 ['before 0 @7 1 i8 2 @8 0 l1v 4 [1 0 l1u 3 x1c 1 T.zh2 0 zz3 0 9 0 zs0 0 u1n 7 v1l 0 z45 0 T.yy0 0 zP3 0 t1z 1 k0r 0 zN0 0 zS3 0 z38 0 zr7 0 'list 0 h0i 0 'tuple 0 u1m 7 [3,4 0 zq7 0 T.zj4 0 z31 1 T.zY7 0 T.zn5 0 zr8 0 T.zn6 0 zn7 0 zw2 0 zs1 0 zk1 0 T.zo1 0 r0g 1 j0i 0 ['part,'stand 0 zL9 2 T.yy1 0 zr9 0 zs2 0 T.ze5 0 T.ze6 0 zb3 0 [2,3 0 y1j 9 zq0 0 zI2 1 z75 0 zt0 0 zu3 0 T.zk2 0 zv4 0 zv5 0 s1k 1 yz4 0 T.yy2 0 zG2 0 ['part 0 [3 0 zt1 0 zt2 0 zw9 0 zS6 0 z41 0 zv6 0 zn8 0 s1h 10 [0,6 0 zt3 0 b0o 9 ['steps,'choice,'cost,'behind 0 ['choice,'cost,'behind 0 [0,1,2 0 ['last 0 s1y 1 zG3 2 T.ze7 0 t1i 3 n1g 0 n1f 1 ['before,'steps 0 zq1 0 zN8 5 PySem.F.slot_list_reverse 0 PySem.F.type_list_reverse 0 c0c 0 x1b 0 T.zh3 0 T.zh4 0 zt4 0 zx9 0 zs3 0 ['worths 0 i0l 4 zq2 0 zq3 0 zu4 0 ['_law_number_here 0 ['_law_chosen 0 [2 0 zu5 0 zs4 0 p1n 0 zO6 0 k0j 0 o1i 0 m1p 3 s1z 2 [7,8 0 zq4 0 [9,10 0 zq5 0 m1t 4 k0s 1 zO9 0 z1q 0 m1q 5 @9 0 z93 1 b0m 3 zu6 0 zM5 3 @10 1 zh5 0 u1u 0 T.zh6 0 T.ze8 0 T.ze9 0 zL1 8 T.zd0 0 T.zm7 0 t1y 2 T.zh7 0 T.zh8 0 zM4 0 zs5 0 zy5 0 zt5 0".splitOn " ").toArray
 let sg:=(List.range 93).filter fun k=>k !=1&&k !=59
 let mut st:List (Lean.TSyntax `term):=[]
 let mut two:=0
 let b<-`(_)
 for c in (if w.length>2 then w[2]! else (s.getString.drop 1).toString).toList.reverse do
  if c.toNat==126 then two:=two+91
  else
   let k:=sg.idxOf (c.toNat-33)+two
   two:=0
   let n:=(tab[2*k+1]!).toNat!
   let a:=(st.take n).toArray
   st:=st.drop n
   let h:=tab[2*k]!
   let r:=(h.drop 1).toString
   let t<-if h.startsWith "@" then match r.toNat! with
   | 0=>`($(v "hr.mono") (by decide))
   | 1=>`((by walk_at "v2"))
   | 2=>`(fun _ _ _ _ _ _=>$(a[0]!))
   | 3=>pure (Lean.Syntax.mkApp (v "nomark") #[b])
   | 4=>`(fun $(v "nd"):ident _ _ _ _ _=>$(a[0]!))
   | 5=>`(⟨rfl,rfl⟩)
   | 6=>`(fun _=>$(a[0]!))
   | 7=>`(fun _ _ _ _ _=>$(a[0]!))
   | 8=>`((by first |exact Or.inl rfl |exact Or.inr (Or.inl rfl)|exact Or.inr (Or.inr rfl)))
   | 9=>`(⟨rfl,rfl,rfl,rfl⟩)
   | 10=>`(fun _ _=>$(a[0]!))
   |_=>Lean.Macro.throwUnsupported
    else if h.startsWith ":" then do
     let z<-`(f ($(v r):ident:=$(a[0]!)))
     pure ⟨z.raw[1][0]⟩
    else if h.startsWith "'" then pure (Lean.quote r)
    else if h.startsWith "[" then
     let l:=(r.splitOn ",").filter fun x=>x !=""
     pure (if r.startsWith "'" then Lean.quote (l.map fun x=>(x.drop 1).toString)else Lean.quote (l.map fun x=>x.toNat!))
    else if h.front.isDigit then pure (Lean.quote h.toNat!)else pure ⟨Lean.Syntax.mkApp (v h) a⟩
   st:=t::st
 let t:=st.head!
 if w.length<3 then return<-`(tactic|exact $t)
 let sc:=v (w[1]!)
 `(tactic|(have $(v "nd"):ident:=$(v (w[1]! ++".nd"));refine zC3 $(v "Df") $sc (fun $(v "ds") $(v "δ") $(v "q") $(v "x") $(v "h")=>?_) (fun $(v "cdv") $(v "A") $(v "outer") $(v "s") $(v "H") $(v "E") $(v "Y") $(v "hr")=>⟨_,$t,fun $(v "ds") $(v "δ") $(v "q") $(v "x") $(v "h")=>?_⟩)))
local macro_rules | `(tactic|walk_at $s:str)=>do
 let k:=s.getString
 unless k=="dl"||k=="dn"||k=="ds"||k=="fl" do Lean.Macro.throwUnsupported
 let g:=fun(t:String)=>((t.splitOn " ").filter fun x=>x != "").toArray.map fun x=>Lean.mkIdent x.toName
 let A:=g "h0d h0c Nat.reduceAdd Nat.reduceLT Nat.reduceLeDiff Nat.reduceSub Nat.zero_add k9 zu8 List.map_cons List.map_nil p0s List.getElem?_cons_zero List.getElem?_cons_succ List.set_cons_zero List.set_cons_succ List.length_cons List.length_nil if_true if_false Bool.false_eq_true Bool.not_true Bool.not_false decide_eq_true_eq if_pos ite_true ite_false and_true List.cons_append List.nil_append"
 let B:=g "e0h z1g e0g u1h z1f c0a u1g j0t j0s e0f t2MV z1b h0e j0r j0q q0m q0n t2H0 t2H b0z u1b noX asE u1a t2Is t2R1 t2R2 m0t t2C t2V h0h x0p u1t u1s zd5 t2B u1q u1p t2Or e0m e0l t2If t0a zP9 t2Un rdV za6 za7 zb9 ixQ zm4 z36 z66 sumF eqG neG t2Sl slF t2ON t2OI t1n t1m s0z d0t m0n r0j tgD fI fI0 eqF neF eqD isNF u1j n0r ixF inF j0w z43 z44 z46 z47 z1i j0v z48 c0b z37 mulF u1k modF powF ltF leF gtF geF z39 g2N g2T p0t z74 m0l d0o d0n za0 zc9 z92 m0k p0l q0i t0o d0b anyF s1j t0n d0a x0k c0z"
 let F:=g "T.zh9.cl T.zg9.cl T.zn9 T.zm0 T.zm1 T.zq8 T.zs9 T.zq9 T.zp0 yy3 List.lookup_cons true_and"
 let a<-(if k=="ds" then A++F++g "m0v l1p" else if k=="fl" then F++g "" else A++B++g (if k=="dl" then "r0l forL j9 List.lookup_cons true_and" else "r0l List.lookup_cons true_and")).mapM fun i=>`(Lean.Parser.Tactic.simpLemma|$i:ident)
 if k != "ds" then return<-`(tactic|simp only[reduceIte,↓reduceIte,$a,*])
 let b<-(B++g "zI5 z78 k_bl z79 z80 z81 z82 z83 z84 z85 z86 z87 zI4 neL").mapM fun i=>`(Lean.Parser.Tactic.simpLemma|↓ $i:ident)
 let c:=a++b
 `(tactic|simp -dsimp -failIfUnchanged only[reduceIte,↓reduceIte,$c,*])
def top(i:Nat):Y1:=PySem.Challenge.pw_wearplan_k12_least.main.body.getD i (.Pass ⟨0,0,0,0⟩)
abbrev u0y:Y1:=top 10
abbrev s0t:Y1:=top 11
abbrev m0b:Y1:=top 12
abbrev z0w:Y1:=top 13
abbrev p9:Y1:=top 14
abbrev w1x:Y1:=top 19
abbrev s0s:Y1:=top 20
abbrev z0e:Y1:=top 21
abbrev z0v:Y1:=top 22
abbrev s0r:Y1:=top 28
abbrev p0j:Y1:=top 29
abbrev u8:Y1:=top 30
abbrev u0x:Y1:=top 31
abbrev p0i:Y1:=top 32
abbrev u0w:Y1:=top 34
abbrev z0u:Y1:=top 35
abbrev x0j:Y1:=top 36
abbrev o9:Y1:=top 37
abbrev z0t:Y1:=top 38
abbrev x0i:Y1:=top 43
abbrev x0h:Y1:=top 44
abbrev x0g:Y1:=top 45
abbrev u0v:Y1:=top 46
abbrev s0q:Y1:=top 47
abbrev l7:Y1:=top 48
abbrev z0d:Y1:=top 49
abbrev g0u:Y1:=top 50
abbrev s0p:Y1:=top 51
abbrev s0o:Y1:=top 52
abbrev s0n:Y1:=top 54
abbrev s0m:Y1:=top 55
abbrev s0l:Y1:=top 56
abbrev s0k:Y1:=top 57
abbrev s0j:Y1:=top 58
abbrev s0i:Y1:=top 59
abbrev u0u:Y1:=top 60
abbrev u0t:Y1:=top 61
abbrev s0h:Y1:=top 62
abbrev x0f:Y1:=top 63
abbrev s0g:Y1:=top 64
abbrev z0c:Y1:=top 65
abbrev s0f:Y1:=top 66
abbrev z0b:Y1:=top 67
abbrev u0s:Y1:=top 68
abbrev x0e:Y1:=top 69
abbrev s0e:Y1:=top 70
abbrev u0r:Y1:=top 71
abbrev u0q:Y1:=top 72
abbrev l1q:Y1:=top 73
abbrev z0a:Y1:=inClass (top 2) 0
abbrev z0s:Y1:=inClass (top 3) 0
abbrev y0z:Y1:=inClass (top 6) 0
abbrev n9:Y1:=inClass (top 8) 0
abbrev u0p:Y1:=inClass (top 18) 0
abbrev x0d:Y1:=inClass (top 27) 0
structure Cs where
 W:X0
 Part:X0
 Works:X0
 NoPart:X0
 NoWorks:X0
 NoStands:X0
 NoRounds:X0
 NoPlan:X0
 NoneHolds:X0
 TooGreat:X0
def Cs.ds(c:Cs):List X0:=[c.NoPart,c.NoWorks,c.NoStands,c.NoRounds,c.NoPlan,c.NoneHolds,c.TooGreat]
structure Txt(K:Fg)(mg:Str->Option Z0)(cs:Cs):Prop where
 zY8:mg "ValueError"=none
 yy0:mg "abs"=none
 yz8:mg "all"=none
 yy2:mg "any"=none
 zF2:mg "bool"=none
 zh1:mg "enumerate"=none
 zF0:mg "int"=none
 zj3:mg "isinstance"=none
 zG9:mg "len"=none
 zY6:mg "list"=none
 zF1:mg "min"=none
 zl9:mg "range"=none
 ze7:mg "reversed"=none
 zZ2:mg "sorted"=none
 yz9:mg "sum"=none
 zb2:mg "tuple"=none
 yy1:mg "zip"=none
 zo1:∃t,mg "GREATEST_FIRST"=some (.int 47 t)
 zk2:∃t,mg "MOST_ROUNDS"=some (.int 24 t)
 zj4:∃t,mg "MOST_PARTS"=some (.int 4 t)
 zn6:∃t,mg "GREATEST_CALL"=some (.int 99 t)
 zn5:∃t,mg "GREATEST_SHUT"=some (.int 47 t)
 zr6:∃t,mg "MOST_PARTS_HERE"=some (.int 3 t)
 zt8:∃t,mg "GREATEST_FULL_HERE"=some (.int 6 t)
 zs8:∃t,mg "MOST_ROUNDS_HERE"=some (.int 8 t)
 zh8:mg "WearError"=some (.ref cs.W)
 zh7:XHd K cs.W
 zY7:mg "Part"=some (.ref cs.Part)
 zh9:z50 K cs.Part
 zs6:KNo K cs.Part
 zn9:zy9 K cs.Part "full"
 zm0:zy9 K cs.Part "mark"
 zm1:zy9 K cs.Part "wear"
 zq8:zy9 K cs.Part "price"
 zW7:mg "Works"=some (.ref cs.Works)
 zg9:z50 K cs.Works
 zB4:KNo K cs.Works
 zs9:zy9 K cs.Works "parts"
 zq9:zy9 K cs.Works "call"
 zp0:zy9 K cs.Works "shut"
 err:∀D∈cs.ds,zP6 K cs.W D
 ne:∀D∈cs.ds,D≠cs.W
 nd:cs.ds.Nodup
 zZ3:mg "NoPart"=some (.ref cs.NoPart)
 zB5:XHd K cs.NoPart
 zf0:zf5 K cs.NoPart=true
 zg0:zy9 K cs.NoPart "at"
 zb4:mg "NoWorks"=some (.ref cs.NoWorks)
 zF3:XHd K cs.NoWorks
 zj5:zf5 K cs.NoWorks=true
 zj6:zy9 K cs.NoWorks "at"
 ze4:mg "NoStands"=some (.ref cs.NoStands)
 ze8:XHd K cs.NoStands
 ze6:zf5 K cs.NoStands=true
 ze5:zV8 K cs.NoStands
 ze1:mg "NoRounds"=some (.ref cs.NoRounds)
 ze9:XHd K cs.NoRounds
 ze3:zf5 K cs.NoRounds=true
 ze2:zV8 K cs.NoRounds
 zZ4:mg "NoPlan"=some (.ref cs.NoPlan)
 zB6:XHd K cs.NoPlan
 zf1:zf5 K cs.NoPlan=true
 zg1:zy9 K cs.NoPlan "at"
 zh2:mg "NoneHolds"=some (.ref cs.NoneHolds)
 zh6:XHd K cs.NoneHolds
 zh4:zf5 K cs.NoneHolds=true
 zh3:zV8 K cs.NoneHolds
 zm7:mg "TooGreat"=some (.ref cs.TooGreat)
 zd0:XHd K cs.TooGreat
 zm8:zf5 K cs.TooGreat=true
 zt6:zy9 K cs.TooGreat "most"
def zW8(p:X0)(ns:List Int)(n:Nat)(δ:Dk):Prop:=∃c k:Int,δ=some (p,[.scr (ns.map D.int),.int c,.int k])/\0<=c/\0<=k/\k<=n
def w1w:Sp2:=λds δ q _=>∃(ns:List Int) (k:Int),ds=[.scr (ns.map D.int),.int k]/\0<=k/\∀r:Int,0<=r->q (.int r) δ
def w1v:Sp2:=λds δ q _=>∃(ns:List Int) (k m:Int),ds=[.scr (ns.map D.int),.int k,.int m]/\0<=k/\k<2^40/\0<m/\∀r:Int,0<=r->r<m->q (.int r) δ
def w1u:Sp2:=λds δ q _=>∃(ns:List Int),ds=[.scr (ns.map D.int)]/\δ=none/\∀p δ',zW8 p ns 0 δ'->q (.ref p) δ'
def c0y:Sp2:=λds δ q _=>∃(p:X0) (ns:List Int) (n:Nat) (m:Int),ds=[.ref p,.int m]/\zW8 p ns n δ/\n<2^30/\0<m/\m<2^30/\∀(d:Int) δ',0<=d->d<m->zW8 p ns (n+1) δ'->q (.int d) δ'
def w1t(d:D):Bool:=match d with | .int _=>true |_=>false
def m0a:Sp2:=λds δ q _=>match ds with | [d]=>o5 d=true/\q (.bl (w1t d)) δ |_=>False
def x0c:Sp2:=λds δ q _=>match ds with | [d,.int lo,.int hi]=>o5 d=true/\q (.bl (j4 d lo hi)) δ |_=>False
def numD(d:D)(j:Int):Bool:=match d with | .int i=>decide (i=j)|_=>false
def l0z:Sp2:=λds δ q _=>match ds with | [d,.int j]=>o5 d=true/\q (.bl (numD d j)) δ |_=>False
def zp6:D->Option (List D)| .lst xs=>some xs | .tup xs=>some xs |_=>none
def z0j(d:D):Bool:=(zp6 d).isSome
def u5(d:D):Bool:=o5 d&&(match zp6 d with |some xs=>xs.all o5 |none=>true)
def t0m(d:D)(a b lo hi:Int):Bool:=match zp6 d with |some xs=>decide (a<=(xs.length:Int))&&decide ((xs.length:Int)<=b)&&xs.all (j4 · lo hi)|none=>false
def b0l:Sp2:=λds δ q _=>match ds with | [d]=>o5 d=true/\q (.bl (z0j d)) δ |_=>False
def i0i:Sp2:=λds δ q _=>match ds with | [d,.int a,.int b,.int lo,.int hi]=>u5 d=true/\b<=900/\q (.bl (t0m d a b lo hi)) δ |_=>False
theorem p0h{a:Type}(f:a->Bool):∀xs:List a,zd6 (xs.map λe=>D.bl (f e))=some (xs.map f)
 | []=>rfl
 |x::xs=>by rw[k1l,k1l];unfold zd6;rw[p0h f xs];rfl
def yy3:(("call":Str)=="call")=true/\(("call":Str)=="full")=false/\(("call":Str)=="mark")=false/\(("call":Str)=="parts")=false/\(("call":Str)=="price")=false/\(("call":Str)=="shut")=false/\(("call":Str)=="wear")=false/\(("full":Str)=="call")=false/\(("full":Str)=="full")=true/\(("full":Str)=="mark")=false/\(("full":Str)=="parts")=false/\(("full":Str)=="price")=false/\(("full":Str)=="shut")=false/\(("full":Str)=="wear")=false/\(("mark":Str)=="call")=false/\(("mark":Str)=="full")=false/\(("mark":Str)=="mark")=true/\(("mark":Str)=="parts")=false/\(("mark":Str)=="price")=false/\(("mark":Str)=="shut")=false/\(("mark":Str)=="wear")=false/\(("parts":Str)=="call")=false/\(("parts":Str)=="full")=false/\(("parts":Str)=="mark")=false/\(("parts":Str)=="parts")=true/\(("parts":Str)=="price")=false/\(("parts":Str)=="shut")=false/\(("parts":Str)=="wear")=false/\(("price":Str)=="call")=false/\(("price":Str)=="full")=false/\(("price":Str)=="mark")=false/\(("price":Str)=="parts")=false/\(("price":Str)=="price")=true/\(("price":Str)=="shut")=false/\(("price":Str)=="wear")=false/\(("shut":Str)=="call")=false/\(("shut":Str)=="full")=false/\(("shut":Str)=="mark")=false/\(("shut":Str)=="parts")=false/\(("shut":Str)=="price")=false/\(("shut":Str)=="shut")=true/\(("shut":Str)=="wear")=false/\(("wear":Str)=="call")=false/\(("wear":Str)=="full")=false/\(("wear":Str)=="mark")=false/\(("wear":Str)=="parts")=false/\(("wear":Str)=="price")=false/\(("wear":Str)=="shut")=false/\(("wear":Str)=="wear")=true:=by decide +kernel
def l1p:("call":Str)≠"full"/\("call":Str)≠"mark"/\("call":Str)≠"parts"/\("call":Str)≠"price"/\("call":Str)≠"shut"/\("call":Str)≠"wear"/\("full":Str)≠"call"/\("full":Str)≠"mark"/\("full":Str)≠"parts"/\("full":Str)≠"price"/\("full":Str)≠"shut"/\("full":Str)≠"wear"/\("mark":Str)≠"call"/\("mark":Str)≠"full"/\("mark":Str)≠"parts"/\("mark":Str)≠"price"/\("mark":Str)≠"shut"/\("mark":Str)≠"wear"/\("parts":Str)≠"call"/\("parts":Str)≠"full"/\("parts":Str)≠"mark"/\("parts":Str)≠"price"/\("parts":Str)≠"shut"/\("parts":Str)≠"wear"/\("price":Str)≠"call"/\("price":Str)≠"full"/\("price":Str)≠"mark"/\("price":Str)≠"parts"/\("price":Str)≠"shut"/\("price":Str)≠"wear"/\("shut":Str)≠"call"/\("shut":Str)≠"full"/\("shut":Str)≠"mark"/\("shut":Str)≠"parts"/\("shut":Str)≠"price"/\("shut":Str)≠"wear"/\("wear":Str)≠"call"/\("wear":Str)≠"full"/\("wear":Str)≠"mark"/\("wear":Str)≠"parts"/\("wear":Str)≠"price"/\("wear":Str)≠"shut":=by decide +kernel
section
variable{P:V0}{w:T0}{K:Fg}{mg:Str->Option Z0}{base:J0}{cs:Cs}
abbrev y0y:List Str:=["thing"]
def i0h:zz2 ["thing"] y0y (zz0 u0y):=(by walk_at "k7")
abbrev u0o(P:V0)(w:T0)(K:Fg)(mg:Str->Option Z0)(base:J0)(cs:Cs):Prop:=Fun2 P w K mg base "is_number" 1 y0y m0a
def i0g(Df:zy4 K mg "is_number" u0y y0y f fd)(T:Txt K mg cs):u0o P w K mg base cs:=by
 walk_at "= i0h (0|?}!~#~8$~%~!#&!&~X~E~F~$,~Y~?}!~#~8$~%~!#&!&~Z~[~]~$"
 .unfold m0a at h;split at h
  .rfl
  .exact h.elim
 .unfold m0a at h;split at h;rotate_left
  .exact h.elim
  rename_i d;let ⟨hd,a⟩:=h;rw[show o4 ["thing"] _=[.val _]from rfl];let ⟨t1,t2⟩:=m0s (K:=K) hd;walk_at "dl";simp only[y1s K t1 t2,q1x K t1 t2,t1,W2];cases d<;>first |cases hd |skip
  all_goals (walk_at "dl";exact a)
abbrev w0e:List Str:=["thing","least","most"]
def g0t:zz2 ["thing","least","most"] w0e (zz0 s0t):=(by walk_at "k7")
abbrev o7(P:V0)(w:T0)(K:Fg)(mg:Str->Option Z0)(base:J0)(cs:Cs):Prop:=Fun2 P w K mg base "is_whole" 2 w0e x0c
def g0s(Df:zy4 K mg "is_whole" s0t w0e f fd)(T:Txt K mg cs)(zs0:u0o P w K mg base cs):o7 P w K mg base cs:=by
 walk_at "= g0t (0|.,~~,-!#&$,~-~~4~4~5~5~#)#&#1"
 .unfold x0c at h;split at h
  .rfl
  .exact h.elim
 .unfold x0c at h;split at h;rotate_left
  .exact h.elim
  rename_i d lo hi;let ⟨hd,a⟩:=h;rw[show o4 ["thing","least","most"] _=[.val _,.val _,.val _]from rfl];walk_at "dl";simp only[m0a,hd,W2];cases d<;>first |cases hd |skip
  all_goals first |(simp only[w1t];walk_at "dl";exact a)|(simp only[w1t];walk_at "dl")
  simp only[j4]at a;split
  .rename_i b;rw[M0 b,h1p]at a;exact a
  .rename_i b;rw[Q0 b,Bool.false_and]at a;exact a
abbrev f9:List Str:=["_law_found","_law_due"]
def l0y:zz2 ["_law_found","_law_due"] f9 (zz0 x0e):=(by walk_at "k7")
abbrev x0b(P:V0)(w:T0)(K:Fg)(mg:Str->Option Z0)(base:J0)(cs:Cs):Prop:=Fun2 P w K mg base "_law_number" 2 f9 l0z
def l0x(Df:zy4 K mg "_law_number" x0e f9 f fd)(T:Txt K mg cs):x0b P w K mg base cs:=by
 walk_at "= l0y (0|?}!~#~8$~%~!#&!&~X~E~F~$|Y~?}!~#~8$~%~!#&!&~Z~[~]~$,~efPg#&#)="
 .unfold l0z at h;split at h
  .rfl
  .exact h.elim
 .unfold l0z at h;split at h;rotate_left
  .exact h.elim
  rename_i d j;let ⟨hd,a⟩:=h;rw[show o4 ["_law_found","_law_due"] _=[.val _,.val _]from rfl];let ⟨t1,t2⟩:=m0s (K:=K) hd;walk_at "dl";simp only[y1s K t1 t2,q1x K t1 t2,t1,W2];cases d<;>first |cases hd |skip
  all_goals (walk_at "dl";exact a)
abbrev w0d:List Str:=["_law_script","_law_k"]
def g0r:zz2 ["_law_script","_law_k"] w0d (zz0 s0n):=(by walk_at "k7")
abbrev w0c(P:V0)(w:T0)(K:Fg)(mg:Str->Option Z0)(base:J0)(cs:Cs):Prop:=Fun2 P w K mg base "_law_cell" 2 w0d w1w
def g0q(Df:zy4 K mg "_law_cell" s0n w0d f fd)(T:Txt K mg cs):w0c P w K mg base cs:=by
 walk_at "= g0r +:@fPgU&G'=(02DE2hi'#)';(0?.~~/~~0~~1~~!6&2jk#)U&G$"
 .let ⟨ns,k,rfl,d,c⟩:=h;rfl
 .let ⟨ns,k,rfl,d,c⟩:=h;rw[show o4 ["_law_script","_law_k"] _=[.val _,.val _]from rfl];walk_at "dl";simp only[k1v];split
  .exact ⟨.inl ⟨by decide,by decide⟩,c _ (by lia)⟩
  .have a:0<ns.length:=by lia
   refine ⟨by lia,?_⟩;let ⟨v,b,e⟩:=o1p (xs:=ns.map D.int) (k:=k) (by rw[k1v];exact a);rw[k1v]at b
   let ⟨z,_,rfl⟩:=j1u.mp e;rw[b];exact c _ (by split<;>lia)
abbrev w0b:List Str:=["_law_script","_law_k","_law_many"]
def g0p:zz2 ["_law_script","_law_k","_law_many","_law_a"] w0b (zz0 s0m):=(by walk_at "k7")
abbrev s0d(P:V0)(w:T0)(K:Fg)(mg:Str->Option Z0)(base:J0)(cs:Cs):Prop:=Fun2 P w K mg base "_law_draw" 3 w0b w1v
def g0o(Df:zy4 K mg "_law_draw" s0m w0b f fd)(T:Txt K mg cs)(zv9:w0c P w K mg base cs):s0d P w K mg base cs:=by
 walk_at "= g0p +<7*2jk2DE2DE2hi2jk.^~,-!#&!#)$''2hi2hi#)#)'''+<7*2jk2DE2DE2hi#7#72hi'#72hi#)''(02jk2_~`~#7'#1"
 .let ⟨ns,k,m,rfl,d,a,hm,e⟩:=h;rfl
 .let ⟨ns,k,m,rfl,d,a,hm,e⟩:=h;rw[show o4 ["_law_script","_law_k","_law_many","_law_a"] _=[.val _,.val _,.val _,.no]from rfl];walk_at "dl";refine ⟨ns,k,rfl,d,λc g=>?_⟩;refine ⟨by decide,.inl ⟨by lia,by lia⟩,.inl ⟨by lia,by lia⟩,.inr ⟨by decide,by decide⟩,by decide,?_⟩;generalize c%1000003*48271+k*k*7919+101=z;refine ⟨.inl ⟨by lia,by lia⟩,.inl ⟨by decide,by decide⟩,.inl ⟨by lia,by lia⟩,by decide,⟨by decide,by decide⟩,hm,e _ (g1g _ (by lia)) (h1a _ hm)⟩
abbrev w0a:List Str:=["_law_script"]
def g0n:zz2 ["_law_script","_law_cell_here"] w0a (zz0 s0l):=(by walk_at "k7")
abbrev s0c(P:V0)(w:T0)(K:Fg)(mg:Str->Option Z0)(base:J0)(cs:Cs):Prop:=Fun2 P w K mg base "_law_deck" 3 w0a w1u
def g0m(Df:zy4 K mg "_law_deck" s0l w0a f fd)(T:Txt K mg cs)(zv9:w0c P w K mg base cs):s0c P w K mg base cs:=by
 walk_at "= g0n +<)*.^~,-!#&!'$(2~~!#&!2hi#)V3~~4~~E~F~!ea~b~#)25~~6~~''=$!'$"
 .let ⟨ns,rfl,rfl,a⟩:=h;rfl
 .let ⟨ns,rfl,rfl,a⟩:=h;rw[show o4 ["_law_script","_law_cell_here"] _=[.val _,.no]from rfl];walk_at "dl";refine ⟨ns,0,rfl,by decide,λc b=>?_⟩;refine ⟨⟨by decide,by decide,by decide⟩,.inr ⟨by split<;>decide,by split<;>decide⟩,rfl,λp=>a p _ ⟨_,_,rfl,?_,by decide,by decide⟩⟩;split<;>lia
abbrev v0z:List Str:=["_law_deck_here","_law_many"]
def g0l:zz2 ["_law_deck_here","_law_many","_law_digit"] v0z (zz0 s0k):=(by walk_at "k7")
abbrev q8(P:V0)(w:T0)(K:Fg)(mg:Str->Option Z0)(base:J0)(cs:Cs):Prop:=Fun2 P w K mg base "_law_take" 4 v0z c0y
def g0k(Df:zy4 K mg "_law_take" s0k v0z f fd)(T:Txt K mg cs)(zr7:s0d P w K mg base cs):q8 P w K mg base cs:=by
 walk_at "= g0l +:@st6&''=+<1*2jk6&'#)+G~&'2_~`~6&'#)(0#1;+G~&'2DE6&''(0.7~~,-!6&'!6&'!#)$"
 .let ⟨p,ns,n,m,rfl,d,hn,hm,a,b⟩:=h;rfl
 .let ⟨p,ns,n,m,rfl,d,hn,hm,a,b⟩:=h;rw[show o4 ["_law_deck_here","_law_many","_law_digit"] _=[.val _,.val _,.no]from rfl];let ⟨c,k,rfl,e,g,i⟩:=d;walk_at "dl";split
  .exact ⟨hm,⟨hm,by lia⟩,b _ _ (g1g _ (by lia)) (h1a _ hm) ⟨_,_,rfl,Int.ediv_nonneg e (by lia),g,by lia⟩⟩
  .exact ⟨ns,k+1,m,rfl,by lia,by lia,hm,λr j l=>b _ _ j l ⟨_,_,rfl,e,by lia,by lia⟩⟩
def x0a{i:Int}(h1:lo<=i)(a:i<=hi):j4 (.int i) lo hi=true:=by show (decide (lo<=i)&&decide (i<=hi))=true;rw[M0 h1,M0 a];rfl
abbrev q0g:List Str:=["thing"]
def w1s:zz2 ["thing"] q0g (zz0 m0b):=(by walk_at "k7")
abbrev t0l(P:V0)(w:T0)(K:Fg)(mg:Str->Option Z0)(base:J0)(cs:Cs):Prop:=Fun2 P w K mg base "is_row" 2 q0g b0l
def w1r(Df:zy4 K mg "is_row" m0b q0g f fd)(T:Txt K mg cs):t0l P w K mg base cs:=by
 walk_at "= w1s (0?}!~#~8$~%~!#&!M!&~8~~c~9~~!&~:~~RW$$"
 .unfold b0l at h;split at h
  .rfl
  .exact h.elim
 .unfold b0l at h;split at h;rotate_left
  .exact h.elim
  rename_i d;let ⟨hd,a⟩:=h;rw[show o4 ["thing"] _=[.val _]from rfl];let ⟨t1,t2⟩:=m0s (K:=K) hd;walk_at "dl";simp only[zL0 K t1 t2,t1,W2];cases d
  all_goals first |exact a |cases hd
abbrev n8:List Str:=["thing","shortest","longest","least","most"]
def p0g:zz2 ["thing","shortest","longest","least","most"] n8 (zz0 z0w):=(by walk_at "k7")
abbrev m8(P:V0)(w:T0)(K:Fg)(mg:Str->Option Z0)(base:J0)(cs:Cs):Prop:=Fun2 P w K mg base "is_whole_row" 3 n8 i0i
def p0f(Df:zy4 K mg "is_whole_row" z0w n8 f fd)(T:Txt K mg cs)(zu2:t0l P w K mg base cs)(zy7:o7 P w K mg base cs):m8 P w K mg base cs:=by
 walk_at "= p0g +:'~6~JK.H~,-!#&$7~J;~~4~4~5~5~#)U&G#1(08~;(0?9~%:~;~<~!N%Bd~<~~%H#&A3/&*%4L9Q9.l,u!#&!#)!#1$$"
 .unfold i0i at h;split at h
  .rfl
  .exact h.elim
 .unfold i0i at h;split at h;rotate_left
  .exact h.elim
  rename_i d a b lo hi;let ⟨m,C,c⟩:=h;rw[show o4 ["thing","shortest","longest","least","most"] _=[.val _,.val _,.val _,.val _,.val _]from rfl];have v:o5 d=true:=by unfold u5 at m;rw[k1p]at m;exact m.1
  walk_at "dl";simp only[b0l,v,W2];cases e:zp6 d with
  |none=>
   have e1:z0j d=false:=by unfold z0j;rw[e];rfl
   have e2:t0m d a b lo hi=false:=by unfold t0m;rw[e]
   rw[e2]at c;simp only[e1,i1h,N1];exact c
  |some j=>
   have e1:z0j d=true:=by unfold z0j;rw[e];rfl
   have e3:zm4 d=some j:=by cases d<;>first |(cases e;rfl)|cases e
   have hx:∀x∈j,o5 x=true:=by
    unfold u5 at m;rw[k1p,e]at m;exact j1l.mp m.2
   unfold t0m at c;rw[e]at c;dsimp only at c;simp only[e1,j1i,k1a,K1];have o:∀ p:En,p[3]?=some (.val (.int lo))->p[4]?=some (.val (.int hi))->(j.length:Int)<=b->q (.bl (j.all (j4 · lo hi))) δ->j9 (r0l x0c (x0p (t2V 0) (x0p (t2V 1) (x0p (t2V 2) h0h)))) [3,4] p
    (λg t=>match zd6 g with |some bs=>q (D.bl (bs.all id)) t |none=>False) j [] δ:=by
    intro p y B u c;refine z9 (λi g k=>g=(j.take i).map (λz=>D.bl (j4 z lo hi))/\k=δ) ⟨rfl,rfl⟩ ?_ ?_
    .rintro i z g k rest hi ⟨rfl,rfl⟩ l;simp only[zu8,k9,k1l,j1r,y,B];walk_at "dl";simp only[x0c,hx z (k1m hi),W2];refine ⟨by rw[k1v,h1c];lia,l _ _ ⟨?_,rfl⟩⟩;rw[g1m,hi,j1z];rfl
    .rintro g k ⟨rfl,rfl⟩;rw[h1z,p0h];have:(j.map λz=>j4 z lo hi).all id=j.all (j4 · lo hi):=by rw[c1w];rfl
     dsimp only;rw[this];exact c
   cases d<;>first |(cases e;done)|skip
   all_goals
    cases e;dsimp only;split
    .rename_i r;split
     .rename_i n;rw[i1m,U3]at n;rw[M0 r,Q0 n]at c;exact c
     .rename_i n;rw[i1m,U3,b1f]at n;rw[M0 r,M0 n]at c;exact o _ rfl rfl n c
    .rename_i r;rw[Q0 r]at c;exact c
def o0h(cs:Cs)(full mark:Int)(ws:List Int)(price:Int):D:=.ins cs.Part [("full",.int full),("mark",.int mark),("wear",.tup (ws.map D.int)),("price",.int price)]
def v0y(h:j4 d lo hi=true):∃i,d=.int i/\lo<=i/\i<=hi:=by
 cases d with
 |int i=>unfold j4 at h;rw[k1p,G0,G0]at h;exact ⟨i,rfl,h.1,h.2⟩
 |_=>cases h
def r0d(cs:Cs):Sp2:=λds δ q x=>match ds with
 | [a,m,w,p]=>(u5 a&&u5 m&&u5 w&&u5 p)=true/\(if j4 a 1 9=true then (match a with
  | .int i=>if j4 m 0 i=true then (if t0m w 1 6 0 9=true then (if j4 p 0 99=true then q (.ins cs.Part [("full",a),("mark",m),("wear",.tup ((zp6 w).getD [])),("price",p)]) δ else x cs.NoPart [("at",.int 3)] δ)else x cs.NoPart [("at",.int 2)] δ)else x cs.NoPart [("at",.int 1)] δ
  |_=>False)else x cs.NoPart [("at",.int 0)] δ)
 |_=>False
def zp7:zz2 ["self","full","mark","wear","price"] ["self","full","mark","wear","price"] (zz0 u0p):=(by walk_at "k7")
def i0f(n:Fun K "__init__" "Part.__init__" u0p f fd)(M:Mk K cs.Part f)(o:Binds K fd ["self","full","mark","wear","price"] [])(T:Txt K mg cs)(zy7:o7 P w K mg base cs)(zx7:m8 P w K mg base cs)(zk0:MkE P w K mg base "NoPart" cs.NoPart 1 ["self","at"] (zf6 cs.NoPart "at")):zm5 P w K mg base "Part" 4 (r0d cs):=by
 refine zM1 n M T.zY7 o zp7 (λds δ q x h=>?_) (λcdv A outer s H E Y hr=>⟨_,(by walk_at "=+:JK.l,-!#)!'!'$(X%-=~,!'$;+:JK.l,-!#1!'!#)$(X%-=~,!'$;+:JK.e~,-!#7!'!'!'!'$(X%-=~,!'$;+:JK.l,-!#5!'!'$(X%-=~,!'$;+v8&#)+v8&#1+v8&VZ[RW!#7$(v8&#5"),λds δ q x h=>?_⟩)
 .unfold r0d at h;split at h
  .rfl
  .exact h.elim
 .unfold r0d at h;split at h;rotate_left
  .exact h.elim
  rename_i a m v p;rw[show o4 ["full","mark","wear","price"] _=[.val _,.val _,.val _,.val _]from rfl];let ⟨j,b⟩:=h;simp only[k1p]at j;let ⟨⟨⟨r,t⟩,u⟩,tp⟩:=j;have c:∀{d:D},u5 d=true->o5 d=true:=λ{d} h=>by unfold u5 at h;rw[k1p]at h;exact h.1
  walk_at "dl";simp only[x0c,c r,W2];cases e:j4 a 1 9 with
  |false=>
   rw[e]at b;exact b
  |true=>
   rw[e]at b;let ⟨i,rfl,y,z⟩:=v0y e;simp only[j1i,k1a,K1,c t,W2,i0i,c tp,u,N1]at b ⊢;cases k:j4 m 0 i with
   |false=>
    rw[k]at b;exact b
   |true=>
    rw[k]at b;refine ⟨by decide,?_⟩;cases g:t0m v 1 6 0 9 with
    |false=>
     rw[g]at b;exact b
    |true=>
     rw[g]at b;cases l:j4 p 0 99 with
     |false=>
      rw[l]at b;exact b
     |true=>
      rw[l]at b;cases v<;>first |(cases g;done)|skip
      all_goals
       simp only[T.zh9.cl,T.zn9,T.zm0,T.zm1,T.zq8,m0v,l1p,K1,k1k,g1t,W2]
       repeat (first |exact ⟨_,rfl,b⟩|(refine ⟨by decide,?_⟩))
def intD:D->Int | .int i=>i |_=>0
def zj7:List Int->Bool
 |a::b::r=>decide (a<b)&&zj7 (b::r)
 |_=>true
def zk3(d:D)(lo hi:Int):Bool:=t0m d 0 (hi-lo+1) lo hi&&zj7 (((zp6 d).getD []).map intD)
theorem s0b{lo hi:Int}:∀{xs:List D},xs.all (j4 · lo hi)=true->xs=(xs.map intD).map D.int
 | [],_=>rfl
 |d::xs,h=>by
  rw[i1n,k1p]at h;let ⟨i,rfl,_,_⟩:=v0y h.1;rw[k1l,k1l,<- s0b h.2];rfl
def c0x(ns:List Int):(ns.map D.int).map intD=ns:=by
 rw[i1j];exact a1g _
def atZ{z:Int}(h0:0<=z)(h1:z<(ns.length:Int)):atI (ns.map D.int) z=some (.int (ns.getD z.toNat 0)):=by
 have hz:z=((z.toNat:Nat):Int):=by lia
 have a:z.toNat<ns.length:=by lia
 rw[hz,v0f (v:=D.int (ns.getD z.toNat 0))]
 .rfl
 .rw[k1h,k1u a,k1r,k1u a];rfl
theorem w1q:∀ns:List Int,((List.range (ns.length-1)).map λj=>decide (ns.getD j 0<ns.getD (j+1) 0)).all id=zj7 ns
 | []=>rfl
 | [a]=>rfl
 |a::b::r=>by
  have c:=w1q (b::r);have e:(a::b::r).length-1=(r.length)+1:=by simp
  have e2:(b::r).length-1=r.length:=by simp
  rw[e,h1g,k1l,i1n,i1j];unfold zj7;rw[<-c];rfl
def t0k:Sp2:=λds δ q _=>match ds with | [d,.int lo,.int hi]=>u5 d=true/\hi-lo+1<=900/\q (.bl (zk3 d lo hi)) δ |_=>False
abbrev j7:List Str:=["thing","least","most"]
def q0z:zz2 ["thing","least","most"] j7 (zz0 p9):=(by walk_at "k7")
abbrev i7(P:V0)(w:T0)(K:Fg)(mg:Str->Option Z0)(base:J0)(cs:Cs):Prop:=Fun2 P w K mg base "is_rising_row" 4 j7 t0k
def q0y(Df:zy4 K mg "is_rising_row" p9 j7 f fd)(T:Txt K mg cs)(zx7:m8 P w K mg base cs):i7 P w K mg base cs:=by
 walk_at "= q0z +:JK.e~,-!#&!'!2DE2(~)~#1#)'!#)!#1$(08~;(0?9~%:~;~<~!N%Bf~>~%g~-~!'!U&G$A3/&*%4L9Q9e.~/~6)2(~)~#&'6)#&=$"
 .unfold t0k at h;split at h
  .rfl
  .exact h.elim
 .unfold t0k at h;split at h;rotate_left
  .exact h.elim
  rename_i d lo hi;let ⟨B,C,m⟩:=h;rw[show o4 ["thing","least","most"] _=[.val _,.val _,.val _]from rfl];walk_at "dl";simp only[i0i,B,W2];refine ⟨C,?_⟩;cases e:t0m d 0 (hi-lo+1) lo hi with
  |false=>
   have er:zk3 d lo hi=false:=by unfold zk3;rw[e];rfl
   rw[er]at m;exact m
  |true=>
   have er:zk3 d lo hi=zj7 (((zp6 d).getD []).map intD):=by unfold zk3;rw[e];rfl
   rw[er]at m;have l:∀ns:List Int,(ns.length:Int)<=900->q (.bl (zj7 ns)) δ->∀(c:D),za7 [.val c] none 0=some (ns.map D.int)->(∀a,c≠.ref a)->j9 (zd5 ltF (j0t 1 (zd5 z37 (t2V 0) (t2C (.int 1)))) (j0t 1 (t2V 0))) [0] [.val c,.val (.int lo),.val (.int hi)]
    (λk r=>match zd6 k with |some bs=>q (D.bl (bs.all id)) r |none=>False) (zc6 1 (((ns.length:Nat):Int)-1).toNat) [] δ:=by
    intro ns G m c y hr;have hs:∀(t:En) g,za7 (t++[.val c]) g t.length=some (ns.map D.int):=λt g=>by
     unfold za7 at y ⊢;rw[j1y (k1q _),h1n];cases c<;>first |exact y |exact absurd rfl (hr _)
    refine z9 (λi k g=>k=(List.range i).map (λj=>D.bl (decide (ns.getD j 0<ns.getD (j+1) 0)))/\g=δ) ⟨rfl,rfl⟩ ?_ ?_
    .rintro i z k g rest hi ⟨rfl,rfl⟩ n;let ⟨F,rfl⟩:=h9 hi;have o:=hs [.val (.int (1+(i:Int)))] g;simp only[zu8,k9,k1l,j1r,j1v];simp only[zd5,j0t,t2V,t2C,rdV,za6,j1v,j1w,fI0,W2];simp only[h1y,i1x,k1k,g1t,i1e]at o;simp only[o,ixQ,ltF,fI0];rw[atZ (by lia) (by lia),atZ (by lia) (by lia)];refine ⟨by rw[k1v,h1u];lia,n _ _ ⟨?_,rfl⟩⟩;rw[f1h,j1z];have e1:(1+(i:Int)-1).toNat=i:=by lia
     have e2:(1+(i:Int)).toNat=i+1:=by lia
     rw[e1,e2];rfl
    .rintro k g ⟨rfl,rfl⟩;rw[a8,p0h];dsimp only;have e1:(((ns.length:Nat):Int)-1).toNat=ns.length-1:=by lia
     rw[e1,w1q];exact m
   have key:∀b:List D,zp6 d=some b->((b.map intD).map D.int)=b/\(b.length:Int)<=900:=λb hx=>by
    unfold t0m at e;rw[hx]at e;simp only[k1p,G0]at e;exact ⟨(s0b e.2).symm,by lia⟩
   have len:∀b:List D,((b.map intD).length:Int)=(b.length:Int):=λb=>by rw[k1v]
   have p:∀b:List D,zp6 d=some b->(-(2^62)<=(1:Int)/\(1:Int)<2^62/\-(2^62)<=((b.length:Nat):Int)/\((b.length:Nat):Int)<2^62):=λb hx=>by have:=(key b hx).2;lia
   cases d<;>first |(cases e;done)|skip
   .rename_i b;let ⟨u,v⟩:=key b rfl;refine ⟨p b rfl,?_⟩;have:=l (b.map intD) (by rw[len];exact v) m (.lst b) (by rw[u];rfl) (λa z=>by cases z);rw[k1v]at this;exact this
   .rename_i b;let ⟨u,v⟩:=key b rfl;refine ⟨p b rfl,?_⟩;have:=l (b.map intD) (by rw[len];exact v) m (.tup b) (by rw[u];rfl) (λa z=>by cases z);rw[k1v]at this;exact this
def zW8.mono{p:X0}(h:zW8 p ns n δ)(l:n<=m):zW8 p ns m δ:=by
 let ⟨c,k,e,a,b,d⟩:=h;exact ⟨c,k,e,a,b,by lia⟩
def DkB(p:X0)(ns:List Int)(m:Nat)(δ:Dk):Prop:=∃n,zW8 p ns n δ/\n+m<=2^20
def DkB.mono{p:X0}(h:DkB p ns m δ)(l:n<=m):DkB p ns n δ:=by
 let ⟨k,a,b⟩:=h;exact ⟨k,a,by lia⟩
def tk{p:X0}{k:Int}(h:DkB p ns (m+1) δ)(b:0<k)(c:k<2^30)(e:∀(d:Int) a,0<=d->d<k->DkB p ns m a->q (.int d) a):c0y [.ref p,.int k] δ q x:=by
 let ⟨n,f,l⟩:=h;exact ⟨p,ns,n,k,rfl,f,by lia,b,c,λd a g i j=>e d a g i ⟨_,j,by lia⟩⟩
structure zm9(full mark:Int)(ws:List Int)(price:Int):Prop where
 f1:1<=full
 f2:full<=6
 m1:0<=mark
 m2:mark<=full
 l1:0<ws.length
 l2:ws.length<=6
 w:∀x∈ws,0<=x/\x<=9
 p1:0<=price
 p2:price<=99
def p0e(full mark:Int)(ws:List Int)(price:Int):D:=.tup [.int full,.int mark,.tup (ws.map D.int),.int price]
def w1p:Sp2:=λds δ q _=>∃p ns m,ds=[.ref p,.int 6]/\DkB p ns (m+16) δ/\∀full mark ws price δ',zm9 full mark ws price->DkB p ns m δ'->q (p0e full mark ws price) δ'
def ls1:TS2:=λE ρ δ=>∃p ns m full mk sz g c1 c6 c7,ρ=[.val (.ref p),c1,.val (.int full),.val (.int mk),.val (.int sz),.val (.int g),c6,c7]/\1<=full/\full<=6/\0<=mk/\mk<=full/\1<=sz/\sz<=6/\0<g/\g<=10/\DkB p ns (m+11) δ/\
 ∀ws price δ',zm9 full mk ws price->DkB p ns m δ'->E.rt (p0e full mk ws price) δ'
def ls2(b:Nat):TS2:=λE ρ δ=>∃p ns m full mk,∃ws:List Int,∃c1 c4 c5 c7,ρ=[.val (.ref p),c1,.val (.int full),.val (.int mk),c4,c5,.own (ws.map D.int),c7]/\1<=full/\full<=6/\0<=mk/\mk<=full/\0<ws.length/\ws.length<=6/\(∀x∈ws,0<=x/\x<=9)/\DkB p ns (m+b) δ/\
 ∀ws price δ',zm9 full mk ws price->DkB p ns m δ'->E.rt (p0e full mk ws price) δ'
abbrev v0x:List Str:=["_law_deck_here","_law_most"]
def zm2:zz2 ["_law_deck_here","_law_most","_law_full","_law_mark","_law_size","_law_great_here","_law_wear","_law_price"] v0x (zz0 s0j):=(by walk_at "k7")
abbrev s0a(P:V0)(w:T0)(K:Fg)(mg:Str->Option Z0)(base:J0)(cs:Cs):Prop:=Fun2 P w K mg base "_law_spec" 5 v0x w1p
def g0j(Df:zy4 K mg "_law_spec" s0j v0x f fd)(T:Txt K mg cs)(zz3:q8 P w K mg base cs):s0a P w K mg base cs:=by
 have nd:=zm2.nd;refine zC3 Df zm2 (λds δ q x h=>?_) (λcdv A outer s H E Y hr=>⟨_,(d4 (v7 2 nd (t0b x0m r0h b3 (l4 zz3 hr.m w4 (l0 (zx0 0) (l0 (zx0 1) y4)))))
  (d4 (v7 3 nd (t0b a0w o1j (l4 zz3 hr.m w4 (l0 (zx0 0) (l0 (t0b x0m r0h (zx0 2) b3) y4))) (l4 zz3 hr.m w4 (l0 (zx0 0) (l0 b3 y4)))))
  (d4 (v7 4 nd (t0b x0m r0h b3 (l4 zz3 hr.m w4 (l0 (zx0 0) (l0 b3 y4)))))
  (d4 (v7 5 nd (t0b x0m r0h b3 (t0b a0w o1j b3 (u1l k0r zN0 T.zF0 r1g (l0 (e0q (t0t hr.zw4) m0o (l4 zz3 hr.m w4 (l0 (zx0 0) (l0 b3 y4))) b3 (nomark _)) y4)))))
  (p6 (t':=ls1) (d4 (y1j (i:=6) rfl (zx2.of ["_law_k"] [0,5,2,3] rfl) (t0v T.zl9 (l0 (zx0 4) y4)) (λnd _ _ _ _ _=>(v0h (i:=0) nd rfl (by walk_at "v2"))) t0u (λ_ _ _ _ _ _=>h0b) (λ_ _ _ _ _ _=>(z35 (k0s rfl) zO9 T.zF1 z1q (l0 (l4 zz3 hr.m e0e (l0 (zx0 1) (l0 (zx0 2) y4))) (l0 (t0b r1q zO2 (zx0 3) (zx0 4)) y4)))) nd)
  (p6 (t':=(ls2 5)) (d4 (p0u (i9 (t0t hr.zw4) m0o (l4 zz3 hr.m w4 (l0 (zx0 0) (l0 b3 y4))) b3 (nomark _)) (y8 (z1c 6 b3 (l4 zz3 hr.m w4 (l0 (zx0 0) (l0 b3 y4))))) y0f)
  (p6 (t':=(ls2 3)) (d4 (v7 7 nd (l4 zz3 hr.m w4 (l0 (zx0 0) (l0 b3 y4))))
  (d4 (p0u (i9 (t0t hr.zw4) m0o (l4 zz3 hr.m w4 (l0 (zx0 0) (l0 b3 y4))) b3 (nomark _)) (y8 (v7 7 nd (l4 zz3 hr.m w4 (l0 (zx0 0) (l0 b3 y4))))) y0f)
  (y8 (y0e (y0g (l0 (zx0 2) (l0 (zx0 3) (l0 (u1l z0i z1h T.zb2 m0x (l0 (zx0 6) y4)) (l0 (zx0 7) y4))))))))) (by
   rintro E v δ ⟨p,ns,m,full,mk,ws,c1,C,F,z,rfl,f1,f2,m1,m2,l1,l2,e,a,c⟩;walk_at "ds";refine tk (m:=m+2) a (by decide) (by decide) λz0 G z1 z2 a=>?_
   walk_at "ds";refine tk (m:=m+1) a (by decide) (by decide) λw0 I w1 w2 a=>?_
   walk_at "ds";split
   .refine tk (m:=m) a (by decide) (by decide) λu0 J L u2 a=>?_
    walk_at "ds";exact c ws _ _ ⟨f1,f2,m1,m2,l1,l2,e,L,by lia⟩ a
   .exact c ws _ _ ⟨f1,f2,m1,m2,l1,l2,e,z1,by lia⟩ (a.mono (by lia))))) (by
   rintro E v δ ⟨p,ns,m,full,mk,ws,c1,C,F,z,rfl,f1,f2,m1,m2,l1,l2,e,a,c⟩;walk_at "ds";refine tk (m:=m+4) a (by decide) (by decide) λx0 t M N a=>?_
   walk_at "ds";split
   .refine tk (m:=m+3) a (by decide) (by decide) λO Q y1 y2 a=>?_
    walk_at "ds";rw[H0 (by rw[k1v];lia)];refine ⟨p,ns,m,full,mk,ws.set 0 O,_,_,_,_,by rw[List.map_set],f1,f2,m1,m2,by rw[e1m];exact l1,by rw[e1m];exact l2,λx hx=>?_,a,c⟩;rcases List.mem_or_eq_of_mem_set hx with h |h
    .exact e x h
    .rw[h];lia
   .exact ⟨p,ns,m,full,mk,ws,_,_,_,_,rfl,f1,f2,m1,m2,l1,l2,e,a.mono (by lia),c⟩))) (by
   rintro E v δ ⟨p,ns,m,full,mk,sz,g,c1,c6,z,rfl,f1,f2,m1,m2,s1,s2,g1,g2,a,c⟩;walk_at "ds";refine ⟨⟨by lia,by lia⟩,?_⟩;have R:(zc6 0 sz.toNat).length=sz.toNat:=a8;refine z9 (λi j k=>∃ws:List Int,j=ws.map D.int/\ws.length=i/\(∀x∈ws,0<=x/\x<=9)/\DkB p ns (m+5+(6-i)) k) ⟨[],rfl,rfl,λx hx=>(nomatch hx),a⟩ ?_ ?_
   .rintro i d j k rest hi ⟨ws,rfl,n,e,a⟩ l;have S:=(k1t.mp hi).1;walk_at "ds";refine tk (m:=m+5+(6-(i+1))) (a.mono (by lia)) g1 (by lia) λx0 t M N a=>?_
    walk_at "ds";refine ⟨by rw[k1v];lia,l _ _ ⟨ws++[if full-mk<x0 then full-mk else x0],by rw[j1z];rfl,by rw[k1b,n];rfl,λy o=>?_,a⟩⟩;rcases j1g.mp o with o |o
    .exact e y o
    .rw[k1d.mp o];split<;>lia
   .rintro j k ⟨ws,rfl,n,e,a⟩;exact ⟨p,ns,m,full,mk,ws,_,_,_,_,rfl,f1,f2,m1,m2,by lia,by lia,e,a.mono (by lia),c⟩)))))),λds δ q x h=>?_⟩)
 .let ⟨p,ns,m,rfl,a,c⟩:=h;rfl
 .let ⟨p,ns,m,rfl,a,c⟩:=h;rw[show o4 ["_law_deck_here","_law_most","_law_full","_law_mark","_law_size","_law_great_here","_law_wear","_law_price"] _=[.val _,.val _,.no,.no,.no,.no,.no,.no]from rfl];walk_at "ds";refine tk (m:=m+15) a (by decide) (by decide) λB U a1 a2 a=>?_
  walk_at "ds";refine tk (m:=m+14) a (by lia) (by lia) λu V b1 b2 a=>?_
  walk_at "ds";refine tk (m:=m+13) a (by decide) (by decide) λr W c1 c2 a=>?_
  walk_at "ds";refine ⟨.inl ⟨by lia,by lia⟩,?_⟩;refine tk (m:=m+12) a (by decide) (by decide) λX Z d1 d2 a=>?_
  walk_at "ds";refine tk (m:=m+11) a (by decide) (by decide) λe0 aa e1 e2 a=>?_
  walk_at "ds";have hc:r=0\/r=1:=by lia
  have b:0<=u*r/\u*r<=1+B:=by
   rcases hc with rfl |rfl
   .lia
   .lia
  refine ⟨.inl ⟨by decide,by decide⟩,p,ns,m,1+B,u*r,1+X,_,_,_,_,rfl,by lia,by lia,b.1,b.2,by lia,by lia,by split<;>lia,by split<;>lia,a,c _ _⟩
def g0i(cs:Cs):Sp2:=λds δ q _=>∃full mark ws price,ds=[p0e full mark ws price]/\zm9 full mark ws price/\q (o0h cs full mark ws price) δ
def s1e(h:∀x∈ws,0<=x/\x<=9):(ws.map D.int).all (j4 · 0 9)=true:=by
 rw[j1l];intro d hd;let ⟨x,hx,rfl⟩:=j1u.mp hd;unfold j4;rw[k1p,G0,G0];exact h x hx
def r0z:(ws.map D.int).all o5=true:=by
 rw[j1l];intro d hd;let ⟨x,hx,rfl⟩:=j1u.mp hd;rfl
abbrev v0w:List Str:=["_law_spec_here"]
def g0h:zz2 ["_law_spec_here"] v0w (zz0 s0i):=(by walk_at "k7")
abbrev r0y(P:V0)(w:T0)(K:Fg)(mg:Str->Option Z0)(base:J0)(cs:Cs):Prop:=Fun2 P w K mg base "_law_part" 6 v0w (g0i cs)
def g0g(Df:zy4 K mg "_law_part" s0i v0w f fd)(T:Txt K mg cs)(zq7:zm5 P w K mg base "Part" 4 (r0d cs)):r0y P w K mg base cs:=by
 walk_at "= g0h (0h~=~~,-!6&'!6&'!6&'!6&'$"
 .let ⟨full,mark,ws,price,rfl,h,a⟩:=h;rfl
 .let ⟨full,mark,ws,price,rfl,h,a⟩:=h;rw[show o4 ["_law_spec_here"] _=[.val _]from rfl];walk_at "dl";unfold p0e;walk_at "dl";unfold r0d;have e1:j4 (.int full) 1 9=true:=by unfold j4;rw[k1p,G0,G0];exact ⟨h.f1,b1a h.f2 (by decide)⟩
  have e2:j4 (.int mark) 0 full=true:=by unfold j4;rw[k1p,G0,G0];exact ⟨h.m1,h.m2⟩
  have e3:j4 (.int price) 0 99=true:=by unfold j4;rw[k1p,G0,G0];exact ⟨h.p1,h.p2⟩
  have e4:t0m (.tup (ws.map D.int)) 1 6 0 9=true:=by
   unfold t0m zp6;dsimp only;rw[s1e h.w,k1v,M0 (show (1:Int)<=(ws.length:Int)by have:=h.l1;lia),M0 (show (ws.length:Int)<=6 by have:=h.l2;lia)];rfl
  have e5:u5 (.tup (ws.map D.int))=true:=by
   unfold u5 zp6;dsimp only;rw[r0z];rfl
  simp only[e1,e2,e3,e4,e5,N1];exact ⟨rfl,a⟩
structure zy3 where
 full:Int
 mark:Int
 ws:List Int
 price:Int
def v0l(cs:Cs)(p:zy3):D:=o0h cs p.full p.mark p.ws p.price
def POk(p:zy3):Prop:=zm9 p.full p.mark p.ws p.price
def i4(cs:Cs)(ps:List zy3)(call:Int)(shut:List Int):D:=.ins cs.Works [("parts",.tup (ps.map (v0l cs))),("call",.int call),("shut",.tup (shut.map D.int))]
def u0n(cs:Cs):D->Bool | .ins C _=>decide (C=cs.Part)|_=>false
def zB7(cs:Cs):D->Bool | .ins C _=>decide (C=cs.Part)|d=>o5 d
def t0j(cs:Cs)(d:D):Bool:=match zp6 d with |some xs=>decide ((xs.length:Int)<=4)&&xs.all (u0n cs)|none=>false
def t0i(cs:Cs):Sp2:=λds δ q _=>match ds with | [d]=>o5 d=true/\(∀x∈(zp6 d).getD [],zB7 cs x=true)/\q (.bl (t0j cs d)) δ |_=>False
def c0w:Sp2:=λds δ q _=>match ds with | [d]=>u5 d=true/\q (.bl (zk3 d 0 47)) δ |_=>False
def l0w:Sp2:=λds δ q _=>match ds with | [d,.int m]=>u5 d=true/\m<=900/\q (.bl (zk3 d 0 (m-1))) δ |_=>False
def s1d{K:Fg}{mg:Str->Option Z0}{cs:Cs}(T:Txt K mg cs)(h:zB7 cs d=true):TyD K d/\j0u K d (.ref cs.Part)=some (u0n cs d):=by
 cases d with
 |ins C fs=>
  have:C=cs.Part:=X5 h;subst this;exact ⟨T.zh9,by rw[t1j];show some true=some (decide (cs.Part=cs.Part));rw[M0 rfl]⟩
 |exc C fs=>cases h
 |ref a=>cases h
 |ty a=>cases h
 |scr a=>cases h
 |dwk a=>cases h
 |dwt a=>cases h
 |non=>exact ⟨trivial,u0z T.zs6 rfl⟩
 |bl b=>exact ⟨trivial,u0z T.zs6 rfl⟩
 |int b=>exact ⟨trivial,u0z T.zs6 rfl⟩
 |str b=>exact ⟨trivial,u0z T.zs6 rfl⟩
 |lst b=>exact ⟨trivial,u0z T.zs6 rfl⟩
 |tup b=>exact ⟨trivial,u0z T.zs6 rfl⟩
 |dic b=>exact ⟨trivial,u0z T.zs6 rfl⟩
abbrev v0v:List Str:=["thing"]
def g0f:zz2 ["thing"] v0v (zz0 s0r):=(by walk_at "k7")
abbrev r0x(P:V0)(w:T0)(K:Fg)(mg:Str->Option Z0)(base:J0)(cs:Cs):Prop:=Fun2 P w K mg base "is_parts" 3 v0v (t0i cs)
def g0e(Df:zy4 K mg "is_parts" s0r v0v f fd)(T:Txt K mg cs)(zu2:t0l P w K mg base cs):r0x P w K mg base cs:=by
 walk_at "= g0f +:'~6~JK.H~,-!#&$7~@stU&GY>~~=(08~;(0?9~%:~;~<~!N%Bd~`%H#&A3/&*%4L9Q9?}!~#~8$~%~!#&!?~~@~~$$"
 .unfold t0i at h;split at h
  .rfl
  .exact h.elim
 .unfold t0i at h;split at h;rotate_left
  .exact h.elim
  rename_i d;let ⟨o,hx,b⟩:=h;rw[show o4 ["thing"] _=[.val _]from rfl];walk_at "dl";simp only[b0l,o,W2];cases e:zp6 d with
  |none=>
   have e1:z0j d=false:=by unfold z0j;rw[e];rfl
   have e2:t0j cs d=false:=by unfold t0j;rw[e]
   rw[e2]at b;simp only[e1,i1h,N1];exact b
  |some c=>
   have e1:z0j d=true:=by unfold z0j;rw[e];rfl
   have e2:t0j cs d=(decide ((c.length:Int)<=4)&&c.all (u0n cs)):=by unfold t0j;rw[e]
   rw[e]at hx;rw[e2]at b;simp only[e1,j1i,k1a,K1];have k:∀ m:En,(c.length:Int)<=4->q (.bl (c.all (u0n cs))) δ->j9 (zP9 (c0b K) (x0p (t2V 0) (x0p (t2C (.ref cs.Part)) h0h))) [] m
    (λa l=>match zd6 a with |some bs=>q (D.bl (bs.all id)) l |none=>False) c [] δ:=by
    intro m n b;refine z9 (λi a g=>a=(c.take i).map (λz=>D.bl (u0n cs z))/\g=δ) ⟨rfl,rfl⟩ ?_ ?_
    .rintro i z a g rest hi ⟨rfl,rfl⟩ j;let ⟨t1,t2⟩:=s1d T (hx z (k1m hi));walk_at "dl";simp only[t2,t1,W2];refine ⟨by rw[k1v,h1c];lia,j _ _ ⟨?_,rfl⟩⟩;rw[g1m,hi,j1z];rfl
    .rintro a g ⟨rfl,rfl⟩;rw[h1z,p0h];have:(c.map λz=>u0n cs z).all id=c.all (u0n cs):=by rw[c1w];rfl
     dsimp only;rw[this];exact b
   cases d<;>first |(cases e;done)|skip
   all_goals
    cases e;dsimp only;split
    .rw[Q0 (by lia)]at b;exact b
    .rw[M0 (by lia),h1p]at b;exact k _ (by lia) b
abbrev t0h:List Str:=["thing"]
def b0k:zz2 ["thing"] t0h (zz0 p0j):=(by walk_at "k7")
abbrev p0d(P:V0)(w:T0)(K:Fg)(mg:Str->Option Z0)(base:J0)(cs:Cs):Prop:=Fun2 P w K mg base "is_shut" 5 t0h c0w
def b0j(Df:zy4 K mg "is_shut" p0j t0h f fd)(T:Txt K mg cs)(zx4:i7 P w K mg base cs):p0d P w K mg base cs:=by
 walk_at "= b0k (0.i~,-!#&!'!YA~~$"
 .unfold c0w at h;split at h
  .rfl
  .exact h.elim
 .unfold c0w at h;split at h;rotate_left
  .exact h.elim
  let ⟨a,b⟩:=h;walk_at "dl";exact ⟨a,by decide,b⟩
abbrev f6:List Str:=["thing","many"]
def t0g:zz2 ["thing","many"] f6 (zz0 u8):=(by walk_at "k7")
abbrev o8(P:V0)(w:T0)(K:Fg)(mg:Str->Option Z0)(base:J0)(cs:Cs):Prop:=Fun2 P w K mg base "is_choice_among" 5 f6 l0w
def t0f(Df:zy4 K mg "is_choice_among" u8 f6 f fd)(T:Txt K mg cs)(zx4:i7 P w K mg base cs):o8 P w K mg base cs:=by
 walk_at "= t0g (0.i~,-!#&!'!2(~)~#)'$"
 .unfold l0w at h;split at h
  .rfl
  .exact h.elim
 .unfold l0w at h;split at h;rotate_left
  .exact h.elim
  let ⟨a,hm,b⟩:=h;walk_at "dl";exact ⟨a,by lia,b⟩
def z0r(cs:Cs):Sp2:=λds δ q x=>match ds with
 | [a,c,s]=>(o5 a&&u5 c&&u5 s)=true/\(∀x∈(zp6 a).getD [],zB7 cs x=true)/\(if t0j cs a=true then (if j4 c 0 99=true then (if zk3 s 0 47=true then
  q (.ins cs.Works [("parts",.tup ((zp6 a).getD [])),("call",c),("shut",.tup ((zp6 s).getD []))]) δ else x cs.NoWorks [("at",.int 2)] δ)else x cs.NoWorks [("at",.int 1)] δ)else x cs.NoWorks [("at",.int 0)] δ)
 |_=>False
def zr0:zz2 ["self","parts","call","shut"] ["self","parts","call","shut"] (zz0 x0d):=(by walk_at "k7")
def l0v(k:Fun K "__init__" "Works.__init__" x0d f fd)(M:Mk K cs.Works f)(l:Binds K fd ["self","parts","call","shut"] [])(T:Txt K mg cs)(zr8:r0x P w K mg base cs)(zy7:o7 P w K mg base cs)(zn7:p0d P w K mg base cs)(zn4:MkE P w K mg base "NoWorks" cs.NoWorks 1 ["self","at"] (zf6 cs.NoWorks "at")):zm5 P w K mg base "Works" 6 (z0r cs):=by
 refine zM1 k M T.zW7 l zr0 (λds δ q x h=>?_) (λcdv A outer s H E Y hr=>⟨_,(by walk_at "=+:JK.B~~,-!#)$(X%-I~,!'$;+:JK.l,-!#1!'!YC~~$(X%-I~,!'$;+:JK.D~~,-!#7$(X%-I~,!'$;+v8&VZ[RW!#)$+v8&#1(v8&VZ[RW!#7$"),λds δ q x h=>?_⟩)
 .unfold z0r at h;split at h
  .rfl
  .exact h.elim
 .unfold z0r at h;split at h;rotate_left
  .exact h.elim
  rename_i a c v;rw[show o4 ["parts","call","shut"] _=[.val _,.val _,.val _]from rfl];let ⟨i,hx,b⟩:=h;simp only[k1p]at i;let ⟨⟨m,n⟩,o⟩:=i;have p:∀{d:D},u5 d=true->o5 d=true:=λ{d} h=>by unfold u5 at h;rw[k1p]at h;exact h.1
  walk_at "dl";simp only[t0i,m,W2];refine ⟨hx,?_⟩;cases g:t0j cs a with
  |false=>
   rw[g]at b;exact b
  |true=>
   rw[g]at b;simp only[j1i,k1a,K1,N1,x0c,p n,W2]at b ⊢;cases j:j4 c 0 99 with
   |false=>
    rw[j]at b;exact b
   |true=>
    rw[j]at b;simp only[j1i,k1a,K1,N1,c0w,o,W2]at b ⊢;cases e:zk3 v 0 47 with
    |false=>
     rw[e]at b;exact b
    |true=>
     rw[e]at b;simp only[j1i,k1a,K1,N1]at b ⊢;have r:t0m v 0 (47-0+1) 0 47=true:=by unfold zk3 at e;rw[k1p]at e;exact e.1
     cases a<;>first |(cases g;done)|skip
     all_goals
      cases v<;>first |(cases r;done)|skip
      all_goals
       simp only[T.zg9.cl,T.zs9,T.zq9,T.zp0,m0v,l1p,K1,k1k,g1t,W2]
       repeat (first |exact ⟨_,rfl,b⟩|(refine ⟨by decide,?_⟩))
instance:Inhabited zy3:=⟨⟨0,0,[],0⟩⟩
def y0x(ps:List zy3)(call:Int)(ch:List Int):Int:=if ch=[]then 0 else call+(ch.map λk=>(ps.getD k.toNat default).price).sum
def chD(d:D):List Int:=((zp6 d).getD []).map intD
def zF4(h:zk3 d lo hi=true):∃xs,zp6 d=some xs/\xs=(chD d).map D.int/\(∀k∈chD d,lo<=k/\k<=hi)/\((chD d).length:Int)<=hi-lo+1/\zj7 (chD d)=true:=by
 unfold zk3 at h;rw[k1p]at h;have a:=h.1;unfold t0m at a;cases e:zp6 d with
 |none=>rw[e]at a;cases a
 |some xs=>
  rw[e]at a;simp only[k1p,G0]at a;have b:chD d=xs.map intD:=by unfold chD;rw[e];rfl
  have ex:=s0b a.2;refine ⟨xs,rfl,by rw[b];exact ex,λk c=>?_,by rw[b,k1v];exact a.1.2,h.2⟩;rw[b]at c;let ⟨y,f,rfl⟩:=j1u.mp c;let ⟨i,rfl,g,j⟩:=v0y (j1l.mp a.2 y f);exact ⟨g,j⟩
def atP{cs:Cs}{k:Int}(h0:0<=k)(h1:k<(ps.length:Int)):atI (ps.map (v0l cs)) k=some (v0l cs (ps.getD k.toNat default)):=by
 have hz:k=((k.toNat:Nat):Int):=by lia
 have a:k.toNat<ps.length:=by lia
 rw[hz,v0f (v:=v0l cs (ps.getD k.toNat default))]
 .rfl
 .rw[k1h,k1u a,k1r,k1u a];rfl
def r0w(cs:Cs):Sp2:=λds δ q _=>∃ps call shut d,ds=[i4 cs ps call shut,d]/\u5 d=true/\ps.length<=4/\q (.bl (zk3 d 0 ((ps.length:Int)-1))) δ
def w1o(cs:Cs):Sp2:=λds δ q x=>∃ps call shut d,ds=[i4 cs ps call shut,d]/\u5 d=true/\ps.length<=4/\(∀p∈ps,0<=p.price/\p.price<=99)/\
 (zk3 d 0 ((ps.length:Int)-1)=true->q (.int (y0x ps call (chD d))) δ)/\(zk3 d 0 ((ps.length:Int)-1)=false->x cs.NoPlan [("at",.int 0)] δ)
abbrev y0w:List Str:=["works","thing"]
def i0e:zz2 ["works","thing"] y0w (zz0 u0x):=(by walk_at "k7")
abbrev u0m(P:V0)(w:T0)(K:Fg)(mg:Str->Option Z0)(base:J0)(cs:Cs):Prop:=Fun2 P w K mg base "is_choice" 6 y0w (r0w cs)
def i0d(Df:zy4 K mg "is_choice" u0x y0w f fd)(T:Txt K mg cs)(zw2:o8 P w K mg base cs):u0m P w K mg base cs:=by
 walk_at "= i0e (0.E~~,-!#)!?wxGy!F8#&$$"
 .let ⟨c,call,shut,d,rfl,a,e,b⟩:=h;rfl
 .let ⟨c,call,shut,d,rfl,a,e,b⟩:=h;rw[show o4 ["works","thing"] _=[.val _,.val _]from rfl];walk_at "dl";simp only[i4,k1v]
  (walk_at "fl";try simp only[k1v])
  exact ⟨a,by lia,b⟩
abbrev t0e:List Str:=["works","choice"]
def b0i:zz2 ["works","choice"] t0e (zz0 p0i):=(by walk_at "k7")
abbrev p0c(P:V0)(w:T0)(K:Fg)(mg:Str->Option Z0)(base:J0)(cs:Cs):Prop:=Fun2 P w K mg base "cost_of" 7 t0e (w1o cs)
def b0h(Df:zy4 K mg "cost_of" p0i t0e f fd)(T:Txt K mg cs)(zs1:u0m P w K mg base cs)(zk1:MkE P w K mg base "NoPlan" cs.NoPlan 1 ["self","at"] (zf6 cs.NoPlan "at")):p0c P w K mg base cs:=by
 walk_at "= b0i +:JK.F~~,-!#&!#)$(X%-G~~,!'$;+:@fPgU)G'=(0';(02DEF8#&?j~%k~l~m~!N%Bf~>~%H#)A3/&*%4L9Q9F8]^_F8#)#&$"
 .let ⟨g,call,shut,d,rfl,v,y,B,b,hx⟩:=h;rfl
 .let ⟨g,call,shut,d,rfl,v,y,B,b,hx⟩:=h;rw[show o4 ["works","choice"] _=[.val _,.val _]from rfl];walk_at "dl";refine ⟨g,call,shut,d,rfl,v,y,?_⟩;cases e:zk3 d 0 ((g.length:Int)-1)with
  |false=>exact hx e
  |true=>
   simp only[j1i,k1a,K1];have b:=b e;let ⟨r,e1,e2,e3,e4,e5⟩:=zF4 e
   have nil:r.length=0↔chD d=[]:=by rw[e2,k1v];exact g1o
   have m:∀c:D,chD d≠[]->j9 (h0e K "price" (zd5 ixF (h0e K "parts" (t2V 1)) (t2V 0))) [0] [.val (i4 cs g call shut),.val c]
    (λa t=>match z0f a with |some ns=>zC6 ns/\q (.int (call+ns.sum)) t |none=>False) r [] δ:=by
    intro c u;rw[e2];refine z9 (λi a j=>a=(((chD d).take i).map λk=>(g.getD k.toNat default).price).map D.int/\j=δ) ⟨rfl,rfl⟩ ?_ ?_
    .rintro i z a j rest hi ⟨rfl,rfl⟩ l;rw[k1h,k1c]at hi;let ⟨k,o,rfl⟩:=hi;have p:=e3 k (k1m o);simp only[zu8,k9,k1l,j1r];walk_at "dl";simp only[i4];walk_at "fl";rw[atP p.1 (by lia)];simp only[v0l,o0h];walk_at "fl";refine ⟨by rw[k1v,k1v,h1c];lia,l _ _ ⟨?_,rfl⟩⟩;rw[g1m,o,j1z,j1z];rfl
    .rintro a j ⟨rfl,rfl⟩;rw[k1v,h1z,y7];refine ⟨⟨by rw[k1v];lia,λn hn=>?_⟩,?_⟩
     .let ⟨k,o,rfl⟩:=j1u.mp hn;have p:=e3 k o;have hm:g.getD k.toNat default∈g:=by
       rw[k1r,k1u (show k.toNat<g.length by lia)];exact i1t _
      have:=B _ hm;lia
     .unfold y0x at b;rw[O0 u]at b;exact b
   cases d<;>first |(cases e1;done)|skip
   all_goals
    cases e1;simp only[G0];split
    .have F:=nil.mp (by lia);unfold y0x at b;rw[H0 F]at b;exact b
    .rename_i h0;simp only[i4];walk_at "fl";exact m _ (λz=>h0 (by have:=nil.mpr z;lia))
def i0c(ws:List Int)(r:Int):Int:=ws.getD (r%(ws.length:Int)).toNat 0
def w1n(r:Int)(h:0<ws.length):atI (ws.map D.int) (r%((ws.map D.int).length:Nat))=some (.int (i0c ws r)):=by
 rw[k1v];have a:=g1g r (b:=(ws.length:Int)) (by lia);have c:=h1a r (b:=(ws.length:Int)) (by lia);unfold i0c;generalize r%(ws.length:Int)=z at a c;have hz:z=((z.toNat:Nat):Int):=by lia
 rw[hz,v0f (v:=D.int (ws.getD z.toNat 0))]
 .rfl
 .rw[k1h,k1u (show z.toNat<ws.length by lia),k1r,k1u (show z.toNat<ws.length by lia)];rfl
def w1m(cs:Cs):Sp2:=λds δ q _=>∃full mark ws price r,ds=[o0h cs full mark ws price,.int r]/\0<ws.length/\q (.int (i0c ws r)) δ
def t0d(cs:Cs):Sp2:=λds δ q _=>∃full mark ws price d,ds=[o0h cs full mark ws price,d]/\o5 d=true/\q (.bl (j4 d mark full)) δ
def w0z(cs:Cs):Sp2:=λds δ q x=>∃d,ds=[d]/\o5 d=true/\(j4 d 0 47=true->q .non δ)/\(j4 d 0 47=false->x cs.NoRounds [] δ)
abbrev c0v:List Str:=["part","round_number"]
def l1o:zz2 ["part","round_number"] c0v (zz0 w1x):=(by walk_at "k7")
abbrev w1l(P:V0)(w:T0)(K:Fg)(mg:Str->Option Z0)(base:J0)(cs:Cs):Prop:=Fun2 P w K mg base "loss" 2 c0v (w1m cs)
def l1n(Df:zy4 K mg "loss" w1x c0v f fd)(T:Txt K mg cs):w1l P w K mg base cs:=by
 walk_at "= l1o (0]^_F8#&2jk#)?wxGy!F8#&$"
 .let ⟨full,mark,ws,price,r,rfl,a,b⟩:=h;rfl
 .let ⟨full,mark,ws,price,r,rfl,a,b⟩:=h;rw[show o4 ["part","round_number"] _=[.val _,.val _]from rfl];walk_at "dl"
  (try simp only[o0h];walk_at "fl")
  exact ⟨by rw[k1v];lia,by rw[w1n r a];exact b⟩
abbrev v0u:List Str:=["part","thing"]
def g0d:zz2 ["part","thing"] v0u (zz0 s0s):=(by walk_at "k7")
abbrev r0v(P:V0)(w:T0)(K:Fg)(mg:Str->Option Z0)(base:J0)(cs:Cs):Prop:=Fun2 P w K mg base "is_stand" 3 v0u (t0d cs)
def g0c(Df:zy4 K mg "is_stand" s0s v0u f fd)(T:Txt K mg cs)(zy7:o7 P w K mg base cs):r0v P w K mg base cs:=by
 walk_at "= g0d (0.l,-!#)!F8#&!F8#&$"
 .let ⟨full,mark,ws,price,d,rfl,hd,a⟩:=h;rfl
 .let ⟨full,mark,ws,price,d,rfl,hd,a⟩:=h;rw[show o4 ["part","thing"] _=[.val _,.val _]from rfl];walk_at "dl"
  (try simp only[o0h];walk_at "fl")
  exact ⟨hd,a⟩
abbrev y9:List Str:=["first"]
def o0g:zz2 ["first"] y9 (zz0 z0e):=(by walk_at "k7")
abbrev y0v(P:V0)(w:T0)(K:Fg)(mg:Str->Option Z0)(base:J0)(cs:Cs):Prop:=Fun2 P w K mg base "check_first" 3 y9 (w0z cs)
def o0f(Df:zy4 K mg "check_first" z0e y9 f fd)(T:Txt K mg cs)(zy7:o7 P w K mg base cs):y0v P w K mg base cs:=by
 walk_at "= o0g (:JK.l,-!#&!'!YH~~$(?~%-n~o~J~;"
 .let ⟨d,rfl,hd,a,hx⟩:=h;rfl
 .let ⟨d,rfl,hd,a,hx⟩:=h;walk_at "dl";refine ⟨hd,?_⟩;cases e:j4 d 0 47 with
  |true=>exact a e
  |false=>exact hx e
def y0u:List zy3->List D->Bool
 | [],[]=>true
 |p::ps,d::ds=>j4 d p.mark p.full&&y0u ps ds
 |_,_=>false
def b6(ps:List zy3)(d:D):Bool:=match zp6 d with |none=>false |some xs=>y0u ps xs
theorem p0b:∀(ps:List zy3) (xs:List D),xs.length=ps.length->((List.range ps.length).map λi=>j4 (xs.getD i .non) (ps.getD i default).mark (ps.getD i default).full).all id=y0u ps xs
 | [],[],_=>rfl
 | [],_::_,h=>by simp at h
 |_::_,[],h=>by simp at h
 |p::ps,x::xs,h=>by
  have a:=p0b ps xs (by simpa using h);rw[k1k,h1g,k1l,i1n,i1j];unfold y0u;rw[<-a];rfl
theorem p0a:∀(ps:List zy3) (xs:List D),xs.length≠ps.length->y0u ps xs=false
 | [],[],h=>absurd rfl h
 | [],_::_,_=>rfl
 |_::_,[],_=>rfl
 |p::ps,x::xs,h=>by unfold y0u;rw[p0a ps xs (by simpa using h),c1f]
def r0u(cs:Cs):Sp2:=λds δ q _=>∃ps call shut d,ds=[i4 cs ps call shut,d]/\u5 d=true/\ps.length<=4/\q (.bl (b6 ps d)) δ
def y0t(cs:Cs):Sp2:=λds δ q x=>∃ps call shut d,ds=[i4 cs ps call shut,d]/\u5 d=true/\ps.length<=4/\(b6 ps d=true->q .non δ)/\(b6 ps d=false->x cs.NoStands [] δ)
abbrev y0s:List Str:=["works","thing"]
def i0b:zz2 ["works","thing"] y0s (zz0 u0w):=(by walk_at "k7")
abbrev u0l(P:V0)(w:T0)(K:Fg)(mg:Str->Option Z0)(base:J0)(cs:Cs):Prop:=Fun2 P w K mg base "is_stands" 4 y0s (r0u cs)
def i0a(Df:zy4 K mg "is_stands" u0w y0s f fd)(T:Txt K mg cs)(zu2:t0l P w K mg base cs)(zr9:r0v P w K mg base cs):u0l P w K mg base cs:=by
 walk_at "= i0b +:'~6~JK.H~,-!#)$7~@I~~PJ~~U)G?wxGy!F8#&$=(08~;(0?9~%:~;~<~!N%BK~~`%L~~M~~!F8#&!#)$Aa%C3/&*%4C3/)*%4bK~mL~%9Q9.N~~,u!#&!#)$$"
 .let ⟨c,call,shut,d,rfl,l,C,m⟩:=h;rfl
 .let ⟨c,call,shut,d,rfl,l,C,m⟩:=h;rw[show o4 ["works","thing"] _=[.val _,.val _]from rfl];have F:o5 d=true:=by unfold u5 at l;rw[k1p]at l;exact l.1
  walk_at "dn";simp only[b0l,F,W2];cases e:zp6 d with
  |none=>
   have e1:z0j d=false:=by unfold z0j;rw[e];rfl
   have e2:b6 c d=false:=by unfold b6;rw[e]
   rw[e2]at m;simp only[e1,i1h,N1];exact m
  |some j=>
   have e1:z0j d=true:=by unfold z0j;rw[e];rfl
   have e2:b6 c d=y0u c j:=by unfold b6;rw[e]
   have hx:∀x∈j,o5 x=true:=by
    unfold u5 at l;rw[k1p,e]at l;exact j1l.mp l.2
   rw[e2]at m;simp only[e1,j1i,k1a,K1]
   (try simp only[i4];walk_at "fl")
   have r:j.length=c.length->∀ y:En,zy1 true 2 r0j (r0l (t0d cs) (x0p (t2V 0) (x0p (t2V 1) h0h))) [] y
    (λg v=>match zd6 g with |some bs=>q (D.bl (bs.all id)) v |none=>False) (zW0 (c.map (v0l cs)) j) [] δ:=by
    intro k y;refine d0s (λi g n=>g=(List.range i).map (λi=>D.bl (j4 (j.getD i .non) (c.getD i default).mark (c.getD i default).full))/\n=δ) ⟨rfl,rfl⟩ ?_ ?_
    .rintro i z g n rest hi ⟨rfl,rfl⟩ o;let ⟨a,b,p,B,rfl⟩:=d0x hi;rw[k1h,k1c]at p;let ⟨t,u,rfl⟩:=p;have G:=(k1t.mp u).1;simp only[tgD,k1k,g1t,i1e,Nat.reduceAdd,N1,zu8,k1l,j1r,h1y,i1x];walk_at "dn";refine ⟨t.full,t.mark,t.ws,t.price,b,rfl,hx b (k1m B),?_⟩;refine ⟨by rw[k1v,h1u];lia,o _ _ ⟨?_,rfl⟩⟩;rw[f1h,j1z];have e3:j.getD i .non=b:=by rw[k1r,B];rfl
     have e4:c.getD i default=t:=by rw[k1r,u];rfl
     simp only[k1l,j1r,e3,e4]
    .rintro g n ⟨rfl,rfl⟩;rw[d0w,k1v,k,Nat.min_self,p0h];dsimp only;rw[p0b c j k];exact m
   cases d<;>first |(cases e;done)|skip
   all_goals
    cases e;simp only[k1v];split
    .rename_i p;rw[p0a c j (by lia)]at m;exact m
    .rename_i p;exact r (by lia) _
abbrev l8:List Str:=["works","stands"]
def o0z:zz2 ["works","stands"] l8 (zz0 z0u):=(by walk_at "k7")
abbrev z0q(P:V0)(w:T0)(K:Fg)(mg:Str->Option Z0)(base:J0)(cs:Cs):Prop:=Fun2 P w K mg base "check_stands" 5 l8 (y0t cs)
def o0y(Df:zy4 K mg "check_stands" z0u l8 f fd)(T:Txt K mg cs)(zs2:u0l P w K mg base cs):z0q P w K mg base cs:=by
 walk_at "= o0z (:JK.O~~,-!#&!#)$(?~%-P~~Q~~p~;"
 .let ⟨a,call,shut,d,rfl,b,c,g,hx⟩:=h;rfl
 .let ⟨a,call,shut,d,rfl,b,c,g,hx⟩:=h;walk_at "dn";refine ⟨a,call,shut,d,rfl,b,c,?_⟩;cases e:b6 a d with
  |true=>exact g e
  |false=>exact hx e
def zi1(d:D)(c:List Int):Prop:=d=.tup (c.map D.int)\/d=.lst (c.map D.int)
def zd1(ps:List zy3)(st c:List Int)(r:Int)(i:Nat):Int:=(if (i:Int)∈c then (ps.getD i default).full else st.getD i 0)-i0c (ps.getD i default).ws r
def zw0(ps:List zy3)(st c:List Int)(r:Int):List Int:=(List.range ps.length).map (zd1 ps st c r)
def v0k(ps:List zy3)(bs:List Int):Option Nat:=(List.range ps.length).find? λi=>decide (bs.getD i 0<(ps.getD i default).mark)
def c0u:(zw0 ps st c r).length=ps.length:=by unfold zw0;rw[k1v,h1u]
def l0u(h:i<ps.length):(zw0 ps st c r).getD i 0=zd1 ps st c r i:=by
 unfold zw0;rw[k1r,k1h,List.getElem?_range h];rfl
def w1k{p:Nat->Bool}(h1:∀j<i,p j=false)(c:i<n)(b:p i=true):(List.range n).find? p=some i:=by
 rw[List.find?_eq_some_iff_append];refine ⟨b,List.range i,List.range' (i+1) (n-i-1),?_,λa ha=>by rw[h1 a (f1x.mp ha)];rfl⟩;rw[c1j,c1j,show n=i+(1+(n-i-1))by lia,<- c1i,<- c1i];simp
def w1j{p:Nat->Bool}(h1:∀j<n,p j=false):(List.range n).find? p=none:=by
 rw[g1i];intro x hx;rw[h1 x (f1x.mp hx)];decide
def atN(h:i<ns.length):atI (ns.map D.int) (i:Int)=some (.int (ns.getD i 0)):=by
 have:=atZ (ns:=ns) (z:=(i:Int)) (by lia) (by lia)
 rwa[j1c]at this
def zU3{a:zy3}(h:ps[i]?=some a):ps.getD i default=a:=by rw[k1r,h];rfl
def zw1(c:List Int):D:=.tup (c.map D.int)
def w1i(ps:List zy3):Prop:=ps.length<=4/\∀p∈ps,0<p.ws.length
def l0t(cs:Cs):Sp2:=λds δ q _=>∃ps call sh d c r,ds=[i4 cs ps call sh,d,.int r]/\zi1 d c/\q (.bl (decide (c≠[]/\r∈sh))) δ
def l0s(cs:Cs):Sp2:=λds δ q _=>∃ps call sh st d c r,ds=[i4 cs ps call sh,zw1 st,d,.int r]/\zi1 d c/\w1i ps/\st.length=ps.length/\q (zw1 (zw0 ps st c r)) δ
def l1m:Option Nat->D |some k=>.int (k:Int)|none=>.non
def l0r(cs:Cs):Sp2:=λds δ q _=>∃ps call sh bs,ds=[i4 cs ps call sh,zw1 bs]/\bs.length=ps.length/\q (l1m (v0k ps bs)) δ
abbrev d9:List Str:=["works","choice","round_number"]
def l0q:zz2 ["works","choice","round_number"] d9 (zz0 x0j):=(by walk_at "k7")
abbrev w0y(P:V0)(w:T0)(K:Fg)(mg:Str->Option Z0)(base:J0)(cs:Cs):Prop:=Fun2 P w K mg base "is_shut_to" 2 d9 (l0t cs)
def l0p(Df:zy4 K mg "is_shut_to" x0j d9 f fd)(T:Txt K mg cs):w0y P w K mg base cs:=by
 walk_at "= l0q (0|estU)G'=,~eM~N~#1F8#&%"
 .let ⟨i,call,sh,d,c,r,rfl,hd,e⟩:=h;rfl
 .let ⟨i,call,sh,d,c,r,rfl,hd,e⟩:=h;rw[show o4 ["works","choice","round_number"] _=[.val _,.val _,.val _]from rfl];have e0:decide ((c.length:Int)>0)=decide (c≠[]):=by
   cases c with
   |nil=>rfl
   |cons a c=>simp
  have b:(if decide ((c.length:Int)>0)=true then q (.bl (decide (r∈sh))) δ else q (.bl false) δ):=by
   rw[e0];by_cases g:c≠[]
   .rw[H0 (M0 g)];rw[show decide (c≠[]/\r∈sh)=decide (r∈sh)from decide_eq_decide.mpr ⟨λz=>z.2,λz=>⟨g,z⟩⟩]at e;exact e
   .rw[O0 (by rw[G0];exact g)];rw[show decide (c≠[]/\r∈sh)=false from Q0 (λz=>g z.1)]at e;exact e
  rcases hd with rfl |rfl
  all_goals
   walk_at "dn"
   (try simp only[i4];walk_at "fl")
   simp only[k1v,x0l,p0q,z8,h1p,W2]at b ⊢;simpa only[G0]using b
abbrev d7:List Str:=["works","stands","choice","round_number"]
def q0x:zz2 ["works","stands","choice","round_number","behind","k","part","stand"] d7 (zz0 o9):=(by walk_at "k7")
abbrev l9(P:V0)(w:T0)(K:Fg)(mg:Str->Option Z0)(base:J0)(cs:Cs):Prop:=Fun2 P w K mg base "stands_behind" 3 d7 (l0s cs)
def q0w(Df:zy4 K mg "stands_behind" o9 d7 f fd)(T:Txt K mg cs)(zb3:w1l P w K mg base cs):l9 P w K mg base cs:=by
 walk_at "= q0x +z5*$+ST%O~P~!F8#&$a%C3/>*%4C3/I*%4b0~mq~%+<c*r~@M~N~#>#1%F8#I6)#>(On5opqr!2(~)~#c.R~~,-!#I!#7$$(0VZ[RW!#5$"
 .let ⟨j,call,sh,st,d,c,r,rfl,hd,k,hs,p⟩:=h;rfl
 .let ⟨j,call,sh,st,d,c,r,rfl,hd,k,hs,p⟩:=h;rw[show o4 ["works","stands","choice","round_number","behind","k","part","stand"] _=[.val _,.val _,.val _,.val _,.no,.no,.no,.no]from rfl];have C:=k.1;walk_at "dn"
  (try simp only[i4];walk_at "fl")
  refine m7 (λi l a=>∃own m n o,l=[.val (i4 cs j call sh),.val (zw1 st),.val d,.val (.int r),.own own,m,n,o]/\own=((List.range i).map (zd1 j st c r)).map D.int/\a=δ) ⟨_,_,_,_,rfl,rfl,rfl⟩ ?_ ?_
  .rintro i z l a rest hi ⟨own,m,n,o,rfl,rfl,rfl⟩ b;let ⟨y,t,rfl⟩:=x0n hi;rw[k1h,k1c]at t;let ⟨g,e,rfl⟩:=t;have v:=(k1t.mp e).1;have B:=zU3 e;rw[i1e];unfold y0d;rcases hd with rfl |rfl
   all_goals
    walk_at "dn";simp only[x0l,p0q,z8,h1p,W2,G0];split
    all_goals
     rename_i u;simp only[v0l,o0h,zw1]
     first
      |walk_at "fl"
      |rw[atN (by lia)]
     refine ⟨rfl,g.full,g.mark,g.ws,g.price,r,rfl,k.2 g (k1m e),?_⟩;refine ⟨by rw[k1v,k1v,h1u];lia,b _ _ ⟨_,_,_,_,rfl,?_,rfl⟩⟩;rw[f1h,j1z,j1z];show _++[D.int _]=_++[D.int (zd1 j st c r i)];unfold zd1;rw[B]
     first
      |rw[H0 u]
      |rw[O0 u]
  .rintro l a ⟨own,m,n,o,rfl,rfl,rfl⟩;rw[x0o,k1v];walk_at "dn";exact p
abbrev k8:List Str:=["works","behind"]
def o0x:zz2 ["works","behind","k","part"] k8 (zz0 z0t):=(by walk_at "k7")
abbrev z0p(P:V0)(w:T0)(K:Fg)(mg:Str->Option Z0)(base:J0)(cs:Cs):Prop:=Fun2 P w K mg base "first_fallen" 2 k8 (l0r cs)
def o0w(Df:zy4 K mg "first_fallen" z0t k8 f fd)(T:Txt K mg cs):z0p P w K mg base cs:=by
 walk_at "= o0x +ST%O~P~!F8#&$a%C3/1*%4C3/7*%4b0~mS~~%(:@.~/~6)#1F8#7=(0#1;(0@~"
 .let ⟨c,call,sh,bs,rfl,t,d⟩:=h;rfl
 .let ⟨c,call,sh,bs,rfl,t,d⟩:=h;rw[show o4 ["works","behind","k","part"] _=[.val _,.val _,.no,.no]from rfl];walk_at "dn"
  (try simp only[i4];walk_at "fl")
  refine m7 (λi m a=>∃c2 n,m=[.val (i4 cs c call sh),.val (zw1 bs),c2,n]/\(∀j<i,decide (bs.getD j 0<(c.getD j default).mark)=false)/\a=δ) ⟨_,_,rfl,λj e=>absurd e (g1d _),rfl⟩ ?_ ?_
  .rintro i z m a rest hi ⟨c2,n,rfl,g,rfl⟩ b;let ⟨y,p,rfl⟩:=x0n hi;rw[k1h,k1c]at p;let ⟨u,k,rfl⟩:=p;have o:=(k1t.mp k).1;have r:=zU3 k;rw[i1e];unfold y0d;simp only[zw1,v0l,o0h];walk_at "dn";rw[atN (by lia)];walk_at "fl";by_cases l:bs.getD i 0<u.mark
   .simp only[l,decide_true,N1];have:v0k c bs=some i:=w1k g o (by rw[r];exact M0 l);rw[this]at d;exact d
   .simp only[l,decide_false,k1a,K1];refine b _ _ ⟨_,_,rfl,λj e=>?_,rfl⟩;rcases d1p.mp e with e |rfl
    .exact g j e
    .rw[r];exact Q0 l
  .rintro m a ⟨c2,n,rfl,g,rfl⟩;rw[x0o,k1v]at g;walk_at "dn";have:v0k c bs=none:=w1j g;rw[this]at d;exact d
def d8(p:zy3):D:=p0e p.full p.mark p.ws p.price
def atS{k:Int}(h0:0<=k)(h1:k<(ps.length:Int)):atI (ps.map d8) k=some (d8 (ps.getD k.toNat default)):=by
 have hz:k=((k.toNat:Nat):Int):=by lia
 have a:k.toNat<ps.length:=by lia
 rw[hz,v0f (v:=d8 (ps.getD k.toNat default))]
 .rfl
 .rw[k1h,k1u a,k1r,k1u a];rfl
def zi2(m:Int)(c:List Int):Prop:=(∀k∈c,0<=k/\k<m)/\zj7 c=true/\c.length<=m.toNat
theorem l0o:∀{c:List Int} {m:Int},zj7 c=true->(∀k∈c,k<m)->zj7 (c++[m])=true
 | [],m,_,_=>rfl
 | [a],m,_,h=>by
  show (decide (a<m)&&zj7 [m])=true;rw[M0 (h a (by simp))];rfl
 |a::b::r,m,hr,h=>by
  have d:(decide (a<b)&&zj7 (b::r))=true:=hr;rw[k1p]at d;show (decide (a<b)&&zj7 ((b::r)++[m]))=true;rw[d.1,l0o d.2 λk e=>h k (k1o _ e)];rfl
def q1b{m:Int}(h:zi2 m c)(m0:0<=m)(hd:d=.tup (c.map D.int)\/d=.lst (c.map D.int)):u5 d=true/\zk3 d 0 (m-1)=true/\chD d=c:=by
 have e1:zp6 d=some (c.map D.int):=by rcases hd with rfl |rfl<;>rfl
 have e2:o5 d=true:=by rcases hd with rfl |rfl<;>rfl
 have e4:chD d=c:=by unfold chD;rw[e1];exact c0x c
 refine ⟨by unfold u5;rw[e1,e2,h1p];exact r0z,?_,e4⟩;unfold zk3 t0m;rw[e1];have e5:(c.map D.int).all (j4 · 0 (m-1))=true:=by
  rw[j1l];intro x hx;let ⟨y,a,rfl⟩:=j1u.mp hx;have:=h.1 y a;exact x0a this.1 (by lia)
 have e6:=h.2.2;dsimp only[d1e];rw[c0x,h.2.1,e5,k1v,M0 (by lia),M0 (by lia)];rfl
structure zv0(ps:List zy3)(call:Int)(sh:List Int):Prop where
 l:ps.length<=3
 p:∀p∈ps,POk p
 c:0<=call/\call<=99
 s:zj7 sh=true/\(∀k∈sh,0<=k/\k<48)/\sh.length<=10
def zv0.pr(h:zv0 ps call sh):∀p∈ps,0<=p.price/\p.price<=99:=λp a=>⟨(h.p p a).p1,(h.p p a).p2⟩
def b7(ps:List zy3)(call:Int)(sh:List Int):D:=.tup [.lst (ps.map d8),.int call,.lst (sh.map D.int)]
def l0n:Sp2:=λds δ q _=>∃p ns m,ds=[.ref p,.int 3,.int 6]/\DkB p ns (m+63) δ/\∀ps call sh δ',zv0 ps call sh->DkB p ns m δ'->q (b7 ps call sh) δ'
structure yy6(ps:List zy3):Prop where
 l:ps.length<=3
 p:∀p∈ps,POk p
def lw1:TS2:=λE ρ δ=>∃p ns m,∃ps:List zy3,∃c1 c2 c4 c5 c6,ρ=[.val (.ref p),c1,c2,.val (.lst (ps.map d8)),c4,c5,c6]/\yy6 ps/\DkB p ns (m+14) δ/\∀call sh δ',zv0 ps call sh->DkB p ns m δ'->E.rt (b7 ps call sh) δ'
def lw2:TS2:=λE ρ δ=>∃p ns m,∃ps:List zy3,∃call:Int,∃c1 c2 c5 c6,ρ=[.val (.ref p),c1,c2,.val (.lst (ps.map d8)),.val (.int call),c5,c6]/\yy6 ps/\(0<=call/\call<=99)/\DkB p ns (m+11) δ/\∀call sh δ',zv0 ps call sh->DkB p ns m δ'->E.rt (b7 ps call sh) δ'
def lw3:TS2:=λE ρ δ=>∃p ns m,∃ps:List zy3,∃call low:Int,∃c1 c2 c6,ρ=[.val (.ref p),c1,c2,.val (.lst (ps.map d8)),.val (.int call),.val (.int low),c6]/\yy6 ps/\(0<=call/\call<=99)/\0<=low/\low<=38/\DkB p ns (m+10) δ/\∀call sh δ',zv0 ps call sh->DkB p ns m δ'->E.rt (b7 ps call sh) δ'
abbrev y0r:List Str:=["_law_deck_here","_law_many","_law_most"]
def zp8:zz2 ["_law_deck_here","_law_many","_law_most","_law_specs","_law_call","_law_low","_law_shut"] y0r (zz0 u0t):=(by walk_at "k7")
abbrev u0k(P:V0)(w:T0)(K:Fg)(mg:Str->Option Z0)(base:J0)(cs:Cs):Prop:=Fun2 P w K mg base "_law_works" 6 y0r l0n
def h0z(Df:zy4 K mg "_law_works" u0t y0r f fd)(T:Txt K mg cs)(zz3:q8 P w K mg base cs)(g:s0a P w K mg base cs):u0k P w K mg base cs:=by
 have nd:=zp8.nd;refine zC3 Df zp8 (λds δ q x h=>?_) (λcdv A outer s H E Y hr=>⟨_,(d4 (d0u (i:=3) rfl (zx2.of ["_law_k"] [0,2] rfl) (t0v T.zl9 (l0 (l4 zz3 hr.m w4 (l0 (zx0 0) (l0 (t0b x0m r0h (zx0 1) b3) y4))) y4)) (λnd _ _ _ _ _=>(v0h (i:=0) nd rfl (by walk_at "v2"))) t0u (λ_ _ _ _ _ _=>h0b) (λ_ _ _ _ _ _=>(l4 g hr.m e0e (l0 (zx0 1) (l0 (zx0 2) y4)))) nd)
  (p6 (t':=lw1) (d4 (v7 4 nd (l4 zz3 hr.m w4 (l0 (zx0 0) (l0 b3 y4))))
  (d4 (p0u (i9 (t0t hr.zw4) m0o (l4 zz3 hr.m w4 (l0 (zx0 0) (l0 b3 y4))) b3 (nomark _)) (y8 (v7 4 nd (l4 zz3 hr.m w4 (l0 (zx0 0) (l0 b3 y4))))) y0f)
  (p6 (t':=lw2) (d4 (v7 5 nd (z1n n0t zO7 (b5 (l0 b3 (l0 b3 (l0 b3 (l0 b3 y4))))) (l4 zz3 hr.m w4 (l0 (zx0 0) (l0 b3 y4)))))
  (p6 (t':=lw3) (d4 (d0u (i:=6) rfl (zx2.of ["_law_number_here"] [5,0] rfl) (t0v T.zl9 (l0 b3 y4)) (λnd _ _ _ _ _=>(v0h (i:=0) nd rfl (by walk_at "v2"))) t0u (λ_ _ _ _ _ _=>(y1k (i9 (t0t hr.zw4) m0o (l4 zz3 hr.m e0e (l0 (zx0 2) (l0 b3 y4))) b3 (nomark _)))) (λ_ _ _ _ _ _=>(t0b x0m r0h (zx0 1) (zx0 0))) nd)
  (y8 (y0e (y0g (l0 (zx0 3) (l0 (zx0 4) (l0 (zx0 6) y4))))))) (by
   rintro E M δ ⟨p,ns,m,o,call,low,c1,c2,N,rfl,v,I,l1,l2,a,t⟩;walk_at "ds";refine ⟨⟨by decide,by decide⟩,?_⟩;refine d0s (λi j n=>∃sh:List Int,j=sh.map D.int/\zj7 sh=true/\(∀k∈sh,0<=k/\k<low+(i:Int))/\sh.length<=i/\DkB p ns (m+(10-i)) n) ⟨[],rfl,rfl,λx hx=>(nomatch hx),k1q _,a⟩ ?_ ?_
   .rintro i d j n rest hi ⟨sh,rfl,u,b,G,a⟩ c;let ⟨y,rfl⟩:=h9 hi;simp only[tgD,zu8,k9,k1l,j1r,j1v,j1w,h1y,i1x];walk_at "ds";refine tk (m:=m+(10-(i+1))) (a.mono (by lia)) (by decide) (by decide) λx0 O x1 x2 a=>?_
    walk_at "ds";split
    .refine ⟨by rw[k1v];lia,c _ _ ⟨sh++[low+(0+(i:Int))],by rw[j1z];rfl,l0o u (λk r=>by have:=(b k r).2;lia),λk r=>?_,by rw[k1b];show sh.length+1<=_;lia,a⟩⟩;rcases j1g.mp r with r |r
     .exact ⟨(b k r).1,by have:=(b k r).2;lia⟩
     .rw[k1d.mp r];lia
    .exact c _ _ ⟨sh,rfl,u,λk r=>⟨(b k r).1,by have:=(b k r).2;lia⟩,by lia,a⟩
   .rintro j n ⟨sh,rfl,u,b,G,a⟩;have J:(zc6 0 (Int.toNat 10)).length=10:=a8;walk_at "ds";exact t call sh _ ⟨v.l,v.p,I,u,λk r=>⟨(b k r).1,by have:=(b k r).2;lia⟩,by lia⟩ a))) (by
   rintro E M δ ⟨p,ns,m,o,call,c1,c2,Q,N,rfl,v,I,a,t⟩;walk_at "ds";refine tk (m:=m+10) a (by decide) (by decide) λF L R S a=>?_
   walk_at "ds";obtain ⟨low,e,l1,l2⟩:∃low:Int,atI [D.int 0,.int 10,.int 20,.int 38] F=some (.int low)/\0<=low/\low<=38:=by
    have:F=0\/F=1\/F=2\/F=3:=by lia
    rcases this with rfl |rfl |rfl |rfl<;>exact ⟨_,rfl,by decide,by decide⟩
   rw[e];exact ⟨p,ns,m,o,call,low,_,_,_,rfl,v,I,l1,l2,a,t⟩)))) (by
   rintro E M δ ⟨p,ns,m,o,c1,c2,c4,Q,N,rfl,v,a,t⟩;walk_at "ds";refine tk (m:=m+13) a (by decide) (by decide) λz0 U z1 z2 a=>?_
   walk_at "ds";refine tk (m:=m+12) a (by decide) (by decide) λF L R S a=>?_
   walk_at "ds";split
   .refine tk (m:=m+11) a (by decide) (by decide) λV W X u2 a=>?_
    walk_at "ds";exact ⟨p,ns,m,o,V,_,_,_,_,rfl,v,⟨X,by lia⟩,a,t⟩
   .exact ⟨p,ns,m,o,z0,_,_,_,_,rfl,v,⟨z1,by lia⟩,a.mono (by lia),t⟩))),λds δ q x h=>?_⟩)
 .let ⟨p,ns,m,rfl,a,t⟩:=h;rfl
 .let ⟨p,ns,m,rfl,a,t⟩:=h;rw[show o4 ["_law_deck_here","_law_many","_law_most","_law_specs","_law_call","_law_low","_law_shut"] _=[.val _,.val _,.val _,.no,.no,.no,.no]from rfl];walk_at "ds";refine tk (m:=m+62) a (by decide) (by decide) λm0 Z m1 m2 a=>?_
  walk_at "ds";refine ⟨⟨by lia,by lia⟩,?_⟩;refine z9 (λi j n=>∃o:List zy3,j=o.map d8/\o.length=i/\(∀p∈o,POk p)/\DkB p ns (m+14+16*(3-i)) n) ⟨[],rfl,rfl,λx hx=>(nomatch hx),a⟩ ?_ ?_
  .rintro i d j n rest hi ⟨o,rfl,B,C,a⟩ c;let ⟨y,rfl⟩:=h9 hi;simp only[zu8,k9,k1l,j1r,j1v,j1w];walk_at "ds";refine ⟨p,ns,m+14+16*(3-(i+1)),rfl,a.mono (by lia),λfull mark ws price aa h a=>?_⟩;refine ⟨by rw[k1v];lia,c _ _ ⟨o++[⟨full,mark,ws,price⟩],by rw[j1z];rfl,by rw[k1b,B];rfl,λz hz=>?_,a⟩⟩;rcases j1g.mp hz with hz |hz
   .exact C z hz
   .rw[k1d.mp hz];exact h
  rintro j n ⟨o,rfl,B,C,a⟩;rw[a8]at B;exact ⟨p,ns,m,o,_,_,_,_,_,rfl,⟨by lia,C⟩,a.mono (by lia),t o⟩
def l0m(cs:Cs)(ps:List zy3):D:=.lst (ps.map (v0l cs))
def c0t{cs:Cs}(h:ps.length<=4):t0j cs (l0m cs ps)=true/\∀x∈(zp6 (l0m cs ps)).getD [],zB7 cs x=true:=by
 constructor
 .unfold t0j l0m zp6;dsimp only;rw[k1v,M0 (by lia),h1p,j1l];intro x hx;let ⟨p,_,rfl⟩:=j1u.mp hx;exact M0 rfl
 .intro x hx;let ⟨p,_,rfl⟩:=j1u.mp hx;exact M0 rfl
def w1h(cs:Cs):Sp2:=λds δ q _=>∃ps call sh,ds=[b7 ps call sh]/\zv0 ps call sh/\q (i4 cs ps call sh) δ
theorem c0s:∀{a b:List Int},zg7 (a.map D.int) (b.map D.int)=true->a=b
 | [],[],_=>rfl
 | [],_::_,h=>nomatch h
 |_::_,[],h=>nomatch h
 |x::a,y::b,h=>by
  have h:(x==y&&zg7 (a.map D.int) (b.map D.int))=true:=h;rw[k1p]at h;rw[eq_of_beq h.1,c0s h.2]
def l1l(p q:zy3):∃b,zW2 [.int p.full,.int p.mark,.tup (p.ws.map D.int),.int p.price] [.int q.full,.int q.mark,.tup (q.ws.map D.int),.int q.price]=some b/\(b=true->p=q):=by
 refine ⟨(p.full==q.full)&&((p.mark==q.mark)&&(zg7 (p.ws.map D.int) (q.ws.map D.int)&&((p.price==q.price)&&true))),?_,fun h=>?_⟩
 .simp only[zW2,eqR,x0l,z8,Bool.and_true,N1];rfl
 .rw[k1p,k1p,k1p,Bool.and_true]at h;let ⟨h1,h2,h3,h4⟩:=h;let ⟨a,b,c,d⟩:=p;let ⟨a',b',c',d'⟩:=q;cases eq_of_beq h1;cases eq_of_beq h2;cases c0s h3;cases eq_of_beq h4;rfl
abbrev v0t:List Str:=["_law_told_here"]
def g0b:zz2 ["_law_told_here","_law_made_here"] v0t (zz0 s0h):=(by walk_at "k7")
abbrev r0t(P:V0)(w:T0)(K:Fg)(mg:Str->Option Z0)(base:J0)(cs:Cs):Prop:=Fun2 P w K mg base "_law_made" 8 v0t (w1h cs)
def g0a(Df:zy4 K mg "_law_made" s0h v0t f fd)(T:Txt K mg cs)(zq0:r0y P w K mg base cs)(zt0:zm5 P w K mg base "Works" 6 (z0r cs)):r0t P w K mg base cs:=by
 walk_at "= g0b +T~~/)%BQ~`%H6&'A3/&*%4L9Q9.U~~,u!#&$*+:'~s~@stU)G'=t~@V~~*~W~~]^_6&'']^_6&''=(G~)'6)';(0h~X~~,-!#)!6&'!6&'$"
 .let ⟨a,call,sh,rfl,h,o⟩:=h;rfl
 .let ⟨a,call,sh,rfl,h,o⟩:=h;rw[show o4 ["_law_told_here","_law_made_here"] _=[.val _,.no]from rfl];let ⟨e,j⟩:=c0t (cs:=cs) (j1o h.l (by decide));unfold l0m at e;have hr:=q1b (m:=48) (d:=.lst (sh.map D.int)) ⟨h.s.2.1,h.s.1,j1o h.s.2.2 (by decide)⟩ (by decide) (.inr rfl);have g:zk3 (.lst (sh.map D.int)) 0 47=true:=hr.2.1;have fin:z0r cs [.lst (a.map (v0l cs)),.int call,.lst (sh.map D.int)] δ q x:=by
   refine ⟨by rw[hr.1];rfl,j,?_⟩;rw[H0 e,H0 (x0a h.c.1 h.c.2),H0 g];exact o
  unfold b7;walk_at "dn";have r:=h.l;refine w0h d8 (v0l cs) a (by lia) (λi k Q t=>?_) ?_
  .simp only[zu8,k9,k1l,j1r,j1v,j1w];walk_at "dn";exact ⟨i.full,i.mark,i.ws,i.price,rfl,h.p i k,t⟩
  rw[k1v];by_cases n:(a.length:Int)>1
  .rw[H0 n]
   match a,n with
   |u::p1::a,_=>
    let ⟨b,v,y⟩:=l1l p1 u;simp only[k1l,j1v,j1w,d8,p0e,v];cases b with
    |false=>exact fin
    |true=>
     cases y rfl;exact fin
  .rw[O0 n];exact fin
def okZ(ps:List zy3)(sh:List Int)(c:List Int)(r:Int)(st:List Int):Prop:=¬(c≠[]/\r∈sh)/\v0k ps (zw0 ps st c r)=none
structure WS(ps:List zy3)(call:Int)(sh:List Int):Prop where
 l:ps.length<=3
 p:∀p∈ps,POk p
 c:0<=call/\call<=99
structure StZ(ps:List zy3)(st:List Int):Prop where
 l:st.length=ps.length
 b:∀i,i<ps.length->(ps.getD i default).mark<=st.getD i 0/\st.getD i 0<=(ps.getD i default).full
def y0q(cs:Cs):Sp2:=λds δ q x=>∃f r,ds=[f,r]/\o5 f=true/\o5 r=true/\(j4 f 0 47=true->j4 r 0 24=true->q .non δ)/\(j4 f 0 47=false\/j4 r 0 24=false->x cs.NoRounds [] δ)
def rdK:D->Int
 | .int r=>if r>8 then 8 else 0
 |_=>0
def y0b(ps:List zy3)(sd fd rd:D):Int:=if b6 ps sd=false then 1 else if j4 fd 0 47=false\/j4 rd 0 24=false then 2 else if 3<ps.length then 3 else if (ps.any λp=>decide (p.full>6))=true then 6 else rdK rd
def Szs(cs:Cs)(x:X0->List (Str×D)->Dk->Prop)(δ:Dk)(k:Int)(A:Prop):Prop:=(k=0->A)/\(k=1->x cs.NoStands [] δ)/\(k=2->x cs.NoRounds [] δ)/\(3<=k->x cs.TooGreat [("most",.int k)] δ)
structure zb5(ps:List zy3)(sd fd rd:D):Prop where
 s:u5 sd=true
 f:o5 fd=true
 r:o5 rd=true
 l:ps.length<=4
def w1g(cs:Cs):Sp2:=λds δ q x=>∃ps call sh sd fd rd,ds=[i4 cs ps call sh,sd,fd,rd]/\zb5 ps sd fd rd/\Szs cs x δ (y0b ps sd fd rd) (q .non δ)
def l0l{fd:D}(h:b6 ps sd=false):y0b ps sd fd rd=1:=H0 h
def l0k{fd:D}(h:b6 ps sd=true)(a:j4 fd 0 47=false\/j4 rd 0 24=false):y0b ps sd fd rd=2:=by
 unfold y0b;rw[O0 (by rw[h];decide),H0 a]
def o0v{fd:D}(h:b6 ps sd=true)(a:j4 fd 0 47=true)(b:j4 rd 0 24=true):y0b ps sd fd rd=if 3<ps.length then 3 else if (ps.any λp=>decide (p.full>6))=true then 6 else rdK rd:=by
 unfold y0b;rw[O0 (by rw[h];decide),O0 (by rw[a,b];decide)]
abbrev j8:List Str:=["first","rounds"]
def o0u:zz2 ["first","rounds"] j8 (zz0 z0v):=(by walk_at "k7")
abbrev z0o(P:V0)(w:T0)(K:Fg)(mg:Str->Option Z0)(base:J0)(cs:Cs):Prop:=Fun2 P w K mg base "check_rounds" 4 j8 (y0q cs)
def o0t(Df:zy4 K mg "check_rounds" z0v j8 f fd)(T:Txt K mg cs)(zu3:y0v P w K mg base cs)(zy7:o7 P w K mg base cs):z0o P w K mg base cs:=by
 walk_at "= o0u +O.Y~~,-!#&$(:JK.l,-!#)!'!YZ~~$(?~%-n~o~J~;"
 .let ⟨d,r,rfl,b,a,c,hx⟩:=h;rfl
 .let ⟨d,r,rfl,b,a,c,hx⟩:=h;walk_at "dl";refine ⟨_,rfl,b,λe1=>?_,λe1=>hx (.inl e1)⟩;refine ⟨a,?_⟩;cases e:j4 r 0 24 with
  |true=>exact c e1 e
  |false=>exact hx (.inr e)
def l1k(d:∀p∈ps,POk p)(h:StZ ps st)(hs:zi1 sd st):b6 ps sd=true/\u5 sd=true:=by
 have e1:zp6 sd=some (st.map D.int):=by rcases hs with rfl |rfl<;>rfl
 have e2:o5 sd=true:=by rcases hs with rfl |rfl<;>rfl
 refine ⟨?_,by unfold u5;rw[e1,e2,h1p];exact r0z⟩;unfold b6;rw[e1];show y0u ps (st.map D.int)=true;let ⟨b,c⟩:=h;clear e1 e2 hs d
 induction st generalizing ps with
 |nil=>
  cases ps with
  |nil=>rfl
  |cons p ps=>cases b
 |cons a st e=>
  cases ps with
  |nil=>cases b
  |cons p ps=>
   have h0:=c 0 (d1d _);have h0:p.mark<=a/\a<=p.full:=h0;have:=e (ps:=ps) (c1s b) λi hi=>c (i+1) (Nat.succ_lt_succ hi)
   show (j4 (.int a) p.mark p.full&&y0u ps (st.map D.int))=true;rw[x0a h0.1 h0.2,this];rfl
abbrev b9:List Str:=["works","stands","first","rounds"]
def l0j:zz2 ["works","stands","first","rounds"] b9 (zz0 x0i):=(by walk_at "k7")
abbrev w0x(P:V0)(w:T0)(K:Fg)(mg:Str->Option Z0)(base:J0)(cs:Cs):Prop:=Fun2 P w K mg base "check_size" 6 b9 (w1g cs)
def l0i(Df:zy4 K mg "check_size" x0i b9 f fd)(T:Txt K mg cs)(zv4:z0q P w K mg base cs)(zv5:z0o P w K mg base cs)(zr5:MkE P w K mg base "TooGreat" cs.TooGreat 1 ["self","most"] (zf6 cs.TooGreat "most")):w0x P w K mg base cs:=by
 walk_at "= l0j +O.[~~,-!#&!#)$+O.]~~,-!#1!#7$+:@st?wxGy!F8#&$Yu~=(X%-R~,!Yu~$;+:K?^~~%_~~`~~a~~!N%Bb~~`%HF8#&A3/&*%4L9Q9estF8#&Yv~=$(X%-R~,!Yv~$;(:@st#7Yw~=(X%-R~,!Yw~$;"
 .let ⟨c,call,sh,i,fd,rd,rfl,ho,h0,j,k,d⟩:=h;rfl
 .let ⟨c,call,sh,i,fd,rd,rfl,ho,h0,j,k,d⟩:=h;rw[show o4 ["works","stands","first","rounds"] _=[.val _,.val _,.val _,.val _]from rfl];have n:=ho.l;walk_at "dn";refine ⟨c,call,sh,i,rfl,ho.s,n,λe1=>?_,λe1=>j (l0l e1)⟩;refine ⟨fd,rd,rfl,ho.f,ho.r,λe2 e3=>?_,λe2=>k (l0k e1 e2)⟩;have b:=o0v e1 e2 e3;walk_at "dn"
  (try simp only[i4];walk_at "fl")
  rw[k1v];by_cases m:3<c.length
  .rw[H0 m]at b;rw[H0 (by lia)];exact b▸d (by lia)
  rw[O0 m]at b;rw[O0 (by lia)];refine w0h (v0l cs) (λp=>.bl (decide (p.full>6))) c (by lia) (λp u Q o=>?_) ?_
  .simp only[v0l,o0h,zu8,j1r];walk_at "dn";walk_at "fl";exact o
  .have e:∀l:List zy3,zd6 (l.map λp=>D.bl (decide (p.full>6)))=some (l.map λp=>decide (p.full>6)):=by
    intro l
    induction l with
    |nil=>rfl
    |cons a l t=>rw[k1l,zd6,t];rfl
   rw[e];dsimp only;rw[List.any_map];by_cases g:(c.any λp=>decide (p.full>6))=true
   .rw[H0 g]at b;rw[H0 (by exact g)];exact b▸d (by lia)
   rw[O0 g]at b;rw[O0 (by exact g)];let ⟨r,rfl,v,y⟩:=v0y e3;dsimp only[rdK]at b ⊢;by_cases r8:r>8
   .rw[H0 r8]at b ⊢;exact b▸d (by lia)
   .rw[O0 r8]at b ⊢;exact h0 b
theorem q1a:∀{c:List Int},zj7 c=true->c.Pairwise (·<·)
 | [],_=>.nil
 | [a],_=>d1k _ _
 |a::b::r,h=>by
  have d:(decide (a<b)&&zj7 (b::r))=true:=h;rw[k1p,G0]at d;have e:=q1a d.2;refine f1g.mpr ⟨λz hz=>?_,e⟩;rcases j1n.mp hz with rfl |hz
  .exact d.1
  .exact Int.lt_trans d.1 ((f1g.mp e).1 z hz)
def chs:Nat->List (List Int)
 | 0=>[[]]
 |k+1=>chs k++(chs k).map (·++[(k:Int)])
theorem u0j:∀k,(chs k).length=2^k
 | 0=>rfl
 |k+1=>by unfold chs;rw[k1b,k1v,u0j k,d1z];lia
theorem q0f:∀k,(chs k)[0]?=some []
 | 0=>rfl
 |k+1=>by unfold chs;rw[j1q (k1t.mp (q0f k)).1];exact q0f k
theorem h0y:∀k,∀c∈chs k,zi2 (k:Int) c
 | 0,c,h=>by
  have h:c∈[[]]:=h;rw[k1d.mp h];exact ⟨λk e=>(nomatch e),rfl,j1e _⟩
 |k+1,c,h=>by
  unfold chs at h;rcases j1g.mp h with h |h
  .let ⟨a,b,f⟩:=h0y k c h;exact ⟨λz hz=>⟨(a z hz).1,by have:=(a z hz).2;lia⟩,b,by lia⟩
  .let ⟨d,h0,rfl⟩:=j1u.mp h;let ⟨a,b,f⟩:=h0y k d h0;refine ⟨λz hz=>?_,l0o b λz hz=>(a z hz).2,by rw[k1b];show d.length+1<=_;lia⟩;rcases j1g.mp hz with hz |hz
   .exact ⟨(a z hz).1,by have:=(a z hz).2;lia⟩
   .rw[k1d.mp hz];lia
theorem l0h:∀(k:Nat) (c:List Int),c.Pairwise (·<·)->(∀z∈c,0<=z/\z<(k:Int))->c∈chs k
 | 0,c,_,b=>by
  cases c with
  |nil=>exact k1d.mpr rfl
  |cons a c=>have:=b a (k1g ..);lia
 |k+1,c,d,b=>by
  unfold chs;rcases List.eq_nil_or_concat c with rfl |⟨f,x,rfl⟩
  .exact i1s _ (l0h k [] .nil λz hz=>nomatch hz)
  .rw[List.concat_eq_append]at d b ⊢;let ⟨p1,_,g⟩:=e1r.mp d;have hx:=b x (j1s _ (k1d.mpr rfl));by_cases e:x=(k:Int)
   .subst e;exact j1s _ (j1u.mpr ⟨f,l0h k f p1 λz hz=>⟨(b z (i1s _ hz)).1,g z hz _ (k1d.mpr rfl)⟩,rfl⟩)
   .refine i1s _ (l0h k _ d λz hz=>⟨(b z hz).1,?_⟩);rcases j1g.mp hz with h |h
    .have:=g z h x (k1d.mpr rfl);lia
    .rw[k1d.mp h];lia
def w1f{k:Nat}:c∈chs k↔zi2 (k:Int) c:=⟨h0y k c,λh=>l0h k c (q1a h.2.1) h.1⟩
def u0i(cs:Cs):Sp2:=λds δ q _=>∃ps call sh,∃r:Int,ds=[i4 cs ps call sh,.int r]/\ps.length<=3/\sh.length<=48/\∀css:List (List Int),css.Perm ((chs ps.length).filter λc=>!decide (c≠[]/\r∈sh))->q (.lst (css.map zw1)) δ
abbrev a9:List Str:=["works","round_number"]
def l0g:zz2 ["works","round_number","choices","k"] a9 (zz0 x0h):=(by walk_at "k7")
abbrev w0w(P:V0)(w:T0)(K:Fg)(mg:Str->Option Z0)(base:J0)(cs:Cs):Prop:=Fun2 P w K mg base "choices_in" 3 a9 (u0i cs)
def l0f(Df:zy4 K mg "choices_in" x0h a9 f fd)(T:Txt K mg cs)(zt1:w0y P w K mg base cs):w0w P w K mg base cs:=by
 walk_at "= l0g +<1*A~!M$$+ST%S~-~!?wxGy!F8#&$$3/7*%4{/7(<1*2DE#1N%Bx~c~~%H#1A3/&*%4L9Q92DE#&M!#)$(0?y~B~z~C~{~!N%Bx~L~%H#1A3/&*%4L9|~JK.d~~,u!#)!#&!#1$9#&$"
 .let ⟨b,call,sh,r,rfl,t,m,u⟩:=h;rfl
 .let ⟨b,call,sh,r,rfl,t,m,u⟩:=h;rw[show o4 ["works","round_number","choices","k"] _=[.val _,.val _,.no,.no]from rfl];walk_at "dn"
  (try simp only[i4];walk_at "fl")
  rw[k1v];refine ⟨⟨by lia,by lia⟩,?_⟩;rw[j1c];refine m7 (λi n g=>∃o,n=[.val (i4 cs b call sh),.val (.int r),.val (.lst ((chs i).map zw1)),o]/\g=δ/\i<=b.length) ⟨_,rfl,rfl,j1e _⟩ ?_ ?_
  .rintro i d n g rest hi ⟨o,rfl,rfl,y⟩ j;let ⟨z,rfl⟩:=h9 hi;have k:(chs i).length<=4:=by rw[u0j];exact j1o (i1a (by decide) (show i<=2 by lia)) (by decide)
   unfold y0d;walk_at "dn";refine w0h zw1 (λc=>zw1 (c++[(i:Int)])) (chs i) (by lia) (λc v Q B=>?_) ?_
   .have C:=(h0y i c v).2.2;simp only[zu8,k9,k1l,j1r,j1v,j1w,zw1];walk_at "dn";refine ⟨by rw[k1v];lia,?_⟩;have e:c.map D.int++[.int (0+(i:Int))]=(c++[(i:Int)]).map D.int:=by rw[j1z,c1r];rfl
    rw[e];exact B
   .refine ⟨by simp only[k1v];lia,?_⟩;rw[show (chs i).map zw1++(chs i).map (λc=>zw1 (c++[(i:Int)]))=(chs (i+1)).map zw1 from by rw[chs,j1z,i1j];rfl];exact j _ _ ⟨_,rfl,rfl,by lia⟩
  rintro n g ⟨o,rfl,rfl,_⟩;rw[a8];have k:(chs b.length).length<=8:=by rw[u0j];exact j1o (i1a (by decide) t) (by decide)
  walk_at "dn";refine w0g zw1 zw1 (λc=>!decide (c≠[]/\r∈sh)) (chs b.length) (by show 0+_<=_;lia) (λc v Q F G=>⟨_,rfl,?_⟩) ?_
  .simp only[zu8,k9,k1l,j1r,j1v,j1w,h1y,i1x];walk_at "dn";refine ⟨b,call,sh,_,c,r,rfl,.inl rfl,?_⟩;cases e:decide (c≠[]/\r∈sh)with
   |true=>exact G (by rw[e];rfl)
   |false=>exact F (by rw[e];rfl)
  .rw[i1x];have I:((chs b.length).filter λc=>!decide (c≠[]/\r∈sh)).length<=8:=j1o (g1b _ _) k;have hz:=q0f b.length;have h0:((chs b.length).filter λc=>!decide (c≠[]/\r∈sh))[0]?=some []:=by
    cases e:chs b.length with
    |nil=>rw[e]at hz;cases hz
    |cons a l=>rw[e]at hz;cases hz;rfl
   unfold n1d;refine ⟨by rw[k1v];lia,λx hx=>?_,λx hx=>?_,λJ py=>?_⟩
   .let ⟨c,_,rfl⟩:=j1u.mp hx;exact ⟨c,rfl⟩
   .rw[k1h,h0]at hx;cases hx;rfl
   .let ⟨p,p1,rfl⟩:=STB.zu1 py _ rfl;exact u p p1
def h0x(ps:List zy3)(call:Int)(st:List Int)(r:Int)(c:List Int):D:=.tup [zw1 c,.int (y0x ps call c),zw1 (zw0 ps st c r)]
def l1j:(zw0 ps st c r).length=ps.length:=by unfold zw0;rw[k1v,h1u]
def f0z(cs:Cs):Sp2:=λds δ q _=>∃ps call sh st,∃r:Int,ds=[i4 cs ps call sh,zw1 st,.int r]/\WS ps call sh/\st.length=ps.length/\sh.length<=48/\∀css:List (List Int),(∀c,c∈css↔zi2 (ps.length:Int) c/\okZ ps sh c r st)->css.length<=8->q (.lst (css.map (h0x ps call st r))) δ
abbrev z0z:List Str:=["works","stands","round_number"]
def l0e:zz2 ["works","stands","round_number","steps","choice","behind"] z0z (zz0 x0g):=(by walk_at "k7")
abbrev w0v(P:V0)(w:T0)(K:Fg)(mg:Str->Option Z0)(base:J0)(cs:Cs):Prop:=Fun2 P w K mg base "steps_from" 8 z0z (f0z cs)
def l0d(Df:zy4 K mg "steps_from" x0g z0z f fd)(T:Txt K mg cs)(zt2:w0w P w K mg base cs)(zw9:l9 P w K mg base cs)(zv6:z0p P w K mg base cs)(zn8:p0c P w K mg base cs):w0v P w K mg base cs:=by
 walk_at "= l0e +z7*$+ST%H.e~~,-!#&!#1$3/5*%4{/5+<>*.f~~,-!#&!#)!#5!#1$(:@g~~h~~.i~~,-!#&!#>$@~=(On7opqr!M!#5!.j~~,-!#&!#5$!#>$$;(0#7"
 .let ⟨b,call,sh,st,r,rfl,h,hs,m,F⟩:=h;rfl
 .let ⟨b,call,sh,st,r,rfl,h,hs,m,F⟩:=h;rw[show o4 ["works","stands","round_number","steps","choice","behind"] _=[.val _,.val _,.val _,.no,.no,.no]from rfl];have G:=h.l;have I:w1i b:=⟨by lia,λp t=>(h.p p t).l1⟩;walk_at "dn";refine ⟨b,call,sh,r,rfl,G,m,λg py=>?_⟩;have v:g.length<=8:=by
   have:=py.length_eq;have n:=g1b (λc=>!decide (c≠[]/\r∈sh)) (chs b.length);rw[u0j]at n;have u:=j1o (i1a (show 0<2 by decide) G) (show 2^3<=8 by decide);lia
  have hm:∀c,c∈g↔zi2 (b.length:Int) c/\¬(c≠[]/\r∈sh):=λc=>by
   rw[py.mem_iff,g1h,w1f,i1m,U3]
  walk_at "dn";refine q1t zw1 g (λi y j=>∃B C,y=[.val (i4 cs b call sh),.val (zw1 st),.val (.int r),.own (((g.take i).filter λc=>(v0k b (zw0 b st c r)).isNone).map (h0x b call st r)),B,C]/\j=δ) ⟨_,_,by simp;exact ⟨rfl,rfl⟩,rfl⟩ ?_ ?_
  .rintro i c y j rest hi ⟨B,C,rfl,rfl⟩ a;have D:=(hm c).mp (k1m hi);have tk:g.take (i+1)=g.take i++[c]:=by rw[e1y,hi];rfl
   unfold y0d;walk_at "dn";refine ⟨b,call,sh,st,_,c,r,rfl,.inl rfl,I,hs,?_⟩;refine ⟨b,call,sh,_,rfl,l1j,?_⟩;rw[tk,List.filter_append,j1z]at a;cases e:v0k b (zw0 b st c r)with
   |none=>
    rw[d1c,H0 (by rw[e];rfl),c1u]at a;let ⟨t1,t2,t3⟩:=q1b (d:=zw1 c) D.1 (by lia) (.inl rfl);simp only[l1m];walk_at "dn";refine ⟨rfl,b,call,sh,_,rfl,t1,by lia,λp t=>⟨(h.p p t).p1,(h.p p t).p2⟩,λ_=>?_,λz=>by rw[t2]at z;cases z⟩;rw[t3];walk_at "dn";refine ⟨?_,a _ _ ⟨_,_,rfl,rfl⟩⟩;rw[k1v];have o:=g1b (λc=>(v0k b (zw0 b st c r)).isNone) (g.take i);rw[h1c]at o;lia
   |some k=>
    rw[d1c,O0 (by rw[e];simp),c1u,j1r,h1s]at a;simp only[l1m];walk_at "dn";exact a _ _ ⟨_,_,rfl,rfl⟩
  .rintro y j ⟨B,C,rfl,rfl⟩;walk_at "dn";rw[h1z];refine F _ (λc=>?_) (j1o (g1b _ _) v);rw[g1h,hm c];constructor
   .rintro ⟨⟨o,n⟩,u⟩;exact ⟨o,n,f1y.mp u⟩
   .rintro ⟨o,n,u⟩;exact ⟨⟨o,n⟩,f1y.mpr u⟩
def l1i{full mark:Int}{price:Int}(h:zm9 full mark ws price)(r:Int):0<=i0c ws r/\i0c ws r<=9:=by
 unfold i0c;rw[k1r];cases e:ws[(r%(ws.length:Int)).toNat]? with
 |none=>exact ⟨by decide,by decide⟩
 |some z=>exact h.w z (k1m e)
def w1e{bs:List Int}(h:v0k ps bs=none){k:Nat}(a:k<ps.length):(ps.getD k default).mark<=bs.getD k 0:=by
 unfold v0k at h;rw[g1i]at h;have:=h k (f1x.mpr a);simpa using this
def zF5{s:List Int}(d:∀z∈ps,POk z)(h:StZ ps s)(e:v0k ps (zw0 ps s c r)=none):StZ ps (zw0 ps s c r):=by
 refine ⟨c0u,λk a=>⟨w1e e a,?_⟩⟩;rw[l0u a];unfold zd1;have f:ps.getD k default=ps[k]:=zU3 (k1u a);have ok:=d _ (i1t a);have b:=h.b k a;have:=(l1i ok r).1;split<;>lia
structure DX(l:List (List Int×D))(g:List Int->D->Prop):Prop where
 nd:(l.map (·.1)).Nodup
 all:∀kv∈l,g kv.1 kv.2
def DX.nil:DX [] g:=⟨List.nodup_nil,λa h=>nomatch h⟩
def DX.mono{g':List Int->D->Prop}(d:DX l g)(h:∀a∈l,g a.1 a.2->g' a.1 a.2):DX l g':=⟨d.nd,λa b=>h a b (d.all a b)⟩
def s1c{v:D}(x:List Int):x∈(zf8 l k v).map (·.1)↔x∈l.map (·.1)\/x=k:=by
 unfold zf8;split
 .rename_i h;have e:(l.map λb=>if b.1=k then (b.1,v)else b).map (·.1)=l.map (·.1):=by
   rw[i1j];apply e1h;intro a _;show (if a.1=k then (a.1,v)else a).1=a.1;split<;>rfl
  rw[e];refine ⟨.inl,λz=>z.elim id λz=>?_⟩;let ⟨b,c,d⟩:=g1n.mp h;exact j1u.mpr ⟨b,c,by rw[z];simpa using d⟩
 .simp
def DX.put{v:D}(d:DX l g)(h:g k v):DX (zf8 l k v) g:=by
 unfold zf8;split
 .refine ⟨?_,λf m=>?_⟩
  .have e:(l.map λf=>if f.1=k then (f.1,v)else f).map (·.1)=l.map (·.1):=by
    rw[i1j];apply e1h;intro a _;show (if a.1=k then (a.1,v)else a).1=a.1;split<;>rfl
   rw[e];exact d.nd
  .let ⟨a,ha,rfl⟩:=j1u.mp m;split
   .rename_i e;rw[e];exact h
   .exact d.all a ha
 .rename_i hn;refine ⟨?_,λf m=>?_⟩
  .rw[j1z,List.nodup_append];refine ⟨d.nd,by simp,λa ha b i e=>?_⟩;let ⟨c,j,rfl⟩:=j1u.mp ha;have i:b=k:=by simpa using i
   exact hn (g1n.mpr ⟨c,j,M0 (e.trans i)⟩)
  .rcases j1g.mp m with m |m
   .exact d.all f m
   .rw[k1d.mp m];exact h
theorem DX.at(d:DX l g)(h:k∈l.map (·.1)):∃v,zo0 l k=some v/\g k v:=by
 let ⟨a,c,rfl⟩:=j1u.mp h;cases e:l.find? (λx=>decide (x.1=a.1))with
 |none=>have:=g1i.mp e a c;simp at this
 |some x=>
  have b:=e1j e;have b:x.1=a.1:=by simpa using b
  refine ⟨x.2,by unfold zo0;rw[e];rfl,?_⟩;rw[<-b];exact d.all x (f1v e)
def l1h(hm:m<=3){l:List (List Int)}(nd:l.Nodup)(h:∀k∈l,k.length=m/\∀i,0<=k.getD i 0/\k.getD i 0<=6):l.length<=343:=by
 have key:=y1f 343 (l.map λk=>k.getD 0 0*49+k.getD 1 0*7+k.getD 2 0) ?_ ?_
 .rw[k1v]at key;exact key
 .induction l with
  |nil=>exact List.nodup_nil
  |cons a l j=>
   rw[g1v]at nd;rw[k1l,g1v];refine ⟨λz=>?_,j nd.2 λn c=>h n (k1o _ c)⟩;let ⟨b,g,e⟩:=j1u.mp z;let ⟨l1,d⟩:=h a (k1g ..);let ⟨l2,f⟩:=h b (k1o _ g);refine nd.1 ?_;have:a=b:=by
    have:=d 1;have:=d 2;have:=f 0;have:=f 1;have:=f 2;apply List.ext_getElem (by lia);intro i o p;have e1:b.getD i 0=b[i]:=by rw[k1r,k1u p];rfl
    have e2:a.getD i 0=a[i]:=by rw[k1r,k1u o];rfl
    rw[<-e1,<- e2];have:i=0\/i=1\/i=2:=by lia
    rcases this with rfl |rfl |rfl<;>lia
   rw[this];exact g
 .intro x hx;let ⟨k,c,rfl⟩:=j1u.mp hx;let ⟨_,b⟩:=h k c;have:=b 0;have:=b 1;have:=b 2;lia
def StZ.small(a:∀p∈ps,POk p)(h:StZ ps st):st.length=ps.length/\∀i,0<=st.getD i 0/\st.getD i 0<=6:=by
 refine ⟨h.l,λi=>?_⟩;by_cases hi:i<ps.length
 .have c:ps.getD i default=ps[i]:=zU3 (k1u hi);have ok:=a _ (i1t hi);have b:=h.b i hi;have:=ok.m1;have:=ok.f2;lia
 .rw[k1r,c1v (by have:=h.l;lia)];exact ⟨by decide,by decide⟩
def c0r(a:ps.length<=3)(b:∀p∈ps,POk p)(d:DX l g)(h:∀k v,g k v->StZ ps k):l.length<=343:=by
 have:=l1h a d.nd λk c=>by
  let ⟨e,f,rfl⟩:=j1u.mp c;exact (h _ _ (d.all e f)).small b
 rw[k1v]at this;exact this
inductive Way(ps:List zy3)(call:Int)(sh:List Int):Nat->Int->List Int->Int->Prop where
 |z (r:Int) (st:List Int):Way ps call sh 0 r st 0
 |s {n:Nat} {r:Int} {st c:List Int} {v:Int}:zi2 (ps.length:Int) c->okZ ps sh c r st->Way ps call sh n (r+1) (zw0 ps st c r) v->Way ps call sh (n+1) r st (y0x ps call c+v)
def LZ(ps:List zy3)(call:Int)(sh:List Int)(n:Nat)(r:Int)(st:List Int)(w:Int):Prop:=w=-1/\(∀v,¬Way ps call sh n r st v)\/0<=w/\Way ps call sh n r st w/\∀v,Way ps call sh n r st v->w<=v
def o0s(ps:List zy3)(call:Int)(sh:List Int)(r:Int)(next:List Int->Prop)(st:List Int)(d:D):Prop:=StZ ps st/\∃css:List (List Int),d=.lst (css.map (h0x ps call st r))/\(∀c,c∈css↔zi2 (ps.length:Int) c/\okZ ps sh c r st)/\css.length<=8/\∀c∈css,next (zw0 ps st c r)
theorem w0u{j:Type}{tup:Bool}{n:Nat}{tk m:TE2}{o:List Nat}{p:En}{q:List (List Int×D)->Dk->Prop}{δ:Dk}(g:j->D)(k:j->List Int)(G:List Int->D->Prop)(u:∀c,DX c G->c.length<=343):∀(l:List j) (c:List (List Int×D)),DX c G->
 (∀a∈l,∀Q:D->D->Dk->Prop,(∀d,G (k a) d->Q (zw1 (k a)) d δ)->∃xs,tgD tup n (g a)=some xs/\tk (λ_ _ _ _=>False) (xs.map .val++zu8 p o) δ λdk r t=>m (λ_ _ _ _=>False) r t λi _ f=>Q dk i f)->
 (∀e,DX e G->(∀x,x∈e.map (·.1)↔x∈c.map (·.1)\/x∈l.map k)->q e δ)->m0d tup n tk m o p q (l.map g) c δ
 | [],c,d,_,fin=>by
  rw[j1r];unfold m0d;exact fin c d λx=>by simp
 |a::l,c,d,step,fin=>by
  rw[k1l];unfold m0d;let ⟨xs,e1,e2⟩:=step a (k1g ..) (λdk i f=>match zc9 dk with |some k=>c.length<1000/\m0d tup n tk m o p q (l.map g) (zf8 c k i) f |none=>False) λi v=>by
   have:zc9 (zw1 (k a))=some (k a):=y7 _;rw[this];refine ⟨Nat.lt_of_le_of_lt (u c d) (by decide),w0u g k G u l _ (d.put v) (λb w=>step b (k1o _ w)) λe y z=>fin e y λx=>?_⟩;rw[z x,s1c,k1l,j1n,or_assoc]
  rw[e1];exact e2
structure yy7(ps:List zy3)(call:Int)(sh:List Int)(f:Int)(st:List Int)(n:Nat)(ls:List (List (List Int×D)))(last:List (List Int×D)):Prop where
 n:ls.length=n
 s:∀(j:Nat) l,ls[j]?=some l->DX l (o0s ps call sh (f+(j:Int)) λx=>x∈((ls++[last]).getD (j+1) []).map (·.1))
 e:DX last λk _=>StZ ps k
 b:∀x,x∈((ls++[last]).getD 0 []).map (·.1)↔x=st
structure zZ5(ps:List zy3)(call:Int)(sh:List Int)(f:Int)(st:List Int)(n:Nat)(ls:List (List (List Int×D)))(zs:List (List Int)):Prop where
 n:ls.length=n
 s:∀(j:Nat) l,ls[j]?=some l->DX l (o0s ps call sh (f+(j:Int)) λx=>x∈(ls.map (λl=>l.map (·.1))++[zs]).getD (j+1) [])
 e:∀z∈zs,StZ ps z
 b:∀x,x∈(ls.map (λl=>l.map (·.1))++[zs]).getD 0 []↔x=st
theorem n0h{ps:List zy3}{call:Int}{st:List Int}{r:Int}:∀d:List (List Int),zW5 (d.map (h0x ps call st r))=some (d.map λc=>zw0 ps st c r)
 | []=>rfl
 |c::d=>by
  rw[k1l,k1l];show (match z0f ((zw0 ps st c r).map D.int),zW5 (d.map (h0x ps call st r))with |some a,some b=>some (a::b)|_,_=>none)=_;rw[y7,n0h d]
theorem n0g{ps:List zy3}{call:Int}{sh:List Int}{r:Int}:∀l:List (List Int×D),(∀g∈l,o0s ps call sh r (λ_=>True) g.1 g.2)->∃BB,zU2 l=some BB/\BB.flatten.length<=8*l.length/\∀b,b∈BB.flatten↔∃g∈l,∃c,zi2 (ps.length:Int) c/\okZ ps sh c r g.1/\b=zw0 ps g.1 c r
 | [],_=>⟨[],rfl,k1q _,λb=>by simp⟩
 |g::l,h=>by
  let ⟨BB,e,t,p⟩:=n0g l λx hx=>h x (k1o _ hx)
  let ⟨k,d⟩:=g;let ⟨_,i,n,j,u,_⟩:=h (k,d) (k1g ..);dsimp only at n j;subst n;refine ⟨(i.map λc=>zw0 ps k c r)::BB,?_,?_,λb=>?_⟩
  .show (match zW5 (i.map (h0x ps call k r)),zU2 l with |some a,some b=>some (a::b)|_,_=>none)=_;rw[n0h,e]
  .rw[b1e,k1b,k1v,k1k];lia
  .rw[b1e,j1g,p b,j1u];constructor
   .rintro (⟨c,f,rfl⟩|⟨x,f,m⟩)
    .exact ⟨_,k1g ..,c,((j c).mp f).1,((j c).mp f).2,rfl⟩
    .exact ⟨x,k1o _ f,m⟩
   .rintro ⟨x,f,c,m,o,rfl⟩;rcases j1n.mp f with rfl |f
    .exact .inl ⟨c,(j c).mpr ⟨m,o⟩,rfl⟩
    .exact .inr ⟨x,f,c,m,o,rfl⟩
def zZ5.nil{f:Int}(h:StZ ps st):zZ5 ps call sh f st 0 [] [st]:=⟨rfl,λj l e=>by simp at e,λz hz=>by rw[k1d.mp hz];exact h,λx=>by simp⟩
def zZ5.step{f:Int}{r a:List (List Int)}(G:∀p∈ps,POk p)(h:zZ5 ps call sh f st i ls r)(d:DX l (o0s ps call sh (f+(i:Int)) λ_=>True))(I:∀x,x∈l.map (·.1)↔x∈r)
 (hz:∀b,b∈a↔∃g∈l,∃c,zi2 (ps.length:Int) c/\okZ ps sh c (f+(i:Int)) g.1/\b=zw0 ps g.1 c (f+(i:Int))):zZ5 ps call sh f st (i+1) (ls++[l]) a:=by
 have hn:=h.n;have D:∀j x,j<=i->(x∈((ls++[l]).map (λl=>l.map (·.1))++[a]).getD j []↔x∈(ls.map (λl=>l.map (·.1))++[r]).getD j []):=by
  intro j x F;rw[k1r,k1r,j1q (by simp;lia),j1z];by_cases J:j<i
  .rw[j1q (by rw[k1v];lia),j1q (by rw[k1v];lia)]
  .have t:j=i:=by lia
   subst t;rw[j1y (by rw[k1v];lia),j1y (by rw[k1v];lia),k1v,hn,h1n];exact I x
 refine ⟨by rw[k1b,hn];rfl,λj L e=>?_,λz u=>?_,λx=>(D 0 x (j1e _)).trans (h.b x)⟩
 .by_cases F:j<i
  .rw[j1q (by lia)]at e;refine (h.s j L e).mono λg _ ⟨v,k,w,m,y,M⟩=>⟨v,k,w,m,y,λc o=>?_⟩
   exact (D (j+1) _ F).mpr (M c o)
  .have B:=(k1t.mp e).1;rw[k1b,i1d]at B;have t:j=i:=by lia
   subst t;rw[j1y (by lia),hn,h1n]at e;cases e;refine d.mono λg C ⟨v,k,w,m,y,_⟩=>⟨v,k,w,m,y,λc o=>?_⟩
   rw[k1r,j1y (by simp;lia)];simp only[k1v,k1b,i1d,hn,h1n,j1v,d1e];exact (hz _).mpr ⟨g,C,c,((m c).mp o).1,((m c).mp o).2,rfl⟩
 .let ⟨g,N,c,P,O,rfl⟩:=(hz z).mp u;exact zF5 G (d.all g N).1 O.2
def zZ5.fin{f:Int}{a:List (List Int)}(h:zZ5 ps call sh f st i ls a)(d:DX l λk _=>StZ ps k)(o:∀x,x∈l.map (·.1)↔x∈a):yy7 ps call sh f st i ls l:=by
 have hn:=h.n;have m:∀j x,j<=i->(x∈((ls++[l]).getD j []).map (·.1)↔x∈(ls.map (λl=>l.map (·.1))++[a]).getD j []):=by
  intro j x p;rw[k1r,k1r];by_cases r:j<i
  .rw[j1q (by lia),j1q (by rw[k1v];lia),k1h,k1u (by lia)];rfl
  .have t:j=i:=by lia
   subst t;rw[j1y (by lia),j1y (by rw[k1v];lia),k1v,hn,h1n];exact o x
 refine ⟨hn,λj u e=>?_,d,λx=>(m 0 x (j1e _)).trans (h.b x)⟩;have p:=(k1t.mp e).1;exact (h.s j u e).mono λD _ zz=>by let ⟨v,g,w,y,z,B⟩:=zz;exact ⟨v,g,w,y,z,λc C=>(m (j+1) _ (by lia)).mpr (B c C)⟩
def zY9(ls:List (List (List Int×D))):D:=.lst (ls.map D.dwt)
def l0c(cs:Cs):Sp2:=λds δ q _=>∃ps call sh sd st,∃f:Int,∃r:Nat,ds=[i4 cs ps call sh,sd,.int f,.int (r:Int)]/\zi1 sd st/\WS ps call sh/\sh.length<=48/\StZ ps st/\0<=f/\f<=47/\r<=8/\∀ls last,yy7 ps call sh f st r ls last->q (zY9 (ls++[last])) δ
def w1d{g:List D->Prop}(hs:zi1 sd st)(h:g (st.map D.int)):match [sd]with | [.lst xs]=>g xs | [.scr xs]=>g xs | [.tup xs]=>g xs |_=>False:=by
 rcases hs with rfl |rfl<;>exact h
abbrev y0p:List Str:=["works","stands","first","rounds"]
def h0w:zz2 ["works","stands","first","rounds","layers","coming","round_number","layer"] y0p (zz0 u0v):=(by walk_at "k7")
abbrev u0h(P:V0)(w:T0)(K:Fg)(mg:Str->Option Z0)(base:J0)(cs:Cs):Prop:=Fun2 P w K mg base "layers_of" 10 y0p (l0c cs)
def h0v(Df:zy4 K mg "layers_of" u0v y0p f fd)(T:Txt K mg cs)(zt3:w0v P w K mg base cs):u0h P w K mg base cs:=by
 walk_at "= h0w +z5*$+<>*A~!VZ[RW!#)$$+ST%g~-~!#1!2DE#1#7$3/I*%4{/I+k~~c%PB}~l~~%H#>A3/&*%4L9#&9.m~~,u!#)!#&!#1$*+On5opqr!#c$(<>*n~~c%B~C~Bo~~`%A3/&*%4Aa%C3/)*%4C3/1*%4C3/7*%4b!~~#~~%$~~!~~#~~%$~~+On5opqr!T~%PB}~`%H#>A3/&*%4L9#&9A~$$(0#5"
 .let ⟨m,call,sh,W,st,f,r,rfl,B,h,C,hz,f1,f2,G,X⟩:=h;rfl
 .let ⟨m,call,sh,W,st,f,r,rfl,B,h,C,hz,f1,f2,G,X⟩:=h;rw[show o4 ["works","stands","first","rounds","layers","coming","round_number","layer"] _=[.val _,.val _,.val _,.val _,.no,.no,.no,.no]from rfl];have Z:=h.l;have I:=λ(a:List (List Int×D)) (g:List Int->D->Prop) (d:DX a g) (h':∀k v,g k v->StZ m k)=>c0r Z h.p d h'
  unfold zw1 at*
  walk_at "dn";refine w1d B ?_;refine ⟨⟨by lia,by lia,by lia,by lia⟩,?_⟩;rw[show (f+(r:Int)-f).toNat=r from by lia];refine m7 (λi J o=>∃u y L M,J=[.val (i4 cs m call sh),.val W,.val (.int f),.val (.int r),.own (u.map D.dwt),.val (.lst (y.map zw1)),L,M]/\o=δ/\zZ5 m call sh f st i u y/\i<=r) ⟨[],[st],_,_,rfl,rfl,zZ5.nil hz,j1e _⟩ ?_ ?_
  .rintro i d J o rest hi ⟨u,y,L,M,rfl,rfl,j,aa⟩ t;let ⟨ab,rfl⟩:=h9 hi;have N:=j.n;unfold y0d;walk_at "dn";refine w0u zw1 id (o0s m call sh (f+(i:Int)) λ_=>True) (λa d=>I a _ d λk v g=>g.1) y [] DX.nil (λz hz Q O=>⟨_,rfl,?_⟩) (λa d R=>?_)
   .simp only[zu8,k9,k1l,j1r,j1v,j1w,h1y,i1x];walk_at "dn";refine ⟨m,call,sh,z,_,rfl,h,(j.e z hz).l,C,λS hc h8=>?_⟩;exact O _ ⟨j.e z hz,S,rfl,hc,h8,λ_ _=>trivial⟩
   .let ⟨BB,eB,ac,F⟩:=n0g a d.all;have ae:=I a _ d λk v g=>g.1
    rw[eB];refine ⟨rfl,by rw[k1v];lia,by lia,⟨m.length,λb hb=>?_⟩,λU V _=>?_⟩
    .let ⟨kv,_,c,_,_,rfl⟩:=(F b).mp hb;exact c0u
    .refine t _ _ ⟨u++[a],U,_,_,by rw[j1z];rfl,rfl,j.step h.p d (λx=>?_) λb=>(V b).trans (F b),by lia⟩;rw[R x,a1g];simp
  .rintro J o ⟨u,y,L,M,rfl,rfl,j,_⟩;have N:=j.n;rw[a8]at j;walk_at "dn";refine ⟨rfl,?_⟩;refine w0u zw1 id (λk d=>StZ m k) (λa d=>I a _ d λk v g=>g) y [] DX.nil (λz hz Q O=>⟨_,rfl,?_⟩) (λa d R=>?_)
   .simp only[zu8,k9,k1l,j1r,j1v,j1w,h1y,i1x];walk_at "dn";exact O _ (j.e z hz)
   .refine ⟨by rw[k1v];lia,?_⟩;have:=X u a (j.fin d λx=>by rw[R x,a1g];simp);unfold zY9 at this;rw[j1z]at this;exact this
def MinD(ns:List Int)(w:Int):Prop:=ns=[]/\w=-1\/zr4 ns w
def zU4(ps:List zy3)(call:Int)(st:List Int)(r:Int)(W:List Int->Int)(css:List (List Int)):List Int:=(css.filter λc=>decide (W (zw0 ps st c r)>=0)).map λc=>y0x ps call c+W (zw0 ps st c r)
def o0r:Sp2:=λds δ q _=>∃ps call st,∃r:Int,∃css ws W,ds=[.lst (css.map (h0x ps call st r)),.dwt ws]/\(∀c∈css,zo0 ws (zw0 ps st c r)=some (.int (W (zw0 ps st c r))))/\css.length<=8/\∀w,MinD (zU4 ps call st r W css) w->q (.int w) δ
def w1c(h:WS ps call sh):0<=y0x ps call c:=by
 unfold y0x;split
 .exact e1i _
 .have:∀c:List Int,0<=(c.map λk=>(ps.getD k.toNat default).price).sum:=by
   intro c
   induction c with
   |nil=>exact e1i _
   |cons a c b=>
    rw[k1l,List.sum_cons];have:0<=(ps.getD a.toNat default).price:=by
     rw[k1r];cases e:ps[a.toNat]? with
     |none=>exact (by decide:(0:Int)<=(default:zy3).price)
     |some p=>exact (h.p p (k1m e)).p1
    lia
  have:=this c;have:=h.c.1;lia
def zF6(h:WS ps call sh)(w:Way ps call sh n r st v):0<=v:=by
 induction w with
 |z=>exact e1i _
 |s _ _ _ a=>exact Int.add_nonneg (w1c h) a
def l1g:LZ ps call sh 0 r st 0:=.inr ⟨Int.le_refl _,.z r st,λv w=>by cases w;exact e1i _⟩
def l1f(h:WS ps call sh){a:List (List Int)}{W:List Int->Int}(l:∀c,c∈a↔zi2 (ps.length:Int) c/\okZ ps sh c r st)(m:∀c∈a,LZ ps call sh n (r+1) (zw0 ps st c r) (W (zw0 ps st c r))){w:Int}(o:MinD (zU4 ps call st r W a) w):LZ ps call sh (n+1) r st w:=by
 have key:∀v,Way ps call sh (n+1) r st v->∃x∈zU4 ps call st r W a,x<=v:=by
  intro v b;cases b with
  |s d ok f=>
   rename_i c t;have hm:=(l c).mpr ⟨d,ok⟩;rcases m c hm with ⟨_,no⟩|⟨h0,_,i⟩
   .exact absurd f (no _)
   .exact ⟨_,j1u.mpr ⟨c,g1h.mpr ⟨hm,M0 h0⟩,rfl⟩,by have:=i _ f;lia⟩
 rcases o with ⟨e,rfl⟩|⟨hm,p⟩
 .exact .inl ⟨rfl,λv b=>by let ⟨x,hx,_⟩:=key v b;rw[e]at hx;cases hx⟩
 .let ⟨c,j,rfl⟩:=j1u.mp hm;let ⟨g,h0⟩:=g1h.mp j;have h0:=X5 h0;let ⟨d,ok⟩:=(l c).mp g;rcases m c g with ⟨e,_⟩|⟨_,b,_⟩
  .lia
  .exact .inr ⟨Int.add_nonneg (w1c h) h0,.s d ok b,λv b=>by let ⟨x,hx,k⟩:=key v b;exact b1a (p x hx) k⟩
abbrev v0s:List Str:=["steps","worths"]
def f0y:zz2 ["steps","worths"] v0s (zz0 s0q):=(by walk_at "k7")
abbrev r0s(P:V0)(w:T0)(K:Fg)(mg:Str->Option Z0)(base:J0)(cs:Cs):Prop:=Fun2 P w K mg base "worth_by" 3 v0s o0r
def f0x(Df:zy4 K mg "worth_by" s0q v0s f fd)(T:Txt K mg cs):r0s P w K mg base cs:=by
 walk_at "= f0y (0%~~%U~!N%Bp~~&~~%H#&Aa%C3/&*%4C3/)*%4C3/1*%4bK~mq~~%9|~@a~b~'~~*~#7#1'=92DE#)'~~*~#7#1$1~'"
 .let ⟨a,call,st,r,b,ws,W,rfl,g,i,d⟩:=h;rfl
 .let ⟨a,call,st,r,b,ws,W,rfl,g,i,d⟩:=h;rw[show o4 ["steps","worths"] _=[.val _,.val _]from rfl];walk_at "dn";refine w0g (h0x a call st r) (λc=>.int (y0x a call c+W (zw0 a st c r))) (λc=>decide (W (zw0 a st c r)>=0)) b (by show 0+_<=_;lia) (λc j Q k l=>⟨_,rfl,?_⟩) ?_
  .simp only[zu8,k9,k1l,j1r,j1v,j1w,h1y,i1x];have n:=g c j;walk_at "dn";simp only[zw1,y7,n];by_cases h0:W (zw0 a st c r)>=0
   .rw[H0 h0];exact k (M0 h0)
   .rw[O0 h0];exact l (Q0 h0)
  .rw[i1x,show (List.map (λc=>D.int (y0x a call c+W (zw0 a st c r))) (List.filter (λc=>decide (W (zw0 a st c r)>=0)) b))=(zU4 a call st r W b).map D.int from by unfold zU4;rw[i1j];rfl];rw[y7];exact ⟨λe=>d _ (.inl ⟨e,rfl⟩),λm hm=>d _ (.inr hm)⟩
def s1b{xs:List D}:cutD xs none (some (-1))=xs.dropLast:=by
 unfold cutD;have e:HT.sIx xs.length xs.length (some (-1))=xs.length-1:=by
  unfold HT.sIx;dsimp only;lia
 rw[HT.za5,e,d1x,f1n,List.dropLast_eq_take]
structure zZ6(ps:List zy3)(call:Int)(sh:List Int)(f:Int)(n:Nat)(ls:List (List (List Int×D)))(m:Nat)(w:List (List Int×D)):Prop where
 d:DX w λk d=>StZ ps k/\∃v,d=.int v/\LZ ps call sh (n-m) (f+(m:Int)) k v
 k:∀x,x∈w.map (·.1)↔x∈(ls.getD m []).map (·.1)
structure zd2(ps:List zy3)(call:Int)(sh:List Int)(f:Int)(n:Nat)(ls:List (List (List Int×D)))(i:Nat)(rr:List (List (List Int×D)))(ws:List (List Int×D)):Prop where
 z:rr.length=i+1
 l:rr[i]?=some ws
 a:∀(j:Nat) w,rr[j]?=some w->zZ6 ps call sh f n ls (n-j) w
def l0b(cs:Cs):Sp2:=λds δ q _=>∃ps call sh st,∃f:Int,∃n:Nat,∃ls last,ds=[zY9 (ls++[last])]/\WS ps call sh/\yy7 ps call sh f st n ls last/\n<=8/\∀rows:List (List (List Int×D)),rows.length=n+1->(∀(j:Nat) w,rows[j]?=some w->zZ6 ps call sh f n (ls++[last]) j w)->q (zY9 rows) δ
def zd2.step{f:Int}{c:List (List (List Int×D))}{ws w:List (List Int×D)}(h:zd2 ps call sh f n ls i c ws)(d:zZ6 ps call sh f n ls (n-(i+1)) w):zd2 ps call sh f n ls (i+1) (c++[w]) w:=by
 have hn:=h.z;refine ⟨by rw[k1b,hn];rfl,by rw[j1y (by lia),hn,h1n];rfl,λj g e=>?_⟩;by_cases l:j<i+1
 .rw[j1q (by lia)]at e;exact h.a j g e
 .have b:=(k1t.mp e).1;rw[k1b,i1d]at b;have k:j=i+1:=by lia
  subst k;rw[j1y (by lia),hn,h1n]at e;cases e;exact d
def zd2.fin{f:Int}{b:List (List (List Int×D))}{ws:List (List Int×D)}(h:zd2 ps call sh f n ls n b ws):b.reverse.length=n+1/\∀(j:Nat) w,b.reverse[j]?=some w->zZ6 ps call sh f n ls j w:=by
 have hn:=h.z;refine ⟨by rw[h1k,hn],λj w e=>?_⟩;have c:=(k1t.mp e).1;rw[h1k]at c;rw[e1u c]at e;have:=h.a _ w e
 rwa[show n-(b.length-1-j)=j from by lia]at this
def wOf(ws:List (List Int×D))(b:List Int):Int:=match zo0 ws b with |some (.int v)=>v |_=>0
abbrev j6:List Str:=["layers"]
def u0g:zz2 ["layers","worths","rows","layer"] j6 (zz0 l7):=(by walk_at "k7")
abbrev a7(P:V0)(w:T0)(K:Fg)(mg:Str->Option Z0)(base:J0)(cs:Cs):Prop:=Fun2 P w K mg base "worths_of_layers" 5 j6 (l0b cs)
def u0f(Df:zy4 K mg "worths_of_layers" l7 j6 f fd)(T:Txt K mg cs)(zq1:r0s P w K mg base cs):a7 P w K mg base cs:=by
 walk_at "= u0g +<)*T~%PBr~~`%s~~6&1~'A3/&*%4L9#&9'+z1*!#)$+ST%t~~u~~!v~~#&w~~x~~1~'$3/7*%4{/7+<)*T~%PBy~~&~~%(~~#7Aa%C3/&*%4C3/)*%4bK~mL~%9#&9.z~~,u!#)!#1$(On1opqr!#)$+O{~~1|~~}~~!~~~#~~~(0#1"
 .let ⟨o,call,sh,st,f,n,t,last,rfl,h,N,hn,X⟩:=h;rfl
 .let ⟨o,call,sh,st,f,n,t,last,rfl,h,N,hn,X⟩:=h;rw[show o4 ["layers","worths","rows","layer"] _=[.val _,.no,.no,.no]from rfl];have hl:=h.l;have y:=N.n;have Z:=λ(b:List (List Int×D)) (g:List Int->D->Prop) (d:DX b g) (h':∀k v,g k v->StZ o k)=>c0r hl h.p d h'
  unfold zY9;have eA:atI (List.map D.dwt (t++[last])) (-1)=some (D.dwt last):=by rw[j1z];exact e0z _ _
  have eC:(cutD (List.map D.dwt (t++[last])) none (some (-1))).reverse=t.reverse.map D.dwt:=by
   rw[s1b,j1z];show (t.map D.dwt++[D.dwt last]).dropLast.reverse=_;rw[List.dropLast_concat,a1q]
  have g0:∀m,m<n->(t++[last]).getD m []=t.getD m []:=λm hm=>by rw[k1r,k1r,j1q (by lia)]
  have g1:(t++[last]).getD n []=last:=by rw[k1r,j1y (by lia),y,h1n];rfl
  walk_at "dn";rw[eA,eC];refine w0u (λr:List Int×D=>zw1 r.1) (·.1) (λk d=>StZ o k/\d=.int 0) (λb d=>Z b _ d λk v g=>g.1) last [] DX.nil (λr B Q O=>⟨_,rfl,?_⟩) (λb d R=>?_)
  .walk_at "dn";exact O _ ⟨N.e.all r B,rfl⟩
  .refine q1t D.dwt t.reverse (λi S C=>∃I ws U,S=[.val (zY9 (t++[last])),.val (.dwt ws),.own (I.map D.dwt),U]/\C=δ/\zd2 o call sh f n (t++[last]) i I ws) ⟨[b],b,_,rfl,rfl,rfl,rfl,λj w e=>?_⟩ ?_ ?_
   .have hj:=(k1t.mp e).1;have ej:j=0:=by simp at hj;lia
    subst ej;cases e;refine ⟨d.mono λr _ g=>⟨g.1,0,g.2,?_⟩,λx=>?_⟩
    .rw[f1n,h1n];exact l1g
    .rw[f1n,g1,R x];simp
   .rintro i l S C rest hi ⟨I,ws,U,rfl,rfl,F⟩ G;have V:=(k1t.mp hi).1;rw[h1k,y]at V;rw[e1u (by lia),y]at hi;have J:=N.s _ l hi;have L:=F.a i ws F.l;have hz:=F.z;rw[show n-1-i+1=n-i from by lia]at J;unfold y0d;walk_at "dn";refine w0u b0n (·.1) (λk d=>StZ o k/\∃v,d=.int v/\LZ o call sh (n-(n-(i+1))) (f+((n-(i+1):Nat):Int)) k v) (λb d=>Z b _ d λk v g=>g.1) l [] DX.nil (λr B Q O=>⟨_,rfl,?_⟩) (λb d R=>?_)
    .let ⟨s1,M,ed,hc,h8,W⟩:=J.all r B;have hv:∀c∈M,zo0 ws (zw0 o r.1 c (f+((n-1-i:Nat):Int)))=some (.int (wOf ws (zw0 o r.1 c (f+((n-1-i:Nat):Int)))))/\LZ o call sh i (f+((n-1-i:Nat):Int)+1) (zw0 o r.1 c (f+((n-1-i:Nat):Int))) (wOf ws (zw0 o r.1 c (f+((n-1-i:Nat):Int)))):=λc u=>by
      let ⟨v,e1,_,x,rfl,hx⟩:=L.d.at ((L.k _).mpr (W c u));have:wOf ws (zw0 o r.1 c (f+((n-1-i:Nat):Int)))=x:=by unfold wOf;rw[e1]
      rw[this];refine ⟨e1,?_⟩;rw[show n-(n-i)=i from by lia,show f+((n-i:Nat):Int)=f+((n-1-i:Nat):Int)+1 from by lia]at hx;exact hx
     simp only[zu8,k9,k1l,j1r,j1v,j1w,h1y,i1x];walk_at "dn";refine ⟨o,call,r.1,_,M,ws,wOf ws,by rw[ed],λc u=>(hv c u).1,h8,λw hw=>?_⟩;refine O _ ⟨s1,w,rfl,?_⟩;have:=l1f h hc (λc u=>(hv c u).2) hw;rw[show n-(n-(i+1))=i+1 from by lia,show n-(i+1)=n-1-i from by lia];exact this
    .refine ⟨rfl,by rw[k1v];lia,G _ _ ⟨I++[b],b,_,by rw[j1z];rfl,rfl,F.step ⟨d,λx=>?_⟩⟩⟩;rw[g0 _ (by lia),R x,k1r,show n-(i+1)=n-1-i from by lia,hi];simp
   .rintro S C ⟨I,ws,U,rfl,rfl,F⟩;rw[h1k,y]at F;let ⟨z1,z2⟩:=F.fin;walk_at "dn";have:=X I.reverse z1 z2;unfold zY9 at this;rw[a1q]at this;exact this
def w0t(cs:Cs):Sp2:=λds δ q x=>∃w:Int,ds=[.int w]/\(0<=w->q .non δ)/\(w<0->x cs.NoneHolds [] δ)
def yy8(st:List Int)(w:Int)(rest:List D):D:=.tup (.tup [.tup [zw1 st,.int w]]::rest)
def o0q:Sp2:=λds δ q _=>∃st w rest,ds=[yy8 st w rest]/\q (.int w) δ
structure Good(ps:List zy3)(call:Int)(sh:List Int)(sd fd rd:D)(st:List Int)(f:Int)(r:Nat):Prop where
 row:zi1 sd st
 ef:fd=.int f
 er:rd=.int (r:Int)
 ws:WS ps call sh
 sl:sh.length<=48
 z:StZ ps st
 f1:0<=f
 f2:f<=47
 r8:r<=8
def f0w(cs:Cs):Sp2:=λds δ q x=>∃ps call sh sd fd rd,ds=[i4 cs ps call sh,sd,fd,rd]/\zb5 ps sd fd rd/\Szs cs x δ (y0b ps sd fd rd) (∃st f r,Good ps call sh sd fd rd st f r/\∀w rest,LZ ps call sh r f st w->q (yy8 st w rest) δ)
def f0v(cs:Cs):Sp2:=λds δ q x=>∃ps call sh sd fd rd,ds=[i4 cs ps call sh,sd,fd,rd]/\zb5 ps sd fd rd/\Szs cs x δ (y0b ps sd fd rd) (∃st f r,Good ps call sh sd fd rd st f r/\(∀w,0<=w->LZ ps call sh r f st w->q (.int w) δ)/\(LZ ps call sh r f st (-1)->x cs.NoneHolds [] δ))
def l1e{w:List (List Int×D)}(nd:(w.map (·.1)).Nodup)(h:∀x,x∈w.map (·.1)↔x=st):∃d,w=[(st,d)]:=by
 cases w with
 |nil=>have:=(h st).mpr rfl;cases this
 |cons a w=>
  have c:=(h a.1).mp (by simp);cases w with
  |nil=>exact ⟨a.2,by rw[<-c]⟩
  |cons b w=>
   have e:=(h b.1).mp (by simp);rw[k1l,g1v]at nd;exact absurd (by rw[c,<- e];simp) nd.1
abbrev x9:List Str:=["worth"]
def o0e:zz2 ["worth"] x9 (zz0 z0d):=(by walk_at "k7")
abbrev y0o(P:V0)(w:T0)(K:Fg)(mg:Str->Option Z0)(base:J0)(cs:Cs):Prop:=Fun2 P w K mg base "check_worth" 3 x9 (w0t cs)
def o0d(Df:zy4 K mg "check_worth" z0d x9 f fd)(T:Txt K mg cs):y0o P w K mg base cs:=by
 walk_at "= o0e (:@.~/~#&'=(?~%-$~~~%~~~)~~;"
 .let ⟨w,rfl,a,hx⟩:=h;rfl
 .let ⟨w,rfl,a,hx⟩:=h;rw[show o4 ["worth"] _=[.val _]from rfl];walk_at "dn";by_cases h0:w<0
  .rw[H0 h0];exact hx h0
  .rw[O0 h0];exact a (by lia)
abbrev v0r:List Str:=["table"]
def f0u:zz2 ["table"] v0r (zz0 s0o):=(by walk_at "k7")
abbrev r0r(P:V0)(w:T0)(K:Fg)(mg:Str->Option Z0)(base:J0)(cs:Cs):Prop:=Fun2 P w K mg base "worth_of" 2 v0r o0q
def f0t(Df:zy4 K mg "worth_of" s0o v0r f fd)(T:Txt K mg cs):r0r P w K mg base cs:=by
 walk_at "= f0u (0]^_]^_6&'''"
 .let ⟨st,w,rest,rfl,a⟩:=h;rfl
 .let ⟨st,w,rest,rfl,a⟩:=h;rw[show o4 ["table"] _=[.val _]from rfl];unfold yy8;walk_at "dn";exact a
abbrev v0q:List Str:=["works","stands","first","rounds"]
def f0s:zz2 ["works","stands","first","rounds","rows"] v0q (zz0 s0p):=(by walk_at "k7")
abbrev r0q(P:V0)(w:T0)(K:Fg)(mg:Str->Option Z0)(base:J0)(cs:Cs):Prop:=Fun2 P w K mg base "table_of" 11 v0q (f0w cs)
def f0r(Df:zy4 K mg "table_of" s0p v0q f fd)(T:Txt K mg cs)(zt4:w0x P w K mg base cs)(zs3:u0h P w K mg base cs)(zx9:a7 P w K mg base cs):r0q P w K mg base cs:=by
 walk_at "= f0s +O.&~~~,-!#&!#)!#1!#7$+<5*.'~~~,-!.(~~~,-!#&!#)!#1!#7$$(0VZ[RW!N%B)~~~`%H#5A3/&*%4L9Q9VZ[RW!*~~~&%B~C~$$"
 .let ⟨u,call,sh,C,fd,rd,rfl,ho,h0,t,m,J⟩:=h;rfl
 .let ⟨u,call,sh,C,fd,rd,rfl,ho,h0,t,m,J⟩:=h;rw[show o4 ["works","stands","first","rounds","rows"] _=[.val _,.val _,.val _,.val _,.no]from rfl];walk_at "dn";refine ⟨u,call,sh,C,fd,rd,rfl,ho,λO=>?_,t,m,J⟩;let ⟨st,f,r,⟨row,rfl,rfl,h,D,hz,f1,f2,y⟩,Q⟩:=h0 O;refine ⟨u,call,sh,C,st,f,r,rfl,row,h,D,hz,f1,f2,y,λR last L=>?_⟩;refine ⟨u,call,sh,st,f,r,R,last,rfl,h,L,y,λrows F G=>?_⟩;walk_at "dn";refine z9 (λi c n=>n=δ/\c.length=i/\(0<i->∃w,LZ u call sh r f st w/\c[0]?=some (.tup [.tup [zw1 st,.int w]]))) ⟨rfl,rfl,λz=>absurd z (by decide)⟩ ?_ ?_
  .rintro i d c n rest hi ⟨rfl,j,h0⟩ o;rw[k1h,k1c]at hi;let ⟨w,M,rfl⟩:=hi;have lt:=(k1t.mp M).1;have B:=G i w M;have few:=c0r h.l h.p B.d λk v g=>g.1
   simp only[zu8,k9,k1l,j1r,j1v,j1w];walk_at "dn";refine ⟨by lia,λS I=>?_,λds U=>?_⟩
   .let ⟨_,v,e,_⟩:=B.d.all S I;exact ⟨v,e⟩
   .refine ⟨by lia,o _ _ ⟨rfl,by rw[k1b,j];rfl,λ_=>?_⟩⟩;cases i with
    |succ i=>
     let ⟨v,t,m⟩:=h0 (d1d _);exact ⟨v,t,by rw[j1q (by lia)];exact m⟩
    |zero=>
     let ⟨d,rfl⟩:=l1e B.d.nd λx=>(B.k x).trans (L.b x)
     let ⟨_,v,e,N⟩:=B.d.all (st,d) (k1d.mpr rfl);subst e;have V:=List.perm_singleton.mp U;subst V;refine ⟨v,?_,by rw[i1g j];rfl⟩;rw[f1n,show f+((0:Nat):Int)=f from by lia]at N;exact N
  .rintro c n ⟨rfl,j,h0⟩;rw[k1v,F]at j h0;let ⟨w,t,m⟩:=h0 (d1d _);cases c with
   |nil=>cases m
   |cons a c=>cases m;exact Q w c t
abbrev l0a:List Str:=["works","stands","first","rounds"]
def s1a:zz2 ["works","stands","first","rounds","price"] l0a (zz0 g0u):=(by walk_at "k7")
abbrev f0q(P:V0)(w:T0)(K:Fg)(mg:Str->Option Z0)(base:J0)(cs:Cs):Prop:=Fun2 P w K mg base "least" 13 l0a (f0v cs)
def r1z(Df:zy4 K mg "least" g0u l0a f fd)(T:Txt K mg cs)(zq3:r0q P w K mg base cs)(zq2:r0r P w K mg base cs)(zu4:y0o P w K mg base cs):f0q P w K mg base cs:=by
 walk_at "= s1a +<5*.+~~~,-!.,~~~,-!#&!#)!#1!#7$$+O.-~~~,-!#5$(0#5"
 .let ⟨c,call,sh,d,fd,rd,rfl,ho,h0,a,g,i⟩:=h;rfl
 .let ⟨c,call,sh,d,fd,rd,rfl,ho,h0,a,g,i⟩:=h;rw[show o4 ["works","stands","first","rounds","price"] _=[.val _,.val _,.val _,.val _,.no]from rfl];walk_at "dn";refine ⟨c,call,sh,d,fd,rd,rfl,ho,λj=>?_,a,g,i⟩;let ⟨st,f,r,G,k,hx⟩:=h0 j;refine ⟨st,f,r,G,λw rest b=>?_⟩;refine ⟨st,w,rest,rfl,?_⟩;walk_at "dn";refine ⟨w,rfl,λh0=>?_,λh0=>?_⟩
  .walk_at "dn";exact k w h0 b
  .have e:w=-1:=by rcases b with ⟨e,_⟩|⟨a,_⟩<;>lia
   subst e;exact hx b
def f0p:Sp2:=λds δ q _=>∃ps call sh c d,ds=[b7 ps call sh,d]/\zv0 ps call sh/\zi2 (ps.length:Int) c/\(d=.tup (c.map D.int)\/d=.lst (c.map D.int))/\q (.int (y0x ps call c)) δ
abbrev v0p:List Str:=["_law_told_here","_law_chosen"]
def f0o:zz2 ["_law_told_here","_law_chosen"] v0p (zz0 s0g):=(by walk_at "k7")
abbrev r0p(P:V0)(w:T0)(K:Fg)(mg:Str->Option Z0)(base:J0)(cs:Cs):Prop:=Fun2 P w K mg base "_law_cost" 2 v0p f0p
def f0n(Df:zy4 K mg "_law_cost" s0g v0p f fd)(T:Txt K mg cs):r0p P w K mg base cs:=by
 walk_at "= f0o +:@fPgU)G'=(0';(02DE6&'?j~%k~l~m~!N%B.~~~>~%H#)A3/&*%4L9Q9]^_]^_6)'#&'$"
 .let ⟨m,call,sh,c,d,rfl,h,t,hd,b⟩:=h;rfl
 .let ⟨m,call,sh,c,d,rfl,h,t,hd,b⟩:=h;rw[show o4 ["_law_told_here","_law_chosen"] _=[.val _,.val _]from rfl];have B:=h.l;have C:=t.2.2;have nil:c.length=0↔c=[]:=g1o;have o:∀y:D,c≠[]->j9 (zd5 ixF (zd5 ixF (j0t 1 (t2C (.int 0))) (t2V 0)) (t2C (.int 3))) [0] [.val (b7 m call sh),.val y]
   (λa u=>match z0f a with |some ns=>zC6 ns/\q (.int (call+ns.sum)) u |none=>False) (c.map D.int) [] δ:=by
   intro y v;refine z9 (λi a e=>a=((c.take i).map λk=>(m.getD k.toNat default).price).map D.int/\e=δ) ⟨rfl,rfl⟩ ?_ ?_
   .rintro i z a e rest hi ⟨rfl,rfl⟩ g;rw[k1h,k1c]at hi;let ⟨k,r,rfl⟩:=hi;have j:=t.1 k (k1m r);simp only[zu8,k9,k1l,j1r];walk_at "dn";simp only[b7];walk_at "dn";rw[atS j.1 j.2];simp only[d8,p0e];walk_at "dn";refine ⟨by rw[k1v,k1v,h1c];lia,g _ _ ⟨?_,rfl⟩⟩;rw[g1m,r,j1z,j1z];rfl
   .rintro a e ⟨rfl,rfl⟩;rw[k1v,h1z,y7];refine ⟨⟨by rw[k1v];lia,λn hn=>?_⟩,?_⟩
    .let ⟨k,r,rfl⟩:=j1u.mp hn;have j:=t.1 k r;have hm:m.getD k.toNat default∈m:=by
      rw[k1r,k1u (show k.toNat<m.length by lia)];exact i1t _
     have G:=(h.p _ hm).p1;have I:=(h.p _ hm).p2;lia
    .unfold y0x at b;rw[O0 v]at b;exact b
  rcases hd with rfl |rfl
  all_goals
   walk_at "dn";simp only[G0,k1v];split
   .have J:=nil.mp (by lia);unfold y0x at b;rw[H0 J]at b;exact b
   .rename_i h0;exact o _ (λz=>h0 (by have:=nil.mpr z;lia))
def o0p:Sp2:=λds δ q _=>∃m:Nat,ds=[.int (m:Int)]/\m<=3/\∀css:List (List Int),css.Perm (chs m)->q (.lst (css.map zw1)) δ
abbrev w9:List Str:=["_law_many"]
def o0c:zz2 ["_law_many","_law_found","_law_number_here"] w9 (zz0 z0c):=(by walk_at "k7")
abbrev y0n(P:V0)(w:T0)(K:Fg)(mg:Str->Option Z0)(base:J0)(cs:Cs):Prop:=Fun2 P w K mg base "_law_choices" 2 w9 o0p
def o0b(Df:zy4 K mg "_law_choices" z0c w9 f fd)(T:Txt K mg cs):y0n P w K mg base cs:=by
 walk_at "= o0c +<)*A~!M$$+ST%S~-~!#&$3/1*%4{/1(<)*2DE#)N%B/~~~0~~~%H#)A3/&*%4L9Q92DE#&M!#)$(0?y~B~z~C~{~!#)$"
 .let ⟨m,rfl,hm,l⟩:=h;rfl
 .let ⟨m,rfl,hm,l⟩:=h;rw[show o4 ["_law_many","_law_found","_law_number_here"] _=[.val _,.no,.no]from rfl];walk_at "dn";refine ⟨⟨by lia,by lia⟩,?_⟩;rw[j1c];refine m7 (λi g a=>∃c2,g=[.val (.int (m:Int)),.val (.lst ((chs i).map zw1)),c2]/\a=δ/\i<=m) ⟨_,rfl,rfl,j1e _⟩ ?_ ?_
  .rintro i d g a rest hi ⟨c2,rfl,rfl,n⟩ b;let ⟨o,rfl⟩:=h9 hi;have j:(chs i).length<=4:=by rw[u0j];exact j1o (i1a (by decide) (show i<=2 by lia)) (by decide)
   unfold y0d;walk_at "dn";refine w0h zw1 (λc=>zw1 (c++[(i:Int)])) (chs i) (by lia) (λc p Q r=>?_) ?_
   .have t:=(h0y i c p).2.2;simp only[zu8,k9,k1l,j1r,j1v,j1w,zw1];walk_at "dn";refine ⟨by rw[k1v];lia,?_⟩;have e:c.map D.int++[.int (0+(i:Int))]=(c++[(i:Int)]).map D.int:=by rw[j1z,c1r];rfl
    rw[e];exact r
   .refine ⟨by simp only[k1v];lia,?_⟩;rw[show (chs i).map zw1++(chs i).map (λc=>zw1 (c++[(i:Int)]))=(chs (i+1)).map zw1 from by rw[chs,j1z,i1j];rfl];exact b _ _ ⟨_,rfl,rfl,by lia⟩
  rintro g a ⟨c2,rfl,rfl,_⟩;rw[a8];have j:(chs m).length<=8:=by rw[u0j];exact j1o (i1a (by decide) hm) (by decide)
  walk_at "dn";refine ⟨by rw[k1v];lia,λx hx=>?_,λx hx=>?_,λu py=>?_⟩
  .let ⟨c,_,rfl⟩:=j1u.mp hx;exact ⟨c,rfl⟩
  .rw[k1h,q0f]at hx;cases hx;rfl
  .let ⟨k,p1,rfl⟩:=STB.zu1 py _ rfl;exact l k p1
def c0q(ps:List zy3)(st c:List Int)(r:Int):D:=match v0k ps (zw0 ps st c r)with |some _=>.non |none=>zw1 (zw0 ps st c r)
def f0m:Sp2:=λds δ q _=>∃ps sd st cd c r,ds=[.lst (ps.map d8),sd,cd,.int r]/\zi1 sd st/\zi1 cd c/\w1i ps/\st.length=ps.length/\q (c0q ps st c r) δ
def l1d(hi:i<ps.length)(h1:∀j<i,¬zd1 ps st c r j<(ps.getD j default).mark)(a:zd1 ps st c r i<(ps.getD i default).mark):v0k ps (zw0 ps st c r)=some i:=by
 refine w1k (λj b=>Q0 ?_) hi (M0 ?_)
 .rw[l0u (by lia)];exact h1 j b
 .rw[l0u hi];exact a
def l1c(h1:∀j<ps.length,¬zd1 ps st c r j<(ps.getD j default).mark):v0k ps (zw0 ps st c r)=none:=by
 refine w1j λj a=>Q0 ?_
 rw[l0u a];exact h1 j a
abbrev y0m:List Str:=["_law_specs","_law_stands_here","_law_chosen","_law_number_here"]
def h0u:zz2 ["_law_specs","_law_stands_here","_law_chosen","_law_number_here","_law_found","_law_at","_law_spec_here","_law_stand","_law_left"] y0m (zz0 u0u):=(by walk_at "k7")
abbrev u0e(P:V0)(w:T0)(K:Fg)(mg:Str->Option Z0)(base:J0)(cs:Cs):Prop:=Fun2 P w K mg base "_law_after" 2 y0m f0m
def h0t(Df:zy4 K mg "_law_after" u0u y0m f fd)(T:Txt K mg cs):u0e P w K mg base cs:=by
 walk_at "= h0u +z5*$+ST%O~P~!#&$a%C3/>*%4C3/I*%4b0~mq~%+<c*r~@M~N~#>#1%6I'6)#>+<2~*2(~)~#c]^_6I'2jk#7?wxGy!6I'$+:@.~/~#2~6I'=(0@~;(On5opqr!#2~$(0VZ[RW!#5$"
 .let ⟨l,N,st,cd,c,r,rfl,m,n,p,hs,b⟩:=h;rfl
 .let ⟨l,N,st,cd,c,r,rfl,m,n,p,hs,b⟩:=h;rw[show o4 ["_law_specs","_law_stands_here","_law_chosen","_law_number_here","_law_found","_law_at","_law_spec_here","_law_stand","_law_left"] _=[.val _,.val _,.val _,.val _,.no,.no,.no,.no,.no]from rfl];have R:=p.1;walk_at "dn";refine m7 (λi t d=>∃own u v B C,t=[.val (.lst (l.map d8)),.val N,.val cd,.val (.int r),.own own,u,v,B,C]/\own=((List.range i).map (zd1 l st c r)).map D.int/\(∀j<i,¬zd1 l st c r j<(l.getD j default).mark)/\d=δ) ⟨_,_,_,_,_,rfl,rfl,λj o=>absurd o (g1d _),rfl⟩ ?_ ?_
  .rintro i z t d rest hi ⟨own,u,v,B,C,rfl,rfl,a,rfl⟩ g;let ⟨y,O,rfl⟩:=x0n hi;rw[k1h,k1c]at O;let ⟨F,k,rfl⟩:=O;have G:=(k1t.mp k).1;have I:=zU3 k;have J:=p.2 F (k1m k);rw[i1e];unfold y0d;have L:zd1 l st c r i=(if (i:Int)∈c then F.full else st.getD i 0)-i0c F.ws r:=by unfold zd1;rw[I]
   rcases n with rfl |rfl
   all_goals
    rcases m with rfl |rfl
    all_goals
     walk_at "dn";simp only[x0l,p0q,z8,h1p,W2,G0];split
     all_goals
      rename_i Q
      first |rw[H0 Q]at L |rw[O0 Q]at L
      simp only[d8,p0e]
      try rw[atN (by lia)]
      walk_at "dn";refine ⟨by rw[k1v];lia,?_⟩;rw[w1n r J];dsimp only;rw[<-L];split
      .rename_i M;have e:=l1d G a (by rw[I];exact M);unfold c0q at b;rw[e]at b;exact b
      .rename_i M;refine ⟨rfl,by rw[k1v,k1v,h1u];lia,g _ _ ⟨_,_,_,_,_,rfl,?_,λj o=>?_,rfl⟩⟩
       .rw[f1h,j1z,j1z];rfl
       .rcases d1p.mp o with o |rfl
        .exact a j o
        .rw[I];exact M
  .rintro t d ⟨own,u,v,B,C,rfl,rfl,a,rfl⟩;rw[x0o,k1v]at a ⊢;have e:=l1c a;unfold c0q at b;rw[e]at b;walk_at "dn";exact b
def o0o:Sp2:=λds δ q _=>∃p ns m ps,ds=[.ref p,.lst (ps.map d8)]/\DkB p ns (m+5) δ/\ps.length<=4/\(∀p∈ps,POk p)/\∀st δ',StZ ps st->DkB p ns m δ'->q (zw1 st) δ'
abbrev z0y:List Str:=["_law_deck_here","_law_specs"]
def k0z:zz2 ["_law_deck_here","_law_specs"] z0y (zz0 x0f):=(by walk_at "k7")
abbrev w0s(P:V0)(w:T0)(K:Fg)(mg:Str->Option Z0)(base:J0)(cs:Cs):Prop:=Fun2 P w K mg base "_law_stands" 5 z0y o0o
def k0y(Df:zy4 K mg "_law_stands" x0f z0y f fd)(T:Txt K mg cs)(zz3:q8 P w K mg base cs):w0s P w K mg base cs:=by
 walk_at "= k0z +:@fPg.*~~,-!#&!'$'=(0VZ[RW!N%BQ~`%H#)A3/&*%4L9Q96&'$;(0VZ[RW!N%BQ~>~%H#)A3/&*%4L9Q92DE6&'.*~~,u!#)!2DE2(~)~6&'6&''$$"
 .let ⟨p,ns,m,ps,rfl,hD,hl,hp,hq⟩:=h;rfl
 .let ⟨p,ns,m,ps,rfl,hD,hl,hp,hq⟩:=h;rw[show o4 ["_law_deck_here","_law_specs"] _=[.val _,.val _]from rfl];walk_at "dn";refine tk (m:=m+4) hD (by decide) (by decide) fun a0 δ0 a1 a2 hD=>?_
  dsimp only;split
  .refine y1g (fun d=>match d with | .tup (f::_)=>f |_=>.non) (by rw[k1v];lia) (fun d hd Q hQ=>?_) ?_
   .let ⟨pz,hpz,rfl⟩:=j1u.mp hd;walk_at "dn";exact hQ
   .have e:(ps.map d8).map (fun d=>match d with | .tup (f::_)=>f |_=>.non)=(ps.map (·.full)).map D.int:=by
     rw[i1j,i1j];rfl
    rw[e];refine hq _ _ ⟨by rw[k1v],fun i hi=>?_⟩ (hD.mono (by lia));have e2:(ps.map (·.full)).getD i 0=(ps.getD i default).full:=by
     rw[k1r,k1r,k1h,k1u hi];rfl
    rw[e2];have hm:ps.getD i default∈ps:=by rw[k1r,k1u hi];exact i1t _
    have:=hp _ hm;exact ⟨this.m2,e1i _⟩
  .refine n0o (fun i δ'=>DkB p ns (m+(4-i)) δ') (fun i d e=>∃s:Int,e=.int s/\(ps.getD i default).mark<=s/\s<=(ps.getD i default).full) (by rw[k1v];lia) hD (fun i d δ' hi hD Q hQ=>?_) (fun acc δ' h1 h2 hD=>?_)
   .rw[k1h,k1c]at hi;let ⟨pz,hpz,rfl⟩:=hi;have hlt:=(k1t.mp hpz).1;have ep:=zU3 hpz;have hk:=hp pz (k1m hpz);have k1:=hk.m2;have k2:=hk.f2;have k3:=hk.m1;simp only[d8,p0e,zu8,k9,k1l,j1r,j1v,j1w];walk_at "dn";refine tk (m:=m+(4-(i+1))) (hD.mono (by lia)) (by lia) (by lia) fun b0 δ1 b1 b2 hD=>?_
    exact hQ _ _ ⟨_,rfl,by rw[ep];lia,by rw[ep];lia⟩ hD
   .rw[k1v]at h1 hD;have e:acc=(acc.map intD).map D.int:=by
     rw[i1j]
     conv=>lhs;rw[<-List.map_id acc]
     refine e1h fun z hz=>?_
     let ⟨i,hi,rfl⟩:=g1w.mp hz;have hi2:i<ps.length:=by lia
     let ⟨s,es,_⟩:=h2 i (d8 ps[i]) acc[i] (by rw[k1h,k1u hi2];rfl) (k1u hi);rw[es];rfl
    rw[e];refine hq (acc.map intD) _ ⟨by rw[k1v,h1],fun i hi=>?_⟩ (hD.mono (by lia));let ⟨s,es,s1,s2⟩:=h2 i (d8 ps[i]) acc[i] (by rw[k1h,k1u hi];rfl) (k1u (by lia));have e9:(acc.map intD).getD i 0=s:=by rw[k1r,k1h,k1u (by lia),es];rfl
    rw[e9];exact ⟨s1,s2⟩
def zW9(ps:List zy3)(st:List Int)(r:Int)(c:List Int):D:=.tup [zw1 c,zw1 (zw0 ps st c r)]
def w1b:Sp2:=λds δ q _=>∃ps call sh st r,ds=[b7 ps call sh,zw1 st,.int r]/\zv0 ps call sh/\StZ ps st/\∀css:List (List Int),(∀c,c∈css↔zi2 (ps.length:Int) c/\okZ ps sh c r st)->css.length<=8->q (.lst (css.map (zW9 ps st r))) δ
abbrev v0o:List Str:=["_law_told_here","_law_stands_here","_law_number_here"]
def f0l:zz2 ["_law_told_here","_law_stands_here","_law_number_here","_law_found","_law_chosen","_law_left"] v0o (zz0 s0f):=(by walk_at "k7")
abbrev r0o(P:V0)(w:T0)(K:Fg)(mg:Str->Option Z0)(base:J0)(cs:Cs):Prop:=Fun2 P w K mg base "_law_ways" 4 v0o w1b
def f0k(Df:zy4 K mg "_law_ways" s0f v0o f fd)(T:Txt K mg cs)(zu5:y0n P w K mg base cs)(zs4:u0e P w K mg base cs):r0o P w K mg base cs:=by
 walk_at "= f0l +z7*$+ST%H.1~~~,-!?wxGy!6&'$$3/5*%4{/5+<>*.2~~~,-!6&'!#)!#5!#1$(:'~s~@3~~~4~~~#>@~=t~'~6~@fPgU5G'=7~@5~~~6~~~#16&'%(On7opqr!M!#5!#>$$;(0#7"
 .let ⟨j,call,sh,st,r,rfl,h,hz,G⟩:=h;rfl
 .let ⟨j,call,sh,st,r,rfl,h,hz,G⟩:=h;rw[show o4 ["_law_told_here","_law_stands_here","_law_number_here","_law_found","_law_chosen","_law_left"] _=[.val _,.val _,.val _,.no,.no,.no]from rfl];have I:=h.l;have J:w1i j:=⟨by lia,λp L=>(h.p p L).l1⟩;walk_at "dn";refine ⟨j.length,by rw[k1v],I,λD py=>?_⟩;have M:D.length<=8:=by rw[py.length_eq,u0j];exact j1o (i1a (by decide) I) (by decide)
  refine m7 (λi F m=>∃g n o,F=[.val (b7 j call sh),.val (zw1 st),.val (.int r),.own (g.map (zW9 j st r)),n,o]/\m=δ/\(∀c,c∈g↔c∈D.take i/\okZ j sh c r st)/\g.length<=i) ⟨[],_,_,rfl,rfl,(λc=>by simp),k1q _⟩ ?_ ?_
  .rintro i d F m rest hi ⟨g,n,o,rfl,rfl,v,y⟩ t;rw[k1h,k1c]at hi;let ⟨c,B,rfl⟩:=hi;have N:=(k1t.mp B).1;have C:D.take (i+1)=D.take i++[c]:=by rw[g1m,B];rfl
   unfold y0d b7;walk_at "dn";refine ⟨j,_,st,_,c,r,rfl,.inl rfl,.inl rfl,J,hz.l,?_⟩;have skip:¬okZ j sh c r st->∀n o,rest [.val (b7 j call sh),.val (zw1 st),.val (.int r),.own (g.map (zW9 j st r)),n,o] m:=λno n o=>t _ _ ⟨g,n,o,rfl,rfl,λz=>by
    rw[v z,C,j1g,k1d];exact ⟨λ⟨a,b⟩=>⟨.inl a,b⟩,λ⟨a,b⟩=>a.elim (λa=>⟨a,b⟩) λa=>absurd (a▸b) no⟩,by lia⟩
   have go:okZ j sh c r st->∀n o,(g.map (zW9 j st r)).length<1000/\rest [.val (b7 j call sh),.val (zw1 st),.val (.int r),.own (g.map (zW9 j st r)++[zW9 j st r c]),n,o] m:=λok n o=>⟨by rw[k1v];lia,t _ _ ⟨g++[c],n,o,by rw[j1z];rfl,rfl,λz=>by
    rw[C,j1g,j1g,k1d,v z];exact ⟨λa=>a.elim (λa=>⟨.inl a.1,a.2⟩) λa=>⟨.inr a,by rw[a];exact ok⟩,λ⟨a,b⟩=>a.elim (λa=>.inl ⟨a,b⟩) .inr⟩,by rw[k1b,i1d];lia⟩⟩
   unfold c0q;cases e:v0k j (zw0 j st c r)with
   |some k=>
    walk_at "dn";exact skip (λz=>by rw[z.2]at e;cases e) _ _
   |none=>
    unfold zw1;walk_at "dn";simp only[x0l,p0q,z8,h1p,W2,k1v];by_cases h0:(c.length:Int)=0
    .rw[H0 h0];have O:c=[]:=g1o.mp (by lia);exact ⟨rfl,by lia,(go ⟨λz=>z.1 O,e⟩ _ _).2⟩
    .rw[O0 h0];by_cases u:r∈sh
     .rw[O0 (by simp[u])];exact skip (λz=>z.1 ⟨λw=>h0 (by rw[w];rfl),u⟩) _ _
     .rw[H0 (by simp[u])];exact ⟨rfl,by lia,(go ⟨λz=>u z.2,e⟩ _ _).2⟩
  .rintro F m ⟨g,n,o,rfl,rfl,v,y⟩;rw[k1v]at v y;walk_at "dn";refine G g (λc=>?_) (by lia);rw[v c,h1z,py.mem_iff,w1f]
def r1x{v:D}(x:List Int):zo0 (zf8 l k v) x=if x=k then some v else zo0 l x:=by
 unfold zf8;split
 .rename_i h
  induction l with
  |nil=>cases h
  |cons a l f=>
   unfold zo0 at f ⊢;rw[k1l,h1j,h1j];by_cases d:a.1=k
   .rw[H0 d];by_cases e:x=k
    .rw[H0 e,e,M0 (show (a.1,v).1=k from d)];rfl
    .have n1:decide ((a.1,v).1=x)=false:=Q0 λz=>e (z.symm.trans d)
     rw[O0 e,n1];have n2:∀l:List (List Int×D),(l.map λc=>if c.1=k then (c.1,v)else c).find? (λc=>decide (c.1=x))=l.find? λc=>decide (c.1=x):=by
      intro l
      induction l with
      |nil=>rfl
      |cons b l f=>
       rw[k1l,h1j,h1j];by_cases g:b.1=k
       .have i:decide (b.1=x)=false:=Q0 λz=>e (z.symm.trans g)
        rw[H0 g,i];exact f
       .rw[O0 g,f]
     rw[n2]
   .rw[O0 d];have j:l.any (λc=>decide (c.1=k))=true:=by
     rw[g1q,Q0 d,Bool.false_or]at h;exact h
    cases ex:decide (a.1=x)with
    |true=>rw[O0 λz=>d ((X5 ex).trans z)]
    |false=>exact f j
 .rename_i h;unfold zo0;rw[List.find?_append];by_cases e:x=k
  .subst e;rw[H0 rfl,g1i.mpr (λc m z=>h (g1n.mpr ⟨c,m,z⟩))];simp
  .rw[O0 e];have:([(k,v)]:List (List Int×D)).find? (λc=>decide (c.1=x))=none:=by rw[h1j,Q0 λz=>e z.symm];rfl
   rw[this,Option.or_none]
def FwG(ps:List zy3)(call:Int)(sh:List Int)(f:Int)(st:List Int)(i:Nat)(k:List Int)(d:D):Prop:=StZ ps k/\∃n:Int,d=.int n/\∀m v,Way ps call sh m (f+(i:Int)) k v->Way ps call sh (i+m) f st (n+v)
structure Fwd(ps:List zy3)(call:Int)(sh:List Int)(f:Int)(st:List Int)(i:Nat)(l:List (List Int×D)):Prop where
 d:DX l (FwG ps call sh f st i)
 a:∀m v,Way ps call sh (i+m) f st v->∃k n v',(k,D.int n)∈l/\Way ps call sh m (f+(i:Int)) k v'/\n+v'<=v
def Fwd.nil{f:Int}(h:StZ ps st):Fwd ps call sh f st 0 [(st,.int 0)]:=by
 have e:f+((0:Nat):Int)=f:=by lia
 refine ⟨⟨by simp,λb a=>?_⟩,λm v w=>⟨st,0,v,k1d.mpr rfl,?_,by lia⟩⟩
 .rw[k1d.mp a];refine ⟨h,0,rfl,λm v w=>?_⟩;rw[e]at w;rw[i1e,c1r];exact w
 .rw[i1e]at w;rw[e];exact w
structure Mid(ps:List zy3)(call:Int)(sh:List Int)(f:Int)(st:List Int)(i:Nat)(P:List Int->Int->List Int->Prop)(l:List (List Int×D)):Prop where
 d:DX l (FwG ps call sh f st (i+1))
 p:∀k n c,P k n c->∃n',zo0 l (zw0 ps k c (f+(i:Int)))=some (.int n')/\n'<=n+y0x ps call c
def Mid.mono{f:Int}{P a:List Int->Int->List Int->Prop}(h:Mid ps call sh f st i P l)(b:∀k n c,a k n c->P k n c):Mid ps call sh f st i a l:=⟨h.d,λk n c z=>h.p k n c (b k n c z)⟩
theorem Mid.put{f:Int}{P:List Int->Int->List Int->Prop}(h:Mid ps call sh f st i P l){n:Int}(D:∀p∈ps,POk p)(F:FwG ps call sh f st i k (.int n))(G:zi2 (ps.length:Int) c)(ok:okZ ps sh c (f+(i:Int)) k):
 ∃u,(zo0 l (zw0 ps k c (f+(i:Int)))).getD (.int (n+y0x ps call c))=.int u/\Mid ps call sh f st i (λg j o=>P g j o\/g=k/\j=n/\o=c) (zf8 l (zw0 ps k c (f+(i:Int))) (.int (if u<n+y0x ps call c then u else n+y0x ps call c))):=by
 let ⟨hz,n0,e0,I⟩:=F;cases e0;have B:FwG ps call sh f st (i+1) (zw0 ps k c (f+(i:Int))) (.int (n+y0x ps call c)):=⟨zF5 D hz ok.2,_,rfl,λm v w=>by
  rw[show f+((i+1:Nat):Int)=f+(i:Int)+1 from by lia]at w;have:=I (m+1) _ (.s G ok w);rw[show i+1+m=i+(m+1)from by lia,Int.add_assoc];exact this⟩
 obtain ⟨u,t,J⟩:∃u,(zo0 l (zw0 ps k c (f+(i:Int)))).getD (.int (n+y0x ps call c))=.int u/\FwG ps call sh f st (i+1) (zw0 ps k c (f+(i:Int))) (.int u):=by
  cases e:zo0 l (zw0 ps k c (f+(i:Int)))with
  |none=>exact ⟨_,rfl,B⟩
  |some y=>
   have hm:zw0 ps k c (f+(i:Int))∈l.map (·.1):=by
    unfold zo0 at e;rw[k1c]at e;let ⟨L,r,rfl⟩:=e;have M:=e1j r;exact j1u.mpr ⟨L,f1v r,by simpa using M⟩
   let ⟨O,C,N⟩:=h.d.at hm;rw[e]at C;cases C;let ⟨a,u,rfl,b⟩:=N;exact ⟨u,rfl,a,u,rfl,b⟩
 refine ⟨u,t,h.d.put (by split;exact J;exact B),λg j o z=>?_⟩;rw[r1x];rcases z with z |⟨rfl,rfl,rfl⟩
 .let ⟨n1,e1,r⟩:=h.p g j o z;split
  .rename_i e;rw[e]at e1;rw[e1]at t;have:n1=u:=by cases t;rfl
   refine ⟨_,rfl,?_⟩;split<;>lia
  .exact ⟨n1,e1,r⟩
 .rw[H0 rfl];refine ⟨_,rfl,?_⟩;split<;>lia
def Mid.fwd{f:Int}{o:List (List Int×D)}(h:Fwd ps call sh f st i l)(h':Mid ps call sh f st i (λk n c=>(k,D.int n)∈l/\zi2 (ps.length:Int) c/\okZ ps sh c (f+(i:Int)) k) o):Fwd ps call sh f st (i+1) o:=by
 refine ⟨h'.d,λm v w=>?_⟩;rw[show i+1+m=i+(m+1)from by lia]at w;let ⟨k,n,B,t,b,C⟩:=h.a (m+1) v w;cases b with
 | @s _ _ _ c g u ok b=>
  let ⟨y,e,hn⟩:=h'.p k n c ⟨t,u,ok⟩;refine ⟨_,y,g,?_,by rw[show f+((i+1:Nat):Int)=f+(i:Int)+1 from by lia];exact b,by lia⟩;unfold zo0 at e;rw[k1c]at e;let ⟨z,r,e⟩:=e;have j:=e1j r;have j:z.1=zw0 ps k c (f+(i:Int)):=by simpa using j
  rw[<-j,<- e];exact f1v r
def r1w{x:XK2}{a:En}{q:D->En->Dk->Prop}(hs:zi1 sd st)(e:a[i]?=some (.val sd))(h:q (.dwt [(st,.int v)]) a δ):d0m i v x a δ q:=by
 unfold d0m;rw[e];rcases hs with rfl |rfl<;>(simp only[y7];exact h)
def o0n:Sp2:=λds δ q _=>∃ps call sh sd st,∃f:Int,∃r:Nat,ds=[b7 ps call sh,sd,.int f,.int (r:Int)]/\zi1 sd st/\zv0 ps call sh/\StZ ps st/\0<=f/\f<=47/\r<=8/\∀es last,Fwd ps call sh f st r last->q (.lst (es++[D.dwt last])) δ
abbrev v9:List Str:=["_law_told_here","_law_stands_here","_law_first","_law_rounds"]
def o0a:zz2 ["_law_told_here","_law_stands_here","_law_first","_law_rounds","_law_entries","_law_k","_law_following","_law_here","_law_price","_law_chosen","_law_left","_law_more"] v9 (zz0 z0b):=(by walk_at "k7")
abbrev y0l(P:V0)(w:T0)(K:Fg)(mg:Str->Option Z0)(base:J0)(cs:Cs):Prop:=Fun2 P w K mg base "_law_forward" 5 v9 o0n
def n0z(Df:zy4 K mg "_law_forward" z0b v9 f fd)(T:Txt K mg cs)(zq4:r0o P w K mg base cs)(zq5:r0p P w K mg base cs):y0l P w K mg base cs:=by
 walk_at "= o0a +z5*!7~~~)*~R$+ST%S~-~!#7$3/>*%4{/>+8~~~I*+ST%(~~65#>a%C3/c*%4C3/2~*%4b0~m9~~~%(ST%H.:~~~,-!#&!#c!2DE#1#>$a%C3/+~~*%4C3/V~*%4b0~m;~~~%+<W~*2DE#2~.<~~~,-!#&!#+~~$(=~~~I*~#V~?>~~~%?~~~U~@~~~!#W~!A~~~I*~#V~#W~B~~~$(On5opqr!C~~~I$(0#5"
 .let ⟨e,call,sh,sd,st,o,r,rfl,U,h,hz,f1,f2,ag,hq⟩:=h;rfl
 .let ⟨e,call,sh,sd,st,o,r,rfl,U,h,hz,f1,f2,ag,hq⟩:=h;rw[show o4 ["_law_told_here","_law_stands_here","_law_first","_law_rounds","_law_entries","_law_k","_law_following","_law_here","_law_price","_law_chosen","_law_left","_law_more"] _=[.val _,.val _,.val _,.val _,.no,.no,.no,.no,.no,.no,.no,.no]from rfl];have few:=λ(ah:List (List Int×D)) (i:Nat) (d:DX ah (FwG e call sh o st i))=>c0r h.l h.p d λk v g=>g.1
  walk_at "dn";refine r1w U rfl ?_;walk_at "dn";refine ⟨⟨by lia,by lia⟩,?_⟩;rw[j1c];refine m7 (λi t C=>∃F last c5 c6 M N y a b,t=[.val (b7 e call sh),.val sd,.val (.int o),.val (.int (r:Int)),.own (F++[D.dwt last]),c5,c6,M,N,y,a,b]/\C=δ/\F.length=i/\Fwd e call sh o st i last/\i<=r) ⟨[],_,_,_,_,_,_,_,_,rfl,rfl,rfl,Fwd.nil hz,j1e _⟩ ?_ ?_
  .rintro i d t C rest hi ⟨F,last,c5,c6,M,N,y,a,b,rfl,rfl,G,V,ai⟩ O;let ⟨aq,rfl⟩:=h9 hi;have ea:atI (F++[D.dwt last]) (i:Int)=some (.dwt last):=v0f (by rw[j1y (by lia),G,h1n];rfl);unfold y0d;walk_at "dn";rw[c1r,ea];refine m7 (λj t I=>∃m M N y a b,t=[.val (b7 e call sh),.val sd,.val (.int o),.val (.int (r:Int)),.own (F++[D.dwt last]),.val (.int (i:Int)),.zt9 m,M,N,y,a,b]/\I=C/\Mid e call sh o st i (λk n c=>(k,D.int n)∈last.take j/\zi2 (e.length:Int) c/\okZ e sh c (o+(i:Int)) k) m) ⟨[],_,_,_,_,_,rfl,rfl,DX.nil,λk n c z=>nomatch z.1⟩ ?_ ?_
   .rintro j d t I aj hj ⟨m,M,N,y,a,b,rfl,rfl,B⟩ J;rw[k1h,k1c]at hj;let ⟨kv,W,rfl⟩:=hj;let ⟨k,dk⟩:=kv;have hG:=V.d.all _ (k1m W);have ak:last.take (j+1)=last.take j++[(k,dk)]:=by rw[g1m,W];rfl
    let ⟨X,n,rfl,al⟩:=hG;have hG:FwG e call sh o st i k (.int n):=⟨X,n,rfl,al⟩;unfold y0d;simp only[b0n];walk_at "dn";refine ⟨e,call,sh,k,o+(i:Int),rfl,h,X,λQ hc ar=>?_⟩;refine m7 (λjj t R=>∃m y a b,t=[.val (b7 e call sh),.val sd,.val (.int o),.val (.int (r:Int)),.own (F++[D.dwt last]),.val (.int (i:Int)),.zt9 m,.val (zw1 k),.val (.int n),y,a,b]/\R=I/\Mid e call sh o st i (λS Z c=>((S,D.int Z)∈last.take j/\zi2 (e.length:Int) c/\okZ e sh c (o+(i:Int)) S)\/S=k/\Z=n/\c∈Q.take jj) m) ⟨m,_,_,_,rfl,rfl,B.mono λS Z c z=>z.elim id λz=>nomatch z.2.2⟩ ?_ ?_
    .rintro jj d t R an aa ⟨m,y,a,b,rfl,rfl,B⟩ L;rw[k1h,k1c]at aa;let ⟨c,ab,rfl⟩:=aa;have ac:Q.take (jj+1)=Q.take jj++[c]:=by rw[g1m,ab];rfl
     let ⟨ae,hok⟩:=(hc c).mp (k1m ab);let ⟨u,eu,ao⟩:=B.put h.p hG ae hok;unfold y0d;simp only[zW9];walk_at "dn";refine ⟨e,call,sh,c,_,rfl,h,ae,.inl rfl,?_⟩;walk_at "dn";refine ⟨rfl,?_⟩;simp only[zw1,y7,eu];refine ⟨by have:=few m _ B.d;lia,L _ _ ⟨_,_,_,_,rfl,rfl,ao.mono λS Z c' z=>?_⟩⟩;rcases z with z |⟨z1,z2,z3⟩
     .exact .inl (.inl z)
     .rw[ac,j1g,k1d]at z3;exact z3.elim (λz3=>.inl (.inr ⟨z1,z2,z3⟩)) λz3=>.inr ⟨z1,z2,z3⟩
    .rintro t R ⟨m,y,a,b,rfl,rfl,B⟩;rw[k1v]at B;refine J _ _ ⟨m,_,_,_,_,_,rfl,rfl,B.mono λS Z c z=>?_⟩;rw[ak,j1g,k1d]at z;obtain ⟨z1 |z1,z2⟩:=z
     .exact .inl ⟨z1,z2⟩
     .cases z1;exact .inr ⟨rfl,rfl,by rw[h1z];exact (hc c).mpr z2⟩
   .rintro t I ⟨m,M,N,y,a,b,rfl,rfl,B⟩;rw[k1v,h1z]at B;walk_at "dn";refine ⟨rfl,by rw[k1b,G];show i+1<1000;lia,O _ _ ⟨F++[D.dwt last],m,_,_,_,_,_,_,_,rfl,rfl,by rw[k1b,G];rfl,Mid.fwd V B,by lia⟩⟩
  .rintro t C ⟨F,last,c5,c6,M,N,y,a,b,rfl,rfl,G,V,ai⟩;rw[a8]at V;walk_at "dn";exact hq F last V
theorem w1a{ps:List zy3}{call:Int}{sh:List Int}{f:Int}{st:List Int}{r:Nat}:∀{l:List (List Int×D)},(∀c∈l,FwG ps call sh f st r c.1 c.2)->∃ns:List Int,l.map (·.2)=ns.map D.int/\(∀v∈ns,Way ps call sh r f st v)/\∀k n,(k,D.int n)∈l->n∈ns
 | [],_=>⟨[],rfl,λv b=>(nomatch b),λk n a=>(nomatch a)⟩
 |(k,d)::l,h=>by
  let ⟨ns,e1,e2,e3⟩:=w1a λc a=>h c (k1o _ a)
  let ⟨_,n,e,g⟩:=h (k,d) (k1g ..);dsimp only at e;subst e;refine ⟨n::ns,by rw[k1l,k1l,e1],λv b=>?_,λi j a=>?_⟩
  .rcases j1n.mp b with rfl |b
   .have:=g 0 0 (.z _ _)
    rwa[b1c,Int.add_zero]at this
   .exact e2 v b
  .rcases j1n.mp a with a |a
   .cases a;exact k1g ..
   .exact k1o _ (e3 i j a)
def Fwd.zX0{f:Int}{r:Nat}(h:Fwd ps call sh f st r l)(e:∀k n,(k,D.int n)∈l->n∈ns)(w:Way ps call sh r f st v):∃n∈ns,n<=v:=by
 let ⟨k,n,d,b,c,g⟩:=h.a 0 v w;cases c;exact ⟨n,e k n b,by lia⟩
def k0x:Sp2:=λds δ q _=>∃ps call sh sd st,∃f:Int,∃r:Nat,ds=[b7 ps call sh,sd,.int f,.int (r:Int)]/\zi1 sd st/\zv0 ps call sh/\StZ ps st/\0<=f/\f<=47/\r<=8/\∀w,LZ ps call sh r f st w->q (.int w) δ
abbrev y0k:List Str:=["_law_told_here","_law_stands_here","_law_first","_law_rounds"]
def h0s:zz2 ["_law_told_here","_law_stands_here","_law_first","_law_rounds"] y0k (zz0 u0s):=(by walk_at "k7")
abbrev u0d(P:V0)(w:T0)(K:Fg)(mg:Str->Option Z0)(base:J0)(cs:Cs):Prop:=Fun2 P w K mg base "_law_least" 6 y0k k0x
def h0r(Df:zy4 K mg "_law_least" u0s y0k f fd)(T:Txt K mg cs)(zu6:y0l P w K mg base cs):u0d P w K mg base cs:=by
 walk_at "= h0s (0%~~%U~!D~~~%c~]^_.E~~~,-!#&!#)!#1!#7$1~'$1~'"
 .let ⟨j,call,sh,k,st,o,r,rfl,a,h,hz,f1,f2,b,g⟩:=h;rfl
 .let ⟨j,call,sh,k,st,o,r,rfl,a,h,hz,f1,f2,b,g⟩:=h;walk_at "dn";refine ⟨j,call,sh,k,st,o,r,rfl,a,h,hz,f1,f2,b,λu last i=>?_⟩;dsimp only;rw[e0z];dsimp only;let ⟨ns,e1,e2,e3⟩:=w1a i.d.all;rw[e1,y7];refine ⟨λe=>?_,λm hm=>?_⟩
  .refine g (-1) (.inl ⟨rfl,λv w=>?_⟩);let ⟨n,hn,_⟩:=i.zX0 e3 w;rw[e]at hn;cases hn
  .refine g m (.inr ⟨zF6 ⟨h.l,h.p,h.c⟩ (e2 m hm.1),e2 m hm.1,λv w=>?_⟩);let ⟨n,hn,t⟩:=i.zX0 e3 w;exact b1a (hm.2 n hn) t
def a6{K:Fg}{W D:X0}(c:zP6 K W C)(a:D≠W):PySem.W.mroIn K C (.ref D)=some (decide (D=C)):=by
 rw[c.mroIn];by_cases h:D=C
 .subst h;simp[g1j]
 .have e:(Value.ref C:: .ref W::PySem.W.zx8).contains (.ref D)=false:=by simp[g1j,h,a]
  rw[e,Q0 h]
def q0v{l:List X0}(h:l.Nodup)(i j:Nat){a b:X0}(hi:l[i]?=some a)(k:l[j]?=some b)(c:i≠j):a≠b:=by
 intro e;subst e;let ⟨d,e1⟩:=k1t.mp hi;let ⟨f,e2⟩:=k1t.mp k;have g:=d1u.mp h;rcases Nat.lt_or_gt_of_ne c with z |z
 .exact g i j d f z (e1.trans e2.symm)
 .exact g j i f d z (e2.trans e1.symm)
def l5{cs:Cs}:cs.NoneHolds∈cs.ds:=k1m (show cs.ds[5]?=some cs.NoneHolds from rfl)
def x6{cs:Cs}:cs.NoStands∈cs.ds:=k1m (show cs.ds[2]?=some cs.NoStands from rfl)
def w6{cs:Cs}:cs.NoRounds∈cs.ds:=k1m (show cs.ds[3]?=some cs.NoRounds from rfl)
def v6{cs:Cs}:cs.TooGreat∈cs.ds:=k1m (show cs.ds[6]?=some cs.TooGreat from rfl)
def y0j(T:Txt K mg cs):PySem.W.mroIn K cs.NoneHolds (.ref cs.NoneHolds)=some true:=(a6 (T.err _ l5) (T.ne _ l5)).trans (congrArg some (M0 rfl))
def y0a(T:Txt K mg cs):PySem.W.mroIn K cs.NoneHolds (.ref cs.NoStands)=some false:=(a6 (T.err _ l5) (T.ne _ x6)).trans (congrArg some (Q0 (q0v T.nd 2 5 rfl rfl (by decide))))
def x0z(T:Txt K mg cs):PySem.W.mroIn K cs.NoneHolds (.ref cs.NoRounds)=some false:=(a6 (T.err _ l5) (T.ne _ w6)).trans (congrArg some (Q0 (q0v T.nd 3 5 rfl rfl (by decide))))
def x0y(T:Txt K mg cs):PySem.W.mroIn K cs.NoneHolds (.ref cs.TooGreat)=some false:=(a6 (T.err _ l5) (T.ne _ v6)).trans (congrArg some (Q0 (q0v T.nd 6 5 rfl rfl (by decide))))
def x0x(T:Txt K mg cs):PySem.W.mroIn K cs.NoStands (.ref cs.NoneHolds)=some false:=(a6 (T.err _ x6) (T.ne _ l5)).trans (congrArg some (Q0 (q0v T.nd 5 2 rfl rfl (by decide))))
def w0r(T:Txt K mg cs):PySem.W.mroIn K cs.NoStands (.ref cs.NoStands)=some true:=(a6 (T.err _ x6) (T.ne _ x6)).trans (congrArg some (M0 rfl))
def w0q(T:Txt K mg cs):PySem.W.mroIn K cs.NoStands (.ref cs.NoRounds)=some false:=(a6 (T.err _ x6) (T.ne _ w6)).trans (congrArg some (Q0 (q0v T.nd 3 2 rfl rfl (by decide))))
def w0p(T:Txt K mg cs):PySem.W.mroIn K cs.NoStands (.ref cs.TooGreat)=some false:=(a6 (T.err _ x6) (T.ne _ v6)).trans (congrArg some (Q0 (q0v T.nd 6 2 rfl rfl (by decide))))
def x0w(T:Txt K mg cs):PySem.W.mroIn K cs.NoRounds (.ref cs.NoneHolds)=some false:=(a6 (T.err _ w6) (T.ne _ l5)).trans (congrArg some (Q0 (q0v T.nd 5 3 rfl rfl (by decide))))
def w0o(T:Txt K mg cs):PySem.W.mroIn K cs.NoRounds (.ref cs.NoStands)=some false:=(a6 (T.err _ w6) (T.ne _ x6)).trans (congrArg some (Q0 (q0v T.nd 2 3 rfl rfl (by decide))))
def w0n(T:Txt K mg cs):PySem.W.mroIn K cs.NoRounds (.ref cs.NoRounds)=some true:=(a6 (T.err _ w6) (T.ne _ w6)).trans (congrArg some (M0 rfl))
def w0m(T:Txt K mg cs):PySem.W.mroIn K cs.NoRounds (.ref cs.TooGreat)=some false:=(a6 (T.err _ w6) (T.ne _ v6)).trans (congrArg some (Q0 (q0v T.nd 6 3 rfl rfl (by decide))))
def x0v(T:Txt K mg cs):PySem.W.mroIn K cs.TooGreat (.ref cs.NoneHolds)=some false:=(a6 (T.err _ v6) (T.ne _ l5)).trans (congrArg some (Q0 (q0v T.nd 5 6 rfl rfl (by decide))))
def w0l(T:Txt K mg cs):PySem.W.mroIn K cs.TooGreat (.ref cs.NoStands)=some false:=(a6 (T.err _ v6) (T.ne _ x6)).trans (congrArg some (Q0 (q0v T.nd 2 6 rfl rfl (by decide))))
def w0k(T:Txt K mg cs):PySem.W.mroIn K cs.TooGreat (.ref cs.NoRounds)=some false:=(a6 (T.err _ v6) (T.ne _ w6)).trans (congrArg some (Q0 (q0v T.nd 3 6 rfl rfl (by decide))))
def w0j(T:Txt K mg cs):PySem.W.mroIn K cs.TooGreat (.ref cs.TooGreat)=some true:=(a6 (T.err _ v6) (T.ne _ v6)).trans (congrArg some (M0 rfl))
def f0j:(("most":Str)=="most")=true:=by decide +kernel
def Ask(ps:List zy3)(call:Int)(sh:List Int)(sd fd rd:D)(δ:Dk)(q:D->Dk->Prop):Prop:=(y0b ps sd fd rd=0->∃st f r,Good ps call sh sd fd rd st f r/\(∀w,0<=w->LZ ps call sh r f st w->q (.tup [.str "price",.int w]) δ)/\(LZ ps call sh r f st (-1)->q (.tup [.str "none",.int 0]) δ))/\
 (y0b ps sd fd rd=1->q (.tup [.str "stands",.int 0]) δ)/\(y0b ps sd fd rd=2->q (.tup [.str "rounds",.int 0]) δ)/\(3<=y0b ps sd fd rd->q (.tup [.str "great",.int (y0b ps sd fd rd)]) δ)
def v1z(cs:Cs):Sp2:=λds δ q _=>∃ps call sh sd fd rd,ds=[i4 cs ps call sh,sd,fd,rd]/\zb5 ps sd fd rd/\Ask ps call sh sd fd rd δ q
abbrev v0n:List Str:=["_law_works_here","_law_stands_here","_law_first","_law_rounds"]
def f0i:zz2 ["_law_works_here","_law_stands_here","_law_first","_law_rounds","_law_found","e"] v0n (zz0 s0e):=(by walk_at "k7")
abbrev v0m(P:V0)(w:T0)(K:Fg)(mg:Str->Option Z0)(base:J0)(cs:Cs):Prop:=Fun2 P w K mg base "_law_told" 14 v0n (v1z cs)
def f0h(Df:zy4 K mg "_law_told" s0e v0n f fd)(T:Txt K mg cs)(zh5:f0q P w K mg base cs):v0m P w K mg base cs:=by
 walk_at "= f0i +<5*M!d!'$+F~~~+~G~~~(<5*M!d!.H~~~,I~~~!#&!#)!#1!#7$$D~8+~J~~~)~~3~(<5*M!d!'$D~8+~K~~~p~3~(<5*M!d!'$D~8+~L~~~J~3~(<5*M!d!'$M~~~8>+~N~~~O~~~*3~(<5*M!d!P~~~8#>$D~8+~Q~~~R~~~3~(<5*M!d!'$S~~~(0#5"
 .let ⟨b,call,sh,c,fd,rd,rfl,ho,h0,d,e,g⟩:=h;rfl
 .let ⟨b,call,sh,c,fd,rd,rfl,ho,h0,d,e,g⟩:=h;rw[show o4 ["_law_works_here","_law_stands_here","_law_first","_law_rounds","_law_found","e"] _=[.val _,.val _,.val _,.val _,.no,.no]from rfl];walk_at "dn";refine ⟨b,call,sh,c,fd,rd,rfl,ho,λi=>?_,λk=>?_,λk=>?_,λk=>?_⟩
  .let ⟨st,f,r,G,j,hn⟩:=h0 i;refine ⟨st,f,r,G,λw l a=>?_,λa=>?_⟩
   .exact j w l a
   .simp only[y0j T,y0a T,x0z T,x0y T];walk_at "dn";exact hn a
  .simp only[x0x T,w0r T,w0q T,w0p T];walk_at "dn";exact d k
  .simp only[x0w T,w0o T,w0n T,w0m T];walk_at "dn";exact e k
  .simp only[x0v T,w0l T,w0k T,w0j T];walk_at "dn";simp only[f0j,T.zt6,(T.err _ l5).xc,(T.err _ x6).xc,(T.err _ w6).xc,(T.err _ v6).xc,W2];exact g k
def v1y{w b:Int}(h:LZ ps call sh n r st w)(h':LZ ps call sh n r st b):w=b:=by
 rcases h with ⟨rfl,n1⟩|⟨_,c,d⟩
 .rcases h' with ⟨rfl,_⟩|⟨_,a,_⟩
  .rfl
  .exact absurd a (n1 _)
 .rcases h' with ⟨_,n2⟩|⟨_,a,e⟩
  .exact absurd c (n2 _)
  .exact Int.le_antisymm (d _ a) (e _ c)
def eq2(a:Str)(k:Int):zg7 [.str a,.int k] [.str a,.int k]=true:=by simp[zg7,eqV,toV]
def l1b{f:Int}{r:Nat}(h:WS ps call sh)(hs:zi1 sd st)(hz:StZ ps st)(f1:0<=f)(f2:f<=47)(hr:r<=8):zb5 ps sd (.int f) (.int (r:Int))/\y0b ps sd (.int f) (.int (r:Int))=0:=by
 let ⟨z1,z2⟩:=l1k h.p hz hs;have b:=h.l;refine ⟨⟨z2,rfl,rfl,by lia⟩,?_⟩;rw[o0v z1 (x0a f1 f2) (x0a (by lia) (by lia)),O0 (by lia),O0,rdK,O0 (by lia)];rw[g1n];rintro ⟨p,a,e⟩;have:=(h.p p a).f2;lia
def f0g(cs:Cs):Sp2:=λds δ q _=>∃ps call sh sd st,∃f:Int,∃r:Nat,ds=[b7 ps call sh,i4 cs ps call sh,sd,.int f,.int (r:Int)]/\zi1 sd st/\zv0 ps call sh/\StZ ps st/\0<=f/\f<=47/\r<=8/\q (.bl true) δ
abbrev y0i:List Str:=["_law_told_here","_law_works_here","_law_stands_here","_law_first","_law_rounds"]
def h0q:zz2 ["_law_told_here","_law_works_here","_law_stands_here","_law_first","_law_rounds","_law_due","_law_found"] y0i (zz0 u0r):=(by walk_at "k7")
abbrev u0c(P:V0)(w:T0)(K:Fg)(mg:Str->Option Z0)(base:J0)(cs:Cs):Prop:=Fun2 P w K mg base "_law_right" 15 y0i (f0g cs)
def h0p(Df:zy4 K mg "_law_right" u0r y0i f fd)(T:Txt K mg cs)(zs5:u0d P w K mg base cs)(zy5:v0m P w K mg base cs)(zt5:x0b P w K mg base cs):u0c P w K mg base cs:=by
 walk_at "= h0q +<>*.T~~~,-!#&!#1!#7!#5$+<I*.U~~~,-!#)!#1!#7!#5$+:@.~/~#>'=(0efPg#IM!d!'$=;(0|efPg6I'd=,~.V~~~,-!6I'!#>$"
 .let ⟨g,call,sh,i,st,j,r,rfl,a,h,hz,f1,f2,b,m⟩:=h;rfl
 .let ⟨g,call,sh,i,st,j,r,rfl,a,h,hz,f1,f2,b,m⟩:=h;rw[show o4 ["_law_told_here","_law_works_here","_law_stands_here","_law_first","_law_rounds","_law_due","_law_found"] _=[.val _,.val _,.val _,.val _,.val _,.no,.no]from rfl];have n:WS g call sh:=⟨h.l,h.p,h.c⟩;let ⟨ok,o⟩:=l1b n a hz f1 f2 b;have hs:=h.s.2.2;walk_at "dn";refine ⟨g,call,sh,i,st,j,r,rfl,a,h,hz,f1,f2,b,λw t=>?_⟩;have no:∀{k:Int},k≠0->y0b g i (.int j) (.int (r:Int))=k->False:=λh e=>h (e.symm.trans o)
  refine ⟨g,call,sh,i,_,_,rfl,ok,λ_=>⟨st,j,r,⟨a,rfl,rfl,n,by lia,hz,f1,f2,b⟩,λu v d=>?_,λd=>?_⟩,λk=>(no (by decide) k).elim,λk=>(no (by decide) k).elim,λk=>absurd k (by rw[o];decide)⟩
  .cases v1y t d;walk_at "dn";rw[O0 (by lia)];refine ⟨rfl,?_⟩;rw[show numD (.int w) w=true from M0 rfl];exact m
  .cases v1y t d;walk_at "dn";exact ⟨rfl,m⟩
def pG(n:Int):zy3:=⟨n,0,[1],1⟩
def f0f{cs:Cs}{n:Int}(h:n=7\/n=6)(a:q (v0l cs (pG n)) δ):r0d cs [.int n,.int 0,.lst [.int 1],.int 1] δ q x:=by
 rcases h with rfl |rfl<;>exact ⟨rfl,a⟩
def k0w{cs:Cs}(h:ps.length<=4)(c:q (i4 cs ps 1 []) δ):z0r cs [.lst (ps.map (v0l cs)),.int 1,.lst []] δ q x:=by
 let ⟨a,b⟩:=c0t (cs:=cs) h;refine ⟨rfl,b,?_⟩;rw[H0 (by exact a),H0 (by rfl),H0 (by rfl)];exact c
section
variable{ps:List zy3}{call:Int}{sh:List Int}{sd fd rd:D}{δ:Dk}{q:D->Dk->Prop}
def v1x(h:y0b ps sd fd rd=1)(a:q (.tup [.str "stands",.int 0]) δ):Ask ps call sh sd fd rd δ q:=by
 unfold Ask;rw[h];exact ⟨λe=>absurd e (by decide),λ_=>a,λe=>absurd e (by decide),λe=>absurd e (by decide)⟩
def v1w(h:y0b ps sd fd rd=2)(a:q (.tup [.str "rounds",.int 0]) δ):Ask ps call sh sd fd rd δ q:=by
 unfold Ask;rw[h];exact ⟨λe=>absurd e (by decide),λe=>absurd e (by decide),λ_=>a,λe=>absurd e (by decide)⟩
def v1v{k:Int}(h:y0b ps sd fd rd=k)(b:3<=k)(a:q (.tup [.str "great",.int k]) δ):Ask ps call sh sd fd rd δ q:=by
 unfold Ask;rw[h];exact ⟨λe=>by lia,λe=>by lia,λe=>by lia,λ_=>a⟩
end
def f0e(cs:Cs):Sp2:=λds δ q _=>∃p ns sd,∃f:Int,ds=[.ref p,sd,.int f]/\DkB p ns 1 δ/\0<=f/\f<=47/\∀ δ',q (.bl true) δ'
def lg1(cs:Cs):TS2:=λE ρ δ=>∃p ns,∃f:Int,∃c1 c6 c7,ρ=[.val (.ref p),c1,.val (.int f),.val (i4 cs [pG 7,pG 7,pG 7,pG 7] 1 []),.val (i4 cs [pG 7] 1 []),.val (i4 cs [pG 6] 1 []),c6,c7]/\0<=f/\f<=47/\DkB p ns 1 δ/\∀ δ',E.rt (.bl true) δ'
def lg2(cs:Cs):TS2:=λE ρ δ=>∃p d,∃f:Int,∃c1 c7,ρ=[.val (.ref p),c1,.val (.int f),.val (i4 cs [pG 7,pG 7,pG 7,pG 7] 1 []),.val (i4 cs [pG 7] 1 []),.val (i4 cs [pG 6] 1 []),.val d,c7]/\0<=f/\f<=47/\o5 d=true/\j4 d 0 24=false/\∀ δ',E.rt (.bl true) δ'
abbrev y0h:List Str:=["_law_deck_here","_law_stands_here","_law_first"]
def zp9:zz2 ["_law_deck_here","_law_stands_here","_law_first","_law_many","_law_full","_law_few","_law_none","_law_thing"] y0h (zz0 u0q):=(by walk_at "k7")
abbrev u0b(P:V0)(w:T0)(K:Fg)(mg:Str->Option Z0)(base:J0)(cs:Cs):Prop:=Fun2 P w K mg base "_law_great" 15 y0h (f0e cs)
def h0o(Df:zy4 K mg "_law_great" u0q y0h f fd)(T:Txt K mg cs)(zy5:v0m P w K mg base cs)(zz3:q8 P w K mg base cs)(zq7:zm5 P w K mg base "Part" 4 (r0d cs))(zt0:zm5 P w K mg base "Works" 6 (z0r cs)):u0b P w K mg base cs:=by
 have nd:=zp9.nd;refine zC3 Df zp9 (λds δ q x h=>?_) (λcdv A outer s H E Y hr=>⟨_,(d4 (v7 3 nd (v0b zt0 hr.m w4 (l0 (t0b zR9 z40 (b5 (l0 (v0b zq7 hr.m w4 (l0 b3 (l0 b3 (l0 (b5 (l0 b3 y4)) (l0 b3 y4))))) y4)) b3) (l0 b3 (l0 (b5 y4) y4)))))
  (d4 (v7 4 nd (v0b zt0 hr.m w4 (l0 (b5 (l0 (v0b zq7 hr.m w4 (l0 b3 (l0 b3 (l0 (b5 (l0 b3 y4)) (l0 b3 y4))))) y4)) (l0 b3 (l0 (b5 y4) y4)))))
  (d4 (v7 5 nd (v0b zt0 hr.m w4 (l0 (b5 (l0 (v0b zq7 hr.m w4 (l0 b3 (l0 b3 (l0 (b5 (l0 b3 y4)) (l0 b3 y4))))) y4)) (l0 b3 (l0 (b5 y4) y4)))))
  (p6 (t':=(lg1 cs)) (d4 (p0u (PW2.pt (u1o (i9 (r0g hr.zw4) j0i (l4 zy5 hr.m w4 (l0 (zx0 3) (l0 (b5 (l0 b3 (l0 b3 (l0 b3 (l0 b3 y4))))) (l0 (zx0 2) (l0 b3 y4))))) (y0g (l0 z0m (l0 b3 y4))) (nomark _)) (e0n (i9 (r0g hr.zw4) j0i (l4 zy5 hr.m w4 (l0 (zx0 4) (l0 (b5 (l0 b3 y4)) (l0 (zx0 2) (l0 b3 y4))))) (y0g (l0 z0m (l0 b3 y4))) (nomark _))))) (y8 (y0e r0b)) y0f)
  (p6 (t':=(lg1 cs)) (d4 (p0u (PW2.pt (u1o (i9 (r0g hr.zw4) j0i (l4 zy5 hr.m w4 (l0 (zx0 5) (l0 (b5 (l0 b3 y4)) (l0 (zx0 2) (l0 b3 y4))))) (y0g (l0 z0m (l0 b3 y4))) (nomark _)) (e0n (i9 (r0g hr.zw4) j0i (l4 zy5 hr.m w4 (l0 (zx0 3) (l0 (b5 (l0 b3 (l0 b3 (l0 b3 y4)))) (l0 (zx0 2) (l0 b3 y4))))) (y0g (l0 z0m (l0 b3 y4))) (nomark _))))) (y8 (y0e r0b)) y0f)
  (p6 (t':=(lg1 cs)) (d4 (v7 6 nd (z1n n0t zO7 (b5 (l0 (e0j b3) (l0 b3 (l0 r0b (l0 j0x y4))))) (l4 zz3 hr.m w4 (l0 (zx0 0) (l0 b3 y4)))))
  (p6 (t':=(lg2 cs)) (d4 (e0c d1o rfl (e0d (b5 (l0 b3 (l0 (e0j b3) (l0 r0b (l0 j0x (l0 z0m (l0 (b5 (l0 b3 y4)) y4)))))))) (v0h (i:=7) nd rfl (by walk_at "v2")) (m0u (i:=7)) (y8 (p0u (i9 (r0g hr.zw4) j0i (l4 zy5 hr.m w4 (l0 (zx0 5) (l0 (b5 (l0 (zx0 7) y4)) (l0 (zx0 2) (l0 b3 y4))))) (y0g (l0 z0m (l0 b3 y4))) (nomark _)) (y8 (y0e r0b)) y0f)))
  (p6 (t':=(lg2 cs)) (d4 (e0c d1o rfl (e0d (b5 (l0 j0x (l0 b3 (l0 z0m (l0 n1v (l0 (n1e 6 0) (l0 r0b y4)))))))) (v0h (i:=7) nd rfl (by walk_at "v2")) (m0u (i:=7)) (y8 (p0u (i9 (r0g hr.zw4) j0i (l4 zy5 hr.m w4 (l0 (zx0 5) (l0 (zx0 7) (l0 (zx0 7) (l0 (zx0 6) y4))))) (y0g (l0 z0m (l0 b3 y4))) (nomark _)) (y8 (y0e r0b)) y0f)))
  (p6 (t':=(lg2 cs)) (d4 (e0c d1o rfl (e0d (b5 (l0 r0b (l0 j0x (l0 z0m (l0 (e0j b3) y4)))))) (v0h (i:=7) nd rfl (by walk_at "v2")) (m0u (i:=7)) (y8 (p0u (i9 (r0g hr.zw4) j0i (l4 zy5 hr.m w4 (l0 (zx0 5) (l0 (b5 (l0 b3 y4)) (l0 (zx0 7) (l0 b3 y4))))) (y0g (l0 z0m (l0 b3 y4))) (nomark _)) (y8 (y0e r0b)) y0f)))
  (p6 (t':=(lg2 cs)) (y8 (y0e (r1c (e0q (t0t hr.zw4) m0o (l4 zy5 hr.m w4 (l0 (zx0 3) (l0 (b5 (l0 b3 (l0 b3 (l0 b3 (l0 b3 y4))))) (l0 (zx0 2) (l0 (zx0 6) y4))))) (y0g (l0 z0m (l0 b3 y4))) (nomark _)) (r1d (e0q (t0t hr.zw4) m0o (l4 zy5 hr.m w4 (l0 (zx0 5) (l0 (b5 (l0 b3 y4)) (l0 b3 (l0 b3 y4))))) (y0g (l0 z0m (l0 b3 y4))) (nomark _)))))) (by
   rintro E g δ ⟨p,n,f,c1,j,rfl,f1,f2,c,e,l⟩;walk_at "ds";refine ⟨_,1,[],_,_,_,rfl,⟨rfl,rfl,c,by decide⟩,v1w (l0k rfl (.inr e)) ?_⟩;walk_at "ds";refine ⟨rfl,_,1,[],_,_,_,rfl,⟨rfl,rfl,rfl,by decide⟩,v1w (l0k rfl (.inl rfl)) ?_⟩;walk_at "ds";exact ⟨rfl,l _⟩))) (by
   rintro E g δ ⟨p,n,f,c1,j,rfl,f1,f2,c,e,l⟩;walk_at "ds";refine m7 (λi g a=>∃j,g=[.val (.ref p),c1,.val (.int f),.val (i4 cs [pG 7,pG 7,pG 7,pG 7] 1 []),.val (i4 cs [pG 7] 1 []),.val (i4 cs [pG 6] 1 []),.val n,j]/\δ=a) ⟨_,rfl,rfl⟩ ?_ ?_
   .rintro i d g a rest hi ⟨j,rfl,rfl⟩ b;have hd:=j1l.mp (show ([.bl true,.non,.str "0",.int (-1)]:List D).all (λd=>(!j4 d 0 47)&&o5 d)=true from rfl) d (k1m hi);rw[k1p,i1m]at hd;unfold y0d;walk_at "ds";refine ⟨_,1,[],_,_,_,rfl,⟨rfl,hd.2,rfl,by decide⟩,v1w (l0k rfl (.inl hd.1)) ?_⟩;walk_at "ds";exact ⟨rfl,b _ _ ⟨_,rfl,rfl⟩⟩
   rintro g a ⟨j,rfl,rfl⟩;exact ⟨p,n,f,_,_,rfl,f1,f2,c,e,l⟩))) (by
   rintro E g δ ⟨p,n,f,c1,j,rfl,f1,f2,c,e,l⟩;walk_at "ds";refine m7 (λi g a=>∃j,g=[.val (.ref p),c1,.val (.int f),.val (i4 cs [pG 7,pG 7,pG 7,pG 7] 1 []),.val (i4 cs [pG 7] 1 []),.val (i4 cs [pG 6] 1 []),.val n,j]/\δ=a) ⟨_,rfl,rfl⟩ ?_ ?_
   .rintro i d g a rest hi ⟨j,rfl,rfl⟩ b;have hd:=j1l.mp (show ([.non,.int 5,.str "ab",.dic [],.dic [(Sum.inl 6,.int 0)],.bl true]:List D).all (λd=>(!b6 [pG 6] d)&&(u5 d&&o5 d))=true from rfl) d (k1m hi);rw[k1p,i1m]at hd;unfold y0d;walk_at "ds";refine ⟨_,1,[],_,_,_,rfl,⟨(k1p _ _▸hd.2).1,(k1p _ _▸hd.2).2,c,by decide⟩,v1x (l0l hd.1) ?_⟩;walk_at "ds";exact ⟨rfl,b _ _ ⟨_,rfl,rfl⟩⟩
   rintro g a ⟨j,rfl,rfl⟩;exact ⟨p,n,f,_,_,rfl,f1,f2,c,e,l⟩))) (by
   rintro E g δ ⟨p,n,f,c1,j,rfl,f1,f2,c,e,l⟩;walk_at "ds";refine m7 (λi g a=>∃j,g=[.val (.ref p),c1,.val (.int f),.val (i4 cs [pG 7,pG 7,pG 7,pG 7] 1 []),.val (i4 cs [pG 7] 1 []),.val (i4 cs [pG 6] 1 []),.val n,j]/\δ=a) ⟨_,rfl,rfl⟩ ?_ ?_
   .rintro i d g a rest hi ⟨j,rfl,rfl⟩ b;have hd:=j1l.mp (show ([.int 7,.int (-1),.bl true,.non,.str "6",.lst [.int 6]]:List D).all (λd=>(!b6 [pG 6] (.lst [d]))&&u5 (.lst [d]))=true from rfl) d (k1m hi);rw[k1p,i1m]at hd;unfold y0d;walk_at "ds";refine ⟨_,1,[],_,_,_,rfl,⟨hd.2,rfl,rfl,by decide⟩,v1x (l0l hd.1) ?_⟩;walk_at "ds";exact ⟨rfl,b _ _ ⟨_,rfl,rfl⟩⟩
   rintro g a ⟨j,rfl,rfl⟩;exact ⟨p,n,f,_,_,rfl,f1,f2,c,e,l⟩))) (by
   rintro E g δ ⟨p,ns,f,c1,t,j,rfl,f1,f2,o,l⟩;walk_at "ds";refine tk (m:=0) o (by decide) (by decide) λr v z B _=>?_
   walk_at "ds";obtain ⟨d,en,c,e⟩:∃d:D,atI [D.int (-1),.int 25,.bl true,.non] r=some d/\o5 d=true/\j4 d 0 24=false:=by
    have:r=0\/r=1\/r=2\/r=3:=by lia
    rcases this with rfl |rfl |rfl |rfl<;>exact ⟨_,rfl,rfl,rfl⟩
   rw[en];exact ⟨p,d,f,_,_,rfl,f1,f2,c,e,l⟩))) (by
   rintro E g δ ⟨p,ns,f,c1,t,j,rfl,f1,f2,o,l⟩;have wf:=x0a f1 f2;walk_at "ds";refine ⟨_,1,[],_,_,_,rfl,⟨rfl,rfl,rfl,by decide⟩,v1v (k:=8) ((o0v rfl wf rfl).trans rfl) (by decide) ?_⟩;walk_at "ds";refine ⟨rfl,_,1,[],_,_,_,rfl,⟨rfl,rfl,rfl,by decide⟩,v1x (l0l rfl) ?_⟩;walk_at "ds";exact ⟨rfl,p,ns,f,_,_,_,rfl,f1,f2,o,l⟩))) (by
   rintro E g δ ⟨p,ns,f,c1,t,j,rfl,f1,f2,o,l⟩;have wf:=x0a f1 f2;walk_at "ds";refine ⟨_,1,[],_,_,_,rfl,⟨rfl,rfl,rfl,by decide⟩,v1v (k:=3) ((o0v rfl wf rfl).trans rfl) (by decide) ?_⟩;walk_at "ds";refine ⟨rfl,_,1,[],_,_,_,rfl,⟨rfl,rfl,rfl,by decide⟩,v1v (k:=6) ((o0v rfl wf rfl).trans rfl) (by decide) ?_⟩;walk_at "ds";exact ⟨rfl,p,ns,f,_,_,_,rfl,f1,f2,o,l⟩))))),λds δ q x h=>?_⟩)
 .let ⟨p,ns,y,u,rfl,o,f1,f2,l⟩:=h;rfl
 .let ⟨p,ns,y,u,rfl,o,f1,f2,l⟩:=h;walk_at "ds";refine f0f (.inl rfl) ?_;rw[m0m];walk_at "ds";refine ⟨by decide,by decide,by decide,k0w (ps:=[pG 7,pG 7,pG 7,pG 7]) (by decide) ?_⟩;rw[m0m];walk_at "ds";refine f0f (.inl rfl) ?_;rw[m0m];walk_at "ds";refine k0w (ps:=[pG 7]) (by decide) ?_;rw[m0m];walk_at "ds";refine f0f (.inr rfl) ?_;rw[m0m];walk_at "ds";refine k0w (ps:=[pG 6]) (by decide) ?_;walk_at "ds";exact ⟨p,ns,u,_,_,_,rfl,f1,f2,o,l⟩
def k0v{l:List Int}:(l.map D.int).all nrf=true:=by
 rw[j1l];intro d hd;let ⟨x,_,rfl⟩:=j1u.mp hd;rfl
def v1u(p:zy3):c2 (d8 p)=true:=by
 show (c1 (.int p.full)&&(c1 (.int p.mark)&&(((p.ws.map D.int).all nrf)&&(c1 (.int p.price)&&true))))=true;rw[k0v];rfl
def r1v(ps:List zy3):(ps.map d8).all c2=true:=by
 rw[j1l];intro d hd;let ⟨p,_,rfl⟩:=j1u.mp hd;exact v1u p
def zF7(a:zy3)(ps:List zy3)(call:Int)(sh:List Int):(d8 a::(ps.map d8++[D.int call,.lst (sh.map D.int)])).all c2=true:=by
 rw[i1n,v1u,a1h,r1v];show (sh.map D.int).all nrf&&true=true;rw[k0v];rfl
def lwT:TS2:=λE ρ δ=>∃ps call sh p ns c0 c3 c4 c5 c6,ρ=[c0,.val (.ref p),.val (b7 ps call sh),c3,c4,c5,c6]/\zv0 ps call sh/\DkB p ns 10 δ/\∀ δ',E.rt (.bl true) δ'
structure LOk(ps:List zy3)(call:Int)(sh st:List Int):Prop where
 t:zv0 ps call sh
 z:StZ ps st
structure FOk(f:Int)(r:Nat):Prop where
 f1:0<=f
 f2:f<=47
 r:r<=8
def l2T(cs:Cs):TS2:=λE ρ δ=>∃ps call sh st p ns c0 c5 c6,ρ=[c0,.val (.ref p),.val (b7 ps call sh),.val (i4 cs ps call sh),.val (zw1 st),c5,c6]/\LOk ps call sh st/\DkB p ns 5 δ/\∀ δ',E.rt (.bl true) δ'
def l3T(cs:Cs):TS2:=λE ρ δ=>∃ps call sh st p ns c0,∃f:Int,∃r:Nat,ρ=[c0,.val (.ref p),.val (b7 ps call sh),.val (i4 cs ps call sh),.val (zw1 st),.val (.int f),.val (.int (r:Int))]/\LOk ps call sh st/\FOk f r/\DkB p ns 1 δ/\∀ δ',E.rt (.bl true) δ'
def l4T(cs:Cs):TS2:=λE ρ δ=>∃ps call sh st p c0,∃f:Int,∃r:Nat,ρ=[c0,.val (.ref p),.val (b7 ps call sh),.val (i4 cs ps call sh),.val (zw1 st),.val (.int f),.val (.int (r:Int))]/\LOk ps call sh st/\FOk f r/\∀ δ',E.rt (.bl true) δ'
abbrev v1t:List Str:=["_law_script"]
def zX1:zz2 ["_law_script","_law_deck_here","_law_told_here","_law_works_here","_law_stands_here","_law_first","_law_rounds"] v1t (zz0 l1q):=(by walk_at "k7")
def zF8(Df:zy4 K mg "law" l1q v1t f fd)(T:Txt K mg cs)(v:s0c P w K mg base cs)(o:u0k P w K mg base cs)(y:r0t P w K mg base cs)(n:w0s P w K mg base cs)(zz3:q8 P w K mg base cs)(d:u0c P w K mg base cs)(u:u0b P w K mg base cs):zo4 P w K mg base (CX1 P w) 16 f fd v1t (x1a K b0y):=by
 have nd:=zX1.nd;refine yz7 Df zX1 (λds δ q x h=>?_) (λcdv A outer s H E Y O Q hr=>⟨_,(m0c (zG6 (v7 1 nd (l4 v hr.m w4 (l0 (zx0 0) y4))))
  (m0c (zG6 (v7 2 nd (l4 o hr.m w4 (l0 (zx0 1) (l0 b3 (l0 b3 y4))))))
  (m0c (yz6 (PW2.pt (r1e (i9 zS5 d_gt (z35 x0s zO8 T.zG9 z1r (l0 (z1d 2 b3) y4)) b3 (nomark _)) (z1m (i9 (t0t hr.zw4) m0o (l4 zz3 hr.m w4 (l0 (zx0 1) (l0 b3 y4))) b3 (nomark _))))) (l1t (s1f 2 O Q)) (q1c y0f))
  (q1c (p6 (t':=lwT) (d4 (v7 3 nd (l4 y hr.m w4 (l0 (zx0 2) y4)))
  (d4 (v7 4 nd (l4 n hr.m w4 (l0 (zx0 1) (l0 (z1d 2 b3) y4))))
  (p6 (t':=(l2T cs)) (d4 (v7 5 nd (z1n n0t zO7 (b5 (l0 b3 (l0 b3 (l0 b3 (l0 (l4 zz3 hr.m w4 (l0 (zx0 1) (l0 b3 y4))) y4))))) (l4 zz3 hr.m w4 (l0 (zx0 1) (l0 b3 y4)))))
  (d4 (v7 6 nd (z1n n0t zO7 (b5 (l0 b3 (l0 b3 (l0 (l4 zz3 hr.m w4 (l0 (zx0 1) (l0 b3 y4))) y4)))) (l4 zz3 hr.m w4 (l0 (zx0 1) (l0 b3 y4)))))
  (p6 (t':=(l3T cs)) (d4 (p0u (PW2.pt (u1o (e0o (e0p (l4 d hr.m w4 (l0 (zx0 2) (l0 (zx0 3) (l0 (zx0 4) (l0 (zx0 5) (l0 (zx0 6) y4)))))))) (e0n (e0o (e0p (l4 u hr.m w4 (l0 (zx0 1) (l0 (zx0 4) (l0 (zx0 5) y4))))))))) (y8 (y0e r0b)) y0f)
  (p6 (t':=(l4T cs)) (d4 (p0u (e0o (e0p (l4 d hr.m w4 (l0 (zx0 2) (l0 (zx0 3) (l0 (zx0 4) (l0 (t0b r1p zO4 (t0b x0m r0h (zx0 5) b3) b3) (l0 (zx0 6) y4)))))))) (y8 (y0e r0b)) y0f)
  (p6 (t':=(l4T cs)) (y8 (y0e (l4 d hr.m w4 (l0 (zx0 2) (l0 (zx0 3) (l0 (u1l k0i zN1 T.zY6 h0i (l0 (zx0 4) y4)) (l0 (zx0 5) (l0 (zx0 6) y4)))))))) (by
   rintro E J δ ⟨i,call,sh,st,p,L,f,r,rfl,h,k,B⟩;walk_at "ds";exact ⟨i,call,sh,_,st,f,r,rfl,.inr rfl,h.t,h.z,k.f1,k.f2,k.r,B _⟩))) (by
   rintro E J δ ⟨i,call,sh,st,p,L,f,r,rfl,h,k,B⟩;walk_at "ds";refine ⟨by decide,i,call,sh,_,st,(f+1)%48,r,rfl,.inl rfl,h.t,h.z,by lia,by lia,k.r,?_⟩;walk_at "ds";exact ⟨i,call,sh,st,p,_,f,r,rfl,h,k,B⟩))) (by
   rintro E J δ ⟨i,call,sh,st,p,ns,L,f,r,rfl,h,k,g,B⟩;walk_at "ds";refine ⟨i,call,sh,_,st,f,r,rfl,.inl rfl,h.t,h.z,k.f1,k.f2,k.r,?_⟩;walk_at "ds";refine ⟨p,ns,_,f,rfl,g,k.f1,k.f2,λab=>?_⟩;walk_at "ds";exact ⟨i,call,sh,st,p,_,f,r,rfl,h,k,B⟩)))) (by
   rintro E J δ ⟨i,call,sh,st,p,ns,L,c5,c6,rfl,h,g,B⟩;walk_at "ds";refine tk (m:=4) g (by decide) (by decide) λf0 ac f1 f2 g=>?_
   walk_at "ds";refine tk (m:=3) g (by decide) (by decide) λI aa b1 b2 g=>?_
   walk_at "ds";obtain ⟨f,ef,R,S⟩:∃f:Int,atI [D.int 0,.int 0,.int 47,.int f0] I=some (.int f)/\0<=f/\f<=47:=by
    have:I=0\/I=1\/I=2\/I=3:=by lia
    rcases this with rfl |rfl |rfl |rfl
    .exact ⟨0,rfl,by decide,by decide⟩
    .exact ⟨0,rfl,by decide,by decide⟩
    .exact ⟨47,rfl,by decide,by decide⟩
    .exact ⟨f0,rfl,f1,by lia⟩
   rw[ef];refine tk (m:=2) g (by decide) (by decide) λM ae r1 r2 g=>?_
   walk_at "ds";refine tk (m:=1) g (by decide) (by decide) λb af b1 b2 g=>?_
   walk_at "ds";obtain ⟨r,er,U⟩:∃r:Nat,atI [D.int 0,.int 8,.int M] b=some (.int (r:Int))/\r<=8:=by
    have:b=0\/b=1\/b=2:=by lia
    rcases this with rfl |rfl |rfl
    .exact ⟨0,rfl,by decide⟩
    .exact ⟨8,rfl,k1q _⟩
    .exact ⟨M.toNat,by rw[show ((M.toNat:Nat):Int)=M by lia];rfl,by lia⟩
   rw[er];exact ⟨i,call,sh,st,p,ns,_,f,r,rfl,h,⟨R,S,U⟩,g,B⟩)))) (by
   rintro E J δ ⟨i,call,sh,p,ns,L,c3,c4,c5,c6,rfl,h,g,B⟩;have ag:=h.l;walk_at "ds";refine ⟨i,call,sh,rfl,h,?_⟩;rw[m0m];walk_at "ds";refine ⟨p,ns,5,i,rfl,g,by lia,h.p,λst V hz g=>?_⟩;exact ⟨i,call,sh,st,p,ns,_,_,_,rfl,⟨h,hz⟩,g,B⟩)))))),λds δ q x h=>?_⟩)
 .let ⟨ns,rfl,hl,rfl,B⟩:=h;rfl
 .let ⟨ns,rfl,hl,rfl,B⟩:=h;rw[show o4 ["_law_script","_law_deck_here","_law_told_here","_law_works_here","_law_stands_here","_law_first","_law_rounds"] _=[.val _,.no,.no,.no,.no,.no,.no]from rfl];walk_at "ds";refine ⟨ns,rfl,rfl,λp ah g=>?_⟩;walk_at "ds";refine ⟨p,ns,11,rfl,⟨0,g,by decide⟩,λi call sh ai h g=>?_⟩;unfold b7;walk_at "ds";rw[k1v];have fin:∀F G,zv0 F call sh->DkB p ns 10 G->lwT {nx:=λx δ=>q D.non δ,rt:=q,xc:=λC fs aj δ=>x C fs δ} [.val (.scr (ns.map D.int)),.val (.ref p),.val (b7 F call sh),.no,.no,.no,.no] G:=λF G h' W=>⟨F,call,sh,p,ns,_,_,_,_,_,rfl,h',W,B⟩
  by_cases N:1<(i.length:Int)
  .rw[H0 N];refine tk (m:=10) g (by decide) (by decide) λa0 V a1 a2 g=>?_
   walk_at "ds";by_cases ha:a0=1
   .rw[H0 ha];rcases i with _ |⟨X,_ |⟨p1,i⟩⟩
    .exact absurd N (by decide)
    .exact absurd N (show ¬(1:Int)<1 by decide)
    .let ⟨n0,⟨ca,k,rfl,k1,k2,k3⟩,k4⟩:=g;refine ⟨_,d8 p1,i.map d8,_,rfl,zF7 X i call sh,λj c Z e=>?_,λa ds e=>?_,fin (X::X::i) _ ⟨h.l,λz hz=>?_,h.c,h.s⟩ ⟨n0,⟨ca,k,rfl,k1,k2,k3⟩,k4⟩⟩
     .match j,Z,e with
      | 0,_,e=>cases e;exact k0v
      | 1,_,e=>cases e;rfl
      | 2,Z,_=>exact absurd rfl Z
      | 3,_,e=>cases e;rfl
      | 4,_,e=>cases e;rfl
      | 5,_,e=>cases e;rfl
      | 6,_,e=>cases e;rfl
     .cases e;show ((ns.map D.int).all nrf&&true)=true;rw[k0v];rfl
     .rcases j1n.mp hz with rfl |hz
      .exact h.p _ (k1g ..)
      .rcases j1n.mp hz with rfl |hz
       .exact h.p _ (k1g ..)
       .exact h.p z (k1o _ (k1o _ hz))
   .rw[O0 ha];exact fin i _ h g
  .rw[O0 N];exact fin i _ h (g.mono (by decide))
def n0y:zz2 ["self","at"] ["self","at"] (zz0 z0a):=(by walk_at "k7")
def n0x(F:Fun K "__init__" "NoPart.__init__" z0a f fd)(xc:XC K C)(n0:zy9 K C "at"):zo4 P w K mg base CX0 1 f fd ["self","at"] (zf6 C "at"):=by
 refine F.ok n0y (λb H Q E h=>?_) (λcdv A outer s H b Q E hr h=>⟨_,t0c (v1a (pv 0) (pv 1) rfl),?_⟩)
 .let ⟨x,v,rfl,_⟩:=h;rfl
 .let ⟨x,v,rfl,hx,q⟩:=h;exact ⟨_,rfl,_,rfl,x,C,rfl,hx,xc,n0,λd hd a=>q d hd a⟩
def o0m:zz2 ["self","at"] ["self","at"] (zz0 z0s):=(by walk_at "k7")
def o0l(F:Fun K "__init__" "NoWorks.__init__" z0s f fd)(xc:XC K C)(n0:zy9 K C "at"):zo4 P w K mg base CX0 1 f fd ["self","at"] (zf6 C "at"):=by
 refine F.ok o0m (λb H Q E h=>?_) (λcdv A outer s H b Q E hr h=>⟨_,t0c (v1a (pv 0) (pv 1) rfl),?_⟩)
 .let ⟨x,v,rfl,_⟩:=h;rfl
 .let ⟨x,v,rfl,hx,q⟩:=h;exact ⟨_,rfl,_,rfl,x,C,rfl,hx,xc,n0,λd hd a=>q d hd a⟩
def n0w:zz2 ["self","at"] ["self","at"] (zz0 y0z):=(by walk_at "k7")
def n0v(F:Fun K "__init__" "NoPlan.__init__" y0z f fd)(xc:XC K C)(n0:zy9 K C "at"):zo4 P w K mg base CX0 1 f fd ["self","at"] (zf6 C "at"):=by
 refine F.ok n0w (λb H Q E h=>?_) (λcdv A outer s H b Q E hr h=>⟨_,t0c (v1a (pv 0) (pv 1) rfl),?_⟩)
 .let ⟨x,v,rfl,_⟩:=h;rfl
 .let ⟨x,v,rfl,hx,q⟩:=h;exact ⟨_,rfl,_,rfl,x,C,rfl,hx,xc,n0,λd hd a=>q d hd a⟩
def q0u:zz2 ["self","most"] ["self","most"] (zz0 n9):=(by walk_at "k7")
def q0t(F:Fun K "__init__" "TooGreat.__init__" n9 f fd)(xc:XC K C)(n0:zy9 K C "most"):zo4 P w K mg base CX0 1 f fd ["self","most"] (zf6 C "most"):=by
 refine F.ok q0u (λb H Q E h=>?_) (λcdv A outer s H b Q E hr h=>⟨_,t0c (v1a (pv 0) (pv 1) rfl),?_⟩)
 .let ⟨x,v,rfl,_⟩:=h;rfl
 .let ⟨x,v,rfl,hx,q⟩:=h;exact ⟨_,rfl,_,rfl,x,C,rfl,hx,xc,n0,λd hd a=>q d hd a⟩
@[elab_as_elim] theorem el1{α:Type}{motive:List α->Prop}(us:List α)(hl:us.length=1)(h:∀a,motive [a]):motive us:=match us,hl with
 | [a],_=>h a
@[elab_as_elim] theorem el2{α:Type}{motive:List α->Prop}(us:List α)(hl:us.length=2)(h:∀a b,motive [a,b]):motive us:=match us,hl with
 | [a,b],_=>h a b
@[elab_as_elim] theorem el3{α:Type}{motive:List α->Prop}(us:List α)(hl:us.length=3)(h:∀a b c,motive [a,b,c]):motive us:=match us,hl with
 | [a,b,c],_=>h a b c
@[elab_as_elim] theorem el4{α:Type}{motive:List α->Prop}(us:List α)(hl:us.length=4)(h:∀a b c d,motive [a,b,c,d]):motive us:=match us,hl with
 | [a,b,c,d],_=>h a b c d
@[elab_as_elim] theorem el5{α:Type}{motive:List α->Prop}(us:List α)(hl:us.length=5)(h:∀a b c d e,motive [a,b,c,d,e]):motive us:=match us,hl with
 | [a,b,c,d,e],_=>h a b c d e
local macro_rules | `(tactic|walk_at $s:str)=>do
 unless s.getString.startsWith "e" do Lean.Macro.throwUnsupported
 `(tactic|exact fun _ _ _ _ _ _ us hl=>$(Lean.mkIdent ("el"++(s.getString.drop 1).toString).toName) us hl (by intros;rfl))
def fl:List (String×Stmt):=[("is_number",u0y),("is_whole",s0t),("is_row",m0b),("is_whole_row",z0w),("is_rising_row",p9),("loss",w1x),("is_stand",s0s),("check_first",z0e),("check_rounds",z0v),("is_parts",s0r),("is_shut",p0j),("is_choice_among",u8),("is_choice",u0x),("cost_of",p0i),("is_stands",u0w),("check_stands",z0u),("is_shut_to",x0j),("stands_behind",o9),("first_fallen",z0t),("check_size",x0i),("choices_in",x0h),("steps_from",x0g),("layers_of",u0v),("worth_by",s0q),("worths_of_layers",l7),("check_worth",z0d),("least",g0u),("table_of",s0p),("worth_of",s0o),("_law_cell",s0n),("_law_draw",s0m),("_law_deck",s0l),("_law_take",s0k),("_law_spec",s0j),("_law_part",s0i),("_law_after",u0u),("_law_works",u0t),("_law_made",s0h),("_law_stands",x0f),("_law_cost",s0g),("_law_choices",z0c),("_law_ways",s0f),("_law_forward",z0b),("_law_least",u0s),("_law_number",x0e),("_law_told",s0e),("_law_right",u0r),("_law_great",u0q),("law",l1q)]
def all_mk{l:PySem.W.OpenLaw}{w:T0}{K:Fg}{h:J0}{mg:Str->Option Z0}{fa:X0}{cs:Cs}(X:K.In h)(G:h.Ns V2 mg)(cq:mg "law"=some (.ref fa))(T:Txt K mg cs)(H:HD.zY5 K fl)(zf0:HD.zB3 K cs.NoPart "NoPart.__init__" z0a)(zj5:HD.zB3 K cs.NoWorks "NoWorks.__init__" z0s)(zf1:HD.zB3 K cs.NoPlan "NoPlan.__init__" y0z)(zm8:HD.zB3 K cs.TooGreat "TooGreat.__init__" n9)(bw:HD.MkF K cs.Part "Part.__init__" u0p)(bt:HD.MkF K cs.Works "Works.__init__" x0d):
 ∃fd:l3,(∀(s:Y0) (v:Z0),BindsTo s fd ⟨[v],[]⟩ [("_law_script",v)])/\∀base:J0,K.In base->base.Ns V2 mg->zo4 l.prog w K mg base (CX1 l.prog w) 16 fa fd v1t (x1a K b0y):=by
 let ⟨_,_,N⟩:=H.at X G 0 rfl (ps:=y0y) (by walk_at "e1");let ⟨_,_,af⟩:=H.at X G 1 rfl (ps:=w0e) (by walk_at "e3");let ⟨_,_,bp⟩:=H.at X G 2 rfl (ps:=q0g) (by walk_at "e1");let ⟨_,_,i⟩:=H.at X G 3 rfl (ps:=n8) (by walk_at "e5");let ⟨_,_,c⟩:=H.at X G 4 rfl (ps:=j7) (by walk_at "e3");let ⟨_,_,bx⟩:=H.at X G 5 rfl (ps:=c0v) (by walk_at "e2");let ⟨_,_,ag⟩:=H.at X G 6 rfl (ps:=v0u) (by walk_at "e2");let ⟨_,_,o⟩:=H.at X G 7 rfl (ps:=y9) (by walk_at "e1");let ⟨_,_,j⟩:=H.at X G 8 rfl (ps:=j8) (by walk_at "e2");let ⟨_,_,ah⟩:=H.at X G 9 rfl (ps:=v0v) (by walk_at "e1");let ⟨_,_,bf⟩:=H.at X G 10 rfl (ps:=t0h) (by walk_at "e1");let ⟨_,_,b⟩:=H.at X G 11 rfl (ps:=f6) (by walk_at "e2");let ⟨_,_,O⟩:=H.at X G 12 rfl (ps:=y0w) (by walk_at "e2");let ⟨_,_,bg⟩:=H.at X G 13 rfl (ps:=t0e) (by walk_at "e2");let ⟨_,_,P⟩:=H.at X G 14 rfl (ps:=y0s) (by walk_at "e2");let ⟨_,_,k⟩:=H.at X G 15 rfl (ps:=l8) (by walk_at "e2");let ⟨_,_,y⟩:=H.at X G 16 rfl (ps:=d9) (by walk_at "e3");let ⟨_,_,f⟩:=H.at X G 17 rfl (ps:=d7) (by walk_at "e4");let ⟨_,_,n⟩:=H.at X G 18 rfl (ps:=k8) (by walk_at "e2");let ⟨_,_,z⟩:=H.at X G 19 rfl (ps:=b9) (by walk_at "e4");let ⟨_,_,B⟩:=H.at X G 20 rfl (ps:=a9) (by walk_at "e2");let ⟨_,_,C⟩:=H.at X G 21 rfl (ps:=z0z) (by walk_at "e3");let ⟨_,_,Q⟩:=H.at X G 22 rfl (ps:=y0p) (by walk_at "e4");let ⟨_,_,ai⟩:=H.at X G 23 rfl (ps:=v0s) (by walk_at "e2");let ⟨_,_,a⟩:=H.at X G 24 rfl (ps:=j6) (by walk_at "e1");let ⟨_,_,p⟩:=H.at X G 25 rfl (ps:=x9) (by walk_at "e1");let ⟨_,_,bu⟩:=H.at X G 26 rfl (ps:=l0a) (by walk_at "e4");let ⟨_,_,aj⟩:=H.at X G 27 rfl (ps:=v0q) (by walk_at "e4");let ⟨_,_,ak⟩:=H.at X G 28 rfl (ps:=v0r) (by walk_at "e1");let ⟨_,_,al⟩:=H.at X G 29 rfl (ps:=w0d) (by walk_at "e2");let ⟨_,_,an⟩:=H.at X G 30 rfl (ps:=w0b) (by walk_at "e3");let ⟨_,_,ao⟩:=H.at X G 31 rfl (ps:=w0a) (by walk_at "e1");let ⟨_,_,aq⟩:=H.at X G 32 rfl (ps:=v0z) (by walk_at "e2");let ⟨_,_,ar⟩:=H.at X G 33 rfl (ps:=v0x) (by walk_at "e2");let ⟨_,_,au⟩:=H.at X G 34 rfl (ps:=v0w) (by walk_at "e1");let ⟨_,_,R⟩:=H.at X G 35 rfl (ps:=y0m) (by walk_at "e4");let ⟨_,_,S⟩:=H.at X G 36 rfl (ps:=y0r) (by walk_at "e3");let ⟨_,_,av⟩:=H.at X G 37 rfl (ps:=v0t) (by walk_at "e1");let ⟨_,_,D⟩:=H.at X G 38 rfl (ps:=z0y) (by walk_at "e2");let ⟨_,_,aw⟩:=H.at X G 39 rfl (ps:=v0p) (by walk_at "e2");let ⟨_,_,r⟩:=H.at X G 40 rfl (ps:=w9) (by walk_at "e1");let ⟨_,_,ax⟩:=H.at X G 41 rfl (ps:=v0o) (by walk_at "e3");let ⟨_,_,t⟩:=H.at X G 42 rfl (ps:=v9) (by walk_at "e4");let ⟨_,_,U⟩:=H.at X G 43 rfl (ps:=y0k) (by walk_at "e4");let ⟨_,_,I⟩:=H.at X G 44 rfl (ps:=f9) (by walk_at "e2");let ⟨_,_,ay⟩:=H.at X G 45 rfl (ps:=v0n) (by walk_at "e4");let ⟨_,_,V⟩:=H.at X G 46 rfl (ps:=y0i) (by walk_at "e5");let ⟨_,_,Z⟩:=H.at X G 47 rfl (ps:=y0h) (by walk_at "e3");let ⟨_,d,bh⟩:=H.at X G 48 rfl (ps:=v1t) (by walk_at "e1");let ⟨_,_,_,_,_,_,_,_,_,hd,_,_⟩:=bh.F.ex;have e:=cq.symm.trans bh.m;cases e;let ⟨bj,cf,bq,L⟩:=zf0;let ⟨az,cc,bm,u⟩:=zj5;let ⟨bn,ch,br,M⟩:=zf1;let ⟨aa,bz,ba,g⟩:=zm8
 let ⟨cm,cn,cb,bo⟩:=bw;let ⟨cj,ck,bv,bb⟩:=bt;refine ⟨d,λs v=>hd▸ .of_eq rfl,λbase _ _=>?_⟩;have zk0:MkE l.prog w K mg base "NoPart" cs.NoPart 1 ["self","at"] (zf6 cs.NoPart "at"):=⟨⟨bj,_,bq,n0x L (T.err _ (k1m (show cs.ds[0]?=some cs.NoPart from rfl))).xc T.zg0,L.binds (ps:=["self","at"]) (by walk_at "e2")⟩,T.zZ3⟩;have zn4:MkE l.prog w K mg base "NoWorks" cs.NoWorks 1 ["self","at"] (zf6 cs.NoWorks "at"):=⟨⟨az,_,bm,o0l u (T.err _ (k1m (show cs.ds[1]?=some cs.NoWorks from rfl))).xc T.zj6,u.binds (ps:=["self","at"]) (by walk_at "e2")⟩,T.zb4⟩;have zk1:MkE l.prog w K mg base "NoPlan" cs.NoPlan 1 ["self","at"] (zf6 cs.NoPlan "at"):=⟨⟨bn,_,br,n0v M (T.err _ (k1m (show cs.ds[4]?=some cs.NoPlan from rfl))).xc T.zg1,M.binds (ps:=["self","at"]) (by walk_at "e2")⟩,T.zZ4⟩;have zr5:MkE l.prog w K mg base "TooGreat" cs.TooGreat 1 ["self","most"] (zf6 cs.TooGreat "most"):=⟨⟨aa,_,ba,q0t g (T.err _ (k1m (show cs.ds[6]?=some cs.TooGreat from rfl))).xc T.zt6,g.binds (ps:=["self","most"]) (by walk_at "e2")⟩,T.zm7⟩;have zv9:w0c l.prog w K mg base cs:=g0q al T;have bc:s0c l.prog w K mg base cs:=g0m ao T zv9;have zr7:s0d l.prog w K mg base cs:=g0o an T zv9;have zz3:q8 l.prog w K mg base cs:=g0k aq T zr7;have bd:s0a l.prog w K mg base cs:=g0j ar T zz3;have ab:u0k l.prog w K mg base cs:=h0z S T zz3 bd;have zs0:u0o l.prog w K mg base cs:=i0g N T;have zy7:o7 l.prog w K mg base cs:=g0s af T zs0;have zu2:t0l l.prog w K mg base cs:=w1r bp T;have zx7:m8 l.prog w K mg base cs:=p0f i T zu2 zy7;have zq7:zm5 l.prog w K mg base "Part" 4 (r0d cs):=i0f bo cb (bo.binds (ps:=["self","full","mark","wear","price"]) λ_ _ _ _ _ _ us hl=>el5 us hl (λ_ _ _ _ _=>rfl)) T zy7 zx7 zk0;have zq0:r0y l.prog w K mg base cs:=g0g au T zq7;have zr8:r0x l.prog w K mg base cs:=g0e ah T zu2;have zx4:i7 l.prog w K mg base cs:=q0y c T zx7;have zn7:p0d l.prog w K mg base cs:=b0j bf T zx4;have zt0:zm5 l.prog w K mg base "Works" 6 (z0r cs):=l0v bb bv (bb.binds (ps:=["self","parts","call","shut"]) λ_ _ _ _ _ _ us hl=>el4 us hl (λ_ _ _ _=>rfl)) T zr8 zy7 zn7 zn4;have be:r0t l.prog w K mg base cs:=g0a av T zq0 zt0;have J:w0s l.prog w K mg base cs:=k0y D T zz3;have zu5:y0n l.prog w K mg base cs:=o0b r T;have zs4:u0e l.prog w K mg base cs:=h0t R T;have zq4:r0o l.prog w K mg base cs:=f0k ax T zu5 zs4;have zq5:r0p l.prog w K mg base cs:=f0n aw T;have zu6:y0l l.prog w K mg base cs:=n0z t T zq4 zq5;have zs5:u0d l.prog w K mg base cs:=h0r U T zu6;have zr9:r0v l.prog w K mg base cs:=g0c ag T zy7;have zs2:u0l l.prog w K mg base cs:=i0a P T zu2 zr9;have zv4:z0q l.prog w K mg base cs:=o0y k T zs2;have zu3:y0v l.prog w K mg base cs:=o0f o T zy7;have zv5:z0o l.prog w K mg base cs:=o0t j T zu3 zy7;have zt4:w0x l.prog w K mg base cs:=l0i z T zv4 zv5 zr5
 have zt1:w0y l.prog w K mg base cs:=l0p y T;have zt2:w0w l.prog w K mg base cs:=l0f B T zt1;have zb3:w1l l.prog w K mg base cs:=l1n bx T;have zw9:l9 l.prog w K mg base cs:=q0w f T zb3;have zv6:z0p l.prog w K mg base cs:=o0w n T;have zw2:o8 l.prog w K mg base cs:=t0f b T zx4;have zs1:u0m l.prog w K mg base cs:=i0d O T zw2;have zn8:p0c l.prog w K mg base cs:=b0h bg T zs1 zk1;have zt3:w0v l.prog w K mg base cs:=l0d C T zt2 zw9 zv6 zn8;have zs3:u0h l.prog w K mg base cs:=h0v Q T zt3
 have zq1:r0s l.prog w K mg base cs:=f0x ai T;have zx9:a7 l.prog w K mg base cs:=u0f a T zq1;have zq3:r0q l.prog w K mg base cs:=f0r aj T zt4 zs3 zx9;have zq2:r0r l.prog w K mg base cs:=f0t ak T;have zu4:y0o l.prog w K mg base cs:=o0d p T;have zh5:f0q l.prog w K mg base cs:=r1z bu T zq3 zq2 zu4;have zy5:v0m l.prog w K mg base cs:=f0h ay T zh5;have zt5:x0b l.prog w K mg base cs:=l0x I T;have ac:u0c l.prog w K mg base cs:=h0p V T zs5 zy5 zt5;have ae:u0b l.prog w K mg base cs:=h0o Z T zy5 zz3 zq7 zt0;exact zF8 bh T bc ab be J zz3 ac ae
end
end K12
namespace zd3
open W PyProof.Rows Calls HD
open K12 (top)
abbrev PW:V0:=PySem.Challenge.pw_wearplan_k12_least
def env:Env:=⟨PW.main.scope,mainNs,mainNs,[],Str.empty,none,(r 13),some 14,0⟩
def cE:Code:=.body (behindTheImports PW) env
abbrev fp:Pos:=⟨0,0,0,0⟩
abbrev BB:List Frame:=[topFrame fp]
def life:Life:={}
def drawn:Drawn:={}
abbrev ix(n:Nat):Z0:=i (Int.ofNat n) 0
def cd(x q:String)(A T L n:Nat)(l:List Z0)(e:Nat):Obj:=fl (ty "code") ([s x T,s q (T+1),s "/claim/cut.py" (T+2),ix L,ix n,i 0 0,i 0 0,i 3 0,r A,b true,i 181 0,r (A+1),N]++(l++[ix e,ix L,s "/claim/cut.py" (e+1)]))
def vn(l:List String)(t:Nat):List Z0:=@List.rec String (λ_=>Nat->List Z0) (λ_=>[]) (λx _ f t=>s x t::f (Nat.succ t)) l t
def fb(x q:String)(st:Y1)(A T L n:Nat)(l:List String)(m:Z0):List Obj:=[tp [],fl N [],tp (vn l (T+3)),tp [],fn N x q st 0 N N,cd x q A T L n [r (A+2),r (A+3),r (A+4)] (T+3+l.length),fn (ty "function") x q st 3 m (r (A+5))]
def fa(x q:String)(st:Y1)(A T L n:Nat)(m:Z0):List Obj:=[tp [],fl N [],fn N x q st 0 N N,cd x q A T L n [N,N,r (A+2)] (T+3),fn (ty "function") x q st 3 m (r (A+3))]
def f7(x:String)(k:Nat):=fb x x (top k)
def f5(x:String)(k:Nat):=fa x x (top k)
def q3(l:List (Nat×Nat)):List Z0:=l.flatMap λp=>[ix p.1,i 0 0,r p.2]
def eR(P:P0)(l:List (String×Nat×Nat)):List M1:=l.map λp=>en P p.1 p.2.1 (r p.2.2)
abbrev SA(t:BT)(n k:Nat)(os:Y3):Y0:=SharedT.abs ⟨t,n,life,⟨[]⟩,drawn,k,os⟩
abbrev PCs(w:T0)(n:Nat)(a:Y0)(l:List Y1)(p:Pos)(b:Y0)(q:Pos):Prop:=segRun R3 PW w 11 (some (r 6)) 1 n a (piecesOf l env cE p BB)=some (.next,b,cE,q)
def oW(l:List Nat):Obj:=co "WearError" [(ty "ValueError")] [(r 24),(ty "ValueError"),(ty "Exception"),(ty "BaseException"),(ty "object")] 23 "WearError" true false (l.map λa=>r a) [some (r 15),none,some (s "WearError" 189),some (s "WearError" 197),some (bi "ValueError.__new__"),some (b true)]
abbrev m0:Z0:=s "law_wearplan_k12_least" 670
abbrev m1:Z0:=s "wearplan.tables" 589
abbrev m2:Z0:=s "wearplan.errors" 187
abbrev m3:Z0:=s "wearplan.works" 464
abbrev m4:Z0:=s "wearplan.signs" 355
abbrev m5:Z0:=s "wearplan.parts" 392
abbrev m6:Z0:=s "wearplan.walks" 540
def z0(P:P0)(A:Nat)(n0:Nat)(q1:String)(n2:Nat)(n3:Nat):List Obj:=[tp [(r 24)],fl (ty "builtin_function_or_method") [(bi "type.__prepare__"),(ty "type")],di [en P "__module__" n0 (s "wearplan.errors" 187),en P "__qualname__" (n0+2) (s q1 (n0+1)),en P "__firstlineno__" (n0+4) (i (Int.ofNat n2) (n0+3)),en P "__init__" (n0+12) (r (A+13)),en P "__static_attributes__" (n0+14) (r (A+14))] 5,tp [],fl N [(i (Int.ofNat (n2+2)) 0),(i 4 0),(r (A+12))],fl (ty "code") [(s q1 n3),(s q1 (n3+1)),(s "/claim/cut.py" (n3+2)),(i (Int.ofNat n2) 0),(i 0 0),(i 0 0),(i 0 0),(i 0 0),(r (A+3)),(b false),(i 181 0),(r (A+4)),N,N,N,N,(i (Int.ofNat (n3+3)) 0),(i (Int.ofNat n2) 0),(s "/claim/cut.py" (n3+4))],{cls:=(ty "frame"),slots:=⟨[some (r (A+5)),some (r 3),some (r (A+2)),none,some (s "wearplan.errors" 187),none,some (r 0)]⟩}]
def z1(P:P0)(A:Nat)(q0:String)(n1:Nat)(n2:Nat)(n3:Nat)(n4:Nat)(q5:String)(n6:Nat)(n7:Nat):List Obj:=[tp [(s q0 n1)],di [en P "__module__" n2 (s "wearplan.errors" 187),en P "__firstlineno__" (n2+4) (i (Int.ofNat n3) (n2+3)),en P "__init__" (n2+12) (r n4),en P "__static_attributes__" (n1+1) (r A),en P "__doc__" (n1+2) N] 2,co q5 [(r 24)] [(r (A+2)),(r 24),(ty "ValueError"),(ty "Exception"),(ty "BaseException"),(ty "object")] (A+1) q5 true false [] [some (r n6),none,some (s q5 n7),some (s q5 (n2+1)),some (bi "ValueError.__new__"),some (b true)],fl (ty "super") [(r (A+2)),(r (A+2)),(r (A+2))],fl (ty "builtin_function_or_method") [(bi "object.__init_subclass__"),(r (A+2))]]
def z2(P:P0)(A:Nat)(n0:Nat)(q1:String)(n2:Nat)(n3:Nat)(n4:Nat):List Obj:=[tp [(r 24)],fl (ty "builtin_function_or_method") [(bi "type.__prepare__"),(ty "type")],di [en P "__module__" n0 (s "wearplan.errors" 187),en P "__qualname__" (n0+2) (s q1 (n0+1)),en P "__firstlineno__" (n0+4) (i (Int.ofNat n2) (n0+3)),en P "__static_attributes__" (n0+5) (r (A+7))] 4,tp [],fl N [],fl (ty "code") [(s q1 n3),(s q1 (n3+1)),(s "/claim/cut.py" (n3+2)),(i (Int.ofNat n2) 0),(i 0 0),(i 0 0),(i 0 0),(i 0 0),(r (A+3)),(b false),(i 181 0),(r (A+4)),N,N,N,N,(i (Int.ofNat (n3+3)) 0),(i (Int.ofNat n2) 0),(s "/claim/cut.py" (n3+4))],{cls:=(ty "frame"),slots:=⟨[some (r (A+5)),some (r 3),some (r (A+2)),none,some (s "wearplan.errors" 187),none,some (r 0)]⟩},tp [],di [en P "__module__" n0 (s "wearplan.errors" 187),en P "__firstlineno__" (n0+4) (i (Int.ofNat n2) (n0+3)),en P "__static_attributes__" (n0+5) (r (A+7)),en P "__doc__" (n0+6) N] 2,co q1 [(r 24)] [(r (A+9)),(r 24),(ty "ValueError"),(ty "Exception"),(ty "BaseException"),(ty "object")] (A+8) q1 true false [] [some (r A),none,some (s q1 n4),some (s q1 (n0+1)),some (bi "ValueError.__new__"),some (b true)],fl (ty "super") [(r (A+9)),(r (A+9)),(r (A+9))],fl (ty "builtin_function_or_method") [(bi "object.__init_subclass__"),(r (A+9))]]
def z3(P:P0)(A:Nat)(n0:Nat)(q1:String)(n2:Nat)(q3:String)(n4:Nat)(n5:Nat)(n6:Nat):List Obj:=[tp [],fl (ty "builtin_function_or_method") [(bi "type.__prepare__"),(ty "type")],di [en P "__module__" n0 (s q1 n2),en P "__qualname__" (n0+2) (s q3 (n0+1)),en P "__firstlineno__" (n0+4) (i (Int.ofNat n4) (n0+3)),en P "__init__" n5 (r (A+13)),en P "__static_attributes__" (n2+33) (r (A+14))] 5,tp [],fl N [(i (Int.ofNat (n4+2)) 0),(i 4 0),(r (A+12))],fl (ty "code") [(s q3 n6),(s q3 (n6+1)),(s "/claim/cut.py" (n6+2)),(i (Int.ofNat n4) 0),(i 0 0),(i 0 0),(i 0 0),(i 0 0),(r (A+3)),(b false),(i 181 0),(r (A+4)),N,N,N,N,(i (Int.ofNat (n6+3)) 0),(i (Int.ofNat n4) 0),(s "/claim/cut.py" (n6+4))],{cls:=(ty "frame"),slots:=⟨[some (r (A+5)),some (r 3),some (r (A+2)),none,some (s q1 n2),none,some (r 0)]⟩}]
def zF9(P:P0):Obj:=tp []
def yy9(P:P0):Obj:=fl N []
def zE0(P:P0):Obj:=fl (ty "code") [(s "<module>" 182),(s "<module>" 183),(s "/claim/cut.py" 184),(i 1 0),(i 0 0),(i 0 0),(i 0 0),(i 0 0),(r 11),(b false),(i 181 0),(r 12),N,N,N,N,(i 185 0),(i 1 0),(s "/claim/cut.py" 186)]
def zE1(P:P0):Obj:={cls:=(ty "frame"),slots:=⟨[some (r 13),some (r 3),some (r 3),none,some (s "__main__" 164),none,some (r 0)]⟩}
def t0(P:P0):BT:=(.node (boot_o_0 P) (.node (boot_o_1 P) (.node (boot_o_3 P) (.node (boot_o_7 P) .nil .nil) (.node (zF9 P) .nil .nil)) (.node (boot_o_5 P) (.node (boot_o_9 P) .nil .nil) (.node (zE0 P) .nil .nil))) (.node (boot_o_2 P) (.node (boot_o_4 P) (.node (boot_o_8 P) .nil .nil) (.node (yy9 P) .nil .nil)) (.node (boot_o_6 P) (.node (boot_o_10 P) .nil .nil) (.node (zE1 P) .nil .nil))))
def pre(w:T0)(os:Y3):topGo R3 PW w 11 (some (r 6)) 12 ⟨boot_heap w.params,⟨[]⟩,boot_drawn,boot_toks,os⟩ (topStub PW)=some ((SA (t0 w.params) 15 187 os),⟨denote R3 cE,cE,⟨0,0,0,0⟩,BB⟩):=zG8 (by rw[PySem.W.Fast.te11892475500146522536,i1u];kernel_rfl)
def blk(w:T0)(os:Y3):segRun R3 PW w 11 (some (r 6)) 1 1 (SA (t0 w.params) 15 187 os) (blockOf (behindTheImports PW) env cE ⟨0,0,0,0⟩ BB)=some (.next,(SA (t0 w.params) 15 187 os),cE,⟨0,0,0,0⟩):=w1y (by kernel_rfl)
def sts1:List Y1:=[top 0,top 1]
def e3_0(P:P0):List M1:=[en P "__name__" 165 m2,en P "__doc__" 166 N,en P "__package__" 167 N,en P "__loader__" 168 (bi "__main__.__loader__#opaque"),en P "__spec__" 169 N,en P "__annotations__" 170 (r 6),en P "__builtins__" 171 (r 4),en P "__file__" 173 (s "/claim/cut.py" 172),en P "__cached__" 174 N,en P "WearError" 206 (r 24)]
def o3_0(P:P0):Obj:=di (e3_0 P) 10
def zE2(P:P0):List Z0:=[(i 2 0),(i 0 0),(r 20)]
def yx0(P:P0):Obj:=fl N (zE2 P)
def g1(P:P0):List Obj:=[tp [(ty "ValueError")],fl (ty "builtin_function_or_method") [(bi "type.__prepare__"),(ty "type")],di [en P "__module__" 196 m2,en P "__qualname__" 198 (s "WearError" 197),en P "__firstlineno__" 200 (i 2 199),en P "__static_attributes__" 201 (r 22)] 4,tp [],fl N [],fl (ty "code") [(s "WearError" 191),(s "WearError" 192),(s "/claim/cut.py" 193),(i 2 0),(i 0 0),(i 0 0),(i 0 0),(i 0 0),(r 18),(b false),(i 181 0),(r 19),N,N,N,N,(i 194 0),(i 2 0),(s "/claim/cut.py" 195)],{cls:=(ty "frame"),slots:=⟨[some (r 20),some (r 3),some (r 17),none,some m2,none,some (r 0)]⟩},tp [],di [en P "__module__" 196 m2,en P "__firstlineno__" 200 (i 2 199),en P "__static_attributes__" 201 (r 22),en P "__weakref__" 203 (r 25),en P "__doc__" 204 N] 3,co "WearError" [(ty "ValueError")] [(r 24),(ty "ValueError"),(ty "Exception"),(ty "BaseException"),(ty "object")] 23 "WearError" true false [] [some (r 15),none,some (s "WearError" 189),some (s "WearError" 197),some (bi "ValueError.__new__"),some (b true)],fl (ty "getset_descriptor") [(s "__weakref__" 202),(r 24),(bi "ExceptionGroup.__weakref__"),N],fl (ty "super") [(r 24),(r 24),(r 24)],fl (ty "builtin_function_or_method") [(bi "object.__init_subclass__"),(r 24)]]
def t1(P:P0):BT:=zf9 (g1 P) 15 (ze0 [(3,o3_0 P),(12,yx0 P)] (t0 P))
def pc1(w:T0)(os:Y3):PCs w 196 (SA (t0 w.params) 15 187 os) sts1 ⟨0,0,0,0⟩ (SA (t1 w.params) 28 207 os) ⟨2,0,3,8⟩:=N3 (w8 (by kernel_rfl))
def sts2:List Y1:=[top 2]
def e3_1(P:P0):List M1:=(e3_0 P)++[en P "NoPart" 231 (r 44)]
def o3_1(P:P0):Obj:=di (e3_1 P) 11
def zE3(P:P0):List Z0:=zE2 P++[(i 4 0),(i 0 0),(r 33)]
def yx1(P:P0):Obj:=fl N (zE3 P)
def yx2(P:P0):Obj:=oW [44]
def g2(P:P0):List Obj:=z0 P 28 214 "NoPart" 4 209++(fb "__init__" "NoPart.__init__" (L2.inClass (top 2) 0) 35 219 6 2 ["self","at"] m2++(z1 P 42 "at" 227 214 4 41 "NoPart" 28 207))
def t2(P:P0):BT:=zf9 (g2 P) 28 (ze0 [(3,o3_1 P),(12,yx1 P),(24,yx2 P)] (t1 P))
def pc2(w:T0)(os:Y3):PCs w 246 (SA (t1 w.params) 28 207 os) sts2 ⟨2,0,3,8⟩ (SA (t2 w.params) 47 232 os) ⟨4,0,7,20⟩:=N3 (w8 (by kernel_rfl))
def sts3:List Y1:=[top 3]
def e3_2(P:P0):List M1:=(e3_1 P)++[en P "NoWorks" 256 (r 63)]
def o3_2(P:P0):Obj:=di (e3_2 P) 12
def zE4(P:P0):List Z0:=zE3 P++[(i 8 0),(i 0 0),(r 52)]
def yx3(P:P0):Obj:=fl N (zE4 P)
def yx4(P:P0):Obj:=oW [44,63]
def g3(P:P0):List Obj:=z0 P 47 239 "NoWorks" 8 234++(fb "__init__" "NoWorks.__init__" (L2.inClass (top 3) 0) 54 244 10 2 ["self","at"] m2++(z1 P 61 "at" 252 239 8 60 "NoWorks" 47 232))
def t3(P:P0):BT:=zf9 (g3 P) 47 (ze0 [(3,o3_2 P),(12,yx3 P),(24,yx4 P)] (t2 P))
def pc3(w:T0)(os:Y3):PCs w 246 (SA (t2 w.params) 47 232 os) sts3 ⟨4,0,7,20⟩ (SA (t3 w.params) 66 257 os) ⟨8,0,11,20⟩:=N3 (w8 (by kernel_rfl))
def sts4:List Y1:=[top 4]
def e3_3(P:P0):List M1:=(e3_2 P)++[en P "NoStands" 272 (r 75)]
def o3_3(P:P0):Obj:=di (e3_3 P) 13
def zE5(P:P0):List Z0:=zE4 P++[(i 12 0),(i 0 0),(r 71)]
def yx5(P:P0):Obj:=fl N (zE5 P)
def yx6(P:P0):Obj:=oW [44,63,75]
def g4(P:P0):List Obj:=z2 P 66 264 "NoStands" 12 259 257
def t4(P:P0):BT:=zf9 (g4 P) 66 (ze0 [(3,o3_3 P),(12,yx5 P),(24,yx6 P)] (t3 P))
def pc4(w:T0)(os:Y3):PCs w 214 (SA (t3 w.params) 66 257 os) sts4 ⟨8,0,11,20⟩ (SA (t4 w.params) 78 273 os) ⟨12,0,13,8⟩:=N3 (w8 (by kernel_rfl))
def sts5:List Y1:=[top 5]
def e3_4(P:P0):List M1:=(e3_3 P)++[en P "NoRounds" 288 (r 87)]
def o3_4(P:P0):Obj:=di (e3_4 P) 14
def zE6(P:P0):List Z0:=zE5 P++[(i 14 0),(i 0 0),(r 83)]
def yx7(P:P0):Obj:=fl N (zE6 P)
def yx8(P:P0):Obj:=oW [44,63,75,87]
def g5(P:P0):List Obj:=z2 P 78 280 "NoRounds" 14 275 273
def t5(P:P0):BT:=zf9 (g5 P) 78 (ze0 [(3,o3_4 P),(12,yx7 P),(24,yx8 P)] (t4 P))
def pc5(w:T0)(os:Y3):PCs w 214 (SA (t4 w.params) 78 273 os) sts5 ⟨12,0,13,8⟩ (SA (t5 w.params) 90 289 os) ⟨14,0,15,8⟩:=N3 (w8 (by kernel_rfl))
def sts6:List Y1:=[top 6]
def e3_5(P:P0):List M1:=(e3_4 P)++[en P "NoPlan" 313 (r 106)]
def o3_5(P:P0):Obj:=di (e3_5 P) 15
def zE7(P:P0):List Z0:=zE6 P++[(i 16 0),(i 0 0),(r 95)]
def yx9(P:P0):Obj:=fl N (zE7 P)
def yw0(P:P0):Obj:=oW [44,63,75,87,106]
def g6(P:P0):List Obj:=z0 P 90 296 "NoPlan" 16 291++(fb "__init__" "NoPlan.__init__" (L2.inClass (top 6) 0) 97 301 18 2 ["self","at"] m2++(z1 P 104 "at" 309 296 16 103 "NoPlan" 90 289))
def t6(P:P0):BT:=zf9 (g6 P) 90 (ze0 [(3,o3_5 P),(12,yx9 P),(24,yw0 P)] (t5 P))
def pc6(w:T0)(os:Y3):PCs w 246 (SA (t5 w.params) 90 289 os) sts6 ⟨14,0,15,8⟩ (SA (t6 w.params) 109 314 os) ⟨16,0,19,20⟩:=N3 (w8 (by kernel_rfl))
def sts7:List Y1:=[top 7]
def e3_6(P:P0):List M1:=(e3_5 P)++[en P "NoneHolds" 329 (r 118)]
def o3_6(P:P0):Obj:=di (e3_6 P) 16
def zE8(P:P0):List Z0:=zE7 P++[(i 20 0),(i 0 0),(r 114)]
def yw1(P:P0):Obj:=fl N (zE8 P)
def yw2(P:P0):Obj:=oW [44,63,75,87,106,118]
def g7(P:P0):List Obj:=z2 P 109 321 "NoneHolds" 20 316 314
def t7(P:P0):BT:=zf9 (g7 P) 109 (ze0 [(3,o3_6 P),(12,yw1 P),(24,yw2 P)] (t6 P))
def pc7(w:T0)(os:Y3):PCs w 214 (SA (t6 w.params) 109 314 os) sts7 ⟨16,0,19,20⟩ (SA (t7 w.params) 121 330 os) ⟨20,0,21,8⟩:=N3 (w8 (by kernel_rfl))
def sts8:List Y1:=[top 8,top 9,top 10,top 11,top 12,top 13,top 14]
def e3_7(P:P0):List M1:=((e3_6 P).set 0 (en P "__name__" 165 m4))++eR P [("TooGreat",354,137),("is_number",363,146),("is_whole",372,153),("is_row",379,160),("is_whole_row",385,165),("is_rising_row",391,170)]
def o3_7(P:P0):Obj:=di (e3_7 P) 22
def zE9(P:P0):List Z0:=zE8 P++q3 [(22,126),(27,145),(29,152),(31,159),(33,164),(37,169)]
def yw3(P:P0):Obj:=fl N (zE9 P)
def l1a(P:P0):Obj:=oW [44,63,75,87,106,118,137]
def g8(P:P0):List Obj:=z0 P 121 337 "TooGreat" 22 332++(fb "__init__" "TooGreat.__init__" (L2.inClass (top 8) 0) 128 342 24 2 ["self","most"] m2++(z1 P 135 "most" 350 337 22 134 "TooGreat" 121 330++(f7 "is_number" 10 140 357 27 1 ["thing"] m4++(f7 "is_whole" 11 147 364 29 3 ["thing","least","most"] m4++(f7 "is_row" 12 154 373 31 1 ["thing"] m4++(f5 "is_whole_row" 13 161 380 33 5 m4++(f5 "is_rising_row" 14 166 386 37 3 m4)))))))
def t8(P:P0):BT:=zf9 (g8 P) 121 (ze0 [(3,o3_7 P),(12,yw3 P),(24,l1a P)] (t7 P))
def pc8(w:T0)(os:Y3):PCs w 396 (SA (t7 w.params) 121 330 os) sts8 ⟨20,0,21,8⟩ (SA (t8 w.params) 171 392 os) ⟨37,0,40,71⟩:=N3 (w8 (by kernel_rfl))
def sts9:List Y1:=[top 15,top 16,top 17,top 18,top 19,top 20,top 21,top 22,top 23,top 24]
def e3_8(P:P0):List M1:=((e3_7 P).set 0 (en P "__name__" 165 m3))++[en P "GREATEST_FIRST" 395 (i 47 394),en P "MOST_ROUNDS" 397 (i 24 396)]++(eR P [("Part",432,187),("loss",440,198),("is_stand",448,205),("check_first",455,212),("check_rounds",463,219)]++([en P "MOST_PARTS" 467 (i 4 466)]))
def o3_8(P:P0):Obj:=di (e3_8 P) 30
def zD0(P:P0):List Z0:=zE9 P++q3 [(44,176),(59,197),(61,204),(63,211),(66,218)]
def yw4(P:P0):Obj:=fl N (zD0 P)
def g9(P:P0):List Obj:=z3 P 171 405 "wearplan.parts" 392 "Part" 44 420 400++(fb "__init__" "Part.__init__" (L2.inClass (top 18) 0) 178 410 46 5 ["self","full","mark","wear","price"] m5++([tp [(s "full" 421),(s "mark" 422),(s "price" 423),(s "wear" 424)],di [en P "__module__" 405 m5,en P "__firstlineno__" 409 (i 44 408),en P "__init__" 420 (r 184),en P "__static_attributes__" 425 (r 185),en P "__dict__" 427 (r 188),en P "__weakref__" 429 (r 189),en P "__doc__" 430 N] 4,co "Part" [(ty "object")] [(r 187),(ty "object")] 186 "Part" true false [] [none,none,some (s "Part" 398),some (s "Part" 406),some (bi "object.__new__"),some (b true)],fl (ty "getset_descriptor") [(s "__dict__" 426),(r 187),(bi "function.__dict__"),(bi "function.__dict__#set")],fl (ty "getset_descriptor") [(s "__weakref__" 428),(r 187),(bi "ExceptionGroup.__weakref__"),N],fl (ty "super") [(r 187),(r 187),(r 187)],fl (ty "builtin_function_or_method") [(bi "object.__init_subclass__"),(r 187)]]++(f7 "loss" 19 192 433 59 2 ["part","round_number"] m5++(f7 "is_stand" 20 199 441 61 2 ["part","thing"] m5++(f7 "check_first" 21 206 449 63 1 ["first"] m5++(f7 "check_rounds" 22 213 456 66 2 ["first","rounds"] m5))))))
def t9(P:P0):BT:=zf9 (g9 P) 171 (ze0 [(3,o3_8 P),(12,yw4 P)] (t8 P))
def pc9(w:T0)(os:Y3):PCs w 393 (SA (t8 w.params) 171 392 os) sts9 ⟨37,0,40,71⟩ (SA (t9 w.params) 220 468 os) ⟨71,0,71,10⟩:=N3 (w8 (by kernel_rfl))
def zD1:List Y1:=[top 25,top 26,top 27,top 28,top 29,top 30,top 31,top 32,top 33]
def e3_9(P:P0):List M1:=((e3_8 P).set 0 (en P "__name__" 165 m6))++[en P "GREATEST_CALL" 469 (i 99 468),en P "GREATEST_SHUT" 471 (i 47 470)]++(eR P [("Works",504,236),("is_parts",510,245),("is_shut",517,252),("is_choice_among",525,259),("is_choice",533,266),("cost_of",539,271)])
def o3_9(P:P0):Obj:=di (e3_9 P) 38
def p1z(P:P0):List Z0:=zD0 P++q3 [(74,225),(86,244),(90,251),(92,258),(94,265),(96,270)]
def zD2(P:P0):Obj:=fl N (p1z P)
def g10(P:P0):List Obj:=z3 P 220 479 "wearplan.works" 464 "Works" 74 493 474++(fb "__init__" "Works.__init__" (L2.inClass (top 27) 0) 227 484 76 4 ["self","parts","call","shut"] m3++([tp [(s "call" 494),(s "parts" 495),(s "shut" 496)],di [en P "__module__" 479 m3,en P "__firstlineno__" 483 (i 74 482),en P "__init__" 493 (r 233),en P "__static_attributes__" 497 (r 234),en P "__dict__" 499 (r 237),en P "__weakref__" 501 (r 238),en P "__doc__" 502 N] 4,co "Works" [(ty "object")] [(r 236),(ty "object")] 235 "Works" true false [] [none,none,some (s "Works" 472),some (s "Works" 480),some (bi "object.__new__"),some (b true)],fl (ty "getset_descriptor") [(s "__dict__" 498),(r 236),(bi "function.__dict__"),(bi "function.__dict__#set")],fl (ty "getset_descriptor") [(s "__weakref__" 500),(r 236),(bi "ExceptionGroup.__weakref__"),N],fl (ty "super") [(r 236),(r 236),(r 236)],fl (ty "builtin_function_or_method") [(bi "object.__init_subclass__"),(r 236)]]++(f5 "is_parts" 28 241 505 86 1 m3++(f7 "is_shut" 29 246 511 90 1 ["thing"] m3++(f7 "is_choice_among" 30 253 518 92 2 ["thing","many"] m3++(f7 "is_choice" 31 260 526 94 2 ["works","thing"] m3++(f5 "cost_of" 32 267 534 96 2 m3)))))))
def t10(P:P0):BT:=zf9 (g10 P) 220 (ze0 [(3,o3_9 P),(12,zD2 P)] (t9 P))
def pc10(w:T0)(os:Y3):PCs w 395 (SA (t9 w.params) 220 468 os) zD1 ⟨71,0,71,10⟩ (SA (t10 w.params) 272 542 os) ⟨102,0,102,8⟩:=N3 (w8 (by kernel_rfl))
def zD3:List Y1:=[top 34,top 35,top 36,top 37,top 38,top 39,top 40,top 41,top 42,top 43,top 44,top 45,top 46,top 47,top 48,top 49]
def zD4(P:P0):List M1:=((e3_9 P).set 0 (en P "__name__" 165 m1))++eR P [("is_stands",547,276),("check_stands",555,283),("is_shut_to",564,290),("stands_behind",578,297),("first_fallen",588,304)]++([en P "MOST_PARTS_HERE" 592 (i 3 591),en P "GREATEST_FULL_HERE" 594 (i 6 593),en P "MOST_ROUNDS_HERE" 596 (i 8 595)]++(eR P [("check_size",602,309),("choices_in",608,314),("steps_from",620,321),("layers_of",626,326),("worth_by",632,331),("worths_of_layers",638,336),("check_worth",645,343)]))
def yw5(P:P0):Obj:=di (zD4 P) 53
def p1y(P:P0):List Z0:=p1z P++q3 [(103,275),(107,282),(110,289),(112,296),(118,303),(127,308),(136,313),(141,320),(148,325),(157,330),(159,335),(167,342)]
def zD5(P:P0):Obj:=fl N (p1y P)
def g11(P:P0):List Obj:=f5 "is_stands" 34 272 542 103 2 m6++(f7 "check_stands" 35 277 548 107 2 ["works","stands"] m6++(f7 "is_shut_to" 36 284 556 110 3 ["works","choice","round_number"] m6++(f7 "stands_behind" 37 291 565 112 4 ["works","stands","choice","round_number","behind","k","part","stand"] m6++(f7 "first_fallen" 38 298 579 118 2 ["works","behind","k","part"] m6++(f5 "check_size" 43 305 597 127 4 m1++(f5 "choices_in" 44 310 603 136 2 m1++(f7 "steps_from" 45 315 609 141 3 ["works","stands","round_number","steps","choice","behind"] m1++(f5 "layers_of" 46 322 621 148 4 m1++(f5 "worth_by" 47 327 627 157 2 m1++(f5 "worths_of_layers" 48 332 633 159 1 m1++(f7 "check_worth" 49 337 639 167 1 ["worth"] m1)))))))))))
def t11(P:P0):BT:=zf9 (g11 P) 272 (ze0 [(3,yw5 P),(12,zD5 P)] (t10 P))
def pc11(w:T0)(os:Y3):PCs w 385 (SA (t10 w.params) 272 542 os) zD3 ⟨102,0,102,8⟩ (SA (t11 w.params) 344 646 os) ⟨167,0,169,25⟩:=N3 (w8 (by kernel_rfl))
def zD6:List Y1:=[top 50,top 51,top 52,top 53,top 54,top 55,top 56,top 57,top 58,top 59,top 60,top 61,top 62,top 63]
def zD7(P:P0):List M1:=((zD4 P).set 0 (en P "__name__" 165 m0))++eR P [("least",656,350),("table_of",662,355),("worth_of",669,362),("_law_cell",679,369),("_law_draw",689,376),("_law_deck",697,383),("_law_take",706,390),("_law_spec",712,395),("_law_part",719,402),("_law_after",734,409),("_law_works",740,414),("_law_made",746,419),("_law_stands",752,424)]
def yw6(P:P0):Obj:=di (zD7 P) 66
def p1x(P:P0):List Z0:=p1y P++q3 [(170,349),(174,354),(178,361),(181,368),(185,375),(189,382),(192,389),(199,394),(211,401),(213,408),(222,413),(230,418),(235,423)]
def zD8(P:P0):Obj:=fl N (p1x P)
def g12(P:P0):List Obj:=f7 "least" 50 344 646 170 4 ["works","stands","first","rounds","price"] m1++(f5 "table_of" 51 351 657 174 4 m1++(f7 "worth_of" 52 356 663 178 1 ["table"] m1++(f7 "_law_cell" 54 363 672 181 2 ["_law_script","_law_k"] m0++(f7 "_law_draw" 55 370 680 185 3 ["_law_script","_law_k","_law_many","_law_a"] m0++(f7 "_law_deck" 56 377 690 189 1 ["_law_script","_law_cell_here"] m0++(f7 "_law_take" 57 384 698 192 2 ["_law_deck_here","_law_many","_law_digit"] m0++(f5 "_law_spec" 58 391 707 199 2 m0++(f7 "_law_part" 59 396 713 211 1 ["_law_spec_here"] m0++(f7 "_law_after" 60 403 720 213 4 ["_law_specs","_law_stands_here","_law_chosen","_law_number_here","_law_found","_law_at","_law_spec_here","_law_stand","_law_left"] m0++(f5 "_law_works" 61 410 735 222 3 m0++(f5 "_law_made" 62 415 741 230 1 m0++(f5 "_law_stands" 63 420 747 235 2 m0))))))))))))
def t12(P:P0):BT:=zf9 (g12 P) 344 (ze0 [(3,yw6 P),(12,zD8 P)] (t11 P))
def pc12(w:T0)(os:Y3):PCs w 391 (SA (t11 w.params) 344 646 os) zD6 ⟨167,0,169,25⟩ (SA (t12 w.params) 425 753 os) ⟨235,0,238,141⟩:=N3 (w8 (by kernel_rfl))
def zD9:List Y1:=[top 64,top 65,top 66,top 67,top 68,top 69,top 70,top 71,top 72,top 73]
def yw7(P:P0):List M1:=(zD7 P)++eR P [("_law_cost",758,429),("_law_choices",764,434),("_law_ways",776,441),("_law_forward",794,448),("_law_least",804,455),("_law_number",812,462),("_law_told",824,469),("_law_right",837,476),("_law_great",851,483),("law",864,490)]
def k1z(P:P0):Obj:=di (yw7 P) 76
def zC0(P:P0):List Z0:=p1x P++q3 [(239,428),(243,433),(248,440),(255,447),(265,454),(267,461),(269,468),(284,475),(290,482),(309,489)]
def p1w(P:P0):Obj:=fl N (zC0 P)
def g13(P:P0):List Obj:=f5 "_law_cost" 64 425 753 239 2 m0++(f5 "_law_choices" 65 430 759 243 1 m0++(f7 "_law_ways" 66 435 765 248 3 ["_law_told_here","_law_stands_here","_law_number_here","_law_found","_law_chosen","_law_left"] m0++(f7 "_law_forward" 67 442 777 255 4 ["_law_told_here","_law_stands_here","_law_first","_law_rounds","_law_entries","_law_k","_law_following","_law_here","_law_price","_law_chosen","_law_left","_law_more"] m0++(f7 "_law_least" 68 449 795 265 4 ["_law_told_here","_law_stands_here","_law_first","_law_rounds"] m0++(f7 "_law_number" 69 456 805 267 2 ["_law_found","_law_due"] m0++(f7 "_law_told" 70 463 813 269 4 ["_law_works_here","_law_stands_here","_law_first","_law_rounds","_law_found","e"] m0++(f7 "_law_right" 71 470 825 284 5 ["_law_told_here","_law_works_here","_law_stands_here","_law_first","_law_rounds","_law_due","_law_found"] m0++(f7 "_law_great" 72 477 838 290 3 ["_law_deck_here","_law_stands_here","_law_first","_law_many","_law_full","_law_few","_law_none","_law_thing"] m0++(f7 "law" 73 484 852 309 1 ["_law_script","_law_deck_here","_law_told_here","_law_works_here","_law_stands_here","_law_first","_law_rounds"] m0)))))))))
def t13(P:P0):BT:=zf9 (g13 P) 425 (ze0 [(3,k1z P),(12,p1w P)] (t12 P))
def pc13(w:T0)(os:Y3):PCs w 329 (SA (t12 w.params) 425 753 os) zD9 ⟨235,0,238,141⟩ (SA (t13 w.params) 491 865 os) ⟨309,0,322,103⟩:=N3 (w8 (by kernel_rfl))
def HF(P:P0):J0:=⟨⟨[(boot_o_0 P),(boot_o_1 P),(boot_o_2 P),(k1z P),(boot_o_4 P),(boot_o_5 P),(boot_o_6 P),(boot_o_7 P),(boot_o_8 P),(boot_o_9 P),(boot_o_10 P),(zF9 P),(p1w P),(zE0 P),(zE1 P)]++(((g1 P).set 9 (l1a P))++((g2 P)++((g3 P)++((g4 P)++((g5 P)++((g6 P)++((g7 P)++((g8 P)++((g9 P)++((g10 P)++((g11 P)++((g12 P)++((g13 P))))))))))))))⟩,life⟩
def fin(w:T0)(os:Y3):topRun R3 PW w 11 (some (r 6)) 2 (SA (t13 w.params) 491 865 os) (restOf [] env cE ⟨309,0,322,103⟩ BB)=some ⟨HF w.params,⟨[]⟩,drawn,865,os⟩:=piece_nil (l1r (by kernel_rfl))
def k1y:behindTheImports PW=(sts1++(sts2++(sts3++(sts4++(sts5++(sts6++(sts7++(sts8++(sts9++(zD1++(zD3++(zD6++(zD9++[]))))))))))))):=by kernel_rfl
def run(w:T0)(os:Y3):topRun R3 PW w 11 (some (r 6)) (12+(1+(196+(246+(246+(214+(214+(246+(214+(396+(393+(395+(385+(391+(329+2))))))))))))))) ⟨boot_heap w.params,⟨[]⟩,boot_drawn,boot_toks,os⟩ (topStub PW)=some ⟨HF w.params,⟨[]⟩,drawn,865,os⟩:=
 go_top (pre w os) (i0j k1y (blk w os) (M3 (pc1 w os) (M3 (pc2 w os) (M3 (pc3 w os) (M3 (pc4 w os) (M3 (pc5 w os) (M3 (pc6 w os) (M3 (pc7 w os) (M3 (pc8 w os) (M3 (pc9 w os) (M3 (pc10 w os) (M3 (pc11 w os) (M3 (pc12 w os) (M3 (pc13 w os) (fin w os)))))))))))))))
local macro_rules | `(tactic|walk_at "K")=>do
 let mut l:List (Lean.TSyntax `term):=[]
 let mut w:="boot_o_2 - 2 k1z - 3 g1 15 0,7,8 l1a - 24 g1 15 10 g2 28 0,7,9,10,12,13,14,15,16 g3 47 0,7,9,10,12,13,14,15,16 g4 66 0,7,8,9 g5 78 0,7,8,9 g6 90 0,7,9,10,12,13,14,15,16 g7 109 0,7,8,9 g8 121 0,7,9,10,12,13,14,15,16,19,21,22,24,25,26,28,29,31,32,33,35,36,38,39,40,43,44,45,48,49 g9 171 7,9,10,12,13,14,15,16,17,18,21,23,24,26,27,28,30,31,33,34,35,37,38,40,41,42,44,45,47,48 g10 220 7,9,10,12,13,14,15,16,17,18,21,24,25,26,28,29,31,32,33,35,36,38,39,40,42,43,45,46,47,50,51 g11 272 0,3,4,5,7,8,10,11,12,14,15,17,18,19,21,22,24,25,26,28,29,31,32,33,36,37,38,41,42,43,45,46,48,49,50,53,54,55,58,59,60,63,64,65,67,68,70,71 g12 344 0,2,3,5,6,7,10,11,12,14,15,17,18,19,21,22,24,25,26,28,29,31,32,33,35,36,38,39,40,42,43,45,46,47,50,51,52,54,55,57,58,59,61,62,64,65,66,69,70,71,74,75,76,79,80 g13 425 0,3,4,5,8,9,10,12,13,15,16,17,19,20,22,23,24,26,27,29,30,31,33,34,36,37,38,40,41,43,44,45,47,48,50,51,52,54,55,57,58,59,61,62,64,65".splitOn " "
 while w.length>2 do
  let g:=Lean.mkIdent (w[0]!).toName
  for j in (w[2]!).splitOn "," do
   if w[1]! =="-" then l:=(<-`((nat_lit $(Lean.quote j.toNat!),$g $(Lean.mkIdent `P))))::l
   else l:=(<-`((nat_lit $(Lean.quote ((w[1]!).toNat! +j.toNat!)),x $g $(Lean.quote j.toNat!) $(Lean.mkIdent `P))))::l
  w:=w.drop 3
 let mut t<-`([])
 for a in l do t<-`(List.cons $a $t)
 `(tactic|exact $t)
def K(P:P0):Frag:=by
 walk_at "K"
def as:List X0:=(K {strHash:=λ_=>0,shareClass:=λ_=>0,mergeTok:=id,idOf:=λ_=>0,idOfShared:=λ_ _=>0,followText:=λ_=>true,idOfImm:=λ_=>0}).map (·.1)
def Q:V0:={PW with main:={PW.main with body:=(top 1::top 2::top 3::top 4::top 5::top 6::top 7::top 8::top 10::top 11::top 12::top 13::top 14::top 16::top 17::top 18::top 19::top 20::top 21::top 22::top 24::top 25::top 26::top 27::top 28::top 29::top 30::top 31::top 32::top 34::top 35::top 36::top 37::top 38::top 40::top 41::top 42::top 43::top 44::top 45::top 46::top 47::top 48::top 49::top 50::top 51::top 52::top 54::top 55::top 56::top 57::top 58::top 59::top 60::top 61::top 62::top 63::top 64::top 65::top 66::top 67::top 68::top 69::top 70::top 71::top 72::top 73:: [])}}
abbrev HK:Hook:=kHook K as (λ_=>by kernel_rfl)
abbrev RR:RowW:=OpenRow.toRowW (OpenLaw.row PySem.Challenge.rw_wearplan_k12_least)
abbrev Xt(s:Y0):Bool:=xlAt Q [] s&&recOk (RowW.records RR) s
def k1x(w:T0):((boot_heap w.params).isNs V2&&(Array.mk ([]:List GenState)).size==0,(boot_heap w.params).objs.size,(boot_heap w.params).nsMap V2 "__annotations__")=(true,11,some (.ref 6)):=by kernel_rfl
def yw8(w:T0)(os:Y3):(staticsOk (importedModules PW.main.body) (boot_heap w.params) (HF w.params)&&namesBound PW (HF w.params)&&gensDone (⟨HF w.params,⟨[]⟩,drawn,865,os⟩:Y0)&&laidKept (boot_heap w.params) (HF w.params))=true:=by kernel_rfl
def yw9(w:T0)(os:Y3):openSeen Q [] (importedModules PW.main.body) Xt true (⟨HF w.params,⟨[]⟩,drawn,865,os⟩:Y0)=openGood Q []:=by
 rw[PySem.W.Fast.te4187177175401517315,PySem.W.Fast.te5923862056798008813];kernel_rfl
def yv0(w:T0)(os:Y3):HK.obs (⟨HF w.params,⟨[]⟩,drawn,865,os⟩:Y0)=HK.val w:=by kernel_rfl
def b0g:opening PW=plainProg PW.main.scope.names:=by kernel_rfl
def r1u(s:Y0):fenceModules? PW s=some s:=by kernel_rfl
def left:LeftO PW Q [] Xt HK.obs HK.val 7830:=
 LeftO.of_pieces (boot_open b0g (by decide) r1u) k1x run (by decide) λw=>funext λos=>Prod.ext (yw8 w os) (Prod.ext (yw9 w os) (yv0 w os))
def ws:OpenLaw.wellSaid PySem.Challenge.rw_wearplan_k12_least=true:=by
 rw[PySem.W.Fast.te9446332074065402090];kernel_rfl
end zd3
open W PyProof.Rows
set_option maxRecDepth 100000 in
set_option maxHeartbeats 0 in
theorem PySem.Challenge.cw_wearplan_k12_least_holds : PySem.Challenge.rw_wearplan_k12_least.Holds := by
 w_on
 refine holds_law zd3.ws fun said=>?_
 refine holds_open (r:=OpenLaw.row PySem.Challenge.rw_wearplan_k12_least) (q:=zd3.Q) (loose:=[]) (Xt:=zd3.Xt) (XP:=XL zd3.Q []) (Yf:=zd3.HK.obs) (Ya:=zd3.HK.val) (YP:=InK zd3.K) (N:=7830) zd3.left (Hook.of zd3.HK) (Hook.keeps zd3.HK) (fun s e=>xl_of s (c1g.mp e).1) XL.keeps (by rfl) (by rfl) (by rfl) (fun s e=>recFacts_of (c1g.mp e).2) (by rfl) said (by decide +kernel) ⟨rfl,rfl,rfl,rfl,rfl,by decide +kernel⟩ ?hw ?hc
 (case hw=>w_witness2)
 k_fill
 refine DL.zG7 (l:=PySem.Challenge.rw_wearplan_k12_least) (k:=16) (x:="_law_script") rfl rfl ⟨rfl,by decide,by decide⟩ (fun w h Y=>(show (zd3.K w.params).In h from Y)) fun w mg fa h KX G hmg=>?_
 have T:K12.Txt (zd3.K w.params) mg ⟨24,187,236,44,63,75,87,106,118,137⟩:=by
  constructor<;>first |decide |((refine c1h.mpr ⟨by exact ⟨by kernel_rfl,by k_is,⟨by kernel_rfl,by k_is,by k_is,by k_is,by k_is,by k_is,by k_is,by k_is⟩⟩,?_⟩);(repeat (refine c1h.mpr ⟨by exact ⟨by kernel_rfl,by k_is,⟨by kernel_rfl,by k_is,by k_is,by k_is,by k_is,by k_is,by k_is,by k_is⟩⟩,?_⟩));exact List.forall_mem_nil _)|exact PySem.W.mg_none_of (by assumption) (by assumption) (by k_is) |exact ⟨_,d1h (by assumption) (by assumption) (by k_is)⟩ |exact d1h (by assumption) (by assumption) (by k_is) |exact ⟨by k_is,by kernel_rfl,by k_is⟩ |exact ⟨⟨by k_is,by k_is,by k_is,by k_is⟩,by k_is,by k_is,by k_is,by k_is⟩ |exact ⟨by kernel_rfl,by kernel_rfl,by kernel_rfl,by kernel_rfl,by kernel_rfl,by kernel_rfl,by kernel_rfl⟩ |(unfold L2.zy9;k_is) |kernel_rfl |exact ⟨by kernel_rfl,by k_is⟩
 refine K12.all_mk KX G hmg T (by ((repeat (refine .cons (by exact ⟨_,_,by k_is,⟨⟨_,_,_,_,_,_,_,_,_,rfl,by k_is,by k_is⟩,by k_is⟩⟩) ?_));exact .nil)) ?_ ?_ ?_ ?_ ?_ ?_
 all_goals first |exact ⟨_,_,⟨by kernel_rfl,by k_is,by k_is,by k_is⟩,⟨⟨_,_,_,_,_,_,_,_,_,rfl,by k_is,by k_is⟩,by k_is⟩⟩ |exact ⟨_,_,⟨by k_is,by k_is,by k_is,by k_is⟩,⟨⟨_,_,_,_,_,_,_,_,_,rfl,by k_is,by k_is⟩,by k_is⟩⟩
