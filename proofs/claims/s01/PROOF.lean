import PyProof.Rows.All
import Wide.All
import OpenK.AllK
import Wide.FinOn
import PyProof.EqAt
import PyProof.EqKinds
import PyProof.TupleCall
import KE.BitLaws
import Open.SpecLaws
import KE.OsHead
import KE.OsGo
import KE.KFmtOwn
import PyProof.InstEq
import KE.KDictLaws
import PySem.Challenge.RW_bridgeinuse_s01_answers
import KE.KItemsList
import KE.KDictList
import KE.KSortTupG
import PySem.SetTable
import PyProof.SetScanFacts
import PyProof.Rows.SetFrom
set_option Elab.async false
set_option linter.all false
set_option maxRecDepth 100000
set_option maxHeartbeats 8000000
noncomputable section
set_option genSizeOf false
set_option bootstrap.genMatcherCode false
local macro_rules|`(command|def $x $s:optDeclSig$v:declVal)=>`(command|noncomputable def $x $s:optDeclSig$v:declVal)|`(command|abbrev $x $s:optDeclSig$v:declVal)=>`(command|noncomputable abbrev $x $s:optDeclSig$v:declVal)
def I:=@rfl
def fh:=@decide_eq_true_eq
def aI:=@if_pos
def aD:=@if_neg
def zP:=@bne_iff_ne
def dR:=@congrArg
def Ep:=@decide_eq_false_iff_not
def jd:=@of_decide_eq_true
def jf:=@beq_iff_eq
def qr:=@beq_self_eq_true
def hZ:=@if_true
def iO:=@if_false
def ek:=@decide_eq_false
def eP:=@decide_eq_true
def gv:=@or_false
def qu:=@beq_eq_false_iff_ne
def hI:=@not_or
def pf:=@not_false_eq_true
def ph:=@and_true
def FC:=@of_decide_eq_false
def FT:=@bne_self_eq_false
local macro_rules|`(∅)=>`(by lia)
abbrev aa:=List
abbrev ab:=Option
abbrev ae:=Array
local macro_rules|`(#v[$a,*])=>`(⟨$a,*⟩)
open Sy49 renaming spanOf->uH,least->lW,cells->cZ,Car->F,Past->eG,moved->eO,turned->hE,entered->uJ,tick->cn,Car->dw,St->G,least->gd,away->hF,Past->j8,step->hY,CARS->qo,whenLeft->z3,spanOf->eQ,cellOf->cj,bears->eY,queueOf->bH,cells->fQ,limitOf->kR,moved->h8,sameSpan->AW,over->mq,ok->jo,whereIs->lB,ticks->iT,whenLeft->Qc
open List renaming map_cons->cI,sum_cons->i_,length_cons->cU,foldl_cons->gI,mem_cons->bL,getD->dt,getElem?_eq_getElem->b_,getElem_mem->kJ,range->bQ,mem_cons_self->cc,mem_cons_of_mem->cw,map_append->dY,all_nil->NZ,pairwise_append->qj,mem_singleton->c_,mem_append->dh,pairwise_cons->ja,all_eq_true->kK,perm_middle->zO,append_assoc->gq,mem_of_find?_eq_some->nB,find?_some->nC,find?_eq_none->hX,nodup_range->Eg,nodup_append->hB,nodup_cons->fD,filter_cons->hC,filter_eq_self->rT,mem_map_of_mem->gr,mem_filter->c0,map_nil->oO,singleton_append->N1,map->d_,length_map->aq,length_zipIdx->oP,nil_append->uL,map_map->ck,perm_append_comm->rV,mem_zipIdx->N2,getElem_of_mem->fx,take_length->ij,mem_range->gu,isEmpty_iff->nE,append_nil->gY,length_eq_zero_iff->rX,take_append_drop->zX,length_take->fE,cons_append->N5,mem_map->bM,filter_congr->nG,mem_of_getElem?->dJ,zipIdx_cons->rZ,mem_zipIdx'->Eo,length_append->cV,length_singleton->iM,pairwise_map->ik,getElem?_eq_some_iff->cM,any_eq_true->l4,getElem?_append_left->il,take_append_of_le_length->Er,getElem?_append_right->je,range_succ->uO,mem_append_left->j_,pairwise_iff_getElem->z1,mem_append_right->gJ,replicate->fy,length_replicate->qp,foldl_append->qq,filter_filter->r3,contains_iff_mem->z4,filterMap_cons->jg,filterMap_append->uQ,filterMap_nil->Et,mem_filterMap->uR,pairwise_filterMap->Oc,getElem?_cons_zero->z8,find?_cons_of_neg->Od,find?_append->Oe,length_erase_of_mem->Of,filter_eq_nil_iff->Ew,getElem?_map->bN,getElem?_zipIdx->Og,map_id->Ex,map_congr_left->l7,length_filter_le->iq,not_mem_nil->ff,flatMap_cons->oW,getElem?_eq_none_iff->Oq,getElem_inj->Ot,getElem?_set_self->z9,getElem?_set_ne->z_,lookup->o2,of_mem_zip->Ai,length->Aj,getElem?_replicate->EN,getElem?_take_of_lt->uW,take_sublist->OH,length_drop->uY,size_toArray->dB,length_set->o6,replicate_succ->nT,flatten_cons->qH,foldl->EU,eraseIdxIfInBounds_toArray->OT,take_of_length_le->o8,any_cons->qI,any_map->Ay,forIn_nil->qJ,forIn_cons->sg,lookup_cons->qK,getElem?_eq_none->gK,find?_cons->sk,length_nil->e_,nodup_nil->sm,getElem?_cons_succ->E6,filterMap_cons_none->PJ,filterMap_cons_some->PK,getElem?_toArray->PL,filter_append->nX,length_zip->u9,zip_cons_cons->AU,map_snd_zip->E9,filter_map->E_,map_fst_zip->PM,getElem?_set->Fc,mem_of_mem_take->qO,getElem_take->AV,filter_sublist->u_,pairwise_lt_range->PN,ext_getElem?->pj,getElem?_range->h9,length_range->et,take_zero->PQ,map_take->PR,drop_append_of_le_length->Fe,drop_length->A1,getElem?_zip_eq_some->A2,forIn_toArray->A4,mem_iff_getElem?->nY,zipIdx_map->P7,eq_nil_of_length_eq_zero->Fv,drop_drop->P8,flatMap_nil->Fx,findIdx?_eq_some_iff_getElem->P9,flatMap_def->Ba,ext_getElem->sH,getElem_map->vi,isEmpty_nil->FQ
open Nat renaming le_refl->bp,le_trans->dQ,min_le_left->NY,add_mul->zR,lt_of_le_of_lt->Eh,lt_of_lt_of_le->gc,le_of_eq->uM,zero_le->dc,mul_le_mul_left->zT,le_add_right->r0,le_of_lt->qm,sub_self->j9,lt_trichotomy->Es,zero_add->oU,min_eq_left->uP,min_eq_right->N_,sub_zero->Eu,not_lt_zero->kM,lt_irrefl->kb,ne_of_lt->er,ne_of_gt->ma,lt_succ_self->qE,le_succ->Ah,le_of_succ_le->AA,lt_succ_of_lt->si,lt_trans->AD,le_succ_of_le->PB,le_of_not_lt->Ft,add_mod_right->Qb,testBit_or->Qh,testBit_two_pow->Qi,testBit_two_pow_sub_one->Qj
open Bool renaming true->ai,true_and->nA,and_eq_true_iff->uI,false->ax,and_eq_true->oS,not_eq_true'->N9,or_eq_true->l5,and_comm->Oa,eq_iff_iff->ip,false_eq_true->ka,or_false->z6,or_true->Ob,false_ne_true->d8,false_and->OA,and_false->OP,false_or->EX,noConfusion->jl,not_false->E7,eq_false_iff->Fb,not_not->Fd,or_comm->Ff,or_eq_false_iff->Fy,not_true->FR
open List.Perm renaming cons->N0,refl->zQ,trans->lX,append_left->uK
open Option renaming some->O,none->aj,isSome_iff_exists->zS,getD_some->rY,filter->z5,map_some->oV,bind_some->z7,getD_none->OM,map_eq_some_iff->Ax,isSome_some->O0,isSome_map->O1,none->aR,isNone_some->PZ,map->Qs
open Or renaming inr->gb,inl->cB
open Sy50 renaming isStruck->j6,says->kL,counts->oQ,limit->lY,halved->j7,bears->cp,partOf->eX,step->cb,St->cq,limit->ej,ok->eH,ENTRIES->gZ,weakest->oT,Entry->dz,LAST->iN,Part->e8,init->z0,Post->l8,Call->Ey,crack->iy,counts->PV,falls->AZ,inspected->lx,isStruck->mr,posted->A0,tooMuch->kS,Ans->Fw,source->A_
open Option.some renaming inj->aM,injEq->Pg
open Classical renaming byContradiction->N3
open Sy51Neutral renaming natIn->rW,many_->zU,all_->jb,some_->lq,callOf->zV,rowIn->zW,g->N4,asked1->El,out->jc,step->uN,many->N8
open Prod renaming fst->nD,snd->lZ
open PySy51 renaming whole->qk,shape->oR,answers_asked->Em,answers->En
open PyFlat renaming row->Ei,call->Ej,rows->Ek,calls->zY,played->N6,told->l0
open Sy51 renaming St->bY,step->di,init->nF,Most->lr,ticks->eA,bearsNow->ql,inFile->l6,inLane->qn,tick->jh,cleared->cW,insert->nI,rising->Ez,FUEL->eB,bearsNow->mu,posting->fH,noted->qP,Most->jm,fours->dC,Call->nZ,of50->lz,ok->lA,of49->ve,night->vf,exposed->gM
open List.cons renaming inj->N7
open List.Pairwise renaming filter->zZ,imp_of_mem->r4,sublist->abb,imp->Qa
open Int renaming toNat->nH,toNat_natCast->jj,natCast_mul->PU
open PySem renaming Str->M,Value->D,World->bR,Tok->gf,Program->cx,Addr->U,Obj->a9,Heap->aZ,sizeLine->bu,sysModules->iQ,tupleKind->r5,Within->EA,mainGlobals->dA,builtinsNs->EC,bootBuiltins->qv,Around->cQ,Shared->au,Env->fi,Scope->fO,Model->r6,wpAny->aG,Expr->bx,model->aU,eval->bU,isTrue->uS,Sem->gg,Pos->c7,backTo->fF,starEach->cu,Stmt->a_,wpAny_mono->kc,wpAny_Name->EE,CmpOp->qx,compareOp->kO,behindInMarks->qy,wpAny_isTrue_Compare1->Ow,wpAny_truthy_bool->nJ,standAt->qz,holding->l_,wpAny_execs_nil->Aa,wpAny_execs_cons->Oy,swapsWith->oZ,assign->qA,assignEach->r7,wpAny_assign_Name->Oz,wpAny_bind->av,wpAny_holding->hG,wpAny_standAt->EF,wpAny_passesOwn->qB,pyNext->fP,letOwnedTupleGo->Ab,pyIter->nK,wpAny_pure->aV,rawInt->eI,wpAny_pyIter_list->r8,foldedSetIterable->Ac,again->qC,binaryOp->o1,rule->nM,sizeLine_eq->bZ,getMethod->qD,Result->uV,codeAny->kP,attributeBase->o3,callWith->qF,backToKw->nO,keywordEach->nP,cLine->hH,FuncData->bV,BindsTo->r9,bindArgs->nR,wpAny_call->Af,codeAny_mono->r_,wpAny_Call_Name_kw->kQ,NameKind->iu,bindL->o4,bindC->o5,cellsFrom->gx,mem_of_lookup->iR,typeLookup->Ak,getItem->sb,seqIndex?->An,seqIndex_of->EO,seqIndex_neg->ER,subscripted->Ao,slot_list_getitem->ES,sliceBounds->gy,slicePick->Ap,wpAny_getItem_list_slice->ON,typeIs_int->ET,Keyword->sf,call_meets->o7,nums_intItems->EV,numAt_eq->Av,getD_mem->OV,pushCells->o9,pushCells_keeps->Az,compEnvC->kg,notedBy->sj,wpAny_newObj_type->o_,valueAt->pa,atKey->nU,wpAny_getItem_of->O2,tupleKind_room_in1->AE,call_meetsIn->u0,argsOk->qL,wpAny_specialOf->AF,wpAny_Dict_empty->O6,wpAny_Call_method->AG,DictEntry->kh,wpAny_pyIter_slot->so,wpAny_call_entry->hJ,wpAny_dictEntries->E1,wpAny_dictEpoch->E2,wpAny_attempt->mi,wpAny_callSpecial?_slot->mj,wpAny_typeNameOfWhole_keyiter->AH,wpAny_typeNameOf_keyiter->AI,wpAny_fieldsOf->AJ,wpAny_isOneOf_keyiter->Pd,wpAny_setField->u1,firstArgMember->AM,wpAny_of_eq->E5,wpAny_isInstance->u4,isSubtype_stop->AN,wpAny_pyIter_keyiter->Ph,wpAny_pyIter_enum->Pl,Params->nV,callerA->sv,call->Pu,codeAny_call_builtin->Pw,callSpecialIfBound?->Py,wpAny_askSetting->sx,wpAny_loadPart'->AR,wpAny_updateSeq->sy,plainId_quiet->qN,codeAny_builtin->ml,sliceRange->AS,load->iw,updateSeq->va,field->mv,wpAny_field->iz,wpAny_seqItems->ly,wpAny_rule->Fg,wpAny_setField_rec->vb,wpAny_onRaise->Fh,wpAny_nextOf_list_item->pk,wpAny_letGo->A3,wpAny_newTuple->Fi,wpAny_nextOf_list_end->P0,typeLookup_type->A7,builtinLookup_eq_fast->A8,wpAny_typeOf->Fl,checkBuiltinCall->P6,signature?_of->Fs,IsPair->vc,unsupported->Fz,plain->px,SetTable->hL,intKind_is->vo,wpAny_setState_of->Bf,wpAny_storeSet_of->Qo,codeAny_of_tree->Qq,pickOrder->FN,isSubtype_type->FO,setsByText->FP,wpAny_ite_split->Bg,wpAny_setEntries_of->FU
open PySem.Value renaming isInt->Oh,isStrOf->Oi,int->ir,none->kN,bool->ji,bytes->Om,float->Oo,ref->cP,type->iP
open Sum renaming inl->bz,inr->qt
open Sum.inl renaming inj->oX
open PySem.SeqAt.EqAt renaming int_str->Oj,str_int->Ol,same->OO
open PySem.W renaming instObj->oY,methodObj->EB,Frag->bj,lookIn->Ad,InstAt->OC,plainGet->uT,hasDictIn->Ae,findIn->ke,handedIn->OD,plainGet_of->EG,isFn->uU,plainOver->EH,takerIn->EI,makesIn->EJ,emptyDict->nN,keepIn->mc,methodCall_KW->EK,callWith_K->Ag,callWith_K0->OF,cellsFrom_some->OG,fnOf->nS,codeIn->uX,WData->fG,WRecords->Po,WellAll->pd,length_le_weightAllW->Pp,WalkOS->Pt,findIn->u7,nsIn->eZ,mg_of->E8,kdx_alive->PY,mg_of->fz
open PySem.Heap renaming lt_size->cJ,SameBut->l9,get?_push_of_some->dd,get?_push_size->eo,size_push->gw,get?_update_self->mf,get?_update_other->se,ExtBut->Pe,IsList->Fo
open PyProof.Rows renaming AllBare->qw,callWith_type1->nL,iadd_int->aa5,envOfC->md,callWith_builtin1->OI,Subscript_->Al,subscriptTail->Am,subscriptTail_builtinR->OL,IntsAre->mh,sorted_ints->aa7,sortedAll_at->aa8,sortedAll_old->aa9,seqObj->pq,pairsOf->qR
open PySem.Calls renaming Name_function_global->Ou,spliced_nil->qG,spliced_cons->nQ,callWith_builtin->Ar,evalArgs_plain->As
open PySem.CmpOp renaming NotIn->Ov
open Array renaming length_toList->e9,toList->Ox,mem_toList_iff->OB,getElem?_toList->Au,getElem?_eq_some_iff->qM,getElem?_eq_getElem->jk,getElem?_eq_none->Pf,getElem_mem->Pz,toList_push->A6,getD->fR,getElem_toList->Qg,size_map->Qn
open False renaming elim->h7
open PySem.Builtin.Range renaming rangeSize->aaG
open PySem.EqNone renaming eq_none_none->aaH,eq_none_bool->aaI,eq_none_int->aaJ,eq_none_str->aaK,eq_bool_none->aaL,eq_int_none->aaN,eq_str_none->aaP,ne_none_none->aaS,ne_none_bool->aaT,ne_none_int->aaU,ne_none_str->aaV,ne_bool_none->aaW,ne_int_none->aaY,ne_str_none->aa0
open PySem.EqMixed renaming eq_bool_str->aaM,eq_int_str->aaO,eq_str_bool->aaQ,eq_str_int->aaR,ne_bool_str->aaX,ne_int_str->aaZ,ne_str_bool->aa1,ne_str_int->aa2
open PySem.W.Looks renaming here->aa3
open PySem.Within renaming cons->aa4
open PySem.Around renaming under->EL,under_plainId->nW,in1->PD
open PySem.Code renaming frames->OE,isFrame->EM
open PySem.Heap.IsSliceOf renaming new->OJ
open PySem.Obj renaming mapSeq->iS,mapFields->AL,isFreed_of_fields->E3,data_mapFields->sr,cls_mapFields->E4,putSet->FJ
open PySem.SeqAt renaming EqAt->Aq,list_indexAt->OY
open PySem.Builtin.List renaming listTooLong->uZ,listFitsIndex->aa6,listExtendWith->qQ,listSameRef->P2,listLengthHint->Fm,listTouch->abc,listItems->Fn,listUpdate->abd
open PySem.F renaming slot_list_extend->OQ,entry_list_extend->OR,args_list_extend_2->OS,slot_int_rmul->OU,slot_list_index->Aw,entry_list_index->OW,args_list_index_2->OX,slot_dict_delitem->O3,slot_dict_pop->O4,slot_dict_getitem->O5,slot_dict_get->EY,entry_dict_get->O7,args_dict_get_3->O8,plainAttrs_dict->EZ,slot_dict_iter->O9,slot_dict_keyiterator_next->sq,entry_dict_keyiterator_next->Pa,args_dict_keyiterator_next_1->Pb,slot_dict_keyiterator_iter->Pj,slot_dict_items->Pk,cmp_object->Px,slot_list_remove->PF,slot_dict_setdefault->PH,plainAttrs_list->gL,slot_list_append->mm,type_list_append->mn,slot_list_extend->sD,type_list_extend->sE,entry_extend_loop->P1,plain_extend_loop->A5,slot_zip_next->jn,entry_zip_next->sF,args_zip_next_1->sG,slot_zip_iter->A9,entry_zip_iter->P4,args_zip_iter_1->P5,type_list_index->P_,plain_list_iadd->Qd,plain_set_new->Qr,called_set->pz,slot_set_iter->Qt
open PySem.Walks renaming list->OZ
open PySem.NameKind renaming free->sh,cell->EW
open ForInStep renaming yield->AB
open PySem.Builtin.Dict renaming dictSlotNone->aa_,showsAll->O_
open PySem.Str renaming ofString->lu
open PySem.Builtin.Dict_items renaming ownsTuple->Pc
open PySem.Heap.SameBut renaming update->pb,refl->Fj
open PySem.W.WData renaming int->Pn,weightAll->AQ
open PySem.W.Codec renaming denoteAll->AO,encAll->su,withinAll->Pr,app->u6
open PySem.Data renaming seq->u5
open PySem.Value.type renaming inj->Pq
open PySem.Challenge renaming pw_bridgeinuse_s01_answers->aba,rw_bridgeinuse_s01_answers->Qu
open Nat.succ renaming inj->sA
open Int.ofNat renaming inj->pe
open PySem.PassesOwn renaming never->hK
open List.Nodup renaming sublist->sC
open List.Sublist renaming map->AX
open Prod.mk renaming inj->AY
open PySem.Builtin.SmallTypes renaming ownedTupleIsFree->mw,nextOf->mx,ownedTupleHandOut->PX
open PySem.Shared renaming heap->Fp
open PySem.Heap.IsList renaming push->Fq
open PySem.Expr renaming Call->Fu
open Except renaming ok->Qe
open PyProof.Rows.G renaming tupKeyC->vg,tupKindC->vh
open PySem.Value.ref renaming inj->fW
open PySem.SetTable.below renaming go->FE
open PySem.SetTable renaming below->fX,laid->vj,layClean->FF,slot->FG,has->Bb,insertAt->Bc,Probe->FH,turns->ki,leap->Bd,bits->jq,runEnd->Qk,fits->FI,fill->vm,grown->vn,insertAt_perm->Ql,tooFull->Qm,sizeAbove->Be
open PySem.SetTable.probe renaming go->vk
open PySem.SetTable.layClean renaming free->sI
open PyProof.Rows.F renaming entry_set_update_loop->Qp,plain_set_update_loop->FK
open PySem.Builtin.Frozenset renaming newClass->abe,updateFrom->abf,slot0->abg,addrOf->abh,sizeOf->abi
open PySem.pickOrder renaming go->FL
namespace aW
open Sy49
def sN:∀(l:aa (Nat×Nat))(c:Nat),c<(l.map λ(x:Nat×Nat)=>x.1).sum->uH l c<l.length
 | [],c,h=>by simp at h
 |x::l,c,h=>by
  unfold uH;split
  ·simp
  ·rename_i b;have a:c-x.1<(l.map λ(x:Nat×Nat)=>x.1).sum:=by simp only[cI,i_]at h;lia
   have:=sN l (c-x.1) a;simp only[cU];lia
def FV:∀(l:aa (Nat×Nat))(m:Nat),l.foldl (λ(m:Nat)(x:Nat×Nat)=>min m x.2) m<=m
 | [],m=>bp m
 |x::l,m=>by simp only[gI];exact dQ (FV l _) (NY _ _)
def FW:∀(l:aa (Nat×Nat))(m:Nat)(x:Nat×Nat),x∈l->l.foldl (λ(m:Nat)(x:Nat×Nat)=>min m x.2) m<=x.2
 | [],m,x,h=>by simp at h
 |a::l,m,x,h=>by
  simp only[gI];rcases bL.mp h with rfl|h
  ·exact dQ (FV l _) (Nat.min_le_right _ _)
  ·exact FW l _ x h
def least_le(s:St){k:Nat}(h:k<s.spans.length):lW s<=limitOf s k:=by(unfold lW limitOf;have e:s.spans.getD k (0,0)=s.spans[k]:=by simp[dt,b_ h]);rw[e];exact FW _ _ _ (kJ h)
def kk(s:St){eb a:Nat}(h:a<cZ s):cellOf s eb a<cZ s:=by unfold cellOf;split;(exact h);lia
def QA(s:St){eb a b:Nat}(c:a<cZ s)(d:b<cZ s)(e:cellOf s eb a=cellOf s eb b):a=b:=by unfold cellOf at e;split at e<;>lia
structure Ok(s:St):Prop where
 lC:1<=s.turn
 mz:s.turn<=20
 iA:1<=s.spans.length
 gh:s.spans.length<=12
 iB:∀x∈s.spans,1<=x.1/\x.1<=5
 lim:∀x∈s.spans,1<=x.2/\x.2<=1000
 wW:∀c∈s.waits,1<=c.weight/\c.weight<=lW s
 wO:∀x∈s.onIt,1<=x.1.weight/\x.1.weight<=lW s
 jr:∀c∈s.waits,c.side<=1
 iC:∀x∈s.onIt,x.1.side=s.side
 g4:s.side<=1
 pos:s.onIt.Pairwise λx y=>y.2<x.2
 lt:∀x∈s.onIt,x.2<cZ s
 fY:s.came<=60
 ids:(s.waits.map (λ(c:F)=>c.id)++(s.onIt.map (λ(x:F×Nat)=>x.1.id)++s.past.map λ(p:eG)=>p.id)).Perm (bQ s.came)
 ord:s.waits.Pairwise λx y=>x.id<y.id
 most:s.most.length=s.spans.length
def Ok.QB{s:St}(o:Ok s):cZ s<=60:=by(have:∀l:aa (Nat×Nat),(∀x∈l,x.1<=5)->(l.map λ(x:Nat×Nat)=>x.1).sum<=5*l.length:=by intro l;induction l with|nil=>intro _;simp|cons c l b=>intro h;have d:=h c (cc ..);have e:=b λx a=>h x (cw _ a);simp only[cI,i_,cU];lia);have h:=this s.spans λx a=>(o.iB x a).2;have:=o.gh;unfold cZ;lia
def Ok.count{s:St}(o:Ok s):s.waits.length+s.onIt.length+s.past.length=s.came:=by have h:=o.ids.length_eq;simp at h;lia
def Ok.fits{s:St}(o:Ok s){eb a w:Nat}(b:a<cZ s)(c:w<=lW s):w<=limitOf s (uH s.spans (cellOf s eb a)):=dQ c (least_le s (sN _ _ (kk s b)))
def eE(s:St)(l:aa (F×Nat)):Nat:=(l.map λ(x:F×Nat)=>cZ s-x.2).sum
def sO(s:St)(l r:aa (F×Nat)):eE s (l++r)=eE s l+eE s r:=by unfold eE;rw[dY,List.sum_append]
def mB(s:St)(x:F×Nat)(r:aa (F×Nat)):eE s (x::r)=cZ s-x.2+eE s r:=by unfold eE;rw[cI,i_]
def qS(s:St):∀(r l:aa (F×Nat)),eE s (eO s l r).1<=eE s l+eE s r
 | [],l=>by show eE s l<=_;lia
 |x::r,l=>by
  unfold eO;rw[mB];split
  ·have:=qS s r l;show eE s (eO s l r).1<=_;lia
  ·split
   ·have:=qS s r (l++ [(x.1,x.2+1)]);rw[sO,mB]at this;have e:eE s []=0:=rfl;simp only at this;lia
   ·have:=qS s r (l++ [x]);rw[sO,mB]at this;have e:eE s []=0:=rfl;lia
def FX(s:St)(k:Nat):bears s [] k=0:=rfl
def QC{s:St}(o:Ok s){x:F×Nat}{r:aa (F×Nat)}(f:x.2<cZ s)(c:x.1.weight<=lW s):eE s (eO s [] (x::r)).1<eE s (x::r):=by unfold eO;rw[mB];split;(have:=qS s r [];have e:eE s []=0:=rfl;show eE s (eO s [] r).1<_;lia);(rename_i h;have a:x.2+1<cZ s:=by lia);(have d:=o.fits (eb:=x.1.side) a c;have b:room s [] x.1 (x.2+1)=ai:=by unfold room;rw[FX];simp only[NZ,nA,fh];lia);rw[aI (by rw[b];simp)];have:=qS s r ([]++ [(x.1,x.2+1)]);rw[sO,mB]at this;have e:eE s []=0:=rfl;simp only at this;lia
structure Mv(s:St)(side:Nat)(l:aa (F×Nat)):Prop where
 pos:l.Pairwise λx y=>y.2<x.2
 lt:∀x∈l,x.2<cZ s
 side:∀x∈l,x.1.side=side
 w:∀x∈l,1<=x.1.weight/\x.1.weight<=lW s
def Mv.snoc{s:St}{eb:Nat}{l:aa (F×Nat)}(m:Mv s eb l){x:F×Nat}(i:∀c∈l,x.2<c.2)(g:x.2<cZ s)(j:x.1.side=eb)(k:1<=x.1.weight/\x.1.weight<=lW s):Mv s eb (l++ [x])where
 pos:=by rw[qj];refine#v[m.pos,by simp,λa e _ f=>?_];rw[c_.mp f];exact i a e
 lt:=λc d=>by
  rcases dh.mp d with h|h
  ·exact m.lt c h
  ·rw[c_.mp h];exact g
 side:=λc d=>by
  rcases dh.mp d with h|h
  ·exact m.side c h
  ·rw[c_.mp h];exact j
 w:=λc d=>by
  rcases dh.mp d with h|h
  ·exact m.w c h
  ·rw[c_.mp h];exact k
def sP(s:St)(eb:Nat):∀(r l:aa (F×Nat)),Mv s eb l->Mv s eb r->(∀a∈l,∀x∈r,x.2<a.2)->Mv s eb (eO s l r).1
 | [],l,f,_,_=>f
 |x::r,l,f,c,g=>by
  have i:Mv s eb r:=#v[(ja.mp c.pos).2,λa b=>c.lt a (cw _ b),λa b=>c.side a (cw _ b),λa b=>c.w a (cw _ b)];have n:∀a∈r,a.2<x.2:=(ja.mp c.pos).1;have t:=c.lt x (cc ..);have k:=c.side x (cc ..);have m:=c.w x (cc ..);have j:∀a∈l,x.2<a.2:=λa b=>g a b x (cc ..);unfold eO;split
  ·exact sP s eb r l f i λa b d e=>g a b d (cw _ e)
  ·rename_i w;split
   ·rename_i p;have o:=(uI.mp p).1;have q:∀a∈l,a.2≠x.2+1:=λa b=>by have:=kK.mp o a b;simpa using this
    refine sP s eb r _ (f.snoc (x:=(x.1,x.2+1)) (λa b=>?_) (by show x.2+1<cZ s;lia) k m) i (λa b d e=>?_)
    ·have u:=j a b;have v:=q a b;show x.2+1<a.2;lia
    ·rcases dh.mp b with h|h
     ·exact g a h d (cw _ e)
     ·rw[c_.mp h];have:=n d e;show d.2<x.2+1;lia
   ·refine sP s eb r _ (f.snoc (x:=x) j t k m) i (λa b d e=>?_);rcases dh.mp b with h|h
    ·exact g a h d (cw _ e)
    ·rw[c_.mp h];exact n d e
def pB(s:St):∀(r l:aa (F×Nat)),((eO s l r).1.map (λ(x:F×Nat)=>x.1.id)++(eO s l r).2.map λ(c:F)=>c.id).Perm (l.map (λ(x:F×Nat)=>x.1.id)++r.map λ(x:F×Nat)=>x.1.id)
 | [],l=>by show(l.map (λ(x:F×Nat)=>x.1.id)++([]:aa F).map (λ(c:F)=>c.id)).Perm _;simp
 |x::r,l=>by
  unfold eO;split
  ·have h:=pB s r l;show((eO s l r).1.map (λ(x:F×Nat)=>x.1.id)++(x.1::(eO s l r).2).map λ(c:F)=>c.id).Perm _;simp only[cI];refine zO.trans ?_;refine(N0 _ h).trans ?_;exact zO.symm
  ·split
   ·have h:=pB s r (l++ [(x.1,x.2+1)]);simpa[gq]using h
   ·have h:=pB s r (l++ [x]);simpa[gq]using h
def Bi{s:St}{eb:Nat}{c:F}(h:first s eb=O c):c∈s.waits/\c.side=eb:=by(unfold first at h);refine#v[nB h,?_];have:=nC h;simpa using this
def QD{s:St}{eb:Nat}(h:first s eb=aj):∀c∈s.waits,c.side≠eb:=by(unfold first at h);intro c a;have:=hX.mp h c a;simpa using this
def Ok.lD{s:St}(o:Ok s):(s.waits.map λ(c:F)=>c.id).Nodup:=by have h:(s.waits.map (λ(c:F)=>c.id)++(s.onIt.map (λ(x:F×Nat)=>x.1.id)++s.past.map λ(p:eG)=>p.id)).Nodup:=o.ids.nodup_iff.mpr Eg;exact(hB.mp h).1
def pC:∀(l:aa F)(c:F),c∈l->(l.map λ(c:F)=>c.id).Nodup->(c.id::(l.filter λ(x:F)=>x.id !=c.id).map λ(c:F)=>c.id).Perm (l.map λ(c:F)=>c.id)
 | [],c,h,_=>by simp at h
 |g::l,c,h,a=>by
  simp only[cI,fD]at a;rcases bL.mp h with rfl|h'
  ·rw[hC,aD (by simp)];have e:l.filter (λ(x:F)=>x.id !=c.id)=l:=by rw[rT];intro x f;simp only[zP,ne_eq];intro b;exact a.1 (by rw[<-b];exact gr f)
   rw[e];exact zQ _
  ·have d:g.id≠c.id:=λb=>a.1 (by rw[b];exact gr h');rw[hC,aI (by simpa using d)];simp only[cI];exact(List.Perm.swap _ _ _).trans (N0 _ (pC l c h' a.2))
def Ok.n0{s:St}(o:Ok s)(a:Bool):Ok {s with shut:=a}:=#v[o.lC,o.mz,o.iA,o.gh,o.iB,o.lim,o.wW,o.wO,o.jr,o.iC,o.g4,o.pos,o.lt,o.fY,o.ids,o.ord,o.most]
def Ok.turned{s:St}(o:Ok s):Ok (turned s):=by unfold hE;split;(rename_i h;have b:=o.g4;exact#v[o.lC,o.mz,o.iA,o.gh,o.iB,o.lim,o.wW,o.wO,o.jr,(λx a=>by rw[h.2]at a;simp at a),(by show 1-s.side<=1;lia),o.pos,o.lt,o.fY,o.ids,o.ord,o.most]);exact o
def Ok.entered{s:St}(o:Ok s):Ok (entered s):=by unfold uJ;cases m:first s s.side with|none=>exact o|some c=>obtain⟨d,q⟩:=Bi m;simp only;split;(exact o);(rename_i h;have n:room s s.onIt c 0=ai:=by cases e:room s s.onIt c 0;(exact absurd (gb (gb e)) h);rfl);(have j:∀x∈s.onIt,x.2≠0:=λx a=>by have:=kK.mp (uI.mp n).1 x a;simpa using this);(have k:0<cZ s:=by have g:=o.iA;unfold cZ;match e:s.spans,g with|t::l,_=>have:=(o.iB t (by rw[e];exact cc ..)).1;simp only[cI,i_];lia);have b:Mv s s.side (s.onIt++ [(c,0)]):=Mv.snoc #v[o.pos,o.lt,o.iC,o.wO] (x:=(c,0)) (λf r=>by have:=j f r;show 0<f.2;lia) k q (o.wW c d);refine#v[o.lC,o.mz,o.iA,o.gh,o.iB,o.lim,λx a=>o.wW x (c0.mp a).1,b.w,λx a=>o.jr x (c0.mp a).1,b.side,o.g4,b.pos,b.lt,o.fY,?_,o.ord.filter _,o.most];refine lX ?_ o.ids;show((s.waits.filter λ(x:F)=>x.id !=c.id).map (λ(c:F)=>c.id)++((s.onIt++ [(c,0)]).map (λ(x:F×Nat)=>x.1.id)++s.past.map λ(p:eG)=>p.id)).Perm _;rw[dY];simp only[cI,oO,gq,N1];have i:=pC s.waits c d o.lD;refine lX ?_ (i.append_right _);rw[<-gq];refine zO.trans ?_;rw[gq];exact zQ _
def Ok.noted{s:St}(o:Ok s):Ok (noted s):=#v[o.lC,o.mz,o.iA,o.gh,o.iB,o.lim,o.wW,o.wO,o.jr,o.iC,o.g4,o.pos,o.lt,o.fY,o.ids,o.ord,by show(d_ _ _).length=_;rw[aq,oP];exact o.most]
def cK(s:St):St:={s with time:=s.time+1,onIt:=(eO s [] s.onIt).1,past:=s.past++(eO s [] s.onIt).2.map λ(c:F)=>(⟨c.id,0,s.time+1⟩:eG)}
def mC(s:St):tick s=noted (entered (turned (cK s))):=rfl
def Ok.cK{s:St}(o:Ok s):Ok (cK s):=by have a:Mv s s.side (eO s [] s.onIt).1:=sP s s.side s.onIt [] #v[by simp,by simp,by simp,by simp] #v[o.pos,o.lt,o.iC,o.wO] (by simp);refine#v[o.lC,o.mz,o.iA,o.gh,o.iB,o.lim,o.wW,a.w,o.jr,a.side,o.g4,a.pos,a.lt,o.fY,?_,o.ord,o.most];refine lX ?_ o.ids;show(s.waits.map (λ(c:F)=>c.id)++((eO s [] s.onIt).1.map (λ(x:F×Nat)=>x.1.id)++(s.past++(eO s [] s.onIt).2.map λ(c:F)=>(#v[c.id,0,s.time+1]:eG)).map λ(p:eG)=>p.id)).Perm _;refine uK _ ?_;have h:=pB s s.onIt [];simp only[oO,uL]at h;rw[dY,ck];have e:((λ(p:eG)=>p.id)∘λ(c:F)=>(#v[c.id,0,s.time+1]:eG))=λ(c:F)=>c.id:=rfl;rw[e];refine lX ?_ (h.append_right _);rw[gq];exact uK _ rV
def Ok.tick{s:St}(o:Ok s):Ok (tick s):=by rw[mC];exact o.cK.turned.entered.noted
def mD(s:St):cZ (tick s)=cZ s/\(tick s).spans=s.spans/\(tick s).shut=s.shut/\(tick s).turn=s.turn/\(tick s).came=s.came/\(tick s).time=s.time+1:=by(have a:(turned (cK s)).spans=s.spans/\(turned (cK s)).shut=s.shut/\(turned (cK s)).turn=s.turn/\(turned (cK s)).came=s.came/\(turned (cK s)).time=s.time+1:=by unfold turned;split<;>exact#v[I,I,I,I,I]);(have b:(entered (turned (cK s))).spans=s.spans/\(entered (turned (cK s))).shut=s.shut/\(entered (turned (cK s))).turn=s.turn/\(entered (turned (cK s))).came=s.came/\(entered (turned (cK s))).time=s.time+1:=by unfold entered;split;(exact a);split;(exact a);exact a);rw[mC];refine#v[?_,b];unfold cZ;show((entered (turned (cK s))).spans.map _).sum=_;rw[b.1]
def vp(s:St):(tick s).past=s.past++(eO s [] s.onIt).2.map λ(c:F)=>(#v[c.id,0,s.time+1]:eG):=by(have a:(turned (cK s)).past=s.past++(eO s [] s.onIt).2.map λ(c:F)=>(#v[c.id,0,s.time+1]:eG):=by unfold turned;split<;>rfl);rw[mC];show(entered (turned (cK s))).past=_;unfold entered;split;(exact a);·split<;>exact a
def work(s:St):Nat:=s.waits.length*(cZ s+1)+eE s s.onIt
def QE{s:St}(o:Ok s):work (entered s)<=work s:=by unfold uJ;cases d:first s s.side with|none=>exact bp _|some c=>simp only;split;(exact bp _);obtain⟨b,_⟩:=Bi d;have a:=(pC s.waits c b o.lD).length_eq;simp only[cU,aq]at a;show(s.waits.filter λ(x:F)=>x.id !=c.id).length*(cZ s+1)+eE s (s.onIt++ [(c,0)])<=s.waits.length*(cZ s+1)+eE s s.onIt;rw[<-a,zR,sO,mB];have:eE s []=0:=rfl;lia
def FY{s:St}(o:Ok s){c:F}(d:first s s.side=O c)(k:s.shut=ax)(i:over s=ax)(h:s.onIt=[]):work (entered s)<work s:=by(obtain⟨b,_⟩:=Bi d;have g:0<cZ s:=by have f:=o.iA;unfold cZ;match e:s.spans,f with|m::l,_=>have:=(o.iB m (by rw[e];exact cc ..)).1;simp only[cI,i_];lia);(have j:room s s.onIt c 0=ai:=by unfold room;rw[h,FX];have:=o.fits (eb:=c.side) g (o.wW c b).2;simp only[NZ,nA,fh];lia);unfold uJ;rw[d];simp only;rw[aD (by rw[k,i,j];simp)];have a:=(pC s.waits c b o.lD).length_eq;simp only[cU,aq]at a;show(s.waits.filter λ(x:F)=>x.id !=c.id).length*(cZ s+1)+eE s (s.onIt++ [(c,0)])<s.waits.length*(cZ s+1)+eE s s.onIt;rw[<-a,zR,sO,mB];have:eE s []=0:=rfl;lia
def FZ(s:St):work (turned s)=work s:=by unfold hE;split<;>rfl
def QF{s:St}(o:Ok s):work (cK s)<=work s:=by have h:=qS s s.onIt [];have e:eE s []=0:=rfl;show s.waits.length*(cZ s+1)+eE s (eO s [] s.onIt).1<=_;unfold work;lia
def QG{s:St}(o:Ok s)(h:s.onIt≠[]):work (cK s)<work s:=by match e:s.onIt,h with|x::r,_=>have b:=o.lt x (by rw[e];exact cc ..);have a:=o.wO x (by rw[e];exact cc ..);have h:=QC o (x:=x) (r:=r) b a.2;show s.waits.length*(cZ s+1)+eE s (eO s [] s.onIt).1<s.waits.length*(cZ s+1)+eE s s.onIt;rw[e];lia
def sQ{s:St}(o:Ok s)(h:s.onIt≠[]):work (tick s)<work s:=by rw[mC];show work (entered (turned (cK s)))<_;have a:=QE o.cK.turned;rw[FZ]at a;exact Eh a (QG o h)
def QH{s:St}(h:s.onIt=[]):(cK s).onIt=[]:=by show(eO s [] s.onIt).1=[];rw[h];rfl
def QI{s:St}(o:Ok s)(m:s.shut=ax)(h:s.onIt≠[]\/s.waits≠[]):work (tick s)<work s:=by by_cases f:s.onIt=[];(·have x:s.waits≠[]:=h.resolve_left λy=>y f;rw[mC];show work (entered (turned (cK s)))<_;refine gc ?_ (dQ (uM (FZ (cK s))) (QF o));have j:=QH f;have n:=o.cK;have p:(cK s).waits=s.waits:=rfl;have E:=o.lC;have B:=o.g4;have i:=n.turned;cases a:over (cK s)with|true=>((have e:turned (cK s)={cK s with side:=1-(cK s).side,gone:=0}:=(by unfold turned;rw[aI ⟨a,j⟩]);unfold over at a;have t:=(uI.mp a).1;obtain⟨c,k⟩:=zS.mp t;rw[e]at i⊢;refine FY i (c:=c) k m ?_ j;unfold over;have u:first {cK s with side:=1-(cK s).side,gone:=0} (1-(cK s).side)=O c:=k);(show((first {cK s with side:=1-(cK s).side,gone:=0} (1-(1-(cK s).side))).isSome&&((first {cK s with side:=1-(cK s).side,gone:=0} (1-(cK s).side)).isNone||decide ((cK s).turn<=0)))=ax;rw[u];have:¬(cK s).turn<=0:=by show¬s.turn<=0;lia);simp[this])|false=>have e:turned (cK s)=cK s:=(by unfold turned;rw[aD (by rw[a];simp)]);rw[e]at i⊢;cases d:first (cK s) (cK s).side with|some c=>exact FY n d m a j|none=>exfalso;have v:=QD d;match r:s.waits,x with|b::l,_=>(have g:b∈s.waits:=(by rw[r];exact cc ..);have z:=o.jr b g;have A:=v b (by rw[p];exact g);have C:(cK s).side=s.side:=rfl;have q:b.side=1-(cK s).side:=by lia);(have w:(first (cK s) (1-(cK s).side)).isSome=ai:=by(unfold first);rw[List.find?_isSome];exact#v[b,by rw[p];exact g,by rw[q];simp]);unfold over at a;rw[w,d]at a;simp at a);exact sQ o f
def Bj{s:St}(o:Ok s):work s<=3660:=by(have b:=o.count;have c:=o.fY;have d:=o.QB;have:∀l:aa (F×Nat),eE s l<=l.length*(cZ s+1):=by intro l;induction l with|nil=>exact dc _|cons x l f=>rw[mB,cU,zR];lia);have e:=this s.onIt;unfold work;have a:(s.waits.length+s.onIt.length)*(cZ s+1)<=60*61:=Nat.mul_le_mul ∅ ∅;rw[zR]at a;lia
end aW
namespace bo
open Sy50
def c8:Entry->Nat
 |.found _ d _=>d
 |.mended _ d=>d
 |_=>0
def gA:Entry->Nat
 |.found p _ _=>p
 |.mended p _=>p
 |_=>0
def Made(a b:Nat)(l:aa Entry):Entry->Prop
 |.found p d c=>p<a/\d<=b/\c<=1000
 |.mended p d=>p<a/\d<=b
 |.struck e=>(∃p d,(∃c,l[e]? =O (.found p d c))\/l[e]? =O (.mended p d))/\j6 l e=ax
 |.right_ e c=>(∃p d f,l[e]? =O (.found p d f))/\j6 l e=ax/\c<=1000
structure Ok(s:St):Prop where
 p1:1<=s.parts.length
 kT:s.parts.length<=12
 rng:∀p∈s.parts,1<=p.bears/\p.bears<=1000/\p.costs<=100/\p.grows<=100
 day:s.today<=100000
 Bk:s.entries.length<=60
 made:∀(i:Nat)(x:Entry),s.entries[i]? =O x->Made s.parts.length s.today (s.entries.take i) x
 vq:s.posts.length<=60
 vt:∀p∈s.posts,p.day<=s.today
 Bl:s.posts.Pairwise λa b=>a.day<=b.day
 Bm:∀p∈s.posts,p.limit<=1000
def QJ(l:aa Entry)(k:Nat)(x:Entry×Nat)(a:Nat×Nat)(h:kL l k x=O a):a.1=c8 x.1:=by unfold kL at h;split at h;(cases h);split at h;(rename_i p d c e;rw[e];split at h;(rw[<-aM h];rfl);cases h);(rename_i p d e;rw[e];split at h;(rw[<-aM h];rfl);cases h);cases h
def QK{l:aa Entry}{k d d':Nat}(h:∀x∈l,c8 x<=d)(n:d<=d'):oQ l k d'=oQ l k d:=by
 unfold oQ;have:∀(b:aa (Entry×Nat))(m:ab (Nat×Nat×Nat)),(∀x∈b,c8 x.1<=d)->b.foldl (λ(m:ab (Nat×Nat×Nat))(x:Entry×Nat)=>match kL l k x with
    |none=>m
    |some a=>if d'<a.1 then m else match m with
     |none=>O (x.2,a.1,a.2)
     |some b=>if b.2.1<=a.1 then O (x.2,a.1,a.2)else m) m=
   b.foldl (λ(m:ab (Nat×Nat×Nat))(x:Entry×Nat)=>match kL l k x with
    |none=>m
    |some a=>if d<a.1 then m else match m with
     |none=>O (x.2,a.1,a.2)
     |some b=>if b.2.1<=a.1 then O (x.2,a.1,a.2)else m) m:=by
  intro b;induction b with
  |nil=>intro m _;rfl
  |cons x b i=>
   intro m f;simp only[gI];have g:=f x (cc ..);cases j:kL l k x with
   |none=>exact i _ λa c=>f a (cw _ c)
   |some a=>have e:=QJ l k x a j;simp only;rw[aD ∅,aD ∅];exact i _ λa c=>f a (cw _ c)
 refine this _ _ λx g=>?_;have:=N2 g;obtain⟨_,_,e⟩:=this;rw[e];exact h _ (kJ _)
def F0{l:aa Entry}{k d:Nat}{x:Nat×Nat×Nat}(h:oQ l k d=O x):x.2.1<=d:=by(unfold oQ at h;have:∀(c:aa (Entry×Nat))(m:ab (Nat×Nat×Nat)),(∀a,m=O a->a.2.1<=d)->∀x,c.foldl (λ(m:ab (Nat×Nat×Nat))(x:Entry×Nat)=>match kL l k x with|none=>m|some a=>if d<a.1 then m else match m with|none=>O (x.2,a.1,a.2)|some c=>if c.2.1<=a.1 then O (x.2,a.1,a.2)else m) m=O x->x.2.1<=d:=by intro c;induction c with|nil=>intro m e x g;exact e x g|cons x c i=>intro m e;simp only[gI];refine i _ λa b=>?_;cases f:kL l k x with|none=>rw[f]at b;exact e a b|some u=>rw[f]at b;simp only at b;split at b;(exact e a b);rename_i j;split at b;(rw[<-aM b];show u.1<=d;lia);split at b;(rw[<-aM b];show u.1<=d;lia);exact e a b);exact this _ aj (λa b=>by cases b) x h
def Ok.days{s:St}(o:Ok s):∀x∈s.entries,c8 x<=s.today:=λx b=>by obtain⟨i,a,e⟩:=fx b;have h:=o.made i x (by rw[b_ a,e]);cases x with|found p d c=>exact h.2.1|mended p d=>exact h.2|struck e=>exact dc _|right_ e c=>exact dc _
def QL{s:St}(o:Ok s)(k:Nat){d d':Nat}(h:s.today<=d)(h':d<=d'):crack s k d s.entries.length<=crack s k d' s.entries.length:=by unfold crack;rw[ij,QK (d:=d) (d':=d') (λx b=>dQ (o.days x b) h) h'];cases a:oQ s.entries k d with|none=>simp only;have:=zT (partOf s k).grows h';lia|some x=>have c:=F0 a;simp only;have:=zT (partOf s k).grows (show d-x.2.1<=d'-x.2.1 by lia);lia
def QM{s:St}(o:Ok s)(k:Nat){d d':Nat}(h:s.today<=d)(h':d<=d'):bears s k d' s.entries.length<=bears s k d s.entries.length:=by unfold bears;have:=zT (partOf s k).costs (QL o k h h');lia
def vv(f:Nat->Nat):∀(l:aa Nat)(m:Nat),let r:=l.foldl (λ(m k:Nat)=>if f k<f m then k else m) m
  (r=m\/r∈l)/\f r<=f m/\∀k∈l,f r<=f k
 | [],m=>#v[.inl I,bp _,λk h=>by simp at h]
 |x::l,m=>by
  have d:=vv f l (if f x<f m then x else m);simp only[gI]at d⊢;obtain⟨a,c,e⟩:=d;refine#v[?_,?_,λk b=>?_]
  ·rcases a with a|a
   ·rw[a];split
    ·exact .inr (cc ..)
    ·exact .inl I
   ·exact .inr (cw _ a)
  ·refine dQ c ?_;split<;>lia
  ·rcases bL.mp b with rfl|b
   ·refine dQ c ?_;split<;>lia
   ·exact e k b
def F1{s:St}(o:Ok s)(d n:Nat):weakest s d n<s.parts.length:=by(have h:=(vv (λk=>bears s k d n) (bQ s.parts.length) 0).1;have a:=o.p1;unfold weakest;rcases h with h|h);(rw[h];lia);exact gu.mp h
def QN{s:St}(o:Ok s)(d n:Nat){k:Nat}(a:k<s.parts.length):lY s d n<=bears s k d n:=(vv (λk=>bears s k d n) (bQ s.parts.length) 0).2.2 k (gu.mpr a)
def vw{s:St}(o:Ok s){d d':Nat}(h:s.today<=d)(h':d<=d'):lY s d' s.entries.length<=lY s d s.entries.length:=dQ (QN o d' _ (F1 o d _)) (QM o _ h h')
def vx{s:St}(o:Ok s)(w:Nat):∀(f d:Nat),s.today<=d->(∀e,d<=e->e<j7 s w f d->¬lY s e s.entries.length<w)/\d<=j7 s w f d/\j7 s w f d<d+2^f/\((∃e,d<=e/\e<d+2^f/\lY s e s.entries.length<w)->lY s (j7 s w f d) s.entries.length<w)
 |0,d,h=>by
  show(∀e,d<=e->e<d->_)/\d<=d/\d<d+2^0/\_;refine#v[λe i j=>by lia,bp _,by lia,λ⟨e,i,j,b⟩=>?_];have:e=d:=by simp at j;lia
  subst this;exact b
 |f+1,d,h=>by
  have p:0<2^f:=Nat.two_pow_pos f;have j:2^(f+1)=2^f+2^f:=by rw[Nat.pow_succ];lia
  unfold j7;split
  ·rename_i n;obtain⟨a,k,c,g⟩:=vx o w f d h;refine#v[a,k,by lia,λ_=>g #v[d+2^f-1,by lia,by lia,n]]
  ·rename_i n;obtain⟨a,k,c,g⟩:=vx o w f (d+2^f) ∅;refine#v[λe i b=>?_,by lia,by lia,λ⟨e,i,b,l⟩=>g #v[e,?_,by lia,l]]
   ·by_cases m:d+2^f<=e
    ·exact a e m b
    ·intro l;have:=vw o (d:=e) (d':=d+2^f-1) ∅ ∅;lia
   ·apply N3;intro m;have:=vw o (d:=e) (d':=d+2^f-1) ∅ ∅;lia
def QO{s:St}(o:Ok s){w n:Nat}:falls s w=O n↔n<131072/\lY s (s.today+n) s.entries.length<w/\∀m,m<n->¬lY s (s.today+m) s.entries.length<w:=by(obtain⟨a,_,c,g⟩:=vx o w 17 s.today (bp _);have k:(2:Nat)^17=131072:=by decide);rw[k]at c g;unfold falls;constructor;(intro h;simp only at h;split at h;((rename_i j;have e:=aM h;have l:j7 s w 17 s.today=s.today+n:=by lia);rw[l]at j a c;exact#v[by lia,j,λm _=>a _ ∅ ∅]);cases h);rintro⟨_,f,p⟩;have i:=g #v[s.today+n,by lia,by lia,f];simp only;rw[aI i];congr 1;have q:¬s.today+n<j7 s w 17 s.today:=λd=>a _ ∅ d f;have r:¬j7 s w 17 s.today-s.today<n:=λd=>p _ d (by rw[show s.today+(j7 s w 17 s.today-s.today)=j7 s w 17 s.today by lia];exact i);lia
def QP{s:St}(o:Ok s){w:Nat}:falls s w=aj↔∀m,m<131072->¬lY s (s.today+m) s.entries.length<w:=by(obtain⟨a,_,c,g⟩:=vx o w 17 s.today (bp _);have d:(2:Nat)^17=131072:=by decide);rw[d]at c g;unfold falls;constructor;(intro h m _ e;simp only at h;rw[aI (g #v[s.today+m,by lia,by lia,e])]at h;cases h);intro h;simp only;rw[aD];intro f;exact h (j7 s w 17 s.today-s.today) ∅ (by rw[show s.today+(j7 s w 17 s.today-s.today)=j7 s w 17 s.today by lia];exact f)
def QQ{s:St}(o:Ok s){w:Nat}:falls s w=aj↔¬lY s (s.today+131071) s.entries.length<w:=by rw[QP o];constructor;(intro h;exact h _ ∅);intro h m _ _;have:=vw o (d:=s.today+m) (d':=s.today+131071) ∅ ∅;lia
end bo
namespace eR
open Sy51(Call)
def enc:Call->aa Int
 |.begins t l=>[0,(t:Int),(l.length:Int)]++l.map λ(n:Nat)=>(n:Int)
 |.day n=>[1,(n:Int)]
 |.found k d c=>[2,(k:Int),(d:Int),(c:Int)]
 |.mended k d=>[3,(k:Int),(d:Int)]
 |.strike e=>[4,(e:Int)]
 |.right_ e c=>[5,(e:Int),(c:Int)]
 |.post=>[6]
 |.comes a w=>[7,(a:Int),(w:Int)]
 |.gives i=>[8,(i:Int)]
 |.ticks n=>[9,(n:Int)]
 |.shut b=>[10,(b:Int)]
 |.where_ i=>[11,(i:Int)]
 |.when_ i=>[12,(i:Int)]
 |.loads=>[13]
 |.queue a=>[14,(a:Int)]
 |.known k d n=>[15,(k:Int),(d:Int),(n:Int)]
 |.limit d n=>[16,(d:Int),(n:Int)]
 |.wrong a b=>[17,(a:Int),(b:Int)]
 |.falls w=>[18,(w:Int)]
 |.due n=>[19,(n:Int)]
 |.exposed=>[20]
 |.book d=>[21,(d:Int)]
 |.state=>[22]
def B:Nat:=4294967296
def In:Call->Prop
 |.begins t l=>t<B/\l.length<=60/\∀n∈l,n<B
 |.day n=>n<B
 |.found k d c=>k<B/\d<B/\c<B
 |.mended k d=>k<B/\d<B
 |.strike e=>e<B
 |.right_ e c=>e<B/\c<B
 |.comes a w=>a<B/\w<B
 |.gives i=>i<B
 |.ticks n=>n<B
 |.shut b=>b<B
 |.where_ i=>i<B
 |.when_ i=>i<B
 |.queue a=>a<B
 |.known k d n=>k<B/\d<B/\n<B
 |.limit d n=>d<B/\n<B
 |.wrong a b=>a<B/\b<B
 |.falls w=>w<B
 |.due n=>n<B
 |.book d=>d<B
 |_=>True
def QR{l:aa Int}{n:Nat}{r:aa Int}(h:rW l=O (n,r)):l=(n:Int)::r/\n<B:=by unfold rW at h;split at h;(rename_i g f;split at h;((rename_i d;have e:=aM h;have a:g.toNat=n:=dR nD e;have b:f=r:=dR lZ e;subst b;have c:(2:Int)^32=4294967296:=by decide);rw[c]at d;refine#v[?_,?_];(rw[<-a];congr 1;lia);unfold B;lia);cases h);cases h
def vy:∀ {k:Nat}{l:aa Int}{ns:aa Nat}{r:aa Int},zU rW k l=O (ns,r)->l=(ns.map λ(n:Nat)=>(n:Int))++r/\ns.length=k/\∀n∈ns,n<B
 |0,l,ns,r,h=>by have e:=aM h;have i:[]=ns:=dR nD e;have j:l=r:=dR lZ e;subst i j;exact#v[I,I,λn h=>by simp at h]
 |k+1,l,ns,r,h=>by
  unfold zU at h;cases o:rW l with
  |none=>rw[o]at h;cases h
  |some x=>
   obtain⟨n,p⟩:=x;rw[o]at h;have h':(zU rW k p).map (λ(g:aa Nat×aa Int)=>(n::g.1,g.2))=O (ns,r):=h;cases b:zU rW k p with
   |none=>rw[b]at h';cases h'
   |some g=>
    obtain⟨s,t⟩:=g;rw[b]at h';have e:=aM h';have i:n::s=ns:=dR nD e;have j:t=r:=dR lZ e;subst i j;obtain⟨a,q⟩:=QR o;obtain⟨c,d,f⟩:=vy b;refine#v[by rw[a,c];rfl,by rw[cU,d],λm b=>?_];rcases bL.mp b with rfl|b
    ·exact q
    ·exact f m b
def NW{A:Type}{x:ab (A×aa Int)}{a:A}(h:jb x=O a):x=O (a,[]):=by unfold jb at h;cases x with|none=>cases h|some d=>obtain⟨b,r⟩:=d;have h':(if r.isEmpty=ai then O b else aj)=O a:=h;split at h';(rename_i c;rw[aM h',nE.mp c]);cases h'
def vz{k:Nat}{l:aa Int}{ns:aa Nat}(h:jb (lq k l)=O ns):l=(ns.map λ(n:Nat)=>(n:Int))/\ns.length=k/\∀n∈ns,n<B:=by have:=vy (NW h);rw[gY]at this;exact this
def aaz{ns:aa Nat}(h:ns.length=0):ns=[]:=rX.mp h
def Bn{ns:aa Nat}(h:ns.length=1):∃a,ns=[a]:=by match ns,h with| [a],_=>exact⟨a,I⟩
def QS{ns:aa Nat}(h:ns.length=2):∃a b,ns=[a,b]:=by match ns,h with| [a,b],_=>exact⟨a,b,I⟩
def QT{ns:aa Nat}(h:ns.length=3):∃a b c,ns=[a,b,c]:=by match ns,h with| [a,b,c],_=>exact⟨a,b,c,I⟩
def QU{l:aa Int}{c:Call}{f:aa Nat->Call}(h:(jb (lq 0 l)).map f=O c):l=[]/\c=f []:=by cases e:jb (lq 0 l)with|none=>rw[e]at h;cases h|some ns=>rw[e]at h;obtain⟨a,b,d⟩:=vz e;have:=aaz b;subst this;exact#v[a,(aM h).symm]
def QV{l:aa Int}{c:Call}{f:aa Nat->Call}(h:(jb (lq 1 l)).map f=O c):∃x:Nat,l=[(x:Int)]/\c=f [x]/\x<B:=by cases e:jb (lq 1 l)with|none=>rw[e]at h;cases h|some ns=>rw[e]at h;obtain⟨a,b,d⟩:=vz e;obtain⟨x,rfl⟩:=Bn b;exact#v[x,a,(aM h).symm,d x (by simp)]
def QW{l:aa Int}{c:Call}{f:aa Nat->Call}(h:(jb (lq 2 l)).map f=O c):∃x b:Nat,l=[(x:Int),(b:Int)]/\c=f [x,b]/\x<B/\b<B:=by cases e:jb (lq 2 l)with|none=>rw[e]at h;cases h|some ns=>rw[e]at h;obtain⟨a,g,d⟩:=vz e;obtain⟨x,b,rfl⟩:=QS g;exact#v[x,b,a,(aM h).symm,d x (by simp),d b (by simp)]
def aaA{l:aa Int}{c:Call}{f:aa Nat->Call}(h:(jb (lq 3 l)).map f=O c):∃x b g:Nat,l=[(x:Int),(b:Int),(g:Int)]/\c=f [x,b,g]/\x<B/\b<B/\g<B:=by cases e:jb (lq 3 l)with|none=>rw[e]at h;cases h|some ns=>rw[e]at h;obtain⟨a,i,d⟩:=vz e;obtain⟨x,b,g,rfl⟩:=QT i;exact#v[x,b,g,a,(aM h).symm,d x (by simp),d b (by simp),d g (by simp)]
def Ec(c:Call):aa Int:=enc c
def QX{l:aa Int}{c:Call}(h:zV l=O c):l=enc c/\In c:=by obtain _|⟨p,r⟩:=l;(exact nomatch (show aj=O c from h));obtain n|n:=p;rotate_left;(exact nomatch (show aj=O c from h));obtain _|n:=n;(have h:(lq 1 r).bind (λ(x:aa Nat×aa Int)=>(jb (zW x.2)).map λ(g:aa Nat)=>Call.begins (N4 x.1 0) g)=O c:=h;cases e:lq 1 r with|none=>rw[e]at h;cases h|some x=>obtain⟨ns,o⟩:=x;rw[e]at h;have h':(jb (zW o)).map (λ(g:aa Nat)=>Call.begins (N4 ns 0) g)=O c:=h;cases i:jb (zW o)with|none=>rw[i]at h';cases h'|some m=>rw[i]at h';have u:=(aM h').symm;obtain⟨a,q,d⟩:=vy e;obtain⟨t,rfl⟩:=Bn q;have b:=NW i;unfold zW Sy51Neutral.listIn at b;split at b;(rename_i n y;split at b;((rename_i w;obtain⟨k,_,s⟩:=vy b;rw[gY]at k;subst u;refine#v[?_,d t (by simp),by lia,s];rw[a,k];show _=[(0:Int),(t:Int),(m.length:Int)]++_;have:n=(m.length:Int):=by lia);rw[this];rfl);cases b);cases b);((iterate 22 obtain _|n:=n;first|(obtain⟨x,rfl,rfl,f⟩:=QV h;exact⟨rfl,f⟩)|(obtain⟨x,g,_,rfl,rfl,f,j,v⟩:=aaA h;exact⟨rfl,f,j,v⟩)|(obtain⟨x,g,rfl,rfl,f,j⟩:=QW h;exact⟨rfl,f,j⟩)|(obtain⟨rfl,rfl⟩:=QU h;exact⟨rfl,trivial⟩)));exact nomatch (show aj=O c from h)
def QY(xs:aa Int):qk [xs]=[xs]:=by obtain _|⟨p,r⟩:=xs;(rfl);obtain n|n:=p;(·((iterate 23 obtain _|n:=n;rcases r with _|⟨a,_|⟨_,_|⟨c,_|_⟩⟩⟩<;>rfl));rfl);rfl
def QZ{d:Type}{c P:Prop}{a b x:d}[Decidable c](h:(if c then a else b)=x)(f:a=x->P)(g:b=x->P):P:=by split at h;(exact f h);exact g h
def Q0{p:Int}{n k:Nat}(h:oR p=O (n,k)):(p=0/\n=1/\k=1)\/k=0:=by unfold oR at h;by_cases a:p=0;(rw[aI a]at h;exact .inl #v[a,(dR nD (aM h)).symm,(dR lZ (aM h)).symm]);rw[aD a]at h;((iterate 22 refine QZ h (λh=>.inr (dR lZ (aM h)).symm) λh=>?_));cases h
def Q1{l x t:aa Int}(h:Ei l=O (x,t)):l=(x.length:Int)::(x++t):=by unfold Ei at h;split at h;(cases h);rename_i n r;split at h;(rename_i c;have e:=aM h;have a:r.take n.toNat=x:=dR nD e;have b:r.drop n.toNat=t:=dR lZ e;subst a b;rw[zX,fE];congr 1;lia);cases h
def Q2{p:Int}{r:aa Int}{c:aa (aa Int)}{t:aa Int}(h:Ej oR (p::r)=O (c,t)):p::r=(qk c).headD []++t:=by unfold Ej at h;simp only at h;cases f:oR p with|none=>rw[f]at h;cases h|some A=>obtain⟨n,k⟩:=A;rw[f]at h;simp only at h;split at h;(cases h);(rename_i y;rcases Q0 f with⟨rfl,rfl,rfl⟩|rfl);(cases a:Ek 1 (r.drop 1)with|none=>rw[a]at h;cases h|some B=>obtain⟨xs,u⟩:=B;rw[a]at h;have e:=aM h;have b:(0::r.take 1)::xs=c:=dR nD e;have d:u=t:=dR lZ e;subst d;unfold Ek at a;cases g:Ei (r.drop 1)with|none=>rw[g]at a;cases a|some E=>obtain⟨x,v⟩:=E;rw[g]at a;have z:(match Ek 0 v with|none=>aj|some (C,w)=>O (x::C,w))=O (xs,u):=a;have i:=aM z;have m:[x]=xs:=dR nD i;have o:v=u:=dR lZ i;subst m o;have q:=Q1 g;match r,y with|l::j,_=>have s:j=(x.length:Int)::(x++v):=q;subst b;show 0::l::j=([0]++ [l]++ [(x.length:Int)]++x)++v;rw[s];simp);have h':=aM h;have b:[p::r.take n]=c:=dR nD h';have d:r.drop n=t:=dR lZ h';subst b d;rw[QY];show p::r=p::(r.take n)++r.drop n;rw[N5,zX]
def F2:∀(f:Nat)(l:aa Int)(b:aa (aa (aa Int))),zY oR f l=O b->(∀c∈b,El ((qk c).headD [])=ai)->∃g:aa Call,l=g.flatMap enc/\(b.map λc=>(qk c).headD [])=g.map enc/\(∀c∈g,In c/\zV (enc c)=O c)
 |f,[],b,h,_=>by have e:O []=O b:=(by cases f<;>exact h);rw[<-aM e];exact#v[[],I,I,λc h=>by simp at h]
 |0,p::r,b,h,_=>by cases h
 |f+1,p::r,b,h,q=>by
  unfold zY at h;cases m:Ej oR (p::r)with
  |none=>rw[m]at h;cases h
  |some y=>
   obtain⟨c,t⟩:=y;rw[m]at h;simp only at h;cases n:zY oR f t with
   |none=>rw[n]at h;cases h
   |some w=>
    rw[n]at h;have e:=aM h;subst e;have o:=q c (cc ..);unfold El at o;obtain⟨k,s⟩:=zS.mp o;obtain⟨j,v⟩:=QX s;obtain⟨g,a,u,d⟩:=F2 f t w n λx i=>q x (cw _ i);refine#v[k::g,?_,?_,λx i=>?_]
    ·rw[Q2 m,j,a];rfl
    ·rw[cI,cI,u,j]
    ·rcases bL.mp i with rfl|i
     ·exact#v[v,by rw[<-j];exact s]
     ·exact d x i
def hM:bY->aa Call->aa (aa Int)
 |_,[]=>[]
 |s,c::r=>jc (di s c).2::hM (di s c).1 r
def F3:∀(b:aa (aa (aa Int)))(a:aa Call)(s:bY),(b.map λc=>(c.headD []))=a.map enc->(∀c∈a,zV (enc c)=O c)->N6 (λs c=>uN s (c.headD [])) s b=hM s a
 | [],[],s,_,_=>rfl
 | [],c::a,s,h,_=>by cases h
 |r::b,[],s,h,_=>by cases h
 |r::b,c::a,s,h,d=>by
  rw[cI,cI]at h;have e:=(N7 h).1;have f:=(N7 h).2;have g:uN s (r.headD [])=((di s c).1,jc (di s c).2):=by rw[e];unfold uN;rw[d c (cc ..)]
  unfold N6 hM;rw[g,F3 b a _ f λx i=>d x (cw _ i)]
def Ed(s:bY)(b:aa Call):Nat:=((hM s b).map λa=>a.length).sum
def F4:∀(a:aa Call)(s:bY),(∀c∈a,zV (enc c)=O c)->N8 s (a.map enc)=Ed s a
 | [],s,_=>rfl
 |c::a,s,b=>by have d:uN s (enc c)=((di s c).1,jc (di s c).2):=(by unfold uN;rw[b c (cc ..)]);rw[cI];unfold N8 Ed hM;rw[d,F4 a _ λx e=>b x (cw _ e)];rfl
def Q3{l:aa Int}(h:Em l=ai):∃a:aa Call,l=a.flatMap enc/\En l=l0 (hM nF a)/\(∀c∈a,In c)/\1<=a.length/\a.length<=80/\Ed nF a<=1000000:=by unfold Em at h;cases d:zY oR l.length l with|none=>rw[d]at h;cases h|some k=>(rw[d]at h;simp only[oS]at h;obtain⟨⟨⟨⟨_,_⟩,_⟩,f⟩,_⟩:=h;unfold Sy51Neutral.asked at f;simp only[oS,fh]at f;obtain⟨o,g,b,j⟩:=f;have p:∀c∈k,El ((qk c).headD [])=ai:=λc b=>by have:=kK.mp o ((qk c).headD []) (by rw[ck];exact bM.mpr #v[c,b,I]);exact this);(obtain⟨a,m,n,e⟩:=F2 _ _ _ d p;have i:((k.map qk).map λc=>c.headD [])=a.map enc:=by rw[ck];exact n);rw[i]at g b j;rw[aq]at g b;refine#v[a,m,?_,λc b=>(e c b).1,g,b,?_];(unfold En PySy51.calls;rw[d];simp only;congr 1;exact F3 _ a _ i λc b=>(e c b).2);rw[<-F4 a _ λc b=>(e c b).2];exact j
end eR
namespace aL
open Sy51
def uE(a b:lr):Prop:=a.day<b.day\/(a.day=b.day/\a.span<b.span)
structure Ok(s:St):Prop where
 lane:aW.Ok s.lane
 file:bo.Ok s.file
 len:s.file.parts.length=s.lane.spans.length
 shut:s.lane.shut=(s.hand||s.closed)
 now:s.now.length=s.lane.spans.length
 vA:1<=s.file.posts.length
 gi:∀m∈s.book,m.day<s.file.today
 iD:∀m∈s.book,m.span<s.lane.spans.length
 lE:∀m∈s.book,0<m.load
 kU:s.book.Pairwise uE
def Ok.tick{s:St}(o:Ok s):Ok (tick s):=by obtain⟨_,a,b,_,_,_⟩:=aW.mD s.lane;refine#v[o.lane.tick,o.file,?_,?_,?_,o.vA,o.gi,?_,o.lE,o.kU];(show s.file.parts.length=(cn s.lane).spans.length;rw[a];exact o.len);(show(cn s.lane).shut=_;rw[b];exact o.shut);(show(d_ _ s.now.zipIdx).length=(cn s.lane).spans.length;rw[a,aq,oP];exact o.now);intro m c;show m.span<(cn s.lane).spans.length;rw[a];exact o.iD m c
def Ok.ticks:∀ {n:Nat}{s:St},Ok s->Ok (eA n s)
 |0,_,o=>o
 |n+1,s,o=>Ok.ticks (n:=n) o.tick
def pD:∀(f:Nat){s:St},aW.Ok s.lane->aW.Ok (cleared f s).lane/\(aW.work s.lane<=f->(cleared f s).lane.onIt=[])/\(cleared f s).file=s.file/\(cleared f s).book=s.book/\(cleared f s).hand=s.hand/\(cleared f s).closed=s.closed/\(cleared f s).lane.spans=s.lane.spans/\(cleared f s).now.length=s.now.length/\(cleared f s).lane.came=s.lane.came/\(cleared f s).lane.shut=s.lane.shut
 |0,s,o=>by
  refine#v[o,λh=>?_,I,I,I,I,I,I,I,I];show s.lane.onIt=[];have m:aW.eE s.lane s.lane.onIt=0:=by unfold aW.work at h;lia
  match e:s.lane.onIt with
  | []=>rfl
  |x::r=>have v:=o.lt x (by rw[e];exact cc ..);rw[e,aW.mB]at m;lia
 |f+1,s,o=>by
  unfold cleared;split
  ·rename_i h;exact#v[o,λ_=>nE.mp h,I,I,I,I,I,I,I,I]
  ·rename_i h;have t:s.lane.onIt≠[]:=λu=>h (nE.mpr u);obtain⟨a,b,c,d,e,g,i,j,k,l⟩:=pD f (s:=tick s) o.tick;obtain⟨_,n,p,_,q,_⟩:=aW.mD s.lane;refine#v[a,λ_=>b ?_,c,d,e,g,i.trans n,j.trans ?_,k.trans q,l.trans p]
   ·have:=aW.sQ o t;show aW.work (cn s.lane)<=f;lia
   ·show(d_ _ s.now.zipIdx).length=_;rw[aq,oP]
def Q4{s:St}(o:aW.Ok s.lane):(cleared FUEL s).lane.onIt=[]:=(pD FUEL o).2.1 (dQ (aW.Bj o) (by decide))
def Ee(l:aa dw)(c:dw):l.contains c=ai↔c∈l:=by simp
def Q5(w:aa dw)(p:dw->Bool):(w.filter λ(c:dw)=>!(w.filter p).contains c)=w.filter λ(c:dw)=>!p c:=by apply nG;intro c b;cases a:p c with|true=>have:(w.filter p).contains c=ai:=(Ee _ _).mpr (c0.mpr ⟨b,a⟩);rw[this]|false=>cases d:(w.filter p).contains c with|false=>rfl|true=>have:=(c0.mp ((Ee _ _).mp d)).2;rw[a]at this;cases this
def Q6{s:St}(o:bo.Ok s.file){k:Nat}:ql s k<=1000:=by(unfold ql cp;have:(eX s.file k).bears<=1000:=by unfold eX;cases h:s.file.parts[k]?with|none=>simp[dt,h]|some p=>simp only[dt,h,rY];exact(o.rng p (dJ h)).2.1);lia
def Q7(l:aa (Nat×Nat))(f:Nat->Nat):∀(n:Nat),((l.zipIdx n).map λ(x:(Nat×Nat)×Nat)=>(x.1.1,f x.2)).map (λ(x:Nat×Nat)=>x.1)=l.map λ(x:Nat×Nat)=>x.1:=by induction l with|nil=>intro n;rfl|cons b l a=>intro n;rw[rZ];simp only[cI];rw[a (n+1)]
def fb(s:St):G:={s.lane with spans:=s.lane.spans.zipIdx.map λ(x:(Nat×Nat)×Nat)=>(x.1.1,max 1 (ql s x.2))}
def iE(s:St):aa dw:=(fb s).waits.filter λ(c:dw)=>decide (gd (fb s)<c.weight)
def h_(s:St):Bool:=(bQ (fb s).spans.length).any λ(k:Nat)=>ql s k==0
def n3(s:St):posting s=({s with lane:={hF (fb s) 2 (iE s)with shut:=s.hand||h_ s},closed:=h_ s,file:=(cb s.file .post).1},(iE s).map λ(c:dw)=>c.id):=rfl
def pE(s:St):(fb s).spans.length=s.lane.spans.length:=by show(d_ _ _).length=_;rw[aq,oP]
def F5{s:St}{x:Nat×Nat}(h:x∈(fb s).spans):∃(a:Nat×Nat)(k:Nat),s.lane.spans[k]? =O a/\x=(a.1,max 1 (ql s k)):=by obtain⟨a,d,rfl⟩:=bM.mp h;refine#v[a.1,a.2,?_,I];have:=Eo d;obtain⟨b,c⟩:=this;rw[b_ b,c]
def Q8{s:St}(o:aW.Ok s.lane)(f:bo.Ok s.file)(e:s.lane.onIt=[])(m:Bool):aW.Ok {hF (fb s) 2 (iE s)with shut:=m}:=by(have h:(hF (fb s) 2 (iE s)).waits=s.lane.waits.filter λ(c:dw)=>!decide (gd (fb s)<c.weight):=Q5 s.lane.waits _;have g:∀c∈(hF (fb s) 2 (iE s)).waits,c∈s.lane.waits/\c.weight<=gd (fb s):=λc b=>by rw[h]at b;have q:=(c0.mp b).2;simp only[N9,Ep]at q;exact#v[(c0.mp b).1,by lia]);refine#v[o.lC,o.mz,?_,?_,?_,?_,?_,?_,?_,?_,o.g4,?_,?_,o.fY,?_,?_,?_];(show 1<=(fb s).spans.length;rw[pE];exact o.iA);(show(fb s).spans.length<=12;rw[pE];exact o.gh);(intro x a;obtain⟨l,k,j,rfl⟩:=F5 a;exact o.iB l (dJ j));(intro x a;obtain⟨l,k,j,rfl⟩:=F5 a;have:=Q6 (s:=s) f (k:=k);show 1<=max 1 (ql s k)/\max 1 (ql s k)<=1000;lia);(intro c b;exact#v[(o.wW c (g c b).1).1,(g c b).2]);(intro x a;have d:x∈s.lane.onIt:=a;rw[e]at d;simp at d);(intro c b;exact o.jr c (g c b).1);(intro x a;have d:x∈s.lane.onIt:=a;rw[e]at d;simp at d);(exact o.pos);(intro x a;have d:x∈s.lane.onIt:=a;rw[e]at d;simp at d);(refine lX ?_ o.ids;show((hF (fb s) 2 (iE s)).waits.map (λ(c:dw)=>c.id)++(s.lane.onIt.map (λ(x:dw×Nat)=>x.1.id)++(s.lane.past++(iE s).map λ(c:dw)=>(#v[c.id,2,s.lane.time]:j8)).map λ(p:j8)=>p.id)).Perm _;rw[h,e,dY,ck];have n:((λ(p:j8)=>p.id)∘λ(c:dw)=>(#v[c.id,2,s.lane.time]:j8))=λ(c:dw)=>c.id:=rfl;rw[n];simp only[oO,uL];have r:=List.filter_append_perm (λ(c:dw)=>decide (gd (fb s)<c.weight)) s.lane.waits;have i:=r.map λ(c:dw)=>c.id;rw[dY]at i;refine lX ?_ (i.append_right _);show(d_ (λ(c:dw)=>c.id) (s.lane.waits.filter λ(c:dw)=>!decide (gd (fb s)<c.weight))++(s.lane.past.map (λ(p:j8)=>p.id)++(s.lane.waits.filter λ(c:dw)=>decide (gd (fb s)<c.weight)).map λ(c:dw)=>c.id)).Perm _;refine(uK _ rV).trans ?_;rw[<-gq];exact List.Perm.append_right _ rV);(show(hF (fb s) 2 (iE s)).waits.Pairwise _;rw[h];exact o.ord.filter _);show s.lane.most.length=(fb s).spans.length;rw[pE];exact o.most
def Bo{s:cq}(f:bo.Ok s)(h:s.posts.length<60):cb s .post=({s with posts:=s.posts++ [⟨s.today,s.entries.length,ej s s.today s.entries.length⟩]},eH (ej s s.today s.entries.length:Nat))/\bo.Ok (cb s .post).1:=by(have e:cb s .post=({s with posts:=s.posts++ [⟨s.today,s.entries.length,ej s s.today s.entries.length⟩]},eH (ej s s.today s.entries.length:Nat)):=by unfold cb;simp only;rw[aD (by unfold gZ;lia)]);refine#v[e,?_];rw[e];refine#v[f.p1,f.kT,f.rng,f.day,f.Bk,f.made,?_,?_,?_,?_];(show(s.posts++ [_]).length<=60;rw[cV,iM];lia);((intro p c;rcases dh.mp c with c|c);(exact f.vt p c);rw[c_.mp c];exact bp _);(show(s.posts++ [_]).Pairwise _;rw[qj];refine#v[f.Bl,by simp,λa g _ i=>?_];rw[c_.mp i];exact f.vt a g);(intro p c;rcases dh.mp c with c|c);(exact f.Bm p c);(rw[c_.mp c];show ej s s.today s.entries.length<=1000;have d:=bo.F1 f s.today s.entries.length;unfold ej cp;have:(eX s (oT s s.today s.entries.length)).bears<=1000:=by unfold eX;simp only[dt,b_ d,rY];exact(f.rng _ (kJ d)).2.1);lia
structure Pre(s:St):Prop where
 lane:aW.Ok s.lane
 file:bo.Ok s.file
 len:s.file.parts.length=s.lane.spans.length
 now:s.now.length=s.lane.spans.length
 posts:s.file.posts.length<60
 empty:s.lane.onIt=[]
 gi:∀m∈s.book,m.day<s.file.today
 iD:∀m∈s.book,m.span<s.lane.spans.length
 lE:∀m∈s.book,0<m.load
 kU:s.book.Pairwise uE
def Pre.posting{s:St}(p:Pre s):Ok (posting s).1:=by obtain⟨e,f⟩:=Bo p.file p.posts;rw[n3];refine#v[Q8 p.lane p.file p.empty _,f,?_,I,?_,?_,?_,?_,p.lE,p.kU];(show(cb s.file .post).1.parts.length=(fb s).spans.length;rw[e,pE];exact p.len);(show s.now.length=(fb s).spans.length;rw[pE];exact p.now);(show 1<=(cb s.file .post).1.posts.length;rw[e];show 1<=(s.file.posts++ [_]).length;rw[cV,iM];lia);(intro m a;show m.day<(cb s.file .post).1.today;rw[e];exact p.gi m a);intro m a;show m.span<(fb s).spans.length;rw[pE];exact p.iD m a
def Q9{k t t':Nat}(h:t<=t'){l:aa dz}{x:dz}(m:bo.Made k t l x):bo.Made k t' l x:=by cases x with|found p d c=>exact⟨m.1,dQ m.2.1 h,m.2.2⟩|mended p d=>exact⟨m.1,dQ m.2 h⟩|struck e=>exact m|right_ e c=>exact m
def Bp{s:cq}(f:bo.Ok s){n:Nat}(d:1<=n)(e:n<=10000)(a:s.today+n<=100000):(cb s (.day n)).1={s with today:=s.today+n}/\bo.Ok {s with today:=s.today+n}:=by refine#v[?_,?_];(unfold cb;simp only;rw[aD ∅,aD (by unfold iN;lia)]);exact#v[f.p1,f.kT,f.rng,a,f.Bk,λi x c=>Q9 (r0 _ _) (f.made i x c),f.vq,λp b=>dQ (f.vt p b) (r0 _ _),f.Bl,f.Bm]
def vB{s:St}{m:lr}(h:m∈noted s):∃x,s.now[m.span]? =O x/\m=#v[s.file.today,m.span,x.1,x.2.1,x.2.2]/\0<x.1:=by unfold noted at h;obtain⟨d,e⟩:=c0.mp h;obtain⟨b,f,rfl⟩:=bM.mp d;obtain⟨a,c⟩:=Eo f;refine#v[b.1,?_,I,jd e];show s.now[b.2]? =O b.1;rw[b_ a,c]
def Bq{e:Type}:∀(l:aa e)(n:Nat),(l.zipIdx n).Pairwise λa b=>a.2<b.2
 | [],n=>by simp
 |x::l,n=>by rw[rZ,ja];refine#v[λd c=>?_,Bq l (n+1)];have:=N2 c;show n<d.2;lia
def F6(s:St):(noted s).Pairwise uE:=by unfold noted;apply zZ;rw[ik];exact(Bq s.now 0).imp λh=>.inr #v[I,h]
def morning(s:St)(n:Nat):St:=let a:=cleared FUEL {s with lane:={s.lane with shut:=ai} }
 {a with file:=(cb a.file (.day n)).1,book:=a.book++noted a,now:=a.now.map λ(_:Nat×Nat×aa Nat)=>(0,0,[])}
def vC(s:St)(n:Nat):night s n=posting (morning s n):=rfl
def F7{s:St}(o:Ok s){n:Nat}(C:1<=n)(E:n<=10000)(H:s.file.today+n<=100000)(I:s.file.posts.length<60):Pre (morning s n):=by(have y:aW.Ok ({s with lane:={s.lane with shut:=ai} }:St).lane:=o.lane.n0 ai;obtain⟨a,_,c,d,e,g,i,j,k,l⟩:=pD FUEL y;have J:=Q4 y;have v:(cleared FUEL {s with lane:={s.lane with shut:=ai} }).file=s.file:=c;obtain⟨A,B⟩:=Bp o.file C E H;have p:(morning s n).file={s.file with today:=s.file.today+n}:=by show(cb (cleared FUEL {s with lane:={s.lane with shut:=ai} }).file (.day n)).1=_;rw[v];exact A);(have r:(morning s n).lane=(cleared FUEL {s with lane:={s.lane with shut:=ai} }).lane:=rfl;have t:(cleared FUEL {s with lane:={s.lane with shut:=ai} }).lane.spans=s.lane.spans:=i;have h:(morning s n).book=s.book++noted (cleared FUEL {s with lane:={s.lane with shut:=ai} }):=by show(cleared FUEL {s with lane:={s.lane with shut:=ai} }).book++_=_;rw[d]);(have z:(cleared FUEL {s with lane:={s.lane with shut:=ai} }).now.length=s.lane.spans.length:=j.trans o.now;have q:∀m∈noted (cleared FUEL {s with lane:={s.lane with shut:=ai} }),m.day=s.file.today/\m.span<s.lane.spans.length/\0<m.load:=λm f=>by obtain⟨x,u,w,K⟩:=vB f;refine#v[by rw[w,v],?_,by rw[w];exact K];have:=(cM.mp u).1;lia);refine#v[a,by rw[p];exact B,?_,?_,by rw[p];exact I,J,?_,?_,?_,?_];(rw[p,r,t];exact o.len);(show(d_ _ _).length=_;rw[aq,r,t];exact z);((intro m f;rw[h]at f;rw[p];show m.day<s.file.today+n;rcases dh.mp f with f|f);(have:=o.gi m f;lia);have:=(q m f).1;lia);((intro m f;rw[h]at f;rw[r,t];rcases dh.mp f with f|f);(exact o.iD m f);exact(q m f).2.1);((intro m f;rw[h]at f;rcases dh.mp f with f|f);(exact o.lE m f);exact(q m f).2.2);rw[h,qj];refine#v[o.kU,F6 _,λx u N L=>.inl ?_];have P:=o.gi x u;have Q:=(q N L).1;lia
def vD:∀(l:aa Nat),l.length%4=0->(fours l).length*4=l.length
 | [],_=>rfl
 | [a],h=>by simp at h
 | [a,b],h=>by simp at h
 | [a,b,c],h=>by simp at h
 |a::b::c::d::l,h=>by simp only[cU]at h;have:=vD l ∅;show((a,(#v[b,c,d]:e8))::fours l).length*4=_;simp only[cU];lia
structure sR(l:aa (Nat×e8)):Prop where
 l1:1<=l.length
 vE:l.length<=12
 rng:∀x∈l,1<=x.1/\x.1<=5/\1<=x.2.bears/\x.2.bears<=1000/\x.2.costs<=100/\x.2.grows<=100
def fresh(t:Nat)(l:aa (Nat×e8)):St:=#v[{z0 with parts:=l.map λ(x:Nat×e8)=>x.2},{Sy49.init with turn:=t,spans:=(l.map λ(x:Nat×e8)=>x.1).map λ(c:Nat)=>(c,1),most:=(l.map λ(x:Nat×e8)=>x.1).map λ(_:Nat)=>(0,0)},ax,ax,[],(l.map λ(x:Nat×e8)=>x.1).map λ(_:Nat)=>(0,0,[])]
def Q_(t:Nat)(l:aa (Nat×e8)):startOf t (l.map λ(x:Nat×e8)=>x.1) (l.map λ(x:Nat×e8)=>x.2)=(posting (fresh t l)).1:=rfl
def Bs{t:Nat}{l:aa (Nat×e8)}(h:1<=t)(j:t<=20)(S:sR l):Pre (fresh t l):=by refine#v[#v[h,j,?_,?_,?_,?_,(by intro c a;cases a),(by intro c a;cases a),(by intro c a;cases a),(by intro c a;cases a),dc _,.nil,(by intro c a;cases a),dc _,zQ _,.nil,?_],#v[?_,?_,?_,dc _,dc _,(by intro i x e;simp[fresh,z0]at e),dc _,(by intro p d;cases d),.nil,(by intro p d;cases d)],?_,?_,by show 0<60;decide,I,(by intro m b;cases b),(by intro m b;cases b),(by intro m b;cases b),.nil];(show 1<=(d_ _ (d_ _ l)).length;rw[aq,aq];exact S.l1);(show(d_ _ (d_ _ l)).length<=12;rw[aq,aq];exact S.vE);(intro x e;obtain⟨c,a,rfl⟩:=bM.mp e;obtain⟨g,f,rfl⟩:=bM.mp a;exact#v[(S.rng g f).1,(S.rng g f).2.1]);(intro x e;obtain⟨c,a,rfl⟩:=bM.mp e;exact#v[bp _,by show 1<=1000;decide]);(show(d_ _ (d_ _ l)).length=(d_ _ (d_ _ l)).length;simp only[aq]);(show 1<=(d_ _ l).length;rw[aq];exact S.l1);(show(d_ _ l).length<=12;rw[aq];exact S.vE);(intro p d;obtain⟨g,f,rfl⟩:=bM.mp d;exact(S.rng g f).2.2);(show(d_ _ l).length=(d_ _ (d_ _ l)).length;simp only[aq]);show(d_ _ (d_ _ l)).length=(d_ _ (d_ _ l)).length;simp only[aq]
def Bt:init=(posting (fresh 1 [(1,#v[1,0,0])])).1:=rfl
def Ra:Ok init:=by rw[Bt];refine(Bs (by decide) (by decide) #v[by decide,by decide,λx a=>?_]).posting;rw[c_.mp a];decide
def F8{t:Nat}{l:aa Nat}(h:¬(t<1\/20<t\/l.length%4≠0\/l.length<4\/48<l.length\/(fours l).any (λ(x:Nat×e8)=>decide (x.1<1)||(decide (5<x.1)||(decide (x.2.bears<1)||(decide (1000<x.2.bears)||(decide (100<x.2.costs)||decide (100<x.2.grows))))))=ai)):1<=t/\t<=20/\sR (fours l):=by have d:=vD l ∅;refine#v[by lia,by lia,by lia,by lia,λx c=>?_];have b:¬(fours l).any (λ(x:Nat×e8)=>decide (x.1<1)||(decide (5<x.1)||(decide (x.2.bears<1)||(decide (1000<x.2.bears)||(decide (100<x.2.costs)||decide (100<x.2.grows))))))=ai:=λa=>h (.inr (.inr (.inr (.inr (.inr a)))));have:¬(decide (x.1<1)||(decide (5<x.1)||(decide (x.2.bears<1)||(decide (1000<x.2.bears)||(decide (100<x.2.costs)||decide (100<x.2.grows))))))=ai:=λa=>b (l4.mpr #v[x,c,a]);simp only[l5,fh]at this;lia
def Rb{s:cq}(f:bo.Ok s){x:dz}(m:bo.Made s.parts.length s.today s.entries x):bo.Ok (Sy50.enter s x).1:=by unfold Sy50.enter;split;(exact f);rename_i h;refine#v[f.p1,f.kT,f.rng,f.day,?_,?_,f.vq,f.vt,f.Bl,f.Bm];(show(s.entries++ [x]).length<=60;rw[cV,iM];unfold gZ at h;lia);intro i b j;have a:(s.entries++ [x])[i]? =O b:=j;show bo.Made s.parts.length s.today ((s.entries++ [x]).take i) b;by_cases c:i<s.entries.length;(rw[il c]at a;rw[Er (qm c)];exact f.made i b a);(have g:=(cM.mp a).1;rw[cV,iM]at g;have e:i=s.entries.length:=by lia);subst e;rw[je (bp _),j9]at a;have d:x=b:=aM a;subst d;rw[Er (bp _),ij];exact m
def vF(s:cq)(x:dz):(Sy50.enter s x).1.parts=s.parts/\(Sy50.enter s x).1.today=s.today/\(Sy50.enter s x).1.posts=s.posts:=by unfold Sy50.enter;split<;>exact#v[I,I,I]
def Ok.inFile{s:St}(o:Ok s){f:cq}(h:bo.Ok f)(a:f.parts=s.file.parts)(b:f.today=s.file.today)(c:f.posts=s.file.posts):Ok {s with file:=f}:=#v[o.lane,h,by show f.parts.length=_;rw[a];exact o.len,o.shut,o.now,by show 1<=f.posts.length;rw[c];exact o.vA,by intro m d;show m.day<f.today;rw[b];exact o.gi m d,o.iD,o.lE,o.kU]
def Ok.vG{s:St}(o:Ok s){x:dz}(m:bo.Made s.file.parts.length s.file.today s.file.entries x):Ok {s with file:=(Sy50.enter s.file x).1}:=o.inFile (Rb o.file m) (vF _ _).1 (vF _ _).2.1 (vF _ _).2.2
def Ok.inLane{s:St}(o:Ok s){l:G}(h:aW.Ok l)(a:l.spans=s.lane.spans)(b:l.shut=s.lane.shut):Ok {s with lane:=l}:=#v[h,o.file,by show _=l.spans.length;rw[a];exact o.len,by show l.shut=_;rw[b];exact o.shut,by show _=l.spans.length;rw[a];exact o.now,o.vA,o.gi,by intro m c;show _<l.spans.length;rw[a];exact o.iD m c,o.lE,o.kU]
def Rc{s:G}(o:aW.Ok s){d w:Nat}(f:d<=1)(g:1<=w)(h:s.came<60)(i:w<=gd s):aW.Ok {s with waits:=s.waits++ [⟨s.came,d,w⟩],came:=s.came+1}:=by refine#v[o.lC,o.mz,o.iA,o.gh,o.iB,o.lim,?_,o.wO,?_,o.iC,o.g4,o.pos,o.lt,h,?_,?_,o.most];((intro c e;rcases dh.mp e with e|e);(exact o.wW c e);rw[c_.mp e];exact#v[g,i]);((intro c e;rcases dh.mp e with e|e);(exact o.jr c e);rw[c_.mp e];exact f);(show((s.waits++ [(#v[s.came,d,w]:dw)]).map (λ(c:dw)=>c.id)++_).Perm (bQ (s.came+1));rw[dY,uO,gq];refine(uK _ rV).trans ?_;rw[<-gq];exact o.ids.append_right _);show(s.waits++ [_]).Pairwise _;rw[qj];refine#v[o.ord,by simp,λa j _ k=>?_];rw[c_.mp k];have:a.id∈bQ s.came:=o.ids.subset (j_ _ (gr j));exact gu.mp this
def Rf{s:G}(o:aW.Ok s){c:dw}(k:c∈s.waits):aW.Ok (hF s 1 [c]):=by(have g:(hF s 1 [c]).waits=s.waits.filter λ(x:dw)=>x.id !=c.id:=by show(s.waits.filter λ(x:dw)=>!([c]:aa dw).contains x)=_;apply nG;intro x b;by_cases e:x=c;(subst e;simp);(have w:x.id≠c.id:=by(intro r;apply e;have A:=o.lD;have y:s.waits.Pairwise λa t=>a.id≠t.id:=by have:=ik.mp A;exact this);obtain⟨i,l,d⟩:=fx b;obtain⟨j,m,f⟩:=fx k;have q:=z1.mp y;rcases Es i j with h|h|h;(exact absurd (by rw[d,f];exact r) (q i j l m h));(subst h;rw[<-d,<-f]);exact absurd (by rw[d,f];exact r.symm) (q j i m l h));(have u:(x.id !=c.id)=ai:=(by simpa using w);rw[u];have:([c]:aa dw).contains x=ax:=by cases z:([c]:aa dw).contains x with|false=>rfl|true=>exact absurd (c_.mp ((Ee _ _).mp z)) e);rw[this];rfl);(have n:∀x∈(hF s 1 [c]).waits,x∈s.waits:=λx b=>by rw[g]at b;exact(c0.mp b).1);refine#v[o.lC,o.mz,o.iA,o.gh,o.iB,o.lim,λx b=>o.wW x (n x b),o.wO,λx b=>o.jr x (n x b),o.iC,o.g4,o.pos,o.lt,o.fY,?_,?_,o.most];(refine lX ?_ o.ids;show((hF s 1 [c]).waits.map (λ(c:dw)=>c.id)++(s.onIt.map (λ(x:dw×Nat)=>x.1.id)++(s.past++ [(#v[c.id,1,s.time]:j8)]).map λ(p:j8)=>p.id)).Perm _;rw[g,dY];have v:=aW.pC s.waits c k o.lD;refine lX ?_ (v.append_right _);show(_++(_++(_++ [c.id]))).Perm (c.id::_++_);rw[<-gq,<-gq];refine rV.trans ?_;simp);rw[g];exact o.ord.filter _
def Ok.step{s:St}(o:Ok s)(c:Call):Ok (step s c).1:=by cases c with|begins t l=>(unfold di;simp only;split;(exact o);rename_i h;obtain⟨b,f,S⟩:=F8 h;show Ok (startOf t _ _);rw[Q_];exact(Bs b f S).posting)|day n=>unfold di;simp only;split;(exact o);split;(exact o);rename_i h h';unfold iN gZ at h';show Ok (night s n).1;rw[vC];exact(F7 o ∅ ∅ ∅ ∅).posting|found k d c=>show Ok (l6 s (.found k d c)).1;unfold l6 cb;simp only;split;(exact o);split;(exact o);rename_i h h';exact o.vG (x:=.found k d c) #v[by lia,by lia,by lia]|mended k d=>show Ok (l6 s (.mended k d)).1;unfold l6 cb;simp only;split;(exact o);split;(exact o);rename_i h h';exact o.vG (x:=.mended k d) #v[by lia,by lia]|strike e=>(show Ok (l6 s (.strike e)).1;unfold l6 cb;simp only;split;(exact o);(exact o);(exact o);rename_i x b f g;split;(exact o);rename_i q;refine o.vG (x:=.struck e) #v[?_,by simpa using q];cases x with|found p d c=>exact⟨p,d,.inl ⟨c,g⟩⟩|mended p d=>exact⟨p,d,.inr g⟩|struck m=>exact absurd I (b m)|right_ m j=>exact absurd I (f m j))|right_ e c=>show Ok (l6 s (.right_ e c)).1;unfold l6 cb;simp only;split;(exact o);(rename_i p d j g;split;(exact o);split;(exact o);rename_i q A;exact o.vG (x:=.right_ e c) #v[#v[p,d,j,g],by simpa using q,by lia]);exact o|post=>(unfold di;simp only;split;(exact o);split;(exact o);(rename_i h h';unfold gZ at h;have v:s.lane.onIt=[]:=by cases e:s.lane.onIt.isEmpty with|false=>exact absurd e h'|true=>exact nE.mp e);exact(Pre.mk o.lane o.file o.len o.now ∅ v o.gi o.iD o.lE o.kU).posting)|comes d w=>unfold di;simp only;split;(exact o);unfold qn hY;simp only;split;(exact o);split;(exact o);split;(exact o);rename_i b f u z;unfold qo at u;exact o.inLane (Rc o.lane (d:=d) (w:=w) ∅ ∅ ∅ ∅) I I|gives i=>(show Ok (qn s (.gives i)).1;unfold qn hY;simp only;split;(exact o);cases y:s.lane.waits.find? λ(c:dw)=>c.id==i with|none=>exact o|some c=>exact o.inLane (Rf o.lane (nB y)) I I)|ticks n=>unfold di;simp only;split;(exact o);exact o.ticks|shut r=>unfold di;simp only;split;(exact o);exact#v[o.lane.n0 _,o.file,o.len,I,o.now,o.vA,o.gi,o.iD,o.lE,o.kU]|where_ i=>exact o|when_ i=>exact o|loads=>exact o|queue d=>exact o|known k d n=>exact o|limit d n=>exact o|wrong a r=>exact o|falls w=>exact o|due n=>exact o|exposed=>exact o|book d=>exact o|state=>exact o
end aL
namespace dF
open Sy49
def kW(s:St)(i:Nat):Prop:=∃x∈s.onIt,x.1.id=i
def kl(s:St)(i:Nat):Prop:=∃c∈s.waits,c.id=i
def kX(s:St)(i:Nat):Prop:=kW s i\/(s.shut=ax/\kl s i)
def F9(s:St)(i:Nat):left s i=ai↔∃p∈s.past,p.id=i/\p.how=0:=by unfold left;rw[l4];constructor;(rintro⟨p,a,h⟩;simp only[oS,jf]at h;exact#v[p,a,h]);rintro⟨p,a,b,c⟩;exact#v[p,a,by simp[b,c]]
def pF{s:St}(o:aW.Ok s):(s.waits.map (λ(c:F)=>c.id)++(s.onIt.map (λ(x:F×Nat)=>x.1.id)++s.past.map λ(p:eG)=>p.id)).Nodup:=o.ids.nodup_iff.mpr Eg
def Bu{s:St}(o:aW.Ok s){i:Nat}(h:kW s i):∀p∈s.past,p.id≠i:=by obtain⟨x,b,rfl⟩:=h;intro p a d;have c:=(hB.mp (hB.mp (pF o)).2.1).2.2;exact c _ (gr (f:=λ(x:F×Nat)=>x.1.id) b) _ (gr (f:=λ(p:eG)=>p.id) a) d.symm
def vH{s:St}(o:aW.Ok s){i:Nat}(h:kl s i):∀p∈s.past,p.id≠i:=by obtain⟨x,b,rfl⟩:=h;intro p a e;have d:=(hB.mp (pF o)).2.2;exact d _ (gr (f:=λ(c:F)=>c.id) b) _ (gJ _ (gr (f:=λ(p:eG)=>p.id) a)) e.symm
def sS{s:St}(o:aW.Ok s){i:Nat}(h:kl s i):¬kW s i:=by obtain⟨x,a,rfl⟩:=h;rintro⟨_,b,e⟩;have d:=(hB.mp (pF o)).2.2;exact d _ (gr (f:=λ(c:F)=>c.id) a) _ (j_ _ (gr (f:=λ(x:F×Nat)=>x.1.id) b)) e.symm
def sT{s:St}(o:aW.Ok s){i:Nat}(h:i<s.came):kl s i\/kW s i\/∃p∈s.past,p.id=i:=by(have f:i∈bQ s.came:=gu.mpr h;have:=o.ids.symm.subset f;rcases dh.mp this with b|b);(obtain⟨c,a,e⟩:=bM.mp b;exact .inl #v[c,a,e]);rcases dh.mp b with d|d;(obtain⟨c,a,e⟩:=bM.mp d;exact .inr (.inl #v[c,a,e]));obtain⟨c,a,e⟩:=bM.mp d;exact .inr (.inr #v[c,a,e])
def ia{s:St}(o:aW.Ok s){i:Nat}(h:kl s i\/kW s i\/∃p∈s.past,p.id=i):i<s.came:=by(apply gu.mp;apply o.ids.subset;rcases h with⟨c,a,e⟩|⟨c,a,e⟩|⟨c,a,e⟩);(exact j_ _ (bM.mpr #v[c,a,e]));(exact gJ _ (j_ _ (bM.mpr #v[c,a,e])));exact gJ _ (gJ _ (bM.mpr #v[c,a,e]))
def Rg{s:St}{i:Nat}:kW (turned s) i↔kW s i:=by unfold turned;split<;>exact Iff.rfl
def Rh{s:St}{i:Nat}:kl (turned s) i↔kl s i:=by unfold turned;split<;>exact Iff.rfl
def Ri{s:St}{i:Nat}(h:kW s i):kW (entered s) i:=by unfold entered;split;(exact h);split;(exact h);obtain⟨x,a,e⟩:=h;exact#v[x,j_ _ a,e]
def Rj{s:St}{i:Nat}(h:kl s i):kl (entered s) i\/kW (entered s) i:=by unfold entered;split;(exact .inl h);rename_i c d;split;(exact .inl h);obtain⟨x,b,e⟩:=h;by_cases a:x.id=c.id;(exact .inr #v[(c,0),gJ _ (c_.mpr I),by rw[<-e,a]]);exact .inl #v[x,c0.mpr #v[b,by simpa using a],e]
def kX.tick{s:St}(o:aW.Ok s){i:Nat}(h:kX s i):left (tick s) i=ai\/kX (tick s) i:=by(have l:=(aW.mD s).2.2.1;rcases h with h|⟨k,h⟩);(obtain⟨x,m,e⟩:=h;have j:=(aW.pB s s.onIt []).symm.subset (show i∈_ from gJ _ (bM.mpr #v[x,m,e]));rcases dh.mp j with a|a;(obtain⟨p,n,f⟩:=bM.mp a;refine .inr (.inl ?_);rw[aW.mC];show kW (entered (turned (aW.cK s))) i;exact Ri (Rg.mpr #v[p,n,f]));obtain⟨c,g,d⟩:=bM.mp a;refine .inl ((F9 _ _).mpr ?_);rw[aW.vp];exact#v[#v[c.id,0,s.time+1],gJ _ (bM.mpr #v[c,g,I]),d,I]);(refine .inr ?_;have a:kl (aW.cK s) i:=h;rcases Rj (Rh.mpr a)with b|b);(refine .inr #v[by rw[l];exact k,?_];rw[aW.mC];exact b);refine .inl ?_;rw[aW.mC];exact b
def kX.work{s:St}(o:aW.Ok s){i:Nat}(h:kX s i):aW.work (cn s)<aW.work s:=by rcases h with⟨x,d,_⟩|⟨e,c,b,_⟩;(exact aW.sQ o (λa=>by rw[a]at d;cases d));exact aW.QI o e (.inr λa=>by rw[a]at b;cases b)
def F_:∀ {n:Nat}{s:St},aW.Ok s->aW.Ok (ticks n s)
 |0,_,o=>o
 |n+1,s,o=>F_ (n:=n) o.tick
def Bv:∀(n:Nat)(s:St),ticks (n+1) s=tick (ticks n s)
 |0,s=>rfl
 |n+1,s=>Bv n (tick s)
def Ga{i:Nat}:∀(f n:Nat)(s:St),aW.Ok s->(left s i=ai\/kX s i)->aW.work s<f->∃k,after f n i s=O (n+k)/\left (ticks k s) i=ai/\∀j,j<k->left (ticks j s) i=ax
 |0,n,s,o,h,l=>by lia
 |f+1,n,s,o,h,l=>by
  unfold after;cases e:left s i with
  |true=>refine#v[0,?_,e,λj g=>by lia];rw[aI I];rfl
  |false=>
   have a:kX s i:=h.resolve_left (by rw[e];simp);have m:=a.work o;obtain⟨k,b,c,d⟩:=Ga f (n+1) (tick s) o.tick (a.tick o) ∅;refine#v[k+1,?_,c,λj g=>?_]
   ·rw[aD (by simp),b];congr 1;lia
   ·cases j with
    |zero=>exact e
    |succ j=>exact d j ∅
def Rk{s:St}(o:aW.Ok s){i:Nat}(h:kX s i):∃k,z3 s i=O k/\left (ticks k s) i=ai/\∀j,j<k->left (ticks j s) i=ax:=by(obtain⟨k,g,l,m⟩:=Ga FUEL 0 s o (.inr h) (Eh (aW.Bj o) (by decide));refine#v[k,?_,l,m];unfold z3;have b:¬s.past.any (λ(p:eG)=>p.id==i)=ai:=by(intro d;obtain⟨p,b,e⟩:=l4.mp d;have a:p.id=i:=by simpa using e);rcases h with h|h;(exact Bu o h p b a);exact vH o h.2 p b a);(rw[aD b,aD,g,oU];rintro⟨f,d⟩;obtain⟨c,n,e⟩:=l4.mp d;have a:c.id=i:=by simpa using e);rcases h with h|h;(exact sS o #v[c,n,a] h);rw[h.1]at f;cases f
def Rl{s:St}(o:aW.Ok s){i:Nat}(d:i<s.came)(h:¬kX s i):z3 s i=aj:=by unfold z3;split;(rfl);rename_i f;split;(rfl);(rename_i g;exfalso;apply h;rcases sT o d with a|a|⟨p,a,e⟩);(refine .inr #v[?_,a];cases j:s.shut with|false=>rfl|true=>obtain⟨c,b,e⟩:=a;exact absurd #v[j,l4.mpr #v[c,b,by simp[e]]] g);(exact .inl a);exact absurd (l4.mpr #v[p,a,by simp[e]]) f
end dF
namespace bw
open Sy49
def ec:Nat->aa (Nat×Nat)->aa Nat
 |_,[]=>[]
 |k,x::l=>fy x.1 k++ec (k+1) l
def qT:∀(l:aa (Nat×Nat))(k:Nat),(ec k l).length=(l.map λ(x:Nat×Nat)=>x.1).sum
 | [],_=>rfl
 |x::l,k=>by unfold ec;rw[cV,qp,qT l (k+1),cI,i_]
def sU:∀(l:aa (Nat×Nat))(k c:Nat),c<(l.map λ(x:Nat×Nat)=>x.1).sum->(ec k l).getD c 0=k+uH l c
 | [],_,c,h=>by simp at h
 |x::l,k,c,h=>by
  unfold ec uH;simp only[cI,i_]at h;by_cases a:c<x.1
  ·rw[aI a];simp[dt,il,a]
  ·rw[aD a];have b:=sU l (k+1) (c-x.1) ∅;simp only[dt]at b⊢;rw[je (by rw[qp];lia),qp,b];lia
def Bw:∀(l:aa (Nat×Nat))(k:Nat),∀m∈ec k l,m<k+l.length
 | [],_,m,h=>by simp[ec]at h
 |x::l,k,m,h=>by
  unfold ec at h;rcases dh.mp h with h|h
  ·have:=List.eq_of_mem_replicate h;rw[cU];lia
  ·have:=Bw l (k+1) m h;rw[cU];lia
def may(s:St)(l:aa (F×Nat))(x:F×Nat):Bool:=l.all (λ(a:F×Nat)=>a.2 !=x.2+1)&&(sameSpan s x.1.side x.2 (x.2+1)||room s l x.1 (x.2+1))
def js(s:St)(a:aa (F×Nat)×aa F)(x:F×Nat):aa (F×Nat)×aa F:=if x.2+1=cZ s then(a.1,a.2++ [x.1])else if may s a.1 x=ai then(a.1++ [(x.1,x.2+1)],a.2)else(a.1++ [x],a.2)
def vI(s:St):∀(r l:aa (F×Nat))(a:aa F),r.foldl (js s) (l,a)=((eO s l r).1,a++(eO s l r).2)
 | [],l,a=>by show(l,a)=(l,a++ []);rw[gY]
 |x::r,l,a=>by
  rw[gI];unfold eO;by_cases b:x.2+1=cZ s
  ·rw[aI b];have e:js s (l,a) x=(l,a++ [x.1]):=by unfold js;rw[aI b]
   rw[e,vI s r l (a++ [x.1])];show _=((eO s l r).1,a++(x.1::(eO s l r).2));rw[gq];rfl
  ·rw[aD b];by_cases c:may s l x=ai
   ·have e:js s (l,a) x=(l++ [(x.1,x.2+1)],a):=(by unfold js;rw[aD b,aI c]);have d:(l.all (λ(f:F×Nat)=>f.2 !=x.2+1)&&(sameSpan s x.1.side x.2 (x.2+1)||room s l x.1 (x.2+1)))=ai:=c;rw[e,aI d,vI s r _ a]
   ·have e:js s (l,a) x=(l++ [x],a):=(by unfold js;rw[aD b,aD c]);have d:¬(l.all (λ(f:F×Nat)=>f.2 !=x.2+1)&&(sameSpan s x.1.side x.2 (x.2+1)||room s l x.1 (x.2+1)))=ai:=c;rw[e,aD d,vI s r _ a]
def Gb(s:St)(r:aa (F×Nat)):eO s [] r=r.foldl (js s) ([],[]):=by rw[vI];rfl
def sofar(s:St)(i:Nat):aa (F×Nat)×aa F:=(s.onIt.take i).foldl (js s) ([],[])
def Bx{s:St}{i:Nat}{x:F×Nat}(h:s.onIt[i]? =O x):sofar s (i+1)=js s (sofar s i) x:=by(unfold sofar;have:s.onIt.take (i+1)=s.onIt.take i++ [x]:=by rw[List.take_succ,h];rfl);rw[this,qq];rfl
def Rm(s:St):sofar s s.onIt.length=eO s [] s.onIt:=by unfold sofar;rw[ij,Gb]
def Gd(s:St)(i:Nat):sofar s i=eO s [] (s.onIt.take i):=by rw[Gb];rfl
def Rn{s:St}{eb a:Nat}(f:a<cZ s)(g:eb<=1):let c:Int:=if eb=0 then(cellOf s eb a:Int)+1 else(cellOf s eb a:Int)-1
  (if 0<=c/\c<(cZ s:Int)then c else-1)=if a+1=cZ s then-1 else(cellOf s eb (a+1):Int):=by
 intro c;have e:c=if eb=0 then(cellOf s eb a:Int)+1 else(cellOf s eb a:Int)-1:=rfl
 unfold cellOf at*;by_cases d:eb=0
 ·rw[aI d]at e⊢;rw[aI d]at e;by_cases b:a+1=cZ s
  ·rw[aI b,aD ∅]
  ·rw[aD b,aI ∅];lia
 ·rw[aD d]at e⊢;rw[aD d]at e;by_cases b:a+1=cZ s
  ·rw[aI b,aD ∅]
  ·rw[aD b,aI ∅];lia
def Ge:∀(l:aa (Nat×Nat))(m:Nat),(l.foldl (λ(m:Nat)(x:Nat×Nat)=>min m x.2) m=m)\/∃x∈l,l.foldl (λ(m:Nat)(x:Nat×Nat)=>min m x.2) m=x.2
 | [],m=>.inl I
 |b::l,m=>by
  simp only[gI];rcases Ge l (min m b.2)with h|⟨x,c,h⟩
  ·rw[h];rcases Nat.le_total m b.2 with a|a
   ·exact .inl (uP a)
   ·exact .inr #v[b,cc ..,N_ a]
  ·exact .inr #v[x,cw _ c,h]
def Ro{s:St}(h:1<=s.spans.length):∃x∈s.spans,x.2=lW s:=by(unfold lW;rcases Ge s.spans (limitOf s 0)with e|⟨x,a,e⟩);(rw[e];unfold limitOf;match c:s.spans,h with|b::l,_=>exact⟨b,cc ..,I⟩);exact#v[x,a,e.symm]
def Rp(l:aa F)(h:∀c∈l,c.side<=1):(l.filter λ(c:F)=>c.side==0).length+(l.filter λ(c:F)=>c.side==1).length=l.length:=by induction l with|nil=>rfl|cons c l b=>(have d:=b λx a=>h x (cw _ a);have f:=h c (cc ..);rw[hC,hC];rcases(show c.side=0\/c.side=1 by lia)with e|e);(simp only[e,qr,hZ,cU];simp;lia);simp only[e,qr,hZ,cU];simp;lia
def erase_filter:∀(l:aa F)(j:Nat)(c:F),(l.map λ(c:F)=>c.id).Nodup->l[j]? =O c->l.eraseIdx j=l.filter λ(x:F)=>x.id !=c.id
 | [],j,c,_,h=>by simp at h
 |b::l,0,c,a,h=>by have e:b=c:=aM h;subst e;rw[cI,fD]at a;rw[hC,aD (by simp)];show l=_;symm;rw[rT];intro x g;simp only[zP,ne_eq];intro d;exact a.1 (by rw[<-d];exact gr (f:=λ(c:F)=>c.id) g)
 |b::l,j+1,c,a,h=>by rw[cI,fD]at a;have h':l[j]? =O c:=h;have f:b.id≠c.id:=λd=>a.1 (by rw[d];exact gr (f:=λ(c:F)=>c.id) (dJ h'));rw[hC,aI (by simpa using f)];show b::l.eraseIdx j=_;rw[erase_filter l j c a.2 h']
def By{l:aa F}(d:(l.map λ(c:F)=>c.id).Nodup){x c:F}(g:x∈l)(f:c∈l)(e:x.id=c.id):x=c:=by induction l with|nil=>cases g|cons i l h=>(rw[cI,fD]at d;rcases bL.mp g with b|b);(rcases bL.mp f with a|a;(rw[b,a]);exact absurd (by rw[<-b,e];exact gr (f:=λ(c:F)=>c.id) a) d.1);rcases bL.mp f with a|a;(exact absurd (by rw[<-a,<-e];exact gr (f:=λ(c:F)=>c.id) b) d.1);exact h d.2 b a
def Rq(l:aa F)(c:F)(sd:Nat):(l.filter λ(x:F)=>x.id !=c.id).filter (λ(x:F)=>x.side==sd)=(l.filter λ(x:F)=>x.side==sd).filter λ(x:F)=>x.id !=c.id:=by rw[r3,r3];apply nG;intro x _;rw[Oa]
def Rr{l:aa F}(f:(l.map λ(c:F)=>c.id).Nodup){c:F}(b:c∈l){sd:Nat}(h:c.side≠sd):(l.filter λ(x:F)=>x.side==sd).filter (λ(x:F)=>x.id !=c.id)=l.filter λ(x:F)=>x.side==sd:=by rw[rT];intro x d;have a:=c0.mp d;simp only[zP,ne_eq];intro g;have e:=By f a.1 b g;subst e;exact h (by simpa using a.2)
end bw
namespace aN
open Sy50(Entry isStruck told says counts)
def cnt(l:aa Entry)(x:Entry×Nat):ab (Nat×Nat):=if j6 l x.2=ai then aj else match x.1 with
 |.found _ _ c=>O (x.2,told l x.2 c)
 |.mended _ _=>O (x.2,0)
 |_=>aj
def cf(l:aa Entry):aa (Nat×Nat):=l.zipIdx.filterMap (cnt l)
def mE(e m:Nat)(x:Entry):Nat:=match x with
 |.right_ i d=>if i=e then d else m
 |_=>m
def Gf(l:aa Entry)(e c:Nat):told l e c=l.foldl (mE e) c:=rfl
def Bz{a:Type}(l:aa a)(x:a):(l++ [x]).zipIdx=l.zipIdx++ [(x,l.length)]:=by rw[List.zipIdx_append];simp
def vJ{c:Type}{l:aa c}{b:c×Nat}(h:b∈l.zipIdx):l[b.2]? =O b.1:=by obtain⟨a,d⟩:=Eo h;rw[b_ a,d]
def BB(l:aa Entry)(e:Nat):j6 l e=ai↔Entry.struck e∈l:=by unfold j6;exact z4
def sV(l:aa Entry)(x:Entry)(e:Nat):j6 (l++ [x]) e=(j6 l e||decide (x=Entry.struck e)):=by rw[ip,l5,BB,BB,fh,dh,c_];constructor;(rintro(h|h);(exact .inl h);exact .inr h.symm);rintro(h|h);(exact .inl h);exact .inr h.symm
def vK(l:aa Entry)(x:Entry)(e c:Nat):told (l++ [x]) e c=mE e (told l e c) x:=by rw[Gf,Gf,qq];rfl
def Gg{b j:Type}{l:aa b}{f g:b->ab j}(h:∀x∈l,f x=g x):l.filterMap f=l.filterMap g:=by induction l with|nil=>rfl|cons a l i=>have c:=h a (cc ..);have d:=i λx e=>h x (cw _ e);rw[jg,jg,c,d]
def Rt{d e:Type}{p:e->Bool}{l:aa d}{f g:d->ab e}(h:∀x∈l,f x=(g x).filter p):l.filterMap f=(l.filterMap g).filter p:=by induction l with|nil=>rfl|cons a l k=>have i:=h a (cc ..);have b:=k λx j=>h x (cw _ j);rw[jg,jg,i];cases n:g a with|none=>exact b|some m=>rw[hC];cases c:p m with|true=>simp only[z5,c,hZ];rw[b]|false=>simp only[z5,c,ka,iO];exact b
def Ru{d b:Type}{k:b->b}{l:aa d}{f g:d->ab b}(h:∀x∈l,f x=(g x).map k):l.filterMap f=(l.filterMap g).map k:=by induction l with|nil=>rfl|cons a l j=>have e:=h a (cc ..);have c:=j λx i=>h x (cw _ i);rw[jg,jg,e];cases m:g a with|none=>exact c|some n=>simp only[oV,cI];rw[c]
def Gh:∀(l:aa Entry)(e c:Nat),(∀a∈l,∀d,a≠Entry.right_ e d)->l.foldl (mE e) c=c
 | [],_,_,_=>rfl
 |a::l,e,c,h=>by
  rw[gI];have b:=h a (cc ..);have f:mE e c a=c:=by
   unfold mE;cases a with
   |right_ i d=>exact aD (λj=>b d (by rw[j]))
   |_=>rfl
  rw[f];exact Gh l e c λw g=>h w (cw _ g)
def Rv{l:aa Entry}{x:Entry}{c:Nat}(h:(∃p d,x=.found p d c)\/(∃p d,x=.mended p d/\c=0))(j:j6 l l.length=ax)(i:∀f∈l,∀d,f≠Entry.right_ l.length d):cf (l++ [x])=cf l++ [(l.length,c)]:=by(have b:∀e,decide (x=Entry.struck e)=ax:=λe=>by rcases h with⟨p,d,rfl⟩|⟨p,d,rfl,_⟩<;>exact ek (λk=>nomatch k));(have a:∀e m,mE e m x=m:=λe m=>by rcases h with⟨p,d,rfl⟩|⟨p,d,rfl,_⟩<;>rfl);unfold cf;rw[Bz,uQ];congr 1;(refine Gg λf _=>?_;unfold cnt;rw[sV,b,z6];simp only[vK,a]);(have g:told l l.length c=c:=Gh l _ c i;rw[jg,Et];unfold cnt;rw[sV,j,b];simp only[vK,a];rcases h with⟨p,d,rfl⟩|⟨p,d,rfl,rfl⟩);(simp[g]);simp
def qU{l:aa Entry}{a:Entry×Nat}{b:Nat×Nat}(h:cnt l a=O b):b.1=a.2:=by unfold cnt at h;split at h;(cases h);split at h;(rw[<-aM h]);(rw[<-aM h]);cases h
def Rw{l:aa Entry}{e:Nat}:cf (l++ [Entry.struck e])=(cf l).filter λf=>f.1 !=e:=by(unfold cf;rw[Bz,uQ];have h:[(Entry.struck e,l.length)].filterMap (cnt (l++ [Entry.struck e]))=[]:=by rw[jg,Et];unfold cnt;simp);rw[h,gY];refine Rt λa _=>?_;have i:∀g m,mE g m (Entry.struck e)=m:=λ_ _=>rfl;by_cases b:a.2=e;(have c:cnt (l++ [Entry.struck e]) a=aj:=(by unfold cnt;rw[sV,b,eP I,Ob,aI I]);rw[c];cases d:cnt l a with|none=>rfl|some f=>have:=qU d;simp[z5,this,b]);have c:cnt (l++ [Entry.struck e]) a=cnt l a:=(by unfold cnt;rw[sV,ek (show¬Entry.struck e=Entry.struck a.2 fromλj=>b (Entry.struck.inj j).symm),z6];simp only[vK,i]);rw[c];cases d:cnt l a with|none=>rfl|some f=>have:=qU d;simp[z5,this,b]
def Rx{l:aa Entry}{e c:Nat}(m:∃p d b,l[e]? =O (.found p d b)):cf (l++ [Entry.right_ e c])=(cf l).map λf=>if f.1=e then(f.1,c)else f:=by(unfold cf;rw[Bz,uQ];have j:[(Entry.right_ e c,l.length)].filterMap (cnt (l++ [Entry.right_ e c]))=[]:=by rw[jg,Et];unfold cnt;simp);(rw[j,gY];refine Ru λh o=>?_;have n:j6 (l++ [Entry.right_ e c]) h.2=j6 l h.2:=by rw[sV,ek (λf=>nomatch f),z6]);have g:=vJ o;obtain⟨x,i⟩:=h;unfold cnt;rw[n];simp only at g⊢;cases j6 l i with|true=>rfl|false=>simp only[ka,iO];cases x with|found p d b=>simp only[vK,oV];by_cases a:i=e;(subst a;simp[mE]);have:mE i (told l i b) (Entry.right_ e c)=told l i b:=aD (λq=>a q.symm);rw[this];simp[a]|mended p d=>by_cases a:i=e;(subst a;obtain⟨_,d',b,k⟩:=m;rw[k]at g;cases g);simp[a]|struck _=>rfl|right_ _ _=>rfl
def bK(l:aa Entry)(i:Nat):Entry:=l.getD i (.struck 0)
def pick(l:aa Entry)(part ao:Nat)(m:ab (Nat×Nat))(a:Nat×Nat):ab (Nat×Nat):=if bo.gA (bK l a.1)=part/\bo.c8 (bK l a.1)<=ao then(match m with
  |none=>O a
  |some w=>if bo.c8 (bK l w.1)<=bo.c8 (bK l a.1)then O a else O w)else m
def srcOf(l:aa Entry)(part ao:Nat):ab (Nat×Nat):=(cf l).foldl (pick l part ao) aj
def Ry{l:aa Entry}{part:Nat}{x:Entry×Nat}(f:l[x.2]? =O x.1):kL l part x=(cnt l x).bind λb=>if bo.gA (bK l b.1)=part then O (bo.c8 (bK l b.1),b.2)else aj:=by(have a:bK l x.2=x.1:=by simp[bK,dt,f]);unfold kL cnt;split;(rfl);obtain⟨g,i⟩:=x;simp only at a⊢;cases g with|found p d c=>simp only[z7,a];rfl|mended p d=>simp only[z7,a];rfl|struck e=>rfl|right_ e c=>rfl
def Gi(l:aa Entry)(part ao:Nat):oQ l part ao=(srcOf l part ao).map λa=>(a.1,bo.c8 (bK l a.1),a.2):=by
 unfold oQ srcOf cf;have:∀(e:aa (Entry×Nat))(m:ab (Nat×Nat)),(∀x∈e,l[x.2]? =O x.1)->e.foldl (λ(m:ab (Nat×Nat×Nat))(x:Entry×Nat)=>match kL l part x with
    |none=>m
    |some b=>if ao<b.1 then m else match m with
     |none=>O (x.2,b.1,b.2)
     |some a=>if a.2.1<=b.1 then O (x.2,b.1,b.2)else m) (m.map λa=>(a.1,bo.c8 (bK l a.1),a.2))=
   ((e.filterMap (cnt l)).foldl (pick l part ao) m).map λa=>(a.1,bo.c8 (bK l a.1),a.2):=by
  intro e;induction e with
  |nil=>intro m _;rfl
  |cons x e d=>
   intro m n;have j:=n x (cc ..);have c:=λb s=>n b (cw _ s);rw[gI,jg];have g:=Ry (part:=part) j;cases i:cnt l x with
   |none=>rw[i]at g;rw[show kL l part x=aj from g];exact d m c
   |some a=>
    rw[i]at g;have p:=qU i;rw[gI];have r:kL l part x=if bo.gA (bK l a.1)=part then O (bo.c8 (bK l a.1),a.2)else aj:=g
    rw[r];by_cases f:bo.gA (bK l a.1)=part
    ·rw[aI f];simp only;by_cases k:ao<bo.c8 (bK l a.1)
     ·rw[aI k];have:pick l part ao m a=m:=by unfold pick;rw[aD (λo=>by lia)]
      rw[this];exact d m c
     ·rw[aD k];have q:pick l part ao m a=(match m with
       |none=>O a
       |some w=>if bo.c8 (bK l w.1)<=bo.c8 (bK l a.1)then O a else O w):=by
       unfold pick;rw[aI #v[f,by lia]]
      rw[q,<-p];cases m with
      |none=>exact d (O a) c
      |some w=>
       simp only[oV];by_cases h:bo.c8 (bK l w.1)<=bo.c8 (bK l a.1)
       ·rw[aI h,aI h];exact d (O a) c
       ·rw[aD h,aD h];exact d (O w) c
    ·rw[aD f];have:pick l part ao m a=m:=by unfold pick;rw[aD (λo=>f o.1)]
     rw[this];exact d m c
 exact this l.zipIdx aj λx j=>vJ j
def qV{l:aa Entry}{b:Nat×Nat}(h:b∈cf l):b.1<l.length/\j6 l b.1=ax/\((∃p d c,l[b.1]? =O (.found p d c))\/∃p d,l[b.1]? =O (.mended p d)):=by unfold cf at h;obtain⟨_,j,e⟩:=uR.mp h;have a:=vJ j;have g:=qU e;rw[g];refine#v[(cM.mp a).1,?_,?_];(unfold cnt at e;split at e;(cases e);rename_i i;simpa using i);unfold cnt at e;split at e;(cases e);split at e;(rename_i p d c f;rw[f]at a;exact .inl #v[p,d,c,a]);(rename_i p d f;rw[f]at a;exact .inr #v[p,d,a]);cases e
def vL{l:aa Entry}{i:Nat}(b:j6 l i=ax)(h:(∃p d c,l[i]? =O (.found p d c))\/∃p d,l[i]? =O (.mended p d)):∃c,(i,c)∈cf l:=by(have key:∀x,l[i]? =O x->(x,i)∈l.zipIdx:=λx a=>by rw[List.mem_zipIdx_iff_getElem?];simpa using a);rcases h with⟨p,d,c,a⟩|⟨p,d,a⟩;(refine#v[told l i c,uR.mpr #v[_,key _ a,?_]];unfold cnt;rw[b];rfl);refine#v[0,uR.mpr #v[_,key _ a,?_]];unfold cnt;rw[b];rfl
def vM(l:aa Entry):(cf l).Pairwise λa b=>a.1<b.1:=by unfold cf;rw[Oc];refine(aL.Bq l 0).imp λ{a b} h x c _ d=>?_;rw[qU c,qU d];exact h
end aN
namespace aL
open Sy51
def mapOf(s:St):Nat->Nat->ab (Nat×Nat×aa Nat):=λao k=>((s.book++noted s).find? λm=>decide (m.day=ao/\m.span=k)).map λm=>(m.load,m.time,m.cars)
def qW(b k:Nat):∀(l:aa (Nat×Nat×aa Nat))(n:Nat),((((l.zipIdx n).map λ(x:(Nat×Nat×aa Nat)×Nat)=>(#v[b,x.2,x.1.1,x.1.2.1,x.1.2.2]:lr)).filter λ(m:lr)=>decide (0<m.load)).find? λm=>decide (m.day=b/\m.span=k)).map (λm=>(m.load,m.time,m.cars))=if n<=k then(l[k-n]?).bind λx=>if 0<x.1 then O x else aj else aj
 | [],n=>by simp
 |c::l,n=>by
  rw[rZ,cI,hC];by_cases d:n<=k
  ·rw[aI d];by_cases e:n=k
   ·subst e;rw[j9];simp only[z8,z7];by_cases a:0<c.1
    ·rw[aI (by simpa using a),aI a,List.find?_cons_of_pos (by simp)];rfl
    ·rw[aD (by simpa using a),aD a,qW b n l (n+1),aD ∅]
   ·have f:(c::l)[k-n]? =l[k-(n+1)]? :=(by rw[show k-n=(k-(n+1))+1 by lia];rfl);rw[f];by_cases a:0<c.1
    ·rw[aI (by simpa using a),Od (by simp;lia),qW b k l (n+1),aI ∅]
    ·rw[aD (by simpa using a),qW b k l (n+1),aI ∅]
  ·rw[aD d];by_cases a:0<c.1
   ·rw[aI (by simpa using a),Od (by simp;lia),qW b k l (n+1),aD ∅]
   ·rw[aD (by simpa using a),qW b k l (n+1),aD ∅]
def BC{s:St}(b:∀m∈s.book,m.day<s.file.today)(k:Nat):mapOf s s.file.today k=(s.now[k]?).bind λx=>if 0<x.1 then O x else aj:=by(unfold mapOf;have a:(s.book.find? λm=>decide (m.day=s.file.today/\m.span=k))=aj:=by rw[hX];intro m c;have:=b m c;simp;lia);rw[Oe,a,Option.none_or];have:=qW s.file.today k s.now 0;rw[aI (dc _),Eu]at this;exact this
def BD{s:St}{ao:Nat}(k:Nat)(h:ao≠s.file.today):mapOf s ao k=(s.book.find? λm=>decide (m.day=ao/\m.span=k)).map λm=>(m.load,m.time,m.cars):=by(unfold mapOf;have a:((noted s).find? λm=>decide (m.day=ao/\m.span=k))=aj:=by rw[hX];intro m b;obtain⟨x,_,e,_⟩:=vB b;rw[e];simp;lia);rw[Oe,a,Option.or_none]
structure iF(s:St):Prop where
 lane:aW.Ok s.lane
 now:s.now.length=s.lane.spans.length
 gi:∀m∈s.book,m.day<s.file.today
 iD:∀m∈s.book,m.span<s.lane.spans.length
 day:s.file.today<=100000
def Ok.tok{s:St}(o:Ok s):iF s:=#v[o.lane,o.now,o.gi,o.iD,o.file.day]
def iF.tick{s:St}(o:iF s):iF (tick s):=by obtain⟨_,a,_,_,_,_⟩:=aW.mD s.lane;refine#v[o.lane.tick,?_,o.gi,?_,o.day];(show(d_ _ s.now.zipIdx).length=(cn s.lane).spans.length;rw[a,aq,oP];exact o.now);intro m b;show m.span<(cn s.lane).spans.length;rw[a];exact o.iD m b
def vN{s:St}(o:iF s){ao k:Nat}{m:Nat×Nat×aa Nat}(h:mapOf s ao k=O m):ao<=s.file.today/\k<s.lane.spans.length:=by by_cases e:ao=s.file.today;(subst e;rw[BC o.gi]at h;refine#v[bp _,?_];cases a:s.now[k]?with|none=>rw[a]at h;cases h|some x=>have:=(cM.mp a).1;rw[<-o.now];exact this);rw[BD k e]at h;cases a:(s.book.find? λm=>decide (m.day=ao/\m.span=k))with|none=>rw[a]at h;cases h|some b=>(have c:=nB a;have d:b.day=ao/\b.span=k:=by simpa using nC a);have f:=o.gi b c;have g:=o.iD b c;lia
def pG:∀(a:Nat)(l:aa Nat),l.Nodup->(∀x∈l,x<a)->l.length<=a
 |0,l,_,h=>by
  match l with
  | []=>exact bp _
  |x::l=>exact absurd (h x (cc ..)) (kM _)
 |a+1,l,e,h=>by
  have b:=pG a (l.erase a) (e.erase a) λx f=>by have c:=(e.mem_erase_iff).mp f;have g:=h x c.2;have i:=c.1;lia
  by_cases d:a∈l
  ·rw[Of d]at b;lia
  ·rw[List.erase_of_not_mem d]at b;lia
def dM(l:G)(x:dw×Nat):Nat:=eQ l.spans (cj l x.1.side x.2)
def Rz{l:G}(o:aW.Ok l){x:dw×Nat}(b:x∈l.onIt):0<eY l l.onIt (dM l x):=by(unfold eY;have d:x∈l.onIt.filter λ(c:dw×Nat)=>eQ l.spans (cj l c.1.side c.2)==dM l x:=c0.mpr #v[b,by simp[dM]];have g:=(o.wO x b).1;have key:∀a:aa (dw×Nat),x∈a->x.1.weight<=(a.map λ(x:dw×Nat)=>x.1.weight).sum:=by intro a;induction a with|nil=>intro h;cases h|cons i a f=>(intro h;rw[cI,i_];rcases bL.mp h with e|e);(subst e;lia);have:=f e;lia);have:=key _ d;lia
def RB{l:G}{k:Nat}(h:¬∃x∈l.onIt,dM l x=k):eY l l.onIt k=0:=by(unfold eY;have:(l.onIt.filter λ(a:dw×Nat)=>eQ l.spans (cj l a.1.side a.2)==k)=[]:=by rw[Ew];intro a b;have:dM l a≠k:=λe=>h #v[a,b,e];simpa[dM]using this);rw[this];rfl
def Gj{l:G}(o:aW.Ok l){x:dw×Nat}(a:x∈l.onIt):dM l x<l.spans.length:=aW.sN l.spans _ (aW.kk l (o.lt x a))
open Classical in
def RC{s:St}(o:iF s)(b k:Nat):mapOf (tick s) b k=if b=s.file.today/\(∃x∈(cn s.lane).onIt,dM (cn s.lane) x=k)then(match mapOf s s.file.today k with
  |none=>O (eY (cn s.lane) (cn s.lane).onIt k,(cn s.lane).time,on (cn s.lane) k)
  |some m=>if m.1<eY (cn s.lane) (cn s.lane).onIt k then O (eY (cn s.lane) (cn s.lane).onIt k,(cn s.lane).time,on (cn s.lane) k)else O m)else mapOf s b k:=by
 have g:=o.tick;obtain⟨_,q,_,_,_,_⟩:=aW.mD s.lane;by_cases e:b=s.file.today
 ·subst e;have l:mapOf (tick s) s.file.today k=((tick s).now[k]?).bind λx=>if 0<x.1 then O x else aj:=BC (s:=tick s) g.gi k
  have n:=BC o.gi k;have p:(tick s).now[k]? =(s.now[k]?).map λx=>if x.1<eY (cn s.lane) (cn s.lane).onIt k then(eY (cn s.lane) (cn s.lane).onIt k,(cn s.lane).time,on (cn s.lane) k)else x:=by show(d_ _ s.now.zipIdx)[k]? =_;rw[bN,Og];cases s.now[k]? <;>simp
  rw[l,n,p];by_cases c:∃x∈(cn s.lane).onIt,dM (cn s.lane) x=k
  ·rw[aI #v[I,c]];obtain⟨x,j,i⟩:=c;have f:=Rz g.lane j;rw[show(tick s).lane=cn s.lane from I,i]at f;have r:k<s.now.length:=by rw[o.now,<-q,<-i];exact Gj g.lane j
   rw[b_ r];simp only[oV,z7];by_cases d:0<(s.now[k]).1
   ·rw[aI d];simp only;by_cases a:(s.now[k]).1<eY (cn s.lane) (cn s.lane).onIt k
    ·rw[aI a,aI f,aI a]
    ·rw[aD a,aI d,aD a]
   ·rw[aD d];simp only;have a:(s.now[k]).1<eY (cn s.lane) (cn s.lane).onIt k:=by lia
    rw[aI a,aI f]
  ·rw[aD (λh=>c h.2),RB c];cases s.now[k]?with
   |none=>rfl
   |some x=>simp
 ·rw[aD (λh=>e h.1),BD k (show b≠(tick s).file.today from e),BD k e];rfl
def allB(s:St):aa lr:=s.book++noted s
def BE{s:St}(o:Ok s):(allB s).Pairwise uE:=by(unfold allB;rw[qj];refine#v[o.kU,F6 s,λa c b d=>.inl ?_];obtain⟨x,_,e,_⟩:=vB d;have h:b.day=s.file.today:=by rw[e]);rw[h];exact o.gi a c
def Gk:∀ {l:aa lr},l.Pairwise uE->∀ {a b:lr},a∈l->b∈l->a.day=b.day->a.span=b.span->a=b
 | [],_,a,b,f,_,_,_=>by cases f
 |x::l,c,a,b,f,j,k,m=>by
  rw[ja]at c;rcases bL.mp f with e|i
  ·rcases bL.mp j with d|g
   ·rw[e,d]
   ·subst e;rcases c.1 b g with h|h<;>lia
  ·rcases bL.mp j with d|g
   ·subst d;rcases c.1 a i with h|h<;>lia
   ·exact Gk c.2 i g k m
def BG{s:St}{d k:Nat}{x:Nat×Nat×aa Nat}(h:mapOf s d k=O x):∃m∈allB s,m.day=d/\m.span=k/\x=(m.load,m.time,m.cars):=by unfold mapOf at h;cases e:(s.book++noted s).find? (λm=>decide (m.day=d/\m.span=k))with|none=>rw[e]at h;cases h|some m=>rw[e]at h;have b:=nC e;have c:=nB e;have a:m.day=d/\m.span=k:=jd b;exact#v[m,c,a.1,a.2,(aM h).symm]
def sW{s:St}(o:Ok s){m:lr}(a:m∈allB s):mapOf s m.day m.span=O (m.load,m.time,m.cars):=by cases e:mapOf s m.day m.span with|none=>exfalso;unfold mapOf at e;rw[Option.map_eq_none_iff,hX]at e;exact e m a (eP #v[I,I])|some x=>obtain⟨_,b,c,d,rfl⟩:=BG e;rw[Gk (BE o) b a c d]
def BH:∀ {l m:aa Nat},l.Pairwise (·<·)->m.Pairwise (·<·)->(∀x,x∈l↔x∈m)->l=m
 | [],[],_,_,_=>rfl
 | [],c::m,_,_,h=>absurd ((h c).mpr (cc ..)) (by simp)
 |x::l,[],_,_,h=>absurd ((h x).mp (cc ..)) (by simp)
 |x::l,c::m,d,f,h=>by
  rw[ja]at d f;have e:x=c:=by
   rcases bL.mp ((h x).mp (cc ..))with a|a
   ·exact a
   ·rcases bL.mp ((h c).mpr (cc ..))with i|i
    ·exact i.symm
    ·have j:=f.1 x a;have k:=d.1 c i;lia
  subst e;congr 1;refine BH d.2 f.2 λg=>?_;constructor
  ·intro b;rcases bL.mp ((h g).mp (cw _ b))with a|a
   ·have:=d.1 g b;lia
   ·exact a
  ·intro b;rcases bL.mp ((h g).mpr (cw _ b))with a|a
   ·have:=f.1 g b;lia
   ·exact a
def gB(s:St)(d:Nat):aa lr:=(allB s).filter λm=>m.day==d
def Gm{s:St}(o:Ok s)(d:Nat):((gB s d).map λm=>m.span).Pairwise (·<·):=by(rw[ik];have h:=zZ (λ(m:lr)=>m.day==d) (BE o);refine r4 (λ{a c} e g f=>?_) h;have i:a.day=d:=by simpa using(c0.mp e).2);(have j:c.day=d:=by simpa using(c0.mp g).2);rcases f with b|b;(lia);exact b.2
def Gn{s:St}(o:Ok s){d k:Nat}:k∈(gB s d).map (λm=>m.span)↔mapOf s d k≠aj:=by constructor;((intro h;obtain⟨m,f,rfl⟩:=bM.mp h;obtain⟨a,b⟩:=c0.mp f;have c:m.day=d:=by simpa using b);rw[<-c,sW o a];intro g;cases g);intro h;cases e:mapOf s d k with|none=>exact absurd e h|some x=>obtain⟨m,a,b,c,_⟩:=BG e;exact bM.mpr #v[m,c0.mpr #v[a,by simpa using b],c]
def RD{l m:aa Nat}{a:aa Int}(f:a.Perm (l.map λ(n:Nat)=>(n:Int)))(i:a.Pairwise (·<=·))(o:l.Nodup)(j:m.Pairwise (·<·))(h:∀x,x∈l↔x∈m):a=m.map λ(n:Nat)=>(n:Int):=by(have e:∃k:aa Nat,a=k.map λ(n:Nat)=>(n:Int):=by refine#v[a.map nH,?_];rw[ck];refine(Ex a).symm.trans (l7 λx p=>?_);obtain⟨n,_,rfl⟩:=bM.mp (f.subset p);rfl);(obtain⟨k,rfl⟩:=e;congr 1;have g:k.Perm l:=by(have b:=f.map nH;rw[ck,ck]at b;have c:∀d:aa Nat,d.map (nH∘λ(n:Nat)=>(n:Int))=d:=λd=>by refine(l7 λx _=>?_).trans (Ex d);rfl);rw[c,c]at b;exact b);(refine BH ?_ j λx=>(g.mem_iff).trans (h x);have b:k.Pairwise (·<=·):=by rw[ik]at i;exact i.imp λh=>by lia);have c:k.Nodup:=g.nodup_iff.mpr o;exact(b.and c).imp λh=>Nat.lt_of_le_of_ne h.1 h.2
def fg(l:aa l8):Prop:=∃p r,l=p::r/\p.day=0
def fg.app{l:aa l8}(h:fg l)(m:aa l8):fg (l++m):=by obtain⟨p,r,rfl,a⟩:=h;exact#v[p,r++m,I,a]
def BI(s:cq):(cb s .post).1.posts=s.posts\/∃p,(cb s .post).1.posts=s.posts++ [p]/\p.day=s.today:=by unfold cb;dsimp only;(repeat' split);all_goals first|exact .inl rfl|exact .inr ⟨_,rfl,rfl⟩
def Gp(s:cq)(n:Nat):(cb s (.day n)).1.posts=s.posts:=by unfold cb;dsimp only;(repeat' split);all_goals rfl
def Gq(s:St):(posting s).1.file.posts=(cb s.file .post).1.posts:=rfl
def mF.posting{s:St}(h:fg s.file.posts):fg (posting s).1.file.posts:=by(rw[Gq];rcases BI s.file with e|⟨p,e,_⟩);(rw[e];exact h);rw[e];exact h.app _
def Gr(t:Nat)(l:aa (Nat×e8)):fg (posting (fresh t l)).1.file.posts:=by rw[Gq];refine#v[#v[0,0,ej (fresh t l).file 0 0],[],?_,I];rfl
def RE:fg init.file.posts:=by rw[Bt];exact Gr _ _
def g5(s:cq)(c:Ey)(h:c≠ .post)(a:∀l,c≠ .begins l):(cb s c).1.posts=s.posts:=by(unfold cb;cases c<;>dsimp only<;>repeat' split);all_goals first|rfl|exact absurd rfl h|exact absurd rfl (a _)|exact(vF _ _).2.2
def mF.step{s:St}(o:Ok s)(h:fg s.file.posts)(c:Call):fg (step s c).1.file.posts:=by cases c with|begins t l=>show fg (if _ then _ else _:St×Ans).1.file.posts;split;(exact h);exact Gr _ _|day n=>show fg (if _ then _ else if _ then _ else _:St×Ans).1.file.posts;split;(exact h);split;(exact h);show fg (night s n).1.file.posts;rw[vC];refine mF.posting ?_;show fg (cb (cleared FUEL _).file (.day n)).1.posts;rw[Gp,(pD FUEL (s:={s with lane:={s.lane with shut:=ai} }) (o.lane.n0 ai)).2.2.1];exact h|post=>show fg (if _ then _ else if _ then _ else _:St×Ans).1.file.posts;split;(exact h);split;(exact h);exact mF.posting h|found k d c=>show fg (cb s.file (.found k d c)).1.posts;rw[g5 s.file (.found k d c) (by intro b;cases b) (by intro l b;cases b)];exact h|mended k d=>show fg (cb s.file (.mended k d)).1.posts;rw[g5 s.file (.mended k d) (by intro b;cases b) (by intro l b;cases b)];exact h|strike e=>show fg (cb s.file (.strike e)).1.posts;rw[g5 s.file (.strike e) (by intro b;cases b) (by intro l b;cases b)];exact h|right_ e c=>show fg (cb s.file (.right_ e c)).1.posts;rw[g5 s.file (.right_ e c) (by intro b;cases b) (by intro l b;cases b)];exact h|known k d n=>show fg (cb s.file (.known k d n)).1.posts;rw[g5 s.file (.known k d n) (by intro b;cases b) (by intro l b;cases b)];exact h|limit d n=>show fg (cb s.file (.limit d n)).1.posts;rw[g5 s.file (.limit d n) (by intro b;cases b) (by intro l b;cases b)];exact h|wrong a f=>show fg (cb s.file (.wrong a f)).1.posts;rw[g5 s.file (.wrong a f) (by intro b;cases b) (by intro l b;cases b)];exact h|falls w=>show fg (cb s.file (.falls w)).1.posts;rw[g5 s.file (.falls w) (by intro b;cases b) (by intro l b;cases b)];exact h|due n=>show fg (cb s.file (.due n)).1.posts;rw[g5 s.file (.due n) (by intro b;cases b) (by intro l b;cases b)];exact h|comes d w=>show fg (if _ then _ else _:St×Ans).1.file.posts;split<;>exact h|ticks n=>(show fg (if _ then _ else _:St×Ans).1.file.posts;split;(exact h);(show fg (eA n s).file.posts;have:∀(n:Nat)(s:St),(eA n s).file=s.file:=λn=>by induction n with|zero=>intro s;rfl|succ n g=>intro s;exact g (jh s));rw[this];exact h)|shut f=>show fg (if _ then _ else _:St×Ans).1.file.posts;split<;>exact h|gives i=>exact h|where_ i=>exact h|when_ i=>exact h|loads=>exact h|queue d=>exact h|exposed=>exact h|book d=>exact h|state=>exact h
def Gs:∀(g:aa (Nat×Nat))(k:Nat)(l:aa Nat),(∀x∈g,x.1<=5)->l.Nodup->(∀c∈l,c<(g.map λ(x:Nat×Nat)=>x.1).sum/\eQ g c=k)->l.length<=5
 | [],k,l,_,_,h=>by
  cases l with
  |nil=>exact dc _
  |cons c l=>have:=(h c (cc ..)).1;exact absurd this (kM _)
 |x::r,k,l,i,j,h=>by
  have v:=i x (cc ..);cases k with
  |zero=>
   refine dQ (pG x.1 l j λc d=>?_) v;have b:=(h c d).2;unfold eQ at b;by_cases e:c<x.1
   ·exact e
   ·rw[aD e]at b;lia
  |succ k=>
   have f:∀c∈l,x.1<=c/\eQ r (c-x.1)=k:=λc d=>by
    have b:=(h c d).2;unfold eQ at b;by_cases e:c<x.1
    ·rw[aI e]at b;lia
    ·rw[aD e]at b;exact#v[by lia,by lia]
   have m:=Gs r k (l.map λc=>c-x.1) (λy w=>i y (cw _ w)) ?_ ?_
   ·rw[aq]at m;exact m
   ·refine ik.mpr (r4 (λ{a n} q t s e=>s ?_) j);have o:=(f a q).1;have b:=(f n t).1;lia
   ·intro _ u;obtain⟨c,d,rfl⟩:=bM.mp u;obtain⟨o,b⟩:=f c d;have p:=(h c d).1;rw[cI,i_]at p;exact#v[by lia,b]
def RF{l:G}(o:aW.Ok l)(k:Nat):(on l k).length<=5/\∀n∈on l k,n<60:=by constructor;(unfold on;rw[aq];have h:=Gs l.spans k ((l.onIt.filter λ(x:dw×Nat)=>eQ l.spans (cj l x.1.side x.2)==k).map λx=>cj l x.1.side x.2) (λx b=>(o.iB x b).2) ?_ ?_;(rw[aq]at h;exact h);(refine ik.mpr (r4 (λ{a i} p q _ e=>?_) (zZ _ o.pos));have j:=(c0.mp p).1;have m:=(c0.mp q).1;have d:=o.iC a j;have f:=o.iC i m;have t:=o.lt a j;have u:=o.lt i m;rw[d,f]at e;unfold cj at e;by_cases g:l.side=0;(rw[aI g,aI g]at e;lia);rw[aD g,aD g]at e;lia);intro c r;obtain⟨x,b,rfl⟩:=bM.mp r;obtain⟨d,f⟩:=c0.mp b;exact#v[aW.kk l (o.lt x d),by simpa using f]);intro n s;obtain⟨x,b,rfl⟩:=bM.mp s;have d:=dF.ia o (.inr (.inl #v[x,(c0.mp b).1,I]));have f:=o.fY;lia
def sX(l:aa Nat):Prop:=l.length<=5/\∀n∈l,n<60
structure dG(s:St):Prop where
 now:∀x∈s.now,sX x.2.2
 book:∀m∈s.book,sX m.cars
 len:s.book.length+12<=12*s.file.posts.length
def dG.tick{s:St}(a:dG s)(o:aW.Ok s.lane):dG (tick s):=by refine#v[λx b=>?_,a.book,a.len];obtain⟨⟨d,k⟩,c,rfl⟩:=bM.mp b;dsimp only;split;(exact RF o.tick k);exact a.now d (List.fst_mem_of_mem_zipIdx c)
def dG.ticks:∀ {n:Nat}{s:St},dG s->aW.Ok s.lane->dG (eA n s)
 |0,_,a,_=>a
 |n+1,s,a,o=>dG.ticks (n:=n) (a.tick o) o.tick
def dG.cleared:∀(f:Nat){s:St},dG s->aW.Ok s.lane->dG (cleared f s)
 |0,_,a,_=>a
 |f+1,s,a,o=>by
  unfold cW;split
  ·exact a
  ·exact dG.cleared f (a.tick o) o.tick
def Gu{s:St}(a:dG s):∀m∈noted s,sX m.cars:=λm b=>by obtain⟨x,c,e,_⟩:=vB b;rw[e];exact a.now x (dJ c)
def Gv(s:St):(noted s).length<=s.now.length:=by unfold noted;refine dQ (iq _ _) ?_;rw[aq,oP];exact bp _
def RG(s:cq):s.posts.length<=(cb s .post).1.posts.length:=by rcases BI s with e|⟨p,e,_⟩;(rw[e];exact bp _);rw[e,cV];exact r0 _ _
def dG.posting{s:St}(a:dG s):dG (posting s).1:=#v[a.now,a.book,dQ a.len (zT 12 (RG s.file))]
def Gw(t:Nat)(l:aa (Nat×e8)):dG (posting (fresh t l)).1:=by refine#v[λx c=>?_,λm a=>(by cases a),?_];(have d:x∈((l.map λ(x:Nat×e8)=>x.1).map λ(_:Nat)=>((0:Nat),(0:Nat),([]:aa Nat))):=c;obtain⟨_,_,rfl⟩:=bM.mp d;exact#v[dc _,λn b=>(by cases b)]);show 0+12<=12*1;decide
def RH:dG init:=by rw[Bt];exact Gw _ _
def dG.file{s:St}(a:dG s){f:cq}(h:f.posts=s.file.posts):dG {s with file:=f}:=#v[a.now,a.book,by show s.book.length+12<=12*f.posts.length;rw[h];exact a.len]
def dG.lane{s:St}(a:dG s)(l:G):dG {s with lane:=l}:=#v[a.now,a.book,a.len]
def dG.night{s:St}(g:dG s)(o:Ok s){n:Nat}(w:s.file.posts.length<60)(h:1<=n)(i:n<=10000)(j:s.file.today+n<=100000):dG (night s n).1:=by(rw[vC];have e:=pD FUEL (s:={s with lane:={s.lane with shut:=ai} }) (o.lane.n0 ai);have a:dG (cW FUEL {s with lane:={s.lane with shut:=ai} }):=dG.cleared FUEL (g.lane _) (o.lane.n0 ai);have A:=(Bp o.file h i j).1;have q:(cb (morning s n).file .post).1.posts.length=s.file.posts.length+1:=by have c:(morning s n).file.posts=s.file.posts:=(by show(cb (cW FUEL _).file (.day n)).1.posts=_;rw[Gp,e.2.2.1]);have v:=BI (morning s n).file;unfold cb;dsimp only;rw[aD (show¬gZ<=(morning s n).file.posts.length by rw[c];show¬60<=_;lia)];show((morning s n).file.posts++ [_]).length=_;rw[cV,c];rfl);refine#v[λx r=>?_,λm k=>?_,?_];(have t:x∈(cW FUEL {s with lane:={s.lane with shut:=ai} }).now.map λ(_:Nat×Nat×aa Nat)=>((0:Nat),(0:Nat),([]:aa Nat)):=r;obtain⟨_,_,rfl⟩:=bM.mp t;exact#v[dc _,λn p=>(by cases p)]);((have l:m∈(cW FUEL {s with lane:={s.lane with shut:=ai} }).book++noted (cW FUEL {s with lane:={s.lane with shut:=ai} }):=k;rcases dh.mp l with b|b);(exact a.book m b);exact Gu a m b);(show((cW FUEL {s with lane:={s.lane with shut:=ai} }).book++noted (cW FUEL {s with lane:={s.lane with shut:=ai} })).length+12<=12*(cb (morning s n).file .post).1.posts.length;rw[q,cV];have d:=a.len;rw[e.2.2.1]at d;have C:=Gv (cW FUEL {s with lane:={s.lane with shut:=ai} });have B:(cW FUEL {s with lane:={s.lane with shut:=ai} }).now.length<=12:=by(have:∀(f:Nat)(s:St),(cW f s).now.length=s.now.length:=λf=>by induction f with|zero=>intro s;rfl|succ f u=>intro s;unfold cW;split;(rfl);rw[u];show(s.now.zipIdx.map _).length=_;rw[aq,oP]);rw[this];show s.now.length<=12;rw[o.now];exact o.lane.gh);have z:(cW FUEL {s with lane:={s.lane with shut:=ai} }).book.length+12<=12*s.file.posts.length:=d;lia
def dG.step{s:St}(o:Ok s)(f:dG s)(c:Call):dG (step s c).1:=by cases c with|begins t l=>show dG (if _ then _ else _:St×Ans).1;split;(exact f);exact Gw _ _|day n=>show dG (if n<1\/10000<n then(s,ok (-1))else if iN<s.file.today+n\/gZ<=s.file.posts.length then _ else _:St×Ans).1;by_cases h:n<1\/10000<n;(rw[aI h];exact f);rw[aD h];by_cases g:iN<s.file.today+n\/gZ<=s.file.posts.length;(rw[aI g];exact f);rw[aD g];have j:¬(100000<s.file.today+n\/60<=s.file.posts.length):=g;exact f.night o ∅ ∅ ∅ ∅|post=>show dG (if _ then _ else if _ then _ else _:St×Ans).1;split;(exact f);split;(exact f);exact f.posting|found k d c=>exact f.file (g5 s.file (.found k d c) (by intro b;cases b) (by intro l b;cases b))|mended k d=>exact f.file (g5 s.file (.mended k d) (by intro b;cases b) (by intro l b;cases b))|strike e=>exact f.file (g5 s.file (.strike e) (by intro b;cases b) (by intro l b;cases b))|right_ e c=>exact f.file (g5 s.file (.right_ e c) (by intro b;cases b) (by intro l b;cases b))|known k d n=>exact f.file (g5 s.file (.known k d n) (by intro b;cases b) (by intro l b;cases b))|limit d n=>exact f.file (g5 s.file (.limit d n) (by intro b;cases b) (by intro l b;cases b))|wrong a c=>exact f.file (g5 s.file (.wrong a c) (by intro b;cases b) (by intro l b;cases b))|falls w=>exact f.file (g5 s.file (.falls w) (by intro b;cases b) (by intro l b;cases b))|due n=>exact f.file (g5 s.file (.due n) (by intro b;cases b) (by intro l b;cases b))|comes d w=>show dG (if _ then _ else _:St×Ans).1;split;(exact f);exact f.lane _|ticks n=>show dG (if _ then _ else _:St×Ans).1;split;(exact f);exact f.ticks o.lane|shut c=>show dG (if _ then _ else _:St×Ans).1;split;(exact f);exact#v[f.now,f.book,f.len]|gives i=>exact f.lane _|where_ i=>exact f.lane _|when_ i=>exact f.lane _|loads=>exact f.lane _|queue d=>exact f.lane _|exposed=>exact f|book d=>exact f|state=>exact f
def dG.allB{s:St}(a:dG s)(o:Ok s):(allB s).length<=720/\∀m∈allB s,sX m.cars:=by constructor;(unfold aL.allB;rw[cV];have c:=Gv s;rw[o.now]at c;have e:=o.lane.gh;have f:=a.len;have g:=o.file.vq;lia);(intro m d;rcases dh.mp d with b|b);(exact a.book m b);exact Gu a m b
def BJ(n x:Nat):∀l:aa Nat,x∈nI n l↔x=n\/x∈l
 | []=>by simp[nI]
 |m::l=>by
  unfold nI;split
  ·simp
  ·split
   ·rename_i b a;subst a;simp
   ·simp only[bL,BJ n x l];constructor
    ·rintro(h|h|h)
     ·exact .inr (.inl h)
     ·exact .inl h
     ·exact .inr (.inr h)
    ·rintro(h|h|h)
     ·exact .inr (.inl h)
     ·exact .inl h
     ·exact .inr (.inr h)
def Gx(n:Nat):∀l:aa Nat,l.Pairwise (·<·)->(nI n l).Pairwise (·<·)
 | [],_=>by simp[nI]
 |m::l,h=>by
  rw[ja]at h;unfold nI;split
  ·rename_i b;rw[ja,ja];refine#v[λx a=>?_,h.1,h.2];rcases bL.mp a with e|e
   ·lia
   ·have:=h.1 x e;lia
  ·split
   ·rw[ja];exact h
   ·rename_i b c;rw[ja];refine#v[λx a=>?_,Gx n l h.2];rcases(BJ n x l).mp a with e|e
    ·lia
    ·exact h.1 x e
def Gy:∀(l m:aa Nat),m.Pairwise (·<·)->(l.foldl (λ(m:aa Nat)(n:Nat)=>nI n m) m).Pairwise (·<·)/\∀x,x∈l.foldl (λ(m:aa Nat)(n:Nat)=>nI n m) m↔x∈l\/x∈m
 | [],m,h=>#v[h,λx=>by simp]
 |n::l,m,h=>by
  obtain⟨b,c⟩:=Gy l (nI n m) (Gx n m h);refine#v[b,λx=>?_];rw[gI,c x,BJ,bL];constructor
  ·rintro(a|a|a)
   ·exact .inl (.inr a)
   ·exact .inl (.inl a)
   ·exact .inr a
  ·rintro((a|a)|a)
   ·exact .inr (.inl a)
   ·exact .inl a
   ·exact .inr (.inr a)
def RI{l m:aa Nat}(c:m.Pairwise (·<·))(h:∀x,x∈m↔x∈l):m=Ez l:=by obtain⟨a,b⟩:=Gy l [] .nil;refine BH c a λx=>?_;rw[h x];have:=b x;simp only[ff,gv]at this;exact this.symm
def Gz(l:aa lr)(h:∀m∈l,sX m.cars):(l.flatMap λm=>m.cars).length<=5*l.length/\∀n∈l.flatMap (λm=>m.cars),n<60:=by constructor;(induction l with|nil=>exact bp _|cons m l e=>rw[oW,cV,cU];have f:=(h m (cc ..)).1;have g:=e λx d=>h x (cw _ d);lia);intro n b;obtain⟨m,a,c⟩:=List.mem_flatMap.mp b;exact(h m a).2 n c
end aL
open PySem PySem.Spec
open PyProof.Rows
namespace L2
abbrev bg:=Sum Int M
def km:bg->D->Bool
 |.inl k,v=>Oh k v
 |.inr x,v=>Oi x v
def GA(w:bR):bg->Int
 |.inl k=>hashInt k
 |.inr x=>hashStr w x
def lF:∀ {k:bg}{v:D},km k v=ai->(∃i t,k=bz i/\v=ir i t)\/(∃x t,k=qt x/\v=Value.str x t)
 |.inl i,v,h=>by obtain⟨t,e⟩:=Value.isInt_shape (k:=i) (v:=v) h;exact .inl #v[i,t,I,e]
 |.inr x,v,h=>by obtain⟨t,e⟩:=Value.isStrOf_shape (x:=x) (v:=v) h;exact .inr #v[x,t,I,e]
def RJ(i:Int)(t:gf):km (.inl i) (.int i t)=ai:=by simp[km,Oh]
def RK(x:M)(t:gf):km (.inr x) (.str x t)=ai:=by simp[km,Oi]
def RL(a b:Int):decide ((bz a:bg)=bz b)=(a==b):=by by_cases e:a=b;(subst e;simp);have h:¬(bz a:bg)=bz b:=λc=>e (oX c);rw[ek h];exact(qu.mpr e).symm
def RM(a b:M):decide ((qt a:bg)=qt b)=decide (a=b):=by by_cases e:a=b;(subst e;simp);have h:¬(qt a:bg)=qt b:=λc=>e (Sum.inr.inj c);rw[ek h,ek e]
def RN(a:Int)(b:M):decide ((bz a:bg)=qt b)=ax:=ek (λc=>nomatch c)
def RO(a:M)(b:Int):decide ((qt a:bg)=bz b)=ax:=ek (λc=>nomatch c)
def fZ(n:cx)(w:bR):PySem.KeyKind n w bg where
 is:=km
 hash:=GA w
 inj:=λv a _ l g=>by
  rcases lF l with⟨i,t,rfl,rfl⟩|⟨x,t,rfl,rfl⟩
  ·rcases lF g with⟨j,u,rfl,e⟩|⟨d,u,rfl,e⟩
   ·injection e with c _;rw[c]
   ·exact nomatch e
  ·rcases lF g with⟨j,u,rfl,e⟩|⟨d,u,rfl,e⟩
   ·exact nomatch e
   ·injection e with c _;rw[c]
 byValue:=λk v h=>by rcases lF h with⟨i,t,rfl,rfl⟩|⟨x,t,rfl,rfl⟩<;>rfl
 pyHash:=λf h=>by
  rcases lF f with⟨i,t,rfl,rfl⟩|⟨x,t,rfl,rfl⟩
  ·exact wpAny_pyHash_int h
  ·exact wpAny_pyHash_str h
 eqBool:=λm f h=>by
  rcases lF m with⟨i,t,rfl,rfl⟩|⟨x,t,rfl,rfl⟩
  ·rcases lF f with⟨j,u,rfl,rfl⟩|⟨d,u,rfl,rfl⟩
   ·rw[RL]at h;exact wpAny_eqBool_int h
   ·rw[RN]at h;exact Oj i t d u _ _ _ _ h
  ·rcases lF f with⟨j,u,rfl,rfl⟩|⟨d,u,rfl,rfl⟩
   ·rw[RO]at h;exact Ol x t j u _ _ _ _ h
   ·rw[RM]at h;exact wpAny_eqBool_str h
 «strs»:=λk x t v h=>by
  rcases lF h with⟨i,u,rfl,e⟩|⟨d,u,rfl,e⟩
  ·exact nomatch e
  ·injection e with c _;subst c;cases v<;>rfl
def RP(a:cx)(w:bR)(i:Int)(t:gf):(fZ a w).is (.inl i) (.int i t)=ai:=RJ i t
def RQ(a:cx)(w:bR)(x:M)(t:gf):(fZ a w).is (.inr x) (.str x t)=ai:=RK x t
inductive V where
 |non|bl (b:Bool)|int (i:Int)|str (x:M)|byt (b:ae UInt8)|flt (b:UInt64)|ref (a:U)|ty (n:String)
 deriving DecidableEq
def RelV:V->D->Prop
 |.non,u=>u=kN
 |.bl b,u=>u=ji b
 |.int i,u=>∃t,u=ir i t
 |.str x,u=>∃t,u=Value.str x t
 |.byt b,u=>∃t,u=Om b t
 |.flt b,u=>∃t,u=Oo b t
 |.ref a,u=>u=cP a
 |.ty n,u=>u=iP n
abbrev J:aa V->aa D->Prop:=Paired RelV
def J.length{xs:aa V}{us:aa D}(r:J xs us):xs.length=us.length:=Paired.length r
def J.get:∀ {xs:aa V}{us:aa D}{i:Nat}{x:V},J xs us->xs[i]? =O x->∃u,us[i]? =O u/\RelV x u
 |_,_,_,_,.nil,e=>by simp at e
 |_,_,0,_,.cons r _,e=>by simp at e;subst e;exact#v[_,I,r]
 |_,_,i+1,x,.cons _ t,e=>by obtain⟨u,a,b⟩:=J.get (i:=i) (x:=x) t (by simpa using e);exact#v[u,by simpa using a,b]
def J.set{x:V}{u:D}(r:RelV x u):∀ {xs:aa V}{us:aa D}(i:Nat),J xs us->J (xs.set i x) (us.set i u)
 |_,_,_,.nil=>.nil
 |_,_,0,.cons _ t=>.cons r t
 |_,_,i+1,.cons a t=>.cons a (J.set r i t)
def J.append:∀ {xs b:aa V}{us a:aa D},J xs us->J b a->J (xs++b) (us++a)
 |_,_,_,_,.nil,s=>s
 |_,_,_,_,.cons r t,s=>.cons r (J.append t s)
def J.take:∀ {xs:aa V}{us:aa D}(n:Nat),J xs us->J (xs.take n) (us.take n)
 |_,_,0,_=>.nil
 |_,_,_+1,.nil=>.nil
 |_,_,n+1,.cons r t=>.cons r (J.take n t)
def J.drop:∀ {xs:aa V}{us:aa D}(n:Nat),J xs us->J (xs.drop n) (us.drop n)
 |_,_,0,r=>r
 |_,_,_+1,.nil=>.nil
 |_,_,n+1,.cons _ t=>J.drop n t
def J.none_of:∀ {xs:aa V}{us:aa D}{i:Nat},J xs us->xs[i]? =aj->us[i]? =aj:=λ{xs us i} r e=>by have a:=r.length;have b:xs.length<=i:=Oq.mp e;exact Oq.mpr ∅
def gO:ab V->ab D->Prop
 |some v,O u=>RelV v u
 |none,aj=>True
 |_,_=>False
def KV{a:Type}:aa (a×V)->aa (a×D)->Prop:=Paired λ(p:a×V)(b:a×D)=>p.1=b.1/\RelV p.2 b.2
def kV:bg->V
 |.inl i=>.int i
 |.inr x=>.str x
inductive HO where
 |lst (xs:aa V)
 |tup (xs:aa V)
 |dK (mG:aa (bg×V))|dT (mG:aa (aa bg×V))
 |set (S:Int->Bool) (n:Nat)
 |ins (C dx:U) (fs:aa (M×V))
 |own (x:U)
 |xd (fs:aa (M×V))
 |met (f x:U)
 |rng (lo hi:Int)
 |frz (o:a9) (u:HO)
 |tbl (ps:ae D)
 |ext (φ:aZ->Prop)
abbrev Hp:=U->ab HO
def Y(H:Hp)(a:U)(o:HO):Hp:=λb=>if b=a then O o else H b
def az{H:Hp}{a:U}{o:HO}:Y H a o a=O o:=by unfold Y;rw[aI I]
def aw{H:Hp}{a b:U}{o:HO}(h:b≠a):Y H a o b=H b:=by unfold Y;rw[aD h]
def eS{H:Hp}{a:U}{o u:HO}:Y (Y H a o) a u=Y H a u:=by funext b;unfold Y;split<;>rfl
def bC{H:Hp}{a b:U}{o u:HO}(h:H a=O o)(h':H b=O u)(d:o≠u):a≠b:=by intro e;subst e;rw[h]at h';exact d (aM h')
def bI{H:Hp}{a b:U}{o:HO}(h:H a=O o)(h':H b=aj):a≠b:=by intro e;subst e;rw[h]at h';cases h'
section
variable(P:cx)(w:bR)
def eT(H:Hp)(h:aZ)(a:U):HO->Prop
 |.lst xs=>xs.length<=bu/\∃(aH:aa D)(n:Nat),J xs aH/\h.get? a=O {cls:=.type "list",data:=.seq aH.toArray n}
 |.tup xs=>xs.length<=bu/\∃aH:aa D,J xs aH/\IsTup h a aH.toArray
 |.dK ag=>ag.length<=bu/\(a==iQ)=ax/\∃vs,KV ag vs/\h.DictOf (fZ P w) a vs
 |.dT ag=>ag.length<=bu/\(a==iQ)=ax/\∃xs:aa (aa bg×U×D),
   Paired (λ(p:aa bg×V)(d:aa bg×U×D)=>p.1=d.1/\H d.2.1=O (.tup (p.1.map kV))/\RelV p.2 d.2.2) ag xs/\
   ∃o g k,h.get? a=O o/\o.ExactDict/\o.data=.dict g k/\g.toList=xs.map (entryOfKey (r5 (fZ P w)))/\(xs.map (·.1)).Nodup
 |.set S n=>h.SetOf (intKind P w) a S n
 |.ins C dx c=>H dx=O (.own a)/\c.length<=1000/\dx≠a/\h.get? a=O (oY C dx)/\
   ∃b,h.Ns1 dx b/\(∀f,gO (c.lookup f) (b f))/\EA b (c.map (·.1))
 |.own _=>∃o,h.get? a=O o
 |.xd c=>∃b,h.Ns1 a b/\∀f,gO (c.lookup f) (b f)
 |.rng lo l=>∃t u v,h.get? a=O {cls:=.type "range",data:=.fields #[.int lo t,.int l u,.int 1 v]}
 |.frz o u=>h.get? a=O o/\eT H h a u
 |.tbl ps=>h.get? a=O {cls:=.none,data:=.fields ps}
 |.met f x=>h.get? a=O (EB (.ref f) (.ref x))
 |.ext e=>e h/\(∃o,h.get? a=O o)/\∀i j:aZ,e i->(∀o,i.get? a=O o->j.get? a=O o)->e j
def eu(H:Hp)(h:aZ):Prop:=∀a o,H a=O o->eT P w H h a o
end
section
variable{P:cx}{w:bR}{H H':Hp}{h h':aZ}{a:U}{o:HO}
def eT.lt(x:eT P w H h a o):a<h.objs.size:=by cases o with|lst xs=>(obtain⟨_,_,_,_,e⟩:=x;exact cJ e)|tup xs=>(obtain⟨_,_,_,p⟩:=x;exact p.lt)|dK ag=>(obtain⟨_,_,_,_,o,_,_,e,_⟩:=x;exact cJ e)|dT ag=>(obtain⟨_,_,_,_,o,_,_,e,_⟩:=x;exact cJ e)|set S n=>(obtain⟨o,_,_,_,e,_⟩:=x;exact cJ e)|ins C dx b=>(obtain⟨_,_,_,e,_⟩:=x;exact cJ e)|own c=>(obtain⟨_,e⟩:=x;exact cJ e)|xd b=>(obtain⟨_,⟨_,_,_,e,_⟩,_⟩:=x;exact cJ e)|rng lo d=>(obtain⟨_,_,_,e⟩:=x;exact cJ e)|frz g u=>(obtain⟨e,_⟩:=x;exact cJ e)|tbl ps=>exact cJ (show h.get? a=O _ from x)|met f c=>exact cJ (show h.get? a=O _ from x)|ext i=>obtain⟨_,⟨_,e⟩,_⟩:=x;exact cJ e
def Paired.BK{e g:Type}{F G:e->g->Prop}:∀ {c:aa e}{d:aa g},Paired F c d->(∀a b,F a b->G a b)->Paired G c d
 |_,_,.nil,_=>.nil
 |_,_,.cons r t,f=>.cons (f _ _ r) (Paired.BK t f)
def eT.lG(x:eT P w H h a o)(k:∀g u,(g=a\/H g=O (.own a))->h.get? g=O u->h'.get? g=O u)(B:∀g,H g=O (.own a)->H' g=O (.own a))(E:∀g xs,H g=O (.tup xs)->H' g=O (.tup xs)):eT P w H' h' a o:=by induction o with|lst xs=>(obtain⟨b,aH,n,r,e⟩:=x;exact⟨b,aH,n,r,k _ _ (.inl I) e⟩)|tup xs=>(obtain⟨b,aH,r,i,e,c⟩:=x;exact⟨b,aH,r,i,k _ _ (.inl I) e,c⟩)|dK ag=>(obtain⟨b,m,vs,r,i,l,j,e,c⟩:=x;exact⟨b,m,vs,r,i,l,j,k _ _ (.inl I) e,c⟩)|dT ag=>(obtain⟨b,m,xs,r,i,l,j,e,c⟩:=x;exact⟨b,m,xs,Paired.BK r λp q b=>⟨b.1,E _ _ b.2.1,b.2.2⟩,i,l,j,k _ _ (.inl I) e,c⟩)|set S n=>(obtain⟨i,l,j,t,e,c⟩:=x;exact⟨i,l,j,t,k _ _ (.inl I) e,c⟩)|ins C dx A=>(obtain⟨d,b,K,e,s,⟨y,l,j,z,c⟩,r⟩:=x;exact⟨B _ d,b,K,k _ _ (.inl I) e,s,⟨y,l,j,k _ _ (.inr d) z,c⟩,r⟩)|own m=>(obtain⟨i,e⟩:=x;exact⟨i,k _ _ (.inl I) e⟩)|xd A=>(obtain⟨s,⟨y,l,j,e,c⟩,r⟩:=x;exact⟨s,⟨y,l,j,k _ _ (.inl I) e,c⟩,r⟩)|rng lo L=>(obtain⟨t,u,v,e⟩:=x;exact⟨t,u,v,k _ _ (.inl I) e⟩)|frz i u J=>(obtain⟨e,q⟩:=x;exact⟨k _ _ (.inl I) e,J q⟩)|tbl ps=>have e:h.get? a=O {cls:=.none,data:=.fields ps}:=x;show h'.get? a=O {cls:=.none,data:=.fields ps};exact k a _ (.inl I) e|met f m=>have e:h.get? a=O (EB (.ref f) (.ref m)):=x;show h'.get? a=O (EB (.ref f) (.ref m));exact k a _ (.inl I) e|ext N=>obtain⟨p,⟨o,e⟩,st⟩:=x;exact#v[st _ _ p λo q=>k _ _ (.inl I) q,#v[o,k _ _ (.inl I) e],st]
def eu.lt(x:eu P w H h)(e:H a=O o):a<h.objs.size:=(x a o e).lt
def eu.fresh(x:eu P w H h)(e:h.objs.size<=a):H a=aj:=by cases b:H a with|none=>rfl|some u=>exact absurd (gc (x.lt b) e) (kb _)
def eu.kept(x:eu P w H h)(k:∀c u,h.get? c=O u->h'.get? c=O u):eu P w H h':=λa o e=>(x a o e).lG (λc u _ b=>k c u b) (λ_ b=>b) λ_ _ b=>b
def eu.laid(x:eu P w H h)(k:∀d u,h.get? d=O u->h'.get? d=O u)(i:h.objs.size<=a)(j:eT P w (Y H a o) h' a o):eu P w (Y H a o) h':=λd u e=>by have g:=x.fresh i;by_cases f:d=a;(subst f;rw[az]at e;cases e;exact j);rw[aw f]at e;exact(x d u e).lG (λc v _ b=>k c v b) (λc b=>by rw[aw (bI b g)];exact b) λc xs b=>by rw[aw (bI b g)];exact b
end
def Rd(H:Hp)(a:U)(u:HO):Prop:=H a=O u\/∃o,H a=O (.frz o u)
def Rd.ok{P:cx}{w:bR}{H:Hp}{h:aZ}{a:U}{u:HO}(r:Rd H a u)(x:eu P w H h):eT P w H h a u:=by rcases r with r|⟨o,r⟩;(exact x a u r);obtain⟨_,b⟩:=x a _ r;exact b
def mH:ab HO->Prop
 |some (.lst _)=>True
 |some (.dK _)=>True
 |some (.dT _)=>True
 |some (.set _ _)=>True
 |some (.ins _ _ _)=>True
 |some (.ext _)=>True
 |_=>False
section
variable{P:cx}{w:bR}{H:Hp}{h h':aZ}{x e:U}{o':HO}
def eu.write(ok:eu P w H h)(j:mH (H x))(l:e=x\/H e=O (.own x))(k:∀b u,b≠e->h.get? b=O u->h'.get? b=O u)(p:∃u,h'.get? e=O u)(s:eT P w (Y H x o') h' x o'):eu P w (Y H x o') h':=λb u d=>by(have m:∀c o,H c=O (.own o)->c≠x:=λc o r a=>by subst a;rw[r]at j;exact j);(have t:∀c xs,H c=O (.tup xs)->c≠x:=λc xs r a=>by subst a;rw[r]at j;exact j);by_cases f:b=x;(subst f;rw[az]at d;cases d;exact s);rw[aw f]at d;by_cases g:b=e;((have n:H b=O (.own x):=by rcases l with a|a;(exact absurd (g.trans a) f);rw[g];exact a);rw[d]at n;cases n;obtain⟨v,q⟩:=p;exact#v[v,by rw[g];exact q]);(refine(ok b u d).lG (λc v i r=>k c v ?_ r) (λc r=>by rw[aw (m c b r)];exact r) λc xs r=>by rw[aw (t c xs r)];exact r);rcases i with rfl|i;(exact g);rintro rfl;rcases l with a|a;(exact m c b i a);rw[i]at a;cases a;exact f I
end
structure Un(fs ex:aa U)(H H':Hp)(h h':aZ):Prop where
 keep:∀b o,h.get? b=O o->H b=aj->b∉fs->b∉ex->h'.get? b=O o
 slot:∀b o,h.get? b=O o->H b=aj->b∈fs->b∉ex->∃sl,h'.get? b=O {o with slots:=sl}
 free:∀b o,h.get? b=O o->H b=aj->b∉ex->H' b=aj
 there:∀b o,h.get? b=O o->b∉ex->∃o',h'.get? b=O o'
 pH:∀b xs,H b=O (.tup xs)->H' b=O (.tup xs)
 mI:∀b o u,H b=O (.frz o u)->H' b=O (.frz o u)
 pI:∀b ps,H b=O (.tbl ps)->∃more,H' b=O (.tbl (ps++more))
section
variable{fs abj ex abq:aa U}{H H1 H2:Hp}{h h1 h2 h':aZ}{a x e:U}{o:HO}
def Un.any(u:Un fs ex H H1 h h1){a:U}{b:a9}(e:h.get? a=O b)(n:H a=aj)(d:a∉ex):∃f,h1.get? a=O {b with slots:=f}:=by by_cases c:a∈fs;(exact u.slot a b e n c d);exact#v[b.slots,u.keep a b e n c d]
def Un.kept(k:∀b u,h.get? b=O u->h'.get? b=O u):Un fs ex H H h h':=#v[λb c a _ _ _=>k b c a,λb c a _ _ _=>#v[c.slots,k b c a],λ_ _ _ n _=>n,λb c a _=>#v[c,k b c a],λ_ _ a=>a,λ_ _ _ a=>a,λ_ ps a=>#v[#[],by rw[a];simp]]
def Un.refl:Un fs ex H H h h:=Un.kept λ_ _ a=>a
def Un.laid(k:∀c u,h.get? c=O u->h'.get? c=O u)(e:h.objs.size<=a)(d:H a=aj):Un fs ex H (Y H a o) h h' where
 keep:=λc u b _ _ _=>k c u b
 slot:=λc u b _ _ _=>#v[u.slots,k c u b]
 free:=λc u b n _=>by rw[aw (er (gc (cJ b) e))];exact n
 there:=λc u b _=>#v[u,k c u b]
 pH:=λc xs b=>by rw[aw (bI b d)];exact b
 mI:=λc u xs b=>by rw[aw (bI b d)];exact b
 pI:=λc ps b=>#v[#[],by rw[aw (bI b d),b];simp]
def Un.write(d:mH (H x))(l:e=x\/H e=O (.own x))(k:∀a u,a≠e->h.get? a=O u->h'.get? a=O u)(m:∃u,h'.get? e=O u):Un fs ex H (Y H x o) h h':=by
 have j:∀a,H a=aj->a≠x:=λa n c=>by subst c;rw[n]at d;exact d
 have g:∀a,H a=aj->a≠e:=λa n c=>by
  subst c;rcases l with r|r
  ·exact j a n r
  ·rw[n]at r;cases r
 have f:∀a u,H a=O u->¬mH (O u)->a≠x:=λa u b p c=>by subst c;rw[b]at d;exact p d
 refine⟨λa u b n _ _=>k a u (g a n) b,λa u b n _ _=>#v[u.slots,k a u (g a n) b],λa u b n _=>by rw[aw (j a n)];exact n,λa u b _=>?_,
  λa xs b=>by rw[aw (f a _ b λc=>c)];exact b,λa u xs b=>by rw[aw (f a _ b λc=>c)];exact b,λa ps b=>#v[#[],by rw[aw (f a _ b λc=>c),b];simp]⟩
 by_cases i:a=e
 ·subst i;exact m
 ·exact#v[u,k a u i b]
end
def vO(h:aZ)(H:Hp):aa U:=(bQ h.objs.size).filter λa=>(H a).isSome
def mJ(h:aZ)(H:Hp):aZ:=PySem.W.hideAll h (vO h H)
def RR(h:aZ)(H:Hp):(mJ h H).objs.size=h.objs.size:=PySem.W.hideAll_size _ _
def RS{h:aZ}{H:Hp}{a:U}{o:a9}(e:h.get? a=O o)(n:H a=aj):(mJ h H).get? a=O o:=PySem.W.hideAll_get _ e λc=>by have b:(H a).isSome=ai:=(c0.mp c).2;rw[n]at b;simp at b
def RT{h:aZ}{H:Hp}{a:U}{o:a9}(e:(mJ h H).get? a=O o):h.get? a=O o/\H a=aj:=by have b:h.get? a=O o:=PySem.W.of_hideAll (vO h H) e;refine#v[b,?_];cases d:H a with|none=>rfl|some x=>have c:a∈vO h H:=c0.mpr ⟨gu.mpr (cJ b),by simp[d]⟩;have f:(mJ h H).get? a=aj:=PySem.W.hideAll_none (vO h H) c;rw[f]at e;cases e
def RU(g h:aZ)(L:U):aa (U×a9):=(bQ h.objs.size).filterMap λa=>if a=L\/(g.get? a).isSome=ai then aj else(h.get? a).map λo=>(a,o)
def rest(g h:aZ)(L d:U):aa (U×a9):=(RU g h L).filter λp=>decide (p.1≠d)
structure Mod(K:bj)(mg:M->ab D)(base:aZ):Prop where
 qX:K.In base
 glob:base.Ns dA mg
 blt:∃mb,base.Ns EC mb/\∀x:M,x≠"__name__"->mb x=qv x
 nolimit:base.NoLimit
structure Cx where
 prog:cx
 w:bR
 K:bj
 mg:M->ab D
 base:aZ
 A:cQ
 N:aa M
 g6:au
 pJ:Hp
 env:fi
 outer:aa fi
 stack:aa fi
 ex:aa U
 fn:M->Bool
 calm:Bool
 pn:aa (U×a9)
 xe:D->au->Prop
def kY(l:aa fi):aa U:=l.filterMap (·.frame)
abbrev Cx.fs(X:Cx):aa U:=kY X.outer
def lH(a:fO)(x:M):Prop:=a.names.lookup x=O .local\/a.names.lookup x=O .cell\/a.names.lookup x=O .free
def Loc(a:fO)(x:M):Prop:=a.names.lookup x=O .local\/a.names.lookup x=O .cell
def Look(a:fi)(h:aZ)(m:M->ab D)(x:M)(u:D):Prop:=(a.kindOf x=O .local/\m x=O u)\/((a.kindOf x=O .cell\/a.kindOf x=O .free)/\∃c,a.cells.lookup x=O c/\h.IsCell c (O u))
structure Cx.Ok(X:Cx):Prop where
 mod:Mod X.K X.mg X.base
 kind:X.env.scope.kind=.function
 glob:X.env.globals=dA
 blt:X.env.builtins=EC
 above:X.g6.heap.objs.size<=X.env.locals
 inj:∀x y c,X.env.cells.lookup x=O c->X.env.cells.lookup y=O c->x=y
 has:∀x,(X.env.kindOf x=O .cell\/X.env.kindOf x=O .free)->∃c,X.env.cells.lookup x=O c
 sY:∀x c,X.fn x=ai->X.env.cells.lookup x=O c->X.g6.heap.objs.size<=c
 hd:X.calm=ai->X.A.handled=aj
 frames:X.A.frames=O X.stack
 vP:X.stack=X.outer\/(X.stack=X.env::X.outer/\X.env.frame=O X.env.locals)
 vQ:∀b∈X.ex,b≠X.env.locals/\∀x c,X.env.cells.lookup x=O c->c≠b
 bs:∀b o,X.base.get? b=O o->X.g6.heap.get? b=O o/\X.pJ b=aj
 lI:X.base.objs.size<=X.g6.heap.objs.size
 sZ:∀b o,X.base.get? b=O o->b∉X.ex
 s6:∀b∈X.ex,b∉X.fs
 kn:X.g6.heap.FunFrames X.base X.outer
 pK:∀b∈X.fs,X.pJ b=aj
structure Inv(X:Cx)(pins:aa (U×a9))(σ:aa (ab V))(H:Hp)(s:au):Prop where
 ok:X.Ok
 os:s.os=X.g6.os
 bare:qw s.gens
 base:Un X.fs X.ex X.pJ H X.g6.heap s.heap
 loc:∃m,s.heap.Ns X.env.locals m/\∀(i:Nat)(x:M)(v:V),X.N[i]? =O x->σ[i]? =O (O v)->lH X.env.scope x->∃u,RelV v u/\Look X.env s.heap m x u
 cell:∀x c,X.env.cells.lookup x=O c->∃v,s.heap.IsCell c v
 free:H X.env.locals=aj
 jt:∀x c,X.env.cells.lookup x=O c->H c=aj
 pin:∀p∈X.pn++pins,s.heap.get? p.1=O p.2/\H p.1=aj/\p.1≠X.env.locals/\p.1∉X.fs/\∀v,p.2.data≠ .cell v
 bA:eu X.prog X.w H s.heap
 len:σ.length=X.N.length
section
variable{X:Cx}{af:aa (U×a9)}{σ:aa (ab V)}{H H':Hp}{s:au}{h':aZ}
def Cx.Ok.RV(ok:X.Ok){a:U}{o:a9}(e:X.base.get? a=O o):a∉X.fs:=λb=>by have:=(ok.kn.mem b).1;rw[e]at this;cases this
def Inv.bs(b:Inv X af σ H s):∀a o,X.base.get? a=O o->s.heap.get? a=O o/\H a=aj:=λa o e=>#v[b.base.keep a o (b.ok.bs a o e).1 (b.ok.bs a o e).2 (b.ok.RV e) (b.ok.sZ a o e),b.base.free a o (b.ok.bs a o e).1 (b.ok.bs a o e).2 (b.ok.sZ a o e)]
def Inv.bk(b:Inv X af σ H s):∀a o,X.base.get? a=O o->s.heap.get? a=O o:=λa o e=>(b.bs a o e).1
def Inv.mod(a:Inv X af σ H s):Mod X.K X.mg X.base:=a.ok.mod
def Inv.g7(a:Inv X af σ H s):X.K.In s.heap:=a.ok.mod.qX.keeps a.bk
def Inv.fr(a:Inv X af σ H s):∃m,Fr X.base X.env.locals s.heap m:=let #v[m,b,_]:=a.loc
 #v[m,b,a.bk,dQ a.ok.lI a.ok.above]
def Inv.lt(a:Inv X af σ H s):X.env.locals<s.heap.objs.size:=let #v[_,b,_]:=a.loc;b.lt
def Inv.sz(a:Inv X af σ H s):X.g6.heap.objs.size<=s.heap.objs.size:=dQ a.ok.above (qm a.lt)
def Inv.RW(b:Inv X af σ H s){a:U}(h:s.heap.objs.size<=a):a∉X.fs:=λc=>by obtain⟨_,o,d,_⟩:=b.ok.kn.mem c;exact absurd (gc (cJ d) (dQ b.sz h)) (kb _)
def Inv.BL(a:Inv X af σ H s):∀x c,X.env.cells.lookup x=O c->c≠X.env.locals:=λx c e h=>by obtain⟨v,o,d,b⟩:=a.cell x c e;obtain⟨m,⟨_,_,_,g,f,_⟩,_⟩:=a.loc;rw[h,g]at d;cases d;rw[f]at b;cases b
def Inv.kn(a:Inv X af σ H s):s.heap.FunFrames X.base X.outer:=by(have all:∀(l:aa fi),(∀b∈kY l,b∈X.fs)->X.g6.heap.FunFrames X.base l->s.heap.FunFrames X.base l:=by intro l;induction l with|nil=>intro _ _;trivial|cons t r p=>intro g j;obtain⟨i,⟨L,o,f,k,m,h⟩,n⟩:=j;have c:L∈X.fs:=g L (by unfold kY;rw[jg,f];exact cc);obtain⟨_,e⟩:=a.base.slot L o m (a.ok.pK L c) c λq=>a.ok.s6 L q c;exact#v[i,#v[L,_,f,k,e,h],p (λb d=>g b (by unfold kY;rw[jg,f];exact cw _ d)) n]);exact all X.outer (λ_ d=>d) a.ok.kn
def Inv.stack(a:Inv X af σ H s):s.heap.FunFrames X.base X.stack:=by rcases a.ok.vP with e|⟨e,b⟩;(rw[e];exact a.kn);rw[e];obtain⟨m,c,_⟩:=a.loc;refine .cons (by rw[a.ok.kind];decide) b c ?_ a.kn;exact Heap.get?_none_of_le (dQ a.ok.lI a.ok.above)
def Inv.BN(c:Inv X af σ H s):∀b∈kY X.stack,b∈X.env.locals::X.fs:=λb a=>by rcases c.ok.vP with e|⟨e,d⟩;(rw[e]at a;exact cw _ a);rw[e]at a;unfold kY at a;rw[jg,d]at a;exact a
def Inv.GB(a:Inv X af σ H s):∀b∈kY X.stack,H b=aj:=λb c=>by rcases bL.mp (a.BN b c)with e|c;(rw[e];exact a.free);obtain⟨_,o,d,_⟩:=a.ok.kn.mem c;exact a.base.free b o d (a.ok.pK b c) λf=>a.ok.s6 b f c
def Inv.step{g':ae GenState}{t':Nat}{d':Drawn}{ch:aa U}(b:Inv X af σ H s)(w:∀a∈ch,(a∈X.ex\/X.g6.heap.objs.size<=a)/\a≠X.env.locals/\(∀x c,X.env.cells.lookup x=O c->c≠a)/\∀p∈X.pn++af,p.1≠a)(E:∀a o,a≠X.env.locals->a∉X.fs->a∉ch->s.heap.get? a=O o->H a=aj->h'.get? a=O o)(S:∀a o,a≠X.env.locals->a∈X.fs->a∉ch->s.heap.get? a=O o->H a=aj->∃J,h'.get? a=O {o with slots:=J})(A:∀a o,a∉ch->s.heap.get? a=O o->H a=aj->H' a=aj)(an:∀a o,a∉ch->s.heap.get? a=O o->∃z,h'.get? a=O z)(ao:∀a xs,H a=O (.tup xs)->H' a=O (.tup xs))(V:∀a o u,H a=O (.frz o u)->H' a=O (.frz o u))(am:∀a ps,H a=O (.tbl ps)->∃ah,H' a=O (.tbl (ps++ah)))(ns:∀m,s.heap.Ns X.env.locals m->h'.Ns X.env.locals m)(ac:eu X.prog X.w H' h')(W:qw g'):Inv X af σ H' {s with heap:=h',gens:=g',drawn:=d',toks:=t'}:=by(have Q:∀a o,X.g6.heap.get? a=O o->a≠X.env.locals:=λa o e=>er (gc (cJ e) b.ok.above);have B:∀a o,X.g6.heap.get? a=O o->a∉X.ex->a∉ch:=λa o e f j=>by rcases(w a j).1 with g|g;(exact f g);exact absurd (gc (cJ e) g) (kb _));(have K:∀x c,X.env.cells.lookup x=O c->∀v,s.heap.IsCell c v->h'.IsCell c v:=λx c e v⟨o,q,C⟩=>by have y:c∉ch:=λg=>(w c g).2.2.1 x c e I;by_cases L:c∈X.fs;(obtain⟨J,ak⟩:=S c o (b.BL x c e) L y q (b.jt x c e);exact#v[_,ak,C]);exact#v[o,E c o (b.BL x c e) L y q (b.jt x c e),C]);refine#v[b.ok,b.os,W,#v[λa o e n j f=>?_,λa o e n j f=>?_,λa o e n f=>?_,λa o e f=>?_,λa xs e=>ao a xs (b.base.pH a xs e),λa o xs e=>V a o xs (b.base.mI a o xs e),λa ps e=>?_],?_,λx c e=>?_,?_,λx c e=>?_,λp N=>?_,ac,b.len];(exact E a o (Q a o e) j (B a o e f) (b.base.keep a o e n j f) (b.base.free a o e n f));(obtain⟨J,h⟩:=b.base.slot a o e n j f;obtain⟨al,t⟩:=S a _ (Q a o e) j (B a o e f) h (b.base.free a o e n f);exact#v[al,t]);(obtain⟨z,h⟩:=b.base.there a o e f;exact A a z (B a o e f) h (b.base.free a o e n f));(obtain⟨z,h⟩:=b.base.there a o e f;exact an a z (B a o e f) h);(obtain⟨ad,h⟩:=b.base.pI a ps e;obtain⟨ag,t⟩:=am a _ h;exact#v[ad++ag,by rw[t,Array.append_assoc]]);(obtain⟨m,Z,Y⟩:=b.loc;refine#v[m,ns m Z,λi x v h t T=>?_];obtain⟨u,r,l⟩:=Y i x v h t T;refine#v[u,r,?_];rcases l with l|⟨k,c,e,g⟩;(exact .inl l);exact .inr #v[k,c,e,K x c e _ g]);(obtain⟨v,g⟩:=b.cell x c e;exact#v[v,K x c e v g]);(obtain⟨m,⟨o,_,_,q,_⟩,_⟩:=b.loc;exact A _ o (λg=>(w _ g).2.1 I) q b.free);(obtain⟨v,o,q,C⟩:=b.cell x c e;exact A c o (λg=>(w c g).2.2.1 x c e I) q (b.jt x c e));obtain⟨e,n,P,R,d⟩:=b.pin p N;have y:p.1∉ch:=λg=>(w p.1 g).2.2.2 p N I;exact#v[E p.1 p.2 P R y e n,A p.1 p.2 y e n,P,R,d]
def Inv.un{t':Nat}(b:Inv X af σ H s)(u:Un X.fs [] H H' s.heap h')(k:eu X.prog X.w H' h'):Inv X af σ H' {s with heap:=h',toks:=t'}:=by obtain⟨m,⟨o,_,_,d,r⟩,_⟩:=id b.loc;obtain⟨_,i⟩:=u.any d b.free (by simp);exact b.step (g':=s.gens) (d':=s.drawn) (ch:=[]) (λ_ p=>nomatch p) (λa o _ c _ e n=>u.keep a o e n c (by simp)) (λa o _ c _ e n=>u.slot a o e n c (by simp)) (λa o _ e n=>u.free a o e n (by simp)) (λa o _ e=>u.there a o e (by simp)) u.pH u.mI u.pI (λ_ j=>by obtain⟨_,h,g,f,l⟩:=j;rw[d]at f;cases f;exact#v[_,h,g,i,l]) k b.bare
def Inv.call{g':ae GenState}{t':Nat}{d':Drawn}{ch:aa U}(d:Inv X af σ H s)(u:Un (kY X.stack) ch H H' s.heap h')(w:eu X.prog X.w H' h')(t:qw g')(h:∀a∈ch,(a∈X.ex\/X.g6.heap.objs.size<=a)/\a≠X.env.locals/\(∀x c,X.env.cells.lookup x=O c->c≠a)/\∀p∈X.pn++af,p.1≠a):Inv X af σ H' {s with heap:=h',gens:=g',drawn:=d',toks:=t'}:=by obtain⟨m,⟨o,_,_,i,r⟩,_⟩:=id d.loc;obtain⟨_,f⟩:=u.any i d.free λg=>(h _ g).2.1 I;exact d.step (ch:=ch) h (λa o f q b e n=>u.keep a o e n (λg=>(bL.mp (d.BN a g)).elim f q) b) (λa o _ _ b e n=>u.any e n b) (λa o b e n=>u.free a o e n b) (λa o b e=>u.there a o e b) u.pH u.mI u.pI (λ_ v=>by obtain⟨_,l,k,j,y⟩:=v;rw[i]at j;cases j;exact#v[_,l,k,f,y]) w t
def Inv.turned{t':Nat}{d:U}(h:Inv X af σ H s)(k:∀a o,a≠d->s.heap.get? a=O o->h'.get? a=O o)(B:H d=aj)(i:d≠X.env.locals)(t:d∈X.ex\/X.g6.heap.objs.size<=d)(w:∀x c,X.env.cells.lookup x=O c->c≠d)(y:∀p∈X.pn++af,p.1≠d):Inv X af σ H {s with heap:=h',toks:=t'}:=by(have j:∀a u,H a=O u->a≠d:=λa u e b=>by rw[b,B]at e;cases e);refine h.step (g':=s.gens) (d':=s.drawn) (ch:=[d]) (λa z=>?_) (λa o _ _ f e _=>k a o (λb=>f (by simp[b])) e) (λa o _ _ f e _=>#v[o.slots,k a o (λb=>f (by simp[b])) e]) (λ_ _ _ _ n=>n) (λa o f e=>#v[o,k a o (λb=>f (by simp[b])) e]) (λ_ _ e=>e) (λ_ _ _ e=>e) (λa ps e=>#v[#[],by rw[e];simp]) (λm A=>?_) (λa u e=>?_) h.bare;(have e:a=d:=(by simpa using z);subst e;exact#v[t,i,w,y]);(obtain⟨o,q,l,C,r⟩:=A;exact#v[o,q,l,k _ o (Ne.symm i) C,r]);(refine(h.bA a u e).lG (λc v f g=>k c v ?_ g) (λ_ g=>g) λ_ _ g=>g;rcases f with b|b);(rw[b];exact j a u e);exact j c _ b
def Inv.tok(a:Inv X af σ H s)(t:Nat):Inv X af σ H {s with toks:=t}:=a.un (h':=s.heap) (t':=t) Un.refl a.bA
def Inv.kept{t':Nat}(a:Inv X af σ H s)(k:∀b u,s.heap.get? b=O u->h'.get? b=O u):Inv X af σ H {s with heap:=h',toks:=t'}:=a.un (Un.kept k) (a.bA.kept k)
def Inv.laid{a:U}{o:HO}{t':Nat}(b:Inv X af σ H s)(k:∀d u,s.heap.get? d=O u->h'.get? d=O u)(c:s.heap.objs.size<=a)(e:eT X.prog X.w (Y H a o) h' a o):Inv X af σ (Y H a o) {s with heap:=h',toks:=t'}:=b.un (Un.laid k c (b.bA.fresh c)) (b.bA.laid k c e)
def Inv.write{x e:U}{o:HO}{t':Nat}(b:Inv X af σ H s)(f:mH (H x))(c:e=x\/H e=O (.own x))(k:∀a u,a≠e->s.heap.get? a=O u->h'.get? a=O u)(d:∃u,h'.get? e=O u)(g:eT X.prog X.w (Y H x o) h' x o):Inv X af σ (Y H x o) {s with heap:=h',toks:=t'}:=b.un (Un.write f c k d) (b.bA.write f c k d g)
def Inv.weak{b:aa (ab V)}(a:Inv X af σ H s)(f:b.length=σ.length)(w:∀(i:Nat) v,b[i]? =O (O v)->σ[i]? =O (O v)):Inv X af b H s:=#v[a.ok,a.os,a.bare,a.base,let #v[m,h,g]:=a.loc;#v[m,h,λi x v c d e=>g i x v c (w i v d) e],a.cell,a.free,a.jt,a.pin,a.bA,f.trans a.len]
def Inv.GC{b:aa (U×a9)}(a:Inv X af σ H s)(h:∀p∈b,s.heap.get? p.1=O p.2/\H p.1=aj/\p.1≠X.env.locals/\p.1∉X.fs/\∀v,p.2.data≠ .cell v):Inv X b σ H s:=#v[a.ok,a.os,a.bare,a.base,a.loc,a.cell,a.free,a.jt,λp c=>(dh.mp c).elim (λd=>a.pin p (j_ _ d)) (h p),a.bA,a.len]
def BP{b:aa M}(f:b.Nodup){i j:Nat}{x:M}(a:b[i]? =O x)(c:b[j]? =O x):i=j:=by obtain⟨_,d⟩:=cM.mp a;obtain⟨_,e⟩:=cM.mp c;exact(Ot f).mp (d.trans e.symm)
def GD{ay:r6}{A:cQ}{E:D->au->Prop}{i:Nat}{x:M}{v:V}{u:D}{al:Unit->au->Prop}(b:Inv X af σ H s)(am:X.N.Nodup)(L:X.N[i]? =O x)(t:Loc X.env.scope x)(r:RelV v u)(h:∀s',Inv X af (σ.set i (O v)) H s'->(∃a,l9 a s.heap s'.heap/\(a=X.env.locals\/X.env.cells.lookup x=O a))->al () s')(aC:X.fn x=ai\/X.env.scope.names.lookup x=O .local:=by first|exact .inl rfl|exact .inr rfl|assumption):aG ay A (storeName X.env x u) al E s:=by(obtain⟨m,W,ar⟩:=id b.loc;have aA:(X.env.scope.kind==.class||(X.env.scope.kind==.module&&X.env.locals !=X.env.globals))=ax:=by rw[b.ok.kind];rfl);(have aq:i<σ.length:=by rw[b.len];exact(cM.mp L).1);(have R:=b.BL;have aw:∀ {a:U}{h':aZ},(∃o,s.heap.get? a=O o/\H a=aj)->l9 a s.heap h'->eu X.prog X.w H h':=λ{a h'} az f g aI e=>by obtain⟨_,_,ap⟩:=az;refine(b.bA g aI e).lG (λc Q q w=>(f.2 c ?_).trans w) (λ_ w=>w) λ_ _ w=>w;rintro rfl;rcases q with rfl|q;(rw[ap]at e;cases e);rw[ap]at q;cases q);rcases t with C|C;(refine wpAny_storeName_local C W (λh' aD f=>?_) aA;obtain⟨aH,_,_,aE,_⟩:=id W;refine h _ #v[b.ok,b.os,b.bare,#v[λg o e n J t=>?_,λg o e n J t=>?_,b.base.free,λg o e t=>?_,b.base.pH,b.base.mI,b.base.pI],#v[_,aD,λj y ak l B S=>?_],λy c e=>?_,b.free,b.jt,λp Y=>?_,aw #v[aH,aE,b.free] f,by simpa using b.len] #v[_,f,.inl I];(exact(f.2 g (er (gc (cJ e) b.ok.above))).trans (b.base.keep g o e n J t));(obtain⟨ag,l⟩:=b.base.slot g o e n J t;exact#v[ag,(f.2 g (er (gc (cJ e) b.ok.above))).trans l]);(obtain⟨ac,l⟩:=b.base.there g o e t;exact#v[ac,(f.2 g (er (gc (cJ e) b.ok.above))).trans l]);(by_cases K:j=i;(subst K;rw[L]at l;cases l;rw[z9 aq]at B;cases B;exact#v[u,r,.inl #v[C,by simp]]);(rw[z_ (Ne.symm K)]at B;obtain⟨ah,ad,w⟩:=ar j y ak l B S;refine#v[ah,ad,?_];rcases w with⟨k,e⟩|⟨k,c,e,z⟩);(refine .inl #v[k,?_];have:y≠x:=λe=>K (BP am l (e▸L));simp[this,e]);exact .inr #v[k,c,e,z.sameBut f (R y c e)]);(obtain⟨Q,z⟩:=b.cell y c e;exact#v[Q,z.sameBut f (R y c e)]);obtain⟨e,n,P,Z,d⟩:=b.pin p Y;exact#v[(f.2 p.1 P).trans e,n,P,Z,d]);(have T:X.fn x=ai:=by rcases aC with z|z;(exact z);rw[z]at C;cases C);obtain⟨c,q⟩:=b.ok.has x (.inl C);obtain⟨Q,z⟩:=b.cell x c q;refine wpAny_storeName_cell b.ok.kind C q z (λh' an f=>?_);obtain⟨av,as,aF⟩:=id z;refine h {s with heap:=h'} #v[b.ok,b.os,b.bare,#v[λg o e n J t=>?_,λg o e n J t=>?_,b.base.free,λg o e t=>?_,b.base.pH,b.base.mI,b.base.pI],#v[m,W.sameBut f (Ne.symm (R x c q)),λj y ak l B S=>?_],λy N e=>?_,b.free,b.jt,λp Y=>?_,aw #v[av,as,b.jt x c q] f,by simpa using b.len] #v[c,f,.inr q];(exact(f.2 g (er (gc (cJ e) (b.ok.sY x c T q)))).trans (b.base.keep g o e n J t));(obtain⟨ag,l⟩:=b.base.slot g o e n J t;exact#v[ag,(f.2 g (er (gc (cJ e) (b.ok.sY x c T q)))).trans l]);(obtain⟨ac,l⟩:=b.base.there g o e t;exact#v[ac,(f.2 g (er (gc (cJ e) (b.ok.sY x c T q)))).trans l]);(by_cases K:j=i;(subst K;rw[L]at l;cases l;rw[z9 aq]at B;cases B;exact#v[u,r,.inr #v[.inl C,c,q,an]]);(rw[z_ (Ne.symm K)]at B;obtain⟨ah,ad,w⟩:=ar j y ak l B S;refine#v[ah,ad,?_];rcases w with w|⟨k,N,e,aL⟩);(exact .inl w);refine .inr #v[k,N,e,aL.sameBut f ?_];rintro rfl;exact K (BP am l (b.ok.inj _ _ _ e q▸L)));(by_cases ao:N=c;(subst ao;exact#v[_,an]);obtain⟨aK,aN⟩:=b.cell y N e;exact#v[aK,aN.sameBut f ao]);obtain⟨e,n,P,Z,d⟩:=b.pin p Y;refine#v[(f.2 p.1 ?_).trans e,n,P,Z,d];intro w;rw[w,as]at e;have aJ:av=p.2:=aM e;exact d Q (by rw[<-aJ];exact aF)
def GF{d:r6}{A:cQ}{E:D->au->Prop}{i:Nat}{x:M}{v:V}{u:D}{a:Unit->au->Prop}(b:Inv X af σ H s)(e:X.N.Nodup)(g:X.N[i]? =O x)(j:Loc X.env.scope x)(r:RelV v u)(h:∀s',Inv X af (σ.set i (O v)) H s'->a () s')(f:X.fn x=ai\/X.env.scope.names.lookup x=O .local:=by first|exact .inl rfl|exact .inr rfl|assumption):aG d A (storeName X.env x u) a E s:=GD b e g j r (λs' c _=>h s' c) f
def Inv.RX{s':au}{ch:aa U}(b:Inv X af σ H s)(g:s'.os=s.os)(u:Un (kY X.stack) ch H H' s.heap s'.heap)(h:eu X.prog X.w H' s'.heap)(f:qw s'.gens)(d:∀a∈ch,(a∈X.ex\/X.g6.heap.objs.size<=a)/\a≠X.env.locals/\(∀x c,X.env.cells.lookup x=O c->c≠a)/\∀p∈X.pn++af,p.1≠a):Inv X af σ H' s':=by obtain⟨h',g',d',t',i⟩:=s';have e:i=s.os:=g;subst e;exact b.call (g':=g') (t':=t') (d':=d') u h f d
end
abbrev XK:=D->ab U->Hp->Prop
abbrev St:=aa (ab V)
abbrev VK:=V->Hp->Prop
abbrev TE:=St->Hp->VK->Prop
abbrev TT:=St->Hp->(Bool->Hp->Prop)->Prop
abbrev TA:=St->Hp->(aa V->Hp->Prop)->Prop
structure kI where
 nx:St->Hp->Prop
 rt:VK
 bk:St->Hp->Prop:=λ_ _=>False
 ct:St->Hp->Prop:=λ_ _=>False
abbrev TS:=kI->St->Hp->Prop
inductive EP(X:Cx)(pins:aa (U×a9))(σ:St)(Q:VK)(u:D)(s':au):Prop|mk(v:V)(H':Hp)(i:Inv X pins σ H' s')(r:RelV v u)(q:Q v H')
def TP(X:Cx)(af:aa (U×a9))(d:St)(b:Bool->Hp->Prop)(c:Bool)(s':au):Prop:=∃a,Inv X af d a s'/\b c a
inductive AP(X:Cx)(pins:aa (U×a9))(σ:St)(Q:aa V->Hp->Prop)(us:aa D)(s':au):Prop|mk(vs:aa V)(H':Hp)(i:Inv X pins σ H' s')(r:J vs us)(q:Q vs H')
def SP(X:Cx)(af:aa (U×a9))(c:kI)(f:Flow)(s':au):Prop:=match f with
 |.next=>∃b a,Inv X af b a s'/\c.nx b a
 |.brk=>∃b a,Inv X af b a s'/\c.bk b a
 |.cont=>∃b a,Inv X af b a s'/\c.ct b a
 |.ret u=>∃v b a,Inv X af b a s'/\RelV v u/\c.rt v a
def PE(X:Cx)(e:bx)(t:TE):Prop:=∀(af:aa (U×a9))(s:au)(a:St)(H:Hp)(b:VK),Inv X af a H s->t a H b->aG (aU X.prog X.w) X.A (bU e X.env) (EP X af a b) X.xe s
def PT(X:Cx)(e:bx)(t:TT):Prop:=∀(af:aa (U×a9))(s:au)(a:St)(H:Hp)(b:Bool->Hp->Prop),Inv X af a H s->t a H b->aG (aU X.prog X.w) X.A (uS e X.env (bU e X.env)) (TP X af a b) X.xe s
def PW(X:Cx)(e:bx)(t:TT):Prop:=∀(whole:gg D)(af:aa (U×a9))(s:au)(a:St)(H:Hp)(b:Bool->Hp->Prop),Inv X af a H s->t a H b->aG (aU X.prog X.w) X.A (uS e X.env whole) (TP X af a b) X.xe s
def PW.pt{X:Cx}{e:bx}{t:TT}(h:PW X e t):PT X e t:=h _
def PA(X:Cx)(c:aa bx)(t:TA):Prop:=∀(d:c7)(af:aa (U×a9))(s:au)(a:St)(H:Hp)(b:aa V->Hp->Prop),Inv X af a H s->t a H b->aG (aU X.prog X.w) X.A (spliced (fF d (cu c X.env))) (AP X af a b) X.xe s
def PS(X:Cx)(st:a_)(t:TS):Prop:=∀(af:aa (U×a9))(s:au)(b:St)(H:Hp)(a:kI),Inv X af b H s->t a b H->aG (aU X.prog X.w) X.A (exec st X.env) (SP X af a) X.xe s
def iG(X:Cx)(st:aa a_)(t:TS):Prop:=∀(af:aa (U×a9))(s:au)(b:St)(H:Hp)(a:kI),Inv X af b H s->t a b H->aG (aU X.prog X.w) X.A (execs st X.env) (SP X af a) X.xe s
def S{e:Type}{t:gg e}{c d:e->au->Prop}{b:r6}{A:cQ}{E:D->au->Prop}{s:au}(h:aG b A t c E s)(f:∀a s,c a s->d a s):aG b A t d E s:=kc h f λ_ _ x=>x
section
variable{X:Cx}
def s7(b:St)(i:Nat)(a:V->Prop):Prop:=match b[i]?with
 |some (O v)=>a v
 |_=>False
def s7.out{b:St}{i:Nat}{a:V->Prop}(h:s7 b i a):∃v,b[i]? =O (O v)/\a v:=by unfold s7 at h;split at h;(exact#v[_,by assumption,h]);exact h.elim
def b8(i:Nat):TE:=λb H a=>s7 b i λv=>a v H
def tC(v:V):TE:=λ_ H a=>a v H
def qY{i:Nat}{x:M}{y:c7}(n:X.N[i]? =O x)(w:lH X.env.scope x)(f:(x==("__debug__":M))=ax:=by decide)(o:(x==("__classdict__":M))=ax:=by decide):PE X (.Name x y) (b8 i):=by(intro af s z H k b h;obtain⟨v,e,h⟩:=h.out;obtain⟨m,t,p⟩:=b.loc;obtain⟨u,r,l⟩:=p i x v n e w;have d:EP X af z k u s:=#v[v,H,b,r,h];rcases l with⟨a,q⟩|⟨a,c,g,j⟩);(exact EE (wpAny_loadName_local b.ok.kind a t q d) f);rcases a with a|a;(exact EE (wpAny_loadName_cell b.ok.kind a g j d) f);exact EE (wpAny_loadName_free b.ok.kind a g j d o) f
def bS{i j b}:PE X (.Constant (.int i) j b) (tC (.int i)):=λ_ _ _ H _ a h=>wpAny_Constant_int #v[.int i,H,a.tok _,#v[_,I],h]
def mK{a j c}:PE X (.Constant (.bool a) j c) (tC (.bl a)):=λ_ _ _ H _ b h=>Constant_bool #v[.bl a,H,b,I,h]
def Gl(X:Cx)(x:M):Prop:=X.env.kindOf x=O .globalImplicit
def vR{E:D->au->Prop}{af:aa (U×a9)}{s:au}{g:St}{H:Hp}{x:M}{u:D}{f:c7}{b:D->au->Prop}(a:Inv X af g H s)(d:Gl X x)(e:X.mg x=O u)(h:b u s)(c:(x==("__debug__":M))=ax:=by decide):aG (aU X.prog X.w) X.A (bU (.Name x f) X.env) b E s:=Ou a.ok.kind d (Calls.loadGlobal_global (by rw[a.ok.glob];exact a.mod.glob.keeps a.bk) e h) c
def kZ{E:D->au->Prop}{af:aa (U×a9)}{s:au}{l:St}{H:Hp}{x:M}{u:D}{k:c7}{b:D->au->Prop}(a:Inv X af l H s)(f:Gl X x)(g:X.mg x=aj)(j:qv x=O u)(h:b u s)(i:x≠"__name__":=by decide)(e:(x==("__debug__":M))=ax:=by decide):aG (aU X.prog X.w) X.A (bU (.Name x k) X.env) b E s:=by obtain⟨_,c,d⟩:=a.mod.blt;exact Ou a.ok.kind f (Calls.loadGlobal_builtin (by rw[a.ok.glob];exact a.mod.glob.keeps a.bk) g (by rw[a.ok.blt];exact c.keeps a.bk) ((d x i).trans j) h) e
def s8{x:M}{v:V}{u:D}{e:c7}(c:Gl X x)(d:X.mg x=O u)(r:RelV v u)(b:(x==("__debug__":M))=ax:=by decide):PE X (.Name x e) (tC v):=λ_ _ _ H _ a h=>vR a c d #v[v,H,a,r,h] b
variable{a b:bx}{ta tb:TE}{a8:c7}
def PC(X:Cx)(e:qx)(a b:bx)(t:TE):Prop:=∀(af:aa (U×a9))(s:au)(c:St)(H:Hp)(d:VK),Inv X af c H s->t c H d->aG (aU X.prog X.w) X.A (bU a X.env) (λv f=>aG (aU X.prog X.w) X.A (bU b X.env) (λu g=>aG (aU X.prog X.w) X.A (kO e v u) (EP X af c d) X.xe g) X.xe f) X.xe s
def RY(b:bx){a:qx}(h:a≠ .In)(e:a≠ .NotIn):qy a b=ax:=by(have c:(a==CmpOp.In)=ax:=by cases a<;>first|rfl|exact absurd rfl h);(have d:(a==Ov)=ax:=by cases a<;>first|rfl|exact absurd rfl e);cases b<;>simp[qy,c,d]
inductive GG(x:V)(Q:Bool->Prop):Prop|mk(k:Bool)(e:x=.bl k)(q:Q k)
def tB(t:TE):TT:=λb H a=>t b H λx H1=>GG x λc=>a c H1
def BQ{f:qx}{t:TE}(h:PC X f a b t)(e:qy f b=ax:=by first|exact RY _ (by decide) (by decide)|rfl):PT X (.Compare a [f] [b] a8) (tB t):=by intro af s o H _ g k;refine Ow (S (h af s o H _ g k) λv _ e=>S e λu _ j=>S j λc _⟨x,H1,i,n,m⟩=>?_) e;obtain⟨d,rfl,l⟩:=m;cases n;exact nJ #v[H1,i,l]
def gP{e:bx}{t:TE}(h:PE X e t)(c:∀whole,uS e X.env whole=(do let v<-whole;qz e.pos;l_ [v] (truthy v)):=by intro _;rfl):PT X e (tB t):=by intro af s k H _ a f;refine isTrue_plain (S (h af s k H _ a f) λv _⟨x,H1,b,j,i⟩=>?_) (c _);obtain⟨d,rfl,g⟩:=i;cases j;exact nJ #v[H1,b,g]
variable{tA Bh:TT}{rest:aa bx}
def BR(t u:TT):TT:=λb H a=>t b H λc H1=>if c=ai then u b H1 a else a ax H1
def RZ(t u:TT):TT:=λb H a=>t b H λc H1=>if c=ai then a ai H1 else u b H1 a
def GH(t:TT):TT:=λb H a=>t b H λc H1=>a (!c) H1
def vS(f:PT X a tA):PW X (.BoolOp .And [a] a8) tA:=by intro _ af s g H d b h;refine isTrue_and (S (f af s g H d b h) λc _ e=>?_);cases c with|true=>exact isTrue_and_nil e|false=>exact e
def mL(f:PT X a tA):PW X (.BoolOp .Or [a] a8) tA:=by intro _ af s g H d b h;refine isTrue_or (S (f af s g H d b h) λc _ e=>?_);cases c with|false=>exact isTrue_or_nil e|true=>exact e
def vT(j:PT X a tA)(k:PW X (.BoolOp .And (b::rest) a8) Bh):PW X (.BoolOp .And (a::b::rest) a8) (BR tA Bh):=by intro m af s f H i g h;refine isTrue_and (S (j af s f H _ g h) λc l⟨H1,d,e⟩=>?_);cases c with|true=>exact k m af l f H1 i d e|false=>exact⟨H1,d,e⟩
def lJ(j:PT X a tA)(k:PW X (.BoolOp .Or (b::rest) a8) Bh):PW X (.BoolOp .Or (a::b::rest) a8) (RZ tA Bh):=by intro m af s f H i g h;refine isTrue_or (S (j af s f H _ g h) λc l⟨H1,d,e⟩=>?_);cases c with|true=>exact⟨H1,d,e⟩|false=>exact k m af l f H1 i d e
def k0(e:PT X a tA):PT X (.UnaryOp .Not a a8) (GH tA):=by intro af s f H d b h;exact isTrue_not (e af s f H (λc H1=>d (!c) H1) b h)
def R0(ta tb:TE):TE:=λb H a=>ta b H λx H1=>∃c,x=.bl c/\if c=ai then tb b H1 a else a (.bl ax) H1
def R1(ta tb:TE):TE:=λb H a=>ta b H λx H1=>∃c,x=.bl c/\if c=ai then a (.bl ai) H1 else tb b H1 a
def R3(ta:TE):TE:=λb H a=>ta b H λx H1=>∃c,x=.bl c/\a (.bl (!c)) H1
def s9{e}{t:TE}(h:PE X a t):PE X (.BoolOp e [a] a8) t:=λaf s f H c b d=>BoolOp_one (h af s f H c b d)
def R5(j:PE X a ta)(k:PE X (.BoolOp .And (b::rest) a8) tb):PE X (.BoolOp .And (a::b::rest) a8) (R0 ta tb):=by intro af s f H i g h;refine BoolOp_and (S (j af s f H _ g h) λv m⟨x,H1,e,l,d⟩=>?_);obtain⟨c,rfl,d⟩:=d;cases l;refine nJ ?_;cases c with|true=>exact k af m f H1 i e d|false=>exact⟨.bl ax,H1,e,I,d⟩
def vU(j:PE X a ta)(k:PE X (.BoolOp .Or (b::rest) a8) tb):PE X (.BoolOp .Or (a::b::rest) a8) (R1 ta tb):=by intro af s f H i g h;refine BoolOp_or (S (j af s f H _ g h) λv m⟨x,H1,e,l,d⟩=>?_);obtain⟨c,rfl,d⟩:=d;cases l;refine nJ ?_;cases c with|false=>exact k af m f H1 i e d|true=>exact⟨.bl ai,H1,e,I,d⟩
def BS(f:PE X a ta):PE X (.UnaryOp .Not a a8) (R3 ta):=by intro af s i H _ d h;refine UnaryOp_ (S (f af s i H _ d h) λv _⟨x,H1,e,g,b⟩=>?_);obtain⟨c,rfl,b⟩:=b;cases g;exact not_of (nJ #v[.bl (!c),H1,e,I,b])
def GI(t:TT)(ta tb:TE):TE:=λa H b=>t a H λc H1=>if c=ai then ta a H1 b else tb a H1 b
def s_{c:bx}(n:PT X c tA)(l:PE X a ta)(m:PE X b tb):PE X (.IfExp c a b a8) (GI tA ta tb):=by intro af s e H g k h;refine wpAny_IfExp (S (n af s e H _ k h) λd j⟨H1,f,i⟩=>?_);cases d with|true=>exact l af j e H1 g f i|false=>exact m af j e H1 g f i
end
def aA(K:bj)(H:Hp)(a:U)(xs:aa V):Prop:=Rd H a (.lst xs)\/∃(o:a9)(aH:ae D)(n:Nat),K.lookup a=O o/\o.cls=.type "list"/\o.dict=aj/\o.data=.seq aH n/\aH.size<=bu/\J xs aH.toList
def dH(K:bj)(H:Hp)(a:U)(xs:aa V):Prop:=Rd H a (.tup xs)\/∃(o:a9)(aH:ae D)(n:Nat),K.lookup a=O o/\o.cls=.type "tuple"/\o.data=.seq aH n/\aH.size<=bu/\J xs aH.toList
def R6:D->ab V
 |.none=>O .non
 |.bool b=>O (.bl b)
 |.int i _=>O (.int i)
 |.str x _=>O (.str x)
 |.bytes b _=>O (.byt b)
 |.float b _=>O (.flt b)
 |.ref a=>O (.ref a)
 |.type n=>O (.ty n)
 |_=>aj
def RelV.abs{x:V}{u:D}(r:RelV x u):R6 u=O x:=by cases x with|non=>cases r;rfl|bl _=>cases r;rfl|int _=>(obtain⟨t,rfl⟩:=r;rfl)|str _=>(obtain⟨t,rfl⟩:=r;rfl)|byt _=>(obtain⟨t,rfl⟩:=r;rfl)|flt _=>(obtain⟨t,rfl⟩:=r;rfl)|ref _=>cases r;rfl|ty _=>cases r;rfl
def RelV.inj{x a:V}{u:D}(r:RelV x u)(b:RelV a u):x=a:=aM (r.abs.symm.trans b.abs)
def J.inj:∀ {xs a:aa V}{us:aa D},J xs us->J a us->xs=a
 |_,_,_,.nil,.nil=>rfl
 |_,_,_,.cons r t,.cons b t'=>by rw[r.inj b,J.inj t t']
section
variable{X:Cx}{af:aa (U×a9)}{σ:St}{H:Hp}{s:au}{a:U}{xs ys:aa V}
def aA.of{K:bj}(h:H a=O (.lst xs)):aA K H a xs:=.inl (.inl h)
def dH.of{K:bj}(h:H a=O (.tup xs)):dH K H a xs:=.inl (.inl h)
def Inv.list(b:Inv X af σ H s)(h:aA X.K H a xs):∃aH:aa D,J xs aH/\PlainL s.heap a aH.toArray/\xs.length<=bu:=by rcases h with h|⟨o,aH,n,f,c,d,g,_,r⟩;(obtain⟨i,aH,n,r,e⟩:=h.ok b.bA;exact#v[aH,r,#v[_,n,e,I,I,I],i]);refine#v[aH.toList,r,#v[o,n,b.g7 a o f,c,d,by simpa using g],?_];have e:=r.length;simp only[e9]at e;lia
def Inv.tuple(b:Inv X af σ H s)(h:dH X.K H a xs):∃aH:aa D,J xs aH/\IsTup s.heap a aH.toArray/\xs.length<=bu:=by rcases h with h|⟨o,aH,n,d,c,f,_,r⟩;(obtain⟨g,aH,r,p⟩:=h.ok b.bA;exact#v[aH,r,p,g]);refine#v[aH.toList,r,#v[o,b.g7 a o d,c,n,by simpa using f],?_];have e:=r.length;simp only[e9]at e;lia
def Inv.GJ(b:Inv X af σ H s)(h:aA X.K H a xs)(h':aA X.K H a ys):xs=ys:=by(obtain⟨aH,r,⟨o,n,e,_,_,d⟩,_⟩:=b.list h;obtain⟨iU,g,⟨_,_,c,_,_,d'⟩,_⟩:=b.list h';rw[e]at c;cases c;rw[d]at d';injection d' with f _;have:aH=iU:=by simpa using dR Ox f);subst this;exact r.inj g
end
abbrev Cx.lK(X:Cx)(E:D->au->Prop):Cx:={X with xe:=E}
abbrev Cx.tf(X:Cx):Cx:=X.lK λ_ _=>False
def Cx.Ok.lK{X:Cx}(ok:X.Ok)(E:D->au->Prop):(X.lK E).Ok:=#v[ok.mod,ok.kind,ok.glob,ok.blt,ok.above,ok.inj,ok.has,ok.sY,ok.hd,ok.frames,ok.vP,ok.vQ,ok.bs,ok.lI,ok.sZ,ok.s6,ok.kn,ok.pK]
def Cx.Ok.n4{X:Cx}{E:D->au->Prop}(ok:(X.lK E).Ok):X.Ok:=#v[ok.mod,ok.kind,ok.glob,ok.blt,ok.above,ok.inj,ok.has,ok.sY,ok.hd,ok.frames,ok.vP,ok.vQ,ok.bs,ok.lI,ok.sZ,ok.s6,ok.kn,ok.pK]
section
variable{X:Cx}{af:aa (U×a9)}{σ:St}{H:Hp}{s:au}{E:D->au->Prop}
def Inv.lK(a:Inv X af σ H s)(E:D->au->Prop):Inv (X.lK E) af σ H s:=#v[a.ok.lK E,a.os,a.bare,a.base,a.loc,a.cell,a.free,a.jt,a.pin,a.bA,a.len]
def Inv.n4(a:Inv (X.lK E) af σ H s):Inv X af σ H s:=#v[a.ok.n4,a.os,a.bare,a.base,a.loc,a.cell,a.free,a.jt,a.pin,a.bA,a.len]
def SP.n4{e:kI}{f:Flow}{s':au}(h:SP (X.lK E) af e f s'):SP X af e f s':=by cases f with|next=>(obtain⟨d,a,b,c⟩:=h;exact⟨d,a,b.n4,c⟩)|brk=>(obtain⟨d,a,b,c⟩:=h;exact⟨d,a,b.n4,c⟩)|cont=>(obtain⟨d,a,b,c⟩:=h;exact⟨d,a,b.n4,c⟩)|ret u=>obtain⟨v,d,a,b,r,c⟩:=h;exact#v[v,d,a,b.n4,r,c]
def iG.tf{st:aa a_}{t:TS}(h:iG X.tf st t):iG X st t:=λaf s σ H a b c=>kc (h af s σ H a (b.lK _) c) (λ_ _ d=>d.n4) λ_ _ e=>h7 e
end
section
variable{X:Cx}{st:a_}{rest:aa a_}{t u:TS}{e:bx}{te:TE}{a8:c7}
def GK:TS:=λa b H=>a.nx b H
def GL(t u:TS):TS:=λa b H=>t {a with nx:=u a} b H
def c9:iG X [] GK:=λ_ _ b H _ a h=>Aa #v[b,H,a,h]
def ay(g:PS X st t)(i:iG X rest u):iG X (st::rest) (GL t u):=by intro af s k H b d h;refine Oy (S (g af s k H {b with nx:=u b} d h) λf j a=>?_);cases f with|next=>(obtain⟨l,c,e,a⟩:=a;exact i af j l c b e a)|ret v=>exact a|brk=>exact a|cont=>exact a
def cR(d:PS X st t):iG X [st] t:=by intro af s e H b c h;refine Oy (S (d af s e H b c h) λf _ a=>?_);cases f with|next=>exact Aa a|ret v=>exact a|brk=>exact a|cont=>exact a
def Inv.quiet{af:aa (U×a9)}{b:St}{H:Hp}{s:au}(a:Inv X af b H s):interactive X.env=ax:=by simp[interactive,a.ok.kind]
def GN(te:TE):TS:=λb a H=>te a H λ_ H1=>b.nx a H1
def e0(d:PE X e te)(f:oZ e aj a8.line X.env=pure ax:=by rfl):PS X (.Expr e a8) (GN te):=by intro af s b H _ a h;exact wpAny_Expr_any (S (d af s b H _ a h) λv _⟨x,H1,c,_,g⟩=>#v[b,H1,c,g]) a.quiet f
def tj(te:TE):TS:=λa b H=>te b H a.rt
def R7(d:PE X e te):PS X (.Return (O e) a8) (tj te):=by intro af s a H _ b h;exact wpAny_Return_some (S (d af s a H _ b h) λv _⟨x,H1,c,g,f⟩=>#v[x,a,H1,c,g,f])
def R8:TS:=λa _ H=>a.rt .non H
def R9:PS X (.Return aj a8) R8:=λ_ _ b H _ a h=>wpAny_Return_none #v[.non,b,H,a,I,h]
def GO(c:TT)(t u:TS):TS:=λb a H=>c a H λd H1=>if d=ai then t b a H1 else u b a H1
def cN{c:bx}{a g:aa a_}{k:TT}(o:PT X c k)(m:iG X a t)(n:iG X g u):PS X (.If c a g a8) (GO k t u):=by intro af s b H e l h;refine wpAny_If (S (o af s b H _ l h) λd j⟨H1,f,i⟩=>?_);cases d with|true=>exact m af j b H1 e f i|false=>exact n af j b H1 e f i
end
abbrev TG:=V->St->Hp->(St->Hp->Prop)->Prop
abbrev pL:=aa V->St->Hp->(St->Hp->Prop)->Prop
def PG(X:Cx)(e:bx)(t:TG):Prop:=∀(af:aa (U×a9))(s:au)(c:St)(H:Hp)(v:V)(u:D)(b:St->Hp->Prop),Inv X af c H s->RelV v u->t v c H b->aG (aU X.prog X.w) X.A (qA e X.env u) (λ_ s'=>∃d a,Inv X af d a s'/\b d a) X.xe s
def vV(X:Cx)(e:aa bx)(t:pL):Prop:=∀(af:aa (U×a9))(s:au)(c:St)(H:Hp)(vs:aa V)(us:aa D)(b:St->Hp->Prop),Inv X af c H s->J vs us->t vs c H b->aG (aU X.prog X.w) X.A (assignInOrder ((r7 e X.env).map (·.2)) us) (λ_ s'=>∃d a,Inv X af d a s'/\b d a) X.xe s
abbrev BU:=V->V->V->Hp->(Hp->Prop)->Prop
def GP(X:Cx)(t:BU):Prop:=∀(af:aa (U×a9))(s:au)(e:St)(H:Hp)(o i v:V)(d c u:D)(b:Hp->Prop),Inv X af e H s->RelV o d->RelV i c->RelV v u->t o i v H b->aG (aU X.prog X.w) X.A (setItem d c u) (λ_ s'=>∃a,Inv X af e a s'/\b a) X.xe s
section
variable{X:Cx}{a8:c7}
def eh(i:Nat):TG:=λv b H a=>a (b.set i (O v)) H
def dD{i:Nat}{x:M}(c:X.N.Nodup)(e:X.N[i]? =O x)(f:Loc X.env.scope x)(d:X.fn x=ai\/X.env.scope.names.lookup x=O .local:=by first|exact .inl rfl|exact .inr rfl|assumption):PG X (.Name x a8) (eh i):=by intro af s _ H v u _ a r h;exact Oz (GF a c e f r (λs' b=>#v[_,H,b,h]) d)
def qZ:pL:=λvs b H a=>vs=[]/\a b H
def k1(t:TG)(u:pL):pL:=λvs c H b=>∃v r,vs=v::r/\t v c H λd a=>u r d a b
def mM:vV X [] qZ:=by intro af s b H vs us _ a r h;obtain⟨e,h⟩:=h;subst e;cases r;exact assignInOrder_nil #v[b,H,a,h]
def gQ{e:bx}{a:aa bx}{t:TG}{u:pL}(g:PG X e t)(i:vV X a u)(j:(r7 (e::a) X.env).map (·.2)=qA e X.env::(r7 a X.env).map (·.2):=by rfl):vV X (e::a) (k1 t u):=by intro af s n H vs us d b r h;obtain⟨v,_,f,h⟩:=h;subst f;cases r with|cons r l=>rw[j];refine assignInOrder_cons (S (g af s n H _ _ _ b r h) λ_ m⟨o,H1,c,k⟩=>?_);exact i af m o H1 _ _ d c l k
def q5(K:bj)(n:Nat)(t:pL):TG:=λv c H b=>∃a xs,v=.ref a/\dH K H a xs/\xs.length=n/\t xs c H b
def mN{b:aa bx}{k:Nat}{t:pL}{n:Nat}(p:X.calm=ai)(h:vV X b t)(w:(r7 b X.env).length=n:=by rfl)(y:(r7 b X.env).findIdx? (·.1)=aj:=by rfl):PG X (.Tuple b k a8) (q5 X.K n t):=by intro af s g H v u j c r d;obtain⟨a,xs,m,x,q,d⟩:=d;subst m;cases r;obtain⟨aH,f,z,_⟩:=c.tuple x;refine assign_Tuple_tuple (c.ok.hd p) z (by simp[w,<-q,f.length]) y λh' A=>?_;have i:Inv X af g H {s with heap:=h'}:=c.kept (t':=s.toks) λl o e=>A l o (er (cJ e)) e;exact h af _ g H xs _ j i (by simpa using f) d
def GQ(to e:TE)(t:BU):TG:=λv a H d=>to a H λo H1=>e a H1 λi b=>t o i v b λc=>d a c
def GR{o i:bx}{to d:TE}{t:BU}(p:PE X o to)(n:PE X i d)(q:GP X t)(m:∀v,qA (.Subscript o i a8) X.env v=(do
   let a<-l_ [v] (bU o X.env)
   let b<-l_ [v,a] (bU i X.env)
   qz a8
   l_ [v,a,b] (setItem a b v)
   release [v,a,b] []):=by intro _;rfl):PG X (.Subscript o i a8) (GQ to d t):=by
 intro af s c H v u _ g r h;rw[m];refine av (hG (S (p af s c H _ g h) λa C⟨x,H1,j,A,w⟩=>?_));refine av (hG (S (n af C c H1 _ j w) λb E⟨I,e,k,B,y⟩=>?_));refine av (EF (av (hG (S (q af E c e x I v a b u _ k A B r y) λ_ _⟨f,l,z⟩=>?_))));exact wpAny_release #v[c,f,l,z]
def tp(te:TE)(g:TG):TS:=λb a H=>te a H λx H1=>g x a H1 b.nx
def GS{a e:bx}{te:TE}{g:TG}(i:PE X e te)(j:PG X a g)(k:swapsWithSole [a] e a8.line X.env=pure ax:=by rfl)(l:swappedStores [a] e X.env=pure aj:=by rfl)(f:(r7 [a] X.env).map (·.2)=[qA a X.env]:=by rfl):PS X (.Assign [a] e a8) (tp te g):=by intro af s b H _ c h;refine wpAny_Assign_stores (S (i af s b H _ c h) λv p⟨x,H1,d,o,n⟩=>?_) k l;rw[f];exact S (j af p b H1 x v _ d o n) λ_ _ m=>m
def mO{i:Nat}{x:M}{e:bx}{te:TE}{a:c7}(f:X.N.Nodup)(k:X.N[i]? =O x)(m:Loc X.env.scope x)(g:PE X e te)(l:oZ e (O (.Name x a)) a8.line X.env=pure ax:=by rfl)(j:X.fn x=ai\/X.env.scope.names.lookup x=O .local:=by first|exact .inl rfl|exact .inr rfl|assumption):PS X (.Assign [.Name x a] e a8) (tp te (eh i)):=by intro af s p H _ b h;refine wpAny_Assign_Name (S (g af s p H _ b h) λv _⟨_,H1,c,o,n⟩=>?_) l;exact GF c f k m o (λ_ d=>#v[_,H1,d,n]) j
def R_(c:TT)(i:TS):TS:=λb a H=>∃W:Nat->St->Hp->Prop,(∃m,W m a H)/\∀m a H,W m a H->c a H λh H1=>if h=ai then∃d:St->Hp->Prop,(∀g e,d g e->∃f,f<m/\W f g e)/\i {b with nx:=d,ct:=d,bk:=b.nx} a H1 else b.nx a H1
def vW{c:bx}{r:aa a_}{x:TT}{w:TS}(u:PassesOwn (aU X.prog X.w) X.A X.env X.xe)(E:PT X c x)(C:iG X r w):PS X (.While c r [] a8) (R_ x w):=by intro af s T H _ z h;obtain⟨W,⟨J,Q⟩,P⟩:=h;refine wpAny_While (codeAny_whileLoop (λn s'=>∃y o,Inv X af y o s'/\W n y o) ?_ J #v[T,H,z,Q]);rintro n K ⟨g,H1,A,R⟩;refine qB u (S (E af K g H1 _ A (P n g H1 R)) λB L⟨p,q,d⟩=>?_);cases B with|true=>(obtain⟨_,t,d⟩:=d;rw[aI I];refine qB u (S (C af L g p _ q d) λf _ e=>?_);cases f with|next=>(obtain⟨b,a,i,l⟩:=e;obtain⟨k,j,m⟩:=t b a l;exact⟨k,j,b,a,i,m⟩)|cont=>(obtain⟨b,a,i,l⟩:=e;obtain⟨k,j,m⟩:=t b a l;exact⟨k,j,b,a,i,m⟩)|brk=>exact e|ret v=>exact e)|false=>rw[aD d8];exact Aa #v[g,p,q,d]
end
structure It where
 go:Nat->Hp->Prop
 gC:Nat->Hp->V->Hp->Prop
 stop:Nat->Hp->Prop
def k3(X:Cx)(af:aa (U×a9))(H:Hp)(a:U):Prop:=H a=aj/\a≠X.env.locals/\a∉X.fs/\(a∈X.ex\/X.g6.heap.objs.size<=a)/\(∀x c,X.env.cells.lookup x=O c->c≠a)/\∀p∈X.pn++af,p.1≠a
def Inv.tq{X:Cx}{af:aa (U×a9)}{k:St}{H g:Hp}{s:au}{d:U}(a:Inv X af k H s)(b:s.heap.objs.size<=d)(h:g d=aj):k3 X af g d:=by refine#v[h,ma (gc a.lt b),a.RW b,.inr (dQ a.sz b),λx c e f=>?_,λp i f=>?_];(obtain⟨v,j⟩:=a.cell x c e;exact absurd (gc j.lt (by rw[f];exact b)) (kb _));exact absurd (gc (cJ (a.pin p i).1) (by rw[f];exact b)) (kb _)
structure nz(P:cx)(w:bR)(K:bj)(tg:bx)(J:It)(fp:aa U)(it:U)(tn:Nat->aZ->Prop):Prop where
 mem:it∈fp
 obj:∀i h,tn i h->∀b∈fp,∃o,h.get? b=O o/\∀v,o.data≠ .cell v
 keep:∀i h h',tn i h->(∀b∈fp,∀o,h.get? b=O o->h'.get? b=O o)->tn i h'
 item:∀(X:Cx),X.prog=P->X.w=w->X.K=K->X.calm=ai->∀(i:Nat)(pins:aa (U×a9))(s:au)(σ:St)(H:Hp)(E:D->au->Prop),Inv X pins σ H s->(∀b∈fp,k3 X pins H b)->tn i s.heap->J.go i H->aG (aU P w) X.A (fP (.ref it)) (λr s1=>∃u,r=O u/\aG (aU P w) X.A (Ab tg (.ref it) u) (λ_ s2=>∃x H',Inv X pins σ H' s2/\RelV x u/\J.gC i H x H'/\tn (i+1) s2.heap/\∀b∈fp,H' b=aj) E s1) E s
 done:∀(X:Cx),X.prog=P->X.w=w->X.K=K->X.calm=ai->∀(i:Nat)(pins:aa (U×a9))(s:au)(σ:St)(H:Hp)(E:D->au->Prop),Inv X pins σ H s->(∀b∈fp,k3 X pins H b)->tn i s.heap->J.stop i H->aG (aU P w) X.A (fP (.ref it)) (λr s1=>r=aj/\Inv X pins σ H s1) E s
 self:∀(A:cQ)(i:Nat)(s:au)(Q:D->au->Prop)(E:D->au->Prop),tn i s.heap->Q (.ref it) s->aG (aU P w) A (nK (.ref it)) Q E s
abbrev TI:=St->Hp->(It->Hp->Prop)->Prop
def vX(X:Cx)(af:aa (U×a9))(i:St)(h:bx)(R:It->Hp->Prop)(g:D)(d:au):Prop:=∃(c:U)(b:aa U)(e:Nat->aZ->Prop)(J:It)(a:Hp),g=.ref c/\Inv X af i a d/\nz X.prog X.w X.K h J b c e/\e 0 d.heap/\(∀f∈b,k3 X af a f)/\R J a
def PI(X:Cx)(c iter:bx)(d:TI):Prop:=∀(af:aa (U×a9))(s:au)(a:St)(H:Hp)(R:It->Hp->Prop),Inv X af a H s->d a H R->aG (aU X.prog X.w) X.A (bU iter X.env) (λv b=>aG (aU X.prog X.w) X.A (nK v) (vX X af a c R) X.xe b) X.xe s
def tr{c:r6}{A:cQ}{E:D->au->Prop}{s:au}{e:bx}{d:U}{u:D}{o:a9}{n:String}{vs:ae D}{a:Unit->au->Prop}(j:s.heap.get? d=O o)(f:o.cls=.type n)(g:o.data=.fields vs)(i:["enumerate","zip","dict_itemiterator","dict_reverseitemiterator","odict_iterator","itertools.zip_longest","itertools.pairwise"].contains n=ax)(b:a () s):aG c A (Ab e (.ref d) u) a E s:=by unfold Ab;cases e<;>first|exact aV b|(cases u<;>first|exact aV b|(refine av (wpAny_load j ?_);rw[f,g];show aG c A (if(["enumerate","zip","dict_itemiterator","dict_reverseitemiterator","odict_iterator","itertools.zip_longest","itertools.pairwise"].contains n&&vs[0]? ==O (eI _))=ai then _ else _) a E s;rw[aD (by intro h;rw[i,OA]at h;cases h)];exact aV b))
def f3(K:bj)(a:U):It:=#v[λi H=>∃xs x,aA K H a xs/\xs[i]? =O x,λi H x b=>b=H/\∀xs,aA K H a xs->xs[i]? =O x,λi H=>∃xs,aA K H a xs/\xs.length<=i]
def ju(lo:Int)(n:Nat):It:=#v[λi _=>i<n,λi H x a=>a=H/\x=.int (lo+i),λi _=>n<=i]
def Sa{P:cx}{w:bR}{K:bj}{ah:bx}(a j:U):nz P w K ah (f3 K a) [j] j (λi h=>h.IsListIter j a i)where
 mem:=by simp
 obj:=λi h st f g=>by have e:f=j:=(by simpa using g);subst e;obtain⟨o,e,c,d⟩:=st;exact#v[o,e,λv R=>by rw[d]at R;cases R]
 keep:=λi h h' st k=>st.at λo e=>k j (by simp) o e
 item:=by intro X A C z N i af s S H E b l st B;subst A C z;obtain⟨xs,x,m,J⟩:=B;obtain⟨aH,L,p,ac⟩:=b.list m;obtain⟨u,Y,ad⟩:=L.get J;obtain⟨n,q,W,r,t,y⟩:=l j (by simp);refine wpAny_pyNext_list_item st p.isList (x:=u) (by simpa using Y) λh' Q ag=>?_;have T:Inv X af S H {s with heap:=h'}:=b.turned (t':=s.toks) (λf o g e=>(ag.2 f g).trans e) n q r t y;obtain⟨o,e,c,d⟩:=id Q;exact#v[u,I,tr (s:={s with heap:=h'}) e c d (by decide) #v[x,H,T,ad,#v[I,λ_ Z=>by rw[b.GJ Z m];exact J],Q,λf g=>(l f g).1]]
 done:=by intro X A C z N i af s S H E b l st B;subst A C z;obtain⟨xs,m,J⟩:=B;obtain⟨aH,L,p,ac⟩:=b.list m;obtain⟨n,q,W,r,t,y⟩:=l j (by simp);have ak:=L.length;exact wpAny_pyNext_list_end (b.ok.hd N) st p.isList (by simp;lia) λh' V=>#v[I,b.turned (t':=s.toks) (λf o g e=>V f o g e) n q r t y]
 self:=λ_ _ _ _ _ st h=>wpAny_pyIter_listiter st h
def Sb{P:cx}{w:bR}{K:bj}{Q:bx}(a:U)(lo:Int)(n:Nat):nz P w K Q (ju lo n) [a] a (λi h=>IsRangeIter h a (lo+(i:Nat)*1) ((n:Int)-(i:Nat)) 1)where
 mem:=by simp
 obj:=λi h st b c=>by have e:b=a:=(by simpa using c);subst e;exact#v[_,st,λv R=>by have S:Data.fields _=Data.cell v:=R;cases S]
 keep:=λi h h' st k=>k a (by simp) _ st
 item:=by intro X r y q u i af s A H E d f st x;subst r y q;obtain⟨g,j,J,l,m,p⟩:=f a (by simp);have W:=Walks.range (prog:=X.prog) (w:=X.w) (d.ok.hd u) a lo 1 n;refine W.item i s _ _ x st λv h' tk L z N=>?_;obtain⟨t,rfl⟩:=L;have B:Inv X af A H {s with heap:=h',toks:=tk}:=d.turned (λb o c e=>N b o (by simpa using c) e) g j l m p;refine#v[_,I,tr (s:={s with heap:=h',toks:=tk}) (n:="range_iterator") z I I (by decide) #v[.int (lo+i),H,B,#v[t,?_],#v[I,I],z,λb c=>(f b c).1]];rw[Int.mul_one]
 done:=by intro X r y q u i af s A H E d f st x;subst r y q;obtain⟨g,j,J,l,m,p⟩:=f a (by simp);exact wpAny_pyNext_range_end (d.ok.hd u) st (by have:n<=i:=x;lia) λh' C=>#v[I,d.turned (t':=s.toks) (λb o c e=>C b o c e) g j l m p]
 self:=λ_ _ _ _ _ st h=>wpAny_pyIter_rangeiter st h
section
variable{X:Cx}{tg:bx}
inductive IsL(S:U->aa V->Prop)(x:V)(Q:U->Prop):Prop|mk(a:U)(e:x=.ref a)(s:∃xs,S a xs)(q:Q a)
def GU(K:bj)(tl:TE):TI:=λb H R=>tl b H λx H1=>IsL (aA K H1) x λa=>R (f3 K a) H1
def fU{l:bx}{tl:TE}(i:PE X l tl):PI X tg l (GU X.K tl):=by(intro af s q H R f h;refine S (i af s q H _ f h) λv c⟨x,H1,b,n,m⟩=>?_;obtain⟨a,e,⟨xs,j⟩,k⟩:=m;subst e;cases n;obtain⟨aH,_,p,_⟩:=b.list j;refine r8 p.isList ?_;refine#v[c.heap.objs.size,[c.heap.objs.size],_,_,H1,I,b.kept (t':=c.toks) λd o e=>dd _ e,Sa a _,#v[_,eo _ rfl,I,I],λd g=>?_,k];have e:d=c.heap.objs.size:=by simpa using g);subst e;exact b.tq (bp _) (b.bA.fresh (bp _))
def GV{af:aa (U×a9)}{d:St}{H:Hp}{s:au}{R:It->Hp->Prop}{E:D->au->Prop}{lo a:Int}{t u v:gf}{tk:Nat}(f:Inv X af d H s)(i: -(2^62)<=lo)(j:lo<2^62)(k: -(2^62)<=a)(l:a<2^62)(n:R (ju lo (a-lo).toNat) H):aG (aU X.prog X.w) X.A (nK (.ref s.heap.objs.size)) (vX X af d tg R) E {s with heap:=s.heap.push {cls:=.type "range",data:=.fields #[.int lo t,.int a u,.int 1 v]},toks:=tk}:=by refine wpAny_pyIter_range (IsRange.new ..) (small_one i j k l) ?_;have b:Inv X af d H {s with heap:=s.heap.push {cls:=.type "range",data:=.fields #[.int lo t,.int a u,.int 1 v]},toks:=tk}:=f.kept λc o e=>dd _ e;refine#v[(s.heap.push {cls:=.type "range",data:=.fields #[.int lo t,.int a u,.int 1 v]}).objs.size,[(s.heap.push {cls:=.type "range",data:=.fields #[.int lo t,.int a u,.int 1 v]}).objs.size],_,_,H,I,b.kept (t':=tk) λc o e=>dd _ e,Sb _ lo (a-lo).toNat,?_,λc m=>?_,n];(·(have g:lo+((0:Nat):Int)*1=lo:=(by simp);have h:(((a-lo).toNat:Nat):Int)-((0:Nat):Int)=aaG lo a 1:=by rw[rangeSize_one];split<;>lia);show IsRangeIter _ _ (lo+((0:Nat):Int)*1) ((((a-lo).toNat:Nat):Int)-((0:Nat):Int)) 1;rw[g,h];exact eo _ rfl);have e:c=(s.heap.push {cls:=.type "range",data:=.fields #[.int lo t,.int a u,.int 1 v]}).objs.size:=(by simpa using m);subst e;exact b.tq (bp _) (b.bA.fresh (bp _))
def Sd(a:TA):TI:=λb H R=>a b H λvs H1=>∃j:Int,vs=[.int j]/\ -(2^62)<=j/\j<2^62/\R (ju 0 j.toNat) H1
def Se(a:TA):TI:=λb H R=>a b H λvs H1=>∃i j:Int,vs=[.int i,.int j]/\(-(2^62)<=i/\i<2^62/\ -(2^62)<=j/\j<2^62)/\R (ju i (j-i).toNat) H1
def GW{a:bx}{f:TA}{p d:c7}(k:Gl X "range")(l:X.mg "range"=aj)(i:PA X [a] f)(m:cu [a] X.env=[(ax,bU a X.env)]:=by rfl):PI X tg (.Call (.Name "range" p) [a] [] d) (Sd f):=by intro af s v H R c h;refine Call_ (kZ c k l boot_range (nL (S (i d af s v H _ c h) λus _⟨vs,H1,g,q,b⟩=>?_) m I));obtain⟨j,e,b,o,n⟩:=b;subst e;cases q with|cons r u=>cases u;obtain⟨t,rfl⟩:=r;exact call_range_1 (GV g ∅ ∅ b o (by simpa using n))
def Sf{a b:bx}{l:TA}{p k:c7}(o:Gl X "range")(q:X.mg "range"=aj)(n:PA X [a,b] l)(u:cu [a,b] X.env=[(ax,bU a X.env),(ax,bU b X.env)]:=by rfl)(g:cu [b] X.env=[(ax,bU b X.env)]:=by rfl):PI X tg (.Call (.Name "range" p) [a,b] [] k) (Se l):=by intro af s B H R f h;refine Call_ (kZ f o q boot_range (nL (S (n k af s B H _ f h) λus _⟨vs,H1,m,A,c⟩=>?_) (by rw[u,g]) (by rw[g];rfl)));obtain⟨i,j,e,⟨c,w,x,y⟩,v⟩:=c;subst e;cases A with|cons r d=>cases d with|cons z d=>cases d;obtain⟨t,rfl⟩:=r;obtain⟨t',rfl⟩:=z;exact call_range_2 (GV m c w x y v)
def Sg(k:TI)(g:TG)(j:TS):TS:=λc a H=>k a H λJ H1=>∃W:Nat->Nat->St->Hp->Prop,(∃m,W 0 m a H1)/\∀i m a H,W i m a H->(J.stop i H/\c.nx a H)\/(J.go i H/\∃d:St->Hp->Prop,(∀f b,d f b->∃e,e<m/\W (i+1) e f b)/\∀x b,J.gC i H x b->g x a b λl h=>j {c with nx:=d,ct:=d,bk:=c.nx} l h)
def tu(b:aa U)(h:aZ):aa (U×a9):=b.filterMap λa=>(h.get? a).map λo=>(a,o)
def BV{b:aa U}{h:aZ}{a:U}{o:a9}(c:a∈b)(e:h.get? a=O o):(a,o)∈tu b h:=uR.mpr #v[a,c,by rw[e];rfl]
def Sh{c:aa U}{h:aZ}{p:U×a9}(g:p∈tu c h):p.1∈c/\h.get? p.1=O p.2:=by obtain⟨b,f,e⟩:=uR.mp g;cases a:h.get? b with|none=>rw[a]at e;cases e|some o=>rw[a]at e;have d:(b,o)=p:=aM e;subst d;exact#v[f,a]
def Inv.pinned{af:aa (U×a9)}{i:St}{H:Hp}{s:au}{b:aa U}(f:Inv X af i H s)(m:∀a∈b,k3 X af H a)(n:∀a∈b,∃o,s.heap.get? a=O o/\∀v,o.data≠ .cell v):Inv X (af++tu b s.heap) i H s:=f.GC λp q=>(dh.mp q).elim (λc=>f.pin p (gJ _ c)) λc=>by obtain⟨h,e⟩:=Sh c;obtain⟨j,k,l,_⟩:=m p.1 h;obtain⟨o,g,d⟩:=n p.1 h;rw[e]at g;cases g;exact#v[e,j,k,l,d]
def Inv.vY{af d:aa (U×a9)}{b:St}{H:Hp}{s:au}(a:Inv X (af++d) b H s):Inv X af b H s:=a.GC λp c=>a.pin p (gJ _ (j_ _ c))
def iV{iter:bx}{Q:aa a_}{ag:TI}{g:TG}{ac:TS}{aK:c7}(w:PassesOwn (aU X.prog X.w) X.A X.env X.xe)(U:X.calm=ai)(aE:PI X tg iter ag)(aD:PG X tg g)(j:iG X Q ac)(aH:∀x,Ac iter X.env x=pure x:=by intro _;rfl):PS X (.For tg iter Q [] aK) (Sg ag g ac):=by(intro af s ah H _ am h;refine wpAny_For (S (aE af s ah H _ am h) λv _ ay=>S ay λ_ _ az=>?_) aH;obtain⟨_,t,ad,J,ak,e,an,q,aV,R,W,⟨aJ,aX⟩,aW⟩:=az;subst e;have L:∀ {l:Hp},(∀a∈t,l a=aj)->∀a∈t,k3 X af l a:=λaG a j=>#v[aG a j,(R a j).2]);(refine codeAny_forLoop_any (λn s'=>∃i z l,Inv X af z l s'/\ad i s'.heap/\(∀a∈t,l a=aj)/\W i n z l) ?_ aJ #v[0,ah,ak,an,aV,λa j=>(R a j).1,aX];rintro n V ⟨i,A,B,P,Z,T,aY⟩;rcases aW i n A B aY with⟨stop,aN⟩|⟨aw,as,aC,step⟩);(refine qB w (S (q.done X I I I U i af V A B X.xe P (L T) Z stop) λr aQ⟨C,ao⟩=>?_);subst C;exact Aa #v[A,B,ao,aN]);·(refine qB w (S (q.item X I I I U i af V A B X.xe P (L T) Z aw) λr aQ⟨u,C,aA⟩=>?_);subst C;refine qB w (S aA λ_ Y⟨x,N,ap,aO,a2,K,av⟩=>?_);have aq:=ap.pinned (L av) (q.obj _ _ K);refine qB w (S (aD _ Y A N x u _ aq aO (step x N a2)) λ_ aS⟨a3,al,ar,aL⟩=>?_);refine qB w (S (j _ aS a3 al _ ar aL) λf E p=>?_);have qC:∀ {k:St}{b:Hp},Inv X (af++tu t Y.heap) k b E->as k b->∃m,m<n/\∃i z l,Inv X af z l E/\ad i E.heap/\(∀a∈t,l a=aj)/\W i m z l:=λ{k b} c y=>by obtain⟨aI,aF,a0⟩:=aC k b y;refine#v[aI,aF,i+1,k,b,c.vY,q.keep _ _ _ K λa j o e=>(c.pin (a,o) (gJ _ (gJ _ (BV j e)))).1,λa j=>?_,a0];obtain⟨o,e,d⟩:=q.obj _ _ K a j;exact(c.pin (a,o) (gJ _ (gJ _ (BV j e)))).2.1);cases f with|next=>(obtain⟨k,b,c,y⟩:=p;exact qC c y)|cont=>(obtain⟨k,b,c,y⟩:=p;exact qC c y)|brk=>(obtain⟨k,b,c,p⟩:=p;exact⟨k,b,c.vY,p⟩)|ret v=>obtain⟨a1,k,b,c,aP,p⟩:=p;exact#v[a1,k,b,c.vY,aP,p]
end
def q6{K:bj}{a:U}{xs:aa V}{g:TG}{r:TS}{d:kI}{b:St}{H:Hp}(Pv:Nat->St->Hp->Prop)(s:Pv 0 b H)(v:∀i b H,i<=xs.length->Pv i b H->aA K H a xs)(w:∀i x b H,xs[i]? =O x->Pv i b H->g x b H λn f=>r {d with nx:=Pv (i+1),ct:=Pv (i+1),bk:=d.nx} n f)(t:∀b H,Pv xs.length b H->d.nx b H):∃W:Nat->Nat->St->Hp->Prop,(∃m,W 0 m b H)/\∀i m b H,W i m b H->((f3 K a).stop i H/\d.nx b H)\/((f3 K a).go i H/\∃h:St->Hp->Prop,(∀l c,h l c->∃q,q<m/\W (i+1) q l c)/\∀x c,(f3 K a).gC i H x c->g x b c λn f=>r {d with nx:=h,ct:=h,bk:=d.nx} n f):=by refine#v[λi m b H=>m=xs.length-i/\i<=xs.length/\Pv i b H,#v[xs.length,by simp,dc _,s],?_];rintro i m b H ⟨rfl,u,p⟩;have j:=v i b H u p;by_cases o:i<xs.length;(refine .inr #v[#v[xs,xs[i],j,by simp[o]],Pv (i+1),λl c y=>#v[xs.length-(i+1),by lia,I,o,y],λx c k=>?_];obtain⟨e,k⟩:=k;subst e;exact w i x b _ (k xs j) p);have e:i=xs.length:= ∅;subst e;exact .inl #v[#v[xs,j,bp _],t b H p]
def GX{lo:Int}{n:Nat}{g:TG}{q:TS}{c:kI}{a:St}{H:Hp}(Pv:Nat->St->Hp->Prop)(r:Pv 0 a H)(t:∀i a H,i<n->Pv i a H->g (.int (lo+i)) a H λl d=>q {c with nx:=Pv (i+1),ct:=Pv (i+1),bk:=c.nx} l d)(s:∀a H,Pv n a H->c.nx a H):∃W:Nat->Nat->St->Hp->Prop,(∃m,W 0 m a H)/\∀i m a H,W i m a H->((ju lo n).stop i H/\c.nx a H)\/((ju lo n).go i H/\∃f:St->Hp->Prop,(∀k b,f k b->∃o,o<m/\W (i+1) o k b)/\∀x b,(ju lo n).gC i H x b->g x a b λl d=>q {c with nx:=f,ct:=f,bk:=c.nx} l d):=by refine#v[λi m a H=>m=n-i/\i<=n/\Pv i a H,#v[n,by simp,dc _,r],?_];rintro i m a H ⟨rfl,_,p⟩;by_cases h:i<n;(refine .inr #v[h,Pv (i+1),λk b u=>#v[n-(i+1),by lia,I,h,u],λx b j=>?_];obtain⟨e,j⟩:=j;subst e j;exact t i a _ h p);have e:i=n:= ∅;subst e;exact .inl #v[bp _,s a H p]
abbrev R2:=V->V->Hp->VK->Prop
def gj(X:Cx)(f:D->D->gg D)(r:R2):Prop:=∀(af:aa (U×a9))(s:au)(c:St)(H:Hp)(x b:V)(v u:D)(a:VK),Inv X af c H s->RelV x v->RelV b u->r x b H a->aG (aU X.prog X.w) X.A (f v u) (EP X af c a) X.xe s
def BW(X:Cx)(f:D->gg D)(r:V->Hp->VK->Prop):Prop:=∀(af:aa (U×a9))(s:au)(b:St)(H:Hp)(x:V)(v:D)(a:VK),Inv X af b H s->RelV x v->r x H a->aG (aU X.prog X.w) X.A (f v) (EP X af b a) X.xe s
def ko(X:Cx)(f:D)(r:aa V->Hp->VK->Prop):Prop:=∀(af:aa (U×a9))(s:au)(b:St)(H:Hp)(xs:aa V)(us:aa D)(a:VK),Inv X af b H s->J xs us->r xs H a->aG (aU X.prog X.w) X.A (call f us) (EP X af b a) X.xe s
def gR(r:R2)(d e:TE):TE:=λa H c=>d a H λx H1=>e a H1 λf b=>r x f b c
def Si(r:V->Hp->VK->Prop)(b:TE):TE:=λc H a=>b c H λx H1=>r x H1 a
def rI(C:Int->Int->Prop)(g:Int->Int->V):R2:=λx b H a=>∃i j,x=.int i/\b=.int j/\C i j/\a (g i j) H
inductive Sj(x y:V)(Q:Int->Int->Prop):Prop|mk(i j:Int)(a:x=.int i)(b:y=.int j)(q:Q i j)
def iW(g:Int->Int->V):R2:=λx b H a=>Sj x b λi j=>a (g i j) H
def rU(g:Int->V):V->Hp->VK->Prop:=λx H a=>∃i,x=.int i/\a (g i) H
section
variable{X:Cx}{a b c:bx}{ta tb tc:TE}{a8:c7}
def BX(m:PE X a ta)(n:PE X b tb){af:aa (U×a9)}{s:au}{e:St}{H:Hp}{R:V->V->Hp->Prop}(j:Inv X af e H s)(h:ta e H λx H1=>tb e H1 λd c=>R x d c){i:D->au->Prop}{f:D->D->gg D}(o:∀v u g x d c,Inv X af e c g->RelV x v->RelV d u->R x d c->aG (aU X.prog X.w) X.A (f v u) i X.xe g):aG (aU X.prog X.w) X.A (bU a X.env) (λv y=>aG (aU X.prog X.w) X.A (bU b X.env) (λu z=>aG (aU X.prog X.w) X.A (f v u) i X.xe z) X.xe y) X.xe s:=by refine S (m af s e H _ j h) λv w⟨x,H1,k,r,p⟩=>?_;refine S (n af w e H1 _ k p) λu g⟨d,c,l,t,q⟩=>?_;exact o v u g x d c l r t q
def cS{c:Operator}{r:R2}(k:gj X (o1 c) r)(i:PE X a ta)(j:PE X b tb):PE X (.BinOp a c b a8) (gR r ta tb):=by intro af s q H g e h;exact wpAny_BinOp (BX i j e h λv u o x p d f m n l=>k af o q d x p v u g f m n l)
def GY{b:UnaryOp}{r:V->Hp->VK->Prop}(i:BW X (unaryOp b) r)(g:PE X a ta):PE X (.UnaryOp b a a8) (Si r ta):=by intro af s c H f d h;exact UnaryOp_ (S (g af s c H _ d h) λv l⟨x,H1,e,k,j⟩=>i af l c H1 x v f e k j)
def BY{f:D->D->gg D}{C:Int->Int->Prop}{g:Int->Int->Int}(nM:∀(i j:Int)(t u:gf)(s:au)(a:D->au->Prop)(E:D->au->Prop),C i j->a (.int (g i j) s.toks) {s with toks:=s.toks+1}->aG (aU X.prog X.w) X.A (f (.int i t) (.int j u)) a E s):gj X f (rI C λi j=>.int (g i j)):=by intro af s _ H x _ v u a b e k h;obtain⟨i,j,rfl,rfl,c,d⟩:=h;obtain⟨t,rfl⟩:=e;obtain⟨t',rfl⟩:=k;exact nM i j t t' s _ _ c #v[.int (g i j),H,b.tok _,#v[_,I],d]
def GZ{f:D->D->gg D}{g:Int->Int->Int}(nM:∀(i j:Int)(t u:gf)(s:au)(a:D->au->Prop)(E:D->au->Prop),a (.int (g i j) s.toks) {s with toks:=s.toks+1}->aG (aU X.prog X.w) X.A (f (.int i t) (.int j u)) a E s):gj X f (iW λi j=>.int (g i j)):=by intro af s _ H x _ v u a b d e h;obtain⟨i,j,rfl,rfl,c⟩:=h;obtain⟨t,rfl⟩:=d;obtain⟨t',rfl⟩:=e;exact nM i j t t' s _ _ #v[.int (g i j),H,b.tok _,#v[_,I],c]
def vZ{f:D->D->gg D}{g:Int->Int->Bool}(nM:∀(i j:Int)(t u:gf)(s:au)(a:D->au->Prop)(E:D->au->Prop),a (.bool (g i j)) s->aG (aU X.prog X.w) X.A (f (.int i t) (.int j u)) a E s):gj X f (iW λi j=>.bl (g i j)):=by intro af s _ H x _ v u a b d e h;obtain⟨i,j,rfl,rfl,c⟩:=h;obtain⟨t,rfl⟩:=d;obtain⟨t',rfl⟩:=e;exact nM i j t t' s _ _ #v[.bl (g i j),H,b,I,c]
def Sk(i j:Int):Prop:=0<j/\j<1073741824
def BZ(i j:Int):Prop:=(-(2^64)<i/\i<2^64)\/(-(2^64)<j/\j<2^64)
def BZ.ok{i j:Int}(h:BZ i j):IntMulOk i j:=by rcases h with⟨a,b⟩|⟨a,b⟩;(exact .of_left (intBits_le_64 a b));exact .of_right (intBits_le_64 a b)
def kq:gj X (o1 .Add) (iW λi j=>.int (i+j)):=GZ λ_ _ _ _ _ _ _ a=>add_int a
def jv:gj X (o1 .Sub) (iW λi j=>.int (i-j)):=GZ λ_ _ _ _ _ _ _ a=>sub_int a
def G0:gj X (o1 .Mult) (rI BZ λi j=>.int (i*j)):=BY λ_ _ _ _ _ _ _ a b=>mul_int b a.ok
def B0:gj X (o1 .FloorDiv) (rI Sk λi j=>.int (i/j)):=BY λi j _ _ _ _ _ a b=>by have c:(0:Int)<j:=a.1;have d:j<1073741824:=a.2;exact floordiv_int ∅ (by rw[Int.fdiv_eq_ediv_of_nonneg i ∅];exact b) (.inl (PyProof.noPylong_small ∅))
def B1:gj X (o1 .Mod) (rI (λ_ j=>0<j) λi j=>.int (i%j)):=BY λi j _ _ _ _ _ a b=>by have c:(0:Int)<j:=a;exact mod_int' ∅ (by rw[Int.fmod_eq_emod_of_nonneg i ∅];exact b)
def Sl{f:D->gg D}{g:Int->Int}(nM:∀(i:Int)(t:gf)(s:au)(a:D->au->Prop)(E:D->au->Prop),a (.int (g i) s.toks) {s with toks:=s.toks+1}->aG (aU X.prog X.w) X.A (f (.int i t)) a E s):BW X f (rU λi=>.int (g i)):=by intro af s _ H x v a b d h;obtain⟨i,rfl,c⟩:=h;obtain⟨t,rfl⟩:=d;exact nM i t s _ _ #v[.int (g i),H,b.tok _,#v[_,I],c]
def G1:BW X (unaryOp .USub) (rU λi=>.int (-i)):=Sl λ_ _ _ _ _ a=>neg_int a
end
def G4:V->V->Bool
 |.non,.non=>ai|.non,.int _=>ai|.int _,.non=>ai|.non,.bl _=>ai|.bl _,.non=>ai|.non,.str _=>ai|.str _,.non=>ai
 |.int _,.int _=>ai|.bl _,.bl _=>ai|.str _,.str _=>ai|.byt _,.byt _=>ai
 |.int _,.str _=>ai|.str _,.int _=>ai|.bl _,.str _=>ai|.str _,.bl _=>ai
 |_,_=>ax
def tw:R2:=λx a H b=>G4 x a=ai/\b (.bl (decide (x=a))) H
def Sm:R2:=λx a H b=>G4 x a=ai/\b (.bl (!decide (x=a))) H
def G5{i j:Int}:decide (V.int i=V.int j)=(i==j):=by rw[ip];simp
def G6{i j:Bool}:decide (V.bl i=V.bl j)=(i==j):=by rw[ip];simp
def G7{i j:M}:decide (V.str i=V.str j)=(i==j):=by rw[ip];simp
def G8{i j:ae UInt8}:decide (V.byt i=V.byt j)=(i.toList==j.toList):=by rw[ip];cases i;cases j;simp
section
variable{X:Cx}{a b c:bx}{ta tb tc:TE}{a8:c7}
def eU{af:aa (U×a9)}{c:St}{H:Hp}{s:au}{a:VK}{k b:Bool}(d:Inv X af c H s)(f:a (.bl k) H)(e:k=b):EP X af c a (.bool b) s:=by subst e;exact#v[.bl k,H,d,I,f]
def fl:gj X (kO .Eq) tw:=by intro af s _ H x e v u _ a f c h;obtain⟨d,b⟩:=h;cases x with|non=>(cases f;cases e with|non=>cases c;exact aaH (eU a b (by simp))|bl j=>cases c;exact aaI (eU a b (by simp))|int j=>(obtain⟨t',rfl⟩:=c;exact aaJ (eU a b (by simp)))|str j=>(obtain⟨t',rfl⟩:=c;exact aaK (eU a b (by simp)))|_=>exact absurd (show ax=ai from d) d8)|bl i=>(cases f;cases e with|non=>cases c;exact aaL (eU a b (by simp))|bl j=>cases c;exact eq_bool (eU a b G6)|str j=>(obtain⟨t',rfl⟩:=c;exact aaM (eU a b (by simp)))|_=>exact absurd (show ax=ai from d) d8)|int i=>(obtain⟨t,rfl⟩:=f;cases e with|non=>cases c;exact aaN (eU a b (by simp))|int j=>(obtain⟨t',rfl⟩:=c;exact eq_int (eU a b G5))|str j=>(obtain⟨t',rfl⟩:=c;exact aaO (eU a b (by simp)))|_=>exact absurd (show ax=ai from d) d8)|str i=>(obtain⟨t,rfl⟩:=f;cases e with|non=>cases c;exact aaP (eU a b (by simp))|bl j=>cases c;exact aaQ (eU a b (by simp))|int j=>(obtain⟨t',rfl⟩:=c;exact aaR (eU a b (by simp)))|str j=>(obtain⟨t',rfl⟩:=c;exact eq_str (eU a b G7))|_=>exact absurd (show ax=ai from d) d8)|byt i=>(obtain⟨t,rfl⟩:=f;cases e with|byt j=>(obtain⟨t',rfl⟩:=c;exact PySem.W.eq_bytes (eU a b G8))|_=>exact absurd (show ax=ai from d) d8)|_=>cases e<;>exact absurd (show ax=ai from d) d8
def v3:gj X (kO .NotEq) Sm:=by intro af s _ H x e v u _ a f c h;obtain⟨d,b⟩:=h;cases x with|non=>(cases f;cases e with|non=>cases c;exact aaS (eU a b (by simp))|bl j=>cases c;exact aaT (eU a b (by simp))|int j=>(obtain⟨t',rfl⟩:=c;exact aaU (eU a b (by simp)))|str j=>(obtain⟨t',rfl⟩:=c;exact aaV (eU a b (by simp)))|_=>exact absurd (show ax=ai from d) d8)|bl i=>(cases f;cases e with|non=>cases c;exact aaW (eU a b (by simp))|bl j=>cases c;exact ne_bool (eU a b (dR not G6))|str j=>(obtain⟨t',rfl⟩:=c;exact aaX (eU a b (by simp)))|_=>exact absurd (show ax=ai from d) d8)|int i=>(obtain⟨t,rfl⟩:=f;cases e with|non=>cases c;exact aaY (eU a b (by simp))|int j=>(obtain⟨t',rfl⟩:=c;exact ne_int (eU a b (dR not G5)))|str j=>(obtain⟨t',rfl⟩:=c;exact aaZ (eU a b (by simp)))|_=>exact absurd (show ax=ai from d) d8)|str i=>(obtain⟨t,rfl⟩:=f;cases e with|non=>cases c;exact aa0 (eU a b (by simp))|bl j=>cases c;exact aa1 (eU a b (by simp))|int j=>(obtain⟨t',rfl⟩:=c;exact aa2 (eU a b (by simp)))|str j=>(obtain⟨t',rfl⟩:=c;exact ne_str (eU a b (dR not G7)))|_=>exact absurd (show ax=ai from d) d8)|byt i=>(obtain⟨t,rfl⟩:=f;cases e with|byt j=>(obtain⟨t',rfl⟩:=c;exact PySem.W.ne_bytes (eU a b (dR not G8)))|_=>exact absurd (show ax=ai from d) d8)|_=>cases e<;>exact absurd (show ax=ai from d) d8
def v5:gj X (kO .Lt) (iW λi j=>.bl (decide (i<j))):=vZ λ_ _ _ _ _ _ _ a=>lt_int a
def g8:gj X (kO .LtE) (iW λi j=>.bl (decide (i<=j))):=vZ λ_ _ _ _ _ _ _ a=>le_int a
def gD:gj X (kO .Gt) (iW λi j=>.bl (decide (j<i))):=vZ λ_ _ _ _ _ _ _ a=>gt_int a
def iX:gj X (kO .GtE) (iW λi j=>.bl (decide (j<=i))):=vZ λ_ _ _ _ _ _ _ a=>ge_int a
def cm(b:bx){a:qx}(h:a≠ .In:=by decide)(e:a≠ .NotIn:=by decide):qy a b=ax:=by(have c:(a==CmpOp.In)=ax:=by cases a<;>first|rfl|exact absurd rfl h);(have d:(a==Ov)=ax:=by cases a<;>first|rfl|exact absurd rfl e);cases b<;>simp[qy,c,d]
def jw{c:qx}{r:R2}(l:gj X (kO c) r)(i:PE X a ta)(j:PE X b tb)(k:qy c b=ax):PE X (.Compare a [c] [b] a8) (gR r ta tb):=by intro af s t H g e h;exact wpAny_Compare1 (BX i j e h λv u p x q d f n o m=>l af p t d x q v u g f n o m) k
def mP(t:TE):TT:=λc H b=>t c H λx a=>GG x λk=>b k a
def cO{d:qx}{r:R2}(t:gj X (kO d) r)(o:PE X a ta)(p:PE X b tb)(q:qy d b=ax):PT X (.Compare a [d] [b] a8) (mP (gR r ta tb)):=by intro af s f H _ j h;refine Ow (S (o af s f H _ j h) λv I⟨x,H1,l,B,w⟩=>S (p af I f H1 _ l w) λu J⟨K,g,m,C,y⟩=>S (t af J f g x K v u _ m B C y) λc _⟨_,i,n,E,k,e,A⟩=>?_) q;subst e;cases E;exact nJ #v[i,n,A]
def G9(r g:R2)(ta tb tc:TE):TE:=λa H c=>ta a H λx H1=>tb a H1 λd e=>r x d e λi b=>∃k,i=.bl k/\(if k=ai then tc a b λh f=>g d h f c else c (.bl ax) b)
def n5{g i:qx}{r n:R2}(R:gj X (kO g) r)(T:gj X (kO i) n)(K:PE X a ta)(L:PE X b tb)(N:PE X c tc)(P:lastMarks [g,i] [b,c]=ax:=by with_unfolding_all rfl):PT X (.Compare a [g,i] [b,c] a8) (mP (G9 r n ta tb tc)):=by intro af s f H _ y h;refine isTrue_chain (S (K af s f H _ y h) λv ak⟨x,H1,A,ac,V⟩=>test_link (S (L af ak f H1 _ A V) λu al⟨p,q,B,o,W⟩=>S (R af al f q x p v u _ B ac o W) λd am⟨_,j,l,ad,k,e,m⟩=>?_)) P;subst e;cases ad;refine nJ ?_;cases k with|false=>(obtain⟨_,I,U⟩:=m;cases I;exact ite_ff ⟨j,l,U⟩)|true=>refine ite_tt (test_last (S (N af am f j _ l m) λao an⟨ap,t,C,ag,Y⟩=>S (T af an f t p ap u ao _ C o ag Y) λd' _⟨_,w,E,ah,_,J,Z⟩=>?_));subst J;cases ah;exact nJ #v[w,E,Z]
def v7:(bu:Nat)<2^63:=by rw[bZ];decide
def vals1{x:V}{us:aa D}(r:J [x] us):∃u,us=[u]/\RelV x u:=by cases r with|cons a b=>cases b;exact#v[_,I,a]
def vals2{x b:V}{us:aa D}(r:J [x,b] us):∃u a,us=[u,a]/\RelV x u/\RelV b a:=by cases r with|cons c d=>cases d with|cons e f=>cases f;exact#v[_,_,I,c,e]
def B2(d:X.calm=ai):ko X (.builtin "max") (λxs H c=>∃i j,xs=[.int i,.int j]/\c (.int (if j>i then j else i)) H):=by(intro af s _ H xs us c b r h;obtain⟨i,j,rfl,e⟩:=h;obtain⟨u,_,rfl,⟨t,rfl⟩,⟨t',rfl⟩⟩:=vals2 r;refine max_two_ints (b.ok.hd d) λh' tk k=>#v[_,H,b.kept k,?_,e]);by_cases a:j>i;(rw[aI a,aI a];exact#v[_,I]);rw[aD a,aD a];exact#v[_,I]
end
structure pM(h:aZ)(x dx C:U)(mA:M->ab D):Prop where
 obj:h.get? x=O (oY C dx)
 ns:h.Ns1 dx mA
 ne:dx≠x
def Sn{h:aZ}{dx:U}{d:M->ab D}(n:h.Ns1 dx d):∃f,h.get? dx=O f/\∀name,Ad name f=O (d name):=by obtain⟨o,c,_,p,j,k,_,m⟩:=n;refine#v[o,p,λname=>?_];have e:=m name;unfold nsFind findBy at e;rw[<-Array.find?_toList]at e;unfold Ad;rw[j];dsimp only;split;(rename_i g b;rw[b]at e;exact dR O e);(rename_i b;rw[b]at e;have a:c.toList.any (·.refKey)=ax:=by rw[List.any_eq_false];intro g q;obtain⟨_,t,l⟩:=k g (OB.mp q);simp[DictEntry.refKey,l]);have i:¬c.toList.any (·.refKey)=ai:=(by rw[a];exact d8);rw[aD i];exact dR O e
def pM.look{h:aZ}{x dx C:U}{c:M->ab D}(b:pM h x dx C c):∃a,OC h x (oY C dx) C (O a)/\∀name,Ad name a=O (c name):=let #v[a,e,d]:=Sn b.ns
 #v[a,#v[b.obj,I,I,e],d]
section
variable{bW:cx}{w:bR}{A:cQ}{E:D->au->Prop}{s:au}{K:bj}{x dx C f:U}{mA:M->ab D}{name:M}{v:D}
def aaB{c:Bool}{a:D->au->Prop}(X:K.In s.heap)(b:pM s.heap x dx C mA)(e:uT K C name=ai)(f:Ae K C=ai)(d:ke K (.ref C) name=O aj)(i:mA name=O v)(j:OD v=ai)(h:a v {s with toks:=s.toks+1}):aG (aU bW w) A (getAttr (.ref x) name c) a E s:=by obtain⟨_,J,g⟩:=b.look;exact PySem.W.get_value X J (EG e).1 (PySem.W.findObj_own f d I (by rw[g,i])) j h
def So{k:gg Bool}{a:D×aa D->au->Prop}(X:K.In s.heap)(c:pM s.heap x dx C mA)(b:uT K C name=ai)(d:ke K (.ref C) name=O (O (.ref f)))(g:uU K (.ref f)=ai)(i:mA name=aj)(h:a (.ref f,[.ref x]) s):aG (aU bW w) A (qD (.ref x) name k) a E s:=by obtain⟨j,J,e⟩:=c.look;exact PySem.W.method_fn X J (EG b).1 (EG b).2 d (jf.mp g) (by show(Ad name j).map (·.isSome)=O ax;rw[e,i];rfl) h
def Sq{ns:aa M}{c:Unit->au->Prop}(X:K.In s.heap)(a:pM s.heap x dx C mA)(o:ke K (.ref C) "__setattr__"=O (O (.builtin "object.__setattr__")))(n:EH K C=ai)(p:EI K C name=O aj)(l:Ae K C=ai)(q:EA mA ns)(t:ns.length<=bu)(h:∀h',pM h' x dx C (λf=>if f=name then O v else mA f)->l9 dx s.heap h'->c () {s with heap:=h',toks:=s.toks+2}):aG (aU bW w) A (setAttr (.ref x) name v) c E s:=by obtain⟨_,J,_⟩:=a.look;refine PySem.W.set_plain X J o (PySem.W.osa_open (s:={s with toks:=s.toks+1}) (r:=aj) X J n p λ_=>?_);obtain⟨_,g,j⟩:=PySem.W.any_some l;have r:s.heap.get? x=O #v[.ref C,O dx,.plain,#[]]:=a.obj;refine av (aV (av (av (wpAny_loadPart r (av (aa3 (s:={s with toks:=s.toks+1}) (PySem.W.looks_clsIn X g) ?_))))));rw[j];refine aV (a:=O dx) (av (aV (av ?_)));refine wpAny_nsSet1 (s:={s with toks:=s.toks+1}) a.ns λh' d e=>?_;obtain⟨_,_,_,m,k,i⟩:=d.count (aa4 name v q);refine av (wpAny_lookBehind m (by rw[k];exact pastItsLine_dict (dQ i (by rw[cU];lia))) ?_);exact aV (h _ #v[(e.2 _ (Ne.symm a.ne)).trans a.obj,d,a.ne] e)
def Sr{R:uV->au->Prop}{vs:aa D}{a:aa (M×D)}(X:K.In s.heap)(e:EJ K C=ai)(c:ke K (.ref C) "__init__"=O (O (.ref f)))(b:PySem.W.typeIn K (.ref f)=O (.type "function"))(h:kP (aU bW w) (A.under (.builtin "type.__call__" #v[.ref C::vs,a])) (.call (.ref f) #v[.ref (s.heap.objs.size+1)::vs,a]) (PySem.W.InitBack (s.heap.objs.size+1) R) {s with heap:=(s.heap.push nN).push (oY C s.heap.objs.size)}):kP (aU bW w) A (.call (.ref C) #v[vs,a]) R s:=by obtain⟨_,g,d,t,os⟩:=s;exact PySem.W.make_core (PySem.W.makes_of X e) (PySem.W.looks_findIn X c) (λi=>PySem.W.bind_fn X i b) (.inl I) h
end
def cz(f:M)(v:V):aa (M×V)->aa (M×V)
 | []=>[(f,v)]
 |(g,x)::r=>if g=f then(g,v)::r else(g,x)::cz f v r
def G_(f g:M)(v:V):∀c:aa (M×V),(cz f v c).lookup g=if g=f then O v else c.lookup g
 | []=>by
  show o2 g [(f,v)]=_;by_cases h:g=f
  ·have a:(g==f)=ai:=jf.mpr h;simp only[o2,a,aI h]
  ·have a:(g==f)=ax:=qu.mpr h;simp only[o2,a,aD h]
 |(k,x)::r=>by
  have d:=G_ f g v r;rw[show cz f v ((k,x)::r)=(if k=f then(k,v)::r else(k,x)::cz f v r)from I];by_cases b:k=f
  ·rw[aI b];by_cases h:g=k
   ·have a:(g==k)=ai:=jf.mpr h;simp only[o2,a,aI (h.trans b)]
   ·have a:(g==k)=ax:=qu.mpr h;simp only[o2,a,aD (λe:g=f=>h (e.trans b.symm))]
  ·rw[aD b];by_cases h:g=k
   ·have a:(g==k)=ai:=jf.mpr h;simp only[o2,a,aD (λe:g=f=>b (h.symm.trans e))]
   ·have a:(g==k)=ax:=qu.mpr h;simp only[o2,a];exact d
def B3(f:M)(v:V):∀a:aa (M×V),f∈(cz f v a).map (·.1)/\∀g,g∈a.map (·.1)->g∈(cz f v a).map (·.1)
 | []=>#v[by simp[cz],λg h=>by simp at h]
 |(k,x)::r=>by
  obtain⟨c,d⟩:=B3 f v r;rw[show cz f v ((k,x)::r)=(if k=f then(k,v)::r else(k,x)::cz f v r)from I];by_cases b:k=f
  ·rw[aI b];subst b;exact#v[by simp,λg h=>by simpa using h]
  ·rw[aD b];refine#v[?_,λg h=>?_]
   ·rw[cI];exact cw _ c
   ·rw[cI]at h⊢;rcases bL.mp h with e|e
    ·exact bL.mpr (.inl e)
    ·exact cw _ (d g e)
def Ha(f:M)(v:V):∀a:aa (M×V),(cz f v a).length<=a.length+1
 | []=>by simp[cz]
 |(k,x)::r=>by
  have c:=Ha f v r;rw[show cz f v ((k,x)::r)=(if k=f then(k,v)::r else(k,x)::cz f v r)from I];by_cases b:k=f
  ·rw[aI b,cU,cU];lia
  ·rw[aD b,cU,cU];lia
def gO.some_of{v:V}{o:ab D}(r:gO (O v) o):∃u,o=O u/\RelV v u:=by cases o with|none=>exact(show False from r).elim|some u=>exact⟨u,I,r⟩
def gO.none_of{o:ab D}(r:gO aj o):o=aj:=by cases o with|none=>rfl|some u=>exact(show False from r).elim
def Ss{v:V}{u:D}(r:RelV v u):OD u=ai:=by cases v with|non=>cases (show u=kN from r);rfl|bl b=>cases (show u=ji b from r);rfl|int i=>(obtain⟨t,e⟩:=(show∃t,u=ir i t from r);cases e;rfl)|str x=>(obtain⟨t,e⟩:=(show∃t,u=Value.str x t from r);cases e;rfl)|byt b=>(obtain⟨t,e⟩:=(show∃t,u=Om b t from r);cases e;rfl)|flt b=>(obtain⟨t,e⟩:=(show∃t,u=Oo b t from r);cases e;rfl)|ref a=>cases (show u=cP a from r);rfl|ty n=>cases (show u=iP n from r);rfl
section
variable{P:cx}{w:bR}{H H':Hp}{h h':aZ}{a C dx:U}{fs abj:aa (M×V)}
def v8(c:eu P w H h)(e:H a=O (.ins C dx fs)):∃b,pM h a dx C b/\(∀f,gO (fs.lookup f) (b f))/\EA b (fs.map (·.1))/\fs.length<=1000/\H dx=O (.own a):=by obtain⟨d,k,g,i,b,n,r,j⟩:=(show eT P w H h a (.ins C dx fs)from c a _ e);exact#v[b,#v[i,n,g],r,j,k,d]
end
structure k4(K:bj)(C:U):Prop where
 pg:uT K C Str.empty=ai
 hd:Ae K C=ai
 po:EH K C=ai
 sa:ke K (.ref C) "__setattr__"=O (O (.builtin "object.__setattr__"))
def k4.get{K:bj}{C:U}(c:k4 K C)(f:M):uT K C f=ai:=c.pg
def dI(K:bj)(C:U)(f:M):Prop:=ke K (.ref C) f=O aj
def dI.Su{K:bj}{C:U}{f:M}(n:dI K C f):EI K C f=O aj:=by unfold EI;rw[show ke K (.ref C) f=O aj from n];rfl
structure uF(K:bj)(C:U)(m:M)(f:U):Prop where
 at_:ke K (.ref C) m=O (O (.ref f))
 fn:uU K (.ref f)=ai
 kp:mc K (.ref f)=ai
section
variable{X:Cx}{af:aa (U×a9)}{σ:St}{H:Hp}{s:au}{a C dx:U}{fs:aa (M×V)}{f:M}{v:V}{A:cQ}{E:D->au->Prop}
def Hb{j:Bool}{d:D->au->Prop}(b:Inv X af σ H s)(e:H a=O (.ins C dx fs))(c:k4 X.K C)(n:dI X.K C f)(l:fs.lookup f=O v)(h:∀u s',Inv X af σ H s'->RelV v u->d u s'):aG (aU X.prog X.w) A (getAttr (.ref a) f j) d E s:=by obtain⟨m,i,r,_,_,_⟩:=v8 b.bA e;obtain⟨u,k,g⟩:=gO.some_of (v:=v) (o:=m f) (by rw[<-l];exact r f);exact aaB b.g7 i (c.get f) c.hd n k (Ss g) (h u _ (b.tok _) g)
def B4{m:M}{g:U}{n:gg Bool}{d:D×aa D->au->Prop}(b:Inv X af σ H s)(e:H a=O (.ins C dx fs))(c:k4 X.K C)(k:uF X.K C m g)(l:fs.lookup m=aj)(h:d (.ref g,[.ref a]) s):aG (aU X.prog X.w) A (qD (.ref a) m n) d E s:=by obtain⟨j,f,r,_,_,_⟩:=v8 b.bA e;have i:j m=aj:=gO.none_of (by rw[<-l];exact r m);exact So b.g7 f (c.get m) k.at_ k.fn i h
def Hc{d:V}{u:D}{m:Unit->au->Prop}(i:Inv X af σ H s)(e:H a=O (.ins C dx fs))(c:k4 X.K C)(n:dI X.K C f)(L:fs.length<1000)(J:RelV d u)(h:∀s',Inv X af σ (Y H a (.ins C dx (cz f d fs))) s'->m () s'):aG (aU X.prog X.w) A (setAttr (.ref a) f u) m E s:=by
 obtain⟨q,j,r,t,_,p⟩:=v8 i.bA e;have I:(fs.map (·.1)).length<=bu:=by rw[aq,bZ];lia
 refine Sq i.g7 j c.sa c.po n.Su c.hd t I λh' k K=>h _ ?_;have z:∃o,h'.get? dx=O o:=let #v[o,_,_,w,_]:=k.ns;#v[o,w];refine i.write (x:=a) (e:=dx) (by rw[e];exact True.intro) (.inr p) (λv b y l=>(K.2 v y).trans l) z ?_;refine#v[by rw[aw j.ne];exact p,?_,j.ne,k.obj,_,k.ns,λg=>?_,λg B=>?_]
 ·have:=Ha f d fs;lia
 ·show gO ((cz f d fs).lookup g) (if g=f then O u else q g);rw[G_];by_cases b:g=f
  ·rw[aI b,aI b];exact J
  ·rw[aD b,aD b];exact r g
 ·by_cases b:g=f
  ·rw[b];exact(B3 f d fs).1
  ·refine(B3 f d fs).2 g (t g λl=>B ?_);show(if g=f then O u else q g)=aj;rw[aD b];exact l
def Inv.made(f:Inv X af σ H s):Inv X af σ (Y (Y H s.heap.objs.size (.own (s.heap.objs.size+1))) (s.heap.objs.size+1) (.ins C s.heap.objs.size [])) {s with heap:=(s.heap.push nN).push (oY C s.heap.objs.size)}:=by(have c:(s.heap.push nN).get? s.heap.objs.size=O nN:=eo s.heap I;have i:((s.heap.push nN).push (oY C s.heap.objs.size)).get? (s.heap.objs.size+1)=O (oY C s.heap.objs.size):=by have:=eo (s.heap.push nN) (o:=oY C s.heap.objs.size) I;rwa [gw]at this);have j:(s.heap.push nN).Ns s.heap.objs.size (λ_=>aj):=#v[nN,#[],_,c,I,(λe k=>absurd k (by simp)),λ_=>rfl];have g:=f.laid (a:=s.heap.objs.size) (o:=.own (s.heap.objs.size+1)) (h':=s.heap.push nN) (t':=s.toks) (λh u b=>dd _ b) (bp _) #v[_,c];refine g.laid (a:=s.heap.objs.size+1) (o:=.ins C s.heap.objs.size []) (t':=s.toks) (λh u b=>dd _ b) (uM (gw _ _)) ?_;have d:s.heap.objs.size≠s.heap.objs.size+1:=er (qE _);refine#v[by rw[aw d,az],dc _,d,i,λ_=>aj,(Heap.Ns1.of_empty j).at λo b=>dd _ b,λ_=>True.intro,λ_ l=>absurd I l]
def Sv{b:cx}{w:bR}{a:fi}{e:bx}{f:M}{g:c7}{s:au}{c:D->au->Prop}(d:o3 e f a (bU e a)=bU e a)(h:aG (aU b w) A (bU e a) (λo i=>aG (aU b w) A (getAttr o f ai) c E i) E s):aG (aU b w) A (bU (.Attribute e f g) a) c E s:=Attribute_any_ h (by rw[arm_eval_Attribute,d])
end
inductive B5(K:bj)(H:Hp)(f:M)(Q:U->U->V->Prop)(x:V):Prop|mk{a C dx:U}{fs:aa (M×V)}{v:V}(ex:x=.ref a)(ea:H a=O (.ins C dx fs))(c:k4 K C)(n:dI K C f)(l:fs.lookup f=O v)(q:Q a C v):B5 K H f Q x
def fm(K:bj)(b:TE)(f:M):TE:=λc H a=>b c H λx H1=>B5 K H1 f (λ_ _ v=>a v H1) x
inductive Sw(K:bj)(f:M)(H:Hp)(x:V)(Q:U->HO->Prop)(y:V):Prop|mk(a C dx:U)(fs:aa (M×V))(e:x=.ref a)(h:H a=O (.ins C dx fs))(c:k4 K C)(n:dI K C f)(l:fs.length<1000)(q:Q a (.ins C dx (cz f y fs)))
def Sx(K:bj)(e g:TE)(f:M):TS:=λd b H=>g b H λh H1=>e b H1 λx c=>Sw K f c x (λa o=>d.nx b (Y c a o)) h
def Hd(X:Cx)(d:Operator)(e:V->V->Hp->VK->Prop):Prop:=∀(af:aa (U×a9))(s:au)(c:St)(H:Hp)(x b:V)(u v:D)(a:VK),Inv X af c H s->RelV x u->RelV b v->e x b H a->aG (aU X.prog X.w) X.A (inplaceOp d u v) (EP X af c a) X.xe s
def Sy(K:bj)(j k:TE)(i:V->V->Hp->VK->Prop)(f:M):TS:=λg c H=>j c H λx H1=>B5 K H1 f (λa C v=>k c H1 λl h=>i v l h λm d=>∃e b,d a=O (.ins C e b)/\b.length<1000/\g.nx c (Y d a (.ins C e (cz f m b)))) x
section
variable{X:Cx}{o e my:bx}{f:M}{a8 kj Qv:c7}{ta tv:TE}
def He(m:PE X e ta)(k:o3 e f X.env (bU e X.env)=bU e X.env):PE X (.Attribute e f a8) (fm X.K ta f):=by intro af s q H _ b h;refine Sv k (S (m af s q H _ b h) λu _⟨x,H1,d,p,a⟩=>?_);cases a with|mk j i c n l a=>subst j;cases p;exact Hb d i c n l λ_ _ g o=>#v[_,H1,g,o,a]
def cF(m:PE X o ta)(q:PE X my tv)(p:oZ my (O (.Attribute o f kj)) a8.line X.env=pure ax):PS X (.Assign [.Attribute o f kj] my a8) (Sx X.K ta tv f):=by intro af s b H _ d h;refine plainObj_wpAny_Assign_Attribute (S (q af s b H _ d h) λu A⟨_,H1,e,z,t⟩=>S (m af A b H1 _ e t) λr _⟨x,_,g,w,a,C,dx,_,k,j,c,n,l,v⟩=>?_) p;subst k;obtain rfl:r=cP a:=w;exact Hc g j c n l z λ_ i=>#v[b,_,i,v]
def tD{d:Operator}{e:V->V->Hp->VK->Prop}(w:PE X o ta)(A:PE X my tv)(y:Hd X d e):PS X (.AugAssign (.Attribute o f Qv) d my a8) (Sy X.K ta tv e f):=by intro af s a H _ i h;refine wpAny_AugAssign_AttributeAny (S (w af s a H _ i h) λ_ _⟨x,H1,j,J,b⟩=>?_);cases b with|mk v r c n l b=>subst v;cases J;refine Hb j r c n l λu N k I=>S (A af N a H1 _ k b) λQ P⟨R,g,m,K,C⟩=>S (y af P a g _ R u Q _ m I K C) λ_ _⟨_,_,p,L,_,_,t,B,E⟩=>?_;exact Hc p t c n B L λ_ q=>#v[a,_,q,E]
def Sz:V->V->Hp->VK->Prop:=λx b H a=>∃i j,x=.int i/\b=.int j/\a (.int (i+j)) H
def tE:Hd X .Add Sz:=by rintro af s _ H x _ u v _ a c d ⟨i,j,rfl,rfl,b⟩;obtain⟨t,rfl⟩:=(show∃t,u=ir i t from c);obtain⟨t',rfl⟩:=(show∃t',v=ir j t' from d);exact aa5 #v[.int (i+j),H,a.tok _,#v[_,I],b]
end
structure ew(k:Nat)(A:cQ):Prop where
 hd:A.handled=aj
 dp:A.depth+3*k+5<recursionLimit
 un:A.units+16*k+200<hH
def ew.mono{j k:Nat}{A:cQ}(r:ew k A)(h:j<=k):ew j A:=#v[r.hd,by have:=r.dp;lia,by have:=r.un;lia]
def ew.deeper{k:Nat}{A:cQ}(r:ew (k+1) A)(a:fi):ew k (A.deeper a):=#v[r.hd,by have:=r.dp;show A.depth+1+3*k+5<_;lia,by have:=r.un;show A.units+3+16*k+200<_;lia]
def SA{A:cQ}{C:U}{us:aa D}{a:aa (M×D)}:(A.under (.builtin "type.__call__" #v[.ref C::us,a])).depth=A.depth+1:=by first|rfl|simp[EL,Code.weight,Code.isCreation,Code.isGuard,Code.isCaller,OE,EM,guardIds]
def SD{A:cQ}{C:U}{us:aa D}{a:aa (M×D)}:(A.under (.builtin "type.__call__" #v[.ref C::us,a])).units=A.units+1:=by first|rfl|simp[EL,Code.cUnits,OE,EM]
def ew.make{k:Nat}{A:cQ}(r:ew (k+1) A)(C:U)(us:aa D)(a:aa (M×D)):ew k (A.under (.builtin "type.__call__" #v[.ref C::us,a])):=#v[r.hd,by have:=r.dp;rw[SA];lia,by have:=r.un;rw[SD];lia]
def ew.depth{k:Nat}{A:cQ}(r:ew k A):A.depth<recursionLimit:=by have:=r.dp;lia
def ew.units{k:Nat}{A:cQ}(r:ew k A):A.units+64<hH:=by have:=r.un;lia
def fo:TA:=λ_ H a=>a [] H
def eC(d:TE)(e:TA):TA:=λa H c=>d a H λx H1=>e a H1 λxs b=>c (x::xs) b
section
variable{X:Cx}{e:bx}{es:aa bx}{te:TE}{t:TA}{a8:c7}
def gk:PA X [] fo:=λ_ _ _ _ H _ a h=>qG #v[[],H,a,.nil,h]
def dm(g:PE X e te)(i:PA X es t)(j:cu (e::es) X.env=(ax,bU e X.env)::cu es X.env:=by rfl):PA X (e::es) (eC te t):=by intro a8 af s a H _ c h;rw[j];show aG _ _ (spliced ((ax,bU e X.env)::fF a8 (cu es X.env))) _ _ s;refine nQ (S (g af s a H _ c h) λu o⟨x,H1,d,m,k⟩=>?_);exact S (i a8 af o a H1 _ d k) λus _⟨xs,b,f,n,l⟩=>#v[x::xs,b,f,.cons m n,l]
def pN(t:TA):TE:=λb H a=>t b H λxs H1=>xs.length<=bu/\∀p,H1 p=aj->a (.ref p) (Y H1 p (.tup xs))
def v9(t:TA):TE:=λb H a=>t b H λxs H1=>xs.length<=bu/\∀p,H1 p=aj->a (.ref p) (Y H1 p (.lst xs))
def kr{k}(h:PA X es t):PE X (.Tuple es k a8) (pN t):=by intro af s l H _ f i;refine wpAny_Tuple_spliced (S (h a8 af s l H _ f i) λus a⟨xs,H1,c,r,d,j⟩=>#v[by rw[<-r.length];exact d,?_]);have g:H1 a.heap.objs.size=aj:=c.bA.fresh (bp _);refine#v[.ref a.heap.objs.size,Y H1 a.heap.objs.size (.tup xs),c.laid (t':=a.toks) (λ_ u e=>dd _ e) (bp _) ?_,I,j _ g];exact#v[d,us,r,#v[_,eo _ rfl,I,_,I]]
def bO(h:PA X es t):PE X (.List es a8) (v9 t):=by intro af s k H _ f i;refine wpAny_List_spliced (S (h a8 af s k H _ f i) λus a⟨xs,H1,c,r,d,j⟩=>#v[by rw[<-r.length];exact d,?_]);have g:H1 a.heap.objs.size=aj:=c.bA.fresh (bp _);refine#v[.ref a.heap.objs.size,Y H1 a.heap.objs.size (.lst xs),c.laid (t':=a.toks) (λ_ u e=>dd _ e) (bp _) ?_,I,j _ g];exact#v[d,us,0,r,eo _ rfl]
end
abbrev Sp:=aa V->Hp->VK->XK->Prop
abbrev jx:=aa fi->Hp->au->XK->D->au->Prop
structure pO(P:cx)(w:bR)(K:bj)(mg:M->ab D)(base:aZ)(A:cQ)(outer:aa fi)(s:au)(H:Hp):Prop where
 frames:A.frames=O outer
 mod:Mod K mg base
 bs:∀b o,base.get? b=O o->s.heap.get? b=O o/\H b=aj
 lI:base.objs.size<=s.heap.objs.size
 kn:s.heap.FunFrames base outer
 pK:∀b∈kY outer,H b=aj
 bA:eu P w H s.heap
 bare:qw s.gens
def CE(c:aa fi)(P:cx)(w:bR)(H:Hp)(s:au)(b:VK)(u:D)(s':au):Prop:=∃v a,s'.os=s.os/\qw s'.gens/\Un (kY c) [] H a s.heap s'.heap/\eu P w a s'.heap/\RelV v u/\b v a
def CR(CX:jx)(a:aa fi)(P:cx)(w:bR)(H:Hp)(s:au)(b:VK)(E:XK)(r:uV)(s':au):Prop:=match r with
 |.ok (.ret u)=>CE a P w H s b u s'
 |.ok _=>False
 |.error e=>CX a H s E e s'
structure bf(P:cx)(w:bR)(K:bj)(mg:M->ab D)(base:aZ)(CX:jx)(k:Nat)(f:U)(fd:bV)(ps:aa M)(sp:Sp):Prop where
 len:∀vs H Q E,sp vs H Q E->vs.length=ps.length
 run:∀(A:cQ)(outer:aa fi)(s:au)(H:Hp)(args:Args)(us:aa D)(vs:aa V)(Q:VK)(E:XK),ew k A->pO P w K mg base A outer s H->r9 s fd args (ps.zip us)->J vs us->sp vs H Q E->kP (aU P w) A (.call (.ref f) args) (CR CX outer P w H s Q E) s
def bf.mono{P:cx}{w:bR}{K:bj}{mg:M->ab D}{aJ:aZ}{CX:jx}{j k:Nat}{f:U}{a:bV}{ps:aa M}{sp:Sp}(F:bf P w K mg aJ CX j f a ps sp)(h:j<=k):bf P w K mg aJ CX k f a ps sp:=#v[F.len,λA d s H args us vs b E c=>F.run A d s H args us vs b E (c.mono h)]
def bf.to{P:cx}{w:bR}{K:bj}{mg:M->ab D}{aJ:aZ}{CX:jx}{j:Nat}{f:U}{a:bV}{ps:aa M}{sp:Sp}(F:bf P w K mg aJ CX j f a ps sp)(k:Nat)(h:j<=k:=by decide):bf P w K mg aJ CX k f a ps sp:=F.mono h
def pO.make{P:cx}{w:bR}{K:bj}{mg:M->ab D}{aJ:aZ}{A:cQ}{a:aa fi}{s:au}{H:Hp}(e:pO P w K mg aJ A a s H)(C:U)(us:aa D)(b:aa (M×D)):pO P w K mg aJ (A.under (.builtin "type.__call__" #v[.ref C::us,b])) a s H:=#v[by first|exact e.frames|(simpa[EL,Code.envs,EM,pushEnvs]using e.frames),e.mod,e.bs,e.lI,e.kn,e.pK,e.bA,e.bare]
section
variable{X:Cx}{af:aa (U×a9)}{σ:St}{H:Hp}{s s':au}
def Inv.Hf(a:Inv X af σ H s):pO X.prog X.w X.K X.mg X.base X.A X.stack s H:=#v[a.ok.frames,a.ok.mod,a.bs,dQ a.ok.lI a.sz,a.stack,a.GB,a.bA,a.bare]
def Inv.after{a:VK}{u:D}(e:Inv X af σ H s)(h:CE X.stack X.prog X.w H s a u s'):EP X af σ a u s':=by obtain⟨v,c,os,f,m,j,r,l⟩:=h;obtain⟨i,g,d,t,k⟩:=s';obtain rfl:k=s.os:=os;exact#v[v,c,e.call (h':=i) (g':=g) (d':=d) (t':=t) (ch:=[]) m j f (λ_ n=>absurd n (by simp)),r,l]
end
def tF(sp:Sp)(fS:aa V)(E:XK)(t:TA):TE:=λb H a=>t b H λvs H1=>sp (vs++fS) H1 a E
inductive SE(C:U)(m:M)(H:Hp)(x:V)(q:Prop):Prop|mk(a dx:U)(fs:aa (M×V))(e:x=.ref a)(h:H a=O (.ins C dx fs))(l:fs.lookup m=aj)(k:q)
def n6(C:U)(m:M)(sp:Sp)(fS:aa V)(E:XK)(d:TE)(t:TA):TE:=λa H c=>d a H λx H1=>SE C m H1 x (t a H1 λvs b=>sp (x::(vs++fS)) b c E)
def Hg(C:U)(sp:Sp)(fS:aa V)(E:XK)(t:TA):TE:=λc H b=>t c H λvs H1=>∀x dx,H1 x=aj->H1 dx=aj->dx≠x->sp (.ref x::(vs++fS)) (Y (Y H1 dx (.own x)) x (.ins C dx [])) (λv a=>v=.non/\b (.ref x) a) E
def Binds(K:bj)(a:bV)(ps:aa M)(ds:aa D):Prop:=∀(s:au)(us:aa D),K.In s.heap->(us++ds).length=ps.length->r9 s a #v[us,[]] (ps.zip (us++ds))
def Binds.all{K:bj}{a:bV}{ps:aa M}(h:∀us:aa D,us.length=ps.length->nR a #v[us,[]]=pure (ps.zip us)):Binds K a ps []:=λs us _ b=>by rw[gY]at b⊢;exact .of_eq (h us b)
def oN(CX:jx)(X:Cx)(E:XK):Prop:=∀(af:aa (U×a9))(a:St)(H:Hp)(s:au)(e:D)(s':au),Inv X af a H s->CX X.stack H s E e s'->X.xe e s'
section
variable{X:Cx}{CX:jx}{k:Nat}{f C:U}{fd:bV}{ps:aa M}{sp:Sp}{fS:aa V}{ds:aa D}{E:XK}{x m:M}{p a8 fj:c7}{e o:bx}{es:aa bx}{ta:TE}{t:TA}
def v_{af:aa (U×a9)}{d:St}{H:Hp}{s:au}{c:VK}{us:aa D}{vs:aa V}(F:bf X.prog X.w X.K X.mg X.base CX k f fd ps sp)(n:ew k X.A)(j:Binds X.K fd ps ds)(l:J fS ds)(o:oN CX X E)(b:Inv X af d H s)(r:J vs us)(h:sp (vs++fS) H c E):aG (aU X.prog X.w) X.A (call (.ref f) us) (EP X af d c) X.xe s:=by(have g:J (vs++fS) (us++ds):=r.append l;have m:(us++ds).length=ps.length:=by rw[<-g.length];exact F.len _ _ _ _ h);refine Af (r_ (F.run X.A X.stack s H #v[us,[]] (us++ds) (vs++fS) c E n b.Hf (j s us b.g7 m) g h) λr s' a=>?_);cases r with|error e=>exact o af d H s e s' b a|ok i=>cases i with|ret u=>exact b.after a|next=>exact h7 a|brk=>exact h7 a|cont=>exact h7 a
def Hh(F:bf X.prog X.w X.K X.mg X.base CX k f fd ps sp)(q:ew k X.A)(l:Gl X x)(n:X.mg x=O (.ref f))(m:mc X.K (.ref f)=ai)(d:Binds X.K fd ps ds)(g:J fS ds)(u:oN CX X E)(c:PA X (e::es) t)(i:(x==("__debug__":M))=ax:=by decide)(j:cu (e::es) X.env=(ax,bU e X.env)::cu es X.env:=by rfl)(o:(fF a8 (cu es X.env)).any (·.1)=ax:=by rfl):PE X (.Call (.Name x p) (e::es) [] a8) (tF sp fS E t):=by intro af s w H _ a h;refine kQ (vR a l n ?_ i);refine Ag (h₀:=X.base) a.ok.mod.qX m (S (c a8 af s w H _ a h) λus _⟨vs,H1,b,r,v⟩=>#v[b.g7,?_]) j o;exact v_ F q d g u b r v
def Hi{n:gg Bool}(A:PE X o ta)(c:k4 X.K C)(i:uF X.K C m f)(F:bf X.prog X.w X.K X.mg X.base CX k f fd ps sp)(K:ew k X.A)(y:Binds X.K fd ps ds)(z:J fS ds)(P:oN CX X E)(w:PA X (e::es) t)(L:cu (e::es) X.env=(ax,bU e X.env)::cu es X.env:=by rfl)(B:(fF a8 (cu es X.env)).any (·.1)=ax:=by rfl)(N:bU (.Call (.Attribute o m fj) (e::es) [] a8) X.env=(do
   let j<-bU o X.env
   qz fj.atName
   let (f,first)<-l_ [j] (qD j m n)
   qF a8 f first (fF a8 (cu (e::es) X.env)) (nO a8 (nP [] X.env))):=by rfl):
  PE X (.Call (.Attribute o m fj) (e::es) [] a8) (n6 C m sp fS E ta t):=by
 intro af s p H _ b h;refine EK (pl:=n) (S (A af s p H _ b h) λu V⟨x,H1,d,U,a,dx,_,v,q,l,R⟩=>?_) N;subst v;obtain rfl:u=cP a:=U;refine B4 d q c i l ?_;refine Ag (first:=[.ref a]) (h₀:=X.base) b.ok.mod.qX i.kp (S (w a8 af V p H1 _ d R) λus _⟨vs,_,g,r,T⟩=>#v[g.g7,?_]) L B;exact v_ (us:=.ref a::us) (vs:=.ref a::vs) F K y z P g (.cons I r) T
def Hj{g:gg Bool}(r:PE X o ta)(c:k4 X.K C)(d:uF X.K C m f)(F:bf X.prog X.w X.K X.mg X.base CX k f fd ps sp)(t:ew k X.A)(p:Binds X.K fd ps ds)(q:J fS ds)(w:oN CX X E)(v:bU (.Call (.Attribute o m fj) [] [] a8) X.env=(do
   let e<-bU o X.env
   qz fj.atName
   let (f,first)<-l_ [e] (qD e m g)
   qF a8 f first (fF a8 (cu [] X.env)) (nO a8 (nP [] X.env))):=by rfl):
  PE X (.Call (.Attribute o m fj) [] [] a8) (n6 C m sp fS E ta fo):=by
 intro af s A H _ i h;refine EK (pl:=g) (S (r af s A H _ i h) λu _⟨x,H1,b,z,a,dx,_,n,j,l,y⟩=>?_) v;subst n;obtain rfl:u=cP a:=z;refine B4 b j c d l ?_;exact OF (first:=[.ref a]) b.g7 d.kp (v_ (us:=[.ref a]) (vs:=[.ref a]) F t p q w b (.cons I .nil) y)
structure Mk(K:bj)(C f:U):Prop where
 makes:EJ K C=ai
 init:ke K (.ref C) "__init__"=O (O (.ref f))
 fn:uU K (.ref f)=ai
 kp:mc K (.ref C)=ai
def Hk{af:aa (U×a9)}{g:St}{H:Hp}{s:au}{i:VK}{us:aa D}{vs:aa V}(d:Mk X.K C f)(F:bf X.prog X.w X.K X.mg X.base CX k f fd ps sp)(z:ew (k+1) X.A)(t:Binds X.K fd ps ds)(w:J fS ds)(A:oN CX X E)(b:Inv X af g H s)(r:J vs us)(h:∀x dx,H x=aj->H dx=aj->dx≠x->sp (.ref x::(vs++fS)) (Y (Y H dx (.own x)) x (.ins C dx [])) (λv n=>v=.non/\i (.ref x) n) E):aG (aU X.prog X.w) X.A (call (.ref C) us) (EP X af g i) X.xe s:=by(have j:=h (s.heap.objs.size+1) s.heap.objs.size (b.bA.fresh (Ah _)) (b.bA.fresh (bp _)) (er (qE _));have c:=Inv.made (C:=C) b;have l:J (V.ref (s.heap.objs.size+1)::(vs++fS)) (cP (s.heap.objs.size+1)::(us++ds)):=.cons I (r.append w);have y:(cP (s.heap.objs.size+1)::us++ds).length=ps.length:=by have e:=l.length;rw[F.len _ _ _ _ j]at e;exact e.symm);refine Af (Sr (f:=f) b.g7 d.makes d.init (jf.mp d.fn) (r_ (F.run _ X.stack _ _ #v[cP (s.heap.objs.size+1)::us,[]] (cP (s.heap.objs.size+1)::(us++ds)) _ _ E (z.make C us []) (c.Hf.make C us []) (t _ (cP (s.heap.objs.size+1)::us) c.g7 y) l j) λr s' a=>?_));cases r with|error e=>exact A af g _ _ e s' c a|ok q=>cases q with|ret u=>(obtain⟨v,m,o,K,p,B⟩:=c.after a;subst p;exact⟨K,⟨V.ref (s.heap.objs.size+1),m,o,I,B⟩⟩)|next=>exact h7 a|brk=>exact h7 a|cont=>exact h7 a
def lL(c:Mk X.K C f)(F:bf X.prog X.w X.K X.mg X.base CX k f fd ps sp)(q:ew (k+1) X.A)(m:Gl X x)(n:X.mg x=O (.ref C))(g:Binds X.K fd ps ds)(i:J fS ds)(u:oN CX X E)(d:PA X (e::es) t)(j:(x==("__debug__":M))=ax:=by decide)(l:cu (e::es) X.env=(ax,bU e X.env)::cu es X.env:=by rfl)(o:(fF a8 (cu es X.env)).any (·.1)=ax:=by rfl):PE X (.Call (.Name x p) (e::es) [] a8) (Hg C sp fS E t):=by intro af s w H _ a h;refine kQ (vR a m n ?_ j);refine Ag (h₀:=X.base) a.ok.mod.qX c.kp (S (d a8 af s w H _ a h) λus _⟨vs,H1,b,r,v⟩=>#v[b.g7,?_]) l o;exact Hk c F q g i u b r v
def SF(b:Mk X.K C f)(F:bf X.prog X.w X.K X.mg X.base CX k f fd ps sp)(j:ew (k+1) X.A)(g:Gl X x)(i:X.mg x=O (.ref C))(c:Binds X.K fd ps ds)(d:J fS ds)(l:oN CX X E)(e:(x==("__debug__":M))=ax:=by decide):PE X (.Call (.Name x p) [] [] a8) (Hg C sp fS E fo):=by intro af s _ H _ a h;refine kQ (vR a g i ?_ e);exact OF a.g7 b.kp (Hk (us:=[]) b F j c d l a .nil h)
end
structure W(N P:aa M)(sc:fO):Prop where
 kind:sc.kind=.function
 co:sc.isCoroutine=ax
 gen:sc.isGenerator=ax
 nd:N.Nodup
 pre:N.take P.length=P
 par:∀x∈P,sc.names.lookup x=O .local\/sc.names.lookup x=O .cell
 SG:∀y∈sc.names,y.2≠ .free
def Hl{kindOf:M->ab iu}{x:M}:∀ {a:aa (M×D)}{m:M->ab D},(∀v,(x,v)∉a)->o4 kindOf a m x=m x
 | [],_,_=>rfl
 |(n,v)::r,m,h=>by
  unfold o4;rw[Hl λw b=>h w (cw _ b)];split
  ·have:x≠n:=(by rintro rfl;exact h v cc);simp[this]
  ·rfl
def Hm{kindOf:M->ab iu}{x:M}:∀ {a:aa (M×D)}{m:M->ab D},(∀v,(x,v)∉a)->o5 kindOf a m x=m x
 | [],_,_=>rfl
 |(n,v)::r,m,h=>by
  unfold o5;rw[Hm λw b=>h w (cw _ b)];split
  ·rfl
  ·have:x≠n:=(by rintro rfl;exact h v cc);simp[this]
def Hn{kindOf:M->ab iu}{x:M}{v:D}:∀ {P:aa M}{vs:aa D}{i:Nat}{m:M->ab D},P.Nodup->P[i]? =O x->vs[i]? =O v->kindOf x=O .local->o4 kindOf (P.zip vs) m x=O v
 | [],_,_,_,_,h,_,_=>by simp at h
 |_::_,[],_,_,_,_,h,_=>by simp at h
 |p::P,w::vs,0,m,d,a,b,c=>by simp at a b;subst a;subst b;show o4 kindOf ((p,w)::P.zip vs) m p=_;unfold o4;rw[Hl λv e=>(fD.mp d).1 (Ai e).1,aI c];simp
 |p::P,w::vs,i+1,m,d,a,b,c=>by show o4 kindOf ((p,w)::P.zip vs) m x=_;unfold o4;exact Hn (i:=i) (fD.mp d).2 (by simpa using a) (by simpa using b) c
def Ho{kindOf:M->ab iu}{x:M}{v:D}:∀ {P:aa M}{vs:aa D}{i:Nat}{m:M->ab D},P.Nodup->P[i]? =O x->vs[i]? =O v->kindOf x≠O .local->o5 kindOf (P.zip vs) m x=O v
 | [],_,_,_,_,h,_,_=>by simp at h
 |_::_,[],_,_,_,_,h,_=>by simp at h
 |p::P,w::vs,0,m,d,a,b,c=>by simp at a b;subst a;subst b;show o5 kindOf ((p,w)::P.zip vs) m p=_;unfold o5;rw[Hm λv e=>(fD.mp d).1 (Ai e).1,aD c];simp
 |p::P,w::vs,i+1,m,d,a,b,c=>by show o5 kindOf ((p,w)::P.zip vs) m x=_;unfold o5;exact Ho (i:=i) (fD.mp d).2 (by simpa using a) (by simpa using b) c
def start(a:aa M)(vs:aa V):St:=vs.map O++fy (a.length-vs.length) aj
def pP(CX:jx)(P:cx)(w:bR)(K:bj)(mg:M->ab D)(aJ:aZ)(h:aa M)(b:M)(c:fO)(f:U)(a:D)(A:cQ)(d:aa fi)(s:au)(H:Hp)(E:XK):Cx where
 prog:=P
 w:=w
 K:=K
 mg:=mg
 base:=aJ
 A:=A.deeper (md b c s.heap.objs.size f a)
 N:=h
 g6:=s
 pJ:=H
 env:=md b c s.heap.objs.size f a
 outer:=d
 stack:=md b c s.heap.objs.size f a::d
 ex:=[]
 calm:=ai
 fn:=λ_=>ai
 pn:=[]
 xe:=λe s'=>aG (aU P w) (A.deeper (md b c s.heap.objs.size f a)) (leaving (md b c s.heap.objs.size f a) e) (λ_ g=>CX d H s E e g) (λi g=>CX d H s E i g) s'
def Hq{a:fO}{n:Nat}{x:M}(h:a.names.lookup x=O .cell):∃c,(gx n a.names []).lookup x=O c:=by have b:=OG a.names n [] (.inl h);exact zS.mp b
def SH{CX:jx}{P:cx}{w:bR}{K:bj}{mg:M->ab D}{aJ:aZ}{o ps:aa M}{C:M}{l:fO}{f:U}{y:D}{A:cQ}{N:aa fi}{s Y:au}{H:Hp}{E:XK}{us:aa D}{vs:aa V}(S:W o ps l)(ac:A.handled=aj)(g:pO P w K mg aJ A N s H)(af:vs.length=ps.length)(r:J vs us)(x:InCallC s s.heap.objs.size (o4 (md C l s.heap.objs.size f y).kindOf (ps.zip us) λ_=>aj) (gx (s.heap.objs.size+1) l.names []) (o5 (md C l s.heap.objs.size f y).kindOf (ps.zip us) λ_=>aj) Y):Inv (pP CX P w K mg aJ o C l f y A N s H E) [] (start o vs) H Y:=by(have ag:ps.length<=o.length:=by have:=dR Aj S.pre;rw[fE]at this;lia);obtain⟨z,tk,rfl,Q⟩:=x.done;have L:∀j:U,j∉(pP CX P w K mg aJ o C l f y A N s H E).ex:=λj q=>absurd (show j∈([]:aa U)from q) (by simp);refine#v[#v[g.mod,S.kind,I,I,bp _,λb q c z d=>?_,λb m=>?_,λb c _ h=>?_,λ_=>ac,Around.frames_deeper g.frames,.inr #v[I,I],λj q=>absurd q (L j),g.bs,g.lI,λj _ _=>L j,λj q=>absurd q (L j),g.kn,g.pK],I,g.bare,Un.kept Q,#v[_,x.toInCall.ns,λi b v z d _=>?_],λb c h=>#v[_,x.cell b c h],g.bA.fresh (bp _),λb c h=>?_,λp t=>absurd (show p∈([]:aa (U×a9))from t) (by simp),g.bA.kept Q,?_];(exact name_of_addr x.apart (iR z) (iR d));((have m:l.names.lookup b=O .cell\/l.names.lookup b=O .free:=m;rcases m with m|m);(exact Hq m);exact absurd I (S.SG _ (iR m)));(exact qm (x.above b c (iR h)));(·(have B:i<vs.length:=by unfold start at d;by_cases B:i<vs.length;(exact B);·rw[je (by simpa using B)]at d;rw[EN]at d;split at d<;>cases d);(have Z:vs[i]? =O v:=by unfold start at d;rw[il (by simpa using B),bN]at d;cases e:vs[i]?with|none=>rw[e]at d;cases d|some a=>rw[e]at d;cases d;rfl);(obtain⟨u,R,ad⟩:=r.get Z;have t:ps[i]? =O b:=by rw[<-S.pre,uW ∅];exact z);(have T:ps.Nodup:=(by rw[<-S.pre];exact S.nd.sublist (OH _ _));refine#v[u,ad,?_];rcases S.par b (dJ t)with k|k);(exact .inl #v[k,Hn T t R k]);obtain⟨c,e⟩:=Hq (n:=s.heap.objs.size+1) k;refine .inr #v[.inl k,c,e,?_];have X:=x.cell b c e;rw[Ho T t R (by show l.names.lookup b≠_;rw[k];decide)]at X;exact X);(exact g.bA.fresh (qm (x.above b c (iR h))));unfold start;show _=o.length;rw[cV,aq,qp];lia
def SJ{CX:jx}{P:cx}{w:bR}{K:bj}{mg:M->ab D}{aJ:aZ}{k:Nat}{f:U}{name i:M}{Z:Arguments}{y:aa a_}{b:fO}{R kV T pm h Q as:D}{N av:ab U}{aw:ae (ab D)}{g ps:aa M}{sp:Sp}(lk:K.lookup f=O #v[as,av,.func (nS name i Z y b R kV T pm N h Q),aw])(ak:uX K h i=ai)(S:W g ps b)(len:∀vs H c E,sp vs H c E->vs.length=ps.length)(ah:∀(A:cQ)(l:aa fi)(s:au)(H:Hp)(vs:aa V)(c:VK)(E:XK),ew k (A.deeper (md i b s.heap.objs.size f h))->sp vs H c E->∃t,iG (pP CX P w K mg aJ g i b f h A l s H E) y t/\t {nx:=λ_ d=>c .non d,rt:=c} (start g vs) H):bf P w K mg aJ CX (k+1) f (nS name i Z y b R kV T pm N h Q) ps sp:=by(refine#v[len,λA l s H args us vs c E z m ag r Y=>?_];have an:=len _ _ _ _ Y;have L:K.In s.heap:=m.mod.qX.keeps λq o e=>(m.bs q o e).1;have ar:s.heap.NoLimit:=m.mod.nolimit.keeps λq o e=>(m.bs q o e).1;have am:∀C∈ps.zip us,b.names.lookup C.1=O .local\/(b.names.lookup C.1=O .cell/\((gx (s.heap.objs.size+1) b.names []).lookup C.1).isSome=ai):=λ⟨n,v⟩ aq=>by rcases S.par n (Ai aq).1 with a|a;(exact .inl a);exact .inr #v[a,OG _ _ _ (.inl a)]);(refine codeAny_call_function z.depth (L _ _ lk) I S.co S.gen I (PySem.W.codeRec_of L ak) (ag _ _ _ _ ?_);refine wpAny_newFunctionEnv_cells S.kind am λ_ al ac x=>?_;subst al;refine#v[ar.keeps x.toInCall.keep,codeAny_func ?_];obtain⟨t,ap,ao⟩:=ah A l s H vs c E (z.deeper _) Y;have ad:Inv (pP CX P w K mg aJ g i b f h A l s H E) [] (start g vs) H ac:=SH S z.hd m an r x;refine kc (ap [] ac (start g vs) H _ ad ao) (λaf s' j=>?_) λe s' j=>j;have X:∀ {p:St}{d:Hp}{v:V}{u:D},Inv (pP CX P w K mg aJ g i b f h A l s H E) [] p d s'->RelV v u->c v d->CE l P w H s c u s':=λ{p d v u} J B a=>#v[v,d,J.os,J.bare,J.base,J.bA,B,a]);cases af with|ret u=>(obtain⟨v,p,d,J,B,a⟩:=j;exact X J B a)|next=>(obtain⟨p,d,J,a⟩:=j;exact X (v:=V.non) (u:=kN) J I a)|brk=>(obtain⟨_,_,_,a⟩:=j;exact h7 a)|cont=>obtain⟨_,_,_,a⟩:=j;exact h7 a
section
variable{X:Cx}{x:M}{p a8:c7}{e:bx}{es:aa bx}{t:TA}{id T:String}{r:aa V->Hp->VK->Prop}
def q7(r:aa V->Hp->VK->Prop)(t:TA):TE:=λb H a=>t b H λvs H1=>r vs H1 a
def iY(g:ko X (.builtin id) r)(k:Gl X x)(l:X.mg x=aj)(o:qv x=O (.builtin id))(f:PA X (e::es) t)(m:x≠"__name__":=by decide)(i:(x==("__debug__":M))=ax:=by decide)(j:cu (e::es) X.env=(ax,bU e X.env)::cu es X.env:=by rfl)(n:(fF a8 (cu es X.env)).any (·.1)=ax:=by rfl):PE X (.Call (.Name x p) (e::es) [] a8) (q7 r t):=by intro af s b H d a h;refine kQ (kZ a k l o ?_ m i);exact OI (S (f a8 af s b H _ a h) λus v⟨vs,H1,c,u,q⟩=>g af v b H1 vs us d c u q) j n
def Hr(g:ko X (.type T) r)(k:Gl X x)(l:X.mg x=aj)(o:qv x=O (.type T))(f:PA X (e::es) t)(m:x≠"__name__":=by decide)(i:(x==("__debug__":M))=ax:=by decide)(j:cu (e::es) X.env=(ax,bU e X.env)::cu es X.env:=by rfl)(n:(fF a8 (cu es X.env)).any (·.1)=ax:=by rfl):PE X (.Call (.Name x p) (e::es) [] a8) (q7 r t):=by intro af s b H d a h;refine kQ (kZ a k l o ?_ m i);exact nL (S (f a8 af s b H _ a h) λus v⟨vs,H1,c,u,q⟩=>g af v b H1 vs us d c u q) j n
end
end L2
namespace HT
def lexLt:aa Int->aa Int->Bool
 | [],[]=>ax
 | [],_::_=>ai
 |_::_,[]=>ax
 |x::xs,a::b=>if x=a then lexLt xs b else decide (x<a)
section
variable{bW:cx}{w:bR}{A:cQ}{E:D->au->Prop}{s:au}
def hN(n d:Nat):ab Int->Nat
 |none=>d
 |some v=>if v<0 then(v+(n:Int)).toNat else min v.toNat n
def SK(n d:Nat):hN n d aj=d:=rfl
def B6(n d k:Nat):hN n d (O (k:Int))=min k n:=by show(if(k:Int)<0 then((k:Int)+(n:Int)).toNat else min (k:Int).toNat n)=min k n;rw[aD ∅,jj]
end
end HT
namespace L2
abbrev TO:=St->Hp->(ab Int->Hp->Prop)->Prop
def PO(X:Cx)(e:ab bx)(t:TO):Prop:=∀(af:aa (U×a9))(s:au)(a:St)(H:Hp)(c:ab Int->Hp->Prop),Inv X af a H s->t a H c->aG (aU X.prog X.w) X.A (evalPart e X.env) (λu s'=>∃o b,Inv X af a b s'/\IsPart u o/\c o b) X.xe s
def SM:TO:=λ_ H a=>a aj H
def SN(t:TE):TO:=λb H a=>t b H λx H1=>∃i,x=.int i/\a (O i) H1
section
variable{X:Cx}{e:bx}{te:TE}{lo hi:ab bx}{tl th:TO}{a8 p2:c7}
def tG:PO X aj SM:=by intro af s _ H _ a h;rw[evalPart_none];exact aV #v[aj,H,a,.none,h]
def k5(h:PE X e te):PO X (O e) (SN te):=by intro af s j H _ a c;rw[evalPart_some];refine S (h af s j H _ a c) λu _⟨x,H1,b,g,f⟩=>?_;obtain⟨i,rfl,d⟩:=f;obtain⟨t,rfl⟩:=g;exact#v[O i,H1,b,.int i t,d]
def Hs(X:Cx)(r:V->ab Int->ab Int->Hp->VK->Prop):Prop:=∀(af:aa (U×a9))(s:au)(f:St)(H:Hp)(x:V)(v d e:D)(lo hi:ab Int)(c:U)(a:VK),Inv X af f H s->RelV x v->s.heap.IsSliceOf c d e .none->IsPart d lo->IsPart e hi->r x lo hi H a->∃b id,Ak (.type b) "__getitem__"=pure (O (.builtin id))/\s.TypeIs v b/\aG (aU X.prog X.w) X.A (sb v (.ref c)) (EP X af f a) X.xe s
def SO(r:V->ab Int->ab Int->Hp->VK->Prop)(te:TE)(tl th:TO):TE:=λa H d=>te a H λx H1=>tl a H1 λl b=>th a b λu c=>r x l u c d
def Ht{r:V->ab Int->ab Int->Hp->VK->Prop}(z:Hs X r)(t:PE X e te)(y:PO X lo tl)(B:PO X hi th):PE X (.Subscript e (.Slice lo hi aj p2) a8) (SO r te tl th):=by intro af s c H i k h;refine Al (S (t af s c H _ k h) λv P⟨x,H1,m,N,J⟩=>?_);refine wpAny_Slice (S (y af P c H1 _ m J) λd Q⟨l,j,n,C,K⟩=>S (B af Q c j _ n K) λf a⟨u,g,o,E,L⟩=>?_);rw[evalPart_none];refine aV ?_;have p:Inv X af c g {a with heap:=a.heap.push {cls:=.type "slice",data:=.fields #[d,f,.none]} }:=o.kept (t':=a.toks) λ_ _ I=>dd _ I;obtain⟨_,id,q,A,w⟩:=z af {a with heap:=a.heap.push {cls:=.type "slice",data:=.fields #[d,f,.none]} } c g x v d f l u a.heap.objs.size i p N (OJ ..) C E L;show aG (aU X.prog X.w) X.A (Am e (.Slice lo hi aj p2) v (.ref a.heap.objs.size)) (EP X af c i) X.xe {a with heap:=a.heap.push {cls:=.type "slice",data:=.fields #[d,f,.none]} };exact tail_any (ops:=[.ref a.heap.objs.size,v]) A q w (by with_unfolding_all rfl)
def mQ(xs:aa V)(lo hi:ab Int):aa V:=(xs.drop (HT.hN xs.length 0 lo)).take (HT.hN xs.length xs.length hi-HT.hN xs.length 0 lo)
def SQ(xs:aa V)(lo hi:ab Int):(mQ xs lo hi).length<=xs.length:=by unfold mQ;rw[fE,uY];lia
end
def k6(n:Nat)(i:Int):ab Nat:=if 0<=i then(if i<n then O i.toNat else aj)else if-(n:Int)<=i then O (i+n).toNat else aj
def n7{a:Type}(xs:aa a)(i:Int):ab a:=(k6 xs.length i).bind λj=>xs[j]?
def Hu{n:Nat}{i:Int}{j:Nat}(h:k6 n i=O j):An i n=O j/\j<n/\ -(n:Int)<=i/\i<n:=by unfold k6 at h;by_cases b:0<=i;(rw[aI b]at h;by_cases a:i<n;(rw[aI a]at h;have e:i.toNat=j:=aM h;exact#v[by rw[EO b a,e],by lia,by lia,a]);rw[aD a]at h;cases h);rw[aD b]at h;by_cases a: -(n:Int)<=i;(rw[aI a]at h;have e:(i+n).toNat=j:=aM h;exact#v[by rw[ER ∅ a,e],by lia,a,by lia]);rw[aD a]at h;cases h
def Hv{a:Type}{xs:aa a}{i:Int}{v:a}(h:n7 xs i=O v):∃j,An i xs.length=O j/\xs[j]? =O v/\j<xs.length/\ -(xs.length:Int)<=i/\i<xs.length:=by unfold n7 at h;cases e:k6 xs.length i with|none=>rw[e]at h;cases h|some j=>rw[e]at h;obtain⟨b,c,d,f⟩:=Hu e;exact#v[j,b,h,c,d,f]
def eD{a:Type}{xs:aa a}{j:Nat}{v:a}(h:xs[j]? =O v):n7 xs (j:Int)=O v:=by(have b:j<xs.length:=(cM.mp h).1;have e:k6 xs.length (j:Int)=O j:=by unfold k6;rw[aI ∅,aI ∅];simp);unfold n7;rw[e];exact h
def Hw{a:Type}(xs:aa a)(v:a):n7 (xs++ [v]) (-1)=O v:=by(have b:(xs++ [v]).length=xs.length+1:=by simp);(have e:k6 (xs++ [v]).length (-1)=O xs.length:=by unfold k6;rw[b,aD (by decide),aI ∅];congr 1;lia);unfold n7;rw[e];show(xs++ [v])[xs.length]? =O v;simp
def SR(a:bx):Prop:=∀o i,Ao a ax o i=operate [o,i] (sb o i)
def B7(X:Cx)(r:R2):Prop:=∀(e b:bx)(af:aa (U×a9))(s:au)(d:St)(H:Hp)(x c:V)(v u:D)(a:VK),Inv X af d H s->RelV x v->RelV c u->r x c H a->Ao b ax v u=operate [v,u] (sb v u)->aG (aU X.prog X.w) X.A (Am e b v u) (EP X af d a) X.xe s
def B8(X:Cx)(id:String)(r:V->aa V->Hp->VK->Prop):Prop:=∀(af:aa (U×a9))(s:au)(b:St)(H:Hp)(x:V)(xs:aa V)(v:D)(us:aa D)(a:VK),Inv X af b H s->RelV x v->J xs us->r x xs H a->aG (aU X.prog X.w) X.A (call (.builtin id) (v::us)) (EP X af b a) X.xe s
section
variable{X:Cx}{a b:bx}{ta tb:TE}{a8:c7}
def cC{r:R2}(j:B7 X r)(g:PE X a ta)(i:PE X b tb)(k:SR b):PE X (.Subscript a b a8) (gR r ta tb):=by intro af s q H f d h;exact Al (BX g i d h λv u o x p c e m n l=>j a b af o q c x p v u f e m n l (k _ _))
inductive Hx(S:U->aa V->Prop)(x y:V)(Q:V->Prop):Prop|mk(p:U)(xs:aa V)(i:Int)(v:V)(a:x=.ref p)(b:y=.int i)(s:S p xs)(t:n7 xs i=O v)(q:Q v)
def B9(K:bj):R2:=λx b H a=>Hx (aA K H) x b λv=>a v H
def tH(K:bj):R2:=λx b H a=>Hx (dH K H) x b λv=>a v H
def d9:B7 X (B9 X.K):=by intro _ _ af s m H x _ v u e d J K h l;obtain⟨p,xs,i,L,rfl,rfl,B,z,C⟩:=h;cases J;obtain⟨t,rfl⟩:=K;obtain⟨aH,r,c,_⟩:=d.list B;obtain⟨j,a,n,_,o,q⟩:=Hv z;obtain⟨w,f,E⟩:=r.get n;have A:=r.length;have N:=v7;have g:EP X af m e w s:=#v[L,H,d,E,C];by_cases k:0<=i;(have b:i.toNat=j:=(by rw[EO k q]at a;exact aM a);exact item_listR c.isList k ∅ (by rw[b];simpa using f) g l);·have b:(i+(aH.toArray.size:Int)).toNat=j:=(by rw[ER ∅ o]at a;rw[dB,<-A];exact aM a);exact OL (x:=w) c.isList.typeIs ES.lookup (wpAny_getItem_list_neg (Q:=λr s'=>r=w/\EP X af m e r s') c.isList ∅ (by rw[dB]<;>lia) ∅ (by rw[b];simpa using f) #v[I,g]) l
def gE:B7 X (tH X.K):=by intro _ _ af s d H x _ v u b a A B h o;obtain⟨p,xs,i,C,rfl,rfl,n,l,q⟩:=h;cases A;obtain⟨t,rfl⟩:=B;obtain⟨aH,r,c,_⟩:=a.tuple n;obtain⟨j,g,k,_,_,_⟩:=Hv l;obtain⟨w,e,z⟩:=r.get k;have m:=r.length;have E:=v7;have f:EP X af d b w s:=#v[C,H,a,z,q];exact OL (x:=w) c.typeIs slot_tuple_getitem.lookup (getItem_tuple (j:=j) (Q:=λr s'=>r=w/\EP X af d b r s') c ∅ ∅ (by rw[dB,<-m];exact g) (by simpa using e) #v[I,f]) o
def SS(aH:aa D)(n j:Nat)(u:D):iS (·.setIfInBounds j u) {cls:=.type "list",data:=.seq aH.toArray n}={cls:=.type "list",data:=.seq (aH.set j u).toArray n}:=by simp[iS]
def Inv.lst{af:aa (U×a9)}{c:St}{H:Hp}{s:au}{p:U}{xs:aa V}(a:Inv X af c H s)(h:H p=O (.lst xs)):∃(aH:aa D)(n:Nat),J xs aH/\s.heap.get? p=O {cls:=.type "list",data:=.seq aH.toArray n}/\xs.length<=bu:=by obtain⟨b,aH,n,r,e⟩:=a.bA p _ h;exact#v[aH,n,r,e,b]
def Inv.SU{af:aa (U×a9)}{g:St}{H:Hp}{s:au}{p:U}{xs c:aa V}{aH iU:aa D}{n a:Nat}{f:a9->a9}(i:Inv X af g H s)(h:H p=O (.lst xs))(k:s.heap.get? p=O {cls:=.type "list",data:=.seq aH.toArray n})(d:f {cls:=.type "list",data:=.seq aH.toArray n}={cls:=.type "list",data:=.seq iU.toArray a})(r:J c iU)(l:c.length<=bu)(t:Nat):Inv X af g (Y H p (.lst c)) {s with heap:=s.heap.update p f,toks:=t}:=by(have e:(s.heap.update p f).get? p=O {cls:=.type "list",data:=.seq iU.toArray a}:=by rw[mf f k (by rw[d]<;>rfl),d]);refine i.write (x:=p) (e:=p) (by rw[h];trivial) (.inl I) (λb u j m=>(se _ _ (Ne.symm j)).trans m) #v[_,e] ?_;exact#v[l,iU,a,r,e]
def Hy:V->V->V->Hp->(Hp->Prop)->Prop:=λo i v H a=>∃p xs k j,o=.ref p/\i=.int k/\H p=O (.lst xs)/\k6 xs.length k=O j/\a (Y H p (.lst (xs.set j v)))
def NX:GP X Hy:=by intro af s C H o i v _ _ u _ e A z B h;obtain⟨p,xs,k,j,rfl,rfl,q,x,w⟩:=h;cases A;obtain⟨t,rfl⟩:=z;obtain⟨aH,n,r,d,y⟩:=e.lst q;obtain⟨a,_,l,m⟩:=Hu x;have c:=r.length;have E:=v7;have f:Inv X af C (Y H p (.lst (xs.set j v))) {s with heap:=s.heap.update p (iS (·.setIfInBounds j u))}:=e.SU q d (SS aH n j u) (r.set B j) (by rw[o6];exact y) s.toks;by_cases g:0<=k;(have b:k.toNat=j:=(by rw[EO g m]at a;exact aM a);exact PySem.W.ki_setAt d g ∅ (by rw[dB,<-c];exact m) (by rw[b];exact#v[_,f,w]));have b:(k+(aH.toArray.size:Int)).toNat=j:=(by rw[ER ∅ l]at a;rw[dB,<-c];exact aM a);exact PySem.W.ki_setBack d ∅ (by rw[dB,<-c];exact l) ∅ (by rw[b];exact#v[_,f,w])
def SV(lo a:ab Int)(n:Nat):(gy lo a aj n).1=((HT.hN n 0 lo:Nat):Int)/\(gy lo a aj n).2.1=((HT.hN n n a:Nat):Int)/\(gy lo a aj n).2.2=1:=by refine#v[?_,?_,I];(·cases lo with|none=>simp[gy,HT.hN]|some i=>simp only[gy,HT.hN,OM,show(1:Int)>0 by decide,hZ];by_cases h:i<0;(·simp only[h,hZ]<;>lia);·simp only[h,iO]<;>lia);·cases a with|none=>simp[gy,HT.hN]|some i=>simp only[gy,HT.hN,OM,show(1:Int)>0 by decide,hZ];by_cases h:i<0;(·simp only[h,hZ]<;>lia);·simp only[h,iO]<;>lia
def SW(aH:aa D)(lo a:ab Int):Ap aH.toArray lo a aj=((aH.drop (HT.hN aH.length 0 lo)).take (HT.hN aH.length aH.length a-HT.hN aH.length 0 lo)).toArray:=by obtain⟨b,c,d⟩:=SV lo a aH.toArray.size;unfold Ap;rw[b,c,d];simp only[sliceRange_one,pick_run,dB]<;>rfl
def SX(K:bj):V->ab Int->ab Int->Hp->VK->Prop:=λx lo c H b=>∃a xs,x=.ref a/\aA K H a xs/\∀p,H p=aj->b (.ref p) (Y H p (.lst (mQ xs lo c)))
def Hz:Hs X (SX X.K):=by intro af s _ H x v _ _ lo d _ _ c n i l m h;obtain⟨a,xs,rfl,j,e⟩:=h;cases n;obtain⟨aH,r,f,k⟩:=c.list j;have g:=r.length;refine#v["list",_,ES.lookup,f.isList.typeIs,?_];refine ON f.isList i l m .none (by simp) ?_ (by rw[dB]<;>lia);rw[SW,<-g];refine#v[.ref s.heap.objs.size,_,c.laid (t':=s.toks) (o:=.lst (mQ xs lo d)) (λb _ e=>dd _ e) (bp _) ?_,I,e _ (c.bA.fresh (bp _))];exact#v[dQ (SQ xs lo d) k,_,0,(r.drop (HT.hN xs.length 0 lo)).take (HT.hN xs.length xs.length d-HT.hN xs.length 0 lo),eo _ rfl]
def mR:V->Bool
 |.non=>ai
 |.bl _=>ai
 |.int _=>ai
 |.str _=>ai
 |_=>ax
def n8:V->V->Bool
 |.non,.non=>ai
 |.bl a,.bl b=>a==b
 |.bl a,.int b=>(if a then 1 else 0)==b
 |.int a,.bl b=>a==(if b then 1 else 0)
 |.int a,.int b=>a==b
 |.str a,.str b=>a==b
 |_,_=>ax
def SY{A:cQ}{s:au}{f x:V}{u v:D}(e:RelV f u)(c:RelV x v)(g:mR f=ai)(d:mR x=ai):Aq A s u v (n8 f x):=by cases f with|non=>(cases e;cases x with|non=>cases c;exact OO _|bl b=>cases c;exact SeqAt.EqAt.none_bool b|int b=>(obtain⟨t,rfl⟩:=c;exact SeqAt.EqAt.none_int b t)|str b=>(obtain⟨t,rfl⟩:=c;exact SeqAt.EqAt.none_str b t)|_=>exact absurd (show ax=ai from d) d8)|bl a=>(cases e;cases x with|non=>cases c;exact SeqAt.EqAt.bool_none a|bl b=>cases c;exact SeqAt.EqAt.bool_bool a b|int b=>(obtain⟨t,rfl⟩:=c;exact SeqAt.EqAt.bool_int a b t)|str b=>(obtain⟨t,rfl⟩:=c;exact SeqAt.EqAt.bool_str a b t)|_=>exact absurd (show ax=ai from d) d8)|int a=>(obtain⟨t',rfl⟩:=e;cases x with|non=>cases c;exact SeqAt.EqAt.int_none a t'|bl b=>cases c;exact SeqAt.EqAt.int_bool a t' b|int b=>(obtain⟨t,rfl⟩:=c;exact SeqAt.EqAt.int_int a t' b t)|str b=>(obtain⟨t,rfl⟩:=c;exact Oj a t' b t)|_=>exact absurd (show ax=ai from d) d8)|str a=>(obtain⟨t',rfl⟩:=e;cases x with|non=>cases c;exact SeqAt.EqAt.str_none a t'|bl b=>cases c;exact SeqAt.EqAt.str_bool a t' b|int b=>(obtain⟨t,rfl⟩:=c;exact Ol a t' b t)|str b=>(obtain⟨t,rfl⟩:=c;exact SeqAt.EqAt.str_str a t' b t)|_=>exact absurd (show ax=ai from d) d8)|_=>exact absurd (show ax=ai from g) d8
def B_(x:V)(u:D):Bool:=match u with
 |.none=>n8 .non x
 |.bool b=>n8 (.bl b) x
 |.int i _=>n8 (.int i) x
 |.str a _=>n8 (.str a) x
 |_=>ax
def Ca{x a:V}{u:D}(r:RelV a u)(f:mR a=ai):B_ x u=n8 a x:=by cases a with|non=>cases r;rfl|bl b=>cases r;rfl|int i=>(obtain⟨t,rfl⟩:=r;rfl)|str c=>(obtain⟨t,rfl⟩:=r;rfl)|_=>exact absurd (show ax=ai from f) d8
def HA{A:cQ}{s:au}{x:V}{v:D}(c:RelV x v)(b:mR x=ai):∀ {xs:aa V}{us:aa D},J xs us->xs.all mR=ai->∀u∈us,Aq A s u v (B_ x u)
 |_,_,.nil,_=>λu a=>by cases a
 |e::xs,u::us,.cons r t,f=>λd a=>by
  rw[List.all_cons,oS]at f;rcases bL.mp a with rfl|a
  ·rw[Ca r f.1];exact SY r c f.1 b
  ·exact HA c b t f.2 d a
inductive S0(S T:U->aa V->Prop)(xs:aa V)(Q:V->Prop):Prop|mk(p:U)(ys:aa V)(e:xs=[.ref p])(s:S p ys\/T p ys)(q:Q (.int ys.length))
def Cb(K:bj):aa V->Hp->VK->Prop:=λxs H a=>S0 (aA K H) (dH K H) xs λv=>a v H
def S1:ko X (.builtin "len") (Cb X.K):=by(intro af s _ H xs us _ b r h;obtain⟨p,g,rfl,a,f⟩:=h;obtain⟨u,rfl,j⟩:=vals1 r;cases j;have k:=v7;rcases a with a|a);(·obtain⟨aH,e,d,i⟩:=b.list a;have c:=e.length;exact Calls.call_len_list d.isList (by simp only[dB]<;>lia) #v[.int g.length,H,b.tok _,#v[s.toks+1,by rw[dB,c]],f]);·obtain⟨aH,e,d,i⟩:=b.tuple a;have c:=e.length;exact len_tuple d (by simp only[dB]<;>lia) #v[.int g.length,H,b.tok _,#v[s.toks+1,by rw[dB,c]],f]
def S2:ko X (.type "list") (λxs H k=>∃p d,xs=[.ref p]/\(aA X.K H p d\/dH X.K H p d)/\∀l,H l=aj->k (.ref l) (Y H l (.lst d))):=by(intro af s B H xs us k j r h;obtain⟨p,d,rfl,f,z⟩:=h;obtain⟨u,rfl,A⟩:=vals1 r;cases A;have w:∀(aH:aa D),J d aH->d.length<=bu->∀(h':aZ)(a:Nat),(∀b x,s.heap.get? b=O x->h'.get? b=O x)->h'.get? s.heap.objs.size=O {cls:=.type "list",dict:=aj,data:=.seq aH.toArray a,slots:= #[]}->EP X af B k (.ref s.heap.objs.size) {s with heap:=h'}:=λaH c g h' a i e=>#v[.ref s.heap.objs.size,_,j.laid (t':=s.toks) i (bp _) (show eT X.prog X.w _ h' _ (.lst d)from#v[g,aH,a,c,e]),I,z _ (j.bA.fresh (bp _))]);rcases f with f|f;(·obtain⟨aH,c,v,g⟩:=j.list f;have y:=c.length;obtain⟨o,t,m,n,q⟩:=v.isList;exact call_list_seq p (.inl I) t m q (λh' a i e=>w aH c g h' a i e) (by simp only[dB]<;>lia));·obtain⟨aH,c,v,g⟩:=j.tuple f;have y:=c.length;obtain⟨o,t,m,n,q⟩:=v;exact call_list_seq p (.inr I) t m q (λh' a i e=>w aH c g h' a i e) (by simp only[dB]<;>lia)
def S3:ko X (.type "tuple") (λxs H d=>∃p a,xs=[.ref p]/\((aA X.K H p a/\∀l,H l=aj->d (.ref l) (Y H l (.tup a)))\/(dH X.K H p a/\d (.ref p) H))):=by(intro af s n H xs us d c r h;obtain⟨p,a,rfl,h⟩:=h;obtain⟨u,rfl,v⟩:=vals1 r;cases v;rcases h with⟨f,i⟩|⟨f,i⟩);(·obtain⟨aH,j,g,m⟩:=c.list f;have w:=j.length;refine call_tuple_list g.isList (λh' t=>?_) (by simp only[dB]<;>lia);have k:Inv X af n H {s with heap:=h'}:=c.kept (t':=s.toks) t;have q:Inv X af n (Y H h'.objs.size (.tup a)) {s with heap:=h'.push {cls:=.type "tuple",data:=.seq aH.toArray} }:=k.laid (t':=s.toks) (λb o e=>dd _ e) (bp _) (show eT X.prog X.w _ _ _ (.tup a)from#v[m,aH,j,IsTup.new _ _]);exact#v[.ref h'.objs.size,_,q,I,i _ (k.bA.fresh (bp _))]);obtain⟨aH,j,g,m⟩:=c.tuple f;exact call_tuple_same g #v[.ref p,H,c,I,i]
def HC(K:bj)(a:String)(x:V)(H:Hp):Prop:=match x with
 |.str _=>a="str"
 |.int _=>a="int"
 |.ref p=>(a="list"/\∃xs,aA K H p xs)\/(a="tuple"/\∃o,K.lookup p=O o/\o.cls=.type "tuple"/\o.dict=aj)\/
   (a="dict"/\((∃ag,H p=O (.dK ag))\/∃ag,H p=O (.dT ag)))\/(a="set"/\∃S n,H p=O (.set S n))
 |_=>False
def S4{af:aa (U×a9)}{y:St}{H:Hp}{s:au}{g:String}{x:V}{v:D}(f:Inv X af y H s)(r:RelV x v)(h:HC X.K g x H):s.TypeIs v g/\∀a,v=.ref a->∃m,s.heap.get? a=O m/\m.dict=aj:=by cases x with|str l=>(obtain⟨t,rfl⟩:=r;cases (show g="str"from h);exact⟨typeIs_str s l t,λ_ e=>nomatch e⟩)|int i=>(obtain⟨t,rfl⟩:=r;cases (show g="int"from h);exact⟨ET s i t,λ_ e=>nomatch e⟩)|ref p=>((cases r;rcases h with⟨rfl,xs,w⟩|⟨rfl,o,b,u,k⟩|⟨rfl,b⟩|⟨rfl,S,n,b⟩);(obtain⟨aH,_,q,_⟩:=f.list w;refine⟨q.isList.typeIs,λa e=>?_⟩;cases e;obtain⟨o,n,e,c,k,_⟩:=q;exact⟨o,e,k⟩);(refine⟨⟨o,f.g7 p o b,u⟩,λa e=>?_⟩;cases e;exact⟨o,f.g7 _ o b,k⟩);((have l:∃o,s.heap.get? p=O o/\o.ExactDict:=by rcases b with⟨ag,b⟩|⟨ag,b⟩;(obtain⟨_,_,_,_,o,_,_,e,d,_⟩:=f.bA p _ b;exact⟨o,e,d⟩);obtain⟨_,_,_,_,o,_,_,e,d,_⟩:=f.bA p _ b;exact⟨o,e,d⟩);obtain⟨o,e,d⟩:=l;refine⟨⟨o,e,d.1⟩,λa j=>?_⟩;cases j;exact⟨o,e,d.2.1⟩);obtain⟨o,_,_,_,e,d,_⟩:=f.bA p _ b;refine⟨⟨o,e,d.1⟩,λa j=>?_⟩;cases j;exact⟨o,e,d.2.1⟩)|_=>exact h7 h
def S5(K:bj)(d:String)(r:V->aa V->Hp->VK->Prop)(to:TE)(t:TA):TE:=λa H c=>to a H λx H1=>HC K d x H1/\t a H1 λxs b=>r x xs b c
variable{o e:bx}{es:aa bx}{to:TE}{t:TA}{name:M}{fj g0:c7}{T id:String}{r:V->aa V->Hp->VK->Prop}
def gF(B:PlainAttrs T)(N:Slot T name id)(A:typeOf (.builtin id)=pure (.type "method_descriptor"))(u:B8 X id r)(w:PE X o to)(m:PA X (e::es) t)(n:o3 o name X.env (bU o X.env)=bU o X.env:=by rfl)(p:((fF g0 (cu (e::es) X.env)).all (λx=>!x.1)&&(nO g0 (nP [] X.env)).all (λx=>x.1.isSome)&&decide ((e::es).length+([]:aa sf).length+(if([]:aa sf).isEmpty then 0 else 1)<30))=ai:=by rfl)(q:(fj.endLine==g0.line)=ai:=by rfl)(z:cu (e::es) X.env=(ax,bU e X.env)::cu es X.env:=by rfl)(y:(fF g0 (cu es X.env)).any (·.1)=ax:=by rfl):PE X (.Call (.Attribute o name fj) (e::es) [] g0) (S5 X.K T r to t):=by intro af s a H j g h;refine wpAny_Call_method_late n p q I (S (w af s a H _ g h) λv K⟨x,H1,b,d,P,C⟩=>?_);obtain⟨k,l⟩:=S4 b d P;refine#v[T,id,B,N,A,k,l,?_];have c:=m g0 af K a H1 _ b C;rw[z]at c⊢;refine Ar (by show(ax||(fF g0 (cu es X.env)).any (·.1))=ax;rw[y]<;>rfl) (As ?_);exact S c λus L⟨vs,f,i,J,E⟩=>u af L a f x vs v us j i d J E
end
def tI(X:Cx)(id:String)(r:V->aa V->Hp->VK->Prop):Prop:=∀(af:aa (U×a9))(s:au)(b:St)(H:Hp)(x:V)(xs:aa V)(v:D)(us:aa D)(a:VK),Inv X af b H s->RelV x v->J xs us->r x xs H a->aG (aU X.prog X.w) X.A (call (.builtin id) (v::us)) (EP X af b a) X.xe s
def J.one:∀ {x:V}{us:aa D},J [x] us->∃u,us=[u]/\RelV x u
 |_,_,.cons r .nil=>#v[_,I,r]
def J.eraseIdx:∀ {xs:aa V}{us:aa D}(i:Nat),J xs us->J (xs.eraseIdx i) (us.eraseIdx i)
 |_,_,_,.nil=>.nil
 |_,_,0,.cons _ t=>t
 |_,_,i+1,.cons r t=>.cons r (J.eraseIdx i t)
def J.rep{xs:aa V}{us:aa D}(h:J xs us):∀k:Nat,J (fy k xs).flatten (fy k us).flatten
 |0=>.nil
 |k+1=>by rw[nT,nT,qH,qH];exact J.append h (J.rep h k)
def Cc{a:Type}:∀(l:aa a)(i:Nat),(l.eraseIdx i).length<=l.length
 | [],_=>bp _
 |_::_,0=>Ah _
 |_::r,i+1=>Nat.succ_le_succ (Cc r i)
def foldl_rep(aH:aa D):∀(k:Nat)(aE:aa D),EU (λb c=>b++c) aE.toArray (fy k aH.toArray)=(aE++(fy k aH).flatten).toArray
 |0,aE=>by simp
 |k+1,aE=>by
  have e:aE.toArray++aH.toArray=(aE++aH).toArray:=(by simp);have a:(aE++aH)++(fy k aH).flatten=aE++(fy (k+1) aH).flatten:=by rw[nT,qH,gq]
  rw[<-a,<-foldl_rep aH k (aE++aH),<-e,nT,gI]
section
variable{X:Cx}{af:aa (U×a9)}{σ:St}{H:Hp}{s:au}{l b:U}{xs ys zs:aa V}
def Inv.tJ{aH iU:aa D}{n:Nat}{f:ae D->ae D}{t':Nat}(b:Inv X af σ H s)(c:H l=O (.lst xs))(e:s.heap.get? l=O {cls:=.type "list",data:=.seq aH.toArray n})(g:f aH.toArray=iU.toArray)(i:J ys iU)(j:ys.length<=bu):Inv X af σ (Y H l (.lst ys)) {s with heap:=s.heap.update l (iS f),toks:=t'}:=by have a:=PySem.IsL.update e f;rw[g]at a;refine b.write (x:=l) (e:=l) (by rw[c];exact trivial) (.inl I) (λ_ u d h=>(se s.heap (iS f) (Ne.symm d)).trans h) #v[_,a] ?_;exact#v[j,iU,_,i,a]
def Inv.HD{aH:aa D}{t':Nat}(a:Inv X af σ H s)(b:J ys aH)(c:ys.length<=bu):Inv X af σ (Y H s.heap.objs.size (.lst ys)) {s with heap:=s.heap.push {cls:=.type "list",data:=.seq aH.toArray},toks:=t'}:=a.laid (λ_ _ d=>dd _ d) (bp _) #v[c,aH,0,b,eo _ rfl]
def Inv.fresh(a:Inv X af σ H s):H s.heap.objs.size=aj:=a.bA.fresh (bp _)
def Inv.mS(a:Inv X af σ H s)(b:H l=O (.lst xs)):xs.length<=bu/\∃(aH:aa D)(n:Nat),J xs aH/\xs.length=aH.length/\s.heap.get? l=O {cls:=.type "list",data:=.seq aH.toArray n}:=by obtain⟨c,aH,n,r,e⟩:=a.bA l _ b;exact#v[c,aH,n,r,r.length,e]
def Cd{n:Nat}(h:n<=bu):uZ n=ax:=by unfold uZ;exact ek ∅
end
section
variable{X:Cx}
def S6:V->aa V->Hp->VK->Prop:=λx vs H b=>∃l xs a,x=.ref l/\vs=[a]/\H l=O (.lst xs)/\xs.length<bu/\b .non (Y H l (.lst (xs++ [a])))
def lM:tI X "list.append" S6:=by intro af s _ H x vs v us _ a g f h;obtain⟨l,xs,_,rfl,rfl,b,_,c⟩:=h;cases g;obtain⟨u,rfl,d⟩:=f.one;obtain⟨_,aH,n,r,_,e⟩:=a.mS b;refine o7 F.slot_list_append #v[_,e,I] F.entry_list_append (F.args_list_append_2 _ _) (PySem.list_append l aH.toArray n u (by rw[dB];lia)) #v[e,?_];refine#v[.non,_,a.tJ (iU:=aH++ [u]) b e (by simp) (r.append (.cons d .nil)) ?_,I,c];rw[cV,iM];lia
def S7:V->aa V->Hp->VK->Prop:=λx vs H c=>∃l b xs a,x=.ref l/\vs=[.ref b]/\H l=O (.lst xs)/\H b=O (.lst a)/\xs.length+a.length<=bu/\c .non (Y H l (.lst (xs++a)))
def wa:tI X "list.extend" S7:=by(intro af s _ H x vs v us _ b t q h;obtain⟨l,d,xs,_,rfl,rfl,c,g,_,m⟩:=h;cases t;obtain⟨u,rfl,p⟩:=q.one;cases p;obtain⟨_,aH,n,r,_,e⟩:=b.mS c;obtain⟨_,a,k,o,_,f⟩:=b.mS g;have j:aH.toArray.size+a.toArray.size<=bu:=by rw[dB,dB];lia);(have i:¬(!aH.toArray.isEmpty&&uZ (aH.toArray.size+a.toArray.size))=ai:=by rw[Cd j,OP];exact d8);refine o7 OQ #v[_,e,I] OR (OS _ _) (AutoSeq1.list_extend_list_list_0 l aH.toArray n d a.toArray k i (by rw[dB];lia) ∅) #v[e,f,?_];refine#v[.non,_,b.tJ (iU:=aH++a) c e (by simp) (r.append o) ?_,I,m];rw[cV];lia
def S8:V->aa V->Hp->VK->Prop:=λx vs H b=>∃l xs i k a,x=.ref l/\vs=[.int i]/\H l=O (.lst xs)/\ -(2^63)<=i/\i<2^63/\An i xs.length=O k/\xs[k]? =O a/\b a (Y H l (.lst (xs.eraseIdx k)))
def S9:tI X "list.pop" S8:=by intro af s _ H x vs v us _ a A q h;obtain⟨l,xs,i,k,B,rfl,rfl,b,c,d,f,m,o⟩:=h;cases A;obtain⟨u,rfl,p⟩:=q.one;obtain⟨t,rfl⟩:=p;obtain⟨_,aH,n,r,g,e⟩:=a.mS b;obtain⟨w,j,y⟩:=r.get m;refine o7 F.slot_list_pop #v[_,e,I] F.entry_list_pop (F.args_list_pop_2 _ _) (MeetsSeq.list_pop_at l aH.toArray n i t k w (fitsIndex_both c d) (by rw[dB,<-g];exact f) (by rw[<-Au];exact j) (by rw[dB];lia)) #v[e,?_];refine#v[B,_,a.tJ (iU:=aH.eraseIdx k) b e ?_ (r.eraseIdx k) ?_,y,o];(show aH.toArray.eraseIdxIfInBounds k=(aH.eraseIdx k).toArray;rw[OT]);have:=Cc xs k;lia
def HE:R2:=λx d H c=>∃l b xs a,x=.ref l/\d=.ref b/\H l=O (.lst xs)/\H b=O (.lst a)/\xs.length+a.length<=bu/\∀p,H p=aj->c (.ref p) (Y H p (.lst (xs++a)))
def g9:gj X (o1 .Add) HE:=by(intro af s _ H x _ v u _ a m o h;obtain⟨l,_,xs,_,rfl,rfl,i,g,_,j⟩:=h;cases m;cases o;obtain⟨_,aH,n,r,_,e⟩:=a.mS i;obtain⟨_,c,_,k,_,d⟩:=a.mS g;refine PySem.P.add_list e d ?_ (by rw[dB,dB];lia);have f:aH.toArray++c.toArray=(aH++c).toArray:=by simp);rw[f];exact#v[.ref _,_,a.HD (t':=s.toks) (r.append k) (by rw[cV];lia),I,j _ a.fresh]
def S_:R2:=λx b H a=>∃l k xs,x=.ref l/\b=.int k/\H l=O (.lst xs)/\ -(2^63)<=k/\k<2^63/\xs.length*k.toNat<=bu/\∀p,H p=aj->a (.ref p) (Y H p (.lst (fy k.toNat xs).flatten))
def aaC{b:Type}(xs:aa b)(k:Nat):(fy k xs).flatten.length=k*xs.length:=by induction k with|zero=>simp|succ k a=>rw[nT,qH,cV,a,Nat.succ_mul,Nat.add_comm]
def Ce:gj X (o1 .Mult) S_:=by(intro af s _ H x _ v u _ b J K h;obtain⟨l,k,xs,rfl,rfl,o,i,j,f,E⟩:=h;cases J;obtain⟨t,rfl⟩:=K;obtain⟨_,aH,n,r,w,e⟩:=b.mS o;have A:aH.toArray.size*k.toNat<=bu:=by rw[dB,<-w];exact f);(have p:¬aH.toArray.size*k.toNat>(2^63-1)/8:=by have:(bu:Nat)<=(2^63-1)/8:=(by decide);lia);(have q:¬(!aa6 k)=ai:=by rw[fitsIndex_both i j];exact d8);(have B:¬uZ (aH.toArray.size*k.toNat)=ai:=by rw[Cd A];exact d8);(have C:EU (λc d=>c++d) #[] (fy (if aH.toArray.isEmpty=ai then 0 else k.toNat) aH.toArray)=(fy k.toNat aH).flatten.toArray:=by(have g:∀m:Nat,EU (λc d=>c++d) #[] (fy m aH.toArray)=(fy m aH).flatten.toArray:=λm=>by have:=foldl_rep aH m [];rw[uL]at this;exact this);rw[g];cases aH with|nil=>simp|cons a L=>rw[aD (by simp)]);refine wpAny_binaryOp_repeat_ref (T:="list") (U:="int") (by decide) #v[_,e,I] (λs'=>ET s' k t) noFill_list_mul F.fills_int_mul OU repeat_list F.slot_int_index.lookup (o7 OU (ET s k t) F.entry_int_rmul (F.args_int_rmul_2 _ _) (int___rmul___int_list k t l aH.toArray n) #v[e,I,#v[_,e,I],o7 F.slot_list_mul #v[_,e,I] F.entry_list_mul (F.args_list_mul_2 _ _) (AutoListH.list___mul___list_int_3 l aH.toArray n k t q p B) #v[e,?_]]);rw[C];exact#v[.ref _,_,b.HD (t':=s.toks) (r.rep k.toNat) (by rw[aaC,Nat.mul_comm];exact f),I,E _ b.fresh]
end
def J.ints:∀ {ns:aa Int}{us:aa D},J (ns.map V.int) us->mh us ns
 | [],us,h=>by rw[oO]at h;cases h;exact IntsAre.nil
 |n::ns,us,h=>by
  rw[cI]at h;cases h with
  |cons r t=>obtain⟨k,rfl⟩:=r;exact IntsAre.cons n k (J.ints t)
def HF:∀ {us:aa D}{ns:aa Int},mh us ns->J (ns.map V.int) us
 |_,_,.nil=>by rw[oO];exact Paired.nil
 |_,_,.cons n t h=>by rw[cI];exact Paired.cons (show RelV (V.int n) (ir n t)from#v[t,I]) (HF h)
def J.HG:∀ {a:aa Bool}{us:aa D},J (a.map V.bl) us->us=a.map ji
 | [],us,h=>by rw[oO]at h;cases h;rfl
 |b::a,us,h=>by
  rw[cI]at h;cases h with
  |cons r t=>cases r;rw[J.HG t,cI]
def J.pQ{a:U}{us:aa D}(r:J [V.ref a] us):us=[cP a]:=by cases r with|cons r t=>cases t;cases r;rfl
section
variable{bW:cx}{w:bR}{A:cQ}{E:D->au->Prop}{s:au}{l:U}{aH:aa D}{ns:aa Int}{Q:D->au->Prop}
def Ta(f:A.handled=aj)(c:s.heap.IsList l aH.toArray)(b:mh aH ns)(h:∀h' tk t',(∀a o,s.heap.get? a=O o->h'.get? a=O o)->Q (.int ns.sum t') {s with heap:=h',toks:=tk}):aG (aU bW w) A (call (.builtin "sum") [.ref l]) Q E s:=by(obtain⟨xs,e⟩:=b.allInts.items;have d:numsOf (intItems xs).toList=ns:=by rw[<-e];exact b.numsOf);rw[EV]at d;rw[e]at c;refine PySem.sum_intListG f c λh' tk t' g=>?_;have:=h h' tk t' g;rw[preSum_eq,o8 (by simp),d];exact this
def Tb(m:A.handled=aj)(f:s.heap.IsList l aH.toArray)(d:mh aH ns)(q:0<ns.length)(h:∀h' tk b t',(∀c o,s.heap.get? c=O o->h'.get? c=O o)->b∈ns->(∀a,a∈ns->a<=b)->Q (.int b t') {s with heap:=h',toks:=tk}):aG (aU bW w) A (call (.builtin "max") [.ref l]) Q E s:=by(obtain⟨xs,e⟩:=d.allInts.items;have g:numsOf (intItems xs).toList=ns:=by rw[<-e];exact d.numsOf);(rw[EV]at g;subst g;rw[e]at f;have r:0<xs.size:=by simpa using q);refine PySem.max_intList m f r λv h' tk u p=>?_;obtain⟨t,rfl⟩:=intItems_at u;obtain⟨_,i⟩:=argBest_gt (numAt xs) (xs.size-1);refine h h' tk _ t p ?_ λa k=>?_;(rw[Av];exact OV (by rw[aq,e9];lia));obtain⟨j,n,rfl⟩:=mem_getD k;rw[aq,e9]at n;rw[<-Av];exact i j ∅
def Tc(m:A.handled=aj)(f:s.heap.IsList l aH.toArray)(d:mh aH ns)(q:0<ns.length)(h:∀h' tk b t',(∀c o,s.heap.get? c=O o->h'.get? c=O o)->b∈ns->(∀a,a∈ns->b<=a)->Q (.int b t') {s with heap:=h',toks:=tk}):aG (aU bW w) A (call (.builtin "min") [.ref l]) Q E s:=by(obtain⟨xs,e⟩:=d.allInts.items;have g:numsOf (intItems xs).toList=ns:=by rw[<-e];exact d.numsOf);(rw[EV]at g;subst g;rw[e]at f;have r:0<xs.size:=by simpa using q);refine PySem.min_intList m f r λv h' tk u p=>?_;obtain⟨t,rfl⟩:=intItems_at u;obtain⟨_,i⟩:=argBest_lt (numAt xs) (xs.size-1);refine h h' tk _ t p ?_ λa k=>?_;(rw[Av];exact OV (by rw[aq,e9];lia));obtain⟨j,n,rfl⟩:=mem_getD k;rw[aq,e9]at n;rw[<-Av];exact i j ∅
end
section
variable{X:Cx}
def Td(K:bj):aa V->Hp->VK->Prop:=λvs H b=>∃(a:U)(ns:aa Int),vs=[V.ref a]/\aA K H a (ns.map V.int)/\b (.int ns.sum) H
def Te(K:bj):aa V->Hp->VK->Prop:=λvs H c=>∃(a:U)(ns:aa Int),vs=[V.ref a]/\aA K H a (ns.map V.int)/\0<ns.length/\∀m,m∈ns->(∀b,b∈ns->b<=m)->c (.int m) H
def Tf(K:bj):aa V->Hp->VK->Prop:=λvs H c=>∃(a:U)(ns:aa Int),vs=[V.ref a]/\aA K H a (ns.map V.int)/\0<ns.length/\∀m,m∈ns->(∀b,b∈ns->m<=b)->c (.int m) H
def Tg(c:X.calm=ai):ko X (.builtin "sum") (Td X.K):=by intro af s _ H vs us _ b r h;obtain⟨a,ns,rfl,f,g⟩:=h;obtain⟨aH,i,e,_⟩:=b.list f;rw[J.pQ r];exact Ta (b.ok.hd c) e.isList i.ints λh' tk t' d=>#v[.int _,H,b.kept d,#v[_,I],g]
def Th(e:X.calm=ai):ko X (.builtin "max") (Te X.K):=by intro af s _ H vs us _ b r h;obtain⟨a,ns,rfl,j,i,k⟩:=h;obtain⟨aH,l,g,_⟩:=b.list j;rw[J.pQ r];exact Tb (b.ok.hd e) g.isList l.ints i λh' tk m t' f c d=>#v[.int _,H,b.kept f,#v[_,I],k m c d]
def tK(e:X.calm=ai):ko X (.builtin "min") (Tf X.K):=by intro af s _ H vs us _ b r h;obtain⟨a,ns,rfl,j,i,k⟩:=h;obtain⟨aH,l,g,_⟩:=b.list j;rw[J.pQ r];exact Tc (b.ok.hd e) g.isList l.ints i λh' tk m t' f c d=>#v[.int _,H,b.kept f,#v[_,I],k m c d]
def Ti(K:bj):aa V->Hp->VK->Prop:=λvs H c=>∃(a:U)(ns:aa Int),vs=[V.ref a]/\aA K H a (ns.map V.int)/\ns.length<64/\∀(b:aa Int)(p:U),b.Perm ns->b.Pairwise (·<=·)->H p=aj->c (.ref p) (Y H p (.lst (b.map V.int)))
def Tj{n:Nat}(h:n<64):n<=bu:=by rw[bZ];lia
def Tn:ko X (.builtin "sorted") (Ti X.K):=by(intro af s _ H vs us _ b r h;obtain⟨a,ns,rfl,o,e,p⟩:=h;obtain⟨aH,q,m,_⟩:=b.list o;rw[J.pQ r];have f:=q.ints;refine aa7 m.isList f (by rw[f.length];exact e) λg c j d k=>?_;obtain⟨i,l⟩:=aa8 s.heap aH g;have n:(c.map V.int).length<=bu:=by rw[aq,d.length_eq];exact Tj e);exact#v[.ref _,Y H (s.heap.objs.size+1) (.lst (c.map V.int)),b.laid (t':=s.toks) (λ_ _=>aa9) (Ah _) #v[n,g.toList,i,HF j,l],I,p c _ d k (b.bA.fresh (Ah _))]
def To(K:bj):V->aa V->Hp->VK->Prop:=λx xs H f=>∃(a:U)(c:aa V)(b:V)(j:Nat)(d:V),x=V.ref a/\xs=[b]/\aA K H a c/\mR b=ai/\c.all mR=ai/\c[j]? =O d/\n8 d b=ai/\(∀(m:Nat)(e:V),m<j->c[m]? =O e->n8 e b=ax)/\f (.int (j:Nat)) H
def HI{b:aa V}(f:b.all mR=ai){j:Nat}{a:V}(h:b[j]? =O a):mR a=ai:=kK.mp f a (dJ h)
def Tp:B8 X "list.index" (To X.K):=by intro af s _ H x xs v us _ g V W h;obtain⟨a,f,ah,j,_,rfl,rfl,J,q,d,o,P,E,R⟩:=h;cases V;cases W with|cons Y S=>(rename_i ag an;cases S;obtain⟨aH,b,⟨⟨_,p,_,Z⟩,n,l,i,_,k⟩,_⟩:=g.list J;simp only at i k;subst i k;obtain⟨u,K,T⟩:=b.get o;obtain⟨w,t⟩:=cM.mp K;have am:=b.length;have r:j<aH.toArray.size:=by simpa using w);have al:=bZ;refine o7 Aw #v[_,l,I] OW (OX _ _) (OY a aH.toArray n p Z ag (B_ ah) j r ∅ ?_ ?_) #v[l,λac L=>HA Y q b d ac (by simpa using L),?_];(have c:aH.toArray[j]=u:=(by simpa using t);rw[c,Ca T (HI d o)];exact P);((intro m y B;have ak:m<aH.length:=by simpa using y);(have C:m<f.length:= ∅;have e:f[m]? =O f[m]:=b_ C;obtain⟨ad,N,U⟩:=b.get e;obtain⟨_,A⟩:=cM.mp N;have c:aH.toArray[m]=ad:=by simpa using A);rw[c,Ca U (HI d e)];exact E m _ B e);exact#v[.int (j:Nat),H,g.tok _,#v[_,I],R]
end
def Tq{g:cx}{w:bR}{A:cQ}{E:D->au->Prop}{s:au}{l:U}{d:ae D}{c:D->au->Prop}(b:s.heap.IsList l d)(h:∀a:au,a={s with heap:=s.heap.push {cls:=.type "list_iterator",data:=.fields #[.ref l,.int 0 0]} }->(a.heap.IsListIter s.heap.objs.size l 0/\a.heap.IsList l d)->l≠s.heap.objs.size->c (.ref s.heap.objs.size) a):aG (aU g w) A (nK (.ref l)) c E s:=by(have f:l<s.heap.objs.size:=by obtain⟨_,e,_⟩:=b;exact cJ e);exact r8 b (h _ rfl #v[#v[_,eo _ rfl,I,I],b.push _] (er f))
def Tr{l:cx}{w:bR}{A:cQ}{a:aa Bool}{aH:aa D}(e:aH=a.map ji):TruthOf l w A (λi v=>aH.toArray[i]? =O v) (λi=>a.getD i ax):=λi v s d E k j=>by(have c:aH[i]? =O v:=by simpa using k);(rw[e,bN]at c;obtain⟨f,g,rfl⟩:=Ax.mp c;have h:a.getD i ax=f:=by rw[List.getD_eq_getElem?_getD,g]<;>rfl);have b:d (a.getD i ax) s:=j;rw[h]at b;exact nJ b
def any_range:∀a:aa Bool,(bQ a.length).any (λi=>a.getD i ax)=a.any id
 | []=>rfl
 |b::a=>by rw[cU,List.range_succ_eq_map,qI,Ay,qI,<-any_range a];all_goals rfl
section
variable{X:Cx}
def Ts(K:bj):aa V->Hp->VK->Prop:=λvs H c=>∃(a:U)(b:aa Bool),vs=[V.ref a]/\aA K H a (b.map V.bl)/\c (.bl (b.any id)) H
def Tt(j:X.calm=ai):ko X (.builtin "any") (Ts X.K):=by intro af s _ H vs us _ b r h;obtain⟨a,_,rfl,n,p⟩:=h;obtain⟨aH,q,l,_⟩:=b.list n;rw[J.pQ r];have e:=q.HG;refine call_any_walk (Tq l.isList λ_ i st m=>?_);subst i;refine#v[_,_,_,_,_,_,_,I,OZ (A:=X.A.in1) (b.ok.hd j) _ a m aH.toArray,st,Tr e,λh' tk k=>?_];refine#v[.bl _,H,b.kept λf o d=>k f o (λc=>?_) (dd _ d),?_,p];(rcases bL.mp c with g|c;(exact absurd (g▸cJ d) (kb _));cases c);show ji _=ji _;rw[<-any_range,e,dB,aq]
end
abbrev HJ(h:aZ)(c:U)(v:ab D):Prop:=h.IsCell c v
def Tu(b a:fO):fO:={b with names:=b.names.map λ(n,k)=>if(k==.free&&a.kind==.function&&a.names.lookup n==O .cell)then(n,.cell)else(n,k)}
def gm(cZ:aa (M×U)):aa (M×iu)->aa (M×U)->aa (M×U)
 | [],aE=>aE
 |(n,k)::r,aE=>if k==.free then gm cZ r ((n,(cZ.lookup n).getD 0)::aE)else gm cZ r aE
def HK(b:fi)(f:M×iu->aa (M×U)->gg (ForInStep (aa (M×U))))(j:∀n k c,f (n,k) c=if k==.free then(do let a<-cellOf b n;pure (.yield ((n,a)::c)))else pure (.yield c)):
  ∀(fk:aa (M×iu))(aE:aa (M×U)),(∀g∈fk,g.2=.free->∃c,b.cells.lookup g.1=O c)->forIn fk aE f=pure (gm b.cells fk aE)
 | [],aE,_=>by rw[qJ];rfl
 |(n,k)::r,aE,h=>by
  rw[sg,j];have l:=λaE=>HK b f j r aE λg o=>h g (cw _ o);unfold gm;by_cases d:(k==sh)=ai
  ·rw[aI d,aI d];obtain⟨c,i⟩:=h (n,k) cc (by simpa using d);have e:cellOf b n=pure c:=by unfold cellOf;rw[i]
   rw[e];have m:(b.cells.lookup n).getD 0=c:=by rw[i];rfl
   rw[m];exact l _
  ·rw[aD d,aD d];exact l _
def Tv{b:fO}{a:fi}(h:∀d∈b.names,d.2=.free->∃c,a.cells.lookup d.1=O c):closureFor b a=pure (gm a.cells b.names []):=by simp only[closureFor];rw[HK a _ (λn k c=>rfl) b.names [] h];rfl
def mem_lookup{a:Type}:∀ {l:aa (M×a)}{n:M}{c:a},(n,c)∈l->∃b,l.lookup n=O b
 |(k,v)::r,n,c,h=>by
  rw[qK];cases d:n==k with
  |true=>exact#v[_,I]
  |false=>
   rcases bL.mp h with e|h
   ·cases e;simp at d
   ·exact mem_lookup h
def wb{cZ:aa (M×U)}:∀ {fk:aa (M×iu)}{aE:aa (M×U)}{n:M}{c:U},(n,c)∈gm cZ fk aE->(n,c)∈aE\/((n,.free)∈fk/\c=(cZ.lookup n).getD 0)
 | [],_,_,_,h=>.inl h
 |(m,k)::r,aE,n,c,h=>by
  unfold gm at h;split at h
  ·rename_i d;have d:k=.free:=by simpa using d
   rcases wb h with h|⟨a,b⟩
   ·rcases bL.mp h with e|h
    ·cases e;exact .inr #v[d▸cc,I]
    ·exact .inl h
   ·exact .inr #v[cw _ a,b]
  ·rcases wb h with h|⟨a,b⟩
   ·exact .inl h
   ·exact .inr #v[cw _ a,b]
def Cf{cZ:aa (M×U)}:∀ {fk:aa (M×iu)}{aE:aa (M×U)}{p:M×U},p∈aE->p∈gm cZ fk aE
 | [],_,_,h=>h
 |(m,k)::r,aE,p,h=>by
  unfold gm;split
  ·exact Cf (cw _ h)
  ·exact Cf h
def Cg{cZ:aa (M×U)}:∀ {fk:aa (M×iu)}{aE:aa (M×U)}{n:M},(n,.free)∈fk->(n,(cZ.lookup n).getD 0)∈gm cZ fk aE
 |(m,k)::r,aE,n,h=>by
  unfold gm;rcases bL.mp h with e|h
  ·cases e;exact Cf cc
  ·split
   ·exact Cg h
   ·exact Cg h
def tL:∀ {fk:aa (M×iu)}{h:aZ}{aE:aa (M×U)}{x:M}{c:U},(x,c)∈gx h.objs.size fk aE->(x,c)∈aE\/((x,.cell)∈fk/\h.objs.size<=c/\HJ (o9 h fk) c aj)
 | [],_,_,_,_,h=>.inl h
 |(n,k)::r,h,aE,x,c,a=>by
  unfold gx at a;unfold o9;split at a
  ·rename_i b;rw[aI b];have b:k=.cell:=by simpa using b
   rw[<-gw h {cls:=.type "cell",data:=.cell aj}]at a;rcases tL a with a|⟨f,d,g⟩
   ·rcases bL.mp a with e|a
    ·cases e;exact .inr #v[b▸cc,bp _,_,Az r _ _ _ (eo _ rfl),I]
    ·exact .inl a
   ·rw[gw]at d;exact .inr #v[cw _ f,AA d,g]
  ·rename_i b;rw[aD b];rcases tL a with a|⟨f,d,g⟩
   ·exact .inl a
   ·exact .inr #v[cw _ f,d,g]
def wc:∀ {fk:aa (M×iu)}{n:Nat}{aE:aa (M×U)}{p:M×U},p∈aE->p∈gx n fk aE
 | [],_,_,_,h=>h
 |(m,k)::r,n,aE,p,h=>by
  unfold gx;split
  ·exact wc (cw _ h)
  ·exact wc h
def Ci:∀ {fk:aa (M×iu)}{n:Nat}{aE:aa (M×U)}{x:M},(x,.cell)∈fk->∃c,(x,c)∈gx n fk aE
 |(m,k)::r,n,aE,x,h=>by
  unfold gx;rcases bL.mp h with e|h
  ·cases e;exact#v[n,wc cc]
  ·split
   ·exact Ci h
   ·exact Ci h
def Cj:∀ {fk:aa (M×iu)}{h:aZ}{aE:aa (M×U)}{x f:M}{c:U},(∀p∈aE,p.2<h.objs.size)->(∀x f c,(x,c)∈aE->(f,c)∈aE->x=f)->(x,c)∈gx h.objs.size fk aE->(f,c)∈gx h.objs.size fk aE->x=f
 | [],_,_,_,_,_,_,i,d,b=>i _ _ _ d b
 |(n,k)::r,h,aE,x,f,c,j,i,d,b=>by
  unfold gx at d b;split at d
  ·rename_i l;rw[aI l]at b;rw[<-gw h {cls:=.type "cell",data:=.cell aj}]at d b;refine Cj (h:=h.push _) (λp m=>?_) (λx f c a g=>?_) d b
   ·rw[gw];rcases bL.mp m with rfl|m
    ·exact qE _
    ·exact si (j p m)
   ·rcases bL.mp a with e|a<;>rcases bL.mp g with o|g
    ·cases e;cases o;rfl
    ·cases e;exact absurd (j _ g) (kb _)
    ·cases o;exact absurd (j _ a) (kb _)
    ·exact i _ _ _ a g
  ·rename_i l;rw[aD l]at b;exact Cj j i d b
def Tw{j:r6}{A:cQ}{E:D->au->Prop}{s:au}{a:fO}{globals:U}{b:aa (M×U)}{i:M}{g:ab U}{code:D}{e:fi}{f:U}{d:fi->au->Prop}(h:d (newEnv a s.heap.objs.size globals (gx (s.heap.objs.size+1) a.names b) i g code (O e) f) {s with heap:=o9 (s.heap.push {cls:=.type "dict",data:=.dict #[]}) a.names}):aG j A (newFunctionEnv a globals b [] i g code (O e) f) d E s:=by simp only[newFunctionEnv,O0,hZ];refine av (wpAny_alloc ?_);refine av (wpAny_layCells _ (λn k c=>rfl) a.names b _ _ ?_);rw[show({s with heap:=s.heap.push {cls:=.type "dict",data:=.dict #[]} }:au).heap.objs.size=s.heap.objs.size+1 from gw ..];rw[qJ];exact av (aV (aV h))
def Ck{a:fO}:∀ {fk:aa (M×iu)}{x:M}{k:iu},(fk.map λ(n,k)=>if(k==sh&&a.kind==.function&&a.names.lookup n==O .cell)then(n,EW)else(n,k)).lookup x=O k->∃e,fk.lookup x=O e/\(k=e\/(e=.free/\k=.cell))
 | [],_,_,h=>by simp at h
 |(n,d)::r,x,k,h=>by
  have f:= @Ck a r x k;have h':o2 x ((if(d==sh&&a.kind==.function&&a.names.lookup n==O .cell)=ai then(n,EW)else(n,d))::(r.map _))=O k:=h;cases c:x==n with
  |true=>
   simp only[qK,c];by_cases b:(d==sh&&a.kind==.function&&a.names.lookup n==O .cell)=ai
   ·rw[aI b]at h';simp only[qK,c]at h';cases h';simp only[oS,jf]at b;exact#v[d,I,.inr #v[b.1.1,I]]
   ·rw[aD b]at h';simp only[qK,c]at h';cases h';exact#v[_,I,.inl I]
  |false=>
   simp only[qK,c];by_cases b:(d==sh&&a.kind==.function&&a.names.lookup n==O .cell)=ai
   ·rw[aI b]at h';simp only[qK,c]at h';exact f h'
   ·rw[aD b]at h';simp only[qK,c]at h';exact f h'
structure tM(N:aa M)(sc scope:fO)(own:aa (M×Nat)):Prop where
 kind:scope.kind=.function
 uniq:∀y∈scope.names,scope.names.lookup y.1=O y.2
 ix:∀p∈own,N[p.2]? =O p.1
 free:∀y∈scope.names,y.2=.free->sc.names.lookup y.1=O .cell\/sc.names.lookup y.1=O .free
 own:∀y∈scope.names,y.2=.local\/y.2=.cell->y.1∈own.map (·.1)\/y.1∉N
def bP(a:St):aa Nat->St
 | []=>a
 |v::vs=>(bP a vs).set v aj
def Cm(a:St):∀vs:aa Nat,(bP a vs).length=a.length
 | []=>rfl
 |v::vs=>by unfold bP;rw[o6,Cm a vs]
def Cn{b:St}{i:Nat}{x:V}:∀ {vs:aa Nat},(bP b vs)[i]? =O (O x)->b[i]? =O (O x)/\i∉vs
 | [],h=>#v[h,by simp]
 |v::vs,h=>by
  unfold bP at h;by_cases a:v=i
  ·subst a;by_cases c:v<(bP b vs).length
   ·rw[z9 c]at h;cases h
   ·rw[gK (by simpa using c)]at h;cases h
  ·rw[z_ a]at h;obtain⟨d,f⟩:=Cn h;exact#v[d,by simp only[bL,hI];exact#v[λe=>a e.symm,f]]
abbrev Cx.gS(X:Cx)(s:au)(H:Hp)(c:fO)(a:fi)(b:aa U):Cx:={X with g6:=s,pJ:=H,env:=a,outer:=X.stack,ex:=b,fn:=λx=>c.names.lookup x==O .cell,pn:=[],xe:=λ_ _=>False}
section
variable{X:Cx}{af:aa (U×a9)}{σ:St}{H:Hp}{s:au}
def Tx{h:fO}{dS:aa (M×Nat)}{W:aa U}(g:Inv X af σ H s)(ok:tM X.N X.env.scope h dS)(am:X.N.Nodup)(J:∀j∈W,k3 X af H j/\j<s.heap.objs.size):Inv (X.gS s H h (kg h (gx (s.heap.objs.size+1) h.names (gm X.env.cells h.names [])) s.heap.objs.size X.env) W) [] (bP σ (dS.map (·.2))) H {s with heap:=o9 (s.heap.push {cls:=.type "dict",data:=.dict #[]}) h.names}:=by
 have an:∀b∈h.names,b.2=.free->∃c,X.env.cells.lookup b.1=O c:=λb x e=>by
  rcases ok.free b x e with k|k
  ·exact g.ok.has _ (.inl k)
  ·exact g.ok.has _ (.inr k)
 generalize N:kg h (gx (s.heap.objs.size+1) h.names (gm X.env.cells h.names [])) s.heap.objs.size X.env=f;have T:∀j o,s.heap.get? j=O o->(o9 (s.heap.push {cls:=.type "dict",data:=.dict #[]}) h.names).get? j=O o:=λj o e=>Az _ _ _ _ (dd _ e);have Q:f.locals=s.heap.objs.size:=by rw[<-N];rfl
 have C:f.cells=gx (s.heap.objs.size+1) h.names (gm X.env.cells h.names []):=by rw[<-N];rfl
 have Z:f.scope=Tu h X.env.scope:=by rw[<-N];rfl
 rw[<-gw s.heap {cls:=.type "dict",data:=.dict #[]}]at C;have L:∀ {b c},(b,c)∈gm X.env.cells h.names []->X.env.cells.lookup b=O c/\c<s.heap.objs.size:=λ{b c} t=>by
  rcases wb t with t|⟨l,rfl⟩
  ·cases t
  ·obtain⟨c,ad⟩:=an _ l I;rw[ad];obtain⟨w,d⟩:=g.cell _ _ ad;exact#v[I,d.lt]
 have ac:∀ {b c},f.cells.lookup b=O c->(X.env.cells.lookup b=O c/\c<s.heap.objs.size)\/(s.heap.objs.size+1<=c/\HJ (o9 (s.heap.push {cls:=.type "dict",data:=.dict #[]}) h.names) c aj):=λ{b c} e=>by
  rw[C]at e;rcases tL (iR e)with t|⟨_,v,al⟩
  ·exact .inl (L t)
  ·rw[gw]at v;exact .inr #v[v,al]
 have look:∀ {b},h.names.lookup b=O .free->∃c,f.cells.lookup b=O c/\X.env.cells.lookup b=O c:=λ{b} S=>by
  have x:(b,sh)∈h.names:=iR S;obtain⟨P,q⟩:=mem_lookup (wc (fk:=h.names) (n:=(s.heap.push {cls:=.type "dict",data:=.dict #[]}).objs.size) (Cg (cZ:=X.env.cells) (aE:=[]) x));rw[<-C]at q;refine#v[P,q,?_];rw[C]at q;rcases tL (iR q)with t|⟨l,_,_⟩
  ·exact(L t).1
  ·have:=ok.uniq _ l;rw[S]at this;cases this
 have as:(X.gS s H h f W).Ok:=by
  refine⟨g.ok.mod,by show f.scope.kind=_;rw[Z];exact ok.kind,by show f.globals=_;rw[<-N];exact g.ok.glob,by show f.builtins=_;rw[<-N];exact g.ok.blt,by show s.heap.objs.size<=f.locals;rw[Q];exact bp _,
   λb d c y z=>?_,λb x=>?_,λb c d e=>?_,g.ok.hd,g.ok.frames,.inl I,λj A=>#v[?_,λb c e d=>?_],g.bs,dQ g.ok.lI g.sz,λj o e A=>?_,λj A d=>?_,g.stack,g.GB⟩
  ·have y:f.cells.lookup b=O c:=y;have z:f.cells.lookup d=O c:=z;rw[C]at y z;refine Cj (λp K=>?_) (λb d c a j=>g.ok.inj b d c (L a).1 (L j).1) (iR y) (iR z);rw[gw];exact si (L (b:=p.1) (c:=p.2) K).2
  ·show∃c,f.cells.lookup b=O c;have key:∀k,f.kindOf b=O k->(k=.cell\/k=.free)->∃c,f.cells.lookup b=O c:=λk E Y=>by
    unfold Env.kindOf at E;rw[Z]at E;obtain⟨B,e,r⟩:=Ck E;have:B=.cell\/B=.free:=by
     rcases r with rfl|⟨rfl,_⟩
     ·exact Y
     ·exact .inr I
    rcases this with rfl|rfl
    ·obtain⟨c,t⟩:=Ci (n:=(s.heap.push {cls:=.type "dict",data:=.dict #[]}).objs.size) (aE:=gm X.env.cells h.names []) (iR e);obtain⟨P,q⟩:=mem_lookup t;exact#v[P,by rw[C];exact q]
    ·obtain⟨c,l,_⟩:=look e;exact#v[c,l]
   rcases x with x|x
   ·exact key _ x (.inl I)
   ·exact key _ x (.inr I)
  ·have d:(h.names.lookup b==O EW)=ai:=d;have d:h.names.lookup b=O .cell:=by simpa using d
   have e:f.cells.lookup b=O c:=e;rw[C]at e;rcases tL (iR e)with t|⟨_,v,_⟩
   ·rcases wb t with t|⟨l,_⟩
    ·cases t
    ·have V:=ok.uniq _ l;rw[d]at V;cases V
   ·rw[gw]at v;exact AA v
  ·show j≠f.locals;rw[Q];exact er (J j A).2
  ·have e:f.cells.lookup b=O c:=e;rcases ac e with⟨l,_⟩|⟨l,_⟩
   ·exact(J j A).1.2.2.2.2.1 b c l d
   ·have v:s.heap.objs.size+1<=j:=(by rw[<-d];exact l);exact absurd (gc (J j A).2 (AA v)) (kb _)
  ·rcases(J j A).1.2.2.2.1 with d|d
   ·exact g.ok.sZ j o e d
   ·exact absurd (gc (cJ e) (dQ g.ok.lI d)) (kb _)
  ·rcases bL.mp (g.BN j d)with d|d
   ·exact(J j A).1.2.1 d
   ·exact(J j A).1.2.2.1 d
 refine#v[as,I,g.bare,Un.kept T,#v[λ_=>aj,?_,λi b ak y z u=>?_],λb c e=>?_,?_,λb c e=>?_,λp K=>?_,g.bA.kept T,by rw[Cm];exact g.len]
 ·show Heap.Ns _ f.locals _;rw[Q];exact Heap.Ns.keeps (Heap.Ns.new ..) λj o e=>Az _ _ _ _ e
 ·obtain⟨z,ap⟩:=Cn z;have R:h.names.lookup b=O .free/\(f.kindOf b=O .cell\/f.kindOf b=O .free):=by
   have key:∀k,f.scope.names.lookup b=O k->k=.local\/k=.cell\/k=.free->h.names.lookup b=O .free/\(f.kindOf b=O .cell\/f.kindOf b=O .free):=λk E Y=>by
    have ag:=E;rw[Z]at E;obtain⟨B,e,r⟩:=Ck E;have ah:¬(B=.local\/B=.cell):=λao=>by
     rcases ok.own _ (iR e) ao with q|q
     ·obtain⟨p,K,aq⟩:=bM.mp q;have u:=ok.ix p K;have:p.1=b:=aq;rw[this]at u;exact ap (bM.mpr #v[p,K,BP am u y])
     ·exact q (dJ y)
    rcases r with rfl|⟨rfl,rfl⟩
    ·rcases Y with rfl|rfl|rfl
     ·exact absurd (.inl I) ah
     ·exact absurd (.inr I) ah
     ·exact#v[e,.inr ag]
    ·exact#v[e,.inl ag]
   have u:lH f.scope b:=u;rcases u with u|u|u
   ·exact key _ u (.inl I)
   ·exact key _ u (.inr (.inl I))
   ·exact key _ u (.inr (.inr I))
  obtain⟨m,_,S⟩:=g.loc;have ar:lH X.env.scope b:=(ok.free _ (iR R.1) I).elim (λk=>.inr (.inl k)) (λk=>.inr (.inr k));obtain⟨w,r,V⟩:=S i b ak y z ar;refine#v[w,r,.inr #v[R.2,?_]];obtain⟨c,l,v⟩:=look R.1;rcases V with⟨k,_⟩|⟨_,P,q,d⟩
  ·have k:X.env.scope.names.lookup b=O .local:=k;rcases ok.free _ (iR R.1) rfl with B|B<;>rw[show X.env.scope.names.lookup b=_ from B]at k<;>cases k
  ·rw[v]at q;cases q;exact#v[c,l,d.keeps T]
 ·have e:f.cells.lookup b=O c:=e;rcases ac e with⟨l,_⟩|⟨_,d⟩
  ·obtain⟨w,d⟩:=g.cell b c l;exact#v[w,d.keeps T]
  ·exact#v[_,d]
 ·show H f.locals=aj;rw[Q];exact g.bA.fresh (bp _)
 ·have e:f.cells.lookup b=O c:=e;rcases ac e with⟨l,_⟩|⟨l,_⟩
  ·exact g.jt b c l
  ·exact g.bA.fresh (AA l)
 ·exact absurd (show p∈([]:aa (U×a9))++ []from K) (by simp)
def Tz{E:D->au->Prop}{a:U}{xs:aa V}{i:V}{v:D}{c:D->au->Prop}(b:Inv X af σ H s)(d:H a=O (.lst xs))(l:xs.length<bu)(r:RelV i v)(h:∀s',Inv X af σ (Y H a (.lst (xs++ [i]))) s'->c .none s'):aG (aU X.prog X.w) X.A (call (.builtin "list.append") [.ref a,v]) c E s:=by obtain⟨_,aH,n,g,e⟩:=b.bA a _ d;have p:=g.length;refine append_at (hsz:=by rw[dB];lia) e λh' o f=>?_;refine h {s with heap:=h'} (b.write (t':=s.toks) (by rw[d];trivial) (.inl I) (λj u k m=>(o.2 j k).trans m) #v[_,f] #v[by rw[cV];exact l,aH++ [v],n+1,g.append (.cons r .nil),?_]);rw[f];simp
def tN(X:Cx)(b:aa bx)(t:TT):Prop:=∀(af:aa (U×a9))(s:au)(σ:St)(H:Hp)(a:Bool->Hp->Prop),Inv X af σ H s->t σ H a->aG (aU X.prog X.w) X.A (forIn b ai λc r=>if r=ai then do let ok<-uS c X.env (bU c X.env);pure (AB ok)else pure (AB r)) (TP X af σ a) X.xe s
def fI:TT:=λ_ H a=>a ai H
def ib:tN X [] fI:=λ_ _ _ H _ a h=>wpAny_tests_nil #v[H,a,h]
def tO{c:bx}{t:TT}(h:PT X c t):tN X [c] t:=λaf s σ H b a d=>wpAny_tests_one (h af s σ H b a d)
end
def q8{e:Type}{t:gg e}{c d:e->au->Prop}{b:r6}{A:cQ}{E:D->au->Prop}{s:au}(h:aG b A t c (λ_ _=>False) s)(f:∀a s,c a s->d a s):aG b A t d E s:=kc h f λ_ _ g=>h7 g
def TB{b:cx}{w:bR}{A:cQ}{R:uV->au->Prop}{s:au}{i g iter:bx}{j:aa bx}{t:fO}{q:c7}{f aE:D}{a:fi}(d:Nat->au->Prop)(L:∀n s,d n s->aG (aU b w) A (fP f) (λr k=>match r with
   |none=>R (.ok .next) k
   |some v=>aG (aU b w) A (Ab g f v) (λ_ u=>aG (aU b w) A (qA g a v) (λ_ y=>
     aG (aU b w) A (forIn j ai λc r=>if r=ai then do let ok<-uS c a (bU c a);pure (AB ok)else pure (AB r)) (λok l=>
      if ok=ai then aG (aU b w) A (bU i a) (λx z=>aG (aU b w) A (call (.builtin "list.append") [aE,x]) (λ_ B=>∃m,m<n/\d m B) (sj (aU b w) A a λe s'=>R (.error e) s') z) (sj (aU b w) A a λe s'=>R (.error e) s') l
      else∃m,m<n/\d m l) (sj (aU b w) A a λe s'=>R (.error e) s') y) (sj (aU b w) A a λe s'=>R (.error e) s') u) (sj (aU b w) A a λe s'=>R (.error e) s') k) (sj (aU b w) A a λe s'=>R (.error e) s') s)
  (n:Nat) (h:d n s):
  kP (aU b w) A (.compLoop (.ListComp i [#v[g,iter,j,0]] t q) 0 f aE a) R s:=by
 refine codeAny_loop I d (λn s C=>?_) n h;show aG _ A ((compTurn (.ListComp i [#v[g,iter,j,0]] t q) 0 f aE a).onRaise (λx=>do noteFrame x a;theTreesLotGoes x)) _ _ s;refine wpAny_noted ?_;rw[compTurn_list];refine av (EF (av (kc (L n s C) (λr k o=>?_) λ_ _ h'=>h')));cases r with
 |none=>exact aV o
 |some v=>
  refine av (kc o (λ_ u E=>?_) λ_ _ h'=>h');refine av (kc E (λ_ y H=>av (kc H (λok l p=>?_) λ_ _ h'=>h')) λ_ _ h'=>h');cases ok with
  |false=>exact aV #v[I,p]
  |true=>exact av (av (kc p (λx z J=>av (kc J (λ_ B K=>aV (aV #v[I,K])) λ_ _ h'=>h')) λ_ _ h'=>h'))
section
variable{X:Cx}
def tP(o:TI)(g:TG)(tt:TT)(te:TE)(vs:aa Nat):TE:=λd H l=>o d H λJ H1=>∀a,H1 a=aj->∃W:Nat->Nat->Hp->Prop,(∃m,W 0 m (Y H1 a (.lst [])))/\∀i m H,W i m H->(J.stop i H/\l (.ref a) H)\/(J.go i H/\∃c:Hp->Prop,(∀b,c b->∃j,j<m/\W (i+1) j b)/\∀x b,J.gC i H x b->g x (bP d vs) b λe k=>bP e vs=bP d vs/\tt e k λn f=>if n=ai then te e f λp h=>∃aE,h a=O (.lst aE)/\aE.length<bu/\c (Y h a (.lst (aE++ [p])))else c f)
def HL{af:aa (U×a9)}{s:au}{A:St}{H:Hp}{aN:VK}{ak V iter:bx}{am:aa bx}{d:fO}{dS:aa (M×Nat)}{aC bW:c7}{bc:TI}{g:TG}{tt:TT}{te:TE}{Z:ab (D->gg Unit)}{Qf:D->au->Prop}(aV:X.calm=ai)(bt:X.N.Nodup)(ar:Inv X af A H s)(bE:PI X V iter bc)(ok:tM X.N X.env.scope d dS)(bD:∀(s:au)(H:Hp)(C:U)(cl:aa (M×U))(f:aa U),PG (X.gS s H d (kg d cl C X.env) f) V g)(bK:∀(s:au)(H:Hp)(C:U)(cl:aa (M×U))(f:aa U),tN (X.gS s H d (kg d cl C X.env) f) am tt)(bB:∀(s:au)(H:Hp)(C:U)(cl:aa (M×U))(f:aa U),PE (X.gS s H d (kg d cl C X.env) f) ak te)(bI:∀x,Ac iter X.env x=pure x)(h:tP bc g tt te (dS.map (·.2)) A H aN)(bw:∀t C s' m q,Inv X af A q s'->aN (.ref t) q->s'.heap.Ns C m->k3 X af q C->compPost (aU X.prog X.w) X.A X.xe Z Qf (.ref t) C (.ok .next) s'):aG (aU X.prog X.w) X.A (comprehension (.ListComp ak [#v[V,iter,am,0]] d aC) d X.env bW (newList []) ax (bU iter X.env) Z) Qf X.xe s:=by
 have bC:∀R∈d.names,R.2=.free->∃c,X.env.cells.lookup R.1=O c:=λR av e=>by
  rcases ok.free R av e with k|k
  ·exact ar.ok.has _ (.inl k)
  ·exact ar.ok.has _ (.inr k)
 refine wpAny_comprehension_free (use:=Z) I bI (Tv bC) ok.kind (λR av e=>by rw[ok.uniq R av,e]) (S (bE af s A H _ ar h) λ_ _ bL=>S bL λ_ Q bo=>?_);obtain⟨a0,f,ap,J,B,e,aK,z,a7,aP,bX⟩:=bo;subst e;refine o_ (Tw ?_) (by show 0<=bu;decide);generalize al:Q.heap.objs.size=t;have bs:B t=aj:=aK.bA.fresh (uM al);obtain⟨W,⟨bO,bb⟩,b9⟩:=bX t bs;generalize aX:({Q with heap:=Q.heap.push {cls:=.type "list",data:=.seq ([]:aa D).toArray} }:au)=b;have ac:Inv X af A (Y B t (.lst [])) b:=by rw[<-aX];refine aK.laid (t':=Q.toks) (λa o e=>dd _ e) (uM al) #v[dc _,[],0,.nil,?_];rw[<-al];exact eo _ rfl
 have aS:b.heap=Q.heap.push {cls:=.type "list",data:=.seq ([]:aa D).toArray}:=by rw[<-aX]
 have b6:∀a∈f,a<Q.heap.objs.size:=λa l=>by obtain⟨o,e,_⟩:=z.obj _ _ a7 a l;exact cJ e
 have K:∀a∈f,k3 X af (Y B t (.lst [])) a/\a<b.heap.objs.size:=λa l=>by have aW:=b6 a l;refine#v[#v[?_,(aP a l).2],by rw[aS,gw];exact si aW];rw[aw (by rw[<-al];exact er aW)];exact(aP a l).1
 have b5:ap 0 b.heap:=z.keep _ _ _ a7 λa _ o e=>by rw[aS];exact dd _ e
 have ad:=Tx ac ok bt K;have aA:=bD b (Y B t (.lst [])) b.heap.objs.size (gx (b.heap.objs.size+1) d.names (gm X.env.cells d.names [])) f;have aD:=bK b (Y B t (.lst [])) b.heap.objs.size (gx (b.heap.objs.size+1) d.names (gm X.env.cells d.names [])) f;have az:=bB b (Y B t (.lst [])) b.heap.objs.size (gx (b.heap.objs.size+1) d.names (gm X.env.cells d.names [])) f;show kP _ _ (.compStart (.ListComp ak [#v[V,iter,am,0]] d aC) 0 (.ref a0) (.ref t) (kg d (gx (b.heap.objs.size+1) d.names (gm X.env.cells d.names [])) b.heap.objs.size X.env)) (compPost (aU X.prog X.w) X.A X.xe Z Qf (.ref t) b.heap.objs.size) {b with heap:=o9 (b.heap.push {cls:=.type "dict",data:=.dict #[]}) d.names};have a3:∀a∈f,(Y B t (.lst [])) a=aj:=λa l=>(K a l).1.1;generalize bA:kg d (gx (b.heap.objs.size+1) d.names (gm X.env.cells d.names [])) b.heap.objs.size X.env=w at ad aA aD az⊢;have aO:w.locals=b.heap.objs.size:=by subst bA;rfl
 generalize cd:Y B t (.lst [])=y at ac ad aA aD az bb a3 K;generalize bJ:({b with heap:=o9 (b.heap.push {cls:=.type "dict",data:=.dict #[]}) d.names}:au)=a5 at ad⊢;have a8:ap 0 a5.heap:=z.keep _ _ _ b5 λa _ o e=>by rw[<-bJ];exact Az _ _ _ _ (dd _ e)
 have aI:∀ {bd:St}{q:Hp}{s':au},Inv (X.gS b y d w f) [] bd q s'->(∀a∈f,q a=aj)->∀a∈f,k3 (X.gS b y d w f) [] q a:=λ{bd q s'} L P a l=>#v[P a l,(L.ok.vQ a l).1,L.ok.s6 a l,.inl l,λx c e=>(L.ok.vQ a l).2 x c e,λp bH=>absurd (show p∈([]:aa (U×a9))++ []from bH) (by simp)]
 have a1:kP (aU X.prog X.w) X.A (.compLoop (.ListComp ak [#v[V,iter,am,0]] d aC) 0 (.ref a0) (.ref t) w) (compPost (aU X.prog X.w) X.A X.xe Z Qf (.ref t) b.heap.objs.size) a5:=by
  refine TB (λn s'=>∃i q,Inv (X.gS b y d w f) [] (bP A (dS.map (·.2))) q s'/\ap i s'.heap/\(∀a∈f,q a=aj)/\W i n q) ?_ bO #v[0,y,ad,a8,a3,bb];rintro n a6 ⟨i,E,ag,ba,a2,ca⟩;rcases b9 i n E ca with⟨stop,b0⟩|⟨bn,bm,bv,step⟩
  ·have b7:=z.done (X.gS b y d w f) I I I aV i [] a6 _ E (λ_ _=>False) ag (aI ag a2) ba stop;refine q8 b7 λr ao⟨as,N⟩=>?_;subst as;have ah:Inv X af A E ao:=ac.RX (ch:=f) N.os N.base N.bA N.bare λa l=>#v[(K a l).1.2.2.2.1,(K a l).1.2.1,(K a l).1.2.2.2.2.1,(K a l).1.2.2.2.2.2]
   have bT:E b.heap.objs.size=aj:=(by have T:E w.locals=aj:=N.free;rw[aO]at T;exact T);obtain⟨m,P,_⟩:=N.loc;have P:ao.heap.Ns w.locals m:=P;rw[aO]at P;exact bw t b.heap.objs.size ao m E ah b0 P (ac.tq (bp _) bT)
  ·have b8:=z.item (X.gS b y d w f) I I I aV i [] a6 _ E (λ_ _=>False) ag (aI ag a2) ba bn;refine q8 b8 λr ao⟨u,as,bq⟩=>?_;subst as;refine q8 bq λ_ aF⟨x,aJ,ah,b2,cc,aH,bS⟩=>?_;have bi:=ah.pinned (aI ah bS) (z.obj _ _ aH);refine q8 (aA _ aF _ aJ x u _ bi b2 (step x aJ cc)) λ_ b3⟨aq,be,bk,aY,bZ⟩=>?_;refine q8 (aD _ b3 aq be _ bk bZ) λa b4⟨bf,aL,an⟩=>?_;have aQ:∀ {s':au}{q:Hp},Inv (X.gS b y d w f) ([]++tu f aF.heap) aq q s'->bm q->∃m,m<n/\∃i q,Inv (X.gS b y d w f) [] (bP A (dS.map (·.2))) q s'/\ap i s'.heap/\(∀a∈f,q a=aj)/\W i m q:=λ{s' q} L ay=>by
    obtain⟨bN,bG,b_⟩:=bv q ay;have a4:∀a∈f,∀o,aF.heap.get? a=O o->s'.heap.get? a=O o/\q a=aj:=λa l o e=>
     let T:=L.pin (a,o) (gJ _ (gJ _ (BV l e)))
     #v[T.1,T.2.1]
    have bF:(bP A (dS.map (·.2))).length=aq.length:=(by rw[<-aY,Cm]);refine#v[bN,bG,i+1,q,(L.vY (af:=[])).weak bF (λj v e=>?_),z.keep _ _ _ aH λa l o e=>(a4 a l o e).1,λa l=>?_,b_]
    ·rw[<-aY]at e;exact(Cn e).1
    ·obtain⟨o,e,_⟩:=z.obj _ _ aH a l;exact(a4 a l o e).2
   cases a with
   |false=>simp only[ka,iO]at an⊢;exact aQ aL an
   |true=>simp only[hZ]at an⊢;refine q8 (az _ b4 aq bf _ aL an) λT _⟨_,_,bg,b1,aE,br,bM,ay⟩=>?_;exact Tz (X:=X.gS b y d w f) bg br bM b1 λ_ bh=>aQ bh ay
 exact codeAny_compStart_list a1 (z.self X.A 0 _ _ _ a8 a1)
def hP{d c iter:bx}{i:aa bx}{a:fO}{dS:aa (M×Nat)}{P:c7}{j:TI}{g:TG}{tt:TT}{te:TE}(A:X.calm=ai)(y:X.N.Nodup)(J:PI X c iter j)(ok:tM X.N X.env.scope a dS)(E:∀(s:au)(H:Hp)(C:U)(cl:aa (M×U))(b:aa U),PG (X.gS s H a (kg a cl C X.env) b) c g)(N:∀(s:au)(H:Hp)(C:U)(cl:aa (M×U))(b:aa U),tN (X.gS s H a (kg a cl C X.env) b) i tt)(B:∀(s:au)(H:Hp)(C:U)(cl:aa (M×U))(b:aa U),PE (X.gS s H a (kg a cl C X.env) b) d te)(L:∀x,Ac iter X.env x=pure x:=by intro _;rfl):PE X (.ListComp d [#v[c,iter,i,0]] a P) (tP j g tt te (dS.map (·.2))):=by(intro af s _ H _ n h;rw[eval_ListComp];refine HL A y n J ok E N B L h λk C s' m l p R K f=>#v[m,K,λ_ S=>?_]);obtain⟨r,t,_,u,v,w⟩:=f;exact#v[.ref k,l,p.turned (t':=s'.toks) (λq o z e=>(S.2 q z).trans e) r t u v w,I,R]
def wd{i:Nat}{c:M}{p:c7}{l d iter:bx}{k:aa bx}{b:fO}{dS:aa (M×Nat)}{n A:c7}{q:TI}{g:TG}{tt:TT}{te:TE}(ac:X.calm=ai)(y:X.N.Nodup)(ap:X.N[i]? =O c)(z:X.env.scope.names.lookup c=O .local)(an:oZ (.ListComp l [#v[d,iter,k,0]] b n) (O (.Name c p)) A.line X.env=pure ai)(ah:PI X d iter q)(ok:tM X.N X.env.scope b dS)(ag:∀(s:au)(H:Hp)(C:U)(cl:aa (M×U))(j:aa U),PG (X.gS s H b (kg b cl C X.env) j) d g)(ao:∀(s:au)(H:Hp)(C:U)(cl:aa (M×U))(j:aa U),tN (X.gS s H b (kg b cl C X.env) j) k tt)(ad:∀(s:au)(H:Hp)(C:U)(cl:aa (M×U))(j:aa U),PE (X.gS s H b (kg b cl C X.env) j) l te)(am:∀x,Ac iter X.env x=pure x:=by intro _;rfl):PS X (.Assign [.Name c p] (.ListComp l [#v[d,iter,k,0]] b n) A) (tp (tP q g tt te (dS.map (·.2))) (eh i)):=by
 intro af s B H t J h;rw[exec_Assign_Name_used _ _ _ _ an];refine av (EF (av ?_));show aG _ X.A (do let _<-comprehension (.ListComp l [#v[d,iter,k,0]] b n) b X.env (firstIterPos [#v[d,iter,k,0]] n) (newList []) ax (bU iter X.env) (O (qA (.Name c p) X.env))) _ _ s;have h:tP q g tt te (dS.map (·.2)) B H (λx H1=>eh i x B H1 t.nx):=h;refine av (S (HL (Qf:=λ_ s'=>SP X af t .next s') ac y J ah ok ag ao ad am h λL C s' m E K aq ak f=>?_) λ_ s' al=>aV (aV al));show aG _ _ (qA (.Name c p) X.env (.ref L)) _ _ _;refine Oz (GD (v:=V.ref L) K y ap (.inl z) I (λar N⟨a,as,W⟩=>?_) (.inr z));obtain⟨Q,u,_,R,w,T⟩:=f;have Y:C≠a:=by
  rcases W with r|r
  ·rw[r];exact u
  ·exactλe=>w c a r e.symm
 refine#v[m,ak.sameBut as Y,λ_ aw=>?_];exact#v[_,E,N.turned (t':=ar.toks) (λP o Z e=>(aw.2 P Z).trans e) Q u R w T,aq]
def we{f:bx}{g:aa Comprehension}{e:fO}{c d:c7}{b:M}{l:Nat}{a:fi}(j:a.scope.kind=.function)(o:a.scope.names.lookup b=O .local)(m:(d.line==c.line)=ai)(h:(e.names.any λ(n,k)=>n==b&&(k==.local||k==.cell))=ax):oZ (.ListComp f g e c) (O (.Name b d)) l a=pure ai:=by(have p:a.kindOf b=O .local:=o;have i:a.blockKind=.function:=by unfold Env.blockKind;rw[j];rfl);unfold oZ;simp only[i,p,h,Expr.pos,m];rfl
end
def TC{lo:Int}{n:Nat}{g:TG}{tt:TT}{te:TE}{vs:aa Nat}{j:St}{H1:Hp}{d:U}{r:Hp->Prop}(Pv:Nat->Hp->Prop)(t:Pv 0 (Y H1 d (.lst [])))(v:∀i H,i<n->Pv i H->g (.int (lo+i)) (bP j vs) H λc k=>bP c vs=bP j vs/\tt c k λo f=>if o=ai then te c f λb h=>∃aE,h d=O (.lst aE)/\aE.length<bu/\Pv (i+1) (Y h d (.lst (aE++ [b])))else Pv (i+1) f)(u:∀H,Pv n H->r H):∃W:Nat->Nat->Hp->Prop,(∃m,W 0 m (Y H1 d (.lst [])))/\∀i m H,W i m H->((ju lo n).stop i H/\r H)\/((ju lo n).go i H/\∃l:Hp->Prop,(∀a,l a->∃s,s<m/\W (i+1) s a)/\∀x a,(ju lo n).gC i H x a->g x (bP j vs) a λc k=>bP c vs=bP j vs/\tt c k λo f=>if o=ai then te c f λb h=>∃aE,h d=O (.lst aE)/\aE.length<bu/\l (Y h d (.lst (aE++ [b])))else l f):=by refine#v[λi m H=>m=n-i/\i<=n/\Pv i H,#v[n,by simp,dc _,t],?_];rintro i m H ⟨rfl,_,p⟩;by_cases q:i<n;(refine .inr #v[q,Pv (i+1),λa w=>#v[n-(i+1),by lia,I,q,w],λx a b=>?_];obtain⟨e,b⟩:=b;subst e b;exact v i _ q p);have e:i=n:= ∅;subst e;exact .inl #v[bp _,u H p]
def Co{K:bj}{a:U}{xs:aa V}{g:TG}{tt:TT}{te:TE}{vs:aa Nat}{k:St}{H1:Hp}{f:U}{r:Hp->Prop}(Pv:Nat->Hp->Prop)(u:Pv 0 (Y H1 f (.lst [])))(y:∀i H,i<=xs.length->Pv i H->aA K H a xs)(z:∀i x H,xs[i]? =O x->Pv i H->g x (bP k vs) H λd l=>bP d vs=bP k vs/\tt d l λo h=>if o=ai then te d h λc j=>∃aE,j f=O (.lst aE)/\aE.length<bu/\Pv (i+1) (Y j f (.lst (aE++ [c])))else Pv (i+1) h)(v:∀H,Pv xs.length H->r H):∃W:Nat->Nat->Hp->Prop,(∃m,W 0 m (Y H1 f (.lst [])))/\∀i m H,W i m H->((f3 K a).stop i H/\r H)\/((f3 K a).go i H/\∃n:Hp->Prop,(∀b,n b->∃t,t<m/\W (i+1) t b)/\∀x b,(f3 K a).gC i H x b->g x (bP k vs) b λd l=>bP d vs=bP k vs/\tt d l λo h=>if o=ai then te d h λc j=>∃aE,j f=O (.lst aE)/\aE.length<bu/\n (Y j f (.lst (aE++ [c])))else n h):=by refine#v[λi m H=>m=xs.length-i/\i<=xs.length/\Pv i H,#v[xs.length,by simp,dc _,u],?_];rintro i m H ⟨rfl,w,p⟩;have q:=y i H w p;by_cases s:i<xs.length;(refine .inr #v[#v[xs,xs[i],q,by simp[s]],Pv (i+1),λb A=>#v[xs.length-(i+1),by lia,I,s,A],λx b c=>?_];obtain⟨e,c⟩:=c;subst e;exact z i x _ (c xs q) p);have e:i=xs.length:= ∅;subst e;exact .inl #v[#v[xs,q,bp _],v H p]
def HM(c:aa M)(d b:fO)(dS:aa (M×Nat)):Bool:=(match b.kind with|.function=>ai|_=>ax)&&(b.names.all λa=>decide (b.names.lookup a.1=O a.2))&&(dS.all λp=>decide (c[p.2]? =O p.1))&&(b.names.all λa=>match a.2 with
   |.free=>(match d.names.lookup a.1 with|some .cell=>ai|some .free=>ai|_=>ax)
   |.local=>decide (a.1∈dS.map (·.1))||decide (a.1∉c)
   |.cell=>decide (a.1∈dS.map (·.1))||decide (a.1∉c)
   |_=>ai)
def gn{d:aa M}{i j:fO}{dS:aa (M×Nat)}(h:HM d i j dS=ai):tM d i j dS:=by unfold HM at h;simp only[oS,kK,fh]at h;obtain⟨⟨⟨f,k⟩,l⟩,g⟩:=h;refine#v[?_,k,l,λc b e=>?_,λc b e=>?_];(split at f;(assumption);cases f);(·have a:=g c b;simp only[e]at a;split at a<;>first|exact .inl (by assumption)|exact .inr (by assumption)|cases a);·have a:=g c b;rcases e with e|e<;>(simp only[e,l5,fh]at a;exact a)
section
variable{κ:Type}[DecidableEq κ]
def dn(ag:aa (κ×V))(k:κ):ab V:=(ag.find? λa=>decide (a.1=k)).map (·.2)
def eN(ag:aa (κ×V))(k:κ)(v:V):aa (κ×V):=if(ag.any λa=>decide (a.1=k))=ai then ag.map (λa=>if a.1=k then(a.1,v)else a)else ag++ [(k,v)]
def n9(ag:aa (κ×V))(k:κ):aa (κ×V):=ag.filter λa=>decide (a.1≠k)
def jy{p:κ×V}{r:aa (κ×V)}{k:κ}(e:p.1=k):dn (p::r) k=O p.2:=by simp[dn,sk,e]
def iZ{p:κ×V}{r:aa (κ×V)}{k:κ}(e:¬p.1=k):dn (p::r) k=dn r k:=by simp[dn,sk,e]
def lN(k:κ):∀ag:aa (κ×V),(ag.any λa=>decide (a.1=k))=(dn ag k).isSome
 | []=>rfl
 |p::r=>by
  rw[qI];by_cases e:p.1=k
  ·simp only[jy e,eP e,Bool.true_or,O0]
  ·rw[iZ e,ek e,EX];exact lN k r
def HN(k j:κ)(a:V):∀ag:aa (κ×V),dn (ag.map λb=>if b.1=k then(b.1,a)else b) j=(dn ag j).map λx=>if j=k then a else x
 | []=>rfl
 |p::r=>by
  have c:=HN k j a r;rw[cI];by_cases h:p.1=k
  ·rw[aI h];by_cases e:p.1=j
   ·rw[jy (p:=(p.1,a)) e,jy e,oV,aI (e.symm.trans h)]
   ·rw[iZ (p:=(p.1,a)) e,iZ e,c]
  ·rw[aD h];by_cases e:p.1=j
   ·rw[jy (p:=p) e,jy e,oV,aD (λd=>h (e.trans d))]
   ·rw[iZ (p:=p) e,iZ e,c]
def HP(k j:κ)(a:V):∀ag:aa (κ×V),dn ag k=aj->dn (ag++ [(k,a)]) j=if j=k then O a else dn ag j
 | [],_=>by
  by_cases e:k=j
  ·rw[aI e.symm];exact jy (p:=(k,a)) e
  ·rw[aD (λb=>e b.symm)];exact iZ (p:=(k,a)) e
 |p::r,c=>by
  rw[N5];have d:¬p.1=k:=λb=>by rw[jy b]at c;cases c
  rw[iZ d]at c;have f:=HP k j a r c;by_cases e:p.1=j
  ·rw[jy e,jy e,aD (λb=>d (e.trans b))]
  ·rw[iZ e,iZ e,f]
def HQ(ag:aa (κ×V))(k j:κ)(b:V):dn (eN ag k b) j=if j=k then O b else dn ag j:=by unfold eN;by_cases a:(ag.any λd=>decide (d.1=k))=ai;(rw[aI a,HN];rw[lN]at a;by_cases e:j=k;(obtain⟨x,c⟩:=zS.mp a;rw[aI e,e,c,oV,aI I]);rw[aD e];cases dn ag j with|none=>rfl|some x=>rw[oV,aD e]);rw[aD a];refine HP k j b ag ?_;rw[lN]at a;cases f:dn ag k with|none=>rfl|some x=>rw[f]at a;exact(a I).elim
def wg(ag:aa (κ×V))(k:κ)(v:V):(eN ag k v).length<=ag.length+1:=by unfold eN;split;(rw[aq];lia);rw[cV,cU,e_];lia
def Cp{ag:aa (κ×V)}{k:κ}(v:V)(h:dn ag k=aj):eN ag k v=ag++ [(k,v)]:=by unfold eN;rw[lN,h];exact aD (by decide)
def gO.wi{o:ab V}{u:ab D}(r:gO o u):o.isSome=u.isSome:=by cases o with|none=>(cases u with|none=>rfl|some _=>exact(show False from r).elim)|some _=>cases u with|none=>exact(show False from r).elim|some _=>rfl
def gO.getD{o:ab V}{u:ab D}{d:V}{d':D}(r:gO o u)(a:RelV d d'):RelV (o.getD d) (u.getD d'):=by cases o with|none=>(cases u with|none=>exact a|some _=>exact(show False from r).elim)|some _=>cases u with|none=>exact(show False from r).elim|some _=>exact r
def KV.val{ag:aa (κ×V)}{vs:aa (κ×D)}(r:KV ag vs)(k:κ):gO (dn ag k) (pa vs k):=by unfold KV at r;induction r with|nil=>exact True.intro| @cons p a ps d h t i=>obtain⟨f,g⟩:=h;by_cases e:p.1=k;((have c:a.1=k:=f.symm.trans e;have b:pa (a::d) k=O a.2:=by simp[pa,sk,c]);rw[jy e,b];exact g);(have c:¬a.1=k:=λj=>e (f.trans j);have b:pa (a::d) k=pa d k:=by simp[pa,sk,c]);rw[iZ e,b];exact i
def KV.any{ag:aa (κ×V)}{vs:aa (κ×D)}(r:KV ag vs)(k:κ):(ag.any λa=>decide (a.1=k))=vs.any λa=>decide (a.1=k):=by unfold KV at r;induction r with|nil=>rfl|cons h t b=>rw[qI,qI,b,h.1]
def KV.Cq{ag:aa (κ×V)}{vs:aa (κ×D)}(r:KV ag vs)(k:κ){c:V}{u:D}(g:RelV c u):KV (ag.map λa=>if a.1=k then(a.1,c)else a) (vs.map λa=>if a.1=k then(a.1,u)else a):=by unfold KV at r⊢;induction r with|nil=>exact .nil| @cons p j ps l h t f=>rw[cI,cI];refine .cons ?_ f;obtain⟨b,d⟩:=h;by_cases e:p.1=k;(rw[aI e,aI (b.symm.trans e)];exact#v[b,g]);rw[aD e,aD (λi=>e (b.trans i))];exact#v[b,d]
def KV.put{ag:aa (κ×V)}{vs:aa (κ×D)}(r:KV ag vs)(k:κ){b:V}{u:D}(a:RelV b u):KV (eN ag k b) (stored vs k u):=by unfold eN stored;rw[r.any k];by_cases e:(vs.any λc=>decide (c.1=k))=ai;(rw[aI e,aI e];exact r.Cq k a);rw[aD e,aD e];exact Paired.snoc r #v[I,a]
def KV.drop{ag:aa (κ×V)}{vs:aa (κ×D)}(r:KV ag vs)(k:κ):KV (n9 ag k) (without vs k):=by unfold KV at r⊢;unfold n9 without;induction r with|nil=>exact .nil| @cons p d ps l h t f=>obtain⟨c,i⟩:=h;rw[hC,hC];by_cases e:p.1=k;((have a:¬decide (p.1≠k)=ai:=(by simp[e]);have b:¬decide (d.1≠k)=ai:=by simp[c.symm.trans e]);rw[aD a,aD b];exact f);(have g:¬d.1=k:=λj=>e (c.trans j);have a:decide (p.1≠k)=ai:=by simp[e]);have b:decide (d.1≠k)=ai:=(by simp[g]);rw[aI a,aI b];exact .cons #v[c,i] f
def KV.length{ag:aa (κ×V)}{vs:aa (κ×D)}(r:KV ag vs):ag.length=vs.length:=Paired.length r
def HR(ag:aa (κ×V))(k:κ):(n9 ag k).length<=ag.length:=iq _ _
end
def mT{P:cx}{w:bR}{k:bg}{u:D}(r:RelV (kV k) u):(fZ P w).is k u=ai:=by cases k with|inl i=>(obtain⟨t,e⟩:=(show∃t,u=ir i t from r);subst e;exact RP P w i t)|inr x=>obtain⟨t,e⟩:=(show∃t,u=Value.str x t from r);subst e;exact RQ P w x t
def HS{P:cx}{w:bR}:∀ {a:aa bg}{us:aa D},J (a.map kV) us->ItemsAre (fZ P w) a us
 | [],_,r=>by rw[oO]at r;cases r;exact .nil
 |k::a,_,r=>by
  rw[cI]at r;cases r with
  |cons h t=>exact .cons (mT h) (HS t)
abbrev KT(H:Hp):aa (aa bg×V)->aa (aa bg×U×D)->Prop:=Paired λp a=>p.1=a.1/\H a.2.1=O (.tup (p.1.map kV))/\RelV p.2 a.2.2
def KT.val{H:Hp}{ag:aa (aa bg×V)}{xs:aa (aa bg×U×D)}(r:KT H ag xs)(k:aa bg):gO (dn ag k) ((nU xs k).map (·.2)):=by induction r with|nil=>exact True.intro| @cons p a ps d h t i=>obtain⟨f,_,g⟩:=h;by_cases e:p.1=k;((have c:a.1=k:=f.symm.trans e;have b:nU (a::d) k=O a.2:=by simp[nU,sk,c]);rw[jy e,b];exact g);(have c:¬a.1=k:=λj=>e (f.trans j);have b:nU (a::d) k=nU d k:=by simp[nU,sk,c]);rw[iZ e,b];exact i
def KT.Cq{H:Hp}{ag:aa (aa bg×V)}{xs:aa (aa bg×U×D)}(r:KT H ag xs)(k:aa bg){d:V}{u:D}(i:RelV d u):KT H (ag.map λb=>if b.1=k then(b.1,d)else b) (xs.map (putAt k u)):=by induction r with|nil=>exact .nil| @cons p l ps m h t g=>rw[cI,cI];refine .cons ?_ g;obtain⟨a,c,f⟩:=h;unfold putAt;by_cases e:p.1=k;(rw[aI e,aI (a.symm.trans e)];exact#v[a,c,i]);rw[aD e,aD (λj=>e (a.trans j))];exact#v[a,c,f]
def KT.put{H:Hp}{ag:aa (aa bg×V)}{xs:aa (aa bg×U×D)}(r:KT H ag xs)(k:aa bg){b:U}{d:V}{u:D}(f:H b=O (.tup (k.map kV)))(c:RelV d u):KT H (eN ag k d) (storedH xs k b u):=by(have e:(ag.any λg=>decide (g.1=k))=(nU xs k).isSome:=by rw[lN,(r.val k).wi,O1]);unfold eN storedH;rw[e];by_cases a:(nU xs k).isSome=ai;(rw[aI a,aI a];exact r.Cq k c);rw[aD a,aD a];exact Paired.snoc r #v[I,f,c]
def KT.keeps{H b:Hp}{ag:aa (aa bg×V)}{xs:aa (aa bg×U×D)}(r:KT H ag xs)(e:∀c d,H c=O (.tup d)->b c=O (.tup d)):KT b ag xs:=Paired.BK r λ_ _ a=>#v[a.1,e _ _ a.2.1,a.2.2]
section
variable{P:cx}{w:bR}{H:Hp}{h:aZ}{a:U}
def HU{u:HO}(ok:eu P w H h)(e:Rd H a u):eT P w H h a u:=e.ok ok
def q9{ag:aa (bg×V)}(ok:eu P w H h)(e:Rd H a (.dK ag)):ag.length<=bu/\(a==iQ)=ax/\∃vs,KV ag vs/\h.DictOf (fZ P w) a vs:=show eT P w H h a (.dK ag)from HU ok e
def wj{ag:aa (bg×V)}(ok:eu P w H h)(e:H a=O (.dK ag)):ag.length<=bu/\(a==iQ)=ax/\∃vs,KV ag vs/\h.DictOf (fZ P w) a vs:=q9 ok (.inl e)
def tQ{b:aa bg}(ok:eu P w H h)(e:H a=O (.tup (b.map kV))):(r5 (fZ P w)).is h b a:=by obtain⟨_,aH,r,o,c,d,n,f⟩:=(show eT P w H h a (.tup (b.map kV))from ok a _ e);exact#v[o,aH.toArray,n,c,d,f,by simpa using HS r]
def q_{ag:aa (aa bg×V)}(ok:eu P w H h)(e:Rd H a (.dT ag)):ag.length<=bu/\(a==iQ)=ax/\∃xs,KT H ag xs/\h.DictOfH (r5 (fZ P w)) a xs:=by(obtain⟨v,u,xs,r,o,g,f,i,j,k,n,q⟩:=(show eT P w H h a (.dT ag)from HU ok e);refine#v[v,u,xs,r,o,g,f,i,j,k,n,λx b=>?_,q];have all:∀ {l:aa (aa bg×V)}{m:aa (aa bg×U×D)},KT H l m->∀x∈m,(r5 (fZ P w)).is h x.1 x.2.1:=by intro l m d;induction d with|nil=>intro x b;exact nomatch b| @cons p d ps y c t s=>(intro x b;rcases bL.mp b with e|b);(subst e;exact tQ ok (by rw[<-c.1];exact c.2.1));exact s x b);exact all r x b
def TF{ag:aa (aa bg×V)}(ok:eu P w H h)(e:H a=O (.dT ag)):ag.length<=bu/\(a==iQ)=ax/\∃xs,KT H ag xs/\h.DictOfH (r5 (fZ P w)) a xs:=q_ ok (.inl e)
end
def fV(H:Hp)(a:U)(c:V)(r:ab V):Prop:=(∃ag k,Rd H a (.dK ag)/\c=kV k/\r=dn ag k)\/∃ag k b,Rd H a (.dT ag)/\c=.ref b/\H b=O (.tup (k.map kV))/\r=dn ag k
def mU(H:Hp)(a:U)(d v:V)(b:Hp):Prop:=(∃ag k,H a=O (.dK ag)/\d=kV k/\ag.length<bu/\b=Y H a (.dK (eN ag k v)))\/∃ag k c,H a=O (.dT ag)/\d=.ref c/\H c=O (.tup (k.map kV))/\ag.length<bu/\b=Y H a (.dT (eN ag k v))
def fV.k{H:Hp}{a:U}{ag:aa (bg×V)}{k:bg}(e:H a=O (.dK ag)):fV H a (kV k) (dn ag k):=.inl #v[ag,k,.inl e,I,I]
def fV.t{H:Hp}{a b:U}{ag:aa (aa bg×V)}{k:aa bg}(e:H a=O (.dT ag))(c:H b=O (.tup (k.map kV))):fV H a (.ref b) (dn ag k):=.inr #v[ag,k,b,.inl e,I,c,I]
def mU.k{H:Hp}{a:U}{ag:aa (bg×V)}{k:bg}{v:V}(e:H a=O (.dK ag))(b:ag.length<bu):mU H a (kV k) v (Y H a (.dK (eN ag k v))):=.inl #v[ag,k,e,I,b,I]
def mU.t{H:Hp}{a b:U}{ag:aa (aa bg×V)}{k:aa bg}{v:V}(e:H a=O (.dT ag))(c:H b=O (.tup (k.map kV)))(d:ag.length<bu):mU H a (.ref b) v (Y H a (.dT (eN ag k v))):=.inr #v[ag,k,b,e,I,c,d,I]
section
variable{X:Cx}{af:aa (U×a9)}{σ:St}{H:Hp}{s:au}{a:U}{y v:V}{u r:D}{o:ab V}{A:cQ}{E:D->au->Prop}
def Inv.big(a:Inv X af σ H s):iQ<s.heap.objs.size:=by have h:dA<s.heap.objs.size:=(a.mod.glob.keeps a.bk).lt;exact AD (by decide) h
def TH{n:D->au->Prop}(B:A.units+1<hH)(c:Inv X af σ H s)(g:fV H a y (O v))(q:RelV y u)(h:∀b s',Inv X af σ H s'->RelV v b->n b s'):aG (aU X.prog X.w) A (sb (.ref a) u) n E s:=by rcases g with⟨ag,k,e,f,l⟩|⟨ag,k,r,e,f,t,l⟩;(subst f;obtain⟨C,w,vs,j,d⟩:=q9 c.bA e;obtain⟨b,i,m⟩:=gO.some_of (v:=v) (o:=pa vs k) (by rw[l];exact j.val k);exact O2 (mT q) d.mapOf i (h b _ (c.tok _) m));subst f;cases (show u=cP r from q);obtain⟨C,w,xs,j,d⟩:=q_ c.bA e;obtain⟨b,i,m⟩:=gO.some_of (v:=v) (o:=(nU xs k).map (·.2)) (by rw[l];exact j.val k);obtain⟨p,x,z⟩:=Ax.mp i;refine wpAny_getItem_heap (AE B) (tQ c.bA t) d x ?_;rw[z];exact h b _ (c.tok _) m
def TJ{j:D->au->Prop}(r:A.units+1<hH)(b:Inv X af σ H s)(g:fV H a y o)(n:RelV y u)(h:∀s',Inv X af σ H s'->j (.bool (!o.isSome)) s'):aG (aU X.prog X.w) A (kO .NotIn u (.ref a)) j E s:=by rcases g with⟨ag,k,e,d,l⟩|⟨ag,k,p,e,d,q,l⟩;(subst d;obtain⟨t,f,vs,i,c⟩:=q9 b.bA e;refine wpAny_notIn_of (mT n) f c.mapOf ?_;rw[<-(i.val k).wi,<-l];exact h _ (b.tok _));subst d;cases (show u=cP p from n);obtain⟨t,f,xs,i,c⟩:=q_ b.bA e;refine wpAny_notIn_heap (AE r) (tQ b.bA q) f c ?_;have m:=(i.val k).wi;rw[O1]at m;rw[<-m,<-l];exact h _ (b.tok _)
def tR{h':aZ}{t':Nat}{b:HO}(d:Inv X af σ H s)(j:mH (H a))(i:l9 a s.heap h')(h:∃c,h'.get? a=O c)(k:eT X.prog X.w (Y H a b) h' a b):Inv X af σ (Y H a b) {s with heap:=h',toks:=t'}:=d.write (x:=a) (e:=a) j (.inl I) (λf c g l=>(i.2 f g).trans l) h k
def wk{P:cx}{w:bR}{b:Hp}{h':aZ}{ag:aa (bg×V)}{vs:aa (bg×D)}(f:ag.length<=bu)(d:(a==iQ)=ax)(e:KV ag vs)(c:h'.DictOf (fZ P w) a vs):eT P w b h' a (.dK ag):=#v[f,d,vs,e,c]
def TK{z:Hp}{B:Unit->au->Prop}(V:A.units+1<hH)(d:Inv X af σ H s)(g:mU H a y v z)(K:RelV y u)(J:RelV v r)(h:∀s',Inv X af σ z s'->B () s'):aG (aU X.prog X.w) A (setItem (.ref a) u r) B E s:=by
 rcases g with⟨ag,k,e,p,l,o⟩|⟨ag,k,L,e,p,C,l,o⟩
 ·subst p o;obtain⟨i,q,vs,f,n⟩:=wj d.bA e;have x:vs.length<=bu:=by rw[<-f.length];exact i
  have t:(eN ag k v).length<=bu:=(by have:=wg ag k v;lia);refine wpAny_setItem_pairs (hsz:=x) (mT K) n λh' j w=>h _ ?_;have U:∃b,h'.get? a=O b:=let #v[b,_,_,m,_]:=j;#v[b,m];exact tR d (by rw[e];exact True.intro) w U (wk t q (f.put k J) j)
 ·subst p o;cases (show u=cP L from K);obtain⟨i,q,xs,f,n⟩:=TF d.bA e;have x:xs.length<=bu:=by rw[<-Paired.length f];exact i
  have t:(eN ag k v).length<=bu:=(by have:=wg ag k v;lia);refine wpAny_setItem_heap (hsz:=x) (AE V) (tQ d.bA C) n λh' j w=>h _ ?_;obtain⟨b,P,N,m,Q,R,S,_,T⟩:=j;refine tR d (by rw[e];exact True.intro) w #v[b,m] #v[t,q,_,(f.put k C J).keeps λc _ I=>?_,b,P,N,m,Q,R,S,T];rw[aw (bC I e (λi=>nomatch i))];exact I
end
section
variable{X:Cx}{af:aa (U×a9)}{σ:St}{H:Hp}{s:au}{a:U}{ag:aa (bg×V)}{k:bg}{u:D}{A:cQ}{E:D->au->Prop}
def TM{v:V}{c:aa D}{m:D->au->Prop}(j:Inv X af σ H s)(e:H a=O (.dK ag))(g:RelV (kV k) u)(l:dn ag k=O v)(q:c=[]\/∃x,c=[x])(h:∀d s',Inv X af σ (Y H a (.dK (n9 ag k))) s'->RelV v d->m d s'):aG (aU X.prog X.w) A (call (.builtin "dict.pop") (.ref a::u::c)) m E s:=by
 obtain⟨r,y,vs,f,n⟩:=wj j.bA e;obtain⟨d,J,K⟩:=gO.some_of (v:=v) (o:=pa vs k) (by rw[<-l];exact f.val k);have B:(keyPart u).isSome=ai:=by
  cases k with
  |inl i=>obtain⟨t,b⟩:=(show∃t,u=ir i t from g);subst b;rfl
  |inr x=>obtain⟨t,b⟩:=(show∃t,u=Value.str x t from g);subst b;rfl
 have w:qL "dict.pop" #v[.ref a::u::c,[]]:=by
  rcases q with b|⟨x,b⟩
  ·subst b;exact PySem.F.args_dict_pop_2 _ _
  ·subst b;exact PySem.F.args_dict_pop_3 _ _ _
 refine u0 O4 n.typeIs PySem.F.entry_dict_pop w (meets_dict_pop_there (fZ X.prog X.w) a (mT g) c q B) #v[vs,d,n,by rw[<-f.length];exact r,J,λh' p I=>h d _ ?_ K];have z:∃b,h'.get? a=O b:=let #v[b,_,_,C,_]:=p;#v[b,C];exact tR j (by rw[e];exact True.intro) I z (wk (dQ (HR ag k) r) y (f.drop k) p)
end
def Cr(i:bx):Prop:=∀b a,Ao i ax b a=operate [b,a] (sb b a)
def HV{a:cx}{w:bR}{A:cQ}{E:D->au->Prop}{s:au}{e:fi}{j b:bx}{v:c7}{k id:String}{d:D->au->Prop}(p:Ak (.type k) "__getitem__"=pure (O (.builtin id)))(q:Cr b)(h:aG (aU a w) A (bU j e) (λo m=>aG (aU a w) A (bU b e) (λi c=>c.TypeIs o k/\aG (aU a w) A (sb o i) d E c) E m) E s):aG (aU a w) A (bU (.Subscript j b v) e) d E s:=by(refine Al (kc h (λo m t=>kc t (λi c g=>?_) λ_ _ x=>x) λ_ _ x=>x);obtain⟨l,g⟩:=g;unfold Am;refine av ?_;rw[getitemInPython_of_ne l.not_modules];refine av (AF l p ?_);have f:aG (aU a w) A (Ao b ax o i) (λr n=>aG (aU a w) A (letTemporaryGo j o r>>=λ_=>pure r) d E n) E c:=by rw[q o i];exact wpAny_operating (kc g (λr n u=>av (wpAny_letTemporaryGo (aV u))) λ_ _ x=>x));first|exact aV (av f)|exact av (aV (av f))|exact av f
def TN{X:Cx}{af:aa (U×a9)}{h:St}{H:Hp}{s:au}{a:U}{f:V}{o:ab V}(d:Inv X af h H s)(g:fV H a f o):s.TypeIs (.ref a) "dict":=by rcases g with⟨ag,k,e,_,_⟩|⟨ag,k,_,e,_,_,_⟩;(obtain⟨_,_,vs,_,c⟩:=q9 d.bA e;exact c.typeIs);obtain⟨_,_,xs,_,c⟩:=q_ d.bA e;exact c.typeIs
def Cs(e f:TE):TE:=λc H d=>e c H λx H1=>f c H1 λg b=>∃a v,x=.ref a/\fV b a g (O v)/\d v b
def TQ(f e:TE):TE:=λc H d=>f c H λg H1=>e c H1 λx b=>∃a o,x=.ref a/\fV b a g o/\d (.bl (!o.isSome)) b
def HW(g i h:TE):TS:=λd b H=>h b H λv H1=>g b H1 λx e=>i b e λj f=>∃a c,x=.ref a/\mU f a j v c/\d.nx b c
section
variable{X:Cx}{o i e my:bx}{a8 kj Qv:c7}{td ty tv:TE}
def ra(p:X.A.units+1<hH)(m:PE X o td)(l:PE X i ty)(n:Cr i):PE X (.Subscript o i a8) (Cs td ty):=by intro af s c H _ e h;refine HV O5.lookup n (S (m af s c H _ e h) λu A⟨x,H1,f,w,q⟩=>S (l af A c H1 _ f q) λ_ _⟨_,d,b,z,a,v,k,g,r⟩=>?_);subst k;obtain rfl:u=cP a:=w;exact#v[TN b g,TH p b g z λ_ _ j t=>#v[v,d,j,t,r]]
def Ct(n:X.A.units+1<hH)(l:PE X i ty)(m:PE X o td):PC X .NotIn i o (TQ ty td):=by intro af s b H _ d h;refine S (l af s b H _ d h) λ_ w⟨_,H1,e,v,q⟩=>S (m af w b H1 _ e q) λu _⟨x,c,f,t,a,p,k,g,r⟩=>?_;subst k;obtain rfl:u=cP a:=t;exact TJ n f g v λ_ j=>#v[.bl (!p.isSome),c,j,I,r]
def Cu(t:X.A.units+1<hH)(p:PE X o td)(n:PE X i ty)(w:PE X my tv)(q:oZ my (O (.Subscript o i kj)) a8.line X.env=pure ax):PS X (.Assign [.Subscript o i kj] my a8) (HW td ty tv):=by intro af s b H _ e h;refine wpAny_Assign_Subscript (S (w af s b H _ e h) λr J⟨v,H1,f,C,z⟩=>S (p af J b H1 _ f z) λu K⟨x,c,j,E,A⟩=>S (n af K b c _ j A) λ_ _⟨_,_,k,I,a,d,m,g,B⟩=>?_) q;subst m;obtain rfl:u=cP a:=E;exact TK t k g I C λ_ l=>#v[b,d,l,B]
end
def TR{P:cx}{w:bR}{H:Hp}(h:aZ)(a:iQ<h.objs.size):eT P w H (h.push {cls:=.type "dict",data:=.dict #[]}) h.objs.size (.dK []):=#v[dc _,qu.mpr (Ne.symm (er a)),[],.nil,Heap.DictOf.new h]
def TU{P:cx}{w:bR}{H:Hp}(h:aZ)(a:iQ<h.objs.size):eT P w H (h.push {cls:=.type "dict",data:=.dict #[]}) h.objs.size (.dT []):=#v[dc _,qu.mpr (Ne.symm (er a)),[],.nil,_,#[],0,eo _ rfl,#v[I,I,I],I,I,sm]
def TV:TE:=λ_ H a=>∀p,H p=aj->a (.ref p) (Y H p (.dK []))
def TX:TE:=λ_ H a=>∀p,H p=aj->a (.ref p) (Y H p (.dT []))
section
variable{X:Cx}{a8:c7}
def HX:PE X (.Dict [] [] a8) TV:=λaf s _ H _ b h=>O6 #v[.ref s.heap.objs.size,_,b.laid (a:=s.heap.objs.size) (o:=.dK []) (t':=s.toks) (λ_ _ c=>dd _ c) (bp _) (TR s.heap b.big),I,h _ (b.bA.fresh (bp _))]
def TY:PE X (.Dict [] [] a8) TX:=λaf s _ H _ b h=>O6 #v[.ref s.heap.objs.size,_,b.laid (a:=s.heap.objs.size) (o:=.dT []) (t':=s.toks) (λ_ _ c=>dd _ c) (bp _) (TU s.heap b.big),I,h _ (b.bA.fresh (bp _))]
end
structure M1(X:Cx)(o:bx)(m:M)(apos:c7)(e:bx)(mV:c7):Prop where
 base:o3 o m X.env (bU o X.env)=bU o X.env
 wm:((fF mV (cu [e] X.env)).all (λx=>!x.1)&&(nO mV (nP [] X.env)).all (λx=>x.1.isSome)&&decide (([e]:aa bx).length+([]:aa sf).length+(if([]:aa sf).isEmpty then 0 else 1)<30))=ai
 line:(apos.endLine==mV.line)=ai
 trees:fF mV (cu [e] X.env)=[(ax,bU e X.env)]
structure M2(X:Cx)(o:bx)(m:M)(apos:c7)(e f:bx)(mV:c7):Prop where
 base:o3 o m X.env (bU o X.env)=bU o X.env
 wm:((fF mV (cu [e,f] X.env)).all (λx=>!x.1)&&(nO mV (nP [] X.env)).all (λx=>x.1.isSome)&&decide (([e,f]:aa bx).length+([]:aa sf).length+(if([]:aa sf).isEmpty then 0 else 1)<30))=ai
 line:(apos.endLine==mV.line)=ai
 trees:fF mV (cu [e,f] X.env)=[(ax,bU e X.env),(ax,bU f X.env)]
def wo(H:Hp)(a:U):Prop:=(∃ag,Rd H a (.dK ag))\/∃ag,Rd H a (.dT ag)
def Cv{X:Cx}{af:aa (U×a9)}{l:St}{H:Hp}{s:au}{a:U}(k:Inv X af l H s)(d:wo H a):s.TypeIs (.ref a) "dict"/\(∀f,cP a=.ref f->∃b,s.heap.get? f=O b/\b.dict=aj)/\(a==iQ)=ax:=by rcases d with⟨ag,e⟩|⟨ag,e⟩;(obtain⟨_,i,vs,_,c⟩:=q9 k.bA e;refine#v[c.typeIs,λf j=>?_,i];cases j;obtain⟨b,_,_,g,h,_⟩:=c;exact#v[b,g,h.2.1]);obtain⟨_,i,xs,_,c⟩:=q_ k.bA e;refine#v[c.typeIs,λf j=>?_,i];cases j;obtain⟨b,_,_,g,h,_⟩:=c;exact#v[b,g,h.2.1]
section
variable{X:Cx}{af:aa (U×a9)}{σ:St}{H:Hp}{s:au}{a:U}{y d:V}{u r:D}{o:ab V}{A:cQ}{E:D->au->Prop}
def TZ{m:D->au->Prop}(w:A.units+1<hH)(b:Inv X af σ H s)(g:fV H a y o)(q:RelV y u)(p:RelV d r)(h:∀t s',Inv X af σ H s'->RelV (o.getD d) t->m t s'):aG (aU X.prog X.w) A (call (.builtin "dict.get") [.ref a,u,r]) m E s:=by rcases g with⟨ag,k,e,f,l⟩|⟨ag,k,n,e,f,v,l⟩;(subst f;obtain⟨x,i,vs,j,c⟩:=q9 b.bA e;refine u0 EY c.typeIs O7 (O8 _ _ _) (meets_dict_get_default (fZ X.prog X.w) a (mT q) i r) #v[_,c.mapOf,h _ _ (b.tok _) ?_];rw[l];exact(j.val k).getD p);subst f;cases (show u=cP n from q);obtain⟨x,i,xs,j,c⟩:=q_ b.bA e;refine u0 EY c.typeIs O7 (O8 _ _ _) (meetsH_dict_get_default (r5 (fZ X.prog X.w)) a n i r) #v[AE w,k,xs,tQ b.bA v,c,h _ _ (b.tok _) ?_];rw[l];exact(j.val k).getD p
end
def HY(f h g:TE):TE:=λb H e=>f b H λx H1=>∃a,x=.ref a/\wo H1 a/\h b H1 λi d=>g b d λj c=>∃o,fV c a i o/\e (o.getD j) c
def T1(e f:TE):TE:=λc H d=>e c H λx H1=>∃a,x=.ref a/\wo H1 a/\f c H1 λg b=>∃ag k v,b a=O (.dK ag)/\g=kV k/\dn ag k=O v/\d v (Y b a (.dK (n9 ag k)))
section
variable{X:Cx}{o e f:bx}{fj g0:c7}{td ty tx:TE}
def T2(w:X.A.units+1<hH)(v:PE X o td)(r:PE X e ty)(t:PE X f tx)(m:M2 X o "get" fj e f g0):PE X (.Call (.Attribute o "get" fj) [e,f] [] g0) (HY td ty tx):=by intro af s b H _ k h;refine AG m.base m.wm m.line EZ EY PySem.F.type_dict_get (S (v af s b H _ k h) λu N⟨x,H1,c,J,a,q,d,A⟩=>?_);subst q;obtain rfl:u=cP a:=J;obtain⟨R,T,_⟩:=Cv c d;refine#v[R,T,?_];rw[m.trees];refine Ar I (As (nQ (S (r af N b H1 _ c A) λ_ P⟨_,i,l,K,B⟩=>nQ (S (t af P b i _ l B) λ_ _⟨_,j,n,L,_,g,C⟩=>qG ?_))));exact TZ w n g K L λ_ _ p E=>#v[_,j,p,E,C]
def T3(r:PE X o td)(q:PE X e ty)(m:M1 X o "pop" fj e g0):PE X (.Call (.Attribute o "pop" fj) [e] [] g0) (T1 td ty):=by intro af s c H _ f h;refine AG m.base m.wm m.line EZ O4 PySem.F.type_dict_pop (S (r af s c H _ f h) λu C⟨x,H1,b,A,a,n,d,t⟩=>?_);subst n;obtain rfl:u=cP a:=A;obtain⟨E,J,_⟩:=Cv b d;refine#v[E,J,?_];rw[m.trees];refine Ar I (As (nQ (S (q af C c H1 _ b t) λ_ _⟨_,_,g,B,ag,k,v,j,p,l,w⟩=>qG ?_)));subst p;exact TM g j B l (.inl I) λ_ _ i z=>#v[v,_,i,z,w]
end
section
variable{X:Cx}{af:aa (U×a9)}{σ:St}{H:Hp}{s:au}{h':aZ}
def Inv.HZ{t':Nat}{ch:aa U}{h:U}{p:HO}(l:Inv X af σ H s)(k:∀a o,a∉ch->s.heap.get? a=O o->h'.get? a=O o)(i:∀a∈ch,k3 X af H a)(q:s.heap.objs.size<=h)(A:eT X.prog X.w (Y H h p) h' h p):Inv X af σ (Y H h p) {s with heap:=h',toks:=t'}:=by(have j:H h=aj:=l.bA.fresh q;have t:∀a u,H a=O u->a∉ch:=λa u e g=>by have b:=(i a g).1;rw[b]at e;cases e);refine l.step (g':=s.gens) (d':=s.drawn) (ch:=ch) (λa d=>#v[(i a d).2.2.2.1,(i a d).2.1,(i a d).2.2.2.2.1,(i a d).2.2.2.2.2]) (λa o _ _ f e _=>k a o f e) (λa o _ _ f e _=>#v[o.slots,k a o f e]) (λa o _ e n=>?_) (λa o f e=>#v[o,k a o f e]) (λa xs e=>?_) (λa o u e=>?_) (λa ps e=>#v[#[],?_]) (λm y=>?_) (λa u e=>?_) l.bare;(rw[aw (er (gc (cJ e) q))];exact n);(rw[aw (bI e j)];exact e);(rw[aw (bI e j)];exact e);(rw[aw (bI e j),e];simp);(obtain⟨o,x,w,z,r⟩:=y;exact#v[o,x,w,k _ o (λg=>(i _ g).2.1 I) z,r]);by_cases d:a=h;(subst d;rw[az]at e;cases e;exact A);(rw[aw d]at e;refine(l.bA a u e).lG (λc v f b=>k c v ?_ b) (λc b=>by rw[aw (bI b j)];exact b) λc xs b=>by rw[aw (bI b j)];exact b);rcases f with g|g;(rw[g];exact t a u e);exact t c _ g
def Inv.lock{d:U}{u:HO}(i:Inv X af σ H s)(h:H d=O u)(c:mH (O u)):∃b,Inv X af σ (Y H d (.frz b u)) s:=by(have x:=i.bA d u h;have j:∃b,s.heap.get? d=O b:=by cases u with|lst xs=>(obtain⟨_,_,_,_,e⟩:=x;exact⟨_,e⟩)|dK ag=>(obtain⟨_,_,_,_,o,_,_,e,_⟩:=x;exact⟨o,e⟩)|dT ag=>(obtain⟨_,_,_,_,o,_,_,e,_⟩:=x;exact⟨o,e⟩)|set S n=>(obtain⟨o,_,_,_,e,_⟩:=x;exact⟨o,e⟩)|ins C dx l=>(obtain⟨_,_,_,e,_⟩:=x;exact⟨_,e⟩)|ext m=>(obtain⟨_,⟨_,e⟩,_⟩:=x;exact⟨_,e⟩)|_=>exact h7 c);(obtain⟨b,e⟩:=j;have k:eT X.prog X.w (Y H d (.frz b u)) s.heap d (.frz b u):=by refine#v[e,x.lG (λf v _ a=>a) (λf a=>?_) λf xs a=>?_];(rw[aw (λg=>by rw[g,h]at a;cases a;exact c)];exact a);rw[aw (λg=>by rw[g,h]at a;cases a;exact c)];exact a);exact#v[b,i.write (x:=d) (e:=d) (t':=s.toks) (h':=s.heap) (by rw[h];exact c) (.inl I) (λf v _ a=>a) #v[b,e] k]
def Inv.wq{d:U}{u:HO}(f:Inv X af σ H s)(h:H d=O u)(g:mH (O u)):∀a b,X.pJ d≠O (.frz a b):=λa b e=>by have c:=f.base.mI d a b e;rw[h]at c;cases c;exact g
def Inv.unlock{d:U}{z:a9}{u:HO}(f:Inv X af σ H s)(h:H d=O (.frz z u))(t:∀k l,X.pJ d≠O (.frz k l)):Inv X af σ (Y H d u) s:=by(have i:∀b o,H b=O o->(∀k l,o≠ .frz k l)->b≠d:=λb o e w g=>by rw[g,h]at e;cases e;exact w _ _ rfl);(have neN:∀b,H b=aj->b≠d:=λb e g=>by rw[g,h]at e;cases e);refine#v[f.ok,f.os,f.bare,#v[f.base.keep,f.base.slot,λb o e n q=>?_,f.base.there,λb xs e=>?_,λb o x e=>?_,λb ps e=>?_],f.loc,f.cell,?_,λx c e=>?_,λp y=>?_,λb o e=>?_,f.len];(rw[aw (neN b (f.base.free b o e n q))];exact f.base.free b o e n q);(have a:=f.base.pH b xs e;rw[aw (i b _ a (λ_ _ g=>nomatch g))];exact a);(have a:=f.base.mI b o x e;rw[aw (λg=>by rw[g]at e;exact t _ _ e)];exact a);(obtain⟨m,a⟩:=f.base.pI b ps e;exact#v[m,by rw[aw (i b _ a (λ_ _ g=>nomatch g))];exact a]);(rw[aw (neN _ f.free)];exact f.free);(rw[aw (neN c (f.jt x c e))];exact f.jt x c e);(obtain⟨e,n,r⟩:=f.pin p y;exact#v[e,by rw[aw (neN _ n)];exact n,r]);by_cases j:b=d;(rw[j,az]at e;cases e;rw[j];obtain⟨_,x⟩:=f.bA d _ h;exact x.lG (λc v _ a=>a) (λc a=>by rw[aw (i c _ a (λ_ _ g=>nomatch g))];exact a) λc xs a=>by rw[aw (i c _ a (λ_ _ g=>nomatch g))];exact a);rw[aw j]at e;exact(f.bA b o e).lG (λc v _ a=>a) (λc a=>by rw[aw (i c _ a (λ_ _ g=>nomatch g))];exact a) λc xs a=>by rw[aw (i c _ a (λ_ _ g=>nomatch g))];exact a
end
def T4(t:TS):TS:=λe f H=>∃d u,H d=O u/\mH (O u)/\∀b,t #v[λc a=>a d=O (.frz b u)/\e.nx c (Y a d u),λv a=>a d=O (.frz b u)/\e.rt v (Y a d u),λc a=>a d=O (.frz b u)/\e.bk c (Y a d u),λc a=>a d=O (.frz b u)/\e.ct c (Y a d u)] f (Y H d (.frz b u))
section
variable{X:Cx}
def Cw{st:a_}{t:TS}(h:PS X st t):PS X st (T4 t):=by intro af s o H _ g l;obtain⟨d,u,i,j,l⟩:=l;obtain⟨n,m⟩:=g.lock i j;refine S (h af s o _ _ m (l n)) λf _ a=>?_;cases f with|next=>(obtain⟨c,k,b,e,a⟩:=a;exact⟨c,_,b.unlock e (g.wq i j),a⟩)|brk=>(obtain⟨c,k,b,e,a⟩:=a;exact⟨c,_,b.unlock e (g.wq i j),a⟩)|cont=>(obtain⟨c,k,b,e,a⟩:=a;exact⟨c,_,b.unlock e (g.wq i j),a⟩)|ret v=>obtain⟨x,c,k,b,r,e,a⟩:=a;exact#v[x,c,_,b.unlock e (g.wq i j),r,a]
def Cy{d:bx}{af:aa (U×a9)}{f:St}{H:Hp}{s:au}{R:It->Hp->Prop}{J:It}{b:Nat->aZ->Prop}{tk:Nat}(a:Inv X af f H s)(o:a9)(g:nz X.prog X.w X.K d J [s.heap.objs.size] s.heap.objs.size b)(st:b 0 (s.heap.push o))(i:R J H):vX X af f d R (.ref s.heap.objs.size) {s with heap:=s.heap.push o,toks:=tk}:=by(refine#v[s.heap.objs.size,[s.heap.objs.size],b,J,H,I,a.kept λc _ e=>dd _ e,g,st,λc h=>?_,i];have e:c=s.heap.objs.size:=by simpa using h);subst e;exact a.tq (bp _) (a.bA.fresh (bp _))
end
section
variable{bW:cx}{w:bR}{A:cQ}{E:D->au->Prop}{s:au}
def Cz{d:U}{o:a9}{f:ae kh}{e:Nat}{c:D->au->Prop}(j:(d==iQ)=ax)(b:s.heap.get? d=O o)(i:o.ExactDict)(g:o.data=.dict f e)(h:c (.ref s.heap.objs.size) {s with heap:=s.heap.push {cls:=.type "dict_keyiterator",data:=.fields #[.ref d,.int 0 0,.int f.size 0,.int e 0]} }):aG (aU bW w) A (nK (.ref d)) c E s:=by have a:s.TypeIs (.ref d) "dict":=#v[o,b,i.1];refine so a O9 (hJ O9 a F.entry_dict_iter ?_ (F.args_dict_iter_1 _));unfold Builtin.«dict.__iter__»;refine av ?_;unfold aa_;refine av (wpAny_notOrdered_dict a ?_);show aG _ _ (pure (cP d)) _ _ s;refine aV ?_;show aG _ _ (O_ d>>=_) _ _ s;unfold O_;rw[aD (by rw[j];exact d8)];refine av (aV ?_);refine av (E1 b g ?_);refine av (E2 b g ?_);refine av (o_ (aV #v[_,I,"dict_keyiterator",_,#v[_,eo _ rfl,I],sq.lookup,?_]));simpa[eI]using h
def H0{b d:U}{i n c:Nat}{p:a9}{e:ae kh}{j:kh}{h:ab D->au->Prop}(a:s.heap.IsKeyIter b d i n c)(m:s.heap.get? d=O p)(k:p.data=.dict e c)(x:e.size=n)(y:e[i]? =O j)(q:∀h',h'.IsKeyIter b d (i+1) n c->l9 b s.heap h'->h (O j.key) {s with heap:=h'}):aG (aU bW w) A (fP (.ref b)) h E s:=by(obtain⟨o,g,r,f⟩:=id a;unfold fP;refine av (mi (mj (name:=lu "__next__") a.typeIs sq (hJ sq a.typeIs Pa ?_ (Pb _))));refine av (aV ?_);refine av ?_;refine av ?_;first|refine av (AH a.typeIs (aV ?_))|refine av (AI a.typeIs (aV ?_)));(refine av (AJ g f ?_);have v:Pc "dict_keyiterator"=ax:=by decide);(simp only[v,ka,iO];show aG _ _ (if(cP d==kN)=ai then _ else _) _ _ s;rw[aD (show¬((cP d==kN)=ai)from d8)];refine av (aV ?_);refine av (E1 m k ?_);rw[aD (by rw[x];simp)];refine av (aV ?_);refine av (E2 m k ?_);rw[aD (by simp)];refine aV ?_;obtain⟨u,t⟩:=qM.mp y;simp only[show¬((i:Int)<0)from by lia,iO,jj,jk u];refine av ?_;first|refine av (AH a.typeIs (aV ?_))|refine av (AI a.typeIs (aV ?_)));refine av (Pd a.typeIs ?_);show aG _ _ (setField (.ref b) 1 (eI ((i:Int)+1))>>=_) _ _ s;refine av (u1 g f (by simp) ?_);have l:(s.heap.update b (AL (·.setIfInBounds 1 (eI ((i:Int)+1))))).IsKeyIter b d (i+1) n c:=#v[_,mf _ g (E3 (sr f _)),(E4 ..).trans r,by rw[sr f];simp[eI]];refine av (hG ?_);refine av (Pd (s:={s with heap:=s.heap.update b (AL (·.setIfInBounds 1 (eI ((i:Int)+1))))}) l.typeIs ?_);show aG _ _ (pure e[i].key) _ _ _;rw[t];exact aV (aV #v[_,I,aV (q _ l (pb ..))])
def CA{b d:U}{i n f:Nat}{m:a9}{c:ae kh}{e:ab D->au->Prop}(t:A.handled=aj)(a:s.heap.IsKeyIter b d i n f)(k:s.heap.get? d=O m)(h:m.data=.dict c f)(l:c.size=n)(q:n<=i)(p:∀h',Pe b s.heap h'->e aj {s with heap:=h'}):aG (aU bW w) A (fP (.ref b)) e E s:=by(obtain⟨o,j,_,g⟩:=id a;unfold fP;refine av (mi (mj (name:=lu "__next__") a.typeIs sq (hJ sq a.typeIs Pa ?_ (Pb _))));refine av (aV ?_);refine av ?_;refine av ?_;first|refine av (AH a.typeIs (aV ?_))|refine av (AI a.typeIs (aV ?_)));(refine av (AJ j g ?_);have u:Pc "dict_keyiterator"=ax:=by decide);(simp only[u,ka,iO];show aG _ _ (if(cP d==kN)=ai then _ else _) _ _ s;rw[aD (show¬((cP d==kN)=ai)from d8)];refine av (aV ?_);refine av (E1 k h ?_);rw[aD (by rw[l];simp)];refine av (aV ?_);refine av (E2 k h ?_);rw[aD (by simp)];refine aV ?_;have r:c.size<=i:=by rw[l];exact q);(simp only[show¬((i:Int)<0)from by lia,iO,jj,Pf r];refine av ?_;first|refine av (AH a.typeIs (aV ?_))|refine av (AI a.typeIs (aV ?_)));show aG _ _ (setField (.ref b) 0 .none>>=_) _ _ s;refine av (u1 j g (by simp) ?_);show aG _ _ (newExc (.type "StopIteration") []>>=_) _ _ _;refine av ?_;simp only[newExc,newTuple];refine av (o_ ?_ (by size_fits));refine av (m:=AM _ _) (E5 (a:=kN) (by first|rfl|(simp only[AM];rfl)) ?_);refine o_ ?_ (by size_fits);simp only[raiseNew];refine av (wpAny_handled ?_);rw[show A.in1.handled=aj from t];refine av (aV (wpAny_throw ?_));refine av (u4 (T:="StopIteration") (b:=ai) #v[_,eo _ rfl,I] AN ?_);exact aV (p _ (((pb ..).extBut.push _).push _))
end
def CB{b:Type}{ag:aa (b×V)}{vs:aa (b×D)}(h:KV ag vs):∀ {i:Nat}{k:b}{v:V},ag[i]? =O (k,v)->∃u,vs[i]? =O (k,u)/\RelV v u:=by unfold KV at h;induction h with|nil=>intro i k v e;simp at e| @cons a c f g r t d=>intro i k v e;cases i with|zero=>simp only[z8,Pg]at e;subst e;refine#v[c.2,?_,r.2];simp only[z8];exact dR O (Prod.ext r.1.symm rfl)|succ j=>simp only[E6]at e⊢;exact d e
def T5{f g:Type}{G:f->g->Prop}{c:aa f}{d:aa g}(h:Paired G c d):∀ {i:Nat}{a:f},c[i]? =O a->∃b,d[i]? =O b/\G a b:=by induction h with|nil=>intro i a e;simp at e| @cons a b c d r t k=>intro i _ e;cases i with|zero=>simp only[z8,Pg]at e;subst e;exact#v[b,I,r]|succ j=>simp only[E6]at e⊢;exact k e
def H_{k:bg}{u:D}(h:km k u=ai):RelV (kV k) u:=by rcases lF h with⟨i,t,rfl,rfl⟩|⟨x,t,rfl,rfl⟩;(exact#v[t,I]);exact#v[t,I]
section
variable{X:Cx}{af:aa (U×a9)}{σ:St}{H:Hp}{s:au}{d:U}{o:a9}
def Inv.n_{ag:aa (bg×V)}(j:Inv X af σ H s)(h:H d=O (.frz o (.dK ag))):(d==iQ)=ax/\s.heap.get? d=O o/\o.ExactDict/\∃(a:ae kh)(b:Nat)(vs:aa (bg×D)),o.data=.dict a b/\a.size=ag.length/\KV ag vs/\s.heap.DictAt (fZ X.prog X.w) d vs b:=by obtain⟨c,_,k,vs,i,_,a,b,f,g,e,r⟩:=j.bA d _ h;rw[c]at f;cases f;refine#v[k,c,g,a,b,vs,e,?_,i,o,a,c,g,e,r];have l:=r.2.1.length;have m:ag.length=vs.length:=Paired.length i;rw[e9]at l;lia
def Inv.wu{ag:aa (aa bg×V)}(n:Inv X af σ H s)(h:H d=O (.frz o (.dT ag))):(d==iQ)=ax/\s.heap.get? d=O o/\o.ExactDict/\∃(a:ae kh)(c:Nat),o.data=.dict a c/\a.size=ag.length/\∀(i:Nat)(k:aa bg)(v:V),ag[i]? =O (k,v)->∃(f:kh)(b:U),a[i]? =O f/\f.key=.ref b/\H b=O (.tup (k.map kV)):=by obtain⟨g,_,u,xs,m,_,a,c,l,w,t,j,_⟩:=n.bA d _ h;rw[g]at l;cases l;refine#v[u,g,w,a,c,t,?_,λi k v e=>?_];(have x:a.size=xs.length:=size_of_entries j;have y:ag.length=xs.length:=Paired.length m;lia);obtain⟨p,r,_,q,_⟩:=T5 m e;have b:=entry_at j i;rw[r]at b;exact#v[_,p.2.1,b,I,q]
end
def tS(d:U)(o:a9)(ag:aa (bg×V)):It:=#v[λi H=>H d=O (.frz o (.dK ag))/\i<ag.length,λi H x a=>a=H/\∃k v,ag[i]? =O (k,v)/\x=kV k,λi H=>H d=O (.frz o (.dK ag))/\ag.length<=i]
def CC(d:U)(o:a9)(ag:aa (aa bg×V)):It:=#v[λi H=>H d=O (.frz o (.dT ag))/\i<ag.length,λi H x b=>b=H/\∃(k:aa bg)(v:V)(a:U),ag[i]? =O (k,v)/\x=.ref a/\H a=O (.tup (k.map kV)),λi H=>H d=O (.frz o (.dT ag))/\ag.length<=i]
def tT(d:U)(o:a9)(ag:aa (bg×V)):It:=#v[λi H=>H d=O (.frz o (.dK ag))/\i<ag.length,λi H x b=>∃a k v,ag[i]? =O (k,v)/\x=.ref a/\H a=aj/\b=Y H a (.tup [kV k,v]),λi H=>H d=O (.frz o (.dK ag))/\ag.length<=i]
def oa{o:a9}{c d:ae kh}{a b:Nat}(h:o.data=.dict c a)(h':o.data=.dict d b):d=c/\b=a:=by rw[h]at h';cases h';exact#v[I,I]
section
variable{P:cx}{w:bR}{K:bj}{tg:bx}{d:U}{o:a9}{es:ae kh}{ep:Nat}
def T7{ag:aa (bg×V)}(a:U)(ac:o.data=.dict es ep):nz P w K tg (tS d o ag) [a] a (λi h=>h.IsKeyIter a d i ag.length ep)where
 mem:=by simp
 obj:=λi h st b f=>by have e:b=a:=(by simpa using f);subst e;obtain⟨m,e,c,n⟩:=st;exact#v[m,e,λv al=>by rw[n]at al;cases al]
 keep:=λi h h' st k=>st.at λm e=>k a (by simp) m e
 item:=by intro X B N z S i af s am H E g l st J;subst B N z;obtain⟨C,L⟩:=J;obtain⟨q,r,ar,t,x,y⟩:=l a (by simp);obtain⟨av,T,ay,aq,ap,vs,j,ad,R,Z⟩:=g.n_ C;obtain⟨rfl,rfl⟩:=oa ac j;obtain⟨⟨k,v⟩,W⟩:∃p,ag[i]? =O p:=#v[ag[i],b_ L];obtain⟨u,aw,_⟩:=CB R W;have Y:ag.length=vs.length:=Paired.length R;rw[Y]at st;refine wpAny_pyNext_dict_item st Z aw λkey h' as ak az=>?_;have an:Inv X af am H {s with heap:=h'}:=g.turned (t':=s.toks) (λb ah f e=>(az.2 b f).trans e) q r t x y;obtain⟨m,e,c,n⟩:=id ak;refine#v[key,I,tr (s:={s with heap:=h'}) e c n (by decide) #v[kV k,H,an,H_ (show km k key=ai from as),#v[I,k,v,W,I],?_,λb f=>(l b f).1]];show h'.IsKeyIter a d (i+1) ag.length _;rw[Y];exact ak
 done:=by intro X B N z S i af s am H E g l st J;subst B N z;obtain⟨C,L⟩:=J;obtain⟨q,r,ar,t,x,y⟩:=l a (by simp);obtain⟨av,T,ay,aq,ap,vs,j,ad,R,Z⟩:=g.n_ C;obtain⟨rfl,rfl⟩:=oa ac j;exact CA (g.ok.hd S) st T j ad L λh' ao=>#v[I,g.turned (t':=s.toks) (λb ah f e=>ao b ah f e) q r t x y]
 self:=λA i s _ E st h=>Ph st h
def T8{ag:aa (aa bg×V)}(a:U)(Y:o.data=.dict es ep):nz P w K tg (CC d o ag) [a] a (λi h=>h.IsKeyIter a d i ag.length ep)where
 mem:=by simp
 obj:=λi h st b f=>by have e:b=a:=(by simpa using f);subst e;obtain⟨m,e,c,n⟩:=st;exact#v[m,e,λv ah=>by rw[n]at ah;cases ah]
 keep:=λi h h' st k=>st.at λm e=>k a (by simp) m e
 item:=by intro X z R y T i af s ak H E g l st C;subst z R y;obtain⟨B,L⟩:=C;obtain⟨q,r,aq,t,u,x⟩:=l a (by simp);obtain⟨aw,J,ay,ap,ao,j,N,S⟩:=g.wu B;obtain⟨rfl,rfl⟩:=oa Y j;obtain⟨⟨k,v⟩,W⟩:∃p,ag[i]? =O p:=#v[ag[i],b_ L];obtain⟨an,ac,ar,as,av⟩:=S i k v W;refine H0 st J j N ar λh' ad az=>?_;have al:Inv X af ak H {s with heap:=h'}:=g.turned (t':=s.toks) (λb Z f e=>(az.2 b f).trans e) q r t u x;obtain⟨m,e,c,n⟩:=id ad;exact#v[an.key,I,tr (s:={s with heap:=h'}) e c n (by decide) #v[.ref ac,H,al,as,#v[I,k,v,ac,W,I,av],ad,λb f=>(l b f).1]]
 done:=by intro X z R y T i af s ak H E g l st C;subst z R y;obtain⟨B,L⟩:=C;obtain⟨q,r,aq,t,u,x⟩:=l a (by simp);obtain⟨aw,J,ay,ap,ao,j,N,S⟩:=g.wu B;obtain⟨rfl,rfl⟩:=oa Y j;exact CA (g.ok.hd T) st J j N L λh' am=>#v[I,g.turned (t':=s.toks) (λb Z f e=>am b Z f e) q r t u x]
 self:=λA i s _ E st h=>by refine so st.typeIs Pj (hJ Pj st.typeIs F.entry_dict_keyiterator_iter ?_ (F.args_dict_keyiterator_iter_1 _));show aG _ _ (ret (.ref a)) _ _ s;exact aV #v[_,I,"dict_keyiterator",_,st.typeIs,sq.lookup,h]
def T9{ag:aa (bg×V)}{ah:aa bx}{aH:Nat}{aK:c7}(a:U)(T:o.data=.dict es ep):nz P w K (.Tuple ah aH aK) (tT d o ag) [a] a (λi h=>∃ok j,IsItemIter h a d i ag.length ep ok j)where
 mem:=by simp
 obj:=λi h st b c=>by have e:b=a:=(by simpa using c);subst e;obtain⟨ok,j,e⟩:=st;exact#v[_,e,λv aL=>nomatch aL]
 keep:=λi h h' st k=>let #v[ok,j,e]:=st;#v[ok,j,k a (by simp) _ e]
 item:=by
  intro X t C r L i af s Z H E f l st z;subst t C r;obtain⟨x,N⟩:=z;obtain⟨aD,ay,aG,al,ak,vs,y,aE,n,B⟩:=f.n_ x;obtain⟨rfl,rfl⟩:=oa T y;obtain⟨⟨k,v⟩,R⟩:∃p,ag[i]? =O p:=#v[ag[i],b_ N];obtain⟨u,aF,aJ⟩:=CB n R;have m:ag.length=vs.length:=Paired.length n;obtain⟨ok,j,g⟩:=st;rw[m]at g;have S:a<s.heap.objs.size:=cJ g;refine wpAny_pyNext_items_item g B aF λkey h' aA aC ar _ az=>?_;refine#v[_,I,wpAny_letOwnedTupleGo_items (s:={s with heap:=h'}) aC λq av W=>?_];have as:q.get? s.heap.objs.size=O {cls:=.type "tuple",data:=.seq #[key,u]}:=(W.2 _ (ma S)).trans ar;have aI:eT X.prog X.w (Y H s.heap.objs.size (.tup [kV k,v])) q s.heap.objs.size (.tup [kV k,v]):=#v[by show 2<=bu;decide,[key,u],.cons (H_ (show km k key=ai from aA)) (.cons aJ .nil),#v[_,as,I,_,I]];have ac:Inv X af Z (Y H s.heap.objs.size (.tup [kV k,v])) {s with heap:=q}:=f.HZ (t':=s.toks) (ch:=[a]) (λb J c e=>(W.2 b (by simpa using c)).trans (az b J (by simpa using c) e)) l (bp _) aI;refine#v[.ref s.heap.objs.size,_,ac,I,#v[_,k,v,R,I,f.bA.fresh (bp _),I],#v[key,u,?_],λb c=>?_]
  ·rw[m];exact av
  ·have e:b=a:=(by simpa using c);rw[e,aw (er S)];exact(l a (by simp)).1
 done:=by intro X t C r L i af s Z H E f l st z;subst t C r;obtain⟨x,N⟩:=z;obtain⟨am,an,_,ao,ap,aq⟩:=l a (by simp);obtain⟨aD,ay,aG,al,ak,vs,y,aE,n,B⟩:=f.n_ x;obtain⟨rfl,rfl⟩:=oa T y;have m:ag.length=vs.length:=Paired.length n;obtain⟨ok,j,g⟩:=st;rw[m]at g;exact wpAny_pyNext_items_end (f.ok.hd L) g B (gK ∅) λh' ad=>#v[I,f.turned (t':=s.toks) (λb J c e=>ad b J c e) am an ao ap aq]
 self:=λA i s _ E st h=>let #v[_,_,e]:=st;PySem.W.kcp_self e h
end
def T_(a:TE):TI:=λb H R=>a b H λx H1=>∃d o,x=.ref d/\((∃ag,H1 d=O (.frz o (.dK ag))/\R (tS d o ag) H1)\/∃ag,H1 d=O (.frz o (.dT ag))/\R (CC d o ag) H1)
def Ua(a:TE):TI:=λb H R=>a b H λx H1=>∃d o ag,x=.ref d/\H1 d=O (.frz o (.dK ag))/\R (tT d o ag) H1
section
variable{X:Cx}{tg e:bx}{td:TE}{fj g0:c7}
def CD(r:PE X e td):PI X tg e (T_ td):=by(intro af s v H R m h;refine S (r af s v H _ m h) λu l⟨x,H1,c,t,d,o,q,b⟩=>?_;subst q;obtain rfl:u=cP d:=t;rcases b with⟨ag,f,b⟩|⟨ag,f,b⟩);(·obtain⟨i,g,k,p,n,vs,a,j,_,_⟩:=c.n_ f;refine Cz i g k a (Cy (tk:=l.toks) c _ (T7 _ a) #v[_,eo _ rfl,I,?_] b);rw[j]<;>rfl);·obtain⟨i,g,k,p,n,a,j,_⟩:=c.wu f;refine Cz i g k a (Cy (tk:=l.toks) c _ (T8 _ a) #v[_,eo _ rfl,I,?_] b);rw[j]<;>rfl
def Ub{j:aa bx}{k:Nat}{l:c7}(w:PE X e td)(r:o3 e "items" X.env (bU e X.env)=bU e X.env:=by rfl)(z:(fj.endLine==g0.line)=ai:=by rfl):PI X (.Tuple j k l) (.Call (.Attribute e "items" fj) [] [] g0) (Ua td):=by(intro af s g H R m h;refine AG (T:="dict") (id:="dict.items") r I z F.plainAttrs_dict Pk F.type_dict_items (S (w af s g H _ m h) λu a⟨x,H1,i,C,d,o,ag,p,t,f⟩=>?_);subst p;obtain rfl:u=cP d:=C;obtain⟨A,_,_,_,_,vs,v,_,B,c⟩:=i.n_ t;have y:ag.length=vs.length:=Paired.length B;refine#v[c.dictOf.typeIs,c.dictOf.mapOf.noDict,?_];have n:Inv X af g H1 {a with heap:=a.heap.push {cls:=.type "dict_items",data:=.fields #[.ref d]} }:=i.kept (t':=a.toks) λ_ _ f=>dd _ f;have q:aG (aU X.prog X.w) X.A (nK (.ref a.heap.objs.size)) (vX X af g (.Tuple j k l) R) X.xe {a with heap:=a.heap.push {cls:=.type "dict_items",data:=.fields #[.ref d]} }:=by refine wpAny_pyIter_items (d:=d) (knd:=fZ X.prog X.w) #v[_,eo _ rfl,I,I] (c.push _) (Cy (tk:=a.toks) n _ (T9 _ v) #v[.none,.none,?_] f);rw[y];exact eo _ rfl);show aG _ _ (qF g0 (.builtin "dict.items") [.ref d] [] []) _ X.xe a;exact method_meetsIn Pk F.entry_dict_items I (PySem.evalArgs_none #v[I,c.dictOf.typeIs,F.args_dict_items_1 _,_,meets_dict_items (fZ X.prog X.w) d A,#v[vs,c.dictOf],q])
end
def lO(K:bj)(a:U):It:=#v[λi H=>∃(xs:aa V)(x:V),aA K H a xs/\xs[i]? =O x,λi H v c=>∃b x,v=.ref b/\H b=aj/\c=Y H b (.tup [.int (i:Nat),x])/\∀xs,aA K H a xs->xs[i]? =O x,λi H=>∃xs:aa V,aA K H a xs/\xs.length<=i]
def Uc{P:cx}{w:bR}{K:bj}{ah:aa bx}{aG:Nat}{aL:c7}(a e f:U):nz P w K (.Tuple ah aG aL) (lO K a) [e,f] e (λi h=>(∃n,IsEnum h e f ((i:Nat):Int) n)/\h.IsListIter f a i/\e≠f)where
 mem:=by simp
 obj:=λi h st d g=>by
  obtain⟨⟨n,j⟩,⟨o,N,J,as⟩,_⟩:=st;have y:d=e\/d=f:=by simpa using g
  rcases y with c|c
  ·rw[c];exact#v[_,j,λv b=>nomatch b]
  ·rw[c];exact#v[o,N,λv b=>by rw[as]at b;cases b]
 keep:=λi h h' st k=>let #v[#v[n,j],ay,m]:=st;#v[#v[n,k e (by simp) _ j],ay.at λo b=>k f (by simp) o b,m]
 item:=by
  intro X C R B J i af s Z H E l q st L;subst C R B;obtain⟨⟨n,j⟩,r,m⟩:=st;obtain⟨xs,x,t,S⟩:=L;obtain⟨aH,T,p,aF⟩:=l.list t;obtain⟨u,aD,aK⟩:=T.get S;have W:e<s.heap.objs.size:=cJ j;have az:f<s.heap.objs.size:=by obtain⟨_,b,_⟩:=r;exact cJ b
  refine wpAny_pyNext_enum_item j r p.isList (x:=u) (by simpa using aD) m λh' N aA ap _ aC=>?_;refine#v[_,I,wpAny_letOwnedTupleGo_enum (s:={s with heap:=h',toks:=s.toks+1}) N λz av V=>?_];have aq:z.get? s.heap.objs.size=O {cls:=.type "tuple",data:=.seq #[.int i s.toks,u]}:=(V.2 _ (ma W)).trans ap;have aI:eT X.prog X.w (Y H s.heap.objs.size (.tup [.int (i:Nat),x])) z s.heap.objs.size (.tup [.int (i:Nat),x]):=#v[by show 2<=bu;decide,[.int i s.toks,u],.cons #v[_,I] (.cons aK .nil),#v[_,aq,I,_,I]];have ac:Inv X af Z (Y H s.heap.objs.size (.tup [.int (i:Nat),x])) {s with heap:=z,toks:=s.toks+1}:=l.HZ (ch:=[e,f]) (λd aJ g b=>(V.2 d (λc=>g (by simp[c]))).trans (aC d aJ (λc=>g (by simp[c])) (λc=>g (by simp[c])) b)) q (bp _) aI;refine#v[.ref s.heap.objs.size,_,ac,I,#v[_,x,I,l.bA.fresh (bp _),I,λ_ aE=>by rw[l.GJ aE t];exact S],#v[#v[u,?_],aA.at λo b=>(V.2 f (Ne.symm m)).trans b,m],λd g=>?_]
  ·have ad:((i+1:Nat):Int)=(i:Int)+1:= ∅;rw[ad];exact av
  ·have ar:d<s.heap.objs.size:=by
    have y:d=e\/d=f:=(by simpa using g);rcases y with c|c
    ·rw[c];exact W
    ·rw[c];exact az
   rw[aw (er ar)];exact(q d g).1
 done:=by intro X C R B J i af s Z H E l q st L;subst C R B;obtain⟨⟨n,j⟩,r,m⟩:=st;obtain⟨xs,t,S⟩:=L;obtain⟨aH,T,p,aF⟩:=l.list t;obtain⟨ak,al,_,am,an,ao⟩:=q f (by simp);have aN:=T.length;exact wpAny_pyNext_enum_end (l.ok.hd J) j r p.isList (by simp;lia) λh' ag=>#v[I,l.turned (t':=s.toks) (λd o g b=>ag d o g b) ak al am an ao]
 self:=λA i s _ E st h=>let #v[#v[_,j],_]:=st;Pl j h
def Ud(K:bj)(b:TA):TI:=λc H R=>b c H λvs H1=>∃a xs,vs=[.ref a]/\aA K H1 a xs/\R (lO K a) H1
def tU{X:Cx}{e:bx}{l:TA}{p k P:c7}{q:aa bx}{C:Nat}(w:Gl X "enumerate")(z:X.mg "enumerate"=aj)(u:PA X [e] l)(B:cu [e] X.env=[(ax,bU e X.env)]:=by rfl):PI X (.Tuple q C P) (.Call (.Name "enumerate" p) [e] [] k) (Ud X.K l):=by intro af s m H R g h;refine Call_ (kZ g w z boot_enumerate (nL (S (u k af s m H _ g h) λus b⟨vs,H1,c,L,K⟩=>?_) B I));obtain⟨a,xs,t,A,J⟩:=K;subst t;cases L with|cons r N=>(cases N;cases r;obtain⟨aH,_,E,_⟩:=c.list A;refine call_enumerate_list E.isList λh' i x _ y=>Pl i ?_;have n:Inv X af m H1 {b with heap:=h'}:=c.kept (t':=b.toks) y;refine⟨b.heap.objs.size+1,[b.heap.objs.size+1,b.heap.objs.size],_,_,H1,I,n,Uc a (b.heap.objs.size+1) b.heap.objs.size,⟨⟨.none,i⟩,x,Nat.succ_ne_self _⟩,λd v=>?_,J⟩;have o:d=b.heap.objs.size+1\/d=b.heap.objs.size:=by simpa using v);(have j:b.heap.objs.size<=d:=by rcases o with f|f;(rw[f];exact r0 _ _);rw[f];exact bp _);exact c.tq j (c.bA.fresh j)
def Ia:qv "zip"=O (.type "zip"):=by decide+kernel
end L2
section
namespace TL
open PySem.Builtin PySem.Builtin.Str PySem.StrLaws
abbrev tl(x:M):aa Nat:=x.cps.toList
def Ue(x:M):x.length=(tl x).length:=by simp[tl,Str.length]
def pre(S l:aa Nat):Bool:=l.take S.length==S
def par(S:aa Nat):aa Nat->aa Nat->ab (aa Nat×aa Nat)
 |_,[]=>aj
 |aE,c::r=>if pre S (c::r)=ai then O (aE,(c::r).drop S.length)else par S (aE++ [c]) r
def Bn{a:M}(c:tl a≠[]):1<=a.length:=by have b:0<(tl a).length:=List.length_pos_iff.mpr c;rw[Ue a];exact b
end TL
end
namespace L2
def Ib:∀ {vs:aa D}{ns:aa Int},mh vs ns->J (ns.map V.int) vs
 |_,_,.nil=>.nil
 |_,_,.cons n t h=>.cons #v[t,I] (Ib h)
def cH(s:a_)(j:Nat):a_:=match s with
 |.ClassDef _ _ _ a _ _ _ _ _ _ _=>a.getD j (.Pass #v[0,0,0,0])
 |_=>.Pass #v[0,0,0,0]
def pR(s:a_):Arguments:=match s with
 |.FunctionDef _ a _ _ _ _ _ _ _ _=>a
 |_=>{posonlyargs:=[],args:=[],vararg:=aj,kwonlyargs:=[],kw_defaults:=[],kwarg:=aj,defaults:=[]}
def mW(s:a_):aa a_:=match s with
 |.FunctionDef _ _ a _ _ _ _ _ _ _=>a
 |_=>[]
def j(s:a_):fO:=match s with
 |.FunctionDef _ _ _ _ _ _ a _ _ _=>a
 |_=>{kind:=.function,names:=[],isGenerator:=ax,isCoroutine:=ax}
abbrev bq:jx:=λ_ _ _ _ _ _=>False
abbrev E0:XK:=λ_ _ _=>False
def g_{X:Cx}:oN bq X E0:=λ_ _ _ _ _ _ _ h=>h.elim
structure mX(K:bj)(x qual:M)(st:a_)(f:U)(fd:bV):Prop where
 ex:∃(oc:D)(od:ab U)(kV doc pm:D)(an:ab U)(Ic ct:D)(Ug:ae (ab D)),fd=nS x qual (pR st) (mW st) (j st) .none kV doc pm an Ic ct/\K.lookup f=O #v[oc,od,.func fd,Ug]/\uX K Ic qual=ai
 kp:mc K (.ref f)=ai
section
variable{P:cx}{w:bR}{K:bj}{mg:M->ab D}{aJ:aZ}
def mX.ok{x e:M}{st:a_}{f:U}{g:bV}{c ps:aa M}{k:Nat}{sp:Sp}(F:mX K x e st f g)(S:W c ps (j st))(len:∀vs H a E,sp vs H a E->vs.length=ps.length)(l:∀(b:D)(A:cQ)(d:aa fi)(s:au)(H:Hp)(vs:aa V)(a:VK)(E:XK),ew k (A.deeper (md e (j st) s.heap.objs.size f b))->sp vs H a E->∃t,iG (pP bq P w K mg aJ c e (j st) f b A d s H E).tf (mW st) t/\t {nx:=λ_ i=>a .non i,rt:=a} (start c vs) H):bf P w K mg aJ bq (k+1) f g ps sp:=by obtain⟨_,_,kV,_,pm,_,b,_,_,rfl,lk,m⟩:=F.ex;refine SJ lk m S len λA d s H vs a E n o=>?_;obtain⟨t,h,p⟩:=l b A d s H vs a E n o;exact#v[t,h.tf,p]
def mX.binds{x g:M}{st:a_}{f:U}{e:bV}{ps:aa M}(F:mX K x g st f e)(h:∀(kV d pm:D)(a:ab U)(b c:D)(us:aa D),us.length=ps.length->nR (nS x g (pR st) (mW st) (j st) .none kV d pm a b c) #v[us,[]]=pure (ps.zip us)):Binds K e ps []:=by obtain⟨_,_,kV,d,pm,a,b,c,_,rfl,lk,_⟩:=F.ex;exact .all (h kV d pm a b c)
def wx{x b:M}{st:a_}{f:U}{h:D}{i d:ab U}{m:ae (ab D)}{kV g pm a e:D}(l:K.lookup f=O #v[h,i,.func (nS x b (pR st) (mW st) (j st) .none kV g pm d a e),m])(c:uX K a b=ai)(k:mc K (.ref f)=ai):mX K x b st f (nS x b (pR st) (mW st) (j st) .none kV g pm d a e):=#v[#v[h,i,kV,g,pm,d,a,e,m,I,l,c],k]
end
def k7{A:cQ}{k:Nat}(a:ew k A):A.units+1<hH:=Eh (Nat.add_le_add_left (by decide:1<=64) _) a.units
section
variable{X:Cx}
def pv(i:Nat){x:M}{e:c7}(a:X.N[i]? =O x:=by rfl)(d:lH X.env.scope x:=by first|exact cB rfl|exact gb (cB rfl)|exact gb (gb rfl))(c:(x==("__debug__":M))=ax:=by decide)(b:(x==("__classdict__":M))=ax:=by decide):PE X (.Name x e) (b8 i):=qY a d c b
end
def eJ{A B:Prop}(h:B):if ax=ai then A else B:=by rw[aD d8];exact h
def de{A B:Prop}(h:A):if ai=ai then A else B:=by rw[aI I];exact h
def cg{c A B:Prop}[Decidable c](a:c->A)(b:¬c->B):if c then A else B:=by by_cases h:c;(rw[aI h];exact a h);rw[aD h];exact b h
def Z(H b:Hp):Prop:=∀a o,H a=O o->b a=O o
def Z.refl(H:Hp):Z H H:=λ_ _ h=>h
def Z.trans{H H1 b:Hp}(a:Z H H1)(d:Z H1 b):Z H b:=λc o h=>d c o (a c o h)
def Z.free{H a:Hp}(e:Z H a){l:U}(h:a l=aR):H l=aR:=by cases b:H l with|none=>rfl|some o=>rw[e l o b]at h;cases h
def Z.seq{K:bj}{H b:Hp}{a:U}{xs:aa V}(e:Z H b)(h:aA K H a xs):aA K b a xs:=by rcases h with(h|⟨o,h⟩)|h;(exact .inl (.inl (e _ _ h)));(exact .inl (.inr #v[o,e _ _ h]));exact .inr h
section
variable{κ:Type}[DecidableEq κ]
def CF{ag:aa (κ×V)}{k:κ}(h:dn ag k=aj):¬k∈ag.map (·.1):=by intro m;obtain⟨p,b,e⟩:=bM.mp m;have a:(ag.any λc=>decide (c.1=k))=ai:=l4.mpr #v[p,b,eP e];rw[lN,h]at a;exact absurd a (by simp)
def Ie{ag:aa (κ×V)}{k:κ}{v:V}(h:dn ag k=O v):k∈ag.map (·.1):=by(have c:(ag.any λb=>decide (b.1=k))=ai:=by rw[lN,h];all_goals rfl);obtain⟨p,a,e⟩:=l4.mp c;exact bM.mpr #v[p,a,jd e]
def tV:∀ {l:aa κ}{k:κ},l.Nodup->¬k∈l->(l++ [k]).Nodup
 | [],k,_,_=>by simp
 |a::r,k,h,c=>by
  obtain⟨d,e⟩:=fD.mp h;show(a::(r++ [k])).Nodup;refine fD.mpr #v[λm=>?_,tV e λm=>c (bL.mpr (gb m))];rcases dh.mp m with b|b
  ·exact d b
  ·exact c (bL.mpr (cB (c_.mp b).symm))
def Uh{ag:aa (κ×V)}{k:κ}(v:V)(a:(ag.map (·.1)).Nodup)(h:dn ag k=aj):((eN ag k v).map (·.1)).Nodup:=by rw[Cp v h,dY];exact tV a (CF h)
end
def fw{xs:aa V}{a:Int}{j:Nat}{v:V}(e:a=(j:Int))(h:xs[j]? =O v):n7 xs a=O v:=by rw[e];exact eD h
def jz{b:Type}{l:aa b}(f:l.Nodup){i j:Nat}{x:b}(a:l[i]? =O x)(c:l[j]? =O x):i=j:=by obtain⟨_,d⟩:=cM.mp a;obtain⟨_,e⟩:=cM.mp c;exact(Ot f).mp (d.trans e.symm)
def Z.made{H H1:Hp}{x dx C:U}(b:H x=aR)(c:H dx=aR)(k:∀a o,(Y (Y H dx (.own x)) x (.ins C dx [])) a=O o->a≠x->H1 a=O o):Z H H1:=λa o e=>k a o (by rw[aw (bI e b),aw (bI e c)];exact e) (bI e b)
end L2
open L2.V renaming int->aB,ref->aT
open L2.HO renaming lst->cT
namespace L2
open PySem.W(WData Codec OpenSpec Well WellAll ReadsW ReadsAllW)
mutual
inductive Dw(K:bj)(H:Hp):V->fG->Prop
 |non:Dw K H .non .none
 |bl (b:Bool):Dw K H (.bl b) (.bool b)
 |int (i:Int):Dw K H (.int i) (.int i)
 |str (x:M):Dw K H (.str x) (.str x)
 |byt (b:ae UInt8):Dw K H (.byt b) (.bytes b.toList)
 |lst {a:U} {xs:aa V} {ds:aa fG}:aA K H a xs->ku K H xs ds->Dw K H (.ref a) (.list ds)
 |tup {a:U} {xs:aa V} {ds:aa fG}:dH K H a xs->ku K H xs ds->Dw K H (.ref a) (.tuple ds)
inductive ku(K:bj)(H:Hp):aa V->aa fG->Prop
 |nil:ku K H [] []
 |cons {v:V} {vs:aa V} {d:fG} {ds:aa fG}:Dw K H v d->ku K H vs ds->ku K H (v::vs) (d::ds)
end
def Ig{K:bj}{H:Hp}:∀ns:aa Int,ku K H (ns.map aB) (ns.map Pn)
 | []=>.nil
 |n::r=>.cons (.int n) (Ig r)
def Ih{K:bj}{H:Hp}:∀(ns:aa Int)(xs:aa V),ku K H xs (ns.map Pn)->xs=ns.map aB
 | [],xs,h=>by cases h;rfl
 |n::r,xs,h=>by
  cases h with
  |cons a b=>cases a;rw[Ih r _ b]<;>rfl
section
variable{P:cx}{w:bR}{K:bj}{H:Hp}{h:aZ}{R:Po}{cl:M->ab U}
def Ui{a:U}{xs:aa V}(i:eu P w H h)(d:K.In h)(c:aA K H a xs):∃(aH:aa D)(o:a9)(n:Nat),J xs aH/\h.get? a=O o/\o.cls=.type "list"/\o.data=.seq aH.toArray n:=by rcases c with c|⟨o,aH,n,e,f,_,g,_,b⟩;(obtain⟨_,aH,n,b,e⟩:=(show eT P w H h a (.lst xs)from c.ok i);exact#v[aH,_,n,b,e,I,I]);exact#v[aH.toList,o,n,b,d _ _ e,f,by simp[g]]
def Uj{a:U}{xs:aa V}(i:eu P w H h)(g:K.In h)(f:dH K H a xs):∃(aH:aa D)(o:a9)(n:Nat),J xs aH/\h.get? a=O o/\o.cls=.type "tuple"/\o.data=.seq aH.toArray n:=by rcases f with f|⟨o,aH,n,e,b,c,_,d⟩;(obtain⟨_,aH,d,o,e,b,n,c⟩:=(show eT P w H h a (.tup xs)from f.ok i);exact#v[aH,o,n,d,e,b,c]);exact#v[aH.toList,o,n,d,g _ _ e,b,by simp[c]]
mutual
theorem Dw.reads(bA:eu P w H h)(KX:K.In h):∀(d:fG)(v:V)(u:D),Dw K H v d->RelV v u->∃as,ReadsW R cl h u d as
 |.none,_,_,x,r=>by cases x;cases r;exact#v[_,ReadsW.none]
 |.bool b,_,_,x,r=>by cases x;cases r;exact#v[_,ReadsW.bool b]
 |.int i,_,_,x,r=>by cases x;obtain⟨t,rfl⟩:=r;exact#v[_,ReadsW.int i t]
 |.str s,_,_,x,r=>by cases x;obtain⟨t,rfl⟩:=r;exact#v[_,ReadsW.str s t]
 |.bytes b,_,_,x,r=>by cases x;obtain⟨t,rfl⟩:=r;exact#v[_,ReadsW.bytes _ t]
 |.list ds,_,_,x,r=>by
  cases x with
  |lst hs ha=>cases r;obtain⟨CG,o,n,rv,ho,hc,hd⟩:=Ui bA KX hs;obtain⟨as,hr⟩:=Dw.readsAll bA KX ds _ CG ha rv;exact#v[_,ReadsW.list ho hc hd hr]
 |.tuple ds,_,_,x,r=>by
  cases x with
  |tup hs ha=>cases r;obtain⟨CG,o,n,rv,ho,hc,hd⟩:=Uj bA KX hs;obtain⟨as,hr⟩:=Dw.readsAll bA KX ds _ CG ha rv;exact#v[_,ReadsW.tuple ho hc hd hr]
 |.float _,_,_,x,_=>by cases x
 |.dict _,_,_,x,_=>by cases x
 |.bytearray _,_,_,x,_=>by cases x
 |.set _,_,_,x,_=>by cases x
 |.frozenset _,_,_,x,_=>by cases x
 |.obj _ _,_,_,x,_=>by cases x
theorem Dw.readsAll(bA:eu P w H h)(KX:K.In h):∀(ds:aa fG)(vs:aa V)(us:aa D),ku K H vs ds->J vs us->∃as,ReadsAllW R cl h us ds as
 | [],_,_,x,r=>by cases x;cases r;exact#v[_,ReadsAllW.nil]
 |d::ds,_,_,x,r=>by
  cases x with
  |cons h1 h2=>
   cases r with
   |cons r1 r2=>obtain⟨as,q1⟩:=Dw.reads bA KX d _ _ h1 r1;obtain⟨bs,q2⟩:=Dw.readsAll bA KX ds _ _ h2 r2;exact#v[_,ReadsAllW.cons q1 q2]
end
end
mutual
def i0:fG->Bool
 |.none=>ai
 |.bool _=>ai
 |.int _=>ai
 |.str _=>ai
 |.bytes _=>ai
 |.list xs=>kx xs
 |.tuple xs=>kx xs
 |_=>ax
def kx:aa fG->Bool
 | []=>ai
 |x::r=>i0 x&&kx r
end
def Ii{b:Type}{f:b->fG}(h:∀a,i0 (f a)=ai):∀l:aa b,kx (l.map f)=ai
 | []=>rfl
 |x::r=>by show(i0 (f x)&&kx (r.map f))=ai;rw[h x,Ii h r]<;>rfl
def oe:∀(c:Codec)(a:c.denote),i0 (c.enc a)=ai
 |.unit,_=>rfl
 |.bool,_=>rfl
 |.int _ _,_=>rfl
 |.nat _ _,_=>rfl
 |.u8,_=>rfl
 |.bytes _ _,_=>rfl
 |.text _ _ _ _,_=>rfl
 |.list _ _ c,a=>Ii (λx=>oe c x) a
 |.pair c d,a=>by show(i0 (c.enc a.1)&&(i0 (d.enc a.2)&&ai))=ai;rw[oe c a.1,oe d a.2]<;>rfl
 |.triple c d e,a=>by show(i0 (c.enc a.1)&&(i0 (d.enc a.2.1)&&(i0 (e.enc a.2.2)&&ai)))=ai;rw[oe c a.1,oe d a.2.1,oe e a.2.2]<;>rfl
 |.option c,aj=>rfl
 |.option c,O x=>oe c x
def Ij:∀(b:aa Codec)(a:AO b),kx (su b a)=ai
 | [],_=>rfl
 |c::b,a=>by show(i0 (c.enc a.1)&&kx (su b a.2))=ai;rw[oe c a.1,Ij b a.2]<;>rfl
def CH:∀ {xs:aa fG}{d:fG},d∈xs->d.weight<=AQ xs
 | [],d,h=>absurd h (by simp)
 |x::r,d,h=>by
  show d.weight<=x.weight+1+AQ r;rcases bL.mp h with e|m
  ·rw[e];lia
  ·have a:=CH m;lia
def hV:D->V
 |.none=>.non
 |.bool b=>.bl b
 |.int i _=>.int i
 |.str x _=>.str x
 |.bytes b _=>.byt b
 |.ref a=>.ref a
 |_=>.non
def jA(A:aa U):D->Prop
 |.none=>True
 |.bool _=>True
 |.int _ _=>True
 |.str _ _=>True
 |.bytes _ _=>True
 |.ref a=>a∈A
 |_=>False
def jA.mono{A B:aa U}(h:∀a∈A,a∈B):∀ {u:D},jA A u->jA B u:=λ{u} x=>by cases u with|ref a=>exact h a x|none=>trivial|bool b=>trivial|int i t=>trivial|str s t=>trivial|bytes b t=>trivial|_=>exact h7 x
def Uk{A:aa U}{u:D}(x:jA A u):RelV (hV u) u:=by cases u with|ref a=>rfl|none=>rfl|bool b=>rfl|int i t=>exact⟨t,I⟩|str s t=>exact⟨t,I⟩|bytes b t=>exact⟨t,I⟩|_=>exact h7 x
def rb{A:aa U}:∀ {vs:aa D},(∀u∈vs,jA A u)->J (vs.map hV) vs
 | [],_=>.nil
 |u::r,h=>.cons (Uk (h u (cc ..))) (rb λx a=>h x (cw _ a))
def ky(h:aZ)(A:aa U)(a:U):Prop:=∃vs:aa D,vs.length<=bu/\(∀u∈vs,jA A u)/\(h.get? a=O {cls:=.type "list",data:=.seq vs.toArray}\/h.get? a=O {cls:=.type "tuple",data:=.seq vs.toArray})
def ky.mono{h:aZ}{A B:aa U}{a:U}(k:∀a∈A,a∈B)(x:ky h A a):ky h B a:=by obtain⟨vs,b,c,d⟩:=x;exact#v[vs,b,λu e=>(c u e).mono k,d]
def wy{P:nV}{h:aZ}:∀ {vs:aa D}{ds:aa fG},pd P h vs ds->vs.length=ds.length
 |_,_,.nil=>rfl
 |_,_,.cons _ a=>by show _+1=_+1;rw[wy a]
def Ik{P:nV}{h:aZ}{v:D}{ds:aa fG}(x:Well P h v (.list ds)):∃(a:U)(vs:aa D),v=.ref a/\h.get? a=O {cls:=.type "list",data:=.seq vs.toArray}/\pd P h vs ds:=by cases x with|list c b=>exact⟨_,_,I,c,b⟩
def Il{P:nV}{h:aZ}{v:D}{ds:aa fG}(x:Well P h v (.tuple ds)):∃(a:U)(vs:aa D),v=.ref a/\h.get? a=O {cls:=.type "tuple",data:=.seq vs.toArray}/\pd P h vs ds:=by cases x with|tuple c b=>exact⟨_,_,I,c,b⟩
def Im{P:nV}{h:aZ}{us:aa D}{d:fG}{ds:aa fG}(x:pd P h us (d::ds)):∃(v:D)(vs:aa D),us=v::vs/\Well P h v d/\pd P h vs ds:=by cases x with|cons a b=>exact⟨_,_,I,a,b⟩
def Io{n:Nat}(h:n<=1048576):n<=bu:=dQ h (by decide)
section
variable{P:nV}{h:aZ}
mutual
theorem Ul:∀(d:fG)(v:D),Well P h v d->i0 d=ai->d.weight<=1048576->∃A:aa U,jA A v/\∀a∈A,ky h A a
 |.none,_,x,_,_=>by cases x;exact#v[[],trivial,λa m=>absurd m (by simp)]
 |.bool b,_,x,_,_=>by cases x;exact#v[[],trivial,λa m=>absurd m (by simp)]
 |.int i,_,x,_,_=>by cases x;exact#v[[],trivial,λa m=>absurd m (by simp)]
 |.str s,_,x,_,_=>by cases x;exact#v[[],trivial,λa m=>absurd m (by simp)]
 |.bytes b,_,x,_,_=>by cases x;exact#v[[],trivial,λa m=>absurd m (by simp)]
 |.list ds,_,x,p,z=>by
  obtain⟨a,vs,rfl,ho,mY⟩:=Ik x;have z2:AQ ds<=1048576:=z;obtain⟨A,h1,h2⟩:=wz ds _ mY p λd hd=>dQ (CH hd) z2;have k:∀b∈A,b∈a::A:=λb hb=>cw _ hb;refine#v[a::A,cc ..,λb hb=>?_];rcases bL.mp hb with e|m
  ·rw[e];exact#v[vs,Io (by rw[wy mY];exact dQ (Pp ds) z2),λu hu=>(h1 u hu).mono k,.inl ho]
  ·exact(h2 b m).mono k
 |.tuple ds,_,x,p,z=>by
  obtain⟨a,vs,rfl,ho,mY⟩:=Il x;have z2:AQ ds<=1048576:=z;obtain⟨A,h1,h2⟩:=wz ds _ mY p λd hd=>dQ (CH hd) z2;have k:∀b∈A,b∈a::A:=λb hb=>cw _ hb;refine#v[a::A,cc ..,λb hb=>?_];rcases bL.mp hb with e|m
  ·rw[e];exact#v[vs,Io (by rw[wy mY];exact dQ (Pp ds) z2),λu hu=>(h1 u hu).mono k,.inr ho]
  ·exact(h2 b m).mono k
 |.float _,_,_,p,_=>jl (show ax=ai from p)
 |.dict _,_,_,p,_=>jl (show ax=ai from p)
 |.bytearray _,_,_,p,_=>jl (show ax=ai from p)
 |.set _,_,_,p,_=>jl (show ax=ai from p)
 |.frozenset _,_,_,p,_=>jl (show ax=ai from p)
 |.obj _ _,_,_,p,_=>jl (show ax=ai from p)
theorem wz:∀(ds:aa fG)(vs:aa D),pd P h vs ds->kx ds=ai->(∀d∈ds,d.weight<=1048576)->∃A:aa U,(∀u∈vs,jA A u)/\∀a∈A,ky h A a
 | [],_,x,_,_=>by cases x;exact#v[[],λu m=>absurd m (by simp),λa m=>absurd m (by simp)]
 |d::ds,_,x,p,z=>by
  obtain⟨v,vs,rfl,x1,x2⟩:=Im x;have q:i0 d=ai/\kx ds=ai:=uI.mp p;obtain⟨A,a1,a2⟩:=Ul d v x1 q.1 (z d (cc ..));obtain⟨B,b1,b2⟩:=wz ds vs x2 q.2 λe he=>z e (cw _ he);have kA:∀b∈A,b∈A++B:=λb hb=>dh.mpr (.inl hb);have kB:∀b∈B,b∈A++B:=λb hb=>dh.mpr (.inr hb);refine#v[A++B,λu hu=>?_,λb hb=>?_]
  ·rcases bL.mp hu with e|m
   ·rw[e];exact a1.mono kA
   ·exact(b1 u m).mono kB
  ·rcases dh.mp hb with m|m
   ·exact(a2 b m).mono kA
   ·exact(b2 b m).mono kB
end
end
def wA(o:a9):ab HO:=match o.data with
 |.seq vs _=>if(o.cls==iP "list")=ai then O (.frz o (.lst (vs.toList.map hV)))else O (.frz o (.tup (vs.toList.map hV)))
 |_=>aj
def gT(K:bj)(h:aZ)(A:aa U):Hp:=λa=>if a∈A then(if(K.lookup a).isNone=ai then(h.get? a).bind wA else aj)else aj
def tW(H:Hp):Prop:=∀a,H a=aj\/∃o u,H a=O (.frz o u)
def Ip(vs:aa D):wA {cls:=.type "list",data:=.seq vs.toArray}=O (.frz {cls:=.type "list",data:=.seq vs.toArray} (.lst (vs.map hV))):=by show(if(iP "list"==iP "list")=ai then O (HO.frz {cls:=.type "list",data:=.seq vs.toArray} (.lst (vs.toArray.toList.map hV)))else O (HO.frz {cls:=.type "list",data:=.seq vs.toArray} (.tup (vs.toArray.toList.map hV))))=_;rw[aI (qr _)]
def Iq(vs:aa D):wA {cls:=.type "tuple",data:=.seq vs.toArray}=O (.frz {cls:=.type "tuple",data:=.seq vs.toArray} (.tup (vs.map hV))):=by show(if(iP "tuple"==iP "list")=ai then O (HO.frz {cls:=.type "tuple",data:=.seq vs.toArray} (.lst (vs.toArray.toList.map hV)))else O (HO.frz {cls:=.type "tuple",data:=.seq vs.toArray} (.tup (vs.toArray.toList.map hV))))=_;rw[aD (by decide)]
section
variable{P:cx}{w:bR}{K:bj}{h:aZ}{A:aa U}
def wB{a:U}{o:a9}(b:a∈A)(c:K.lookup a=aj)(e:h.get? a=O o):gT K h A a=wA o:=by unfold gT;rw[aI b,c,aI (show(aj:ab a9).isNone=ai from I),e]<;>rfl
def Um{b:U}{u:HO}(a:gT K h A b=O u):b∈A/\K.lookup b=aj:=by unfold gT at a;by_cases c:b∈A;(rw[aI c]at a;cases d:K.lookup b with|none=>exact⟨c,I⟩|some o=>rw[d,aD (by simp)]at a;cases a);rw[aD c]at a;cases a
def wC(g:∀a∈A,ky h A a){b:U}{u:HO}(c:gT K h A b=O u):K.lookup b=aj/\∃vs:aa D,vs.length<=bu/\(∀u∈vs,jA A u)/\((h.get? b=O {cls:=.type "list",data:=.seq vs.toArray}/\u=.frz {cls:=.type "list",data:=.seq vs.toArray} (.lst (vs.map hV)))\/(h.get? b=O {cls:=.type "tuple",data:=.seq vs.toArray}/\u=.frz {cls:=.type "tuple",data:=.seq vs.toArray} (.tup (vs.map hV)))):=by obtain⟨d,f⟩:=Um c;obtain⟨vs,i,j,k⟩:=g b d;refine#v[f,vs,i,j,?_];rcases k with e|e;(rw[wB d f e,Ip]at c;exact .inl #v[e,(aM c).symm]);rw[wB d f e,Iq]at c;exact .inr #v[e,(aM c).symm]
def Uo(b:∀a∈A,ky h A a):tW (gT K h A):=λc=>by cases d:gT K h A c with|none=>exact .inl I|some u=>obtain⟨_,vs,_,_,⟨_,e⟩|⟨_,e⟩⟩:=wC b d;(exact .inr #v[_,_,by rw[e]]);exact .inr #v[_,_,by rw[e]]
def Up(f:∀a∈A,ky h A a):eu P w (gT K h A) h:=λ_ u g=>by obtain⟨_,vs,c,d,⟨e,rfl⟩|⟨e,rfl⟩⟩:=wC f g;(exact#v[e,by rw[aq];exact c,vs,_,rb d,e]);exact#v[e,by rw[aq];exact c,vs,rb d,_,e,I,_,I]
def wD{c a:D}{vs us:aa D}(e:(O {cls:=c,data:=.seq vs.toArray}:ab a9)=O {cls:=a,data:=.seq us.toArray}):c=a/\vs=us:=by(have b:=aM e;have d:c=a:=dR Obj.cls b;have f:u5 vs.toArray=u5 us.toArray:=dR Obj.data b;injection f with g);refine#v[d,?_];have h:=dR Ox g;simpa using h
def Uq(i:K.In h)(j:∀a∈A,ky h A a){a:U}{vs:aa D}(g:a∈A)(e:h.get? a=O {cls:=.type "list",data:=.seq vs.toArray}):(∀u∈vs,jA A u)/\aA K (gT K h A) a (vs.map hV):=by(obtain⟨us,k,f,l⟩:=j a g;have m:us=vs:=by rcases l with b|b;(rw[e]at b;exact(wD b).2.symm);rw[e]at b;exact absurd (Pq (wD b).1) (by decide));subst m;refine#v[f,?_];cases c:K.lookup a with|none=>exact .inl (.inr ⟨_,by rw[wB g c e,Ip]⟩)|some o=>have d:=i a o c;rw[e]at d;obtain rfl:=aM d;exact .inr #v[_,us.toArray,_,c,I,I,I,by rw[dB];exact k,by simpa using rb f]
def Ur(i:K.In h)(j:∀a∈A,ky h A a){a:U}{vs:aa D}(g:a∈A)(e:h.get? a=O {cls:=.type "tuple",data:=.seq vs.toArray}):(∀u∈vs,jA A u)/\dH K (gT K h A) a (vs.map hV):=by(obtain⟨us,k,f,l⟩:=j a g;have m:us=vs:=by rcases l with b|b;(rw[e]at b;exact absurd (Pq (wD b).1) (by decide));rw[e]at b;exact(wD b).2.symm);subst m;refine#v[f,?_];cases c:K.lookup a with|none=>exact .inl (.inr ⟨_,by rw[wB g c e,Iq]⟩)|some o=>have d:=i a o c;rw[e]at d;obtain rfl:=aM d;exact .inr #v[_,us.toArray,_,c,I,I,by rw[dB];exact k,by simpa using rb f]
mutual
theorem Us{Pm:nV}(KX:K.In h)(ar:∀a∈A,ky h A a):∀(d:fG)(v:D),Well Pm h v d->i0 d=ai->jA A v->Dw K (gT K h A) (hV v) d
 |.none,_,x,_,_=>by cases x;exact .non
 |.bool b,_,x,_,_=>by cases x;exact .bl b
 |.int i,_,x,_,_=>by cases x;exact .int i
 |.str s,_,x,_,_=>by cases x;exact .str s
 |.bytes b,_,x,_,_=>by cases x;have z:=Dw.byt (K:=K) (H:=gT K h A) b.toArray;exact z
 |.list ds,_,x,p,hu=>by obtain⟨a,vs,rfl,ho,mY⟩:=Ik x;obtain⟨h2,hs⟩:=Uq KX ar hu ho;exact .lst hs (wF KX ar ds _ mY p h2)
 |.tuple ds,_,x,p,hu=>by obtain⟨a,vs,rfl,ho,mY⟩:=Il x;obtain⟨h2,hs⟩:=Ur KX ar hu ho;exact .tup hs (wF KX ar ds _ mY p h2)
 |.float _,_,_,p,_=>jl (show ax=ai from p)
 |.dict _,_,_,p,_=>jl (show ax=ai from p)
 |.bytearray _,_,_,p,_=>jl (show ax=ai from p)
 |.set _,_,_,p,_=>jl (show ax=ai from p)
 |.frozenset _,_,_,p,_=>jl (show ax=ai from p)
 |.obj _ _,_,_,p,_=>jl (show ax=ai from p)
theorem wF{Pm:nV}(KX:K.In h)(ar:∀a∈A,ky h A a):∀(ds:aa fG)(vs:aa D),pd Pm h vs ds->kx ds=ai->(∀u∈vs,jA A u)->ku K (gT K h A) (vs.map hV) ds
 | [],_,x,_,_=>by cases x;exact .nil
 |d::ds,_,x,p,hu=>by obtain⟨v,vs,rfl,x1,x2⟩:=Im x;have q:i0 d=ai/\kx ds=ai:=uI.mp p;exact .cons (Us KX ar d v x1 q.1 (hu _ (cc ..))) (wF KX ar ds vs x2 q.2 λu m=>hu u (cw _ m))
end
end
def Ut{P:cx}{w:bR}{K:bj}{mg E:M->ab D}{CX:jx}{k:Nat}{Q:U}{S:bV}{ps:aa M}{sp:Sp}{b:au}{c:aa D}{ds:aa fG}{R:Po}{cl:M->ab U}{d0:fG}(q:K.In b.heap)(Y:b.heap.Ns dA mg)(z:b.heap.Ns EC E)(aw:∀x:M,x≠"__name__"->E x=qv x)(aD:b.heap.NoLimit)(az:b.gens= #[])(C:pd w.params b.heap c ds)(ad:kx ds=ai)(aH:∀d∈ds,d.weight<=1048576)(aE:ew k sv)(F:∀aJ:aZ,K.In aJ->aJ.Ns dA mg->bf P w K mg aJ CX k Q S ps sp)(ay:∀(s:au)(us:aa D),us.length=ps.length->r9 s S #v[us,[]] (ps.zip us))(aC:ds.length=ps.length)(aG:∀(H:Hp)(xs:aa V),tW H->ku K H xs ds->sp xs H (λv J=>Dw K J v d0) λ_ _ _=>False)(ar:∀H e s',CX [] H b (λ_ _ _=>False) e s'->False):kP (aU P w) sv (.call (.ref Q) #v[c,[]]) (λr s'=>∃u t,r=.ok (.ret u)/\ReadsW R cl s'.heap u d0 t/\OldK b.heap s'.heap/\s'.os=b.os/\qw s'.gens) b:=by
 obtain⟨A,Z,j⟩:=wz ds c C ad aH;have y:tW (gT K b.heap A):=Uo j;have B:eu P w (gT K b.heap A) b.heap:=Up j;have X:=wF q j ds c C ad Z;have av:=rb Z;have T:∀a u,gT K b.heap A a=O u->K.lookup a=aj:=λa u f=>(wC j f).1;have ag:∀ {a:U}{o:a9}{i:ae kh}{h:Nat},b.heap.get? a=O o->o.data=.dict i h->gT K b.heap A a=aj:=λ{a o i h} e d=>by
  cases f:gT K b.heap A a with
  |none=>rfl
  |some u=>
   obtain⟨_,vs,_,_,⟨l,_⟩|⟨l,_⟩⟩:=wC j f
   ·rw[l]at e;cases e;have d':u5 vs.toArray _=Data.dict i h:=d;cases d'
   ·rw[l]at e;cases e;have d':u5 vs.toArray _=Data.dict i h:=d;cases d'
 generalize gT K b.heap A=H at y B X T ag;have L:∀ {a:U}{o:a9},b.heap.get? a=O o->H a=aj->(mJ b.heap H).get? a=O o:=λe n=>RS e n;have p:∀ {a:U}{m:M->ab D},b.heap.Ns a m->(mJ b.heap H).Ns a m:=λ{a m}⟨o,i,h,e,d,r⟩=>#v[o,i,h,L e (ag e d),d,r]
 have aK:∀a o,K.lookup a=O o->H a=aj:=λa o e=>by
  cases f:H a with
  |none=>rfl
  |some u=>rw[T a u f]at e;cases e
 have W:K.In (mJ b.heap H):=λa o e=>L (q a o e) (aK a o e);have as:Mod K mg (mJ b.heap H):=#v[W,p Y,#v[E,p z,aw],let #v[aI,ap,aq]:=aD;#v[aI,p ap,aq]];have an:pO P w K mg (mJ b.heap H) sv [] b H:=#v[I,as,λa o e=>RT e,uM (RR _ _),trivial,λa z=>absurd (show a∈([]:aa U)from z) (by simp),B,.of_eq az];have aA:c.length=ps.length:=by rw[wy C];exact aC
 refine r_ ((F _ W (p Y)).run sv [] b H #v[c,[]] c (c.map hV) _ _ aE an (ay b c aA) av (aG H _ y X)) λr s' x=>?_;cases r with
 |error e=>exact(ar H e s' x).elim
 |ok ao=>
  cases ao with
  |next=>exact h7 x
  |brk=>exact h7 x
  |cont=>exact h7 x
  |ret u=>
   obtain⟨v,J,os,am,ak,ac,aN,f⟩:=x;have af:∀a o,b.heap.get? a=O o->s'.heap.get? a=O o:=λa o e=>by
    cases ah:H a with
    |none=>exact ak.keep a o e ah (by intro g;exact absurd (show a∈([]:aa U)from g) (by simp)) (by simp)
    |some aP=>
     rcases y a with g|⟨aL,_,g⟩
     ·rw[ah]at g;cases g
     ·have aO:=ak.mI a aL _ g;obtain⟨N,_⟩:=B a _ g;obtain⟨l,_⟩:=ac a _ aO;rw[e]at N;cases N;exact l
   have al:K.In s'.heap:=λa o e=>af a o (q a o e);obtain⟨t,aF⟩:=Dw.reads (R:=R) (cl:=cl) ac al d0 v u f aN;exact#v[u,t,I,aF,OldK.of_keep af,os,am]
def Uu{ds:aa fG}(h:WData.layableAll ds=ai):∀d∈ds,d.weight<=1048576:=λd a=>(PySem.W.layableW_iff.mp (kK.mp h d a)).2.2
def Ir:∀(b:aa Codec)(a:AO b),(su b a).length=b.length
 | [],_=>rfl
 |c::b,a=>by show(su b a.2).length+1=b.length+1;rw[Ir b a.2]
def Uv{r:OpenSpec}{k:Nat}{ah:cx}{ag:aa M}{n:(M->ab D)->aZ->Prop}{c:bR->aZ->Prop}{d:DefRec}{K:nV->bj}{CX:bR->jx}{ps:aa M}{sp:bR->Sp}(ad:r.wellSaid=ai)(an:d.params.defaults=[])(T:r.args.length=ps.length)(Z:ew k sv)(N:∀(w:bR)(h:aZ),c w h->(K w.params).In h)(F:∀(w:bR)(mg:M->ab D)(b:U)(h:aZ),c w h->(K w.params).In h->h.Ns dA mg->mg d.name=O (.ref b)->∃g:bV,(∀(s:au)(us:aa D),us.length=ps.length->r9 s g #v[us,[]] (ps.zip us))/\∀aJ:aZ,(K w.params).In aJ->aJ.Ns dA mg->bf r.prog w (K w.params) mg aJ (CX w) k b g ps (sp w))(ac:∀(w:bR)(H:Hp)(xs:aa V)(a:AO r.args),tW H->Pr r.args a=ai->u6 r.args r.asked a=ai->ku (K w.params) H xs (su r.args a)->sp w xs H (λv m=>Dw (K w.params) m v (r.ret.enc (u6 r.args r.f a))) λ_ _ _=>False)(C:∀(w:bR)(H:Hp)(s:au)(e:D)(s':au),CX w [] H s (λ_ _ _=>False) e s'->False):Pt ah ag n c r d [] (λf vs=>Pu f vs):=by intro w ak al mg _ G j b o pm _ _ _ kV _ _ _ _ W Q args _ _ X S _ af _;obtain⟨a,q,t⟩:=PySem.W.os_pre_some X;obtain⟨x,l⟩:=Codec.encAll_of_decAll r.args args a q;subst x;have i:=N w _ j;obtain⟨g,P,E⟩:=F w mg b _ j i G.T.g W;refine PySem.W.enter_call (r_ (Ut (R:=[]) (cl:=classAt ak.heap) (d0:=r.ret.enc (u6 r.args r.f a)) i G.T.g G.T.b G.T.builtins G.T.nolimit Q af (Ij _ _) (Uu S) Z E P (by rw[Ir];exact T) (λH xs J L=>ac w H xs a J l t L) λH e s'=>C w H al e s') λ_ s' Y=>?_);obtain⟨u,p,rfl,y,z,A,B⟩:=Y;exact#v[.inl #v[u,_,p,I,λ_=>rfl,y,(OpenSpec.post_iff ad l _ _).mpr I,λam=>jl (show ax=ai from am)],z,A,B]
def Uw{r:OpenSpec}{k:Nat}{B:cx}{A:aa M}{j:(M->ab D)->aZ->Prop}{b:bR->aZ->Prop}{d:DefRec}{K:nV->bj}{CX:jx}{ps:aa M}{sp:bj->Sp}(z:r.wellSaid=ai)(t:d.params.defaults=[])(u:r.args.length=ps.length)(x:ew k sv)(q:∀(w:bR)(h:aZ),b w h->(K w.params).In h)(F:∀(w:bR)(mg:M->ab D)(c:U)(h:aZ),b w h->(K w.params).In h->h.Ns dA mg->mg d.name=O (.ref c)->∃g:bV,(∀(s:au)(us:aa D),us.length=ps.length->r9 s g #v[us,[]] (ps.zip us))/\∀aJ:aZ,(K w.params).In aJ->aJ.Ns dA mg->bf r.prog w (K w.params) mg aJ CX k c g ps (sp (K w.params)))(y:∀(K:bj)(H:Hp)(xs:aa V)(a:AO r.args),tW H->Pr r.args a=ai->u6 r.args r.asked a=ai->ku K H xs (su r.args a)->sp K xs H (λv i=>Dw K i v (r.ret.enc (u6 r.args r.f a))) λ_ _ _=>False)(p:∀(H:Hp)(s:au)(e:D)(s':au),CX [] H s (λ_ _ _=>False) e s'->False):Pt B A j b r d [] (λf vs=>Pu f vs):=Uv (K:=K) (CX:=λ_=>CX) (sp:=λw=>sp (K w.params)) z t u x q F (λw H xs a l m n o=>y (K w.params) H xs a l m n o) λ_ H s e s'=>p H s e s'
end L2
open L2
open Sy49(Car Past)
namespace CI
open PySem.W PySem.Calls
section
variable{bW:cx}{w:bR}{A:cQ}{E:D->au->Prop}{s:au}{K:Frag}{x y C:U}{ox oy:a9}{od Qw:ab a9}
def Ux{b:D->au->Prop}(X:K.In s.heap)(a:InstAt s.heap x ox C od)(h:s.heap.get? y=O oy)(c:mroIn K C (.type "object")=O ai)(g:x≠y)(f:b .notImplemented s):aG (aU bW w) A (call (.builtin "object.__eq__") [.ref x,.ref y]) b E s:=by(have d:ox.cls≠ .type "tuple":=by rw[a.cls];intro e;cases e);exact Af (Pw Px.eq.plain PySem.F.cmpEntry_eq (check_slot (i:="object.__eq__") (owner:="object") (n:="__eq__") PySem.F.cmpKind_eq PySem.F.cmpSplit_eq (a.type.andThen (looks_mroIn X c)) (PySem.F.cmpArgs_eq _ _) (objEq_entry_other g a.at_ h d f)))
def Uy{a:ab D->au->Prop}(X:K.In s.heap)(b:InstAt s.heap x ox C od)(h:s.heap.get? y=O oy)(f:u7 K (.ref C) "__eq__"=O (O (.builtin "object.__eq__")))(d:mroIn K C (.type "object")=O ai)(g:x≠y)(e:a (O .notImplemented) s):aG (aU bW w) A (Py (.ref x) "__eq__" [.ref y]) a E s:=by simp only[Py,bindSpecialIfBound?,specialOf];refine hG (av (av (av (b.type.here ((looks_findIn X f).here ?_)))));simp only[Px.eq.bind];refine av (sx (wpAny_ite ?_));have c:aG (aU bW w) A (call (.builtin "object.__eq__") ([.ref x]++ [.ref y])>>=λv=>pure (O v)) a E s:=av (Ux X b h d g (aV e));split;(exact av (aV (aV c)));exact wpAny_tryCatch (av (aV (aV c)))
def Iu{a:ab D->au->Prop}(X:K.In s.heap)(b:InstAt s.heap x ox C od)(g:s.heap.get? y=O oy)(e:u7 K (.ref C) "__eq__"=O (O (.builtin "object.__eq__")))(c:mroIn K C (.type "object")=O ai)(f:x≠y)(d:a aj s):aG (aU bW w) A (tryCompare (.ref x) "__eq__" (.ref y)) a E s:=by simp only[tryCompare];exact av (Uy X b g e c f (aV d))
def Uz{c:D->au->Prop}(X:K.In s.heap)(a:InstAt s.heap x ox C od)(J:InstAt s.heap y oy C Qw)(f:u7 K (.ref C) "__eq__"=O (O (.builtin "object.__eq__")))(d:mroIn K C (.type "object")=O ai)(b:x≠y)(i:A.units<hH)(h:c (.bool ax) s):aG (aU bW w) A (richCompare .Eq (.ref x) (.ref y)) c E s:=by(have g:ox.cls≠ .type "tuple":=by rw[a.cls];intro e;cases e);(simp only[richCompare,cmpInfo_Eq,oneThing_ref];refine hG (av (wpAny_cRoomFor i ?_));refine av (a.type.here (av (J.type.here ?_)));rw[aD (by simp)];refine av (aV ?_);simp only[ka,iO];refine av (Iu X a J.at_ f d b ?_);simp only[E7,hZ];refine av (Iu X J a.at_ f d b.symm ?_);repeat (first|with_reducible refine wpAny_isSame_ref_other b a.at_ J.at_ g ?_|wp_step));exact h
structure tX(K:Frag)(C:U):Prop where
 eq:u7 K (.ref C) "__eq__"=O (O (.builtin "object.__eq__"))
 ob:mroIn K C (.type "object")=O ai
def UA(X:K.In s.heap)(a:InstAt s.heap x ox C od)(J:InstAt s.heap y oy C Qw)(e:tX K C)(c:A.units<hH):Aq A s (.ref x) (.ref y) (decide (x=y)):=by by_cases h:x=y;(subst h;rw[eP I];exact OO _);rw[ek h];exact SeqAt.EqAt.of_refs h λbW w E _ b=>Uz X a J e.eq e.ob h c b
end
end CI
namespace Iv
open PySem.Calls PySem.SeqAt PySem.MeetsSeq
open PySem.AutoSeq1(wpAny_loadPart')
def UB(l:U)(a:ae D)(n:Nat)(x:D)(e:D->Bool)(j:Nat)(q:j<a.size)(J:e a[j]=ai)(k:Nat)(t:a.size<=bu):∀i:Nat,j-i=k->i<=j->(∀m(r:m<a.size),i<=m->m<j->e a[m]=ax)->Meets (Builtin.«list.remove.loop» #v[[.ref l,x,eI i],[]]) (λA R s=>s.heap.get? l=O {cls:=.type "list",dict:=aj,data:=.seq a n,slots:= #[]}/\(∀p,p∈a->EqAt A.in1 s p x (e p))/\R (.ok (.ret .none)) {s with heap:=s.heap.update l (iS λxs=>xs.eraseIdxIfInBounds j)}):=by induction k with|zero=>(intro i H C o d w A R s h;obtain⟨b,c,h⟩:=h;obtain⟨B,v,u,N,os⟩:=s;have E:i=j:=by lia);(subst E;wp_walk using AR b;have f:a[((i:Nat):Int).toNat]? =O a[i]:=by simp[q]);rw[f];refine av (c _ (Pz q) d w _ _ ?_);rw[J];have K:(a.eraseIdxIfInBounds i).size<=bu+1:=dQ (size_erased a _) (PB t);wp_walk using(sy b I (hz:=t) (_hz':=K)),AR b;simpa using h|succ k L=>(intro i H C o d w A R s h;obtain⟨b,c,h⟩:=h;obtain⟨B,v,u,N,os⟩:=s;have g:i<a.size:=by lia);(wp_walk using AR b;have f:a[((i:Nat):Int).toNat]? =O a[i]:=by simp[g]);have z:((i:Int)+1)=((i+1:Nat):Int):=(by push_cast;rfl);rw[f];refine av (c _ (Pz g) d w _ _ ?_);rw[o i g (bp _) ∅];wp_walk;rw[z];exact#v[qN plain_remove_loop _,ml entry_remove_loop (by rw[nW plain_remove_loop _];exact L (i+1) ∅ ∅ (λm r _ y=>o m r ∅ y) d w A R _ #v[b,c,h])]
def UC(l:U)(a:ae D)(n:Nat)(x:D)(e:D->Bool)(j:Nat)(i:j<a.size)(p:e a[j]=ai)(k:∀m(d:m<a.size),m<j->e a[m]=ax)(o:a.size<=bu):Meets (Builtin.«list.remove» #v[[.ref l,x],[]]) (λA R s=>s.heap.get? l=O {cls:=.type "list",dict:=aj,data:=.seq a n,slots:= #[]}/\(∀b,b∈a->EqAt A.in1 s b x (e b))/\R (.ok (.ret .none)) {s with heap:=s.heap.update l (iS λxs=>xs.eraseIdxIfInBounds j)}):=by intro q w A R s h;obtain⟨c,g,h⟩:=h;obtain⟨_,_,_,_,os⟩:=s;wp_walk using AR c;exact#v[qN plain_remove_loop _,ml entry_remove_loop (by rw[nW plain_remove_loop _];exact UB l a n x e j i p _ o 0 I (dc _) (λm d _ f=>k m d f) q w A R _ #v[c,g,h])]
end Iv
namespace L2
open CI
section
variable{X:Cx}{af:aa (U×a9)}{σ:St}{H:Hp}{s:au}
def Inv.inst(b:Inv X af σ H s){p C dx:U}{d:aa (M×V)}(h:H p=O (.ins C dx d)):∃e a,OC s.heap p e C a:=by obtain⟨_,c,_⟩:=v8 b.bA h;obtain⟨a,J,_⟩:=c.look;exact#v[_,_,J]
def wG{b c:Type}(f:b->c):∀(l:aa b)(j:Nat),(l.map f).eraseIdx j=(l.eraseIdx j).map f
 | [],_=>rfl
 |_::_,0=>rfl
 |a::l,j+1=>by show f a::(l.map f).eraseIdx j=f a::(l.eraseIdx j).map f;rw[wG f l j]
def CJ(H:Hp)(C:U)(ps:aa U):Prop:=∀p∈ps,∃dx a,H p=O (.ins C dx a)
def tY:∀ {ps:aa U}{us:aa D},J (ps.map aT) us->us=ps.map cP
 | [],_,.nil=>rfl
 |p::ps,_,.cons r t=>by cases r;rw[tY t];rfl
def qi(p:U):D->Bool
 |.ref a=>decide (a=p)
 |_=>ax
def Iw(a:Inv X af σ H s){C p:U}{ps:aa U}{A:cQ}(e:tX X.K C)(b:CJ H C ps)(h:p∈ps)(j:A.units<hH):∀u∈ps.map cP,Aq A s u (.ref p) (qi p u):=by intro u k;obtain⟨l,i,rfl⟩:=bM.mp k;obtain⟨dx,_,f⟩:=b l i;obtain⟨_,_,g⟩:=b p h;obtain⟨_,_,c⟩:=a.inst f;obtain⟨_,_,d⟩:=a.inst g;exact UA a.g7 c d e j
def UD(K:bj):V->aa V->Hp->VK->Prop:=λx xs H b=>∃(a C p:U)(ps:aa U)(j:Nat),x=aT a/\xs=[aT p]/\aA K H a (ps.map aT)/\tX K C/\CJ H C ps/\ps[j]? =O p/\(∀m,m<j->ps[m]?≠O p)/\b (.int (j:Nat)) H
def UE(K:X.A.units+1<hH):B8 X "list.index" (UD X.K):=by intro af s σ H x xs v us _ b P R h;obtain⟨a,C,p,ps,j,rfl,rfl,J,e,E,c,A,d⟩:=h;cases P;have o:=tY (ps:=[p]) R;subst o;obtain⟨aH,k,⟨⟨_,l,_,S⟩,n,i,f,_,g⟩,t⟩:=b.list J;simp only at f g;subst f g;have q:=tY k;subst q;have T:=bZ;have r:j<ps.length:=(cM.mp c).1;have B:ps[j]=p:=(cM.mp c).2;have N:=k.length;simp only[aq]at N t;refine o7 Aw #v[_,i,I] OW (OX _ _) (OY a (ps.map cP).toArray n l S (.ref p) (qi p) j (by simpa using r) ∅ ?_ ?_) #v[i,λu L=>Iw b e E (dJ c) (by show X.A.in1.units<hH;simpa[PD]using K) u (by simpa using L),?_];(simp[qi,B]);((intro m w y;have z:m<ps.length:=by simpa using w);have:ps[m]≠p:=λd=>A m y (by rw[b_ z,d]);simp[qi,this]);exact#v[.int (j:Nat),H,b.tok _,#v[_,I],d]
def UG(K:bj):V->aa V->Hp->VK->Prop:=λx xs H b=>∃(a C p:U)(ps:aa U)(j:Nat),x=aT a/\xs=[aT p]/\H a=O (.lst (ps.map aT))/\tX K C/\CJ H C ps/\ps[j]? =O p/\(∀m,m<j->ps[m]?≠O p)/\b .non (Y H a (.lst ((ps.eraseIdx j).map aT)))
def UH(E:X.A.units+1<hH):tI X "list.remove" (UG X.K):=by intro af s σ H x xs v us _ b K L h;obtain⟨a,C,p,ps,j,rfl,rfl,g,e,B,c,z,f⟩:=h;cases K;have k:=tY (ps:=[p]) L;subst k;obtain⟨i,aH,n,r,q,d⟩:=b.mS g;have l:=tY r;subst l;have N:=bZ;have o:j<ps.length:=(cM.mp c).1;have A:ps[j]=p:=(cM.mp c).2;simp only[aq]at q i;refine o7 PF #v[_,d,I] PySem.F.entry_list_remove (PySem.F.args_list_remove_2 _ _) (Iv.UC a (ps.map cP).toArray n (.ref p) (qi p) j (by simpa using o) ?_ ?_ (by simpa using i)) #v[d,λu J=>Iw b e B (dJ c) (by show X.A.in1.units<hH;simpa[PD]using E) u (by simpa using J),?_];(simp[qi,A]);((intro m t w;have y:m<ps.length:=by simpa using t);have:ps[m]≠p:=λf=>z m w (by rw[b_ y,f]);simp[qi,this]);refine#v[.non,_,b.tJ (iU:=(ps.map cP).eraseIdx j) g d ?_ ?_ ?_,I,f];(show(ps.map cP).toArray.eraseIdxIfInBounds j=_;rw[OT]);(have:=r.eraseIdx j;rw[wG aT]at this;rw[wG cP]at this⊢;exact this);have:=Cc ps j;rw[aq];lia
end
end L2
namespace L2
section
variable{X:Cx}{af:aa (U×a9)}{σ:St}{H:Hp}{s:au}{a:U}{ag:aa (bg×V)}{k:bg}{u r:D}{d:V}{A:cQ}{E:D->au->Prop}
def UI{h:D->au->Prop}(g:Inv X af σ H s)(e:H a=O (.dK ag))(J:ag.length<bu)(C:RelV (kV k) u)(B:RelV d r)(o:∀v,dn ag k=O v->∀m s',Inv X af σ H s'->RelV v m->h m s')(p:dn ag k=aj->∀s',Inv X af σ (Y H a (.dK (eN ag k d))) s'->h r s'):aG (aU X.prog X.w) A (call (.builtin "dict.setdefault") [.ref a,u,r]) h E s:=by
 obtain⟨I,l,vs,f,i⟩:=wj g.bA e;refine u0 PH i.typeIs PySem.F.entry_dict_setdefault (PySem.F.args_dict_setdefault_3 _ _ _) (kt_meets_setdefault (fZ X.prog X.w) a (mT C) l r) #v[vs,i,by rw[<-f.length];exact I,λv y=>?_,λt h' j x=>?_]
 ·have b:=f.val k;rw[y]at b;cases c:dn ag k with
  |none=>rw[c]at b;exact b.elim
  |some n=>rw[c]at b;exact o n c v _ (g.tok _) b
 ·have b:=f.val k;rw[t]at b;have c:dn ag k=aj:=by
   cases c:dn ag k with
   |none=>rfl
   |some n=>rw[c]at b;exact b.elim
  have q:∃b,h'.get? a=O b:=let #v[b,_,_,w,_]:=j;#v[b,w];have z:(eN ag k d).length<=bu:=by have:=wg ag k d;lia
  exact p c _ (tR g (by rw[e];exact True.intro) x q (wk z l (f.put k B) j))
end
def UJ(g i h:TE):TE:=λc H d=>g c H λx H1=>∃a,x=.ref a/\wo H1 a/\i c H1 λj f=>h c f λe b=>∃ag k,b a=O (.dK ag)/\ag.length<bu/\j=kV k/\(∀v,dn ag k=O v->d v b)/\(dn ag k=aj->d e (Y b a (.dK (eN ag k e))))
section
variable{X:Cx}{o e f:bx}{fj g0:c7}{td ty tx:TE}
def UK(C:PE X o td)(w:PE X e ty)(z:PE X f tx)(m:M2 X o "setdefault" fj e f g0):PE X (.Call (.Attribute o "setdefault" fj) [e,f] [] g0) (UJ td ty tx):=by intro af s c H _ l h;refine AG m.base m.wm m.line EZ PH PySem.F.type_dict_setdefault (S (C af s c H _ l h) λu U⟨x,H1,g,R,a,r,d,J⟩=>?_);subst r;obtain rfl:u=cP a:=R;obtain⟨Y,Z,_⟩:=Cv g d;refine#v[Y,Z,?_];rw[m.trees];refine Ar I (As (nQ (S (w af U c H1 _ g J) λ_ V⟨_,j,n,T,K⟩=>nQ (S (z af V c j _ n K) λ_ _⟨ac,_,p,i,ag,k,q,A,t,L,N⟩=>qG ?_))));subst t;exact UI p q A T i (λv E _ W b P=>#v[v,_,b,P,L v E]) (λB W b=>#v[ac,_,b,i,N B])
end
def fc{b:Type}(xs:aa b)(lo a st:ab Int):aa b:=(AS (gy lo a st xs.length).1 (gy lo a st xs.length).2.1 (gy lo a st xs.length).2.2).filterMap (xs[·]?)
def J.pick{xs:aa V}{us:aa D}(r:J xs us):∀a:aa Nat,J (a.filterMap (xs[·]?)) (a.filterMap (us[·]?))
 | []=>.nil
 |i::a=>by
  have b:=J.pick r a;cases h:xs[i]?with
  |none=>have c:=r.none_of h;rw[PJ h,PJ c];exact b
  |some x=>obtain⟨u,d,e⟩:=r.get h;rw[PK h,PK d];exact .cons e b
def Iy(aH:aa D)(lo a st:ab Int):Ap aH.toArray lo a st=(fc aH lo a st).toArray:=by unfold Ap fc;simp only[dB,PL]
def UL(K:bj)(te:TE)(tl g h:TO):TE:=λb H f=>te b H λx H1=>tl b H1 λl d=>g b d λu e=>h b e λst c=>∃a xs,x=.ref a/\aA K c a xs/\st≠O 0/\∀p,c p=aj->f (.ref p) (Y c p (.lst (fc xs l u st)))
section
variable{X:Cx}{e:bx}{te:TE}{lo hi:ab bx}{st:bx}{tl th ts:TO}{a8 p2:c7}
def wH(L:PE X e te)(N:PO X lo tl)(R:PO X hi th)(P:PO X (O st) ts):PE X (.Subscript e (.Slice lo hi (O st) p2) a8) (UL X.K te tl th ts):=by(intro af s c H B t h;refine Al (S (L af s c H _ t h) λv ak⟨x,H1,w,ah,Z⟩=>?_);refine wpAny_Slice (S (N af ak c H1 _ w Z) λj al⟨l,n,y,W,ac⟩=>S (R af al c n _ y ac) λm am⟨u,p,z,Y,ad⟩=>S (P af am c p _ z ad) λvs b⟨k,q,A,V,a,xs,E,T,J,ag⟩=>?_);subst E;cases ah;have d:Inv X af c q {b with heap:=b.heap.push {cls:=.type "slice",data:=.fields #[j,m,vs]} }:=A.kept (t':=b.toks) λC U f=>dd _ f;obtain⟨aH,r,i,_⟩:=d.list T;have g:=r.length;show aG (aU X.prog X.w) X.A (Am e (.Slice lo hi (O st) p2) (.ref a) (.ref b.heap.objs.size)) (EP X af c B) X.xe {b with heap:=b.heap.push {cls:=.type "slice",data:=.fields #[j,m,vs]} };refine tail_any (ops:=[.ref a,.ref b.heap.objs.size]) i.isList.typeIs ES.lookup ?_ (by with_unfolding_all rfl);refine ON i.isList (OJ ..) W Y V J ?_ (by rw[dB]<;>lia);rw[Iy];have Q:(fc xs l u k).length<=bu:=by(have K:=slicePick_size_le aH.toArray l u k;rw[Iy,dB,dB]at K;have an:(fc xs l u k).length=(fc aH l u k).length:=by have:=(r.pick (AS (gy l u k xs.length).1 (gy l u k xs.length).2.1 (gy l u k xs.length).2.2)).length;unfold fc;rw[<-g];exact this);lia);refine#v[.ref _,_,d.laid (t':=b.toks) (o:=.lst (fc xs l u k)) (λC U f=>dd _ f) (bp _) ?_,I,ag _ (d.bA.fresh (bp _))];refine#v[Q,fc aH l u k,0,?_,eo _ rfl];unfold fc;rw[<-g];exact r.pick _
end
def UM(j n:Nat)(f:j<4):AS (gy (O (j:Int)) aj (O 4) (4*n)).1 (gy (O (j:Int)) aj (O 4) (4*n)).2.1 (gy (O (j:Int)) aj (O 4) (4*n)).2.2=(bQ n).map λk=>4*k+j:=by(have a:(gy (O (j:Int)) aj (O 4) (4*n)).1=((min j (4*n):Nat):Int):=by simp only[gy,rY,show(4:Int)>0 by decide,hZ];rw[aD ∅];lia);(have b:(gy (O (j:Int)) aj (O 4) (4*n)).2.1=((4*n:Nat):Int):=by simp only[gy,rY,show(4:Int)>0 by decide,hZ]);have c:(gy (O (j:Int)) aj (O 4) (4*n)).2.2=4:=rfl;rw[a,b,c];unfold AS;simp only[show(4:Int)>0 by decide,hZ];cases n with|zero=>simp|succ n=>(have e:min j (4*(n+1))=j:= ∅;rw[e,aI ∅];have d:((((4*(n+1):Nat):Int)-(j:Int)+4-1)/4).toNat=n+1:=by lia);rw[d];apply l7;intro k _;lia
def ic{b:Type}:∀ {l:aa b}{i:Nat}{x:b},l[i]? =O x->l.take (i+1)=l.take i++ [x]
 | [],i,x,h=>by simp at h
 |a::l,0,x,h=>by have e:a=x:=aM h;subst e;rfl
 |a::l,i+1,x,h=>by have c:=ic (l:=l) (i:=i) (x:=x) h;show a::l.take (i+1)=a::l.take i++ [x];rw[c];rfl
def Z.new{H:Hp}{a:U}{o:HO}(h:H a=aR):Z H (Y H a o):=λ_ u e=>by rw[aw (bI e h)];exact e
def Z.gG{H b:Hp}{a:U}{o:HO}(s:Z H b)(h:H a=aR):Z H (Y b a o):=λc u e=>by rw[aw (bI e h)];exact s c u e
def hA(b:aa V)(a:aa Bool):aa V:=((b.zip a).filter λp=>p.2).map λp=>p.1
def wI{b:aa V}{a:aa Bool}{i:Nat}{f:V}{c:Bool}(e:b[i]? =O f)(d:a[i]? =O c):hA (b.take (i+1)) (a.take (i+1))=hA (b.take i) (a.take i)++(if c=ai then[f]else[]):=by(unfold hA;rw[ic e,ic d];have g:(b.take i).length=(a.take i).length:=by have h:=(cM.mp e).1;have j:=(cM.mp d).1;rw[fE,fE];lia);rw[List.zip_append g,nX,dY];cases c<;>simp
def Iz(a:aa V)(b:aa Bool):(hA a b).length<=a.length:=by unfold hA;rw[aq];refine dQ (iq _ _) ?_;rw[u9];lia
def CK{K:bj}{a f:U}{xs:aa V}{j:Nat}{tt:TT}{te:TE}{vs:aa Nat}{l:St}{H1:Hp}{z:Hp->Prop}(d:aa V)(c:aa Bool)(A:H1 f=aR)(N:aA K H1 a xs)(X:d.length=xs.length)(S:c.length=xs.length)(ac:xs.length<bu)(Q:∀x,bP ((bP l vs).set j (O x)) vs=bP l vs)(P:∀(i:Nat)(x k:V)(n:Bool)(b:Hp),xs[i]? =O x->d[i]? =O k->c[i]? =O n->Z H1 b->b f=O (.lst (hA (d.take i) (c.take i)))->∀R:Bool->Hp->Prop,(∀e,Z b e->R n e)->tt ((bP l vs).set j (O x)) b R)(L:∀(i:Nat)(x k:V)(b:Hp),xs[i]? =O x->d[i]? =O k->c[i]? =O ai->Z H1 b->b f=O (.lst (hA (d.take i) (c.take i)))->∀R:VK,(∀e,Z b e->R k e)->te ((bP l vs).set j (O x)) b R)(J:∀b,Z H1 b->b f=O (.lst (hA d c))->z b):∃W:Nat->Nat->Hp->Prop,(∃m,W 0 m (Y H1 f (.lst [])))/\∀i m H,W i m H->((f3 K a).stop i H/\z H)\/((f3 K a).go i H/\∃t:Hp->Prop,(∀b,t b->∃B,B<m/\W (i+1) B b)/\∀x b,(f3 K a).gC i H x b->eh j x (bP l vs) b λw e=>bP w vs=bP l vs/\tt w e λn r=>if n=ai then te w r λk y=>∃aE,y f=O (.lst aE)/\aE.length<bu/\t (Y y f (.lst (aE++ [k])))else t r):=by refine Co (K:=K) (a:=a) (xs:=xs) (λi b=>Z H1 b/\b f=O (.lst (hA (d.take i) (c.take i)))) #v[Z.new A,az] (λi b _ p=>p.1.seq N) ?_ ?_;(rintro i x b v ⟨s,g⟩;have T:=(cM.mp v).1;have q:d[i]? =O d[i]:=b_ ∅;have o:c[i]? =O c[i]:=b_ ∅;refine#v[Q x,P i x d[i] c[i] b v q o s g _ λe h=>?_];cases u:c[i]with|false=>rw[aD d8];refine#v[s.trans h,?_];rw[wI q (u▸o),aD d8,gY];exact h _ _ g|true=>(rw[aI I];refine L i x d[i] e v q (u▸o) (s.trans h) (h _ _ g) _ λr C=>#v[_,C _ _ (h _ _ g),?_,?_,?_]);(have E:=Iz (d.take i) (c.take i);rw[fE]at E;lia);(exact((s.trans h).trans C).gG A);rw[az,wI q (u▸o),aI I]);rintro b ⟨s,g⟩;refine J b s ?_;rw[g,o8 ∅,o8 ∅]
def IA:∀(a:aa V),hA a (a.map λ_=>ai)=a
 | []=>rfl
 |c::a=>by have b:=IA a;unfold hA at b⊢;simp only[cI,AU,hC,hZ];rw[b]
def mZ{K:bj}{a d:U}{xs:aa V}{j:Nat}{te:TE}{vs:aa Nat}{f:St}{H1:Hp}{t:Hp->Prop}(e:aa V)(z:H1 d=aR)(C:aA K H1 a xs)(w:e.length=xs.length)(I:xs.length<bu)(E:∀x,bP ((bP f vs).set j (O x)) vs=bP f vs)(B:∀(i:Nat)(x c:V)(b:Hp),xs[i]? =O x->e[i]? =O c->Z H1 b->∀R:VK,(∀g,Z b g->R c g)->te ((bP f vs).set j (O x)) b R)(A:∀b,Z H1 b->b d=O (.lst e)->t b):∃W:Nat->Nat->Hp->Prop,(∃m,W 0 m (Y H1 d (.lst [])))/\∀i m H,W i m H->((f3 K a).stop i H/\t H)\/((f3 K a).go i H/\∃k:Hp->Prop,(∀b,k b->∃y,y<m/\W (i+1) y b)/\∀x b,(f3 K a).gC i H x b->eh j x (bP f vs) b λp g=>bP p vs=bP f vs/\fI p g λl q=>if l=ai then te p q λc r=>∃aE,r d=O (.lst aE)/\aE.length<bu/\k (Y r d (.lst (aE++ [c])))else k q):=by refine CK e (e.map λ_=>ai) z C w (by rw[aq];exact w) I E (λi x c l b v o u s _ R n=>?_) (λi x c b v o _ s _ R n=>B i x c b v o s R n) (λb s h=>A b s ?_);(have:l=ai:=(by rw[bN,o]at u;exact(aM u).symm);subst this;exact n b (Z.refl _));rw[h,IA]
def IB{n j:Nat}(h:j<n):k6 n (j:Int)=O j:=by unfold k6;rw[aI ∅,aI ∅,jj]
def IC{J:It}{n:Nat}{g:TG}{tt:TT}{te:TE}{vs:aa Nat}{j:St}{H1:Hp}{c:U}{r:Hp->Prop}(Pv:Nat->Hp->Prop)(t:Pv 0 (Y H1 c (.lst [])))(v:∀i H,i<n->Pv i H->J.go i H)(y:∀H,Pv n H->J.stop n H)(w:∀i x H a,i<n->Pv i H->J.gC i H x a->g x (bP j vs) a λb k=>bP b vs=bP j vs/\tt b k λo d=>if o=ai then te b d λh f=>∃aE,f c=O (.lst aE)/\aE.length<bu/\Pv (i+1) (Y f c (.lst (aE++ [h])))else Pv (i+1) d)(u:∀H,Pv n H->r H):∃W:Nat->Nat->Hp->Prop,(∃m,W 0 m (Y H1 c (.lst [])))/\∀i m H,W i m H->(J.stop i H/\r H)\/(J.go i H/\∃l:Hp->Prop,(∀a,l a->∃s,s<m/\W (i+1) s a)/\∀x a,J.gC i H x a->g x (bP j vs) a λb k=>bP b vs=bP j vs/\tt b k λo d=>if o=ai then te b d λh f=>∃aE,f c=O (.lst aE)/\aE.length<bu/\l (Y f c (.lst (aE++ [h])))else l d):=by refine#v[λi m H=>m=n-i/\i<=n/\Pv i H,#v[n,by simp,dc _,t],?_];rintro i m H ⟨rfl,_,p⟩;by_cases q:i<n;(exact .inr #v[v i H q p,Pv (i+1),λa z=>#v[n-(i+1),by lia,I,q,z],λx a h=>w i x H a q p h]);have e:i=n:= ∅;subst e;exact .inl #v[y H p,u H p]
def CL(b:U)(d:Nat->V->Hp->Prop):Prop:=∀i e H c aE,H b=O (.lst aE)->d i e H->(∀a o,H a=O o->a≠b->c a=O o)->d i e c
def j5(d:U)(H1:Hp)(e:Nat->V->Hp->Prop)(i:Nat)(a:Hp):Prop:=Z H1 a/\∃b,a d=O (.lst b)/\b.length=i/\∀j c,b[j]? =O c->e j c a
def j5.zero{a:U}{H1:Hp}{b:Nat->V->Hp->Prop}(c:H1 a=aR):j5 a H1 b 0 (Y H1 a (.lst [])):=#v[Z.new c,[],az,I,λj _ h=>by simp at h]
def j5.next{a:U}{H1 l c:Hp}{h:Nat->V->Hp->Prop}{i:Nat}{g:V}(m:CL a h)(w:H1 a=aR)(b:j5 a H1 h i l)(s:Z l c)(r:h i g c)(f:i<bu):∃aE,c a=O (.lst aE)/\aE.length<bu/\j5 a H1 h (i+1) (Y c a (.lst (aE++ [g]))):=by(obtain⟨B,d,q,t,A⟩:=b;have p:=s _ _ q;have u:∀b o,c b=O o->b≠a->(Y c a (.lst (d++ [g]))) b=O o:=λb o n z=>by rw[aw z];exact n);refine#v[d,p,by lia,(B.trans s).gG w,_,az,by rw[cV,t];rfl,λj k f=>?_];by_cases x:j<d.length;(rw[il x]at f;exact m j k _ _ d p (m j k l c d q (A j k f) λb o n _=>s b o n) u);(have y:=(cM.mp f).1;rw[cV,iM]at y;have e:j=d.length:=by lia);subst e;rw[je (bp _),j9]at f;have v:g=k:=aM f;subst v;rw[t];exact m i g _ _ d p r u
def ID{K:bj}{a c:U}{xs:aa V}{j:Nat}{te:TE}{vs:aa Nat}{g:St}{H1:Hp}{q:Hp->Prop}(f:Nat->V->Hp->Prop)(y:CL c f)(s:H1 c=aR)(B:aA K H1 a xs)(Q:xs.length<bu)(J:∀x,bP ((bP g vs).set j (O x)) vs=bP g vs)(A:∀(i:Nat)(x:V)(b:Hp),xs[i]? =O x->Z H1 b->∀R:VK,(∀d e,Z b e->f i d e->R d e)->te ((bP g vs).set j (O x)) b R)(w:∀b k,Z H1 b->b c=O (.lst k)->k.length=xs.length->(∀i d,k[i]? =O d->f i d b)->q b):∃W:Nat->Nat->Hp->Prop,(∃m,W 0 m (Y H1 c (.lst [])))/\∀i m H,W i m H->((f3 K a).stop i H/\q H)\/((f3 K a).go i H/\∃l:Hp->Prop,(∀b,l b->∃u,u<m/\W (i+1) u b)/\∀x b,(f3 K a).gC i H x b->eh j x (bP g vs) b λn e=>bP n vs=bP g vs/\fI n e λv o=>if v=ai then te n o λd h=>∃aE,h c=O (.lst aE)/\aE.length<bu/\l (Y h c (.lst (aE++ [d])))else l o):=by refine Co (K:=K) (a:=a) (xs:=xs) (j5 c H1 f) (j5.zero s) (λi b _ p=>p.1.seq B) (λi x b t p=>#v[J x,?_]) λb p=>?_;(have P:=(cM.mp t).1;show(if ai=ai then te ((bP g vs).set j (O x)) b (λd h=>∃aE,h c=O (.lst aE)/\aE.length<bu/\j5 c H1 f (i+1) (Y h c (.lst (aE++ [d]))))else j5 c H1 f (i+1) b);rw[aI I];exact A i x b t p.1 _ λd e N r=>p.next y s N r ∅);obtain⟨L,k,z,C,E⟩:=p;exact w b k L z C E
def UN{K:bj}{a d:U}{xs:aa V}{k l:Nat}{te:TE}{vs:aa Nat}{h:St}{H1:Hp}{w:Hp->Prop}(g:Nat->V->Hp->Prop)(N:CL d g)(y:H1 d=aR)(s:aA K H1 a xs)(ah:xs.length<bu)(ac:∀x c,bP (((bP h vs).set k (O x)).set l (O c)) vs=bP h vs)(S:∀(i:Nat)(x:V)(b:Hp),xs[i]? =O x->Z H1 b->∀R:VK,(∀c e,Z b e->g i c e->R c e)->te (((bP h vs).set k (O (.int (i:Nat)))).set l (O x)) b R)(L:∀b j,Z H1 b->b d=O (.lst j)->j.length=xs.length->(∀i c,j[i]? =O c->g i c b)->w b):∃W:Nat->Nat->Hp->Prop,(∃m,W 0 m (Y H1 d (.lst [])))/\∀i m H,W i m H->((lO K a).stop i H/\w H)\/((lO K a).go i H/\∃o:Hp->Prop,(∀b,o b->∃A,A<m/\W (i+1) A b)/\∀x b,(lO K a).gC i H x b->q5 K 2 (k1 (eh k) (k1 (eh l) qZ)) x (bP h vs) b λt e=>bP t vs=bP h vs/\fI t e λC u=>if C=ai then te t u λc f=>∃aE,f d=O (.lst aE)/\aE.length<bu/\o (Y f d (.lst (aE++ [c])))else o u):=by refine IC (J:=lO K a) (n:=xs.length) (j5 d H1 g) (j5.zero y) (λi b z p=>#v[xs,xs[i],p.1.seq s,by simp[z]]) (λb p=>#v[xs,p.1.seq s,bp _]) (λi v b e z p c=>?_) λb p=>?_;(obtain⟨q,x,rfl,P,rfl,E⟩:=c;have ad:=E xs (p.1.seq s);have B:Z b (Y b q (.tup [.int (i:Nat),x])):=Z.new P;refine#v[q,_,I,dH.of az,I,_,_,I,_,_,I,I,ac _ _,?_];show(if ai=ai then te (((bP h vs).set k (O (.int (i:Nat)))).set l (O x)) _ (λc f=>∃aE,f d=O (.lst aE)/\aE.length<bu/\j5 d H1 g (i+1) (Y f d (.lst (aE++ [c]))))else j5 d H1 g (i+1) (Y b q (.tup [.int (i:Nat),x])));rw[aI I];exact S i x _ ad (p.1.trans B) _ λc f ag r=>p.next N y (B.trans ag) r ∅);obtain⟨af,j,Q,T,X⟩:=p;exact L b j af Q T X
def wJ{J:It}{n:Nat}{g:TG}{tt:TT}{te:TE}{vs:aa Nat}{o:St}{H1:Hp}{f:U}{y:Hp->Prop}(d:aa V)(c:aa Bool)(z:H1 f=aR)(X:d.length=n)(T:c.length=n)(ac:n<bu)(P:∀i H,i<n->Z H1 H->J.go i H)(S:∀H,Z H1 H->J.stop n H)(Q:∀i x h k H a(R:VK)(w:Hp->Prop),i<n->d[i]? =O h->c[i]? =O k->Z H1 H->J.gC i H x a->(k=ai->∀b,Z H b->R h b)->(k=ax->∀b,Z H b->w b)->g x (bP o vs) a λe q=>bP e vs=bP o vs/\tt e q λC j=>if C=ai then te e j R else w j)(K:∀a,Z H1 a->a f=O (.lst (hA d c))->y a):∃W:Nat->Nat->Hp->Prop,(∃m,W 0 m (Y H1 f (.lst [])))/\∀i m H,W i m H->(J.stop i H/\y H)\/(J.go i H/\∃r:Hp->Prop,(∀a,r a->∃B,B<m/\W (i+1) B a)/\∀x a,J.gC i H x a->g x (bP o vs) a λe q=>bP e vs=bP o vs/\tt e q λk j=>if k=ai then te e j λh b=>∃aE,b f=O (.lst aE)/\aE.length<bu/\r (Y b f (.lst (aE++ [h])))else r j):=by refine IC (J:=J) (n:=n) (λi a=>Z H1 a/\a f=O (.lst (hA (d.take i) (c.take i)))) #v[Z.new z,az] (λi a u p=>P i a u p.1) (λa p=>S a p.1) (λi x H a u p h=>?_) λa p=>?_;(obtain⟨s,A⟩:=p;have v:d[i]? =O d[i]:=b_ ∅;have t:c[i]? =O c[i]:=b_ ∅;refine Q i x d[i] c[i] H a _ _ u v t s h (λN b l=>#v[_,l _ _ A,?_,(s.trans l).gG z,?_]) (λL b l=>#v[s.trans l,?_]);(have E:=Iz (d.take i) (c.take i);rw[fE]at E;lia);(rw[az,wI v (N▸t),aI I]);rw[wI v (L▸t),aD d8,gY];exact l _ _ A);refine K a p.1 ?_;rw[p.2,o8 ∅,o8 ∅]
def UO(t:TE):TE:=λc H a=>t c H λv H1=>∃d u,v=.ref d/\H1 d=O u/\mH (O u)/\∀b,a v (Y H1 d (.frz b u))
def UP{X:Cx}{e:bx}{t:TE}(h:PE X e t):PE X e (UO t):=by intro af s l H _ a g;refine S (h af s l _ _ a g) λv _⟨x,H1,b,r,d,u,_,f,i,k⟩=>?_;obtain⟨j,c⟩:=b.lock f i;exact#v[x,_,c,r,k j]
def fq(H:Hp)(a:aa U)(l:aa (aa V)):Prop:=a.length=l.length/\∀(i:Nat)(t:U)(x:aa V),a[i]? =O t->l[i]? =O x->H t=O (.tup x)
def fq.same{H a:Hp}{b:aa U}{l:aa (aa V)}(h:fq H b l)(s:Z H a):fq a b l:=#v[h.1,λi t x c d=>s _ _ (h.2 i t x c d)]
def fq.keep{H a:Hp}{c:aa U}{l:aa (aa V)}(h:fq H c l)(s:∀b xs,H b=O (.tup xs)->a b=O (.tup xs)):fq a c l:=#v[h.1,λi t x d e=>s _ _ (h.2 i t x d e)]
def fq.nil{H:Hp}:fq H [] []:=#v[I,λi t x h _=>by simp at h]
def CM{c:Type}{l:aa c}{a b:c}{i:Nat}(h:(l++ [a])[i]? =O b):l[i]? =O b\/(i=l.length/\a=b):=by by_cases f:i<l.length;(rw[il f]at h;exact .inl h);(have d:=(cM.mp h).1;rw[cV,iM]at d;have e:i=l.length:=by lia);subst e;rw[je (bp _),j9]at h;exact .inr #v[I,aM h]
def fq.snoc{H:Hp}{d:aa U}{l:aa (aa V)}{t:U}{x:aa V}(h:fq H d l)(f:H t=O (.tup x)):fq H (d++ [t]) (l++ [x]):=by(refine#v[by rw[cV,cV,h.1];rfl,λi t' g b a=>?_];rcases CM b with b|⟨e,rfl⟩);(rcases CM a with a|⟨c,rfl⟩;(exact h.2 i t' g b a);have:=(cM.mp b).1;rw[c,h.1]at this;exact absurd this (kb _));rcases CM a with a|⟨c,rfl⟩;(have:=(cM.mp a).1;rw[e,h.1]at this;exact absurd this (kb _));exact f
end L2
namespace Br
def bE(i:Nat):a_:=aba.main.body.getD i (.Pass #v[0,0,0,0])
structure cA(K:bj)(C:U)(m qual:M)(st:a_)(ps:aa M)(f:U)(fd:bV):Prop where
 fn:mX K m qual st f fd
 me:uF K C m f
 bi:Binds K fd ps []
structure ed(K:bj)(mg:M->ab D)(x:M)(st:a_)(ps:aa M)(f:U)(fd:bV):Prop where
 fn:mX K x x st f fd
 at_:mg x=O (.ref f)
 bi:Binds K fd ps []
 bt:∀(s:au)(us:aa D),us.length=ps.length->r9 s fd #v[us,[]] (ps.zip us)
structure k8(K:bj)(mg:M->ab D)(x:M)(C f:U):Prop where
 cl:k4 K C
 k9:Mk K C f
 at_:mg x=O (.ref C)
 eq:CI.tX K C
set_option genInjectivity false
structure FA where
 f:U
 fd:bV
def ei(mg:M->ab D)(x:M)(i:Int):Prop:=∃t,mg x=O (.int i t)
section
variable{K:bj}{mg:M->ab D}{h:aZ}{m fT:M}{st:a_}{ps:aa M}{C f:U}{x:M}
def FD(m fT:M)(st:a_)(kV d pm:D)(a:ab U)(b c:D):bV:=nS m fT (pR st) (mW st) (j st) .none kV d pm a b c
def HB(m fT:M)(st:a_)(ps:aa M):Prop:=∀(kV d pm:D)(a:ab U)(b c:D)(us:aa D),us.length=ps.length->nR (FD m fT st kV d pm a b c) #v[us,[]]=pure (ps.zip us)
def pS{p}(h:∀kV e pm b c d u,nR (FD m fT st kV e pm b c d) #v[[u],[]]=pure ([p].zip [u])):HB m fT st [p]:=by intro _ _ _ _ _ _ us a;(iterate 1 rcases us with _|⟨_,us⟩;cases a;replace a:=sA a);cases us;exact h ..;cases a
def i4{b c}(h:∀kV j pm f g i d e,nR (FD m fT st kV j pm f g i) #v[[d,e],[]]=pure ([b,c].zip [d,e])):HB m fT st [b,c]:=by intro _ _ _ _ _ _ us a;(iterate 2 rcases us with _|⟨_,us⟩;cases a;replace a:=sA a);cases us;exact h ..;cases a
def i5{b c d}(h:∀kV l pm i j k e f g,nR (FD m fT st kV l pm i j k) #v[[e,f,g],[]]=pure ([b,c,d].zip [e,f,g])):HB m fT st [b,c,d]:=by intro _ _ _ _ _ _ us a;(iterate 3 rcases us with _|⟨_,us⟩;cases a;replace a:=sA a);cases us;exact h ..;cases a
def og{b c d e}(h:∀kV o pm k l n f g i j,nR (FD m fT st kV o pm k l n) #v[[f,g,i,j],[]]=pure ([b,c,d,e].zip [f,g,i,j])):HB m fT st [b,c,d,e]:=by intro _ _ _ _ _ _ us a;(iterate 4 rcases us with _|⟨_,us⟩;cases a;replace a:=sA a);cases us;exact h ..;cases a
def wK{b c d e f}(h:∀kV q pm n o p g i j k l,nR (FD m fT st kV q pm n o p) #v[[g,i,j,k,l],[]]=pure ([b,c,d,e,f].zip [g,i,j,k,l])):HB m fT st [b,c,d,e,f]:=by intro _ _ _ _ _ _ us a;(iterate 5 rcases us with _|⟨_,us⟩;cases a;replace a:=sA a);cases us;exact h ..;cases a
def IE{b c d e f g}(h:∀kV s pm p q r i j k l n o,nR (FD m fT st kV s pm p q r) #v[[i,j,k,l,n,o],[]]=pure ([b,c,d,e,f,g].zip [i,j,k,l,n,o])):HB m fT st [b,c,d,e,f,g]:=by intro _ _ _ _ _ _ us a;(iterate 6 rcases us with _|⟨_,us⟩;cases a;replace a:=sA a);cases us;exact h ..;cases a
def cG{n kV g pm b e:D}{o d:ab U}{p:ae (ab D)}(a:ke K (.ref C) m=O (O (.ref f)))(i:uU K (.ref f)=ai)(l:K.lookup f=O #v[n,o,.func (nS m fT (pR st) (mW st) (j st) .none kV g pm d b e),p])(c:uX K b fT=ai)(k:mc K (.ref f)=ai)(h:HB m fT st ps:=by first|exact Br.pS (by intros;rfl)|exact Br.i4 (by intros;rfl)|exact Br.i5 (by intros;rfl)|exact Br.og (by intros;rfl)|exact Br.wK (by intros;rfl)|exact Br.IE (by intros;rfl)):cA K C m fT st ps f (FD m fT st kV g pm d b e):=#v[wx l c k,#v[a,i,k],(wx (st:=st) l c k).binds h]
def ey{n kV g pm b e:D}{o d:ab U}{p:ae (ab D)}(X:K.In h)(G:h.Ns dA mg)(a:eZ K dA x=O (O (.ref f)))(l:K.lookup f=O #v[n,o,.func (nS x x (pR st) (mW st) (j st) .none kV g pm d b e),p])(c:uX K b x=ai)(k:mc K (.ref f)=ai)(i:HB x x st ps:=by first|exact Br.pS (by intros;rfl)|exact Br.i4 (by intros;rfl)|exact Br.i5 (by intros;rfl)|exact Br.og (by intros;rfl)|exact Br.wK (by intros;rfl)|exact Br.IE (by intros;rfl)):ed K mg x st ps f (FD x x st kV g pm d b e):=#v[wx l c k,E8 X G a,(wx (st:=st) l c k).binds i,λs us m=>.of_eq (i _ _ _ _ _ _ us m)]
def ez{P:Prop}{a:U}{b:bV}(t:ed K mg x st ps a b)(k:∀A:FA,ed K mg x st ps A.f A.fd->P):P:=k #v[a,b] t
def kz(X:K.In h)(G:h.Ns dA mg)(a:eZ K dA x=O aj:=by k_is):mg x=aj:=PySem.W.mg_none_of X G a
def int_mk{i:Int}{t:gf}(X:K.In h)(G:h.Ns dA mg)(a:eZ K dA x=O (O (.int i t)):=by k_is):ei mg x i:=#v[t,E8 X G a]
def oh(X:K.In h)(G:h.Ns dA mg)(a:eZ K dA x=O (O (.ref C)))(k:uT K C Str.empty=ai)(d:Ae K C=ai)(l:EH K C=ai)(m:ke K (.ref C) "__setattr__"=O (O (.builtin "object.__setattr__")))(j:EJ K C=ai)(i:ke K (.ref C) "__init__"=O (O (.ref f)))(g:uU K (.ref f)=ai)(e:mc K (.ref C)=ai)(b:ke K (.ref C) "__eq__"=O (O (.builtin "object.__eq__")))(c:PySem.W.mroIn K C (.type "object")=O ai):k8 K mg x C f:=#v[#v[k,d,l,m],#v[j,i,g,e],E8 X G a,#v[b,c]]
def bD{b P:aa M}{a:fO}(h:(a.kind=.function/\a.isCoroutine=ax/\a.isGenerator=ax/\b.Nodup/\b.take P.length=P)/\(∀x∈P,a.names.lookup x=O .local\/a.names.lookup x=O .cell)/\∀c∈a.names,c.2≠ .free:=by decide+kernel):W b P a:=#v[h.1.1,h.1.2.1,h.1.2.2.1,h.1.2.2.2.1,h.1.2.2.2.2,h.2.1,h.2.2]
end
section
variable(K:bj)(mg:M->ab D)
abbrev IF:a_:=cH (bE 9) 0
def UQ:W ["self","number","side","weight"] ["self","number","side","weight"] (j IF):=bD
abbrev IG:a_:=cH (bE 9) 1
def IH:W ["self","other"] ["self"] (j IG):=bD
structure wL where
 (C dj m1:U)
 (ee m2:bV)
structure wM(C dj m1:U)(ee m2:bV):Prop where
 c:k8 K mg "Vehicle" C dj
 m3:dI K C "number"
 rd:dI K C "side"
 rf:dI K C "weight"
 gU:dI K C "status"
 jB:dI K C "cell"
 rg:dI K C "ended"
 ft:cA K C "__init__" "Vehicle.__init__" IF ["self","number","side","weight"] dj ee
 rh:cA K C "twin" "Vehicle.twin" IG ["self"] m1 m2
abbrev II(A:wL):Prop:=wM K mg A.C A.dj A.m1 A.ee A.m2
def UR{P:Prop}{K:bj}{mg:M->ab D}{a b c:U}{d e:bV}(t:wM K mg a b c d e)(k:∀A,II K mg A->P):P:=k #v[a,b,c,d,e] t
abbrev IJ:a_:=cH (bE 13) 0
def US:W ["self","turn","sizes","limits"] ["self","turn","sizes","limits"] (j IJ):=bD
abbrev IK:a_:=cH (bE 13) 1
def UT:W ["self"] ["self"] (j IK):=bD
abbrev IL:a_:=cH (bE 13) 2
def UU:W ["self"] ["self"] (j IL):=bD
abbrev IM:a_:=cH (bE 13) 3
def IP:W ["self","side","weight","vehicle"] ["self","side","weight"] (j IM):=bD
abbrev IQ:a_:=cH (bE 13) 4
def UW:W ["self","vehicle","status"] ["self","vehicle","status"] (j IQ):=bD
abbrev IS:a_:=cH (bE 13) 5
def pT:W ["self","limits","least","heavier","vehicle","v"] ["self","limits"] (j IS):=bD
abbrev IT:a_:=cH (bE 13) 6
def IU:W ["self","may_enter","left"] ["self","may_enter"] (j IT):=bD
abbrev IV:a_:=cH (bE 13) 7
def UX:W ["self"] ["self"] (j IV):=bD
abbrev IW:a_:=cH (bE 13) 8
def tZ:W ["self","left","ahead","vehicle","cell"] ["self"] (j IW):=bD
abbrev IX:a_:=cH (bE 13) 9
def wN:W ["self","queue","vehicle","cell"] ["self"] (j IX):=bD
abbrev IY:a_:=cH (bE 13) 10
def UY:W ["self","side"] ["self","side"] (j IY):=bD
abbrev IZ:a_:=cH (bE 13) 11
def I0:W ["self","vehicle","cell"] ["self","vehicle"] (j IZ):=bD
abbrev I1:a_:=cH (bE 13) 12
def rj:W ["self","cell","weight","span_before","ahead","span","there","v"] ["self","cell","weight","span_before","ahead"] (j I1):=bD
abbrev I2:a_:=cH (bE 13) 13
def CN:W ["self","there","vehicle"] ["self"] (j I2):=bD
abbrev I3:a_:=cH (bE 13) 14
def wQ:W ["self","there","span"] ["self"] (j I3):=bD
abbrev I4:a_:=cH (bE 13) 15
def rk:W ["self","other","v","queue"] ["self"] (j I4):=bD
abbrev I5:a_:=cH (bE 13) 16
def CO:W ["self","number","may_enter","other","vehicle"] ["self","number","may_enter"] (j I5):=bD
structure wR where
 (C dj wU wV wX wY wZ m4 w0 w1 w2 w3 w5 w6 w7 w8 m1 w9:U)
 (ee w_ xa xb xc xf m5 xg xh xi xj xk xl xm xn m2 xo:bV)
structure xp(C dj wU wV wX wY wZ m4 w0 w1 w2 w3 w5 w6 w7 w8 m1 w9:U)(ee w_ xa xb xc xf m5 xg xh xi xj xk xl xm xn m2 xo:bV):Prop where
 c:k8 K mg "Lane" C dj
 CP:dI K C "turn"
 xq:dI K C "sizes"
 oj:dI K C "cell_spans"
 rl:dI K C "limits"
 k_:dI K C "time"
 m6:dI K C "open_side"
 pU:dI K C "entered"
 hQ:dI K C "vehicles"
 kC:dI K C "waiting"
 i6:dI K C "crossing"
 ft:cA K C "__init__" "Lane.__init__" IJ ["self","turn","sizes","limits"] dj ee
 CQ:cA K C "least_limit" "Lane.least_limit" IK ["self"] wU w_
 I6:cA K C "how_many_wait" "Lane.how_many_wait" IL ["self"] wV xa
 I7:cA K C "join_queue" "Lane.join_queue" IM ["self","side","weight"] wX xb
 CS:cA K C "leave_queue" "Lane.leave_queue" IQ ["self","vehicle","status"] wY xc
 I8:cA K C "change_limits" "Lane.change_limits" IS ["self","limits"] wZ xf
 pV:cA K C "tick" "Lane.tick" IT ["self","may_enter"] m4 m5
 CT:cA K C "is_turn_over" "Lane.is_turn_over" IV ["self"] w0 xg
 I9:cA K C "move_on" "Lane.move_on" IW ["self"] w1 xh
 I_:cA K C "let_first_enter" "Lane.let_first_enter" IX ["self"] w2 xi
 Ja:cA K C "first_cell" "Lane.first_cell" IY ["self","side"] w3 xj
 Jb:cA K C "next_cell" "Lane.next_cell" IZ ["self","vehicle"] w5 xk
 CU:cA K C "has_room" "Lane.has_room" I1 ["self","cell","weight","span_before","ahead"] w6 xl
 CV:cA K C "who_by_span" "Lane.who_by_span" I2 ["self"] w7 xm
 Jc:cA K C "span_loads" "Lane.span_loads" I3 ["self"] w8 xn
 rh:cA K C "twin" "Lane.twin" I4 ["self"] m1 m2
 Jd:cA K C "ticks_till_left" "Lane.ticks_till_left" I5 ["self","number","may_enter"] w9 xo
abbrev Je(A:wR):Prop:=xp K mg A.C A.dj A.wU A.wV A.wX A.wY A.wZ A.m4 A.w0 A.w1 A.w2 A.w3 A.w5 A.w6 A.w7 A.w8 A.m1 A.w9 A.ee A.w_ A.xa A.xb A.xc A.xf A.m5 A.xg A.xh A.xi A.xj A.xk A.xl A.xm A.xn A.m2 A.xo
def UZ{P:Prop}{K:bj}{mg:M->ab D}{a b l m n o p q r s c d e f g h i j:U}{u v H I J L N Q R S w x y z B C E:bV}(t:xp K mg a b l m n o p q r s c d e f g h i j u v H I J L N Q R S w x y z B C E)(k:∀A,Je K mg A->P):P:=k #v[a,b,l,m,n,o,p,q,r,s,c,d,e,f,g,h,i,j,u,v,H,I,J,L,N,Q,R,S,w,x,y,z,B,C,E] t
abbrev Jf:a_:=cH (bE 15) 0
def U0:W ["self"] ["self"] (j Jf):=bD
abbrev Jg:a_:=cH (bE 15) 1
def rm:W ["self","day","time","vehicles_by_span","span","vehicles","load","v"] ["self","day","time","vehicles_by_span"] (j Jg):=bD
abbrev Jh:a_:=cH (bE 15) 2
def rn:W ["self","day","spans","key","span"] ["self","day"] (j Jh):=bD
structure xr where
 (C dj xt xu:U)
 (ee xw xx:bV)
structure xy(C dj xt xu:U)(ee xw xx:bV):Prop where
 c:k8 K mg "Book" C dj
 lP:dI K C "lines"
 ft:cA K C "__init__" "Book.__init__" Jf ["self"] dj ee
 Ji:cA K C "write_tick" "Book.write_tick" Jg ["self","day","time","vehicles_by_span"] xt xw
 Jj:cA K C "lines_of_day" "Book.lines_of_day" Jh ["self","day"] xu xx
abbrev Jk(A:xr):Prop:=xy K mg A.C A.dj A.xt A.xu A.ee A.xw A.xx
def U1{P:Prop}{K:bj}{mg:M->ab D}{a b c d:U}{e f g:bV}(t:xy K mg a b c d e f g)(k:∀A,Jk K mg A->P):P:=k #v[a,b,c,d,e,f,g] t
abbrev Jl:a_:=cH (bE 24) 0
def U2:W ["self","kind","part","day","crack","about"] ["self","kind","part","day","crack","about"] (j Jl):=bD
structure xA where
 (C dj:U)
 (ee:bV)
structure xB(C dj:U)(ee:bV):Prop where
 c:k8 K mg "Entry" C dj
 t5:dI K C "kind"
 ro:dI K C "part"
 pW:dI K C "day"
 pX:dI K C "crack"
 CW:dI K C "about"
 ft:cA K C "__init__" "Entry.__init__" Jl ["self","kind","part","day","crack","about"] dj ee
abbrev Jm(A:xA):Prop:=xB K mg A.C A.dj A.ee
def U3{P:Prop}{K:bj}{mg:M->ab D}{a b:U}{c:bV}(t:xB K mg a b c)(k:∀A,Jm K mg A->P):P:=k #v[a,b,c] t
abbrev Jn:a_:=cH (bE 25) 0
def U4:W ["self","source","crack","bears"] ["self","source","crack","bears"] (j Jn):=bD
structure xC where
 (C dj:U)
 (ee:bV)
structure xD(C dj:U)(ee:bV):Prop where
 c:k8 K mg "Known" C dj
 CY:dI K C "source"
 pX:dI K C "crack"
 xE:dI K C "bears"
 ft:cA K C "__init__" "Known.__init__" Jn ["self","source","crack","bears"] dj ee
abbrev Jo(A:xC):Prop:=xD K mg A.C A.dj A.ee
def U5{P:Prop}{K:bj}{mg:M->ab D}{a b:U}{c:bV}(t:xD K mg a b c)(k:∀A,Jo K mg A->P):P:=k #v[a,b,c] t
abbrev Jp:a_:=cH (bE 26) 0
def U6:W ["self","parts"] ["self","parts"] (j Jp):=bD
abbrev Jq:a_:=cH (bE 26) 1
def U7:W ["self","kind","part","day","crack"] ["self","kind","part","day","crack"] (j Jq):=bD
abbrev Jr:a_:=cH (bE 26) 2
def Js:W ["self","kind","about","crack","earlier"] ["self","kind","about","crack"] (j Jr):=bD
abbrev Jt:a_:=cH (bE 26) 3
def U8:W ["self","entry"] ["self","entry"] (j Jt):=bD
abbrev Ju:a_:=cH (bE 26) 4
def xF:W ["self","n","says","number","entry"] ["self","n"] (j Ju):=bD
abbrev Jv:a_:=cH (bE 26) 5
def U9:W ["self"] ["self"] (j Jv):=bD
abbrev Jw:a_:=cH (bE 26) 6
def t6:W ["self","says","day","sources","number","entry","source"] ["self","says","day"] (j Jw):=bD
abbrev Jx:a_:=cH (bE 26) 7
def t7:W ["self","says","day","sources","part","source"] ["self","says","day"] (j Jx):=bD
abbrev Jy:a_:=cH (bE 26) 8
def xG:W ["self","says","part","source","day","sound","cost","crack"] ["self","says","part","source","day"] (j Jy):=bD
abbrev Jz:a_:=cH (bE 26) 9
def U_:W ["self","says","part","source","day"] ["self","says","part","source","day"] (j Jz):=bD
abbrev JA:a_:=cH (bE 26) 10
def JB:W ["self","part","days","growth"] ["self","part","days"] (j JA):=bD
abbrev JC:a_:=cH (bE 26) 11
def CZ:W ["self","says","day","known"] ["self","says","day"] (j JC):=bD
abbrev JD:a_:=cH (bE 26) 12
def Va:W ["self","says","day"] ["self","says","day"] (j JD):=bD
abbrev JE:a_:=cH (bE 26) 13
def pY:W ["self","much","says","soonest","latest","middle"] ["self","much"] (j JE):=bD
abbrev JF:a_:=cH (bE 26) 14
def xH:W ["self","days","number","entry"] ["self"] (j JF):=bD
abbrev JG:a_:=cH (bE 26) 15
def xI:W ["self","days","part","day"] ["self","days"] (j JG):=bD
abbrev JH:a_:=cH (bE 26) 16
def xJ:W ["self","day","posted_day","limit"] ["self","day"] (j JH):=bD
abbrev JI:a_:=cH (bE 26) 17
def t8:W ["self","first","last","says","wrong","day","excess"] ["self","first","last"] (j JI):=bD
abbrev JJ:a_:=cH (bE 26) 18
def Vb:W ["self","days"] ["self","days"] (j JJ):=bD
abbrev JK:a_:=cH (bE 26) 19
def Vc:W ["self","limit"] ["self","limit"] (j JK):=bD
structure xK where
 (C dj xM xN xO xP xQ xR xS xT xU xV xW xX xY xZ x3 x4 x5 x6 x7:U)
 (ee x8 x9 x_ ya yb yc yd ye yf yg yh yi yj yk yl ym yn yo yp:bV)
structure yq(C dj xM xN xO xP xQ xR xS xT xU xV xW xX xY xZ x3 x4 x5 x6 x7:U)(ee x8 x9 x_ ya yb yc yd ye yf yg yh yi yj yk yl ym yn yo yp:bV):Prop where
 c:k8 K mg "Records" C dj
 om:dI K C "parts"
 i7:dI K C "today"
 ie:dI K C "entries"
 t9:dI K C "postings"
 ft:cA K C "__init__" "Records.__init__" Jp ["self","parts"] dj ee
 JL:cA K C "enter_crack" "Records.enter_crack" Jq ["self","kind","part","day","crack"] xM x8
 C0:cA K C "enter_change" "Records.enter_change" Jr ["self","kind","about","crack"] xN x9
 C1:cA K C "enter" "Records.enter" Jt ["self","entry"] xO x_
 yr:cA K C "counting" "Records.counting" Ju ["self","n"] xP ya
 oo:cA K C "counting_now" "Records.counting_now" Jv ["self"] xQ yb
 JM:cA K C "sources_on" "Records.sources_on" Jw ["self","says","day"] xR yc
 yt:cA K C "known_on" "Records.known_on" Jx ["self","says","day"] xS yd
 C2:cA K C "known_by" "Records.known_by" Jy ["self","says","part","source","day"] xT ye
 JN:cA K C "crack_by" "Records.crack_by" Jz ["self","says","part","source","day"] xU yf
 C3:cA K C "grown" "Records.grown" JA ["self","part","days"] xV yg
 yu:cA K C "all_bear" "Records.all_bear" JC ["self","says","day"] xW yh
 yw:cA K C "limit_on" "Records.limit_on" JD ["self","says","day"] xX yi
 JO:cA K C "days_till_below" "Records.days_till_below" JE ["self","much"] xY yj
 JP:cA K C "last_days_found" "Records.last_days_found" JF ["self"] xZ yk
 JQ:cA K C "due_parts" "Records.due_parts" JG ["self","days"] x3 yl
 JR:cA K C "posted_on" "Records.posted_on" JH ["self","day"] x4 ym
 JS:cA K C "wrong_days" "Records.wrong_days" JI ["self","first","last"] x5 yn
 JT:cA K C "pass_days" "Records.pass_days" JJ ["self","days"] x6 yo
 JU:cA K C "post" "Records.post" JK ["self","limit"] x7 yp
abbrev JV(A:xK):Prop:=yq K mg A.C A.dj A.xM A.xN A.xO A.xP A.xQ A.xR A.xS A.xT A.xU A.xV A.xW A.xX A.xY A.xZ A.x3 A.x4 A.x5 A.x6 A.x7 A.ee A.x8 A.x9 A.x_ A.ya A.yb A.yc A.yd A.ye A.yf A.yg A.yh A.yi A.yj A.yk A.yl A.ym A.yn A.yo A.yp
def Vd{P:Prop}{K:bj}{mg:M->ab D}{a b n p q r s u v w c d e f g h i j l m o:U}{x y R S T V W X Y Z z B C E H I J L N Q:bV}(t:yq K mg a b n p q r s u v w c d e f g h i j l m o x y R S T V W X Y Z z B C E H I J L N Q)(k:∀A,JV K mg A->P):P:=k #v[a,b,n,p,q,r,s,u,v,w,c,d,e,f,g,h,i,j,l,m,o,x,y,R,S,T,V,W,X,Y,Z,z,B,C,E,H,I,J,L,N,Q] t
abbrev JW:a_:=cH (bE 29) 0
def JX:W ["self","turn","spans","sizes","sound","costs","growths"] ["self","turn","spans"] (j JW):=bD
abbrev JY:a_:=cH (bE 29) 1
def yx:W ["self","bearing","much"] ["self"] (j JY):=bD
abbrev JZ:a_:=cH (bE 29) 2
def Ve:W ["self"] ["self"] (j JZ):=bD
abbrev J0:a_:=cH (bE 29) 3
def Vf:W ["self"] ["self"] (j J0):=bD
abbrev J1:a_:=cH (bE 29) 4
def J2:W ["self","may_enter","left"] ["self","may_enter"] (j J1):=bD
abbrev J3:a_:=cH (bE 29) 5
def C4:W ["self","many","left","number"] ["self","many"] (j J3):=bD
abbrev J4:a_:=cH (bE 29) 6
def J5:W ["self","left"] ["self"] (j J4):=bD
abbrev J6:a_:=cH (bE 29) 7
def Vg:W ["self","days"] ["self","days"] (j J6):=bD
abbrev J7:a_:=cH (bE 29) 8
def Vh:W ["self","vehicle"] ["self","vehicle"] (j J7):=bD
abbrev J8:a_:=cH (bE 29) 9
def t_:W ["self","says","exposed","key","excess"] ["self"] (j J8):=bD
structure yy where
 (C dj yz yA yB m4 yC yD yE yF yG:U)
 (ee yH yI yJ m5 yK yL yM yN yO:bV)
structure yP(C dj yz yA yB m4 yC yD yE yF yG:U)(ee yH yI yJ m5 yK yL yM yN yO:bV):Prop where
 c:k8 K mg "Bridge" C dj
 fB:dI K C "records"
 gV:dI K C "lane"
 rp:dI K C "book"
 yQ:dI K C "shut_by_hand"
 ua:dI K C "closed"
 ft:cA K C "__init__" "Bridge.__init__" JW ["self","turn","spans"] dj ee
 yR:cA K C "post_today" "Bridge.post_today" JY ["self"] yz yH
 J9:cA K C "last_posted" "Bridge.last_posted" JZ ["self"] yA yI
 yS:cA K C "is_shut" "Bridge.is_shut" J0 ["self"] yB yJ
 pV:cA K C "tick" "Bridge.tick" J1 ["self","may_enter"] m4 m5
 J_:cA K C "tick_by_day" "Bridge.tick_by_day" J3 ["self","many"] yC yK
 Ka:cA K C "clear_lane" "Bridge.clear_lane" J4 ["self"] yD yL
 Kb:cA K C "begin_day" "Bridge.begin_day" J6 ["self","days"] yE yM
 Kc:cA K C "will_leave" "Bridge.will_leave" J7 ["self","vehicle"] yF yN
 Kd:cA K C "exposed_lines" "Bridge.exposed_lines" J8 ["self"] yG yO
abbrev Ke(A:yy):Prop:=yP K mg A.C A.dj A.yz A.yA A.yB A.m4 A.yC A.yD A.yE A.yF A.yG A.ee A.yH A.yI A.yJ A.m5 A.yK A.yL A.yM A.yN A.yO
def Vi{P:Prop}{K:bj}{mg:M->ab D}{a b d e f g h i j l c:U}{m n o p q r s u v w:bV}(t:yP K mg a b d e f g h i j l c m n o p q r s u v w)(k:∀A,Ke K mg A->P):P:=k #v[a,b,d,e,f,g,h,i,j,l,c,m,n,o,p,q,r,s,u,v,w] t
abbrev Kf:a_:=cH (bE 33) 0
def Vj:W ["self","calls"] ["self","calls"] (j Kf):=bD
abbrev Kg:a_:=cH (bE 33) 1
def Vk:W ["self","turn","spans"] ["self","turn","spans"] (j Kg):=bD
abbrev Kh:a_:=cH (bE 33) 2
def Vl:W ["self"] ["self"] (j Kh):=bD
abbrev Ki:a_:=cH (bE 33) 3
def Kj:W ["self","number"] ["self"] (j Ki):=bD
abbrev Kk:a_:=cH (bE 33) 4
def C5:W ["self","size","start"] ["self"] (j Kk):=bD
structure yT where
 (C dj yU yV yW yX:U)
 (ee yY yZ y0 y1:bV)
structure y2(C dj yU yV yW yX:U)(ee yY yZ y0 y1:bV):Prop where
 c:k8 K mg "Session" C dj
 y3:dI K C "calls"
 pZ:dI K C "position"
 fu:dI K C "bridge"
 ft:cA K C "__init__" "Session.__init__" Kf ["self","calls"] dj ee
 C6:cA K C "begin_bridge" "Session.begin_bridge" Kg ["self","turn","spans"] yU yY
 Kl:cA K C "is_done" "Session.is_done" Kh ["self"] yV yZ
 eK:cA K C "take" "Session.take" Ki ["self"] yW y0
 Km:cA K C "take_row" "Session.take_row" Kk ["self"] yX y1
abbrev Kn(A:yT):Prop:=y2 K mg A.C A.dj A.yU A.yV A.yW A.yX A.ee A.yY A.yZ A.y0 A.y1
def Vm{P:Prop}{K:bj}{mg:M->ab D}{a b c d e f:U}{g h i j l:bV}(t:y2 K mg a b c d e f g h i j l)(k:∀A,Kn K mg A->P):P:=k #v[a,b,c,d,e,f,g,h,i,j,l] t
abbrev Ko:a_:=bE 10
abbrev Kp(f:U)(a:bV):Prop:=ed K mg "weight_together" Ko ["vehicles"] f a
def C7:W ["vehicles","v"] ["vehicles"] (j Ko):=bD
abbrev Kq:a_:=bE 11
abbrev Kr(f:U)(a:bV):Prop:=ed K mg "twins_of" Kq ["some","twins"] f a
def C8:W ["some","twins","v"] ["some","twins"] (j Kq):=bD
abbrev Ks:a_:=bE 12
abbrev Kt(f:U)(a:bV):Prop:=ed K mg "spans_cell_by_cell" Ks ["sizes"] f a
def y4:W ["sizes","spans","span","size"] ["sizes"] (j Ks):=bD
abbrev Ku:a_:=bE 55
abbrev Kv(f:U)(a:bV):Prop:=ed K mg "with_length" Ku ["numbers"] f a
def Vn:W ["numbers"] ["numbers"] (j Ku):=bD
abbrev Kw:a_:=bE 56
abbrev Kx(f:U)(a:bV):Prop:=ed K mg "one_behind_another" Kw ["things"] f a
def C9:W ["things","numbers","thing"] ["things"] (j Kw):=bD
abbrev Ky:a_:=bE 57
abbrev Kz(f:U)(a:bV):Prop:=ed K mg "are_spans" Ky ["numbers"] f a
def rq:W ["numbers","many","place","number","least","most"] ["numbers"] (j Ky):=bD
abbrev KA:a_:=bE 58
abbrev KC(f:U)(a:bV):Prop:=ed K mg "answer_begins" KA ["session"] f a
def C_:W ["session","turn","spans"] ["session"] (j KA):=bD
abbrev KD:a_:=bE 59
abbrev KG(f:U)(a:bV):Prop:=ed K mg "answer_day" KD ["session"] f a
def ub:W ["session","days","bridge","left","sent_away"] ["session"] (j KD):=bD
abbrev KH:a_:=bE 60
abbrev KI(f:U)(a:bV):Prop:=ed K mg "is_posted_out" KH ["bridge"] f a
def Vo:W ["bridge"] ["bridge"] (j KH):=bD
abbrev KJ:a_:=bE 61
abbrev KL(f:U)(a:bV):Prop:=ed K mg "is_file_full" KJ ["records"] f a
def Vp:W ["records"] ["records"] (j KJ):=bD
abbrev KN:a_:=bE 62
abbrev KO(f:U)(a:bV):Prop:=ed K mg "answer_found" KN ["session"] f a
def y5:W ["session","part","day","crack"] ["session"] (j KN):=bD
abbrev KP:a_:=bE 63
abbrev KQ(f:U)(a:bV):Prop:=ed K mg "answer_mended" KP ["session"] f a
def Dc:W ["session","part","day"] ["session"] (j KP):=bD
abbrev KR:a_:=bE 64
abbrev KS(f:U)(a:bV):Prop:=ed K mg "enter_crack" KR ["records","kind","part","day","crack"] f a
def Vq:W ["records","kind","part","day","crack"] ["records","kind","part","day","crack"] (j KR):=bD
abbrev KU:a_:=bE 65
abbrev KW(f:U)(a:bV):Prop:=ed K mg "answer_strike" KU ["session"] f a
def Dd:W ["session","about","records"] ["session"] (j KU):=bD
abbrev KY:a_:=bE 66
abbrev KZ(f:U)(a:bV):Prop:=ed K mg "answer_right" KY ["session"] f a
def y6:W ["session","about","crack","records"] ["session"] (j KY):=bD
abbrev K0:a_:=bE 67
abbrev K1(f:U)(a:bV):Prop:=ed K mg "answer_post" K0 ["session"] f a
def De:W ["session","bridge","sent_away"] ["session"] (j K0):=bD
abbrev K2:a_:=bE 68
abbrev K3(f:U)(a:bV):Prop:=ed K mg "answer_comes" K2 ["session"] f a
def y7:W ["session","side","weight","lane"] ["session"] (j K2):=bD
abbrev K4:a_:=bE 69
abbrev K5(f:U)(a:bV):Prop:=ed K mg "answer_gives" K4 ["session"] f a
def y8:W ["session","number","lane","vehicle"] ["session"] (j K4):=bD
abbrev K6:a_:=bE 70
abbrev K7(f:U)(a:bV):Prop:=ed K mg "answer_ticks" K6 ["session"] f a
def y9:W ["session","many","bridge","left"] ["session"] (j K6):=bD
abbrev K8:a_:=bE 71
abbrev K9(f:U)(a:bV):Prop:=ed K mg "answer_shut" K8 ["session"] f a
def Df:W ["session","hand","bridge"] ["session"] (j K8):=bD
abbrev K_:a_:=bE 72
abbrev La(f:U)(a:bV):Prop:=ed K mg "answer_where" K_ ["session"] f a
def p0:W ["session","number","lane","vehicle","more"] ["session"] (j K_):=bD
abbrev Lb:a_:=bE 73
abbrev Lc(f:U)(a:bV):Prop:=ed K mg "answer_when" Lb ["session"] f a
def Dg:W ["session","number","bridge"] ["session"] (j Lb):=bD
abbrev Ld:a_:=bE 74
abbrev Le(f:U)(a:bV):Prop:=ed K mg "answer_loads" Ld ["session"] f a
def Lf:W ["session","lane"] ["session"] (j Ld):=bD
abbrev Lg:a_:=bE 75
abbrev Lh(f:U)(a:bV):Prop:=ed K mg "answer_queue" Lg ["session"] f a
def y_:W ["session","side","numbers","v"] ["session"] (j Lg):=bD
abbrev Li:a_:=bE 76
abbrev Lj(f:U)(a:bV):Prop:=ed K mg "told_source" Li ["source"] f a
def Vr:W ["source"] ["source"] (j Li):=bD
abbrev Lk:a_:=bE 77
abbrev Ll(f:U)(a:bV):Prop:=ed K mg "is_beyond_file" Lk ["records","day","n"] f a
def Vs:W ["records","day","n"] ["records","day","n"] (j Lk):=bD
abbrev Lm:a_:=bE 78
abbrev Ln(f:U)(a:bV):Prop:=ed K mg "answer_known" Lm ["session"] f a
def rr:W ["session","part","day","n","records","known"] ["session"] (j Lm):=bD
abbrev Lo:a_:=bE 79
abbrev Lp(f:U)(a:bV):Prop:=ed K mg "answer_limit" Lo ["session"] f a
def oq:W ["session","day","n","records","known","bearing","weakest","each"] ["session"] (j Lo):=bD
abbrev Lq:a_:=bE 80
abbrev Lr(f:U)(a:bV):Prop:=ed K mg "answer_wrong" Lq ["session"] f a
def ot:W ["session","first","last","records","wrong","day","excess"] ["session"] (j Lq):=bD
abbrev Ls:a_:=bE 81
abbrev Lu(f:U)(a:bV):Prop:=ed K mg "answer_falls" Ls ["session"] f a
def Dh:W ["session","much","days"] ["session"] (j Ls):=bD
abbrev Lv:a_:=bE 82
abbrev Lw(f:U)(a:bV):Prop:=ed K mg "answer_due" Lv ["session"] f a
def Di:W ["session","days","parts"] ["session"] (j Lv):=bD
abbrev Lx:a_:=bE 83
abbrev Ly(f:U)(a:bV):Prop:=ed K mg "answer_exposed" Lx ["session"] f a
def p3:W ["session","bridge","exposed","who","day","span","excess"] ["session"] (j Lx):=bD
abbrev Lz:a_:=bE 84
abbrev LB(f:U)(a:bV):Prop:=ed K mg "answer_book" Lz ["session"] f a
def Dj:W ["session","day","lines"] ["session"] (j Lz):=bD
abbrev LC:a_:=bE 85
abbrev LD(f:U)(a:bV):Prop:=ed K mg "answer_state" LC ["session"] f a
def ou:W ["session","bridge","lane","now","spans","crossing","v"] ["session"] (j LC):=bD
abbrev LG:a_:=bE 87
abbrev LH(f:U)(a:bV):Prop:=ed K mg "answers" LG ["calls"] f a
def za:W ["calls","session","given","answer"] ["calls"] (j LG):=bD
structure bF where
 aP:wL
 ak:wR
 dZ:xr
 Entry:xA
 Known:xC
 aC:xK
 aF:yy
 aO:yT
 m7:FA
 ow:FA
 m8:FA
 fJ:FA
 lQ:FA
 p4:FA
 jC:FA
 jD:FA
 oA:FA
 m9:FA
 jE:FA
 jF:FA
 oB:FA
 jG:FA
 jH:FA
 jI:FA
 jJ:FA
 jK:FA
 jL:FA
 jM:FA
 jN:FA
 jO:FA
 jP:FA
 jQ:FA
 oC:FA
 oE:FA
 jR:FA
 jS:FA
 jT:FA
 jU:FA
 jV:FA
 jW:FA
 jX:FA
 jY:FA
 answers:FA
structure Txt(A:bF):Prop where
 aP:II K mg A.aP
 ak:Je K mg A.ak
 dZ:Jk K mg A.dZ
 Entry:Jm K mg A.Entry
 Known:Jo K mg A.Known
 aC:JV K mg A.aC
 aF:Ke K mg A.aF
 aO:Kn K mg A.aO
 m7:Kp K mg A.m7.f A.m7.fd
 ow:Kr K mg A.ow.f A.ow.fd
 m8:Kt K mg A.m8.f A.m8.fd
 fJ:Kv K mg A.fJ.f A.fJ.fd
 lQ:Kx K mg A.lQ.f A.lQ.fd
 p4:Kz K mg A.p4.f A.p4.fd
 jC:KC K mg A.jC.f A.jC.fd
 jD:KG K mg A.jD.f A.jD.fd
 oA:KI K mg A.oA.f A.oA.fd
 m9:KL K mg A.m9.f A.m9.fd
 jE:KO K mg A.jE.f A.jE.fd
 jF:KQ K mg A.jF.f A.jF.fd
 oB:KS K mg A.oB.f A.oB.fd
 jG:KW K mg A.jG.f A.jG.fd
 jH:KZ K mg A.jH.f A.jH.fd
 jI:K1 K mg A.jI.f A.jI.fd
 jJ:K3 K mg A.jJ.f A.jJ.fd
 jK:K5 K mg A.jK.f A.jK.fd
 jL:K7 K mg A.jL.f A.jL.fd
 jM:K9 K mg A.jM.f A.jM.fd
 jN:La K mg A.jN.f A.jN.fd
 jO:Lc K mg A.jO.f A.jO.fd
 jP:Le K mg A.jP.f A.jP.fd
 jQ:Lh K mg A.jQ.f A.jQ.fd
 oC:Lj K mg A.oC.f A.oC.fd
 oE:Ll K mg A.oE.f A.oE.fd
 jR:Ln K mg A.jR.f A.jR.fd
 jS:Lp K mg A.jS.f A.jS.fd
 jT:Lr K mg A.jT.f A.jT.fd
 jU:Lu K mg A.jU.f A.jU.fd
 jV:Lw K mg A.jV.f A.jV.fd
 jW:Ly K mg A.jW.f A.jW.fd
 jX:LB K mg A.jX.f A.jX.fd
 jY:LD K mg A.jY.f A.jY.fd
 answers:LH K mg A.answers.f A.answers.fd
 zb:ei mg "LEFT" 0
 Vt:ei mg "RIGHT" 1
 uc:ei mg "WAITS" 0
 Dk:ei mg "CROSSES" 1
 LI:ei mg "HAS_LEFT" 2
 Vu:ei mg "GAVE_UP" 3
 Vv:ei mg "SENT_AWAY" 4
 Dl:ei mg "OFF_THE_BRIDGE" (-1)
 Dm:ei mg "FOUND" 0
 Vw:ei mg "MENDED" 1
 LJ:ei mg "STRUCK" 2
 LK:ei mg "PUT_RIGHT" 3
 ud:ei mg "NO_SOURCE" (-1)
 Vx:ei mg "DAYS_IN_SIGHT" 131072
 LM:ei mg "NOT_IN_SIGHT" (-1)
 m_:ei mg "NUMBERS_OF_A_SPAN" 4
 Vy:ei mg "FIRST_TURN" 1
 jZ:ei mg "OUT_OF_RANGE" (-1)
 p5:ei mg "NOT_THERE" (-2)
 zc:ei mg "NOT_SO_NOW" (-4)
 rx:ei mg "FULL" (-5)
 Vz:ei mg "TOO_HEAVY" (-6)
 LN:ei mg "NEVER" (-6)
 VA:ei mg "CLOSED" (-7)
 VB:ei mg "MOST_TURN" 20
 VC:ei mg "MOST_SPANS" 12
 VE:ei mg "MOST_DAYS" 10000
 LO:ei mg "LAST_DAY" 100000
 LP:ei mg "MOST_CRACK" 1000
 VF:ei mg "MOST_WEIGHT" 1000
 VG:ei mg "MOST_TICKS" 1000
 VH:ei mg "MOST_ENTRIES" 60
 VI:ei mg "MOST_VEHICLES" 60
 VJ:ei mg "MOST_POSTINGS" 60
 VL:ei mg "MOST_DAYS_BETWEEN" 500
 VM:ei mg "MOST_LIMIT" 1000
 VN:mg "any"=aj
 ue:mg "enumerate"=aj
 dW:mg "len"=aj
 Dn:mg "list"=aj
 zd:mg "max"=aj
 uf:mg "min"=aj
 Dp:mg "range"=aj
 VO:mg "set"=aj
 Dq:mg "sorted"=aj
 VP:mg "sum"=aj
 VQ:mg "tuple"=aj
 LQ:mg "zip"=aj
end
end Br
variable{P:cx}{w:bR}{K:bj}{mg:M->ab D}{aJ:aZ}{A:Br.bF}
namespace L2
section
variable{X:Cx}{o e e' my:bx}{es:aa bx}{x m:M}{p a8 kj fj:c7}{ta te Qx:TE}{t:TA}{C f f0:U}{fd:bV}{ps:aa M}{sp:Sp}{k n:Nat}{i:Int}{st:a_}{fT:M}{pl:gg Bool}
def bB(n:Nat)(h:n<=16777216:=by decide):n<=bu:=by rw[bZ];exact h
def ba(i:Nat)(a:X.N.Nodup)(b:PE X e te)(d:X.N[i]? =O x:=by rfl)(g:Loc X.env.scope x:=by exact cB I)(f:oZ e (O (.Name x kj)) a8.line X.env=pure ax:=by rfl)(c:X.fn x=ai\/X.env.scope.names.lookup x=O .local:=by first|exact .inl rfl|exact .inr rfl|assumption):PS X (.Assign [.Name x kj] e a8) (tp te (eh i)):=mO a d g b f c
def bG(h:Br.ei X.mg x i)(b:Gl X x:=by rfl)(a:(x==("__debug__":M))=ax:=by decide):PE X (.Name x a8) (tC (.int i)):=by obtain⟨t,e⟩:=h;exact s8 (v:=.int i) b e #v[t,I] a
def aQ(h:PE X e te)(a:cu [e] X.env=(ax,bU e X.env)::cu [] X.env:=by rfl):PA X [e] (eC te fo):=dm h gk a
def cv(h:PE X e te)(h':PE X e' Qx)(a:cu [e,e'] X.env=(ax,bU e X.env)::cu [e'] X.env:=by rfl)(b:cu [e'] X.env=(ax,bU e' X.env)::cu [] X.env:=by rfl):PA X [e,e'] (eC te (eC Qx fo)):=dm h (dm h' gk b) a
def dE(c:X.mg "len"=aj)(h:PE X e te)(b:Gl X "len":=by rfl)(a:cu [e] X.env=(ax,bU e X.env)::cu [] X.env:=by rfl):PE X (.Call (.Name "len" p) [e] [] a8) (q7 (Cb X.K) (eC te fo)):=iY S1 b c PySem.boot_len (dm h gk a) (by decide) (by decide) a I
def aX{f:M}(h:PE X e ta)(a:o3 e f X.env (bU e X.env)=bU e X.env:=by rfl):PE X (.Attribute e f a8) (fm X.K ta f):=He h a
def pm(g:PE X o ta)(c:Br.k8 X.K X.mg x C f0)(a:Br.cA X.K C m fT st ps f fd)(F:bf X.prog X.w X.K X.mg X.base bq k f fd ps sp)(i:ew k X.A)(d:PA X (e::es) t)(j:cu (e::es) X.env=(ax,bU e X.env)::cu es X.env:=by rfl)(h:(fF a8 (cu es X.env)).any (·.1)=ax:=by rfl)(l:bU (.Call (.Attribute o m fj) (e::es) [] a8) X.env=(do
   let b<-bU o X.env
   qz fj.atName
   let (f,first)<-l_ [b] (qD b m pl)
   qF a8 f first (fF a8 (cu (e::es) X.env)) (nO a8 (nP [] X.env))):=by rfl):
  PE X (.Call (.Attribute o m fj) (e::es) [] a8) (n6 C m sp [] E0 ta t):=Hi g c.cl a.me F i a.bi .nil g_ d j h l
def cD(d:PE X o ta)(c:Br.k8 X.K X.mg x C f0)(a:Br.cA X.K C m fT st ps f fd)(F:bf X.prog X.w X.K X.mg X.base bq k f fd ps sp)(e:ew k X.A)(g:bU (.Call (.Attribute o m fj) [] [] a8) X.env=(do
   let b<-bU o X.env
   qz fj.atName
   let (f,first)<-l_ [b] (qD b m pl)
   qF a8 f first (fF a8 (cu [] X.env)) (nO a8 (nP [] X.env))):=by rfl):
  PE X (.Call (.Attribute o m fj) [] [] a8) (n6 C m sp [] E0 ta fo):=Hj d c.cl a.me F e a.bi .nil g_ g
def ef(F:bf X.prog X.w X.K X.mg X.base bq k f fd ps sp)(i:ew k X.A)(a:Br.ed X.K X.mg x st ps f fd)(b:PA X (e::es) t)(g:Gl X x:=by rfl)(c:(x==("__debug__":M))=ax:=by decide)(d:cu (e::es) X.env=(ax,bU e X.env)::cu es X.env:=by rfl)(h:(fF a8 (cu es X.env)).any (·.1)=ax:=by rfl):PE X (.Call (.Name x p) (e::es) [] a8) (tF sp [] E0 t):=Hh F i g a.at_ a.fn.kp a.bi .nil g_ b c d h
end
def mX.bJ{P:cx}{w:bR}{K:bj}{mg:M->ab D}{aJ:aZ}{x c:M}{st:a_}{f:U}{e:bV}{b ps:aa M}{k:Nat}{sp:Sp}(F:mX K x c st f e)(S:W b ps (j st))(i:∀ {d:D}{A:cQ}{l:aa fi}{s:au}(H:Hp)(vs:aa V)(a:VK)(E:XK),ew k (A.deeper (md c (j st) s.heap.objs.size f d))->sp vs H a E->∃t,iG (pP bq P w K mg aJ b c (j st) f d A l s H E).tf (mW st) t/\t {nx:=λ_ g=>a .non g,rt:=a} (start b vs) H)(len:∀vs H a E,sp vs H a E->vs.length=ps.length:=by intro _ _ _ _ h;cases h;subst_vars;rfl):bf P w K mg aJ bq (k+1) f e ps sp:=F.ok S len λ_ _ _ _=>i
section
variable{X:Cx}{x f:M}{a8 kj:c7}{e:bx}{te:TE}
def a7(a:X.N[0]? =O x:=by rfl)(d:lH X.env.scope x:=by first|exact cB rfl|exact gb (cB rfl)|exact gb (gb rfl))(c:(x==("__debug__":M))=ax:=by decide)(b:(x==("__classdict__":M))=ax:=by decide):PE X (.Name x a8) (b8 0):=qY a d c b
def aS(a:X.N[1]? =O x:=by rfl)(d:lH X.env.scope x:=by first|exact cB rfl|exact gb (cB rfl)|exact gb (gb rfl))(c:(x==("__debug__":M))=ax:=by decide)(b:(x==("__classdict__":M))=ax:=by decide):PE X (.Name x a8) (b8 1):=qY a d c b
def aY(a:X.N[2]? =O x:=by rfl)(d:lH X.env.scope x:=by first|exact cB rfl|exact gb (cB rfl)|exact gb (gb rfl))(c:(x==("__debug__":M))=ax:=by decide)(b:(x==("__classdict__":M))=ax:=by decide):PE X (.Name x a8) (b8 2):=qY a d c b
def a0(a:X.N[0]? =O x:=by rfl)(e:lH X.env.scope x:=by first|exact cB rfl|exact gb (cB rfl)|exact gb (gb rfl))(d:(x==("__debug__":M))=ax:=by decide)(c:(x==("__classdict__":M))=ax:=by decide)(b:o3 (.Name x kj) f X.env (bU (.Name x kj) X.env)=bU (.Name x kj) X.env:=by rfl):PE X (.Attribute (.Name x kj) f a8) (fm X.K (b8 0) f):=He (qY a e d c) b
def bc(h:PE X e te):iG X [.Return (O e) a8] (tj te):=cR (R7 h)
end
end L2
variable(T:Br.Txt K mg A)
namespace Br
structure VD where
 side:Nat
 weight:Nat
 status:Nat
 cell:Nat
 ended:Nat
def fK(i:Nat)(d:VD):aa (M×V):=[("number",.int i),("side",.int d.side),("weight",.int d.weight),("status",.int d.status),("cell",.int d.cell),("ended",.int d.ended)]
def VR{i:Nat}{d:VD}:(fK i d).lookup ("number":M)=O (.int i):=by rfl
def LR{i:Nat}{d:VD}:(fK i d).lookup ("side":M)=O (.int d.side):=by rfl
def VS{i:Nat}{d:VD}:(fK i d).lookup ("weight":M)=O (.int d.weight):=by rfl
def kD{i:Nat}{d:VD}:(fK i d).lookup ("status":M)=O (.int d.status):=by rfl
def LS{i:Nat}{d:VD}:(fK i d).lookup ("cell":M)=O (.int d.cell):=by rfl
def LU{i:Nat}{d:VD}:(fK i d).lookup ("ended":M)=O (.int d.ended):=by rfl
structure LA where
 l:U
 sz:U
 cs:U
 lim:U
 bX:U
 wt:U
 q0:U
 q1:U
 cr:U
 vs:aa U
def cX(A:LA)(s:G):aa (M×V):=[("turn",.int s.turn),("sizes",.ref A.sz),("cell_spans",.ref A.cs),("limits",.ref A.lim),("time",.int s.time),("open_side",.int s.side),("entered",.int s.gone),("vehicles",.ref A.bX),("waiting",.ref A.wt),("crossing",.ref A.cr)]
def VT{A:LA}{s:G}:(cX A s).lookup ("turn":M)=O (.int s.turn):=by rfl
def LV{A:LA}{s:G}:(cX A s).lookup ("sizes":M)=O (.ref A.sz):=by rfl
def LW{A:LA}{s:G}:(cX A s).lookup ("limits":M)=O (.ref A.lim):=by rfl
def ug{A:LA}{s:G}:(cX A s).lookup ("time":M)=O (.int s.time):=by rfl
def LX{A:LA}{s:G}:(cX A s).lookup ("open_side":M)=O (.int s.side):=by rfl
def LY{A:LA}{s:G}:(cX A s).lookup ("entered":M)=O (.int s.gone):=by rfl
def lR{A:LA}{s:G}:(cX A s).lookup ("vehicles":M)=O (.ref A.bX):=by rfl
def Dr{A:LA}{s:G}:(cX A s).lookup ("waiting":M)=O (.ref A.wt):=by rfl
def Ds{A:LA}{s:G}:(cX A s).lookup ("crossing":M)=O (.ref A.cr):=by rfl
def p6(A:LA)(s:G):(cX A s).lookup ("cell_spans":M)=O (.ref A.cs):=by rfl
def VU(A:LA)(s:G):(cX A s).lookup ("sizes":M)=O (.ref A.sz):=by rfl
def LZ(A:LA)(s:G):(cX A s).lookup ("limits":M)=O (.ref A.lim):=by rfl
def oF(A:LA)(s:G):(cX A s).lookup ("crossing":M)=O (.ref A.cr):=by rfl
def p7(i:Nat)(d:VD):(fK i d).lookup ("cell":M)=O (.int d.cell):=by rfl
def ze(i:Nat)(d:VD):(fK i d).lookup ("weight":M)=O (.int d.weight):=by rfl
def Dt(i:Nat)(d:VD):(fK i d).lookup ("side":M)=O (.int d.side):=by rfl
def lS(C:U)(H:Hp)(p:U)(i:Nat)(d:VD):Prop:=∃dx,H p=O (.ins C dx (fK i d))
def j0(C:U)(H:Hp)(ps:aa U)(ds:aa (Nat×VD)):Prop:=ps.length=ds.length/\∀(j:Nat)(p:U)(d:Nat×VD),ps[j]? =O p->ds[j]? =O d->lS C H p d.1 d.2
def j0.same{C:U}{H a:Hp}{ps:aa U}{ds:aa (Nat×VD)}(v:j0 C H ps ds)(s:Z H a):j0 C a ps ds:=#v[v.1,λj p d b c=>let #v[dx,h]:=v.2 j p d b c;#v[dx,s _ _ h]]
def ry(a b:Nat):decide (aB (a:Int)=aB (b:Int))=decide (a=b):=by by_cases h:a=b;(subst h;simp);have:¬aB (a:Int)=aB (b:Int):=λc=>h (pe (V.int.inj c));rw[ek this,ek h]
def oG{l:aa Nat}{i:Nat}(h:i<l.length):(l.map λ(n:Nat)=>aB (n:Int))[i]? =O (aB (l.getD i 0:Nat)):=by rw[bN,b_ h];simp[dt,b_ h]
def getD_mem{l:aa Nat}{i:Nat}(h:i<l.length):l.getD i 0∈l:=by simp only[dt,b_ h,rY];exact kJ h
def eL{c:Type}{l:aa c}{f:c->V}{i:Nat}{b:V}(h:(l.map f)[i]? =O b):∃a,l[i]? =O a/\b=f a:=by rw[bN]at h;cases e:l[i]?with|none=>rw[e]at h;cases h|some a=>rw[e]at h;exact#v[a,I,(aM h).symm]
def L0:∀l:aa Nat,(l.map λ(n:Nat)=>(n:Int)).sum=((l.sum:Nat):Int)
 | []=>rfl
 |a::l=>by rw[cI,i_,i_,L0 l];lia
def p8{c:Type}(f:c->V)(p:c->Bool):∀l:aa c,hA (l.map f) (l.map p)=(l.filter p).map f
 | []=>rfl
 |a::l=>by
  have b:=p8 f p l;unfold hA at b⊢;simp only[cI,AU,hC];cases h:p a with
  |true=>simp only[hZ,cI];rw[b]
  |false=>simp only[ka,iO];rw[b]
def nc(b c:aa Nat)(ds:aa (Nat×VD))(a w:Nat)(e:Int):Bool:= !(ds.any λd=>decide (d.2.cell=a))&&(decide ((b.getD a 0:Int)=e)||decide ((((ds.filter λd=>decide (b.getD d.2.cell 0=b.getD a 0)).map λd=>d.2.weight).sum+w:Nat)<=c.getD (b.getD a 0) 0))
def aK(l:aa Nat):aa V:=l.map λ(n:Nat)=>aB (n:Int)
section
inductive L1(A:bF)(vs:aa V)(H:Hp)(Q:VK)(E:XK):Prop|mk(a:U)(b:aa U)(c:aa (Nat×VD))(_:vs=[.ref a])(_:H a=O (.lst (b.map aT)))(_:j0 A.aP.C H b c)(_:b.length<=60)(_:∀H',Z H H'->Q (.int (((c.map λd=>d.2.weight).sum:Nat):Int)) H')
def Du:bf P w K mg aJ bq 1 A.m7.f A.m7.fd ["vehicles"] (L1 A):=by refine T.m7.fn.ok C7 (by rintro _ _ _ _ ⟨_,_,_,rfl,_⟩;rfl) (λ_ _ _ s H vs _ E _ h=>?_);obtain⟨f,ps,ds,rfl,a,b,_,k⟩:=h;have B:=bZ;have z:ps.length=ds.length:=b.1;refine#v[_,bc (iY (Tg I) (by rfl) T.VP (by rfl) (aQ (hP (dS:=[("v",1)]) (g:=eh 1) (tt:=fI) (te:=fm K (b8 1) "weight") I C7.nd (fU a7) (gn (by kernel_rfl)) (λ_ _ _ _ _=>dD (i:=1) C7.nd I (cB I)) (λ_ _ _ _ _=>ib) (λ_ _ _ _ _=>aX aS)))),f,I,#v[_,aA.of a],λc l=>mZ (K:=K) (ds.map λd=>aB (d.2.weight:Int)) l (aA.of a) (by rw[aq,aq];lia) (by rw[aq];lia) (λ_=>rfl) (λi x _ e r t s' R m=>?_) λH1 v j=>?_];(obtain⟨u,q,rfl⟩:=eL r;obtain⟨d,o,rfl⟩:=eL t;obtain⟨_,p⟩:=b.2 i u d q o;exact#v[I,s' _ _ p,T.aP.c.cl,T.aP.rf,ze _ _,m e (Z.refl _)]);refine#v[c,(ds.map λd=>d.2.weight).map (λ(n:Nat)=>(n:Int)),I,aA.of (by rw[j,ck,ck];rfl),?_];rw[L0];exact k H1 v
def j0.filter{C:U}{H:Hp}{ps:aa U}{ds:aa (Nat×VD)}(v:j0 C H ps ds)(f:Nat×VD->Bool):j0 C H (((ps.zip ds).filter λx=>f x.2).map λx=>x.1) (ds.filter f):=by(have e:ds.filter f=((ps.zip ds).filter λx=>f x.2).map λx=>x.2:=by have c:(ps.zip ds).map (λx=>x.2)=ds:=E9 (by rw[v.1];exact bp _);rw[<-c,E_,c];rfl);rw[e];refine#v[by rw[aq,aq],λj p d b k=>?_];rw[bN]at b k;cases h:((ps.zip ds).filter λx=>f x.2)[j]?with|none=>rw[h]at b;cases b|some a=>(rw[h]at b k;have l:a.1=p:=aM b;have m:a.2=d:=aM k;subst l m;have q:=(c0.mp (dJ h)).1;obtain⟨i,o,g⟩:=fx q;rw[u9]at o;rw[List.getElem_zip]at g;have c:ps[i]? =O a.1:=by rw[b_ ∅,<-g]);have n:ds[i]? =O a.2:=(by rw[b_ ∅,<-g]);exact v.2 i a.1 a.2 c n
def VV{ps:aa U}{ds:aa (Nat×VD)}(f:Nat×VD->Bool)(h:ps.length=ds.length):hA (ps.map aT) (ds.map f)=(((ps.zip ds).filter λx=>f x.2).map λx=>x.1).map aT:=by(have a:ps.map aT=(ps.zip ds).map λx=>aT x.1:=by rw[<-PM (l₁:=ps) (l₂:=ds) (by rw[h];exact bp _),ck,PM (by rw[h];exact bp _)];rfl);(have b:ds.map f=(ps.zip ds).map λx=>f x.2:=by(have:ds=(ps.zip ds).map λx=>x.2:=(E9 (by rw[h];exact bp _)).symm;conv=>lhs;rw[this]);rw[ck];rfl);rw[a,b,p8 (λx:U×Nat×VD=>aT x.1) (λx=>f x.2),ck];rfl
inductive VW(A:bF)(vs:aa V)(H:Hp)(Q:VK)(E:XK):Prop|mk(p a b:U)(L:LA)(s:G)(c w:Nat)(e:Int)(f:aa U)(g:aa (Nat×VD))(h i:aa Nat)(_:vs=[.ref p,.int c,.int w,.int e,.ref b])(_:H p=O (.ins A.ak.C a (cX L s)))(_:H L.cs=O (.lst (aK h)))(_:H L.lim=O (.lst (aK i)))(_:H b=O (.lst (f.map aT)))(_:j0 A.aP.C H f g)(_:c<h.length)(_:(∀d∈g,d.2.cell<h.length))(_:(∀k∈h,k<i.length))(_:f.length<=60)(_:∀H',Z H H'->Q (.bl (nc h i g c w e)) H')
def L3:bf P w K mg aJ bq 2 A.ak.w6 A.ak.xl ["self","cell","weight","span_before","ahead"] (VW A):=by refine T.ak.CU.fn.ok rj (by rintro _ _ _ _ ⟨_,_,_,_,_,_,_,_,_,_,_,_,rfl,_⟩;rfl) (λ_ _ _ s H vs _ E aG h=>?_);obtain⟨p,dx,ad,L,st,b,B,o,ps,ds,a,z,rfl,J,ah,aE,r,v,ag,aD,aH,aw,k⟩:=h;refine#v[_,ay (cN (gP (iY (Tt I) (by rfl) T.VN (by rfl) (aQ (hP (dS:=[("v",7)]) (g:=eh 7) (tt:=fI) (te:=gR tw (fm K (b8 7) "cell") (b8 1)) I rj.nd (fU (pv 4)) (gn (by kernel_rfl)) (λ_ _ _ _ _=>dD (i:=7) rj.nd I (cB I)) (λ_ _ _ _ _=>ib) (λ_ _ _ _ _=>jw fl (aX (pv 7)) aS (cm _)))))) (bc mK) c9) (ay (mO (i:=5) rj.nd I (gb I) (cC d9 a0 aS (λ_ _=>rfl))) (ay (cN (cO fl (pv 5) (pv 3) (cm _)) (bc mK) c9) (ay (wd (i:=6) (dS:=[("v",7)]) (g:=eh 7) (tt:=mP (gR tw (gR (B9 K) (fm K (b8 0) "cell_spans") (fm K (b8 7) "cell")) (b8 5))) (te:=b8 7) I rj.nd I I (we I I I I) (fU (pv 4)) (gn (by kernel_rfl)) (λ_ _ _ _ _=>dD (i:=7) rj.nd I (cB I)) (λ_ _ _ _ _=>tO (cO fl (cC d9 a0 (aX (pv 7)) (λ_ _=>rfl)) (pv 5) (cm _))) (λ_ _ _ _ _=>pv 7)) (bc (jw g8 (cS kq (ef (Du T) aG T.m7 (aQ (pv 6))) aY) (cC d9 a0 (pv 5) (λ_ _=>rfl)) (cm _)))))),?_];have aN:=bZ;have aF:ps.length=ds.length:=v.1;refine#v[ad,I,#v[_,aA.of r],λal az=>mZ (K:=K) (ds.map λd=>V.bl (decide (d.2.cell=b))) az (aA.of r) (by rw[aq,aq];lia) (by rw[aq];lia) (λ_=>rfl) (λi x ac f n y s' R j=>?_) λH1 c q=>?_];(obtain⟨X,N,rfl⟩:=eL n;obtain⟨d,u,rfl⟩:=eL y;obtain⟨ap,C⟩:=v.2 i X d N u;refine#v[I,s' _ _ C,T.aP.c.cl,T.aP.jB,p7 _ _,I,?_];rw[ry];exact j f (Z.refl _));refine#v[al,ds.map (λd=>decide (d.2.cell=b)),I,aA.of (by rw[q,ck];rfl),_,I,cg (λm=>?_) (λm=>?_)];(have e:nc a z ds b B o=ax:=(by unfold nc;rw[Ay]at m;have t:(ds.any λd=>decide (d.2.cell=b))=ai:=m;rw[t];rfl);rw[e]at k;exact k H1 c);have t:(ds.any λd=>decide (d.2.cell=b))=ax:=(by rw[Ay]at m;exact Fb.mpr m);refine#v[I,c _ _ J,T.ak.c.cl,T.ak.oj,p6 _ _,L.cs,_,_,_,I,I,aA.of (c _ _ ah),eD (oG ag),I,_,I,cg (λS=>?_) (λS=>?_)];((have W:((a.getD b 0:Nat):Int)=o:=(by simpa using S);have e:nc a z ds b B o=ai:=by unfold nc;rw[t,eP W];rfl);rw[e]at k;exact k H1 c);have W:¬((a.getD b 0:Nat):Int)=o:=(by simpa using S);refine#v[ad,I,#v[_,aA.of (c _ _ r)],λam aC=>CK (K:=K) (ps.map aT) (ds.map λd=>decide (a.getD d.2.cell 0=a.getD b 0)) aC (aA.of (c _ _ r)) I (by rw[aq,aq];lia) (by rw[aq];lia) (λ_=>rfl) (λi x ac ao f n y l s' _ R j=>?_) (λi x ac f n y _ s' _ R j=>?_) λ_ aK af=>?_];((obtain⟨X,N,rfl⟩:=eL n;obtain⟨d,u,ar⟩:∃d,ds[i]? =O d/\ao=decide (a.getD d.2.cell 0=a.getD b 0):=by rw[bN]at l;cases e:ds[i]?with|none=>rw[e]at l;cases l|some d=>rw[e]at l;exact#v[d,I,(aM l).symm]);subst ar;obtain⟨ap,C⟩:=v.2 i X d N u;refine#v[I,s' _ _ (c _ _ J),T.ak.c.cl,T.ak.oj,p6 _ _,I,s' _ _ (c _ _ C),T.aP.c.cl,T.aP.jB,p7 _ _,L.cs,_,_,_,I,I,aA.of (s' _ _ (c _ _ ah)),eD (oG (aD d (dJ u))),I,_,I,?_];rw[ry];exact j f (Z.refl _));(have as:x=ac:=aM (n.symm.trans y);subst as;exact(j f (Z.refl _)));have ak:=c.trans aK;rw[VV _ aF]at af;have aI:=(v.same ak).filter λd=>decide (a.getD d.2.cell 0=a.getD b 0);refine#v[am,_,_,I,af,aI,?_,λan aL=>?_];(rw[aq];have q:=iq (λx:U×Nat×VD=>decide (a.getD x.2.2.cell 0=a.getD b 0)) (ps.zip ds);rw[u9]at q;have av:=NY ps.length ds.length;exact dQ q (dQ av aw));(have Y:=ak.trans aL;refine#v[_,_,I,I,I,Y _ _ J,T.ak.c.cl,T.ak.rl,LZ _ _,L.lim,_,_,_,I,I,aA.of (Y _ _ aE),eD (oG (aH _ (getD_mem ag))),_,_,I,I,?_];have e:nc a z ds b B o=decide (((((ds.filter λd=>decide (a.getD d.2.cell 0=a.getD b 0)).map λd=>d.2.weight).sum:Nat):Int)+(B:Int)<=((z.getD (a.getD b 0) 0:Nat):Int)):=by unfold nc;rw[t,ek W];simp only[E7,nA,EX];congr 1;apply propext;lia);rw[e]at k;exact k an Y
end
def cL:VD:=#v[0,0,0,0,0]
def cY(L:LA)(i:Nat):V:=aT (L.vs.getD i 0)
def Dv(c:F)(d:VD):Prop:=d.side=c.side/\d.weight=c.weight/\d.status=0
def ng(s:G)(x:F×Nat)(d:VD):Prop:=d.side=x.1.side/\d.weight=x.1.weight/\d.status=1/\d.cell=cj s x.1.side x.2
def VX(p:eG)(d:VD):Prop:=d.status=p.how+2/\d.ended=p.time
structure b9(A:bF)(H:Hp)(L:LA)(s:G)(vd:aa VD):Prop where
 obj:∃dx,H L.l=O (.ins A.ak.C dx (cX L s))
 cs:H L.cs=O (.lst (aK (bw.ec 0 s.spans)))
 lim:H L.lim=O (.lst (aK (s.spans.map λx=>x.2)))
 bX:H L.bX=O (.lst (L.vs.map aT))
 wt:H L.wt=O (.lst [.ref L.q0,.ref L.q1])
 q0:H L.q0=O (.lst ((bH s 0).map λc=>cY L c.id))
 q1:H L.q1=O (.lst ((bH s 1).map λc=>cY L c.id))
 cr:H L.cr=O (.lst (s.onIt.map λx=>cY L x.1.id))
 b7:L.vs.length=s.came
 dN:vd.length=s.came
 d7:∀(i:Nat)(p:U)(d:VD),L.vs[i]? =O p->vd[i]? =O d->lS A.aP.C H p i d
 nd:[L.cs,L.lim,L.bX,L.wt,L.q0,L.q1,L.cr].Nodup
 hS:L.vs.Nodup
 lw:∀c∈s.waits,Dv c (vd.getD c.id cL)
 lo:∀x∈s.onIt,ng s x (vd.getD x.1.id cL)
 lp:∀p∈s.past,VX p (vd.getD p.id cL)
def LF(L:LA)(a:U):Prop:=a=L.l\/a=L.bX\/a=L.q0\/a=L.q1\/a=L.cr\/a∈L.vs
section
inductive VY(A:bF)(vs:aa V)(H:Hp)(Q:VK)(E:XK):Prop|mk(p a q:U)(L:LA)(s:G)(i:Nat)(d:VD)(b:aa Nat)(_:vs=[.ref p,.ref q])(_:H p=O (.ins A.ak.C a (cX L s)))(_:H L.cs=O (.lst (aK b)))(_:lS A.aP.C H q i d)(_:∀z:Int,(z=let c:Int:=if d.side=0 then(d.cell:Int)+1 else(d.cell:Int)-1;if 0<=c/\c<(b.length:Int)then c else-1)->Q (.int z) H)
def VZ:bf P w K mg aJ bq 1 A.ak.w5 A.ak.xk ["self","vehicle"] (VY A):=by(refine T.ak.Jb.fn.ok I0 (by rintro _ _ _ _ ⟨_,_,_,_,_,_,_,_,rfl,_⟩;rfl) (λ_ _ _ s H vs o E _ h=>?_);obtain⟨p,dx,a,L,st,i,d,b,rfl,u,t,⟨_,n⟩,v⟩:=h;have k:=v _ rfl;refine#v[_,ay (ba 2 I0.nd (s_ (cO fl (aX aS) (bG T.zb) (cm _)) (cS kq (aX aS) bS) (cS jv (aX aS) bS))) (bc (s_ (n5 g8 v5 bS aY (dE T.dW a0)) aY (bG T.Dl))),?_];have key:∀c:Int,c=(if d.side=0 then(d.cell:Int)+1 else(d.cell:Int)-1)->(tj (GI (mP (G9 (iW λi j=>.bl (decide (i<=j))) (iW λi j=>.bl (decide (i<j))) (tC (.int 0)) (b8 2) (q7 (Cb K) (eC (fm K (b8 0) "cell_spans") fo)))) (b8 2) (tC (.int (-1)))):TS) {nx:=λ_ q=>o .non q,rt:=o} [O (.ref p),O (.ref a),O (.int c)] H:=by intro c r;rw[<-r]at k;refine#v[_,_,I,I,_,I,?_];refine cg (λf=>?_) (λf=>?_);(have g:0<=c:=(by simpa using f);refine#v[I,u,T.ak.c.cl,T.ak.oj,p6 _ _,L.cs,_,I,.inl (aA.of t),_,_,I,I,_,I,?_];refine cg (λl=>?_) (λl=>?_);(have m:c<(b.length:Int):=(by have:c<((aK b).length:Int):=(by simpa using l);unfold aK at this;rw[aq]at this;exact this);rw[aI #v[g,m]]at k;exact(k));have m:¬c<(b.length:Int):=(by have:¬c<((aK b).length:Int):=(by simpa using l);unfold aK at this;rw[aq]at this;exact this);rw[aD (λa=>m a.2)]at k;exact k);have g:¬0<=c:=(by simpa using f);rw[aD (λa=>g a.1)]at k;exact#v[_,I,eJ k]);refine#v[I,n,T.aP.c.cl,T.aP.rd,Dt _ _,I,_,I,?_];refine cg (λh=>?_) (λh=>?_);(have e:d.side=0:=(by have:(d.side:Int)=0:=(by simpa using h);lia);refine#v[I,n,T.aP.c.cl,T.aP.jB,p7 _ _,_,_,I,I,?_];exact key _ (by rw[aI e]));have e:¬d.side=0:=(by have:¬(d.side:Int)=0:=(by simpa using h);lia);refine#v[I,n,T.aP.c.cl,T.aP.jB,p7 _ _,_,_,I,I,?_];exact key _ (by rw[aD e])
def iH{a:aa VD}{i j:Nat}{d:VD}:(a.set i d).getD j cL=if i=j/\i<a.length then d else a.getD j cL:=by simp only[dt,Fc];by_cases h:i=j;(subst h;by_cases b:i<a.length;(simp[b]);simp[b]);simp[h]
def f5{a:aa VD}{i:Nat}(h:i<a.length):a[i]? =O (a.getD i cL):=by simp[dt,b_ h]
def gW{vs:aa U}{i:Nat}(h:i<vs.length):vs[i]? =O (vs.getD i 0):=by simp[dt,b_ h]
def hg(C:U)(H:Hp)(vs:aa U)(a:aa VD):Prop:=∀(i:Nat)(p:U)(d:VD),vs[i]? =O p->a[i]? =O d->lS C H p i d
def hg.set{C:U}{H g:Hp}{vs:aa U}{j:aa VD}{id:Nat}{p:U}{d':VD}(v:hg C H vs j)(s:vs.Nodup)(k:vs[id]? =O p)(n:lS C g p id d')(r:∀c,c∈vs->c≠p->∀o,H c=O o->g c=O o):hg C g vs (j.set id d'):=by intro i b d f a;by_cases h:i=id;((subst h;have:b=p:=aM (f.symm.trans k);subst this;have q:i<j.length:=by have:=(cM.mp a).1;rw[o6]at this;exact this);rw[z9 q]at a;rw[<-aM a];exact n);rw[z_ (λb=>h b.symm)]at a;obtain⟨l,m⟩:=v i b d f a;exact#v[l,r b (dJ f) (λe=>h (jz s f (by rw[e];exact k))) _ m]
def hg.keep{C:U}{H b:Hp}{vs:aa U}{f:aa VD}(v:hg C H vs f)(k:∀a,a∈vs->∀o,H a=O o->b a=O o):hg C b vs f:=λi e d c j=>let #v[g,h]:=v i e d c j;#v[g,k e (dJ c) _ h]
def i8(a:aa VD)(l:aa (F×Nat)):aa (Nat×VD):=l.map λx=>(x.1.id,a.getD x.1.id cL)
def zf{C:U}{H:Hp}{L:LA}{c:aa VD}{l:aa (F×Nat)}(v:hg C H L.vs c)(h:∀x∈l,x.1.id<L.vs.length)(k:c.length=L.vs.length):j0 C H (l.map λx=>L.vs.getD x.1.id 0) (i8 c l):=by refine#v[by unfold i8;rw[aq,aq],λj p d a b=>?_];unfold i8 at b;rw[bN]at a b;cases e:l[j]?with|none=>rw[e]at a;cases a|some x=>rw[e]at a b;have f:L.vs.getD x.1.id 0=p:=aM a;have g:(x.1.id,c.getD x.1.id cL)=d:=aM b;subst f g;have i:=h x (dJ e);exact v _ _ _ (gW i) (f5 ∅)
def V0{b:Type}{l:aa b}{f g:b->Bool}(h:∀x∈l,f x=g x):l.any f=l.any g:=by induction l with|nil=>rfl|cons a l d=>rw[qI,qI,h a (cc ..),d λx c=>h x (cw _ c)]
def rz{a b:Type}{l:aa a}{f g:a->b}(h:∀x∈l,f x=g x):l.map f=l.map g:=l7 h
def L4{s:G}(o:aW.Ok s){c:aa VD}{l:aa (F×Nat)}{sd a w:Nat}{p:Int}(n:∀x∈l,x.2<fQ s/\x.1.side=sd)(h:∀x∈l,ng s x (c.getD x.1.id cL))(k:a<fQ s):nc (bw.ec 0 s.spans) (s.spans.map λx=>x.2) (i8 c l) (cj s sd a) w p=(l.all (λi=>i.2 !=a)&&(decide ((eQ s.spans (cj s sd a):Int)=p)||decide (eY s l (eQ s.spans (cj s sd a))+w<=kR s (eQ s.spans (cj s sd a))))):=by(have m:=aW.kk s (eb:=sd) k;have q:(bw.ec 0 s.spans).getD (cj s sd a) 0=eQ s.spans (cj s sd a):=by rw[bw.sU s.spans 0 _ m,oU]);(have u:(s.spans.map λx=>x.2).getD (eQ s.spans (cj s sd a)) 0=kR s (eQ s.spans (cj s sd a)):=by have:=aW.sN s.spans _ m;unfold kR;simp[dt,b_ this]);(unfold nc;rw[q,u];have r:((i8 c l).any λd=>decide (d.2.cell=cj s sd a))= !(l.all λi=>i.2 !=a):=by unfold i8;rw[Ay,List.not_all_eq_any_not];refine V0 λx b=>?_;obtain⟨f,j⟩:=n x b;obtain⟨_,_,_,g⟩:=h x b;show decide ((c.getD x.1.id cL).cell=cj s sd a)= !(x.2 !=a);rw[g,j];by_cases e:x.2=a;(rw[e];simp);rw[ek (λy=>e (aW.QA s f k y))];simp[e]);(have t:(((i8 c l).filter λd=>decide ((bw.ec 0 s.spans).getD d.2.cell 0=eQ s.spans (cj s sd a))).map λd=>d.2.weight).sum=eY s l (eQ s.spans (cj s sd a)):=by(unfold i8 eY;rw[E_,ck];have v:l.filter ((λd:Nat×VD=>decide ((bw.ec 0 s.spans).getD d.2.cell 0=eQ s.spans (cj s sd a)))∘λx:F×Nat=>(x.1.id,c.getD x.1.id cL))=l.filter λx=>eQ s.spans (cj s x.1.side x.2)==eQ s.spans (cj s sd a):=by apply nG;intro x b;obtain⟨f,j⟩:=n x b;obtain⟨_,_,_,g⟩:=h x b;show decide ((bw.ec 0 s.spans).getD (c.getD x.1.id cL).cell 0=_)=_;rw[g,bw.sU s.spans 0 _ (aW.kk s f),oU];rfl);rw[v];congr 1;refine rz λx b=>?_;exact(h x (c0.mp b).1).2.1);rw[r,t,Fd]
end
def Dx(L:LA)(s:G):(cX L s).lookup ("time":M)=O (.int s.time):=by rfl
def rA(i:Nat)(d:VD):(fK i d).lookup ("number":M)=O (.int i):=by rfl
def Dy(s:G):G:={s with onIt:=(h8 s [] s.onIt).1,past:=s.past++(h8 s [] s.onIt).2.map λc=>(⟨c.id,0,s.time⟩:eG)}
structure Mv(A:bF)(H H':Hp)(L:LA)(s:G)(vd hq:aa VD)(lf ah:U)(i:Nat):Prop where
 fr:∀b o,H b=O o->b∉L.vs->H' b=O o
 lf:H' lf=O (.lst ((bw.sofar s i).2.map λc=>aB (c.id:Int)))
 ah:H' ah=O (.lst ((bw.sofar s i).1.map λx=>cY L x.1.id))
 len:hq.length=s.came
 d7:hg A.aP.C H' L.vs hq
 on:∀x∈(bw.sofar s i).1,ng s x (hq.getD x.1.id cL)
 gone:∀c∈(bw.sofar s i).2,(hq.getD c.id cL).status=2/\(hq.getD c.id cL).ended=s.time
 rest:∀j x,i<=j->s.onIt[j]? =O x->ng s x (hq.getD x.1.id cL)
 other:∀k,(∀x∈s.onIt,x.1.id≠k)->hq.getD k cL=vd.getD k cL
def V1{s:G}(o:aW.Ok s):(s.onIt.map λx=>x.1.id).Nodup:=(hB.mp (hB.mp (dF.pF o)).2.1).1
def L5{s:G}(o:aW.Ok s){i j:Nat}{x a:F×Nat}(c:s.onIt[i]? =O x)(d:s.onIt[j]? =O a)(e:x.1.id=a.1.id):i=j:=by have b:=V1 o;exact jz b (x:=x.1.id) (by rw[bN,c];rfl) (by rw[bN,d,e];rfl)
def L6{s:G}(o:aW.Ok s)(i:Nat):(∀x∈(bw.sofar s i).1,x.2<fQ s/\x.1.side=s.side/\x.1.id∈(s.onIt.take i).map λx=>x.1.id)/\(∀c∈(bw.sofar s i).2,c.id∈(s.onIt.take i).map λx=>x.1.id):=by rw[bw.Gd];have b:∀x∈s.onIt.take i,x∈s.onIt:=λx a=>qO a;have d:=aW.sP s s.side (s.onIt.take i) [] #v[.nil,by simp,by simp,by simp] #v[abb (OH _ _) o.pos,λx a=>o.lt x (b x a),λx a=>o.iC x (b x a),λx a=>o.wO x (b x a)] (by simp);have e:=aW.pB s (s.onIt.take i) [];refine#v[λx a=>#v[d.lt x a,d.side x a,?_],λc f=>?_];(have:=e.subset (j_ _ (gr (f:=λ(x:F×Nat)=>x.1.id) a));simpa using this);have:=e.subset (gJ _ (gr (f:=λ(c:F)=>c.id) f));simpa using this
def V2{s:G}(o:aW.Ok s){i:Nat}{x:F×Nat}(h:s.onIt[i]? =O x):x.1.id∉(s.onIt.take i).map λx=>x.1.id:=by(intro d;obtain⟨g,f,e⟩:=bM.mp d;obtain⟨j,c,a⟩:=fx f;rw[fE]at c;have b:s.onIt[j]? =O g:=by rw[AV]at a;rw[b_ ∅,a]);have:=L5 o b h e;lia
def Mv.turn{A:bF}{H y q:Hp}{L:LA}{s:G}{J l:aa VD}{n m p:U}{i:Nat}{x:F×Nat}{d':VD}(o:aW.Ok s)(ag:L.vs.Nodup)(af:L.vs.length=s.came)(d:Mv A H y L s J l n m i)(w:s.onIt[i]? =O x)(v:L.vs[x.1.id]? =O p)(W:lS A.aP.C q p x.1.id d')(I:∀b,b≠p->b≠n->b≠m->∀u,y b=O u->q b=O u)(ac:n∉L.vs)(Y:m∉L.vs)(Z:H n=aR)(X:H m=aR)(K:q n=O (.lst ((bw.sofar s (i+1)).2.map λc=>aB (c.id:Int))))(N:q m=O (.lst ((bw.sofar s (i+1)).1.map λx=>cY L x.1.id)))(T:∀a,a∈(bw.sofar s (i+1)).1->a∉(bw.sofar s i).1->a.1.id=x.1.id/\ng s a d')(Q:∀c,c∈(bw.sofar s (i+1)).2->c∉(bw.sofar s i).2->c.id=x.1.id/\d'.status=2/\d'.ended=s.time):Mv A H q L s J (l.set x.1.id d') n m (i+1):=by(have z:x.1.id<l.length:=by rw[d.len];exact af▸(cM.mp v).1);have E:=V2 o w;have S:=L6 o i;have ad:p∈L.vs:=dJ v;refine#v[λb u f C=>I b (λe=>C (e▸ad)) (λe=>by rw[e,Z]at f;cases f) (λe=>by rw[e,X]at f;cases f) u (d.fr b u f C),K,N,by rw[o6];exact d.len,d.d7.set ag v W λb f R u V=>I b R (λe=>ac (e▸f)) (λe=>Y (e▸f)) u V,?_,?_,?_,?_];(intro a r;by_cases g:a∈(bw.sofar s i).1;(rw[iH,aD (show¬(x.1.id=a.1.id/\x.1.id<l.length)fromλh=>E (by rw[h.1];exact(S.1 a g).2.2))];exact d.on a g);obtain⟨e,t⟩:=T a r g;rw[iH,aI #v[e.symm,z]];exact t);(intro c P;by_cases g:c∈(bw.sofar s i).2;(rw[iH,aD (show¬(x.1.id=c.id/\x.1.id<l.length)fromλh=>E (by rw[h.1];exact S.2 c g))];exact d.gone c g);obtain⟨e,t⟩:=Q c P g;rw[iH,aI #v[e.symm,z]];exact t);(intro j a _ r;rw[iH,aD (show¬(x.1.id=a.1.id/\x.1.id<l.length)fromλh=>by have:=L5 o w r h.1;lia)];exact d.rest j a ∅ r);intro k B;rw[iH,aD (show¬(x.1.id=k/\x.1.id<l.length)fromλh=>B x (dJ w) h.1)];exact d.other k B
section
def b9.la{H:Hp}{L:LA}{s:G}{j:aa VD}(h:b9 A H L s j){a:U}{xs:aa V}(f:H a=O (.lst xs)):a∉L.vs:=by(intro g;obtain⟨i,c,e⟩:=fx g;have d:L.vs[i]? =O a:=by rw[b_ c,e]);obtain⟨dx,b⟩:=h.d7 i a _ d (f5 (by rw[h.dN,<-h.b7];exact c));rw[f]at b;cases b
def b9.nh{H:Hp}{L:LA}{s:G}{g:aa VD}(h:b9 A H L s g):L.l∉L.vs:=by(intro f;obtain⟨i,b,e⟩:=fx f;have c:L.vs[i]? =O L.l:=by rw[b_ b,e]);obtain⟨dx,a⟩:=h.d7 i L.l _ c (f5 (by rw[h.dN,<-h.b7];exact b));obtain⟨dl,d⟩:=h.obj;rw[d]at a;injection a with a;injection a with _ _ a;injection a with a _;injection a with a _;exact absurd a (by decide+kernel)
def b9.rB{H:Hp}{L:LA}{s:G}{j:aa VD}(h:b9 A H L s j){a:U}(f:H a=aR):a∉L.vs:=by(intro g;obtain⟨i,c,e⟩:=fx g;have d:L.vs[i]? =O a:=by rw[b_ c,e]);obtain⟨dx,b⟩:=h.d7 i a _ d (f5 (by rw[h.dN,<-h.b7];exact c));rw[f]at b;cases b
inductive V3(A:bF)(vs:aa V)(H:Hp)(Q:VK)(E:XK):Prop|mk(L:LA)(s:G)(a:aa VD)(_:vs=[.ref L.l])(_:aW.Ok s)(_:b9 A H L s a)(_:∀(H':Hp)(cr lf:U)(hq:aa VD),b9 A H' {L with cr:=cr} (Dy s) hq->(∀b o,H b=O o->b≠L.l->b∉L.vs->H' b=O o)->H cr=aR->H lf=aR->cr≠lf->H' lf=O (.lst ((h8 s [] s.onIt).2.map λc=>aB (c.id:Int)))->Q (.ref lf) H')
def V4:bf P w K mg aJ bq 3 A.ak.w1 A.ak.xh ["self"] (V3 A):=by(have bE:=VZ (P:=P) (w:=w) (aJ:=aJ) T|>.mono (show 1<=2 by decide);refine T.ak.I9.fn.bJ tZ (λH vs _ E bD h=>?_);obtain⟨L,s,aG,rfl,o,b,k⟩:=h;have b4:=bZ;refine#v[_,ay (ba 1 tZ.nd (bO gk)) (ay (ba 2 tZ.nd (bO gk)) (ay (iV hK I (fU a0) (dD (i:=3) tZ.nd I (cB I)) (ay (ba 4 tZ.nd (pm a7 T.ak.c T.ak.Jb bE bD (aQ (pv 3)))) (cR (cN (cO fl (pv 4) (bG T.Dl) (cm _)) (ay (cF (pv 3) (bG T.LI) I) (ay (cF (pv 3) a0 I) (cR (e0 (gF gL mm mn lM aS (aQ (aX (pv 3)))))))) (ay (cN (gP (pm a7 T.ak.c T.ak.CU (L3 T) bD (dm (pv 4) (dm (aX (pv 3)) (cv (cC d9 a0 (aX (pv 3)) (λ_ _=>rfl)) aY))))) (cR (cF (pv 3) (pv 4) I)) c9) (cR (e0 (gF gL mm mn lM aY (aQ (pv 3)))))))))) (ay (cF a7 aY I) (bc aS)))),?_];obtain⟨dl,an⟩:=b.obj;refine#v[dc _,λC ac=>#v[dc _,λq av=>?_]];have al:C≠q:=λe=>by rw[<-e,az]at av;cases av);(have m:H q=aR:=by rw[aw al.symm]at av;exact av);(have a2:=b.rB ac;have a1:=b.rB m;have a4:Z H (Y (Y H C (.lst [])) q (.lst [])):=(Z.new ac).trans (Z.new av);have bF:Mv A H (Y (Y H C (.lst [])) q (.lst [])) L s aG aG C q 0:=by refine#v[λl u y _=>a4 l u y,by rw[aw al,az];rfl,by rw[az];rfl,b.dN,hg.keep b.d7 λl _ u N=>a4 l u N,λx n=>(by cases n),λc R=>(by cases R),λj x _ n=>b.lo x (dJ n),λ_ _=>rfl]);refine#v[I,a4 _ _ an,T.ak.c.cl,T.ak.i6,oF _ _,L.cr,I,#v[_,aA.of (a4 _ _ b.cr)],q6 (K:=K) (a:=L.cr) (xs:=s.onIt.map λx=>cY L x.1.id) (λi a5 ag=>∃(bi bk:ab V)(J:aa VD),a5=[O (.ref L.l),O (.ref C),O (.ref q),bi,bk]/\Mv A H ag L s aG J C q i) #v[aj,aj,aG,I,bF] (λi a5 ag _⟨_,_,J,_,f⟩=>aA.of (f.fr _ _ b.cr (b.la b.cr))) ?_ ?_];(·(rintro i B a5 ag bK ⟨bi,bk,J,rfl,f⟩;obtain⟨x,n,rfl⟩:=eL bK;have ap:=dJ n;have bt:x.1.id<s.came:=dF.ia o (.inr (.inl #v[x,ap,I]));have bN:x.1.id<L.vs.length:=by rw[b.b7];exact bt);(obtain⟨p,af,bd⟩:∃p,L.vs[x.1.id]? =O p/\cY L x.1.id=aT p:=#v[_,gW bN,I];rw[bd];have bs:=f.rest i x (bp _) n;obtain⟨W,ao⟩:=f.d7 _ p _ af (f5 (by rw[f.len];exact bt));generalize b3:J.getD x.1.id cL=d at bs ao;obtain⟨a6,a8,bn,aH⟩:=bs;have ad:=f.fr _ _ an b.nh;have bb:=f.fr _ _ b.cs (b.la b.cs);have bP:=f.fr _ _ b.lim (b.la b.lim);have bv:=o.lt x ap;have bS:x.1.side<=1:=by rw[o.iC x ap];exact o.g4);(have aO:(bw.ec 0 s.spans).length=fQ s:=bw.qT _ _;have bg:p∈L.vs:=dJ af;have be:p≠C:=λe=>a2 (e▸bg);have a3:p≠q:=λe=>a1 (e▸bg);have b2:L.l≠p:=λe=>b.nh (e▸bg);have aP:∀j,((bw.sofar s j).1.length<=60/\(bw.sofar s j).2.length<=60):=λj=>by rw[bw.Gd];have g:=(aW.pB s (s.onIt.take j) []).length_eq;simp only[cV,aq,e_,fE]at g;have ak:=o.count;have as:=o.fY;lia);(refine#v[L.l,dl,_,I,ad,I,L.l,dl,p,L,s,x.1.id,d,bw.ec 0 s.spans,I,ad,bb,#v[W,ao],λt bW=>?_];have aE:t=if x.2+1=fQ s then-1 else(cj s x.1.side (x.2+1):Int):=by rw[bW,<-bw.Rn bv bS,a6,aH,aO]);refine#v[I,_,I,cg (λR=>?_) (λR=>?_)];((have aN:t= -1:=(by simpa using R);have aC:x.2+1=fQ s:=by apply N3;intro bh;rw[aD bh]at aE;lia);(refine#v[p,_,W,_,I,ao,T.aP.c.cl,T.aP.gU,(by show 6<1000;decide),?_];refine#v[I,(by rw[aw b2];exact ad),T.ak.c.cl,T.ak.k_,Dx _ _,p,_,W,_,I,az,T.aP.c.cl,T.aP.rg,(by show 6<1000;decide),?_];rw[eS];have bu:(Y ag p (.ins A.aP.C W (cz "ended" (.int s.time) (cz "status" (.int 2) (fK x.1.id d))))) C=O (.lst ((bw.sofar s i).2.map λc=>aB (c.id:Int))):=by rw[aw be.symm];exact f.lf);(refine#v[.inl #v[I,_,aA.of bu],I,az,T.aP.c.cl,T.aP.m3,(by rfl:(cz "ended" (aB s.time) (cz "status" (aB 2) (fK x.1.id d))).lookup ("number":M)=O (.int x.1.id)),C,_,_,I,I,bu,(by rw[aq];have:=(aP i).2;lia),?_];have v:bw.sofar s (i+1)=((bw.sofar s i).1,(bw.sofar s i).2++ [x.1]):=by rw[bw.Bx n];unfold bw.js;rw[aI aC]);refine#v[_,_,J.set x.1.id { {d with status:=2}with ended:=s.time},I,f.turn o b.hS b.b7 n af (d':={ {d with status:=2}with ended:=s.time}) #v[W,?_] ?_ a2 a1 ac m ?_ ?_ ?_ ?_];(rw[aw be,az];rfl);(intro l g ak as u N;rw[aw ak,aw g];exact N);(rw[az,v,dY];rfl);(rw[aw al.symm,aw a3.symm,v];exact f.ah);(intro B r z;rw[v]at r;exact absurd r z);(intro c X z;rw[v]at X;rcases dh.mp X with g|g);(exact absurd g z);rw[c_.mp g];exact#v[I,I,I]);·(have aN:¬t= -1:=(by simpa using R);have aC:¬x.2+1=fQ s:=by intro bh;rw[aI bh]at aE;exact aN aE);(rw[aD aC]at aE;subst aE;have bA:x.2+1<fQ s:=by lia);have S:=L6 o i;have br:=aW.kk s (eb:=x.1.side) bv;have bJ:=aW.kk s (eb:=x.1.side) bA;refine#v[L.l,dl,_,I,ad,I,I,ao,T.aP.c.cl,T.aP.rf,ze _ _,I,ad,T.ak.c.cl,T.ak.oj,p6 _ _,I,ao,T.aP.c.cl,T.aP.jB,p7 _ _,L.cs,_,_,_,I,I,aA.of bb,eD (oG (by rw[aO,aH];exact br)),L.l,dl,q,L,s,cj s x.1.side (x.2+1),d.weight,_,(bw.sofar s i).1.map (λB=>L.vs.getD B.1.id 0),i8 J (bw.sofar s i).1,bw.ec 0 s.spans,s.spans.map (λx=>x.2),I,ad,bb,bP,(by rw[f.ah,ck];rfl),zf f.d7 (λB r=>?_) (by rw[f.len,b.b7]),by rw[aO];exact bJ,λB r=>?_,λB r=>?_,by rw[aq];exact(aP i).1,λbm aF=>?_];(obtain⟨t,aV,bX⟩:=bM.mp (S.1 B r).2.2;rw[b.b7,<-bX];exact dF.ia o (.inr (.inl #v[t,qO aV,I])));(obtain⟨t,aV,rfl⟩:=bM.mp r;show(J.getD t.1.id cL).cell<_;rw[aO,(f.on t aV).2.2.2];exact aW.kk s (S.1 t aV).1);(have:=bw.Bw s.spans 0 B r;rw[aq];lia);(rw[a8,aH,bw.sU s.spans 0 _ br,oU,show x.1.side=s.side from o.iC x ap,L4 o (λB r=>#v[(S.1 B r).1,(S.1 B r).2.1]) f.on bA];have bI:((bw.sofar s i).1.all (λt=>t.2 !=x.2+1)&&(decide ((eQ s.spans (cj s s.side (x.2+1)):Int)=((eQ s.spans (cj s s.side x.2):Nat):Int))||decide (eY s (bw.sofar s i).1 (eQ s.spans (cj s s.side (x.2+1)))+x.1.weight<=kR s (eQ s.spans (cj s s.side (x.2+1))))))=bw.may s (bw.sofar s i).1 x:=by(unfold bw.may Sy49.room AW;rw[show x.1.side=s.side from o.iC x ap];have ah:decide ((eQ s.spans (cj s s.side (x.2+1)):Int)=((eQ s.spans (cj s s.side x.2):Nat):Int))=(eQ s.spans (cj s s.side x.2)==eQ s.spans (cj s s.side (x.2+1))):=by rw[ip];simp only[fh,jf];lia);rw[ah];cases (bw.sofar s i).1.all (λt=>t.2 !=x.2+1)<;>simp);rw[bI];have aL:=aF _ _ f.ah;have bB:=aF _ _ ao;have aK:Mv A H bm L s aG J C q i:=#v[λl u y z=>aF _ _ (f.fr l u y z),aF _ _ f.lf,aL,f.len,f.d7.keep λl _ u N=>aF _ _ N,f.on,f.gone,f.rest,f.other];refine#v[_,I,cg (λam=>?_) (λam=>?_)];((refine#v[p,_,W,_,I,bB,T.aP.c.cl,T.aP.jB,(by show 6<1000;decide),?_];have bo:(Y bm p (.ins A.aP.C W (cz "cell" (.int (cj s s.side (x.2+1))) (fK x.1.id d)))) q=O (.lst ((bw.sofar s i).1.map λx=>cY L x.1.id)):=by rw[aw a3.symm];exact aL);(refine#v[.inl #v[I,_,aA.of bo],q,_,_,I,I,bo,(by rw[aq];have:=(aP i).1;lia),?_];have v:bw.sofar s (i+1)=((bw.sofar s i).1++ [(x.1,x.2+1)],(bw.sofar s i).2):=by rw[bw.Bx n];unfold bw.js;rw[aD aC,aI am]);refine#v[_,_,J.set x.1.id {d with cell:=cj s s.side (x.2+1)},I,aK.turn o b.hS b.b7 n af (d':={d with cell:=cj s s.side (x.2+1)}) #v[W,?_] ?_ a2 a1 ac m ?_ ?_ ?_ ?_];(rw[aw a3,az];rfl);(intro l g ak as u N;rw[aw as,aw g];exact N);(rw[aw al,aw be.symm,v];exact aK.lf);(rw[az,v,dY,bd.symm];rfl);((intro B r z;rw[v]at r;rcases dh.mp r with g|g);(exact absurd g z);rw[c_.mp g];refine#v[I,a6,a8,bn,?_];show cj s s.side (x.2+1)=cj s x.1.side (x.2+1);rw[show x.1.side=s.side from o.iC x ap]);intro c X z;rw[v]at X;exact absurd X z);(refine#v[.inl #v[I,_,aA.of aL],q,_,_,I,I,aL,(by rw[aq];have:=(aP i).1;lia),?_];have v:bw.sofar s (i+1)=((bw.sofar s i).1++ [x],(bw.sofar s i).2):=by rw[bw.Bx n];unfold bw.js;rw[aD aC,aD am]);refine#v[_,_,J.set x.1.id d,I,aK.turn o b.hS b.b7 n af (d':=d) #v[W,?_] ?_ a2 a1 ac m ?_ ?_ ?_ ?_];(rw[aw a3];exact bB);(intro l g ak as u N;rw[aw as];exact N);(rw[aw al,v];exact aK.lf);(rw[az,v,dY,bd.symm];rfl);((intro B r z;rw[v]at r;rcases dh.mp r with g|g);(exact absurd g z);rw[c_.mp g];exact#v[I,a6,a8,bn,aH]);intro c X z;rw[v]at X;exact absurd X z);(rintro a5 ag ⟨bi,bk,J,rfl,f⟩;rw[aq]at f;have ad:=f.fr _ _ an b.nh;refine#v[L.l,_,dl,_,I,ad,T.ak.c.cl,T.ak.i6,(by show 10<1000;decide),?_];have ah:bw.sofar s s.onIt.length=h8 s [] s.onIt:=bw.Rm s;have b1:∀ {l:U}{xs:aa V},H l=O (.lst xs)->l≠L.l:=λy=>bC y an (by intro t;cases t);have ar:∀ {l:U}{xs:aa V},H l=O (.lst xs)->(Y ag L.l (.ins A.ak.C dl (cz "crossing" (.ref q) (cX L s)))) l=O (.lst xs):=λ{l xs} y=>by rw[aw (b1 y)];exact f.fr _ _ y (b.la y));(have bH:q≠L.l:=λe=>by rw[e,an]at m;cases m);(have b0:C≠L.l:=λe=>by rw[e,an]at ac;cases ac);refine k _ q C J #v[#v[dl,by rw[az];rfl],ar b.cs,ar b.lim,ar b.bX,ar b.wt,ar b.q0,ar b.q1,?_,b.b7,f.len,f.d7.keep λl y u N=>?_,?_,b.hS,λc R=>?_,λx n=>?_,λp af=>?_] (λl u y g ak=>?_) m ac al.symm ?_;(rw[aw bH,f.ah,ah];rfl);(rw[aw (show l≠L.l fromλe=>b.nh (e▸y))];exact N);((have g:([L.cs,L.lim,L.bX,L.wt,L.q0,L.q1]++ [L.cr]).Nodup:=b.nd;show([L.cs,L.lim,L.bX,L.wt,L.q0,L.q1]++ [q]).Nodup;refine tV (hB.mp g).1 λam=>?_;simp only[bL,ff,gv]at am;rcases am with e|e|e|e|e|e);(rw[e,b.cs]at m;cases m);(rw[e,b.lim]at m;cases m);(rw[e,b.bX]at m;cases m);(rw[e,b.wt]at m;cases m);(rw[e,b.q0]at m;cases m);rw[e,b.q1]at m;cases m);(rw[f.other c.id λx n e=>dF.sS o #v[c,R,I] #v[x,n,e]];exact b.lw c R);(have bT:x∈(bw.sofar s s.onIt.length).1:=(by rw[ah];exact n);exact f.on x bT);(rcases dh.mp af with g|g;(rw[f.other p.id λx n e=>dF.Bu o #v[x,n,I] p g e.symm];exact b.lp p g);(obtain⟨c,R,rfl⟩:=bM.mp g;have aN:c∈(bw.sofar s s.onIt.length).2:=by rw[ah];exact R);exact f.gone c aN);(rw[aw g];exact f.fr _ _ y ak);rw[aw b0,f.lf,ah]
end
def V5(L:LA)(s:G):(cX L s).lookup ("turn":M)=O (.int s.turn):=by rfl
def zg(L:LA)(s:G):(cX L s).lookup ("open_side":M)=O (.int s.side):=by rfl
def L7(L:LA)(s:G):(cX L s).lookup ("entered":M)=O (.int s.gone):=by rfl
def p9(L:LA)(s:G):(cX L s).lookup ("waiting":M)=O (.ref L.wt):=by rfl
def Dz(L:LA)(s:G):(cX L s).lookup ("vehicles":M)=O (.ref L.bX):=by rfl
def LA.q(L:LA)(sd:Nat):U:=if sd=0 then L.q0 else L.q1
def oH(L:LA){sd:Nat}(h:sd<=1):([aT L.q0,aT L.q1]:aa V)[sd]? =O (.ref (L.q sd)):=by unfold LA.q;match sd,h with|0,_=>rfl|1,_=>rfl
section
inductive V6(K:bj)(C:U)(vs:aa V)(H:Hp)(Q:VK)(E:XK):Prop|mk(p a:U)(L:LA)(s:G)(b:Int)(c:aa V)(_:vs=[.ref p,.int b])(_:H p=O (.ins C a (cX L s)))(_:aA K H L.cs c)(_:Q (.int (if b=0 then 0 else(c.length:Int)-1)) H)
def V7:bf P w K mg aJ bq 1 A.ak.w3 A.ak.xj ["self","side"] (V6 K A.ak.C):=by refine T.ak.Ja.fn.ok UY (by rintro _ _ _ _ ⟨_,_,_,_,_,_,rfl,_⟩;rfl) (λ_ A _ s H vs _ E _ h=>?_);obtain⟨p,dx,L,st,sd,xs,rfl,a,b,k⟩:=h;refine#v[_,bc (s_ (cO fl aS (bG T.zb) (cm _)) bS (cS jv (dE T.dW a0) bS)),I,_,I,?_];refine cg (λh=>?_) (λh=>?_);(have e:sd=0:=(by simpa using h);rw[aI e]at k;exact k);have e:¬sd=0:=(by simpa using h);rw[aD e]at k;refine#v[I,a,T.ak.c.cl,T.ak.oj,p6 _ _,L.cs,xs,I,.inl b,_,_,I,I,?_];exact k
def b9.same{H a:Hp}{L:LA}{s:G}{c:aa VD}(h:b9 A H L s c)(e:Z H a):b9 A a L s c:=#v[let #v[dx,f]:=h.obj;#v[dx,e _ _ f],e _ _ h.cs,e _ _ h.lim,e _ _ h.bX,e _ _ h.wt,e _ _ h.q0,e _ _ h.q1,e _ _ h.cr,h.b7,h.dN,hg.keep h.d7 λ_ _ u d=>e _ _ d,h.nd,h.hS,h.lw,h.lo,h.lp]
def b9.q{H:Hp}{L:LA}{s:G}{b:aa VD}(h:b9 A H L s b){sd:Nat}(a:sd<=1):H (L.q sd)=O (.lst ((bH s sd).map λc=>cY L c.id)):=by unfold LA.q;match sd,a with|0,_=>exact h.q0|1,_=>exact h.q1
def zh(s:G)(sd:Nat):Sy49.first s sd=(bH s sd).head?:=by unfold Sy49.first bH;rw[List.head?_filter]
def L8(s:G):mq s=(!(bH s (1-s.side)).isEmpty&&((bH s s.side).isEmpty||decide (s.turn<=s.gone))):=by unfold mq;rw[zh,zh];cases a:bH s (1-s.side)<;>cases b:bH s s.side<;>simp
inductive L9(A:bF)(vs:aa V)(H:Hp)(Q:VK)(E:XK):Prop|mk(L:LA)(s:G)(a:aa VD)(_:vs=[.ref L.l])(_:s.side<=1)(_:b9 A H L s a)(_:Q (.bl (mq s)) H)
def L_:bf P w K mg aJ bq 1 A.ak.w0 A.ak.xg ["self"] (L9 A):=by(refine T.ak.CT.fn.bJ UX (λH vs j E _ h=>?_);obtain⟨L,s,_,rfl,i,b,k⟩:=h;obtain⟨dl,a⟩:=b.obj;refine#v[_,ay (cN (cO fl (dE T.dW (cC d9 a0 (cS jv bS a0) (λ_ _=>rfl))) bS (cm _)) (bc mK) c9) (bc (vU (jw fl (dE T.dW (cC d9 a0 a0 (λ_ _=>rfl))) bS (cm _)) (s9 (jw iX a0 a0 (cm _))))),?_];have n:=b.q (sd:=1-s.side) ∅;have o:=b.q i;have l:(1:Int)-(s.side:Int)=((1-s.side:Nat):Int):=by lia);refine#v[I,a,T.ak.c.cl,T.ak.kC,p9 _ _,I,a,T.ak.c.cl,T.ak.m6,zg _ _,_,_,I,I,L.wt,_,_,_,I,I,aA.of b.wt,fw l (oH L ∅),_,_,I,.inl (aA.of n),I,_,I,?_];refine cg (λh=>?_) (λh=>?_);(have e:(bH s (1-s.side)).isEmpty=ai:=(by have:((bH s (1-s.side)).map λc=>cY L c.id).length=0:=(by have h':(((bH s (1-s.side)).map λc=>cY L c.id).length:Int)=0:=(by simpa using h);lia);rw[aq]at this;exact nE.mpr (rX.mp this));rw[L8,e]at k;exact k);(have e:(bH s (1-s.side)).isEmpty=ax:=by cases g:(bH s (1-s.side)).isEmpty with|false=>rfl|true=>exfalso;apply h;have:=nE.mp g;simp[this]);rw[L8,e]at k;refine#v[I,a,T.ak.c.cl,T.ak.kC,p9 _ _,I,a,T.ak.c.cl,T.ak.m6,zg _ _,L.wt,_,_,_,I,I,aA.of b.wt,eD (oH L i),_,_,I,.inl (aA.of o),I,_,I,?_];refine cg (λf=>?_) (λf=>?_);(have d:(bH s s.side).isEmpty=ai:=(by have:((bH s s.side).map λc=>cY L c.id).length=0:=(by have h':(((bH s s.side).map λc=>cY L c.id).length:Int)=0:=(by simpa using f);lia);rw[aq]at this;exact nE.mpr (rX.mp this));rw[d]at k;exact k);(have d:(bH s s.side).isEmpty=ax:=by cases g:(bH s s.side).isEmpty with|false=>rfl|true=>exfalso;apply f;have:=nE.mp g;simp[this]);(rw[d]at k;refine#v[I,a,T.ak.c.cl,T.ak.pU,L7 _ _,I,a,T.ak.c.cl,T.ak.CP,V5 _ _,_,_,I,I,?_];have m:decide ((s.turn:Int)<=(s.gone:Int))=decide (s.turn<=s.gone):=by rw[ip];simp only[fh];lia);show j (V.bl (decide ((s.turn:Int)<=(s.gone:Int)))) H;rw[m];exact k
def lb(s:G):G:=match Sy49.first s s.side with
 |none=>s
 |some c=>if Sy49.room s s.onIt c 0=ai then{s with waits:=s.waits.filter λ(x:F)=>x.id !=c.id,onIt:=s.onIt++ [(c,0)],gone:=s.gone+1}else s
def Ma{s:G}(o:aW.Ok s){x c:F}(h:x∈s.waits)(d:c∈s.waits)(e:x.id=c.id):x=c:=by have k:=o.lD;obtain⟨i,f,a⟩:=fx h;obtain⟨j,g,b⟩:=fx d;have:=jz k (i:=i) (j:=j) (x:=x.id) (by rw[bN,b_ f,a];rfl) (by rw[bN,b_ g,b,e];rfl);subst this;rw[<-a,<-b]
def V8{s:G}(o:aW.Ok s){c:F}(a:c∈s.waits){sd:Nat}(h:c.side≠sd):(s.waits.filter λ(x:F)=>x.id !=c.id).filter (λ(x:F)=>x.side==sd)=bH s sd:=by unfold bH;rw[r3];apply nG;intro x b;by_cases e:x.side=sd;(have:x.id≠c.id:=λd=>h (by rw[<-Ma o b a d];exact e);simp[e,this]);simp[e]
def V9{s:G}(o:aW.Ok s){c:F}{r:aa F}(h:bH s c.side=c::r):(s.waits.filter λ(x:F)=>x.id !=c.id).filter (λ(x:F)=>x.side==c.side)=r:=by(have b:∀x∈bH s c.side,x∈s.waits:=λx a=>(c0.mp a).1;have i:c∈s.waits:=b c (by rw[h];exact cc ..);have f:(s.waits.filter λ(x:F)=>x.id !=c.id).filter (λ(x:F)=>x.side==c.side)=(bH s c.side).filter λx=>x.id !=c.id:=by unfold bH;rw[r3,r3];apply nG;intro x _;rw[Oa]);(rw[f,h,hC,aD (by simp),rT];intro x a;have k:x∈s.waits:=b x (by rw[h];exact cw _ a);simp only[zP,ne_eq];intro l;have e:=Ma o k i l;subst e;have d:(bH s x.side).Nodup:=by have g:(s.waits).Nodup:=(ik.mp o.lD).imp λj e=>j (by rw[e]);exact sC u_ g);rw[h]at d;exact(fD.mp d).1 a
inductive Mb(A:bF)(vs:aa V)(H:Hp)(Q:VK)(E:XK):Prop|mk(L:LA)(s:G)(a:aa VD)(_:vs=[.ref L.l])(_:aW.Ok s)(_:b9 A H L s a)(_:∀(H':Hp)(hq:aa VD),b9 A H' L (lb s) hq->(∀b o,H b=O o->¬LF L b->H' b=O o)->Q .non H')
def uh{H:Hp}{L:LA}{s:G}{p:aa VD}(h:b9 A H L s p){sd:Nat}(o:sd<=1):L.q sd≠L.cs/\L.q sd≠L.lim/\L.q sd≠L.bX/\L.q sd≠L.wt/\L.q sd≠L.cr/\L.q sd≠L.q (1-sd)/\(L.q sd=L.q0\/L.q sd=L.q1):=by have c:=h.nd;simp only[fD,bL,hI,ff,pf,ph]at c;obtain⟨⟨_,_,_,d,e,_⟩,⟨_,_,f,g,_⟩,⟨_,i,j,_⟩,⟨k,l,_⟩,⟨b,m⟩,n,_⟩:=c;unfold LA.q;match sd,o with|0,_=>refine⟨λa=>d a.symm,λa=>f a.symm,λa=>i a.symm,λa=>k a.symm,m,?_,.inl I⟩;exact b|1,_=>refine#v[λa=>e a.symm,λa=>g a.symm,λa=>j a.symm,λa=>l a.symm,n,?_,.inr I];exactλa=>b a.symm
def V_:bf P w K mg aJ bq 3 A.ak.w2 A.ak.xi ["self"] (Mb A):=by have a4:=V7 (P:=P) (w:=w) (aJ:=aJ) T|>.mono (show 1<=2 by decide);refine T.ak.I_.fn.bJ wN (λH vs _ E aP h=>?_);obtain⟨L,s,R,rfl,o,a,k⟩:=h;obtain⟨dl,n⟩:=a.obj;have bv:=bZ;have J:=a.q o.g4;refine#v[_,ay (ba 1 wN.nd (cC d9 a0 a0 (λ_ _=>rfl))) (ay (cN (cO fl (dE T.dW aS) bS (cm _)) (cR R9) c9) (ay (ba 2 wN.nd (cC d9 aS bS (λ_ _=>rfl))) (ay (ba 3 wN.nd (pm a7 T.ak.c T.ak.Ja a4 aP (aQ (aX aY)))) (cR (cN (gP (pm a7 T.ak.c T.ak.CU (L3 T) aP (dm (pv 3) (dm (aX aY) (cv (bG T.Dl) a0))))) (ay (e0 (gF gL PySem.F.slot_list_pop PySem.F.type_list_pop S9 aS (aQ bS))) (ay (cF aY (bG T.Dk) I) (ay (cF aY (pv 3) I) (ay (e0 (gF gL mm mn lM a0 (aQ aY))) (cR (tD a7 bS tE)))))) c9))))),I,n,T.ak.c.cl,T.ak.kC,p9 _ _,I,n,T.ak.c.cl,T.ak.m6,zg _ _,L.wt,_,_,_,I,I,aA.of a.wt,eD (oH L o.g4),_,_,I,.inl (aA.of J),I,_,I,cg (λh=>?_) (λh=>?_)];(have e:bH s s.side=[]:=(by have:((bH s s.side).map λc=>cY L c.id).length=0:=(by have h':(((bH s s.side).map λc=>cY L c.id).length:Int)=0:=(by simpa using h);lia);rw[aq]at this;exact rX.mp this);have an:lb s=s:=(by unfold lb;rw[zh,e];rfl);refine k H R ?_ (λb u f _=>f);rw[an];exact a);(obtain⟨c,r,ad⟩:∃c r,bH s s.side=c::r:=by cases bh:bH s s.side with|nil=>exfalso;apply h;rw[bh];simp|cons c r=>exact#v[c,r,I]);(have m:c∈s.waits/\c.side=s.side:=(by have:=c0.mp (show c∈bH s s.side by rw[ad];exact cc ..);exact#v[this.1,by simpa using this.2]);have as:c.id<s.came:=dF.ia o (.inl #v[c,m.1,I]);obtain⟨p,aE,a1⟩:∃p,L.vs[c.id]? =O p/\cY L c.id=aT p:=#v[_,gW (by rw[a.b7];exact as),I];obtain⟨N,af⟩:=a.d7 _ p _ aE (f5 (by rw[a.dN];exact as));obtain⟨al,am,a5⟩:=a.lw c m.1;generalize bu:R.getD c.id cL=d at af al am a5;have Z:p∈L.vs:=dJ aE;have ar:(bw.ec 0 s.spans).length=fQ s:=bw.qT _ _;have aL:0<fQ s:=by have i:=o.iA;unfold fQ;match e:s.spans,i with|t::l,_=>have:=(o.iB t (by rw[e];exact cc ..)).1;simp only[cI,i_];lia);(rw[ad]at J;refine#v[L.q s.side,_,_,_,I,I,aA.of J,fw (j:=0) (v:=cY L c.id) I I,?_];rw[a1];refine#v[L.l,dl,_,I,n,I,I,af,T.aP.c.cl,T.aP.rd,Dt _ _,L.l,dl,L,s,_,_,I,n,aA.of a.cs,?_];have a8:(if(d.side:Int)=0 then(0:Int)else((aK (bw.ec 0 s.spans)).length:Int)-1)=((cj s s.side 0:Nat):Int):=by unfold aK;rw[aq,ar,al,m.2];unfold cj;by_cases g:s.side=0;(rw[aI g,aI ∅];rfl);rw[aD g,aD ∅];lia);rw[a8];have be:∀x∈s.onIt,x.1.id<s.came:=λx B=>dF.ia o (.inr (.inl #v[x,B,I]));have bt:=o.count;have bs:=o.fY;refine#v[L.l,dl,_,I,n,I,I,af,T.aP.c.cl,T.aP.rf,ze _ _,I,n,T.ak.c.cl,T.ak.i6,oF _ _,L.l,dl,L.cr,L,s,cj s s.side 0,d.weight,_,s.onIt.map (λt=>L.vs.getD t.1.id 0),i8 R s.onIt,bw.ec 0 s.spans,s.spans.map (λx=>x.2),I,n,a.cs,a.lim,(by rw[a.cr,ck];rfl),zf a.d7 (λt C=>by rw[a.b7];exact be t C) (by rw[a.dN,a.b7]),by rw[ar];exact aW.kk s aL,λt C=>?_,λt C=>?_,by rw[aq];lia,λac z=>?_];(obtain⟨y,a2,rfl⟩:=bM.mp C;show(R.getD y.1.id cL).cell<_;rw[ar,(a.lo y a2).2.2.2];exact aW.kk s (o.lt y a2));(have:=bw.Bw s.spans 0 t C;rw[aq];lia);(rw[am,L4 o (λt C=>#v[o.lt t C,o.iC t C]) a.lo aL];have bb:(s.onIt.all (λy=>y.2 !=0)&&(decide ((eQ s.spans (cj s s.side 0):Int)= -1)||decide (eY s s.onIt (eQ s.spans (cj s s.side 0))+c.weight<=kR s (eQ s.spans (cj s s.side 0)))))=Sy49.room s s.onIt c 0:=by unfold Sy49.room;rw[m.2,ek ∅,EX]);(rw[bb];have aH:Sy49.first s s.side=O c:=by rw[zh,ad];rfl);refine#v[_,I,cg (λav=>?_) (λav=>?_)];((have ao:lb s={s with waits:=s.waits.filter λ(x:F)=>x.id !=c.id,onIt:=s.onIt++ [(c,0)],gone:=s.gone+1}:=(by unfold lb;rw[aH];simp only;rw[aI av]);obtain⟨bk,bm,bn,bo,aG,bp,br⟩:=uh a o.g4;have aN:=z _ _ J;have aC:=z _ _ n;have bg:=z _ _ af;have a3:p≠L.q s.side:=λe=>a.la J (e▸Z);have aF:p≠L.cr:=λe=>a.la a.cr (e▸Z);have ag:p≠L.l:=λe=>a.nh (e▸Z);have ah:L.q s.side≠L.l:=bC J n (by intro y;cases y);have ak:L.cr≠L.l:=bC a.cr n (by intro y;cases y);refine#v[.inl #v[I,_,aA.of aN],L.q s.side,_,_,0,_,I,I,aN,(by decide),(by decide),(by simp[An]),(by rw[cI];rfl),p,_,N,_,I,(by rw[aw a3];exact bg),T.aP.c.cl,T.aP.gU,(by show 6<1000;decide),p,_,N,_,I,az,T.aP.c.cl,T.aP.jB,(by show 6<1000;decide),?_];rw[eS];refine#v[I,(by rw[aw ag.symm,aw ah.symm];exact aC),T.ak.c.cl,T.ak.i6,oF _ _,.inl #v[I,_,aA.of (by rw[aw aF.symm,aw aG.symm];exact z _ _ a.cr)],L.cr,_,_,I,I,(by rw[aw aF.symm,aw aG.symm];exact z _ _ a.cr),(by rw[aq];lia),I,(by rw[aw ak.symm,aw ag.symm,aw ah.symm];exact aC),T.ak.c.cl,T.ak.pU,L7 _ _,_,_,I,I,dl,_,(by rw[aw ak.symm,aw ag.symm,aw ah.symm];exact aC),(by show 10<1000;decide),?_];have a6:b9 A (Y (Y (Y (Y ac (L.q s.side) (.lst (((c::r).map λc=>cY L c.id).eraseIdx 0))) p (.ins A.aP.C N (cz "cell" (.int (cj s s.side 0)) (cz "status" (.int 1) (fK c.id d))))) L.cr (.lst ((s.onIt.map λx=>cY L x.1.id)++ [.ref p]))) L.l (.ins A.ak.C dl (cz "entered" (.int ((s.gone:Int)+1)) (cX L s)))) L (lb s) (R.set c.id { {d with status:=1}with cell:=cj s s.side 0}):=by(rw[ao];have X:∀ {b:U}{xs:aa V},H b=O (.lst xs)->b≠L.q s.side->b≠L.cr->(Y (Y (Y (Y ac (L.q s.side) (.lst (((c::r).map λc=>cY L c.id).eraseIdx 0))) p (.ins A.aP.C N (cz "cell" (.int (cj s s.side 0)) (cz "status" (.int 1) (fK c.id d))))) L.cr (.lst ((s.onIt.map λx=>cY L x.1.id)++ [.ref p]))) L.l (.ins A.ak.C dl (cz "entered" (.int ((s.gone:Int)+1)) (cX L s)))) b=O (.lst xs):=λ{b xs} f i ap=>by rw[aw (bC f n (by intro y;cases y)),aw ap,aw (show b≠p fromλe=>a.la f (e▸Z)),aw i];exact z _ _ f);(have aO:∀sd,sd<=1->(Y (Y (Y (Y ac (L.q s.side) (.lst (((c::r).map λc=>cY L c.id).eraseIdx 0))) p (.ins A.aP.C N (cz "cell" (.int (cj s s.side 0)) (cz "status" (.int 1) (fK c.id d))))) L.cr (.lst ((s.onIt.map λx=>cY L x.1.id)++ [.ref p]))) L.l (.ins A.ak.C dl (cz "entered" (.int ((s.gone:Int)+1)) (cX L s)))) (L.q sd)=O (.lst (((s.waits.filter λ(x:F)=>x.id !=c.id).filter (λ(x:F)=>x.side==sd)).map λc=>cY L c.id)):=λsd aV=>by by_cases e:sd=s.side;(subst e;rw[aw ah,aw aG,aw a3.symm,az];have:=V9 o (c:=c) (r:=r) (by rw[m.2];exact ad);rw[m.2]at this;rw[this];rfl);have an:sd=1-s.side:=(by have:=o.g4;lia);rw[V8 o m.1 (by rw[m.2];exactλg=>e g.symm)];refine X (a.q aV) ?_ (uh a aV).2.2.2.2.1;rw[an];exactλg=>bp g.symm);refine#v[#v[dl,by rw[az];rfl],X a.cs bk.symm ?_,X a.lim bm.symm ?_,X a.bX bn.symm ?_,X a.wt bo.symm ?_,aO 0 ∅,aO 1 ∅,?_,a.b7,by rw[o6];exact a.dN,hg.set a.d7 a.hS aE #v[N,?_] (λb f bd u bi=>?_),a.nd,a.hS,λx B=>?_,λx B=>?_,λx B=>?_];(have q:=a.nd;simp only[fD,bL,hI]at q;exact q.1.2.2.2.2.2.1);(have q:=a.nd;simp only[fD,bL,hI]at q;exact q.2.1.2.2.2.2.1);(have q:=a.nd;simp only[fD,bL,hI]at q;exact q.2.2.1.2.2.2.1);(have q:=a.nd;simp only[fD,bL,hI]at q;exact q.2.2.2.1.2.2.1);(rw[aw ak,az,dY,<-a1];rfl);(rw[aw ag,aw aF,az];rfl);(rw[aw (show b≠L.l fromλe=>a.nh (e▸f)),aw (show b≠L.cr fromλe=>a.la a.cr (e▸f)),aw bd,aw (show b≠L.q s.side fromλe=>a.la J (e▸f))];exact z _ _ bi);((have i:=c0.mp B;have ap:x.id≠c.id:=by simpa using i.2);rw[iH,aD (show¬(c.id=x.id/\_)fromλg=>ap g.1.symm)];exact a.lw x i.1);(rcases dh.mp B with i|i;(rw[iH,aD (show¬(c.id=x.1.id/\_)fromλg=>dF.sS o #v[c,m.1,I] #v[x,i,g.1.symm])];exact a.lo x i);rw[c_.mp i,iH,aI #v[I,by rw[a.dN];exact as]];refine#v[al,am,I,?_];show cj s s.side 0=cj s c.side 0;rw[m.2]);rw[iH,aD (show¬(c.id=x.id/\_)fromλg=>dF.vH o #v[c,m.1,I] x B g.1.symm)];exact a.lp x B);(refine k _ _ a6 (λb u f S=>?_);have W:b≠L.l/\b≠L.q0/\b≠L.q1/\b≠L.cr/\b∉L.vs:=#v[λe=>S (.inl e),λe=>S (.inr (.inr (.inl e))),λe=>S (.inr (.inr (.inr (.inl e)))),λe=>S (.inr (.inr (.inr (.inr (.inl e))))),λe=>S (.inr (.inr (.inr (.inr (.inr e)))))];have bc:b≠L.q s.side:=by rcases br with e|e;(rw[e];exact W.2.1);rw[e];exact W.2.2.1);rw[aw W.1,aw W.2.2.2.1,aw (show b≠p fromλe=>W.2.2.2.2 (e▸Z)),aw bc];exact z _ _ f);have ao:lb s=s:=(by unfold lb;rw[aH];simp only;rw[aD av]);refine k ac R ?_ (λb u f _=>z _ _ f);rw[ao];exact a.same z
end
def rC{s s':G}(h:s'.spans=s.spans):∀(r l:aa (F×Nat)),h8 s' l r=h8 s l r
 | [],l=>rfl
 |x::r,l=>by
  have e:fQ s'=fQ s:=(by unfold fQ;rw[h]);have d:∀sd a,cj s' sd a=cj s sd a:=λsd a=>by unfold cj;rw[e]
  have f:∀l k,eY s' l k=eY s l k:=λl k=>by unfold eY;simp only[d,h]
  have g:∀k,kR s' k=kR s k:=λk=>by unfold kR;rw[h]
  have i:∀l c a,Sy49.room s' l c a=Sy49.room s l c a:=λl c a=>by unfold Sy49.room;simp only[d,h,f,g]
  have j:∀sd a b,AW s' sd a b=AW s sd a b:=λsd a b=>by unfold AW;simp only[d,h]
  unfold h8;rw[e,i,j,rC h r l,rC h r (l++ [(x.1,x.2+1)]),rC h r (l++ [x])]
def eF(s:G):G:=Dy {s with time:=s.time+1}
def Mc(s:G):eF s=aW.cK s:=by unfold eF Dy aW.cK;have e:h8 {s with time:=s.time+1} [] s.onIt=h8 s [] s.onIt:=rC (s:=s) (s':={s with time:=s.time+1}) I _ _;simp only[e]
def tk(m:Bool)(s:G):G:=if(m&& !mq (hE (eF s)))=ai then lb (hE (eF s))else hE (eF s)
structure p_(a b:G):Prop where
 turn:a.turn=b.turn
 spans:a.spans=b.spans
 waits:a.waits=b.waits
 onIt:a.onIt=b.onIt
 side:a.side=b.side
 gone:a.gone=b.gone
 time:a.time=b.time
 came:a.came=b.came
 past:a.past=b.past
def Wa{s s':G}(h:s'.spans=s.spans)(l:aa (F×Nat))(c:F)(a:Nat):Sy49.room s' l c a=Sy49.room s l c a:=by(have e:fQ s'=fQ s:=by unfold fQ;rw[h]);(have b:∀sd a,cj s' sd a=cj s sd a:=λsd a=>by unfold cj;rw[e]);(have d:∀l k,eY s' l k=eY s l k:=λl k=>by unfold eY;simp only[b,h]);(have f:∀k,kR s' k=kR s k:=λk=>by unfold kR;rw[h]);unfold Sy49.room;simp only[b,h,d,f]
def DA(m:Bool)(s:G):p_ (cn {s with shut:= !m}) (tk m s):=by(rw[aW.mC];have d:p_ (aW.cK {s with shut:= !m}) (eF s):=by rw[Mc];have e:h8 {s with shut:= !m} [] s.onIt=h8 s [] s.onIt:=rC (s:=s) (s':={s with shut:= !m}) I _ _;unfold aW.cK;refine#v[I,I,I,?_,I,I,I,I,?_];(show(h8 {s with shut:= !m} [] s.onIt).1=_;rw[e]);show s.past++(h8 {s with shut:= !m} [] s.onIt).2.map _=_;rw[e]);(have p:(aW.cK {s with shut:= !m}).shut= !m:=rfl;generalize aW.cK {s with shut:= !m}=a at d p;unfold tk;generalize eF s=f at d;have j:∀ {a f:G}(k:Nat),p_ a f->Sy49.first a k=Sy49.first f k:=λk h=>by unfold Sy49.first;rw[h.waits]);(have o:∀ {a f:G},p_ a f->mq a=mq f:=λ{a f} h=>by unfold mq;rw[h.side,j _ h,j _ h,h.turn,h.gone]);(have b:p_ (hE a) (hE f)/\(hE a).shut=a.shut:=by unfold hE;rw[o d,d.onIt,d.side];split;(exact#v[#v[d.turn,d.spans,d.waits,I,I,I,d.time,d.came,d.past],I]);exact#v[d,I]);(obtain⟨b,l⟩:=b;rw[p]at l;generalize hE a=n at b l;generalize hE f=g at b;have i:p_ (uJ n) (if(m&& !mq g)=ai then lb g else g):=by unfold uJ lb;rw[b.side,j _ b,o b,l,b.onIt];cases q:Sy49.first g g.side with|none=>simp only[ite_self];exact b|some c=>simp only;rw[Wa b.spans];cases m<;>cases mq g<;>cases Sy49.room g g.onIt c 0<;>simp;all_goals first|exact b|exact⟨b.turn,b.spans,by rw[b.waits],rfl,rfl,by show n.gone+1=g.gone+1;rw[b.gone],b.time,b.came,b.past⟩);exact#v[i.turn,i.spans,i.waits,i.onIt,i.side,i.gone,i.time,i.came,i.past]
section
def b9.rD{H:Hp}{L:LA}{s s':G}{j:aa VD}(h:b9 A H L s j)(e:p_ s' s):b9 A H L s' j:=by(obtain⟨l,b,c,d,m,n,o,f,p⟩:=e;have r:cX L s'=cX L s:=by unfold cX;rw[l,m,n,o]);(have g:∀k,bH s' k=bH s k:=λk=>by unfold bH;rw[c]);(have q:∀sd a,cj s' sd a=cj s sd a:=λsd a=>by unfold cj fQ;rw[b]);refine#v[by rw[r];exact h.obj,by rw[b];exact h.cs,by rw[b];exact h.lim,h.bX,h.wt,by rw[g];exact h.q0,by rw[g];exact h.q1,by rw[d];exact h.cr,by rw[f];exact h.b7,by rw[f];exact h.dN,h.d7,h.nd,h.hS,by rw[c];exact h.lw,λx i=>?_,by rw[p];exact h.lp];rw[d]at i;have:=h.lo x i;unfold ng at this⊢;rw[q];exact this
def b9.ui{H:Hp}{L:LA}{s s':G}{n:aa VD}{dl:U}(h:b9 A H L s n)(f:s'.spans=s.spans)(l:s'.waits=s.waits)(i:s'.onIt=s.onIt)(g:s'.came=s.came)(q:s'.past=s.past):b9 A (Y H L.l (.ins A.ak.C dl (cX L s'))) L s' n:=by(obtain⟨d0,p⟩:=h.obj;have b:∀ {c:U}{xs:aa V},H c=O (.lst xs)->(Y H L.l (.ins A.ak.C dl (cX L s'))) c=O (.lst xs):=λd=>by rw[aw (bC d p (by intro t;cases t))];exact d);(have j:∀k,bH s' k=bH s k:=λk=>by unfold bH;rw[l]);(have o:∀sd a,cj s' sd a=cj s sd a:=λsd a=>by unfold cj fQ;rw[f]);refine#v[#v[dl,az],by rw[f];exact b h.cs,by rw[f];exact b h.lim,b h.bX,b h.wt,by rw[j];exact b h.q0,by rw[j];exact b h.q1,by rw[i];exact b h.cr,by rw[g];exact h.b7,by rw[g];exact h.dN,hg.keep h.d7 λc d u r=>?_,h.nd,h.hS,by rw[l];exact h.lw,λx m=>?_,by rw[q];exact h.lp];(rw[aw (show c≠L.l fromλe=>h.nh (e▸d))];exact r);rw[i]at m;have:=h.lo x m;unfold ng at this⊢;rw[o];exact this
def Wb{H:Hp}{L:LA}{s:G}{g:aa VD}(h:b9 A H L s g){b c:U}(a:H b=aR)(d:b≠c):¬LF {L with cr:=c} b:=by obtain⟨d0,f⟩:=h.obj;rintro(e|e|e|e|e|e);(rw[show b=L.l from e,f]at a;cases a);(rw[show b=L.bX from e,h.bX]at a;cases a);(rw[show b=L.q0 from e,h.q0]at a;cases a);(rw[show b=L.q1 from e,h.q1]at a;cases a);(exact d e);exact h.rB a e
def Wc{L:LA}{a b:U}(h:¬LF L a)(c:a≠b):¬LF {L with cr:=b} a:=by rintro(e|e|e|e|e|e);(exact h (.inl e));(exact h (.inr (.inl e)));(exact h (.inr (.inr (.inl e))));(exact h (.inr (.inr (.inr (.inl e)))));(exact c e);exact h (.inr (.inr (.inr (.inr (.inr e)))))
inductive Wd(A:bF)(vs:aa V)(H:Hp)(Q:VK)(E:XK):Prop|mk(L:LA)(s:G)(a:aa VD)(m:Bool)(_:vs=[.ref L.l,.bl m])(_:aW.Ok s)(_:b9 A H L s a)(_:∀(H':Hp)(cr lf:U)(hq:aa VD),b9 A H' {L with cr:=cr} (cn {s with shut:= !m}) hq->(∀b o,H b=O o->¬LF L b->H' b=O o)->H cr=aR->H lf=aR->cr≠lf->H' lf=O (.lst ((h8 s [] s.onIt).2.map λc=>aB (c.id:Int)))->Q (.ref lf) H')
def Md:bf P w K mg aJ bq 4 A.ak.m4 A.ak.m5 ["self","may_enter"] (Wd A):=by(refine T.ak.pV.fn.bJ IU (λH vs ag E ad h=>?_);obtain⟨L,s,as,m,rfl,o,V,k⟩:=h;have ap:ew 1 _:=ad.mono (by decide);obtain⟨dl,an⟩:=V.obj;refine#v[_,ay (tD a7 bS tE) (ay (ba 2 IU.nd (cD a7 T.ak.c T.ak.I9 (V4 T) ad)) (ay (cN (vT (gP (cD a7 T.ak.c T.ak.CT (L_ T) ap)) (vS (cO fl (dE T.dW a0) bS (cm _)))).pt (ay (cF a7 (cS jv bS a0) I) (cR (cF a7 bS I))) c9) (ay (cN (vT (gP aS) (vS (k0 (gP (cD a7 T.ak.c T.ak.CT (L_ T) ap))))).pt (cR (e0 (cD a7 T.ak.c T.ak.I_ (V_ T) ad))) c9) (bc aY)))),I,an,T.ak.c.cl,T.ak.k_,Dx _ _,_,_,I,I,dl,_,an,(by show 10<1000;decide),?_];have aH:b9 A (Y H L.l (.ins A.ak.C dl (cX L {s with time:=s.time+1}))) L {s with time:=s.time+1} as:=V.ui I I I I I;have aP:aW.Ok {s with time:=s.time+1}:=#v[o.lC,o.mz,o.iA,o.gh,o.iB,o.lim,o.wW,o.wO,o.jr,o.iC,o.g4,o.pos,o.lt,o.fY,o.ids,o.ord,o.most];refine#v[L.l,dl,cX L {s with time:=s.time+1},I,az,I,L,{s with time:=s.time+1},as,I,aP,aH,λC b l g aK aG n p N aO=>?_];have aN:b≠L.l:=λe=>by rw[e,az]at n;cases n);(have al:l≠L.l:=λe=>by rw[e,az]at p;cases p);(rw[aw aN]at n;rw[aw al]at p;have af:aW.Ok (eF s):=by rw[Mc];exact o.cK);(have r:b9 A C {L with cr:=b} (eF s) g:=aK;have Z:C l=O (.lst ((h8 s [] s.onIt).2.map λc=>aB (c.id:Int))):=by rw[aO,rC (s:=s) (s':={s with time:=s.time+1}) I]);(have U:∀a u,H a=O u->¬LF L a->C a=O u:=λa u j d=>aG a u (by rw[aw (show a≠L.l fromλe=>d (.inl e))];exact j) (λe=>d (.inl e)) (λe=>d (.inr (.inr (.inr (.inr (.inr e))))));obtain⟨y,Q⟩:=r.obj;have R:∀(i:Hp)(q:G),q=hE (eF s)->b9 A i {L with cr:=b} q g->(∀a u,H a=O u->¬LF L a->i a=O u)->i l=O (.lst ((h8 s [] s.onIt).2.map λc=>aB (c.id:Int)))->(GL (GO (BR (tB (b8 1)) (GH (tB (n6 A.ak.C "is_turn_over" (L9 A) [] E0 (b8 0) fo)))) (GN (n6 A.ak.C "let_first_enter" (Mb A) [] E0 (b8 0) fo)) GK) (tj (b8 2)):TS) {nx:=λ_ av=>ag .non av,rt:=ag} [O (.ref L.l),O (.bl m),O (.ref l)] i:=by(intro i q J f S ac;have ar:aW.Ok q:=by rw[J];exact af.turned);obtain⟨ah,ao⟩:=f.obj;refine#v[_,I,cg (λt=>?_) (λt=>?_)];(refine#v[L.l,ah,_,I,ao,I,{L with cr:=b},q,g,I,ar.g4,f,_,I,?_];cases v:mq q with|false=>refine de ?_;refine#v[L.l,ah,_,I,ao,I,{L with cr:=b},q,g,I,ar,f,λaC aQ aL ak=>?_];refine(k aC b l aQ (aL.rD ?_) (λa u j d=>ak a u (S a u j d) (Wc d (λe=>by rw[e,n]at j;cases j))) n p N (ak _ _ ac (Wb V p N.symm)));have e:=DA m s;unfold tk at e;rw[<-J,v,t]at e;rw[t];exact e|true=>refine eJ ?_;refine(k i b l g (f.rD ?_) S n p N ac);have e:=DA m s;unfold tk at e;rw[<-J,v,t]at e;rw[t];exact e);have am:m=ax:=(by cases m with|false=>rfl|true=>exact absurd I t);refine eJ ?_;refine(k i b l g (f.rD ?_) S n p N ac);have e:=DA m s;unfold tk at e;rw[<-J,am]at e;rw[am];exact e);refine#v[L.l,y,_,I,Q,I,{L with cr:=b},eF s,g,I,af.g4,r,_,I,cg (λv=>?_) (λv=>?_)];(refine#v[I,Q,T.ak.c.cl,T.ak.i6,oF _ _,_,_,I,.inl (aA.of r.cr),I,_,I,cg (λW=>?_) (λW=>?_)];((have X:(eF s).onIt=[]:=(by have:((eF s).onIt.map λx=>cY {L with cr:=b} x.1.id).length=0:=(by have h':((((eF s).onIt.map λx=>cY {L with cr:=b} x.1.id).length:Nat):Int)=0:=(by simpa using W);lia);rw[aq]at this;exact rX.mp this);have z:hE (eF s)={eF s with side:=1-(eF s).side,gone:=0}:=(by unfold hE;rw[aI #v[v,X]]);have aV:=af.g4;refine#v[I,Q,T.ak.c.cl,T.ak.m6,zg _ _,_,_,I,I,L.l,_,y,_,I,Q,T.ak.c.cl,T.ak.m6,(by show 10<1000;decide),L.l,_,y,_,I,az,T.ak.c.cl,T.ak.pU,(by show 10<1000;decide),?_];rw[eS];have aF:cz "entered" (aB 0) (cz "open_side" (aB (1-((eF s).side:Int))) (cX {L with cr:=b} (eF s)))=cX {L with cr:=b} {eF s with side:=1-(eF s).side,gone:=0}:=by have aE:(1:Int)-((eF s).side:Int)=((1-(eF s).side:Nat):Int):= ∅;rw[aE];rfl);have f:b9 A (Y C L.l (.ins A.ak.C y (cX {L with cr:=b} {eF s with side:=1-(eF s).side,gone:=0}))) {L with cr:=b} {eF s with side:=1-(eF s).side,gone:=0} g:=r.ui (dl:=y) I I I I I;rw[<-aF]at f;refine R _ _ z.symm f (λa u j d=>?_) ?_;(rw[aw (show a≠L.l fromλe=>d (.inl e))];exact U a u j d);rw[aw al];exact Z);(have X:¬(eF s).onIt=[]:=λB=>W (by rw[B];simp);have z:hE (eF s)=eF s:=by unfold hE;rw[aD (λB=>X B.2)]);exact R _ _ z.symm r U Z);have z:hE (eF s)=eF s:=(by unfold hE;rw[aD (λB=>v B.1)]);refine eJ ?_;exact R _ _ z.symm r U Z
def We(l:aa Nat):aK l=(l.map λ(n:Nat)=>(n:Int)).map aB:=by unfold aK;rw[ck];rfl
inductive Wf(A:bF)(vs:aa V)(H:Hp)(Q:VK)(E:XK):Prop|mk(L:LA)(s:G)(a:U)(_:vs=[.ref L.l])(_:H L.l=O (.ins A.ak.C a (cX L s)))(_:H L.lim=O (.lst (aK (s.spans.map λx=>x.2))))(_:1<=s.spans.length)(_:Q (.int (gd s:Nat)) H)
def Me:bf P w K mg aJ bq 1 A.ak.wU A.ak.w_ ["self"] (Wf A):=by(refine T.ak.CQ.fn.bJ UT (λH vs _ E _ h=>?_);obtain⟨L,s,dl,rfl,q,l,a,k⟩:=h;refine#v[_,bc (iY (tK I) (by rfl) T.uf (by rfl) (aQ a0)),I,q,T.ak.c.cl,T.ak.rl,LZ _ _,L.lim,(s.spans.map λx=>x.2).map (λ(n:Nat)=>(n:Int)),I,aA.of (by rw[l,We]),by rw[aq,aq];exact a,λm o j=>?_];obtain⟨n,p,rfl⟩:=bM.mp o;obtain⟨x,r,rfl⟩:=bM.mp p;obtain⟨d,t,e⟩:=bw.Ro a;have g:=j _ (bM.mpr #v[_,bM.mpr #v[d,t,I],I]);obtain⟨i,c,f⟩:=fx r;have b:=aW.least_le s c;unfold kR at b;simp only[dt,b_ c,rY,f]at b;have:x.2=gd s:=by have u:(x.2:Int)<=(d.2:Int):=g;lia);rw[this];exact k
inductive Wg(A:bF)(vs:aa V)(H:Hp)(Q:VK)(E:XK):Prop|mk(L:LA)(s:G)(a:aa VD)(_:vs=[.ref L.l])(_:b9 A H L s a)(_:(∀c∈s.waits,c.side<=1))(_:Q (.int (s.waits.length:Nat)) H)
def Wh:bf P w K mg aJ bq 1 A.ak.wV A.ak.xa ["self"] (Wg A):=by(refine T.ak.I6.fn.bJ UU (λH vs c E _ h=>?_);obtain⟨L,s,_,rfl,a,f,k⟩:=h;obtain⟨dl,b⟩:=a.obj;refine#v[_,bc (cS kq (dE T.dW (cC d9 a0 (bG T.zb) (λ_ _=>rfl))) (dE T.dW (cC d9 a0 (bG T.Vt) (λ_ _=>rfl)))),I,b,T.ak.c.cl,T.ak.kC,p9 _ _,L.wt,_,_,_,I,I,aA.of a.wt,fw (j:=0) (v:=.ref L.q0) I I,_,_,I,.inl (aA.of a.q0),I,b,T.ak.c.cl,T.ak.kC,p9 _ _,L.wt,_,_,_,I,I,aA.of a.wt,fw (j:=1) (v:=.ref L.q1) I I,_,_,I,.inl (aA.of a.q1),_,_,I,I,?_];rw[aq,aq];have e:=bw.Rp s.waits f;have d:(((bH s 0).length:Nat):Int)+((bH s 1).length:Nat)=((s.waits.length:Nat):Int):=by unfold bH;lia);show c (aB ((((bH s 0).length:Nat):Int)+((bH s 1).length:Nat))) H;rw[d];exact k
inductive Wi(A:bF)(vs:aa V)(H:Hp)(Q:VK)(E:XK):Prop|mk(p a:U)(n c d:Nat)(_:vs=[.ref p,.int n,.int c,.int d])(_:H p=O (.ins A.aP.C a []))(_:∀H':Hp,H' p=O (.ins A.aP.C a (fK n ⟨c,d,0,0,0⟩))->(∀b o,H b=O o->b≠p->H' b=O o)->Q .non H')
def Mf:bf P w K mg aJ bq 1 A.aP.dj A.aP.ee ["self","number","side","weight"] (Wi A):=by refine T.aP.ft.fn.bJ UQ (λH vs _ E _ h=>?_);obtain⟨p,dx,n,sd,_,rfl,d,k⟩:=h;refine#v[_,ay (cF a7 aS I) (ay (cF a7 aY I) (ay (cF a7 (pv 3) I) (ay (cF a7 (bG T.uc) I) (ay (cF a7 bS I) (cR (cF a7 bS I)))))),p,_,dx,_,I,d,T.aP.c.cl,T.aP.m3,(by show 0<1000;decide),p,_,dx,_,I,az,T.aP.c.cl,T.aP.rd,(by show 1<1000;decide),?_];rw[eS];refine#v[p,_,dx,_,I,az,T.aP.c.cl,T.aP.rf,(by show 2<1000;decide),?_];rw[eS];refine#v[p,_,dx,_,I,az,T.aP.c.cl,T.aP.gU,(by show 3<1000;decide),?_];rw[eS];refine#v[p,_,dx,_,I,az,T.aP.c.cl,T.aP.jB,(by show 4<1000;decide),?_];rw[eS];refine#v[p,_,dx,_,I,az,T.aP.c.cl,T.aP.rg,(by show 5<1000;decide),?_];rw[eS];refine k _ (by rw[az];rfl) λ_ o a c=>by rw[aw c];exact a
def uj(s:G)(sd a:Nat):G:={s with waits:=s.waits++ [⟨s.came,sd,a⟩],came:=s.came+1}
inductive Wj(A:bF)(vs:aa V)(H:Hp)(Q:VK)(E:XK):Prop|mk(L:LA)(s:G)(a:aa VD)(c d:Nat)(_:vs=[.ref L.l,.int c,.int d])(_:c<=1)(_:s.came<60)(_:s.waits.length<=s.came)(_:aW.Ok s)(_:b9 A H L s a)(_:∀(H':Hp)(p:U),b9 A H' {L with vs:=L.vs++ [p]} (uj s c d) (a++ [⟨c,d,0,0,0⟩])->(∀b o,H b=O o->¬LF L b->H' b=O o)->H p=aR->Q (.int (s.came:Nat)) H')
def Mg{L:LA}{p:U}{i:Nat}(h:i<L.vs.length):cY {L with vs:=L.vs++ [p]} i=cY L i:=by unfold cY;show aT ((L.vs++ [p]).getD i 0)=_;simp[dt,il h]
def Wk:bf P w K mg aJ bq 3 A.ak.wX A.ak.xb ["self","side","weight"] (Wj A):=by(refine T.ak.I7.fn.bJ IP (λH vs _ E a7 h=>?_);obtain⟨L,s,N,sd,q,rfl,X,_,_,o,a,k⟩:=h;obtain⟨dl,t⟩:=a.obj;have bn:=bZ;refine#v[_,ay (ba 3 IP.nd (lL T.aP.c.k9 (Mf T) a7 I T.aP.c.at_ T.aP.ft.bi .nil g_ (dm (dE T.dW a0) (cv aS aY)))) (ay (e0 (gF gL mm mn lM a0 (aQ (pv 3)))) (ay (e0 (gF gL mm mn lM (cC d9 a0 aS (λ_ _=>rfl)) (aQ (pv 3)))) (bc (aX (pv 3))))),I,t,T.ak.c.cl,T.ak.hQ,Dz _ _,_,_,I,.inl (aA.of a.bX),?_];intro p dx np bb _;rw[aq,a.b7];refine#v[p,dx,s.came,sd,q,I,az,λH1 ag a8=>#v[I,?_]];have l:Z H H1:=Z.made np bb a8;have J:=a.q X;obtain⟨bd,be,ap,bg,bh,bi,bk⟩:=uh a X;have al:=l _ _ a.bX;refine#v[I,l _ _ t,T.ak.c.cl,T.ak.hQ,Dz _ _,.inl #v[I,_,aA.of al],L.bX,_,_,I,I,al,(by rw[aq,a.b7];lia),?_];have am:L.l≠L.bX:=(bC a.bX t (by intro r;cases r)).symm;have an:p≠L.bX:=λe=>by rw[e,a.bX]at np;cases np);(have ao:p≠L.q sd:=λe=>by rw[e,J]at np;cases np);(have ah:(Y H1 L.bX (.lst (L.vs.map aT++ [.ref p]))) (L.q sd)=O (.lst ((bH s sd).map λc=>cY L c.id)):=by rw[aw ap];exact l _ _ J);(have bm:(bH s sd).length<=s.waits.length:=iq _ _;refine#v[I,(by rw[aw am];exact l _ _ t),T.ak.c.cl,T.ak.kC,p9 _ _,L.wt,_,_,_,I,I,aA.of (show(Y H1 L.bX (.lst (L.vs.map aT++ [.ref p]))) L.wt=_ by rw[aw (show L.wt≠L.bX fromλe=>by have z:=a.nd;simp only[fD,bL,hI]at z;exact z.2.2.1.1 e.symm)];exact l _ _ a.wt),eD (oH L X),.inl #v[I,_,aA.of ah],L.q sd,_,_,I,I,ah,(by rw[aq];lia),I,(by rw[aw ao,aw an];exact ag),T.aP.c.cl,T.aP.m3,rA _ _,?_];have af:∀c∈s.waits,c.id<L.vs.length:=λc j=>by rw[a.b7];exact dF.ia o (.inl #v[c,j,I]));(have ad:∀x∈s.onIt,x.1.id<L.vs.length:=λc j=>by rw[a.b7];exact dF.ia o (.inr (.inl #v[c,j,I])));(have aV:∀x∈s.past,x.id<L.vs.length:=λc j=>by rw[a.b7];exact dF.ia o (.inr (.inr #v[c,j,I])));(have aW:cY {L with vs:=L.vs++ [p]} s.came=aT p:=by unfold cY;show aT ((L.vs++ [p]).getD s.came 0)=_;rw[<-a.b7];simp[dt]);(have R:∀i,i<L.vs.length->(N++ [(#v[sd,q,0,0,0]:VD)]).getD i cL=N.getD i cL:=λi v=>by rw[a.b7,<-a.dN]at v;simp[dt,il v]);(have B:∀ {m:U}{xs:aa V},H m=O (.lst xs)->m≠L.bX->m≠L.q sd->(Y (Y H1 L.bX (.lst (L.vs.map aT++ [.ref p]))) (L.q sd) (.lst (((bH s sd).map λc=>cY L c.id)++ [.ref p]))) m=O (.lst xs):=λS g aN=>by rw[aw aN,aw g];exact l _ _ S);(have z:=a.nd;simp only[fD,bL,hI,ff,pf,ph]at z;obtain⟨⟨_,ar,_,_,_,_⟩,⟨as,_,_,_,_⟩,⟨av,_,_,aC⟩,⟨_,_,_⟩,⟨_,_⟩,_,_⟩:=z;have ak:∀b,b<=1->(Y (Y H1 L.bX (.lst (L.vs.map aT++ [.ref p]))) (L.q sd) (.lst (((bH s sd).map λc=>cY L c.id)++ [.ref p]))) (L.q b)=O (.lst ((bH (uj s sd q) b).map λc=>cY {L with vs:=L.vs++ [p]} c.id)):=λb ac=>by(have aK:bH (uj s sd q) b=bH s b++(if sd=b then[#v[s.came,sd,q]]else[]):=by unfold bH uj;rw[nX];congr 1;by_cases e:sd=b;(simp[e]);simp[e]);have aL:(bH s b).map (λc=>cY {L with vs:=L.vs++ [p]} c.id)=(bH s b).map λc=>cY L c.id:=rz λc j=>Mg (af c (c0.mp j).1);rw[aK,dY,aL];by_cases e:sd=b;(subst e;rw[az,aI I];show _=O (cT (_++ [cY {L with vs:=L.vs++ [p]} s.came]));rw[aW]);(rw[aD e];have aH:b=1-sd:=by lia);rw[B (a.q ac) (uh a ac).2.2.1 (by rw[aH];exactλf=>bi f.symm)];simp);refine k _ p #v[#v[dl,by rw[aw (bC J t (by intro r;cases r)).symm,aw am];exact l _ _ t],B a.cs ar bd.symm,B a.lim as be.symm,by rw[aw ap.symm,az];show _=O (cT ((L.vs++ [p]).map aT));rw[dY];rfl,B a.wt (λe=>av e.symm) bg.symm,ak 0 ∅,ak 1 ∅,?_,by show(L.vs++ [p]).length=s.came+1;rw[cV,a.b7];rfl,by show(N++ [_]).length=s.came+1;rw[cV,a.dN];rfl,?_,a.nd,?_,λc j=>?_,λx n=>?_,λx n=>?_] (λm u S W=>?_) np;(rw[B a.cr (λe=>aC e.symm) bh.symm];congr 2;exact(rz λx n=>Mg (ad x n)).symm);(intro i f d a2 C;have y:(L.vs++ [p])[i]? =O f:=a2;by_cases v:i<L.vs.length;(rw[il v]at y;rw[il (by rw[a.dN,<-a.b7];exact v)]at C;obtain⟨aE,g⟩:=a.d7 i f d y C;refine#v[aE,?_];rw[aw (bC g J (by intro r;cases r)),aw (bC g a.bX (by intro r;cases r))];exact l _ _ g);(have aP:=(cM.mp y).1;rw[cV,iM]at aP;have e:i=L.vs.length:=by lia);subst e;rw[je (bp _),j9]at y;rw[a.b7,<-a.dN,je (bp _),j9]at C;have aF:p=f:=aM y;have aG:(#v[sd,q,0,0,0]:VD)=d:=aM C;subst aF aG;refine#v[dx,?_];rw[aw ao,aw an,a.b7];exact ag);(exact tV a.hS (a.rB np));(rcases dh.mp j with g|g;(rw[R _ (af c g)];exact a.lw c g);rw[c_.mp g];show Dv _ ((N++ [(#v[sd,q,0,0,0]:VD)]).getD s.came cL);rw[<-a.dN];simp[dt,Dv]);(have:=a.lo x n;rw[R _ (ad x n)];exact this);(rw[R _ (aV x n)];exact a.lp x n);(have aO:m≠L.q sd:=by rcases bk with e|e;(rw[e];exactλf=>W (.inr (.inr (.inl f))));rw[e];exactλf=>W (.inr (.inr (.inr (.inl f)))));rw[aw aO,aw (show m≠L.bX fromλf=>W (.inr (.inl f)))];exact l _ _ S
end
structure fL(s:G):Prop where
 ids:(s.waits.map (λ(c:F)=>c.id)++(s.onIt.map (λ(x:F×Nat)=>x.1.id)++s.past.map λ(p:eG)=>p.id)).Perm (bQ s.came)
 side:∀c∈s.waits,c.side<=1
 ord:s.waits.Pairwise λx y=>x.id<y.id
def fL.of{s:G}(o:aW.Ok s):fL s:=#v[o.ids,o.jr,o.ord]
def fL.nd{s:G}(o:fL s):(s.waits.map (λ(c:F)=>c.id)++(s.onIt.map (λ(x:F×Nat)=>x.1.id)++s.past.map λ(p:eG)=>p.id)).Nodup:=o.ids.nodup_iff.mpr Eg
def fL.uk{s:G}(o:fL s):(s.waits.map λ(c:F)=>c.id).Nodup:=(hB.mp o.nd).1
def fL.Wl{s:G}(o:fL s){c:F}(a:c∈s.waits):∀x∈s.onIt,x.1.id≠c.id:=λx b d=>(hB.mp o.nd).2.2 _ (gr (f:=λ(c:F)=>c.id) a) _ (j_ _ (gr (f:=λ(x:F×Nat)=>x.1.id) b)) d.symm
def fL.Wm{s:G}(o:fL s){c:F}(a:c∈s.waits):∀x∈s.past,x.id≠c.id:=λx b d=>(hB.mp o.nd).2.2 _ (gr (f:=λ(c:F)=>c.id) a) _ (gJ _ (gr (f:=λ(x:eG)=>x.id) b)) d.symm
def fL.lt{s:G}(o:fL s){c:F}(a:c∈s.waits):c.id<s.came:=gu.mp (o.ids.subset (j_ _ (gr (f:=λ(c:F)=>c.id) a)))
def qa(s:G)(fA:Nat)(c:F):G:={s with waits:=s.waits.filter λ(x:F)=>x.id !=c.id,past:=s.past++ [⟨c.id,fA,s.time⟩]}
def fL.away{s:G}(o:fL s){fA:Nat}{c:F}(b:c∈s.waits):fL (qa s fA c):=by refine#v[?_,λx d=>o.side x (c0.mp d).1,o.ord.filter _];refine lX ?_ o.ids;show((s.waits.filter λ(x:F)=>x.id !=c.id).map (λ(c:F)=>c.id)++(s.onIt.map (λ(x:F×Nat)=>x.1.id)++(s.past++ [(#v[c.id,fA,s.time]:eG)]).map λ(p:eG)=>p.id)).Perm _;rw[dY];have a:=aW.pC s.waits c b o.uk;refine lX ?_ (a.append_right _);show(_++(_++(_++ [c.id]))).Perm (c.id::_++_);rw[<-gq,<-gq];refine rV.trans ?_;simp
section
inductive Wn(A:bF)(vs:aa V)(H:Hp)(Q:VK)(E:XK):Prop|mk(L:LA)(s:G)(a:aa VD)(c:F)(p:U)(d:Nat)(_:vs=[.ref L.l,.ref p,.int ((d+2:Nat):Int)])(_:fL s)(_:s.waits.length<=60)(_:b9 A H L s a)(_:c∈s.waits)(_:L.vs[c.id]? =O p)(_:∀(H':Hp)(hq:aa VD),b9 A H' L (qa s d c) hq->(∀b o,H b=O o->¬LF L b->H' b=O o)->(∀b o,H b=O o->b≠L.q0->b≠L.q1->b≠p->H' b=O o)->(∀k,k≠c.id->hq.getD k cL=a.getD k cL)->Q .non H')
def Mh:bf P w K mg aJ bq 1 A.ak.wY A.ak.xc ["self","vehicle","status"] (Wn A):=by(refine T.ak.CS.fn.bJ UW (λH vs _ E a1 h=>?_);obtain⟨L,s,aq,c,p,fA,rfl,o,_,a,q,v,k⟩:=h;obtain⟨dl,z⟩:=a.obj;have bd:=bZ;have ag:=o.lt q;have R:=o.side c q;obtain⟨t,B⟩:=a.d7 _ p _ v (f5 (by rw[a.dN];exact ag));obtain⟨J,ar,as⟩:=a.lw c q;generalize bc:aq.getD c.id cL=d at B J ar as;have ac:p∈L.vs:=dJ v;have y:=a.q R;obtain⟨a4,a5,a6,a7,a8,ba,ap⟩:=uh a R;refine#v[_,ay (e0 (gF gL PF PySem.F.type_list_remove (UH (k7 a1)) (cC d9 a0 (aX aS) (λ_ _=>rfl)) (aQ aS))) (ay (cF aS aY I) (cR (cF aS a0 I))),?_];have aO:c∈bH s c.side:=c0.mpr #v[q,by simp];obtain⟨j,aP,aG⟩:=fx aO;have S:(bH s c.side)[j]? =O c:=by rw[b_ aP,aG]);(have al:((bH s c.side).map λ(c:F)=>c.id).Nodup:=sC (AX _ u_) o.uk;have a2:((bH s c.side).map λc=>cY L c.id)=((bH s c.side).map λc=>L.vs.getD c.id 0).map aT:=by rw[ck];rfl);(have aW:H (L.q c.side)=O (.lst (((bH s c.side).map λc=>L.vs.getD c.id 0).map aT)):=by rw[y,a2]);(have ah:∀x∈bH s c.side,x.id<L.vs.length:=λx b=>by rw[a.b7];exact o.lt (c0.mp b).1);refine#v[I,z,T.ak.c.cl,T.ak.kC,p9 _ _,I,B,T.aP.c.cl,T.aP.rd,Dt _ _,L.wt,_,_,_,I,I,aA.of a.wt,eD (oH L (by rw[J];exact R)),?_];rw[J];refine#v[.inl #v[I,_,aA.of y],L.q c.side,A.aP.C,p,(bH s c.side).map (λc=>L.vs.getD c.id 0),j,I,I,aW,T.aP.c.eq,λf aV=>?_,?_,λm _ e=>?_,?_];(obtain⟨x,b,rfl⟩:=bM.mp aV;have C:=ah x b;obtain⟨av,g⟩:=a.d7 x.id _ _ (gW C) (f5 (by rw[a.dN,<-a.b7];exact C));exact#v[av,_,g]);(rw[bN,S];show O (L.vs.getD c.id 0)=O p;simp[dt,v]);(rw[bN]at e;cases b:(bH s c.side)[m]?with|none=>rw[b]at e;cases e|some x=>rw[b]at e;have aC:L.vs.getD x.id 0=p:=aM e;have C:=ah x (dJ b);have af:=gW C;rw[aC]at af;have aE:=jz a.hS af v;have bb:m=j:=jz al (x:=c.id) (by rw[bN,b];show O x.id=_;rw[aE]) (by rw[bN,S];rfl);lia);(have an:p≠L.q c.side:=bC B y (by intro ad;cases ad);have am:L.l≠p:=λe=>a.nh (e▸ac);have ao:L.l≠L.q c.side:=(bC y z (by intro ad;cases ad)).symm;refine#v[p,_,t,_,I,(by rw[aw an];exact B),T.aP.c.cl,T.aP.gU,(by show 6<1000;decide),I,(by rw[aw am,aw ao];exact z),T.ak.c.cl,T.ak.k_,Dx _ _,p,_,t,_,I,az,T.aP.c.cl,T.aP.rg,(by show 6<1000;decide),?_];rw[eS];have aF:(((bH s c.side).map λc=>L.vs.getD c.id 0).eraseIdx j).map aT=((bH s c.side).filter λ(x:F)=>x.id !=c.id).map λc=>cY L c.id:=by rw[wG,ck,bw.erase_filter _ j c al S];rfl);(rw[aF];have r:∀ {l:U}{xs:aa V},H l=O (.lst xs)->l≠L.q c.side->(Y (Y H (L.q c.side) (.lst (((bH s c.side).filter λ(x:F)=>x.id !=c.id).map λc=>cY L c.id))) p (.ins A.aP.C t (cz "ended" (.int s.time) (cz "status" (.int ((fA+2:Nat):Int)) (fK c.id d))))) l=O (.lst xs):=λ{l xs} n g=>by rw[aw (show l≠p fromλe=>a.la n (e▸ac)),aw g];exact n);(have ak:∀i,i<=1->(Y (Y H (L.q c.side) (.lst (((bH s c.side).filter λ(x:F)=>x.id !=c.id).map λc=>cY L c.id))) p (.ins A.aP.C t (cz "ended" (.int s.time) (cz "status" (.int ((fA+2:Nat):Int)) (fK c.id d))))) (L.q i)=O (.lst ((bH (qa s fA c) i).map λc=>cY L c.id)):=λi W=>by have aK:bH (qa s fA c) i=(bH s i).filter λ(x:F)=>x.id !=c.id:=bw.Rq s.waits c i;rw[aK];by_cases e:c.side=i;(subst e;rw[aw an.symm,az]);have aH:i=1-c.side:= ∅;rw[r (a.q W) (by rw[aH];exactλf=>ba f.symm)];have:=bw.Rr o.uk q e;show O (cT ((bH s i).map _))=O (cT (((s.waits.filter λ(x:F)=>x.side==i).filter λ(x:F)=>x.id !=c.id).map _));rw[this];rfl);refine k _ (aq.set c.id { {d with status:=fA+2}with ended:=s.time}) #v[#v[dl,by rw[aw am,aw ao];exact z],r a.cs a4.symm,r a.lim a5.symm,r a.bX a6.symm,r a.wt a7.symm,ak 0 ∅,ak 1 ∅,r a.cr a8.symm,a.b7,by rw[o6];exact a.dN,hg.set a.d7 a.hS v #v[t,by rw[az];rfl] (λl n Z u a3=>?_),a.nd,a.hS,λx b=>?_,λx b=>?_,λx b=>?_] (λl u n X=>?_) (λl u n aL g Z=>?_) (λi W=>?_);(rw[aw Z,aw (show l≠L.q c.side fromλe=>a.la y (e▸n))];exact a3);((have g:=c0.mp b;have aN:x.id≠c.id:=by simpa using g.2);rw[iH,aD (show¬(c.id=x.id/\_)fromλf=>aN f.1.symm)];exact a.lw x g.1);(rw[iH,aD (show¬(c.id=x.1.id/\_)fromλf=>o.Wl q x b f.1.symm)];exact a.lo x b);(rcases dh.mp b with g|g;(rw[iH,aD (show¬(c.id=x.id/\_)fromλf=>o.Wm q x g f.1.symm)];exact a.lp x g);rw[c_.mp g,iH,aI #v[I,by rw[a.dN];exact ag]];exact#v[I,I]);((have N:l≠L.q c.side:=by rcases ap with e|e;(rw[e];exactλf=>X (.inr (.inr (.inl f))));rw[e];exactλf=>X (.inr (.inr (.inr (.inl f)))));rw[aw (show l≠p fromλe=>X (.inr (.inr (.inr (.inr (.inr (e▸ac))))))),aw N];exact n);((have N:l≠L.q c.side:=by rcases ap with e|e;(rw[e];exact aL);rw[e];exact g);rw[aw Z,aw N];exact n);rw[iH,aD (show¬(c.id=i/\_)fromλf=>W f.1.symm)]
end
def Mi:∀ {a b:aa Nat},a.Pairwise (·<·)->b.Pairwise (·<·)->(∀x,x∈a↔x∈b)->a=b
 | [],[],_,_,_=>rfl
 | [],d::b,_,_,h=>absurd ((h d).mpr (cc ..)) (by simp)
 |x::a,[],_,_,h=>absurd ((h x).mp (cc ..)) (by simp)
 |x::a,d::b,f,g,h=>by
  rw[ja]at f g;have e:x=d:=by
   rcases bL.mp ((h x).mp (cc ..))with e|e
   ·exact e
   ·rcases bL.mp ((h d).mpr (cc ..))with j|j
    ·exact j.symm
    ·have k:=g.1 x e;have l:=f.1 d j;lia
  subst e;rw[Mi f.2 g.2 λi=>?_];constructor
  ·intro c;rcases bL.mp ((h i).mp (cw _ c))with e|e
   ·have:=f.1 i c;lia
   ·exact e
  ·intro c;rcases bL.mp ((h i).mpr (cw _ c))with e|e
   ·have:=g.1 i c;lia
   ·exact e
def Wo(n:Nat):(bQ n).Pairwise (·<·):=PN
def map_range{a b:Type}(l:aa a)(d:a)(f:a->b):l.map f=(bQ l.length).map λi=>f (l.getD i d):=by apply pj;intro i;rw[bN,bN];by_cases h:i<l.length;(rw[b_ h,h9 h];simp[dt,b_ h]);rw[gK ∅,gK (by rw[et];lia)];rfl
def kE(s:G)(fA:Nat)(a:aa F):G:={s with waits:=s.waits.filter λ(x:F)=>!(a.map λ(c:F)=>c.id).contains x.id,past:=s.past++a.map λ(c:F)=>(⟨c.id,fA,s.time⟩:eG)}
def DB(s:G)(fA:Nat):kE s fA []=s:=by(unfold kE;have:s.waits.filter (λ(x:F)=>!(([]:aa F).map λ(c:F)=>c.id).contains x.id)=s.waits:=by rw[rT];intro x _;rfl);rw[this];simp
def DC(s:G)(fA:Nat)(d:aa F)(c:F):qa (kE s fA d) fA c=kE s fA (d++ [c]):=by unfold qa kE;simp only[r3,dY,gq,cI,oO];congr 1;apply nG;intro x _;rw[ip];simp;constructor;(rintro⟨a,b⟩;exact#v[b,a]);rintro⟨a,b⟩;exact#v[b,a]
def Mj{s:G}(o:fL s){fA:Nat}{l:aa F}(h:∀c∈l,c∈s.waits):kE s fA l=hF s fA l:=by unfold kE hF;congr 1;apply nG;intro x d;congr 1;rw[ip];rw[z4,z4];constructor;(intro a;obtain⟨c,b,e⟩:=bM.mp a;rw[<-bw.By o.uk (h c b) d e];exact b);intro a;exact gr (f:=λ(c:F)=>c.id) a
def ig(s:G)(a:aa Nat):G:={s with spans:=(s.spans.zip a).map λx=>(x.1.1,x.2)}
def Ml:∀(l:aa (Nat×Nat))(a:aa Nat),a.length=l.length->((l.zip a).map λx=>(x.1.1,x.2)).map (λ(x:Nat×Nat)=>x.1)=l.map λ(x:Nat×Nat)=>x.1
 | [],_,_=>by simp
 |x::l,[],h=>by simp at h
 |x::l,b::a,h=>by simp only[AU,cI];rw[Ml l a (by simpa using h)]
def Mm:∀(l:aa (Nat×Nat))(a:aa Nat),a.length=l.length->((l.zip a).map λx=>(x.1.1,x.2)).map (λ(x:Nat×Nat)=>x.2)=a
 | [],[],_=>rfl
 | [],b::a,h=>by simp at h
 |x::l,[],h=>by simp at h
 |x::l,b::a,h=>by simp only[AU,cI];rw[Mm l a (by simpa using h)]
def Mn:∀(a b:aa (Nat×Nat))(k:Nat),a.map (λ(x:Nat×Nat)=>x.1)=b.map (λ(x:Nat×Nat)=>x.1)->bw.ec k a=bw.ec k b
 | [],[],_,_=>rfl
 | [],c::b,_,h=>by simp at h
 |x::a,[],_,h=>by simp at h
 |x::a,c::b,k,h=>by simp only[cI,List.cons.injEq]at h;unfold bw.ec;rw[h.1,Mn a b (k+1) h.2]
def ih(s:G):aa F:=s.waits.filter λ(c:F)=>decide (gd s<c.weight)
section
def Wq{H:Hp}{L:LA}{s:G}{b:aa VD}(o:fL s)(f:b9 A H L s b)(g:Nat):hA (L.vs.map aT) (b.map λd=>decide (d.status=0)&&decide (g<d.weight))=(s.waits.filter λ(c:F)=>decide (g<c.weight)).map λc=>cY L c.id:=by(rw[map_range L.vs 0 aT,map_range b cL,f.b7,f.dN,p8];have e:(bQ s.came).filter (λi=>decide ((b.getD i cL).status=0)&&decide (g<(b.getD i cL).weight))=(s.waits.filter λ(c:F)=>decide (g<c.weight)).map λ(c:F)=>c.id:=by refine Mi ((Wo _).filter _) ?_ λi=>?_;(rw[ik];exact o.ord.filter _);constructor;((intro n;obtain⟨j,h⟩:=c0.mp n;rw[oS]at h;have p:(b.getD i cL).status=0:=jd h.1;have r:g<(b.getD i cL).weight:=jd h.2;rcases dh.mp (o.ids.symm.subset j)with l|l);(obtain⟨c,k,rfl⟩:=bM.mp l;have a:=f.lw c k;exact bM.mpr #v[c,c0.mpr #v[k,by rw[fh,<-a.2.1];exact r],I]);rcases dh.mp l with m|m;(obtain⟨x,q,rfl⟩:=bM.mp m;have a:=f.lo x q;rw[a.2.2.1]at p;cases p);obtain⟨x,q,rfl⟩:=bM.mp m;have a:=f.lp x q;rw[a.1]at p;lia);intro n;obtain⟨c,k,rfl⟩:=bM.mp n;obtain⟨j,h⟩:=c0.mp k;have a:=f.lw c j;refine c0.mpr #v[gu.mpr (o.lt j),?_];rw[a.2.2,a.2.1,eP I,nA];exact h);rw[e,ck];rfl
def b9.Wr{H:Hp}{L:LA}{s:G}{k:aa VD}{dl d:U}{b:aa Nat}(h:b9 A H L s k)(m:H d=O (.lst (aK b)))(j:b.length=s.spans.length)(q:[L.cs,d,L.bX,L.wt,L.q0,L.q1,L.cr].Nodup):b9 A (Y H L.l (.ins A.ak.C dl (cX {L with lim:=d} (ig s b)))) {L with lim:=d} (ig s b) k:=by(obtain⟨d0,n⟩:=h.obj;have c:∀ {f:U}{xs:aa V},H f=O (.lst xs)->(Y H L.l (.ins A.ak.C dl (cX {L with lim:=d} (ig s b)))) f=O (.lst xs):=λg=>by rw[aw (bC g n (by intro r;cases r))];exact g);(have i:=Ml s.spans b j;have l:∀sd a,cj (ig s b) sd a=cj s sd a:=λsd a=>by have:fQ (ig s b)=fQ s:=(by unfold fQ;show(d_ _ ((s.spans.zip b).map _)).sum=_;rw[i]);unfold cj;rw[this]);refine#v[#v[dl,az],?_,?_,c h.bX,c h.wt,c h.q0,c h.q1,c h.cr,h.b7,h.dN,hg.keep h.d7 λf g u o=>?_,q,h.hS,h.lw,λx p=>?_,h.lp];(rw[show bw.ec 0 (ig s b).spans=bw.ec 0 s.spans from Mn _ _ 0 i];exact c h.cs);(show _=O (cT (aK (((s.spans.zip b).map λx=>(x.1.1,x.2)).map λx=>x.2)));rw[Mm s.spans b j];exact c m);(rw[aw (show f≠L.l fromλe=>h.nh (e▸g))];exact o);have:=h.lo x p;unfold ng at this⊢;rw[l];exact this
inductive Ws(A:bF)(vs:aa V)(H:Hp)(Q:VK)(E:XK):Prop|mk(L:LA)(s:G)(a:aa VD)(d:U)(e:aa Nat)(_:vs=[.ref L.l,.ref d])(_:fL s)(_:s.came<=60)(_:1<=s.spans.length)(_:b9 A H L s a)(_:H d=O (.lst (aK e)))(_:e.length=s.spans.length)(_:[L.cs,d,L.bX,L.wt,L.q0,L.q1,L.cr].Nodup)(_:∀(H':Hp)(hq:aa VD)(D:U),b9 A H' {L with lim:=d} (hF (ig s e) 2 (ih (ig s e))) hq->(∀b o,H b=O o->¬LF L b->H' b=O o)->H D=aR->H' D=O (.lst ((ih (ig s e)).map λc=>aB (c.id:Int)))->Q (.ref D) H')
def Wt:bf P w K mg aJ bq 2 A.ak.wZ A.ak.xf ["self","limits"] (Ws A):=by(refine T.ak.I8.fn.bJ pT (λH vs _ E a6 h=>?_);obtain⟨L,s,an,W,J,rfl,o,br,_,aW,bF,bE,bL,k⟩:=h;obtain⟨dl,bH⟩:=aW.obj;have bW:=bZ;refine#v[_,ay (cF a7 aS I) (ay (mO (i:=2) pT.nd I (gb I) (cD a7 T.ak.c T.ak.CQ (Me T) a6)) (ay (wd (i:=3) (dS:=[("v",5)]) (g:=eh 5) (tt:=BR (mP (gR tw (fm K (b8 5) "status") (tC (.int 0)))) (mP (gR (iW λi j=>.bl (decide (j<i))) (fm K (b8 5) "weight") (b8 2)))) (te:=b8 5) I pT.nd I I (we I I I I) (fU a0) (gn (by kernel_rfl)) (λ_ _ _ _ _=>dD (i:=5) pT.nd I (cB I)) (λ_ _ _ _ _=>tO (PW.pt (vT (cO fl (aX (pv 5)) (bG T.uc) (cm _)) (vS (cO gD (aX (pv 5)) aY (cm _)))))) (λ_ _ _ _ _=>pv 5)) (ay (iV hK I (fU (pv 3)) (dD (i:=4) pT.nd I (cB I)) (cR (e0 (pm a7 T.ak.c T.ak.CS (Mh T) a6 (cv (pv 4) (bG T.Vv)))))) (bc (hP (dS:=[("v",5)]) (g:=eh 5) (tt:=fI) (te:=fm K (b8 5) "number") I pT.nd (fU (pv 3)) (gn (by kernel_rfl)) (λ_ _ _ _ _=>dD (i:=5) pT.nd I (cB I)) (λ_ _ _ _ _=>ib) (λ_ _ _ _ _=>aX (pv 5))))))),L.l,_,dl,_,I,bH,T.ak.c.cl,T.ak.rl,(by show 10<1000;decide),?_];have m:b9 A (Y H L.l (.ins A.ak.C dl (cz "limits" (.ref W) (cX L s)))) {L with lim:=W} (ig s J) an:=aW.Wr bF bE bL;generalize aV:(Y H L.l (.ins A.ak.C dl (cz "limits" (.ref W) (cX L s))))=H1 at m⊢;have bn:∀b u,H b=O u->b≠L.l->H1 b=O u:=λb u f z=>by rw[<-aV,aw z];exact f);(have bk:∀b,H1 b=aR->H b=aR:=λb f=>by rw[<-aV]at f;unfold Y at f;split at f;(cases f);exact f);(have v:fL (ig s J):=#v[o.ids,o.side,o.ord];have aP:1<=(ig s J).spans.length:=by show 1<=(d_ _ (s.spans.zip J)).length;rw[aq,u9];lia);(have bw:(ig s J).came<=60:=br;generalize bX:ig s J=tt at m v aP bw k⊢;generalize bt:({L with lim:=W}:LA)=l at m k⊢;have y:l.l=L.l/\l.bX=L.bX/\l.q0=L.q0/\l.q1=L.q1/\l.cr=L.cr/\l.vs=L.vs:=by rw[<-bt];exact#v[I,I,I,I,I,I]);(have bg:∀b,¬LF L b->¬LF l b:=λb f=>by unfold LF at f⊢;rw[y.1,y.2.1,y.2.2.1,y.2.2.2.1,y.2.2.2.2.1,y.2.2.2.2.2];exact f);(rw[<-y.1];obtain⟨aL,ak⟩:=m.obj;refine#v[l.l,aL,_,I,ak,I,l,tt,aL,I,ak,m.lim,aP,?_];have b0:tt.waits.length<=tt.came:=by have:=v.ids.length_eq;simp at this;lia);refine#v[I,ak,T.ak.c.cl,T.ak.hQ,Dz _ _,l.bX,I,#v[_,aA.of m.bX],λN q=>CK (K:=K) (l.vs.map aT) (an.map λd=>decide (d.status=0)&&decide (gd tt<d.weight)) q (aA.of m.bX) I (by rw[aq,aq,m.b7,m.dN]) (by rw[aq,m.b7];lia) (λ_=>rfl) (λi x ao b n B al f s' _ R U=>?_) (λi x ao n B al _ s' _ R U=>?_) λac aI S=>?_];(obtain⟨bP,aE,rfl⟩:=eL B;rw[bN]at f;cases az:an[i]?with|none=>rw[az]at f;cases f|some d=>rw[az]at f;have bh:=aM f;subst bh;have af:∀ac,Z n ac->R (decide (d.status=0)&&decide (gd tt<d.weight)) ac:=U;obtain⟨_,a4⟩:=m.d7 i bP d aE az;refine#v[I,s' _ _ a4,T.aP.c.cl,T.aP.gU,kD,I,_,I,cg (λaF=>?_) (λaF=>?_)];((have aG:d.status=0:=(by have:(d.status:Int)=0:=(by simpa using aF);lia);refine#v[I,s' _ _ a4,T.aP.c.cl,T.aP.rf,ze _ _,_,_,I,I,_,I,?_];have e:(decide (d.status=0)&&decide (gd tt<d.weight))=decide (((gd tt:Nat):Int)<(d.weight:Int)):=by rw[eP aG,nA,ip];simp only[fh];lia);rw[e]at af;exact af n (Z.refl _));have aG:¬d.status=0:=(by have:¬(d.status:Int)=0:=(by simpa using aF);lia);rw[ek aG,OA]at af;exact af n (Z.refl _));(have e:x=ao:=aM (B.symm.trans al);subst e;exact(U n (Z.refl _)));(rw[Wq v m]at S;have bs:=m.same aI;have bA:(tt.waits.filter λ(c:F)=>decide (gd tt<c.weight))=ih tt:=rfl;rw[bA]at S;have aC:∀c∈ih tt,c∈tt.waits:=λc t=>(c0.mp t).1;have bT:(ih tt).length<=tt.waits.length:=iq _ _;have ba:¬LF l N:=by rintro(e|e|e|e|e|e);(rw[e,ak]at q;cases q);(rw[e,m.bX]at q;cases q);(rw[e,m.q0]at q;cases q);(rw[e,m.q1]at q;cases q);(rw[e,m.cr]at q;cases q);exact m.rB q e);refine#v[N,I,#v[_,aA.of S],q6 (K:=K) (a:=N) (xs:=(ih tt).map λc=>cY l c.id) (λi ap n=>∃(aK:ab V)(X:aa VD),ap=[O (.ref l.l),O (.ref W),O (.int (gd tt:Nat)),O (.ref N),aK,aj]/\b9 A n l (kE tt 2 ((ih tt).take i)) X/\fL (kE tt 2 ((ih tt).take i))/\(∀b u,ac b=O u->¬LF l b->n b=O u)) #v[aj,an,I,by rw[PQ,DB];exact bs,by rw[PQ,DB];exact v,λb u f _=>f] (λi ap n _⟨_,_,_,_,_,bm⟩=>aA.of (bm _ _ S ba)) ?_ ?_];((rintro i ao ap n bC ⟨aK,X,rfl,a2,bb,bp⟩;obtain⟨c,t,rfl⟩:=eL bC;have bv:=dJ t;have ag:=aC c bv;have ah:=v.lt ag;obtain⟨p,aD,aH⟩:∃p,l.vs[c.id]? =O p/\cY l c.id=aT p:=#v[_,gW (by rw[m.b7];exact ah),I];rw[aH];have bO:((ih tt).map λ(c:F)=>c.id).Nodup:=sC (AX _ u_) v.uk;have a3:c∈(kE tt 2 ((ih tt).take i)).waits:=by(refine c0.mpr #v[ag,?_];rw[N9,Fb];intro a5;rw[z4]at a5;obtain⟨x,B,e⟩:=bM.mp a5;obtain⟨j,bD,aN⟩:=fx B;rw[fE]at bD;rw[AV]at aN;have as:(ih tt)[j]? =O x:=by rw[b_ ∅,aN]);have:=jz bO (i:=j) (j:=i) (x:=c.id) (by rw[bN,as];show O x.id=_;rw[e]) (by rw[bN,t];rfl);lia);obtain⟨be,bI⟩:=a2.obj;refine#v[l.l,be,_,I,bI,I,l,kE tt 2 ((ih tt).take i),X,c,p,2,I,bb,?_,a2,a3,aD,λad bS a1 bo _ _=>?_];(have:(kE tt 2 ((ih tt).take i)).waits.length<=tt.waits.length:=iq _ _;lia);have aO:(ih tt).take (i+1)=(ih tt).take i++ [c]:=ic t;rw[DC,<-aO]at a1;refine#v[_,bS,I,a1,?_,λb u f z=>bo b u (bp b u f z) z];have:=bb.away (fA:=2) a3;rw[DC,<-aO]at this;exact this);rintro ap n ⟨aK,X,rfl,r,_,ar⟩;rw[aq,ij,Mj v aC]at r;have aQ:=ar _ _ S ba;refine#v[N,I,#v[_,aA.of aQ],λC av=>mZ (K:=K) ((ih tt).map λc=>aB (c.id:Int)) av (aA.of aQ) (by rw[aq,aq]) (by rw[aq];lia) (λ_=>rfl) (λi x ao ad B al am R U=>?_) λad am as=>?_];(obtain⟨c,t,rfl⟩:=eL B;obtain⟨bd,bu,rfl⟩:=eL al;have bi:c=bd:=aM (t.symm.trans bu);subst bi;have ag:=aC c (dJ t);have ah:=v.lt ag;obtain⟨p,aD,aH⟩:∃p,l.vs[c.id]? =O p/\cY l c.id=aT p:=#v[_,gW (by rw[m.b7];exact ah),I];rw[aH];obtain⟨_,bK⟩:=r.d7 _ p _ aD (f5 (by rw[r.dN];exact ah));exact#v[I,am _ _ bK,T.aP.c.cl,T.aP.m3,rA _ _,U ad (Z.refl _)]);refine k ad X C (r.same am) (λb u f z=>?_) ?_ as;(exact am _ _ (ar b u (aI _ _ (bn b u f (λe=>z (.inl e)))) (bg b z)));apply bk;cases aE:H1 C with|none=>rfl|some u=>exfalso;by_cases f:LF l C;((have:∃u,n C=O u:=by obtain⟨_,bJ⟩:=r.obj;rcases f with e|e|e|e|e|e;(rw[e];exact#v[_,bJ]);(rw[e];exact#v[_,r.bX]);(rw[e];exact#v[_,r.q0]);(rw[e];exact#v[_,r.q1]);(rw[e];exact#v[_,r.cr]);cases bB:n C with|none=>exact absurd e (r.rB bB)|some u=>exact⟨u,I⟩);obtain⟨_,a8⟩:=this;rw[av]at a8;cases a8);have:=ar C u (aI _ _ aE) f;rw[av]at this;cases this
end
def um{f:Nat->V}(a:Nat):∀b:aa Nat,dn (b.map λ(k:Nat)=>((bz (k:Int):bg),f k)) (bz (a:Int))=if a∈b then O (f a)else aj
 | []=>rfl
 |k::b=>by
  have g:=um (f:=f) a b;rw[cI];by_cases h:k=a
  ·subst h;rw[jy I,aI (cc ..)]
  ·rw[iZ (λd=>h (pe (oX d))),g];have:a∈k::b↔a∈b:=by
    rw[bL];constructor
    ·rintro(e|e)
     ·exact absurd e.symm h
     ·exact e
    ·exact .inr
   by_cases c:a∈b
   ·rw[aI c,aI (this.mpr c)]
   ·rw[aD c,aD (λd=>c (this.mp d))]
def dM(s:G)(x:F×Nat):Nat:=eQ s.spans (cj s x.1.side x.2)
structure Mo(H H':Hp)(L:LA)(s:G)(r:aa (F×Nat))(d:U)(ks:aa Nat)(ls:Nat->U):Prop where
 dO:H' d=O (.dK (ks.map λ(k:Nat)=>((bz (k:Int):bg),aT (ls k))))
 nd:ks.Nodup
 mem:∀k,k∈ks↔∃x∈r,dM s x=k
 lst:∀k∈ks,H' (ls k)=O (.lst ((r.filter λx=>dM s x==k).map λx=>cY L x.1.id))
 new:H d=aR/\∀k∈ks,H (ls k)=aR
 inj:∀k∈ks,∀k'∈ks,ls k=ls k'->k=k'
 same:Z H H'
section
inductive Wu(A:bF)(vs:aa V)(H:Hp)(Q:VK)(E:XK):Prop|mk(L:LA)(s:G)(a:aa VD)(_:vs=[.ref L.l])(_:aW.Ok s)(_:b9 A H L s a)(_:∀(H':Hp)(d:U)(ks:aa Nat)(ls:Nat->U),Mo H H' L s s.onIt d ks ls->Q (.ref d) H')
def Mp:bf P w K mg aJ bq 1 A.ak.w7 A.ak.xm ["self"] (Wu A):=by refine T.ak.CV.fn.bJ CN (λH vs _ E _ h=>?_);obtain⟨L,s,a5,rfl,o,y,k⟩:=h;obtain⟨dl,as⟩:=y.obj;have bb:=bZ;refine#v[_,ay (ba 1 CN.nd HX) (ay (iV hK I (fU a0) (dD (i:=2) CN.nd I (cB I)) (cR (e0 (gF gL mm mn lM (UK aS (cC d9 a0 (aX aY) (λ_ _=>rfl)) (bO gk) #v[I,I,I,I]) (aQ aY))))) (bc aS)),?_];intro d ao;have ak:Z H (Y H d (.dK [])):=Z.new ao;refine#v[I,ak _ _ as,T.ak.c.cl,T.ak.i6,oF _ _,L.cr,I,#v[_,aA.of (ak _ _ y.cr)],q6 (K:=K) (a:=L.cr) (xs:=s.onIt.map λx=>cY L x.1.id) (λi ad u=>∃(al:ab V)(m:aa Nat)(g:Nat->U),ad=[O (.ref L.l),O (.ref d),al]/\Mo H u L s (s.onIt.take i) d m g) #v[aj,[],λ_=>0,I,#v[az,.nil,λk=>#v[λh=>(by cases h),λ⟨x,X,_⟩=>(by cases X)],λk h=>(by cases h),#v[ao,λk h=>(by cases h)],λk h=>(by cases h),ak]] (λi ad u _⟨_,_,_,_,B⟩=>aA.of (B.same _ _ y.cr)) ?_ ?_];(·(rintro i j ad u aN ⟨al,m,g,rfl,B⟩;obtain⟨x,X,rfl⟩:=eL aN;have ah:=dJ X;have ap:x.1.id<s.came:=dF.ia o (.inr (.inl #v[x,ah,I]));obtain⟨p,aO,ag⟩:∃p,L.vs[x.1.id]? =O p/\cY L x.1.id=aT p:=#v[_,gW (by rw[y.b7];exact ap),I];obtain⟨_,aP⟩:=y.d7 _ p _ aO (f5 (by rw[y.dN];exact ap));obtain⟨_,_,_,am⟩:=y.lo x ah;have aL:(bw.ec 0 s.spans).length=fQ s:=bw.qT _ _;have an:=aW.kk s (eb:=x.1.side) (o.lt x ah);have a1:(bw.ec 0 s.spans).getD (a5.getD x.1.id cL).cell 0=dM s x:=by rw[am,bw.sU s.spans 0 _ an,oU];rfl);(have J:s.onIt.take (i+1)=s.onIt.take i++ [x]:=ic X;have a7:=o.count;have a6:=o.fY;have a8:m.length<=12:=by(have a2:∀k∈m,k∈bQ s.spans.length:=λk l=>by obtain⟨n,C,e⟩:=(B.mem k).mp l;have a3:=qO C;rw[<-e];exact gu.mpr (aW.sN _ _ (aW.kk s (o.lt n a3))));have b:=List.Nodup.length_le_of_subset B.nd a2;rw[et]at b;have:=o.gh;lia);(rw[ag];refine#v[d,I,.inl #v[_,.inl B.dO],I,B.same _ _ as,T.ak.c.cl,T.ak.oj,p6 _ _,I,B.same _ _ aP,T.aP.c.cl,T.aP.jB,p7 _ _,L.cs,_,_,_,I,I,aA.of (B.same _ _ y.cs),eD (oG (by rw[aL,am];exact an)),dc _,λn C=>?_];rw[a1];have aE:n≠d:=λe=>by rw[e,B.dO]at C;cases C);have R:Z u (Y u n (.lst [])):=Z.new C;refine#v[_,bz (dM s x:Int),R _ _ B.dO,(by rw[aq];lia),I,λv S=>?_,λaf=>?_];(rw[um (f:=λk=>aT (g k))]at S;by_cases l:dM s x∈m;((rw[aI l]at S;have aG:=aM S;subst aG;have ar:=R _ _ (B.lst _ l);refine#v[.inl #v[I,_,aA.of ar],g (dM s x),_,_,I,I,ar,(by rw[aq];have:=iq (λj=>dM s j==dM s x) (s.onIt.take i);rw[fE]at this;lia),?_];have a4:g (dM s x)≠d:=λe=>by have:=B.lst _ l;rw[e,B.dO]at this;cases this);refine#v[_,m,g,I,#v[?_,B.nd,λc=>?_,λc r=>?_,B.new,B.inj,?_]];(rw[aw a4.symm];exact R _ _ B.dO);(rw[B.mem c,J];constructor;(rintro⟨j,t,e⟩;exact#v[j,j_ _ t,e]);rintro⟨j,t,e⟩;rcases dh.mp t with b|b;(exact#v[j,b,e]);rw[c_.mp b]at e;exact(B.mem c).mp (e▸l));(by_cases e:c=dM s x;(subst e;rw[az,J,nX,dY,<-ag];congr 2;simp);(rw[aw (λq=>e (B.inj _ r _ l q)),J,nX];have:([x].filter λj=>dM s j==c)=[]:=by simp;exactλq=>e q.symm);rw[this,gY];exact R _ _ (B.lst c r));exact(B.same.trans R).gG (B.new.2 _ l));rw[aD l]at S;cases S);·(rw[um (f:=λk=>aT (g k))]at af;have l:dM s x∉m:=λq=>by rw[aI q]at af;cases af);(have aC:H n=aR:=B.same.free C;have av:(Y (Y u n (.lst [])) d (.dK (eN (m.map λ(k:Nat)=>((bz (k:Int):bg),aT (g k))) (bz (dM s x:Int)) (.ref n)))) n=O (.lst []):=by rw[aw aE,az]);(refine#v[.inl #v[I,_,aA.of av],n,_,_,I,I,av,(by show 0<bu;lia),?_];have aV:eN (m.map λ(k:Nat)=>((bz (k:Int):bg),aT (g k))) (bz (dM s x:Int)) (.ref n)=(m++ [dM s x]).map λ(k:Nat)=>((bz (k:Int):bg),aT ((λk=>if k=dM s x then n else g k) k)):=by rw[Cp _ (by rw[um (f:=λk=>aT (g k)),aD l]),dY];congr 1;(refine rz λc r=>?_;have:c≠dM s x:=λq=>l (q▸r);simp[this]);simp);(rw[aV];have N:∀c∈m,(if c=dM s x then n else g c)=g c:=λc r=>aD (λ(q:c=dM s x)=>l (q▸r));have ac:∀c∈m,g c≠n:=λc r e=>by have:=B.lst c r;rw[e,C]at this;cases this);refine#v[_,m++ [dM s x],λc=>if c=dM s x then n else g c,I,#v[?_,tV B.nd l,λc=>?_,λc r=>?_,#v[B.new.1,λc r=>?_],λa aH W aK e=>?_,?_]];(rw[aw aE.symm,az]);(rw[dh,B.mem c,J];constructor;(rintro(⟨j,t,e⟩|b);(exact#v[j,j_ _ t,e]);exact#v[x,gJ _ (c_.mpr I),(c_.mp b).symm]);rintro⟨j,t,e⟩;rcases dh.mp t with b|b;(exact .inl #v[j,b,e]);rw[c_.mp b]at e;exact .inr (c_.mpr e.symm));(rcases dh.mp r with b|b;((rw[N c b,aw (ac c b),aw (show g c≠d fromλe=>by have:=B.lst _ b;rw[e,B.dO]at this;cases this),aw (ac c b),J,nX];have:([x].filter λj=>dM s j==c)=[]:=by simp;exactλq=>l (q▸b));rw[this,gY];exact B.lst c b);(have e:=c_.mp b;subst e;rw[aI I,az,J,nX];have aF:((s.onIt.take i).filter λj=>dM s j==dM s x)=[]:=by rw[Ew];intro j t q;exact l ((B.mem _).mpr #v[j,t,by simpa using q]));rw[aF,<-ag];simp);(rcases dh.mp r with b|b;(rw[N c b];exact B.new.2 c b);rw[c_.mp b,aI I];exact aC);(·rcases dh.mp aH with b|b<;>rcases dh.mp aK with z|z;(rw[N a b,N W z]at e;exact B.inj a b W z e);(rw[N a b,c_.mp z,aI I]at e;exact absurd e (ac a b));(rw[N W z,c_.mp b,aI I]at e;exact absurd e.symm (ac W z));rw[c_.mp b,c_.mp z]);exact(((B.same.trans R).gG B.new.1)).gG aC);rintro ad u ⟨al,m,g,rfl,B⟩;rw[aq,ij]at B;exact(k u d m g B)
end
end Br
namespace L2
def Wv{d:U}{o:a9}{ag:aa (bg×V)}{g:TG}{s:TS}{c:kI}{a:St}{H:Hp}(Pv:Nat->St->Hp->Prop)(t:Pv 0 a H)(A:∀i a H,i<=ag.length->Pv i a H->H d=O (.frz o (.dK ag)))(B:∀i k v T a H,ag[i]? =O (k,v)->Pv i a H->H T=aR->g (.ref T) a (Y H T (.tup [kV k,v])) λl f=>s {c with nx:=Pv (i+1),ct:=Pv (i+1),bk:=c.nx} l f)(y:∀a H,Pv ag.length a H->c.nx a H):∃W:Nat->Nat->St->Hp->Prop,(∃m,W 0 m a H)/\∀i m a H,W i m a H->((tT d o ag).stop i H/\c.nx a H)\/((tT d o ag).go i H/\∃h:St->Hp->Prop,(∀j b,h j b->∃q,q<m/\W (i+1) q j b)/\∀x b,(tT d o ag).gC i H x b->g x a b λl f=>s {c with nx:=h,ct:=h,bk:=c.nx} l f):=by refine#v[λi m a H=>m=ag.length-i/\i<=ag.length/\Pv i a H,#v[ag.length,by simp,dc _,t],?_];rintro i m a H ⟨rfl,z,p⟩;have r:=A i a H z p;by_cases n:i<ag.length;(refine .inr #v[#v[r,n],Pv (i+1),λj b C=>#v[ag.length-(i+1),by lia,I,n,C],λx b E=>?_];obtain⟨T,k,v,u,rfl,w,rfl⟩:=E;exact B i k v T a H u p w);have e:i=ag.length:= ∅;subst e;exact .inl #v[#v[r,bp _],y a H p]
end L2
namespace Br
abbrev BM:=Nat->Nat->ab (Nat×Nat×aa Nat)
def key(ao k:Nat):aa bg:=[bz (ao:Int),bz (k:Int)]
def Mq{a e c d:Nat}(h:key a e=key c d):a=c/\e=d:=by(unfold key at h;injection h with f b);injection b with b _;exact#v[pe (oX f),pe (oX b)]
def DD(d:U):aa (M×V):=[("lines",.ref d)]
def ni{d:U}:(DD d).lookup ("lines":M)=O (.ref d):=by rfl
def Ww(H:Hp)(v:V)(m:Nat×Nat×aa Nat):Prop:=∃t a,v=.ref t/\H t=O (.tup [.int (m.1:Int),.int (m.2.1:Int),.ref a])/\H a=O (.tup (aK m.2.2))
structure fe(A:bF)(H:Hp)(b d:U)(mG:aa (aa bg×V))(M:BM):Prop where
 obj:∃dx,H b=O (.ins A.dZ.C dx (DD d))
 dO:H d=O (.dT mG)
 keys:∀kv∈mG,∃day k,kv.1=key day k
 nd:(mG.map λkv=>kv.1).Nodup
 non:∀day k,M day k=aR->dn mG (key day k)=aR
 val:∀day k m,M day k=O m->∃v,dn mG (key day k)=O v/\Ww H v m
def fe.keep{A:bF}{H a:Hp}{c d:U}{ag:aa (aa bg×V)}{b:BM}(B:fe A H c d ag b)(h:∀x o,H x=O o->a x=O o):fe A a c d ag b:=#v[let #v[dx,l]:=B.obj;#v[dx,h _ _ l],h _ _ B.dO,B.keys,B.nd,B.non,λao k m e=>let #v[v,f,t,n,g,i,j]:=B.val ao k m e;#v[v,f,t,n,g,h _ _ i,h _ _ j]]
def BO(o:HO):Prop:=(∃C dx a,o=.ins C dx a)\/(∃b,o=.dT b)\/∃xs,o=.tup xs
def fe.Mr{A:bF}{H a:Hp}{c d:U}{ag:aa (aa bg×V)}{b:BM}(B:fe A H c d ag b)(h:∀x o,H x=O o->BO o->a x=O o):fe A a c d ag b:=#v[let #v[dx,l]:=B.obj;#v[dx,h _ _ l (.inl #v[_,_,_,I])],h _ _ B.dO (.inr (.inl #v[_,I])),B.keys,B.nd,B.non,λao k m e=>let #v[v,f,t,n,g,i,j]:=B.val ao k m e;#v[v,f,t,n,g,h _ _ i (.inr (.inr #v[_,I])),h _ _ j (.inr (.inr #v[_,I]))]]
def fe.put{A:bF}{H r:Hp}{w d t q:U}{ag:aa (aa bg×V)}{s u:BM}{ao k:Nat}{m:Nat×Nat×aa Nat}(B:fe A H w d ag s)(Q:H t=O (.tup [.int (m.1:Int),.int (m.2.1:Int),.ref q]))(R:H q=O (.tup (aK m.2.2)))(N:r=Y H d (.dT (eN ag (key ao k) (.ref t))))(y:∀b c,u b c=if b=ao/\c=k then O m else s b c):fe A r w d (eN ag (key ao k) (.ref t)) u:=by(subst N;obtain⟨dx,P⟩:=B.obj;have j:∀x o,H x=O o->(∀a,o≠ .dT a)->(Y H d (.dT (eN ag (key ao k) (.ref t)))) x=O o:=λx o n g=>by rw[aw (show x≠d fromλe=>by rw[e,B.dO]at n;exact g _ (aM n).symm)];exact n);refine#v[#v[dx,j _ _ P (λ_ f=>nomatch f)],az,λa l=>?_,?_,λb c g=>?_,λb c T i=>?_];(unfold eN at l;split at l;(obtain⟨S,E,rfl⟩:=bM.mp l;have:=B.keys S E;split;(exact this);exact this);rcases dh.mp l with h|h;(exact B.keys a h);rw[c_.mp h];exact#v[ao,k,I]);(·cases z:dn ag (key ao k)with|none=>exact Uh _ B.nd z|some v=>have e:(eN ag (key ao k) (aT t)).map (λa=>a.1)=ag.map λa=>a.1:=(by unfold eN;rw[aI (by rw[lN,z];rfl),ck];refine l7 λa _=>?_;show(if a.1=key ao k then(a.1,aT t)else a).1=a.1;split<;>rfl);rw[e];exact B.nd);(rw[y]at g;rw[HQ];by_cases e:b=ao/\c=k;(rw[aI e]at g;cases g);rw[aD e]at g;rw[aD (λp=>e (Mq p))];exact B.non b c g);rw[y]at i;rw[HQ];by_cases e:b=ao/\c=k;(rw[aI e]at i;have C:=aM i;subst C;rw[aI (by rw[e.1,e.2])];exact#v[_,I,t,q,I,j _ _ Q (λ_ f=>nomatch f),j _ _ R (λ_ f=>nomatch f)]);rw[aD e]at i;rw[aD (λp=>e (Mq p))];obtain⟨v,h,t',W,J,K,L⟩:=B.val b c T i;exact#v[v,h,t',W,J,j _ _ K (λ_ f=>nomatch f),j _ _ L (λ_ f=>nomatch f)]
section
inductive Wx(A:bF)(vs:aa V)(H:Hp)(Q:VK)(E:XK):Prop|mk(p a:U)(_:vs=[.ref p])(_:H p=O (.ins A.dZ.C a []))(_:∀(H':Hp)(d:U),fe A H' p d [] (λ_ _=>aj)->H d=aR->(∀b o,H b=O o->b≠p->H' b=O o)->Q .non H')
def Wy:bf P w K mg aJ bq 1 A.dZ.dj A.dZ.ee ["self"] (Wx A):=by refine T.dZ.ft.fn.bJ U0 (λH vs _ E _ h=>?_);obtain⟨p,dx,rfl,f,k⟩:=h;refine#v[_,cR (cF a7 TY I),?_];intro d a;have g:p≠d:=bI f a;refine#v[p,_,dx,_,I,(by rw[aw g];exact f),T.dZ.c.cl,T.dZ.lP,(by show 0<1000;decide),?_];refine k _ d #v[#v[dx,by rw[az];rfl],by rw[aw g.symm,az],λ_ h=>(by cases h),.nil,λ_ _ _=>rfl,λ_ _ m e=>(by cases e)] a λ_ o c i=>?_;rw[aw i,aw (bI c a)];exact c
def hW(a:BM)(ao c:Nat)(e:aa Nat)(ds:Nat->aa (Nat×VD)):BM:=λb k=>
 if b=ao/\k∈e then(match a ao k with
  |none=>O (((ds k).map λd=>d.2.weight).sum,c,(ds k).map λd=>d.1)
  |some m=>if m.1<((ds k).map λd=>d.2.weight).sum then O (((ds k).map λd=>d.2.weight).sum,c,(ds k).map λd=>d.1)else O m)else a b k
inductive Wz(A:bF)(vs:aa V)(H:Hp)(Q:VK)(E:XK):Prop|mk(b d a:U)(c:aa (aa bg×V))(M:BM)(e f:Nat)(g:aa Nat)(h:Nat->U)(i:Nat->aa U)(j:Nat->aa (Nat×VD))(_:vs=[.ref b,.int e,.int f,.ref a])(_:fe A H b d c M)(_:c.length+g.length<bu)(_:H a=O (.dK (g.map λ(k:Nat)=>((bz (k:Int):bg),aT (h k)))))(_:g.Nodup)(_:(∀k∈g,H (h k)=O (.lst ((i k).map aT))/\j0 A.aP.C H (i k) (j k)/\(i k).length<=60))(_:∀(H':Hp)(WA:aa (aa bg×V)),fe A H' b d WA (hW M e f g j)->(∀x o,H x=O o->x≠d->H' x=O o)->Q .non H')
def WB:bf P w K mg aJ bq 2 A.dZ.xt A.dZ.xw ["self","day","time","vehicles_by_span"] (Wz A):=by
 refine T.dZ.Ji.fn.bJ rm (λH vs a7 E bH h=>?_);obtain⟨al,d,s,ag,u,ao,n,f,X,ps,ds,rfl,B,_,ac,ch,cy,k⟩:=h;have cS:=bZ;have bo:=k7 bH;obtain⟨_,_⟩:=B.obj;have cG:s≠d:=bC ac B.dO (by intro r;cases r);refine#v[_,cR (Cw (iV hK I (Ub (pv 3)) (mN I (gQ (dD (i:=4) rm.nd I (cB I)) (gQ (dD (i:=5) rm.nd I (cB I)) mM))) (ay (ba 6 rm.nd (ef (Du T) bH T.m7 (aQ (pv 5)))) (cR (cN (PW.pt (lJ (BQ (Ct bo (kr (cv aS (pv 4))) a0)) (mL (cO gD (pv 6) (cC gE (ra bo a0 (kr (cv aS (pv 4))) (λ_ _=>rfl)) bS (λ_ _=>rfl)) (cm _))))) (cR (Cu bo a0 (kr (cv aS (pv 4))) (kr (dm (pv 6) (cv aY (Hr S3 (by rfl) T.VQ (by rfl) (aQ (hP (dS:=[("v",7)]) (g:=eh 7) (tt:=fI) (te:=fm K (b8 7) "number") I rm.nd (fU (pv 5)) (gn (by kernel_rfl)) (λ_ _ _ _ _=>dD (i:=7) rm.nd I (cB I)) (λ_ _ _ _ _=>ib) (λ_ _ _ _ _=>aX (pv 7)))))))) I)) c9))))),s,_,ac,True.intro,λaL=>?_];generalize bG:(f.map λ(k:Nat)=>((bz (k:Int):bg),aT (X k)))=am at ac⊢;have b5:am.length=f.length:=by rw[<-bG,aq]
 have cD:∀ {H1:Hp}{x:U}{o:HO},H1 s=O (.frz aL (.dK am))->H1 x=O o->BO o->x≠s:=λJ W aF e=>by rw[e,J]at W;have:=aM W;subst this;rcases aF with⟨_,_,_,r⟩|⟨_,r⟩|⟨_,r⟩<;>cases r
 refine#v[s,aL,am,I,az,Wv (d:=s) (o:=aL) (ag:=am) (λi af Q=>∃(aP aV aW:ab V)(L:aa (aa bg×V)),af=[O (.ref al),O (.int ao),O (.int n),O (.ref s),aP,aV,aW,aj]/\Q s=O (.frz aL (.dK am))/\(∀x o,H x=O o->x≠s->x≠d->Q x=O o)/\fe A Q al d L (hW u ao n (f.take i) ds)/\L.length<=ag.length+i) #v[aj,aj,aj,ag,I,az,λx o c J _=>by rw[aw J];exact c,?_,bp _] (λi af Q _⟨_,_,_,_,_,J,_⟩=>J) ?_ ?_]
 ·have e:hW u ao n (f.take 0) ds=u:=(by funext q b;unfold hW;rw[aD (by simp)]);rw[e];refine B.Mr λx o c aF=>?_;rw[aw (show x≠s fromλe=>by rw[e,ac]at c;have:=aM c;subst this;rcases aF with⟨_,_,_,r⟩|⟨_,r⟩|⟨_,r⟩<;>cases r)];exact c
 ·rintro i cA cJ bA af Q aH ⟨aP,aV,aW,L,rfl,aG,an,C,_⟩ b2;obtain⟨b,a2,bM⟩:∃b,f[i]? =O b/\(cA,cJ)=((bz (b:Int):bg),aT (X b)):=by
   rw[<-bG,bN]at aH;cases e:f[i]?with
   |none=>rw[e]at aH;cases aH
   |some b=>rw[e]at aH;exact#v[b,I,(aM aH).symm]
  obtain⟨rfl,rfl⟩:=AY bM;have b9:=dJ a2;have cK:i<f.length:=(cM.mp a2).1;have ca:b∉f.take i:=λcd=>by obtain⟨j,b7,bD⟩:=fx cd;rw[fE]at b7;rw[AV]at bD;have:=jz ch (i:=j) (j:=i) (x:=b) (by rw[b_ ∅,bD]) a2;lia
  have bd:hW u ao n (f.take i) ds ao b=u ao b:=(by unfold hW;rw[aD (λN=>ca N.2)]);obtain⟨bi,br,bW⟩:=cy b b9;have cF:X b≠d:=bC bi B.dO (by intro r;cases r);have cE:X b≠s:=bC bi ac (by intro r;cases r);have bk:=an _ _ bi cE cF;have bI:j0 A.aP.C Q (ps b) (ds b):=#v[br.1,λj p q J W=>let #v[dx,bc]:=br.2 j p q J W;#v[dx,an _ _ bc (bC bc ac (by intro r;cases r)) (bC bc B.dO (by intro r;cases r))]];have bu:Z Q (Y Q bA (.tup [kV (bz (b:Int)),aT (X b)])):=Z.new b2;have cL:=br.1;obtain⟨_,bm⟩:=C.obj;refine#v[bA,_,I,dH.of az,I,_,_,I,_,_,I,I,X b,ps b,ds b,I,bu _ _ bk,bI.same bu,bW,λah cI=>?_];have cH:=bu.trans cI;generalize cc:((ds b).map λd=>d.2.weight).sum=iw;have bb:∀(bt:ab (Nat×Nat×aa Nat)),(match u ao b with
    |none=>O (iw,n,(ds b).map λd=>d.1)
    |some m=>if m.1<iw then O (iw,n,(ds b).map λd=>d.1)else O m)=bt->∀q z,hW u ao n (f.take (i+1)) ds q z=if q=ao/\z=b then bt else hW u ao n (f.take i) ds q z:=by
   intro bt ce q z;have bO:f.take (i+1)=f.take i++ [b]:=ic a2;unfold hW;rw[bO];by_cases a1:q=ao
   ·by_cases a8:z=b
    ·subst a1 a8;rw[aI #v[I,gJ _ (c_.mpr I)],aI #v[I,I],cc];exact ce
    ·rw[aD (show¬(q=ao/\z=b)fromλN=>a8 N.2)];have:(q=ao/\z∈f.take i++ [b])↔(q=ao/\z∈f.take i):=by
      rw[dh,c_];constructor
      ·rintro⟨a,h|h⟩
       ·exact#v[a,h]
       ·exact absurd h a8
      ·rintro⟨a,h⟩;exact#v[a,.inl h]
     simp only[this]
   ·rw[aD (λN=>a1 N.1),aD (λN=>a1 N.1),aD (λN=>a1 N.1)]
  have bE:∀(a6:Hp)(a5:kI),Z Q a6->(∀af S,(∃(aP aV aW:ab V)(L:aa (aa bg×V)),af=[O (.ref al),O (.int ao),O (.int n),O (.ref s),aP,aV,aW,aj]/\S s=O (.frz aL (.dK am))/\(∀x o,H x=O o->x≠s->x≠d->S x=O o)/\fe A S al d L (hW u ao n (f.take (i+1)) ds)/\L.length<=ag.length+(i+1))->a5.nx af S)->(∀q z,hW u ao n (f.take (i+1)) ds q z=if q=ao/\z=b then O (iw,n,(ds b).map λd=>d.1)else hW u ao n (f.take i) ds q z)->(HW (fm K (b8 0) "lines") (pN (eC (b8 1) (eC (b8 4) fo))) (pN (eC (b8 6) (eC (b8 2) (eC (q7 (λxs H a7=>∃p bw,xs=[.ref p]/\((aA K H p bw/\∀l,H l=aj->a7 (.ref l) (Y H l (.tup bw)))\/(dH K H p bw/\a7 (.ref p) H))) (eC (tP (GU K (b8 5)) (eh 7) fI (fm K (b8 7) "number") [7]) fo)) fo)))):TS) a5 [O (.ref al),O (.int ao),O (.int n),O (.ref s),O (kV (bz (b:Int))),O (.ref (X b)),O (.int (iw:Int)),aj] a6:=by
   intro a6 a5 as bX bs;refine#v[X b,I,#v[_,aA.of (as _ _ bk)],λbL b0=>mZ (K:=K) ((ds b).map λd=>aB (d.1:Int)) b0 (aA.of (as _ _ bk)) (by rw[aq,aq];lia) (by rw[aq];lia) (λ_=>rfl) (λj x _ S c cz aO R b1=>?_) λS aO bT=>?_]
   ·obtain⟨N,ci,rfl⟩:=eL c;obtain⟨q,b3,rfl⟩:=eL cz;obtain⟨_,b6⟩:=bI.2 j N q ci b3;exact#v[I,aO _ _ (as _ _ b6),T.aP.c.cl,T.aP.m3,rA _ _,b1 S (Z.refl _)]
   ·refine#v[bL,_,I,.inl #v[aA.of bT,λad cn=>#v[(bB 3),λt bn=>?_]]];have bJ:Z S (Y (Y S ad (.tup ((ds b).map λd=>aB (d.1:Int)))) t (.tup [.int (iw:Int),.int (n:Int),.ref ad])):=(Z.new cn).trans (Z.new bn);have av:=(as.trans aO).trans bJ;generalize bF:(Y (Y S ad (.tup ((ds b).map λd=>aB (d.1:Int)))) t (.tup [.int (iw:Int),.int (n:Int),.ref ad]))=ak at bJ av⊢;have cw:ak t=O (.tup [.int (iw:Int),.int (n:Int),.ref ad]):=by rw[<-bF,az]
    have co:ak ad=O (.tup (aK ((ds b).map λd=>d.1))):=by
     have tt:ad≠t:=λe=>by rw[<-e,az]at bn;cases bn
     rw[<-bF,aw tt,az];unfold aK;rw[ck];rfl
    refine#v[I,av _ _ bm,T.dZ.c.cl,T.dZ.lP,ni,(bB 2),λa4 cp=>?_];have aC:Z ak (Y ak a4 (.tup [.int (ao:Int),kV (bz (b:Int))])):=Z.new cp;have b4:=aC _ _ (av _ _ C.dO);have cr:(Y ak a4 (.tup [.int (ao:Int),kV (bz (b:Int))])) a4=O (.tup ((key ao b).map kV)):=by rw[az];rfl
    refine#v[d,_,I,mU.t (k:=key ao b) b4 cr ∅,?_];apply bX;have bK:fe A (Y ak a4 (.tup [.int (ao:Int),kV (bz (b:Int))])) al d L (hW u ao n (f.take i) ds):=C.keep λx o c=>aC _ _ (av _ _ c);refine#v[_,_,_,_,I,?_,λx o c J W=>?_,bK.put (m:=(iw,n,(ds b).map λd=>d.1)) (aC _ _ cw) (aC _ _ co) I bs,?_]
    ·rw[aw cG];exact aC _ _ (av _ _ aG)
    ·rw[aw W];exact aC _ _ (av _ _ (an x o c J W))
    ·have:=wg L (key ao b) (.ref t);lia
  refine#v[(bB 2),λaE cj=>?_];have as:Z ah (Y ah aE (.tup [.int (ao:Int),kV (bz (b:Int))])):=Z.new cj;have aN:=cH.trans as;have cl:(Y ah aE (.tup [.int (ao:Int),kV (bz (b:Int))])) aE=O (.tup ((key ao b).map kV)):=by rw[az];rfl
  refine#v[I,aN _ _ bm,T.dZ.c.cl,T.dZ.lP,ni,d,_,I,fV.t (k:=key ao b) (aN _ _ C.dO) cl,_,I,?_];cases ap:u ao b with
  |none=>have a3:=C.non ao b (by rw[bd];exact ap);rw[a3];refine de (de ?_);exact bE _ _ aN (λ_ _ h=>h) (bb _ (by rw[ap]))
  |some m=>
   obtain⟨v,a3,t',_,rfl,bP,_⟩:=C.val ao b m (by rw[bd];exact ap);rw[a3];refine eJ ?_;refine#v[I,aN _ _ bm,T.dZ.c.cl,T.dZ.lP,ni,(bB 2),λbv cs=>?_];have aO:Z (Y ah aE (.tup [.int (ao:Int),kV (bz (b:Int))])) (Y (Y ah aE (.tup [.int (ao:Int),kV (bz (b:Int))])) bv (.tup [.int (ao:Int),kV (bz (b:Int))])):=Z.new cs;have ar:=aN.trans aO;have ct:(Y (Y ah aE (.tup [.int (ao:Int),kV (bz (b:Int))])) bv (.tup [.int (ao:Int),kV (bz (b:Int))])) bv=O (.tup ((key ao b).map kV)):=by rw[az];rfl
   refine#v[d,_,I,a3▸fV.t (k:=key ao b) (ar _ _ C.dO) ct,t',_,_,_,I,I,dH.of (ar _ _ bP),fw (j:=0) (v:=.int (m.1:Int)) I I,_,_,I,I,_,I,cg (λbe=>?_) (λbe=>?_)]
   ·have bh:m.1<iw:=(by have:(m.1:Int)<(iw:Int):=(by simpa using be);lia);exact bE _ _ ar (λ_ _ h=>h) (bb _ (by rw[ap];simp only;rw[aI bh]))
   ·have bh:¬m.1<iw:=(by have:¬(m.1:Int)<(iw:Int):=(by simpa using be);lia);have bs:=bb (O m) (by rw[ap];simp only;rw[aD bh]);refine#v[_,_,_,L,I,ar _ _ aG,λx o c J W=>ar _ _ (an x o c J W),?_,by lia];have e:hW u ao n (f.take (i+1)) ds=hW u ao n (f.take i) ds:=by
     funext q z;rw[bs];by_cases e:q=ao/\z=b
     ·rw[aI e,e.1,e.2,bd,ap]
     ·rw[aD e]
    rw[e];exact C.keep λx o c=>ar _ _ c
 ·rintro af Q ⟨aP,aV,aW,L,rfl,aG,an,C,_⟩;rw[b5,ij]at C;refine#v[aG,?_];refine k _ L (C.Mr λx o c aF=>?_) λx o c cf=>?_
  ·rw[aw (cD aG c aF)];exact c
  ·by_cases e:x=s
   ·subst e;rw[az,<-ac];exact c
   ·rw[aw e];exact an x o c e cf
end
end Br
namespace L2
def DE{K:bj}{a:U}{xs:aa V}{g:TG}{q:TS}{d:kI}{b:St}{H:Hp}(Pv:Nat->St->Hp->Prop)(r:Pv 0 b H)(w:∀i b H,i<=xs.length->Pv i b H->aA K H a xs)(y:∀i x T b H,xs[i]? =O x->Pv i b H->H T=aR->g (.ref T) b (Y H T (.tup [.int (i:Nat),x])) λl f=>q {d with nx:=Pv (i+1),ct:=Pv (i+1),bk:=d.nx} l f)(u:∀b H,Pv xs.length b H->d.nx b H):∃W:Nat->Nat->St->Hp->Prop,(∃m,W 0 m b H)/\∀i m b H,W i m b H->((lO K a).stop i H/\d.nx b H)\/((lO K a).go i H/\∃h:St->Hp->Prop,(∀k c,h k c->∃o,o<m/\W (i+1) o k c)/\∀x c,(lO K a).gC i H x c->g x b c λl f=>q {d with nx:=h,ct:=h,bk:=d.nx} l f):=by refine#v[λi m b H=>m=xs.length-i/\i<=xs.length/\Pv i b H,#v[xs.length,by simp,dc _,r],?_];rintro i m b H ⟨rfl,v,p⟩;have j:=w i b H v p;by_cases n:i<xs.length;(refine .inr #v[#v[xs,xs[i],j,by simp[n]],Pv (i+1),λk c z=>#v[xs.length-(i+1),by lia,I,n,z],λx c A=>?_];obtain⟨T,B,rfl,s,rfl,t⟩:=A;exact y i B T b H (t xs j) p s);have e:i=xs.length:= ∅;subst e;exact .inl #v[#v[xs,j,bp _],u b H p]
def Ms{d:U}{o:a9}{ag:aa (bg×V)}{g:TG}{s:TS}{c:kI}{a:St}{H:Hp}(Pv:Nat->St->Hp->Prop)(t:Pv 0 a H)(z:∀i a H,i<=ag.length->Pv i a H->H d=O (.frz o (.dK ag)))(A:∀i k v a H,ag[i]? =O (k,v)->Pv i a H->g (kV k) a H λl f=>s {c with nx:=Pv (i+1),ct:=Pv (i+1),bk:=c.nx} l f)(w:∀a H,Pv ag.length a H->c.nx a H):∃W:Nat->Nat->St->Hp->Prop,(∃m,W 0 m a H)/\∀i m a H,W i m a H->((tS d o ag).stop i H/\c.nx a H)\/((tS d o ag).go i H/\∃h:St->Hp->Prop,(∀j b,h j b->∃q,q<m/\W (i+1) q j b)/\∀x b,(tS d o ag).gC i H x b->g x a b λl f=>s {c with nx:=h,ct:=h,bk:=c.nx} l f):=by refine#v[λi m a H=>m=ag.length-i/\i<=ag.length/\Pv i a H,#v[ag.length,by simp,dc _,t],?_];rintro i m a H ⟨rfl,y,p⟩;have r:=z i a H y p;by_cases n:i<ag.length;(refine .inr #v[#v[r,n],Pv (i+1),λj b B=>#v[ag.length-(i+1),by lia,I,n,B],λx b C=>?_];obtain⟨rfl,k,v,u,rfl⟩:=C;exact A i k v a _ u p);have e:i=ag.length:= ∅;subst e;exact .inl #v[#v[r,bp _],w a H p]
end L2
namespace Br
structure ED where
 kind:Nat
 part:Nat
 day:Nat
 crack:Nat
 about:Int
def j1(d:ED):aa (M×V):=[("kind",.int d.kind),("part",.int d.part),("day",.int d.day),("crack",.int d.crack),("about",.int d.about)]
def zi{d:ED}:(j1 d).lookup ("kind":M)=O (.int d.kind):=by rfl
def DF{d:ED}:(j1 d).lookup ("part":M)=O (.int d.part):=by rfl
def uo{d:ED}:(j1 d).lookup ("day":M)=O (.int d.day):=by rfl
def WC{d:ED}:(j1 d).lookup ("crack":M)=O (.int d.crack):=by rfl
def dg(l:aa dz):dz->ED
 |.found p d c=>#v[0,p,d,c,-1]
 |.mended p d=>#v[1,p,d,0,-1]
 |.struck e=>#v[2,bo.gA (aN.bK l e),bo.c8 (aN.bK l e),0,(e:Int)]
 |.right_ e c=>#v[3,bo.gA (aN.bK l e),bo.c8 (aN.bK l e),c,(e:Int)]
def zj(C:U)(H:Hp)(p:U)(d:ED):Prop:=∃dx,H p=O (.ins C dx (j1 d))
structure RA where
 r:U
 pt:U
 en:U
 po:U
 ps:aa U
 es:aa U
 qs:aa U
def qb(R:RA)(a:Nat):aa (M×V):=[("parts",.ref R.pt),("today",.int a),("entries",.ref R.en),("postings",.ref R.po)]
def qc{R:RA}{a:Nat}:(qb R a).lookup ("parts":M)=O (.ref R.pt):=by rfl
def kF{R:RA}{a:Nat}:(qb R a).lookup ("today":M)=O (.int a):=by rfl
def iI{R:RA}{a:Nat}:(qb R a).lookup ("entries":M)=O (.ref R.en):=by rfl
def zk{R:RA}{a:Nat}:(qb R a).lookup ("postings":M)=O (.ref R.po):=by rfl
structure RecAt(A:bF)(H:Hp)(R:RA)(s:cq):Prop where
 obj:∃dx,H R.r=O (.ins A.aC.C dx (qb R s.today))
 pt:H R.pt=O (.lst (R.ps.map aT))
 en:H R.en=O (.lst (R.es.map aT))
 po:H R.po=O (.lst (R.qs.map aT))
 gp:R.ps.length=s.parts.length
 e4:R.es.length=s.entries.length
 hT:R.qs.length=s.posts.length
 part:∀(i:Nat)(a:U)(p:e8),R.ps[i]? =O a->s.parts[i]? =O p->H a=O (.tup [.int (p.bears:Int),.int (p.costs:Int),.int (p.grows:Int)])
 ent:∀(i:Nat)(a:U)(x:dz),R.es[i]? =O a->s.entries[i]? =O x->zj A.Entry.C H a (dg s.entries x)
 post:∀(i:Nat)(a:U)(p:l8),R.qs[i]? =O a->s.posts[i]? =O p->H a=O (.tup [.int (p.day:Int),.int (p.limit:Int)])
 nd:[R.pt,R.en,R.po].Nodup
section
inductive WD(A:bF)(vs:aa V)(H:Hp)(Q:VK)(E:XK):Prop|mk(p a:U)(d:ED)(_:vs=[.ref p,.int d.kind,.int d.part,.int d.day,.int d.crack,.int d.about])(_:H p=O (.ins A.Entry.C a []))(_:∀H':Hp,zj A.Entry.C H' p d->(∀b o,H b=O o->b≠p->H' b=O o)->Q .non H')
def Mt:bf P w K mg aJ bq 1 A.Entry.dj A.Entry.ee ["self","kind","part","day","crack","about"] (WD A):=by refine T.Entry.ft.fn.bJ U2 (λH vs _ E _ h=>?_);obtain⟨p,dx,d,rfl,e,k⟩:=h;refine#v[_,ay (cF a7 aS I) (ay (cF a7 aY I) (ay (cF a7 (pv 3) I) (ay (cF a7 (pv 4) I) (cR (cF a7 (pv 5) I))))),p,_,dx,_,I,e,T.Entry.c.cl,T.Entry.t5,(by show 0<1000;decide),p,_,dx,_,I,az,T.Entry.c.cl,T.Entry.ro,(by show 1<1000;decide),?_];rw[eS];refine#v[p,_,dx,_,I,az,T.Entry.c.cl,T.Entry.pW,(by show 2<1000;decide),?_];rw[eS];refine#v[p,_,dx,_,I,az,T.Entry.c.cl,T.Entry.pX,(by show 3<1000;decide),?_];rw[eS];refine#v[p,_,dx,_,I,az,T.Entry.c.cl,T.Entry.CW,(by show 4<1000;decide),?_];rw[eS];refine k _ #v[dx,by rw[az];rfl] λ_ o a c=>by rw[aw c];exact a
def rE{l:aa dz}{x:dz}{e:Nat}(h:e<l.length):aN.bK (l++ [x]) e=aN.bK l e:=by unfold aN.bK;simp[dt,il h]
def WE{s:cq}(o:bo.Ok s){i:Nat}{x j:dz}(h:s.entries[i]? =O x):dg (s.entries++ [j]) x=dg s.entries x:=by(have m:=o.made i x h;have k:=(cM.mp h).1;have lt:∀ {e:Nat}{b:dz},(s.entries.take i)[e]? =O b->e<s.entries.length:=λ{e b} g=>by have:=(cM.mp g).1;rw[fE]at this;lia);cases x with|found p d c=>rfl|mended p d=>rfl|struck e=>((obtain⟨⟨p,d,a⟩,_⟩:=m;have f:e<s.entries.length:=by rcases a with⟨c,a⟩|a;(exact lt a);exact lt a);simp only[dg,rE f])|right_ e c=>obtain⟨⟨p,d,_,a⟩,_⟩:=m;simp only[dg,rE (lt a)]
def kG(s:cq)(x:dz):cq:={s with entries:=s.entries++ [x]}
inductive WG(A:bF)(vs:aa V)(H:Hp)(Q:VK)(E:XK):Prop|mk(R:RA)(s:cq)(p:U)(x:dz)(_:vs=[.ref R.r,.ref p])(_:bo.Ok s)(_:s.entries.length<60)(_:RecAt A H R s)(_:zj A.Entry.C H p (dg (s.entries++ [x]) x))(_:∀H':Hp,RecAt A H' {R with es:=R.es++ [p]} (kG s x)->(∀b o,H b=O o->b≠R.en->H' b=O o)->Q (.int (s.entries.length:Nat)) H')
def Mu:bf P w K mg aJ bq 1 A.aC.xO A.aC.x_ ["self","entry"] (WG A):=by(refine T.aC.C1.fn.bJ U8 (λH vs C E _ h=>?_);obtain⟨R,s,p,x,rfl,o,_,b,U,k⟩:=h;obtain⟨J,q⟩:=b.obj;have X:=bZ;refine#v[_,ay (e0 (gF gL mm mn lM a0 (aQ aS))) (bc (cS jv (dE T.dW a0) bS)),I,q,T.aC.c.cl,T.aC.ie,iI,.inl #v[I,_,aA.of b.en],R.en,_,_,I,I,b.en,(by rw[aq,b.e4];lia),?_];have B:R.r≠R.en:=(bC b.en q (by intro d;cases d)).symm;have z:=b.nd;simp only[fD,bL,hI,ff,pf,ph]at z;obtain⟨⟨V,_⟩,W,_⟩:=z;have c:∀n u,H n=O u->n≠R.en->(Y H R.en (.lst (R.es.map aT++ [.ref p]))) n=O u:=λn u N S=>by rw[aw S];exact N);(refine#v[I,c _ _ q B,T.aC.c.cl,T.aC.ie,iI,_,_,I,.inl (aA.of az),_,_,I,I,?_];have t:(((R.es.map aT++ [aT p]).length:Nat):Int)-1=((s.entries.length:Nat):Int):=by rw[cV,aq,b.e4];simp);show C (aB ((((R.es.map aT++ [aT p]).length:Nat):Int)-1)) _;rw[t];refine k _ #v[#v[J,c _ _ q B],c _ _ b.pt V,by rw[az];show _=O (cT ((R.es++ [p]).map aT));rw[dY];rfl,c _ _ b.po (λe=>W e.symm),b.gp,?_,b.hT,λi a v f j=>?_,λi a r f j=>?_,λi a v f j=>?_,b.nd] c;(show(R.es++ [p]).length=(s.entries++ [x]).length;rw[cV,cV,b.e4];rfl);(have:=b.part i a v f j;exact c _ _ this (bC this b.en (by intro d;cases d)));(have g:(R.es++ [p])[i]? =O a:=f;have l:(s.entries++ [x])[i]? =O r:=j;show zj A.Entry.C _ a (dg (s.entries++ [x]) r);by_cases y:i<R.es.length;(rw[il y]at g;rw[il (by rw[<-b.e4];exact y)]at l;rw[WE o l];obtain⟨dx,m⟩:=b.ent i a r g l;exact#v[dx,c _ _ m (bC m b.en (by intro d;cases d))]);(have Q:=(cM.mp g).1;rw[cV,iM]at Q;have e:i=R.es.length:=by lia);subst e;rw[je (bp _),j9]at g;rw[b.e4,je (bp _),j9]at l;have t:p=a:=aM g;have L:x=r:=aM l;subst t L;obtain⟨dx,m⟩:=U;exact#v[dx,c _ _ m (bC m b.en (by intro d;cases d))]);have:=b.post i a v f j;exact c _ _ this (bC this b.en (by intro d;cases d))
end
def dX(l:aa (Nat×Nat)):aa (bg×V):=l.map λa=>((bz (a.1:Int):bg),aB (a.2:Int))
def DG:∀ {l:aa (Nat×Nat)}{i:Nat},(∀a∈l,a.1≠i)->dn (dX l) (bz (i:Int))=aR
 | [],_,_=>rfl
 |a::l,i,h=>by have b:=h a (cc ..);show dn (((bz (a.1:Int):bg),aB (a.2:Int))::dX l) (bz (i:Int))=_;rw[iZ (λd=>b (pe (oX d)))];exact DG λe c=>h e (cw _ c)
def uq:∀ {l:aa (Nat×Nat)}{i c:Nat},l.Pairwise (λa f=>a.1<f.1)->(i,c)∈l->dn (dX l) (bz (i:Int))=O (aB (c:Int))
 | [],_,_,_,h=>by cases h
 |d::l,i,c,b,h=>by
  rw[ja]at b;show dn (((bz (d.1:Int):bg),aB (d.2:Int))::dX l) (bz (i:Int))=_;rcases bL.mp h with e|e
  ·subst e;exact jy I
  ·have:=b.1 _ e;rw[iZ (λg=>by have:=pe (oX g);simp only at*;lia)];exact uq b.2 e
def WH(l:aa (Nat×Nat))(e:Nat):n9 (dX l) (bz (e:Int))=dX (l.filter λa=>a.1 !=e):=by unfold n9 dX;rw[E_];congr 1;apply nG;intro a _;show decide ((bz (a.1:Int):bg)≠bz (e:Int))=(a.1 !=e);by_cases h:a.1=e;(rw[h];simp);have b:(bz (a.1:Int):bg)≠bz (e:Int):=λc=>h (pe (oX c));rw[eP b];simp[h]
def WI{l:aa (Nat×Nat)}{e c f:Nat}(i:l.Pairwise (λa d=>a.1<d.1))(h:(e,f)∈l):eN (dX l) (bz (e:Int)) (.int (c:Int))=dX (l.map λb=>if b.1=e then(b.1,c)else b):=by unfold eN;rw[aI (by rw[lN,uq i h];rfl)];unfold dX;rw[ck,ck];refine l7 λb _=>?_;show(if(bz (b.1:Int):bg)=bz (e:Int)then((bz (b.1:Int):bg),aB (c:Int))else((bz (b.1:Int):bg),aB (b.2:Int)))=_;by_cases h:b.1=e;(rw[aI (by rw[h])];simp[h]);have g:(bz (b.1:Int):bg)≠bz (e:Int):=λj=>h (pe (oX j));rw[aD g];simp[h]
def WJ{l:aa (Nat×Nat)}{i c:Nat}(h:∀a∈l,a.1≠i):eN (dX l) (bz (i:Int)) (.int (c:Int))=dX (l++ [(i,c)]):=by rw[Cp _ (DG h)];unfold dX;rw[dY];rfl
def WK(xs:aa V)(n:Nat):mQ xs aj (O (n:Int))=xs.take n:=by unfold mQ;rw[HT.SK,HT.B6,List.drop_zero,Eu];by_cases h:n<=xs.length;(rw[uP h]);rw[N_ ∅,ij,o8 ∅]
section
inductive WL(A:bF)(vs:aa V)(H:Hp)(Q:VK)(E:XK):Prop|mk(R:RA)(s:cq)(n:Nat)(_:vs=[.ref R.r,.int n])(_:bo.Ok s)(_:n<=s.entries.length)(_:RecAt A H R s)(_:∀(H':Hp)(d:U),Z H H'->H d=aR->H' d=O (.dK (dX (aN.cf (s.entries.take n))))->Q (.ref d) H')
def DH:bf P w K mg aJ bq 1 A.aC.xP A.aC.ya ["self","n"] (WL A):=by
 refine T.aC.yr.fn.bJ xF (λH vs _ E bb h=>?_);obtain⟨R,s,n,rfl,o,_,X,k⟩:=h;obtain⟨_,a8⟩:=X.obj;have bo:=bZ;have aP:=k7 bb;have bm:=o.Bk;refine#v[_,ay (ba 2 xF.nd HX) (ay (iV hK I (tU I T.ue (aQ (Ht Hz a0 tG (k5 aS)))) (mN I (gQ (dD (i:=3) xF.nd I (cB I)) (gQ (dD (i:=4) xF.nd I (cB I)) mM))) (cR (cN (cO fl (aX (pv 4)) (bG T.LJ) (cm _)) (cR (e0 (T3 aY (aX (pv 4)) #v[I,I,I,I]))) (cR (cN (cO fl (aX (pv 4)) (bG T.LK) (cm _)) (cR (Cu aP aY (aX (pv 4)) (aX (pv 4)) I)) (cR (Cu aP aY (pv 3) (aX (pv 4)) I))))))) (bc aY)),?_];intro d C;have aD:Z H (Y H d (.dK [])):=Z.new C;refine#v[I,aD _ _ a8,T.aC.c.cl,T.aC.ie,iI,_,I,R.en,_,I,aA.of (aD _ _ X.en),λy L=>?_];rw[WK,<-PR];have bh:Z H (Y (Y H d (.dK [])) y (.lst ((R.es.take n).map aT))):=aD.trans (Z.new L);have U:y≠d:=λe=>by rw[e,az]at L;cases L
 have bn:H y=aR:=by rw[aw U]at L;exact L
 have a6:(R.es.take n).length=n:=by rw[fE,X.e4];lia
 refine#v[y,_,I,aA.of az,DE (K:=K) (a:=y) (xs:=(R.es.take n).map aT) (λi ad g=>∃(aF aG:ab V),ad=[O (.ref R.r),O (.int n),O (.ref d),aF,aG]/\Z H g/\g y=O (.lst ((R.es.take n).map aT))/\g d=O (.dK (dX (aN.cf (s.entries.take i))))) #v[aj,aj,I,bh,az,by rw[aw U.symm,az];rfl] (λi ad g _⟨_,_,_,_,h,_⟩=>aA.of h) ?_ ?_]
 ·rintro i W af ad g a4 ⟨aF,aG,rfl,aE,ar,t⟩ aI;obtain⟨a,am,rfl⟩:=eL a4;have a5:i<n:=by have:=(cM.mp am).1;lia
  have aW:R.es[i]? =O a:=(by rw[uW a5]at am;exact am);obtain⟨x,av⟩:∃x,s.entries[i]? =O x:=#v[_,b_ ∅];obtain⟨_,v⟩:=X.ent i a x aW av;have S:Z g (Y g af (.tup [.int (i:Nat),.ref a])):=Z.new aI;have m:=aE.trans S;have bi:d≠af:=λe=>by rw[e,aI]at t;cases t
  have aL:=o.made i x av;have as:s.entries.take (i+1)=s.entries.take i++ [x]:=ic av;have ao:(s.entries.take i).length=i:=by rw[fE];lia
  have ac:=S _ _ t;have bk:(dX (aN.cf (s.entries.take i))).length<=60:=by unfold dX aN.cf;rw[aq];have:=List.length_filterMap_le (aN.cnt (s.entries.take i)) (s.entries.take i).zipIdx;rw[oP]at this;lia
  refine#v[af,_,I,dH.of az,I,_,_,I,_,_,I,I,I,m _ _ v,T.Entry.c.cl,T.Entry.t5,zi,I,_,I,cg (λak=>?_) (λak=>?_)]
  ·have z:(dg s.entries x).kind=2:=(by have:((dg s.entries x).kind:Int)=2:=(by simpa using ak);lia);cases x with
   |found p b c=>cases z
   |mended p b=>cases z
   |right_ e c=>cases z
   |struck e=>
    obtain⟨⟨p,b,f⟩,ap⟩:=aL;obtain⟨aV,an⟩:=aN.vL ap (by
     rcases f with⟨c,f⟩|f
     ·exact .inl #v[p,b,c,f]
     ·exact .inr #v[p,b,f])
    refine#v[d,I,.inl #v[_,.inl ac],I,m _ _ v,T.Entry.c.cl,T.Entry.CW,(by rfl:(j1 (dg s.entries (.struck e))).lookup ("about":M)=O (.int (e:Int))),_,bz (e:Int),_,ac,I,uq (aN.vM _) an,_,_,I,?_,?_,?_]
    ·exactλaH u q=>by rw[aw (bI q C)];exact m _ _ q
    ·rw[aw U];exact S _ _ ar
    ·rw[az,WH,as,aN.Rw]
  ·have z:¬(dg s.entries x).kind=2:=(by have:¬((dg s.entries x).kind:Int)=2:=(by simpa using ak);lia);refine#v[I,m _ _ v,T.Entry.c.cl,T.Entry.t5,zi,I,_,I,cg (λal=>?_) (λal=>?_)]
   ·have B:(dg s.entries x).kind=3:=(by have:((dg s.entries x).kind:Int)=3:=(by simpa using al);lia);cases x with
    |found p b c=>cases B
    |mended p b=>cases B
    |struck e=>cases B
    |right_ e c=>
     obtain⟨⟨p,b,ag,f⟩,ap,_⟩:=aL;obtain⟨aV,an⟩:=aN.vL ap (.inl #v[p,b,ag,f]);refine#v[I,m _ _ v,T.Entry.c.cl,T.Entry.pX,(by rfl:(j1 (dg s.entries (.right_ e c))).lookup ("crack":M)=O (.int (c:Int))),I,m _ _ v,T.Entry.c.cl,T.Entry.CW,(by rfl:(j1 (dg s.entries (.right_ e c))).lookup ("about":M)=O (.int (e:Int))),d,_,I,mU.k (k:=bz (e:Int)) ac ∅,_,_,I,?_,?_,?_]
     ·exactλaH u q=>by rw[aw (bI q C)];exact m _ _ q
     ·rw[aw U];exact S _ _ ar
     ·rw[az,WI (aN.vM _) an,as,aN.Rx #v[p,b,ag,f]]
   ·have B:¬(dg s.entries x).kind=3:=(by have:¬((dg s.entries x).kind:Int)=3:=(by simpa using al);lia);have a7:∃c,(dg s.entries x).crack=c/\((∃p d,x=.found p d c)\/(∃p d,x=.mended p d/\c=0)):=by
     cases x with
     |found p b c=>exact#v[c,I,.inl #v[p,b,I]]
     |mended p b=>exact#v[0,I,.inr #v[p,b,I,I]]
     |struck e=>exact absurd I z
     |right_ e c=>exact absurd I B
    obtain⟨c,a1,be⟩:=a7;have aK:∀(j:Nat)(r:dz),(s.entries.take i)[j]? =O r->∀e:Nat,(r=Sy50.Entry.struck e\/∃c,r=Sy50.Entry.right_ e c)->e<i:=λj r N e a3=>by
     have J:=(cM.mp N).1;rw[fE]at J;have bg:s.entries[j]? =O r:=by rw[uW ∅]at N;exact N
     have aO:=o.made j r bg;have lt:∀ {e:Nat}{W:dz},(s.entries.take j)[e]? =O W->e<i:=λ{e W} aC=>by have:=(cM.mp aC).1;rw[fE]at this;lia
     rcases a3 with rfl|⟨c,rfl⟩
     ·obtain⟨⟨p,b,f⟩,_⟩:=aO;rcases f with⟨c,f⟩|f
      ·exact lt f
      ·exact lt f
     ·obtain⟨⟨p,b,ag,f⟩,_⟩:=aO;exact lt f
    have a2:=aN.Rv (l:=s.entries.take i) (x:=x) (c:=c) be (by
     rw[ao,Fb];intro bd;obtain⟨j,J,ah⟩:=fx ((aN.BB _ _).mp bd);have:=aK j _ (by rw[b_ J,ah]) i (.inl I);lia) (λW aC b e=>by
     rw[ao]at e;obtain⟨j,J,ah⟩:=fx aC;have:=aK j W (by rw[b_ J,ah]) i (.inr #v[b,e]);lia)
    refine#v[I,m _ _ v,T.Entry.c.cl,T.Entry.pX,WC,d,_,I,mU.k (k:=bz (i:Int)) ac ∅,?_];rw[a1];refine#v[_,_,I,?_,?_,?_]
    ·exactλaH u q=>by rw[aw (bI q C)];exact m _ _ q
    ·rw[aw U];exact S _ _ ar
    ·rw[az,WJ (λr N=>by have:=(aN.qV N).1;lia),as,a2,ao]
 ·rintro ad g ⟨aF,aG,rfl,aE,_,t⟩;rw[aq,a6]at t;exact(k g d aE C t)
end
def RecAt.same{A:bF}{H f:Hp}{R:RA}{s:cq}(h:RecAt A H R s)(e:Z H f):RecAt A f R s:=#v[let #v[dx,d]:=h.obj;#v[dx,e _ _ d],e _ _ h.pt,e _ _ h.en,e _ _ h.po,h.gp,h.e4,h.hT,λi a p b c=>e _ _ (h.part i a p b c),λi a x b c=>let #v[dx,d]:=h.ent i a x b c;#v[dx,e _ _ d],λi a p b c=>e _ _ (h.post i a p b c),h.nd]
def getD_at{l:aa U}{i:Nat}(h:i<l.length):l[i]? =O (l.getD i 0):=by simp[dt,b_ h]
section
def RecAt.Mw{H:Hp}{R:RA}{s:cq}(h:RecAt A H R s){k:Nat}(b:k<s.parts.length):(R.ps.map aT)[k]? =O (.ref (R.ps.getD k 0))/\H (R.ps.getD k 0)=O (.tup [.int ((eX s k).bears:Int),.int ((eX s k).costs:Int),.int ((eX s k).grows:Int)]):=by have a:=getD_at (l:=R.ps) (i:=k) (by rw[h.gp];exact b);refine#v[by rw[bN,a];rfl,h.part k _ _ a ?_];unfold eX;simp[dt,b_ b]
inductive WM(A:bF)(vs:aa V)(H:Hp)(Q:VK)(E:XK):Prop|mk(R:RA)(s:cq)(k a:Nat)(_:vs=[.ref R.r,.int k,.int a])(_:bo.Ok s)(_:k<s.parts.length)(_:RecAt A H R s)(_:Q (.int ((((eX s k).grows*a+99)/100:Nat):Int)) H)
def Mx{s:cq}(o:bo.Ok s){k:Nat}(a:k<s.parts.length):1<=(eX s k).bears/\(eX s k).bears<=1000/\(eX s k).costs<=100/\(eX s k).grows<=100:=by(have:eX s k=s.parts[k]:=by simp[eX,dt,b_ a]);rw[this];exact o.rng _ (kJ a)
def My:bf P w K mg aJ bq 1 A.aC.xV A.aC.yg ["self","part","days"] (WM A):=by(refine T.aC.C3.fn.bJ JB (λH vs f E _ h=>?_);obtain⟨R,s,a,b,rfl,o,d,c,k⟩:=h;obtain⟨_,g⟩:=c.obj;obtain⟨i,l⟩:=c.Mw d;have m:=(Mx o d).2.2.2;refine#v[_,ay (ba 3 JB.nd (cC gE (cC d9 a0 aS (λ_ _=>rfl)) bS (λ_ _=>rfl))) (bc (cS B0 (cS kq (cS G0 (pv 3) aY) bS) bS)),I,g,T.aC.c.cl,T.aC.om,qc,R.pt,_,_,_,I,I,aA.of c.pt,eD i,_,_,_,_,I,I,dH.of l,fw (j:=2) (v:=.int ((eX s a).grows:Int)) I I,_,_,I,I,.inl #v[by lia,by lia],_,_,I,I,_,_,I,I,#v[by decide,by decide],?_];have e:((((eX s a).grows:Nat):Int)*(b:Int)+99)/100=((((eX s a).grows*b+99)/100:Nat):Int):=by rw[<-PU];lia);show f (aB (((((eX s a).grows:Nat):Int)*(b:Int)+99)/100)) H;rw[e];exact k
def f7(m:ab (Nat×Nat)):V:=match m with
 |none=>.int (-1)
 |some w=>.int (w.1:Int)
def Mz{s:cq}{n:Nat}{b:Nat×Nat}(k:n<=s.entries.length)(j:b∈aN.cf (s.entries.take n)):∃x,s.entries[b.1]? =O x/\(dg s.entries x).part=bo.gA (aN.bK (s.entries.take n) b.1)/\(dg s.entries x).day=bo.c8 (aN.bK (s.entries.take n) b.1)/\b.1<n:=by(obtain⟨h,_,i⟩:=aN.qV j;rw[fE]at h;have g:b.1<n:=by lia);(have key:∀x,(s.entries.take n)[b.1]? =O x->s.entries[b.1]? =O x/\aN.bK (s.entries.take n) b.1=x:=λx e=>by refine#v[by rw[uW g]at e;exact e,?_];simp[aN.bK,dt,e]);rcases i with⟨p,d,c,e⟩|⟨p,d,e⟩;(obtain⟨a,f⟩:=key _ e;refine#v[_,a,?_,?_,g];(rw[f];rfl);rw[f];rfl);obtain⟨a,f⟩:=key _ e;refine#v[_,a,?_,?_,g];(rw[f];rfl);rw[f];rfl
def DI{l:aa dz}{part ao:Nat}:∀(b:aa (Nat×Nat))(m:ab (Nat×Nat))(w:Nat×Nat),b.foldl (aN.pick l part ao) m=O w->m=O w\/w∈b
 | [],m,w,h=>.inl h
 |c::b,m,w,h=>by
  rw[gI]at h;rcases DI b _ w h with a|a
  ·unfold aN.pick at a;split at a
   ·split at a
    ·exact .inr (by rw[<-aM a];exact cc ..)
    ·split at a
     ·exact .inr (by rw[<-aM a];exact cc ..)
     ·exact .inl a
   ·exact .inl a
  ·exact .inr (cw _ a)
def WN{s:cq}(o:bo.Ok s){n:Nat}{e:Nat×Nat}(k:n<=s.entries.length)(j:e∈aN.cf (s.entries.take n)):bo.gA (aN.bK (s.entries.take n) e.1)<s.parts.length:=by(obtain⟨g,_,h⟩:=aN.qV j;rw[fE]at g;have i:e.1<n:=by lia);(have key:∀x,(s.entries.take n)[e.1]? =O x->s.entries[e.1]? =O x/\aN.bK (s.entries.take n) e.1=x:=λx b=>by refine#v[by rw[uW i]at b;exact b,?_];simp[aN.bK,dt,b]);rcases h with⟨p,d,c,b⟩|⟨p,d,b⟩;(obtain⟨a,f⟩:=key _ b;rw[f];exact(o.made _ _ a).1);obtain⟨a,f⟩:=key _ b;rw[f];exact(o.made _ _ a).1
def ht(l:aa dz)(np ao i:Nat):aa V:=(bQ np).map λk=>f7 (((aN.cf l).take i).foldl (aN.pick l k ao) aj)
def zl{l:aa dz}{np ao i k:Nat}(h:k<np):(ht l np ao i)[k]? =O (f7 (((aN.cf l).take i).foldl (aN.pick l k ao) aj)):=by unfold ht;rw[bN,h9 h];rfl
def ur(l:aa dz)(np ao i:Nat):(ht l np ao i).length=np:=by unfold ht;rw[aq,et]
def MA{l:aa dz}{k ao:Nat}{m:ab (Nat×Nat)}{a:Nat×Nat}(h:¬(bo.gA (aN.bK l a.1)=k/\bo.c8 (aN.bK l a.1)<=ao)):aN.pick l k ao m a=m:=by unfold aN.pick;rw[aD h]
def WO{l:aa dz}{k ao:Nat}{w a:Nat×Nat}(h:¬bo.c8 (aN.bK l w.1)<=bo.c8 (aN.bK l a.1)):aN.pick l k ao (O w) a=O w:=by unfold aN.pick;split;(simp only;rw[aD h]);rfl
def WQ{l:aa dz}{k ao:Nat}{m:ab (Nat×Nat)}{a:Nat×Nat}(d:bo.gA (aN.bK l a.1)=k)(b:bo.c8 (aN.bK l a.1)<=ao)(c:∀w,m=O w->bo.c8 (aN.bK l w.1)<=bo.c8 (aN.bK l a.1)):aN.pick l k ao m a=O a:=by unfold aN.pick;rw[aI #v[d,b]];cases m with|none=>rfl|some w=>simp only;rw[aI (c w I)]
def WR{l:aa dz}{np ao i p:Nat}{a:Nat×Nat}(g:(aN.cf l)[i]? =O a)(c:bo.gA (aN.bK l a.1)=p)(d:bo.c8 (aN.bK l a.1)<=ao)(f:∀w,((aN.cf l).take i).foldl (aN.pick l p ao) aj=O w->bo.c8 (aN.bK l w.1)<=bo.c8 (aN.bK l a.1)):(ht l np ao i).set p (.int (a.1:Int))=ht l np ao (i+1):=by apply pj;intro k;by_cases b:k<np;(rw[zl b,ic g,qq,Fc];by_cases e:p=k;(subst e;rw[aI I,aI (by rw[ur];exact b)];show _=O (f7 (aN.pick l p ao _ a));rw[WQ c d f];rfl);rw[aD e,zl b];show _=O (f7 (aN.pick l k ao _ a));rw[MA (λh=>e (c.symm.trans h.1))]);rw[gK (by rw[o6,ur];lia),gK (by rw[ur];lia)]
def MB{l:aa dz}{np ao i p:Nat}{a:Nat×Nat}(g:(aN.cf l)[i]? =O a)(d:bo.gA (aN.bK l a.1)=p)(b:¬(bo.c8 (aN.bK l a.1)<=ao)\/∃w,((aN.cf l).take i).foldl (aN.pick l p ao) aj=O w/\¬bo.c8 (aN.bK l w.1)<=bo.c8 (aN.bK l a.1)):ht l np ao i=ht l np ao (i+1):=by unfold ht;refine l7 λk _=>?_;rw[ic g,qq];show _=f7 (aN.pick l k ao _ a);by_cases c:bo.gA (aN.bK l a.1)=k/\bo.c8 (aN.bK l a.1)<=ao;((have e:p=k:=d.symm.trans c.1;subst e;rcases b with b|⟨w,f,b⟩);(exact absurd c.2 b);rw[f,WO b]);rw[MA c]
inductive WS(A:bF)(vs:aa V)(H:Hp)(Q:VK)(E:XK):Prop|mk(R:RA)(s:cq)(n a:Nat)(d:U)(_:vs=[.ref R.r,.ref d,.int a])(_:bo.Ok s)(_:n<=s.entries.length)(_:RecAt A H R s)(_:H d=O (.dK (dX (aN.cf (s.entries.take n)))))(_:∀(H':Hp)(D:U),Z H H'->H D=aR->H' D=O (.lst ((bQ s.parts.length).map λk=>f7 (aN.srcOf (s.entries.take n) k a)))->Q (.ref D) H')
def WT:bf P w K mg aJ bq 1 A.aC.xR A.aC.yc ["self","says","day"] (WS A):=by(refine T.aC.JM.fn.bJ t6 (λH vs _ E _ h=>?_);obtain⟨R,s,n,ao,d,rfl,o,a5,p,aK,k⟩:=h;obtain⟨_,a6⟩:=p.obj;have bL:=bZ;have bK:=o.kT;refine#v[_,ay (ba 3 t6.nd (cS Ce (bO (aQ (bG T.ud))) (dE T.dW a0))) (ay (Cw (iV hK I (CD aS) (dD (i:=4) t6.nd I (cB I)) (ay (ba 5 t6.nd (cC d9 a0 (pv 4) (λ_ _=>rfl))) (ay (ba 6 t6.nd (cC d9 (pv 3) (aX (pv 5)) (λ_ _=>rfl))) (cR (cN (PW.pt (vT (cO g8 (aX (pv 5)) aY (cm _)) (vS (PW.pt (lJ (cO fl (pv 6) (bG T.ud) (cm _)) (mL (cO iX (aX (pv 5)) (aX (cC d9 a0 (pv 6) (λ_ _=>rfl))) (cm _)))))))) (cR (GS (pv 4) (GR (pv 3) (aX (pv 5)) NX))) c9)))))) (bc (pv 3))),(bB 1),λac bw=>?_];have aD:=Z.new (o:=cT [aB (-1)]) bw;refine#v[I,aD _ _ a6,T.aC.c.cl,T.aC.om,qc,_,_,I,.inl (aA.of (aD _ _ p.pt)),ac,_,_,I,I,az,(by show-(2^63)<=(((R.ps.map aT).length:Nat):Int);lia),(by rw[aq,p.gp];show((s.parts.length:Nat):Int)<2^63;lia),(by rw[jj,aq,p.gp];show 1*s.parts.length<=_;lia),λc a1=>?_];rw[jj,aq,p.gp];have ar:H c=aR:=aD.free a1;have aF:(fy s.parts.length [aB (-1)]).flatten=ht (s.entries.take n) s.parts.length ao 0:=by(have:∀m:Nat,(fy m [aB (-1)]).flatten=fy m (aB (-1)):=λm=>by induction m with|zero=>rfl|succ m bE=>rw[nT,qH,bE,nT];rfl);rw[this];apply pj;intro bH;by_cases a4:bH<s.parts.length;(rw[zl a4,EN,aI a4];rfl);rw[gK (by rw[qp];lia),gK (by rw[ur];lia)]);(rw[aF];have N:Z H (Y (Y H ac (.lst [aB (-1)])) c (.lst (ht (s.entries.take n) s.parts.length ao 0))):=aD.trans (Z.new a1);generalize br:Y (Y H ac (.lst [aB (-1)])) c (.lst (ht (s.entries.take n) s.parts.length ao 0))=H1 at N⊢;have W:H1 c=O (.lst (ht (s.entries.take n) s.parts.length ao 0)):=by rw[<-br,az]);(have bi:=p.same N;have J:=N _ _ aK;have am:d≠c:=bC J W (by intro b;cases b);have aC:=N _ _ a6;have ap:=N _ _ p.en;refine#v[d,_,J,True.intro,λz=>?_];generalize aL:s.entries.take n=l at aK J W k⊢;have ad:∀(g:U)(u:HO)(al:aa V),H1 g=O u->g≠c->g≠d->(Y (Y H1 d (.frz z (.dK (dX (aN.cf l))))) c (.lst al)) g=O u:=λg u al X bn S=>by rw[aw bn,aw S];exact X);(have bd:R.r≠c:=bC aC W (by intro b;cases b);have be:R.r≠d:=bC aC J (by intro b;cases b);have aV:R.en≠c:=λe=>by rw[e]at ap;rw[<-e,p.en]at ar;cases ar);(have aW:R.en≠d:=bC ap J (by intro b;cases b);have a3:∀b∈aN.cf l,∃x a,s.entries[b.1]? =O x/\R.es[b.1]? =O a/\(dg s.entries x).part=bo.gA (aN.bK l b.1)/\(dg s.entries x).day=bo.c8 (aN.bK l b.1)/\∃an,∀al,(Y (Y H1 d (.frz z (.dK (dX (aN.cf l))))) c (.lst al)) a=O (.ins A.Entry.C an (j1 (dg s.entries x))):=λb f=>by rw[<-aL]at f;obtain⟨x,aO,C,t,_⟩:=Mz a5 f;rw[aL]at C t;have as:=getD_at (l:=R.es) (i:=b.1) (by rw[p.e4];lia);obtain⟨an,q⟩:=bi.ent _ _ x as aO;exact#v[x,_,aO,as,C,t,an,λal=>ad _ _ _ q (bC q W (by intro b;cases b)) (bC q J (by intro b;cases b))]);(have bv:∀b∈aN.cf l,bo.gA (aN.bK l b.1)<s.parts.length:=λb f=>by rw[<-aL]at f⊢;exact WN o a5 f);refine#v[d,z,I,.inl #v[_,az,Ms (d:=d) (o:=z) (ag:=dX (aN.cf l)) (λi B r=>r=Y (Y H1 d (.frz z (.dK (dX (aN.cf l))))) c (.lst (ht l s.parts.length ao i))/\∃(af ah ak:ab V),B=[O (.ref R.r),O (.ref d),O (.int ao),O (.ref c),af,ah,ak]) #v[?_,aj,aj,aj,I] (λi B r _ h=>by rw[h.1,aw am,az]) ?_ ?_]];(funext g;by_cases e:g=c;(rw[e,az,aw am.symm];exact W);rw[aw e]);((rintro i bF bJ B r L ⟨rfl,af,ah,ak,rfl⟩;obtain⟨b,f,aF⟩:∃b,(aN.cf l)[i]? =O b/\(bF,bJ)=((bz (b.1:Int):bg),aB (b.2:Int)):=by unfold dX at L;rw[bN]at L;cases e:(aN.cf l)[i]?with|none=>rw[e]at L;cases L|some b=>rw[e]at L;exact#v[b,I,(aM L).symm]);obtain⟨rfl,rfl⟩:=AY aF;have a8:=dJ f;obtain⟨x,a,aO,as,C,t,an,q⟩:=a3 b a8;have a7:=bv b a8;generalize av:((aN.cf l).take i).foldl (aN.pick l (bo.gA (aN.bK l b.1)) ao) aj=m;have a2:=zl (l:=l) (ao:=ao) (i:=i) a7;rw[av]at a2;refine#v[I,ad _ _ _ aC bd be,T.aC.c.cl,T.aC.ie,iI,R.en,_,_,_,I,I,aA.of (ad _ _ _ ap aV aW),eD (j:=b.1) (v:=.ref a) (by rw[bN,as];rfl),I,q _,T.Entry.c.cl,T.Entry.ro,DF,c,_,_,_,I,I,aA.of az,eD (j:=(dg s.entries x).part) (v:=f7 m) (by rw[C];exact a2),I,q _,T.Entry.c.cl,T.Entry.pW,uo,_,_,I,I,_,I,cg (λS=>?_) (λS=>?_)];((have aG:bo.c8 (aN.bK l b.1)<=ao:=(by have:((dg s.entries x).day:Int)<=(ao:Int):=(by simpa using S);rw[t]at this;lia);have bb:∀aE:kI,(∀w,m=O w->bo.c8 (aN.bK l w.1)<=bo.c8 (aN.bK l b.1))->(∀B r,(r=Y (Y H1 d (.frz z (.dK (dX (aN.cf l))))) c (.lst (ht l s.parts.length ao (i+1)))/\∃(af ah ak:ab V),B=[O (.ref R.r),O (.ref d),O (.int ao),O (.ref c),af,ah,ak])->aE.nx B r)->(tp (b8 4) (GQ (b8 3) (fm K (b8 5) "part") Hy):TS) aE [O (.ref R.r),O (.ref d),O (.int ao),O (.ref c),O (kV (bz (b.1:Int))),O (.ref a),O (f7 m)] (Y (Y H1 d (.frz z (.dK (dX (aN.cf l))))) c (.lst (ht l s.parts.length ao i))):=by intro aE bA bp;refine#v[I,q _,T.Entry.c.cl,T.Entry.ro,DF,c,_,_,_,I,I,az,IB (j:=(dg s.entries x).part) (by rw[ur,C];exact a7),?_];refine bp _ _ #v[?_,_,_,_,I];rw[eS,C];have:=WR (np:=s.parts.length) f I aG (by rw[av];exact bA);show Y _ c (.lst ((ht l s.parts.length ao i).set (bo.gA (aN.bK l b.1)) (.int (b.1:Int))))=_;rw[this]);refine(?_);cases m with|none=>refine⟨I,_,I,?_⟩;refine de (de ?_);exact bb _ (λw h=>by cases h) λ_ _ h=>h|some w=>(have bD:w∈aN.cf l:=by rcases DI _ _ w av with y|y;(cases y);exact qO y);(obtain⟨bh,bk,_,bs,_,aP,_,bt⟩:=a3 w bD;refine#v[I,_,I,?_];have bu:¬decide (f7 (O w)=aB (-1))=ai:=by unfold f7;simp);refine cg (λac=>absurd ac bu) (λ_=>?_);refine#v[I,q _,T.Entry.c.cl,T.Entry.pW,uo,I,ad _ _ _ aC bd be,T.aC.c.cl,T.aC.ie,iI,R.en,_,_,_,I,I,aA.of (ad _ _ _ ap aV aW),eD (j:=w.1) (v:=.ref bk) (by rw[bN,bs];rfl),I,bt _,T.Entry.c.cl,T.Entry.pW,uo,_,_,I,I,_,I,cg (λy=>?_) (λy=>?_)];(have aH:bo.c8 (aN.bK l w.1)<=bo.c8 (aN.bK l b.1):=(by have:((dg s.entries bh).day:Int)<=((dg s.entries x).day:Int):=(by simpa using y);rw[t,aP]at this;lia);exact bb _ (λ_ h=>by cases h;exact aH) λ_ _ h=>h);have aH:¬bo.c8 (aN.bK l w.1)<=bo.c8 (aN.bK l b.1):=(by have:¬((dg s.entries bh).day:Int)<=((dg s.entries x).day:Int):=(by simpa using y);rw[t,aP]at this;lia);refine#v[?_,_,_,_,I];rw[<-MB f I (.inr #v[w,av,aH])]);have aG:¬bo.c8 (aN.bK l b.1)<=ao:=(by have:¬((dg s.entries x).day:Int)<=(ao:Int):=(by simpa using S);rw[t]at this;lia);refine eJ ?_;refine#v[?_,_,_,_,I];rw[<-MB f I (.inl aG)]);(rintro B r ⟨rfl,af,ah,ak,rfl⟩;refine#v[by rw[aw am,az],?_];have bm:(dX (aN.cf l)).length=(aN.cf l).length:=by unfold dX;rw[aq]);refine k _ c ?_ ar ?_;(intro g u X;by_cases e:g=d;(subst e;rw[az,<-aK];exact X);rw[aw e,aw (bI X ar),aw e];exact N _ _ X);rw[aw am.symm,az];unfold ht;rw[bm,ij];rfl
end
end Br
namespace L2
def WU{b:U}{n j:Nat}{te:TE}{vs:aa Nat}{f:St}{H1:Hp}{p:Hp->Prop}(c:aa V)(q:H1 b=aR)(B:c.length=n)(C:n<bu)(A:∀x,bP ((bP f vs).set j (O x)) vs=bP f vs)(y:∀(i:Nat)(d:V)(a:Hp),i<n->c[i]? =O d->Z H1 a->∀R:VK,(∀g,Z a g->R d g)->te ((bP f vs).set j (O (.int (0+(i:Int))))) a R)(w:∀a,Z H1 a->a b=O (.lst c)->p a):∃W:Nat->Nat->Hp->Prop,(∃m,W 0 m (Y H1 b (.lst [])))/\∀i m H,W i m H->((ju 0 n).stop i H/\p H)\/((ju 0 n).go i H/\∃h:Hp->Prop,(∀a,h a->∃t,t<m/\W (i+1) t a)/\∀x a,(ju 0 n).gC i H x a->eh j x (bP f vs) a λl g=>bP l vs=bP f vs/\fI l g λv o=>if v=ai then te l o λd e=>∃aE,e b=O (.lst aE)/\aE.length<bu/\h (Y e b (.lst (aE++ [d])))else h o):=by refine TC (λi a=>Z H1 a/\a b=O (.lst (c.take i))) #v[Z.new q,az] ?_ ?_;((rintro i a z ⟨s,k⟩;have r:c[i]? =O c[i]:=b_ ∅;refine#v[A _,?_];show(if ai=ai then te ((bP f vs).set j (O (.int (0+(i:Int))))) a (λd e=>∃aE,e b=O (.lst aE)/\aE.length<bu/\(Z H1 (Y e b (.lst (aE++ [d])))/\(Y e b (.lst (aE++ [d]))) b=O (.lst (c.take (i+1)))))else(Z H1 a/\a b=O (.lst (c.take (i+1)))));rw[aI I];refine y i c[i] a z r s _ λg u=>#v[_,u _ _ k,?_,?_,?_]);(rw[fE];lia);(exact(s.trans u).gG q);rw[az,ic r]);rintro a ⟨s,k⟩;refine w a s ?_;rw[k,o8 ∅]
end L2
namespace Br
section
def uu(b:V)(c a:Nat):aa (M×V):=[("source",b),("crack",.int c),("bears",.int a)]
def WV{b:V}{c a:Nat}:(uu b c a).lookup ("bears":M)=O (.int a):=by rfl
def zm(C:U)(H:Hp)(p:U)(b:V)(c a:Nat):Prop:=∃dx,H p=O (.ins C dx (uu b c a))
inductive WW(A:bF)(vs:aa V)(H:Hp)(Q:VK)(E:XK):Prop|mk(p a:U)(d:V)(c b:Nat)(_:vs=[.ref p,d,.int c,.int b])(_:H p=O (.ins A.Known.C a []))(_:∀H':Hp,zm A.Known.C H' p d c b->(∀b o,H b=O o->b≠p->H' b=O o)->Q .non H')
def WX:bf P w K mg aJ bq 1 A.Known.dj A.Known.ee ["self","source","crack","bears"] (WW A):=by refine T.Known.ft.fn.bJ U4 (λH vs _ E _ h=>?_);obtain⟨p,dx,_,c,a,rfl,e,k⟩:=h;refine#v[_,ay (cF a7 aS I) (ay (cF a7 aY I) (cR (cF a7 (pv 3) I))),p,_,dx,_,I,e,T.Known.c.cl,T.Known.CY,(by show 0<1000;decide),p,_,dx,_,I,az,T.Known.c.cl,T.Known.pX,(by show 1<1000;decide),?_];rw[eS];refine#v[p,_,dx,_,I,az,T.Known.c.cl,T.Known.xE,(by show 2<1000;decide),?_];rw[eS];refine k _ #v[dx,by rw[az];rfl] λa o b d=>by rw[aw d];exact b
inductive WY(A:bF)(vs:aa V)(H:Hp)(Q:VK)(E:XK):Prop|mk(R:RA)(s:cq)(n a b:Nat)(d:U)(_:vs=[.ref R.r,.ref d,.int a,f7 (aN.srcOf (s.entries.take n) a b),.int b])(_:bo.Ok s)(_:n<=s.entries.length)(_:a<s.parts.length)(_:RecAt A H R s)(_:H d=O (.dK (dX (aN.cf (s.entries.take n)))))(_:Q (.int ((iy s a b n:Nat):Int)) H)
def WZ:bf P w K mg aJ bq 2 A.aC.xU A.aC.yf ["self","says","part","source","day"] (WY A):=by refine T.aC.JN.fn.bJ U_ (λH vs _ E m h=>?_);obtain⟨R,s,n,part,ao,d,rfl,o,S,u,b,J,k⟩:=h;obtain⟨q,g⟩:=b.obj;have V:=k7 m;refine#v[_,ay (cN (cO fl (pv 3) (bG T.ud) (cm _)) (bc (pm a7 T.aC.c T.aC.C3 (My T) m (cv aY (pv 4)))) c9) (bc (cS kq (ra V aS (pv 3) (λ_ _=>rfl)) (pm a7 T.aC.c T.aC.C3 (My T) m (cv aY (cS jv (pv 4) (aX (cC d9 a0 (pv 3) (λ_ _=>rfl)))))))),?_];have c:=aN.Gi (s.entries.take n) part ao;cases p:aN.srcOf (s.entries.take n) part ao with|none=>(rw[p]at c;have e:iy s part ao n=((eX s part).grows*ao+99)/100:=by unfold iy;rw[show PV (s.entries.take n) part ao=aj from c]);refine#v[I,_,I,?_];refine de ?_;refine#v[R.r,q,_,I,g,I,R,s,part,ao,I,o,u,b,?_];rw[<-e];exact k|some a=>(rw[p]at c;have t:PV (s.entries.take n) part ao=O (a.1,bo.c8 (aN.bK (s.entries.take n) a.1),a.2):=c;have N:=bo.F0 t;have e:iy s part ao n=a.2+((eX s part).grows*(ao-bo.c8 (aN.bK (s.entries.take n) a.1))+99)/100:=by unfold iy;rw[t]);(have y:a∈aN.cf (s.entries.take n):=by rcases DI _ _ a p with f|f;(cases f);exact f);(obtain⟨x,W,_,z,_⟩:=Mz S y;have r:=getD_at (l:=R.es) (i:=a.1) (by rw[b.e4];lia);obtain⟨_,L⟩:=b.ent _ _ x r W;refine#v[I,_,I,?_];have U:¬decide (f7 (O a)=aB (-1))=ai:=by unfold f7;simp);(refine cg (λX=>absurd X U) (λ_=>?_);refine#v[d,_,I,(show fV H d (kV (bz (a.1:Int))) (O (.int (a.2:Int)))from(uq (aN.vM _) (show(a.1,a.2)∈_ from y))▸fV.k (k:=bz (a.1:Int)) J),R.r,q,_,I,g,I,I,g,T.aC.c.cl,T.aC.ie,iI,R.en,_,_,_,I,I,aA.of b.en,eD (j:=a.1) (v:=.ref (R.es.getD a.1 0)) (by rw[bN,r];rfl),I,L,T.Entry.c.cl,T.Entry.pW,uo,_,_,I,I,?_];have C:(ao:Int)-((dg s.entries x).day:Int)=((ao-bo.c8 (aN.bK (s.entries.take n) a.1):Nat):Int):=by rw[z];simp only at N;lia);refine#v[R,s,part,ao-bo.c8 (aN.bK (s.entries.take n) a.1),by rw[<-C];rfl,o,u,b,_,_,I,I,?_];rw[e]at k;have B:((a.2+((eX s part).grows*(ao-bo.c8 (aN.bK (s.entries.take n) a.1))+99)/100:Nat):Int)=(a.2:Int)+((((eX s part).grows*(ao-bo.c8 (aN.bK (s.entries.take n) a.1))+99)/100:Nat):Int):=Int.natCast_add _ _;rw[B]at k;exact k
inductive MC(A:bF)(vs:aa V)(H:Hp)(Q:VK)(E:XK):Prop|mk(R:RA)(s:cq)(n a b:Nat)(d:U)(_:vs=[.ref R.r,.ref d,.int a,f7 (aN.srcOf (s.entries.take n) a b),.int b])(_:bo.Ok s)(_:n<=s.entries.length)(_:a<s.parts.length)(_:RecAt A H R s)(_:H d=O (.dK (dX (aN.cf (s.entries.take n)))))(_:∀(H':Hp)(p:U),Z H H'->zm A.Known.C H' p (f7 (aN.srcOf (s.entries.take n) a b)) (iy s a b n) (cp s a b n)->Q (.ref p) H')
def W0:bf P w K mg aJ bq 3 A.aC.xT A.aC.ye ["self","says","part","source","day"] (MC A):=by(refine T.aC.C2.fn.bJ xG (λH vs _ E g h=>?_);obtain⟨R,s,n,part,ao,d,rfl,o,r,f,a,q,k⟩:=h;obtain⟨m,b⟩:=a.obj;obtain⟨i,l⟩:=a.Mw f;obtain⟨_,_,_,_⟩:=Mx o f;refine#v[_,ay (ba 5 xG.nd (cC gE (cC d9 a0 aY (λ_ _=>rfl)) bS (λ_ _=>rfl))) (ay (ba 6 xG.nd (cC gE (cC d9 a0 aY (λ_ _=>rfl)) bS (λ_ _=>rfl))) (ay (ba 7 xG.nd (pm a7 T.aC.c T.aC.JN (WZ T) g (dm aS (dm aY (cv (pv 3) (pv 4)))))) (bc (lL T.Known.c.k9 (WX T) g I T.Known.c.at_ T.Known.ft.bi .nil g_ (dm (pv 3) (cv (pv 7) (iY (B2 I) (by rfl) T.zd (by rfl) (cv bS (cS jv (pv 5) (cS G0 (pv 6) (pv 7))))))))))),I,b,T.aC.c.cl,T.aC.om,qc,R.pt,_,_,_,I,I,aA.of a.pt,eD i,_,_,_,_,I,I,dH.of l,fw (j:=0) (v:=.int ((eX s part).bears:Int)) I I,I,b,T.aC.c.cl,T.aC.om,qc,R.pt,_,_,_,I,I,aA.of a.pt,eD i,_,_,_,_,I,I,dH.of l,fw (j:=1) (v:=.int ((eX s part).costs:Int)) I I,R.r,m,_,I,b,I,R,s,n,part,ao,d,I,o,r,f,a,q,_,_,I,I,.inl #v[by lia,by lia],_,_,I,I,_,_,I,?_];have e:(if((eX s part).bears:Int)-((eX s part).costs:Int)*((iy s part ao n:Nat):Int)>0 then((eX s part).bears:Int)-((eX s part).costs:Int)*((iy s part ao n:Nat):Int)else 0)=((cp s part ao n:Nat):Int):=by unfold cp;rw[<-PU];generalize (eX s part).costs*iy s part ao n=c;split<;>lia);intro p dx np x _;refine#v[p,dx,f7 (aN.srcOf (s.entries.take n) part ao),iy s part ao n,cp s part ao n,by rw[<-e];rfl,az,λH1 t u=>#v[I,?_]];exact k H1 p (Z.made np x u) t
def W2(A:bF)(H:Hp)(s:cq)(ao n:Nat)(b:aa V):Prop:=b.length=s.parts.length/\∀(i:Nat)(a:V),b[i]? =O a->∃p,a=.ref p/\zm A.Known.C H p (f7 (aN.srcOf (s.entries.take n) i ao)) (iy s i ao n) (cp s i ao n)
inductive W3(A:bF)(vs:aa V)(H:Hp)(Q:VK)(E:XK):Prop|mk(R:RA)(s:cq)(n a:Nat)(d:U)(_:vs=[.ref R.r,.ref d,.int a])(_:bo.Ok s)(_:n<=s.entries.length)(_:RecAt A H R s)(_:H d=O (.dK (dX (aN.cf (s.entries.take n)))))(_:∀(H':Hp)(D:U)(ys:aa V),Z H H'->H D=aR->H' D=O (.lst ys)->W2 A H' s a n ys->Q (.ref D) H')
def DJ:bf P w K mg aJ bq 4 A.aC.xS A.aC.yd ["self","says","day"] (W3 A):=by(refine T.aC.yt.fn.bJ t7 (λH vs _ E B h=>?_);obtain⟨R,s,n,ao,d,rfl,o,y,f,u,k⟩:=h;obtain⟨q,z⟩:=f.obj;have ag:=bZ;have af:=o.kT;refine#v[_,ay (ba 3 t7.nd (pm a7 T.aC.c T.aC.JM ((WT T).to 3) B (cv aS aY))) (bc (hP (dS:=[("part",4),("source",5)]) (g:=q5 K 2 (k1 (eh 4) (k1 (eh 5) qZ))) (tt:=fI) (te:=n6 A.aC.C "known_by" (MC A) [] E0 (b8 0) (eC (b8 1) (eC (b8 4) (eC (b8 5) (eC (b8 2) fo))))) I t7.nd (tU I T.ue (aQ (pv 3))) (gn (by kernel_rfl)) (λ_ _ _ _ _=>mN I (gQ (dD (i:=4) t7.nd I (cB I)) (gQ (dD (i:=5) t7.nd I (cB I)) mM))) (λ_ _ _ _ _=>ib) (λ_ _ _ _ _=>Hi a7 T.aC.c.cl T.aC.C2.me (W0 T) B T.aC.C2.bi .nil g_ (dm aS (dm (pv 4) (cv (pv 5) aY)))))),R.r,q,_,I,z,I,R,s,n,ao,d,I,o,y,f,u,λH1 L a _ r=>?_];have j:((bQ s.parts.length).map λk=>f7 (aN.srcOf (s.entries.take n) k ao)).length=s.parts.length:=by rw[aq,et]);refine#v[L,_,I,aA.of r,λJ t=>UN (K:=K) (λi C b=>∃p,C=.ref p/\zm A.Known.C b p (f7 (aN.srcOf (s.entries.take n) i ao)) (iy s i ao n) (cp s i ao n)) (λi C m _ aE U⟨p,e,dx,c⟩ Y=>#v[p,e,dx,Y _ _ c (bC c U (by intro ad;cases ad))]) t (aA.of r) (by rw[j];lia) (λ_ _=>rfl) (λi x b l s' _ S=>?_) λb ac s' V W X=>?_];(have v:i<s.parts.length:=(by rw[<-j];exact(cM.mp l).1);rw[bN,h9 v]at l;have N:=aM l;subst N;exact#v[R.r,q,_,I,s' _ _ (a _ _ z),I,R,s,n,i,ao,d,I,o,y,v,f.same (a.trans s'),s' _ _ (a _ _ u),λm p Z c=>S _ m Z #v[p,I,c]]);exact k b J ac (a.trans s') (a.free t) V #v[W.trans j,X]
inductive W4(A:bF)(vs:aa V)(H:Hp)(Q:VK)(E:XK):Prop|mk(R:RA)(s:cq)(n a:Nat)(d:U)(_:vs=[.ref R.r,.ref d,.int a])(_:bo.Ok s)(_:n<=s.entries.length)(_:RecAt A H R s)(_:H d=O (.dK (dX (aN.cf (s.entries.take n)))))(_:∀(H':Hp)(D:U),Z H H'->H D=aR->H' D=O (.lst (aK ((bQ s.parts.length).map λk=>cp s k a n)))->Q (.ref D) H')
def Ef:bf P w K mg aJ bq 5 A.aC.xW A.aC.yh ["self","says","day"] (W4 A):=by(refine T.aC.yu.fn.bJ CZ (λH vs _ E N h=>?_);obtain⟨R,s,n,ao,d,rfl,o,C,j,z,k⟩:=h;obtain⟨t,J⟩:=j.obj;have V:=bZ;have U:=o.kT;refine#v[_,bc (hP (dS:=[("known",3)]) (g:=eh 3) (tt:=fI) (te:=fm K (b8 3) "bears") I CZ.nd (fU (pm a7 T.aC.c T.aC.yt (DJ T) N (cv aS aY))) (gn (by kernel_rfl)) (λ_ _ _ _ _=>dD (i:=3) CZ.nd I (cB I)) (λ_ _ _ _ _=>ib) (λ_ _ _ _ _=>aX (pv 3))),R.r,t,_,I,J,I,R,s,n,ao,d,I,o,C,j,z,λH1 r _ m _ e c=>?_];have l:(aK ((bQ s.parts.length).map λk=>cp s k ao n)).length=s.parts.length:=by unfold aK;rw[aq,aq,et]);(refine#v[r,I,#v[_,aA.of e],λq f=>mZ (K:=K) (aK ((bQ s.parts.length).map λk=>cp s k ao n)) f (aA.of e) (by rw[l,c.1]) (by rw[c.1];lia) (λ_=>rfl) (λi x _ b S a s' _ v=>?_) λb s' h'=>k b q (m.trans s') (m.free f) h'];have B:i<s.parts.length:=by rw[<-l];exact(cM.mp a).1);unfold aK at a;rw[ck,bN,h9 B]at a;have u:=aM a;subst u;obtain⟨p,rfl,dx,L⟩:=c.2 i x S;exact#v[I,s' _ _ L,T.Known.c.cl,T.Known.xE,WV,v b (Z.refl _)]
def zo(s:cq)(ao n:Nat)(h:1<=s.parts.length):oT s ao n<s.parts.length/\∀k<s.parts.length,cp s (oT s ao n) ao n<=cp s k ao n:=by(have key:∀(l:aa Nat)(c:Nat),(c=l.foldl (λ(m k:Nat)=>if cp s k ao n<cp s m ao n then k else m) c\/l.foldl (λ(m k:Nat)=>if cp s k ao n<cp s m ao n then k else m) c∈l)/\cp s (l.foldl (λ(m k:Nat)=>if cp s k ao n<cp s m ao n then k else m) c) ao n<=cp s c ao n/\∀k∈l,cp s (l.foldl (λ(m k:Nat)=>if cp s k ao n<cp s m ao n then k else m) c) ao n<=cp s k ao n:=by intro l;induction l with|nil=>intro c;exact#v[.inl I,bp _,λk d=>by cases d]|cons a l j=>intro c;rw[gI];by_cases i:cp s a ao n<cp s c ao n;(rw[aI i];obtain⟨b,g,f⟩:=j a;refine#v[?_,by lia,λk d=>?_];(rcases b with b|b;(exact .inr (by rw[<-b];exact cc ..));exact .inr (cw _ b));rcases bL.mp d with e|e;(subst e;exact g);exact f k e);rw[aD i];obtain⟨b,g,f⟩:=j c;refine#v[?_,g,λk d=>?_];(rcases b with b|b;(exact .inl b);exact .inr (cw _ b));rcases bL.mp d with e|e;(subst e;lia);exact f k e);obtain⟨b,_,f⟩:=key (bQ s.parts.length) 0;refine#v[?_,λk d=>f k (gu.mpr d)];rcases b with b|b;(unfold oT;lia);exact gu.mp b
def DK{s:cq}{ao n:Nat}(h:1<=s.parts.length){m:Int}(c:m∈(bQ s.parts.length).map λk=>((cp s k ao n:Nat):Int))(d:∀g∈(bQ s.parts.length).map λk=>((cp s k ao n:Nat):Int),m<=g):m=((ej s ao n:Nat):Int):=by obtain⟨a,b⟩:=zo s ao n h;obtain⟨k,f,e⟩:=bM.mp c;have i:=b k (gu.mp f);have:=d _ (bM.mpr #v[oT s ao n,gu.mpr a,I]);unfold ej;lia
def zp(l:aa Nat):aK l=(l.map λ(n:Nat)=>(n:Int)).map aB:=by unfold aK;rw[ck];rfl
inductive W5(A:bF)(vs:aa V)(H:Hp)(Q:VK)(E:XK):Prop|mk(R:RA)(s:cq)(n a:Nat)(d:U)(_:vs=[.ref R.r,.ref d,.int a])(_:bo.Ok s)(_:n<=s.entries.length)(_:RecAt A H R s)(_:H d=O (.dK (dX (aN.cf (s.entries.take n)))))(_:∀H':Hp,Z H H'->Q (.int ((ej s a n:Nat):Int)) H')
def DL:bf P w K mg aJ bq 6 A.aC.xX A.aC.yi ["self","says","day"] (W5 A):=by refine T.aC.yw.fn.bJ Va (λH vs _ E q h=>?_);obtain⟨R,s,n,ao,d,rfl,o,l,a,j,k⟩:=h;obtain⟨f,p⟩:=a.obj;have g:=o.p1;refine#v[_,bc (iY (tK I) (by rfl) T.uf (by rfl) (aQ (pm a7 T.aC.c T.aC.yu (Ef T) q (cv aS aY)))),R.r,f,_,I,p,I,R,s,n,ao,d,I,o,l,a,j,λH1 e r _ i=>?_];refine#v[e,_,I,aA.of (by rw[i,zp]),?_,λm b c=>?_];(rw[aq,aq,et];lia);rw[ck]at b c;rw[DK g b c];exact k H1 r
inductive W6(A:bF)(vs:aa V)(H:Hp)(Q:VK)(E:XK):Prop|mk(R:RA)(s:cq)(_:vs=[.ref R.r])(_:bo.Ok s)(_:RecAt A H R s)(_:∀(H':Hp)(d:U),Z H H'->H d=aR->H' d=O (.dK (dX (aN.cf (s.entries.take s.entries.length))))->Q (.ref d) H')
def qd:bf P w K mg aJ bq 2 A.aC.xQ A.aC.yb ["self"] (W6 A):=by refine T.aC.oo.fn.bJ U9 (λH vs _ E d h=>?_);obtain⟨R,s,rfl,o,a,k⟩:=h;obtain⟨c,b⟩:=a.obj;refine#v[_,bc (pm a7 T.aC.c T.aC.yr (DH T) d (aQ (dE T.dW a0))),R.r,c,_,I,b,I,I,b,T.aC.c.cl,T.aC.ie,iI,_,_,I,.inl (aA.of a.en),?_];rw[aq,a.e4];exact#v[R,s,s.entries.length,I,o,bp _,a,k]
inductive W7(A:bF)(vs:aa V)(H:Hp)(Q:VK)(E:XK):Prop|mk(R:RA)(s:cq)(n:Nat)(_:vs=[.ref R.r,.int n])(_:RecAt A H R s)(_:∀H':Hp,RecAt A H' R {s with today:=s.today+n}->(∀b o,H b=O o->b≠R.r->H' b=O o)->Q .non H')
def W8:bf P w K mg aJ bq 1 A.aC.x6 A.aC.yo ["self","days"] (W7 A):=by(refine T.aC.JT.fn.bJ Vb (λH vs _ E _ h=>?_);obtain⟨R,s,n,rfl,c,k⟩:=h;obtain⟨l,d⟩:=c.obj;refine#v[_,cR (tD a7 aS tE),I,d,T.aC.c.cl,T.aC.i7,kF,_,_,I,I,l,_,d,(by show 4<1000;decide),?_];have e:∀j u,H j=O u->j≠R.r->(Y H R.r (.ins A.aC.C l (cz "today" (.int ((s.today:Int)+(n:Int))) (qb R s.today)))) j=O u:=λj u o q=>by rw[aw q];exact o);refine k _ #v[#v[l,by rw[az];rfl],e _ _ c.pt (bC c.pt d (by intro b;cases b)),e _ _ c.en (bC c.en d (by intro b;cases b)),e _ _ c.po (bC c.po d (by intro b;cases b)),c.gp,c.e4,c.hT,λi a p f g=>?_,λi a x f g=>?_,λi a p f g=>?_,c.nd] e;(have:=c.part i a p f g;exact e _ _ this (bC this d (by intro b;cases b)));(obtain⟨dx,m⟩:=c.ent i a x f g;refine#v[dx,e _ _ m (bC m d λb=>?_)];injection b with _ _ b;injection b with b _;injection b with b _;exact absurd b (by decide+kernel));have:=c.post i a p f g;exact e _ _ this (bC this d (by intro b;cases b))
inductive W9(A:bF)(vs:aa V)(H:Hp)(Q:VK)(E:XK):Prop|mk(R:RA)(s:cq)(a:Nat)(_:vs=[.ref R.r,.int a])(_:s.posts.length<60)(_:RecAt A H R s)(_:∀(H':Hp)(t:U),(∀bh,RecAt A H' {R with qs:=R.qs++ [t]} {s with posts:=s.posts++ [⟨s.today,bh,a⟩]})->(∀b o,H b=O o->b≠R.po->H' b=O o)->Q .non H')
def W_:bf P w K mg aJ bq 1 A.aC.x7 A.aC.yp ["self","limit"] (W9 A):=by(refine T.aC.JU.fn.bJ Vc (λH vs _ E _ h=>?_);obtain⟨R,s,o,rfl,_,b,k⟩:=h;obtain⟨C,n⟩:=b.obj;have ac:=bZ;refine#v[_,cR (e0 (gF gL mm mn lM a0 (aQ (kr (cv a0 aS))))),I,n,T.aC.c.cl,T.aC.t9,zk,.inl #v[I,_,aA.of b.po],I,n,T.aC.c.cl,T.aC.i7,kF,(bB 2),λt q=>?_];have B:Z H (Y H t (.tup [.int (s.today:Int),.int (o:Int)])):=Z.new q;refine#v[R.po,_,_,I,I,B _ _ b.po,(by rw[aq,b.hT];lia),?_];have X:t≠R.po:=λe=>by rw[e,b.po]at q;cases q);(have c:∀l u,H l=O u->l≠R.po->(Y (Y H t (.tup [.int (s.today:Int),.int (o:Int)])) R.po (.lst (R.qs.map aT++ [.ref t]))) l=O u:=λl u N U=>by rw[aw U];exact B _ _ N);have z:=b.nd;simp only[fD,bL,hI,ff,pf,ph]at z;obtain⟨⟨_,V⟩,W,_⟩:=z;refine k _ t (λr=>#v[#v[C,c _ _ n (bC b.po n (by intro d;cases d)).symm],c _ _ b.pt V,c _ _ b.en W,by rw[az];show _=O (cT ((R.qs++ [t]).map aT));rw[dY];rfl,b.gp,b.e4,?_,λi a p f j=>?_,λi a x f j=>?_,λi a p f j=>?_,b.nd]) c;(show(R.qs++ [t]).length=(s.posts++ [_]).length;rw[cV,cV,b.hT];rfl);(have:=b.part i a p f j;exact c _ _ this (bC this b.po (by intro d;cases d)));(obtain⟨dx,v⟩:=b.ent i a x f j;exact#v[dx,c _ _ v (bC v b.po (by intro d;cases d))]);have g:(R.qs++ [t])[i]? =O a:=f;have m:(s.posts++ [(#v[s.today,r,o]:l8)])[i]? =O p:=j;by_cases y:i<R.qs.length;(rw[il y]at g;rw[il (by rw[<-b.hT];exact y)]at m;have:=b.post i a p g m;exact c _ _ this (bC this b.po (by intro d;cases d)));(have S:=(cM.mp g).1;rw[cV,iM]at S;have e:i=R.qs.length:=by lia);subst e;rw[je (bp _),j9]at g;rw[b.hT,je (bp _),j9]at m;have J:t=a:=aM g;have L:(#v[s.today,r,o]:l8)=p:=aM m;subst J L;rw[aw X,az]
inductive MD(A:bF)(Xa:RA->ED->aa V)(ok:cq->ED->Prop)(vs:aa V)(H:Hp)(Q:VK)(E:XK):Prop|mk(R:RA)(s:cq)(x:dz)(_:vs=Xa R (dg (s.entries++ [x]) x))(_:ok s (dg (s.entries++ [x]) x))(_:bo.Ok s)(_:s.entries.length<60)(_:RecAt A H R s)(_:∀(H':Hp)(p:U),RecAt A H' {R with es:=R.es++ [p]} (kG s x)->(∀b o,H b=O o->b≠R.en->H' b=O o)->Q (.int (s.entries.length:Nat)) H')
def Xb(A:bF):Sp:=MD A (λR d=>[.ref R.r,.int d.kind,.int d.part,.int d.day,.int d.crack]) (λ_ d=>d.about= -1)
def Xc:bf P w K mg aJ bq 3 A.aC.xM A.aC.x8 ["self","kind","part","day","crack"] (Xb A):=by refine T.aC.JL.fn.bJ U7 (λH vs _ E c h=>?_);obtain⟨R,s,x,rfl,b,o,l,a,k⟩:=h;obtain⟨i,t⟩:=a.obj;have y:ew 1 _:=c.mono (by decide);generalize q:dg (s.entries++ [x]) x=d at b⊢;refine#v[_,bc (pm a7 T.aC.c T.aC.C1 (Mu T) y (aQ (lL T.Entry.c.k9 (Mt T) c I T.Entry.c.at_ T.Entry.ft.bi .nil g_ (dm aS (dm aY (dm (pv 3) (cv (pv 4) (bG T.ud)))))))),R.r,i,_,I,t,I,?_];intro p dx np B _;refine#v[p,dx,d,by rw[b];rfl,az,λH1 v z=>#v[I,?_]];have e:Z H H1:=Z.made np B z;exact#v[R,s,p,x,I,o,l,a.same e,by rw[q];exact v,λf m j=>k f p m λg u n r=>j g u (e _ _ n) r]
def Xd(A:bF):Sp:=MD A (λR d=>[.ref R.r,.int d.kind,.int d.about,.int d.crack]) (λs d=>∃(e:Nat)(a:dz),d.about=(e:Int)/\s.entries[e]? =O a/\(dg s.entries a).part=d.part/\(dg s.entries a).day=d.day)
def ME:bf P w K mg aJ bq 3 A.aC.xN A.aC.x9 ["self","kind","about","crack"] (Xd A):=by refine T.aC.C0.fn.bJ Js (λH vs _ E m h=>?_);obtain⟨R,s,x,rfl,b,o,B,a,k⟩:=h;obtain⟨y,g⟩:=a.obj;have X:ew 1 _:=m.mono (by decide);generalize S:dg (s.entries++ [x]) x=d at b⊢;obtain⟨e,ad,J,n,W,N⟩:=b;have c:=getD_at (l:=R.es) (i:=e) (by rw[a.e4];exact(cM.mp n).1);obtain⟨_,f⟩:=a.ent _ _ ad c n;refine#v[_,ay (ba 4 Js.nd (cC d9 a0 aY (λ_ _=>rfl))) (bc (pm a7 T.aC.c T.aC.C1 (Mu T) X (aQ (lL T.Entry.c.k9 (Mt T) m I T.Entry.c.at_ T.Entry.ft.bi .nil g_ (dm aS (dm (aX (pv 4)) (dm (aX (pv 4)) (cv (pv 3) aY)))))))),I,g,T.aC.c.cl,T.aC.ie,iI,R.en,_,_,_,I,I,aA.of a.en,fw (j:=e) (v:=.ref (R.es.getD e 0)) J (by rw[bN,c];rfl),R.r,y,_,I,g,I,I,f,T.Entry.c.cl,T.Entry.ro,DF,I,f,T.Entry.c.cl,T.Entry.pW,uo,?_];intro p dx np ac _;refine#v[p,dx,d,by rw[W,N];rfl,az,λH1 V Y=>#v[I,?_]];have q:Z H H1:=Z.made np ac Y;exact#v[R,s,p,x,I,o,B,a.same q,by rw[S];exact V,λr C z=>k r p C λt u L U=>z t u (q _ _ L) U]
end
def MF:∀(l:aa (Nat×Nat))(x:Nat×Nat)(k:Nat),bw.ec k (l++ [x])=bw.ec k l++fy x.1 (k+l.length)
 | [],x,k=>by show fy x.1 k++ []=[]++fy x.1 (k+0);simp
 |a::l,x,k=>by show fy a.1 k++bw.ec (k+1) (l++ [x])=(fy a.1 k++bw.ec (k+1) l)++_;rw[MF l x (k+1),gq,cU,show k+1+l.length=k+(l.length+1)by lia]
def MG(n:Nat)(v:V):(fy n [v]).flatten=fy n v:=by induction n with|zero=>rfl|succ n a=>rw[nT,qH,a,nT];rfl
section
inductive Xe(K:bj)(vs:aa V)(H:Hp)(Q:VK)(E:XK):Prop|mk(a:U)(l:aa (Nat×Nat))(_:vs=[.ref a])(_:aA K H a (aK (l.map λx=>x.1)))(_:l.length<=12)(_:(∀x∈l,x.1<=5))(_:∀(H':Hp)(D:U),Z H H'->H D=aR->H' D=O (.lst (aK (bw.ec 0 l)))->Q (.ref D) H')
def Xf:bf P w K mg aJ bq 1 A.m8.f A.m8.fd ["sizes"] (Xe K):=by refine T.m8.fn.bJ y4 (λH vs _ E _ h=>?_);obtain⟨a,l,rfl,z,_,y,k⟩:=h;have ao:=bZ;refine#v[_,ay (ba 1 y4.nd (bO gk)) (ay (iV hK I (tU I T.ue (aQ a7)) (mN I (gQ (dD (i:=2) y4.nd I (cB I)) (gQ (dD (i:=3) y4.nd I (cB I)) mM))) (cR (e0 (gF gL sD sE wa aS (aQ (cS Ce (bO (aQ aY)) (pv 3))))))) (bc aS)),dc _,λf m=>?_];have C:Z H (Y H f (.lst [])):=Z.new m;refine#v[a,_,I,C.seq z,DE (K:=K) (a:=a) (xs:=aK (l.map λx=>x.1)) (λi j b=>∃(t u:ab V),j=[O (.ref a),O (.ref f),t,u]/\Z H b/\b f=O (.lst (aK (bw.ec 0 (l.take i))))) #v[aj,aj,I,C,az] (λi j b _⟨_,_,_,s,_⟩=>s.seq z) ?_ ?_];((rintro i c v j b n ⟨t,u,rfl,q,g⟩ R;unfold aK at n;rw[ck]at n;obtain⟨x,p,rfl⟩:=eL n;have J:Z b (Y b v (.tup [.int (i:Nat),aB (x.1:Int)])):=Z.new R;have ap:=y x (dJ p);have am:i<l.length:=(cM.mp p).1;have W:l.take (i+1)=l.take i++ [x]:=ic p;have an:(aK (bw.ec 0 (l.take i))).length<=60:=by(unfold aK;rw[aq,bw.qT];have:∀d:aa (Nat×Nat),(∀c∈d,c.1<=5)->(d.map λ(x:Nat×Nat)=>x.1).sum<=5*d.length:=by intro d;induction d with|nil=>intro _;simp|cons c d ad=>intro B;have ak:=B c (cc ..);have al:=ad λw X=>B w (cw _ X);simp only[cI,i_,cU];lia);have N:=this (l.take i) λc ac=>y c (qO ac);rw[fE]at N;lia);refine#v[v,_,I,dH.of az,I,_,_,I,_,_,I,I,.inl #v[I,_,aA.of (J _ _ g)],(bB 1),λaf S=>?_];have ag:=Z.new (o:=cT [aB (i:Nat)]) S;refine#v[af,_,_,I,I,az,(by show-(2^63)<=((x.1:Nat):Int);lia),(by show((x.1:Nat):Int)<2^63;lia),(by rw[jj];show 1*x.1<=_;lia),λr U=>?_];rw[jj,MG];have ah:=Z.new (o:=cT (fy x.1 (aB (i:Nat)))) U;have L:=(J.trans ag).trans ah;refine#v[f,r,_,_,I,I,L _ _ g,az,(by rw[qp];show _+x.1<=_;lia),_,_,I,(q.trans L).gG m,?_];rw[az,W,MF];unfold aK;rw[dY,List.map_replicate,fE,uP ∅,oU]);(rintro j b ⟨t,u,rfl,q,g⟩;have e:(aK (l.map λx=>x.1)).length=l.length:=by unfold aK;rw[aq,aq]);rw[e,ij]at g;exact(k b f q m g)
inductive MH(K:bj)(vs:aa V)(H:Hp)(Q:VK)(E:XK):Prop|mk(a:U)(b:aa V)(_:vs=[.ref a])(_:H a=O (.lst b))(_:b.length<2000000)(_:∀(H':Hp)(D:U),Z H H'->H D=aR->H' D=O (.lst (.int (b.length:Nat)::b))->Q (.ref D) H')
def hv:bf P w K mg aJ bq 1 A.fJ.f A.fJ.fd ["numbers"] (MH K):=by(refine T.fJ.fn.bJ Vn (λH vs _ E _ h=>?_);obtain⟨a,xs,rfl,d,_,k⟩:=h;have m:=bZ;refine#v[_,bc (cS g9 (bO (aQ (dE T.dW a7))) a7),_,_,I,.inl (aA.of d),(bB 1),λf j=>?_];have g:=Z.new (o:=cT [aB (xs.length:Nat)]) j;refine#v[f,a,_,_,I,I,az,g _ _ d,(by show 1+xs.length<=bu;lia),λc b=>?_];have l:c≠f:=λe=>by rw[e,az]at b;cases b);(have i:H c=aR:=by rw[aw l]at b;exact b);exact k _ c (g.trans (Z.new b)) i (by rw[az];rfl)
def DM(a:Nat)(l:aa (Nat×Nat)):G:={Sy49.init with turn:=a,spans:=l,most:=l.map λ_=>(0,0)}
inductive Xg(A:bF)(vs:aa V)(H:Hp)(Q:VK)(E:XK):Prop|mk(p a c d:U)(e:Nat)(l:aa (Nat×Nat))(_:vs=[.ref p,.int e,.ref c,.ref d])(_:H p=O (.ins A.ak.C a []))(_:H c=O (.lst (aK (l.map λx=>x.1))))(_:H d=O (.lst (aK (l.map λx=>x.2))))(_:l.length<=12)(_:(∀x∈l,x.1<=5))(_:∀(H':Hp)(L:LA),L.l=p->L.sz=c->L.lim=d->b9 A H' L (DM e l) []->(H L.cs=aR/\H L.bX=aR/\H L.wt=aR/\H L.q0=aR/\H L.q1=aR/\H L.cr=aR)->(∀b o,H b=O o->b≠p->H' b=O o)->Q .non H')
def MI:bf P w K mg aJ bq 2 A.ak.dj A.ak.ee ["self","turn","sizes","limits"] (Xg A):=by(refine T.ak.ft.fn.bJ US (λH vs _ E bt h=>?_);obtain⟨p,dx,J,v,av,l,rfl,aL,a6,ak,bo,br,k⟩:=h;have bJ:=bZ;have bu:=T.m8.fn.kp;refine#v[_,ay (cF a7 aS I) (ay (cF a7 aY I) (ay (cF a7 (Hh (Xf T) bt I T.m8.at_ bu T.m8.bi .nil g_ (aQ aY)) I) (ay (cF a7 (pv 3) I) (ay (cF a7 bS I) (ay (cF a7 (bG T.zb) I) (ay (cF a7 bS I) (ay (cF a7 (bO gk) I) (ay (cF a7 (bO (cv (bO gk) (bO gk))) I) (cR (cF a7 (bO gk) I)))))))))),p,_,dx,_,I,aL,T.ak.c.cl,T.ak.CP,(by show 0<1000;decide),p,_,dx,_,I,az,T.ak.c.cl,T.ak.xq,(by show 1<1000;decide),?_];rw[eS];have bH:J≠p:=bC a6 aL (by intro aW;cases aW);have ac:v≠p:=bC ak aL (by intro aW;cases aW);refine#v[J,l,I,aA.of (by rw[aw bH];exact a6),bo,br,λH1 n bc V aD=>?_];have ad:n≠p:=λe=>by rw[e,az]at V;cases V);(rw[aw ad]at V;refine#v[p,_,dx,_,I,bc _ _ az,T.ak.c.cl,T.ak.oj,(by show 2<1000;decide),p,_,dx,_,I,az,T.ak.c.cl,T.ak.rl,(by show 3<1000;decide),?_];rw[eS];refine#v[p,_,dx,_,I,az,T.ak.c.cl,T.ak.k_,(by show 4<1000;decide),?_];rw[eS];refine#v[p,_,dx,_,I,az,T.ak.c.cl,T.ak.m6,(by show 5<1000;decide),?_];rw[eS];refine#v[p,_,dx,_,I,az,T.ak.c.cl,T.ak.pU,(by show 6<1000;decide),?_];rw[eS];generalize aE:Y H1 p _=t;have aN:t p=O (.ins A.ak.C dx [("turn",.int av),("sizes",.ref J),("cell_spans",.ref n),("limits",.ref v),("time",.int 0),("open_side",.int 0),("entered",.int 0)]):=by rw[<-aE,az];rfl);(have ag:∀a u,H a=O u->a≠p->t a=O u:=λa u b f=>by rw[<-aE,aw f];exact bc _ _ (by rw[aw f];exact b));(have aH:t n=O (.lst (aK (bw.ec 0 l))):=by rw[<-aE,aw ad];exact aD);(have af:∀a,t a=aR->H a=aR:=λa b=>by by_cases e:a=p;(rw[e,aN]at b;cases b);cases am:H a with|none=>rfl|some u=>rw[ag a u am e]at b;cases b);(refine#v[dc _,λm ao=>?_];have bk:p≠m:=bI aN ao;have bd:Z t (Y t m (.lst [])):=Z.new ao;refine#v[p,_,dx,_,I,bd _ _ aN,T.ak.c.cl,T.ak.hQ,(by show 7<1000;decide),?_];generalize aF:Y (Y t m (.lst [])) p _=g;have al:g p=O (.ins A.ak.C dx [("turn",.int av),("sizes",.ref J),("cell_spans",.ref n),("limits",.ref v),("time",.int 0),("open_side",.int 0),("entered",.int 0),("vehicles",.ref m)]):=by rw[<-aF,az];rfl);(have S:∀a u,t a=O u->a≠p->g a=O u:=λa u b f=>by rw[<-aF,aw f];exact bd _ _ b);(have as:g m=O (.lst []):=by rw[<-aF,aw bk.symm,az]);(have aq:∀a,g a=aR->t a=aR:=λa b=>by by_cases e:a=p;(rw[e,al]at b;cases b);cases am:t a with|none=>rfl|some u=>rw[S a u am e]at b;cases b);(refine#v[dc _,λr W=>#v[dc _,λs ar=>#v[(bB 2),λy X=>?_]]];have be:Z g (Y g r (.lst [])):=Z.new W;have bg:=be.trans (Z.new (o:=cT []) ar);have L:=bg.trans (Z.new (o:=cT [aT r,aT s]) X);generalize aG:Y (Y (Y g r (.lst [])) s (.lst [])) y (.lst [aT r,aT s])=j at L⊢;have aV:r≠s:=λe=>by rw[<-e,az]at ar;cases ar);(have ba:r≠y:=λe=>by rw[<-e,aw aV,az]at X;cases X);(have bb:s≠y:=λe=>by rw[<-e,az]at X;cases X);(have a0:j r=O (.lst []):=by rw[<-aG,aw ba,aw aV,az]);(have a1:j s=O (.lst []):=by rw[<-aG,aw bb,az]);(have a2:j y=O (.lst [aT r,aT s]):=by rw[<-aG,az]);(have an:g s=aR:=be.free ar;have ap:g y=aR:=bg.free X;refine#v[p,_,dx,_,I,L _ _ al,T.ak.c.cl,T.ak.kC,(by show 8<1000;decide),?_];have bD:p≠r:=bI al W;have bE:p≠s:=bI al an;have bF:p≠y:=bI al ap;generalize a4:Y j p _=N;have aO:N p=O (.ins A.ak.C dx [("turn",.int av),("sizes",.ref J),("cell_spans",.ref n),("limits",.ref v),("time",.int 0),("open_side",.int 0),("entered",.int 0),("vehicles",.ref m),("waiting",.ref y)]):=by rw[<-a4,az];rfl);(have a3:∀a u,j a=O u->a≠p->N a=O u:=λa u b f=>by rw[<-a4,aw f];exact b);(have bn:∀a,N a=aR->j a=aR:=λa b=>by by_cases e:a=p;(rw[e,aO]at b;cases b);cases am:j a with|none=>rfl|some u=>rw[a3 a u am e]at b;cases b);(refine#v[dc _,λB aI=>?_];have bh:Z N (Y N B (.lst [])):=Z.new aI;refine#v[p,_,dx,_,I,bh _ _ aO,T.ak.c.cl,T.ak.i6,(by show 9<1000;decide),?_];have bA:p≠B:=bI aO aI;have a5:=bn _ aI;have bs:g B=aR:=L.free a5;have C:∀ {a:U}{u:HO},j a=O u->a≠p->(Y (Y N B (.lst [])) p (.ins A.ak.C dx (cz "crossing" (.ref B) [("turn",.int av),("sizes",.ref J),("cell_spans",.ref n),("limits",.ref v),("time",.int 0),("open_side",.int 0),("entered",.int 0),("vehicles",.ref m),("waiting",.ref y)]))) a=O u:=λ{a u} b f=>by rw[aw f];exact bh _ _ (a3 _ _ b f));(have aX:j n=O (.lst (aK (bw.ec 0 l))):=L _ _ (S _ _ aH ad);have a8:j v=O (.lst (aK (l.map λx=>x.2))):=L _ _ (S _ _ (ag _ _ ak ac) ac);have bi:j m=O (.lst []):=L _ _ as;have z:∀ {a c:U}{u:HO},g a=O u->g c=aR->a≠c:=λaD bp=>bI aD bp;have aC:=S _ _ aH ad;have aP:=S _ _ (ag _ _ ak ac) ac;refine k _ #v[p,J,n,v,m,y,r,s,B,[]] I I I #v[#v[dx,by rw[az];rfl],C aX ad,C a8 ac,C bi bk.symm,C a2 bF.symm,C a0 bD.symm,C a1 bE.symm,by rw[aw bA.symm,az];rfl,I,I,λi _ d h _=>(by cases h),?_,.nil,λc ah=>(by cases ah),λc ah=>(by cases ah),λc ah=>(by cases ah)] #v[V,af _ ao,af _ (aq _ ap),af _ (aq _ W),af _ (aq _ an),af _ (aq _ bs)] (λa u b f=>C (L _ _ (S _ _ (ag _ _ b f) f)) f);show[n,v,m,y,r,s,B].Nodup;have cl:n≠v:=λe=>by rw[e,ak]at V;cases V);have bm:n≠m:=bI aH ao;have bv:v≠m:=bI (ag _ _ ak ac) ao;have R:∀ {a:U}{u:HO},j a=O u->a≠B:=λh=>bI h a5;simp only[fD,bL,hI,ff,pf,ph,sm];exact#v[#v[cl,bm,z aC ap,z aC W,z aC an,R aX],#v[bv,z aP ap,z aP W,z aP an,R a8],#v[z as ap,z as W,z as an,R bi],#v[ba.symm,bb.symm,R a2],#v[aV,R a0],R a1]
end
end Br
namespace L2
section
variable{X:Cx}{i:Nat}{x:M}{p a8:c7}{e:bx}{es:aa bx}{t:TA}
def Xh(X:Cx)(i:Nat)(t:TA):TE:=λb H c=>∃(f:U)(a:bV)(k:Nat)(ps:aa M)(sp:Sp),b[i]? =O (O (.ref f))/\bf X.prog X.w X.K X.mg X.base bq k f a ps sp/\ew k X.A/\mc X.K (.ref f)=ai/\Binds X.K a ps []/\t b H λvs H1=>sp vs H1 c E0
def Xi(l:X.N[i]? =O x)(C:lH X.env.scope x)(m:PA X (e::es) t)(q:(x==("__debug__":M))=ax:=by decide)(o:(x==("__classdict__":M))=ax:=by decide)(w:cu (e::es) X.env=(ax,bU e X.env)::cu es X.env:=by rfl)(z:(fF a8 (cu es X.env)).any (·.1)=ax:=by rfl):PE X (.Call (.Name x p) (e::es) [] a8) (Xh X i t):=by intro af s c H _ d h;obtain⟨f,_,k,ps,sp,B,F,A,y,n,h⟩:=h;refine kQ (S (qY l C q o af s c H (λv H1=>v=.ref f/\H1=H) d (by unfold b8 s7;rw[B];exact#v[I,I])) λu K⟨v,H1,a,J,g,j⟩=>?_);subst g j;obtain rfl:u=cP f:=J;refine Ag (h₀:=X.base) a.ok.mod.qX y (S (m a8 af K c _ _ a h) λus _⟨vs,_,b,r,E⟩=>#v[b.g7,?_]) w z;exact v_ (fS:=[]) (ds:=[]) F A n .nil g_ b r (by rw[gY];exact E)
end
end L2
namespace Br
def kH(cl:U)(b:Nat)(a:U):aa (M×V):=[("calls",.ref cl),("position",.int b),("bridge",.ref a)]
def DN(cl:U)(b:Nat)(a:U):(kH cl b a).lookup ("calls":M)=O (.ref cl):=by rfl
def rF(cl:U)(a:Nat)(b:U):(kH cl a b).lookup ("position":M)=O (.int a):=by rfl
def fC(cl:U)(b:Nat)(a:U):(kH cl b a).lookup ("bridge":M)=O (.ref a):=by rfl
structure oI(A:bF)(K:bj)(H:Hp)(ss cl b:U)(ns:aa Int)(pos:Nat):Prop where
 obj:∃dx,H ss=O (.ins A.aO.C dx (kH cl pos b))
 calls:aA K H cl (ns.map aB)
def MJ{K:bj}{H d:Hp}{a x:U}{xs:aa V}{C dx:U}{f:aa (M×V)}(h:aA K H a xs)(e:H x=O (.ins C dx f))(k:∀b o,H b=O o->b≠x->d b=O o):aA K d a xs:=by rcases h with(h|⟨o,h⟩)|h;(exact .inl (.inl (k _ _ h (bC h e (by intro c;cases c)))));(exact .inl (.inr #v[o,k _ _ h (bC h e (by intro c;cases c))]));exact .inr h
section
inductive Xj(A:bF)(K:bj)(vs:aa V)(H:Hp)(Q:VK)(E:XK):Prop|mk(a c b:U)(d:aa Int)(e:Nat)(z:Int)(_:vs=[.ref a])(_:oI A K H a c b d e)(_:d[e]? =O z)(_:∀H':Hp,oI A K H' a c b d (e+1)->(∀x o,H x=O o->x≠a->H' x=O o)->Q (.int z) H')
def eV:bf P w K mg aJ bq 1 A.aO.yW A.aO.y0 ["self"] (Xj A K):=by(refine T.aO.eK.fn.bJ Kj (λH vs _ E _ h=>?_);obtain⟨d,cl,e,ns,b,l,rfl,S,i,k⟩:=h;obtain⟨dx,a⟩:=S.obj;refine#v[_,ay (ba 1 Kj.nd (cC d9 a0 a0 (λ_ _=>rfl))) (ay (tD a7 bS tE) (bc aS)),I,a,T.aO.c.cl,T.aO.y3,DN _ _ _,I,a,T.aO.c.cl,T.aO.pZ,rF _ _ _,cl,_,_,_,I,I,S.calls,eD (j:=b) (v:=.int l) (by rw[bN,i];rfl),I,a,T.aO.c.cl,T.aO.pZ,rF _ _ _,_,_,I,I,dx,_,a,(by show 3<1000;decide),?_];have c:∀x o,H x=O o->x≠d->(Y H d (.ins A.aO.C dx (cz "position" (.int ((b:Int)+1)) (kH cl b e)))) x=O o:=λx o g f=>by rw[aw f];exact g);exact(k _ #v[#v[dx,by rw[az];rfl],MJ S.calls a c] c)
inductive Xk(A:bF)(K:bj)(vs:aa V)(H:Hp)(Q:VK)(E:XK):Prop|mk(a c b:U)(d:aa Int)(e:Nat)(_:vs=[.ref a])(_:oI A K H a c b d e)(_:Q (.bl (decide (d.length<=e))) H)
def Xl:bf P w K mg aJ bq 1 A.aO.yV A.aO.yZ ["self"] (Xk A K):=by(refine T.aO.Kl.fn.bJ Vl (λH vs d E _ h=>?_);obtain⟨_,cl,_,ns,a,rfl,S,k⟩:=h;obtain⟨dx,c⟩:=S.obj;refine#v[_,bc (jw iX a0 (dE T.dW a0) (cm _)),I,c,T.aO.c.cl,T.aO.pZ,rF _ _ _,I,c,T.aO.c.cl,T.aO.y3,DN _ _ _,_,_,I,.inl S.calls,_,_,I,I,?_];have e:decide ((((ns.map aB).length:Nat):Int)<=(a:Int))=decide (ns.length<=a):=by rw[aq,ip];simp only[fh];lia);show d (V.bl (decide ((((ns.map aB).length:Nat):Int)<=(a:Int)))) H;rw[e];exact k
inductive Xm(A:bF)(K:bj)(vs:aa V)(H:Hp)(Q:VK)(E:XK):Prop|mk(a c b:U)(d:aa Int)(e n:Nat)(_:vs=[.ref a])(_:oI A K H a c b d e)(_:d[e]? =O (n:Int))(_:e+1+n<=d.length)(_:∀(H':Hp)(D:U),oI A K H' a c b d (e+1+n)->(∀x o,H x=O o->x≠a->H' x=O o)->H D=aR->H' D=O (.lst (((d.drop (e+1)).take n).map aB))->Q (.ref D) H')
def Xn:bf P w K mg aJ bq 2 A.aO.yX A.aO.y1 ["self"] (Xm A K):=by(refine T.aO.Km.fn.bJ C5 (λH vs _ E R h=>?_);obtain⟨b,cl,c,ns,a,n,rfl,S,U,J,k⟩:=h;obtain⟨dx,L⟩:=S.obj;refine#v[_,ay (ba 1 C5.nd (cD a7 T.aO.c T.aO.eK (eV T) R)) (ay (ba 2 C5.nd a0) (ay (tD a7 aS tE) (bc (Ht Hz a0 (k5 aY) (k5 a0))))),b,dx,_,I,L,I,b,cl,c,ns,a,(n:Int),I,S,U,λH1 s t=>?_];obtain⟨j,m⟩:=s.obj;refine#v[I,m,T.aO.c.cl,T.aO.pZ,rF _ _ _,I,m,T.aO.c.cl,T.aO.pZ,rF _ _ _,_,_,I,I,j,_,m,(by show 3<1000;decide),?_];have B:cz "position" (aB (((a+1:Nat):Int)+(n:Int))) (kH cl (a+1) c)=kH cl (a+1+n) c:=by rw[show(((a+1:Nat):Int)+(n:Int))=((a+1+n:Nat):Int)by lia];rfl);(have p:∀x o,H1 x=O o->x≠b->(Y H1 b (.ins A.aO.C j (cz "position" (.int (((a+1:Nat):Int)+(n:Int))) (kH cl (a+1) c)))) x=O o:=λx o q l=>by rw[aw l];exact q);(have i:oI A K (Y H1 b (.ins A.aO.C j (cz "position" (.int (((a+1:Nat):Int)+(n:Int))) (kH cl (a+1) c)))) b cl c ns (a+1+n):=#v[#v[j,by rw[az,B]],MJ s.calls m p];obtain⟨y,f⟩:=i.obj;generalize Y H1 b _=V at p i f⊢;refine#v[I,f,T.aO.c.cl,T.aO.y3,DN _ _ _,_,I,I,f,T.aO.c.cl,T.aO.pZ,rF _ _ _,_,I,cl,_,I,i.calls,λg d=>?_];have z:mQ (ns.map aB) (O ((a+1:Nat):Int)) (O ((a+1+n:Nat):Int))=((ns.drop (a+1)).take n).map aB:=by unfold mQ;rw[HT.B6,HT.B6,aq,uP J,uP (show a+1<=ns.length by lia),PR,List.map_drop];congr 1;lia);(have r:=Z.new (o:=cT (mQ (ns.map aB) (O ((a+1:Nat):Int)) (O ((a+1+n:Nat):Int)))) d;have v:g≠b:=λe=>by rw[e,f]at d;cases d);(have C:H g=aR:=by cases N:H g with|none=>rfl|some u=>rw[p _ _ (t _ _ N v) v]at d;cases d);refine k _ g #v[#v[y,r _ _ f],r.seq i.calls] (λx o q l=>r _ _ (p _ _ (t _ _ q l) l)) C ?_;rw[az,z]
inductive Xo(A:bF)(vs:aa V)(H:Hp)(Q:VK)(E:XK):Prop|mk(p c d:U)(e:aa U)(f:aa e8)(_:vs=[.ref p,.ref d])(_:H p=O (.ins A.aC.C c []))(_:H d=O (.lst (e.map aT)))(_:e.length=f.length)(_:(∀(i:Nat)(a:U)(q:e8),e[i]? =O a->f[i]? =O q->H a=O (.tup [.int (q.bears:Int),.int (q.costs:Int),.int (q.grows:Int)])))(_:∀(H':Hp)(R:RA),R.r=p->R.pt=d->R.ps=e->RecAt A H' R {z0 with parts:=f}->H R.en=aR/\H R.po=aR->(∀b o,H b=O o->b≠p->H' b=O o)->Q .non H')
def Xp:bf P w K mg aJ bq 1 A.aC.dj A.aC.ee ["self","parts"] (Xo A):=by(refine T.aC.ft.fn.bJ U6 (λH vs _ E _ h=>?_);obtain⟨p,dx,l,ps,_,rfl,B,v,ah,ak,k⟩:=h;refine#v[_,ay (cF a7 aS I) (ay (cF a7 bS I) (ay (cF a7 (bO gk) I) (cR (cF a7 (bO gk) I)))),p,_,dx,_,I,B,T.aC.c.cl,T.aC.om,(by show 0<1000;decide),p,_,dx,_,I,az,T.aC.c.cl,T.aC.i7,(by show 1<1000;decide),?_];rw[eS];generalize V:Y H p _=H1;have C:H1 p=O (.ins A.aC.C dx [("parts",.ref l),("today",.int 0)]):=by rw[<-V,az];rfl);(have m:∀b u,H b=O u->b≠p->H1 b=O u:=λb u c f=>by rw[<-V,aw f];exact c);(have R:∀b,H1 b=aR->H b=aR:=λb c=>by by_cases e:b=p;(rw[e,C]at c;cases c);cases L:H b with|none=>rfl|some u=>rw[m b u L e]at c;cases c);(refine#v[dc _,λd t=>?_];have X:p≠d:=bI C t;have ac:Z H1 (Y H1 d (.lst [])):=Z.new t;refine#v[p,_,dx,_,I,ac _ _ C,T.aC.c.cl,T.aC.ie,(by show 2<1000;decide),?_];generalize y:Y (Y H1 d (.lst [])) p _=g;have J:g p=O (.ins A.aC.C dx [("parts",.ref l),("today",.int 0),("entries",.ref d)]):=by rw[<-y,az];rfl);(have o:∀b u,H1 b=O u->b≠p->g b=O u:=λb u c f=>by rw[<-y,aw f];exact ac _ _ c);(have W:g d=O (.lst []):=by rw[<-y,aw X.symm,az]);(have af:∀b,g b=aR->H1 b=aR:=λb c=>by by_cases e:b=p;(rw[e,J]at c;cases c);cases L:H1 b with|none=>rfl|some u=>rw[o b u L e]at c;cases c);(refine#v[dc _,λj r=>?_];have ao:p≠j:=bI J r;have ad:Z g (Y g j (.lst [])):=Z.new r;refine#v[p,_,dx,_,I,ad _ _ J,T.aC.c.cl,T.aC.t9,(by show 3<1000;decide),?_];have n:l≠p:=bC v B (by intro N;cases N);have s:∀ {b:U}{u:HO},g b=O u->b≠p->(Y (Y g j (.lst [])) p (.ins A.aC.C dx (cz "postings" (.ref j) [("parts",.ref l),("today",.int 0),("entries",.ref d)]))) b=O u:=λ{b u} c f=>by rw[aw f];exact ad _ _ c);refine k _ #v[p,l,d,j,ps,[],[]] I I I #v[#v[dx,by rw[az];rfl],s (o _ _ (m _ _ v n) n) n,s W X.symm,by rw[aw ao.symm,az];rfl,ah,I,I,λi a ap q ag=>?_,λi a x q _=>(by cases q),λi a x q _=>(by cases q),?_] #v[R _ t,R _ (af _ r)] (λb u c f=>s (o _ _ (m _ _ c f) f) f);(have S:=ak i a ap q ag;have z:a≠p:=bC S B (by intro N;cases N);exact s (o _ _ (m _ _ S z) z) z);have al:l≠d:=bI (m _ _ v n) t;have am:l≠j:=bI (o _ _ (m _ _ v n) n) r;have an:d≠j:=bI W r;show[l,d,j].Nodup;simp only[fD,bL,hI,ff,pf,ph,sm];exact#v[#v[al,am],an]
variable{A:bF}{H H':Hp}{L:LA}{s:G}{vd:aa VD}
def b9.Xq(h:b9 A H L s vd){x:U}{o:HO}(g:H x=O o)(n:∀C dx i d,o≠ .ins C dx (fK i d)):x∉L.vs:=by(intro f;obtain⟨i,b,e⟩:=fx f;have c:L.vs[i]? =O x:=by rw[b_ b,e]);obtain⟨dx,a⟩:=h.d7 i x _ c (f5 (by rw[h.dN,<-h.b7];exact b));rw[g]at a;exact n _ _ _ _ (aM a)
def b9.zq(h:b9 A H L s vd){x:U}{o:HO}(b:H x=O o)(m:∀C dx i d,o≠ .ins C dx (fK i d))(n:∀C dx g t,o≠ .ins C dx (cX g t))(a:(∀xs,o≠ .lst xs)\/(x≠L.bX/\x≠L.q0/\x≠L.q1/\x≠L.cr)):¬LF L x:=by(obtain⟨dl,k⟩:=h.obj;have c:∀ {f:U}{xs:aa V},H f=O (.lst xs)->(∀xs,o≠ .lst xs)->x≠f:=λl j e=>by rw[e,l]at b;exact j _ (aM b).symm);rintro(e|e|e|e|e|e);(rw[e,k]at b;exact n _ _ _ _ (aM b).symm);(rcases a with a|a;(exact c h.bX a e);exact a.1 e);(rcases a with a|a;(exact c h.q0 a e);exact a.2.1 e);(rcases a with a|a;(exact c h.q1 a e);exact a.2.2.1 e);(rcases a with a|a;(exact c h.cr a e);exact a.2.2.2 e);exact h.Xq b m e
def nj{C dx c d:U}{k b:M}{v f:V}{r e:aa (M×V)}(h:k≠b):HO.ins C dx ((k,v)::r)≠HO.ins c d ((b,f)::e):=λa=>by injection a with _ _ a;injection a with a _;injection a with a _;exact h a
def zr(h:b9 A H L s vd){x:U}{xs:aa V}(b:H x=O (.tup xs)):¬LF L x:=h.zq b (λ_ _ _ _ a=>nomatch a) (λ_ _ _ _ a=>nomatch a) (.inl λ_ a=>nomatch a)
def Xr(h:b9 A H L s vd){x:U}{c:aa (aa bg×V)}(b:H x=O (.dT c)):¬LF L x:=h.zq b (λ_ _ _ _ a=>nomatch a) (λ_ _ _ _ a=>nomatch a) (.inl λ_ a=>nomatch a)
def zt(h:b9 A H L s vd){x C dx:U}{k:M}{v:V}{r:aa (M×V)}(c:H x=O (.ins C dx ((k,v)::r)))(a:k≠"number")(b:k≠"turn"):¬LF L x:=h.zq c (λ_ _ _ _=>nj a) (λ_ _ _ _=>nj b) (.inl λ_ d=>nomatch d)
def zu(h:b9 A H L s vd){x:U}{xs:aa V}(b:H x=O (.lst xs))(n:x≠L.bX/\x≠L.q0/\x≠L.q1/\x≠L.cr):¬LF L x:=h.zq b (λ_ _ _ _ a=>nomatch a) (λ_ _ _ _ a=>nomatch a) (.inr n)
def LL(L:LA):aa U:=[L.sz,L.cs,L.lim,L.bX,L.wt,L.q0,L.q1,L.cr]
def oJ{L:LA}{x:U}(h:x=L.bX\/x=L.q0\/x=L.q1\/x=L.cr):x∈LL L:=by unfold LL;rcases h with h|h|h|h<;>subst h<;>simp
def DO{L:LA}{x:U}(h:x∉LL L):x≠L.bX/\x≠L.q0/\x≠L.q1/\x≠L.cr:=#v[λe=>h (oJ (.inl e)),λe=>h (oJ (.inr (.inl e))),λe=>h (oJ (.inr (.inr (.inl e)))),λe=>h (oJ (.inr (.inr (.inr e))))]
def Apart(L:LA)(R:RA):Prop:=∀x∈[R.pt,R.en,R.po],x∉LL L
def RecAt.move{R:RA}{f:cq}(r:RecAt A H R f)(h:b9 A H L s vd)(g:Apart L R)(c:∀j o,H j=O o->¬LF L j->H' j=O o):RecAt A H' R f:=by obtain⟨l,k⟩:=r.obj;refine#v[#v[l,c _ _ k (zt h k (by decide+kernel) (by decide+kernel))],c _ _ r.pt (zu h r.pt (DO (g _ (by simp)))),c _ _ r.en (zu h r.en (DO (g _ (by simp)))),c _ _ r.po (zu h r.po (DO (g _ (by simp)))),r.gp,r.e4,r.hT,λi a p d e=>?_,λi a x d e=>?_,λi a p d e=>?_,r.nd];(have b:=r.part i a p d e;exact c _ _ b (zr h b));(obtain⟨dx,b⟩:=r.ent i a x d e;exact#v[dx,c _ _ b (zt h b (by decide+kernel) (by decide+kernel))]);have b:=r.post i a p d e;exact c _ _ b (zr h b)
def fe.move{a d:U}{ag:aa (aa bg×V)}{c:BM}(B:fe A H a d ag c)(h:b9 A H L s vd)(b:∀a o,H a=O o->¬LF L a->H' a=O o):fe A H' a d ag c:=by obtain⟨dx,i⟩:=B.obj;refine#v[#v[dx,b _ _ i (zt h i (by decide+kernel) (by decide+kernel))],b _ _ B.dO (Xr h B.dO),B.keys,B.nd,B.non,λao k m e=>?_];obtain⟨v,j,t,n,l,f,g⟩:=B.val ao k m e;exact#v[v,j,t,n,l,b _ _ f (zr h f),b _ _ g (zr h g)]
def b9.kept(h:b9 A H L s vd)(k:∀a o,H a=O o->(a=L.l\/a∈LL L\/a∈L.vs)->H' a=O o):b9 A H' L s vd:=by obtain⟨dl,j⟩:=h.obj;have b:∀ {a:U}{o:HO},H a=O o->a∈LL L->H' a=O o:=λe m=>k _ _ e (.inr (.inl m));exact#v[#v[dl,k _ _ j (.inl I)],b h.cs (by simp[LL]),b h.lim (by simp[LL]),b h.bX (by simp[LL]),b h.wt (by simp[LL]),b h.q0 (by simp[LL]),b h.q1 (by simp[LL]),b h.cr (by simp[LL]),h.b7,h.dN,λi p d c f=>let #v[dx,g]:=h.d7 i p d c f;#v[dx,k _ _ g (.inr (.inr (dJ c)))],h.nd,h.hS,h.lw,h.lo,h.lp]
def fe.same{b d:U}{ag:aa (aa bg×V)}{a:BM}(B:fe A H b d ag a)(e:Z H H'):fe A H' b d ag a:=B.keep λx o c=>e x o c
end
def i9(r l a:U)(c b:Bool):aa (M×V):=[("records",.ref r),("lane",.ref l),("book",.ref a),("shut_by_hand",.bl c),("closed",.bl b)]
def fM(r l a:U)(h c:Bool):(i9 r l a h c).lookup ("records":M)=O (.ref r):=by rfl
def hy(r l a:U)(h c:Bool):(i9 r l a h c).lookup ("lane":M)=O (.ref l):=by rfl
def uv(r l a:U)(h c:Bool):(i9 r l a h c).lookup ("book":M)=O (.ref a):=by rfl
def MK(r l a:U)(h c:Bool):(i9 r l a h c).lookup ("shut_by_hand":M)=O (.bl h):=by rfl
def DP(r l a:U)(h c:Bool):(i9 r l a h c).lookup ("closed":M)=O (.bl c):=by rfl
structure BA where
 b:U
 L:LA
 R:RA
 bk:U
 d:U
structure dP(A:bF)(H:Hp)(B:BA)(s:bY)(vd:aa VD)(mG:aa (aa bg×V)):Prop where
 obj:∃dx,H B.b=O (.ins A.aF.C dx (i9 B.R.r B.L.l B.bk s.hand s.closed))
 lane:b9 A H B.L s.lane vd
 file:RecAt A H B.R s.file
 book:fe A H B.bk B.d mG (aL.mapOf s)
 apart:Apart B.L B.R
 sz:H B.L.sz=O (.lst (aK (s.lane.spans.map λx=>x.1)))
 lg:B.L.sz∉ [B.L.bX,B.L.q0,B.L.q1,B.L.cr]
def e7(A:bF)(H:Hp)(B:BA)(s:bY):Prop:=∃a ag,dP A H B s a ag
def BF(B:BA)(x:U):Prop:=x=B.b\/(x=B.L.l\/x∈LL B.L\/x∈B.L.vs)\/x=B.R.r\/x∈[B.R.pt,B.R.en,B.R.po]\/x=B.d
def Xs{B:BA}{x:U}(h:LF B.L x):BF B x:=by rcases h with h|h|h|h|h|h;(exact .inr (.inl (.inl h)));(exact .inr (.inl (.inr (.inl (oJ (.inl h))))));(exact .inr (.inl (.inr (.inl (oJ (.inr (.inl h)))))));(exact .inr (.inl (.inr (.inl (oJ (.inr (.inr (.inl h))))))));(exact .inr (.inl (.inr (.inl (oJ (.inr (.inr (.inr h))))))));exact .inr (.inl (.inr (.inr h)))
structure Go(H H':Hp)(B B':BA):Prop where
 fr:∀x o,H x=O o->¬BF B x->H' x=O o
 nw:∀x,BF B' x->BF B x\/H x=aR
def Go.trans{H H1 f:Hp}{B d e:BA}(a:Go H H1 B d)(g:Go H1 f d e):Go H f B e:=by refine#v[λx o c j=>g.fr x o (a.fr x o c j) λh=>?_,λx h=>?_];(rcases a.nw x h with b|b;(exact j b);rw[c]at b;cases b);rcases g.nw x h with b|b;(exact a.nw x b);by_cases i:BF B x;(exact .inl i);cases c:H x with|none=>exact .inr I|some o=>rw[a.fr x o c i]at b;cases b
def Go.same{H a:Hp}{B:BA}(e:Z H a):Go H a B B:=#v[λx o b _=>e x o b,λx h=>.inl h]
def Go.lst{H d:Hp}{B c:BA}(m:Go H d B c){a:U}{o:HO}(h:H a=O o)(n:¬BF B a):d a=O o/\¬BF c a:=#v[m.fr a o h n,λb=>by rcases m.nw a b with b|b;(exact n b);rw[h]at b;cases b]
def dP.fresh{A:bF}{H:Hp}{B:BA}{s:bY}{p:aa VD}{ag:aa (aa bg×V)}(a:dP A H B s p ag){b:U}(h:H b=aR):¬BF B b:=by(obtain⟨_,g⟩:=a.obj;obtain⟨_,j⟩:=a.lane.obj;obtain⟨_,k⟩:=a.file.obj;have n:∀ {x:U}{o:HO},H x=O o->b≠x:=λm e=>by rw[e,m]at h;cases h);rintro(e|(e|e|e)|e|e|e);(exact n g e);(exact n j e);((simp only[LL,bL,ff,gv]at e;rcases e with e|e|e|e|e|e|e|e);(exact n a.sz e);(exact n a.lane.cs e);(exact n a.lane.lim e);(exact n a.lane.bX e);(exact n a.lane.wt e);(exact n a.lane.q0 e);(exact n a.lane.q1 e);exact n a.lane.cr e);((obtain⟨i,d,f⟩:=fx e;have l:B.L.vs[i]? =O b:=by rw[b_ d,f]);obtain⟨dx,c⟩:=a.lane.d7 i b _ l (f5 (by rw[a.lane.dN,<-a.lane.b7];exact d));rw[h]at c;cases c);(exact n k e);((simp only[bL,ff,gv]at e;rcases e with e|e|e);(exact n a.file.pt e);(exact n a.file.en e);exact n a.file.po e);exact n a.book.dO e
def dP.same{A:bF}{H b:Hp}{B:BA}{s:bY}{c:aa VD}{ag:aa (aa bg×V)}(a:dP A H B s c ag)(e:Z H b):dP A b B s c ag:=#v[let #v[dx,h]:=a.obj;#v[dx,e _ _ h],a.lane.same e,a.file.same e,a.book.same e,a.apart,e _ _ a.sz,a.lg]
def e7.same{A:bF}{H a:Hp}{B:BA}{s:bY}(b:e7 A H B s)(e:Z H a):e7 A a B s:=let #v[c,ag,h]:=b;#v[c,ag,h.same e]
section
variable{A:bF}{H H':Hp}{B:BA}{s s':bY}{vd Qy:aa VD}{ag Qz:aa (aa bg×V)}
def dP.DQ(a:dP A H B s vd ag){b:LA}(n:b9 A H' b s'.lane Qy)(c:∀x o,H x=O o->¬LF B.L x->H' x=O o)(i:b.l=B.L.l)(f:b.sz=B.L.sz)(v:∀x∈LL b,x∈LL B.L\/H x=aR)(u:B.L.sz∉ [b.bX,b.q0,b.q1,b.cr])(t:(s'.lane.spans.map λx=>x.1)=s.lane.spans.map λx=>x.1)(m:s'.hand=s.hand)(k:s'.closed=s.closed)(l:s'.file=s.file)(p:aL.mapOf s'=aL.mapOf s):dP A H' {B with L:=b} s' Qy ag:=by obtain⟨dx,g⟩:=a.obj;have r:=a.file.move a.lane a.apart c;refine#v[#v[dx,?_],n,by rw[l];exact r,by rw[p];exact a.book.move a.lane c,λx d j=>?_,?_,by rw[f];exact u];(rw[m,k,i];exact c _ _ g (zt a.lane g (by decide+kernel) (by decide+kernel)));(rcases v x j with h|h;(exact a.apart x d h);(have:∃o,H x=O o:=by(simp only[bL,ff,gv]at d;rcases d with e|e|e);(exact#v[_,e▸a.file.pt]);(exact#v[_,e▸a.file.en]);exact#v[_,e▸a.file.po]);obtain⟨o,q⟩:=this;rw[q]at h;cases h);rw[t,f];have:=a.lg;simp only[bL,ff,gv,hI]at this;exact c _ _ a.sz (zu a.lane a.sz this)
def Go.lane{b:LA}(d:∀x o,H x=O o->¬LF B.L x->H' x=O o)(c:b.l=B.L.l)(g:∀x∈LL b,x∈LL B.L\/H x=aR)(i:∀x∈b.vs,x∈B.L.vs\/H x=aR):Go H H' B {B with L:=b}:=by(refine#v[λx o f e=>d x o f λh=>e (Xs h),λx h=>?_];rcases h with h|(h|h|h)|h|h|h);(exact .inl (.inl h));(exact .inl (.inr (.inl (.inl (h.trans c)))));(rcases g x h with a|a;(exact .inl (.inr (.inl (.inr (.inl a)))));exact .inr a);(rcases i x h with a|a;(exact .inl (.inr (.inl (.inr (.inr a)))));exact .inr a);(exact .inl (.inr (.inr (.inl h))));(exact .inl (.inr (.inr (.inr (.inl h)))));exact .inl (.inr (.inr (.inr (.inr h))))
def dP.DR(b:dP A H B s vd ag){x:U}(h:x=B.L.l\/x∈LL B.L\/x∈B.L.vs):x≠B.b/\x≠B.R.r/\x≠B.R.en/\x≠B.R.po/\x≠B.d:=by obtain⟨_,m⟩:=b.obj;obtain⟨_,f⟩:=b.lane.obj;obtain⟨_,o⟩:=b.file.obj;have l:∀ {k t:M}{v J:V}{r I:aa (M×V)}{C w dx y p u:U},H p=O (.ins C dx ((k,v)::r))->H u=O (.ins w y ((t,J)::I))->k≠t->p≠u:=λa c n=>bC a c (nj n);rcases h with h|h|h;(subst h;exact#v[l f m (by decide+kernel),l f o (by decide+kernel),bC f b.file.en (by intro d;cases d),bC f b.file.po (by intro d;cases d),bC f b.book.dO (by intro d;cases d)]);((have j:∃xs,H x=O (.lst xs):=by(simp only[LL,bL,ff,gv]at h;rcases h with e|e|e|e|e|e|e|e);(exact#v[_,e▸b.sz]);(exact#v[_,e▸b.lane.cs]);(exact#v[_,e▸b.lane.lim]);(exact#v[_,e▸b.lane.bX]);(exact#v[_,e▸b.lane.wt]);(exact#v[_,e▸b.lane.q0]);(exact#v[_,e▸b.lane.q1]);exact#v[_,e▸b.lane.cr]);obtain⟨xs,j⟩:=j;exact#v[bC j m (by intro d;cases d),bC j o (by intro d;cases d),λe=>b.apart B.R.en (by simp) (e▸h),λe=>b.apart B.R.po (by simp) (e▸h),bC j b.book.dO (by intro d;cases d)]);(obtain⟨i,q,z⟩:=fx h;have E:B.L.vs[i]? =O x:=by rw[b_ q,z]);obtain⟨dx,g⟩:=b.lane.d7 i x _ E (f5 (by rw[b.lane.dN,<-b.lane.b7];exact q));exact#v[l g m (by decide+kernel),l g o (by decide+kernel),bC g b.file.en (by intro d;cases d),bC g b.file.po (by intro d;cases d),bC g b.book.dO (by intro d;cases d)]
def dP.DS(a:dP A H B s vd ag){d:RA}(J:RecAt A H' d s'.file)(f:∀x o,H x=O o->x≠B.R.r->x≠B.R.en->x≠B.R.po->H' x=O o)(u:d.r=B.R.r)(w:d.pt=B.R.pt)(y:d.en=B.R.en)(z:d.po=B.R.po)(l:s'.lane=s.lane)(E:s'.hand=s.hand)(C:s'.closed=s.closed)(I:aL.mapOf s'=aL.mapOf s):dP A H' {B with R:=d} s' vd ag:=by(obtain⟨q,g⟩:=a.obj;obtain⟨_,i⟩:=a.file.obj;have n:∀x o,H x=O o->(x=B.L.l\/x∈LL B.L\/x∈B.L.vs)->H' x=O o:=λx o c h=>by obtain⟨_,K,L,N,_⟩:=a.DR h;exact f x o c K L N);refine#v[#v[q,?_],by rw[l];exact a.lane.kept n,J,?_,λx c=>?_,by rw[l];exact n _ _ a.sz (.inr (.inl (by simp[LL]))),a.lg];(rw[E,C,u];exact f _ _ g (bC g i (nj (by decide+kernel))) (bC g a.file.en (by intro b;cases b)) (bC g a.file.po (by intro b;cases b)));(rw[I];obtain⟨r,j⟩:=a.book.obj;have p:∀ {x:U}{xs:aa V},H x=O (.tup xs)->H' x=O (.tup xs):=λc=>f _ _ c (bC c i (by intro b;cases b)) (bC c a.file.en (by intro b;cases b)) (bC c a.file.po (by intro b;cases b));refine#v[#v[r,f _ _ j (bC j i (nj (by decide+kernel))) (bC j a.file.en (by intro b;cases b)) (bC j a.file.po (by intro b;cases b))],f _ _ a.book.dO (bC a.book.dO i (by intro b;cases b)) (bC a.book.dO a.file.en (by intro b;cases b)) (bC a.book.dO a.file.po (by intro b;cases b)),a.book.keys,a.book.nd,a.book.non,λao k m e=>?_];obtain⟨v,P,t,W,Q,S,T⟩:=a.book.val ao k m e;exact#v[v,P,t,W,Q,p S,p T]);have:x∈[B.R.pt,B.R.en,B.R.po]:=(by rw[<-w,<-y,<-z];exact c);exact a.apart x this
def Go.file{a:RA}(i:∀x o,H x=O o->x≠B.R.r->x≠B.R.en->x≠B.R.po->H' x=O o)(c:a.r=B.R.r)(d:a.pt=B.R.pt)(f:a.en=B.R.en)(g:a.po=B.R.po):Go H H' B {B with R:=a}:=by(refine#v[λx o j b=>i x o j (λe=>b (.inr (.inr (.inl e)))) (λe=>b (.inr (.inr (.inr (.inl (by simp[e])))))) (λe=>b (.inr (.inr (.inr (.inl (by simp[e])))))),λx h=>.inl ?_];rcases h with h|h|h|h|h);(exact .inl h);(exact .inr (.inl h));(exact .inr (.inr (.inl (h.trans c))));(refine .inr (.inr (.inr (.inl ?_)));have h':x∈[a.pt,a.en,a.po]:=h;rw[d,f,g]at h';exact h');exact .inr (.inr (.inr (.inr h)))
def dP.Xt(c:dP A H B s vd ag)(y:fe A H' B.bk B.d Qz (aL.mapOf s'))(j:∀x o,H x=O o->x≠B.d->H' x=O o)(m:s'.lane=s.lane)(E:s'.hand=s.hand)(z:s'.closed=s.closed)(C:s'.file=s.file):dP A H' B s' vd Qz:=by
 obtain⟨u,d⟩:=c.obj;have q:∀x o,H x=O o->(x=B.L.l\/x∈LL B.L\/x∈B.L.vs)->H' x=O o:=λx o f h=>j x o f (c.DR h).2.2.2.2;have t:∀ {x:U}{o:HO},H x=O o->(∀l,o≠ .dT l)->x≠B.d:=λf n e=>by rw[e,c.book.dO]at f;exact n _ (aM f).symm
 obtain⟨v,w⟩:=c.file.obj;refine#v[#v[u,?_],by rw[m];exact c.lane.kept q,?_,y,c.apart,by rw[m];exact q _ _ c.sz (.inr (.inl (by simp[LL]))),c.lg]
 ·rw[E,z];exact j _ _ d (t d (λ_ b=>nomatch b))
 ·rw[C];have r:=c.file;have k:∀ {x:U}{o:HO},H x=O o->(∀l,o≠ .dT l)->H' x=O o:=λf n=>j _ _ f (t f n);exact#v[#v[v,k w (λ_ b=>nomatch b)],k r.pt (λ_ b=>nomatch b),k r.en (λ_ b=>nomatch b),k r.po (λ_ b=>nomatch b),r.gp,r.e4,r.hT,λi a p d g=>k (r.part i a p d g) (λ_ b=>nomatch b),λi a x d g=>let #v[dx,I]:=r.ent i a x d g;#v[dx,k I (λ_ b=>nomatch b)],λi a p d g=>k (r.post i a p d g) (λ_ b=>nomatch b),r.nd]
def Go.book(a:∀x o,H x=O o->x≠B.d->H' x=O o):Go H H' B B:=#v[λx o c b=>a x o c λe=>b (.inr (.inr (.inr (.inr e)))),λx h=>.inl h]
def dP.ui(c:dP A H B s vd ag){dx:U}(h':H' B.b=O (.ins A.aF.C dx (i9 B.R.r B.L.l B.bk s'.hand s'.closed)))(g:∀x o,H x=O o->x≠B.b->H' x=O o)(K:s'.lane.spans=s.lane.spans)(L:b9 A H B.L s'.lane vd)(J:s'.file=s.file)(N:aL.mapOf s'=aL.mapOf s):dP A H' B s' vd ag:=by
 obtain⟨_,l⟩:=c.obj;obtain⟨z,q⟩:=c.file.obj;obtain⟨E,u⟩:=c.book.obj;have w:∀x o,H x=O o->(x=B.L.l\/x∈LL B.L\/x∈B.L.vs)->H' x=O o:=λx o j h=>g x o j (c.DR h).1;have k:∀ {x:U}{o:HO},H x=O o->(∀C dx I,o≠ .ins C dx I)->H' x=O o:=λj n=>g _ _ j λe=>by rw[e,l]at j;exact n _ _ _ (aM j).symm
 have r:=c.file;refine#v[#v[dx,h'],L.kept w,?_,?_,c.apart,by rw[K];exact w _ _ c.sz (.inr (.inl (by simp[LL]))),c.lg]
 ·rw[J];exact#v[#v[z,g _ _ q (bC q l (nj (by decide+kernel)))],k r.pt (λ_ _ _ b=>nomatch b),k r.en (λ_ _ _ b=>nomatch b),k r.po (λ_ _ _ b=>nomatch b),r.gp,r.e4,r.hT,λi a p d f=>k (r.part i a p d f) (λ_ _ _ b=>nomatch b),λi a x d f=>let #v[dx,y]:=r.ent i a x d f;#v[dx,g _ _ y (bC y l (nj (by decide+kernel)))],λi a p d f=>k (r.post i a p d f) (λ_ _ _ b=>nomatch b),r.nd]
 ·rw[N];refine#v[#v[E,g _ _ u (bC u l (nj (by decide+kernel)))],k c.book.dO (λ_ _ _ b=>nomatch b),c.book.keys,c.book.nd,c.book.non,λao P m e=>?_];obtain⟨v,d,t,S,f,Q,R⟩:=c.book.val ao P m e;exact#v[v,d,t,S,f,k Q (λ_ _ _ b=>nomatch b),k R (λ_ _ _ b=>nomatch b)]
def Go.obj(a:∀x o,H x=O o->x≠B.b->H' x=O o):Go H H' B B:=#v[λx o c b=>a x o c λe=>b (.inl e),λx h=>.inl h]
def dP.list(c:dP A H B s vd ag){d:U}{xs l:aa V}(J:H d=O (.lst xs))(n:¬BF B d):dP A (Y H d (.lst l)) B s vd ag:=by
 obtain⟨w,C⟩:=c.obj;obtain⟨y,E⟩:=c.file.obj;obtain⟨z,I⟩:=c.book.obj;have k:∀ {x:U}{o:HO},H x=O o->(∀xs,o≠ .lst xs)->(Y H d (.lst l)) x=O o:=λ{x o} f h=>by rw[aw (show x≠d fromλe=>by rw[e,J]at f;exact h _ (aM f).symm)];exact f
 have u:∀x o,H x=O o->(x=B.L.l\/x∈LL B.L\/x∈B.L.vs)->(Y H d (.lst l)) x=O o:=λx o f h=>by rw[aw (show x≠d fromλe=>n (by rw[<-e];exact .inr (.inl h)))];exact f
 have q:∀ {x:U}{o:HO},H x=O o->x∈[B.R.pt,B.R.en,B.R.po]->(Y H d (.lst l)) x=O o:=λ{x o} f h=>by rw[aw (show x≠d fromλe=>n (by rw[<-e];exact .inr (.inr (.inr (.inl h)))))];exact f
 have r:=c.file;refine#v[#v[w,k C (λ_ b=>nomatch b)],c.lane.kept u,#v[#v[y,k E (λ_ b=>nomatch b)],q r.pt (by simp),q r.en (by simp),q r.po (by simp),r.gp,r.e4,r.hT,λi a p g j=>k (r.part i a p g j) (λ_ b=>nomatch b),λi a x g j=>let #v[dx,L]:=r.ent i a x g j;#v[dx,k L (λ_ b=>nomatch b)],λi a p g j=>k (r.post i a p g j) (λ_ b=>nomatch b),r.nd],#v[#v[z,k I (λ_ b=>nomatch b)],k c.book.dO (λ_ b=>nomatch b),c.book.keys,c.book.nd,c.book.non,λao K m e=>?_],c.apart,u _ _ c.sz (.inr (.inl (by simp[LL]))),c.lg];obtain⟨v,g,t,Q,j,N,P⟩:=c.book.val ao K m e;exact#v[v,g,t,Q,j,k N (λ_ b=>nomatch b),k P (λ_ b=>nomatch b)]
def e7.list(b:e7 A H B s){a:U}{xs d:aa V}(c:H a=O (.lst xs))(n:¬BF B a):e7 A (Y H a (.lst d)) B s:=let #v[vd,ag,h]:=b;#v[vd,ag,h.list c n]
def Go.gG{a H1:Hp}{b c:BA}(g:Go a H1 b c){d:U}{u:HO}(h:a d=aR):Go a (Y H1 d u) b c:=#v[λx o e f=>by rw[aw (bI e h)];exact g.fr x o e f,g.nw]
def dP.short(g:dP A H B s vd ag)(o:aL.iF s):ag.length<=1200012:=by
 have P:=o.lane.gh;have Q:=o.day;have l:∀b∈ag,∃ao k,b.1=key ao k/\ao<=100000/\k<12:=λb f=>by
  obtain⟨ao,k,e⟩:=g.book.keys b f;cases r:aL.mapOf s ao k with
  |none=>
   have:=g.book.non ao k r;have z:dn ag (key ao k)≠aR:=by intro I;have i:=lN (key ao k) ag;rw[I]at i;have C:ag.any (λb=>decide (b.1=key ao k))=ai:=l4.mpr #v[b,f,by simp[e]];rw[C]at i;cases i
   exact absurd this z
  |some m=>obtain⟨_,_⟩:=aL.vN o r;exact#v[ao,k,e,by lia,by lia]
 let enc:aa bg->Nat:=λk=>match k with
  | [bz a,bz c]=>a.toNat*12+c.toNat
  |_=>0
 have h:∀ao k,enc (key ao k)=ao*12+k:=λao k=>by simp[enc,key]
 have q:=aL.pG 1200012 (ag.map λb=>enc b.1) ?_ ?_
 ·rw[aq]at q;exact q
 ·have t:=g.book.nd;rw[List.nodup_iff_pairwise_ne,ik]at t⊢;refine r4 (λ{x N} j K J E=>?_) t;obtain⟨n,u,d,v,w⟩:=l x j;obtain⟨y,L,p,_,_⟩:=l N K;rw[d,p,h,h]at E;apply J;rw[d,p,show n=y by lia,show u=L by lia]
 ·intro x j;obtain⟨b,f,rfl⟩:=bM.mp j;obtain⟨n,u,d,v,w⟩:=l b f;show enc b.1<1200012;rw[d,h];lia
end
section
inductive Xu(A:bF)(vs:aa V)(H:Hp)(Q:VK)(E:XK):Prop|mk(R:RA)(s:cq)(a:Nat)(_:vs=[.ref R.r,.int a])(_:bo.Ok s)(_:RecAt A H R s)(_:∀(z:Int)(H':Hp),(z=match AZ s a with|none=> -1|some n=>(n:Int))->Z H H'->Q (.int z) H')
def Xv:bf P w K mg aJ bq 7 A.aC.xY A.aC.yj ["self","much"] (Xu A):=by refine T.aC.JO.fn.bJ pY (λH vs _ E z h=>?_);obtain⟨R,s,f,rfl,o,u,k⟩:=h;obtain⟨q,l⟩:=u.obj;have am:=o.day;refine#v[_,ay (ba 2 pY.nd (cD a7 T.aC.c T.aC.oo ((qd T).to 6) z)) (ay (ba 3 pY.nd bS) (ay (ba 4 pY.nd (cS jv (bG T.Vx) bS)) (ay (cN (cO iX (pm a7 T.aC.c T.aC.yw (DL T) z (cv aY (cS kq a0 (pv 4)))) aS (cm _)) (bc (bG T.LM)) c9) (ay (vW hK (cO v5 (pv 3) (pv 4) (cm _)) (ay (ba 5 pY.nd (cS B0 (cS kq (pv 3) (pv 4)) bS)) (cR (cN (cO v5 (pm a7 T.aC.c T.aC.yw (DL T) z (cv aY (cS kq a0 (pv 5)))) aS (cm _)) (cR (ba 4 pY.nd (pv 5))) (cR (ba 3 pY.nd (cS kq (pv 5) bS))))))) (bc (pv 3)))))),R.r,q,_,I,l,I,R,s,I,o,u,λH1 d g _ J=>?_];have B:=u.same g;refine#v[_,_,I,I,R.r,q,_,I,g _ _ l,I,I,g _ _ l,T.aC.c.cl,T.aC.i7,kF,_,_,I,I,R,s,s.entries.length,s.today+131071,d,?_,o,bp _,B,J,λY U=>?_];(show[aT R.r,aT d,aB ((s.today:Int)+((131072:Int)-1))]=_;rw[show(s.today:Int)+((131072:Int)-1)=((s.today+131071:Nat):Int)by lia]);refine#v[_,_,I,I,_,I,cg (λv=>?_) (λv=>?_)];(have y:¬ej s (s.today+131071) s.entries.length<f:=(by have:(f:Int)<=((ej s (s.today+131071) s.entries.length:Nat):Int):=(by simpa using v);lia);have e:=(bo.QQ o).mpr y;exact k _ Y (by rw[e]) (g.trans U));have y:ej s (s.today+131071) s.entries.length<f:=(by have:¬(f:Int)<=((ej s (s.today+131071) s.entries.length:Nat):Int):=(by simpa using v);lia);refine#v[λm X j=>∃(a b:Nat)(p:ab V),X=[O (.ref R.r),O (.int f),O (.ref d),O (.int a),O (.int b),p]/\Z H1 j/\m=b-a/\a<=b/\b<=131071/\ej s (s.today+b) s.entries.length<f/\∀x,x<a->¬ej s (s.today+x) s.entries.length<f,#v[131071,0,131071,aj,I,U,I,by lia,by lia,y,λx ak=>by lia],?_];rintro m X j ⟨a,b,p,rfl,i,rfl,_,ag,N,L⟩;refine#v[_,_,I,I,_,I,cg (λr=>?_) (λr=>?_)];((have af:a<b:=(by have:(a:Int)<(b:Int):=(by simpa using r);lia);refine#v[λal j=>∃S,S<b-a/\∃(a b:Nat)(p:ab V),al=[O (.ref R.r),O (.int f),O (.ref d),O (.int a),O (.int b),p]/\Z H1 j/\S=b-a/\a<=b/\b<=131071/\ej s (s.today+b) s.entries.length<f/\∀x,x<a->¬ej s (s.today+x) s.entries.length<f,λ_ _ h=>h,_,_,I,I,_,_,I,I,#v[by decide,by decide],?_];have ad:((a:Int)+(b:Int))/2=(((a+b)/2:Nat):Int):=by lia);(dsimp only;rw[ad];generalize ao:(a+b)/2=c;have ah:a<=c:=by lia);have an:c<b:= ∅;refine#v[R.r,q,_,I,i _ _ (g _ _ l),I,I,i _ _ (g _ _ l),T.aC.c.cl,T.aC.i7,kF,_,_,I,I,R,s,s.entries.length,s.today+c,d,?_,o,bp _,B.same i,i _ _ J,λ_ W=>?_];(show[aT R.r,aT d,aB ((s.today:Int)+(c:Int))]=_;rw[show(s.today:Int)+(c:Int)=((s.today+c:Nat):Int)by lia]);refine#v[_,_,I,I,_,I,cg (λt=>?_) (λt=>?_)];(have C:ej s (s.today+c) s.entries.length<f:=(by have:((ej s (s.today+c) s.entries.length:Nat):Int)<(f:Int):=(by simpa using t);lia);exact#v[c-a,by lia,a,c,_,I,i.trans W,I,ah,by lia,C,L]);have C:¬ej s (s.today+c) s.entries.length<f:=(by have:¬((ej s (s.today+c) s.entries.length:Nat):Int)<(f:Int):=(by simpa using t);lia);refine#v[_,_,I,I,b-(c+1),by lia,c+1,b,O (.int (c:Int)),?_,i.trans W,I,by lia,ag,N,λx ak _=>?_];(rw[show((c+1:Nat):Int)=(c:Int)+1 by lia];rfl);have:=bo.vw o (d:=s.today+x) (d':=s.today+c) ∅ ∅;lia);have af:¬a<b:=(by have:¬(a:Int)<(b:Int):=(by simpa using r);lia);have e:a=b:= ∅;subst e;have ac:=(bo.QO o (w:=f) (n:=a)).mpr #v[by lia,N,L];exact(k _ j (by rw[ac]) (g.trans i))
def lh(l:aa dz)(k m:Nat)(a:Nat×Nat):Nat:=match aN.bK l a.1 with
 |.found p d _=>if p=k then max m d else m
 |_=>m
def DT{c d b:Type}(f:c->ab d)(g:b->d->b):∀(l:aa c)(m:b),(l.filterMap f).foldl g m=l.foldl (λm x=>(f x).elim m (g m)) m
 | [],m=>rfl
 |a::l,m=>by
  rw[jg,gI];cases h:f a with
  |none=>exact DT f g l m
  |some e=>exact DT f g l (g m e)
def Xw(s:cq)(k:Nat):(aN.cf s.entries).foldl (lh s.entries k) 0=lx s k:=by(unfold aN.cf lx;rw[DT];have key:∀(a:aa (dz×Nat)),(∀x∈a,s.entries[x.2]? =O x.1)->∀m:Nat,a.foldl (λm x=>(aN.cnt s.entries x).elim m (lh s.entries k m)) m=a.foldl (λ(m:Nat)(x:dz×Nat)=>match x.1 with|.found p d _=>if p=k/\mr s.entries x.2=ax then max m d else m|_=>m) m:=by intro a;induction a with|nil=>intro _ _;rfl|cons x a l=>(intro h m;rw[gI,gI,l λn j=>h n (cw _ j)];congr 1;have c:=h x (cc ..);obtain⟨e,i⟩:=x;have f:aN.bK s.entries i=e:=by simp[aN.bK,dt,show s.entries[i]? =O e from c]);unfold aN.cnt;simp only;by_cases b:mr s.entries i=ai;(·rw[aI b];cases e<;>simp[b]);·(rw[aD b];have g:mr s.entries i=ax:=by simpa using b);cases e<;>simp[lh,f,g]);exact key _ (λx c=>aN.vJ c) 0
def f9(l:aa dz)(np i:Nat):aa Nat:=(bQ np).map λk=>((aN.cf l).take i).foldl (lh l k) 0
def rG(l:aa dz)(np i:Nat):(f9 l np i).length=np:=by unfold f9;rw[aq,et]
def zv{l:aa dz}{np i k:Nat}(h:k<np):(f9 l np i)[k]? =O (((aN.cf l).take i).foldl (lh l k) 0):=by unfold f9;rw[bN,h9 h];rfl
def Xx{l:aa dz}{np i p d c:Nat}{b:Nat×Nat}(g:(aN.cf l)[i]? =O b)(f:aN.bK l b.1=.found p d c):(f9 l np i).set p (max ((f9 l np i).getD p 0) d)=f9 l np (i+1):=by apply pj;intro k;by_cases a:k<np;(rw[zv a,ic g,qq,Fc];show _=O (lh l k _ b);by_cases e:p=k;((subst e;rw[aI I,aI (by rw[rG];exact a)];have:(f9 l np i).getD p 0=((aN.cf l).take i).foldl (lh l p) 0:=by rw[dt,zv a];rfl);rw[this];simp[lh,f]);rw[aD e,zv a];simp[lh,f,e]);rw[gK (by rw[o6,rG];lia),gK (by rw[rG];lia)]
def Xy{l:aa dz}{np i:Nat}{a:Nat×Nat}(e:(aN.cf l)[i]? =O a)(b:∀p d c,aN.bK l a.1≠ .found p d c):f9 l np i=f9 l np (i+1):=by unfold f9;refine l7 λk _=>?_;rw[ic e,qq];show _=lh l k _ a;unfold lh;split;(rename_i p d c h;exact absurd h (b p d c));rfl
inductive Xz(A:bF)(vs:aa V)(H:Hp)(Q:VK)(E:XK):Prop|mk(R:RA)(s:cq)(_:vs=[.ref R.r])(_:bo.Ok s)(_:RecAt A H R s)(_:∀(H':Hp)(D:U),Z H H'->H D=aR->H' D=O (.lst (aK ((bQ s.parts.length).map (lx s))))->Q (.ref D) H')
def XA:bf P w K mg aJ bq 3 A.aC.xZ A.aC.yk ["self"] (Xz A):=by(refine T.aC.JP.fn.bJ xH (λH vs _ E bn h=>?_);obtain⟨R,s,rfl,o,g,k⟩:=h;obtain⟨a1,al⟩:=g.obj;have bA:=bZ;have bw:=o.kT;refine#v[_,ay (ba 1 xH.nd (cS Ce (bO (aQ bS)) (dE T.dW a0))) (ay (iV hK I (CD (UP (cD a7 T.aC.c T.aC.oo (qd T) bn))) (dD (i:=2) xH.nd I (cB I)) (ay (ba 3 xH.nd (cC d9 a0 aY (λ_ _=>rfl))) (cR (cN (cO fl (aX (pv 3)) (bG T.Dm) (cm _)) (cR (GS (iY (B2 I) (by rfl) T.zd (by rfl) (cv (cC d9 aS (aX (pv 3)) (λ_ _=>rfl)) (aX (pv 3)))) (GR aS (aX (pv 3)) NX))) c9)))) (bc aS)),(bB 1),λar bm=>?_];have ad:=Z.new (o:=cT [aB 0]) bm;refine#v[I,ad _ _ al,T.aC.c.cl,T.aC.om,qc,_,_,I,.inl (aA.of (ad _ _ g.pt)),ar,_,_,I,I,az,(by show-(2^63)<=(((R.ps.map aT).length:Nat):Int);lia),(by rw[aq,g.gp];show((s.parts.length:Nat):Int)<2^63;lia),(by rw[jj,aq,g.gp];show 1*s.parts.length<=_;lia),λb aF=>?_];rw[jj,aq,g.gp,MG];have W:H b=aR:=ad.free aF;have ah:fy s.parts.length (aB 0)=aK (f9 s.entries s.parts.length 0):=by apply pj;intro ap;unfold aK;by_cases aH:ap<s.parts.length;(rw[bN,zv aH,EN,aI aH];rfl);rw[gK (by rw[qp];lia),gK (by rw[aq,rG];lia)]);(rw[ah];have C:Z H (Y (Y H ar (.lst [aB 0])) b (.lst (aK (f9 s.entries s.parts.length 0)))):=ad.trans (Z.new aF);generalize bd:Y (Y H ar (.lst [aB 0])) b (.lst (aK (f9 s.entries s.parts.length 0)))=H1 at C⊢;have bb:H1 b=O (.lst (aK (f9 s.entries s.parts.length 0))):=by rw[<-bd,az]);(refine#v[R.r,a1,_,I,C _ _ al,I,R,s,I,o,g.same C,λN d aV bi q=>?_];rw[ij]at q;refine#v[d,_,I,q,True.intro,λB=>?_];have ac:=C.trans aV;have R2:=g.same ac;have am:=ac _ _ al;have aE:=ac _ _ g.en;have S:=aV _ _ bb;have aD:d≠b:=bC q S (by intro a;cases a);generalize y:s.entries=l at q⊢;have as:∀(m:U)(u:HO)(J:aa V),N m=O u->m≠b->m≠d->(Y (Y N d (.frz B (.dK (dX (aN.cf l))))) b (.lst J)) m=O u:=λm u J n a6 a8=>by rw[aw a6,aw a8];exact n);(have bt:R.r≠b:=bC am S (by intro a;cases a);have bu:R.r≠d:=bC am q (by intro a;cases a);have a4:R.en≠b:=λe=>by rw[<-e,g.en]at W;cases W);have a5:R.en≠d:=bC aE q (by intro a;cases a);refine#v[d,B,I,.inl #v[_,az,Ms (d:=d) (o:=B) (ag:=dX (aN.cf l)) (λi af L=>L=Y (Y N d (.frz B (.dK (dX (aN.cf l))))) b (.lst (aK (f9 l s.parts.length i)))/\∃(av aC:ab V),af=[O (.ref R.r),O (.ref b),av,aC]) #v[?_,aj,aj,I] (λi af L _ h=>by rw[h.1,aw aD,az]) ?_ ?_]];(funext m;by_cases e:m=b;(rw[e,az,aw aD.symm,<-y];exact S);rw[aw e]);(·(rintro i br bv af L t ⟨rfl,av,aC,rfl⟩;obtain⟨a,ao,ah⟩:∃a,(aN.cf l)[i]? =O a/\(br,bv)=((bz (a.1:Int):bg),aB (a.2:Int)):=by unfold dX at t;rw[bN]at t;cases e:(aN.cf l)[i]?with|none=>rw[e]at t;cases t|some a=>rw[e]at t;exact#v[a,I,(aM t).symm]);(obtain⟨rfl,rfl⟩:=AY ah;have bp:=dJ ao;obtain⟨aP,_,bo⟩:=aN.qV bp;have aG:=getD_at (l:=R.es) (i:=a.1) (by rw[g.e4,y];exact aP);have r:s.entries[a.1]? =O (aN.bK l a.1):=by rw[y];simp[aN.bK,dt,b_ aP]);obtain⟨aW,X⟩:=R2.ent _ _ _ aG r;have z:∀J,(Y (Y N d (.frz B (.dK (dX (aN.cf l))))) b (.lst J)) (R.es.getD a.1 0)=O (.ins A.Entry.C aW (j1 (dg s.entries (aN.bK l a.1)))):=λJ=>as _ _ _ X (bC X S (by intro a;cases a)) (bC X q (by intro a;cases a));generalize aO:aN.bK l a.1=x at r X z;refine#v[I,as _ _ _ am bt bu,T.aC.c.cl,T.aC.ie,iI,R.en,_,_,_,I,I,aA.of (as _ _ _ aE a4 a5),eD (j:=a.1) (v:=.ref (R.es.getD a.1 0)) (by rw[bN,aG];rfl),I,z _,T.Entry.c.cl,T.Entry.t5,zi,I,_,I,?_];have bk:s.entries[a.1]? =O x:=r;have bs:=o.made _ _ bk;rcases bo with⟨p,f,c,an⟩|⟨p,f,an⟩;(·(have ak:x=.found p f c:=(by rw[y]at r;exact aM (r.symm.trans an));subst ak;have aL:p<s.parts.length:=bs.1;refine de ?_;have be:(aK (f9 l s.parts.length i))[p]? =O (.int (((f9 l s.parts.length i).getD p 0:Nat):Int)):=oG (by rw[rG];exact aL);refine#v[I,z _,T.Entry.c.cl,T.Entry.ro,(by rfl:(j1 (dg s.entries (.found p f c))).lookup ("part":M)=O (.int (p:Int))),b,_,_,_,I,I,aA.of az,eD (j:=p) be,I,z _,T.Entry.c.cl,T.Entry.pW,(by rfl:(j1 (dg s.entries (.found p f c))).lookup ("day":M)=O (.int (f:Int))),_,_,I,I,z _,T.Entry.c.cl,T.Entry.ro,(by rfl:(j1 (dg s.entries (.found p f c))).lookup ("part":M)=O (.int (p:Int))),b,_,_,_,I,I,az,IB (j:=p) (by unfold aK;rw[aq,rG];exact aL),?_,_,_,I];rw[eS,<-Xx ao aO];have a3:(if(f:Int)>(((f9 l s.parts.length i).getD p 0:Nat):Int)then(f:Int)else(((f9 l s.parts.length i).getD p 0:Nat):Int))=((max ((f9 l s.parts.length i).getD p 0) f:Nat):Int):=by split<;>lia);rw[a3];unfold aK;rw[List.map_set]);have ak:x=.mended p f:=(by rw[y]at r;exact aM (r.symm.trans an));subst ak;refine eJ ?_;refine#v[?_,_,_,I];rw[<-Xy ao (λp d c h=>by rw[aO]at h;cases h)]);(rintro af L ⟨rfl,av,aC,rfl⟩;refine(?_);have a2:(dX (aN.cf l)).length=(aN.cf l).length:=by unfold dX;rw[aq]);refine k _ b ?_ W ?_;((intro m u n;have bh:m≠d:=λe=>by rw[e]at n;rw[C.free bi]at n;cases n);rw[aw (bI n W),aw bh];exact ac _ _ n);rw[az];unfold f9;rw[a2,ij];subst y;congr 3;exact l7 λap _=>Xw s ap
def uw(s:cq)(a:Nat):aa Nat:=(bQ s.parts.length).filter λk=>decide (lx s k+a<s.today)
inductive XB(A:bF)(vs:aa V)(H:Hp)(Q:VK)(E:XK):Prop|mk(R:RA)(s:cq)(a:Nat)(_:vs=[.ref R.r,.int a])(_:bo.Ok s)(_:RecAt A H R s)(_:∀(H':Hp)(D:U),Z H H'->H D=aR->H' D=O (.lst (aK (uw s a)))->Q (.ref D) H')
def XC:bf P w K mg aJ bq 4 A.aC.x3 A.aC.yl ["self","days"] (XB A):=by(refine T.aC.JQ.fn.bJ xI (λH vs _ E ac h=>?_);obtain⟨R,s,a,rfl,o,t,k⟩:=h;obtain⟨S,B⟩:=t.obj;have ak:=bZ;have ah:=o.kT;refine#v[_,bc (hP (dS:=[("part",2),("day",3)]) (g:=q5 K 2 (k1 (eh 2) (k1 (eh 3) qZ))) (tt:=mP (gR (iW λi j=>.bl (decide (i>j))) (gR (iW λi j=>.int (i-j)) (fm K (b8 0) "today") (b8 3)) (b8 1))) (te:=b8 2) I xI.nd (tU I T.ue (aQ (cD a7 T.aC.c T.aC.JP (XA T) ac))) (gn (by kernel_rfl)) (λ_ _ _ _ _=>mN I (gQ (dD (i:=2) xI.nd I (cB I)) (gQ (dD (i:=3) xI.nd I (cB I)) mM))) (λ_ _ _ _ _=>tO (cO gD (cS jv a0 (pv 3)) aS (cm _))) (λ_ _ _ _ _=>pv 2)),R.r,S,_,I,B,I,R,s,I,o,t,λH1 q m _ c=>?_];have z:(aK ((bQ s.parts.length).map (lx s))).length=s.parts.length:=by unfold aK;rw[aq,aq,et]);refine#v[q,_,I,aA.of c,λL r=>wJ (J:=lO K q) (n:=s.parts.length) ((bQ s.parts.length).map λ(k:Nat)=>aB (k:Int)) ((bQ s.parts.length).map λk=>decide (lx s k+a<s.today)) r (by rw[aq,et]) (by rw[aq,et]) ∅ (λi e d s'=>#v[_,_,aA.of (s' _ _ c),b_ (by rw[z];exact d)]) (λe s'=>#v[_,aA.of (s' _ _ c),by rw[z];exact bp _]) (λi x _ _ _ _ _ _ d C u s' ad ag af=>?_) λe s' h'=>?_];(obtain⟨N,v,rfl,Y,rfl,X⟩:=ad;have l:=X _ (aA.of (s' _ _ c));unfold aK at l;rw[ck,bN,h9 d]at l;have V:=aM l;subst V;rw[bN,h9 d]at C u;have W:=aM C;have U:=aM u;subst W U;have p:=Z.new (o:=HO.tup [.int (i:Nat),(λ(n:Nat)=>aB (n:Int)) (lx s i)]) Y;refine#v[N,_,I,dH.of az,I,_,_,I,_,_,I,I,I,I,p _ _ (s' _ _ (m _ _ B)),T.aC.c.cl,T.aC.i7,kF,_,_,I,I,_,_,I,I,_,I,cg (λf=>?_) (λf=>?_)];((refine(ag (eP ?_) _ p);have:(a:Int)<(s.today:Int)-(lx s i:Int):=by simpa using f);lia);(refine af (ek ?_) _ p;have:¬(a:Int)<(s.today:Int)-(lx s i:Int):=by simpa using f);lia);rw[p8 (λ(k:Nat)=>aB (k:Int)) (λk=>decide (lx s k+a<s.today))]at h';exact k e L (m.trans s') (m.free r) h'
inductive XD(A:bF)(vs:aa V)(H:Hp)(Q:VK)(E:XK):Prop|mk(R:RA)(s:cq)(a:Nat)(p:l8)(_:vs=[.ref R.r,.int a])(_:s.posts.length<=60)(_:A0 s a=O p)(_:RecAt A H R s)(_:∀H':Hp,Z H H'->Q (.int (p.limit:Int)) H')
def XE:bf P w K mg aJ bq 1 A.aC.x4 A.aC.ym ["self","day"] (XD A):=by refine T.aC.JR.fn.bJ xJ (λH vs _ E _ h=>?_);obtain⟨R,s,ao,p,rfl,_,m,a,k⟩:=h;obtain⟨_,C⟩:=a.obj;have ac:=bZ;have q:=a.hT;refine#v[_,bc (cC d9 (hP (dS:=[("posted_day",2),("limit",3)]) (g:=q5 K 2 (k1 (eh 2) (k1 (eh 3) qZ))) (tt:=mP (gR (iW λi j=>.bl (decide (i<=j))) (b8 2) (b8 1))) (te:=b8 3) I xJ.nd (fU a0) (gn (by kernel_rfl)) (λ_ _ _ _ _=>mN I (gQ (dD (i:=2) xJ.nd I (cB I)) (gQ (dD (i:=3) xJ.nd I (cB I)) mM))) (λ_ _ _ _ _=>tO (cO g8 aY aS (cm _))) (λ_ _ _ _ _=>pv 3)) (GY G1 bS) (λ_ _=>rfl)),I,C,T.aC.c.cl,T.aC.t9,zk,R.po,I,#v[_,aA.of a.po],λu B=>wJ (J:=f3 K R.po) (n:=s.posts.length) (s.posts.map λp=>aB (p.limit:Int)) (s.posts.map λp=>decide (p.day<=ao)) B (by rw[aq]) (by rw[aq]) ∅ (λi c l s'=>#v[_,_,aA.of (s' _ _ a.po),b_ (by rw[aq,q];exact l)]) (λc s'=>#v[_,aA.of (s' _ _ a.po),by rw[aq,q];exact bp _]) (λi x _ _ _ _ _ _ l V f s' W Y X=>?_) λc s' h'=>?_];(obtain⟨rfl,z⟩:=W;have U:=z _ (aA.of (s' _ _ a.po));obtain⟨t,N,rfl⟩:=eL U;obtain⟨e,o,rfl⟩:=eL V;rw[bN,o]at f;have v:=aM f;subst v;have S:=a.post i t e N o;refine#v[t,_,I,dH.of (s' _ _ S),I,_,_,I,_,_,I,I,I,_,_,I,I,_,I,cg (λd=>?_) (λd=>?_)];((refine(Y (eP ?_) _ (Z.refl _));have:(e.day:Int)<=(ao:Int):=by simpa using d);lia);(refine X (ek ?_) _ (Z.refl _);have:¬(e.day:Int)<=(ao:Int):=by simpa using d);lia);rw[p8 (λp:l8=>aB (p.limit:Int)) (λp=>decide (p.day<=ao))]at h';unfold A0 at m;obtain⟨r,L⟩:=List.getLast?_eq_some_iff.mp m;rw[L,dY]at h';exact#v[_,I,u,_,_,_,I,I,aA.of h',Hw _ _,k c s']
def j2(s:cq)(a i:Nat):aa (Nat×Nat):=((bQ i).map λj=>(a+j,kS s (a+j))).filter λx=>decide (0<x.2)
def ML(s:cq)(a i:Nat):j2 s a (i+1)=j2 s a i++if 0<kS s (a+i)then[(a+i,kS s (a+i))]else[]:=by unfold j2;rw[uO,dY,nX];congr 1;by_cases h:0<kS s (a+i);(rw[aI h];simp[h]);rw[aD h];simp[h]
def MM(s:cq)(a i:Nat):(j2 s a i).length<=i:=by unfold j2;refine dQ (iq _ _) ?_;rw[aq,et];exact bp _
def qe(x:Nat×Nat):aa V:=[.int (x.1:Int),.int (x.2:Int)]
def XF{s:cq}(h:∃p r,s.posts=p::r/\p.day=0)(ao:Nat):∃p,A0 s ao=O p:=by obtain⟨p,r,a,b⟩:=h;unfold A0;rw[a,hC,aI (by rw[b];simp)];exact#v[_,List.getLast?_eq_getLast (List.cons_ne_nil _ _)]
inductive XG(A:bF)(vs:aa V)(H:Hp)(Q:VK)(E:XK):Prop|mk(R:RA)(s:cq)(a b:Nat)(_:vs=[.ref R.r,.int a,.int b])(_:bo.Ok s)(_:(∃p r,s.posts=p::r/\p.day=0))(_:a<=b)(_:b<=100000)(_:b-a<=500)(_:RecAt A H R s)(_:∀(H':Hp)(D:U)(ts:aa U),Z H H'->H D=aR->H' D=O (.lst (ts.map aT))->fq H' ts ((j2 s a (b+1-a)).map qe)->Q (.ref D) H')
def XH:bf P w K mg aJ bq 7 A.aC.x5 A.aC.yn ["self","first","last"] (XG A):=by refine T.aC.JS.fn.bJ t8 (λH vs _ E L h=>?_);obtain⟨R,s,a,j,rfl,o,ap,_,z,_,v,k⟩:=h;obtain⟨y,C⟩:=v.obj;have aC:=bZ;refine#v[_,ay (ba 3 t8.nd (cD a7 T.aC.c T.aC.oo ((qd T).to 6) L)) (ay (ba 4 t8.nd (bO gk)) (ay (iV hK I (Sf I T.Dp (cv aS (cS kq aY bS))) (dD (i:=5) t8.nd I (cB I)) (ay (ba 6 t8.nd (cS jv (pm a7 T.aC.c T.aC.JR ((XE T).to 6) L (aQ (pv 5))) (pm a7 T.aC.c T.aC.yw (DL T) L (cv (pv 3) (pv 5))))) (cR (cN (cO gD (pv 6) bS (cm _)) (cR (e0 (gF gL mm mn lM (pv 4) (aQ (kr (cv (pv 5) (pv 6))))))) c9)))) (bc (pv 4)))),R.r,y,_,I,C,I,R,s,I,o,v,λH1 d r _ ao=>?_];refine#v[dc _,λf u=>?_];have aF:Z H (Y H1 f (.lst [])):=r.gG (r.free u);have al:=r.free u;refine#v[_,_,I,I,(a:Int),(j:Int)+1,I,#v[by lia,by lia,by lia,by lia],?_];rw[show((j:Int)+1-(a:Int)).toNat=j+1-a by lia];refine GX (lo:=(a:Int)) (n:=j+1-a) (λi ad g=>∃(X ac:ab V)(b:aa U),ad=[O (.ref R.r),O (.int a),O (.int j),O (.ref d),O (.ref f),X,ac]/\Z H1 g/\g f=O (.lst (b.map aT))/\fq g b ((j2 s a i).map qe)) #v[aj,aj,[],I,Z.new u,az,fq.nil] ?_ ?_;(rintro i ad g _ ⟨X,ac,b,rfl,l,c,q⟩;obtain⟨p,af⟩:=XF ap (a+i);have S:=r.trans l;refine#v[R.r,y,_,I,S _ _ C,I,R,s,a+i,p,?_,o.vq,af,v.same S,λ_ W=>?_];(show[aT R.r,aB ((a:Int)+(i:Int))]=_;rw[show(a:Int)+(i:Int)=((a+i:Nat):Int)by lia]);have ag:=S.trans W;refine#v[R.r,y,_,I,ag _ _ C,I,R,s,s.entries.length,a+i,d,?_,o,bp _,v.same ag,W _ _ (l _ _ ao),λ_ ar=>?_];(show[aT R.r,aT d,aB ((a:Int)+(i:Int))]=_;rw[show(a:Int)+(i:Int)=((a+i:Nat):Int)by lia]);(refine#v[_,_,I,I,?_];have m:=W.trans ar;have aE:kS s (a+i)=p.limit-ej s (a+i) s.entries.length:=by unfold kS;rw[af]);refine#v[_,_,I,I,_,I,cg (λB=>?_) (λB=>?_)];((have an:0<(p.limit:Int)-((ej s (a+i) s.entries.length:Nat):Int):=(by simpa using B);have J:0<kS s (a+i):=by lia);(refine#v[.inl #v[I,_,aA.of (m _ _ c)],(bB 2),λt N=>?_];have x:=m.trans (Z.new (o:=HO.tup [.int ((a:Int)+(i:Int)),.int ((p.limit:Int)-((ej s (a+i) s.entries.length:Nat):Int))]) N);have av:b.length<=501:=by have:=MM s a i;have ak:=q.1;rw[aq]at ak;lia);(refine#v[f,_,_,I,I,x _ _ c,(by rw[aq];lia),?_];have am:t≠f:=λe=>by rw[e,m _ _ c]at N;cases N);refine#v[_,_,b++ [t],I,(l.trans x).gG u,?_,?_];(rw[az,dY];rfl);(rw[ML,aI J,dY];have ah:qe (a+i,kS s (a+i))=[.int ((a:Int)+(i:Int)),.int ((p.limit:Int)-((ej s (a+i) s.entries.length:Nat):Int))]:=by unfold qe;rw[show(((a+i,kS s (a+i)):Nat×Nat).1:Int)=(a:Int)+(i:Int)by simp,show(((a+i,kS s (a+i)):Nat×Nat).2:Int)=(p.limit:Int)-((ej s (a+i) s.entries.length:Nat):Int)by simp only;lia]);show fq _ (b++ [t]) ((j2 s a i).map qe++ [qe (a+i,kS s (a+i))]);rw[ah];refine(fq.keep (q.same x) λj xs z=>?_).snoc ?_;(rw[aw (bC z (x _ _ c) (by intro as;cases as))];exact z);rw[aw am,az]);(have an:¬0<(p.limit:Int)-((ej s (a+i) s.entries.length:Nat):Int):=(by simpa using B);have J:¬0<kS s (a+i):=by lia);refine#v[_,_,b,I,l.trans m,m _ _ c,?_];rw[ML,aD J,gY];exact q.same m);rintro ad g ⟨X,ac,b,rfl,l,c,q⟩;exact(k g f b (r.trans l) al c q)
def zw{s:G}(o:aW.Ok s){x:F×Nat}(a:x∈s.onIt):x.1.id<s.came:=dF.ia o (.inr (.inl #v[x,a,I]))
def rH(l:G):aa Nat:=(h8 l [] l.onIt).2.map λc=>c.id
def nk(a:aa VD)(l:G)(k:Nat):aa (Nat×VD):=i8 a (l.onIt.filter λx=>dM l x==k)
def XI{s:bY}(o:aL.iF s){b:aa VD}(j:∀x∈(cn s.lane).onIt,ng (cn s.lane) x (b.getD x.1.id cL)){c:aa Nat}(e:∀k,k∈c↔∃x∈(cn s.lane).onIt,dM (cn s.lane) x=k):hW (aL.mapOf s) s.file.today (cn s.lane).time c (nk b (cn s.lane))=aL.mapOf (jh s):=by(funext g k;rw[aL.RC o];have h:((nk b (cn s.lane) k).map λd=>d.2.weight).sum=eY (cn s.lane) (cn s.lane).onIt k:=by unfold nk i8 eY;rw[ck];congr 1;refine rz λx l=>?_;exact(j x (c0.mp l).1).2.1);(have i:((nk b (cn s.lane) k).map λd=>d.1)=Sy51.on (cn s.lane) k:=by unfold nk i8 Sy51.on;rw[ck];rfl);unfold hW;rw[h,i];by_cases a:g=s.file.today/\k∈c;(·rw[aI a,aI #v[a.1,(e k).mp a.2]];try (cases aL.mapOf s s.file.today k<;>rfl));rw[aD a,aD (λf=>a #v[f.1,(e k).mpr f.2])]
inductive XJ(A:bF)(vs:aa V)(H:Hp)(Q:VK)(E:XK):Prop|mk(B:BA)(s:bY)(_:vs=[.ref B.b,.bl (!s.lane.shut)])(_:aL.iF s)(_:e7 A H B s)(_:∀(H':Hp)(B':BA)(lf:U),e7 A H' B' (jh s)->Go H H' B B'->B'.b=B.b->H lf=aR->H' lf=O (.lst (aK (rH s.lane)))->Q (.ref lf) H')
def MN:bf P w K mg aJ bq 5 A.aF.m4 A.aF.m5 ["self","may_enter"] (XJ A):=by(refine T.aF.pV.fn.bJ J2 (λH vs _ E y h=>?_);obtain⟨B,s,rfl,o,⟨as,ag,d⟩,k⟩:=h;obtain⟨_,an⟩:=d.obj;obtain⟨dl,ah⟩:=d.lane.obj;have aD:=bZ;refine#v[_,ay (ba 2 J2.nd (pm a0 T.ak.c T.ak.pV (Md T) y (aQ aS))) (ay (e0 (pm a0 T.dZ.c T.dZ.Ji ((WB T).to 4) y (dm (aX a0) (cv (aX a0) (cD a0 T.ak.c T.ak.CV ((Mp T).to 4) y))))) (bc aY)),I,an,T.aF.c.cl,T.aF.gV,hy _ _ _ _ _,B.L.l,dl,_,I,ah,I,B.L,s.lane,as,!s.lane.shut,I,o.lane,d.lane,λH1 g ap l t J u ak _ al=>?_];have ac:({s.lane with shut:= !(!s.lane.shut)}:G)=s.lane:=by rw[Fd]);(rw[ac]at t;obtain⟨_,p,_,_,_,_⟩:=aW.mD s.lane;have V:=o.tick;have i:aW.Ok (cn s.lane):=V.lane;have U:∀x∈LL {B.L with cr:=g},x∈LL B.L\/H x=aR:=λx c=>by(simp only[LL,bL,ff,gv]at c⊢;rcases c with e|e|e|e|e|e|e|e);(exact .inl (.inl e));(exact .inl (.inr (.inl e)));(exact .inl (.inr (.inr (.inl e))));(exact .inl (.inr (.inr (.inr (.inl e)))));(exact .inl (.inr (.inr (.inr (.inr (.inl e))))));(exact .inl (.inr (.inr (.inr (.inr (.inr (.inl e)))))));(exact .inl (.inr (.inr (.inr (.inr (.inr (.inr (.inl e))))))));rw[e];exact .inr u);(have f:dP A H1 {B with L:={B.L with cr:=g} } {s with lane:=cn s.lane} l ag:=by refine d.DQ t J I I U ?_ ?_ rfl rfl rfl rfl;(have j:=d.lg;simp only[bL,ff,gv,hI]at j⊢;exact#v[j.1,j.2.1,j.2.2.1,λe=>by rw[<-e,d.sz]at u;cases u]);show((cn s.lane).spans.map λx=>x.1)=_;rw[p]);(have ad:Go H H1 B {B with L:={B.L with cr:=g} }:=Go.lane J I U λx c=>.inl c;obtain⟨_,n⟩:=f.obj;obtain⟨Z,R⟩:=f.lane.obj;obtain⟨Y,af⟩:=f.book.obj;obtain⟨_,ao⟩:=f.file.obj;refine#v[I,n,T.aF.c.cl,T.aF.rp,uv _ _ _ _ _,B.bk,Y,_,I,af,I,I,n,T.aF.c.cl,T.aF.fB,fM _ _ _ _ _,I,ao,T.aC.c.cl,T.aC.i7,kF,I,n,T.aF.c.cl,T.aF.gV,hy _ _ _ _ _,I,R,T.ak.c.cl,T.ak.k_,ug,I,n,T.aF.c.cl,T.aF.gV,hy _ _ _ _ _,B.L.l,Z,_,I,R,I,{B.L with cr:=g},cn s.lane,l,I,i,t,λ_ X z ar a=>?_];have b:=f.same a.same;have az:=i.gh;have aC:z.length<=12:=aL.pG 12 z a.nd λk v=>by obtain⟨x,c,e⟩:=(a.mem k).mp v;have:=aL.Gj i c;have aw:aL.dM (cn s.lane) x=k:=e;lia);have aA:=f.short (s:={s with lane:=cn s.lane}) #v[V.lane,(by show s.now.length=(cn s.lane).spans.length;rw[p];exact o.now),o.gi,λm am=>by show m.span<(cn s.lane).spans.length;rw[p];exact o.iD m am,o.day];refine#v[B.bk,B.d,X,ag,aL.mapOf s,s.file.today,(cn s.lane).time,z,ar,λk=>((cn s.lane).onIt.filter λx=>dM (cn s.lane) x==k).map λx=>B.L.vs.getD x.1.id 0,nk l (cn s.lane),I,b.book,by lia,a.dO,a.nd,λk v=>#v[?_,?_,?_],λC S i5 q=>?_];(rw[a.lst k v,ck];rfl);(refine zf (L:={B.L with cr:=g}) (b.lane.d7) (λx c=>?_) (by rw[b.lane.dN,b.lane.b7]);rw[b.lane.b7];exact zw i (c0.mp c).1);(rw[aq];have j:=iq (λx=>dM (cn s.lane) x==k) (cn s.lane).onIt;have r:=i.count;have N:=i.fY;lia);rw[XI o b.lane.lo a.mem]at i5;have W:dP A C {B with L:={B.L with cr:=g} } (jh s) l S:=b.Xt (s':=jh s) i5 q I I I I;refine(k C _ ap #v[l,S,W] (ad.trans ((Go.same a.same).trans (Go.book q))) I ak ?_);have r:=a.same _ _ al;have N:=q _ _ r (bC r b.book.dO (by intro av;cases av));rw[N];unfold rH aK;rw[ck];rfl
inductive XM(A:bF)(vs:aa V)(H:Hp)(Q:VK)(E:XK):Prop|mk(B:BA)(s:bY)(_:vs=[.ref B.b])(_:e7 A H B s)(_:Q (.bl (s.closed||s.hand)) H)
def DU:bf P w K mg aJ bq 1 A.aF.yB A.aF.yJ ["self"] (XM A):=by refine T.aF.yS.fn.bJ Vf (λH vs _ E _ h=>?_);obtain⟨B,s,rfl,⟨_,ag,c⟩,k⟩:=h;obtain⟨_,b⟩:=c.obj;refine#v[_,bc (vU a0 (s9 a0)),I,b,T.aF.c.cl,T.aF.ua,DP _ _ _ _ _,_,I,?_];cases a:s.closed with|true=>rw[a]at k;exact de k|false=>rw[a]at k;exact eJ #v[I,b,T.aF.c.cl,T.aF.yQ,MK _ _ _ _ _,k]
end
def DV:∀(n:Nat)(s:bY),eA (n+1) s=jh (eA n s)
 |0,s=>rfl
 |n+1,s=>by show eA (n+1) (jh s)=_;rw[DV n (jh s)];rfl
def DW:∀(n:Nat){s:bY},aL.iF s->aL.iF (eA n s)
 |0,_,o=>o
 |n+1,s,o=>DW n o.tick
def fN(l a:G):aa Nat:=(a.past.drop l.past.length).map λp=>p.id
def MO{l a:G}(h:l.past.length<=a.past.length):fN l (cn a)=fN l a++rH a:=by unfold fN;rw[aW.vp,Fe h,dY,ck];rfl
def MP(l:G):l.past.length<=(cn l).past.length:=by rw[aW.vp,cV];exact r0 _ _
def MQ:∀(n:Nat)(s:bY),(eA n s).lane.shut=s.lane.shut/\(eA n s).hand=s.hand/\(eA n s).closed=s.closed/\s.lane.past.length<=(eA n s).lane.past.length
 |0,s=>#v[I,I,I,bp _]
 |n+1,s=>by obtain⟨a,b,c,d⟩:=MQ n (jh s);refine#v[a.trans (aW.mD s.lane).2.2.1,b,c,dQ (MP s.lane) d]
def zx(a b:aa Nat):aK (a++b)=aK a++aK b:=by unfold aK;rw[dY]
def cy(a:aa Nat):(aK a).length=a.length:=by unfold aK;rw[aq]
def rJ{l a:G}(o:aW.Ok a):(fN l a).length<=60:=by unfold fN;rw[aq,uY];have b:=o.count;have c:=o.fY;lia
section
inductive XN(A:bF)(vs:aa V)(H:Hp)(Q:VK)(E:XK):Prop|mk(B:BA)(s:bY)(n:Nat)(_:vs=[.ref B.b,.int n])(_:n<=1000)(_:aL.Ok s)(_:e7 A H B s)(_:∀(H':Hp)(B':BA)(lf:U),e7 A H' B' (eA n s)->Go H H' B B'->B'.b=B.b->H lf=aR->H' lf=O (.lst (aK (fN s.lane (eA n s).lane)))->Q (.ref lf) H')
def XO:bf P w K mg aJ bq 6 A.aF.yC A.aF.yK ["self","many"] (XN A):=by
 refine T.aF.J_.fn.bJ C4 (λH vs _ E R h=>?_);obtain⟨B,s,n,rfl,N,o,y,k⟩:=h;have aG:=bZ;refine#v[_,ay (ba 2 C4.nd (bO gk)) (ay (iV hK I (GW I T.Dp (aQ aS)) (dD (i:=3) C4.nd I (cB I)) (cR (e0 (gF gL sD sE wa aY (aQ (pm a7 T.aF.c T.aF.pV (MN T) R (aQ (BS (cD a7 T.aF.c T.aF.yS ((DU T).to 5) R))))))))) (bc aY)),dc _,λa f=>?_];have X:Z H (Y H a (.lst [])):=Z.new f;refine#v[_,I,(by show-(2^62)<=((n:Nat):Int);lia),(by show((n:Nat):Int)<2^62;lia),?_];rw[jj];refine GX (lo:=0) (n:=n) (λi u b=>∃(t:ab V)(d:BA),u=[O (.ref B.b),O (.int n),O (.ref a),t]/\e7 A b d (eA i s)/\Go H b B d/\d.b=B.b/\¬BF d a/\b a=O (.lst (aK (fN s.lane (eA i s).lane)))) #v[aj,B,I,y.same X,Go.same X,I,(let #v[_,_,af]:=y;af.fresh f),?_] ?_ ?_
 ·rw[az];show _=O (cT (aK (fN s.lane s.lane)));unfold fN;rw[A1];rfl
 ·rintro i u b _ ⟨t,e,rfl,m,q,c,U,g⟩;have j:=DW i o.tok;obtain⟨ar,as,av,aC⟩:=MQ i s;obtain⟨ac,S,p⟩:=m;obtain⟨z,r⟩:=p.obj;rw[c]at r;refine#v[.inl #v[I,_,aA.of g],B.b,z,_,I,r,I,B.b,z,_,I,r,I,e,eA i s,(by rw[c];rfl),#v[ac,S,p],_,I,?_];have al:(!((eA i s).closed||(eA i s).hand))= !(eA i s).lane.shut:=by rw[ar,as,av,o.shut,Ff]
  rw[al];refine#v[e,eA i s,(by rw[c];rfl),j,#v[ac,S,p],λv ad aq ag J ak _ am=>?_];obtain⟨L,W⟩:=J.lst g U;have aE:=rJ (l:=s.lane) j.lane;have aF:=rJ (l:=(eA i s).lane) j.tick.lane;have C:fN s.lane (cn (eA i s).lane)=fN s.lane (eA i s).lane++rH (eA i s).lane:=MO aC;have an:=rJ (l:=s.lane) j.tick.lane;rw[show(jh (eA i s)).lane=cn (eA i s).lane from I,C,cV]at an;refine#v[a,aq,_,_,I,I,L,am,(by rw[cy,cy];lia),?_];obtain⟨aD,ap,ah⟩:=ag;have aH:∀x o,v x=O o->x≠a->(Y v a (.lst (aK (fN s.lane (eA i s).lane)++aK (rH (eA i s).lane)))) x=O o:=λx o ao N=>by rw[aw N];exact ao
  refine#v[_,ad,I,#v[aD,ap,?_],(q.trans J).gG f,ak.trans c,W,?_]
  ·rw[DV];exact ah.list L W
  ·rw[az,DV,<-zx,<-C];rfl
 ·rintro u b ⟨t,e,rfl,m,q,c,U,g⟩;exact(k b e a m q c f g)
end
def eg(s:bY):bY:={s with lane:={s.lane with shut:=ai} }
section
def dP.XP{H:Hp}{B:BA}{s:bY}{b:aa VD}{ag:aa (aa bg×V)}(a:dP A H B s b ag)(c:Bool):dP A H B {s with lane:={s.lane with shut:=c} } b ag:=#v[a.obj,a.lane.rD #v[I,I,I,I,I,I,I,I,I],a.file,a.book,a.apart,a.sz,a.lg]
def XQ{f:Nat}{s:bY}(h:s.lane.onIt=[]):cW f s=s:=by cases f with|zero=>rfl|succ f=>unfold cW;rw[aI (by rw[h];rfl)]
def XR{f:Nat}{s:bY}(h:s.lane.onIt≠[]):cW (f+1) s=cW f (jh s):=by(conv=>lhs;unfold cW);rw[aD (λa=>h (nE.mp a))]
inductive XS(A:bF)(vs:aa V)(H:Hp)(Q:VK)(E:XK):Prop|mk(B:BA)(s:bY)(_:vs=[.ref B.b])(_:aL.iF s)(_:e7 A H B s)(_:∀(H':Hp)(B':BA)(lf:U),e7 A H' B' (cW eB (eg s))->Go H H' B B'->B'.b=B.b->H lf=aR->H' lf=O (.lst (aK (fN s.lane (cW eB (eg s)).lane)))->¬BF B' lf->Q (.ref lf) H')
def XT:bf P w K mg aJ bq 6 A.aF.yD A.aF.yL ["self"] (XS A):=by
 refine T.aF.Ka.fn.bJ J5 (λH vs _ E as h=>?_);obtain⟨B,s,rfl,o,⟨aC,av,ak⟩,k⟩:=h;have v:e7 A H B (eg s):=#v[aC,av,ak.XP ai];have V:aL.iF (eg s):=#v[o.lane.n0 ai,o.now,o.gi,o.iD,o.day];have aD:=bZ;refine#v[_,ay (ba 1 J5.nd (bO gk)) (ay (vW hK (cO gD (dE T.dW (aX a0)) bS (cm _)) (cR (e0 (gF gL sD sE wa aS (aQ (pm a7 T.aF.c T.aF.pV (MN T) as (aQ mK))))))) (bc aS)),dc _,λb j=>?_];have W:Z H (Y H b (.lst [])):=Z.new j;refine#v[λm ac c=>∃(a:BA)(st:bY),ac=[O (.ref B.b),O (.ref b)]/\cW m st=cW eB (eg s)/\aW.work st.lane<=m/\aL.iF st/\st.lane.shut=ai/\s.lane.past.length<=st.lane.past.length/\e7 A c a st/\Go H c B a/\a.b=B.b/\¬BF a b/\c b=O (.lst (aK (fN s.lane st.lane))),#v[eB,B,eg s,I,I,dQ (aW.Bj V.lane) (by decide),V,I,bp _,v.same W,Go.same W,I,(let #v[_,_,ah]:=v;ah.fresh j),?_],?_]
 ·rw[az];show _=O (cT (aK (fN s.lane s.lane)));unfold fN;rw[A1];rfl
 rintro m ac c ⟨u,st,rfl,p,_,ok,N,L,⟨X,R,d⟩,z,i,S,n⟩;obtain⟨am,t⟩:=d.obj;rw[i]at t;obtain⟨_,ap⟩:=d.lane.obj;refine#v[I,t,T.aF.c.cl,T.aF.gV,hy _ _ _ _ _,I,ap,T.ak.c.cl,T.ak.i6,oF _ _,_,_,I,.inl (aA.of d.lane.cr),_,_,I,I,_,I,cg (λg=>?_) (λg=>?_)]
 ·have q:st.lane.onIt≠[]:=λe=>by rw[e]at g;simp at g
  obtain⟨f,rfl⟩:∃f,m=f+1:=by have aE:0<aW.work st.lane:=(by have:=aW.sQ ok.lane q;lia);exact#v[m-1,by lia]
  refine#v[λad c=>∃(a:BA)(st:bY),ad=[O (.ref B.b),O (.ref b)]/\cW f st=cW eB (eg s)/\aW.work st.lane<=f/\aL.iF st/\st.lane.shut=ai/\s.lane.past.length<=st.lane.past.length/\e7 A c a st/\Go H c B a/\a.b=B.b/\¬BF a b/\c b=O (.lst (aK (fN s.lane st.lane))),λad ag h=>#v[f,qE _,h],.inl #v[I,_,aA.of n],B.b,am,_,I,t,I,u,st,(by rw[i,N];rfl),ok,#v[X,R,d],λag af aw al C an _ aq=>?_];obtain⟨J,U⟩:=C.lst n S;have y:fN s.lane (cn st.lane)=fN s.lane st.lane++rH st.lane:=MO L;have ar:=rJ (l:=s.lane) ok.tick.lane;rw[show(jh st).lane=cn st.lane from I,y,cV]at ar;refine#v[b,aw,_,_,I,I,J,aq,(by rw[cy,cy];lia),af,jh st,I,?_,?_,ok.tick,?_,dQ L (MP st.lane),al.list J U,(z.trans C).gG j,an.trans i,U,?_]
  ·rw[<-XR q];exact p
  ·have:=aW.sQ ok.lane q;show aW.work (cn st.lane)<=f;lia
  ·show(cn st.lane).shut=ai;rw[(aW.mD st.lane).2.2.1];exact N
  ·rw[az,<-zx,<-y];rfl
 ·have ao:st.lane.onIt=[]:=by
   match e:st.lane.onIt with
   | []=>rfl
   |x::r=>rw[e]at g;simp at g
  rw[XQ ao]at p;rw[p]at d n;exact(k c u b #v[X,R,d] z i j n S)
end
def nq(s:bY):aa Nat:=(bQ s.file.parts.length).map λk=>max 1 (mu s k)
def XU{s:bY}(h:s.file.parts.length=s.lane.spans.length):ig s.lane (nq s)=aL.fb s:=by unfold ig aL.fb;congr 1;apply pj;intro i;rw[bN,bN,Og];by_cases b:i<s.lane.spans.length;(have a:(s.lane.spans.zip (nq s))[i]? =O (s.lane.spans[i],max 1 (mu s i)):=(by rw[A2];refine#v[b_ b,?_];unfold nq;rw[bN,h9 ∅];rfl);rw[a,b_ b];simp);have a:(s.lane.spans.zip (nq s))[i]? =aj:=gK (by rw[u9];lia);rw[a,gK ∅];rfl
def XW{s:bY}(f:bo.Ok s.file)(h:s.file.parts.length=s.lane.spans.length):decide (((ej s.file s.file.today s.file.entries.length:Nat):Int)=0)=aL.h_ s:=by obtain⟨a,b⟩:=zo s.file s.file.today s.file.entries.length f.p1;unfold aL.h_;rw[aL.pE,<-h,ip,l4];simp only[fh,gu,jf];constructor;(intro e;exact#v[_,a,by unfold mu;unfold ej at e;lia]);rintro⟨k,c,e⟩;have:=b k c;unfold mu at e;unfold ej;lia
section
inductive XX(A:bF)(vs:aa V)(H:Hp)(Q:VK)(E:XK):Prop|mk(B:BA)(s:bY)(_:vs=[.ref B.b])(_:aL.Pre s)(_:e7 A H B s)(_:∀(H':Hp)(B':BA)(D:U),e7 A H' B' (fH s).1->Go H H' B B'->B'.b=B.b->H D=aR->H' D=O (.lst (aK (fH s).2))->¬BF B' D->Q (.ref D) H')
def DX:bf P w K mg aJ bq 6 A.aF.yz A.aF.yH ["self"] (XX A):=by(refine T.aF.yR.fn.bJ yx (λH vs a2 E an h=>?_);obtain⟨B,s,rfl,p,⟨aW,ag,C⟩,k⟩:=h;obtain⟨_,am⟩:=C.obj;obtain⟨ar,ao⟩:=C.file.obj;have b_:=bZ;have f:=p.file;have b6:=f.kT;refine#v[_,ay (ba 1 yx.nd (pm a0 T.aC.c T.aC.yu (Ef T) an (cv (cD a0 T.aC.c T.aC.oo ((qd T).to 5) an) (aX a0)))) (ay (e0 (pm a0 T.aC.c T.aC.JU ((W_ T).to 5) an (aQ (iY (tK I) (by rfl) T.uf (by rfl) (aQ aS))))) (ay (cF a7 (jw fl (iY (tK I) (by rfl) T.uf (by rfl) (aQ aS)) bS (cm _)) I) (bc (pm a0 T.ak.c T.ak.I8 ((Wt T).to 5) an (aQ (hP (dS:=[("much",2)]) (g:=eh 2) (tt:=fI) (te:=q7 (λxs H a2=>∃i j:Int,xs=[.int i,.int j]/\a2 (.int (if j>i then j else i)) H) (eC (tC (.int 1)) (eC (b8 2) fo))) I yx.nd (fU aS) (gn (by kernel_rfl)) (λ_ _ _ _ _=>dD (i:=2) yx.nd I (cB I)) (λ_ _ _ _ _=>ib) (λ_ _ _ _ _=>iY (B2 I) (by rfl) T.zd (by rfl) (cv bS aY)))))))),I,am,T.aF.c.cl,T.aF.fB,fM _ _ _ _ _,B.R.r,ar,_,I,ao,I,I,am,T.aF.c.cl,T.aF.fB,fM _ _ _ _ _,B.R.r,ar,_,I,ao,I,B.R,s.file,I,f,C.file,λH1 d ac _ bW=>?_];refine#v[I,ac _ _ am,T.aF.c.cl,T.aF.fB,fM _ _ _ _ _,I,ac _ _ ao,T.aC.c.cl,T.aC.i7,kF,B.R,s.file,s.file.entries.length,s.file.today,d,I,f,bp _,C.file.same ac,bW,λbt ah b4 be bd=>?_];have ad:=ac.trans b4;have a3:=C.same ad;obtain⟨a4,_⟩:=aL.Bo f p.posts;have bm:∀m:Int,m∈(((bQ s.file.parts.length).map λk=>cp s.file k s.file.today s.file.entries.length).map λ(n:Nat)=>(n:Int))->(∀af∈(((bQ s.file.parts.length).map λk=>cp s.file k s.file.today s.file.entries.length).map λ(n:Nat)=>(n:Int)),m<=af)->m=((ej s.file s.file.today s.file.entries.length:Nat):Int):=λm a8 W=>by rw[ck]at a8 W;exact DK f.p1 a8 W);(have bk:(((bQ s.file.parts.length).map λk=>cp s.file k s.file.today s.file.entries.length).map λ(n:Nat)=>(n:Int)).length=s.file.parts.length:=by rw[aq,aq,et]);(have b9:=f.p1;refine#v[I,ad _ _ am,T.aF.c.cl,T.aF.fB,fM _ _ _ _ _,B.R.r,ar,_,I,ad _ _ ao,I,ah,_,I,aA.of (by rw[bd,zp]),(by rw[bk];lia),λm aG aH=>?_];have as:=bm m aG aH;subst as;refine#v[B.R,s.file,ej s.file s.file.today s.file.entries.length,I,p.posts,a3.file,λc t bT av=>?_];have ap:dP A c {B with R:={B.R with qs:=B.R.qs++ [t]} } {s with file:=(cb s.file .post).1} aW ag:=by refine a3.DS ?_ (λx o b _ _ u=>av x o b u) I I I I I I I ?_;(show RecAt A c _ (cb s.file .post).1;rw[a4];exact bT s.file.entries.length);show aL.mapOf {s with file:=(cb s.file .post).1}=_;rw[a4];rfl);(have a6:Go bt c B {B with R:={B.R with qs:=B.R.qs++ [t]} }:=Go.file (λx o b _ _ u=>av x o b u) I I I I;have aD:c ah=O (.lst (aK ((bQ s.file.parts.length).map λk=>cp s.file k s.file.today s.file.entries.length))):=av _ _ bd (λe=>by rw[e,ac _ _ C.file.po]at be;cases be);obtain⟨J,bn⟩:=ap.obj;refine#v[ah,_,I,aA.of (by rw[aD,zp]),(by rw[bk];lia),λm aG aH=>?_];have as:=bm m aG aH;subst as;refine#v[I,B.b,_,J,_,I,bn,T.aF.c.cl,T.aF.ua,(by show 5<1000;decide),?_];have bF:decide (aB ((ej s.file s.file.today s.file.entries.length:Nat):Int)=aB 0)=aL.h_ s:=by rw[<-XW f p.len,ip,fh,fh];exact#v[λh=>V.int.inj h,λh=>by rw[h]]);(rw[bF];have aO:∀x o,c x=O o->x≠B.b->(Y c B.b (.ins A.aF.C J (cz "closed" (.bl (aL.h_ s)) (i9 B.R.r B.L.l B.bk s.hand s.closed)))) x=O o:=λx o b u=>by rw[aw u];exact b);(have q:dP A (Y c B.b (.ins A.aF.C J (cz "closed" (.bl (aL.h_ s)) (i9 B.R.r B.L.l B.bk s.hand s.closed)))) {B with R:={B.R with qs:=B.R.qs++ [t]} } {s with file:=(cb s.file .post).1,closed:=aL.h_ s} aW ag:=ap.ui (s':={s with file:=(cb s.file .post).1,closed:=aL.h_ s}) (dx:=J) (by rw[az];rfl) aO I ap.lane I I;have aC:Go c (Y c B.b (.ins A.aF.C J (cz "closed" (.bl (aL.h_ s)) (i9 B.R.r B.L.l B.bk s.hand s.closed)))) {B with R:={B.R with qs:=B.R.qs++ [t]} } {B with R:={B.R with qs:=B.R.qs++ [t]} }:=Go.obj aO;have aE:=aO _ _ aD (bC aD bn (by intro b5;cases b5));generalize b7:Y c B.b (.ins A.aF.C J (cz "closed" (.bl (aL.h_ s)) (i9 B.R.r B.L.l B.bk s.hand s.closed)))=S at q aC aE⊢;obtain⟨_,b1⟩:=q.obj;obtain⟨bE,b0⟩:=q.lane.obj;have aI:(aK (nq s)).length=s.file.parts.length:=by unfold nq;rw[cy,aq,et]);(have bi:(aK ((bQ s.file.parts.length).map λk=>cp s.file k s.file.today s.file.entries.length)).length=s.file.parts.length:=by rw[cy,aq,et]);refine#v[I,b1,T.aF.c.cl,T.aF.gV,hy _ _ _ _ _,B.L.l,bE,_,I,b0,I,ah,I,#v[_,aA.of aE],λz aN=>mZ (K:=K) (aK (nq s)) aN (aA.of aE) (by rw[aI,bi]) (by rw[bi];lia) (λ_=>rfl) (λi x af a1 b v s' R bP=>?_) λ_ aV bb=>?_];(·(have bX:i<s.file.parts.length:=(by rw[<-aI];exact(cM.mp v).1);unfold aK nq at v;unfold aK at b;rw[ck,bN,h9 bX]at b v;have bG:=aM b;have bH:=aM v;subst bG bH;refine#v[_,_,I,?_];have e:(if((cp s.file i s.file.today s.file.entries.length:Nat):Int)>1 then((cp s.file i s.file.today s.file.entries.length:Nat):Int)else 1)=((max 1 (mu s i):Nat):Int):=by unfold mu;split<;>lia);show R (aB (if((cp s.file i s.file.today s.file.entries.length:Nat):Int)>1 then((cp s.file i s.file.today s.file.entries.length:Nat):Int)else 1)) a1;rw[e];exact bP a1 (Z.refl _));(have al:=q.same aV;have aP:=p.lane;have bo:=al.lane.nd;have Q:∀ {af:U}{o:HO},S af=O o->z≠af:=λv e=>by rw[<-e,aN]at v;cases v);(have b3:[B.L.cs,z,B.L.bX,B.L.wt,B.L.q0,B.L.q1,B.L.cr].Nodup:=(by have N:=q.lane;simp only[fD,bL,hI,ff,pf,ph,sm]at bo⊢;obtain⟨⟨_,bu,bv,bw,bA,bB⟩,_,r⟩:=bo;exact#v[#v[(Q N.cs).symm,bu,bv,bw,bA,bB],#v[Q N.bX,Q N.wt,Q N.q0,Q N.q1,Q N.cr],r]);refine#v[B.L,s.lane,aW,z,nq s,I,fL.of aP,aP.fY,aP.iA,al.lane,bb,(by rw[<-p.len,<-aI,cy]),b3,λak bs l bh bI X bg=>?_];rw[XU p.len]at bh bg;have br:∀x∈LL {B.L with lim:=z},x∈LL B.L\/S x=aR:=λx b=>by(simp only[LL,bL,ff,gv]at b⊢;rcases b with e|e|e|e|e|e|e|e);(exact .inl (.inl e));(exact .inl (.inr (.inl e)));(rw[e];exact .inr aN);(exact .inl (.inr (.inr (.inr (.inl e)))));(exact .inl (.inr (.inr (.inr (.inr (.inl e))))));(exact .inl (.inr (.inr (.inr (.inr (.inr (.inl e)))))));(exact .inl (.inr (.inr (.inr (.inr (.inr (.inr (.inl e))))))));exact .inl (.inr (.inr (.inr (.inr (.inr (.inr (.inr e))))))));(have a5:∀x o,S x=O o->¬LF B.L x->ak x=O o:=λx o b u=>bI x o (aV _ _ b) u;have bD:dP A ak {B with R:={B.R with qs:=B.R.qs++ [t]},L:={B.L with lim:=z} } (fH s).1 bs ag:=by rw[aL.n3];refine q.DQ (s':={s with lane:={hF (aL.fb s) 2 (aL.iE s)with shut:=s.hand||aL.h_ s},closed:=aL.h_ s,file:=(cb s.file .post).1}) (bh.rD #v[I,I,I,I,I,I,I,I,I]) a5 I I br q.lg ?_ rfl rfl rfl rfl;show((s.lane.spans.zipIdx.map λ(x:(Nat×Nat)×Nat)=>(x.1.1,max 1 (mu s x.2))).map λ(x:Nat×Nat)=>x.1)=_;rw[aL.Q7 s.lane.spans (λk=>max 1 (mu s k)) 0]);(have bJ:Go S ak {B with R:={B.R with qs:=B.R.qs++ [t]} } {B with R:={B.R with qs:=B.R.qs++ [t]},L:={B.L with lim:=z} }:=Go.lane (B:={B with R:={B.R with qs:=B.R.qs++ [t]} }) a5 I br λx b=>.inl b;have bK:=(Go.same (B:=B) ad).trans (a6.trans (aC.trans bJ));have bO:H l=aR:=by cases b2:H l with|none=>rfl|some o=>have wK:¬BF {B with R:={B.R with qs:=B.R.qs++ [t]} } l:=al.fresh X;have bM:S l=aR:=aV.free X;have aF:¬BF B l:=λaF=>wK aF;have W:=(((Go.same (B:=B) ad).trans (a6.trans aC)).fr l o b2 aF);rw[bM]at W;cases W);refine k ak _ l #v[bs,ag,bD] bK I bO ?_ ?_;(rw[bg];unfold aK;rw[aL.n3,ck];rfl);(have y:=al.fresh X;intro a;rcases a with a|(a|a|a)|a|a|a);(exact y (.inl a));(exact y (.inr (.inl (.inl a))));(by_cases e:l=z;(rw[e,bb]at X;cases X);(refine y (.inr (.inl (.inr (.inl ?_))));simp only[LL,bL,ff,gv]at a⊢;rcases a with a|a|a|a|a|a|a|a);(exact .inl a);(exact .inr (.inl a));(exact absurd a e);(exact .inr (.inr (.inr (.inl a))));(exact .inr (.inr (.inr (.inr (.inl a)))));(exact .inr (.inr (.inr (.inr (.inr (.inl a))))));(exact .inr (.inr (.inr (.inr (.inr (.inr (.inl a)))))));exact .inr (.inr (.inr (.inr (.inr (.inr (.inr a)))))));(exact y (.inr (.inl (.inr (.inr a)))));(exact y (.inr (.inr (.inl a))));(exact y (.inr (.inr (.inr (.inl a)))));exact y (.inr (.inr (.inr (.inr a))))
def gH(a:bY)(n:Nat):bY:={a with file:={a.file with today:=a.file.today+n},book:=a.book++qP a,now:=a.now.map λ(_:Nat×Nat×aa Nat)=>(0,0,[])}
def XY(l:aa (Nat×Nat×aa Nat))(t:Nat):∀n:Nat,((((l.map λ(_:Nat×Nat×aa Nat)=>((0:Nat),(0:Nat),([]:aa Nat))).zipIdx n).map λ(x:(Nat×Nat×aa Nat)×Nat)=>(#v[t,x.2,x.1.1,x.1.2.1,x.1.2.2]:jm)).filter λ(m:jm)=>decide (0<m.load))=[]:=by induction l with|nil=>intro n;rfl|cons b l a=>intro n;rw[cI,rZ,cI,hC,aD (by simp)];exact a (n+1)
def XZ(a:bY)(n:Nat):aL.mapOf (gH a n)=aL.mapOf a:=by(have h:qP (gH a n)=[]:=by unfold qP gH;exact XY a.now _ 0);funext ao k;unfold aL.mapOf;rw[h,gY];rfl
inductive X0(A:bF)(vs:aa V)(H:Hp)(Q:VK)(E:XK):Prop|mk(B:BA)(a:bY)(n:Nat)(_:vs=[.ref B.b,.int n])(_:aL.Pre (gH a n))(_:e7 A H B a)(_:∀(H':Hp)(B':BA)(D:U),e7 A H' B' (fH (gH a n)).1->Go H H' B B'->B'.b=B.b->H D=aR->H' D=O (.lst (aK (fH (gH a n)).2))->¬BF B' D->Q (.ref D) H')
def X1:bf P w K mg aJ bq 7 A.aF.yE A.aF.yM ["self","days"] (X0 A):=by refine T.aF.Kb.fn.bJ Vg (λH vs _ E l h=>?_);obtain⟨B,a,n,rfl,p,⟨m,ag,c⟩,k⟩:=h;obtain⟨_,L⟩:=c.obj;obtain⟨u,U⟩:=c.file.obj;refine#v[_,ay (e0 (pm a0 T.aC.c T.aC.JT ((W8 T).to 6) l (aQ aS))) (bc (cD a7 T.aF.c T.aF.yR (DX T) l)),I,L,T.aF.c.cl,T.aF.fB,fM _ _ _ _ _,B.R.r,u,_,I,U,I,B.R,a.file,n,I,c.file,λH1 C g=>?_];have d:dP A H1 {B with R:=B.R} (gH a n) m ag:=c.DS (s':=gH a n) C (λx o f e _ _=>g x o f e) I I I I I I I (XZ a n);have i:Go H H1 B {B with R:=B.R}:=Go.file (λx o f e _ _=>g x o f e) I I I I;obtain⟨t,N⟩:=d.obj;refine#v[B.b,t,_,I,N,I,B,gH a n,I,p,#v[m,ag,d],λr q b s y v j z V=>?_];refine k r q b s (i.trans y) v ?_ z V;cases S:H b with|none=>rfl|some o=>have J:¬BF B b:=d.fresh j;have:=i.fr b o S J;rw[j]at this;cases this
inductive X2(A:bF)(vs:aa V)(H:Hp)(Q:VK)(E:XK):Prop|mk(B:BA)(s:bY)(p:l8)(r:aa l8)(_:vs=[.ref B.b])(_:e7 A H B s)(_:s.file.posts=r++ [p])(_:Q (.int (p.limit:Int)) H)
def X3:bf P w K mg aJ bq 1 A.aF.yA A.aF.yI ["self"] (X2 A):=by(refine T.aF.J9.fn.bJ Ve (λH vs _ E _ h=>?_);obtain⟨B,s,p,r,rfl,⟨_,ag,a⟩,f,k⟩:=h;obtain⟨_,l⟩:=a.obj;obtain⟨_,m⟩:=a.file.obj;have b:=a.file.hT;rw[f,cV,iM]at b;obtain⟨d,t,c⟩:∃d t,B.R.qs=d++ [t]:=by(have i:B.R.qs≠[]:=λe=>by rw[e]at b;cases b);exact#v[_,_,(List.dropLast_concat_getLast i).symm]);(have g:d.length=r.length:=by rw[c,cV,iM]at b;lia);have n:=a.file.post r.length t p (by rw[c,<-g,je (bp _),j9];rfl) (by rw[f,je (bp _),j9];rfl);refine#v[_,bc (cC gE (cC d9 (aX a0) (GY G1 bS) (λ_ _=>rfl)) bS (λ_ _=>rfl)),I,l,T.aF.c.cl,T.aF.fB,fM _ _ _ _ _,I,m,T.aC.c.cl,T.aC.t9,zk,_,I,B.R.po,_,_,_,I,I,aA.of a.file.po,(by rw[c,dY];exact Hw _ _),t,_,_,_,I,I,dH.of n,fw (j:=1) (v:=.int (p.limit:Int)) I I,k]
inductive X4(A:bF)(vs:aa V)(H:Hp)(Q:VK)(E:XK):Prop|mk(B:BA)(s:bY)(p:U)(i:Nat)(d:VD)(_:vs=[.ref B.b,.ref p])(_:e7 A H B s)(_:lS A.aP.C H p i d)(_:Q (.bl (decide (d.status=1)||(decide (d.status=0)&& !(s.closed||s.hand)))) H)
def X5:bf P w K mg aJ bq 2 A.aF.yF A.aF.yN ["self","vehicle"] (X4 A):=by(refine T.aF.Kc.fn.bJ Vh (λH vs _ E n h=>?_);obtain⟨B,s,p,i,d,rfl,⟨o,ag,a⟩,⟨_,f⟩,k⟩:=h;obtain⟨g,m⟩:=a.obj;have e:(fK i d).lookup ("status":M)=O (.int d.status):=by rfl);refine#v[_,bc (vU (jw fl (aX aS) (bG T.Dk) (cm _)) (s9 (R5 (jw fl (aX aS) (bG T.uc) (cm _)) (s9 (BS (cD a7 T.aF.c T.aF.yS (DU T) n)))))),?_];have l:decide (aB (d.status:Int)=aB 1)=decide (d.status=1):=ry d.status 1;have j:decide (aB (d.status:Int)=aB 0)=decide (d.status=0):=ry d.status 0;refine#v[I,f,T.aP.c.cl,T.aP.gU,e,I,_,I,?_];rw[l];by_cases c:d.status=1;(rw[eP c]at k⊢;exact de k);rw[ek c]at k⊢;refine eJ #v[I,f,T.aP.c.cl,T.aP.gU,e,I,_,I,?_];rw[j];by_cases b:d.status=0;(rw[eP b]at k⊢;exact de #v[B.b,g,_,I,m,I,B,s,I,#v[o,ag,a],_,I,k]);rw[ek b]at k⊢;exact eJ k
end
end Br
namespace oK
open PySem.Calls
def g{a b:Nat}(h:¬a=b:=by lia): @Ne U a b:=h
abbrev nr(h:aZ)(c TI TO:U)(a:D)(b:Bool):Prop:=h.get? c=O {cls:=.type "zip",dict:=aj,data:=.fields #[a,.bool b,.bool ax,.ref TI,.ref TO],slots:= #[]}
abbrev j3(h:aZ)(T:U)(a b c:D):Prop:=h.get? T=O {cls:=.type "tuple",data:=.seq #[a,b,c]}
structure Z3(n l1 l2 l3:Nat)(xs ys zs:ae D)(i:Nat)(f0:D)(f1:Bool)(h:aZ):Prop where
 z:nr h (n+5) (n+3) (n+4) f0 f1
 ti:j3 h (n+3) (.ref n) (.ref (n+1)) (.ref (n+2))
 to:∃a b c,j3 h (n+4) a b c
 i1:h.IsListIter n l1 i
 i2:h.IsListIter (n+1) l2 i
 i3:h.IsListIter (n+2) l3 i
 h1:h.IsList l1 xs
 h2:h.IsList l2 ys
 h3:h.IsList l3 zs
 nt:l1<n
 nu:l2<n
 zy:l3<n
def Z3.keep{n g j l:Nat}{xs m p:ae D}{i:Nat}{d:D}{f:Bool}{h h':aZ}(Z:Z3 n g j l xs m p i d f h)(k:∀b o,b<=n+5->h.get? b=O o->h'.get? b=O o):Z3 n g j l xs m p i d f h':=by have q:=Z.nt;have r:=Z.nu;have s:=Z.zy;exact#v[k _ _ ∅ Z.z,k _ _ ∅ Z.ti,(let #v[a,b,c,e]:=Z.to;#v[a,b,c,k _ _ ∅ e]),Z.i1.at λo e=>k _ o ∅ e,Z.i2.at λo e=>k _ o ∅ e,Z.i3.at λo e=>k _ o ∅ e,Z.h1.at λo e=>k _ o ∅ e,Z.h2.at λo e=>k _ o ∅ e,Z.h3.at λo e=>k _ o ∅ e,q,r,s]
section
variable{bW:cx}{w:bR}{A:cQ}{E:D->au->Prop}{s:au}
def DY{T:U}{a d c x:D}{k:Nat}{b:Unit->au->Prop}(e:j3 s.heap T a d c)(h:∀h',h'.get? T=O {cls:=.type "tuple",data:=.seq ((#[a,d,c]:ae D).setIfInBounds k x)}->l9 T s.heap h'->b () {s with heap:=h'}):aG (aU bW w) A (va T (·.setIfInBounds k x)) b E s:=by refine sy e I (h _ ?_ (pb ..));rw[mf _ e I];simp[iS]
def X6{n ak al am:Nat}{xs U V:ae D}{x k v:D}{i:Nat}{H:D->au->Prop}(Z:Z3 n ak al am xs U V i .none ax s.heap)(aI:xs[i]? =O x)(aJ:U[i]? =O k)(aH:V[i]? =O v)(aE:∀h',Z3 n ak al am xs U V (i+1) (eI s.heap.objs.size) ax h'->j3 h' s.heap.objs.size x k v->h'.objs.size=s.heap.objs.size+1->(∀c o,(c<n\/n+5<c)->s.heap.get? c=O o->h'.get? c=O o)->H (.ref s.heap.objs.size) {s with heap:=h'}):aG (aU bW w) A (Builtin.«zip.__next__» #v[[.ref (n+5)],[]]) (λar s'=>∃v,ar=.done (.ret v)/\H v s') E s:=by(have an:=Z.nt;have ao:=Z.nu;have ap:=Z.zy;obtain⟨a,b,c,aF⟩:=Z.to;show aG _ _ (mv (.ref (n+5)) 2>>=_) _ _ _;refine av (iz Z.z I (x:=.bool ax) I ?_);show aG _ _ (mv (.ref (n+5)) 3>>=_) _ _ _;refine av (iz Z.z I (x:=.ref (n+3)) I ?_);refine av (ly Z.ti I ?_);show aG _ _ (mw (.ref (n+5))>>=_) _ _ _;refine av ?_;unfold mw;refine av (iz Z.z I (x:=.none) I (aV ?_));simp only[hZ];refine av (Fg ?_);refine av (iz Z.z I (x:=.ref (n+4)) I ?_);refine av (vb Z.z (by simp) λas S f=>?_);replace S:nr as (n+5) (n+3) (n+4) .ellipsis ax:=S;refine av ?_;simp only[rZ,List.zipIdx_nil,sg,qJ];refine av (av (Fh ?_));show aG _ _ (mx (.ref n)>>=_) _ _ _;refine av (pk (Z.i1.extBut f.extBut g) (Z.h1.extBut f.extBut g) aI λaw aL h=>aV ?_);have X:j3 aw (n+4) a b c:=h.extBut _ _ g (f.extBut _ _ g aF);refine av (ly X I ?_);refine av (DY X λay N j=>?_);replace N:j3 ay (n+4) x b c:=N;refine av (A3 (aV ?_));refine av (av (Fh ?_));show aG _ _ (mx (.ref (n+1))>>=_) _ _ _;refine av (pk (((Z.i2.extBut f.extBut g).extBut h.extBut g).extBut j.extBut g) (((Z.h2.extBut f.extBut g).extBut h.extBut g).extBut j.extBut g) aJ λaz aN m=>aV ?_);have Y:j3 az (n+4) x b c:=m.extBut _ _ g N;refine av (ly Y I ?_);refine av (DY Y λaA P p=>?_);replace P:j3 aA (n+4) x k c:=P;refine av (A3 (aV ?_));refine av (av (Fh ?_));show aG _ _ (mx (.ref (n+2))>>=_) _ _ _;refine av (pk (((((Z.i3.extBut f.extBut g).extBut h.extBut g).extBut j.extBut g).extBut m.extBut g).extBut p.extBut g) (((((Z.h3.extBut f.extBut g).extBut h.extBut g).extBut j.extBut g).extBut m.extBut g).extBut p.extBut g) aH λaC aO r=>aV ?_);have ac:j3 aC (n+4) x k c:=r.extBut _ _ g P;refine av (ly ac I ?_);refine av (DY ac λd B t=>?_);replace B:j3 d (n+4) x k v:=B;refine av (A3 (aV (aV ?_)));refine av (ly B I ?_);refine av (Fi ?_);have ad:d.objs.size=s.heap.objs.size:=by rw[t.1,r.1,p.1,m.1,j.1,h.1,f.1]);(have aq:∀b o,b≠n+5->b≠n+4->b≠n->b≠n+1->b≠n+2->s.heap.get? b=O o->d.get? b=O o:=λb o l u J K L e=>t.extBut _ _ u (r.extBut _ _ L (p.extBut _ _ u (m.extBut _ _ K (j.extBut _ _ u (h.extBut _ _ J (f.extBut _ _ l e))))));have ag:nr d (n+5) (n+3) (n+4) .ellipsis ax:=t.extBut _ _ g (r.extBut _ _ g (p.extBut _ _ g (m.extBut _ _ g (j.extBut _ _ g (h.extBut _ _ g S)))));have ah:n+5<d.objs.size:=cJ ag;show aG _ _ (PX (.ref (n+5)) (.ref d.objs.size)>>=_) _ _ _;refine av ?_;unfold PX;have aK:nr (d.push {cls:=.type "tuple",data:=.seq #[x,k,v]}) (n+5) (n+3) (n+4) .ellipsis ax:=dd _ ag;refine av (vb aK (by simp) λaD T R=>?_);replace T:nr aD (n+5) (n+3) (n+4) (eI d.objs.size) ax:=T;refine vb T (by simp) λq C Q=>?_;replace C:nr q (n+5) (n+3) (n+4) (eI d.objs.size) ax:=C;have z:∀b o,b≠n+5->d.get? b=O o->q.get? b=O o:=λb o l e=>Q.extBut _ _ l (R.extBut _ _ l (dd _ e));have W:j3 q d.objs.size x k v:=Q.extBut _ _ (ma ah) (R.extBut _ _ (ma ah) (eo _ rfl));have af:q.objs.size=d.objs.size+1:=by rw[Q.1,R.1,gw]);rw[ad]at C W af;refine aV #v[_,I,?_];show H (.ref d.objs.size) _;rw[ad];have y:∀b o,b≠n+5->b≠n+4->b≠n->b≠n+1->b≠n+2->s.heap.get? b=O o->q.get? b=O o:=λb o l u J K L e=>z b o l (aq b o l u J K L e);refine aE q #v[C,y _ _ g g g g g Z.ti,#v[x,k,v,z _ _ g B],?_,?_,?_,Z.h1.at λo e=>y _ o g g g g g e,Z.h2.at λo e=>y _ o g g g g g e,Z.h3.at λo e=>y _ o g g g g g e,an,ao,ap] W af λb o _ e=>y b o g g g g g e;(exact(((((aL.extBut j.extBut g).extBut m.extBut g).extBut p.extBut g).extBut r.extBut g).extBut t.extBut g).at λo e=>z _ o g e);(exact(((aN.extBut p.extBut g).extBut r.extBut g).extBut t.extBut g).at λo e=>z _ o g e);exact(aO.extBut t.extBut g).at λo e=>z _ o g e
def MR{n q r t:Nat}{xs u v:ae D}{i:Nat}{f:Nat}{H:a9}{h:Bool}{aH:ae D->gg Fin}{R:Fin->au->Prop}(Z:Z3 n q r t xs u v i (eI f) h s.heap)(B:s.heap.get? f=O H)(J:n+5<f){m C:gg Fin}(l:∀h',Z3 n q r t xs u v i (eI f) ai h'->l9 (n+5) s.heap h'->aG (aU bW w) A m R E {s with heap:=h'}):aG (aU bW w) A (mw (.ref (n+5))>>=λb=>if b=ai then C else m) R E s:=by
 have x:=Z.nt;have y:=Z.nu;have z:=Z.zy;refine av ?_;unfold mw;refine av (iz Z.z I (x:=eI f) I ?_);show aG _ _ (loadIfAlive ((f:Int).toNat)>>=_) _ _ _;rw[jj];refine av (PY B ?_);simp only[PZ,ka,iO];refine av (iz Z.z I (x:=.bool h) I ?_);cases h with
 |true=>rw[aD (show¬((ji ai !=ji ai)=ai)from d8)];refine aV ?_;rw[aD d8];exact l s.heap Z (Fj _ _)
 |false=>rw[aI (show(ji ax !=ji ai)=ai from I)];refine av (vb Z.z (by simp) λj k p=>?_);replace k:nr j (n+5) (n+3) (n+4) (eI f) ai:=k;refine aV ?_;rw[aD d8];have d:∀b o,b≠n+5->s.heap.get? b=O o->j.get? b=O o:=λb o c e=>p.extBut _ _ c e;exact l j #v[k,d _ _ g Z.ti,(let #v[a,b,c,e]:=Z.to;#v[a,b,c,d _ _ g e]),Z.i1.at λo e=>d _ o g e,Z.i2.at λo e=>d _ o g e,Z.i3.at λo e=>d _ o g e,Z.h1.at λo e=>d _ o g e,Z.h2.at λo e=>d _ o g e,Z.h3.at λo e=>d _ o g e,x,y,z] p
def X7{n H J K:Nat}{xs t u:ae D}{x k v:D}{i:Nat}{p:Nat}{al:a9}{T:Bool}{r:D->au->Prop}(Z:Z3 n H J K xs t u i (eI p) T s.heap)(X:s.heap.get? p=O al)(Y:n+5<p)(ad:xs[i]? =O x)(af:t[i]? =O k)(ac:u[i]? =O v)(W:∀h',Z3 n H J K xs t u (i+1) (eI p) ai h'->j3 h' s.heap.objs.size x k v->h'.objs.size=s.heap.objs.size+1->(∀c o,(c<n\/n+5<c)->s.heap.get? c=O o->h'.get? c=O o)->r (.ref s.heap.objs.size) {s with heap:=h'}):aG (aU bW w) A (Builtin.«zip.__next__» #v[[.ref (n+5)],[]]) (λU s'=>∃v,U=.done (.ret v)/\r v s') E s:=by
 have L:=Z.nt;have N:=Z.nu;have P:=Z.zy;show aG _ _ (mv (.ref (n+5)) 2>>=_) _ _ _;refine av (iz Z.z I (x:=.bool ax) I ?_);show aG _ _ (mv (.ref (n+5)) 3>>=_) _ _ _;refine av (iz Z.z I (x:=.ref (n+3)) I ?_);refine av (ly Z.ti I ?_);show aG _ _ (mw (.ref (n+5))>>=λb=>if b=ai then _ else _) _ _ _;refine MR (aH:=λ_=>pure default) Z X Y λV d z=>?_;simp only[A4,sg,qJ];refine av (av (av (hG ?_)));show aG _ _ (mx (.ref n)>>=_) _ _ _;refine av (pk d.i1 d.h1 ad λ_ ag l=>aV (aV ?_));refine av (av (hG ?_));show aG _ _ (mx (.ref (n+1))>>=_) _ _ _;refine av (pk (d.i2.extBut l.extBut g) (d.h2.extBut l.extBut g) af λ_ ah m=>aV (aV ?_));refine av (av (hG ?_));show aG _ _ (mx (.ref (n+2))>>=_) _ _ _;refine av (pk ((d.i3.extBut l.extBut g).extBut m.extBut g) ((d.h3.extBut l.extBut g).extBut m.extBut g) ac λf ak q=>aV (aV (aV ?_)));refine av (Fi (aV #v[_,I,?_]) (by show 3<=bu;rw[bZ];decide));have B:f.objs.size=s.heap.objs.size:=by rw[q.1,m.1,l.1,z.1]
 have h:∀b o,f.get? b=O o->(f.push {cls:=.type "tuple",data:=.seq #[x,k,v]}).get? b=O o:=λb o e=>dd _ e;have j:∀b o,b≠n->b≠n+1->b≠n+2->V.get? b=O o->f.get? b=O o:=λb o Q R S e=>q.extBut _ _ S (m.extBut _ _ R (l.extBut _ _ Q e));have y:j3 (f.push {cls:=.type "tuple",data:=.seq #[x,k,v]}) f.objs.size x k v:=eo _ rfl;have C:(f.push {cls:=.type "tuple",data:=.seq #[x,k,v]}).objs.size=f.objs.size+1:=gw ..;show r (.ref f.objs.size) {s with heap:=f.push {cls:=.type "tuple",data:=.seq #[x,k,v]} };rw[B]at y C;rw[B];refine W _ #v[h _ _ (j _ _ g g g d.z),h _ _ (j _ _ g g g d.ti),(let #v[a,b,c,e]:=d.to;#v[a,b,c,h _ _ (j _ _ g g g e)]),?_,?_,?_,d.h1.at λo e=>h _ o (j _ o g g g e),d.h2.at λo e=>h _ o (j _ o g g g e),d.h3.at λo e=>h _ o (j _ o g g g e),L,N,P] y C λb o _ e=>h _ _ (j _ _ g g g (z.extBut _ _ g e))
 ·exact((ag.extBut m.extBut g).extBut q.extBut g).at λo e=>h _ o e
 ·exact(ah.extBut q.extBut g).at λo e=>h _ o e
 ·exact ak.at λo e=>h _ o e
def X8{n x y z:Nat}{xs C H:ae D}{i:Nat}{a:Nat}{B:a9}{j:Bool}{f:Fin->au->Prop}(r:A.handled=aj)(Z:Z3 n x y z xs C H i (eI a) j s.heap)(m:s.heap.get? a=O B)(p:n+5<a)(v:xs[i]? =aj)(l:∀h' e,(∀c o,(c<n\/n+5<c)->s.heap.get? c=O o->h'.get? c=O o)->(∃o,h'.get? e=O o/\o.cls=.type "StopIteration")->E (.ref e) {s with heap:=h'}):aG (aU bW w) A (Builtin.«zip.__next__» #v[[.ref (n+5)],[]]) f E s:=by show aG _ _ (mv (.ref (n+5)) 2>>=_) _ _ _;refine av (iz Z.z I (x:=.bool ax) I ?_);show aG _ _ (mv (.ref (n+5)) 3>>=_) _ _ _;refine av (iz Z.z I (x:=.ref (n+3)) I ?_);refine av (ly Z.ti I ?_);show aG _ _ (mw (.ref (n+5))>>=λd=>if d=ai then _ else _) _ _ _;refine MR (aH:=λ_=>pure default) Z m p λ_ b t=>?_;simp only[A4,sg,qJ];refine av (av (av (hG ?_)));show aG _ _ (mx (.ref n)>>=_) _ _ _;exact av (P0 r b.i1 b.h1 v λk e u q=>l k e (λd o _ h=>u _ _ g (t.extBut _ _ g h)) q)
end
abbrev IsT(h:aZ)(T:U)(vs:ae D):Prop:=h.get? T=O {cls:=.type "tuple",data:=.seq vs}
structure ux(prog:cx)(w:bR)(z lo m:Nat)(item:Nat->ae D)(uy:aZ->Prop)(rK:Nat->Nat->Bool->aZ->Prop):Prop where
 lt:lo<=z
 obj:∀h,uy h->∃o,h.get? z=O o/\o.cls=.type "zip"
 first:∀(A:cQ)(E:D->au->Prop)(s:au)(Q:ab D->au->Prop),uy s.heap->(∀h',rK 1 s.heap.objs.size ax h'->IsT h' s.heap.objs.size (item 0)->h'.objs.size=s.heap.objs.size+1->(∀c o,(c<lo\/z<c)->s.heap.get? c=O o->h'.get? c=O o)->Q (O (.ref s.heap.objs.size)) {s with heap:=h'})->aG (aU prog w) A (fP (.ref z)) Q E s
 later:∀(A:cQ)(E:D->au->Prop)(s:au)(Q:ab D->au->Prop)(i T0:Nat)(o0:a9)(f:Bool),i<m->rK i T0 f s.heap->s.heap.get? T0=O o0->z<T0->(∀h',rK (i+1) T0 ai h'->IsT h' s.heap.objs.size (item i)->h'.objs.size=s.heap.objs.size+1->(∀c o,(c<lo\/z<c)->s.heap.get? c=O o->h'.get? c=O o)->Q (O (.ref s.heap.objs.size)) {s with heap:=h'})->aG (aU prog w) A (fP (.ref z)) Q E s
 done:∀(A:cQ)(E:D->au->Prop)(s:au)(Q:ab D->au->Prop)(T0:Nat)(o0:a9)(f:Bool),A.handled=aj->rK m T0 f s.heap->s.heap.get? T0=O o0->z<T0->(∀h',(∀c o,(c<lo\/z<c)->s.heap.get? c=O o->h'.get? c=O o)->Q aj {s with heap:=h'})->aG (aU prog w) A (fP (.ref z)) Q E s
 zz:∀h h',uy h->(∀b o,b<=z->h.get? b=O o->h'.get? b=O o)->uy h'
 DZ:∀i T f h h',rK i T f h->(∀b o,b<=z->h.get? b=O o->h'.get? b=O o)->rK i T f h'
 iter:∀(A:cQ)(E:D->au->Prop)(s:au)(Q:D->au->Prop),uy s.heap->Q (.ref z) s->aG (aU prog w) A (nK (.ref z)) Q E s
def X9(c S:Nat)(a:aZ->Prop)(b:Nat->Nat->Bool->aZ->Prop)(i:Nat)(h:aZ):Prop:=(i=0/\a h)\/∃T f o,b i T f h/\h.get? T=O o/\c<T/\S<T/\0<i
section
variable{bW:cx}{w:bR}{A:cQ}{s:au}{R:uV->au->Prop}{z lo m:Nat}{gN:Nat->ae D}{pA:aZ->Prop}{sJ:Nat->Nat->Bool->aZ->Prop}
def X_(K:ux bW w z lo m gN pA sJ){S:Nat}(ar:A.handled=aj)(E:z<S)(aH:1<=m)(aI:m<=bu)(ad:D){l:aZ}(ao:∀(h':aZ)(tk:Nat)(aE:ae D)(c:Nat)(d:aa U),(∀b o,b≠S->(b<lo\/z<b)->l.get? b=O o->h'.get? b=O o)->h'.get? S=O {cls:=.type "list",dict:=aj,data:=.seq aE c,slots:= #[]}->d.length=m->(∀(j:Nat)(a:U),d[j]? =O a->IsT h' a (gN j)/\S<a)->d.Nodup->aE.toList=d.map cP->R (.ok (.ret ad)) {s with heap:=h',toks:=tk}):∀(k i:Nat)(h:aZ)(tk c:Nat)(aE:ae D)(d:aa U),m-i=k->i<=m->X9 z S pA sJ i h->(∀b o,b≠S->(b<lo\/z<b)->l.get? b=O o->h.get? b=O o)->h.get? S=O {cls:=.type "list",dict:=aj,data:=.seq aE c,slots:= #[]}->aE.toList=d.map cP->d.length=i->(∀(j:Nat)(a:U),d[j]? =O a->IsT h a (gN j)/\S<a)->d.Nodup->kP (aU bW w) A (.builtin "list.extend.loop" #v[[.ref S,.ref z,ad],[]]) R {s with heap:=h,toks:=tk}:=by have aF:=K.lt;intro k;induction k with|zero=>((intro i h tk c aE d ay as ac Y L P C J Z;have aw:i=m:=by lia);(subst aw;rcases ac with⟨e,_⟩|⟨T,f,o,y,t,q,N,_⟩);(lia);refine ml P1 ?_;rw[nW A5 _];show aG _ A.in1 (fP (.ref z)>>=_) _ _ _;refine av (K.done A.in1 _ {s with heap:=h,toks:=tk} _ T o f ar y t q λh' X=>?_);refine aV (ao h' tk aE c d (λb o l x e=>X b o x (Y b o l x e)) (X S _ (.inr E) L) C (λj a n=>?_) Z P);obtain⟨V,r⟩:=J j a n;exact⟨X a _ (.inr (AD E r)) V,r⟩)|succ k aA=>(intro i h tk c aE d ay as ac Y L P C J Z;have ak:i<m:=by lia);(have al:aE.size=i:=(by rw[<-e9,P,aq,C]);have B:S<h.objs.size:=cJ L;have aD:S≠h.objs.size:=er B;refine ml P1 ?_;rw[nW A5 _];show aG _ A.in1 (fP (.ref z)>>=_) _ _ _;have ag:∀(h':aZ)(T:Nat)(f:Bool),sJ (i+1) T f h'->(∃o,h'.get? T=O o)->z<T->S<T->IsT h' h.objs.size (gN i)->h'.objs.size=h.objs.size+1->(∀c o,(c<lo\/z<c)->h.get? c=O o->h'.get? c=O o)->aG (aU bW w) A.in1 (va S (·.push (cP h.objs.size))>>=λ_=>qC (.builtin "list.extend.loop" #v[[.ref S,.ref z,ad],[]])) (λam s'=>match am with|.done f=>R (.ok f) s'|.again af=>af.quiet=ai/\kP (aU bW w) A af R s') (λe s'=>R (.error e) s') {s with heap:=h',toks:=tk}:=by intro h' T f y #v[aC,t] q N v Q p;have ah:=p S _ (.inr E) L;have H:∀b o,b≠S->h'.get? b=O o->(h'.update S (iS (·.push (cP h.objs.size)))).get? b=O o:=λb o u e=>(se _ _ (Ne.symm u)).trans e;refine av ?_;refine sy ah I (aV #v[qN A5 _,aA (i+1) _ tk _ (aE.push (cP h.objs.size)) (d++ [h.objs.size]) ∅ ak (.inr #v[T,f,aC,K.DZ _ _ _ _ _ y λb o u e=>H b o g e,H _ _ g t,q,N,by lia]) (λb o l x e=>H b o l (p b o x (Y b o l x e))) (mf _ ah I) (by rw[A6,P,dY];rfl) (by rw[cV,C];rfl) (λj b n=>?_) ?_]) (by rw[al];lia) (by show(aE.push (cP h.objs.size)).size<=bu+1;rw[Array.size_push,al];lia);(rcases Es j d.length with l|l|l;(rw[il l]at n;obtain⟨V,r⟩:=J j b n;exact#v[H b _ (ma r) (p b _ (.inr (AD E r)) V),r]);((subst l;have u:h.objs.size=b:=by simpa using n);subst u;rw[C];exact#v[H _ _ (ma B) v,B]);have az:(d++ [h.objs.size])[j]? =aj:=gK (by rw[cV,iM];lia);rw[az]at n;cases n);refine hB.mpr #v[Z,by simp,λa ap b u=>?_];rw[c_.mp u];obtain⟨j,n⟩:=nY.mp ap;exact er (cJ (J j a n).1));rcases ac with⟨e,an⟩|⟨T,f,o,y,t,q,N,_⟩;(subst e;refine av (K.first A.in1 _ {s with heap:=h,toks:=tk} _ an λh' W v Q p=>?_);exact ag h' h.objs.size ax W #v[_,v] (AD E B) B v Q p);refine av (K.later A.in1 _ {s with heap:=h,toks:=tk} _ i T o f ak y t q λh' W v Q p=>?_);exact ag h' T ai W #v[o,p _ _ (.inr q) t] q N v Q p
def Ya:Ak (.type "zip") "__len__"=pure aj:=by rw[A7,A8];kernel_rfl
def Yb:Ak (.type "zip") "__length_hint__"=pure aj:=by rw[A7,A8];kernel_rfl
def Yc(K:ux bW w z lo m gN pA sJ)(H:A.handled=aj)(d:pA s.heap)(L:1<=m)(N:m<=bu)(S:Nat)(Q:z<S)(k:D)(t:Nat)(p:s.heap.get? S=O {cls:=.type "list",data:=.seq #[] t})(B:∀(h':aZ)(tk:Nat)(aE:ae D)(c:Nat)(i:aa U),(∀b o,b≠S->(b<lo\/z<b)->s.heap.get? b=O o->h'.get? b=O o)->h'.get? S=O {cls:=.type "list",dict:=aj,data:=.seq aE c,slots:= #[]}->i.length=m->(∀(j:Nat)(a:U),i[j]? =O a->IsT h' a (gN j)/\S<a)->i.Nodup->aE.toList=i.map cP->R (.ok (.ret k)) {s with heap:=h',toks:=tk}):aG (aU bW w) A.in1 (qQ (.ref S) (.ref z) k) (λu s'=>match u with|.done f=>R (.ok f) s'|.again n=>n.quiet=ai/\kP (aU bW w) A n R s') (λe s'=>R (.error e) s') s:=by(have T:=K.lt;have l:∀ {s':au},pA s'.heap->s'.TypeIs (.ref z) "zip":=λE=>K.obj _ E;unfold qQ;refine av (Fl (T:="zip") (l d) ?_);have P: @Ne U S z:=g;have v:P2 (.ref S) (.ref z)=ax:=by simp[P2,P]);(have x:(iP "zip"==iP "list")=ax:=by decide);(have y:(iP "zip"==iP "tuple")=ax:=by decide);simp only[v,x,y,z6,ka,iO];refine av (K.iter _ _ _ _ d ?_);refine av (hG ?_);unfold Fm;refine av (AF (l d) Ya ?_);show aG _ A.in1 (specialOf (cP z) (lu "__length_hint__")>>=_) _ _ _;refine av (AF (l d) Yb ?_);refine aV ?_;show aG _ A.in1 (nM "list.extend.makes-room">>=λ_=>abc (.ref S)>>=λ_=>qC (.builtin "list.extend.loop" #v[[.ref S,.ref z,k],[]])) _ _ _;refine av (Fg ?_);refine av ?_;show aG _ A.in1 (va S (·.push .none)>>=λ_=>va S (·.pop)) _ _ _;refine av (sy p I ?_);have q:=mf (iS (·.push kN)) p I;refine sy (hz:=by seq_fits) q I ?_;have C:=mf (iS (·.pop)) q I;have r:∀b o,b≠S->s.heap.get? b=O o->((s.heap.update S (iS (·.push kN))).update S (iS (·.pop))).get? b=O o:=λb o h e=>(se _ _ (Ne.symm h)).trans ((se _ _ (Ne.symm h)).trans e);refine aV #v[qN A5 _,?_];exact X_ K H Q L N k B m 0 _ s.toks _ #[] [] (Eu _) (dc _) (.inl #v[I,K.zz _ _ d λb o h e=>r b o g e]) (λb o h _ e=>r b o h e) C I I (λj a J=>by simp at J) .nil
end
section
variable{bW:cx}{w:bR}{A:cQ}{E:D->au->Prop}{s:au}{z lo m:Nat}{gN:Nat->ae D}{pA:aZ->Prop}{sJ:Nat->Nat->Bool->aZ->Prop}
def MS{i:D->au->Prop}(K:ux bW w z lo m gN pA sJ)(x:A.handled=aj)(k:pA s.heap)(C:1<=m)(H:m<=bu)(r:∀(h':aZ)(tk:Nat)(aE:ae D)(c:Nat)(d:aa U),(∀b o,(b<lo\/z<b)->s.heap.get? b=O o->h'.get? b=O o)->h'.get? s.heap.objs.size=O {cls:=.type "list",dict:=aj,data:=.seq aE c,slots:= #[]}->d.length=m->(∀(j:Nat)(a:U),d[j]? =O a->IsT h' a (gN j)/\s.heap.objs.size<a)->d.Nodup->aE.toList=d.map cP->i (.ref s.heap.objs.size) {s with heap:=h',toks:=tk}):aG (aU bW w) A (call (.type "list") [.ref z]) i E s:=by obtain⟨_,L,_⟩:=K.obj _ k;have N:(z:Nat)<s.heap.objs.size:=cJ L;refine callType_codes (Q₁:=λl Q=>l=.ref s.heap.objs.size/\Q={s with heap:=s.heap.push {cls:=.type "list",data:=.seq #[]} }) PySem.F.called_list (PySem.F.typeCall_list_1 _) PySem.F.entry_list_init (code_list_new _ #v[I,I]) λl _ p=>?_;obtain⟨rfl,rfl⟩:=p;have f:(s.heap.push {cls:=.type "list",data:=.seq #[]}).get? s.heap.objs.size=O {cls:=.type "list",data:=.seq #[]}:=eo _ rfl;refine#v[#v[_,f,I],PySem.F.args_list_init_2 _ _,?_];show aG _ _ (do let P<-Fn (.ref s.heap.objs.size);abd (.ref s.heap.objs.size) (λ_=> #[]);letGo P.toList.reverse;qQ (.ref s.heap.objs.size) (.ref z) .none) _ _ _;refine av ?_;unfold Fn;refine av (ly f I (aV ?_));show aG _ _ (va s.heap.objs.size (λ_=> #[])>>=λ_=>letGo (#[]:ae D).toList.reverse>>=λ_=>qQ (.ref s.heap.objs.size) (.ref z) .none) _ _ _;refine av (sy f I ?_);have u:=mf (iS (λ_=>(#[]:ae D))) f I;have n:∀b o,b≠s.heap.objs.size->s.heap.get? b=O o->((s.heap.push {cls:=.type "list",data:=.seq #[]}).update s.heap.objs.size (iS (λ_=>(#[]:ae D)))).get? b=O o:=λb o h e=>(se _ _ (Ne.symm h)).trans (dd _ e);refine av (A3 ?_);refine Yc (A:=A.in1) K x (K.zz _ _ k λb o h e=>n b o g e) C H s.heap.objs.size N .none _ u λh' tk aE c d y t B q J v=>?_;exact#v[I,r h' tk aE c d (λb o h e=>y b o (er (cJ e)) h (n b o (er (cJ e)) e)) t B q J v]
end
def Yd{R:cx}{w:bR}{n y z B m:Nat}{xs b c:ae D}(V:1<=m)(H:xs.size=m)(S:b.size=m)(U:c.size=m):ux R w (n+5) n m (λi=> #[xs.getD i .none,b.getD i .none,c.getD i .none]) (λh=>Z3 n y z B xs b c 0 .none ax h) (λi T f h=>Z3 n y z B xs b c i (eI T) f h)where
 lt:=by lia
 obj:=λh Z=>#v[_,Z.z,I]
 first:=λA E s g Z d=>by
  have a:s.TypeIs (.ref (n+5)) "zip":=#v[_,Z.z,I];have r:xs[0]? =O (xs.getD 0 .none):=by simp[jk (show 0<xs.size by lia),fR,show 0<xs.size by lia]
  have t:b[0]? =O (b.getD 0 .none):=(by simp[jk (show 0<b.size by lia),fR,show 0<b.size by lia]);have u:c[0]? =O (c.getD 0 .none):=by simp[jk (show 0<c.size by lia),fR,show 0<c.size by lia]
  unfold fP;exact av (mi (mj (name:=lu "__next__") a jn (hJ jn a sF (X6 Z r t u λh' j l p q=>aV (d h' j l p q)) (sG _))))
 later:=λA E s g i C Q f _ Z v x d=>by
  have a:s.TypeIs (.ref (n+5)) "zip":=#v[_,Z.z,I];have r:xs[i]? =O (xs.getD i .none):=by simp[jk (show i<xs.size by lia),fR,show i<xs.size by lia]
  have t:b[i]? =O (b.getD i .none):=(by simp[jk (show i<b.size by lia),fR,show i<b.size by lia]);have u:c[i]? =O (c.getD i .none):=by simp[jk (show i<c.size by lia),fR,show i<c.size by lia]
  unfold fP;exact av (mi (mj (name:=lu "__next__") a jn (hJ jn a sF (X7 Z v x r t u λh' j l p q=>aV (d h' j l p q)) (sG _))))
 done:=λA E s g C Q f L Z v x d=>by have a:s.TypeIs (.ref (n+5)) "zip":=#v[_,Z.z,I];unfold fP;refine av (mi (mj (name:=lu "__next__") a jn (hJ jn a sF (X8 L Z v x (by simp[H]) λh' e N K=>?_) (sG _))));obtain⟨o,P,J⟩:=K;refine av (u4 (T:="StopIteration") (b:=ai) #v[o,P,J] AN ?_);exact aV (d _ N)
 zz:=λh h' Z k=>Z.keep k
 DZ:=λi T f h h' Z k=>Z.keep k
 iter:=λA E s g Z h=>by have a:s.TypeIs (.ref (n+5)) "zip":=#v[_,Z.z,I];refine so a A9 (hJ A9 a P4 ?_ (P5 _));show aG _ _ (ret (.ref (n+5))) _ _ s;exact aV #v[_,I,"zip",_,a,jn.lookup,h]
abbrev zA(h:aZ)(a:U):aZ:=h.push {cls:=.type "list_iterator",data:=.fields #[.ref a,.int 0 0]}
abbrev zB(h:aZ)(a b:U):aZ:=(zA h a).push {cls:=.type "list_iterator",data:=.fields #[.ref b,.int 0 0]}
abbrev uz(h:aZ)(a b c:U):aZ:=(zB h a b).push {cls:=.type "list_iterator",data:=.fields #[.ref c,.int 0 0]}
abbrev zC(h:aZ)(a b c:U):aZ:=(uz h a b c).push {cls:=.type "tuple",data:=.seq #[.ref h.objs.size,.ref (zA h a).objs.size,.ref (zB h a b).objs.size]}
abbrev zD(h:aZ)(a b c:U):aZ:=(zC h a b c).push {cls:=.type "tuple",data:=.seq #[.none,.none,.none]}
abbrev nv(h:aZ)(a b c:U):aZ:=(zD h a b c).push {cls:=.type "zip",data:=.fields #[.none,.bool ax,.bool ax,.ref (uz h a b c).objs.size,.ref (zC h a b c).objs.size]}
def Ye(a b c:U)(xs f i:ae D):Meets (Builtin.«zip.__new__» #v[[.type "zip",.ref a,.ref b,.ref c],[]]) (λ_ R s=>s.heap.IsList a xs/\s.heap.IsList b f/\s.heap.IsList c i/\R (.ok (.ret (.ref (zD s.heap a b c).objs.size))) {s with heap:=nv s.heap a b c}):=.of_wp λ_ w A R s h=>by obtain⟨e,g,d,tk,os⟩:=s;obtain⟨m,n,o,h⟩:=h;have p:=sub_zip;have j:Fo (Fp #v[e,g,d,tk,os]) a xs:=m;have k:Fo (Fp #v[e.push {cls:=.type "list_iterator",data:=.fields #[.ref a,.int 0 0]},g,d,tk,os]) b f:=Fq n _;have l:Fo (Fp #v[(e.push {cls:=.type "list_iterator",data:=.fields #[.ref a,.int 0 0]}).push {cls:=.type "list_iterator",data:=.fields #[.ref b,.int 0 0]},g,d,tk,os]) c i:=Fq (Fq o _) _;wp_walk using r8 j,r8 k,r8 l;exact#v[_,I,h]
def Yf(a b c:D):checkTypeCall "zip" #v[[a,b,c],[]]=pure ():=by kernel_rfl
def Yg(a b c:D):P6 "zip.__new__" #v[[.type "zip",a,b,c],[]]=pure ():=by kernel_rfl
def Yh(a b c d:D):qL "object.__init__" #v[[a,b,c,d],[]]:=by unfold qL;rw[Fs (id:="object.__init__") (n:=['_','_','t','i','n','i','_','_']) (o:=['t','c','e','j','b','o']) (by kernel_rfl) F.owner_object];kernel_rfl
section
variable{bW:cx}{w:bR}{A:cQ}{E:D->au->Prop}{s:au}
def Yi{a b d:Nat}{xs n u:ae D}{v:D->au->Prop}(k:s.heap.IsList a xs)(l:s.heap.IsList b n)(m:s.heap.IsList d u)(h:∀h',Z3 s.heap.objs.size a b d xs n u 0 .none ax h'->(∀c o,s.heap.get? c=O o->h'.get? c=O o)->v (.ref (s.heap.objs.size+5)) {s with heap:=h'}):aG (aU bW w) A (call (.type "zip") [.ref a,.ref b,.ref d]) v E s:=by(have H:(a:Nat)<s.heap.objs.size:=by obtain⟨_,e,_⟩:=k;exact cJ e);(have J:(b:Nat)<s.heap.objs.size:=by obtain⟨_,e,_⟩:=l;exact cJ e);(have K:(d:Nat)<s.heap.objs.size:=by obtain⟨_,e,_⟩:=m;exact cJ e);(refine callType_new F.called_zip (by decide) (Yf _ _ _) (Yg _ _ _) (λN=>Yh N _ _ _) F.entry_zip_new (Ye a b d xs n u) #v[k,l,m,?_];have p:(zA s.heap a).objs.size=s.heap.objs.size+1:=gw ..;have q:(zB s.heap a b).objs.size=s.heap.objs.size+2:=by rw[gw,p]);(have r:(uz s.heap a b d).objs.size=s.heap.objs.size+3:=by rw[gw,q]);(have t:(zC s.heap a b d).objs.size=s.heap.objs.size+4:=by rw[gw,r]);(have C:(zD s.heap a b d).objs.size=s.heap.objs.size+5:=by rw[gw,t]);have i:∀f o,(uz s.heap a b d).get? f=O o->(nv s.heap a b d).get? f=O o:=λf o e=>dd _ (dd _ (dd _ e));have j:(nv s.heap a b d).get? (zD s.heap a b d).objs.size=O _:=eo _ rfl;have B:(nv s.heap a b d).get? (zC s.heap a b d).objs.size=O _:=dd _ (eo _ rfl);have z:(nv s.heap a b d).get? (uz s.heap a b d).objs.size=O _:=dd _ (dd _ (eo _ rfl));have y:(nv s.heap a b d).get? (zB s.heap a b).objs.size=O _:=i _ _ (eo _ rfl);have x:(nv s.heap a b d).get? (zA s.heap a).objs.size=O _:=i _ _ (dd _ (eo _ rfl));have L:(nv s.heap a b d).get? s.heap.objs.size=O _:=i _ _ (dd _ (dd _ (eo _ rfl)));have g:∀f o,s.heap.get? f=O o->(nv s.heap a b d).get? f=O o:=λf o e=>i _ _ (dd _ (dd _ (dd _ e)));show _/\_;rw[r,t,C]at j;rw[t]at B;rw[p,q,r]at z;rw[q]at y;rw[p]at x;rw[C];exact#v[#v[_,j,I],h _ #v[j,z,#v[_,_,_,B],#v[_,L,I,I],#v[_,x,I,I],#v[_,y,I,I],k.at λo e=>g _ o e,l.at λo e=>g _ o e,m.at λo e=>g _ o e,H,J,K] g]
end
structure Z2(n l1 l2:Nat)(xs ys:ae D)(i:Nat)(f0:D)(f1:Bool)(h:aZ):Prop where
 z:nr h (n+4) (n+2) (n+3) f0 f1
 ti:vc h (n+2) (.ref n) (.ref (n+1))
 to:∃a b,vc h (n+3) a b
 i1:h.IsListIter n l1 i
 i2:h.IsListIter (n+1) l2 i
 h1:h.IsList l1 xs
 h2:h.IsList l2 ys
 nt:l1<n
 nu:l2<n
def Z2.keep{n f g:Nat}{xs j:ae D}{i:Nat}{c:D}{d:Bool}{h h':aZ}(Z:Z2 n f g xs j i c d h)(k:∀b o,b<=n+4->h.get? b=O o->h'.get? b=O o):Z2 n f g xs j i c d h':=by have l:=Z.nt;have m:=Z.nu;exact#v[k _ _ ∅ Z.z,k _ _ ∅ Z.ti,(let #v[a,b,e]:=Z.to;#v[a,b,k _ _ ∅ e]),Z.i1.at λo e=>k _ o ∅ e,Z.i2.at λo e=>k _ o ∅ e,Z.h1.at λo e=>k _ o ∅ e,Z.h2.at λo e=>k _ o ∅ e,l,m]
section
variable{bW:cx}{w:bR}{A:cQ}{E:D->au->Prop}{s:au}
def Yj{n m p:Nat}{xs h:ae D}{x f:D}{i:Nat}{j:D->au->Prop}(Z:Z2 n m p xs h i .none ax s.heap)(P:xs[i]? =O x)(Q:h[i]? =O f)(L:∀h',Z2 n m p xs h (i+1) (eI s.heap.objs.size) ax h'->vc h' s.heap.objs.size x f->h'.objs.size=s.heap.objs.size+1->(∀c o,(c<n\/n+4<c)->s.heap.get? c=O o->h'.get? c=O o)->j (.ref s.heap.objs.size) {s with heap:=h'}):aG (aU bW w) A (Builtin.«zip.__next__» #v[[.ref (n+4)],[]]) (λK s'=>∃v,K=.done (.ret v)/\j v s') E s:=by have k:=Z.nt;have l:=Z.nu;obtain⟨a,b,N⟩:=Z.to;refine zip_next_item (zipApart_new k l) Z.z Z.ti N Z.i1 Z.i2 Z.h1 Z.h2 P Q λh' q r t u y z B=>?_;have d:∀b o,b≠n+4->b≠n+3->b≠n->b≠n+1->s.heap.get? b=O o->h'.get? b=O o:=λb o C H I J e=>B b o C H I J e;exact L h' #v[q,d _ _ g g g g Z.ti,#v[x,f,r],t,u,Z.h1.at λo e=>d _ o g g g g e,Z.h2.at λo e=>d _ o g g g g e,k,l] y z λb o _ e=>d b o g g g g e
def MT{n q r:Nat}{xs t:ae D}{i:Nat}{d:Nat}{z:a9}{h:Bool}{R:Fin->au->Prop}(Z:Z2 n q r xs t i (eI d) h s.heap)(x:s.heap.get? d=O z)(B:n+4<d){m y:gg Fin}(l:∀h',Z2 n q r xs t i (eI d) ai h'->l9 (n+4) s.heap h'->aG (aU bW w) A m R E {s with heap:=h'}):aG (aU bW w) A (mw (.ref (n+4))>>=λb=>if b=ai then y else m) R E s:=by
 have u:=Z.nt;have v:=Z.nu;refine av ?_;unfold mw;refine av (iz Z.z I (x:=eI d) I ?_);show aG _ _ (loadIfAlive ((d:Int).toNat)>>=_) _ _ _;rw[jj];refine av (PY x ?_);simp only[PZ,ka,iO];refine av (iz Z.z I (x:=.bool h) I ?_);cases h with
 |true=>rw[aD (show¬((ji ai !=ji ai)=ai)from d8)];refine aV ?_;rw[aD d8];exact l s.heap Z (Fj _ _)
 |false=>rw[aI (show(ji ax !=ji ai)=ai from I)];refine av (vb Z.z (by simp) λj k p=>?_);replace k:nr j (n+4) (n+2) (n+3) (eI d) ai:=k;refine aV ?_;rw[aD d8];have f:∀b o,b≠n+4->s.heap.get? b=O o->j.get? b=O o:=λb o c e=>p.extBut _ _ c e;exact l j #v[k,f _ _ g Z.ti,(let #v[a,b,e]:=Z.to;#v[a,b,f _ _ g e]),Z.i1.at λo e=>f _ o g e,Z.i2.at λo e=>f _ o g e,Z.h1.at λo e=>f _ o g e,Z.h2.at λo e=>f _ o g e,u,v] p
def Yk{n B C:Nat}{xs r:ae D}{x j:D}{i:Nat}{l:Nat}{Y:a9}{N:Bool}{p:D->au->Prop}(Z:Z2 n B C xs r i (eI l) N s.heap)(S:s.heap.get? l=O Y)(T:n+4<l)(U:xs[i]? =O x)(V:r[i]? =O j)(R:∀h',Z2 n B C xs r (i+1) (eI l) ai h'->vc h' s.heap.objs.size x j->h'.objs.size=s.heap.objs.size+1->(∀c o,(c<n\/n+4<c)->s.heap.get? c=O o->h'.get? c=O o)->p (.ref s.heap.objs.size) {s with heap:=h'}):aG (aU bW w) A (Builtin.«zip.__next__» #v[[.ref (n+4)],[]]) (λP s'=>∃v,P=.done (.ret v)/\p v s') E s:=by
 have H:=Z.nt;have J:=Z.nu;show aG _ _ (mv (.ref (n+4)) 2>>=_) _ _ _;refine av (iz Z.z I (x:=.bool ax) I ?_);show aG _ _ (mv (.ref (n+4)) 3>>=_) _ _ _;refine av (iz Z.z I (x:=.ref (n+2)) I ?_);refine av (ly Z.ti I ?_);show aG _ _ (mw (.ref (n+4))>>=λb=>if b=ai then _ else _) _ _ _;refine MT Z S T λQ f u=>?_;simp only[A4,sg,qJ];refine av (av (av (hG ?_)));show aG _ _ (mx (.ref n)>>=_) _ _ _;refine av (pk f.i1 f.h1 U λ_ W m=>aV (aV ?_));refine av (av (hG ?_));show aG _ _ (mx (.ref (n+1))>>=_) _ _ _;refine av (pk (f.i2.extBut m.extBut g) (f.h2.extBut m.extBut g) V λd X q=>aV (aV (aV ?_)));refine av (Fi (aV #v[_,I,?_]) (by show 2<=bu;rw[bZ];decide));have y:d.objs.size=s.heap.objs.size:=by rw[q.1,m.1,u.1]
 have h:∀b o,d.get? b=O o->(d.push {cls:=.type "tuple",data:=.seq #[x,j]}).get? b=O o:=λb o e=>dd _ e;have k:∀b o,b≠n->b≠n+1->Q.get? b=O o->d.get? b=O o:=λb o K L e=>q.extBut _ _ L (m.extBut _ _ K e);have t:vc (d.push {cls:=.type "tuple",data:=.seq #[x,j]}) d.objs.size x j:=eo _ rfl;have z:(d.push {cls:=.type "tuple",data:=.seq #[x,j]}).objs.size=d.objs.size+1:=gw ..;show p (.ref d.objs.size) {s with heap:=d.push {cls:=.type "tuple",data:=.seq #[x,j]} };rw[y]at t z;rw[y];refine R _ #v[h _ _ (k _ _ g g f.z),h _ _ (k _ _ g g f.ti),(let #v[a,b,e]:=f.to;#v[a,b,h _ _ (k _ _ g g e)]),?_,?_,f.h1.at λo e=>h _ o (k _ o g g e),f.h2.at λo e=>h _ o (k _ o g g e),H,J] t z λb o _ e=>h _ _ (k _ _ g g (u.extBut _ _ g e))
 ·exact(W.extBut q.extBut g).at λo e=>h _ o e
 ·exact X.at λo e=>h _ o e
def Yl{n x y:Nat}{xs B:ae D}{i:Nat}{a:Nat}{z:a9}{j:Bool}{f:Fin->au->Prop}(r:A.handled=aj)(Z:Z2 n x y xs B i (eI a) j s.heap)(m:s.heap.get? a=O z)(p:n+4<a)(v:xs[i]? =aj)(l:∀h' e,(∀c o,(c<n\/n+4<c)->s.heap.get? c=O o->h'.get? c=O o)->(∃o,h'.get? e=O o/\o.cls=.type "StopIteration")->E (.ref e) {s with heap:=h'}):aG (aU bW w) A (Builtin.«zip.__next__» #v[[.ref (n+4)],[]]) f E s:=by show aG _ _ (mv (.ref (n+4)) 2>>=_) _ _ _;refine av (iz Z.z I (x:=.bool ax) I ?_);show aG _ _ (mv (.ref (n+4)) 3>>=_) _ _ _;refine av (iz Z.z I (x:=.ref (n+2)) I ?_);refine av (ly Z.ti I ?_);show aG _ _ (mw (.ref (n+4))>>=λd=>if d=ai then _ else _) _ _ _;refine MT Z m p λ_ b t=>?_;simp only[A4,sg,qJ];refine av (av (av (hG ?_)));show aG _ _ (mx (.ref n)>>=_) _ _ _;exact av (P0 r b.i1 b.h1 v λk e u q=>l k e (λd o _ h=>u _ _ g (t.extBut _ _ g h)) q)
end
def Ym{N:cx}{w:bR}{n v x m:Nat}{xs b:ae D}(Q:1<=m)(z:xs.size=m)(P:b.size=m):ux N w (n+4) n m (λi=> #[xs.getD i .none,b.getD i .none]) (λh=>Z2 n v x xs b 0 .none ax h) (λi T f h=>Z2 n v x xs b i (eI T) f h)where
 lt:=by lia
 obj:=λh Z=>#v[_,Z.z,I]
 first:=λA E s d Z c=>by
  have a:s.TypeIs (.ref (n+4)) "zip":=#v[_,Z.z,I];have q:xs[0]? =O (xs.getD 0 .none):=by simp[jk (show 0<xs.size by lia),fR,show 0<xs.size by lia]
  have r:b[0]? =O (b.getD 0 .none):=(by simp[jk (show 0<b.size by lia),fR,show 0<b.size by lia]);unfold fP;exact av (mi (mj (name:=lu "__next__") a jn (hJ jn a sF (Yj Z q r λh' g j l p=>aV (c h' g j l p)) (sG _))))
 later:=λA E s d i y L f _ Z t u c=>by
  have a:s.TypeIs (.ref (n+4)) "zip":=#v[_,Z.z,I];have q:xs[i]? =O (xs.getD i .none):=by simp[jk (show i<xs.size by lia),fR,show i<xs.size by lia]
  have r:b[i]? =O (b.getD i .none):=(by simp[jk (show i<b.size by lia),fR,show i<b.size by lia]);unfold fP;exact av (mi (mj (name:=lu "__next__") a jn (hJ jn a sF (Yk Z t u q r λh' g j l p=>aV (c h' g j l p)) (sG _))))
 done:=λA E s d y L f H Z t u c=>by have a:s.TypeIs (.ref (n+4)) "zip":=#v[_,Z.z,I];unfold fP;refine av (mi (mj (name:=lu "__next__") a jn (hJ jn a sF (Yl H Z t u (by simp[z]) λh' e J C=>?_) (sG _))));obtain⟨o,K,B⟩:=C;refine av (u4 (T:="StopIteration") (b:=ai) #v[o,K,B] AN ?_);exact aV (c _ J)
 zz:=λh h' Z k=>Z.keep k
 DZ:=λi T f h h' Z k=>Z.keep k
 iter:=λA E s d Z h=>by have a:s.TypeIs (.ref (n+4)) "zip":=#v[_,Z.z,I];refine so a A9 (hJ A9 a P4 ?_ (P5 _));show aG _ _ (ret (.ref (n+4))) _ _ s;exact aV #v[_,I,"zip",_,a,jn.lookup,h]
end oK
namespace L2
section
variable{X:Cx}{af:aa (U×a9)}{σ:aa (ab V)}{H H':Hp}{s:au}{h':aZ}
def Inv.Yn{t':Nat}(f:Inv X af σ H s)(k:∀b u,s.heap.get? b=O u->h'.get? b=O u)(g:∀b,b<s.heap.objs.size->H' b=H b)(i:∀a o,s.heap.objs.size<=a->H' a=O o->eT X.prog X.w H' h' a o):Inv X af σ H' {s with heap:=h',toks:=t'}:=by(have c:∀b o,H b=O o->H' b=O o:=λb o e=>by rw[g b (f.bA.lt e)];exact e);refine f.un #v[λb o e _ _ _=>k b o e,λb o e _ _ _=>#v[o.slots,k b o e],λb o e n _=>by rw[g b (cJ e)];exact n,λb o e _=>#v[o,k b o e],λb xs e=>c b _ e,λb o u e=>c b _ e,λb ps e=>#v[#[],by rw[Array.append_empty];exact c b _ e]] λa o e=>?_;by_cases h:a<s.heap.objs.size;(rw[g a h]at e;exact(f.bA a o e).lG (λb u _ d=>k b u d) (λb d=>c b _ d) λb xs d=>c b _ d);exact i a o (Ft h) e
end
def qf(H:Hp)(b:aa U)(l:aa (aa V)):Hp:=λa=>match (b.zip l).find? (λp=>p.1==a)with
 |some p=>O (.tup p.2)
 |none=>H a
def Yo{H:Hp}{b:aa U}{l:aa (aa V)}(o:b.Nodup){j:Nat}{a:U}{x:aa V}(d:b[j]? =O a)(f:l[j]? =O x):qf H b l a=O (.tup x):=by unfold qf;cases e:(b.zip l).find? (λp=>p.1==a)with|none=>have:=hX.mp e (a,x) (dJ (by rw[A2];exact⟨d,f⟩));simp at this|some p=>(have m:=nC e;have n:=nB e;obtain⟨i,c⟩:=nY.mp n;rw[A2]at c;have g:p.1=a:=by simpa using m);have k:i=j:=jz o (x:=a) (by rw[c.1,g]) d;subst k;have h:p.2=x:=aM (c.2.symm.trans f);simp only[h]
def MU{H:Hp}{b:aa U}{l:aa (aa V)}{a:U}(h:a∉b):qf H b l a=H a:=by(unfold qf;have e:(b.zip l).find? (λp=>p.1==a)=aj:=by(rw[hX];intro p d;have:=(Ai d).1;intro e;have c:p.1=a:=by simpa using e);exact h (c▸this));rw[e]
def Yp{H:Hp}{b:aa U}{l:aa (aa V)}{a:U}{o:HO}(h:qf H b l a=O o):H a=O o\/∃(j:Nat)(x:aa V),b[j]? =O a/\l[j]? =O x/\o=.tup x:=by unfold qf at h;cases e:(b.zip l).find? (λp=>p.1==a)with|none=>rw[e]at h;exact .inl h|some p=>(rw[e]at h;have f:=nC e;have g:=nB e;obtain⟨i,c⟩:=nY.mp g;rw[A2]at c;have d:p.1=a:=by simpa using f);exact .inr #v[i,p.2,by rw[c.1,d],c.2,(aM h).symm]
def MV:qv "list"=O (.type "list"):=by decide+kernel
def MW(K:bj)(n:Nat)(h:TA):TE:=λj H g=>h j H λvs H1=>∃(d:aa U)(e:aa (aa V))(m:Nat),vs=d.map aT/\d.length=n/\e.length=n/\(∀(i:Nat)(a:U)(xs:aa V),d[i]? =O a->e[i]? =O xs->aA K H1 a xs/\xs.length=m)/\1<=m/\m<1000/\∀(b:Hp)(c:U)(f:aa U),Z H1 b->H1 c=aR->b c=O (.lst (f.map aT))->fq b f ((bQ m).map λi=>e.map λxs=>xs.getD i .non)->g (.ref c) b
def MX{X:Cx}{af:aa (U×a9)}{H:St}{H1:Hp}{g:au}{y:VK}(r:Inv X af H H1 g){S m:Nat}{h':aZ}{tk c:Nat}{aE:ae D}{d:aa U}{gN:Nat->ae D}{l:aa (aa V)}(v:g.heap.objs.size<=S)(Q:∀b o,g.heap.get? b=O o->h'.get? b=O o)(K:h'.get? S=O {cls:=.type "list",dict:=aj,data:=.seq aE c,slots:= #[]})(A:d.length=m)(u:∀(j:Nat)(a:U),d[j]? =O a->oK.IsT h' a (gN j)/\S<a)(T:d.Nodup)(P:aE.toList=d.map cP)(R:l.length=m)(p:m<1000)(ad:∀(j:Nat)(x:aa V),l[j]? =O x->J x (gN j).toList/\x.length<1000)(ah:∀(k:Hp)(q:U)(E:aa U),Z H1 k->H1 q=aR->k q=O (.lst (E.map aT))->fq k E l->y (.ref q) k):EP X af H y (.ref S) {g with heap:=h',toks:=tk}:=by(have al:=bZ;have L:S∉d:=λp=>by obtain⟨j,w⟩:=nY.mp p;exact kb _ (u j S w).2);(have C:∀b,g.heap.objs.size<=b->H1 b=aR:=λb f=>r.bA.fresh f;have B:∀b,b<g.heap.objs.size->b∉d:=λb f p=>by obtain⟨j,w⟩:=nY.mp p;have:=(u j b w).2;lia);refine#v[.ref S,Y (qf H1 d l) S (.lst (d.map aT)),r.Yn Q (λb f=>?_) (λa o N e=>?_),I,ah _ S d ?_ (C S v) az #v[by rw[A,R],λi t x n s=>?_]];(rw[aw (er (gc f v)),MU (B b f)]);(by_cases z:a=S;(subst z;rw[az]at e;cases e;refine#v[by rw[aq,A];lia,d.map cP,c,?_,?_];((have:∀h:aa U,J (h.map aT) (h.map cP):=λh=>by induction h with|nil=>exact .nil|cons am h ag=>exact .cons I ag);exact this d);rw[K,<-P]);(rw[aw z]at e;rcases Yp e with e|⟨j,x,n,s,rfl⟩);(rw[C a N]at e;cases e);obtain⟨ak,_⟩:=ad j x s;refine#v[by lia,(gN j).toList,ak,_,(u j a n).1,I,0,?_];simp);(intro b o e;have f:=r.bA.lt e;rw[aw (er (gc f v)),MU (B b f)];exact e);have W:t∈d:=dJ n;have ac:t≠S:=λe=>L (by rw[<-e];exact W);rw[aw ac,Yo T n s]
def uA{xs:aa V}{aH:aa D}(r:J xs aH){i:Nat}(h:i<xs.length):RelV (xs.getD i .non) (aH.toArray.getD i .none):=by(have b:xs[i]? =O (xs.getD i .non):=by simp[dt,b_ h]);(obtain⟨u,a,d⟩:=r.get b;have e:aH.toArray.getD i .none=u:=by have c:=(cM.mp a).1;have:=(cM.mp a).2;simp[fR,c,this]);rw[e];exact d
def Yq{X:Cx}{f a b:bx}{U:TA}{p y aX n:c7}(av:X.calm=ai)(ay:Gl X "list")(aJ:X.mg "list"=aj)(aw:Gl X "zip")(aH:X.mg "zip"=aj)(ap:PA X [f,a,b] U)(aN:cu [f,a,b] X.env=(ax,bU f X.env)::cu [a,b] X.env:=by rfl)(aL:(fF n (cu [a,b] X.env)).any (·.1)=ax:=by rfl)(J:cu [Fu (.Name "zip" y) [f,a,b] [] n] X.env=[(ax,bU (.Call (.Name "zip" y) [f,a,b] [] n) X.env)]:=by rfl):PE X (.Call (.Name "list" p) [.Call (.Name "zip" y) [f,a,b] [] n] [] aX) (MW X.K 3 U):=by intro af s a8 H _ t h;have ba:=bZ;refine kQ (kZ t ay aJ MV (nL ?_ J I));rw[J];refine nQ ?_;refine kQ (kZ t aw aH Ia (nL (S (ap n af s a8 H _ t h) λus z⟨vs,H1,g,a3,a0⟩=>?_) aN aL));obtain⟨aQ,a4,m,rfl,aG,aP,v,E,aI,aY⟩:=a0;match aQ,aG,a4,aP with| [P,R,T],_,[xs,A,B],_=>(obtain⟨ac,ah⟩:=v 0 P xs I I;obtain⟨ad,ak⟩:=v 1 R A I I;obtain⟨ag,al⟩:=v 2 T B I I;obtain⟨K,V,aS,_⟩:=g.list ac;obtain⟨L,W,aV,_⟩:=g.list ad;obtain⟨N,Y,aW,_⟩:=g.list ag;have aO:us=[cP P,cP R,cP T]:=by cases a3 with|cons r q=>cases q with|cons a1 q=>cases q with|cons a2 q=>cases q;cases r;cases a1;cases a2;rfl);(subst aO;refine oK.Yi aS.isList aV.isList aW.isList λu Z aC=>qG ?_;have a5:K.toArray.size=m:=by rw[dB,<-V.length,ah]);(have a6:L.toArray.size=m:=(by rw[dB,<-W.length,ak]);have a7:N.toArray.size=m:=by rw[dB,<-Y.length,al]);(refine oK.MS (s:={z with heap:=u}) (oK.Yd E a5 a6 a7) (g.ok.hd av) Z E ∅ λh' tk aE c _ aA ao aD an aK ar=>?_;have aF:z.heap.objs.size<=u.objs.size:=by have:(z.heap.objs.size+5:Nat)<u.objs.size:=cJ Z.z;lia);(refine MX g (gN:=λi=> #[K.toArray.getD i .none,L.toArray.getD i .none,N.toArray.getD i .none]) aF (λC o e=>aA C o (.inl (cJ e)) (aC C o e)) ao aD an aK ar (l:=(bQ m).map λi=>[xs.getD i .non,A.getD i .non,B.getD i .non]) (by rw[aq,et]) aI (λj x k=>?_) aY;obtain⟨d,w,rfl⟩:∃d,(bQ m)[j]? =O d/\x=[xs.getD d .non,A.getD d .non,B.getD d .non]:=by rw[bN]at k;cases e:(bQ m)[j]?with|none=>rw[e]at k;cases k|some d=>rw[e]at k;exact#v[d,I,(aM k).symm]);have az:j<m:=(by have:=(cM.mp w).1;rw[et]at this;exact this);rw[h9 az]at w;have am:=aM w;subst am;exact#v[.cons (uA V ∅) (.cons (uA W ∅) (.cons (uA Y ∅) .nil)),by show 3<1000;decide]
def Yr{X:Cx}{b a:bx}{T:TA}{p B aW g:c7}(ap:X.calm=ai)(av:Gl X "list")(aI:X.mg "list"=aj)(ar:Gl X "zip")(aG:X.mg "zip"=aj)(an:PA X [b,a] T)(aL:cu [b,a] X.env=(ax,bU b X.env)::cu [a] X.env:=by rfl)(aK:(fF g (cu [a] X.env)).any (·.1)=ax:=by rfl)(R:cu [Fu (.Name "zip" B) [b,a] [] g] X.env=[(ax,bU (.Call (.Name "zip" B) [b,a] [] g) X.env)]:=by rfl):PE X (.Call (.Name "list" p) [.Call (.Name "zip" B) [b,a] [] g] [] aW) (MW X.K 2 T):=by intro af s a5 H _ u h;have a6:=bZ;refine kQ (kZ u av aI MV (nL ?_ R I));rw[R];refine nQ ?_;refine kQ (kZ u ar aG Ia (nL (S (an g af s a5 H _ u h) λus k⟨vs,H1,n,a1,aY⟩=>?_) aL aK));obtain⟨aV,a2,m,rfl,aF,aO,N,P,aH,aX⟩:=aY;match aV,aF,a2,aO with| [q,t],_,[xs,K],_=>(obtain⟨W,ac⟩:=N 0 q xs I I;obtain⟨Y,ad⟩:=N 1 t K I I;obtain⟨z,U,C,_⟩:=n.list W;obtain⟨A,V,E,_⟩:=n.list Y;have aN:us=[cP q,cP t]:=by cases a1 with|cons r J=>cases J with|cons a0 J=>cases J;cases r;cases a0;rfl);(subst aN;have aQ:(q:Nat)<k.heap.objs.size:=C.lt;have aS:(t:Nat)<k.heap.objs.size:=E.lt;refine call_zip_2 C.isList E.isList λv aP al am aw ay _ y=>qG ?_;have Z:oK.Z2 k.heap.objs.size q t z.toArray A.toArray 0 .none ax v:=#v[aP,al,#v[_,_,am],aw,ay,C.isList.at λo e=>y _ o e,E.isList.at λo e=>y _ o e,aQ,aS];have a3:z.toArray.size=m:=by rw[dB,<-U.length,ac]);(have a4:A.toArray.size=m:=(by rw[dB,<-V.length,ad]);refine oK.MS (s:={k with heap:=v}) (oK.Ym P a3 a4) (n.ok.hd ap) Z P ∅ λh' tk aE c _ aA ak aC ah aJ ao=>?_;have aD:k.heap.objs.size<=v.objs.size:=by lia);(refine MX n (gN:=λi=> #[z.toArray.getD i .none,A.toArray.getD i .none]) aD (λL o e=>aA L o (.inl (cJ e)) (y L o e)) ak aC ah aJ ao (l:=(bQ m).map λi=>[xs.getD i .non,K.getD i .non]) (by rw[aq,et]) aH (λj x f=>?_) aX;obtain⟨d,w,rfl⟩:∃d,(bQ m)[j]? =O d/\x=[xs.getD d .non,K.getD d .non]:=by rw[bN]at f;cases e:(bQ m)[j]?with|none=>rw[e]at f;cases f|some d=>rw[e]at f;exact#v[d,I,(aM f).symm]);have az:j<m:=(by have:=(cM.mp w).1;rw[et]at this;exact this);rw[h9 az]at w;have ag:=aM w;subst ag;exact#v[.cons (uA U ∅) (.cons (uA V ∅) .nil),by show 2<1000;decide]
def Ys(K:bj):V->aa V->Hp->VK->Prop:=λx vs H c=>∃l b xs a,x=.ref l/\vs=[.ref b]/\H l=O (.lst xs)/\dH K H b a/\xs.length+a.length<=bu/\c .non (Y H l (.lst (xs++a)))
def MY{X:Cx}:tI X "list.extend" (Ys X.K):=by(intro af s _ H x vs v us _ c B A h;obtain⟨l,f,xs,_,rfl,rfl,g,o,_,y⟩:=h;cases B;obtain⟨u,rfl,z⟩:=A.one;cases z;obtain⟨b,aH,n,r,_,e⟩:=c.mS g;obtain⟨d,k,p,_⟩:=c.tuple o;have C:=k.length;obtain⟨w,a,i,_,q⟩:=p;have j:aH.toArray.size+d.toArray.size<=bu:=by rw[dB,dB];lia);(have t:¬(!aH.toArray.isEmpty&&uZ (aH.toArray.size+d.toArray.size))=ai:=by rw[Cd j,OP];exact d8);(have E:l≠f:=λh=>by subst h;rw[e]at a;have:=aM a;subst this;exact absurd i (by intro b;injection b with b;exact absurd b (by decide)));(refine hJ OQ #v[_,e,I] OR ?_ (OS _ _);show aG _ _ (qQ (.ref l) (.ref f) .none) _ _ _;unfold qQ;refine av (Fl (T:="tuple") #v[w,a,i] ?_);have m:(iP "tuple"==iP "tuple")=ai:=by decide);simp only[m,Ob,hZ];refine av ?_;unfold Fn;refine av (ly a q (aV ?_));refine av (listItems_at e I ?_);simp only[t,iO];refine av (listUpdate_at e I ?_ (hsz:=by rw[dB];lia) (hsz2:=by rw[Array.size_append];exact PB j));refine aV #v[_,I,.non,_,c.tJ (iU:=aH++d) g e (by simp) (r.append k) ?_,I,y];rw[cV];lia
end L2
namespace Br
def zE:∀(n:Nat)(l:aa Nat),l.length=4*n->∀k,k<n->(dC l)[k]? =O (l.getD (4*k) 0,#v[l.getD (4*k+1) 0,l.getD (4*k+2) 0,l.getD (4*k+3) 0])
 |0,l,_,k,b=>absurd b (kM _)
 |n+1,l,h,k,b=>by
  match l,h with
  |a::e::c::d::r,h=>
   have f:r.length=4*n:=(by simp only[cU]at h;lia);show((a,(#v[e,c,d]:e8))::dC r)[k]? =_;cases k with
   |zero=>rfl
   |succ k=>rw[E6,zE n r f k ∅];rfl
  | [],h=>exact absurd h (by simp only[cU,e_];lia)
  | [_],h=>exact absurd h (by simp only[cU,e_];lia)
  | [_,_],h=>exact absurd h (by simp only[cU,e_];lia)
  | [_,_,_],h=>exact absurd h (by simp only[cU,e_];lia)
def zF{l:aa Nat}{n j:Nat}(b:l.length=4*n)(e:j<4)(f:Nat×e8->Nat)(d:∀k,k<n->f (l.getD (4*k) 0,#v[l.getD (4*k+1) 0,l.getD (4*k+2) 0,l.getD (4*k+3) 0])=l.getD (4*k+j) 0):fc (aK l) (O (j:Int)) aj (O 4)=aK ((dC l).map f):=by(unfold fc;rw[cy,b,UM j n e];have h:(dC l).length=n:=by have:=aL.vD l ∅;lia);(apply pj;intro k;have c:((bQ n).map λk=>4*k+j).filterMap (λx=>(aK l)[x]?)=(bQ n).map λk=>aB (l.getD (4*k+j) 0:Nat):=by(have key:∀m,m<=n->((bQ m).map λk=>4*k+j).filterMap (λx=>(aK l)[x]?)=(bQ m).map λk=>aB (l.getD (4*k+j) 0:Nat):=by intro m;induction m with|zero=>intro _;rfl|succ m g=>intro _;rw[uO,dY,uQ,g ∅,dY];congr 1;have:(aK l)[4*m+j]? =O (aB (l.getD (4*m+j) 0:Nat)):=oG ∅;simp[this]);exact key n (bp _));rw[c];unfold aK;rw[ck];by_cases a:k<n;(rw[bN,h9 a,bN,zE n l b k a];show O (aB ((l.getD (4*k+j) 0:Nat):Int))=O (aB ((f _:Nat):Int));rw[d k a]);rw[gK (by rw[aq,et];lia),gK (by rw[aq];lia)]
def iJ(t:Nat)(a:aa (Nat×e8)):bY:={aL.fresh t a with lane:=DM t (a.map λx=>(x.1,x.2.bears))}
def Yt(t:Nat)(a:aa (Nat×e8)):fH (iJ t a)=fH (aL.fresh t a):=by(have e:aL.fb (iJ t a)=aL.fb (aL.fresh t a):=by(unfold aL.fb;have f:((iJ t a).lane.spans.zipIdx.map λ(x:(Nat×Nat)×Nat)=>(x.1.1,max 1 (mu (iJ t a) x.2)))=((aL.fresh t a).lane.spans.zipIdx.map λ(x:(Nat×Nat)×Nat)=>(x.1.1,max 1 (mu (aL.fresh t a) x.2))):=by show((a.map λx=>(x.1,x.2.bears)).zipIdx.map _)=(((a.map λ(x:Nat×e8)=>x.1).map λ(c:Nat)=>(c,1)).zipIdx.map _);rw[ck,P7,P7,ck,ck];rfl);(rw[f];have g:(iJ t a).lane.most=(aL.fresh t a).lane.most:=by show(d_ _ (d_ _ a))=d_ _ (d_ _ a);rw[ck,ck];rfl);show(#v[_,_,_,_,_,_,_,_,_,_,(iJ t a).lane.most]:G)=#v[_,_,_,_,_,_,_,_,_,_,(aL.fresh t a).lane.most];rw[g];rfl);(rw[aL.n3,aL.n3];have b:aL.iE (iJ t a)=aL.iE (aL.fresh t a):=by unfold aL.iE;rw[e]);(have d:aL.h_ (iJ t a)=aL.h_ (aL.fresh t a):=by unfold aL.h_;rw[e];rfl);rw[e,b,d];rfl
def Yu{t:Nat}{a:aa (Nat×e8)}(g:1<=t)(h:t<=20)(S:aL.sR a):aL.Pre (iJ t a):=by(have p:=aL.Bs g h S;have l:=p.lane;have i:(iJ t a).lane.spans.length=a.length:=by show(d_ _ a).length=_;rw[aq]);refine#v[#v[g,h,?_,?_,?_,?_,(by intro c b;cases b),(by intro c b;cases b),(by intro c b;cases b),(by intro c b;cases b),dc _,.nil,(by intro c b;cases b),dc _,zQ _,.nil,?_],p.file,?_,?_,p.posts,I,p.gi,(by intro m j;cases j),p.lE,p.kU];(rw[i];exact S.l1);(rw[i];exact S.vE);(intro x f;obtain⟨e,d,rfl⟩:=bM.mp f;exact#v[(S.rng e d).1,(S.rng e d).2.1]);(intro x f;obtain⟨e,d,rfl⟩:=bM.mp f;exact#v[(S.rng e d).2.2.1,(S.rng e d).2.2.2.1]);(show(d_ _ (d_ _ a)).length=(d_ _ a).length;rw[aq]);(show(d_ _ a).length=(d_ _ a).length;rw[aq,aq]);show(d_ _ (d_ _ a)).length=(d_ _ a).length;rw[aq,aq,aq]
def Yv(l:aa Nat)(t:Nat):∀n:Nat,((((l.map λ(_:Nat)=>((0:Nat),(0:Nat),([]:aa Nat))).zipIdx n).map λ(x:(Nat×Nat×aa Nat)×Nat)=>(#v[t,x.2,x.1.1,x.1.2.1,x.1.2.2]:jm)).filter λ(m:jm)=>decide (0<m.load))=[]:=by induction l with|nil=>intro n;rfl|cons b l a=>intro n;rw[cI,rZ,cI,hC,aD (by simp)];exact a (n+1)
section
def RecAt.but{H g:Hp}{R:RA}{s:cq}{p C dx:U}{l:aa (M×V)}(h:RecAt A H R s)(u:H p=O (.ins C dx l))(n:p≠R.r)(v:R.es=[])(q:∀j o,H j=O o->j≠p->g j=O o):RecAt A g R s:=by(obtain⟨r,t⟩:=h.obj;have k:∀ {x:U}{o:HO},H x=O o->(∀C dx l,o≠ .ins C dx l)->g x=O o:=λm d=>q _ _ m λe=>by rw[e,u]at m;exact d _ _ _ (aM m).symm);exact#v[#v[r,q _ _ t n.symm],k h.pt (λ_ _ _ b=>nomatch b),k h.en (λ_ _ _ b=>nomatch b),k h.po (λ_ _ _ b=>nomatch b),h.gp,h.e4,h.hT,λi a d c f=>k (h.part i a d c f) (λ_ _ _ b=>nomatch b),λi a x c f=>(by rw[v]at c;cases c),λi a d c f=>k (h.post i a d c f) (λ_ _ _ b=>nomatch b),h.nd]
def b9.but{H b:Hp}{L:LA}{s:G}{d:aa VD}{p C dx:U}{g:aa (M×V)}(h:b9 A H L s d)(k:H p=O (.ins C dx g))(n:p≠L.l)(m:L.vs=[])(l:∃xs,H L.sz=O (.lst xs))(f:∀a o,H a=O o->a≠p->b a=O o):b9 A b L s d:=by(refine h.kept λa o i j=>f a o i λe=>?_;subst e;rcases j with e|e|e);(exact n e);((have:∃xs,H a=O (.lst xs):=by(simp only[LL,bL,ff,gv]at e;rcases e with e|e|e|e|e|e|e|e);(exact e▸l);(exact#v[_,e▸h.cs]);(exact#v[_,e▸h.lim]);(exact#v[_,e▸h.bX]);(exact#v[_,e▸h.wt]);(exact#v[_,e▸h.q0]);(exact#v[_,e▸h.q1]);exact#v[_,e▸h.cr]);obtain⟨xs,c⟩:=this;rw[k]at c;cases c);rw[m]at e;cases e
inductive Yw(A:bF)(vs:aa V)(H:Hp)(Q:VK)(E:XK):Prop|mk(p a c:U)(d n:Nat)(l:aa Nat)(_:vs=[.ref p,.int d,.ref c])(_:H p=O (.ins A.aF.C a []))(_:H c=O (.lst (aK l)))(_:1<=d)(_:d<=20)(_:l.length=4*n)(_:aL.sR (dC l))(_:∀(H':Hp)(B':BA),B'.b=p->e7 A H' B' (fH (aL.fresh d (dC l))).1->(∀x o,H x=O o->x≠p->H' x=O o)->(∀x,BF B' x->x=p\/H x=aR)->Q .non H')
def Yx:bf P w K mg aJ bq 7 A.aF.dj A.aF.ee ["self","turn","spans"] (Yw A):=by(refine T.aF.ft.fn.bJ JX (λH vs _ E bv h=>?_);obtain⟨p,dx,sp,aH,n,l,rfl,br,bw,dj,dk,aC,S,k⟩:=h;have dL:=bZ;have bD:=JX.nd;have av:(dC l).length=n:=by have:=aL.vD l ∅;lia);(have dc:1<=n:=by rw[<-av];exact S.l1);(have dd:n<=12:=by rw[<-av];exact S.vE);(refine#v[_,ay (mO (i:=3) bD I (cB I) (wH aY (k5 bS) tG (k5 (bG T.m_)))) (ay (mO (i:=4) bD I (cB I) (wH aY (k5 bS) tG (k5 (bG T.m_)))) (ay (mO (i:=5) bD I (cB I) (wH aY (k5 bS) tG (k5 (bG T.m_)))) (ay (mO (i:=6) bD I (cB I) (wH aY (k5 bS) tG (k5 (bG T.m_)))) (ay (cF a7 (lL T.aC.c.k9 ((Xp T).to 5) bv I T.aC.c.at_ T.aC.ft.bi .nil g_ (aQ (Yq I I T.Dn I T.LQ (dm (pv 4) (cv (pv 5) (pv 6)))))) I) (ay (cF a7 (lL T.ak.c.k9 ((MI T).to 5) bv I T.ak.c.at_ T.ak.ft.bi .nil g_ (dm aS (cv (pv 3) (pv 4)))) I) (ay (cF a7 (SF T.dZ.c.k9 ((Wy T).to 5) bv I T.dZ.c.at_ T.dZ.ft.bi .nil g_) I) (ay (cF a7 mK I) (ay (cF a7 mK I) (cR (e0 (cD a7 T.aF.c T.aF.yR (DX T) bv))))))))))),?_];refine#v[_,I,_,I,sp,_,I,aA.of bw,(by intro c;cases c),λaO cA=>?_];have ds:fc (aK l) (O 0) aj (O 4)=aK ((dC l).map λx=>x.1):=zF aC (by decide) (λx=>x.1) (λk bX=>rfl);have du:fc (aK l) (O 1) aj (O 4)=aK ((dC l).map λx=>x.2.bears):=zF aC (by decide) (λx=>x.2.bears) (λk bX=>rfl);have dv:fc (aK l) (O 2) aj (O 4)=aK ((dC l).map λx=>x.2.costs):=zF aC (by decide) (λx=>x.2.costs) (λk bX=>rfl);have dy:fc (aK l) (O 3) aj (O 4)=aK ((dC l).map λx=>x.2.grows):=zF aC (by decide) (λx=>x.2.grows) (λk bX=>rfl);have al:=Z.new (o:=cT (fc (aK l) (O 0) aj (O 4))) cA;have cp:(Y H aO (.lst (fc (aK l) (O 0) aj (O 4)))) aO=O (.lst (aK ((dC l).map λx=>x.1))):=by rw[az,ds]);(generalize dB:Y H aO (.lst (fc (aK l) (O 0) aj (O 4)))=ca at al cp⊢;refine#v[_,I,_,I,sp,_,I,aA.of (al _ _ bw),(by intro c;cases c),λac cC=>?_];have aP:=Z.new (o:=cT (fc (aK l) (O 1) aj (O 4))) cC;have bo:(Y ca ac (.lst (fc (aK l) (O 1) aj (O 4)))) ac=O (.lst (aK ((dC l).map λx=>x.2.bears))):=by rw[az,du]);(generalize dD:Y ca ac (.lst (fc (aK l) (O 1) aj (O 4)))=cc at aP bo⊢;refine#v[_,I,_,I,sp,_,I,aA.of (aP _ _ (al _ _ bw)),(by intro c;cases c),λbg c8=>?_];have aV:=Z.new (o:=cT (fc (aK l) (O 2) aj (O 4))) c8;have bp:(Y cc bg (.lst (fc (aK l) (O 2) aj (O 4)))) bg=O (.lst (aK ((dC l).map λx=>x.2.costs))):=by rw[az,dv]);(generalize dF:Y cc bg (.lst (fc (aK l) (O 2) aj (O 4)))=cd at aV bp⊢;refine#v[_,I,_,I,sp,_,I,aA.of (aV _ _ (aP _ _ (al _ _ bw))),(by intro c;cases c),λbh c_=>?_];have aW:=Z.new (o:=cT (fc (aK l) (O 3) aj (O 4))) c_;have cr:(Y cd bh (.lst (fc (aK l) (O 3) aj (O 4)))) bh=O (.lst (aK ((dC l).map λx=>x.2.grows))):=by rw[az,dy]);(generalize dG:Y cd bh (.lst (fc (aK l) (O 3) aj (O 4)))=cS at aW cr⊢;have ad:Z H cS:=(al.trans aP).trans (aV.trans aW);have a6:=aW _ _ (aV _ _ (aP _ _ cp));have as:=aW _ _ (aV _ _ bo);have c9:=aW _ _ bp;have c6:H ac=aR:=al.free cC;have b7:∀f:Nat×e8->Nat,(aK ((dC l).map f)).length=n:=λf=>by rw[cy,aq,av]);refine#v[[ac,bg,bh],[aK ((dC l).map λx=>x.2.bears),aK ((dC l).map λx=>x.2.costs),aK ((dC l).map λx=>x.2.grows)],n,I,I,I,?_,dc,by lia,λX b_ cK J a2 bO cH=>?_];(intro i a xs y z;match i,y,z with|0,y,z=>cases y;cases z;exact#v[aA.of as,b7 _]|1,y,z=>cases y;cases z;exact#v[aA.of c9,b7 _]|2,y,z=>cases y;cases z;exact#v[aA.of cr,b7 _]|(i+3),y,z=>simp at y);(have am:=ad.trans J;have c3:H b_=aR:=ad.free a2;intro r bi be b6 _;have dg:cK.length=((dC l).map λx=>x.2).length:=by rw[cH.1,aq,aq,et,av]);refine#v[r,bi,b_,cK,(dC l).map λx=>x.2,I,az,?_,dg,?_,λah R a1 cn _ bP cw cZ=>#v[I,?_]];(rw[aw (bI bO be),aw (bI bO b6)];exact bO);((intro i a j y C;have bW:i<n:=by have:=(cM.mp C).1;rw[aq,av]at this;exact this);(have b3:=cH.2 i a _ y (by rw[bN,h9 bW];rfl);rw[aw (bI b3 be),aw (bI b3 b6),b3];rw[bN,zE n l aC i bW]at C;have cY:=aM C;have bK:∀f:Nat×e8->Nat,(aK ((dC l).map f)).getD i .non=aB ((f (l.getD (4*i) 0,#v[l.getD (4*i+1) 0,l.getD (4*i+2) 0,l.getD (4*i+3) 0]):Nat):Int):=λf=>by unfold aK;rw[ck,dt,bN,zE n l aC i bW];rfl);show O (HO.tup [(aK ((dC l).map λx=>x.2.bears)).getD i .non,(aK ((dC l).map λx=>x.2.costs)).getD i .non,(aK ((dC l).map λx=>x.2.grows)).getD i .non])=_;rw[bK,bK,bK,<-cY]);(have ch:∀x:U,(Y (Y X bi (.own r)) r (.ins A.aC.C bi [])) x=aR->X x=aR:=λx b=>by by_cases N:x=r;(rw[N,az]at b;cases b);rw[aw N]at b;by_cases V:x=bi;(rw[V,az]at b;cases b);rw[aw V]at b;exact b);(have cg:Z X ah:=Z.made be b6 cZ;have b8:p≠r:=bI (am _ _ br) be;have cE:=cg _ _ (am _ _ br);have a4:=ch _ cw.1;have a5:=ch _ cw.2;have bT:R.es=[]:=Fv (by rw[bP.e4];rfl);have dJ:R.qs=[]:=Fv (by rw[bP.hT];rfl);refine#v[p,_,dx,_,I,cE,T.aF.c.cl,T.aF.fB,(by show 0<1000;decide),?_];have b5:∀q o,ah q=O o->q≠p->(Y ah p (.ins A.aF.C dx (cz "records" (.ref r) []))) q=O o:=λq o af s=>by rw[aw s];exact af);(have bs:(Y ah p (.ins A.aF.C dx (cz "records" (.ref r) []))) p=O (.ins A.aF.C dx [("records",.ref r)]):=by rw[az];rfl);(have aN:RecAt A (Y ah p (.ins A.aF.C dx (cz "records" (.ref r) []))) R {z0 with parts:=(dC l).map λx=>x.2}:=bP.but cE (by rw[a1];exact b8) bT b5;generalize dH:Y ah p (.ins A.aF.C dx (cz "records" (.ref r) []))=u at b5 bs aN⊢;have bn:∀x o,X x=O o->x≠p->u x=O o:=λx o b s=>b5 x o (cg _ _ b) s;have ar:=bn _ _ (J _ _ a6) (bC (J _ _ a6) (am _ _ br) (by intro c;cases c));have c5:=bn _ _ (J _ _ as) (bC (J _ _ as) (am _ _ br) (by intro c;cases c));refine(?_);intro t dl bE cJ _;have an:∀x:U,(Y (Y u dl (.own t)) t (.ins A.ak.C dl [])) x=aR->u x=aR:=λx b=>by by_cases N:x=t;(rw[N,az]at b;cases b);rw[aw N]at b;by_cases V:x=dl;(rw[V,az]at b;cases b);rw[aw V]at b;exact b);(have cj:∀ {x:U}{o:HO},u x=O o->(Y (Y u dl (.own t)) t (.ins A.ak.C dl [])) x=O o:=λb=>by rw[aw (bI b bE),aw (bI b cJ)];exact b);refine#v[t,dl,aO,ac,aH,(dC l).map λx=>(x.1,x.2.bears),I,az,?_,?_,(by rw[aq,av];exact dd),?_,λak L bk bm cm a3 c4 c0=>#v[I,?_]];(rw[cj ar,ck];rfl);(rw[cj c5,ck];rfl);(intro x b;obtain⟨bF,dp,rfl⟩:=bM.mp b;exact(S.rng bF dp).2.1);(have aX:Z u ak:=Z.made bE cJ c0;obtain⟨bA,ba,bB,bb,bc,bd⟩:=c4;replace bA:=an _ bA;replace ba:=an _ ba;replace bB:=an _ bB;replace bb:=an _ bb;replace bc:=an _ bc;replace bd:=an _ bd;have b4:L.vs=[]:=Fv (by rw[a3.b7];rfl);have bt:=aX _ _ bs;have dE:p≠t:=bI bs bE;refine#v[p,_,dx,_,I,bt,T.aF.c.cl,T.aF.gV,(by show 1<1000;decide),?_];have aE:∀q o,ak q=O o->q≠p->(Y ak p (.ins A.aF.C dx (cz "lane" (.ref t) [("records",.ref r)]))) q=O o:=λq o af s=>by rw[aw s];exact af);(have bu:(Y ak p (.ins A.aF.C dx (cz "lane" (.ref t) [("records",.ref r)]))) p=O (.ins A.aF.C dx [("records",.ref r),("lane",.ref t)]):=by rw[az];rfl);(have cf:=(aN.same aX).but bt (by rw[a1];exact b8) bT aE;have b1:ak L.sz=O (.lst (aK ((dC l).map λx=>x.1))):=by rw[bm];exact aX _ _ ar);(have ce:=a3.but bt (by rw[bk];exact dE) b4 #v[_,b1] aE;have cG:=aE _ _ b1 (bC b1 bt (by intro c;cases c));generalize dI:Y ak p (.ins A.aF.C dx (cz "lane" (.ref t) [("records",.ref r)]))=bH at aE bu cf ce cG⊢;intro v cl cI dr _;refine#v[v,cl,I,az,λbJ d ap ag c1=>#v[I,?_]];have a0:Z bH bJ:=Z.made cI dr c1;have a8:=a0 _ _ bu;have dA:p≠v:=bI bu cI;have da:bH d=aR:=by by_cases N:d=v;(rw[N,az]at ag;cases ag);rw[aw N]at ag;by_cases V:d=cl;(rw[V,az]at ag;cases ag);rw[aw V]at ag;exact ag);(refine#v[p,_,dx,_,I,a8,T.aF.c.cl,T.aF.rp,(by show 2<1000;decide),?_];refine#v[p,_,dx,_,I,az,T.aF.c.cl,T.aF.yQ,(by show 3<1000;decide),?_];rw[eS];refine#v[p,_,dx,_,I,az,T.aF.c.cl,T.aF.ua,(by show 4<1000;decide),?_];rw[eS];generalize ct:Y bJ p _=aI;have b0:aI p=O (.ins A.aF.C dx (i9 r t v ax ax)):=by rw[<-ct,az];rfl);(have aF:∀q o,bJ q=O o->q≠p->aI q=O o:=λq o af s=>by rw[<-ct,aw s];exact af);(have cV:=(cf.same a0).but a8 (by rw[a1];exact b8) bT aF;have b2:=a0 _ _ cG;have cU:=(b9.same ce a0).but a8 (by rw[bk];exact dE) b4 #v[_,b2] aF;have dh:=aF _ _ b2 (bC b2 a8 (by intro c;cases c));have cN:fe A aI v d [] (aL.mapOf (iJ aH (dC l))):=by(have cX:aL.mapOf (iJ aH (dC l))=λ_ _=>aj:=by(funext ao dM;unfold aL.mapOf;have:qP (iJ aH (dC l))=[]:=by unfold qP;exact Yv _ _ 0);rw[this];rfl);rw[cX];obtain⟨cW,c2⟩:=ap.obj;exact#v[#v[cW,aF _ _ c2 dA.symm],aF _ _ ap.dO (bC ap.dO a8 (by intro c;cases c)),ap.keys,ap.nd,ap.non,λ_ _ m e=>(by cases e)]);(have W:∀x:U,u x=aR->X x=aR:=λx b=>by cases C:X x with|none=>rfl|some o=>by_cases e:x=p;(rw[e,bs]at b;cases b);rw[bn x o C e]at b;cases b);(have dq:∀x:U,bH x=aR->u x=aR:=λx b=>by cases C:u x with|none=>rfl|some o=>by_cases e:x=p;(rw[e,bu]at b;cases b);rw[aE x o (aX _ _ C) e]at b;cases b);(have af:dP A aI #v[p,L,R,v,d] (iJ aH (dC l)) [] []:=by refine#v[#v[dx,?_],cU,cV,cN,?_,?_,?_];(rw[b0,<-a1,<-bk];rfl);((have aG:∀ {x bF:U}{o:HO},u x=O o->u bF=aR->x≠bF:=λbo bp=>bI bo bp;have df:=aN.pt;have db:=aN.en;have de:=aN.po;intro x b a3;have z:x≠aO/\x≠ac:=by(simp only[bL,ff,gv]at b;rcases b with e|e|e);(rw[e,cn];exact#v[λe=>(by rw[e,a6]at a2;cases a2),λe=>(by rw[e,as]at a2;cases a2)]);(rw[e];exact#v[λe=>(by rw[e,J _ _ a6]at a4;cases a4),λe=>(by rw[e,J _ _ as]at a4;cases a4)]);rw[e];exact#v[λe=>(by rw[e,J _ _ a6]at a5;cases a5),λe=>(by rw[e,J _ _ as]at a5;cases a5)]);(have dn:∃o,u x=O o:=by(simp only[bL,ff,gv]at b;rcases b with e|e|e);(exact#v[_,e▸df]);(exact#v[_,e▸db]);exact#v[_,e▸de]);obtain⟨o,aD⟩:=dn;simp only[LL,bL,ff,gv]at a3;rcases a3 with e|e|e|e|e|e|e|e;(exact z.1 (e.trans bm));(exact aG aD bA e);(exact z.2 (e.trans cm));(exact aG aD ba e);(exact aG aD bB e);(exact aG aD bb e);(exact aG aD bc e);exact aG aD bd e);(rw[dh];show _=O (cT (aK (((dC l).map λx=>(x.1,x.2.bears)).map λx=>x.1)));rw[ck];rfl);show L.sz∉ [L.bX,L.q0,L.q1,L.cr];rw[bm];simp only[bL,ff,gv,hI];exact#v[bI ar ba,bI ar bb,bI ar bc,bI ar bd]);(have B:∀x:U,X x=aR->H x=aR:=λx b=>am.free b;have cs:∀x,BF #v[p,L,R,v,d] x->x=p\/H x=aR:=λx h=>by rcases h with e|(e|e|e)|e|e|e;(exact .inl e);(refine .inr (B _ (W _ ?_));rw[e,show(#v[p,L,R,v,d]:BA).L.l=t from bk];exact bE);((simp only[LL,bL,ff,gv]at e;rcases e with e|e|e|e|e|e|e|e);(exact .inr (by rw[e,bm];exact cA));(exact .inr (B _ (W _ (by rw[e];exact bA))));(exact .inr (by rw[e,cm];exact c6));(exact .inr (B _ (W _ (by rw[e];exact ba))));(exact .inr (B _ (W _ (by rw[e];exact bB))));(exact .inr (B _ (W _ (by rw[e];exact bb))));(exact .inr (B _ (W _ (by rw[e];exact bc))));exact .inr (B _ (W _ (by rw[e];exact bd))));(rw[show(#v[p,L,R,v,d]:BA).L.vs=[]from b4]at e;cases e);(refine .inr (B _ ?_);rw[e,show(#v[p,L,R,v,d]:BA).R.r=r from a1];exact be);((simp only[bL,ff,gv]at e;rcases e with e|e|e);(exact .inr (by rw[e,cn];exact c3));(exact .inr (B _ (by rw[e];exact a4)));exact .inr (B _ (by rw[e];exact a5)));exact .inr (B _ (W _ (dq _ (by rw[e];exact da)))));have co:∀x o,H x=O o->x≠p->aI x=O o:=λx o b s=>aF x o (a0 _ _ (aE x o (aX _ _ (bn x o (am _ _ b) s)) s)) s;refine#v[p,dx,_,I,b0,I,#v[p,L,R,v,d],iJ aH (dC l),I,Yu dj dk S,#v[[],[],af],λcO cL _ ci g e _ _ _=>?_];rw[Yt]at ci;refine k cO cL e ci (λx o b s=>g.fr x o (co x o b s) λj=>?_) λx j=>?_;(rcases cs x j with j|j;(exact s j);rw[b]at j;cases j);rcases g.nw x j with j|j;(exact cs x j);refine .inr ?_;cases C:H x with|none=>rfl|some o=>by_cases e:x=p;(rw[e,b0]at j;cases j);rw[co x o C e]at j;cases j
def dP.other{H l:Hp}{B:BA}{s:bY}{N:aa VD}{ag:aa (aa bg×V)}(c:dP A H B s N ag){J C dx:U}{v:V}{r:aa (M×V)}(E:H J=O (.ins C dx (("calls",v)::r)))(z:∀x o,H x=O o->x≠J->l x=O o):dP A l B s N ag:=by
 obtain⟨P,W⟩:=c.obj;obtain⟨Q,X⟩:=c.lane.obj;obtain⟨R,Y⟩:=c.file.obj;obtain⟨S,Z⟩:=c.book.obj;have k:∀ {x:U}{o:HO},H x=O o->(∀C dx T,o≠ .ins C dx T)->l x=O o:=λh n=>z _ _ h λe=>by rw[e,E]at h;exact n _ _ _ (aM h).symm
 have j:∀ {x w y:U}{q:M}{K:V}{I:aa (M×V)},H x=O (.ins w y ((q,K)::I))->q≠"calls"->l x=O (.ins w y ((q,K)::I)):=λh n=>z _ _ h (bC h E (nj n));have L:=c.lane;have r:=c.file;refine⟨#v[P,j W (by decide+kernel)],#v[#v[Q,j X (by decide+kernel)],k L.cs (λ_ _ _ b=>nomatch b),k L.lim (λ_ _ _ b=>nomatch b),k L.bX (λ_ _ _ b=>nomatch b),k L.wt (λ_ _ _ b=>nomatch b),k L.q0 (λ_ _ _ b=>nomatch b),k L.q1 (λ_ _ _ b=>nomatch b),k L.cr (λ_ _ _ b=>nomatch b),L.b7,L.dN,λi p d f g=>let #v[dx,u]:=L.d7 i p d f g;#v[dx,j u (by decide+kernel)],L.nd,L.hS,L.lw,L.lo,L.lp],
  #v[#v[R,j Y (by decide+kernel)],k r.pt (λ_ _ _ b=>nomatch b),k r.en (λ_ _ _ b=>nomatch b),k r.po (λ_ _ _ b=>nomatch b),r.gp,r.e4,r.hT,λi a p f g=>k (r.part i a p f g) (λ_ _ _ b=>nomatch b),λi a x f g=>let #v[dx,u]:=r.ent i a x f g;#v[dx,j u (by decide+kernel)],λi a p f g=>k (r.post i a p f g) (λ_ _ _ b=>nomatch b),r.nd],
  #v[#v[S,j Z (by decide+kernel)],k c.book.dO (λ_ _ _ b=>nomatch b),c.book.keys,c.book.nd,c.book.non,λao ac m e=>?_],c.apart,k c.sz (λ_ _ _ b=>nomatch b),c.lg⟩
 obtain⟨v,f,t,ah,g,ad,af⟩:=c.book.val ao ac m e;exact#v[v,f,t,ah,g,k ad (λ_ _ _ b=>nomatch b),k af (λ_ _ _ b=>nomatch b)]
def lT(K:bj)(H:Hp)(B:BA)(cl:U)(xs:aa V):Prop:=(∀a:Hp,aA K a cl xs)\/∃u:HO,H cl=O u/\¬BF B cl/\(∀C dx b,u≠ .ins C dx b)/\∀a:Hp,a cl=O u->aA K a cl xs
def lT.seq{H:Hp}{B:BA}{cl:U}{xs:aa V}(h:lT K H B cl xs):aA K H cl xs:=by rcases h with h|⟨u,a,_,_,b⟩;(exact h H);exact b H a
def lT.go{H b:Hp}{B a:BA}{cl:U}{xs:aa V}(h:lT K H B cl xs)(g:Go H b B a):lT K b a cl xs:=by rcases h with h|⟨u,c,d,e,f⟩;(exact .inl h);obtain⟨i,j⟩:=g.lst c d;exact .inr #v[u,i,j,e,f]
def lT.but{H b:Hp}{B:BA}{cl d C dx:U}{g:aa (M×V)}{xs:aa V}(h:lT K H B cl xs)(k:H d=O (.ins C dx g))(f:∀x o,H x=O o->x≠d->b x=O o):lT K b B cl xs:=by rcases h with h|⟨u,a,i,c,j⟩;(exact .inl h);exact .inr #v[u,f _ _ a (λe=>by rw[e,k]at a;exact c _ _ _ (aM a).symm),i,c,j]
structure SB(A:bF)(K:bj)(H:Hp)(ss cl:U)(ns:aa Int)(pos:Nat)(B:BA)(s:bY):Prop where
 obj:∃dx,H ss=O (.ins A.aO.C dx (kH cl pos B.b))
 calls:lT K H B cl (ns.map aB)
 br:e7 A H B s
 D0:¬BF B ss
def SB.eM{H:Hp}{b cl:U}{ns:aa Int}{a:Nat}{B:BA}{s:bY}(h:SB A K H b cl ns a B s):oI A K H b cl B.b ns a:=#v[h.obj,h.calls.seq]
def SB.cE{H b:Hp}{a cl:U}{ns:aa Int}{g e:Nat}{B:BA}{s:bY}(h:SB A K H a cl ns g B s)(i:oI A K b a cl B.b ns e)(c:∀x o,H x=O o->x≠a->b x=O o):SB A K b a cl ns e B s:=by obtain⟨dx,d⟩:=h.obj;obtain⟨j,ag,f⟩:=h.br;exact#v[i.obj,h.calls.but d c,#v[j,ag,f.other d c],h.D0]
def SB.go{H b:Hp}{d cl:U}{ns:aa Int}{c:Nat}{B a:BA}{s s':bY}(h:SB A K H d cl ns c B s)(g:Go H b B a)(e:a.b=B.b)(f:e7 A b a s'):SB A K b d cl ns c a s':=by obtain⟨dx,i⟩:=h.obj;obtain⟨j,k⟩:=g.lst i h.D0;exact#v[#v[dx,by rw[e];exact j],h.calls.go g,f,k]
def SB.same{H a:Hp}{c cl:U}{ns:aa Int}{b:Nat}{B:BA}{s:bY}(h:SB A K H c cl ns b B s)(e:Z H a):SB A K a c cl ns b B s:=h.go (Go.same e) I (h.br.same e)
structure bT(H H':Hp)(ss:U)(B B':BA):Prop where
 fr:∀x o,H x=O o->x≠ss->¬BF B x->H' x=O o
 nw:∀x,BF B' x->BF B x\/H x=aR
def bT.go{H b:Hp}{e:U}{B a:BA}(g:Go H b B a):bT H b e B a:=#v[λx o d _ c=>g.fr x o d c,g.nw]
def bT.same{H a:Hp}{b:U}{B:BA}(e:Z H a):bT H a b B B:=.go (Go.same e)
def bT.cE{H a:Hp}{b:U}{B:BA}(c:∀x o,H x=O o->x≠b->a x=O o):bT H a b B B:=#v[λx o e d _=>c x o e d,λx h=>.inl h]
def bT.trans{H H1 j:Hp}{d:U}{B g i:BA}{o:HO}(a:bT H H1 d B g)(k:bT H1 j d g i)(m:H1 d=O o):bT H j d B i:=by refine#v[λx o f l c=>k.fr x o (a.fr x o f l c) l λh=>?_,λx h=>?_];(rcases a.nw x h with b|b;(exact c b);rw[f]at b;cases b);rcases k.nw x h with b|b;(exact a.nw x b);by_cases c:BF B x;(exact .inl c);by_cases e:x=d;(rw[e,m]at b;cases b);cases f:H x with|none=>exact .inr I|some o=>rw[a.fr x o f e c]at b;cases b
inductive Yy(A:bF)(vs:aa V)(H:Hp)(Q:VK)(E:XK):Prop|mk(a c d e:U)(f:aa (M×V))(g h n:Nat)(l:aa Nat)(_:vs=[.ref a,.int h,.ref e])(_:H a=O (.ins A.aO.C c (("calls",.ref d)::f)))(_:f.length<900)(_:(∀b,cz "bridge" (.ref b) (("calls",.ref d)::f)=kH d g b))(_:H e=O (.lst (aK l)))(_:1<=h)(_:h<=20)(_:l.length=4*n)(_:aL.sR (dC l))(_:∀(H':Hp)(B':BA),e7 A H' B' (fH (aL.fresh h (dC l))).1->H' a=O (.ins A.aO.C c (kH d g B'.b))->(∀x o,H x=O o->x≠a->H' x=O o)->(∀x,BF B' x->H x=aR)->Q .non H')
def MZ:bf P w K mg aJ bq 9 A.aO.yU A.aO.yY ["self","turn","spans"] (Yy A):=by(refine T.aO.C6.fn.bJ Vk (λH vs _ E L h=>?_);obtain⟨i,dx,cl,sp,y,_,X,n,l,rfl,m,_,C,N,R,V,z,S,k⟩:=h;refine#v[_,cR (cF a7 (lL T.aF.c.k9 (Yx T) L I T.aF.c.at_ T.aF.ft.bi .nil g_ (cv aS aY)) I),?_];refine(?_);intro b d f q _;have r:∀ {x:U}{o:HO},H x=O o->(Y (Y H d (.own b)) b (.ins A.aF.C d [])) x=O o:=λa=>by rw[aw (bI a f),aw (bI a q)];exact a);(refine#v[b,d,sp,X,n,l,I,az,r N,R,V,z,S,λH1 j u s v W=>#v[I,?_]];have g:Z H H1:=Z.made f q v;refine#v[i,_,dx,_,I,g _ _ m,T.aO.c.cl,T.aO.fu,(by rw[cU];lia),?_];have B:∀x,BF j x->H x=aR:=λx a=>by rcases W x a with c|c;(rw[c];exact f);cases J:H x with|none=>rfl|some o=>rw[r J]at c;cases c);(have p:∀x o,H1 x=O o->x≠i->(Y H1 i (.ins A.aO.C dx (cz "bridge" (.ref b) (("calls",.ref cl)::y)))) x=O o:=λx o a e=>by rw[aw e];exact a);obtain⟨ac,ag,t⟩:=s;refine k _ j #v[ac,ag,t.other (g _ _ m) p] ?_ (λx o a e=>p x o (g _ _ a) e) B;rw[az,C,u]
inductive Yz(A:bF)(K:bj)(vs:aa V)(H:Hp)(Q:VK)(E:XK):Prop|mk(a b c:U)(d:aa Int)(_:vs=[.ref a,.ref c])(_:H a=O (.ins A.aO.C b []))(_:aA K H c (d.map aB))(_:∀(H':Hp)(B':BA),SB A K H' a c d 0 B' nF->(∀x o,H x=O o->x≠a->H' x=O o)->(∀x,BF B' x->H x=aR)->Q .non H')
def YA{H d:Hp}{B:BA}{cl:U}{xs:aa V}(h:aA K H cl xs)(f:∀u,H cl=O u->(∀C dx i,u≠ .ins C dx i)->d cl=O u)(g:∀x,BF B x->H x=aR):lT K d B cl xs:=by rcases h with(h|⟨o,h⟩)|h;(exact .inr #v[_,f _ h (λ_ _ _ a=>nomatch a),λc=>(by rw[g _ c]at h;cases h),(λ_ _ _ a=>nomatch a),λe b=>.inl (.inl b)]);(exact .inr #v[_,f _ h (λ_ _ _ a=>nomatch a),λc=>(by rw[g _ c]at h;cases h),(λ_ _ _ a=>nomatch a),λe b=>.inl (.inr #v[o,b])]);exact .inl λe=>.inr h
def zG(K:bj)(mg:M->ab D):Prop:=∃a,mg "FIRST_SPANS"=O (.ref a)/\∀H:Hp,dH K H a [.int 1,.int 1,.int 0,.int 0]
def YB(T:Txt K mg A)(F:zG K mg):bf P w K mg aJ bq 10 A.aO.dj A.aO.ee ["self","calls"] (Yz A K):=by(refine T.aO.ft.fn.bJ Vj (λH vs _ E S h=>?_);obtain⟨a,dx,cl,ns,rfl,g,L,k⟩:=h;obtain⟨q,J,N⟩:=F;refine#v[_,ay (cF a7 aS I) (ay (cF a7 bS I) (cR (e0 (pm a7 T.aO.c T.aO.C6 (MZ T) S (cv (bG T.Vy) (Hr S2 (by rfl) T.Dn (by rfl) (aQ (s8 (v:=.ref q) I J I)))))))),a,_,dx,_,I,g,T.aO.c.cl,T.aO.y3,(by show 0<1000;decide),a,_,dx,_,I,az,T.aO.c.cl,T.aO.pZ,(by show 1<1000;decide),?_];rw[eS];generalize t:Y H a _=H1;have i:H1 a=O (.ins A.aO.C dx [("calls",.ref cl),("position",.int 0)]):=by rw[<-t,az];rfl);(have s:∀x o,H x=O o->x≠a->H1 x=O o:=λx o c d=>by rw[<-t,aw d];exact c);refine#v[a,dx,_,I,i,I,q,_,I,.inr (N _),λy C=>?_];have m:=Z.new (o:=cT [aB 1,aB 1,aB 0,aB 0]) C;refine#v[a,dx,cl,y,[("position",.int 0)],0,1,1,[1,1,0,0],I,m _ _ i,(by show 1<900;decide),(λ_=>rfl),az,by decide,by decide,I,#v[by decide,by decide,λx c=>?_],λp n z U B V=>?_];(have e:x=(1,#v[1,0,0]):=(by have:x∈[((1:Nat),(#v[1,0,0]:e8))]:=c;exact c_.mp this);rw[e];decide);(have r:∀x o,H x=O o->x≠a->p x=O o:=λx o c d=>B x o (m _ _ (s x o c d)) d;have l:∀x,BF n x->H x=aR:=λx c=>by have f:=m.free (V x c);cases R:H x with|none=>rfl|some o=>by_cases e:x=a;(rw[e,i]at f;cases f);rw[s x o R e]at f;cases f);refine k p n #v[#v[dx,U],YA L (λu j d=>r _ _ j λe=>?_) l,z,λW=>?_] r l;(rw[e,g]at j;exact d _ _ _ (aM j).symm);rw[l _ W]at g;cases g
end
def mF(s:bY):Prop:=∃p r,s.file.posts=p::r/\p.day=0
section
def AK(A:bF)(K:bj)(H:Hp)(d cl:U)(ns:aa Int)(B:BA)(p:Nat)(r:bY×Sy51.Ans)(e:VK):Prop:=∀(a:Hp)(b:BA)(c:U),SB A K a d cl ns p b r.1->bT H a d B b->a c=O (.lst ((jc r.2).map aB))->e (.ref c) a
inductive f_(A:bF)(K:bj)(is:nZ->Prop)(vs:aa V)(H:Hp)(Q:VK)(E:XK):Prop|mk(a b:U)(d:aa Int)(e:Nat)(B:BA)(s:bY)(c:nZ)(f:aa Int)(_:vs=[.ref a])(_:SB A K H a b d e B s)(_:aL.Ok s)(_:mF s)(_:is c)(_:eR.In c)(_:d.drop e=(eR.enc c).tail++f)(_:AK A K H a b d B (e+(eR.enc c).tail.length) (di s c) Q)
def eW{ns:aa Int}{a:Nat}{x:Int}{r:aa Int}(h:ns.drop a=x::r):ns[a]? =O x/\ns.drop (a+1)=r:=by refine#v[?_,?_];(have:=dR (λl=>l[0]?) h;simpa using this);rw[<-P8,h];rfl
def AK.fin{H H1:Hp}{c cl:U}{ns:aa Int}{B b:BA}{p:Nat}{r:bY×Sy51.Ans}{d:VK}(k:AK A K H c cl ns B p r d)(S:SB A K H1 c cl ns p b r.1)(L:bT H H1 c B b){a:U}(e:H1 a=aR){xs:aa V}(g:xs=(jc r.2).map aB):d (.ref a) (Y H1 a (.lst xs)):=by subst g;obtain⟨dx,f⟩:=S.obj;exact k _ b a (S.same (Z.new e)) (L.trans (bT.same (Z.new e)) f) az
inductive YC(A:bF)(vs:aa V)(H:Hp)(Q:VK)(E:XK):Prop|mk(B:BA)(s:bY)(_:vs=[.ref B.b])(_:e7 A H B s)(_:Q (.bl (decide (60<=s.file.posts.length))) H)
def M0:bf P w K mg aJ bq 1 A.oA.f A.oA.fd ["bridge"] (YC A):=by(refine T.oA.fn.bJ Vo (λH vs b E _ h=>?_);obtain⟨B,s,rfl,⟨_,ag,a⟩,k⟩:=h;obtain⟨_,c⟩:=a.obj;obtain⟨_,d⟩:=a.file.obj;refine#v[_,bc (jw iX (dE T.dW (aX a0)) (bG T.VJ) (cm _)),I,c,T.aF.c.cl,T.aF.fB,fM _ _ _ _ _,I,d,T.aC.c.cl,T.aC.t9,zk,_,_,I,.inl (aA.of a.file.po),_,_,I,I,?_];have e:decide ((60:Int)<=(((B.R.qs.map aT).length:Nat):Int))=decide (60<=s.file.posts.length):=by rw[aq,a.file.hT,ip];simp only[fh];lia);show b (V.bl (decide ((60:Int)<=(((B.R.qs.map aT).length:Nat):Int)))) H;rw[e];exact k
inductive YD(A:bF)(vs:aa V)(H:Hp)(Q:VK)(E:XK):Prop|mk(R:RA)(s:cq)(_:vs=[.ref R.r])(_:RecAt A H R s)(_:Q (.bl (decide (60<=s.entries.length))) H)
def D1:bf P w K mg aJ bq 1 A.m9.f A.m9.fd ["records"] (YD A):=by(refine T.m9.fn.bJ Vp (λH vs b E _ h=>?_);obtain⟨R,s,rfl,a,k⟩:=h;obtain⟨_,c⟩:=a.obj;refine#v[_,bc (jw iX (dE T.dW a0) (bG T.VH) (cm _)),I,c,T.aC.c.cl,T.aC.ie,iI,_,_,I,.inl (aA.of a.en),_,_,I,I,?_];have e:decide ((60:Int)<=(((R.es.map aT).length:Nat):Int))=decide (60<=s.entries.length):=by rw[aq,a.e4,ip];simp only[fh];lia);show b (V.bl (decide ((60:Int)<=(((R.es.map aT).length:Nat):Int)))) H;rw[e];exact k
def hU(s:cq)(x:dz)(p d c:Nat):cq×Fw:=if s.parts.length<=p then(s,eH (-2))else if s.today<d\/1000<c then(s,eH (-1))else Sy50.enter s x
inductive YE(A:bF)(vs:aa V)(H:Hp)(Q:VK)(E:XK):Prop|mk(R:RA)(s:cq)(x:dz)(a p d c:Nat)(_:vs=[.ref R.r,.int a,.int p,.int d,.int c])(_:(∀l,dg l x=⟨a,p,d,c,-1⟩))(_:bo.Ok s)(_:RecAt A H R s)(_:∀(H':Hp)(R':RA)(D:U),RecAt A H' R' (hU s x p d c).1->R'.r=R.r->R'.pt=R.pt->R'.en=R.en->R'.po=R.po->(∀b o,H b=O o->b≠R.en->H' b=O o)->H' D=O (.lst [.int (hU s x p d c).2.v])->Q (.ref D) H')
def M3:bf P w K mg aJ bq 4 A.oB.f A.oB.fd ["records","kind","part","day","crack"] (YE A):=by refine T.oB.fn.bJ Vq (λH vs L E B h=>?_);obtain⟨R,s,x,_,p,d,c,rfl,z,o,a,k⟩:=h;obtain⟨N,v⟩:=a.obj;have V:=bZ;refine#v[_,ay (cN (cO iX aY (dE T.dW a0) (cm _)) (bc (bO (aQ (bG T.p5)))) c9) (ay (cN (PW.pt (lJ (cO gD (pv 3) a0 (cm _)) (mL (cO gD (pv 4) (bG T.LP) (cm _))))) (bc (bO (aQ (bG T.jZ)))) c9) (ay (cN (gP (ef ((D1 T).to 3) B T.m9 (aQ a7))) (bc (bO (aQ (bG T.rx)))) c9) (bc (bO (aQ (pm a7 T.aC.c T.aC.JL (Xc T) B (dm aS (dm aY (cv (pv 3) (pv 4)))))))))),I,v,T.aC.c.cl,T.aC.om,qc,_,_,I,.inl (aA.of a.pt),_,_,I,I,_,I,cg (λm=>?_) (λm=>?_)];(have j:s.parts.length<=p:=(by have:(((R.ps.map aT).length:Nat):Int)<=(p:Int):=(by simpa using m);rw[aq,a.gp]at this;lia);have e:hU s x p d c=(s,eH (-2)):=(by unfold hU;rw[aI j]);rw[e]at k;refine#v[(bB 1),λb f=>?_];exact k _ R b (a.same (Z.new f)) I I I I (λa o g _=>Z.new f a o g) az);(have j:¬s.parts.length<=p:=(by have:¬(((R.ps.map aT).length:Nat):Int)<=(p:Int):=(by simpa using m);rw[aq,a.gp]at this;lia);have y:s.today<d\/1000<c->∀b,H b=aR->L (.ref b) (Y H b (.lst [.int (-1)])):=λi b f=>by have e:hU s x p d c=(s,eH (-1)):=(by unfold hU;rw[aD j,aI i]);rw[e]at k;exact k _ R b (a.same (Z.new f)) I I I I (λa o g _=>Z.new f a o g) az);refine#v[I,v,T.aC.c.cl,T.aC.i7,kF,_,_,I,I,_,I,cg (λi=>?_) (λi=>?_)];(have n:s.today<d:=(by have:(s.today:Int)<(d:Int):=(by simpa using i);lia);exact de #v[(bB 1),λb f=>y (.inl n) b f]);have n:¬s.today<d:=(by have:¬(s.today:Int)<(d:Int):=(by simpa using i);lia);refine#v[_,_,I,I,_,I,cg (λq=>?_) (λq=>?_)];(have r:1000<c:=(by have:(1000:Int)<(c:Int):=(by simpa using q);lia);exact#v[(bB 1),λb f=>y (.inr r) b f]);(have r:¬1000<c:=(by have:¬(1000:Int)<(c:Int):=(by simpa using q);lia);have e:hU s x p d c=Sy50.enter s x:=by unfold hU;rw[aD j,aD (λC=>C.elim n r)]);rw[e]at k;refine#v[R,s,I,a,_,I,cg (λt=>?_) (λt=>?_)];((have u:60<=s.entries.length:=(by simpa using t);have l:Sy50.enter s x=(s,eH (-5)):=by unfold Sy50.enter;rw[aI (show gZ<=s.entries.length from u)]);rw[l]at k;exact#v[(bB 1),λb f=>k _ R b (a.same (Z.new f)) I I I I (λa o g _=>Z.new f a o g) az]);(have u:¬60<=s.entries.length:=(by simpa using t);have l:Sy50.enter s x=(kG s x,eH (s.entries.length:Nat)):=by unfold Sy50.enter;rw[aD (show¬gZ<=s.entries.length from u)];rfl);rw[l]at k;refine#v[R.r,N,_,I,v,I,R,s,x,(by rw[z];rfl),(by rw[z]),o,∅,a,λH1 C S Q=>#v[(bB 1),λb f=>?_]];have J:=Z.new (o:=cT [aB ((s.entries.length:Nat):Int)]) f;exact k _ _ b (S.same J) I I I I (λa o g U=>J _ _ (Q a o g U)) az
def YF{s s':bY}(a:s'.book=s.book)(b:s'.now=s.now)(c:s'.file.today=s.file.today):aL.mapOf s'=aL.mapOf s:=by unfold aL.mapOf qP;rw[a,b,c]
def YG(s:cq)(x:dz):(Sy50.enter s x).1.today=s.today/\(Sy50.enter s x).2.l=[]:=by unfold Sy50.enter;split<;>exact#v[I,I]
def zH(s:cq)(x:dz)(p d c:Nat):(hU s x p d c).1.today=s.today/\(hU s x p d c).2.l=[]:=by unfold hU;split;(exact#v[I,I]);split;(exact#v[I,I]);exact YG s x
def YH(a:Fw)(h:a.l=[]):jc (lz a)=[a.v]:=by unfold jc lz;rw[h];rfl
def AK.file{H H1 b:Hp}{i cl:U}{ns:aa Int}{B:BA}{p:Nat}{s:bY}{f:cq×Fw}{j:VK}(k:AK A K H i cl ns B p ({s with file:=f.1},lz f.2) j)(S:SB A K H1 i cl ns p B s)(L:bT H H1 i B B){a:RA}{d:U}(w:RecAt A b a f.1)(l:a.r=B.R.r)(m:a.pt=B.R.pt)(n:a.en=B.R.en)(q:a.po=B.R.po)(r:∀c o,H1 c=O o->c≠B.R.en->b c=O o)(v:b d=O (.lst [.int f.2.v]))(C:f.1.today=s.file.today)(y:f.2.l=[]):j (.ref d) b:=by obtain⟨t,ag,c⟩:=S.br;obtain⟨dx,z⟩:=S.obj;have u:dP A b {B with R:=a} {s with file:=f.1} t ag:=c.DS (s':={s with file:=f.1}) w (λx o h _ e _=>r x o h e) l m n q I I I (YF I I C);have g:Go H1 b B {B with R:=a}:=Go.file (λx o h _ e _=>r x o h e) l m n q;refine k b {B with R:=a} d (S.go g I #v[t,ag,u]) (L.trans (.go g) z) ?_;rw[v,YH _ y];rfl
def YI:bf P w K mg aJ bq 5 A.jE.f A.jE.fd ["session"] (f_ A K λc=>∃p d k,c=.found p d k):=by refine T.jE.fn.bJ y5 (λH vs _ E g h=>?_);obtain⟨a,cl,ns,n,B,s,c,rest,rfl,i,o,_,ac,_,ad,k⟩:=h;obtain⟨p,d,b,rfl⟩:=ac;obtain⟨J,an⟩:=i.obj;have aA:=bZ;refine#v[_,ay (ba 1 y5.nd (cD a7 T.aO.c T.aO.eK ((eV T).to 4) g)) (ay (ba 2 y5.nd (cD a7 T.aO.c T.aO.eK ((eV T).to 4) g)) (ay (ba 3 y5.nd (cD a7 T.aO.c T.aO.eK ((eV T).to 4) g)) (bc (ef (M3 T) g T.oB (dm (aX a0) (dm (bG T.Dm) (dm aS (cv aY (pv 3))))))))),?_];obtain⟨ap,ak⟩:=eW ad;refine#v[a,J,_,I,an,I,a,cl,B.b,ns,n+0,(p:Int),I,i.eM,ap,λH1 as q=>?_];have af:=ak;have j:=i.cE as q;obtain⟨L,u⟩:=j.obj;have z:bT H H1 a B B:=bT.cE q;obtain⟨aq,al⟩:=eW af;refine#v[a,L,_,I,u,I,a,cl,B.b,ns,n+1,(d:Int),I,j.eM,aq,λx av r=>?_];have ah:=al;have l:=j.cE av r;obtain⟨N,v⟩:=l.obj;have L2:bT H x a B B:=z.trans (bT.cE r) u;obtain⟨ar,am⟩:=eW ah;refine#v[a,N,_,I,v,I,a,cl,B.b,ns,n+2,(b:Int),I,l.eM,ar,λy aw t=>?_];have az:=am;have m:=l.cE aw t;obtain⟨_,ao⟩:=m.obj;have C:bT H y a B B:=L2.trans (bT.cE t) v;obtain⟨_,ag,e⟩:=m.br;obtain⟨_,Z⟩:=e.obj;obtain⟨dl,_⟩:=e.lane.obj;obtain⟨_,_⟩:=e.file.obj;refine#v[I,ao,T.aO.c.cl,T.aO.fu,fC _ _ _,I,Z,T.aF.c.cl,T.aF.fB,fM _ _ _ _ _,B.R,s.file,.found p d b,0,p,d,b,I,(λ_=>rfl),o.file,e.file,λ_ _ _ Y R S U V W X=>?_];exact AK.file (f:=hU s.file (.found p d b) p d b) k m C Y R S U V W X (zH _ _ _ _ _).1 (zH _ _ _ _ _).2
def YJ:bf P w K mg aJ bq 5 A.jF.f A.jF.fd ["session"] (f_ A K λc=>∃p d,c=.mended p d):=by(refine T.jF.fn.bJ Dc (λH vs _ E l h=>?_);obtain⟨a,cl,ns,r,B,s,c,rest,rfl,g,o,_,V,_,W,k⟩:=h;obtain⟨p,d,rfl⟩:=V;obtain⟨v,ac⟩:=g.obj;have an:=bZ;refine#v[_,ay (ba 1 Dc.nd (cD a7 T.aO.c T.aO.eK ((eV T).to 4) l)) (ay (ba 2 Dc.nd (cD a7 T.aO.c T.aO.eK ((eV T).to 4) l)) (bc (ef (M3 T) l T.oB (dm (aX a0) (dm (bG T.Vw) (dm aS (cv aY bS))))))),?_];obtain⟨af,Y⟩:=eW W;refine#v[a,v,_,I,ac,I,a,cl,B.b,ns,r+0,(p:Int),I,g.eM,af,λH1 ak m=>?_];have X:=Y;have i:=g.cE ak m;obtain⟨x,q⟩:=i.obj;have u:bT H H1 a B B:=bT.cE m;obtain⟨ah,Z⟩:=eW X;refine#v[a,x,_,I,q,I,a,cl,B.b,ns,r+1,(d:Int),I,i.eM,ah,λt al n=>?_];have am:=Z;have j:=i.cE al n;obtain⟨_,ad⟩:=j.obj;have L2:bT H t a B B:=u.trans (bT.cE n) q;obtain⟨_,ag,b⟩:=j.br;obtain⟨_,U⟩:=b.obj;obtain⟨dl,_⟩:=b.lane.obj;obtain⟨_,_⟩:=b.file.obj;refine#v[I,ad,T.aO.c.cl,T.aO.fu,fC _ _ _,I,U,T.aF.c.cl,T.aF.fB,fM _ _ _ _ _,B.R,s.file,.mended p d,1,p,d,0,I,(λ_=>rfl),o.file,b.file,λ_ _ _ S y z C J N R=>?_];have e:cb s.file (.mended p d)=hU s.file (.mended p d) p d 0:=by unfold hU cb;simp);(have L:di s (.mended p d)=({s with file:=(hU s.file (.mended p d) p d 0).1},lz (hU s.file (.mended p d) p d 0).2):=by rw[<-e];rfl);rw[L]at k;exact AK.file (f:=hU s.file (.mended p d) p d 0) k j L2 S y z C J N R (zH _ _ _ _ _).1 (zH _ _ _ _ _).2
def YK:bf P w K mg aJ bq 2 A.jM.f A.jM.fd ["session"] (f_ A K λc=>∃n,c=.shut n):=by refine T.jM.fn.bJ Df (λH vs _ E X h=>?_);obtain⟨p,cl,ns,ah,B,s,c,rest,rfl,i,o,_,S,_,U,k⟩:=h;obtain⟨n,rfl⟩:=S;obtain⟨L,ac⟩:=i.obj;have an:=bZ;refine#v[_,ay (ba 1 Df.nd (cD a7 T.aO.c T.aO.eK ((eV T).to 1) X)) (ay (ba 2 Df.nd a0) (ay (cN (cO gD aS bS (cm _)) (bc (bO (aQ (bG T.jZ)))) c9) (ay (cF aY (jw fl aS bS (cm _)) I) (bc (bO (aQ (dE T.dW (aX (aX aY))))))))),?_];obtain⟨af,Z⟩:=eW U;refine#v[p,L,_,I,ac,I,p,cl,B.b,ns,ah+0,(n:Int),I,i.eM,af,λH1 ak v=>?_];have am:=Z;have d:=i.cE ak v;obtain⟨_,y⟩:=d.obj;have q:bT H H1 p B B:=bT.cE v;obtain⟨C,ag,a⟩:=d.br;obtain⟨f,R⟩:=a.obj;obtain⟨dl,_⟩:=a.lane.obj;obtain⟨_,_⟩:=a.file.obj;refine#v[I,y,T.aO.c.cl,T.aO.fu,fC _ _ _,_,_,I,I,_,I,cg (λj=>?_) (λj=>?_)];((have l:1<n:=(by have:(1:Int)<(n:Int):=(by simpa using j);lia);have e:di s (.shut n)=(s,lA (-1)):=by show(if 1<n then _ else _)=_;rw[aI l]);rw[e]at k;exact#v[(bB 1),λJ m=>k.fin d q m I]);(have l:¬1<n:=(by have:¬(1:Int)<(n:Int):=(by simpa using j);lia);have e:di s (.shut n)=({s with hand:=n==1,lane:={s.lane with shut:=n==1||s.closed} },lA (s.lane.onIt.length:Nat)):=by show(if 1<n then _ else _)=_;rw[aD l]);(rw[e]at k;refine#v[I,B.b,_,f,_,I,R,T.aF.c.cl,T.aF.yQ,(by show 5<1000;decide),?_];have N:decide (aB (n:Int)=aB 1)=(n==1):=by rw[show(aB 1)=aB ((1:Nat):Int)from I,ry];rfl);(have z:∀x u,H1 x=O u->x≠B.b->(Y H1 B.b (.ins A.aF.C f (cz "shut_by_hand" (.bl (decide (aB (n:Int)=aB 1))) (i9 B.R.r B.L.l B.bk s.hand s.closed)))) x=O u:=λx u ad W=>by rw[aw W];exact ad);have b:dP A (Y H1 B.b (.ins A.aF.C f (cz "shut_by_hand" (.bl (decide (aB (n:Int)=aB 1))) (i9 B.R.r B.L.l B.bk s.hand s.closed)))) B {s with hand:=n==1,lane:={s.lane with shut:=n==1||s.closed} } C ag:=a.ui (s':={s with hand:=n==1,lane:={s.lane with shut:=n==1||s.closed} }) (dx:=f) (by rw[az,N];rfl) z I (a.lane.rD #v[I,I,I,I,I,I,I,I,I]) I I;have g:=Go.obj (B:=B) z;have t:=d.go g I #v[C,ag,b];have r:=q.trans (.go g) y;generalize Y H1 B.b _=al at b t r⊢;obtain⟨_,i4⟩:=b.obj;obtain⟨_,V⟩:=b.lane.obj;refine#v[I,i4,T.aF.c.cl,T.aF.gV,hy _ _ _ _ _,I,V,T.ak.c.cl,T.ak.i6,oF _ _,_,_,I,.inl (aA.of b.lane.cr),(bB 1),λJ m=>k.fin t r m ?_];rw[aq];rfl
def M4{l:aa dz}{i:Nat}:(∃c,(i,c)∈aN.cf l/\dn (dX (aN.cf l)) (bz (i:Int))=O (aB (c:Int)))\/((∀c,(i,c)∉aN.cf l)/\dn (dX (aN.cf l)) (bz (i:Int))=aR):=by by_cases h:∃c,(i,c)∈aN.cf l;(obtain⟨c,a⟩:=h;exact .inl #v[c,a,uq (aN.vM _) a]);refine .inr #v[λc a=>h #v[c,a],DG λd b e=>h #v[d.2,?_]];rw[<-e];exact b
def M5{l:aa dz}{i:Nat}{x:dz}(g:l[i]? =O x)(h:∀c,(i,c)∉aN.cf l):(∃e,x=.struck e)\/(∃e c,x=.right_ e c)\/mr l i=ai:=by cases x with|struck e=>exact .inl ⟨e,I⟩|right_ e c=>exact .inr (.inl ⟨e,c,I⟩)|found p d c=>(cases f:mr l i with|true=>exact .inr (.inr I)|false=>obtain⟨a,b⟩:=aN.vL f (.inl ⟨p,d,c,g⟩);exact absurd b (h a))|mended p d=>cases f:mr l i with|true=>exact .inr (.inr I)|false=>obtain⟨a,b⟩:=aN.vL f (.inr ⟨p,d,g⟩);exact absurd b (h a)
def YL{s:cq}{e:Nat}{x:dz}(a:s.entries[e]? =O x)(h:∀c,(e,c)∉aN.cf s.entries):cb s (.strike e)=(s,eH (-4)):=by show(match s.entries[e]?with|none=>_|some (.struck _)=>_|some (.right_ _ _)=>_|some _=>_)=_;(rw[a];rcases M5 a h with⟨b,rfl⟩|⟨b,_,rfl⟩|d);(rfl);(rfl);·cases x<;>simp[d]
def YM{s:cq}{e c:Nat}(h:(e,c)∈aN.cf s.entries):cb s (.strike e)=Sy50.enter s (.struck e)/\∃b,s.entries[e]? =O b/\(dg s.entries b).part=bo.gA (aN.bK s.entries e)/\(dg s.entries b).day=bo.c8 (aN.bK s.entries e):=by(obtain⟨_,g,j⟩:=aN.qV h;have f:∀b,s.entries[e]? =O b->aN.bK s.entries e=b:=λb k=>by simp[aN.bK,dt,k]);rcases j with⟨p,d,i,a⟩|⟨p,d,a⟩;(refine#v[?_,_,a,by rw[f _ a];rfl,by rw[f _ a];rfl];unfold cb;simp only;rw[show s.entries[e]? =O (.found p d i)from a];simp only;rw[aD (by rw[show mr s.entries e=ax from g];exact d8)]);refine#v[?_,_,a,by rw[f _ a];rfl,by rw[f _ a];rfl];unfold cb;simp only;rw[show s.entries[e]? =O (.mended p d)from a];simp only;rw[aD (by rw[show mr s.entries e=ax from g];exact d8)]
def YN{s:cq}{e c:Nat}(h:s.entries[e]? =aj):cb s (.right_ e c)=(s,eH (-2)):=by unfold cb;simp only;rw[h]
def M6{s:cq}{e c:Nat}{x:dz}(b:s.entries[e]? =O x)(h:(∀p d a,x≠ .found p d a)\/mr s.entries e=ai):cb s (.right_ e c)=(s,eH (-4)):=by unfold cb;simp only;rw[b];cases x with|struck e=>rfl|right_ e c=>rfl|mended p d=>rfl|found p d a=>rcases h with h|h;(exact absurd I (h p d a));simp only;rw[aI h]
def YO{s:cq}{e c p d a:Nat}(b:s.entries[e]? =O (.found p d a))(h:mr s.entries e=ax):cb s (.right_ e c)=if 1000<c then(s,eH (-1))else Sy50.enter s (.right_ e c):=by unfold cb;simp only;rw[b];simp only;rw[aD (by rw[h];exact d8)]
def M7{s:cq}{x:dz}(h:60<=s.entries.length):Sy50.enter s x=(s,eH (-5)):=by unfold Sy50.enter;rw[aI (show gZ<=s.entries.length from h)]
def M8{s:cq}{x:dz}(h:¬60<=s.entries.length):Sy50.enter s x=(kG s x,eH (s.entries.length:Nat)):=by unfold Sy50.enter;rw[aD (show¬gZ<=s.entries.length from h)];rfl
def YP(s:bY)(c:Ey):l6 s c=({s with file:=(cb s.file c).1},lz (cb s.file c).2):=rfl
def AK.iK{H H1:Hp}{b cl:U}{ns:aa Int}{B:BA}{p:Nat}{s:bY}{c:Ey}{f:Int}{d:VK}(k:AK A K H b cl ns B p (l6 s c) d)(e:cb s.file c=(s.file,eH f))(S:SB A K H1 b cl ns p B s)(L:bT H H1 b B B){a:U}(g:H1 a=aR):d (.ref a) (Y H1 a (.lst [.int f])):=by rw[YP,e]at k;exact k.fin S L g I
def YQ:bf P w K mg aJ bq 4 A.jG.f A.jG.fd ["session"] (f_ A K λc=>∃e,c=.strike e):=by refine T.jG.fn.bJ Dd (λH vs ad E m h=>?_);obtain⟨n,cl,ns,X,B,s,c,rest,rfl,u,o,_,j,_,an,k⟩:=h;obtain⟨e,rfl⟩:=j;obtain⟨af,as⟩:=u.obj;have aK:=bZ;have av:=k7 m;refine#v[_,ay (ba 1 Dd.nd (cD a7 T.aO.c T.aO.eK ((eV T).to 3) m)) (ay (ba 2 Dd.nd (aX a0)) (ay (cN (cO iX aS (dE T.dW (aX aY)) (cm _)) (bc (bO (aQ (bG T.p5)))) c9) (ay (cN (BQ (Ct av aS (cD aY T.aC.c T.aC.oo ((qd T).to 3) m))) (bc (bO (aQ (bG T.zc)))) c9) (ay (cN (gP (ef ((D1 T).to 3) m T.m9 (aQ aY))) (bc (bO (aQ (bG T.rx)))) c9) (bc (bO (aQ (pm aY T.aC.c T.aC.C0 (ME T) m (dm (bG T.LJ) (cv aS bS)))))))))),?_];obtain⟨aE,ap⟩:=eW an;refine#v[n,af,_,I,as,I,n,cl,B.b,ns,X+0,(e:Int),I,u.eM,aE,λH1 aG V=>?_];have aI:=ap;have p:=u.cE aG V;obtain⟨_,W⟩:=p.obj;have Q:bT H H1 n B B:=bT.cE V;obtain⟨_,ag,a⟩:=p.br;obtain⟨_,C⟩:=a.obj;obtain⟨dl,_⟩:=a.lane.obj;obtain⟨S,L⟩:=a.file.obj;refine#v[I,W,T.aO.c.cl,T.aO.fu,fC _ _ _,I,C,T.aF.c.cl,T.aF.fB,fM _ _ _ _ _,I,L,T.aC.c.cl,T.aC.ie,iI,_,_,I,.inl (aA.of a.file.en),_,_,I,I,_,I,cg (λx=>?_) (λx=>?_)];((have g:s.file.entries.length<=e:=(by have:(((B.R.es.map aT).length:Nat):Int)<=(e:Int):=(by simpa using x);rw[aq,a.file.e4]at this;lia);have ah:cb s.file (.strike e)=(s.file,eH (-2)):=by unfold cb;simp only;rw[gK g]);exact#v[(bB 1),λt b=>AK.iK (c:=.strike e) k ah p Q b]);(have g:e<s.file.entries.length:=(by have:¬(((B.R.es.map aT).length:Nat):Int)<=(e:Int):=(by simpa using x);rw[aq,a.file.e4]at this;lia);refine#v[B.R.r,S,_,I,L,I,B.R,s.file,I,o.file,a.file,λac d r _ J=>?_];rw[ij]at J;have v:=p.same r;have L2:bT H ac n B B:=Q.trans (.same r) W;have R:=a.same r;have ar:=r _ _ L;rcases M4 (l:=s.file.entries) (i:=e)with⟨c,j,N⟩|⟨j,N⟩);(obtain⟨U,aH,aw,aD,aC⟩:=YM j;refine#v[d,O (.int (c:Int)),I,N▸fV.k (k:=bz (e:Int)) J,_,I,eJ ?_];refine#v[B.R,s.file,I,R.file,_,I,cg (λy=>?_) (λy=>?_)];(have z:60<=s.file.entries.length:=(by simpa using y);exact#v[(bB 1),λt b=>AK.iK (c:=.strike e) k (U.trans (M7 z)) v L2 b]);have z:¬60<=s.file.entries.length:=(by simpa using y);refine#v[B.R.r,S,_,I,ar,I,B.R,s.file,.struck e,I,#v[e,aH,I,aw,?_,?_],o.file,by lia,R.file,λ_ _ am al=>#v[(bB 1),λt b=>?_]];(rw[aD];show _=bo.gA (aN.bK (s.file.entries++ [_]) e);rw[rE g]);(rw[aC];show _=bo.c8 (aN.bK (s.file.entries++ [_]) e);rw[rE g]);(have Y:=Z.new (o:=cT [aB ((s.file.entries.length:Nat):Int)]) b;have ak:cb s.file (.strike e)=(kG s.file (.struck e),eH (s.file.entries.length:Nat)):=U.trans (M8 z);have aF:AK A K H n cl ns B (X+1) ({s with file:=(kG s.file (.struck e),eH (s.file.entries.length:Nat)).1},lz (kG s.file (.struck e),eH (s.file.entries.length:Nat)).2) ad:=by rw[<-ak];exact k);exact AK.file (f:=(kG s.file (.struck e),eH (s.file.entries.length:Nat))) aF v L2 (am.same Y) I I I I (λa o C ao=>Y _ _ (al a o C ao)) az I I);refine#v[d,aR,I,N▸fV.k (k:=bz (e:Int)) J,_,I,de ?_];exact#v[(bB 1),λt b=>AK.iK (c:=.strike e) k (YL (b_ g) j) v L2 b]
def YR:bf P w K mg aJ bq 4 A.jH.f A.jH.fd ["session"] (f_ A K λc=>∃e a,c=.right_ e a):=by refine T.jH.fn.bJ y6 (λH vs aW E t h=>?_);obtain⟨n,cl,ns,ap,B,s,c,rest,rfl,U,o,_,C,_,a8,k⟩:=h;obtain⟨e,a,rfl⟩:=C;obtain⟨a1,bi⟩:=U.obj;have bu:=bZ;have bk:=k7 t;refine#v[_,ay (ba 1 y6.nd (cD a7 T.aO.c T.aO.eK ((eV T).to 3) t)) (ay (ba 2 y6.nd (cD a7 T.aO.c T.aO.eK ((eV T).to 3) t)) (ay (ba 3 y6.nd (aX a0)) (ay (cN (cO iX aS (dE T.dW (aX (pv 3))) (cm _)) (bc (bO (aQ (bG T.p5)))) c9) (ay (cN (PW.pt (lJ (BQ (Ct bk aS (cD (pv 3) T.aC.c T.aC.oo ((qd T).to 3) t))) (mL (cO v3 (aX (cC d9 (aX (pv 3)) aS (λ_ _=>rfl))) (bG T.Dm) (cm _))))) (bc (bO (aQ (bG T.zc)))) c9) (ay (cN (cO gD aY (bG T.LP) (cm _)) (bc (bO (aQ (bG T.jZ)))) c9) (ay (cN (gP (ef ((D1 T).to 3) t T.m9 (aQ (pv 3)))) (bc (bO (aQ (bG T.rx)))) c9) (bc (bO (aQ (pm (pv 3) T.aC.c T.aC.C0 (ME T) t (dm (bG T.LK) (cv aS aY)))))))))))),?_];obtain⟨bm,bg⟩:=eW a8;refine#v[n,a1,_,I,bi,I,n,cl,B.b,ns,ap+0,(e:Int),I,U.eM,bm,λH1 br av=>?_];have bb:=bg;have V:=U.cE br av;obtain⟨a2,aG⟩:=V.obj;have aV:bT H H1 n B B:=bT.cE av;obtain⟨bn,bh⟩:=eW bb;refine#v[n,a2,_,I,aG,I,n,cl,B.b,ns,ap+1,(a:Int),I,V.eM,bn,λaO bs aw=>?_];have bt:=bh;have N:=V.cE bs aw;obtain⟨_,aH⟩:=N.obj;have L2:bT H aO n B B:=aV.trans (bT.cE aw) aG;obtain⟨_,ag,b⟩:=N.br;obtain⟨_,al⟩:=b.obj;obtain⟨dl,_⟩:=b.lane.obj;obtain⟨ar,an⟩:=b.file.obj;refine#v[I,aH,T.aO.c.cl,T.aO.fu,fC _ _ _,I,al,T.aF.c.cl,T.aF.fB,fM _ _ _ _ _,I,an,T.aC.c.cl,T.aC.ie,iI,_,_,I,.inl (aA.of b.file.en),_,_,I,I,_,I,cg (λac=>?_) (λac=>?_)];(have r:s.file.entries.length<=e:=(by have:(((B.R.es.map aT).length:Nat):Int)<=(e:Int):=(by simpa using ac);rw[aq,b.file.e4]at this;lia);exact#v[(bB 1),λu g=>AK.iK (c:=.right_ e a) k (YN (gK r)) N L2 g]);(have r:e<s.file.entries.length:=(by have:¬(((B.R.es.map aT).length:Nat):Int)<=(e:Int):=(by simpa using ac);rw[aq,b.file.e4]at this;lia);have J:=b_ r;refine#v[B.R.r,ar,_,I,an,I,B.R,s.file,I,o.file,b.file,λaP d S _ am=>?_];rw[ij]at am;have y:=N.same S;have x:bT H aP n B B:=L2.trans (.same S) aH;have Q:=b.same S;have aF:=S _ _ an;have aC:=getD_at (l:=B.R.es) (i:=e) (by rw[b.file.e4];exact r);obtain⟨_,bd⟩:=Q.file.ent _ _ _ aC J;rcases M4 (l:=s.file.entries) (i:=e)with⟨c,C,ao⟩|⟨C,ao⟩);(obtain⟨_,aK,aE⟩:=aN.qV C;simp only at aK aE;refine#v[d,O (.int (c:Int)),I,ao▸fV.k (k:=bz (e:Int)) am,_,I,eJ ?_];refine#v[I,aF,T.aC.c.cl,T.aC.ie,iI,B.R.en,_,_,_,I,I,aA.of Q.file.en,eD (j:=e) (v:=.ref (B.R.es.getD e 0)) (by rw[bN,aC];rfl),I,bd,T.Entry.c.cl,T.Entry.t5,zi,I,_,I,?_];rcases aE with⟨p,R,W,q⟩|⟨p,R,q⟩;((have Y:s.file.entries[e]=.found p R W:=aM (J.symm.trans q);have X:(dg s.file.entries s.file.entries[e]).kind=0:=by rw[Y];rfl);rw[X];refine eJ ?_;have z:=YO (c:=a) q aK;refine#v[_,_,I,I,_,I,cg (λad=>?_) (λad=>?_)];(have af:1000<a:=(by have:(1000:Int)<(a:Int):=(by simpa using ad);lia);rw[aI af]at z;exact#v[(bB 1),λu g=>AK.iK (c:=.right_ e a) k z y x g]);have af:¬1000<a:=(by have:¬(1000:Int)<(a:Int):=(by simpa using ad);lia);rw[aD af]at z;refine#v[B.R,s.file,I,Q.file,_,I,cg (λah=>?_) (λah=>?_)];(have ak:60<=s.file.entries.length:=(by simpa using ah);exact#v[(bB 1),λu g=>AK.iK (c:=.right_ e a) k (z.trans (M7 ak)) y x g]);(have ak:¬60<=s.file.entries.length:=(by simpa using ah);have as:aN.bK s.file.entries e=.found p R W:=by simp[aN.bK,dt,q]);refine#v[B.R.r,ar,_,I,aF,I,B.R,s.file,.right_ e a,I,#v[e,_,I,q,?_,?_],o.file,by lia,Q.file,λ_ m a6 a5=>#v[(bB 1),λu g=>?_]];(show _=bo.gA (aN.bK (s.file.entries++ [_]) e);rw[rE r,as];rfl);(show _=bo.c8 (aN.bK (s.file.entries++ [_]) e);rw[rE r,as];rfl);(have aL:=Z.new (o:=cT [aB ((s.file.entries.length:Nat):Int)]) g;have a4:cb s.file (.right_ e a)=(kG s.file (.right_ e a),eH (s.file.entries.length:Nat)):=z.trans (M8 ak);have bp:AK A K H n cl ns B (ap+2) ({s with file:=(kG s.file (.right_ e a),eH (s.file.entries.length:Nat)).1},lz (kG s.file (.right_ e a),eH (s.file.entries.length:Nat)).2) aW:=by rw[<-a4];exact k);exact AK.file (f:=(kG s.file (.right_ e a),eH (s.file.entries.length:Nat))) bp y x (a6.same aL) I I I I (λb o al be=>aL _ _ (a5 b o al be)) az I I);(have Y:s.file.entries[e]=.mended p R:=aM (J.symm.trans q);have X:(dg s.file.entries s.file.entries[e]).kind=1:=by rw[Y];rfl);rw[X];refine de ?_;exact#v[(bB 1),λu g=>AK.iK (c:=.right_ e a) k (M6 q (.inl λ_ _ _ m=>nomatch m)) y x g]);(refine#v[d,aR,I,ao▸fV.k (k:=bz (e:Int)) am,_,I,de (de ?_)];refine#v[(bB 1),λu g=>AK.iK (c:=.right_ e a) k (M6 J ?_) y x g];rcases M5 J C with⟨a3,m⟩|⟨a3,W,m⟩|m);(exact .inl λ_ _ _ L=>by rw[m]at L;cases L);(exact .inl λ_ _ _ L=>by rw[m]at L;cases L);exact .inr m
def rL(l:aa Nat):(Sy51.ints l).map aB=aK l:=by unfold Sy51.ints aK;rw[ck];rfl
def rM(l:aa Nat):(Sy51.ints l).length=l.length:=by unfold Sy51.ints;rw[aq]
def oL(v:Int)(l:aa Nat):(jc #v[v,[Sy51.ints l]]).map aB=[aB v]++(aB (l.length:Nat)::aK l):=by show aB v::(([Sy51.ints l].flatMap λ(w:aa Int)=>(w.length:Int)::w).map aB)=_;rw[oW,Fx,gY,cI,rL,rM];rfl
def M9(v:Int)(l m:aa Nat):(jc #v[v,[Sy51.ints l,Sy51.ints m]]).map aB=([aB v]++(aB (l.length:Nat)::aK l))++(aB (m.length:Nat)::aK m):=by show aB v::(([Sy51.ints l,Sy51.ints m].flatMap λ(w:aa Int)=>(w.length:Int)::w).map aB)=_;rw[oW,oW,Fx,gY,dY,cI,cI,rL,rM,rL,rM];rfl
def YS(v:Int)(l m n:aa Nat):(jc #v[v,[Sy51.ints l,Sy51.ints m,Sy51.ints n]]).map aB=(([aB v]++(aB (l.length:Nat)::aK l))++(aB (m.length:Nat)::aK m))++(aB (n.length:Nat)::aK n):=by show aB v::(([Sy51.ints l,Sy51.ints m,Sy51.ints n].flatMap λ(w:aa Int)=>(w.length:Int)::w).map aB)=_;rw[oW,oW,oW,Fx,gY,dY,dY,cI,cI,cI,rL,rM,rL,rM,rL,rM];simp
def M_{s:bY}(o:aW.Ok s.lane):(fH s).2.length<=60:=by rw[aL.n3];show((aL.iE s).map _).length<=60;rw[aq];refine dQ (iq _ _) ?_;have a:=o.count;have b:=o.fY;show s.lane.waits.length<=60;lia
def YT:bf P w K mg aJ bq 7 A.jI.f A.jI.fd ["session"] (f_ A K λc=>c=.post):=by refine T.jI.fn.bJ De (λH vs _ E g h=>?_);obtain⟨ap,cl,ns,_,B,s,c,rest,rfl,b,o,_,ah,_,_,k⟩:=h;obtain rfl:=ah;obtain⟨_,am⟩:=b.obj;have as:=bZ;refine#v[_,ay (ba 1 De.nd a0) (ay (cN (gP (ef ((M0 T).to 6) g T.oA (aQ aS))) (bc (bO (aQ (bG T.rx)))) c9) (ay (cN (cO gD (dE T.dW (aX (aX aS))) bS (cm _)) (bc (bO (aQ (bG T.zc)))) c9) (ay (ba 2 De.nd (cD aS T.aF.c T.aF.yR (DX T) g)) (bc (cS g9 (bO (aQ (cD aS T.aF.c T.aF.J9 ((X3 T).to 6) g))) (ef ((hv T).to 6) g T.fJ (aQ aY))))))),?_];obtain⟨N,ag,a⟩:=b.br;obtain⟨W,C⟩:=a.obj;obtain⟨dl,ak⟩:=a.lane.obj;obtain⟨_,_⟩:=a.file.obj;refine#v[I,am,T.aO.c.cl,T.aO.fu,fC _ _ _,B,s,I,#v[N,ag,a],_,I,cg (λj=>?_) (λj=>?_)];((have d:gZ<=s.file.posts.length:=show 60<=s.file.posts.length by simpa using j);have e:di s .post=(s,lA (-5)):=(by show(if gZ<=s.file.posts.length then _ else _)=_;rw[aI d]);rw[e]at k;exact#v[(bB 1),λR l=>k.fin b (bT.same (Z.refl _)) l I]);(have d:¬gZ<=s.file.posts.length:=show¬60<=s.file.posts.length by simpa using j);refine#v[I,C,T.aF.c.cl,T.aF.gV,hy _ _ _ _ _,I,ak,T.ak.c.cl,T.ak.i6,oF _ _,_,_,I,.inl (aA.of a.lane.cr),_,_,I,I,_,I,cg (λf=>?_) (λf=>?_)];((have al:s.lane.onIt.isEmpty=ax:=by match e:s.lane.onIt with| []=>rw[e]at f;simp at f|x::r=>rfl);have e:di s .post=(s,lA (-4)):=(by show(if gZ<=s.file.posts.length then _ else if s.lane.onIt.isEmpty=ax then _ else _)=_;rw[aD d,aI al]);rw[e]at k;exact#v[(bB 1),λR l=>k.fin b (bT.same (Z.refl _)) l I]);(have J:s.lane.onIt=[]:=by match e:s.lane.onIt with| []=>rfl|x::r=>rw[e]at f;simp at f);(have e:di s .post=((fH s).1,#v[((fH s).1.file.posts.getLastD #v[0,0,0]).limit,[Sy51.ints (fH s).2]]):=(by show(if gZ<=s.file.posts.length then _ else if s.lane.onIt.isEmpty=ax then _ else _)=_;rw[aD d,aD (by rw[J];exact jl)]);rw[e]at k;have y:s.file.posts.length<60:=Nat.lt_of_not_le d;refine#v[B.b,W,_,I,C,I,B,s,I,#v[o.lane,o.file,o.len,o.now,y,J,o.gi,o.iD,o.lE,o.kU],#v[N,ag,a],λH1 p S t v i _ ac _=>?_];have q:=b.go v i t;have V:bT H H1 ap B p:=.go v;obtain⟨_,an⟩:=q.obj;obtain⟨Y,_⟩:=aL.Bo o.file y;have L:(fH s).1.file.posts=s.file.posts++ [#v[s.file.today,s.file.entries.length,ej s.file s.file.today s.file.entries.length]]:=by rw[aL.n3];show(cb s.file .post).1.posts=_;rw[Y]);obtain⟨aq,ao,u⟩:=t;obtain⟨X,pS⟩:=u.obj;rw[i]at pS;refine#v[B.b,X,_,I,pS,I,p,(fH s).1,_,_,(by rw[i];rfl),#v[aq,ao,u],L,(bB 1),λU ad=>?_];have m:=Z.new (o:=cT [aB ((ej s.file s.file.today s.file.entries.length:Nat):Int)]) ad;have ar:=M_ o.lane;refine#v[S,_,I,m _ _ ac,(by rw[cy];lia),λ_ F n _ z=>?_];rw[cy]at z;refine#v[U,F,_,_,I,I,n _ _ az,z,(by simp only[cU,e_,cy];lia),λG af=>?_];refine k.fin ((q.same m).same n) (V.trans (.same (m.trans n)) an) af ?_;rw[oL,L,List.getLastD_concat]
def YU:bf P w K mg aJ bq 7 A.jL.f A.jL.fd ["session"] (f_ A K λc=>∃n,c=.ticks n):=by(refine T.jL.fn.bJ y9 (λH vs U E j h=>?_);obtain⟨r,cl,ns,as,B,s,c,rest,rfl,g,o,_,ah,_,ak,k⟩:=h;obtain⟨n,rfl⟩:=ah;obtain⟨W,ao⟩:=g.obj;have aE:=bZ;refine#v[_,ay (ba 1 y9.nd (cD a7 T.aO.c T.aO.eK ((eV T).to 6) j)) (ay (ba 2 y9.nd a0) (ay (cN (k0 (n5 g8 g8 bS aS (bG T.VG))) (bc (bO (aQ (bG T.jZ)))) c9) (ay (ba 3 y9.nd (pm aY T.aF.c T.aF.J_ (XO T) j (aQ aS))) (bc (cS g9 (bO (aQ (aX (aX aY)))) (ef ((hv T).to 6) j T.fJ (aQ (pv 3)))))))),?_];obtain⟨aq,an⟩:=eW ak;refine#v[r,W,_,I,ao,I,r,cl,B.b,ns,as+0,(n:Int),I,g.eM,aq,λH1 av z=>?_];have aA:=an;have d:=g.cE av z;obtain⟨_,N⟩:=d.obj;have t:bT H H1 r B B:=bT.cE z;obtain⟨aw,ag,f⟩:=d.br;obtain⟨V,af⟩:=f.obj;obtain⟨dl,_⟩:=f.lane.obj;obtain⟨_,_⟩:=f.file.obj;refine#v[I,N,T.aO.c.cl,T.aO.fu,fC _ _ _,?_];have Q:(n<1\/1000<n)->∀a,H1 a=aR->U (.ref a) (Y H1 a (.lst [.int (-1)])):=λh a b=>by have e:di s (.ticks n)=(s,lA (-1)):=(by show(if n<1\/1000<n then _ else _)=_;rw[aI h]);rw[e]at k;exact k.fin d t b I);refine#v[_,_,I,I,_,I,cg (λi=>?_) (λi=>?_)];(have J:1<=n:=(by have:(1:Int)<=(n:Int):=(by simpa using i);lia);refine#v[_,_,I,I,_,I,?_];by_cases X:n<=1000;((rw[eP (show(n:Int)<=1000 by lia)];refine eJ ?_;have e:di s (.ticks n)=(eA n s,#v[((eA n s).lane.time:Nat),[Sy51.ints (((eA n s).lane.past.drop s.lane.past.length).map λ(p:j8)=>p.id)]]):=by show(if n<1\/1000<n then _ else _)=_;rw[aD ∅]);rw[e]at k;refine#v[B.b,V,_,I,af,I,B,s,n,I,X,o,#v[aw,ag,f],λ_ R ar v C y _ am=>?_];have u:=d.go C y v;have L2:=t.trans (.go C) N;obtain⟨_,ap⟩:=u.obj;obtain⟨_,_,x⟩:=v;obtain⟨_,i4⟩:=x.obj;obtain⟨_,al⟩:=x.lane.obj;rw[y]at i4;refine#v[I,i4,T.aF.c.cl,T.aF.gV,hy _ _ _ _ _,I,al,T.ak.c.cl,T.ak.k_,(by rfl:(cX R.L (eA n s).lane).lookup ("time":M)=O (.int (eA n s).lane.time)),(bB 1),λS ac=>?_];have m:=Z.new (o:=cT [aB ((eA n s).lane.time:Int)]) ac;have aC:=rJ (l:=s.lane) (DW n o.tok).lane;refine#v[ar,_,I,m _ _ am,(by rw[cy];lia),λ_ F q _ L=>?_];rw[cy]at L;refine#v[S,F,_,_,I,I,q _ _ az,L,(by simp only[cU,e_,cy];lia),λG ad=>?_];refine k.fin ((u.same m).same q) (L2.trans (.same (m.trans q)) ap) ad ?_;rw[oL];rfl);rw[ek (show¬(n:Int)<=1000 by lia)];exact de #v[(bB 1),λa b=>Q (.inr ∅) a b]);have J:n<1:=(by have:¬(1:Int)<=(n:Int):=(by simpa using i);lia);exact#v[_,I,de #v[(bB 1),λa b=>Q (.inl J) a b]]
def SB.lane{H1 a:Hp}{h cl:U}{ns:aa Int}{p:Nat}{B:BA}{s:bY}{vs:aa U}{c:G}{e:aa VD}(S:SB A K H1 h cl ns p B s)(j:b9 A a {B.L with vs:=vs} c e)(f:∀b o,H1 b=O o->¬LF B.L b->a b=O o)(l:∀x∈vs,x∈B.L.vs\/H1 x=aR)(k:c.spans=s.lane.spans):SB A K a h cl ns p {B with L:={B.L with vs:=vs} } {s with lane:=c}/\Go H1 a B {B with L:={B.L with vs:=vs} }:=by obtain⟨_,ag,b⟩:=S.br;have g:Go H1 a B {B with L:={B.L with vs:=vs} }:=Go.lane f I (λx d=>.inl d) l;have i:dP A a {B with L:={B.L with vs:=vs} } {s with lane:=c} e ag:=b.DQ (s':={s with lane:=c}) j f I I (λx d=>.inl d) b.lg (by show(c.spans.map λx=>x.1)=_;rw[k]) I I I I;exact#v[S.go g I #v[e,ag,i],g]
def Na{s:G}(o:aW.Ok s){c:F}(a:c∈s.waits):s.waits.find? (λ(x:F)=>x.id==c.id)=O c:=by cases h:s.waits.find? (λ(x:F)=>x.id==c.id)with|none=>exact absurd (hX.mp h c a) (by simp)|some x=>(have b:=nB h;have d:x.id=c.id:=by simpa using nC h);rw[bw.By (sC (List.sublist_append_left _ _) (dF.pF o)) b a d]
def YV{s:G}{i:Nat}(h:¬dF.kl s i):s.waits.find? (λ(x:F)=>x.id==i)=aj:=by rw[hX];intro x a e;exact h #v[x,a,by simpa using e]
def Nb{s:G}(o:aW.Ok s){c:F}(a:c∈s.waits)(fA:Nat):qa s fA c=hF s fA [c]:=by rw[<-Mj (fL.of o) (λx b=>by rw[c_.mp b];exact a)];have:=DC s fA [] c;rw[DB]at this;exact this
def D2(s:bY)(c:Sy49.Call):qn s c=({s with lane:=(hY s.lane c).1},ve (hY s.lane c).2):=rfl
def AK.lU{H H1:Hp}{b cl:U}{ns:aa Int}{B:BA}{p:Nat}{s:bY}{c:Sy49.Call}{f:Int}{d:VK}(k:AK A K H b cl ns B p (qn s c) d)(e:hY s.lane c=(s.lane,jo f))(S:SB A K H1 b cl ns p B s)(L:bT H H1 b B B){a:U}(g:H1 a=aR):d (.ref a) (Y H1 a (.lst [.int f])):=by rw[D2,e]at k;exact k.fin S L g I
def YW:bf P w K mg aJ bq 3 A.jK.f A.jK.fd ["session"] (f_ A K λc=>∃i,c=.gives i):=by refine T.jK.fn.bJ y8 (λH vs af E Q h=>?_);obtain⟨R,cl,ns,aG,B,s,c,rest,rfl,z,o,_,l,_,ap,k⟩:=h;obtain⟨i,rfl⟩:=l;obtain⟨ak,az⟩:=z.obj;have aP:=bZ;refine#v[_,(ay (ba 1 y8.nd (cD a7 T.aO.c T.aO.eK ((eV T).to 2) Q)) (ay (ba 2 y8.nd (aX a0)) (ay (cN (cO iX aS (dE T.dW (aX aY)) (cm _)) (bc (bO (aQ (bG T.p5)))) c9) (ay (ba 3 y8.nd (cC d9 (aX aY) aS (λ_ _=>rfl))) (ay (cN (cO v3 (aX (pv 3)) (bG T.uc) (cm _)) (bc (bO (aQ (bG T.zc)))) c9) (ay (e0 (pm aY T.ak.c T.ak.CS ((Mh T).to 2) Q (cv (pv 3) (bG T.Vu)))) (bc (bO (aQ (cD aY T.ak.c T.ak.I6 ((Wh T).to 2) Q)))))))))),?_];obtain⟨aF,aw⟩:=eW ap;refine#v[R,ak,_,I,az,I,R,cl,B.b,ns,aG+0,(i:Int),I,z.eM,aF,λH1 r U=>?_];have aO:=aw;have n:=z.cE r U;obtain⟨_,Z⟩:=n.obj;have y:bT H H1 R B B:=bT.cE U;obtain⟨m,ag,a⟩:=n.br;obtain⟨_,ao⟩:=a.obj;obtain⟨dl,J⟩:=a.lane.obj;obtain⟨_,_⟩:=a.file.obj;refine#v[I,Z,T.aO.c.cl,T.aO.fu,fC _ _ _,I,ao,T.aF.c.cl,T.aF.gV,hy _ _ _ _ _,I,J,T.ak.c.cl,T.ak.hQ,lR,_,_,I,.inl (aA.of a.lane.bX),_,_,I,I,_,I,cg (λC=>?_) (λC=>?_)];((have q:s.lane.came<=i:=(by have:(((B.L.vs.map aT).length:Nat):Int)<=(i:Int):=(by simpa using C);rw[aq,a.lane.b7]at this;lia);have p:hY s.lane (.gives i)=(s.lane,jo (-2)):=by show(if s.lane.came<=i then _ else _)=_;rw[aI q]);exact#v[(bB 1),λd f=>AK.lU (c:=.gives i) k p n y f]);(have q:i<s.lane.came:=(by have:¬(((B.L.vs.map aT).length:Nat):Int)<=(i:Int):=(by simpa using C);rw[aq,a.lane.b7]at this;lia);have aE:i<B.L.vs.length:=(by rw[a.lane.b7];exact q);have L:=gW aE;have aC:m[i]? =O (m.getD i cL):=f5 (by rw[a.lane.dN];exact q);obtain⟨_,N⟩:=a.lane.d7 i _ _ L aC;refine#v[I,J,T.ak.c.cl,T.ak.hQ,lR,B.L.bX,_,_,_,I,I,aA.of a.lane.bX,eD (j:=i) (v:=.ref (B.L.vs.getD i 0)) (by rw[bN,L];rfl),?_];have X:(m.getD i cL).status≠0->¬dF.kl s.lane i->∀d,H1 d=aR->af (.ref d) (Y H1 d (.lst [.int (-4)])):=λ_ b d f=>by have p:hY s.lane (.gives i)=(s.lane,jo (-4)):=(by show(if s.lane.came<=i then _ else _)=_;rw[aD ∅,YV b]);exact AK.lU (c:=.gives i) k p n y f);rcases dF.sT o.lane q with b|b|b;((obtain⟨c,l,rfl⟩:=b;obtain⟨r,ad,u⟩:=a.lane.lw c l;have p:hY s.lane (.gives c.id)=(hF s.lane 1 [c],jo ((s.lane.waits.length-1:Nat):Int)):=by show(if s.lane.came<=c.id then _ else _)=_;rw[aD ∅,Na o.lane l]);(refine#v[I,N,T.aP.c.cl,T.aP.gU,kD,I,_,I,?_];rw[u];refine eJ ?_;have aN:=o.lane.count;have aL:=o.lane.fY;refine#v[B.L.l,dl,_,I,J,I,B.L,s.lane,m,c,_,1,I,fL.of o.lane,by lia,a.lane,l,L,λ_ aK t al _ _=>?_];rw[Nb o.lane l]at t;obtain⟨S,am⟩:=SB.lane (vs:=B.L.vs) n t al (λx g=>.inl g) I;obtain⟨_,_⟩:=S.obj;obtain⟨ah,ar⟩:=t.obj;refine#v[B.L.l,ah,_,I,ar,I,B.L,hF s.lane 1 [c],aK,I,t,(λx g=>o.lane.jr x (c0.mp g).1),(bB 1),λd f=>?_];have ac:=k;rw[show di s (.gives c.id)=qn s (.gives c.id)from I,D2,p]at ac;refine ac.fin S (y.trans (.go am) Z) f ?_;have as:(hF s.lane 1 [c]).waits.length=s.lane.waits.length-1:=by rw[<-Nb o.lane l];show(s.lane.waits.filter λ(x:F)=>x.id !=c.id).length=_;have an:=(aW.pC s.lane.waits c l o.lane.lD).length_eq;rw[cU,aq,aq]at an;lia);rw[as];rfl);(obtain⟨x,g,rfl⟩:=b;obtain⟨r,ad,u,_⟩:=a.lane.lo x g;refine#v[I,N,T.aP.c.cl,T.aP.gU,kD,I,_,I,?_];rw[u];exact de #v[(bB 1),λd f=>X (by rw[u];decide) (λb=>dF.sS o.lane b #v[x,g,I]) d f]);(obtain⟨x,g,rfl⟩:=b;obtain⟨r,ad⟩:=a.lane.lp x g;refine#v[I,N,T.aP.c.cl,T.aP.gU,kD,I,_,I,?_];have W:(m.getD x.id cL).status≠0:=by rw[r];lia);refine cg (λ_=>#v[(bB 1),λd f=>X W (λb=>dF.vH o.lane b x g I) d f]) λaH=>?_;exfalso;apply aH;have av:¬aB ((m.getD x.id cL).status:Int)=aB 0:=λe=>W (by have:=V.int.inj e;lia);rw[ek av];rfl
def YX:bf P w K mg aJ bq 4 A.jJ.f A.jJ.fd ["session"] (f_ A K λc=>∃d w,c=.comes d w):=by refine T.jJ.fn.bJ y7 (λH vs X E v h=>?_);obtain⟨p,cl,ns,V,B,s,c,rest,rfl,z,o,_,al,_,am,k⟩:=h;obtain⟨sd,a,rfl⟩:=al;obtain⟨ac,as⟩:=z.obj;have aK:=bZ;refine#v[_,(ay (ba 1 y7.nd (cD a7 T.aO.c T.aO.eK ((eV T).to 3) v)) (ay (ba 2 y7.nd (cD a7 T.aO.c T.aO.eK ((eV T).to 3) v)) (ay (ba 3 y7.nd (aX a0)) (ay (cN (gP (aX a0)) (bc (bO (aQ (bG T.VA)))) c9) (ay (cN (PW.pt (lJ (cO gD aS bS (cm _)) (mL (k0 (n5 g8 g8 bS aY (bG T.VF)))))) (bc (bO (aQ (bG T.jZ)))) c9) (ay (cN (cO iX (dE T.dW (aX (pv 3))) (bG T.VI) (cm _)) (bc (bO (aQ (bG T.rx)))) c9) (ay (cN (cO gD aY (cD (pv 3) T.ak.c T.ak.CQ ((Me T).to 3) v) (cm _)) (bc (bO (aQ (bG T.Vz)))) c9) (bc (bO (aQ (pm (pv 3) T.ak.c T.ak.I7 (Wk T) v (cv aS aY)))))))))))),?_];obtain⟨av,ap⟩:=eW am;refine#v[p,ac,_,I,as,I,p,cl,B.b,ns,V+0,(sd:Int),I,z.eM,av,λH1 aC N=>?_];have an:=ap;have C:=z.cE aC N;obtain⟨ad,U⟩:=C.obj;have W:bT H H1 p B B:=bT.cE N;obtain⟨aw,ar⟩:=eW an;refine#v[p,ad,_,I,U,I,p,cl,B.b,ns,V+1,(a:Int),I,C.eM,aw,λy aE Q=>?_];have aH:=ar;have i:=C.cE aE Q;obtain⟨_,L⟩:=i.obj;have L2:bT H y p B B:=W.trans (bT.cE Q) U;obtain⟨aF,ag,g⟩:=i.br;obtain⟨_,R⟩:=g.obj;obtain⟨dl,u⟩:=g.lane.obj;obtain⟨_,_⟩:=g.file.obj;refine#v[I,L,T.aO.c.cl,T.aO.fu,fC _ _ _,I,R,T.aF.c.cl,T.aF.gV,hy _ _ _ _ _,I,L,T.aO.c.cl,T.aO.fu,fC _ _ _,I,R,T.aF.c.cl,T.aF.ua,DP _ _ _ _ _,_,I,?_];cases S:s.closed with|true=>have e:di s (.comes sd a)=(s,lA (-7)):=(by show(if s.closed=ai then _ else _)=_;rw[aI S]);rw[e]at k;exact de #v[(bB 1),λf b=>k.fin i L2 b I]|false=>(have e:di s (.comes sd a)=qn s (.comes sd a):=(by show(if s.closed=ai then _ else _)=_;rw[aD (by rw[S];exact d8)]);rw[e]at k;refine eJ ?_;have J:(1<sd\/a<1\/1000<a)->∀f,y f=aR->X (.ref f) (Y y f (.lst [.int (-1)])):=λh f b=>by have j:hY s.lane (.comes sd a)=(s.lane,jo (-1)):=(by show(if 1<sd\/a<1\/1000<a then _ else _)=_;rw[aI h]);exact AK.lU (c:=.comes sd a) k j i L2 b);by_cases n:1<sd\/a<1\/1000<a;(refine#v[_,_,I,I,_,I,cg (λl=>?_) (λl=>?_)];(exact de #v[(bB 1),λf b=>J n f b]);have q:¬1<sd:=(by have:¬(1:Int)<(sd:Int):=(by simpa using l);lia);refine#v[_,_,I,I,_,I,cg (λm=>?_) (λm=>?_)];(have t:1<=a:=(by have:(1:Int)<=(a:Int):=(by simpa using m);lia);refine#v[_,_,I,I,_,I,?_];rw[ek (show¬(a:Int)<=1000 by lia)];exact de #v[(bB 1),λf b=>J n f b]);exact#v[_,I,de #v[(bB 1),λf b=>J n f b]]);refine#v[_,_,I,I,_,I,?_];rw[ek (show¬(sd:Int)>1 by lia)];refine eJ #v[_,_,I,I,_,I,?_];rw[eP (show(1:Int)<=(a:Int)by lia)];refine de #v[_,_,I,I,_,I,?_];rw[eP (show(a:Int)<=1000 by lia)];refine eJ ?_;refine#v[I,u,T.ak.c.cl,T.ak.hQ,lR,_,_,I,.inl (aA.of g.lane.bX),_,_,I,I,_,I,cg (λl=>?_) (λl=>?_)];((have q:60<=s.lane.came:=(by have:(60:Int)<=(((B.L.vs.map aT).length:Nat):Int):=(by simpa using l);rw[aq,g.lane.b7]at this;lia);have j:hY s.lane (.comes sd a)=(s.lane,jo (-5)):=by show(if 1<sd\/a<1\/1000<a then _ else if qo<=s.lane.came then _ else _)=_;rw[aD n,aI (show qo<=s.lane.came from q)]);exact#v[(bB 1),λf b=>AK.lU (c:=.comes sd a) k j i L2 b]);have q:¬60<=s.lane.came:=(by have:¬(60:Int)<=(((B.L.vs.map aT).length:Nat):Int):=(by simpa using l);rw[aq,g.lane.b7]at this;lia);refine#v[B.L.l,dl,_,I,u,I,B.L,s.lane,dl,I,u,g.lane.lim,o.lane.iA,_,_,I,I,_,I,cg (λm=>?_) (λm=>?_)];((have t:gd s.lane<a:=(by have:((gd s.lane:Nat):Int)<(a:Int):=(by simpa using m);lia);have j:hY s.lane (.comes sd a)=(s.lane,jo (-6)):=by show(if 1<sd\/a<1\/1000<a then _ else if qo<=s.lane.came then _ else if gd s.lane<a then _ else _)=_;rw[aD n,aD (show¬qo<=s.lane.came from q),aI t]);exact#v[(bB 1),λf b=>AK.lU (c:=.comes sd a) k j i L2 b]);(have t:¬gd s.lane<a:=(by have:¬((gd s.lane:Nat):Int)<(a:Int):=(by simpa using m);lia);have j:hY s.lane (.comes sd a)=(uj s.lane sd a,jo (s.lane.came:Nat)):=by show(if 1<sd\/a<1\/1000<a then _ else if qo<=s.lane.came then _ else if gd s.lane<a then _ else _)=_;rw[aD n,aD (show¬qo<=s.lane.came from q),aD t];rfl);have aG:=o.lane.count;refine#v[B.L.l,dl,_,I,u,I,B.L,s.lane,aF,sd,a,I,by lia,by lia,by lia,o.lane,g.lane,λ_ az ak af ao=>#v[(bB 1),λf b=>?_]];obtain⟨Z,ah⟩:=SB.lane (vs:=B.L.vs++ [az]) i ak af (λx r=>by rcases dh.mp r with r|r;(exact .inl r);rw[c_.mp r];exact .inr ao) I;rw[D2,j]at k;exact k.fin Z (L2.trans (.go ah) L) b I
def YY(v:Int)(a:Nat):(jc (ve #v[v,[[(a:Int)]]])).map aB=[aB v]++(aB ((1:Nat):Int)::[aB (a:Int)]):=rfl
def YZ{s:G}(o:aW.Ok s){c:F}(a:c∈s.waits){j:Nat}(b:(bH s c.side)[j]? =O c):lB s c.id=#v[0,[[(j:Int)]]]:=by(unfold lB;have f:s.past.find? (λ(p:eG)=>p.id==c.id)=aj:=by rw[hX];intro p q e;exact dF.vH o #v[c,a,I] p q (by simpa using e));(have g:s.onIt.find? (λ(x:F×Nat)=>x.1.id==c.id)=aj:=by rw[hX];intro x r e;exact dF.sS o #v[c,a,I] #v[x,r,by simpa using e]);(rw[f,g,Na o a];simp only;have n:((bH s c.side).map λ(c:F)=>c.id).Nodup:=sC (AX _ u_) o.lD;have h:(bH s c.side).findIdx? (λ(x:F)=>x.id==c.id)=O j:=by(rw[P9];obtain⟨l,k⟩:=cM.mp b;refine#v[l,by rw[k];simp,λm _=>?_];intro e;have d:((bH s c.side)[m]).id=c.id:=by simpa using e);have:=jz n (i:=m) (j:=j) (x:=c.id) (by rw[bN,b_ ∅];exact dR O d) (by rw[bN,b];rfl);lia);unfold Sy49.placeIn;rw[h];rfl
def Y0{s:G}(o:aW.Ok s){x:F×Nat}(b:x∈s.onIt):lB s x.1.id=#v[1,[[(cj s x.1.side x.2:Nat)]]]:=by(unfold lB;have f:s.past.find? (λ(p:eG)=>p.id==x.1.id)=aj:=by rw[hX];intro p l e;exact dF.Bu o #v[x,b,I] p l (by simpa using e));(have g:s.onIt.find? (λ(a:F×Nat)=>a.1.id==x.1.id)=O x:=by cases h:s.onIt.find? (λ(a:F×Nat)=>a.1.id==x.1.id)with|none=>exact absurd (hX.mp h x b) (by simp)|some a=>(have m:=nB h;have n:a.1.id=x.1.id:=by simpa using nC h);have k:(s.onIt.map λ(x:F×Nat)=>x.1.id).Nodup:=(hB.mp (hB.mp (dF.pF o)).2.1).1;obtain⟨i,c⟩:=nY.mp m;obtain⟨j,d⟩:=nY.mp b;have:=jz k (i:=i) (j:=j) (x:=x.1.id) (by rw[bN,c];exact dR O n) (by rw[bN,d];rfl);subst this;rw[<-aM (c.symm.trans d)]);rw[f,g]
def Y1{s:G}(o:aW.Ok s){p:eG}(d:p∈s.past):lB s p.id=#v[(p.how:Int)+2,[[(p.time:Int)]]]:=by(unfold lB;have e:s.past.find? (λ(a:eG)=>a.id==p.id)=O p:=by cases h:s.past.find? (λ(a:eG)=>a.id==p.id)with|none=>exact absurd (hX.mp h p d) (by simp)|some l=>(have g:=nB h;have k:l.id=p.id:=by simpa using nC h);have f:(s.past.map λ(p:eG)=>p.id).Nodup:=(hB.mp (hB.mp (dF.pF o)).2.1).2.1;obtain⟨i,b⟩:=nY.mp g;obtain⟨j,c⟩:=nY.mp d;have:=jz f (i:=i) (j:=j) (x:=p.id) (by rw[bN,b];exact dR O k) (by rw[bN,c];rfl);subst this;rw[<-aM (b.symm.trans c)]);rw[e]
def Y2{s:G}(o:aW.Ok s){i:Nat}(h:s.came<=i):lB s i=jo (-2):=by(unfold lB;have b:s.past.find? (λ(p:eG)=>p.id==i)=aj:=by rw[hX];intro p f e;have:=dF.ia o (i:=i) (.inr (.inr #v[p,f,by simpa using e]));lia);(have c:s.onIt.find? (λ(x:F×Nat)=>x.1.id==i)=aj:=by rw[hX];intro x a e;have:=dF.ia o (i:=i) (.inr (.inl #v[x,a,by simpa using e]));lia);(have d:s.waits.find? (λ(x:F)=>x.id==i)=aj:=by rw[hX];intro x a e;have:=dF.ia o (i:=i) (.inl #v[x,a,by simpa using e]);lia);rw[b,c,d]
def Y3{s:bY}{n:Nat}(h:(cW eB (eg s)).file=(eg s).file)(a:(cb s.file (.day n)).1={s.file with today:=s.file.today+n}):aL.morning s n=gH (cW eB (eg s)) n:=by(have e:(cb (cW eB (eg s)).file (.day n)).1={(cW eB (eg s)).file with today:=(cW eB (eg s)).file.today+n}:=by rw[h];exact a);show({cW eB (eg s)with file:=(cb (cW eB (eg s)).file (.day n)).1,book:=(cW eB (eg s)).book++qP (cW eB (eg s)),now:=(cW eB (eg s)).now.map λ(_:Nat×Nat×aa Nat)=>(0,0,[])}:bY)=_;rw[e];rfl
def uB(l a:G):Prop:=∃r:aa eG,a.past=l.past++r/\∀p∈r,p.how=0
def uB.tick{l b:G}(g:uB l b):uB l (cn b):=by obtain⟨r,d,e⟩:=g;refine#v[r++_,by rw[aW.vp,d,gq],λp a=>?_];rcases dh.mp a with a|a;(exact e p a);obtain⟨c,_,rfl⟩:=bM.mp a;rfl
def Nc:∀(f:Nat)(l:G)(s:bY),uB l s.lane->uB l (cW f s).lane
 |0,l,s,g=>g
 |f+1,l,s,g=>by
  unfold cW;split
  ·exact g
  ·exact Nc f l (jh s) g.tick
def Y4{s:bY}(o:aL.Ok s){n:Nat}:((fH (gH (cW eB (eg s)) n)).1.lane.past.drop s.lane.past.length).filterMap (λ(p:j8)=>if p.how=0 then O p.id else aj)=fN s.lane (cW eB (eg s)).lane:=by(obtain⟨r,e,f⟩:=Nc eB s.lane (eg s) #v[[],by simp[eg],λp a=>(by cases a)];rw[aL.n3];show(((cW eB (eg s)).lane.past++(aL.iE (gH (cW eB (eg s)) n)).map λ(c:F)=>(#v[c.id,2,(cW eB (eg s)).lane.time]:eG)).drop s.lane.past.length).filterMap _=_;unfold fN;rw[e,gq,Fe (bp _),A1,uL,uQ,Fe (bp _),A1,uL];have b:r.filterMap (λ(p:j8)=>if p.how=0 then O p.id else aj)=r.map λp=>p.id:=by rw[<-List.filterMap_eq_map];apply aN.Gg;intro p a;rw[aI (f p a)];rfl);(have d:((aL.iE (gH (cW eB (eg s)) n)).map λ(c:F)=>(#v[c.id,2,(cW eB (eg s)).lane.time]:eG)).filterMap (λ(p:j8)=>if p.how=0 then O p.id else aj)=[]:=by rw[List.filterMap_eq_nil_iff];intro p a;obtain⟨c,_,rfl⟩:=bM.mp a;rfl);rw[b,d,gY]
def Y5:bf P w K mg aJ bq 3 A.jN.f A.jN.fd ["session"] (f_ A K λc=>∃i,c=.where_ i):=by refine T.jN.fn.bJ p0 (λH vs ac E S h=>?_);obtain⟨z,cl,ns,bk,B,s,c,rest,rfl,C,o,_,l,_,aV,k⟩:=h;obtain⟨i,rfl⟩:=l;obtain⟨av,a6⟩:=C.obj;have bo:=bZ;have a8:=k7 S;refine#v[_,(ay (ba 1 p0.nd (cD a7 T.aO.c T.aO.eK ((eV T).to 2) S)) (ay (ba 2 p0.nd (aX a0)) (ay (cN (cO iX aS (dE T.dW (aX aY)) (cm _)) (bc (bO (aQ (bG T.p5)))) c9) (ay (ba 3 p0.nd (cC d9 (aX aY) aS (λ_ _=>rfl))) (ay (cN (cO fl (aX (pv 3)) (bG T.uc) (cm _)) (cR (ba 4 p0.nd (gF gL Aw P_ (UE a8) (cC d9 (aX aY) (aX (pv 3)) (λ_ _=>rfl)) (aQ (pv 3))))) (cR (cN (cO fl (aX (pv 3)) (bG T.Dk) (cm _)) (cR (ba 4 p0.nd (aX (pv 3)))) (cR (ba 4 p0.nd (aX (pv 3))))))) (bc (cS g9 (bO (aQ (aX (pv 3)))) (ef ((hv T).to 2) S T.fJ (aQ (bO (aQ (pv 4)))))))))))),?_];obtain⟨bg,a4⟩:=eW aV;refine#v[z,av,_,I,a6,I,z,cl,B.b,ns,bk+0,(i:Int),I,C.eM,bg,λH1 g ad=>?_];have bn:=a4;have u:=C.cE g ad;obtain⟨_,al⟩:=u.obj;have Y:bT H H1 z B B:=bT.cE ad;obtain⟨f,ag,a⟩:=u.br;obtain⟨_,aO⟩:=a.obj;obtain⟨dl,Q⟩:=a.lane.obj;obtain⟨_,_⟩:=a.file.obj;refine#v[I,al,T.aO.c.cl,T.aO.fu,fC _ _ _,I,aO,T.aF.c.cl,T.aF.gV,hy _ _ _ _ _,I,Q,T.ak.c.cl,T.ak.hQ,lR,_,_,I,.inl (aA.of a.lane.bX),_,_,I,I,_,I,cg (λL=>?_) (λL=>?_)];((have p:s.lane.came<=i:=(by have:(((B.L.vs.map aT).length:Nat):Int)<=(i:Int):=(by simpa using L);rw[aq,a.lane.b7]at this;lia);have aw:hY s.lane (.where_ i)=(s.lane,jo (-2)):=by show(s.lane,lB s.lane i)=_;rw[Y2 o.lane p]);exact#v[(bB 1),λ_ aH=>AK.lU (c:=.where_ i) k aw u Y aH]);(have p:i<s.lane.came:=(by have:¬(((B.L.vs.map aT).length:Nat):Int)<=(i:Int):=(by simpa using L);rw[aq,a.lane.b7]at this;lia);have bd:i<B.L.vs.length:=(by rw[a.lane.b7];exact p);have R:=gW bd;have bb:f[i]? =O (f.getD i cL):=f5 (by rw[a.lane.dN];exact p);obtain⟨_,d⟩:=a.lane.d7 i _ _ R bb;refine#v[I,Q,T.ak.c.cl,T.ak.hQ,lR,B.L.bX,_,_,_,I,I,aA.of a.lane.bX,eD (j:=i) (v:=.ref (B.L.vs.getD i 0)) (by rw[bN,R];rfl),?_];have J:∀t:Nat,lB s.lane i=#v[((f.getD i cL).status:Int),[[(t:Int)]]]->(tj (gR HE (v9 (eC (fm K (b8 3) "status") fo)) (tF (MH K) [] E0 (eC (v9 (eC (b8 4) fo)) fo))):TS) {nx:=λ_ ar=>ac .non ar,rt:=ac} [O (.ref z),O (.int (i:Int)),O (.ref B.L.l),O (.ref (B.L.vs.getD i 0)),O (.int (t:Int))] H1:=λt be=>by have aF:di s (.where_ i)=(s,ve #v[((f.getD i cL).status:Int),[[(t:Int)]]]):=(by show(({s with lane:=s.lane}:bY),ve (lB s.lane i))=_;rw[be]);rw[aF]at k;refine#v[I,d,T.aP.c.cl,T.aP.gU,kD,(bB 1),λan aI=>?_];have am:=Z.new (o:=cT [aB ((f.getD i cL).status:Int)]) aI;refine#v[(bB 1),λao aK=>?_];have W:=Z.new (o:=cT [aB (t:Int)]) aK;refine#v[ao,_,I,az,(by show 1<2000000;decide),λ_ ap X _ aL=>?_];refine#v[an,ap,_,_,I,I,X _ _ (W _ _ az),aL,(bB (1+2)),λG aN=>?_];refine k.fin (((u.same am).same W).same X) (Y.trans (.same ((am.trans W).trans X)) al) aN ?_;rw[YY];rfl);rcases dF.sT o.lane p with r|r|r;((obtain⟨c,l,rfl⟩:=r;obtain⟨g,U,n⟩:=a.lane.lw c l;have af:=o.lane.jr c l;have aP:c∈bH s.lane c.side:=c0.mpr #v[l,by simp];obtain⟨j,aW,aE⟩:=fx aP;have N:(bH s.lane c.side)[j]? =O c:=by rw[b_ aW,aE]);(have ak:=a.lane.q af;have a5:((bH s.lane c.side).map λc=>cY B.L c.id)=((bH s.lane c.side).map λc=>B.L.vs.getD c.id 0).map aT:=by rw[ck];rfl);(have a3:H1 (B.L.q c.side)=O (.lst (((bH s.lane c.side).map λc=>B.L.vs.getD c.id 0).map aT)):=(by rw[ak,a5]);refine#v[I,d,T.aP.c.cl,T.aP.gU,kD,I,_,I,?_];rw[n];refine de ?_;refine#v[I,Q,T.ak.c.cl,T.ak.kC,Dr,I,d,T.aP.c.cl,T.aP.rd,LR,B.L.wt,_,_,_,I,I,aA.of a.lane.wt,eD (oH B.L (by rw[g];exact af)),?_];rw[g];have ah:∀x∈bH s.lane c.side,x.id<B.L.vs.length:=λx b=>by rw[a.lane.b7];exact dF.ia o.lane (.inl #v[x,(c0.mp b).1,I]));refine#v[.inl #v[I,_,aA.of ak],B.L.q c.side,A.aP.C,B.L.vs.getD c.id 0,(bH s.lane c.side).map (λc=>B.L.vs.getD c.id 0),j,I,I,aA.of a3,T.aP.c.eq,λ_ a2=>?_,?_,λm _ e=>?_,?_];(obtain⟨x,b,rfl⟩:=bM.mp a2;have y:=ah x b;obtain⟨as,aG⟩:=a.lane.d7 x.id _ _ (gW y) (f5 (by rw[a.lane.dN,<-a.lane.b7];exact y));exact#v[as,_,aG]);(rw[bN,N];rfl);(rw[bN]at e;cases b:(bH s.lane c.side)[m]?with|none=>rw[b]at e;cases e|some x=>rw[b]at e;have aC:B.L.vs.getD x.id 0=B.L.vs.getD c.id 0:=aM e;have y:=ah x (dJ b);have aD:=jz a.lane.hS (gW y) (by rw[aC];exact R);have a1:((bH s.lane c.side).map λ(c:F)=>c.id).Nodup:=sC (AX _ u_) o.lane.lD;have:=jz a1 (i:=m) (j:=j) (x:=c.id) (by rw[bN,b];exact dR O aD) (by rw[bN,N];rfl);lia);have:=J j (by rw[YZ o.lane l N,n];rfl);exact this);(obtain⟨x,b,rfl⟩:=r;obtain⟨g,U,n,bm⟩:=a.lane.lo x b;refine#v[I,d,T.aP.c.cl,T.aP.gU,kD,I,_,I,?_];rw[n];refine eJ ?_;refine#v[I,d,T.aP.c.cl,T.aP.gU,kD,I,_,I,?_];rw[n];refine de ?_;refine#v[I,d,T.aP.c.cl,T.aP.jB,LS,?_];exact J (f.getD x.1.id cL).cell (by rw[Y0 o.lane b,n,bm];rfl));(obtain⟨x,b,rfl⟩:=r;obtain⟨g,U⟩:=a.lane.lp x b;have bh:¬aB ((f.getD x.id cL).status:Int)=aB 0:=λe=>by have:=V.int.inj e;lia);(have bi:¬aB ((f.getD x.id cL).status:Int)=aB 1:=λe=>by have:=V.int.inj e;lia);refine#v[I,d,T.aP.c.cl,T.aP.gU,kD,I,_,I,?_];rw[ek bh];refine eJ ?_;refine#v[I,d,T.aP.c.cl,T.aP.gU,kD,I,_,I,?_];rw[ek bi];refine eJ ?_;refine#v[I,d,T.aP.c.cl,T.aP.rg,LU,?_];exact J (f.getD x.id cL).ended (by rw[Y1 o.lane b,g,U];rfl)
def Y6:bf P w K mg aJ bq 8 A.jD.f A.jD.fd ["session"] (f_ A K λc=>∃n,c=.day n):=by(refine T.jD.fn.bJ ub (λH vs L E d h=>?_);obtain⟨J,cl,ns,bp,B,s,c,rest,rfl,q,o,_,a3,_,a4,k⟩:=h;obtain⟨n,rfl⟩:=a3;obtain⟨aN,be⟩:=q.obj;have bA:=bZ;refine#v[_,(ay (ba 1 ub.nd (cD a7 T.aO.c T.aO.eK ((eV T).to 7) d)) (ay (ba 2 ub.nd a0) (ay (cN (k0 (n5 g8 g8 bS aS (bG T.VE))) (bc (bO (aQ (bG T.jZ)))) c9) (ay (cN (PW.pt (lJ (cO gD (cS kq (aX (aX aY)) aS) (bG T.LO) (cm _)) (mL (gP (ef ((M0 T).to 7) d T.oA (aQ aY)))))) (bc (bO (aQ (bG T.rx)))) c9) (ay (ba 3 ub.nd (cD aY T.aF.c T.aF.Ka ((XT T).to 7) d)) (ay (ba 4 ub.nd (pm aY T.aF.c T.aF.Kb (X1 T) d (aQ aS))) (bc (cS g9 (cS g9 (bO (aQ (aX (aX aY)))) (ef ((hv T).to 7) d T.fJ (aQ (pv 3)))) (ef ((hv T).to 7) d T.fJ (aQ (pv 4))))))))))),?_];obtain⟨bi,a8⟩:=eW a4;refine#v[J,aN,_,I,be,I,J,cl,B.b,ns,bp+0,(n:Int),I,q.eM,bi,λH1 bs ac=>?_];have bu:=a8;have f:=q.cE bs ac;obtain⟨_,am⟩:=f.obj;have m:bT H H1 J B B:=bT.cE ac;obtain⟨ar,ag,g⟩:=f.br;obtain⟨aG,al⟩:=g.obj;obtain⟨dl,_⟩:=g.lane.obj;obtain⟨_,bd⟩:=g.file.obj;refine#v[I,am,T.aO.c.cl,T.aO.fu,fC _ _ _,?_];have an:(n<1\/10000<n)->∀a,H1 a=aR->L (.ref a) (Y H1 a (.lst [.int (-1)])):=λh a b=>by have e:di s (.day n)=(s,lA (-1)):=(by show(if n<1\/10000<n then _ else _)=_;rw[aI h]);rw[e]at k;exact k.fin f m b I);refine#v[_,_,I,I,_,I,cg (λt=>?_) (λt=>?_)];(have j:1<=n:=(by have:(1:Int)<=(n:Int):=(by simpa using t);lia);refine#v[_,_,I,I,_,I,?_];by_cases af:n<=10000;((rw[eP (show(n:Int)<=10000 by lia)];refine eJ ?_;have Ec:(iN<s.file.today+n\/gZ<=s.file.posts.length)->∀a,H1 a=aR->L (.ref a) (Y H1 a (.lst [.int (-5)])):=λh a b=>by have e:di s (.day n)=(s,lA (-5)):=(by show(if n<1\/10000<n then _ else if iN<s.file.today+n\/gZ<=s.file.posts.length then _ else _)=_;rw[aD ∅,aI h]);rw[e]at k;exact k.fin f m b I);refine#v[I,al,T.aF.c.cl,T.aF.fB,fM _ _ _ _ _,I,bd,T.aC.c.cl,T.aC.i7,kF,_,_,I,I,_,_,I,I,_,I,cg (λu=>?_) (λu=>?_)];(have v:100000<s.file.today+n:=(by have:(100000:Int)<(s.file.today:Int)+(n:Int):=(by simpa using u);lia);exact de #v[(bB 1),λa b=>Ec (.inl v) a b]);have v:¬100000<s.file.today+n:=(by have:¬(100000:Int)<(s.file.today:Int)+(n:Int):=(by simpa using u);lia);refine#v[B,s,I,#v[ar,ag,g],_,I,cg (λx=>?_) (λx=>?_)];(have y:60<=s.file.posts.length:=(by simpa using x);exact#v[(bB 1),λa b=>Ec (.inr y) a b]);(have y:¬60<=s.file.posts.length:=(by simpa using x);have e:di s (.day n)=((vf s n).1,#v[((vf s n).1.file.today:Nat),[Sy51.ints (((vf s n).1.lane.past.drop s.lane.past.length).filterMap λ(p:j8)=>if p.how=0 then O p.id else aj),Sy51.ints (vf s n).2]]):=by show(if n<1\/10000<n then _ else if iN<s.file.today+n\/gZ<=s.file.posts.length then _ else _)=_;rw[aD ∅,aD (λbr=>br.elim v y)]);(rw[e]at k;have pre:=aL.F7 o j af ∅ ∅;have X:aL.morning s n=gH (cW eB (eg s)) n:=Y3 (aL.pD eB (s:=eg s) (o.lane.n0 ai)).2.2.1 (aL.Bp o.file j af ∅).1;rw[X]at pre;have aP:vf s n=fH (gH (cW eB (eg s)) n):=by rw[aL.vC,X]);rw[aP]at k;refine#v[B.b,aG,_,I,al,I,B,s,I,o.tok,#v[ar,ag,g],λ_ as bm R ad i _ a5 bn=>?_];have N:=f.go ad i R;have L2:=m.trans (.go ad) am;obtain⟨_,bg⟩:=N.obj;obtain⟨bt,bk,S⟩:=R;obtain⟨aH,i4⟩:=S.obj;rw[i]at i4;refine#v[B.b,aH,_,I,i4,I,as,_,n,(by rw[i];rfl),pre,#v[bt,bk,S],λ_ av aw U r W _ aV _=>?_];have Q:=N.go r W U;have aF:=L2.trans (.go r) bg;obtain⟨_,bh⟩:=Q.obj;obtain⟨a6,_⟩:=r.lst a5 bn;obtain⟨_,_,V⟩:=U;obtain⟨_,i5⟩:=V.obj;obtain⟨_,bb⟩:=V.file.obj;rw[W,i]at i5;refine#v[I,i5,T.aF.c.cl,T.aF.fB,fM _ _ _ _ _,I,bb,T.aC.c.cl,T.aC.i7,(by rfl:(qb av.R (fH (gH (cW eB (eg s)) n)).1.file.today).lookup ("today":M)=O (.int (fH (gH (cW eB (eg s)) n)).1.file.today)),(bB 1),λaA aW=>?_];have z:=Z.new (o:=cT [aB ((fH (gH (cW eB (eg s)) n)).1.file.today:Int)]) aW;have bo:=(aL.pD eB (s:=eg s) (o.lane.n0 ai)).1;have bv:=rJ (l:=s.lane) bo;have bw:=M_ pre.lane;refine#v[bm,_,I,z _ _ a6,(by rw[cy];lia),λ_ aC C _ ah=>?_];rw[cy]at ah;refine#v[aA,aC,_,_,I,I,C _ _ az,ah,(by simp only[cU,e_,cy];lia),λG a1=>?_];have ao:=Z.new (o:=cT ([aB ((fH (gH (cW eB (eg s)) n)).1.file.today:Int)]++aB ((fN s.lane (cW eB (eg s)).lane).length:Nat)::aK (fN s.lane (cW eB (eg s)).lane))) a1;refine#v[aw,_,I,ao _ _ (C _ _ (z _ _ aV)),(by rw[cy];lia),λ_ aE ap _ ak=>?_];rw[cy]at ak;refine#v[G,aE,_,_,I,I,ap _ _ az,ak,(by simp only[cU,e_,cV,cy];lia),λ_ a2=>?_];have aq:=((z.trans C).trans ao).trans ap;refine k.fin (Q.same aq) (aF.trans (.same aq) bh) a2 ?_;rw[M9];have aO:((fH (gH (cW eB (eg s)) n)).1.lane.past.drop s.lane.past.length).filterMap (λ(p:j8)=>if p.how=0 then O p.id else aj)=fN s.lane (cW eB (eg s)).lane:=Y4 o;rw[aO]);rw[ek (show¬(n:Int)<=10000 by lia)];exact de #v[(bB 1),λa b=>an (.inr ∅) a b]);have j:n<1:=(by have:¬(1:Int)<=(n:Int):=(by simpa using t);lia);exact#v[_,I,de #v[(bB 1),λa b=>an (.inl j) a b]]
def Nd(f:Nat->Nat):∀n:Nat,∀k,k<(bQ n).foldl (λ(m k:Nat)=>if f k<f m then k else m) 0->f ((bQ n).foldl (λ(m k:Nat)=>if f k<f m then k else m) 0)<f k
 |0,k,h=>absurd h (kM _)
 |n+1,k,h=>by
  rw[uO,qq]at h⊢;simp only[gI,List.foldl_nil]at h⊢;have b:=(bo.vv f (bQ n) 0).2.2;by_cases a:f n<f ((bQ n).foldl (λ(m k:Nat)=>if f k<f m then k else m) 0)
  ·rw[aI a]at h⊢;exact gc a (b k (gu.mpr h))
  ·rw[aD a]at h⊢;exact Nd f n k h
def Y7(s:cq)(ao n:Nat):∀k,k<oT s ao n->cp s (oT s ao n) ao n<cp s k ao n:=Nd (λk=>cp s k ao n) s.parts.length
def zI(m:ab (Nat×Nat)):Nat:=match m with
 |none=>0
 |some w=>w.1+1
def Nf(s:cq)(k d n:Nat):zI (aN.srcOf (s.entries.take n) k d)=A_ s k d n:=by unfold A_;rw[aN.Gi];cases aN.srcOf (s.entries.take n) k d<;>rfl
inductive Y8(vs:aa V)(H:Hp)(Q:VK)(E:XK):Prop|mk(m:ab (Nat×Nat))(_:vs=[f7 m])(_:Q (.int (zI m:Nat)) H)
def Ng:bf P w K mg aJ bq 1 A.oC.f A.oC.fd ["source"] Y8:=by refine T.oC.fn.bJ Vr (λH vs _ E _ h=>?_);obtain⟨m,rfl,k⟩:=h;refine#v[_,bc (s_ (cO fl a7 (bG T.ud) (cm _)) bS (cS kq a7 bS)),?_];cases m with|none=>exact⟨I,_,I,de k⟩|some c=>(refine⟨I,_,I,?_⟩;have a:¬decide (f7 (O c)=aB (-1))=ai:=by unfold f7;simp);refine cg (λb=>absurd b a) (λ_=>?_);exact#v[_,_,I,I,k]
inductive Y9(A:bF)(vs:aa V)(H:Hp)(Q:VK)(E:XK):Prop|mk(R:RA)(s:cq)(a n:Nat)(_:vs=[.ref R.r,.int a,.int n])(_:RecAt A H R s)(_:Q (.bl (decide (100000<a)||decide (s.entries.length<n))) H)
def Nh:bf P w K mg aJ bq 1 A.oE.f A.oE.fd ["records","day","n"] (Y9 A):=by refine T.oE.fn.bJ Vs (λH vs c E _ h=>?_);obtain⟨R,s,ao,n,rfl,a,k⟩:=h;obtain⟨_,d⟩:=a.obj;refine#v[_,bc (vU (jw gD aS (bG T.LO) (cm _)) (s9 (jw gD aY (dE T.dW a0) (cm _)))),_,_,I,I,_,I,?_];by_cases b:100000<ao;(rw[eP (show(ao:Int)>100000 by lia)];rw[eP b]at k;exact de k);(rw[ek (show¬(ao:Int)>100000 by lia)];rw[ek b]at k;refine eJ #v[I,d,T.aC.c.cl,T.aC.ie,iI,_,_,I,.inl (aA.of a.en),_,_,I,I,?_];have e:decide ((n:Int)>(((R.es.map aT).length:Nat):Int))=decide (s.entries.length<n):=by rw[aq,a.e4,ip];simp only[fh];lia);show c (V.bl (decide ((n:Int)>(((R.es.map aT).length:Nat):Int)))) H;rw[e];exact k
def Y_:bf P w K mg aJ bq 2 A.jQ.f A.jQ.fd ["session"] (f_ A K λc=>∃d,c=.queue d):=by refine T.jQ.fn.bJ y_ (λH vs _ E L h=>?_);obtain⟨t,cl,ns,aE,B,s,c,rest,rfl,j,o,_,e,_,ao,k⟩:=h;obtain⟨sd,rfl⟩:=e;obtain⟨ad,av⟩:=j.obj;have aP:=bZ;refine#v[_,(ay (ba 1 y_.nd (cD a7 T.aO.c T.aO.eK ((eV T).to 1) L)) (ay (cN (cO gD aS bS (cm _)) (bc (bO (aQ (bG T.jZ)))) c9) (ay (wd (i:=2) (dS:=[("v",3)]) (g:=eh 3) (tt:=fI) (te:=fm K (b8 3) "number") I y_.nd I I (we I I I I) (fU (cC d9 (aX (aX a0)) aS (λ_ _=>rfl))) (gn (by kernel_rfl)) (λ_ _ _ _ _=>dD (i:=3) y_.nd I (cB I)) (λ_ _ _ _ _=>ib) (λ_ _ _ _ _=>aX (pv 3))) (bc (cS g9 (bO (aQ (dE T.dW aY))) (ef (hv T) L T.fJ (aQ aY))))))),?_];obtain⟨aC,as⟩:=eW ao;refine#v[t,ad,_,I,av,I,t,cl,B.b,ns,aE+0,(sd:Int),I,j.eM,aC,λH1 aF v=>?_];have aN:=as;have b:=j.cE aF v;obtain⟨_,N⟩:=b.obj;have u:bT H H1 t B B:=bT.cE v;obtain⟨_,ag,a⟩:=b.br;obtain⟨_,am⟩:=a.obj;obtain⟨dl,ap⟩:=a.lane.obj;obtain⟨_,_⟩:=a.file.obj;refine#v[_,_,I,I,_,I,cg (λm=>?_) (λm=>?_)];((have n:1<sd:=(by have:(1:Int)<(sd:Int):=(by simpa using m);lia);have l:hY s.lane (.queue sd)=(s.lane,jo (-1)):=by show(s.lane,if 1<sd then _ else _)=_;rw[aI n]);exact#v[(bB 1),λf q=>AK.lU (c:=.queue sd) k l b u q]);(have n:¬1<sd:=(by have:¬(1:Int)<(sd:Int):=(by simpa using m);lia);have l:di s (.queue sd)=(s,#v[((bH s.lane sd).length:Nat),[Sy51.ints ((bH s.lane sd).map λ(c:F)=>c.id)]]):=by show(({s with lane:=s.lane}:bY),ve (if 1<sd then _ else _))=_;rw[aD n];rfl);(rw[l]at k;have J:=a.lane.q (show sd<=1 by lia);have aO:(bH s.lane sd).length<=60:=by have p:=iq (λ(c:F)=>c.side==sd) s.lane.waits;have aH:=o.lane.count;have aL:=o.lane.fY;show(s.lane.waits.filter _).length<=60;lia);refine#v[I,N,T.aO.c.cl,T.aO.fu,fC _ _ _,I,am,T.aF.c.cl,T.aF.gV,hy _ _ _ _ _,I,ap,T.ak.c.cl,T.ak.kC,Dr,B.L.wt,_,_,_,I,I,aA.of a.lane.wt,eD (oH B.L (show sd<=1 by lia)),B.L.q sd,I,#v[_,aA.of J],λf q=>mZ (K:=K) (aK ((bH s.lane sd).map λ(c:F)=>c.id)) q (aA.of J) (by rw[cy,aq,aq]) (by rw[aq];lia) (λ_=>rfl) (λi x _ Y aw r s' R al=>?_) λ_ aG p=>?_];((unfold aK at r;rw[ck]at r;obtain⟨c,e,rfl⟩:=eL aw;obtain⟨ac,an,rfl⟩:=eL r;have af:c=ac:=aM (e.symm.trans an);subst af;have C:c.id<B.L.vs.length:=by rw[a.lane.b7];exact dF.ia o.lane (.inl #v[c,(c0.mp (dJ e)).1,I]));obtain⟨_,ar⟩:=a.lane.d7 c.id _ _ (gW C) (f5 (by rw[a.lane.dN,<-a.lane.b7];exact C));exact#v[I,s' _ _ ar,T.aP.c.cl,T.aP.m3,rA _ _,al Y (Z.refl _)]);refine#v[f,_,I,.inl (aA.of p),(bB 1),λW ah=>?_];rw[cy,aq];have S:=Z.new (o:=cT [aB ((bH s.lane sd).length:Nat)]) ah;refine#v[f,_,I,S _ _ p,(by rw[cy,aq];lia),λ_ X U _ z=>?_];rw[cy]at z;refine#v[W,X,_,_,I,I,U _ _ az,z,(by simp only[cU,e_,cy,aq];lia),λG ak=>?_];have V:=(aG.trans S).trans U;refine k.fin (b.same V) (u.trans (.same V) N) ak ?_;rw[oL]
def Za:bf P w K mg aJ bq 5 A.jV.f A.jV.fd ["session"] (f_ A K λc=>∃n,c=.due n):=by(refine T.jV.fn.bJ Di (λH vs _ E e h=>?_);obtain⟨f,cl,ns,Y,B,s,c,rest,rfl,b,o,_,R,_,S,k⟩:=h;obtain⟨n,rfl⟩:=R;obtain⟨y,W⟩:=b.obj;have ak:=bZ;refine#v[_,(ay (ba 1 Di.nd (cD a7 T.aO.c T.aO.eK ((eV T).to 4) e)) (ay (ba 2 Di.nd (pm (aX a0) T.aC.c T.aC.JQ (XC T) e (aQ aS))) (bc (cS g9 (bO (aQ (dE T.dW aY))) (ef ((hv T).to 4) e T.fJ (aQ aY)))))),?_];obtain⟨X,U⟩:=eW S;refine#v[f,y,_,I,W,I,f,cl,B.b,ns,Y+0,(n:Int),I,b.eM,X,λH1 ac i=>?_];have af:=U;have d:=b.cE ac i;obtain⟨_,m⟩:=d.obj;have v:bT H H1 f B B:=bT.cE i;obtain⟨_,ag,a⟩:=d.br;obtain⟨_,N⟩:=a.obj;obtain⟨dl,_⟩:=a.lane.obj;obtain⟨x,V⟩:=a.file.obj;have z:di s (.due n)=(s,#v[((uw s.file n).length:Nat),[Sy51.ints (uw s.file n)]]):=rfl;rw[z]at k;refine#v[I,m,T.aO.c.cl,T.aO.fu,fC _ _ _,I,N,T.aF.c.cl,T.aF.fB,fM _ _ _ _ _,B.R.r,x,_,I,V,I,B.R,s.file,n,I,o.file,a.file,λ_ g ad _ j=>?_];have ah:(uw s.file n).length<=12:=by have C:=iq (λk=>decide (lx s.file k+n<s.file.today)) (bQ s.file.parts.length);rw[et]at C;have:=o.file.kT;show(List.filter _ _).length<=12;lia);refine#v[g,_,I,.inl (aA.of j),(bB 1),λt J=>?_];rw[cy];have p:=Z.new (o:=cT [aB ((uw s.file n).length:Nat)]) J;refine#v[g,_,I,p _ _ j,(by rw[cy];lia),λ_ u q _ l=>?_];rw[cy]at l;refine#v[t,u,_,_,I,I,q _ _ az,l,(by simp only[cU,e_,cy];lia),λG L=>?_];have r:=(ad.trans p).trans q;refine k.fin (d.same r) (v.trans (.same r) m) L ?_;rw[oL]
def Zb:bf P w K mg aJ bq 8 A.jU.f A.jU.fd ["session"] (f_ A K λc=>∃n,c=.falls n):=by(refine T.jU.fn.bJ Dh (λH vs z E x h=>?_);obtain⟨t,cl,ns,X,B,s,c,rest,rfl,p,o,_,N,_,Q,k⟩:=h;obtain⟨n,rfl⟩:=N;obtain⟨J,U⟩:=p.obj;have ak:=bZ;refine#v[_,(ay (ba 1 Dh.nd (cD a7 T.aO.c T.aO.eK ((eV T).to 7) x)) (ay (cN (k0 (n5 g8 g8 bS aS (bG T.VM))) (bc (bO (aQ (bG T.jZ)))) c9) (ay (ba 2 Dh.nd (pm (aX a0) T.aC.c T.aC.JO (Xv T) x (aQ aS))) (bc (bO (aQ (s_ (cO fl aY (bG T.LM) (cm _)) (bG T.LN) aY))))))),?_];obtain⟨W,R⟩:=eW Q;refine#v[t,J,_,I,U,I,t,cl,B.b,ns,X+0,(n:Int),I,p.eM,W,λH1 ac u=>?_];have ah:=R;have d:=p.cE ac u;obtain⟨_,r⟩:=d.obj;have l:bT H H1 t B B:=bT.cE u;obtain⟨_,ag,f⟩:=d.br;obtain⟨_,L⟩:=f.obj;obtain⟨dl,_⟩:=f.lane.obj;obtain⟨C,S⟩:=f.file.obj;have y:(n<1\/1000<n)->∀a,H1 a=aR->z (.ref a) (Y H1 a (.lst [.int (-1)])):=λh a b=>by have e:cb s.file (.falls n)=(s.file,eH (-1)):=(by show(s.file,if n<1\/1000<n then _ else _)=_;rw[aI h]);exact AK.iK (c:=.falls n) k e d l b);refine#v[_,_,I,I,_,I,cg (λq=>?_) (λq=>?_)];(have v:1<=n:=(by have:(1:Int)<=(n:Int):=(by simpa using q);lia);refine#v[_,_,I,I,_,I,?_];by_cases af:n<=1000;(rw[eP (show(n:Int)<=1000 by lia)];refine eJ ?_;refine#v[I,r,T.aO.c.cl,T.aO.fu,fC _ _ _,I,L,T.aF.c.cl,T.aF.fB,fM _ _ _ _ _,B.R.r,C,_,I,S,I,B.R,s.file,n,I,o.file,f.file,λad _ i j=>?_];cases g:AZ s.file n with|none=>((rw[g]at i;subst i;have e:cb s.file (.falls n)=(s.file,eH (-6)):=by show(s.file,if n<1\/1000<n then _ else match AZ s.file n with|none=>_|some n=>_)=_;rw[aD ∅,g]);refine⟨I,_,I,de ⟨(bB 1),λa b=>?_⟩⟩;exact AK.iK (c:=.falls n) k e (d.same j) (l.trans (.same j) r) b)|some m=>(rw[g]at i;have V:ad=(m:Int):=i;subst V;have e:cb s.file (.falls n)=(s.file,eH (m:Nat)):=by show(s.file,if n<1\/1000<n then _ else match AZ s.file n with|none=>_|some n=>_)=_;rw[aD ∅,g]);refine#v[I,_,I,cg (λZ=>?_) (λ_=>#v[(bB 1),λa b=>?_])];((exfalso;have:(m:Int)= -1:=by simpa using Z);lia);exact AK.iK (c:=.falls n) k e (d.same j) (l.trans (.same j) r) b);rw[ek (show¬(n:Int)<=1000 by lia)];exact de #v[(bB 1),λa b=>y (.inr ∅) a b]);have v:n<1:=(by have:¬(1:Int)<=(n:Int):=(by simpa using q);lia);exact#v[_,I,de #v[(bB 1),λa b=>y (.inl v) a b]]
def Zc{l:aa (Nat×Nat)}{m:Int}(h:m∈((l.map λb=>b.2).map λ(n:Nat)=>(n:Int)))(i:∀b∈((l.map λb=>b.2).map λ(n:Nat)=>(n:Int)),b<=m):m=((l.foldl (λ(m:Nat)(x:Nat×Nat)=>max m x.2) 0:Nat):Int):=by(have key:∀(l:aa (Nat×Nat))(a:Nat),a<=l.foldl (λ(m:Nat)(x:Nat×Nat)=>max m x.2) a/\(∀b∈l,b.2<=l.foldl (λ(m:Nat)(x:Nat×Nat)=>max m x.2) a)/\(l.foldl (λ(m:Nat)(x:Nat×Nat)=>max m x.2) a=a\/∃b∈l,l.foldl (λ(m:Nat)(x:Nat×Nat)=>max m x.2) a=b.2):=by intro l;induction l with|nil=>intro a;exact#v[bp _,λb d=>(by cases d),.inl I]|cons x l o=>intro a;rw[gI];obtain⟨p,f,c⟩:=o (max a x.2);refine#v[by lia,λb d=>?_,?_];(rcases bL.mp d with e|e;(subst e;lia);exact f b e);rcases c with c|⟨b,d,c⟩;(rw[c];by_cases s:x.2<=a;(exact .inl ∅);exact .inr #v[x,cc ..,by lia]);exact .inr #v[b,cw _ d,c]);obtain⟨p,f,c⟩:=key l 0;obtain⟨n,j,e⟩:=bM.mp h;obtain⟨b,d,_⟩:=bM.mp j;have q:=f b d;rcases c with c|⟨g,k,c⟩;(lia);have r:=i _ (bM.mpr #v[g.2,bM.mpr #v[g,k,I],I]);lia
def Ni(v:V)(c a:Nat):(uu v c a).lookup ("bears":M)=O (.int a):=by rfl
def Nj(v:V)(c a:Nat):(uu v c a).lookup ("crack":M)=O (.int c):=by rfl
def Nk(v:V)(c a:Nat):(uu v c a).lookup ("source":M)=O v:=by rfl
def Zd:bf P w K mg aJ bq 6 A.jR.f A.jR.fd ["session"] (f_ A K λc=>∃p d n,c=.known p d n):=by refine T.jR.fn.bJ rr (λH vs _ E e h=>?_);obtain⟨b,cl,ns,L,B,s,c,rest,rfl,t,o,_,a2,_,a3,k⟩:=h;obtain⟨p,d,n,rfl⟩:=a2;obtain⟨aF,be⟩:=t.obj;have bs:=bZ;refine#v[_,(ay (ba 1 rr.nd (cD a7 T.aO.c T.aO.eK ((eV T).to 5) e)) (ay (ba 2 rr.nd (cD a7 T.aO.c T.aO.eK ((eV T).to 5) e)) (ay (ba 3 rr.nd (cD a7 T.aO.c T.aO.eK ((eV T).to 5) e)) (ay (ba 4 rr.nd (aX a0)) (ay (cN (cO iX aS (dE T.dW (aX (pv 4))) (cm _)) (bc (bO (aQ (bG T.p5)))) c9) (ay (cN (gP (ef ((Nh T).to 5) e T.oE (dm (pv 4) (cv aY (pv 3))))) (bc (bO (aQ (bG T.jZ)))) c9) (ay (ba 5 rr.nd (cC d9 (pm (pv 4) T.aC.c T.aC.yt ((DJ T).to 5) e (cv (pm (pv 4) T.aC.c T.aC.yr ((DH T).to 5) e (aQ (pv 3))) aY)) aS (λ_ _=>rfl))) (bc (cS g9 (bO (aQ (aX (pv 5)))) (ef ((hv T).to 5) e T.fJ (aQ (bO (cv (ef ((Ng T).to 5) e T.oC (aQ (aX (pv 5)))) (aX (pv 5))))))))))))))),?_];obtain⟨bg,a8⟩:=eW a3;refine#v[b,aF,_,I,be,I,b,cl,B.b,ns,L+0,(p:Int),I,t.eM,bg,λH1 bk S=>?_];have a4:=a8;have u:=t.cE bk S;obtain⟨aG,ac⟩:=u.obj;have aC:bT H H1 b B B:=bT.cE S;obtain⟨bh,bb⟩:=eW a4;refine#v[b,aG,_,I,ac,I,b,cl,B.b,ns,L+1,(d:Int),I,u.eM,bh,λav bm U=>?_];have a5:=bb;have x:=u.cE bm U;obtain⟨aH,ad⟩:=x.obj;have L2:bT H av b B B:=aC.trans (bT.cE U) ac;obtain⟨bi,bd⟩:=eW a5;refine#v[b,aH,_,I,ad,I,b,cl,B.b,ns,L+2,(n:Int),I,x.eM,bi,λaw bn V=>?_];have br:=bd;have f:=x.cE bn V;obtain⟨_,af⟩:=f.obj;have r:bT H aw b B B:=L2.trans (bT.cE V) ad;obtain⟨_,ag,a⟩:=f.br;obtain⟨_,a1⟩:=a.obj;obtain⟨dl,_⟩:=a.lane.obj;obtain⟨R,J⟩:=a.file.obj;refine#v[I,af,T.aO.c.cl,T.aO.fu,fC _ _ _,I,a1,T.aF.c.cl,T.aF.fB,fM _ _ _ _ _,I,J,T.aC.c.cl,T.aC.om,qc,_,_,I,.inl (aA.of a.file.pt),_,_,I,I,_,I,cg (λy=>?_) (λy=>?_)];((have l:s.file.parts.length<=p:=(by have:(((B.R.ps.map aT).length:Nat):Int)<=(p:Int):=(by simpa using y);rw[aq,a.file.gp]at this;lia);have g:cb s.file (.known p d n)=(s.file,eH (-2)):=by show(s.file,if s.file.parts.length<=p then _ else _)=_;rw[aI l]);exact#v[(bB 1),λan z=>AK.iK (c:=.known p d n) k g f r z]);have l:¬s.file.parts.length<=p:=(by have:¬(((B.R.ps.map aT).length:Nat):Int)<=(p:Int):=(by simpa using y);rw[aq,a.file.gp]at this;lia);refine#v[B.R,s.file,d,n,I,a.file,_,I,cg (λm=>?_) (λm=>?_)];((have q:iN<d\/s.file.entries.length<n:=(by simp only[l5,fh]at m;exact m);have g:cb s.file (.known p d n)=(s.file,eH (-1)):=by show(s.file,if s.file.parts.length<=p then _ else if iN<d\/s.file.entries.length<n then _ else _)=_;rw[aD l,aI q]);exact#v[(bB 1),λan z=>AK.iK (c:=.known p d n) k g f r z]);(have q:¬(iN<d\/s.file.entries.length<n):=λi=>m (by simp only[l5,fh];exact i);have X:n<=s.file.entries.length:=Ft λi=>q (.inr i);have g:di s (.known p d n)=(s,#v[(iy s.file p d n:Nat),[Sy51.ints [A_ s.file p d n,cp s.file p d n]]]):=by show(({s with file:=s.file}:bY),lz (if s.file.parts.length<=p then _ else if iN<d\/s.file.entries.length<n then _ else _))=_;rw[aD l,aD q];rfl);(rw[g]at k;refine#v[B.R.r,R,_,I,J,I,B.R.r,R,_,I,J,I,B.R,s.file,n,I,o.file,X,a.file,λ_ aE ah _ a6=>?_];refine#v[B.R,s.file,n,d,aE,I,o.file,X,a.file.same ah,a6,λ_ ao bp bo _ aL W=>?_];have Y:p<bp.length:=by rw[W.1];lia);obtain⟨i,aK,_,C⟩:=W.2 p _ (b_ Y);refine#v[ao,_,_,_,I,I,aA.of aL,eD (j:=p) (v:=.ref i) (by rw[b_ Y,aK]),I,C,T.Known.c.cl,T.Known.pX,Nj _ _ _,(bB 1),λap aO=>?_];have N:=Z.new (o:=cT [aB ((iy s.file p d n:Nat):Int)]) aO;refine#v[I,N _ _ C,T.Known.c.cl,T.Known.CY,Nk _ _ _,_,I,I,N _ _ C,T.Known.c.cl,T.Known.xE,Ni _ _ _,(bB 2),λar aP=>?_];have ak:=Z.new (o:=cT [aB (zI (aN.srcOf (s.file.entries.take n) p d):Nat),aB ((cp s.file p d n:Nat):Int)]) aP;refine#v[ar,_,I,az,(by show 2<2000000;decide),λ_ as al _ aV=>?_];refine#v[ap,as,_,_,I,I,al _ _ (ak _ _ az),aV,(bB (1+3)),λG aW=>?_];have am:=(((ah.trans bo).trans N).trans ak).trans al;refine k.fin (f.same am) (r.trans (.same am) af) aW ?_;rw[oL,<-Nf];rfl
def Ze:bf P w K mg aJ bq 6 A.jS.f A.jS.fd ["session"] (f_ A K λc=>∃d n,c=.limit d n):=by refine T.jS.fn.bJ oq (λH vs _ E b h=>?_);obtain⟨l,cl,ns,aP,B,s,c,rest,rfl,S,o,_,bA,_,bC,k⟩:=h;obtain⟨d,n,rfl⟩:=bA;obtain⟨bg,bS⟩:=S.obj;have b7:=bZ;refine#v[_,(ay (ba 1 oq.nd (cD a7 T.aO.c T.aO.eK ((eV T).to 5) b)) (ay (ba 2 oq.nd (cD a7 T.aO.c T.aO.eK ((eV T).to 5) b)) (ay (ba 3 oq.nd (aX a0)) (ay (cN (gP (ef ((Nh T).to 5) b T.oE (dm (pv 3) (cv aS aY)))) (bc (bO (aQ (bG T.jZ)))) c9) (ay (ba 4 oq.nd (pm (pv 3) T.aC.c T.aC.yt ((DJ T).to 5) b (cv (pm (pv 3) T.aC.c T.aC.yr ((DH T).to 5) b (aQ aY)) aS))) (ay (wd (i:=5) (dS:=[("each",7)]) (g:=eh 7) (tt:=fI) (te:=fm K (b8 7) "bears") I oq.nd I I (we I I I I) (fU (pv 4)) (gn (by kernel_rfl)) (λ_ _ _ _ _=>dD (i:=7) oq.nd I (cB I)) (λ_ _ _ _ _=>ib) (λ_ _ _ _ _=>aX (pv 7))) (ay (ba 6 oq.nd (gF gL Aw P_ Tp (pv 5) (aQ (iY (tK I) (by rfl) T.uf (by rfl) (aQ (pv 5)))))) (bc (cS g9 (bO (aQ (cC d9 (pv 5) (pv 6) (λ_ _=>rfl)))) (ef ((hv T).to 5) b T.fJ (aQ (bO (dm (pv 6) (cv (ef ((Ng T).to 5) b T.oC (aQ (aX (cC d9 (pv 4) (pv 6) (λ_ _=>rfl))))) (aX (cC d9 (pv 4) (pv 6) (λ_ _=>rfl))))))))))))))))),?_];obtain⟨b0,bL⟩:=eW bC;refine#v[l,bg,_,I,bS,I,l,cl,B.b,ns,aP+0,(d:Int),I,S.eM,b0,λH1 b2 al=>?_];have bD:=bL;have U:=S.cE b2 al;obtain⟨bh,aE⟩:=U.obj;have bd:bT H H1 l B B:=bT.cE al;obtain⟨b1,bP⟩:=eW bD;refine#v[l,bh,_,I,aE,I,l,cl,B.b,ns,aP+1,(n:Int),I,U.eM,b1,λbb b3 am=>?_];have b6:=bP;have t:=U.cE b3 am;obtain⟨_,aF⟩:=t.obj;have L2:bT H bb l B B:=bd.trans (bT.cE am) aE;obtain⟨_,ag,e⟩:=t.br;obtain⟨_,bw⟩:=e.obj;obtain⟨dl,_⟩:=e.lane.obj;obtain⟨ah,aC⟩:=e.file.obj;refine#v[I,aF,T.aO.c.cl,T.aO.fu,fC _ _ _,I,bw,T.aF.c.cl,T.aF.fB,fM _ _ _ _ _,B.R,s.file,d,n,I,e.file,_,I,cg (λu=>?_) (λu=>?_)];((have z:iN<d\/s.file.entries.length<n:=(by simp only[l5,fh]at u;exact u);have V:cb s.file (.limit d n)=(s.file,eH (-1)):=by show(s.file,if iN<d\/s.file.entries.length<n then _ else _)=_;rw[aI z]);exact#v[(bB 1),λ_ bo=>AK.iK (c:=.limit d n) k V t L2 bo]);(have z:¬(iN<d\/s.file.entries.length<n):=λf=>u (by simp only[l5,fh];exact f);have ar:n<=s.file.entries.length:=Ft λf=>z (.inr f);have b5:=o.file.kT;have ac:=o.file.p1;generalize J:oT s.file d n=a;have ad:a<s.file.parts.length:=by rw[<-J];exact(zo s.file d n ac).1);(have bW:=(zo s.file d n ac).2;have aH:=Y7 s.file d n;rw[J]at bW aH;have V:di s (.limit d n)=(s,#v[(cp s.file a d n:Nat),[Sy51.ints [a,A_ s.file a d n,iy s.file a d n]]]):=by show(({s with file:=s.file}:bY),lz (if iN<d\/s.file.entries.length<n then _ else _))=_;rw[aD z,<-J];rfl);(rw[V]at k;refine#v[B.R.r,ah,_,I,aC,I,B.R.r,ah,_,I,aC,I,B.R,s.file,n,I,o.file,ar,e.file,λ_ be aV _ bE=>?_];refine#v[B.R,s.file,n,d,be,I,o.file,ar,e.file.same aV,bE,λ_ N a3 b4 _ W q=>?_];have as:(aK ((bQ s.file.parts.length).map λk=>cp s.file k d n)).length=s.file.parts.length:=by rw[cy,aq,et]);refine#v[N,I,#v[_,aA.of W],λR bp=>mZ (K:=K) (aK ((bQ s.file.parts.length).map λk=>cp s.file k d n)) bp (aA.of W) (by rw[as,q.1]) (by rw[q.1];lia) (λ_=>rfl) (λi x _ a8 bX L s' _ bv=>?_) λ_ af C=>?_];(have Y:i<s.file.parts.length:=(by rw[<-as];exact(cM.mp L).1);unfold aK at L;rw[ck,bN,h9 Y]at L;have bm:=aM L;subst bm;obtain⟨p,rfl,dx,bJ⟩:=q.2 i x bX;exact#v[I,s' _ _ bJ,T.Known.c.cl,T.Known.xE,Ni _ _ _,bv a8 (Z.refl _)]);(have X:∀i,i<s.file.parts.length->(aK ((bQ s.file.parts.length).map λk=>cp s.file k d n))[i]? =O (aB ((cp s.file i d n:Nat):Int)):=λi Y=>by unfold aK;rw[ck,bN,h9 Y];rfl);(have bF:(((bQ s.file.parts.length).map λk=>cp s.file k d n).map λ(n:Nat)=>(n:Int)).length=s.file.parts.length:=(by rw[aq,aq,et]);refine#v[.inl #v[I,_,aA.of C],R,_,I,aA.of (by rw[C,zp]),(by rw[bF];lia),λm ao ap=>?_];rw[ck]at ao ap;have ak:=DK ac ao ap;have bi:ej s.file d n=cp s.file a d n:=by unfold ej;rw[J]);rw[bi]at ak;subst ak;refine#v[R,_,_,a,aB ((cp s.file a d n:Nat):Int),I,I,aA.of C,I,?_,X a ad,?_,λm _ bH aO=>?_,?_];(rw[kK];intro v aG;unfold aK at aG;obtain⟨f,_,rfl⟩:=bM.mp aG;rfl);(show(_==_)=ai;exact qr _);(have bI:m<s.file.parts.length:= ∅;rw[X m bI]at aO;have bn:=aM aO;subst bn;have:=aH m bH;show((((cp s.file m d n:Nat):Int))==((cp s.file a d n:Nat):Int))=ax;rw[qu];lia);(have av:a<a3.length:=(by rw[q.1];exact ad);obtain⟨f,bk,_,bK⟩:=q.2 a _ (b_ av);have aw:=af _ _ bK;have an:=af _ _ W;have aL:a3[a]? =O (.ref f):=by rw[b_ av,bk]);refine#v[R,_,_,_,I,I,aA.of C,eD (j:=a) (X a ad),(bB 1),λa4 br=>?_];have r:=Z.new (o:=cT [aB ((cp s.file a d n:Nat):Int)]) br;refine#v[N,_,_,_,I,I,aA.of (r _ _ an),eD (j:=a) aL,I,r _ _ aw,T.Known.c.cl,T.Known.CY,Nk _ _ _,_,I,N,_,_,_,I,I,aA.of (r _ _ an),eD (j:=a) aL,I,r _ _ aw,T.Known.c.cl,T.Known.pX,Nj _ _ _,(bB 3),λa5 bs=>?_];have aW:=Z.new (o:=cT [aB (a:Int),aB (zI (aN.srcOf (s.file.entries.take n) a d):Nat),aB ((iy s.file a d n:Nat):Int)]) bs;refine#v[a5,_,I,az,(by show 3<2000000;decide),λ_ a6 a1 _ bt=>?_];refine#v[a4,a6,_,_,I,I,a1 _ _ (aW _ _ az),bt,(bB (1+4)),λG bu=>?_];have a2:=((((aV.trans b4).trans af).trans r).trans aW).trans a1;refine k.fin (t.same a2) (L2.trans (.same a2) aF) bu ?_;rw[oL,<-Nf];rfl
def Zf:bf P w K mg aJ bq 8 A.jT.f A.jT.fd ["session"] (f_ A K λc=>∃a b,c=.wrong a b):=by(refine T.jT.fn.bJ ot (λH vs a8 E C h=>?_);obtain⟨u,cl,ns,aK,B,s,c,rest,rfl,Q,o,bm,bv,_,bw,k⟩:=h;obtain⟨a,b,rfl⟩:=bv;obtain⟨be,bI⟩:=Q.obj;have ca:=bZ;refine#v[_,(ay (ba 1 ot.nd (cD a7 T.aO.c T.aO.eK ((eV T).to 7) C)) (ay (ba 2 ot.nd (cD a7 T.aO.c T.aO.eK ((eV T).to 7) C)) (ay (ba 3 ot.nd (aX a0)) (ay (cN (PW.pt (lJ (cO v5 aY aS (cm _)) (lJ (cO gD aY (aX (pv 3)) (cm _)) (mL (cO gD (cS jv aY aS) (bG T.VL) (cm _)))))) (bc (bO (aQ (bG T.jZ)))) c9) (ay (ba 4 ot.nd (pm (pv 3) T.aC.c T.aC.JS (XH T) C (cv aS aY))) (ay (cN (cO fl (dE T.dW (pv 4)) bS (cm _)) (bc (bO (aQ bS))) c9) (bc (cS g9 (bO (aQ (dE T.dW (pv 4)))) (ef ((hv T).to 7) C T.fJ (aQ (bO (cv (cC gE (cC d9 (pv 4) bS (λ_ _=>rfl)) bS (λ_ _=>rfl)) (iY (Th I) (by rfl) T.zd (by rfl) (aQ (hP (dS:=[("day",5),("excess",6)]) (g:=q5 K 2 (k1 (eh 5) (k1 (eh 6) qZ))) (tt:=fI) (te:=b8 6) I ot.nd (fU (pv 4)) (gn (by kernel_rfl)) (λ_ _ _ _ _=>mN I (gQ (dD (i:=5) ot.nd I (cB I)) (gQ (dD (i:=6) ot.nd I (cB I)) mM))) (λ_ _ _ _ _=>ib) (λ_ _ _ _ _=>pv 6)))))))))))))))),?_];obtain⟨b2,bF⟩:=eW bw;refine#v[u,be,_,I,bI,I,u,cl,B.b,ns,aK+0,(a:Int),I,Q.eM,b2,λH1 b5 am=>?_];have bA:=bF;have R:=Q.cE b5 am;obtain⟨bg,aF⟩:=R.obj;have a6:bT H H1 u B B:=bT.cE am;obtain⟨b3,bH⟩:=eW bA;refine#v[u,bg,_,I,aF,I,u,cl,B.b,ns,aK+1,(b:Int),I,R.eM,b3,λN b6 an=>?_];have b7:=bH;have y:=R.cE b6 an;obtain⟨_,ad⟩:=y.obj;have L2:bT H N u B B:=a6.trans (bT.cE an) aF;obtain⟨_,ag,z⟩:=y.br;obtain⟨_,bu⟩:=z.obj;obtain⟨dl,_⟩:=z.lane.obj;obtain⟨bd,aE⟩:=z.file.obj;refine#v[I,ad,T.aO.c.cl,T.aO.fu,fC _ _ _,I,bu,T.aF.c.cl,T.aF.fB,fM _ _ _ _ _,?_];have S:(b<a\/s.file.today<b\/500<b-a)->∀d,N d=aR->a8 (.ref d) (Y N d (.lst [.int (-1)])):=λh d e=>by have U:cb s.file (.wrong a b)=(s.file,eH (-1)):=(by show(s.file,if b<a\/s.file.today<b\/500<b-a then _ else _)=_;rw[aI h]);exact AK.iK (c:=.wrong a b) k U y L2 e);refine#v[_,_,I,I,_,I,cg (λV=>?_) (λV=>?_)];(have ao:b<a:=(by have:(b:Int)<(a:Int):=(by simpa using V);lia);exact de #v[(bB 1),λd e=>S (.inl ao) d e]);(have ao:¬b<a:=by have:¬(b:Int)<(a:Int):=(by simpa using V);lia);refine#v[I,aE,T.aC.c.cl,T.aC.i7,kF,_,_,I,I,_,I,cg (λW=>?_) (λW=>?_)];(have ap:s.file.today<b:=(by have:(s.file.today:Int)<(b:Int):=(by simpa using W);lia);exact de #v[(bB 1),λd e=>S (.inr (.inl ap)) d e]);(have ap:¬s.file.today<b:=by have:¬(s.file.today:Int)<(b:Int):=(by simpa using W);lia);refine#v[_,_,I,I,_,_,I,I,_,I,cg (λX=>?_) (λX=>?_)];(have ar:500<b-a:=(by have:(500:Int)<(b:Int)-(a:Int):=(by simpa using X);lia);exact#v[(bB 1),λd e=>S (.inr (.inr ar)) d e]);(have ar:¬500<b-a:=by have:¬(500:Int)<(b:Int)-(a:Int):=(by simpa using X);lia);(have b9:=o.file.day;refine#v[B.R.r,bd,_,I,aE,I,B.R,s.file,a,b,I,o.file,bm,by lia,by lia,by lia,z.file,λa4 d l ah _ e L=>?_];have al:=y.same ah;have ak:bT H a4 u B B:=L2.trans (.same ah) ad;have bJ:=ah _ _ ad;have p:l.length=(j2 s.file a (b+1-a)).length:=by rw[L.1,aq]);(have bW:=MM s.file a (b+1-a);have U:di s (.wrong a b)=(s,lz (match j2 s.file a (b+1-a)with| []=>eH 0|x::_=>⟨((j2 s.file a (b+1-a)).length:Nat),[Sy50.ints [x.1,(j2 s.file a (b+1-a)).foldl (λ(m:Nat)(x:Nat×Nat)=>max m x.2) 0]]⟩)):=by show(({s with file:=s.file}:bY),lz (if b<a\/s.file.today<b\/500<b-a then _ else _))=_;rw[aD ∅];rfl);rw[U]at k;refine#v[d,_,I,.inl (aA.of e),I,_,I,?_];cases aH:j2 s.file a (b+1-a)with|nil=>rw[aH]at k p;rw[aq,p];exact de #v[(bB 1),λG ac=>k.fin al ak ac I]|cons x r=>rw[aH]at k p L bW;rw[aq];refine cg (λaf=>?_) (λ_=>?_);((exfalso;have:((l.length:Nat):Int)=0:=by simpa using af);rw[p,cU]at this;lia);(have bC:l.length=r.length+1:=(by rw[p,cU]);refine#v[d,_,I,.inl (aA.of e),(bB 1),λaW br=>?_];rw[aq];have q:=Z.new (o:=cT [aB (l.length:Nat)]) br;have aG:l[0]? =O (l.getD 0 0):=getD_at ∅;have bM:=L.2 0 _ _ aG I;refine#v[d,_,_,_,I,I,aA.of (q _ _ e),fw (j:=0) (v:=.ref (l.getD 0 0)) I (by rw[bN,aG];rfl),_,_,_,_,I,I,dH.of (q _ _ bM),fw (j:=0) (v:=.int (x.1:Int)) I I,?_];have bX:((x::r).map λf=>aB (f.2:Int)).length=l.length:=by rw[aq,p]);refine#v[d,I,#v[_,aA.of (q _ _ e)],λaV bo=>wJ (J:=f3 K d) (n:=l.length) ((x::r).map λf=>aB (f.2:Int)) ((x::r).map λ_=>ai) bo bX (by rw[aq,p]) (by rw[bC];lia) (λi a3 aw s'=>#v[_,_,aA.of (s' _ _ (q _ _ e)),b_ (by rw[aq];exact aw)]) (λa3 s'=>#v[_,aA.of (s' _ _ (q _ _ e)),by rw[aq];exact bp _]) (λi v f _ a5 _ _ _ aw b0 av s' b1 b4 _=>?_) λa5 aL as=>?_];(obtain⟨rfl,bn⟩:=b1;have bP:=bn _ (aA.of (s' _ _ (q _ _ e)));obtain⟨t,bK,rfl⟩:=eL bP;obtain⟨af,aC,rfl⟩:=eL b0;rw[bN,aC]at av;have bi:=aM av;subst bi;have bL:=L.2 i t (qe af) bK (by rw[bN,aC];rfl);exact#v[t,_,I,dH.of (s' _ _ (q _ _ bL)),I,_,_,I,_,_,I,I,I,by unfold fI;refine de ?_;exact(b4 I _ (Z.refl _))]);have bh:hA ((x::r).map λf=>aB (f.2:Int)) ((x::r).map λ_=>ai)=(((x::r).map λf=>f.2).map λ(n:Nat)=>(n:Int)).map aB:=(by rw[p8 (λf:Nat×Nat=>aB (f.2:Int)) (λ_=>ai),rT.mpr (λ_ _=>rfl),ck,ck];rfl);rw[bh]at as;refine#v[aV,_,I,aA.of as,(by rw[aq,aq,cU];lia),λm bD bE=>#v[(bB 2),λa1 bs=>?_]];have bk:m=(((x::r).foldl (λ(m:Nat)(x:Nat×Nat)=>max m x.2) 0:Nat):Int):=Zc bD bE;subst bk;have aN:=Z.new (o:=cT [aB (x.1:Int),aB (((x::r).foldl (λ(m:Nat)(x:Nat×Nat)=>max m x.2) 0:Nat):Int)]) bs;refine#v[a1,_,I,az,(by show 2<2000000;decide),λ_ a2 aO _ bt=>?_];refine#v[aW,a2,_,_,I,I,aO _ _ (aN _ _ (aL _ _ az)),bt,(bB (1+3)),λG ac=>?_];have aP:=((q.trans aL).trans aN).trans aO;refine k.fin (al.same aP) (ak.trans (.same aP) bJ) ac ?_;rw[p];rfl
inductive Zg(A:bF)(vs:aa V)(H:Hp)(Q:VK)(E:XK):Prop|mk(L:LA)(s:G)(a:aa VD)(_:vs=[.ref L.l])(_:aW.Ok s)(_:b9 A H L s a)(_:H L.sz=O (.lst (aK (s.spans.map λx=>x.1))))(_:∀(H':Hp)(D:U),Z H H'->H D=aR->H' D=O (.lst (aK ((bQ s.spans.length).map (eY s s.onIt))))->Q (.ref D) H')
def Zh:bf P w K mg aJ bq 2 A.ak.w8 A.ak.xn ["self"] (Zg A):=by(refine T.ak.Jc.fn.bJ wQ (λH vs _ E p h=>?_);obtain⟨L,s,t,rfl,o,a,ah,k⟩:=h;obtain⟨dl,S⟩:=a.obj;have aC:=bZ;have ak:=k7 p;refine#v[_,ay (mO (i:=1) wQ.nd I (gb I) (cD a7 T.ak.c T.ak.CV (Mp T) p)) (bc (hP (dS:=[("span",2)]) (g:=eh 2) (tt:=fI) (te:=tF (L1 A) [] E0 (eC (HY (b8 1) (b8 2) (v9 fo)) fo)) I wQ.nd (GW I T.Dp (aQ (dE T.dW a0))) (gn (by kernel_rfl)) (λ_ _ _ _ _=>dD (i:=2) wQ.nd I (cB I)) (λ_ _ _ _ _=>ib) (λ_ _ _ _ _=>ef (Du T) p T.m7 (aQ (T2 ak aS aY (bO gk) #v[I,I,I,I]))))),L.l,dl,_,I,S,I,L,s,t,I,o,a,λH1 d am V j=>?_];have c:=j.same;have n:(aK (s.spans.map λx=>x.1)).length=s.spans.length:=by rw[cy,aq]);have av:=o.gh;refine#v[I,c _ _ S,T.ak.c.cl,T.ak.xq,VU _ _,L.sz,_,I,.inl (aA.of (c _ _ ah)),_,I,(by rw[n];lia),(by rw[n];lia),?_];rw[jj,n];intro W B;refine WU (aK ((bQ s.spans.length).map (eY s s.onIt))) B (by rw[cy,aq,et]) ∅ (λ_=>rfl) (λi ar v ag q s' R C=>?_) λX ao y=>?_;((have ad:ar=aB ((eY s s.onIt i:Nat):Int):=(by unfold aK at q;rw[ck,bN,h9 ag]at q;exact(aM q).symm);subst ad;have N:=s' _ _ j.dO;have af:aB (0+(i:Int))=kV (bz (i:Int)):=by rw[Int.zero_add];rfl);(refine#v[d,I,.inl #v[_,.inl N],dc _,λu al=>?_];have e:=Z.new (o:=cT []) al;refine#v[_,.inl #v[_,bz (i:Int),.inl (e _ _ N),af,I],?_];have J:((nk t s i).map λd=>d.2.weight).sum=eY s s.onIt i:=by unfold nk i8 eY;rw[ck];congr 1;refine rz λx b=>?_;exact(a.lo x (c0.mp b).1).2.1);(have ap:Z H (Y v u (.lst [])):=(c.trans s').trans e;have U:j0 A.aP.C (Y v u (.lst [])) ((s.onIt.filter λx=>dM s x==i).map λx=>L.vs.getD x.1.id 0) (nk t s i):=by refine j0.same (zf (L:=L) a.d7 (λx b=>?_) (by rw[a.dN,a.b7])) ap;rw[a.b7];exact zw o (c0.mp b).1);have z:((s.onIt.filter λx=>dM s x==i).map λx=>L.vs.getD x.1.id 0).length<=60:=(by rw[aq];have as:=iq (λx=>dM s x==i) s.onIt;have y:=o.count;have aw:=o.fY;lia);rw[um (f:=λk=>aT (V k))];by_cases l:i∈am;(rw[aI l];refine#v[V i,_,_,I,?_,U,z,λm r=>?_];(rw[e _ _ (s' _ _ (j.lst i l)),ck];rfl);rw[J];exact C m (e.trans r));(rw[aD l];have ac:(s.onIt.filter λx=>dM s x==i)=[]:=by rw[Ew];intro x b an;exact l ((j.mem i).mpr #v[x,b,by simpa using an]));refine#v[u,_,_,I,?_,U,z,λm r=>?_];(rw[ac];exact az);rw[J];exact C m (e.trans r));exact k X W (c.trans ao) (c.free B) y
def Zi:bf P w K mg aJ bq 3 A.jP.f A.jP.fd ["session"] (f_ A K λc=>c=.loads):=by refine T.jP.fn.bJ Lf (λH vs _ E g h=>?_);obtain⟨_,cl,ns,_,B,s,c,rest,rfl,d,o,_,y,_,_,k⟩:=h;obtain rfl:=y;obtain⟨_,z⟩:=d.obj;have L:=bZ;refine#v[_,(ay (ba 1 Lf.nd (aX a0)) (bc (cS g9 (bO (aQ (dE T.dW (aX aS)))) (ef ((hv T).to 2) g T.fJ (aQ (cD aS T.ak.c T.ak.Jc (Zh T) g)))))),?_];obtain⟨C,ag,a⟩:=d.br;obtain⟨_,v⟩:=a.obj;obtain⟨dl,f⟩:=a.lane.obj;obtain⟨_,_⟩:=a.file.obj;have q:di s .loads=(s,#v[(s.lane.onIt.length:Nat),[Sy51.ints ((bQ s.lane.spans.length).map (eY s.lane s.lane.onIt))]]):=rfl;rw[q]at k;have J:=o.lane.gh;refine#v[I,z,T.aO.c.cl,T.aO.fu,fC _ _ _,I,v,T.aF.c.cl,T.aF.gV,hy _ _ _ _ _,I,f,T.ak.c.cl,T.ak.i6,Ds,B.L.cr,_,I,.inl (aA.of a.lane.cr),(bB 1),λn t=>?_];have b:=Z.new (o:=cT [aB (((s.lane.onIt.map λx=>cY B.L x.1.id).length:Nat):Int)]) t;refine#v[B.L.l,dl,_,I,b _ _ f,I,B.L,s.lane,C,I,o.lane,(a.same b).lane,b _ _ a.sz,λ_ m i _ r=>?_];refine#v[m,_,I,r,(by rw[cy,aq,et];lia),λ_ p j _ e=>?_];rw[cy]at e;refine#v[n,p,_,_,I,I,j _ _ (i _ _ az),e,(by simp only[cU,e_,cy,aq,et];lia),λG u=>?_];have l:=(b.trans i).trans j;refine k.fin (d.same l) (.same l) u ?_;rw[oL,aq]
end
end Br
namespace L2
def Zj(t:TT):TE:=λb H a=>t b H λc H1=>a (.int ((if c=ai then 1 else 0:Nat):Int)) H1
def Nl{X:Cx}{c:bx}{i:TT}{j m p n o:_}(l:PT X c i):PE X (.IfExp c (.Constant (.int 1) j p) (.Constant (.int 0) m n) o) (Zj i):=by intro af s a H e k h;refine wpAny_IfExp (S (l af s a H _ k h) λd g⟨H1,b,f⟩=>?_);cases d with|true=>exact bS (X:=X) af g a H1 e b f|false=>exact bS (X:=X) af g a H1 e b f
end L2
namespace Br
section
def refOf(v:V):Nat:=match v with
 |.ref t=>t
 |_=>0
def Nm{H:Hp}{b:aa V}{f:Nat->aa V}(h:∀(i:Nat)(a:V),b[i]? =O a->∃t,a=aT t/\H t=O (.tup (f i))):∃g:aa U,b=g.map aT/\fq H g ((bQ b.length).map f):=by refine#v[b.map refOf,?_,?_,?_];(refine pj λi=>?_;rw[bN,bN];cases e:b[i]?with|none=>rfl|some a=>obtain⟨t,rfl,_⟩:=h i a e;rfl);(rw[aq,aq,et]);intro i t x c d;rw[bN]at c d;cases e:b[i]?with|none=>rw[e]at c;cases c|some a=>rw[e]at c;obtain⟨t',rfl,l⟩:=h i a e;have j:t'=t:=aM c;subst j;have m:=(cM.mp e).1;rw[h9 m]at d;have k:f i=x:=aM d;rw[<-k];exact l
inductive Zk(vs:aa V)(H:Hp)(Q:VK)(E:XK):Prop|mk(a:U)(b:aa U)(l:aa (aa Nat))(_:vs=[.ref a])(_:H a=O (.lst (b.map aT)))(_:fq H b (l.map aK))(_:l.length<=1000)(_:(∀x∈l,x.length<=3))(_:∀(H':Hp)(D:U),Z H H'->H D=aR->H' D=O (.lst (aK l.flatten))->Q (.ref D) H')
def uC(l:aa (aa Nat))(h:∀x∈l,x.length<=3):l.flatten.length<=3*l.length:=by induction l with|nil=>exact bp _|cons x l b=>rw[qH,cV,cU];have d:=h x (cc ..);have e:=b λc a=>h c (cw _ a);lia
def zJ:bf P w K mg aJ bq 1 A.lQ.f A.lQ.fd ["things"] Zk:=by(refine T.lQ.fn.bJ C9 (λH vs _ E _ h=>?_);obtain⟨a,u,l,rfl,m,r,_,j,k⟩:=h;have L:=bZ;have q:u.length=l.length:=by rw[r.1,aq]);refine#v[_,ay (ba 1 C9.nd (bO gk)) (ay (iV hK I (fU a7) (dD (i:=2) C9.nd I (cB I)) (cR (e0 (gF gL sD sE MY aS (aQ aY))))) (bc aS)),dc _,λc f=>?_];have s:Z H (Y H c (.lst [])):=Z.new f;refine#v[a,I,#v[_,aA.of (s _ _ m)],q6 (K:=K) (a:=a) (xs:=u.map aT) (λi e b=>∃g:ab V,e=[O (.ref a),O (.ref c),g]/\Z H b/\b c=O (.lst (aK (l.take i).flatten))) #v[aj,I,s,az] (λi e b _⟨_,_,s',_⟩=>aA.of (s' _ _ m)) ?_ ?_];((rintro i _ e b z ⟨g,rfl,s',d⟩;obtain⟨t,p,rfl⟩:=eL z;have n:i<l.length:=by rw[<-q];exact(cM.mp p).1);have o:l[i]? =O l[i]:=b_ n;have B:=r.2 i t (aK l[i]) p (by rw[bN,o];rfl);have v:=uC (l.take i) λx C=>j x (qO C);have J:=j l[i] (kJ n);rw[fE]at v;refine#v[.inl #v[I,_,aA.of d],c,t,_,_,I,I,d,dH.of (s' _ _ B),(by rw[cy,cy];lia),_,I,s'.gG f,?_];rw[az,ic o,List.flatten_append,zx];simp);rintro e b ⟨g,rfl,s',d⟩;rw[aq,q,ij]at d;exact(k b c s' f d)
def Zl:bf P w K mg aJ bq 2 A.jY.f A.jY.fd ["session"] (f_ A K λc=>c=.state):=by(refine T.jY.fn.bJ ou (λH vs _ E u h=>?_);obtain⟨_,cl,ns,_,B,s,c,rest,rfl,N,o,_,z,_,_,k⟩:=h;obtain rfl:=z;obtain⟨_,bF⟩:=N.obj;have bT:=bZ;refine#v[_,(ay (ba 1 ou.nd a0) (ay (ba 2 ou.nd (aX aS)) (ay (ba 3 ou.nd (bO (dm (aX aY) (dm (aX aY) (dm (aX aY) (dm (Nl (gP (aX aS))) (dm (Nl (gP (aX aS))) (cv (dE T.dW (aX aY)) (dE T.dW (aX (aX aS))))))))))) (ay (ba 4 ou.nd (ef (zJ T) u T.lQ (aQ (Yr I I T.Dn I T.LQ (cv (aX aY) (aX aY)))))) (ay (ba 5 ou.nd (ef (zJ T) u T.lQ (aQ (hP (dS:=[("v",6)]) (g:=eh 6) (tt:=fI) (te:=pN (eC (fm K (b8 6) "number") (eC (fm K (b8 6) "cell") fo))) I ou.nd (fU (aX aY)) (gn (by kernel_rfl)) (λ_ _ _ _ _=>dD (i:=6) ou.nd I (cB I)) (λ_ _ _ _ _=>ib) (λ_ _ _ _ _=>kr (cv (aX (pv 6)) (aX (pv 6)))))))) (bc (cS g9 (cS g9 (cS g9 (bO (aQ (aX (aX aS)))) (ef (hv T) u T.fJ (aQ (pv 3)))) (ef (hv T) u T.fJ (aQ (pv 4)))) (ef (hv T) u T.fJ (aQ (pv 5)))))))))),?_];obtain⟨_,ag,b⟩:=N.br;obtain⟨_,r⟩:=b.obj;obtain⟨dl,l⟩:=b.lane.obj;obtain⟨_,as⟩:=b.file.obj;generalize V:[s.lane.time,s.lane.side,s.lane.gone,if s.hand=ai then 1 else 0,if s.closed=ai then 1 else 0,s.lane.came,s.file.entries.length]=f;have bP:f.length=7:=by rw[<-V];rfl);(have bb:di s .state=(s,#v[(s.file.today:Nat),[Sy51.ints f,Sy51.ints (s.lane.spans.map λ(x:Nat×Nat)=>[x.1,x.2]).flatten,Sy51.ints (s.lane.onIt.map λ(x:dw×Nat)=>[x.1.id,cj s.lane x.1.side x.2]).flatten]]):=by show(s,_)=_;rw[<-Ba,<-Ba,<-V]);(rw[bb]at k;have bK:=o.lane.gh;have bG:=o.lane.iA;have bS:s.lane.onIt.length<=60:=by have ah:=o.lane.count;have bL:=o.lane.fY;lia);(refine#v[I,bF,T.aO.c.cl,T.aO.fu,fC _ _ _,I,r,T.aF.c.cl,T.aF.gV,hy _ _ _ _ _,?_];refine#v[I,l,T.ak.c.cl,T.ak.k_,ug,I,l,T.ak.c.cl,T.ak.m6,LX,I,l,T.ak.c.cl,T.ak.pU,LY,I,r,T.aF.c.cl,T.aF.yQ,MK _ _ _ _ _,_,I,I,r,T.aF.c.cl,T.aF.ua,DP _ _ _ _ _,_,I,I,l,T.ak.c.cl,T.ak.hQ,lR,B.L.bX,_,I,.inl (aA.of b.lane.bX),I,r,T.aF.c.cl,T.aF.fB,fM _ _ _ _ _,I,as,T.aC.c.cl,T.aC.ie,iI,B.R.en,_,I,.inl (aA.of b.file.en),(bB 7),λa7 bv=>?_];have bd:[aB (s.lane.time:Int),aB (s.lane.side:Int),aB (s.lane.gone:Int),aB ((if s.hand=ai then 1 else 0:Nat):Int),aB ((if s.closed=ai then 1 else 0:Nat):Int),aB (((B.L.vs.map aT).length:Nat):Int),aB (((B.R.es.map aT).length:Nat):Int)]=aK f:=by rw[aq,aq,b.lane.b7,b.file.e4,<-V];rfl);rw[bd];have v:=Z.new (o:=cT (aK f)) bv;refine#v[I,v _ _ l,T.ak.c.cl,T.ak.xq,LV,I,v _ _ l,T.ak.c.cl,T.ak.rl,LW,[B.L.sz,B.L.lim],[aK (s.lane.spans.map λx=>x.1),aK (s.lane.spans.map λx=>x.2)],s.lane.spans.length,I,I,I,(λi a xs j m=>?_),bG,∅,λa5 aN bI aG _ bm aw=>?_];(match i,j,m with|0,j,m=>have S:=aM j;have U:=aM m;subst S U;exact#v[aA.of (v _ _ b.sz),by rw[cy,aq]]|1,j,m=>have S:=aM j;have U:=aM m;subst S U;exact#v[aA.of (v _ _ b.lane.lim),by rw[cy,aq]]|n+2,j,m=>simp at j);(have be:((bQ s.lane.spans.length).map λi=>[aK (s.lane.spans.map λx=>x.1),aK (s.lane.spans.map λx=>x.2)].map λxs=>xs.getD i .non)=(s.lane.spans.map λ(x:Nat×Nat)=>[x.1,x.2]).map aK:=by refine sH (by rw[aq,aq,aq,et]) λi q ah=>?_;rw[aq,et]at q;simp[aK,dt,q]);rw[be]at aw;refine#v[aN,bI,_,I,bm,aw,(by rw[aq];lia),(λx d=>by obtain⟨p,_,rfl⟩:=bM.mp d;show 2<=3;decide),λa6 aO aH _ bn=>?_];have y:=(v.trans aG).trans aH;refine#v[I,y _ _ l,T.ak.c.cl,T.ak.i6,Ds,B.L.cr,I,#v[_,aA.of (y _ _ b.lane.cr)],λaP bo=>ID (K:=K) (λi p af=>∃t,p=aT t/\af t=O (.tup (((s.lane.onIt.map λ(x:dw×Nat)=>[x.1.id,cj s.lane x.1.side x.2]).map aK).getD i []))) (λi p a5 a6 aE bA⟨t,e,C⟩ bH=>#v[t,e,bH _ _ C (bC C bA (by intro bJ;cases bJ))]) bo (aA.of (y _ _ b.lane.cr)) (by rw[aq];lia) (λ_=>rfl) (λi x af d s' R bw=>?_) λ_ _ X bk ap bE=>?_];((obtain⟨c,z,rfl⟩:=eL d;have an:=dJ z;have ao:c.1.id<B.L.vs.length:=by rw[b.lane.b7];exact zw o.lane an);obtain⟨_,bD⟩:=b.lane.d7 c.1.id _ _ (gW ao) (f5 (by rw[b.lane.dN,<-b.lane.b7];exact ao));obtain⟨_,_,_,a8⟩:=b.lane.lo c an;have ar:=s' _ _ (y _ _ bD);refine#v[I,ar,T.aP.c.cl,T.aP.m3,rA _ _,I,ar,T.aP.c.cl,T.aP.jB,p7 _ _,(bB 2),λt C=>bw _ _ (Z.new C) #v[t,I,?_]];rw[az,a8];congr 2;rw[dt,bN,bN,z];rfl);(obtain⟨aL,rfl,av⟩:=Nm bE;rw[aq]at ap;have bg:((bQ (aL.map aT).length).map λi=>((s.lane.onIt.map λ(x:dw×Nat)=>[x.1.id,cj s.lane x.1.side x.2]).map aK).getD i [])=(s.lane.onIt.map λ(x:dw×Nat)=>[x.1.id,cj s.lane x.1.side x.2]).map aK:=by rw[aq,ap,aq];refine sH (by rw[aq,aq,aq,et]) λi q ah=>?_;rw[aq,et]at q;simp[dt,q]);rw[bg]at av;refine#v[aP,aL,_,I,bk,av,(by rw[aq];lia),(λx d=>by obtain⟨p,_,rfl⟩:=bM.mp d;show 2<=3;decide),λ_ aV Y _ bp=>?_];have W:=(y.trans X).trans Y;have bh:=uC (s.lane.spans.map λ(x:Nat×Nat)=>[x.1,x.2]) (λx d=>by obtain⟨p,_,rfl⟩:=bM.mp d;show 2<=3;decide);have bi:=uC (s.lane.onIt.map λ(x:dw×Nat)=>[x.1.id,cj s.lane x.1.side x.2]) (λx d=>by obtain⟨p,_,rfl⟩:=bM.mp d;show 2<=3;decide);rw[aq]at bh bi;generalize (s.lane.spans.map λ(x:Nat×Nat)=>[x.1,x.2]).flatten=aC at*;generalize (s.lane.onIt.map λ(x:dw×Nat)=>[x.1.id,cj s.lane x.1.side x.2]).flatten=bW at*;refine#v[I,W _ _ r,T.aF.c.cl,T.aF.fB,fM _ _ _ _ _,I,W _ _ as,T.aC.c.cl,T.aC.i7,kF,(bB 1),λaW br=>?_];have J:=Z.new (o:=cT [aB (s.file.today:Int)]) br;refine#v[a7,_,I,J _ _ (Y _ _ (X _ _ (aH _ _ (aG _ _ az)))),(by rw[cy];lia),λ_ a2 L _ al=>?_];rw[cy]at al;refine#v[aW,a2,_,_,I,I,L _ _ az,al,(by simp only[cU,e_,cy];lia),λG bs=>?_];have ac:=Z.new (o:=cT ([aB (s.file.today:Int)]++aB (f.length:Nat)::aK f)) bs;refine#v[aO,_,I,ac _ _ (L _ _ (J _ _ (Y _ _ (X _ _ bn)))),(by rw[cy];lia),λ_ a3 ad _ am=>?_];rw[cy]at am;refine#v[G,a3,_,_,I,I,ad _ _ az,am,(by simp only[cU,e_,cV,cy];lia),λa4 bt=>?_];have aD:=Z.new (o:=cT (([aB (s.file.today:Int)]++aB (f.length:Nat)::aK f)++aB (aC.length:Nat)::aK aC)) bt;refine#v[aV,_,I,aD _ _ (ad _ _ (ac _ _ (L _ _ (J _ _ bp)))),(by rw[cy];lia),λ_ a1 aF _ ak=>?_];rw[cy]at ak;refine#v[a4,a1,_,_,I,I,aF _ _ az,ak,(by simp only[cU,e_,cV,cy];lia),λ_ bu=>?_];have aI:=((((W.trans J).trans L).trans ac).trans ad).trans (aD.trans aF);refine k.fin (N.same aI) (.same aI) bu ?_;rw[YS]
def oM(k:aa bg):Nat:=match k with
 |bz i::_=>i.toNat
 |_=>0
def qg(k:aa bg):Nat:=match k with
 | [_,bz i]=>i.toNat
 |_=>0
def Z.unlock{H a:Hp}{d:U}{f:a9}{u:HO}(c:H d=O u)(s:Z (Y H d (.frz f u)) a):Z H (Y a d u):=by intro x v b;by_cases e:x=d;(subst e;rw[az,<-c];exact b);rw[aw e];exact s _ _ (by rw[aw e];exact b)
def Zm{H:Hp}{j d:U}{ag:aa (aa bg×V)}{g:BM}(B:fe A H j d ag g)(ao:Nat):((ag.filter λa=>decide (oM a.1=ao)).map λa=>qg a.1).Nodup:=by have m:ag.Pairwise λx b=>x.1≠b.1:=ik.mp B.nd;have n:=zZ (λa:aa bg×V=>decide (oM a.1=ao)) m;refine ik.mpr (r4 (λ{x b} o r q e=>q ?_) n);obtain⟨p,c⟩:=c0.mp o;obtain⟨s,f⟩:=c0.mp r;obtain⟨h,t,k⟩:=B.keys x p;obtain⟨i,u,l⟩:=B.keys b s;rw[k]at c e⊢;rw[l]at f e⊢;have v:h=ao:=jd c;have w:i=ao:=jd f;have y:t=u:=e;rw[v,w,y]
def Zn{H:Hp}{l d:U}{ag:aa (aa bg×V)}{f:BM}(B:fe A H l d ag f)(ao x:Nat):x∈((ag.filter λa=>decide (oM a.1=ao)).map λa=>qg a.1)↔f ao x≠aR:=by constructor;(intro h o;obtain⟨a,n,i⟩:=bM.mp h;obtain⟨b,c⟩:=c0.mp n;obtain⟨k,q,g⟩:=B.keys a b;rw[g]at c i;have r:k=ao:=jd c;have s:q=x:=i;rw[r,s]at g;exact CF (B.non ao x o) (bM.mpr #v[a,b,g]));intro h;cases e:f ao x with|none=>exact absurd e h|some m=>obtain⟨v,p,_⟩:=B.val ao x m e;obtain⟨a,b,c⟩:=bM.mp (Ie p);have j:a.1=key ao x:=c;refine bM.mpr #v[a,c0.mpr #v[b,?_],?_];(rw[j];exact eP I);rw[j];rfl
def qh(m:jm):aa Nat:=[m.span,m.load,m.time]
inductive Zo(A:bF)(vs:aa V)(H:Hp)(Q:VK)(E:XK):Prop|mk(s:bY)(b d:U)(a:aa (aa bg×V))(c:Nat)(_:vs=[.ref b,.int c])(_:aL.Ok s)(_:fe A H b d a (aL.mapOf s))(_:a.length<bu)(_:∀(H':Hp)(D:U)(ts:aa U),Z H H'->H D=aR->H' D=O (.lst (ts.map aT))->fq H' ts (((aL.gB s c).map qh).map aK)->Q (.ref D) H')
def Zp:bf P w K mg aJ bq 1 A.dZ.xu A.dZ.xx ["self","day"] (Zo A):=by(refine T.dZ.Jj.fn.bJ rn (λH vs _ E bJ h=>?_);obtain⟨s,ar,d,ag,ao,rfl,o,B,bD,k⟩:=h;have ca:=bZ;have aW:=k7 bJ;obtain⟨bh,r⟩:=B.obj;have be:ar≠d:=bC r B.dO (by intro an;cases an);refine#v[_,ay (Cw (ba 2 rn.nd (iY Tn (by rfl) T.Dq (by rfl) (aQ (hP (dS:=[("key",3)]) (g:=eh 3) (tt:=mP (gR tw (gR (tH K) (b8 3) (tC (.int 0))) (b8 1))) (te:=gR (tH K) (b8 3) (tC (.int 1))) I rn.nd (CD a0) (gn (by kernel_rfl)) (λ_ _ _ _ _=>dD (i:=3) rn.nd I (cB I)) (λ_ _ _ _ _=>tO (cO fl (cC gE (pv 3) bS (λ_ _=>rfl)) aS (cm _))) (λ_ _ _ _ _=>cC gE (pv 3) bS (λ_ _=>rfl))))))) (bc (hP (dS:=[("span",4)]) (g:=eh 4) (tt:=fI) (te:=pN (eC (b8 4) (eC (gR (tH K) (Cs (fm K (b8 0) "lines") (pN (eC (b8 1) (eC (b8 4) fo)))) (tC (.int 0))) (eC (gR (tH K) (Cs (fm K (b8 0) "lines") (pN (eC (b8 1) (eC (b8 4) fo)))) (tC (.int 1))) fo)))) I rn.nd (fU aY) (gn (by kernel_rfl)) (λ_ _ _ _ _=>dD (i:=4) rn.nd I (cB I)) (λ_ _ _ _ _=>ib) (λ_ _ _ _ _=>kr (dm (pv 4) (cv (cC gE (ra aW a0 (kr (cv aS (pv 4))) (λ_ _=>rfl)) bS (λ_ _=>rfl)) (cC gE (ra aW a0 (kr (cv aS (pv 4))) (λ_ _=>rfl)) bS (λ_ _=>rfl))))))),d,_,B.dO,True.intro,λy=>?_];have bH:(Y H d (.frz y (.dT ag))) ar=O (.ins A.dZ.C bh (DD d)):=by rw[aw be];exact r);refine#v[I,bH,T.dZ.c.cl,T.dZ.lP,ni,d,y,I,.inr #v[ag,az,λa7 bu=>wJ (J:=CC d y ag) (n:=ag.length) (ag.map λa=>aB (qg a.1:Int)) (ag.map λa=>decide (oM a.1=ao)) bu (by rw[aq]) (by rw[aq]) bD (λi b aD s'=>#v[s' _ _ az,aD]) (λb s'=>#v[s' _ _ az,bp _]) (λi x am _ ap bd _ _ aD bM aC s' bO bW bP=>?_) λq ak f=>?_]];(obtain⟨rfl,a1,b5,ah,S,rfl,bI⟩:=bO;obtain⟨a,bA,rfl⟩:=eL bM;have bn:a=(a1,b5):=aM (bA.symm.trans S);subst bn;rw[bN,S]at aC;have bi:=aM aC;subst bi;obtain⟨c,af,bk⟩:=B.keys _ (dJ S);have bm:a1=key c af:=bk;subst bm;have aO:bd ah=O (.tup [aB (c:Int),aB (af:Int)]):=bI;refine#v[I,ah,_,_,_,I,I,dH.of aO,fw (j:=0) (v:=.int (c:Int)) I I,I,_,I,cg (λL=>?_) (λL=>?_)];(have N:c=ao:=(by have:(c:Int)=(ao:Int):=(by simpa using L);lia);exact#v[ah,_,_,_,I,I,dH.of aO,fw (j:=1) (v:=.int (af:Int)) I I,bW (eP N) _ (Z.refl _)]);have N:¬c=ao:=λe=>L (by rw[e];exact eP I);exact bP (ek N) _ (Z.refl _));(rw[p8 (λa:aa bg×V=>aB (qg a.1:Int)) (λa=>decide (oM a.1=ao))]at f;have W:=Zm B ao;have U:=Zn B ao;have bo:((ag.filter λa=>decide (oM a.1=ao)).map λa=>aB (qg a.1:Int))=((((ag.filter λa=>decide (oM a.1=ao)).map λa=>qg a.1).map λ(n:Nat)=>(n:Int)).map aB):=by rw[ck,ck];rfl);(rw[bo]at f;generalize ((ag.filter λa=>decide (oM a.1=ao)).map λa=>qg a.1)=a2 at f W U;have b7:=o.lane.gh;have b_:a2.length<=12:=aL.pG 12 a2 W λx ad=>by cases e:aL.mapOf s ao x with|none=>exact absurd e ((U x).mp ad)|some m=>have:=(aL.vN o.tok e).2;lia);(refine#v[a7,_,I,aA.of f,(by rw[aq];lia),λbX p aI bL ac=>?_];have br:bX=((aL.gB s ao).map λm=>m.span).map λ(n:Nat)=>(n:Int):=aL.RD aI bL W (aL.Gm o ao) λx=>(U x).trans (aL.Gn o).symm;subst br;have b9:(aL.gB s ao).length<=12:=by have:=aI.length_eq;simp only[aq]at this;lia);(have aN:p≠d:=λe=>by rw[e,ak _ _ az]at ac;cases ac);(have b2:Z (Y H d (.frz y (.dT ag))) (Y q p (.lst ((((aL.gB s ao).map λm=>m.span).map λ(n:Nat)=>(n:Int)).map aB))):=ak.trans (Z.new ac);refine#v[by rw[aw aN.symm];exact ak _ _ az,?_];have z:=Z.unlock B.dO b2;have X:(Y (Y q p (.lst ((((aL.gB s ao).map λm=>m.span).map λ(n:Nat)=>(n:Int)).map aB))) d (.dT ag)) p=O (.lst ((aL.gB s ao).map λm=>aB (m.span:Int))):=by rw[aw aN,az,ck,ck];rfl);generalize (Y (Y q p (.lst ((((aL.gB s ao).map λm=>m.span).map λ(n:Nat)=>(n:Int)).map aB))) d (.dT ag))=b6 at z X;refine#v[p,I,#v[_,aA.of X],λa8 av=>ID (K:=K) (λi am b=>∃t,am=aT t/\b t=O (.tup ((((aL.gB s ao).map qh).map aK).getD i []))) (λi am q _ aE bw⟨t,e,l⟩ bT=>#v[t,e,bT _ _ l (bC l bw (by intro an;cases an))]) av (aA.of X) (by rw[aq];lia) (λ_=>rfl) (λi x b ad s' R bv=>?_) λap _ b3 bt aF bK=>?_];((obtain⟨m,aG,rfl⟩:=eL ad;obtain⟨bE,bF⟩:=c0.mp (dJ aG);have bG:m.day=ao:=by simpa using bF);(have aH:=aL.sW o bE;rw[bG]at aH;have a3:=z.trans s';obtain⟨v,aX,t,_,rfl,l,_⟩:=B.val ao m.span _ aH;refine#v[I,a3 _ _ r,T.dZ.c.cl,T.dZ.lP,ni,(bB 2),λal aP=>?_];have C:=a3.trans (Z.new (o:=HO.tup [aB (ao:Int),aB (m.span:Int)]) aP);have b0:(Y b al (.tup [aB (ao:Int),aB (m.span:Int)])) al=O (.tup ((key ao m.span).map kV)):=by rw[az];rfl);(refine#v[d,_,I,aX▸fV.t (k:=key ao m.span) (C _ _ B.dO) b0,t,_,_,_,I,I,dH.of (C _ _ l),fw (j:=0) (v:=.int (m.load:Int)) I I,?_];refine#v[I,C _ _ r,T.dZ.c.cl,T.dZ.lP,ni,(bB 2),λa5 aV=>?_];have a4:=C.trans (Z.new (o:=HO.tup [aB (ao:Int),aB (m.span:Int)]) aV);have b1:(Y (Y b al (.tup [aB (ao:Int),aB (m.span:Int)])) a5 (.tup [aB (ao:Int),aB (m.span:Int)])) a5=O (.tup ((key ao m.span).map kV)):=by rw[az];rfl);refine#v[d,_,I,aX▸fV.t (k:=key ao m.span) (a4 _ _ B.dO) b1,t,_,_,_,I,I,dH.of (a4 _ _ l),fw (j:=1) (v:=.int (m.time:Int)) I I,(bB 3),λb4 u=>bv _ _ (((Z.new aP).trans (Z.new aV)).trans (Z.new u)) #v[b4,I,?_]];rw[az];congr 2;rw[dt,bN,bN,aG];rfl);(obtain⟨a6,rfl,u⟩:=Nm bK;rw[aq]at aF;have bs:((bQ (a6.map aT).length).map λi=>(((aL.gB s ao).map qh).map aK).getD i [])=((aL.gB s ao).map qh).map aK:=by rw[aq,aF,aq];refine sH (by rw[aq,aq,aq,et]) λi as f=>?_;rw[aq,et]at as;simp[dt,as]);rw[bs]at u;exact k ap a8 a6 (z.trans b3) (z.free av) bt u
def Zq:bf P w K mg aJ bq 2 A.jX.f A.jX.fd ["session"] (f_ A K λc=>∃d,c=.book d):=by refine T.jX.fn.bJ Dj (λH vs _ E i h=>?_);obtain⟨t,cl,ns,aF,B,s,c,rest,rfl,j,o,_,an,_,ao,k⟩:=h;obtain⟨d,rfl⟩:=an;obtain⟨ad,aw⟩:=j.obj;have a1:=bZ;refine#v[_,(ay (ba 1 Dj.nd (cD a7 T.aO.c T.aO.eK ((eV T).to 1) i)) (ay (cN (cO gD aS (aX (aX a0)) (cm _)) (bc (bO (aQ (bG T.jZ)))) c9) (ay (ba 2 Dj.nd (pm (aX a0) T.dZ.c T.dZ.Jj (Zp T) i (aQ aS))) (bc (cS g9 (bO (aQ (dE T.dW aY))) (ef (hv T) i T.fJ (aQ (ef (zJ T) i T.lQ (aQ aY))))))))),?_];obtain⟨aE,as⟩:=eW ao;refine#v[t,ad,_,I,aw,I,t,cl,B.b,ns,aF+0,(d:Int),I,j.eM,aE,λH1 aG y=>?_];have aP:=as;have g:=j.cE aG y;obtain⟨_,q⟩:=g.obj;have v:bT H H1 t B B:=bT.cE y;obtain⟨_,ag,b⟩:=g.br;obtain⟨_,L⟩:=b.obj;obtain⟨dl,_⟩:=b.lane.obj;obtain⟨_,av⟩:=b.file.obj;obtain⟨ac,ap⟩:=b.book.obj;refine#v[I,q,T.aO.c.cl,T.aO.fu,fC _ _ _,I,L,T.aF.c.cl,T.aF.fB,fM _ _ _ _ _,I,av,T.aC.c.cl,T.aC.i7,kF,_,_,I,I,_,I,cg (λn=>?_) (λn=>?_)];((have p:s.file.today<d:=(by have:(s.file.today:Int)<(d:Int):=(by simpa using n);lia);have l:di s (.book d)=(s,lA (-1)):=by show(s,if s.file.today<d then _ else _)=_;rw[aI p]);rw[l]at k;refine#v[(bB 1),λ_ ah=>k.fin g v ah I]);(have p:¬s.file.today<d:=(by have:¬(s.file.today:Int)<(d:Int):=(by simpa using n);lia);have l:di s (.book d)=(s,#v[((aL.gB s d).length:Nat),[Sy51.ints ((aL.gB s d).map qh).flatten]]):=by show(s,if s.file.today<d then _ else _)=_;rw[aD p,<-Ba];rfl);(rw[l]at k;have aW:=b.short o.tok;refine#v[I,q,T.aO.c.cl,T.aO.fu,fC _ _ _,I,L,T.aF.c.cl,T.aF.rp,uv _ _ _ _ _,B.bk,ac,_,I,ap,I,s,B.bk,B.d,ag,d,I,o,b.book,∅,λ_ u V aH _ C N=>?_];have aC:V.length=(aL.gB s d).length:=by rw[N.1,aq,aq]);(have aV:(aL.gB s d).length<=12:=by(have ar:((aL.gB s d).map λ(m:jm)=>m.span).Nodup:=Qa (λ{a b:Nat}(h:a<b)=>er h) (aL.Gm o d);have z:=aL.pG 12 _ ar λx f=>by cases e:aL.mapOf s d x with|none=>exact absurd e ((aL.Gn o).mp f)|some m=>have aN:=(aL.vN o.tok e).2;have aO:=o.lane.gh;lia);rw[aq]at z;exact z);refine#v[u,_,I,.inl (aA.of C),(bB 1),λX al=>?_];rw[aq,aC];have r:=Z.new (o:=cT [aB ((aL.gB s d).length:Nat)]) al;refine#v[u,V,_,I,r _ _ C,N.same r,(by rw[aq];lia),(λx f=>by obtain⟨aK,_,rfl⟩:=bM.mp f;show 3<=3;decide),λ_ W R _ ak=>?_];have af:=uC ((aL.gB s d).map qh) (λx f=>by obtain⟨aK,_,rfl⟩:=bM.mp f;show 3<=3;decide);rw[aq]at af;generalize ((aL.gB s d).map qh).flatten=a2 at*;refine#v[W,_,I,ak,(by rw[cy];lia),λ_ Y S _ J=>?_];rw[cy]at J;refine#v[X,Y,_,_,I,I,S _ _ (R _ _ az),J,(by simp only[cU,e_,cy];lia),λG am=>?_];have U:=((aH.trans r).trans R).trans S;refine k.fin (g.same U) (v.trans (.same U) q) am ?_;rw[oL]
def rng(j:Nat):Nat×Nat:=match j with
 |0=>(1,5)
 |1=>(1,1000)
 |_=>(0,100)
def rN(i x:Nat):Prop:=(rng (i%4)).1<=x/\x<=(rng (i%4)).2
def Good(l:aa Nat):Prop:=l.length%4=0/\4<=l.length/\l.length<=48/\∀i x,l[i]? =O x->rN i x
def lV(x:Nat×e8):Bool:=decide (x.1<1)||(decide (5<x.1)||(decide (x.2.bears<1)||(decide (1000<x.2.bears)||(decide (100<x.2.costs)||decide (100<x.2.grows)))))
def D3:∀l:aa Nat,l.length%4=0->((dC l).any lV=ax↔∀i x,l[i]? =O x->rN i x)
 | [],_=>#v[λ_ i x h=>by simp at h,λ_=>rfl]
 | [_],h=>by simp at h
 | [_,_],h=>by simp at h
 | [_,_,_],h=>by simp at h
 |c::a::f::g::l,h=>by
  have o:=D3 l (by simp only[cU]at h;lia);show(lV (c,#v[a,f,g])||(dC l).any lV)=ax↔_;rw[Fy,o];constructor
  ·rintro⟨m,n⟩ i x b;unfold lV at m;simp only[Fy,Ep]at m
   match i,b with
   |0,b=>have e:c=x:=aM b;show 1<=x/\x<=5;lia
   |1,b=>have e:a=x:=aM b;show 1<=x/\x<=1000;lia
   |2,b=>have e:f=x:=aM b;show 0<=x/\x<=100;lia
   |3,b=>have e:g=x:=aM b;show 0<=x/\x<=100;lia
   |j+4,b=>have d:=n j x b;unfold rN at d⊢;rw[Qb];exact d
  ·intro k;have p:1<=c/\c<=5:=k 0 c I;have q:1<=a/\a<=1000:=k 1 a I;have r:0<=f/\f<=100:=k 2 f I;have s:0<=g/\g<=100:=k 3 g I;refine#v[?_,λi x b=>?_]
   ·unfold lV;simp only[Fy,Ep];lia
   ·have d:=k (i+4) x b;unfold rN at d⊢;rw[Qb]at d;exact d
def Nn{t:Nat}{l:aa Nat}:(t<1\/20<t\/l.length%4≠0\/l.length<4\/48<l.length\/(dC l).any lV=ai)↔¬(1<=t/\t<=20/\Good l):=by constructor;((rintro h ⟨c,d,b,_,_,f⟩;have:=(D3 l b).mpr f;rw[this]at h;have j:¬(ax=ai):=by decide);rcases h with h|h|h|h|h|h;(lia);(lia);(exact h b);(lia);(lia);exact j h);intro h;by_cases c:t<1;(exact .inl c);by_cases d:20<t;(exact .inr (.inl d));by_cases a:l.length%4=0;(by_cases g:l.length<4;(exact .inr (.inr (.inr (.inl g))));by_cases i:48<l.length;(exact .inr (.inr (.inr (.inr (.inl i)))));refine .inr (.inr (.inr (.inr (.inr ?_))));cases e:(dC l).any lV with|true=>rfl|false=>exact absurd ⟨by lia,by lia,a,by lia,by lia,(D3 l a).mp e⟩ h);exact .inr (.inr (.inl a))
def rO(K:bj)(mg:M->ab D):Prop:=∃(a:U)(b:Nat->U),mg "SPAN_RANGES"=O (.ref a)/\(∀H:Hp,dH K H a [.ref (b 0),.ref (b 1),.ref (b 2),.ref (b 3)])/\∀j,j<4->∀H:Hp,dH K H (b j) [.int ((rng j).1:Int),.int ((rng j).2:Int)]
def Np{f:Nat->V}{j:Nat}(h:j<4):[f 0,f 1,f 2,f 3][j]? =O (f j):=by match j,h with|0,_=>rfl|1,_=>rfl|2,_=>rfl|3,_=>rfl
inductive Zr(vs:aa V)(H:Hp)(Q:VK)(E:XK):Prop|mk(a:U)(l:aa Nat)(_:vs=[.ref a])(_:H a=O (.lst (aK l)))(_:l.length<=60)(_:∀(H':Hp)(g:Bool),Z H H'->(g=ai↔Good l)->Q (.bl g) H')
def Zs(T:Txt K mg A)(G:rO K mg):bf P w K mg aJ bq 1 A.p4.f A.p4.fd ["numbers"] Zr:=by(refine T.p4.fn.bJ rq (λH vs ad E _ h=>?_);obtain⟨sp,l,rfl,t,_,k⟩:=h;have aC:=bZ;obtain⟨_,r⟩:=T.m_;obtain⟨B,C,al,ak,am⟩:=G;have z:¬Good l->∀b,Z H b->ad (.bl ax) b:=λR b s'=>k b ax s' #v[λc=>(by cases c),λc=>absurd c R];refine#v[_,ay (ba 1 rq.nd (cS B0 (dE T.dW a7) (bG T.m_))) (ay (cN (PW.pt (lJ (cO v3 (cS B1 (dE T.dW a7) (bG T.m_)) bS (cm _)) (mL (k0 (n5 g8 g8 bS aS (bG T.VC)))))) (bc mK) c9) (ay (iV hK I (tU I T.ue (aQ a7)) (mN I (gQ (dD (i:=2) rq.nd I (cB I)) (gQ (dD (i:=3) rq.nd I (cB I)) mM))) (ay (ba 4 rq.nd (cC gE (cC gE (s8 (v:=.ref B) I al I) (cS B1 aY (bG T.m_)) (λ_ _=>rfl)) bS (λ_ _=>rfl))) (ay (ba 5 rq.nd (cC gE (cC gE (s8 (v:=.ref B) I al I) (cS B1 aY (bG T.m_)) (λ_ _=>rfl)) bS (λ_ _=>rfl))) (cR (cN (k0 (n5 g8 g8 (pv 4) (pv 3) (pv 5))) (bc mK) c9))))) (bc mK))),sp,_,I,.inl (aA.of t),_,_,I,I,(by first|decide|(constructor<;>decide)|trivial),?_];rw[cy];have u:∀n:Nat,((n:Int)%4)=((n%4:Nat):Int):=λn=>by lia);refine#v[sp,_,I,.inl (aA.of t),_,_,I,I,(show(0:Int)<4 by decide),I,_,I,cg (λL=>?_) (λL=>?_)];(refine de (z (λg=>?_) H (Z.refl _));have m:(!decide (aB (((aK l).length:Nat)%4:Int)=aB 0))=ai:=L;rw[cy,u,g.1]at m;exact absurd m (by decide));(have as:l.length%4=0:=by have m:¬(!decide (aB (((aK l).length:Nat)%4:Int)=aB 0))=ai:=L;rw[cy,u]at m;cases e:l.length%4 with|zero=>rfl|succ n=>(exfalso;apply m;rw[e];have:¬aB ((n+1:Nat):Int)=aB 0:=λc=>by have:=V.int.inj c;lia);rw[ek this];rfl);refine#v[_,_,I,I,_,I,cg (λN=>?_) (λN=>?_)];(have ap:1<=(l.length:Int)/4:=(by simpa using N);refine#v[_,_,I,I,_,I,?_];by_cases ag:(l.length:Int)/4<=12;(rw[eP ag];refine eJ ?_;refine#v[sp,_,I,aA.of t,DE (K:=K) (a:=sp) (xs:=aK l) (λi J b=>∃(W X Y ac:ab V),J=[O (.ref sp),O (.int ((l.length:Int)/4)),W,X,Y,ac]/\Z H b/\∀j x,j<i->l[j]? =O x->rN j x) #v[aj,aj,aj,aj,I,Z.refl _,λj x d=>absurd d (kM _)] (λi J b _⟨_,_,_,_,_,s',_⟩=>aA.of (s' _ _ t)) ?_ ?_];(rintro i _ an J b ar ⟨W,X,Y,ac,rfl,s',s⟩ aq;obtain⟨x,p,rfl⟩:=eL ar;have U:=Z.new (o:=HO.tup [aB (i:Nat),aB (x:Int)]) aq;have d:i%4<4:=Nat.mod_lt _ (by decide);refine#v[an,_,I,dH.of az,I,_,_,I,_,_,I,I,_,_,I,I,(show(0:Int)<4 by decide),B,_,_,_,I,I,ak _,fw (j:=i%4) (u i) (Np (f:=λj=>aT (C j)) d),C (i%4),_,_,_,I,I,am _ d _,fw (j:=0) (v:=.int ((rng (i%4)).1:Int)) I I,_,_,I,I,(show(0:Int)<4 by decide),B,_,_,_,I,I,ak _,fw (j:=i%4) (u i) (Np (f:=λj=>aT (C j)) d),C (i%4),_,_,_,I,I,am _ d _,fw (j:=1) (v:=.int ((rng (i%4)).2:Int)) I I,?_];have af:¬rN i x->∀q,Z H q->ad (.bl ax) q:=λR q av=>z (λg=>R (g.2.2.2 i x p)) q av;refine#v[_,_,I,I,_,I,cg (λr=>?_) (λr=>?_)];(have Q:(rng (i%4)).1<=x:=(by have:((rng (i%4)).1:Int)<=(x:Int):=(by simpa using r);lia);refine#v[_,_,I,I,_,I,?_];by_cases ah:x<=(rng (i%4)).2;(rw[eP (show(x:Int)<=((rng (i%4)).2:Int)by lia)];refine eJ #v[_,_,_,_,I,s'.trans U,λj aw d S=>?_];by_cases e:j=i;(subst e;rw[p]at S;have ao:=aM S;subst ao;exact#v[Q,ah]);exact s j aw ∅ S);rw[ek (show¬(x:Int)<=((rng (i%4)).2:Int)by lia)];exact de (af (λc=>ah c.2) _ (s'.trans U)));have Q:¬(rng (i%4)).1<=x:=(by have:¬((rng (i%4)).1:Int)<=(x:Int):=(by simpa using r);lia);exact#v[_,I,de (af (λc=>Q c.1) _ (s'.trans U))]);rintro J b ⟨W,X,Y,ac,rfl,s',s⟩;rw[cy]at s;refine k b ai s' #v[λ_=>#v[as,by lia,by lia,λi x p=>s i x (cM.mp p).1 p],λ_=>rfl]);rw[ek ag];exact de (z (λg=>by have:=g.2.2.1;lia) H (Z.refl _)));have ap:¬1<=(l.length:Int)/4:=(by simpa using N);exact#v[_,I,de (z (λg=>by have:=g.2.1;lia) H (Z.refl _))]
def Zt(T:Txt K mg A)(aO:rO K mg):bf P w K mg aJ bq 10 A.jC.f A.jC.fd ["session"] (f_ A K λc=>∃t l,c=.begins t l):=by(refine T.jC.fn.bJ C_ (λH vs aN E C h=>?_);obtain⟨j,cl,ns,f,B,s,c,rest,rfl,N,o,_,a3,a8,a4,k⟩:=h;obtain⟨t,l,rfl⟩:=a3;obtain⟨aW,bk⟩:=N.obj;have bt:=bZ;refine#v[_,(ay (ba 1 C_.nd (cD a7 T.aO.c T.aO.eK ((eV T).to 9) C)) (ay (ba 2 C_.nd (cD a7 T.aO.c T.aO.Km ((Xn T).to 9) C)) (ay (cN (PW.pt (lJ (k0 (n5 g8 g8 bS aS (bG T.VB))) (mL (k0 (gP (ef ((Zs T aO).to 9) C T.p4 (aQ aY))))))) (bc (bO (aQ (bG T.jZ)))) c9) (ay (e0 (pm a7 T.aO.c T.aO.C6 (MZ T) C (cv aS aY))) (bc (bO (aQ (dE T.dW (aX (aX a0)))))))))),?_];obtain⟨bm,bh⟩:=eW a4;refine#v[j,aW,_,I,bk,I,j,cl,B.b,ns,f+0,(t:Int),I,N.eM,bm,λH1 bn ak=>?_];have a5:=bh;have Q:=N.cE bn ak;obtain⟨a1,av⟩:=Q.obj;have aF:bT H H1 j B B:=bT.cE ak;have bd:=a8.2.1;have a6:ns.drop (f+1)=(l.length:Int)::((l.map λ(n:Nat)=>(n:Int))++rest):=a5;obtain⟨az,as⟩:=eW a6;have bg:f+1+1+l.length<=ns.length:=by have r:=dR Aj as;rw[uY,cV,aq]at r;have z:=(cM.mp az).1;lia);(refine#v[j,a1,_,I,av,I,j,cl,B.b,ns,f+1,l.length,I,Q.eM,az,bg,λaf L bo al _ ao=>?_];have bi:(ns.drop (f+1+1)).take l.length=l.map λ(n:Nat)=>(n:Int):=by rw[as,Er (by rw[aq];exact bp _),o8 (by rw[aq];exact bp _)]);(rw[bi]at ao;have ap:af L=O (.lst (aK l)):=by rw[ao,ck];rfl);(have R:=Q.cE bo al;have L2:=aF.trans (bT.cE al) av;obtain⟨U,W⟩:=R.obj;have a2:f+(eR.enc (.begins t l)).tail.length=f+1+1+l.length:=by show f+([(t:Int),(l.length:Int)]++l.map λ(n:Nat)=>(n:Int)).length=_;rw[cV,aq];simp only[cU,e_];lia);(rw[a2]at k;have ac:¬(1<=t/\t<=20/\Good l)->∀p,Z af p->∀a,p a=aR->aN (.ref a) (Y p a (.lst [.int (-1)])):=λh p m a i=>by have V:di s (.begins t l)=(s,lA (-1)):=(by show(if t<1\/20<t\/l.length%4≠0\/l.length<4\/48<l.length\/(dC l).any lV=ai then _ else _)=_;rw[aI (Nn.mpr h)]);rw[V]at k;exact k.fin (R.same m) (L2.trans (.same m) W) i I);refine#v[_,_,I,I,_,I,cg (λr=>?_) (λr=>?_)];(have y:1<=t:=(by have:(1:Int)<=(t:Int):=(by simpa using r);lia);refine#v[_,_,I,I,_,I,?_];by_cases z:t<=20;(rw[eP (show(t:Int)<=20 by lia)];refine eJ #v[L,l,I,ap,bd,λp g m ar=>#v[g,I,?_]];cases g with|false=>exact de ⟨(bB 1),λa i=>ac (λd=>absurd (ar.mpr d.2.2) (by decide)) p m a i⟩|true=>(have an:Good l:=ar.mp I;have aC:¬(t<1\/20<t\/l.length%4≠0\/l.length<4\/48<l.length\/(dC l).any lV=ai):=λd=>Nn.mp d ⟨y,z,an⟩;have V:di s (.begins t l)=((fH (aL.fresh t (dC l))).1,lA (fQ (fH (aL.fresh t (dC l))).1.lane:Nat)):=by show(if t<1\/20<t\/l.length%4≠0\/l.length<4\/48<l.length\/(dC l).any lV=ai then _ else _)=_;rw[aD aC];rfl);(rw[V]at k;obtain⟨_,_,br⟩:=aL.F8 (t:=t) (l:=l) aC;refine eJ ?_;have q:=m _ _ W;refine#v[j,U,_,I,q,I,j,U,cl,L,_,f+1+1+l.length,t,l.length/4,l,I,q,(by show 2<900;decide),(λ_=>rfl),m _ _ ap,y,z,(by have:=an.1;lia),br,λag J ah aw am ad=>?_];have aP:=R.same m;have aG:=L2.trans (.same m) W;have aV:SB A K ag j cl ns (f+1+1+l.length) J (fH (aL.fresh t (dC l))).1:=by refine#v[#v[U,aw],?_,ah,λd=>?_];(rcases aP.calls with h|⟨u,v,_,aE,bs⟩;(exact .inl h);refine .inr #v[u,am _ _ v (λe=>?_),λd=>?_,aE,bs];(rw[e,q]at v;exact aE _ _ _ (aM v).symm);rw[ad _ d]at v;cases v);rw[ad _ d]at q;cases q);have aH:bT H ag j B J:=aG.trans #v[λx o X be _=>am x o X be,λx X=>.inr (ad x X)] q;obtain⟨_,_,S⟩:=ah;obtain⟨_,og⟩:=S.obj;obtain⟨_,bb⟩:=S.lane.obj;refine#v[I,aw,T.aO.c.cl,T.aO.fu,fC _ _ _,I,og,T.aF.c.cl,T.aF.gV,hy _ _ _ _ _,I,bb,T.ak.c.cl,T.ak.oj,p6 _ _,J.L.cs,_,I,.inl (aA.of S.lane.cs),(bB 1),λa i=>?_];refine k.fin aV aH i ?_;rw[cy,bw.qT];rfl);rw[ek (show¬(t:Int)<=20 by lia)];exact de #v[(bB 1),λa i=>ac (λd=>z d.2.1) _ (Z.refl _) a i]);have y:¬1<=t:=(by have:¬(1:Int)<=(t:Int):=(by simpa using r);lia);exact#v[_,I,de #v[(bB 1),λa i=>ac (λd=>y d.1) _ (Z.refl _) a i]]
end
end Br
namespace L2
def D4(d:U)(H1:Hp)(e:Nat->U->Hp->Prop)(i:Nat)(c:Hp):Prop:=Z H1 c/\∃b:aa U,c d=O (.lst (b.map aT))/\b.length=i/\b.Nodup/\(∀a∈b,H1 a=aR/\a≠d/\∃u,c a=O u)/\∀j a,b[j]? =O a->e j a c
def Nq{K:bj}{a f:U}{xs:aa V}{j:Nat}{te:TE}{vs:aa Nat}{s:St}{H1:Hp}{ac:Hp->Prop}(n:Nat->U->Hp->Prop)(J:∀i b(H c:Hp) aE,H f=O (.lst aE)->b≠f->n i b H->(∀d o,H d=O o->d≠f->c d=O o)->n i b c)(ar:∀i b H,n i b H->∃u,H b=O u)(af:H1 f=aR)(ay:aA K H1 a xs)(aK:xs.length<bu)(aG:∀x,bP ((bP s vs).set j (O x)) vs=bP s vs)(av:∀(i:Nat)(x:V)(c:Hp),xs[i]? =O x->Z H1 c->∀R:VK,(∀b l,Z c l->c b=aR->n i b l->R (.ref b) l)->te ((bP s vs).set j (O x)) c R)(as:∀(c:Hp)(k:aa U),Z H1 c->c f=O (.lst (k.map aT))->k.length=xs.length->k.Nodup->(∀b∈k,H1 b=aR/\b≠f)->(∀j b,k[j]? =O b->n j b c)->ac c):∃W:Nat->Nat->Hp->Prop,(∃m,W 0 m (Y H1 f (.lst [])))/\∀i m H,W i m H->((f3 K a).stop i H/\ac H)\/((f3 K a).go i H/\∃E:Hp->Prop,(∀c,E c->∃am,am<m/\W (i+1) am c)/\∀x c,(f3 K a).gC i H x c->eh j x (bP s vs) c λT l=>bP T vs=bP s vs/\fI T l λd X=>if d=ai then te T X λS t=>∃aE,t f=O (.lst aE)/\aE.length<bu/\E (Y t f (.lst (aE++ [S])))else E X):=by refine Co (K:=K) (a:=a) (xs:=xs) (D4 f H1 n) #v[Z.new af,[],az,I,sm,λb h=>(by cases h),λj b h=>by simp at h] (λi c _ p=>p.1.seq ay) (λi x c al p=>#v[aG x,?_]) λc p=>?_;((have aJ:=(cM.mp al).1;show(if ai=ai then te ((bP s vs).set j (O x)) c (λS t=>∃aE,t f=O (.lst aE)/\aE.length<bu/\D4 f H1 n (i+1) (Y t f (.lst (aE++ [S]))))else D4 f H1 n (i+1) c);rw[aI I];obtain⟨w,k,v,y,N,q,P⟩:=p;refine av i x c al w _ λb l C z r=>?_;have L:=C _ _ v;have B:∀d o,l d=O o->d≠f->(Y l f (.lst (k.map aT++ [aT b]))) d=O o:=λd o g aF=>by rw[aw aF];exact g);(have Q:b≠f:=λe=>by rw[e,v]at z;cases z);(have aH:b∉k:=λh=>by obtain⟨_,_,u,A⟩:=q b h;rw[z]at A;cases A);refine#v[_,L,by rw[aq];lia,(w.trans C).gG af,k++ [b],by rw[az,dY];rfl,by rw[cV,y];rfl,?_,?_,?_];(rw[hB];refine#v[N,by simp,λa ag d g e=>?_];rw[c_]at g;rw[e,g]at ag;exact aH ag);((intro d g;rcases dh.mp g with h|h);(obtain⟨ao,ad,u,ap⟩:=q d h;exact#v[ao,ad,u,B _ _ (C _ _ ap) ad]);rw[c_.mp h];obtain⟨u,A⟩:=ar i b l r;exact#v[w.free z,Q,u,B _ _ A Q]);intro m d g;by_cases aC:m<k.length;(rw[il aC]at g;have ah:=(q d (dJ g)).2.1;exact J m d _ _ _ L ah (J m d c l _ v ah (P m d g) λd o g _=>C d o g) B);(have aD:=(cM.mp g).1;rw[cV,iM]at aD;have e:m=k.length:=by lia);subst e;rw[je (bp _),j9]at g;have an:b=d:=aM g;subst an;rw[y];exact J i b _ _ _ L Q r B);obtain⟨w,k,v,y,N,q,P⟩:=p;exact as c k w v y N (λb ak=>#v[(q b ak).1,(q b ak).2.1]) P
end L2
namespace Br
section
inductive Nr(A:bF)(vs:aa V)(H:Hp)(Q:VK)(E:XK):Prop|mk(p:U)(i:Nat)(d:VD)(_:vs=[.ref p])(_:lS A.aP.C H p i d)(_:∀(H':Hp)(q:U),Z H H'->H q=aR->lS A.aP.C H' q i d->Q (.ref q) H')
def Zu:bf P w K mg aJ bq 3 A.aP.m1 A.aP.m2 ["self"] (Nr A):=by(refine T.aP.rh.fn.bJ IH (λH vs _ E o h=>?_);obtain⟨p,i,d,rfl,⟨m,b⟩,k⟩:=h;refine#v[_,ay (ba 1 IH.nd (lL T.aP.c.k9 (Mf T) o I T.aP.c.at_ T.aP.ft.bi .nil g_ (dm a0 (cv a0 a0)))) (ay (cF aS a0 I) (ay (cF aS a0 I) (ay (cF aS a0 I) (bc aS)))),I,b,T.aP.c.cl,T.aP.m3,VR,I,b,T.aP.c.cl,T.aP.rd,LR,I,b,T.aP.c.cl,T.aP.rf,VS,?_];intro a c f r _;refine#v[a,c,i,d.side,d.weight,I,az,λH1 n q=>#v[I,?_]];have l:Z H H1:=Z.made f r q;have g:=l _ _ b;have s:p≠a:=λe=>by rw[e]at b;rw[b]at f;cases f);(refine#v[I,g,T.aP.c.cl,T.aP.gU,kD,a,_,c,_,I,n,T.aP.c.cl,T.aP.gU,(by show 6<1000;decide),?_];have j:∀u,(Y H1 a u) p=O (.ins A.aP.C m (fK i d)):=λu=>by rw[aw s];exact g);refine#v[I,j _,T.aP.c.cl,T.aP.jB,LS,a,_,c,_,I,az,T.aP.c.cl,T.aP.jB,(by show 6<1000;decide),?_];rw[eS];refine#v[I,j _,T.aP.c.cl,T.aP.rg,LU,a,_,c,_,I,az,T.aP.c.cl,T.aP.rg,(by show 6<1000;decide),?_];rw[eS];exact(k _ a (l.gG f) f #v[c,by rw[az];rfl])
inductive Nt(A:bF)(vs:aa V)(H:Hp)(Q:VK)(E:XK):Prop|mk(a b:U)(l:aa Nat)(c d:aa U)(e:aa VD)(_:vs=[.ref a,.ref b])(_:H a=O (.lst (l.map λi=>aT (c.getD i 0))))(_:H b=O (.lst (d.map aT)))(_:l.length<=60)(_:c.length=e.length)(_:d.length=c.length)(_:(∀i∈l,i<c.length))(_:hg A.aP.C H c e)(_:∀(H':Hp)(D:U),Z H H'->H D=aR->H' D=O (.lst (l.map λi=>aT (d.getD i 0)))->Q (.ref D) H')
def Nu:bf P w K mg aJ bq 1 A.ow.f A.ow.fd ["some","twins"] (Nt A):=by refine T.ow.fn.bJ C8 (λH vs _ E _ h=>?_);obtain⟨a,p,l,ps,f,_,rfl,d,t,_,C,J,u,L,k⟩:=h;have W:=bZ;refine#v[_,bc (hP (dS:=[("v",2)]) (g:=eh 2) (tt:=fI) (te:=gR (B9 K) (b8 1) (fm K (b8 2) "number")) I C8.nd (fU a7) (gn (by kernel_rfl)) (λ_ _ _ _ _=>dD (i:=2) C8.nd I (cB I)) (λ_ _ _ _ _=>ib) (λ_ _ _ _ _=>cC d9 aS (aX aY) (λ_ _=>rfl))),a,I,#v[_,aA.of d],λm c=>mZ (K:=K) (l.map λi=>aT (f.getD i 0)) c (aA.of d) (by rw[aq,aq]) (by rw[aq];lia) (λ_=>rfl) (λi x _ o N S s' R s=>?_) λH1 V r=>?_];(obtain⟨n,e,rfl⟩:=eL N;obtain⟨U,z,rfl⟩:=eL S;have q:n=U:=aM (e.symm.trans z);subst q;have b:=u n (dJ e);obtain⟨_,B⟩:=L n _ _ (gW b) (f5 (by rw[<-C];exact b));exact#v[I,s' _ _ B,T.aP.c.cl,T.aP.m3,rA _ _,p,_,_,_,I,I,aA.of (s' _ _ t),eD (j:=n) (v:=.ref (f.getD n 0)) (by rw[bN,gW (by rw[J];exact b)];rfl),s o (Z.refl _)]);exact k H1 m V c r
inductive Zv(A:bF)(vs:aa V)(H:Hp)(Q:VK)(E:XK):Prop|mk(L:LA)(s:G)(a:aa VD)(_:vs=[.ref L.l])(_:aW.Ok s)(_:b9 A H L s a)(_:H L.sz=O (.lst (aK (s.spans.map λx=>x.1))))(_:∀(H':Hp)(L':LA),b9 A H' L' s a->(∀x,LF L' x->H x=aR)->Z H H'->Q (.ref L'.l) H')
def Zw:bf P w K mg aJ bq 4 A.ak.m1 A.ak.m2 ["self"] (Zv A):=by
 refine T.ak.rh.fn.bJ rk (λH vs _ E a8 h=>?_);obtain⟨L,s,an,rfl,o,f,cp,k⟩:=h;obtain⟨dl,X⟩:=f.obj;have dk:=bZ;have dj:=o.count;have dh:=o.fY;refine#v[_,ay (mO (i:=1) rk.nd I (gb I) (lL T.ak.c.k9 (MI T) a8 I T.ak.c.at_ T.ak.ft.bi .nil g_ (dm a0 (cv a0 a0)))) (ay (cF aS a0 I) (ay (cF aS a0 I) (ay (cF aS a0 I) (ay (cF aS (hP (dS:=[("v",2)]) (g:=eh 2) (tt:=fI) (te:=n6 A.aP.C "twin" (Nr A) [] E0 (b8 2) fo) I rk.nd (fU a0) (gn (by kernel_rfl)) (λ_ _ _ _ _=>dD (i:=2) rk.nd I (cB I)) (λ_ _ _ _ _=>ib) (λ_ _ _ _ _=>Hj aY T.aP.c.cl T.aP.rh.me (Zu T) a8 T.aP.rh.bi .nil g_)) I) (ay (cF aS (hP (dS:=[("queue",3)]) (g:=eh 3) (tt:=fI) (te:=tF (Nt A) [] E0 (eC (b8 3) (eC (fm K (b8 1) "vehicles") fo))) I rk.nd (fU a0) (gn (by kernel_rfl)) (λ_ _ _ _ _=>dD (i:=3) rk.nd I (cB I)) (λ_ _ _ _ _=>ib) (λ_ _ _ _ _=>ef ((Nu T).to 3) a8 T.ow (cv (pv 3) (aX aS)))) I) (ay (cF aS (ef ((Nu T).to 3) a8 T.ow (cv a0 (aX aS))) I) (bc aS))))))),I,X,T.ak.c.cl,T.ak.CP,VT,I,X,T.ak.c.cl,T.ak.xq,LV,I,X,T.ak.c.cl,T.ak.rl,LW,?_];intro ao ah ac b0 _;have bp:∀ {x:U}{u:HO},H x=O u->(Y (Y H ah (.own ao)) ao (.ins A.ak.C ah [])) x=O u:=λm=>by rw[aw (bI m ac),aw (bI m b0)];exact m
 refine#v[ao,ah,L.sz,L.lim,s.turn,s.spans,I,az,bp cp,bp f.lim,o.gh,(λx m=>(o.iB x m).2),λH1 b5 b6 b9 ca bv bD ch=>#v[I,?_]];have b1:Z H H1:=Z.made ac b0 ch;obtain⟨b,dg,j,cR,b3,ba,av,aC,ap,aF⟩:=b5;have b7:b=ao:=b6;have b_:dg=L.sz:=b9;have cd:cR=L.lim:=ca;subst b7 b_ cd;have cy:H j=aR:=by
  have ak:=bD.1;cases aO:H j with
  |none=>rfl
  |some u=>have ci:=bp aO;have aP:(Y (Y H ah (.own b)) b (.ins A.ak.C ah [])) j=aR:=ak;rw[ci]at aP;cases aP
 have a5:j≠b:=λe=>by have aP:(Y (Y H ah (.own b)) b (.ins A.ak.C ah [])) j=aR:=bD.1;rw[e,az]at aP;cases aP
 obtain⟨B,pS⟩:=bv.obj;have cs:H1 b=O (.ins A.ak.C B (cX #v[b,L.sz,j,L.lim,b3,ba,av,aC,ap,aF] (DM s.turn s.spans))):=pS;have ct:H1 j=O (.lst (aK (bw.ec 0 s.spans))):=bv.cs;have df:L.l≠b:=bI X ac;have bE:∀ {W:Hp}{u:HO},W L.l=O (.ins A.ak.C dl (cX L s))->(Y W b u) L.l=O (.ins A.ak.C dl (cX L s)):=λh=>by rw[aw df];exact h
 have bk:=b1 _ _ X;refine#v[I,bk,T.ak.c.cl,T.ak.k_,ug,b,_,B,_,I,cs,T.ak.c.cl,T.ak.k_,(by show 10<1000;decide),I,bE bk,T.ak.c.cl,T.ak.m6,LX,b,_,B,_,I,az,T.ak.c.cl,T.ak.m6,(by show 10<1000;decide),?_];rw[eS];refine#v[I,bE bk,T.ak.c.cl,T.ak.pU,LY,b,_,B,_,I,az,T.ak.c.cl,T.ak.pU,(by show 10<1000;decide),?_];rw[eS];generalize be:Y H1 b _=W;have i4:W b=O (.ins A.ak.C B (cX #v[b,L.sz,j,L.lim,b3,ba,av,aC,ap,aF] s)):=by rw[<-be,az];rfl
 have ad:Z H W:=by rw[<-be];exact b1.gG ac
 have bA:W j=O (.lst (aK (bw.ec 0 s.spans))):=by rw[<-be,aw a5];exact ct
 have bC:(L.vs.map aT).length=s.came:=by rw[aq,f.b7]
 refine#v[I,ad _ _ X,T.ak.c.cl,T.ak.hQ,lR,L.bX,I,#v[_,aA.of (ad _ _ f.bX)],λl aH=>Nq (K:=K) (λi r af=>lS A.aP.C af r i (an.getD i cL)) (λi r W a1 aE cr ak⟨dx,h⟩ bm=>#v[dx,bm _ _ h ak]) (λi r af⟨dx,h⟩=>#v[_,h]) aH (aA.of (ad _ _ f.bX)) (by rw[bC];lia) (λ_=>rfl) (λi x af m s' R bi=>?_) λa1 al bo cj a7 cA bK cD=>?_]
 ·obtain⟨p,q,rfl⟩:=eL m;have a6:i<L.vs.length:=(cM.mp q).1;obtain⟨br,cz⟩:=f.d7 i p _ q (f5 (by rw[f.dN,<-f.b7];exact a6));have bF:=s' _ _ (ad _ _ cz);exact#v[p,br,_,I,bF,I,p,i,_,I,#v[br,bF],λa2 r am cC cG=>bi r a2 am cC cG]
 rw[bC]at a7;have de:H l=aR:=ad.free aH;have bd:l≠b:=(bI i4 aH).symm;have cm:j≠l:=bI bA aH;have cn:L.lim≠l:=bI (ad _ _ f.lim) aH;refine#v[b,_,B,_,I,bo _ _ i4,T.ak.c.cl,T.ak.hQ,(by show 10<1000;decide),?_];generalize bg:Y a1 b _=ag;have i5:ag b=O (.ins A.ak.C B (cX #v[b,L.sz,j,L.lim,l,ba,av,aC,ap,aF] s)):=by rw[<-bg,az];rfl
 have C:Z H ag:=by rw[<-bg];exact(ad.trans bo).gG ac
 have bn:∀x u,a1 x=O u->x≠b->ag x=O u:=λx u m V=>by rw[<-bg,aw V];exact m
 have aI:ag l=O (.lst (al.map aT)):=bn _ _ cj bd;have a4:ag j=O (.lst (aK (bw.ec 0 s.spans))):=bn _ _ (bo _ _ bA) a5;have bJ:∀r∈al,r≠b:=λr ak=>(bI i4 (bK r ak).1).symm;have cH:hg A.aP.C ag al an:=λi p d q S=>by
  obtain⟨dx,h⟩:=cD i p q;have ce:an.getD i cL=d:=by simp[dt,S]
  rw[ce]at h;exact#v[dx,bn _ _ h (bJ p (dJ q))]
 have cI:hg A.aP.C ag L.vs an:=λi p d q S=>by obtain⟨dx,h⟩:=f.d7 i p d q S;exact#v[dx,C _ _ h]
 have cE:∀sd,(bH s sd).length<=60:=λsd=>by have:=iq (λ(c:F)=>c.side==sd) s.waits;show(s.waits.filter _).length<=60;lia
 refine#v[I,C _ _ X,T.ak.c.cl,T.ak.kC,Dr,L.wt,I,#v[_,aA.of (C _ _ f.wt)],λN aL=>Nq (K:=K) (λi r af=>af r=O (.lst ((bH s i).map λc=>aT (al.getD c.id 0)))) (λi r W a1 aE cr ak h bm=>bm _ _ h ak) (λi r af h=>#v[_,h]) aL (aA.of (C _ _ f.wt)) (by show 2<bu;lia) (λ_=>rfl) (λi x af m s' R bi=>?_) λa2 b4 am cl cO bW bT bX=>?_]
 ·have a6:i<=1:=(by have:=(cM.mp m).1;simp only[cU,e_]at this;lia);have cf:=(oH L a6).symm.trans m;have cg:=aM cf;subst cg;refine#v[I,s' _ _ i5,T.ak.c.cl,T.ak.hQ,(by rfl:(cX #v[b,L.sz,j,L.lim,l,ba,av,aC,ap,aF] s).lookup ("vehicles":M)=O (.ref l)),L.q i,l,(bH s i).map (λc=>c.id),L.vs,al,an,I,?_,s' _ _ aI,(by rw[aq];exact cE i),(by rw[f.b7,f.dN]),(by rw[a7,f.b7]),(λn V=>?_),(λi p d q S=>let #v[dx,h]:=cI i p d q S;#v[dx,s' _ _ h]),λa3 z aW J aN=>bi z a3 aW J ?_]
  ·rw[ck];exact s' _ _ (C _ _ (f.q a6))
  ·obtain⟨c,aO,rfl⟩:=bM.mp V;rw[f.b7];exact dF.ia o (.inl #v[c,(c0.mp aO).1,I])
  ·rw[ck]at aN;exact aN
 obtain⟨t,y,rfl⟩:∃t y,b4=[t,y]:=by
  match b4,cO with
  | [a,ao],_=>exact#v[a,ao,I]
 have bt:N≠b:=(bI i5 aL).symm;refine#v[b,_,B,_,I,am _ _ i5,T.ak.c.cl,T.ak.kC,(by show 10<1000;decide),?_];generalize bh:Y a2 b _=aG;have og:aG b=O (.ins A.ak.C B (cX #v[b,L.sz,j,L.lim,l,N,av,aC,ap,aF] s)):=by rw[<-bh,az];rfl
 have aD:Z H aG:=by rw[<-bh];exact(C.trans am).gG ac
 have ar:∀x u,a2 x=O u->x≠b->aG x=O u:=λx u m V=>by rw[<-bh,aw V];exact m
 obtain⟨aQ,cK⟩:=bT t (cc ..);obtain⟨aV,cN⟩:=bT y (cw _ (c_.mpr I));have bO:t≠b:=(bI i5 aQ).symm;have bS:y≠b:=(bI i5 aV).symm;have bN:=ar _ _ (bX 0 t I) bO;have bP:=ar _ _ (bX 1 y I) bS;have bb:=ar _ _ (am _ _ aI) bd;have bB:=ar _ _ (am _ _ a4) a5;have bs:=ar _ _ cl bt;have cJ:hg A.aP.C aG L.vs an:=λi p d q S=>by obtain⟨dx,h⟩:=f.d7 i p d q S;exact#v[dx,aD _ _ h]
 refine#v[I,aD _ _ X,T.ak.c.cl,T.ak.i6,Ds,I,og,T.ak.c.cl,T.ak.hQ,(by rfl:(cX #v[b,L.sz,j,L.lim,l,N,av,aC,ap,aF] s).lookup ("vehicles":M)=O (.ref l)),L.cr,l,s.onIt.map (λx=>x.1.id),L.vs,al,an,I,?_,bb,(by rw[aq];lia),(by rw[f.b7,f.dN]),(by rw[a7,f.b7]),(λn V=>?_),cJ,λa3 z aW J aN=>?_]
 ·rw[ck];exact aD _ _ f.cr
 ·obtain⟨c,aO,rfl⟩:=bM.mp V;rw[f.b7];exact zw o aO
 rw[ck]at aN;have co:z≠b:=(bI og J).symm;refine#v[b,_,B,_,I,aW _ _ og,T.ak.c.cl,T.ak.i6,(by show 10<1000;decide),?_];refine(?_);have as:∀x u v,aG x=O u->x≠b->(Y a3 b v) x=O u:=λx u v m V=>by rw[aw V];exact aW _ _ m
 have b2:∀v,Z H (Y a3 b v):=λv=>(aD.trans aW).gG ac;refine k _ #v[b,L.sz,j,L.lim,l,N,t,y,z,al] #v[#v[B,by rw[az];rfl],as _ _ _ bB a5,b2 _ _ _ f.lim,as _ _ _ bb bd,as _ _ _ bs bt,as _ _ _ bN bO,as _ _ _ bP bS,(by rw[aw co];exact aN),a7,f.dN,?_,?_,cA,f.lw,f.lo,f.lp] ?_ (b2 _)
 ·intro i p d q S;obtain⟨dx,h⟩:=cH i p d q S;have bG:=bJ p (dJ q);exact#v[dx,as _ _ _ (ar _ _ (am _ _ h) bG) bG]
 ·have cS:L.lim≠N:=bI (C _ _ f.lim) aL;have c5:L.lim≠t:=bI (C _ _ f.lim) aQ;have c6:L.lim≠y:=bI (C _ _ f.lim) aV;have c8:L.lim≠z:=bI (aD _ _ f.lim) J;have c9:j≠L.lim:=(bI f.lim cy).symm;have da:j≠N:=bI a4 aL;have db:j≠t:=bI a4 aQ;have dc:j≠y:=bI a4 aV;have dd:j≠z:=bI bB J;have cV:l≠N:=bI aI aL;have cW:l≠t:=bI aI aQ;have cY:l≠y:=bI aI aV;have cZ:l≠z:=bI bb J;have c1:N≠z:=bI bs J;have c2:t≠z:=bI bN J;have c3:y≠z:=bI bP J;have c4:t≠y:=λe=>by rw[fD]at bW;exact bW.1 (by rw[e];exact c_.mpr I)
  show[j,L.lim,l,N,t,y,z].Nodup;simp only[fD,bL,ff,gv,hI,pf,ph,sm];exact#v[#v[c9,cm,da,db,dc,dd],#v[cn,cS,c5,c6,c8],#v[cV,cW,cY,cZ],#v[cK.symm,cN.symm,c1],#v[c4,c2],c3]
 ·intro x m;rcases m with h|h|h|h|h|h
  ·rw[h];exact ac
  ·rw[h];exact de
  ·rw[h];exact C.free aQ
  ·rw[h];exact C.free aV
  ·rw[h];exact aD.free J
  ·exact ad.free (bK x h).1
def Nv:∀(n:Nat)(s:G),(iT n s).shut=s.shut/\(iT n s).came=s.came/\(iT n s).time=s.time+n
 |0,s=>#v[I,I,I]
 |n+1,s=>by obtain⟨d,e,f⟩:=Nv n s;rw[dF.Bv];obtain⟨_,_,a,_,b,c⟩:=aW.mD (iT n s);rw[a,b,c,d,e,f];exact#v[I,I,I]
def Zx{H:Hp}{L:LA}{s:G}{d:aa VD}(a:b9 A H L s d)(o:aW.Ok s){i:Nat}(g:i<s.came):(d.getD i cL).status=2↔Sy49.left s i=ai:=by rw[dF.F9];constructor;((intro h;rcases dF.sT o g with⟨c,f,rfl⟩|⟨x,j,rfl⟩|⟨p,b,rfl⟩);(rw[(a.lw c f).2.2]at h;cases h);(rw[(a.lo x j).2.2.1]at h;cases h);have e:=(a.lp p b).1;exact#v[p,b,I,by lia]);rintro⟨p,b,rfl,_⟩;have e:=(a.lp p b).1;lia
inductive Zy(A:bF)(vs:aa V)(H:Hp)(Q:VK)(E:XK):Prop|mk(L:LA)(s:G)(a:aa VD)(i n:Nat)(_:vs=[.ref L.l,.int i,.bl (!s.shut)])(_:aW.Ok s)(_:b9 A H L s a)(_:H L.sz=O (.lst (aK (s.spans.map λx=>x.1))))(_:i<s.came)(_:Sy49.left (iT n s) i=ai)(_:(∀j,j<n->Sy49.left (iT j s) i=ax))(_:∀H':Hp,Z H H'->Q (.int (n:Int)) H')
def Zz:bf P w K mg aJ bq 5 A.ak.w9 A.ak.xo ["self","number","may_enter"] (Zy A):=by(refine T.ak.Jd.fn.bJ CO (λH vs ah E X h=>?_);obtain⟨L,s,ad,i,n,rfl,o,R,aq,U,aC,az,k⟩:=h;obtain⟨dl,W⟩:=R.obj;refine#v[_,ay (ba 3 CO.nd (cD a7 T.ak.c T.ak.rh (Zw T) X)) (ay (ba 4 CO.nd (cC d9 (aX (pv 3)) aS (λ_ _=>rfl))) (ay (vW hK (cO v3 (aX (pv 4)) (bG T.LI) (cm _)) (cR (e0 (pm (pv 3) T.ak.c T.ak.pV (Md T) X (aQ aY))))) (bc (cS jv (aX (pv 3)) a0)))),L.l,dl,_,I,W,I,L,s,ad,I,o,R,aq,λH1 a p as aI=>?_];obtain⟨_,aD⟩:=p.obj;have av:i<a.vs.length:=by rw[p.b7];exact U);(refine#v[I,aD,T.ak.c.cl,T.ak.hQ,lR,a.bX,_,_,_,I,I,aA.of p.bX,eD (j:=i) (v:=.ref (a.vs.getD i 0)) (by rw[bN,gW av];rfl),?_];refine#v[λm af c=>∃(L2:LA)(b:aa VD)(j:Nat),af=[O (.ref L.l),O (.int i),O (.bl (!s.shut)),O (.ref a.l),O (.ref (a.vs.getD i 0))]/\j+m=n/\b9 A c L2 (iT j s) b/\L2.l=a.l/\L2.vs=a.vs/\(∀x,LF L2 x->H x=aR)/\Z H c,#v[n,a,ad,0,I,oU n,p,I,I,as,aI],?_];rintro m af c ⟨L2,b,j,rfl,_,d,t,N,f,r⟩;obtain⟨aF,aG,aH⟩:=Nv j s;have ac:aW.Ok (iT j s):=dF.F_ o;have y:i<(iT j s).came:=by rw[aG];exact U);(have aw:i<L2.vs.length:=by rw[d.b7];exact y);(obtain⟨_,Y⟩:=d.d7 i _ _ (gW aw) (f5 (by rw[d.dN];exact y));rw[N]at Y;have C:=Zx d ac y;obtain⟨al,B⟩:=d.obj;rw[t]at B;have am:(!decide (aB ((b.getD i cL).status:Int)=aB 2))= !decide ((b.getD i cL).status=2):=by have:=ry (b.getD i cL).status 2;exact dR (λak=>!ak) this);refine#v[I,Y,T.aP.c.cl,T.aP.gU,kD,I,_,I,?_];rw[am];by_cases l:(b.getD i cL).status=2;((rw[eP l];refine eJ ?_;have V:j=n:=by by_cases z:j<n;(have Q:=az j z;rw[C.mp l]at Q;cases Q);lia);(subst V;refine#v[I,B,T.ak.c.cl,T.ak.k_,ug,I,r _ _ W,T.ak.c.cl,T.ak.k_,ug,_,_,I,I,?_];have ao:(((iT j s).time:Int)-(s.time:Int))=(j:Int):=by rw[aH];lia);show ah (aB (((iT j s).time:Int)-(s.time:Int))) c;rw[ao];exact k c r);(rw[ek l];refine de ?_;have V:j<n:=by by_cases z:j<n;(exact z);(exfalso;have e:j=n:=by lia);rw[e]at C;exact l (C.mpr aC));(obtain⟨q,rfl⟩:∃q,m=q+1:=#v[m-1,by lia];refine#v[λag c=>∃(L2:LA)(b:aa VD)(j:Nat),ag=[O (.ref L.l),O (.int i),O (.bl (!s.shut)),O (.ref a.l),O (.ref (a.vs.getD i 0))]/\j+q=n/\b9 A c L2 (iT j s) b/\L2.l=a.l/\L2.vs=a.vs/\(∀x,LF L2 x->H x=aR)/\Z H c,λag _ h=>#v[q,qE _,h],a.l,al,_,I,B,I,L2,iT j s,b,!s.shut,(by rw[t];rfl),ac,d,λ_ J _ aK S ap ar _ _ _=>?_];have an:({iT j s with shut:= !(!s.shut)}:G)=iT j s:=by rw[Fd,<-aF]);(rw[an,<-dF.Bv]at S;refine#v[{L2 with cr:=J},aK,j+1,I,by lia,S,t,N,λx g=>?_,λx u g=>ap x u (r _ _ g) (λaE=>by rw[f x aE]at g;cases g)];rcases g with h|h|h|h|h|h);(exact f x (.inl h));(exact f x (.inr (.inl h)));(exact f x (.inr (.inr (.inl h))));(exact f x (.inr (.inr (.inr (.inl h)))));(have h':x=J:=h;rw[h'];exact r.free ar);exact f x (.inr (.inr (.inr (.inr (.inr h)))))
def ZA{H:Hp}{L:LA}{s:bY}{e:aa VD}(a:b9 A H L s.lane e)(o:aL.Ok s){i:Nat}(g:i<s.lane.came):(decide ((e.getD i cL).status=1)||(decide ((e.getD i cL).status=0)&& !(s.closed||s.hand)))=ai↔dF.kX s.lane i:=by(have k:s.lane.shut=(s.closed||s.hand):=by rw[o.shut,Ff]);rw[<-k,l5,oS,fh,fh];unfold dF.kX;constructor;((intro h;rcases dF.sT o.lane g with d|d|⟨p,j,rfl⟩);(obtain⟨c,b,rfl⟩:=d;rcases h with h|h;(rw[(a.lw c b).2.2]at h;cases h);exact .inr #v[by simpa using h.2,c,b,I]);(exact .inl d);(have f:=(a.lp p j).1;rcases h with h|h);(lia);have:=h.1;lia);rintro(⟨x,l,rfl⟩|⟨f,c,b,rfl⟩);(exact .inl (a.lo x l).2.2.1);exact .inr #v[(a.lw c b).2.2,by rw[f];rfl]
def ZC:bf P w K mg aJ bq 6 A.jO.f A.jO.fd ["session"] (f_ A K λc=>∃i,c=.when_ i):=by refine T.jO.fn.bJ Dg (λH vs _ E m h=>?_);obtain⟨x,cl,ns,al,B,s,c,rest,rfl,q,o,_,V,_,W,k⟩:=h;obtain⟨i,rfl⟩:=V;obtain⟨S,af⟩:=q.obj;have ar:=bZ;refine#v[_,(ay (ba 1 Dg.nd (cD a7 T.aO.c T.aO.eK ((eV T).to 5) m)) (ay (ba 2 Dg.nd a0) (ay (cN (cO iX aS (dE T.dW (aX (aX aY))) (cm _)) (bc (bO (aQ (bG T.p5)))) c9) (ay (cN (k0 (gP (pm aY T.aF.c T.aF.Kc ((X5 T).to 5) m (aQ (cC d9 (aX (aX aY)) aS (λ_ _=>rfl)))))) (bc (bO (aQ (bG T.LN)))) c9) (bc (bO (aQ (pm (aX aY) T.ak.c T.ak.Jd (Zz T) m (cv aS (BS (cD aY T.aF.c T.aF.yS ((DU T).to 5) m))))))))))),?_];obtain⟨ak,ad⟩:=eW W;refine#v[x,S,_,I,af,I,x,cl,B.b,ns,al+0,(i:Int),I,q.eM,ak,λH1 an C=>?_];have ap:=ad;have d:=q.cE an C;obtain⟨_,L⟩:=d.obj;have p:bT H H1 x B B:=bT.cE C;obtain⟨l,ag,a⟩:=d.br;obtain⟨z,g⟩:=a.obj;obtain⟨dl,t⟩:=a.lane.obj;obtain⟨_,_⟩:=a.file.obj;refine#v[I,L,T.aO.c.cl,T.aO.fu,fC _ _ _,I,g,T.aF.c.cl,T.aF.gV,hy _ _ _ _ _,I,t,T.ak.c.cl,T.ak.hQ,lR,_,_,I,.inl (aA.of a.lane.bX),_,_,I,I,_,I,cg (λr=>?_) (λr=>?_)];((have b:s.lane.came<=i:=(by have:(((B.L.vs.map aT).length:Nat):Int)<=(i:Int):=(by simpa using r);rw[aq,a.lane.b7]at this;lia);have e:hY s.lane (.when_ i)=(s.lane,jo (-2)):=by show(s.lane,if s.lane.came<=i then _ else _)=_;rw[aI b]);exact#v[(bB 1),λy f=>AK.lU (c:=.when_ i) k e d p f]);have b:i<s.lane.came:=(by have:¬(((B.L.vs.map aT).length:Nat):Int)<=(i:Int):=(by simpa using r);rw[aq,a.lane.b7]at this;lia);have ah:i<B.L.vs.length:=(by rw[a.lane.b7];exact b);have J:=gW ah;obtain⟨R,ac⟩:=a.lane.d7 i _ _ J (f5 (by rw[a.lane.dN];exact b));have u:=ZA a.lane o b;refine#v[B.b,z,_,I,g,I,I,g,T.aF.c.cl,T.aF.gV,hy _ _ _ _ _,I,t,T.ak.c.cl,T.ak.hQ,lR,B.L.bX,_,_,_,I,I,aA.of a.lane.bX,eD (j:=i) (v:=.ref (B.L.vs.getD i 0)) (by rw[bN,J];rfl),B,s,B.L.vs.getD i 0,i,_,I,#v[l,ag,a],#v[R,ac],_,I,?_];generalize (decide ((l.getD i cL).status=1)||(decide ((l.getD i cL).status=0)&& !(s.closed||s.hand)))=ao at u⊢;cases ao with|false=>((have e:hY s.lane (.when_ i)=(s.lane,jo (-6)):=by show(s.lane,if s.lane.came<=i then _ else match Qc s.lane i with|none=>_|some n=>_)=_;rw[aD ∅,dF.Rl o.lane b (λam=>absurd (u.mpr am) (by decide))]);exact de ⟨(bB 1),λy f=>AK.lU (c:=.when_ i) k e d p f⟩)|true=>(obtain⟨n,X,Y,Z⟩:=dF.Rk o.lane (u.mp I);have e:hY s.lane (.when_ i)=(s.lane,jo (n:Nat)):=by show(s.lane,if s.lane.came<=i then _ else match Qc s.lane i with|none=>_|some n=>_)=_;rw[aD ∅,X]);(refine eJ #v[I,g,T.aF.c.cl,T.aF.gV,hy _ _ _ _ _,B.L.l,dl,_,I,t,I,B.b,z,_,I,g,I,B,s,I,#v[l,ag,a],_,I,?_];have U:(!(s.closed||s.hand))= !s.lane.shut:=by rw[o.shut,Ff]);refine#v[B.L,s.lane,l,i,n,(by rw[U];rfl),o.lane,a.lane,a.sz,b,Y,Z,λ_ N=>#v[(bB 1),λy f=>?_]];exact AK.lU (c:=.when_ i) k e (d.same N) (p.trans (.same N) L) f
end
end Br
namespace L2
open PySem.W
section
variable{bW:cx}{w:bR}{A:cQ}{E:D->au->Prop}{s:au}{T:String}{r d:U}{n:Nat}{P:Nat->D->Prop}{OK:aZ->Prop}
def ZD{o:a9}{c:ae kh}{q:Nat}(H:(d==iQ)=ax)(n:o.ExactDict)(l:o.data=.dict c q):KdlSrc bW w "dict" d d c.size (λi v=>∃b,c[i]? =O b/\b.key=v) (λh=>h.get? d=O o)where
 type:=λ_ a=>#v[o,a,n.1]
 there:=λ_ a=>#v[cJ a,cJ a]
 keep:=λ_ _ a k=>k d (.inl I) o a
 notList:=by decide
 notTuple:=by decide
 hint:=λ_ _ _ _ a m=>kdl_hint_dict #v[o,a,n.1] m
 iter:=λA s z a=>by
  have C:d≠s.heap.objs.size:=er (cJ a);refine#v[_,λi h=>h.IsKeyIter s.heap.objs.size d i c.size q/\h.get? d=O o,λ_ _ m=>Cz H a n l m,?_,#v[_,eo _ rfl,I,I],dd _ a];exact{
   sub:=λj f=>by simp at f;simp[f]
   frame:=λ_ _ _ st k=>#v[st.1.at λo e=>k _ (by simp) o e,k d (by simp) o st.2]
   item:=λi s' x E B st g=>by obtain⟨b,r⟩:∃b,c[i]? =O b:=#v[c[i],by simp[B]];exact H0 st.1 st.2 l I r λh' J u=>g b.key h' s'.toks #v[b,r,I] #v[J,(u.2 d C).trans st.2] λj t f e=>(u.2 j (λp=>f (by simp[p]))).trans e
   done:=λs' x E st g=>CA z st.1 st.2 l I (bp _) λh' y=>g h' s'.toks λj t f e=>y j t (λp=>f (by simp[p])) e
   self:=λ_ _ _ _ st g=>Ph st.1 g}
def ZE{c:aa D->au->Prop}(K:KdlSrc bW w T r d n P OK)(p:A.handled=aj)(h:OK s.heap)(t:n<=bu)(j:∀h' tk aE,(∀b o,s.heap.get? b=O o->h'.get? b=O o)->s.heap.objs.size<=h'.objs.size->ItemsOf P aE n->c aE.toList {s with heap:=h',toks:=tk}):aG (aU bW w) A (collect (.ref r)) c E s:=by unfold collect;refine av (wpAny_runValue (ml F.entry_proto_collect ?_));rw[nW F.plain_proto_collect _];show aG _ A.in1 (newList []>>=λl=>qC (.builtin "list.__iadd__" #v[[l,.ref r],[]])) _ _ s;refine av (o_ ?_);refine aV #v[qN Qd _,ml F.entry_list_iadd ?_];rw[nW Qd _];have k:(s.heap.push {cls:=.type "list",data:=.seq ([]:aa D).toArray}).get? s.heap.objs.size=O {cls:=.type "list",data:=.seq ([]:aa D).toArray}:=eo _ rfl;have g:=K.there _ h;show aG _ A.in1 (qQ (.ref s.heap.objs.size) (.ref r) (.ref s.heap.objs.size)) _ _ _;refine kdl_extend (A:=A) (R:=λr s'=>match r with|Qe (Flow.ret v)=>(aG (aU bW w) A (match v with|cP a=>((do match (<-iw a).data with|u5 xs _=>pure xs.toList|_=>Fz "internal:collect"))|_=>Fz "internal:collect") c E s')|Qe _=>False|Except.error e=>E e s') (s:={s with heap:=s.heap.push {cls:=.type "list",data:=.seq ([]:aa D).toArray} }) K p (K.keep _ _ h λb _ o e=>dd _ e) s.heap.objs.size (ma g.1) (ma g.2) _ 0 k (λh' tk i _ q f m=>?_) t;show aG _ A (iw s.heap.objs.size>>=_) _ _ {s with heap:=h',toks:=tk};refine av (wpAny_load f ?_);exact aV (j h' tk i (λb o e=>q b o (er (cJ e)) (dd _ e)) (qm (cJ f)) m)
def Nw{C:aa D->ae D->Prop}{m:D->au->Prop}(K:KdlSrc bW w T r d n P OK)(L:A.handled=aj)(Q:OK s.heap)(t:n<=bu)(S:∀(g:au)(a:U)(vs:aa D)(y:cQ)(z:D->au->Prop)(R:PySem.Fin->au->Prop),(∀b o,s.heap.get? b=O o->g.heap.get? b=O o)->vs.length=n->(∀j v,vs[j]? =O v->P j v)->g.heap.get? a=O (pq "list" vs.toArray 0)->(∀c,C vs c->R (.done (.ret .none)) {g with heap:=sortedHeap g.heap a vs c})->aG (aU bW w) y (Builtin.«list.sort» #v[[.ref a],[]]) R z g)(B:∀(h':aZ)(tk:Nat)(p:U)(vs:aa D)(c:ae D)(e:Nat),C vs c->vs.length=n->(∀j v,vs[j]? =O v->P j v)->(∀b o,s.heap.get? b=O o->h'.get? b=O o)->s.heap.objs.size<=p->h'.get? p=O (pq "list" c e)->m (.ref p) {s with heap:=h',toks:=tk}):aG (aU bW w) A (call (.builtin "sorted") [.ref r]) m E s:=by(refine Calls.call_function_entry kind_sorted plain_sorted entry_sorted (args_sorted1 _) ?_;unfold Builtin.«sorted»;refine av (m:=checkCount "sorted" 1 1 _) (aV ?_);refine av (ZE K L Q t λf tk aE N u i=>?_);refine av (wpAny_newList ?_ (hsz:=by rw[e9,i.1];exact t));have l:(f.push (pq "list" aE 0)).get? f.objs.size=O (pq "list" aE.toList.toArray 0):=by rw[eo _ rfl]);(have x:∀j v,aE.toList[j]? =O v->P j v:=λj v e=>i.2 j v (by rw[<-Au];exact e);have q:aE.toList.length=n:=by rw[e9];exact i.1);have k:∀b o,s.heap.get? b=O o->(f.push (pq "list" aE 0)).get? b=O o:=λb o e=>dd _ (N b o e);show aG _ _ _ _ _ {s with heap:=f.push (pq "list" aE 0),toks:=tk};refine av (hG (hJ slot_list_sort #v[_,l,I] entry_list_sort (S {s with heap:=f.push (pq "list" aE 0),toks:=tk} f.objs.size aE.toList _ _ _ k q x l λc H=>#v[_,I,?retG]) (args_list_sort _)));case retG=>obtain⟨e,J⟩:=sortedHeap_at (out:=c) l;refine aV #v[_,I,?_];refine B _ tk f.objs.size aE.toList c e H q x (λb o h=>?_) u J;rw[sortedHeap_old (er (gc (cJ h) u)) (cJ (k b o h))];exact k b o h
end
end L2
namespace L2
open PySem.W PyProof.Rows.G
def rP(k:aa bg):Int×Int:=match k with
 | [bz a,bz b]=>(a,b)
 |_=>(0,0)
def zK(x a:Int×Int):Prop:=x.1<a.1\/(x.1=a.1/\x.2<=a.2)
def j4:Nat->Bool:=λ_=>ax
def pairAt(h:aZ)(v:D):Int×Int:=match vg h j4 v with
 |some [bz a,bz b]=>(a,b)
 |_=>(0,0)
structure lj(h:aZ)(v:D)(a b:Int):Prop where
 tup:∃(q:U)(o:a9)(n:Nat)(ta tb:gf),v=.ref q/\h.get? q=O o/\o.cls=.type "tuple"/\o.data=.seq #[.int a ta,.int b tb] n
def lj.key{h:aZ}{v:D}{a b:Int}(t:lj h v a b):vg h j4 v=O [bz a,bz b]:=by(obtain⟨d,o,n,_,_,rfl,c,f,g⟩:=t.tup;have e:isTupObj h (.ref d)=ai:=by simp only[isTupObj,c,f];decide);unfold vg;rw[aI e];show(match h.get? d with|some o=>(match o.data with|.seq xs _=>tupItems j4 0 xs.toList|_=>aj)|none=>aj)=_;rw[c];dsimp only;rw[g];rfl
def lj.pair{h:aZ}{v:D}{a b:Int}(t:lj h v a b):pairAt h v=(a,b):=by unfold pairAt;rw[t.key]
def lj.of{h:aZ}{v:D}{a c:Int}(t:lj h v a c):∃f,TupOf h j4 v f:=by obtain⟨i,o,n,b,_,rfl,g,d,e⟩:=t.tup;exact#v[.int a b,i,o,_,n,I,g,d,e,I,λ_=>#v[a,b,I],λj=>absurd j (by decide)]
def Nx{h:aZ}:∀ {vs:aa D},(∀v∈vs,∃f,TupOf h j4 v f)->∃a,TupsOf h j4 vs a
 | [],_=>#v[[],.nil]
 |v::vs,b=>by obtain⟨f,c⟩:=b v (cc ..);obtain⟨a,d⟩:=Nx λu e=>b u (cw _ e);exact#v[f::a,.cons c d]
def ZF{a b c d:Int}(h:(listOrd itemOrd).blt [bz c,bz d] [bz a,bz b]=ax):zK (a,b) (c,d):=by(have h':lexLt itemOrd [bz c,bz d] [bz a,bz b]=ax:=h;obtain⟨g,f⟩:=lex_false.mp h';have j:¬c<a:=FC g;rcases f with f|f);(have:a<c:=jd f;exact .inl this);obtain⟨i,_⟩:=lex_false.mp f;have k:¬d<b:=FC i;by_cases e:a=c;(exact .inr #v[e,by show b<=d;lia]);exact .inl (by show a<c;lia)
def ZG{vs:aa D}{p:D×D}(h:p∈(qR vs).toList):p.1=p.2/\p.1∈vs:=by rw[pairsOf_toList]at h;exact mem_zip_self h
def ZH(vs:aa D):(vs.zip vs).map (λp=>p.2)=vs:=E9 (bp _)
def ZI{h:aZ}{vs:aa D}{xs:ae Keyed}(g:xs.Perm (qR vs))(B:SortedToK (vh h j4) xs (qR vs).size)(E:∀v∈vs,∃a b,lj h v a b):(xs.map (·.2)).toList.Perm vs/\((xs.map (·.2)).toList.map (pairAt h)).Pairwise zK:=by(have A:xs.toList.Perm (vs.zip vs):=by have:=g.toList;rw[pairsOf_toList]at this;exact this);(have n:(xs.map (·.2)).toList=xs.toList.map λp=>p.2:=by simp);refine#v[?_,?_];(rw[n];have l:=A.map λp=>p.2;rw[ZH]at l;exact l);(rw[n,ck,z1];intro i j e f x;rw[aq,e9]at e f;have C:xs.size=(qR vs).size:=g.size_eq;have m:=B i j (qm x) (by rw[<-C];exact f);have k:∀(i:Nat)(e:i<xs.size),∃a b,lj h xs[i].1 a b/\xs[i].2=xs[i].1:=λi e=>by have z:xs[i]∈(qR vs).toList:=(g.toList).subset (by simp);obtain⟨r,s⟩:=ZG z;obtain⟨a,b,t⟩:=E _ s;exact#v[a,b,t,r.symm]);(obtain⟨a,b,o,u⟩:=k i e;obtain⟨c,d,q,w⟩:=k j f;have H:KK (vh h j4) xs i=[bz a,bz b]:=by unfold KK;rw[show xs[i]? =O xs[i]from by simp[e]];show((vg h j4 xs[i].1).getD [])=_;rw[o.key];rfl);have I:KK (vh h j4) xs j=[bz c,bz d]:=(by unfold KK;rw[show xs[j]? =O xs[j]from by simp[f]];show((vg h j4 xs[j].1).getD [])=_;rw[q.key];rfl);rw[H,I]at m;have y:=ZF m;simp only[vi,Function.comp,Qg];rw[u,w,o.pair,q.pair];exact y
def ZJ:aa V->Hp->VK->Prop:=λvs H g=>∃(d:U)(ag:aa (aa bg×V)),vs=[.ref d]/\H d=O (.dT ag)/\(∀c∈ag,∃a h:Int,c.1=[bz a,bz h])/\∀(e:aa U)(b:aa (Int×Int))(p:U),e.length=b.length->b.Perm (ag.map λc=>rP c.1)->b.Pairwise zK->(∀(i:Nat)(f:U)(k:Int×Int),e[i]? =O f->b[i]? =O k->H f=O (.tup [.int k.1,.int k.2]))->H p=aR->g (.ref p) (Y H p (.lst (e.map aT)))
def Ny:D->Nat
 |.ref a=>a
 |_=>0
def zL{X:Cx}{af:aa (U×a9)}{r:St}{H:Hp}{s:au}(d:Inv X af r H s){b:U}{a c:Int}(h:H b=O (.tup [.int a,.int c])):lj s.heap (.ref b) a c:=by obtain⟨_,aH,m,o,j,g,n,i⟩:=d.bA b _ h;cases m with|cons e k=>cases k with|cons f l=>cases l;obtain⟨p,rfl⟩:=e;obtain⟨q,rfl⟩:=f;exact#v[b,o,n,p,q,I,j,g,i]
def ZK{X:Cx}(aP:X.calm=ai):ko X (.builtin "sorted") ZJ:=by
 intro af s _ H vs us _ m r h;obtain⟨d,ag,rfl,an,aV,b⟩:=h;rw[J.pQ r];obtain⟨_,aD⟩:=m.lock an True.intro;obtain⟨a2,aS,a7,al,_,aQ,N,aI⟩:=aD.wu az;have ah:ag.length<=bu:=(m.bA d _ an).1;have aJ:∀(i:Nat)(k:aa bg)(v:V),ag[i]? =O (k,v)->∃(q:kh)(b:U),al[i]? =O q/\q.key=.ref b/\H b=O (.tup (k.map kV)):=λi k v e=>by
  obtain⟨q,b,x,y,z⟩:=aI i k v e;refine#v[q,b,x,y,?_];by_cases ak:b=d
  ·rw[ak,az]at z;cases z
  ·rw[aw ak]at z;exact z
 have gN:∀(j:Nat)(v:D),(∃q,al[j]? =O q/\q.key=v)->∃(n:aa bg×V)(b:U)(a c:Int),ag[j]? =O n/\n.1=[bz a,bz c]/\v=.ref b/\H b=O (.tup [.int a,.int c]):=λj v⟨q,x,y⟩=>by have w:j<ag.length:=(by rw[<-N];exact(qM.mp x).1);have L:ag[j]? =O ag[j]:=b_ w;obtain⟨a,c,e⟩:=aV ag[j] (kJ w);obtain⟨_,b,z,aK,am⟩:=aJ j ag[j].1 ag[j].2 L;rw[x]at z;have aG:=aM z;subst aG;rw[e]at am;exact#v[ag[j],b,a,c,L,e,y.symm.trans aK,am]
 refine Nw (C:=λvs aA=>∃xs:ae Keyed,xs.Perm (qR vs)/\SortedToK (vh s.heap j4) xs (qR vs).size/\aA=xs.map (·.2)) (ZD a2 a7 aQ) (m.ok.hd aP) aS (by rw[N];exact ah) (λB a vs _ _ R Z A P ap aN=>?_) λh' tk p vs aA e aL A P Z as aO=>?_
 ·have aX:vs.length<=bu:=(by rw[A,N];exact ah);have T:∀v∈vs,∃a c,lj s.heap v a c:=λv g=>by obtain⟨j,w,E⟩:=fx g;obtain⟨n,b,a,c,_,_,rfl,f⟩:=gN j v (P j v (by rw[b_ w,E]));exact#v[a,c,zL m f]
  have ba:KeepsTups s.heap B.heap:=λc o e _=>Z c o e;have ay:=ba.trans (keeps_sort6 (vs:=vs) ap);obtain⟨_,ao⟩:=Nx λv g=>let #v[a,c,t]:=T v g;t.of;exact list_sort_treeG (s:=B) (κ:=vh s.heap j4) ap (tupKeys λv g=>let #v[a,c,t]:=T v g;#v[_,t.key]) (tupC_ltAt (s:={B with heap:=sortHeap6 B.heap a vs}) ai ay)
   (λy _ f=>tup_kind (s:={B with heap:=sortHeap6 B.heap a vs}) (by rw[TupsOf.length ao];lia) (TupsOf.keep ay ao) f) aX λ_ aE aF _=>aN _ #v[_,aE,aF,I]
 ·obtain⟨xs,a0,a4,rfl⟩:=aL;have T:∀v∈vs,∃a c,lj s.heap v a c:=λv g=>by obtain⟨j,w,E⟩:=fx g;obtain⟨n,b,a,c,_,_,rfl,f⟩:=gN j v (P j v (by rw[b_ w,E]));exact#v[a,c,zL m f]
  obtain⟨ad,a1⟩:=ZI a0 a4 T;have aW:vs.map (pairAt s.heap)=ag.map λn=>rP n.1:=by
   refine sH (by rw[aq,aq,A,N]) λj x y=>?_;rw[vi,vi];rw[aq]at x;obtain⟨n,b,a,c,L,aH,K,f⟩:=gN j vs[j] (P j vs[j] (b_ x));have W:pairAt s.heap vs[j]=(a,c):=by rw[K];exact(zL m f).pair
   have S:ag[j]=n:=(by rw[aq]at y;have:=b_ y;rw[this]at L;exact aM L);rw[W,S,aH];rfl
  have ar:∀v∈(xs.map (·.2)).toList,∃(b:U)(a c:Int),v=.ref b/\H b=O (.tup [.int a,.int c]):=λv g=>by obtain⟨j,w,E⟩:=fx (ad.subset g);obtain⟨n,b,a,c,_,_,rfl,f⟩:=gN j v (P j v (by rw[b_ w,E]));exact#v[b,a,c,I,f]
  have a6:∀l:aa D,(∀v∈l,∃b:U,v=.ref b)->J ((l.map Ny).map aT) l:=λl=>by
   induction l with
   |nil=>intro _;exact .nil
   |cons v l a8=>intro A;obtain⟨b,rfl⟩:=A v (cc ..);exact .cons I (a8 λu a5=>A u (cw _ a5))
  have aY:((xs.map (·.2)).toList).length=ag.length:=(by rw[ad.length_eq,A,N]);refine#v[.ref p,Y H p (.lst (((xs.map (·.2)).toList.map Ny).map aT)),m.laid (t':=tk) Z as #v[by rw[aq,aq,aY];exact ah,(xs.map (·.2)).toList,e,a6 _ (λv g=>let #v[b,_,_,e,_]:=ar v g;#v[b,e]),?_],I,b _ ((xs.map (·.2)).toList.map (pairAt s.heap)) p (by rw[aq,aq]) ?_ a1 (λi b k f ac=>?_) (m.bA.fresh as)]
  ·rw[aO]
  ·rw[<-aW];exact ad.map _
  ·rw[bN]at f ac;cases K:(xs.map (·.2)).toList[i]?with
   |none=>rw[K]at f;cases f
   |some v=>rw[K]at f ac;obtain⟨aC,a,c,rfl,av⟩:=ar v (dJ K);have W:aC=b:=aM f;have S:pairAt s.heap (.ref aC)=k:=aM ac;rw[(zL m av).pair]at S;subst W S;exact av
end L2
namespace Br
section
def Nz{k:Type}{lt:k->k->Prop}(f:∀a n,lt a n->¬lt n a):∀ {l m:aa k},l.Pairwise lt->m.Pairwise lt->(∀x,x∈l↔x∈m)->l=m
 | [],[],_,_,_=>rfl
 | [],d::m,_,_,h=>absurd ((h d).mpr (cc ..)) (by simp)
 |x::l,[],_,_,h=>absurd ((h x).mp (cc ..)) (by simp)
 |x::l,d::m,g,i,h=>by
  rw[ja]at g i;have e:x=d:=by
   rcases bL.mp ((h x).mp (cc ..))with b|b
   ·exact b
   ·rcases bL.mp ((h d).mpr (cc ..))with j|j
    ·exact j.symm
    ·exact absurd (i.1 x b) (f _ _ (g.1 d j))
  subst e;congr 1;refine Nz f g.2 i.2 λo=>?_;constructor
  ·intro c;rcases bL.mp ((h o).mp (cw _ c))with b|b
   ·rw[b]at c;exact absurd (g.1 x c) (λr=>f _ _ r r)
   ·exact b
  ·intro c;rcases bL.mp ((h o).mpr (cw _ c))with b|b
   ·rw[b]at c;exact absurd (i.1 x c) (λr=>f _ _ r r)
   ·exact b
def ZL(x a:Int×Int):Prop:=x.1<a.1\/(x.1=a.1/\x.2<a.2)
def D5(m:jm):Int×Int:=((m.day:Int),(m.span:Int))
def ZM{H:Hp}{g d:U}{ag:aa (aa bg×V)}{s:bY}(B:fe A H g d ag (aL.mapOf s))(o:aL.Ok s){p:aa (Int×Int)}(z:p.Perm (ag.map λf=>rP f.1))(L:p.Pairwise zK):p=(aL.allB s).map D5:=by(have K:(ag.map λf=>rP f.1).Nodup:=by(have b:ag.Pairwise λx u=>x.1≠u.1:=ik.mp B.nd;refine ik.mpr (r4 (λ{x u} k Q P e=>P ?_) b);obtain⟨i,j,l⟩:=B.keys x k;obtain⟨q,t,C⟩:=B.keys u Q;rw[l,C]at e⊢;have c:((i:Int),(j:Int))=((q:Int),(t:Int)):=e;have w:=dR nD c;have y:=dR lZ c;have T:(i:Int)=(q:Int):=w;have W:(j:Int)=(t:Int):=y;have R:i=q:=by lia);have S:j=t:= ∅;rw[R,S]);have J:p.Nodup:=z.nodup_iff.mpr K;refine Nz (lt:=ZL) (λa g b c=>?_) ?_ ?_ λx=>?_;(·rcases b with b|b<;>rcases c with c|c<;>lia);((refine(L.and J).imp λ{a g} h=>?_;obtain⟨b,c⟩:=h;rcases b with b|⟨b,w⟩);(exact .inl b);refine .inr #v[b,?_];have y:¬a.2=g.2:=λe=>c (Prod.ext b e);lia);((refine ik.mpr ((aL.BE o).imp λ{a g} h=>?_);rcases h with h|⟨b,c⟩);(exact .inl (by show(a.day:Int)<(g.day:Int);lia));exact .inr #v[by show(a.day:Int)=(g.day:Int);lia,by show(a.span:Int)<(g.span:Int);lia]);rw[z.mem_iff];constructor;(intro k;obtain⟨f,n,rfl⟩:=bM.mp k;obtain⟨i,j,l⟩:=B.keys f n;cases e:aL.mapOf s i j with|none=>exact absurd (bM.mpr ⟨f,n,l⟩) (CF (B.non i j e))|some X=>obtain⟨m,r,b,c,_⟩:=aL.BG e;refine bM.mpr #v[m,r,?_];show((m.day:Int),(m.span:Int))=rP f.1;rw[l,b,c];rfl);intro k;obtain⟨m,r,rfl⟩:=bM.mp k;obtain⟨v,N,_⟩:=B.val _ _ _ (aL.sW o r);obtain⟨f,n,E⟩:=bM.mp (Ie N);have I:f.1=key m.day m.span:=E;refine bM.mpr #v[f,n,?_];show rP f.1=D5 m;rw[I];rfl
def rQ(s:bY)(m:jm):Bool:=decide (cp s.file m.span m.day s.file.entries.length<m.load)
def ny(s:bY)(m:jm):aa Nat:=Sy51.row m (m.load-cp s.file m.span m.day s.file.entries.length)
def ZN(s:bY):gM s=(aL.allB s).filter (rQ s):=rfl
inductive ZO(A:bF)(vs:aa V)(H:Hp)(Q:VK)(E:XK):Prop|mk(B:BA)(s:bY)(_:vs=[.ref B.b])(_:aL.Ok s)(_:e7 A H B s)(_:∀(H':Hp)(D:U)(ts:aa U),Z H H'->H D=aR->H' D=O (.lst (ts.map aT))->fq H' ts (((gM s).map (ny s)).map aK)->Q (.ref D) H')
def ZP:bf P w K mg aJ bq 6 A.aF.yG A.aF.yO ["self"] (ZO A):=by
 refine T.aF.Kd.fn.bJ t_ (λH vs _ E aC h=>?_);obtain⟨B,s,rfl,o,⟨bP,ag,n⟩,k⟩:=h;obtain⟨_,z⟩:=n.obj;obtain⟨aP,a6⟩:=n.file.obj;obtain⟨_,aW⟩:=n.book.obj;have bX:=bZ;have bH:=k7 aC;have bW:=n.short o.tok;refine#v[_,ay (ba 1 t_.nd (cD a0 T.aC.c T.aC.oo ((qd T).to 5) aC)) (ay (ba 2 t_.nd (bO gk)) (ay (iV hK I (fU (iY (ZK I) (by rfl) T.Dq (by rfl) (aQ (aX a0)))) (dD (i:=3) t_.nd I (cB I)) (ay (ba 4 t_.nd (cS jv (cC gE (ra bH (aX a0) (pv 3) (λ_ _=>rfl)) bS (λ_ _=>rfl)) (cC d9 (pm a0 T.aC.c T.aC.yu (Ef T) aC (cv aS (cC gE (pv 3) bS (λ_ _=>rfl)))) (cC gE (pv 3) bS (λ_ _=>rfl)) (λ_ _=>rfl)))) (cR (cN (cO gD (pv 4) bS (cm _)) (cR (e0 (gF gL mm mn lM aY (aQ (kr (dm (cC gE (pv 3) bS (λ_ _=>rfl)) (cv (cC gE (pv 3) bS (λ_ _=>rfl)) (pv 4)))))))) c9)))) (bc aY))),I,z,T.aF.c.cl,T.aF.fB,fM _ _ _ _ _,B.R.r,aP,_,I,a6,I,B.R,s.file,I,o.file,n.file,λH1 aG bb _ bD=>?_];refine#v[dc _,λb an=>?_];have C:=bb.trans (Z.new (o:=cT []) an);have J:(Y H1 b (.lst [])) b=O (.lst []):=az;have aE:=(Z.new (o:=cT []) an) _ _ bD;have ao:H b=aR:=bb.free an;generalize Y H1 b (.lst [])=be at C J aE;have ah:=n.same C;refine#v[I,C _ _ z,T.aF.c.cl,T.aF.rp,uv _ _ _ _ _,I,C _ _ aW,T.dZ.c.cl,T.dZ.lP,ni,B.d,ag,I,ah.book.dO,(λbK bo=>let #v[a,k,e]:=ah.book.keys bK bo;#v[a,k,e]),λac _ p av a2 bu bv a3=>?_];have bg:=ZM ah.book o a2 bu;subst bg;rw[aq]at av;have bt:p≠b:=(bI J a3).symm;have N:=Z.new (o:=cT (ac.map aT)) a3;have bT:ac.length<=1200012:=by have:=a2.length_eq;rw[aq,aq]at this;lia
 refine#v[p,I,#v[_,aA.of az],q6 (K:=K) (a:=p) (xs:=ac.map aT) (λi ad c=>∃(aH aN:ab V)(q:aa U),ad=[O (.ref B.b),O (.ref aG),O (.ref b),aH,aN]/\(∀x u,(Y be p (.lst (ac.map aT))) x=O u->x≠b->c x=O u)/\c b=O (.lst (q.map aT))/\q.length<=i/\fq c q (((((aL.allB s).take i).filter (rQ s)).map (ny s)).map aK)) #v[aj,aj,[],I,λx u d _=>d,N _ _ J,bp _,fq.nil] (λi ad c _⟨_,_,_,_,g,_⟩=>aA.of (g _ _ az bt)) ?_ ?_]
 ·rintro i _ ad c bm ⟨aH,aN,q,rfl,g,r,bG,L⟩;obtain⟨f,a5,rfl⟩:=eL bm;have bn:i<(aL.allB s).length:=by rw[<-av];exact(cM.mp a5).1
  obtain⟨m,ap⟩:∃m,(aL.allB s)[i]? =O m:=#v[_,b_ bn];have br:=dJ ap;have a4:=bv i f (D5 m) a5 (by rw[bN,ap];rfl);have R:∀x u,H x=O u->c x=O u:=λx u d=>g x u (N _ _ (C _ _ d)) (bI d ao);have bL:f≠b:=bC a4 J (by intro S;cases S);have ar:c f=O (.tup [aB (m.day:Int),aB (m.span:Int)]):=g _ _ (N _ _ a4) bL;have bM:aG≠b:=bC aE J (by intro S;cases S);have bE:=g _ _ (N _ _ aE) bM;have af:dP A c B s bP ag:=n.same R;have a1:=aL.sW o br;obtain⟨v,bJ,t,_,rfl,bF,_⟩:=af.book.val m.day m.span _ a1;have a7:m.span<s.file.parts.length:=by rw[o.len];exact(aL.vN o.tok a1).2
  have bw:c f=O (.tup ((key m.day m.span).map kV)):=ar;refine#v[I,R _ _ z,T.aF.c.cl,T.aF.rp,uv _ _ _ _ _,I,R _ _ aW,T.dZ.c.cl,T.dZ.lP,ni,B.d,_,I,bJ▸fV.t (k:=key m.day m.span) af.book.dO bw,t,_,_,_,I,I,dH.of bF,fw (j:=0) (v:=.int (m.load:Int)) I I,I,R _ _ z,T.aF.c.cl,T.aF.fB,fM _ _ _ _ _,B.R.r,aP,_,I,R _ _ a6,I,f,_,_,_,I,I,dH.of ar,fw (j:=0) (v:=.int (m.day:Int)) I I,B.R,s.file,s.file.entries.length,m.day,aG,I,o.file,bp _,af.file,bE,λ_ aO l bi bh=>?_];have bs:((bQ s.file.parts.length).map λk=>cp s.file k m.day s.file.entries.length).length=s.file.parts.length:=by rw[aq,et]
  have bk:((bQ s.file.parts.length).map λk=>cp s.file k m.day s.file.entries.length).getD m.span 0=cp s.file m.span m.day s.file.entries.length:=(by simp[dt,a7]);have as:=l _ _ ar;refine#v[f,_,_,_,I,I,dH.of as,fw (j:=1) (v:=.int (m.span:Int)) I I,aO,_,_,_,I,I,aA.of bh,eD (oG (by rw[bs];exact a7)),_,_,I,I,?_];rw[bk];have a8:(aL.allB s).take (i+1)=(aL.allB s).take i++ [m]:=ic ap;have b0:b≠aO:=bI r bi;refine#v[_,_,I,I,_,I,cg (λal=>?_) (λal=>?_)]
  ·have am:cp s.file m.span m.day s.file.entries.length<m.load:=(by have:(0:Int)<(m.load:Int)-(cp s.file m.span m.day s.file.entries.length:Int):=(by simpa using al);lia);refine#v[.inl #v[I,_,aA.of (l _ _ r)],f,_,_,_,I,I,dH.of as,fw (j:=0) (v:=.int (m.day:Int)) I I,f,_,_,_,I,I,dH.of as,fw (j:=1) (v:=.int (m.span:Int)) I I,(bB 3),λbd X=>?_];have bA:[aB (m.day:Int),aB (m.span:Int),aB ((m.load:Int)-(cp s.file m.span m.day s.file.entries.length:Int))]=aK (ny s m):=by show _=[aB (m.day:Int),aB (m.span:Int),aB ((m.load-cp s.file m.span m.day s.file.entries.length:Nat):Int)];rw[show((m.load-cp s.file m.span m.day s.file.entries.length:Nat):Int)=(m.load:Int)-(cp s.file m.span m.day s.file.entries.length:Int)by lia]
   have aF:=Z.new (o:=HO.tup [aB (m.day:Int),aB (m.span:Int),aB ((m.load:Int)-(cp s.file m.span m.day s.file.entries.length:Int))]) X;have aV:=aF _ _ (l _ _ r);refine#v[b,_,_,I,I,aV,(by rw[aq];lia),_,_,q++ [bd],I,λx u d W=>by rw[aw W];exact aF _ _ (l _ _ (g x u d W)),by rw[az,dY];rfl,by rw[cV,iM];lia,?_];rw[a8,nX,dY,dY];have ak:[m].filter (rQ s)=[m]:=by rw[hC,aI (show rQ s m=ai from eP am)];rfl
   rw[ak];refine fq.snoc ((L.same (l.trans aF)).keep λn xs z=>?_) ?_
   ·rw[aw (bC z aV (by intro S;cases S))];exact z
   ·rw[aw (show bd≠b from ?_),az,bA];intro e;rw[e]at X;rw[l _ _ r]at X;cases X
  ·have am:¬cp s.file m.span m.day s.file.entries.length<m.load:=(by have:¬(0:Int)<(m.load:Int)-(cp s.file m.span m.day s.file.entries.length:Int):=(by simpa using al);lia);refine#v[_,_,q,I,λx u d W=>l _ _ (g x u d W),l _ _ r,by lia,?_];rw[a8,nX];have ak:[m].filter (rQ s)=[]:=by rw[hC,aD (show¬rQ s m=ai fromλf=>am (jd f))];rfl
   rw[ak,gY];exact L.same l
 ·rintro ad c ⟨aH,aN,q,rfl,g,r,bG,L⟩;rw[aq,av,ij,<-ZN]at L;exact(k c b q (λx u d=>g x u (N _ _ (C _ _ d)) (bI d ao)) ao r L)
end
end Br
namespace L2
def ZQ(K:bj)(e:TA):TE:=λf H d=>e f H λvs H1=>∃(a:U)(ns:aa Nat),vs=[.ref a]/\aA K H1 a (ns.map λ(n:Nat)=>aB (n:Int))/\ns.length+1<4096/\(∀n∈ns,n<60)/\∀(b:Hp)(c:aa Nat)(p:U),Z H1 b->H1 p=aR->c.Pairwise (·<·)->(∀n,n∈c↔n∈ns)->b p=O (.lst (c.map λ(n:Nat)=>aB (n:Int)))->d (.ref p) b
def zM:Prop:=∀ {X:Cx}{e:bx}{c:TA}{p a d b:c7},X.calm=ai->Gl X "sorted"->X.mg "sorted"=aj->Gl X "set"->X.mg "set"=aj->PA X [e] c->cu [e] X.env=[(ax,bU e X.env)]->cu [Fu (.Name "set" a) [e] [] b] X.env=[(ax,bU (.Call (.Name "set" a) [e] [] b) X.env)]->PE X (.Call (.Name "sorted" p) [.Call (.Name "set" a) [e] [] b] [] d) (ZQ X.K c)
end L2
namespace Br
section
inductive ZR(A:bF)(K:bj)(vs:aa V)(H:Hp)(Q:VK)(E:XK):Prop|mk(a b:U)(c:aa Int)(d:Nat)(B:BA)(s:bY)(_:vs=[.ref a])(_:SB A K H a b c d B s)(_:aL.Ok s)(_:aL.dG s)(_:AK A K H a b c B d (di s .exposed) Q)
def ZS(s:bY)(l:aa jm):(l.map (ny s)).flatten=l.flatMap λ(m:jm)=>Sy51.row m (m.load-cp s.file m.span m.day s.file.entries.length):=(Ba ..).symm
def ZT(bd:zM)(T:Txt K mg A):bf P w K mg aJ bq 10 A.jW.f A.jW.fd ["session"] (ZR A K):=by(refine T.jW.fn.bJ p3 (λH vs _ E r h=>?_);obtain⟨bX,cl,ns,_,B,s,rfl,N,o,be,k⟩:=h;obtain⟨_,bD⟩:=N.obj;have b3:=bZ;have bL:=k7 r;refine#v[_,ay (ba 1 p3.nd a0) (ay (ba 2 p3.nd (cD aS T.aF.c T.aF.Kd ((ZP T).to 9) r)) (ay (ba 3 p3.nd (bO gk)) (ay (iV hK I (fU aY) (mN I (gQ (dD (i:=4) p3.nd I (cB I)) (gQ (dD (i:=5) p3.nd I (cB I)) (gQ (dD (i:=6) p3.nd I (cB I)) mM)))) (cR (e0 (gF gL sD sE MY (pv 3) (aQ (cC gE (ra bL (aX (aX aS)) (kr (cv (pv 4) (pv 5))) (λ_ _=>rfl)) bS (λ_ _=>rfl))))))) (bc (cS g9 (cS g9 (bO (aQ (dE T.dW aY))) (ef ((hv T).to 9) r T.fJ (aQ (ef ((zJ T).to 9) r T.lQ (aQ aY))))) (ef ((hv T).to 9) r T.fJ (aQ (bd I I T.Dq I T.VO (aQ (pv 3)) I I)))))))),?_];obtain⟨a4,ag,g⟩:=N.br;obtain⟨bg,ar⟩:=g.obj;obtain⟨dl,_⟩:=g.lane.obj;obtain⟨_,_⟩:=g.file.obj;obtain⟨_,bv⟩:=g.book.obj;have bh:di s .exposed=(s,#v[((gM s).length:Nat),[Sy51.ints ((gM s).map (ny s)).flatten,Sy51.ints (Ez ((gM s).flatMap λ(m:jm)=>m.cars))]]):=by rw[ZS];rfl);(rw[bh]at k;obtain⟨br,R⟩:=be.allB o;have X:∀m∈gM s,m∈aL.allB s:=λm q=>(c0.mp q).1;have b4:(gM s).length<=720:=dQ (iq _ _) br;refine#v[I,bD,T.aO.c.cl,T.aO.fu,fC _ _ _,B.b,bg,_,I,ar,I,B,s,I,o,#v[a4,ag,g],λH1 f J ac _ C y=>?_];have U:J.length=(gM s).length:=by rw[y.1,aq,aq]);refine#v[dc _,λW l=>?_];have aI:=Z.new (o:=cT []) l;have ap:H W=aR:=ac.free l;have aH:f≠W:=bI C l;refine#v[f,I,#v[_,aA.of (aI _ _ C)],q6 (K:=K) (a:=f) (xs:=J.map aT) (λi L c=>∃ad af ah:ab V,L=[O (.ref bX),O (.ref B.b),O (.ref f),O (.ref W),ad,af,ah]/\(∀x u,H1 x=O u->x≠W->c x=O u)/\c W=O (.lst (aK (((gM s).take i).flatMap λm=>m.cars)))) #v[aj,aj,aj,I,λx u b S=>aI _ _ b,az] (λi L c _⟨_,_,_,_,d,_⟩=>aA.of (d _ _ C aH)) ?_ ?_];((rintro i a5 L c bt ⟨ad,af,ah,rfl,d,n⟩;obtain⟨t,aE,rfl⟩:=eL bt;have bu:i<(gM s).length:=by rw[<-U];exact(cM.mp aE).1);(obtain⟨m,q⟩:∃m,(gM s)[i]? =O m:=#v[_,b_ bu];have aC:=X m (dJ q);have aF:=y.2 i t (aK (ny s m)) aE (by rw[bN,bN,q];rfl);have z:∀x u,H x=O u->c x=O u:=λx u b=>d x u (ac _ _ b) (bI b ap);have bJ:t≠W:=bI aF l;have bH:=d _ _ aF bJ;have ak:dP A c B s a4 ag:=g.same z;have bw:=aL.sW o aC;obtain⟨v,bP,b0,a2,rfl,bE,bF⟩:=ak.book.val m.day m.span _ bw;have bs:=(aL.Gz ((gM s).take i) λx b=>R x (X x (qO b))).1;have b1:=(R m aC).1;rw[fE]at bs;refine#v[t,_,I,dH.of bH,I,_,_,I,_,_,I,_,_,I,I,.inl #v[I,_,aA.of n],I,z _ _ ar,T.aF.c.cl,T.aF.rp,uv _ _ _ _ _,I,z _ _ bv,T.dZ.c.cl,T.dZ.lP,ni,(bB 2),λa3 bG=>?_];have e:=Z.new (o:=HO.tup [aB (m.day:Int),aB (m.span:Int)]) bG;have bT:(Y c a3 (.tup [aB (m.day:Int),aB (m.span:Int)])) a3=O (.tup ((key m.day m.span).map kV)):=by rw[az];rfl);refine#v[B.d,_,I,bP▸fV.t (k:=key m.day m.span) (e _ _ ak.book.dO) bT,b0,_,_,_,I,I,dH.of (e _ _ bE),fw (j:=2) (v:=.ref a2) I I,W,a2,_,_,I,I,e _ _ n,dH.of (e _ _ bF),(by rw[cy,cy];show _+m.cars.length<=_;lia),_,_,_,I,λx u b S=>by rw[aw S];exact e _ _ (d x u b S),?_];rw[az,ic q,List.flatMap_append,zx];simp);rintro L c ⟨ad,af,ah,rfl,d,n⟩;rw[aq,U,ij]at n;have z:Z H c:=λx u b=>d x u (ac _ _ b) (bI b ap);have an:=d _ _ C aH;obtain⟨_,as⟩:=aL.Gz (gM s) λx b=>R x (X x b);have bK:fq c J (((gM s).map (ny s)).map aK):=#v[y.1,λi t x al am=>d _ _ (y.2 i t x al am) (bI (y.2 i t x al am) l)];refine#v[f,_,I,.inl (aA.of an),(bB 1),λa7 bm=>?_];rw[aq,U];have e:=Z.new (o:=cT [aB ((gM s).length:Nat)]) bm;refine#v[f,J,_,I,e _ _ an,bK.same e,(by rw[aq];lia),(λx b=>by obtain⟨a5,_,rfl⟩:=bM.mp b;show 3<=3;decide),λ_ a6 aO _ bk=>?_];have bi:=uC ((gM s).map (ny s)) (λx b=>by obtain⟨a5,_,rfl⟩:=bM.mp b;show 3<=3;decide);rw[aq]at bi;generalize ((gM s).map (ny s)).flatten=aG at*;refine#v[a6,_,I,bk,(by rw[cy];lia),λ_ a8 aP _ ao=>?_];rw[cy]at ao;refine#v[a7,a8,_,_,I,I,aP _ _ (aO _ _ az),ao,(by simp only[cU,e_,cy];lia),λG bo=>?_];have bW:=Z.new (o:=cT ([aB ((gM s).length:Nat)]++aB (aG.length:Nat)::aK aG)) bo;have aN:=((e.trans aO).trans aP).trans bW;refine#v[W,(gM s).flatMap (λ(m:jm)=>m.cars),I,aA.of (aN _ _ n),by lia,as,λ_ _ p aV _ aD av bC=>?_];have bA:=aL.RI aD av;subst bA;have b2:(Ez ((gM s).flatMap λ(m:jm)=>m.cars)).length<=60:=aL.pG 60 _ (aD.imp λh=>er h) λx b=>as x ((av x).mp b);refine#v[p,_,I,bC,(by rw[aq];lia),λ_ bb aW _ bn=>?_];refine#v[G,bb,_,_,I,I,aW _ _ (aV _ _ az),bn,(by simp only[cU,e_,cV,cy,aq];lia),λ_ bp=>?_];have a1:=(z.trans aN).trans (aV.trans aW);refine k.fin (N.same a1) (.same a1) bp ?_;rw[M9,aq];rfl
end
end Br
namespace L2
def NA(w:bR)(K:bj)(a:U)(d:aa U):Prop:=∃(o:a9)(b:ae kh)(c:Nat),K.lookup a=O o/\o.ExactDict/\o.data=.dict b c/\(∀e∈b,∃k,km k e.key=ai/\e.hash=GA w k)/\∀(n:Nat)(f:U),d[n]? =O f->findBy km b (bz (n:Int))=O (.ref f)
def ZU(w:bR)(K:bj)(g h:TE):TE:=λc H e=>g c H λx H1=>h c H1 λi d=>∃(a:U)(b:aa U)(n:Nat)(f:U),x=.ref a/\i=.int (n:Int)/\NA w K a b/\b[n]? =O f/\e (.ref f) d
def ZV{X:Cx}{o i:bx}{L:c7}{e g:TE}(E:PE X o e)(z:PE X i g)(J:Cr i):PE X (.Subscript o i L) (ZU X.w X.K e g):=by intro af s j H _ m h;refine HV O5.lookup J (S (E af s j H _ m h) λu U⟨x,H1,p,R,N⟩=>S (z af U j H1 _ p N) λ_ V⟨_,l,b,T,a,_,n,f,r,t,⟨o,c,q,A,K,v,B,w⟩,C,P⟩=>?_);subst r t;obtain rfl:u=cP a:=R;have d:V.heap.MapOf (fZ X.prog X.w) a (findBy km c):=#v[o,c,q,b.g7 a o A,K,v,B,λk=>rfl];exact#v[d.typeIs,O2 (k:=bz (n:Int)) (mT T) d (w n f C) #v[.ref f,l,b.tok _,I,P]]
end L2
namespace Br
section
def D6(A:bF):aa U:=[A.jC.f,A.jD.f,A.jE.f,A.jF.f,A.jG.f,A.jH.f,A.jI.f,A.jJ.f,A.jK.f,A.jL.f,A.jM.f,A.jN.f,A.jO.f,A.jP.f,A.jQ.f,A.jR.f,A.jS.f,A.jT.f,A.jU.f,A.jV.f,A.jW.f,A.jX.f,A.jY.f]
def D7(w:bR)(K:bj)(mg:M->ab D)(A:bF):Prop:=∃a,mg "ANSWERS_BY_CALL"=O (.ref a)/\NA w K a (D6 A)
def uG:nZ->Nat
 |.begins _ _=>0
 |.day _=>1
 |.found _ _ _=>2
 |.mended _ _=>3
 |.strike _=>4
 |.right_ _ _=>5
 |.post=>6
 |.comes _ _=>7
 |.gives _=>8
 |.ticks _=>9
 |.shut _=>10
 |.where_ _=>11
 |.when_ _=>12
 |.loads=>13
 |.queue _=>14
 |.known _ _ _=>15
 |.limit _ _=>16
 |.wrong _ _=>17
 |.falls _=>18
 |.due _=>19
 |.exposed=>20
 |.book _=>21
 |.state=>22
def ZW(c:nZ):eR.enc c=(uG c:Int)::(eR.enc c).tail:=by cases c<;>rfl
inductive aaD(P:cx)(w:bR)(K:bj)(mg:M->ab D)(aJ:aZ)(A:bF)(c:nZ):Prop|mk(f:U)(e:bV)(i:Sp)(_:(D6 A)[uG c]? =O f)(_:bf P w K mg aJ bq 10 f e ["session"] i)(_:mc K (.ref f)=ai)(_:Binds K e ["session"] [])(_:∀(ss cl:U)(ns:aa Int)(pos:Nat)(B:BA)(s:bY)(rest:aa Int)(H:Hp)(Q:VK),SB A K H ss cl ns pos B s->aL.Ok s->mF s->aL.dG s->eR.In c->ns.drop pos=(eR.enc c).tail++rest->AK A K H ss cl ns B (pos+(eR.enc c).tail.length) (di s c) Q->i [.ref ss] H Q E0)
def here(x:zM)(T:Txt K mg A)(v:rO K mg)(c:nZ):aaD P w K mg aJ A c:=by cases c with|begins t l=>exact⟨A.jC.f,A.jC.fd,_,I,(Zt (P:=P) (w:=w) (aJ:=aJ) T v).mono (by decide),T.jC.fn.kp,T.jC.bi,λg cl ns f B s rest H q S o h p m j b=>⟨g,cl,ns,f,B,s,_,rest,I,S,o,h,⟨t,l,I⟩,m,j,b⟩⟩|day n=>exact⟨A.jD.f,A.jD.fd,_,I,(Y6 (P:=P) (w:=w) (aJ:=aJ) T).mono (by decide),T.jD.fn.kp,T.jD.bi,λg cl ns f B s rest H q S o h p m j b=>⟨g,cl,ns,f,B,s,_,rest,I,S,o,h,⟨n,I⟩,m,j,b⟩⟩|found k d c=>exact⟨A.jE.f,A.jE.fd,_,I,(YI (P:=P) (w:=w) (aJ:=aJ) T).mono (by decide),T.jE.fn.kp,T.jE.bi,λg cl ns f B s rest H q S o h p m j b=>⟨g,cl,ns,f,B,s,_,rest,I,S,o,h,⟨k,d,c,I⟩,m,j,b⟩⟩|mended k d=>exact⟨A.jF.f,A.jF.fd,_,I,(YJ (P:=P) (w:=w) (aJ:=aJ) T).mono (by decide),T.jF.fn.kp,T.jF.bi,λg cl ns f B s rest H q S o h p m j b=>⟨g,cl,ns,f,B,s,_,rest,I,S,o,h,⟨k,d,I⟩,m,j,b⟩⟩|strike e=>exact⟨A.jG.f,A.jG.fd,_,I,(YQ (P:=P) (w:=w) (aJ:=aJ) T).mono (by decide),T.jG.fn.kp,T.jG.bi,λg cl ns f B s rest H q S o h p m j b=>⟨g,cl,ns,f,B,s,_,rest,I,S,o,h,⟨e,I⟩,m,j,b⟩⟩|right_ e c=>exact⟨A.jH.f,A.jH.fd,_,I,(YR (P:=P) (w:=w) (aJ:=aJ) T).mono (by decide),T.jH.fn.kp,T.jH.bi,λg cl ns f B s rest H q S o h p m j b=>⟨g,cl,ns,f,B,s,_,rest,I,S,o,h,⟨e,c,I⟩,m,j,b⟩⟩|post=>exact⟨A.jI.f,A.jI.fd,_,I,(YT (P:=P) (w:=w) (aJ:=aJ) T).mono (by decide),T.jI.fn.kp,T.jI.bi,λg cl ns f B s rest H q S o h p m j b=>⟨g,cl,ns,f,B,s,_,rest,I,S,o,h,I,m,j,b⟩⟩|comes d u=>exact⟨A.jJ.f,A.jJ.fd,_,I,(YX (P:=P) (w:=w) (aJ:=aJ) T).mono (by decide),T.jJ.fn.kp,T.jJ.bi,λg cl ns f B s rest H q S o h p m j b=>⟨g,cl,ns,f,B,s,_,rest,I,S,o,h,⟨d,u,I⟩,m,j,b⟩⟩|gives i=>exact⟨A.jK.f,A.jK.fd,_,I,(YW (P:=P) (w:=w) (aJ:=aJ) T).mono (by decide),T.jK.fn.kp,T.jK.bi,λg cl ns f B s rest H q S o h p m j b=>⟨g,cl,ns,f,B,s,_,rest,I,S,o,h,⟨i,I⟩,m,j,b⟩⟩|ticks n=>exact⟨A.jL.f,A.jL.fd,_,I,(YU (P:=P) (w:=w) (aJ:=aJ) T).mono (by decide),T.jL.fn.kp,T.jL.bi,λg cl ns f B s rest H q S o h p m j b=>⟨g,cl,ns,f,B,s,_,rest,I,S,o,h,⟨n,I⟩,m,j,b⟩⟩|shut r=>exact⟨A.jM.f,A.jM.fd,_,I,(YK (P:=P) (w:=w) (aJ:=aJ) T).mono (by decide),T.jM.fn.kp,T.jM.bi,λg cl ns f B s rest H q S o h p m j b=>⟨g,cl,ns,f,B,s,_,rest,I,S,o,h,⟨r,I⟩,m,j,b⟩⟩|where_ i=>exact⟨A.jN.f,A.jN.fd,_,I,(Y5 (P:=P) (w:=w) (aJ:=aJ) T).mono (by decide),T.jN.fn.kp,T.jN.bi,λg cl ns f B s rest H q S o h p m j b=>⟨g,cl,ns,f,B,s,_,rest,I,S,o,h,⟨i,I⟩,m,j,b⟩⟩|when_ i=>exact⟨A.jO.f,A.jO.fd,_,I,(ZC (P:=P) (w:=w) (aJ:=aJ) T).mono (by decide),T.jO.fn.kp,T.jO.bi,λg cl ns f B s rest H q S o h p m j b=>⟨g,cl,ns,f,B,s,_,rest,I,S,o,h,⟨i,I⟩,m,j,b⟩⟩|loads=>exact⟨A.jP.f,A.jP.fd,_,I,(Zi (P:=P) (w:=w) (aJ:=aJ) T).mono (by decide),T.jP.fn.kp,T.jP.bi,λg cl ns f B s rest H q S o h p m j b=>⟨g,cl,ns,f,B,s,_,rest,I,S,o,h,I,m,j,b⟩⟩|queue d=>exact⟨A.jQ.f,A.jQ.fd,_,I,(Y_ (P:=P) (w:=w) (aJ:=aJ) T).mono (by decide),T.jQ.fn.kp,T.jQ.bi,λg cl ns f B s rest H q S o h p m j b=>⟨g,cl,ns,f,B,s,_,rest,I,S,o,h,⟨d,I⟩,m,j,b⟩⟩|known k d n=>exact⟨A.jR.f,A.jR.fd,_,I,(Zd (P:=P) (w:=w) (aJ:=aJ) T).mono (by decide),T.jR.fn.kp,T.jR.bi,λg cl ns f B s rest H q S o h p m j b=>⟨g,cl,ns,f,B,s,_,rest,I,S,o,h,⟨k,d,n,I⟩,m,j,b⟩⟩|limit d n=>exact⟨A.jS.f,A.jS.fd,_,I,(Ze (P:=P) (w:=w) (aJ:=aJ) T).mono (by decide),T.jS.fn.kp,T.jS.bi,λg cl ns f B s rest H q S o h p m j b=>⟨g,cl,ns,f,B,s,_,rest,I,S,o,h,⟨d,n,I⟩,m,j,b⟩⟩|wrong a r=>exact⟨A.jT.f,A.jT.fd,_,I,(Zf (P:=P) (w:=w) (aJ:=aJ) T).mono (by decide),T.jT.fn.kp,T.jT.bi,λg cl ns f B s rest H q S o h p m j b=>⟨g,cl,ns,f,B,s,_,rest,I,S,o,h,⟨a,r,I⟩,m,j,b⟩⟩|falls u=>exact⟨A.jU.f,A.jU.fd,_,I,(Zb (P:=P) (w:=w) (aJ:=aJ) T).mono (by decide),T.jU.fn.kp,T.jU.bi,λg cl ns f B s rest H q S o h p m j b=>⟨g,cl,ns,f,B,s,_,rest,I,S,o,h,⟨u,I⟩,m,j,b⟩⟩|due n=>exact⟨A.jV.f,A.jV.fd,_,I,(Za (P:=P) (w:=w) (aJ:=aJ) T).mono (by decide),T.jV.fn.kp,T.jV.bi,λg cl ns f B s rest H q S o h p m j b=>⟨g,cl,ns,f,B,s,_,rest,I,S,o,h,⟨n,I⟩,m,j,b⟩⟩|exposed=>exact⟨A.jW.f,A.jW.fd,_,I,ZT x (P:=P) (w:=w) (aJ:=aJ) T,T.jW.fn.kp,T.jW.bi,λg cl ns f B s rest H q S o h p m j b=>⟨g,cl,ns,f,B,s,I,S,o,p,b⟩⟩|book d=>exact⟨A.jX.f,A.jX.fd,_,I,(Zq (P:=P) (w:=w) (aJ:=aJ) T).mono (by decide),T.jX.fn.kp,T.jX.bi,λg cl ns f B s rest H q S o h p m j b=>⟨g,cl,ns,f,B,s,_,rest,I,S,o,h,⟨d,I⟩,m,j,b⟩⟩|state=>exact⟨A.jY.f,A.jY.fd,_,I,(Zl (P:=P) (w:=w) (aJ:=aJ) T).mono (by decide),T.jY.fn.kp,T.jY.bi,λg cl ns f B s rest H q S o h p m j b=>⟨g,cl,ns,f,B,s,_,rest,I,S,o,h,I,m,j,b⟩⟩
def SB.list{H:Hp}{c cl:U}{ns:aa Int}{f:Nat}{B:BA}{s:bY}(h:SB A K H c cl ns f B s){a:U}{xs r:aa V}(d:H a=O (.lst xs))(n:¬BF B a)(b:(∀g:Hp,aA K g cl (ns.map aB))\/a≠cl):SB A K (Y H a (.lst r)) c cl ns f B s:=by obtain⟨dx,e⟩:=h.obj;obtain⟨q,ag,i⟩:=h.br;have j:c≠a:=bC e d (by intro t;cases t);refine#v[#v[dx,by rw[aw j];exact e],?_,#v[q,ag,i.list d n],h.D0];rcases b with b|b;(exact .inl b);rcases h.calls with k|⟨u,l,m,o,p⟩;(exact .inl k);exact .inr #v[u,by rw[aw b.symm];exact l,m,o,p]
inductive D8(K:bj)(vs:aa V)(H:Hp)(Q:VK)(E:XK):Prop|mk(a:U)(b:aa Int)(_:vs=[.ref a])(_:aA K H a (b.map aB))(_:Em b=ai)(_:∀(H':Hp)(p:U),H' p=O (.lst ((En b).map aB))->Q (.ref p) H')
def NB(a:aa Int)(l:aa (aa Int)):l0 (a::l)=((a.length:Int)::a)++l0 l:=rfl
def ZX(l:aa (aa Int)):(l0 l).length=l.length+(l.map λa=>a.length).sum:=by induction l with|nil=>rfl|cons a l b=>rw[NB,cV,b];simp only[cU,cI,i_];lia
def NC:∀(a:aa nZ)(s:bY),(eR.hM s a).length=a.length
 | [],_=>rfl
 |c::r,s=>by show(eR.hM (di s c).1 r).length+1=r.length+1;rw[NC r]
def ZY(aO:zM)(T:Txt K mg A)(aH:zG K mg)(aK:rO K mg)(TG:D7 w K mg A):bf P w K mg aJ bq 20 A.answers.f A.answers.fd ["calls"] (D8 K):=by
 refine T.answers.fn.bJ za (λH vs _ E q h=>?_);obtain⟨cl,ns,rfl,be,a6,k⟩:=h;obtain⟨aw,a3,a4⟩:=TG;have bH:=bZ;obtain⟨p,bp,a5,bi,_,_,bt⟩:=eR.Q3 a6;have bG:(l0 (eR.hM nF p)).length<=1000080:=by rw[ZX,NC];have:((eR.hM nF p).map λa=>a.length).sum<=1000000:=bt;lia
 refine#v[_,ay (ba 1 za.nd (lL T.aO.c.k9 ((YB T aH).to 18) q I T.aO.c.at_ T.aO.ft.bi .nil g_ (aQ a7))) (ay (ba 2 za.nd (bO gk)) (ay (vW hK (k0 (gP (cD aS T.aO.c T.aO.Kl ((Xl T).to 19) q))) (ay (ba 3 za.nd (ZV (s8 (v:=.ref aw) I a3 I) (cD aS T.aO.c T.aO.eK ((eV T).to 19) q) (λ_ _=>rfl))) (cR (e0 (gF gL sD sE wa aY (aQ (ef ((hv T).to 19) q T.fJ (aQ (Xi (i:=3) I (cB I) (aQ aS)))))))))) (bc aY))),?_];refine(?_);intro j dx bw bv _;refine#v[j,dx,cl,ns,I,az,?_,λH1 aE z _ _=>#v[I,?_]]
 ·exact(Z.made bw bv (H1:=Y (Y H dx (.own j)) j (.ins A.aO.C dx [])) λ_ o a8 _=>a8).seq be
 refine#v[dc _,λg C=>?_];have bB:=Z.new (o:=cT []) C;have bd:(∀l:Hp,aA K l cl (ns.map aB))\/g≠cl:=by
  rcases z.calls with R|⟨u,bD,_⟩
  ·exact .inl R
  ·exact .inr (bI bD C).symm
 refine#v[λm aC l=>∃(y:ab V)(B:BA)(s:bY)(d:Nat)(done:aa Int)(r:aa nZ),aC=[O (.ref cl),O (.ref j),O (.ref g),y]/\r.length=m/\SB A K l j cl ns d B s/\aL.Ok s/\mF s/\aL.dG s/\(∀c∈r,eR.In c)/\ns.drop d=r.flatMap eR.enc/\l g=O (.lst (done.map aB))/\¬BF B g/\done++l0 (eR.hM s r)=l0 (eR.hM nF p),#v[p.length,aj,aE,nF,0,[],p,I,I,z.same bB,aL.Ra,aL.RE,aL.RH,bi,bp,az,(let #v[_,_,aP]:=z.br;aP.fresh C),I],?_];rintro m aC l ⟨y,B,s,d,done,r,rfl,br,S,o,ah,ad,ap,ao,J,as,t⟩;obtain⟨af,N⟩:=S.obj;refine#v[j,af,_,I,N,I,j,cl,B.b,ns,d,I,S.eM,_,I,?_];cases r with
 |nil=>
  have bk:ns.length<=d:=(by have ak:=dR Aj ao;rw[uY]at ak;have bF:ns.length-d=0:=ak;lia);rw[eP bk];refine eJ (k l g ?_);have e:done=l0 (eR.hM nF p):=by rw[<-t];exact(gY done).symm
  rw[J,e,a5]
 |cons c n=>
  have bg:ns.drop d=(uG c:Int)::((eR.enc c).tail++n.flatMap eR.enc):=(by rw[ao,oW,ZW];rfl);obtain⟨ar,an⟩:=eW bg;have bo:¬ns.length<=d:=by have:=(cM.mp ar).1;lia
  rw[ek bo];refine de ?_;have bn:m=n.length+1:=by rw[<-br];rfl
  subst bn;refine#v[λaD l=>∃(y:ab V)(B:BA)(s:bY)(d:Nat)(done:aa Int)(r:aa nZ),aD=[O (.ref cl),O (.ref j),O (.ref g),y]/\r.length=n.length/\SB A K l j cl ns d B s/\aL.Ok s/\mF s/\aL.dG s/\(∀c∈r,eR.In c)/\ns.drop d=r.flatMap eR.enc/\l g=O (.lst (done.map aB))/\¬BF B g/\done++l0 (eR.hM s r)=l0 (eR.hM nF p),λaD aI h=>#v[n.length,qE _,h],?_];obtain⟨f,a0,sp,bh,F,bu,aV,bs⟩:=here aO (P:=P) (w:=w) (aJ:=aJ) T aK c;refine#v[j,af,_,I,N,I,j,cl,B.b,ns,d,(uG c:Int),I,S.eM,ar,λaI bA ag=>#v[aw,_,uG c,f,I,I,a4,bh,?_]];have ac:=S.cE bA ag;obtain⟨_,_⟩:=ac.obj;have am:g≠j:=(bC N J (by intro bE;cases bE)).symm;have L:=ag _ _ J am;have aX:eR.hM s (c::n)=jc (di s c).2::eR.hM (di s c).1 n:=rfl;rw[aX,NB]at t;have bm:=dR Aj t;simp only[cV,cU]at bm;refine#v[.inl #v[I,_,aA.of L],f,a0,10,_,_,I,F,q.mono (show 10<=19 by decide),bu,aV,bs j cl ns (d+1) B s (n.flatMap eR.enc) _ _ ac o ah ad (ap c (cc ..)) an λ_ W aF aN X a1=>?_];have al:=X.fr g _ L am as;have av:¬BF W g:=λR=>by
   rcases X.nw g R with x|x
   ·exact as x
   ·rw[L]at x;cases x
  refine#v[aF,_,I,a1,(by rw[aq];lia),λ_ aG U _ a2=>?_];refine#v[g,aG,_,_,I,I,U _ _ al,a2,(by simp only[cU,aq];lia),_,W,(di s c).1,d+1+(eR.enc c).tail.length,done++((jc (di s c).2).length:Int)::jc (di s c).2,n,I,I,(aN.same U).list (U _ _ al) av bd,o.step c,aL.mF.step o ah c,aL.dG.step o ad c,λaW bb=>ap aW (cw _ bb),?_,?_,av,?_]
  ·rw[<-P8,an,List.drop_left]
  ·rw[az,dY,aq];rfl
  ·rw[gq];exact t
open PySem.W(mg_of)
variable{h:aZ}
def ZZ{a b c d:Int}{e f g h:gf}:J [aB a,aB b,aB c,aB d] [ir a e,ir b f,ir c g,ir d h]:=.cons #v[_,I] (.cons #v[_,I] (.cons #v[_,I] (.cons #v[_,I] .nil)))
def Z0{a:U}{f g i j:gf}{b:ab U}{n:Nat}{e:ae (ab D)}(X:K.In h)(G:h.Ns dA mg)(c:eZ K dA "FIRST_SPANS"=O (O (.ref a)))(d:K.lookup a=O #v[.type "tuple",b,.seq #[.int 1 f,.int 1 g,.int 0 i,.int 0 j] n,e]):zG K mg:=#v[a,fz X G c,λH=>.inr #v[_,_,_,d,I,I,(by rw[bZ];show 4<=16777216;decide),ZZ]]
def zN{H:Hp}{a:U}{x b:Int}{e f:gf}{c:ab U}{n:Nat}{d:ae (ab D)}(p:K.lookup a=O #v[.type "tuple",c,.seq #[.int x e,.int b f] n,d]):dH K H a [.int x,.int b]:=.inr #v[_,_,_,p,I,I,(by rw[bZ];show 2<=16777216;decide),.cons #v[_,I] (.cons #v[_,I] .nil)]
def Z1{a b c d e:U}{E J L N P Q R S:gf}{r m o p q:ab U}{n g i k l:Nat}{C y z A B:ae (ab D)}(X:K.In h)(G:h.Ns dA mg)(s:eZ K dA "SPAN_RANGES"=O (O (.ref a)))(t:K.lookup a=O #v[.type "tuple",r,.seq #[.ref b,.ref c,.ref d,.ref e] n,C])(u:K.lookup b=O #v[.type "tuple",m,.seq #[.int 1 E,.int 5 P] g,y])(v:K.lookup c=O #v[.type "tuple",o,.seq #[.int 1 J,.int 1000 Q] i,z])(w:K.lookup d=O #v[.type "tuple",p,.seq #[.int 0 L,.int 100 R] k,A])(x:K.lookup e=O #v[.type "tuple",q,.seq #[.int 0 N,.int 100 S] l,B]):rO K mg:=by refine#v[a,λj=>if j=0 then b else if j=1 then c else if j=2 then d else e,fz X G s,λH=>.inr #v[_,_,_,t,I,I,(by rw[bZ];show 4<=16777216;decide),?_],λj f H=>?_];(exact .cons I (.cons I (.cons I (.cons I .nil))));match j,f with|0,_=>exact zN u|1,_=>exact zN v|2,_=>exact zN w|3,_=>exact zN x
def Z4{a:U}{c d s x y z B C E H g i j k l m o p q r t u v:U}{a1 a2 be bi bk bm bn bo bp bq a3 a4 a5 a6 a7 a8 ba bb bc bd bf bg bh:gf}{as:Nat}(X:K.In h)(G:h.Ns dA mg)(T:Txt K mg A)(av:eZ K dA "ANSWERS_BY_CALL"=O (O (.ref a)))(aw:K.lookup a=O #v[.type "dict",aj,.dict #[#v[0,.int 0 a1,.ref c],#v[1,.int 1 a2,.ref d],#v[2,.int 2 be,.ref s],#v[3,.int 3 bi,.ref x],#v[4,.int 4 bk,.ref y],#v[5,.int 5 bm,.ref z],#v[6,.int 6 bn,.ref B],#v[7,.int 7 bo,.ref C],#v[8,.int 8 bp,.ref E],#v[9,.int 9 bq,.ref H],#v[10,.int 10 a3,.ref g],#v[11,.int 11 a4,.ref i],#v[12,.int 12 a5,.ref j],#v[13,.int 13 a6,.ref k],#v[14,.int 14 a7,.ref l],#v[15,.int 15 a8,.ref m],#v[16,.int 16 ba,.ref o],#v[17,.int 17 bb,.ref p],#v[18,.int 18 bc,.ref q],#v[19,.int 19 bd,.ref r],#v[20,.int 20 bf,.ref t],#v[21,.int 21 bg,.ref u],#v[22,.int 22 bh,.ref v]] as,#[]])(ay:eZ K dA "answer_begins"=O (O (.ref c)))(az:eZ K dA "answer_day"=O (O (.ref d)))(aL:eZ K dA "answer_found"=O (O (.ref s)))(aQ:eZ K dA "answer_mended"=O (O (.ref x)))(aS:eZ K dA "answer_strike"=O (O (.ref y)))(aV:eZ K dA "answer_right"=O (O (.ref z)))(aW:eZ K dA "answer_post"=O (O (.ref B)))(aX:eZ K dA "answer_comes"=O (O (.ref C)))(aY:eZ K dA "answer_gives"=O (O (.ref E)))(a0:eZ K dA "answer_ticks"=O (O (.ref H)))(aA:eZ K dA "answer_shut"=O (O (.ref g)))(aC:eZ K dA "answer_where"=O (O (.ref i)))(aD:eZ K dA "answer_when"=O (O (.ref j)))(aE:eZ K dA "answer_loads"=O (O (.ref k)))(aF:eZ K dA "answer_queue"=O (O (.ref l)))(aG:eZ K dA "answer_known"=O (O (.ref m)))(aH:eZ K dA "answer_limit"=O (O (.ref o)))(aI:eZ K dA "answer_wrong"=O (O (.ref p)))(aJ:eZ K dA "answer_falls"=O (O (.ref q)))(aK:eZ K dA "answer_due"=O (O (.ref r)))(aN:eZ K dA "answer_exposed"=O (O (.ref t)))(aO:eZ K dA "answer_book"=O (O (.ref u)))(aP:eZ K dA "answer_state"=O (O (.ref v))):D7 w K mg A:=by have L:A.jC.f=c:=fW (aM (T.jC.at_.symm.trans (fz X G ay)));have N:A.jD.f=d:=fW (aM (T.jD.at_.symm.trans (fz X G az)));have af:A.jE.f=s:=fW (aM (T.jE.at_.symm.trans (fz X G aL)));have al:A.jF.f=x:=fW (aM (T.jF.at_.symm.trans (fz X G aQ)));have am:A.jG.f=y:=fW (aM (T.jG.at_.symm.trans (fz X G aS)));have an:A.jH.f=z:=fW (aM (T.jH.at_.symm.trans (fz X G aV)));have ao:A.jI.f=B:=fW (aM (T.jI.at_.symm.trans (fz X G aW)));have ap:A.jJ.f=C:=fW (aM (T.jJ.at_.symm.trans (fz X G aX)));have aq:A.jK.f=E:=fW (aM (T.jK.at_.symm.trans (fz X G aY)));have ar:A.jL.f=H:=fW (aM (T.jL.at_.symm.trans (fz X G a0)));have P:A.jM.f=g:=fW (aM (T.jM.at_.symm.trans (fz X G aA)));have Q:A.jN.f=i:=fW (aM (T.jN.at_.symm.trans (fz X G aC)));have R:A.jO.f=j:=fW (aM (T.jO.at_.symm.trans (fz X G aD)));have S:A.jP.f=k:=fW (aM (T.jP.at_.symm.trans (fz X G aE)));have V:A.jQ.f=l:=fW (aM (T.jQ.at_.symm.trans (fz X G aF)));have W:A.jR.f=m:=fW (aM (T.jR.at_.symm.trans (fz X G aG)));have Y:A.jS.f=o:=fW (aM (T.jS.at_.symm.trans (fz X G aH)));have Z:A.jT.f=p:=fW (aM (T.jT.at_.symm.trans (fz X G aI)));have ac:A.jU.f=q:=fW (aM (T.jU.at_.symm.trans (fz X G aJ)));have ad:A.jV.f=r:=fW (aM (T.jV.at_.symm.trans (fz X G aK)));have ag:A.jW.f=t:=fW (aM (T.jW.at_.symm.trans (fz X G aN)));have ah:A.jX.f=u:=fW (aM (T.jX.at_.symm.trans (fz X G aO)));have ak:A.jY.f=v:=fW (aM (T.jY.at_.symm.trans (fz X G aP)));subst L N af al am an ao ap aq ar P Q R S V W Y Z ac ad ag ah ak;refine#v[a,fz X G av,_,_,_,aw,#v[I,I,I],I,λe J=>?_,λn f b=>?_];((simp only[List.mem_toArray,bL,ff,gv]at J;rcases J with rfl|rfl|rfl|rfl|rfl|rfl|rfl|rfl|rfl|rfl|rfl|rfl|rfl|rfl|rfl|rfl|rfl|rfl|rfl|rfl|rfl|rfl|rfl);(exact#v[.inl 0,I,I]);(exact#v[.inl 1,I,I]);(exact#v[.inl 2,I,I]);(exact#v[.inl 3,I,I]);(exact#v[.inl 4,I,I]);(exact#v[.inl 5,I,I]);(exact#v[.inl 6,I,I]);(exact#v[.inl 7,I,I]);(exact#v[.inl 8,I,I]);(exact#v[.inl 9,I,I]);(exact#v[.inl 10,I,I]);(exact#v[.inl 11,I,I]);(exact#v[.inl 12,I,I]);(exact#v[.inl 13,I,I]);(exact#v[.inl 14,I,I]);(exact#v[.inl 15,I,I]);(exact#v[.inl 16,I,I]);(exact#v[.inl 17,I,I]);(exact#v[.inl 18,I,I]);(exact#v[.inl 19,I,I]);(exact#v[.inl 20,I,I]);(exact#v[.inl 21,I,I]);exact#v[.inl 22,I,I]);match n,b with|0,b=>rw[<-aM b];rfl|1,b=>rw[<-aM b];rfl|2,b=>rw[<-aM b];rfl|3,b=>rw[<-aM b];rfl|4,b=>rw[<-aM b];rfl|5,b=>rw[<-aM b];rfl|6,b=>rw[<-aM b];rfl|7,b=>rw[<-aM b];rfl|8,b=>rw[<-aM b];rfl|9,b=>rw[<-aM b];rfl|10,b=>rw[<-aM b];rfl|11,b=>rw[<-aM b];rfl|12,b=>rw[<-aM b];rfl|13,b=>rw[<-aM b];rfl|14,b=>rw[<-aM b];rfl|15,b=>rw[<-aM b];rfl|16,b=>rw[<-aM b];rfl|17,b=>rw[<-aM b];rfl|18,b=>rw[<-aM b];rfl|19,b=>rw[<-aM b];rfl|20,b=>rw[<-aM b];rfl|21,b=>rw[<-aM b];rfl|22,b=>rw[<-aM b];rfl|n+23,b=>simp[D6]at b
end
end Br
namespace L2
def D9{xs:ae Nat}{j i:Nat}(d:∀m,m<i->xs.getD m j<j)(e:∀m,i<=m->¬xs.getD m j<j):∀(f lo b:Nat),lo<=i->i<=b->b-lo<=f->FE xs j f lo b=i
 |0,lo,b,a,g,c=>by unfold FE;lia
 |f+1,lo,b,a,g,c=>by
  unfold FE;by_cases h:lo<b
  ·rw[aI h];dsimp only;by_cases k:(lo+b)/2<i
   ·rw[aI (d _ k)];exact D9 d e f _ b ∅ g ∅
   ·rw[aD (e _ ∅)];exact D9 d e f lo _ a ∅ ∅
  ·rw[aD h];lia
def D_{xs:ae Nat}{j i:Nat}(c:i<=xs.size)(a:∀m,m<i->xs.getD m j<j)(b:∀m,i<=m->¬xs.getD m j<j):fX xs j=i:=by unfold fX;exact D9 a b _ 0 _ (dc _) c ∅
def iL(xs:ae Nat):Prop:=∀a b,a<b->b<xs.size->xs.getD a 0<xs.getD b 0
def Z5{xs:ae Nat}(r:iL xs){i:Nat}(f:i<xs.size):fX xs (xs.getD i 0+1)=i+1:=by(have c:∀(m d:Nat),m<xs.size->xs.getD m d=xs.getD m 0:=λm d a=>by simp[fR,a]);refine D_ ∅ (λm a=>?_) (λm a=>?_);(rw[c m _ ∅];by_cases e:m=i;(subst e;lia);have:=r m i ∅ f;lia);by_cases b:m<xs.size;(rw[c m _ b];have:=r i m ∅ b;lia);have:xs.getD m (xs.getD i 0+1)=xs.getD i 0+1:=(by simp[fR,b]);lia
def Z6{xs:ae Nat}:fX xs 0=0:=D_ (dc _) (λm a=>absurd a (kM _)) (λm _=>kM _)
def iL.ND{l:aa Nat}(h:l.Pairwise (·<·)):iL l.toArray:=by(intro a b e f;have d:b<l.length:=by simpa using f);(have c:a<l.length:=by lia);have:=z1.mp h a b c d e;simpa[fR,c,d]using this
def Z7{d sL sM:Nat}{gz px:Bool}{c:ae Int}{t:hL}{o:ae Nat}(h:vj d sL sM gz px c=O (t,o)):iL t.place/\t.led=gz/\t.plain=px:=by unfold vj at h;cases e:FF d c with|none=>rw[e]at h;cases h|some dU=>rw[e]at h;have h':=aM h;have g:=(AY h').1;subst g;refine#v[iL.ND ?_,I,I];rw[ik,Oc];refine Qa (λ{a _} f x i _ j=>?_) (PN);obtain⟨_,_,rfl⟩:=Ax.mp i;obtain⟨w,_,rfl⟩:=Ax.mp j;exact f
def NF:∀(m:Nat)(l:aa Nat),(∀j,j<m->j∈l)->m<=l.length
 |0,l,_=>dc _
 |m+1,l,h=>by have b:=h m (qE m);have:=NF m (l.erase m) λj a=>(List.mem_erase_of_ne (er a)).mpr (h j (si a));rw[Of b]at this;have:0<l.length:=List.length_pos_of_mem b;lia
def Ea:∀(m:Nat)(l:aa Nat),l.Nodup->(∀j∈l,j<m)->l.length<=m
 |0,l,_,h=>by
  cases l with
  |nil=>simp
  |cons x l=>exact absurd (h x (cc ..)) (kM _)
 |m+1,l,c,h=>by
  have:=Ea m (l.erase m) (c.erase m) λj b=>by
   have d:=h j (List.mem_of_mem_erase b);have a:j≠m:=λe=>(List.Nodup.not_mem_erase c) (e▸b)
   lia
  have a:=List.length_erase (a:=m) (l:=l);split at a<;>lia
def iL.pw{xs:ae Nat}:iL xs↔xs.toList.Pairwise (·<·):=by constructor;((intro r;refine z1.mpr λa b d c f=>?_;have:=r a b f (by simpa using c);have e:a<xs.size:=by simpa using d);have g:b<xs.size:=(by simpa using c);simpa[fR,e,g]using this);intro r;have:=iL.ND r;simpa using this
def NG{xs:ae Nat}(r:iL xs)(j:Nat):fX xs j<=xs.size/\(∀m,m<fX xs j->xs.getD m 0<j)/\(∀m,fX xs j<=m->m<xs.size->j<=xs.getD m 0):=by(have h:∀n,n<=xs.size->∃i,i<=n/\(∀m,m<i->xs.getD m 0<j)/\∀m,i<=m->m<n->j<=xs.getD m 0:=by intro n;induction n with|zero=>exactλ_=>⟨0,bp _,λm b=>absurd b (kM _),λm _ b=>absurd b (kM _)⟩|succ n u=>intro _;obtain⟨i,o,c,f⟩:=u ∅;by_cases e:i<n;(refine#v[i,by lia,c,λm a g=>?_];by_cases s:m<n;(exact f m a s);have k:m=n:= ∅;subst k;have:=r i m e ∅;have:=f i (bp _) e;lia);have k:i=n:= ∅;subst k;by_cases t:xs.getD i 0<j;(refine#v[i+1,by lia,λm b=>?_,λm a g=>absurd g ∅];by_cases l:m=i;(rw[l];exact t);exact c m ∅);(refine#v[i,by lia,c,λm a g=>?_];have l:m=i:=by lia);subst l;lia);(obtain⟨i,o,c,f⟩:=h xs.size (bp _);have q:∀(m d:Nat),m<xs.size->xs.getD m d=xs.getD m 0:=λm d b=>by simp[fR,b]);have e:fX xs j=i:=D_ o (λm b=>by rw[q m _ ∅];exact c m b) (λm b=>by by_cases p:m<xs.size;(rw[q m _ p];have:=f m b p;lia);have:xs.getD m j=j:=(by simp[fR,p]);lia);rw[e];exact#v[o,c,f]
def Z8{t:hL}(a:t.dummies= #[]){j:Nat}(h:t.slot j≠ .empty):j∈t.place.toList:=by unfold FG at h;dsimp only at h;split at h;(rename_i e;have:=jd (by simpa using e:decide (t.place[fX t.place j]? =O j)=ai);exact OB.mpr (Array.mem_of_getElem? this));split at h;(rename_i e;rw[a]at e;simp[Bb]at e);exact absurd I h
def Z9{t:hL}(r:iL t.place){j:Nat}(h:t.slot j=.empty):∀m,m<t.place.size->t.place.getD m 0≠j:=by(intro m a e;obtain⟨_,b,d⟩:=NG r j;have f:fX t.place j=m:=by rcases Es m (fX t.place j)with c|c|c;(have:=b m c;lia);(exact c.symm);have i:=r _ m c a;have k:=d (fX t.place j) (bp _) ∅;lia);(unfold FG at h;dsimp only at h;rw[f]at h;have g:t.place[m]? =O j:=by rw[<-e];simp[fR,a]);rw[g]at h;simp at h
def Z_{t:hL}(r:iL t.place){j:Nat}(h:t.slot j=.empty):iL (t.put j).1.place:=by(obtain⟨_,o,p⟩:=NG r j;have f:=Z9 r h;have k:∀(m:Nat)(b:m<t.place.toList.length),t.place.getD m 0=t.place.toList[m]:=λm b=>by have:m<t.place.size:=(by simpa using b);simp[fR,this]);(have l:=iL.pw.mp r;refine iL.pw.mpr ?_;show(Bc t.place (fX t.place j) j).toList.Pairwise (·<·);rw[SetTable.toList_insertAt];have q:∀x∈t.place.toList.take (fX t.place j),x<j:=λx g=>by obtain⟨m,b,e⟩:=fx g;rw[fE]at b;rw[AV,<-k m ∅]at e;rw[<-e];exact o m ∅);(have s:∀x∈t.place.toList.drop (fX t.place j),j<x:=λx g=>by(obtain⟨m,b,e⟩:=fx g;rw[uY]at b;have d:fX t.place j+m<t.place.size:=by rw[<-e9];lia);rw[List.getElem_drop,<-k _ (by rw[e9];exact d)]at e;rw[<-e];have y:=p _ (r0 _ m) d;have z:=f _ d;lia);(rw[<-zX (fX t.place j) t.place.toList]at l;obtain⟨u,v,w⟩:=qj.mp l;refine qj.mpr #v[u,ja.mpr #v[s,v],λa i n c=>?_];rcases bL.mp c with rfl|c);(exact q a i);exact w a i n c
def tm(m:Nat):hL:={mask:=m,place:= #[],dummies:= #[],finger:=0,led:=ai,moves:=0,plain:=ai}
def seen(m:Nat):Nat->FH->Nat->Nat
 |0,_,aE=>aE
 |f+1,p,aE=>seen m f ((tm m).advance p) (aE|||2^p.j)
def NH(m j:Nat):∀(f:Nat)(p:FH)(aE:Nat)(P:Nat->Prop),(∀j,aE.testBit j=ai->P j)->(∀k,k<f->P (Nat.repeat (tm m).advance k p).j)->(seen m f p aE).testBit j=ai->P j
 |0,p,aE,P,h,_,e=>h j e
 |f+1,p,aE,P,h,b,e=>by
  refine NH m j f _ _ P (λi a=>?_) (λk _=>?_) e
  ·rw[Qh,l5]at a;rcases a with a|a
   ·exact h i a
   ·rw[Qi]at a;have:p.j=i:=jd a;rw[<-this];exact b 0 (Nat.succ_pos _)
  ·have:=b (k+1) ∅;have e:∀k p,Nat.repeat (tm m).advance (k+1) p=Nat.repeat (tm m).advance k ((tm m).advance p):=λk=>by
    induction k with
    |zero=>intro p;rfl
    |succ k c=>intro p;show(tm m).advance (Nat.repeat (tm m).advance (k+1) p)=_;rw[c p];rfl
   rw[e]at this;exact this
def NI{t:hL}(c:t.dummies= #[]){h:Int}:∀(f:Nat)(p:FH),p.dummy=aj->(∃j,vk t (λ_=>h+1) h f p=O (.empty j aj)/\t.slot j=.empty)\/∀k,k<f->(Nat.repeat (tm t.mask).advance k p).j∈t.place.toList
 |0,p,_=>.inr λk d=>absurd d (kM _)
 |f+1,p,g=>by
  cases e:t.slot p.j with
  |empty=>refine .inl #v[p.j,?_,e];unfold vk;rw[e];dsimp only;rw[g]
  |dummy=>
   exfalso;unfold FG at e;dsimp only at e;split at e
   ·cases e
   ·split at e
    ·rename_i b;rw[c]at b;simp[Bb]at b
    ·cases e
  |live i=>
   have m:vk t (λ_=>h+1) h (f+1) p=vk t (λ_=>h+1) h f (t.advance p):=(by rw[vk,e];dsimp only;rw[aD (by simp;lia)]);have n:(t.advance p).dummy=aj:=by unfold SetTable.advance;split<;>exact g
   rcases NI c (h:=h) f (t.advance p) n with⟨j,a,l⟩|a
   ·exact .inl #v[j,m.trans a,l]
   ·refine .inr λk d=>?_;cases k with
    |zero=>exact Z8 c (by rw[show(Nat.repeat (tm t.mask).advance 0 p)=p from I,e];exactλb=>by cases b)
    |succ k=>
     have:=a k ∅;have e:∀k p,Nat.repeat (tm t.mask).advance (k+1) p=Nat.repeat (tm t.mask).advance k ((tm t.mask).advance p):=λk=>by
      induction k with
      |zero=>intro p;rfl
      |succ k o=>intro p;show(tm t.mask).advance (Nat.repeat (tm t.mask).advance (k+1) p)=_;rw[o p];rfl
     rw[e];exact this
def aaa:(bQ 60).all (λ(h:Nat)=>seen 7 (10*ki 7) ((tm 7).probeStart h) 0==2^8-1)=ai:=by decide+kernel
def aab:(bQ 60).all (λ(h:Nat)=>seen 31 (10*ki 31) ((tm 31).probeStart h) 0==2^32-1)=ai:=by decide+kernel
def aac:(bQ 60).all (λ(h:Nat)=>seen 127 (10*ki 127) ((tm 127).probeStart h) 0==2^128-1)=ai:=by decide+kernel
def Eb(m:Nat):Prop:=m=7\/m=31\/m=127
def aad{m n:Nat}(b:Eb m)(a:n<60):seen m (10*ki m) ((tm m).probeStart n) 0=2^(m+1)-1:=by rcases b with rfl|rfl|rfl;(exact jf.mp (kK.mp aaa n (gu.mpr a)));(exact jf.mp (kK.mp aab n (gu.mpr a)));exact jf.mp (kK.mp aac n (gu.mpr a))
def aae{t:hL}(c:t.dummies= #[])(e:Eb t.mask)(g:t.place.size<=t.mask){n:Nat}(f:n<60):∃j,t.freeSlot (n:Int)=O (j,ax)/\t.slot j=.empty:=by rcases NI c (h:=(n:Int)) (10*ki t.mask) (t.probeStart n) rfl with⟨j,a,b⟩|a;(refine#v[j,?_,b];unfold SetTable.freeSlot SetTable.probe;rw[a];rfl);(exfalso;have:=NF (t.mask+1) t.place.toList λj d=>by refine NH t.mask j (10*ki t.mask) (t.probeStart n) 0 (·∈t.place.toList) (λj h=>by simp at h) a ?_;rw[show t.probeStart n=(tm t.mask).probeStart n from I,aad e f,Qj];exact eP d);rw[e9]at this;lia
def uD(m:Nat):Nat->Nat->Nat->Nat->Nat
 |0,_,_,aE=>aE
 |f+1,i,p,aE=>uD m f (Bd m i p).1 (Bd m i p).2 (aE|||2^i)
def aaf:(bQ 60).all (λ(h:Nat)=>uD 31 (ki 31) (jq h%32) (jq h) 0==2^32-1)=ai:=by decide+kernel
def aag:(bQ 60).all (λ(h:Nat)=>uD 127 (ki 127) (jq h%128) (jq h) 0==2^128-1)=ai:=by decide+kernel
def NJ{m:Nat}{dU:ae (ab Nat)}{P:Nat->Prop}(c:∀i,dU.getD i (O 0)≠aj->P i):∀(f i p aE:Nat),(∀j,aE.testBit j=ai->P j)->(∃j,sI m dU f i p=O j/\dU.getD j (O 0)=aj)\/∀j,(uD m f i p aE).testBit j=ai->P j
 |0,i,p,aE,h=>.inr h
 |f+1,i,p,aE,h=>by
  cases e:(bQ (Qk m i+1-i)).find? λk=>(dU.getD (i+k) (O 0)).isNone with
  |some k=>
   refine .inl #v[i+k,?_,?_]
   ·rw[sI,e]
   ·have:=nC e;simpa using this
  |none=>
   have g:=hX.mp e 0 (gu.mpr (by unfold Qk;split<;>lia));have l:P i:=c i (by simpa using g);rcases NJ (m:=m) c f (Bd m i p).1 (Bd m i p).2 (aE|||2^i) (λj b=>by
    rw[Qh,l5]at b;rcases b with b|b
    ·exact h j b
    ·rw[Qi]at b;have:i=j:=jd b;exact this▸l)with⟨j,a,d⟩|a
   ·refine .inl #v[j,?_,d];rw[sI,e];exact a
   ·exact .inr a
def aah{m n:Nat}(b:m=31\/m=127)(a:n<60):uD m (ki m) (jq n%(m+1)) (jq n) 0=2^(m+1)-1:=by rcases b with rfl|rfl;(exact jf.mp (kK.mp aaf n (gu.mpr a)));exact jf.mp (kK.mp aag n (gu.mpr a))
def NK{b:Type}(x:b):∀(l:aa (ab b))(j:Nat),l[j]? =O aj->((l.set j (O x)).filterMap id).Perm (l.filterMap id++ [x])
 | [],j,h=>by simp at h
 |a::l,0,h=>by simp at h;subst h;exact(List.perm_append_singleton x _).symm
 |a::l,j+1,h=>by
  have:=NK x l j (by simpa using h);cases a with
  |none=>simpa using this
  |some c=>simpa using this
def NL:∀l:aa (ab Nat),(∀j,j<l.length->l[j]?≠O aj)->(l.filterMap id).length=l.length
 | [],_=>rfl
 |a::l,h=>by
  have:=NL l λj _ e=>h (j+1) (by simp;lia) (by simpa using e);cases a with
  |none=>exact absurd I (h 0 (by simp))
  |some b=>simpa using this
def NM{m:Nat}(p:m=31\/m=127):∀(ns:aa Int)(dU:ae (ab Nat))(k:Nat),(∀n∈ns,∃i:Nat,i<60/\n=i)->dU.size=m+1->(dU.toList.filterMap id).Perm (bQ k)->k+ns.length<=m->∃l g,ns.foldl (init:=O (dU,k)) (λaE h=>do
   let (dU,k)<-aE
   let j<-sI m dU (ki m) (jq h%(m+1)) (jq h)
   pure (dU.setIfInBounds j (O k),k+1))=O (l,g)/\l.size=m+1/\(l.toList.filterMap id).Perm (bQ (k+ns.length))
 | [],dU,k,_,f,b,_=>#v[dU,k,I,f,b]
 |n::ns,dU,k,q,f,b,y=>by
  obtain⟨i,o,rfl⟩:=q n (cc ..);rw[cU]at y;have u:∃j,sI m dU (ki m) (jq i%(m+1)) (jq i)=O j/\dU.getD j (O 0)=aj:=by
   rcases NJ (m:=m) (dU:=dU) (P:=λj=>j<m+1->dU.toList[j]?≠O aj) (λi h o e=>h (by have v:i<dU.size:= ∅;rw[Au]at e;have:=(qM.mp e).2;simp[fR,v,this])) (ki m) (jq i%(m+1)) (jq i) 0 (λj h=>by simp at h)with h|h
   ·exact h
   ·exfalso;have:=NL dU.toList λj a=>h j (by rw[aah p o,Qj];exact eP (by rw[e9]at a;lia)) (by rw[e9]at a;lia);rw[b.length_eq,et,e9]at this;lia
  obtain⟨j,e,d⟩:=u;have a:j<dU.size:=by
   by_cases c:j<dU.size
   ·exact c
   ·simp[fR,c]at d
  have w:dU.toList[j]? =O aj:=(by rw[Au];simp[fR,a]at d;exact qM.mpr #v[a,d]);obtain⟨A,g,r,s,t⟩:=NM p ns (dU.setIfInBounds j (O k)) (k+1) (λx z=>q x (cw _ z)) (by simpa using f) (by rw[Array.toList_setIfInBounds];refine(NK k dU.toList j w).trans ?_;rw[uO];exact b.append_right [k]) ∅;refine#v[A,g,?_,s,?_]
  ·rw[gI];refine Eq.trans ?_ r;congr 1;show(do let j<-sI m dU (ki m) (jq i%(m+1)) (jq i);pure (dU.setIfInBounds j (O k),k+1))=_;rw[e];rfl
  ·rw[cU,show k+(ns.length+1)=k+1+ns.length by lia];exact t
def aai:∀(l:aa (ab Nat)),((bQ l.length).filterMap λj=>l.getD j aj)=l.filterMap id:=by(intro l;have e:l=(bQ l.length).map λj=>l.getD j aj:=by refine sH (by simp) λj a _=>?_;rw[vi,List.getElem_range];simp[dt,a]);(conv=>rhs;rw[e]);rw[List.filterMap_map];rfl
def aaj{m sL sM:Nat}{gz px:Bool}{ns:ae Int}(q:m=31\/m=127)(r:∀n∈ns.toList,∃i:Nat,i<60/\n=i)(s:ns.size<=m):∃t o,vj m sL sM gz px ns=O (t,o)/\o.toList.Perm (bQ ns.size)/\t.place.size=ns.size/\t.dummies= #[]/\t.mask=m:=by(obtain⟨dU,k,d,g,a⟩:=NM q ns.toList (Array.replicate (m+1) aj) 0 r (by simp) (by simp) (by simpa using s);have e:FF m ns=O dU:=by unfold FF;rw[<-Array.foldl_toList,d];rfl);(rw[oU,e9]at a;have b:(((bQ (m+1)).filterMap λj=>(dU.getD j aj).map (j,·)).map (·.2)).Perm (bQ ns.size):=by(rw[List.map_filterMap];have h:((bQ (m+1)).filterMap λj=>((dU.getD j aj).map (j,·)).map (·.2))=dU.toList.filterMap id:=by(have:=aai dU.toList;rw[e9,g]at this;rw[<-this];refine dR (λf=>List.filterMap f (bQ (m+1))) (funext λj=>?_);rw[Option.map_map];have l:dU.getD j aj=dU.toList.getD j aj:=by by_cases c:j<dU.size<;>simp[fR,dt,c]);rw[l];cases dU.toList.getD j aj<;>rfl);rw[h];exact a);(have p:vj m sL sM gz px ns=(O dU).bind λdU=>O (({mask:=m,place:=(((bQ (m+1)).filterMap λj=>(dU.getD j aj).map (j,·)).map (·.1)).toArray,dummies:= #[],finger:=sL,led:=gz,moves:=sM,plain:=px}:hL),(((bQ (m+1)).filterMap λj=>(dU.getD j aj).map (j,·)).map (·.2)).toArray):=by unfold vj;rw[e];rfl);refine#v[_,_,p,b,?_,I,I];have:=b.length_eq;rw[aq,et]at this;simpa using this
structure SI(led:Bool)(es:ae (Int×D))(t:hL):Prop where
 pl:t.place.size=es.size
 ri:iL t.place
 du:t.dummies= #[]
 pn:t.plain=ai
 ld:t.led=led
 ms:(t.mask=7/\es.size<5)\/(t.mask=31/\es.size<19)\/t.mask=127
 el:∀e∈es.toList,∃(n:Nat)(tk:gf),n<60/\e=((n:Int),.int n tk)
 nd:(es.toList.map λe=>e.1.toNat).Nodup
def SI.le{gz:Bool}{a:ae (Int×D)}{t:hL}(S:SI gz a t):a.size<=60:=by(have:=Ea 60 (a.toList.map λe=>e.1.toNat) S.nd λj c=>by obtain⟨e,b,rfl⟩:=bM.mp c;obtain⟨n,tk,d,rfl⟩:=S.el e b;simpa using d);simpa using this
def SI.fits{gz:Bool}{a:ae (Int×D)}{t:hL}(S:SI gz a t):t.fits a.size=ai:=by have h:=S.le;have b:=S.ms;simp only[FI,vm,S.pl,S.du,qr,nA,fh];simp only[dB,e_];lia
def SI.fresh{gz:Bool}:SI gz #[] (.fresh 0 0 gz)where
 pl:=rfl
 ri:=λa _ _ h=>absurd h (kM _)
 du:=rfl
 pn:=rfl
 ld:=rfl
 ms:=.inl #v[I,by decide]
 el:=λe c=>by simp at c
 nd:=by simp
def SI.add{gz:Bool}{f:ae (Int×D)}{t:hL}(S:SI gz f t){n:Nat}{tk:gf}(P:n<60)(k:∀e∈f.toList,e.1≠(n:Int)):∃c d,layNew t f n (.int n tk)=(c,d,ax,ax)/\d.plain=ai/\d.fits c.size=ai/\c.toList.Perm (f.push ((n:Int),.int n tk)).toList/\(d.tooFull=ax->SI gz c d)/\(d.tooFull=ai->∃C w,relayAll d c (vn c.size)=(C,w,ax)/\C.toList.Perm (f.push ((n:Int),.int n tk)).toList/\SI gz C w):=by(have av:=S.le;have ak:=S.ms;obtain⟨j,X,Y⟩:=aae S.du (by unfold Eb;lia) (by rw[S.pl];lia) P;have W:=Z_ S.ri Y;have q:=Ql f (t.put j).2 ((n:Int),ir n tk);have u:(Bc f (t.put j).2 ((n:Int),ir n tk)).size=f.size+1:=by rw[<-e9,q.length_eq];simp);(have v:(t.put j).1.place.size=f.size+1:=by show(Bc t.place (fX t.place j) j).size=_;rw[<-e9,(Ql t.place (fX t.place j) j).length_eq];simp[S.pl]);(have r:(t.put j).1.dummies= #[]:=by show(if Bb t.dummies j=ai then SetTable.eraseAt t.dummies (fX t.dummies j)else t.dummies)= #[];rw[S.du];simp[Bb]);(have s:(t.put j).1.mask=t.mask:=rfl;have z:(t.put j).1.plain=ai:=S.pn;have E:(t.put j).1.led=gz:=S.ld;have N:∀l:aa (Int×D),l.Perm (f.push ((n:Int),.int n tk)).toList->(∀e∈l,∃(n:Nat)(tk:gf),n<60/\e=((n:Int),.int n tk))/\(l.map λe=>e.1.toNat).Nodup:=λl K=>by rw[A6]at K;refine#v[λe g=>?_,?_];(rcases dh.mp (K.mem_iff.mp g)with g|g;(exact S.el e g);rw[c_]at g;exact#v[n,tk,P,g]);rw[(K.map _).nodup_iff,dY];refine hB.mpr #v[S.nd,by simp,λa ag _ L=>?_];obtain⟨e,g,rfl⟩:=bM.mp ag;simp at L;subst L;obtain⟨m,ar,ak,rfl⟩:=S.el e g;have:=k _ g;simp only[ne_eq]at this⊢;lia);(have y:(t.put j).1.fits (f.size+1)=ai:=by simp only[FI,vm,v,r,s,qr,nA,fh,dB,e_];lia);generalize ad:Bc f (t.put j).2 ((n:Int),ir n tk)=c at q u;generalize af:(t.put j).1=d at W v r s z E y;obtain⟨V,al⟩:=N c.toList q;refine#v[c,d,?_,z,by rw[u];exact y,q,λk=>?_,λk=>?_];(unfold layNew;rw[X];dsimp only;rw[ad,af,u];unfold SetTable.orStandIn;rw[aI y,y];rfl);(have p:¬(d.fill*5>=d.mask*3):=(by unfold Qm at k;exact FC k);unfold vm at p;rw[v,r,s]at p;simp only[dB,e_]at p;exact#v[v.trans u.symm,W,r,z,E,by rw[s,u];lia,V,al]);(have p:d.fill*5>=d.mask*3:=(by unfold Qm at k;exact jd k);unfold vm at p;rw[v,r,s]at p;simp only[dB,e_]at p;have as:(c.size=5/\Be (vn c.size)-1=31)\/(c.size=19/\Be (vn c.size)-1=127):=by(have:c.size=5\/c.size=19:= ∅;rcases this with h|h);(exact .inl #v[h,by rw[h];decide]);exact .inr #v[h,by rw[h];decide]);(obtain⟨w,o,R,H,J,T,U⟩:=aaj (m:=Be (vn c.size)-1) (sL:=d.finger) (sM:=d.movedTo (Be (vn c.size)-1)) (gz:=d.led) (px:=d.plain) (ns:=c.map (·.1)) ∅ (λx Q=>by rw[Array.toList_map]at Q;obtain⟨e,g,rfl⟩:=bM.mp Q;obtain⟨i,ar,ah,rfl⟩:=V e g;exact#v[i,ah,I]) (by rw[Qn];lia);obtain⟨ao,ap,aq⟩:=Z7 R;rw[Qn]at H J;have A:(o.filterMap (c[·]?)).toList.Perm c.toList:=by rw[Array.toList_filterMap];exact(H.filterMap _).trans (by rw[filterMap_getElem?_range]));(have B:(o.filterMap (c[·]?)).size=c.size:=(by rw[<-e9,A.length_eq,e9]);have Z:w.fits c.size=ai:=by simp only[FI,vm,J,T,U,qr,nA,fh,dB,e_];lia);obtain⟨am,an⟩:=N _ (A.trans q);refine#v[o.filterMap (c[·]?),w,?_,A.trans q,#v[J.trans B.symm,ao,T,aq.trans z,ap.trans E,by rw[U,B];lia,am,an]];have ac:coversAll o c.size=ai:=List.isPerm_iff.mpr H;unfold relayAll SetTable.relaid;rw[R];dsimp only;rw[B,Z,ac];rfl
def NN{n:Nat}(h:n<60):hashInt (n:Int)=n:=by(have:∀m:Fin 60,hashInt ((m.val:Nat):Int)=(m.val:Nat):=by decide+kernel);exact this #v[n,h]
def Lies(w:bR)(h:aZ)(a:U)(S:Nat->Prop):Prop:=∃o b c t,h.get? a=O o/\o.ExactSet/\o.data=.set b c t/\SI (!w.params.followText "set-order") b t/\∀n:Nat,S n↔∃e∈b.toList,e.1=(n:Int)
def Lies.mono{w:bR}{h h':aZ}{a:U}{S:Nat->Prop}(l:Lies w h a S)(k:∀o,h.get? a=O o->h'.get? a=O o):Lies w h' a S:=by obtain⟨o,c,b,t,d,r⟩:=l;exact#v[o,c,b,t,k o d,r]
def SI.elems{d:cx}{w:bR}{gz:Bool}{a:ae (Int×D)}{t:hL}(S:SI gz a t):ElemsOf (intKind d w) a.toList:=λe b=>by obtain⟨n,tk,c,rfl⟩:=S.el e b;exact#v[#v[(n:Int),vo _ _ _ _,(NN c).symm],I]
section
variable{bW:cx}{w:bR}{A:cQ}{E:D->au->Prop}{s:au}
def NO{h:aZ}{a:U}{o:a9}{e:ae (Int×D)}{c:Nat}{t:hL}(f:h.get? a=O o)(d:o.data=.set e c t)(b:ae (Int×D))(t':hL):(h.update a (FJ b t')).get? a=O {o with data:=.set b (c+1) t'}:=by have:=mf (FJ b t') f (by rw[putSet_of b t' d];rfl);rw[putSet_of b t' d]at this;exact this
def aak{a:U}{S:Nat->Prop}{n:Nat}{tk:gf}{z:Bool->au->Prop}(P:n<60)(af:Lies w s.heap a S)(h:∀X h',l9 a s.heap h'->Lies w h' a (λm=>S m\/m=n)->z X {s with heap:=h'}):aG (aU bW w) A (setAddHashed a (.int n tk) ((intKind bW w).hash (n:Int))) z E s:=by(obtain⟨o,c,r,t,k,x,i,f,L⟩:=af;have ay:=f.le;have ag:c.size<scanBound:=by unfold scanBound;lia);have H:=f.fits;have C:ElemsOf (intKind bW w) c.toList:=f.elems;unfold setAddHashed setAddHashedIn;refine hG (av (Bf k i H ?_));dsimp only;rw[byScan_of (knd:=intKind bW w) I ag C];simp only[↓reduceIte];unfold setAddByScan;refine av (av (Fg ?_));refine av (wpAny_setScan_of (knd:=intKind bW w) (k:=(n:Int)) (vo _ _ _ _) k i H C ?_);cases R:List.findIdx? (λe=>(intKind bW w).is (n:Int) e.2) c.toList with|some j=>(dsimp only;obtain⟨K,Q,_⟩:=P9.mp R;have ak:∃e∈c.toList,e.1=(n:Int):=by refine⟨c.toList[j],kJ K,?_⟩;obtain⟨m,aw,al,e⟩:=f.el _ (kJ K);rw[e]at Q⊢;exact((intKind bW w).inj _ _ _ Q (vo _ _ _ _)).symm);(refine aV (aV ?_);have e:s={s with heap:=s.heap}:=by cases s;rfl);rw[e];refine h _ s.heap (Fj a s.heap) #v[o,c,r,t,k,x,i,f,λm=>?_];show(S m\/m=n)↔_;rw[L m];exact#v[λd=>d.elim id λe=>e▸ak,.inl]|none=>(dsimp only;have am:∀e∈c.toList,e.1≠(n:Int):=λe b d=>by(have B:=List.findIdx?_eq_none_iff.mp R e b;obtain⟨m,aw,al,rfl⟩:=f.el e b;have:m=n:=by have as:(m:Int)=n:=d;lia);subst this;rw[vo]at B;cases B);(obtain⟨g,q,ac,ar,_,T,Y,Z⟩:=f.add (tk:=tk) P am;have ah:(intKind bW w).hash (n:Int)=n:=NN P;have N:∀l:aa (Int×D),l.Perm (c.push ((n:Int),.int n tk)).toList->∀m:Nat,(S m\/m=n)↔∃e∈l,e.1=(m:Int):=λl p m=>by rw[A6]at p;rw[L m];constructor;(rintro(⟨e,b,d⟩|rfl);(exact#v[e,p.mem_iff.mpr (j_ _ b),d]);exact#v[_,p.mem_iff.mpr (gJ _ (c_.mpr I)),I]);rintro⟨e,b,d⟩;rcases dh.mp (p.mem_iff.mp b)with b|b;(exact .inl #v[e,b,d]);rw[c_]at b;subst b;exact .inr (by have as:(n:Int)=m:=d;lia));(rw[ah,ac];dsimp only;refine av (aV ?_);rw[ar,aI I];refine av ?_;rw[hashByValue_scannable 8 I];refine aV ?_;simp only[plainKind,↓reduceIte,E7,nA];have ao:g.size<=bu:=by have:g.size=c.size+1:=(by rw[<-e9,T.length_eq];simp);rw[this,bZ];lia);refine av (Qo k i ?_ ao);have v:=NO k i g q;have V:=pb s.heap a (FJ g q);cases J:q.tooFull with|false=>rw[aD (by simp)];exact aV (aV (h _ _ V #v[_,g,r+1,q,v,x,I,Y J,N _ T]))|true=>(rw[aI I];obtain⟨u,W,ad,aq,y⟩:=Z J;rw[ad];dsimp only;refine av (aV ?_);have ap:u.size<=bu:=by have:=y.le;rw[bZ];lia);refine av (Qo v I ?_ ap);have an:=NO v I u W;exact aV (aV (h _ _ (V.trans (pb _ a _)) #v[_,u,r+2,W,an,x,I,y,N _ aq]))
end
def Lies.iff{w:bR}{h:aZ}{a:U}{S b:Nat->Prop}(l:Lies w h a S)(e:∀n,S n↔b n):Lies w h a b:=by obtain⟨o,d,c,t,f,g,i,j,k⟩:=l;exact#v[o,d,c,t,f,g,i,j,λn=>(e n).symm.trans (k n)]
def ll(w:bR):a9:={cls:=.type "set",dict:=aj,data:=.set #[] 0 (.fresh 0 0 (!w.params.followText "set-order"))}
def aal{w:bR}{h:aZ}{a:U}(e:h.get? a=O (ll w)):Lies w h a (λ_=>False):=#v[_,_,_,_,e,#v[I,I,I],I,.fresh,λn=>by simp]
section
variable{bW:cx}{w:bR}{A:cQ}{E:D->au->Prop}{s:au}
def aam{R:uV->au->Prop}{f:U}{q p:aa U}{n:Nat}{P:Nat->D->Prop}{St:Nat->aZ->Prop}(W:Walks bW w A.in1 f q p n P St)(S:U)(u:S∉q)(d:Nat->Nat)(N:∀i v,P i v->d i<60/\∃t,v=.int (d i) t):∀(k i:Nat)(s:au),n-i=k->i<=n->St i s.heap->Lies w s.heap S (λm=>∃j,j<i/\d j=m)->(∀h' tk,(∀a o,a∉S::p->s.heap.get? a=O o->h'.get? a=O o)->Lies w h' S (λm=>∃j,j<n/\d j=m)->R (.ok (.ret .none)) {s with heap:=h',toks:=tk})->kP (aU bW w) A (.builtin "set.update.loop" #v[[.ref S,.ref f],[]]) R s:=by have x:S∉p:=λh=>u (W.sub _ h);intro k;induction k with|zero=>(intro i s g H st L l;have e:i=n:=by lia);subst e;refine ml Qp ?_;rw[nW FK _];show aG _ A.in1 (fP (.ref f)>>=_) _ _ s;refine av (W.done s _ _ st λh' tk g=>?_);refine aV (l h' tk (λa o c e=>g a o (λb=>c (cw _ b)) e) (L.mono λo e=>g S o x e))|succ k Q=>intro i s g H st L l;refine ml Qp ?_;rw[nW FK _];show aG _ A.in1 (fP (.ref f)>>=_) _ _ s;refine av (W.item i s _ _ ∅ st λv r tk E T y=>?_);obtain⟨K,t,rfl⟩:=N i v E;show aG _ A.in1 (l_ [ir (d i) t] (setAdd S (.int (d i) t))>>=_) _ _ _;refine av (hG ?_);unfold setAdd;refine hG (av ((intKind bW w).pyHash (k:=(d i:Int)) (vo _ _ _ _) ?_));refine aak (s:={s with heap:=r,toks:=tk+1}) K (L.mono λo e=>y S o x e) λa _ z L2=>?_;refine aV #v[qN FK _,Q (i+1) _ ∅ ∅ (W.frame _ r _ T λa c o e=>?_) (L2.iff λm=>?_) λC V J B=>?_];(rw[z.2 a λb:a=S=>u (b▸c)];exact e);(constructor;(rintro(⟨j,I,e⟩|e);(exact#v[j,by lia,e]);exact#v[i,by lia,e.symm]);rintro⟨j,I,e⟩;by_cases b:j=i;(exact .inr (b▸e.symm));exact .inl #v[j,by lia,e]);refine l C V (λa o c e=>J a o c ?_) B;rw[z.2 a λb:a=S=>c (b▸cc)];exact y a o (λb=>c (cw _ b)) e
def aan(a:D){Q₁:D->au->Prop}(h:Q₁ (.ref s.heap.objs.size) {s with heap:=s.heap.push (ll w)}):kP (aU bW w) A (.call (.builtin "set.__new__") #v[[.type "set",a],[]]) (wants Q₁ E) s:=by refine Qq ?_;show aG _ A.in1 (do P6 "set.__new__" #v[[.type "set",a],[]];qC (.builtin "set.__new__" #v[[.type "set",a],[]])) _ _ s;refine av (E5 (F.newCall_set_1 a) (aV #v[qN Qr _,ml F.entry_set_new ?_]));rw[nW Qr _];unfold Builtin.«set.__new__» abe;have b:=sub_set_self;obtain⟨_,g,d,tk,os⟩:=s;dsimp only;wp_walk;refine sx (aV ?_);dsimp only;simp only[newObj];exact av (wpAny_alloc (aV (aV h)))
def aao{l:U}{b:ae D}{ns:aa Nat}{p:D->au->Prop}(W:A.handled=aj)(ad:s.heap.IsList l b)(Y:∀i v,b[i]? =O v->ns.getD i 0<60/\∃t,v=.int (ns.getD i 0:Nat) t)(h:∀(h':aZ)(tk:Nat),Lies w h' s.heap.objs.size (λm=>∃j,j<b.size/\ns.getD j 0=m)->(∀a o,a<s.heap.objs.size->s.heap.get? a=O o->h'.get? a=O o)->p (.ref s.heap.objs.size) {s with heap:=h',toks:=tk}):aG (aU bW w) A (call (.type "set") [.ref l]) p E s:=by(obtain⟨c,tl,_⟩:=pz.mro;have aw:=pz.made;have aC:=pz.sub;refine Af (Qq ?_);show aG _ _ (callAny (.type "set") _) _ _ _;refine aV #v[Code.quiet_builtin _ (by decide+kernel),ml F.entry_type_call ?_];rw[Around.under_plain (weight_type_call_type "set" [.ref l] []) I];have ao:=pz.notType;have ap:=pz.canCreate;have ar:=F.typeCall_set_1 (.ref l);repeat (any_goals (first|assumption|wp_step)));refine r_ (aan (.ref l) (E:=E) (Q₁:=λK N=>K=.ref s.heap.objs.size/\N={s with heap:=s.heap.push (ll w)}) #v[I,I]) λr N k=>?_;cases r with|error e=>exact k|ok Q=>cases Q with|ret K=>((obtain⟨rfl,rfl⟩:=k;have u:(s.heap.push (ll w)).get? s.heap.objs.size=O (ll w):=eo _ rfl;have V:Shared.TypeIs {s with heap:=s.heap.push (ll w)} (.ref s.heap.objs.size) "set":=⟨_,u,I⟩;have as:=pz.init.lookup;have aq:=pz.init.bind (.ref s.heap.objs.size);repeat (any_goals (first|assumption|wp_step)));refine r_ (Pw (R:=wants (λr P=>r=.none/\∃h' tk,P={s with heap:=h',toks:=tk}/\Lies w h' s.heap.objs.size (λm=>∃j,j<b.size/\ns.getD j 0=m)/\(∀a o,a<s.heap.objs.size->s.heap.get? a=O o->h'.get? a=O o)) E) pz.init.plain F.entry_set_init (check_set_init_1 V ?_)) λam P n=>?_;(·(obtain⟨ak,H,y,J,z⟩:=ad;obtain⟨_,ah,_,al⟩:=ak;simp only at y z;subst y;subst z;have ag:(s.heap.push (ll w)).get? l=O {cls:=.type "list",dict:=ah,data:=.seq b J,slots:=al}:=dd _ H;have aA:=F.sub_list_set;have az:=F.sub_list_frozenset;have ay:(iP "list"==iP "dict")=ax:=by decide);(have B:(s.heap.push (ll w)).IsList l b:=⟨_,ag,I,J,I⟩;have g:(s.heap.push (ll w)).get? s.heap.objs.size=O (ll w):=u;generalize q:s.heap.push (ll w)=G at*;have f:G.objs.size=s.heap.objs.size+1:=by rw[<-q,gw]);(unfold Builtin.«set.__init__» noKeywords abf;generalize S:nK=PI;wp_walk;subst S;refine r8 B ?_;refine av (wpAny_runValue ?_);have C:l<s.heap.objs.size:=cJ H;have X:A.in1.in1.in1.handled=aj:=by simp[W]);(have af:l≠G.objs.size:=(by rw[f];exact er (si C));have T:s.heap.objs.size∉ [G.objs.size,l]:=by rw[f];simp only[bL,c_,ff,gv,hI];exact⟨by lia,ma C⟩);refine aam (OZ X _ l af b) s.heap.objs.size T (λi=>ns.getD i 0) Y (b.size-0) 0 _ ∅ (dc _) ⟨⟨_,eo _ rfl,I,I⟩,(B.push _)⟩ ((aal (dd _ g)).iff λm=>by simp) ?hR;case hR=>(intro h' an Z L;show aG _ _ _ _ _ _;refine aV ?_;show aG _ _ (ret kN) _ _ _;refine aV ⟨I,h',an,I,L,λa o x e=>?_⟩;refine Z a o (λd=>?_) (dd _ (by rw[<-q];exact dd _ e));rcases bL.mp d with d|d);(exact absurd d (er x));rw[c_,f]at d;exact absurd d (er (si x)));·cases am with|error e=>exact n|ok R=>cases R with|ret r=>((obtain⟨rfl,h',tk,rfl,g,ac⟩:=n;repeat (any_goals (first|assumption|wp_step)));exact h _ _ g ac)|_=>exact n.elim)|_=>exact k.elim
end
open PySem.W
def NP{c:Type}(next:Nat->Nat):∀(n k:Nat)(left:aa c)(a:ae c),left.length=n->(FL next n k left a).toList.Perm (a.toList++left)
 |0,k,left,a,h=>by have:left=[]:=rX.mp h;subst this;simp[FL]
 |n+1,k,left,a,h=>by
  have b:next k%left.length<left.length:=Nat.mod_lt _ ∅
  unfold FL;rw[b_ b];dsimp only;refine(NP next n (k+1) _ _ (by rw[List.length_eraseIdx,aI b];lia)).trans ?_;rw[A6,gq];refine uK _ ?_;have e:=zX (next k%left.length) left;rw[List.drop_eq_getElem_cons b]at e;conv=>rhs;rw[<-e]
  rw[List.eraseIdx_eq_take_drop_succ];rw[N1];exact zO.symm
def aap{a:Type}(next:Nat->Nat)(xs:ae a):(FN next xs).toList.Perm xs.toList:=by(have:=NP next xs.size 0 xs.toList #[] (by simp));simpa[FN]using this
def gX(w:bR)(a:U)(c:Nat)(b:ae (Int×D)):ae (Int×D):=if w.params.followText "set-order"=ai then FN (w.params.setOrder a c) b else b
def NQ(w:bR)(a:U)(c:Nat)(b:ae (Int×D)):(gX w a c b).toList.Perm b.toList:=by unfold gX;split;(exact aap _ _);exact .rfl
def rR:Slot "set_iterator" "__next__" "set_iterator.__next__":=.of (owner:="set_iterator") (n:="__next__") (by rw[A7,A8];kernel_rfl) (by decide+kernel) (by decide+kernel) (by decide+kernel) (by first|exact .inl (by decide+kernel)|exact .inr (by decide+kernel)) (by rw[FO];kernel_rfl)
def NR:Slot "set_iterator" "__iter__" "set_iterator.__iter__":=.of (owner:="set_iterator") (n:="__iter__") (by rw[A7,A8];kernel_rfl) (by decide+kernel) (by decide+kernel) (by decide+kernel) (by first|exact .inl (by decide+kernel)|exact .inr (by decide+kernel)) (by rw[FO];kernel_rfl)
def NS:entryFor table "set_iterator.__next__"=O Builtin.«set_iterator.__next__»:=entryFor_of_tree (by kernel_rfl)
def aaq:entryFor table "set_iterator.__iter__"=O Builtin.«dict_keyiterator.__iter__»:=entryFor_alias (id':="dict_keyiterator.__iter__") (by kernel_rfl) I (by decide+kernel) (by kernel_rfl)
def aar:entryFor table "set.__iter__"=O Builtin.«frozenset.__iter__»:=entryFor_alias (id':="frozenset.__iter__") (by kernel_rfl) I (by decide+kernel) (by kernel_rfl)
def NT:Manifest.owners.lookup (String.ofList "rotareti_tes".toList.reverse)=O Manifest.sig_set_iterator:=by kernel_rfl
def NU(a:D):qL "set_iterator.__next__" #v[[a],[]]:=by unfold qL;rw[Fs (id:="set_iterator.__next__") (n:="__txen__".toList) (o:="rotareti_tes".toList) (by kernel_rfl) NT];kernel_rfl
def aas(a:D):qL "set_iterator.__iter__" #v[[a],[]]:=by unfold qL;rw[Fs (id:="set_iterator.__iter__") (n:="__reti__".toList) (o:="rotareti_tes".toList) (by kernel_rfl) NT];kernel_rfl
def rS(w:bR)(h:aZ)(d a:U)(i n c:Nat)(t:hL):Prop:=∃o b,h.get? d=O o/\o.cls=.type "set_iterator"/\o.data=.fields #[.int (b:Nat) 0,.int (i:Nat) 0,.ref a,.int (n:Nat) 0,.int (c:Nat) 0]/\(w.params.followText "set-order"=ax->fX t.place b=i)
section
variable{bW:cx}{w:bR}{A:cQ}{E:D->au->Prop}{s:au}{a:U}{o:a9}{es:ae (Int×D)}{ep:Nat}{t:hL}
def rS.typeIs{b i n}(x:rS w s.heap b a i n ep t):s.TypeIs (.ref b) "set_iterator":=let #v[o,_,d,c,_]:=x;#v[o,d,c]
def NV{j i:Nat}{k:ab (D×Nat)->au->Prop}(n:s.heap.get? a=O o)(l:o.data=.set es ep t)(d:SI (!w.params.followText "set-order") es t)(q:w.params.followText "set-order"=ax->fX t.place j=i)(h:∀r,(∀e,(gX w a ep es)[i]? =O e->∃p,r=O (e.2,p)/\(w.params.followText "set-order"=ax->fX t.place p=i+1))->((gX w a ep es)[i]? =aj->r=aj)->k r s):aG (aU bW w) A (setNext a j i ep) k E s:=by unfold setNext;refine av (Bf n l d.fits ?_);dsimp only;unfold FP;refine av (av (sx (aV ?_)));show aG _ _ (if(w.params.followText "set-order")=ai then _ else _) _ _ s;cases c:w.params.followText "set-order"with|true=>rw[aI I];rw[aD (by simp)];refine av ?_;unfold setWalk;refine av (Bf n l d.fits ?_);dsimp only;unfold FP;refine av (av (sx (aV ?_)));show aG _ _ (if(w.params.followText "set-order")=ai then _ else _) _ _ s;rw[c,aI I];refine av (sx (aV (aV ?_)));refine h _ (λe b=>#v[j,?_,λf=>by rw[c]at f;cases f]) λb=>?_;(unfold gX at b;rw[c,aI I]at b;exact dR (Qs _) b);unfold gX at b;rw[c,aI I]at b;exact dR (Qs _) b|false=>(rw[aD (by simp)];have x:=d.pn;have m:=d.ld;rw[c]at m;have u:=q c;have v:gX w a ep es=es:=by unfold gX;rw[c];rfl);rw[v]at h;refine Bg (λf=>absurd (show(!t.plain&&decide (es.size>1))=ai from f) (by rw[x];simp)) λ_=>?_;show aG _ _ ((if(!t.led&& !es.isEmpty)=ai then Fz "set:maker-not-led"else pure PUnit.unit)>>=_) _ _ s;rw[m];refine av (aV ?_);rw[u];have y:=d.pl;refine aV (h _ (λe b=>?_) λb=>?_);(have g:i<t.place.size:=(by rw[y];exact(qM.mp b).1);rw[b,jk g];refine#v[_,I,λ_=>?_];have:=Z5 d.ri g;simpa[fR,g]using this);rw[b]
def aat{e:D->au->Prop}(c:s.heap.get? a=O o)(h:o.ExactSet)(d:o.data=.set es ep t)(b:SI (!w.params.followText "set-order") es t)(g:e (.ref s.heap.objs.size) {s with heap:=s.heap.push {cls:=.type "set_iterator",data:=.fields #[.int (0:Nat) 0,.int (0:Nat) 0,.ref a,.int es.size 0,.int ep 0]} }):aG (aU bW w) A (nK (.ref a)) e E s:=by(have f:s.TypeIs (.ref a) "set":=#v[o,c,h.1];refine so f Qt (hJ Qt f aar ?_ (F.args_set_iter_1 _));unfold Builtin.«frozenset.__iter__» abg slotArgs;simp only[FQ,FR,ka,↓reduceIte,bind_assoc,e_,FT];unfold abh abi;refine av (aV ?_);try dsimp only);refine av (aV ?_);refine av (av (FU c d b.fits (aV ?_)));unfold setDrawn;refine av (av (Bf c d b.fits ?_));dsimp only;unfold FP;refine av (av (sx (aV (aV ?_))));refine Bg (λi=>absurd (show(!(w.params.followText "set-order")&&(!t.plain&&decide (es.size>1)))=ai from i) (by rw[b.pn];simp)) λ_=>?_;refine av (aV ?_);refine av (wpAny_setEpoch_of c d b.fits ?_);refine av (o_ (aV #v[_,I,"set_iterator",_,#v[_,eo _ rfl,I],rR.lookup,?_]));simpa[eI]using g
def aaE{b:U}{i:Nat}{e:Int×D}{k:ab D->au->Prop}(g:rS w s.heap b a i es.size ep t)(B:a≠b)(n:s.heap.get? a=O o)(m:o.data=.set es ep t)(j:SI (!w.params.followText "set-order") es t)(y:(gX w a ep es)[i]? =O e)(q:∀h',rS w h' b a (i+1) es.size ep t->l9 b s.heap h'->k (O e.2) {s with heap:=h'}):aG (aU bW w) A (fP (.ref b)) k E s:=by obtain⟨z,_,h,x,c,u⟩:=id g;unfold fP;refine av (mi (mj (name:=lu "__next__") g.typeIs rR (hJ rR g.typeIs NS ?_ (NU _))));unfold Builtin.«set_iterator.__next__» slotArgs;simp only[FQ,FR,ka,↓reduceIte,bind_assoc,e_,FT];refine av (aV ?_);refine av (AJ h c ?_);dsimp only;refine av (FU n m j.fits ?_);rw[aD (by simp)];refine av (NV (i:=i) n m j u λr p _=>?_);obtain⟨d,rfl,v⟩:=p e y;dsimp only;refine av (u1 h c (by simp) ?_);have l:(s.heap.update b (AL (·.setIfInBounds 0 (eI d)))).get? b=O (AL (·.setIfInBounds 0 (eI d)) z):=mf _ h (E3 (sr c _));have f:=sr c (·.setIfInBounds 0 (eI d));refine av (u1 l f (by simp) ?_);refine aV #v[_,I,aV (q _ #v[_,d,mf _ l (E3 (sr f _)),?_,?_,v] ((pb ..).trans (pb ..)))];(rw[E4,E4];exact x);rw[sr f];simp[eI]
def aaF{c:U}{i:Nat}{e:ab D->au->Prop}(p:A.handled=aj)(b:rS w s.heap c a i es.size ep t)(h:s.heap.get? a=O o)(f:o.data=.set es ep t)(d:SI (!w.params.followText "set-order") es t)(n:(gX w a ep es)[i]? =aj)(l:∀h',Pe c s.heap h'->e aj {s with heap:=h'}):aG (aU bW w) A (fP (.ref c)) e E s:=by obtain⟨_,_,j,_,g,m⟩:=id b;unfold fP;refine av (mi (mj (name:=lu "__next__") b.typeIs rR (hJ rR b.typeIs NS ?_ (NU _))));unfold Builtin.«set_iterator.__next__» slotArgs;simp only[FQ,FR,ka,↓reduceIte,bind_assoc,e_,FT];refine av (aV ?_);refine av (AJ j g ?_);dsimp only;refine av (FU h f d.fits ?_);rw[aD (by simp)];refine av (NV (i:=i) h f d m λr _ k=>?_);rw[k n];dsimp only;refine av (u1 j g (by simp) ?_);refine av ?_;simp only[newExc,newTuple];refine av (o_ ?_ (by size_fits));refine av (m:=AM _ _) (E5 (a:=kN) (by first|rfl|(simp only[AM];rfl)) ?_);refine o_ ?_ (by size_fits);simp only[raiseNew];refine av (wpAny_handled ?_);rw[show A.in1.handled=aj from p];refine av (aV (wpAny_throw ?_));refine av (u4 (T:="StopIteration") (b:=ai) #v[_,eo _ rfl,I] AN ?_);exact aV (l _ (((pb ..).extBut.push _).push _))
def aau{d:Bool->au->Prop}(b:s.TypeIs (.ref a) "set")(h:d ax s):aG (aU bW w) A (Fm (.ref a)) d E s:=by unfold Fm;refine av (AF b F.slot_set_len.lookup ?_);generalize e:("set.__len__":String)=f;wp_delta;rw[show splitId f=O ("set","__len__")from by subst e;decide+kernel];subst e;refine av (u4 (T:="set") (b:=ai) b (by rw[FO];kernel_rfl) ?_);refine Bg (λc=>absurd c (by decide)) (λ_=>?_);refine Bg (λ_=>?_) (λc=>absurd (by decide+kernel) c);exact av (Fl b (aV h))
end
end L2
namespace L2
open PySem.W
section
variable{bW:cx}{w:bR}{A:cQ}{E:D->au->Prop}{s:au}{a:U}{o:a9}{es:ae (Int×D)}{ep:Nat}{t:hL}
def aav(m:o.ExactSet)(k:o.data=.set es ep t)(j:SI (!w.params.followText "set-order") es t):KdlSrc bW w "set" a a es.size (λi v=>∃e,(gX w a ep es)[i]? =O e/\e.2=v) (λh=>h.get? a=O o)where
 type:=λ_ b=>#v[o,b,m.1]
 there:=λ_ b=>#v[cJ b,cJ b]
 keep:=λ_ _ b g=>g a (.inl I) o b
 notList:=by decide
 notTuple:=by decide
 hint:=λ_ _ _ _ b l=>aau #v[o,b,m.1] l
 iter:=λA s H b=>by
  have q:a≠s.heap.objs.size:=er (cJ b);have u:(gX w a ep es).size=es.size:=by rw[<-e9,(NQ w a ep es).length_eq,e9]
  refine#v[_,λi h=>rS w h s.heap.objs.size a i es.size ep t/\h.get? a=O o,λ_ _ l=>aat b m k j l,?_,#v[_,0,eo _ rfl,I,I,λ_=>Z6],dd _ b];exact{
   sub:=λf c=>by simp at c;simp[c]
   frame:=λ_ _ _ st g=>#v[let #v[y,K,e,r]:=st.1;#v[y,K,g _ (by simp) y e,r],g a (by simp) o st.2]
   item:=λi s' B E J st d=>by have p:i<(gX w a ep es).size:=(by rw[u];exact J);exact aaE st.1 q st.2 k j (jk p) λh' L z=>d _ h' s'.toks #v[_,jk p,I] #v[L,(z.2 a q).trans st.2] λf x c e=>(z.2 f (λn=>c (by simp[n]))).trans e
   done:=λs' B E st d=>aaF H st.1 st.2 k j (Pf (by rw[u];exact bp _)) λh' C=>d h' s'.toks λf x c e=>C f x (λn=>c (by simp[n])) e
   self:=λ_ s' _ _ st d=>by refine so st.1.typeIs NR (hJ NR st.1.typeIs aaq ?_ (aas _));show aG _ _ (ret (.ref s.heap.objs.size)) _ _ s';exact aV #v[_,I,"set_iterator",_,st.1.typeIs,rR.lookup,d]}
def ints_of:∀(l:aa (Int×D)),(∀e∈l,∃(n:Nat)(tk:gf),n<60/\e=((n:Int),.int n tk))->mh (l.map (·.2)) (l.map (·.1))
 | [],_=>.nil
 |e::l,h=>by obtain⟨n,tk,_,rfl⟩:=h e (cc ..);exact .cons _ _ (ints_of l λx a=>h x (cw _ a))
def aaw{S:Nat->Prop}{B:D->au->Prop}(ac:A.handled=aj)(L:Lies w s.heap a S)(V:∀(h':aZ)(tk:Nat)(p:U)(z:aa Nat)(d:ae D)(e:Nat),mh d.toList (z.map λ(n:Nat)=>(n:Int))->z.Pairwise (·<·)->(∀n,n∈z↔S n)->(∀u o,s.heap.get? u=O o->h'.get? u=O o)->s.heap.objs.size<=p->h'.get? p=O (pq "list" d e)->B (.ref p) {s with heap:=h',toks:=tk}):aG (aU bW w) A (call (.builtin "sorted") [.ref a]) B E s:=by(obtain⟨o,es,ep,t,af,f,Z,k,y⟩:=L;have pm:=NQ w a ep es;have as:=k.le;have al:(gX w a ep es).size=es.size:=by rw[<-e9,pm.length_eq,e9]);(have H:∀e∈(gX w a ep es).toList,∃(n:Nat)(tk:gf),n<60/\e=((n:Int),.int n tk):=λe c=>k.el e (pm.mem_iff.mp c);have ak:∀vs:aa D,vs.length=es.size->(∀(j:Nat)(v:D),vs[j]? =O v->∃e:Int×D,(gX w a ep es)[j]? =O e/\e.2=v)->mh vs ((gX w a ep es).toList.map (·.1)):=λvs q r=>by have e:vs=(gX w a ep es).toList.map (·.2):=(by refine sH (by rw[q,aq,e9,al]) λj i g=>?_;obtain⟨e,c,P⟩:=r j vs[j] (b_ i);rw[vi,<-P];obtain⟨l,Q⟩:=qM.mp c;rw[Qg,Q]);rw[e];exact ints_of _ H);refine Nw (C:=λvs d=>∃b:aa Int,mh d.toList b/\b.Perm ((gX w a ep es).toList.map (·.1))/\b.Pairwise (·<=·)) (aav f Z k) ac af (by rw[bZ];lia) (λ_ u vs _ _ R K q r ag W=>?_) λh' tk p vs d e T q r K ah Y=>?_;(exact list_sort_tree ag (ak vs q r) ∅ λd b i g l=>W d #v[b,i,g,l]);(obtain⟨b,i,g,l⟩:=T;have J:∀x∈b,∃n:Nat,x=n/\S n:=λx f=>by obtain⟨e,c,rfl⟩:=bM.mp (g.mem_iff.mp f);obtain⟨n,tk,_,rfl⟩:=H e c;exact#v[n,I,(y n).mpr #v[_,pm.mem_iff.mp c,I]]);(have N:(b.map nH).map (λ(n:Nat)=>(n:Int))=b:=by(rw[ck];conv=>rhs;rw[<-Ex b]);refine l7 λx f=>?_;obtain⟨n,rfl,_⟩:=J x f;rfl);have am:(b.map nH).Nodup:=(by have an:(b.map nH).Perm (es.toList.map λe=>e.1.toNat):=(by have h:=g.map nH;rw[ck]at h;exact h.trans (pm.map _));exact an.nodup_iff.mpr k.nd);refine V h' tk p (b.map nH) d e (by rw[N];exact i) ?_ (λn=>?_) K ah Y;(have ao:(b.map nH).Pairwise (·<=·):=ik.mpr (l.imp λ{x ar} _=>by lia);have ap:=ao.and am;exact ap.imp λ{x ar} h=>by lia);rw[y n,bM];constructor;(rintro⟨x,f,rfl⟩;obtain⟨m,rfl,X⟩:=J x f;exact(y m).mp X);rintro⟨e,c,ad⟩;exact#v[(n:Int),g.mem_iff.mpr (bM.mpr #v[e,pm.mem_iff.mpr c,ad]),I]
end
def aax:zM:=by(intro X e _ p ay _ C w U al V am R as B;intro af s aI H _ q h;refine kQ (kZ q U al boot_sorted ?_);refine OI ?_ (by rw[B];rfl) I;rw[B];show aG _ _ (spliced ((ax,bU (.Call (.Name "set" ay) [e] [] C) X.env)::[])) _ _ s;refine nQ ?_;refine kQ (kZ q V am boot_set ?_);refine nL (S (R C af s aI H _ q h) λus m⟨vs,H1,d,aD,a,ns,P,ah,_,t,aC⟩=>?_) (by rw[as];rfl) I;subst P;rw[J.pQ aD];obtain⟨aH,E,aA,_⟩:=d.list ah;have k:ns.length=aH.length:=by rw[<-E.length,aq]);refine aao (ns:=ns) (d.ok.hd w) aA.isList (λi v f=>?_) λh' tk L ac=>?_;(have b:i<ns.length:=(by have:=(qM.mp f).1;rw[k];simpa using this);have K:ns.getD i 0=ns[i]:=(by simp[dt,b]);rw[K];refine#v[t _ (kJ b),?_];obtain⟨u,av,aE⟩:=E.get (i:=i) (x:=aB (ns[i]:Nat)) (by rw[bN,b_ b];rfl);rw[PL,av]at f;obtain⟨tk,N⟩:=aE;exact#v[tk,(aM f).symm.trans N]);(refine qG ?_;have ak:m.heap.objs.size<h'.objs.size:=by obtain⟨o,_,_,_,ap,_⟩:=L;exact cJ ap);(have ad:∀c o,m.heap.get? c=O o->h'.get? c=O o:=λc o e=>ac c o (cJ e) e;refine aaw (s:={m with heap:=h',toks:=tk}) (d.ok.hd w) L λ_ aF p l aw e b A z ag ar T=>?_;have r:m.heap.objs.size<=p:=dQ (qm ak) ar;have f:=Ib b;rw[ck]at f;have an:l.length<=bu:=by(have:=Ea 60 l (A.imp λ{x _} h=>er h) λj W=>by(obtain⟨i,b,e⟩:=(z j).mp W;have g:i<ns.length:=by rw[k];simpa using b);rw[<-e,show ns.getD i 0=ns[i]by simp[dt,g]];exact t _ (kJ g));rw[bZ];lia);refine#v[.ref p,Y H1 p (.lst (l.map λ(n:Nat)=>aB (n:Int))),d.laid (t':=aF) (λc o e=>ag c o (ad c o e)) r #v[by rw[aq];exact an,aw.toList,e,f,by rw[T]],I,aC _ l p (Z.new (d.bA.fresh r)) (d.bA.fresh r) A (λn=>?_) az];rw[z n];constructor;((rintro⟨i,b,e⟩;have g:i<ns.length:=by rw[k];simpa using b);rw[<-e,show ns.getD i 0=ns[i]by simp[dt,g]];exact kJ g);intro ao;obtain⟨i,b,e⟩:=fx ao;exact#v[i,by rw[dB,<-k];exact b,by simp[dt,b,e]]
end L2
section
open PySem.W
def Br.na{K:Frag}{C:U}{f:M}(h:u7 K (.ref C) f=O aj):L2.dI K C f:=h
def Br.HH{P:cx}{w:bR}{K:Frag}{mg:M->ab D}{aJ:aZ}{A:Br.bF}(T:Br.Txt K mg A)(a:Br.zG K mg)(b:Br.rO K mg)(TG:Br.D7 w K mg A):L2.bf P w K mg aJ L2.bq 40 A.answers.f A.answers.fd ["calls"] (Br.D8 K):=(Br.ZY L2.aax T a b TG).mono (by decide)
open Lean in
local macro_rules|`(command|#where)=>do let f:=λs=>Name.mkStr `PySem.Challenge.cw_bridgeinuse_s01_answers_holds s;let a:=((Array.range 956).filter (Nat.testBit 0xa8878d4a953a72952870e50a151e1d2a54a953854a9d38507a54a9428010fd3870e9c0210fd3870e1d3870a1ce81140818294385421d0230080fc2874a73a54a1ce8d0a00200418007080110dd0221fa0443729c022002400c2012830610380407e94e70a50e143a4021801120300811a8d281e85408880)).map λi=>f s!"o_{i}";let b:=#[9,10,50,59,186,269,272,305,328,351,499,578,581,582,583,667,719,761,847,934,941,944,946,955].flatMap λi=>#[f s!"tree_{i}",f s!"sts_{i+1}"];let c:=(a++b++#[f "heap_1",f "heap_8",f "heap_956",f "view_1",`PySem.Challenge.pw_bridgeinuse_s01_answers]).map λn=>mkIdent (.mkSimple s!"tw{n.hash}");`(structure $(mkIdent `PySem.W.Fast):ident:Prop where($c*:True))
#where
set_option maxHeartbeats 0 in
theorem PySem.Challenge.cw_bridgeinuse_s01_answers_holds : PySem.Challenge.rw_bridgeinuse_s01_answers.Holds := by
 w_on;k_headS;(case hw=>exact#v[[.list [.int 6]],by decide+kernel,by decide+kernel])
 k_fillS
 refine L2.Uw (r:=Qu) (k:=40) (CX:=L2.bq) (ps:=["calls"]) (sp:=Br.D8) (by decide+kernel) I I #v[I,by decide,by decide] (λw h Y=>PySem.W.kIn_of Y) ?F ?S (λ_ _ _ _ z=>z);case F=>
  intro w mg fa h Y b G aay
  refine' Br.UR #v[Br.oh b G ?_ ?_ ?_ ?_ ?_ ?_ ?_ ?_ ?_ ?_ ?_,Br.na ?_,Br.na ?_,Br.na ?_,Br.na ?_,Br.na ?_,Br.na ?_,Br.cG ?_ ?_ ?_ ?_ ?_,Br.cG ?_ ?_ ?_ ?_ ?_] ?_
  any_goals k_is
  intro wL wM
  refine' Br.UZ #v[Br.oh b G ?_ ?_ ?_ ?_ ?_ ?_ ?_ ?_ ?_ ?_ ?_,Br.na ?_,Br.na ?_,Br.na ?_,Br.na ?_,Br.na ?_,Br.na ?_,Br.na ?_,Br.na ?_,Br.na ?_,Br.na ?_,Br.cG ?_ ?_ ?_ ?_ ?_,Br.cG ?_ ?_ ?_ ?_ ?_,Br.cG ?_ ?_ ?_ ?_ ?_,Br.cG ?_ ?_ ?_ ?_ ?_,Br.cG ?_ ?_ ?_ ?_ ?_,Br.cG ?_ ?_ ?_ ?_ ?_,Br.cG ?_ ?_ ?_ ?_ ?_,Br.cG ?_ ?_ ?_ ?_ ?_,Br.cG ?_ ?_ ?_ ?_ ?_,Br.cG ?_ ?_ ?_ ?_ ?_,Br.cG ?_ ?_ ?_ ?_ ?_,Br.cG ?_ ?_ ?_ ?_ ?_,Br.cG ?_ ?_ ?_ ?_ ?_,Br.cG ?_ ?_ ?_ ?_ ?_,Br.cG ?_ ?_ ?_ ?_ ?_,Br.cG ?_ ?_ ?_ ?_ ?_,Br.cG ?_ ?_ ?_ ?_ ?_] ?_
  any_goals k_is
  intro wR xp
  refine' Br.U1 #v[Br.oh b G ?_ ?_ ?_ ?_ ?_ ?_ ?_ ?_ ?_ ?_ ?_,Br.na ?_,Br.cG ?_ ?_ ?_ ?_ ?_,Br.cG ?_ ?_ ?_ ?_ ?_,Br.cG ?_ ?_ ?_ ?_ ?_] ?_
  any_goals k_is
  intro xr xy
  refine' Br.U3 #v[Br.oh b G ?_ ?_ ?_ ?_ ?_ ?_ ?_ ?_ ?_ ?_ ?_,Br.na ?_,Br.na ?_,Br.na ?_,Br.na ?_,Br.na ?_,Br.cG ?_ ?_ ?_ ?_ ?_] ?_
  any_goals k_is
  intro xA xB
  refine' Br.U5 #v[Br.oh b G ?_ ?_ ?_ ?_ ?_ ?_ ?_ ?_ ?_ ?_ ?_,Br.na ?_,Br.na ?_,Br.na ?_,Br.cG ?_ ?_ ?_ ?_ ?_] ?_
  any_goals k_is
  intro xC xD
  refine' Br.Vd #v[Br.oh b G ?_ ?_ ?_ ?_ ?_ ?_ ?_ ?_ ?_ ?_ ?_,Br.na ?_,Br.na ?_,Br.na ?_,Br.na ?_,Br.cG ?_ ?_ ?_ ?_ ?_,Br.cG ?_ ?_ ?_ ?_ ?_,Br.cG ?_ ?_ ?_ ?_ ?_,Br.cG ?_ ?_ ?_ ?_ ?_,Br.cG ?_ ?_ ?_ ?_ ?_,Br.cG ?_ ?_ ?_ ?_ ?_,Br.cG ?_ ?_ ?_ ?_ ?_,Br.cG ?_ ?_ ?_ ?_ ?_,Br.cG ?_ ?_ ?_ ?_ ?_,Br.cG ?_ ?_ ?_ ?_ ?_,Br.cG ?_ ?_ ?_ ?_ ?_,Br.cG ?_ ?_ ?_ ?_ ?_,Br.cG ?_ ?_ ?_ ?_ ?_,Br.cG ?_ ?_ ?_ ?_ ?_,Br.cG ?_ ?_ ?_ ?_ ?_,Br.cG ?_ ?_ ?_ ?_ ?_,Br.cG ?_ ?_ ?_ ?_ ?_,Br.cG ?_ ?_ ?_ ?_ ?_,Br.cG ?_ ?_ ?_ ?_ ?_,Br.cG ?_ ?_ ?_ ?_ ?_] ?_
  any_goals k_is
  intro xK yq
  refine' Br.Vi #v[Br.oh b G ?_ ?_ ?_ ?_ ?_ ?_ ?_ ?_ ?_ ?_ ?_,Br.na ?_,Br.na ?_,Br.na ?_,Br.na ?_,Br.na ?_,Br.cG ?_ ?_ ?_ ?_ ?_,Br.cG ?_ ?_ ?_ ?_ ?_,Br.cG ?_ ?_ ?_ ?_ ?_,Br.cG ?_ ?_ ?_ ?_ ?_,Br.cG ?_ ?_ ?_ ?_ ?_,Br.cG ?_ ?_ ?_ ?_ ?_,Br.cG ?_ ?_ ?_ ?_ ?_,Br.cG ?_ ?_ ?_ ?_ ?_,Br.cG ?_ ?_ ?_ ?_ ?_,Br.cG ?_ ?_ ?_ ?_ ?_] ?_
  any_goals k_is
  intro yy yP
  refine' Br.Vm #v[Br.oh b G ?_ ?_ ?_ ?_ ?_ ?_ ?_ ?_ ?_ ?_ ?_,Br.na ?_,Br.na ?_,Br.na ?_,Br.cG ?_ ?_ ?_ ?_ ?_,Br.cG ?_ ?_ ?_ ?_ ?_,Br.cG ?_ ?_ ?_ ?_ ?_,Br.cG ?_ ?_ ?_ ?_ ?_,Br.cG ?_ ?_ ?_ ?_ ?_] ?_
  any_goals k_is
  intro yT y2
  refine' Br.ez (Br.ey b G ?_ ?_ ?_ ?_:Br.Kp _ mg _ _) ?_
  any_goals k_is
  intro af a2
  refine' Br.ez (Br.ey b G ?_ ?_ ?_ ?_:Br.Kr _ mg _ _) ?_
  any_goals k_is
  intro ad a1
  refine' Br.ez (Br.ey b G ?_ ?_ ?_ ?_:Br.Kt _ mg _ _) ?_
  any_goals k_is
  intro Z aY
  refine' Br.ez (Br.ey b G ?_ ?_ ?_ ?_:Br.Kv _ mg _ _) ?_
  any_goals k_is
  intro ag a3
  refine' Br.ez (Br.ey b G ?_ ?_ ?_ ?_:Br.Kx _ mg _ _) ?_
  any_goals k_is
  intro X aX
  refine' Br.ez (Br.ey b G ?_ ?_ ?_ ?_:Br.Kz _ mg _ _) ?_
  any_goals k_is
  intro R aP
  refine' Br.ez (Br.ey b G ?_ ?_ ?_ ?_:Br.KC _ mg _ _) ?_
  any_goals k_is
  intro f al
  refine' Br.ez (Br.ey b G ?_ ?_ ?_ ?_:Br.KG _ mg _ _) ?_
  any_goals k_is
  intro j ao
  refine' Br.ez (Br.ey b G ?_ ?_ ?_ ?_:Br.KI _ mg _ _) ?_
  any_goals k_is
  intro W aW
  refine' Br.ez (Br.ey b G ?_ ?_ ?_ ?_:Br.KL _ mg _ _) ?_
  any_goals k_is
  intro V aV
  refine' Br.ez (Br.ey b G ?_ ?_ ?_ ?_:Br.KO _ mg _ _) ?_
  any_goals k_is
  intro o as
  refine' Br.ez (Br.ey b G ?_ ?_ ?_ ?_:Br.KQ _ mg _ _) ?_
  any_goals k_is
  intro v aA
  refine' Br.ez (Br.ey b G ?_ ?_ ?_ ?_:Br.KS _ mg _ _) ?_
  any_goals k_is
  intro T aQ
  refine' Br.ez (Br.ey b G ?_ ?_ ?_ ?_:Br.KW _ mg _ _) ?_
  any_goals k_is
  intro J aH
  refine' Br.ez (Br.ey b G ?_ ?_ ?_ ?_:Br.KZ _ mg _ _) ?_
  any_goals k_is
  intro B aE
  refine' Br.ez (Br.ey b G ?_ ?_ ?_ ?_:Br.K1 _ mg _ _) ?_
  any_goals k_is
  intro x aC
  refine' Br.ez (Br.ey b G ?_ ?_ ?_ ?_:Br.K3 _ mg _ _) ?_
  any_goals k_is
  intro i an
  refine' Br.ez (Br.ey b G ?_ ?_ ?_ ?_:Br.K5 _ mg _ _) ?_
  any_goals k_is
  intro q av
  refine' Br.ez (Br.ey b G ?_ ?_ ?_ ?_:Br.K7 _ mg _ _) ?_
  any_goals k_is
  intro L aI
  refine' Br.ez (Br.ey b G ?_ ?_ ?_ ?_:Br.K9 _ mg _ _) ?_
  any_goals k_is
  intro C aF
  refine' Br.ez (Br.ey b G ?_ ?_ ?_ ?_:Br.La _ mg _ _) ?_
  any_goals k_is
  intro P aL
  refine' Br.ez (Br.ey b G ?_ ?_ ?_ ?_:Br.Lc _ mg _ _) ?_
  any_goals k_is
  intro N aK
  refine' Br.ez (Br.ey b G ?_ ?_ ?_ ?_:Br.Le _ mg _ _) ?_
  any_goals k_is
  intro u az
  refine' Br.ez (Br.ey b G ?_ ?_ ?_ ?_:Br.Lh _ mg _ _) ?_
  any_goals k_is
  intro y aD
  refine' Br.ez (Br.ey b G ?_ ?_ ?_ ?_:Br.Lj _ mg _ _) ?_
  any_goals k_is
  intro ac a0
  refine' Br.ez (Br.ey b G ?_ ?_ ?_ ?_:Br.Ll _ mg _ _) ?_
  any_goals k_is
  intro U aS
  refine' Br.ez (Br.ey b G ?_ ?_ ?_ ?_:Br.Ln _ mg _ _) ?_
  any_goals k_is
  intro s aw
  refine' Br.ez (Br.ey b G ?_ ?_ ?_ ?_:Br.Lp _ mg _ _) ?_
  any_goals k_is
  intro t ay
  refine' Br.ez (Br.ey b G ?_ ?_ ?_ ?_:Br.Lr _ mg _ _) ?_
  any_goals k_is
  intro Q aN
  refine' Br.ez (Br.ey b G ?_ ?_ ?_ ?_:Br.Lu _ mg _ _) ?_
  any_goals k_is
  intro n ar
  refine' Br.ez (Br.ey b G ?_ ?_ ?_ ?_:Br.Lw _ mg _ _) ?_
  any_goals k_is
  intro l ap
  refine' Br.ez (Br.ey b G ?_ ?_ ?_ ?_:Br.Ly _ mg _ _) ?_
  any_goals k_is
  intro m aq
  refine' Br.ez (Br.ey b G ?_ ?_ ?_ ?_:Br.LB _ mg _ _) ?_
  any_goals k_is
  intro g am
  refine' Br.ez (Br.ey b G ?_ ?_ ?_ ?_:Br.LD _ mg _ _) ?_
  any_goals k_is
  intro E aG
  refine' Br.ez (Br.ey b G ?_ ?_ ?_ ?_:Br.LH _ mg _ _) ?_
  any_goals k_is
  intro d aO;have c:=Br.Txt.mk (mg:=mg) (A:=#v[wL,wR,xr,xA,xC,xK,yy,yT,af,ad,Z,ag,X,R,f,j,W,V,o,v,T,J,B,x,i,q,L,C,P,N,u,y,ac,U,s,t,Q,n,l,m,g,E,d]) wM xp xy xB xD yq yP y2 a2 a1 aY a3 aX aP al ao aW aV as aA aQ aH aE aC an av aI aF aL aK az aD a0 aS aw ay aN ar ap aq am aG aO (Br.int_mk b G) (Br.int_mk b G) (Br.int_mk b G) (Br.int_mk b G) (Br.int_mk b G) (Br.int_mk b G) (Br.int_mk b G) (Br.int_mk b G) (Br.int_mk b G) (Br.int_mk b G) (Br.int_mk b G) (Br.int_mk b G) (Br.int_mk b G) (Br.int_mk b G) (Br.int_mk b G) (Br.int_mk b G) (Br.int_mk b G) (Br.int_mk b G) (Br.int_mk b G) (Br.int_mk b G) (Br.int_mk b G) (Br.int_mk b G) (Br.int_mk b G) (Br.int_mk b G) (Br.int_mk b G) (Br.int_mk b G) (Br.int_mk b G) (Br.int_mk b G) (Br.int_mk b G) (Br.int_mk b G) (Br.int_mk b G) (Br.int_mk b G) (Br.int_mk b G) (Br.int_mk b G) (Br.int_mk b G) (Br.int_mk b G) (Br.kz b G) (Br.kz b G) (Br.kz b G) (Br.kz b G) (Br.kz b G) (Br.kz b G) (Br.kz b G) (Br.kz b G) (Br.kz b G) (Br.kz b G) (Br.kz b G) (Br.kz b G);have ah:=Br.Z0 b G (by k_is) (by k_is);have ak:=Br.Z1 b G (by k_is) (by k_is) (by k_is) (by k_is) (by k_is) (by k_is);have TG:=Br.Z4 (w:=w) b G c (by k_is) (by k_is) (by k_is) (by k_is) (by k_is) (by k_is) (by k_is) (by k_is) (by k_is) (by k_is) (by k_is) (by k_is) (by k_is) (by k_is) (by k_is) (by k_is) (by k_is) (by k_is) (by k_is) (by k_is) (by k_is) (by k_is) (by k_is) (by k_is) (by k_is);have e:=aay.symm.trans c.answers.at_;cases e;exact#v[d.fd,c.answers.bt,λaJ _ _=>Br.HH c ah ak TG]
 case S=>
  intro K H xs a hO abo a4 hx;cases hx with
  |cons h1 h2=>
   cases h2;cases h1 with
   |lst hs ha=>have e:=L2.Ih a.1 _ ha;subst e;exact#v[_,a.1,I,hs,a4,λH' p hp=>.lst (L2.aA.of hp) (L2.Ig _)]
end
