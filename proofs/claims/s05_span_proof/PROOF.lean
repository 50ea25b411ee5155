import PyProof.Rows.All
import Wide.All
import OpenK.AllK
import Wide.FinOn
import PyProof.EqAt
import PyProof.EqKinds
import PyProof.TupleCall
import KE.BitLaws
import Open.SpecLaws
import KE.OsHead
import KE.OsGo
import KE.KTryMore
import KE.KSuperObj
import PyProof.Draws
import KE.IntBitsLaws
import KE.KSortTupG
import KE.KLam
import KE.KDictList
import KE.KListMore
import PySem.Challenge.RW_lutesounds_s05_span
set_option Elab.async false
set_option linter.all false
set_option maxRecDepth 100000
set_option maxHeartbeats 4000000
theorem Ae.{u} {c:Prop}{h:Decidable c}(hc:c){α:Sort u}{t e:α}:ite c t e=t:=if_pos hc
theorem Af.{u} {c:Prop}{h:Decidable c}(hc:¬c){α:Sort u}{t e:α}:ite c t e=e:=if_neg hc
noncomputable section
open Array renaming length_toList->dc,getElem?_setIfInBounds_ne->gh,getElem?_eq_some_iff->kn,getElem?_toList->kr,getElem?_eq_getElem->qb,getElem?_eq_none->rq,toArray_toList->vB,append_assoc->vX,forIn_toList->v9,toList->wc,toList_zip->wY
open Array.Perm renaming refl->xy
open Bool renaming false_ne_true->bj,noConfusion->ei,false_eq_true->fq,and_eq_true->jn,eq_false_iff->jx,eq_iff_iff->ql,true_and->rW,false_and->sV,eq_false_or_eq_true->tZ,and_eq_true_iff->vp,or_true->wp,and_false->xY,or_false->yF,and_true->yJ,not_not->yX
open Eq renaming trans->si
open Except renaming error->yZ
open False renaming elim->ez
open ForInStep renaming yield->sA
open Int renaming toNat_natCast->jv,gcd->pp,neg_ediv_of_dvd->qd,mul_ediv_cancel_left->qi,ofNat_dvd_left->qw,natAbs_natCast->qx,natCast_mul->sF,toNat_of_nonneg->sK,fdiv_eq_ediv_of_nonneg->sW,natAbs_mul->tF,natCast_dvd_natCast->ur,add_comm->uP,neg_mul->vv,mul_pos->xh,one_mul->xj,natCast_pow->xw,mul_le_mul->x5,ofNat_le->yW,pow_add->zn
open List renaming length_map->ai,getElem?_eq_getElem->am,mem_cons_of_mem->aq,getElem?_eq_some_iff->au,getElem?_map->az,mem_cons_self->bc,mem_cons->bg,mem_of_getElem?->bo,getD_eq_getElem?_getD->bp,length_append->br,size_toArray->bv,mem_append->cn,mem_append_right->dj,length_take->dy,take_add_one->eq,map_append->ff,map_cons->fi,length_cons->fm,take_length->fv,mem_singleton->ge,pairwise_cons->gg,length_drop->im,lookup->jc,all_eq_true->jd,mem_of_mem_drop->je,getElem_mem->jf,drop_eq_getElem_cons->jj,getLastD_eq_getLast?->jk,range->jm,append_nil->jz,mem_map->kf,lookup_cons->kl,take_append_drop->ku,findIdx?_eq_some_iff_getElem->kx,pairwise_iff_getElem->lg,length_range->lq,getElem?_of_mem->lu,mem_of_mem_take->md,mem_map_of_mem->mq,getElem?_set_self->mx,contains_cons->nq,find?_cons->ny,idxOf_lt_length_of_mem->ot,length->ou,getLast?_eq_getElem?->qa,nodup_cons->qm,of_mem_zip->qo,getElem?_take->qv,reverse_cons->rn,take_of_length_le->rJ,mem_append_left->rX,getElem?_set_ne->rY,eq_nil_of_length_eq_zero->sj,pairwise_append->sr,filterMap_cons->sG,length_reverse->sM,getElem?_append_right->tm,getElem?_drop->tG,find?_eq_none->tH,getElem_idxOf->tI,getElem?_append_left->tM,append_assoc->tV,cons_append->uj,getD->uq,drop_length->uu,getElem?_cons_succ->uv,idxOf?_eq_some_iff->uA,range_succ->uW,getElem?_eq_none->u5,drop_drop->vt,mem_of_getLast?->vz,nodup_nil->vC,getElem?_range->vM,drop_succ_cons->vO,mem_filterMap->vZ,map_nil->wo,foldl_append->wt,all_eq_false->wu,getLast?_map->ww,find?_append->wx,nodup_append->wy,pairwise_map->wA,map_map->wC,getElem_inj->wF,filter_cons->wO,map_reverse->wU,mem_reverse->wV,mem_filter->xk,length_set->xm,all_append->xq,foldl_cons->xu,mem_range->xC,replicate->xI,forIn_nil->xR,drop_take->x8,take_take->x9,map_take->yG,all_map->y0
open List.Pairwise renaming nil->oq,sublist->vd,imp_of_mem->yH
open List.Perm renaming refl->vy
open List.Sublist renaming refl->zU
open List.cons renaming inj->vS
open Nat renaming le_refl->aw,lt_of_lt_of_le->bu,ne_of_lt->cg,le_trans->cw,mul_comm->df,zero_le->dm,gcd_mul_left->gj,lt_irrefl->iy,pow_pos->js,mul_left_comm->jw,mul_assoc->kh,pow_le_pow_right->lv,mul_pos->lw,pow_add->ma,lt_trans->nj,gcd->nw,dvd_trans->oj,lt_succ_of_lt->oo,ne_of_gt->ph,pow_mul->rb,Coprime->rc,le_of_lt->rg,le_of_eq->rh,le_of_succ_le->rp,gcd_dvd_right->rK,gcd_dvd_left->rT,le_succ->sd,zero_add->sO,lt_of_le_of_lt->tD,mul_one->tT,mul_pow->tU,lt_succ_self->uh,succ_ne_self->uk,le_add_right->ul,pow_lt_pow_iff_left->uw,gcd_pos_of_pos_left->ux,lt_of_not_le->uz,pow_zero->uQ,mul_lt_mul_right->vx,pow_lt_pow_left->vN,gcd_comm->wr,dvd_refl->wv,sub_self->wz,gcd_assoc->yI,pow_succ->yV,zero_mul->yY,two_mul->zo,one_mul->zp,one_pos->zr
open Nat.Coprime renaming pow->uX,mul_right->u9
open Ne renaming symm->cr
open Option renaming isSome_iff_exists->qf,none->vk,isSome_map->wD,getD_none->wN,bind_some->wP,map->zT
open Option.some renaming inj->cu
open Or renaming inl->uK,inr->yU
open PyProof renaming noPylong_small->uF
open PyProof.Rows renaming callWith_type1->dk,seqObj->mh,slot_tuple_getitem->ml,envOfC->tj,arrOf->tK,listUpdate_at->uc,AllBare->uE,subscriptTail_builtinR->uJ,boot_enumerate->vj,subscriptTail->vQ,callWith_builtin1->wM,get?_update_seq->xx,slicePart_none->xJ,Subscript_->xL,boot_sorted->yK,iadd_int->y3,boot_min->y4,boot_max->y6
open PyProof.Rows.G renaming tupKindC->v8,tupKeyC->wX
open PyProof.Rows.G.KeepsTups renaming refl->z4
open PyProof.Rows.IsTup renaming new->zV
open PyProof.Rows.SortSt renaming mk'->zQ
open PySem renaming wpAny_bind->ae,Addr->ag,Value->ah,Shared->aj,wpAny_pure->ao,Program->bb,starEach->be,wpAny->bf,model->bi,World->bw,sizeLine_eq->bz,Paired->cf,mem_of_lookup->cp,Heap->cq,boot_len->cy,Around->cz,Stmt->dh,mainGlobals->dq,FuncData->dw,rawInt->fw,wpAny_newObj_type->gc,keywordEach->gq,wpAny_mono->gr,wpAny_Call_Name_kw->gy,backTo->ig,wpAny_holding->ik,cellsFrom->il,wpAny_field->ip,wpAny_setField->jh,Scope->ji,compEnvC->jl,bootBuiltins->jo,wpAny_standAt->jp,attributeBase->jq,backToKw->jr,wpAny_typeNameOfWhole_valiter->jt,wpAny_callSpecial?_slot->ju,compareOp->ki,getMethod->kj,NameKind->km,wpAny_passesOwn->lh,holding->li,foldedSetIterable->lj,wpAny_pyIter_enum->lp,wpAny_typeNameOf_valiter->mi,plainObj_wpAny_Assign_Attribute->mj,standAt->mm,codeAny->mn,callWith->mr,wpAny_call_entry->ms,codeAny_mono->mz,behindInMarks->oe,wpAny_truthy_bool->on,Within->pc,swapsWith->pf,wpAny_execs_nil->qj,letOwnedTupleGo->qk,sysModules->qr,wpAny_pyIter_tuple->qu,sliceBounds->qy,wpAny_loadPart_at->rG,wpAny_isOneOf_valiter->rO,wpAny_call->rQ,pushCells->rR,binaryOp->rZ,strIterType->sh,pushCells_keeps->ss,wpAny_isSubtype_exc->sJ,tupleKind->sQ,Arguments->sR,assignEach->sU,recursionLimit->sY,wpAny_newFunctionEnv_cells->tq,wpAny_letOwnedTupleGo_enum->tz,firstArgMember->tE,tupleKind_room_in1->tL,Builtin->tQ,wpAny_dictEntries->tX,wpAny_attempt->tY,wpAny_lookBehind->uf,pastItsLine_dict->ug,noteFrame->ui,setFlight->um,builtinsNs->uD,Keyword->uG,getItem->uH,typeLookup->uI,wpAny_pyNext_enum_endD->uM,wpAny_specialOf->uU,wpAny_dictEpoch->uZ,wpAny_isTrue_Compare1->u0,codeAny_call_function->u4,codeAny_handlers_test->u6,builtinLookup_eq_fast->u7,wpAny_loadName_local->vf,wpAny_loadPart->vg,bindArgs->vh,subscripted->vi,codeAny_call_builtin->vm,wpAny_seqItems->vn,Params->vo,intBits_pow_le->vq,BindsTo->vE,notedBy->vF,DictEntry->vH,wpAny_loadName_cell->vI,wpAt_of_wpAny->vK,wpAny_handleBy_cons->vL,wpAny_handled->vT,entryOfKey->vW,pyNext->vY,IsPart->v3,PyData->v4,IsEnum->v5,Operator->wd,wpAny_assign_Name->we,wpAny_nsSet1->wg,cLine->wk,callerA->wB,isTrue->wG,wpAny_execs_cons->wH,assign->wI,Result->wL,checkBuiltinCall->wQ,wpAny_madeBy_exc->wR,wpAny_isInstance->wT,Model->w9,seqIndex_of->xb,excClassObj->xf,wpAny_throw->xg,wpAt_bind->xo,typeLookup_type->xt,ItemsOf->xA,wpAny_Name->xD,bindL->xF,bindC->xG,typeOf->xM,call_meets->xO,numAt_eq->xP,getD_mem->xQ,closureFor->xS,newFunctionEnv->xU,setField->xV,isInstance->xW,ownStreamTells->xX,raisedInstance->xZ,arm_exec_Raise->x0,intBits_mul_le->x6,atKey->yc,wpAny_fieldsOf->yd,storeName->yL,CmpOp->yM,inplaceOp->yN,onTheHeap->yO,spliced->yR,getAttr->yS,setAttr->yT,call->zS,Fin->z0
open PySem.Around renaming frames_deeper->sg,under->wl
open PySem.AutoSeq1 renaming wpAny_loadPart'->mf,list_insert_list_int_val_1->uY
open PySem.Builtin.Dict renaming showsAll->ve,noArgs->zE
open PySem.Builtin.Dict_items renaming ownsTuple->oa,newIterator->w6,dictOf->yp
open PySem.Builtin.List renaming listExtendWith->kg,listFitsIndex->oy,listSameRef->ub,listItems->uO,listLengthHint->xB,listUpdate->yP
open PySem.Builtin.Range renaming rangeSize->ue,small->zD
open PySem.Builtin.Slice renaming slicePlaces->ky,sliceAdjust->pq,sliceApplied->tu,slicePartIndex->xl,sliceFields->yo
open PySem.Builtin.SmallTypes renaming nextOf->kz
open PySem.Builtin.Tuple renaming tupleExact->me,tupleItemsOf->xK
open PySem.Calls renaming spliced_nil->rj,Name_function_global->sS,spliced_cons->sZ
open PySem.CmpOp renaming NotIn->ze,In->z6
open PySem.Code renaming quiet_builtin->v6,isFrame->wm,frames->zg
open PySem.EntryCells renaming newEntry->vJ
open PySem.EqMixed renaming eq_bool_str->yh,eq_str_bool->yi,ne_bool_str->ym,ne_str_bool->yn,eq_int_str->yw,eq_str_int->yy,ne_int_str->yC,ne_str_int->yE
open PySem.EqNone renaming eq_none_none->ye,eq_none_bool->yf,eq_bool_none->yg,ne_none_none->yj,ne_none_bool->yk,ne_bool_none->yl,eq_none_int->yr,eq_none_str->yt,eq_int_none->yu,eq_str_none->yx,ne_none_int->yz,ne_none_str->yA,ne_int_none->yB,ne_str_none->yD
open PySem.Expr renaming Call->zZ
open PySem.F renaming plainAttrs_list->de,slot_list_append->fj,type_list_append->fk,slot_dict_valueiterator_next->iq,slot_tuple_iterator_next->ko,excBase_ValueError->ow,slot_list_index->qz,args_dict_valueiterator_next_1->rL,entry_dict_valueiterator_next->rM,args_tuple_iterator_next_1->sB,entry_tuple_iterator_next->sN,attr_ValueError->uo,slot_dict_values_iter->uB,type_list_index->uC,slot_dict_values->wa
open PySem.Heap renaming get?_push_of_some->ak,lt_size->bh,get?_push_size->bn,size_push->fh,get?_update_self->iw,get?_update_other->ke,get?_update_ne->mo,SameBut->pd,get?_push_ne->tS,size_update->wZ,push->yQ,ExtBut->zm
open PySem.Heap.IsSliceOf renaming new->zJ
open PySem.Heap.Ns1 renaming of_empty->wj
open PySem.Heap.SameBut renaming update->qc
open PySem.IsRange renaming new->zf
open PySem.NameKind renaming free->qg,cell->vR
open PySem.Obj renaming mapSeq->fb,data_mapFields->nk,mapFields->oh,isFreed_of_fields->rN,cls_mapFields->wq
open PySem.Paired renaming length->cj
open PySem.PassesOwn renaming leaving->bq
open PySem.SeqAt renaming EqAt->zK
open PySem.SeqAt.EqAt renaming int_str->vU,str_int->vV,none_bool->zh,bool_none->zi,bool_bool->zj,none_int->zu,none_str->zw,bool_int->zx,bool_str->zy,int_none->zz,int_bool->zA,str_none->zB,str_bool->zC,int_int->zM,str_str->zO,same->z5
open PySem.Str renaming ofString->ll
open PySem.Value renaming ref->cb,none->io,type->jb,builtin->rV,int->ud,str->wE,isStrOf->yq,isInt->y8,bytes->zc,float->zd,bool->zH
open PySem.Value.type renaming inj->x3
open PySem.W renaming Frag->aa,keepIn->du,mg_of->fu,fnOf->ie,findIn->ij,emptyDict->iu,codeIn->iz,instObj->jy,exmOne->mv,WData->mw,callWith_K->ng,kla_obj->nz,methodCall_KW->om,isFn->pj,Looks->qh,findCls->qp,cellsFrom_some->rm,plainGet->rP,length_le_weightAllW->sE,plainGet_of->sH,callWith_K0->sI,nsIn->sP,lookIn->sX,CodeHd->tJ,methodObj->tN,hasDictIn->tO,specialIn->tR,WellAll->uN,envX->uR,takerIn->uS,makesIn->uT,readsIn->uV,kla_fn->vA,codeHd_of_K->vP,codeRec_of->v0,mg_none_of->wb,plainOver->wf,handedIn->wJ,any_some->wK,WRecords->wS,kla_eval->wW,codeHdIn->w8,exm_one->xp,InstAt->xE,WalkOS->yb
open PySem.W.Codec renaming inInt->qe,encAll->rH,denoteAll->sC,app->vG,withinAll->xz,inLen->zt
open PySem.W.Looks renaming here->my,ld->rS
open PySem.W.WData renaming weightAll->sD,int->zY
open PySem.Within renaming cons->tP,nil->zW
open Sum renaming inl->kq,inr->vD
open Sum.inl renaming inj->y9
open True renaming intro->jg
open UInt8 renaming ofNat->tW,le_iff_toNat_le->vc,toNat_ofNat'->v7,toNat_inj->xr,toNat_lt->ya
section
inductive Ex2 {A0 A1:Type} (p:A0->A1->Prop):Prop
 |intro(a:A0) (b:A1) (h:p a b):Ex2 p
inductive Ex3 {A0 A1 A2:Type} (p:A0->A1->A2->Prop):Prop
 |intro(a:A0) (b:A1) (c:A2) (h:p a b c):Ex3 p
inductive Ex4 {A0 A1 A2 A3:Type} (p:A0->A1->A2->A3->Prop):Prop
 |intro(a:A0) (b:A1) (c:A2) (d:A3) (h:p a b c d):Ex4 p
inductive Ex5 {A0 A1 A2 A3 A4:Type} (p:A0->A1->A2->A3->A4->Prop):Prop
 |intro(a:A0) (b:A1) (c:A2) (d:A3) (e:A4) (h:p a b c d e):Ex5 p
inductive Ex6 {A0 A1 A2 A3 A4 A5:Type} (p:A0->A1->A2->A3->A4->A5->Prop):Prop
 |intro(a:A0) (b:A1) (c:A2) (d:A3) (e:A4) (f:A5) (h:p a b c d e f):Ex6 p
inductive Ex7 {A0 A1 A2 A3 A4 A5 A6:Type} (p:A0->A1->A2->A3->A4->A5->A6->Prop):Prop
 |intro(a:A0) (b:A1) (c:A2) (d:A3) (e:A4) (f:A5) (g:A6) (h:p a b c d e f g):Ex7 p
inductive Ex8 {A0 A1 A2 A3 A4 A5 A6 A7:Type} (p:A0->A1->A2->A3->A4->A5->A6->A7->Prop):Prop
 |intro(a:A0) (b:A1) (c:A2) (d:A3) (e:A4) (f:A5) (g:A6) (h:A7) (h:p a b c d e f g h):Ex8 p
inductive Ex9 {A0 A1 A2 A3 A4 A5 A6 A7 A8:Type} (p:A0->A1->A2->A3->A4->A5->A6->A7->A8->Prop):Prop
 |intro(a:A0) (b:A1) (c:A2) (d:A3) (e:A4) (f:A5) (g:A6) (h:A7) (i:A8) (h:p a b c d e f g h i):Ex9 p
inductive Ex12 {A0 A1 A2 A3 A4 A5 A6 A7 A8 A9 A10 A11:Type} (p:A0->A1->A2->A3->A4->A5->A6->A7->A8->A9->A10->A11->Prop):Prop
 |intro(a:A0) (b:A1) (c:A2) (d:A3) (e:A4) (f:A5) (g:A6) (h:A7) (i:A8) (j:A9) (k:A10) (l:A11) (h:p a b c d e f g h i j k l):Ex12 p
end
section
namespace L2
open PySem PySem.Spec PyProof.Rows
abbrev Key:=Sum Int Str
def NT:Key->ah->Bool
 | .inl k,v=>y8 k v
 | .inr x,v=>yq x v
def qE (w:bw):Key->Int
 | .inl k=>hashInt k
 | .inr x=>hashStr w x
theorem B0:∀{k:Key} {v:ah},NT k v=true->(∃i t,k=kq i/\v=ud i t)\/(∃x t,k=vD x/\v=wE x t)
 | .inl i,v,h=>by
   obtain⟨t,e⟩:=Value.isInt_shape (k:=i) (v:=v) h;exact .inl ⟨i,t,rfl,e⟩
 | .inr x,v,h=>by
   obtain⟨t,e⟩:=Value.isStrOf_shape (x:=x) (v:=v) h;exact .inr ⟨x,t,rfl,e⟩
theorem V9 (i:Int) (t:Tok):NT (.inl i) (.int i t)=true:=by simp[NT,y8]
theorem WA (x:Str) (t:Tok):NT (.inr x) (.str x t)=true:=by simp[NT,yq]
theorem fH (a b:Int):decide ((kq a:Key)=kq b)=(a==b):=by
 by_cases e:a=b
 ·subst e;simp
 ·have h:¬(kq a:Key)=kq b:=λq=>e (y9 q);rw[decide_eq_false h];exact(beq_eq_false_iff_ne.mpr e).symm
theorem fI (a b:Str):decide ((vD a:Key)=vD b)=decide (a=b):=by
 by_cases e:a=b
 ·subst e;simp
 ·have h:¬(vD a:Key)=vD b:=λq=>e (Sum.inr.inj q);rw[decide_eq_false h,decide_eq_false e]
theorem fJ (a:Int) (b:Str):decide ((kq a:Key)=vD b)=false:=decide_eq_false (λq=>nomatch q)
theorem fK (a:Str) (b:Int):decide ((vD a:Key)=kq b)=false:=decide_eq_false (λq=>nomatch q)
def C4 (prog:bb) (w:bw):PySem.KeyKind prog w Key where
 is:=NT
 hash:=qE w
 inj:=λv a b ha hb=>by
  rcases B0 ha with⟨i,t,rfl,rfl⟩|⟨x,t,rfl,rfl⟩
  ·rcases B0 hb with⟨j,u,rfl,e⟩|⟨y,u,rfl,e⟩
   ·injection e with e1 _;rw[e1]
   ·exact nomatch e
  ·rcases B0 hb with⟨j,u,rfl,e⟩|⟨y,u,rfl,e⟩
   ·exact nomatch e
   ·injection e with e1 _;rw[e1]
 byValue:=λk v h=>by
  rcases B0 h with⟨i,t,rfl,rfl⟩|⟨x,t,rfl,rfl⟩<;>rfl
 pyHash:=λhv h=>by
  rcases B0 hv with⟨i,t,rfl,rfl⟩|⟨x,t,rfl,rfl⟩
  ·exact wpAny_pyHash_int h
  ·exact wpAny_pyHash_str h
 eqBool:=λhu hv h=>by
  rcases B0 hu with⟨i,t,rfl,rfl⟩|⟨x,t,rfl,rfl⟩
  ·rcases B0 hv with⟨j,u,rfl,rfl⟩|⟨y,u,rfl,rfl⟩
   ·rw[fH] at h;exact wpAny_eqBool_int h
   ·rw[fJ] at h;exact vU i t y u _ _ _ _ h
  ·rcases B0 hv with⟨j,u,rfl,rfl⟩|⟨y,u,rfl,rfl⟩
   ·rw[fK] at h;exact vV x t j u _ _ _ _ h
   ·rw[fI] at h;exact wpAny_eqBool_str h
 «strs»:=λk x t v h=>by
  rcases B0 h with⟨i,u,rfl,e⟩|⟨y,u,rfl,e⟩
  ·exact nomatch e
  ·injection e with e1 _;subst e1;cases v<;>rfl
theorem QD (prog:bb) (w:bw) (i:Int) (t:Tok):(C4 prog w).is (.inl i) (.int i t)=true:=V9 i t
theorem QE (prog:bb) (w:bw) (x:Str) (t:Tok):(C4 prog w).is (.inr x) (.str x t)=true:=WA x t
inductive V where
 |non|bl (b:Bool)|int (i:Int)|str (x:Str)|byt (b:Array UInt8)|flt (b:UInt64)|ref (a:ag)|ty (n:String)
 deriving DecidableEq
def RelV:V->ah->Prop
 | .non,u=>u=io
 | .bl b,u=>u=zH b
 | .int i,u=>∃t,u=ud i t
 | .str x,u=>∃t,u=wE x t
 | .byt b,u=>∃t,u=zc b t
 | .flt b,u=>∃t,u=zd b t
 | .ref a,u=>u=cb a
 | .ty n,u=>u=jb n
abbrev Vals:List V->List ah->Prop:=cf RelV
theorem Vals.length {xs:List V} {us:List ah} (r:Vals xs us):xs.length=us.length:=cj r
theorem Vals.get:∀{xs:List V} {us:List ah} {i:Nat} {x:V},Vals xs us->xs[i]? =some x->∃u,us[i]? =some u/\RelV x u
 |_,_,_,_,.nil,e=>by simp at e
 |_,_,0,_,.cons r _,e=>by simp at e;subst e;exact⟨_,rfl,r⟩
 |_,_,i+1,x,.cons _ t,e=>by
  obtain⟨u,h1,h2⟩:=Vals.get (i:=i) (x:=x) t (by simpa using e);exact⟨u,by simpa using h1,h2⟩
theorem Vals.set {x:V} {u:ah} (r:RelV x u):∀{xs:List V} {us:List ah} (i:Nat),Vals xs us->Vals (xs.set i x) (us.set i u)
 |_,_,_,.nil=>.nil
 |_,_,0,.cons _ t=>.cons r t
 |_,_,i+1,.cons q t=>.cons q (Vals.set r i t)
theorem Vals.append:∀{xs ys:List V} {us ws:List ah},Vals xs us->Vals ys ws->Vals (xs++ys) (us++ws)
 |_,_,_,_,.nil,s=>s
 |_,_,_,_,.cons r t,s=>.cons r (Vals.append t s)
theorem Vals.take:∀{xs:List V} {us:List ah} (n:Nat),Vals xs us->Vals (xs.take n) (us.take n)
 |_,_,0,_=>.nil
 |_,_,_+1,.nil=>.nil
 |_,_,n+1,.cons r t=>.cons r (Vals.take n t)
theorem Vals.drop:∀{xs:List V} {us:List ah} (n:Nat),Vals xs us->Vals (xs.drop n) (us.drop n)
 |_,_,0,r=>r
 |_,_,_+1,.nil=>.nil
 |_,_,n+1,.cons _ t=>Vals.drop n t
def RelO:Option V->Option ah->Prop
 |some v,some u=>RelV v u
 |none,none=>True
 |_,_=>False
def KV {κ:Type}:List (κ×V)->List (κ×ah)->Prop:=cf λ(p:κ×V) (q:κ×ah)=>p.1=q.1/\RelV p.2 q.2
def kV:Key->V
 | .inl i=>.int i
 | .inr x=>.str x
inductive HO where
 |lst (xs:List V)
 |tup (xs:List V)
 |dK (Ab:List (Key×V))|dT (Ab:List (List Key×V))
 |set (S:Int->Bool) (n:Nat)
 |ins (C dx:ag) (fs:List (Str×V))
 |own (x:ag)
 |xd (fs:List (Str×V))
 |met (f x:ag)
 |rng (lo hi:Int)
 |frz (o:Obj) (u:HO)
 |tbl (ps:Array ah)
 |ext (φ:cq->Prop)
abbrev Hp:=ag->Option HO
def upd (H:Hp) (a:ag) (o:HO):Hp:=λb=>if b=a then some o else H b
theorem upd_same {H:Hp} {a:ag} {o:HO}:upd H a o a=some o:=by unfold upd;rw[Ae rfl]
theorem AE {H:Hp} {a b:ag} {o:HO} (h:b≠a):upd H a o b=H b:=by unfold upd;rw[Af h]
theorem bD {H:Hp} {a:ag} {o u:HO}:upd (upd H a o) a u=upd H a u:=by
 funext b;unfold upd;split<;>rfl
theorem B2 {H:Hp} {a b:ag} {o u:HO} (h:H a=some o) (h':H b=some u) (d:o≠u):a≠b:=by
 intro e;subst e;rw[h] at h';exact d (cu h')
theorem AG {H:Hp} {a b:ag} {o:HO} (h:H a=some o) (h':H b=none):a≠b:=by
 intro e;subst e;rw[h] at h';cases h'
section
variable (P:bb) (w:bw)
def ObjOk (H:Hp) (h:cq) (a:ag):HO->Prop
 | .lst xs=>xs.length<=sizeLine/\Ex2 λ(Aa:List ah) (n:Nat)=>Vals xs Aa/\h.get? a=some { cls:=.type "list",data:=.seq Aa.toArray n }
 | .tup xs=>xs.length<=sizeLine/\∃Aa:List ah,Vals xs Aa/\IsTup h a Aa.toArray
 | .dK Ab=>Ab.length<=sizeLine/\(a==qr)=false/\∃vs,KV Ab vs/\h.DictOf (C4 P w) a vs
 | .dT Ab=>Ab.length<=sizeLine/\(a==qr)=false/\∃xs:List (List Key×ag×ah),
  cf (λ(p:List Key×V) (q:List Key×ag×ah)=>p.1=q.1/\H q.2.1=some (.tup (p.1.map kV))/\RelV p.2 q.2.2) Ab xs/\
  Ex3 λo es ep=>h.get? a=some o/\o.ExactDict/\o.data= .dict es ep/\es.toList=xs.map (vW (sQ (C4 P w)))/\(xs.map (·.1)).Nodup
 | .set S n=>h.SetOf (intKind P w) a S n
 | .ins C dx fs=>H dx=some (.own a)/\fs.length<=1000/\dx≠a/\h.get? a=some (jy C dx)/\
  ∃mA,h.Ns1 dx mA/\(∀f,RelO (fs.lookup f) (mA f))/\pc mA (fs.map (·.1))
 | .own _=>∃o,h.get? a=some o
 | .xd fs=>∃mA,h.Ns1 a mA/\∀f,RelO (fs.lookup f) (mA f)
 | .rng lo hi=>Ex3 λt u v=>h.get? a=some { cls:=.type "range",data:=.fields #[.int lo t,.int hi u,.int 1 v] }
 | .frz o u=>h.get? a=some o/\ObjOk H h a u
 | .tbl ps=>h.get? a=some { cls:=.none,data:=.fields ps }
 | .met f x=>h.get? a=some (tN (.ref f) (.ref x))
 | .ext φ=>φ h/\(∃o,h.get? a=some o)/\∀h1 h2:cq,φ h1->(∀o,h1.get? a=some o->h2.get? a=some o)->φ h2
def HOk (H:Hp) (h:cq):Prop:=∀a o,H a=some o->ObjOk P w H h a o
end
section
variable {P:bb} {w:bw} {H H':Hp} {h h':cq} {a:ag} {o:HO}
theorem ObjOk.lt (x:ObjOk P w H h a o):a<h.objs.size:=by
 cases o with
 |lst xs=>obtain⟨_,_,_,_,e⟩:=x;exact bh e
 |tup xs=>obtain⟨_,_,_,p⟩:=x;exact p.lt
 |dK Ab=>obtain⟨_,_,_,_,o,_,_,e,_⟩:=x;exact bh e
 |dT Ab=>obtain⟨_,_,_,_,o,_,_,e,_⟩:=x;exact bh e
 |set S n=>obtain⟨o,_,_,_,e,_⟩:=x;exact bh e
 |ins C dx fs=>obtain⟨_,_,_,e,_⟩:=x;exact bh e
 |own y=>obtain⟨_,e⟩:=x;exact bh e
 |xd fs=>obtain⟨_,⟨_,_,_,e,_⟩,_⟩:=x;exact bh e
 |rng lo hi=>obtain⟨_,_,_,e⟩:=x;exact bh e
 |frz ob u=>obtain⟨e,_⟩:=x;exact bh e
 |tbl ps=>exact bh (show h.get? a=some _ from x)
 |met f y=>exact bh (show h.get? a=some _ from x)
 |ext φ=>obtain⟨_,⟨_,e⟩,_⟩:=x;exact bh e
theorem cf.mapP {α β:Type} {F G:α->β->Prop}:∀{l₁:List α} {l₂:List β},cf F l₁ l₂->(∀a b,F a b->G a b)->cf G l₁ l₂
 |_,_,.nil,_=>.nil
 |_,_,.cons r t,f=>.cons (f _ _ r) (cf.mapP t f)
theorem cf.imp' {α β:Type} {F G:α->β->Prop} (f:∀a b,F a b->G a b) {l₁:List α} {l₂:List β} (r:cf F l₁ l₂):cf G l₁ l₂:=cf.mapP r f
theorem ObjOk.stay (x:ObjOk P w H h a o) (k:∀b u,(b=a\/H b=some (.own a))->h.get? b=some u->h'.get? b=some u)
 (ho:∀b,H b=some (.own a)->H' b=some (.own a)) (ht:∀b xs,H b=some (.tup xs)->H' b=some (.tup xs)):ObjOk P w H' h' a o:=by
 induction o with
 |lst xs=>obtain⟨z,Aa,n,r,e⟩:=x;exact⟨z,Aa,n,r,k _ _ (.inl rfl) e⟩
 |tup xs=>obtain⟨z,Aa,r,ob,e,c⟩:=x;exact⟨z,Aa,r,ob,k _ _ (.inl rfl) e,c⟩
 |dK Ab=>obtain⟨z,y,vs,r,ob,es,ep,e,c⟩:=x;exact⟨z,y,vs,r,ob,es,ep,k _ _ (.inl rfl) e,c⟩
 |dT Ab=>
  obtain⟨z,y,xs,r,ob,es,ep,e,c⟩:=x;exact⟨z,y,xs,cf.mapP r λp q z=>⟨z.1,ht _ _ z.2.1,z.2.2⟩,ob,es,ep,k _ _ (.inl rfl) e,c⟩
 |set S n=>obtain⟨ob,es,ep,t,e,c⟩:=x;exact⟨ob,es,ep,t,k _ _ (.inl rfl) e,c⟩
 |ins C dx fs=>
  obtain⟨d,z,ne,e,mA,⟨od,es,ep,e2,c⟩,r⟩:=x;exact⟨ho _ d,z,ne,k _ _ (.inl rfl) e,mA,⟨od,es,ep,k _ _ (.inr d) e2,c⟩,r⟩
 |own y=>obtain⟨ob,e⟩:=x;exact⟨ob,k _ _ (.inl rfl) e⟩
 |xd fs=>obtain⟨mA,⟨od,es,ep,e,c⟩,r⟩:=x;exact⟨mA,⟨od,es,ep,k _ _ (.inl rfl) e,c⟩,r⟩
 |rng lo hi=>obtain⟨t,u,v,e⟩:=x;exact⟨t,u,v,k _ _ (.inl rfl) e⟩
 |frz ob u ih=>obtain⟨e,q⟩:=x;exact⟨k _ _ (.inl rfl) e,ih q⟩
 |tbl ps=>
  have e:h.get? a=some { cls:=.none,data:=.fields ps }:=x;show h'.get? a=some { cls:=.none,data:=.fields ps };exact k a _ (.inl rfl) e
 |met f y=>
  have e:h.get? a=some (tN (.ref f) (.ref y)):=x;show h'.get? a=some (tN (.ref f) (.ref y));exact k a _ (.inl rfl) e
 |ext φ=>obtain⟨p,⟨o,e⟩,st⟩:=x;exact⟨st _ _ p λo q=>k _ _ (.inl rfl) q,⟨o,k _ _ (.inl rfl) e⟩,st⟩
theorem HOk.lt (x:HOk P w H h) (e:H a=some o):a<h.objs.size:=(x a o e).lt
theorem HOk.fresh (x:HOk P w H h) (e:h.objs.size<=a):H a=none:=by
 cases q:H a with
 |none=>rfl
 |some u=>exact absurd (bu (x.lt q) e) (iy _)
theorem HOk.kept (x:HOk P w H h) (k:∀b u,h.get? b=some u->h'.get? b=some u):HOk P w H h':=λa o e=>
 (x a o e).stay (λb u _ q=>k b u q) (λ_ q=>q) λ_ _ q=>q
theorem HOk.laid (x:HOk P w H h) (k:∀b u,h.get? b=some u->h'.get? b=some u) (hp:h.objs.size<=a) (new:ObjOk P w (upd H a o) h' a o):HOk P w (upd H a o) h':=λb u e=>by
 have hn:=x.fresh hp;by_cases hb:b=a
 ·subst hb;rw[upd_same] at e;cases e;exact new
 ·rw[AE hb] at e;exact(x b u e).stay (λc v _ q=>k c v q) (λc q=>by rw[AE (AG q hn)];exact q) λc xs q=>by rw[AE (AG q hn)];exact q
end
def Rd (H:Hp) (a:ag) (u:HO):Prop:=H a=some u\/∃o,H a=some (.frz o u)
theorem Rd.ok {P:bb} {w:bw} {H:Hp} {h:cq} {a:ag} {u:HO} (r:Rd H a u) (x:HOk P w H h):ObjOk P w H h a u:=by
 rcases r with r|⟨o,r⟩
 ·exact x a u r
 ·obtain⟨_,q⟩:=x a _ r;exact q
def Mut:Option HO->Prop
 |some (.lst _)=>True
 |some (.dK _)=>True
 |some (.dT _)=>True
 |some (.set _ _)=>True
 |some (.ins _ _ _)=>True
 |some (.ext _)=>True
 |_=>False
section
variable {P:bb} {w:bw} {H:Hp} {h h':cq} {x e:ag} {o':HO}
theorem HOk.write (ok:HOk P w H h) (mu:Mut (H x)) (he:e=x\/H e=some (.own x)) (k:∀b u,b≠e->h.get? b=some u->h'.get? b=some u) (heo:∃u,h'.get? e=some u)
 (new:ObjOk P w (upd H x o') h' x o'):HOk P w (upd H x o') h':=λb u q=>by
 have nown:∀c y,H c=some (.own y)->c≠x:=λc y r z=>by subst z;rw[r] at mu;exact mu
 have ntup:∀c xs,H c=some (.tup xs)->c≠x:=λc xs r z=>by subst z;rw[r] at mu;exact mu
 by_cases hb:b=x
 ·subst hb;rw[upd_same] at q;cases q;exact new
 ·rw[AE hb] at q;by_cases hbe:b=e
  ·have q':H b=some (.own x):=by
    rcases he with z|z
    ·exact absurd (hbe.trans z) hb
    ·rw[hbe];exact z
   rw[q] at q';cases q';obtain⟨v,hv⟩:=heo;exact⟨v,by rw[hbe];exact hv⟩
  ·refine(ok b u q).stay (λc v hc r=>k c v ?_ r) (λc r=>by rw[AE (nown c b r)];exact r) λc xs r=>by rw[AE (ntup c xs r)];exact r
   rcases hc with rfl|hc
   ·exact hbe
   ·rintro rfl;rcases he with z|z
    ·exact nown c b hc z
    ·rw[hc] at z;cases z;exact hb rfl
end
structure Un (fs ex:List ag) (H H':Hp) (h h':cq):Prop where
 keep:∀b o,h.get? b=some o->H b=none->b∉fs->b∉ex->h'.get? b=some o
 slot:∀b o,h.get? b=some o->H b=none->b∈fs->b∉ex->∃sl,h'.get? b=some { o with slots:=sl }
 free:∀b o,h.get? b=some o->H b=none->b∉ex->H' b=none
 there:∀b o,h.get? b=some o->b∉ex->∃o',h'.get? b=some o'
 tups:∀b xs,H b=some (.tup xs)->H' b=some (.tup xs)
 frzs:∀b o u,H b=some (.frz o u)->H' b=some (.frz o u)
 tbls:∀b ps,H b=some (.tbl ps)->∃more,H' b=some (.tbl (ps++more))
section
variable {fs fs' ex ex':List ag} {H H1 H2:Hp} {h h1 h2 h':cq} {a x e:ag} {o:HO}
theorem Un.any (u:Un fs ex H H1 h h1) {b:ag} {ob:Obj} (q:h.get? b=some ob) (n:H b=none) (hx:b∉ex):∃sl,h1.get? b=some { ob with slots:=sl }:=by
 by_cases hb:b∈fs
 ·exact u.slot b ob q n hb hx
 ·exact⟨ob.slots,u.keep b ob q n hb hx⟩
theorem Un.trans (a:Un fs ex H H1 h h1) (b:Un fs ex H1 H2 h1 h2):Un fs ex H H2 h h2 where
 keep:=λc ob q n hc hx=>b.keep c ob (a.keep c ob q n hc hx) (a.free c ob q n hx) hc hx
 slot:=λc ob q n hc hx=>by
  obtain⟨sl,e1⟩:=a.slot c ob q n hc hx;obtain⟨sl',e2⟩:=b.slot c _ e1 (a.free c ob q n hx) hc hx;exact⟨sl',e2⟩
 free:=λc ob q n hx=>by
  obtain⟨o',e1⟩:=a.there c ob q hx;exact b.free c o' e1 (a.free c ob q n hx) hx
 there:=λc ob q hx=>by
  obtain⟨o',e1⟩:=a.there c ob q hx;exact b.there c o' e1 hx
 tups:=λc xs q=>b.tups c xs (a.tups c xs q)
 frzs:=λc ob xs q=>b.frzs c ob xs (a.frzs c ob xs q)
 tbls:=λc ps q=>by
  obtain⟨m1,e1⟩:=a.tbls c ps q;obtain⟨m2,e2⟩:=b.tbls c _ e1;exact⟨m1++m2,by rw[e2,vX]⟩
theorem Un.kept (k:∀b u,h.get? b=some u->h'.get? b=some u):Un fs ex H H h h':=
 ⟨λb ob q _ _ _=>k b ob q,λb ob q _ _ _=>⟨ob.slots,k b ob q⟩,λ_ _ _ n _=>n,λb ob q _=>⟨ob,k b ob q⟩,λ_ _ q=>q,λ_ _ _ q=>q,λ_ ps q=>⟨#[],by rw[q];simp⟩⟩
theorem Un.refl:Un fs ex H H h h:=Un.kept λ_ _ q=>q
theorem Un.laid (k:∀b u,h.get? b=some u->h'.get? b=some u) (hp:h.objs.size<=a) (hn:H a=none):Un fs ex H (upd H a o) h h' where
 keep:=λb u q _ _ _=>k b u q
 slot:=λb u q _ _ _=>⟨u.slots,k b u q⟩
 free:=λb u q n _=>by rw[AE (cg (bu (bh q) hp))];exact n
 there:=λb u q _=>⟨u,k b u q⟩
 tups:=λb xs q=>by rw[AE (AG q hn)];exact q
 frzs:=λb u xs q=>by rw[AE (AG q hn)];exact q
 tbls:=λb ps q=>⟨#[],by rw[AE (AG q hn),q];simp⟩
theorem Un.write (mu:Mut (H x)) (he:e=x\/H e=some (.own x)) (k:∀b u,b≠e->h.get? b=some u->h'.get? b=some u) (heo:∃u,h'.get? e=some u):Un fs ex H (upd H x o) h h':=by
 have hx:∀b,H b=none->b≠x:=λb n z=>by subst z;rw[n] at mu;exact mu
 have hb:∀b,H b=none->b≠e:=λb n z=>by
  subst z;rcases he with r|r
  ·exact hx b n r
  ·rw[n] at r;cases r
 have hm:∀b u,H b=some u->¬Mut (some u)->b≠x:=λb u q nm z=>by subst z;rw[q] at mu;exact nm mu
 refine⟨λb u q n _ _=>k b u (hb b n) q,λb u q n _ _=>⟨u.slots,k b u (hb b n) q⟩,λb u q n _=>by rw[AE (hx b n)];exact n,λb u q _=>?_,
  λb xs q=>by rw[AE (hm b _ q λz=>z)];exact q,λb u xs q=>by rw[AE (hm b _ q λz=>z)];exact q,λb ps q=>⟨#[],by rw[AE (hm b _ q λz=>z),q];simp⟩⟩
 by_cases hbe:b=e
 ·subst hbe;exact heo
 ·exact⟨u,k b u hbe q⟩
theorem Un.mono (u:Un fs ex H H1 h h1) (hs:∀b∈fs,b∈fs') (hx:∀b∈ex,b∈ex'):Un fs' ex' H H1 h h1:=
 ⟨λb ob q n hb he=>u.keep b ob q n (λz=>hb (hs b z)) λz=>he (hx b z),λ_ _ q n _ he=>u.any q n λz=>he (hx _ z),λb ob q n he=>u.free b ob q n λz=>he (hx b z),λb ob q he=>u.there b ob q λz=>he (hx b z),u.tups,u.frzs,u.tbls⟩
end
def trk (h:cq) (H:Hp):List ag:=(jm h.objs.size).filter λa=>(H a).isSome
def NK (h:cq) (H:Hp):cq:=PySem.W.hideAll h (trk h H)
theorem WB (h:cq) (H:Hp):(NK h H).objs.size=h.objs.size:=PySem.W.hideAll_size _ _
theorem XI {h:cq} {H:Hp} {b:ag} {o:Obj} (e:h.get? b=some o) (n:H b=none):(NK h H).get? b=some o:=
 PySem.W.hideAll_get _ e λhm=>by
  have q:(H b).isSome=true:=(xk.mp hm).2;rw[n] at q;simp at q
theorem bE {h:cq} {H:Hp} {b:ag} {o:Obj} (e:(NK h H).get? b=some o):h.get? b=some o/\H b=none:=by
 have e':h.get? b=some o:=PySem.W.of_hideAll (trk h H) e;refine⟨e',?_⟩;cases q:H b with
 |none=>rfl
 |some x=>
  have hm:b∈trk h H:=xk.mpr ⟨xC.mpr (bh e'),by simp[q]⟩;have z:(NK h H).get? b=none:=PySem.W.hideAll_none (trk h H) hm;rw[z] at e;cases e
def bF (g h:cq) (L:ag):List (ag×Obj):=(jm h.objs.size).filterMap λa=>if a=L\/(g.get? a).isSome=true then none else(h.get? a).map λo=>(a,o)
def z8 (g h:cq) (L d:ag):List (ag×Obj):=(bF g h L).filter λp=>decide (p.1≠d)
structure Mod (K:aa) (mg:Str->Option ah) (base:cq):Prop where
 kin:K.In base
 glob:base.Ns dq mg
 blt:∃mb,base.Ns uD mb/\∀x:Str,x≠"__name__"->mb x=jo x
 nolimit:base.NoLimit
structure Cx where
 prog:bb
 w:bw
 K:aa
 mg:Str->Option ah
 base:cq
 A:cz
 N:List Str
 s_0:aj
 H_0:Hp
 env:Env
 outer:List Env
 stack:List Env
 ex:List ag
 fn:Str->Bool
 calm:Bool
 pn:List (ag×Obj)
 xe:ah->aj->Prop
def frs (l:List Env):List ag:=l.filterMap (·.frame)
abbrev Cx.fs (X:Cx):List ag:=frs X.outer
def Vis (sc:ji) (x:Str):Prop:=sc.names.lookup x=some .local\/sc.names.lookup x=some .cell\/sc.names.lookup x=some .free
def Loc (sc:ji) (x:Str):Prop:=sc.names.lookup x=some .local\/sc.names.lookup x=some .cell
def qF (env:Env) (h:cq) (m:Str->Option ah) (x:Str) (u:ah):Prop:=
 (env.kindOf x=some .local/\m x=some u)\/((env.kindOf x=some .cell\/env.kindOf x=some .free)/\∃c,env.cells.lookup x=some c/\h.IsCell c (some u))
structure Cx.Ok (X:Cx):Prop where
 mod:Mod X.K X.mg X.base
 kind:X.env.scope.kind= .function
 glob:X.env.globals=dq
 blt:X.env.builtins=uD
 above:X.s_0.heap.objs.size<=X.env.locals
 inj:∀x y c,X.env.cells.lookup x=some c->X.env.cells.lookup y=some c->x=y
 has:∀x,(X.env.kindOf x=some .cell\/X.env.kindOf x=some .free)->∃c,X.env.cells.lookup x=some c
 cab:∀x c,X.fn x=true->X.env.cells.lookup x=some c->X.s_0.heap.objs.size<=c
 hd:X.calm=true->X.A.handled=none
 frames:X.A.frames=some X.stack
 stk:X.stack=X.outer\/(X.stack=X.env::X.outer/\X.env.frame=some X.env.locals)
 exf:∀b∈X.ex,b≠X.env.locals/\∀x c,X.env.cells.lookup x=some c->c≠b
 bs:∀b o,X.base.get? b=some o->X.s_0.heap.get? b=some o/\X.H_0 b=none
 bsz:X.base.objs.size<=X.s_0.heap.objs.size
 noex:∀b o,X.base.get? b=some o->b∉X.ex
 exfs:∀b∈X.ex,b∉X.fs
 funs:X.s_0.heap.FunFrames X.base X.outer
 frf:∀b∈X.fs,X.H_0 b=none
structure Inv (X:Cx) (z7:List (ag×Obj)) (σ:List (Option V)) (H:Hp) (s:aj):Prop where
 ok:X.Ok
 os:s.os=X.s_0.os
 bare:uE s.gens
 base:Un X.fs X.ex X.H_0 H X.s_0.heap s.heap
 loc:∃m,s.heap.Ns X.env.locals m/\∀(i:Nat) (x:Str) (v:V),X.N[i]? =some x->σ[i]? =some (some v)->Vis X.env.scope x->∃u,RelV v u/\qF X.env s.heap m x u
 cell:∀x c,X.env.cells.lookup x=some c->∃v,s.heap.IsCell c v
 free:H X.env.locals=none
 freeC:∀x c,X.env.cells.lookup x=some c->H c=none
 pin:∀p∈X.pn++z7,s.heap.get? p.1=some p.2/\H p.1=none/\p.1≠X.env.locals/\p.1∉X.fs/\∀v,p.2.data≠.cell v
 hok:HOk X.prog X.w H s.heap
 len:σ.length=X.N.length
section
variable {X:Cx} {z7:List (ag×Obj)} {σ:List (Option V)} {H H':Hp} {s:aj} {h':cq}
theorem Cx.Ok.nofr (ok:X.Ok) {b:ag} {o:Obj} (e:X.base.get? b=some o):b∉X.fs:=λhb=>by
 have:=(ok.funs.mem hb).1;rw[e] at this;cases this
theorem Inv.bs (I:Inv X z7 σ H s):∀b o,X.base.get? b=some o->s.heap.get? b=some o/\H b=none:=λb o e=>
 ⟨I.base.keep b o (I.ok.bs b o e).1 (I.ok.bs b o e).2 (I.ok.nofr e) (I.ok.noex b o e),I.base.free b o (I.ok.bs b o e).1 (I.ok.bs b o e).2 (I.ok.noex b o e)⟩
theorem Inv.bk (I:Inv X z7 σ H s):∀b o,X.base.get? b=some o->s.heap.get? b=some o:=λb o e=>(I.bs b o e).1
theorem Inv.mod (I:Inv X z7 σ H s):Mod X.K X.mg X.base:=I.ok.mod
theorem Inv.kIn (I:Inv X z7 σ H s):X.K.In s.heap:=I.ok.mod.kin.keeps I.bk
theorem Inv.nolimit (I:Inv X z7 σ H s):s.heap.NoLimit:=I.ok.mod.nolimit.keeps I.bk
theorem Inv.fr (I:Inv X z7 σ H s):∃m,Fr X.base X.env.locals s.heap m:=
 let ⟨m,hn,_⟩:=I.loc
 ⟨m,hn,I.bk,cw I.ok.bsz I.ok.above⟩
theorem Inv.lt (I:Inv X z7 σ H s):X.env.locals<s.heap.objs.size:=let ⟨_,hn,_⟩:=I.loc;hn.lt
theorem Inv.sz (I:Inv X z7 σ H s):X.s_0.heap.objs.size<=s.heap.objs.size:=cw I.ok.above (rg I.lt)
theorem Inv.nofs (I:Inv X z7 σ H s) {a:ag} (h:s.heap.objs.size<=a):a∉X.fs:=λhb=>by
 obtain⟨_,o,ho,_⟩:=I.ok.funs.mem hb;exact absurd (bu (bh ho) (cw I.sz h)) (iy _)
theorem Inv.cne (I:Inv X z7 σ H s):∀x c,X.env.cells.lookup x=some c->c≠X.env.locals:=λx c e z=>by
 obtain⟨v,o,ho,hd⟩:=I.cell x c e;obtain⟨m,⟨o',es,ep,ho',hd',_⟩,_⟩:=I.loc;rw[z,ho'] at ho;cases ho;rw[hd'] at hd;cases hd
theorem Inv.funs (I:Inv X z7 σ H s):s.heap.FunFrames X.base X.outer:=by
 have all:∀(l:List Env),(∀b∈frs l,b∈X.fs)->X.s_0.heap.FunFrames X.base l->s.heap.FunFrames X.base l:=by
  intro l;induction l with
  |nil=>intro _ _;trivial
  |cons env r ih=>
   intro hs hl;obtain⟨hk,⟨L,o,hf,hn,ho,hd⟩,hr⟩:=hl;have hL:L∈X.fs:=hs L (by unfold frs;rw[sG,hf];exact bc);obtain⟨sl,e⟩:=I.base.slot L o ho (I.ok.frf L hL) hL λz=>I.ok.exfs L z hL;exact⟨hk,⟨L,_,hf,hn,e,hd⟩,ih (λb hb=>hs b (by unfold frs;rw[sG,hf];exact aq _ hb)) hr⟩
 exact all X.outer (λ_ hb=>hb) I.ok.funs
theorem Inv.stack (I:Inv X z7 σ H s):s.heap.FunFrames X.base X.stack:=by
 rcases I.ok.stk with e|⟨e,hf⟩
 ·rw[e];exact I.funs
 ·rw[e];obtain⟨m,hn,_⟩:=I.loc;refine .cons (by rw[I.ok.kind];decide) hf hn ?_ I.funs;exact Heap.get?_none_of_le (cw I.ok.bsz I.ok.above)
theorem Inv.stkSub (I:Inv X z7 σ H s):∀b∈frs X.stack,b∈X.env.locals::X.fs:=λb hb=>by
 rcases I.ok.stk with e|⟨e,hf⟩
 ·rw[e] at hb;exact aq _ hb
 ·rw[e] at hb;unfold frs at hb;rw[sG,hf] at hb;exact hb
theorem Inv.stkFree (I:Inv X z7 σ H s):∀b∈frs X.stack,H b=none:=λb hb=>by
 rcases bg.mp (I.stkSub b hb) with e|hb
 ·rw[e];exact I.free
 ·obtain⟨_,o,ho,_⟩:=I.ok.funs.mem hb;exact I.base.free b o ho (I.ok.frf b hb) λz=>I.ok.exfs b z hb
theorem Inv.step {g':Array GenState} {t':Nat} {d':Drawn} {ch:List ag} (I:Inv X z7 σ H s)
 (hch:∀b∈ch,(b∈X.ex\/X.s_0.heap.objs.size<=b)/\b≠X.env.locals/\(∀x c,X.env.cells.lookup x=some c->c≠b)/\∀p∈X.pn++z7,p.1≠b)
 (keep:∀b o,b≠X.env.locals->b∉X.fs->b∉ch->s.heap.get? b=some o->H b=none->h'.get? b=some o)
 (slot:∀b o,b≠X.env.locals->b∈X.fs->b∉ch->s.heap.get? b=some o->H b=none->∃sl,h'.get? b=some { o with slots:=sl }) (free:∀b o,b∉ch->s.heap.get? b=some o->H b=none->H' b=none)
 (there:∀b o,b∉ch->s.heap.get? b=some o->∃o',h'.get? b=some o')
 (tups:∀b xs,H b=some (.tup xs)->H' b=some (.tup xs)) (frzs:∀b o u,H b=some (.frz o u)->H' b=some (.frz o u)) (tbls:∀b ps,H b=some (.tbl ps)->∃more,H' b=some (.tbl (ps++more)))
 (ns:∀m,s.heap.Ns X.env.locals m->h'.Ns X.env.locals m) (hok:HOk X.prog X.w H' h') (hg:uE g'):
 Inv X z7 σ H' { s with heap:=h',gens:=g',drawn:=d',toks:=t' }:=by
 have neL:∀b o,X.s_0.heap.get? b=some o->b≠X.env.locals:=λb o e=>cg (bu (bh e) I.ok.above);have neC:∀b o,X.s_0.heap.get? b=some o->b∉X.ex->b∉ch:=λb o e hx hb=>by
  rcases(hch b hb).1 with z|z
  ·exact hx z
  ·exact absurd (bu (bh e) z) (iy _)
 have cellK:∀x c,X.env.cells.lookup x=some c->∀v,s.heap.IsCell c v->h'.IsCell c v:=λx c e v ⟨o,ho,hd⟩=>by
  have nch:c∉ch:=λz=>(hch c z).2.2.1 x c e rfl;by_cases hc:c∈X.fs
  ·obtain⟨sl,q⟩:=slot c o (I.cne x c e) hc nch ho (I.freeC x c e);exact⟨_,q,hd⟩
  ·exact⟨o,keep c o (I.cne x c e) hc nch ho (I.freeC x c e),hd⟩
 refine⟨I.ok,I.os,hg,⟨λb o e n hb hx=>?_,λb o e n hb hx=>?_,λb o e n hx=>?_,λb o e hx=>?_,λb xs e=>tups b xs (I.base.tups b xs e),λb o xs e=>frzs b o xs (I.base.frzs b o xs e),λb ps e=>?_⟩,?_,λx c e=>?_,?_,λx c e=>?_,λp hp=>?_,hok,I.len⟩
 ·exact keep b o (neL b o e) hb (neC b o e hx) (I.base.keep b o e n hb hx) (I.base.free b o e n hx)
 ·obtain⟨sl,e1⟩:=I.base.slot b o e n hb hx;obtain⟨sl',e2⟩:=slot b _ (neL b o e) hb (neC b o e hx) e1 (I.base.free b o e n hx);exact⟨sl',e2⟩
 ·obtain⟨o',e1⟩:=I.base.there b o e hx;exact free b o' (neC b o e hx) e1 (I.base.free b o e n hx)
 ·obtain⟨o',e1⟩:=I.base.there b o e hx;exact there b o' (neC b o e hx) e1
 ·obtain⟨m1,e1⟩:=I.base.tbls b ps e;obtain⟨m2,e2⟩:=tbls b _ e1;exact⟨m1++m2,by rw[e2,vX]⟩
 ·obtain⟨m,hn,hl⟩:=I.loc;refine⟨m,ns m hn,λi x v e1 e2 e3=>?_⟩;obtain⟨u,r,l⟩:=hl i x v e1 e2 e3;refine⟨u,r,?_⟩;rcases l with l|⟨k,c,e,z⟩
  ·exact .inl l
  ·exact .inr ⟨k,c,e,cellK x c e _ z⟩
 ·obtain⟨v,z⟩:=I.cell x c e;exact⟨v,cellK x c e v z⟩
 ·obtain⟨m,⟨o,_,_,ho,_⟩,_⟩:=I.loc;exact free _ o (λz=>(hch _ z).2.1 rfl) ho I.free
 ·obtain⟨v,o,ho,hd⟩:=I.cell x c e;exact free c o (λz=>(hch c z).2.2.1 x c e rfl) ho (I.freeC x c e)
 ·obtain⟨e,n,ne,nf,d⟩:=I.pin p hp;have nch:p.1∉ch:=λz=>(hch p.1 z).2.2.2 p hp rfl;exact⟨keep p.1 p.2 ne nf nch e n,free p.1 p.2 nch e n,ne,nf,d⟩
theorem Inv.un {t':Nat} (I:Inv X z7 σ H s) (u:Un X.fs [] H H' s.heap h') (hok:HOk X.prog X.w H' h'):Inv X z7 σ H' { s with heap:=h',toks:=t' }:=by
 obtain⟨m,⟨o,es,ep,ho,r⟩,_⟩:=id I.loc;obtain⟨sl,hL⟩:=u.any ho I.free (by simp);exact I.step (g':=s.gens) (d':=s.drawn) (ch:=[]) (λ_ z=>nomatch z) (λb o _ hb _ e n=>u.keep b o e n hb (by simp)) (λb o _ hb _ e n=>u.slot b o e n hb (by simp)) (λb o _ e n=>u.free b o e n (by simp)) (λb o _ e=>u.there b o e (by simp)) u.tups u.frzs u.tbls (λm' hm=>by
  obtain⟨o',es',ep',ho',r'⟩:=hm;rw[ho] at ho';cases ho';exact⟨_,es',ep',hL,r'⟩) hok I.bare
theorem Inv.call {g':Array GenState} {t':Nat} {d':Drawn} {ch:List ag} (I:Inv X z7 σ H s) (u:Un (frs X.stack) ch H H' s.heap h') (hok:HOk X.prog X.w H' h') (hg:uE g')
 (hch:∀b∈ch,(b∈X.ex\/X.s_0.heap.objs.size<=b)/\b≠X.env.locals/\(∀x c,X.env.cells.lookup x=some c->c≠b)/\∀p∈X.pn++z7,p.1≠b):
 Inv X z7 σ H' { s with heap:=h',gens:=g',drawn:=d',toks:=t' }:=by
 obtain⟨m,⟨o,es,ep,ho,r⟩,_⟩:=id I.loc;obtain⟨sl,hL⟩:=u.any ho I.free λz=>(hch _ z).2.1 rfl;exact I.step (ch:=ch) hch (λb o hL hb hc e n=>u.keep b o e n (λz=>(bg.mp (I.stkSub b z)).elim hL hb) hc) (λb o _ _ hc e n=>u.any e n hc) (λb o hc e n=>u.free b o e n hc) (λb o hc e=>u.there b o e hc) u.tups u.frzs u.tbls (λm' hm=>by
  obtain⟨o',es',ep',ho',r'⟩:=hm;rw[ho] at ho';cases ho';exact⟨_,es',ep',hL,r'⟩) hok hg
theorem Inv.turned {t':Nat} {it:ag} (I:Inv X z7 σ H s) (k:∀b o,b≠it->s.heap.get? b=some o->h'.get? b=some o) (hn:H it=none) (hL:it≠X.env.locals)
 (h1:it∈X.ex\/X.s_0.heap.objs.size<=it) (h2:∀x c,X.env.cells.lookup x=some c->c≠it) (h3:∀p∈X.pn++z7,p.1≠it):Inv X z7 σ H { s with heap:=h',toks:=t' }:=by
 have nit:∀b u,H b=some u->b≠it:=λb u e z=>by rw[z,hn] at e;cases e
 refine I.step (g':=s.gens) (d':=s.drawn) (ch:=[it]) (λb hb=>?_) (λb o _ _ hc e _=>k b o (λz=>hc (by simp[z])) e) (λb o _ _ hc e _=>⟨o.slots,k b o (λz=>hc (by simp[z])) e⟩) (λ_ _ _ _ n=>n)
  (λb o hc e=>⟨o,k b o (λz=>hc (by simp[z])) e⟩) (λ_ _ e=>e) (λ_ _ _ e=>e) (λb ps e=>⟨#[],by rw[e];simp⟩) (λm hm=>?_) (λb u e=>?_) I.bare
 ·have e:b=it:=by simpa using hb
  subst e;exact⟨h1,hL,h2,h3⟩
 ·obtain⟨o,es,ep,ho,r⟩:=hm;exact⟨o,es,ep,k _ o (cr hL) ho,r⟩
 ·refine(I.hok b u e).stay (λc v hc q=>k c v ?_ q) (λ_ q=>q) λ_ _ q=>q;rcases hc with z|z
  ·rw[z];exact nit b u e
  ·exact nit c _ z
theorem Inv.tok (I:Inv X z7 σ H s) (t:Nat):Inv X z7 σ H { s with toks:=t }:=I.un (h':=s.heap) (t':=t) Un.refl I.hok
theorem Inv.kept {t':Nat} (I:Inv X z7 σ H s) (k:∀b u,s.heap.get? b=some u->h'.get? b=some u):Inv X z7 σ H { s with heap:=h',toks:=t' }:=I.un (Un.kept k) (I.hok.kept k)
theorem Inv.laid {a:ag} {o:HO} {t':Nat} (I:Inv X z7 σ H s) (k:∀b u,s.heap.get? b=some u->h'.get? b=some u) (hp:s.heap.objs.size<=a) (new:ObjOk X.prog X.w (upd H a o) h' a o):
 Inv X z7 σ (upd H a o) { s with heap:=h',toks:=t' }:=I.un (Un.laid k hp (I.hok.fresh hp)) (I.hok.laid k hp new)
theorem Inv.write {x e:ag} {o:HO} {t':Nat} (I:Inv X z7 σ H s) (mu:Mut (H x)) (he:e=x\/H e=some (.own x)) (k:∀b u,b≠e->s.heap.get? b=some u->h'.get? b=some u) (heo:∃u,h'.get? e=some u)
 (new:ObjOk X.prog X.w (upd H x o) h' x o):Inv X z7 σ (upd H x o) { s with heap:=h',toks:=t' }:=I.un (Un.write mu he k heo) (I.hok.write mu he k heo new)
theorem Inv.weak {σ':List (Option V)} (I:Inv X z7 σ H s) (hl:σ'.length=σ.length) (w:∀(i:Nat) v,σ'[i]? =some (some v)->σ[i]? =some (some v)):Inv X z7 σ' H s:=
 ⟨I.ok,I.os,I.bare,I.base,let ⟨m,hn,hl'⟩:=I.loc;⟨m,hn,λi x v e1 e2 e3=>hl' i x v e1 (w i v e2) e3⟩,I.cell,I.free,I.freeC,I.pin,I.hok,hl.trans I.len⟩
theorem Inv.pins_of {pins':List (ag×Obj)} (I:Inv X z7 σ H s) (h:∀p∈pins',s.heap.get? p.1=some p.2/\H p.1=none/\p.1≠X.env.locals/\p.1∉X.fs/\∀v,p.2.data≠.cell v):Inv X pins' σ H s:=
 ⟨I.ok,I.os,I.bare,I.base,I.loc,I.cell,I.free,I.freeC,λp hp=>(cn.mp hp).elim (λz=>I.pin p (rX _ z)) (h p),I.hok,I.len⟩
theorem LR {N:List Str} (hN:N.Nodup) {i j:Nat} {x:Str} (a:N[i]? =some x) (b:N[j]? =some x):i=j:=by
 obtain⟨h1,e1⟩:=au.mp a;obtain⟨h2,e2⟩:=au.mp b;exact(wF hN).mp (e1.trans e2.symm)
theorem NU {M:w9} {A:cz} {E:ah->aj->Prop} {i:Nat} {x:Str} {v:V} {u:ah} {Q:Unit->aj->Prop} (I:Inv X z7 σ H s) (hN:X.N.Nodup) (hi:X.N[i]? =some x) (hx:Loc X.env.scope x) (r:RelV v u)
 (h:∀s',Inv X z7 (σ.set i (some v)) H s'->(∃a,pd a s.heap s'.heap/\(a=X.env.locals\/X.env.cells.lookup x=some a))->Q () s') (hf:X.fn x=true\/X.env.scope.names.lookup x=some .local:=by first|exact .inl rfl|exact .inr rfl|assumption):bf M A (yL X.env x u) Q E s:=by
 obtain⟨m,hn,hl⟩:=id I.loc;have hcls:(X.env.scope.kind==.class||(X.env.scope.kind==.module&&X.env.locals != X.env.globals))=false:=by rw[I.ok.kind];rfl
 have hiσ:i<σ.length:=by rw[I.len];exact(au.mp hi).1
 have cne:=I.cne;have tracked:∀{a:ag} {h':cq},(∃o,s.heap.get? a=some o/\H a=none)->pd a s.heap h'->HOk X.prog X.w H h':=λ{a h'} ha hs b ob e=>by
  obtain⟨_,_,hfree⟩:=ha;refine(I.hok b ob e).stay (λc w' hc q=>(hs.2 c ?_).trans q) (λ_ q=>q) λ_ _ q=>q;rintro rfl;rcases hc with rfl|hc
  ·rw[hfree] at e;cases e
  ·rw[hfree] at hc;cases hc
 rcases hx with hk|hk
 ·refine wpAny_storeName_local hk hn (λh' hn' hs=>?_) hcls;obtain⟨oL,_,_,hoL,_⟩:=id hn;refine h _ ⟨I.ok,I.os,I.bare,⟨λb o e n hb hx=>?_,λb o e n hb hx=>?_,I.base.free,λb o e hx=>?_,I.base.tups,I.base.frzs,I.base.tbls⟩,⟨_,hn',λj y v' e1 e2 e3=>?_⟩,λy c e=>?_,I.free,I.freeC,λp hp=>?_,tracked ⟨oL,hoL,I.free⟩ hs,by simpa using I.len⟩ ⟨_,hs,.inl rfl⟩
  ·exact(hs.2 b (cg (bu (bh e) I.ok.above))).trans (I.base.keep b o e n hb hx)
  ·obtain⟨sl,e1⟩:=I.base.slot b o e n hb hx;exact⟨sl,(hs.2 b (cg (bu (bh e) I.ok.above))).trans e1⟩
  ·obtain⟨o',e1⟩:=I.base.there b o e hx;exact⟨o',(hs.2 b (cg (bu (bh e) I.ok.above))).trans e1⟩
  ·by_cases hj:j=i
   ·subst hj;rw[hi] at e1;cases e1;rw[mx hiσ] at e2;cases e2;exact⟨u,r,.inl ⟨hk,by simp⟩⟩
   ·rw[rY (cr hj)] at e2;obtain⟨u',r',q⟩:=hl j y v' e1 e2 e3;refine⟨u',r',?_⟩;rcases q with⟨k,e⟩|⟨k,c,e,z⟩
    ·refine .inl ⟨k,?_⟩;have:y≠x:=λe=>hj (LR hN e1 (e▸hi));simp[this,e]
    ·exact .inr ⟨k,c,e,z.sameBut hs (cne y c e)⟩
  ·obtain⟨w',z⟩:=I.cell y c e;exact⟨w',z.sameBut hs (cne y c e)⟩
  ·obtain⟨e,n,ne,nf,d⟩:=I.pin p hp;exact⟨(hs.2 p.1 ne).trans e,n,ne,nf,d⟩
 ·have hfn:X.fn x=true:=by
   rcases hf with z|z
   ·exact z
   ·rw[z] at hk;cases hk
  obtain⟨c,hc⟩:=I.ok.has x (.inl hk);obtain⟨w',z⟩:=I.cell x c hc;refine wpAny_storeName_cell I.ok.kind hk hc z (λh' hc' hs=>?_);obtain⟨oc,hoc,hocd⟩:=id z;refine h { s with heap:=h' } ⟨I.ok,I.os,I.bare,⟨λb o e n hb hx=>?_,λb o e n hb hx=>?_,I.base.free,λb o e hx=>?_,I.base.tups,I.base.frzs,I.base.tbls⟩,⟨m,hn.sameBut hs (cr (cne x c hc)),λj y v' e1 e2 e3=>?_⟩,λy c' e=>?_,I.free,I.freeC,λp hp=>?_,tracked ⟨oc,hoc,I.freeC x c hc⟩ hs,by simpa using I.len⟩ ⟨c,hs,.inr hc⟩
  ·exact(hs.2 b (cg (bu (bh e) (I.ok.cab x c hfn hc)))).trans (I.base.keep b o e n hb hx)
  ·obtain⟨sl,e1⟩:=I.base.slot b o e n hb hx;exact⟨sl,(hs.2 b (cg (bu (bh e) (I.ok.cab x c hfn hc)))).trans e1⟩
  ·obtain⟨o',e1⟩:=I.base.there b o e hx;exact⟨o',(hs.2 b (cg (bu (bh e) (I.ok.cab x c hfn hc)))).trans e1⟩
  ·by_cases hj:j=i
   ·subst hj;rw[hi] at e1;cases e1;rw[mx hiσ] at e2;cases e2;exact⟨u,r,.inr ⟨.inl hk,c,hc,hc'⟩⟩
   ·rw[rY (cr hj)] at e2;obtain⟨u',r',q⟩:=hl j y v' e1 e2 e3;refine⟨u',r',?_⟩;rcases q with q|⟨k,c',e,z'⟩
    ·exact .inl q
    ·refine .inr ⟨k,c',e,z'.sameBut hs ?_⟩;rintro rfl;exact hj (LR hN e1 (I.ok.inj _ _ _ e hc▸hi))
  ·by_cases hcc:c'=c
   ·subst hcc;exact⟨_,hc'⟩
   ·obtain⟨w2,z2⟩:=I.cell y c' e;exact⟨w2,z2.sameBut hs hcc⟩
  ·obtain⟨e,n,ne,nf,d⟩:=I.pin p hp;refine⟨(hs.2 p.1 ?_).trans e,n,ne,nf,d⟩;intro q;rw[q,hoc] at e;have q':oc=p.2:=cu e;exact d w' (by rw[←q'];exact hocd)
theorem IS {M:w9} {A:cz} {E:ah->aj->Prop} {i:Nat} {x:Str} {v:V} {u:ah} {Q:Unit->aj->Prop} (I:Inv X z7 σ H s) (hN:X.N.Nodup) (hi:X.N[i]? =some x) (hx:Loc X.env.scope x) (r:RelV v u)
 (h:∀s',Inv X z7 (σ.set i (some v)) H s'->Q () s') (hf:X.fn x=true\/X.env.scope.names.lookup x=some .local:=by first|exact .inl rfl|exact .inr rfl|assumption):bf M A (yL X.env x u) Q E s:=
 NU I hN hi hx r (λs' I' _=>h s' I') hf
theorem Inv.call' {s':aj} {ch:List ag} (I:Inv X z7 σ H s) (ho:s'.os=s.os) (u:Un (frs X.stack) ch H H' s.heap s'.heap) (hok:HOk X.prog X.w H' s'.heap) (hg:uE s'.gens)
 (hch:∀b∈ch,(b∈X.ex\/X.s_0.heap.objs.size<=b)/\b≠X.env.locals/\(∀x c,X.env.cells.lookup x=some c->c≠b)/\∀p∈X.pn++z7,p.1≠b):Inv X z7 σ H' s':=by
 obtain⟨h',g',d',t',o'⟩:=s';have e:o'=s.os:=ho;subst e;exact I.call (g':=g') (t':=t') (d':=d') u hok hg hch
end
abbrev XK:=ah->Option ag->Hp->Prop
abbrev St:=List (Option V)
abbrev VK:=V->Hp->Prop
abbrev TE:=St->Hp->VK->Prop
abbrev TT:=St->Hp->(Bool->Hp->Prop)->Prop
abbrev TA:=St->Hp->(List V->Hp->Prop)->Prop
structure Ends where
 nx:St->Hp->Prop
 rt:VK
 bk:St->Hp->Prop:=λ_ _=>False
 ct:St->Hp->Prop:=λ_ _=>False
abbrev TS:=Ends->St->Hp->Prop
def EP (X:Cx) (z7:List (ag×Obj)) (σ:St) (Q:VK) (u:ah) (s':aj):Prop:=Ex2 λv H'=>Inv X z7 σ H' s'/\RelV v u/\Q v H'
def TP (X:Cx) (z7:List (ag×Obj)) (σ:St) (Q:Bool->Hp->Prop) (b:Bool) (s':aj):Prop:=∃H',Inv X z7 σ H' s'/\Q b H'
def AP (X:Cx) (z7:List (ag×Obj)) (σ:St) (Q:List V->Hp->Prop) (us:List ah) (s':aj):Prop:=Ex2 λvs H'=>Inv X z7 σ H' s'/\Vals vs us/\Q vs H'
def SP (X:Cx) (z7:List (ag×Obj)) (D:Ends) (f:Flow) (s':aj):Prop:=
 match f with
 | .next=>Ex2 λσ' H'=>Inv X z7 σ' H' s'/\D.nx σ' H'
 | .brk=>Ex2 λσ' H'=>Inv X z7 σ' H' s'/\D.bk σ' H'
 | .cont=>Ex2 λσ' H'=>Inv X z7 σ' H' s'/\D.ct σ' H'
 | .ret u=>Ex3 λv σ' H'=>Inv X z7 σ' H' s'/\RelV v u/\D.rt v H'
def PE (X:Cx) (e:Expr) (t:TE):Prop:=
 ∀(z7:List (ag×Obj)) (s:aj) (σ:St) (H:Hp) (Q:VK),Inv X z7 σ H s->t σ H Q->bf (bi X.prog X.w) X.A (eval e X.env) (EP X z7 σ Q) X.xe s
def PT (X:Cx) (e:Expr) (t:TT):Prop:=
 ∀(z7:List (ag×Obj)) (s:aj) (σ:St) (H:Hp) (Q:Bool->Hp->Prop),Inv X z7 σ H s->t σ H Q->bf (bi X.prog X.w) X.A (wG e X.env (eval e X.env)) (TP X z7 σ Q) X.xe s
def PW (X:Cx) (e:Expr) (t:TT):Prop:=
 ∀(whole:Sem ah) (z7:List (ag×Obj)) (s:aj) (σ:St) (H:Hp) (Q:Bool->Hp->Prop),Inv X z7 σ H s->t σ H Q->bf (bi X.prog X.w) X.A (wG e X.env whole) (TP X z7 σ Q) X.xe s
theorem PW.pt {X:Cx} {e:Expr} {t:TT} (h:PW X e t):PT X e t:=h _
def PA (X:Cx) (es:List Expr) (t:TA):Prop:=
 ∀(pos:Pos) (z7:List (ag×Obj)) (s:aj) (σ:St) (H:Hp) (Q:List V->Hp->Prop),Inv X z7 σ H s->t σ H Q->bf (bi X.prog X.w) X.A (yR (ig pos (be es X.env))) (AP X z7 σ Q) X.xe s
def PS (X:Cx) (st:dh) (t:TS):Prop:=
 ∀(z7:List (ag×Obj)) (s:aj) (σ:St) (H:Hp) (D:Ends),Inv X z7 σ H s->t D σ H->bf (bi X.prog X.w) X.A (exec st X.env) (SP X z7 D) X.xe s
def PSs (X:Cx) (st:List dh) (t:TS):Prop:=
 ∀(z7:List (ag×Obj)) (s:aj) (σ:St) (H:Hp) (D:Ends),Inv X z7 σ H s->t D σ H->bf (bi X.prog X.w) X.A (execs st X.env) (SP X z7 D) X.xe s
theorem thn {α:Type} {t:Sem α} {Q Q':α->aj->Prop} {M:w9} {A:cz} {E:ah->aj->Prop} {s:aj} (h:bf M A t Q E s) (hQ:∀a s,Q a s->Q' a s):bf M A t Q' E s:=gr h hQ λ_ _ x=>x
section
variable {X:Cx}
theorem bin {a b:Expr} {ta tb:TE} (ha:PE X a ta) (hb:PE X b tb) {z7:List (ag×Obj)} {s:aj} {σ:St} {H:Hp} {R:V->V->Hp->Prop} (I:Inv X z7 σ H s) (h:ta σ H λx H1=>tb σ H1 λy H2=>R x y H2)
 {α:Type} {Q:α->aj->Prop} {f:ah->ah->Sem α}
 (hf:∀v u s2 x y H2,Inv X z7 σ H2 s2->RelV x v->RelV y u->R x y H2->bf (bi X.prog X.w) X.A (f v u) Q X.xe s2):
 bf (bi X.prog X.w) X.A (eval a X.env) (λv s₁=>bf (bi X.prog X.w) X.A (eval b X.env) (λu s₂=>bf (bi X.prog X.w) X.A (f v u) Q X.xe s₂) X.xe s₁) X.xe s:=by
 refine thn (ha z7 s σ H _ I h) λv s1 ⟨x,H1,I1,r1,q1⟩=>?_;refine thn (hb z7 s1 σ H1 _ I1 q1) λu s2 ⟨y,H2,I2,r2,q2⟩=>?_;exact hf v u s2 x y H2 I2 r1 r2 q2
inductive VarAt (o:Option (Option V)) (Q:V->Prop):Prop
 |intro(v:V) (e:o=some (some v)) (h:Q v):VarAt o Q
inductive BlAt (x:V) (Q:Bool->Prop):Prop
 |intro(c:Bool) (e:x= .bl c) (h:Q c):BlAt x Q
inductive I1At (x:V) (Q:Int->Prop):Prop
 |intro(i:Int) (e:x= .int i) (h:Q i):I1At x Q
inductive I2At (x y:V) (Q:Int->Int->Prop):Prop
 |intro(i j:Int) (e:x= .int i) (e':y= .int j) (h:Q i j):I2At x y Q
def BT (i:Nat):TE:=λσ H Q=>VarAt σ[i]? λv=>Q v H
def tC (v:V):TE:=λ_ H Q=>Q v H
theorem fL {i:Nat} {x:Str} {pos:Pos} (hN:X.N[i]? =some x) (hv:Vis X.env.scope x) (hd:(x==("__debug__":Str))=false:=by decide) (hcd:(x==("__classdict__":Str))=false:=by decide):PE X (.Name x pos) (BT i):=by
 intro z7 s σ H Q I h;obtain⟨v,e,h⟩:=h;obtain⟨m,hn,hl⟩:=I.loc;obtain⟨u,r,l⟩:=hl i x v hN e hv;have fin:EP X z7 σ Q u s:=⟨v,H,I,r,h⟩
 rcases l with⟨hk,hm⟩|⟨hk,c,hc,hcell⟩
 ·exact xD (vf I.ok.kind hk hn hm fin) hd
 ·rcases hk with hk|hk
  ·exact xD (vI I.ok.kind hk hc hcell fin) hd
  ·exact xD (wpAny_loadName_free I.ok.kind hk hc hcell fin hcd) hd
theorem AI {i j pos}:PE X (.Constant (.int i) j pos) (tC (.int i)):=λ_ _ _ H _ I h=>wpAny_Constant_int ⟨.int i,H,I.tok _,⟨_,rfl⟩,h⟩
theorem QF {b j pos}:PE X (.Constant (.bool b) j pos) (tC (.bl b)):=λ_ _ _ H _ I h=>Constant_bool ⟨.bl b,H,I,rfl,h⟩
theorem RX {j pos}:PE X (.Constant .none j pos) (tC .non):=λ_ _ _ H _ I h=>Constant_none ⟨.non,H,I,rfl,h⟩
theorem AS {x j pos}:PE X (.Constant (.str x) j pos) (tC (.str x)):=λ_ _ _ H _ I h=>Calls.Constant_str ⟨.str x,H,I.tok _,⟨_,rfl⟩,h⟩
def Gl (X:Cx) (x:Str):Prop:=X.env.kindOf x=some .globalImplicit
theorem EN {E:ah->aj->Prop} {z7:List (ag×Obj)} {s:aj} {σ:St} {H:Hp} {x:Str} {u:ah} {pos:Pos} {Q:ah->aj->Prop} (I:Inv X z7 σ H s) (hg:Gl X x) (hm:X.mg x=some u) (h:Q u s)
 (hd:(x==("__debug__":Str))=false:=by decide):bf (bi X.prog X.w) X.A (eval (.Name x pos) X.env) Q E s:=
 sS I.ok.kind hg (Calls.loadGlobal_global (by rw[I.ok.glob];exact I.mod.glob.keeps I.bk) hm h) hd
theorem ET {E:ah->aj->Prop} {z7:List (ag×Obj)} {s:aj} {σ:St} {H:Hp} {x:Str} {u:ah} {pos:Pos} {Q:ah->aj->Prop} (I:Inv X z7 σ H s) (hg:Gl X x) (hm:X.mg x=none) (hv:jo x=some u) (h:Q u s)
 (hn:x≠"__name__":=by decide) (hd:(x==("__debug__":Str))=false:=by decide):bf (bi X.prog X.w) X.A (eval (.Name x pos) X.env) Q E s:=by
 obtain⟨mb,h1,h2⟩:=I.mod.blt;exact sS I.ok.kind hg (Calls.loadGlobal_builtin (by rw[I.ok.glob];exact I.mod.glob.keeps I.bk) hm (by rw[I.ok.blt];exact h1.keeps I.bk) ((h2 x hn).trans hv) h) hd
theorem OX {x:Str} {v:V} {u:ah} {pos:Pos} (hg:Gl X x) (hm:X.mg x=some u) (r:RelV v u) (hd:(x==("__debug__":Str))=false:=by decide):PE X (.Name x pos) (tC v):=
 λ_ _ _ H _ I h=>EN I hg hm ⟨v,H,I,r,h⟩ hd
variable {a b:Expr} {ta tb:TE} {pos:Pos}
def PC (X:Cx) (op:yM) (a b:Expr) (t:TE):Prop:=
 ∀(z7:List (ag×Obj)) (s:aj) (σ:St) (H:Hp) (Q:VK),Inv X z7 σ H s->t σ H Q->
  bf (bi X.prog X.w) X.A (eval a X.env) (λv s₁=>bf (bi X.prog X.w) X.A (eval b X.env) (λu s₂=>bf (bi X.prog X.w) X.A (ki op v u) (EP X z7 σ Q) X.xe s₂) X.xe s₁) X.xe s
theorem XJ (b:Expr) {op:yM} (h:op≠.In) (h2:op≠.NotIn):oe op b=false:=by
 have e1:(op==z6)=false:=by cases op<;>first|rfl|exact absurd rfl h
 have e2:(op==ze)=false:=by cases op<;>first|rfl|exact absurd rfl h2
 cases b<;>simp[oe,e1,e2]
def tB (t:TE):TT:=λσ H Q=>t σ H λx H1=>BlAt x λc=>Q c H1
theorem XL {op:yM} {t:TE} (h:PC X op a b t) (h1:oe op b=false:=by first|exact XJ _ (by decide) (by decide)|rfl):PT X (.Compare a [op] [b] pos) (tB t):=by
 intro z7 s σ H Q I hw;refine u0 (thn (h z7 s σ H _ I hw) λv s1 h1=>thn h1 λu s2 h2=>thn h2 λc s3 ⟨x,H1,I1,r1,q1⟩=>?_) h1;obtain⟨d,rfl,q⟩:=q1;cases r1;exact on ⟨H1,I1,q⟩
theorem DH {e:Expr} {t:TE} (h:PE X e t) (he:∀whole,wG e X.env whole=(do let v←whole;mm e.pos;li [v] (truthy v)):=by intro _;rfl):PT X e (tB t):=by
 intro z7 s σ H Q I hw;refine isTrue_plain (thn (h z7 s σ H _ I hw) λv s1 ⟨x,H1,I1,r1,q1⟩=>?_) (he _);obtain⟨d,rfl,q⟩:=q1;cases r1;exact on ⟨H1,I1,q⟩
variable {tA tB':TT} {z8:List Expr}
def bG (t u:TT):TT:=λσ H Q=>t σ H λc H1=>if c=true then u σ H1 Q else Q false H1
def tOr (t u:TT):TT:=λσ H Q=>t σ H λc H1=>if c=true then Q true H1 else u σ H1 Q
def kK (t:TT):TT:=λσ H Q=>t σ H λc H1=>Q (!c) H1
theorem E8 (ha:PT X a tA):PW X (.BoolOp .And [a] pos) tA:=by
 intro wh z7 s σ H Q I h;refine isTrue_and (thn (ha z7 s σ H Q I h) λc s1 e=>?_);cases c with
 |true=>exact isTrue_and_nil e
 |false=>exact e
theorem JM (ha:PT X a tA):PW X (.BoolOp .Or [a] pos) tA:=by
 intro wh z7 s σ H Q I h;refine isTrue_or (thn (ha z7 s σ H Q I h) λc s1 e=>?_);cases c with
 |false=>exact isTrue_or_nil e
 |true=>exact e
theorem GM (ha:PT X a tA) (hb:PW X (.BoolOp .And (b::z8) pos) tB'):PW X (.BoolOp .And (a::b::z8) pos) (bG tA tB'):=by
 intro wh z7 s σ H Q I h;refine isTrue_and (thn (ha z7 s σ H _ I h) λc s1 ⟨H1,I1,q1⟩=>?_);cases c with
 |true=>exact hb wh z7 s1 σ H1 Q I1 q1
 |false=>exact⟨H1,I1,q1⟩
theorem NV (ha:PT X a tA) (hb:PW X (.BoolOp .Or (b::z8) pos) tB'):PW X (.BoolOp .Or (a::b::z8) pos) (tOr tA tB'):=by
 intro wh z7 s σ H Q I h;refine isTrue_or (thn (ha z7 s σ H _ I h) λc s1 ⟨H1,I1,q1⟩=>?_);cases c with
 |true=>exact⟨H1,I1,q1⟩
 |false=>exact hb wh z7 s1 σ H1 Q I1 q1
theorem DU (ha:PT X a tA):PT X (.UnaryOp .Not a pos) (kK tA):=by
 intro z7 s σ H Q I h;exact isTrue_not (ha z7 s σ H (λc H1=>Q (!c) H1) I h)
def kL (ta tb:TE):TE:=λσ H Q=>ta σ H λx H1=>BlAt x λc=>if c=true then tb σ H1 Q else Q (.bl false) H1
theorem XN {op} {t:TE} (h:PE X a t):PE X (.BoolOp op [a] pos) t:=λz7 s σ H Q I hw=>BoolOp_one (h z7 s σ H Q I hw)
theorem XO (ha:PE X a ta) (hb:PE X (.BoolOp .And (b::z8) pos) tb):PE X (.BoolOp .And (a::b::z8) pos) (kL ta tb):=by
 intro z7 s σ H Q I h;refine BoolOp_and (thn (ha z7 s σ H _ I h) λv s1 ⟨x,H1,I1,r1,q1⟩=>?_);obtain⟨c,rfl,q1⟩:=q1;cases r1;refine on ?_;cases c with
 |true=>exact hb z7 s1 σ H1 Q I1 q1
 |false=>exact⟨.bl false,H1,I1,rfl,q1⟩
def tIf (t:TT) (ta tb:TE):TE:=λσ H Q=>t σ H λc H1=>if c=true then ta σ H1 Q else tb σ H1 Q
theorem QG {c:Expr} (hc:PT X c tA) (ha:PE X a ta) (hb:PE X b tb):PE X (.IfExp c a b pos) (tIf tA ta tb):=by
 intro z7 s σ H Q I h;refine wpAny_IfExp (thn (hc z7 s σ H _ I h) λd s1 ⟨H1,I1,q1⟩=>?_);cases d with
 |true=>exact ha z7 s1 σ H1 Q I1 q1
 |false=>exact hb z7 s1 σ H1 Q I1 q1
end
def SqL (K:aa) (H:Hp) (a:ag) (xs:List V):Prop:=
 Rd H a (.lst xs)\/
  Ex3 λ(o:Obj) (Aa:Array ah) (n:Nat)=>K.lookup a=some o/\o.cls= .type "list"/\o.dict=none/\o.data= .seq Aa n/\Aa.size<=sizeLine/\Vals xs Aa.toList
def SqT (K:aa) (H:Hp) (a:ag) (xs:List V):Prop:=
 Rd H a (.tup xs)\/
  Ex3 λ(o:Obj) (Aa:Array ah) (n:Nat)=>K.lookup a=some o/\o.cls= .type "tuple"/\o.data= .seq Aa n/\Aa.size<=sizeLine/\Vals xs Aa.toList
def qG:ah->Option V
 | .none=>some .non
 | .bool b=>some (.bl b)
 | .int i _=>some (.int i)
 | .str x _=>some (.str x)
 | .bytes b _=>some (.byt b)
 | .float b _=>some (.flt b)
 | .ref a=>some (.ref a)
 | .type n=>some (.ty n)
 |_=>none
theorem RelV.abs {x:V} {u:ah} (r:RelV x u):qG u=some x:=by
 cases x with
 |non=>cases r;rfl
 |bl _=>cases r;rfl
 |int _=>obtain⟨t,rfl⟩:=r;rfl
 |str _=>obtain⟨t,rfl⟩:=r;rfl
 |byt _=>obtain⟨t,rfl⟩:=r;rfl
 |flt _=>obtain⟨t,rfl⟩:=r;rfl
 |ref _=>cases r;rfl
 |ty _=>cases r;rfl
theorem RelV.inj {x y:V} {u:ah} (r:RelV x u) (q:RelV y u):x=y:=cu (r.abs.symm.trans q.abs)
theorem Vals.inj:∀{xs ys:List V} {us:List ah},Vals xs us->Vals ys us->xs=ys
 |_,_,_,.nil,.nil=>rfl
 |_,_,_,.cons r t,.cons r' t'=>by rw[r.inj r',Vals.inj t t']
section
variable {X:Cx} {z7:List (ag×Obj)} {σ:St} {H:Hp} {s:aj} {a:ag} {xs ys:List V}
theorem SqL.of {K:aa} (h:H a=some (.lst xs)):SqL K H a xs:=.inl (.inl h)
theorem SqT.of {K:aa} (h:H a=some (.tup xs)):SqT K H a xs:=.inl (.inl h)
theorem Inv.list (I:Inv X z7 σ H s) (h:SqL X.K H a xs):∃Aa:List ah,Vals xs Aa/\PlainL s.heap a Aa.toArray/\xs.length<=sizeLine:=by
 rcases h with h|⟨o,Aa,n,hk,hc,hd,hs,hz,r⟩
 ·obtain⟨z,Aa,n,r,e⟩:=h.ok I.hok;exact⟨Aa,r,⟨_,n,e,rfl,rfl,rfl⟩,z⟩
 ·refine⟨Aa.toList,r,⟨o,n,I.kIn a o hk,hc,hd,by simpa using hs⟩,?_⟩;have e:=r.length;simp only[dc] at e;omega
theorem Inv.tuple (I:Inv X z7 σ H s) (h:SqT X.K H a xs):∃Aa:List ah,Vals xs Aa/\IsTup s.heap a Aa.toArray/\xs.length<=sizeLine:=by
 rcases h with h|⟨o,Aa,n,hk,hc,hs,hz,r⟩
 ·obtain⟨z,Aa,r,p⟩:=h.ok I.hok;exact⟨Aa,r,p,z⟩
 ·refine⟨Aa.toList,r,⟨o,I.kIn a o hk,hc,n,by simpa using hs⟩,?_⟩;have e:=r.length;simp only[dc] at e;omega
theorem Inv.list_inj (I:Inv X z7 σ H s) (h:SqL X.K H a xs) (h':SqL X.K H a ys):xs=ys:=by
 obtain⟨Aa,r,⟨o,n,e,_,_,d⟩,_⟩:=I.list h;obtain⟨its',r',⟨o',n',e',_,_,d'⟩,_⟩:=I.list h';rw[e] at e';cases e';rw[d] at d';injection d' with d1 _;have:Aa=its':=by simpa using congrArg wc d1
 subst this;exact r.inj r'
theorem Inv.tuple_inj (I:Inv X z7 σ H s) (h:SqT X.K H a xs) (h':SqT X.K H a ys):xs=ys:=by
 obtain⟨Aa,r,⟨o,e,_,n,d⟩,_⟩:=I.tuple h;obtain⟨its',r',⟨o',e',_,n',d'⟩,_⟩:=I.tuple h';rw[e] at e';cases e';rw[d] at d';injection d' with d1 _;have:Aa=its':=by simpa using congrArg wc d1
 subst this;exact r.inj r'
end
abbrev Cx.wish (X:Cx) (E:ah->aj->Prop):Cx:={ X with xe:=E }
theorem Cx.Ok.wish {X:Cx} (ok:X.Ok) (E:ah->aj->Prop):(X.wish E).Ok:=
 ⟨ok.mod,ok.kind,ok.glob,ok.blt,ok.above,ok.inj,ok.has,ok.cab,ok.hd,ok.frames,ok.stk,ok.exf,ok.bs,ok.bsz,ok.noex,ok.exfs,ok.funs,ok.frf⟩
theorem Cx.Ok.unwish {X:Cx} {E:ah->aj->Prop} (ok:(X.wish E).Ok):X.Ok:=
 ⟨ok.mod,ok.kind,ok.glob,ok.blt,ok.above,ok.inj,ok.has,ok.cab,ok.hd,ok.frames,ok.stk,ok.exf,ok.bs,ok.bsz,ok.noex,ok.exfs,ok.funs,ok.frf⟩
section
variable {X:Cx} {z7:List (ag×Obj)} {σ:St} {H:Hp} {s:aj} {E:ah->aj->Prop}
theorem Inv.wish (I:Inv X z7 σ H s) (E:ah->aj->Prop):Inv (X.wish E) z7 σ H s:=⟨I.ok.wish E,I.os,I.bare,I.base,I.loc,I.cell,I.free,I.freeC,I.pin,I.hok,I.len⟩
theorem Inv.unwish (I:Inv (X.wish E) z7 σ H s):Inv X z7 σ H s:=⟨I.ok.unwish,I.os,I.bare,I.base,I.loc,I.cell,I.free,I.freeC,I.pin,I.hok,I.len⟩
end
section
variable {X:Cx} {st:dh} {z8:List dh} {t u:TS} {e:Expr} {te:TE} {pos:Pos}
def XQ:TS:=λD σ H=>D.nx σ H
def AT (t u:TS):TS:=λD σ H=>t { D with nx:=u D } σ H
theorem AM:PSs X [] XQ:=λ_ _ σ H _ I h=>qj ⟨σ,H,I,h⟩
theorem AB (h1:PS X st t) (h2:PSs X z8 u):PSs X (st::z8) (AT t u):=by
 intro z7 s σ H D I h;refine wH (thn (h1 z7 s σ H { D with nx:=u D } I h) λf s1 q=>?_);cases f with
 |next=>
  obtain⟨σ',H',I',q⟩:=q;exact h2 z7 s1 σ' H' D I' q
 |ret v=>exact q
 |brk=>exact q
 |cont=>exact q
theorem AC (h1:PS X st t):PSs X [st] t:=by
 intro z7 s σ H D I h;refine wH (thn (h1 z7 s σ H D I h) λf s1 q=>?_);cases f with
 |next=>exact qj q
 |ret v=>exact q
 |brk=>exact q
 |cont=>exact q
theorem Inv.quiet {z7:List (ag×Obj)} {σ:St} {H:Hp} {s:aj} (I:Inv X z7 σ H s):interactive X.env=false:=by simp[interactive,I.ok.kind]
def KI (te:TE):TS:=λD σ H=>te σ H λ_ H1=>D.nx σ H1
theorem AY (he:PE X e te) (hs:pf e none pos.line X.env=pure false:=by rfl):PS X (.Expr e pos) (KI te):=by
 intro z7 s σ H D I h;exact wpAny_Expr_any (thn (he z7 s σ H _ I h) λv s1 ⟨x,H1,I1,r1,q1⟩=>⟨σ,H1,I1,q1⟩) I.quiet hs
def WC (te:TE):TS:=λD σ H=>te σ H D.rt
theorem AL (he:PE X e te):PS X (.Return (some e) pos) (WC te):=by
 intro z7 s σ H D I h;exact wpAny_Return_some (thn (he z7 s σ H _ I h) λv s1 ⟨x,H1,I1,r1,q1⟩=>⟨x,σ,H1,I1,r1,q1⟩)
def WD (c:TT) (t u:TS):TS:=λD σ H=>c σ H λb H1=>if b=true then t D σ H1 else u D σ H1
theorem AZ {c:Expr} {a b:List dh} {tc:TT} (hc:PT X c tc) (ha:PSs X a t) (hb:PSs X b u):PS X (.If c a b pos) (WD tc t u):=by
 intro z7 s σ H D I h;refine wpAny_If (thn (hc z7 s σ H _ I h) λd s1 ⟨H1,I1,q1⟩=>?_);cases d with
 |true=>exact ha z7 s1 σ H1 D I1 q1
 |false=>exact hb z7 s1 σ H1 D I1 q1
def fM:TS:=λ_ _ _=>False
end
abbrev TG:=V->St->Hp->(St->Hp->Prop)->Prop
abbrev TGs:=List V->St->Hp->(St->Hp->Prop)->Prop
def PG (X:Cx) (target:Expr) (t:TG):Prop:=
 ∀(z7:List (ag×Obj)) (s:aj) (σ:St) (H:Hp) (v:V) (u:ah) (Q:St->Hp->Prop),Inv X z7 σ H s->RelV v u->t v σ H Q->
  bf (bi X.prog X.w) X.A (wI target X.env u) (λ_ s'=>Ex2 λσ' H'=>Inv X z7 σ' H' s'/\Q σ' H') X.xe s
def PGs (X:Cx) (ts:List Expr) (t:TGs):Prop:=
 ∀(z7:List (ag×Obj)) (s:aj) (σ:St) (H:Hp) (vs:List V) (us:List ah) (Q:St->Hp->Prop),Inv X z7 σ H s->Vals vs us->t vs σ H Q->
  bf (bi X.prog X.w) X.A (assignInOrder ((sU ts X.env).map (·.2)) us) (λ_ s'=>Ex2 λσ' H'=>Inv X z7 σ' H' s'/\Q σ' H') X.xe s
abbrev fO:=V->V->V->Hp->(Hp->Prop)->Prop
def kM (X:Cx) (t:fO):Prop:=
 ∀(z7:List (ag×Obj)) (s:aj) (σ:St) (H:Hp) (o i v:V) (ov iv u:ah) (Q:Hp->Prop),Inv X z7 σ H s->RelV o ov->RelV i iv->RelV v u->t o i v H Q->
  bf (bi X.prog X.w) X.A (setItem ov iv u) (λ_ s'=>∃H',Inv X z7 σ H' s'/\Q H') X.xe s
abbrev TIp:=V->V->Hp->VK->Prop
def PIp (X:Cx) (op:wd) (t:TIp):Prop:=
 ∀(z7:List (ag×Obj)) (s:aj) (σ:St) (H:Hp) (x y:V) (v u:ah) (Q:VK),Inv X z7 σ H s->RelV x v->RelV y u->t x y H Q->
  bf (bi X.prog X.w) X.A (yN op v u) (EP X z7 σ Q) X.xe s
section
variable {X:Cx} {pos:Pos}
def LS (i:Nat):TG:=λv σ H Q=>Q (σ.set i (some v)) H
theorem bH {i:Nat} {x:Str} (hN:X.N.Nodup) (hi:X.N[i]? =some x) (hx:Loc X.env.scope x) (hf:X.fn x=true\/X.env.scope.names.lookup x=some .local:=by first|exact .inl rfl|exact .inr rfl|assumption):PG X (.Name x pos) (LS i):=by
 intro z7 s σ H v u Q I r h;exact we (IS I hN hi hx r (λs' I'=>⟨_,H,I',h⟩) hf)
def qH:TGs:=λvs σ H Q=>vs=[]/\Q σ H
def kN (t:TG) (u:TGs):TGs:=λvs σ H Q=>Ex2 λv r=>vs=v::r/\t v σ H λσ' H'=>u r σ' H' Q
theorem HF:PGs X [] qH:=by
 intro z7 s σ H vs us Q I r h;obtain⟨e,h⟩:=h;subst e;cases r;exact assignInOrder_nil ⟨σ,H,I,h⟩
theorem CA {e:Expr} {es:List Expr} {t:TG} {u:TGs} (h1:PG X e t) (h2:PGs X es u)
 (hs:(sU (e::es) X.env).map (·.2)=wI e X.env::(sU es X.env).map (·.2):=by rfl):PGs X (e::es) (kN t u):=by
 intro z7 s σ H vs us Q I r h;obtain⟨v,vr,e1,h⟩:=h;subst e1;cases r with
 |cons r rr=>
  rw[hs];refine assignInOrder_cons (thn (h1 z7 s σ H _ _ _ I r h) λ_ s1 ⟨σ1,H1,I1,q1⟩=>?_);exact h2 z7 s1 σ1 H1 _ _ Q I1 rr q1
def qI (K:aa) (n:Nat) (t:TGs):TG:=λv σ H Q=>Ex2 λa xs=>v= .ref a/\SqT K H a xs/\xs.length=n/\t xs σ H Q
theorem JN {es:List Expr} {k:Nat} {t:TGs} {n:Nat} (hc:X.calm=true) (h:PGs X es t)
 (hn:(sU es X.env).length=n:=by rfl) (hst:(sU es X.env).findIdx? (·.1)=none:=by rfl):PG X (.Tuple es k pos) (qI X.K n t):=by
 intro z7 s σ H v u Q I r hw;obtain⟨a,xs,e1,hq,hl,hw⟩:=hw;subst e1;cases r;obtain⟨Aa,rv,ht,hz⟩:=I.tuple hq;refine assign_Tuple_tuple (I.ok.hd hc) ht (by simp[hn, ←hl,rv.length]) hst λh' hx=>?_;have I1:Inv X z7 σ H { s with heap:=h' }:=I.kept (t':=s.toks) λb o e=>hx b o (cg (bh e)) e;exact h z7 _ σ H xs _ Q I1 (by simpa using rv) hw
def qJ (to ti:TE) (t:fO):TG:=λv σ H Q=>to σ H λo H1=>ti σ H1 λi H2=>t o i v H2 λH3=>Q σ H3
theorem fP {o i:Expr} {to ti:TE} {t:fO} (ho:PE X o to) (hi:PE X i ti) (hs:kM X t)
 (ha:∀v,wI (.Subscript o i pos) X.env v=(do
  let ov←li [v] (eval o X.env);let iv←li [v,ov] (eval i X.env)
  mm pos
  li [v,ov,iv] (setItem ov iv v)
  release [v,ov,iv] []):=by intro _;rfl):PG X (.Subscript o i pos) (qJ to ti t):=by
 intro z7 s σ H v u Q I r h;rw[ha];refine ae (ik (thn (ho z7 s σ H _ I h) λov s1 ⟨x,H1,I1,r1,q1⟩=>?_));refine ae (ik (thn (hi z7 s1 σ H1 _ I1 q1) λiv s2 ⟨y,H2,I2,r2,q2⟩=>?_));refine ae (jp (ae (ik (thn (hs z7 s2 σ H2 x y v ov iv u _ I2 r1 r2 r q2) λ_ s3 ⟨H3,I3,q3⟩=>?_))));exact wpAny_release ⟨σ,H3,I3,q3⟩
def XR (te:TE) (g:TG):TS:=λD σ H=>te σ H λx H1=>g x σ H1 D.nx
theorem fQ {tg e:Expr} {te:TE} {g:TG} (he:PE X e te) (hg:PG X tg g) (hs:swapsWithSole [tg] e pos.line X.env=pure false:=by rfl) (hw:swappedStores [tg] e X.env=pure none:=by rfl)
 (h1:(sU [tg] X.env).map (·.2)=[wI tg X.env]:=by rfl):PS X (.Assign [tg] e pos) (XR te g):=by
 intro z7 s σ H D I h;refine wpAny_Assign_stores (thn (he z7 s σ H _ I h) λv s1 ⟨x,H1,I1,r1,q1⟩=>?_) hs hw;rw[h1];exact thn (hg z7 s1 σ H1 x v _ I1 r1 q1) λ_ s2 q=>q
theorem fS {i:Nat} {x:Str} {e:Expr} {te:TE} {pos':Pos} (hN:X.N.Nodup) (hi:X.N[i]? =some x) (hx:Loc X.env.scope x) (he:PE X e te) (hs:pf e (some (.Name x pos')) pos.line X.env=pure false:=by rfl) (hf:X.fn x=true\/X.env.scope.names.lookup x=some .local:=by first|exact .inl rfl|exact .inr rfl|assumption):
 PS X (.Assign [.Name x pos'] e pos) (XR te (LS i)):=by
 intro z7 s σ H D I h;refine wpAny_Assign_Name (thn (he z7 s σ H _ I h) λv s1 ⟨y,H1,I1,r1,q1⟩=>?_) hs;exact IS I1 hN hi hx r1 (λs2 I2=>⟨_,H1,I2,q1⟩) hf
def kO (i j:Nat) (ta:TA):TS:=λD σ H=>ta σ H λvs H1=>Ex2 λv w=>vs=[v,w]/\D.nx ((σ.set i (some v)).set j (some w)) H1
def qK (i:Nat) (te:TE) (ti:TIp):TS:=λD σ H=>∃x,σ[i]? =some (some x)/\te σ H λy H1=>ti x y H1 λz H2=>D.nx (σ.set i (some z)) H2
theorem JO {i:Nat} {x:Str} {e:Expr} {te:TE} {op:wd} {ti:TIp} {pos':Pos} (hN:X.N.Nodup) (hi:X.N[i]? =some x) (hx:Loc X.env.scope x) (he:PE X e te) (ho:PIp X op ti) (hf:X.fn x=true\/X.env.scope.names.lookup x=some .local:=by first|exact .inl rfl|exact .inr rfl|assumption):
 PS X (.AugAssign (.Name x pos') op e pos) (qK i te ti):=by
 intro z7 s σ H D I h;obtain⟨v,e1,h⟩:=h;obtain⟨m,hn,hl⟩:=I.loc;have vis:Vis X.env.scope x:=by rcases hx with k|k;exact .inl k;exact .inr (.inl k)
 obtain⟨u,r,l⟩:=hl i x v hi e1 vis;refine wpAny_AugAssign_Name ?_;have go:bf (bi X.prog X.w) X.A (eval e X.env) (λw s₂=>bf (bi X.prog X.w) X.A (yN op u w) (λr s₃=>bf (bi X.prog X.w) X.A (yL X.env x r) (λ_=>SP X z7 D .next) X.xe s₃) X.xe s₂) X.xe s:=by
  refine thn (he z7 s σ H _ I h) λw s1 ⟨y,H1,I1,r1,q1⟩=>?_;refine thn (ho z7 s1 σ H1 v y u w _ I1 r r1 q1) λz s2 ⟨zv,H2,I2,r2,q2⟩=>?_;exact IS I2 hN hi hx r2 (λs3 I3=>⟨_,H2,I3,q2⟩) hf
 rcases l with⟨hk,hm⟩|⟨hk,c,hc,hcell⟩
 ·exact vf I.ok.kind hk hn hm go
 ·rcases hk with hk|hk
  ·exact vI I.ok.kind hk hc hcell go
  ·rcases hx with k|k
   ·have:X.env.scope.names.lookup x=some .free:=hk;rw[k] at this;cases this
   ·have:X.env.scope.names.lookup x=some .free:=hk;rw[k] at this;cases this
def ipI (f:Int->Int->Int):TIp:=λx y H Q=>I2At x y λi j=>Q (.int (f i j)) H
theorem JP:PIp X .Add (ipI λi j=>i+j):=by
 intro z7 s σ H x y v u Q I r1 r2 h;obtain⟨i,j,e1,e2,q⟩:=h;subst e1;subst e2;obtain⟨t,rfl⟩:=r1;obtain⟨t',rfl⟩:=r2;exact iadd_int ⟨.int _,H,I.tok _,⟨_,rfl⟩,q⟩
end
section
variable {X:Cx} {pos:Pos}
def XS (c:TT) (tb:TS):TS:=λD σ H=>∃W:Nat->St->Hp->Prop,(∃m,W m σ H)/\∀m σ H,W m σ H->
 c σ H λb H1=>if b=true then∃N:St->Hp->Prop,(∀σ' H',N σ' H'->∃m',m'<m/\W m' σ' H')/\tb { D with nx:=N,ct:=N,bk:=D.nx } σ H1 else D.nx σ H1
theorem B4 {c:Expr} {body:List dh} {tc:TT} {tb:TS} (hp:PassesOwn (bi X.prog X.w) X.A X.env X.xe) (hc:PT X c tc) (hb:PSs X body tb):PS X (.While c body [] pos) (XS tc tb):=by
 intro z7 s σ H D I h;obtain⟨W,⟨m0,w0⟩,turn⟩:=h;refine wpAny_While (codeAny_whileLoop (λn s'=>∃σ' H',Inv X z7 σ' H' s'/\W n σ' H') ?_ m0 ⟨σ,H,I,w0⟩);rintro n s1 ⟨σ1,H1,I1,w1⟩;refine lh hp (thn (hc z7 s1 σ1 H1 _ I1 (turn n σ1 H1 w1)) λb s2 ⟨H2,I2,q2⟩=>?_);cases b with
 |true=>
  obtain⟨N,hN,q2⟩:=q2;rw[Ae rfl];refine lh hp (thn (hb z7 s2 σ1 H2 _ I2 q2) λf s3 q3=>?_);cases f with
  |next=>
   obtain⟨σ3,H3,I3,n3⟩:=q3;obtain⟨m',hm,w3⟩:=hN σ3 H3 n3;exact⟨m',hm,σ3,H3,I3,w3⟩
  |cont=>
   obtain⟨σ3,H3,I3,n3⟩:=q3;obtain⟨m',hm,w3⟩:=hN σ3 H3 n3;exact⟨m',hm,σ3,H3,I3,w3⟩
  |brk=>exact q3
  |ret v=>exact q3
 |false=>
  rw[Af bj];exact qj ⟨σ1,H2,I2,q2⟩
end
structure It where
 go:Nat->Hp->Prop
 yld:Nat->Hp->V->Hp->Prop
 stop:Nat->Hp->Prop
def K1 (X:Cx) (z7:List (ag×Obj)) (H:Hp) (b:ag):Prop:=
 H b=none/\b≠X.env.locals/\b∉X.fs/\(b∈X.ex\/X.s_0.heap.objs.size<=b)/\(∀x c,X.env.cells.lookup x=some c->c≠b)/\∀p∈X.pn++z7,p.1≠b
theorem Inv.fpOk {X:Cx} {z7:List (ag×Obj)} {σ:St} {H H':Hp} {s:aj} {b:ag} (I:Inv X z7 σ H s) (hb:s.heap.objs.size<=b) (hn:H' b=none):K1 X z7 H' b:=by
 refine⟨hn,ph (bu I.lt hb),I.nofs hb,.inr (cw I.sz hb),λx c e z=>?_,λp hp z=>?_⟩
 ·obtain⟨v,q⟩:=I.cell x c e;exact absurd (bu q.lt (by rw[z];exact hb)) (iy _)
 ·exact absurd (bu (bh (I.pin p hp).1) (by rw[z];exact hb)) (iy _)
structure Turn (P:bb) (w:bw) (K:aa) (tg:Expr) (J:It) (fp:List ag) (it:ag) (tn:Nat->cq->Prop):Prop where
 mem:it∈fp
 obj:∀i h,tn i h->∀b∈fp,∃o,h.get? b=some o/\∀v,o.data≠.cell v
 keep:∀i h h',tn i h->(∀b∈fp,∀o,h.get? b=some o->h'.get? b=some o)->tn i h'
 item:∀(X:Cx),X.prog=P->X.w=w->X.K=K->X.calm=true->∀(i:Nat) (z7:List (ag×Obj)) (s:aj) (σ:St) (H:Hp) (E:ah->aj->Prop),Inv X z7 σ H s->(∀b∈fp,K1 X z7 H b)->tn i s.heap->J.go i H->
  bf (bi P w) X.A (vY (.ref it)) (λr s1=>∃u,r=some u/\
   bf (bi P w) X.A (qk tg (.ref it) u) (λ_ s2=>∃x H',Inv X z7 σ H' s2/\RelV x u/\J.yld i H x H'/\tn (i+1) s2.heap/\∀b∈fp,H' b=none) E s1) E s
 done:∀(X:Cx),X.prog=P->X.w=w->X.K=K->X.calm=true->∀(i:Nat) (z7:List (ag×Obj)) (s:aj) (σ:St) (H:Hp) (E:ah->aj->Prop),Inv X z7 σ H s->(∀b∈fp,K1 X z7 H b)->tn i s.heap->J.stop i H->
  bf (bi P w) X.A (vY (.ref it)) (λr s1=>r=none/\Inv X z7 σ H s1) E s
 self:∀(A:cz) (i:Nat) (s:aj) (Q:ah->aj->Prop) (E:ah->aj->Prop),tn i s.heap->Q (.ref it) s->bf (bi P w) A (pyIter (.ref it)) Q E s
abbrev TI:=St->Hp->(It->Hp->Prop)->Prop
def PIE (X:Cx) (z7:List (ag×Obj)) (σ:St) (tg:Expr) (R:It->Hp->Prop) (itv:ah) (s2:aj):Prop:=
 Ex5 λ(it:ag) (fp:List ag) (tn:Nat->cq->Prop) (J:It) (H':Hp)=>itv= .ref it/\Inv X z7 σ H' s2/\Turn X.prog X.w X.K tg J fp it tn/\tn 0 s2.heap/\(∀b∈fp,K1 X z7 H' b)/\R J H'
def PI (X:Cx) (tg iter:Expr) (wi:TI):Prop:=
 ∀(z7:List (ag×Obj)) (s:aj) (σ:St) (H:Hp) (R:It->Hp->Prop),Inv X z7 σ H s->wi σ H R->
  bf (bi X.prog X.w) X.A (eval iter X.env) (λv s1=>bf (bi X.prog X.w) X.A (pyIter v) (PIE X z7 σ tg R) X.xe s1) X.xe s
theorem T9 {M:w9} {A:cz} {E:ah->aj->Prop} {s:aj} {tg:Expr} {it:ag} {u:ah} {o:Obj} {n:String} {vs:Array ah} {Q:Unit->aj->Prop} (ho:s.heap.get? it=some o) (hc:o.cls= .type n) (hd:o.data= .fields vs)
 (hn:["enumerate","zip","dict_itemiterator","dict_reverseitemiterator","odict_iterator","itertools.zip_longest","itertools.pairwise"].contains n=false) (hQ:Q () s):bf M A (qk tg (.ref it) u) Q E s:=by
 unfold qk;cases tg<;>first
  |exact ao hQ
  |(cases u<;>first
   |exact ao hQ
   |(refine ae (wpAny_load ho ?_)
     rw[hc,hd];show bf M A (if(["enumerate","zip","dict_itemiterator","dict_reverseitemiterator","odict_iterator","itertools.zip_longest","itertools.pairwise"].contains n&&vs[0]? ==some (fw _))=true then _ else _) Q E s;rw[Af (by intro h;rw[hn,sV] at h;cases h)];exact ao hQ))
def Itl (K:aa) (a:ag):It:=
 ⟨λi H=>Ex2 λxs x=>SqL K H a xs/\xs[i]? =some x,λi H x H'=>H'=H/\∀xs,SqL K H a xs->xs[i]? =some x,λi H=>∃xs,SqL K H a xs/\xs.length<=i⟩
def Itt (K:aa) (a:ag):It:=
 ⟨λi H=>Ex2 λxs x=>SqT K H a xs/\xs[i]? =some x,λi H x H'=>H'=H/\∀xs,SqT K H a xs->xs[i]? =some x,λi H=>∃xs,SqT K H a xs/\xs.length<=i⟩
def Itr (lo:Int) (n:Nat):It:=⟨λi _=>i<n,λi H x H'=>H'=H/\x= .int (lo+i),λi _=>n<=i⟩
theorem WE {P:bb} {w:bw} {K:aa} {tg:Expr} (a it:ag):Turn P w K tg (Itl K a) [it] it (λi h=>h.IsListIter it a i) where
 mem:=by simp
 obj:=λi h st b hb=>by
  have e:b=it:=by simpa using hb
  subst e;obtain⟨o,e,c,d⟩:=st;exact⟨o,e,λv z=>by rw[d] at z;cases z⟩
 keep:=λi h h' st k=>st.at λo e=>k it (by simp) o e
 item:=by
  intro X hP hw hK hc i z7 s σ H E I hf st hg;subst hP hw hK;obtain⟨xs,x,hq,hx⟩:=hg;obtain⟨Aa,rv,p,hz⟩:=I.list hq;obtain⟨u,hu,ru⟩:=rv.get hx;obtain⟨f0,f1,f2,f3,f4,f5⟩:=hf it (by simp);refine wpAny_pyNext_list_item st p.isList (x:=u) (by simpa using hu) λh' st' sb=>?_;have I1:Inv X z7 σ H { s with heap:=h' }:=I.turned (t':=s.toks) (λb o hb e=>(sb.2 b hb).trans e) f0 f1 f3 f4 f5;obtain⟨o,e,c,d⟩:=id st';exact⟨u,rfl,T9 (s:={ s with heap:=h' }) e c d (by decide) ⟨x,H,I1,ru,⟨rfl,λys hy=>by rw[I.list_inj hy hq];exact hx⟩,st',λb hb=>(hf b hb).1⟩⟩
 done:=by
  intro X hP hw hK hc i z7 s σ H E I hf st hg;subst hP hw hK;obtain⟨xs,hq,hx⟩:=hg;obtain⟨Aa,rv,p,hz⟩:=I.list hq;obtain⟨f0,f1,f2,f3,f4,f5⟩:=hf it (by simp);have hl:=rv.length;exact wpAny_pyNext_list_end (I.ok.hd hc) st p.isList (by simp;omega) λh' eb=>⟨rfl,I.turned (t':=s.toks) (λb o hb e=>eb b o hb e) f0 f1 f3 f4 f5⟩
 self:=λ_ _ _ _ _ st h=>wpAny_pyIter_listiter st h
theorem RY {P:bb} {w:bw} {K:aa} {tg:Expr} (a it:ag):Turn P w K tg (Itt K a) [it] it (λi h=>h.IsTupleIter it a i) where
 mem:=by simp
 obj:=λi h st b hb=>by
  have e:b=it:=by simpa using hb
  subst e;obtain⟨o,e,c,d⟩:=st;exact⟨o,e,λv z=>by rw[d] at z;cases z⟩
 keep:=λi h h' st k=>st.at λo e=>k it (by simp) o e
 item:=by
  intro X hP hw hK hc i z7 s σ H E I hf st hg;subst hP hw hK;obtain⟨xs,x,hq,hx⟩:=hg;obtain⟨Aa,rv,p,hz⟩:=I.tuple hq;obtain⟨u,hu,ru⟩:=rv.get hx;obtain⟨f0,f1,f2,f3,f4,f5⟩:=hf it (by simp);refine wpAny_pyNext_tuple_item st (show s.heap.IsTuple a Aa.toArray from p) (x:=u) (by simpa using hu) λh' st' sb=>?_;have I1:Inv X z7 σ H { s with heap:=h' }:=I.turned (t':=s.toks) (λb o hb e=>(sb.2 b hb).trans e) f0 f1 f3 f4 f5;obtain⟨o,e,c,d⟩:=id st';exact⟨u,rfl,T9 (s:={ s with heap:=h' }) e c d (by decide) ⟨x,H,I1,ru,⟨rfl,λys hy=>by rw[I.tuple_inj hy hq];exact hx⟩,st',λb hb=>(hf b hb).1⟩⟩
 done:=by
  intro X hP hw hK hc i z7 s σ H E I hf st hg;subst hP hw hK;obtain⟨xs,hq,hx⟩:=hg;obtain⟨Aa,rv,p,hz⟩:=I.tuple hq;obtain⟨f0,f1,f2,f3,f4,f5⟩:=hf it (by simp);have hl:=rv.length;exact wpAny_pyNext_tuple_end (I.ok.hd hc) st (show s.heap.IsTuple a Aa.toArray from p) (by simp;omega) λh' eb=>⟨rfl,I.turned (t':=s.toks) (λb o hb e=>eb b o hb e) f0 f1 f3 f4 f5⟩
 self:=λ_ _ _ _ _ st h=>wpAny_pyIter_tupleiter st h
theorem RZ {P:bb} {w:bw} {K:aa} {tg:Expr} (it:ag) (lo:Int) (n:Nat):Turn P w K tg (Itr lo n) [it] it (λi h=>IsRangeIter h it (lo+(i:Nat)*1) ((n:Int) - (i:Nat)) 1) where
 mem:=by simp
 obj:=λi h st b hb=>by
  have e:b=it:=by simpa using hb
  subst e;exact⟨_,st,λv z=>by
   have z':Data.fields _=Data.cell v:=z;cases z'⟩
 keep:=λi h h' st k=>k it (by simp) _ st
 item:=by
  intro X hP hw hK hc i z7 s σ H E I hf st hg;subst hP hw hK;obtain⟨f0,f1,f2,f3,f4,f5⟩:=hf it (by simp);have W:=Walks.range (prog:=X.prog) (w:=X.w) (I.ok.hd hc) it lo 1 n;refine W.item i s _ _ hg st λv h' tk hv st' kk=>?_;obtain⟨t,rfl⟩:=hv;have I1:Inv X z7 σ H { s with heap:=h',toks:=tk }:=I.turned (λb o hb e=>kk b o (by simpa using hb) e) f0 f1 f3 f4 f5;refine⟨_,rfl,T9 (s:={ s with heap:=h',toks:=tk }) (n:="range_iterator") st' rfl rfl (by decide) ⟨.int (lo+i),H,I1,⟨t,?_⟩,⟨rfl,rfl⟩,st',λb hb=>(hf b hb).1⟩⟩;rw[Int.mul_one]
 done:=by
  intro X hP hw hK hc i z7 s σ H E I hf st hg;subst hP hw hK;obtain⟨f0,f1,f2,f3,f4,f5⟩:=hf it (by simp);exact wpAny_pyNext_range_end (I.ok.hd hc) st (by have:n<=i:=hg;omega) λh' eb=>⟨rfl,I.turned (t':=s.toks) (λb o hb e=>eb b o hb e) f0 f1 f3 f4 f5⟩
 self:=λ_ _ _ _ _ st h=>wpAny_pyIter_rangeiter st h
section
variable {X:Cx} {tg:Expr}
def kP (K:aa) (tl:TE):TI:=λσ H R=>tl σ H λx H1=>∃a,x= .ref a/\(∃xs,SqL K H1 a xs)/\R (Itl K a) H1
def qL (K:aa) (tl:TE):TI:=λσ H R=>tl σ H λx H1=>∃a,x= .ref a/\(∃xs,SqT K H1 a xs)/\R (Itt K a) H1
theorem DI {l:Expr} {tl:TE} (hl:PE X l tl):PI X tg l (kP X.K tl):=by
 intro z7 s σ H R I h;refine thn (hl z7 s σ H _ I h) λv s1 ⟨x,H1,I1,r1,q1⟩=>?_;obtain⟨a,e,⟨xs,hq⟩,q⟩:=q1;subst e;cases r1;obtain⟨Aa,rv,p,hz⟩:=I1.list hq;refine wpAny_pyIter_list p.isList ?_;refine⟨s1.heap.objs.size,[s1.heap.objs.size],_,_,H1,rfl,I1.kept (t':=s1.toks) λb o e=>ak _ e,WE a _,⟨_,bn _ rfl,rfl,rfl⟩,λb hb=>?_,q⟩;have e:b=s1.heap.objs.size:=by simpa using hb
 subst e;exact I1.fpOk (aw _) (I1.hok.fresh (aw _))
theorem XT {l:Expr} {tl:TE} (hl:PE X l tl):PI X tg l (qL X.K tl):=by
 intro z7 s σ H R I h;refine thn (hl z7 s σ H _ I h) λv s1 ⟨x,H1,I1,r1,q1⟩=>?_;obtain⟨a,e,⟨xs,hq⟩,q⟩:=q1;subst e;cases r1;obtain⟨Aa,rv,p,hz⟩:=I1.tuple hq;refine qu (show s1.heap.IsTuple a Aa.toArray from p) ?_;refine⟨s1.heap.objs.size,[s1.heap.objs.size],_,_,H1,rfl,I1.kept (t':=s1.toks) λb o e=>ak _ e,RY a _,⟨_,bn _ rfl,rfl,rfl⟩,λb hb=>?_,q⟩;have e:b=s1.heap.objs.size:=by simpa using hb
 subst e;exact I1.fpOk (aw _) (I1.hok.fresh (aw _))
theorem XU {z7:List (ag×Obj)} {σ:St} {H:Hp} {s:aj} {R:It->Hp->Prop} {E:ah->aj->Prop} {lo hi:Int} {t u v:Tok} {tk:Nat} (I:Inv X z7 σ H s) (h1: -(2 ^ 62)<=lo) (h2:lo<2 ^ 62) (h3: -(2 ^ 62)<=hi) (h4:hi<2 ^ 62)
 (q:R (Itr lo (hi - lo).toNat) H):bf (bi X.prog X.w) X.A (pyIter (.ref s.heap.objs.size)) (PIE X z7 σ tg R) E { s with heap:=s.heap.push { cls:=.type "range",data:=.fields #[.int lo t,.int hi u,.int 1 v] },toks:=tk }:=by
 refine wpAny_pyIter_range (zf ..) (small_one h1 h2 h3 h4) ?_;have I1:Inv X z7 σ H { s with heap:=s.heap.push { cls:=.type "range",data:=.fields #[.int lo t,.int hi u,.int 1 v] },toks:=tk }:=I.kept λb o e=>ak _ e;refine⟨(s.heap.push { cls:=.type "range",data:=.fields #[.int lo t,.int hi u,.int 1 v] }).objs.size,[(s.heap.push { cls:=.type "range",data:=.fields #[.int lo t,.int hi u,.int 1 v] }).objs.size],_,_,H,rfl,
  I1.kept (t':=tk) λb o e=>ak _ e,RZ _ lo (hi - lo).toNat,?_,λb hb=>?_,q⟩
 ·have e1:lo+((0:Nat):Int)*1=lo:=by simp
  have e2:(((hi - lo).toNat:Nat):Int) - ((0:Nat):Int)=ue lo hi 1:=by rw[rangeSize_one];split<;>omega
  show IsRangeIter _ _ (lo+((0:Nat):Int)*1) ((((hi - lo).toNat:Nat):Int) - ((0:Nat):Int)) 1;rw[e1,e2];exact bn _ rfl
 ·have e:b=(s.heap.push { cls:=.type "range",data:=.fields #[.int lo t,.int hi u,.int 1 v] }).objs.size:=by simpa using hb
  subst e;exact I1.fpOk (aw _) (I1.hok.fresh (aw _))
def kQ (ta:TA):TI:=λσ H R=>ta σ H λvs H1=>∃j:Int,vs=[.int j]/\ -(2 ^ 62)<=j/\j<2 ^ 62/\R (Itr 0 j.toNat) H1
theorem WF {a:Expr} {ta:TA} {p pos:Pos} (hg:Gl X "range") (hm:X.mg "range"=none) (ha:PA X [a] ta) (hs:be [a] X.env=[(false,eval a X.env)]:=by rfl):PI X tg (.Call (.Name "range" p) [a] [] pos) (kQ ta):=by
 intro z7 s σ H R I h;refine Call_ (ET I hg hm boot_range (dk (thn (ha pos z7 s σ H _ I h) λus s1 ⟨vs,H1,I1,r1,q1⟩=>?_) hs rfl));obtain⟨j,e,q1,q2,q⟩:=q1;subst e;cases r1 with
 |cons r rr=>
  cases rr;obtain⟨t,rfl⟩:=r;exact call_range_1 (XU I1 (by omega) (by omega) q1 q2 (by simpa using q))
def qM (wi:TI) (g:TG) (tb:TS):TS:=λD σ H=>wi σ H λJ H1=>∃W:Nat->Nat->St->Hp->Prop,(∃m,W 0 m σ H1)/\∀i m σ H,W i m σ H->
 (J.stop i H/\D.nx σ H)\/(J.go i H/\∃N:St->Hp->Prop,(∀σ' H',N σ' H'->∃m',m'<m/\W (i+1) m' σ' H')/\∀x H',J.yld i H x H'->g x σ H' λσ2 H2=>tb { D with nx:=N,ct:=N,bk:=D.nx } σ2 H2)
def LU (fp:List ag) (h:cq):List (ag×Obj):=fp.filterMap λb=>(h.get? b).map λo=>(b,o)
theorem ID {fp:List ag} {h:cq} {b:ag} {o:Obj} (hb:b∈fp) (e:h.get? b=some o):(b,o)∈LU fp h:=vZ.mpr ⟨b,hb,by rw[e];rfl⟩
theorem WG {fp:List ag} {h:cq} {p:ag×Obj} (hp:p∈LU fp h):p.1∈fp/\h.get? p.1=some p.2:=by
 obtain⟨b,hb,e⟩:=vZ.mp hp;cases q:h.get? b with
 |none=>rw[q] at e;cases e
 |some o=>
  rw[q] at e;have e':(b,o)=p:=cu e;subst e';exact⟨hb,q⟩
theorem Inv.pinned {z7:List (ag×Obj)} {σ:St} {H:Hp} {s:aj} {fp:List ag} (I:Inv X z7 σ H s) (hf:∀b∈fp,K1 X z7 H b) (ho:∀b∈fp,∃o,s.heap.get? b=some o/\∀v,o.data≠.cell v):Inv X (z7++LU fp s.heap) σ H s:=
 I.pins_of λp hp=>(cn.mp hp).elim (λz=>I.pin p (dj _ z)) λz=>by
  obtain⟨hb,e⟩:=WG z;obtain⟨f0,f1,f2,_⟩:=hf p.1 hb;obtain⟨o,e',d⟩:=ho p.1 hb;rw[e] at e';cases e';exact⟨e,f0,f1,f2,d⟩
theorem Inv.unpinned {z7 pl:List (ag×Obj)} {σ:St} {H:Hp} {s:aj} (I:Inv X (z7++pl) σ H s):Inv X z7 σ H s:=I.pins_of λp hp=>I.pin p (dj _ (rX _ hp))
theorem CD {iter:Expr} {body:List dh} {wi:TI} {g:TG} {tb:TS} {pos:Pos} (hp:PassesOwn (bi X.prog X.w) X.A X.env X.xe) (hc:X.calm=true) (hi:PI X tg iter wi) (hg:PG X tg g) (hb:PSs X body tb)
 (hs:∀x,lj iter X.env x=pure x:=by intro _;rfl):PS X (.For tg iter body [] pos) (qM wi g tb):=by
 intro z7 s σ H D I h;refine wpAny_For (thn (hi z7 s σ H _ I h) λv s1 h1=>thn h1 λitv s2 h2=>?_) hs;obtain⟨it,fp,tn,J,H2,e,I2,T,st2,f2,W,⟨m0,w0⟩,turn⟩:=h2;subst e;have stat:∀{H':Hp},(∀b∈fp,H' b=none)->∀b∈fp,K1 X z7 H' b:=λhn b hb=>⟨hn b hb,(f2 b hb).2⟩
 refine codeAny_forLoop_any (λn s'=>∃i σ' H',Inv X z7 σ' H' s'/\tn i s'.heap/\(∀b∈fp,H' b=none)/\W i n σ' H') ?_ m0 ⟨0,σ,H2,I2,st2,λb hb=>(f2 b hb).1,w0⟩;rintro n s3 ⟨i,σ3,H3,I3,st3,fr3,w3⟩;rcases turn i n σ3 H3 w3 with⟨stop,qn⟩|⟨go,N,hN,step⟩
 ·refine lh hp (thn (T.done X rfl rfl rfl hc i z7 s3 σ3 H3 X.xe I3 (stat fr3) st3 stop) λr s4 ⟨hr,I4⟩=>?_);subst hr;exact qj ⟨σ3,H3,I4,qn⟩
 ·refine lh hp (thn (T.item X rfl rfl rfl hc i z7 s3 σ3 H3 X.xe I3 (stat fr3) st3 go) λr s4 ⟨u,hr,h4⟩=>?_);subst hr;refine lh hp (thn h4 λ_ s5 ⟨x,H5,I5,r5,y5,st5,fr5⟩=>?_);have I5':=I5.pinned (stat fr5) (T.obj _ _ st5);refine lh hp (thn (hg _ s5 σ3 H5 x u _ I5' r5 (step x H5 y5)) λ_ s6 ⟨σ6,H6,I6,q6⟩=>?_);refine lh hp (thn (hb _ s6 σ6 H6 _ I6 q6) λf s7 q7=>?_);have again:∀{σ7:St} {H7:Hp},Inv X (z7++LU fp s5.heap) σ7 H7 s7->N σ7 H7->∃m,m<n/\∃i σ' H',Inv X z7 σ' H' s7/\tn i s7.heap/\(∀b∈fp,H' b=none)/\W i m σ' H':=λ{σ7 H7} I7 n7=>by
   obtain⟨m',hm,w7⟩:=hN σ7 H7 n7;refine⟨m',hm,i+1,σ7,H7,I7.unpinned,T.keep _ _ _ st5 λb hb o e=>(I7.pin (b,o) (dj _ (dj _ (ID hb e)))).1,λb hb=>?_,w7⟩;obtain⟨o,e,d⟩:=T.obj _ _ st5 b hb;exact(I7.pin (b,o) (dj _ (dj _ (ID hb e)))).2.1
  cases f with
  |next=>obtain⟨σ7,H7,I7,n7⟩:=q7;exact again I7 n7
  |cont=>obtain⟨σ7,H7,I7,n7⟩:=q7;exact again I7 n7
  |brk=>obtain⟨σ7,H7,I7,q7⟩:=q7;exact⟨σ7,H7,I7.unpinned,q7⟩
  |ret v=>obtain⟨x7,σ7,H7,I7,r7,q7⟩:=q7;exact⟨x7,σ7,H7,I7.unpinned,r7,q7⟩
end
theorem DJ {K:aa} {a:ag} {xs:List V} {g:TG} {tb:TS} {D:Ends} {σ:St} {H:Hp} (Pv:Nat->St->Hp->Prop) (h0:Pv 0 σ H) (hl:∀i σ H,i<=xs.length->Pv i σ H->SqL K H a xs)
 (hs:∀i x σ H,xs[i]? =some x->Pv i σ H->g x σ H λσ2 H2=>tb { D with nx:=Pv (i+1),ct:=Pv (i+1),bk:=D.nx } σ2 H2) (hd:∀σ H,Pv xs.length σ H->D.nx σ H):
 ∃W:Nat->Nat->St->Hp->Prop,(∃m,W 0 m σ H)/\∀i m σ H,W i m σ H->
  ((Itl K a).stop i H/\D.nx σ H)\/((Itl K a).go i H/\∃N:St->Hp->Prop,(∀σ' H',N σ' H'->∃m',m'<m/\W (i+1) m' σ' H')/\∀x H',(Itl K a).yld i H x H'->g x σ H' λσ2 H2=>tb { D with nx:=N,ct:=N,bk:=D.nx } σ2 H2):=by
 refine⟨λi m σ H=>m=xs.length - i/\i<=xs.length/\Pv i σ H,⟨xs.length,by simp,dm _,h0⟩,?_⟩;rintro i m σ H ⟨rfl,hi,p⟩;have q:=hl i σ H hi p;by_cases Ad:i<xs.length
 ·refine .inr ⟨⟨xs,xs[i],q,by simp[Ad]⟩,Pv (i+1),λσ' H' p'=>⟨xs.length - (i+1),by omega,rfl,Ad,p'⟩,λx H' y=>?_⟩;obtain⟨e,y⟩:=y;subst e;exact hs i x σ _ (y xs q) p
 ·have e:i=xs.length:=by omega
  subst e;exact .inl ⟨⟨xs,q,aw _⟩,hd σ H p⟩
theorem UA {K:aa} {a:ag} {xs:List V} {g:TG} {tb:TS} {D:Ends} {σ:St} {H:Hp} (Pv:Nat->St->Hp->Prop) (h0:Pv 0 σ H) (hl:∀i σ H,i<=xs.length->Pv i σ H->SqT K H a xs)
 (hs:∀i x σ H,xs[i]? =some x->Pv i σ H->g x σ H λσ2 H2=>tb { D with nx:=Pv (i+1),ct:=Pv (i+1),bk:=D.nx } σ2 H2) (hd:∀σ H,Pv xs.length σ H->D.nx σ H):
 ∃W:Nat->Nat->St->Hp->Prop,(∃m,W 0 m σ H)/\∀i m σ H,W i m σ H->
  ((Itt K a).stop i H/\D.nx σ H)\/((Itt K a).go i H/\∃N:St->Hp->Prop,(∀σ' H',N σ' H'->∃m',m'<m/\W (i+1) m' σ' H')/\∀x H',(Itt K a).yld i H x H'->g x σ H' λσ2 H2=>tb { D with nx:=N,ct:=N,bk:=D.nx } σ2 H2):=by
 refine⟨λi m σ H=>m=xs.length - i/\i<=xs.length/\Pv i σ H,⟨xs.length,by simp,dm _,h0⟩,?_⟩;rintro i m σ H ⟨rfl,hi,p⟩;have q:=hl i σ H hi p;by_cases Ad:i<xs.length
 ·refine .inr ⟨⟨xs,xs[i],q,by simp[Ad]⟩,Pv (i+1),λσ' H' p'=>⟨xs.length - (i+1),by omega,rfl,Ad,p'⟩,λx H' y=>?_⟩;obtain⟨e,y⟩:=y;subst e;exact hs i x σ _ (y xs q) p
 ·have e:i=xs.length:=by omega
  subst e;exact .inl ⟨⟨xs,q,aw _⟩,hd σ H p⟩
theorem QH {c:TT} {tb:TS} {D:Ends} {σ:St} {H:Hp} (Pv:St->Hp->Prop) (μ:St->Hp->Nat) (h0:Pv σ H)
 (hs:∀σ H,Pv σ H->c σ H λb H1=>if b=true then tb { D with nx:=λσ' H'=>Pv σ' H'/\μ σ' H'<μ σ H,ct:=λσ' H'=>Pv σ' H'/\μ σ' H'<μ σ H,bk:=D.nx } σ H1 else D.nx σ H1)
 (mono:∀σ H Q Q',(∀b H1,Q b H1->Q' b H1)->c σ H Q->c σ H Q'):XS c tb D σ H:=by
 refine⟨λm σ H=>m=μ σ H/\Pv σ H,⟨_,rfl,h0⟩,?_⟩;rintro m σ H ⟨rfl,p⟩;refine mono σ H _ _ (λb H1 q=>?_) (hs σ H p);cases b with
 |true=>exact⟨_,λσ' H' ⟨p',l⟩=>⟨_,l,rfl,p'⟩,q⟩
 |false=>exact q
abbrev R2:=V->V->Hp->VK->Prop
def OpR (X:Cx) (f:ah->ah->Sem ah) (r:R2):Prop:=
 ∀(z7:List (ag×Obj)) (s:aj) (σ:St) (H:Hp) (x y:V) (v u:ah) (Q:VK),Inv X z7 σ H s->RelV x v->RelV y u->r x y H Q->
  bf (bi X.prog X.w) X.A (f v u) (EP X z7 σ Q) X.xe s
def UnR (X:Cx) (f:ah->Sem ah) (r:V->Hp->VK->Prop):Prop:=
 ∀(z7:List (ag×Obj)) (s:aj) (σ:St) (H:Hp) (x:V) (v:ah) (Q:VK),Inv X z7 σ H s->RelV x v->r x H Q->
  bf (bi X.prog X.w) X.A (f v) (EP X z7 σ Q) X.xe s
def HV (X:Cx) (f:ah) (r:List V->Hp->VK->Prop):Prop:=
 ∀(z7:List (ag×Obj)) (s:aj) (σ:St) (H:Hp) (xs:List V) (us:List ah) (Q:VK),Inv X z7 σ H s->Vals xs us->r xs H Q->
  bf (bi X.prog X.w) X.A (call f us) (EP X z7 σ Q) X.xe s
def tOp (r:R2) (ta tb:TE):TE:=λσ H Q=>ta σ H λx H1=>tb σ H1 λy H2=>r x y H2 Q
def tUn (r:V->Hp->VK->Prop) (ta:TE):TE:=λσ H Q=>ta σ H λx H1=>r x H1 Q
def rI (C:Int->Int->Prop) (g:Int->Int->V):R2:=λx y H Q=>I2At x y λi j=>C i j/\Q (g i j) H
def rI0 (g:Int->Int->V):R2:=λx y H Q=>I2At x y λi j=>Q (g i j) H
def rU (g:Int->V):V->Hp->VK->Prop:=λx H Q=>I1At x λi=>Q (g i) H
section
variable {X:Cx} {a b c:Expr} {ta tb tc:TE} {pos:Pos}
theorem fT (ha:PE X a ta) (hb:PE X b tb) {z7:List (ag×Obj)} {s:aj} {σ:St} {H:Hp} {R:V->V->Hp->Prop} (I:Inv X z7 σ H s)
 (h:ta σ H λx H1=>tb σ H1 λy H2=>R x y H2) {Q:ah->aj->Prop} {f:ah->ah->Sem ah}
 (hf:∀v u s2 x y H2,Inv X z7 σ H2 s2->RelV x v->RelV y u->R x y H2->bf (bi X.prog X.w) X.A (f v u) Q X.xe s2):
 bf (bi X.prog X.w) X.A (eval a X.env) (λv s₁=>bf (bi X.prog X.w) X.A (eval b X.env) (λu s₂=>bf (bi X.prog X.w) X.A (f v u) Q X.xe s₂) X.xe s₁) X.xe s:=by
 refine thn (ha z7 s σ H _ I h) λv s1 ⟨x,H1,I1,r1,q1⟩=>?_;refine thn (hb z7 s1 σ H1 _ I1 q1) λu s2 ⟨y,H2,I2,r2,q2⟩=>?_;exact hf v u s2 x y H2 I2 r1 r2 q2
theorem BD {op:wd} {r:R2} (ho:OpR X (rZ op) r) (ha:PE X a ta) (hb:PE X b tb):PE X (.BinOp a op b pos) (tOp r ta tb):=by
 intro z7 s σ H Q I h;exact wpAny_BinOp (fT ha hb I h λv u s2 x y H2 I2 rx ry q=>ho z7 s2 σ H2 x y v u Q I2 rx ry q)
theorem GN {op:UnaryOp} {r:V->Hp->VK->Prop} (ho:UnR X (unaryOp op) r) (ha:PE X a ta):PE X (.UnaryOp op a pos) (tUn r ta):=by
 intro z7 s σ H Q I h;exact UnaryOp_ (thn (ha z7 s σ H _ I h) λv s1 ⟨x,H1,I1,r1,q1⟩=>ho z7 s1 σ H1 x v Q I1 r1 q1)
theorem opI {f:ah->ah->Sem ah} {C:Int->Int->Prop} {g:Int->Int->Int}
 (rule:∀(i j:Int) (t u:Tok) (s:aj) (Q:ah->aj->Prop) (E:ah->aj->Prop),C i j->Q (.int (g i j) s.toks) { s with toks:=s.toks+1 }->bf (bi X.prog X.w) X.A (f (.int i t) (.int j u)) Q E s):
 OpR X f (rI C λi j=>.int (g i j)):=by
 intro z7 s σ H x y v u Q I rx ry h;obtain⟨i,j,rfl,rfl,hc,q⟩:=h;obtain⟨t,rfl⟩:=rx;obtain⟨t',rfl⟩:=ry;exact rule i j t t' s _ _ hc ⟨.int (g i j),H,I.tok _,⟨_,rfl⟩,q⟩
theorem kR {f:ah->ah->Sem ah} {g:Int->Int->Int}
 (rule:∀(i j:Int) (t u:Tok) (s:aj) (Q:ah->aj->Prop) (E:ah->aj->Prop),Q (.int (g i j) s.toks) { s with toks:=s.toks+1 }->bf (bi X.prog X.w) X.A (f (.int i t) (.int j u)) Q E s):
 OpR X f (rI0 λi j=>.int (g i j)):=by
 intro z7 s σ H x y v u Q I rx ry h;obtain⟨i,j,rfl,rfl,q⟩:=h;obtain⟨t,rfl⟩:=rx;obtain⟨t',rfl⟩:=ry;exact rule i j t t' s _ _ ⟨.int (g i j),H,I.tok _,⟨_,rfl⟩,q⟩
theorem bI {f:ah->ah->Sem ah} {g:Int->Int->Bool}
 (rule:∀(i j:Int) (t u:Tok) (s:aj) (Q:ah->aj->Prop) (E:ah->aj->Prop),Q (.bool (g i j)) s->bf (bi X.prog X.w) X.A (f (.int i t) (.int j u)) Q E s):
 OpR X f (rI0 λi j=>.bl (g i j)):=by
 intro z7 s σ H x y v u Q I rx ry h;obtain⟨i,j,rfl,rfl,q⟩:=h;obtain⟨t,rfl⟩:=rx;obtain⟨t',rfl⟩:=ry;exact rule i j t t' s _ _ ⟨.bl (g i j),H,I,rfl,q⟩
def kT (i j:Int):Prop:=0<j/\j<1073741824
def CMul (i j:Int):Prop:=(-(2 ^ 64)<i/\i<2 ^ 64)\/(-(2 ^ 64)<j/\j<2 ^ 64)
theorem CMul.ok {i j:Int} (h:CMul i j):IntMulOk i j:=by
 rcases h with⟨h1,h2⟩|⟨h1,h2⟩
 ·exact .of_left (intBits_le_64 h1 h2)
 ·exact .of_right (intBits_le_64 h1 h2)
theorem DK:OpR X (rZ .Add) (rI0 λi j=>.int (i+j)):=kR λ_ _ _ _ _ _ _ q=>add_int q
theorem GO:OpR X (rZ .Sub) (rI0 λi j=>.int (i - j)):=kR λ_ _ _ _ _ _ _ q=>sub_int q
theorem IF:OpR X (rZ .Mult) (rI CMul λi j=>.int (i*j)):=opI λ_ _ _ _ _ _ _ hc q=>mul_int q hc.ok
theorem LC:OpR X (rZ .FloorDiv) (rI kT λi j=>.int (i / j)):=opI λi j _ _ _ _ _ hc q=>by
 have h1:(0:Int)<j:=hc.1;have h2:j<1073741824:=hc.2;exact floordiv_int (by omega) (by rw[sW i (by omega)];exact q) (.inl (uF (by omega)))
theorem R7:OpR X (rZ .Mod) (rI (λ_ j=>0<j) λi j=>.int (i%j)):=opI λi j _ _ _ _ _ hc q=>by
 have h1:(0:Int)<j:=hc;exact mod_int' (by omega) (by rw[Int.fmod_eq_emod_of_nonneg i (by omega)];exact q)
theorem unI {f:ah->Sem ah} {g:Int->Int}
 (rule:∀(i:Int) (t:Tok) (s:aj) (Q:ah->aj->Prop) (E:ah->aj->Prop),Q (.int (g i) s.toks) { s with toks:=s.toks+1 }->bf (bi X.prog X.w) X.A (f (.int i t)) Q E s):
 UnR X f (rU λi=>.int (g i)):=by
 intro z7 s σ H x v Q I rx h;obtain⟨i,rfl,q⟩:=h;obtain⟨t,rfl⟩:=rx;exact rule i t s _ _ ⟨.int (g i),H,I.tok _,⟨_,rfl⟩,q⟩
theorem EU:UnR X (unaryOp .USub) (rU λi=>.int (-i)):=unI λ_ _ _ _ _ q=>neg_int q
end
def kU:V->V->Bool
 | .non,.non=>true| .non,.int _=>true| .int _,.non=>true| .non,.bl _=>true| .bl _,.non=>true| .non,.str _=>true| .str _,.non=>true
 | .int _,.int _=>true| .bl _,.bl _=>true| .str _,.str _=>true| .byt _,.byt _=>true
 | .int _,.str _=>true| .str _,.int _=>true| .bl _,.str _=>true| .str _,.bl _=>true
 |_,_=>false
def rEq:R2:=λx y H Q=>kU x y=true/\Q (.bl (decide (x=y))) H
def rNe:R2:=λx y H Q=>kU x y=true/\Q (.bl (!decide (x=y))) H
theorem UB {i j:Int}:decide (V.int i=V.int j)=(i==j):=by
 rw[ql];simp
theorem XV {i j:Bool}:decide (V.bl i=V.bl j)=(i==j):=by
 rw[ql];simp
theorem UC {i j:Str}:decide (V.str i=V.str j)=(i==j):=by
 rw[ql];simp
theorem UD {i j:Array UInt8}:decide (V.byt i=V.byt j)=(i.toList==j.toList):=by
 rw[ql];cases i;cases j;simp
section
variable {X:Cx} {a b c:Expr} {ta tb tc:TE} {pos:Pos}
theorem BC {z7:List (ag×Obj)} {σ:St} {H:Hp} {s:aj} {Q:VK} {k k':Bool} (I:Inv X z7 σ H s) (q:Q (.bl k) H) (e:k=k'):EP X z7 σ Q (.bool k') s:=by
 subst e;exact⟨.bl k,H,I,rfl,q⟩
theorem C1:OpR X (ki .Eq) rEq:=by
 intro z7 s σ H x y v u Q I rx ry h;obtain⟨hs,q⟩:=h;cases x with
 |non=>
  cases rx;cases y with
  |non=>cases ry;exact ye (BC I q (by simp))
  |bl j=>cases ry;exact yf (BC I q (by simp))
  |int j=>obtain⟨t',rfl⟩:=ry;exact yr (BC I q (by simp))
  |str j=>obtain⟨t',rfl⟩:=ry;exact yt (BC I q (by simp))
  |_=>exact absurd (show false=true from hs) bj
 |bl i=>
  cases rx;cases y with
  |non=>cases ry;exact yg (BC I q (by simp))
  |bl j=>cases ry;exact eq_bool (BC I q XV)
  |str j=>obtain⟨t',rfl⟩:=ry;exact yh (BC I q (by simp))
  |_=>exact absurd (show false=true from hs) bj
 |int i=>
  obtain⟨t,rfl⟩:=rx;cases y with
  |non=>cases ry;exact yu (BC I q (by simp))
  |int j=>obtain⟨t',rfl⟩:=ry;exact eq_int (BC I q UB)
  |str j=>obtain⟨t',rfl⟩:=ry;exact yw (BC I q (by simp))
  |_=>exact absurd (show false=true from hs) bj
 |str i=>
  obtain⟨t,rfl⟩:=rx;cases y with
  |non=>cases ry;exact yx (BC I q (by simp))
  |bl j=>cases ry;exact yi (BC I q (by simp))
  |int j=>obtain⟨t',rfl⟩:=ry;exact yy (BC I q (by simp))
  |str j=>obtain⟨t',rfl⟩:=ry;exact eq_str (BC I q UC)
  |_=>exact absurd (show false=true from hs) bj
 |byt i=>
  obtain⟨t,rfl⟩:=rx;cases y with
  |byt j=>obtain⟨t',rfl⟩:=ry;exact PySem.W.eq_bytes (BC I q UD)
  |_=>exact absurd (show false=true from hs) bj
 |_=>cases y<;>exact absurd (show false=true from hs) bj
theorem dS:OpR X (ki .NotEq) rNe:=by
 intro z7 s σ H x y v u Q I rx ry h;obtain⟨hs,q⟩:=h;cases x with
 |non=>
  cases rx;cases y with
  |non=>cases ry;exact yj (BC I q (by simp))
  |bl j=>cases ry;exact yk (BC I q (by simp))
  |int j=>obtain⟨t',rfl⟩:=ry;exact yz (BC I q (by simp))
  |str j=>obtain⟨t',rfl⟩:=ry;exact yA (BC I q (by simp))
  |_=>exact absurd (show false=true from hs) bj
 |bl i=>
  cases rx;cases y with
  |non=>cases ry;exact yl (BC I q (by simp))
  |bl j=>cases ry;exact ne_bool (BC I q (congrArg not XV))
  |str j=>obtain⟨t',rfl⟩:=ry;exact ym (BC I q (by simp))
  |_=>exact absurd (show false=true from hs) bj
 |int i=>
  obtain⟨t,rfl⟩:=rx;cases y with
  |non=>cases ry;exact yB (BC I q (by simp))
  |int j=>obtain⟨t',rfl⟩:=ry;exact ne_int (BC I q (congrArg not UB))
  |str j=>obtain⟨t',rfl⟩:=ry;exact yC (BC I q (by simp))
  |_=>exact absurd (show false=true from hs) bj
 |str i=>
  obtain⟨t,rfl⟩:=rx;cases y with
  |non=>cases ry;exact yD (BC I q (by simp))
  |bl j=>cases ry;exact yn (BC I q (by simp))
  |int j=>obtain⟨t',rfl⟩:=ry;exact yE (BC I q (by simp))
  |str j=>obtain⟨t',rfl⟩:=ry;exact ne_str (BC I q (congrArg not UC))
  |_=>exact absurd (show false=true from hs) bj
 |byt i=>
  obtain⟨t,rfl⟩:=rx;cases y with
  |byt j=>obtain⟨t',rfl⟩:=ry;exact PySem.W.ne_bytes (BC I q (congrArg not UD))
  |_=>exact absurd (show false=true from hs) bj
 |_=>cases y<;>exact absurd (show false=true from hs) bj
theorem HW:OpR X (ki .Lt) (rI0 λi j=>.bl (decide (i<j))):=bI λ_ _ _ _ _ _ _ q=>lt_int q
theorem LV:OpR X (ki .LtE) (rI0 λi j=>.bl (decide (i<=j))):=bI λ_ _ _ _ _ _ _ q=>le_int q
theorem E9:OpR X (ki .Gt) (rI0 λi j=>.bl (decide (j<i))):=bI λ_ _ _ _ _ _ _ q=>gt_int q
theorem kW:OpR X (ki .GtE) (rI0 λi j=>.bl (decide (j<=i))):=bI λ_ _ _ _ _ _ _ q=>ge_int q
theorem fU:OpR X (ki .Is) (λx y H Q=>y= .non/\Q (.bl (decide (x= .non))) H):=by
 intro z7 s σ H x y v u Q I rx ry h;obtain⟨rfl,q⟩:=h;cases ry;refine is_none_gen (BC I q ?_);cases x<;>first
  |(cases rx;rfl)
  |(obtain⟨t,rfl⟩:=rx;rfl)
theorem bJ:OpR X (ki .IsNot) (λx y H Q=>y= .non/\Q (.bl (!decide (x= .non))) H):=by
 intro z7 s σ H x y v u Q I rx ry h;obtain⟨rfl,q⟩:=h;cases ry;refine isnot_none_gen (BC I q ?_);cases x<;>first
  |(cases rx;rfl)
  |(obtain⟨t,rfl⟩:=rx;rfl)
theorem AQ (b:Expr) {op:yM} (h:op≠.In:=by decide) (h2:op≠.NotIn:=by decide):oe op b=false:=by
 have e1:(op==z6)=false:=by cases op<;>first|rfl|exact absurd rfl h
 have e2:(op==ze)=false:=by cases op<;>first|rfl|exact absurd rfl h2
 cases b<;>simp[oe,e1,e2]
theorem DL {op:yM} {r:R2} (ho:OpR X (ki op) r) (ha:PE X a ta) (hb:PE X b tb) (hm:oe op b=false):PE X (.Compare a [op] [b] pos) (tOp r ta tb):=by
 intro z7 s σ H Q I h;exact wpAny_Compare1 (fT ha hb I h λv u s2 x y H2 I2 rx ry q=>ho z7 s2 σ H2 x y v u Q I2 rx ry q) hm
def QI (t:TE):TT:=λσ H Q=>t σ H λx H'=>BlAt x λk=>Q k H'
theorem AO {op:yM} {r:R2} (ho:OpR X (ki op) r) (ha:PE X a ta) (hb:PE X b tb) (hm:oe op b=false):PT X (.Compare a [op] [b] pos) (QI (tOp r ta tb)):=by
 intro z7 s σ H Q I h;refine u0 (thn (ha z7 s σ H _ I h) λv s1 ⟨x,H1,I1,r1,q1⟩=>thn (hb z7 s1 σ H1 _ I1 q1) λu s2 ⟨y,H2,I2,r2,q2⟩=>
  thn (ho z7 s2 σ H2 x y v u _ I2 r1 r2 q2) λc s3 ⟨z,H3,I3,r3,k,e,q3⟩=>?_) hm
 subst e;cases r3;exact on ⟨H3,I3,q3⟩
def fV (r r':R2) (ta tb tc:TE):TE:=λσ H Q=>ta σ H λx H1=>tb σ H1 λy H2=>r x y H2 λz H3=>BlAt z λk=>
 (if k=true then tc σ H3 λw' H4=>r' y w' H4 Q else Q (.bl false) H3)
theorem XW {op op':yM} {r r':R2} (ho:OpR X (ki op) r) (ho':OpR X (ki op') r') (ha:PE X a ta) (hb:PE X b tb) (hc:PE X c tc)
 (hm:lastMarks [op,op'] [b,c]=false:=by with_unfolding_all rfl):PE X (.Compare a [op,op'] [b,c] pos) (fV r r' ta tb tc):=by
 intro z7 s σ H Q I h;refine Compare_chain (thn (ha z7 s σ H _ I h) λv s1 ⟨x,H1,I1,r1,q1⟩=>chain_link (thn (hb z7 s1 σ H1 _ I1 q1) λu s2 ⟨y,H2,I2,r2,q2⟩=>
  thn (ho z7 s2 σ H2 x y v u _ I2 r1 r2 q2) λd s3 ⟨z,H3,I3,r3,k,e,q3⟩=>?_)) hm
 subst e;cases r3;refine on ?_;cases k with
 |false=>exact ite_ff ⟨.bl false,H3,I3,rfl,q3⟩
 |true=>exact ite_tt (chain_last (thn (hc z7 s3 σ H3 _ I3 q3) λw' s4 ⟨z',H4,I4,r4,q4⟩=>ho' z7 s4 σ H4 y z' u w' Q I4 r2 r4 q4))
theorem JQ:(sizeLine:Nat)<2 ^ 63:=by rw[bz];decide
theorem R8:OpR X (rZ .Add) (λx y H Q=>Ex2 λi j=>x= .str i/\y= .str j/\i.length+j.length<=sizeLine/\Q (.str (i++j)) H):=by
 intro z7 s σ H x y v u Q I rx ry h;obtain⟨i,j,rfl,rfl,hz,q⟩:=h;obtain⟨t,rfl⟩:=rx;obtain⟨t',rfl⟩:=ry;exact add_str (λt' tk=>⟨.str (i++j),H,I.tok _,⟨_,rfl⟩,q⟩) hz
theorem NW {x:V} {us:List ah} (r:Vals [x] us):∃u,us=[u]/\RelV x u:=by
 cases r with
 |cons r1 r2=>cases r2;exact⟨_,rfl,r1⟩
theorem LW:HV X (.builtin "abs") (λxs H Q=>∃i,xs=[.int i]/\Q (.int (if i<0 then -i else i)) H):=by
 intro z7 s σ H xs us Q I r h;obtain⟨i,rfl,q⟩:=h;obtain⟨u,rfl,t,rfl⟩:=NW r;exact call_abs_int λu tk=>⟨.int (if i<0 then -i else i),H,I.tok _,⟨_,rfl⟩,q⟩
theorem XY:HV X (.builtin "ord") (λxs H Q=>∃x,xs=[.str x]/\x.length=1/\Q (.int (x.cps.getD 0 0:Nat)) H):=by
 intro z7 s σ H xs us Q I r h;obtain⟨x,rfl,hz,q⟩:=h;obtain⟨u,rfl,t,rfl⟩:=NW r;exact ord_of_one hz ⟨.int _,H,I.tok _,⟨_,rfl⟩,q⟩
end
structure ObjM (h:cq) (x dx C:ag) (mA:Str->Option ah):Prop where
 obj:h.get? x=some (jy C dx)
 ns:h.Ns1 dx mA
 ne:dx≠x
theorem JR {h:cq} {dx:ag} {mA:Str->Option ah} (n:h.Ns1 dx mA):∃od,h.get? dx=some od/\∀name,sX name od=some (mA name):=by
 obtain⟨o,es,ep,ho,hd,hk,_,hm⟩:=n;refine⟨o,ho,λname=>?_⟩;have e:=hm name;unfold nsFind findBy at e;rw[←Array.find?_toList] at e;unfold sX;rw[hd];dsimp only;split
 ·rename_i y q;rw[q] at e;exact congrArg some e
 ·rename_i q;rw[q] at e;have a:es.toList.any (·.refKey)=false:=by
   rw[List.any_eq_false];intro y hy;obtain⟨z,t,hkey⟩:=hk y (Array.mem_toList_iff.mp hy);simp[DictEntry.refKey,hkey]
  have a':¬es.toList.any (·.refKey)=true:=by rw[a];exact bj
  rw[Af a'];exact congrArg some e
theorem ObjM.look {h:cq} {x dx C:ag} {mA:Str->Option ah} (I:ObjM h x dx C mA):∃od,xE h x (jy C dx) C (some od)/\∀name,sX name od=some (mA name):=
 let ⟨od,ho,hl⟩:=JR I.ns
 ⟨od,⟨I.obj,rfl,rfl,ho⟩,hl⟩
section
variable {prog:bb} {w:bw} {A:cz} {E:ah->aj->Prop} {s:aj} {K:aa} {x dx C f:ag} {mA:Str->Option ah} {name:Str} {v:ah}
theorem bK {expr:Bool} {Q:ah->aj->Prop} (X:K.In s.heap) (I:ObjM s.heap x dx C mA) (hg:rP K C name=true) (hh:tO K C=true)
 (ha:ij K (.ref C) name=some none) (hv:mA name=some v) (hv':wJ v=true) (h:Q v { s with toks:=s.toks+1 }):
 bf (bi prog w) A (yS (.ref x) name expr) Q E s:=by
 obtain⟨od,J,hl⟩:=I.look;exact PySem.W.get_value X J (sH hg).1 (PySem.W.findObj_own hh ha rfl (by rw[hl,hv])) hv' h
theorem XZ {pl:Sem Bool} {Q:ah×List ah->aj->Prop} (X:K.In s.heap) (I:ObjM s.heap x dx C mA) (hg:rP K C name=true)
 (hf:ij K (.ref C) name=some (some (.ref f))) (ht:pj K (.ref f)=true) (hv:mA name=none) (h:Q (.ref f,[.ref x]) s):
 bf (bi prog w) A (kj (.ref x) name pl) Q E s:=by
 obtain⟨od,J,hl⟩:=I.look;exact PySem.W.method_fn X J (sH hg).1 (sH hg).2 hf (beq_iff_eq.mp ht) (by show(sX name od).map (·.isSome)=some false;rw[hl,hv];rfl) h
theorem bL {ns:List Str} {Q:Unit->aj->Prop} (X:K.In s.heap) (I:ObjM s.heap x dx C mA)
 (hs:ij K (.ref C) "__setattr__"=some (some (.builtin "object.__setattr__"))) (hp:wf K C=true) (ht:uS K C name=some none) (hh:tO K C=true)
 (hw:pc mA ns) (hsz:ns.length<=sizeLine)
 (h:∀h',ObjM h' x dx C (λy=>if y=name then some v else mA y)->pd dx s.heap h'->Q () { s with heap:=h',toks:=s.toks+2 }):
 bf (bi prog w) A (yT (.ref x) name v) Q E s:=by
 obtain⟨od,J,hl⟩:=I.look;refine PySem.W.set_plain X J hs (PySem.W.osa_open (s:={ s with toks:=s.toks+1 }) (r:=none) X J hp ht λb=>?_);obtain⟨cd,hc,hd'⟩:=wK hh;have hx:s.heap.get? x=some ⟨.ref C,some dx,.plain,#[]⟩:=I.obj;refine ae (ao (ae (ae (vg hx (ae (my (s:={ s with toks:=s.toks+1 }) (PySem.W.looks_clsIn X hc) ?_))))));rw[hd'];refine ao (a:=some dx) (ae (ao (ae ?_)));refine wg (s:={ s with toks:=s.toks+1 }) I.ns λh' hn2 hs2=>?_;obtain⟨oD,esD,epD,hoD,hdD,hcD⟩:=hn2.count (tP name v hw);refine ae (uf hoD (by rw[hdD];exact ug (cw hcD (by rw[fm];omega))) ?_);exact ao (h _ ⟨(hs2.2 _ (cr I.ne)).trans I.obj,hn2,I.ne⟩ hs2)
theorem X0 {R:wL->aj->Prop} {vs:List ah} {kw:List (Str×ah)} (X:K.In s.heap) (hm:uT K C=true)
 (hi:ij K (.ref C) "__init__"=some (some (.ref f))) (hf:PySem.W.typeIn K (.ref f)=some (.type "function"))
 (h:mn (bi prog w) (A.under (.builtin "type.__call__" ⟨.ref C::vs,kw⟩)) (.call (.ref f) ⟨.ref (s.heap.objs.size+1)::vs,kw⟩) (PySem.W.InitBack (s.heap.objs.size+1) R)
  { s with heap:=(s.heap.push iu).push (jy C s.heap.objs.size) }):
 mn (bi prog w) A (.call (.ref C) ⟨vs,kw⟩) R s:=by
 obtain⟨hh,g,d,t,os⟩:=s;exact PySem.W.make_core (PySem.W.makes_of X hm) (PySem.W.looks_findIn X hi) (λself=>PySem.W.bind_fn X self hf) (.inl rfl) h
end
def FH (f:Str) (v:V):List (Str×V)->List (Str×V)
 |[]=>[(f,v)]
 |(g,x)::r=>if g=f then(g,v)::r else(g,x)::FH f v r
theorem GP (f g:Str) (v:V):∀fs:List (Str×V),(FH f v fs).lookup g=if g=f then some v else fs.lookup g
 |[]=>by
  show jc g [(f,v)]=_;by_cases h:g=f
  ·have hb:(g==f)=true:=beq_iff_eq.mpr h;simp only[jc,hb,Ae h]
  ·have hb:(g==f)=false:=beq_eq_false_iff_ne.mpr h;simp only[jc,hb,Af h]
 |(k,x)::r=>by
  have ih:=GP f g v r;rw[show FH f v ((k,x)::r)=(if k=f then(k,v)::r else(k,x)::FH f v r) from rfl];by_cases hk:k=f
  ·rw[Ae hk];by_cases h:g=k
   ·have hb:(g==k)=true:=beq_iff_eq.mpr h;simp only[jc,hb,Ae (h.trans hk)]
   ·have hb:(g==k)=false:=beq_eq_false_iff_ne.mpr h;simp only[jc,hb,Af (λe:g=f=>h (e.trans hk.symm))]
  ·rw[Af hk];by_cases h:g=k
   ·have hb:(g==k)=true:=beq_iff_eq.mpr h;simp only[jc,hb,Af (λe:g=f=>hk (h.symm.trans e))]
   ·have hb:(g==k)=false:=beq_eq_false_iff_ne.mpr h;simp only[jc,hb];exact ih
theorem F1 (f:Str) (v:V):∀fs:List (Str×V),f∈(FH f v fs).map (·.1)/\∀g,g∈fs.map (·.1)->g∈(FH f v fs).map (·.1)
 |[]=>⟨by simp[FH],λg h=>by simp at h⟩
 |(k,x)::r=>by
  obtain⟨i1,i2⟩:=F1 f v r;rw[show FH f v ((k,x)::r)=(if k=f then(k,v)::r else(k,x)::FH f v r) from rfl];by_cases hk:k=f
  ·rw[Ae hk];subst hk;exact⟨by simp,λg h=>by simpa using h⟩
  ·rw[Af hk];refine⟨?_,λg h=>?_⟩
   ·rw[fi];exact aq _ i1
   ·rw[fi] at h ⊢;rcases bg.mp h with e|e
    ·exact bg.mpr (.inl e)
    ·exact aq _ (i2 g e)
theorem FA (f:Str) (v:V):∀fs:List (Str×V),(FH f v fs).length<=fs.length+1
 |[]=>by simp[FH]
 |(k,x)::r=>by
  have ih:=FA f v r;rw[show FH f v ((k,x)::r)=(if k=f then(k,v)::r else(k,x)::FH f v r) from rfl];by_cases hk:k=f
  ·rw[Ae hk,fm,fm];omega
  ·rw[Af hk,fm,fm];omega
theorem RelO.some_of {v:V} {o:Option ah} (r:RelO (some v) o):∃u,o=some u/\RelV v u:=by
 cases o with
 |none=>exact(show False from r).elim
 |some u=>exact⟨u,rfl,r⟩
theorem RelO.none_of {o:Option ah} (r:RelO none o):o=none:=by
 cases o with
 |none=>rfl
 |some u=>exact(show False from r).elim
theorem NX {v:V} {u:ah} (r:RelV v u):wJ u=true:=by
 cases v with
 |non=>cases (show u=io from r);rfl
 |bl b=>cases (show u=zH b from r);rfl
 |int i=>obtain⟨t,e⟩:=(show∃t,u=ud i t from r);cases e;rfl
 |str x=>obtain⟨t,e⟩:=(show∃t,u=wE x t from r);cases e;rfl
 |byt b=>obtain⟨t,e⟩:=(show∃t,u=zc b t from r);cases e;rfl
 |flt b=>obtain⟨t,e⟩:=(show∃t,u=zd b t from r);cases e;rfl
 |ref a=>cases (show u=cb a from r);rfl
 |ty n=>cases (show u=jb n from r);rfl
section
variable {P:bb} {w:bw} {H H':Hp} {h h':cq} {a C dx:ag} {fs fs':List (Str×V)}
theorem OY (hok:HOk P w H h) (e:H a=some (.ins C dx fs)):∃mA,ObjM h a dx C mA/\(∀f,RelO (fs.lookup f) (mA f))/\pc mA (fs.map (·.1))/\fs.length<=1000/\H dx=some (.own a):=by
 obtain⟨d,z,ne,ob,mA,n,r,q⟩:=(show ObjOk P w H h a (.ins C dx fs) from hok a _ e)
 exact⟨mA,⟨ob,n,ne⟩,r,q,z,d⟩
end
structure Cls (K:aa) (C:ag):Prop where
 pg:rP K C Str.empty=true
 hd:tO K C=true
 po:wf K C=true
 sa:ij K (.ref C) "__setattr__"=some (some (.builtin "object.__setattr__"))
theorem Cls.get {K:aa} {C:ag} (c:Cls K C) (f:Str):rP K C f=true:=c.pg
def NoAttr (K:aa) (C:ag) (f:Str):Prop:=ij K (.ref C) f=some none
theorem NoAttr.taker {K:aa} {C:ag} {f:Str} (n:NoAttr K C f):uS K C f=some none:=by
 unfold uS;rw[show ij K (.ref C) f=some none from n];rfl
structure Meth (K:aa) (C:ag) (m:Str) (f:ag):Prop where
 at_:ij K (.ref C) m=some (some (.ref f))
 fn:pj K (.ref f)=true
 kp:du K (.ref f)=true
section
variable {X:Cx} {z7:List (ag×Obj)} {σ:St} {H:Hp} {s:aj} {a C dx:ag} {fs:List (Str×V)} {f:Str} {v:V} {A:cz} {E:ah->aj->Prop}
theorem LX {b:Bool} {Q:ah->aj->Prop} (I:Inv X z7 σ H s) (e:H a=some (.ins C dx fs)) (c:Cls X.K C) (n:NoAttr X.K C f) (l:fs.lookup f=some v)
 (h:∀u s',Inv X z7 σ H s'->RelV v u->Q u s'):bf (bi X.prog X.w) A (yS (.ref a) f b) Q E s:=by
 obtain⟨mA,O,r,_,_,_⟩:=OY I.hok e;obtain⟨u,hu,ru⟩:=RelO.some_of (v:=v) (o:=mA f) (by rw[←l];exact r f);exact bK I.kIn O (c.get f) c.hd n hu (NX ru) (h u _ (I.tok _) ru)
theorem IG {m:Str} {g:ag} {pl:Sem Bool} {Q:ah×List ah->aj->Prop} (I:Inv X z7 σ H s) (e:H a=some (.ins C dx fs)) (c:Cls X.K C) (k:Meth X.K C m g) (l:fs.lookup m=none)
 (h:Q (.ref g,[.ref a]) s):bf (bi X.prog X.w) A (kj (.ref a) m pl) Q E s:=by
 obtain⟨mA,O,r,_,_,_⟩:=OY I.hok e;have hn:mA m=none:=RelO.none_of (by rw[←l];exact r m);exact XZ I.kIn O (c.get m) k.at_ k.fn hn h
theorem LY {y:V} {u:ah} {Q:Unit->aj->Prop} (I:Inv X z7 σ H s) (e:H a=some (.ins C dx fs)) (c:Cls X.K C) (n:NoAttr X.K C f) (hl:fs.length<1000) (ry:RelV y u)
 (h:∀s',Inv X z7 σ (upd H a (.ins C dx (FH f y fs))) s'->Q () s'):bf (bi X.prog X.w) A (yT (.ref a) f u) Q E s:=by
 obtain⟨mA,O,r,wi,_,ho⟩:=OY I.hok e;have hz:(fs.map (·.1)).length<=sizeLine:=by rw[ai,bz];omega
 refine bL I.kIn O c.sa c.po n.taker c.hd wi hz λh' O' sb=>h _ ?_;have hd:∃o,h'.get? dx=some o:=let ⟨o,_,_,e',_⟩:=O'.ns;⟨o,e'⟩;refine I.write (x:=a) (e:=dx) (by rw[e];exact jg) (.inr ho) (λb q hb z=>(sb.2 b hb).trans z) hd ?_;refine⟨by rw[AE O.ne];exact ho,?_,O.ne,O'.obj,_,O'.ns,λg=>?_,λg hg=>?_⟩
 ·have:=FA f y fs;omega
 ·show RelO ((FH f y fs).lookup g) (if g=f then some u else mA g);rw[GP];by_cases q:g=f
  ·rw[Ae q,Ae q];exact ry
  ·rw[Af q,Af q];exact r g
 ·by_cases q:g=f
  ·rw[q];exact(F1 f y fs).1
  ·refine(F1 f y fs).2 g (wi g λz=>hg ?_);show(if g=f then some u else mA g)=none;rw[Af q];exact z
theorem Inv.made (I:Inv X z7 σ H s):Inv X z7 σ (upd (upd H s.heap.objs.size (.own (s.heap.objs.size+1))) (s.heap.objs.size+1) (.ins C s.heap.objs.size []))
 { s with heap:=(s.heap.push iu).push (jy C s.heap.objs.size) }:=by
 have e1:(s.heap.push iu).get? s.heap.objs.size=some iu:=bn s.heap rfl;have e2:((s.heap.push iu).push (jy C s.heap.objs.size)).get? (s.heap.objs.size+1)=some (jy C s.heap.objs.size):=by
  have:=bn (s.heap.push iu) (o:=jy C s.heap.objs.size) rfl
  rwa [fh] at this
 have e3:(s.heap.push iu).Ns s.heap.objs.size (λ_=>none):=⟨iu,#[],_,e1,rfl,(λe he=>absurd he (by simp)),λ_=>rfl⟩
 have I1:=I.laid (a:=s.heap.objs.size) (o:=.own (s.heap.objs.size+1)) (h':=s.heap.push iu) (t':=s.toks) (λb u q=>ak _ q) (aw _) ⟨_,e1⟩;refine I1.laid (a:=s.heap.objs.size+1) (o:=.ins C s.heap.objs.size []) (t':=s.toks) (λb u q=>ak _ q) (rh (fh _ _)) ?_;have ne:s.heap.objs.size≠s.heap.objs.size+1:=cg (uh _);refine⟨by rw[AE ne,upd_same],dm _,ne,e2,λ_=>none,(wj e3).at λo q=>ak _ q,λ_=>jg,λy hy=>absurd rfl hy⟩
theorem UE {prog:bb} {w:bw} {env:Env} {e:Expr} {f:Str} {pos:Pos} {s:aj} {Q:ah->aj->Prop} (hb:jq e f env (eval e env)=eval e env)
 (h:bf (bi prog w) A (eval e env) (λo s₁=>bf (bi prog w) A (yS o f true) Q E s₁) E s):bf (bi prog w) A (eval (.Attribute e f pos) env) Q E s:=
 Attribute_any_ h (by rw[arm_eval_Attribute,hb])
end
inductive FldAt (K:aa) (f:Str) (x:V) (H:Hp) (Q:V->Prop):Prop
 |intro(a C dx:ag) (fs:List (Str×V)) (v:V) (e:x= .ref a) (h1:H a=some (.ins C dx fs)) (h2:Cls K C) (h3:NoAttr K C f) (h4:fs.lookup f=some v) (h:Q v):FldAt K f x H Q
def OZ (K:aa) (ta:TE) (f:Str):TE:=λσ H Q=>ta σ H λx H1=>FldAt K f x H1 λv=>Q v H1
def qN (K:aa) (ta tv:TE) (f:Str):TS:=λD σ H=>tv σ H λy H1=>ta σ H1 λx H2=>Ex4 λa C dx fs=>x= .ref a/\H2 a=some (.ins C dx fs)/\Cls K C/\NoAttr K C f/\fs.length<1000/\
 D.nx σ (upd H2 a (.ins C dx (FH f y fs)))
def kX (X:Cx) (op:wd) (rd:V->V->Hp->VK->Prop):Prop:=
 ∀(z7:List (ag×Obj)) (s:aj) (σ:St) (H:Hp) (x y:V) (u v:ah) (Q:VK),Inv X z7 σ H s->RelV x u->RelV y v->rd x y H Q->bf (bi X.prog X.w) X.A (yN op u v) (EP X z7 σ Q) X.xe s
def bM (K:aa) (ta tv:TE) (rd:V->V->Hp->VK->Prop) (f:Str):TS:=λD σ H=>ta σ H λx H1=>Ex5 λa C dx fs v=>x= .ref a/\H1 a=some (.ins C dx fs)/\Cls K C/\NoAttr K C f/\fs.lookup f=some v/\
 tv σ H1 λy H2=>rd v y H2 λz H3=>Ex2 λdx' fs'=>H3 a=some (.ins C dx' fs')/\fs'.length<1000/\D.nx σ (upd H3 a (.ins C dx' (FH f z fs')))
section
variable {X:Cx} {o e value:Expr} {f:Str} {pos pos' tpos:Pos} {ta tv:TE}
theorem AV (he:PE X e ta) (hb:jq e f X.env (eval e X.env)=eval e X.env):PE X (.Attribute e f pos) (OZ X.K ta f):=by
 intro z7 s σ H Q I h;refine UE hb (thn (he z7 s σ H _ I h) λu s1 ⟨x,H1,I1,rx,a,C,dx,fs,v,ex,ea,c,n,l,q⟩=>?_);subst ex;obtain rfl:u=cb a:=rx;exact LX I1 ea c n l λu' s2 I2 ru=>⟨v,H1,I2,ru,q⟩
theorem CO (ha:PE X o ta) (hv:PE X value tv) (hs:pf value (some (.Attribute o f pos')) pos.line X.env=pure false):PS X (.Assign [.Attribute o f pos'] value pos) (qN X.K ta tv f):=by
 intro z7 s σ H D I h;refine mj (thn (hv z7 s σ H _ I h) λu s1 ⟨y,H1,I1,ry,q⟩=>thn (ha z7 s1 σ H1 _ I1 q) λov s2 ⟨x,H2,I2,rx,a,C,dx,fs,ex,ea,c,n,l,q2⟩=>?_) hs;subst ex;obtain rfl:ov=cb a:=rx;exact LY I2 ea c n l ry λs3 I3=>⟨σ,_,I3,q2⟩
theorem WH {op:wd} {rd:V->V->Hp->VK->Prop} (ha:PE X o ta) (hv:PE X value tv) (hop:kX X op rd):PS X (.AugAssign (.Attribute o f tpos) op value pos) (bM X.K ta tv rd f):=by
 intro z7 s σ H D I h;refine wpAny_AugAssign_AttributeAny (thn (ha z7 s σ H _ I h) λov s1 ⟨x,H1,I1,rx,a,C,dx,fs,v,ex,ea,c,n,l,q⟩=>?_);subst ex;obtain rfl:ov=cb a:=rx;refine LX I1 ea c n l λu s2 I2 ru=>thn (hv z7 s2 σ H1 _ I2 q) λw3 s3 ⟨y,H2,I3,ry,q3⟩=>thn (hop z7 s3 σ H2 v y u w3 _ I3 ru ry q3) λw4 s4 ⟨z,H3,I4,rz,dx',fs',ea',l',q4⟩=>?_;exact LY I4 ea' c n l' rz λs5 I5=>⟨σ,_,I5,q4⟩
def qO:V->V->Hp->VK->Prop:=λx y H Q=>I2At x y λi j=>Q (.int (i+j)) H
theorem fW:kX X .Add qO:=by
 rintro z7 s σ H x y u v Q I rx ry ⟨i,j,rfl,rfl,q⟩;obtain⟨t,rfl⟩:=(show∃t,u=ud i t from rx)
 obtain⟨t',rfl⟩:=(show∃t',v=ud j t' from ry)
 exact y3 ⟨.int (i+j),H,I.tok _,⟨_,rfl⟩,q⟩
theorem dU {pl:Sem Bool} {m:Str} {apos:Pos} {args:List Expr} {z7:List (ag×Obj)} {s:aj} {σ:St} {H:Hp} {Q:ah->aj->Prop} {te:TE} (he:PE X e te) (I:Inv X z7 σ H s)
 (h:te σ H λx H1=>∃a C dx fs g,x= .ref a/\H1 a=some (.ins C dx fs)/\Cls X.K C/\Meth X.K C m g/\fs.lookup m=none/\
  ∀s1,Inv X z7 σ H1 s1->bf (bi X.prog X.w) X.A (mr pos (.ref g) [.ref a] (ig pos (be args X.env)) (jr pos (gq [] X.env))) Q X.xe s1)
 (ht:eval (.Call (.Attribute e m apos) args [] pos) X.env=(do
  let ov←eval e X.env
  mm apos.atName
  let (f,first)←li [ov] (kj ov m pl)
  mr pos f first (ig pos (be args X.env)) (jr pos (gq [] X.env)))):
 bf (bi X.prog X.w) X.A (eval (.Call (.Attribute e m apos) args [] pos) X.env) Q X.xe s:=by
 refine om (pl:=pl) (thn (he z7 s σ H _ I h) λu s1 ⟨x,H1,I1,rx,a,C,dx,fs,g,ex,ea,c,k,l,q⟩=>?_) ht;subst ex;obtain rfl:u=cb a:=rx;exact IG I1 ea c k l (q s1 I1)
end
structure Room (k:Nat) (A:cz):Prop where
 hd:A.handled=none
 dp:A.depth+3*k+5<sY
 un:A.units+16*k+200<wk
theorem Room.mono {j k:Nat} {A:cz} (r:Room k A) (h:j<=k):Room j A:=⟨r.hd,by have:=r.dp;omega,by have:=r.un;omega⟩
theorem Room.deeper {k:Nat} {A:cz} (r:Room (k+1) A) (env:Env):Room k (A.deeper env):=
 ⟨r.hd,by have:=r.dp;show A.depth+1+3*k+5<_;omega,by have:=r.un;show A.units+3+16*k+200<_;omega⟩
theorem Room.in1 {k:Nat} {A:cz} (r:Room (k+1) A):Room k A.in1:=
 ⟨r.hd,by have:=r.dp;show A.depth+3*k+5<_;omega,by have:=r.un;show A.units+1+16*k+200<_;omega⟩
theorem LZ {A:cz} {C:ag} {us:List ah} {kw:List (Str×ah)}:(A.under (.builtin "type.__call__" ⟨.ref C::us,kw⟩)).depth=A.depth+1:=by
 first|rfl|simp[wl,Code.weight,Code.isCreation,Code.isGuard,Code.isCaller,zg,wm,guardIds]
theorem L0 {A:cz} {C:ag} {us:List ah} {kw:List (Str×ah)}:(A.under (.builtin "type.__call__" ⟨.ref C::us,kw⟩)).units=A.units+1:=by
 first|rfl|simp[wl,Code.cUnits,zg,wm]
theorem Room.make {k:Nat} {A:cz} (r:Room (k+1) A) (C:ag) (us:List ah) (kw:List (Str×ah)):Room k (A.under (.builtin "type.__call__" ⟨.ref C::us,kw⟩)):=
 ⟨r.hd,by have:=r.dp;rw[LZ];omega,by have:=r.un;rw[L0];omega⟩
theorem Room.depth {k:Nat} {A:cz} (r:Room k A):A.depth<sY:=by have:=r.dp;omega
theorem Room.units {k:Nat} {A:cz} (r:Room k A):A.units+64<wk:=by have:=r.un;omega
def EV:TA:=λ_ H Q=>Q [] H
def CC (ta:TE) (tr:TA):TA:=λσ H Q=>ta σ H λx H1=>tr σ H1 λxs H2=>Q (x::xs) H2
section
variable {X:Cx} {e:Expr} {es:List Expr} {te:TE} {t:TA} {pos:Pos}
theorem AF:PA X [] EV:=λ_ _ _ _ H Q I h=>rj ⟨[],H,I,.nil,h⟩
theorem AA (ha:PE X e te) (hr:PA X es t) (hs:be (e::es) X.env=(false,eval e X.env)::be es X.env:=by rfl):PA X (e::es) (CC te t):=by
 intro pos z7 s σ H Q I h;rw[hs];show bf _ _ (yR ((false,eval e X.env)::ig pos (be es X.env))) _ _ s;refine sZ (thn (ha z7 s σ H _ I h) λu s1 ⟨x,H1,I1,r1,q1⟩=>?_);exact thn (hr pos z7 s1 σ H1 _ I1 q1) λus s2 ⟨xs,H2,I2,r2,q2⟩=>⟨x::xs,H2,I2,.cons r1 r2,q2⟩
def fX (t:TA):TE:=λσ H Q=>t σ H λxs H1=>xs.length<=sizeLine/\∀p,H1 p=none->Q (.ref p) (upd H1 p (.tup xs))
def fY (t:TA):TE:=λσ H Q=>t σ H λxs H1=>xs.length<=sizeLine/\∀p,H1 p=none->Q (.ref p) (upd H1 p (.lst xs))
theorem EW {x1} (h:PA X es t):PE X (.Tuple es x1 pos) (fX t):=by
 intro z7 s σ H Q I hq;refine wpAny_Tuple_spliced (thn (h pos z7 s σ H _ I hq) λus s1 ⟨xs,H1,I1,r,z,q⟩=>⟨by rw[←r.length];exact z,?_⟩);have hf:H1 s1.heap.objs.size=none:=I1.hok.fresh (aw _);refine⟨.ref s1.heap.objs.size,upd H1 s1.heap.objs.size (.tup xs),I1.laid (t':=s1.toks) (λb u e=>ak _ e) (aw _) ?_,rfl,q _ hf⟩;exact⟨z,us,r,⟨_,bn _ rfl,rfl,_,rfl⟩⟩
theorem DM (h:PA X es t):PE X (.List es pos) (fY t):=by
 intro z7 s σ H Q I hq;refine wpAny_List_spliced (thn (h pos z7 s σ H _ I hq) λus s1 ⟨xs,H1,I1,r,z,q⟩=>⟨by rw[←r.length];exact z,?_⟩);have hf:H1 s1.heap.objs.size=none:=I1.hok.fresh (aw _);refine⟨.ref s1.heap.objs.size,upd H1 s1.heap.objs.size (.lst xs),I1.laid (t':=s1.toks) (λb u e=>ak _ e) (aw _) ?_,rfl,q _ hf⟩;exact⟨z,us,0,r,bn _ rfl⟩
end
abbrev Sp:=List V->Hp->VK->XK->Prop
abbrev CXT:=List Env->Hp->aj->XK->ah->aj->Prop
structure Env0 (P:bb) (w:bw) (K:aa) (mg:Str->Option ah) (base:cq) (A:cz) (outer:List Env) (s:aj) (H:Hp):Prop where
 frames:A.frames=some outer
 mod:Mod K mg base
 bs:∀b o,base.get? b=some o->s.heap.get? b=some o/\H b=none
 bsz:base.objs.size<=s.heap.objs.size
 funs:s.heap.FunFrames base outer
 frf:∀b∈frs outer,H b=none
 hok:HOk P w H s.heap
 bare:uE s.gens
def CE (outer:List Env) (P:bb) (w:bw) (H:Hp) (s:aj) (Q:VK) (u:ah) (s':aj):Prop:=
 Ex2 λv H'=>s'.os=s.os/\uE s'.gens/\Un (frs outer) [] H H' s.heap s'.heap/\HOk P w H' s'.heap/\RelV v u/\Q v H'
def CR (CX:CXT) (outer:List Env) (P:bb) (w:bw) (H:Hp) (s:aj) (Q:VK) (E:XK) (r:wL) (s':aj):Prop:=
 match r with
 | .ok (.ret u)=>CE outer P w H s Q u s'
 | .ok _=>False
 | .error e=>CX outer H s E e s'
structure FnOk (P:bb) (w:bw) (K:aa) (mg:Str->Option ah) (base:cq) (CX:CXT) (k:Nat) (f:ag) (fd:dw) (ps:List Str) (sp:Sp):Prop where
 len:∀vs H Q E,sp vs H Q E->vs.length=ps.length
 run:∀(A:cz) (outer:List Env) (s:aj) (H:Hp) (args:Args) (us:List ah) (vs:List V) (Q:VK) (E:XK),Room k A->Env0 P w K mg base A outer s H->vE s fd args (ps.zip us)->Vals vs us->sp vs H Q E->
  mn (bi P w) A (.call (.ref f) args) (CR CX outer P w H s Q E) s
theorem FnOk.mono {P:bb} {w:bw} {K:aa} {mg:Str->Option ah} {base:cq} {CX:CXT} {j k:Nat} {f:ag} {fd:dw} {ps:List Str} {sp:Sp} (F:FnOk P w K mg base CX j f fd ps sp) (h:j<=k):
 FnOk P w K mg base CX k f fd ps sp:=⟨F.len,λA outer s H args us vs Q E hr=>F.run A outer s H args us vs Q E (hr.mono h)⟩
theorem Env0.make {P:bb} {w:bw} {K:aa} {mg:Str->Option ah} {base:cq} {A:cz} {outer:List Env} {s:aj} {H:Hp} (e:Env0 P w K mg base A outer s H) (C:ag) (us:List ah) (kw:List (Str×ah)):
 Env0 P w K mg base (A.under (.builtin "type.__call__" ⟨.ref C::us,kw⟩)) outer s H:=⟨by first|exact e.frames|(simpa [wl,Code.envs,wm,pushEnvs] using e.frames),e.mod,e.bs,e.bsz,e.funs,e.frf,e.hok,e.bare⟩
theorem Env0.in1 {P:bb} {w:bw} {K:aa} {mg:Str->Option ah} {base:cq} {A:cz} {outer:List Env} {s:aj} {H:Hp} (e:Env0 P w K mg base A outer s H):
 Env0 P w K mg base A.in1 outer s H:=⟨e.frames,e.mod,e.bs,e.bsz,e.funs,e.frf,e.hok,e.bare⟩
section
variable {X:Cx} {z7:List (ag×Obj)} {σ:St} {H:Hp} {s s':aj}
theorem Inv.env0 (I:Inv X z7 σ H s):Env0 X.prog X.w X.K X.mg X.base X.A X.stack s H:=
 ⟨I.ok.frames,I.ok.mod,I.bs,cw I.ok.bsz I.sz,I.stack,I.stkFree,I.hok,I.bare⟩
theorem Inv.after {Q:VK} {u:ah} (I:Inv X z7 σ H s) (h:CE X.stack X.prog X.w H s Q u s'):EP X z7 σ Q u s':=by
 obtain⟨v,H',os,bare,un,hok,r,q⟩:=h;obtain⟨hh,g,d,t,os'⟩:=s';obtain rfl:os'=s.os:=os;exact⟨v,H',I.call (h':=hh) (g':=g) (d':=d) (t':=t) (ch:=[]) un hok bare (λb z=>absurd z (by simp)),r,q⟩
end
def KJ (sp:Sp) (dvs:List V) (E:XK) (t:TA):TE:=λσ H Q=>t σ H λvs H1=>sp (vs++dvs) H1 Q E
def UF (C:ag) (m:Str) (sp:Sp) (dvs:List V) (E:XK) (ta:TE) (t:TA):TE:=λσ H Q=>ta σ H λx H1=>Ex3 λa dx fs=>x= .ref a/\H1 a=some (.ins C dx fs)/\fs.lookup m=none/\
 t σ H1 λvs H2=>sp (x::(vs++dvs)) H2 Q E
def UG (C:ag) (sp:Sp) (dvs:List V) (E:XK) (t:TA):TE:=λσ H Q=>t σ H λvs H1=>∀x dx,H1 x=none->H1 dx=none->dx≠x->
 sp (.ref x::(vs++dvs)) (upd (upd H1 dx (.own x)) x (.ins C dx [])) (λv H2=>v= .non/\Q (.ref x) H2) E
def Binds (K:aa) (fd:dw) (ps:List Str) (ds:List ah):Prop:=
 ∀(s:aj) (us:List ah),K.In s.heap->(us++ds).length=ps.length->vE s fd ⟨us,[]⟩ (ps.zip (us++ds))
theorem Binds.all {K:aa} {fd:dw} {ps:List Str} (h:∀us:List ah,us.length=ps.length->vh fd ⟨us,[]⟩=pure (ps.zip us)):Binds K fd ps []:=λs us _ hl=>by
 rw[jz] at hl ⊢;exact .of_eq (h us hl)
def DV (CX:CXT) (X:Cx) (E:XK):Prop:=∀(z7:List (ag×Obj)) (σ:St) (H:Hp) (s:aj) (e:ah) (s':aj),Inv X z7 σ H s->CX X.stack H s E e s'->X.xe e s'
section
variable {X:Cx} {CX:CXT} {k:Nat} {f C:ag} {fd:dw} {ps:List Str} {sp:Sp} {dvs:List V} {ds:List ah} {E:XK} {x m:Str} {p pos apos:Pos} {e o:Expr} {es:List Expr} {ta:TE} {t:TA}
theorem R9 {z7:List (ag×Obj)} {σ:St} {H:Hp} {s:aj} {Q:VK} {us:List ah} {vs:List V} (F:FnOk X.prog X.w X.K X.mg X.base CX k f fd ps sp) (hr:Room k X.A) (hb:Binds X.K fd ps ds) (hd:Vals dvs ds) (hx:DV CX X E)
 (I:Inv X z7 σ H s) (r:Vals vs us) (h:sp (vs++dvs) H Q E):bf (bi X.prog X.w) X.A (call (.ref f) us) (EP X z7 σ Q) X.xe s:=by
 have r2:Vals (vs++dvs) (us++ds):=r.append hd;have hl:(us++ds).length=ps.length:=by rw[←r2.length];exact F.len _ _ _ _ h
 refine rQ (mz (F.run X.A X.stack s H ⟨us,[]⟩ (us++ds) (vs++dvs) Q E hr I.env0 (hb s us I.kIn hl) r2 h) λr s' hq=>?_);cases r with
 |error e=>exact hx z7 σ H s e s' I hq
 |ok fl=>
  cases fl with
  |ret u=>exact I.after hq
  |next=>exact ez hq
  |brk=>exact ez hq
  |cont=>exact ez hq
theorem bN (F:FnOk X.prog X.w X.K X.mg X.base CX k f fd ps sp) (hr:Room k X.A) (hg:Gl X x) (hm:X.mg x=some (.ref f)) (hk:du X.K (.ref f)=true) (hb:Binds X.K fd ps ds) (hd:Vals dvs ds) (hx:DV CX X E)
 (ha:PA X (e::es) t) (hdb:(x==("__debug__":Str))=false:=by decide) (he:be (e::es) X.env=(false,eval e X.env)::be es X.env:=by rfl) (hpl:(ig pos (be es X.env)).any (·.1)=false:=by rfl):
 PE X (.Call (.Name x p) (e::es) [] pos) (KJ sp dvs E t):=by
 intro z7 s σ H Q I h;refine gy (EN I hg hm ?_ hdb);refine ng (h₀:=X.base) I.ok.mod.kin hk (thn (ha pos z7 s σ H _ I h) λus s1 ⟨vs,H1,I1,r,q⟩=>⟨I1.kIn,?_⟩) he hpl;exact R9 F hr hb hd hx I1 r q
theorem bO {pl:Sem Bool} (he:PE X o ta) (c:Cls X.K C) (hm:Meth X.K C m f) (F:FnOk X.prog X.w X.K X.mg X.base CX k f fd ps sp) (hr:Room k X.A) (hb:Binds X.K fd ps ds) (hd:Vals dvs ds) (hx:DV CX X E) (ha:PA X (e::es) t)
 (hst:be (e::es) X.env=(false,eval e X.env)::be es X.env:=by rfl) (hpl:(ig pos (be es X.env)).any (·.1)=false:=by rfl)
 (ht:eval (.Call (.Attribute o m apos) (e::es) [] pos) X.env=(do
  let ov←eval o X.env
  mm apos.atName
  let (f,first)←li [ov] (kj ov m pl)
  mr pos f first (ig pos (be (e::es) X.env)) (jr pos (gq [] X.env))):=by rfl):
 PE X (.Call (.Attribute o m apos) (e::es) [] pos) (UF C m sp dvs E ta t):=by
 intro z7 s σ H Q I h;refine om (pl:=pl) (thn (he z7 s σ H _ I h) λu s1 ⟨x,H1,I1,rx,a,dx,fs,ex,ea,l,q⟩=>?_) ht;subst ex;obtain rfl:u=cb a:=rx;refine IG I1 ea c hm l ?_;refine ng (first:=[.ref a]) (h₀:=X.base) I.ok.mod.kin hm.kp (thn (ha pos z7 s1 σ H1 _ I1 q) λus s2 ⟨vs,H2,I2,r,q2⟩=>⟨I2.kIn,?_⟩) hst hpl;exact R9 (us:=.ref a::us) (vs:=.ref a::vs) F hr hb hd hx I2 (.cons rfl r) q2
theorem X3 {pl:Sem Bool} (he:PE X o ta) (c:Cls X.K C) (hm:Meth X.K C m f) (F:FnOk X.prog X.w X.K X.mg X.base CX k f fd ps sp) (hr:Room k X.A) (hb:Binds X.K fd ps ds) (hd:Vals dvs ds) (hx:DV CX X E)
 (ht:eval (.Call (.Attribute o m apos) [] [] pos) X.env=(do
  let ov←eval o X.env
  mm apos.atName
  let (f,first)←li [ov] (kj ov m pl)
  mr pos f first (ig pos (be [] X.env)) (jr pos (gq [] X.env))):=by rfl):
 PE X (.Call (.Attribute o m apos) [] [] pos) (UF C m sp dvs E ta EV):=by
 intro z7 s σ H Q I h;refine om (pl:=pl) (thn (he z7 s σ H _ I h) λu s1 ⟨x,H1,I1,rx,a,dx,fs,ex,ea,l,q⟩=>?_) ht;subst ex;obtain rfl:u=cb a:=rx;refine IG I1 ea c hm l ?_;exact sI (first:=[.ref a]) I1.kIn hm.kp (R9 (us:=[.ref a]) (vs:=[.ref a]) F hr hb hd hx I1 (.cons rfl .nil) q)
structure Mk (K:aa) (C f:ag):Prop where
 makes:uT K C=true
 init:ij K (.ref C) "__init__"=some (some (.ref f))
 fn:pj K (.ref f)=true
 kp:du K (.ref C)=true
theorem QJ {z7:List (ag×Obj)} {σ:St} {H:Hp} {s:aj} {Q:VK} {us:List ah} {vs:List V} (M:Mk X.K C f) (F:FnOk X.prog X.w X.K X.mg X.base CX k f fd ps sp) (hr:Room (k+1) X.A) (hb:Binds X.K fd ps ds) (hd:Vals dvs ds)
 (hx:DV CX X E) (I:Inv X z7 σ H s) (r:Vals vs us)
 (h:∀x dx,H x=none->H dx=none->dx≠x->sp (.ref x::(vs++dvs)) (upd (upd H dx (.own x)) x (.ins C dx [])) (λv H2=>v= .non/\Q (.ref x) H2) E):
 bf (bi X.prog X.w) X.A (call (.ref C) us) (EP X z7 σ Q) X.xe s:=by
 have hq:=h (s.heap.objs.size+1) s.heap.objs.size (I.hok.fresh (sd _)) (I.hok.fresh (aw _)) (cg (uh _));have I2:=Inv.made (C:=C) I;have r2:Vals (V.ref (s.heap.objs.size+1)::(vs++dvs)) (cb (s.heap.objs.size+1)::(us++ds)):=.cons rfl (r.append hd);have hl:(cb (s.heap.objs.size+1)::us++ds).length=ps.length:=by
  have e:=r2.length;rw[F.len _ _ _ _ hq] at e;exact e.symm
 refine rQ (X0 (f:=f) I.kIn M.makes M.init (beq_iff_eq.mp M.fn) (mz (F.run _ X.stack _ _ ⟨cb (s.heap.objs.size+1)::us,[]⟩ (cb (s.heap.objs.size+1)::(us++ds)) _ _ E (hr.make C us [])
  (I2.env0.make C us []) (hb _ (cb (s.heap.objs.size+1)::us) I2.kIn hl) r2 hq) λr s' hq'=>?_))
 cases r with
 |error e=>exact hx z7 σ _ _ e s' I2 hq'
 |ok fl=>
  cases fl with
  |ret u=>
   obtain⟨v,H',I3,rv,ev,q3⟩:=I2.after hq';subst ev;exact⟨rv,⟨V.ref (s.heap.objs.size+1),H',I3,rfl,q3⟩⟩
  |next=>exact ez hq'
  |brk=>exact ez hq'
  |cont=>exact ez hq'
theorem bP (M:Mk X.K C f) (F:FnOk X.prog X.w X.K X.mg X.base CX k f fd ps sp) (hr:Room (k+1) X.A) (hg:Gl X x) (hm:X.mg x=some (.ref C)) (hb:Binds X.K fd ps ds) (hd:Vals dvs ds) (hx:DV CX X E)
 (ha:PA X (e::es) t) (hdb:(x==("__debug__":Str))=false:=by decide) (he:be (e::es) X.env=(false,eval e X.env)::be es X.env:=by rfl) (hpl:(ig pos (be es X.env)).any (·.1)=false:=by rfl):
 PE X (.Call (.Name x p) (e::es) [] pos) (UG C sp dvs E t):=by
 intro z7 s σ H Q I h;refine gy (EN I hg hm ?_ hdb);refine ng (h₀:=X.base) I.ok.mod.kin M.kp (thn (ha pos z7 s σ H _ I h) λus s1 ⟨vs,H1,I1,r,q⟩=>⟨I1.kIn,?_⟩) he hpl;exact QJ M F hr hb hd hx I1 r q
theorem X4 (M:Mk X.K C f) (F:FnOk X.prog X.w X.K X.mg X.base CX k f fd ps sp) (hr:Room (k+1) X.A) (hg:Gl X x) (hm:X.mg x=some (.ref C)) (hb:Binds X.K fd ps ds) (hd:Vals dvs ds) (hx:DV CX X E)
 (hdb:(x==("__debug__":Str))=false:=by decide):PE X (.Call (.Name x p) [] [] pos) (UG C sp dvs E EV):=by
 intro z7 s σ H Q I h;refine gy (EN I hg hm ?_ hdb);exact sI I.kIn M.kp (QJ (us:=[]) M F hr hb hd hx I .nil h)
end
def PK (X:Cx) (kws:List uG) (t:TA):Prop:=
 ∀(pos:Pos) (z7:List (ag×Obj)) (s:aj) (σ:St) (H:Hp) (Q:List V->Hp->Prop),Inv X z7 σ H s->t σ H Q->bf (bi X.prog X.w) X.A (evalAll ((jr pos (gq kws X.env)).map (·.2))) (AP X z7 σ Q) X.xe s
section
variable {X:Cx} {CX:CXT} {k:Nat} {f C:ag} {fd:dw} {ps ks:List Str} {sp:Sp} {E:XK} {x m:Str} {p pos apos kpos:Pos} {e o:Expr} {es:List Expr} {kws:List uG} {te ta:TE} {t tk:TA} {nm:Option Str}
theorem BR (ha:PE X e te) (hr:PK X kws t):PK X (⟨nm,e,kpos⟩::kws) (CC te t):=by
 intro pos z7 s σ H Q I h;show bf _ _ (evalAll ((do let v←eval e X.env;mm pos;pure v)::(jr pos (gq kws X.env)).map (·.2))) _ _ s;refine wpAny_evalAll_cons (ae (thn (ha z7 s σ H _ I h) λu s1 ⟨x,H1,I1,r1,q1⟩=>ae (jp (ao ?_))));exact thn (hr pos z7 s1 σ H1 _ I1 q1) λus s2 ⟨xs,H2,I2,r2,q2⟩=>⟨x::xs,H2,I2,.cons r1 r2,q2⟩
variable {g:List ah->List ah->List ah} {gV:List V->List V->List V}
end
structure FnScope (N P:List Str) (sc:ji):Prop where
 kind:sc.kind= .function:=by rfl
 co:sc.isCoroutine=false:=by rfl
 gen:sc.isGenerator=false:=by rfl
 nd:N.Nodup:=by decide +kernel
 pre:N.take P.length=P:=by rfl
 par:∀x∈P,sc.names.lookup x=some .local\/sc.names.lookup x=some .cell:=by decide +kernel
 nofree:∀y∈sc.names,y.2≠.free:=by decide +kernel
theorem NY {kindOf:Str->Option km} {x:Str}:∀{binds:List (Str×ah)} {m:Str->Option ah},(∀v,(x,v)∉binds)->xF kindOf binds m x=m x
 |[],_,_=>rfl
 |(n,v)::r,m,h=>by
  unfold xF;rw[NY λw hw=>h w (aq _ hw)];split
  ·have:x≠n:=by rintro rfl;exact h v bc
   simp[this]
  ·rfl
theorem NZ {kindOf:Str->Option km} {x:Str}:∀{binds:List (Str×ah)} {m:Str->Option ah},(∀v,(x,v)∉binds)->xG kindOf binds m x=m x
 |[],_,_=>rfl
 |(n,v)::r,m,h=>by
  unfold xG;rw[NZ λw hw=>h w (aq _ hw)];split
  ·rfl
  ·have:x≠n:=by rintro rfl;exact h v bc
   simp[this]
theorem N0 {kindOf:Str->Option km} {x:Str} {v:ah}:∀{P:List Str} {vs:List ah} {i:Nat} {m:Str->Option ah},P.Nodup->P[i]? =some x->vs[i]? =some v->kindOf x=some .local->
 xF kindOf (P.zip vs) m x=some v
 |[],_,_,_,_,h,_,_=>by simp at h
 |_::_,[],_,_,_,_,h,_=>by simp at h
 |p::P,w::vs,0,m,nd,h1,h2,hk=>by
  simp at h1 h2;subst h1;subst h2;show xF kindOf ((p,w)::P.zip vs) m p=_;unfold xF;rw[NY λv hv=>(qm.mp nd).1 (qo hv).1,Ae hk];simp
 |p::P,w::vs,i+1,m,nd,h1,h2,hk=>by
  show xF kindOf ((p,w)::P.zip vs) m x=_;unfold xF;exact N0 (i:=i) (qm.mp nd).2 (by simpa using h1) (by simpa using h2) hk
theorem N1 {kindOf:Str->Option km} {x:Str} {v:ah}:∀{P:List Str} {vs:List ah} {i:Nat} {m:Str->Option ah},P.Nodup->P[i]? =some x->vs[i]? =some v->kindOf x≠some .local->
 xG kindOf (P.zip vs) m x=some v
 |[],_,_,_,_,h,_,_=>by simp at h
 |_::_,[],_,_,_,_,h,_=>by simp at h
 |p::P,w::vs,0,m,nd,h1,h2,hk=>by
  simp at h1 h2;subst h1;subst h2;show xG kindOf ((p,w)::P.zip vs) m p=_;unfold xG;rw[NZ λv hv=>(qm.mp nd).1 (qo hv).1,Af hk];simp
 |p::P,w::vs,i+1,m,nd,h1,h2,hk=>by
  show xG kindOf ((p,w)::P.zip vs) m x=_;unfold xG;exact N1 (i:=i) (qm.mp nd).2 (by simpa using h1) (by simpa using h2) hk
def FB (N:List Str) (vs:List V):St:=vs.map some++xI (N.length - vs.length) none
def NL (CX:CXT) (P:bb) (w:bw) (K:aa) (mg:Str->Option ah) (base:cq) (N:List Str) (qual:Str) (scope:ji) (f:ag) (cd:ah) (A:cz) (outer:List Env) (s:aj) (H:Hp) (E:XK):Cx where
 prog:=P
 w:=w
 K:=K
 mg:=mg
 base:=base
 A:=A.deeper (tj qual scope s.heap.objs.size f cd)
 N:=N
 s_0:=s
 H_0:=H
 env:=tj qual scope s.heap.objs.size f cd
 outer:=outer
 stack:=tj qual scope s.heap.objs.size f cd::outer
 ex:=[]
 calm:=true
 fn:=λ_=>true
 pn:=[]
 xe:=λe s'=>bf (bi P w) (A.deeper (tj qual scope s.heap.objs.size f cd)) (leaving (tj qual scope s.heap.objs.size f cd) e) (λ_ s''=>CX outer H s E e s'') (λe' s''=>CX outer H s E e' s'') s'
theorem QK {sc:ji} {n:Nat} {x:Str} (h:sc.names.lookup x=some .cell):∃c,(il n sc.names []).lookup x=some c:=by
 have q:=rm sc.names n [] (.inl h);exact qf.mp q
theorem N2 {CX:CXT} {P:bb} {w:bw} {K:aa} {mg:Str->Option ah} {base:cq} {N ps:List Str} {qual:Str} {scope:ji} {f:ag} {cd:ah} {A:cz} {outer:List Env} {s s1:aj} {H:Hp} {E:XK} {us:List ah} {vs:List V}
 (S:FnScope N ps scope) (hd:A.handled=none) (e0:Env0 P w K mg base A outer s H) (hl:vs.length=ps.length) (r:Vals vs us)
 (x:InCallC s s.heap.objs.size (xF (tj qual scope s.heap.objs.size f cd).kindOf (ps.zip us) λ_=>none) (il (s.heap.objs.size+1) scope.names []) (xG (tj qual scope s.heap.objs.size f cd).kindOf (ps.zip us) λ_=>none) s1):
 Inv (NL CX P w K mg base N qual scope f cd A outer s H E) [] (FB N vs) H s1:=by
 have hpl:ps.length<=N.length:=by have:=congrArg ou S.pre;rw[dy] at this;omega
 obtain⟨h1,tk,rfl,hk⟩:=x.done;have noA:∀b:ag,b∉(NL CX P w K mg base N qual scope f cd A outer s H E).ex:=λb z=>absurd (show b∈([]:List ag) from z) (by simp);refine⟨⟨e0.mod,S.kind,rfl,rfl,aw _,λy z c h1 h2=>?_,λy hy=>?_,λy c _ h=>?_,λ_=>hd,sg e0.frames,.inr ⟨rfl,rfl⟩,λb z=>absurd z (noA b),e0.bs,e0.bsz,λb _ _=>noA b,λb z=>absurd z (noA b),e0.funs,e0.frf⟩,
  rfl,e0.bare,Un.kept hk,⟨_,x.toInCall.ns,λi y v h1 h2 h3=>?_⟩,λy c h=>⟨_,x.cell y c h⟩,e0.hok.fresh (aw _),λy c h=>?_,λp hp=>absurd (show p∈([]:List (ag×Obj)) from hp) (by simp),e0.hok.kept hk,?_⟩
 ·exact name_of_addr x.apart (cp h1) (cp h2)
 ·have hy:scope.names.lookup y=some .cell\/scope.names.lookup y=some .free:=hy;rcases hy with hy|hy
  ·exact QK hy
  ·exact absurd rfl (S.nofree _ (cp hy))
 ·exact rg (x.above y c (cp h))
 ·have hi:i<vs.length:=by
   unfold FB at h2;by_cases hi:i<vs.length
   ·exact hi
   ·rw[tm (by simpa using hi)] at h2;rw[List.getElem?_replicate] at h2;split at h2<;>cases h2
  have ha:vs[i]? =some v:=by
   unfold FB at h2;rw[tM (by simpa using hi),az] at h2;cases e:vs[i]? with
   |none=>rw[e] at h2;cases h2
   |some a=>rw[e] at h2;cases h2;rfl
  obtain⟨u,hu,rv⟩:=r.get ha;have hp:ps[i]? =some y:=by
   rw[←S.pre,List.getElem?_take_of_lt (by omega)];exact h1
  have ndP:ps.Nodup:=by rw[←S.pre];exact S.nd.sublist (List.take_sublist _ _)
  refine⟨u,rv,?_⟩;rcases S.par y (bo hp) with k|k
  ·exact .inl ⟨k,N0 ndP hp hu k⟩
  ·obtain⟨c,e⟩:=QK (n:=s.heap.objs.size+1) k;refine .inr ⟨.inl k,c,e,?_⟩;have q:=x.cell y c e;rw[N1 ndP hp hu (by show scope.names.lookup y≠_;rw[k];decide)] at q;exact q
 ·exact e0.hok.fresh (rg (x.above y c (cp h)))
 ·unfold FB;show _=N.length;rw[br,ai,List.length_replicate];omega
theorem dW {CX:CXT} {P:bb} {w:bw} {K:aa} {mg:Str->Option ah} {base:cq} {k:Nat} {f:ag} {name qual:Str} {params:sR} {body:List dh} {scope:ji} {dV kV doc pm Ac ct oc:ah} {an od:Option ag}
 {osl:Array (Option ah)} {N ps:List Str} {sp:Sp} (lk:K.lookup f=some ⟨oc,od,.func (ie name qual params body scope dV kV doc pm an Ac ct),osl⟩) (hcd:iz K Ac qual=true) (S:FnScope N ps scope)
 (len:∀vs H Q E,sp vs H Q E->vs.length=ps.length)
 (hbody:∀(A:cz) (outer:List Env) (s:aj) (H:Hp) (vs:List V) (Q:VK) (E:XK),Room k (A.deeper (tj qual scope s.heap.objs.size f Ac))->sp vs H Q E->
  ∃t,PSs (NL CX P w K mg base N qual scope f Ac A outer s H E) body t/\t { nx:=λ_ H'=>Q .non H',rt:=Q } (FB N vs) H):
 FnOk P w K mg base CX (k+1) f (ie name qual params body scope dV kV doc pm an Ac ct) ps sp:=by
 refine⟨len,λA outer s H args us vs Q E hr e0 hb r hsp=>?_⟩;have hl:=len _ _ _ _ hsp;have KX:K.In s.heap:=e0.mod.kin.keeps λb o e=>(e0.bs b o e).1;have lim:s.heap.NoLimit:=e0.mod.nolimit.keeps λb o e=>(e0.bs b o e).1;have hkind:∀y∈ps.zip us,scope.names.lookup y.1=some .local\/(scope.names.lookup y.1=some .cell/\((il (s.heap.objs.size+1) scope.names []).lookup y.1).isSome=true):=λ⟨n,v⟩ hy=>by
  rcases S.par n (qo hy).1 with q|q
  ·exact .inl q
  ·exact .inr ⟨q,rm _ _ _ (.inl q)⟩
 refine u4 hr.depth (KX _ _ lk) rfl S.co S.gen rfl (v0 KX hcd) (hb _ _ _ _ ?_);refine tq S.kind hkind λenv he s1 x=>?_;subst he;refine⟨lim.keeps x.toInCall.keep,codeAny_func ?_⟩;obtain⟨t,ht,hq⟩:=hbody A outer s H vs Q E (hr.deeper _) hsp;have I:Inv (NL CX P w K mg base N qual scope f Ac A outer s H E) [] (FB N vs) H s1:=N2 S hr.hd e0 hl r x;refine gr (ht [] s1 (FB N vs) H _ I hq) (λfl s' hs=>?_) λe s' hs=>hs;have fin:∀{σ':St} {H':Hp} {v:V} {u:ah},Inv (NL CX P w K mg base N qual scope f Ac A outer s H E) [] σ' H' s'->RelV v u->Q v H'->CE outer P w H s Q u s':=
  λ{σ' H' v u} J rv q=>⟨v,H',J.os,J.bare,J.base,J.hok,rv,q⟩
 cases fl with
 |ret u=>
  obtain⟨v,σ',H',J,rv,q⟩:=hs;exact fin J rv q
 |next=>
  obtain⟨σ',H',J,q⟩:=hs;exact fin (v:=V.non) (u:=io) J rfl q
 |brk=>
  obtain⟨_,_,_,q⟩:=hs;exact ez q
 |cont=>
  obtain⟨_,_,_,q⟩:=hs;exact ez q
section
variable {X:Cx} {x:Str} {p pos:Pos} {e:Expr} {es:List Expr} {t:TA} {id T:String} {r:List V->Hp->VK->Prop}
def tCB (r:List V->Hp->VK->Prop) (t:TA):TE:=λσ H Q=>t σ H λvs H1=>r vs H1 Q
theorem AW (hc:HV X (.builtin id) r) (hg:Gl X x) (hm:X.mg x=none) (hv:jo x=some (.builtin id)) (ha:PA X (e::es) t) (hn:x≠"__name__":=by decide) (hdb:(x==("__debug__":Str))=false:=by decide)
 (he:be (e::es) X.env=(false,eval e X.env)::be es X.env:=by rfl) (hpl:(ig pos (be es X.env)).any (·.1)=false:=by rfl):PE X (.Call (.Name x p) (e::es) [] pos) (tCB r t):=by
 intro z7 s σ H Q I h;refine gy (ET I hg hm hv ?_ hn hdb);exact wM (thn (ha pos z7 s σ H _ I h) λus s1 ⟨vs,H1,I1,r1,q1⟩=>hc z7 s1 σ H1 vs us Q I1 r1 q1) he hpl
theorem JS (hc:HV X (.type T) r) (hg:Gl X x) (hm:X.mg x=none) (hv:jo x=some (.type T)) (ha:PA X (e::es) t) (hn:x≠"__name__":=by decide) (hdb:(x==("__debug__":Str))=false:=by decide)
 (he:be (e::es) X.env=(false,eval e X.env)::be es X.env:=by rfl) (hpl:(ig pos (be es X.env)).any (·.1)=false:=by rfl):PE X (.Call (.Name x p) (e::es) [] pos) (tCB r t):=by
 intro z7 s σ H Q I h;refine gy (ET I hg hm hv ?_ hn hdb);exact dk (thn (ha pos z7 s σ H _ I h) λus s1 ⟨vs,H1,I1,r1,q1⟩=>hc z7 s1 σ H1 vs us Q I1 r1 q1) he hpl
end
end L2
namespace HT
open PySem PyProof.Rows
def lexLt:List Int->List Int->Bool
 |[],[]=>false
 |[],_::_=>true
 |_::_,[]=>false
 |x::xs,y::ys=>if x=y then lexLt xs ys else decide (x<y)
theorem lexLt_cons (x y:Int) (xs ys:List Int):lexLt (x::xs) (y::ys)=if x=y then lexLt xs ys else decide (x<y):=rfl
theorem lexLt_nil_nil:lexLt [] []=false:=rfl
section
open PySem.SeqAt
open PySem.AutoSeq1 (wpAny_loadPart')
open PySem.MeetsSeq PySem.MeetsSeq2 PySem.MeetsSeq3
end
section
variable {prog:bb} {w:bw} {A:cz} {E:ah->aj->Prop} {s:aj}
def sIx (n d:Nat):Option Int->Nat
 |none=>d
 |some v=>if v<0 then(v+(n:Int)).toNat else min v.toNat n
theorem fZ (n d:Nat) (hd:d<=n) (o:Option Int):sIx n d o<=n:=by
 cases o with
 |none=>exact hd
 |some v=>
  show(if v<0 then(v+(n:Int)).toNat else min v.toNat n)<=n;by_cases hv:v<0
  ·rw[Ae hv];omega
  ·rw[Af hv];exact Nat.min_le_right _ _
theorem UH (v:Int) (n d:Nat):(if v<0 then max (v+(n:Int)) 0 else min v (n:Int))=((sIx n d (some v):Nat):Int):=by
 show(if v<0 then max (v+(n:Int)) 0 else min v (n:Int))=(((if v<0 then(v+(n:Int)).toNat else min v.toNat n):Nat):Int);by_cases hv:v<0
 ·simp only[Ae hv];omega
 ·simp only[Af hv];omega
theorem SA (lo hi:Option Int) (n:Nat):pq lo hi 1 (n:Int)=(((sIx n 0 lo:Nat):Int),((sIx n n hi:Nat):Int)):=by
 have h1:¬((1:Int)<0):=by omega
 unfold pq;simp only[h1,if_false];refine Prod.ext ?_ ?_
 ·cases lo with
  |none=>rfl
  |some v=>exact UH v n 0
 ·cases hi with
  |none=>rfl
  |some v=>exact UH v n n
theorem SB (i j:Nat):ky (i:Int) (j:Int) 1=j - i:=by
 unfold ky;have h1:(1:Int)>0:=by omega
 simp only[h1,if_true,Int.ediv_one];split<;>omega
theorem L7 {v:ah} {o:Option Int} {Q:Option Int->aj->Prop} (p:v3 v o) (h:Q o s):bf (bi prog w) A (xl v) Q E s:=by
 cases p with
 |none=>exact xJ h
 |int i t=>exact slicePart_int h
theorem JT {sl:ag} {vl vu:ah} {lo hi:Option Int} {n:Nat} {Q:Int×Int×Nat->aj->Prop} (hs:s.heap.IsSliceOf sl vl vu .none) (pl:v3 vl lo) (pu:v3 vu hi)
 (h:Q (((sIx n 0 lo:Nat):Int),1,sIx n n hi - sIx n 0 lo) s):bf (bi prog w) A (tu (.ref sl) (pure (n:Int))) Q E s:=by
 obtain⟨os,hos,hcs,hds⟩:=id hs;unfold tu yo;refine ae (ae (ip hos hds (x:=vl) rfl (ae (ip hos hds (x:=vu) rfl (ae (ip hos hds (x:=.none) rfl (ao ?_)))))));refine ae (xJ ?_);show bf _ _ (if((1:Int)==0)=true then _ else _) _ _ s;rw[Af (by decide)];refine ae (L7 pl (ae (L7 pu (ae (ao ?_)))));show bf _ _ (match pq lo hi 1 (n:Int) with|(lo,hi)=>pure (lo,(1:Int),ky lo hi 1)) _ _ s;rw[SA lo hi n];show bf _ _ (pure (((sIx n 0 lo:Nat):Int),(1:Int),ky ((sIx n 0 lo:Nat):Int) ((sIx n n hi:Nat):Int) 1)) _ _ s;rw[SB];exact ao h
theorem X7 (xs:Array ah) (i k:Nat):((jm k).filterMap λ(m:Nat)=>xs[((i:Int)+(m:Int)*1).toNat]?).toArray=((xs.toList.drop i).take k).toArray:=by
 have e:(λ(m:Nat)=>xs[((i:Int)+(m:Int)*1).toNat]?)=λm=>xs[i+m]?:=by
  funext m;have:((i:Int)+(m:Int)*1).toNat=i+m:=by omega
  rw[this]
 rw[e];have:=pick_run xs i k;rw[List.filterMap_map] at this;have e2:((λx=>xs[x]?)∘λx=>i+x)=λm=>xs[i+m]?:=rfl;rw[e2] at this;rw[this]
theorem getItem_tuple_cut {t sl:ag} {items:Array ah} {vl vu:ah} {lo hi:Option Int} {Q:ah->aj->Prop} (ht:IsTup s.heap t items) (hs:s.heap.IsSliceOf sl vl vu .none) (pl:v3 vl lo) (pu:v3 vu hi)
 (hw:¬(sIx items.size 0 lo=0/\sIx items.size items.size hi=items.size))
 (h:Q (.ref s.heap.objs.size) { s with heap:=s.heap.push { cls:=.type "tuple",data:=.seq ((items.toList.drop (sIx items.size 0 lo)).take (sIx items.size items.size hi - sIx items.size 0 lo)).toArray } })
 (hsz:items.size<=sizeLine):bf (bi prog w) A (uH (.ref t) (.ref sl)) Q E s:=by
 have htake:sizeOk (.seq ((items.toList.drop (sIx items.size 0 lo)).take (sIx items.size items.size hi - sIx items.size 0 lo)).toArray):=by
  show((items.toList.drop (sIx items.size 0 lo)).take (sIx items.size items.size hi - sIx items.size 0 lo)).toArray.size<=sizeLine;rw[bv,dy,im,dc];omega
 have hj:sIx items.size items.size hi<=items.size:=fZ _ _ (aw _) hi;obtain⟨os,hos,hcs,hds⟩:=id hs;have hTs:s.TypeIs (.ref sl) "slice":=⟨os,hos,hcs⟩
 unfold uH;try with_reducible refine ik ?_
 first|refine ae (ao ?_)|skip
 refine ae (wpAny_sequenceKey ht.typeIs (by decide) ?_);refine ae (ju (name:=ll "__getitem__") ht.typeIs ml
  (ms ml ht.typeIs entry_tuple_getitem ?_ (args_tuple_getitem _ _)))
 show bf _ _ (xK (.ref t) >>= _) _ _ s;refine ae (tupleItemsOf_ ht ?_);refine ae (wpAny_typeOf hTs ?_);rw[Ae (by decide)];refine ae (JT hs pl pu ?_);have hno:¬((((sIx items.size 0 lo:Nat):Int)==0&&(1:Int)==1&&(sIx items.size items.size hi - sIx items.size 0 lo)==items.size)=true):=by
  intro q;rw[jn,jn] at q;have q1:((sIx items.size 0 lo:Nat):Int)=0:=eq_of_beq q.1.1;have q2:sIx items.size items.size hi - sIx items.size 0 lo=items.size:=eq_of_beq q.2;exact hw ⟨by omega,by omega⟩
 show bf _ _ (if(((sIx items.size 0 lo:Nat):Int)==0&&(1:Int)==1&&(sIx items.size items.size hi - sIx items.size 0 lo)==items.size)=true then _ else _) _ _ s;rw[Af hno,X7];first
  |exact ae (m:=me _) (gc (ao ⟨_,rfl,ao h⟩) htake)
  |exact ae (m:=me _) (gc (ae (ao (ao ⟨_,rfl,ao h⟩))) htake)
  |exact ae (ae (m:=me _) (gc (ao (ao ⟨_,rfl,ao h⟩)) htake))
  |exact ae (ae (m:=me _) (gc (ao ⟨_,rfl,ao h⟩) htake))
end
end HT
namespace L2
open PySem PySem.Spec PyProof.Rows
abbrev TO:=St->Hp->(Option Int->Hp->Prop)->Prop
def PO (X:Cx) (e:Option Expr) (t:TO):Prop:=
 ∀(z7:List (ag×Obj)) (s:aj) (σ:St) (H:Hp) (Q:Option Int->Hp->Prop),Inv X z7 σ H s->t σ H Q->
  bf (bi X.prog X.w) X.A (evalPart e X.env) (λu s'=>Ex2 λo H'=>Inv X z7 σ H' s'/\v3 u o/\Q o H') X.xe s
def bQ:TO:=λ_ H Q=>Q none H
def kY (t:TE):TO:=λσ H Q=>t σ H λx H1=>I1At x λi=>Q (some i) H1
section
variable {X:Cx} {e:Expr} {te:TE} {lo hi:Option Expr} {tl th:TO} {pos p2:Pos}
theorem bR:PO X none bQ:=by
 intro z7 s σ H Q I h;rw[evalPart_none];exact ao ⟨none,H,I,.none,h⟩
theorem bS (h:PE X e te):PO X (some e) (kY te):=by
 intro z7 s σ H Q I hw;rw[evalPart_some];refine thn (h z7 s σ H _ I hw) λu s1 ⟨x,H1,I1,r1,q1⟩=>?_;obtain⟨i,rfl,q⟩:=q1;obtain⟨t,rfl⟩:=r1;exact⟨some i,H1,I1,.int i t,q⟩
def SlR (X:Cx) (r:V->Option Int->Option Int->Hp->VK->Prop):Prop:=
 ∀(z7:List (ag×Obj)) (s:aj) (σ:St) (H:Hp) (x:V) (v vl vu:ah) (lo hi:Option Int) (sl:ag) (Q:VK),Inv X z7 σ H s->RelV x v->s.heap.IsSliceOf sl vl vu .none->v3 vl lo->v3 vu hi->r x lo hi H Q->
  Ex2 λT id=>uI (.type T) "__getitem__"=pure (some (.builtin id))/\s.TypeIs v T/\bf (bi X.prog X.w) X.A (uH v (.ref sl)) (EP X z7 σ Q) X.xe s
def tSl (r:V->Option Int->Option Int->Hp->VK->Prop) (te:TE) (tl th:TO):TE:=λσ H Q=>te σ H λx H1=>tl σ H1 λl H2=>th σ H2 λu H3=>r x l u H3 Q
theorem X9 {r:V->Option Int->Option Int->Hp->VK->Prop} (hr:SlR X r) (he:PE X e te) (hl:PO X lo tl) (hu:PO X hi th):PE X (.Subscript e (.Slice lo hi none p2) pos) (tSl r te tl th):=by
 intro z7 s σ H Q I h;refine xL (thn (he z7 s σ H _ I h) λv s1 ⟨x,H1,I1,r1,q1⟩=>?_);refine wpAny_Slice (thn (hl z7 s1 σ H1 _ I1 q1) λvl s2 ⟨l,H2,I2,pl,q2⟩=>thn (hu z7 s2 σ H2 _ I2 q2) λvu s3 ⟨u,H3,I3,pu,q3⟩=>?_);rw[evalPart_none];refine ao ?_;have I4:Inv X z7 σ H3 { s3 with heap:=s3.heap.push { cls:=.type "slice",data:=.fields #[vl,vu,.none] } }:=I3.kept (t':=s3.toks) λb ob q=>ak _ q;obtain⟨T,id,hT,ht,hg⟩:=hr z7 { s3 with heap:=s3.heap.push { cls:=.type "slice",data:=.fields #[vl,vu,.none] } } σ H3 x v vl vu l u s3.heap.objs.size Q I4 r1 (zJ ..) pl pu q3;show bf (bi X.prog X.w) X.A (vQ e (.Slice lo hi none p2) v (.ref s3.heap.objs.size)) (EP X z7 σ Q) X.xe { s3 with heap:=s3.heap.push { cls:=.type "slice",data:=.fields #[vl,vu,.none] } };exact tail_any (ops:=[.ref s3.heap.objs.size,v]) ht hT hg (by with_unfolding_all rfl)
def QL (xs:List V) (lo hi:Option Int):List V:=(xs.drop (HT.sIx xs.length 0 lo)).take (HT.sIx xs.length xs.length hi - HT.sIx xs.length 0 lo)
theorem KL (xs:List V) (lo hi:Option Int):(QL xs lo hi).length<=xs.length:=by
 unfold QL;rw[dy,im];omega
def qP (K:aa):V->Option Int->Option Int->Hp->VK->Prop:=λx lo hi H Q=>Ex2 λa xs=>x= .ref a/\SqT K H a xs/\
 ¬(HT.sIx xs.length 0 lo=0/\HT.sIx xs.length xs.length hi=xs.length)/\∀p,H p=none->Q (.ref p) (upd H p (.tup (QL xs lo hi)))
theorem f6:SlR X (qP X.K):=by
 intro z7 s σ H x v vl vu lo hi sl Q I rx hs pl pu h;obtain⟨a,xs,rfl,hx,hw,q⟩:=h;cases rx;obtain⟨Aa,r,ht,hz⟩:=I.tuple hx;have hlen:Aa.toArray.size=xs.length:=by rw[bv];exact r.length.symm
 refine⟨"tuple",_,ml.lookup,ht.typeIs,?_⟩;refine HT.getItem_tuple_cut ht hs pl pu (by rw[hlen];exact hw) ?_ (by rw[hlen];exact hz);rw[hlen];refine⟨.ref s.heap.objs.size,_,I.laid (t':=s.toks) (o:=.tup (QL xs lo hi)) (λb ob q=>ak _ q) (aw _) ?_,rfl,q _ (I.hok.fresh (aw _))⟩;exact⟨cw (KL xs lo hi) hz,_,(r.drop (HT.sIx xs.length 0 lo)).take (HT.sIx xs.length xs.length hi - HT.sIx xs.length 0 lo),zV _ _⟩
end
def ixN (n:Nat) (i:Int):Option Nat:=if 0<=i then(if i<n then some i.toNat else none) else if -(n:Int)<=i then some (i+n).toNat else none
def atI {α:Type} (xs:List α) (i:Int):Option α:=(ixN xs.length i).bind λj=>xs[j]?
theorem UI {n:Nat} {i:Int} {j:Nat} (h:ixN n i=some j):seqIndex? i n=some j/\j<n/\ -(n:Int)<=i/\i<n:=by
 unfold ixN at h;by_cases h0:0<=i
 ·rw[Ae h0] at h;by_cases h1:i<n
  ·rw[Ae h1] at h;have e:i.toNat=j:=cu h;exact⟨by rw[xb h0 h1,e],by omega,by omega,h1⟩
  ·rw[Af h1] at h;cases h
 ·rw[Af h0] at h;by_cases h1: -(n:Int)<=i
  ·rw[Ae h1] at h;have e:(i+n).toNat=j:=cu h;exact⟨by rw[seqIndex_neg (by omega) h1,e],by omega,h1,by omega⟩
  ·rw[Af h1] at h;cases h
theorem O0 {α:Type} {xs:List α} {i:Int} {v:α} (h:atI xs i=some v):∃j,seqIndex? i xs.length=some j/\xs[j]? =some v/\j<xs.length/\ -(xs.length:Int)<=i/\i<xs.length:=by
 unfold atI at h;cases e:ixN xs.length i with
 |none=>rw[e] at h;cases h
 |some j=>
  rw[e] at h;obtain⟨h1,h2,h3,h4⟩:=UI e;exact⟨j,h1,h,h2,h3,h4⟩
theorem EO {α:Type} {xs:List α} {j:Nat} {v:α} (h:xs[j]? =some v):atI xs (j:Int)=some v:=by
 have hj:j<xs.length:=(au.mp h).1;have e:ixN xs.length (j:Int)=some j:=by
  unfold ixN;rw[Ae (by omega),Ae (by omega)];simp
 unfold atI;rw[e];exact h
theorem L8 {α:Type} (xs:List α) (v:α):atI (xs++[v]) (-1)=some v:=by
 have hl:(xs++[v]).length=xs.length+1:=by simp
 have e:ixN (xs++[v]).length (-1)=some xs.length:=by
  unfold ixN;rw[hl,Af (by decide),Ae (by omega)];congr 1;omega
 unfold atI;rw[e];show(xs++[v])[xs.length]? =some v;simp
def bT (b:Expr):Prop:=∀o i,vi b false o i=operate [o,i] (uH o i)
def IxR (X:Cx) (r:R2):Prop:=
 ∀(value slice:Expr) (z7:List (ag×Obj)) (s:aj) (σ:St) (H:Hp) (x y:V) (v u:ah) (Q:VK),Inv X z7 σ H s->RelV x v->RelV y u->r x y H Q->
  vi slice false v u=operate [v,u] (uH v u)->bf (bi X.prog X.w) X.A (vQ value slice v u) (EP X z7 σ Q) X.xe s
def MtR (X:Cx) (id:String) (r:V->List V->Hp->VK->Prop):Prop:=
 ∀(z7:List (ag×Obj)) (s:aj) (σ:St) (H:Hp) (x:V) (xs:List V) (v:ah) (us:List ah) (Q:VK),Inv X z7 σ H s->RelV x v->Vals xs us->r x xs H Q->
  bf (bi X.prog X.w) X.A (call (.builtin id) (v::us)) (EP X z7 σ Q) X.xe s
section
variable {X:Cx} {a b:Expr} {ta tb:TE} {pos:Pos}
theorem BO {r:R2} (hr:IxR X r) (ha:PE X a ta) (hb:PE X b tb) (hs:bT b):PE X (.Subscript a b pos) (tOp r ta tb):=by
 intro z7 s σ H Q I h;exact xL (fT ha hb I h λv u s2 x y H2 I2 rx ry q=>hr a b z7 s2 σ H2 x y v u Q I2 rx ry q (hs _ _))
inductive IxAt (S:ag->List V->Prop) (x y:V) (Q:V->Prop):Prop
 |intro(p:ag) (xs:List V) (i:Int) (v:V) (e:x= .ref p) (e':y= .int i) (h1:S p xs) (h2:atI xs i=some v) (h:Q v):IxAt S x y Q
def qQ (K:aa):R2:=λx y H Q=>IxAt (SqL K H) x y λv=>Q v H
def kZ (K:aa):R2:=λx y H Q=>IxAt (SqT K H) x y λv=>Q v H
def qR:R2:=λx y H Q=>Ex3 λz i c=>x= .str z/\y= .int i/\z.length<=sizeLine/\atI z.cps.toList i=some c/\Q (.str ⟨#[c]⟩) H
theorem DN:IxR X (qQ X.K):=by
 intro value slice z7 s σ H x y v u Q I rx ry h hs;obtain⟨p,xs,i,z,rfl,rfl,hq,he,q⟩:=h;cases rx;obtain⟨t,rfl⟩:=ry;obtain⟨Aa,r,pl,hz⟩:=I.list hq;obtain⟨j,h1,h2,h3,h4,h5⟩:=O0 he;obtain⟨w,ew,rw'⟩:=r.get h2;have hl:=r.length;have hn:=JQ;have fin:EP X z7 σ Q w s:=⟨z,H,I,rw',q⟩
 by_cases h0:0<=i
 ·have hj:i.toNat=j:=by
   rw[xb h0 h5] at h1;exact cu h1
  exact item_listR pl.isList h0 (by omega) (by rw[hj];simpa using ew) fin hs
 ·have hj:(i+(Aa.toArray.size:Int)).toNat=j:=by
   rw[seqIndex_neg (by omega) h4] at h1;rw[bv, ←hl];exact cu h1
  exact uJ (x:=w) pl.isList.typeIs slot_list_getitem.lookup
   (wpAny_getItem_list_neg (Q:=λr s'=>r=w/\EP X z7 σ Q r s') pl.isList (by omega) (by rw[bv]<;>omega) (by omega) (by rw[hj];simpa using ew) ⟨rfl,fin⟩) hs
theorem DO:IxR X (kZ X.K):=by
 intro value slice z7 s σ H x y v u Q I rx ry h hs;obtain⟨p,xs,i,z,rfl,rfl,hq,he,q⟩:=h;cases rx;obtain⟨t,rfl⟩:=ry;obtain⟨Aa,r,pl,hz⟩:=I.tuple hq;obtain⟨j,h1,h2,h3,h4,h5⟩:=O0 he;obtain⟨w,ew,rw'⟩:=r.get h2;have hl:=r.length;have hn:=JQ;have fin:EP X z7 σ Q w s:=⟨z,H,I,rw',q⟩
 exact uJ (x:=w) pl.typeIs slot_tuple_getitem.lookup
  (getItem_tuple (j:=j) (Q:=λr s'=>r=w/\EP X z7 σ Q r s') pl (by omega) (by omega) (by rw[bv, ←hl];exact h1) (by simpa using ew) ⟨rfl,fin⟩) hs
theorem f8:IxR X qR:=by
 intro value slice z7 s σ H x y v u Q I rx ry h hs;obtain⟨z,i,c,rfl,rfl,hz,he,q⟩:=h;obtain⟨t,rfl⟩:=rx;obtain⟨t',rfl⟩:=ry;obtain⟨j,h1,h2,h3,h4,h5⟩:=O0 he;have hl:z.cps.toList.length=z.length:=by simp[Str.length]
 rw[hl] at h1 h4 h5;have hn:=JQ;exact tail_any (typeIs_str s z t) slot_str_getitem.lookup (getItem_str (c:=c) (by
  have e1:decide (i< -(2 ^ 63:Int))=false:=decide_eq_false (by omega);have e2:decide (i>=2 ^ 63)=false:=decide_eq_false (by omega);rw[e1,e2,yF]) (by rw[h1];simpa using h2) ⟨.str ⟨#[c]⟩,H,I.tok _,⟨_,rfl⟩,q⟩) hs
theorem SC (Aa:List ah) (n j:Nat) (u:ah):fb (·.setIfInBounds j u) { cls:=.type "list",data:=.seq Aa.toArray n }={ cls:=.type "list",data:=.seq (Aa.set j u).toArray n }:=by
 simp[fb]
theorem Inv.lst {z7:List (ag×Obj)} {σ:St} {H:Hp} {s:aj} {p:ag} {xs:List V} (I:Inv X z7 σ H s) (h:H p=some (.lst xs)):
 ∃(Aa:List ah) (n:Nat),Vals xs Aa/\s.heap.get? p=some { cls:=.type "list",data:=.seq Aa.toArray n }/\xs.length<=sizeLine:=by
 obtain⟨z,Aa,n,r,e⟩:=I.hok p _ h;exact⟨Aa,n,r,e,z⟩
theorem Inv.lstUpd {z7:List (ag×Obj)} {σ:St} {H:Hp} {s:aj} {p:ag} {xs ys:List V} {Aa its':List ah} {n n':Nat} {f:Obj->Obj} (I:Inv X z7 σ H s) (h:H p=some (.lst xs))
 (ho:s.heap.get? p=some { cls:=.type "list",data:=.seq Aa.toArray n }) (hf:f { cls:=.type "list",data:=.seq Aa.toArray n }={ cls:=.type "list",data:=.seq its'.toArray n' }) (r:Vals ys its') (hz:ys.length<=sizeLine) (t:Nat):
 Inv X z7 σ (upd H p (.lst ys)) { s with heap:=s.heap.update p f,toks:=t }:=by
 have e:(s.heap.update p f).get? p=some { cls:=.type "list",data:=.seq its'.toArray n' }:=by
  rw[iw f ho (by rw[hf]<;>rfl),hf]
 refine I.write (x:=p) (e:=p) (by rw[h];trivial) (.inl rfl) (λb u hb q=>(ke _ _ (cr hb)).trans q) ⟨_,e⟩ ?_;exact⟨hz,its',n',r,e⟩
def k6:V->V->V->Hp->(Hp->Prop)->Prop:=λo i v H Q=>Ex4 λp xs k j=>o= .ref p/\i= .int k/\H p=some (.lst xs)/\ixN xs.length k=some j/\Q (upd H p (.lst (xs.set j v)))
theorem YA:kM X k6:=by
 intro z7 s σ H o i v ov iv u Q I ro ri rv h;obtain⟨p,xs,k,j,rfl,rfl,hp,hj,q⟩:=h;cases ro;obtain⟨t,rfl⟩:=ri;obtain⟨Aa,n,r,ho,hz⟩:=I.lst hp;obtain⟨h1,h2,h3,h4⟩:=UI hj;have hl:=r.length;have hn:=JQ;have I':Inv X z7 σ (upd H p (.lst (xs.set j v))) { s with heap:=s.heap.update p (fb (·.setIfInBounds j u)) }:=
  I.lstUpd hp ho (SC Aa n j u) (r.set rv j) (by rw[xm];exact hz) s.toks
 by_cases h0:0<=k
 ·have hk:k.toNat=j:=by
   rw[xb h0 h4] at h1;exact cu h1
  exact PySem.W.ki_setAt ho h0 (by omega) (by rw[bv, ←hl];exact h4) (by rw[hk];exact⟨_,I',q⟩)
 ·have hk:(k+(Aa.toArray.size:Int)).toNat=j:=by
   rw[seqIndex_neg (by omega) h3] at h1;rw[bv, ←hl];exact cu h1
  exact PySem.W.ki_setBack ho (by omega) (by rw[bv, ←hl];exact h3) (by omega) (by rw[hk];exact⟨_,I',q⟩)
theorem O1 (lo hi:Option Int) (n:Nat):(qy lo hi none n).1=((HT.sIx n 0 lo:Nat):Int)/\(qy lo hi none n).2.1=((HT.sIx n n hi:Nat):Int)/\(qy lo hi none n).2.2=1:=by
 refine⟨?_,?_,rfl⟩
 ·cases lo with
  |none=>simp[qy,HT.sIx]
  |some i=>
   simp only[qy,HT.sIx,wN,show(1:Int)>0 by decide,if_true];by_cases h:i<0
   ·simp only[h,if_true]<;>omega
   ·simp only[h,if_false]<;>omega
 ·cases hi with
  |none=>simp[qy,HT.sIx]
  |some i=>
   simp only[qy,HT.sIx,wN,show(1:Int)>0 by decide,if_true];by_cases h:i<0
   ·simp only[h,if_true]<;>omega
   ·simp only[h,if_false]<;>omega
theorem NM (Aa:List ah) (lo hi:Option Int):slicePick Aa.toArray lo hi none=((Aa.drop (HT.sIx Aa.length 0 lo)).take (HT.sIx Aa.length Aa.length hi - HT.sIx Aa.length 0 lo)).toArray:=by
 obtain⟨h1,h2,h3⟩:=O1 lo hi Aa.toArray.size;unfold slicePick;rw[h1,h2,h3];simp only[sliceRange_one,pick_run,bv]<;>rfl
def qS (K:aa):V->Option Int->Option Int->Hp->VK->Prop:=λx lo hi H Q=>Ex2 λa xs=>x= .ref a/\SqL K H a xs/\∀p,H p=none->Q (.ref p) (upd H p (.lst (QL xs lo hi)))
theorem qD:SlR X (qS X.K):=by
 intro z7 s σ H x v vl vu lo hi sl Q I rx hs pl pu h;obtain⟨a,xs,rfl,hx,q⟩:=h;cases rx;obtain⟨Aa,r,ht,hz⟩:=I.list hx;have hlen:=r.length;refine⟨"list",_,slot_list_getitem.lookup,ht.isList.typeIs,?_⟩;refine wpAny_getItem_list_slice ht.isList hs pl pu .none (by simp) ?_ (by rw[bv]<;>omega);rw[NM, ←hlen];refine⟨.ref s.heap.objs.size,_,I.laid (t':=s.toks) (o:=.lst (QL xs lo hi)) (λb ob q=>ak _ q) (aw _) ?_,rfl,q _ (I.hok.fresh (aw _))⟩;exact⟨cw (KL xs lo hi) hz,_,0,(r.drop (HT.sIx xs.length 0 lo)).take (HT.sIx xs.length xs.length hi - HT.sIx xs.length 0 lo),bn _ rfl⟩
def HX:V->Bool
 | .non=>true
 | .bl _=>true
 | .int _=>true
 | .str _=>true
 |_=>false
def eqV:V->V->Bool
 | .non,.non=>true
 | .bl a,.bl b=>a==b
 | .bl a,.int b=>(if a then 1 else 0)==b
 | .int a,.bl b=>a==(if b then 1 else 0)
 | .int a,.int b=>a==b
 | .str a,.str b=>a==b
 |_,_=>false
theorem f9 {A:cz} {s:aj} {y x:V} {u v:ah} (ry:RelV y u) (rx:RelV x v) (fy:HX y=true) (fx:HX x=true):zK A s u v (eqV y x):=by
 cases y with
 |non=>
  cases ry;cases x with
  |non=>cases rx;exact z5 _
  |bl b=>cases rx;exact zh b
  |int b=>obtain⟨t,rfl⟩:=rx;exact zu b t
  |str b=>obtain⟨t,rfl⟩:=rx;exact zw b t
  |_=>exact absurd (show false=true from fx) bj
 |bl a=>
  cases ry;cases x with
  |non=>cases rx;exact zi a
  |bl b=>cases rx;exact zj a b
  |int b=>obtain⟨t,rfl⟩:=rx;exact zx a b t
  |str b=>obtain⟨t,rfl⟩:=rx;exact zy a b t
  |_=>exact absurd (show false=true from fx) bj
 |int a=>
  obtain⟨t',rfl⟩:=ry;cases x with
  |non=>cases rx;exact zz a t'
  |bl b=>cases rx;exact zA a t' b
  |int b=>obtain⟨t,rfl⟩:=rx;exact zM a t' b t
  |str b=>obtain⟨t,rfl⟩:=rx;exact vU a t' b t
  |_=>exact absurd (show false=true from fx) bj
 |str a=>
  obtain⟨t',rfl⟩:=ry;cases x with
  |non=>cases rx;exact zB a t'
  |bl b=>cases rx;exact zC a t' b
  |int b=>obtain⟨t,rfl⟩:=rx;exact vV a t' b t
  |str b=>obtain⟨t,rfl⟩:=rx;exact zO a t' b t
  |_=>exact absurd (show false=true from fx) bj
 |_=>exact absurd (show false=true from fy) bj
def eqU (x:V) (u:ah):Bool:=match u with
 | .none=>eqV .non x
 | .bool b=>eqV (.bl b) x
 | .int i _=>eqV (.int i) x
 | .str z _=>eqV (.str z) x
 |_=>false
theorem SD {x y:V} {u:ah} (r:RelV y u) (f:HX y=true):eqU x u=eqV y x:=by
 cases y with
 |non=>cases r;rfl
 |bl b=>cases r;rfl
 |int i=>obtain⟨t,rfl⟩:=r;rfl
 |str z=>obtain⟨t,rfl⟩:=r;rfl
 |_=>exact absurd (show false=true from f) bj
theorem QM {A:cz} {s:aj} {x:V} {v:ah} (rx:RelV x v) (fx:HX x=true):∀{xs:List V} {us:List ah},Vals xs us->xs.all HX=true->∀u∈us,zK A s u v (eqU x u)
 |_,_,.nil,_=>λu hu=>by cases hu
 |y::xs,u::us,.cons r t,f=>λu' hu=>by
  rw[List.all_cons,jn] at f;rcases bg.mp hu with rfl|hu
  ·rw[SD r f.1];exact f9 r rx f.1 fx
  ·exact QM rx fx t f.2 u' hu
theorem AN:HV X (.builtin "len") (λxs H Q=>Ex2 λp ys=>xs=[.ref p]/\(SqL X.K H p ys\/SqT X.K H p ys)/\Q (.int ys.length) H):=by
 intro z7 s σ H xs us Q I r h;obtain⟨p,ys,rfl,hq,q⟩:=h;obtain⟨u,rfl,rx⟩:=NW r;cases rx;have hn:=JQ;rcases hq with hq|hq
 ·obtain⟨Aa,r',pl,hz⟩:=I.list hq;have hlen:=r'.length;exact Calls.call_len_list pl.isList (by simp only[bv]<;>omega) ⟨.int ys.length,H,I.tok _,⟨s.toks+1,by rw[bv,hlen]⟩,q⟩
 ·obtain⟨Aa,r',pl,hz⟩:=I.tuple hq;have hlen:=r'.length;exact len_tuple pl (by simp only[bv]<;>omega) ⟨.int ys.length,H,I.tok _,⟨s.toks+1,by rw[bv,hlen]⟩,q⟩
theorem O2:HV X (.builtin "len") (λxs H Q=>∃z,xs=[.str z]/\z.length<=sizeLine/\Q (.int z.length) H):=by
 intro z7 s σ H xs us Q I r h;obtain⟨z,rfl,hz,q⟩:=h;obtain⟨u,rfl,t,rfl⟩:=NW r;have hn:=JQ;exact len_str (by omega) ⟨.int z.length,H,I.tok _,⟨_,rfl⟩,q⟩
theorem HY:HV X (.type "tuple") (λxs H Q=>Ex2 λp ys=>xs=[.ref p]/\((SqL X.K H p ys/\∀l,H l=none->Q (.ref l) (upd H l (.tup ys)))\/(SqT X.K H p ys/\Q (.ref p) H))):=by
 intro z7 s σ H xs us Q I r h;obtain⟨p,ys,rfl,h⟩:=h;obtain⟨u,rfl,rx⟩:=NW r;cases rx;rcases h with⟨hq,q⟩|⟨hq,q⟩
 ·obtain⟨Aa,r',pl,hz⟩:=I.list hq;have hlen:=r'.length;refine call_tuple_list pl.isList (λh' kp=>?_) (by simp only[bv]<;>omega);have I1:Inv X z7 σ H { s with heap:=h' }:=I.kept (t':=s.toks) kp;have I2:Inv X z7 σ (upd H h'.objs.size (.tup ys)) { s with heap:=h'.push { cls:=.type "tuple",data:=.seq Aa.toArray } }:=
   I1.laid (t':=s.toks) (λb o e=>ak _ e) (aw _) (show ObjOk X.prog X.w _ _ _ (.tup ys) from⟨hz,Aa,r',zV _ _⟩)
  exact⟨.ref h'.objs.size,_,I2,rfl,q _ (I1.hok.fresh (aw _))⟩
 ·obtain⟨Aa,r',pl,hz⟩:=I.tuple hq;exact call_tuple_same pl ⟨.ref p,H,I,rfl,q⟩
def tyV (K:aa) (T:String) (x:V) (H:Hp):Prop:=match x with
 | .str _=>T="str"
 | .int _=>T="int"
 | .ref p=>(T="list"/\∃xs,SqL K H p xs)\/(T="tuple"/\∃o,K.lookup p=some o/\o.cls= .type "tuple"/\o.dict=none)\/
  (T="dict"/\((∃Ab,H p=some (.dK Ab))\/∃Ab,H p=some (.dT Ab)))\/(T="set"/\Ex2 λS n=>H p=some (.set S n))
 |_=>False
theorem gA {z7:List (ag×Obj)} {σ:St} {H:Hp} {s:aj} {T:String} {x:V} {v:ah} (I:Inv X z7 σ H s) (r:RelV x v) (ty:tyV X.K T x H):
 s.TypeIs v T/\∀a,v= .ref a->∃ob,s.heap.get? a=some ob/\ob.dict=none:=by
 cases x with
 |str z=>
  obtain⟨t,rfl⟩:=r;cases (show T="str" from ty);exact⟨typeIs_str s z t,λ_ e=>nomatch e⟩
 |int i=>
  obtain⟨t,rfl⟩:=r;cases (show T="int" from ty);exact⟨typeIs_int s i t,λ_ e=>nomatch e⟩
 |ref p=>
  cases r;rcases ty with⟨rfl,xs,hq⟩|⟨rfl,o,hk,hc,hd⟩|⟨rfl,hk⟩|⟨rfl,S,n,hk⟩
  ·obtain⟨Aa,_,pl,_⟩:=I.list hq;refine⟨pl.isList.typeIs,λa e=>?_⟩;cases e;obtain⟨o,n,e,c,hd,_⟩:=pl;exact⟨o,e,hd⟩
  ·refine⟨⟨o,I.kIn p o hk,hc⟩,λa e=>?_⟩;cases e;exact⟨o,I.kIn _ o hk,hd⟩
  ·have z:∃o,s.heap.get? p=some o/\o.ExactDict:=by
    rcases hk with⟨Ab,hk⟩|⟨Ab,hk⟩
    ·obtain⟨_,_,_,_,o,_,_,e,ex,_⟩:=I.hok p _ hk;exact⟨o,e,ex⟩
    ·obtain⟨_,_,_,_,o,_,_,e,ex,_⟩:=I.hok p _ hk;exact⟨o,e,ex⟩
   obtain⟨o,e,ex⟩:=z;refine⟨⟨o,e,ex.1⟩,λa e2=>?_⟩;cases e2;exact⟨o,e,ex.2.1⟩
  ·obtain⟨o,_,_,_,e,ex,_⟩:=I.hok p _ hk;refine⟨⟨o,e,ex.1⟩,λa e2=>?_⟩;cases e2;exact⟨o,e,ex.2.1⟩
 |_=>exact ez ty
def tBM (K:aa) (T:String) (r:V->List V->Hp->VK->Prop) (to:TE) (t:TA):TE:=λσ H Q=>to σ H λx H1=>tyV K T x H1/\t σ H1 λxs H2=>r x xs H2 Q
variable {o e:Expr} {es:List Expr} {to:TE} {t:TA} {name:Str} {apos cpos:Pos} {T id:String} {r:V->List V->Hp->VK->Prop}
theorem GJ (pa:PlainAttrs T) (slot:Slot T name id) (hty:xM (.builtin id)=pure (.type "method_descriptor")) (hm:MtR X id r) (ho:PE X o to) (ha:PA X (e::es) t)
 (hbase:jq o name X.env (eval o X.env)=eval o X.env:=by rfl)
 (hfew:((ig cpos (be (e::es) X.env)).all (λx=>!x.1)&&(jr cpos (gq [] X.env)).all (λx=>x.1.isSome)
  &&decide ((e::es).length+([]:List uG).length+(if([]:List uG).isEmpty then 0 else 1)<30))=true:=by rfl)
 (hline:(apos.endLine==cpos.line)=true:=by rfl) (hs:be (e::es) X.env=(false,eval e X.env)::be es X.env:=by rfl) (hplain:(ig cpos (be es X.env)).any (·.1)=false:=by rfl):
 PE X (.Call (.Attribute o name apos) (e::es) [] cpos) (tBM X.K T r to t):=by
 intro z7 s σ H Q I h;refine wpAny_Call_method_late hbase hfew hline rfl (thn (ho z7 s σ H _ I h) λv s1 ⟨x,H1,I1,r1,ty,q1⟩=>?_);obtain⟨h1,h2⟩:=gA I1 r1 ty;refine⟨T,id,pa,slot,hty,h1,h2,?_⟩;have hA:=ha cpos z7 s1 σ H1 _ I1 q1;rw[hs] at hA ⊢;refine Calls.callWith_builtin (by show(false||(ig cpos (be es X.env)).any (·.1))=false;rw[hplain]<;>rfl) (Calls.evalArgs_plain ?_);exact thn hA λus s2 ⟨vs,H2,I2,r2,q2⟩=>hm z7 s2 σ H2 x vs v us Q I2 r1 r2 q2
end
def MtM (X:Cx) (id:String) (r:V->List V->Hp->VK->Prop):Prop:=
 ∀(z7:List (ag×Obj)) (s:aj) (σ:St) (H:Hp) (x:V) (xs:List V) (v:ah) (us:List ah) (Q:VK),Inv X z7 σ H s->RelV x v->Vals xs us->r x xs H Q->
  bf (bi X.prog X.w) X.A (call (.builtin id) (v::us)) (EP X z7 σ Q) X.xe s
theorem Vals.one:∀{x:V} {us:List ah},Vals [x] us->∃u,us=[u]/\RelV x u
 |_,_,.cons r .nil=>⟨_,rfl,r⟩
theorem Vals.two:∀{x y:V} {us:List ah},Vals [x,y] us->∃u v,us=[u,v]/\RelV x u/\RelV y v
 |_,_,_,.cons r (.cons q .nil)=>⟨_,_,rfl,r,q⟩
theorem Vals.zero:∀{us:List ah},Vals [] us->us=[]
 |_,.nil=>rfl
theorem Vals.reverse {xs:List V} {us:List ah} (h:Vals xs us):Vals xs.reverse us.reverse:=by
 induction h with
 |nil=>exact .nil
 |cons r t ih=>rw[rn,rn];exact Vals.append ih (.cons r .nil)
section
variable {X:Cx} {z7:List (ag×Obj)} {σ:St} {H:Hp} {s:aj} {l b:ag} {xs ys zs:List V}
theorem Inv.lset {Aa its':List ah} {n:Nat} {f:Array ah->Array ah} {t':Nat} (I:Inv X z7 σ H s) (hH:H l=some (.lst xs))
 (e:s.heap.get? l=some { cls:=.type "list",data:=.seq Aa.toArray n }) (hf:f Aa.toArray=its'.toArray) (hv:Vals ys its') (hz:ys.length<=sizeLine):
 Inv X z7 σ (upd H l (.lst ys)) { s with heap:=s.heap.update l (fb f),toks:=t' }:=by
 have q:=PySem.IsL.update e f;rw[hf] at q;refine I.write (x:=l) (e:=l) (by rw[hH];exact trivial) (.inl rfl) (λb' u hb hu=>(ke s.heap (fb f) (cr hb)).trans hu) ⟨_,q⟩ ?_;exact⟨hz,its',_,hv,q⟩
theorem Inv.lstM (I:Inv X z7 σ H s) (hH:H l=some (.lst xs)):xs.length<=sizeLine/\∃(Aa:List ah) (n:Nat),Vals xs Aa/\xs.length=Aa.length/\s.heap.get? l=some { cls:=.type "list",data:=.seq Aa.toArray n }:=by
 obtain⟨z,Aa,n,r,e⟩:=I.hok l _ hH;exact⟨z,Aa,n,r,r.length,e⟩
end
section
variable {X:Cx}
def LD:V->List V->Hp->VK->Prop:=λx vs H Q=>Ex3 λl xs y=>x= .ref l/\vs=[y]/\H l=some (.lst xs)/\xs.length<sizeLine/\Q .non (upd H l (.lst (xs++[y])))
theorem CV:MtM X "list.append" LD:=by
 intro z7 s σ H x vs v us Q I rx rv h;obtain⟨l,xs,y,rfl,rfl,hH,hz,q⟩:=h;cases rx;obtain⟨u,rfl,ru⟩:=rv.one;obtain⟨z,Aa,n,r,hl,e⟩:=I.lstM hH;refine xO fj ⟨_,e,rfl⟩ F.entry_list_append (F.args_list_append_2 _ _) (PySem.list_append l Aa.toArray n u (by rw[bv];omega)) ⟨e,?_⟩;refine⟨.non,_,I.lset (its':=Aa++[u]) hH e (by simp) (r.append (.cons ru .nil)) ?_,rfl,q⟩;rw[br,List.length_singleton];omega
end
theorem Vals.ints:∀{ns:List Int} {us:List ah},Vals (ns.map V.int) us->IntsAre us ns
 |[],us,h=>by
  rw[wo] at h;cases h;exact IntsAre.nil
 |n::ns,us,h=>by
  rw[fi] at h;cases h with
  |cons r t=>
   obtain⟨k,rfl⟩:=r;exact IntsAre.cons n k (Vals.ints t)
theorem Vals.strs:∀{xs:List Str} {us:List ah},Vals (xs.map V.str) us->StrsAre us xs
 |[],us,h=>by
  rw[wo] at h;cases h;exact StrsAre.nil
 |x::xs,us,h=>by
  rw[fi] at h;cases h with
  |cons r t=>
   obtain⟨k,rfl⟩:=r;exact StrsAre.cons x k (Vals.strs t)
theorem Vals.ref1 {a:ag} {us:List ah} (r:Vals [V.ref a] us):us=[cb a]:=by
 cases r with
 |cons r t=>
  cases t;cases r;rfl
section
variable {prog:bb} {w:bw} {A:cz} {E:ah->aj->Prop} {s:aj} {l:ag} {Aa:List ah} {ns:List Int} {Q:ah->aj->Prop}
theorem bU (hh:A.handled=none) (hl:s.heap.IsList l Aa.toArray) (hi:IntsAre Aa ns) (hne:0<ns.length)
 (h:∀h' tk M t',(∀b o,s.heap.get? b=some o->h'.get? b=some o)->M∈ns->(∀a,a∈ns->a<=M)->Q (.int M t') { s with heap:=h',toks:=tk }):bf (bi prog w) A (call (.builtin "max") [.ref l]) Q E s:=by
 obtain⟨xs,e⟩:=hi.allInts.items;have hn:numsOf (intItems xs).toList=ns:=by rw[←e];exact hi.numsOf
 rw[nums_intItems] at hn;subst hn;rw[e] at hl;have hsz:0<xs.size:=by simpa using hne
 refine PySem.max_intList hh hl hsz λv h' tk hv hk=>?_;obtain⟨t,rfl⟩:=intItems_at hv;obtain⟨h1,h2⟩:=argBest_gt (numAt xs) (xs.size - 1);refine h h' tk _ t hk ?_ λa ha=>?_
 ·rw[xP];exact xQ (by rw[ai,dc];omega)
 ·obtain⟨j,hj,rfl⟩:=mem_getD ha;rw[ai,dc] at hj;rw[←xP];exact h2 j (by omega)
theorem bV (hh:A.handled=none) (hl:s.heap.IsList l Aa.toArray) (hi:IntsAre Aa ns) (hne:0<ns.length)
 (h:∀h' tk M t',(∀b o,s.heap.get? b=some o->h'.get? b=some o)->M∈ns->(∀a,a∈ns->M<=a)->Q (.int M t') { s with heap:=h',toks:=tk }):bf (bi prog w) A (call (.builtin "min") [.ref l]) Q E s:=by
 obtain⟨xs,e⟩:=hi.allInts.items;have hn:numsOf (intItems xs).toList=ns:=by rw[←e];exact hi.numsOf
 rw[nums_intItems] at hn;subst hn;rw[e] at hl;have hsz:0<xs.size:=by simpa using hne
 refine PySem.min_intList hh hl hsz λv h' tk hv hk=>?_;obtain⟨t,rfl⟩:=intItems_at hv;obtain⟨h1,h2⟩:=argBest_lt (numAt xs) (xs.size - 1);refine h h' tk _ t hk ?_ λa ha=>?_
 ·rw[xP];exact xQ (by rw[ai,dc];omega)
 ·obtain⟨j,hj,rfl⟩:=mem_getD ha;rw[ai,dc] at hj;rw[←xP];exact h2 j (by omega)
end
section
variable {X:Cx}
def qT (K:aa):List V->Hp->VK->Prop:=λvs H Q=>Ex2 λ(a:ag) (ns:List Int)=>vs=[V.ref a]/\SqL K H a (ns.map V.int)/\0<ns.length/\∀m,m∈ns->(∀y,y∈ns->y<=m)->Q (.int m) H
def qU (K:aa):List V->Hp->VK->Prop:=λvs H Q=>Ex2 λ(a:ag) (ns:List Int)=>vs=[V.ref a]/\SqL K H a (ns.map V.int)/\0<ns.length/\∀m,m∈ns->(∀y,y∈ns->m<=y)->Q (.int m) H
theorem gB (hc:X.calm=true):HV X (.builtin "max") (qT X.K):=by
 intro z7 s σ H vs us Q I r h;obtain⟨a,ns,rfl,hs,hne,q⟩:=h;obtain⟨Aa,rv,hl,_⟩:=I.list hs;rw[Vals.ref1 r];exact bU (I.ok.hd hc) hl.isList rv.ints hne λh' tk m t' hk h1 h2=>⟨.int _,H,I.kept hk,⟨_,rfl⟩,q m h1 h2⟩
theorem gC (hc:X.calm=true):HV X (.builtin "min") (qU X.K):=by
 intro z7 s σ H vs us Q I r h;obtain⟨a,ns,rfl,hs,hne,q⟩:=h;obtain⟨Aa,rv,hl,_⟩:=I.list hs;rw[Vals.ref1 r];exact bV (I.ok.hd hc) hl.isList rv.ints hne λh' tk m t' hk h1 h2=>⟨.int _,H,I.kept hk,⟨_,rfl⟩,q m h1 h2⟩
end
section
variable {X:Cx}
def gD (K:aa):V->List V->Hp->VK->Prop:=λx xs H Q=>Ex5 λ(a:ag) (ys:List V) (y:V) (j:Nat) (z:V)=>x=V.ref a/\xs=[y]/\SqL K H a ys/\HX y=true/\ys.all HX=true/\ys[j]? =some z/\eqV z y=true/\
 (∀(m:Nat) (z':V),m<j->ys[m]? =some z'->eqV z' y=false)/\Q (.int (j:Nat)) H
theorem UJ {ys:List V} (f:ys.all HX=true) {j:Nat} {z:V} (h:ys[j]? =some z):HX z=true:=jd.mp f z (bo h)
theorem QN:MtR X "list.index" (gD X.K):=by
 intro z7 s σ H x xs v us Q I rx rxs h;obtain⟨a,ys,y,j,z,rfl,rfl,hs,fy,fys,hz,hzj,hno,q⟩:=h;cases rx;cases rxs with
 |cons ry rt=>
  rename_i uy ut;cases rt;obtain⟨Aa,rv,⟨⟨cls,dd,data,sl⟩,n,ho,hc,hdn,hd⟩,hlen⟩:=I.list hs;simp only at hc hd;subst hc hd;obtain⟨u,hu,ru⟩:=rv.get hz;obtain⟨hjl,hje⟩:=au.mp hu;have hvl:=rv.length;have hj:j<Aa.toArray.size:=by simpa using hjl
  have hsl:=bz;refine xO qz ⟨_,ho,rfl⟩ PySem.F.entry_list_index (PySem.F.args_list_index_2 _ _)
   (SeqAt.list_indexAt a Aa.toArray n dd sl uy (eqU y) j hj (by omega) ?_ ?_) ⟨ho,λu' hu'=>QM ry fy rv fys u' (by simpa using hu'),?_⟩
  ·have e1:Aa.toArray[j]=u:=by simpa using hje
   rw[e1,SD ru (UJ fys hz)];exact hzj
  ·intro m hm hmj;have hml:m<Aa.length:=by simpa using hm
   have hmy:m<ys.length:=by omega
   have hy':ys[m]? =some ys[m]:=am hmy;obtain⟨u2,hu2,ru2⟩:=rv.get hy';obtain⟨_,hme⟩:=au.mp hu2;have e1:Aa.toArray[m]=u2:=by simpa using hme
   rw[e1,SD ru2 (UJ fys hy')];exact hno m _ hmj hy'
  ·exact⟨.int (j:Nat),H,I.tok _,⟨_,rfl⟩,q⟩
end
mutual
inductive Dp (K:aa) (H:Hp):V->v4->Prop
 |non:Dp K H .non .none
 |bl (b:Bool):Dp K H (.bl b) (.bool b)
 |int (i:Int):Dp K H (.int i) (.int i)
 |str (x:Str):Dp K H (.str x) (.str x)
 |lst {a:ag} {xs:List V} {ds:List v4}:SqL K H a xs->DpAll K H xs ds->Dp K H (.ref a) (.list ds)
 |tup {a:ag} {xs:List V} {ds:List v4}:SqT K H a xs->DpAll K H xs ds->Dp K H (.ref a) (.tuple ds)
inductive DpAll (K:aa) (H:Hp):List V->List v4->Prop
 |nil:DpAll K H [] []
 |cons {v:V} {vs:List V} {d:v4} {ds:List v4}:Dp K H v d->DpAll K H vs ds->DpAll K H (v::vs) (d::ds)
end
section
variable {X:Cx} {z7:List (ag×Obj)} {σ:St} {H:Hp} {s:aj}
mutual
theorem Dp.reads (I:Inv X z7 σ H s):∀(d:v4) (v:V) (u:ah),Dp X.K H v d->RelV v u->∃as,Reads s.heap u d as
 | .none,_,_,h,r=>by
   cases h;cases r;exact⟨_,Reads.none⟩
 | .bool b,_,_,h,r=>by
   cases h;cases r;exact⟨_,Reads.bool b⟩
 | .int i,_,_,h,r=>by
   cases h;obtain⟨t,rfl⟩:=r;exact⟨_,Reads.int i t⟩
 | .str x,_,_,h,r=>by
   cases h;obtain⟨t,rfl⟩:=r;exact⟨_,Reads.str x t⟩
 | .list ds,_,_,h,r=>by
   cases h with
   |lst hs ha=>
    cases r;obtain⟨Aa,rv,⟨o,n,ho,hc,_,hd⟩,_⟩:=I.list hs;obtain⟨as,hr⟩:=Dp.readsAll I ds _ Aa ha rv;exact⟨_,Reads.list ho hc hd hr⟩
 | .tuple ds,_,_,h,r=>by
   cases h with
   |tup hs ha=>
    cases r;obtain⟨Aa,rv,⟨o,ho,hc,n,hd⟩,_⟩:=I.tuple hs;obtain⟨as,hr⟩:=Dp.readsAll I ds _ Aa ha rv;exact⟨_,Reads.tuple ho hc hd hr⟩
 | .dict _,_,_,h,_=>by cases h
theorem Dp.readsAll (I:Inv X z7 σ H s):∀(ds:List v4) (vs:List V) (us:List ah),DpAll X.K H vs ds->Vals vs us->∃as,ReadsAll s.heap us ds as
 |[],_,_,h,r=>by
  cases h;cases r;exact⟨_,ReadsAll.nil⟩
 |d::ds,_,_,h,r=>by
  cases h with
  |cons h1 h2=>
   cases r with
   |cons r1 r2=>
    obtain⟨as,q1⟩:=Dp.reads I d _ _ h1 r1;obtain⟨bs,q2⟩:=Dp.readsAll I ds _ _ h2 r2;exact⟨_,ReadsAll.cons q1 q2⟩
end
end
abbrev YB (h:cq) (c:ag) (v:Option ah):Prop:=h.IsCell c v
def qV (scope sc:ji):ji:=
 { scope with names:=scope.names.map λ(n,k)=>if(k==.free&&sc.kind==.function&&sc.names.lookup n==some .cell) then(n,.cell) else(n,k) }
def BA (cells:List (Str×ag)):List (Str×km)->List (Str×ag)->List (Str×ag)
 |[],acc=>acc
 |(n,k)::r,acc=>if k==.free then BA cells r ((n,(cells.lookup n).getD 0)::acc) else BA cells r acc
theorem IT (env:Env) (f:Str×km->List (Str×ag)->Sem (ForInStep (List (Str×ag))))
 (hf:∀n k c,f (n,k) c=if k==.free then(do let a←cellOf env n;pure (.yield ((n,a)::c))) else pure (.yield c)):
 ∀(names:List (Str×km)) (acc:List (Str×ag)),(∀y∈names,y.2= .free->∃c,env.cells.lookup y.1=some c)->forIn names acc f=pure (BA env.cells names acc)
 |[],acc,_=>by rw[xR];rfl
 |(n,k)::r,acc,h=>by
  rw[List.forIn_cons,hf];have ih:=λacc=>IT env f hf r acc λy hy=>h y (aq _ hy);unfold BA;by_cases hk:(k==qg)=true
  ·rw[Ae hk,Ae hk];obtain⟨c,hc⟩:=h (n,k) bc (by simpa using hk);have e:cellOf env n=pure c:=by unfold cellOf;rw[hc]
   rw[e];have e2:(env.cells.lookup n).getD 0=c:=by rw[hc];rfl
   rw[e2];exact ih _
  ·rw[Af hk,Af hk];exact ih _
theorem L9 {scope:ji} {env:Env} (h:∀y∈scope.names,y.2= .free->∃c,env.cells.lookup y.1=some c):xS scope env=pure (BA env.cells scope.names []):=by
 simp only[xS];rw[IT env _ (λn k c=>rfl) scope.names [] h];rfl
theorem EX {α:Type}:∀{l:List (Str×α)} {n:Str} {c:α},(n,c)∈l->∃c',l.lookup n=some c'
 |(k,v)::r,n,c,h=>by
  rw[kl];cases hb:n==k with
  |true=>exact⟨_,rfl⟩
  |false=>
   rcases bg.mp h with e|h
   ·cases e;simp at hb
   ·exact EX h
theorem EC {cells:List (Str×ag)}:∀{names:List (Str×km)} {acc:List (Str×ag)} {n:Str} {c:ag},(n,c)∈BA cells names acc->(n,c)∈acc\/((n,.free)∈names/\c=(cells.lookup n).getD 0)
 |[],_,_,_,h=>.inl h
 |(m,k)::r,acc,n,c,h=>by
  unfold BA at h;split at h
  ·rename_i hk;have hk:k= .free:=by simpa using hk
   rcases EC h with h|⟨h1,h2⟩
   ·rcases bg.mp h with e|h
    ·cases e;exact .inr ⟨hk▸bc,rfl⟩
    ·exact .inl h
   ·exact .inr ⟨aq _ h1,h2⟩
  ·rcases EC h with h|⟨h1,h2⟩
   ·exact .inl h
   ·exact .inr ⟨aq _ h1,h2⟩
theorem GQ {cells:List (Str×ag)}:∀{names:List (Str×km)} {acc:List (Str×ag)} {p:Str×ag},p∈acc->p∈BA cells names acc
 |[],_,_,h=>h
 |(m,k)::r,acc,p,h=>by
  unfold BA;split
  ·exact GQ (aq _ h)
  ·exact GQ h
theorem ED {cells:List (Str×ag)}:∀{names:List (Str×km)} {acc:List (Str×ag)} {n:Str},(n,.free)∈names->(n,(cells.lookup n).getD 0)∈BA cells names acc
 |(m,k)::r,acc,n,h=>by
  unfold BA;rcases bg.mp h with e|h
  ·cases e;exact GQ bc
  ·split
   ·exact ED h
   ·exact ED h
theorem F2:∀{names:List (Str×km)} {h:cq} {acc:List (Str×ag)} {x:Str} {c:ag},(x,c)∈il h.objs.size names acc->
 (x,c)∈acc\/((x,.cell)∈names/\h.objs.size<=c/\YB (rR h names) c none)
 |[],_,_,_,_,h=>.inl h
 |(n,k)::r,h,acc,x,c,hm=>by
  unfold il at hm;unfold rR;split at hm
  ·rename_i hk;rw[Ae hk];have hk:k= .cell:=by simpa using hk
   rw[←fh h { cls:=.type "cell",data:=.cell none }] at hm;rcases F2 hm with hm|⟨h1,h2,h3⟩
   ·rcases bg.mp hm with e|hm
    ·cases e;exact .inr ⟨hk▸bc,aw _,_,ss r _ _ _ (bn _ rfl),rfl⟩
    ·exact .inl hm
   ·rw[fh] at h2;exact .inr ⟨aq _ h1,rp h2,h3⟩
  ·rename_i hk;rw[Af hk];rcases F2 hm with hm|⟨h1,h2,h3⟩
   ·exact .inl hm
   ·exact .inr ⟨aq _ h1,h2,h3⟩
theorem HG:∀{names:List (Str×km)} {n:Nat} {acc:List (Str×ag)} {p:Str×ag},p∈acc->p∈il n names acc
 |[],_,_,_,h=>h
 |(m,k)::r,n,acc,p,h=>by
  unfold il;split
  ·exact HG (aq _ h)
  ·exact HG h
theorem JU:∀{names:List (Str×km)} {n:Nat} {acc:List (Str×ag)} {x:Str},(x,.cell)∈names->∃c,(x,c)∈il n names acc
 |(m,k)::r,n,acc,x,h=>by
  unfold il;rcases bg.mp h with e|h
  ·cases e;exact⟨n,HG bc⟩
  ·split
   ·exact JU h
   ·exact JU h
theorem JV:∀{names:List (Str×km)} {h:cq} {acc:List (Str×ag)} {x y:Str} {c:ag},(∀p∈acc,p.2<h.objs.size)->(∀x y c,(x,c)∈acc->(y,c)∈acc->x=y)->
 (x,c)∈il h.objs.size names acc->(y,c)∈il h.objs.size names acc->x=y
 |[],_,_,_,_,_,_,hi,h1,h2=>hi _ _ _ h1 h2
 |(n,k)::r,h,acc,x,y,c,hl,hi,h1,h2=>by
  unfold il at h1 h2;split at h1
  ·rename_i hk;rw[Ae hk] at h2;rw[←fh h { cls:=.type "cell",data:=.cell none }] at h1 h2;refine JV (h:=h.push _) (λp hp=>?_) (λx y c a b=>?_) h1 h2
   ·rw[fh];rcases bg.mp hp with rfl|hp
    ·exact uh _
    ·exact oo (hl p hp)
   ·rcases bg.mp a with e|a<;>rcases bg.mp b with e'|b
    ·cases e;cases e';rfl
    ·cases e;exact absurd (hl _ b) (iy _)
    ·cases e';exact absurd (hl _ a) (iy _)
    ·exact hi _ _ _ a b
  ·rename_i hk;rw[Af hk] at h2;exact JV hl hi h1 h2
theorem QO {M:w9} {A:cz} {E:ah->aj->Prop} {s:aj} {scope:ji} {globals:ag} {closure:List (Str×ag)} {qual:Str} {func:Option ag} {code:ah} {around:Env} {builtins:ag} {Q:Env->aj->Prop}
 (h:Q (newEnv scope s.heap.objs.size globals (il (s.heap.objs.size+1) scope.names closure) qual func code (some around) builtins)
  { s with heap:=rR (s.heap.push { cls:=.type "dict",data:=.dict #[] }) scope.names }):
 bf M A (xU scope globals closure [] qual func code (some around) builtins) Q E s:=by
 simp only[xU,Option.isSome_some,if_true];refine ae (wpAny_alloc ?_);refine ae (wpAny_layCells _ (λn k c=>rfl) scope.names closure _ _ ?_);rw[show({ s with heap:=s.heap.push { cls:=.type "dict",data:=.dict #[] } }:aj).heap.objs.size=s.heap.objs.size+1 from fh ..];rw[xR];exact ae (ao (ao h))
theorem GR {sc:ji}:∀{names:List (Str×km)} {x:Str} {k:km},
 (names.map λ(n,k)=>if(k==qg&&sc.kind==.function&&sc.names.lookup n==some .cell) then(n,vR) else(n,k)).lookup x=some k->
 ∃k',names.lookup x=some k'/\(k=k'\/(k'= .free/\k= .cell))
 |[],_,_,h=>by simp at h
 |(n,k₀)::r,x,k,h=>by
  have ih:=@GR sc r x k;have h':jc x ((if(k₀==qg&&sc.kind==.function&&sc.names.lookup n==some .cell)=true then(n,vR) else(n,k₀))::(r.map _))=some k:=h;cases hx:x==n with
  |true=>
   simp only[kl,hx];by_cases hc:(k₀==qg&&sc.kind==.function&&sc.names.lookup n==some .cell)=true
   ·rw[Ae hc] at h';simp only[kl,hx] at h';cases h';simp only[jn,beq_iff_eq] at hc;exact⟨k₀,rfl,.inr ⟨hc.1.1,rfl⟩⟩
   ·rw[Af hc] at h';simp only[kl,hx] at h';cases h';exact⟨_,rfl,.inl rfl⟩
  |false=>
   simp only[kl,hx];by_cases hc:(k₀==qg&&sc.kind==.function&&sc.names.lookup n==some .cell)=true
   ·rw[Ae hc] at h';simp only[kl,hx] at h';exact ih h'
   ·rw[Af hc] at h';simp only[kl,hx] at h';exact ih h'
structure BlkOk (N:List Str) (sc scope:ji) (own:List (Str×Nat)):Prop where
 kind:scope.kind= .function:=by rfl
 uniq:∀y∈scope.names,scope.names.lookup y.1=some y.2:=by decide +kernel
 ix:∀p∈own,N[p.2]? =some p.1:=by decide +kernel
 free:∀y∈scope.names,y.2= .free->sc.names.lookup y.1=some .cell\/sc.names.lookup y.1=some .free:=by decide +kernel
 own:∀y∈scope.names,y.2= .local\/y.2= .cell->y.1∈own.map (·.1)\/y.1∉N:=by decide +kernel
def F9 (σ:St):List Nat->St
 |[]=>σ
 |v::vs=>(F9 σ vs).set v none
theorem GU (σ:St):∀vs:List Nat,(F9 σ vs).length=σ.length
 |[]=>rfl
 |v::vs=>by unfold F9;rw[xm,GU σ vs]
theorem JW {σ:St} {i:Nat} {x:V}:∀{vs:List Nat},(F9 σ vs)[i]? =some (some x)->σ[i]? =some (some x)/\i∉vs
 |[],h=>⟨h,by simp⟩
 |v::vs,h=>by
  unfold F9 at h;by_cases hi:v=i
  ·subst hi;by_cases hv:v<(F9 σ vs).length
   ·rw[mx hv] at h;cases h
   ·rw[u5 (by simpa using hv)] at h;cases h
  ·rw[rY hi] at h;obtain⟨h1,h2⟩:=JW h;exact⟨h1,by simp only[bg,not_or];exact⟨λe=>hi e.symm,h2⟩⟩
abbrev Cx.blk (X:Cx) (s:aj) (H:Hp) (scope:ji) (cenv:Env) (fp:List ag):Cx:={ X with s_0:=s,H_0:=H,env:=cenv,outer:=X.stack,ex:=fp,fn:=λx=>scope.names.lookup x==some .cell,pn:=[],xe:=λ_ _=>False }
section
variable {X:Cx} {z7:List (ag×Obj)} {σ:St} {H:Hp} {s:aj}
theorem QP {scope:ji} {own:List (Str×Nat)} {fp:List ag} (I:Inv X z7 σ H s) (ok:BlkOk X.N X.env.scope scope own) (hN:X.N.Nodup) (hfp:∀b∈fp,K1 X z7 H b/\b<s.heap.objs.size):
 Inv (X.blk s H scope (jl scope (il (s.heap.objs.size+1) scope.names (BA X.env.cells scope.names [])) s.heap.objs.size X.env) fp) [] (F9 σ (own.map (·.2))) H { s with heap:=rR (s.heap.push { cls:=.type "dict",data:=.dict #[] }) scope.names }:=by
 have hfree:∀y∈scope.names,y.2= .free->∃c,X.env.cells.lookup y.1=some c:=λy hy e=>by
  rcases ok.free y hy e with k|k
  ·exact I.ok.has _ (.inl k)
  ·exact I.ok.has _ (.inr k)
 generalize hcenv:jl scope (il (s.heap.objs.size+1) scope.names (BA X.env.cells scope.names [])) s.heap.objs.size X.env=cenv;have kp:∀b o,s.heap.get? b=some o->(rR (s.heap.push { cls:=.type "dict",data:=.dict #[] }) scope.names).get? b=some o:=λb o e=>ss _ _ _ _ (ak _ e);have hL:cenv.locals=s.heap.objs.size:=by rw[←hcenv];rfl
 have hcl:cenv.cells=il (s.heap.objs.size+1) scope.names (BA X.env.cells scope.names []):=by rw[←hcenv];rfl
 have hsc:cenv.scope=qV scope X.env.scope:=by rw[←hcenv];rfl
 rw[←fh s.heap { cls:=.type "dict",data:=.dict #[] }] at hcl;have cm:∀{y c},(y,c)∈BA X.env.cells scope.names []->X.env.cells.lookup y=some c/\c<s.heap.objs.size:=λ{y c} hm=>by
  rcases EC hm with hm|⟨h1,rfl⟩
  ·cases hm
  ·obtain⟨c,hc⟩:=hfree _ h1 rfl;rw[hc];obtain⟨w,z⟩:=I.cell _ _ hc;exact⟨rfl,z.lt⟩
 have mem:∀{y c},cenv.cells.lookup y=some c->(X.env.cells.lookup y=some c/\c<s.heap.objs.size)\/(s.heap.objs.size+1<=c/\YB (rR (s.heap.push { cls:=.type "dict",data:=.dict #[] }) scope.names) c none):=λ{y c} e=>by
  rw[hcl] at e;rcases F2 (cp e) with hm|⟨_,h2,h3⟩
  ·exact .inl (cm hm)
  ·rw[fh] at h2;exact .inr ⟨h2,h3⟩
 have look:∀{y},scope.names.lookup y=some .free->∃c,cenv.cells.lookup y=some c/\X.env.cells.lookup y=some c:=λ{y} hl=>by
  have hy:(y,qg)∈scope.names:=cp hl;obtain⟨c',e'⟩:=EX (HG (names:=scope.names) (n:=(s.heap.push { cls:=.type "dict",data:=.dict #[] }).objs.size) (ED (cells:=X.env.cells) (acc:=[]) hy));rw[←hcl] at e';refine⟨c',e',?_⟩;rw[hcl] at e';rcases F2 (cp e') with hm|⟨h1,_,_⟩
  ·exact(cm hm).1
  ·have:=ok.uniq _ h1;rw[hl] at this;cases this
 have okB:(X.blk s H scope cenv fp).Ok:=by
  refine⟨I.ok.mod,by show cenv.scope.kind=_;rw[hsc];exact ok.kind,by show cenv.globals=_;rw[←hcenv];exact I.ok.glob,by show cenv.builtins=_;rw[←hcenv];exact I.ok.blt,by show s.heap.objs.size<=cenv.locals;rw[hL];exact aw _,
   λy z c e1 e2=>?_,λy hy=>?_,λy c z e=>?_,I.ok.hd,I.ok.frames,.inl rfl,λb hb=>⟨?_,λy c e z=>?_⟩,I.bs,cw I.ok.bsz I.sz,λb o e hb=>?_,λb hb z=>?_,I.stack,I.stkFree⟩
  ·have e1:cenv.cells.lookup y=some c:=e1;have e2:cenv.cells.lookup z=some c:=e2;rw[hcl] at e1 e2;refine JV (λp hp=>?_) (λy z c a b=>I.ok.inj y z c (cm a).1 (cm b).1) (cp e1) (cp e2);rw[fh];exact oo (cm (y:=p.1) (c:=p.2) hp).2
  ·show∃c,cenv.cells.lookup y=some c;have key:∀k,cenv.kindOf y=some k->(k= .cell\/k= .free)->∃c,cenv.cells.lookup y=some c:=λk hk hk'=>by
    unfold Env.kindOf at hk;rw[hsc] at hk;obtain⟨k',e,r⟩:=GR hk;have:k'= .cell\/k'= .free:=by
     rcases r with rfl|⟨rfl,_⟩
     ·exact hk'
     ·exact .inr rfl
    rcases this with rfl|rfl
    ·obtain⟨c,hm⟩:=JU (n:=(s.heap.push { cls:=.type "dict",data:=.dict #[] }).objs.size) (acc:=BA X.env.cells scope.names []) (cp e);obtain⟨c',e'⟩:=EX hm;exact⟨c',by rw[hcl];exact e'⟩
    ·obtain⟨c,h1,_⟩:=look e;exact⟨c,h1⟩
   rcases hy with hy|hy
   ·exact key _ hy (.inl rfl)
   ·exact key _ hy (.inr rfl)
  ·have z:(scope.names.lookup y==some vR)=true:=z;have z:scope.names.lookup y=some .cell:=by simpa using z
   have e:cenv.cells.lookup y=some c:=e;rw[hcl] at e;rcases F2 (cp e) with hm|⟨_,h2,_⟩
   ·rcases EC hm with hm|⟨h1,_⟩
    ·cases hm
    ·have q:=ok.uniq _ h1;rw[z] at q;cases q
   ·rw[fh] at h2;exact rp h2
  ·show b≠cenv.locals;rw[hL];exact cg (hfp b hb).2
  ·have e:cenv.cells.lookup y=some c:=e;rcases mem e with⟨h1,_⟩|⟨h1,_⟩
   ·exact(hfp b hb).1.2.2.2.2.1 y c h1 z
   ·have h2:s.heap.objs.size+1<=b:=by rw[←z];exact h1
    exact absurd (bu (hfp b hb).2 (rp h2)) (iy _)
  ·rcases(hfp b hb).1.2.2.2.1 with z|z
   ·exact I.ok.noex b o e z
   ·exact absurd (bu (bh e) (cw I.ok.bsz z)) (iy _)
  ·rcases bg.mp (I.stkSub b z) with z|z
   ·exact(hfp b hb).1.2.1 z
   ·exact(hfp b hb).1.2.2.1 z
 refine⟨okB,rfl,I.bare,Un.kept kp,⟨λ_=>none,?_,λi y av e1 e2 e3=>?_⟩,λy c e=>?_,?_,λy c e=>?_,λp hp=>?_,I.hok.kept kp,by rw[GU];exact I.len⟩
 ·show Heap.Ns _ cenv.locals _;rw[hL];exact Heap.Ns.keeps (Heap.Ns.new ..) λb o e=>ss _ _ _ _ e
 ·obtain⟨e2,hne⟩:=JW e2;have hfr:scope.names.lookup y=some .free/\(cenv.kindOf y=some .cell\/cenv.kindOf y=some .free):=by
   have key:∀k,cenv.scope.names.lookup y=some k->k= .local\/k= .cell\/k= .free->scope.names.lookup y=some .free/\(cenv.kindOf y=some .cell\/cenv.kindOf y=some .free):=λk hk hk'=>by
    have hk0:=hk;rw[hsc] at hk;obtain⟨k',e,r⟩:=GR hk;have no:¬(k'= .local\/k'= .cell):=λhh=>by
     rcases ok.own _ (cp e) hh with e'|e'
     ·obtain⟨p,hp,hpy⟩:=kf.mp e';have e3:=ok.ix p hp;have:p.1=y:=hpy;rw[this] at e3;exact hne (kf.mpr ⟨p,hp,LR hN e3 e1⟩)
     ·exact e' (bo e1)
    rcases r with rfl|⟨rfl,rfl⟩
    ·rcases hk' with rfl|rfl|rfl
     ·exact absurd (.inl rfl) no
     ·exact absurd (.inr rfl) no
     ·exact⟨e,.inr hk0⟩
    ·exact⟨e,.inl hk0⟩
   have e3:Vis cenv.scope y:=e3;rcases e3 with e3|e3|e3
   ·exact key _ e3 (.inl rfl)
   ·exact key _ e3 (.inr (.inl rfl))
   ·exact key _ e3 (.inr (.inr rfl))
  obtain⟨m,hn,hl⟩:=I.loc;have hvis:Vis X.env.scope y:=(ok.free _ (cp hfr.1) rfl).elim (λk=>.inr (.inl k)) (λk=>.inr (.inr k));obtain⟨w,r,q⟩:=hl i y av e1 e2 hvis;refine⟨w,r,.inr ⟨hfr.2,?_⟩⟩;obtain⟨c,h1,h2⟩:=look hfr.1;rcases q with⟨k,_⟩|⟨_,c',e',z⟩
  ·have k:X.env.scope.names.lookup y=some .local:=k;rcases ok.free _ (cp hfr.1) rfl with k'|k'<;>rw[show X.env.scope.names.lookup y=_ from k'] at k<;>cases k
  ·rw[h2] at e';cases e';exact⟨c,h1,z.keeps kp⟩
 ·have e:cenv.cells.lookup y=some c:=e;rcases mem e with⟨h1,_⟩|⟨_,z⟩
  ·obtain⟨w,z⟩:=I.cell y c h1;exact⟨w,z.keeps kp⟩
  ·exact⟨_,z⟩
 ·show H cenv.locals=none;rw[hL];exact I.hok.fresh (aw _)
 ·have e:cenv.cells.lookup y=some c:=e;rcases mem e with⟨h1,_⟩|⟨h1,_⟩
  ·exact I.freeC y c h1
  ·exact I.hok.fresh (rp h1)
 ·exact absurd (show p∈([]:List (ag×Obj))++[] from hp) (by simp)
theorem gE {E:ah->aj->Prop} {D:ag} {xs:List V} {y:V} {v:ah} {Q:ah->aj->Prop} (I:Inv X z7 σ H s) (hD:H D=some (.lst xs)) (hz:xs.length<sizeLine) (r:RelV y v)
 (h:∀s',Inv X z7 σ (upd H D (.lst (xs++[y]))) s'->Q .none s'):bf (bi X.prog X.w) X.A (call (.builtin "list.append") [.ref D,v]) Q E s:=by
 obtain⟨hz',Aa,n,ri,e⟩:=I.hok D _ hD;have hl:=ri.length;refine append_at (hsz:=by rw[bv];omega) e λh' sb ho'=>?_;refine h { s with heap:=h' } (I.write (t':=s.toks) (by rw[hD];trivial) (.inl rfl) (λb u hb q=>(sb.2 b hb).trans q) ⟨_,ho'⟩ ⟨by rw[br];exact hz,Aa++[v],n+1,ri.append (.cons r .nil),?_⟩);rw[ho'];simp
def PTs (X:Cx) (ifs:List Expr) (t:TT):Prop:=
 ∀(z7:List (ag×Obj)) (s:aj) (σ:St) (H:Hp) (Q:Bool->Hp->Prop),Inv X z7 σ H s->t σ H Q->
  bf (bi X.prog X.w) X.A (forIn ifs true λc r=>if r=true then do let ok←wG c X.env (eval c X.env);pure (sA ok) else pure (sA r)) (TP X z7 σ Q) X.xe s
def qW:TT:=λ_ H Q=>Q true H
theorem O3:PTs X [] qW:=λ_ _ _ H _ I h=>wpAny_tests_nil ⟨H,I,h⟩
end
theorem WI {α:Type} {t:Sem α} {Q Q':α->aj->Prop} {M:w9} {A:cz} {E:ah->aj->Prop} {s:aj} (h:bf M A t Q (λ_ _=>False) s) (hQ:∀a s,Q a s->Q' a s):bf M A t Q' E s:=gr h hQ λ_ _ z=>ez z
theorem O4 {prog:bb} {w:bw} {A:cz} {R:wL->aj->Prop} {s:aj} {elt target iter:Expr} {ifs:List Expr} {scope:ji} {pos:Pos} {it acc:ah} {env:Env} (I:Nat->aj->Prop)
 (turn:∀n s,I n s->bf (bi prog w) A (vY it) (λr s₁=>match r with
  |none=>R (.ok .next) s₁
  |some v=>bf (bi prog w) A (qk target it v) (λ_ s₁'=>bf (bi prog w) A (wI target env v) (λ_ s₂=>
   bf (bi prog w) A (forIn ifs true λc r=>if r=true then do let ok←wG c env (eval c env);pure (sA ok) else pure (sA r)) (λok s₃=>
    if ok=true then bf (bi prog w) A (eval elt env) (λx s₄=>
     bf (bi prog w) A (call (.builtin "list.append") [acc,x]) (λ_ s₅=>∃m,m<n/\I m s₅) (vF (bi prog w) A env λe s'=>R (.error e) s') s₄) (vF (bi prog w) A env λe s'=>R (.error e) s') s₃
    else∃m,m<n/\I m s₃) (vF (bi prog w) A env λe s'=>R (.error e) s') s₂) (vF (bi prog w) A env λe s'=>R (.error e) s') s₁') (vF (bi prog w) A env λe s'=>R (.error e) s') s₁) (vF (bi prog w) A env λe s'=>R (.error e) s') s)
 (n:Nat) (h:I n s):
 mn (bi prog w) A (.compLoop (.ListComp elt [⟨target,iter,ifs,0⟩] scope pos) 0 it acc env) R s:=by
 refine codeAny_loop rfl I (λn s hI=>?_) n h;show bf _ A ((compTurn (.ListComp elt [⟨target,iter,ifs,0⟩] scope pos) 0 it acc env).onRaise (λx=>do ui x env;theTreesLotGoes x)) _ _ s;refine wpAny_noted ?_;rw[compTurn_list];refine ae (jp (ae (gr (turn n s hI) (λr s₁ h₁=>?_) λ_ _ h'=>h')));cases r with
 |none=>exact ao h₁
 |some v=>
  refine ae (gr h₁ (λ_ s₁' h₁'=>?_) λ_ _ h'=>h');refine ae (gr h₁' (λ_ s₂ h₂=>ae (gr h₂ (λok s₃ h₃=>?_) λ_ _ h'=>h')) λ_ _ h'=>h');cases ok with
  |false=>exact ao ⟨rfl,h₃⟩
  |true=>
   exact ae (ae (gr h₃ (λx s₄ h₄=>ae (gr h₄ (λ_ s₅ h₅=>ao (ao ⟨rfl,h₅⟩)) λ_ _ h'=>h')) λ_ _ h'=>h'))
section
variable {X:Cx}
def tLc (wi:TI) (g:TG) (tt:TT) (te:TE) (vs:List Nat):TE:=λσ H Q=>wi σ H λJ H1=>∀D,H1 D=none->∃W:Nat->Nat->Hp->Prop,(∃m,W 0 m (upd H1 D (.lst [])))/\∀i m H,W i m H->
 (J.stop i H/\Q (.ref D) H)\/(J.go i H/\∃Nx:Hp->Prop,(∀H',Nx H'->∃m',m'<m/\W (i+1) m' H')/\∀x H',J.yld i H x H'->g x (F9 σ vs) H' λσ2 H2=>F9 σ2 vs=F9 σ vs/\tt σ2 H2 λb H3=>
  if b=true then te σ2 H3 λy H4=>∃acc,H4 D=some (.lst acc)/\acc.length<sizeLine/\Nx (upd H4 D (.lst (acc++[y]))) else Nx H3)
theorem UK {z7:List (ag×Obj)} {s:aj} {σ:St} {H:Hp} {Q:VK} {elt tg iter:Expr} {ifs:List Expr} {scope:ji} {own:List (Str×Nat)} {pos pos':Pos} {wi:TI} {g:TG} {tt:TT} {te:TE} {use:Option (ah->Sem Unit)} {Qf:ah->aj->Prop}
 (hc:X.calm=true) (hN:X.N.Nodup) (I:Inv X z7 σ H s) (hi:PI X tg iter wi) (ok:BlkOk X.N X.env.scope scope own)
 (hg:∀(s:aj) (H:Hp) (C:ag) (cl:List (Str×ag)) (fp:List ag),PG (X.blk s H scope (jl scope cl C X.env) fp) tg g) (ht:∀(s:aj) (H:Hp) (C:ag) (cl:List (Str×ag)) (fp:List ag),PTs (X.blk s H scope (jl scope cl C X.env) fp) ifs tt)
 (he:∀(s:aj) (H:Hp) (C:ag) (cl:List (Str×ag)) (fp:List ag),PE (X.blk s H scope (jl scope cl C X.env) fp) elt te) (hs:∀x,lj iter X.env x=pure x)
 (h:tLc wi g tt te (own.map (·.2)) σ H Q)
 (hRR:∀D C s' m H',Inv X z7 σ H' s'->Q (.ref D) H'->s'.heap.Ns C m->K1 X z7 H' C->compPost (bi X.prog X.w) X.A X.xe use Qf (.ref D) C (.ok .next) s'):
 bf (bi X.prog X.w) X.A (comprehension (.ListComp elt [⟨tg,iter,ifs,0⟩] scope pos) scope X.env pos' (newList []) false (eval iter X.env) use) Qf X.xe s:=by
 have hfree:∀y∈scope.names,y.2= .free->∃c,X.env.cells.lookup y.1=some c:=λy hy e=>by
  rcases ok.free y hy e with k|k
  ·exact I.ok.has _ (.inl k)
  ·exact I.ok.has _ (.inr k)
 refine wpAny_comprehension_free (use:=use) rfl hs (L9 hfree) ok.kind (λy hy e=>by rw[ok.uniq y hy,e])
  (thn (hi z7 s σ H _ I h) λxv s1 hx=>thn hx λitv s2 h2=>?_)
 obtain⟨it,fp,tn,J,H2,e,I2,T,st2,f2,q⟩:=h2;subst e;refine gc (QO ?_) (by show 0<=sizeLine;decide);generalize hD:s2.heap.objs.size=D;have hDn:H2 D=none:=I2.hok.fresh (rh hD);obtain⟨W,⟨m0,w0⟩,turn⟩:=q D hDn;generalize hs3:({ s2 with heap:=s2.heap.push { cls:=.type "list",data:=.seq ([]:List ah).toArray } }:aj)=s3;have I3:Inv X z7 σ (upd H2 D (.lst [])) s3:=by
  rw[←hs3];refine I2.laid (t':=s2.toks) (λb o e=>ak _ e) (rh hD) ⟨dm _,[],0,.nil,?_⟩;rw[←hD];exact bn _ rfl
 have h3:s3.heap=s2.heap.push { cls:=.type "list",data:=.seq ([]:List ah).toArray }:=by rw[←hs3]
 have sz:∀b∈fp,b<s2.heap.objs.size:=λb hb=>by
  obtain⟨o,e,_⟩:=T.obj _ _ st2 b hb;exact bh e
 have f3:∀b∈fp,K1 X z7 (upd H2 D (.lst [])) b/\b<s3.heap.objs.size:=λb hb=>by
  have Ad:=sz b hb;refine⟨⟨?_,(f2 b hb).2⟩,by rw[h3,fh];exact oo Ad⟩;rw[AE (by rw[←hD];exact cg Ad)];exact(f2 b hb).1
 have st3:tn 0 s3.heap:=T.keep _ _ _ st2 λb _ o e=>by rw[h3];exact ak _ e
 have I4:=QP I3 ok hN f3;have pg:=hg s3 (upd H2 D (.lst [])) s3.heap.objs.size (il (s3.heap.objs.size+1) scope.names (BA X.env.cells scope.names [])) fp;have pt:=ht s3 (upd H2 D (.lst [])) s3.heap.objs.size (il (s3.heap.objs.size+1) scope.names (BA X.env.cells scope.names [])) fp;have pe:=he s3 (upd H2 D (.lst [])) s3.heap.objs.size (il (s3.heap.objs.size+1) scope.names (BA X.env.cells scope.names [])) fp;show mn _ _ (.compStart (.ListComp elt [⟨tg,iter,ifs,0⟩] scope pos) 0 (.ref it) (.ref D) (jl scope (il (s3.heap.objs.size+1) scope.names (BA X.env.cells scope.names [])) s3.heap.objs.size X.env)) (compPost (bi X.prog X.w) X.A X.xe use Qf (.ref D) s3.heap.objs.size) { s3 with heap:=rR (s3.heap.push { cls:=.type "dict",data:=.dict #[] }) scope.names };have nfp:∀b∈fp,(upd H2 D (.lst [])) b=none:=λb hb=>(f3 b hb).1.1;generalize hce:jl scope (il (s3.heap.objs.size+1) scope.names (BA X.env.cells scope.names [])) s3.heap.objs.size X.env=ce at I4 pg pt pe ⊢;have cL:ce.locals=s3.heap.objs.size:=by subst hce;rfl
 generalize hH3:upd H2 D (.lst [])=H3 at I3 I4 pg pt pe w0 nfp f3;generalize hs4:({ s3 with heap:=rR (s3.heap.push { cls:=.type "dict",data:=.dict #[] }) scope.names }:aj)=s4 at I4 ⊢;have st4:tn 0 s4.heap:=T.keep _ _ _ st3 λb _ o e=>by rw[←hs4];exact ss _ _ _ _ (ak _ e)
 have stat:∀{σ':St} {H':Hp} {s':aj},Inv (X.blk s3 H3 scope ce fp) [] σ' H' s'->(∀b∈fp,H' b=none)->∀b∈fp,K1 (X.blk s3 H3 scope ce fp) [] H' b:=λ{σ' H' s'} I' hn b hb=>
  ⟨hn b hb,(I'.ok.exf b hb).1,I'.ok.exfs b hb,.inl hb,λx c e=>(I'.ok.exf b hb).2 x c e,λp hp=>absurd (show p∈([]:List (ag×Obj))++[] from hp) (by simp)⟩
 have loop:mn (bi X.prog X.w) X.A (.compLoop (.ListComp elt [⟨tg,iter,ifs,0⟩] scope pos) 0 (.ref it) (.ref D) ce) (compPost (bi X.prog X.w) X.A X.xe use Qf (.ref D) s3.heap.objs.size) s4:=by
  refine O4 (λn s'=>∃i H',Inv (X.blk s3 H3 scope ce fp) [] (F9 σ (own.map (·.2))) H' s'/\tn i s'.heap/\(∀b∈fp,H' b=none)/\W i n H') ?_ m0 ⟨0,H3,I4,st4,nfp,w0⟩;rintro n s5 ⟨i,H5,I5,st5,n5,w5⟩;rcases turn i n H5 w5 with⟨stop,qq⟩|⟨go,Nx,hNx,step⟩
  ·have td:=T.done (X.blk s3 H3 scope ce fp) rfl rfl rfl hc i [] s5 _ H5 (λ_ _=>False) I5 (stat I5 n5) st5 stop;refine WI td λr s6 ⟨hr,I6⟩=>?_;subst hr;have I7:Inv X z7 σ H5 s6:=I3.call' (ch:=fp) I6.os I6.base I6.hok I6.bare λb hb=>⟨(f3 b hb).1.2.2.2.1,(f3 b hb).1.2.1,(f3 b hb).1.2.2.2.2.1,(f3 b hb).1.2.2.2.2.2⟩
   have nC:H5 s3.heap.objs.size=none:=by
    have z:H5 ce.locals=none:=I6.free;rw[cL] at z;exact z
   obtain⟨m,hn,_⟩:=I6.loc;have hn:s6.heap.Ns ce.locals m:=hn;rw[cL] at hn;exact hRR D s3.heap.objs.size s6 m H5 I7 qq hn (I3.fpOk (aw _) nC)
  ·have ti:=T.item (X.blk s3 H3 scope ce fp) rfl rfl rfl hc i [] s5 _ H5 (λ_ _=>False) I5 (stat I5 n5) st5 go;refine WI ti λr s6 ⟨u,hr,h6⟩=>?_;subst hr;refine WI h6 λ_ s7 ⟨x,H7,I7,r7,y7,st7,n7⟩=>?_;have I7':=I7.pinned (stat I7 n7) (T.obj _ _ st7);refine WI (pg _ s7 _ H7 x u _ I7' r7 (step x H7 y7)) λ_ s8 ⟨σ8,H8,I8,hw8,q8⟩=>?_;refine WI (pt _ s8 σ8 H8 _ I8 q8) λb s9 ⟨H9,I9,q9⟩=>?_;have fin:∀{s':aj} {H':Hp},Inv (X.blk s3 H3 scope ce fp) ([]++LU fp s7.heap) σ8 H' s'->Nx H'->∃m,m<n/\∃i H',Inv (X.blk s3 H3 scope ce fp) [] (F9 σ (own.map (·.2))) H' s'/\tn i s'.heap/\(∀b∈fp,H' b=none)/\W i m H':=λ{s' H'} I' nx=>by
    obtain⟨m',hm,w'⟩:=hNx H' nx;have pin':∀b∈fp,∀o,s7.heap.get? b=some o->s'.heap.get? b=some o/\H' b=none:=λb hb o e=>
     let z:=I'.pin (b,o) (dj _ (dj _ (ID hb e)))
     ⟨z.1,z.2.1⟩
    have hl:(F9 σ (own.map (·.2))).length=σ8.length:=by rw[←hw8,GU]
    refine⟨m',hm,i+1,H',(I'.unpinned (z7:=[])).weak hl (λj v e=>?_),T.keep _ _ _ st7 λb hb o e=>(pin' b hb o e).1,λb hb=>?_,w'⟩
    ·rw[←hw8] at e;exact(JW e).1
    ·obtain⟨o,e,_⟩:=T.obj _ _ st7 b hb;exact(pin' b hb o e).2
   cases b with
   |false=>
    simp only[fq,if_false] at q9 ⊢;exact fin I9 q9
   |true=>
    simp only[if_true] at q9 ⊢;refine WI (pe _ s9 σ8 H9 _ I9 q9) λz s10 ⟨yv,H10,I10,r10,acc,hD10,hz10,nx⟩=>?_;exact gE (X:=X.blk s3 H3 scope ce fp) I10 hD10 hz10 r10 λs11 I11=>fin I11 nx
 exact codeAny_compStart_list loop (T.self X.A 0 _ _ _ st4 loop)
theorem k8 {elt tg iter:Expr} {ifs:List Expr} {scope:ji} {own:List (Str×Nat)} {pos:Pos} {wi:TI} {g:TG} {tt:TT} {te:TE} (hc:X.calm=true) (hN:X.N.Nodup) (hi:PI X tg iter wi) (ok:BlkOk X.N X.env.scope scope own)
 (hg:∀(s:aj) (H:Hp) (C:ag) (cl:List (Str×ag)) (fp:List ag),PG (X.blk s H scope (jl scope cl C X.env) fp) tg g) (ht:∀(s:aj) (H:Hp) (C:ag) (cl:List (Str×ag)) (fp:List ag),PTs (X.blk s H scope (jl scope cl C X.env) fp) ifs tt)
 (he:∀(s:aj) (H:Hp) (C:ag) (cl:List (Str×ag)) (fp:List ag),PE (X.blk s H scope (jl scope cl C X.env) fp) elt te) (hs:∀x,lj iter X.env x=pure x:=by intro _;rfl):
 PE X (.ListComp elt [⟨tg,iter,ifs,0⟩] scope pos) (tLc wi g tt te (own.map (·.2))):=by
 intro z7 s σ H Q I h;rw[eval_ListComp];refine UK hc hN I hi ok hg ht he hs h λD C s' m H' I' q hn f=>⟨m,hn,λh'' sb=>?_⟩
 obtain⟨f0,f1,f2,f3,f4,f5⟩:=f;exact⟨.ref D,H',I'.turned (t':=s'.toks) (λb o hb e=>(sb.2 b hb).trans e) f0 f1 f3 f4 f5,rfl,q⟩
theorem YC {i:Nat} {y:Str} {py:Pos} {elt tg iter:Expr} {ifs:List Expr} {scope:ji} {own:List (Str×Nat)} {pos spos:Pos} {wi:TI} {g:TG} {tt:TT} {te:TE} (hc:X.calm=true) (hN:X.N.Nodup) (hy:X.N[i]? =some y) (hyl:X.env.scope.names.lookup y=some .local)
 (hsw:pf (.ListComp elt [⟨tg,iter,ifs,0⟩] scope pos) (some (.Name y py)) spos.line X.env=pure true) (hi:PI X tg iter wi) (ok:BlkOk X.N X.env.scope scope own)
 (hg:∀(s:aj) (H:Hp) (C:ag) (cl:List (Str×ag)) (fp:List ag),PG (X.blk s H scope (jl scope cl C X.env) fp) tg g) (ht:∀(s:aj) (H:Hp) (C:ag) (cl:List (Str×ag)) (fp:List ag),PTs (X.blk s H scope (jl scope cl C X.env) fp) ifs tt)
 (he:∀(s:aj) (H:Hp) (C:ag) (cl:List (Str×ag)) (fp:List ag),PE (X.blk s H scope (jl scope cl C X.env) fp) elt te) (hs:∀x,lj iter X.env x=pure x:=by intro _;rfl):
 PS X (.Assign [.Name y py] (.ListComp elt [⟨tg,iter,ifs,0⟩] scope pos) spos) (XR (tLc wi g tt te (own.map (·.2))) (LS i)):=by
 intro z7 s σ H D I h;rw[exec_Assign_Name_used _ _ _ _ hsw];refine ae (jp (ae ?_));show bf _ X.A (do let _←comprehension (.ListComp elt [⟨tg,iter,ifs,0⟩] scope pos) scope X.env (firstIterPos [⟨tg,iter,ifs,0⟩] pos) (newList []) false (eval iter X.env) (some (wI (.Name y py) X.env))) _ _ s;have h:tLc wi g tt te (own.map (·.2)) σ H (λx H1=>LS i x σ H1 D.nx):=h;refine ae (thn (UK (Qf:=λ_ s'=>SP X z7 D .next s') hc hN I hi ok hg ht he hs h λL C s' m H' I' q hn f=>?_) λ_ s' hq=>ao (ao hq));show bf _ _ (wI (.Name y py) X.env (.ref L)) _ _ _;refine we (NU (v:=V.ref L) I' hN hy (.inl hyl) rfl (λs2 I2 ⟨a,sb,ha⟩=>?_) (.inr hyl));obtain⟨f0,f1,f2,f3,f4,f5⟩:=f;have haC:C≠a:=by
  rcases ha with z|z
  ·rw[z];exact f1
  ·exact λe=>f4 y a z e.symm
 refine⟨m,hn.sameBut sb haC,λh3 sb3=>?_⟩;exact⟨_,H',I2.turned (t':=s2.toks) (λb o hb e=>(sb3.2 b hb).trans e) f0 f1 f3 f4 f5,q⟩
end
section
variable {κ:Type} [DecidableEq κ]
def EQ (Ab:List (κ×V)) (k:κ):Option V:=(Ab.find? λkv=>decide (kv.1=k)).map (·.2)
def dX (Ab:List (κ×V)) (k:κ):List (κ×V):=Ab.filter λkv=>decide (kv.1≠k)
theorem F3 {p:κ×V} {r:List (κ×V)} {k:κ} (e:p.1=k):EQ (p::r) k=some p.2:=by simp[EQ,ny,e]
theorem EE {p:κ×V} {r:List (κ×V)} {k:κ} (e:¬p.1=k):EQ (p::r) k=EQ r k:=by simp[EQ,ny,e]
theorem JX (k j:κ) (y:V):∀Ab:List (κ×V),EQ Ab k=none->EQ (Ab++[(k,y)]) j=if j=k then some y else EQ Ab j
 |[],_=>by
  by_cases e:k=j
  ·rw[Ae e.symm];exact F3 (p:=(k,y)) e
  ·rw[Af (λz=>e z.symm)];exact EE (p:=(k,y)) e
 |p::r,hn=>by
  rw[uj];have hk:¬p.1=k:=λz=>by rw[F3 z] at hn;cases hn
  rw[EE hk] at hn;have ih:=JX k j y r hn;by_cases e:p.1=j
  ·rw[F3 e,F3 e,Af (λz=>hk (e.trans z))]
  ·rw[EE e,EE e,ih]
theorem RelO.isSome_eq {o:Option V} {u:Option ah} (r:RelO o u):o.isSome=u.isSome:=by
 cases o with
 |none=>cases u with
  |none=>rfl
  |some _=>exact(show False from r).elim
 |some _=>cases u with
  |none=>exact(show False from r).elim
  |some _=>rfl
theorem RelO.getD {o:Option V} {u:Option ah} {d:V} {d':ah} (r:RelO o u) (rd:RelV d d'):RelV (o.getD d) (u.getD d'):=by
 cases o with
 |none=>cases u with
  |none=>exact rd
  |some _=>exact(show False from r).elim
 |some _=>cases u with
  |none=>exact(show False from r).elim
  |some _=>exact r
theorem KV.drop {Ab:List (κ×V)} {vs:List (κ×ah)} (r:KV Ab vs) (k:κ):KV (dX Ab k) (without vs k):=by
 unfold KV at r ⊢;unfold dX without;induction r with
 |nil=>exact .nil
 |@cons p q ps qs h t ih=>
  obtain⟨h1,h2⟩:=h;rw[wO,wO];by_cases e:p.1=k
  ·have a:¬decide (p.1≠k)=true:=by simp[e]
   have b:¬decide (q.1≠k)=true:=by simp[h1.symm.trans e]
   rw[Af a,Af b];exact ih
  ·have e':¬q.1=k:=λz=>e (h1.trans z);have a:decide (p.1≠k)=true:=by simp[e]
   have b:decide (q.1≠k)=true:=by simp[e']
   rw[Ae a,Ae b];exact .cons ⟨h1,h2⟩ ih
theorem KV.keys {Ab:List (κ×V)} {vs:List (κ×ah)} (r:KV Ab vs):Ab.map (·.1)=vs.map (·.1):=by
 unfold KV at r;induction r with
 |nil=>rfl
 |cons h t ih=>rw[fi,fi,ih,h.1]
theorem KV.length {Ab:List (κ×V)} {vs:List (κ×ah)} (r:KV Ab vs):Ab.length=vs.length:=cj r
end
theorem k9 {P:bb} {w:bw} {k:Key} {u:ah} (r:RelV (kV k) u):(C4 P w).is k u=true:=by
 cases k with
 |inl i=>obtain⟨t,e⟩:=(show∃t,u=ud i t from r);subst e;exact QD P w i t
 |inr x=>obtain⟨t,e⟩:=(show∃t,u=wE x t from r);subst e;exact QE P w x t
theorem N3 {P:bb} {w:bw}:∀{ks:List Key} {us:List ah},Vals (ks.map kV) us->ItemsAre (C4 P w) ks us
 |[],_,r=>by rw[wo] at r;cases r;exact .nil
 |k::ks,_,r=>by
  rw[fi] at r;cases r with
  |cons h t=>exact .cons (k9 h) (N3 t)
abbrev KT (H:Hp):List (List Key×V)->List (List Key×ag×ah)->Prop:=cf λp q=>p.1=q.1/\H q.2.1=some (.tup (p.1.map kV))/\RelV p.2 q.2.2
theorem KT.keeps {H H':Hp} {Ab:List (List Key×V)} {xs:List (List Key×ag×ah)} (r:KT H Ab xs) (ht:∀b ys,H b=some (.tup ys)->H' b=some (.tup ys)):KT H' Ab xs:=
 cf.mapP r λ_ _ z=>⟨z.1,ht _ _ z.2.1,z.2.2⟩
section
variable {X:Cx} {z7:List (ag×Obj)} {σ:St} {H:Hp} {s:aj} {a:ag} {y v:V} {u r:ah} {o:Option V} {A:cz} {E:ah->aj->Prop}
theorem Inv.big (I:Inv X z7 σ H s):qr<s.heap.objs.size:=by
 have h:dq<s.heap.objs.size:=(I.mod.glob.keeps I.bk).lt;exact nj (by decide) h
theorem bW {h':cq} {t':Nat} {ob:HO} (I:Inv X z7 σ H s) (mu:Mut (H a)) (hs:pd a s.heap h') (he:∃q,h'.get? a=some q) (new:ObjOk X.prog X.w (upd H a ob) h' a ob):
 Inv X z7 σ (upd H a ob) { s with heap:=h',toks:=t' }:=
 I.write (x:=a) (e:=a) mu (.inl rfl) (λb q hb z=>(hs.2 b hb).trans z) he new
end
def lA (i:Expr):Prop:=∀ov iv,vi i false ov iv=operate [ov,iv] (uH ov iv)
theorem bX {prog:bb} {w:bw} {A:cz} {E:ah->aj->Prop} {s:aj} {env:Env} {value slice:Expr} {pos:Pos} {T id:String} {Q:ah->aj->Prop}
 (hl:uI (.type T) "__getitem__"=pure (some (.builtin id))) (hs:lA slice)
 (h:bf (bi prog w) A (eval value env) (λo s₁=>bf (bi prog w) A (eval slice env) (λi s₂=>s₂.TypeIs o T/\bf (bi prog w) A (uH o i) Q E s₂) E s₁) E s):
 bf (bi prog w) A (eval (.Subscript value slice pos) env) Q E s:=by
 refine xL (gr h (λo s₁ h₁=>gr h₁ (λi s₂ h₂=>?_) λ_ _ x=>x) λ_ _ x=>x);obtain⟨hT,h₂⟩:=h₂;unfold vQ;refine ae ?_;rw[getitemInPython_of_ne hT.not_modules];refine ae (uU hT hl ?_);have fin:bf (bi prog w) A (vi slice false o i) (λr s₃=>bf (bi prog w) A (letTemporaryGo value o r >>= λ_=>pure r) Q E s₃) E s₂:=by
  rw[hs o i];exact wpAny_operating (gr h₂ (λr s₃ h₃=>ae (wpAny_letTemporaryGo (ao h₃))) λ_ _ x=>x)
 first
  |exact ao (ae fin)
  |exact ae (ao (ae fin))
  |exact ae fin
structure M1 (X:Cx) (o:Expr) (m:Str) (apos:Pos) (e:Expr) (cpos:Pos):Prop where
 base:jq o m X.env (eval o X.env)=eval o X.env
 few:((ig cpos (be [e] X.env)).all (λx=>!x.1)&&(jr cpos (gq [] X.env)).all (λx=>x.1.isSome)
  &&decide (([e]:List Expr).length+([]:List uG).length+(if([]:List uG).isEmpty then 0 else 1)<30))=true
 line:(apos.endLine==cpos.line)=true
 trees:ig cpos (be [e] X.env)=[(false,eval e X.env)]
structure M2 (X:Cx) (o:Expr) (m:Str) (apos:Pos) (e f:Expr) (cpos:Pos):Prop where
 base:jq o m X.env (eval o X.env)=eval o X.env
 few:((ig cpos (be [e,f] X.env)).all (λx=>!x.1)&&(jr cpos (gq [] X.env)).all (λx=>x.1.isSome)
  &&decide (([e,f]:List Expr).length+([]:List uG).length+(if([]:List uG).isEmpty then 0 else 1)<30))=true
 line:(apos.endLine==cpos.line)=true
 trees:ig cpos (be [e,f] X.env)=[(false,eval e X.env),(false,eval f X.env)]
theorem MA:jo "reversed"=some (.type "reversed"):=by decide +kernel
section
variable {X:Cx} {z7:List (ag×Obj)} {σ:St} {H:Hp} {s:aj} {h':cq}
theorem Inv.turnedNew {t':Nat} {ch:List ag} {T:ag} {ob:HO} (I:Inv X z7 σ H s) (k:∀b o,b∉ch->s.heap.get? b=some o->h'.get? b=some o) (hf:∀b∈ch,K1 X z7 H b) (hT:s.heap.objs.size<=T)
 (new:ObjOk X.prog X.w (upd H T ob) h' T ob):Inv X z7 σ (upd H T ob) { s with heap:=h',toks:=t' }:=by
 have hn:H T=none:=I.hok.fresh hT;have nit:∀b u,H b=some u->b∉ch:=λb u e z=>by
  have q:=(hf b z).1;rw[q] at e;cases e
 refine I.step (g':=s.gens) (d':=s.drawn) (ch:=ch) (λb hb=>⟨(hf b hb).2.2.2.1,(hf b hb).2.1,(hf b hb).2.2.2.2.1,(hf b hb).2.2.2.2.2⟩) (λb o _ _ hc e _=>k b o hc e) (λb o _ _ hc e _=>⟨o.slots,k b o hc e⟩)
  (λb o _ e n=>?_) (λb o hc e=>⟨o,k b o hc e⟩) (λb xs e=>?_) (λb o u e=>?_) (λb ps e=>⟨#[],?_⟩) (λm hm=>?_) (λb u e=>?_) I.bare
 ·rw[AE (cg (bu (bh e) hT))];exact n
 ·rw[AE (AG e hn)];exact e
 ·rw[AE (AG e hn)];exact e
 ·rw[AE (AG e hn),e];simp
 ·obtain⟨o,es,ep,ho,r⟩:=hm;exact⟨o,es,ep,k _ o (λz=>(hf _ z).2.1 rfl) ho,r⟩
 ·by_cases hb:b=T
  ·subst hb;rw[upd_same] at e;cases e;exact new
  ·rw[AE hb] at e;refine(I.hok b u e).stay (λc v hc q=>k c v ?_ q) (λc q=>by rw[AE (AG q hn)];exact q) λc xs q=>by rw[AE (AG q hn)];exact q
   rcases hc with z|z
   ·rw[z];exact nit b u e
   ·exact nit c _ z
end
section
variable {X:Cx}
theorem YD {tg:Expr} {z7:List (ag×Obj)} {σ:St} {H:Hp} {s:aj} {R:It->Hp->Prop} {J:It} {tn:Nat->cq->Prop} {tk:Nat} (I:Inv X z7 σ H s) (o:Obj)
 (T:Turn X.prog X.w X.K tg J [s.heap.objs.size] s.heap.objs.size tn) (st:tn 0 (s.heap.push o)) (q:R J H):PIE X z7 σ tg R (.ref s.heap.objs.size) { s with heap:=s.heap.push o,toks:=tk }:=by
 refine⟨s.heap.objs.size,[s.heap.objs.size],tn,J,H,rfl,I.kept λb ob e=>ak _ e,T,st,λb hb=>?_,q⟩;have e:b=s.heap.objs.size:=by simpa using hb
 subst e;exact I.fpOk (aw _) (I.hok.fresh (aw _))
end
def RgC (i j c:Int) (n:Nat):Prop:=c≠0/\c.natAbs<1073741824/\zD i j c=true/\ue i j c=n
def Its (x:Str):It:=⟨λi _=>i<x.cps.size,λi H v H'=>H'=H/\∃c,x.cps[i]? =some c/\v= .str ⟨#[c]⟩,λi _=>x.cps.size<=i⟩
theorem QQ {P:bb} {w:bw} {K:aa} {tg:Expr} (it:ag) (x:Str) (t:Tok) (ty:String) (hty:ty="str_ascii_iterator"\/ty="str_iterator"):
 Turn P w K tg (Its x) [it] it (λi h=>h.IsStrIter it ty x t i) where
 mem:=by simp
 obj:=λi h st b hb=>by
  have e:b=it:=by simpa using hb
  subst e;obtain⟨o,e,c,d⟩:=st;exact⟨o,e,λv z=>by rw[d] at z;cases z⟩
 keep:=λi h h' st k=>let ⟨o,ho,r⟩:=st;⟨o,k it (by simp) o ho,r⟩
 item:=by
  intro X hP hw hK hc i z7 s σ H E I hf st hg;subst hP hw hK;obtain⟨f0,f1,f2,f3,f4,f5⟩:=hf it (by simp);have W:Walks X.prog X.w X.A it [it] [it] x.cps.size (SignAt x) (λi h=>h.IsStrIter it ty x t i):=by
   rcases hty with e|e
   ·rw[e];exact Walks.strAscii (I.ok.hd hc) it x t
   ·rw[e];exact Walks.strWide (I.ok.hd hc) it x t
  have hno:["enumerate","zip","dict_itemiterator","dict_reverseitemiterator","odict_iterator","itertools.zip_longest","itertools.pairwise"].contains ty=false:=by
   rcases hty with e|e
   ·rw[e];decide
   ·rw[e];decide
  refine W.item i s _ _ hg st λv h' tk hv st' kk=>?_;obtain⟨c,u,hcx,rfl⟩:=hv;have I1:Inv X z7 σ H { s with heap:=h',toks:=tk }:=I.turned (λb o hb e=>kk b o (by simpa using hb) e) f0 f1 f3 f4 f5;obtain⟨oi,e,cc,dd⟩:=id st';exact⟨_,rfl,T9 (s:={ s with heap:=h',toks:=tk }) e cc dd hno ⟨.str ⟨#[c]⟩,H,I1,⟨u,rfl⟩,⟨rfl,c,hcx,rfl⟩,st',λb hb=>(hf b hb).1⟩⟩
 done:=by
  intro X hP hw hK hc i z7 s σ H E I hf st hg;subst hP hw hK;obtain⟨f0,f1,f2,f3,f4,f5⟩:=hf it (by simp);have hx:x.cps[i]? =none:=rq hg;rcases hty with e|e
  ·rw[e] at st;exact wpAny_pyNext_ascii_end (I.ok.hd hc) st hx λh' eb=>⟨rfl,I.turned (t':=s.toks) (λb o hb e=>eb b o hb e) f0 f1 f3 f4 f5⟩
  ·rw[e] at st;exact wpAny_pyNext_wide_end (I.ok.hd hc) st hx λh' eb=>⟨rfl,I.turned (t':=s.toks) (λb o hb e=>eb b o hb e) f0 f1 f3 f4 f5⟩
 self:=λA i s Q E st h=>by
  rcases hty with e|e
  ·rw[e] at st;exact wpAny_pyIter_striter_ascii st h
  ·rw[e] at st;exact wpAny_pyIter_striter_wide st h
def qX (te:TE):TI:=λσ H R=>te σ H λv H1=>∃x,v= .str x/\R (Its x) H1
theorem gF {X:Cx} {tg e:Expr} {te:TE} (he:PE X e te):PI X tg e (qX te):=by
 intro z7 s σ H R I h;refine thn (he z7 s σ H _ I h) λv s1 ⟨y,H1,I1,r1,x,ex,q⟩=>?_;subst ex;obtain⟨t,rfl⟩:=r1;cases ha:x.cps.all (·<128)
 ·exact wpAny_pyIter_wide ha (YD (tk:=s1.toks) I1 _ (QQ _ x t "str_iterator" (.inr rfl)) ⟨_,bn _ rfl,rfl,rfl⟩ q)
 ·exact wpAny_pyIter_ascii ha (YD (tk:=s1.toks) I1 _ (QQ _ x t "str_ascii_iterator" (.inl rfl)) ⟨_,bn _ rfl,rfl,rfl⟩ q)
def Ite (K:aa) (a:ag):It:=
 ⟨λi H=>Ex2 λ(xs:List V) (x:V)=>SqL K H a xs/\xs[i]? =some x,λi H v H'=>Ex2 λT x=>v= .ref T/\H T=none/\H'=upd H T (.tup [.int (i:Nat),x])/\∀xs,SqL K H a xs->xs[i]? =some x,λi H=>∃xs:List V,SqL K H a xs/\xs.length<=i⟩
theorem WJ {P:bb} {w:bw} {K:aa} {elts:List Expr} {kk:Nat} {tpos:Pos} (a e it:ag):
 Turn P w K (.Tuple elts kk tpos) (Ite K a) [e,it] e (λi h=>(∃old,v5 h e it ((i:Nat):Int) old)/\h.IsListIter it a i/\e≠it) where
 mem:=by simp
 obj:=λi h st b hb=>by
  obtain⟨⟨old,he⟩,⟨o,ho,hc,hd⟩,_⟩:=st;have e':b=e\/b=it:=by simpa using hb
  rcases e' with z|z
  ·rw[z];exact⟨_,he,λv q=>nomatch q⟩
  ·rw[z];exact⟨o,ho,λv q=>by rw[hd] at q;cases q⟩
 keep:=λi h h' st k=>let ⟨⟨old,he⟩,hi,hne⟩:=st;⟨⟨old,k e (by simp) _ he⟩,hi.at λo q=>k it (by simp) o q,hne⟩
 item:=by
  intro X hP hw hK hc i z7 s σ H E I hf st hg;subst hP hw hK;obtain⟨⟨old,he⟩,hit,hne⟩:=st;obtain⟨xs,x,hq,hx⟩:=hg;obtain⟨Aa,rv,p,hz⟩:=I.list hq;obtain⟨u,hu,ru⟩:=rv.get hx;have hel:e<s.heap.objs.size:=bh he;have hil:it<s.heap.objs.size:=by obtain⟨_,q,_⟩:=hit;exact bh q
  refine wpAny_pyNext_enum_item he hit p.isList (x:=u) (by simpa using hu) hne λh' ho hit' hT hsz hk=>?_;refine⟨_,rfl,tz (s:={ s with heap:=h',toks:=s.toks+1 }) ho λh'' he' sb=>?_⟩;have hT2:h''.get? s.heap.objs.size=some { cls:=.type "tuple",data:=.seq #[.int i s.toks,u] }:=(sb.2 _ (ph hel)).trans hT;have new:ObjOk X.prog X.w (upd H s.heap.objs.size (.tup [.int (i:Nat),x])) h'' s.heap.objs.size (.tup [.int (i:Nat),x]):=
   ⟨by show 2<=sizeLine;decide,[.int i s.toks,u],.cons ⟨_,rfl⟩ (.cons ru .nil),⟨_,hT2,rfl,_,rfl⟩⟩
  have I1:Inv X z7 σ (upd H s.heap.objs.size (.tup [.int (i:Nat),x])) { s with heap:=h'',toks:=s.toks+1 }:=
   I.turnedNew (ch:=[e,it]) (λb ob hb q=>(sb.2 b (λz=>hb (by simp[z]))).trans (hk b ob (λz=>hb (by simp[z])) (λz=>hb (by simp[z])) q)) hf (aw _) new
  refine⟨.ref s.heap.objs.size,_,I1,rfl,⟨_,x,rfl,I.hok.fresh (aw _),rfl,λys hy=>by rw[I.list_inj hy hq];exact hx⟩,⟨⟨u,?_⟩,hit'.at λo q=>(sb.2 it (cr hne)).trans q,hne⟩,λb hb=>?_⟩
  ·have e1:((i+1:Nat):Int)=(i:Int)+1:=by omega
   rw[e1];exact he'
  ·have hb':b<s.heap.objs.size:=by
    have e':b=e\/b=it:=by simpa using hb
    rcases e' with z|z
    ·rw[z];exact hel
    ·rw[z];exact hil
   rw[AE (cg hb')];exact(hf b hb).1
 done:=by
  intro X hP hw hK hc i z7 s σ H E I hf st hg;subst hP hw hK;obtain⟨⟨old,he⟩,hit,hne⟩:=st;obtain⟨xs,hq,hx⟩:=hg;obtain⟨Aa,rv,p,hz⟩:=I.list hq;obtain⟨f0,f1,f2,f3,f4,f5⟩:=hf it (by simp);have hl:=rv.length;exact wpAny_pyNext_enum_end (I.ok.hd hc) he hit p.isList (by simp;omega) λh' eb=>⟨rfl,I.turned (t':=s.toks) (λb o hb q=>eb b o hb q) f0 f1 f3 f4 f5⟩
 self:=λA i s Q E st h=>let ⟨⟨_,he⟩,_⟩:=st;lp he h
def lB (K:aa) (ta:TA):TI:=λσ H R=>ta σ H λvs H1=>Ex2 λa xs=>vs=[.ref a]/\SqL K H1 a xs/\R (Ite K a) H1
theorem O5 {X:Cx} {e:Expr} {ta:TA} {p pos tpos:Pos} {elts:List Expr} {kk:Nat} (hg:Gl X "enumerate") (hm:X.mg "enumerate"=none) (ha:PA X [e] ta) (hs:be [e] X.env=[(false,eval e X.env)]:=by rfl):
 PI X (.Tuple elts kk tpos) (.Call (.Name "enumerate" p) [e] [] pos) (lB X.K ta):=by
 intro z7 s σ H R I h;refine Call_ (ET I hg hm vj (dk (thn (ha pos z7 s σ H _ I h) λus s1 ⟨vs,H1,I1,r1,q1⟩=>?_) hs rfl));obtain⟨a,xs,ex,hq,q⟩:=q1;subst ex;cases r1 with
 |cons r rr=>
  cases rr;cases r;obtain⟨Aa,rv,p',hz⟩:=I1.list hq;refine call_enumerate_list p'.isList λh' he hit hsz hk=>lp he ?_;have I2:Inv X z7 σ H1 { s1 with heap:=h' }:=I1.kept (t':=s1.toks) hk;refine⟨s1.heap.objs.size+1,[s1.heap.objs.size+1,s1.heap.objs.size],_,_,H1,rfl,I2,WJ a (s1.heap.objs.size+1) s1.heap.objs.size,⟨⟨.none,he⟩,hit,uk _⟩,λb hb=>?_,q⟩;have e':b=s1.heap.objs.size+1\/b=s1.heap.objs.size:=by simpa using hb
  have hle:s1.heap.objs.size<=b:=by
   rcases e' with z|z
   ·rw[z];exact ul _ _
   ·rw[z];exact aw _
  exact I1.fpOk hle (I1.hok.fresh hle)
end L2
section
end
section
namespace TL
open PySem PySem.Builtin PySem.Builtin.Str PySem.StrLaws
abbrev tl (x:Str):List Nat:=x.cps.toList
def pre (S l:List Nat):Bool:=l.take S.length==S
def par (S:List Nat):List Nat->List Nat->Option (List Nat×List Nat)
 |_,[]=>none
 |acc,c::r=>if pre S (c::r)=true then some (acc,(c::r).drop S.length) else par S (acc++[c]) r
theorem LE {S:List Nat} (hS:S≠[]):pre S []=false:=by
 cases S with
 |nil=>exact absurd rfl hS
 |cons s S=>rfl
end TL
end
namespace L2
open PySem PySem.Spec PyProof.Rows
def BG (s:dh) (j:Nat):dh:=match s with
 | .ClassDef _ _ _ body _ _ _ _ _ _ _=>body.getD j (.Pass ⟨0,0,0,0⟩)
 |_=>.Pass ⟨0,0,0,0⟩
def C7 (s:dh):sR:=match s with
 | .FunctionDef _ a _ _ _ _ _ _ _ _=>a
 |_=>{ posonlyargs:=[],args:=[],vararg:=none,kwonlyargs:=[],kw_defaults:=[],kwarg:=none,defaults:=[] }
def BS (s:dh):List dh:=match s with
 | .FunctionDef _ _ b _ _ _ _ _ _ _=>b
 |_=>[]
def AH (s:dh):ji:=match s with
 | .FunctionDef _ _ _ _ _ _ sc _ _ _=>sc
 |_=>{ kind:=.function,names:=[],isGenerator:=false,isCoroutine:=false }
structure Fun (K:aa) (x qual:Str) (st:dh) (f:ag) (fd:dw):Prop where
 ex:∃(oc:ah) (od:Option ag) (kV doc pm:ah) (an:Option ag) (Ac ct:ah) (osl:Array (Option ah)),
  fd=ie x qual (C7 st) (BS st) (AH st) .none kV doc pm an Ac ct/\K.lookup f=some ⟨oc,od,.func fd,osl⟩/\iz K Ac qual=true
 kp:du K (.ref f)=true
section
variable {P:bb} {w:bw} {K:aa} {mg:Str->Option ah} {base:cq}
theorem Fun.binds {x qual:Str} {st:dh} {f:ag} {fd:dw} {ps:List Str} (F:Fun K x qual st f fd)
 (h:∀(kV doc pm:ah) (an:Option ag) (Ac ct:ah) (us:List ah),us.length=ps.length->vh (ie x qual (C7 st) (BS st) (AH st) .none kV doc pm an Ac ct) ⟨us,[]⟩=pure (ps.zip us)):Binds K fd ps []:=by
 obtain⟨oc,od,kV,doc,pm,an,Ac,ct,osl,rfl,lk,hcd⟩:=F.ex;exact .all (h kV doc pm an Ac ct)
theorem MC {x qual:Str} {st:dh} {f:ag} {oc:ah} {od an:Option ag} {osl:Array (Option ah)} {kV doc pm Ac ct:ah} (l:K.lookup f=some ⟨oc,od,.func (ie x qual (C7 st) (BS st) (AH st) .none kV doc pm an Ac ct),osl⟩)
 (c:iz K Ac qual=true) (k:du K (.ref f)=true):Fun K x qual st f (ie x qual (C7 st) (BS st) (AH st) .none kV doc pm an Ac ct):=⟨⟨oc,od,kV,doc,pm,an,Ac,ct,osl,rfl,l,c⟩,k⟩
end
theorem MD {A:cz} {k:Nat} (hr:Room k A):A.units+1<wk:=tD (Nat.add_le_add_left (by decide:1<=64) _) hr.units
section
variable {X:Cx}
theorem pv (i:Nat) {x:Str} {pos:Pos} (hN:X.N[i]? =some x:=by rfl) (hv:Vis X.env.scope x:=by first|exact uK rfl|exact yU (uK rfl)|exact yU (yU rfl)) (hd:(x==("__debug__":Str))=false:=by decide)
 (hcd:(x==("__classdict__":Str))=false:=by decide):PE X (.Name x pos) (BT i):=fL hN hv hd hcd
end
theorem BM {A B:Prop} (h:B):if false=true then A else B:=by
 rw[Af bj];exact h
theorem BV {A B:Prop} (h:A):if true=true then A else B:=by
 rw[Ae rfl];exact h
theorem CF {c A B:Prop} [Decidable c] (h1:c->A) (h2:¬c->B):if c then A else B:=by
 by_cases h:c
 ·rw[Ae h];exact h1 h
 ·rw[Af h];exact h2 h
theorem lC {c A B:Prop} [Decidable c] (hc:c) (h:B):if(!decide c)=true then A else B:=by
 rw[decide_eq_true hc];exact BM h
def Same (H H':Hp):Prop:=∀b o,H b=some o->H' b=some o
theorem Same.refl (H:Hp):Same H H:=λ_ _ h=>h
theorem Same.trans {H H1 H2:Hp} (a:Same H H1) (b:Same H1 H2):Same H H2:=λc o h=>b c o (a c o h)
theorem Same.free {H H':Hp} (e:Same H H') {l:ag} (h:H' l=vk):H l=vk:=by
 cases q:H l with
 |none=>rfl
 |some o=>
  rw[e l o q] at h;cases h
theorem Same.seq {K:aa} {H H':Hp} {a:ag} {xs:List V} (e:Same H H') (h:SqL K H a xs):SqL K H' a xs:=by
 rcases h with(h|⟨o,h⟩)|h
 ·exact .inl (.inl (e _ _ h))
 ·exact .inl (.inr ⟨o,e _ _ h⟩)
 ·exact .inr h
theorem UL {xs:List V} {z:Int} {j:Nat} {v:V} (e:z=(j:Int)) (h:xs[j]? =some v):atI xs z=some v:=by
 rw[e];exact EO h
theorem lD {α:Type} {l:List α} (hN:l.Nodup) {i j:Nat} {x:α} (a:l[i]? =some x) (b:l[j]? =some x):i=j:=by
 obtain⟨h1,e1⟩:=au.mp a;obtain⟨h2,e2⟩:=au.mp b;exact(wF hN).mp (e1.trans e2.symm)
theorem Same.made {H H1:Hp} {x dx C:ag} (nx:H x=vk) (nd:H dx=vk) (k:∀b o,(upd (upd H dx (.own x)) x (.ins C dx [])) b=some o->b≠x->H1 b=some o):Same H H1:=λb o e=>
 k b o (by rw[AE (AG e nx),AE (AG e nd)];exact e) (AG e nx)
end L2
end
section
namespace L2
open PySem PySem.Spec PyProof.Rows
def cxV:Option ag->ah
 |none=>.none
 |some b=>.ref b
def XoO (a C:ag) (dict:Option ag) (tb:ah) (cx:Option ag):HO:=
 .ext λh=>∃vs:Array ah,h.get? a=some ⟨.ref C,dict,.fields vs,#[]⟩/\4<vs.size/\vs[1]? =some tb/\vs[2]? =some (cxV cx)
def XdO (d:ag) (fs:List (Str×V)):HO:=
 .ext λh=>∃mA,h.Ns1 d mA/\(∀f,RelO (fs.lookup f) (mA f))/\pc mA (fs.map (·.1))/\fs.length<=1000
def TbO (T:ag) (fl:ah):HO:=
 .ext λh=>Ex2 λ(o:Obj) (ts:Array ah)=>h.get? T=some o/\o.data= .fields ts/\ts[3]? =some fl
section
variable {P:bb} {w:bw} {H:Hp} {h:cq} {a C d T:ag} {dict cx:Option ag} {tb fl:ah} {fs:List (Str×V)}
theorem YE {vs:Array ah} (e:h.get? a=some ⟨.ref C,dict,.fields vs,#[]⟩) (hs:4<vs.size) (h1:vs[1]? =some tb) (h2:vs[2]? =some (cxV cx)):ObjOk P w H h a (XoO a C dict tb cx):=
 ⟨⟨vs,e,hs,h1,h2⟩,⟨_,e⟩,λg1 g2 ⟨us,q,r⟩ k=>⟨us,k _ q,r⟩⟩
theorem dY {mA:Str->Option ah} (n:h.Ns1 d mA) (r:∀f,RelO (fs.lookup f) (mA f)) (wi:pc mA (fs.map (·.1))) (z:fs.length<=1000):ObjOk P w H h d (XdO d fs):=by
 obtain⟨o,es,ep,e,q⟩:=id n;refine⟨⟨mA,n,r,wi,z⟩,⟨o,e⟩,λg1 g2 ⟨mB,⟨o1,es1,ep1,e1,q1⟩,y⟩ k=>⟨mB,⟨o1,es1,ep1,k _ e1,q1⟩,y⟩⟩
theorem dZ {o:Obj} {ts:Array ah} (e:h.get? T=some o) (hd:o.data= .fields ts) (h3:ts[3]? =some fl):ObjOk P w H h T (TbO T fl):=
 ⟨⟨o,ts,e,hd,h3⟩,⟨o,e⟩,λg1 g2 ⟨o1,ts1,e1,q1⟩ k=>⟨o1,ts1,k _ e1,q1⟩⟩
theorem CG (ok:HOk P w H h) (e:H a=some (XoO a C dict tb cx)):∃vs:Array ah,h.get? a=some ⟨.ref C,dict,.fields vs,#[]⟩/\4<vs.size/\vs[1]? =some tb/\vs[2]? =some (cxV cx):=
 (ok a _ e).1
theorem YF (ok:HOk P w H h) (e:H d=some (XdO d fs)):∃mA,h.Ns1 d mA/\(∀f,RelO (fs.lookup f) (mA f))/\pc mA (fs.map (·.1))/\fs.length<=1000:=
 (ok d _ e).1
theorem SE (ok:HOk P w H h) (e:H T=some (TbO T fl)):Ex2 λ(o:Obj) (ts:Array ah)=>h.get? T=some o/\o.data= .fields ts/\ts[3]? =some fl:=
 (ok T _ e).1
end
structure XAt (H:Hp) (a C:ag) (fs:List (Str×V)) (cx:Option ag) (tb:ah):Prop where
 at_:∃d,d≠a/\H a=some (XoO a C (some d) tb cx)/\H d=some (XdO d fs)
def UM (H:Hp) (a C:ag) (fs:List (Str×V)) (cx:Option ag):Prop:=
 XAt H a C fs cx .none\/Ex2 λT d=>T≠a/\T≠d/\d≠a/\H a=some (XoO a C (some d) (.ref T) cx)/\H d=some (XdO d fs)/\H T=some (TbO T .none)
def Noted (H:Hp) (a C:ag) (fs:List (Str×V)) (cx:Option ag) (fl:ah):Prop:=
 Ex2 λT d=>T≠a/\T≠d/\d≠a/\H a=some (XoO a C (some d) (.ref T) cx)/\H d=some (XdO d fs)/\H T=some (TbO T fl)
theorem Noted.loose {H:Hp} {a C:ag} {fs:List (Str×V)} {cx:Option ag} (n:Noted H a C fs cx .none):UM H a C fs cx:=.inr n
section
variable {X:Cx} {z7:List (ag×Obj)} {σ:St} {H:Hp} {s:aj} {a C d T:ag} {dict cx:Option ag} {tb fl:ah} {fs:List (Str×V)} {E:ah->aj->Prop} {A:cz}
theorem Inv.slots {h':cq} (I:Inv X z7 σ H s) (x:Heap.SlotsOnly (frs X.stack) s.heap h'):Inv X z7 σ H { s with heap:=h' }:=by
 have hk:∀b o,H b=some o->b∉frs X.stack:=λb o e z=>by
  rw[I.stkFree b z] at e;cases e
 refine I.call (g':=s.gens) (d':=s.drawn) (t':=s.toks) (ch:=[]) ⟨λb o e _ hb _=>(x.2.1 b hb).trans e,λb o e _ _ _=>x.2.2 b o e,λ_ _ _ n _=>n,λb o e _=>let ⟨sl,q⟩:=x.2.2 b o e;⟨_,q⟩,λ_ _ e=>e,λ_ _ _ e=>e,λb ps e=>⟨#[],by rw[e];simp⟩⟩
  (λb o e=>(I.hok b o e).stay (λc u hc q=>?_) (λ_ q=>q) λ_ _ q=>q) I.bare (λ_ z=>nomatch z)
 rcases hc with rfl|hc
 ·exact(x.2.1 c (hk c o e)).trans q
 ·exact(x.2.1 c (hk c _ hc)).trans q
theorem IU {vs:Array ah} {i:Nat} {v tb':ah} {cx':Option ag} (I:Inv X z7 σ H s) (e:H a=some (XoO a C dict tb cx)) (q:s.heap.get? a=some ⟨.ref C,dict,.fields vs,#[]⟩) (z:4<vs.size)
 (h1:(vs.setIfInBounds i v)[1]? =some tb') (h2:(vs.setIfInBounds i v)[2]? =some (cxV cx')):
 Inv X z7 σ (upd H a (XoO a C dict tb' cx')) { s with heap:=s.heap.update a (oh (·.setIfInBounds i v)) }:=by
 have e2:(s.heap.update a (oh (·.setIfInBounds i v))).get? a=some ⟨.ref C,dict,.fields (vs.setIfInBounds i v),#[]⟩:=iw _ q rfl;exact I.write (x:=a) (e:=a) (t':=s.toks) (by rw[e];exact jg) (.inl rfl) (λb u hb r=>(ke _ _ (cr hb)).trans r) ⟨_,e2⟩
  (YE e2 (by rw[Array.size_setIfInBounds];exact z) h1 h2)
theorem QR {v:ah} {o:Obj} {ts:Array ah} (I:Inv X z7 σ H s) (e:H T=some (TbO T fl)) (q:s.heap.get? T=some o) (hd:o.data= .fields ts) (h3:ts[3]? =some fl):
 Inv X z7 σ (upd H T (TbO T v)) { s with heap:=s.heap.update T (oh (·.setIfInBounds 3 v)) }:=by
 have hz:3<ts.size:=(kn.mp h3).1;have hd':=nk hd (·.setIfInBounds 3 v);have e2:(s.heap.update T (oh (·.setIfInBounds 3 v))).get? T=some (o.mapFields (·.setIfInBounds 3 v)):=iw _ q (rN hd');exact I.write (x:=T) (e:=T) (t':=s.toks) (by rw[e];exact jg) (.inl rfl) (λb u hb r=>(ke _ _ (cr hb)).trans r) ⟨_,e2⟩
  (dZ e2 hd' (by simp[hz]))
theorem ES {fr:Option ag} {Q:Unit->aj->Prop} (I:Inv X z7 σ H s) (n:Noted H a C fs cx fl)
 (h:∀H' s',Inv X z7 σ H' s'->Noted H' a C fs cx (fr.elim .none λf=>fw f)->Q () s'):bf (bi X.prog X.w) A (um (.ref a) fr) Q E s:=by
 obtain⟨T,d,n1,n2,n3,ea,ed,et⟩:=n;obtain⟨vs,q,z,h1,h2⟩:=CG I.hok ea;obtain⟨o,ts,qt,hd,h3⟩:=SE I.hok et;unfold um;refine ae (ip q rfl h1 ?_);rw[Ae (show(cb T != io)=true from by simp)];refine jh qt hd (kn.mp h3).1 (h _ _ (QR I et qt hd h3) ⟨T,d,n1,n2,n3,?_,?_,upd_same⟩)
 ·rw[AE (cr n1)];exact ea
 ·rw[AE (cr n2)];exact ed
theorem QS {L:ag} {head:ah} {had:Bool} {Q:Unit->aj->Prop} (hst:X.stack=X.env::X.outer) (hf:X.env.frame=some L) (hfr:A.frames=some X.stack) (I:Inv X z7 σ H s)
 (dn:d≠a) (ea:H a=some (XoO a C (some d) tb cx)) (ed:H d=some (XdO d fs))
 (h:∀H' s',Inv X z7 σ H' s'->Noted H' a C fs cx (fw L)->Q () s'):
 bf (bi X.prog X.w) A (do xV (.ref a) 1 (←vJ head (←frameOf X.env) .none (fw L) .none (←entryPlaceOf L had))) Q E s:=by
 have fun1:s.heap.FunFrames X.base (X.env::X.outer):=by rw[←hst];exact I.stack
 refine ae (wpAny_frameOf_fun (base:=X.base) (outer:=X.outer) (by rw[←hst];exact hfr) fun1 hf λh1 hs1=>?_);have I1:Inv X z7 σ H { s with heap:=h1 }:=I.slots (by rw[hst];exact hs1);refine ae (wpAny_entryPlaceOf λpl hpl=>?_);unfold vJ newFields;refine ae (gc ?_ (hpl.sizeOk5 _ _ _ _ _));have et:∀t0:Obj,t0={ cls:=.type "traceback",dict:=none,data:=.fields ([head,.ref L,.none,fw L,.none]++(if pl.isEmpty then xI 6 io else pl)).toArray }->(h1.push t0).get? h1.objs.size=some t0:=λt0 z=>by
  subst z;exact bn h1 rfl
 have I2:=I1.laid (a:=h1.objs.size) (o:=TbO h1.objs.size (fw L)) (t':=s.toks) (λb u q=>ak _ q) (aw _)
  (dZ (et _ rfl) rfl (by first|(simp;done)|(rcases hpl with rfl|⟨_,_,_,_,_,_,_,rfl⟩<;>simp)))
 have nT:H h1.objs.size=none:=I1.hok.fresh (aw _);have na:h1.objs.size≠a:=cr (AG ea nT);have nd:h1.objs.size≠d:=cr (AG ed nT);have ea2:(upd H h1.objs.size (TbO h1.objs.size (fw L))) a=some (XoO a C (some d) tb cx):=by rw[AE (cr na)];exact ea
 obtain⟨vs,q,z,q1,q2⟩:=CG I2.hok ea2;have hz1:1<vs.size:=nj (by decide) z;have I3:=IU (i:=1) (v:=.ref h1.objs.size) (tb':=.ref h1.objs.size) (cx':=cx) I2 ea2 q z (by simp[hz1]) (by rw[gh (by decide)];exact q2);refine jh q rfl hz1 (h _ _ I3 ⟨h1.objs.size,d,na,nd,dn,upd_same,?_,?_⟩)
 ·rw[AE dn,AE (cr nd)];exact ed
 ·rw[AE na,upd_same]
theorem O6 {L:ag} {Q:Unit->aj->Prop} (hst:X.stack=X.env::X.outer) (hf:X.env.frame=some L) (hfr:A.frames=some X.stack) (I:Inv X z7 σ H s) (n:UM H a C fs cx)
 (h:∀H' s',Inv X z7 σ H' s'->Noted H' a C fs cx (fw L)->Q () s'):bf (bi X.prog X.w) A (ui (.ref a) X.env) Q E s:=by
 rcases n with⟨d,dn,ea,ed⟩|⟨T,d,n1,n2,n3,ea,ed,et⟩
 ·obtain⟨vs,q,z,h1,h2⟩:=CG I.hok ea;unfold ui;simp only[hf];refine ae (ip q rfl h1 ?_);rw[Af (by decide)];exact QS hst hf hfr I dn ea ed h
 ·obtain⟨vs,q,z,h1,h2⟩:=CG I.hok ea;obtain⟨o,ts,qt,hd,h3⟩:=SE I.hok et;unfold ui;simp only[hf];refine ae (ip q rfl h1 ?_);rw[Ae (show(cb T != io)=true from by simp)];refine ae (ip qt hd h3 ?_);rw[Af (show¬((io==fw L)=true) from by simp[fw])];refine ae (jh qt hd (kn.mp h3).1 ?_);exact QS hst hf hfr (QR I et qt hd h3) n3 (by rw[AE (cr n1)];exact ea) (by rw[AE (cr n2)];exact ed) h
theorem IH {L:ag} {Q:Unit->aj->Prop} (hf:X.env.frame=some L) (I:Inv X z7 σ H s) (n:Noted H a C fs cx (fw L)) (h:Q () s):bf (bi X.prog X.w) A (ui (.ref a) X.env) Q E s:=by
 obtain⟨T,d,n1,n2,n3,ea,ed,et⟩:=n;obtain⟨vs,q,z,h1,h2⟩:=CG I.hok ea;obtain⟨o,ts,qt,hd,h3⟩:=SE I.hok et;exact wpAny_noteFrame_inFlight hf q rfl h1 qt hd h3 h
theorem QT {L:ag} {Q:Unit->aj->Prop} (hst:X.stack=X.env::X.outer) (hf:X.env.frame=some L) (hfr:A.frames=some X.stack) (I:Inv X z7 σ H s) (n:UM H a C fs cx\/Noted H a C fs cx (fw L))
 (h:∀H' s',Inv X z7 σ H' s'->Noted H' a C fs cx .none->Q () s'):bf (bi X.prog X.w) A (leaving X.env (.ref a)) Q E s:=by
 unfold leaving;rcases n with n|n
 ·exact ae (O6 hst hf hfr I n λH1 s1 I1 n1=>ES I1 n1 h)
 ·exact ae (IH hf I n (ES I n h))
end
def xH (fs:List (Str×V)):Hp:=λb=>if b=0 then some (.xd fs) else none
theorem YG {fs gs:List (Str×V)} (e:xH fs=xH gs):fs=gs:=by
 have q:=congrFun e 0;simp only[xH,if_true] at q;injection q with q;injection q
def CX1 (P:bb) (w:bw):CXT:=λouter H s E e s'=>Ex5 λa C fs cx H'=>e= .ref a/\s'.os=s.os/\uE s'.gens/\Un (frs outer) [] H H' s.heap s'.heap/\HOk P w H' s'.heap/\Noted H' a C fs cx .none/\E (.ref C) cx (xH fs)
def lE (X:Cx) (H:Hp) (a C:ag) (fs:List (Str×V)) (cx:Option ag):Prop:=UM H a C fs cx\/∃L,X.env.frame=some L/\Noted H a C fs cx (fw L)
def Out (X:Cx) (E:XK):Prop:=∀(z7:List (ag×Obj)) (σ:St) (H:Hp) (s:aj) (a C:ag) (fs:List (Str×V)) (cx:Option ag),Inv X z7 σ H s->lE X H a C fs cx->E (.ref C) cx (xH fs)->X.xe (.ref a) s
theorem Out.passes {X:Cx} {E:XK} (o:Out X E):DV (CX1 X.prog X.w) X E:=by
 intro z7 σ H s e s' I ⟨a,C,fs,cx,H',he,os,bare,un,hok,n,q⟩;subst he;exact o z7 σ H' s' a C fs cx (I.call' os un hok bare (λ_ z=>nomatch z)) (.inl n.loose) q
theorem AD {P:bb} {w:bw} {K:aa} {mg:Str->Option ah} {base:cq} {N:List Str} {qual:Str} {scope:ji} {f:ag} {cd:ah} {A:cz} {outer:List Env} {s:aj} {H:Hp} {E:XK}:
 Out (NL (CX1 P w) P w K mg base N qual scope f cd A outer s H E) E:=by
 intro z7 σ H1 s1 a C fs cx I n q;refine QT (C:=C) (fs:=fs) (cx:=cx) (L:=s.heap.objs.size) rfl rfl I.ok.frames I ?_ λH' s' I' n'=>?_
 ·rcases n with n|⟨L,e,n⟩
  ·exact .inl n
  ·have e':s.heap.objs.size=L:=cu e;subst e';exact .inr n
 ·exact⟨a,C,fs,cx,H',rfl,I'.os,I'.bare,I'.base,I'.hok,n',q⟩
end L2
end
section
namespace L2
open PySem PySem.Spec PyProof.Rows PySem.W
open Builtin Builtin.ObjectAttr
def IV:List ah->Bool
 | .ref _::r=>IV r
 |l=>l==[.type "ValueError",.type "Exception",.type "BaseException",.type "object"]
theorem ME (self:ah):∀{l:List ah},IV l=true->refuseLoop self "__setattr__" l=pure ():=by
 intro l;induction l with
 |nil=>intro e;cases e
 |cons c r ih=>
  intro e;cases c with
  |ref q=>rw[refuseLoop_ref];exact ih e
  |type n=>
   have q:(jb n::r)=[.type "ValueError",.type "Exception",.type "BaseException",.type "object"]:=eq_of_beq e;rw[q];exact PySem.F.store_ValueError.passes self
  |_=>exact absurd e (by intro z;exact nomatch (vS (eq_of_beq z)).1)
theorem KM {T:ah} (hT:[.type "ValueError",.type "Exception",.type "BaseException",.type "object"].contains T=true):∀{l:List ah},IV l=true->l.contains T=true:=by
 intro l;induction l with
 |nil=>intro e;cases e
 |cons c r ih=>
  intro e;cases c with
  |ref q=>rw[nq,ih e,wp]
  |type n=>
   have q:(jb n::r)=[.type "ValueError",.type "Exception",.type "BaseException",.type "object"]:=eq_of_beq e;rw[q];exact hT
  |_=>exact absurd e (by intro z;exact nomatch (vS (eq_of_beq z)).1)
theorem MF:∀{l:List ah},IV l=true->l.isEmpty=false
 |[],e=>nomatch e
 |_::_,_=>rfl
structure XCls (K:Frag) (C:ag):Prop where
 tail:(clsIn K C).any (λcd=>IV cd.mro)=true
 hd:hasDictIn K C=true
 sa:findIn K (.ref C) "__setattr__"=some (some (.builtin "object.__setattr__"))
 ga:findIn K (.ref C) "__getattribute__"=some (some (.builtin "BaseException.__getattribute__"))
 gn:findIn K (.ref C) "__getattr__"=some none
 cls:typeIn K (.ref C)=some (.type "type")
section
variable {prog:bb} {w:bw} {A:cz} {E:ah->aj->Prop} {s:aj} {K:Frag} {a C:ag} {ox:Obj} {od:Option Obj} {name:Str} {v:ah}
theorem lF {M:w9} {h:cq} {T:ah} (X:K.In h) (c:XCls K C) (I:InstAt h a ox C od) (hT:[.type "ValueError",.type "Exception",.type "BaseException",.type "object"].contains T=true):
 Looks M h (xW (.ref a) T) true:=by
 obtain⟨cd,hc,ht⟩:=any_some c.tail;exact I.type.andThen (looks_mroIn X (by unfold mroIn;rw[hc,wP,Af (by rw[MF ht];decide),KM hT ht]))
theorem YH {R:wL->aj->Prop} {tk:Tok} (X:K.In s.heap) (c:XCls K C) (I:InstAt s.heap a ox C od) (hn:findIn K (.ref C) name=some none)
 (h:bf (bi prog w) A.in1 (storeInOwnDict (.ref a) (.ref C) (.str name tk) name v false)
  (λfin s'=>match fin with| .done f=>R (.ok f) s'| .again c'=>c'.quiet=true/\mn (bi prog w) A c' R s') (λe s'=>R (.error e) s') s):
 mn (bi prog w) A (.call (.builtin "object.__setattr__") ⟨[.ref a,.str name tk,v],[]⟩) R s:=by
 have SF:=PySem.F.store_object;obtain⟨cd,hc,ht⟩:=any_some c.tail;refine vm SF.slot.plain SF.entry (@check_slot (bi prog w) _ _ s "object.__setattr__" "object" "__setattr__" (.ref a) [.str name tk,v] [] _ SF.kind SF.split (lF X c I (by decide)) (SF.args (.ref a) (.str name tk) v) ?_);have hm:Looks (bi prog w) s.heap (mroOf (.ref C)) cd.mro:=(looks_clsIn X hc).andThen .now;rw[osa_eq,refuse_eq];refine ae (ae (I.type.here (ae (hm.here ?_))));rw[ME _ ht];refine ao (ae (I.type.here (ae ((looks_findIn X hn).here (ae ?_)))));exact(show Looks (bi prog w) s.heap (storeTaker? none) none from .now).here h
theorem lG {vs:Array ah} {Q:Unit->aj->Prop} (X:K.In s.heap) (c:XCls K C) (ha:s.heap.get? a=some ⟨.ref C,none,.fields vs,#[]⟩) (hn:findIn K (.ref C) name=some none)
 (h:∀h':cq,h'.get? a=some ⟨.ref C,some s.heap.objs.size,.fields vs,#[]⟩->h'.Ns1 s.heap.objs.size (λy=>if y=name then some v else none)->(∀b o,b≠a->s.heap.get? b=some o->h'.get? b=some o)->
  Q () { s with heap:=h',toks:=s.toks+2 }):
 bf (bi prog w) A (yT (.ref a) name v) Q E s:=by
 have I:InstAt s.heap a ⟨.ref C,none,.fields vs,#[]⟩ C none:=⟨ha,rfl,rfl,jg⟩
 refine set_plain X I c.sa (YH (s:={ s with toks:=s.toks+1 }) X c I hn ?_);obtain⟨cd,hc,hd'⟩:=any_some c.hd;unfold storeInOwnDict xX ownDictForStores instanceDict;refine ae (ao (ae (ae (vg ha (ae (my (s:={ s with toks:=s.toks+1 }) (looks_clsIn X hc) ?_))))));rw[hd'];simp only[Bool.not_true,fq,if_false,typeHasDict,Bool.or_self];have hxs:a≠s.heap.objs.size:=cg (bh ha);have ha1:(s.heap.push { cls:=.type "dict",data:=.dict #[] }).get? a=some ⟨.ref C,none,.fields vs,#[]⟩:=ak _ ha;refine ae (wpAny_alloc (ae (wpAny_update ha1 ?_)));have hgd:((s.heap.push { cls:=.type "dict",data:=.dict #[] }).update a λo=>{ o with dict:=some s.heap.objs.size }).get? s.heap.objs.size=some { cls:=.type "dict",data:=.dict #[] }:=
  (mo _ _ _ _ hxs.symm).trans (Heap.get?_push_at rfl rfl)
 have hga:((s.heap.push { cls:=.type "dict",data:=.dict #[] }).update a λo=>{ o with dict:=some s.heap.objs.size }).get? a=some ⟨.ref C,some s.heap.objs.size,.fields vs,#[]⟩:=iw _ ha1 rfl;have hnd:((s.heap.push { cls:=.type "dict",data:=.dict #[] }).update a λo=>{ o with dict:=some s.heap.objs.size }).Ns s.heap.objs.size (λ_=>none):=
  ⟨_,#[],_,hgd,rfl,λe he=>absurd he (by simp),λ_=>rfl⟩
 refine ao ?_;show bf _ _ (storeInDict s.heap.objs.size (.str name s.toks) name v) _ _ _;unfold storeInDict newKeyGuard;refine ae (ao (ae (wg (wj hnd) λh' hn' hs=>?_)));obtain⟨oD,esD,epD,hoD,hdD,hcD⟩:=hn'.count (tP name v zW);refine ae (uf hoD (by rw[hdD];exact ug (cw hcD (by rw[fm,List.length_nil,bz];omega))) ?_);refine ao (h h' ((hs.2 a hxs).trans hga) hn' λb o hb e=>?_);exact(hs.2 b (cg (bh e))).trans ((mo _ _ _ _ hb).trans (ak _ e))
theorem lH {vs:Array ah} {d:ag} {mA:Str->Option ah} {ns:List Str} {Q:Unit->aj->Prop} (X:K.In s.heap) (c:XCls K C) (ha:s.heap.get? a=some ⟨.ref C,some d,.fields vs,#[]⟩) (hm:s.heap.Ns1 d mA) (hda:d≠a)
 (hn:findIn K (.ref C) name=some none) (hw:pc mA ns) (hsz:ns.length<=sizeLine)
 (h:∀h':cq,h'.Ns1 d (λy=>if y=name then some v else mA y)->pd d s.heap h'->Q () { s with heap:=h',toks:=s.toks+2 }):
 bf (bi prog w) A (yT (.ref a) name v) Q E s:=by
 obtain⟨od,ho,_⟩:=JR hm;have I:InstAt s.heap a ⟨.ref C,some d,.fields vs,#[]⟩ C (some od):=⟨ha,rfl,rfl,ho⟩
 refine set_plain X I c.sa (YH (s:={ s with toks:=s.toks+1 }) X c I hn ?_);obtain⟨cd,hc,hd'⟩:=any_some c.hd;unfold storeInOwnDict xX ownDictForStores instanceDict;refine ae (ao (ae (ae (vg ha (ae (my (s:={ s with toks:=s.toks+1 }) (looks_clsIn X hc) ?_))))));rw[hd'];refine ao (a:=some d) ?_;show bf _ _ (storeInDict d (.str name s.toks) name v) _ _ _;unfold storeInDict newKeyGuard;refine ae (ao (ae (wg (s:={ s with toks:=s.toks+1 }) hm λh' hn2 hs2=>?_)));obtain⟨oD,esD,epD,hoD,hdD,hcD⟩:=hn2.count (tP name v hw);refine ae (uf hoD (by rw[hdD];exact ug (cw hcD (by rw[fm];omega))) ?_);exact ao (h _ hn2 hs2)
theorem SG:(rV "BaseException.__getattribute__"==rV "object.__getattribute__")=false:=by decide +kernel
theorem WK:builtinKind "BaseException.__getattribute__"=some .slot:=by decide +kernel
theorem SH:splitId "BaseException.__getattribute__"=some ("BaseException","__getattribute__"):=by decide +kernel
theorem qY {vs:Array ah} {d:ag} {mA:Str->Option ah} {expr:Bool} {Q:ah->aj->Prop} (X:K.In s.heap) (c:XCls K C) (ha:s.heap.get? a=some ⟨.ref C,some d,.fields vs,#[]⟩) (hm:s.heap.Ns1 d mA)
 (hn:findIn K (.ref C) name=some none) (hv:mA name=some v) (hh:handedIn v=true) (h:Q v { s with toks:=s.toks+1 }):
 bf (bi prog w) A (yS (.ref a) name expr) Q E s:=by
 obtain⟨od,ho,hl⟩:=JR hm;have I:InstAt s.heap a ⟨.ref C,some d,.fields vs,#[]⟩ C (some od):=⟨ha,rfl,rfl,ho⟩
 have hf:findObj K C (some od) name=some (.value v):=findObj_own c.hd hn rfl (by rw[hl,hv]);have hb:Looks (bi prog w) s.heap (hookBefore (.ref C)) none:=looks_hook X (by rw[Ae (show yO (cb C)=true from rfl)];exact c.gn);refine ae (wpAny_mkText (ik (ae (I.type _ _ _ _ (λ_ _ e=>e) (ae (looks_findIn X c.ga _ _ _ _ (λ_ _ e=>e) ?_))))));dsimp only;rw[show(yO (cb C)&&rV "BaseException.__getattribute__"==rV "object.__getattribute__")=false from by rw[SG,xY],Af (by decide)];refine ae (hb _ _ _ _ (λ_ _ e=>e) (ae (tY (ik ?_))));unfold callGetattribute;rw[show(expr&&yO (rV "BaseException.__getattribute__"))=false from xY _,Af (by decide)];unfold boundAndCalled;rw[uo.ga.bind];refine ae (ao ?_);show bf _ _ (call (.builtin "BaseException.__getattribute__") [.ref a,.str name s.toks]) _ _ _;refine rQ ?_;refine vm uo.ga.plain PySem.F.entry_bexc_ga ?_;refine @check_slot (bi prog w) _ _ { s with toks:=s.toks+1 } "BaseException.__getattribute__" "BaseException" "__getattribute__" (.ref a) [.str name s.toks] [] _ WK SH (lF X c I (by decide)) (PySem.F.args_bexc_ga (.ref a) (.str name s.toks)) ?_;have L1:=looks_find (M:=bi prog w) X I hf;refine ae (ao (ae (ao (ae (my (s:={ s with toks:=s.toks+1 }) I.type (ae (my (s:={ s with toks:=s.toks+1 }) L1 ?_)))))));refine ao ?_;show bf _ _ (handedOut v) _ _ _;rw[handedOut_of hh];exact ao h
end
end L2
end
section
namespace L2
open PySem PySem.Spec PyProof.Rows PySem.W
open Builtin Builtin.ObjectAttr
def GV (K:Frag) (C:ag):Bool:=match K.lookup C with
 |some ⟨.type "type",_,.cls cd,sl⟩=>(match cd.mro,sl.toList with
  | .ref C'::bm,[_,_,_,_,some (.builtin n),_]=>C'==C&&!cd.hasDel&&n=="ValueError.__new__"&&bm.contains (.type "ValueError")&&!(bm.contains (.type "AttributeError"))&&!(bm.contains (.type "NameError"))
  |_,_=>false)
 |_=>false
theorem WL {K:Frag} {h:cq} {C:ag} (X:K.In h) (q:GV K C=true):∃nm qn N bs bm hdct sn sub ab col dd k0 k1 k2 k3 k5,
 h.get? C=some (xf nm qn C N bs bm hdct sn sub ab col dd k0 k1 k2 k3 k5 "ValueError.__new__")/\bm.contains (.type "ValueError")=true/\bm.contains (.type "AttributeError")=false/\bm.contains (.type "NameError")=false:=by
 unfold GV at q;split at q
 ·rename_i dd cd sl ho;split at q
  ·rename_i C' bm k0 k1 k2 k3 n k5 hm hs;simp only[jn,beq_iff_eq,Bool.not_eq_true'] at q;obtain⟨⟨⟨⟨⟨rfl,hdel⟩,rfl⟩,hb⟩,ha⟩,hn⟩:=q;obtain⟨nm,bs,mro,ns,qn,hd,sn,sub,ab,col,del⟩:=cd;dsimp only at hm hdel;subst hm hdel;have hsl:sl=#[k0,k1,k2,k3,some (.builtin "ValueError.__new__"),k5]:=by
    obtain⟨l⟩:=sl;simp only at hs;rw[hs]
   subst hsl;exact⟨nm,qn,ns,bs,bm,hd,sn,sub,ab,col,dd,k0,k1,k2,k3,k5,X _ _ ho,hb,ha,hn⟩
  ·cases q
 ·cases q
abbrev K2 (C t:ag):Obj:={ cls:=.ref C,data:=.fields #[.ref t,.none,.none,.none,.bool false,.none] }
abbrev F4 (vs:List ah):Obj:={ cls:=.type "tuple",data:=.seq vs.toArray }
section
variable {prog:bb} {w:bw} {A:cz} {E:ah->aj->Prop} {h:cq} {g:Array GenState} {dr:Drawn} {t:Nat} {os:OsState} {R:wL->aj->Prop}
variable {nm q:Str} {C N:ag} {bs bm:List ah} {hdct:Bool} {sn:List Str} {sub:List ah} {ab:Bool} {col:Option Bool} {dd:Option ag} {k0 k1 k2 k3 k5:Option ah} {z8:List ah}
theorem SI {M:w9} {Q:Unit->aj->Prop} (hC:h.get? C=some (xf nm q C N bs bm hdct sn sub ab col dd k0 k1 k2 k3 k5 "ValueError.__new__")) (hB:bm.contains (.type "ValueError")=true)
 (hq:Q () ⟨h,g,dr,t,os⟩):bf M A (wQ "ValueError.__new__" ⟨.ref C::z8,[]⟩) Q E ⟨h,g,dr,t,os⟩:=by
 have F:=ow;have hcont:(cb C::bm).contains (.type "ValueError")=true:=by rw[nq,hB,wp]
 have hstar:=F.noStar;simp only[wQ,F.newKind,F.newSplit,F.newRow];repeat (first|refine rG hC ?_|(refine sJ hC ?_;rw[hcont])|refine wpAny_staticBase_exc hC ?_|refine wR hC ?_|simp only[bne_self_eq_false,fq,if_false]|wp_step)
 exact hq
theorem YI (hC:h.get? C=some (xf nm q C N bs bm hdct sn sub ab col dd k0 k1 k2 k3 k5 "ValueError.__new__")) (hB:bm.contains (.type "ValueError")=true) (hA:bm.contains (.type "AttributeError")=false)
 (hN:bm.contains (.type "NameError")=false) (hrest:z8.length<=sizeLine)
 (hq:R (.ok (.ret (.ref (h.objs.size+1)))) ⟨(h.push (F4 z8)).push (K2 C h.objs.size),g,dr,t,os⟩):
 mn (bi prog w) A (.builtin "ValueError.__new__" ⟨.ref C::z8,[]⟩) R ⟨h,g,dr,t,os⟩:=by
 have F:=ow;have hends:=F.ends;have hcB:(cb C::bm).contains (.type "ValueError")=true:=by rw[nq,hB,wp]
 have hcA:(cb C::bm).contains (.type "AttributeError")=false:=by rw[nq,hA];rfl
 have hcN:(cb C::bm).contains (.type "NameError")=false:=by rw[nq,hN];rfl
 refine codeAny_builtinAt F.entry ?_;unfold tQ.«BaseException.__new__»;refine xo ?_;show PySem.wpAt _ _ _ (stack >>= _) _ _ _;refine xo (PySem.wpAt_stack λp below=>vK ?_)
 wp_walk
 refine vK ?_;rw[F.owner];repeat (first|with_reducible refine wpAny_madeHere_exc F.canon hC ?_|with_reducible refine rG hC ?_|(with_reducible refine sJ hC ?_;first|rw[hcB]|rw[hcA]|rw[hcN])|wp_step)
 show R _ _;rw[fh];exact hq
theorem SJ {K:Frag} {f:ag} (X:K.In h) (hx:GV K C=true) (hi:findIn K (.ref C) "__init__"=some (some (.ref f))) (hf:typeIn K (.ref f)=some (.type "function")) (hrest:z8.length<=sizeLine)
 (hq:mn (bi prog w) (A.under (.builtin "type.__call__" ⟨.ref C::z8,[]⟩)) (.call (.ref f) ⟨.ref (h.objs.size+1)::z8,[]⟩) (InitBack (h.objs.size+1) R)
  ⟨(h.push (F4 z8)).push (K2 C h.objs.size),g,dr,t,os⟩):
 mn (bi prog w) A (.call (.ref C) ⟨z8,[]⟩) R ⟨h,g,dr,t,os⟩:=by
 obtain⟨nm,q,N,bs,bm,hdct,sn,sub,ab,col,dd,k0,k1,k2,k3,k5,hC,hB,hA,hN⟩:=WL X hx;have f1:=tc_lookup;have f2:=tc_bind (.ref C);have hT:(⟨h,g,dr,t,os⟩:aj).TypeIs (.ref C) "type":=⟨_,hC,rfl⟩
 refine codeAny_of_tree ?_;show bf _ _ (callAny (.ref C) _) _ _ _;repeat (any_goals (first|assumption|with_reducible refine rG hC ?_|wp_step))
 refine⟨rfl,?_⟩;refine codeAny_call_builtin_at (v6 _ (by decide +kernel)) entry_typeCall (wpAny_check_type_call_sub hC ?_);unfold tQ.«type.__call__»;repeat (first|with_reducible refine rG hC ?_|with_reducible refine wR hC ?_|wp_step)
 refine codeAny_call_builtin_code (v6 _ ow.quiet) (SI (z8:=z8) hC hB ?_);refine YI (z8:=z8) hC hB hA hN hrest ?_;show bf _ _ _ _ _ _;have k:∀b o,h.get? b=some o->((h.push (F4 z8)).push (K2 C h.objs.size)).get? b=some o:=λb o e=>ak _ (ak _ e);have hC1:=k _ _ hC;have hg:((h.push (F4 z8)).push (K2 C h.objs.size)).get? (h.objs.size+1)=some (K2 C h.objs.size):=by heap_get
 have hcC:(cb C::bm).contains (.ref C)=true:=by simp
 have i1:Looks (bi prog w) ((h.push (F4 z8)).push (K2 C h.objs.size)) (uI (.ref C) "__init__") (some (.ref f)):=looks_findIn (X.keeps k) hi;have b1:Looks (bi prog w) ((h.push (F4 z8)).push (K2 C h.objs.size)) (bindSpecial (.ref f) (.ref (h.objs.size+1))) (.ref f,[.ref (h.objs.size+1)]):=bind_fn (X.keeps k) _ hf;have t1:Looks (bi prog w) ((h.push (F4 z8)).push (K2 C h.objs.size)) (xM (.ref (h.objs.size+1))) (.ref C):=(rS hg).andThen .now;have s1:Looks (bi prog w) ((h.push (F4 z8)).push (K2 C h.objs.size)) (isSubtype (.ref C) (.ref C)) true:=λA' Q' E' s' k' q'=>by
  obtain⟨h2,g2,d2,u2,o2⟩:=s';exact sJ (k' _ _ hC1) (by rw[hcC];exact q')
 unfold xW callSpecial? specialOf;repeat (first|with_reducible refine rQ ?_|lk)
 refine mz hq λr s' z=>?_;rcases r with e|(v|_|_|_)<;>first|exact z|exact z.elim|skip
 obtain⟨rfl,z⟩:=z;exact ao (ao z)
end
end L2
end
section
namespace L2
open PySem PySem.Spec PyProof.Rows
abbrev Cx.re (X:Cx) (A:cz) (calm:Bool) (E:ah->aj->Prop):Cx:={ X with A:=A,calm:=calm,xe:=E }
abbrev Cx.tr (X:Cx) (pn:List (ag×Obj)) (E:ah->aj->Prop):Cx:={ X with pn:=pn,xe:=E }
theorem Cx.Ok.re {X:Cx} {A:cz} {calm:Bool} {E:ah->aj->Prop} (ok:X.Ok) (hf:A.frames=some X.stack) (hd:calm=true->A.handled=none):(X.re A calm E).Ok:=
 ⟨ok.mod,ok.kind,ok.glob,ok.blt,ok.above,ok.inj,ok.has,ok.cab,hd,hf,ok.stk,ok.exf,ok.bs,ok.bsz,ok.noex,ok.exfs,ok.funs,ok.frf⟩
theorem Cx.Ok.tr {X:Cx} {pn:List (ag×Obj)} {E:ah->aj->Prop} (ok:X.Ok):(X.tr pn E).Ok:=
 ⟨ok.mod,ok.kind,ok.glob,ok.blt,ok.above,ok.inj,ok.has,ok.cab,ok.hd,ok.frames,ok.stk,ok.exf,ok.bs,ok.bsz,ok.noex,ok.exfs,ok.funs,ok.frf⟩
section
variable {X:Cx} {z7 pn:List (ag×Obj)} {σ:St} {H:Hp} {s:aj} {A:cz} {calm:Bool} {E:ah->aj->Prop}
theorem Inv.re (I:Inv X z7 σ H s) (hf:A.frames=some X.stack) (hd:calm=true->A.handled=none):Inv (X.re A calm E) z7 σ H s:=
 ⟨I.ok.re hf hd,I.os,I.bare,I.base,I.loc,I.cell,I.free,I.freeC,I.pin,I.hok,I.len⟩
theorem Inv.unre (ok:X.Ok) (I:Inv (X.re A calm E) z7 σ H s):Inv X z7 σ H s:=
 ⟨ok,I.os,I.bare,I.base,I.loc,I.cell,I.free,I.freeC,I.pin,I.hok,I.len⟩
theorem Inv.tr (I:Inv X z7 σ H s):Inv (X.tr (X.pn++z7) E) [] σ H s:=
 ⟨I.ok.tr,I.os,I.bare,I.base,I.loc,I.cell,I.free,I.freeC,λp hp=>I.pin p (by rw[jz] at hp;exact hp),I.hok,I.len⟩
theorem Inv.untr {pins':List (ag×Obj)} (ok:X.Ok) (I:Inv (X.tr (X.pn++z7) E) pins' σ H s):Inv X z7 σ H s:=
 ⟨ok,I.os,I.bare,I.base,I.loc,I.cell,I.free,I.freeC,λp hp=>I.pin p (rX _ hp),I.hok,I.len⟩
theorem SP.unre {D:Ends} {f:Flow} {s':aj} (ok:X.Ok) (h:SP (X.re A calm E) z7 D f s'):SP X z7 D f s':=by
 cases f with
 |next=>obtain⟨σ',H',I,q⟩:=h;exact⟨σ',H',I.unre ok,q⟩
 |brk=>obtain⟨σ',H',I,q⟩:=h;exact⟨σ',H',I.unre ok,q⟩
 |cont=>obtain⟨σ',H',I,q⟩:=h;exact⟨σ',H',I.unre ok,q⟩
 |ret u=>obtain⟨v,σ',H',I,r,q⟩:=h;exact⟨v,σ',H',I.unre ok,r,q⟩
theorem SP.untr {D:Ends} {f:Flow} {s':aj} (ok:X.Ok) (h:SP (X.tr (X.pn++z7) E) [] D f s'):SP X z7 D f s':=by
 cases f with
 |next=>obtain⟨σ',H',I,q⟩:=h;exact⟨σ',H',I.untr ok,q⟩
 |brk=>obtain⟨σ',H',I,q⟩:=h;exact⟨σ',H',I.untr ok,q⟩
 |cont=>obtain⟨σ',H',I,q⟩:=h;exact⟨σ',H',I.untr ok,q⟩
 |ret u=>obtain⟨v,σ',H',I,r,q⟩:=h;exact⟨v,σ',H',I.untr ok,r,q⟩
end
structure RoomU (k:Nat) (A:cz):Prop where
 dp:A.depth+3*k+5<sY
 un:A.units+16*k+200<wk
theorem Room.u {k:Nat} {A:cz} (r:Room k A):RoomU k A:=⟨r.dp,r.un⟩
theorem RoomU.mono {j k:Nat} {A:cz} (r:RoomU k A) (h:j<=k):RoomU j A:=⟨by have:=r.dp;omega,by have:=r.un;omega⟩
theorem RoomU.mark {k:Nat} {A:cz} (r:RoomU k A) (e:Option ah):RoomU k (A.mark e):=⟨r.dp,r.un⟩
theorem RoomU.deeper {k:Nat} {A:cz} (r:RoomU (k+1) A) (env:Env):RoomU k (A.deeper env):=
 ⟨by have:=r.dp;show A.depth+1+3*k+5<_;omega,by have:=r.un;show A.units+3+16*k+200<_;omega⟩
theorem RoomU.make {k:Nat} {A:cz} (r:RoomU (k+1) A) (C:ag) (us:List ah) (kw:List (Str×ah)):RoomU k (A.under (.builtin "type.__call__" ⟨.ref C::us,kw⟩)):=
 ⟨by have:=r.dp;rw[LZ];omega,by have:=r.un;rw[L0];omega⟩
structure FnOkU (P:bb) (w:bw) (K:aa) (mg:Str->Option ah) (base:cq) (CX:CXT) (k:Nat) (f:ag) (fd:dw) (ps:List Str) (sp:Sp):Prop where
 len:∀vs H Q E,sp vs H Q E->vs.length=ps.length
 run:∀(A:cz) (outer:List Env) (s:aj) (H:Hp) (args:Args) (us:List ah) (vs:List V) (Q:VK) (E:XK),RoomU k A->Env0 P w K mg base A outer s H->vE s fd args (ps.zip us)->Vals vs us->sp vs H Q E->
  mn (bi P w) A (.call (.ref f) args) (CR CX outer P w H s Q E) s
def QU (CX:CXT) (P:bb) (w:bw) (K:aa) (mg:Str->Option ah) (base:cq) (N:List Str) (qual:Str) (scope:ji) (f:ag) (cd:ah) (A:cz) (outer:List Env) (s:aj) (H:Hp) (E:XK):Cx:=
 { NL CX P w K mg base N qual scope f cd A outer s H E with calm:=false }
theorem gG {CX:CXT} {P:bb} {w:bw} {K:aa} {mg:Str->Option ah} {base:cq} {k:Nat} {f:ag} {name qual:Str} {params:sR} {body:List dh} {scope:ji} {dV kV doc pm Ac ct oc:ah} {an od:Option ag}
 {osl:Array (Option ah)} {N ps:List Str} {sp:Sp} (lk:K.lookup f=some ⟨oc,od,.func (ie name qual params body scope dV kV doc pm an Ac ct),osl⟩) (hcd:iz K Ac qual=true) (S:FnScope N ps scope)
 (len:∀vs H Q E,sp vs H Q E->vs.length=ps.length)
 (hbody:∀(A:cz) (outer:List Env) (s:aj) (H:Hp) (vs:List V) (Q:VK) (E:XK),RoomU k (A.deeper (tj qual scope s.heap.objs.size f Ac))->sp vs H Q E->
  ∃t,PSs (QU CX P w K mg base N qual scope f Ac A outer s H E) body t/\t { nx:=λ_ H'=>Q .non H',rt:=Q } (FB N vs) H):
 FnOkU P w K mg base CX (k+1) f (ie name qual params body scope dV kV doc pm an Ac ct) ps sp:=by
 refine⟨len,λA outer s H args us vs Q E hr e0 hb r hsp=>?_⟩;have hl:=len _ _ _ _ hsp;have KX:K.In s.heap:=e0.mod.kin.keeps λb o e=>(e0.bs b o e).1;have lim:s.heap.NoLimit:=e0.mod.nolimit.keeps λb o e=>(e0.bs b o e).1;have hkind:∀y∈ps.zip us,scope.names.lookup y.1=some .local\/(scope.names.lookup y.1=some .cell/\((il (s.heap.objs.size+1) scope.names []).lookup y.1).isSome=true):=λ⟨n,v⟩ hy=>by
  rcases S.par n (qo hy).1 with q|q
  ·exact .inl q
  ·exact .inr ⟨q,rm _ _ _ (.inl q)⟩
 have hdp:A.depth<sY:=by have:=hr.dp;omega
 refine u4 hdp (KX _ _ lk) rfl S.co S.gen rfl (v0 KX hcd) (hb _ _ _ _ ?_);refine tq S.kind hkind λenv he s1 x=>?_;subst he;refine⟨lim.keeps x.toInCall.keep,codeAny_func ?_⟩;obtain⟨t,ht,hq⟩:=hbody A outer s H vs Q E (hr.deeper _) hsp;have e1:Env0 P w K mg base { A with handled:=none } outer s H:=⟨e0.frames,e0.mod,e0.bs,e0.bsz,e0.funs,e0.frf,e0.hok,e0.bare⟩
 have I0:Inv (NL CX P w K mg base N qual scope f Ac { A with handled:=none } outer s H E) [] (FB N vs) H s1:=N2 S rfl e1 hl r x;have I:Inv (QU CX P w K mg base N qual scope f Ac A outer s H E) [] (FB N vs) H s1:=
  ⟨⟨I0.ok.mod,I0.ok.kind,I0.ok.glob,I0.ok.blt,I0.ok.above,I0.ok.inj,I0.ok.has,I0.ok.cab,λz=>(bj z).elim,sg e0.frames,I0.ok.stk,I0.ok.exf,I0.ok.bs,I0.ok.bsz,I0.ok.noex,I0.ok.exfs,I0.ok.funs,I0.ok.frf⟩,
   I0.os,I0.bare,I0.base,I0.loc,I0.cell,I0.free,I0.freeC,I0.pin,I0.hok,I0.len⟩
 refine gr (ht [] s1 (FB N vs) H _ I hq) (λfl s' hs=>?_) λe s' hs=>hs;have fin:∀{σ':St} {H':Hp} {v:V} {u:ah},Inv (QU CX P w K mg base N qual scope f Ac A outer s H E) [] σ' H' s'->RelV v u->Q v H'->CE outer P w H s Q u s':=
  λ{σ' H' v u} J rv q=>⟨v,H',J.os,J.bare,J.base,J.hok,rv,q⟩
 cases fl with
 |ret u=>
  obtain⟨v,σ',H',J,rv,q⟩:=hs;exact fin J rv q
 |next=>
  obtain⟨σ',H',J,q⟩:=hs;exact fin (v:=V.non) (u:=io) J rfl q
 |brk=>
  obtain⟨_,_,_,q⟩:=hs;exact ez q
 |cont=>
  obtain⟨_,_,_,q⟩:=hs;exact ez q
section
variable {X:Cx} {CX:CXT} {k:Nat} {f C:ag} {fd:dw} {ps:List Str} {sp:Sp} {E:XK} {x m fld:Str} {p pos apos pos':Pos} {e o value:Expr} {es:List Expr} {ta te tv:TE} {t:TA}
theorem bY {z7:List (ag×Obj)} {σ:St} {H:Hp} {s:aj} {Q:VK} {us:List ah} {vs:List V} (F:FnOkU X.prog X.w X.K X.mg X.base CX k f fd ps sp) (hr:RoomU k X.A) (hb:Binds X.K fd ps []) (hx:DV CX X E)
 (I:Inv X z7 σ H s) (r:Vals vs us) (h:sp vs H Q E):bf (bi X.prog X.w) X.A (call (.ref f) us) (EP X z7 σ Q) X.xe s:=by
 have hl:(us++[]).length=ps.length:=by rw[jz, ←r.length];exact F.len _ _ _ _ h
 have hb':=hb s us I.kIn hl;rw[jz] at hb';refine rQ (mz (F.run X.A X.stack s H ⟨us,[]⟩ us vs Q E hr I.env0 hb' r h) λr s' hq=>?_);cases r with
 |error e=>exact hx z7 σ H s e s' I hq
 |ok fl=>
  cases fl with
  |ret u=>exact I.after hq
  |next=>exact ez hq
  |brk=>exact ez hq
  |cont=>exact ez hq
structure XMk (K:aa) (C f:ag):Prop where
 makes:GV K C=true
 init:ij K (.ref C) "__init__"=some (some (.ref f))
 fn:pj K (.ref f)=true
 kp:du K (.ref C)=true
def MG (C:ag) (sp:Sp) (E:XK) (t:TA):TE:=λσ H Q=>t σ H λvs H1=>vs.length<=100/\∀a,H1 a=none->sp (.ref a::vs) (upd H1 a (XoO a C none .none none)) (λv H2=>v= .non/\Q (.ref a) H2) E
theorem N4 {z7:List (ag×Obj)} {σ:St} {H:Hp} {s:aj} {Q:VK} {us:List ah} {vs:List V} (M:XMk X.K C f) (F:FnOkU X.prog X.w X.K X.mg X.base CX k f fd ps sp) (hr:RoomU (k+1) X.A) (hb:Binds X.K fd ps [])
 (hx:DV CX X E) (I:Inv X z7 σ H s) (r:Vals vs us) (hv:vs.length<=100)
 (h:∀a,H a=none->sp (.ref a::vs) (upd H a (XoO a C none .none none)) (λv H2=>v= .non/\Q (.ref a) H2) E):
 bf (bi X.prog X.w) X.A (call (.ref C) us) (EP X z7 σ Q) X.xe s:=by
 have hus:us.length<=sizeLine:=by rw[←r.length,bz];omega
 have hq:=h (s.heap.objs.size+1) (I.hok.fresh (sd _));obtain⟨hh,g,dr,tk,os⟩:=s;have e1:(hh.push (F4 us)).get? hh.objs.size=some (F4 us):=bn hh rfl;have e2:((hh.push (F4 us)).push (K2 C hh.objs.size)).get? (hh.objs.size+1)=some (K2 C hh.objs.size):=by heap_get
 have I1:=I.kept (h':=hh.push (F4 us)) (t':=tk) λb u q=>ak _ q;have I2:=I1.laid (a:=hh.objs.size+1) (o:=XoO (hh.objs.size+1) C none .none none) (h':=(hh.push (F4 us)).push (K2 C hh.objs.size)) (t':=tk) (λb u q=>ak _ q) (rh (fh _ _))
  (YE e2 (by simp) rfl rfl)
 have r2:Vals (V.ref (hh.objs.size+1)::vs) (cb (hh.objs.size+1)::us):=.cons rfl r;have hl:(cb (hh.objs.size+1)::us++[]).length=ps.length:=by
  rw[jz, ←r2.length];exact F.len _ _ _ _ hq
 have hb':=hb _ (cb (hh.objs.size+1)::us) I2.kIn hl;rw[jz] at hb';refine rQ (SJ (f:=f) I.kIn M.makes M.init (beq_iff_eq.mp M.fn) hus (mz (F.run _ X.stack _ _ ⟨cb (hh.objs.size+1)::us,[]⟩ (cb (hh.objs.size+1)::us) _ _ E (hr.make C us [])
  (I2.env0.make C us []) hb' r2 hq) λr s' hq'=>?_))
 cases r with
 |error e=>exact hx z7 σ _ _ e s' I2 hq'
 |ok fl=>
  cases fl with
  |ret u=>
   obtain⟨v,H',I3,rv,ev,q3⟩:=I2.after hq';subst ev;exact⟨rv,⟨V.ref (hh.objs.size+1),H',I3,rfl,q3⟩⟩
  |next=>exact ez hq'
  |brk=>exact ez hq'
  |cont=>exact ez hq'
theorem YJ (M:XMk X.K C f) (F:FnOkU X.prog X.w X.K X.mg X.base CX k f fd ps sp) (hr:RoomU (k+1) X.A) (hg:Gl X x) (hm:X.mg x=some (.ref C)) (hb:Binds X.K fd ps []) (hx:DV CX X E)
 (ha:PA X (e::es) t) (hdb:(x==("__debug__":Str))=false:=by decide) (he:be (e::es) X.env=(false,eval e X.env)::be es X.env:=by rfl) (hpl:(ig pos (be es X.env)).any (·.1)=false:=by rfl):
 PE X (.Call (.Name x p) (e::es) [] pos) (MG C sp E t):=by
 intro z7 s σ H Q I h;refine gy (EN I hg hm ?_ hdb);refine ng (h₀:=X.base) I.ok.mod.kin M.kp (thn (ha pos z7 s σ H _ I h) λus s1 ⟨vs,H1,I1,r,hv,q⟩=>⟨I1.kIn,?_⟩) he hpl;exact N4 M F hr hb hx I1 r hv q
theorem WM (M:XMk X.K C f) (F:FnOkU X.prog X.w X.K X.mg X.base CX k f fd ps sp) (hr:RoomU (k+1) X.A) (hg:Gl X x) (hm:X.mg x=some (.ref C)) (hb:Binds X.K fd ps []) (hx:DV CX X E)
 (hdb:(x==("__debug__":Str))=false:=by decide):PE X (.Call (.Name x p) [] [] pos) (MG C sp E EV):=by
 intro z7 s σ H Q I h;refine gy (EN I hg hm ?_ hdb);exact sI I.kIn M.kp (N4 (us:=[]) M F hr hb hx I .nil (by simp) h.2)
theorem IW {mc:ah} {pl:Sem Bool} (hg:Gl X x) (hm:X.mg x=some (.ref C)) (hsp:tR X.K (.ref C) "__getattribute__"=some (some (.builtin "type.__getattribute__"))) (hr0:uV X.K C mc=true)
 (hfc:qp X.K (.ref C) mc m=some (.val (.ref f))) (hk:du X.K (.ref f)=true)
 (F:FnOkU X.prog X.w X.K X.mg X.base CX k f fd ps sp) (hr:RoomU k X.A) (hb:Binds X.K fd ps []) (hx:DV CX X E) (ha:PA X (e::es) t)
 (hdb:(x==("__debug__":Str))=false:=by decide) (hst:be (e::es) X.env=(false,eval e X.env)::be es X.env:=by rfl) (hpl:(ig pos (be es X.env)).any (·.1)=false:=by rfl)
 (ht:eval (.Call (.Attribute (.Name x p) m apos) (e::es) [] pos) X.env=(do
  let ov←eval (.Name x p) X.env
  mm apos.atName
  let (f,first)←li [ov] (kj ov m pl)
  mr pos f first (ig pos (be (e::es) X.env)) (jr pos (gq [] X.env))):=by rfl):
 PE X (.Call (.Attribute (.Name x p) m apos) (e::es) [] pos) (KJ sp [] E t):=by
 intro z7 s σ H Q I h;refine om (pl:=pl) (EN I hg hm ?_ hdb) ht;refine PySem.W.method_cls I.kIn hsp (PySem.W.cls_value I.kIn hr0 hfc rfl ?_);refine ng (first:=[]) (h₀:=X.base) I.ok.mod.kin hk (thn (ha pos z7 _ σ H _ (I.tok _) h) λus s2 ⟨vs,H2,I2,r,q2⟩=>⟨I2.kIn,?_⟩) hst hpl;have q3:sp (vs++[]) H2 Q E:=q2;rw[jz] at q3;exact bY F hr hb hx I2 r q3
def gH (K:aa) (ta tv:TE) (f:Str):TS:=λD σ H=>tv σ H λy H1=>ta σ H1 λx H2=>Ex4 λa C tb cx=>x= .ref a/\H2 a=some (XoO a C none tb cx)/\XCls K C/\NoAttr K C f/\
 ∀d,H2 d=none->d≠a->D.nx σ (upd (upd H2 d (XdO d [(f,y)])) a (XoO a C (some d) tb cx))
def lI (K:aa) (ta tv:TE) (f:Str):TS:=λD σ H=>tv σ H λy H1=>ta σ H1 λx H2=>Ex6 λa C d fs tb cx=>x= .ref a/\H2 a=some (XoO a C (some d) tb cx)/\H2 d=some (XdO d fs)/\d≠a/\XCls K C/\NoAttr K C f/\
 fs.length<1000/\D.nx σ (upd H2 d (XdO d (FH f y fs)))
theorem QV (ha:PE X o ta) (hv:PE X value tv) (hs:pf value (some (.Attribute o fld pos')) pos.line X.env=pure false):PS X (.Assign [.Attribute o fld pos'] value pos) (gH X.K ta tv fld):=by
 intro z7 s σ H D I h;refine mj (thn (hv z7 s σ H _ I h) λu s1 ⟨y,H1,I1,ry,q⟩=>thn (ha z7 s1 σ H1 _ I1 q) λov s2 ⟨x,H2,I2,rx,a,C,tb,cx,ex,ea,c,n,q2⟩=>?_) hs;subst ex;obtain rfl:ov=cb a:=rx;obtain⟨vs,ga,z,h1,h2⟩:=CG I2.hok ea;have nd:H2 s2.heap.objs.size=none:=I2.hok.fresh (aw _);have na:s2.heap.objs.size≠a:=cr (cg (bh ga));refine lG I2.kIn c ga n λh' e1 e2 kp=>⟨σ,_,?_,q2 s2.heap.objs.size nd na⟩
 obtain⟨od,es,ep,g1,g2⟩:=id e2;have fr:od.isFreed=false:=(Heap.get?_some_iff.mp g1).2;have p1:(s2.heap.push od).get? s2.heap.objs.size=some od:=bn s2.heap fr;have J1:=I2.laid (a:=s2.heap.objs.size) (o:=XdO s2.heap.objs.size [(fld,y)]) (h':=s2.heap.push od) (t':=s2.toks+2) (λb u q=>ak _ q) (aw _)
  (dY (mA:=λg=>if g=fld then some u else none) ⟨od,es,ep,p1,g2⟩ (λg=>?_) (λg hg=>?_) (by simp))
 ·refine J1.write (x:=a) (e:=a) (h':=h') (t':=s2.toks+2) (by rw[AE (cr na),ea];exact jg) (.inl rfl) (λb u hb r=>?_) ⟨_,e1⟩ (YE e1 z h1 h2);by_cases hbs:b=s2.heap.objs.size
  ·subst hbs;have r':(s2.heap.push od).get? s2.heap.objs.size=some u:=r;rw[p1] at r';cases r';exact g1
  ·have Ad:b<(s2.heap.push od).objs.size:=bh r;rw[fh] at Ad;have r':(s2.heap.push od).get? b=some u:=r;have e3:(s2.heap.push od).get? b=s2.heap.get? b:=tS _ _ _ (by omega);exact kp b u hb (e3.symm.trans r')
 ·show RelO (jc g [(fld,y)]) (if g=fld then some u else none);by_cases hgf:g=fld
  ·rw[Ae hgf];have hb:(g==fld)=true:=beq_iff_eq.mpr hgf;simp only[jc,hb];exact ry
  ·rw[Af hgf];have hb:(g==fld)=false:=beq_eq_false_iff_ne.mpr hgf;simp only[jc,hb];exact jg
 ·by_cases hgf:g=fld
  ·rw[hgf];exact bc
  ·exact absurd (Af hgf) hg
theorem UN (ha:PE X o ta) (hv:PE X value tv) (hs:pf value (some (.Attribute o fld pos')) pos.line X.env=pure false):PS X (.Assign [.Attribute o fld pos'] value pos) (lI X.K ta tv fld):=by
 intro z7 s σ H D I h;refine mj (thn (hv z7 s σ H _ I h) λu s1 ⟨y,H1,I1,ry,q⟩=>thn (ha z7 s1 σ H1 _ I1 q) λov s2 ⟨x,H2,I2,rx,a,C,d,fs,tb,cx,ex,ea,ed,dn,c,n,hl,q2⟩=>?_) hs;subst ex;obtain rfl:ov=cb a:=rx;obtain⟨vs,ga,z,h1,h2⟩:=CG I2.hok ea;obtain⟨mA,hm,r,wi,_⟩:=YF I2.hok ed;have hz:(fs.map (·.1)).length<=sizeLine:=by rw[ai,bz];omega
 refine lH I2.kIn c ga hm dn n wi hz λh' hn sb=>⟨σ,_,?_,q2⟩
 have hd:∃o,h'.get? d=some o:=let ⟨o,_,_,e',_⟩:=hn;⟨o,e'⟩;refine I2.write (x:=d) (e:=d) (h':=h') (t':=s2.toks+2) (by rw[ed];exact jg) (.inl rfl) (λb q hb z=>(sb.2 b hb).trans z) hd (dY hn (λg=>?_) (λg hg=>?_) ?_)
 ·show RelO ((FH fld y fs).lookup g) (if g=fld then some u else mA g);rw[GP];by_cases q:g=fld
  ·rw[Ae q,Ae q];exact ry
  ·rw[Af q,Af q];exact r g
 ·by_cases q:g=fld
  ·rw[q];exact(F1 fld y fs).1
  ·refine(F1 fld y fs).2 g (wi g λz=>hg ?_);show(if g=fld then some u else mA g)=none;rw[Af q];exact z
 ·have:=FA fld y fs;omega
def UO (K:aa) (ta:TE) (f:Str):TE:=λσ H Q=>ta σ H λx H1=>Ex7 λa C d fs tb cx v=>x= .ref a/\H1 a=some (XoO a C (some d) tb cx)/\H1 d=some (XdO d fs)/\XCls K C/\NoAttr K C f/\fs.lookup f=some v/\Q v H1
theorem bZ (he:PE X e ta) (hb:jq e fld X.env (eval e X.env)=eval e X.env):PE X (.Attribute e fld pos) (UO X.K ta fld):=by
 intro z7 s σ H Q I h;refine UE hb (thn (he z7 s σ H _ I h) λu s1 ⟨x,H1,I1,rx,a,C,d,fs,tb,cx,v,ex,ea,ed,c,n,l,q⟩=>?_);subst ex;obtain rfl:u=cb a:=rx;obtain⟨vs,ga,z,h1,h2⟩:=CG I1.hok ea;obtain⟨mA,hm,r,wi,_⟩:=YF I1.hok ed;obtain⟨u,hu,ru⟩:=RelO.some_of (v:=v) (o:=mA fld) (by rw[←l];exact r fld);exact qY I1.kIn c ga hm n hu (NX ru) ⟨v,H1,I1.tok _,ru,q⟩
end
end L2
end
section
namespace L2
open PySem PySem.Spec PyProof.Rows
section
variable {X:Cx} {z7:List (ag×Obj)} {σ:St} {H:Hp} {s:aj} {a C:ag} {fs:List (Str×V)} {dict cx:Option ag} {tb:ah} {A:cz} {E':ah->aj->Prop}
theorem MJ {M:w9} {h:cq} {vs:Array ah} (ga:h.get? a=some ⟨.ref C,dict,.fields vs,#[]⟩):qh M h (isType (.ref a)) false:=λA' Q' E' s' k' q'=>by
 obtain⟨h2,g2,d2,u2,o2⟩:=s';exact PySem.ks_wpAny_isType_inst (k' _ _ ga) (by intro c z;cases z) q'
theorem KO {complaint:String} {Q:ah->aj->Prop} (I:Inv X z7 σ H s) (c:XCls X.K C) (ea:H a=some (XoO a C dict tb cx)) (h:Q (.ref a) s):bf (bi X.prog X.w) A (excFromValue (.ref a) complaint) Q E' s:=by
 obtain⟨vs,ga,z,h1,h2⟩:=CG I.hok ea;have I1:∃od,xE s.heap a ⟨.ref C,dict,.fields vs,#[]⟩ C od\/True:=⟨none,.inr jg⟩
 have t1:qh (bi X.prog X.w) s.heap (xM (.ref a)) (.ref C):=(rS ga).andThen .now;obtain⟨cd,hc,ht⟩:=wK c.tail;have s1:qh (bi X.prog X.w) s.heap (xW (.ref a) (.type "BaseException")) true:=
  t1.andThen (PySem.W.looks_mroIn I.kIn (by unfold PySem.W.mroIn;rw[hc,wP,Af (by rw[MF ht];decide),KM (by decide) ht]))
 unfold excFromValue isExcClass;refine ae (ae ((MJ ga).here ?_));rw[Af bj];refine ao ?_;rw[Af bj];refine ae (s1.here ?_);rw[Ae rfl];exact ao h
theorem QW {Q:ah->aj->Prop} (I:Inv X z7 σ H s) (c:XCls X.K C) (ea:H a=some (XoO a C dict tb cx)) (h:Q (.ref a) s):bf (bi X.prog X.w) A (xZ (.ref a)) Q E' s:=by
 obtain⟨vs,ga,z,h1,h2⟩:=CG I.hok ea;have t1:qh (bi X.prog X.w) s.heap (xM (.ref a)) (.ref C):=(rS ga).andThen .now;unfold xZ;refine ae (t1.here (ae ((PySem.W.looks_typeIn I.kIn c.cls).here ?_)));rw[Ae (by decide)];exact ao h
end
section
variable {X:Cx} {E:XK} {e:Expr} {te:TE} {pos cpos:Pos} {j:Nat}
def YK (K:aa) (E:XK) (te:TE):TS:=λ_ σ H=>te σ H λx H1=>Ex3 λa C fs=>x= .ref a/\XAt H1 a C fs none .none/\XCls K C/\E (.ref C) none (xH fs)
theorem IX (o:Out X E) (hc:X.calm=true) (he:PE X e te):PS X (.Raise (some e) none pos) (YK X.K E te):=by
 intro z7 s σ H D I h;rw[x0];refine ae (jp ?_);unfold raiseStmt;refine ae (ae (thn (he z7 s σ H _ I h) λu s1 ⟨x,H1,I1,rx,a,C,fs,ex,xa,c,q⟩=>ae (jp (ao ?_))));subst ex;obtain rfl:u=cb a:=rx;obtain⟨d,dn,ea,ed⟩:=xa.at_;obtain⟨vs,ga,z,h1,h2⟩:=CG I1.hok ea;refine ae (ao (ae (ik (KO I1 c ea ?_))));refine ae ((MJ ga).here ?_);rw[Af bj];refine ae (QW I1 c ea ?_);unfold um;refine ae (ae (ip ga rfl h1 ?_));rw[Af (by decide)];refine ao (wpAny_raiseNew_none (I1.ok.hd hc) ?_);exact o z7 σ H1 s1 a C fs none I1 (.inl (.inl xa)) q
theorem NN:entryFor table "proto.unchain"=some tQ.«proto.unchain»:=entryFor_of_tree (by kernel_rfl)
def SK (K:aa) (E:XK) (b:ag) (te:TE):TS:=λ_ σ H=>te σ H λx H1=>Ex3 λa C fs=>x= .ref a/\XAt H1 a C fs none .none/\XCls K C/\a≠b/\(Ex3 λCb db tbb=>H1 b=some (XoO b Cb db tbb none))/\E (.ref C) (some b) (xH fs)
theorem IY {b:ag} (o:Out X E) (hh:X.A.handled=some (.ref b)) (he:PE X e te):PS X (.Raise (some e) (some (.Constant .none j cpos)) pos) (SK X.K E b te):=by
 intro z7 s σ H D I h;rw[x0];refine ae (jp ?_);unfold raiseStmt;refine ae (ae (thn (he z7 s σ H _ I h) λu s1 ⟨x,H1,I1,rx,a,C,fs,ex,xa,c,nab,⟨Cb,db,tbb,eb⟩,q⟩=>ae (jp (ao ?_))));subst ex;obtain rfl:u=cb a:=rx;obtain⟨d,dn,ea,ed⟩:=xa.at_;obtain⟨vs,ga,z,h1,h2⟩:=CG I1.hok ea;refine ae (ik (ae (Constant_none (ae (jp (ao (ae (ao ?_))))))));refine ae (ik (KO I1 c ea ?_));refine ae (ao ?_);have z3:3<vs.size:=nj (by decide) z;have J1:=IU (i:=3) (v:=.none) (tb':=.none) (cx':=none) I1 ea ga z (by rw[gh (by decide)];exact h1) (by rw[gh (by decide)];exact h2);refine ae (jh ga rfl z3 ?_);obtain⟨vs2,ga2,z2,h12,h22⟩:=CG J1.hok upd_same;have J2:=IU (i:=4) (v:=.bool true) (tb':=.none) (cx':=none) J1 upd_same ga2 z2 (by rw[gh (by decide)];exact h12) (by rw[gh (by decide)];exact h22);refine ae (jh ga2 rfl z2 ?_);obtain⟨vs3,ga3,z3',h13,h23⟩:=CG J2.hok upd_same;refine ae ((MJ ga3).here ?_);rw[Af bj];refine ae (QW J2 c upd_same ?_);unfold um;refine ae (ae (ip ga3 rfl h13 ?_));rw[Af (by decide)];refine ao ?_;unfold raiseNew;refine ae (vT ?_);rw[hh];dsimp only;rw[Ae (show(cb b != cb a)=true from by simp[bne,cr nab])];have eb2:(upd (upd H1 a (XoO a C (some d) .none none)) a (XoO a C (some d) .none none)) b=some (XoO b Cb db tbb none):=by rw[AE (cr nab),AE (cr nab)];exact eb
 obtain⟨vb,gb,zb,hb1,hb2⟩:=CG J2.hok eb2;refine ae (ik (wpAny_runValue (codeAny_builtin NN ?_)));unfold tQ.«proto.unchain»;refine ae (ip gb rfl hb2 ?_);rw[Ae (by decide)];refine ae (ao (ao ?_));have J3:=IU (i:=2) (v:=.ref b) (tb':=.none) (cx':=some b) J2 upd_same ga3 z3' (by rw[gh (by decide)];exact h13) (by simp only[cxV];rw[Array.getElem?_setIfInBounds_self_of_lt (nj (by decide) z3')]);refine ae ?_;show bf _ _ (xV (.ref a) 2 (.ref b)) _ _ _;refine jh ga3 rfl (nj (by decide) z3') ?_;refine xg ?_;refine o z7 σ _ _ a C fs (some b) J3 (.inl (.inl ⟨d,dn,upd_same,?_⟩)) q;rw[AE dn,AE dn,AE dn];exact ed
end
abbrev TH:=ag->ag->List (Str×V)->Option ag->TS
def PH (X:Cx) (hs:List ExceptHandler) (t:TH):Prop:=
 ∀(z7:List (ag×Obj)) (s:aj) (σ:St) (H:Hp) (D:Ends) (a C:ag) (fs:List (Str×V)) (cx:Option ag),Inv X z7 σ H s->Noted H a C fs cx .none->t a C fs cx D σ H->
  bf (bi X.prog X.w) X.A (handleBy (.ref a) X.env hs) (SP X z7 D) X.xe s
abbrev Cx.hd (X:Cx) (a:ag):Cx:=X.re (X.A.mark (some (.ref a))) false (vF (bi X.prog X.w) (X.A.mark (some (.ref a))) X.env (cameBackBy (bi X.prog X.w) X.A X.env X.xe))
theorem Inv.hd {X:Cx} {z7:List (ag×Obj)} {σ:St} {H:Hp} {s:aj} {a:ag} (I:Inv X z7 σ H s):Inv (X.hd a) z7 σ H s:=I.re I.ok.frames λz=>(bj z).elim
theorem Out.hd {X:Cx} {E:XK} {b L:ag} (o:Out X E) (ok:X.Ok) (hst:X.stack=X.env::X.outer) (hf:X.env.frame=some L):Out (X.hd b) E:=by
 intro z7 σ H s a C fs cx I n q;have fin:∀H1 s1,Inv (X.hd b) z7 σ H1 s1->Noted H1 a C fs cx (fw L)->cameBackBy (bi X.prog X.w) X.A X.env X.xe (.ref a) s1:=λH1 s1 I1 n1=>by
  obtain⟨T,d,n1',n2,n3,ea,ed,et⟩:=id n1;obtain⟨vs,ga,z,h1,h2⟩:=CG I1.hok ea;refine ae (ip ga rfl h1 ?_);rw[Af (show¬((cb T==io)=true) from by simp)];refine ES (X:=X) (I1.unre ok) n1 λH2 s2 I2 n2=>?_;exact o z7 σ H2 s2 a C fs cx I2 (.inr ⟨L,hf,by rw[hf] at n2;exact n2⟩) q
 rcases n with n|⟨L',e,n⟩
 ·exact O6 (X:=X.hd b) (L:=L) hst hf I.ok.frames I n fin
 ·have e':L=L':=cu (hf.symm.trans e);subst e';exact IH (X:=X.hd b) hf I n (fin H s I n)
section
variable {X:Cx} {x n:Str} {Ch:ag} {np pos:Pos} {b0:dh} {suite:List dh} {z8:List ExceptHandler} {tb:ag->TS} {tr:TH}
def d5 (K:aa) (Ch:ag) (tb:ag->TS) (tr:TH):TH:=λa C fs cx D σ H=>∃b,mv K (.ref C) (.ref Ch)=some b/\(b=true->∀H',Noted H' a C fs cx .none->tb a D σ H')/\(b=false->tr a C fs cx D σ H)
theorem SL:PH X [] (λ_ _ _ _=>fM):=λ_ _ _ _ _ _ _ _ _ _ _ h=>h.elim
theorem b7 (hg:Gl X x) (hm:X.mg x=some (.ref Ch)) (hs:∀a,PSs (X.hd a) (b0::suite) (tb a)) (hr:PH X z8 tr) (hd:(x==("__debug__":Str))=false:=by decide):
 PH X (.ExceptHandler (some (.Name x np)) none (b0::suite) pos::z8) (d5 X.K Ch tb tr):=by
 intro z7 s σ H D a C fs cx I n ⟨b,hx,h1,h2⟩;obtain⟨T,d,n1',n2,n3,ea,ed,et⟩:=id n;obtain⟨vs,ga,z,q1,q2⟩:=CG I.hok ea;have t1:qh (bi X.prog X.w) s.heap (xM (.ref a)) (.ref C):=(rS ga).andThen .now;refine vL (u6 (EN (X:=X.hd a) I.hd hg hm ?_ hd)) (by intro q;cases q);refine(xp I.kIn t1 hx).here ?_;cases b with
 |false=>exact hr z7 s σ H D a C fs cx I n (h2 rfl)
 |true=>
  refine codeAny_handlers_suite (ES (X:=X.hd a) I.hd n λH1 s1 I1 n1=>?_);exact gr (hs a z7 s1 σ H1 D I1 (h1 rfl H1 n1)) (λf s2 q=>SP.unre I.ok q) λ_ _ q=>q
def UP (K:aa) (Ch:ag) (i:Nat) (tb:ag->TS) (tr:TH):TH:=λa C fs cx D σ H=>∃b,mv K (.ref C) (.ref Ch)=some b/\
 (b=true->∀H',Noted H' a C fs cx .none->tb a { nx:=λ_ _=>False,rt:=D.rt } (σ.set i (some (.ref a))) H')/\(b=false->tr a C fs cx D σ H)
theorem WN {i:Nat} (hg:Gl X x) (hm:X.mg x=some (.ref Ch)) (hN:X.N.Nodup) (hi:X.N[i]? =some n) (hl:X.env.scope.names.lookup n=some .local) (hs:∀a E,PSs ((X.hd a).wish E) (b0::suite) (tb a)) (hr:PH X z8 tr)
 (hd:(x==("__debug__":Str))=false:=by decide):
 PH X (.ExceptHandler (some (.Name x np)) (some n) (b0::suite) pos::z8) (UP X.K Ch i tb tr):=by
 intro z7 s σ H D a C fs cx I n ⟨b,hx,h1,h2⟩;obtain⟨T,d,n1',n2,n3,ea,ed,et⟩:=id n;obtain⟨vs,ga,z,q1,q2⟩:=CG I.hok ea;have t1:qh (bi X.prog X.w) s.heap (xM (.ref a)) (.ref C):=(rS ga).andThen .now;refine vL (u6 (EN (X:=X.hd a) I.hd hg hm ?_ hd)) (by intro q;cases q);refine(xp I.kIn t1 hx).here ?_;cases b with
 |false=>exact hr z7 s σ H D a C fs cx I n (h2 rfl)
 |true=>
  refine codeAny_handlers_suite_as (ES (X:=X.hd a) I.hd n λH1 s1 I1 n1=>?_);refine IS (X:=X.hd a) I1 hN hi (.inl hl) (v:=.ref a) rfl (λs2 I2=>?_) (.inr hl);refine gr (hs a _ z7 s2 _ H1 { nx:=λ_ _=>False,rt:=D.rt } (I2.wish _) (h1 rfl H1 n1)) (λf s3 q=>?_) λ_ _ q=>q;cases f with
  |next=>obtain⟨_,_,_,q⟩:=q;exact q.elim
  |brk=>obtain⟨_,_,_,q⟩:=q;exact q.elim
  |cont=>obtain⟨_,_,_,q⟩:=q;exact q.elim
  |ret u=>
   obtain⟨v,σ',H',I3,rv,q⟩:=q;have I4:Inv X z7 σ' H' s3:=(Inv.unwish I3).unre I.ok;obtain⟨m,hn,_⟩:=id I4.loc;refine wpAny_nameGoes hl hn (by rw[I4.ok.kind];rfl) λh' m' hn' sb=>?_;refine⟨v,σ'.map λ_=>none,H',?_,rv,q⟩;have I5:Inv X z7 (σ'.map λ_=>none) H' s3:=I4.weak (by simp) λj w e=>by
    rw[az] at e;cases q:σ'[j]? with
    |none=>rw[q] at e;cases e
    |some _=>rw[q] at e;cases e
   have neL:∀b,(∃o,X.s_0.heap.get? b=some o)->b≠X.env.locals:=λb ⟨o,e⟩=>cg (bu (bh e) I5.ok.above);have nH:∀b o,H' b=some o->b≠X.env.locals:=λb o e z=>by rw[z,I5.free] at e;cases e
   refine⟨I5.ok,I5.os,I5.bare,⟨λb o e n hb hx=>?_,λb o e n hb hx=>?_,I5.base.free,λb o e hx=>?_,I5.base.tups,I5.base.frzs,I5.base.tbls⟩,⟨m',hn',λj y w e1 e2 e3=>?_⟩,λy c e=>?_,I5.free,I5.freeC,λp hp=>?_,λb o e=>?_,I5.len⟩
   ·exact(sb.2 b (neL b ⟨o,e⟩)).trans (I5.base.keep b o e n hb hx)
   ·obtain⟨sl,e1⟩:=I5.base.slot b o e n hb hx;exact⟨sl,(sb.2 b (neL b ⟨o,e⟩)).trans e1⟩
   ·obtain⟨o',e1⟩:=I5.base.there b o e hx;exact⟨o',(sb.2 b (neL b ⟨o,e⟩)).trans e1⟩
   ·rw[az] at e2;cases q:σ'[j]? with
    |none=>rw[q] at e2;cases e2
    |some _=>rw[q] at e2;cases e2
   ·obtain⟨w,hw⟩:=I5.cell y c e;exact⟨w,hw.sameBut sb (I5.cne y c e)⟩
   ·obtain⟨e,n,ne,nf,d⟩:=I5.pin p hp;exact⟨(sb.2 p.1 ne).trans e,n,ne,nf,d⟩
   ·refine(I5.hok b o e).stay (λc u hc q=>(sb.2 c ?_).trans q) (λ_ q=>q) λ_ _ q=>q;rcases hc with rfl|hc
    ·exact nH c o e
    ·exact nH c _ hc
def qZ (X:Cx) (Eb:XK) (t:TS) (th:TH):TS:=λD σ H=>t D σ H/\∀a C fs cx σ' H',Noted H' a C fs cx .none->Eb (.ref C) cx (xH fs)->σ'.length=X.N.length->th a C fs cx D σ' H'
theorem SM {Eb:XK} {L:ag} {body:List dh} {h0:ExceptHandler} {hs:List ExceptHandler} {t:TS} {th:TH} (hst:X.stack=X.env::X.outer) (hf:X.env.frame=some L)
 (hb:∀(pn:List (ag×Obj)) (E':ah->aj->Prop),Out (X.tr pn E') Eb->PSs (X.tr pn E') body t) (hh:PH X (h0::hs) th):PS X (.Try body (h0::hs) [] [] pos) (qZ X Eb t th):=by
 intro z7 s σ H D I ⟨h,hth⟩;rw[arm_exec_Try];refine ae (jp (wpAny_tryStmt_except ?_));have o:Out (X.tr (X.pn++z7) (λe s1=>bf (bi X.prog X.w) X.A (ui e X.env) (λ_ s2=>bf (bi X.prog X.w) X.A (um e none) (λ_ s3=>bf (bi X.prog X.w) X.A (handleBy e X.env (h0::hs)) (SP X z7 D) X.xe s3) X.xe s2) X.xe s1)) Eb:=by
  intro pins' σ' H' s' a C fs cx I' n q;have I1:Inv X z7 σ' H' s':=I'.untr I.ok;have fin:∀H1 s1,Inv X z7 σ' H1 s1->Noted H1 a C fs cx (fw L)->bf (bi X.prog X.w) X.A (um (.ref a) none) (λ_ s3=>bf (bi X.prog X.w) X.A (handleBy (.ref a) X.env (h0::hs)) (SP X z7 D) X.xe s3) X.xe s1:=
   λH1 s1 J1 m1=>ES J1 m1 λH2 s2 J2 m2=>hh z7 s2 σ' H2 D a C fs cx J2 m2 (hth a C fs cx σ' H2 m2 q J2.len)
  rcases n with n|⟨L',e,n⟩
  ·exact O6 hst hf I1.ok.frames I1 n fin
  ·have e':L=L':=cu (hf.symm.trans e);subst e';exact IH hf I1 n (fin H' s' I1 n)
 refine gr (hb _ _ o [] s σ H D I.tr h) (λf s1 q=>?_) λ_ _ q=>q;have q':SP X z7 D f s1:=SP.untr I.ok q;cases f with
 |next=>exact qj q'
 |ret u=>exact q'
 |brk=>exact q'
 |cont=>exact q'
end
end L2
end
section
namespace L2
open PySem PySem.Spec PyProof.Rows
section
variable {prog:bb} {w:bw} {A:cz} {E:ah->aj->Prop} {s:aj}
theorem K3 {it l:ag} {i:Nat} {items:Array ah} {x:ah} {Q:ah->aj->Prop} (hit:s.heap.IsTupleIter it l i) (hl:s.heap.IsTuple l items) (hx:items[i]? =some x)
 (hQ:∀h',h'.IsTupleIter it l (i+1)->pd it s.heap h'->Q x { s with heap:=h' }):bf (bi prog w) A (kz (.ref it)) Q E s:=by
 obtain⟨o,ho,hc,hd⟩:=id hit;obtain⟨ol,hol,_,nl,hdl⟩:=hl;unfold kz;refine ae (ju (name:=ll "__next__") hit.typeIs ko (ms ko hit.typeIs sN ?_ (sB _)));show bf _ _ (field (.ref it) 0 >>= _) _ _ s;refine ae (ip ho hd (x:=.ref l) rfl ?_);show bf _ _ (if(cb l==io)=true then _ else _) _ _ s;rw[Af (show¬((cb l==io)=true) from bj)];show bf _ _ (field (.ref it) 1 >>= _) _ _ s;refine ae (ip ho hd (x:=.int i 0) rfl ?_);show bf _ _ (seqItems? (.ref l) >>= _) _ _ s;refine ae (vn hol hdl ?_);simp only[jv,hx];refine ae (jh ho hd (by simp) (ao ⟨x,rfl,ao (hQ _ ?_ (qc ..))⟩));exact⟨_,iw _ ho (rN (nk hd _)),(wq ..).trans hc,by rw[nk hd];simp[fw]⟩
theorem MK {it l:ag} {i:Nat} {items:Array ah} {Q:ah->aj->Prop} (hh:A.handled=none) (hit:s.heap.IsTupleIter it l i) (hl:s.heap.IsTuple l items) (hx:items[i]? =none)
 (hE:∀h' e,zm it s.heap h'->(∃o,h'.get? e=some o/\o.cls= .type "StopIteration")->E (.ref e) { s with heap:=h' }):bf (bi prog w) A (kz (.ref it)) Q E s:=by
 obtain⟨o,ho,hc,hd⟩:=id hit;obtain⟨ol,hol,_,nl,hdl⟩:=hl;unfold kz;refine ae (ju (name:=ll "__next__") hit.typeIs ko (ms ko hit.typeIs sN ?_ (sB _)));show bf _ _ (field (.ref it) 0 >>= _) _ _ s;refine ae (ip ho hd (x:=.ref l) rfl ?_);show bf _ _ (if(cb l==io)=true then _ else _) _ _ s;rw[Af (show¬((cb l==io)=true) from bj)];show bf _ _ (field (.ref it) 1 >>= _) _ _ s;refine ae (ip ho hd (x:=.int i 0) rfl ?_);show bf _ _ (seqItems? (.ref l) >>= _) _ _ s;refine ae (vn hol hdl ?_);simp only[jv,hx];refine ae (wpAny_rule (ae (jh ho hd (by simp) ?_)));show bf _ _ (newExc (.type "StopIteration") [] >>= _) _ _ _;refine ae ?_;simp only[newExc,newTuple];refine ae (gc ?_ (by size_fits));refine ae (m:=tE _ _) (wpAny_of_eq (a:=io) (by first|rfl|(simp only[tE];rfl)) ?_);refine gc ?_ (by size_fits);simp only[raiseNew];refine ae (vT ?_);first|rw[show A.in1.handled=none from hh]|rw[hh]
 refine ae (ao (xg ?_));exact hE _ _ (((qc ..).extBut.push _).push _) ⟨_,bn _ rfl,rfl⟩
theorem QX (hh:A.handled=none) (it l:ag) (hne:l≠it) (items:Array ah):
 Draws prog w A it [it,l] items.size (λi v=>items[i]? =some v) (λi h=>h.IsTupleIter it l i/\h.IsTuple l items) where
 live:=λ_ _ st=>let ⟨o,ho,_⟩:=st.1;⟨o,ho⟩
 frame:=λ_ _ _ st hk=>⟨st.1.at λo e=>hk it (by simp) o e,let ⟨o,e,r⟩:=st.2;⟨o,hk l (by simp) o e,r⟩⟩
 item:=λi s Q E hi st hQ=>by
  refine K3 st.1 st.2 (x:=items[i]) (by simp[hi]) λh' hit' hs'=>?_;exact hQ _ h' s.toks (by simp[hi]) ⟨hit',let ⟨o,e,r⟩:=st.2;⟨o,(hs'.2 l hne).trans e,r⟩⟩ hs'
 done:=λs Q E st hE=>MK hh st.1 st.2 (by simp) hE
theorem WO (l:ag) (items:Array ah) (n:Nat) (dct:Option ag) (sl:Array (Option ah)):
 Meets (tQ.«enumerate.__new__» ⟨[.type "enumerate",.ref l],[]⟩) (λ_ R s=>s.heap.get? l=some { cls:=.type "tuple",dict:=dct,data:=.seq items n,slots:=sl }/\
  R (.ok (.ret (.ref (s.heap.push { cls:=.type "tuple_iterator",data:=.fields #[.ref l,.int 0 0] }).objs.size)))
   { s with heap:=(s.heap.push { cls:=.type "tuple_iterator",data:=.fields #[.ref l,.int 0 0] }).push { cls:=.type "enumerate",data:=.fields #[.none,.bool false,.ref s.heap.objs.size,fw 0,.none,.none] } }):=
 .of_wp λprog w A R s h=>by
  obtain⟨hp,g,d,tk,os⟩:=s;obtain⟨hl,h⟩:=h;have hsub:=sub_enumerate;have hL:Heap.IsTuple (Shared.heap ⟨hp,g,d,tk,os⟩) l items:=⟨_,hl,rfl,n,rfl⟩
  wp_walk using mf hl
  refine wpAny_stack_any λst=>ao ?_;split
  ·rename_i c _ _ _ _ _;cases (c==jb "enumerate")
   ·wp_walk using mf hl,qu hL
    exact⟨_,rfl,h⟩
   ·wp_walk using mf hl,qu hL
    exact⟨_,rfl,h⟩
  ·wp_walk using mf hl,qu hL
   exact⟨_,rfl,h⟩
theorem SN {l:ag} {items:Array ah} {Q:ah->aj->Prop} (hL:s.heap.IsTuple l items)
 (h:∀h',v5 h' (s.heap.objs.size+1) s.heap.objs.size 0 .none->h'.IsTupleIter s.heap.objs.size l 0->h'.objs.size=s.heap.objs.size+2->
  (∀b o,s.heap.get? b=some o->h'.get? b=some o)->Q (.ref (s.heap.objs.size+1)) { s with heap:=h' }):
 bf (bi prog w) A (call (.type "enumerate") [.ref l]) Q E s:=by
 obtain⟨⟨c,dct,dt,sl⟩,hl,hc,n,hd⟩:=hL;replace hc:c= .type "tuple":=hc;replace hd:dt= .seq items n:=hd;subst hc hd;refine callType_new F.called_enumerate (by decide) (F.typeCall_enumerate_1 _) (F.newCall_enumerate_1 _) (λobj=>F.args_object_init_2 obj _) F.entry_enumerate_new (WO l items n dct sl) ⟨hl,?_⟩;have hz:(s.heap.push { cls:=.type "tuple_iterator",data:=.fields #[.ref l,.int 0 0] }).objs.size=s.heap.objs.size+1:=fh ..;show _/\_;rw[hz];have he:v5 ((s.heap.push { cls:=.type "tuple_iterator",data:=.fields #[.ref l,.int 0 0] }).push
  { cls:=.type "enumerate",data:=.fields #[.none,.bool false,.ref s.heap.objs.size,fw 0,.none,.none] }) (s.heap.objs.size+1) s.heap.objs.size 0 .none:=by
  have:=bn (s.heap.push { cls:=.type "tuple_iterator",data:=.fields #[.ref l,.int 0 0] })
   (o:={ cls:=.type "enumerate",data:=.fields #[.none,.bool false,.ref s.heap.objs.size,fw 0,.none,.none] }) rfl
  rw[hz] at this;exact this
 refine⟨⟨_,he,rfl⟩,h _ he ⟨_,ak _ (bn _ rfl),rfl,rfl⟩ (by rw[fh,hz]) λb o x=>ak _ (ak _ x)⟩
end
theorem N5 {X:Cx} {z7:List (ag×Obj)} {s:aj} {σ:St} {H:Hp} {E:ah->aj->Prop} {e it:ag} {fpD:List ag} {n i:Nat} {Pd:Nat->ah->Prop} {St':Nat->cq->Prop} {x:V} {elts:List Expr} {kk:Nat} {tpos:Pos}
 (I:Inv X z7 σ H s) (hf:∀b∈[e,it],K1 X z7 H b) (D:Draws X.prog X.w X.A.in1 it fpD n Pd St') (he:∃old,v5 s.heap e it ((i:Nat):Int) old) (hst:St' i s.heap) (Ad:i<n) (hne:e≠it) (hef:e∉fpD) (hP:∀u,Pd i u->RelV x u):
 bf (bi X.prog X.w) X.A (vY (.ref e)) (λr s1=>∃u,r=some u/\bf (bi X.prog X.w) X.A (qk (.Tuple elts kk tpos) (.ref e) u) (λ_ s2=>∃T,u= .ref T/\Inv X z7 σ (upd H T (.tup [.int (i:Nat),x])) s2/\H T=none/\
  (∃old,v5 s2.heap e it ((i+1:Nat):Int) old)/\St' (i+1) s2.heap/\∀b∈[e,it],(upd H T (.tup [.int (i:Nat),x])) b=none) E s1) E s:=by
 obtain⟨old,he⟩:=he;have hel:e<s.heap.objs.size:=bh he;have hil:it<s.heap.objs.size:=by obtain⟨_,q⟩:=D.live _ _ hst;exact bh q
 refine wpAny_pyNext_enum_itemD D he hst Ad hne hef λu h' tk hPu ho hst' hT hsz hk=>?_;refine⟨_,rfl,tz (s:={ s with heap:=h',toks:=tk+1 }) ho λh'' he' sb=>?_⟩;have hT2:h''.get? s.heap.objs.size=some { cls:=.type "tuple",data:=.seq #[.int i tk,u] }:=(sb.2 _ (ph hel)).trans hT;have new:ObjOk X.prog X.w (upd H s.heap.objs.size (.tup [.int (i:Nat),x])) h'' s.heap.objs.size (.tup [.int (i:Nat),x]):=
  ⟨by show 2<=sizeLine;decide,[.int i tk,u],.cons ⟨_,rfl⟩ (.cons (hP u hPu) .nil),⟨_,hT2,rfl,_,rfl⟩⟩
 have I1:Inv X z7 σ (upd H s.heap.objs.size (.tup [.int (i:Nat),x])) { s with heap:=h'',toks:=tk+1 }:=
  I.turnedNew (ch:=[e,it]) (λb ob hb q=>(sb.2 b (λz=>hb (by simp[z]))).trans (hk b ob (λz=>hb (by simp[z])) (λz=>hb (by simp[z])) q)) hf (aw _) new
 refine⟨_,rfl,I1,I.hok.fresh (aw _),⟨u,?_⟩,D.frame _ _ _ hst' λb hb o q=>(sb.2 b λz=>hef (z▸hb)).trans q,λb hb=>?_⟩
 ·have e1:((i+1:Nat):Int)=(i:Int)+1:=by omega
  rw[e1];exact he'
 ·have hb':b<s.heap.objs.size:=by
   have e':b=e\/b=it:=by simpa using hb
   rcases e' with z|z
   ·rw[z];exact hel
   ·rw[z];exact hil
  rw[AE (cg hb')];exact(hf b hb).1
def lJ (x:Str):It:=⟨λi _=>i<x.cps.size,λi H v H'=>Ex2 λT c=>v= .ref T/\H T=none/\x.cps[i]? =some c/\H'=upd H T (.tup [.int (i:Nat),.str ⟨#[c]⟩]),λi _=>i=x.cps.size⟩
theorem QY {prog:bb} {w:bw} {A:cz} (hh:A.handled=none) (it:ag) (x:Str) (t:Tok):
 Draws prog w A it [it] x.cps.size (λi v=>∃c u,x.cps[i]? =some c/\v= .str ⟨#[c]⟩ u) (λi h=>h.IsStrIter it (sh x) x t i):=by
 cases ha:x.cps.all (·<128)
 ·have e:sh x="str_iterator":=by simp[sh,ha]
  rw[e];exact Draws.strWide hh it x t
 ·have e:sh x="str_ascii_iterator":=by simp[sh,ha]
  rw[e];exact Draws.strAscii hh it x t
theorem SO {P:bb} {w:bw} {K:aa} {elts:List Expr} {kk:Nat} {tpos:Pos} (x:Str) (t:Tok) (e it:ag):
 Turn P w K (.Tuple elts kk tpos) (lJ x) [e,it] e (λi h=>(∃old,v5 h e it ((i:Nat):Int) old)/\h.IsStrIter it (sh x) x t i/\e≠it) where
 mem:=by simp
 obj:=λi h st b hb=>by
  obtain⟨⟨old,he⟩,⟨o,ho,hc,hd⟩,_⟩:=st;have e':b=e\/b=it:=by simpa using hb
  rcases e' with z|z
  ·rw[z];exact⟨_,he,λv q=>nomatch q⟩
  ·rw[z];exact⟨o,ho,λv q=>by rw[hd] at q;cases q⟩
 keep:=λi h h' st k=>let ⟨⟨old,he⟩,⟨o,ho,r⟩,hne⟩:=st;⟨⟨old,k e (by simp) _ he⟩,⟨o,k it (by simp) o ho,r⟩,hne⟩
 item:=by
  intro X hP hw hK hc i z7 s σ H E I hf st hg;subst hP hw hK;obtain⟨he,hit,hne⟩:=st;have hg':i<x.cps.size:=hg;have hx:x.cps[i]? =some x.cps[i]:=by simp[hg']
  have D:=QY (prog:=X.prog) (w:=X.w) (A:=X.A.in1) (I.ok.hd hc) it x t;refine thn (N5 (x:=.str ⟨#[x.cps[i]]⟩) I hf D he hit hg' hne (by simpa using hne) λu ⟨c,tk,q,z⟩=>?_) λr s1 ⟨u,er,h1⟩=>⟨u,er,thn h1 λ_ s2 ⟨T,eu,J,nT,he',hst',fr⟩=>?_⟩
  ·rw[hx] at q;cases q;exact⟨tk,z⟩
  ·subst eu;exact⟨.ref T,_,J,rfl,⟨T,_,rfl,nT,hx,rfl⟩,⟨he',hst',hne⟩,fr⟩
 done:=by
  intro X hP hw hK hc i z7 s σ H E I hf st hg;subst hP hw hK;obtain⟨⟨old,he⟩,hit,hne⟩:=st;obtain⟨f0,f1,f2,f3,f4,f5⟩:=hf it (by simp);have hge:i=x.cps.size:=hg;subst hge;have D:=QY (prog:=X.prog) (w:=X.w) (A:=X.A.in1) (I.ok.hd hc) it x t;exact uM D he hit λh' eb=>⟨rfl,I.turned (t':=s.toks) (λb o hb q=>eb b o hb q) f0 f1 f3 f4 f5⟩
 self:=λA i s Q E st h=>let ⟨⟨_,he⟩,_⟩:=st;lp he h
def gI (ta:TA):TI:=λσ H R=>ta σ H λvs H1=>∃x,vs=[.str x]/\R (lJ x) H1
theorem YL {X:Cx} {e:Expr} {ta:TA} {p pos tpos:Pos} {elts:List Expr} {kk:Nat} (hg:Gl X "enumerate") (hm:X.mg "enumerate"=none) (ha:PA X [e] ta) (hs:be [e] X.env=[(false,eval e X.env)]:=by rfl):
 PI X (.Tuple elts kk tpos) (.Call (.Name "enumerate" p) [e] [] pos) (gI ta):=by
 intro z7 s σ H R I h;refine Call_ (ET I hg hm vj (dk (thn (ha pos z7 s σ H _ I h) λus s1 ⟨vs,H1,I1,r1,q1⟩=>?_) hs rfl));obtain⟨x,ex,q⟩:=q1;subst ex;cases r1 with
 |cons r rr=>
  cases rr;obtain⟨t,rfl⟩:=r;refine call_enumerate_str λh' he hit hsz hk=>lp he ?_;have I2:Inv X z7 σ H1 { s1 with heap:=h' }:=I1.kept (t':=s1.toks) hk;refine⟨s1.heap.objs.size+1,[s1.heap.objs.size+1,s1.heap.objs.size],_,_,H1,rfl,I2,SO x t (s1.heap.objs.size+1) s1.heap.objs.size,⟨⟨.none,he⟩,hit,uk _⟩,λb hb=>?_,q⟩;have e':b=s1.heap.objs.size+1\/b=s1.heap.objs.size:=by simpa using hb
  have hle:s1.heap.objs.size<=b:=by
   rcases e' with z|z
   ·rw[z];exact ul _ _
   ·rw[z];exact aw _
  exact I1.fpOk hle (I1.hok.fresh hle)
def lK (K:aa) (a:ag):It:=⟨λi H=>Ex2 λ(xs:List V) (x:V)=>SqT K H a xs/\xs[i]? =some x,λi H v H'=>Ex2 λT x=>v= .ref T/\H T=none/\H'=upd H T (.tup [.int (i:Nat),x])/\∀xs,SqT K H a xs->xs[i]? =some x,λi H=>∃xs:List V,SqT K H a xs/\xs.length=i⟩
theorem SQ {P:bb} {w:bw} {K:aa} {elts:List Expr} {kk:Nat} {tpos:Pos} (a e it:ag):
 Turn P w K (.Tuple elts kk tpos) (lK K a) [e,it] e (λi h=>(∃old,v5 h e it ((i:Nat):Int) old)/\h.IsTupleIter it a i/\e≠it) where
 mem:=by simp
 obj:=λi h st b hb=>by
  obtain⟨⟨old,he⟩,⟨o,ho,hc,hd⟩,_⟩:=st;have e':b=e\/b=it:=by simpa using hb
  rcases e' with z|z
  ·rw[z];exact⟨_,he,λv q=>nomatch q⟩
  ·rw[z];exact⟨o,ho,λv q=>by rw[hd] at q;cases q⟩
 keep:=λi h h' st k=>let ⟨⟨old,he⟩,hi,hne⟩:=st;⟨⟨old,k e (by simp) _ he⟩,hi.at λo q=>k it (by simp) o q,hne⟩
 item:=by
  intro X hP hw hK hc i z7 s σ H E I hf st hg;subst hP hw hK;obtain⟨he,hit,hne⟩:=st;obtain⟨xs,x,hq,hx⟩:=hg;obtain⟨Aa,rv,p,hz⟩:=I.tuple hq;obtain⟨u,hu,ru⟩:=rv.get hx;have hai:a≠it:=by
   rintro rfl;obtain⟨o,e1,c1,_⟩:=p;obtain⟨o2,e2,c2,_⟩:=hit;rw[e1] at e2;cases e2;rw[c1] at c2;exact absurd c2 (by decide)
  have hea:e≠a:=by
   rintro rfl;obtain⟨old,he⟩:=he;obtain⟨o,e1,c1,_⟩:=p;have he':=he;unfold v5 at he';rw[e1] at he';cases he';exact absurd (show jb "enumerate"=jb "tuple" from c1) (by decide)
  have D:=QX (prog:=X.prog) (w:=X.w) (A:=X.A.in1) (I.ok.hd hc) it a hai Aa.toArray;have hi:i<Aa.toArray.size:=by
   have:=(au.mp hu).1;simpa using this
  refine thn (N5 (x:=x) I hf D he ⟨hit,p⟩ hi hne (by simp[hne,hea]) λu' q=>?_) λr s1 ⟨u',er,h1⟩=>⟨u',er,thn h1 λ_ s2 ⟨T,eu,J,nT,he',hst',fr⟩=>?_⟩
  ·have q':Aa[i]? =some u':=by simpa using q
   rw[hu] at q';cases q';exact ru
  ·subst eu;exact⟨.ref T,_,J,rfl,⟨T,x,rfl,nT,rfl,λys hy=>by rw[I.tuple_inj hy hq];exact hx⟩,⟨he',hst'.1,hne⟩,fr⟩
 done:=by
  intro X hP hw hK hc i z7 s σ H E I hf st hg;subst hP hw hK;obtain⟨⟨old,he⟩,hit,hne⟩:=st;obtain⟨xs,hq,hx⟩:=hg;obtain⟨Aa,rv,p,hz⟩:=I.tuple hq;obtain⟨f0,f1,f2,f3,f4,f5⟩:=hf it (by simp);have hai:a≠it:=by
   rintro rfl;obtain⟨o,e1,c1,_⟩:=p;obtain⟨o2,e2,c2,_⟩:=hit;rw[e1] at e2;cases e2;rw[c1] at c2;exact absurd c2 (by decide)
  have D:=QX (prog:=X.prog) (w:=X.w) (A:=X.A.in1) (I.ok.hd hc) it a hai Aa.toArray;have hn:Aa.toArray.size=i:=by rw[bv, ←rv.length];exact hx
  exact uM D he ⟨by rw[hn];exact hit,p⟩ λh' eb=>⟨rfl,I.turned (t':=s.toks) (λb o hb q=>eb b o hb q) f0 f1 f3 f4 f5⟩
 self:=λA i s Q E st h=>let ⟨⟨_,he⟩,_⟩:=st;lp he h
def gJ (K:aa) (ta:TA):TI:=λσ H R=>ta σ H λvs H1=>Ex2 λa xs=>vs=[.ref a]/\SqT K H1 a xs/\R (lK K a) H1
theorem QZ {X:Cx} {e:Expr} {ta:TA} {p pos tpos:Pos} {elts:List Expr} {kk:Nat} (hg:Gl X "enumerate") (hm:X.mg "enumerate"=none) (ha:PA X [e] ta) (hs:be [e] X.env=[(false,eval e X.env)]:=by rfl):
 PI X (.Tuple elts kk tpos) (.Call (.Name "enumerate" p) [e] [] pos) (gJ X.K ta):=by
 intro z7 s σ H R I h;refine Call_ (ET I hg hm vj (dk (thn (ha pos z7 s σ H _ I h) λus s1 ⟨vs,H1,I1,r1,q1⟩=>?_) hs rfl));obtain⟨a,xs,ex,hq,q⟩:=q1;subst ex;cases r1 with
 |cons r rr=>
  cases rr;cases r;obtain⟨Aa,rv,p',hz⟩:=I1.tuple hq;refine SN (show s1.heap.IsTuple a Aa.toArray from p') λh' he hit hsz hk=>lp he ?_;have I2:Inv X z7 σ H1 { s1 with heap:=h' }:=I1.kept (t':=s1.toks) hk;refine⟨s1.heap.objs.size+1,[s1.heap.objs.size+1,s1.heap.objs.size],_,_,H1,rfl,I2,SQ a (s1.heap.objs.size+1) s1.heap.objs.size,⟨⟨.none,he⟩,hit,uk _⟩,λb hb=>?_,q⟩;have e':b=s1.heap.objs.size+1\/b=s1.heap.objs.size:=by simpa using hb
  have hle:s1.heap.objs.size<=b:=by
   rcases e' with z|z
   ·rw[z];exact ul _ _
   ·rw[z];exact aw _
  exact I1.fpOk hle (I1.hok.fresh hle)
theorem GA {J:It} {n:Nat} {g:TG} {tb:TS} {D:Ends} {σ:St} {H:Hp} (Pv:Nat->St->Hp->Prop) (h0:Pv 0 σ H) (hgo:∀i σ H,i<n->Pv i σ H->J.go i H) (hst:∀σ H,Pv n σ H->J.stop n H)
 (hs:∀i x σ H H',i<n->Pv i σ H->J.yld i H x H'->g x σ H' λσ2 H2=>tb { D with nx:=Pv (i+1),ct:=Pv (i+1),bk:=D.nx } σ2 H2) (hd:∀σ H,Pv n σ H->D.nx σ H):
 ∃W:Nat->Nat->St->Hp->Prop,(∃m,W 0 m σ H)/\∀i m σ H,W i m σ H->
  (J.stop i H/\D.nx σ H)\/(J.go i H/\∃N:St->Hp->Prop,(∀σ' H',N σ' H'->∃m',m'<m/\W (i+1) m' σ' H')/\∀x H',J.yld i H x H'->g x σ H' λσ2 H2=>tb { D with nx:=N,ct:=N,bk:=D.nx } σ2 H2):=by
 refine⟨λi m σ H=>m=n - i/\i<=n/\Pv i σ H,⟨n,by simp,dm _,h0⟩,?_⟩;rintro i m σ H ⟨rfl,hi,p⟩;by_cases Ad:i<n
 ·exact .inr ⟨hgo i σ H Ad p,Pv (i+1),λσ' H' p'=>⟨n - (i+1),by omega,rfl,Ad,p'⟩,λx H' y=>hs i x σ H H' Ad p y⟩
 ·have e:i=n:=by omega
  subst e;exact .inl ⟨hst σ H p,hd σ H p⟩
def LcW (J:It) (g:TG) (tt:TT) (te:TE) (vs:List Nat) (σ:St) (H1:Hp) (D:ag) (Q:VK):Prop:=
 ∃W:Nat->Nat->Hp->Prop,(∃m,W 0 m (upd H1 D (.lst [])))/\∀i m H,W i m H->
  (J.stop i H/\Q (.ref D) H)\/(J.go i H/\∃Nx:Hp->Prop,(∀H',Nx H'->∃m',m'<m/\W (i+1) m' H')/\∀x H',J.yld i H x H'->g x (F9 σ vs) H' λσ2 H2=>F9 σ2 vs=F9 σ vs/\tt σ2 H2 λb H3=>
   if b=true then te σ2 H3 λy H4=>∃acc,H4 D=some (.lst acc)/\acc.length<sizeLine/\Nx (upd H4 D (.lst (acc++[y]))) else Nx H3)
def lL (wi:TI) (g:TG) (tt:TT) (te:TE) (vs:List Nat):TE:=λσ H Q=>wi σ H λJ H1=>∀D,H1 D=none->LcW J g tt te vs σ H1 D Q
theorem gK {X:Cx} {elt tg iter:Expr} {ifs:List Expr} {scope:ji} {own:List (Str×Nat)} {pos:Pos} {wi:TI} {g:TG} {tt:TT} {te:TE} (hc:X.calm=true) (hN:X.N.Nodup) (hi:PI X tg iter wi) (ok:BlkOk X.N X.env.scope scope own)
 (hg:∀(s:aj) (H:Hp) (C:ag) (cl:List (Str×ag)) (fp:List ag),PG (X.blk s H scope (jl scope cl C X.env) fp) tg g) (ht:∀(s:aj) (H:Hp) (C:ag) (cl:List (Str×ag)) (fp:List ag),PTs (X.blk s H scope (jl scope cl C X.env) fp) ifs tt)
 (he:∀(s:aj) (H:Hp) (C:ag) (cl:List (Str×ag)) (fp:List ag),PE (X.blk s H scope (jl scope cl C X.env) fp) elt te) (hs:∀x,lj iter X.env x=pure x:=by intro _;rfl):
 PE X (.ListComp elt [⟨tg,iter,ifs,0⟩] scope pos) (lL wi g tt te (own.map (·.2))):=k8 hc hN hi ok hg ht he hs
theorem N6 {X:Cx} {i:Nat} {y:Str} {py:Pos} {elt tg iter:Expr} {ifs:List Expr} {scope:ji} {own:List (Str×Nat)} {pos spos:Pos} {wi:TI} {g:TG} {tt:TT} {te:TE} (hc:X.calm=true) (hN:X.N.Nodup) (hy:X.N[i]? =some y) (hyl:X.env.scope.names.lookup y=some .local)
 (hsw:pf (.ListComp elt [⟨tg,iter,ifs,0⟩] scope pos) (some (.Name y py)) spos.line X.env=pure true) (hi:PI X tg iter wi) (ok:BlkOk X.N X.env.scope scope own)
 (hg:∀(s:aj) (H:Hp) (C:ag) (cl:List (Str×ag)) (fp:List ag),PG (X.blk s H scope (jl scope cl C X.env) fp) tg g) (ht:∀(s:aj) (H:Hp) (C:ag) (cl:List (Str×ag)) (fp:List ag),PTs (X.blk s H scope (jl scope cl C X.env) fp) ifs tt)
 (he:∀(s:aj) (H:Hp) (C:ag) (cl:List (Str×ag)) (fp:List ag),PE (X.blk s H scope (jl scope cl C X.env) fp) elt te) (hs:∀x,lj iter X.env x=pure x:=by intro _;rfl):
 PS X (.Assign [.Name y py] (.ListComp elt [⟨tg,iter,ifs,0⟩] scope pos) spos) (XR (lL wi g tt te (own.map (·.2))) (LS i)):=YC hc hN hy hyl hsw hi ok hg ht he hs
theorem SR {J:It} {n:Nat} {σ:St} {H1:Hp} {Q:VK} {g:TG} {tt:TT} {te:TE} {vs:List Nat} {D:ag} (Pv:Nat->Hp->Prop) (h0:Pv 0 (upd H1 D (.lst []))) (hgo:∀i H,i<n->Pv i H->J.go i H) (hst:∀H,Pv n H->J.stop n H)
 (hs:∀i x H H',i<n->Pv i H->J.yld i H x H'->g x (F9 σ vs) H' λσ2 H2=>F9 σ2 vs=F9 σ vs/\tt σ2 H2 λb H3=>
  if b=true then te σ2 H3 λy H4=>∃acc,H4 D=some (.lst acc)/\acc.length<sizeLine/\Pv (i+1) (upd H4 D (.lst (acc++[y]))) else Pv (i+1) H3) (hd:∀H,Pv n H->Q (.ref D) H):
 LcW J g tt te vs σ H1 D Q:=by
 refine⟨λi m H=>m=n - i/\i<=n/\Pv i H,⟨n,by simp,dm _,h0⟩,?_⟩;rintro i m H ⟨rfl,hi,p⟩;by_cases Ad:i<n
 ·exact .inr ⟨hgo i H Ad p,Pv (i+1),λH' p'=>⟨n - (i+1),by omega,rfl,Ad,p'⟩,λx H' y=>hs i x H H' Ad p y⟩
 ·have e:i=n:=by omega
  subst e;exact .inl ⟨hst H p,hd H p⟩
end L2
end
section
section
namespace L2
open PySem PySem.Spec PyProof.Rows
open PySem.W (WData Codec OpenSpec Well WellAll ReadsW ReadsAllW)
mutual
inductive Dw (K:aa) (H:Hp):V->mw->Prop
 |non:Dw K H .non .none
 |bl (b:Bool):Dw K H (.bl b) (.bool b)
 |int (i:Int):Dw K H (.int i) (.int i)
 |str (x:Str):Dw K H (.str x) (.str x)
 |byt (b:Array UInt8):Dw K H (.byt b) (.bytes b.toList)
 |lst {a:ag} {xs:List V} {ds:List mw}:SqL K H a xs->DwAll K H xs ds->Dw K H (.ref a) (.list ds)
 |tup {a:ag} {xs:List V} {ds:List mw}:SqT K H a xs->DwAll K H xs ds->Dw K H (.ref a) (.tuple ds)
inductive DwAll (K:aa) (H:Hp):List V->List mw->Prop
 |nil:DwAll K H [] []
 |cons {v:V} {vs:List V} {d:mw} {ds:List mw}:Dw K H v d->DwAll K H vs ds->DwAll K H (v::vs) (d::ds)
end
theorem UQ {K:aa} {H:Hp}:∀ns:List Int,DwAll K H (ns.map V.int) (ns.map zY)
 |[]=>.nil
 |n::r=>.cons (.int n) (UQ r)
theorem O7 {K:aa} {H:Hp}:∀(ns:List Int) (xs:List V),DwAll K H xs (ns.map zY)->xs=ns.map V.int
 |[],xs,h=>by
  cases h;rfl
 |n::r,xs,h=>by
  cases h with
  |cons h1 h2=>
   cases h1;rw[O7 r _ h2]<;>rfl
section
variable {P:bb} {w:bw} {K:aa} {H:Hp} {h:cq} {R:wS} {cl:Str->Option ag}
theorem gL {a:ag} {xs:List V} (hok:HOk P w H h) (KX:K.In h) (q:SqL K H a xs):∃(Aa:List ah) (o:Obj) (n:Nat),Vals xs Aa/\h.get? a=some o/\o.cls= .type "list"/\o.data= .seq Aa.toArray n:=by
 rcases q with q|⟨o,Aa,n,e,hc,_,hd,_,hv⟩
 ·obtain⟨_,Aa,n,hv,e⟩:=(show ObjOk P w H h a (.lst xs) from q.ok hok)
  exact⟨Aa,_,n,hv,e,rfl,rfl⟩
 ·exact⟨Aa.toList,o,n,hv,KX _ _ e,hc,by simp[hd]⟩
theorem YM {a:ag} {xs:List V} (hok:HOk P w H h) (KX:K.In h) (q:SqT K H a xs):∃(Aa:List ah) (o:Obj) (n:Nat),Vals xs Aa/\h.get? a=some o/\o.cls= .type "tuple"/\o.data= .seq Aa.toArray n:=by
 rcases q with q|⟨o,Aa,n,e,hc,hd,_,hv⟩
 ·obtain⟨_,Aa,hv,o,e,hc,n,hd⟩:=(show ObjOk P w H h a (.tup xs) from q.ok hok)
  exact⟨Aa,o,n,hv,e,hc,hd⟩
 ·exact⟨Aa.toList,o,n,hv,KX _ _ e,hc,by simp[hd]⟩
mutual
theorem Dw.reads (hok:HOk P w H h) (KX:K.In h):∀(d:mw) (v:V) (u:ah),Dw K H v d->RelV v u->∃as,ReadsW R cl h u d as
 | .none,_,_,x,r=>by
   cases x;cases r;exact⟨_,ReadsW.none⟩
 | .bool b,_,_,x,r=>by
   cases x;cases r;exact⟨_,ReadsW.bool b⟩
 | .int i,_,_,x,r=>by
   cases x;obtain⟨t,rfl⟩:=r;exact⟨_,ReadsW.int i t⟩
 | .str s,_,_,x,r=>by
   cases x;obtain⟨t,rfl⟩:=r;exact⟨_,ReadsW.str s t⟩
 | .bytes b,_,_,x,r=>by
   cases x;obtain⟨t,rfl⟩:=r;exact⟨_,ReadsW.bytes _ t⟩
 | .list ds,_,_,x,r=>by
   cases x with
   |lst hs ha=>
    cases r;obtain⟨Aa,o,n,rv,ho,hc,hd⟩:=gL hok KX hs;obtain⟨as,hr⟩:=Dw.readsAll hok KX ds _ Aa ha rv;exact⟨_,ReadsW.list ho hc hd hr⟩
 | .tuple ds,_,_,x,r=>by
   cases x with
   |tup hs ha=>
    cases r;obtain⟨Aa,o,n,rv,ho,hc,hd⟩:=YM hok KX hs;obtain⟨as,hr⟩:=Dw.readsAll hok KX ds _ Aa ha rv;exact⟨_,ReadsW.tuple ho hc hd hr⟩
 | .float _,_,_,x,_=>by cases x
 | .dict _,_,_,x,_=>by cases x
 | .bytearray _,_,_,x,_=>by cases x
 | .set _,_,_,x,_=>by cases x
 | .frozenset _,_,_,x,_=>by cases x
 | .obj _ _,_,_,x,_=>by cases x
theorem Dw.readsAll (hok:HOk P w H h) (KX:K.In h):∀(ds:List mw) (vs:List V) (us:List ah),DwAll K H vs ds->Vals vs us->∃as,ReadsAllW R cl h us ds as
 |[],_,_,x,r=>by
  cases x;cases r;exact⟨_,ReadsAllW.nil⟩
 |d::ds,_,_,x,r=>by
  cases x with
  |cons h1 h2=>
   cases r with
   |cons r1 r2=>
    obtain⟨as,q1⟩:=Dw.reads hok KX d _ _ h1 r1;obtain⟨bs,q2⟩:=Dw.readsAll hok KX ds _ _ h2 r2;exact⟨_,ReadsAllW.cons q1 q2⟩
end
end
mutual
def plW:mw->Bool
 | .none=>true
 | .bool _=>true
 | .int _=>true
 | .str _=>true
 | .bytes _=>true
 | .list xs=>K4 xs
 | .tuple xs=>K4 xs
 |_=>false
def K4:List mw->Bool
 |[]=>true
 |x::r=>plW x&&K4 r
end
theorem Q0 {α:Type} {f:α->mw} (h:∀a,plW (f a)=true):∀l:List α,K4 (l.map f)=true
 |[]=>rfl
 |x::r=>by
  show(plW (f x)&&K4 (r.map f))=true;rw[h x,Q0 h r]<;>rfl
theorem GW:∀(c:Codec) (a:c.denote),plW (c.enc a)=true
 | .unit,_=>rfl
 | .bool,_=>rfl
 | .int _ _,_=>rfl
 | .nat _ _,_=>rfl
 | .u8,_=>rfl
 | .bytes _ _,_=>rfl
 | .text _ _ _ _,_=>rfl
 | .list _ _ c,a=>Q0 (λx=>GW c x) a
 | .pair c d,a=>by
   show(plW (c.enc a.1)&&(plW (d.enc a.2)&&true))=true;rw[GW c a.1,GW d a.2]<;>rfl
 | .triple c d e,a=>by
   show(plW (c.enc a.1)&&(plW (d.enc a.2.1)&&(plW (e.enc a.2.2)&&true)))=true;rw[GW c a.1,GW d a.2.1,GW e a.2.2]<;>rfl
 | .option c,none=>rfl
 | .option c,some x=>GW c x
theorem N7:∀(cs:List Codec) (a:sC cs),K4 (rH cs a)=true
 |[],_=>rfl
 |c::cs,a=>by
  show(plW (c.enc a.1)&&K4 (rH cs a.2))=true;rw[GW c a.1,N7 cs a.2]<;>rfl
theorem II:∀{xs:List mw} {d:mw},d∈xs->d.weight<=sD xs
 |[],d,h=>absurd h (by simp)
 |x::r,d,h=>by
  show d.weight<=x.weight+1+sD r;rcases bg.mp h with e|m
  ·rw[e];omega
  ·have z:=II m;omega
def toV:ah->V
 | .none=>.non
 | .bool b=>.bl b
 | .int i _=>.int i
 | .str x _=>.str x
 | .bytes b _=>.byt b
 | .ref a=>.ref a
 |_=>.non
def OkU (A:List ag):ah->Prop
 | .none=>True
 | .bool _=>True
 | .int _ _=>True
 | .str _ _=>True
 | .bytes _ _=>True
 | .ref a=>a∈A
 |_=>False
theorem OkU.mono {A B:List ag} (h:∀a∈A,a∈B):∀{u:ah},OkU A u->OkU B u:=λ{u} x=>by
 cases u with
 |ref a=>exact h a x
 |none=>trivial
 |bool b=>trivial
 |int i t=>trivial
 |str s t=>trivial
 |bytes b t=>trivial
 |_=>exact ez x
theorem YN {A:List ag} {u:ah} (x:OkU A u):RelV (toV u) u:=by
 cases u with
 |ref a=>rfl
 |none=>rfl
 |bool b=>rfl
 |int i t=>exact⟨t,rfl⟩
 |str s t=>exact⟨t,rfl⟩
 |bytes b t=>exact⟨t,rfl⟩
 |_=>exact ez x
theorem F5 {A:List ag}:∀{vs:List ah},(∀u∈vs,OkU A u)->Vals (vs.map toV) vs
 |[],_=>.nil
 |u::r,h=>.cons (YN (h u (bc ..))) (F5 λx hx=>h x (aq _ hx))
def ArgOb (h:cq) (A:List ag) (a:ag):Prop:=∃vs:List ah,vs.length<=sizeLine/\(∀u∈vs,OkU A u)/\
 (h.get? a=some { cls:=.type "list",data:=.seq vs.toArray }\/h.get? a=some { cls:=.type "tuple",data:=.seq vs.toArray })
theorem ArgOb.mono {h:cq} {A B:List ag} {a:ag} (k:∀a∈A,a∈B) (x:ArgOb h A a):ArgOb h B a:=by
 obtain⟨vs,h1,h2,h3⟩:=x;exact⟨vs,h1,λu hu=>(h2 u hu).mono k,h3⟩
theorem FC {P:vo} {h:cq}:∀{vs:List ah} {ds:List mw},uN P h vs ds->vs.length=ds.length
 |_,_,.nil=>rfl
 |_,_,.cons _ b=>by
  show _+1=_+1;rw[FC b]
theorem N8 {P:vo} {h:cq} {v:ah} {ds:List mw} (x:Well P h v (.list ds)):∃(a:ag) (vs:List ah),v= .ref a/\h.get? a=some { cls:=.type "list",data:=.seq vs.toArray }/\uN P h vs ds:=by
 cases x with
 |list ho hall=>exact⟨_,_,rfl,ho,hall⟩
theorem MM {P:vo} {h:cq} {v:ah} {ds:List mw} (x:Well P h v (.tuple ds)):∃(a:ag) (vs:List ah),v= .ref a/\h.get? a=some { cls:=.type "tuple",data:=.seq vs.toArray }/\uN P h vs ds:=by
 cases x with
 |tuple ho hall=>exact⟨_,_,rfl,ho,hall⟩
theorem N9 {P:vo} {h:cq} {us:List ah} {d:mw} {ds:List mw} (x:uN P h us (d::ds)):∃(v:ah) (vs:List ah),us=v::vs/\Well P h v d/\uN P h vs ds:=by
 cases x with
 |cons a b=>exact⟨_,_,rfl,a,b⟩
theorem UR {n:Nat} (h:n<=1048576):n<=sizeLine:=cw h (by decide)
section
variable {P:vo} {h:cq}
mutual
theorem YO:∀(d:mw) (v:ah),Well P h v d->plW d=true->d.weight<=1048576->∃A:List ag,OkU A v/\∀a∈A,ArgOb h A a
 | .none,_,x,_,_=>by
   cases x;exact⟨[],trivial,λa m=>absurd m (by simp)⟩
 | .bool b,_,x,_,_=>by
   cases x;exact⟨[],trivial,λa m=>absurd m (by simp)⟩
 | .int i,_,x,_,_=>by
   cases x;exact⟨[],trivial,λa m=>absurd m (by simp)⟩
 | .str s,_,x,_,_=>by
   cases x;exact⟨[],trivial,λa m=>absurd m (by simp)⟩
 | .bytes b,_,x,_,_=>by
   cases x;exact⟨[],trivial,λa m=>absurd m (by simp)⟩
 | .list ds,_,x,p,z=>by
   obtain⟨a,vs,rfl,ho,hall⟩:=N8 x;have z2:sD ds<=1048576:=z;obtain⟨A,h1,h2⟩:=IZ ds _ hall p λd hd=>cw (II hd) z2;have k:∀b∈A,b∈a::A:=λb hb=>aq _ hb;refine⟨a::A,bc ..,λb hb=>?_⟩;rcases bg.mp hb with e|m
   ·rw[e];exact⟨vs,UR (by rw[FC hall];exact cw (sE ds) z2),λu hu=>(h1 u hu).mono k,.inl ho⟩
   ·exact(h2 b m).mono k
 | .tuple ds,_,x,p,z=>by
   obtain⟨a,vs,rfl,ho,hall⟩:=MM x;have z2:sD ds<=1048576:=z;obtain⟨A,h1,h2⟩:=IZ ds _ hall p λd hd=>cw (II hd) z2;have k:∀b∈A,b∈a::A:=λb hb=>aq _ hb;refine⟨a::A,bc ..,λb hb=>?_⟩;rcases bg.mp hb with e|m
   ·rw[e];exact⟨vs,UR (by rw[FC hall];exact cw (sE ds) z2),λu hu=>(h1 u hu).mono k,.inr ho⟩
   ·exact(h2 b m).mono k
 | .float _,_,_,p,_=>ei (show false=true from p)
 | .dict _,_,_,p,_=>ei (show false=true from p)
 | .bytearray _,_,_,p,_=>ei (show false=true from p)
 | .set _,_,_,p,_=>ei (show false=true from p)
 | .frozenset _,_,_,p,_=>ei (show false=true from p)
 | .obj _ _,_,_,p,_=>ei (show false=true from p)
theorem IZ:∀(ds:List mw) (vs:List ah),uN P h vs ds->K4 ds=true->(∀d∈ds,d.weight<=1048576)->∃A:List ag,(∀u∈vs,OkU A u)/\∀a∈A,ArgOb h A a
 |[],_,x,_,_=>by
  cases x;exact⟨[],λu m=>absurd m (by simp),λa m=>absurd m (by simp)⟩
 |d::ds,_,x,p,z=>by
  obtain⟨v,vs,rfl,x1,x2⟩:=N9 x;have q:plW d=true/\K4 ds=true:=vp.mp p;obtain⟨A,a1,a2⟩:=YO d v x1 q.1 (z d (bc ..));obtain⟨B,b1,b2⟩:=IZ ds vs x2 q.2 λe he=>z e (aq _ he);have kA:∀b∈A,b∈A++B:=λb hb=>cn.mpr (.inl hb);have kB:∀b∈B,b∈A++B:=λb hb=>cn.mpr (.inr hb);refine⟨A++B,λu hu=>?_,λb hb=>?_⟩
  ·rcases bg.mp hu with e|m
   ·rw[e];exact a1.mono kA
   ·exact(b1 u m).mono kB
  ·rcases cn.mp hb with m|m
   ·exact(a2 b m).mono kA
   ·exact(b2 b m).mono kB
end
end
def b8 (o:Obj):Option HO:=match o.data with
 | .seq vs _=>if(o.cls==jb "list")=true then some (.frz o (.lst (vs.toList.map toV))) else some (.frz o (.tup (vs.toList.map toV)))
 |_=>none
def F6 (K:aa) (h:cq) (A:List ag):Hp:=λb=>if b∈A then(if(K.lookup b).isNone=true then(h.get? b).bind b8 else none) else none
def d6 (H:Hp):Prop:=∀b,H b=none\/Ex2 λo u=>H b=some (.frz o u)
theorem Q3 (vs:List ah):b8 { cls:=.type "list",data:=.seq vs.toArray }=some (.frz { cls:=.type "list",data:=.seq vs.toArray } (.lst (vs.map toV))):=by
 show(if(jb "list"==jb "list")=true then some (HO.frz { cls:=.type "list",data:=.seq vs.toArray } (.lst (vs.toArray.toList.map toV))) else some (HO.frz { cls:=.type "list",data:=.seq vs.toArray } (.tup (vs.toArray.toList.map toV))))=_;rw[Ae (beq_self_eq_true _)]
theorem Q4 (vs:List ah):b8 { cls:=.type "tuple",data:=.seq vs.toArray }=some (.frz { cls:=.type "tuple",data:=.seq vs.toArray } (.tup (vs.map toV))):=by
 show(if(jb "tuple"==jb "list")=true then some (HO.frz { cls:=.type "tuple",data:=.seq vs.toArray } (.lst (vs.toArray.toList.map toV))) else some (HO.frz { cls:=.type "tuple",data:=.seq vs.toArray } (.tup (vs.toArray.toList.map toV))))=_;rw[Af (by decide)]
section
variable {P:bb} {w:bw} {K:aa} {h:cq} {A:List ag}
theorem LF {b:ag} {o:Obj} (hb:b∈A) (hk:K.lookup b=none) (e:h.get? b=some o):F6 K h A b=b8 o:=by
 unfold F6;rw[Ae hb,hk,Ae (show(none:Option Obj).isNone=true from rfl),e]<;>rfl
theorem b9 {b:ag} {u:HO} (q:F6 K h A b=some u):b∈A/\K.lookup b=none:=by
 unfold F6 at q;by_cases hb:b∈A
 ·rw[Ae hb] at q;cases hk:K.lookup b with
  |none=>exact⟨hb,rfl⟩
  |some o=>
   rw[hk,Af (by simp)] at q;cases q
 ·rw[Af hb] at q;cases q
theorem LG (ar:∀a∈A,ArgOb h A a) {b:ag} {u:HO} (q:F6 K h A b=some u):K.lookup b=none/\∃vs:List ah,vs.length<=sizeLine/\(∀u∈vs,OkU A u)/\
 ((h.get? b=some { cls:=.type "list",data:=.seq vs.toArray }/\u= .frz { cls:=.type "list",data:=.seq vs.toArray } (.lst (vs.map toV)))\/
  (h.get? b=some { cls:=.type "tuple",data:=.seq vs.toArray }/\u= .frz { cls:=.type "tuple",data:=.seq vs.toArray } (.tup (vs.map toV)))):=by
 obtain⟨hb,hk⟩:=b9 q;obtain⟨vs,h1,h2,h3⟩:=ar b hb;refine⟨hk,vs,h1,h2,?_⟩;rcases h3 with e|e
 ·rw[LF hb hk e,Q3] at q;exact .inl ⟨e,(cu q).symm⟩
 ·rw[LF hb hk e,Q4] at q;exact .inr ⟨e,(cu q).symm⟩
theorem WP (ar:∀a∈A,ArgOb h A a):d6 (F6 K h A):=λb=>by
 cases q:F6 K h A b with
 |none=>exact .inl rfl
 |some u=>
  obtain⟨_,vs,_,_,⟨_,e⟩|⟨_,e⟩⟩:=LG ar q
  ·exact .inr ⟨_,_,by rw[e]⟩
  ·exact .inr ⟨_,_,by rw[e]⟩
theorem cA (ar:∀a∈A,ArgOb h A a):HOk P w (F6 K h A) h:=λb u q=>by
 obtain⟨_,vs,h1,h2,⟨e,rfl⟩|⟨e,rfl⟩⟩:=LG ar q
 ·exact⟨e,by rw[ai];exact h1,vs,_,F5 h2,e⟩
 ·exact⟨e,by rw[ai];exact h1,vs,F5 h2,_,e,rfl,_,rfl⟩
theorem LH {c c':ah} {vs us:List ah} (e:(some { cls:=c,data:=.seq vs.toArray }:Option Obj)=some { cls:=c',data:=.seq us.toArray }):c=c'/\vs=us:=by
 have e1:=cu e;have e2:c=c':=congrArg Obj.cls e1;have e3:Data.seq vs.toArray=Data.seq us.toArray:=congrArg Obj.data e1;injection e3 with e4;refine⟨e2,?_⟩;have e5:=congrArg wc e4;simpa using e5
theorem q0 (KX:K.In h) (ar:∀a∈A,ArgOb h A a) {a:ag} {vs:List ah} (ha:a∈A) (e:h.get? a=some { cls:=.type "list",data:=.seq vs.toArray }):(∀u∈vs,OkU A u)/\SqL K (F6 K h A) a (vs.map toV):=by
 obtain⟨us,h1,h2,h3⟩:=ar a ha;have hu:us=vs:=by
  rcases h3 with q|q
  ·rw[e] at q;exact(LH q).2.symm
  ·rw[e] at q;exact absurd (x3 (LH q).1) (by decide)
 subst hu;refine⟨h2,?_⟩;cases hk:K.lookup a with
 |none=>exact .inl (.inr ⟨_,by rw[LF ha hk e,Q3]⟩)
 |some o=>
  have e2:=KX a o hk;rw[e] at e2;obtain rfl:=cu e2;exact .inr ⟨_,us.toArray,_,hk,rfl,rfl,rfl,by rw[bv];exact h1,by simpa using F5 h2⟩
theorem q5 (KX:K.In h) (ar:∀a∈A,ArgOb h A a) {a:ag} {vs:List ah} (ha:a∈A) (e:h.get? a=some { cls:=.type "tuple",data:=.seq vs.toArray }):(∀u∈vs,OkU A u)/\SqT K (F6 K h A) a (vs.map toV):=by
 obtain⟨us,h1,h2,h3⟩:=ar a ha;have hu:us=vs:=by
  rcases h3 with q|q
  ·rw[e] at q;exact absurd (x3 (LH q).1) (by decide)
  ·rw[e] at q;exact(LH q).2.symm
 subst hu;refine⟨h2,?_⟩;cases hk:K.lookup a with
 |none=>exact .inl (.inr ⟨_,by rw[LF ha hk e,Q4]⟩)
 |some o=>
  have e2:=KX a o hk;rw[e] at e2;obtain rfl:=cu e2;exact .inr ⟨_,us.toArray,_,hk,rfl,rfl,by rw[bv];exact h1,by simpa using F5 h2⟩
mutual
theorem gM {Pm:vo} (KX:K.In h) (ar:∀a∈A,ArgOb h A a):∀(d:mw) (v:ah),Well Pm h v d->plW d=true->OkU A v->Dw K (F6 K h A) (toV v) d
 | .none,_,x,_,_=>by
   cases x;exact .non
 | .bool b,_,x,_,_=>by
   cases x;exact .bl b
 | .int i,_,x,_,_=>by
   cases x;exact .int i
 | .str s,_,x,_,_=>by
   cases x;exact .str s
 | .bytes b,_,x,_,_=>by
   cases x;have z:=Dw.byt (K:=K) (H:=F6 K h A) b.toArray;exact z
 | .list ds,_,x,p,hu=>by
   obtain⟨a,vs,rfl,ho,hall⟩:=N8 x;obtain⟨h2,hs⟩:=q0 KX ar hu ho;exact .lst hs (O8 KX ar ds _ hall p h2)
 | .tuple ds,_,x,p,hu=>by
   obtain⟨a,vs,rfl,ho,hall⟩:=MM x;obtain⟨h2,hs⟩:=q5 KX ar hu ho;exact .tup hs (O8 KX ar ds _ hall p h2)
 | .float _,_,_,p,_=>ei (show false=true from p)
 | .dict _,_,_,p,_=>ei (show false=true from p)
 | .bytearray _,_,_,p,_=>ei (show false=true from p)
 | .set _,_,_,p,_=>ei (show false=true from p)
 | .frozenset _,_,_,p,_=>ei (show false=true from p)
 | .obj _ _,_,_,p,_=>ei (show false=true from p)
theorem O8 {Pm:vo} (KX:K.In h) (ar:∀a∈A,ArgOb h A a):∀(ds:List mw) (vs:List ah),uN Pm h vs ds->K4 ds=true->(∀u∈vs,OkU A u)->DwAll K (F6 K h A) (vs.map toV) ds
 |[],_,x,_,_=>by
  cases x;exact .nil
 |d::ds,_,x,p,hu=>by
  obtain⟨v,vs,rfl,x1,x2⟩:=N9 x;have q:plW d=true/\K4 ds=true:=vp.mp p;exact .cons (gM KX ar d v x1 q.1 (hu _ (bc ..))) (O8 KX ar ds vs x2 q.2 λu m=>hu u (aq _ m))
end
end
theorem MO {ds:List mw} (h:WData.layableAll ds=true):∀d∈ds,d.weight<=1048576:=λd hd=>
 (PySem.W.layableW_iff.mp (jd.mp h d hd)).2.2
theorem MP:∀(cs:List Codec) (a:sC cs),(rH cs a).length=cs.length
 |[],_=>rfl
 |c::cs,a=>by
  show(rH cs a.2).length+1=cs.length+1;rw[MP cs a.2]
end L2
end
end
section
namespace L2
open PySem PySem.Spec PyProof.Rows
section
variable {P:bb} {w:bw} {K:aa} {mg:Str->Option ah} {base:cq}
theorem Fun.okx {x qual:Str} {st:dh} {f:ag} {fd:dw} {N ps:List Str} {k:Nat} {sp:Sp} (F:Fun K x qual st f fd) (S:FnScope N ps (AH st))
 (hbody:∀(Ac:ah) (A:cz) (outer:List Env) (s:aj) (H:Hp) (vs:List V) (Q:VK) (E:XK),Room k (A.deeper (tj qual (AH st) s.heap.objs.size f Ac))->sp vs H Q E->
  ∃t,PSs (NL (CX1 P w) P w K mg base N qual (AH st) f Ac A outer s H E) (BS st) t/\t { nx:=λ_ H'=>Q .non H',rt:=Q } (FB N vs) H) (len:∀vs H Q E,sp vs H Q E->vs.length=ps.length:=by intro _ _ _ _ h;cases h;rename_i h;exact congrArg ou h.1):FnOk P w K mg base (CX1 P w) (k+1) f fd ps sp:=by
 obtain⟨oc,od,kV,doc,pm,an,Ac,ct,osl,rfl,lk,hcd⟩:=F.ex;exact dW lk hcd S len λA outer s H vs Q E hr hsp=>hbody Ac A outer s H vs Q E hr hsp
theorem Fun.oku {x qual:Str} {st:dh} {f:ag} {fd:dw} {N ps:List Str} {k:Nat} {sp:Sp} (F:Fun K x qual st f fd) (S:FnScope N ps (AH st))
 (hbody:∀(Ac:ah) (A:cz) (outer:List Env) (s:aj) (H:Hp) (vs:List V) (Q:VK) (E:XK),RoomU k (A.deeper (tj qual (AH st) s.heap.objs.size f Ac))->sp vs H Q E->
  ∃t,PSs (QU (CX1 P w) P w K mg base N qual (AH st) f Ac A outer s H E) (BS st) t/\t { nx:=λ_ H'=>Q .non H',rt:=Q } (FB N vs) H) (len:∀vs H Q E,sp vs H Q E->vs.length=ps.length:=by intro _ _ _ _ h;cases h;rename_i h;exact congrArg ou h.1):FnOkU P w K mg base (CX1 P w) (k+1) f fd ps sp:=by
 obtain⟨oc,od,kV,doc,pm,an,Ac,ct,osl,rfl,lk,hcd⟩:=F.ex;exact gG lk hcd S len λA outer s H vs Q E hr hsp=>hbody Ac A outer s H vs Q E hr hsp
end
theorem out_cxU {P:bb} {w:bw} {K:aa} {mg:Str->Option ah} {base:cq} {N:List Str} {qual:Str} {scope:ji} {f:ag} {cd:ah} {A:cz} {outer:List Env} {s:aj} {H:Hp} {E:XK}:
 Out (QU (CX1 P w) P w K mg base N qual scope f cd A outer s H E) E:=by
 intro z7 σ H1 s1 a C fs cx I n q;refine QT (C:=C) (fs:=fs) (cx:=cx) (L:=s.heap.objs.size) rfl rfl I.ok.frames I ?_ λH' s' I' n'=>?_
 ·rcases n with n|⟨L,e,n⟩
  ·exact .inl n
  ·have e':s.heap.objs.size=L:=cu e;subst e';exact .inr n
 ·exact⟨a,C,fs,cx,H',rfl,I'.os,I'.bare,I'.base,I'.hok,n',q⟩
def Def (P:bb) (w:bw) (K:aa) (mg:Str->Option ah) (base:cq) (k:Nat) (x:Str) (ps:List Str) (sp:Sp):Prop:=
 Ex2 λf fd=>mg x=some (.ref f)/\du K (.ref f)=true/\Binds K fd ps []/\FnOk P w K mg base (CX1 P w) k f fd ps sp
def Mth (P:bb) (w:bw) (K:aa) (mg:Str->Option ah) (base:cq) (k:Nat) (C:ag) (m:Str) (ps:List Str) (sp:Sp):Prop:=
 Cls K C/\Ex2 λf fd=>Meth K C m f/\Binds K fd ps []/\FnOk P w K mg base (CX1 P w) k f fd ps sp
def Mkr (P:bb) (w:bw) (K:aa) (mg:Str->Option ah) (base:cq) (k:Nat) (C:ag) (x:Str) (ps:List Str) (sp:Sp):Prop:=
 mg x=some (.ref C)/\Ex2 λf fd=>Mk K C f/\Binds K fd ps []/\FnOk P w K mg base (CX1 P w) k f fd ps sp
def XMr (P:bb) (w:bw) (K:aa) (mg:Str->Option ah) (base:cq) (k:Nat) (C:ag) (x:Str) (ps:List Str) (sp:Sp):Prop:=
 mg x=some (.ref C)/\XCls K C/\Ex2 λf fd=>XMk K C f/\Binds K fd ps []/\FnOkU P w K mg base (CX1 P w) k f fd ps sp
section
variable {X:Cx} {k k':Nat} {x m:Str} {C:ag} {ps:List Str} {sp:Sp} {E:XK} {p pos apos:Pos} {e o:Expr} {es:List Expr} {ta:TE} {t:TA}
theorem Def.call (D:Def X.prog X.w X.K X.mg X.base k x ps sp) (hr:Room k' X.A) (hx:Out X E) (ha:PA X (e::es) t) (hk:k<=k':=by decide) (hg:Gl X x:=by rfl) (hdb:(x==("__debug__":Str))=false:=by decide)
 (he:be (e::es) X.env=(false,eval e X.env)::be es X.env:=by rfl) (hpl:(ig pos (be es X.env)).any (·.1)=false:=by rfl):PE X (.Call (.Name x p) (e::es) [] pos) (KJ sp [] E t):=by
 obtain⟨f,fd,hm,hkp,hb,F⟩:=D;exact bN F (hr.mono hk) hg hm hkp hb .nil hx.passes ha hdb he hpl
theorem Mth.call {pl:Sem Bool} (D:Mth X.prog X.w X.K X.mg X.base k C m ps sp) (ho:PE X o ta) (hr:Room k' X.A) (hx:Out X E) (ha:PA X (e::es) t) (hk:k<=k':=by decide)
 (hst:be (e::es) X.env=(false,eval e X.env)::be es X.env:=by rfl) (hpl:(ig pos (be es X.env)).any (·.1)=false:=by rfl)
 (ht:eval (.Call (.Attribute o m apos) (e::es) [] pos) X.env=(do
  let ov←eval o X.env
  mm apos.atName
  let (f,first)←li [ov] (kj ov m pl)
  mr pos f first (ig pos (be (e::es) X.env)) (jr pos (gq [] X.env))):=by rfl):
 PE X (.Call (.Attribute o m apos) (e::es) [] pos) (UF C m sp [] E ta t):=by
 obtain⟨c,f,fd,hm,hb,F⟩:=D;exact bO ho c hm F (hr.mono hk) hb .nil hx.passes ha hst hpl ht
theorem Mth.call0 {pl:Sem Bool} (D:Mth X.prog X.w X.K X.mg X.base k C m ps sp) (ho:PE X o ta) (hr:Room k' X.A) (hx:Out X E) (hk:k<=k':=by decide)
 (ht:eval (.Call (.Attribute o m apos) [] [] pos) X.env=(do
  let ov←eval o X.env
  mm apos.atName
  let (f,first)←li [ov] (kj ov m pl)
  mr pos f first (ig pos (be [] X.env)) (jr pos (gq [] X.env))):=by rfl):
 PE X (.Call (.Attribute o m apos) [] [] pos) (UF C m sp [] E ta EV):=by
 obtain⟨c,f,fd,hm,hb,F⟩:=D;exact X3 ho c hm F (hr.mono hk) hb .nil hx.passes ht
theorem Mkr.call (D:Mkr X.prog X.w X.K X.mg X.base k C x ps sp) (hr:Room k' X.A) (hx:Out X E) (ha:PA X (e::es) t) (hk:k+1<=k':=by decide) (hg:Gl X x:=by rfl) (hdb:(x==("__debug__":Str))=false:=by decide)
 (he:be (e::es) X.env=(false,eval e X.env)::be es X.env:=by rfl) (hpl:(ig pos (be es X.env)).any (·.1)=false:=by rfl):PE X (.Call (.Name x p) (e::es) [] pos) (UG C sp [] E t):=by
 obtain⟨hm,f,fd,M,hb,F⟩:=D;exact bP M F (hr.mono hk) hg hm hb .nil hx.passes ha hdb he hpl
theorem Mkr.call0 (D:Mkr X.prog X.w X.K X.mg X.base k C x ps sp) (hr:Room k' X.A) (hx:Out X E) (hk:k+1<=k':=by decide) (hg:Gl X x:=by rfl) (hdb:(x==("__debug__":Str))=false:=by decide):
 PE X (.Call (.Name x p) [] [] pos) (UG C sp [] E EV):=by
 obtain⟨hm,f,fd,M,hb,F⟩:=D;exact X4 M F (hr.mono hk) hg hm hb .nil hx.passes hdb
theorem XMr.call (D:XMr X.prog X.w X.K X.mg X.base k C x ps sp) (hr:RoomU k' X.A) (hx:Out X E) (ha:PA X (e::es) t) (hk:k+1<=k':=by decide) (hg:Gl X x:=by rfl) (hdb:(x==("__debug__":Str))=false:=by decide)
 (he:be (e::es) X.env=(false,eval e X.env)::be es X.env:=by rfl) (hpl:(ig pos (be es X.env)).any (·.1)=false:=by rfl):PE X (.Call (.Name x p) (e::es) [] pos) (MG C sp E t):=by
 obtain⟨hm,_,f,fd,M,hb,F⟩:=D;exact YJ M F (hr.mono hk) hg hm hb hx.passes ha hdb he hpl
theorem XMr.call0 (D:XMr X.prog X.w X.K X.mg X.base k C x ps sp) (hr:RoomU k' X.A) (hx:Out X E) (hk:k+1<=k':=by decide) (hg:Gl X x:=by rfl) (hdb:(x==("__debug__":Str))=false:=by decide):
 PE X (.Call (.Name x p) [] [] pos) (MG C sp E EV):=by
 obtain⟨hm,_,f,fd,M,hb,F⟩:=D;exact WM M F (hr.mono hk) hg hm hb hx.passes hdb
end
section
variable {X:Cx}
theorem LI:OpR X (rZ .Mult) (rI IntMulOk λi j=>.int (i*j)):=opI λ_ _ _ _ _ _ _ hc q=>mul_int q hc
def lM (i j:Int):Prop:=0<j/\j<2 ^ 1000
theorem YQ:OpR X (rZ .FloorDiv) (rI lM λi j=>.int (i / j)):=opI λi j _ _ _ _ _ hc q=>by
 have h0:j.natAbs<2 ^ 1000:=by have:=hc.1;have:=hc.2;omega
 have hl:j.natAbs.log2<9000:=by
  have hne:j.natAbs≠0:=by have:=hc.1;omega
  have h1:2 ^ j.natAbs.log2<=j.natAbs:=Nat.log2_self_le hne;have h2:2 ^ j.natAbs.log2<2 ^ 1000:=tD h1 h0;have h3:=(Nat.pow_lt_pow_iff_right (by decide:1<2)).mp h2;omega
 have e:i / j=i.fdiv j:=(sW i (Int.le_of_lt hc.1)).symm;rw[e] at q;exact floordiv_int (by have:=hc.1;omega) q (.inl (PyProof.noPylong_of_log2 hl))
end
def Sb (r:ag) (H H':Hp):Prop:=∀b o,H b=some o->b≠r->H' b=some o
theorem Sb.trans {r:ag} {H H1 H2:Hp} (a:Sb r H H1) (b:Sb r H1 H2):Sb r H H2:=λc o e n=>b c o (a c o e n) n
theorem Sb.refl {r:ag} {H:Hp}:Sb r H H:=λ_ _ e _=>e
theorem Same.sb {r:ag} {H H':Hp} (s:Same H H'):Sb r H H':=λb o e _=>s b o e
theorem Same.upd {H:Hp} {a:ag} {o:HO} (n:H a=none):Same H (upd H a o):=λb u e=>by rw[AE (AG e n)];exact e
theorem Same.tup {K:aa} {H H':Hp} {a:ag} {xs:List V} (e:Same H H') (h:SqT K H a xs):SqT K H' a xs:=by
 rcases h with(h|⟨o,h⟩)|h
 ·exact .inl (.inl (e _ _ h))
 ·exact .inl (.inr ⟨o,e _ _ h⟩)
 ·exact .inr h
end L2
end
section
namespace L2
open PySem PySem.Spec PyProof.Rows
section
variable {t0 t1 t2 t3 t4 t5 t6 t7 t8 t9:TS} {D:Ends} {σ:St} {H:Hp}
theorem lb1 (h:let U1:=t1;let D':=D;let σ':=σ;AT t0 U1 D' σ' H):(AT t0 t1) D σ H:=h
theorem lb2 (h:let U2:=t2;let U1:=AT t1 U2;let D':=D;let σ':=σ;AT t0 U1 D' σ' H):(AT t0 (AT t1 t2)) D σ H:=h
theorem lb3 (h:let U3:=t3;let U2:=AT t2 U3;let U1:=AT t1 U2;let D':=D;let σ':=σ;AT t0 U1 D' σ' H):(AT t0 (AT t1 (AT t2 t3))) D σ H:=h
theorem lb4 (h:let U4:=t4;let U3:=AT t3 U4;let U2:=AT t2 U3;let U1:=AT t1 U2;let D':=D;let σ':=σ;AT t0 U1 D' σ' H):(AT t0 (AT t1 (AT t2 (AT t3 t4)))) D σ H:=h
theorem lb5 (h:let U5:=t5;let U4:=AT t4 U5;let U3:=AT t3 U4;let U2:=AT t2 U3;let U1:=AT t1 U2;let D':=D;let σ':=σ;AT t0 U1 D' σ' H):(AT t0 (AT t1 (AT t2 (AT t3 (AT t4 t5))))) D σ H:=h
theorem lb6 (h:let U6:=t6;let U5:=AT t5 U6;let U4:=AT t4 U5;let U3:=AT t3 U4;let U2:=AT t2 U3;let U1:=AT t1 U2;let D':=D;let σ':=σ;AT t0 U1 D' σ' H):(AT t0 (AT t1 (AT t2 (AT t3 (AT t4 (AT t5 t6)))))) D σ H:=h
theorem lb7 (h:let U7:=t7;let U6:=AT t6 U7;let U5:=AT t5 U6;let U4:=AT t4 U5;let U3:=AT t3 U4;let U2:=AT t2 U3;let U1:=AT t1 U2;let D':=D;let σ':=σ;AT t0 U1 D' σ' H):(AT t0 (AT t1 (AT t2 (AT t3 (AT t4 (AT t5 (AT t6 t7))))))) D σ H:=h
theorem lb8 (h:let U8:=t8;let U7:=AT t7 U8;let U6:=AT t6 U7;let U5:=AT t5 U6;let U4:=AT t4 U5;let U3:=AT t3 U4;let U2:=AT t2 U3;let U1:=AT t1 U2;let D':=D;let σ':=σ;AT t0 U1 D' σ' H):(AT t0 (AT t1 (AT t2 (AT t3 (AT t4 (AT t5 (AT t6 (AT t7 t8)))))))) D σ H:=h
theorem lb9 (h:let U9:=t9;let U8:=AT t8 U9;let U7:=AT t7 U8;let U6:=AT t6 U7;let U5:=AT t5 U6;let U4:=AT t4 U5;let U3:=AT t3 U4;let U2:=AT t2 U3;let U1:=AT t1 U2;let D':=D;let σ':=σ;AT t0 U1 D' σ' H):(AT t0 (AT t1 (AT t2 (AT t3 (AT t4 (AT t5 (AT t6 (AT t7 (AT t8 t9))))))))) D σ H:=h
theorem lb0 (h:let D':=D;let σ':=σ;t0 D' σ' H):t0 D σ H:=h
end
theorem AX {X:Cx} {x:Str} {e:Expr} {te:TE} {pos pos':Pos} {N ps:List Str} {sc:ji} (i:Nat) (S:FnScope N ps sc) (he:PE X e te) (hN:X.N=N:=by rfl) (hi:X.N[i]? =some x:=by rfl) (hx:Loc X.env.scope x:=by first|exact uK rfl|exact yU rfl) (hs:pf e (some (.Name x pos')) pos.line X.env=pure false:=by rfl) (hf:X.fn x=true\/X.env.scope.names.lookup x=some .local:=by first|exact .inl rfl|exact .inr rfl|assumption):
 PS X (.Assign [.Name x pos'] e pos) (XR te (LS i)):=fS (hN▸S.nd) hi hx he hs hf
theorem DW {X:Cx} {x:Str} {pos:Pos} {N ps:List Str} {sc:ji} (i:Nat) (S:FnScope N ps sc) (hN:X.N=N:=by rfl) (hi:X.N[i]? =some x:=by rfl) (hx:Loc X.env.scope x:=by first|exact uK rfl|exact yU rfl) (hf:X.fn x=true\/X.env.scope.names.lookup x=some .local:=by first|exact .inl rfl|exact .inr rfl|assumption):PG X (.Name x pos) (LS i):=bH (hN▸S.nd) hi hx hf
end L2
end
local macro_rules|`(tactic| and_intros)=>`(tactic| first|(refine L2.lb9 ?_;intros)|(refine L2.lb8 ?_;intros)|(refine L2.lb7 ?_;intros)|(refine L2.lb6 ?_;intros)|(refine L2.lb5 ?_;intros)|(refine L2.lb4 ?_;intros)|(refine L2.lb3 ?_;intros)|(refine L2.lb2 ?_;intros)|(refine L2.lb1 ?_;intros))
local macro_rules|`(tactic| subst_eqs)=>`(tactic| (refine L2.lb0 ?_;intros))
section
namespace Lt
open PySem PySem.Spec PyProof.Rows L2
variable {f a C CR CT r ta CI CL CN:ag} {fd:dw} {X:Cx} {x:List Int} {i n e p q:Nat} {pos:Pos} {z dz fz:Str} {xs:List V} {H H' H1:Hp} {E:XK} {cs t ci ct:List UInt8} {α β:Type} {Q:VK} {ls:List (List Int)} {P:bb} {w:bw} {h:cq} {ps:List Str} {hg:List Int->Nat}
def top (i:Nat):dh:=PySem.Challenge.pw_lutesounds_s05_span.main.body.getD i (.Pass ⟨0,0,0,0⟩)
abbrev EG:dh:=top 6
abbrev B7:dh:=top 7
abbrev FI:dh:=top 8
abbrev IJ:dh:=top 9
abbrev MQ:dh:=top 10
abbrev IK:dh:=top 11
abbrev FJ:dh:=top 12
abbrev O9:dh:=top 13
abbrev DY:dh:=BG (top 15) 0
abbrev EY:dh:=BG (top 16) 0
abbrev EZ:dh:=BG (top 17) 0
abbrev FK:dh:=BG (top 18) 0
abbrev FL:dh:=BG (top 19) 0
abbrev CY:dh:=BG (top 20) 0
abbrev E0:dh:=BG (top 21) 0
abbrev FM:dh:=top 25
abbrev FN:dh:=BG (top 26) 0
abbrev E1:dh:=BG (top 26) 1
abbrev FO:dh:=BG (top 26) 2
abbrev FP:dh:=BG (top 26) 3
abbrev FQ:dh:=BG (top 26) 4
abbrev FS:dh:=BG (top 26) 5
abbrev CJ:dh:=BG (top 26) 6
abbrev EH:dh:=top 30
abbrev FT:dh:=top 31
abbrev E2:dh:=top 32
abbrev DP:dh:=top 33
abbrev GB:dh:=top 34
abbrev FU:dh:=top 35
abbrev DQ:dh:=BG (top 43) 0
abbrev BX:dh:=BG (top 43) 1
abbrev B8:dh:=BG (top 43) 2
abbrev DA:dh:=BG (top 43) 3
abbrev DR:dh:=top 44
abbrev BY:dh:=top 45
abbrev B5:dh:=top 47
abbrev GX:dh:=top 49
abbrev FV:dh:=top 50
abbrev GY:dh:=top 51
abbrev GZ:dh:=top 52
abbrev G0:dh:=top 53
abbrev G1:dh:=BG (top 55) 0
abbrev G2:dh:=top 56
abbrev GC:dh:=top 57
abbrev G3:dh:=top 58
abbrev BJ:dh:=top 59
abbrev BN:dh:=top 60
abbrev CZ:dh:=top 71
abbrev CP:dh:=top 72
abbrev C0:dh:=top 73
abbrev G4:dh:=top 74
abbrev IL:dh:=top 75
abbrev DB:dh:=top 76
abbrev DC:dh:=top 77
abbrev DD:dh:=top 78
abbrev EI:dh:=top 79
abbrev G5:dh:=BG (top 87) 0
abbrev FW:dh:=BG (top 87) 1
abbrev GD:dh:=top 88
abbrev G6:dh:=top 89
abbrev DE:dh:=top 90
abbrev CQ:dh:=top 92
abbrev GE:dh:=top 94
abbrev DZ:dh:=BG (top 98) 0
abbrev PB:dh:=top 99
abbrev D0:dh:=top 100
abbrev E3:dh:=top 101
abbrev FX:dh:=top 102
abbrev EJ:dh:=top 103
abbrev IM:dh:=top 104
abbrev EK:dh:=top 105
abbrev G7:dh:=top 106
structure Blt (mg:Str->Option ah):Prop where
 abs:mg "abs"=none
 len:mg "len"=none
 range:mg "range"=none
 enum:mg "enumerate"=none
 ord:mg "ord"=none
 list:mg "list"=none
 tuple:mg "tuple"=none
 rev:mg "reversed"=none
 sum:mg "sum"=none
theorem MR:jo "abs"=some (.builtin "abs"):=by decide +kernel
theorem YR:jo "ord"=some (.builtin "ord"):=by decide +kernel
theorem Q5:jo "tuple"=some (.type "tuple"):=by decide +kernel
theorem Q6:jo "list"=some (.type "list"):=by decide +kernel
section
variable {P:bb} {w:bw} {K:aa} {mg:Str->Option ah} {base:cq}
def gN:Sp:=λvs H Q _=>Ex2 λx y:Int=>vs=[.int x,.int y]/\Q (.int (pp x y)) H
theorem OA:FnScope ["x","y","rest"] ["x","y"] (AH EG):={}
theorem PD (x:Int):(if x<0 then -x else x)=(x.natAbs:Int):=by split<;>omega
theorem lN (F:Fun K "common_factor" "common_factor" EG f fd) (B:Blt mg):FnOk P w K mg base (CX1 P w) 1 f fd ["x","y"] gN:=by
 refine F.okx OA λAc A outer s H vs Q E hr h=>?_;obtain⟨x,y,rfl,k⟩:=h;refine⟨_,AB (AX 0 OA (AW LW (by rfl) B.abs MR (AA (pv 0) AF)))
  (AB (AX 1 OA (AW LW (by rfl) B.abs MR (AA (pv 1) AF)))
  (AB (B4 bq (AO E9 (pv 1) AI (AQ _))
   (AB (AX 2 OA (BD R7 (pv 0) (pv 1)))
   (AB (AX 0 OA (pv 1)) (AC (AX 1 OA (pv 2))))))
  (AC (AL (pv 0))))),?_⟩
 and_intros
 refine⟨_,rfl,x,rfl,_,rfl,y,rfl,?_⟩;rw[PD,PD];refine QH (λσ H'=>H'=H/\Ex3 λ(m n:Nat) (r:Option V)=>σ=[some (.int m),some (.int n),r]/\nw m n=pp x y) (λσ _=>match σ with|[_,some (.int n),_]=>n.toNat|_=>0)
  ⟨rfl,x.natAbs,y.natAbs,none,rfl,rfl⟩ ?_ ?_
 ·rintro σ H' ⟨rfl,m,n,r,rfl,g⟩;refine⟨_,rfl,_,_,rfl,rfl,_,rfl,?_⟩;refine CF (λhn=>?_) (λhn=>?_)
  ·have hn0:0<(n:Int):=by simpa using hn
   refine⟨_,rfl,_,rfl,_,_,rfl,rfl,hn0,_,rfl,_,rfl,⟨rfl,n,m%n,some (.int (m%n:Nat)),?_,?_⟩,?_⟩
   ·simp
   ·rw[←g,wr m n,Nat.gcd_rec n m,wr]
   ·show((m:Int)%(n:Int)).toNat<(n:Int).toNat;have:=Int.emod_lt_of_pos (m:Int) hn0;have:=Int.emod_nonneg (m:Int) (by omega:(n:Int)≠0);omega
  ·have hn0:n=0:=by
    have:¬(0:Int)<n:=by simpa using hn
    omega
   subst hn0;refine⟨_,rfl,?_⟩;rw[Nat.gcd_zero_right] at g;rw[g];exact k
 ·rintro σ H' Q1 Q2 hq ⟨v1,e1,z1⟩;exact⟨v1,e1,let ⟨i,j,a,b,c,d,e⟩:=z1;⟨i,j,a,b,c,d,hq _ _ e⟩⟩
end
open PySem PySem.Spec PyProof.Rows L2
def GI (mg:Str->Option ah) (x:Str) (i:Int):Prop:=∃u,mg x=some u/\RelV (.int i) u
def GS (mg:Str->Option ah) (x:Str) (z:Str):Prop:=∃u,mg x=some u/\RelV (.str z) u
def GT (K:aa) (mg:Str->Option ah) (x:Str) (xs:List V):Prop:=∃a,mg x=some (.ref a)/\∀H,SqT K H a xs
theorem B6 {x:Str} {i:Int} (h:GI X.mg x i) (hg:Gl X x:=by rfl) (hd:(x==("__debug__":Str))=false:=by decide):PE X (.Name x pos) (tC (.int i)):=
 let ⟨_,hm,r⟩:=h;OX hg hm r hd
theorem E4 {x:Str} (h:GS X.mg x z) (hg:Gl X x:=by rfl) (hd:(x==("__debug__":Str))=false:=by decide):PE X (.Name x pos) (tC (.str z)):=
 let ⟨_,hm,r⟩:=h;OX hg hm r hd
def tGT (K:aa) (xs:List V):TE:=λ_ H Q=>∀a,(∀H',SqT K H' a xs)->Q (.ref a) H
theorem OB {x:Str} (h:GT X.K X.mg x xs) (hg:Gl X x:=by rfl) (hd:(x==("__debug__":Str))=false:=by decide):PE X (.Name x pos) (tGT X.K xs):=by
 obtain⟨a,hm,r⟩:=h;intro z7 s σ H Q I q;exact OX (v:=.ref a) hg hm rfl hd z7 s σ H Q I (q a r)
section
variable {P:bb} {w:bw} {K:aa} {mg:Str->Option ah} {base:cq}
def GF (g:Nat) (l:List Int):Nat:=l.foldl (λ(g:Nat) (x:Int)=>pp g x) g
def BZ (l:List Int):Nat:=GF 0 l
def YS (K:aa):Sp:=λvs H Q _=>Ex2 λ(a:ag) (l:List Int)=>vs=[.ref a]/\(SqL K H a (l.map V.int)\/SqT K H a (l.map V.int))/\Q (.int (BZ l)) H
theorem IN:FnScope ["numbers","common","number"] ["numbers"] (AH B7):={}
theorem Q7 {l:List Int} {z:Int} (h:l[i]? =some z):BZ (l.take (i+1))=pp (BZ (l.take i)) z:=by
 rw[eq,h];unfold BZ GF;rw[wt];rfl
theorem LJ {l:List Int} {y:V} (h:(l.map V.int)[i]? =some y):∃z,l[i]? =some z/\y= .int z:=by
 rw[az] at h;cases e:l[i]? with
 |none=>rw[e] at h;cases h
 |some z=>rw[e] at h;exact⟨z,rfl,(cu h).symm⟩
theorem gO (F:Fun K "common_factor_of_all" "common_factor_of_all" B7 f fd) (D1:Def P w K mg base 1 "common_factor" ["x","y"] gN):
 FnOk P w K mg base (CX1 P w) 2 f fd ["numbers"] (YS K):=by
 refine F.okx IN λAc A outer s H vs Q E hr h=>?_;obtain⟨a,l,rfl,hl|hl,k⟩:=h
 ·refine⟨_,AB (AX 1 IN AI) (AB (CD bq rfl (DI (pv 0)) (DW 2 IN)
   (AC (AX 1 IN (D1.call hr AD (AA (pv 1) (AA (pv 2) AF)))))) (AC (AL (pv 1)))),?_⟩
  and_intros
  refine⟨_,rfl,a,rfl,⟨_,hl⟩,DJ (K:=K) (a:=a) (xs:=l.map V.int) (λi σ H'=>H'=H/\∃r,σ=[some (.ref a),some (.int (BZ (l.take i))),r]) ⟨rfl,none,rfl⟩ (λi σ H' _ ⟨e,_⟩=>e▸hl) ?_ ?_⟩
  ·rintro i y σ H' hi ⟨rfl,r,rfl⟩
   subst_eqs
   obtain⟨z,hz,rfl⟩:=LJ hi;refine⟨_,rfl,_,rfl,_,_,rfl,rfl,some (.int z),?_⟩;rw[Q7 hz];rfl
  ·rintro σ H' ⟨rfl,r,rfl⟩;rw[ai,fv];exact⟨_,rfl,k⟩
 ·refine⟨_,AB (AX 1 IN AI) (AB (CD bq rfl (XT (pv 0)) (DW 2 IN)
   (AC (AX 1 IN (D1.call hr AD (AA (pv 1) (AA (pv 2) AF)))))) (AC (AL (pv 1)))),?_⟩
  and_intros
  refine⟨_,rfl,a,rfl,⟨_,hl⟩,UA (K:=K) (a:=a) (xs:=l.map V.int) (λi σ H'=>H'=H/\∃r,σ=[some (.ref a),some (.int (BZ (l.take i))),r]) ⟨rfl,none,rfl⟩ (λi σ H' _ ⟨e,_⟩=>e▸hl) ?_ ?_⟩
  ·rintro i y σ H' hi ⟨rfl,r,rfl⟩
   subst_eqs
   obtain⟨z,hz,rfl⟩:=LJ hi;refine⟨_,rfl,_,rfl,_,_,rfl,rfl,some (.int z),?_⟩;rw[Q7 hz];rfl
  ·rintro σ H' ⟨rfl,r,rfl⟩;rw[ai,fv];exact⟨_,rfl,k⟩
def FY (l:List Int):Bool:=(l.take 4).all (λp=>decide (p.natAbs<=99))&&(decide (1<=l.getD 4 0)&&decide (l.getD 4 0<=24)&&decide (BZ l=1))
def gP (K:aa):Sp:=λvs H Q _=>Ex2 λ(a:ag) (l:List Int)=>vs=[.ref a]/\SqT K H a (l.map V.int)/\l.length=5/\∀H',Same H H'->Q (.bl (FY l)) H'
theorem d7:FnScope ["numbers","power"] ["numbers"] (AH FI):={}
theorem WQ {l:List Int} {z:Int} (h:(l.take 4)[i]? =some z) (hz:99<z.natAbs):FY l=false:=by
 have hm:z∈l.take 4:=bo h;unfold FY;have:(l.take 4).all (λp=>decide (p.natAbs<=99))=false:=by
  rw[wu];exact⟨z,hm,by simp;omega⟩
 rw[this];rfl
theorem lO (F:Fun K "is_interval" "is_interval" FI f fd) (B:Blt mg) (gw:GI mg "WIDEST_POWER" 99) (gf:GI mg "FINEST_PART" 24) (D1:Def P w K mg base 2 "common_factor_of_all" ["numbers"] (YS K)):
 FnOk P w K mg base (CX1 P w) 3 f fd ["numbers"] (gP K):=by
 refine F.okx d7 λAc A outer s H vs Q E hr h=>?_;obtain⟨a,l,rfl,hl,h5,k⟩:=h;refine⟨_,AB (AZ (AO dS (AW AN (by rfl) B.len cy (AA (pv 0) AF)) AI (AQ _)) (AC (AL QF)) AM)
  (AB (CD bq rfl (XT (X9 f6 (pv 0) bR (bS AI))) (DW 1 d7)
   (AC (AZ (AO E9 (AW LW (by rfl) B.abs MR (AA (pv 1) AF)) (B6 gw) (AQ _)) (AC (AL QF)) AM)))
  (AC (AL (XO (XW LV LV AI (BO DO (pv 0) AI (λ_ _=>rfl)) (B6 gf))
   (XN (DL C1 (D1.call hr AD (AA (pv 0) AF)) AI (AQ _))))))),?_⟩
 and_intros
 refine⟨_,rfl,a,l.map V.int,rfl,.inr hl,rfl,_,rfl,?_⟩;refine lC (by rw[ai,h5];rfl) ?_;have hc:QL (l.map V.int) none (some 4)=(l.take 4).map V.int:=by
  unfold QL;rw[ai,h5,yG];rfl
 refine⟨_,rfl,4,rfl,a,l.map V.int,rfl,hl,?_,λp hp=>⟨p,rfl,⟨_,SqT.of upd_same⟩,?_⟩⟩
 ·rw[ai,h5];decide
 rw[hc];have s1:Same H (upd H p (.tup ((l.take 4).map V.int))):=Same.upd hp;refine UA (K:=K) (a:=p) (xs:=(l.take 4).map V.int) (λi σ H'=>H'=upd H p (.tup ((l.take 4).map V.int))/\(∃r,σ=[some (.ref a),r])/\((l.take 4).take i).all (λp=>decide (p.natAbs<=99))=true) ⟨rfl,⟨none,rfl⟩,rfl⟩
  (λi σ H' _ ⟨e,_⟩=>by rw[e];exact SqT.of upd_same) ?_ ?_
 ·rintro i y σ H' hi ⟨rfl,⟨r,rfl⟩,ha⟩
  subst_eqs
  obtain⟨z,hz,rfl⟩:=LJ hi;refine⟨_,rfl,z,rfl,_,_,rfl,rfl,_,rfl,?_⟩;rw[PD];refine CF (λh=>?_) (λh=>?_)
  ·have h9:(99:Int)<z.natAbs:=by simpa using h
   have e:=WQ hz (by omega);have q:=k _ s1;rw[e] at q;exact q
  ·have h9:¬(99:Int)<z.natAbs:=by simpa using h
   refine⟨rfl,⟨some (.int z),rfl⟩,?_⟩;rw[eq,hz,xq,ha];simp;omega
 ·rintro σ H' ⟨rfl,⟨r,rfl⟩,ha⟩;rw[ai,fv] at ha;obtain⟨d,hd⟩:∃d,l[4]? =some d:=⟨_,am (by omega:4<l.length)⟩
  have eg:l.getD 4 0=d:=by simp[uq,hd]
  refine⟨_,rfl,a,l.map V.int,4,.int d,rfl,rfl,s1.tup hl,EO (by rw[az,hd];rfl),_,_,rfl,rfl,_,rfl,?_⟩;have q:=k _ s1;unfold FY at q;rw[ha,eg,rW] at q;refine CF (λh=>?_) (λh=>?_)
  ·have h1:(1:Int)<=d:=by simpa using h
   rw[decide_eq_true h1,rW] at q;refine⟨_,_,rfl,rfl,_,rfl,?_⟩;refine CF (λh'=>?_) (λh'=>?_)
   ·have h2:d<=24:=by simpa using h'
    rw[decide_eq_true h2,rW] at q;refine⟨_,rfl,a,l,rfl,.inr (s1.tup hl),rfl,?_⟩;have e:decide (V.int ((BZ l:Nat):Int)=V.int 1)=decide (BZ l=1):=by
     rw[decide_eq_decide];constructor
     ·intro z;injection z with z;omega
     ·intro z;rw[z];rfl
    rw[e];exact q
   ·have h2:¬d<=24:=by simpa using h'
    rw[decide_eq_false h2,sV] at q;exact q
  ·have h1:¬(1:Int)<=d:=by simpa using h
   rw[decide_eq_false h1,sV,sV] at q;exact⟨_,rfl,BM q⟩
end
open PySem PySem.Spec PyProof.Rows L2
section
variable {P:bb} {w:bw} {K:aa} {mg:Str->Option ah} {base:cq}
theorem FD (K:aa) (h:X.K=K:=by rfl):IxR X (kZ K):=h▸DO
def SqE (K:aa) (H:Hp) (p:ag) (xs:List V):Prop:=SqL K H p xs\/SqT K H p xs
theorem _root_.L2.Same.sqe {K:aa} (e:Same H H') (h:SqE K H a xs):SqE K H' a xs:=h.imp e.seq e.tup
def lP (K:aa):R2:=λx y H Q=>IxAt (SqE K H) x y λv=>Q v H
theorem lQ:IxR X (lP X.K):=by
 intro value slice z7 s σ H x y v u Q I rx ry q hs;obtain⟨p,xs,i,w,e,e',h1|h1,h2,h⟩:=q
 ·exact DN value slice z7 s σ H x y v u Q I rx ry ⟨p,xs,i,w,e,e',h1,h2,h⟩ hs
 ·exact DO value slice z7 s σ H x y v u Q I rx ry ⟨p,xs,i,w,e,e',h1,h2,h⟩ hs
theorem d8 (K:aa) (h:X.K=K:=by rfl):IxR X (lP K):=h▸lQ
def K5 (x y:List Int) (k:Nat):Int:=x.getD k 0*y.getD 4 0+y.getD k 0*x.getD 4 0
def D7 (x y:List Int):List Int:=(jm 4).map (K5 x y)++[x.getD 4 0*y.getD 4 0]
def BW (x y:List Int):List Int:=(D7 x y).map λz=>z / (BZ (D7 x y):Int)
def cB (K:aa):Sp:=λvs H Q _=>Ex4 λ(ax ay:ag) (x y:List Int)=>vs=[.ref ax,.ref ay]/\SqE K H ax (x.map V.int)/\SqT K H ay (y.map V.int)/\x.length=5/\y.length=5/\(∀z∈x,z.natAbs<2 ^ 60)/\
 0<x.getD 4 0/\0<y.getD 4 0/\y.getD 4 0<2 ^ 60/\∀H' r,Same H H'->H' r=some (.tup ((BW x y).map V.int))->Q (.ref r) H'
theorem sc_up:FnScope ["x","y","numbers","common","k","number"] ["x","y"] (AH IJ):={}
def LK:Expr->ji
 | .ListComp _ _ sc _=>sc
 | .Call _ (e::_) _ _=>LK e
 |_=>{ kind:=.function,names:=[],isGenerator:=false,isCoroutine:=false }
def rhs:dh->Expr
 | .Assign _ e _=>e
 | .Return (some e) _=>e
 |_=>.Constant .none 0 ⟨0,0,0,0⟩
theorem cC:BlkOk ["x","y","numbers","common","k","number"] (AH IJ) (LK (rhs ((BS IJ).getD 0 (.Pass ⟨0,0,0,0⟩)))) [("k",4)]:={}
theorem cD:BlkOk ["x","y","numbers","common","k","number"] (AH IJ) (LK (rhs ((BS IJ).getD 3 (.Pass ⟨0,0,0,0⟩)))) [("number",5)]:={}
theorem EL {l:List Int} {z:Int} (hz:(i:Int)=z) (hi:i<l.length):atI (l.map V.int) z=some (.int (l.getD i 0)):=by
 rw[←hz];exact EO (by rw[az,am hi];simp[uq,am hi])
theorem YT {l:List Int} (hi:i<l.length):l.getD i 0∈l:=by
 simp[uq,am hi]
theorem JA:∀(l:List Int) (g:Nat),GF g l∣g/\∀z∈l,((GF g l:Nat):Int)∣z
 |[],g=>⟨wv _,λz h=>by simp at h⟩
 |x::l,g=>by
  obtain⟨h1,h2⟩:=JA l (pp g x);have e:GF g (x::l)=GF (pp g x) l:=rfl;rw[e];refine⟨oj h1 ?_,λz hz=>?_⟩
  ·have:=Int.gcd_dvd_left (a:=(g:Int)) (b:=x);exact ur.mp this
  ·rcases bg.mp hz with rfl|hz
   ·exact Int.dvd_trans (ur.mpr h1) (Int.gcd_dvd_right ..)
   ·exact h2 z hz
theorem IO {l:List Int} {z:Int} (h:z∈l):((BZ l:Nat):Int)∣z:=(JA l 0).2 z h
theorem JY (x y:List Int):x.getD 4 0*y.getD 4 0∈D7 x y:=by unfold D7;simp
theorem US {y:List Int} (hx:0<x.getD 4 0) (hy:0<y.getD 4 0):0<(BZ (D7 x y):Int):=by
 have h:0<x.getD 4 0*y.getD 4 0:=xh hx hy;have hd:=IO (JY x y);obtain⟨q,hq⟩:=hd;by_cases h0:BZ (D7 x y)=0
 ·rw[h0] at hq;have hq':x.getD 4 0*y.getD 4 0=0:=by rw[hq];exact Int.zero_mul q
  omega
 ·omega
theorem lR (F:Fun K "upon" "upon" IJ f fd) (B:Blt mg) (D1:Def P w K mg base 2 "common_factor_of_all" ["numbers"] (YS K)):
 FnOk P w K mg base (CX1 P w) 3 f fd ["x","y"] (cB K):=by
 refine F.okx sc_up λAc A outer s H vs Q E hr h=>?_;obtain⟨ax,ay,x,y,rfl,hx,hy,h5,g5,bx,px,py,by4,k⟩:=h;refine⟨_,AB (N6 (i:=2) (own:=[("k",4)]) rfl sc_up.nd rfl rfl (by rfl) (WF (by rfl) B.range (AA AI AF)) cC (λ_ _ _ _ _=>DW 4 sc_up) (λ_ _ _ _ _=>O3)
  (λ_ _ _ _ _=>BD DK (BD IF (BO (d8 K) (pv 0) (pv 4) (λ_ _=>rfl)) (BO (FD K) (pv 1) AI (λ_ _=>rfl))) (BD IF (BO (FD K) (pv 1) (pv 4) (λ_ _=>rfl)) (BO (d8 K) (pv 0) AI (λ_ _=>rfl)))))
  (AB (AY (GJ de fj fk CV (pv 2) (AA (BD IF (BO lQ (pv 0) AI (λ_ _=>rfl)) (BO DO (pv 1) AI (λ_ _=>rfl))) AF)))
  (AB (AX 3 sc_up (D1.call hr AD (AA (pv 2) AF)))
  (AC (AL (JS HY (by rfl) B.tuple Q5 (AA (gK (own:=[("number",5)]) rfl sc_up.nd (DI (pv 2)) cD (λ_ _ _ _ _=>DW 5 sc_up) (λ_ _ _ _ _=>O3)
   (λ_ _ _ _ _=>BD YQ (pv 5) (pv 3))) AF)))))),?_⟩
 and_intros
 have x4:(x.getD 4 0).natAbs<2 ^ 60:=bx _ (YT (by omega));refine⟨4,rfl,by decide,by decide,λD1' hD1=>SR (n:=4) (λi H'=>H'=upd H D1' (.lst (((jm i).map (K5 x y)).map V.int))) rfl (λi H' hi _=>hi) (λH' _=>aw _) ?_ ?_⟩
 ·rintro i v H1 H2 hi rfl ⟨rfl,rfl⟩;have s1:Same H (upd H D1' (.lst (((jm i).map (K5 x y)).map V.int))):=Same.upd hD1;refine⟨rfl,?_⟩;have xi:(x.getD i 0).natAbs<2 ^ 60:=bx _ (YT (by omega));refine⟨_,rfl,_,rfl,ax,_,_,_,rfl,rfl,s1.sqe hx,EL (i:=i) (by omega) (by omega),_,rfl,ay,_,_,_,rfl,rfl,s1.tup hy,EL (i:=4) rfl (by omega),_,_,rfl,rfl,.inl ⟨by omega,by omega⟩,
   _,rfl,_,rfl,ay,_,_,_,rfl,rfl,s1.tup hy,EL (i:=i) (by omega) (by omega),_,rfl,ax,_,_,_,rfl,rfl,s1.sqe hx,EL (i:=4) rfl (by omega),_,_,rfl,rfl,.inr ⟨by omega,by omega⟩,_,_,rfl,rfl,_,upd_same,?_,?_⟩
  ·rw[ai,ai,lq,bz];omega
  ·funext b;by_cases hb:b=D1'
   ·subst hb;rw[upd_same,upd_same,uW,ff,ff];rfl
   ·rw[AE hb,AE hb,AE hb]
 ·rintro H1 rfl;have s1:Same H (upd H D1' (.lst (((jm 4).map (K5 x y)).map V.int))):=Same.upd hD1;refine⟨_,rfl,.inl ⟨rfl,_,SqL.of upd_same⟩,_,rfl,ax,_,_,_,rfl,rfl,s1.sqe hx,EL (i:=4) rfl (by omega),_,rfl,ay,_,_,_,rfl,rfl,s1.tup hy,EL (i:=4) rfl (by omega),_,_,rfl,rfl,.inl ⟨by omega,by omega⟩,
   D1',_,_,rfl,rfl,upd_same,?_,?_⟩
  ·rw[ai,ai,lq,bz];omega
  have e1:((jm 4).map (K5 x y)).map V.int++[V.int (x.getD 4 0*y.getD 4 0)]=(D7 x y).map V.int:=by unfold D7;rw[ff];rfl
  rw[e1];have s2:Same H (upd (upd H D1' (.lst (((jm 4).map (K5 x y)).map V.int))) D1' (.lst ((D7 x y).map V.int))):=λb o e=>by
   have n:=AG e hD1;rw[AE n,AE n];exact e
  generalize hH2:upd (upd H D1' (.lst (((jm 4).map (K5 x y)).map V.int))) D1' (.lst ((D7 x y).map V.int))=H2;rw[hH2] at s2;have l2:H2 D1'=some (.lst ((D7 x y).map V.int)):=by rw[←hH2];exact upd_same
  refine⟨_,rfl,D1',D7 x y,rfl,.inl (SqL.of l2),?_⟩;have gp:=US (x:=x) (y:=y) px py;have gb:(BZ (D7 x y):Int)<2 ^ 1000:=by
   have h1:(BZ (D7 x y):Int)<=x.getD 4 0*y.getD 4 0:=Int.le_of_dvd (xh px py) (IO (JY x y));have h2:x.getD 4 0*y.getD 4 0<=2 ^ 60*2 ^ 60:=x5 (by omega) (by omega) (by omega) (by decide);have h3:(2:Int) ^ 60*2 ^ 60<2 ^ 1000:=by decide
   omega
  refine⟨_,rfl,D1',rfl,⟨_,SqL.of l2⟩,λD2 hD2=>SR (n:=(D7 x y).length) (λi H'=>H'=upd H2 D2 (.lst (((BW x y).take i).map V.int))) (by simp) (λi H' hi e=>?_) (λH' e=>?_) ?_ ?_⟩
  ·subst e;have n:D1'≠D2:=AG l2 hD2;exact⟨_,.int ((D7 x y)[i]),SqL.of (by rw[AE n];exact l2),by rw[az,am hi];rfl⟩
  ·subst e;have n:D1'≠D2:=AG l2 hD2;exact⟨_,SqL.of (by rw[AE n];exact l2),by rw[ai];exact aw _⟩
  ·rintro i v H3 H4 hi rfl ⟨rfl,hy'⟩;have n:D1'≠D2:=AG l2 hD2;obtain⟨z,hz,rfl⟩:=LJ (hy' _ (SqL.of (by rw[AE n];exact l2)));refine⟨rfl,?_⟩;refine⟨_,rfl,_,rfl,_,_,rfl,rfl,⟨gp,gb⟩,_,upd_same,?_,?_⟩
   ·rw[ai,dy,bz];have:(BW x y).length=5:=by simp[BW,D7]
    omega
   ·funext b;by_cases hb:b=D2
    ·subst hb;rw[upd_same,upd_same,eq];have e2:(BW x y)[i]? =some (z / (BZ (D7 x y):Int)):=by unfold BW;rw[az,hz];rfl
     rw[e2,ff];rfl
    ·rw[AE hb,AE hb,AE hb]
  ·rintro H3 rfl;have e3:(BW x y).take (D7 x y).length=BW x y:=by
    rw[rJ];unfold BW;rw[ai];exact aw _
   rw[e3];refine⟨D2,_,rfl,.inl ⟨SqL.of upd_same,λr hr'=>?_⟩⟩;refine k _ r (λb o e=>?_) upd_same;have n1:b≠D2:=AG (s2 b o e) hD2;have n2:b≠r:=by
    refine AG (o:=o) ?_ hr';rw[AE n1];exact s2 b o e
   rw[AE n2,AE n1];exact s2 b o e
end
open PySem PySem.Spec PyProof.Rows L2
open PySem.Builtin.Int (intBits)
section
variable {P:bb} {w:bw} {K:aa} {mg:Str->Option ah} {base:cq}
def lS:Sp:=λvs H Q _=>Ex2 λ(b:Int) (p:Nat)=>vs=[.int b,.int p]/\(0<=b/\b<=7)/\p<=10000/\Q (.int (b ^ p)) H
theorem Q8:FnScope ["base","power","result"] ["base","power"] (AH MQ):={}
theorem YU {b:Int} (h:0<=b/\b<=7):intBits b<=3:=intBits_le_iff.mpr (by have:=h.1;have:=h.2;omega)
theorem JZ {b:Int} (h:0<=b/\b<=7) {m:Nat} (hm:m<=100000) (hn:n<=100000):IntMulOk (b ^ m) (b ^ n):=
 .of_le (vq (YU h) m) (vq (YU h) n) (by omega)
theorem lT (F:Fun K "raised" "raised" MQ f fd):FnOk P w K mg base (CX1 P w) 1 f fd ["base","power"] lS:=by
 refine F.okx Q8 λAc A outer s H vs Q E hr h=>?_;obtain⟨b,p,rfl,hb,hp,k⟩:=h;refine⟨_,AB (AX 2 Q8 AI)
  (AB (B4 bq (AO E9 (pv 1) AI (AQ _))
   (AB (AZ (AO C1 (BD R7 (pv 1) AI) AI (AQ _)) (AC (AX 2 Q8 (BD LI (pv 2) (pv 0)))) AM)
   (AB (AX 0 Q8 (BD LI (pv 0) (pv 0)))
   (AC (AX 1 Q8 (BD LC (pv 1) AI))))))
  (AC (AL (pv 2)))),?_⟩
 and_intros
 refine QH (λσ H'=>H'=H/\Ex3 λe q n:Nat=>σ=[some (.int (b ^ e)),some (.int n),some (.int (b ^ q))]/\q+e*n=p) (λσ _=>match σ with|[_,some (.int n),_]=>n.toNat|_=>0)
  ⟨rfl,1,0,p,(by show[some (V.int b),some (V.int p),some (V.int 1)]=_;rw[Int.pow_succ,Int.pow_zero,xj]),by omega⟩ ?_ ?_
 ·rintro σ H' ⟨rfl,e,q,n,rfl,g⟩;refine⟨_,rfl,_,_,rfl,rfl,_,rfl,?_⟩;refine CF (λhn=>?_) (λhn=>?_)
  ·have hn0:0<(n:Int):=by simpa using hn
   have he:e<=p:=by
    have h1:e*1<=e*n:=Nat.mul_le_mul_left e (by omega);omega
   have hq:q<=p:=by omega
   have sq:b ^ e*b ^ e=b ^ (e+e):=(zn b e e).symm;have hd:((n:Int) / 2)=((n / 2:Nat):Int):=by omega
   refine⟨_,rfl,_,_,rfl,rfl,(by show(0:Int)<2;decide),rfl,_,rfl,?_⟩;refine CF (λh1=>?_) (λh1=>?_)
   ·have hm:(n:Int)%2=1:=by simpa using h1
    refine⟨_,rfl,_,rfl,_,_,rfl,rfl,JZ hb (by omega) (by omega),_,rfl,_,rfl,_,_,rfl,rfl,JZ hb (by omega) (by omega),_,rfl,_,_,rfl,rfl,⟨by decide,by decide⟩,⟨rfl,e+e,q+e,n / 2,?_,?_⟩,?_⟩
    ·show[some (V.int (b ^ e*b ^ e)),some (V.int ((n:Int) / 2)),some (V.int (b ^ q*b ^ e))]=_;rw[sq,hd, ←zn]
    ·have h2:n=2*(n / 2)+1:=by omega
     have h3:e*n=(e+e)*(n / 2)+e:=by
      conv=>lhs;rw[h2]
      rw[Nat.mul_add,tT, ←kh,df e 2,zo]
     omega
    ·show((n:Int) / 2).toNat<(n:Int).toNat;omega
   ·have hm:¬(n:Int)%2=1:=by simpa using h1
    refine⟨_,rfl,_,rfl,_,_,rfl,rfl,JZ hb (by omega) (by omega),_,rfl,_,_,rfl,rfl,⟨by decide,by decide⟩,⟨rfl,e+e,q,n / 2,?_,?_⟩,?_⟩
    ·show[some (V.int (b ^ e*b ^ e)),some (V.int ((n:Int) / 2)),some (V.int (b ^ q))]=_;rw[sq,hd]
    ·have h2:n=2*(n / 2):=by omega
     have h3:e*n=(e+e)*(n / 2):=by
      conv=>lhs;rw[h2]
      rw[←kh,df e 2,zo]
     omega
    ·show((n:Int) / 2).toNat<(n:Int).toNat;omega
  ·have hn0:n=0:=by
    have:¬(0:Int)<n:=by simpa using hn
    omega
   subst hn0;have e1:q=p:=by omega
   subst e1;exact⟨_,rfl,k⟩
 ·rintro σ H' Q1 Q2 hq ⟨v1,e1,z1⟩;exact⟨v1,e1,let ⟨i,j,a,b,c,d,e⟩:=z1;⟨i,j,a,b,c,d,hq _ _ e⟩⟩
def prm:List Int:=[2,3,5,7]
def pw (x y:List Int) (k:Nat):Int:=y.getD k 0*x.getD 4 0 - x.getD k 0*y.getD 4 0
def HZ (x y:List Int):Nat->Int
 |0=>1
 |i+1=>if 0<pw x y i then HZ x y i*prm.getD i 0 ^ (pw x y i).toNat else HZ x y i
def IA (x y:List Int):Nat->Int
 |0=>1
 |i+1=>if 0<pw x y i then IA x y i else IA x y i*prm.getD i 0 ^ (-pw x y i).toNat
def BF (x y:List Int):Bool:=decide (IA x y 4<HZ x y 4)
def Sm (l:List Int):Prop:=l.length=5/\(∀k,k<4->(l.getD k 0).natAbs<=99)/\1<=l.getD 4 0/\l.getD 4 0<=24
theorem MT {a b:Int} {m:Nat} (h1:a.natAbs<=m) (h2:b.natAbs<=n):(a*b).natAbs<=m*n:=by rw[tF];exact Nat.mul_le_mul h1 h2
theorem YV {y:List Int} (hx:Sm x) (hy:Sm y) {k:Nat} (hk:k<4):(pw x y k).natAbs<=4752:=by
 have h1:(y.getD k 0*x.getD 4 0).natAbs<=99*24:=MT (hy.2.1 k hk) (by have:=hx.2.2;omega);have h2:(x.getD k 0*y.getD 4 0).natAbs<=99*24:=MT (hx.2.1 k hk) (by have:=hy.2.2;omega);unfold pw;omega
theorem SS (h:i<4):0<=prm.getD i 0/\prm.getD i 0<=7:=by
 match i,h with
 |0,_=>decide
 |1,_=>decide
 |2,_=>decide
 |3,_=>decide
theorem JB {y:List Int} (hx:Sm x) (hy:Sm y) (h:i<4) (e:Nat) (he:e<=4752):intBits (prm.getD i 0 ^ e)<=20000:=
 cw (vq (YU (SS h)) e) (by omega)
theorem d9 {y:List Int} (hx:Sm x) (hy:Sm y):∀i,i<=4->intBits (HZ x y i)<=1+20000*i
 |0,_=>(by decide:intBits (1:Int)<=1)
 |i+1,h=>by
  have ih:=d9 hx hy i (by omega);have hp:=YV hx hy (k:=i) (by omega);rw[HZ];split
  ·exact cw (x6 ih (JB hx hy (by omega) _ (by omega))) (by omega)
  ·exact cw ih (by omega)
theorem eD {y:List Int} (hx:Sm x) (hy:Sm y):∀i,i<=4->intBits (IA x y i)<=1+20000*i
 |0,_=>(by decide:intBits (1:Int)<=1)
 |i+1,h=>by
  have ih:=eD hx hy i (by omega);have hp:=YV hx hy (k:=i) (by omega);rw[IA];split
  ·exact cw ih (by omega)
  ·exact cw (x6 ih (JB hx hy (by omega) _ (by omega))) (by omega)
theorem YW (h:i<4):(prm.map V.int)[i]? =some (.int (prm.getD i 0)):=by
 match i,h with
 |0,_=>rfl
 |1,_=>rfl
 |2,_=>rfl
 |3,_=>rfl
def cE (K:aa):Sp:=λvs H Q _=>Ex4 λ(ax ay:ag) (x y:List Int)=>vs=[.ref ax,.ref ay]/\SqT K H ax (x.map V.int)/\SqT K H ay (y.map V.int)/\Sm x/\Sm y/\∀H',Same H H'->Q (.bl (BF x y)) H'
theorem KP:FnScope ["x","y","above","below","k","prime","power"] ["x","y"] (AH IK):={}
theorem lU (F:Fun K "narrower" "narrower" IK f fd) (B:Blt mg) (gp:GT K mg "PRIMES" (prm.map V.int)) (D1:Def P w K mg base 1 "raised" ["base","power"] lS):
 FnOk P w K mg base (CX1 P w) 2 f fd ["x","y"] (cE K):=by
 refine F.okx KP λAc A outer s H vs Q E hr h=>?_;obtain⟨ax,ay,x,y,rfl,hx,hy,sx,sy,k⟩:=h;refine⟨_,AB (AX 2 KP AI) (AB (AX 3 KP AI)
  (AB (CD bq rfl (QZ (by rfl) B.enum (AA (OB gp) AF)) (JN rfl (CA (DW 4 KP) (CA (DW 5 KP) HF)))
   (AB (AX 6 KP (BD GO (BD IF (BO DO (pv 1) (pv 4) (λ_ _=>rfl)) (BO DO (pv 0) AI (λ_ _=>rfl))) (BD IF (BO DO (pv 0) (pv 4) (λ_ _=>rfl)) (BO DO (pv 1) AI (λ_ _=>rfl)))))
   (AC (AZ (AO E9 (pv 6) AI (AQ _))
    (AC (AX 2 KP (BD LI (pv 2) (D1.call hr AD (AA (pv 5) (AA (pv 6) AF))))))
    (AC (AX 3 KP (BD LI (pv 3) (D1.call hr AD (AA (pv 5) (AA (GN EU (pv 6)) AF))))))))))
  (AC (AL (DL E9 (pv 2) (pv 3) (AQ _)))))),?_⟩
 and_intros
 intro pa hpa;refine⟨pa,prm.map V.int,rfl,hpa _,GA (n:=4) (λi σ H'=>Same H H'/\Ex3 λr4 r5 r6=>σ=[some (.ref ax),some (.ref ay),some (.int (HZ x y i)),some (.int (IA x y i)),r4,r5,r6]) ⟨Same.refl _,none,none,none,rfl⟩ ?_ ?_ ?_ ?_⟩
 ·rintro i σ H' hi _;exact⟨prm.map V.int,.int (prm.getD i 0),hpa H',YW hi⟩
 ·rintro σ H' _;exact⟨prm.map V.int,hpa H',rfl⟩
 ·rintro i v σ H1 H2 hi ⟨s1,r4,r5,r6,rfl⟩ ⟨T,xv,rfl,nT,rfl,hxv⟩;have hxv':=hxv _ (hpa H1);have exv:xv= .int (prm.getD i 0):=cu (hxv'.symm.trans (YW hi));subst exv;have s2:Same H (upd H1 T (.tup [.int (i:Nat),.int (prm.getD i 0)])):=s1.trans (Same.upd nT);have b1:=sx.2.1 i hi;have b2:=sy.2.1 i hi;have b3:=sx.2.2;have b4:=sy.2.2;refine⟨T,_,rfl,SqT.of upd_same,rfl,_,_,rfl,_,_,rfl,rfl,?_⟩;refine⟨_,rfl,_,rfl,ay,_,_,_,rfl,rfl,s2.tup hy,EL (i:=i) rfl (by rw[sy.1];omega),_,rfl,ax,_,_,_,rfl,rfl,s2.tup hx,EL (i:=4) rfl (by rw[sx.1];decide),_,_,rfl,rfl,.inl ⟨by omega,by omega⟩,
   _,rfl,_,rfl,ax,_,_,_,rfl,rfl,s2.tup hx,EL (i:=i) rfl (by rw[sx.1];omega),_,rfl,ay,_,_,_,rfl,rfl,s2.tup hy,EL (i:=4) rfl (by rw[sy.1];decide),_,_,rfl,rfl,.inl ⟨by omega,by omega⟩,_,_,rfl,rfl,?_⟩
  have hp:=YV sx sy hi;have ep:y.getD i 0*x.getD 4 0 - x.getD i 0*y.getD 4 0=pw x y i:=rfl;refine⟨V.int (pw x y i),rfl,pw x y i,0,rfl,rfl,_,rfl,CF (λh=>?_) (λh=>?_)⟩
  ·have h0:0<pw x y i:=by simpa using h
   refine⟨_,rfl,_,rfl,V.int (pw x y i),rfl,prm.getD i 0,(pw x y i).toNat,?_,SS hi,by omega,_,_,rfl,rfl,?_,s2,some (.int i),some (.int (prm.getD i 0)),some (.int (pw x y i)),?_⟩
   ·rw[sK (by omega)];rfl
   ·exact .of_le (d9 sx sy i (by omega)) (JB sx sy hi _ (by omega)) (by omega)
   ·rw[HZ,IA,Ae h0,Ae h0];rfl
  ·have h0:¬0<pw x y i:=by simpa using h
   refine⟨_,rfl,_,rfl,V.int (pw x y i),rfl,pw x y i,rfl,prm.getD i 0,(-pw x y i).toNat,?_,SS hi,by omega,_,_,rfl,rfl,?_,s2,some (.int i),some (.int (prm.getD i 0)),some (.int (pw x y i)),?_⟩
   ·rw[sK (by omega)];rfl
   ·exact .of_le (eD sx sy i (by omega)) (JB sx sy hi _ (by omega)) (by omega)
   ·rw[HZ,IA,Af h0,Af h0];rfl
 ·rintro σ H' ⟨s1,r4,r5,r6,rfl⟩;exact⟨_,rfl,_,rfl,_,_,rfl,rfl,k _ s1⟩
end
open PySem PySem.Spec PyProof.Rows L2
def cF (H:Hp) (a C:ag) (fs:List (Str×V)) (H':Hp):Prop:=(∃d,d≠a/\H d=none/\H' a=some (XoO a C (some d) .none none)/\H' d=some (XdO d fs))/\∀b o,H b=some o->b≠a->H' b=some o
def lV (C:ag):Sp:=λvs H Q _=>Ex2 λ(a:ag) (p:Int)=>vs=[.ref a,.int p]/\H a=some (XoO a C none .none none)/\∀H',cF H a C [("place",.int p)] H'->Q .non H'
def lW (K:aa):Sp:=λvs H Q _=>Ex3 λ(a C:ag) (n:Int)=>vs=[.ref a,.int n]/\H a=some (XoO a C none .none none)/\XCls K C/\NoAttr K C "answer"/\∀H',cF H a C [("answer",.int n)] H'->Q .non H'
def J0 (C:ag) (n:Int):Sp:=λvs H Q _=>∃(a:ag),vs=[.ref a]/\H a=some (XoO a C none .none none)/\∀H',cF H a C [("answer",.int n)] H'->Q .non H'
def gQ (C:ag):Sp:=λvs H Q _=>Ex3 λ(a:ag) (l c:Int)=>vs=[.ref a,.int l,.int c]/\H a=some (XoO a C none .none none)/\∀H',cF H a C [("answer",.int (-3)),("line",.int l),("course",.int c)] H'->Q .non H'
section
variable {P:bb} {w:bw} {K:aa} {mg:Str->Option ah} {base:cq}
theorem lX:FnScope ["self","place"] ["self","place"] (AH DY):={}
theorem lY (F:Fun K "__init__" "TextFault.__init__" DY f fd) (xc:XCls K C) (na:NoAttr K C "place"):FnOkU P w K mg base (CX1 P w) 1 f fd ["self","place"] (lV C):=by
 refine F.oku lX λAc A outer s H vs Q E hr h=>?_;obtain⟨a,p,rfl,ea,k⟩:=h;refine⟨_,AC (QV (pv 0) (pv 1) rfl),?_⟩
 subst_eqs
 refine⟨_,rfl,_,rfl,a,C,_,_,rfl,ea,xc,na,λd hd hn=>k _ ⟨⟨d,hn,hd,upd_same,by rw[AE hn,upd_same]⟩,λb o e hb=>?_⟩⟩;rw[AE hb,AE (AG e hd)];exact e
theorem lZ:FnScope ["self","answer"] ["self","answer"] (AH EY):={}
theorem l0 (F:Fun K "__init__" "Refusal.__init__" EY f fd):FnOkU P w K mg base (CX1 P w) 1 f fd ["self","answer"] (lW K):=by
 refine F.oku lZ λAc A outer s H vs Q E hr h=>?_;obtain⟨a,C,n,rfl,ea,xc,na,k⟩:=h;refine⟨_,AC (QV (pv 0) (pv 1) rfl),?_⟩
 subst_eqs
 refine⟨_,rfl,_,rfl,a,C,_,_,rfl,ea,xc,na,λd hd hn=>k _ ⟨⟨d,hn,hd,upd_same,by rw[AE hn,upd_same]⟩,λb o e hb=>?_⟩⟩;rw[AE hb,AE (AG e hd)];exact e
structure RfI (P:bb) (w:bw) (K:aa) (mg:Str->Option ah) (base:cq) (CR f:ag) (fd:dw):Prop where
 mgR:mg "Refusal"=some (.ref CR)
 sp:tR K (.ref CR) "__getattribute__"=some (some (.builtin "type.__getattribute__"))
 rd:uV K CR (.type "type")=true
 fc:qp K (.ref CR) (.type "type") "__init__"=some (.val (.ref f))
 kp:du K (.ref f)=true
 bd:Binds K fd ["self","answer"] []
 ok:FnOkU P w K mg base (CX1 P w) 1 f fd ["self","answer"] (lW K)
theorem ST:FnScope ["self"] ["self"] (AH EZ):={}
theorem SU {fR:ag} {fdR:dw} (F:Fun K "__init__" "TooLong.__init__" EZ f fd) (R:RfI P w K mg base CR fR fdR) (xc:XCls K C) (na:NoAttr K C "answer"):FnOkU P w K mg base (CX1 P w) 2 f fd ["self"] (J0 C (-2)):=by
 refine F.oku ST λAc A outer s H vs Q E hr h=>?_;obtain⟨a,rfl,ea,k⟩:=h;refine⟨_,AC (AY (IW (mc:=.type "type") (by rfl) R.mgR R.sp R.rd R.fc R.kp R.ok hr R.bd out_cxU.passes (AA (pv 0) (AA (GN EU AI) AF)))),?_⟩
 subst_eqs
 exact⟨_,rfl,_,rfl,a,C, -2,rfl,ea,xc,na,λH' hb'=>k H' hb'⟩
theorem K6:FnScope ["self"] ["self"] (AH CY):={}
theorem K7 {fR:ag} {fdR:dw} (F:Fun K "__init__" "NoInstrument.__init__" CY f fd) (R:RfI P w K mg base CR fR fdR) (xc:XCls K C) (na:NoAttr K C "answer"):FnOkU P w K mg base (CX1 P w) 2 f fd ["self"] (J0 C (-6)):=by
 refine F.oku K6 λAc A outer s H vs Q E hr h=>?_;obtain⟨a,rfl,ea,k⟩:=h;refine⟨_,AC (AY (IW (mc:=.type "type") (by rfl) R.mgR R.sp R.rd R.fc R.kp R.ok hr R.bd out_cxU.passes (AA (pv 0) (AA (GN EU AI) AF)))),?_⟩
 subst_eqs
 exact⟨_,rfl,_,rfl,a,C, -6,rfl,ea,xc,na,λH' hb'=>k H' hb'⟩
theorem SV:FnScope ["self"] ["self"] (AH E0):={}
theorem SW {fR:ag} {fdR:dw} (F:Fun K "__init__" "NoPiece.__init__" E0 f fd) (R:RfI P w K mg base CR fR fdR) (xc:XCls K C) (na:NoAttr K C "answer"):FnOkU P w K mg base (CX1 P w) 2 f fd ["self"] (J0 C (-8)):=by
 refine F.oku SV λAc A outer s H vs Q E hr h=>?_;obtain⟨a,rfl,ea,k⟩:=h;refine⟨_,AC (AY (IW (mc:=.type "type") (by rfl) R.mgR R.sp R.rd R.fc R.kp R.ok hr R.bd out_cxU.passes (AA (pv 0) (AA (GN EU AI) AF)))),?_⟩
 subst_eqs
 exact⟨_,rfl,_,rfl,a,C, -8,rfl,ea,xc,na,λH' hb'=>k H' hb'⟩
theorem l3:FnScope ["self","line","course"] ["self","line","course"] (AH FK):={}
theorem l4 {fR:ag} {fdR:dw} (F:Fun K "__init__" "Misfit.__init__" FK f fd) (R:RfI P w K mg base CR fR fdR) (xc:XCls K C) (na:NoAttr K C "answer") (nl:NoAttr K C "line") (nc:NoAttr K C "course"):
 FnOkU P w K mg base (CX1 P w) 2 f fd ["self","line","course"] (gQ C):=by
 refine F.oku l3 λAc A outer s H vs Q E hr h=>?_;obtain⟨a,l,c,rfl,ea,k⟩:=h;refine⟨_,AB (AY (IW (mc:=.type "type") (by rfl) R.mgR R.sp R.rd R.fc R.kp R.ok hr R.bd out_cxU.passes (AA (pv 0) (AA (GN EU AI) AF))))
  (AB (UN (pv 0) (pv 1) rfl) (AC (UN (pv 0) (pv 2) rfl))),?_⟩
 and_intros
 refine⟨_,rfl,_,rfl,a,C, -3,rfl,ea,xc,na,λH' ⟨⟨d,dn,d0,e1,e2⟩,kp⟩=>?_⟩;refine⟨_,rfl,_,rfl,a,C,d,_,_,_,rfl,e1,e2,dn,xc,nl,by decide,?_⟩;refine⟨_,rfl,_,rfl,a,C,d,_,_,_,rfl,(by rw[AE (cr dn)];exact e1),upd_same,dn,xc,nc,(tD (FA _ _ _) (by show 1+1<1000;decide)),?_⟩;refine k _ ⟨⟨d,dn,d0,(by rw[AE (cr dn),AE (cr dn)];exact e1),upd_same⟩,λb o e hb=>?_⟩;have nd:b≠d:=AG e d0;rw[AE nd,AE nd];exact kp b o e hb
end
def tWk (te:TE) (K0:VK):TE:=λσ H Q=>te σ H K0/\∀x H1,K0 x H1->Q x H1
theorem IB {e:Expr} {te:TE} {K0:VK} (he:PE X e te):PE X e (tWk te K0):=λz7 s σ H Q I ⟨h,k⟩=>thn (he z7 s σ H K0 I h) λu s1 ⟨v,H1,I1,r,q⟩=>⟨v,H1,I1,r,k v H1 q⟩
def J4 (CT:ag) (E:XK) (te:TE):TS:=λ_ σ H=>te σ H λx H1=>∃z:Int,x= .int z/\E (.ref CT) none (xH [("place",.int z)])
abbrev TFm (P:bb) (w:bw) (K:aa) (mg:Str->Option ah) (base:cq) (CT:ag):Prop:=XMr P w K mg base 1 CT "TextFault" ["self","place"] (lV CT)
theorem BE {e:Expr} {te:TE} {p pos':Pos} {k':Nat} (T:TFm X.prog X.w X.K X.mg X.base CT) (hr:Room k' X.A) (o:Out X E) (hc:X.calm=true) (he:PE X e te) (hk:2<=k':=by decide) (hg:Gl X "TextFault":=by rfl)
 (hs:be [e] X.env=(false,eval e X.env)::be [] X.env:=by rfl):PS X (.Raise (some (.Call (.Name "TextFault" p) [e] [] pos')) none pos) (J4 CT E te):=by
 have q:=IX (pos:=pos) o hc (T.call (pos:=pos') (p:=p) hr.u o (AA (IB (K0:=λx _=>∃z:Int,x= .int z/\E (.ref CT) none (xH [("place",.int z)])) he) AF hs) hk hg (he:=hs));intro z7 s σ H D I h;refine q z7 s σ H D I ⟨h,λv H' ⟨z,ev,hE⟩=>⟨(by show 1<=100;decide),λa ha=>⟨a,z,by subst ev;rfl,upd_same,λH2 ⟨⟨d,dn,d0,e1,e2⟩,_⟩=>⟨rfl,a,CT,_,rfl,⟨d,dn,e1,e2⟩,T.2.1,hE⟩⟩⟩⟩
open PySem PySem.Spec PyProof.Rows L2
def BQ (l:List Nat) (b:Int):Option Nat:=l.findIdx? λ(c:Nat)=>decide ((c:Int)=b)
def G8 (l:List Nat) (b:Int):V:=match BQ l b with
 |some n=>.int (n:Nat)
 |none=>.non
theorem JC {l:List Nat} {b:Int} (h:∀(i c:Nat),l[i]? =some c->¬(c:Int)=b):BQ l b=none:=by
 unfold BQ;rw[List.findIdx?_eq_none_iff];intro c hc;obtain⟨i,hi⟩:=lu hc;exact decide_eq_false (h i c hi)
theorem PF {l:List Nat} {b:Int} {c:Nat} (hi:l[i]? =some c) (hc:(c:Int)=b) (h:∀(j d:Nat),j<i->l[j]? =some d->¬(d:Int)=b):BQ l b=some i:=by
 unfold BQ;rw[kx];obtain⟨Ad,e⟩:=au.mp hi;refine⟨Ad,by rw[e];exact decide_eq_true hc,λj hj=>?_⟩;have:=h j l[j] hj (am (nj hj Ad));simpa using this
def gR:Sp:=λvs H Q _=>Ex2 λ(z:Str) (b:Int)=>vs=[.str z,.int b]/\∀H',Same H H'->Q (G8 z.cps.toList b) H'
section
variable {P:bb} {w:bw} {K:aa} {mg:Str->Option ah} {base:cq}
theorem YX:FnScope ["signs","byte","number","sign"] ["signs","byte"] (AH FM):={}
theorem l6 (F:Fun K "sign_number" "sign_number" FM f fd) (B:Blt mg):FnOk P w K mg base (CX1 P w) 1 f fd ["signs","byte"] gR:=by
 refine F.okx YX λAc A outer s H vs Q E hr h=>?_;obtain⟨z,b,rfl,k⟩:=h;refine⟨_,AB (CD bq rfl (YL (by rfl) B.enum (AA (pv 0) AF)) (JN rfl (CA (DW 2 YX) (CA (DW 3 YX) HF)))
  (AC (AZ (AO C1 (AW XY (by rfl) B.ord YR (AA (pv 3) AF)) (pv 1) (AQ _)) (AC (AL (pv 2))) AM)))
  (AC (AL RX)),?_⟩
 and_intros
 refine⟨_,rfl,z,rfl,GA (n:=z.cps.size) (λi σ H'=>Same H H'/\(Ex2 λr2 r3=>σ=[some (.str z),some (.int b),r2,r3])/\∀(j d:Nat),j<i->z.cps.toList[j]? =some d->¬(d:Int)=b) ⟨Same.refl _,⟨none,none,rfl⟩,λj d hj=>by omega⟩ ?_ ?_ ?_ ?_⟩
 ·rintro i σ H' hi _;exact hi
 ·rintro σ H' _;exact rfl
 ·rintro i v σ H1 H2 hi ⟨s1,⟨r2,r3,rfl⟩,hb⟩ ⟨T,c,rfl,nT,hc,rfl⟩;have s2:Same H (upd H1 T (.tup [.int (i:Nat),.str ⟨#[c]⟩])):=s1.trans (Same.upd nT);have hcl:z.cps.toList[i]? =some c:=by rw[kr];exact hc
  refine⟨T,_,rfl,SqT.of upd_same,rfl,_,_,rfl,_,_,rfl,rfl,?_⟩;refine⟨_,rfl,_,rfl,rfl,_,rfl,rfl,_,rfl,CF (λh=>?_) (λh=>?_)⟩
  ·have h0:(c:Int)=b:=by
    have q:=of_decide_eq_true h;injection q
   refine⟨_,rfl,?_⟩;have q:=k _ s2;unfold G8 at q;rw[PF hcl h0 hb] at q;exact q
  ·have h0:¬(c:Int)=b:=λq=>h (decide_eq_true (by rw[←q];rfl));refine⟨s2,⟨_,_,rfl⟩,λj d hj hd=>?_⟩;by_cases hji:j=i
   ·subst hji;rw[hcl] at hd;cases hd;exact h0
   ·exact hb j d (by omega) hd
 ·rintro σ H' ⟨s1,⟨r2,r3,rfl⟩,hb⟩;have q:=k _ s1;unfold G8 at q;rw[JC λi c hi=>hb i c (by have:=(au.mp hi).1;rw[dc] at this;exact this) hi] at q;exact q
end
def cV (c:UInt8):V:=.int (c.toNat:Nat)
def rf (ta:ag) (p e:Int):List (Str×V):=[("text",.ref ta),("place",.int p),("end",.int e)]
structure Rd (K:aa) (CR:ag) (H:Hp) (r ta:ag) (cs:List UInt8) (e:Nat) (z8:List UInt8):Prop where
 at_:Ex2 λ(dx:ag) (p:Nat)=>H r=some (.ins CR dx (rf ta p e))/\z8=(cs.take e).drop p/\p<=e
 tx:SqL K H ta (cs.map cV)
 le:e<=cs.length
theorem Sb.lst {K:aa} {dx:ag} {fs:List (Str×V)} (s:Sb r H H') (hr:H r=some (.ins C dx fs)) (h:SqL K H a xs):SqL K H' a xs:=by
 rcases h with(h|⟨o,h⟩)|h
 ·exact .inl (.inl (s _ _ h (B2 h hr (by intro z;cases z))))
 ·exact .inl (.inr ⟨o,s _ _ h (B2 h hr (by intro z;cases z))⟩)
 ·exact .inr h
theorem YY (h:[]=(cs.take e).drop p) (hp:p<=e) (he:e<=cs.length):p=e:=by
 have:=congrArg ou h;rw[im,dy] at this;simp at this;omega
theorem J5 {c:UInt8} (h:c::t=(cs.take e).drop p) (hp:p<=e) (he:e<=cs.length):p<e/\cs[p]? =some c/\t=(cs.take e).drop (p+1):=by
 have hl:=congrArg ou h;rw[im,dy,fm] at hl;have Ad:p<e:=by omega
 have h0:(c::t)[0]? =((cs.take e).drop p)[0]?:=by rw[h]
 rw[tG,qv] at h0;simp[Ad] at h0;refine⟨Ad,h0.symm,?_⟩;have h1:(c::t).drop 1=((cs.take e).drop p).drop 1:=by rw[h]
 rw[vt] at h1;exact h1
def bt:List UInt8->Int
 |[]=>256
 |c::_=>(c.toNat:Nat)
def Got {α:Type} (K:aa) (CR CT r ta:ag) (cs:List UInt8) (e:Nat) (H:Hp) (Q:VK) (E:XK) (enc:α->V):Option (α×List UInt8)->Prop
 |some (v,z9)=>∀H',Rd K CR H' r ta cs e z9->Sb r H H'->Q (enc v) H'
 |none=>∀z:Int,E (.ref CT) none (xH [("place",.int z)])
def pk (z:Str):List UInt8->Option (Nat×List UInt8)
 |[]=>none
 |c::t=>(BQ z.cps.toList (c.toNat:Nat)).map (·,t)
theorem BR (z:Str) (c:UInt8) (t:List UInt8):pk z (c::t)=(BQ z.cps.toList (c.toNat:Nat)).map (·,t):=rfl
def OkS (z:Str):Prop:=∀c∈z.cps.toList,c<256
theorem YZ (h:OkS z):BQ z.cps.toList 256=none:=JC λi c hi q=>by
 have:=h c (bo hi);omega
def see (z:Str):List UInt8->Bool
 |[]=>false
 |c::_=>(BQ z.cps.toList (c.toNat:Nat)).isSome
def DF (n:Nat):V:=.int (n:Nat)
def gS (C:ag):Sp:=λvs H Q _=>Ex5 λ(r dx ta:ag) (p e:Int)=>vs=[.ref r,.ref ta,.int p,.int e]/\H r=some (.ins C dx [])/\∀H',H' r=some (.ins C dx (rf ta p e))->Sb r H H'->Q .non H'
def Y0 (K:aa) (C:ag):Sp:=λvs H Q _=>Ex5 λ(r ta:ag) (cs:List UInt8) (e:Nat) (z8:List UInt8)=>vs=[.ref r]/\Rd K C H r ta cs e z8/\Q (.bl z8.isEmpty) H
def PJ (K:aa) (C:ag):Sp:=λvs H Q _=>Ex5 λ(r ta:ag) (cs:List UInt8) (e:Nat) (z8:List UInt8)=>vs=[.ref r]/\Rd K C H r ta cs e z8/\Q (.int (bt z8)) H
def SX (K:aa) (C:ag):Sp:=λvs H Q _=>Ex6 λ(r ta:ag) (cs:List UInt8) (e:Nat) (z8:List UInt8) (z:Str)=>vs=[.ref r,.str z]/\Rd K C H r ta cs e z8/\OkS z/\∀H',Same H H'->Q (.bl (see z z8)) H'
def PL (K:aa) (C CT:ag):Sp:=λvs H Q E=>Ex6 λ(r ta:ag) (cs:List UInt8) (e:Nat) (z8:List UInt8) (z:Str)=>vs=[.ref r,.str z]/\Rd K C H r ta cs e z8/\OkS z/\Got K C CT r ta cs e H Q E DF (pk z z8)
theorem Rd.same {K:aa} {z8:List UInt8} (R:Rd K C H r ta cs e z8) (s:Same H H'):Rd K C H' r ta cs e z8:=
 let ⟨⟨dx,p,h,q⟩,t,l⟩:=R;⟨⟨dx,p,s _ _ h,q⟩,s.seq t,l⟩
section
variable {P:bb} {w:bw} {K:aa} {mg:Str->Option ah} {base:cq}
structure RdC (K:aa) (C:ag):Prop where
 cl:Cls K C
 nt:NoAttr K C "text"
 np:NoAttr K C "place"
 ne:NoAttr K C "end"
theorem cG (ta:ag) (p e:Int):(rf ta p e).lookup ("text":Str)=some (.ref ta):=rfl
theorem MU (ta:ag) (p e:Int):(rf ta p e).lookup ("place":Str)=some (.int p):=rfl
theorem l7 (ta:ag) (p e:Int):(rf ta p e).lookup ("end":Str)=some (.int e):=rfl
theorem F7 (ta:ag) (p e:Int) {m:Str} (h1:(m=="text")=false) (h2:(m=="place")=false) (h3:(m=="end")=false):(rf ta p e).lookup m=none:=by
 unfold rf;simp only[jc,h1,h2,h3]
theorem l8:FnScope ["self","text","place","end"] ["self","text","place","end"] (AH FN):={}
theorem l9 (F:Fun K "__init__" "Reader.__init__" FN f fd) (T:RdC K C):FnOk P w K mg base (CX1 P w) 1 f fd ["self","text","place","end"] (gS C):=by
 refine F.okx l8 λAc A outer s H vs Q E hr h=>?_;obtain⟨r,dx,ta,p,e,rfl,hr',k⟩:=h;refine⟨_,AB (CO (pv 0) (pv 1) rfl) (AB (CO (pv 0) (pv 2) rfl) (AC (CO (pv 0) (pv 3) rfl))),?_⟩
 and_intros
 refine⟨_,rfl,_,rfl,r,C,dx,[],rfl,hr',T.cl,T.nt,(by decide),?_⟩;refine⟨_,rfl,_,rfl,r,C,dx,_,rfl,upd_same,T.cl,T.np,(by show 1<1000;decide),?_⟩;refine⟨_,rfl,_,rfl,r,C,dx,_,rfl,upd_same,T.cl,T.ne,(by show 2<1000;decide),?_⟩;exact k _ upd_same λb o e hb=>by rw[AE hb,AE hb,AE hb];exact e
theorem mC:FnScope ["self"] ["self"] (AH E1):={}
theorem mD (F:Fun K "ended" "Reader.ended" E1 f fd) (T:RdC K C):FnOk P w K mg base (CX1 P w) 1 f fd ["self"] (Y0 K C):=by
 refine F.okx mC λAc A outer s H vs Q E hr h=>?_;obtain⟨r,ta,cs,e,z8,rfl,⟨⟨dx,p,h1,h2,h3⟩,tx,le⟩,k⟩:=h;refine⟨_,AC (AL (DL kW (AV (pv 0) rfl) (AV (pv 0) rfl) (AQ _))),?_⟩
 subst_eqs
 refine⟨_,rfl,r,C,dx,_,_,rfl,h1,T.cl,T.np,MU _ _ _,_,rfl,r,C,dx,_,_,rfl,h1,T.cl,T.ne,l7 _ _ _,_,_,rfl,rfl,?_⟩;have e1:decide ((e:Int)<=(p:Int))=z8.isEmpty:=by
  cases z8 with
  |nil=>rw[YY h2 h3 le];simp
  |cons c t=>have:=(J5 h2 h3 le).1;simp;omega
 show Q (V.bl (decide ((e:Int)<=(p:Int)))) H;rw[e1];exact k
theorem mE:FnScope ["self"] ["self"] (AH FO):={}
theorem mF (F:Fun K "byte" "Reader.byte" FO f fd) (T:RdC K C) (gn:GI mg "NO_BYTE" 256) (M1:Mth P w K mg base 1 C "ended" ["self"] (Y0 K C)):FnOk P w K mg base (CX1 P w) 2 f fd ["self"] (PJ K C):=by
 refine F.okx mE λAc A outer s H vs Q E hr h=>?_;obtain⟨r,ta,cs,e,z8,rfl,R,k⟩:=h;obtain⟨dx,p,h1,h2,h3⟩:=R.at_;refine⟨_,AC (AL (QG (DH (M1.call0 (pv 0) hr AD)) (B6 gn) (BO DN (AV (pv 0) rfl) (AV (pv 0) rfl) (λ_ _=>rfl)))),?_⟩
 subst_eqs
 refine⟨_,rfl,r,dx,_,rfl,h1,F7 _ _ _ (by decide +kernel) (by decide +kernel) (by decide +kernel),r,ta,cs,e,z8,rfl,R,_,rfl,?_⟩;cases z8 with
 |nil=>exact BV k
 |cons c t=>
  obtain⟨h4,h5,h6⟩:=J5 h2 h3 R.le;refine BM ⟨_,rfl,r,C,dx,_,_,rfl,h1,T.cl,T.nt,cG _ _ _,_,rfl,r,C,dx,_,_,rfl,h1,T.cl,T.np,MU _ _ _,ta,_,_,_,rfl,rfl,R.tx,EO (v:=cV c) (by rw[az,h5];rfl),k⟩
theorem mG:FnScope ["self","signs"] ["self","signs"] (AH FP):={}
theorem mH (F:Fun K "sees" "Reader.sees" FP f fd) (D1:Def P w K mg base 1 "sign_number" ["signs","byte"] gR) (M1:Mth P w K mg base 2 C "byte" ["self"] (PJ K C)):
 FnOk P w K mg base (CX1 P w) 3 f fd ["self","signs"] (SX K C):=by
 refine F.okx mG λAc A outer s H vs Q E hr h=>?_;obtain⟨r,ta,cs,e,z8,z,rfl,R,oz,k⟩:=h;obtain⟨dx,p,h1,h2,h3⟩:=R.at_;refine⟨_,AC (AL (DL bJ (D1.call hr AD (AA (pv 1) (AA (M1.call0 (pv 0) hr AD) AF))) RX (AQ _))),?_⟩
 subst_eqs
 refine⟨_,rfl,_,rfl,r,dx,_,rfl,h1,F7 _ _ _ (by decide +kernel) (by decide +kernel) (by decide +kernel),r,ta,cs,e,z8,rfl,R,z,_,rfl,λH' s1=>⟨rfl,?_⟩⟩;have q:=k H' s1;have e1:(!decide (G8 z.cps.toList (bt z8)=V.non))=see z z8:=by
  cases z8 with
  |nil=>
   show(!decide (G8 z.cps.toList 256=V.non))=false;unfold G8;rw[YZ oz];rfl
  |cons c t=>
   show(!decide (G8 z.cps.toList (c.toNat:Nat)=V.non))=(BQ z.cps.toList (c.toNat:Nat)).isSome;unfold G8;cases BQ z.cps.toList (c.toNat:Nat)<;>rfl
 rw[e1];exact q
theorem eE:FnScope ["self","signs","number"] ["self","signs"] (AH FQ):={}
theorem mI (F:Fun K "pick" "Reader.pick" FQ f fd) (T:RdC K C) (X1:TFm P w K mg base CT) (D1:Def P w K mg base 1 "sign_number" ["signs","byte"] gR) (M1:Mth P w K mg base 2 C "byte" ["self"] (PJ K C)):
 FnOk P w K mg base (CX1 P w) 3 f fd ["self","signs"] (PL K C CT):=by
 refine F.okx eE λAc A outer s H vs Q E hr h=>?_;obtain⟨r,ta,cs,e,z8,z,rfl,R,oz,k⟩:=h;obtain⟨dx,p,h1,h2,h3⟩:=R.at_;refine⟨_,AB (AX 2 eE (D1.call hr AD (AA (pv 1) (AA (M1.call0 (pv 0) hr AD) AF))))
  (AB (AZ (AO fU (pv 2) RX (AQ _)) (AC (BE X1 hr AD rfl (AV (pv 0) rfl))) AM)
  (AB (WH (pv 0) AI fW) (AC (AL (pv 2))))),?_⟩
 and_intros
 refine⟨_,rfl,_,rfl,r,dx,_,rfl,h1,F7 _ _ _ (by decide +kernel) (by decide +kernel) (by decide +kernel),r,ta,cs,e,z8,rfl,R,z,_,rfl,λH' s1=>?_⟩;have h1':=s1 _ _ h1;refine⟨_,rfl,rfl,_,rfl,?_⟩;cases hrest:z8 with
 |nil=>
  subst hrest;have e1:G8 z.cps.toList (bt [])=V.non:=by
   show G8 z.cps.toList 256=V.non;unfold G8;rw[YZ oz]
  rw[e1];exact BV ⟨_,rfl,r,C,dx,_,_,rfl,h1',T.cl,T.np,MU _ _ _,_,rfl,k _⟩
 |cons c t=>
  subst hrest;obtain⟨h4,h5,h6⟩:=J5 h2 h3 R.le;cases hi:BQ z.cps.toList (c.toNat:Nat) with
  |none=>
   have e1:G8 z.cps.toList (bt (c::t))=V.non:=by
    show G8 z.cps.toList (c.toNat:Nat)=V.non;unfold G8;rw[hi]
   rw[e1];have k':∀z:Int,E (.ref CT) none (xH [("place",.int z)]):=by
    have e2:pk z (c::t)=none:=by rw[BR,hi];rfl
    rw[e2] at k;exact k
   exact BV ⟨_,rfl,r,C,dx,_,_,rfl,h1',T.cl,T.np,MU _ _ _,_,rfl,k' _⟩
  |some n=>
   have e1:G8 z.cps.toList (bt (c::t))=V.int (n:Nat):=by
    show G8 z.cps.toList (c.toNat:Nat)=V.int (n:Nat);unfold G8;rw[hi]
   rw[e1];have k':∀H',Rd K C H' r ta cs e t->Sb r H H'->Q (DF n) H':=by
    have e2:pk z (c::t)=some (n,t):=by rw[BR,hi];rfl
    rw[e2] at k;exact k
   refine BM ?_;refine⟨_,rfl,r,C,dx,_,_,rfl,h1',T.cl,T.np,MU _ _ _,?_⟩;refine⟨_,_,rfl,rfl,dx,_,h1',(by show 3<1000;decide),_,rfl,?_⟩;refine k' _ ⟨⟨dx,p+1,si upd_same ?_,h6,h4⟩,Sb.lst (r:=r) (λb o e hb=>by rw[AE hb];exact e) h1' (s1.seq R.tx),R.le⟩ λb o e hb=>by rw[AE hb];exact s1 b o e
   rfl
end
open PySem PySem.Spec PyProof.Rows L2
theorem DS {W:Nat->L2.St->Hp->Prop} {m:Nat} {tb:TS} {D:Ends} {σ:L2.St} {Z:Prop} (h:tb { D with nx:=λσ' H'=>∃m',m'<m/\W m' σ' H',ct:=λσ' H'=>∃m',m'<m/\W m' σ' H',bk:=D.nx } σ H1):
 if true=true then∃N:L2.St->Hp->Prop,(∀σ' H',N σ' H'->∃m',m'<m/\W m' σ' H')/\tb { D with nx:=N,ct:=N,bk:=D.nx } σ H1 else Z:=BV ⟨_,λ_ _ q=>q,h⟩
def sk:List Nat->List UInt8->Option (Unit×List UInt8)
 |[],t=>some ((),t)
 |_::_,[]=>none
 |x::w,c::t=>if c.toNat=x then sk w t else none
def GL (z:Str) (most:Nat):Nat->Nat->List UInt8->Option (Nat×List UInt8)
 |_,value,[]=>some (value,[])
 |count,value,c::t=>match BQ z.cps.toList (c.toNat:Nat) with
  |none=>some (value,c::t)
  |some d=>if count=most\/value=0 then none else GL z most (count+1) (10*value+d) t
def wn (z:Str) (most:Nat) (l:List UInt8):Option (Nat×List UInt8):=match pk z l with
 |none=>none
 |some (d,t)=>GL z most 1 d t
def WR (_:Unit):V:=.non
def Y1 (K:aa) (C CT:ag):Sp:=λvs H Q E=>Ex6 λ(r ta:ag) (cs:List UInt8) (e:Nat) (z8:List UInt8) (z:Str)=>vs=[.ref r,.str z]/\Rd K C H r ta cs e z8/\OkS z/\Got K C CT r ta cs e H Q E WR (sk z.cps.toList z8)
def mJ (K:aa) (C CT:ag) (dz:Str):Sp:=λvs H Q E=>Ex6 λ(r ta:ag) (cs:List UInt8) (e:Nat) (z8:List UInt8) (most:Nat)=>vs=[.ref r,.int (most:Nat)]/\Rd K C H r ta cs e z8/\Got K C CT r ta cs e H Q E DF (wn dz most z8)
theorem UT (c:Nat) (b:Nat):BQ [c] (b:Nat)=if b=c then some 0 else none:=by
 unfold BQ;by_cases h:b=c
 ·subst h;simp
 ·have:¬(c:Int)=(b:Int):=by omega
  rw[Af h];simp;omega
theorem gT (c:Nat) (l:List UInt8) (w:List Nat):sk (c::w) l=(match pk ⟨#[c]⟩ l with|none=>none|some (_,t)=>sk w t):=by
 cases l with
 |nil=>rfl
 |cons b t=>
  rw[BR];show(if b.toNat=c then sk w t else none)=_;rw[show(⟨#[c]⟩:Str).cps.toList=[c] from rfl,UT];by_cases h:b.toNat=c
  ·rw[Ae h,Ae h];rfl
  ·rw[Af h,Af h];rfl
theorem Y2 {l:List UInt8} (h:see z l=true):Ex2 λn t=>pk z l=some (n,t)/\t.length+1=l.length:=by
 cases l with
 |nil=>cases h
 |cons c t=>
  rw[BR];have h':(BQ z.cps.toList (c.toNat:Nat)).isSome=true:=h;obtain⟨n,hn⟩:=qf.mp h';exact⟨n,t,by rw[hn];rfl,rfl⟩
theorem Y3 {most v d:Nat} {l:List UInt8} (h:pk z l=some (d,t)):GL z most n v l=if n=most\/v=0 then none else GL z most (n+1) (10*v+d) t:=by
 cases l with
 |nil=>cases h
 |cons c t'=>
  rw[BR] at h;cases hi:BQ z.cps.toList (c.toNat:Nat) with
  |none=>rw[hi] at h;cases h
  |some d'=>
   rw[hi] at h;cases h;rw[GL,hi]
theorem Y4 {most v:Nat} {l:List UInt8} (h:see z l=false):GL z most n v l=some (v,l):=by
 cases l with
 |nil=>rfl
 |cons c t=>
  have h':(BQ z.cps.toList (c.toNat:Nat)).isSome=false:=h;rw[Option.isSome_eq_false_iff,Option.isNone_iff_eq_none] at h';rw[GL,h']
section
variable {P:bb} {w:bw} {K:aa} {mg:Str->Option ah} {base:cq}
theorem Rd.ins {z8:List UInt8} (R:Rd K C H r ta cs e z8):Ex2 λdx p=>H r=some (.ins C dx (rf ta p e)):=let ⟨dx,p,h,_⟩:=R.at_;⟨dx,p,h⟩
theorem eF:FnScope ["self","word","sign"] ["self","word"] (AH FS):={}
theorem mK (F:Fun K "skip" "Reader.skip" FS f fd) (M1:Mth P w K mg base 3 C "pick" ["self","signs"] (PL K C CT)):
 FnOk P w K mg base (CX1 P w) 4 f fd ["self","word"] (Y1 K C CT):=by
 refine F.okx eF λAc A outer s H vs Q E hr h=>?_;obtain⟨r,ta,cs,e,z8,z,rfl,R,oz,k⟩:=h;refine⟨_,AC (CD bq rfl (gF (pv 1)) (DW 2 eF) (AC (AY (M1.call (pv 0) hr AD (AA (pv 2) AF))))),?_⟩
 subst_eqs
 refine⟨_,rfl,z,rfl,GA (n:=z.cps.size) (λi σ H'=>(∃r2,σ=[some (.ref r),some (.str z),r2])/\Sb r H H'/\∃z9,Rd K C H' r ta cs e z9/\sk z.cps.toList z8=sk (z.cps.toList.drop i) z9) ⟨⟨none,rfl⟩,Sb.refl,z8,R,rfl⟩ ?_ ?_ ?_ ?_⟩
 ·rintro i σ H' hi _;exact hi
 ·rintro σ H' _;exact aw _
 ·rintro i v σ H1 H2 hi ⟨⟨r2,rfl⟩,sb,z9,R',es⟩ ⟨rfl,c,hc,rfl⟩
  subst_eqs
  have hcl:z.cps.toList[i]? =some c:=by rw[kr];exact hc
  have hd:z.cps.toList.drop i=c::z.cps.toList.drop (i+1):=by
   obtain⟨Ad,e1⟩:=au.mp hcl;rw[jj Ad,e1]
  obtain⟨dx,p,h1⟩:=R'.ins;rw[hd,gT] at es;refine⟨_,rfl,r,dx,_,rfl,h1,F7 _ _ _ (by decide +kernel) (by decide +kernel) (by decide +kernel),_,rfl,r,ta,cs,e,z9,⟨#[c]⟩,rfl,R',?_,?_⟩
  ·intro c' hc';have e1:c'=c:=by simpa using hc'
   subst e1;exact oz c' (bo hcl)
  ·cases hp:pk ⟨#[c]⟩ z9 with
   |none=>
    rw[hp] at es;rw[es] at k;exact k
   |some x=>
    obtain⟨n,t⟩:=x;rw[hp] at es;exact λH3 R3 s3=>⟨⟨_,rfl⟩,sb.trans s3,t,R3,es⟩
 ·rintro σ H' ⟨⟨r2,rfl⟩,sb,z9,R',es⟩;have e0:z.cps.toList.drop z.cps.size=[]:=by rw[←dc];exact uu
  rw[e0] at es;rw[es] at k;exact k H' R' sb
theorem sc_wn:FnScope ["self","most","value","count"] ["self","most"] (AH CJ):={}
theorem mL (F:Fun K "whole_number" "Reader.whole_number" CJ f fd) (T:RdC K C) (X1:TFm P w K mg base CT) (gd:GS mg "DIGITS" dz) (od:OkS dz)
 (M1:Mth P w K mg base 3 C "pick" ["self","signs"] (PL K C CT)) (M2:Mth P w K mg base 3 C "sees" ["self","signs"] (SX K C)):
 FnOk P w K mg base (CX1 P w) 4 f fd ["self","most"] (mJ K C CT dz):=by
 refine F.okx sc_wn λAc A outer s H vs Q E hr h=>?_;obtain⟨r,ta,cs,e,z8,most,rfl,R,k⟩:=h;refine⟨_,AB (AX 2 sc_wn (M1.call (pv 0) hr AD (AA (E4 gd) AF)))
  (AB (AX 3 sc_wn AI)
  (AB (B4 bq (DH (M2.call (pv 0) hr AD (AA (E4 gd) AF)))
   (AB (AZ (NV (AO C1 (pv 3) (pv 1) (AQ _)) (JM (AO C1 (pv 2) AI (AQ _)))).pt (AC (BE X1 hr AD rfl (AV (pv 0) rfl))) AM)
   (AB (AX 2 sc_wn (BD DK (BD IF AI (pv 2)) (M1.call (pv 0) hr AD (AA (E4 gd) AF))))
   (AC (JO (i:=3) sc_wn.nd rfl (uK rfl) AI JP)))))
  (AC (AL (pv 2))))),?_⟩
 and_intros
 obtain⟨dx,p,h1⟩:=R.ins;refine⟨_,rfl,r,dx,_,rfl,h1,F7 _ _ _ (by decide +kernel) (by decide +kernel) (by decide +kernel),r,ta,cs,e,z8,dz,rfl,R,od,?_⟩;have k':=k;unfold wn at k';cases hp:pk dz z8 with
 |none=>rw[hp] at k';exact k'
 |some x=>
  obtain⟨d,t⟩:=x;rw[hp] at k';replace k':Got K C CT r ta cs e H Q E DF (GL dz most 1 d t):=k';intro H1 R1 s1;refine⟨λm σ H'=>Ex3 λ(z9:List UInt8) (v n:Nat)=>σ=[some (.ref r),some (.int (most:Nat)),some (.int (v:Nat)),some (.int (n:Nat))]/\Sb r H H'/\Rd K C H' r ta cs e z9/\GL dz most 1 d t=GL dz most n v z9/\m=z9.length,
   ⟨t.length,t,d,1,rfl,s1,R1,rfl,rfl⟩,?_⟩
  rintro m σ H' ⟨z9,v,n,rfl,sb,R',ew,rfl⟩;obtain⟨dx',p',h1'⟩:=R'.ins;refine⟨_,rfl,r,dx',_,rfl,h1',F7 _ _ _ (by decide +kernel) (by decide +kernel) (by decide +kernel),r,ta,cs,e,z9,dz,rfl,R',od,λH2 s2=>⟨_,rfl,?_⟩⟩;have R2:=R'.same s2;have sb2:Sb r H H2:=sb.trans s2.sb;obtain⟨dx2,p2,h12⟩:=R2.ins;cases hs:see dz z9 with
  |false=>
   rw[Y4 hs] at ew;rw[ew] at k';exact BM ⟨_,rfl,k' H2 R2 sb2⟩
  |true=>
   obtain⟨d2,t2,hp2,hl⟩:=Y2 hs;rw[Y3 hp2] at ew;refine DS ?_
   and_intros
   refine⟨_,rfl,_,rfl,rfl,_,rfl,CF (λhc=>?_) (λhc=>?_)⟩
   ·have h0:n=most:=by
     have q:=of_decide_eq_true hc;injection q with q;omega
    rw[Ae (.inl h0)] at ew;rw[ew] at k';exact BV ⟨_,rfl,r,C,dx2,_,_,rfl,h12,T.cl,T.np,MU _ _ _,_,rfl,k' _⟩
   ·have h0:¬n=most:=λq=>hc (decide_eq_true (by rw[q]));refine⟨_,rfl,rfl,_,rfl,CF (λhc2=>?_) (λhc2=>?_)⟩
    ·have h3:v=0:=by
      have q:=of_decide_eq_true hc2;injection q with q;omega
     rw[Ae (.inr h3)] at ew;rw[ew] at k';exact⟨_,rfl,r,C,dx2,_,_,rfl,h12,T.cl,T.np,MU _ _ _,_,rfl,k' _⟩
    ·have h3:¬v=0:=λq=>hc2 (decide_eq_true (by rw[q];rfl));rw[Af (by rintro (q|q);exact h0 q;exact h3 q)] at ew;refine⟨_,rfl,_,_,rfl,rfl,.inl ⟨by decide,by decide⟩,_,rfl,r,dx2,_,rfl,h12,F7 _ _ _ (by decide +kernel) (by decide +kernel) (by decide +kernel),r,ta,cs,e,z9,dz,rfl,R2,od,?_⟩;rw[hp2];intro H3 R3 s3;refine⟨_,_,rfl,rfl,?_⟩;refine⟨_,rfl,_,_,rfl,rfl,t2.length,by omega,t2,10*v+d2,n+1,?_,sb2.trans s3,R3,ew,rfl⟩;rfl
end
open PySem PySem.Spec PyProof.Rows L2
structure RdE (P:bb) (w:bw) (K:aa) (mg:Str->Option ah) (base:cq) (C CT:ag) (dz:Str):Prop where
 T:RdC K C
 X1:TFm P w K mg base CT
 mkr:Mkr P w K mg base 1 C "Reader" ["self","text","place","end"] (gS C)
 en:Mth P w K mg base 1 C "ended" ["self"] (Y0 K C)
 byt:Mth P w K mg base 2 C "byte" ["self"] (PJ K C)
 se:Mth P w K mg base 3 C "sees" ["self","signs"] (SX K C)
 pi:Mth P w K mg base 3 C "pick" ["self","signs"] (PL K C CT)
 sk:Mth P w K mg base 4 C "skip" ["self","word"] (Y1 K C CT)
 wn:Mth P w K mg base 4 C "whole_number" ["self","most"] (mJ K C CT dz)
theorem oks (h:(z.cps.toList.all λc=>decide (c<256))=true):OkS z:=λc hc=>of_decide_eq_true (jd.mp h c hc)
inductive RdX (K:aa) (C:ag) (x:V) (H:Hp) (k:ag->ag->List UInt8->Nat->List UInt8->Prop):Prop
 |intro(r ta:ag) (cs:List UInt8) (e:Nat) (z8:List UInt8) (ex:x= .ref r) (h:Rd K C H r ta cs e z8) (q:k r ta cs e z8):RdX K C x H k
def UU (K:aa) (C:ag) (to:TE) (z:Str):TT:=λσ H Q=>to σ H λx H1=>RdX K C x H1 λ_ _ _ _ z8=>∀H',Same H1 H'->Q (see z z8) H'
def gU (K:aa) (C:ag) (to:TE):TT:=λσ H Q=>to σ H λx H1=>RdX K C x H1 λ_ _ _ _ z8=>Q z8.isEmpty H1
def mM (K:aa) (C:ag) (to:TE):TE:=λσ H Q=>to σ H λx H1=>RdX K C x H1 λ_ _ _ _ z8=>Q (.int (bt z8)) H1
def mN (K:aa) (C CT:ag) (E:XK) (to:TE) (z:Str):TE:=λσ H Q=>to σ H λx H1=>RdX K C x H1 λr ta cs e z8=>Got K C CT r ta cs e H1 Q E DF (pk z z8)
def tWN (K:aa) (C CT:ag) (E:XK) (to:TE) (dz:Str) (most:Nat):TE:=λσ H Q=>to σ H λx H1=>RdX K C x H1 λr ta cs e z8=>Got K C CT r ta cs e H1 Q E DF (wn dz most z8)
def MV (K:aa) (C CT:ag) (E:XK) (to:TE) (z:Str):TS:=λD σ H=>to σ H λx H1=>RdX K C x H1 λr ta cs e z8=>Got K C CT r ta cs e H1 (λ_ H'=>D.nx σ H') E WR (sk z.cps.toList z8)
section
variable {X:Cx} {C CT:ag} {dz z:Str} {E:XK} {k':Nat} {o e:Expr} {to:TE} {apos pos spos:Pos} {most:Nat}
theorem UV (ta:ag) (p e:Int):(rf ta p e).lookup ("sees":Str)=none:=F7 _ _ _ (by decide +kernel) (by decide +kernel) (by decide +kernel)
theorem UW (ta:ag) (p e:Int):(rf ta p e).lookup ("pick":Str)=none:=F7 _ _ _ (by decide +kernel) (by decide +kernel) (by decide +kernel)
theorem PM (ta:ag) (p e:Int):(rf ta p e).lookup ("skip":Str)=none:=F7 _ _ _ (by decide +kernel) (by decide +kernel) (by decide +kernel)
theorem mO (ta:ag) (p e:Int):(rf ta p e).lookup ("whole_number":Str)=none:=F7 _ _ _ (by decide +kernel) (by decide +kernel) (by decide +kernel)
theorem Y5 (ta:ag) (p e:Int):(rf ta p e).lookup ("ended":Str)=none:=F7 _ _ _ (by decide +kernel) (by decide +kernel) (by decide +kernel)
theorem cH (ta:ag) (p e:Int):(rf ta p e).lookup ("byte":Str)=none:=F7 _ _ _ (by decide +kernel) (by decide +kernel) (by decide +kernel)
theorem BH {pl:Sem Bool} (R:RdE X.prog X.w X.K X.mg X.base C CT dz) (hr:Room k' X.A) (hx:Out X E) (ho:PE X o to) (hz:PE X e (tC (.str z))) (oz:OkS z) (hk:3<=k':=by decide)
 (hst:be [e] X.env=(false,eval e X.env)::be [] X.env:=by rfl)
 (hti:∀whole,wG (.Call (.Attribute o "sees" apos) [e] [] pos) X.env whole=(do let v←whole;mm (zZ (.Attribute o "sees" apos) [e] [] pos).pos;li [v] (truthy v)):=by intro _;rfl)
 (ht:eval (.Call (.Attribute o "sees" apos) [e] [] pos) X.env=(do
  let ov←eval o X.env
  mm apos.atName
  let (f,first)←li [ov] (kj ov "sees" pl)
  mr pos f first (ig pos (be [e] X.env)) (jr pos (gq [] X.env))):=by rfl):
 PT X (.Call (.Attribute o "sees" apos) [e] [] pos) (UU X.K C to z):=by
 intro z7 s σ H Q I h;refine DH (R.se.call (E:=E) (IB (K0:=λx H1=>RdX X.K C x H1 λ_ _ _ _ z8=>∀H',Same H1 H'->Q (see z z8) H') ho) hr hx (AA hz AF hst) hk hst rfl ht) hti z7 s σ H Q I ⟨h,λx H1 ⟨r,ta,cs,e,z8,ex,Rr,q⟩=>?_⟩;obtain⟨dx,p,h1⟩:=Rr.ins;exact⟨r,dx,_,ex,h1,UV _ _ _,r,ta,cs,e,z8,z,by rw[ex];rfl,Rr,oz,λH' s'=>⟨_,rfl,q H' s'⟩⟩
theorem JD {pl:Sem Bool} (R:RdE X.prog X.w X.K X.mg X.base C CT dz) (hr:Room k' X.A) (hx:Out X E) (ho:PE X o to) (hk:1<=k':=by decide)
 (hti:∀whole,wG (.Call (.Attribute o "ended" apos) [] [] pos) X.env whole=(do let v←whole;mm (zZ (.Attribute o "ended" apos) [] [] pos).pos;li [v] (truthy v)):=by intro _;rfl)
 (ht:eval (.Call (.Attribute o "ended" apos) [] [] pos) X.env=(do
  let ov←eval o X.env
  mm apos.atName
  let (f,first)←li [ov] (kj ov "ended" pl)
  mr pos f first (ig pos (be [] X.env)) (jr pos (gq [] X.env))):=by rfl):
 PT X (.Call (.Attribute o "ended" apos) [] [] pos) (gU X.K C to):=by
 intro z7 s σ H Q I h;refine DH (R.en.call0 (E:=E) (IB (K0:=λx H1=>RdX X.K C x H1 λ_ _ _ _ z8=>Q z8.isEmpty H1) ho) hr hx hk ht) hti z7 s σ H Q I ⟨h,λx H1 ⟨r,ta,cs,e,z8,ex,Rr,q⟩=>?_⟩;obtain⟨dx,p,h1⟩:=Rr.ins;exact⟨r,dx,_,ex,h1,Y5 _ _ _,r,ta,cs,e,z8,by rw[ex];rfl,Rr,_,rfl,q⟩
theorem UX {pl:Sem Bool} (R:RdE X.prog X.w X.K X.mg X.base C CT dz) (hr:Room k' X.A) (hx:Out X E) (ho:PE X o to) (hk:2<=k':=by decide)
 (ht:eval (.Call (.Attribute o "byte" apos) [] [] pos) X.env=(do
  let ov←eval o X.env
  mm apos.atName
  let (f,first)←li [ov] (kj ov "byte" pl)
  mr pos f first (ig pos (be [] X.env)) (jr pos (gq [] X.env))):=by rfl):
 PE X (.Call (.Attribute o "byte" apos) [] [] pos) (mM X.K C to):=by
 intro z7 s σ H Q I h;refine R.byt.call0 (E:=E) (IB (K0:=λx H1=>RdX X.K C x H1 λ_ _ _ _ z8=>Q (.int (bt z8)) H1) ho) hr hx hk ht z7 s σ H Q I ⟨h,λx H1 ⟨r,ta,cs,e,z8,ex,Rr,q⟩=>?_⟩;obtain⟨dx,p,h1⟩:=Rr.ins;exact⟨r,dx,_,ex,h1,cH _ _ _,r,ta,cs,e,z8,by rw[ex];rfl,Rr,q⟩
theorem ER {pl:Sem Bool} (R:RdE X.prog X.w X.K X.mg X.base C CT dz) (hr:Room k' X.A) (hx:Out X E) (ho:PE X o to) (hz:PE X e (tC (.str z))) (oz:OkS z) (hk:3<=k':=by decide)
 (hst:be [e] X.env=(false,eval e X.env)::be [] X.env:=by rfl)
 (ht:eval (.Call (.Attribute o "pick" apos) [e] [] pos) X.env=(do
  let ov←eval o X.env
  mm apos.atName
  let (f,first)←li [ov] (kj ov "pick" pl)
  mr pos f first (ig pos (be [e] X.env)) (jr pos (gq [] X.env))):=by rfl):
 PE X (.Call (.Attribute o "pick" apos) [e] [] pos) (mN X.K C CT E to z):=by
 intro z7 s σ H Q I h;refine R.pi.call (E:=E) (IB (K0:=λx H1=>RdX X.K C x H1 λr ta cs e z8=>Got X.K C CT r ta cs e H1 Q E DF (pk z z8)) ho) hr hx (AA hz AF hst) hk hst rfl ht z7 s σ H Q I ⟨h,λx H1 ⟨r,ta,cs,e,z8,ex,Rr,q⟩=>?_⟩;obtain⟨dx,p,h1⟩:=Rr.ins;exact⟨r,dx,_,ex,h1,UW _ _ _,r,ta,cs,e,z8,z,by rw[ex];rfl,Rr,oz,q⟩
theorem UY {pl:Sem Bool} (R:RdE X.prog X.w X.K X.mg X.base C CT dz) (hr:Room k' X.A) (hx:Out X E) (ho:PE X o to) (hz:PE X e (tC (.int (most:Nat)))) (hk:4<=k':=by decide)
 (hst:be [e] X.env=(false,eval e X.env)::be [] X.env:=by rfl)
 (ht:eval (.Call (.Attribute o "whole_number" apos) [e] [] pos) X.env=(do
  let ov←eval o X.env
  mm apos.atName
  let (f,first)←li [ov] (kj ov "whole_number" pl)
  mr pos f first (ig pos (be [e] X.env)) (jr pos (gq [] X.env))):=by rfl):
 PE X (.Call (.Attribute o "whole_number" apos) [e] [] pos) (tWN X.K C CT E to dz most):=by
 intro z7 s σ H Q I h;refine R.wn.call (E:=E) (IB (K0:=λx H1=>RdX X.K C x H1 λr ta cs e z8=>Got X.K C CT r ta cs e H1 Q E DF (wn dz most z8)) ho) hr hx (AA hz AF hst) hk hst rfl ht z7 s σ H Q I ⟨h,λx H1 ⟨r,ta,cs,e,z8,ex,Rr,q⟩=>?_⟩;obtain⟨dx,p,h1⟩:=Rr.ins;exact⟨r,dx,_,ex,h1,mO _ _ _,r,ta,cs,e,z8,most,by rw[ex];rfl,Rr,q⟩
theorem BI {pl:Sem Bool} (R:RdE X.prog X.w X.K X.mg X.base C CT dz) (hr:Room k' X.A) (hx:Out X E) (ho:PE X o to) (hz:PE X e (tC (.str z))) (oz:OkS z) (hk:4<=k':=by decide)
 (hst:be [e] X.env=(false,eval e X.env)::be [] X.env:=by rfl) (hsw:pf (.Call (.Attribute o "skip" apos) [e] [] pos) none spos.line X.env=pure false:=by rfl)
 (ht:eval (.Call (.Attribute o "skip" apos) [e] [] pos) X.env=(do
  let ov←eval o X.env
  mm apos.atName
  let (f,first)←li [ov] (kj ov "skip" pl)
  mr pos f first (ig pos (be [e] X.env)) (jr pos (gq [] X.env))):=by rfl):
 PS X (.Expr (.Call (.Attribute o "skip" apos) [e] [] pos) spos) (MV X.K C CT E to z):=by
 intro z7 s σ H D I h;refine AY (R.sk.call (E:=E) (IB (K0:=λx H1=>RdX X.K C x H1 λr ta cs e z8=>Got X.K C CT r ta cs e H1 (λ_ H'=>D.nx σ H') E WR (sk z.cps.toList z8)) ho) hr hx (AA hz AF hst) hk hst rfl ht) hsw z7 s σ H D I ⟨h,λx H1 ⟨r,ta,cs,e,z8,ex,Rr,q⟩=>?_⟩;obtain⟨dx,p,h1⟩:=Rr.ins;exact⟨r,dx,_,ex,h1,PM _ _ _,r,ta,cs,e,z8,z,by rw[ex];rfl,Rr,oz,q⟩
def PN (K:aa) (C:ag) (to:TE):TE:=λσ H Q=>to σ H λx H1=>RdX K C x H1 λ_ _ _ _ _=>∀z:Int,Q (.int z) H1
theorem B1 (R:RdE X.prog X.w X.K X.mg X.base C CT dz) (ho:PE X o to) (hb:jq o "place" X.env (eval o X.env)=eval o X.env:=by rfl):PE X (.Attribute o "place" pos) (PN X.K C to):=by
 intro z7 s σ H Q I h;refine AV (IB (K0:=λx H1=>RdX X.K C x H1 λ_ _ _ _ _=>∀z:Int,Q (.int z) H1) ho) hb z7 s σ H Q I ⟨h,λx H1 ⟨r,ta,cs,e,z8,ex,Rr,q⟩=>?_⟩;obtain⟨dx,p,h1⟩:=Rr.ins;exact⟨r,C,dx,_,_,ex,h1,R.T.cl,R.T.np,MU _ _ _,q _⟩
end
open PySem PySem.Spec PyProof.Rows L2
theorem AJ {K:aa} {enc:α->V} {res:Option (α×List UInt8)} (h:res=none) (k:∀z:Int,E (.ref CT) none (xH [("place",.int z)])):Got K CR CT r ta cs e H Q E enc res:=by
 rw[h];exact k
theorem AK {K:aa} {enc:α->V} {res:Option (α×List UInt8)} {v:α} (h:res=some (v,t)) (k:∀H',Rd K CR H' r ta cs e t->Sb r H H'->Q (enc v) H'):Got K CR CT r ta cs e H Q E enc res:=by
 rw[h];exact k
def SY (K:aa) (CR CT r ta:ag) (cs:List UInt8) (e:Nat) (H:Hp) (Q:VK) (E:XK):Option (List Int×List UInt8)->Prop
 |some (l,z9)=>∀H' a,Rd K CR H' r ta cs e z9->Sb r H H'->SqT K H' a (l.map V.int)->Q (.ref a) H'
 |none=>∀z:Int,E (.ref CT) none (xH [("place",.int z)])
def GK {α:Type} (K:aa) (C CT:ag) (m:List UInt8->Option (α×List UInt8)) (enc:α->V):Sp:=λvs H Q E=>Ex5 λ(r ta:ag) (cs:List UInt8) (e:Nat) (z8:List UInt8)=>vs=[.ref r]/\Rd K C H r ta cs e z8/\Got K C CT r ta cs e H Q E enc (m z8)
def E5 (K:aa) (C CT:ag) (m:List UInt8->Option (List Int×List UInt8)):Sp:=λvs H Q E=>Ex5 λ(r ta:ag) (cs:List UInt8) (e:Nat) (z8:List UInt8)=>vs=[.ref r]/\Rd K C H r ta cs e z8/\SY K C CT r ta cs e H Q E (m z8)
def Y6 (K:aa) (C CT:ag) (m:List UInt8->Option (List Int×List UInt8)):Sp:=λvs H Q E=>Ex6 λ(r ta:ag) (cs:List UInt8) (e:Nat) (z8:List UInt8) (st:Int)=>vs=[.ref r,.int st]/\Rd K C H r ta cs e z8/\SY K C CT r ta cs e H Q E (m z8)
def kO {α:Type} (K:aa) (C CT:ag) (E:XK) (to:TE) (m:List UInt8->Option (α×List UInt8)) (enc:α->V):TE:=λσ H Q=>to σ H λx H1=>RdX K C x H1 λr ta cs e z8=>Got K C CT r ta cs e H1 Q E enc (m z8)
def mP (K:aa) (C CT:ag) (E:XK) (to:TE) (m:List UInt8->Option (List Int×List UInt8)):TE:=λσ H Q=>to σ H λx H1=>RdX K C x H1 λr ta cs e z8=>SY K C CT r ta cs e H1 Q E (m z8)
section
variable {X:Cx} {C CT:ag} {E:XK} {k k':Nat} {f pn:Str} {o:Expr} {to:TE} {p pos:Pos}
theorem J6 {m:List UInt8->Option (α×List UInt8)} {enc:α->V} (D:Def X.prog X.w X.K X.mg X.base k f [pn] (GK X.K C CT m enc)) (hr:Room k' X.A) (hx:Out X E) (ho:PE X o to) (hk:k<=k':=by decide) (hg:Gl X f:=by rfl)
 (hdb:(f==("__debug__":Str))=false:=by decide) (hst:be [o] X.env=(false,eval o X.env)::be [] X.env:=by rfl):PE X (.Call (.Name f p) [o] [] pos) (kO X.K C CT E to m enc):=by
 intro z7 s σ H Q I h;refine D.call (E:=E) hr hx (AA (IB (K0:=λx H1=>RdX X.K C x H1 λr ta cs e z8=>Got X.K C CT r ta cs e H1 Q E enc (m z8)) ho) AF hst) hk hg hdb hst rfl z7 s σ H Q I ⟨h,λx H1 ⟨r,ta,cs,e,z8,ex,Rr,q⟩=>?_⟩;exact⟨r,ta,cs,e,z8,by rw[ex];rfl,Rr,q⟩
theorem GG {m:List UInt8->Option (List Int×List UInt8)} (D:Def X.prog X.w X.K X.mg X.base k f [pn] (E5 X.K C CT m)) (hr:Room k' X.A) (hx:Out X E) (ho:PE X o to) (hk:k<=k':=by decide) (hg:Gl X f:=by rfl)
 (hdb:(f==("__debug__":Str))=false:=by decide) (hst:be [o] X.env=(false,eval o X.env)::be [] X.env:=by rfl):PE X (.Call (.Name f p) [o] [] pos) (mP X.K C CT E to m):=by
 intro z7 s σ H Q I h;refine D.call (E:=E) hr hx (AA (IB (K0:=λx H1=>RdX X.K C x H1 λr ta cs e z8=>SY X.K C CT r ta cs e H1 Q E (m z8)) ho) AF hst) hk hg hdb hst rfl z7 s σ H Q I ⟨h,λx H1 ⟨r,ta,cs,e,z8,ex,Rr,q⟩=>?_⟩;exact⟨r,ta,cs,e,z8,by rw[ex];rfl,Rr,q⟩
end
def mUn (l:List UInt8):Option (List Int×List UInt8):=match sk ("1":Str).cps.toList l with
 |none=>none
 |some (_,t)=>if t.isEmpty=true then some ([0,0,0,0,1],t) else none
def mSg (dz:Str) (l:List UInt8):Option (Int×List UInt8):=if see "-" l=true then(match sk ("-":Str).cps.toList l with
 |none=>none
 |some (_,t)=>if see "0" t=true then none else match wn dz 4 t with
  |none=>none
  |some (n,u)=>some (-(n:Int),u))
 else match wn dz 4 l with
  |none=>none
  |some (n,u)=>some ((n:Int),u)
def mPw (dz:Str) (l:List UInt8):Option (List Int×List UInt8):=if see "^" l=true then(match sk ("^":Str).cps.toList l with
 |none=>none
 |some (_,t)=>match mSg dz t with
  |none=>none
  |some (n,u)=>if see "/" u=true then(match sk ("/":Str).cps.toList u with
   |none=>none
   |some (_,v)=>match wn dz 4 v with
    |none=>none
    |some (d,y)=>if d<2\/1<pp n d then none else some ([n,(d:Int)],y))
   else if n=0\/n=1 then none else some ([n,1],u))
 else some ([1,1],l)
def mQ (n:Int):V:=.int n
section
variable {P:bb} {w:bw} {K:aa} {mg:Str->Option ah} {base:cq} {C CT:ag} {dz:Str}
theorem mS:FnScope ["reader"] ["reader"] (AH FT):={}
theorem mU (F:Fun K "read_unison" "read_unison" FT f fd) (R:RdE P w K mg base C CT dz) (gu:GT K mg "UNISON" (([0,0,0,0,1]:List Int).map V.int)):FnOk P w K mg base (CX1 P w) 5 f fd ["reader"] (E5 K C CT mUn):=by
 refine F.okx mS λAc A outer s H vs Q E hr h=>?_;obtain⟨r,ta,cs,e,z8,rfl,Rr,k⟩:=h;refine⟨_,AB (BI R hr AD (pv 0) AS (oks (by decide +kernel))) (AB (AZ (DU (JD R hr AD (pv 0))) (AC (BE R.X1 hr AD rfl (B1 R (pv 0)))) AM) (AC (AL (OB gu)))),?_⟩
 and_intros
 unfold mUn at k;refine⟨_,rfl,r,ta,cs,e,z8,rfl,Rr,?_⟩;cases hs:sk ("1":Str).cps.toList z8 with
 |none=>rw[hs] at k;exact AJ rfl k
 |some x=>
  obtain⟨_,t⟩:=x;rw[hs] at k;refine AK rfl λH1 R1 s1=>?_;refine⟨_,rfl,r,ta,cs,e,t,rfl,R1,?_⟩;cases t with
  |nil=>exact BM λa ha=>k H1 a R1 s1 (ha H1)
  |cons c t=>exact BV ⟨_,rfl,r,ta,cs,e,_,rfl,R1,λz=>⟨z,rfl,k z⟩⟩
theorem mV:FnScope ["reader"] ["reader"] (AH FU):={}
theorem mW (F:Fun K "read_signed" "read_signed" FU f fd) (R:RdE P w K mg base C CT dz) (gm:GI mg "MOST_DIGITS" ((4:Nat):Int)):FnOk P w K mg base (CX1 P w) 5 f fd ["reader"] (GK K C CT (mSg dz) mQ):=by
 refine F.okx mV λAc A outer s H vs Q E hr h=>?_;obtain⟨r,ta,cs,e,z8,rfl,Rr,k⟩:=h;refine⟨_,AB (AZ (DU (BH R hr AD (pv 0) AS (oks (by decide +kernel)))) (AC (AL (UY (most:=4) R hr AD (pv 0) (B6 gm)))) AM)
  (AB (BI R hr AD (pv 0) AS (oks (by decide +kernel)))
  (AB (AZ (BH R hr AD (pv 0) AS (oks (by decide +kernel))) (AC (BE R.X1 hr AD rfl (B1 R (pv 0)))) AM)
  (AC (AL (GN EU (UY (most:=4) R hr AD (pv 0) (B6 gm))))))),?_⟩
 and_intros
 unfold mSg at k;refine⟨_,rfl,r,ta,cs,e,z8,rfl,Rr,λH1 s1=>?_⟩;have R1:=Rr.same s1;cases hm:see "-" z8 with
 |false=>
  rw[Af (by rw[hm];decide)] at k;refine BV ⟨_,rfl,r,ta,cs,e,z8,rfl,R1,?_⟩;cases hw:wn dz 4 z8 with
  |none=>rw[hw] at k;exact AJ rfl k
  |some x=>
   obtain⟨n,u⟩:=x;rw[hw] at k;exact AK rfl λH2 R2 s2=>k H2 R2 (s1.sb.trans s2)
 |true=>
  rw[Ae hm] at k;refine BM ⟨_,rfl,r,ta,cs,e,z8,rfl,R1,?_⟩;cases hs:sk ("-":Str).cps.toList z8 with
  |none=>rw[hs] at k;exact AJ rfl k
  |some x=>
   obtain⟨_,t⟩:=x;rw[hs] at k;refine AK rfl λH2 R2 s2=>?_;refine⟨_,rfl,r,ta,cs,e,t,rfl,R2,λH3 s3=>?_⟩;have R3:=R2.same s3;cases h0:see "0" t with
   |true=>
    replace k:∀z:Int,E (.ref CT) none (xH [("place",.int z)]):=by
     have k':=k;simp only[h0,if_true] at k';exact k'
    exact BV ⟨_,rfl,r,ta,cs,e,_,rfl,R3,λz=>⟨z,rfl,k z⟩⟩
   |false=>
    simp only[h0,fq,if_false] at k;refine BM ⟨_,rfl,r,ta,cs,e,t,rfl,R3,?_⟩;cases hw:wn dz 4 t with
    |none=>rw[hw] at k;exact AJ rfl k
    |some x=>
     obtain⟨n,u⟩:=x;rw[hw] at k;exact AK rfl λH4 R4 s4=>⟨_,rfl,k H4 R4 (((s1.sb.trans s2).trans s3.sb).trans s4)⟩
theorem Y7:FnScope ["reader","start","top","below"] ["reader","start"] (AH GB):={}
theorem mX (F:Fun K "read_power" "read_power" GB f fd) (R:RdE P w K mg base C CT dz) (gm:GI mg "MOST_DIGITS" ((4:Nat):Int)) (D1:Def P w K mg base 5 "read_signed" ["reader"] (GK K C CT (mSg dz) mQ))
 (D2:Def P w K mg base 1 "common_factor" ["x","y"] gN):FnOk P w K mg base (CX1 P w) 6 f fd ["reader","start"] (Y6 K C CT (mPw dz)):=by
 refine F.okx Y7 λAc A outer s H vs Q E hr h=>?_;obtain⟨r,ta,cs,e,z8,st,rfl,Rr,k⟩:=h;refine⟨_,AB (AZ (DU (BH R hr AD (pv 0) AS (oks (by decide +kernel)))) (AC (AL (EW (AA AI (AA AI AF))))) AM)
  (AB (BI R hr AD (pv 0) AS (oks (by decide +kernel)))
  (AB (AX 2 Y7 (J6 D1 hr AD (pv 0)))
  (AB (AZ (DU (BH R hr AD (pv 0) AS (oks (by decide +kernel))))
   (AB (AZ (NV (AO C1 (pv 2) AI (AQ _)) (JM (AO C1 (pv 2) AI (AQ _)))).pt (AC (BE R.X1 hr AD rfl (pv 1))) AM) (AC (AL (EW (AA (pv 2) (AA AI AF)))))) AM)
  (AB (BI R hr AD (pv 0) AS (oks (by decide +kernel)))
  (AB (AX 3 Y7 (UY (most:=4) R hr AD (pv 0) (B6 gm)))
  (AB (AZ (NV (AO HW (pv 3) AI (AQ _)) (JM (AO E9 (D2.call hr AD (AA (pv 2) (AA (pv 3) AF))) AI (AQ _)))).pt (AC (BE R.X1 hr AD rfl (pv 1))) AM)
  (AC (AL (EW (AA (pv 2) (AA (pv 3) AF))))))))))),?_⟩
 and_intros
 unfold mPw at k;refine⟨_,rfl,r,ta,cs,e,z8,rfl,Rr,λH1 s1=>?_⟩;have R1:=Rr.same s1;cases hm:see "^" z8 with
 |false=>
  rw[Af (by rw[hm];decide)] at k;refine BV ⟨(by show 2<=sizeLine;decide),λt ht=>?_⟩;exact k _ t (R1.same (Same.upd ht)) (s1.trans (Same.upd ht)).sb (SqT.of upd_same)
 |true=>
  rw[Ae hm] at k;refine BM ⟨_,rfl,r,ta,cs,e,z8,rfl,R1,?_⟩;cases hs:sk ("^":Str).cps.toList z8 with
  |none=>rw[hs] at k;exact AJ rfl k
  |some x=>
   obtain⟨_,t⟩:=x;rw[hs] at k;refine AK rfl λH2 R2 s2=>?_;refine⟨_,rfl,r,ta,cs,e,t,rfl,R2,?_⟩;cases hg:mSg dz t with
   |none=>simp only[hg] at k;exact AJ rfl k
   |some x=>
    obtain⟨n,u⟩:=x;simp only[hg] at k;refine AK rfl λH3 R3 s3=>?_;refine⟨_,rfl,r,ta,cs,e,u,rfl,R3,λH4 s4=>?_⟩;have R4:=R3.same s4;have sb4:Sb r H H4:=((s1.sb.trans s2).trans s3).trans s4.sb;cases hl:see "/" u with
    |false=>
     simp only[hl,fq,if_false] at k;refine BV ⟨V.int n,rfl,rfl,_,rfl,CF (λh0=>?_) (λh0=>?_)⟩
     ·have e0:n=0:=by
       have q:=of_decide_eq_true h0;injection q
      rw[Ae (.inl e0)] at k;exact BV ⟨_,rfl,_,rfl,k _⟩
     ·have e0:¬n=0:=λq=>h0 (decide_eq_true (by rw[q]));refine⟨V.int n,rfl,rfl,_,rfl,CF (λh1=>?_) (λh1=>?_)⟩
      ·have e1:n=1:=by
        have q:=of_decide_eq_true h1;injection q
       rw[Ae (.inr e1)] at k;exact⟨_,rfl,_,rfl,k _⟩
      ·have e1:¬n=1:=λq=>h1 (decide_eq_true (by rw[q]));rw[Af (by rintro (q|q);exact e0 q;exact e1 q)] at k;refine⟨V.int n,rfl,(by show 2<=sizeLine;decide),λt ht=>?_⟩;exact k _ t (R4.same (Same.upd ht)) (sb4.trans (Same.upd ht).sb) (SqT.of upd_same)
    |true=>
     simp only[hl,if_true] at k;refine BM ⟨_,rfl,r,ta,cs,e,u,rfl,R4,?_⟩;cases hs2:sk ("/":Str).cps.toList u with
     |none=>rw[hs2] at k;exact AJ rfl k
     |some x=>
      obtain⟨_,v⟩:=x;rw[hs2] at k;refine AK rfl λH5 R5 s5=>?_;refine⟨_,rfl,r,ta,cs,e,v,rfl,R5,?_⟩;cases hw:wn dz 4 v with
      |none=>simp only[hw] at k;exact AJ rfl k
      |some x=>
       obtain⟨d,y⟩:=x;simp only[hw] at k;refine AK rfl λH6 R6 s6=>?_;have sb6:Sb r H H6:=(sb4.trans s5).trans s6;refine⟨V.int (d:Nat),rfl,_,_,rfl,rfl,_,rfl,CF (λh0=>?_) (λh0=>?_)⟩
       ·have e0:d<2:=by
         have:(d:Int)<2:=by simpa using h0
         omega
        rw[Ae (.inl e0)] at k;exact BV ⟨_,rfl,_,rfl,k _⟩
       ·have e0:¬d<2:=by
         have:¬(d:Int)<2:=by simpa using h0
         omega
        refine⟨V.int n,rfl,V.int (d:Nat),rfl,n,(d:Nat),rfl,_,_,rfl,rfl,_,rfl,CF (λh1=>?_) (λh1=>?_)⟩
        ·have e1:1<pp n d:=by
          have:(1:Int)<(pp n d:Nat):=by simpa using h1
          omega
         rw[Ae (.inr e1)] at k;exact⟨_,rfl,_,rfl,k _⟩
        ·have e1:¬1<pp n d:=by
          have:¬(1:Int)<(pp n d:Nat):=by simpa using h1
          omega
         rw[Af (by rintro (q|q);exact e0 q;exact e1 q)] at k;refine⟨V.int n,rfl,V.int (d:Nat),rfl,(by show 2<=sizeLine;decide),λt ht=>?_⟩;exact k _ t (R6.same (Same.upd ht)) (sb6.trans (Same.upd ht).sb) (SqT.of upd_same)
end
open PySem PySem.Spec PyProof.Rows L2
theorem EM {l:List UInt8} (h:pk z l=some (n,t)):t.length+1=l.length/\n<z.cps.toList.length:=by
 cases l with
 |nil=>cases h
 |cons c u=>
  rw[BR] at h;cases hi:BQ z.cps.toList (c.toNat:Nat) with
  |none=>rw[hi] at h;cases h
  |some m=>
   rw[hi] at h;cases h;refine⟨rfl,?_⟩;unfold BQ at hi;rw[kx] at hi;exact hi.1
theorem BK:∀{x:List Nat} {l t:List UInt8} {u:Unit},sk x l=some (u,t)->t.length+x.length=l.length
 |[],l,t,u,h=>by cases h;simp
 |x::w,[],t,u,h=>by cases h
 |x::w,c::l,t,u,h=>by
  rw[sk] at h;split at h
  ·have:=BK h;simp;omega
  ·cases h
theorem UZ {most:Nat} (hz:z.cps.toList.length<=10):∀{l t:List UInt8} {n v r:Nat},GL z most n v l=some (r,t)->t.length<=l.length/\(n<=most->v<10 ^ n->r<10 ^ most)
 |[],t,n,v,r,h=>by
  rw[GL] at h;cases h;exact⟨aw _,λh1 h2=>bu h2 (lv (by decide) h1)⟩
 |c::l,t,n,v,r,h=>by
  rw[GL] at h;cases hi:BQ z.cps.toList (c.toNat:Nat) with
  |none=>
   simp only[hi] at h;cases h;exact⟨aw _,λh1 h2=>bu h2 (lv (by decide) h1)⟩
  |some d=>
   simp only[hi] at h;split at h
   ·cases h
   ·rename_i hc;have hd:d<10:=by
     unfold BQ at hi;rw[kx] at hi;have:=hi.1;omega
    obtain⟨h3,h4⟩:=UZ hz h;refine⟨by simp;omega,λh1 h2=>h4 ?_ ?_⟩
    ·have:¬n=most:=λq=>hc (.inl q);omega
    ·rw[yV];omega
theorem Y8 {most:Nat} {l:List UInt8} (hz:z.cps.toList.length<=10) (hm:1<=most) (h:wn z most l=some (n,t)):t.length<l.length/\n<10 ^ most:=by
 unfold wn at h;cases hp:pk z l with
 |none=>rw[hp] at h;cases h
 |some x=>
  obtain⟨d,u⟩:=x;rw[hp] at h;have h1:=EM hp;obtain⟨h2,h3⟩:=UZ hz h;exact⟨by omega,h3 hm (by omega)⟩
theorem gW {n:Int} {l:List UInt8} (hz:z.cps.toList.length<=10) (h:mSg z l=some (n,t)):t.length<=l.length/\n.natAbs<10000:=by
 unfold mSg at h;split at h
 ·cases hs:sk ("-":Str).cps.toList l with
  |none=>rw[hs] at h;cases h
  |some x=>
   obtain⟨_,u⟩:=x;simp only[hs] at h;split at h
   ·cases h
   ·cases hw:wn z 4 u with
    |none=>simp only[hw] at h;cases h
    |some x=>
     obtain⟨m,v⟩:=x;simp only[hw] at h;cases h;have h1:=BK hs;have h2:=Y8 hz (by decide) hw;refine⟨by omega,?_⟩;have:m<10000:=h2.2;omega
 ·cases hw:wn z 4 l with
  |none=>simp only[hw] at h;cases h
  |some x=>
   obtain⟨m,v⟩:=x;simp only[hw] at h;cases h;have h2:=Y8 hz (by decide) hw;refine⟨by omega,?_⟩;have:m<10000:=h2.2;omega
theorem gX {l:List UInt8} (hz:z.cps.toList.length<=10) (h:mPw z l=some (x,t)):t.length<=l.length/\Ex2 λ(n:Int) (d:Nat)=>x=[n,(d:Int)]/\n.natAbs<10000/\1<=d/\d<10000:=by
 unfold mPw at h;split at h
 ·cases hs:sk ("^":Str).cps.toList l with
  |none=>rw[hs] at h;cases h
  |some y=>
   obtain⟨_,u⟩:=y;simp only[hs] at h;have h1:=BK hs;cases hg:mSg z u with
   |none=>simp only[hg] at h;cases h
   |some y=>
    obtain⟨n,v⟩:=y;simp only[hg] at h;have h2:=gW hz hg;split at h
    ·cases hs2:sk ("/":Str).cps.toList v with
     |none=>rw[hs2] at h;cases h
     |some y=>
      obtain⟨_,q⟩:=y;simp only[hs2] at h;have h3:=BK hs2;cases hw:wn z 4 q with
      |none=>simp only[hw] at h;cases h
      |some y=>
       obtain⟨d,q2⟩:=y;simp only[hw] at h;have h4:=Y8 hz (by decide) hw;split at h
       ·cases h
       ·rename_i hc;cases h;have:¬d<2:=λq=>hc (.inl q);have:d<10000:=h4.2;exact⟨by omega,n,d,rfl,h2.2,by omega,by omega⟩
    ·split at h
     ·cases h
     ·cases h;exact⟨by omega,n,1,rfl,h2.2,by decide,by decide⟩
 ·cases h;exact⟨aw _,1,1,rfl,by decide,by decide,by decide⟩
def K8 (k:Nat) (n d:Int):List Int:=[0,0,0,0,d].set k n
def un5:List Int:=[0,0,0,0,1]
def mFc (dz fz:Str):Nat->Nat->List Int->List UInt8->Option (List Int×List UInt8)
 |0,_,_,_=>none
 |f+1,least,pr,l=>match pk fz l with
  |none=>none
  |some (k,t)=>match mPw dz t with
   |none=>none
   |some (x,u)=>if k<least then none else
    let pr':=BW (K8 k (x.getD 0 0) (x.getD 1 0)) pr
    if u.isEmpty=true then some (pr',u) else match sk (" ":Str).cps.toList u with
     |none=>none
     |some (_,v)=>mFc dz fz f (k+1) pr' v
theorem MW (x y:List Int):(BW x y).length=5:=by simp[BW,D7]
theorem gY (x y:List Int):(BW x y).getD 4 0=(x.getD 4 0*y.getD 4 0) / (BZ (D7 x y):Int):=by
 unfold BW;have:(D7 x y)[4]? =some (x.getD 4 0*y.getD 4 0):=by unfold D7;rfl
 simp[uq,az,this]
theorem Y9 {y:List Int} (hx:0<x.getD 4 0) (hy:0<y.getD 4 0):0<(BW x y).getD 4 0/\(BW x y).getD 4 0<=x.getD 4 0*y.getD 4 0:=by
 rw[gY];have hg:=US hx hy;have hp:0<x.getD 4 0*y.getD 4 0:=xh hx hy;obtain⟨q,hq⟩:=IO (JY x y);have e:x.getD 4 0*y.getD 4 0 / (BZ (D7 x y):Int)=q:=by rw[hq];exact qi q (by omega)
 rw[e];have hq0:0<q:=by
  rw[hq] at hp;exact Int.pos_of_mul_pos_right hp (by omega)|>λh=>h
 refine⟨hq0,?_⟩;rw[hq];have:1*q<=(BZ (D7 x y):Int)*q:=Int.mul_le_mul_of_nonneg_right (by omega) (by omega);omega
theorem mY {k:Nat} (hk:k<4) (n d:Int):(K8 k n d).getD 4 0=d/\(K8 k n d).length=5:=by
 match k,hk with
 |0,_=>exact⟨rfl,rfl⟩
 |1,_=>exact⟨rfl,rfl⟩
 |2,_=>exact⟨rfl,rfl⟩
 |3,_=>exact⟨rfl,rfl⟩
theorem cI {k:Nat} (hk:k<4) {n d z:Int} (h:z∈K8 k n d):z=0\/z=n\/z=d:=by
 rcases List.mem_or_eq_of_mem_set h with h|h
 ·have h':z=0\/z=d:=by simpa using h
  rcases h' with h|h
  ·exact .inl h
  ·exact .inr (.inr h)
 ·exact .inr (.inl h)
theorem Sb.tup {K:aa} {dx:ag} {fs:List (Str×V)} (s:Sb r H H') (hr:H r=some (.ins C dx fs)) (h:SqT K H a xs):SqT K H' a xs:=by
 rcases h with(h|⟨o,h⟩)|h
 ·exact .inl (.inl (s _ _ h (B2 h hr (by intro z;cases z))))
 ·exact .inl (.inr ⟨o,s _ _ h (B2 h hr (by intro z;cases z))⟩)
 ·exact .inr h
def mZ (K:aa):Sp:=λvs H Q _=>Ex4 λ(k:Nat) (pa:ag) (n d:Int)=>vs=[.int (k:Nat),.ref pa]/\k<4/\SqT K H pa (([n,d]:List Int).map V.int)/\∀H' a,Same H H'->H' a=some (.tup ((K8 k n d).map V.int))->Q (.ref a) H'
section
variable {P:bb} {w:bw} {K:aa} {mg:Str->Option ah} {base:cq} {C CT:ag} {dz fz:Str}
theorem eG:FnScope ["factor","power","numbers"] ["factor","power"] (AH DP):={}
theorem m8 (F:Fun K "power_of_factor" "power_of_factor" DP f fd) (B:Blt mg):FnOk P w K mg base (CX1 P w) 1 f fd ["factor","power"] (mZ K):=by
 refine F.okx eG λAc A outer s H vs Q E hr h=>?_;obtain⟨k,pa,n,d,rfl,hk,hp,q⟩:=h;refine⟨_,AB (AX 2 eG (DM (AA AI (AA AI (AA AI (AA AI (AA (BO DO (pv 1) AI (λ_ _=>rfl)) AF)))))))
  (AB (fQ (BO DO (pv 1) AI (λ_ _=>rfl)) (fP (pv 2) (pv 0) YA))
  (AC (AL (JS HY (by rfl) B.tuple Q5 (AA (pv 2) AF))))),?_⟩
 and_intros
 refine⟨_,rfl,pa,_,_,_,rfl,rfl,hp,EL (l:=[n,d]) (i:=1) rfl (by show 1<2;decide),(by show 5<=sizeLine;decide),λl hl=>?_⟩;have s1:Same H (upd H l (.lst [.int 0,.int 0,.int 0,.int 0,.int d])):=Same.upd hl;refine⟨_,rfl,pa,_,_,_,rfl,rfl,s1.tup hp,EL (l:=[n,d]) (i:=0) rfl (by show 0<2;decide),_,rfl,_,rfl,l,_,(k:Int),k,rfl,rfl,upd_same,?_,?_⟩
 ·show ixN 5 (k:Int)=some k;unfold ixN;rw[Ae (by omega),Ae (by omega)];simp
 ·refine⟨_,rfl,l,_,rfl,.inl ⟨SqL.of upd_same,λa ha=>?_⟩⟩;have e:(([V.int 0,.int 0,.int 0,.int 0,.int d]:List V).set k (.int n))=(K8 k n d).map V.int:=by
   unfold K8;rw[List.map_set];rfl
  refine q _ a (λb o e=>?_) (by rw[upd_same];exact congrArg (λz=>some (HO.tup z)) e);have n1:b≠l:=AG e hl;have n2:b≠a:=by
   refine AG (o:=o) ?_ ha;rw[AE n1,AE n1];exact e
  rw[AE n2,AE n1,AE n1];exact e
theorem KQ:FnScope ["reader","before","product","start","factor","power"] ["reader"] (AH E2):={}
def Q9 (dz fz:Str) (l:List UInt8):Option (List Int×List UInt8):=mFc dz fz (l.length+1) 0 un5 l
theorem m9 (F:Fun K "read_factors" "read_factors" E2 f fd) (R:RdE P w K mg base C CT dz) (gu:GT K mg "UNISON" (un5.map V.int)) (gf:GS mg "FACTORS" fz) (of:OkS fz) (hz:dz.cps.toList.length<=10) (hf:fz.cps.toList.length=4)
 (D1:Def P w K mg base 6 "read_power" ["reader","start"] (Y6 K C CT (mPw dz))) (D2:Def P w K mg base 1 "power_of_factor" ["factor","power"] (mZ K)) (D3:Def P w K mg base 3 "upon" ["x","y"] (cB K)):
 FnOk P w K mg base (CX1 P w) 7 f fd ["reader"] (E5 K C CT (Q9 dz fz)):=by
 refine F.okx KQ λAc A outer s H vs Q E hr h=>?_;obtain⟨r,ta,cs,e,z8,rfl,Rr,k⟩:=h;refine⟨_,(AB (AX 1 KQ (GN EU AI))
  (AB (AX 2 KQ (OB gu))
  (AC (B4 bq (DH QF)
  (AB (AX 3 KQ (B1 R (pv 0)))
  (AB (AX 4 KQ (ER R hr AD (pv 0) (E4 gf) of))
  (AB (AX 5 KQ (D1.call hr AD (AA (pv 0) (AA (pv 3) AF))))
  (AB (AZ (AO LV (pv 4) (pv 1) (AQ _)) (AC (BE R.X1 hr AD rfl (pv 3))) AM)
  (AB (AX 1 KQ (pv 4))
  (AB (AX 2 KQ (D3.call hr AD (AA (D2.call hr AD (AA (pv 4) (AA (pv 5) AF))) (AA (pv 2) AF))))
  (AB (AZ (JD R hr AD (pv 0)) (AC (AL (pv 2))) AM)
  (AC (BI R hr AD (pv 0) AS (oks (by decide +kernel))))))))))))))),?_⟩
 and_intros
 refine⟨1,rfl,λpa hpa=>?_⟩;refine⟨λm σ H'=>Ex8 λ(z9:List UInt8) (least fuel:Nat) (pa:ag) (pr:List Int) (r3 r4 r5:Option V)=>σ=[some (.ref r),some (.int ((least:Int) - 1)),some (.ref pa),r3,r4,r5]/\Sb r H H'/\Rd K C H' r ta cs e z9/\
  SqT K H' pa (pr.map V.int)/\pr.length=5/\0<pr.getD 4 0/\pr.getD 4 0<=9999 ^ least/\least<=4/\Q9 dz fz z8=mFc dz fz fuel least pr z9/\z9.length<fuel/\m=z9.length,
  ⟨z8.length,z8,0,z8.length+1,pa,un5,none,none,none,rfl,Sb.refl,Rr,hpa _,rfl,by decide,by decide,by decide,rfl,by omega,rfl⟩,?_⟩
 rintro m σ H' ⟨z9,least,fuel,pa,pr,r3,r4,r5,rfl,sb,R',hpr,l5,p4,b4,hl4,em,hfu,rfl⟩;obtain⟨fuel,rfl⟩:∃f',fuel=f'+1:=⟨fuel - 1,by omega⟩
 rw[mFc] at em;refine⟨_,rfl,DS ?_⟩
 and_intros
 refine⟨_,rfl,r,ta,cs,e,z9,rfl,R',λz=>?_⟩;refine⟨_,rfl,r,ta,cs,e,z9,rfl,R',?_⟩;cases hp:pk fz z9 with
 |none=>
  simp only[hp] at em;rw[em] at k;exact AJ rfl k
 |some x=>
  obtain⟨kk,t⟩:=x;simp only[hp] at em;have hk:=EM hp;have hk4:kk<4:=by rw[←hf];exact hk.2
  refine AK rfl λH1 R1 s1=>?_;obtain⟨dx',p',i'⟩:=R'.ins;refine⟨V.ref r,rfl,V.int z,rfl,r,ta,cs,e,t,z,rfl,R1,?_⟩;cases hw:mPw dz t with
  |none=>
   simp only[hw] at em;rw[em] at k;exact k
  |some x=>
   obtain⟨x,u⟩:=x;simp only[hw] at em;obtain⟨hu,n,d,rfl,hn,hd1,hd2⟩:=gX hz hw;intro H2 pa2 R2 s2 hp2;have sb2:Sb r H H2:=(sb.trans s1).trans s2;have hpr2:SqT K H2 pa (pr.map V.int):=Sb.tup (s1.trans s2) i' hpr;refine⟨V.int (kk:Nat),rfl,_,rfl,_,_,rfl,rfl,_,rfl,CF (λh0=>?_) (λh0=>?_)⟩
   ·have e0:kk<least:=by
     have:(kk:Int)<=(least:Int) - 1:=by simpa using h0
     omega
    rw[Ae e0] at em;rw[em] at k;exact⟨_,rfl,_,rfl,k _⟩
   ·have e0:¬kk<least:=by
     have:¬(kk:Int)<=(least:Int) - 1:=by simpa using h0
     omega
    rw[Af e0] at em;refine⟨V.int (kk:Nat),rfl,V.int (kk:Nat),rfl,V.ref pa2,rfl,kk,pa2,n,(d:Int),rfl,hk4,hp2,λH3 af s3 haf=>?_⟩;have f4:=mY hk4 n (d:Int);have hpow:pr.getD 4 0<=9999 ^ 3:=by
     have:(9999:Int) ^ least<=9999 ^ 3:=yW.mpr (lv (by decide:0<9999) (by omega:least<=3))|>λh=>by simpa using h
     omega
    have bnd:((9999:Int)) ^ 3=999700029999:=by decide
    refine⟨V.ref pa,rfl,af,pa,K8 kk n d,pr,rfl,.inr (SqT.of haf),s3.tup hpr2,f4.2,l5,λz hz'=>?_,by rw[f4.1];omega,p4,by omega,λH4 ap s4 hap=>?_⟩
    ·rcases cI hk4 hz' with q|q|q
     ·rw[q];decide
     ·rw[q];omega
     ·rw[q];omega
    have R4:=(R2.same s3).same s4;have sb4:Sb r H H4:=(sb2.trans s3.sb).trans s4.sb;refine⟨_,rfl,r,ta,cs,e,u,rfl,R4,?_⟩;have up:=Y9 (x:=K8 kk n d) (y:=pr) (by rw[f4.1];omega) p4;have e1:([n,(d:Int)]:List Int).getD 0 0=n:=rfl;have e2:([n,(d:Int)]:List Int).getD 1 0=d:=rfl;simp only[e1,e2] at em;cases u with
    |nil=>
     simp only[List.isEmpty_nil,if_true] at em;rw[em] at k;exact BV ⟨V.ref ap,rfl,k H4 ap R4 sb4 (SqT.of hap)⟩
    |cons c u=>
     simp only[List.isEmpty_cons,fq,if_false] at em;refine BM ⟨_,rfl,r,ta,cs,e,c::u,rfl,R4,?_⟩;cases hs:sk (" ":Str).cps.toList (c::u) with
     |none=>
      rw[hs] at em;rw[em] at k;exact AJ rfl k
     |some x=>
      obtain⟨_,v⟩:=x;rw[hs] at em;have hv:=BK hs;have hv':v.length+1=(c::u).length:=hv;obtain⟨dx4,p4',i4⟩:=R4.ins;refine AK rfl λH5 R5 s5=>?_;refine⟨v.length,by simp at hv' hu;omega,v,kk+1,fuel,ap,_,some (V.int z),some (DF kk),some (V.ref pa2),?_,sb4.trans s5,R5,Sb.tup s5 i4 (SqT.of hap),MW _ _,up.1,?_,by omega,em,by simp at hv' hu;omega,rfl⟩
      ·have:((kk+1:Nat):Int) - 1=kk:=by omega
       rw[this];rfl
      ·refine Int.le_trans up.2 ?_;rw[f4.1];have h9:(d:Int)*pr.getD 4 0<=9999*9999 ^ least:=x5 (by omega) b4 (by omega) (by decide);have h8:(9999:Int)*9999 ^ least<=9999 ^ (kk+1):=by
        have:(9999:Nat)*9999 ^ least<=9999 ^ (kk+1):=by
         rw[←Nat.pow_succ'];exact lv (by decide) (by omega)
        have:=yW.mpr this;simpa using this
       omega
end
open PySem PySem.Spec PyProof.Rows L2
theorem D8 {K:aa} {res:Option (List Int×List UInt8)} (h:res=none) (k:∀z:Int,E (.ref CT) none (xH [("place",.int z)])):SY K CR CT r ta cs e H Q E res:=by
 rw[h];exact k
theorem D9 {K:aa} {res:Option (List Int×List UInt8)} {l:List Int} (h:res=some (l,t)) (k:∀H' a,Rd K CR H' r ta cs e t->Sb r H H'->SqT K H' a (l.map V.int)->Q (.ref a) H'):SY K CR CT r ta cs e H Q E res:=by
 rw[h];exact k
def mIv (dz fz:Str) (l:List UInt8):Option (List Int):=if see "1" l=true then(match mUn l with
 |none=>none
 |some (x,_)=>some x)
 else match Q9 dz fz l with
  |none=>none
  |some (x,_)=>if FY x=true then some x else none
theorem PP:∀{f least:Nat} {pr x:List Int} {l t:List UInt8},mFc dz fz f least pr l=some (x,t)->x.length=5
 |0,_,_,_,_,_,h=>by rw[mFc] at h;cases h
 |f+1,least,pr,x,l,t,h=>by
  rw[mFc] at h;cases hp:pk fz l with
  |none=>simp only[hp] at h;cases h
  |some y=>
   obtain⟨k,u⟩:=y;simp only[hp] at h;cases hw:mPw dz u with
   |none=>simp only[hw] at h;cases h
   |some y=>
    obtain⟨q,v⟩:=y;simp only[hw] at h;split at h
    ·cases h
    ·split at h
     ·cases h;exact MW _ _
     ·cases hs:sk (" ":Str).cps.toList v with
      |none=>rw[hs] at h;cases h
      |some y=>
       obtain⟨_,v'⟩:=y;rw[hs] at h;exact PP h
theorem cJ (h5:x.length=5) (h:FY x=true):Sm x:=by
 unfold FY at h;simp only[jn,decide_eq_true_eq] at h;obtain⟨h1,⟨h2,h3⟩,_⟩:=h;refine⟨h5,λk hk=>?_,h2,h3⟩;have hm:x.getD k 0∈x.take 4:=by
  have Ad:k<x.length:=by omega
  have:(x.take 4)[k]? =some (x.getD k 0):=by rw[qv];simp[hk,uq,am Ad]
  exact bo this
 have:=jd.mp h1 _ hm;simpa using this
theorem ZA:Sm un5:=⟨rfl,λk hk=>by match k,hk with|0,_=>decide|1,_=>decide|2,_=>decide|3,_=>decide,by decide,by decide⟩
theorem ZB {l:List UInt8} (h:mIv dz fz l=some x):Sm x:=by
 unfold mIv at h;split at h
 ·cases hu:mUn l with
  |none=>rw[hu] at h;cases h
  |some y=>
   obtain⟨y,t⟩:=y;rw[hu] at h;cases h;unfold mUn at hu;cases hs:sk ("1":Str).cps.toList l with
   |none=>rw[hs] at hu;cases hu
   |some z=>
    obtain⟨_,v⟩:=z;simp only[hs] at hu;split at hu
    ·cases hu;exact ZA
    ·cases hu
 ·cases hf:Q9 dz fz l with
  |none=>rw[hf] at h;cases h
  |some y=>
   obtain⟨y,t⟩:=y;simp only[hf] at h;split at h
   ·rename_i hi;cases h;exact cJ (PP hf) hi
   ·cases h
def gZ (K:aa) (CT:ag) (H:Hp) (Q:VK) (E:XK):Option (List Int)->Prop
 |some l=>∀H' a,Same H H'->SqT K H' a (l.map V.int)->Q (.ref a) H'
 |none=>∀z:Int,E (.ref CT) none (xH [("place",.int z)])
def eH (K:aa) (CT:ag) (dz fz:Str):Sp:=λvs H Q E=>Ex4 λ(ta:ag) (cs:List UInt8) (p e:Nat)=>vs=[.ref ta,.int (p:Nat),.int (e:Nat)]/\SqL K H ta (cs.map cV)/\p<=e/\e<=cs.length/\gZ K CT H Q E (mIv dz fz ((cs.take e).drop p))
theorem BU {H2:Hp} {x dx:ag} {fs:List (Str×V)} (nx:H x=none) (nd:H dx=none) (s1:Sb x (upd (upd H dx (.own x)) x (.ins C dx fs)) H1) (s2:Sb x H1 H2):Same H H2:=λb o e=>by
 have n1:=AG e nx;have n2:=AG e nd;exact s2 b o (s1 b o (by rw[AE n1,AE n2];exact e) n1) n1
section
variable {P:bb} {w:bw} {K:aa} {mg:Str->Option ah} {base:cq} {C CT:ag} {dz fz:Str}
theorem SZ:FnScope ["text","place","end","reader","interval"] ["text","place","end"] (AH EH):={}
theorem g8 (F:Fun K "read_interval" "read_interval" EH f fd) (R:RdE P w K mg base C CT dz) (D1:Def P w K mg base 5 "read_unison" ["reader"] (E5 K C CT mUn))
 (D2:Def P w K mg base 7 "read_factors" ["reader"] (E5 K C CT (Q9 dz fz))) (D3:Def P w K mg base 3 "is_interval" ["numbers"] (gP K)):FnOk P w K mg base (CX1 P w) 8 f fd ["text","place","end"] (eH K CT dz fz):=by
 refine F.okx SZ λAc A outer s H vs Q E hr h=>?_;obtain⟨ta,cs,p,e,rfl,htx,hpe,hel,k⟩:=h;refine⟨_,(AB (AX 3 SZ (R.mkr.call hr AD (AA (pv 0) (AA (pv 1) (AA (pv 2) AF)))))
  (AB (AZ (BH R hr AD (pv 3) AS (oks (by decide +kernel))) (AC (AL (GG D1 hr AD (pv 3)))) AM)
  (AB (AX 4 SZ (GG D2 hr AD (pv 3)))
  (AB (AZ (DU (DH (D3.call hr AD (AA (pv 4) AF)))) (AC (BE R.X1 hr AD rfl (pv 2))) AM)
  (AC (AL (pv 4))))))),?_⟩
 and_intros
 refine⟨_,rfl,_,rfl,_,rfl,λx dx nx nd hne=>⟨x,dx,ta,(p:Int),(e:Int),rfl,upd_same,λH1 h1 s1=>⟨rfl,?_⟩⟩⟩;have R1:Rd K C H1 x ta cs e ((cs.take e).drop p):=by
  refine⟨⟨dx,p,h1,rfl,hpe⟩,?_,hel⟩;have sm:Same H H1:=BU nx nd s1 Sb.refl;exact sm.seq htx
 have fin:∀{H2:Hp},Sb x H1 H2->Same H H2:=λs2=>BU nx nd s1 s2;unfold mIv at k;refine⟨V.ref x,rfl,x,ta,cs,e,_,rfl,R1,λH2 s2=>?_⟩;have R2:=R1.same s2;cases hs:see "1" ((cs.take e).drop p) with
 |true=>
  rw[Ae hs] at k;refine BV ⟨V.ref x,rfl,x,ta,cs,e,_,rfl,R2,?_⟩;cases hu:mUn ((cs.take e).drop p) with
  |none=>rw[hu] at k;exact D8 rfl k
  |some y=>
   obtain⟨y,t⟩:=y;rw[hu] at k;exact D9 rfl λH3 a R3 s3 q=>k H3 a (fin (s2.sb.trans s3)) q
 |false=>
  rw[Af (by rw[hs];decide)] at k;refine BM ⟨V.ref x,rfl,x,ta,cs,e,_,rfl,R2,?_⟩;cases hf:Q9 dz fz ((cs.take e).drop p) with
  |none=>rw[hf] at k;exact D8 rfl k
  |some y=>
   obtain⟨y,t⟩:=y;simp only[hf] at k;refine D9 rfl λH3 a R3 s3 q=>?_;refine⟨V.ref a,rfl,a,y,rfl,q,PP hf,λH4 s4=>⟨_,rfl,?_⟩⟩;cases hi:FY y with
   |true=>
    rw[Ae hi] at k;exact BM ⟨V.ref a,rfl,k H4 a (fin ((s2.sb.trans s3).trans s4.sb)) (s4.tup q)⟩
   |false=>
    rw[Af (by rw[hi];decide)] at k;exact BV ⟨V.int (e:Nat),rfl,_,rfl,k _⟩
def lf (c:UInt8):Bool:=c != 10
def CW (dz fz:Str) (l:List UInt8):Option (List Int×List UInt8):=match mIv dz fz (l.takeWhile lf) with
 |none=>none
 |some x=>some (x,l.drop (l.takeWhile lf).length)
theorem sc_rr:FnScope ["reader","end","interval"] ["reader"] (AH G0):={}
theorem NO {l:List UInt8} (h:i<=(l.takeWhile lf).length):(∀c,l[i]? =some c->(lf c=true↔i<(l.takeWhile lf).length))/\(l[i]? =none->i=(l.takeWhile lf).length):=by
 induction l generalizing i with
 |nil=>simp at h;subst h;simp
 |cons c t ih=>
  by_cases hc:lf c=true
  ·rw[List.takeWhile_cons_of_pos hc] at h ⊢;cases i with
   |zero=>simp[hc]
   |succ i=>
    simp at h;have:=ih h;refine⟨λc' e=>?_,λe=>?_⟩
    ·rw[uv] at e;rw[this.1 c' e];simp
    ·rw[uv] at e;simp[this.2 e]
  ·rw[List.takeWhile_cons_of_neg hc] at h ⊢;simp at h;subst h;simp[hc]
theorem U0 {z8:List UInt8} (h2:z8=(cs.take e).drop p) (hl:p+(z8.takeWhile lf).length<=e) (he:e<=cs.length):(cs.take (p+(z8.takeWhile lf).length)).drop p=z8.takeWhile lf:=by
 have h1:z8.takeWhile lf=z8.take (z8.takeWhile lf).length:=(List.prefix_iff_eq_take.mp (List.takeWhile_prefix lf))
 generalize hn:(z8.takeWhile lf).length=n at*;rw[h1,h2,x8,x8,x9];congr 1;omega
theorem OC {K:aa} {res:Option (List Int)} (h:res=none) (k:∀z:Int,E (.ref CT) none (xH [("place",.int z)])):gZ K CT H Q E res:=by
 rw[h];exact k
theorem OE {K:aa} {res:Option (List Int)} {l:List Int} (h:res=some l) (k:∀H' a,Same H H'->SqT K H' a (l.map V.int)->Q (.ref a) H'):gZ K CT H Q E res:=by
 rw[h];exact k
theorem nA (F:Fun K "read_rest" "read_rest" G0 f fd) (R:RdE P w K mg base C CT dz) (gl:GI mg "LINE_FEED" 10) (D1:Def P w K mg base 8 "read_interval" ["text","place","end"] (eH K CT dz fz)):
 FnOk P w K mg base (CX1 P w) 9 f fd ["reader"] (E5 K C CT (CW dz fz)):=by
 refine F.okx sc_rr λAc A outer s H vs Q E hr h=>?_;obtain⟨r,ta,cs,e,z8,rfl,Rr,k⟩:=h;refine⟨_,(AB (AX 1 sc_rr (AV (pv 0) rfl))
  (AB (B4 bq (GM (AO HW (pv 1) (AV (pv 0) rfl) (AQ _)) (E8 (AO dS (BO DN (AV (pv 0) rfl) (pv 1) (λ_ _=>rfl)) (B6 gl) (AQ _)))).pt (AC (JO (i:=1) sc_rr.nd rfl (uK rfl) AI JP)))
  (AB (AX 2 sc_rr (D1.call hr AD (AA (AV (pv 0) rfl) (AA (AV (pv 0) rfl) (AA (pv 1) AF)))))
  (AB (CO (pv 0) (pv 1) rfl)
  (AC (AL (pv 2))))))),?_⟩
 and_intros
 obtain⟨dx,p,h1,h2,h3⟩:=Rr.at_;refine⟨V.ref r,rfl,r,C,dx,_,_,rfl,h1,R.T.cl,R.T.np,MU _ _ _,?_⟩;have hlen:z8.length=e - p:=by rw[h2,im,dy];have:=Rr.le;omega
 have htw:(z8.takeWhile lf).length<=z8.length:=(List.takeWhile_sublist lf).length_le;have hget:∀i:Nat,i<z8.length->∃c,z8[i]? =some c/\cs[p+i]? =some c:=λi hi=>by
  refine⟨z8[i],am hi,?_⟩;have q:z8[i]? =some z8[i]:=am hi;have q2:z8[i]? =((cs.take e).drop p)[i]?:=congrArg (λl=>l[i]?) h2;rw[tG,qv,Ae (by omega)] at q2;rw[←q2,q]
 refine⟨λm σ H'=>H'=H/\∃i:Nat,i<=(z8.takeWhile lf).length/\σ=[some (.ref r),some (.int ((p+i:Nat):Int)),none]/\m=z8.length - i,⟨z8.length,rfl,0,dm _,rfl,rfl⟩,?_⟩;rintro m σ H' ⟨rfl,i,hi,rfl,rfl⟩;have tw:=NO hi;refine⟨_,rfl,V.ref r,rfl,r,C,dx,_,_,rfl,h1,R.T.cl,R.T.ne,l7 _ _ _,_,_,rfl,rfl,_,rfl,CF (λAd=>?_) (λAd=>?_)⟩
 ·have hlt':p+i<e:=by
   have:((p+i:Nat):Int)<(e:Int):=by simpa using Ad
   omega
  obtain⟨c,hc1,hc2⟩:=hget i (by omega);refine⟨V.ref r,rfl,r,C,dx,_,_,rfl,h1,R.T.cl,R.T.nt,cG _ _ _,_,rfl,ta,_,_,_,rfl,rfl,Rr.tx,EO (v:=cV c) (by rw[az,hc2];rfl),rfl,_,rfl,?_⟩;have e10:decide (cV c=V.int 10)=!(lf c):=by
   unfold lf cV;rw[bne,yX];have:(V.int ((c.toNat:Nat):Int)=V.int 10)↔c=10:=by
    constructor
    ·intro q;injection q with q;apply xr.mp;show c.toNat=10;omega
    ·intro q;rw[q];rfl
   rw[decide_eq_decide.mpr this];rfl
  rw[e10,yX];cases hl:lf c with
  |true=>
   refine DS ⟨_,rfl,_,_,rfl,rfl,z8.length - (i+1),by omega,rfl,i+1,(tw.1 c hc1).mp hl,?_,rfl⟩;show[some (V.ref r),some (V.int (((p+i:Nat):Int)+1)),none]=_;have:((p+i:Nat):Int)+1=((p+(i+1):Nat):Int):=by omega
   rw[this]
  |false=>
   have hi':i=(z8.takeWhile lf).length:=by
    have:¬i<(z8.takeWhile lf).length:=λq=>by have:=(tw.1 c hc1).mpr q;rw[hl] at this;cases this
    omega
   subst hi';refine BM ⟨V.ref r,rfl,r,C,dx,_,_,rfl,h1,R.T.cl,R.T.nt,cG _ _ _,V.ref r,rfl,r,C,dx,_,_,rfl,h1,R.T.cl,R.T.np,MU _ _ _,_,rfl,ta,cs,p,p+(z8.takeWhile lf).length,rfl,Rr.tx,by omega,by have:=Rr.le;omega,?_⟩;have er:(cs.take (p+(z8.takeWhile lf).length)).drop p=z8.takeWhile lf:=U0 h2 (by omega) Rr.le;unfold CW at k;cases hm:mIv dz fz (z8.takeWhile lf) with
   |none=>rw[hm] at k;exact OC (by rw[er];exact hm) k
   |some x=>
    simp only[hm] at k;refine OE (by rw[er];exact hm) λH2 a s2 q=>?_;have h12:=s2 _ _ h1;refine⟨_,rfl,V.ref r,rfl,r,C,dx,_,rfl,h12,R.T.cl,R.T.np,(by show 3<1000;decide),V.ref a,rfl,?_⟩;have sb:Sb r H2 (upd H2 r (.ins C dx (FH "place" (.int ((p+(z8.takeWhile lf).length:Nat):Int)) (rf ta p e)))):=λb o eb hb=>by rw[AE hb];exact eb
    refine k _ a ⟨⟨dx,p+(z8.takeWhile lf).length,si upd_same rfl,?_,by omega⟩,Sb.lst sb h12 (s2.seq Rr.tx),Rr.le⟩ (s2.sb.trans sb) (Sb.tup sb h12 q);rw[h2,vt, ←h2]
 ·have hge:¬p+i<e:=by
   have:¬((p+i:Nat):Int)<(e:Int):=by simpa using Ad
   omega
  have hi':i=(z8.takeWhile lf).length:=by omega
  subst hi';refine BM ⟨V.ref r,rfl,r,C,dx,_,_,rfl,h1,R.T.cl,R.T.nt,cG _ _ _,V.ref r,rfl,r,C,dx,_,_,rfl,h1,R.T.cl,R.T.np,MU _ _ _,_,rfl,ta,cs,p,p+(z8.takeWhile lf).length,rfl,Rr.tx,by omega,by have:=Rr.le;omega,?_⟩;have er:(cs.take (p+(z8.takeWhile lf).length)).drop p=z8.takeWhile lf:=U0 h2 (by omega) Rr.le;unfold CW at k;cases hm:mIv dz fz (z8.takeWhile lf) with
  |none=>rw[hm] at k;exact OC (by rw[er];exact hm) k
  |some x=>
   simp only[hm] at k;refine OE (by rw[er];exact hm) λH2 a s2 q=>?_;have h12:=s2 _ _ h1;refine⟨_,rfl,V.ref r,rfl,r,C,dx,_,rfl,h12,R.T.cl,R.T.np,(by show 3<1000;decide),V.ref a,rfl,?_⟩;have sb:Sb r H2 (upd H2 r (.ins C dx (FH "place" (.int ((p+(z8.takeWhile lf).length:Nat):Int)) (rf ta p e)))):=λb o eb hb=>by rw[AE hb];exact eb
   refine k _ a ⟨⟨dx,p+(z8.takeWhile lf).length,si upd_same rfl,?_,by omega⟩,Sb.lst sb h12 (s2.seq Rr.tx),Rr.le⟩ (s2.sb.trans sb) (Sb.tup sb h12 q);rw[h2,vt, ←h2]
end
open PySem PySem.Spec PyProof.Rows L2
def SbL (S:List ag) (H H':Hp):Prop:=∀b o,H b=some o->b∉S->H' b=some o
theorem SbL.trans {S:List ag} {H2:Hp} (a:SbL S H H1) (b:SbL S H1 H2):SbL S H H2:=λc o e n=>b c o (a c o e n) n
theorem Sb.l {S:List ag} (s:Sb r H H') (h:r∈S):SbL S H H':=λb o e n=>s b o e λz=>n (z▸h)
theorem Same.l {S:List ag} (s:Same H H'):SbL S H H':=λb o e _=>s b o e
theorem SbL.refl {S:List ag}:SbL S H H:=λ_ _ e _=>e
def LT (K:aa) (H:Hp) (a:ag) (ls:List (List Int)):Prop:=∃as:List ag,H a=some (.lst (as.map V.ref))/\cf (λb l=>SqT K H b (l.map V.int)) as ls
theorem AU {F G:α->β->Prop}:∀{l:List α} {m:List β},cf F l m->(∀a b,F a b->G a b)->cf G l m
 |_,_,.nil,_=>.nil
 |_,_,.cons r t,f=>.cons (f _ _ r) (AU t f)
theorem FE {F:α->β->Prop} {x:α} {y:β} (h:F x y):∀{l:List α} {m:List β},cf F l m->cf F (l++[x]) (m++[y])
 |_,_,.nil=>.cons h .nil
 |_,_,.cons r t=>.cons r (FE h t)
theorem BL {F:α->β->Prop}:∀{l:List α} {m:List β} {i:Nat} {a:α},cf F l m->l[i]? =some a->∃b,m[i]? =some b/\F a b
 |_,_,_,_,.nil,e=>by simp at e
 |_,_,0,_,.cons r _,e=>by simp at e;subst e;exact⟨_,rfl,r⟩
 |_,_,i+1,_,.cons _ t,e=>by
  obtain⟨b,h1,h2⟩:=BL (i:=i) t (by simpa using e);exact⟨b,by simpa using h1,h2⟩
def ifs (af ac ab:ag):List (Str×V):=[("frets",.ref af),("courses",.ref ac),("basses",.ref ab)]
structure InA (K:aa) (CI:ag) (H:Hp) (ia af ac ab:ag) (fr co ba:List (List Int)):Prop where
 at_:∃dx,H ia=some (.ins CI dx (ifs af ac ab))
 fr_:LT K H af fr
 co_:LT K H ac co
 ba_:LT K H ab ba
 n1:af≠ac
 n2:af≠ab
 n3:ac≠ab
 sf:∀l∈fr,Sm l
 sc:∀l∈co,Sm l
 sb:∀l∈ba,Sm l
 lf:fr.length<=15
 lc:co.length+ba.length<=14
def Kp (H H':Hp):Prop:=(∀b xs,H b=some (.lst xs)->H' b=some (.lst xs))/\(∀b xs,H b=some (.tup xs)->H' b=some (.tup xs))/\(∀b o u,H b=some (.frz o u)->H' b=some (.frz o u))/\
 ∀b C dx af ac ab,H b=some (.ins C dx (ifs af ac ab))->H' b=some (.ins C dx (ifs af ac ab))
theorem g9 {af ac ab:ag} {p e:Int}:ifs af ac ab≠rf ta p e:=by
 intro q;unfold ifs rf at q;have:=(Prod.mk.inj (vS q).1).1;exact absurd this (by decide +kernel)
theorem Sb.kp {dx:ag} {p e:Int} (s:Sb r H H') (h:H r=some (.ins C dx (rf ta p e))):Kp H H':=
 ⟨λb xs q=>s _ _ q (B2 q h (by intro z;cases z)),λb xs q=>s _ _ q (B2 q h (by intro z;cases z)),λb o u q=>s _ _ q (B2 q h (by intro z;cases z)),
  λb C' dx' af ac ab q=>s _ _ q (B2 q h (by intro z;injection z with _ _ z;exact g9 z))⟩
theorem Same.kp (s:Same H H'):Kp H H':=⟨λb xs q=>s _ _ q,λb xs q=>s _ _ q,λb o u q=>s _ _ q,λb C dx af ac ab q=>s _ _ q⟩
theorem Kp.trans {H2:Hp} (a:Kp H H1) (b:Kp H1 H2):Kp H H2:=⟨λc xs q=>b.1 _ _ (a.1 _ _ q),λc xs q=>b.2.1 _ _ (a.2.1 _ _ q),λc o u q=>b.2.2.1 _ _ _ (a.2.2.1 _ _ _ q),λc C dx af ac ab q=>b.2.2.2 _ _ _ _ _ _ (a.2.2.2 _ _ _ _ _ _ q)⟩
theorem Kp.tup {K:aa} (k:Kp H H') (h:SqT K H a xs):SqT K H' a xs:=by
 rcases h with(h|⟨o,h⟩)|h
 ·exact .inl (.inl (k.2.1 _ _ h))
 ·exact .inl (.inr ⟨o,k.2.2.1 _ _ _ h⟩)
 ·exact .inr h
theorem Kp.lt {K:aa} (k:Kp H H') (h:LT K H a ls):LT K H' a ls:=let ⟨as,h1,h2⟩:=h;⟨as,k.1 _ _ h1,AU h2 λ_ _ q=>k.tup q⟩
theorem InA.kp {K:aa} {ia af ac ab:ag} {fr co ba:List (List Int)} (I:InA K CI H ia af ac ab fr co ba) (k:Kp H H'):InA K CI H' ia af ac ab fr co ba:=
 ⟨let ⟨dx,q⟩:=I.at_;⟨dx,k.2.2.2 _ _ _ _ _ _ q⟩,k.lt I.fr_,k.lt I.co_,k.lt I.ba_,I.n1,I.n2,I.n3,I.sf,I.sc,I.sb,I.lf,I.lc⟩
def KTx (K:aa) (a:ag) (xs:List V):Prop:=Ex3 λ(o:Obj) (Aa:Array ah) (n:Nat)=>K.lookup a=some o/\o.cls= .type "list"/\o.dict=none/\o.data= .seq Aa n/\Aa.size<=sizeLine/\Vals xs Aa.toList
theorem Rd.kp {K:aa} {z8:List UInt8} {a:Nat} {ys:List V} (R:Rd K C H r ta cs e z8) (h:H a=some (.lst xs)) (ht:¬a=ta\/KTx K ta (cs.map cV)) (s:∀b o,H b=some o->b≠a->H' b=some o):Rd K C H' r ta cs e z8:=by
 obtain⟨⟨dx,p,q,w⟩,t,l⟩:=R;refine⟨⟨dx,p,s _ _ q (B2 q h (by intro z;cases z)),w⟩,?_,l⟩;rcases ht with ht|ht
 ·rcases t with(t|⟨o,t⟩)|t
  ·exact .inl (.inl (s _ _ t (cr ht)))
  ·exact .inl (.inr ⟨o,s _ _ t (cr ht)⟩)
  ·exact .inr t
 ·exact .inr ht
abbrev St3:=List (List Int)×List (List Int)×List (List Int)
def hG (K:aa) (CR CI CT r ta:ag) (cs:List UInt8) (e:Nat) (ia af ac ab:ag) (H:Hp) (Q:VK) (E:XK):Option (St3×List UInt8)->Prop
 |some ((fr,co,ba),z9)=>∀H',Rd K CR H' r ta cs e z9->InA K CI H' ia af ac ab fr co ba->SbL [r,af,ac,ab] H H'->Q .non H'
 |none=>∀z:Int,E (.ref CT) none (xH [("place",.int z)])
theorem HH {K:aa} {ia af ac ab:ag} {res:Option (St3×List UInt8)} (h:res=none) (k:∀z:Int,E (.ref CT) none (xH [("place",.int z)])):hG K CR CI CT r ta cs e ia af ac ab H Q E res:=by
 rw[h];exact k
theorem HI {K:aa} {ia af ac ab:ag} {res:Option (St3×List UInt8)} {fr co ba:List (List Int)} (h:res=some ((fr,co,ba),t))
 (k:∀H',Rd K CR H' r ta cs e t->InA K CI H' ia af ac ab fr co ba->SbL [r,af,ac,ab] H H'->Q .non H'):hG K CR CI CT r ta cs e ia af ac ab H Q E res:=by
 rw[h];exact k
def K9 (K:aa) (C CI CT:ag) (m:St3->List UInt8->Option (St3×List UInt8)):Sp:=λvs H Q E=>Ex12 λ(r ta:ag) (cs:List UInt8) (e:Nat) (z8:List UInt8) (ia af ac ab:ag) (fr co ba:List (List Int))=>
 vs=[.ref r,.ref ia]/\Rd K C H r ta cs e z8/\InA K CI H ia af ac ab fr co ba/\((ta≠af/\ta≠ac/\ta≠ab)\/KTx K ta (cs.map cV))/\hG K C CI CT r ta cs e ia af ac ab H Q E (m (fr,co,ba) z8)
def mSW (z:Str) (m:Bool) (l:List UInt8):Option (Unit×List UInt8):=match sk z.cps.toList l with
 |none=>none
 |some (_,t)=>if m=true then sk (" ":Str).cps.toList t else none
def nB (K:aa) (C CT:ag):Sp:=λvs H Q E=>Ex7 λ(r ta:ag) (cs:List UInt8) (e:Nat) (z8:List UInt8) (z:Str) (m:Bool)=>vs=[.ref r,.str z,.bl m]/\Rd K C H r ta cs e z8/\OkS z/\Got K C CT r ta cs e H Q E WR (mSW z m z8)
def MX (dz fz:Str):St3->List UInt8->Option (St3×List UInt8)
 |(fr,co,ba),l=>match mSW "fret" (decide (fr.length<15)) l with
  |none=>none
  |some (_,t)=>match CW dz fz t with
   |none=>none
   |some (x,u)=>if BF (fr.getLastD un5) x=true then some ((fr++[x],co,ba),u) else none
def FF (dz fz:Str):St3->List UInt8->Option (St3×List UInt8)
 |(fr,co,ba),l=>match mSW "course" (decide (co.length+ba.length<14)) l with
  |none=>none
  |some (_,t)=>match CW dz fz t with
   |none=>none
   |some (x,u)=>if(fr.all λf=>FY (BW f x))=true then some ((fr,co++[x],ba),u) else none
def JE (dz fz:Str):St3->List UInt8->Option (St3×List UInt8)
 |(fr,co,ba),l=>match mSW "bass" (decide (co.length+ba.length<14)) l with
  |none=>none
  |some (_,t)=>match CW dz fz t with
   |none=>none
   |some (x,u)=>some ((fr,co,ba++[x]),u)
theorem MY {l:List UInt8} (h:CW dz fz l=some (x,t)):Sm x:=by
 unfold CW at h;cases hm:mIv dz fz (l.takeWhile lf) with
 |none=>rw[hm] at h;cases h
 |some y=>rw[hm] at h;cases h;exact ZB hm
structure InC (K:aa) (CI:ag):Prop where
 cl:Cls K CI
 nf:NoAttr K CI "frets"
 nc:NoAttr K CI "courses"
 nb:NoAttr K CI "basses"
def ZC (CI:ag):Sp:=λvs H Q _=>Ex2 λ(ia dx:ag)=>vs=[.ref ia]/\H ia=some (.ins CI dx [])/\∀H' af ac ab,H' ia=some (.ins CI dx (ifs af ac ab))->H' af=some (.lst [])->H' ac=some (.lst [])->H' ab=some (.lst [])->H af=none->H ac=none->H ab=none->af≠ac->af≠ab->ac≠ab->Sb ia H H'->Q .non H'
def hJ (K:aa) (CI:ag):Sp:=λvs H Q _=>Ex7 λ(ia af ac ab:ag) (fr co ba:List (List Int))=>vs=[.ref ia]/\InA K CI H ia af ac ab fr co ba/\Q (.int ((co.length+ba.length:Nat):Int)) H
theorem MZ (af ac ab:ag):(ifs af ac ab).lookup ("frets":Str)=some (.ref af):=rfl
theorem IC (af ac ab:ag):(ifs af ac ab).lookup ("courses":Str)=some (.ref ac):=rfl
theorem VA (af ac ab:ag):(ifs af ac ab).lookup ("basses":Str)=some (.ref ab):=rfl
theorem S0 (af ac ab:ag) {m:Str} (h1:(m=="frets")=false) (h2:(m=="courses")=false) (h3:(m=="basses")=false):(ifs af ac ab).lookup m=none:=by
 unfold ifs;simp only[jc,h1,h2,h3]
theorem LT.len {K:aa} (h:LT K H a ls):∃ys,SqL K H a ys/\ys.length=ls.length:=let ⟨as,h1,h2⟩:=h;⟨_,SqL.of h1,by rw[ai];exact cj h2⟩
section
variable {P:bb} {w:bw} {K:aa} {mg:Str->Option ah} {base:cq} {C CI CT:ag} {dz fz:Str}
theorem eI:FnScope ["reader","word","more_may_come","start"] ["reader","word","more_may_come"] (AH GZ):={}
theorem nE (F:Fun K "skip_word" "skip_word" GZ f fd) (R:RdE P w K mg base C CT dz):FnOk P w K mg base (CX1 P w) 5 f fd ["reader","word","more_may_come"] (nB K C CT):=by
 refine F.okx eI λAc A outer s H vs Q E hr h=>?_;obtain⟨r,ta,cs,e,z8,z,m,rfl,Rr,oz,k⟩:=h;refine⟨_,(AB (AX 3 eI (B1 R (pv 0)))
  (AB (AY (R.sk.call (pv 0) hr AD (AA (pv 1) AF)))
  (AB (AZ (DU (DH (pv 2))) (AC (BE R.X1 hr AD rfl (pv 3))) AM)
  (AC (BI R hr AD (pv 0) AS (oks (by decide +kernel))))))),?_⟩
 and_intros
 refine⟨_,rfl,r,ta,cs,e,z8,rfl,Rr,λst=>?_⟩;obtain⟨dx,p,i1⟩:=Rr.ins;refine⟨V.ref r,rfl,r,dx,_,rfl,i1,PM _ _ _,V.str z,rfl,r,ta,cs,e,z8,z,rfl,Rr,oz,?_⟩;unfold mSW at k;cases hs:sk z.cps.toList z8 with
 |none=>rw[hs] at k;exact AJ rfl k
 |some x=>
  obtain⟨_,t⟩:=x;simp only[hs] at k;refine AK rfl λH1 R1 s1=>?_;refine⟨V.bl m,rfl,m,rfl,?_⟩;cases m with
  |false=>exact BV ⟨V.int st,rfl,st,rfl,k st⟩
  |true=>
   simp only[if_true] at k;refine BM ⟨V.ref r,rfl,r,ta,cs,e,t,rfl,R1,?_⟩;cases hs2:sk (" ":Str).cps.toList t with
   |none=>rw[hs2] at k;exact AJ rfl k
   |some x=>
    obtain⟨⟨⟩,u⟩:=x;rw[hs2] at k;exact AK rfl λH2 R2 s2=>k H2 R2 (s1.trans s2)
theorem hU:FnScope ["self"] ["self"] (AH DQ):={}
theorem hW (F:Fun K "__init__" "Instrument.__init__" DQ f fd) (T:InC K CI):FnOk P w K mg base (CX1 P w) 1 f fd ["self"] (ZC CI):=by
 refine F.okx hU λAc A outer s H vs Q E hr h=>?_;obtain⟨ia,dx,rfl,h1,k⟩:=h;refine⟨_,(AB (CO (pv 0) (DM AF) rfl)
  (AB (CO (pv 0) (DM AF) rfl)
  (AC (CO (pv 0) (DM AF) rfl)))),?_⟩
 and_intros
 refine⟨dm _,λaf naf=>?_⟩;have m1:ia≠af:=AG h1 naf;refine⟨V.ref ia,rfl,ia,CI,dx,_,rfl,(by rw[AE m1];exact h1),T.cl,T.nf,(by decide),dm _,λac nac=>?_⟩;have m2:ia≠ac:=AG upd_same nac;have m3:af≠ac:=by
  refine AG (o:=.lst []) ?_ nac;rw[AE (cr m1),upd_same]
 refine⟨V.ref ia,rfl,ia,CI,dx,_,rfl,(by rw[AE m2,upd_same]),T.cl,T.nc,(by show 1<1000;decide),dm _,λab nab=>?_⟩;have m4:ia≠ab:=AG upd_same nab;have m5:ac≠ab:=by
  refine AG (o:=.lst []) ?_ nab;rw[AE (cr m2),upd_same]
 have m6:af≠ab:=by
  refine AG (o:=.lst []) ?_ nab;rw[AE (cr m1),AE m3,AE (cr m1),upd_same]
 refine⟨V.ref ia,rfl,ia,CI,dx,_,rfl,(by rw[AE m4,upd_same]),T.cl,T.nb,(by show 2<1000;decide),?_⟩;have fac:H ac=none:=by rw[←nac,AE (cr m2),AE (cr m3)]
 have fab:H ab=none:=by rw[←nab,AE (cr m4),AE (cr m5),AE (cr m4),AE (cr m6)]
 refine k _ af ac ab (si upd_same rfl) ?_ ?_ ?_ naf fac fab m3 m6 m5 λb o e hb=>?_
 ·rw[AE (cr m1),AE m6,AE (cr m1),AE m3,AE (cr m1),upd_same]
 ·rw[AE (cr m2),AE m5,AE (cr m2),upd_same]
 ·rw[AE (cr m4),upd_same]
 ·rw[AE hb,AE (AG e fab),AE hb,AE (AG e fac),AE hb,AE (AG e naf)];exact e
theorem iA:FnScope ["self"] ["self"] (AH BX):={}
theorem iB (F:Fun K "string_count" "Instrument.string_count" BX f fd) (B:Blt mg) (T:InC K CI):FnOk P w K mg base (CX1 P w) 1 f fd ["self"] (hJ K CI):=by
 refine F.okx iA λAc A outer s H vs Q E hr h=>?_;obtain⟨ia,af,ac,ab,fr,co,ba,rfl,I,k⟩:=h;obtain⟨dx,h1⟩:=I.at_;obtain⟨y1,q1,l1⟩:=I.co_.len;obtain⟨y2,q2,l2⟩:=I.ba_.len;refine⟨_,(AC (AL (BD DK (AW AN (by rfl) B.len cy (AA (AV (pv 0) rfl) AF)) (AW AN (by rfl) B.len cy (AA (AV (pv 0) rfl) AF))))),?_⟩
 subst_eqs
 refine⟨V.ref ia,rfl,ia,CI,dx,_,_,rfl,h1,T.cl,T.nc,IC _ _ _,ac,y1,rfl,.inl q1,V.ref ia,rfl,ia,CI,dx,_,_,rfl,h1,T.cl,T.nb,VA _ _ _,ab,y2,rfl,.inl q2,_,_,rfl,rfl,?_⟩;rw[l1,l2];have e:((co.length:Int)+(ba.length:Int))=((co.length+ba.length:Nat):Int):=by omega
 show Q (V.int ((co.length:Int)+(ba.length:Int))) H;rw[e];exact k
end
open PySem PySem.Spec PyProof.Rows L2
structure InE (P:bb) (w:bw) (K:aa) (mg:Str->Option ah) (base:cq) (C CI CT:ag) (dz fz:Str):Prop where
 R:RdE P w K mg base C CT dz
 B:Blt mg
 T:InC K CI
 gu:GT K mg "UNISON" (un5.map V.int)
 sc:Mth P w K mg base 1 CI "string_count" ["self"] (hJ K CI)
 sw:Def P w K mg base 5 "skip_word" ["reader","word","more_may_come"] (nB K C CT)
 rr:Def P w K mg base 9 "read_rest" ["reader"] (E5 K C CT (CW dz fz))
 nr:Def P w K mg base 2 "narrower" ["x","y"] (cE K)
 ii:Def P w K mg base 3 "is_interval" ["numbers"] (gP K)
 up:Def P w K mg base 3 "upon" ["x","y"] (cB K)
theorem NQ (r af ac ab:ag):r∈[r,af,ac,ab]/\af∈[r,af,ac,ab]/\ac∈[r,af,ac,ab]/\ab∈[r,af,ac,ab]:=by simp
theorem LT.add {K:aa} {x:ag} {l:List Int} {as:List ag} (h:H a=some (.lst (as.map V.ref))) (p:cf (λb l=>SqT K H b (l.map V.int)) as ls) (hx:SqT K H x (l.map V.int)):
 LT K (upd H a (.lst (as.map V.ref++[.ref x]))) a (ls++[l]):=by
 have kt:∀{b:ag} {ys:List V},SqT K H b ys->SqT K (upd H a (.lst (as.map V.ref++[.ref x]))) b ys:=λ{b ys} q=>by
  rcases q with(q|⟨o,q⟩)|q
  ·exact .inl (.inl (by rw[AE (B2 q h (by intro z;cases z))];exact q))
  ·exact .inl (.inr ⟨o,by rw[AE (B2 q h (by intro z;cases z))];exact q⟩)
  ·exact .inr q
 refine⟨as++[x],by rw[upd_same,ff];rfl,FE (F:=λb l=>SqT K (L2.upd H a (.lst (as.map V.ref++[.ref x]))) b (l.map V.int)) (kt hx) (AU p λ_ _ q=>kt q)⟩
theorem LT.upd {K:aa} {b:ag} {ys:List V} (h:LT K H b ls) (ha:H a=some (.lst xs)) (hn:b≠a):LT K (upd H a (.lst ys)) b ls:=by
 obtain⟨as,h1,h2⟩:=h;refine⟨as,by rw[AE hn];exact h1,AU h2 λc l q=>?_⟩;rcases q with(q|⟨o,q⟩)|q
 ·exact .inl (.inl (by rw[AE (B2 q ha (by intro z;cases z))];exact q))
 ·exact .inl (.inr ⟨o,by rw[AE (B2 q ha (by intro z;cases z))];exact q⟩)
 ·exact .inr q
theorem L8 {as:List ag} (h:as.getLast? =some a):atI (as.map V.ref) (-1)=some (.ref a):=by
 have hne:as≠[]:=by rintro rfl;simp at h
 have hl:0<as.length:=List.length_pos_iff.mpr hne;unfold atI ixN;rw[ai,Af (by decide),Ae (by omega)];show(as.map V.ref)[((-1:Int)+(as.length:Int)).toNat]? =_;have e:((-1:Int)+(as.length:Int)).toNat=as.length - 1:=by omega
 rw[e,az, ←qa,h];rfl
theorem KR {F:α->β->Prop} {l:List α} {m:List β} (p:cf F l m) {y:β} (h:0<m.length):Ex2 λa b=>l.getLast? =some a/\m.getLastD y=b/\F a b/\b∈m:=by
 have hl:l.length=m.length:=cj p;have Ad:l.length - 1<l.length:=by omega
 obtain⟨b,h1,h2⟩:=BL (i:=l.length - 1) (a:=l[l.length - 1]) p (am Ad);refine⟨l[l.length - 1],b,by rw[qa];exact am Ad,?_,h2,bo h1⟩;rw[jk,qa, ←hl,h1];rfl
section
variable {P:bb} {w:bw} {K:aa} {mg:Str->Option ah} {base:cq} {C CI CT:ag} {dz fz:Str}
theorem VB:FnScope ["reader","instrument","start","fret","before"] ["reader","instrument"] (AH GX):={}
theorem nF (F:Fun K "read_fret" "read_fret" GX f fd) (N:InE P w K mg base C CI CT dz fz) (gm:GI mg "MOST_FRETS" 15):FnOk P w K mg base (CX1 P w) 10 f fd ["reader","instrument"] (K9 K C CI CT (MX dz fz)):=by
 refine F.okx VB λAc A outer s H vs Q E hr h=>?_;obtain⟨r,ta,cs,e,z8,ia,af,ac,ab,fr,co,ba,rfl,Rr,I,tt,k⟩:=h;have R:=N.R;refine⟨_,(AB (AY (N.sw.call hr AD (AA (pv 0) (AA AS (AA (DL HW (AW AN (by rfl) N.B.len cy (AA (AV (pv 1) rfl) AF)) (B6 gm) (AQ _)) AF)))))
  (AB (AX 2 VB (B1 R (pv 0)))
  (AB (AX 3 VB (GG N.rr hr AD (pv 0)))
  (AB (AX 4 VB (QG (AO E9 (AW AN (by rfl) N.B.len cy (AA (AV (pv 1) rfl) AF)) AI (AQ _)) (BO DN (AV (pv 1) rfl) (GN EU AI) (λ_ _=>rfl)) (OB N.gu)))
  (AB (AZ (DU (DH (N.nr.call hr AD (AA (pv 4) (AA (pv 3) AF))))) (AC (BE R.X1 hr AD rfl (pv 2))) AM)
  (AC (AY (GJ de fj fk CV (AV (pv 1) rfl) (AA (pv 3) AF))))))))),?_⟩
 and_intros
 obtain⟨dx,i1⟩:=I.at_;obtain⟨y1,q1,l1⟩:=I.fr_.len;obtain⟨dr,p,ir⟩:=Rr.ins;refine⟨V.ref r,rfl,V.ref ia,rfl,ia,CI,dx,_,_,rfl,i1,N.T.cl,N.T.nf,MZ _ _ _,af,y1,rfl,.inl q1,_,_,rfl,rfl,r,ta,cs,e,z8,"fret",decide ((y1.length:Int)<15),rfl,Rr,oks (by decide +kernel),?_⟩;have eb:decide ((y1.length:Int)<15)=decide (fr.length<15):=by rw[l1,decide_eq_decide];omega
 rw[MX] at k;cases hs:mSW "fret" (decide (fr.length<15)) z8 with
 |none=>simp only[hs] at k;exact AJ (by rw[eb];exact hs) k
 |some x=>
  obtain⟨_,t⟩:=x;simp only[hs] at k;refine AK (by rw[eb];exact hs) λH1 R1 s1=>?_;have I1:=I.kp (Sb.kp s1 ir);obtain⟨dr1,p1,ir1⟩:=R1.ins;refine⟨_,rfl,r,ta,cs,e,t,rfl,R1,λst=>?_⟩;refine⟨_,rfl,r,ta,cs,e,t,rfl,R1,?_⟩;cases hm:CW dz fz t with
  |none=>simp only[hm] at k;exact D8 rfl k
  |some x=>
   obtain⟨x,u⟩:=x;simp only[hm] at k;have sx:=MY hm;refine D9 rfl λH2 xa R2 s2 hx=>?_;have I2:=I1.kp (Sb.kp s2 ir1);obtain⟨dr2,p2,ir2⟩:=R2.ins;obtain⟨dx2,i2⟩:=I2.at_;obtain⟨as,a1,a2⟩:=id I2.fr_;obtain⟨y2,q2,l2⟩:=I2.fr_.len;have tail:∀(ba':ag) (bl:List Int) (H3:Hp),Same H2 H3->SqT K H3 ba' (bl.map V.int)->bl=fr.getLastD un5->Sm bl->
    (AT (WD (kK (tB (KJ (cE K) [] E (CC (BT 4) (CC (BT 3) EV))))) (J4 CT E (BT 2)) XQ)
     (KI (tBM K "list" LD (OZ K (BT 1) "frets") (CC (BT 3) EV)))) { nx:=λ_ H'=>Q .non H',rt:=Q } [some (.ref r),some (.ref ia),some (.int st),some (.ref xa),some (.ref ba')] H3:=by
    intro ba' bl H3 s3 hb hbl sbl;refine⟨V.ref ba',rfl,V.ref xa,rfl,ba',xa,bl,x,rfl,hb,s3.tup hx,sbl,sx,λH4 s4=>⟨_,rfl,?_⟩⟩;have s24:Same H2 H4:=s3.trans s4;have R4:=R2.same s24;have I4:=I2.kp (Same.kp s24);rw[hbl];cases hn:BF (fr.getLastD un5) x with
    |false=>
     rw[Af (by rw[hn];decide)] at k;exact BV ⟨V.int st,rfl,st,rfl,k st⟩
    |true=>
     rw[Ae hn] at k;have a14:=s24 _ _ a1;have a24:cf (λb l=>SqT K H4 b (l.map V.int)) as fr:=AU a2 λ_ _ q=>s24.tup q;have la:as.length=fr.length:=cj a24;have Ad:fr.length<15:=by
      by_cases hq:fr.length<15
      ·exact hq
      ·unfold mSW at hs;rw[decide_eq_false hq] at hs;cases hz:sk ("fret":Str).cps.toList z8 with
       |none=>rw[hz] at hs;cases hs
       |some y=>obtain⟨_,y⟩:=y;rw[hz] at hs;cases hs
     refine BM ⟨V.ref ia,rfl,ia,CI,dx2,_,_,rfl,s24 _ _ i2,N.T.cl,N.T.nf,MZ _ _ _,.inl ⟨rfl,_,SqL.of a14⟩,V.ref xa,rfl,af,_,_,rfl,rfl,a14,?_,?_⟩
     ·rw[ai,la,bz];omega
     ·have sa:∀b o,H4 b=some o->b≠af->(upd H4 af (.lst (as.map V.ref++[.ref xa]))) b=some o:=λb o eb hb=>by rw[AE hb];exact eb
      refine k _ (R4.kp (xs:=as.map V.ref) (ys:=[]) a14 (tt.imp (λt=>cr t.1) id) sa) ⟨⟨dx2,sa _ _ (s24 _ _ i2) (B2 (s24 _ _ i2) a14 (by intro z;cases z))⟩,LT.add a14 a24 (s24.tup hx),I4.co_.upd a14 (cr I.n1),I4.ba_.upd a14 (cr I.n2),I.n1,I.n2,I.n3,?_,I.sc,I.sb,?_,I.lc⟩
       (((Sb.l s1 (NQ r af ac ab).1).trans (Sb.l s2 (NQ r af ac ab).1)).trans ((Same.l s24).trans λb o eb hb=>sa b o eb λz=>hb (z▸(NQ r af ac ab).2.1)))
      ·intro l hl;rcases cn.mp hl with hl|hl
       ·exact I.sf l hl
       ·rw[ge.mp hl];exact sx
      ·rw[br];simp;omega
   refine⟨V.ref ia,rfl,ia,CI,dx2,_,_,rfl,i2,N.T.cl,N.T.nf,MZ _ _ _,af,y2,rfl,.inl q2,_,_,rfl,rfl,_,rfl,?_⟩;refine CF (λh0=>?_) (λh0=>?_)
   ·have hp:0<fr.length:=by
     have:(0:Int)<(y2.length:Int):=by simpa using h0
     omega
    obtain⟨a,b,e1,e2,e3,e4⟩:=KR a2 (y:=un5) hp;refine⟨V.ref ia,rfl,ia,CI,dx2,_,_,rfl,i2,N.T.cl,N.T.nf,MZ _ _ _,1,rfl,af,_,_,_,rfl,rfl,SqL.of a1,L8 e1,?_⟩;exact tail a b H2 (Same.refl _) e3 e2.symm (I.sf b e4)
   ·have hp:fr=[]:=by
     have:¬(0:Int)<(y2.length:Int):=by simpa using h0
     exact List.length_eq_zero_iff.mp (by omega)
    intro a ha;exact tail a un5 H2 (Same.refl _) (ha H2) (by rw[hp];rfl) ZA
end
open PySem PySem.Spec PyProof.Rows L2
theorem RA {m:Bool} {l:List UInt8} {x:Unit×List UInt8} (h:mSW z m l=some x):m=true:=by
 cases m with
 |true=>rfl
 |false=>
  unfold mSW at h;cases hz:sk z.cps.toList l with
  |none=>rw[hz] at h;cases h
  |some y=>obtain⟨_,y⟩:=y;rw[hz] at h;cases h
theorem S1 (af ac ab:ag):(ifs af ac ab).lookup ("string_count":Str)=none:=S0 _ _ _ (by decide +kernel) (by decide +kernel) (by decide +kernel)
theorem Sm.b60 {l:List Int} (h:Sm l):(∀z∈l,z.natAbs<2 ^ 60)/\0<l.getD 4 0/\l.getD 4 0<2 ^ 60:=by
 obtain⟨h5,h1,h2,h3⟩:=h;refine⟨λz hz=>?_,by omega,by omega⟩;obtain⟨i,hi⟩:=lu hz;have Ad:=(au.mp hi).1;have e:l.getD i 0=z:=by simp[uq,hi]
 by_cases h4:i<4
 ·have:=h1 i h4;rw[e] at this;omega
 ·have e4:i=4:=by omega
  subst e4;rw[e] at h2 h3;omega
section
variable {P:bb} {w:bw} {K:aa} {mg:Str->Option ah} {base:cq} {C CI CT:ag} {dz fz:Str}
theorem VC:FnScope ["reader","instrument","start","course","fret"] ["reader","instrument"] (AH FV):={}
theorem nG (F:Fun K "read_course" "read_course" FV f fd) (N:InE P w K mg base C CI CT dz fz) (gm:GI mg "MOST_STRINGS" 14):FnOk P w K mg base (CX1 P w) 10 f fd ["reader","instrument"] (K9 K C CI CT (FF dz fz)):=by
 refine F.okx VC λAc A outer s H vs Q E hr h=>?_;obtain⟨r,ta,cs,e,z8,ia,af,ac,ab,fr,co,ba,rfl,Rr,I,tt,k⟩:=h;have R:=N.R;refine⟨_,(AB (AY (N.sw.call hr AD (AA (pv 0) (AA AS (AA (DL HW (N.sc.call0 (pv 1) hr AD) (B6 gm) (AQ _)) AF)))))
  (AB (AX 2 VC (B1 R (pv 0)))
  (AB (AX 3 VC (GG N.rr hr AD (pv 0)))
  (AB (CD bq rfl (DI (AV (pv 1) rfl)) (DW 4 VC)
  (AC (AZ (DU (DH (N.ii.call hr AD (AA (N.up.call hr AD (AA (pv 4) (AA (pv 3) AF))) AF)))) (AC (BE R.X1 hr AD rfl (pv 2))) AM)))
  (AC (AY (GJ de fj fk CV (AV (pv 1) rfl) (AA (pv 3) AF)))))))),?_⟩
 and_intros
 obtain⟨dx,i1⟩:=I.at_;obtain⟨dr,p,ir⟩:=Rr.ins;refine⟨V.ref r,rfl,V.ref ia,rfl,ia,dx,_,rfl,i1,S1 _ _ _,ia,af,ac,ab,fr,co,ba,rfl,I,_,_,rfl,rfl,r,ta,cs,e,z8,"course",decide (((co.length+ba.length:Nat):Int)<14),rfl,Rr,oks (by decide +kernel),?_⟩;have eb:decide (((co.length+ba.length:Nat):Int)<14)=decide (co.length+ba.length<14):=by rw[decide_eq_decide];omega
 rw[FF] at k;cases hs:mSW "course" (decide (co.length+ba.length<14)) z8 with
 |none=>simp only[hs] at k;exact AJ (by rw[eb];exact hs) k
 |some x=>
  have Ad:co.length+ba.length<14:=of_decide_eq_true (RA hs);obtain⟨_,t⟩:=x;simp only[hs] at k;refine AK (by rw[eb];exact hs) λH1 R1 s1=>?_;have I1:=I.kp (Sb.kp s1 ir);obtain⟨dr1,p1,ir1⟩:=R1.ins;refine⟨_,rfl,r,ta,cs,e,t,rfl,R1,λst=>?_⟩;refine⟨_,rfl,r,ta,cs,e,t,rfl,R1,?_⟩;cases hm:CW dz fz t with
  |none=>simp only[hm] at k;exact D8 rfl k
  |some x=>
   obtain⟨x,u⟩:=x;simp only[hm] at k;have sx:=MY hm;refine D9 rfl λH2 xa R2 s2 hx=>?_;have I2:=I1.kp (Sb.kp s2 ir1);obtain⟨dx2,i2⟩:=I2.at_;obtain⟨as,a1,a2⟩:=id I2.fr_;have la:as.length=fr.length:=cj a2;refine⟨V.ref ia,rfl,ia,CI,dx2,_,_,rfl,i2,N.T.cl,N.T.nf,MZ _ _ _,af,rfl,⟨_,SqL.of a1⟩,DJ (K:=K) (a:=af) (xs:=as.map V.ref) (λi σ H'=>(∃r4,σ=[some (.ref r),some (.ref ia),some (.int st),some (.ref xa),r4])/\Same H2 H'/\((fr.take i).all λf=>FY (BW f x))=true) ⟨⟨none,rfl⟩,Same.refl _,rfl⟩
    (λi σ H' _ ⟨_,s3,_⟩=>SqL.of (s3 _ _ a1)) ?_ ?_⟩
   ·rintro i y σ H3 hi ⟨⟨r4,rfl⟩,s3,ha⟩
    subst_eqs
    rw[az] at hi;cases ea:as[i]? with
    |none=>rw[ea] at hi;cases hi
    |some fa=>
     rw[ea] at hi;cases hi;obtain⟨fl,f1,f2⟩:=BL a2 ea;have sfl:Sm fl:=I.sf fl (bo f1);have b1:=sfl.b60;have b2:=sx.b60;refine⟨V.ref fa,rfl,V.ref xa,rfl,fa,xa,fl,x,rfl,.inr (s3.tup f2),s3.tup hx,sfl.1,sx.1,b1.1,b1.2.1,b2.2.1,b2.2.2,λH4 ua s4 hu=>⟨ua,BW fl x,rfl,SqT.of hu,MW _ _,λH5 s5=>⟨_,rfl,?_⟩⟩⟩;cases hi:FY (BW fl x) with
     |true=>
      refine BM ⟨⟨_,rfl⟩,(s3.trans s4).trans s5,?_⟩;rw[eq,f1,xq,ha];simp[hi]
     |false=>
      have hall:(fr.all λf=>FY (BW f x))=false:=by
       rw[wu];exact⟨fl,bo f1,by rw[hi];decide⟩
      rw[Af (by rw[hall];decide)] at k;exact BV ⟨V.int st,rfl,st,rfl,k st⟩
   ·rintro σ H3 ⟨⟨r4,rfl⟩,s3,ha⟩;rw[ai,la,fv] at ha;rw[Ae ha] at k;have I3:=I2.kp (Same.kp s3);have R3:=R2.same s3;obtain⟨bs,c1,c2⟩:=id I3.co_;have lb:bs.length=co.length:=cj c2;have i3:=s3 _ _ i2;refine⟨V.ref ia,rfl,ia,CI,dx2,_,_,rfl,i3,N.T.cl,N.T.nc,IC _ _ _,.inl ⟨rfl,_,SqL.of c1⟩,V.ref xa,rfl,ac,_,_,rfl,rfl,c1,?_,?_⟩
    ·rw[ai,lb,bz];omega
    ·have sa:∀b o,H3 b=some o->b≠ac->(upd H3 ac (.lst (bs.map V.ref++[.ref xa]))) b=some o:=λb o eb hb=>by rw[AE hb];exact eb
     refine k _ (R3.kp (xs:=bs.map V.ref) (ys:=[]) c1 (tt.imp (λt=>cr t.2.1) id) sa) ⟨⟨dx2,sa _ _ i3 (B2 i3 c1 (by intro z;cases z))⟩,I3.fr_.upd c1 I.n1,LT.add c1 c2 (s3.tup hx),I3.ba_.upd c1 (cr I.n3),I.n1,I.n2,I.n3,I.sf,?_,I.sb,I.lf,?_⟩
      (((Sb.l s1 (NQ r af ac ab).1).trans (Sb.l s2 (NQ r af ac ab).1)).trans ((Same.l s3).trans λb o eb hb=>sa b o eb λz=>hb (z▸(NQ r af ac ab).2.2.1)))
     ·intro l hl;rcases cn.mp hl with hl|hl
      ·exact I.sc l hl
      ·rw[ge.mp hl];exact sx
     ·rw[br];simp;omega
theorem nI:FnScope ["reader","instrument"] ["reader","instrument"] (AH GY):={}
theorem nJ (F:Fun K "read_bass" "read_bass" GY f fd) (N:InE P w K mg base C CI CT dz fz) (gm:GI mg "MOST_STRINGS" 14):FnOk P w K mg base (CX1 P w) 10 f fd ["reader","instrument"] (K9 K C CI CT (JE dz fz)):=by
 refine F.okx nI λAc A outer s H vs Q E hr h=>?_;obtain⟨r,ta,cs,e,z8,ia,af,ac,ab,fr,co,ba,rfl,Rr,I,tt,k⟩:=h;have R:=N.R;refine⟨_,(AB (AY (N.sw.call hr AD (AA (pv 0) (AA AS (AA (DL HW (N.sc.call0 (pv 1) hr AD) (B6 gm) (AQ _)) AF)))))
  (AC (AY (GJ de fj fk CV (AV (pv 1) rfl) (AA (GG N.rr hr AD (pv 0)) AF))))),?_⟩
 and_intros
 obtain⟨dx,i1⟩:=I.at_;obtain⟨dr,p,ir⟩:=Rr.ins;refine⟨V.ref r,rfl,V.ref ia,rfl,ia,dx,_,rfl,i1,S1 _ _ _,ia,af,ac,ab,fr,co,ba,rfl,I,_,_,rfl,rfl,r,ta,cs,e,z8,"bass",decide (((co.length+ba.length:Nat):Int)<14),rfl,Rr,oks (by decide +kernel),?_⟩;have eb:decide (((co.length+ba.length:Nat):Int)<14)=decide (co.length+ba.length<14):=by rw[decide_eq_decide];omega
 rw[JE] at k;cases hs:mSW "bass" (decide (co.length+ba.length<14)) z8 with
 |none=>simp only[hs] at k;exact AJ (by rw[eb];exact hs) k
 |some x=>
  have Ad:co.length+ba.length<14:=of_decide_eq_true (RA hs);obtain⟨_,t⟩:=x;simp only[hs] at k;refine AK (by rw[eb];exact hs) λH1 R1 s1=>?_;have I1:=I.kp (Sb.kp s1 ir);obtain⟨dx1,i1'⟩:=I1.at_;obtain⟨bs1,c1',_⟩:=id I1.ba_;obtain⟨dr1,p1,ir1⟩:=R1.ins;refine⟨V.ref ia,rfl,ia,CI,dx1,_,_,rfl,i1',N.T.cl,N.T.nb,VA _ _ _,.inl ⟨rfl,_,SqL.of c1'⟩,V.ref r,rfl,r,ta,cs,e,t,rfl,R1,?_⟩;cases hm:CW dz fz t with
  |none=>simp only[hm] at k;exact D8 rfl k
  |some x=>
   obtain⟨x,u⟩:=x;simp only[hm] at k;have sx:=MY hm;refine D9 rfl λH2 xa R2 s2 hx=>?_;have I2:=I1.kp (Sb.kp s2 ir1);obtain⟨dx2,i2⟩:=I2.at_;obtain⟨bs,c1,c2⟩:=id I2.ba_;have lb:bs.length=ba.length:=cj c2;refine⟨ab,_,_,rfl,rfl,c1,?_,?_⟩
   ·rw[ai,lb,bz];omega
   ·have sa:∀b o,H2 b=some o->b≠ab->(upd H2 ab (.lst (bs.map V.ref++[.ref xa]))) b=some o:=λb o eb hb=>by rw[AE hb];exact eb
    refine k _ (R2.kp (xs:=bs.map V.ref) (ys:=[]) c1 (tt.imp (λt=>cr t.2.2) id) sa) ⟨⟨dx2,sa _ _ i2 (B2 i2 c1 (by intro z;cases z))⟩,I2.fr_.upd c1 I.n2,I2.co_.upd c1 I.n3,LT.add c1 c2 hx,I.n1,I.n2,I.n3,I.sf,I.sc,?_,I.lf,?_⟩
     (((Sb.l s1 (NQ r af ac ab).1).trans (Sb.l s2 (NQ r af ac ab).1)).trans λb o eb hb=>sa b o eb λz=>hb (z▸(NQ r af ac ab).2.2.2))
    ·intro l hl;rcases cn.mp hl with hl|hl
     ·exact I.sb l hl
     ·rw[ge.mp hl];exact sx
    ·rw[br];simp;omega
end
open PySem PySem.Spec PyProof.Rows L2
def G9 (dz fz:Str):St3->List UInt8->Option (St3×List UInt8)
 |(fr,co,ba),l=>if see "f" l=true/\co.length=0 then MX dz fz (fr,co,ba) l else if see "c" l=true/\ba.length=0 then FF dz fz (fr,co,ba) l else if see "b" l=true/\0<co.length then JE dz fz (fr,co,ba) l else none
def CS (dz fz:Str) (s:St3) (l:List UInt8):Option (St3×List UInt8):=match G9 dz fz s l with
 |none=>none
 |some (s',t)=>match sk ("\n":Str).cps.toList t with
  |none=>none
  |some (_,u)=>some (s',u)
def WS (dz:Str) (l:List UInt8):Option (Unit×List UInt8):=match sk ("length ":Str).cps.toList l with
 |none=>none
 |some (_,t)=>if see "0" t=true then none else match wn dz 7 t with
  |none=>none
  |some (n,u)=>if n<10000\/200000<n then none else sk ("\n":Str).cps.toList u
def B9 (dz fz:Str):Nat->St3->List UInt8->Option St3
 |0,_,_=>none
 |f+1,(fr,co,ba),l=>if l.isEmpty=true/\¬co.length=0 then some (fr,co,ba) else match CS dz fz (fr,co,ba) l with
  |none=>none
  |some (s,t)=>B9 dz fz f s t
def JF (dz fz:Str) (cs:List UInt8):Option St3:=match WS dz cs with
 |none=>none
 |some (_,t)=>B9 dz fz (t.length+1) ([],[],[]) t
theorem PQ {m:Bool} {l:List UInt8} {u:Unit} (h:mSW z m l=some (u,t)):t.length<=l.length:=by
 unfold mSW at h;cases hz:sk z.cps.toList l with
 |none=>rw[hz] at h;cases h
 |some y=>
  obtain⟨_,y⟩:=y;simp only[hz] at h;split at h
  ·have:=BK hz;have:=BK h;omega
  ·cases h
theorem J7 {l:List UInt8} (h:CW dz fz l=some (x,t)):t.length<=l.length:=by
 unfold CW at h;cases hm:mIv dz fz (l.takeWhile lf) with
 |none=>rw[hm] at h;cases h
 |some y=>rw[hm] at h;cases h;rw[im];omega
theorem WT {s s':St3} {l:List UInt8} (h:G9 dz fz s l=some (s',t)):t.length<=l.length:=by
 obtain⟨fr,co,ba⟩:=s;rw[G9] at h;split at h
 ·rw[MX] at h;cases hs:mSW "fret" (decide (fr.length<15)) l with
  |none=>simp only[hs] at h;cases h
  |some y=>
   obtain⟨_,y⟩:=y;simp only[hs] at h;cases hm:CW dz fz y with
   |none=>simp only[hm] at h;cases h
   |some q=>
    obtain⟨q,v⟩:=q;simp only[hm] at h;split at h
    ·cases h;have:=PQ hs;have:=J7 hm;omega
    ·cases h
 ·split at h
  ·rw[FF] at h;cases hs:mSW "course" (decide (co.length+ba.length<14)) l with
   |none=>simp only[hs] at h;cases h
   |some y=>
    obtain⟨_,y⟩:=y;simp only[hs] at h;cases hm:CW dz fz y with
    |none=>simp only[hm] at h;cases h
    |some q=>
     obtain⟨q,v⟩:=q;simp only[hm] at h;split at h
     ·cases h;have:=PQ hs;have:=J7 hm;omega
     ·cases h
  ·split at h
   ·rw[JE] at h;cases hs:mSW "bass" (decide (co.length+ba.length<14)) l with
    |none=>simp only[hs] at h;cases h
    |some y=>
     obtain⟨_,y⟩:=y;simp only[hs] at h;cases hm:CW dz fz y with
     |none=>simp only[hm] at h;cases h
     |some q=>
      obtain⟨q,v⟩:=q;simp only[hm] at h;cases h;have:=PQ hs;have:=J7 hm;omega
   ·cases h
theorem S4 {s s':St3} {l:List UInt8} (h:CS dz fz s l=some (s',t)):t.length<l.length:=by
 unfold CS at h;cases hp:G9 dz fz s l with
 |none=>rw[hp] at h;cases h
 |some y=>
  obtain⟨s1,y⟩:=y;simp only[hp] at h;cases hs:sk ("\n":Str).cps.toList y with
  |none=>rw[hs] at h;cases h
  |some q=>
   obtain⟨_,q⟩:=q;rw[hs] at h;cases h;have h1:=WT hp;have h2:t.length+1=y.length:=BK hs;omega
def iC (K:aa) (CI CT:ag) (H:Hp) (Q:VK) (E:XK):Option St3->Prop
 |some (fr,co,ba)=>∀H' ia af ac ab,Same H H'->InA K CI H' ia af ac ab fr co ba->Q (.ref ia) H'
 |none=>∀z:Int,E (.ref CT) none (xH [("place",.int z)])
def eJ (K:aa) (CI CT:ag) (dz fz:Str):Sp:=λvs H Q E=>Ex2 λ(ta:ag) (cs:List UInt8)=>vs=[.ref ta]/\SqL K H ta (cs.map cV)/\iC K CI CT H Q E (JF dz fz cs)
section
variable {P:bb} {w:bw} {K:aa} {mg:Str->Option ah} {base:cq} {C CI CT:ag} {dz fz:Str}
theorem nL:FnScope ["reader","instrument"] ["reader","instrument"] (AH B5):={}
theorem nM (F:Fun K "read_line" "read_line" B5 f fd) (N:InE P w K mg base C CI CT dz fz) (D1:Def P w K mg base 10 "read_fret" ["reader","instrument"] (K9 K C CI CT (MX dz fz)))
 (D2:Def P w K mg base 10 "read_course" ["reader","instrument"] (K9 K C CI CT (FF dz fz))) (D3:Def P w K mg base 10 "read_bass" ["reader","instrument"] (K9 K C CI CT (JE dz fz))):
 FnOk P w K mg base (CX1 P w) 11 f fd ["reader","instrument"] (K9 K C CI CT (CS dz fz)):=by
 refine F.okx nL λAc A outer s H vs Q E hr h=>?_;obtain⟨r,ta,cs,e,z8,ia,af,ac,ab,fr,co,ba,rfl,Rr,I,tt,k⟩:=h;have R:=N.R;refine⟨_,(AB (AZ (GM (BH R hr AD (pv 0) AS (oks (by decide +kernel))) (E8 (AO C1 (AW AN (by rfl) N.B.len cy (AA (AV (pv 1) rfl) AF)) AI (AQ _)))).pt
  (AC (AY (D1.call hr AD (AA (pv 0) (AA (pv 1) AF)))))
  (AC (AZ (GM (BH R hr AD (pv 0) AS (oks (by decide +kernel))) (E8 (AO C1 (AW AN (by rfl) N.B.len cy (AA (AV (pv 1) rfl) AF)) AI (AQ _)))).pt
   (AC (AY (D2.call hr AD (AA (pv 0) (AA (pv 1) AF)))))
   (AC (AZ (GM (BH R hr AD (pv 0) AS (oks (by decide +kernel))) (E8 (AO E9 (AW AN (by rfl) N.B.len cy (AA (AV (pv 1) rfl) AF)) AI (AQ _)))).pt
    (AC (AY (D3.call hr AD (AA (pv 0) (AA (pv 1) AF)))))
    (AC (BE R.X1 hr AD rfl (B1 R (pv 0)))))))))
  (AC (BI R hr AD (pv 0) AS (oks (by decide +kernel))))),?_⟩
 and_intros
 unfold CS at k;have tail:∀(H1 H2:Hp) (fr' co' ba':List (List Int)) (t:List UInt8),Same H H1->SbL [r,af,ac,ab] H1 H2->Rd K C H2 r ta cs e t->InA K CI H2 ia af ac ab fr' co' ba'->G9 dz fz (fr,co,ba) z8=some ((fr',co',ba'),t)->
  (MV K C CT E (BT 0) "\n") { nx:=λ_ H'=>Q .non H',rt:=Q } [some (.ref r),some (.ref ia)] H2:=by
  intro H1 H2 fr' co' ba' t s1 s2 R2 I2 hp;rw[hp] at k;obtain⟨dr,p,ir⟩:=R2.ins;refine⟨_,rfl,r,ta,cs,e,t,rfl,R2,?_⟩;cases hs:sk ("\n":Str).cps.toList t with
  |none=>simp only[hs] at k;exact AJ rfl k
  |some x=>
   obtain⟨_,u⟩:=x;simp only[hs] at k;exact AK rfl λH3 R3 s3=>k H3 R3 (I2.kp (Sb.kp s3 ir)) (((Same.l s1).trans s2).trans (Sb.l s3 (NQ r af ac ab).1))
 have nope:∀z:Int,G9 dz fz (fr,co,ba) z8=none->E (.ref CT) none (xH [("place",.int z)]):=λz hp=>by
  rw[hp] at k;exact k z
 obtain⟨dx,i1⟩:=I.at_;rw[G9] at tail nope;have test:∀(H1:Hp) (z:Str),True:=λ_ _=>jg;refine⟨_,rfl,r,ta,cs,e,z8,rfl,Rr,λH1 s1=>?_⟩;have I1:=I.kp (Same.kp s1);have R1:=Rr.same s1;have i11:=s1 _ _ i1;have second:∀H1:Hp,Same H H1->¬(see "f" z8=true/\co.length=0)->(WD (bG (UU K C (BT 0) "c") (QI (tOp rEq (tCB (λxs H Q=>Ex2 λp ys=>xs=[V.ref p]/\(SqL K H p ys\/SqT K H p ys)/\Q (.int ys.length) H) (CC (OZ K (BT 1) "basses") EV)) (tC (.int 0)))))
  (KI (KJ (K9 K C CI CT (FF dz fz)) [] E (CC (BT 0) (CC (BT 1) EV))))
  (WD (bG (UU K C (BT 0) "b") (QI (tOp (rI0 λi j=>.bl (decide (j<i))) (tCB (λxs H Q=>Ex2 λp ys=>xs=[V.ref p]/\(SqL K H p ys\/SqT K H p ys)/\Q (.int ys.length) H) (CC (OZ K (BT 1) "courses") EV)) (tC (.int 0)))))
   (KI (KJ (K9 K C CI CT (JE dz fz)) [] E (CC (BT 0) (CC (BT 1) EV)))) (J4 CT E (PN K C (BT 0)))))
  { nx:=(MV K C CT E (BT 0) "\n") { nx:=λ_ H'=>Q .non H',rt:=Q },rt:=Q } [some (.ref r),some (.ref ia)] H1:=by
  intro H1 s1 hno;rw[Af hno] at tail nope;have I1:=I.kp (Same.kp s1);have R1:=Rr.same s1;refine⟨_,rfl,r,ta,cs,e,z8,rfl,R1,λH2 s2=>?_⟩;have s12:=s1.trans s2;have I2:=I.kp (Same.kp s12);have R2:=Rr.same s12;have i2:=s12 _ _ i1;have third:∀H2:Hp,Same H H2->¬(see "c" z8=true/\ba.length=0)->(WD (bG (UU K C (BT 0) "b") (QI (tOp (rI0 λi j=>.bl (decide (j<i))) (tCB (λxs H Q=>Ex2 λp ys=>xs=[V.ref p]/\(SqL K H p ys\/SqT K H p ys)/\Q (.int ys.length) H) (CC (OZ K (BT 1) "courses") EV)) (tC (.int 0)))))
   (KI (KJ (K9 K C CI CT (JE dz fz)) [] E (CC (BT 0) (CC (BT 1) EV)))) (J4 CT E (PN K C (BT 0))))
   { nx:=(MV K C CT E (BT 0) "\n") { nx:=λ_ H'=>Q .non H',rt:=Q },rt:=Q } [some (.ref r),some (.ref ia)] H2:=by
   intro H2 s2 hno2;rw[Af hno2] at tail nope;have R2:=Rr.same s2;refine⟨_,rfl,r,ta,cs,e,z8,rfl,R2,λH3 s3=>?_⟩;have s23:=s2.trans s3;have I3:=I.kp (Same.kp s23);have R3:=Rr.same s23;have i3:=s23 _ _ i1;have last:¬(see "b" z8=true/\0<co.length)->(J4 CT E (PN K C (BT 0))) { nx:=(MV K C CT E (BT 0) "\n") { nx:=λ_ H'=>Q .non H',rt:=Q },rt:=Q } [some (.ref r),some (.ref ia)] H3:=λhno3=>by
    rw[Af hno3] at nope;exact⟨V.ref r,rfl,r,ta,cs,e,z8,rfl,R3,λz=>⟨z,rfl,nope z rfl⟩⟩
   cases hb:see "b" z8 with
   |false=>exact BM (BM (last (by rw[hb];rintro ⟨q,_⟩;cases q)))
   |true=>
    obtain⟨y1,q1,l1⟩:=I3.co_.len;refine BV ⟨V.ref ia,rfl,ia,CI,dx,_,_,rfl,i3,N.T.cl,N.T.nc,IC _ _ _,ac,y1,rfl,.inl q1,_,_,rfl,rfl,_,rfl,CF (λh0=>?_) (λh0=>?_)⟩
    ·have hc:0<co.length:=by
      have:(0:Int)<(y1.length:Int):=by simpa using h0
      omega
     rw[Ae ⟨hb,hc⟩] at tail nope;refine⟨V.ref r,rfl,V.ref ia,rfl,r,ta,cs,e,z8,ia,af,ac,ab,fr,co,ba,rfl,R3,I3,tt,?_⟩;cases hm:JE dz fz (fr,co,ba) z8 with
     |none=>exact HH rfl λz=>nope z hm
     |some x=>
      obtain⟨⟨fr',co',ba'⟩,t⟩:=x;exact HI rfl λH4 R4 I4 s4=>tail H3 H4 fr' co' ba' t s23 s4 R4 I4 hm
    ·have hc:¬0<co.length:=by
      have:¬(0:Int)<(y1.length:Int):=by simpa using h0
      omega
     exact last λq=>hc q.2
  cases hc:see "c" z8 with
  |false=>exact BM (BM (third H2 s12 (by rw[hc];rintro ⟨q,_⟩;cases q)))
  |true=>
   obtain⟨y1,q1,l1⟩:=I2.ba_.len;refine BV ⟨V.ref ia,rfl,ia,CI,dx,_,_,rfl,i2,N.T.cl,N.T.nb,VA _ _ _,ab,y1,rfl,.inl q1,rfl,_,rfl,CF (λh0=>?_) (λh0=>?_)⟩
   ·have hb0:ba.length=0:=by
     have q:=of_decide_eq_true h0;injection q with q;omega
    rw[Ae ⟨hc,hb0⟩] at tail nope;refine⟨V.ref r,rfl,V.ref ia,rfl,r,ta,cs,e,z8,ia,af,ac,ab,fr,co,ba,rfl,R2,I2,tt,?_⟩;cases hm:FF dz fz (fr,co,ba) z8 with
    |none=>exact HH rfl λz=>nope z hm
    |some x=>
     obtain⟨⟨fr',co',ba'⟩,t⟩:=x;exact HI rfl λH4 R4 I4 s4=>tail H2 H4 fr' co' ba' t s12 s4 R4 I4 hm
   ·have hb0:¬ba.length=0:=λq=>h0 (decide_eq_true (by rw[l1,q];rfl));exact third H2 s12 λq=>hb0 q.2
 cases hf:see "f" z8 with
 |false=>exact BM (BM (second H1 s1 (by rw[hf];rintro ⟨q,_⟩;cases q)))
 |true=>
  obtain⟨y1,q1,l1⟩:=I1.co_.len;refine BV ⟨V.ref ia,rfl,ia,CI,dx,_,_,rfl,i11,N.T.cl,N.T.nc,IC _ _ _,ac,y1,rfl,.inl q1,rfl,_,rfl,CF (λh0=>?_) (λh0=>?_)⟩
  ·have hc0:co.length=0:=by
    have q:=of_decide_eq_true h0;injection q with q;omega
   rw[Ae ⟨hf,hc0⟩] at tail nope;refine⟨V.ref r,rfl,V.ref ia,rfl,r,ta,cs,e,z8,ia,af,ac,ab,fr,co,ba,rfl,R1,I1,tt,?_⟩;cases hm:MX dz fz (fr,co,ba) z8 with
   |none=>exact HH rfl λz=>nope z hm
   |some x=>
    obtain⟨⟨fr',co',ba'⟩,t⟩:=x;exact HI rfl λH4 R4 I4 s4=>tail H1 H4 fr' co' ba' t s1 s4 R4 I4 hm
  ·have hc0:¬co.length=0:=λq=>h0 (decide_eq_true (by rw[l1,q];rfl));exact second H1 s1 λq=>hc0 q.2
theorem ZD:FnScope ["reader","start","length"] ["reader"] (AH BY):={}
theorem nN (F:Fun K "read_length" "read_length" BY f fd) (R:RdE P w K mg base C CT dz) (g1:GI mg "LENGTH_DIGITS" ((7:Nat):Int)) (g2:GI mg "LEAST_LENGTH" 10000) (g3:GI mg "GREATEST_LENGTH" 200000):
 FnOk P w K mg base (CX1 P w) 5 f fd ["reader"] (GK K C CT (WS dz) WR):=by
 refine F.okx ZD λAc A outer s H vs Q E hr h=>?_;obtain⟨r,ta,cs,e,z8,rfl,Rr,k⟩:=h;refine⟨_,(AB (BI R hr AD (pv 0) AS (oks (by decide +kernel)))
  (AB (AX 1 ZD (B1 R (pv 0)))
  (AB (AZ (BH R hr AD (pv 0) AS (oks (by decide +kernel))) (AC (BE R.X1 hr AD rfl (pv 1))) AM)
  (AB (AX 2 ZD (UY (most:=7) R hr AD (pv 0) (B6 g1)))
  (AB (AZ (NV (AO HW (pv 2) (B6 g2) (AQ _)) (JM (AO E9 (pv 2) (B6 g3) (AQ _)))).pt (AC (BE R.X1 hr AD rfl (pv 1))) AM)
  (AC (BI R hr AD (pv 0) AS (oks (by decide +kernel))))))))),?_⟩
 and_intros
 unfold WS at k;refine⟨_,rfl,r,ta,cs,e,z8,rfl,Rr,?_⟩;cases hs:sk ("length ":Str).cps.toList z8 with
 |none=>rw[hs] at k;exact AJ rfl k
 |some x=>
  obtain⟨_,t⟩:=x;simp only[hs] at k;refine AK rfl λH1 R1 s1=>?_;refine⟨_,rfl,r,ta,cs,e,t,rfl,R1,λst=>?_⟩;refine⟨_,rfl,r,ta,cs,e,t,rfl,R1,λH2 s2=>?_⟩;have R2:=R1.same s2;cases h0:see "0" t with
  |true=>
   rw[Ae h0] at k;exact BV ⟨V.int st,rfl,st,rfl,k st⟩
  |false=>
   rw[Af (by rw[h0];decide)] at k;refine BM ⟨_,rfl,r,ta,cs,e,t,rfl,R2,?_⟩;cases hw:wn dz 7 t with
   |none=>simp only[hw] at k;exact AJ rfl k
   |some x=>
    obtain⟨n,u⟩:=x;simp only[hw] at k;refine AK rfl λH3 R3 s3=>?_;have fail:(n<10000\/200000<n)->∀z:Int,E (.ref CT) none (xH [("place",.int z)]):=λq=>by rw[Ae q] at k;exact k
    refine⟨V.int (n:Nat),rfl,_,_,rfl,rfl,_,rfl,CF (λh1=>?_) (λh1=>?_)⟩
    ·have q1:n<10000:=by
      have:(n:Int)<10000:=by simpa using h1
      omega
     exact BV ⟨V.int st,rfl,st,rfl,fail (.inl q1) st⟩
    ·have q1:¬n<10000:=by
      have:¬(n:Int)<10000:=by simpa using h1
      omega
     refine⟨V.int (n:Nat),rfl,_,_,rfl,rfl,_,rfl,CF (λh2=>?_) (λh2=>?_)⟩
     ·have q2:200000<n:=by
       have:(200000:Int)<n:=by simpa using h2
       omega
      exact⟨V.int st,rfl,st,rfl,fail (.inr q2) st⟩
     ·have q2:¬200000<n:=by
       have:¬(200000:Int)<n:=by simpa using h2
       omega
      rw[Af (by rintro (q|q);exact q1 q;exact q2 q)] at k;refine⟨_,rfl,r,ta,cs,e,u,rfl,R3,?_⟩;cases hs2:sk ("\n":Str).cps.toList u with
      |none=>rw[hs2] at k;exact AJ rfl k
      |some x=>
       obtain⟨⟨⟩,v⟩:=x;rw[hs2] at k;exact AK rfl λH4 R4 s4=>k H4 R4 (((s1.trans s2.sb).trans s3).trans s4)
end
open PySem PySem.Spec PyProof.Rows L2
theorem OF {K:aa} {res:Option St3} (k:iC K CI CT H Q E res) (h:res=none):∀z:Int,E (.ref CT) none (xH [("place",.int z)]):=by
 rw[h] at k;exact k
theorem WU {K:aa} {res:Option St3} {fr co ba:List (List Int)} (k:iC K CI CT H Q E res) (h:res=some (fr,co,ba)):∀H' ia af ac ab,Same H H'->InA K CI H' ia af ac ab fr co ba->Q (.ref ia) H':=by
 rw[h] at k;exact k
theorem HA {K:aa} (h:SqL K H ta (cs.map cV)) (n:H a=none):ta≠a\/KTx K ta (cs.map cV):=by
 rcases h with(h|⟨o,h⟩)|h
 ·exact .inl (AG h n)
 ·exact .inl (AG h n)
 ·exact .inr h
def nO (K:aa) (CI:ag):Sp:=λvs H Q _=>Ex9 λ(ia af ac ab:ag) (fr co ba:List (List Int)) (c f:Int)=>vs=[.ref ia,.int c,.int f]/\InA K CI H ia af ac ab fr co ba/\
 Q (.bl (if c<=co.length then decide (f<=fr.length) else decide (c<=((co.length+ba.length:Nat):Int))&&decide (f=0))) H
theorem iD {c:Bool} {A B:Prop} (hc:c=true) (h:A):if c=true then A else B:=by rw[Ae hc];exact h
theorem WV {c:Bool} {A B:Prop} (hc:c=false) (h:B):if c=true then A else B:=by rw[Af (by rw[hc];decide)];exact h
theorem JG (dz fz:Str) (f:Nat) (fr co ba:List (List Int)) (l:List UInt8):B9 dz fz (f+1) (fr,co,ba) l=if l.isEmpty=true/\¬co.length=0 then some (fr,co,ba) else match CS dz fz (fr,co,ba) l with
 |none=>none
 |some (s,t)=>B9 dz fz f s t:=by rw[B9];all_goals rfl
def WIn (K:aa) (C CI:ag) (dz fz:Str) (ta r ia af ac ab:ag) (cs t:List UInt8) (H3:Hp) (m:Nat) (σ:L2.St) (H':Hp):Prop:=
 Ex5 λ(z8:List UInt8) (fr co ba:List (List Int)) (g:Nat)=>σ=[some (.ref ta),some (.ref r),some (.ref ia)]/\SbL [r,af,ac,ab] H3 H'/\Rd K C H' r ta cs cs.length z8/\InA K CI H' ia af ac ab fr co ba/\
  B9 dz fz (t.length+1) ([],[],[]) t=B9 dz fz g (fr,co,ba) z8/\z8.length<g/\m=z8.length
section
variable {P:bb} {w:bw} {K:aa} {mg:Str->Option ah} {base:cq} {C CI CT:ag} {dz fz:Str}
theorem S5:FnScope ["text","reader","instrument"] ["text"] (AH DR):={}
theorem iE (F:Fun K "read_instrument" "read_instrument" DR f fd) (N:InE P w K mg base C CI CT dz fz) (MI:Mkr P w K mg base 1 CI "Instrument" ["self"] (ZC CI))
 (D1:Def P w K mg base 5 "read_length_instruments" ["reader"] (GK K C CT (WS dz) WR)) (D2:Def P w K mg base 11 "read_line_instruments" ["reader","instrument"] (K9 K C CI CT (CS dz fz))):
 FnOk P w K mg base (CX1 P w) 12 f fd ["text"] (eJ K CI CT dz fz):=by
 refine F.okx S5 λAc A outer s H vs Q E hr h=>?_;obtain⟨ta,cs,rfl,tx,k⟩:=h;have R:=N.R;refine⟨_,(AB (AX 1 S5 (R.mkr.call hr AD (AA (pv 0) (AA AI (AA (AW AN (by rfl) N.B.len cy (AA (pv 0) AF)) AF)))))
  (AB (AY (J6 D1 hr AD (pv 1)))
  (AB (AX 2 S5 (MI.call0 hr AD))
  (AB (B4 bq (NV (DU (JD R hr AD (pv 1))) (JM (AO C1 (AW AN (by rfl) N.B.len cy (AA (AV (pv 2) rfl) AF)) AI (AQ _)))).pt
  (AC (AY (D2.call hr AD (AA (pv 1) (AA (pv 2) AF))))))
  (AC (AL (pv 2))))))),?_⟩
 and_intros
 refine⟨V.ref ta,rfl,V.ref ta,rfl,ta,_,rfl,.inl tx,λr dr nr nd hne=>⟨r,dr,ta,0,_,rfl,upd_same,λH1 h1 s1=>⟨rfl,?_⟩⟩⟩;have sm1:Same H H1:=BU nr nd s1 Sb.refl;have fin:∀{H2:Hp},Sb r H1 H2->Same H H2:=λs2=>BU nr nd s1 s2;have R1:Rd K C H1 r ta cs cs.length cs:=by
  refine⟨⟨dr,0,?_,?_,dm _⟩,sm1.seq tx,aw _⟩
  ·rw[h1,ai];rfl
  ·rw[fv];rfl
 unfold JF at k;refine⟨V.ref r,rfl,r,ta,cs,cs.length,cs,rfl,R1,?_⟩;cases hl:WS dz cs with
 |none=>exact AJ rfl (OF k (by rw[hl]))
 |some x=>
  obtain⟨_,t⟩:=x;simp only[hl] at k;refine AK rfl λH2 R2 s2=>?_;have sm2:=fin s2;intro ia di ni ndi hni;refine⟨ia,di,rfl,upd_same,λH3 af ac ab h3 ea ec eb nf nc nb n1 n2 n3 s3=>⟨rfl,?_⟩⟩;have sm23:Same H2 H3:=BU ni ndi s3 Sb.refl;have nn:∀{q:ag},(upd (upd H2 di (.own ia)) ia (.ins CI di [])) q=none->H2 q=none:=λ{q} h=>by
   by_cases e1:q=ia
   ·rw[e1];exact ni
   ·by_cases e2:q=di
    ·rw[e2];exact ndi
    ·rw[AE e1,AE e2] at h;exact h
  have I3:InA K CI H3 ia af ac ab [] [] []:=⟨⟨di,h3⟩,⟨[],ea,.nil⟩,⟨[],ec,.nil⟩,⟨[],eb,.nil⟩,n1,n2,n3,by simp,by simp,by simp,by simp,by simp⟩
  have R3:=R2.same sm23;have tt:(ta≠af/\ta≠ac/\ta≠ab)\/KTx K ta (cs.map cV):=by
   rcases HA R2.tx (nn nf) with q1|q
   ·rcases HA R2.tx (nn nc) with q2|q
    ·rcases HA R2.tx (nn nb) with q3|q
     ·exact .inl ⟨q1,q2,q3⟩
     ·exact .inr q
    ·exact .inr q
   ·exact .inr q
  have hold:∀{H4:Hp},SbL [r,af,ac,ab] H3 H4->Same H H4:=λ{H4} s4 b o e=>by
   have m0:b≠r:=AG e nr;have e2:=sm2 b o e;have m1:b≠af:=AG e2 (nn nf);have m2:b≠ac:=AG e2 (nn nc);have m3:b≠ab:=AG e2 (nn nb);exact s4 b o (sm23 b o e2) (by simp[m0,m1,m2,m3])
  refine⟨WIn K C CI dz fz ta r ia af ac ab cs t H3,⟨t.length,t,[],[],[],t.length+1,rfl,SbL.refl,R3,I3,rfl,by omega,rfl⟩,?_⟩;rintro m σ H4 ⟨z8,fr,co,ba,g,rfl,s4,R4,I4,em,hg,rfl⟩;rw[em] at k;obtain⟨g,rfl⟩:∃g',g=g'+1:=⟨g - 1,by omega⟩
  rw[JG] at k;replace em:=em.trans (JG dz fz g fr co ba z8);obtain⟨dx,i4⟩:=I4.at_;have step:¬(z8.isEmpty=true/\¬co.length=0)->(KI (KJ (K9 K C CI CT (CS dz fz)) [] E (CC (BT 1) (CC (BT 2) EV)))) { nx:=λσ' H'=>∃m',m'<z8.length/\WIn K C CI dz fz ta r ia af ac ab cs t H3 m' σ' H',rt:=Q } [some (.ref ta),some (.ref r),some (.ref ia)] H4:=by
   intro hno;rw[Af hno] at k em;refine⟨V.ref r,rfl,V.ref ia,rfl,r,ta,cs,cs.length,z8,ia,af,ac,ab,fr,co,ba,rfl,R4,I4,tt,?_⟩;cases hm:CS dz fz (fr,co,ba) z8 with
   |none=>exact HH rfl (OF k (by rw[hm]))
   |some x=>
    obtain⟨⟨fr',co',ba'⟩,u⟩:=x;have Ad:=S4 hm;simp only[hm] at em;refine HI rfl λH5 R5 I5 s5=>⟨u.length,Ad,u,fr',co',ba',g,rfl,s4.trans s5,R5,I5,em,by omega,rfl⟩
  have stop:(z8.isEmpty=true/\¬co.length=0)->Q (.ref ia) H4:=λhy=>WU k (by rw[Ae hy]) H4 ia af ac ab (hold s4) I4;refine⟨V.ref r,rfl,r,ta,cs,cs.length,z8,rfl,R4,?_⟩;rcases tZ z8.isEmpty with hr0|hr0
  case inr=>
   refine iD (c:=!z8.isEmpty) (by rw[hr0];rfl) ?_;exact DS (step (by rw[hr0];rintro ⟨q,_⟩;cases q))
  case inl=>
   obtain⟨y1,q1,l1⟩:=I4.co_.len;refine WV (c:=!z8.isEmpty) (by rw[hr0];rfl) ⟨V.ref ia,rfl,ia,CI,dx,_,_,rfl,i4,N.T.cl,N.T.nc,IC _ _ _,ac,y1,rfl,.inl q1,rfl,_,rfl,?_⟩;by_cases hc:co.length=0
   ·have hd:decide (V.int ((y1.length:Nat):Int)=V.int 0)=true:=decide_eq_true (by rw[l1,hc];rfl);rw[hd];exact DS (step λq=>q.2 hc)
   ·have hd:decide (V.int ((y1.length:Nat):Int)=V.int 0)=false:=decide_eq_false λq=>hc (by injection q with q;omega);rw[hd];exact BM ⟨V.ref ia,rfl,stop ⟨hr0,hc⟩⟩
theorem nQ:FnScope ["self","course","fret"] ["self","course","fret"] (AH B8):={}
theorem nR (F:Fun K "has_place" "Instrument.has_place" B8 f fd) (B:Blt mg) (T:InC K CI) (M1:Mth P w K mg base 1 CI "string_count" ["self"] (hJ K CI)):FnOk P w K mg base (CX1 P w) 2 f fd ["self","course","fret"] (nO K CI):=by
 refine F.okx nQ λAc A outer s H vs Q E hr h=>?_;obtain⟨ia,af,ac,ab,fr,co,ba,c,f,rfl,I,k⟩:=h;obtain⟨dx,h1⟩:=I.at_;obtain⟨y1,q1,l1⟩:=I.co_.len;obtain⟨y2,q2,l2⟩:=I.fr_.len;refine⟨_,(AB (AZ (AO LV (pv 1) (AW AN (by rfl) B.len cy (AA (AV (pv 0) rfl) AF)) (AQ _))
  (AC (AL (DL LV (pv 2) (AW AN (by rfl) B.len cy (AA (AV (pv 0) rfl) AF)) (AQ _)))) AM)
  (AC (AL (XO (DL LV (pv 1) (M1.call0 (pv 0) hr AD) (AQ _)) (XN (DL C1 (pv 2) AI (AQ _))))))),?_⟩
 and_intros
 refine⟨V.int c,rfl,V.ref ia,rfl,ia,CI,dx,_,_,rfl,h1,T.cl,T.nc,IC _ _ _,ac,y1,rfl,.inl q1,_,_,rfl,rfl,_,rfl,CF (λh0=>?_) (λh0=>?_)⟩
 ·have hc:c<=(co.length:Int):=by
   have:c<=(y1.length:Int):=by simpa using h0
   omega
  rw[Ae hc] at k;refine⟨V.int f,rfl,V.ref ia,rfl,ia,CI,dx,_,_,rfl,h1,T.cl,T.nf,MZ _ _ _,af,y2,rfl,.inl q2,_,_,rfl,rfl,?_⟩;rw[←l2] at k;exact k
 ·have hc:¬c<=(co.length:Int):=by
   have:¬c<=(y1.length:Int):=by simpa using h0
   omega
  rw[Af hc] at k;refine⟨V.int c,rfl,V.ref ia,rfl,ia,dx,_,rfl,h1,S1 _ _ _,ia,af,ac,ab,fr,co,ba,rfl,I,_,_,rfl,rfl,?_⟩;cases hd:decide (c<=((co.length+ba.length:Nat):Int)) with
  |false=>
   rw[hd] at k;exact⟨false,(by rw[←hd]),BM k⟩
  |true=>
   rw[hd] at k;refine⟨true,(by rw[←hd]),BV ⟨V.int f,rfl,rfl,?_⟩⟩;have e0:decide (V.int f=V.int 0)=decide (f=0):=by
    rw[decide_eq_decide];exact⟨λq=>by injection q,λq=>by rw[q]⟩
   rw[e0];exact k
end
end Lt
end
section
namespace L2
open PySem PySem.Spec PyProof.Rows
section
variable {prog:bb} {w:bw} {A:cz} {E:ah->aj->Prop} {s:aj}
theorem S6:uI (.type "list_reverseiterator") "__len__"=pure none:=by rw[xt,u7];kernel_rfl
theorem ZE:uI (.type "list_reverseiterator") "__length_hint__"=pure (some (.builtin "list_reverseiterator.__length_hint__")):=by rw[xt,u7];kernel_rfl
theorem cK {R:wL->aj->Prop} (hh:A.handled=none) (S it l:ag) (items:Array ah) (res:ah) (c₀:Nat) (hn:items.size<=sizeLine) (hne:l≠it) (hSi:S≠it) (hSl:S≠l) (hit:s.heap.IsRevIter it l ((items.size:Int) - 1)) (hl:s.heap.IsList l items)
 (hS:s.heap.get? S=some { cls:=.type "list",data:=.seq #[] c₀ })
 (hR:∀h' tk acc' c',(∀b o,b≠S->b≠it->s.heap.get? b=some o->h'.get? b=some o)->h'.get? S=some { cls:=.type "list",dict:=none,data:=.seq acc' c',slots:=#[] }->
  xA (λi v=>items[items.size - 1 - i]? =some v) acc' items.size->R (.ok (.ret res)) { s with heap:=h',toks:=tk }):
 bf (bi prog w) A.in1 (kg (.ref S) (.ref it) res)
  (λfin s'=>match fin with| .done f=>R (.ok f) s'| .again c'=>c'.quiet=true/\mn (bi prog w) A c' R s') (λe s'=>R (.error e) s') s:=by
 have hSf:S∉[it,l]:=by simp[hSi,hSl]
 unfold kg;refine ae (wpAny_typeOf (T:="list_reverseiterator") hit.typeIs ?_);have h1:ub (.ref S) (.ref it)=false:=by simp[ub,hSi]
 have h2:(jb "list_reverseiterator"==jb "list")=false:=by decide
 have h3:(jb "list_reverseiterator"==jb "tuple")=false:=by decide
 simp only[h1,h2,h3,yF,fq,if_false];refine ae (wpAny_pyIter_revIter hit ?_);refine ae (ik ?_);unfold xB;refine ae (uU hit.typeIs S6 ?_);show bf _ A.in1 (specialOf (cb it) (ll "__length_hint__") >>= _) _ _ _;refine ae (uU hit.typeIs ZE ?_)
 wp_delta
 refine ae (wT (T:="list_reverseiterator") (v:=.ref it) (b:=true) hit.typeIs (by rw[isSubtype_type];kernel_rfl) ?_);show bf _ _ (pure false) _ _ _;refine ao ?_;rw[Af (by decide)];have W:=(Walks.listRev (prog:=prog) (w:=w) (A:=A.in1) hh it l hne items).toS;refine ao ⟨plainId_quiet F.plain_extend_loop _,codeAny_extend_loopS W hn _ hSf _ items.size 0 _ _ _ rfl (dm _) ⟨dm _,?_,hl⟩ hS (ItemsOf.nil _) λs' acc' c' hm hS' hacc=>?_⟩
 ·have e:(items.size:Int) - 1 - ((0:Nat):Int)=(items.size:Int) - 1:=by omega
  rw[e];exact hit
 ·rw[Moved.eq_with hm];refine hR s'.heap s'.toks acc' c' (λb ob hb hb2 e=>hm.heap b ob (λhmem=>?_) e) hS' hacc;simp[hb,hb2] at hmem
theorem ZF {R:wL->aj->Prop} (hh:A.handled=none) (S it l:ag) (items:Array ah) (hn:items.size<=sizeLine) (hne:l≠it) (hSi:S≠it) (hSl:S≠l) (hit:s.heap.IsRevIter it l ((items.size:Int) - 1)) (hl:s.heap.IsList l items)
 (hS:s.heap.get? S=some { cls:=.type "list",data:=.seq #[] })
 (hR:∀h' tk acc' c',(∀b o,b≠S->b≠it->s.heap.get? b=some o->h'.get? b=some o)->h'.get? S=some { cls:=.type "list",dict:=none,data:=.seq acc' c',slots:=#[] }->
  xA (λi v=>items[items.size - 1 - i]? =some v) acc' items.size->R (.ok (.ret .none)) { s with heap:=h',toks:=tk }):
 bf (bi prog w) A.in1 (tQ.«list.__init__» ⟨[.ref S,.ref it],[]⟩)
  (λfin s'=>match fin with| .done f=>R (.ok f) s'| .again c'=>c'.quiet=true/\mn (bi prog w) A c' R s') (λe s'=>R (.error e) s') s:=by
 show bf _ _ (do let old←uO (.ref S);yP (.ref S) (λ_=>#[]);letGo old.toList.reverse;kg (.ref S) (.ref it) .none) _ _ s;refine ae ?_;unfold uO;refine ae (vn hS rfl (ao ?_));show bf _ _ (updateSeq S (λ_=>#[]) >>= λ_=>letGo (#[]:Array ah).toList.reverse >>= λ_=>kg (.ref S) (.ref it) .none) _ _ s;refine ae (wpAny_updateSeq hS rfl ?_);have hS₂:=iw (fb (λ_=>(#[]:Array ah))) hS rfl;have oth:∀b o,b≠S->s.heap.get? b=some o->(s.heap.update S (fb (λ_=>(#[]:Array ah)))).get? b=some o:=
  λb o hb e=>(ke _ _ (cr hb)).trans e
 refine ae (wpAny_letGo ?_);refine cK hh S it l items .none _ hn hne hSi hSl (hit.at λo e=>oth it o (cr hSi) e) (hl.at λo e=>oth l o (cr hSl) e) hS₂ λh' tk acc' c' hk hS' hacc=>?_;exact hR h' tk acc' c' (λb o hb hb2 e=>hk b o hb hb2 (oth b o hb e)) hS' hacc
theorem NR {Q:ah->aj->Prop} (hh:A.handled=none) (it l:ag) (items:Array ah) (hn:items.size<=sizeLine) (hne:l≠it) (hit:s.heap.IsRevIter it l ((items.size:Int) - 1)) (hl:s.heap.IsList l items)
 (hQ:∀h' tk acc' c',(∀b o,b≠it->s.heap.get? b=some o->h'.get? b=some o)->
  h'.get? s.heap.objs.size=some { cls:=.type "list",dict:=none,data:=.seq acc' c',slots:=#[] }->xA (λi v=>items[items.size - 1 - i]? =some v) acc' items.size->Q (.ref s.heap.objs.size) { s with heap:=h',toks:=tk }):
 bf (bi prog w) A (call (.type "list") [.ref it]) Q E s:=by
 refine callType_codes (Q₁:=λobj s₁=>obj= .ref s.heap.objs.size/\s₁={ s with heap:=s.heap.push { cls:=.type "list",data:=.seq #[] } }) F.called_list (F.typeCall_list_1 _) F.entry_list_init
  (code_list_new _ ⟨rfl,rfl⟩) λobj s₁ h₁=>?_
 obtain⟨rfl,rfl⟩:=h₁;have hS:(s.heap.push { cls:=.type "list",data:=.seq #[] }).get? s.heap.objs.size=some { cls:=.type "list",data:=.seq #[] }:=bn _ rfl;obtain⟨o1,e1,_⟩:=id hit;obtain⟨o2,e2,_⟩:=id hl;refine⟨⟨_,hS,rfl⟩,F.args_list_init_2 _ _,ZF (A:=A.in1) hh s.heap.objs.size it l items hn hne (ph (bh e1)) (ph (bh e2)) (hit.at λo e=>ak _ e) (hl.at λo e=>ak _ e) hS λh' tk acc' c' hk hS' hacc=>?_⟩;exact⟨rfl,hQ h' tk acc' c' (λb o hb e=>hk b o (cg (bh e)) hb (ak _ e)) hS' hacc⟩
end
theorem M0 {xs:List V} {acc:Array ah} {P:Nat->ah->Prop} (h:xA P acc xs.length) (hp:∀i v,P i v->∀x,xs[i]? =some x->RelV x v):Vals xs acc.toList:=by
 have:∀(xs:List V) (us:List ah),xs.length=us.length->(∀(i:Nat) x v,xs[i]? =some x->us[i]? =some v->RelV x v)->Vals xs us:=by
  intro xs;induction xs with
  |nil=>intro us hl _;cases us with
   |nil=>exact .nil
   |cons _ _=>simp at hl
  |cons x xs ih=>intro us hl hr;cases us with
   |nil=>simp at hl
   |cons u us=>exact .cons (hr 0 x u rfl rfl) (ih us (by simpa using hl) λi y v h1 h2=>hr (i+1) y v (by simpa using h1) (by simpa using h2))
 refine this xs acc.toList (by have:=h.1;simp[this]) λi x v h1 h2=>hp i v (h.2 i v (by simpa using h2)) x h1
section
variable {X:Cx}
def rgV (i c:Int) (n:Nat):List V:=(jm n).map λm=>V.int (i+(m:Nat)*c)
def tLR (ta:TA):TE:=λσ H Q=>ta σ H λvs H1=>Ex4 λ(i j c:Int) (n:Nat)=>(vs=[.int i,.int j,.int c]\/c=1/\vs=[.int i,.int j])/\RgC i j c n/\n<=2 ^ 24/\∀l,H1 l=none->Q (.ref l) (upd H1 l (.lst (rgV i c n)))
theorem ZG {z7:List (ag×Obj)} {σ:St} {H1:Hp} {s1:aj} {Q:VK} {i j c:Int} {n tk:Nat} {t u v:Tok} (hcalm:X.calm=true) (I1:Inv X z7 σ H1 s1) (hc:RgC i j c n) (hn:n<=2 ^ 24) (q:∀l,H1 l=none->Q (.ref l) (upd H1 l (.lst (rgV i c n)))):
 bf (bi X.prog X.w) X.A (call (.type "list") [.ref s1.heap.objs.size]) (EP X z7 σ Q) X.xe { s1 with heap:=s1.heap.push { cls:=.type "range",data:=.fields #[.int i t,.int j u,.int c v] },toks:=tk }:=by
 refine call_list_range (n:=n) (I1.ok.hd hcalm) (zf ..) hc.2.2.1 hc.2.2.2 hn λh' tk' acc' c' kp hS hacc=>?_;have kp':∀b o,s1.heap.get? b=some o->h'.get? b=some o:=λb o e=>kp b o (ak _ e);refine⟨.ref _,upd H1 _ (.lst (rgV i c n)),I1.laid (t':=tk') kp' ?_ ⟨?_,acc'.toList,c',M0 (P:=λi' v'=>∃t,v'= .int (i+i'*c) t) ?_ ?_,by simpa using hS⟩,rfl,q _ (I1.hok.fresh ?_)⟩
 ·show s1.heap.objs.size<=(s1.heap.push _).objs.size;simp[yQ]
 ·have:sizeLine=16777216:=bz;rw[rgV,ai,lq,this];omega
 ·rw[rgV,ai,lq];exact hacc
 ·rintro i' v' ⟨t,rfl⟩ x hx;rw[rgV,az] at hx;by_cases hi:i'<n
  ·rw[vM hi] at hx;cases hx;exact⟨t,rfl⟩
  ·rw[u5 (by simpa using hi)] at hx;cases hx
 ·show s1.heap.objs.size<=(s1.heap.push _).objs.size;simp[yQ]
theorem JH {a b:Expr} {es:List Expr} {ta:TA} {p p2 pos pos2:Pos} (hcalm:X.calm=true) (hm:X.mg "list"=none) (hm2:X.mg "range"=none) (ha:PA X (a::b::es) ta) (hg:Gl X "list":=by rfl) (hg2:Gl X "range":=by rfl)
 (hs:be [.Call (.Name "range" p2) (a::b::es) [] pos2] X.env=(false,eval (.Call (.Name "range" p2) (a::b::es) [] pos2) X.env)::be [] X.env:=by rfl)
 (hs2:be (a::b::es) X.env=(false,eval a X.env)::be (b::es) X.env:=by rfl) (hpl:(ig pos2 (be (b::es) X.env)).any (·.1)=false:=by rfl):
 PE X (.Call (.Name "list" p) [.Call (.Name "range" p2) (a::b::es) [] pos2] [] pos) (tLR ta):=by
 intro z7 s σ H Q I h;refine gy (ET I hg hm Lt.Q6 ?_);refine dk ?_ hs rfl;rw[hs];show bf _ _ (yR ((false,_)::ig pos (be [] X.env))) _ _ s;refine sZ ?_;refine Call_ (ET I hg2 hm2 boot_range (dk (thn (ha pos2 z7 s σ H _ I h) λus s1 ⟨vs,H1,I1,r1,q1⟩=>?_) hs2 hpl));obtain⟨i,j,c,n,e,hc,hn,q⟩:=q1;rcases e with e|⟨e1,e⟩
 ·subst e;cases r1 with
  |cons r rr=>
   cases rr with
   |cons r' rr=>
    cases rr with
    |cons r'' rr=>
     cases rr;obtain⟨t,rfl⟩:=r;obtain⟨t',rfl⟩:=r';obtain⟨t'',rfl⟩:=r'';refine call_range_3 hc.1 ?_ (.inl (uF hc.2.1));exact rj (ZG hcalm I1 hc hn q)
 ·subst e e1;cases r1 with
  |cons r rr=>
   cases rr with
   |cons r' rr=>
    cases rr;obtain⟨t,rfl⟩:=r;obtain⟨t',rfl⟩:=r';refine call_range_2 ?_;exact rj (ZG hcalm I1 hc hn q)
def nS (K:aa) (ta:TA):TE:=λσ H Q=>ta σ H λvs H1=>Ex2 λ(a:ag) (xs:List V)=>vs=[.ref a]/\SqL K H1 a xs/\∀l,H1 l=none->Q (.ref l) (upd H1 l (.lst xs.reverse))
theorem S7 {e:Expr} {ta:TA} {p p2 pos pos2:Pos} (hcalm:X.calm=true) (hm:X.mg "list"=none) (hm2:X.mg "reversed"=none) (ha:PA X [e] ta) (hg:Gl X "list":=by rfl) (hg2:Gl X "reversed":=by rfl)
 (hs:be [.Call (.Name "reversed" p2) [e] [] pos2] X.env=(false,eval (.Call (.Name "reversed" p2) [e] [] pos2) X.env)::be [] X.env:=by rfl)
 (hs2:be [e] X.env=[(false,eval e X.env)]:=by rfl):
 PE X (.Call (.Name "list" p) [.Call (.Name "reversed" p2) [e] [] pos2] [] pos) (nS X.K ta):=by
 intro z7 s σ H Q I h;refine gy (ET I hg hm Lt.Q6 ?_);refine dk ?_ hs rfl;rw[hs];show bf _ _ (yR ((false,_)::ig pos (be [] X.env))) _ _ s;refine sZ ?_;refine Call_ (ET I hg2 hm2 MA (dk (thn (ha pos2 z7 s σ H _ I h) λus s1 ⟨vs,H1,I1,r1,q1⟩=>?_) hs2 rfl));obtain⟨a,xs,e,hq,q⟩:=q1;subst e;cases r1 with
 |cons r rr=>
  cases rr;cases r;obtain⟨Aa,rv,p',hz⟩:=I1.list hq;have hl:=rv.length;refine call_reversed_list p'.isList ?_;refine rj ?_;obtain⟨ol,eol,cl,dl⟩:=id p'.isList;have Ad:=bh eol;refine NR (I1.ok.hd hcalm) s1.heap.objs.size a Aa.toArray (by rw[bv, ←hl];exact hz) (cg Ad) ⟨_,bn _ rfl,rfl,rfl⟩ ⟨ol,ak _ eol,cl,dl⟩ λh' tk acc' c' kp hS hacc=>?_;have kp':∀b o,s1.heap.get? b=some o->h'.get? b=some o:=λb o e=>kp b o (cg (bh e)) (ak _ e);have hle:s1.heap.objs.size<=(s1.heap.push (revObj a ((Aa.toArray.size:Int) - 1))).objs.size:=by simp[yQ]
  refine⟨.ref _,upd H1 _ (.lst xs.reverse),I1.laid (t':=tk) kp' hle ⟨by rw[sM];exact hz,acc'.toList,c',M0 (P:=λi v=>Aa.toArray[Aa.toArray.size - 1 - i]? =some v) ?_ ?_,by simpa using hS⟩,rfl,q _ (I1.hok.fresh hle)⟩
  ·rw[sM,hl, ←bv];exact hacc
  ·intro i v hv x hx;have hi:i<xs.length:=by
    have:=(au.mp hx).1;simpa using this
   rw[List.getElem?_reverse hi] at hx;obtain⟨u,hu,ru⟩:=rv.get hx;rw[bv, ←hl] at hv;have:Aa[xs.length - 1 - i]? =some v:=by simpa using hv
   rw[this] at hu;cases hu;exact ru
end
end L2
end
section
namespace Lt
variable {f a C CR CT r ta CI CL CN:ag} {fd:dw} {X:Cx} {x:List Int} {i n e p q:Nat} {pos:Pos} {z dz fz:Str} {xs:List V} {H H' H1:Hp} {E:XK} {cs t ci ct:List UInt8} {α β:Type} {Q:VK} {ls:List (List Int)} {P:bb} {w:bw} {h:cq} {ps:List Str} {hg:List Int->Nat}
abbrev Iv:=Lute.Iv
theorem HJ (x y:Iv):x.plus y=y.plus x:=by
 unfold Lute.Iv.plus;simp only;congr 2
 ·exact uP _ _
 ·exact uP _ _
 ·exact uP _ _
 ·exact uP _ _
 ·exact df _ _
theorem EB {a:Int} {g:Nat} (hg:0<g) (h:(g:Int)∣a):(a / (g:Int)).toNat*g=a.toNat:=by
 obtain⟨q,rfl⟩:=h;rw[qi q (by omega)];by_cases hq:0<=q
 ·have e:(g:Int)*q=((q.toNat*g:Nat):Int):=by rw[sF,sK hq,Int.mul_comm]
  rw[e,jv]
 ·have h1:q.toNat=0:=by omega
  have h2:(g:Int)*q<=0:=Int.mul_nonpos_of_nonneg_of_nonpos (by omega) (by omega);rw[h1,yY];omega
theorem IP (x:Iv):((x.common:Nat):Int)∣x.a/\((x.common:Nat):Int)∣x.b/\((x.common:Nat):Int)∣x.c/\((x.common:Nat):Int)∣x.e:=by
 unfold Lute.Iv.common;have h0:=rK x.d (nw x.a.natAbs (nw x.b.natAbs (nw x.c.natAbs x.e.natAbs)));have h1:=oj h0 (rT _ _);have h0':=oj h0 (rK _ _);have h2:=oj h0' (rT _ _);have h0'':=oj h0' (rK _ _);have h3:=oj h0'' (rT _ _);have h4:=oj h0'' (rK _ _);exact⟨qw.mpr h1,qw.mpr h2,qw.mpr h3,qw.mpr h4⟩
theorem OG (x:Iv) (hg:0<x.common):x.low.above ^ x.common=x.above:=by
 obtain⟨h1,h2,h3,h4⟩:=IP x;unfold Lute.Iv.above Lute.Iv.low;simp only[tU, ←rb,EB hg h1,EB hg h2,EB hg h3,EB hg h4]
theorem HB (x:Iv):x.back.common=x.common:=by
 unfold Lute.Iv.common Lute.Iv.back;simp only[Int.natAbs_neg]
theorem ZH (x:Iv):x.low.back=x.back.low:=by
 obtain⟨h1,h2,h3,h4⟩:=IP x;unfold Lute.Iv.low;simp only[HB];unfold Lute.Iv.back;simp only[qd h1,qd h2,qd h3,qd h4]
theorem RB (x:Iv) (hg:0<x.common):x.low.down=x.down:=by
 unfold Lute.Iv.down Lute.Iv.below;rw[ZH,decide_eq_decide, ←OG x hg, ←OG x.back (by rw[HB];exact hg),HB];exact(uw (by omega)).symm
theorem VD (z:Iv) (hz:0<z.d):0<z.common:=ux _ hz
theorem OH (x:Iv):0<x.above:=by
 unfold Lute.Iv.above;exact lw (lw (lw (js (by decide)) (js (by decide))) (js (by decide))) (js (by decide))
theorem WW (x:Iv):0<x.below:=OH _
theorem NS (z:Int) (n:Nat):(z*n).toNat=z.toNat*n:=by
 by_cases h:0<=z
 ·obtain⟨k,rfl⟩:=Int.eq_ofNat_of_zero_le h;rw[←sF,jv,jv]
 ·have h1:z.toNat=0:=by omega
  have h2:z*(n:Int)<=0:=Int.mul_nonpos_of_nonpos_of_nonneg (by omega) (by omega);rw[h1,yY];omega
theorem HK (p:Nat) (u v:Int):∃m:Nat,p ^ (u.toNat+(-v).toNat)=p ^ (u - v).toNat*p ^ m/\p ^ (v.toNat+(-u).toNat)=p ^ (v - u).toNat*p ^ m:=by
 refine⟨min (u.toNat+(-v).toNat) (v.toNat+(-u).toNat),?_,?_⟩
 ·rw[←ma];congr 1;omega
 ·rw[←ma];congr 1;omega
theorem J8 (x:Iv) (n:Nat):x.above ^ n=2 ^ (x.a*n).toNat*3 ^ (x.b*n).toNat*5 ^ (x.c*n).toNat*7 ^ (x.e*n).toNat:=by
 unfold Lute.Iv.above;simp only[tU, ←rb,NS]
theorem OI (x:Iv) (n:Nat):x.below ^ n=2 ^ (-(x.a*n)).toNat*3 ^ (-(x.b*n)).toNat*5 ^ (-(x.c*n)).toNat*7 ^ (-(x.e*n)).toNat:=by
 unfold Lute.Iv.below;rw[J8];unfold Lute.Iv.back;simp only[vv]
theorem cM (a b c d e f g h:Nat):(a*b*c*d)*(e*f*g*h)=(a*e)*(b*f)*(c*g)*(d*h):=by
 simp only[kh,jw,df]
def raw (x y:Iv):Iv:=⟨x.a*y.d - y.a*x.d,x.b*y.d - y.b*x.d,x.c*y.d - y.c*x.d,x.e*y.d - y.e*x.d,x.d*y.d⟩
theorem ZI (x y:Iv):x.less y=(raw x y).low:=by
 have n:∀u v p q:Int,u*q+ -v*p=u*q - v*p:=λu v p q=>by rw[vv];omega
 unfold Lute.Iv.less Lute.Iv.plus raw Lute.Iv.back;simp only[n]
theorem eK (x y:Iv):∃M:Nat,0<M/\x.above ^ y.d*y.below ^ x.d=(raw x y).above*M/\y.above ^ x.d*x.below ^ y.d=(raw x y).below*M:=by
 obtain⟨m2,e2,f2⟩:=HK 2 (x.a*y.d) (y.a*x.d);obtain⟨m3,e3,f3⟩:=HK 3 (x.b*y.d) (y.b*x.d);obtain⟨m5,e5,f5⟩:=HK 5 (x.c*y.d) (y.c*x.d);obtain⟨m7,e7,f7⟩:=HK 7 (x.e*y.d) (y.e*x.d);refine⟨2 ^ m2*3 ^ m3*5 ^ m5*7 ^ m7,?_,?_,?_⟩
 ·exact lw (lw (lw (js (by decide)) (js (by decide))) (js (by decide))) (js (by decide))
 ·rw[J8,OI,cM, ←ma, ←ma, ←ma, ←ma,e2,e3,e5,e7, ←cM];rfl
 ·rw[J8,OI,cM, ←ma, ←ma, ←ma, ←ma,f2,f3,f5,f7, ←cM];unfold Lute.Iv.below raw Lute.Iv.back Lute.Iv.above;simp only[Int.neg_sub]
theorem J9 {x y:Iv} (hx:0<x.d) (hy:0<y.d):x.lt y=true↔x.above ^ y.d*y.below ^ x.d<y.above ^ x.d*x.below ^ y.d:=by
 unfold Lute.Iv.lt;rw[ZI,RB _ (VD _ (lw hx hy))];obtain⟨M,hM,e1,e2⟩:=eK x y;rw[e1,e2];unfold Lute.Iv.down;rw[decide_eq_true_iff];exact(vx hM).symm
theorem lt_irrefl {x:Iv} (hx:0<x.d):x.lt x=false:=by
 cases h:x.lt x with
 |false=>rfl
 |true=>exact absurd ((J9 hx hx).mp h) (iy _)
theorem lt_trans {x y z:Iv} (hx:0<x.d) (hy:0<y.d) (hz:0<z.d) (h1:x.lt y=true) (h2:y.lt z=true):x.lt z=true:=by
 have q1:=vN ((J9 hx hy).mp h1) (show z.d≠0 by omega);have q2:=vN ((J9 hy hz).mp h2) (show x.d≠0 by omega);rw[J9 hx hz];have q:=Nat.mul_lt_mul_of_lt_of_le q1 (rg q2) (Nat.pos_of_ne_zero (by
  intro h;rw[h] at q2;exact absurd q2 (Nat.not_lt_zero _)))
 simp only[tU, ←rb] at q;have hp:0<y.above ^ (x.d*z.d)*y.below ^ (x.d*z.d):=lw (js (OH _)) (js (WW _));have e1:x.above ^ (y.d*z.d)*y.below ^ (x.d*z.d)*(y.above ^ (z.d*x.d)*z.below ^ (y.d*x.d))=(x.above ^ z.d*z.below ^ x.d) ^ y.d*(y.above ^ (x.d*z.d)*y.below ^ (x.d*z.d)):=by
  rw[tU, ←rb, ←rb,df z.d x.d,df z.d y.d,df y.d x.d];simp only[kh,jw,df]
 have e2:y.above ^ (x.d*z.d)*x.below ^ (y.d*z.d)*(z.above ^ (y.d*x.d)*y.below ^ (z.d*x.d))=(z.above ^ x.d*x.below ^ z.d) ^ y.d*(y.above ^ (x.d*z.d)*y.below ^ (x.d*z.d)):=by
  rw[tU, ←rb, ←rb,df z.d x.d,df z.d y.d,df y.d x.d];simp only[kh,jw,df]
 rw[e1,e2,vx hp] at q;exact(uw (by omega)).mp q
theorem M3 {A B:Nat} (hp:1<p) (hc:rc (p ^ n) B) (e:p ^ n*A=B):n=0:=by
 have h2:p ^ n∣nw (p ^ n) B:=Nat.dvd_gcd (wv _) ⟨A,e.symm⟩;rw[hc] at h2;have h2:p ^ n=1:=Nat.dvd_one.mp h2;cases n with
 |zero=>rfl
 |succ n=>
  have:1<p ^ (n+1):=Nat.one_lt_pow (by omega) hp;omega
theorem FG {A B:Nat} (hp:1<p) {u:Int} (hA:∀n,rc (p ^ n) A) (hB:∀n,rc (p ^ n) B) (e:p ^ u.toNat*A=p ^ (-u).toNat*B):u=0:=by
 by_cases h:0<=u
 ·have h0:(-u).toNat=0:=by omega
  rw[h0,uQ,zp] at e;have:=M3 hp (hB _) e;omega
 ·have h0:u.toNat=0:=by omega
  rw[h0,uQ,zp] at e;have:=M3 hp (hA _) e.symm;omega
theorem RD {r s:Nat} (h1:rc p q) (h2:rc p r) (h3:rc p s) (i j k n:Nat):rc (p ^ n) (q ^ i*r ^ j*s ^ k):=
 u9 (u9 (uX _ _ h1) (uX _ _ h2)) (uX _ _ h3)
theorem WX {z:Iv} (e:z.above=z.below):z.a=0/\z.b=0/\z.c=0/\z.e=0:=by
 unfold Lute.Iv.below Lute.Iv.back Lute.Iv.above at e;simp only at e;refine⟨?_,?_,?_,?_⟩
 ·refine FG (p:=2) (by decide) (RD (p:=2) (q:=3) (r:=5) (s:=7) (by decide) (by decide) (by decide) z.b.toNat z.c.toNat z.e.toNat) (RD (p:=2) (q:=3) (r:=5) (s:=7) (by decide) (by decide) (by decide) (-z.b).toNat (-z.c).toNat (-z.e).toNat) ?_;simpa only[kh,jw,df] using e
 ·refine FG (p:=3) (by decide) (RD (p:=3) (q:=2) (r:=5) (s:=7) (by decide) (by decide) (by decide) z.a.toNat z.c.toNat z.e.toNat) (RD (p:=3) (q:=2) (r:=5) (s:=7) (by decide) (by decide) (by decide) (-z.a).toNat (-z.c).toNat (-z.e).toNat) ?_;simpa only[kh,jw,df] using e
 ·refine FG (p:=5) (by decide) (RD (p:=5) (q:=2) (r:=3) (s:=7) (by decide) (by decide) (by decide) z.a.toNat z.b.toNat z.e.toNat) (RD (p:=5) (q:=2) (r:=3) (s:=7) (by decide) (by decide) (by decide) (-z.a).toNat (-z.b).toNat (-z.e).toNat) ?_;simpa only[kh,jw,df] using e
 ·refine FG (p:=7) (by decide) (RD (p:=7) (q:=2) (r:=3) (s:=5) (by decide) (by decide) (by decide) z.a.toNat z.b.toNat z.c.toNat) (RD (p:=7) (q:=2) (r:=3) (s:=5) (by decide) (by decide) (by decide) (-z.a).toNat (-z.b).toNat (-z.c).toNat) ?_;simpa only[kh,jw,df] using e
def Lw (x:Iv):Prop:=0<x.d/\x.common=1
theorem ZJ {x y:Iv} (hx:x.common=1) (ea:x.a*y.d=y.a*x.d) (eb:x.b*y.d=y.b*x.d) (ec:x.c*y.d=y.c*x.d) (ee:x.e*y.d=y.e*x.d):y.d∣x.d*y.common:=by
 have n:∀{u v:Int} {m k:Nat},u*m=v*k->m*u.natAbs=k*v.natAbs:=λ{u v m k} h=>by
  have:=congrArg Int.natAbs h;rw[tF,tF,qx,qx] at this;rw[df,this,df]
 have e:y.d*x.common=x.d*y.common:=by
  unfold Lute.Iv.common;rw[←gj, ←gj, ←gj, ←gj, ←gj, ←gj, ←gj, ←gj,n ea,n eb,n ec,n ee,df y.d x.d]
 rw[←e,hx,tT];exact wv _
theorem WY {x y:Iv} (hx:Lw x) (hy:Lw y) (h:(raw x y).a=0/\(raw x y).b=0/\(raw x y).c=0/\(raw x y).e=0):x=y:=by
 obtain⟨h1,h2,h3,h4⟩:=h;unfold raw at h1 h2 h3 h4;simp only at h1 h2 h3 h4;have d1:=ZJ (x:=x) (y:=y) hx.2 (by omega) (by omega) (by omega) (by omega);have d2:=ZJ (x:=y) (y:=x) hy.2 (by omega) (by omega) (by omega) (by omega);rw[hy.2,tT] at d1;rw[hx.2,tT] at d2;have ed:x.d=y.d:=Nat.dvd_antisymm d2 d1;have hd:(y.d:Int)≠0:=by have:=hy.1;omega
 rw[ed] at h1 h2 h3 h4;have c:∀{u v:Int},u*y.d - v*y.d=0->u=v:=λ{u v} h=>Int.eq_of_mul_eq_mul_right hd (by omega);obtain⟨a,b,c',e,d⟩:=x;obtain⟨a',b',c'',e',d'⟩:=y;simp only at ed h1 h2 h3 h4;rw[ed,c h1,c h2,c h3,c h4]
theorem RF {x y:Iv} (hx:Lw x) (hy:Lw y) (h1:x.lt y=false) (h2:y.lt x=false):x=y:=by
 refine WY hx hy (WX ?_);obtain⟨M,hM,e1,e2⟩:=eK x y;have n1:¬_:=λq=>ei (h1.symm.trans ((J9 hx.1 hy.1).mpr q));have n2:¬_:=λq=>ei (h2.symm.trans ((J9 hy.1 hx.1).mpr q));rw[df (x.above ^ y.d),df (y.above ^ x.d)] at n1;have e:x.above ^ y.d*y.below ^ x.d=y.above ^ x.d*x.below ^ y.d:=by
  rw[df (x.above ^ y.d),df (y.above ^ x.d)];rw[df (y.above ^ x.d),df (x.above ^ y.d)] at n2;omega
 rw[e1,e2] at e;exact Nat.eq_of_mul_eq_mul_right hM e
theorem ZK {x y:Iv} (hx:0<x.d) (hy:0<y.d) (h:x.lt y=true):y.lt x=false:=by
 cases q:y.lt x with
 |false=>rfl
 |true=>exact absurd (lt_trans hx hy hx h q) (by rw[lt_irrefl hx];decide)
theorem RG {x:Iv} (h:x.ok=true):Lw x:=by
 unfold Lute.Iv.ok at h;simp at h;exact⟨h.2.2.2.2.1,h.2.2.2.2.2.2⟩
theorem iF {x:Iv} (h:0<x.d):Lw x.low:=by
 have hg:=VD x h;have hd:x.common∣x.d:=rT _ _;refine⟨Nat.div_pos (Nat.le_of_dvd h hd) hg,?_⟩;have n:∀{a:Int},((x.common:Nat):Int)∣a->x.common*(a / ((x.common:Nat):Int)).natAbs=a.natAbs:=λ{a} ⟨q,e⟩=>by
  rw[e,qi q (by omega),tF,qx]
 obtain⟨h1,h2,h3,h4⟩:=IP x;have e:x.common*x.low.common=x.common:=by
  show x.common*Lute.Iv.common _=Lute.Iv.common x
  conv=>lhs;arg 2;unfold Lute.Iv.common
  unfold Lute.Iv.low;simp only;rw[←gj, ←gj, ←gj, ←gj,n h1,n h2,n h3,n h4,Nat.mul_div_cancel' hd];rfl
 exact Nat.eq_of_mul_eq_mul_left hg (by rw[e,tT])
theorem cO {x y:Iv} (hx:0<x.d) (hy:0<y.d):Lw (x.plus y):=iF (lw hx hy)
theorem iG {x:Iv} (h:x.common=1):x.low=x:=by
 unfold Lute.Iv.low;simp only[h];simp
theorem VE {x:Iv} (h:Lw x):x.plus Lute.unison=x:=by
 unfold Lute.Iv.plus Lute.unison;simp only;have e:(⟨x.a*((1:Nat):Int)+0*(x.d:Int),x.b*((1:Nat):Int)+0*(x.d:Int),x.c*((1:Nat):Int)+0*(x.d:Int),x.e*((1:Nat):Int)+0*(x.d:Int),x.d*1⟩:Iv)=x:=by
  simp
 rw[e];exact iG h.2
abbrev Stop:=LuteTab.Stop
abbrev Ln:=Nat×List Stop
abbrev Sk:=LuteSound.Struck
def EA:Nat->Nat->List Ln->List Sk
 |_,_,[]=>[]
 |i,x,(n,l)::r=>l.map (λ(s:Stop)=>(⟨i,x,x+n,s⟩:Sk))++EA (i+1) (x+n) r
def DG:LuteTab.Line->Ln
 | .bar=>(0,[])
 | .moment n l=>(n,l)
theorem HL:∀(p:LuteTab.Piece) (i x:Nat),EA i x (p.map DG)=LuteSound.struckFrom i x p
 |[],_,_=>rfl
 | .bar::r,i,x=>by rw[LuteSound.struckFrom, ←HL r];rfl
 | .moment n l::r,i,x=>by rw[LuteSound.struckFrom, ←HL r];rfl
def uL (ps:List Ln) (i:Nat):Nat:=((ps.take i).map (·.1)).sum
theorem HM (ps:List Ln):uL ps 0=0:=by unfold uL;simp
theorem HN (q:Ln) (ps:List Ln) (i:Nat):uL (q::ps) (i+1)=q.1+uL ps i:=by
 unfold uL;simp
theorem iH (i:Nat):uL [] i=0:=by unfold uL;simp
theorem VF {ps:List Ln} {q:Ln} (h:ps[i]? =some q):uL ps (i+1)=uL ps i+q.1:=by
 unfold uL;rw[eq,h];simp
theorem eL (ps:List Ln) {j:Nat} (h:i<=j):uL ps i<=uL ps j:=by
 obtain⟨k,rfl⟩:∃k,j=i+k:=⟨j - i,by omega⟩
 clear h;induction k with
 |zero=>exact aw _
 |succ k ih=>
  refine cw ih ?_;show uL ps (i+k)<=uL ps (i+k+1);unfold uL;rw[eq,ff,List.sum_append];omega
theorem mem_mStr:∀{ps:List Ln} {i x:Nat} {s:Sk},s∈EA i x ps↔∃(j:Nat) (q:Ln),s.line=i+j/\ps[j]? =some q/\s.halt_∈q.2/\s.begins=x+uL ps j/\s.ends=x+uL ps (j+1)
 |[],i,x,s=>by simp[EA]
 |(n,l)::r,i,x,s=>by
  rw[EA,cn,kf,mem_mStr];constructor
  ·rintro (⟨h,hh,rfl⟩|⟨j,q,h1,h2,h3,h4,h5⟩)
   ·exact⟨0,(n,l),rfl,rfl,hh,by rw[HM];rfl,by rw[HN,HM];rfl⟩
   ·exact⟨j+1,q,by omega,by simpa using h2,h3,by rw[HN];show _=x+(n+_);omega,by rw[HN];show _=x+(n+_);omega⟩
  ·rintro ⟨j,q,h1,h2,h3,h4,h5⟩;cases j with
   |zero=>
    left;simp at h2;subst h2;rw[HM] at h4;rw[HN,HM] at h5;refine⟨s.halt_,h3,?_⟩;obtain⟨a,b,c,d⟩:=s;simp only at h1 h4 h5 ⊢;simp at h1 h4 h5;subst h1 h4 h5;rfl
   |succ j=>
    right;rw[HN] at h4 h5;have h4:s.begins=x+(n+uL r j):=h4;have h5:s.ends=x+(n+uL r (j+1)):=h5;exact⟨j,q,by omega,by simpa using h2,h3,by omega,by omega⟩
def ZL (l:List Stop):Prop:=l.Pairwise λa b=>a.course<b.course
structure PcK (ps:List Ln):Prop where
 rise:∀q∈ps,ZL q.2
 bar:∀q∈ps,q.1=0->q.2=[]
 one:∀q∈ps,∀s∈q.2,1<=s.course
theorem PcK.tail {q:Ln} {ps:List Ln} (h:PcK (q::ps)):PcK ps:=⟨λa ha=>h.rise a (aq _ ha),λa ha=>h.bar a (aq _ ha),λa ha=>h.one a (aq _ ha)⟩
theorem PcK.drop {ps:List Ln} (h:PcK ps) (n:Nat):PcK (ps.drop n):=⟨λa ha=>h.rise a (je ha),λa ha=>h.bar a (je ha),λa ha=>h.one a (je ha)⟩
theorem ZM {l:List Stop} (h:ZL l) {a b:Stop} (ha:a∈l) (hb:b∈l) (e:a.course=b.course):a=b:=by
 induction l with
 |nil=>simp at ha
 |cons c l ih=>
  obtain⟨h1,h2⟩:=gg.mp h;rcases bg.mp ha with e1|ha
  ·rcases bg.mp hb with e2|hb
   ·rw[e1,e2]
   ·have:=h1 b hb;rw[e1] at e;omega
  ·rcases bg.mp hb with e2|hb
   ·have:=h1 a ha;rw[e2] at e;omega
   ·exact ih h2 ha hb
structure SkAt (ps:List Ln) (s:Sk):Prop where
 lt:s.line<ps.length
 q:∃q,ps[s.line]? =some q/\s.halt_∈q.2
 beg:s.begins=uL ps s.line
 end_:s.ends=uL ps (s.line+1)
theorem iI {ps:List Ln} {s:Sk} (h:s∈EA 0 0 ps):SkAt ps s:=by
 obtain⟨j,q,h1,h2,h3,h4,h5⟩:=mem_mStr.mp h;rw[sO] at h1 h4 h5;subst h1;exact⟨(au.mp h2).1,⟨q,h2,h3⟩,h4,h5⟩
theorem iJ {ps:List Ln} (k:PcK ps) {s:Sk} (h:SkAt ps s):s.begins<s.ends:=by
 obtain⟨q,h1,h2⟩:=h.q;rw[h.beg,h.end_,VF h1];have:q.1≠0:=λe=>by
  have:=k.bar q (bo h1) e;rw[this] at h2;simp at h2
 omega
theorem M4 {ps:List Ln} (k:PcK ps) {a b:Sk} (ha:SkAt ps a) (hb:SkAt ps b):a.begins<b.begins↔a.line<b.line:=by
 constructor
 ·intro h;apply uz;intro q;have:=eL ps q;rw[←ha.beg, ←hb.beg] at this;omega
 ·intro h;have h1:=iJ k ha;have:=eL ps (show a.line+1<=b.line from h);rw[←ha.end_, ←hb.beg] at this;omega
theorem iK {ps:List Ln} (k:PcK ps) {a b:Sk} (ha:SkAt ps a) (hb:SkAt ps b) (e1:a.begins=b.begins) (e2:a.halt_.course=b.halt_.course):a=b:=by
 have h1:¬a.line<b.line:=λq=>by have:=(M4 k ha hb).mpr q;omega
 have h2:¬b.line<a.line:=λq=>by have:=(M4 k hb ha).mpr q;omega
 have el:a.line=b.line:=by omega
 obtain⟨q,q1,q2⟩:=ha.q;obtain⟨r,r1,r2⟩:=hb.q;rw[←el,q1] at r1;cases r1;have eh:=ZM (k.rise q (bo q1)) q2 r2 e2;have ee:a.ends=b.ends:=by rw[ha.end_,hb.end_,el]
 obtain⟨_,_,_,_⟩:=a;obtain⟨_,_,_,_⟩:=b;simp only at el e1 ee eh;subst el e1 ee eh;rfl
open PySem PySem.Spec PyProof.Rows L2
def sL (s:Stop):List Int:=[(s.course:Int),(s.fret:Int)]
def CU (l:List Stop) (s:Stop):Bool:=match l.getLast? with
 |none=>true
 |some x=>decide (x.course<s.course)
def VG (K:aa) (CT:ag):Sp:=λvs H Q E=>Ex5 λ(sa pa:ag) (l:List Stop) (s:Stop) (st:Int)=>vs=[.ref sa,.ref pa,.int st]/\LT K H sa (l.map sL)/\SqT K H pa ((sL s).map V.int)/\l.length<=1000000/\
 if CU l s=true then∀H',LT K H' sa ((l++[s]).map sL)->Sb sa H H'->Q .non H' else E (.ref CT) none (xH [("place",.int st)])
def S8 (K:aa) (CR CT r ta:ag) (cs:List UInt8) (e:Nat) (H:Hp) (Q:VK) (E:XK):Option (List Stop×List UInt8)->Prop
 |some (l,z9)=>∀H' a,Rd K CR H' r ta cs e z9->Sb r H H'->H a=none->LT K H' a (l.map sL)->Q (.ref a) H'
 |none=>∀z:Int,E (.ref CT) none (xH [("place",.int z)])
theorem KA {K:aa} {res:Option (List Stop×List UInt8)} (h:res=none) (k:∀z:Int,E (.ref CT) none (xH [("place",.int z)])):S8 K CR CT r ta cs e H Q E res:=by
 rw[h];exact k
theorem KC {K:aa} {res:Option (List Stop×List UInt8)} {l:List Stop} (h:res=some (l,t)) (k:∀H' a,Rd K CR H' r ta cs e t->Sb r H H'->H a=none->LT K H' a (l.map sL)->Q (.ref a) H'):S8 K CR CT r ta cs e H Q E res:=by
 rw[h];exact k
theorem iL {K:aa} {res:Option (List Stop×List UInt8)} (k:S8 K CR CT r ta cs e H Q E res) (h:res=none):∀z:Int,E (.ref CT) none (xH [("place",.int z)]):=by
 rw[h] at k;exact k
theorem iM {K:aa} {res:Option (List Stop×List UInt8)} {l:List Stop} (k:S8 K CR CT r ta cs e H Q E res) (h:res=some (l,t)):∀H' a,Rd K CR H' r ta cs e t->Sb r H H'->H a=none->LT K H' a (l.map sL)->Q (.ref a) H':=by
 rw[h] at k;exact k
def B3 (z:Str):List Nat->List UInt8->Option (List Stop×List UInt8)
 |[],l=>some ([],l)
 |c::cs,l=>match pk (z++".") l with
  |none=>none
  |some (f,t)=>match B3 z cs t with
   |none=>none
   |some (s,u)=>some ((if f<z.length then⟨c,f⟩::s else s),u)
def pre (acc:List Stop):Option (List Stop×List UInt8)->Option (List Stop×List UInt8)
 |none=>none
 |some (s,u)=>some (acc++s,u)
def nV (n:Nat):V:=.int (n:Nat)
def S9 (K:aa) (C CT:ag):Sp:=λvs H Q E=>Ex8 λ(r ta ca:ag) (cs:List UInt8) (e:Nat) (z8:List UInt8) (z:Str) (ns:List Nat)=>vs=[.ref r,.str z,.ref ca]/\Rd K C H r ta cs e z8/\OkS (z++".")/\z.length<=1000/\
 H ca=some (.lst (ns.map nV))/\ns.length<=1000/\S8 K C CT r ta cs e H Q E (B3 z ns z8)
def mSl:Nat->List UInt8->Option (Nat×List UInt8)
 |0,l=>(match sk ("a":Str).cps.toList l with
  |none=>none
  |some (_,t)=>some (10,t))
 |f+1,l=>if see "/" l=true then(match sk ("/":Str).cps.toList l with
  |none=>none
  |some (_,t)=>mSl f t)
  else match sk ("a":Str).cps.toList l with
   |none=>none
   |some (_,t)=>some (9 - f,t)
def mFB (l:List UInt8):Option (Nat×List UInt8):=if see "4567" l=true then(match pk "4567" l with
 |none=>none
 |some (n,t)=>some (7+4+n,t)) else mSl 3 l
def mBN (l:List UInt8):Option (Nat×List UInt8):=if see "1" l=true then(match sk ("1":Str).cps.toList l with
 |none=>none
 |some (_,t)=>match pk "01234" t with
  |none=>none
  |some (n,u)=>some (10+n,u))
 else match pk "789" l with
  |none=>none
  |some (n,t)=>some (7+n,t)
theorem Rd.app {K:aa} {sa:ag} {z8:List UInt8} (R:Rd K C H r ta cs e z8) (h:H sa=some (.lst xs)) (hn:ta≠sa\/KTx K ta (cs.map cV)) (s:Sb sa H H'):Rd K C H' r ta cs e z8:=
 R.kp (xs:=xs) (ys:=[]) h (hn.imp cr id) λb o eb hb=>s b o eb hb
theorem Sb.nt {sa:ag} (s:Sb sa H H') (h:H sa=some (.lst xs)) {K:aa} {ys:List V} (q:SqT K H a ys):SqT K H' a ys:=by
 rcases q with(q|⟨o,q⟩)|q
 ·exact .inl (.inl (s _ _ q (B2 q h (by intro z;cases z))))
 ·exact .inl (.inr ⟨o,s _ _ q (B2 q h (by intro z;cases z))⟩)
 ·exact .inr q
section
variable {P:bb} {w:bw} {K:aa} {mg:Str->Option ah} {base:cq} {C CI CT:ag} {dz fz:Str}
theorem iN:FnScope ["stops","stop","start"] ["stops","stop","start"] (AH IL):={}
theorem iO (F:Fun K "add_stop" "add_stop" IL f fd) (B:Blt mg) (X1:TFm P w K mg base CT):FnOk P w K mg base (CX1 P w) 3 f fd ["stops","stop","start"] (VG K CT):=by
 refine F.okx iN λAc A outer s H vs Q E hr h=>?_;obtain⟨sa,pa,l,s,st,rfl,L,hp,hl,k⟩:=h;refine⟨_,(AB (AZ (GM (AO E9 (AW AN (by rfl) B.len cy (AA (pv 0) AF)) AI (AQ _))
  (E8 (AO LV (BO (FD K) (pv 1) AI (λ_ _=>rfl)) (BO (FD K) (BO DN (pv 0) (GN EU AI) (λ_ _=>rfl)) AI (λ_ _=>rfl)) (AQ _)))).pt (AC (BE X1 hr AD rfl (pv 2))) AM)
  (AC (AY (GJ de fj fk CV (pv 0) (AA (pv 1) AF))))),?_⟩
 and_intros
 obtain⟨as,a1,a2⟩:=id L;obtain⟨y1,q1,l1⟩:=L.len;have la:as.length=l.length:=by rw[cj a2,ai]
 rw[ai] at l1;have app:CU l s=true->(KI (tBM K "list" LD (BT 0) (CC (BT 1) EV))) { nx:=λ_ H'=>Q .non H',rt:=Q } [some (.ref sa),some (.ref pa),some (.int st)] H:=λho=>by
  rw[Ae ho] at k;refine⟨V.ref sa,rfl,.inl ⟨rfl,_,SqL.of a1⟩,V.ref pa,rfl,sa,_,_,rfl,rfl,a1,?_,?_⟩
  ·rw[ai,la,bz];omega
  ·refine k _ ?_ λb o e hb=>by rw[AE hb];exact e
   rw[ff];exact LT.add a1 a2 hp
 refine⟨V.ref sa,rfl,sa,y1,rfl,.inl q1,_,_,rfl,rfl,_,rfl,CF (λh0=>?_) (λh0=>?_)⟩
 ·have hpos:0<(l.map sL).length:=by
   have:(0:Int)<(y1.length:Int):=by simpa using h0
   rw[ai];omega
  obtain⟨a,b,e1,e2,e3,e4⟩:=KR a2 (y:=[]) hpos;obtain⟨x,hx⟩:∃x,l.getLast? =some x:=by
   cases hg:l.getLast? with
   |none=>rw[List.getLast?_eq_none_iff] at hg;subst hg;simp at hpos
   |some x=>exact⟨x,rfl⟩
  have eb:b=sL x:=by rw[←e2,jk,ww,hx];rfl
  subst eb;refine⟨V.ref pa,rfl,pa,_,0,V.int (s.course:Nat),rfl,rfl,hp,rfl,V.ref sa,rfl,1,rfl,sa,_,_,_,rfl,rfl,SqL.of a1,L8 e1,a,_,0,V.int (x.course:Nat),rfl,rfl,e3,rfl,_,_,rfl,rfl,_,rfl,CF (λh1=>?_) (λh1=>?_)⟩
  ·have hle:s.course<=x.course:=by
    have:(s.course:Int)<=(x.course:Int):=by simpa using h1
    omega
   have hno:CU l s=false:=by unfold CU;rw[hx];exact decide_eq_false (by omega)
   rw[Af (by rw[hno];decide)] at k;exact⟨V.int st,rfl,st,rfl,k⟩
  ·have hle:¬s.course<=x.course:=by
    have:¬(s.course:Int)<=(x.course:Int):=by simpa using h1
    omega
   exact app (by unfold CU;rw[hx];exact decide_eq_true (by omega))
 ·have hz:l=[]:=by
   have:¬(0:Int)<(y1.length:Int):=by simpa using h0
   exact sj (by omega)
  exact BM (app (by rw[hz];rfl))
theorem nU:FnScope ["reader"] ["reader"] (AH DC):={}
theorem nW (F:Fun K "read_bass_number" "read_bass_number" DC f fd) (R:RdE P w K mg base C CT dz) (g7:GI mg "FIRST_BASS" 7):FnOk P w K mg base (CX1 P w) 5 f fd ["reader"] (GK K C CT mBN DF):=by
 refine F.okx nU λAc A outer s H vs Q E hr h=>?_;obtain⟨r,ta,cs,e,z8,rfl,Rr,k⟩:=h;refine⟨_,(AB (AZ (BH R hr AD (pv 0) AS (oks (by decide +kernel))) (AB (BI R hr AD (pv 0) AS (oks (by decide +kernel)))
  (AC (AL (BD DK AI (ER R hr AD (pv 0) AS (oks (by decide +kernel))))))) AM)
  (AC (AL (BD DK (B6 g7) (ER R hr AD (pv 0) AS (oks (by decide +kernel))))))),?_⟩
 and_intros
 unfold mBN at k;refine⟨_,rfl,r,ta,cs,e,z8,rfl,Rr,λH1 s1=>?_⟩;have R1:=Rr.same s1;cases hm:see "1" z8 with
 |true=>
  rw[Ae hm] at k;refine BV ⟨_,rfl,r,ta,cs,e,z8,rfl,R1,?_⟩;cases hs:sk ("1":Str).cps.toList z8 with
  |none=>rw[hs] at k;exact AJ rfl k
  |some x=>
   obtain⟨_,t⟩:=x;simp only[hs] at k;refine AK rfl λH2 R2 s2=>?_;refine⟨_,rfl,r,ta,cs,e,t,rfl,R2,?_⟩;cases hp:pk "01234" t with
   |none=>simp only[hp] at k;exact AJ rfl k
   |some x=>
    obtain⟨n,u⟩:=x;simp only[hp] at k;refine AK rfl λH3 R3 s3=>⟨_,_,rfl,rfl,?_⟩
    have q:=k H3 R3 ((s1.sb.trans s2).trans s3);have e1:DF (10+n)=V.int (10+(n:Int)):=by unfold DF;congr 1
    rw[e1] at q;exact q
 |false=>
  rw[Af (by rw[hm];decide)] at k;refine BM ⟨_,rfl,r,ta,cs,e,z8,rfl,R1,?_⟩;cases hp:pk "789" z8 with
  |none=>simp only[hp] at k;exact AJ rfl k
  |some x=>
   obtain⟨n,u⟩:=x;simp only[hp] at k;refine AK rfl λH3 R3 s3=>⟨_,_,rfl,rfl,?_⟩
   have q:=k H3 R3 (s1.sb.trans s3);have e1:DF (7+n)=V.int (7+(n:Int)):=by unfold DF;congr 1
   rw[e1] at q;exact q
end
open PySem PySem.Spec PyProof.Rows L2
theorem LE (o:Option (List Stop×List UInt8)):pre [] o=o:=by
 cases o with
 |none=>rfl
 |some x=>obtain⟨s,u⟩:=x;rfl
theorem LT.sb {K:aa} {dx:ag} {p e:Int} (h:LT K H a ls) (s:Sb r H H') (ir:H r=some (.ins C dx (rf ta p e))):LT K H' a ls:=(Sb.kp s ir).lt h
section
variable {P:bb} {w:bw} {K:aa} {mg:Str->Option ah} {base:cq} {C CI CT:ag} {dz fz:Str}
theorem VH:FnScope ["reader","frets","courses","stops","course","fret"] ["reader","frets","courses"] (AH G4):={}
theorem nX (F:Fun K "read_neck" "read_neck" G4 f fd) (B:Blt mg) (R:RdE P w K mg base C CT dz):FnOk P w K mg base (CX1 P w) 5 f fd ["reader","frets","courses"] (S9 K C CT):=by
 refine F.okx VH λAc A outer s H vs Q E hr h=>?_;obtain⟨r,ta,ca,cs,e,z8,z,ns,rfl,Rr,oz,lz,hca,ln,k⟩:=h;refine⟨_,(AB (AX 3 VH (DM AF))
  (AB (CD bq rfl (DI (pv 2)) (DW 4 VH)
  (AB (AX 5 VH (R.pi.call (pv 0) hr AD (AA (BD R8 (pv 1) AS) AF)))
  (AC (AZ (AO HW (pv 5) (AW O2 (by rfl) B.len cy (AA (pv 1) AF)) (AQ _))
   (AC (AY (GJ de fj fk CV (pv 3) (AA (EW (AA (pv 4) (AA (pv 5) AF))) AF)))) AM))))
  (AC (AL (pv 3))))),?_⟩
 and_intros
 refine⟨dm _,λsa nsa=>?_⟩;have tt:=HA Rr.tx nsa;have ncs:ca≠sa:=AG hca nsa;have s0:Same H (upd H sa (.lst [])):=Same.upd nsa;have fin:∀{H':Hp},SbL [r,sa] (upd H sa (.lst [])) H'->Sb r H H':=λ{H'} q b o eb hb=>q b o (s0 b o eb) (by simp[hb,AG eb nsa]);refine⟨V.ref ca,rfl,ca,rfl,⟨_,SqL.of (s0 _ _ hca)⟩,DJ (K:=K) (a:=ca) (xs:=ns.map nV) (λi σ H'=>Ex4 λ(acc:List Stop) (z9:List UInt8) (r4 r5:Option V)=>σ=[some (.ref r),some (.str z),some (.ref ca),some (.ref sa),r4,r5]/\SbL [r,sa] (upd H sa (.lst [])) H'/\Rd K C H' r ta cs e z9/\
  LT K H' sa (acc.map sL)/\acc.length<=i/\B3 z ns z8=pre acc (B3 z (ns.drop i) z9)) ⟨[],z8,none,none,rfl,SbL.refl,Rr.same s0,⟨[],upd_same,.nil⟩,aw _,(LE _).symm⟩ ?_ ?_ ?_⟩
 ·rintro i σ H' hi ⟨acc,z9,r4,r5,rfl,sb,_⟩;obtain⟨dr,p,ir⟩:=Rr.ins;exact SqL.of (sb _ _ (s0 _ _ hca) (by simp[ncs,B2 hca ir (by intro z;cases z)]))
 ·rintro i y σ H1 hi ⟨acc,z9,r4,r5,rfl,sb,R1,L1,la,em⟩
  and_intros
  rw[az] at hi;cases hc:ns[i]? with
  |none=>rw[hc] at hi;cases hi
  |some c=>
   rw[hc] at hi;cases hi;have Ad:i<ns.length:=(au.mp hc).1;have ed:ns.drop i=c::ns.drop (i+1):=by rw[jj Ad,(au.mp hc).2]
   rw[ed,B3] at em;obtain⟨dr,p,ir⟩:=R1.ins;refine⟨V.ref r,rfl,r,dr,_,rfl,ir,UW _ _ _,V.str z,rfl,z,".",rfl,rfl,(by rw[bz];show z.length+1<=16777216;omega),r,ta,cs,e,z9,z++".",rfl,R1,oz,?_⟩;cases hp:pk (z++".") z9 with
   |none=>
    rw[hp] at em;exact AJ rfl (iL k em)
   |some x=>
    obtain⟨ft,t⟩:=x;simp only[hp] at em;refine AK rfl λH2 R2 s2=>?_;have L2:=L1.sb s2 ir;have sb2:SbL [r,sa] (upd H sa (.lst [])) H2:=sb.trans (Sb.l s2 (by simp));refine⟨V.int (ft:Nat),rfl,V.str z,rfl,z,rfl,(by rw[bz];omega),_,_,rfl,rfl,_,rfl,CF (λh0=>?_) (λh0=>?_)⟩
    ·have hf:ft<z.length:=by
      have:(ft:Int)<(z.length:Int):=by simpa using h0
      omega
     obtain⟨as,a1,a2⟩:=id L2;have l1:as.length=acc.length:=by rw[cj a2,ai]
     refine⟨V.ref sa,rfl,.inl ⟨rfl,_,SqL.of a1⟩,V.int (c:Nat),rfl,V.int (ft:Nat),rfl,(by rw[bz];show 2<=16777216;decide),λpa npa=>⟨sa,_,_,rfl,rfl,(Same.upd npa) _ _ a1,?_,?_⟩⟩
     ·rw[ai,l1,bz];omega
     ·have sp:Same H2 (upd H2 pa (.tup [V.int (c:Nat),V.int (ft:Nat)])):=Same.upd npa;have a13:=sp _ _ a1;have su:Sb sa (upd H2 pa (.tup [V.int (c:Nat),V.int (ft:Nat)])) (upd (upd H2 pa (.tup [V.int (c:Nat),V.int (ft:Nat)])) sa (.lst (as.map V.ref++[.ref pa]))):=λb o eb hb=>by rw[AE hb];exact eb
      refine⟨acc++[⟨c,ft⟩],t,_,_,rfl,(sb2.trans (Same.l sp)).trans (Sb.l su (by simp)),(R2.same sp).app a13 tt su,?_,by rw[br];simp;omega,?_⟩
      ·rw[ff];exact LT.add a13 (AU a2 λ_ _ q=>sp.tup q) (SqT.of upd_same)
      ·rw[em];cases B3 z (ns.drop (i+1)) t with
       |none=>rfl
       |some x=>
        obtain⟨s,u⟩:=x;simp only[pre,Ae hf,tV,List.singleton_append]
    ·have hf:¬ft<z.length:=by
      have:¬(ft:Int)<(z.length:Int):=by simpa using h0
      omega
     refine⟨acc,t,_,_,rfl,sb2,R2,L2,by omega,?_⟩;rw[em];cases B3 z (ns.drop (i+1)) t with
     |none=>rfl
     |some x=>
      obtain⟨s,u⟩:=x;simp only[pre,Af hf]
 ·rintro σ H1 ⟨acc,z9,r4,r5,rfl,sb,R1,L1,la,em⟩;rw[ai,uu,B3] at em;simp only[pre,jz] at em;exact⟨V.ref sa,rfl,iM k em H1 sa R1 (fin sb) nsa L1⟩
theorem sc_fb:FnScope ["reader","course"] ["reader"] (AH DB):={}
theorem nY (F:Fun K "read_french_bass" "read_french_bass" DB f fd) (R:RdE P w K mg base C CT dz) (g7:GI mg "FIRST_BASS" 7) (gl:GS mg "FRENCH_LOWEST" "4567"):FnOk P w K mg base (CX1 P w) 5 f fd ["reader"] (GK K C CT mFB DF):=by
 refine F.okx sc_fb λAc A outer s H vs Q E hr h=>?_;obtain⟨r,ta,cs,e,z8,rfl,Rr,k⟩:=h;refine⟨_,(AB (AZ (BH R hr AD (pv 0) (E4 gl) (oks (by decide +kernel))) (AC (AL (BD DK (BD DK (B6 g7) AI) (ER R hr AD (pv 0) (E4 gl) (oks (by decide +kernel)))))) AM)
  (AB (AX 1 sc_fb (B6 g7))
  (AB (B4 bq (GM (BH R hr AD (pv 0) AS (oks (by decide +kernel))) (E8 (AO HW (pv 1) (BD DK (B6 g7) AI) (AQ _)))).pt
  (AB (BI R hr AD (pv 0) AS (oks (by decide +kernel)))
  (AC (JO (i:=1) sc_fb.nd rfl (uK rfl) AI JP))))
  (AB (BI R hr AD (pv 0) AS (oks (by decide +kernel)))
  (AC (AL (pv 1))))))),?_⟩
 and_intros
 unfold mFB at k;refine⟨_,rfl,r,ta,cs,e,z8,rfl,Rr,λH1 s1=>?_⟩;have R1:=Rr.same s1;cases hm:see "4567" z8 with
 |true=>
  rw[Ae hm] at k;refine BV ⟨_,_,rfl,rfl,_,rfl,r,ta,cs,e,z8,rfl,R1,?_⟩;cases hp:pk "4567" z8 with
  |none=>simp only[hp] at k;exact AJ rfl k
  |some x=>
   obtain⟨n,u⟩:=x;simp only[hp] at k;refine AK rfl λH3 R3 s3=>⟨_,_,rfl,rfl,?_⟩
   have q:=k H3 R3 (s1.sb.trans s3);have e1:DF (7+4+n)=V.int (7+4+(n:Int)):=by unfold DF;congr 1
   rw[e1] at q;exact q
 |false=>
  rw[Af (by rw[hm];decide)] at k;obtain⟨M,hM⟩:∃M,M=mSl 3 z8:=⟨_,rfl⟩
  rw[←hM] at k;refine BM ⟨λm σ H'=>∃(z9:List UInt8),σ=[some (.ref r),some (.int (10 - (m:Nat)))]/\m<=3/\Sb r H H'/\Rd K C H' r ta cs e z9/\M=mSl m z9,⟨3,z8,rfl,aw _,s1.sb,R1,hM⟩,?_⟩;rintro m σ H2 ⟨z9,rfl,hm3,s2,R2,em⟩;refine⟨_,rfl,r,ta,cs,e,z9,rfl,R2,λH3 s3=>?_⟩;have R3:=R2.same s3;have s13:Sb r H H3:=s2.trans s3.sb;have tail:∀H3:Hp,Sb r H H3->Rd K C H3 r ta cs e z9->(∀t,sk ("a":Str).cps.toList z9=some ((),t)->M=some (10 - m,t))->(sk ("a":Str).cps.toList z9=none->M=none)->
   (AT (MV K C CT E (BT 0) "a") (WC (BT 1))) { nx:=λ_ H'=>Q .non H',rt:=Q } [some (.ref r),some (.int (10 - (m:Nat)))] H3:=by
   intro H3 s13 R3 q1 q2;refine⟨_,rfl,r,ta,cs,e,z9,rfl,R3,?_⟩;cases hs:sk ("a":Str).cps.toList z9 with
   |none=>rw[q2 hs] at k;exact AJ rfl k
   |some x=>
    obtain⟨⟨⟩,t⟩:=x;rw[q1 t hs] at k;refine AK rfl λH4 R4 s4=>⟨_,rfl,?_⟩
    have q:=k H4 R4 (s13.trans s4);have e1:DF (10 - m)=V.int (10 - (m:Nat)):=by unfold DF;congr 1;omega
    rw[e1] at q;exact q
  cases hs:see "/" z9 with
  |false=>
   refine BM (BM (tail H3 s13 R3 ?_ ?_))
   ·intro t ht;rw[em];cases m with
    |zero=>rw[mSl,ht]
    |succ m=>rw[mSl,Af (by rw[hs];decide),ht];show some (9 - m,t)=some (10 - (m+1),t);congr 2;omega
   ·intro ht;rw[em];cases m with
    |zero=>rw[mSl,ht]
    |succ m=>rw[mSl,Af (by rw[hs];decide),ht]
  |true=>
   refine BV ⟨_,rfl,_,_,rfl,rfl,_,_,rfl,rfl,_,rfl,?_⟩;cases m with
   |zero=>
    refine WV (by decide) (tail H3 s13 R3 ?_ ?_)
    ·intro t ht;rw[em,mSl,ht]
    ·intro ht;rw[em,mSl,ht]
   |succ m=>
    rw[mSl,Ae hs] at em;have Ad:decide ((10:Int) - ((m+1:Nat):Int)<7+3)=true:=decide_eq_true (by omega);show if decide ((10:Int) - ((m+1:Nat):Int)<7+3)=true then _ else _;rw[Ad];refine DS ⟨_,rfl,r,ta,cs,e,z9,rfl,R3,?_⟩;cases hk:sk ("/":Str).cps.toList z9 with
    |none=>
     rw[hk] at em;rw[em] at k;exact AJ rfl k
    |some x=>
     obtain⟨⟨⟩,t⟩:=x;rw[hk] at em;refine AK rfl λH4 R4 s4=>⟨_,rfl,_,_,rfl,rfl,m,by omega,t,?_,by omega,s13.trans s4,R4,em⟩
     show[some (V.ref r),some (V.int (((10:Int) - ((m+1:Nat):Int))+1))]=_;congr 3;show V.int _=V.int _;congr 1;omega
end
open PySem PySem.Spec PyProof.Rows L2
def sT:Option (Stop×List UInt8)->Option (List Int×List UInt8)
 |none=>none
 |some (s,t)=>some (sL s,t)
def zX:Str:="abcdefghiklmnopqrstvxyz&9"
def zP:Str:="+ABCDEFGHIKLMNOP"
def mTm (b:Int):Nat->Nat->List UInt8->Option (Nat×List UInt8)
 |0,j,t=>some (j,t)
 |f+1,j,t=>if bt t=b then(match pk zX t with
  |none=>none
  |some (_,u)=>mTm b f (j+1) u)
  else some (j,t)
def mCr (l:List UInt8):Option (Stop×List UInt8):=match pk zX l with
 |none=>none
 |some (n,t)=>match mTm (bt l) 2 0 t with
  |none=>none
  |some (j,u)=>some (⟨5 - n%5,1+n / 5+5*j⟩,u)
def mGS (l:List UInt8):Option (Stop×List UInt8):=if see "-" l=true then(match sk ("-":Str).cps.toList l with
 |none=>none
 |some (_,t)=>match mBN t with
  |none=>none
  |some (n,u)=>some (⟨n,0⟩,u))
 else if see "54321" l=true then(match pk "54321" l with
  |none=>none
  |some (n,t)=>some (⟨1+n,0⟩,t))
 else if see zP l=true then(match pk zP l with
  |none=>none
  |some (n,t)=>some (⟨6,n⟩,t))
 else mCr l
section
variable {P:bb} {w:bw} {K:aa} {mg:Str->Option ah} {base:cq} {C CI CT:ag} {dz fz:Str}
theorem sc_cr:FnScope ["reader","byte","number","times"] ["reader"] (AH EI):={}
theorem nZ (F:Fun K "read_crossing" "read_crossing" EI f fd) (R:RdE P w K mg base C CT dz) (g3:GI mg "MOST_CROSSING_BYTES" 3) (gx:GS mg "GERMAN_CROSSINGS" zX):FnOk P w K mg base (CX1 P w) 5 f fd ["reader"] (E5 K C CT λl=>sT (mCr l)):=by
 refine F.okx sc_cr λAc A outer s H vs Q E hr h=>?_;obtain⟨r,ta,cs,e,z8,rfl,Rr,k⟩:=h;refine⟨_,(AB (AX 1 sc_cr (UX R hr AD (pv 0)))
  (AB (AX 2 sc_cr (ER R hr AD (pv 0) (E4 gx) (oks (by decide +kernel))))
  (AB (AX 3 sc_cr AI)
  (AB (B4 bq (GM (AO C1 (UX R hr AD (pv 0)) (pv 1) (AQ _)) (E8 (AO HW (pv 3) (B6 g3) (AQ _)))).pt
  (AB (AY (ER R hr AD (pv 0) (E4 gx) (oks (by decide +kernel))))
  (AC (JO (i:=3) sc_cr.nd rfl (uK rfl) AI JP))))
  (AC (AL (EW (AA (BD GO AI (BD R7 (pv 2) AI)) (AA (BD DK (BD DK AI (BD LC (pv 2) AI)) (BD IF AI (BD GO (pv 3) AI))) AF))))))))),?_⟩
 and_intros
 refine⟨_,rfl,r,ta,cs,e,z8,rfl,Rr,?_⟩;refine⟨_,rfl,r,ta,cs,e,z8,rfl,Rr,?_⟩;unfold mCr at k;cases hp:pk zX z8 with
 |none=>simp only[hp,sT] at k;exact AJ rfl k
 |some x=>
  obtain⟨n,t⟩:=x;simp only[hp] at k;refine AK rfl λH1 R1 s1=>?_;obtain⟨M,hM⟩:∃M,M=mTm (bt z8) 2 0 t:=⟨_,rfl⟩
  rw[←hM] at k;refine⟨λm σ H'=>Ex2 λ(z9:List UInt8) (j:Nat)=>σ=[some (.ref r),some (.int (bt z8)),some (.int (n:Nat)),some (.int ((j:Nat)+1))]/\m+j=2/\Sb r H H'/\Rd K C H' r ta cs e z9/\M=mTm (bt z8) m j z9,⟨2,t,0,rfl,rfl,s1,R1,hM⟩,?_⟩;rintro m σ H2 ⟨z9,j,rfl,hmj,s2,R2,em⟩;have done:M=some (j,z9)->(WC (fX (CC (tOp (rI0 λi j=>.int (i - j)) (tC (.int 5)) (tOp (rI (λ_ j=>0<j) λi j=>.int (i%j)) (BT 2) (tC (.int 5)))) (CC (tOp (rI0 λi j=>.int (i+j)) (tOp (rI0 λi j=>.int (i+j)) (tC (.int 1)) (tOp (rI kT λi j=>.int (i / j)) (BT 2) (tC (.int 5)))) (tOp (rI CMul λi j=>.int (i*j)) (tC (.int 5)) (tOp (rI0 λi j=>.int (i - j)) (BT 3) (tC (.int 1))))) EV))))
   { nx:=λ_ H'=>Q .non H',rt:=Q } [some (.ref r),some (.int (bt z8)),some (.int (n:Nat)),some (.int ((j:Nat)+1))] H2:=by
   intro eM;simp only[eM,sT] at k;refine⟨_,rfl,_,_,rfl,rfl,(by show(0:Int)<5;decide),_,_,rfl,rfl,_,rfl,_,_,rfl,rfl,(show(0:Int)<5/\(5:Int)<1073741824 from by decide),_,_,rfl,rfl,_,rfl,_,_,rfl,rfl,_,_,rfl,rfl,.inl ⟨by decide,by decide⟩,_,_,rfl,rfl,(by rw[bz];show 2<=16777216;decide),λpa npa=>?_⟩
   ·have sp:Same H2 (upd H2 pa (.tup [V.int (5 - (n:Int)%5),V.int (1+(n:Int) / 5+5*(((j:Nat):Int)+1 - 1))])):=Same.upd npa;refine k _ pa (R2.same sp) (s2.trans sp.sb) (SqT.of (upd_same.trans ?_));have e1:((5 - n%5:Nat):Int)=5 - (n:Int)%5:=by omega
    have e2:((1+n / 5+5*j:Nat):Int)=1+(n:Int) / 5+5*(((j:Nat):Int)+1 - 1):=by omega
    simp only[sL,List.map,e1,e2]
  refine⟨_,rfl,r,ta,cs,e,z9,rfl,R2,_,rfl,rfl,_,rfl,?_⟩;by_cases hb:bt z9=bt z8
  ·have hd:decide (V.int (bt z9)=V.int (bt z8))=true:=decide_eq_true (by rw[hb]);rw[hd];refine BV ⟨_,rfl,_,_,rfl,rfl,_,rfl,?_⟩;cases m with
   |zero=>
    have Ad:decide (((j:Nat):Int)+1<3)=false:=decide_eq_false (by omega);refine WV Ad (done ?_);rw[em,mTm]
   |succ m=>
    have Ad:decide (((j:Nat):Int)+1<3)=true:=decide_eq_true (by omega);show if decide (((j:Nat):Int)+1<3)=true then _ else _;rw[Ad];rw[mTm,Ae hb] at em;refine DS ⟨_,rfl,r,ta,cs,e,z9,rfl,R2,?_⟩;cases hk:pk zX z9 with
    |none=>
     rw[hk] at em;rw[em] at k;exact AJ rfl k
    |some x=>
     obtain⟨_,u⟩:=x;rw[hk] at em;exact AK rfl λH4 R4 s4=>⟨_,rfl,_,_,rfl,rfl,m,by omega,u,j+1,rfl,by omega,s2.trans s4,R4,em⟩
  ·have hd:decide (V.int (bt z9)=V.int (bt z8))=false:=decide_eq_false λq=>hb (by injection q);rw[hd];refine BM (BM (done ?_));cases m with
   |zero=>rw[em,mTm]
   |succ m=>rw[em,mTm,Af hb]
theorem n6:FnScope ["reader"] ["reader"] (AH DD):={}
theorem n8 (F:Fun K "read_german_stop" "read_german_stop" DD f fd) (R:RdE P w K mg base C CT dz) (gu:GS mg "GERMAN_UNSTOPPED" "54321") (gp:GS mg "GERMAN_SIXTH" zP) (g6:GI mg "NECK_COURSES" 6)
 (D1:Def P w K mg base 5 "read_bass_number" ["reader"] (GK K C CT mBN DF)) (D2:Def P w K mg base 5 "read_crossing" ["reader"] (E5 K C CT λl=>sT (mCr l))):FnOk P w K mg base (CX1 P w) 6 f fd ["reader"] (E5 K C CT λl=>sT (mGS l)):=by
 refine F.okx n6 λAc A outer s H vs Q E hr h=>?_;obtain⟨r,ta,cs,e,z8,rfl,Rr,k⟩:=h;refine⟨_,(AB (AZ (BH R hr AD (pv 0) AS (oks (by decide +kernel))) (AB (BI R hr AD (pv 0) AS (oks (by decide +kernel)))
  (AC (AL (EW (AA (J6 D1 hr AD (pv 0)) (AA AI AF)))))) AM)
  (AB (AZ (BH R hr AD (pv 0) (E4 gu) (oks (by decide +kernel))) (AC (AL (EW (AA (BD DK AI (ER R hr AD (pv 0) (E4 gu) (oks (by decide +kernel)))) (AA AI AF))))) AM)
  (AB (AZ (BH R hr AD (pv 0) (E4 gp) (oks (by decide +kernel))) (AC (AL (EW (AA (B6 g6) (AA (ER R hr AD (pv 0) (E4 gp) (oks (by decide +kernel))) AF))))) AM)
  (AC (AL (GG D2 hr AD (pv 0))))))),?_⟩
 and_intros
 have k':SY K C CT r ta cs e H Q E (sT (mGS z8)):=k;clear k;have k:=k';clear k';unfold mGS at k;have fin:∀{x y:Int} {H1 H2:Hp} {s:Stop} {t:List UInt8},(∀H' a,Rd K C H' r ta cs e t->Sb r H H'->SqT K H' a ((sL s).map V.int)->Q (.ref a) H')->Sb r H H2->Rd K C H2 r ta cs e t->(s.course:Int)=x->(s.fret:Int)=y->
  [V.int x,V.int y].length<=sizeLine/\∀p,H2 p=none->Q (.ref p) (upd H2 p (.tup [V.int x,V.int y])):=by
  intro x y H1 H2 s t k s2 R2 e1 e2;refine⟨by rw[bz];show 2<=16777216;decide,λpa npa=>?_⟩;have sp:Same H2 (upd H2 pa (.tup [V.int x,V.int y])):=Same.upd npa;exact k _ pa (R2.same sp) (s2.trans sp.sb) (SqT.of (upd_same.trans (by rw[←e1, ←e2];rfl)))
 refine⟨_,rfl,r,ta,cs,e,z8,rfl,Rr,λH1 s1=>?_⟩;have R1:=Rr.same s1;cases h1:see "-" z8 with
 |true=>
  rw[Ae h1] at k;refine BV ⟨_,rfl,r,ta,cs,e,z8,rfl,R1,?_⟩;cases hs:sk ("-":Str).cps.toList z8 with
  |none=>simp only[hs,sT] at k;exact AJ rfl k
  |some x=>
   obtain⟨_,t⟩:=x;simp only[hs] at k;refine AK rfl λH2 R2 s2=>⟨_,rfl,r,ta,cs,e,t,rfl,R2,?_⟩
   cases hb:mBN t with
   |none=>simp only[hb,sT] at k;exact AJ rfl k
   |some x=>
    obtain⟨n,u⟩:=x;simp only[hb,sT] at k;exact AK rfl λH3 R3 s3=>fin (H1:=H) k ((s1.sb.trans s2).trans s3) R3 rfl rfl
 |false=>
  rw[Af (by rw[h1];decide)] at k;refine BM ⟨_,rfl,r,ta,cs,e,z8,rfl,R1,λH2 s2=>?_⟩;have R2:=R1.same s2;cases h2:see "54321" z8 with
  |true=>
   rw[Ae h2] at k;refine BV ⟨_,rfl,r,ta,cs,e,z8,rfl,R2,?_⟩;cases hp:pk "54321" z8 with
   |none=>simp only[hp,sT] at k;exact AJ rfl k
   |some x=>
    obtain⟨n,u⟩:=x;simp only[hp,sT] at k;refine AK rfl λH3 R3 s3=>⟨_,_,rfl,rfl,?_⟩
    exact fin (H1:=H) k ((s1.trans s2).sb.trans s3) R3 (by show((1+n:Nat):Int)=1+(n:Int);omega) rfl
  |false=>
   rw[Af (by rw[h2];decide)] at k;refine BM ⟨_,rfl,r,ta,cs,e,z8,rfl,R2,λH3 s3=>?_⟩;have R3:=R2.same s3;cases h3:see zP z8 with
   |true=>
    rw[Ae h3] at k;refine BV ⟨_,rfl,r,ta,cs,e,z8,rfl,R3,?_⟩;cases hp:pk zP z8 with
    |none=>simp only[hp,sT] at k;exact AJ rfl k
    |some x=>
     obtain⟨n,u⟩:=x;simp only[hp,sT] at k;exact AK rfl λH4 R4 s4=>fin (H1:=H) k (((s1.trans s2).trans s3).sb.trans s4) R4 rfl rfl
   |false=>
    rw[Af (by rw[h3];decide)] at k;refine BM ⟨_,rfl,r,ta,cs,e,z8,rfl,R3,?_⟩;cases hc:mCr z8 with
    |none=>simp only[hc,sT] at k;exact D8 (by show sT (mCr z8)=_;rw[hc];rfl) k
    |some x=>
     obtain⟨s,u⟩:=x;simp only[hc,sT] at k;exact D9 (by show sT (mCr z8)=_;rw[hc];rfl) λH4 a R4 s4 q=>k H4 a R4 (((s1.trans s2).trans s3).sb.trans s4) q
end
open PySem PySem.Spec PyProof.Rows L2
def zF:Str:="abcdefghiklmnopq"
def zI:Str:="0123456789xyzvuw"
def mBs (m:List UInt8->Option (Nat×List UInt8)):Nat->List Stop->List UInt8->Option (List Stop×List UInt8)
 |0,_,_=>none
 |f+1,acc,l=>if see " " l=true then(match sk (" ":Str).cps.toList l with
  |none=>none
  |some (_,t)=>match m t with
   |none=>none
   |some (b,u)=>if CU acc ⟨b,0⟩=true then mBs m f (acc++[⟨b,0⟩]) u else none)
  else some (acc,l)
def mFr (l:List UInt8):Option (List Stop×List UInt8):=match B3 zF [1,2,3,4,5,6] l with
 |none=>none
 |some (s,t)=>mBs mFB (t.length+1) s t
def mIt (l:List UInt8):Option (List Stop×List UInt8):=match B3 zI [6,5,4,3,2,1] l with
 |none=>none
 |some (s,t)=>mBs mBN (t.length+1) s.reverse t
def mGl:Nat->List Stop->List UInt8->Option (List Stop×List UInt8)
 |0,_,_=>none
 |f+1,acc,l=>match mGS l with
  |none=>none
  |some (s,t)=>if CU acc s=true then(if see " " t=true then(match sk (" ":Str).cps.toList t with
   |none=>none
   |some (_,u)=>mGl f (acc++[s]) u) else some (acc++[s],t)) else none
def mGr (l:List UInt8):Option (List Stop×List UInt8):=if see "." l=true then(match sk (".":Str).cps.toList l with
 |none=>none
 |some (_,t)=>some ([],t))
 else mGl (l.length+1) [] l
theorem VI:∀{f:Nat} {l t:List UInt8} {n:Nat},mSl f l=some (n,t)->t.length<l.length
 |0,l,t,n,h=>by
  rw[mSl] at h;cases hs:sk ("a":Str).cps.toList l with
  |none=>rw[hs] at h;cases h
  |some x=>
   obtain⟨_,y⟩:=x;rw[hs] at h;cases h;have:t.length+1=l.length:=BK hs;omega
 |f+1,l,t,n,h=>by
  rw[mSl] at h;split at h
  ·cases hs:sk ("/":Str).cps.toList l with
   |none=>rw[hs] at h;cases h
   |some x=>
    obtain⟨_,y⟩:=x;rw[hs] at h;have h1:y.length+1=l.length:=BK hs;have:=VI (f:=f) h;omega
  ·cases hs:sk ("a":Str).cps.toList l with
   |none=>rw[hs] at h;cases h
   |some x=>
    obtain⟨_,y⟩:=x;rw[hs] at h;cases h;have:t.length+1=l.length:=BK hs;omega
theorem PR {l:List UInt8} (h:mFB l=some (n,t)):t.length<l.length:=by
 unfold mFB at h;split at h
 ·cases hp:pk "4567" l with
  |none=>rw[hp] at h;cases h
  |some x=>obtain⟨i,y⟩:=x;rw[hp] at h;cases h;have:=EM hp;omega
 ·exact VI h
theorem LL {l:List UInt8} (h:mBN l=some (n,t)):t.length<l.length:=by
 unfold mBN at h;split at h
 ·cases hs:sk ("1":Str).cps.toList l with
  |none=>rw[hs] at h;cases h
  |some x=>
   obtain⟨_,y⟩:=x;simp only[hs] at h;cases hp:pk "01234" y with
   |none=>rw[hp] at h;cases h
   |some x=>
    obtain⟨i,v⟩:=x;rw[hp] at h;cases h;have h1:y.length+1=l.length:=BK hs;have:=EM hp;omega
 ·cases hp:pk "789" l with
  |none=>rw[hp] at h;cases h
  |some x=>obtain⟨i,y⟩:=x;rw[hp] at h;cases h;have:=EM hp;omega
theorem F8:∀{ns:List Nat} {l t:List UInt8} {s:List Stop},B3 z ns l=some (s,t)->t.length<=l.length/\s.length<=ns.length
 |[],l,t,s,h=>by rw[B3] at h;cases h;exact⟨aw _,aw _⟩
 |c::ns,l,t,s,h=>by
  rw[B3] at h;cases hp:pk (z++".") l with
  |none=>rw[hp] at h;cases h
  |some x=>
   obtain⟨i,y⟩:=x;simp only[hp] at h;cases hm:B3 z ns y with
   |none=>rw[hm] at h;cases h
   |some x=>
    obtain⟨q,v⟩:=x;simp only[hm] at h;cases h;have h1:=F8 hm;have h2:=EM hp;refine⟨by omega,?_⟩;split<;>simp<;>omega
def WZ (K:aa) (C CT:ag) (m:List UInt8->Option (List Stop×List UInt8)):Sp:=λvs H Q E=>Ex5 λ(r ta:ag) (cs:List UInt8) (e:Nat) (z8:List UInt8)=>vs=[.ref r]/\Rd K C H r ta cs e z8/\cs.length<=100000/\S8 K C CT r ta cs e H Q E (m z8)
theorem Rd.rl {K:aa} {z8:List UInt8} (R:Rd K C H r ta cs e z8):z8.length<=cs.length:=by
 obtain⟨dx,p,_,q,_⟩:=R.at_;rw[q,im,dy];omega
theorem M5 {F:α->β->Prop}:∀{l:List α} {m:List β},cf F l m->cf F l.reverse m.reverse
 |_,_,.nil=>.nil
 |_,_,.cons r t=>by
  rw[rn,rn];exact FE r (M5 t)
section
variable {P:bb} {w:bw} {K:aa} {mg:Str->Option ah} {base:cq} {C CI CT:ag} {dz fz:Str}
theorem TC:FnScope ["reader","stops","start"] ["reader"] (AH CZ):={}
theorem iP (F:Fun K "read_french_stops" "read_french_stops" CZ f fd) (B:Blt mg) (R:RdE P w K mg base C CT dz) (g6:GI mg "NECK_COURSES" 6) (gz:GS mg "FRENCH_FRETS" zF)
 (D1:Def P w K mg base 5 "read_neck" ["reader","frets","courses"] (S9 K C CT)) (D2:Def P w K mg base 5 "read_french_bass" ["reader"] (GK K C CT mFB DF)) (D3:Def P w K mg base 3 "add_stop" ["stops","stop","start"] (VG K CT)):
 FnOk P w K mg base (CX1 P w) 6 f fd ["reader"] (WZ K C CT mFr):=by
 refine F.okx TC λAc A outer s H vs Q E hr h=>?_;obtain⟨r,ta,cs,e,z8,rfl,Rr,hcs,k⟩:=h;refine⟨_,(AB (AX 1 TC (D1.call hr AD (AA (pv 0) (AA (E4 gz) (AA (JH rfl B.list B.range (AA AI (AA (BD DK (B6 g6) AI) AF))) AF)))))
  (AB (B4 bq (BH R hr AD (pv 0) AS (oks (by decide +kernel)))
  (AB (BI R hr AD (pv 0) AS (oks (by decide +kernel)))
  (AB (AX 2 TC (B1 R (pv 0)))
  (AC (AY (D3.call hr AD (AA (pv 1) (AA (EW (AA (J6 D2 hr AD (pv 0)) (AA AI AF))) (AA (pv 2) AF)))))))))
  (AC (AL (pv 1))))),?_⟩
 and_intros
 unfold mFr at k;refine⟨_,rfl,_,_,rfl,rfl,1,7,1,6,.inr ⟨rfl,rfl⟩,⟨by decide,by decide,by decide +kernel,by decide +kernel⟩,(by decide),λca nca=>?_⟩;have sc:Same H (upd H ca (.lst (rgV 1 1 6))):=Same.upd nca;have R0:=Rr.same sc;refine⟨r,ta,ca,cs,e,z8,zF,[1,2,3,4,5,6],rfl,R0,oks (by decide +kernel),(by decide +kernel),upd_same,(by decide),?_⟩;cases hn:B3 zF [1,2,3,4,5,6] z8 with
 |none=>simp only[hn] at k;exact KA rfl k
 |some x=>
  obtain⟨s0,t⟩:=x;simp only[hn] at k;have hnl:=F8 hn;refine KC rfl λH1 sa R1 s1 nsa L1=>?_;have nsa:H sa=none:=by
   by_cases q:sa=ca
   ·rw[q];exact nca
   ·rw[AE q] at nsa;exact nsa
  have s1:Sb r H H1:=λb o eb hb=>s1 b o (sc b o eb) hb;have ttx:ta≠sa\/KTx K ta (cs.map cV):=HA Rr.tx nsa;obtain⟨M,hM⟩:∃M,M=mBs mFB (t.length+1) s0 t:=⟨_,rfl⟩
  rw[←hM] at k;have hls:(s0).length<=6:=hnl.2;have hr0:=Rr.rl;refine⟨λm σ H'=>Ex4 λ(z9:List UInt8) (acc:List Stop) (g:Nat) (r2:Option V)=>σ=[some (.ref r),some (.ref sa),r2]/\Sb r H H'/\Rd K C H' r ta cs e z9/\LT K H' sa (acc.map sL)/\M=mBs mFB g acc z9/\z9.length<g/\acc.length+z9.length<=6+t.length/\m=z9.length,
   ⟨t.length,t,s0,t.length+1,none,rfl,s1,R1,L1,hM,by omega,by omega,rfl⟩,?_⟩
  rintro m σ H2 ⟨z9,acc,g,r2,rfl,s2,R2,L2,em,hg,ha,rfl⟩;obtain⟨g,rfl⟩:∃g',g=g'+1:=⟨g - 1,by omega⟩
  rw[mBs] at em;refine⟨_,rfl,r,ta,cs,e,z9,rfl,R2,λH3 s3=>?_⟩;have R3:=R2.same s3;have L3:LT K H3 sa (acc.map sL):=(Same.kp s3).lt L2;have s23:Sb r H H3:=s2.trans s3.sb;cases hs:see " " z9 with
  |false=>
   rw[Af (by rw[hs];decide)] at em;rw[em] at k;exact BM ⟨_,rfl,k H3 sa R3 s23 nsa L3⟩
  |true=>
   rw[Ae hs] at em;refine DS ⟨_,rfl,r,ta,cs,e,z9,rfl,R3,?_⟩;cases hk:sk (" ":Str).cps.toList z9 with
   |none=>simp only[hk] at em;rw[em] at k;exact AJ rfl k
   |some x=>
    obtain⟨_,t4⟩:=x;simp only[hk] at em;obtain⟨dr3,p3,ir3⟩:=R3.ins;refine AK rfl λH4 R4 s4=>⟨_,rfl,r,ta,cs,e,t4,rfl,R4,λst=>?_⟩
    have L4:=L3.sb s4 ir3;obtain⟨dr4,p4,ir4⟩:=R4.ins;refine⟨_,rfl,_,rfl,r,ta,cs,e,t4,rfl,R4,?_⟩;cases hb:mFB t4 with
    |none=>simp only[hb] at em;rw[em] at k;exact AJ rfl k
    |some x=>
     obtain⟨b,u⟩:=x;simp only[hb] at em;refine AK rfl λH5 R5 s5=>⟨(by rw[bz];show 2<=16777216;decide),λpa npa=>⟨_,rfl,?_⟩⟩
     have L5:=L4.sb s5 ir4;have sp:Same H5 (upd H5 pa (.tup [DF b,V.int 0])):=Same.upd npa;have hl1:t4.length+1=z9.length:=BK hk;have hl2:=PR hb;refine⟨sa,pa,acc,⟨b,0⟩,st,rfl,(Same.kp sp).lt L5,SqT.of upd_same,by omega,?_⟩;cases ho:CU acc ⟨b,0⟩ with
     |false=>
      rw[Af (by rw[ho];decide)] at em;rw[em] at k;exact BM (k st)
     |true=>
      rw[Ae ho] at em;refine BV λH6 L6 s6=>⟨u.length,by omega,u,acc++[⟨b,0⟩],g,_,rfl,?_,?_,L6,em,by omega,?_,rfl⟩
      ·have q:Sb r H (upd H5 pa (.tup [DF b,V.int 0])):=((s23.trans s4).trans s5).trans sp.sb;exact λb' o eb hb'=>s6 b' o (q b' o eb hb') (AG eb nsa)
      ·obtain⟨as,a1,_⟩:=(Same.kp sp).lt L5;exact(R5.same sp).app a1 ttx s6
      ·rw[br];simp;omega
theorem TD:FnScope ["reader","stops","start"] ["reader"] (AH CP):={}
theorem iQ (F:Fun K "read_italian_stops" "read_italian_stops" CP f fd) (B:Blt mg) (R:RdE P w K mg base C CT dz) (g6:GI mg "NECK_COURSES" 6) (gz:GS mg "ITALIAN_FRETS" zI)
 (D1:Def P w K mg base 5 "read_neck" ["reader","frets","courses"] (S9 K C CT)) (D2:Def P w K mg base 5 "read_bass_number" ["reader"] (GK K C CT mBN DF)) (D3:Def P w K mg base 3 "add_stop" ["stops","stop","start"] (VG K CT)):
 FnOk P w K mg base (CX1 P w) 6 f fd ["reader"] (WZ K C CT mIt):=by
 refine F.okx TD λAc A outer s H vs Q E hr h=>?_;obtain⟨r,ta,cs,e,z8,rfl,Rr,hcs,k⟩:=h;refine⟨_,(AB (AX 1 TD (S7 rfl B.list B.rev (AA (D1.call hr AD (AA (pv 0) (AA (E4 gz) (AA (JH rfl B.list B.range (AA (B6 g6) (AA AI (AA (GN EU AI) AF)))) AF)))) AF)))
  (AB (B4 bq (BH R hr AD (pv 0) AS (oks (by decide +kernel)))
  (AB (BI R hr AD (pv 0) AS (oks (by decide +kernel)))
  (AB (AX 2 TD (B1 R (pv 0)))
  (AC (AY (D3.call hr AD (AA (pv 1) (AA (EW (AA (J6 D2 hr AD (pv 0)) (AA AI AF))) (AA (pv 2) AF)))))))))
  (AC (AL (pv 1))))),?_⟩
 and_intros
 unfold mIt at k;refine⟨_,rfl,1,rfl,6,0, -1,6,.inl rfl,⟨by decide,by decide,by decide +kernel,by decide +kernel⟩,(by decide),λca nca=>?_⟩;have sc:Same H (upd H ca (.lst (rgV 6 (-1) 6))):=Same.upd nca;have R0:=Rr.same sc;refine⟨r,ta,ca,cs,e,z8,zI,[6,5,4,3,2,1],rfl,R0,oks (by decide +kernel),(by decide +kernel),upd_same,(by decide),?_⟩;cases hn:B3 zI [6,5,4,3,2,1] z8 with
 |none=>simp only[hn] at k;exact KA rfl k
 |some x=>
  obtain⟨s0,t⟩:=x;simp only[hn] at k;have hnl:=F8 hn;refine KC rfl λH0 sz R1 s1 nsz L1=>?_;have s1:Sb r H H0:=λb o eb hb=>s1 b o (sc b o eb) hb;obtain⟨as,a1,a2⟩:=L1;refine⟨sz,_,rfl,SqL.of a1,λsa nsb=>?_⟩;obtain⟨H1,hH⟩:∃H1,H1=upd H0 sa (.lst (as.map V.ref).reverse):=⟨_,rfl⟩
  rw[←hH];have sv:Same H0 H1:=hH▸Same.upd nsb;have L1:LT K H1 sa (s0.reverse.map sL):=⟨as.reverse,by rw[hH,upd_same,wU],by rw[wU];exact M5 (AU a2 λ_ _ q=>sv.tup q)⟩
  have nsa:H sa=none:=by
   cases hq:H sa with
   |none=>rfl
   |some o=>
    by_cases q:sa=r
    ·obtain⟨dr,p,ir⟩:=R1.ins;rw[q,ir] at nsb;cases nsb
    ·rw[s1 sa o hq q] at nsb;cases nsb
  replace R1:=R1.same sv;replace s1:Sb r H H1:=s1.trans sv.sb;have ttx:ta≠sa\/KTx K ta (cs.map cV):=HA Rr.tx nsa;obtain⟨M,hM⟩:∃M,M=mBs mBN (t.length+1) s0.reverse t:=⟨_,rfl⟩
  rw[←hM] at k;have hls:(s0.reverse).length<=6:=by rw[sM];exact hnl.2
  have hr0:=Rr.rl;refine⟨λm σ H'=>Ex4 λ(z9:List UInt8) (acc:List Stop) (g:Nat) (r2:Option V)=>σ=[some (.ref r),some (.ref sa),r2]/\Sb r H H'/\Rd K C H' r ta cs e z9/\LT K H' sa (acc.map sL)/\M=mBs mBN g acc z9/\z9.length<g/\acc.length+z9.length<=6+t.length/\m=z9.length,
   ⟨t.length,t,s0.reverse,t.length+1,none,rfl,s1,R1,L1,hM,by omega,by omega,rfl⟩,?_⟩
  rintro m σ H2 ⟨z9,acc,g,r2,rfl,s2,R2,L2,em,hg,ha,rfl⟩;obtain⟨g,rfl⟩:∃g',g=g'+1:=⟨g - 1,by omega⟩
  rw[mBs] at em;refine⟨_,rfl,r,ta,cs,e,z9,rfl,R2,λH3 s3=>?_⟩;have R3:=R2.same s3;have L3:LT K H3 sa (acc.map sL):=(Same.kp s3).lt L2;have s23:Sb r H H3:=s2.trans s3.sb;cases hs:see " " z9 with
  |false=>
   rw[Af (by rw[hs];decide)] at em;rw[em] at k;exact BM ⟨_,rfl,k H3 sa R3 s23 nsa L3⟩
  |true=>
   rw[Ae hs] at em;refine DS ⟨_,rfl,r,ta,cs,e,z9,rfl,R3,?_⟩;cases hk:sk (" ":Str).cps.toList z9 with
   |none=>simp only[hk] at em;rw[em] at k;exact AJ rfl k
   |some x=>
    obtain⟨_,t4⟩:=x;simp only[hk] at em;obtain⟨dr3,p3,ir3⟩:=R3.ins;refine AK rfl λH4 R4 s4=>⟨_,rfl,r,ta,cs,e,t4,rfl,R4,λst=>?_⟩
    have L4:=L3.sb s4 ir3;obtain⟨dr4,p4,ir4⟩:=R4.ins;refine⟨_,rfl,_,rfl,r,ta,cs,e,t4,rfl,R4,?_⟩;cases hb:mBN t4 with
    |none=>simp only[hb] at em;rw[em] at k;exact AJ rfl k
    |some x=>
     obtain⟨b,u⟩:=x;simp only[hb] at em;refine AK rfl λH5 R5 s5=>⟨(by rw[bz];show 2<=16777216;decide),λpa npa=>⟨_,rfl,?_⟩⟩
     have L5:=L4.sb s5 ir4;have sp:Same H5 (upd H5 pa (.tup [DF b,V.int 0])):=Same.upd npa;have hl1:t4.length+1=z9.length:=BK hk;have hl2:=LL hb;refine⟨sa,pa,acc,⟨b,0⟩,st,rfl,(Same.kp sp).lt L5,SqT.of upd_same,by omega,?_⟩;cases ho:CU acc ⟨b,0⟩ with
     |false=>
      rw[Af (by rw[ho];decide)] at em;rw[em] at k;exact BM (k st)
     |true=>
      rw[Ae ho] at em;refine BV λH6 L6 s6=>⟨u.length,by omega,u,acc++[⟨b,0⟩],g,_,rfl,?_,?_,L6,em,by omega,?_,rfl⟩
      ·have q:Sb r H (upd H5 pa (.tup [DF b,V.int 0])):=((s23.trans s4).trans s5).trans sp.sb;exact λb' o eb hb'=>s6 b' o (q b' o eb hb') (AG eb nsa)
      ·obtain⟨as,a1,_⟩:=(Same.kp sp).lt L5;exact(R5.same sp).app a1 ttx s6
      ·rw[br];simp;omega
end
open PySem PySem.Spec PyProof.Rows L2
theorem VJ {b:Int}:∀{f j:Nat} {l t:List UInt8} {n:Nat},mTm b f j l=some (n,t)->t.length<=l.length
 |0,j,l,t,n,h=>by rw[mTm] at h;cases h;exact aw _
 |f+1,j,l,t,n,h=>by
  rw[mTm] at h;split at h
  ·cases hp:pk zX l with
   |none=>rw[hp] at h;cases h
   |some x=>
    obtain⟨i,y⟩:=x;rw[hp] at h;have h1:=(EM hp).1;have:=VJ (f:=f) h;omega
  ·cases h;exact aw _
theorem PU {l:List UInt8} {s:Stop} (h:mGS l=some (s,t)):t.length<l.length:=by
 unfold mGS at h;split at h
 ·cases hs:sk ("-":Str).cps.toList l with
  |none=>rw[hs] at h;cases h
  |some x=>
   obtain⟨_,y⟩:=x;simp only[hs] at h;cases hp:mBN y with
   |none=>rw[hp] at h;cases h
   |some x=>
    obtain⟨i,v⟩:=x;rw[hp] at h;cases h;have h1:y.length+1=l.length:=BK hs;have:=LL hp;omega
 ·split at h
  ·cases hp:pk "54321" l with
   |none=>rw[hp] at h;cases h
   |some x=>obtain⟨i,y⟩:=x;rw[hp] at h;cases h;have:=(EM hp).1;omega
  ·split at h
   ·cases hp:pk zP l with
    |none=>rw[hp] at h;cases h
    |some x=>obtain⟨i,y⟩:=x;rw[hp] at h;cases h;have:=(EM hp).1;omega
   ·unfold mCr at h;cases hp:pk zX l with
    |none=>rw[hp] at h;cases h
    |some x=>
     obtain⟨i,y⟩:=x;simp only[hp] at h;cases hm:mTm (bt l) 2 0 y with
     |none=>rw[hm] at h;cases h
     |some x=>
      obtain⟨j,v⟩:=x;rw[hm] at h;cases h;have:=(EM hp).1;have:=VJ hm;omega
section
variable {P:bb} {w:bw} {K:aa} {mg:Str->Option ah} {base:cq} {C CI CT:ag} {dz fz:Str}
theorem TF:FnScope ["reader","stops","start"] ["reader"] (AH C0):={}
theorem iR (F:Fun K "read_german_stops" "read_german_stops" C0 f fd) (R:RdE P w K mg base C CT dz)
 (D2:Def P w K mg base 6 "read_german_stop" ["reader"] (E5 K C CT λl=>sT (mGS l))) (D3:Def P w K mg base 3 "add_stop" ["stops","stop","start"] (VG K CT)):
 FnOk P w K mg base (CX1 P w) 7 f fd ["reader"] (WZ K C CT mGr):=by
 refine F.okx TF λAc A outer s H vs Q E hr h=>?_;obtain⟨r,ta,cs,e,z8,rfl,Rr,hcs,k⟩:=h;refine⟨_,(AB (AZ (BH R hr AD (pv 0) AS (oks (by decide +kernel))) (AB (BI R hr AD (pv 0) AS (oks (by decide +kernel)))
  (AC (AL (DM AF)))) AM)
  (AB (AX 1 TF (DM AF))
  (AC (B4 bq (DH QF)
  (AB (AX 2 TF (B1 R (pv 0)))
  (AB (AY (D3.call hr AD (AA (pv 1) (AA (GG D2 hr AD (pv 0)) (AA (pv 2) AF)))))
  (AB (AZ (DU (BH R hr AD (pv 0) AS (oks (by decide +kernel)))) (AC (AL (pv 1))) AM)
  (AC (BI R hr AD (pv 0) AS (oks (by decide +kernel))))))))))),?_⟩
 and_intros
 unfold mGr at k;refine⟨_,rfl,r,ta,cs,e,z8,rfl,Rr,λH1 s1=>?_⟩;have R1:=Rr.same s1;cases h1:see "." z8 with
 |true=>
  rw[Ae h1] at k;refine BV ⟨_,rfl,r,ta,cs,e,z8,rfl,R1,?_⟩;cases hs:sk (".":Str).cps.toList z8 with
  |none=>simp only[hs] at k;exact AJ rfl k
  |some x=>
   obtain⟨_,t⟩:=x;simp only[hs] at k;refine AK rfl λH2 R2 s2=>⟨dm _,λsa nsa=>?_⟩
   have sv:Same H2 (upd H2 sa (.lst [])):=Same.upd nsa;have s12:Sb r H H2:=s1.sb.trans s2;refine k _ sa (R2.same sv) (s12.trans sv.sb) ?_ ⟨[],upd_same,.nil⟩;cases hq:H sa with
   |none=>rfl
   |some o=>
    by_cases q:sa=r
    ·obtain⟨dr,p,ir⟩:=R2.ins;rw[q,ir] at nsa;cases nsa
    ·rw[s12 sa o hq q] at nsa;cases nsa
 |false=>
  rw[Af (by rw[h1];decide)] at k;refine BM ⟨dm _,λsa nsa1=>?_⟩;have nsa:H sa=none:=by
   cases hq:H sa with
   |none=>rfl
   |some o=>rw[s1 sa o hq] at nsa1;cases nsa1
  have sv:Same H1 (upd H1 sa (.lst [])):=Same.upd nsa1;have ttx:ta≠sa\/KTx K ta (cs.map cV):=HA Rr.tx nsa;obtain⟨M,hM⟩:∃M,M=mGl (z8.length+1) [] z8:=⟨_,rfl⟩
  rw[←hM] at k;have hr0:=Rr.rl;refine⟨λm σ H'=>Ex4 λ(z9:List UInt8) (acc:List Stop) (g:Nat) (r2:Option V)=>σ=[some (.ref r),some (.ref sa),r2]/\Sb r H H'/\Rd K C H' r ta cs e z9/\LT K H' sa (acc.map sL)/\M=mGl g acc z9/\z9.length<g/\acc.length+z9.length<=z8.length/\m=z9.length,
   ⟨z8.length,z8,[],z8.length+1,none,rfl,(s1.trans sv).sb,R1.same sv,⟨[],upd_same,.nil⟩,hM,by omega,by simp,rfl⟩,?_⟩
  rintro m σ H2 ⟨z9,acc,g,r2,rfl,s2,R2,L2,em,hg,ha,rfl⟩;obtain⟨g,rfl⟩:∃g',g=g'+1:=⟨g - 1,by omega⟩
  rw[mGl] at em;refine⟨_,rfl,DS ?_⟩
  and_intros
  refine⟨_,rfl,r,ta,cs,e,z9,rfl,R2,λst=>?_⟩;obtain⟨dr2,p2,ir2⟩:=R2.ins;refine⟨_,rfl,_,rfl,r,ta,cs,e,z9,rfl,R2,?_⟩;cases hb:mGS z9 with
  |none=>simp only[hb] at em;rw[em] at k;exact D8 (by show sT (mGS z9)=_;rw[hb];rfl) k
  |some x=>
   obtain⟨s,u⟩:=x;simp only[hb] at em;refine D9 (by show sT (mGS z9)=_;rw[hb];rfl) λH3 pa R3 s3 hp=>⟨_,rfl,?_⟩
   have L3:=L2.sb s3 ir2;have hl:=PU hb;refine⟨sa,pa,acc,s,st,rfl,L3,hp,by omega,?_⟩;cases ho:CU acc s with
   |false=>
    rw[Af (by rw[ho];decide)] at em;rw[em] at k;exact BM (k st)
   |true=>
    rw[Ae ho] at em;refine BV λH4 L4 s4=>?_;have q3:Sb r H H3:=s2.trans s3;have q4:Sb r H H4:=λb' o eb hb'=>s4 b' o (q3 b' o eb hb') (AG eb nsa);have R4:Rd K C H4 r ta cs e u:=by
     obtain⟨as,a1,_⟩:=L3;exact R3.app a1 ttx s4
    refine⟨_,rfl,r,ta,cs,e,u,rfl,R4,λH5 s5=>?_⟩;have R5:=R4.same s5;have L5:LT K H5 sa ((acc++[s]).map sL):=(Same.kp s5).lt L4;cases hs:see " " u with
    |false=>
     rw[Af (by rw[hs];decide)] at em;rw[em] at k;exact BV ⟨_,rfl,k H5 sa R5 (q4.trans s5.sb) nsa L5⟩
    |true=>
     rw[Ae hs] at em;refine BM ⟨_,rfl,r,ta,cs,e,u,rfl,R5,?_⟩;cases hk:sk (" ":Str).cps.toList u with
     |none=>simp only[hk] at em;rw[em] at k;exact AJ rfl k
     |some x=>
      obtain⟨_,v⟩:=x;simp only[hk] at em;obtain⟨dr5,p5,ir5⟩:=R5.ins;have hl1:v.length+1=u.length:=BK hk;refine AK rfl λH6 R6 s6=>⟨v.length,by omega,v,acc++[s],g,_,rfl,(q4.trans s5.sb).trans s6,R6,L5.sb s6 ir5,em,by omega,?_,rfl⟩
      rw[br];simp;omega
def mSt (kd:Nat) (l:List UInt8):Option (List Stop×List UInt8):=if kd=0 then mFr l else if kd=1 then mIt l else mGr l
def eN (K:aa) (C CT:ag):Sp:=λvs H Q E=>Ex6 λ(r ta:ag) (cs:List UInt8) (e:Nat) (z8:List UInt8) (kd:Nat)=>vs=[.ref r,.int (kd:Nat)]/\Rd K C H r ta cs e z8/\cs.length<=100000/\S8 K C CT r ta cs e H Q E (mSt kd z8)
theorem iS:FnScope ["reader","kind"] ["reader","kind"] (AH GE):={}
theorem iU (F:Fun K "read_stops" "read_stops" GE f fd) (g0:GI mg "FRENCH" 0) (g1:GI mg "ITALIAN" 1)
 (D1:Def P w K mg base 6 "read_french_stops" ["reader"] (WZ K C CT mFr)) (D2:Def P w K mg base 6 "read_italian_stops" ["reader"] (WZ K C CT mIt)) (D3:Def P w K mg base 7 "read_german_stops" ["reader"] (WZ K C CT mGr)):
 FnOk P w K mg base (CX1 P w) 8 f fd ["reader","kind"] (eN K C CT):=by
 refine F.okx iS λAc A outer s H vs Q E hr h=>?_;obtain⟨r,ta,cs,e,z8,kd,rfl,Rr,hcs,k⟩:=h;refine⟨_,(AB (AZ (AO C1 (pv 1) (B6 g0) (AQ _)) (AC (AL (D1.call hr AD (AA (pv 0) AF)))) AM)
  (AB (AZ (AO C1 (pv 1) (B6 g1) (AQ _)) (AC (AL (D2.call hr AD (AA (pv 0) AF)))) AM)
  (AC (AL (D3.call hr AD (AA (pv 0) AF)))))),?_⟩
 and_intros
 unfold mSt at k;refine⟨V.int (kd:Nat),rfl,rfl,_,rfl,CF (λh0=>?_) (λh0=>?_)⟩
 ·have e0:kd=0:=by
   have q:=of_decide_eq_true h0;injection q with q;omega
  rw[Ae e0] at k;exact⟨_,rfl,r,ta,cs,e,z8,rfl,Rr,hcs,k⟩
 ·have e0:¬kd=0:=λq=>h0 (decide_eq_true (by rw[q];rfl));rw[Af e0] at k;refine⟨V.int (kd:Nat),rfl,rfl,_,rfl,CF (λh1=>?_) (λh1=>?_)⟩
  ·have e1:kd=1:=by
    have q:=of_decide_eq_true h1;injection q with q;omega
   rw[Ae e1] at k;exact⟨_,rfl,r,ta,cs,e,z8,rfl,Rr,hcs,k⟩
  ·have e1:¬kd=1:=λq=>h1 (decide_eq_true (by rw[q];rfl));rw[Af e1] at k;exact⟨_,rfl,r,ta,cs,e,z8,rfl,Rr,hcs,k⟩
end
open PySem PySem.Spec PyProof.Rows L2
def lnf (n:Int) (sa:ag):List (Str×V):=[("length",.int n),("stops",.ref sa)]
theorem ZN (n:Int) (sa:ag):(lnf n sa).lookup ("length":Str)=some (.int n):=rfl
theorem ZO (n:Int) (sa:ag):(lnf n sa).lookup ("stops":Str)=some (.ref sa):=rfl
theorem iV (n:Int) (sa:ag) {m:Str} (h1:(m=="length")=false) (h2:(m=="stops")=false):(lnf n sa).lookup m=none:=by
 unfold lnf;simp only[jc,h1,h2]
structure LnC (K:aa) (CL:ag):Prop where
 cl:Cls K CL
 nl:NoAttr K CL "length"
 ns:NoAttr K CL "stops"
def iW (CL:ag):Sp:=λvs H Q _=>Ex4 λ(x dx sa:ag) (n:Int)=>vs=[.ref x,.int n,.ref sa]/\H x=some (.ins CL dx [])/\∀H',H' x=some (.ins CL dx (lnf n sa))->Sb x H H'->Q .non H'
def eO (CL:ag):Sp:=λvs H Q _=>Ex4 λ(x dx sa:ag) (n:Int)=>vs=[.ref x]/\H x=some (.ins CL dx (lnf n sa))/\Q (.bl (decide (n=0))) H
def hd1 (z:Str):Str:=⟨#[z.cps.toList.headD 0]⟩
def mKd:List Str->Nat->List UInt8->Option (Nat×List UInt8)
 |[],_,_=>none
 |z::zs,i,l=>if see (hd1 z) l=true then(match sk z.cps.toList l with
  |none=>none
  |some (_,t)=>some (i,t)) else mKd zs (i+1) l
def kws:List Str:=["french\n","italian\n","german\n"]
def zL:Str:="xtseqhw"
def lens:List Int:=[1,2,4,8,16,32,64]
def mLn (before:Nat) (l:List UInt8):Option (Nat×List UInt8):=if see " " l=true then(if before=0 then none else match sk (" ":Str).cps.toList l with
 |none=>none
 |some (_,t)=>some (before,t))
 else match pk zL l with
  |none=>none
  |some (i,t)=>if 0<i/\see "." t=true then(match sk (".":Str).cps.toList t with
   |none=>none
   |some (_,u)=>match sk (" ":Str).cps.toList u with
    |none=>none
    |some (_,v)=>if 2 ^ i+2 ^ i / 2=before then none else some (2 ^ i+2 ^ i / 2,v))
   else match sk (" ":Str).cps.toList t with
    |none=>none
    |some (_,v)=>if 2 ^ i=before then none else some (2 ^ i,v)
def eP (K:aa) (C CT:ag):Sp:=λvs H Q E=>Ex6 λ(r ta:ag) (cs:List UInt8) (e:Nat) (z8:List UInt8) (b:Nat)=>vs=[.ref r,.int (b:Nat)]/\Rd K C H r ta cs e z8/\Got K C CT r ta cs e H Q E DF (mLn b z8)
theorem cP (h:i<7):(lens.map V.int)[i]? =some (.int ((2 ^ i:Nat):Int)):=by
 match i,h with
 |0,_=>rfl
 |1,_=>rfl
 |2,_=>rfl
 |3,_=>rfl
 |4,_=>rfl
 |5,_=>rfl
 |6,_=>rfl
section
variable {P:bb} {w:bw} {K:aa} {mg:Str->Option ah} {base:cq} {C CL CT:ag} {dz fz:Str}
theorem n9:FnScope ["self","length","stops"] ["self","length","stops"] (AH G5):={}
theorem oA (F:Fun K "__init__" "Line.__init__" G5 f fd) (T:LnC K CL):FnOk P w K mg base (CX1 P w) 1 f fd ["self","length","stops"] (iW CL):=by
 refine F.okx n9 λAc A outer s H vs Q E hr h=>?_;obtain⟨x,dx,sa,n,rfl,hx,k⟩:=h;refine⟨_,(AB (CO (pv 0) (pv 1) rfl)
  (AC (CO (pv 0) (pv 2) rfl))),?_⟩
 and_intros
 refine⟨_,rfl,_,rfl,x,CL,dx,[],rfl,hx,T.cl,T.nl,(by decide),?_⟩;refine⟨_,rfl,_,rfl,x,CL,dx,_,rfl,upd_same,T.cl,T.ns,(by show 1<1000;decide),?_⟩;exact k _ upd_same λb o e hb=>by rw[AE hb,AE hb];exact e
theorem oB:FnScope ["self"] ["self"] (AH FW):={}
theorem oC (F:Fun K "is_bar" "Line.is_bar" FW f fd) (T:LnC K CL):FnOk P w K mg base (CX1 P w) 1 f fd ["self"] (eO CL):=by
 refine F.okx oB λAc A outer s H vs Q E hr h=>?_;obtain⟨x,dx,sa,n,rfl,hx,k⟩:=h;refine⟨_,(AC (AL (DL C1 (AV (pv 0) rfl) AI (AQ _)))),?_⟩
 subst_eqs
 refine⟨_,rfl,x,CL,dx,_,_,rfl,hx,T.cl,T.nl,ZN _ _,rfl,?_⟩;have e0:decide (V.int n=V.int 0)=decide (n=0):=by
  rw[decide_eq_decide];exact⟨λq=>by injection q,λq=>by rw[q]⟩
 show Q (V.bl (decide (V.int n=V.int 0))) H;rw[e0];exact k
theorem ZP:FnScope ["reader","kind","word"] ["reader"] (AH G6):={}
theorem iX (h:z∈kws):OkS (hd1 z)/\OkS z/\z.length<=100/\z.cps.toList[0]? =some (z.cps.toList.headD 0):=by
 have:z="french\n"\/z="italian\n"\/z="german\n":=by simpa [kws] using h
 rcases this with rfl|rfl|rfl
 ·exact⟨oks (by decide +kernel),oks (by decide +kernel),by decide +kernel,rfl⟩
 ·exact⟨oks (by decide +kernel),oks (by decide +kernel),by decide +kernel,rfl⟩
 ·exact⟨oks (by decide +kernel),oks (by decide +kernel),by decide +kernel,rfl⟩
theorem oE (F:Fun K "read_kind" "read_kind" G6 f fd) (B:Blt mg) (R:RdE P w K mg base C CT dz) (gk:GT K mg "KIND_WORDS" (kws.map V.str)):FnOk P w K mg base (CX1 P w) 5 f fd ["reader"] (GK K C CT (mKd kws 0) DF):=by
 refine F.okx ZP λAc A outer s H vs Q E hr h=>?_;obtain⟨r,ta,cs,e,z8,rfl,Rr,k⟩:=h;refine⟨_,(AB (CD bq rfl (QZ (by rfl) B.enum (AA (OB gk) AF)) (JN rfl (CA (DW 1 ZP) (CA (DW 2 ZP) HF)))
  (AC (AZ (DH (R.se.call (pv 0) hr AD (AA (BO f8 (pv 2) AI (λ_ _=>rfl)) AF))) (AB (AY (R.sk.call (pv 0) hr AD (AA (pv 2) AF)))
  (AC (AL (pv 1)))) AM)))
  (AC (BE R.X1 hr AD rfl (B1 R (pv 0))))),?_⟩
 and_intros
 intro ka hka;obtain⟨M,hM⟩:∃M,M=mKd kws 0 z8:=⟨_,rfl⟩
 have k:Got K C CT r ta cs e H Q E DF M:=by rw[hM];exact k
 refine⟨ka,kws.map V.str,rfl,hka _,GA (n:=3) (λi σ H'=>Same H H'/\(Ex2 λr1 r2=>σ=[some (.ref r),r1,r2])/\i<=3/\M=mKd (kws.drop i) i z8) ⟨Same.refl _,⟨none,none,rfl⟩,by omega,hM⟩ ?_ ?_ ?_ ?_⟩
 ·rintro i σ H' hi _;have Ad:i<kws.length:=hi;exact⟨kws.map V.str,.str kws[i],hka H',by rw[az,am Ad];rfl⟩
 ·rintro σ H' _;exact⟨kws.map V.str,hka H',rfl⟩
 ·rintro i v σ H1 H2 hi ⟨s1,⟨r1,r2,rfl⟩,_,em⟩ ⟨T,xv,rfl,nT,rfl,hxv⟩;have Ad:i<kws.length:=hi;have hxv':=hxv _ (hka H1);rw[az,am Ad] at hxv';cases hxv';obtain⟨z,hz⟩:∃z,z=kws[i]:=⟨_,rfl⟩
  rw[←hz];obtain⟨o1,o2,o3,o4⟩:=iX (z:=z) (by rw[hz];exact jf _);have ed:kws.drop i=z::kws.drop (i+1):=by rw[jj Ad,hz]
  rw[ed,mKd] at em;have s2:Same H (upd H1 T (.tup [.int (i:Nat),.str z])):=s1.trans (Same.upd nT);have R2:=Rr.same s2;obtain⟨dr,p,ir⟩:=R2.ins;refine⟨T,_,rfl,SqT.of upd_same,rfl,_,_,rfl,_,_,rfl,rfl,?_⟩;refine⟨V.ref r,rfl,r,dr,_,rfl,ir,UV _ _ _,V.str z,rfl,z,0,_,rfl,rfl,(by rw[bz];omega),EO (j:=0) o4,r,ta,cs,e,z8,hd1 z,rfl,R2,o1,λH3 s3=>⟨_,rfl,?_⟩⟩;have R3:=R2.same s3;cases hs:see (hd1 z) z8 with
  |false=>
   rw[Af (by rw[hs];decide)] at em;exact BM ⟨s2.trans s3,⟨_,_,rfl⟩,by omega,em⟩
  |true=>
   rw[Ae hs] at em;obtain⟨dr3,p3,ir3⟩:=R3.ins;refine BV ⟨V.ref r,rfl,r,dr3,_,rfl,ir3,PM _ _ _,V.str z,rfl,r,ta,cs,e,z8,z,rfl,R3,o2,?_⟩;cases hk:sk z.cps.toList z8 with
   |none=>rw[hk] at em;rw[em] at k;exact AJ rfl k
   |some x=>
    obtain⟨_,t⟩:=x;rw[hk] at em;rw[em] at k;exact AK rfl λH4 R4 s4=>⟨V.int (i:Nat),rfl,k H4 R4 ((s2.trans s3).sb.trans s4)⟩
 ·rintro σ H1 ⟨s1,⟨r1,r2,rfl⟩,_,em⟩;have e3:kws.drop 3=[]:=rfl;rw[e3,mKd] at em;rw[em] at k;exact⟨V.ref r,rfl,r,ta,cs,e,z8,rfl,Rr.same s1,λz=>⟨z,rfl,k z⟩⟩
theorem sc_rl:FnScope ["reader","before","start","length"] ["reader","before"] (AH CQ):={}
theorem oF (F:Fun K "read_length" "read_length" CQ f fd) (R:RdE P w K mg base C CT dz) (gl:GS mg "LENGTH_SIGNS" zL) (gt:GT K mg "LENGTHS" (lens.map V.int)):FnOk P w K mg base (CX1 P w) 5 f fd ["reader","before"] (eP K C CT):=by
 refine F.okx sc_rl λAc A outer s H vs Q E hr h=>?_;obtain⟨r,ta,cs,e,z8,b,rfl,Rr,k⟩:=h;refine⟨_,(AB (AX 2 sc_rl (B1 R (pv 0)))
  (AB (AZ (BH R hr AD (pv 0) AS (oks (by decide +kernel)))
  (AB (AZ (AO C1 (pv 1) AI (AQ _)) (AC (BE R.X1 hr AD rfl (pv 2))) AM)
  (AB (BI R hr AD (pv 0) AS (oks (by decide +kernel)))
  (AC (AL (pv 1))))) AM)
  (AB (AX 3 sc_rl (BO (FD K) (OB gt) (ER R hr AD (pv 0) (E4 gl) (oks (by decide +kernel))) (λ_ _=>rfl)))
  (AB (AZ (GM (AO E9 (pv 3) AI (AQ _)) (E8 (BH R hr AD (pv 0) AS (oks (by decide +kernel))))).pt
  (AB (BI R hr AD (pv 0) AS (oks (by decide +kernel)))
  (AC (JO (i:=3) sc_rl.nd rfl (uK rfl) (BD LC (pv 3) AI) JP))) AM)
  (AB (BI R hr AD (pv 0) AS (oks (by decide +kernel)))
  (AB (AZ (AO C1 (pv 3) (pv 1) (AQ _)) (AC (BE R.X1 hr AD rfl (pv 2))) AM)
  (AC (AL (pv 3))))))))),?_⟩
 and_intros
 unfold mLn at k;refine⟨_,rfl,r,ta,cs,e,z8,rfl,Rr,λst=>?_⟩;refine⟨_,rfl,r,ta,cs,e,z8,rfl,Rr,λH1 s1=>?_⟩;have R1:=Rr.same s1;cases h1:see " " z8 with
 |true=>
  rw[Ae h1] at k;refine BV ⟨V.int (b:Nat),rfl,rfl,_,rfl,CF (λh0=>?_) (λh0=>?_)⟩
  ·have e0:b=0:=by
    have q:=of_decide_eq_true h0;injection q with q;omega
   rw[Ae e0] at k;exact⟨V.int st,rfl,st,rfl,k st⟩
  ·have e0:¬b=0:=λq=>h0 (decide_eq_true (by rw[q];rfl));rw[Af e0] at k;refine⟨_,rfl,r,ta,cs,e,z8,rfl,R1,?_⟩;cases hs:sk (" ":Str).cps.toList z8 with
   |none=>rw[hs] at k;exact AJ rfl k
   |some x=>
    obtain⟨_,t⟩:=x;rw[hs] at k;exact AK rfl λH2 R2 s2=>⟨V.int (b:Nat),rfl,k H2 R2 (s1.sb.trans s2)⟩
 |false=>
  rw[Af (by rw[h1];decide)] at k;refine BM λla hla=>⟨_,rfl,r,ta,cs,e,z8,rfl,R1,?_⟩
  cases hp:pk zL z8 with
  |none=>simp only[hp] at k;exact AJ rfl k
  |some x=>
   obtain⟨i,t⟩:=x;simp only[hp] at k;have hi:i<7:=(EM hp).2;refine AK rfl λH2 R2 s2=>⟨la,_,_,_,rfl,rfl,hla _,EO (cP hi),?_⟩
   have sb2:Sb r H H2:=s1.sb.trans s2;have tail:∀(n:Nat) (H3:Hp) (t':List UInt8),Sb r H H3->Rd K C H3 r ta cs e t'->Got K C CT r ta cs e H Q E DF (match sk (" ":Str).cps.toList t' with
    |none=>none
    |some (_,v)=>if n=b then none else some (n,v))->
    (AT (MV K C CT E (BT 0) " ") (AT (WD (QI (tOp rEq (BT 3) (BT 1))) (J4 CT E (BT 2)) XQ) (WC (BT 3)))) { nx:=λ_ H'=>Q .non H',rt:=Q } [some (.ref r),some (.int (b:Nat)),some (.int st),some (.int (n:Nat))] H3:=by
    intro n H3 t' s3 R3 k;refine⟨_,rfl,r,ta,cs,e,t',rfl,R3,?_⟩;cases hs:sk (" ":Str).cps.toList t' with
    |none=>rw[hs] at k;exact AJ rfl k
    |some x=>
     obtain⟨_,v⟩:=x;simp only[hs] at k;refine AK rfl λH4 R4 s4=>⟨_,rfl,_,rfl,rfl,_,rfl,CF (λh0=>?_) (λh0=>?_)⟩
     ·have e0:n=b:=by
       have q:=of_decide_eq_true h0;injection q with q;omega
      rw[Ae e0] at k;exact⟨V.int st,rfl,st,rfl,k st⟩
     ·have e0:¬n=b:=λq=>h0 (decide_eq_true (by rw[q]));rw[Af e0] at k;exact⟨V.int (n:Nat),rfl,k H4 R4 (s3.trans s4)⟩
   refine⟨_,rfl,_,_,rfl,rfl,_,rfl,?_⟩;by_cases h0:0<i
   ·have hgt:decide ((1:Int)<((2 ^ i:Nat):Int))=true:=decide_eq_true (by have:2 ^ 1<=2 ^ i:=lv (by decide) h0;omega);show if decide ((1:Int)<((2 ^ i:Nat):Int))=true then _ else _;rw[hgt];refine BV ⟨_,rfl,r,ta,cs,e,t,rfl,R2,λH3 s3=>?_⟩;have R3:=R2.same s3;cases h2:see "." t with
    |true=>
     rw[Ae ⟨h0,h2⟩] at k;refine BV ⟨_,rfl,r,ta,cs,e,t,rfl,R3,?_⟩;cases hs:sk (".":Str).cps.toList t with
     |none=>simp only[hs] at k;exact AJ rfl k
     |some x=>
      obtain⟨_,u⟩:=x;simp only[hs] at k;refine AK rfl λH4 R4 s4=>⟨_,rfl,_,rfl,_,_,rfl,rfl,(show(0:Int)<2/\(2:Int)<1073741824 from by decide),_,_,rfl,rfl,?_⟩
      have en:(((2 ^ i:Nat):Int)+((2 ^ i:Nat):Int) / 2)=((2 ^ i+2 ^ i / 2:Nat):Int):=by omega
      have q:=tail (2 ^ i+2 ^ i / 2) H4 u ((sb2.trans s3.sb).trans s4) R4 k;rw[←en] at q;exact q
    |false=>
     rw[Af (by rw[h2];rintro ⟨_,q⟩;cases q)] at k;exact BM (tail (2 ^ i) H3 t (sb2.trans s3.sb) R3 k)
   ·have hgt:decide ((1:Int)<((2 ^ i:Nat):Int))=false:=by
     have:i=0:=by omega
     subst this;decide
    rw[Af (λq=>h0 q.1)] at k;refine WV hgt (BM (tail (2 ^ i) H2 t sb2 R2 k))
end
open PySem PySem.Spec PyProof.Rows L2
def mPl (kd before:Nat) (l:List UInt8):Option (Ln×List UInt8):=if see "|" l=true then(match sk ("|\n":Str).cps.toList l with
 |none=>none
 |some (_,t)=>some ((0,[]),t))
 else match mLn before l with
  |none=>none
  |some (n,t)=>match mSt kd t with
   |none=>none
   |some (st,u)=>match sk ("\n":Str).cps.toList u with
    |none=>none
    |some (_,v)=>some ((n,st),v)
def mLs (kd:Nat):Nat->List Ln->Nat->List UInt8->Option (List Ln)
 |0,_,_,_=>none
 |f+1,acc,len,l=>if l.isEmpty=true then(if len=0 then none else some acc) else if acc.length=512 then none else match mPl kd len l with
  |none=>none
  |some ((n,st),t)=>mLs kd f (acc++[(n,st)]) (if n=0 then len else n) t
def mPc (cs:List UInt8):Option (List Ln):=match mKd kws 0 cs with
 |none=>none
 |some (kd,t)=>mLs kd (t.length+1) [] 0 t
def LnB (K:aa) (CL al:ag) (H:Hp) (x:ag) (p:Ln):Prop:=Ex2 λdx sa=>sa≠al/\H x=some (.ins CL dx (lnf (p.1:Nat) sa))/\LT K H sa (p.2.map sL)
def LnsA (K:aa) (CL:ag) (H:Hp) (al:ag) (ps:List Ln):Prop:=∃as:List ag,H al=some (.lst (as.map V.ref))/\cf (λx p=>LnB K CL al H x p) as ps
theorem iY {n:Int} {sa:ag} {p e:Int}:lnf n sa≠rf ta p e:=by
 intro q;have:=congrArg ou q;simp[lnf,rf] at this
theorem LnB.sb {K:aa} {al dx x:ag} {p e:Int} {q:Ln} (h:LnB K CL al H x q) (s:Sb r H H') (ir:H r=some (.ins C dx (rf ta p e))):LnB K CL al H' x q:=by
 obtain⟨dl,sa,hn,h1,h2⟩:=h;exact⟨dl,sa,hn,s _ _ h1 (B2 h1 ir (by intro z;injection z with _ _ z;exact iY z)),h2.sb s ir⟩
theorem LnB.same {K:aa} {al x:ag} {q:Ln} (h:LnB K CL al H x q) (s:Same H H'):LnB K CL al H' x q:=by
 obtain⟨dl,sa,hn,h1,h2⟩:=h;exact⟨dl,sa,hn,s _ _ h1,(Same.kp s).lt h2⟩
theorem LT.sbl {K:aa} {al:ag} (h:LT K H a ls) (s:Sb al H H') (hal:H al=some (.lst xs)) (n:a≠al):LT K H' a ls:=by
 obtain⟨as,h1,h2⟩:=h;exact⟨as,s _ _ h1 n,AU h2 λ_ _ q=>Sb.nt s hal q⟩
theorem LnB.app {K:aa} {al x:ag} {q:Ln} (h:LnB K CL al H x q) (s:Sb al H H') (hal:H al=some (.lst xs)):LnB K CL al H' x q:=by
 obtain⟨dl,sa,hn,h1,h2⟩:=h;exact⟨dl,sa,hn,s _ _ h1 (B2 h1 hal (by intro z;cases z)),h2.sbl s hal hn⟩
theorem LnsA.same {K:aa} {al:ag} {ps:List Ln} (h:LnsA K CL H al ps) (s:Same H H'):LnsA K CL H' al ps:=let ⟨as,h1,h2⟩:=h;⟨as,s _ _ h1,AU h2 λ_ _ q=>q.same s⟩
theorem LnsA.sb {K:aa} {al dx:ag} {p e:Int} {ps:List Ln} (h:LnsA K CL H al ps) (s:Sb r H H') (ir:H r=some (.ins C dx (rf ta p e))):LnsA K CL H' al ps:=
 let ⟨as,h1,h2⟩:=h;⟨as,s _ _ h1 (B2 h1 ir (by intro z;cases z)),AU h2 λ_ _ q=>q.sb s ir⟩
def iZ (K:aa) (CR CL CT r ta:ag) (cs:List UInt8) (e:Nat) (H:Hp) (Q:VK) (E:XK):Option (Ln×List UInt8)->Prop
 |some (p,z9)=>∀H' x dx sa,Rd K CR H' r ta cs e z9->Sb r H H'->H sa=none->H' x=some (.ins CL dx (lnf (p.1:Nat) sa))->LT K H' sa (p.2.map sL)->Q (.ref x) H'
 |none=>∀z:Int,E (.ref CT) none (xH [("place",.int z)])
theorem W0 {K:aa} {res:Option (Ln×List UInt8)} (h:res=none) (k:∀z:Int,E (.ref CT) none (xH [("place",.int z)])):iZ K CR CL CT r ta cs e H Q E res:=by
 rw[h];exact k
theorem W1 {K:aa} {res:Option (Ln×List UInt8)} {p:Ln} (h:res=some (p,t)) (k:∀H' x dx sa,Rd K CR H' r ta cs e t->Sb r H H'->H sa=none->H' x=some (.ins CL dx (lnf (p.1:Nat) sa))->LT K H' sa (p.2.map sL)->Q (.ref x) H'):iZ K CR CL CT r ta cs e H Q E res:=by
 rw[h];exact k
def oG (K:aa) (C CL CT:ag):Sp:=λvs H Q E=>Ex7 λ(r ta:ag) (cs:List UInt8) (e:Nat) (z8:List UInt8) (kd b:Nat)=>vs=[.ref r,.int (kd:Nat),.int (b:Nat)]/\Rd K C H r ta cs e z8/\cs.length<=100000/\iZ K C CL CT r ta cs e H Q E (mPl kd b z8)
theorem ZQ {o:HO} (s:Sb r H H') (hr:H' r=some o) (n:H' a=none):H a=none:=by
 cases hq:H a with
 |none=>rfl
 |some o'=>
  by_cases q:a=r
  ·rw[q,hr] at n;cases n
  ·rw[s a o' hq q] at n;cases n
section
variable {P:bb} {w:bw} {K:aa} {mg:Str->Option ah} {base:cq} {C CL CT:ag} {dz fz:Str}
theorem ZR:FnScope ["reader","kind","before","length","stops"] ["reader","kind","before"] (AH DE):={}
theorem oH (F:Fun K "read_line" "read_line" DE f fd) (R:RdE P w K mg base C CT dz) (ML:Mkr P w K mg base 1 CL "Line" ["self","length","stops"] (iW CL))
 (D1:Def P w K mg base 5 "read_length_pieces" ["reader","before"] (eP K C CT)) (D2:Def P w K mg base 8 "read_stops" ["reader","kind"] (eN K C CT)):FnOk P w K mg base (CX1 P w) 9 f fd ["reader","kind","before"] (oG K C CL CT):=by
 refine F.okx ZR λAc A outer s H vs Q E hr h=>?_;obtain⟨r,ta,cs,e,z8,kd,b,rfl,Rr,hcs,k⟩:=h;refine⟨_,(AB (AZ (BH R hr AD (pv 0) AS (oks (by decide +kernel))) (AB (BI R hr AD (pv 0) AS (oks (by decide +kernel)))
  (AC (AL (ML.call hr AD (AA AI (AA (DM AF) AF)))))) AM)
  (AB (AX 3 ZR (D1.call hr AD (AA (pv 0) (AA (pv 2) AF))))
  (AB (AX 4 ZR (D2.call hr AD (AA (pv 0) (AA (pv 1) AF))))
  (AB (BI R hr AD (pv 0) AS (oks (by decide +kernel)))
  (AC (AL (ML.call hr AD (AA (pv 3) (AA (pv 4) AF))))))))),?_⟩
 and_intros
 unfold mPl at k;refine⟨_,rfl,r,ta,cs,e,z8,rfl,Rr,λH1 s1=>?_⟩;have R1:=Rr.same s1;cases h1:see "|" z8 with
 |true=>
  rw[Ae h1] at k;refine BV ⟨_,rfl,r,ta,cs,e,z8,rfl,R1,?_⟩;cases hs:sk ("|\n":Str).cps.toList z8 with
  |none=>simp only[hs] at k;exact AJ rfl k
  |some x=>
   obtain⟨_,t⟩:=x;simp only[hs] at k;refine AK rfl λH2 R2 s2=>⟨dm _,λsa nsa x dx nx nd hne=>⟨x,dx,sa,0,rfl,upd_same,λH3 h3 s3=>⟨rfl,?_⟩⟩⟩
   have s02:Sb r H H2:=s1.sb.trans s2;obtain⟨dr,p,ir⟩:=R2.ins;have sv:Same H2 (upd H2 sa (.lst [])):=Same.upd nsa;have sm:Same (upd H2 sa (.lst [])) H3:=BU nx nd s3 Sb.refl;refine k H3 x dx sa ((R2.same sv).same sm) (s02.trans (sv.trans sm).sb) (ZQ s02 ir nsa) h3 ⟨[],sm _ _ upd_same,.nil⟩
 |false=>
  rw[Af (by rw[h1];decide)] at k;refine BM ⟨_,rfl,_,rfl,r,ta,cs,e,z8,b,rfl,R1,?_⟩;cases hl:mLn b z8 with
  |none=>simp only[hl] at k;exact AJ rfl k
  |some x=>
   obtain⟨n,t⟩:=x;simp only[hl] at k;refine AK rfl λH2 R2 s2=>⟨_,rfl,_,rfl,r,ta,cs,e,t,kd,rfl,R2,hcs,?_⟩
   have s02:Sb r H H2:=s1.sb.trans s2;obtain⟨dr2,p2,ir2⟩:=R2.ins;cases hm:mSt kd t with
   |none=>simp only[hm] at k;exact KA rfl k
   |some x=>
    obtain⟨l,u⟩:=x;simp only[hm] at k;refine KC rfl λH3 sa R3 s3 nsa L3=>⟨_,rfl,r,ta,cs,e,u,rfl,R3,?_⟩
    obtain⟨dr3,p3,ir3⟩:=R3.ins;cases hs:sk ("\n":Str).cps.toList u with
    |none=>simp only[hs] at k;exact AJ rfl k
    |some x=>
     obtain⟨_,v⟩:=x;simp only[hs] at k;refine AK rfl λH4 R4 s4=>⟨_,rfl,_,rfl,λx dx nx nd hne=>⟨x,dx,sa,n,rfl,upd_same,λH5 h5 s5=>⟨rfl,?_⟩⟩⟩
     have L4:=L3.sb s4 ir3;have sm:Same H4 H5:=BU nx nd s5 Sb.refl;exact k H5 x dx sa (R4.same sm) (((s02.trans s3).trans s4).trans sm.sb) (ZQ s02 ir2 nsa) h5 ((Same.kp sm).lt L4)
end
theorem VL {b:Nat} {l:List UInt8} (h:mLn b l=some (n,t)):t.length<l.length:=by
 unfold mLn at h;split at h
 ·split at h
  ·cases h
  ·cases hs:sk (" ":Str).cps.toList l with
   |none=>rw[hs] at h;cases h
   |some x=>
    obtain⟨_,y⟩:=x;rw[hs] at h;cases h;have:t.length+1=l.length:=BK hs;omega
 ·cases hp:pk zL l with
  |none=>rw[hp] at h;cases h
  |some x=>
   obtain⟨i,y⟩:=x;have h1:=(EM hp).1;simp only[hp] at h;split at h
   ·cases hs:sk (".":Str).cps.toList y with
    |none=>rw[hs] at h;cases h
    |some x=>
     obtain⟨_,u⟩:=x;have h2:u.length+1=y.length:=BK hs;simp only[hs] at h;cases hs2:sk (" ":Str).cps.toList u with
     |none=>rw[hs2] at h;cases h
     |some x=>
      obtain⟨_,v⟩:=x;have h3:v.length+1=u.length:=BK hs2;simp only[hs2] at h;split at h
      ·cases h
      ·cases h;omega
   ·cases hs2:sk (" ":Str).cps.toList y with
    |none=>rw[hs2] at h;cases h
    |some x=>
     obtain⟨_,v⟩:=x;have h3:v.length+1=y.length:=BK hs2;simp only[hs2] at h;split at h
     ·cases h
     ·cases h;omega
theorem PV {m:List UInt8->Option (Nat×List UInt8)} (hm:∀{l t n},m l=some (n,t)->t.length<l.length):∀{f:Nat} {acc s:List Stop} {l t:List UInt8},mBs m f acc l=some (s,t)->t.length<=l.length
 |0,_,_,_,_,h=>by rw[mBs] at h;cases h
 |f+1,acc,s,l,t,h=>by
  rw[mBs] at h;split at h
  ·cases hs:sk (" ":Str).cps.toList l with
   |none=>rw[hs] at h;cases h
   |some x=>
    obtain⟨_,y⟩:=x;have h2:y.length+1=l.length:=BK hs;simp only[hs] at h;cases hq:m y with
    |none=>rw[hq] at h;cases h
    |some x=>
     obtain⟨b,u⟩:=x;have h3:=hm hq;simp only[hq] at h;split at h
     ·have:=PV hm h;omega
     ·cases h
  ·cases h;exact aw _
theorem VM:∀{f:Nat} {acc s:List Stop} {l t:List UInt8},mGl f acc l=some (s,t)->t.length<=l.length
 |0,_,_,_,_,h=>by rw[mGl] at h;cases h
 |f+1,acc,s,l,t,h=>by
  rw[mGl] at h;cases hq:mGS l with
  |none=>rw[hq] at h;cases h
  |some x=>
   obtain⟨b,u⟩:=x;have h3:=PU hq;simp only[hq] at h;split at h
   ·split at h
    ·cases hs:sk (" ":Str).cps.toList u with
     |none=>rw[hs] at h;cases h
     |some x=>
      obtain⟨_,y⟩:=x;have h2:y.length+1=u.length:=BK hs;simp only[hs] at h;have:=VM h;omega
    ·cases h;omega
   ·cases h
theorem VN {kd:Nat} {l:List UInt8} {s:List Stop} (h:mSt kd l=some (s,t)):t.length<=l.length:=by
 unfold mSt at h;split at h
 ·unfold mFr at h;cases hn:B3 zF [1,2,3,4,5,6] l with
  |none=>rw[hn] at h;cases h
  |some x=>
   obtain⟨q,y⟩:=x;have h1:=(F8 hn).1;simp only[hn] at h;have:=PV PR h;omega
 ·split at h
  ·unfold mIt at h;cases hn:B3 zI [6,5,4,3,2,1] l with
   |none=>rw[hn] at h;cases h
   |some x=>
    obtain⟨q,y⟩:=x;have h1:=(F8 hn).1;simp only[hn] at h;have:=PV LL h;omega
  ·unfold mGr at h;split at h
   ·cases hs:sk (".":Str).cps.toList l with
    |none=>rw[hs] at h;cases h
    |some x=>
     obtain⟨_,y⟩:=x;have h2:y.length+1=l.length:=BK hs;simp only[hs] at h;cases h;omega
   ·exact VM h
theorem cQ {kd b:Nat} {l:List UInt8} {p:Ln} (h:mPl kd b l=some (p,t)):t.length<l.length:=by
 unfold mPl at h;split at h
 ·cases hs:sk ("|\n":Str).cps.toList l with
  |none=>rw[hs] at h;cases h
  |some x=>
   obtain⟨_,y⟩:=x;have h2:y.length+2=l.length:=BK hs;simp only[hs] at h;cases h;omega
 ·cases hn:mLn b l with
  |none=>rw[hn] at h;cases h
  |some x=>
   obtain⟨n,y⟩:=x;have h1:=VL hn;simp only[hn] at h;cases hm:mSt kd y with
   |none=>rw[hm] at h;cases h
   |some x=>
    obtain⟨st,u⟩:=x;have h2:=VN hm;simp only[hm] at h;cases hs:sk ("\n":Str).cps.toList u with
    |none=>rw[hs] at h;cases h
    |some x=>
     obtain⟨_,v⟩:=x;have h3:v.length+1=u.length:=BK hs;simp only[hs] at h;cases h;omega
open PySem PySem.Spec PyProof.Rows L2
def i0 (K:aa) (CL CT:ag) (H:Hp) (Q:VK) (E:XK):Option (List Ln)->Prop
 |some ps=>∀H' al,Same H H'->LnsA K CL H' al ps->Q (.ref al) H'
 |none=>∀z:Int,E (.ref CT) none (xH [("place",.int z)])
theorem PY {K:aa} {res:Option (List Ln)} (k:i0 K CL CT H Q E res) (h:res=none):∀z:Int,E (.ref CT) none (xH [("place",.int z)]):=by
 rw[h] at k;exact k
theorem i5 {K:aa} {res:Option (List Ln)} {ps:List Ln} (k:i0 K CL CT H Q E res) (h:res=some ps):∀H' al,Same H H'->LnsA K CL H' al ps->Q (.ref al) H':=by
 rw[h] at k;exact k
def oI (K:aa) (CL CT:ag):Sp:=λvs H Q E=>Ex2 λ(ta:ag) (cs:List UInt8)=>vs=[.ref ta]/\SqL K H ta (cs.map cV)/\cs.length<=100000/\i0 K CL CT H Q E (mPc cs)
theorem i6 (n:Int) (sa:ag):(lnf n sa).lookup ("is_bar":Str)=none:=iV _ _ (by decide +kernel) (by decide +kernel)
def WPc (K:aa) (C CL:ag) (ta r al:ag) (cs:List UInt8) (kd:Nat) (H:Hp) (M:Option (List Ln)) (m:Nat) (σ:L2.St) (H':Hp):Prop:=
 Ex5 λ(z8:List UInt8) (acc:List Ln) (len g:Nat) (r5:Option V)=>σ=[some (.ref ta),some (.ref r),some (.int (kd:Nat)),some (.ref al),some (.int (len:Nat)),r5]/\Same H H'/\Rd K C H' r ta cs cs.length z8/\LnsA K CL H' al acc/\acc.length<=512/\
  M=mLs kd g acc len z8/\z8.length<g/\m=z8.length
section
variable {P:bb} {w:bw} {K:aa} {mg:Str->Option ah} {base:cq} {C CL CT:ag} {dz fz:Str}
theorem M6:FnScope ["text","reader","kind","lines","length","line"] ["text"] (AH GD):={}
theorem oJ (F:Fun K "read_piece" "read_piece" GD f fd) (B:Blt mg) (R:RdE P w K mg base C CT dz) (T:LnC K CL) (gm:GI mg "MOST_LINES" 512) (MB:Mth P w K mg base 1 CL "is_bar" ["self"] (eO CL))
 (D1:Def P w K mg base 5 "read_kind" ["reader"] (GK K C CT (mKd kws 0) DF)) (D2:Def P w K mg base 9 "read_line_pieces" ["reader","kind","before"] (oG K C CL CT)):FnOk P w K mg base (CX1 P w) 10 f fd ["text"] (oI K CL CT):=by
 refine F.okx M6 λAc A outer s H vs Q E hr h=>?_;obtain⟨ta,cs,rfl,tx,hcs,k⟩:=h;refine⟨_,(AB (AX 1 M6 (R.mkr.call hr AD (AA (pv 0) (AA AI (AA (AW AN (by rfl) B.len cy (AA (pv 0) AF)) AF)))))
  (AB (AX 2 M6 (J6 D1 hr AD (pv 1)))
  (AB (AX 3 M6 (DM AF))
  (AB (AX 4 M6 AI)
  (AB (B4 bq (DU (JD R hr AD (pv 1)))
  (AB (AZ (AO C1 (AW AN (by rfl) B.len cy (AA (pv 3) AF)) (B6 gm) (AQ _)) (AC (BE R.X1 hr AD rfl (B1 R (pv 1)))) AM)
  (AB (AX 5 M6 (D2.call hr AD (AA (pv 1) (AA (pv 2) (AA (pv 4) AF)))))
  (AB (AZ (DU (DH (MB.call0 (pv 5) hr AD))) (AC (AX 4 M6 (AV (pv 5) rfl))) AM)
  (AC (AY (GJ de fj fk CV (pv 3) (AA (pv 5) AF))))))))
  (AB (AZ (AO C1 (pv 4) AI (AQ _)) (AC (BE R.X1 hr AD rfl (AW AN (by rfl) B.len cy (AA (pv 0) AF)))) AM)
  (AC (AL (pv 3))))))))),?_⟩
 and_intros
 refine⟨V.ref ta,rfl,V.ref ta,rfl,ta,_,rfl,.inl tx,λr dr nr nd hne=>⟨r,dr,ta,0,_,rfl,upd_same,λH1 h1 s1=>⟨rfl,?_⟩⟩⟩;have sm1:Same H H1:=BU nr nd s1 Sb.refl;have fin:∀{H2:Hp},Sb r H1 H2->Same H H2:=λs2=>BU nr nd s1 s2;have R1:Rd K C H1 r ta cs cs.length cs:=by
  refine⟨⟨dr,0,?_,?_,dm _⟩,sm1.seq tx,aw _⟩
  ·rw[h1,ai];rfl
  ·rw[fv];rfl
 unfold mPc at k;refine⟨V.ref r,rfl,r,ta,cs,cs.length,cs,rfl,R1,?_⟩;cases hl:mKd kws 0 cs with
 |none=>exact AJ rfl (PY k (by rw[hl]))
 |some x=>
  obtain⟨kd,t⟩:=x;simp only[hl] at k;refine AK rfl λH2 R2 s2=>⟨dm _,λal nal=>?_⟩
  have sm2:=fin s2;obtain⟨M,hM⟩:∃M,M=mLs kd (t.length+1) [] 0 t:=⟨_,rfl⟩
  rw[←hM] at k;have sv:Same H2 (upd H2 al (.lst [])):=Same.upd nal;have nal0:H al=none:=by
   cases hq:H al with
   |none=>rfl
   |some o=>rw[sm2 al o hq] at nal;cases nal
  have ttx:ta≠al\/KTx K ta (cs.map cV):=HA tx nal0;have nrb:∀{H':Hp} {b:ag} {o:HO},H b=some o->b≠r:=λe=>AG e nr;refine⟨WPc K C CL ta r al cs kd H M,⟨t.length,t,[],0,t.length+1,none,rfl,sm2.trans sv,R2.same sv,⟨[],upd_same,.nil⟩,by simp,hM,by omega,rfl⟩,?_⟩;rintro m σ H3 ⟨z8,acc,len,g,r5,rfl,s3,R3,L3,hacc,em,hg,rfl⟩;obtain⟨g,rfl⟩:∃g',g=g'+1:=⟨g - 1,by omega⟩
  rw[mLs] at em;refine⟨V.ref r,rfl,r,ta,cs,cs.length,z8,rfl,R3,?_⟩;rcases tZ z8.isEmpty with he|he
  ·rw[Ae he] at em;refine WV (c:=!z8.isEmpty) (by rw[he];rfl) ⟨_,rfl,rfl,_,rfl,CF (λh0=>?_) (λh0=>?_)⟩
   ·have e0:len=0:=by
     have q:=of_decide_eq_true h0;injection q with q;omega
    rw[Ae e0] at em;exact⟨V.ref ta,rfl,ta,_,rfl,.inl (s3.seq tx),_,rfl,PY k em _⟩
   ·have e0:¬len=0:=λq=>h0 (decide_eq_true (by rw[q];rfl));rw[Af e0] at em;exact⟨V.ref al,rfl,i5 k em H3 al s3 L3⟩
  ·rw[Af (by rw[he];decide)] at em;refine iD (c:=!z8.isEmpty) (by rw[he];rfl) ?_;obtain⟨as,a1,a2⟩:=id L3;have la:as.length=acc.length:=cj a2;refine⟨_,λ_ _ q=>q,V.ref al,rfl,al,_,rfl,.inl (SqL.of a1),rfl,_,rfl,CF (λh0=>?_) (λh0=>?_)⟩
   ·have e0:acc.length=512:=by
     have q:=of_decide_eq_true h0;injection q with q;rw[ai] at q;omega
    rw[Ae e0] at em;exact⟨V.ref r,rfl,r,ta,cs,cs.length,z8,rfl,R3,λz=>⟨z,rfl,PY k em z⟩⟩
   ·have e0:¬acc.length=512:=λq=>h0 (decide_eq_true (by rw[ai,la,q];rfl));rw[Af e0] at em;refine⟨V.ref r,rfl,V.int (kd:Nat),rfl,V.int (len:Nat),rfl,r,ta,cs,cs.length,z8,kd,len,rfl,R3,hcs,?_⟩;obtain⟨dr3,p3,ir3⟩:=R3.ins;cases hm:mPl kd len z8 with
    |none=>simp only[hm] at em;exact W0 rfl (PY k em)
    |some x=>
     obtain⟨⟨n,st⟩,u⟩:=x;simp only[hm] at em;have Ad:=cQ hm;refine W1 rfl λH4 x dx sa R4 s4 nsa h4 Lx=>?_;have L4:=L3.sb s4 ir3;obtain⟨as4,b1,b2⟩:=id L4;have lb:as4.length=acc.length:=cj b2;have nsal:sa≠al:=λq=>by rw[q,a1] at nsa;cases nsa
     have s04:Same H H4:=λb o e=>s4 b o (s3 b o e) (AG e nr);have tail:∀len':Nat,M=mLs kd g (acc++[(n,st)]) len' u->(KI (tBM K "list" LD (BT 3) (CC (BT 5) EV))) { nx:=λσ' H'=>∃m',m'<z8.length/\WPc K C CL ta r al cs kd H M m' σ' H',rt:=Q } [some (.ref ta),some (.ref r),some (.int (kd:Nat)),some (.ref al),some (.int (len':Nat)),some (.ref x)] H4:=by
      intro len' em';refine⟨V.ref al,rfl,.inl ⟨rfl,_,SqL.of b1⟩,V.ref x,rfl,al,_,_,rfl,rfl,b1,?_,?_⟩
      ·rw[ai,lb,bz];omega
      ·have su:Sb al H4 (upd H4 al (.lst (as4.map V.ref++[.ref x]))):=λb o eb hb=>by rw[AE hb];exact eb
       refine⟨u.length,Ad,u,acc++[(n,st)],len',g,_,rfl,?_,R4.app b1 ttx su,⟨as4++[x],by rw[upd_same,ff];rfl,?_⟩,?_,em',by omega,rfl⟩
       ·exact λb o e=>su b o (s04 b o e) (AG e nal0)
       ·exact FE (F:=λx p=>LnB K CL al _ x p) (LnB.app (q:=(n,st)) ⟨dx,sa,nsal,h4,Lx⟩ su b1) (AU b2 λ_ _ q=>q.app su b1)
       ·rw[br];simp;omega
     refine⟨V.ref x,rfl,x,dx,_,rfl,h4,i6 _ _,x,dx,sa,(n:Nat),rfl,h4,_,rfl,?_⟩;by_cases hn:n=0
     ·rw[Ae hn] at em;refine WV (c:=!decide (((n:Nat):Int)=0)) (by rw[hn];rfl) (tail len em)
     ·rw[Af hn] at em;refine iD (c:=!decide (((n:Nat):Int)=0)) (by rw[decide_eq_false (by omega)];rfl) ⟨V.ref x,rfl,x,CL,dx,_,_,rfl,h4,T.cl,T.nl,ZN _ _,tail n em⟩
end
open PySem PySem.Spec PyProof.Rows L2
def plc (fr co ba:List (List Int)) (s:Stop):Bool:=if s.course<=co.length then decide (s.fret<=fr.length) else decide (s.course<=co.length+ba.length)&&decide (s.fret=0)
def EF (pl:Stop->Bool):Nat->List Ln->Option (Nat×Nat)
 |_,[]=>none
 |i,(_,st)::r=>match st.find? λs=>!pl s with
  |some s=>some (i,s.course)
  |none=>EF pl (i+1) r
def mfs (l c:Int):List (Str×V):=[("answer",.int (-3)),("line",.int l),("course",.int c)]
def oK (CM:ag) (H:Hp) (Q:VK) (E:XK):Option (Nat×Nat)->Prop
 |none=>∀H',Same H H'->Q .non H'
 |some (l,c)=>E (.ref CM) none (xH (mfs (l:Nat) (c:Nat)))
def eQ (K:aa) (CI CL CM:ag):Sp:=λvs H Q E=>Ex9 λ(ia af ac ab al:ag) (fr co ba:List (List Int)) (ps:List Ln)=>vs=[.ref ia,.ref al]/\InA K CI H ia af ac ab fr co ba/\LnsA K CL H al ps/\oK CM H Q E (EF (plc fr co ba) 0 ps)
def oM (K:aa) (C2:ag):Sp:=λvs H Q E=>Ex4 λ(ia ta:ag) (xs ys:List V)=>vs=[.ref ia,.ref ta]/\SqL K H ia xs/\SqL K H ta ys/\(if 4096<xs.length\/65536<ys.length then E (.ref C2) none (xH [("answer",.int (-2))]) else Q .non H)
theorem i7 (af ac ab:ag):(ifs af ac ab).lookup ("has_place":Str)=none:=S0 _ _ _ (by decide +kernel) (by decide +kernel) (by decide +kernel)
theorem i8 {CM:ag} {res:Option (Nat×Nat)} (k:oK CM H Q E res) (h:res=none):∀H',Same H H'->Q .non H':=by rw[h] at k;exact k
theorem KD {pl:Stop->Bool}:∀{ps:List Ln} {i j:Nat},j<=ps.length->(∀(m:Nat) (p:Ln),m<j->ps[m]? =some p->(p.2.find? λs=>!pl s)=none)->EF pl i ps=EF pl (i+j) (ps.drop j)
 |ps,i,0,_,_=>by rw[List.drop_zero];rfl
 |[],i,j+1,h,_=>by simp at h
 |(n,st)::ps,i,j+1,h,hq=>by
  have h0:=hq 0 (n,st) (by omega) rfl;rw[EF,h0];have:=KD (pl:=pl) (ps:=ps) (i:=i+1) (j:=j) (by simpa using h) λm p hm hp=>hq (m+1) p (by omega) (by simpa using hp);rw[vO,show i+(j+1)=i+1+j by omega];exact this
theorem LP {e:Expr} {ta:TE} {fld:Str} (K:aa) (he:PE X e ta) (h:X.K=K:=by rfl) (hb:jq e fld X.env (eval e X.env)=eval e X.env:=by rfl):PE X (.Attribute e fld pos) (OZ K ta fld):=h▸AV he hb
section
variable {P:bb} {w:bw} {K:aa} {mg:Str->Option ah} {base:cq} {C CI CL CM CT:ag} {dz fz:Str}
theorem VO:FnScope ["instrument","lines","number","line","stop"] ["instrument","lines"] (AH G2):={}
theorem oN (F:Fun K "check_fit" "check_fit" G2 f fd) (B:Blt mg) (T:InC K CI) (TL:LnC K CL) (MH:Mth P w K mg base 2 CI "has_place" ["self","course","fret"] (nO K CI)) (XM:XMr P w K mg base 2 CM "Misfit" ["self","line","course"] (gQ CM)):
 FnOk P w K mg base (CX1 P w) 4 f fd ["instrument","lines"] (eQ K CI CL CM):=by
 refine F.okx VO λAc A outer s H vs Q E hr h=>?_;obtain⟨ia,af,ac,ab,al,fr,co,ba,ps,rfl,I,L,k⟩:=h;refine⟨_,(AC (CD bq rfl (O5 (by rfl) B.enum (AA (pv 1) AF)) (JN rfl (CA (DW 2 VO) (CA (DW 3 VO) HF)))
  (AC (CD bq rfl (DI (AV (pv 3) rfl)) (DW 4 VO)
   (AC (AZ (DU (DH (MH.call (pv 0) hr AD (AA (BO (FD K) (pv 4) AI (λ_ _=>rfl)) (AA (BO (FD K) (pv 4) AI (λ_ _=>rfl)) AF)))))
    (AC (IX AD rfl (XM.call hr.u AD (AA (pv 2) (AA (BO (FD K) (pv 4) AI (λ_ _=>rfl)) AF))))) AM)))))),?_⟩
 subst_eqs
 obtain⟨as,a1,a2⟩:=id L;have la:as.length=ps.length:=cj a2;obtain⟨M,hM⟩:∃M,M=EF (plc fr co ba) 0 ps:=⟨_,rfl⟩
 rw[←hM] at k;obtain⟨dx,i1⟩:=I.at_;refine⟨V.ref al,rfl,al,_,rfl,SqL.of a1,GA (n:=ps.length) (λi σ H'=>Same H H'/\(Ex3 λr2 r3 r4=>σ=[some (.ref ia),some (.ref al),r2,r3,r4])/\∀(m:Nat) (p:Ln),m<i->ps[m]? =some p->(p.2.find? λs=>!plc fr co ba s)=none) ⟨Same.refl _,⟨none,none,none,rfl⟩,λm p hm=>by omega⟩ ?_ ?_ ?_ ?_⟩
 ·rintro i σ H' hi ⟨s1,_⟩;exact⟨_,.ref (as[i]'(by omega)),SqL.of (s1 _ _ a1),by rw[az,am (by omega)];rfl⟩
 ·rintro σ H' ⟨s1,_⟩;exact⟨_,SqL.of (s1 _ _ a1),by rw[ai,la];exact aw _⟩
 ·rintro i v σ H1 H2 hi ⟨s1,⟨r2,r3,r4,rfl⟩,hall⟩ ⟨T',xv,rfl,nT,rfl,hxv⟩;have hxv':=hxv _ (SqL.of (s1 _ _ a1));rw[az] at hxv';cases ea:as[i]? with
  |none=>rw[ea] at hxv';cases hxv'
  |some x=>
   rw[ea] at hxv';cases hxv';obtain⟨p,hp,dl,sa,_,hx,Ls⟩:=BL a2 ea;obtain⟨n,st⟩:=p;have s2:Same H (upd H1 T' (.tup [.int (i:Nat),.ref x])):=s1.trans (Same.upd nT);have hx2:=s2 _ _ hx;have Ls2:=(Same.kp s2).lt Ls;obtain⟨bs,b1,b2⟩:=id Ls2;have lb:bs.length=st.length:=by rw[cj b2,ai]
   have Ad:i<ps.length:=hi;have eM:M=EF (plc fr co ba) i ((n,st)::ps.drop (i+1)):=by
    rw[hM,KD (i:=0) (j:=i) (by omega) hall,sO,jj Ad,(au.mp hp).2]
   refine⟨T',_,rfl,SqT.of upd_same,rfl,_,_,rfl,_,_,rfl,rfl,?_⟩;refine⟨V.ref x,rfl,x,CL,dl,_,_,rfl,hx2,TL.cl,TL.ns,ZO _ _,sa,rfl,⟨_,SqL.of b1⟩,DJ (K:=K) (a:=sa) (xs:=bs.map V.ref) (λj σ H'=>Same (upd H1 T' (.tup [.int (i:Nat),.ref x])) H'/\(∃r4,σ=[some (.ref ia),some (.ref al),some (.int (i:Nat)),some (.ref x),r4])/\∀s∈st.take j,plc fr co ba s=true) ⟨Same.refl _,⟨_,rfl⟩,by simp⟩ ?_ ?_ ?_⟩
   ·rintro j σ H' _ ⟨s3,_⟩;exact SqL.of (s3 _ _ b1)
   ·rintro j y σ H3 hj ⟨s3,⟨r4,rfl⟩,ha⟩
    subst_eqs
    rw[az] at hj;cases eb:bs[j]? with
    |none=>rw[eb] at hj;cases hj
    |some b=>
     rw[eb] at hj;cases hj;obtain⟨q,hq,hb⟩:=BL b2 eb;rw[az] at hq;cases es:st[j]? with
     |none=>rw[es] at hq;cases hq
     |some s=>
      rw[es] at hq;cases hq;have s23:=s2.trans s3;have I3:=I.kp (Same.kp s23);have i3:=s23 _ _ i1;have hb3:=s3.tup hb;refine⟨V.ref ia,rfl,ia,dx,_,rfl,i3,i7 _ _ _,V.ref b,rfl,b,_,0,V.int (s.course:Nat),rfl,rfl,hb3,rfl,V.ref b,rfl,b,_,1,V.int (s.fret:Nat),rfl,rfl,hb3,rfl,ia,af,ac,ab,fr,co,ba,(s.course:Nat),(s.fret:Nat),rfl,I3,_,rfl,?_⟩;have ep:(if((s.course:Nat):Int)<=co.length then decide (((s.fret:Nat):Int)<=fr.length) else decide (((s.course:Nat):Int)<=((co.length+ba.length:Nat):Int))&&decide (((s.fret:Nat):Int)=0))=plc fr co ba s:=by
       unfold plc;by_cases hc:s.course<=co.length
       ·rw[Ae hc,Ae (by omega),decide_eq_decide];omega
       ·rw[Af hc,Af (by omega)];congr 1
        ·rw[decide_eq_decide];omega
        ·rw[decide_eq_decide];omega
      rw[ep];cases hpl:plc fr co ba s with
      |true=>
       refine BM ⟨s3,⟨_,rfl⟩,λs' hs'=>?_⟩;rw[eq,es] at hs';rcases cn.mp hs' with hs'|hs'
       ·exact ha s' hs'
       ·have:s'=s:=by simpa using hs'
        rw[this];exact hpl
      |false=>
       have ef:(st.find? λs=>!plc fr co ba s)=some s:=by
        have hj':j<st.length:=(au.mp es).1;have ed:st=st.take j++s::st.drop (j+1):=by
         rw[←(au.mp es).2, ←jj hj',ku]
        rw[ed,wx];have e0:((st.take j).find? λs=>!plc fr co ba s)=none:=by
         rw[tH];intro s' hs';rw[ha s' hs'];decide
        rw[e0,Option.none_or,List.find?_cons_of_pos (by rw[hpl];rfl)]
       rw[eM,EF,ef] at k;refine BV ⟨V.int (i:Nat),rfl,V.ref b,rfl,b,_,0,V.int (s.course:Nat),rfl,rfl,hb3,rfl,(by show 2<=100;decide),λa ha'=>⟨a,(i:Nat),(s.course:Nat),rfl,upd_same,λH4 ⟨⟨d,dn,d0,e1,e2⟩,_⟩=>⟨rfl,a,CM,_,rfl,⟨d,dn,e1,e2⟩,XM.2.1,k⟩⟩⟩
   ·rintro σ H3 ⟨s3,⟨r4,rfl⟩,ha⟩;refine⟨s2.trans s3,⟨_,_,_,rfl⟩,λm q hm hq=>?_⟩;by_cases hmi:m=i
    ·subst hmi;rw[hp] at hq;cases hq;rw[ai,lb,fv] at ha;rw[tH];intro s' hs';rw[ha s' hs'];decide
    ·exact hall m q (by omega) hq
 ·rintro σ H1 ⟨s1,⟨r2,r3,r4,rfl⟩,hall⟩;refine i8 k ?_ H1 s1;rw[hM,KD (i:=0) (j:=ps.length) (aw _) hall,uu];rfl
theorem oO:FnScope ["i","t"] ["i","t"] (AH FX):={}
theorem oP {C2:ag} (F:Fun K "check_sizes" "check_sizes" FX f fd) (B:Blt mg) (g1:GI mg "MOST_INSTRUMENT_BYTES" 4096) (g2:GI mg "MOST_PIECE_BYTES" 65536) (X2:XMr P w K mg base 2 C2 "TooLong" ["self"] (J0 C2 (-2))):
 FnOk P w K mg base (CX1 P w) 4 f fd ["i","t"] (oM K C2):=by
 refine F.okx oO λAc A outer s H vs Q E hr h=>?_;obtain⟨ia,ta,xs,ys,rfl,hx,hy,k⟩:=h;refine⟨_,(AC (AZ (NV (AO E9 (AW AN (by rfl) B.len cy (AA (pv 0) AF)) (B6 g1) (AQ _)) (JM (AO E9 (AW AN (by rfl) B.len cy (AA (pv 1) AF)) (B6 g2) (AQ _)))).pt
  (AC (IX AD rfl (X2.call0 hr.u AD))) AM)),?_⟩
 subst_eqs
 have fail:(4096<xs.length\/65536<ys.length)->∀H',(YK K E (MG C2 (J0 C2 (-2)) E EV)) { nx:=λ_ H'=>Q .non H',rt:=Q } [some (.ref ia),some (.ref ta)] H':=λhq H'=>by
  rw[Ae hq] at k;refine⟨by show 0<=100;decide,λa ha=>⟨a,rfl,upd_same,λH4 ⟨⟨d,dn,d0,e1,e2⟩,_⟩=>⟨rfl,a,C2,_,rfl,⟨d,dn,e1,e2⟩,X2.2.1,k⟩⟩⟩
 refine⟨V.ref ia,rfl,ia,xs,rfl,.inl hx,_,_,rfl,rfl,_,rfl,CF (λh0=>?_) (λh0=>?_)⟩
 ·have q:4096<xs.length:=by
   have:(4096:Int)<(xs.length:Int):=by simpa using h0
   omega
  exact BV (fail (.inl q) _)
 ·have q:¬4096<xs.length:=by
   have:¬(4096:Int)<(xs.length:Int):=by simpa using h0
   omega
  refine⟨V.ref ta,rfl,ta,ys,rfl,.inl hy,_,_,rfl,rfl,_,rfl,CF (λh1=>?_) (λh1=>?_)⟩
  ·have q2:65536<ys.length:=by
    have:(65536:Int)<(ys.length:Int):=by simpa using h1
    omega
   exact fail (.inr q2) _
  ·have q2:¬65536<ys.length:=by
    have:¬(65536:Int)<(ys.length:Int):=by simpa using h1
    omega
   rw[Af (by rintro (z|z);exact q z;exact q2 z)] at k;exact k
end
end Lt
end
section
namespace L2
open PySem PySem.Spec PyProof.Rows
theorem RH {X:Cx} {x:Str} {Ch:ag} {np pos:Pos} {b0:dh} {suite:List dh} {z8:List ExceptHandler} {tb:ag->TS} {tr:TH} (hg:Gl X x) (hm:X.mg x=some (.ref Ch)) (hs:∀a,X.Ok->PSs (X.hd a) (b0::suite) (tb a)) (hr:PH X z8 tr) (hd:(x==("__debug__":Str))=false:=by decide):
 PH X (.ExceptHandler (some (.Name x np)) none (b0::suite) pos::z8) (d5 X.K Ch tb tr):=by
 intro z7 s σ H D a C fs cx I n h;exact b7 hg hm (λa=>hs a I.ok) hr hd z7 s σ H D a C fs cx I n h
end L2
namespace Lt
open PySem PySem.Spec PyProof.Rows L2
variable {f a C CR CT r ta CI CL CN:ag} {fd:dw} {X:Cx} {x:List Int} {i n e p q:Nat} {pos:Pos} {z dz fz:Str} {xs:List V} {H H' H1:Hp} {E:XK} {cs t ci ct:List UInt8} {α β:Type} {Q:VK} {ls:List (List Int)} {P:bb} {w:bw} {h:cq} {ps:List Str} {hg:List Int->Nat}
theorem YG {fs gs:List (Str×V)} (h:xH fs=xH gs):fs=gs:=by
 have:=congrFun h 0;unfold xH at this;simp at this;exact this
def oQ (K:aa) (CI C6:ag) (H:Hp) (Q:VK) (E:XK):Option St3->Prop
 |some (fr,co,ba)=>∀H' ia af ac ab,Same H H'->InA K CI H' ia af ac ab fr co ba->Q (.ref ia) H'
 |none=>∀b:ag,E (.ref C6) (some b) (xH [("answer",.int (-6))])
def oR (K:aa) (CI C6:ag) (dz fz:Str):Sp:=λvs H Q E=>Ex2 λ(ta:ag) (cs:List UInt8)=>vs=[.ref ta]/\SqL K H ta (cs.map cV)/\oQ K CI C6 H Q E (JF dz fz cs)
def oS (K:aa) (CL C8:ag) (H:Hp) (Q:VK) (E:XK):Option (List Ln)->Prop
 |some ps=>∀H' al,Same H H'->LnsA K CL H' al ps->Q (.ref al) H'
 |none=>∀b:ag,E (.ref C8) (some b) (xH [("answer",.int (-8))])
def oT (K:aa) (CL C8:ag):Sp:=λvs H Q E=>Ex2 λ(ta:ag) (cs:List UInt8)=>vs=[.ref ta]/\SqL K H ta (cs.map cV)/\cs.length<=100000/\oS K CL C8 H Q E (mPc cs)
theorem ZS {e:Expr} {ta:TE} {fld:Str} (K:aa) (he:PE X e ta) (h:X.K=K:=by rfl) (hb:jq e fld X.env (eval e X.env)=eval e X.env:=by rfl):PE X (.Attribute e fld pos) (UO K ta fld):=h▸bZ he hb
section
variable {P:bb} {w:bw} {K:aa} {mg:Str->Option ah} {base:cq} {C CI CL CM CT C6 C8:ag} {dz fz:Str}
theorem oU:FnScope ["text"] ["text"] (AH EJ):={}
theorem oV (F:Fun K "instrument_of" "instrument_of" EJ f fd) (hmT:mg "TextFault"=some (.ref CT)) (hx:mv K (.ref CT) (.ref CT)=some true) (D1:Def P w K mg base 12 "read_instrument" ["text"] (eJ K CI CT dz fz))
 (X6:XMr P w K mg base 2 C6 "NoInstrument" ["self"] (J0 C6 (-6))):FnOk P w K mg base (CX1 P w) 13 f fd ["text"] (oR K CI C6 dz fz):=by
 refine F.okx oU λAc A outer s H vs Q E hr h=>?_;obtain⟨ta,cs,rfl,tx,k⟩:=h;refine⟨_,(AC (SM (Eb:=λv cx _=>v= .ref CT/\cx=none/\JF dz fz cs=none) rfl rfl (λpn E' o=>(AC (AL (D1.call hr o (AA (pv 0) AF)))))
  (RH (by rfl) hmT (λa ok=>(AC (IY (b:=a) (Out.hd AD ok rfl rfl) rfl (X6.call0 (hr.u.mark _) (Out.hd AD ok rfl rfl))))) SL))),?_⟩
 subst_eqs
 refine⟨⟨V.ref ta,rfl,ta,cs,rfl,tx,?_⟩,λa C' fs cx σ' H1 nt eb hl=>?_⟩
 ·cases hm:JF dz fz cs with
  |none=>exact λz=>⟨rfl,rfl,rfl⟩
  |some x=>
   obtain⟨fr,co,ba⟩:=x;rw[hm] at k;exact k
 ·obtain⟨eC,rfl,hm⟩:=eb;have eC':C'=CT:=by injection eC
  subst eC';refine⟨true,hx,λ_ H2 n2=>?_,λq=>by cases q⟩;obtain⟨T,dd,n1,n3,n4,ea,ed,et⟩:=n2;refine⟨by show 0<=100;decide,λa' ha'=>⟨a',rfl,upd_same,λH4 ⟨⟨d,dn,d0,e1,e2⟩,kp⟩=>⟨rfl,a',C6,_,rfl,⟨d,dn,e1,e2⟩,X6.2.1,?_,⟨C',_,_,kp a _ (by rw[AE (AG ea ha')];exact ea) (AG ea ha')⟩,?_⟩⟩⟩
  ·exact cr (AG ea ha')
  ·rw[hm] at k;exact k a
theorem oW:FnScope ["text"] ["text"] (AH IM):={}
theorem oX (F:Fun K "piece_of" "piece_of" IM f fd) (hmT:mg "TextFault"=some (.ref CT)) (hx:mv K (.ref CT) (.ref CT)=some true) (D1:Def P w K mg base 10 "read_piece" ["text"] (oI K CL CT))
 (X8:XMr P w K mg base 2 C8 "NoPiece" ["self"] (J0 C8 (-8))):FnOk P w K mg base (CX1 P w) 13 f fd ["text"] (oT K CL C8):=by
 refine F.okx oW λAc A outer s H vs Q E hr h=>?_;obtain⟨ta,cs,rfl,tx,hcs,k⟩:=h;refine⟨_,(AC (SM (Eb:=λv cx _=>v= .ref CT/\cx=none/\mPc cs=none) rfl rfl (λpn E' o=>(AC (AL (D1.call hr o (AA (pv 0) AF)))))
  (RH (by rfl) hmT (λa ok=>(AC (IY (b:=a) (Out.hd AD ok rfl rfl) rfl (X8.call0 (hr.u.mark _) (Out.hd AD ok rfl rfl))))) SL))),?_⟩
 subst_eqs
 refine⟨⟨V.ref ta,rfl,ta,cs,rfl,tx,hcs,?_⟩,λa C' fs cx σ' H1 nt eb hl=>?_⟩
 ·cases hm:mPc cs with
  |none=>exact λz=>⟨rfl,rfl,rfl⟩
  |some x=>
   rw[hm] at k;exact k
 ·obtain⟨eC,rfl,hm⟩:=eb;have eC':C'=CT:=by injection eC
  subst eC';refine⟨true,hx,λ_ H2 n2=>?_,λq=>by cases q⟩;obtain⟨T,dd,n1,n3,n4,ea,ed,et⟩:=n2;refine⟨by show 0<=100;decide,λa' ha'=>⟨a',rfl,upd_same,λH4 ⟨⟨d,dn,d0,e1,e2⟩,kp⟩=>⟨rfl,a',C8,_,rfl,⟨d,dn,e1,e2⟩,X8.2.1,?_,⟨C',_,_,kp a _ (by rw[AE (AG ea ha')];exact ea) (AG ea ha')⟩,?_⟩⟩⟩
  ·exact cr (AG ea ha')
  ·rw[hm] at k;exact k a
theorem VP {kd:Nat}:∀{f:Nat} {acc ps:List Ln} {len:Nat} {l:List UInt8},acc.length<=512->mLs kd f acc len l=some ps->ps.length<=512
 |0,_,_,_,_,_,h=>by rw[mLs] at h;cases h
 |f+1,acc,ps,len,l,ha,h=>by
  rw[mLs] at h;split at h
  ·split at h
   ·cases h
   ·cases h;exact ha
  ·split at h
   ·cases h
   ·cases hm:mPl kd len l with
    |none=>rw[hm] at h;cases h
    |some x=>
     obtain⟨⟨n,st⟩,t⟩:=x;simp only[hm] at h;exact VP (by rw[br];simp;omega) h
theorem VQ {ps:List Ln} (h:mPc cs=some ps):ps.length<=512:=by
 unfold mPc at h;cases hk:mKd kws 0 cs with
 |none=>rw[hk] at h;cases h
 |some x=>
  obtain⟨kd,t⟩:=x;simp only[hk] at h;exact VP (by simp) h
end
open PySem PySem.Spec PyProof.Rows L2
def tbf (ia al:ag):List (Str×V):=[("instrument",.ref ia),("lines",.ref al)]
theorem eR (ia al:ag):(tbf ia al).lookup ("instrument":Str)=some (.ref ia):=rfl
theorem eS (ia al:ag):(tbf ia al).lookup ("lines":Str)=some (.ref al):=rfl
structure TbC (K:aa) (CB:ag):Prop where
 cl:Cls K CB
 ni:NoAttr K CB "instrument"
 nl:NoAttr K CB "lines"
structure TbA (K:aa) (CI CL CB:ag) (H:Hp) (x:ag) (s:St3) (ps:List Ln):Prop where
 ex:Ex6 λdx ia af ac ab al=>H x=some (.ins CB dx (tbf ia al))/\InA K CI H ia af ac ab s.1 s.2.1 s.2.2/\LnsA K CL H al ps
 le:ps.length<=512
theorem TbA.same {K:aa} {CB:ag} {x:ag} {s:St3} {ps:List Ln} (T:TbA K CI CL CB H x s ps) (e:Same H H'):TbA K CI CL CB H' x s ps:=
 let ⟨⟨dx,ia,af,ac,ab,al,h1,h2,h3⟩,l⟩:=T;⟨⟨dx,ia,af,ac,ab,al,e _ _ h1,h2.kp (Same.kp e),h3.same e⟩,l⟩
def i9 (CB:ag):Sp:=λvs H Q _=>Ex4 λ(x dx ia al:ag)=>vs=[.ref x,.ref ia,.ref al]/\H x=some (.ins CB dx [])/\∀H',H' x=some (.ins CB dx (tbf ia al))->Sb x H H'->Q .non H'
def Rfl (cl:Int->ag) (E:XK) (z:Int):Prop:=∀cx,E (.ref (cl z)) cx (xH [("answer",.int z)])
def mTb (dz fz:Str) (ci ct:List UInt8):Except Int (St3×List Ln):=match JF dz fz ci with
 |none=>.error (-6)
 |some s=>match mPc ct with
  |none=>.error (-8)
  |some ps=>.ok (s,ps)
def GH (dz fz:Str) (ci ct:List UInt8):Except Int (St3×List Ln):=if 4096<ci.length\/65536<ct.length then .error (-2) else mTb dz fz ci ct
def oY (K:aa) (CI CL CB:ag) (cl:Int->ag) (H:Hp) (Q:VK) (E:XK):Except Int (St3×List Ln)->Prop
 | .ok (s,ps)=>∀H' x,Same H H'->TbA K CI CL CB H' x s ps->Q (.ref x) H'
 | .error z=>Rfl cl E z
theorem TJ {K:aa} {CB:ag} {cl:Int->ag} {r:Except Int (St3×List Ln)} {z:Int} (k:oY K CI CL CB cl H Q E r) (h:r= .error z):Rfl cl E z:=by rw[h] at k;exact k
def cR (K:aa) (CI CL CB:ag) (cl:Int->ag) (m:List UInt8->List UInt8->Except Int (St3×List Ln)):Sp:=λvs H Q E=>Ex4 λ(ia ta:ag) (ci ct:List UInt8)=>vs=[.ref ia,.ref ta]/\SqL K H ia (ci.map cV)/\SqL K H ta (ct.map cV)/\ct.length<=100000/\oY K CI CL CB cl H Q E (m ci ct)
section
variable {P:bb} {w:bw} {K:aa} {mg:Str->Option ah} {base:cq} {CI CL CB:ag} {cl:Int->ag} {dz fz:Str}
theorem jA:FnScope ["self","instrument","lines"] ["self","instrument","lines"] (AH DZ):={}
theorem jB (F:Fun K "__init__" "Tablature.__init__" DZ f fd) (T:TbC K CB):FnOk P w K mg base (CX1 P w) 1 f fd ["self","instrument","lines"] (i9 CB):=by
 refine F.okx jA λAc A outer s H vs Q E hr h=>?_;obtain⟨x,dx,ia,al,rfl,hx,k⟩:=h;refine⟨_,(AB (CO (pv 0) (pv 1) rfl)
  (AC (CO (pv 0) (pv 2) rfl))),?_⟩
 and_intros
 refine⟨_,rfl,_,rfl,x,CB,dx,[],rfl,hx,T.cl,T.ni,(by decide),?_⟩;refine⟨_,rfl,_,rfl,x,CB,dx,_,rfl,upd_same,T.cl,T.nl,(by show 1<1000;decide),?_⟩;exact k _ upd_same λb o e hb=>by rw[AE hb,AE hb];exact e
theorem ZT:FnScope ["i","t","instrument"] ["i","t"] (AH E3):={}
theorem jC (F:Fun K "tablature_of" "tablature_of" E3 f fd) (M:Mkr P w K mg base 1 CB "Tablature" ["self","instrument","lines"] (i9 CB))
 (D2:Def P w K mg base 13 "instrument_of" ["text"] (oR K CI (cl (-6)) dz fz)) (D3:Def P w K mg base 13 "piece_of" ["text"] (oT K CL (cl (-8)))):FnOk P w K mg base (CX1 P w) 14 f fd ["i","t"] (cR K CI CL CB cl (mTb dz fz)):=by
 refine F.okx ZT λAc A outer s H vs Q E hr h=>?_;obtain⟨ia,ta,ci,ct,rfl,hi,ht,hct,k⟩:=h;refine⟨_,(AB (AX 2 ZT (D2.call hr AD (AA (pv 0) AF)))
  (AC (AL (M.call hr AD (AA (pv 2) (AA (D3.call hr AD (AA (pv 1) AF)) AF)))))),?_⟩
 and_intros
 refine⟨V.ref ia,rfl,ia,ci,rfl,hi,?_⟩;unfold mTb at k;cases hm:JF dz fz ci with
 |none=>exact λb=>TJ k (by rw[hm]) _
 |some x=>
  obtain⟨fr,co,ba⟩:=x;simp only[hm] at k;intro H1 xa af ac ab s1 I1;refine⟨V.ref xa,rfl,V.ref ta,rfl,ta,ct,rfl,s1.seq ht,hct,?_⟩;cases hp:mPc ct with
  |none=>exact λb=>TJ k (by rw[hp]) _
  |some ps=>
   simp only[hp] at k;intro H2 al s2 L2 x dx nx nd hne;refine⟨x,dx,xa,al,rfl,upd_same,λH3 h3 s3=>⟨rfl,?_⟩⟩;have s23:Same H2 H3:=BU nx nd s3 Sb.refl;exact k H3 x ((s1.trans s2).trans s23) ⟨⟨dx,xa,af,ac,ab,al,h3,(I1.kp (Same.kp s2)).kp (Same.kp s23),L2.same s23⟩,VQ hp⟩
theorem jD:FnScope ["i","t"] ["i","t"] (AH D0):={}
theorem jE (F:Fun K "read_tablature" "read_tablature" D0 f fd) (D1:Def P w K mg base 4 "check_sizes" ["i","t"] (oM K (cl (-2)))) (D2:Def P w K mg base 14 "tablature_of" ["i","t"] (cR K CI CL CB cl (mTb dz fz))):
 FnOk P w K mg base (CX1 P w) 15 f fd ["i","t"] (cR K CI CL CB cl (GH dz fz)):=by
 refine F.okx jD λAc A outer s H vs Q E hr h=>?_;obtain⟨ia,ta,ci,ct,rfl,hi,ht,hct,k⟩:=h;refine⟨_,(AB (AY (D1.call hr AD (AA (pv 0) (AA (pv 1) AF))))
  (AC (AL (D2.call hr AD (AA (pv 0) (AA (pv 1) AF)))))),?_⟩
 and_intros
 refine⟨V.ref ia,rfl,V.ref ta,rfl,ia,ta,_,_,rfl,hi,ht,?_⟩;rw[ai,ai];unfold GH at k;by_cases hl:4096<ci.length\/65536<ct.length
 ·rw[Ae hl] at k ⊢;exact TJ k rfl _
 ·rw[Af hl] at k ⊢;exact⟨V.ref ia,rfl,V.ref ta,rfl,ia,ta,ci,ct,rfl,hi,ht,hct,k⟩
end
structure RfC (K:aa) (CR:ag) (cl:Int->ag) (Z:List Int):Prop where
 r:∀z∈Z,mv K (.ref (cl z)) (.ref CR)=some true
 x:∀z∈Z,XCls K (cl z)
 a:∀z∈Z,NoAttr K (cl z) "answer"
open PySem PySem.Spec PyProof.Rows L2
theorem cS {K:aa} {σ':L2.St} {j:Nat} {fs:List (Str×V)} {cx:Option ag} {fl:ah} {H2:Hp} {z:Int} {D:Ends} {ans:List Int} (hl:j<σ'.length) (n2:Noted H2 a C fs cx fl) (x:XCls K C) (na:NoAttr K C "answer") (l:fs.lookup ("answer":Str)=some (.int z))
 (ha:ans=[z]) (k:∀H' l,H' l=some (.lst (ans.map V.int))->D.rt (.ref l) H'):(WC (fY (CC (UO K (BT j) "answer") EV))) D (σ'.set j (some (.ref a))) H2:=by
 obtain⟨T,dd,n1,n3,n4,eo,ed,et⟩:=n2;have e5:(σ'.set j (some (V.ref a)))[j]? =some (some (V.ref a)):=by rw[mx hl]
 refine⟨V.ref a,e5,a,C,dd,_,_,_,_,rfl,eo,ed,x,na,l,(by rw[bz];show 1<=16777216;decide),λp hp=>?_⟩;refine k _ p ?_;rw[upd_same,ha];rfl
theorem jF {z:Int} (h:GH dz fz ci ct= .error z):z∈([-2, -6, -8]:List Int):=by
 unfold GH mTb at h;split at h
 ·cases h;simp
 ·split at h
  ·cases h;simp
  ·split at h
   ·cases h;simp
   ·cases h
def oZ (p:LuteTab.Piece):Prop:=∀n l,LuteTab.Line.moment n l∈p->0<n
theorem KS:∀(a b:List Ln) (i x:Nat),EA i x (a++b)=EA i x a++EA (i+a.length) (x+uL a a.length) b
 |[],b,i,x=>by simp[EA,iH]
 |(n,l)::a,b,i,x=>by
  rw[uj,EA,KS a b,EA,tV,fm,HN];congr 3
  ·omega
  ·show x+n+_=x+(n+_);omega
theorem W2 {ps:List Ln} {st:List Stop} (h:ps[i]? =some (n,st)):EA 0 0 (ps.take (i+1))=EA 0 0 (ps.take i)++st.map λ(s:Stop)=>(⟨i,uL ps i,uL ps i+n,s⟩:Sk):=by
 have hi:=(au.mp h).1;have el:(ps.take i).length=i:=by rw[dy];omega
 have eu:uL (ps.take i) i=uL ps i:=by unfold uL;rw[x9,Nat.min_self]
 rw[eq,h,KS,el,eu];simp[EA]
def mPA {α:Type} (lt:α->Bool) (d:α) (r:List α):Nat->Nat->Nat->Nat
 |0,low,_=>low
 |f+1,low,high=>if low<high then(if lt (r.getD ((low+high) / 2) d)=true then mPA lt d r f ((low+high) / 2+1) high else mPA lt d r f low ((low+high) / 2)) else low
def KU {α:Type} (r:List α) (n:Nat) (x:α):List α:=r.take n++x::r.drop n
def E6 {α:Type} [DecidableEq α] (lt:α->α->Bool) (d:α) (r:List α) (x:α):List α:=if x∈r then r else KU r (mPA (λy=>lt y x) d r (r.length+1) 0 r.length) x
def OJ {α:Type} [DecidableEq α] (lt:α->α->Bool) (d:α) (xs:List α):List α:=xs.foldl (E6 lt d) []
section
variable {α:Type} [DecidableEq α] {lt:α->α->Bool} {d:α} {S:α->Prop}
structure Ord {α:Type} (lt:α->α->Bool) (S:α->Prop):Prop where
 irr:∀x,S x->lt x x=false
 tr:∀x y z,S x->S y->S z->lt x y=true->lt y z=true->lt x z=true
 tot:∀x y,S x->S y->lt x y=false->lt y x=false->x=y
theorem TK {f:α->Bool} {r:List α}:∀(k low high:Nat),high - low<k->low<=high->high<=r.length->(∀(i:Nat) (y:α),i<low->r[i]? =some y->f y=true)->(∀(i:Nat) (y:α),high<=i->r[i]? =some y->f y=false)->
 (∀(i j:Nat) (x y:α),i<j->r[i]? =some x->r[j]? =some y->f y=true->f x=true)->
 mPA f d r k low high<=r.length/\(∀(i:Nat) (y:α),i<mPA f d r k low high->r[i]? =some y->f y=true)/\∀(i:Nat) (y:α),mPA f d r k low high<=i->r[i]? =some y->f y=false
 |0,low,high,h,_,_,_,_,_=>by omega
 |k+1,low,high,hk,hl,hh,h1,h2,mono=>by
  rw[mPA];by_cases Ad:low<high
  ·rw[Ae Ad];have hm:(low+high) / 2<r.length:=by omega
   have em:r[(low+high) / 2]? =some (r.getD ((low+high) / 2) d):=by rw[bp,am hm];rfl
   by_cases hf:f (r.getD ((low+high) / 2) d)=true
   ·rw[Ae hf];refine TK k _ _ (by omega) (by omega) hh (λi y hi hy=>?_) h2 mono;by_cases e:i=(low+high) / 2
    ·rw[e,em] at hy;cases hy;exact hf
    ·exact mono i _ y _ (by omega) hy em hf
   ·rw[Af hf];refine TK k _ _ (by omega) (by omega) (by omega) h1 (λi y hi hy=>?_) mono;by_cases e:i=(low+high) / 2
    ·rw[e,em] at hy;cases hy;exact jx.mpr hf
    ·cases q:f y with
     |false=>rfl
     |true=>exact absurd (mono _ i _ y (by omega) em hy q) hf
  ·rw[Af Ad];have:low=high:=by omega
   subst this;exact⟨hh,h1,h2⟩
theorem cT (O:Ord lt S) {r:List α} {x:α} (hr:∀y∈r,S y) (hx:S x) (pw:r.Pairwise λa b=>lt a b=true):
 (∀y,y∈E6 lt d r x↔y∈r\/y=x)/\(E6 lt d r x).Pairwise λa b=>lt a b=true:=by
 unfold E6;by_cases hm:x∈r
 ·rw[Ae hm];exact⟨λy=>⟨.inl,λq=>q.elim id λe=>e▸hm⟩,pw⟩
 rw[Af hm];obtain⟨h1,h2,h3⟩:=TK (f:=λy=>lt y x) (d:=d) (r:=r) (r.length+1) 0 r.length (by omega) (by omega) (aw _) (λi y hi=>by omega) (λi y hi hy=>by
  have:=(au.mp hy).1;omega) (λi j a b hij ha hb q=>by
   have hi:=(au.mp ha)
   have hj:=(au.mp hb)
   have:=lg.mp pw i j hi.1 hj.1 hij;rw[hi.2,hj.2] at this;exact O.tr a b x (hr a (bo ha)) (hr b (bo hb)) hx this q)
 generalize mPA (λy=>lt y x) d r (r.length+1) 0 r.length=n at h1 h2 h3;unfold KU;constructor
 ·intro y;rw[cn,bg];constructor
  ·rintro (q|rfl|q)
   ·exact .inl (md q)
   ·exact .inr rfl
   ·exact .inl (je q)
  ·rintro (q|rfl)
   ·rw[←ku n r,cn] at q;exact q.elim .inl λq=>.inr (.inr q)
   ·exact .inr (.inl rfl)
 ·have pw':=pw;rw[←ku n r,sr] at pw';obtain⟨p1,p2,p3⟩:=pw';rw[sr,gg];have lo:∀a∈r.take n,lt a x=true:=λa ha=>by
   obtain⟨i,hi⟩:=lu ha;rw[qv] at hi;split at hi
   ·exact h2 i a (by assumption) hi
   ·cases hi
  have up:∀b∈r.drop n,lt x b=true:=λb hb=>by
   obtain⟨i,hi⟩:=lu hb;rw[tG] at hi;have q:=h3 (n+i) b (by omega) hi;have hb':=je hb;cases q2:lt x b with
   |true=>rfl
   |false=>exact absurd (O.tot b x (hr b hb') hx q q2▸hb') hm
  refine⟨p1,⟨up,p2⟩,λa ha b hb=>?_⟩;rcases bg.mp hb with rfl|hb
  ·exact lo a ha
  ·exact p3 a ha b hb
theorem RJ (O:Ord lt S):∀{xs r:List α},(∀y∈r,S y)->(∀x∈xs,S x)->r.Pairwise (λa b=>lt a b=true)->
 (∀y,y∈xs.foldl (E6 lt d) r↔y∈r\/y∈xs)/\(xs.foldl (E6 lt d) r).Pairwise λa b=>lt a b=true
 |[],r,_,_,pw=>⟨λy=>by simp,pw⟩
 |x::xs,r,hr,hx,pw=>by
  obtain⟨a1,a2⟩:=cT (d:=d) O hr (hx x bc) pw;obtain⟨b1,b2⟩:=RJ O (xs:=xs) (r:=E6 lt d r x) (λy hy=>((a1 y).mp hy).elim (hr y) λe=>e▸hx x bc) (λy hy=>hx y (aq _ hy)) a2;refine⟨λy=>?_,b2⟩;rw[xu,b1,a1,bg,or_assoc]
theorem ZU (O:Ord lt S) {xs:List α} (hx:∀x∈xs,S x):(∀y,y∈OJ lt d xs↔y∈xs)/\(OJ lt d xs).Pairwise λa b=>lt a b=true:=by
 obtain⟨h1,h2⟩:=RJ (d:=d) O (xs:=xs) (r:=[]) (by simp) hx oq;exact⟨λy=>by unfold OJ;rw[h1];simp,h2⟩
end
theorem jG [BEq α] [LawfulBEq α] {lt:α->α->Bool} {S:α->Prop} (O:Ord lt S) {r:List α} (hr:∀y∈r,S y) (pw:r.Pairwise λa b=>lt a b=true) {x y:α} (hx:x∈r) (hy:y∈r):r.idxOf x<r.idxOf y↔lt x y=true:=by
 have lx:=ot hx;have ly:=ot hy;have ex:r[r.idxOf x]=x:=tI lx;have ey:r[r.idxOf y]=y:=tI ly;constructor
 ·intro h;have:=lg.mp pw _ _ lx ly h;rw[ex,ey] at this;exact this
 ·intro h;apply uz;intro q;rcases Nat.lt_or_ge (r.idxOf y) (r.idxOf x) with q'|q'
  ·have:=lg.mp pw _ _ ly lx q';rw[ex,ey] at this;have:=O.tr x y x (hr x hx) (hr y hy) (hr x hx) h this;rw[O.irr x (hr x hx)] at this;cases this
  ·have e:r.idxOf x=r.idxOf y:=by omega
   have:x=y:=by rw[←ex, ←ey];simp only[e]
   subst this;rw[O.irr x (hr x hx)] at h;cases h
theorem OL {R:α->α->Prop}:∀{l1 l2:List α},l1.Perm l2->l1.Pairwise R->l2.Pairwise R->(∀a∈l1,∀b∈l1,R a b->R b a->a=b)->l1=l2
 |[],l2,p,_,_,_=>(List.nil_perm.mp p).symm
 |a::l1,l2,p,h1,h2,anti=>by
  cases l2 with
  |nil=>exact absurd (p.symm) (by simp)
  |cons b l2=>
   obtain⟨a1,a2⟩:=gg.mp h1;obtain⟨b1,b2⟩:=gg.mp h2;have e:a=b:=by
    have hb:b∈a::l1:=p.mem_iff.mpr bc;have ha:a∈b::l2:=p.mem_iff.mp bc;rcases bg.mp hb with hb'|hb'
    ·exact hb'.symm
    ·rcases bg.mp ha with ha'|ha'
     ·exact ha'
     ·exact anti a bc b hb (a1 b hb') (b1 a ha')
   subst e;rw[OL (p.cons_inv) a2 b2 λx hx y hy=>anti x (aq _ hx) y (aq _ hy)]
end Lt
namespace Lt
variable {f a C CR CT r ta CI CL CN:ag} {fd:dw} {X:Cx} {x:List Int} {i n e p q:Nat} {pos:Pos} {z dz fz:Str} {xs:List V} {H H' H1:Hp} {E:XK} {cs t ci ct:List UInt8} {α β:Type} {Q:VK} {ls:List (List Int)} {P:bb} {w:bw} {h:cq} {ps:List Str} {hg:List Int->Nat}
section
variable {α:Type} [DecidableEq α] {lt:α->α->Bool} {d:α}
theorem W3 {r:List α} {x y:α}:y∈KU r n x↔y∈r\/y=x:=by
 unfold KU;rw[cn,bg];constructor
 ·rintro (q|rfl|q)
  ·exact .inl (md q)
  ·exact .inr rfl
  ·exact .inl (je q)
 ·rintro (q|rfl)
  ·rw[←ku n r,cn] at q;exact q.elim .inl λq=>.inr (.inr q)
  ·exact .inr (.inl rfl)
theorem mIns_mem {r:List α} {x y:α}:y∈E6 lt d r x↔y∈r\/y=x:=by
 unfold E6;by_cases hm:x∈r
 ·rw[Ae hm];exact⟨.inl,λq=>q.elim id λe=>e▸hm⟩
 ·rw[Af hm,W3]
theorem TM {r:List α} {x:α} (h:r.Nodup):(E6 lt d r x).Nodup:=by
 unfold E6;by_cases hm:x∈r
 ·rw[Ae hm];exact h
 ·rw[Af hm];unfold KU;have h':=h;rw[←ku (mPA (λy=>lt y x) d r (r.length+1) 0 r.length) r,wy] at h';obtain⟨p1,p2,p3⟩:=h';rw[wy];refine⟨p1,qm.mpr ⟨λq=>hm (je q),p2⟩,λa ha b hb e=>?_⟩;rcases bg.mp hb with rfl|hb
  ·exact hm (e▸md ha)
  ·exact p3 a ha b hb e
theorem TQ {f:α->Bool} {r:List α}:∀(k low high:Nat),low<=high->high<=r.length->mPA f d r k low high<=r.length
 |0,low,high,h1,h2=>by rw[mPA];omega
 |k+1,low,high,h1,h2=>by
  rw[mPA];split
  ·split
   ·exact TQ k _ _ (by omega) h2
   ·exact TQ k _ _ (by omega) (by omega)
  ·omega
theorem ZV {r:List α} {x:α}:(E6 lt d r x).length<=r.length+1:=by
 unfold E6;split
 ·omega
 ·unfold KU;rw[br,fm,dy,im];omega
theorem OM {xs r:List α} (h:r.Nodup):(xs.foldl (E6 lt d) r).Nodup:=by
 induction xs generalizing r with
 |nil=>exact h
 |cons x xs ih=>exact ih (TM h)
theorem RK {xs r:List α} {y:α}:y∈xs.foldl (E6 lt d) r↔y∈r\/y∈xs:=by
 induction xs generalizing r with
 |nil=>simp
 |cons x xs ih=>rw[xu,ih,mIns_mem,bg,or_assoc]
theorem rise_mem {xs:List α} {y:α}:y∈OJ lt d xs↔y∈xs:=by
 unfold OJ;rw[RK];simp
end
def InK (t:Lute.Inst):Prop:=(∀x∈t.frets,0<x.d)/\(∀x∈t.courses,0<x.d)/\∀x∈t.basses,0<x.d
theorem ZW {l:List Iv} (h:∀x∈l,0<x.d) (i:Nat):0<(l.getD i Lute.unison).d:=by
 rw[bp];cases e:l[i]? with
 |none=>exact zr
 |some x=>exact h x (bo e)
theorem C9 {t:Lute.Inst} (k:InK t) (s:Sk):Lw (LuteSound.tone t s):=by
 unfold LuteSound.tone Lute.Inst.sounds;refine cO (ZW (λx hx=>?_) _) ?_
 ·rcases cn.mp hx with hx|hx
  ·exact k.2.1 x hx
  ·exact k.2.2 x hx
 ·unfold Lute.Inst.fret;split
  ·exact zr
  ·exact ZW k.1 _
section
variable {t:Lute.Inst}
theorem HP (a b:Sk):LuteSound.first t a b=true↔a.begins<b.begins\/(a.begins=b.begins/\((LuteSound.tone t a).lt (LuteSound.tone t b)=true\/(LuteSound.tone t a=LuteSound.tone t b/\a.halt_.course<b.halt_.course))):=by
 unfold LuteSound.first;simp
theorem RL (k:InK t) {a b:Sk} (h:LuteSound.first t a b=true):LuteSound.first t b a=false:=by
 rw[HP] at h;rw[jx];intro q;have q:=(HP b a).mp q;have la:=C9 k a;have lb:=C9 k b;rcases h with h|⟨e,h|⟨e2,h⟩⟩
 ·rcases q with q|⟨q,_⟩<;>omega
 ·rcases q with q|⟨_,q|⟨q,_⟩⟩
  ·omega
  ·rw[ZK la.1 lb.1 h] at q;cases q
  ·rw[q,lt_irrefl la.1] at h;cases h
 ·rcases q with q|⟨_,q|⟨_,q⟩⟩
  ·omega
  ·rw[e2,lt_irrefl lb.1] at q;cases q
  ·omega
theorem RM (k:InK t) {a b c:Sk} (h1:LuteSound.first t a b=true) (h2:LuteSound.first t b c=true):LuteSound.first t a c=true:=by
 rw[HP] at*;have la:=C9 k a;have lb:=C9 k b;have lc:=C9 k c;rcases h1 with h1|⟨e1,h1⟩
 ·rcases h2 with h2|⟨e2,_⟩<;>exact .inl (by omega)
 ·rcases h2 with h2|⟨e2,h2⟩
  ·exact .inl (by omega)
  ·refine .inr ⟨e1.trans e2,?_⟩;rcases h1 with h1|⟨t1,h1⟩
   ·rcases h2 with h2|⟨t2,h2⟩
    ·exact .inl (lt_trans la.1 lb.1 lc.1 h1 h2)
    ·exact .inl (t2▸h1)
   ·rcases h2 with h2|⟨t2,h2⟩
    ·exact .inl (t1▸h2)
    ·exact .inr ⟨t1.trans t2,by omega⟩
theorem HC (a:Sk):∀l:List Sk,(LuteSound.insert t a l).Perm (a::l)
 |[]=>vy _
 |b::r=>by
  rw[LuteSound.insert];split
  ·exact vy _
  ·exact((HC a r).cons b).trans (List.Perm.swap a b r)
theorem M7 (p:LuteTab.Piece):(LuteSound.notes t p).Perm (LuteSound.struck p):=by
 unfold LuteSound.notes;induction LuteSound.struck p with
 |nil=>exact vy _
 |cons a l ih=>exact(HC a _).trans (ih.cons a)
theorem ON (k:InK t) (a:Sk):∀l:List Sk,l.Pairwise (λx y=>LuteSound.first t y x=false)->(LuteSound.insert t a l).Pairwise λx y=>LuteSound.first t y x=false
 |[],_=>List.pairwise_singleton _ _
 |b::r,h=>by
  obtain⟨h1,h2⟩:=gg.mp h;rw[LuteSound.insert];by_cases hf:LuteSound.first t a b=true
  ·rw[Ae hf];refine gg.mpr ⟨λx hx=>?_,h⟩;rcases bg.mp hx with rfl|hx
   ·exact RL k hf
   ·rw[jx];intro q;have:=RM k q hf;rw[h1 x hx] at this;cases this
  ·rw[Af hf];refine gg.mpr ⟨λx hx=>?_,ON k a r h2⟩;rcases bg.mp ((HC a r).mem_iff.mp hx) with rfl|hx
   ·exact jx.mpr hf
   ·exact h1 x hx
theorem ZX (k:InK t) (p:LuteTab.Piece):(LuteSound.notes t p).Pairwise λx y=>LuteSound.first t y x=false:=by
 unfold LuteSound.notes;induction LuteSound.struck p with
 |nil=>exact oq
 |cons a l ih=>exact ON k a _ ih
def TR (t:Lute.Inst) (p:LuteTab.Piece) (hg:Sk->Nat):Prop:=∀a∈LuteSound.struck p,∀b∈LuteSound.struck p,(hg a<hg b↔(LuteSound.tone t a).lt (LuteSound.tone t b)=true)
theorem o0 (k:InK t) {p:LuteTab.Piece} {hg:Sk->Nat} (h:TR t p hg) {a b:Sk} (ha:a∈LuteSound.struck p) (hb:b∈LuteSound.struck p):hg a=hg b↔LuteSound.tone t a=LuteSound.tone t b:=by
 constructor
 ·intro e;refine RF (C9 k a) (C9 k b) ?_ ?_
  ·rw[jx];intro q;have:=(h a ha b hb).mpr q;omega
  ·rw[jx];intro q;have:=(h b hb a ha).mpr q;omega
 ·intro e;have h1:¬hg a<hg b:=λq=>by
   have:=(h a ha b hb).mp q;rw[e,lt_irrefl (C9 k b).1] at this;cases this
  have h2:¬hg b<hg a:=λq=>by
   have:=(h b hb a ha).mp q;rw[e,lt_irrefl (C9 k b).1] at this;cases this
  omega
def kLt (hg:Sk->Nat) (a b:Sk):Prop:=a.begins<b.begins\/(a.begins=b.begins/\(hg a<hg b\/(hg a=hg b/\a.halt_.course<b.halt_.course)))
theorem PZ (k:InK t) {p:LuteTab.Piece} {hg:Sk->Nat} (h:TR t p hg) {a b:Sk} (ha:a∈LuteSound.struck p) (hb:b∈LuteSound.struck p):kLt hg a b↔LuteSound.first t a b=true:=by
 rw[HP,kLt,h a ha b hb,o0 k h ha hb]
theorem TU (k:InK t) {p:LuteTab.Piece} (kp:PcK (p.map DG)) {hg:Sk->Nat} (h:TR t p hg) {zs:List Sk} (pm:zs.Perm (LuteSound.struck p)) (pw:zs.Pairwise λa b=>¬kLt hg b a):zs=LuteSound.notes t p:=by
 refine OL (pm.trans (M7 p).symm) (R:=λx y=>LuteSound.first t y x=false) ?_ (ZX k p) ?_
 ·refine yH (λ{a b} ha hb q=>?_) pw;rw[jx];exact λz=>q ((PZ k h (pm.mem_iff.mp hb) (pm.mem_iff.mp ha)).mpr z)
 ·intro a ha b hb h1 h2;have ha:=pm.mem_iff.mp ha;have hb:=pm.mem_iff.mp hb;have n1:¬kLt hg b a:=λz=>by have:=(PZ k h hb ha).mp z;rw[h1] at this;cases this
  have n2:¬kLt hg a b:=λz=>by have:=(PZ k h ha hb).mp z;rw[h2] at this;cases this
  unfold kLt at n1 n2;unfold LuteSound.struck at ha hb;rw[←HL] at ha hb;exact iK kp (iI ha) (iI hb) (by omega) (by omega)
end
open PySem PySem.Spec PyProof.Rows L2
def ro (x:Iv):List Int:=LuteD.rowOf x
theorem OO (x:Iv):ro x=[x.a,x.b,x.c,x.e,(x.d:Int)]:=rfl
theorem o5:ro Lute.unison=un5:=rfl
theorem rA (a b c e d:Int):BZ [a,b,c,e,d]=nw d.natAbs (nw a.natAbs (nw b.natAbs (nw c.natAbs e.natAbs))):=by
 unfold BZ GF;simp only[List.foldl,pp,qx,Nat.gcd_zero_left,Int.natAbs_zero];rw[wr _ d.natAbs,yI,yI]
theorem ZY (x:Iv):BZ (ro x)=x.common:=by
 rw[OO,rA];rfl
theorem M8 (z:Int):Lute.within z=decide (z.natAbs<=99):=by
 unfold Lute.within Lute.MOST;rw[ql];simp;omega
theorem eU (x:Iv):FY (ro x)=x.ok:=by
 unfold FY Lute.Iv.ok;rw[ZY];show((([x.a,x.b,x.c,x.e]:List Int).all λp=>decide (p.natAbs<=99))&&(decide ((1:Int)<=(x.d:Int))&&decide ((x.d:Int)<=24)&&decide (x.common=1)))=_;simp only[List.all,M8,yJ];have e1:decide ((1:Int)<=(x.d:Int))=decide (1<=x.d):=by rw[decide_eq_decide];omega
 have e2:decide ((x.d:Int)<=24)=decide (x.d<=Lute.PARTS):=by rw[decide_eq_decide];show _↔x.d<=24;omega
 have e3:decide (x.common=1)=(x.common==1):=rfl;rw[e1,e2,e3];simp only[Bool.and_assoc]
theorem ZZ (x y:Iv):BW (ro x) (ro y)=ro (x.plus y):=by
 have e:D7 (ro x) (ro y)=ro ⟨x.a*y.d+y.a*x.d,x.b*y.d+y.b*x.d,x.c*y.d+y.c*x.d,x.e*y.d+y.e*x.d,x.d*y.d⟩:=by
  rw[OO,OO,OO];unfold D7;show[K5 _ _ 0,K5 _ _ 1,K5 _ _ 2,K5 _ _ 3]++_=_;simp only[K5,List.getD_cons_zero,List.getD_cons_succ,uj,List.nil_append];congr 5;all_goals simp
 unfold BW;rw[e,ZY];unfold Lute.Iv.plus Lute.Iv.low;simp only[OO,List.map];congr 5
theorem KW (x y:Iv) (hx:0<x.d) (hy:0<y.d):BF (ro x) (ro y)=x.lt y:=by
 unfold Lute.Iv.lt Lute.Iv.less Lute.Iv.plus;have hg:∀z:Iv,0<z.d->0<z.common:=λz hz=>ux _ hz;show _=(Lute.Iv.low _).down;rw[RB _ (hg _ (lw hx hy))];unfold Lute.Iv.down Lute.Iv.below Lute.Iv.above Lute.Iv.back BF;have pA:∀k (p:Int),pw (ro x) (ro y) k=p->True:=λ_ _ _=>jg;have e0:pw (ro x) (ro y) 0=y.a*x.d - x.a*y.d:=rfl;have e1:pw (ro x) (ro y) 1=y.b*x.d - x.b*y.d:=rfl;have e2:pw (ro x) (ro y) 2=y.c*x.d - x.c*y.d:=rfl;have e3:pw (ro x) (ro y) 3=y.e*x.d - x.e*y.d:=rfl;have eA:HZ (ro x) (ro y) 4=((2 ^ (y.a*x.d - x.a*y.d).toNat*3 ^ (y.b*x.d - x.b*y.d).toNat*5 ^ (y.c*x.d - x.c*y.d).toNat*7 ^ (y.e*x.d - x.e*y.d).toNat:Nat):Int):=by
  have st:∀(q z b:Int) (p:Nat),(p:Int)=b->(if 0<z then q*b ^ z.toNat else q)=q*((p ^ z.toNat:Nat):Int):=λq z b p hb=>by
   by_cases h:0<z
   ·rw[Ae h, ←hb,xw]
   ·have:z.toNat=0:=by omega
    rw[Af h,this,uQ];simp
  simp only[HZ,e0,e1,e2,e3];rw[st _ _ (prm.getD 0 0) 2 rfl,st _ _ (prm.getD 1 0) 3 rfl,st _ _ (prm.getD 2 0) 5 rfl,st _ _ (prm.getD 3 0) 7 rfl];simp only[sF,xj]
 have eB:IA (ro x) (ro y) 4=((2 ^ (x.a*y.d - y.a*x.d).toNat*3 ^ (x.b*y.d - y.b*x.d).toNat*5 ^ (x.c*y.d - y.c*x.d).toNat*7 ^ (x.e*y.d - y.e*x.d).toNat:Nat):Int):=by
  have st:∀(q z v b:Int) (p:Nat),(p:Int)=b->v= -z->(if 0<z then q else q*b ^ (-z).toNat)=q*((p ^ v.toNat:Nat):Int):=λq z v b p hb hv=>by
   subst hv;by_cases h:0<z
   ·have:(-z).toNat=0:=by omega
    rw[Ae h,this,uQ];simp
   ·rw[Af h, ←hb,xw]
  simp only[IA,e0,e1,e2,e3];rw[st _ _ (x.a*y.d - y.a*x.d) (prm.getD 0 0) 2 rfl (by omega),st _ _ (x.b*y.d - y.b*x.d) (prm.getD 1 0) 3 rfl (by omega),st _ _ (x.c*y.d - y.c*x.d) (prm.getD 2 0) 5 rfl (by omega),st _ _ (x.e*y.d - y.e*x.d) (prm.getD 3 0) 7 rfl (by omega)];simp only[sF,xj]
 rw[eA,eB,decide_eq_decide,Int.ofNat_lt];have n:∀u v p q:Int,u*q+ -v*p=u*q - v*p:=λu v p q=>by rw[vv];omega
 have m:∀u v p q:Int, -(u*q+ -v*p)=v*p - u*q:=λu v p q=>by rw[vv];omega
 simp only[m];simp only[n]
def fg {α:Type}:Except Nat (α×Nat×List UInt8)->Option (α×List UInt8)
 | .ok (a,_,t)=>some (a,t)
 | .error _=>none
def fe {α:Type}:Except Nat α->Option α
 | .ok a=>some a
 | .error _=>none
def dz0:Str:="0123456789"
def fz0:Str:="2357"
theorem M9 {p:UInt8->Prop} (h:∀n,n<256->p (tW n)) (c:UInt8):p c:=by
 have:=h c.toNat (ya c)
 rwa [UInt8.ofNat_toNat] at this
theorem HQ (c:UInt8):BQ dz0.cps.toList ((c.toNat:Nat):Int)=Lute.digit c:=M9 (p:=λc=>BQ dz0.cps.toList ((c.toNat:Nat):Int)=Lute.digit c) (by decide +kernel) c
theorem cU (c:UInt8):BQ fz0.cps.toList ((c.toNat:Nat):Int)=[(50:UInt8),51,53,55].idxOf? c:=M9 (p:=λc=>BQ fz0.cps.toList ((c.toNat:Nat):Int)=[(50:UInt8),51,53,55].idxOf? c) (by decide +kernel) c
theorem OP (c x:UInt8):(c.toNat=x.toNat)↔c=x:=xr
theorem CK {x:UInt8} (hz:z.cps.toList=[x.toNat]) (c:UInt8) (t:List UInt8):see z (c::t)=decide (c=x):=by
 show(BQ z.cps.toList ((c.toNat:Nat):Int)).isSome=_;rw[hz,UT];by_cases h:c=x
 ·rw[Ae (by rw[h]),decide_eq_true h];rfl
 ·rw[Af (λq=>h ((OP c x).mp q)),decide_eq_false h];rfl
theorem JI (z:Str):see z []=false:=rfl
theorem HR:∀(bs:List UInt8) (p:Nat) (l:List UInt8),fg (Lute.want bs p l)=sk (bs.map (·.toNat)) l
 |[],p,l=>rfl
 |x::bs,p,[]=>rfl
 |x::bs,p,c::t=>by
  rw[Lute.want,fi,sk];by_cases h:c=x
  ·rw[Ae h,Ae (by rw[h]),HR]
  ·rw[Af h,Af (λq=>h ((OP c x).mp q))];rfl
theorem E7 {x:UInt8} (hz:z.cps.toList=[x.toNat]) (c:UInt8) (t:List UInt8):sk z.cps.toList (c::t)=if c=x then some ((),t) else none:=by
 rw[hz,sk];by_cases h:c=x
 ·rw[Ae h,Ae (by rw[h])];rfl
 ·rw[Af h,Af (λq=>h ((OP c x).mp q))]
theorem P0 (most:Nat):∀(l:List UInt8) (count v p:Nat),v≠0->count<=most->GL dz0 most count v l=fg (Lute.moreDigits (most - count) v p l)
 |[],count,v,p,hv,hc=>by rw[GL,Lute.moreDigits];rfl
 |c::t,count,v,p,hv,hc=>by
  rw[GL,HQ,Lute.moreDigits.eq_def];cases hd:Lute.digit c with
  |none=>simp only[hd];rfl
  |some d=>
   simp only[hd];by_cases hq:count=most
   ·rw[Ae (.inl hq),hq,wz];rfl
   ·rw[Af (by rintro (q|q);exact hq q;exact hv q)];obtain⟨m,hm⟩:∃m,most - count=m+1:=⟨most - count - 1,by omega⟩
    rw[hm];have:=P0 most t (count+1) (10*v+d) (p+1) (by omega) (by omega);rw[this,show most - (count+1)=m by omega]
theorem KF (p:Nat) (l:List UInt8):wn dz0 4 l=fg (Lute.number p l):=by
 cases l with
 |nil=>rfl
 |cons c t=>
  unfold wn;rw[BR,HQ,Lute.number.eq_def];dsimp only;cases hd:Lute.digit c with
  |none=>rfl
  |some d=>
   show GL dz0 4 1 d t=_;cases d with
   |zero=>
    cases t with
    |nil=>rfl
    |cons y u=>
     rw[GL,HQ];cases hy:Lute.digit y with
     |none=>simp[hy,fg]
     |some e=>simp[hy,fg]
   |succ d=>exact P0 4 t 1 (d+1) (p+1) (by omega) (by omega)
theorem cW (p:Nat) (l:List UInt8):(if see "0" l=true then none else wn dz0 7 l)=fg (Lute.longNumber p l):=by
 cases l with
 |nil=>rfl
 |cons c t=>
  rw[CK (z:="0") (x:=48) rfl];unfold wn;rw[BR,HQ,Lute.longNumber];cases hd:Lute.digit c with
  |none=>
   by_cases h:c=48
   ·subst h;exact absurd hd (by decide)
   ·rw[Af (by simp[h])];rfl
  |some d=>
   have h48:c=48↔d=0:=by
    unfold Lute.digit at hd;split at hd
    ·cases hd;rename_i h;have h1:48<=c.toNat:=h.1;rw[←OP];show c.toNat=48↔_;omega
    ·cases hd
   cases d with
   |zero=>rw[Ae (by simp[h48.mpr rfl])];rfl
   |succ d=>
    rw[Af (by simp;intro q;exact absurd (h48.mp q) (by omega))];exact P0 7 t 1 (d+1) (p+1) (by omega) (by omega)
theorem W4 (p:Nat) (l:List UInt8):mSg dz0 l=fg (Lute.signed p l):=by
 cases l with
 |nil=>rfl
 |cons c t=>
  unfold mSg;rw[CK (z:="-") (x:=45) rfl,Lute.signed.eq_def];dsimp only;by_cases h:c=45
  ·rw[Ae (by simp[h]),Ae h,E7 (z:="-") (x:=45) rfl,Ae h];show(if see "0" t=true then none else match wn dz0 4 t with
    |none=>none
    |some (n,u)=>some (-(n:Int),u))=_
   cases t with
   |nil=>rfl
   |cons y u=>
    rw[CK (z:="0") (x:=48) rfl];by_cases h2:y=48
    ·subst h2;rfl
    ·rw[Af (by simp[h2])];have e:(match (y::u:List UInt8) with
      |48::_=>yZ (p+1)
      |_=>match Lute.number (p+1) (y::u) with
       | .error e=>.error e
       | .ok (n,q,v)=>.ok (-((n:Nat):Int),q,v))=(match Lute.number (p+1) (y::u) with
       | .error e=>(.error e:Lute.Rd Int)
       | .ok (n,q,v)=>.ok (-((n:Nat):Int),q,v)):=by
      split
      ·rename_i q;cases q;exact absurd rfl h2
      ·rfl
     refine si ?_ (congrArg fg e).symm;rw[KF (p+1)];cases Lute.number (p+1) (y::u) with
     |error e=>rfl
     |ok x=>obtain⟨n,q,v⟩:=x;rfl
  ·rw[Af (by simp[h]),Af h,KF p];cases Lute.number p (c::t) with
   |error e=>rfl
   |ok x=>obtain⟨n,q,v⟩:=x;rfl
def W5:Except Nat ((Nat×Option (Int×Nat))×Nat×List UInt8)->Option (List Int×List UInt8)
 | .error _=>none
 | .ok ((_,none),_,_)=>none
 | .ok ((_,some (n,d)),_,u)=>some ([n,(d:Int)],u)
theorem jH (p k:Nat) (c:UInt8) (r:List UInt8) (hk:[(50:UInt8),51,53,55].idxOf? c=some k):mPw dz0 r=W5 (Lute.factorAt p (c::r)):=by
 rw[Lute.factorAt.eq_def];dsimp only;rw[hk];dsimp only;cases r with
 |nil=>rfl
 |cons y u=>
  unfold mPw;rw[CK (z:="^") (x:=94) rfl];by_cases h:y=94
  ·subst h;rw[Ae (by simp),E7 (z:="^") (x:=94) rfl,Ae rfl];show(match mSg dz0 u with
    |none=>none
    |some (n,u)=>_)=W5 (match Lute.signed (p+1+1) u with
    | .error e=>.error e
    | .ok (n,q,v)=>match v with
      |47::w=>(match Lute.number (q+1) w with
       | .error e=>.error e
       | .ok (d,z,t)=>.ok ((k,if 2<=d/\nw n.natAbs d=1 then some (n,d) else none),z,t))
      |_=>.ok ((k,if n=0\/n=1 then none else some (n,1)),q,v))
   rw[W4 (p+1+1)];cases hs:Lute.signed (p+1+1) u with
   |error e=>rfl
   |ok x=>
    obtain⟨n,q,v⟩:=x;show(if see "/" v=true then _ else _)=_;cases v with
    |nil=>
     rw[Af (by decide)];show _=W5 (.ok ((k,if n=0\/n=1 then none else some (n,1)),q,[]));by_cases hn:n=0\/n=1
     ·rw[Ae hn,Ae hn];rfl
     ·rw[Af hn,Af hn];rfl
    |cons z w=>
     rw[CK (z:="/") (x:=47) rfl];by_cases h2:z=47
     ·subst h2;rw[Ae (by simp),E7 (z:="/") (x:=47) rfl,Ae rfl];show(match wn dz0 4 w with
       |none=>none
       |some (d,y)=>_)=W5 (match Lute.number (q+1) w with
        | .error e=>.error e
        | .ok (d,z,t)=>.ok ((k,if 2<=d/\nw n.natAbs d=1 then some (n,d) else none),z,t))
      rw[KF (q+1)];cases hw:Lute.number (q+1) w with
      |error e=>rfl
      |ok x=>
       obtain⟨d,z',t⟩:=x;show(if d<2\/1<pp n d then none else some ([n,(d:Int)],t))=W5 (.ok ((k,if 2<=d/\nw n.natAbs d=1 then some (n,d) else none),z',t));have eg:pp n d=nw n.natAbs d:=rfl;by_cases hc:2<=d/\nw n.natAbs d=1
       ·rw[Ae hc,Af (by rw[eg];omega)];rfl
       ·rw[Af hc];have hp:0<d->0<nw n.natAbs d:=λhd=>Nat.gcd_pos_of_pos_right _ hd;rw[Ae (by rw[eg];by_cases h3:d<2;exact .inl h3;right;have:=hp (by omega);omega)];rfl
     ·rw[Af (by simp[h2])];have e:(match (z::w:List UInt8) with
       |47::w=>(match Lute.number (q+1) w with
        | .error e=>.error e
        | .ok (d,z,t)=>.ok ((k,if 2<=d/\nw n.natAbs d=1 then some (n,d) else none),z,t))
       |_=>.ok ((k,if n=0\/n=1 then none else some (n,1)),q,z::w))=(.ok ((k,if n=0\/n=1 then none else some (n,1)),q,z::w):Lute.Rd (Nat×Option (Int×Nat))):=by
       split
       ·rename_i q;cases q;exact absurd rfl h2
       ·rfl
      refine si ?_ (congrArg W5 e).symm;by_cases hn:n=0\/n=1
      ·rw[Ae hn,Ae hn];rfl
      ·rw[Af hn,Af hn];rfl
  ·rw[Af (by simp[h])];split
   ·rename_i q;cases q;exact absurd rfl h
   ·rfl
def chk:Option (List Int×List UInt8)->Option (List Int)
 |none=>none
 |some (y,_)=>if FY y=true then some y else none
theorem jI (k:Nat) (n:Int) (d:Nat) (hk:k<4):K8 k n (d:Int)=ro (Lute.powerOf k n d):=by
 match k,hk with
 |0,_=>rfl
 |1,_=>rfl
 |2,_=>rfl
 |3,_=>rfl
theorem TV {c:UInt8} {r:List UInt8} {k:Nat} {w:Option (Int×Nat)} {u:List UInt8} (h:Lute.factorAt p (c::r)= .ok ((k,w),q,u)):[(50:UInt8),51,53,55].idxOf? c=some k:=by
 rw[Lute.factorAt.eq_def] at h;dsimp only at h;cases hk:[(50:UInt8),51,53,55].idxOf? c with
 |none=>rw[hk] at h;cases h
 |some j=>
  rw[hk] at h;dsimp only at h;split at h
  ·split at h
   ·cases h
   ·split at h
    ·split at h
     ·cases h
     ·cases h;rfl
    ·cases h;rfl
  ·cases h;rfl
theorem Z0:∀(f least p:Nat) (x:Iv) (l:List UInt8),chk (mFc dz0 fz0 f least (ro x) l)=(fe (Lute.factorsAt f least x p l)).map ro
 |0,least,p,x,l=>rfl
 |f+1,least,p,x,l=>by
  rw[mFc,Lute.factorsAt];cases l with
  |nil=>rfl
  |cons c r=>
   rw[BR,cU];cases hk:[(50:UInt8),51,53,55].idxOf? c with
   |none=>
    have e:Lute.factorAt p (c::r)= .error p:=by
     rw[Lute.factorAt.eq_def];dsimp only;rw[hk]
    rw[e];rfl
   |some k=>
    show chk (match mPw dz0 r with
     |none=>none
     |some (x_1,u)=>_)=_
    have hk4:k<4:=by
     have:=(uA.mp hk).1;simpa using this
    rw[jH p k c r hk];cases hfa:Lute.factorAt p (c::r) with
    |error e=>rfl
    |ok y=>
     obtain⟨⟨k',w⟩,q,u⟩:=y;have ek:k'=k:=by have:=TV hfa;rw[hk] at this;exact(cu this).symm
     subst ek;cases w with
     |none=>
      dsimp only;by_cases hl:k'<least
      ·rw[Ae hl];rfl
      ·rw[Af hl];rfl
     |some nd=>
      obtain⟨n,d⟩:=nd;show chk (if k'<least then none else _)=_;dsimp only;by_cases hl:k'<least
      ·rw[Ae hl,Ae hl];rfl
      ·rw[Af hl,Af hl];have e1:BW (K8 k' (([n,(d:Int)]:List Int).getD 0 0) (([n,(d:Int)]:List Int).getD 1 0)) (ro x)=ro (x.plus (Lute.powerOf k' n d)):=by
        show BW (K8 k' n (d:Int)) (ro x)=_;rw[jI k' n d hk4,ZZ,HJ]
       rw[e1];cases u with
       |nil=>
        show(if FY (ro (x.plus (Lute.powerOf k' n d)))=true then some (ro (x.plus (Lute.powerOf k' n d))) else none)=(fe (if(x.plus (Lute.powerOf k' n d)).ok=true then Except.ok (x.plus (Lute.powerOf k' n d)) else yZ q)).map ro;rw[eU];by_cases hy:(x.plus (Lute.powerOf k' n d)).ok=true
        ·rw[Ae hy,Ae hy];rfl
        ·rw[Af hy,Af hy];rfl
       |cons z v=>
        rw[Af (by simp),E7 (z:=" ") (x:=32) rfl];dsimp only;by_cases hz:z=32
        ·rw[Ae hz,Ae hz];exact Z0 f (k'+1) (q+1) _ v
        ·rw[Af hz,Af hz];rfl
theorem Z1 (l:List UInt8):mIv dz0 fz0 l=(fe (Lute.read l)).map ro:=by
 have e2:∀l,(match Q9 dz0 fz0 l with
  |none=>none
  |some (x,_)=>if FY x=true then some x else none)=(fe (Lute.factorsAt (l.length+1) 0 Lute.unison 0 l)).map ro:=λl=>by
  have:=Z0 (l.length+1) 0 0 Lute.unison l;rw[o5] at this;rw[←this];unfold Q9;cases mFc dz0 fz0 (l.length+1) 0 un5 l with
  |none=>rfl
  |some y=>obtain⟨y,t⟩:=y;rfl
 unfold mIv;cases l with
 |nil=>exact e2 []
 |cons c r=>
  rw[CK (z:="1") (x:=49) rfl];by_cases h:c=49
  ·subst h;rw[Ae (by simp)];unfold mUn;rw[E7 (z:="1") (x:=49) rfl,Ae rfl];cases r with
   |nil=>rfl
   |cons y u=>rfl
  ·rw[Af (by simp[h])];refine(e2 (c::r)).trans ?_;have:Lute.read (c::r)=Lute.factorsAt ((c::r).length+1) 0 Lute.unison 0 (c::r):=by
    unfold Lute.read;split
    ·rename_i q;cases q;exact absurd rfl h
    ·rfl
   rw[this]
theorem Z2 {b:List UInt8} {x:Iv} (h:Lute.read b= .ok x):0<x.d:=by
 have e:mIv dz0 fz0 b=some (ro x):=by rw[Z1,h];rfl
 have:=(ZB e).2.2.1;rw[OO] at this;have h2:(1:Int)<=(x.d:Int):=this;omega
def Z3 (g:List Int->Bool) (l:List UInt8):Option (List Int×List UInt8):=match sk (" ":Str).cps.toList l with
 |none=>none
 |some (_,t)=>match CW dz0 fz0 t with
  |none=>none
  |some (x,u)=>if g x=true then(match sk ("\n":Str).cps.toList u with
   |none=>none
   |some (_,v)=>some (x,v)) else none
def rx:Option (Iv×List UInt8)->Option (List Int×List UInt8)
 |none=>none
 |some (x,t)=>some (ro x,t)
theorem jJ (g:List Int->Bool) (fine:Iv->Bool) (h:∀x:Iv,0<x.d->g (ro x)=fine x) (p:Nat) (l:List UInt8):Z3 g l=rx (fg (Lute.ivLine fine p l)):=by
 unfold Z3 Lute.ivLine;have e1:sk (" ":Str).cps.toList l=fg (Lute.want [32] p l):=(HR [32] p l).symm;rw[e1];cases hw:Lute.want [32] p l with
 |error e=>rfl
 |ok y=>
  obtain⟨_,q,u⟩:=y;show(match CW dz0 fz0 u with
   |none=>none
   |some (x,u)=>_)=rx (fg (match Lute.read (u.takeWhile λ(c:UInt8)=>c != 10) with
   | .error e=>.error (q+e)
   | .ok x=>if fine x=false then .error q else match Lute.want [10] (q+(u.takeWhile λ(c:UInt8)=>c != 10).length) (u.drop (u.takeWhile λ(c:UInt8)=>c != 10).length) with
     | .error e=>.error e
     | .ok (_,z,v)=>.ok (x,z,v)))
  have e2:u.takeWhile lf=u.takeWhile λ(c:UInt8)=>c != 10:=rfl;unfold CW;rw[e2,Z1];generalize hb:(u.takeWhile λ(c:UInt8)=>c != 10)=b;cases hr:Lute.read b with
  |error e=>rfl
  |ok x=>
   show(if g (ro x)=true then _ else _)=_;rw[h x (Z2 hr)];cases hf:fine x with
   |false=>
    dsimp only;rw[Ae hf];rfl
   |true=>
    rw[Ae rfl];dsimp only;rw[Af (by rw[hf];decide)];have e3:sk ("\n":Str).cps.toList (u.drop b.length)=fg (Lute.want [10] (q+b.length) (u.drop b.length)):=(HR [10] _ _).symm;rw[e3];cases Lute.want [10] (q+b.length) (u.drop b.length) with
    |error e=>rfl
    |ok y=>obtain⟨_,z,v⟩:=y;rfl
def TW (z:Str) (m:Bool) (g:List Int->Bool) (put:List Int->St3) (l:List UInt8):Option (St3×List UInt8):=match sk z.cps.toList l with
 |none=>none
 |some (_,t)=>if m=true then(match Z3 g t with
  |none=>none
  |some (x,v)=>some (put x,v)) else none
theorem P1 {m:Bool} {g:List Int->Bool} {put:List Int->St3} {l:List UInt8}:
 (match (match mSW z m l with
  |none=>none
  |some (_,t)=>match CW dz0 fz0 t with
   |none=>none
   |some (x,u)=>if g x=true then some (put x,u) else none:Option (St3×List UInt8)) with
 |none=>none
 |some (s',t)=>match sk ("\n":Str).cps.toList t with
  |none=>none
  |some (_,u)=>some (s',u))=TW z m g put l:=by
 unfold TW mSW Z3;cases sk z.cps.toList l with
 |none=>rfl
 |some y=>
  obtain⟨_,t⟩:=y;cases m with
  |false=>rfl
  |true=>
   simp only[if_true];cases sk (" ":Str).cps.toList t with
   |none=>rfl
   |some y=>
    obtain⟨_,t⟩:=y;simp only;cases CW dz0 fz0 t with
    |none=>rfl
    |some y=>
     obtain⟨x,u⟩:=y;simp only;cases hg:g x with
     |false=>rfl
     |true=>
      simp only[if_true];cases sk ("\n":Str).cps.toList u with
      |none=>rfl
      |some y=>obtain⟨_,v⟩:=y;rfl
theorem cX {fr co ba:List (List Int)} {l:List UInt8} (h:see "f" l=true/\co.length=0):CS dz0 fz0 (fr,co,ba) l=TW "fret" (decide (fr.length<15)) (λx=>BF (fr.getLastD un5) x) (λx=>(fr++[x],co,ba)) l:=by
 unfold CS;rw[G9,Ae h,MX, ←P1];all_goals rfl
theorem cY {fr co ba:List (List Int)} {l:List UInt8} (h1:¬(see "f" l=true/\co.length=0)) (h:see "c" l=true/\ba.length=0):CS dz0 fz0 (fr,co,ba) l=TW "course" (decide (co.length+ba.length<14)) (λx=>fr.all λf=>FY (BW f x)) (λx=>(fr,co++[x],ba)) l:=by
 unfold CS;rw[G9,Af h1,Ae h,FF, ←P1];all_goals rfl
theorem cZ {fr co ba:List (List Int)} {l:List UInt8} (h1:¬(see "f" l=true/\co.length=0)) (h2:¬(see "c" l=true/\ba.length=0)) (h:see "b" l=true/\0<co.length):CS dz0 fz0 (fr,co,ba) l=TW "bass" (decide (co.length+ba.length<14)) (λx=>true) (λx=>(fr,co,ba++[x])) l:=by
 unfold CS;rw[G9,Af h1,Af h2,Ae h,JE, ←P1];simp only[if_true];all_goals rfl
theorem VR {fr co ba:List (List Int)} {l:List UInt8} (h1:¬(see "f" l=true/\co.length=0)) (h2:¬(see "c" l=true/\ba.length=0)) (h3:¬(see "b" l=true/\0<co.length)):CS dz0 fz0 (fr,co,ba) l=none:=by
 unfold CS;rw[G9,Af h1,Af h2,Af h3]
def sLn (bs:List UInt8) (m:Bool) (fine:Iv->Bool) (put:Iv->Lute.Inst) (k:Lute.Inst->Nat->List UInt8->Except Nat Lute.Inst) (p:Nat) (l:List UInt8):Except Nat Lute.Inst:=match Lute.want bs p l with
 | .error e=>.error e
 | .ok (_,q,u)=>if m=true then .error p else match Lute.ivLine fine q u with
   | .error e=>.error e
   | .ok (x,q,u)=>k (put x) q u
def fr3 (t:Lute.Inst):St3:=(t.frets.map ro,t.courses.map ro,t.basses.map ro)
theorem LQ:∀{bs:List UInt8} {p q:Nat} {l u:List UInt8},Lute.want bs p l= .ok ((),q,u)->u.length+bs.length=l.length
 |[],p,q,l,u,h=>by rw[Lute.want] at h;cases h;rfl
 |x::bs,p,q,[],u,h=>by rw[Lute.want] at h;cases h
 |x::bs,p,q,c::l,u,h=>by
  rw[Lute.want] at h;split at h
  ·have:=LQ h;simp only[fm];omega
  ·cases h
theorem Z4 {fine:Iv->Bool} {l u:List UInt8} {x:Iv} (h:Lute.ivLine fine p l= .ok (x,q,u)):0<x.d/\u.length<=l.length:=by
 unfold Lute.ivLine at h;cases hw:Lute.want [32] p l with
 |error e=>rw[hw] at h;cases h
 |ok y=>
  obtain⟨_,q',t⟩:=y;have h1:=LQ hw;rw[hw] at h;dsimp only at h;cases hr:Lute.read (t.takeWhile λ(c:UInt8)=>c != 10) with
  |error e=>rw[hr] at h;cases h
  |ok y=>
   rw[hr] at h;dsimp only at h;split at h
   ·cases h
   ·split at h
    ·cases h
    ·rename_i hw2;cases h;have h2:=LQ hw2;rw[im] at h2;exact⟨Z2 hr,by omega⟩
theorem P2 {bs:List UInt8} {m m':Bool} {g:List Int->Bool} {fine:Iv->Bool} {put:List Int->St3} {put':Iv->Lute.Inst} {k:Lute.Inst->Nat->List UInt8->Except Nat Lute.Inst} {F:St3->List UInt8->Option St3} {l:List UInt8}
 (hz:z.cps.toList=bs.map (·.toNat)) (hm:m'=!m) (hg:∀x:Iv,0<x.d->g (ro x)=fine x) (hp:∀x,put (ro x)=fr3 (put' x)) (hk:∀x q u,0<x.d->u.length+bs.length<=l.length->F (put (ro x)) u=(fe (k (put' x) q u)).map fr3):
 (match TW z m g put l with
  |none=>none
  |some (s,t)=>F s t)=(fe (sLn bs m' fine put' k p l)).map fr3:=by
 unfold TW sLn;have e1:sk z.cps.toList l=fg (Lute.want bs p l):=by rw[hz];exact(HR bs p l).symm
 rw[e1];cases hw:Lute.want bs p l with
 |error e=>rfl
 |ok y=>
  obtain⟨_,q,u⟩:=y;have hl:=LQ hw;subst hm;cases m with
  |false=>rfl
  |true=>
   show(match (match Z3 g u with
    |none=>none
    |some (x,v)=>some (put x,v):Option (St3×List UInt8)) with
    |none=>none
    |some (s,t)=>F s t)=(fe (match Lute.ivLine fine q u with
    | .error e=>.error e
    | .ok (x,q,u)=>k (put' x) q u)).map fr3
   rw[jJ g fine hg q u];cases hv:Lute.ivLine fine q u with
   |error e=>rfl
   |ok y=>
    obtain⟨x,q2,v⟩:=y;have hd:=Z4 hv;exact hk x q2 v hd.1 (by omega)
theorem Z5:∀(l:List Iv),(l.map ro).getLastD un5=ro (l.getLastD Lute.unison):=λl=>by
 rw[jk,jk,ww];cases l.getLast?<;>rfl
theorem c5 {l:List Iv} (h:∀x∈l,0<x.d):0<(l.getLastD Lute.unison).d:=by
 rw[jk];cases hl:l.getLast? with
 |none=>decide
 |some x=>exact h x (vz hl)
theorem jK (l:List Iv) (x:Iv):((l.map ro).all λf=>FY (BW f (ro x)))=Lute.soundsAll l x:=by
 unfold Lute.soundsAll;rw[y0];congr 1;funext f;show FY (BW (ro f) (ro x))=_;rw[ZZ,HJ,eU]
theorem isE (l:List α):l.isEmpty=true↔l.length=0:=by cases l<;>simp
theorem OQ:∀(f p:Nat) (t:Lute.Inst) (l:List UInt8),l.length<f->InK t->B9 dz0 fz0 f (fr3 t) l=(fe (Lute.linesAt f t p l)).map fr3
 |0,p,t,l,h,_=>by omega
 |f+1,p,t,[],h,hi=>by
  show B9 dz0 fz0 (f+1) (t.frets.map ro,t.courses.map ro,t.basses.map ro) []=_;rw[JG,Lute.linesAt];by_cases hc:t.courses.isEmpty=true
  ·rw[Ae hc,Af (by rw[ai];exact λq=>q.2 ((isE _).mp hc)),VR (by rw[JI];rintro ⟨q,_⟩;cases q) (by rw[JI];rintro ⟨q,_⟩;cases q) (by rw[JI];rintro ⟨q,_⟩;cases q)];rfl
  ·rw[Af hc,Ae ⟨rfl,by rw[ai];exact λq=>hc ((isE _).mpr q)⟩];rfl
 |f+1,p,t,c::r,h,hi=>by
  show B9 dz0 fz0 (f+1) (t.frets.map ro,t.courses.map ro,t.basses.map ro) (c::r)=_;rw[JG,Lute.linesAt,Af (by rintro ⟨q,_⟩;cases q)];have hlen:r.length<f:=by simpa using h
  have ih:∀(t':Lute.Inst) (q:Nat) (u:List UInt8),InK t'->u.length<f->B9 dz0 fz0 f (fr3 t') u=(fe (Lute.linesAt f t' q u)).map fr3:=λt' q u h1 h2=>OQ f q t' u h2 h1;have c1:(see "f" (c::r)=true/\(t.courses.map ro).length=0)↔(c=102/\t.courses.isEmpty=true):=by rw[CK (z:="f") (x:=102) rfl,ai,isE];simp
  have c2:(see "c" (c::r)=true/\(t.basses.map ro).length=0)↔(c=99/\t.basses.isEmpty=true):=by rw[CK (z:="c") (x:=99) rfl,ai,isE];simp
  have c3:(see "b" (c::r)=true/\0<(t.courses.map ro).length)↔(c=98/\t.courses.isEmpty=false):=by
   rw[CK (z:="b") (x:=98) rfl,ai];cases t.courses<;>simp
  by_cases k1:c=102/\t.courses.isEmpty=true
  ·rw[Ae k1,cX (c1.mpr k1)];have:=P2 (z:="fret") (bs:=Lute.ascii "fret") (m:=decide ((t.frets.map ro).length<15)) (m':=decide (Lute.FRETS<=t.frets.length)) (g:=λx=>BF ((t.frets.map ro).getLastD un5) x) (fine:=λ(x:Iv)=>(t.frets.getLastD Lute.unison).lt x)
    (put:=λx=>(t.frets.map ro++[x],t.courses.map ro,t.basses.map ro)) (put':=λx=>{ t with frets:=t.frets++[x] }) (k:=λt' q u=>Lute.linesAt f t' q u) (F:=λs t=>B9 dz0 fz0 f s t) (p:=p) (l:=c::r) (by decide +kernel)
    (by rw[ai, ←decide_not,decide_eq_decide];show 15<=_↔_;omega) (λx hx=>by rw[Z5];exact KW _ _ (c5 hi.1) hx) (λx=>by show _=fr3 _;unfold fr3;simp)
    (λx q u hx hu=>by
     have e:(t.frets.map ro++[ro x],t.courses.map ro,t.basses.map ro)=fr3 { t with frets:=t.frets++[x] }:=by unfold fr3;simp
     show B9 dz0 fz0 f (t.frets.map ro++[ro x],t.courses.map ro,t.basses.map ro) u=_;rw[e];refine ih _ q u ⟨λy hy=>?_,hi.2.1,hi.2.2⟩ ?_
     ·rcases cn.mp hy with hy|hy
      ·exact hi.1 y hy
      ·rw[ge.mp hy];exact hx
     ·have hb:(Lute.ascii "fret").length=4:=by decide +kernel
      rw[hb] at hu;simp at hu;omega)
   refine si this ?_;unfold sLn;cases Lute.want (Lute.ascii "fret") p (c::r) with
   |error e=>rfl
   |ok y=>
    obtain⟨_,q,u⟩:=y;dsimp only;by_cases hF:Lute.FRETS<=t.frets.length
    ·rw[Ae (by simpa using hF),Ae hF]
    ·rw[Af (by simpa using hF),Af hF];rfl
  ·rw[Af k1];by_cases k2:c=99/\t.basses.isEmpty=true
   ·rw[Ae k2,cY (λq=>k1 (c1.mp q)) (c2.mpr k2)];have:=P2 (z:="course") (bs:=Lute.ascii "course") (m:=decide ((t.courses.map ro).length+(t.basses.map ro).length<14)) (m':=decide (Lute.COURSES<=t.opens.length)) (g:=λx=>(t.frets.map ro).all λf=>FY (BW f x)) (fine:=Lute.soundsAll t.frets)
     (put:=λx=>(t.frets.map ro,t.courses.map ro++[x],t.basses.map ro)) (put':=λx=>{ t with courses:=t.courses++[x] }) (k:=λt' q u=>Lute.linesAt f t' q u) (F:=λs t=>B9 dz0 fz0 f s t) (p:=p) (l:=c::r) (by decide +kernel)
     (by rw[ai,ai, ←decide_not,decide_eq_decide];unfold Lute.Inst.opens;rw[br];show 14<=_↔_;omega) (λx hx=>jK _ _) (λx=>by show _=fr3 _;unfold fr3;simp)
     (λx q u hx hu=>by
      have e:(t.frets.map ro,t.courses.map ro++[ro x],t.basses.map ro)=fr3 { t with courses:=t.courses++[x] }:=by unfold fr3;simp
      show B9 dz0 fz0 f (t.frets.map ro,t.courses.map ro++[ro x],t.basses.map ro) u=_;rw[e];refine ih _ q u ⟨hi.1,λy hy=>?_,hi.2.2⟩ ?_
      ·rcases cn.mp hy with hy|hy
       ·exact hi.2.1 y hy
       ·rw[ge.mp hy];exact hx
      ·have hb:(Lute.ascii "course").length=6:=by decide +kernel
       rw[hb] at hu;simp at hu;omega)
    refine si this ?_;unfold sLn;cases Lute.want (Lute.ascii "course") p (c::r) with
    |error e=>rfl
    |ok y=>
     obtain⟨_,q,u⟩:=y;dsimp only;by_cases hF:Lute.COURSES<=t.opens.length
     ·rw[Ae (by simpa using hF),Ae hF]
     ·rw[Af (by simpa using hF),Af hF];rfl
   ·rw[Af k2];by_cases k3:c=98/\t.courses.isEmpty=false
    ·rw[Ae k3,cZ (λq=>k1 (c1.mp q)) (λq=>k2 (c2.mp q)) (c3.mpr k3)];have:=P2 (z:="bass") (bs:=Lute.ascii "bass") (m:=decide ((t.courses.map ro).length+(t.basses.map ro).length<14)) (m':=decide (Lute.COURSES<=t.opens.length)) (g:=λx=>true) (fine:=λ_=>true)
      (put:=λx=>(t.frets.map ro,t.courses.map ro,t.basses.map ro++[x])) (put':=λx=>{ t with basses:=t.basses++[x] }) (k:=λt' q u=>Lute.linesAt f t' q u) (F:=λs t=>B9 dz0 fz0 f s t) (p:=p) (l:=c::r) (by decide +kernel)
      (by rw[ai,ai, ←decide_not,decide_eq_decide];unfold Lute.Inst.opens;rw[br];show 14<=_↔_;omega) (λx hx=>rfl) (λx=>by show _=fr3 _;unfold fr3;simp)
      (λx q u hx hu=>by
       have e:(t.frets.map ro,t.courses.map ro,t.basses.map ro++[ro x])=fr3 { t with basses:=t.basses++[x] }:=by unfold fr3;simp
       show B9 dz0 fz0 f (t.frets.map ro,t.courses.map ro,t.basses.map ro++[ro x]) u=_;rw[e];refine ih _ q u ⟨hi.1,hi.2.1,λy hy=>?_⟩ ?_
       ·rcases cn.mp hy with hy|hy
        ·exact hi.2.2 y hy
        ·rw[ge.mp hy];exact hx
       ·have hb:(Lute.ascii "bass").length=4:=by decide +kernel
        rw[hb] at hu;simp at hu;omega)
     refine si this ?_;unfold sLn;cases Lute.want (Lute.ascii "bass") p (c::r) with
     |error e=>rfl
     |ok y=>
      obtain⟨_,q,u⟩:=y;dsimp only;by_cases hF:Lute.COURSES<=t.opens.length
      ·rw[Ae (by simpa using hF),Ae hF]
      ·rw[Af (by simpa using hF),Af hF];rfl
    ·rw[Af k3,VR (λq=>k1 (c1.mp q)) (λq=>k2 (c2.mp q)) (λq=>k3 (c3.mp q))];rfl
theorem NB (cs:List UInt8):JF dz0 fz0 cs=(fe (Lute.readInst cs)).map fr3:=by
 unfold JF WS Lute.readInst;have e1:sk ("length ":Str).cps.toList cs=fg (Lute.want (Lute.ascii "length ") 0 cs):=by
  rw[show("length ":Str).cps.toList=(Lute.ascii "length ").map (·.toNat) by decide +kernel];exact(HR _ 0 cs).symm
 rw[e1];cases Lute.want (Lute.ascii "length ") 0 cs with
 |error e=>rfl
 |ok y=>
  obtain⟨_,p,u⟩:=y;show(match (if see "0" u=true then none else match wn dz0 7 u with
   |none=>none
   |some (n,u)=>if n<10000\/200000<n then none else sk ("\n":Str).cps.toList u:Option (Unit×List UInt8)) with
   |none=>none
   |some (_,t)=>B9 dz0 fz0 (t.length+1) ([],[],[]) t)=(fe (match Lute.longNumber p u with
   | .error e=>.error e
   | .ok (n,q,v)=>if n<Lute.SHORT\/Lute.LONG<n then .error p else match Lute.want [10] q v with
     | .error e=>.error e
     | .ok (_,q,v)=>Lute.linesAt (v.length+1) ⟨n,[],[],[]⟩ q v)).map fr3
  have e2:(if see "0" u=true then none else match wn dz0 7 u with
   |none=>none
   |some (n,u)=>if n<10000\/200000<n then none else sk ("\n":Str).cps.toList u:Option (Unit×List UInt8))=match fg (Lute.longNumber p u) with
   |none=>none
   |some (n,u)=>if n<10000\/200000<n then none else sk ("\n":Str).cps.toList u:=by
   rw[←cW p u];by_cases h0:see "0" u=true
   ·rw[Ae h0,Ae h0]
   ·rw[Af h0,Af h0]
  rw[e2];cases Lute.longNumber p u with
  |error e=>rfl
  |ok y=>
   obtain⟨n,q,v⟩:=y;show(match (if n<10000\/200000<n then none else sk ("\n":Str).cps.toList v:Option (Unit×List UInt8)) with
    |none=>none
    |some (_,t)=>B9 dz0 fz0 (t.length+1) ([],[],[]) t)=(fe (if n<Lute.SHORT\/Lute.LONG<n then .error p else _)).map fr3
   by_cases hn:n<10000\/200000<n
   ·rw[Ae hn,Ae (show n<Lute.SHORT\/Lute.LONG<n from hn)];rfl
   ·rw[Af hn,Af (show¬(n<Lute.SHORT\/Lute.LONG<n) from hn)];have e3:sk ("\n":Str).cps.toList v=fg (Lute.want [10] q v):=(HR [10] q v).symm;rw[e3];cases Lute.want [10] q v with
    |error e=>rfl
    |ok y=>
     obtain⟨_,q2,v2⟩:=y;exact OQ (v2.length+1) q2 ⟨n,[],[],[]⟩ v2 (by omega) ⟨by simp,by simp,by simp⟩
theorem HD:∀(bs:List UInt8) (p:Nat) (l:List UInt8),fg (LuteTab.want bs p l)=sk (bs.map (·.toNat)) l
 |[],p,l=>rfl
 |x::bs,p,[]=>rfl
 |x::bs,p,c::t=>by
  rw[LuteTab.want,fi,sk];by_cases h:c=x
  ·rw[Ae h,Ae (by rw[h]),HD]
  ·rw[Af h,Af (λq=>h ((OP c x).mp q))];rfl
theorem o6 (c:UInt8):BQ (zF++".").cps.toList ((c.toNat:Nat):Int)=if c=46 then some 16 else LuteTab.letters.idxOf? c:=M9 (p:=λc=>BQ (zF++".").cps.toList ((c.toNat:Nat):Int)=if c=46 then some 16 else LuteTab.letters.idxOf? c) (by decide +kernel) c
theorem o7 (c:UInt8):BQ (zI++".").cps.toList ((c.toNat:Nat):Int)=if c=46 then some 16 else LuteTab.figures.idxOf? c:=M9 (p:=λc=>BQ (zI++".").cps.toList ((c.toNat:Nat):Int)=if c=46 then some 16 else LuteTab.figures.idxOf? c) (by decide +kernel) c
theorem eV (c:UInt8):BQ zP.cps.toList ((c.toNat:Nat):Int)=LuteTab.capitals.idxOf? c:=M9 (p:=λc=>BQ zP.cps.toList ((c.toNat:Nat):Int)=LuteTab.capitals.idxOf? c) (by decide +kernel) c
theorem eW (c:UInt8):BQ zX.cps.toList ((c.toNat:Nat):Int)=LuteTab.crossings.idxOf? c:=M9 (p:=λc=>BQ zX.cps.toList ((c.toNat:Nat):Int)=LuteTab.crossings.idxOf? c) (by decide +kernel) c
theorem o8 (c:UInt8):BQ zL.cps.toList ((c.toNat:Nat):Int)=[(120:UInt8),116,115,101,113,104,119].idxOf? c:=M9 (p:=λc=>BQ zL.cps.toList ((c.toNat:Nat):Int)=[(120:UInt8),116,115,101,113,104,119].idxOf? c) (by decide +kernel) c
theorem RN (c:UInt8):BQ ("4567":Str).cps.toList ((c.toNat:Nat):Int)=if 52<=c/\c<=55 then some (c.toNat - 52) else none:=M9 (p:=λc=>BQ ("4567":Str).cps.toList ((c.toNat:Nat):Int)=if 52<=c/\c<=55 then some (c.toNat - 52) else none) (by decide +kernel) c
theorem c6 (c:UInt8):BQ ("789":Str).cps.toList ((c.toNat:Nat):Int)=if 55<=c/\c<=57 then some (c.toNat - 55) else none:=M9 (p:=λc=>BQ ("789":Str).cps.toList ((c.toNat:Nat):Int)=if 55<=c/\c<=57 then some (c.toNat - 55) else none) (by decide +kernel) c
theorem W6 (c:UInt8):BQ ("01234":Str).cps.toList ((c.toNat:Nat):Int)=if 48<=c/\c<=52 then some (c.toNat - 48) else none:=M9 (p:=λc=>BQ ("01234":Str).cps.toList ((c.toNat:Nat):Int)=if 48<=c/\c<=52 then some (c.toNat - 48) else none) (by decide +kernel) c
theorem OR (c:UInt8):BQ ("54321":Str).cps.toList ((c.toNat:Nat):Int)=if 49<=c/\c<=53 then some (53 - c.toNat) else none:=M9 (p:=λc=>BQ ("54321":Str).cps.toList ((c.toNat:Nat):Int)=if 49<=c/\c<=53 then some (53 - c.toNat) else none) (by decide +kernel) c
theorem VS (c:UInt8) (n:Nat) (hn:n<256):(tW n<=c↔n<=c.toNat)/\(c<=tW n↔c.toNat<=n):=by
 have e:(tW n).toNat=n:=by rw[v7];omega
 constructor
 ·rw[vc,e]
 ·rw[vc,e]
theorem Z6 {l:List UInt8} {c:UInt8} (h:l.idxOf? c=some i):i<l.length:=(uA.mp h).1
theorem HS {signs:List UInt8} (hz:z.length=16) (hs:signs.length=16) (hi:∀c:UInt8,BQ (z++".").cps.toList ((c.toNat:Nat):Int)=if c=46 then some 16 else signs.idxOf? c):∀(ns:List Nat) (p:Nat) (l:List UInt8),B3 z ns l=fg (LuteTab.sixAt signs ns p l)
 |[],p,l=>rfl
 |n::ns,p,[]=>rfl
 |n::ns,p,c::t=>by
  rw[B3,LuteTab.sixAt,BR,hi,LuteTab.fretAt];by_cases h:c=46
  ·rw[Ae h,Ae (show c=LuteTab.POINT from h)];show(match B3 z ns t with
    |none=>none
    |some (s,u)=>some ((if 16<z.length then⟨n,16⟩::s else s),u))=fg (match LuteTab.sixAt signs ns (p+1) t with
    | .error e=>.error e
    | .ok (s,z,v)=>.ok (s,z,v))
   rw[HS hz hs hi ns (p+1) t];cases LuteTab.sixAt signs ns (p+1) t with
   |error e=>rfl
   |ok y=>
    obtain⟨s,q,v⟩:=y;show some ((if 16<z.length then _ else s),v)=some (s,v);rw[Af (by omega)]
  ·rw[Af h,Af (show¬c=LuteTab.POINT from h)];cases hx:signs.idxOf? c with
   |none=>rfl
   |some f=>
    have hf:=Z6 hx;show(match B3 z ns t with
     |none=>none
     |some (s,u)=>some ((if f<z.length then⟨n,f⟩::s else s),u))=fg (match LuteTab.sixAt signs ns (p+1) t with
     | .error e=>.error e
     | .ok (s,z,v)=>.ok (⟨n,f⟩::s,z,v))
    rw[HS hz hs hi ns (p+1) t];cases LuteTab.sixAt signs ns (p+1) t with
    |error e=>rfl
    |ok y=>
     obtain⟨s,q,v⟩:=y;show some ((if f<z.length then _ else s),v)=some (⟨n,f⟩::s,v);rw[Ae (by omega)]
theorem eX:∀(l:List UInt8) (n p:Nat),n<=3->mSl (3 - n) l=fg (LuteTab.slashes n p l)
 |[],n,p,hn=>by
  rw[LuteTab.slashes.eq_def];match n,hn with
  |0,_=>rfl
  |1,_=>rfl
  |2,_=>rfl
  |3,_=>rfl
 |c::t,n,p,hn=>by
  by_cases h1:c=47
  ·subst h1;have e:LuteTab.slashes n p (47::t)=if n<3 then LuteTab.slashes (n+1) (p+1) t else .error p:=by rw[LuteTab.slashes.eq_def];rfl
   rw[e];by_cases h3:n<3
   ·obtain⟨m,hm⟩:∃m,3 - n=m+1:=⟨2 - n,by omega⟩
    rw[Ae h3,hm,mSl,CK (z:="/") (x:=47) rfl,Ae (by simp),E7 (z:="/") (x:=47) rfl,Ae rfl];show mSl m t=_;rw[show m=3 - (n+1) by omega];exact eX t (n+1) (p+1) (by omega)
   ·have:n=3:=by omega
    subst this;rw[Af h3,wz,mSl,E7 (z:="a") (x:=97) rfl,Af (by decide)];rfl
  ·have e:LuteTab.slashes n p (c::t)=if c=97 then .ok (7+n,p+1,t) else .error p:=by
    by_cases h2:c=97
    ·subst h2;rw[Ae rfl,LuteTab.slashes.eq_def];rfl
    ·rw[Af h2,LuteTab.slashes.eq_def];split
     ·rename_i q;cases q;exact absurd rfl h1
     ·rename_i q;cases q;exact absurd rfl h2
     ·rfl
   rw[e];have key:mSl (3 - n) (c::t)=match sk ("a":Str).cps.toList (c::t) with
    |none=>none
    |some (_,t)=>some (7+n,t):=by
    by_cases h3:n<3
    ·obtain⟨m,hm⟩:∃m,3 - n=m+1:=⟨2 - n,by omega⟩
     rw[hm,mSl,CK (z:="/") (x:=47) rfl,Af (by simp[h1]),show 9 - m=7+n by omega];all_goals rfl
    ·have:n=3:=by omega
     subst this;rw[wz,mSl];all_goals rfl
   rw[key,E7 (z:="a") (x:=97) rfl];by_cases h2:c=97
   ·rw[Ae h2,Ae h2];rfl
   ·rw[Af h2,Af h2];rfl
theorem o9 (p:Nat) (l:List UInt8):mFB l=fg (LuteTab.frenchBassAt p l):=by
 cases l with
 |nil=>rfl
 |cons c t=>
  unfold mFB;rw[LuteTab.frenchBassAt];have hs:see "4567" (c::t)=(if 52<=c/\c<=55 then some (c.toNat - 52) else none:Option Nat).isSome:=by
   show(BQ ("4567":Str).cps.toList ((c.toNat:Nat):Int)).isSome=_;rw[RN]
  rw[hs,BR,RN];by_cases h:52<=c/\c<=55
  ·have h1:52<=c.toNat:=(VS c 52 (by decide)).1.mp h.1;rw[Ae h,Ae h];show some (7+4+(c.toNat - 52),t)=some (c.toNat - 48+7,t);congr 2;omega
  ·rw[Af h,Af h];exact eX (c::t) 0 p (by omega)
theorem eY (p:Nat) (l:List UInt8):mBN l=fg (LuteTab.numberAt p l):=by
 cases l with
 |nil=>rfl
 |cons c t=>
  unfold mBN;rw[LuteTab.numberAt.eq_def,CK (z:="1") (x:=49) rfl,BR,c6];dsimp only;by_cases h:c=49
  ·subst h;rw[Ae (by simp),Af (by decide),Ae rfl,E7 (z:="1") (x:=49) rfl,Ae rfl];cases t with
   |nil=>rfl
   |cons d u=>
    show(match pk "01234" (d::u) with
     |none=>none
     |some (n,u)=>some (10+n,u))=fg (if 48<=d/\d<=52 then .ok (10+(d.toNat - 48),p+2,u) else .error (p+1))
    rw[BR,W6];by_cases hd:48<=d/\d<=52
    ·rw[Ae hd,Ae hd];rfl
    ·rw[Af hd,Af hd];rfl
  ·rw[Af (by simp[h])];by_cases h7:55<=c/\c<=57
   ·have h1:55<=c.toNat:=(VS c 55 (by decide)).1.mp h7.1;rw[Ae h7,Ae h7];show some (7+(c.toNat - 55),t)=some (c.toNat - 48,t);congr 2;omega
   ·rw[Af h7,Af h7,Af h];rfl
theorem rB {l:List UInt8} (h:mFB l=some (n,t)):7<=n:=by
 unfold mFB at h;split at h
 ·cases hp:pk "4567" l with
  |none=>rw[hp] at h;cases h
  |some x=>obtain⟨i,y⟩:=x;rw[hp] at h;cases h;omega
 ·have:∀{f:Nat} {l t:List UInt8} {n:Nat},f<=3->mSl f l=some (n,t)->7<=n:=by
   intro f;induction f with
   |zero=>
    intro l t n _ h;rw[mSl] at h;split at h
    ·cases h
    ·cases h;omega
   |succ f ih=>
    intro l t n hf h;rw[mSl] at h;split at h
    ·split at h
     ·cases h
     ·exact ih (by omega) h
    ·split at h
     ·cases h
     ·cases h;omega
  exact this (by omega) h
theorem pB {l:List UInt8} (h:mBN l=some (n,t)):7<=n:=by
 unfold mBN at h;split at h
 ·split at h
  ·cases h
  ·split at h
   ·cases h
   ·cases h;omega
 ·split at h
  ·cases h
  ·cases h;omega
def DT:Option (List Stop×List UInt8)->Option (List Stop×List UInt8)
 |none=>none
 |some (s,t)=>match sk ("\n":Str).cps.toList t with
  |none=>none
  |some (_,u)=>some (s,u)
def LO (k:Nat) (acc:List Stop) (last:Nat):Prop:=∀s:Stop,k<=s.course->CU acc s=decide (last<s.course)
theorem VT (k:Nat) (acc:List Stop) (s:Stop):LO k (acc++[s]) s.course:=λs' _=>by
 unfold CU;rw[List.getLast?_append];rfl
theorem Z7 (k:Nat) (hk:1<=k):LO k [] 0:=λs' h=>by
 unfold CU;exact(decide_eq_true (by omega)).symm
theorem VU {acc:List Stop} (h:∀s∈acc,s.course<=6):LO 7 acc 6:=λs' h'=>by
 unfold CU;cases hl:acc.getLast? with
 |none=>exact(decide_eq_true (by omega)).symm
 |some x=>
  have:=h x (vz hl);show decide (x.course<s'.course)=decide (6<s'.course);rw[decide_eq_decide];omega
theorem RO (acc:List Stop) (s:Stop) (o:Option (List Stop×List UInt8)):pre (acc++[s]) o=pre acc (match o with
 |none=>none
 |some (l,t)=>some (s::l,t)):=by
 cases o with
 |none=>rfl
 |some x=>obtain⟨l,t⟩:=x;simp[pre]
theorem Z8 {m:List UInt8->Option (Nat×List UInt8)} {rd:Nat->List UInt8->LuteTab.Rd Nat} (hm:∀p l,m l=fg (rd p l)) (h7:∀{l t n},m l=some (n,t)->7<=n) (hl:∀{l t n},m l=some (n,t)->t.length<l.length):
 ∀(f:Nat) (acc:List Stop) (last p:Nat) (l:List UInt8),l.length<f->LO 7 acc last->DT (mBs m f acc l)=pre acc (fg (LuteTab.bassesAt rd f last p l))
 |0,_,_,_,l,h,_=>by omega
 |f+1,acc,last,p,[],h,lo=>by
  rw[mBs,LuteTab.bassesAt,JI,Af (by decide)];rfl
 |f+1,acc,last,p,c::r,h,lo=>by
  rw[mBs,LuteTab.bassesAt,CK (z:=" ") (x:=32) rfl];by_cases h1:c=10
  ·subst h1;rw[Af (by decide),Ae (show(10:UInt8)=LuteTab.END from rfl)];show(match sk ("\n":Str).cps.toList (10::r) with
    |none=>none
    |some (_,u)=>some (acc,u))=_
   rw[E7 (z:="\n") (x:=10) rfl,Ae rfl];simp[pre,fg]
  ·rw[Af (show¬c=LuteTab.END from h1)];by_cases h2:c=32
   ·subst h2;rw[Ae (by simp),Af (by intro q;exact q rfl),E7 (z:=" ") (x:=32) rfl,Ae rfl];show DT (match m r with
     |none=>none
     |some (b,u)=>if CU acc ⟨b,0⟩=true then mBs m f (acc++[⟨b,0⟩]) u else none)=_
    have hr:=hm (p+1) r;rw[hr];cases hrd:rd (p+1) r with
    |error e=>rfl
    |ok y=>
     obtain⟨b,q,u⟩:=y;have hmr:m r=some (b,u):=by rw[hr,hrd];rfl
     have hb:=h7 hmr;have hlen:=hl hmr;show DT (if CU acc ⟨b,0⟩=true then mBs m f (acc++[⟨b,0⟩]) u else none)=pre acc (fg (if b<=last then .error (p+1) else match LuteTab.bassesAt rd f b q u with
      | .error e=>.error e
      | .ok (l,z,v)=>.ok (⟨b,0⟩::l,z,v)))
     rw[lo ⟨b,0⟩ hb];by_cases Ad:last<b
     ·rw[Ae (by simpa using Ad),Af (by omega)];have hrl:r.length<f:=by simpa using h
      have ihh:=Z8 hm h7 hl f (acc++[(⟨b,0⟩:Stop)]) b q u (by omega) (VT 7 acc (⟨b,0⟩:Stop));rw[ihh,RO];cases LuteTab.bassesAt rd f b q u with
      |error e=>rfl
      |ok y=>obtain⟨l,z,v⟩:=y;rfl
     ·rw[Af (by simpa using Ad),Ae (by omega)];rfl
   ·rw[Af (by simp[h2]),Ae (show c≠LuteTab.BLANK from h2)];show(match sk ("\n":Str).cps.toList (c::r) with
     |none=>none
     |some (_,u)=>some (acc,u))=_
    rw[E7 (z:="\n") (x:=10) rfl,Af h1];rfl
theorem eZ (c:UInt8) (hc:(BQ zX.cps.toList ((c.toNat:Nat):Int)).isSome=true):∀(f j:Nat) (t:List UInt8),mTm ((c.toNat:Nat):Int) f j t=some (j+LuteTab.again c f t,t.drop (LuteTab.again c f t))
 |0,j,t=>by rw[mTm,LuteTab.again];rfl
 |f+1,j,[]=>by
  have:¬bt []=((c.toNat:Nat):Int):=by
   show¬(256:Int)=_;have:=ya c;omega
  have e0:LuteTab.again c (f+1) []=0:=rfl;rw[mTm,Af this,e0];rfl
 |f+1,j,x::r=>by
  rw[mTm,LuteTab.again];have e:(bt (x::r)=((c.toNat:Nat):Int))↔x=c:=by
   rw[←OP];show((x.toNat:Nat):Int)=_↔_;omega
  by_cases h:x=c
  ·subst h;rw[Ae (e.mpr rfl),Ae rfl,BR];obtain⟨i,hi⟩:=qf.mp hc;rw[hi];show mTm ((x.toNat:Nat):Int) f (j+1) r=_;rw[eZ x hc f (j+1) r,vO];congr 2;omega
  ·rw[Af (λq=>h (e.mp q)),Af h];rfl
theorem pC (p:Nat) (l:List UInt8):mGS l=fg (LuteTab.germanAt p l):=by
 cases l with
 |nil=>rfl
 |cons c t=>
  unfold mGS;rw[CK (z:="-") (x:=45) rfl,LuteTab.germanAt.eq_def];dsimp only;have hs5:see "54321" (c::t)=(if 49<=c/\c<=53 then some (53 - c.toNat) else none:Option Nat).isSome:=by
   show(BQ ("54321":Str).cps.toList ((c.toNat:Nat):Int)).isSome=_;rw[OR]
  have hsP:see zP (c::t)=(LuteTab.capitals.idxOf? c).isSome:=by
   show(BQ zP.cps.toList ((c.toNat:Nat):Int)).isSome=_;rw[eV]
  by_cases h:c=45
  ·subst h;rw[Ae (by simp),Af (by decide),Ae rfl,E7 (z:="-") (x:=45) rfl,Ae rfl];show(match mBN t with
    |none=>none
    |some (n,u)=>some ((⟨n,0⟩:Stop),u))=_
   rw[eY (p+1)];cases LuteTab.numberAt (p+1) t with
   |error e=>rfl
   |ok y=>obtain⟨b,q,u⟩:=y;rfl
  ·rw[Af (by simp[h]),hs5,BR,OR];by_cases h5:49<=c/\c<=53
   ·have h1:49<=c.toNat:=(VS c 49 (by decide)).1.mp h5.1;have h2:c.toNat<=53:=(VS c 53 (by decide)).2.mp h5.2;rw[Ae h5,Ae h5];show some ((⟨1+(53 - c.toNat),0⟩:Stop),t)=some (⟨6 - (c.toNat - 48),0⟩,t);congr 3;omega
   ·rw[Af h5,Af h5,Af h,hsP,BR,eV];cases hP:LuteTab.capitals.idxOf? c with
    |some f=>rfl
    |none=>
     show mCr (c::t)=_;unfold mCr;rw[BR,eW];cases hX:LuteTab.crossings.idxOf? c with
     |none=>rfl
     |some i=>
      show(match mTm ((c.toNat:Nat):Int) 2 0 t with
       |none=>none
       |some (j,u)=>some ((⟨5 - i%5,1+i / 5+5*j⟩:Stop),u))=some (⟨5 - i%5,5*LuteTab.again c 2 t+i / 5+1⟩,t.drop (LuteTab.again c 2 t))
      rw[eZ c (by rw[eW,hX];rfl)];show some ((⟨5 - i%5,1+i / 5+5*(0+LuteTab.again c 2 t)⟩:Stop),_)=_;congr 3;omega
theorem rC {l:List UInt8} {s:Stop} (h:mGS l=some (s,t)):1<=s.course:=by
 unfold mGS at h;split at h
 ·split at h
  ·cases h
  ·split at h
   ·cases h
   ·rename_i hb;cases h;exact cw (by decide) (pB hb)
 ·split at h
  ·split at h
   ·cases h
   ·cases h;show 1<=1+_;omega
  ·split at h
   ·split at h
    ·cases h
    ·cases h;show 1<=6;omega
   ·unfold mCr at h;split at h
    ·cases h
    ·split at h
     ·cases h
     ·cases h;show 1<=5 - _;omega
theorem Z9:∀(f:Nat) (acc:List Stop) (last p:Nat) (l:List UInt8),l.length<f->LO 1 acc last->DT (mGl f acc l)=pre acc (fg (LuteTab.germanStops f last p l))
 |0,_,_,_,l,h,_=>by omega
 |f+1,acc,last,p,l,h,lo=>by
  rw[mGl,LuteTab.germanStops];have hg:=pC p l;rw[hg];cases hga:LuteTab.germanAt p l with
  |error e=>rfl
  |ok y=>
   obtain⟨s,q,u⟩:=y;have hms:mGS l=some (s,u):=by rw[hg,hga];rfl
   have h1:=rC hms;have hlen:=PU hms;show DT (if CU acc s=true then(if see " " u=true then _ else some (acc++[s],u)) else none)=_;dsimp only;rw[lo s h1];by_cases Ad:last<s.course
   ·rw[Ae (by simpa using Ad),Af (show¬s.course<=last by omega)];cases u with
    |nil=>rfl
    |cons c v=>
     rw[CK (z:=" ") (x:=32) rfl];dsimp only;by_cases hc:c=10
     ·subst hc;rw[Af (by decide),Ae (show(10:UInt8)=LuteTab.END from rfl)];show(match sk ("\n":Str).cps.toList (10::v) with
       |none=>none
       |some (_,u)=>some (acc++[s],u))=_
      rw[E7 (z:="\n") (x:=10) rfl,Ae rfl];rfl
     ·rw[Af (show¬c=LuteTab.END from hc)];by_cases hb:c=32
      ·subst hb;rw[Ae (by simp),Af (by intro q;exact q rfl),E7 (z:=" ") (x:=32) rfl,Ae rfl];show DT (mGl f (acc++[s]) v)=_;have hv:v.length<f:=by simp at hlen;omega
       rw[Z9 f (acc++[s]) s.course (q+1) v hv (VT 1 acc s),RO];cases LuteTab.germanStops f s.course (q+1) v with
       |error e=>rfl
       |ok y=>obtain⟨l,z,w⟩:=y;rfl
      ·rw[Af (by simp[hb]),Ae (show c≠LuteTab.BLANK from hb)];show(match sk ("\n":Str).cps.toList (c::v) with
        |none=>none
        |some (_,u)=>some (acc++[s],u))=_
       rw[E7 (z:="\n") (x:=10) rfl,Af hc];rfl
   ·rw[Af (by simpa using Ad),Ae (show s.course<=last by omega)];rfl
theorem P3:∀{ns:List Nat} {l t:List UInt8} {s:List Stop},(∀n∈ns,1<=n/\n<=6)->B3 z ns l=some (s,t)->∀x∈s,1<=x.course/\x.course<=6
 |[],l,t,s,_,h,x,hx=>by rw[B3] at h;cases h;simp at hx
 |c::ns,l,t,s,hn,h,x,hx=>by
  rw[B3] at h;cases hp:pk (z++".") l with
  |none=>rw[hp] at h;cases h
  |some y=>
   obtain⟨i,y⟩:=y;simp only[hp] at h;cases hm:B3 z ns y with
   |none=>rw[hm] at h;cases h
   |some w=>
    obtain⟨q,v⟩:=w;simp only[hm] at h;cases h;have ih:=P3 (λn hn'=>hn n (aq _ hn')) hm;split at hx
    ·rcases bg.mp hx with rfl|hx
     ·exact hn c bc
     ·exact ih x hx
    ·exact ih x hx
def kdN:LuteTab.Kind->Nat
 | .french=>0
 | .italian=>1
 | .german=>2
theorem aA (acc:List Stop) (o:LuteTab.Rd (List Stop)):pre acc (fg o)=fg (match o with
 | .error e=>.error e
 | .ok (b,z,v)=>.ok (acc++b,z,v)):=by
 cases o with
 |error e=>rfl
 |ok y=>obtain⟨b,z,v⟩:=y;rfl
theorem e6 (k:LuteTab.Kind) (p:Nat) (l:List UInt8):DT (mSt (kdN k) l)=fg (LuteTab.stopsAt k p l):=by
 cases k with
 |french=>
  show DT (mFr l)=fg (match LuteTab.sixAt LuteTab.letters [1,2,3,4,5,6] p l with
   | .error e=>.error e
   | .ok (l,q,u)=>match LuteTab.bassesAt LuteTab.frenchBassAt (u.length+1) 6 q u with
     | .error e=>.error e
     | .ok (b,z,v)=>.ok (l++b,z,v))
  unfold mFr;have hn:=HS (z:=zF) (signs:=LuteTab.letters) (by decide +kernel) (by decide +kernel) o6 [1,2,3,4,5,6] p l;rw[hn];cases hs:LuteTab.sixAt LuteTab.letters [1,2,3,4,5,6] p l with
  |error e=>rfl
  |ok y=>
   obtain⟨s,q,u⟩:=y;have hm:B3 zF [1,2,3,4,5,6] l=some (s,u):=by rw[hn,hs];rfl
   have hle:=P3 (by intro n hn';simp at hn';omega) hm;show DT (mBs mFB (u.length+1) s u)=_;rw[Z8 o9 rB PR (u.length+1) s 6 q u (by omega) (VU λx hx=>(hle x hx).2),aA];rfl
 |italian=>
  show DT (mIt l)=fg (match LuteTab.sixAt LuteTab.figures [6,5,4,3,2,1] p l with
   | .error e=>.error e
   | .ok (l,q,u)=>match LuteTab.bassesAt LuteTab.numberAt (u.length+1) 6 q u with
     | .error e=>.error e
     | .ok (b,z,v)=>.ok (l.reverse++b,z,v))
  unfold mIt;have hn:=HS (z:=zI) (signs:=LuteTab.figures) (by decide +kernel) (by decide +kernel) o7 [6,5,4,3,2,1] p l;rw[hn];cases hs:LuteTab.sixAt LuteTab.figures [6,5,4,3,2,1] p l with
  |error e=>rfl
  |ok y=>
   obtain⟨s,q,u⟩:=y;have hm:B3 zI [6,5,4,3,2,1] l=some (s,u):=by rw[hn,hs];rfl
   have hle:=P3 (by intro n hn';simp at hn';omega) hm;show DT (mBs mBN (u.length+1) s.reverse u)=_;rw[Z8 eY pB LL (u.length+1) s.reverse 6 q u (by omega) (VU λx hx=>(hle x (wV.mp hx)).2),aA];rfl
 |german=>
  show DT (mGr l)=fg (match l with
   |46::r=>(match LuteTab.want [LuteTab.END] (p+1) r with
    | .error e=>.error e
    | .ok (_,q,u)=>.ok ([],q,u))
   |_=>LuteTab.germanStops (l.length+1) 0 p l)
  unfold mGr;cases l with
  |nil=>exact(Z9 1 [] 0 p [] (by decide) (Z7 1 (by decide))).trans (LE _)
  |cons c r=>
   rw[CK (z:=".") (x:=46) rfl];by_cases h:c=46
   ·subst h;rw[Ae (by simp),E7 (z:=".") (x:=46) rfl,Ae rfl];show(match sk ("\n":Str).cps.toList r with
     |none=>none
     |some (_,u)=>some ([],u))=fg (match LuteTab.want [LuteTab.END] (p+1) r with
     | .error e=>.error e
     | .ok (_,q,u)=>.ok ([],q,u))
    have e3:sk ("\n":Str).cps.toList r=fg (LuteTab.want [LuteTab.END] (p+1) r):=(HD [10] _ _).symm;rw[e3];cases LuteTab.want [LuteTab.END] (p+1) r with
    |error e=>rfl
    |ok y=>obtain⟨_,z,v⟩:=y;rfl
   ·rw[Af (by simp[h])];have:=(Z9 ((c::r).length+1) [] 0 p (c::r) (by omega) (Z7 1 (by decide))).trans (LE _);rw[this];congr 1;split
    ·rename_i q;cases q;exact absurd rfl h
    ·rfl
def TX (l:List UInt8):Option (Nat×List UInt8):=match pk zL l with
 |none=>none
 |some (i,t)=>if 0<i/\see "." t=true then(match sk (".":Str).cps.toList t with
  |none=>none
  |some (_,u)=>match sk (" ":Str).cps.toList u with
   |none=>none
   |some (_,v)=>some (2 ^ i+2 ^ i / 2,v))
  else match sk (" ":Str).cps.toList t with
   |none=>none
   |some (_,v)=>some (2 ^ i,v)
theorem jL (p:Nat) (l:List UInt8):TX l=fg (LuteTab.lengthAt p l):=by
 cases l with
 |nil=>rfl
 |cons c r=>
  unfold TX;rw[BR,o8,LuteTab.lengthAt.eq_def];dsimp only;cases hx:[(120:UInt8),116,115,101,113,104,119].idxOf? c with
  |none=>rfl
  |some i=>
   have hp:0<i->2 ^ i / 2=2 ^ (i - 1):=λh0=>by
    obtain⟨j,rfl⟩:∃j,i=j+1:=⟨i - 1,by omega⟩
    rw[yV,Nat.mul_div_cancel _ (by decide)];rfl
   show(if 0<i/\see "." r=true then _ else _)=fg (match r with
    |46::32::u=>if i=0 then .error (p+1) else .ok (2 ^ i+2 ^ (i - 1),p+3,u)
    |46::_=>if i=0 then .error (p+1) else .error (p+2)
    |32::u=>.ok (2 ^ i,p+2,u)
    |_=>.error (p+1))
   cases r with
   |nil=>rw[Af (by rw[JI];rintro ⟨_,q⟩;cases q)];rfl
   |cons y t=>
    rw[CK (z:=".") (x:=46) rfl];by_cases h46:y=46
    ·subst h46;by_cases h0:0<i
     ·rw[Ae ⟨h0,by simp⟩,E7 (z:=".") (x:=46) rfl,Ae rfl];cases t with
      |nil=>
       show _=fg (if i=0 then .error (p+1) else .error (p+2));rw[Af (by omega)];rfl
      |cons z u=>
       show(match sk (" ":Str).cps.toList (z::u) with
        |none=>none
        |some (_,v)=>some (2 ^ i+2 ^ i / 2,v))=_
       rw[E7 (z:=" ") (x:=32) rfl];by_cases h32:z=32
       ·subst h32;rw[Ae rfl];show some (2 ^ i+2 ^ i / 2,u)=fg (if i=0 then .error (p+1) else .ok (2 ^ i+2 ^ (i - 1),p+3,u));rw[Af (by omega),hp h0];rfl
       ·rw[Af h32];have e:(match (46::z::u:List UInt8) with
         |46::32::u=>if i=0 then .error (p+1) else .ok (2 ^ i+2 ^ (i - 1),p+3,u)
         |46::_=>if i=0 then .error (p+1) else .error (p+2)
         |32::u=>.ok (2 ^ i,p+2,u)
         |_=>.error (p+1))=(if i=0 then .error (p+1) else .error (p+2):LuteTab.Rd Nat):=by
         split
         ·rename_i q;cases q;exact absurd rfl h32
         ·rfl
         ·rename_i q;cases q
         ·rename_i q1 q2;exact absurd rfl (q1 (z::u))
        rw[e,Af (by omega)];rfl
     ·have:i=0:=by omega
      subst this;rw[Af (by simp),E7 (z:=" ") (x:=32) rfl,Af (by decide)];show none=fg _;split
      ·rfl
      ·rfl
      ·rename_i q;cases q
      ·rfl
    ·rw[Af (by simp[h46]),E7 (z:=" ") (x:=32) rfl];by_cases h32:y=32
     ·subst h32;rw[Ae rfl];rfl
     ·rw[Af h32];show none=fg _;split
      ·rename_i q;cases q;exact absurd rfl h46
      ·rename_i q;cases q;exact absurd rfl h46
      ·rename_i q;cases q;exact absurd rfl h32
      ·rfl
theorem c7 {l:List UInt8} (h:TX l=some (n,t)):0<n:=by
 have hp:∀i:Nat,0<2 ^ i:=λi=>js (by decide);unfold TX at h;split at h
 ·cases h
 ·split at h
  ·split at h
   ·cases h
   ·split at h
    ·cases h
    ·cases h;have:=hp ‹_›;omega
  ·split at h
   ·cases h
   ·cases h;exact hp _
theorem e8 (before:Nat) (c:UInt8) (r:List UInt8) (h:¬c=32):mLn before (c::r)=match TX (c::r) with
 |none=>none
 |some (n,v)=>if n=before then none else some (n,v):=by
 unfold mLn TX;rw[CK (z:=" ") (x:=32) rfl,Af (by simp[h])];cases pk zL (c::r) with
 |none=>rfl
 |some y=>
  obtain⟨i,t⟩:=y;dsimp only;by_cases h0:0<i/\see "." t=true
  ·rw[Ae h0,Ae h0];cases sk (".":Str).cps.toList t with
   |none=>rfl
   |some y=>
    obtain⟨_,u⟩:=y;dsimp only;cases sk (" ":Str).cps.toList u with
    |none=>rfl
    |some y=>obtain⟨_,v⟩:=y;rfl
  ·rw[Af h0,Af h0];cases sk (" ":Str).cps.toList t with
   |none=>rfl
   |some y=>obtain⟨_,v⟩:=y;rfl
theorem pD (before:Nat) (r:List UInt8):mLn before (32::r)=if before=0 then none else some (before,r):=by
 unfold mLn;rw[CK (z:=" ") (x:=32) rfl,Ae (by simp),E7 (z:=" ") (x:=32) rfl,Ae rfl]
def mMo (k:LuteTab.Kind) (n:Nat) (t:List UInt8):Option (Ln×List UInt8):=match DT (mSt (kdN k) t) with
 |none=>none
 |some (st,v)=>some ((n,st),v)
theorem jM (k:LuteTab.Kind) (before:Nat) (l:List UInt8) (h:see "|" l=false):mPl (kdN k) before l=match mLn before l with
 |none=>none
 |some (n,t)=>mMo k n t:=by
 unfold mPl mMo;rw[Af (by rw[h];decide)];cases mLn before l with
 |none=>rfl
 |some y=>
  obtain⟨n,t⟩:=y;dsimp only;cases mSt (kdN k) t with
  |none=>rfl
  |some y=>
   obtain⟨st,u⟩:=y;show(match sk ("\n":Str).cps.toList u with
    |none=>none
    |some (_,v)=>some ((n,st),v))=(match (match sk ("\n":Str).cps.toList u with
    |none=>none
    |some (_,u)=>some (st,u):Option (List Stop×List UInt8)) with
    |none=>none
    |some (st,v)=>some ((n,st),v))
   cases sk ("\n":Str).cps.toList u with
   |none=>rfl
   |some y=>obtain⟨_,v⟩:=y;rfl
theorem c8 (kd before p:Nat) (r:List UInt8):mPl kd before (124::r)=match fg (LuteTab.want [LuteTab.END] p r) with
 |none=>none
 |some (_,t)=>some ((0,[]),t):=by
 unfold mPl;rw[CK (z:="|") (x:=124) rfl,Ae (by simp)];have e:sk ("|\n":Str).cps.toList (124::r)=fg (LuteTab.want [LuteTab.END] p r):=by
  rw[HD,show("|\n":Str).cps.toList=[124,10] by decide +kernel,sk,Ae (show UInt8.toNat 124=124 from rfl)];rfl
 rw[e];all_goals rfl
theorem KY {k:LuteTab.Kind} {l v:List UInt8} {s:List Stop} (h:LuteTab.stopsAt k p l= .ok (s,q,v)):v.length<l.length/\DT (mSt (kdN k) l)=some (s,v):=by
 have e:=e6 k p l;rw[h] at e;refine⟨?_,e⟩;cases hm:mSt (kdN k) l with
 |none=>rw[hm] at e;cases e
 |some y=>
  obtain⟨st,u⟩:=y;rw[hm] at e;have h1:=VN hm;replace e:(match sk ("\n":Str).cps.toList u with
   |none=>none
   |some (_,u)=>some (st,u):Option (List Stop×List UInt8))=some (s,v):=e
  cases hs:sk ("\n":Str).cps.toList u with
  |none=>rw[hs] at e;cases e
  |some y=>
   obtain⟨_,w⟩:=y;have h2:w.length+1=u.length:=BK hs;rw[hs] at e;cases e;omega
theorem aB (k:LuteTab.Kind) (n p:Nat) (t:List UInt8):mMo k n t=match LuteTab.stopsAt k p t with
 | .error _=>none
 | .ok (l,_,u)=>some ((n,l),u):=by
 unfold mMo;rw[e6 k p t];cases LuteTab.stopsAt k p t with
 |error e=>rfl
 |ok y=>obtain⟨l,q,u⟩:=y;rfl
def app (acc:List Ln):Option LuteTab.Piece->Option (List Ln)
 |none=>none
 |some x=>some (acc++x.map DG)
theorem aC (acc:List Ln) (ln:LuteTab.Line) (o:Except Nat LuteTab.Piece):app (acc++[DG ln]) (fe o)=app acc (fe (o.map λ(x:LuteTab.Piece)=>ln::x)):=by
 cases o with
 |error e=>rfl
 |ok x=>simp[app,fe,Except.map]
theorem RP (k:LuteTab.Kind):∀(f p last:Nat) (acc:List Ln) (l:List UInt8),l.length<f->acc.length<=512->mLs (kdN k) f acc last l=app acc (fe (LuteTab.linesAt k f last acc.length p l))
 |0,p,last,acc,l,h,_=>by omega
 |f+1,p,last,acc,[],h,_=>by
  rw[mLs,LuteTab.linesAt,Ae (show([]:List UInt8).isEmpty=true from rfl)];by_cases h0:last=0
  ·rw[Ae h0,Ae h0];rfl
  ·rw[Af h0,Af h0];simp[app,fe]
 |f+1,p,last,acc,c::r,h,ha=>by
  rw[mLs,LuteTab.linesAt,Af (by simp)];have hrl:r.length<f:=by simpa using h
  by_cases hm:LuteTab.LINES<=acc.length
  ·have:acc.length=512:=by have h2:512<=acc.length:=hm;omega
   rw[Ae this,Ae hm];rfl
  ·have Ad:acc.length<512:=by have h2:¬512<=acc.length:=hm;omega
   rw[Af (by omega),Af hm];have step:∀(ln:LuteTab.Line) (last' q:Nat) (u:List UInt8),u.length<f->mLs (kdN k) f (acc++[DG ln]) last' u=app acc (fe ((LuteTab.linesAt k f last' (acc.length+1) q u).map λ(x:LuteTab.Piece)=>ln::x)):=λln last' q u hu=>by
    have:=RP k f q last' (acc++[DG ln]) u hu (by rw[br];simp;omega);rw[this,aC,br];rfl
   by_cases h124:c=124
   ·subst h124;rw[Ae rfl,c8 (kdN k) last (p+1) r];cases hw:LuteTab.want [LuteTab.END] (p+1) r with
    |error e=>rfl
    |ok y=>
     obtain⟨_,q,u⟩:=y;have e1:sk ([LuteTab.END].map (·.toNat)) r=some ((),u):=by rw[←HD _ (p+1),hw];rfl
     have h2:u.length+1=r.length:=BK e1;show mLs (kdN k) f (acc++[(0,[])]) (if 0=0 then last else 0) u=_;rw[Ae rfl];exact step .bar last q u (by omega)
   ·rw[Af h124];have hbar:see "|" (c::r)=false:=by rw[CK (z:="|") (x:=124) rfl];simp[h124]
    rw[jM k last (c::r) hbar];by_cases h32:c=32
    ·subst h32;rw[Ae (show(32:UInt8)=LuteTab.BLANK from rfl),pD];by_cases h0:last=0
     ·rw[Ae h0,Ae h0];rfl
     ·rw[Af h0,Af h0];dsimp only;rw[aB k last (p+1) r];cases hs:LuteTab.stopsAt k (p+1) r with
      |error e=>rfl
      |ok y=>
       obtain⟨l,q,u⟩:=y;have:=(KY hs).1;show mLs (kdN k) f (acc++[(last,l)]) (if last=0 then last else last) u=_;rw[Af h0];exact step (.moment last l) last q u (by omega)
    ·rw[Af (show¬c=LuteTab.BLANK from h32),e8 last c r h32];have hle:=jL p (c::r);rw[hle];cases hl:LuteTab.lengthAt p (c::r) with
     |error e=>rfl
     |ok y=>
      obtain⟨n,q,u⟩:=y;have hm2:TX (c::r)=some (n,u):=by rw[hle,hl];rfl
      have hn:=c7 hm2;show(match (match (if n=last then none else some (n,u):Option (Nat×List UInt8)) with
       |none=>none
       |some (n,t)=>mMo k n t:Option (Ln×List UInt8)) with
       |none=>none
       |some ((n,st),t)=>mLs (kdN k) f (acc++[(n,st)]) (if n=0 then last else n) t)=app acc (fe (if n=last then .error p else match LuteTab.stopsAt k q u with
       | .error e=>.error e
       | .ok (l,z,v)=>(LuteTab.linesAt k f n (acc.length+1) z v).map λ(x:LuteTab.Piece)=>.moment n l::x))
      by_cases hnl:n=last
      ·rw[Ae hnl,Ae hnl];rfl
      ·rw[Af hnl,Af hnl];dsimp only;rw[aB k n q u];have hul:u.length<(c::r).length:=by
        have:mLn (n+1) (c::r)=some (n,u):=by rw[e8 _ c r h32,hm2];show(if n=n+1 then none else some (n,u))=_;rw[Af (by omega)]
        exact VL this
       cases hs:LuteTab.stopsAt k q u with
       |error e=>rfl
       |ok y=>
        obtain⟨l,z,v⟩:=y;have hv:=(KY hs).1;show mLs (kdN k) f (acc++[(n,l)]) (if n=0 then last else n) v=_;rw[Af (by omega)];exact step (.moment n l) n z v (by simp at hul;omega)
theorem c9 (cs:List UInt8):mKd kws 0 cs=match LuteTab.kindAt cs with
 | .error _=>none
 | .ok (k,_,u)=>some (kdN k,u):=by
 have w:∀(z:Str) (bs:List UInt8) (i:Nat) (k:LuteTab.Kind),z.cps.toList=(bs++[LuteTab.END]).map (·.toNat)->kdN k=i->(match sk z.cps.toList cs with
  |none=>none
  |some (_,t)=>some (i,t))=match (match LuteTab.want (bs++[LuteTab.END]) 0 cs with
  | .error e=>.error e
  | .ok (_,q,u)=>.ok (k,q,u):LuteTab.Rd LuteTab.Kind) with
  | .error _=>none
  | .ok (k,_,u)=>some (kdN k,u):=λz bs i k hz hk=>by
  rw[hz, ←HD _ 0 cs];cases LuteTab.want (bs++[LuteTab.END]) 0 cs with
  |error e=>rfl
  |ok y=>obtain⟨_,q,u⟩:=y;subst hk;rfl
 unfold kws;rw[mKd,mKd,mKd,mKd];cases cs with
 |nil=>rfl
 |cons c r=>
  rw[CK (z:=hd1 "french\n") (x:=102) (by decide +kernel),CK (z:=hd1 "italian\n") (x:=105) (by decide +kernel),CK (z:=hd1 "german\n") (x:=103) (by decide +kernel)];by_cases h1:c=102
  ·subst h1;rw[Ae (by simp)];exact w "french\n" LuteTab.Kind.french.word 0 .french (by decide +kernel) rfl
  ·rw[Af (by simp[h1])];by_cases h2:c=105
   ·subst h2;rw[Ae (by simp)];exact w "italian\n" LuteTab.Kind.italian.word 1 .italian (by decide +kernel) rfl
   ·rw[Af (by simp[h2])];by_cases h3:c=103
    ·subst h3;rw[Ae (by simp)];exact w "german\n" LuteTab.Kind.german.word 2 .german (by decide +kernel) rfl
    ·rw[Af (by simp[h3])];have e:LuteTab.kindAt (c::r)= .error 0:=by
      unfold LuteTab.kindAt;split
      ·rename_i q;cases q;exact absurd rfl h1
      ·rename_i q;cases q;exact absurd rfl h2
      ·rename_i q;cases q;exact absurd rfl h3
      ·rfl
     rw[e]
def dA:Except Nat (LuteTab.Kind×LuteTab.Piece)->Option (List Ln)
 | .error _=>none
 | .ok (_,p)=>some (p.map DG)
theorem TY (cs:List UInt8):mPc cs=dA (LuteTab.read cs):=by
 unfold mPc LuteTab.read;rw[c9];cases LuteTab.kindAt cs with
 |error e=>rfl
 |ok y=>
  obtain⟨k,q,u⟩:=y;show mLs (kdN k) (u.length+1) [] 0 u=dA ((LuteTab.linesAt k (u.length+1) 0 0 q u).map λ(p:LuteTab.Piece)=>(k,p));rw[RP k (u.length+1) q 0 [] u (by omega) (by simp)];show app [] (fe (LuteTab.linesAt k (u.length+1) 0 0 q u))=_;cases LuteTab.linesAt k (u.length+1) 0 0 q u with
  |error e=>rfl
  |ok x=>rfl
theorem P4 {signs:List UInt8}:∀{ns:List Nat} {p q:Nat} {l u:List UInt8} {s:List Stop},LuteTab.sixAt signs ns p l= .ok (s,q,u)->(s.map (·.course)).Sublist ns
 |[],p,q,l,u,s,h=>by
  rw[LuteTab.sixAt] at h;cases h;exact zU _
 |c::ns,p,q,l,u,s,h=>by
  rw[LuteTab.sixAt] at h;split at h
  ·cases h
  ·split at h
   ·cases h
   ·rename_i h1;have ih:=P4 h1;cases h;split
    ·exact ih.cons_cons _
    ·exact ih.cons _
def Up (k:Nat) (l:List Stop):Prop:=ZL l/\∀s∈l,k<s.course
theorem P5 {k:Nat} {s:Stop} {l:List Stop} (h:k<s.course) (u:Up s.course l):Up k (s::l):=
 ⟨gg.mpr ⟨u.2,u.1⟩,λx hx=>by
  rcases bg.mp hx with rfl|hx
  ·exact h
  ·have:=u.2 x hx;omega⟩
theorem TZ (k:Nat):Up k []:=⟨oq,by simp⟩
theorem aD {rd:Nat->List UInt8->LuteTab.Rd Nat}:∀{f last p q:Nat} {l u:List UInt8} {s:List Stop},LuteTab.bassesAt rd f last p l= .ok (s,q,u)->Up last s
 |0,last,p,q,l,u,s,h=>by rw[LuteTab.bassesAt] at h;cases h
 |f+1,last,p,q,[],u,s,h=>by rw[LuteTab.bassesAt] at h;cases h
 |f+1,last,p,q,c::r,u,s,h=>by
  rw[LuteTab.bassesAt] at h;split at h
  ·cases h;exact TZ _
  ·split at h
   ·cases h
   ·split at h
    ·cases h
    ·split at h
     ·cases h
     ·split at h
      ·cases h
      ·rename_i h1;have ih:=aD h1;cases h;exact P5 (uz (by assumption)) ih
theorem e9:∀{f last p q:Nat} {l u:List UInt8} {s:List Stop},LuteTab.germanStops f last p l= .ok (s,q,u)->Up last s
 |0,last,p,q,l,u,s,h=>by rw[LuteTab.germanStops] at h;cases h
 |f+1,last,p,q,l,u,s,h=>by
  rw[LuteTab.germanStops] at h;split at h
  ·cases h
  ·split at h
   ·cases h
   ·split at h
    ·cases h
    ·split at h
     ·cases h;exact P5 (by omega) (TZ _)
     ·split at h
      ·cases h
      ·split at h
       ·cases h
       ·rename_i h1;have ih:=e9 h1;cases h;exact P5 (by omega) ih
theorem fA {k:LuteTab.Kind} {l u:List UInt8} {s:List Stop} (h:LuteTab.stopsAt k p l= .ok (s,q,u)):Up 0 s:=by
 have glue:∀{a b:List Stop},ZL a->(∀s∈a,0<s.course/\s.course<=6)->Up 6 b->Up 0 (a++b):=λ{a b} ra ha hb=>
  ⟨sr.mpr ⟨ra,hb.1,λx hx y hy=>by have:=ha x hx;have:=hb.2 y hy;omega⟩,λx hx=>by
   rcases cn.mp hx with hx|hx
   ·exact(ha x hx).1
   ·have:=hb.2 x hx;omega⟩
 unfold LuteTab.stopsAt at h;cases k with
 |french=>
  simp only at h;split at h
  ·cases h
  ·rename_i h1;split at h
   ·cases h
   ·rename_i h2;cases h;have sb:=P4 h1;refine glue ?_ (λx hx=>?_) (aD h2)
    ·exact wA.mp (vd sb (by decide))
    ·have:=sb.subset (mq (f:=λs:Stop=>s.course) hx);simp at this;omega
 |italian=>
  simp only at h;split at h
  ·cases h
  ·rename_i h1;split at h
   ·cases h
   ·rename_i h2;cases h;have sb:=P4 h1;refine glue ?_ (λx hx=>?_) (aD h2)
    ·have:List.Pairwise (λa b:Stop=>b.course<a.course) _:=wA.mp (vd sb (R:=λa b=>b<a) (by decide));exact List.pairwise_reverse.mpr this
    ·have:=sb.subset (mq (f:=λs:Stop=>s.course) (wV.mp hx));simp at this;omega
 |german=>
  simp only at h;split at h
  ·split at h
   ·cases h
   ·cases h;exact TZ _
  ·exact e9 h
theorem jN {l u:List UInt8} (h:LuteTab.lengthAt p l= .ok (n,q,u)):0<n:=by
 have h2:∀i:Nat,0<2 ^ i:=λi=>js (by decide);unfold LuteTab.lengthAt at h;split at h
 ·cases h
 ·split at h
  ·cases h
  ·split at h
   ·split at h
    ·cases h
    ·cases h;exact Nat.add_pos_left (h2 _) _
   ·split at h<;>cases h
   ·cases h;exact h2 _
   ·cases h
def LnK (x:LuteTab.Line):Prop:=match x with
 | .bar=>True
 | .moment n l=>0<n/\Up 0 l
theorem dB {k:LuteTab.Kind}:∀{f last many p:Nat} {l:List UInt8} {x:LuteTab.Piece},LuteTab.linesAt k f last many p l= .ok x->∀y∈x,LnK y
 |f,last,many,p,[],x,h=>by
  have h':LuteTab.linesAt k f last many p []=if last=0 then .error p else .ok []:=by cases f<;>rw[LuteTab.linesAt]
  rw[h'] at h;split at h
  ·cases h
  ·cases h;simp
 |0,last,many,p,c::r,x,h=>by rw[LuteTab.linesAt] at h;cases h;simp
 |f+1,last,many,p,c::r,x,h=>by
  have mp:∀{e:Except Nat LuteTab.Piece} {a:LuteTab.Line},(e.map λ(x:LuteTab.Piece)=>a::x)= .ok x->LnK a->(∀z,e= .ok z->∀y∈z,LnK y)->∀y∈x,LnK y:=λ{e a} h ha hz=>by
   cases e with
   |error _=>cases h
   |ok z=>
    cases h;intro y hy;rcases bg.mp hy with rfl|hy
    ·exact ha
    ·exact hz z rfl y hy
  rw[LuteTab.linesAt] at h;split at h
  ·cases h
  ·split at h
   ·split at h
    ·cases h
    ·exact mp h jg λz hz=>dB hz
   ·split at h
    ·split at h
     ·cases h
     ·split at h
      ·cases h
      ·rename_i h0 _ _ _ _ h1;exact mp h ⟨by omega,fA h1⟩ λz hz=>dB hz
    ·split at h
     ·cases h
     ·rename_i h1;split at h
      ·cases h
      ·split at h
       ·cases h
       ·rename_i h2;exact mp h ⟨jN h1,fA h2⟩ λz hz=>dB hz
theorem T0 {k:LuteTab.Kind} {p:LuteTab.Piece} (h:LuteTab.read cs= .ok (k,p)):oZ p/\PcK (p.map DG):=by
 have hk:∀y∈p,LnK y:=by
  unfold LuteTab.read at h;split at h
  ·cases h
  ·rename_i k' q u _;cases e:LuteTab.linesAt k' (u.length+1) 0 0 q u with
   |error _=>rw[e] at h;cases h
   |ok z=>rw[e] at h;cases h;exact dB e
 refine⟨λn l hm=>(hk _ hm).1,⟨λq hq=>?_,λq hq h0=>?_,λq hq s hs=>?_⟩⟩
 ·obtain⟨y,hy,rfl⟩:=kf.mp hq;cases y with
  |bar=>exact oq
  |moment n l=>exact(hk _ hy).2.1
 ·obtain⟨y,hy,rfl⟩:=kf.mp hq;cases y with
  |bar=>rfl
  |moment n l=>
   have h0:n=0:=h0;have:=(hk _ hy).1;omega
 ·obtain⟨y,hy,rfl⟩:=kf.mp hq;cases y with
  |bar=>exact absurd hs (by show¬s∈[];simp)
  |moment n l=>exact(hk _ hy).2.2 s hs
theorem aE (t:Lute.Inst) (s:Stop) (h:1<=s.course):plc (t.frets.map ro) (t.courses.map ro) (t.basses.map ro) s=t.place s.course s.fret:=by
 unfold plc Lute.Inst.place Lute.Inst.many Lute.Inst.opens;rw[ai,ai,ai,br,decide_eq_true h,rW];by_cases hc:s.course<=t.courses.length
 ·rw[Ae hc,Ae hc,decide_eq_true (show s.course<=t.courses.length+t.basses.length by omega),rW]
 ·rw[Af hc,Af hc];congr 1;rw[decide_eq_decide];omega
theorem T1 {pl pl':Stop->Bool}:∀(p:LuteTab.Piece) (i x:Nat),(∀q∈p.map DG,∀s∈q.2,pl s=pl' s)->
 EF pl i (p.map DG)=match (LuteSound.struckFrom i x p).find? λ(s:LuteSound.Struck)=>!pl' s.halt_ with
  |none=>none
  |some s=>some (s.line,s.halt_.course)
 |[],i,x,_=>rfl
 | .bar::r,i,x,h=>by
   rw[fi,LuteSound.struckFrom];show EF pl i ((0,[])::r.map DG)=_;rw[EF];exact T1 r (i+1) x λq hq=>h q (aq _ hq)
 | .moment n l::r,i,x,h=>by
   rw[fi,LuteSound.struckFrom];show EF pl i ((n,l)::r.map DG)=_;rw[EF,wx];have e:((l.map λ(s:LuteTab.Stop)=>(⟨i,x,x+n,s⟩:LuteSound.Struck)).find? λ(s:LuteSound.Struck)=>!pl' s.halt_)=(l.find? λs=>!pl s).map λs=>(⟨i,x,x+n,s⟩:LuteSound.Struck):=by
    rw[List.find?_map];congr 1;have:∀l':List Stop,(∀s∈l',pl s=pl' s)->(l'.find? ((λ(s:LuteSound.Struck)=>!pl' s.halt_)∘λ(s:LuteTab.Stop)=>(⟨i,x,x+n,s⟩:LuteSound.Struck)))=l'.find? λs=>!pl s:=by
     intro l';induction l' with
     |nil=>intro _;rfl
     |cons a b ih=>
      intro hh;have h1:=hh a bc;rw[ny,ny];show(match !pl' a with|true=>some a|false=>_)=(match !pl a with|true=>some a|false=>_);rw[h1,ih λs hs=>hh s (aq _ hs)]
    exact this l λs hs=>h (n,l) bc s hs
   rw[e];cases l.find? λs=>!pl s with
   |some s=>rfl
   |none=>exact T1 r (i+1) (x+n) λq hq=>h q (aq _ hq)
theorem aF {F:St3->List Ln->List Int} {f:Lute.Inst->LuteTab.Piece->List Int} (h:∀t k p,Lute.readInst ci= .ok t->LuteTab.read ct= .ok (k,p)->F (fr3 t) (p.map DG)=f t p):
 (match GH dz0 fz0 ci ct with
  | .error z=>[z]
  | .ok (s,ps)=>F s ps)=LuteD.of ci ct f:=by
 unfold GH mTb LuteD.of;by_cases hl:4096<ci.length\/65536<ct.length
 ·rw[Ae hl,Ae (show LuteD.INST<ci.length\/LuteD.PIECE<ct.length from hl)];rfl
 ·rw[Af hl,Af (show¬(LuteD.INST<ci.length\/LuteD.PIECE<ct.length) from hl),NB];cases hi:Lute.readInst ci with
  |error e=>rfl
  |ok t=>
   have hp:=TY ct;cases hr:LuteTab.read ct with
   |error e=>
    rw[hr] at hp;rw[hp];rfl
   |ok y=>
    obtain⟨k,p⟩:=y;rw[hr] at hp;rw[hp];exact h t k p hi hr
theorem dC {t:Lute.Inst} {p:LuteTab.Piece} (k:PcK (p.map DG)):EF (plc (fr3 t).1 (fr3 t).2.1 (fr3 t).2.2) 0 (p.map DG)=(LuteSound.misfit t p).map λs=>(s.line,s.halt_.course):=by
 show EF (plc (t.frets.map ro) (t.courses.map ro) (t.basses.map ro)) 0 (p.map DG)=_;rw[T1 (pl':=λs=>t.place s.course s.fret) p 0 0 λq hq s hs=>aE t s (k.one q hq s hs)];unfold LuteSound.misfit LuteSound.struck LuteSound.fitsStop;cases (LuteSound.struckFrom 0 0 p).find? λ(s:LuteSound.Struck)=>!t.place s.halt_.course s.halt_.fret<;>rfl
end Lt
end
section
namespace L2
open PySem PySem.Spec PyProof.Rows
def LA (f:ag) (o:Obj):HO:=.ext λh=>h.get? f=some o
def LB (c:ag) (q:Str):HO:=.ext λh=>h.CodeRec (.ref c) q
section
variable {P:bb} {w:bw} {H:Hp} {h:cq}
theorem VV {f:ag} {o:Obj} (e:h.get? f=some o):ObjOk P w H h f (LA f o):=⟨e,⟨o,e⟩,λ_ _ p k=>k _ p⟩
theorem dD {c:ag} {q:Str} (e:h.CodeRec (.ref c) q):ObjOk P w H h c (LB c q):=by
 refine⟨e,?_,λh1 h2 p k=>?_⟩
 ·obtain⟨c',o,vs,t,e1,e2,_⟩:=e;cases e1;exact⟨o,e2⟩
 ·obtain⟨c',o,vs,t,e1,e2,e3⟩:=p;cases e1;exact⟨_,o,vs,t,rfl,k o e2,e3⟩
theorem aG {f:ag} {o:Obj} (ok:HOk P w H h) (e:H f=some (LA f o)):h.get? f=some o:=(ok f _ e).1
theorem aH {c:ag} {q:Str} (ok:HOk P w H h) (e:H c=some (LB c q)):h.CodeRec (.ref c) q:=(ok c _ e).1
end
def OS (P:bb) (w:bw) (K:aa) (mg:Str->Option ah) (base:cq) (N:List Str) (qual:Str) (scope:ji) (f:ag) (cd:ah) (cl:List (Str×ag)) (A:cz) (outer:List Env) (s:aj) (H:Hp):Cx where
 prog:=P
 w:=w
 K:=K
 mg:=mg
 base:=base
 A:=A.deeper (uR qual scope s.heap.objs.size f cd cl)
 N:=N
 s_0:=s
 H_0:=H
 env:=uR qual scope s.heap.objs.size f cd cl
 outer:=outer
 stack:=uR qual scope s.heap.objs.size f cd cl::outer
 ex:=[]
 calm:=true
 fn:=λ_=>false
 pn:=[]
 xe:=λ_ _=>False
structure LamScope (x:Str) (fr:List Str) (sc:ji):Prop where
 kind:sc.kind= .function
 co:sc.isCoroutine=false
 gen:sc.isGenerator=false
 nd:(x::fr).Nodup
 par:sc.names.lookup x=some .local
 nocell:∀y∈sc.names,y.2≠.cell
 free:∀y∈fr,sc.names.lookup y=some .free
section
variable {P:bb} {w:bw} {K:aa} {mg:Str->Option ah} {base:cq} {x:Str} {fr:List Str} {name qual:Str} {params:sR} {body:Expr} {scope:ji} {f:ag} {cd pm ctv:ah} {c':ag} {cl:List (Str×ag)}
 {A:cz} {outer:List Env} {s:aj} {H:Hp} {v:V} {u:ah} {fvs:List V}
structure CellsAre (cl:List (Str×ag)) (scope:ji) (fr:List Str) (fvs:List V) (H:Hp) (h:cq):Prop where
 len:fr.length=fvs.length
 inj:∀y z c,cl.lookup y=some c->cl.lookup z=some c->y=z
 has:∀y,scope.names.lookup y=some .free->∃c,cl.lookup y=some c
 cell:∀y c,cl.lookup y=some c->∃v,h.IsCell c v
 free:∀y c,cl.lookup y=some c->H c=none
 val:∀(j:Nat) (y:Str) (v:V),fr[j]? =some y->fvs[j]? =some v->∃u c,RelV v u/\cl.lookup y=some c/\h.IsCell c (some u)
theorem dE (S:LamScope x fr scope) (hd:A.handled=none) (e0:Env0 P w K mg base A outer s H) (r:RelV v u) (C:CellsAre cl scope fr fvs H s.heap) {h1:cq} {tk:Nat}
 (hns:h1.Ns s.heap.objs.size (λy=>[(x,u)].reverse.lookup y)) (hk:∀b o,s.heap.get? b=some o->h1.get? b=some o):
 Inv (OS P w K mg base (x::fr) qual scope f cd cl A outer s H) [] (some v::fvs.map some) H { s with heap:=h1,toks:=tk }:=by
 have noA:∀b:ag,b∉(OS P w K mg base (x::fr) qual scope f cd cl A outer s H).ex:=λb z=>absurd (show b∈([]:List ag) from z) (by simp);have ck:∀{c:ag} {v:Option ah},s.heap.IsCell c v->h1.IsCell c v:=λ{c v} ⟨o,ho,hd⟩=>⟨o,hk _ _ ho,hd⟩
 refine⟨⟨e0.mod,S.kind,rfl,rfl,aw _,C.inj,λy hy=>?_,λy c q _=>absurd q (by simp[OS]),λ_=>hd,sg e0.frames,.inr ⟨rfl,rfl⟩,λb z=>absurd z (noA b),e0.bs,e0.bsz,λb _ _=>noA b,λb z=>absurd z (noA b),e0.funs,e0.frf⟩,
  rfl,e0.bare,Un.kept hk,⟨_,hns,λi y v' h1' h2 h3=>?_⟩,λy c q=>?_,e0.hok.fresh (aw _),C.free,λp hp=>absurd (show p∈([]:List (ag×Obj)) from hp) (by simp),e0.hok.kept hk,?_⟩
 ·have hy:scope.names.lookup y=some .cell\/scope.names.lookup y=some .free:=hy;rcases hy with hy|hy
  ·exact absurd rfl (S.nocell _ (cp hy))
  ·exact C.has y hy
 ·have h1':(x::fr)[i]? =some y:=h1';cases i with
  |zero=>
   have e:x=y:=by simpa using h1'
   subst e;have e2:v=v':=by simpa using h2
   subst e2;exact⟨u,r,.inl ⟨S.par,by simp⟩⟩
  |succ j=>
   have h1':fr[j]? =some y:=by simpa using h1'
   have h2:fvs[j]? =some v':=by simpa using h2
   obtain⟨u',c,r',hc,z⟩:=C.val j y v' h1' h2;exact⟨u',r',.inr ⟨.inr (S.free y (bo h1')),c,hc,ck z⟩⟩
 ·obtain⟨v,z⟩:=C.cell y c q;exact⟨v,ck z⟩
 ·show(some v::fvs.map some).length=(x::fr).length;simp[C.len]
theorem dF {CX:CXT} {Q:VK} {E:XK} {t:TE} (S:LamScope x fr scope) (hr:Room 1 A) (e0:Env0 P w K mg base A outer s H) (r:RelV v u) (C:CellsAre cl scope fr fvs H s.heap)
 (ho:s.heap.get? f=some (nz name qual params body scope cl pm c' ctv)) (hcd:s.heap.CodeRec (.ref c') qual) (hb:vh (vA name qual params body scope cl pm (.ref c') ctv) ⟨[u],[]⟩=pure [(x,u)])
 (hbody:PE (OS P w K mg base (x::fr) qual scope f (.ref c') cl A outer s H) body t) (hq:t (some v::fvs.map some) H Q):
 mn (bi P w) A (.call (.ref f) ⟨[u],[]⟩) (CR CX outer P w H s Q E) s:=by
 have lim:s.heap.NoLimit:=e0.mod.nolimit.keeps λb o e=>(e0.bs b o e).1;refine PySem.W.kla_callFunE hr.depth ho rfl S.co S.gen rfl hcd ?_;rw[hb];refine ao (wpAny_newFunctionEnv S.nocell (λy hy=>by rw[ge.mp hy];exact S.par) (λh1 hns hsb=>?_) S.kind);have hk:∀b o,s.heap.get? b=some o->h1.get? b=some o:=λb o e=>hsb.extBut b o (cg (bh e)) (ak _ e);refine⟨lim.keeps hk,?_⟩;show mn _ _ (.expr body (uR qual scope s.heap.objs.size f (.ref c') cl)) _ _;have I:=dE (qual:=qual) (f:=f) (cd:=.ref c') S hr.hd e0 r C (tk:=s.toks+[(x,u)].length) hns hk;refine PySem.W.kla_codeExpr (gr (hbody [] _ _ H Q I hq) (λv' s' hs=>?_) λ_ _ z=>z.elim);obtain⟨y,H',J,ry,q⟩:=hs;exact⟨y,H',J.os,J.bare,J.base,J.hok,ry,q⟩
end
def LamTbl (H:Hp) (P:ag) (pos:Pos) (qual:Str):Prop:=
 ∃ps,H P=some (.tbl ps)/\TriplesOk ps.toList/\(codeAmong pos ps.toList=none\/∃c',codeAmong pos ps.toList=some (.ref c')/\H c'=some (LB c' qual))
def NC (mg:Str->Option ah) (base:cq):Prop:=
 ∃bm ob,mg "__builtins__"=some (.ref bm)/\bm≠uD/\base.get? bm=some ob/\ob.cls= .type "module"/\ob.dict=some uD/\ob.data= .plain
def rD (X:Cx) (P:ag) (params:sR) (body:Expr) (scope:ji) (pos:Pos):TE:=λ_ H Q=>LamTbl H P pos (X.env.qual++"<lambda>")/\∀(f c':ag) (ctv:ah) (H':Hp),H f=none->Sb P H H'->
 H' f=some (LA f (nz "<lambda>" (X.env.qual++"<lambda>") params body scope (BA X.env.cells scope.names []) ((X.mg "__name__").getD .none) c' ctv))->H' c'=some (LB c' (X.env.qual++"<lambda>"))->
 LamTbl H' P pos (X.env.qual++"<lambda>")->Q (.ref f) H'
section
variable {X:Cx} {c P:ag} {params:sR} {body:Expr} {scope:ji} {pos:Pos}
theorem jO (B:NC X.mg X.base) (C:tJ X.base c P) (hcode:X.env.code= .ref c) (hfr:∀y∈scope.names,y.2= .free->X.env.kindOf y.1=some .cell\/X.env.kindOf y.1=some .free) (hdef:defaultsOf params X.env=([],[]):=by rfl):
 PE X (.Lambda params body scope pos) (rD X P params body scope pos):=by
 intro z7 s σ H Q I h;obtain⟨⟨ps,hP,ht,hc⟩,q⟩:=h;have hP':s.heap.get? P=some (PySem.W.tabObj ps):=I.hok P _ hP;have hg:s.heap.Ns dq X.mg:=I.ok.mod.glob.keeps I.bk;have hgo:∃o es ep,X.base.get? dq=some o/\o.data= .dict es ep:=by
  obtain⟨o,es,ep,e,d,_⟩:=I.ok.mod.glob;exact⟨o,es,ep,e,d⟩
 obtain⟨og,es,ep,eg,dg⟩:=hgo;obtain⟨bm,ob,b1,b2,b3,b4,b5,b6⟩:=B;have nP:∀{b:ag},H b=none->b≠P:=λ{b} n z=>by rw[z,hP] at n;cases n
 have hgP:dq≠P:=nP (I.bs _ _ eg).2;have hbG:bm≠dq:=λz=>by rw[z,eg] at b3;cases b3;rw[dg] at b6;cases b6
 have hb:s.heap.BuiltinsAt X.mg P:=⟨bm,ob,b1,b2,hbG,nP (I.bs _ _ b3).2,I.bk _ _ b3,b4,b5,b6⟩
 have hcl:xS scope X.env=pure (BA X.env.cells scope.names []):=L9 λy hy e=>I.ok.has _ (hfr y hy e);have hPl:P<s.heap.objs.size:=bh hP';rcases hc with hn|⟨c',hf,hc'⟩
 ·refine wW hdef (PySem.W.kla_makeFunction hcl I.ok.glob hg hcode (C.keeps I.bk) hP' ht hn hgP hb λc' ctv h' tk hx hge Ad hrec htb=>?_);generalize hfo:nz "<lambda>" (X.env.qual++"<lambda>") params body scope (BA X.env.cells scope.names []) ((X.mg "__name__").getD .none) c' ctv=fo at q ⊢;have q:=q h'.objs.size c' ctv;rw[hfo] at q;generalize hfa:h'.objs.size=f at q Ad ⊢;have hfs:s.heap.objs.size<=f:=cw hge (rg Ad);have ncP:P≠c':=cg (bu hPl hge);have nfP:P≠f:=cg (bu hPl hfs);have ncf:c'≠f:=cg Ad;have Hc:H c'=none:=I.hok.fresh hge;have Hf:H f=none:=I.hok.fresh hfs;have at1:upd (upd (upd H P (.tbl (ps++#[fw pos.line,fw pos.col,.ref c']))) c' (LB c' (X.env.qual++"<lambda>"))) f (LA f fo) f=some (LA f fo):=upd_same;have at2:upd (upd (upd H P (.tbl (ps++#[fw pos.line,fw pos.col,.ref c']))) c' (LB c' (X.env.qual++"<lambda>"))) f (LA f fo) c'=some (LB c' (X.env.qual++"<lambda>")):=by rw[AE ncf,upd_same]
  have at3:upd (upd (upd H P (.tbl (ps++#[fw pos.line,fw pos.col,.ref c']))) c' (LB c' (X.env.qual++"<lambda>"))) f (LA f fo) P=some (.tbl (ps++#[fw pos.line,fw pos.col,.ref c'])):=by rw[AE nfP,AE ncP,upd_same]
  have at4:∀b,b≠P->b≠c'->b≠f->upd (upd (upd H P (.tbl (ps++#[fw pos.line,fw pos.col,.ref c']))) c' (LB c' (X.env.qual++"<lambda>"))) f (LA f fo) b=H b:=λb n1 n2 n3=>by rw[AE n3,AE n2,AE n1]
  generalize upd (upd (upd H P (.tbl (ps++#[fw pos.line,fw pos.col,.ref c']))) c' (LB c' (X.env.qual++"<lambda>"))) f (LA f fo)=H' at at1 at2 at3 at4;have old:∀b o,H b=some o->b≠P->H' b=some o:=λb o e n=>by
   rw[at4 b n (AG e Hc) (AG e Hf)];exact e
  have kp:∀b o,b≠P->s.heap.get? b=some o->(h'.push fo).get? b=some o:=λb o n e=>ak _ (hx b o n e);have fr:∀b o,s.heap.get? b=some o->H b=none->H' b=none:=λb o e n=>by
   have hl:=bh e;rw[at4 b (nP n) (cg (bu hl hge)) (cg (bu hl hfs))];exact n
  have nt:∀{b:ag} {o:HO},H b=some o->(∀ps,o≠.tbl ps)->b≠P:=λ{b o} e d z=>by rw[z,hP] at e;cases e;exact d _ rfl
  have U:Un X.fs [] H H' s.heap (h'.push fo):=by
   refine⟨λb o e n _ _=>kp b o (nP n) e,λb o e n _ _=>⟨o.slots,kp b o (nP n) e⟩,λb o e n _=>fr b o e n,λb o e _=>?_,λb xs e=>old b _ e (nt e λps z=>by cases z),λb o u e=>old b _ e (nt e λps z=>by cases z),λb ps' e=>?_⟩
   ·by_cases z:b=P
    ·subst z;exact⟨_,ak _ htb⟩
    ·exact⟨o,kp b o z e⟩
   ·by_cases z:b=P
    ·subst z;rw[hP] at e;cases e;exact⟨_,at3⟩
    ·exact⟨#[],by rw[old b _ e z];simp⟩
  have hok:HOk X.prog X.w H' (h'.push fo):=λb u e=>by
   by_cases z1:b=f
   ·subst z1;rw[at1] at e;cases e;exact VV (by rw[←hfa];exact bn _ (by rw[←hfo];rfl))
   ·by_cases z2:b=c'
    ·subst z2;rw[at2] at e;cases e;exact dD (hrec.push _)
    ·by_cases z3:b=P
     ·subst z3;rw[at3] at e;cases e;exact ak _ htb
     ·rw[at4 b z3 z2 z1] at e;refine(I.hok b u e).stay (λc v hc q=>kp c v ?_ q) (λc q=>old c _ q (nt q λps z=>by cases z)) λc xs q=>old c _ q (nt q λps z=>by cases z);rcases hc with z|z
      ·rw[z];exact z3
      ·exact nt z λps z=>by cases z
  refine⟨.ref f,H',I.un (t':=tk) U hok,rfl,q H' Hf (λb o e n=>old b o e n) at1 at2 ⟨_,at3,?_,.inr ⟨c',?_,at2⟩⟩⟩
  ·have e:(ps++#[fw pos.line,fw pos.col,cb c']).toList=ps.toList++[fw pos.line,fw pos.col,.ref c']:=by simp
   rw[e];exact TriplesOk_snoc _ _ _ _ ht
  ·have e:(ps++#[fw pos.line,fw pos.col,cb c']).toList=ps.toList++[fw pos.line,fw pos.col,.ref c']:=by simp
   rw[e];exact codeAmong_snoc _ ht hn
 ·refine wW hdef (PySem.W.kla_makeFunctionHit hcl I.ok.glob hg hcode (C.keeps I.bk) hP' ht hf hb λctv h' tk hk hsz=>?_);have Hf:H h'.objs.size=none:=I.hok.fresh hsz;have sm:=Same.upd (o:=LA h'.objs.size (nz "<lambda>" (X.env.qual++"<lambda>") params body scope (BA X.env.cells scope.names []) ((X.mg "__name__").getD .none) c' ctv)) Hf;exact⟨.ref _,_,I.laid (t':=tk) (λb o e=>ak _ (hk b o e)) hsz (VV (bn _ rfl)),rfl,q _ c' ctv _ Hf (λb o e _=>sm b o e) upd_same (sm _ _ hc') ⟨ps,sm _ _ hP,ht,.inr ⟨c',hf,sm _ _ hc'⟩⟩⟩
end
end L2
end
section
namespace L2
open PySem PySem.Spec PyProof.Rows
theorem cf.perm {α β:Type} {R:α->β->Prop} {l1 l2:List β} (p:l1.Perm l2):∀{as:List α},cf R as l2->∃bs:List α,bs.Perm as/\cf R bs l1:=by
 have key:∀{l1 l2:List β},l2.Perm l1->∀{as:List α},cf R as l2->∃bs:List α,bs.Perm as/\cf R bs l1:=by
  intro l1 l2 p;induction p with
  |nil=>intro as h;cases h;exact⟨[],.refl _,.nil⟩
  |cons x _ ih=>
   intro as h;cases h with
   |cons r t=>
    obtain⟨bs,p1,q1⟩:=ih t;exact⟨_::bs,p1.cons _,.cons r q1⟩
  |swap x y l=>
   intro as h;cases h with
   |cons r t=>
    cases t with
    |cons r2 t2=>exact⟨_::_::_,.swap ..,.cons r2 (.cons r t2)⟩
  |trans _ _ ih1 ih2=>
   intro as h;obtain⟨bs,p1,q1⟩:=ih1 h;obtain⟨cs,p2,q2⟩:=ih2 q1;exact⟨cs,p2.trans p1,q2⟩
 intro as h;exact key p.symm h
theorem cf.zip2 {α β γ δ:Type} {R:α->β->Prop} {S:γ->δ->Prop}:∀{as:List α} {bs:List β} {cs:List γ} {ds:List δ},cf R as bs->cf S cs ds->cf (λ(p:α×γ) (q:β×δ)=>R p.1 q.1/\S p.2 q.2) (as.zip cs) (bs.zip ds)
 |_,_,_,_,.nil,_=>.nil
 |_,_,_,_,.cons _ _,.nil=>.nil
 |_,_,_,_,.cons r t,.cons q u=>.cons ⟨r,q⟩ (cf.zip2 t u)
theorem cf.map_snd {α γ:Type} {R:α->γ->Prop} {T:V->ah->Prop} {f:α->V} {g:γ->ah} (h:∀a c,R a c->T (f a) (g c)):∀{as:List α} {cs:List γ},cf R as cs->cf T (as.map f) (cs.map g)
 |_,_,.nil=>.nil
 |_,_,.cons r t=>.cons (h _ _ r) (cf.map_snd h t)
theorem cf.at {α β:Type} {R:α->β->Prop}:∀{as:List α} {bs:List β} {i:Nat} {a:α},cf R as bs->as[i]? =some a->∃b,bs[i]? =some b/\R a b
 |_,_,_,_,.nil,e=>by simp at e
 |_,_,0,_,.cons r _,e=>by simp at e;subst e;exact⟨_,rfl,r⟩
 |_,_,i+1,a,.cons _ t,e=>by
  obtain⟨u,h1,h2⟩:=cf.at (i:=i) (a:=a) t (by simpa using e);exact⟨u,by simpa using h1,h2⟩
theorem cf.snc {α β:Type} {R:α->β->Prop} {a:α} {b:β} (r:R a b):∀{as:List α} {bs:List β},cf R as bs->cf R (as++[a]) (bs++[b])
 |_,_,.nil=>.cons r .nil
 |_,_,.cons q t=>.cons q (cf.snc r t)
theorem RQ:∀a b:List Int,lexLt itemOrd (a.map kq) (b.map kq)=HT.lexLt a b
 |[],[]=>rfl
 |[],_::_=>rfl
 |_::_,[]=>rfl
 |x::a,y::b=>by
  show(decide (x<y)||(!decide (y<x)&&lexLt itemOrd (a.map kq) (b.map kq)))=if x=y then HT.lexLt a b else decide (x<y);rw[RQ a b];by_cases e:x=y
  ·subst e;simp
  ·rw[Af e];by_cases l:x<y
   ·simp[l]
   ·have:y<x:=by omega
    simp[l,this]
abbrev KeyAt (H:Hp) (k:List Int) (v:ah):Prop:=∃p,v= .ref p/\H p=some (.tup (k.map V.int))
section
variable {X:Cx} {z7:List (ag×Obj)} {σ:St} {H:Hp} {s:aj}
theorem KeyAt.same {H H':Hp} (e:Same H H') {k:List Int} {v:ah} (h:KeyAt H k v):KeyAt H' k v:=let ⟨p,e1,e2⟩:=h;⟨p,e1,e _ _ e2⟩
theorem T2 {k:List Int} {Aa:List ah} (r:Vals (k.map V.int) Aa):∀i,tupItems (λ_=>false) i Aa=some (k.map kq):=by
 induction k generalizing Aa with
 |nil=>intro i;cases r;rfl
 |cons x k ih=>
  intro i;cases r with
  |cons r t=>
   obtain⟨tk,rfl⟩:=r;show(if(false:Bool)=true then none else(tupItems (λ_=>false) (i+1) _).map (kq x::·))=_;rw[Af (by simp),ih t];rfl
theorem KeyAt.key {P:bb} {w:bw} {H:Hp} {h:cq} (ok:HOk P w H h) {k:List Int} {v:ah} (q:KeyAt H k v):wX h (λ_=>false) v=some (k.map kq):=by
 obtain⟨p,rfl,e⟩:=q;obtain⟨z,Aa,r,ob,e1,c,n,d⟩:=ok p _ e;have hi:G.isTupObj h (.ref p)=true:=by
  show(match h.get? p with|some o=>(match o.cls with| .type n=>n=="tuple"|_=>false)|none=>false)=true;rw[e1];simp only[c];rfl
 unfold wX;rw[Ae hi];show(match h.get? p with|some o=>(match o.data with| .seq xs _=>tupItems (λ_=>false) 0 xs.toList|_=>none)|none=>none)=_;rw[e1];simp only[d];exact T2 r 0
theorem KeyAt.tups {P:bb} {w:bw} {H:Hp} {h:cq} (ok:HOk P w H h):∀{ks:List (List Int)} {vs:List ah},(∀k∈ks,k≠[])->cf (KeyAt H) ks vs->∃fs,TupsOf h (λ_=>false) vs fs/\fs.length=ks.length
 |_,_,_,.nil=>⟨[],.nil,rfl⟩
 |k::ks,v::vs,ne,.cons q t=>by
  obtain⟨fs,h1,h2⟩:=KeyAt.tups ok (λk hk=>ne k (aq _ hk)) t;obtain⟨p,rfl,e⟩:=q;obtain⟨z,Aa,r,ob,e1,c,n,d⟩:=ok p _ e;cases k with
  |nil=>exact absurd rfl (ne [] (bc ..))
  |cons x k=>
   cases r with
   |cons r t'=>
    obtain⟨tk,rfl⟩:=r;exact⟨_::fs,.cons ⟨p,ob,_,n,rfl,e1,c,d,rfl,λ_=>⟨x,tk,rfl⟩,λz=>absurd z (by simp)⟩ h1,by simp[h2]⟩
theorem Inv.take {t':Nat} {it:ag} {o:HO} {h':cq} (I:Inv X z7 σ H s) (k:∀b o,b≠it->s.heap.get? b=some o->h'.get? b=some o) (hn:H it=none) (hL:it≠X.env.locals)
 (h1:it∈X.ex\/X.s_0.heap.objs.size<=it) (h2:∀x c,X.env.cells.lookup x=some c->c≠it) (h3:∀p∈X.pn++z7,p.1≠it) (new:ObjOk X.prog X.w (upd H it o) h' it o):Inv X z7 σ (upd H it o) { s with heap:=h',toks:=t' }:=by
 have nit:∀b u,H b=some u->b≠it:=λb u e z=>by rw[z,hn] at e;cases e
 refine I.step (g':=s.gens) (d':=s.drawn) (ch:=[it]) (λb hb=>?_) (λb o _ _ hc e _=>k b o (λz=>hc (by simp[z])) e) (λb o _ _ hc e _=>⟨o.slots,k b o (λz=>hc (by simp[z])) e⟩) (λb _ hc _ n=>by rw[AE (λz=>hc (by simp[z]))];exact n)
  (λb o hc e=>⟨o,k b o (λz=>hc (by simp[z])) e⟩) (λb xs e=>by rw[AE (nit b _ e)];exact e) (λb o u e=>by rw[AE (nit b _ e)];exact e) (λb ps e=>⟨#[],by rw[AE (nit b _ e),e];simp⟩) (λm hm=>?_) (λb u e=>?_) I.bare
 ·have e:b=it:=by simpa using hb
  subst e;exact⟨h1,hL,h2,h3⟩
 ·obtain⟨o,es,ep,ho,r⟩:=hm;exact⟨o,es,ep,k _ o (cr hL) ho,r⟩
 ·by_cases hb:b=it
  ·subst hb;rw[upd_same] at e;cases e;exact new
  ·rw[AE hb] at e;refine(I.hok b u e).stay (λc v hc q=>k c v ?_ q) (λc q=>by rw[AE (nit c _ q)];exact q) λc xs q=>by rw[AE (nit c _ q)];exact q
   rcases hc with z|z
   ·rw[z];exact nit b u e
   ·exact nit c _ z
def Own (X:Cx) (z7:List (ag×Obj)) (D:ag):Prop:=D≠X.env.locals/\D∉X.fs/\X.s_0.heap.objs.size<=D/\(∀x c,X.env.cells.lookup x=some c->c≠D)/\∀p∈X.pn++z7,p.1≠D
theorem Inv.own (I:Inv X z7 σ H s) {D:ag} (h:s.heap.objs.size<=D):Own X z7 D:=by
 refine⟨ph (bu I.lt h),I.nofs h,cw I.sz h,λx c e z=>?_,λp hp z=>?_⟩
 ·obtain⟨v,o,ho,_⟩:=I.cell x c e;have hl:=bh ho;rw[z] at hl;exact absurd (bu hl h) (iy _)
 ·have hl:=bh (I.pin p hp).1;rw[z] at hl;exact absurd (bu hl h) (iy _)
def HU (H:Hp) (h:cq) (D:ag) (a:Array ah) (e:Nat):Prop:=h.get? D=some (mh "list" a e)/\H D=none
theorem Inv.pin2 {D k:ag} {a b:Array ah} {e e':Nat} (I:Inv X z7 σ H s) (OD:Own X z7 D) (OK:Own X z7 k) (hD:HU H s.heap D a e) (hk:HU H s.heap k b e'):
 Inv X ((k,mh "list" b e')::(D,mh "list" a e)::z7) σ H s:=by
 refine I.pins_of λp hp=>?_;rcases bg.mp hp with rfl|hp
 ·exact⟨hk.1,hk.2,OK.1,OK.2.1,λv z=>by cases z⟩
 ·rcases bg.mp hp with rfl|hp
  ·exact⟨hD.1,hD.2,OD.1,OD.2.1,λv z=>by cases z⟩
  ·exact I.pin p (dj _ hp)
theorem Inv.unpin2 {D k:ag} {a b:Array ah} {e e':Nat} (I:Inv X ((k,mh "list" b e')::(D,mh "list" a e)::z7) σ H s):Inv X z7 σ H s/\HU H s.heap D a e/\HU H s.heap k b e':=by
 refine⟨I.pins_of λp hp=>I.pin p (dj _ (aq _ (aq _ hp))),?_,?_⟩
 ·have z:=I.pin (D,mh "list" a e) (dj _ (aq _ (bc ..)));exact⟨z.1,z.2.1⟩
 ·have z:=I.pin (k,mh "list" b e') (dj _ (bc ..));exact⟨z.1,z.2.1⟩
theorem Inv.lone {D:ag} {a:Array ah} {e:Nat} (I:Inv X z7 σ H s) (O:Own X z7 D) (h:HU H s.heap D a e) (f:Array ah->Array ah):
 Inv X z7 σ H { s with heap:=s.heap.update D (fb f) }/\(∃e',HU H (s.heap.update D (fb f)) D (f a) e')/\∀b o,b≠D->s.heap.get? b=some o->(s.heap.update D (fb f)).get? b=some o:=by
 have k:∀b o,b≠D->s.heap.get? b=some o->(s.heap.update D (fb f)).get? b=some o:=λb o n q=>by rw[mo _ _ _ _ n];exact q
 exact⟨I.turned (t':=s.toks) k h.2 O.1 (.inr O.2.2.1) O.2.2.2.1 O.2.2.2.2,⟨_,xx h.1 f,h.2⟩,k⟩
section
variable {A:cz} {E:ah->aj->Prop} {D kS q:ag} {xs:List V} {vs:List ah} {ks:List (List Int)} {e1:Nat} {P:z0->aj->Prop} {H0:Hp}
def JJ (X:Cx) (z7:List (ag×Obj)) (σ:St) (H0:Hp) (D:ag) (ks:List (List Int)) (xs:List V) (P:z0->aj->Prop):Prop:=
 ∀(H':Hp) (s':aj) (zs:List (List Int×V)),Inv X z7 σ (upd H' D (.lst (zs.map (·.2)))) s'->Same H0 H'->H' D=none->zs.Perm (ks.zip xs)->zs.Pairwise (λa b=>HT.lexLt b.1 a.1=false)->P (.done (.ret .none)) s'
theorem W7 {st:SortSt} {keys:Array ah} {e:Nat} {zs:List (List Int×V)} (I:Inv X z7 σ H s) (sm:Same H0 H) (OD:Own X z7 D) (OK:Own X z7 kS) (hn:kS≠D) (hD:HU H s.heap D #[] e1) (hk:HU H s.heap kS keys e)
 (hz:keys.size<=sizeLine) (hp:cf (λ(p:List Int×V) (q:Keyed)=>KeyAt H p.1 q.1/\RelV p.2 q.2) zs (tK st).toList) (hzl:zs.length<=sizeLine) (pm:zs.Perm (ks.zip xs)) (pw:zs.Pairwise (λa b=>HT.lexLt b.1 a.1=false)) (hfl:failedOf st=none)
 (h:JJ X z7 σ H0 D ks xs P):bf (bi X.prog X.w) A (ksk_tail D false e1 (.ref kS) st) P E s:=by
 unfold ksk_tail;try dsimp only
 obtain⟨I1,⟨e2,hk1⟩,k1⟩:=I.lone OK hk (λ_=>#[]);have hD1:HU H (s.heap.update kS (fb λ_=>#[])) D #[] e1:=⟨k1 _ _ hn.symm hD.1,hD.2⟩
 refine ae (uc hk.1 rfl ?_ hz (dm _));refine ae (wpAny_letGo ?_);refine ae (seqEpoch_at hD1.1 rfl ?_);have hl:zs.length=(tK st).size:=hp.length.trans (dc ..);have hso:((tK st).map (·.2)).size<=sizeLine+1:=by
  rw[Array.size_map, ←hl];exact Nat.le_succ_of_le hzl
 refine ae (uc hD1.1 rfl ?_ (dm _) (by simpa using hso));rw[hfl];simp only[bne_self_eq_false,fq,if_false];refine ao (h H _ zs ?_ sm hD.2 pm pw);have k2:∀b o,b≠D->(s.heap.update kS (fb λ_=>#[])).get? b=some o->((s.heap.update kS (fb λ_=>#[])).update D (fb λ_=>(tK st).map (·.2))).get? b=some o:=λb o n q=>by rw[mo _ _ _ _ n];exact q
 have r2:Vals (zs.map (·.2)) ((tK st).map (·.2)).toList:=by
  rw[Array.toList_map];exact cf.map_snd (R:=λ(p:List Int×V) (q:Keyed)=>KeyAt H p.1 q.1/\RelV p.2 q.2) (λa c z=>z.2) hp
 obtain⟨e3,he3⟩:∃e3,((s.heap.update kS (fb λ_=>#[])).update D (fb λ_=>(tK st).map (·.2))).get? D=some (mh "list" ((tK st).map (·.2)) e3):=⟨_,xx hD1.1 (λ_=>(tK st).map (·.2))⟩
 refine I1.take (t':=s.toks) k2 hD.2 OD.1 (.inr OD.2.2.1) OD.2.2.2.1 OD.2.2.2.2 ⟨by rw[ai];exact hzl,((tK st).map (·.2)).toList,e3,r2,?_⟩;rw[he3,vB]
theorem aI {keys:Array ah} {e:Nat} (I:Inv X z7 σ H s) (sm:Same H0 H) (OD:Own X z7 D) (OK:Own X z7 kS) (hn:kS≠D) (hD:HU H s.heap D #[] e1) (hk:HU H s.heap kS keys e)
 (hlen:ks.length=xs.length) (hne:∀k∈ks,k≠[]) (rv:Vals xs vs) (hZ:xs.length<=sizeLine) (rk:cf (KeyAt H) ks keys.toList)
 (h:JJ X z7 σ H0 D ks xs P):bf (bi X.prog X.w) A (ksk_end D false vs.toArray e1 (.ref kS) keys) P E s:=by
 have hvl:=rv.length;have hkl:ks.length=keys.size:=rk.length.trans (dc ..);have hzs:(keys.zip vs.toArray).size=vs.length:=by
  rw[Array.size_zip];show min keys.size vs.length=vs.length;omega
 have base:cf (λ(p:List Int×V) (q:Keyed)=>KeyAt H p.1 q.1/\RelV p.2 q.2) (ks.zip xs) (keys.zip vs.toArray).toList:=by
  rw[wY];exact cf.zip2 rk rv
 have hzl:(ks.zip xs).length<=sizeLine:=by rw[List.length_zip];omega
 have fin:∀st:SortSt,(tK st).Perm (keys.zip vs.toArray)->failedOf st=none->SortedToK (v8 s.heap λ_=>false) (tK st) (keys.zip vs.toArray).size->bf (bi X.prog X.w) A (ksk_tail D false e1 (.ref kS) st) P E s:=by
  intro st hp hf hs;obtain⟨zs,pm,pz⟩:=cf.perm (Array.perm_iff_toList_perm.mp hp) base;refine W7 I sm OD OK hn hD hk (by omega) pz (by rw[pm.length_eq];exact hzl) pm ?_ hf h;rw[lg];intro i j hi hj hij;have zl:zs.length=(tK st).size:=pz.length.trans (dc ..);obtain⟨p,hp1,hp2, -⟩:=cf.at pz (am hi);obtain⟨p',hp1',hp2', -⟩:=cf.at pz (am hj);have hk1:=KeyAt.key I.hok hp2;have hk2:=KeyAt.key I.hok hp2';have hs':=hs i j (rg hij) (by rw[←hp.size_eq];omega);have kk:∀{i:Nat} {p:Keyed} {k:List Int},(tK st).toList[i]? =some p->wX s.heap (λ_=>false) p.1=some (k.map kq)->KK (v8 s.heap λ_=>false) (tK st) i=k.map kq:=by
   intro i p k e1 e2;unfold KK;rw[kr] at e1;rw[e1];show(wX s.heap (λ_=>false) p.1).getD []=_;rw[e2];rfl
  rw[kk hp1 hk1,kk hp1' hk2] at hs';have hs'':lexLt itemOrd (zs[j].1.map kq) (zs[i].1.map kq)=false:=hs';rw[RQ] at hs'';exact hs''
 unfold ksk_end;try dsimp only
 simp only[fq,if_false];by_cases h2:vs.toArray.size<2
 ·rw[Ae h2,Ae h2];refine ae (ao ?_);rw[StateT.run_pure];refine ae (ao ?_);try dsimp only
  refine fin (zQ general' (keys.zip vs.toArray) #[] 7 none) (xy _) rfl ?_;intro i j hij hj;rw[hzs] at hj;rw[bv] at h2;have:i=j:=by omega
  subst this;exact KeyOrd.kle_refl _
 ·rw[Af h2,Af h2];rw[bv] at h2;obtain⟨fs,tf,fl⟩:=KeyAt.tups I.hok hne rk;have hkk:bf (bi X.prog X.w) A (keyKind' keys.toList.toArray) (λk s'=>k=tuples' true/\s'=s) E s:=tup_kind (by omega) tf ⟨rfl,rfl⟩;rw[vB] at hkk;refine ae (gr hkk (λkd s' hq=>?_) λ_ _ z=>z);obtain⟨rfl,rfl⟩:=hq;refine ae (gr (G.wpS_sortRunsSt (κ:=v8 s'.heap λ_=>false) (kd:=tuples' true) (a₀:=keys.zip vs.toArray) (st:=zQ (tuples' true) (keys.zip vs.toArray) #[] 7 none)
   (Q:=λ_ st'=>(tK st').Perm (keys.zip vs.toArray)/\failedOf st'=none/\SortedToK (v8 s'.heap λ_=>false) (tK st') (keys.zip vs.toArray).size)
   (G.tupC_ltAt true (z4 _)) (λp hp=>?_) ⟨xy _,rfl,rfl⟩ rfl (Stable.refl _) (by rw[hzs];omega) λst' a1 a2 a3 _=>⟨a1,a2,a3⟩) ?_ λ_ _ e=>e)
  ·rw[wY] at hp;have hm:=(qo hp).1;obtain⟨i,hi,e⟩:=List.getElem_of_mem hm;have hi':i<ks.length:=by rw[hkl];exact Nat.lt_of_lt_of_eq hi (dc ..)
   obtain⟨b,hb,kb⟩:=cf.at rk (am hi');rw[am hi,e] at hb;cases hb;exact⟨_,KeyAt.key I.hok kb⟩
  ·rintro ⟨⟨⟩,st'⟩ s3 ⟨rfl,hp,hf,hs⟩;try dsimp only
   exact fin st' hp hf hs
theorem W8 (I:Inv X z7 σ H0 s) (OD:Own X z7 D) (OK:Own X z7 kS) (hn:kS≠D) (hD:HU H0 s.heap D #[] e1) (hk:HU H0 s.heap kS #[] 0)
 (hlen:ks.length=xs.length) (hne:∀k∈ks,k≠[]) (rv:Vals xs vs) (hZ:xs.length<=sizeLine)
 (turn:∀(i:Nat) (x:V) (k:List Int),xs[i]? =some x->ks[i]? =some k->∀(pins':List (ag×Obj)) (H':Hp) (s':aj) (u:ah),Inv X pins' σ H' s'->Same H0 H'->RelV x u->
  bf (bi X.prog X.w) A (call (.ref q) [u]) (EP X pins' σ λv H''=>∃p,v= .ref p/\H' p=none/\H''=upd H' p (.tup (k.map V.int))) (λ_ _=>False) s')
 (h:JJ X z7 σ H0 D ks xs P):bf (bi X.prog X.w) A (ksk_rest D (.ref q) false vs.toArray e1 (.ref kS)) P E s:=by
 have hvl:=rv.length;have hZ2:=hZ;rw[bz] at hZ2;unfold ksk_rest;refine ae (wpAny_rule ?_);first
  |rw[List.forIn_toArray]
  |(rw[←v9];simp only[List.toList_toArray])
  |rw[←v9]
 refine ae (ksk_fold (λi s'=>∃(H':Hp) (kA:Array ah) (e:Nat),Inv X z7 σ H' s'/\Same H0 H'/\HU H' s'.heap D #[] e1/\HU H' s'.heap kS kA e/\cf (KeyAt H') (ks.take i) kA.toList) vs 0 s
  ⟨H0,#[],0,I,λ_ _ e=>e,hD,hk,.nil⟩ ?step ?done)
 case step=>
  rintro j u s' hu ⟨H',kA,e,I',sm,hD',hk',pk⟩;simp only[sO] at pk ⊢;have hj:j<vs.length:=(au.mp hu).1;have hxj:xs[j]? =some xs[j]:=am (by omega);obtain⟨u',hu',ru⟩:=rv.get hxj;rw[hu] at hu';cases hu';have hkj:ks[j]? =some ks[j]:=am (by omega);have hz:kA.size<=vs.length:=by
   have h1:(ks.take j).length=kA.size:=pk.length.trans (dc ..);rw[dy] at h1;omega
  refine ae (tY (gr (turn j _ _ hxj hkj _ H' s' u (I'.pin2 OD OK hD' hk') sm ru) (λv s2 he=>?_) λ_ _ hF=>hF.elim));obtain⟨y,H2,I2,ry,p,rfl,hpn,rfl⟩:=he;obtain rfl:v=cb p:=ry;obtain⟨I3,hD3,hk3⟩:=I2.unpin2;try dsimp only
  obtain⟨I4,⟨e4,hk4⟩,k4⟩:=I3.lone OK hk3 (·.push (.ref p));refine ae (uc hk3.1 rfl ?_ (by rw[bz];omega) (cw (rh (Array.size_push ..)) (by rw[bz];omega)));have smn:Same H' (upd H' p (.tup (ks[j].map V.int))):=Same.upd hpn;refine ao ⟨rfl,_,kA.push (.ref p),e4,I4,sm.trans smn,⟨k4 _ _ hn.symm hD3.1,hD3.2⟩,hk4,?_⟩;have ek:ks.take (j+1)=ks.take j++[ks[j]]:=by rw[eq,hkj];rfl
  rw[ek,Array.toList_push];exact cf.snc ⟨p,rfl,upd_same⟩ (cf.imp' (λa b z=>KeyAt.same smn z) pk)
 case done=>
  rintro s' ⟨H',kA,e,I',sm,hD',hk',pk⟩;have e3:ks.take (0+vs.length)=ks:=rJ (by omega);rw[e3] at pk;try dsimp only
  refine ae (listItems_at hk'.1 rfl ?_);exact aI I' sm OD OK hn hD' hk' hlen hne rv hZ pk h
theorem W9 {n:Nat} (I:Inv X z7 σ H0 s) (OD:Own X z7 D) (hD:HU H0 s.heap D vs.toArray n)
 (hlen:ks.length=xs.length) (hne:∀k∈ks,k≠[]) (rv:Vals xs vs) (hZ:xs.length<=sizeLine)
 (turn:∀(i:Nat) (x:V) (k:List Int),xs[i]? =some x->ks[i]? =some k->∀(pins':List (ag×Obj)) (H':Hp) (s':aj) (u:ah),Inv X pins' σ H' s'->Same H0 H'->RelV x u->
  bf (bi X.prog X.w) A (call (.ref q) [u]) (EP X pins' σ λv H''=>∃p,v= .ref p/\H' p=none/\H''=upd H' p (.tup (k.map V.int))) (λ_ _=>False) s')
 (h:JJ X z7 σ H0 D ks xs P):bf (bi X.prog X.w) A (ksk_tree D (.ref q) false) P E s:=by
 have hvl:=rv.length;have hZ2:=hZ;rw[bz] at hZ2;obtain⟨I1,⟨e1,hD1⟩,k1⟩:=I.lone OD hD (λ_=>#[]);unfold ksk_tree;refine ae (listItems_at hD.1 rfl ?_);refine ae (uc hD.1 rfl ?_ (by rw[bv,bz];omega) (dm _));refine ae (seqEpoch_at hD1.1 rfl ?_);refine ae (wpAny_newTuple ?_ (by show vs.length<=_;rw[bz];omega));refine ae (wpAny_newList ?_ (dm _));refine ik ?_;have I2:Inv X z7 σ H0 { s with heap:=((s.heap.update D (fb λ_=>(#[]:Array ah))).push (mh "tuple" vs.toArray 0)).push (mh "list" #[] 0) }:=
  I1.kept (t':=s.toks) λb o e=>ak _ (ak _ e)
 have hsz:((s.heap.update D (fb λ_=>(#[]:Array ah))).push (mh "tuple" vs.toArray 0)).objs.size=s.heap.objs.size+1:=by rw[size_push',wZ]
 have hDlt:D<s.heap.objs.size:=bh hD.1;refine W8 (kS:=((s.heap.update D (fb λ_=>(#[]:Array ah))).push (mh "tuple" vs.toArray 0)).objs.size) I2 OD (I.own (by rw[hsz];exact sd _)) (by rw[hsz];exact ph (oo hDlt))
  ⟨ak _ (ak _ hD1.1),hD1.2⟩ ⟨bn _ rfl,I.hok.fresh (by rw[hsz];exact sd _)⟩ hlen hne rv hZ turn h
end
theorem XA {l q:ag} {xs:List V} {ks:List (List Int)} {Q:VK} {E:ah->aj->Prop} (I:Inv X z7 σ H s) (hl:SqL X.K H l xs) (hlen:ks.length=xs.length) (hne:∀k∈ks,k≠[])
 (turn:∀(i:Nat) (x:V) (k:List Int),xs[i]? =some x->ks[i]? =some k->∀(pins':List (ag×Obj)) (H':Hp) (s':aj) (u:ah),Inv X pins' σ H' s'->Same H H'->RelV x u->
  bf (bi X.prog X.w) X.A.in1.in1 (call (.ref q) [u]) (EP X pins' σ λv H''=>∃p,v= .ref p/\H' p=none/\H''=upd H' p (.tup (k.map V.int))) (λ_ _=>False) s')
 (done:∀(D:ag) (H':Hp) (zs:List (List Int×V)),H' D=none->Same H H'->zs.Perm (ks.zip xs)->zs.Pairwise (λa b=>HT.lexLt b.1 a.1=false)->Q (.ref D) (upd H' D (.lst (zs.map (·.2))))):
 bf (bi X.prog X.w) X.A (call (.builtin "sorted") [.ref l] [(ll "key",.ref q)]) (EP X z7 σ Q) E s:=by
 obtain⟨vs,rv,pl,hZ⟩:=I.list hl;have hvl:xs.length=vs.length:=rv.length;have hZ2:vs.length<=sizeLine:=by omega
 refine call_function_entry_kw kind_sorted plain_sorted entry_sorted (by first|exact rfl|decide) ?_;unfold Builtin.«sorted»;refine ae (m:=checkCount "sorted" 1 1 _) (ao ?_);refine ae (collect_list pl.isList ?_ hZ2);refine ae (wpAny_newList ?_ hZ2);have hsz:((s.heap.push (mh "list" #[] 0)).update s.heap.objs.size (fb (·++vs.toArray))).objs.size=s.heap.objs.size+1:=by
  rw[wZ,size_push']
 have hoL:(((s.heap.push (mh "list" #[] 0)).update s.heap.objs.size (fb (·++vs.toArray))).push (mh "list" vs.toArray 0)).get? (s.heap.objs.size+1)=some (mh "list" vs.toArray 0):=by
  rw[←hsz];exact bn _ rfl
 have keep:∀b o,s.heap.get? b=some o->(((s.heap.push (mh "list" #[] 0)).update s.heap.objs.size (fb (·++vs.toArray))).push (mh "list" vs.toArray 0)).get? b=some o:=λb o q=>by
  have Ad:b<s.heap.objs.size:=bh q;rw[tS _ _ _ (by rw[hsz];exact cg (oo Ad)),mo _ _ _ _ (cg Ad),tS _ _ _ (cg Ad)];exact q
 show bf _ _ _ _ _ { s with heap:=((s.heap.push (mh "list" #[] 0)).update s.heap.objs.size (fb (·++vs.toArray))).push (mh "list" vs.toArray 0) };rw[hsz];have I1:Inv X z7 σ H { s with heap:=((s.heap.push (mh "list" #[] 0)).update s.heap.objs.size (fb (·++vs.toArray))).push (mh "list" vs.toArray 0) }:=I.kept (t':=s.toks) keep;refine ae (ik (wpAny_call_entry_kw slot_list_sort ⟨_,hoL,rfl⟩ entry_list_sort ?body (by first|exact rfl|decide)))
 case body=>
  show bf (bi X.prog X.w) X.A.in1.in1 (tQ.«list.sort» ⟨[.ref (s.heap.objs.size+1)],[(ll "key",.ref q)]⟩) _ _ _;rw[ksk_t1];refine W9 I1 (I.own (sd _)) ⟨hoL,I.hok.fresh (sd _)⟩ hlen hne rv hZ turn λH' s' zs I' sm nD pm pw=>⟨_,rfl,?_⟩
  exact ao ⟨_,rfl,.ref _,_,I',rfl,done _ H' zs nD sm pm pw⟩
end
end L2
end
section
namespace L2
open PySem PySem.Spec PyProof.Rows
structure LamFr (X:Cx) (scope:ji) (fr:List Str) (idx:List Nat):Prop where
 uniq:∀y∈scope.names,scope.names.lookup y.1=some y.2
 out:∀y∈scope.names,y.2= .free->X.env.kindOf y.1=some .cell\/X.env.kindOf y.1=some .free
 len:fr.length=idx.length
 at_:∀(j:Nat) (y:Str),fr[j]? =some y->∃i,idx[j]? =some i/\X.N[i]? =some y/\scope.names.lookup y=some .free/\Vis X.env.scope y/\(X.env.kindOf y=some .cell\/X.env.kindOf y=some .free)
theorem XB {X:Cx} {z7:List (ag×Obj)} {σ:St} {H:Hp} {s:aj} {scope:ji} {fr:List Str} {idx:List Nat} {fvs:List V} (I:Inv X z7 σ H s) (L:LamFr X scope fr idx) (hl:fvs.length=idx.length)
 (hv:∀(j i:Nat) (v:V),idx[j]? =some i->fvs[j]? =some v->σ[i]? =some (some v)):CellsAre (BA X.env.cells scope.names []) scope fr fvs H s.heap:=by
 have look:∀{y:Str} {c:ag},(BA X.env.cells scope.names []).lookup y=some c->X.env.cells.lookup y=some c:=λ{y c} e=>by
  rcases EC (cp e) with z|⟨z1,z2⟩
  ·exact absurd z (by simp)
  ·obtain⟨c',hc'⟩:=I.ok.has _ (L.out _ z1 rfl);rw[hc'] at z2 ⊢;rw[z2];rfl
 refine⟨L.len.trans hl.symm,λy z c e1 e2=>I.ok.inj y z c (look e1) (look e2),λy hy=>EX (ED (cp hy)),λy c e=>I.cell y c (look e),λy c e=>I.freeC y c (look e),λj y v h1 h2=>?_⟩;obtain⟨i,hi,hN,hf,vis,hk⟩:=L.at_ j y h1;obtain⟨m,hn,hloc⟩:=I.loc;obtain⟨u,r,lk⟩:=hloc i y v hN (hv j i v hi h2) vis;rcases lk with⟨z,_⟩|⟨_,c,hc,ic⟩
 ·rcases hk with k|k<;>rw[k] at z<;>cases z
 ·obtain⟨c',hc'⟩:=EX (ED (cells:=X.env.cells) (acc:=[]) (cp hf));have e:=look hc';rw[hc] at e;cases e;exact⟨u,_,r,hc',ic⟩
section
variable {X:Cx} {c P:ag} {params:sR} {body e:Expr} {scope:ji} {p pos kpos lpos:Pos} {fr:List Str} {idx:List Nat} {x:Str} {te t:TE}
def aJ (X:Cx) (P:ag) (lpos:Pos) (idx:List Nat) (t:TE) (σ:St) (Q:VK) (y:V) (H1:Hp):Prop:=Ex4 λ(l:ag) (xs:List V) (ks:List (List Int)) (fvs:List V)=>y= .ref l/\SqL X.K H1 l xs/\l≠P/\ks.length=xs.length/\(∀k∈ks,k≠[])/\LamTbl H1 P lpos (X.env.qual++"<lambda>")/\
 fvs.length=idx.length/\(∀(j i:Nat) (v:V),idx[j]? =some i->fvs[j]? =some v->σ[i]? =some (some v))/\
 (∀(i:Nat) (x:V) (k:List Int),xs[i]? =some x->ks[i]? =some k->∀H2:Hp,Sb P H1 H2->t (some x::fvs.map some) H2 λv H3=>∃p,v= .ref p/\H2 p=none/\H3=upd H2 p (.tup (k.map V.int)))/\
 ∀(D:ag) (H2:Hp) (zs:List (List Int×V)),H2 D=none->Sb P H1 H2->LamTbl H2 P lpos (X.env.qual++"<lambda>")->zs.Perm (ks.zip xs)->zs.Pairwise (λa b=>HT.lexLt b.1 a.1=false)->Q (.ref D) (upd H2 D (.lst (zs.map (·.2))))
def pE (X:Cx) (P:ag) (lpos:Pos) (idx:List Nat) (t:TE) (σ:St) (Q:VK):List V->Hp->Prop
 |[y],H1=>aJ X P lpos idx t σ Q y H1
 |_,_=>False
def aK (X:Cx) (P:ag) (lpos:Pos) (idx:List Nat) (te t:TE):TE:=λσ H Q=>te σ H λy H1=>aJ X P lpos idx t σ Q y H1
theorem SqL.sb {K:aa} {H H':Hp} {a P:ag} {xs:List V} (s:Sb P H H') (n:a≠P) (h:SqL K H a xs):SqL K H' a xs:=by
 rcases h with(h|⟨o,h⟩)|h
 ·exact .inl (.inl (s _ _ h n))
 ·exact .inl (.inr ⟨o,s _ _ h n⟩)
 ·exact .inr h
theorem LamTbl.same {H H':Hp} {P:ag} {pos:Pos} {q:Str} (e:Same H H') (h:LamTbl H P pos q):LamTbl H' P pos q:=by
 obtain⟨ps,h1,h2,h3⟩:=h;refine⟨ps,e _ _ h1,h2,?_⟩;rcases h3 with h3|⟨c,h3,h4⟩
 ·exact .inl h3
 ·exact .inr ⟨c,h3,e _ _ h4⟩
theorem RR {z7:List (ag×Obj)} {σ:St} {H1 H2:Hp} {s2:aj} {Q:VK} {l f c':ag} {xs:List V} {ks:List (List Int)} {fvs:List V} {ctv:ah} {E:ah->aj->Prop} (hr:Room 3 X.A) (L:LamFr X scope fr idx) (S:LamScope x fr scope)
 (hb:∀(cl:List (Str×ag)) (pm cd ctv u:ah),vh (vA "<lambda>" (X.env.qual++"<lambda>") params body scope cl pm cd ctv) ⟨[u],[]⟩=pure [(x,u)])
 (hbody:∀(f:ag) (cd:ah) (cl:List (Str×ag)) (A:cz) (outer:List Env) (s:aj) (H:Hp),PE (OS X.prog X.w X.K X.mg X.base (x::fr) (X.env.qual++"<lambda>") scope f cd cl A outer s H) body t)
 (I2:Inv X z7 σ H2 s2) (hl:SqL X.K H1 l xs) (nl:l≠P) (hlen:ks.length=xs.length) (hne:∀k∈ks,k≠[]) (hfl:fvs.length=idx.length) (hfv:∀(j i:Nat) (v:V),idx[j]? =some i->fvs[j]? =some v->σ[i]? =some (some v))
 (turn:∀(i:Nat) (x:V) (k:List Int),xs[i]? =some x->ks[i]? =some k->∀H2:Hp,Sb P H1 H2->t (some x::fvs.map some) H2 λv H3=>∃p,v= .ref p/\H2 p=none/\H3=upd H2 p (.tup (k.map V.int)))
 (done:∀(D:ag) (H2:Hp) (zs:List (List Int×V)),H2 D=none->Sb P H1 H2->LamTbl H2 P lpos (X.env.qual++"<lambda>")->zs.Perm (ks.zip xs)->zs.Pairwise (λa b=>HT.lexLt b.1 a.1=false)->Q (.ref D) (upd H2 D (.lst (zs.map (·.2)))))
 (sb:Sb P H1 H2) (hf:H2 f=some (LA f (nz "<lambda>" (X.env.qual++"<lambda>") params body scope (BA X.env.cells scope.names []) ((X.mg "__name__").getD .none) c' ctv))) (hc':H2 c'=some (LB c' (X.env.qual++"<lambda>")))
 (tb2:LamTbl H2 P lpos (X.env.qual++"<lambda>")):
 bf (bi X.prog X.w) X.A (call (.builtin "sorted") [.ref l] [(ll "key",.ref f)]) (EP X z7 σ Q) E s2:=by
 refine XA (ks:=ks) (Q:=Q) I2 (hl.sb sb nl) hlen hne (λi x' k hx hk pins' H' s' u' I' sm ru=>?_) λD H' zs nD sm pm pw=>done D H' zs nD (λb o e n=>sm b o (sb b o e n)) (tb2.same sm) pm pw;refine rQ (mz (dF (CX:=λ_ _ _ _ _ _=>False) (E:=λ_ _ _=>False) (A:=X.A.in1.in1) S (hr.in1.in1) I'.env0.in1.in1 ru (XB I' L hfl hfv) (aG I'.hok (sm _ _ hf)) (aH I'.hok (sm _ _ hc')) (hb _ _ _ _ _) (hbody _ _ _ _ _ _ _)
  (turn i x' k hx hk H' λb o e n=>sm b o (sb b o e n))) λr s3 hq=>?_)
 cases r with
 |error e=>exact hq.elim
 |ok fl=>
  cases fl with
  |ret u2=>exact I'.after hq
  |next=>exact ez hq
  |brk=>exact ez hq
  |cont=>exact ez hq
theorem P6 (hm:X.mg "sorted"=none) (hg:Gl X "sorted") (hr:Room 3 X.A) (he:PE X e te) (B:NC X.mg X.base) (C:tJ X.base c P) (hcode:X.env.code= .ref c) (L:LamFr X scope fr idx) (S:LamScope x fr scope)
 (hb:∀(cl:List (Str×ag)) (pm cd ctv u:ah),vh (vA "<lambda>" (X.env.qual++"<lambda>") params body scope cl pm cd ctv) ⟨[u],[]⟩=pure [(x,u)])
 (hbody:∀(f:ag) (cd:ah) (cl:List (Str×ag)) (A:cz) (outer:List Env) (s:aj) (H:Hp),PE (OS X.prog X.w X.K X.mg X.base (x::fr) (X.env.qual++"<lambda>") scope f cd cl A outer s H) body t)
 (hdef:defaultsOf params X.env=([],[]):=by rfl) (hst:be [e] X.env=(false,eval e X.env)::be [] X.env:=by rfl) (hbk:ig pos (be [e] X.env)=(false,eval e X.env)::ig pos (be [] X.env):=by rfl)
 (hpl:(ig pos (be [e] X.env)).any (·.1)=false:=by rfl):
 PE X (.Call (.Name "sorted" p) [e] [⟨some "key",.Lambda params body scope lpos,kpos⟩] pos) (aK X P lpos idx te t):=by
 intro z7 s σ H Q I h;refine gy (ET I hg hm yK ?_ (by decide) (by decide));refine callWith_kw (env:=X.env) (thn (AA he AF hst pos z7 s σ H (pE X P lpos idx t σ Q) I h) λus s1 ⟨vs,H1,I1,r,q⟩=>?_) hbk hpl;cases r with
 |nil=>exact q.elim
 |cons r1 r2=>
  cases r2 with
  |cons _ _=>exact q.elim
  |nil=>
   have q:aJ X P lpos idx t σ Q _ H1:=q;obtain⟨l,xs,ks,fvs,rfl,hl,nl,hlen,hne,tb,hfl,hfv,turn,done⟩:=q;cases r1;refine kws_cons (thn (jO B C hcode L.out hdef z7 s1 σ H1 (λv H2=>∃f c' ctv,v= .ref f/\Sb P H1 H2/\
    H2 f=some (LA f (nz "<lambda>" (X.env.qual++"<lambda>") params body scope (BA X.env.cells scope.names []) ((X.mg "__name__").getD .none) c' ctv))/\H2 c'=some (LB c' (X.env.qual++"<lambda>"))/\
    LamTbl H2 P lpos (X.env.qual++"<lambda>")) I1 ⟨tb,λf c' ctv H2 _ a1 a2 a3 a4=>⟨f,c',ctv,rfl,a1,a2,a3,a4⟩⟩) λw' s2 ⟨v,H2,I2,rw',f,c',ctv,ev,sb,hf,hc',tb2⟩=>?_)
   subst ev;obtain rfl:w'=cb f:=rw';refine kws_nil ?_;exact RR hr L S hb hbody I2 hl nl hlen hne hfl hfv turn done sb hf hc' tb2
end
end L2
end
section
namespace L2
open PySem PySem.Spec PyProof.Rows
open PySem.W (WData Codec OpenSpec Well WellAll ReadsW ReadsAllW)
mutual
theorem Dw.same {K:aa} {H H':Hp} (e:Same H H'):∀{v:V} {d:mw},Dw K H v d->Dw K H' v d
 |_,_,.non=>.non
 |_,_,.bl b=>.bl b
 |_,_,.int i=>.int i
 |_,_,.str x=>.str x
 |_,_,.byt b=>.byt b
 |_,_,.lst h t=>.lst (e.seq h) (DwAll.same e t)
 |_,_,.tup h t=>.tup (Same.tup e h) (DwAll.same e t)
theorem DwAll.same {K:aa} {H H':Hp} (e:Same H H'):∀{vs:List V} {ds:List mw},DwAll K H vs ds->DwAll K H' vs ds
 |_,_,.nil=>.nil
 |_,_,.cons h t=>.cons (Dw.same e h) (DwAll.same e t)
end
def VW (T:List ag) (H:Hp):Prop:=∀b,H b=none\/(Ex2 λob u=>H b=some (.frz ob u))\/(b∈T/\H b=some (.tbl #[]))
theorem T3 {P:bb} {w:bw} {K:aa} {mg mb:Str->Option ah} {CX:CXT} {k:Nat} {fa:ag} {fd:dw} {ps:List Str} {sp:Sp} {s₁:aj} {vals:List ah} {ds:List mw} {R:wS} {cl:Str->Option ag} {d0:mw} {T:List ag}
 (hT:∀p∈T,K.lookup p=none/\∃c,s₁.heap.TableAt c p #[]) (hbl:NC mg s₁.heap)
 (KX:K.In s₁.heap) (hns:s₁.heap.Ns dq mg) (hb:s₁.heap.Ns uD mb) (hbb:∀x:Str,x≠"__name__"->mb x=jo x) (hlim:s₁.heap.NoLimit) (hg:s₁.gens=#[])
 (hwl:uN w.params s₁.heap vals ds) (hpl:K4 ds=true) (hwt:∀d∈ds,d.weight<=1048576) (hr:Room k wB)
 (F:∀base:cq,K.In base->base.Ns dq mg->NC mg base->FnOk P w K mg base CX k fa fd ps sp) (hbind:∀(s:aj) (us:List ah),us.length=ps.length->vE s fd ⟨us,[]⟩ (ps.zip us)) (hlen:ds.length=ps.length)
 (hsp:∀(H:Hp) (xs:List V),VW T H->(∀p∈T,H p=some (.tbl #[]))->DwAll K H xs ds->sp xs H (λv H'=>Dw K H' v d0) λ_ _ _=>False)
 (hCX:∀H e s',CX [] H s₁ (λ_ _ _=>False) e s'->False):
 mn (bi P w) wB (.call (.ref fa) ⟨vals,[]⟩) (λr s'=>Ex2 λu as=>r= .ok (.ret u)/\ReadsW R cl s'.heap u d0 as/\OldK s₁.heap s'.heap/\s'.os=s₁.os/\uE s'.gens) s₁:=by
 obtain⟨A,ho,ar⟩:=IZ ds vals hwl hpl hwt;have hO':d6 (F6 K s₁.heap A):=WP ar;have hok':HOk P w (F6 K s₁.heap A) s₁.heap:=cA ar;have hS':=O8 KX ar ds vals hwl hpl ho;have hV:=F5 ho;have hK':∀b u,F6 K s₁.heap A b=some u->K.lookup b=none:=λb u q=>(LG ar q).1;have noSeq:∀{b:ag} {o:Obj},s₁.heap.get? b=some o->(∀vs n,o.data≠.seq vs n)->F6 K s₁.heap A b=none:=λ{b o} e d=>by
  cases q:F6 K s₁.heap A b with
  |none=>rfl
  |some u=>
   obtain⟨_,vs,_,_,⟨e2,_⟩|⟨e2,_⟩⟩:=LG ar q
   ·rw[e2] at e;cases e;exact absurd rfl (d _ _)
   ·rw[e2] at e;cases e;exact absurd rfl (d _ _)
 have hTo:∀p∈T,s₁.heap.get? p=some { cls:=.none,data:=.fields #[] }:=λp hp=>let ⟨_,_,x⟩:=hT p hp;x.2;have hTn:∀p∈T,F6 K s₁.heap A p=none:=λp hp=>noSeq (hTo p hp) λvs n z=>by cases z
 generalize F6 K s₁.heap A=H0 at hO' hok' hS' hK' noSeq hTn;obtain⟨H,hHT,hHn⟩:∃H:Hp,(∀p∈T,H p=some (.tbl #[]))/\∀p,p∉T->H p=H0 p:=⟨λb=>if b∈T then some (.tbl #[]) else H0 b,λp hp=>Ae hp,λp hp=>Af hp⟩
 have sm:Same H0 H:=λb o e=>by
  by_cases z:b∈T
  ·rw[hTn b z] at e;cases e
  ·rw[hHn b z];exact e
 have hO:VW T H:=λb=>by
  by_cases z:b∈T
  ·exact .inr (.inr ⟨z,hHT b z⟩)
  ·rcases hO' b with q|⟨ob,u,q⟩
   ·exact .inl ((hHn b z).trans q)
   ·exact .inr (.inl ⟨ob,u,(hHn b z).trans q⟩)
 have hok:HOk P w H s₁.heap:=λb u e=>by
  by_cases z:b∈T
  ·rw[hHT b z] at e;cases e;exact hTo b z
  ·rw[hHn b z] at e;exact(hok' b u e).stay (λ_ _ _ q=>q) (λc q=>sm c _ q) λc xs q=>sm c _ q
 have hS:DwAll K H (vals.map toV) ds:=DwAll.same sm hS';have noA:∀{b:ag} {o:Obj},s₁.heap.get? b=some o->(∀vs n,o.data≠.seq vs n)->(∀vs,o.data≠.fields vs)->H b=none:=λ{b o} e d d2=>by
  by_cases z:b∈T
  ·rw[hTo b z] at e;cases e;exact absurd rfl (d2 _)
  ·rw[hHn b z];exact noSeq e d
 have base_of:∀{b:ag} {o:Obj},s₁.heap.get? b=some o->H b=none->(NK s₁.heap H).get? b=some o:=λe n=>XI e n;have nsK:∀{b:ag} {m:Str->Option ah},s₁.heap.Ns b m->(NK s₁.heap H).Ns b m:=λ{b m} ⟨o,es,ep,e,d,r⟩=>⟨o,es,ep,base_of e (noA e (λvs n z=>by rw[d] at z;cases z) λvs z=>by rw[d] at z;cases z),d,r⟩
 have nK:∀b o,K.lookup b=some o->H b=none:=λb o e=>by
  by_cases z:b∈T
  ·rw[(hT b z).1] at e;cases e
  ·rw[hHn b z];cases q:H0 b with
   |none=>rfl
   |some u=>rw[hK' b u q] at e;cases e
 have hKb:K.In (NK s₁.heap H):=λb o e=>base_of (KX b o e) (nK b o e);have hM:Mod K mg (NK s₁.heap H):=⟨hKb,nsK hns,⟨mb,nsK hb,hbb⟩,let ⟨mc,h1,h2⟩:=hlim;⟨mc,nsK h1,h2⟩⟩
 have hbb':NC mg (NK s₁.heap H):=by
  obtain⟨bm,ob,b1,b2,b3,b4,b5,b6⟩:=hbl;exact⟨bm,ob,b1,b2,base_of b3 (noA b3 (λvs n z=>by rw[b6] at z;cases z) λvs z=>by rw[b6] at z;cases z),b4,b5,b6⟩
 have e0:Env0 P w K mg (NK s₁.heap H) wB [] s₁ H:=⟨rfl,hM,λb o e=>bE e,rh (WB _ _),trivial,λb hb=>absurd (show b∈([]:List ag) from hb) (by simp),hok,.of_eq hg⟩
 have hl:vals.length=ps.length:=by rw[FC hwl];exact hlen
 refine mz ((F _ hKb (nsK hns) hbb').run wB [] s₁ H ⟨vals,[]⟩ vals (vals.map toV) _ _ hr e0 (hbind s₁ vals hl) hV (hsp H _ hO hHT hS)) λr s' x=>?_;cases r with
 |error e=>exact(hCX H e s' x).elim
 |ok fl=>
  cases fl with
  |next=>exact ez x
  |brk=>exact ez x
  |cont=>exact ez x
  |ret u=>
   obtain⟨v,H',os,bare,un,hokE,r',q⟩:=x;have kept:∀b o,b∉T->s₁.heap.get? b=some o->s'.heap.get? b=some o:=λb o nT e=>by
    rcases hO b with z|⟨ob,u3,z⟩|⟨z,_⟩
    ·exact un.keep b o e z (by intro z;exact absurd (show b∈([]:List ag) from z) (by simp)) (by simp)
    ·have z2:=un.frzs b ob _ z;obtain⟨e1,_⟩:=hok b _ z;obtain⟨e2,_⟩:=hokE b _ z2;rw[e] at e1;cases e1;exact e2
    ·exact absurd z nT
   have tabs:∀b,b∈T->∃more,s'.heap.get? b=some { cls:=.none,data:=.fields (#[]++more) }:=λb z=>by
    obtain⟨more,z2⟩:=un.tbls b _ (hHT b z);exact⟨more,hokE b _ z2⟩
   have KX':K.In s'.heap:=λb o e=>kept b o (λz=>by rw[(hT b z).1] at e;cases e) (KX b o e);obtain⟨as,hrd⟩:=Dw.reads (R:=R) (cl:=cl) hokE KX' d0 v u q r';refine⟨u,as,rfl,hrd,⟨λb o e=>?_,λb o e=>?_⟩,os,bare⟩
   ·by_cases z:b∈T
    ·obtain⟨more,z2⟩:=tabs b z;obtain⟨_,c,tb⟩:=hT b z;rw[hTo b z] at e;cases e;exact .inr (.inl ⟨tb.isCodeTable,rfl,#[],more,rfl,z2⟩)
    ·exact .inl (kept b o z e)
   ·by_cases z:b∈T
    ·obtain⟨more,z2⟩:=tabs b z;exact⟨_,z2⟩
    ·exact⟨o,kept b o z e⟩
structure TopT (q:bb) (mg:Str->Option ah) (h:cq):Prop where
 tab:∀d∈recsOf q,∃a o fd c P,mg d.name=some (.ref a)/\h.get? a=some o/\o.data= .func fd/\fd.code= .ref c/\h.IsCode c P #[]/\h.TableAt c P #[]
 blt:NC mg h
theorem T4 {r:OpenSpec} {k:Nat} {q:bb} {loose:List Str} {XP:(Str->Option ah)->cq->Prop} {YP:bw->cq->Prop} {d:DefRec} {K:vo->aa} {CX:bw->CXT} {ps:List Str} {sp:bw->List ag->Sp}
 (hwell:r.wellSaid=true) (hdf:d.params.defaults=[]) (hlen:r.args.length=ps.length) (hr:Room k wB)
 (hY:∀(w:bw) (h:cq),YP w h->(K w.params).In h)
 (F:∀(w:bw) (mg:Str->Option ah) (fa:ag) (h:cq),YP w h->(K w.params).In h->h.Ns dq mg->TopT q mg h->mg d.name=some (.ref fa)->
  Ex2 λ(T:List ag) (fd:dw)=>(∀p∈T,(K w.params).lookup p=none/\∃c,h.TableAt c p #[])/\(∀(s:aj) (us:List ah),us.length=ps.length->vE s fd ⟨us,[]⟩ (ps.zip us))/\
   (∀base:cq,(K w.params).In base->base.Ns dq mg->NC mg base->FnOk r.prog w (K w.params) mg base (CX w) k fa fd ps (sp w T))/\
   ∀(H:Hp) (xs:List V) (a:sC r.args),VW T H->(∀p∈T,H p=some (.tbl #[]))->xz r.args a=true->vG r.args r.asked a=true->DwAll (K w.params) H xs (rH r.args a)->
    sp w T xs H (λv H'=>Dw (K w.params) H' v (r.ret.enc (vG r.args r.f a))) λ_ _ _=>False)
 (hCX:∀(w:bw) (H:Hp) (s:aj) (e:ah) (s':aj),CX w [] H s (λ_ _ _=>False) e s'->False):
 yb q loose XP YP r d [] (λf vs=>zS f vs):=by
 intro w s_0 s₁ mg mb G Y fa o pm cd doc dV kV ho hd hcd hD hmg hg args vals as hpre hlay hrd hwl hlo;obtain⟨a,e1,e2⟩:=PySem.W.os_pre_some hpre;obtain⟨e3,hwi⟩:=Codec.encAll_of_decAll r.args args a e1;subst e3;have KX:=hY w _ Y;obtain⟨T,fd,hT,hb,hF,hsp⟩:=F w mg fa _ Y KX G.T.g ⟨G.T.tab,G.T.bmain⟩ hmg;refine PySem.W.enter_call (mz (T3 (R:=[]) (cl:=classAt s_0.heap) (d0:=r.ret.enc (vG r.args r.f a)) hT G.T.bmain KX G.T.g G.T.b G.T.builtins G.T.nolimit hg hwl (N7 _ _) (MO hlay) hr hF hb (by rw[MP];exact hlen)
  (λH xs hO hH hS=>hsp H xs a hO hH hwi e2 hS) λH e s'=>hCX w H s₁ e s') λr' s' hq=>?_)
 obtain⟨u,as',rfl,h1,h2,h3,h4⟩:=hq;exact⟨.inl ⟨u,_,as',rfl,λ_=>rfl,h1,(OpenSpec.post_iff hwell hwi _ _).mpr rfl,λz=>ei (show false=true from z)⟩,h2,h3,h4⟩
end L2
end
section
namespace Lt
open PySem PySem.Spec PyProof.Rows L2
variable {f a C CR CT r ta CI CL CN:ag} {fd:dw} {X:Cx} {x:List Int} {i n e p q:Nat} {pos:Pos} {z dz fz:Str} {xs:List V} {H H' H1:Hp} {E:XK} {cs t ci ct:List UInt8} {α β:Type} {Q:VK} {ls:List (List Int)} {P:bb} {w:bw} {h:cq} {ps:List Str} {hg:List Int->Nat}
def BP (fr co ba:List (List Int)) (s:Stop):List Int:=if co.length<s.course then ba.getD (s.course - co.length - 1) [] else if s.fret=0 then co.getD (s.course - 1) [] else BW (fr.getD (s.fret - 1) []) (co.getD (s.course - 1) [])
theorem LT.get {K:aa} (h:LT K H a ls) (hi:i<ls.length):Ex2 λxs b=>SqL K H a xs/\xs[i]? =some (V.ref b)/\SqT K H b ((ls.getD i []).map V.int):=by
 obtain⟨as,h1,h2⟩:=h;have hl:as.length=ls.length:=cj h2;obtain⟨l,e1,e2⟩:=BL h2 (am (show i<as.length by omega));refine⟨_,as[i]'(by omega),SqL.of h1,by rw[az,am (by omega)];rfl,?_⟩;rw[bp,e1];exact e2
def fB (K:aa) (CI:ag):Sp:=λvs H Q _=>Ex8 λ(ia af ac ab:ag) (fr co ba:List (List Int)) (s:Stop)=>vs=[.ref ia,.int (s.course:Nat),.int (s.fret:Nat)]/\InA K CI H ia af ac ab fr co ba/\plc fr co ba s=true/\1<=s.course/\
 ∀H' a,Same H H'->SqT K H' a ((BP fr co ba s).map V.int)->Q (.ref a) H'
def ntf (b l c f:Int) (ia:ag) (h:Int):List (Str×V):=[("begin",.int b),("line",.int l),("course",.int c),("fret",.int f),("interval",.ref ia),("height",.int h)]
structure NtC (K:aa) (CN:ag):Prop where
 cl:Cls K CN
 nb:NoAttr K CN "begin"
 nl:NoAttr K CN "line"
 nc:NoAttr K CN "course"
 nf:NoAttr K CN "fret"
 ni:NoAttr K CN "interval"
 nh:NoAttr K CN "height"
def jP (K:aa) (CN:ag):Sp:=λvs H Q _=>Ex8 λ(x dx sa ia:ag) (b l h:Int) (s:Stop)=>vs=[.ref x,.int b,.int l,.ref sa,.ref ia,.int h]/\H x=some (.ins CN dx [])/\SqT K H sa ((sL s).map V.int)/\
 ∀H',H' x=some (.ins CN dx (ntf b l (s.course:Nat) (s.fret:Nat) ia h))->Sb x H H'->Q .non H'
def fC (K:aa) (CL:ag):Sp:=λvs H Q _=>Ex2 λ(al:ag) (ps:List Ln)=>vs=[.ref al]/\LnsA K CL H al ps/\ps.length<=512/\∀H' a,Same H H'->H a=none->H' a=some (.lst ((jm (ps.length+1)).map λi=>V.int ((uL ps i:Nat):Int)))->Q (.ref a) H'
section
variable {P:bb} {w:bw} {K:aa} {mg:Str->Option ah} {base:cq} {CI CL CN:ag}
theorem jQ:FnScope ["self","course","fret"] ["self","course","fret"] (AH DA):={}
theorem jR (F:Fun K "sound" "Instrument.sound" DA f fd) (B:Blt mg) (T:InC K CI) (D1:Def P w K mg base 3 "upon" ["x","y"] (cB K)):FnOk P w K mg base (CX1 P w) 4 f fd ["self","course","fret"] (fB K CI):=by
 refine F.okx jQ λAc A outer s H vs Q E hr h=>?_;obtain⟨ia,af,ac,ab,fr,co,ba,st,rfl,I,hp,h1,k⟩:=h;refine⟨_,(AB (AZ (AO E9 (pv 1) (AW AN (by rfl) B.len cy (AA (AV (pv 0) rfl) AF)) (AQ _))
  (AC (AL (BO DN (AV (pv 0) rfl) (BD GO (BD GO (pv 1) (AW AN (by rfl) B.len cy (AA (AV (pv 0) rfl) AF))) AI) (λ_ _=>rfl)))) AM)
  (AB (AZ (AO C1 (pv 2) AI (AQ _)) (AC (AL (BO DN (AV (pv 0) rfl) (BD GO (pv 1) AI) (λ_ _=>rfl)))) AM)
  (AC (AL (D1.call hr AD (AA (BO DN (AV (pv 0) rfl) (BD GO (pv 2) AI) (λ_ _=>rfl)) (AA (BO DN (AV (pv 0) rfl) (BD GO (pv 1) AI) (λ_ _=>rfl)) AF))))))),?_⟩
 and_intros
 obtain⟨dx,i1⟩:=I.at_;obtain⟨y1,q1,l1⟩:=I.co_.len;unfold plc at hp;unfold BP at k;refine⟨_,rfl,_,rfl,ia,CI,dx,_,_,rfl,i1,T.cl,T.nc,IC _ _ _,ac,y1,rfl,.inl q1,_,_,rfl,rfl,_,rfl,CF (λh0=>?_) (λh0=>?_)⟩
 ·have hc:co.length<st.course:=by
   have:(y1.length:Int)<((st.course:Nat):Int):=by simpa using h0
   omega
  rw[Af (by omega)] at hp;rw[Ae hc] at k;simp at hp;obtain⟨xs,b,g1,g2,g3⟩:=I.ba_.get (i:=st.course - co.length - 1) (by omega);refine⟨_,rfl,ia,CI,dx,_,_,rfl,i1,T.cl,T.nb,VA _ _ _,_,rfl,_,rfl,ia,CI,dx,_,_,rfl,i1,T.cl,T.nc,IC _ _ _,ac,y1,rfl,.inl q1,_,_,rfl,rfl,_,_,rfl,rfl,ab,xs,_,_,rfl,rfl,g1,UL (j:=st.course - co.length - 1) (by omega) g2,k H b (Same.refl _) g3⟩
 ·have hc:¬co.length<st.course:=by
   have:¬(y1.length:Int)<((st.course:Nat):Int):=by simpa using h0
   omega
  rw[Ae (by omega)] at hp;rw[Af hc] at k;have hf:st.fret<=fr.length:=of_decide_eq_true hp;obtain⟨xs,b,g1,g2,g3⟩:=I.co_.get (i:=st.course - 1) (by omega);refine⟨_,rfl,rfl,_,rfl,CF (λh0=>?_) (λh0=>?_)⟩
  ·have e0:st.fret=0:=by
    have q:=of_decide_eq_true h0;injection q with q;omega
   rw[Ae e0] at k;exact⟨_,rfl,ia,CI,dx,_,_,rfl,i1,T.cl,T.nc,IC _ _ _,_,rfl,_,_,rfl,rfl,ac,xs,_,_,rfl,rfl,g1,UL (j:=st.course - 1) (by omega) g2,k H b (Same.refl _) g3⟩
  ·have e0:¬st.fret=0:=λq=>h0 (decide_eq_true (by rw[q];rfl));rw[Af e0] at k;obtain⟨xs2,b2,g4,g5,g6⟩:=I.fr_.get (i:=st.fret - 1) (by omega);have s1:=I.sf (fr.getD (st.fret - 1) []) (by rw[bp,am (by omega)];exact jf _);have s2:=I.sc (co.getD (st.course - 1) []) (by rw[bp,am (by omega)];exact jf _);refine⟨_,rfl,ia,CI,dx,_,_,rfl,i1,T.cl,T.nf,MZ _ _ _,_,rfl,_,_,rfl,rfl,af,xs2,_,_,rfl,rfl,g4,UL (j:=st.fret - 1) (by omega) g5,_,rfl,ia,CI,dx,_,_,rfl,i1,T.cl,T.nc,IC _ _ _,_,rfl,_,_,rfl,rfl,ac,xs,_,_,rfl,rfl,g1,UL (j:=st.course - 1) (by omega) g2,?_⟩;exact⟨b2,b,_,_,rfl,.inr g6,g3,s1.1,s2.1,s1.b60.1,s1.b60.2.1,s2.b60.2.1,s2.b60.2.2,λH' r s3 h3=>k H' r s3 (SqT.of h3)⟩
theorem pF:FnScope ["self","begin","line","stop","interval","height"] ["self","begin","line","stop","interval","height"] (AH G1):={}
theorem pG (F:Fun K "__init__" "Note.__init__" G1 f fd) (T:NtC K CN):FnOk P w K mg base (CX1 P w) 1 f fd ["self","begin","line","stop","interval","height"] (jP K CN):=by
 refine F.okx pF λAc A outer s H vs Q E hr h=>?_;obtain⟨x,dx,sa,ia,b,l,h,st,rfl,hx,hs,k⟩:=h;refine⟨_,(AB (CO (pv 0) (pv 1) rfl)
  (AB (CO (pv 0) (pv 2) rfl)
  (AB (CO (pv 0) (BO DO (pv 3) AI (λ_ _=>rfl)) rfl)
  (AB (CO (pv 0) (BO DO (pv 3) AI (λ_ _=>rfl)) rfl)
  (AB (CO (pv 0) (pv 4) rfl)
  (AC (CO (pv 0) (pv 5) rfl))))))),?_⟩
 and_intros
 have keep:∀(H':Hp) (xs:List V) (fs:List (Str×V)),H' x=some (.ins CN dx fs)->SqT K H' sa xs->∀gs,SqT K (upd H' x (.ins CN dx gs)) sa xs:=λH' xs fs h1 h2 gs=>by
  rcases h2 with(h2|⟨o,h2⟩)|h2
  ·exact .inl (.inl (by rw[AE (B2 h2 h1 (by intro z;cases z))];exact h2))
  ·exact .inl (.inr ⟨o,by rw[AE (B2 h2 h1 (by intro z;cases z))];exact h2⟩)
  ·exact .inr h2
 have q1:=keep H _ _ hx hs [("begin",.int b)];have q2:=keep _ _ _ upd_same q1 [("begin",.int b),("line",.int l)];have q3:=keep _ _ _ upd_same q2 [("begin",.int b),("line",.int l),("course",.int (st.course:Nat))];refine⟨_,rfl,_,rfl,x,CN,dx,[],rfl,hx,T.cl,T.nb,(by decide),?_⟩;refine⟨_,rfl,_,rfl,x,CN,dx,_,rfl,upd_same,T.cl,T.nl,(by show 1<1000;decide),?_⟩;refine⟨_,rfl,sa,_,0,V.int (st.course:Nat),rfl,rfl,q2,rfl,_,rfl,x,CN,dx,_,rfl,upd_same,T.cl,T.nc,(by show 2<1000;decide),?_⟩;refine⟨_,rfl,sa,_,1,V.int (st.fret:Nat),rfl,rfl,q3,rfl,_,rfl,x,CN,dx,_,rfl,upd_same,T.cl,T.nf,(by show 3<1000;decide),?_⟩;refine⟨_,rfl,_,rfl,x,CN,dx,_,rfl,upd_same,T.cl,T.ni,(by show 4<1000;decide),?_⟩;refine⟨_,rfl,_,rfl,x,CN,dx,_,rfl,upd_same,T.cl,T.nh,(by show 5<1000;decide),?_⟩;exact k _ upd_same λb o e hb=>by rw[AE hb,AE hb,AE hb,AE hb,AE hb,AE hb];exact e
theorem sc_beg:FnScope ["lines","unit","units","line"] ["lines"] (AH GC):={}
def IQ (ps:List Ln) (i:Nat):List V:=(jm (i+1)).map λj=>V.int ((uL ps j:Nat):Int)
theorem RS (ps:List Ln) (i:Nat):IQ ps (i+1)=IQ ps i++[V.int ((uL ps (i+1):Nat):Int)]:=by
 unfold IQ;rw[uW,ff];rfl
theorem jS (F:Fun K "beginnings" "beginnings" GC f fd) (TL:LnC K CL):FnOk P w K mg base (CX1 P w) 1 f fd ["lines"] (fC K CL):=by
 refine F.okx sc_beg λAc A outer s H vs Q E hr h=>?_;obtain⟨al,ps,rfl,L,hl,k⟩:=h;refine⟨_,(AB (AX 1 sc_beg AI)
  (AB (AX 2 sc_beg (DM (AA AI AF)))
  (AB (CD bq rfl (DI (pv 0)) (DW 3 sc_beg)
  (AB (JO (i:=1) sc_beg.nd rfl (uK rfl) (AV (pv 3) rfl) JP)
  (AC (AY (GJ de fj fk CV (pv 2) (AA (pv 1) AF))))))
  (AC (AL (pv 2)))))),?_⟩
 and_intros
 obtain⟨as,a1,a2⟩:=id L;have la:as.length=ps.length:=cj a2;refine⟨by rw[bz];show 1<=16777216;decide,λua nu=>?_⟩;have n0:al≠ua:=AG a1 nu;refine⟨V.ref al,rfl,al,rfl,⟨_,SqL.of (by rw[AE n0];exact a1)⟩,DJ (K:=K) (a:=al) (xs:=as.map V.ref) (λi σ H'=>(∃r3,σ=[some (.ref al),some (.int ((uL ps i:Nat):Int)),some (.ref ua),r3])/\H'=upd H ua (.lst (IQ ps i))) ⟨⟨none,by rw[HM];rfl⟩,by unfold IQ;simp[HM]⟩ ?_ ?_ ?_⟩
 ·rintro i σ H' _ ⟨_,rfl⟩;exact SqL.of (by rw[AE n0];exact a1)
 ·rintro i y σ H' hi ⟨⟨r3,rfl⟩,rfl⟩
  and_intros
  rw[az] at hi;cases ea:as[i]? with
  |none=>rw[ea] at hi;cases hi
  |some x=>
   rw[ea] at hi;cases hi;obtain⟨p,hp,dl,sa,_,hx,Ls⟩:=BL a2 ea;have hi':i<ps.length:=(au.mp hp).1;have eu:=VF hp;refine⟨_,rfl,_,rfl,x,CL,dl,_,_,rfl,(by rw[AE (AG hx nu)];exact hx),TL.cl,TL.nl,ZN _ _,_,_,rfl,rfl,?_⟩;have e1:((uL ps i:Nat):Int)+((p.1:Nat):Int)=((uL ps (i+1):Nat):Int):=by omega
   refine⟨_,rfl,.inl ⟨rfl,_,SqL.of upd_same⟩,_,rfl,ua,_,_,rfl,rfl,upd_same,(by unfold IQ;rw[ai,lq,bz];omega),⟨some (.ref x),by show[some (V.ref al),some (V.int (((uL ps i:Nat):Int)+((p.1:Nat):Int))),some (V.ref ua),some (V.ref x)]=_;rw[e1]⟩,?_⟩;show upd (upd H ua _) ua (.lst (IQ ps i++[V.int (((uL ps i:Nat):Int)+((p.1:Nat):Int))]))=_;rw[e1,RS,bD]
 ·rintro σ H' ⟨⟨r3,rfl⟩,rfl⟩;rw[ai,la];exact⟨_,rfl,k _ ua (Same.upd nu) nu upd_same⟩
end
end Lt
end
section
namespace L2
open PySem PySem.Spec PyProof.Rows
def kk (k:List Int):List Key:=k.map kq
theorem jT {a b:List Int} (h:kk a=kk b):a=b:=(List.map_inj_right λ_ _ e=>y9 e).mp h
theorem pH (k:List Int):(kk k).map kV=k.map V.int:=by
 unfold kk;rw[wC];rfl
theorem P7 {P:bb} {w:bw} {K:aa} {H:Hp} {h:cq} {a:ag} {k:List Int} (ok:HOk P w H h) (KX:K.In h) (e:SqT K H a (k.map V.int)):(sQ (C4 P w)).is h (kk k) a:=by
 obtain⟨Aa,o,n,r,h1,h2,h3⟩:=YM ok KX e;rw[←pH] at r;exact⟨o,Aa.toArray,n,h1,h2,h3,by simpa using N3 r⟩
abbrev KX:List (List Int×ag×V)->List (List Key×ag×ah)->Prop:=cf λp q=>kk p.1=q.1/\p.2.1=q.2.1/\RelV p.2.2 q.2.2
def dxv (xs:List (List Int×ag×V)):List (List Int×V):=xs.map λx=>(x.1,x.2.2)
theorem KX.val {xs:List (List Int×ag×V)} {ys:List (List Key×ag×ah)} (r:KX xs ys) (k:List Int):RelO (EQ (dxv xs) k) ((yc ys (kk k)).map (·.2)):=by
 induction r with
 |nil=>exact jg
 |@cons p q ps qs h t ih=>
  obtain⟨h1,_,h2⟩:=h;by_cases e:p.1=k
  ·have e':q.1=kk k:=by rw[←h1,e]
   have b:yc (q::qs) (kk k)=some q.2:=by simp[yc,ny,e']
   rw[dxv,fi,F3 (p:=(p.1,p.2.2)) e,b];exact h2
  ·have e':¬q.1=kk k:=λz=>e (jT (h1.trans z));have b:yc (q::qs) (kk k)=yc qs (kk k):=by simp[yc,ny,e']
   rw[dxv,fi,EE (p:=(p.1,p.2.2)) e,b];exact ih
def DxO (P:bb) (w:bw) (a:ag) (xs:List (List Int×ag×V)):HO:=
 .ext λh=>xs.length<=sizeLine/\(a==qr)=false/\∃ys:List (List Key×ag×ah),KX xs ys/\Ex3 λo es ep=>h.get? a=some o/\o.ExactDict/\o.data= .dict es ep/\es.toList=ys.map (vW (sQ (C4 P w)))/\(ys.map (·.1)).Nodup
def Dx (P:bb) (w:bw) (K:aa) (H:Hp) (a:ag) (Ab:List (List Int×V)):Prop:=
 ∃xs,H a=some (DxO P w a xs)/\Ab=dxv xs/\∀x∈xs,SqT K H x.2.1 (x.1.map V.int)
theorem aL {P:bb} {w:bw} {H:Hp} {h:cq} {a:ag} {xs:List (List Int×ag×V)} {ys:List (List Key×ag×ah)} {o:Obj} {es:Array vH} {ep:Nat} (hz:xs.length<=sizeLine) (hm:(a==qr)=false) (r:KX xs ys)
 (h1:h.get? a=some o) (h2:o.ExactDict) (h3:o.data= .dict es ep) (h4:es.toList=ys.map (vW (sQ (C4 P w)))) (h5:(ys.map (·.1)).Nodup):ObjOk P w H h a (DxO P w a xs):=
 ⟨⟨hz,hm,ys,r,o,es,ep,h1,h2,h3,h4,h5⟩,⟨_,h1⟩,λg1 g2 ⟨z,m,ys,r,o,es,ep,e,q⟩ k=>⟨z,m,ys,r,o,es,ep,k _ e,q⟩⟩
theorem Dx.same {P:bb} {w:bw} {K:aa} {H H':Hp} {a:ag} {Ab:List (List Int×V)} (d:Dx P w K H a Ab) (e:Same H H'):Dx P w K H' a Ab:=
 let ⟨xs,h1,h2,h3⟩:=d;⟨xs,e _ _ h1,h2,λx hx=>Same.tup e (h3 x hx)⟩
section
variable {X:Cx} {z7:List (ag×Obj)} {σ:St} {H:Hp} {s:aj} {a b:ag} {Ab:List (List Int×V)} {k:List Int} {v:V} {r:ah} {A:cz} {E:ah->aj->Prop}
theorem Inv.dx (I:Inv X z7 σ H s) (d:Dx X.prog X.w X.K H a Ab):Ex2 λxs ys=>H a=some (DxO X.prog X.w a xs)/\Ab=dxv xs/\(∀x∈xs,SqT X.K H x.2.1 (x.1.map V.int))/\xs.length<=sizeLine/\(a==qr)=false/\KX xs ys/\s.heap.DictOfH (sQ (C4 X.prog X.w)) a ys:=by
 obtain⟨xs,e,ek,hk⟩:=d;obtain⟨z,m,ys,r,o,es,ep,h1,h2,h3,h4,h5⟩:=(show ObjOk X.prog X.w H s.heap a (DxO X.prog X.w a xs) from I.hok a _ e).1;refine⟨xs,ys,e,ek,hk,z,m,r,o,es,ep,h1,h2,h3,h4,?_,h5⟩;intro y hy;have all:∀{l:List (List Int×ag×V)} {n:List (List Key×ag×ah)},KX l n->(∀x∈l,SqT X.K H x.2.1 (x.1.map V.int))->∀y∈n,(sQ (C4 X.prog X.w)).is s.heap y.1 y.2.1:=by
  intro l n q;induction q with
  |nil=>intro _ y hy;exact nomatch hy
  |@cons p q ps qs hq t ih=>
   intro hl y hy;rcases bg.mp hy with e|hy
   ·subst e;rw[←hq.1, ←hq.2.1];exact P7 I.hok I.kIn (hl p bc)
   ·exact ih (λx hx=>hl x (aq _ hx)) y hy
 exact all r hk y hy
theorem jU {Q:ah->aj->Prop} (hu:A.units+1<wk) (I:Inv X z7 σ H s) (d:Dx X.prog X.w X.K H a Ab) (eb:SqT X.K H b (k.map V.int)) (l:EQ Ab k=some v) (h:∀w' s',Inv X z7 σ H s'->RelV v w'->Q w' s'):
 bf (bi X.prog X.w) A (uH (.ref a) (.ref b)) Q E s:=by
 obtain⟨xs,ys,e,rfl,hk,z,m,rel,dd⟩:=I.dx d;obtain⟨w',hw,rw'⟩:=RelO.some_of (v:=v) (o:=(yc ys (kk k)).map (·.2)) (by rw[←l];exact rel.val k);obtain⟨p,hp,hp2⟩:=Option.map_eq_some_iff.mp hw;refine wpAny_getItem_heap (tL hu) (P7 I.hok I.kIn eb) dd hp ?_;rw[hp2];exact h w' _ (I.tok _) rw'
theorem aM {Q:ah->aj->Prop} (hu:A.units+1<wk) (I:Inv X z7 σ H s) (d:Dx X.prog X.w X.K H a Ab) (eb:SqT X.K H b (k.map V.int)) (h:∀s',Inv X z7 σ H s'->Q (.bool (!(EQ Ab k).isSome)) s'):
 bf (bi X.prog X.w) A (ki .NotIn (.ref b) (.ref a)) Q E s:=by
 obtain⟨xs,ys,e,rfl,hk,z,m,rel,dd⟩:=I.dx d;refine wpAny_notIn_heap (tL hu) (P7 I.hok I.kIn eb) m dd ?_;have q:=(rel.val k).isSome_eq;rw[wD] at q;rw[←q];exact h _ (I.tok _)
theorem jV {Q:Unit->aj->Prop} (hu:A.units+1<wk) (I:Inv X z7 σ H s) (d:Dx X.prog X.w X.K H a Ab) (eb:SqT X.K H b (k.map V.int)) (l:EQ Ab k=none) (hz:Ab.length<sizeLine) (rv:RelV v r)
 (h:∀H' s',Inv X z7 σ H' s'->Sb a H H'->Dx X.prog X.w X.K H' a (Ab++[(k,v)])->Q () s'):bf (bi X.prog X.w) A (setItem (.ref a) (.ref b) r) Q E s:=by
 obtain⟨xs,ys,e,rfl,hk,z,m,rel,dd⟩:=I.dx d;rw[dxv,ai] at hz;have hn:(yc ys (kk k)).isSome=false:=by
  have q:=(rel.val k).isSome_eq;rw[wD,l] at q;exact q.symm
 have hly:ys.length<=sizeLine:=by rw[←cj rel];exact z
 refine wpAny_setItem_heap (hsz:=hly) (tL hu) (P7 I.hok I.kIn eb) dd λh' dd' hs=>?_;obtain⟨q,es,ep,hq,h2,h3,h4,_,h5⟩:=dd';have est:storedH ys (kk k) b r=ys++[(kk k,b,r)]:=by
  unfold storedH;rw[Af (by rw[hn];decide)]
 rw[est] at h4 h5;have rel':KX (xs++[(k,b,v)]) (ys++[(kk k,b,r)]):=Paired.snoc rel ⟨rfl,rfl,rv⟩;have sb:Sb a H (upd H a (DxO X.prog X.w a (xs++[(k,b,v)]))):=λc o ec n=>by rw[AE n];exact ec
 have tp:∀{c:ag} {l:List V},SqT X.K H c l->SqT X.K (upd H a (DxO X.prog X.w a (xs++[(k,b,v)]))) c l:=λ{c l} hc=>by
  rcases hc with(hc|⟨o,hc⟩)|hc
  ·exact .inl (.inl (sb _ _ hc (B2 hc e (by intro z;cases z))))
  ·exact .inl (.inr ⟨o,sb _ _ hc (B2 hc e (by intro z;cases z))⟩)
  ·exact .inr hc
 refine h _ _ (bW I (by rw[e];exact jg) hs ⟨q,hq⟩ (aL (by rw[br];simp;omega) m rel' hq h2 h3 h4 h5)) sb ⟨_,upd_same,?_,λx hx=>?_⟩
 ·simp[dxv]
 ·rcases cn.mp hx with hx|hx
  ·exact tp (hk x hx)
  ·have:x=(k,b,v):=by simpa using hx
   rw[this];exact tp eb
end
def pI (P:bb) (w:bw) (K:aa) (td ty:TE):TE:=λσ H Q=>td σ H λx H1=>ty σ H1 λy H2=>Ex5 λa b Ab k v=>x= .ref a/\y= .ref b/\Dx P w K H2 a Ab/\SqT K H2 b (k.map V.int)/\EQ Ab k=some v/\Q v H2
def dG (P:bb) (w:bw) (K:aa) (ty td:TE):TE:=λσ H Q=>ty σ H λy H1=>td σ H1 λx H2=>Ex4 λa b Ab k=>x= .ref a/\y= .ref b/\Dx P w K H2 a Ab/\SqT K H2 b (k.map V.int)/\Q (.bl (!(EQ Ab k).isSome)) H2
def pJ (P:bb) (w:bw) (K:aa) (td ty tv:TE):TS:=λD σ H=>tv σ H λv H1=>td σ H1 λx H2=>ty σ H2 λy H3=>Ex4 λa b Ab k=>x= .ref a/\y= .ref b/\Dx P w K H3 a Ab/\SqT K H3 b (k.map V.int)/\EQ Ab k=none/\Ab.length<sizeLine/\
 ∀H4,Sb a H3 H4->Dx P w K H4 a (Ab++[(k,v)])->D.nx σ H4
def pK (P:bb) (w:bw) (K:aa):TE:=λ_ H Q=>∀p H',H p=none->Sb p H H'->Dx P w K H' p []->Q (.ref p) H'
section
variable {X:Cx} {o i value:Expr} {pos pos':Pos} {td ty tv:TE}
theorem VX (hu:X.A.units+1<wk) (ho:PE X o td) (hi:PE X i ty) (hs:lA i):PE X (.Subscript o i pos) (pI X.prog X.w X.K td ty):=by
 intro z7 s σ H Q I h;refine bX PySem.F.slot_dict_getitem.lookup hs (thn (ho z7 s σ H _ I h) λu s1 ⟨x,H1,I1,rx,q1⟩=>thn (hi z7 s1 σ H1 _ I1 q1) λiv s2 ⟨y,H2,I2,ry,a,b,Ab,k,v,ex,ey,d,eb,l,q2⟩=>?_);subst ex ey;obtain rfl:u=cb a:=rx;obtain rfl:iv=cb b:=ry;obtain⟨_,_,_,_,_,_,_,_,dd⟩:=I2.dx d;exact⟨dd.typeIs,jU hu I2 d eb l λw' s3 I3 rw'=>⟨v,H2,I3,rw',q2⟩⟩
theorem OT (hu:X.A.units+1<wk) (hi:PE X i ty) (ho:PE X o td):PC X .NotIn i o (dG X.prog X.w X.K ty td):=by
 intro z7 s σ H Q I h;refine thn (hi z7 s σ H _ I h) λiv s1 ⟨y,H1,I1,ry,q1⟩=>thn (ho z7 s1 σ H1 _ I1 q1) λu s2 ⟨x,H2,I2,rx,a,b,Ab,k,ex,ey,d,eb,q2⟩=>?_;subst ex ey;obtain rfl:u=cb a:=rx;obtain rfl:iv=cb b:=ry;exact aM hu I2 d eb λs3 I3=>⟨.bl (!(EQ Ab k).isSome),H2,I3,rfl,q2⟩
theorem P8 (hu:X.A.units+1<wk) (ho:PE X o td) (hi:PE X i ty) (hv:PE X value tv) (hs:pf value (some (.Subscript o i pos')) pos.line X.env=pure false):
 PS X (.Assign [.Subscript o i pos'] value pos) (pJ X.prog X.w X.K td ty tv):=by
 intro z7 s σ H D I h;refine wpAny_Assign_Subscript (thn (hv z7 s σ H _ I h) λr s1 ⟨v,H1,I1,rv,q1⟩=>thn (ho z7 s1 σ H1 _ I1 q1) λu s2 ⟨x,H2,I2,rx,q2⟩=>thn (hi z7 s2 σ H2 _ I2 q2) λiv s3 ⟨y,H3,I3,ry,a,b,Ab,k,ex,ey,d,eb,l,hz,q3⟩=>?_) hs;subst ex ey;obtain rfl:u=cb a:=rx;obtain rfl:iv=cb b:=ry;exact jV hu I3 d eb l hz rv λH4 s4 I4 sb d4=>⟨σ,H4,I4,q3 H4 sb d4⟩
theorem P9:PE X (.Dict [] [] pos) (pK X.prog X.w X.K):=λz7 s σ H Q I h=>by
 have hm:(s.heap.objs.size==qr)=false:=beq_eq_false_iff_ne.mpr (cr (cg I.big));have J:=I.laid (a:=s.heap.objs.size) (h':=s.heap.push { cls:=.type "dict",data:=.dict #[] }) (o:=DxO X.prog X.w s.heap.objs.size []) (t':=s.toks) (λ_ _ q=>ak _ q) (aw _)
  (aL (ys:=[]) (dm _) hm .nil (bn _ rfl) ⟨rfl,rfl,rfl⟩ rfl rfl vC)
 exact wpAny_Dict_empty ⟨.ref s.heap.objs.size,_,J,rfl,h _ _ (I.hok.fresh (aw _)) (λb o e n=>by rw[AE n];exact e) ⟨[],upd_same,rfl,λx hx=>nomatch hx⟩⟩
end
end L2
end
section
namespace L2
open PySem PySem.Spec PyProof.Rows
def rE:V->List V->Hp->VK->Prop:=λx vs H Q=>Ex4 λ(l:ag) (xs:List V) (i:Nat) (y:V)=>x= .ref l/\vs=[.int (i:Nat),y]/\H l=some (.lst xs)/\i<=xs.length/\xs.length<sizeLine/\Q .non (upd H l (.lst (xs.take i++y::xs.drop i)))
theorem dH {i:Nat} (h:i<1000000000):oy (i:Int)=true:=by
 unfold oy;simp;omega
theorem dI (Aa:List ah) (i:Nat) (u2:ah) (hi:i<=Aa.length) (x:Int) (hx:x=(i:Int)):
 (λxs:Array ah=>have k:=if x<0 then(x+(xs.size:Int)).toNat else min x.toNat xs.size;(xs.extract 0 k).push u2++xs.extract k) Aa.toArray=(Aa.take i++u2::Aa.drop i).toArray:=by
 have ek:(if x<0 then(x+(Aa.toArray.size:Int)).toNat else min x.toNat Aa.toArray.size)=i:=by
  rw[Af (by omega),bv];omega
 show((Aa.toArray.extract 0 (if x<0 then(x+(Aa.toArray.size:Int)).toNat else min x.toNat Aa.toArray.size)).push u2++Aa.toArray.extract (if x<0 then(x+(Aa.toArray.size:Int)).toNat else min x.toNat Aa.toArray.size))=_;rw[ek];apply Array.ext';simp;exact rJ (by rw[im];omega)
theorem dJ {prog:bb} {w:bw} {A:cz} {E:ah->aj->Prop} {s:aj} {l:ag} {items:Array ah} {n:Nat} {x:Int} {t:Tok} {y:ah} {Q:ah->aj->Prop} (e:s.heap.get? l=some { cls:=.type "list",data:=.seq items n })
 (hf:oy x=true) (hz:items.size<=sizeLine)
 (k:Q .none { s with heap:=s.heap.update l (fb λxs=>have k:=if x<0 then(x+(xs.size:Int)).toNat else min x.toNat xs.size;(xs.extract 0 k).push y++xs.extract k),toks:=s.toks }):bf (bi prog w) A (call (.builtin "list.insert") [.ref l,.int x t,y]) Q E s:=
 xO F.slot_list_insert ⟨_,e,rfl⟩ F.entry_list_insert (F.args_list_insert_3 _ _ _) (uY l items n x t y (by simp[hf]) hz) ⟨e,k⟩
theorem XC {X:Cx}:MtM X "list.insert" rE:=by
 intro z7 s σ H x vs v us Q I rx rv h;obtain⟨l,xs,i,y,rfl,rfl,hH,hi,hz,q⟩:=h;cases rx;obtain⟨u1,u2,rfl,r1,r2⟩:=rv.two;obtain⟨t,rfl⟩:=r1;obtain⟨z,Aa,n,r,hl,e⟩:=I.lstM hH;refine dJ e (dH (by rw[bz] at hz;omega)) (by rw[bv];omega) ?_;refine⟨.non,_,I.lset (its':=Aa.take i++u2::Aa.drop i) hH e (dI Aa i u2 (by omega) _ rfl) ((r.take i).append (.cons r2 (r.drop i))) ?_,rfl,q⟩;rw[br,fm,dy,im];omega
end L2
end
section
namespace L2
open PySem PySem.Spec PyProof.Rows
def RawD (h:cq) (d:ag) (es:Array vH) (ep:Nat):Prop:=∃o,h.get? d=some o/\o.ExactDict/\o.data= .dict es ep
section
variable {prog:bb} {w:bw} {A:cz} {E:ah->aj->Prop} {s:aj} {vw it d:ag} {es:Array vH} {ep i:Nat}
theorem XD {Q:ah->aj->Prop} (hvw:s.heap.IsValuesView vw d) (hm:RawD s.heap d es ep)
 (k:Q (.ref s.heap.objs.size) { s with heap:=s.heap.push { cls:=.type "dict_valueiterator",data:=.fields #[.ref d,.int 0 0,.int es.size 0,.int ep 0] } }):bf (bi prog w) A (pyIter (.ref vw)) Q E s:=by
 obtain⟨ov,gv,cv,dv⟩:=id hvw;obtain⟨o,go,_,dd⟩:=hm;refine wpAny_pyIter_slot hvw.typeIs uB (ms uB hvw.typeIs F.entry_dict_values_iter (?_:_) (F.args_dict_values_iter_1 _));unfold tQ.«dict_values.__iter__»;refine ae (ao ?_);refine ae ?_;unfold yp;refine ae (ip gv dv (x:=.ref d) rfl (ao ?_));refine ae ?_;unfold w6;refine ae (tX go dd ?_);refine ae (uZ go dd ?_);have own:oa "dict_valueiterator"=false:=by decide
 simp only[own,fq,if_false];refine gc (ao ⟨_,rfl,"dict_valueiterator",_,⟨_,bn _ rfl,rfl⟩,iq.lookup,(?_:_)⟩);simpa [fw] using k
theorem XE {en:vH} {Q:Option ah->aj->Prop} (hv:s.heap.IsValIter it d i es.size ep) (hm:RawD s.heap d es ep) (hx:es[i]? =some en)
 (k:∀h',h'.IsValIter it d (i+1) es.size ep->pd it s.heap h'->Q (some en.val) { s with heap:=h' }):bf (bi prog w) A (vY (.ref it)) Q E s:=by
 obtain⟨oi,gi,ci,di⟩:=id hv;obtain⟨od,go,_,dd⟩:=hm;unfold vY;refine ae (tY (ju (name:=ll "__next__") hv.typeIs iq
  (ms iq hv.typeIs rM (?_:_) (rL _))))
 refine ae (ao ?_);refine ae ?_;refine ae ?_;first|refine ae (jt hv.typeIs (ao ?_))|refine ae (mi hv.typeIs (ao ?_))
 refine ae (yd gi di ?_);have own:oa "dict_valueiterator"=false:=by decide
 simp only[own,fq,if_false];show bf _ _ (if(cb d==io)=true then _ else _) _ _ s;rw[Af (show¬((cb d==io)=true) from bj)];refine ae (ao ?_);refine ae (tX go dd ?_);rw[Af (by simp)];refine ae (ao ?_);refine ae (uZ go dd ?_);rw[Af (by simp)];refine ao ?_;obtain⟨lt,hen⟩:=kn.mp hx;simp only[show¬((i:Int)<0) from by omega,if_false,jv,qb lt];refine ae ?_;first|refine ae (jt hv.typeIs (ao ?_))|refine ae (mi hv.typeIs (ao ?_))
 refine ae (rO hv.typeIs ?_);show bf _ _ (xV (.ref it) 1 (fw ((i:Int)+1)) >>= _) _ _ s;refine ae (jh gi di (by simp) ?_);have hv':(s.heap.update it (oh (·.setIfInBounds 1 (fw ((i:Int)+1))))).IsValIter it d (i+1) es.size ep:=
  ⟨_,iw _ gi (rN (nk di _)),(wq ..).trans ci,by rw[nk di];simp[fw]⟩
 refine ae (ik ?_);refine ae (rO (s:={ s with heap:=s.heap.update it (oh (·.setIfInBounds 1 (fw ((i:Int)+1)))) }) hv'.typeIs ?_);refine ae (rO (s:={ s with heap:=s.heap.update it (oh (·.setIfInBounds 1 (fw ((i:Int)+1)))) }) hv'.typeIs ?_);show bf _ _ (pure es[i].val) _ _ _;rw[hen];exact ao (ao ⟨_,rfl,ao (k _ hv' (qc ..))⟩)
theorem aN {Q:Option ah->aj->Prop} (hh:A.handled=none) (hv:s.heap.IsValIter it d es.size es.size ep) (hm:RawD s.heap d es ep) (k:∀h',zm it s.heap h'->Q none { s with heap:=h' }):bf (bi prog w) A (vY (.ref it)) Q E s:=by
 obtain⟨oi,gi,ci,di⟩:=id hv;obtain⟨od,go,_,dd⟩:=hm;unfold vY;refine ae (tY (ju (name:=ll "__next__") hv.typeIs iq
  (ms iq hv.typeIs rM (?_:_) (rL _))))
 refine ae (ao ?_);refine ae ?_;refine ae ?_;first|refine ae (jt hv.typeIs (ao ?_))|refine ae (mi hv.typeIs (ao ?_))
 refine ae (yd gi di ?_);have own:oa "dict_valueiterator"=false:=by decide
 simp only[own,fq,if_false];show bf _ _ (if(cb d==io)=true then _ else _) _ _ s;rw[Af (show¬((cb d==io)=true) from bj)];refine ae (ao ?_);refine ae (tX go dd ?_);rw[Af (by simp)];refine ae (ao ?_);refine ae (uZ go dd ?_);rw[Af (by simp)];refine ao ?_;simp only[show¬((es.size:Int)<0) from by omega,if_false,jv,rq (aw es.size)];refine ae ?_;first|refine ae (jt hv.typeIs (ao ?_))|refine ae (mi hv.typeIs (ao ?_))
 show bf _ _ (xV (.ref it) 0 .none >>= _) _ _ s;refine ae (jh gi di (by simp) ?_);show bf _ _ (newExc (.type "StopIteration") [] >>= _) _ _ _;refine ae ?_;simp only[newExc,newTuple];refine ae (gc ?_ (by size_fits));refine ae (m:=tE _ _) (wpAny_of_eq (a:=io) (by first|rfl|(simp only[tE];rfl)) ?_);refine gc ?_ (by size_fits);simp only[raiseNew];refine ae (vT ?_);rw[show A.in1.handled=none from hh];refine ae (ao (xg ?_));refine ae (wT (T:="StopIteration") (b:=true) ⟨_,bn _ rfl,rfl⟩ isSubtype_stop ?_);exact ao (k _ (((qc ..).extBut.push _).push _))
theorem RawD.at {h h':cq} (x:RawD h d es ep) (e:∀o,h.get? d=some o->h'.get? d=some o):RawD h' d es ep:=let ⟨o,ho,r⟩:=x;⟨o,e _ ho,r⟩
theorem dL:PySem.W.KdlSrc prog w "dict_values" vw d es.size (λi v=>∃en,es[i]? =some en/\v=en.val) (λh=>h.IsValuesView vw d/\RawD h d es ep) where
 type:=λ_ x=>x.1.typeIs
 there:=λ_ x=>⟨let ⟨_,ho,_⟩:=x.1;bh ho,let ⟨_,ho,_⟩:=x.2;bh ho⟩
 keep:=λ_ _ x f=>⟨let ⟨o,ho,y⟩:=x.1;⟨o,f vw (.inl rfl) o ho,y⟩,x.2.at λo e=>f d (.inr rfl) o e⟩
 notList:=by decide
 notTuple:=by decide
 hint:=λ_ _ _ _ x hq=>PySem.W.kdl_hint_values x.1.typeIs hq
 iter:=λA s hh x=>by
  have Ad:d<s.heap.objs.size:=let ⟨_,ho,_⟩:=x.2;bh ho;refine⟨_,λi h=>h.IsValIter s.heap.objs.size d i es.size ep/\RawD h d es ep,λ_ _ hq=>XD x.1 x.2 hq,⟨λb hb=>by simp at hb;simp[hb],λ_ _ _ st f=>⟨st.1.at λo e=>f _ (by simp) o e,st.2.at λo e=>f d (by simp) o e⟩,λi s' Q E hi st k=>?_,λs' Q E st k=>?_,λ_ _ _ _ st k=>wpAny_pyIter_valiter st.1 k⟩,⟨⟨_,bn _ rfl,rfl,rfl⟩,x.2.at λo e=>ak _ e⟩⟩
  ·refine XE st.1 st.2 (qb hi) λh' q sb=>k _ h' s'.toks ⟨_,qb hi,rfl⟩ ⟨q,st.2.at λo e=>(sb.2 d (cg Ad)).trans e⟩ λb o hb e=>sb.extBut b o (λz=>hb (by simp[z])) e
  ·exact aN hh st.1 st.2 λh' eb=>k h' s'.toks λb o hb e=>eb b o (λz=>hb (by simp[z])) e
theorem T5 (hd:(d==qr)=false):MeetsIn prog w (tQ.«dict.values» ⟨[.ref d],[]⟩) (λ_ R s=>s.TypeIs (.ref d) "dict"/\R (.ok (.ret (.ref s.heap.objs.size))) { s with heap:=s.heap.push { cls:=.type "dict_values",data:=.fields #[.ref d] } }):=
 .of_wp λA R s ⟨hT,k⟩=>by
  refine ae ?_;unfold zE;refine ae (wpAny_notOrdered_dict hT ?_);show bf _ _ (pure d) _ _ s;refine ao ?_;show bf _ _ (ve d >>= _) _ _ s;unfold ve;rw[Af (by rw[hd];exact bj)];refine ae (ao ?_);exact ae (gc (ao ⟨_,rfl,k⟩))
end
def OU (v d:ag):HO:=.ext λh=>h.IsValuesView v d
def jW (P:bb) (w:bw) (K:aa) (td:TE):TE:=λσ H Q=>td σ H λx H1=>Ex2 λd Ab=>x= .ref d/\Dx P w K H1 d Ab/\∀v,H1 v=none->Q (.ref v) (upd H1 v (OU v d))
theorem aO {X:Cx} {e:Expr} {td:TE} {apos cpos:Pos} (he:PE X e td) (hbase:jq e "values" X.env (eval e X.env)=eval e X.env:=by rfl) (hline:(apos.endLine==cpos.line)=true:=by rfl):PE X (.Call (.Attribute e "values" apos) [] [] cpos) (jW X.prog X.w X.K td):=by
 intro z7 s σ H Q I h;refine wpAny_Call_method (T:="dict") (id:="dict.values") hbase rfl hline F.plainAttrs_dict wa F.type_dict_values (thn (he z7 s σ H _ I h) λu s1 ⟨x,H1,I1,rx,d,Ab,ex,hd,q⟩=>?_);subst ex;obtain rfl:u=cb d:=rx;obtain⟨xs,ys,e1,ek,hk,z,m,rel,dd⟩:=I1.dx hd;obtain⟨o,es,ep,go,xd,_⟩:=id dd;refine⟨dd.typeIs,λb z=>by cases z;exact⟨o,go,xd.2.1⟩,?_⟩;show bf _ _ (mr cpos (.builtin "dict.values") [.ref d] [] []) _ X.xe s1;refine method_meetsIn wa F.entry_dict_values rfl (PySem.evalArgs_none ⟨rfl,dd.typeIs,F.args_dict_values_1 _,_,T5 m,dd.typeIs,?_⟩);exact⟨.ref s1.heap.objs.size,_,I1.laid (a:=s1.heap.objs.size) (o:=OU s1.heap.objs.size d) (t':=s1.toks) (λ_ _ q=>ak _ q) (aw _)
  ⟨⟨_,bn _ rfl,rfl,rfl⟩,⟨_,bn _ rfl⟩,λg1 g2 ⟨o,a1,a2⟩ k=>⟨o,k _ a1,a2⟩⟩,rfl,q _ (I1.hok.fresh (aw _))⟩
theorem aP {es:Array vH} {acc:Array ah} (h:xA (λi v=>∃en,es[i]? =some en/\v=en.val) acc es.size):acc.toList=es.toList.map (·.val):=by
 apply List.ext_getElem?;intro i;rw[az,kr,kr];cases e:acc[i]? with
 |none=>
  have h1:acc.size<=i:=Array.getElem?_eq_none_iff.mp e;rw[rq (by rw[←h.1];exact h1)];rfl
 |some v=>
  obtain⟨en,h1,h2⟩:=h.2 i v e;rw[h1,h2];rfl
theorem T6 {X:Cx} (hc:X.calm=true):HV X (.type "list") (λxs H Q=>Ex3 λv d Ab=>xs=[.ref v]/\H v=some (OU v d)/\Dx X.prog X.w X.K H d Ab/\∀l,H l=none->Q (.ref l) (upd H l (.lst (Ab.map (·.2))))):=by
 intro z7 s σ H xs us Q I r h;obtain⟨v,d,Ab,rfl,hv,hd,q⟩:=h;obtain⟨u,rfl,rx⟩:=NW r;cases rx;obtain⟨xs,ys,e1,rfl,hk,z,m,rel,dd⟩:=I.dx hd;obtain⟨o,es,ep,go,xd,hdt,hes,_⟩:=id dd;have vw:s.heap.IsValuesView v d:=(show ObjOk X.prog X.w H s.heap v (OU v d) from I.hok v _ hv).1;have hsz:es.size=xs.length:=by
  have:=congrArg ou hes;rw[dc,ai] at this;rw[this];exact(cj rel).symm
 refine PySem.W.kdl_call (dL (vw:=v) (d:=d) (es:=es) (ep:=ep)) (I.ok.hd hc) ⟨vw,o,go,xd,hdt⟩ (by rw[hsz];exact z) λh' tk acc c kp ga hacc=>?_;have ev:=aP hacc;have rv:Vals ((dxv xs).map (·.2)) acc.toList:=by
  rw[ev,hes,wC];have go:∀{l:List (List Int×ag×V)} {n:List (List Key×ag×ah)},KX l n->Vals ((dxv l).map (·.2)) (n.map ((·.val)∘vW (sQ (C4 X.prog X.w)))):=by
   intro l n q;induction q with
   |nil=>exact .nil
   |cons h t ih=>exact .cons h.2.2 ih
  exact go rel
 exact⟨.ref s.heap.objs.size,_,I.laid (t':=tk) kp (aw _) (show ObjOk X.prog X.w _ h' _ (.lst ((dxv xs).map (·.2))) from⟨by rw[dxv,ai,ai];exact z,acc.toList,c,rv,ga⟩),rfl,q _ (I.hok.fresh (aw _))⟩
end L2
end
section
namespace Lt
open PySem PySem.Spec PyProof.Rows L2
variable {f a C CR CT r ta CI CL CN:ag} {fd:dw} {X:Cx} {x:List Int} {i n e p q:Nat} {pos:Pos} {z dz fz:Str} {xs:List V} {H H' H1:Hp} {E:XK} {cs t ci ct:List UInt8} {α β:Type} {Q:VK} {ls:List (List Int)} {P:bb} {w:bw} {h:cq} {ps:List Str} {hg:List Int->Nat}
def pL (K:aa):Sp:=λvs H Q _=>Ex4 λ(ra xa:ag) (rs:List (List Int)) (x:List Int)=>vs=[.ref ra,.ref xa]/\LT K H ra rs/\SqT K H xa (x.map V.int)/\(∀l∈rs,Sm l)/\Sm x/\rs.length<=100000/\
 ∀H',Same H H'->Q (.int ((mPA (λy=>BF y x) [] rs (rs.length+1) 0 rs.length:Nat):Int)) H'
def WPa (K:aa) (ra xa:ag) (rs:List (List Int)) (x:List Int) (H:Hp) (m:Nat) (σ:L2.St) (H':Hp):Prop:=
 Ex4 λ(low high g:Nat) (r4:Option V)=>σ=[some (.ref ra),some (.ref xa),some (.int (low:Nat)),some (.int (high:Nat)),r4]/\Same H H'/\mPA (λy=>BF y x) [] rs (rs.length+1) 0 rs.length=mPA (λy=>BF y x) [] rs g low high/\high - low<g/\low<=high/\high<=rs.length/\m=high - low
theorem LT.same {K:aa} (h:LT K H a ls) (e:Same H H'):LT K H' a ls:=(Same.kp e).lt h
theorem pM (lt:α->Bool) (d:α) (r:List α) (f low high:Nat):mPA lt d r (f+1) low high=if low<high then(if lt (r.getD ((low+high) / 2) d)=true then mPA lt d r f ((low+high) / 2+1) high else mPA lt d r f low ((low+high) / 2)) else low:=rfl
section
variable {P:bb} {w:bw} {K:aa} {mg:Str->Option ah} {base:cq} {CI CL CN:ag}
theorem OV:FnScope ["rising","interval","low","high","middle"] ["rising","interval"] (AH FJ):={}
theorem pN (F:Fun K "place_among" "place_among" FJ f fd) (B:Blt mg) (D1:Def P w K mg base 2 "narrower" ["x","y"] (cE K)):FnOk P w K mg base (CX1 P w) 3 f fd ["rising","interval"] (pL K):=by
 refine F.okx OV λAc A outer s H vs Q E hr h=>?_;obtain⟨ra,xa,rs,x,rfl,L,hx,hs,sx,hl,k⟩:=h;refine⟨_,(AB (AX 2 OV AI)
  (AB (AX 3 OV (AW AN (by rfl) B.len cy (AA (pv 0) AF)))
  (AB (B4 bq (AO HW (pv 2) (pv 3) (AQ _))
  (AB (AX 4 OV (BD LC (BD DK (pv 2) (pv 3)) AI))
  (AC (AZ (DH (D1.call hr AD (AA (BO DN (pv 0) (pv 4) (λ_ _=>rfl)) (AA (pv 1) AF))))
   (AC (AX 2 OV (BD DK (pv 4) AI))) (AC (AX 3 OV (pv 4)))))))
  (AC (AL (pv 2)))))),?_⟩
 and_intros
 obtain⟨ys,g1,g2⟩:=L.len;refine⟨_,rfl,ra,ys,rfl,.inl g1,?_⟩;refine⟨WPa K ra xa rs x H,⟨rs.length,0,rs.length,rs.length+1,none,by rw[g2];rfl,Same.refl _,rfl,by omega,by omega,by omega,rfl⟩,?_⟩;rintro m σ H1 ⟨low,high,g,r4,rfl,s1,em,hg,hlh,hh,rfl⟩;obtain⟨g,rfl⟩:∃g',g=g'+1:=⟨g - 1,by omega⟩
 replace em:=em.trans (pM _ _ _ g low high);refine⟨_,rfl,_,rfl,_,_,rfl,rfl,_,rfl,?_⟩;by_cases Ad:low<high
 ·have hd:decide (((low:Nat):Int)<((high:Nat):Int))=true:=decide_eq_true (by omega);rw[hd];rw[Ae Ad] at em;have emid:(((low:Nat):Int)+((high:Nat):Int)) / 2=(((low+high) / 2:Nat):Int):=by omega
  refine DS ⟨_,rfl,_,rfl,_,_,rfl,rfl,_,_,rfl,rfl,(show(0:Int)<2/\(2:Int)<1073741824 from by decide),?_⟩;obtain⟨xs,b,q1,q2,q3⟩:=(L.same s1).get (i:=(low+high) / 2) (by omega);have sm:=hs (rs.getD ((low+high) / 2) []) (by rw[bp,am (by omega)];exact jf _);refine⟨_,rfl,V.int (((low+high) / 2:Nat):Int),(by rw[←emid];rfl),ra,xs,_,_,rfl,rfl,q1,EO q2,V.ref xa,rfl,b,xa,_,_,rfl,q3,s1.tup hx,sm,sx,λH2 s2=>⟨_,rfl,?_⟩⟩;cases hn:BF (rs.getD ((low+high) / 2) []) x with
  |true=>
   rw[hn,Ae rfl] at em;exact BV ⟨V.int (((low+high) / 2:Nat):Int),(by rw[←emid];rfl),_,_,rfl,rfl,_,(show high - ((low+high) / 2+1)<high - low by omega),(low+high) / 2+1,high,g,_,rfl,s1.trans s2,em,by omega,by omega,hh,rfl⟩
  |false=>
   rw[hn,Af (by decide)] at em;exact BM ⟨V.int (((low+high) / 2:Nat):Int),(by rw[←emid];rfl),_,(show(low+high) / 2 - low<high - low by omega),low,(low+high) / 2,g,_,rfl,s1.trans s2,em,by omega,by omega,by omega,rfl⟩
 ·have hd:decide (((low:Nat):Int)<((high:Nat):Int))=false:=decide_eq_false (by omega);rw[hd];rw[Af Ad] at em;rw[em] at k;exact BM ⟨_,rfl,k H1 s1⟩
end
open PySem PySem.Spec PyProof.Rows L2
def rise (xs:List (List Int)):List (List Int):=OJ BF [] xs
def rkV (rs:List (List Int)) (n:Nat):List (List Int×V):=(jm n).map λi=>(rs.getD i [],V.int (i:Nat))
theorem RT (rs:List (List Int)) (n:Nat):rkV rs (n+1)=rkV rs n++[(rs.getD n [],V.int (n:Nat))]:=by
 unfold rkV;rw[uW,ff];rfl
theorem aQ {Ab:List (List Int×V)} {k:List Int} (h:∀x∈Ab,¬x.1=k):EQ Ab k=none:=by
 induction Ab with
 |nil=>rfl
 |cons p r ih=>rw[EE (h p bc)];exact ih λx hx=>h x (aq _ hx)
theorem ND {rs:List (List Int)} (nd:rs.Nodup) (hn:n<rs.length):EQ (rkV rs n) (rs.getD n [])=none:=by
 refine aQ λx hx e=>?_;unfold rkV at hx;obtain⟨i,hi,rfl⟩:=kf.mp hx;have hi:=xC.mp hi;rw[bp,bp,am hn,am (nj hi hn)] at e;have:=lD nd (am (nj hi hn)) (by rw[am hn];exact congrArg some e.symm);omega
theorem aR {rs:List (List Int)} (nd:rs.Nodup):∀{n:Nat} {k:List Int},n<=rs.length->rs.idxOf k<n->EQ (rkV rs n) k=some (V.int ((rs.idxOf k:Nat):Int))
 |0,k,_,h=>by omega
 |n+1,k,hn,h=>by
  have Ad:n<rs.length:=hn;rw[RT,JX _ _ _ _ (ND nd Ad)];by_cases e:rs.idxOf k=n
  ·have ek:k=rs.getD n []:=by
    rw[bp, ←e,am (by rw[e];exact Ad)];exact(tI (by rw[e];exact Ad)).symm
   rw[Ae ek,e]
  ·have hk:=aR nd (n:=n) (k:=k) (by omega) (by omega);rw[Af,hk];intro ek;rw[ek,ND nd Ad] at hk;cases hk
def pO (P:bb) (w:bw) (K:aa):Sp:=λvs H Q _=>Ex2 λ(va:ag) (xs:List (List Int))=>vs=[.ref va]/\LT K H va xs/\(∀l∈xs,Sm l)/\xs.length<=100000/\
 ∀H' d,Same H H'->Dx P w K H' d (rkV (rise xs) (rise xs).length)->Q (.ref d) H'
theorem LT.sbx {K:aa} (h:LT K H a ls) (s:Sb r H H') (ha:a≠r) (hr:∀xs,H r≠some (.tup xs)) (hf:∀o u,H r≠some (.frz o u)):LT K H' a ls:=by
 obtain⟨as,h1,h2⟩:=h;refine⟨as,s _ _ h1 ha,AU h2 λb l q=>?_⟩;rcases q with(q|⟨o,q⟩)|q
 ·exact .inl (.inl (s _ _ q λz=>hr _ (z▸q)))
 ·exact .inl (.inr ⟨o,s _ _ q λz=>hf _ _ (z▸q)⟩)
 ·exact .inr q
theorem pP {K:aa} {Ab:List (List Int×V)} (h:Dx P w K H a Ab) (s:Sb r H H') (ha:a≠r) (hr:∀xs,H r≠some (.tup xs)) (hf:∀o u,H r≠some (.frz o u)):Dx P w K H' a Ab:=by
 obtain⟨xs,h1,h2,h3⟩:=h;refine⟨xs,s _ _ h1 ha,h2,λx hx=>?_⟩;rcases h3 x hx with(q|⟨o,q⟩)|q
 ·exact .inl (.inl (s _ _ q λz=>hr _ (z▸q)))
 ·exact .inl (.inr ⟨o,s _ _ q λz=>hf _ _ (z▸q)⟩)
 ·exact .inr q
theorem Sb.tup2 {K:aa} {b:ag} {l:List V} (s:Sb r H H') (hr:∀xs,H r≠some (.tup xs)) (hf:∀o u,H r≠some (.frz o u)) (q:SqT K H b l):SqT K H' b l:=by
 rcases q with(q|⟨o,q⟩)|q
 ·exact .inl (.inl (s _ _ q λz=>hr _ (z▸q)))
 ·exact .inl (.inr ⟨o,s _ _ q λz=>hf _ _ (z▸q)⟩)
 ·exact .inr q
theorem cf.app {R:α->β->Prop}:∀{a1 a2:List α} {b1 b2:List β},cf R a1 b1->cf R a2 b2->cf R (a1++a2) (b1++b2)
 |_,_,_,_,.nil,s=>s
 |_,_,_,_,.cons r t,s=>.cons r (cf.app t s)
theorem cf.tk {R:α->β->Prop}:∀{a:List α} {b:List β} (n:Nat),cf R a b->cf R (a.take n) (b.take n)
 |_,_,0,_=>.nil
 |_,_,_+1,.nil=>.nil
 |_,_,n+1,.cons r t=>.cons r (cf.tk n t)
theorem cf.dr {R:α->β->Prop}:∀{a:List α} {b:List β} (n:Nat),cf R a b->cf R (a.drop n) (b.drop n)
 |_,_,0,r=>r
 |_,_,_+1,.nil=>.nil
 |_,_,n+1,.cons _ t=>cf.dr n t
structure RkS (P:bb) (w:bw) (K:aa) (H H':Hp) (ra da:ag) (rs:List (List Int)) (Ab:List (List Int×V)):Prop where
 same:Same H H'
 nr:H ra=none
 nd:H da=none
 L:LT K H' ra rs
 D:Dx P w K H' da Ab
 mem:∀l,(EQ Ab l).isSome=decide (l∈rs)
section
variable {P:bb} {w:bw} {K:aa} {mg:Str->Option ah} {base:cq} {CI CL CN:ag}
theorem IR:FnScope ["intervals","rising","known","interval","ranked","rank"] ["intervals"] (AH O9):={}
theorem jX (F:Fun K "ranks" "ranks" O9 f fd) (B:Blt mg) (D1:Def P w K mg base 3 "place_among" ["rising","interval"] (pL K)):FnOk P w K mg base (CX1 P w) 4 f fd ["intervals"] (pO P w K):=by
 refine F.okx IR λAc A outer s H vs Q E hr h=>?_;obtain⟨va,xs,rfl,L,hs,hl,k⟩:=h;refine⟨_,(AB (AX 1 IR (DM AF))
  (AB (AX 2 IR P9)
  (AB (CD bq rfl (DI (pv 0)) (DW 3 IR)
  (AC (AZ (XL (OT (MD hr) (pv 3) (pv 2)))
   (AB (P8 (MD hr) (pv 2) (pv 3) QF rfl)
  (AC (AY (GJ de PySem.F.slot_list_insert PySem.F.type_list_insert XC (pv 1) (AA (D1.call hr AD (AA (pv 1) (AA (pv 3) AF))) (AA (pv 3) AF)))))) AM)))
  (AB (AX 4 IR P9)
  (AB (CD bq rfl (O5 (by rfl) B.enum (AA (pv 1) AF)) (JN rfl (CA (DW 5 IR) (CA (DW 3 IR) HF)))
  (AC (P8 (MD hr) (pv 4) (pv 3) (pv 5) rfl)))
  (AC (AL (pv 4)))))))),?_⟩
 and_intros
 obtain⟨as,a1,a2⟩:=id L;have la:as.length=xs.length:=cj a2;refine⟨by rw[bz];show 0<=16777216;decide,λra nr=>?_⟩;intro da H1 nd0 sb1 D1';have nd:H da=none:=by
  by_cases e:da=ra
  ·rw[e];exact nr
  ·rw[AE e] at nd0;exact nd0
 have hne:ra≠da:=λe=>by rw[←e,upd_same] at nd0;cases nd0
 have same1:Same H H1:=λb o e=>sb1 b o (by rw[AE (AG e nr)];exact e) (AG e nd);have r1:H1 ra=some (.lst []):=sb1 _ _ upd_same hne;refine⟨V.ref va,rfl,va,rfl,⟨_,SqL.of (same1 _ _ a1)⟩,DJ (K:=K) (a:=va) (xs:=as.map V.ref) (λi σ H'=>Ex3 λ(rs:List (List Int)) (Ab:List (List Int×V)) (r3:Option V)=>σ=[some (.ref va),some (.ref ra),some (.ref da),r3,none,none]/\rs=(xs.take i).foldl (E6 BF []) []/\RkS P w K H H' ra da rs Ab/\Ab.length<=i/\rs.length<=i)
  ⟨[],[],none,rfl,rfl,⟨same1,nr,nd,⟨[],r1,.nil⟩,D1',λl=>rfl⟩,by simp,by simp⟩ ?_ ?_ ?_⟩
 ·rintro i σ H' _ ⟨rs,Ab,r3,_,_,S,_⟩;exact SqL.of (S.same _ _ a1)
 ·rintro i y σ H2 hi ⟨rs,Ab,r3,rfl,er,S,lk,lr⟩
  subst_eqs
  rw[az] at hi;cases ea:as[i]? with
  |none=>rw[ea] at hi;cases hi
  |some xa=>
   rw[ea] at hi;cases hi;obtain⟨x,hx,tx⟩:=BL a2 ea;have hi':i<xs.length:=(au.mp hx).1;have sx:=hs x (bo hx);have tx2:=S.same.tup tx;have enx:(xs.take (i+1)).foldl (E6 BF []) []=E6 BF [] rs x:=by
    rw[eq,hx,wt, ←er];rfl
   have hrs:∀l∈rs,Sm l:=λl hm=>by
    have:∀(ys r:List (List Int)) (l:List Int),l∈ys.foldl (E6 BF []) r->l∈r\/l∈ys:=by
     intro ys;induction ys with
     |nil=>intro r l h;exact .inl h
     |cons y ys ih=>
      intro r l h;rcases ih _ _ h with h|h
      ·rcases mIns_mem.mp h with h|h
       ·exact .inl h
       ·exact .inr (h▸bc)
      ·exact .inr (aq _ h)
    rw[er] at hm;rcases this _ _ _ hm with h|h
    ·exact absurd h (by simp)
    ·exact hs l (md h)
   refine⟨V.ref xa,rfl,V.ref da,rfl,da,xa,Ab,x,rfl,rfl,S.D,tx2,_,rfl,?_⟩;rw[S.mem x];by_cases hm:x∈rs
   ·rw[decide_eq_true hm];refine BM ⟨rs,Ab,_,rfl,?_,S,by omega,by omega⟩;rw[enx];unfold E6;rw[Ae hm]
   ·have hv:EQ Ab x=none:=by
     have:=S.mem x;rw[decide_eq_false hm] at this;cases h:EQ Ab x with
     |none=>rfl
     |some v=>rw[h] at this;cases this
    rw[decide_eq_false hm];refine BV ⟨V.ref da,rfl,V.ref xa,rfl,da,xa,Ab,x,rfl,rfl,S.D,tx2,hv,(by rw[bz];omega),λH3 sb3 D3=>?_⟩;obtain⟨zs,dz,_⟩:=id S.D;have t3:∀{b:ag} {l:List V},SqT K H2 b l->SqT K H3 b l:=λq=>Sb.tup2 sb3 (λ_ z=>by rw[dz] at z;cases z) (λ_ _ z=>by rw[dz] at z;cases z) q;have L3:LT K H3 ra rs:=S.L.sbx sb3 hne (λ_ z=>by rw[dz] at z;cases z) (λ_ _ z=>by rw[dz] at z;cases z);have s3:Same H H3:=λb o e=>sb3 b o (S.same b o e) (AG e nd);obtain⟨bs,b1,b2⟩:=id L3;have lb:bs.length=rs.length:=cj b2;refine⟨V.ref ra,rfl,.inl ⟨rfl,_,SqL.of b1⟩,V.ref ra,rfl,V.ref xa,rfl,ra,xa,rs,x,rfl,L3,t3 tx2,hrs,sx,by omega,λH4 s4=>?_⟩;have b14:=s4 _ _ b1;have hle:mPA (λy=>BF y x) [] rs (rs.length+1) 0 rs.length<=rs.length:=TQ _ _ _ (dm _) (aw _);refine⟨V.ref xa,rfl,ra,_,mPA (λy=>BF y x) [] rs (rs.length+1) 0 rs.length,V.ref xa,rfl,rfl,b14,(by rw[ai,lb];exact hle),(by rw[ai,lb,bz];omega),?_⟩;have eins:E6 BF [] rs x=KU rs (mPA (λy=>BF y x) [] rs (rs.length+1) 0 rs.length) x:=by unfold E6;rw[Af hm]
    generalize mPA (λy=>BF y x) [] rs (rs.length+1) 0 rs.length=n at hle eins;have n0:∀{b:ag} {o:HO},H b=some o->b≠ra:=λe=>AG e nr;have t5:∀{b:ag} {l:List V} {z:HO},SqT K H4 b l->SqT K (upd H4 ra z) b l:=λ{b l z} q=>Sb.tup2 (r:=ra) (λc o e n=>by rw[AE n];exact e) (λ_ z=>by rw[b14] at z;cases z) (λ_ _ z=>by rw[b14] at z;cases z) q;refine⟨E6 BF [] rs x,Ab++[(x,.bl true)],_,rfl,enx.symm,⟨λb o e=>by rw[AE (n0 e)];exact s4 _ _ (s3 _ _ e),nr,nd,⟨bs.take n++xa::bs.drop n,by rw[upd_same,ff,fi,yG,List.map_drop],?_⟩,?_,λl=>?_⟩,by rw[br];simp;omega,by have:=ZV (lt:=BF) (d:=[]) (r:=rs) (x:=x);omega⟩
    ·rw[eins];unfold KU;refine cf.app (cf.tk n (AU b2 λb l q=>t5 (s4.tup q))) (.cons (t5 (s4.tup (t3 tx2))) (cf.dr n (AU b2 λb l q=>t5 (s4.tup q))))
    ·exact pP (r:=ra) (Dx.same D3 s4) (λc o e n=>by rw[AE n];exact e) (cr hne) (λ_ z=>by rw[b14] at z;cases z) (λ_ _ z=>by rw[b14] at z;cases z)
    ·rw[JX _ _ _ _ hv];by_cases el:l=x
     ·rw[Ae el,decide_eq_true (mIns_mem.mpr (.inr el))];rfl
     ·rw[Af el,S.mem l,decide_eq_decide];exact⟨λh=>mIns_mem.mpr (.inl h),λh=>(mIns_mem.mp h).elim id λe=>absurd e el⟩
 ·rintro σ H2 ⟨rs,Ab,r3,rfl,er,S,lk,lr⟩;rw[ai,la,fv] at er;rw[ai,la] at lr;have er:rs=rise xs:=er;rw[←er] at k;have ndr:rs.Nodup:=by rw[er];exact OM vC
  intro d2 H3 nd2 sb3 D3;have s3:Same H2 H3:=λb o e=>sb3 b o e (AG e nd2);obtain⟨bs,b1,b2⟩:=id S.L;have lb:bs.length=rs.length:=cj b2;have nd2':H d2=none:=S.same.free nd2;refine⟨V.ref ra,rfl,ra,_,rfl,SqL.of (s3 _ _ b1),GA (n:=rs.length) (λi σ H'=>(Ex2 λr3 r5=>σ=[some (.ref va),some (.ref ra),some (.ref da),r3,some (.ref d2),r5])/\Same H2 H'/\Dx P w K H' d2 (rkV rs i)) ⟨⟨_,_,rfl⟩,s3,D3⟩ ?_ ?_ ?_ ?_⟩
  ·rintro i σ H' hi ⟨_,s4,_⟩;exact⟨_,.ref (bs[i]'(by omega)),SqL.of (s4 _ _ b1),by rw[az,am (by omega)];rfl⟩
  ·rintro σ H' ⟨_,s4,_⟩;exact⟨_,SqL.of (s4 _ _ b1),by rw[ai,lb];exact aw _⟩
  ·rintro i v σ H4 H5 hi ⟨⟨r3,r5,rfl⟩,s4,D4⟩ ⟨T',xv,rfl,nT,rfl,hxv⟩;have hxv':=hxv _ (SqL.of (s4 _ _ b1));rw[az] at hxv';cases eb:bs[i]? with
   |none=>rw[eb] at hxv';cases hxv'
   |some b=>
    rw[eb] at hxv';cases hxv';obtain⟨l,hl2,tl⟩:=BL b2 eb;have Ad:i<rs.length:=hi;have eg:rs.getD i []=l:=by rw[bp,hl2];rfl
    have s5:Same H4 (upd H4 T' (.tup [.int (i:Nat),.ref b])):=Same.upd nT;have hn:=ND ndr Ad;rw[eg] at hn;refine⟨T',_,rfl,SqT.of upd_same,rfl,_,_,rfl,_,_,rfl,rfl,?_⟩;refine⟨V.int (i:Nat),rfl,V.ref d2,rfl,V.ref b,rfl,d2,b,_,l,rfl,rfl,D4.same s5,s5.tup (s4.tup tl),hn,(by unfold rkV;rw[ai,lq,bz];omega),λH6 sb6 D6=>⟨⟨_,_,rfl⟩,?_,by rw[RT,eg];exact D6⟩⟩;exact λc o e=>sb6 c o (s5 _ _ (s4 _ _ e)) (AG e nd2)
  ·rintro σ H4 ⟨⟨r3,r5,rfl⟩,s4,D4⟩;exact⟨V.ref d2,rfl,k H4 d2 (S.same.trans s4) D4⟩
end
open PySem PySem.Spec PyProof.Rows L2
structure NoteP (fr co ba:List (List Int)) (ps:List Ln):Prop where
 fit:∀q∈ps,∀s∈q.2,plc fr co ba s=true
 one:∀q∈ps,∀s∈q.2,1<=s.course
 sm:∀q∈ps,∀s∈q.2,Sm (BP fr co ba s)
 few:∀q∈ps,q.2.length<=14
 len:ps.length<=512
theorem aS {a b:Stop} (h:sL a=sL b):a=b:=by
 unfold sL at h;obtain⟨c,f⟩:=a;obtain⟨c',f'⟩:=b;simp at h;have h1:c=c':=by have:=h.1;omega
 have h2:f=f':=by have:=h.2;omega
 rw[h1,h2]
structure SoA (P:bb) (w:bw) (K:aa) (g:Stop->List Int) (H:Hp) (d:ag) (ds:List Stop):Prop where
 ex:∃Ab,Dx P w K H d Ab/\cf (λ(kv:List Int×V) (s:Stop)=>kv.1=sL s/\∃b,kv.2= .ref b/\SqT K H b ((g s).map V.int)) Ab ds
theorem VY {K:aa} {g:Stop->List Int}:∀{Ab:List (List Int×V)} {ds:List Stop},cf (λ(kv:List Int×V) (s:Stop)=>kv.1=sL s/\∃b,kv.2= .ref b/\SqT K H b ((g s).map V.int)) Ab ds->∀s,¬s∈ds->EQ Ab (sL s)=none
 |_,_,.nil,s,_=>rfl
 |_,_,.cons r t,s,h=>by
  rw[EE (λe=>h (by rw[aS (r.1.symm.trans e)];exact bc))];exact VY t s λq=>h (aq _ q)
theorem QA {K:aa} {g:Stop->List Int}:∀{Ab:List (List Int×V)} {ds:List Stop},cf (λ(kv:List Int×V) (s:Stop)=>kv.1=sL s/\∃b,kv.2= .ref b/\SqT K H b ((g s).map V.int)) Ab ds->∀s,s∈ds->∃b,EQ Ab (sL s)=some (.ref b)/\SqT K H b ((g s).map V.int)
 |_,_,.nil,s,h=>absurd h (by simp)
 |_,_,.cons (a:=kv) (b:=s0) r t,s,h=>by
  by_cases e:s=s0
  ·obtain⟨b,h1,h2⟩:=r.2;refine⟨b,?_,by rw[e];exact h2⟩;rw[F3 (by rw[r.1,e]),h1]
  ·rw[EE (λz=>e (aS (r.1.symm.trans z)).symm)];exact QA t s ((bg.mp h).resolve_left e)
theorem SoA.same {K:aa} {g:Stop->List Int} {d:ag} {ds:List Stop} (h:SoA P w K g H d ds) (e:Same H H'):SoA P w K g H' d ds:=
 let ⟨Ab,a,b⟩:=h.ex;⟨Ab,Dx.same a e,AU b λ_ _ ⟨q1,c,q2,q3⟩=>⟨q1,c,q2,e.tup q3⟩⟩
def pQ (P:bb) (w:bw) (K:aa) (CI CL:ag):Sp:=λvs H Q _=>Ex9 λ(ia af ac ab al:ag) (fr co ba:List (List Int)) (ps:List Ln)=>vs=[.ref ia,.ref al]/\InA K CI H ia af ac ab fr co ba/\LnsA K CL H al ps/\NoteP fr co ba ps/\
 ∀H' d ds,Same H H'->SoA P w K (BP fr co ba) H' d ds->(∀s,s∈ds↔∃q∈ps,s∈q.2)->ds.length<=7168->Q (.ref d) H'
section
variable {P:bb} {w:bw} {K:aa} {mg:Str->Option ah} {base:cq} {CI CL CN:ag}
theorem jY (af ac ab:ag):(ifs af ac ab).lookup ("sound":Str)=none:=S0 _ _ _ (by decide +kernel) (by decide +kernel) (by decide +kernel)
theorem VZ:FnScope ["instrument","lines","sounds","line","stop"] ["instrument","lines"] (AH G3):={}
theorem pR (F:Fun K "sounds_of" "sounds_of" G3 f fd) (T:InC K CI) (TL:LnC K CL) (MS:Mth P w K mg base 4 CI "sound" ["self","course","fret"] (fB K CI)):FnOk P w K mg base (CX1 P w) 5 f fd ["instrument","lines"] (pQ P w K CI CL):=by
 refine F.okx VZ λAc A outer s H vs Q E hr h=>?_;obtain⟨ia,af,ac,ab,al,fr,co,ba,ps,rfl,I,L,N,k⟩:=h;refine⟨_,(AB (AX 2 VZ P9)
  (AB (CD bq rfl (DI (pv 1)) (DW 3 VZ)
  (AC (CD bq rfl (DI (AV (pv 3) rfl)) (DW 4 VZ)
   (AC (AZ (XL (OT (MD hr) (pv 4) (pv 2)))
    (AC (P8 (MD hr) (pv 2) (pv 4) (MS.call (pv 0) hr AD (AA (BO DO (pv 4) AI (λ_ _=>rfl)) (AA (BO DO (pv 4) AI (λ_ _=>rfl)) AF))) rfl)) AM)))))
  (AC (AL (pv 2))))),?_⟩
 and_intros
 obtain⟨as,a1,a2⟩:=id L;have la:as.length=ps.length:=cj a2;intro d H1 nd sb1 D1';have s1:Same H H1:=λb o e=>sb1 b o e (AG e nd);refine⟨V.ref al,rfl,al,rfl,⟨_,SqL.of (s1 _ _ a1)⟩,DJ (K:=K) (a:=al) (xs:=as.map V.ref) (λi σ H'=>Ex3 λ(ds:List Stop) (r3 r4:Option V)=>σ=[some (.ref ia),some (.ref al),some (.ref d),r3,r4]/\Same H H'/\SoA P w K (BP fr co ba) H' d ds/\(∀s,s∈ds↔∃q∈ps.take i,s∈q.2)/\ds.length<=14*i)
  ⟨[],none,none,rfl,s1,⟨[],D1',.nil⟩,λs=>by simp,by simp⟩ ?_ ?_ ?_⟩
 ·rintro i σ H' _ ⟨ds,r3,r4,_,s2,_⟩;exact SqL.of (s2 _ _ a1)
 ·rintro i y σ H2 hi ⟨ds,r3,r4,rfl,s2,S2,mem,hl⟩
  subst_eqs
  rw[az] at hi;cases ea:as[i]? with
  |none=>rw[ea] at hi;cases hi
  |some x=>
   rw[ea] at hi;cases hi;obtain⟨p,hp,dl,sa,_,hx,Ls⟩:=BL a2 ea;obtain⟨n,st⟩:=p;have hq:(n,st)∈ps:=bo hp;have hx2:=s2 _ _ hx;have Ls2:=LT.same Ls s2;obtain⟨bs,b1,b2⟩:=id Ls2;have lb:bs.length=st.length:=by rw[cj b2,ai]
   refine⟨V.ref x,rfl,x,CL,dl,_,_,rfl,hx2,TL.cl,TL.ns,ZO _ _,sa,rfl,⟨_,SqL.of b1⟩,DJ (K:=K) (a:=sa) (xs:=bs.map V.ref) (λj σ H'=>Ex2 λ(es:List Stop) (r4:Option V)=>σ=[some (.ref ia),some (.ref al),some (.ref d),some (.ref x),r4]/\(∀b o,H2 b=some o->b≠d->H' b=some o)/\SoA P w K (BP fr co ba) H' d es/\(∀s,s∈es↔s∈ds\/s∈st.take j)/\es.length<=ds.length+j)
    ⟨ds,r4,rfl,λb o e _=>e,S2,λs=>by simp,by omega⟩ ?_ ?_ ?_⟩
   ·rintro j σ H' _ ⟨es,r4,_,s3,_⟩;obtain⟨Ab,⟨zs,dz,_⟩,_⟩:=S2.ex;exact SqL.of (s3 _ _ b1 (B2 b1 dz (by intro z;cases z)))
   ·rintro j y σ H3 hj ⟨es,r4,rfl,s3,S3,mem3,hl3⟩
    subst_eqs
    rw[az] at hj;cases eb:bs[j]? with
    |none=>rw[eb] at hj;cases hj
    |some b=>
     rw[eb] at hj;cases hj;obtain⟨q,hq2,hb⟩:=BL b2 eb;rw[az] at hq2;cases es':st[j]? with
     |none=>rw[es'] at hq2;cases hq2
     |some s0=>
      rw[es'] at hq2;cases hq2;have hs0:s0∈st:=bo es';have hj':j<st.length:=(au.mp es').1;have few:st.length<=14:=N.few _ hq;have hi512:i<512:=by have:=(au.mp hp).1;have:=N.len;omega
      obtain⟨kvs2,⟨zs,dz,_⟩,_⟩:=S2.ex;have s03:Same H H3:=λc o e=>s3 c o (s2 _ _ e) (AG e nd);have nt:∀{c:ag} {l:List V},SqT K H2 c l->SqT K H3 c l:=λq=>Sb.tup2 (r:=d) s3 (λ_ z=>by rw[dz] at z;cases z) (λ_ _ z=>by rw[dz] at z;cases z) q;have hb3:=nt hb;obtain⟨Ab,DX,PX⟩:=S3.ex;have tk1:∀s,(s∈es\/s=s0)↔s∈ds\/s∈st.take (j+1):=λs=>by
       rw[eq,es',mem3 s,cn];simp[or_assoc]
      refine⟨V.ref b,rfl,V.ref d,rfl,d,b,Ab,sL s0,rfl,rfl,DX,hb3,_,rfl,?_⟩;by_cases hm:s0∈es
      ·obtain⟨c,hv,_⟩:=QA PX s0 hm;rw[hv];refine BM ⟨es,_,rfl,s3,S3,λs=>?_,by omega⟩;rw[←tk1 s];exact⟨.inl,λh=>h.elim id λe=>e▸hm⟩
      ·have hv:=VY PX s0 hm;rw[hv];have I3:=I.kp (Same.kp s03);obtain⟨dx,i3⟩:=I3.at_;refine BV ⟨V.ref ia,rfl,ia,dx,_,rfl,i3,jY _ _ _,V.ref b,rfl,b,_,0,V.int (s0.course:Nat),rfl,rfl,hb3,rfl,V.ref b,rfl,b,_,1,V.int (s0.fret:Nat),rfl,rfl,hb3,rfl,ia,af,ac,ab,fr,co,ba,s0,rfl,I3,N.fit _ hq _ hs0,N.one _ hq _ hs0,λH4 c s4 tc=>?_⟩;refine⟨V.ref d,rfl,V.ref b,rfl,d,b,Ab,sL s0,rfl,rfl,DX.same s4,s4.tup hb3,hv,(by rw[cj PX,bz];omega),λH5 sb5 D5=>?_⟩;obtain⟨zs4,dz4,_⟩:=Dx.same DX s4;have t5:∀{c:ag} {l:List V},SqT K H4 c l->SqT K H5 c l:=λq=>Sb.tup2 sb5 (λ_ z=>by rw[dz4] at z;cases z) (λ_ _ z=>by rw[dz4] at z;cases z) q;refine⟨es++[s0],_,rfl,λc o e n=>sb5 c o (s4 _ _ (s3 _ _ e n)) n,⟨_,D5,?_⟩,λs=>?_,by rw[br];simp;omega⟩
       ·exact cf.app (AU PX λ_ _ ⟨q1,c,q2,q3⟩=>⟨q1,c,q2,t5 (s4.tup q3)⟩) (.cons ⟨rfl,c,rfl,t5 tc⟩ .nil)
       ·rw[←tk1 s,cn];simp
   ·rintro σ H3 ⟨es,r4,rfl,s3,S3,mem3,hl3⟩;rw[ai,lb,fv] at mem3;rw[ai,lb] at hl3;have few:=N.few _ hq;refine⟨es,_,_,rfl,λc o e=>s3 c o (s2 _ _ e) (AG e nd),S3,λs=>?_,by have:st.length<=14:=few;omega⟩;rw[mem3 s,eq,hp,mem s];constructor
    ·rintro (⟨q,h1,h2⟩|h)
     ·exact⟨q,cn.mpr (.inl h1),h2⟩
     ·exact⟨(n,st),by simp,h⟩
    ·rintro ⟨q,h1,h2⟩;rcases cn.mp h1 with h1|h1
     ·exact .inl ⟨q,h1,h2⟩
     ·have:q=(n,st):=by simpa using h1
      rw[this] at h2;exact .inr h2
 ·rintro σ H2 ⟨ds,r3,r4,rfl,s2,S2,mem,hl⟩;rw[ai,la,fv] at mem;rw[ai,la] at hl;exact⟨V.ref d,rfl,k H2 d ds s2 S2 mem (by have:=N.len;omega)⟩
end
end Lt
end
section
namespace L2
open PySem PySem.Spec PyProof.Rows
structure FunC (K:aa) (x qual:Str) (st:dh) (f:ag) (fd:dw) (c:ag):Prop where
 ex:∃(oc:ah) (od:Option ag) (kV doc pm:ah) (an:Option ag) (ct:ah) (osl:Array (Option ah)),
  fd=ie x qual (C7 st) (BS st) (AH st) .none kV doc pm an (.ref c) ct/\K.lookup f=some ⟨oc,od,.func fd,osl⟩/\iz K (.ref c) qual=true
 kp:du K (.ref f)=true
theorem FunC.toFun {K:aa} {x qual:Str} {st:dh} {f:ag} {fd:dw} {c:ag} (F:FunC K x qual st f fd c):Fun K x qual st f fd:=let ⟨⟨oc,od,kV,doc,pm,an,ct,osl,h⟩,k⟩:=F;⟨⟨oc,od,kV,doc,pm,an,.ref c,ct,osl,h⟩,k⟩
theorem FunC.okx {P:bb} {w:bw} {K:aa} {mg:Str->Option ah} {base:cq} {x qual:Str} {st:dh} {f:ag} {fd:dw} {c:ag} {N ps:List Str} {k:Nat} {sp:Sp} (F:FunC K x qual st f fd c) (S:FnScope N ps (AH st))
 (hbody:∀(A:cz) (outer:List Env) (s:aj) (H:Hp) (vs:List V) (Q:VK) (E:XK),Room k (A.deeper (tj qual (AH st) s.heap.objs.size f (.ref c)))->sp vs H Q E->
  ∃t,PSs (NL (CX1 P w) P w K mg base N qual (AH st) f (.ref c) A outer s H E) (BS st) t/\t { nx:=λ_ H'=>Q .non H',rt:=Q } (FB N vs) H) (len:∀vs H Q E,sp vs H Q E->vs.length=ps.length:=by intro _ _ _ _ h;cases h;rename_i h;exact congrArg ou h.1):FnOk P w K mg base (CX1 P w) (k+1) f fd ps sp:=by
 obtain⟨oc,od,kV,doc,pm,an,ct,osl,rfl,lk,hcd⟩:=F.ex;exact dW lk hcd S len λA outer s H vs Q E hr hsp=>hbody A outer s H vs Q E hr hsp
def Stt (H H':Hp):Prop:=∀b o,H b=some o->(∀t,o≠.tbl t)->H' b=some o
theorem Same.st {H H':Hp} (e:Same H H'):Stt H H':=λb o h _=>e b o h
theorem Stt.trans {H H1 H2:Hp} (a:Stt H H1) (b:Stt H1 H2):Stt H H2:=λc o h n=>b c o (a c o h n) n
theorem Stt.sb {H H':Hp} {r:ag} {t:Array ah} (s:Sb r H H') (h:H r=some (.tbl t)):Stt H H':=λb o e n=>s b o e λz=>n t (by rw[z,h] at e;exact(cu e).symm)
theorem Stt.tup {K:aa} {H H':Hp} {a:ag} {xs:List V} (s:Stt H H') (h:SqT K H a xs):SqT K H' a xs:=by
 rcases h with(h|⟨o,h⟩)|h
 ·exact .inl (.inl (s _ _ h (by intro t z;cases z)))
 ·exact .inl (.inr ⟨o,s _ _ h (by intro t z;cases z)⟩)
 ·exact .inr h
end L2
namespace Lt
open PySem PySem.Spec PyProof.Rows L2
variable {f a C CR CT r ta CI CL CN:ag} {fd:dw} {X:Cx} {x:List Int} {i n e p q:Nat} {pos:Pos} {z dz fz:Str} {xs:List V} {H H' H1:Hp} {E:XK} {cs t ci ct:List UInt8} {α β:Type} {Q:VK} {ls:List (List Int)} {P:bb} {w:bw} {h:cq} {ps:List Str} {hg:List Int->Nat}
def NoteA (K:aa) (CN:ag) (g:Stop->List Int) (hg:List Int->Nat) (H:Hp) (x:ag) (s:Sk):Prop:=
 Ex2 λdx ia=>H x=some (.ins CN dx (ntf (s.begins:Nat) (s.line:Nat) (s.halt_.course:Nat) (s.halt_.fret:Nat) ia ((hg (g s.halt_):Nat):Int)))/\SqT K H ia ((g s.halt_).map V.int)
def NotesA (K:aa) (CN:ag) (g:Stop->List Int) (hg:List Int->Nat) (H:Hp) (a:ag) (zs:List Sk):Prop:=∃as:List ag,H a=some (.lst (as.map V.ref))/\cf (NoteA K CN g hg H) as zs
theorem NoteA.st {K:aa} {g:Stop->List Int} {x:ag} {s:Sk} (h:NoteA K CN g hg H x s) (e:Stt H H'):NoteA K CN g hg H' x s:=let ⟨dx,ia,h1,h2⟩:=h;⟨dx,ia,e _ _ h1 (by intro t z;cases z),e.tup h2⟩
theorem NotesA.st {K:aa} {g:Stop->List Int} {zs:List Sk} (h:NotesA K CN g hg H a zs) (e:Stt H H'):NotesA K CN g hg H' a zs:=let ⟨as,h1,h2⟩:=h;⟨as,e _ _ h1 (by intro t z;cases z),AU h2 λ_ _ q=>q.st e⟩
def JK (g:Stop->List Int) (hg:List Int->Nat) (s:Sk):List Int:=[((s.begins:Nat):Int),((hg (g s.halt_):Nat):Int),((s.halt_.course:Nat):Int)]
def hgt (g:Stop->List Int) (ds:List Stop):List Int->Nat:=λiv=>(rise (ds.map g)).idxOf iv
def pS:dh->Expr
 | .Return (some (.Call _ _ [⟨_,e,_⟩] _)) _=>e
 |_=>.Constant .none 0 ⟨0,0,0,0⟩
def jZ:Expr->Pos
 | .Lambda _ _ _ p=>p
 |_=>⟨0,0,0,0⟩
def V0:Expr:=pS ((BS BJ).getLastD (.Pass ⟨0,0,0,0⟩))
def j0:Expr->ji
 | .Lambda _ _ s _=>s
 |_=>AH (.Pass ⟨0,0,0,0⟩)
def LmT (H:Hp) (PT:ag):Prop:=LamTbl H PT (jZ V0) ("notes_in_order.<locals>."++"<lambda>")
def j3 (P:bb) (w:bw) (K:aa) (CI CL CN PT:ag):Sp:=λvs H Q _=>Ex9 λ(ia af ac ab al:ag) (fr co ba:List (List Int)) (ps:List Ln)=>vs=[.ref ia,.ref al]/\InA K CI H ia af ac ab fr co ba/\LnsA K CL H al ps/\NoteP fr co ba ps/\LmT H PT/\
 ∀H' a zs ds,Stt H H'->LmT H' PT->(∀s,s∈ds↔∃q∈ps,s∈q.2)->zs.Perm (EA 0 0 ps)->zs.Pairwise (λa b=>HT.lexLt (JK (BP fr co ba) (hgt (BP fr co ba) ds) b) (JK (BP fr co ba) (hgt (BP fr co ba) ds) a)=false)->NotesA K CN (BP fr co ba) (hgt (BP fr co ba) ds) H' a zs->Q (.ref a) H'
theorem T7:jo "list"=some (.type "list"):=by decide +kernel
theorem j4:LamScope "note" [] (j0 V0):=⟨rfl,rfl,rfl,by decide,rfl,by decide +kernel,λy hy=>nomatch hy⟩
theorem j5:LamFr X (j0 V0) [] []:=⟨by decide +kernel,λy hy e=>absurd e ((show∀y∈(j0 V0).names,y.2≠.free by decide +kernel) y hy),rfl,λj y h=>by simp at h⟩
theorem pT (b l c f:Int) (ia:ag) (h:Int):(ntf b l c f ia h).lookup ("begin":Str)=some (.int b):=rfl
theorem pU (b l c f:Int) (ia:ag) (h:Int):(ntf b l c f ia h).lookup ("course":Str)=some (.int c):=rfl
theorem fD (b l c f:Int) (ia:ag) (h:Int):(ntf b l c f ia h).lookup ("height":Str)=some (.int h):=rfl
theorem NE:∀(ps:List Ln) (i x:Nat),(∀q∈ps,q.2.length<=14)->(EA i x ps).length<=14*ps.length
 |[],_,_,_=>aw _
 |(n,l)::r,i,x,h=>by
  have h1:l.length<=14:=h (n,l) bc;have h2:=NE r (i+1) (x+n) λq hq=>h q (aq _ hq);rw[EA,br,ai,fm];omega
theorem V1 {K:aa} {g:Stop->List Int}:∀{Ab:List (List Int×V)} {ds:List Stop},cf (λ(kv:List Int×V) (s:Stop)=>kv.1=sL s/\∃b,kv.2= .ref b/\SqT K H b ((g s).map V.int)) Ab ds->∃as:List ag,Ab.map (·.2)=as.map V.ref/\cf (λb l=>SqT K H b (l.map V.int)) as (ds.map g)
 |_,_,.nil=>⟨[],rfl,.nil⟩
 |_,_,.cons r t=>by
  obtain⟨b,h1,h2⟩:=r.2;obtain⟨as,e,p⟩:=V1 t;exact⟨b::as,by rw[fi,fi,e,h1],.cons h2 p⟩
theorem NoteA.lst {K:aa} {g:Stop->List Int} {x:ag} {s:Sk} {o:HO} (h:NoteA K CN g hg H x s) (hr:H r=some (.lst xs)):NoteA K CN g hg (upd H r o) x s:=by
 obtain⟨dx,ia,h1,h2⟩:=h;exact⟨dx,ia,by rw[AE (B2 h1 hr (by intro z;cases z))];exact h1,Sb.tup2 (r:=r) (λc o e n=>by rw[AE n];exact e) (λ_ z=>by rw[hr] at z;cases z) (λ_ _ z=>by rw[hr] at z;cases z) h2⟩
def KN (K:aa) (CN:ag) (g:Stop->List Int) (hg:List Int->Nat) (H:Hp) (s:Sk) (z:List Int×V):Prop:=z.1=JK g hg s/\∃x,z.2= .ref x/\NoteA K CN g hg H x s
theorem aU {K:aa} {g:Stop->List Int}:∀{as:List ag} {zs:List Sk},cf (NoteA K CN g hg H) as zs->cf (KN K CN g hg H) zs ((zs.map (JK g hg)).zip (as.map V.ref))
 |_,_,.nil=>.nil
 |_,_,.cons r t=>.cons ⟨rfl,_,rfl,r⟩ (aU t)
theorem V2 {K:aa} {g:Stop->List Int}:∀{zs:List Sk} {zs':List (List Int×V)},cf (KN K CN g hg H) zs zs'->∃as:List ag,zs'.map (·.2)=as.map V.ref/\cf (NoteA K CN g hg H) as zs
 |_,_,.nil=>⟨[],rfl,.nil⟩
 |_,_,.cons r t=>by
  obtain⟨x,h1,h2⟩:=r.2;obtain⟨as,e,p⟩:=V2 t;exact⟨x::as,by rw[fi,fi,e,h1],.cons h2 p⟩
theorem aV {K:aa} {g:Stop->List Int}:∀{zs:List Sk} {zs':List (List Int×V)},cf (KN K CN g hg H) zs zs'->∀s∈zs,∃z∈zs',z.1=JK g hg s
 |_,_,.nil,s,h=>absurd h (by simp)
 |_,_,.cons r t,s,h=>by
  rcases bg.mp h with rfl|h
  ·exact⟨_,bc,r.1⟩
  ·obtain⟨z,h1,h2⟩:=aV t s h;exact⟨z,aq _ h1,h2⟩
theorem fE {K:aa} {g:Stop->List Int} {f:List Int->List Int->Bool}:∀{zs:List Sk} {zs':List (List Int×V)},cf (KN K CN g hg H) zs zs'->zs'.Pairwise (λa b=>f b.1 a.1=false)->zs.Pairwise λa b=>f (JK g hg b) (JK g hg a)=false
 |_,_,.nil,_=>oq
 |_,_,.cons r t,h=>by
  obtain⟨h1,h2⟩:=gg.mp h;refine gg.mpr ⟨λb hb=>?_,fE t h2⟩;obtain⟨z,hz,e⟩:=aV t b hb;have:=h1 z hz;rw[r.1,e] at this;exact this
section
variable {P:bb} {w:bw} {K:aa} {mg:Str->Option ah} {base:cq} {CI CL CN c PT:ag}
theorem JL:FnScope ["instrument","lines","units","sounds","heights","notes","number","line","stop","interval"] ["instrument","lines"] (AH BJ):={}
theorem pV (F:FunC K "notes_in_order" "notes_in_order" BJ f fd c) (B:Blt mg) (hso:mg "sorted"=none) (BB:NC mg base) (CH:tJ base c PT) (TL:LnC K CL) (TN:NtC K CN)
 (D1:Def P w K mg base 1 "beginnings" ["lines"] (fC K CL)) (D2:Def P w K mg base 5 "sounds_of" ["instrument","lines"] (pQ P w K CI CL)) (D3:Def P w K mg base 4 "ranks" ["intervals"] (pO P w K)) (MN:Mkr P w K mg base 1 CN "Note" ["self","begin","line","stop","interval","height"] (jP K CN)):
 FnOk P w K mg base (CX1 P w) 6 f fd ["instrument","lines"] (j3 P w K CI CL CN PT):=by
 refine F.okx JL λA outer s H vs Q E hr h=>?_;obtain⟨ia,af,ac,ab,al,fr,co,ba,ps,rfl,I,L,N,LM,k⟩:=h;refine⟨_,(AB (AX 2 JL (D1.call hr AD (AA (pv 1) AF)))
  (AB (AX 3 JL (D2.call hr AD (AA (pv 0) (AA (pv 1) AF))))
  (AB (AX 4 JL (D3.call hr AD (AA (JS (T6 rfl) (by rfl) B.list T7 (AA (aO (pv 3)) AF)) AF)))
  (AB (AX 5 JL (DM AF))
  (AB (CD bq rfl (O5 (by rfl) B.enum (AA (pv 1) AF)) (JN rfl (CA (DW 6 JL) (CA (DW 7 JL) HF)))
  (AC (CD bq rfl (DI (AV (pv 7) rfl)) (DW 8 JL)
   (AB (AX 9 JL (VX (MD hr) (pv 3) (pv 8) (λ_ _=>rfl)))
  (AC (AY (GJ de fj fk CV (pv 5) (AA (MN.call hr AD (AA (BO DN (pv 2) (pv 6) (λ_ _=>rfl)) (AA (pv 6) (AA (pv 8) (AA (pv 9) (AA (VX (MD hr) (pv 4) (pv 9) (λ_ _=>rfl)) AF)))))) AF))))))))
  (AC (AL (P6 (t:=fX (CC (OZ K (BT 0) "begin") (CC (OZ K (BT 0) "height") (CC (OZ K (BT 0) "course") EV)))) hso (by rfl) (hr.mono (by decide)) (pv 5) BB CH rfl j5 j4 (λ_ _ _ _ _=>rfl)
  (λ_ _ _ _ _ _ _=>EW (AA (LP K (pv 0)) (AA (LP K (pv 0)) (AA (LP K (pv 0)) AF)))))))))))),?_⟩
 and_intros
 obtain⟨as,a1,a2⟩:=id L;have la:as.length=ps.length:=cj a2;generalize hgg:BP fr co ba=g at k;have Nsm:=N.sm;rw[hgg] at Nsm;refine⟨V.ref al,rfl,al,ps,rfl,L,N.len,λH1 ua s1 nu hu=>?_⟩;refine⟨V.ref ia,rfl,V.ref al,rfl,ia,af,ac,ab,al,fr,co,ba,ps,rfl,I.kp (Same.kp s1),L.same s1,N,λH2 d ds s2 S2 hds hdl=>?_⟩;rw[hgg] at S2;obtain⟨Ab,DX,PX⟩:=S2.ex;obtain⟨bs,eb,pb⟩:=V1 PX;refine⟨V.ref d,rfl,d,Ab,rfl,DX,λv nv=>?_⟩;have sv:Same H2 (upd H2 v (OU v d)):=Same.upd nv;refine⟨v,d,Ab,rfl,upd_same,DX.same sv,λl nl=>?_⟩;have sl:Same H2 (upd (upd H2 v (OU v d)) l (.lst (Ab.map (·.2)))):=sv.trans (Same.upd nl);refine⟨l,ds.map g,rfl,⟨bs,by rw[upd_same,eb],AU pb λ_ _ q=>sl.tup q⟩,λx hx=>?_,by rw[ai];omega,λH3 hd s3 D3=>?_⟩
 ·obtain⟨s0,h1,rfl⟩:=kf.mp hx;obtain⟨q,h2,h3⟩:=(hds s0).mp h1;exact Nsm q h2 s0 h3
 have s23:Same H2 H3:=sl.trans s3;have s03:Same H H3:=(s1.trans s2).trans s23;have ndR:(rise (ds.map g)).Nodup:=OM vC;refine⟨by rw[bz];show 0<=16777216;decide,λna nn=>?_⟩;have tot:∀i,(EA 0 0 (ps.take i)).length<=7168:=λi=>by
  have h1:=NE (ps.take i) 0 0 λq hq=>N.few q (md hq);have h2:(ps.take i).length<=512:=by rw[dy];have:=N.len;omega
  omega
 refine⟨V.ref al,rfl,al,_,rfl,SqL.of (by rw[AE (AG (s03 _ _ a1) nn)];exact s03 _ _ a1),GA (n:=ps.length) (λi σ H'=>(Ex4 λr6 r7 r8 r9=>σ=[some (.ref ia),some (.ref al),some (.ref ua),some (.ref d),some (.ref hd),some (.ref na),r6,r7,r8,r9])/\Same H3 H'/\NotesA K CN g (hgt g ds) H' na (EA 0 0 (ps.take i)))
  ⟨⟨_,_,_,_,rfl⟩,Same.upd nn,[],upd_same,.nil⟩ ?_ ?_ ?_ ?_⟩
 ·rintro i σ H' hi ⟨_,s4,_⟩;exact⟨_,.ref (as[i]'(by omega)),SqL.of (s4 _ _ (s03 _ _ a1)),by rw[az,am (by omega)];rfl⟩
 ·rintro σ H' ⟨_,s4,_⟩;exact⟨_,SqL.of (s4 _ _ (s03 _ _ a1)),by rw[ai,la];exact aw _⟩
 ·rintro i v' σ H5 H6 hi ⟨⟨r6,r7,r8,r9,rfl⟩,s5,A5⟩ ⟨T',xv,rfl,nT,rfl,hxv⟩;have hxv':=hxv _ (SqL.of (s5 _ _ (s03 _ _ a1)));rw[az] at hxv';cases ea:as[i]? with
  |none=>rw[ea] at hxv';cases hxv'
  |some x=>
   rw[ea] at hxv';cases hxv';obtain⟨p,hp,dl,sa,_,hx,Ls⟩:=BL a2 ea;obtain⟨n,st⟩:=p;have hq:(n,st)∈ps:=bo hp;have Ad:i<ps.length:=hi;have s6:Same H5 (upd H5 T' (.tup [.int (i:Nat),.ref x])):=Same.upd nT;have s36:Same H3 (upd H5 T' (.tup [.int (i:Nat),.ref x])):=s5.trans s6;have s06:=s03.trans s36;obtain⟨ds2,b1,b2⟩:=id (LT.same Ls s06);have lb:ds2.length=st.length:=by rw[cj b2,ai]
   have few:st.length<=14:=N.few _ hq;refine⟨T',_,rfl,SqT.of upd_same,rfl,_,_,rfl,_,_,rfl,rfl,?_⟩;have nsa:sa≠na:=by
    have:=LT.same Ls s03;obtain⟨cs,c1,_⟩:=this;exact AG c1 nn
   refine⟨V.ref x,rfl,x,CL,dl,_,_,rfl,s06 _ _ hx,TL.cl,TL.ns,ZO _ _,sa,rfl,⟨_,SqL.of b1⟩,DJ (K:=K) (a:=sa) (xs:=ds2.map V.ref) (λj σ H'=>(Ex2 λr8 r9=>σ=[some (.ref ia),some (.ref al),some (.ref ua),some (.ref d),some (.ref hd),some (.ref na),some (.int (i:Nat)),some (.ref x),r8,r9])/\(∀b o,(upd H5 T' (.tup [.int (i:Nat),.ref x])) b=some o->b≠na->H' b=some o)/\NotesA K CN g (hgt g ds) H' na (EA 0 0 (ps.take i)++(st.take j).map λ(s:Stop)=>(⟨i,uL ps i,uL ps i+n,s⟩:Sk)))
    ⟨⟨_,_,rfl⟩,λb o e _=>e,by simpa using A5.st s6.st⟩ ?_ ?_ ?_⟩
   ·rintro j σ H' _ ⟨_,s7,_⟩;exact SqL.of (s7 _ _ b1 nsa)
   ·rintro j y σ H7 hj ⟨⟨r8,r9,rfl⟩,s7,A7⟩
    and_intros
    rw[az] at hj;cases ej:ds2[j]? with
    |none=>rw[ej] at hj;cases hj
    |some b=>
     rw[ej] at hj;cases hj;obtain⟨q,hq2,hb⟩:=BL b2 ej;rw[az] at hq2;cases es':st[j]? with
     |none=>rw[es'] at hq2;cases hq2
     |some s0=>
      rw[es'] at hq2;cases hq2;have hs0:s0∈st:=bo es';have s37:Same H3 H7:=λc o e=>s7 c o (s36 _ _ e) (AG e nn);have s27:=s23.trans s37;obtain⟨xs7,c1,c2⟩:=id A7;have hb0:SqT K H7 b ((sL s0).map V.int):=by
       rcases hb with(q|⟨o,q⟩)|q
       ·refine .inl (.inl (s7 _ _ q λz=>?_));obtain⟨w5,w1,_⟩:=id A5;have w2:=s6 _ _ w1;rw[z,w2] at q;cases q
       ·refine .inl (.inr ⟨o,s7 _ _ q λz=>?_⟩);obtain⟨w5,w1,_⟩:=id A5;have w2:=s6 _ _ w1;rw[z,w2] at q;cases q
       ·exact .inr q
      obtain⟨c0,hv,hc0⟩:=QA PX s0 ((hds s0).mpr ⟨_,hq,hs0⟩);refine⟨V.ref d,rfl,V.ref b,rfl,d,b,Ab,sL s0,_,rfl,rfl,DX.same s27,hb0,hv,?_⟩;have hin:g s0∈rise (ds.map g):=rise_mem.mpr (mq ((hds s0).mpr ⟨_,hq,hs0⟩));have hrk:=aR ndR (n:=(rise (ds.map g)).length) (aw _) (ot hin);refine⟨V.ref na,rfl,.inl ⟨rfl,_,SqL.of c1⟩,V.ref ua,rfl,V.int (i:Nat),rfl,ua,_,_,_,rfl,rfl,SqL.of (((s2.trans s23).trans s37) _ _ hu),EO (v:=V.int ((uL ps i:Nat):Int)) (by rw[az,vM (by omega)];rfl),V.int (i:Nat),rfl,V.ref b,rfl,V.ref c0,rfl,V.ref hd,rfl,V.ref c0,rfl,hd,c0,_,g s0,_,rfl,rfl,D3.same s37,s27.tup hc0,hrk,λxN dN nx nd hne=>?_⟩;have k7:∀b' o',H7 b'=some o'->(upd (upd H7 dN (.own xN)) xN (.ins CN dN [])) b'=some o':=λb' o' e=>by rw[AE (AG e nx),AE (AG e nd)];exact e
      refine⟨xN,dN,b,c0,_,_,_,s0,rfl,upd_same,Same.tup k7 hb0,λH8 h8 s8=>⟨rfl,?_⟩⟩;have s78:Same H7 H8:=BU nx nd s8 Sb.refl;have c18:=s78 _ _ c1;have lx:xs7.length=(EA 0 0 (ps.take i)).length+j:=by
       rw[cj c2,br,ai,dy];have:=(au.mp es').1;omega
      have:=tot i;have hj':=(au.mp es').1;refine⟨na,_,_,rfl,rfl,c18,(by rw[ai,lx,bz];omega),⟨_,_,rfl⟩,λb' o' e n'=>by rw[AE n'];exact s78 _ _ (s7 _ _ e n'),xs7++[xN],by rw[upd_same,ff];rfl,?_⟩;rw[eq,es',Option.toList_some,ff, ←tV];exact cf.app (AU c2 λ_ _ q=>(q.st s78.st).lst c18) (.cons (NoteA.lst ⟨dN,c0,h8,s78.tup (s27.tup hc0)⟩ c18) .nil)
   ·rintro σ H7 ⟨⟨r8,r9,rfl⟩,s7,A7⟩;rw[ai,lb,fv] at A7;refine⟨⟨_,_,_,_,rfl⟩,λc o e=>s7 c o (s36 _ _ e) (AG e nn),?_⟩;rw[W2 hp];exact A7
 ·rintro σ H5 ⟨⟨r6,r7,r8,r9,rfl⟩,s5,A5⟩;rw[fv] at A5;obtain⟨xs5,c1,c2⟩:=id A5;have lx:xs5.length=(EA 0 0 ps).length:=cj c2;have s05:=s03.trans s5;have LM5:LmT H5 PT:=LamTbl.same s05 LM;obtain⟨tb,htb,_⟩:=id LM;have nPT:na≠PT:=cr (AG (s03 _ _ htb) nn);refine⟨V.ref na,rfl,na,xs5.map V.ref,(EA 0 0 ps).map (JK g (hgt g ds)),[],rfl,SqL.of c1,nPT,by rw[ai,ai,lx],λy hy=>?_,LM5,rfl,λj i' v' h=>by simp at h,λi' x k' hx hk H6 sb=>?_,λD H6 zs' nD sb lt pm pw=>?_⟩
  ·obtain⟨s0,_,rfl⟩:=kf.mp hy;simp[JK]
  ·rw[az] at hx hk;cases ex:xs5[i']? with
   |none=>rw[ex] at hx;cases hx
   |some xn=>
    rw[ex] at hx;cases hx;obtain⟨s0,h1,h2⟩:=BL c2 ex;rw[h1] at hk;cases hk;obtain⟨dx,ja,h3,h4⟩:=h2.st (Stt.sb sb (s05 _ _ htb));refine⟨V.ref xn,rfl,xn,CN,dx,_,_,rfl,h3,TN.cl,TN.nb,pT _ _ _ _ _ _,V.ref xn,rfl,xn,CN,dx,_,_,rfl,h3,TN.cl,TN.nh,fD _ _ _ _ _ _,V.ref xn,rfl,xn,CN,dx,_,_,rfl,h3,TN.cl,TN.nc,pU _ _ _ _ _ _,(by rw[bz];show 3<=16777216;decide),λp hp=>⟨p,rfl,hp,rfl⟩⟩
  ·obtain⟨zs,pm2,pr⟩:=cf.perm pm (aU c2);obtain⟨as',e1,e2⟩:=V2 pr;have st6:Stt H5 H6:=Stt.sb sb (s05 _ _ htb);have stD:Stt H6 (upd H6 D (.lst (zs'.map (·.2)))):=Same.st (Same.upd nD);refine k _ D zs ds ((s05.st.trans st6).trans stD) (LamTbl.same (Same.upd nD) lt) hds pm2 (fE (f:=HT.lexLt) pr pw) ⟨as',by rw[upd_same,e1],AU e2 λ_ _ q=>(q.st st6).st stD⟩
end
open PySem PySem.Spec PyProof.Rows L2
structure LmF (K:aa) (mg:Str->Option ah) (f:ag) (fd:dw) (c PT:ag):Prop where
 m:mg "notes_in_order"=some (.ref f)
 F:FunC K "notes_in_order" "notes_in_order" BJ f fd c
 n:K.lookup PT=none
 h:w8 K c PT=true
theorem j6 {K:aa} {mg:Str->Option ah} {c PT:ag} {oc kV doc pm ct:ah} {od an:Option ag} {osl:Array (Option ah)} (X:K.In h) (G:h.Ns dq mg) (a:sP K dq "notes_in_order"=some (some (.ref f)))
 (l:K.lookup f=some ⟨oc,od,.func (ie "notes_in_order" "notes_in_order" (C7 BJ) (BS BJ) (AH BJ) .none kV doc pm an (.ref c) ct),osl⟩) (c1:iz K (.ref c) "notes_in_order"=true) (k:du K (.ref f)=true)
 {dd:Option ag} {vs:Array ah} {sl:Array (Option ah)} (cl:K.lookup c=some ⟨.type "code",dd,.fields vs,sl⟩) (v:vs[11]? =some (.ref PT)) (n:K.lookup PT=none) (hd:w8 K c PT=true):Ex4 λf fd c PT=>LmF K mg f fd c PT:=
 ⟨f,_,c,PT,fu X G a,⟨⟨oc,od,kV,doc,pm,an,ct,osl,rfl,l,c1⟩,k⟩,n,hd⟩
theorem j7 {K:aa} {q:bb} {mg:Str->Option ah} {c PT:ag} (KX:K.In h) (TT:TopT q mg h) (hq:((recsOf q).any λd=>d.name==("notes_in_order":Str))=true) (L:LmF K mg f fd c PT):∃c,h.TableAt c PT #[]:=by
 obtain⟨d,hd,en⟩:=List.any_eq_true.mp hq;have en:d.name="notes_in_order":=by simpa using en
 obtain⟨a,o,fd',c',P',h1,h2,h3,h4,h5,h6⟩:=TT.tab d hd;rw[en,L.m] at h1;cases h1;obtain⟨oc,od,kV,doc,pm,an,ct,osl,rfl,lk,_⟩:=L.F.ex;have e1:=KX _ _ lk;rw[h2] at e1;cases e1;cases h3;have ec:c'=c:=by cases h4;rfl
 subst ec;have CH:=vP KX L.h;obtain⟨o1,vs,_,_,_,_,_,_,_,g1,g2,g3,g4,_⟩:=CH;obtain⟨⟨o2,vs2,w1,w2,w3,w4⟩,w5⟩:=id h6;rw[g1] at w1;cases w1;rw[g3] at w3;cases w3;rw[g4] at w4;cases w4;exact⟨c',h6⟩
theorem pW {PT:ag} (h:H PT=some (.tbl #[])):LmT H PT:=⟨#[],h,by first|exact jg|simp[TriplesOk]|decide,.inl rfl⟩
open PySem.W (Codec OpenSpec) in
theorem RU {r:OpenSpec} {k:Nat} {q:bb} {loose:List Str} {XP:(Str->Option ah)->cq->Prop} {YP:bw->cq->Prop} {d:DefRec} {K:vo->aa} {sp:aa->List ag->Sp}
 (hwell:r.wellSaid=true) (hdf:d.params.defaults=[]) (hlen:r.args.length=ps.length) (hr:Room k wB)
 (hY:∀(w:bw) (h:cq),YP w h->(K w.params).In h)
 (F:∀(w:bw) (mg:Str->Option ah) (fa:ag) (h:cq),YP w h->(K w.params).In h->h.Ns dq mg->TopT q mg h->mg d.name=some (.ref fa)->
  Ex2 λ(T:List ag) (fd:dw)=>(∀p∈T,(K w.params).lookup p=none/\∃c,h.TableAt c p #[])/\(∀(s:aj) (us:List ah),us.length=ps.length->vE s fd ⟨us,[]⟩ (ps.zip us))/\
   (∀base:cq,(K w.params).In base->base.Ns dq mg->NC mg base->FnOk r.prog w (K w.params) mg base (CX1 r.prog w) k fa fd ps (sp (K w.params) T))/\
   ∀(H:Hp) (xs:List V) (a:sC r.args),VW T H->(∀p∈T,H p=some (.tbl #[]))->xz r.args a=true->vG r.args r.asked a=true->DwAll (K w.params) H xs (rH r.args a)->
    sp (K w.params) T xs H (λv H'=>Dw (K w.params) H' v (r.ret.enc (vG r.args r.f a))) λ_ _ _=>False):
 yb q loose XP YP r d [] (λf vs=>zS f vs):=
 T4 (K:=K) (CX:=λw=>CX1 r.prog w) (sp:=λw T=>sp (K w.params) T) hwell hdf hlen hr hY F λw H s e s' ⟨_,_,_,_,_,_,_,_,_,_,_,z⟩=>z
theorem V3:∀{f least p:Nat} {x y:Iv} {l:List UInt8},Lute.factorsAt f least x p l= .ok y->y.ok=true
 |0,least,p,x,y,l,h=>by rw[Lute.factorsAt] at h;cases h
 |f+1,least,p,x,y,l,h=>by
  rw[Lute.factorsAt] at h;split at h
  ·cases h
  ·split at h
   ·cases h
   ·split at h
    ·cases h
    ·simp only at h;split at h
     ·split at h
      ·cases h;assumption
      ·cases h
     ·split at h
      ·exact V3 h
      ·cases h
theorem j8 {b:List UInt8} {x:Iv} (h:Lute.read b= .ok x):x.ok=true:=by
 unfold Lute.read at h;split at h
 ·split at h
  ·cases h;decide
  ·cases h
 ·exact V3 h
theorem T8 {fine:Iv->Bool} {l u:List UInt8} {x:Iv} (h:Lute.ivLine fine p l= .ok (x,q,u)):x.ok=true:=by
 unfold Lute.ivLine at h;split at h
 ·cases h
 ·simp only at h;split at h
  ·cases h
  ·rename_i h1;split at h
   ·cases h
   ·split at h
    ·cases h
    ·cases h;exact j8 h1
structure InO (t:Lute.Inst):Prop where
 f:∀x∈t.frets,x.ok=true
 c:∀x∈t.courses,x.ok=true
 b:∀x∈t.basses,x.ok=true
 s:∀x∈t.courses,Lute.soundsAll t.frets x=true
 n:t.opens.length<=14
theorem aW {fine:Iv->Bool} {l u:List UInt8} {x:Iv} (h:Lute.ivLine fine p l= .ok (x,q,u)):fine x=true:=by
 unfold Lute.ivLine at h;split at h
 ·cases h
 ·simp only at h;split at h
  ·cases h
  ·split at h
   ·cases h
   ·rename_i hf;split at h
    ·cases h
    ·cases h;simpa using hf
theorem QB:∀{f p:Nat} {t t':Lute.Inst} {l:List UInt8},InO t->Lute.linesAt f t p l= .ok t'->InO t'
 |f,p,t,t',[],k,h=>by
  have h':Lute.linesAt f t p []=if t.courses.isEmpty=true then .error p else .ok t:=by cases f<;>rw[Lute.linesAt]
  rw[h'] at h;split at h
  ·cases h
  ·cases h;exact k
 |0,p,t,t',c::r,k,h=>by rw[Lute.linesAt] at h;cases h;simp
 |f+1,p,t,t',c::r,k,h=>by
  have sn:∀{P:Iv->Prop} {l:List Iv} {x:Iv},(∀y∈l,P y)->P x->∀y∈l++[x],P y:=λ{P l x} hl hx y hy=>by
   rcases cn.mp hy with hy|hy
   ·exact hl y hy
   ·rw[ge.mp hy];exact hx
  have ln:¬Lute.COURSES<=t.opens.length->t.courses.length+t.basses.length<14:=λq=>by
   have:¬14<=(t.courses++t.basses).length:=q;rw[br] at this;omega
  rw[Lute.linesAt] at h;split at h
  ·rename_i hc;split at h
   ·cases h
   ·split at h
    ·cases h
    ·split at h
     ·cases h
     ·rename_i h1;refine QB (t:={ t with frets:=t.frets++[_] }) ⟨sn k.f (T8 h1),k.c,k.b,λx hx=>?_,k.n⟩ h;have:t.courses=[]:=List.isEmpty_iff.mp hc.2;rw[show({ t with frets:=t.frets++[_] }:Lute.Inst).courses=t.courses from rfl,this] at hx;exact absurd hx (by simp)
  ·split at h
   ·split at h
    ·cases h
    ·split at h
     ·cases h
     ·rename_i hn;split at h
      ·cases h
      ·rename_i h1;refine QB (t:={ t with courses:=t.courses++[_] }) ⟨k.f,sn k.c (T8 h1),k.b,sn k.s (aW h1),?_⟩ h;show((t.courses++[_])++t.basses).length<=14;have:=ln hn;simp;omega
   ·split at h
    ·split at h
     ·cases h
     ·split at h
      ·cases h
      ·rename_i hn;split at h
       ·cases h
       ·rename_i h1;refine QB (t:={ t with basses:=t.basses++[_] }) ⟨k.f,k.c,sn k.b (T8 h1),k.s,?_⟩ h;show(t.courses++(t.basses++[_])).length<=14;have:=ln hn;simp;omega
    ·cases h
theorem V4 {t:Lute.Inst} (h:Lute.readInst cs= .ok t):InO t:=by
 unfold Lute.readInst at h;split at h
 ·cases h
 ·split at h
  ·cases h
  ·split at h
   ·cases h
   ·split at h
    ·cases h
    ·exact QB ⟨by simp,by simp,by simp,by simp,by show(0:Nat)<=14;omega⟩ h
theorem InO.k {t:Lute.Inst} (h:InO t):InK t:=⟨λx hx=>(RG (h.f x hx)).1,λx hx=>(RG (h.c x hx)).1,λx hx=>(RG (h.b x hx)).1⟩
theorem OW {t:Lute.Inst} (h:InO t) {c f:Nat} (hp:t.place c f=true):t.sounds c f=if t.courses.length<c then t.basses.getD (c - t.courses.length - 1) Lute.unison else if f=0 then t.courses.getD (c - 1) Lute.unison else(t.frets.getD (f - 1) Lute.unison).plus (t.courses.getD (c - 1) Lute.unison):=by
 unfold Lute.Inst.place at hp;simp at hp;obtain⟨h1,h2,h3⟩:=hp;unfold Lute.Inst.sounds;unfold Lute.Inst.opens at h2 ⊢;rw[br] at h2;unfold Lute.Inst.many at h3;by_cases hc:t.courses.length<c
 ·rw[Ae hc];rw[Af (by omega)] at h3;have hf:f=0:=by omega
  subst hf;have e1:(t.courses++t.basses).getD (c - 1) Lute.unison=t.basses.getD (c - t.courses.length - 1) Lute.unison:=by
   rw[bp,bp,tm (by omega)];congr 2;omega
  rw[e1];unfold Lute.Inst.fret;rw[Ae rfl];refine VE ?_;rw[bp,am (show c - t.courses.length - 1<t.basses.length by omega)];exact RG (h.b _ (jf _))
 ·rw[Af hc];rw[Ae (by omega)] at h3;have e1:(t.courses++t.basses).getD (c - 1) Lute.unison=t.courses.getD (c - 1) Lute.unison:=by
   rw[bp,bp,tM (by omega)]
  rw[e1];unfold Lute.Inst.fret;by_cases hf:f=0
  ·subst hf;rw[Ae rfl,Ae rfl];refine VE ?_;rw[bp,am (show c - 1<t.courses.length by omega)];exact RG (h.c _ (jf _))
  ·rw[Af hf,Af hf];exact HJ _ _
theorem XF {t:Lute.Inst} (h:InO t) {c f:Nat} (hp:t.place c f=true):(t.sounds c f).ok=true:=by
 rw[OW h hp];unfold Lute.Inst.place at hp;simp at hp;obtain⟨h1,h2,h3⟩:=hp;unfold Lute.Inst.opens at h2;rw[br] at h2;unfold Lute.Inst.many at h3;split
 ·rw[bp,am (by omega)];exact h.b _ (jf _)
 ·rw[Ae (by omega)] at h3;have hc:t.courses.getD (c - 1) Lute.unison∈t.courses:=by
   rw[bp,am (by omega)];exact jf _
  split
  ·exact h.c _ hc
  ·have hf:t.frets.getD (f - 1) Lute.unison∈t.frets:=by
    rw[bp,am (by omega)];exact jf _
   rw[HJ];exact jd.mp (h.s _ hc) _ hf
end Lt
end
section
end
section
end
section
namespace Lt
open PySem PySem.Spec PyProof.Rows L2
variable {f a C CR CT r ta CI CL CN:ag} {fd:dw} {X:Cx} {x:List Int} {i n e p q:Nat} {pos:Pos} {z dz fz:Str} {xs:List V} {H H' H1:Hp} {E:XK} {cs t ci ct:List UInt8} {α β:Type} {Q:VK} {ls:List (List Int)} {P:bb} {w:bw} {h:cq} {ps:List Str} {hg:List Int->Nat}
def aX (P:bb) (w:bw) (K:aa) (CM CN PT:ag) (H:Hp) (Q:VK) (E:XK) (fr co ba:List (List Int)) (ps:List Ln):Option (Nat×Nat)->Prop
 |some (l,c)=>E (.ref CM) none (xH (mfs (l:Nat) (c:Nat)))
 |none=>NoteP fr co ba ps/\∀H' a zs ds,Stt H H'->LmT H' PT->(∀s,s∈ds↔∃q∈ps,s∈q.2)->zs.Perm (EA 0 0 ps)->zs.Pairwise (λa b=>HT.lexLt (JK (BP fr co ba) (hgt (BP fr co ba) ds) b) (JK (BP fr co ba) (hgt (BP fr co ba) ds) a)=false)->NotesA K CN (BP fr co ba) (hgt (BP fr co ba) ds) H' a zs->Q (.ref a) H'
def pX (P:bb) (w:bw) (K:aa) (CI CL CB CM CN PT:ag):Sp:=λvs H Q E=>Ex3 λ(x:ag) (s:St3) (ps:List Ln)=>vs=[.ref x]/\TbA K CI CL CB H x s ps/\LmT H PT/\aX P w K CM CN PT H Q E s.1 s.2.1 s.2.2 ps (EF (plc s.1 s.2.1 s.2.2) 0 ps)
section
variable {P:bb} {w:bw} {K:aa} {mg:Str->Option ah} {base:cq} {CI CL CN CB CM PT:ag}
theorem pY:FnScope ["tablature"] ["tablature"] (AH EK):={}
theorem pZ (F:Fun K "fitting_notes" "fitting_notes" EK f fd) (T:TbC K CB) (D1:Def P w K mg base 4 "check_fit" ["instrument","lines"] (eQ K CI CL CM)) (D2:Def P w K mg base 6 "notes_in_order" ["instrument","lines"] (j3 P w K CI CL CN PT)):
 FnOk P w K mg base (CX1 P w) 7 f fd ["tablature"] (pX P w K CI CL CB CM CN PT):=by
 refine F.okx pY λAc A outer s H vs Q E hr h=>?_;obtain⟨x,⟨fr,co,ba⟩,ps,rfl,⟨⟨dx,ia,af,ac,ab,al,h1,I,L⟩,le⟩,LM,k⟩:=h;refine⟨_,(AB (AY (D1.call hr AD (AA (AV (pv 0) rfl) (AA (AV (pv 0) rfl) AF))))
  (AC (AL (D2.call hr AD (AA (AV (pv 0) rfl) (AA (AV (pv 0) rfl) AF)))))),?_⟩
 and_intros
 refine⟨_,rfl,x,CB,dx,_,_,rfl,h1,T.cl,T.ni,eR _ _,_,rfl,x,CB,dx,_,_,rfl,h1,T.cl,T.nl,eS _ _,ia,af,ac,ab,al,fr,co,ba,ps,rfl,I,L,?_⟩;cases hm:EF (plc fr co ba) 0 ps with
 |some y=>
  obtain⟨l,c⟩:=y;have k:aX P w K CM CN PT H Q E fr co ba ps (EF (plc fr co ba) 0 ps):=k;rw[hm] at k;exact k
 |none=>
  have k:aX P w K CM CN PT H Q E fr co ba ps (EF (plc fr co ba) 0 ps):=k;rw[hm] at k;intro H1 s1;have h11:=s1 _ _ h1;exact⟨_,rfl,x,CB,dx,_,_,rfl,h11,T.cl,T.ni,eR _ _,_,rfl,x,CB,dx,_,_,rfl,h11,T.cl,T.nl,eS _ _,ia,af,ac,ab,al,fr,co,ba,ps,rfl,I.kp (Same.kp s1),L.same s1,k.1,LamTbl.same s1 LM,λH' a zs ds st lm hds pm pw na=>k.2 H' a zs ds (s1.st.trans st) lm hds pm pw na⟩
end
open PySem PySem.Spec PyProof.Rows L2
def EbP (cl:Int->ag) (Z:List Int) (A:List Int->Prop):XK:=λv _ Hx=>Ex2 λz fs=>v= .ref (cl z)/\z∈Z/\Hx=xH fs/\fs.lookup ("answer":Str)=some (V.int z)/\A [z]
theorem ebp {cl:Int->ag} {Z:List Int} {A:List Int->Prop} {z:Int} (hz:z∈Z) (h:A [z]):Rfl cl (EbP cl Z A) z:=λ_=>⟨z,_,rfl,hz,rfl,rfl,h⟩
theorem dM {z:Int} {Z:List Int} (h:GH dz fz ci ct= .error z) (hz:∀y∈([-2, -6, -8]:List Int),y∈Z):z∈Z:=hz z (jF h)
theorem j9 {K:aa} {cl:Int->ag} {Z:List Int} {A:List Int->Prop} {C':ag} {fs:List (Str×V)} {cx:Option ag} {σ':L2.St} {j:Nat} {D:Ends} (RC:RfC K CR cl Z) (eb:EbP cl Z A (.ref C') cx (xH fs)) (hl:j<σ'.length)
 (k:∀ans,A ans->∀H' l,H' l=some (.lst (ans.map V.int))->D.rt (.ref l) H') (tr:TH):
 UP K CR j (λ_=>WC (fY (CC (UO K (BT j) "answer") EV))) tr a C' fs cx D σ' H1:=by
 obtain⟨z,fs',ev,hz,ex,el,ha⟩:=eb;have eC:C'=cl z:=by injection ev
 have efs:fs=fs':=YG ex;subst efs eC;exact⟨true,RC.r z hz,λ_ H2 n2=>cS (D:={ nx:=λ_ _=>False,rt:=D.rt }) hl n2 (RC.x z hz) (RC.a z hz) el (ans:=[z]) rfl (k [z] ha),λq=>by cases q⟩
structure NtsP (s:St3) (ps:List Ln) (zs:List Sk) (ds:List Stop):Prop where
 hd:∀x,x∈ds↔∃q∈ps,x∈q.2
 pm:zs.Perm (EA 0 0 ps)
 pw:zs.Pairwise (λa b=>HT.lexLt (JK (BP s.1 s.2.1 s.2.2) (hgt (BP s.1 s.2.1 s.2.2) ds) b) (JK (BP s.1 s.2.1 s.2.2) (hgt (BP s.1 s.2.1 s.2.2) ds) a)=false)
def NF (dz fz:Str) (ring:Int) (ci ct:List UInt8) (R:St3->List Ln->List Sk->List Stop->List Int->Prop) (ans:List Int):Prop:=match GH dz fz ci ct with
 | .error z=>ans=[z]
 | .ok (s,ps)=>if 2<ring then ans=[-1] else match EF (plc s.1 s.2.1 s.2.2) 0 ps with
   |some _=>ans=[-3]
   |none=>Ex2 λzs ds=>NtsP s ps zs ds/\R s ps zs ds ans
theorem kC {ring:Int} {R:St3->List Ln->List Sk->List Stop->List Int->Prop} {z:Int} (h:GH dz fz ci ct= .error z):NF dz fz ring ci ct R [z]:=by unfold NF;rw[h]
theorem kD {ring:Int} {R:St3->List Ln->List Sk->List Stop->List Int->Prop} {s:St3} {ps:List Ln} {y:Nat×Nat} (h:GH dz fz ci ct= .ok (s,ps)) (hr:¬2<ring) (hm:EF (plc s.1 s.2.1 s.2.2) 0 ps=some y):NF dz fz ring ci ct R [-3]:=by unfold NF;simp only[h];rw[Af hr];simp only[hm]
theorem aY {ring:Int} {R:St3->List Ln->List Sk->List Stop->List Int->Prop} {s:St3} {ps:List Ln} {zs:List Sk} {ds:List Stop} {ans:List Int} (h:GH dz fz ci ct= .ok (s,ps)) (hr:¬2<ring) (hm:EF (plc s.1 s.2.1 s.2.2) 0 ps=none) (n:NtsP s ps zs ds) (r:R s ps zs ds ans):NF dz fz ring ci ct R ans:=by
 unfold NF;simp only[h];rw[Af hr];simp only[hm];exact⟨zs,ds,n,r⟩
def TxP (dz fz:Str) (ci ct:List UInt8):Prop:=∀s ps,GH dz fz ci ct= .ok (s,ps)->EF (plc s.1 s.2.1 s.2.2) 0 ps=none->NoteP s.1 s.2.1 s.2.2 ps
theorem dO {ps:List Ln} {zs:List Sk} (pm:zs.Perm (EA 0 0 ps)) (few:∀q∈ps,q.2.length<=14) (hl:ps.length<=512):zs.length<=7168:=by
 have:=NE ps 0 0 few;rw[pm.length_eq];omega
def RoL (l:List Int):Prop:=∃x:Iv,Lw x/\l=ro x
theorem aZ:Ord BF RoL where
 irr:=λ_ ⟨x,h,e⟩=>by rw[e,KW x x h.1 h.1];exact lt_irrefl h.1
 tr:=λ_ _ _ ⟨x,h1,e1⟩ ⟨y,h2,e2⟩ ⟨z,h3,e3⟩ q1 q2=>by
  rw[e1,e2,KW x y h1.1 h2.1] at q1;rw[e2,e3,KW y z h2.1 h3.1] at q2;rw[e1,e3,KW x z h1.1 h3.1];exact lt_trans h1.1 h2.1 h3.1 q1 q2
 tot:=λ_ _ ⟨x,h1,e1⟩ ⟨y,h2,e2⟩ q1 q2=>by
  rw[e1,e2,KW x y h1.1 h2.1] at q1;rw[e1,e2,KW y x h2.1 h1.1] at q2;rw[e1,e2,RF h1 h2 q1 q2]
theorem a0 {t:Lute.Inst} (h:InO t) {s:Stop} (hp:t.place s.course s.fret=true):BP (fr3 t).1 (fr3 t).2.1 (fr3 t).2.2 s=ro (t.sounds s.course s.fret):=by
 rw[OW h hp];show BP (t.frets.map ro) (t.courses.map ro) (t.basses.map ro) s=_;unfold Lute.Inst.place at hp;simp at hp;obtain⟨h1,h2,h3⟩:=hp;unfold Lute.Inst.opens at h2;rw[br] at h2;unfold Lute.Inst.many at h3;have gd:∀(l:List Iv) (i:Nat),i<l.length->(l.map ro).getD i []=ro (l.getD i Lute.unison):=λl i hi=>by
  rw[bp,bp,az,am hi];rfl
 unfold BP;rw[ai];by_cases hc:t.courses.length<s.course
 ·rw[Ae hc,Ae hc];exact gd _ _ (by omega)
 ·rw[Af hc,Af hc];rw[Ae (by omega)] at h3;by_cases hf:s.fret=0
  ·rw[Ae hf,Ae hf];exact gd _ _ (by omega)
  ·rw[Af hf,Af hf,gd _ _ (by omega),gd _ _ (by omega),ZZ]
theorem p0 {x:Iv} (h:x.ok=true):Sm (ro x):=by
 unfold Lute.Iv.ok at h;simp only[jn,decide_eq_true_eq] at h;obtain⟨h1,h2,h3,h4,h5,h6,_⟩:=h;rw[M8,decide_eq_true_eq] at h1 h2 h3 h4;have h6:x.d<=24:=h6;refine⟨rfl,λk hk=>?_,?_,?_⟩
 ·match k,hk with
  |0,_=>exact h1
  |1,_=>exact h2
  |2,_=>exact h3
  |3,_=>exact h4
 ·show(1:Int)<=(x.d:Int);omega
 ·show(x.d:Int)<=24;omega
theorem QC {t:Lute.Inst} {p:LuteTab.Piece} (k:PcK (p.map DG)):EF (plc (fr3 t).1 (fr3 t).2.1 (fr3 t).2.2) 0 (p.map DG)=none↔LuteSound.fits t p=true:=by
 rw[dC k];unfold LuteSound.misfit LuteSound.fits;rw[jd];cases h:(LuteSound.struck p).find? λs=>!LuteSound.fitsStop t s.halt_ with
 |none=>
  refine⟨λ_ s hs=>?_,λ_=>rfl⟩;have:=tH.mp h s hs;simpa using this
 |some s=>
  refine⟨λq=>(by cases q),λq=>?_⟩;have h1:=q s (List.mem_of_find?_eq_some h);have h2:=List.find?_some h;rw[h1] at h2;cases h2
theorem RV {t:Lute.Inst} {p:LuteTab.Piece} (h:LuteSound.fits t p=true) {s:Sk} (hs:s∈LuteSound.struck p):t.place s.halt_.course s.halt_.fret=true:=jd.mp h s hs
theorem KZ {p:LuteTab.Piece} {q:Ln} {s:Stop} (hq:q∈p.map DG) (hs:s∈q.2):∃x∈LuteSound.struck p,x.halt_=s:=by
 obtain⟨i,hi⟩:=lu hq;refine⟨⟨i,uL (p.map DG) i,uL (p.map DG) (i+1),s⟩,?_,rfl⟩;unfold LuteSound.struck;rw[←HL];exact mem_mStr.mpr ⟨i,q,by simp,hi,hs,by simp,by simp⟩
theorem RW:∀{l:List Stop} (a b:Nat),ZL l->(∀s∈l,a<=s.course/\s.course<=b)->l.length+a<=b+1\/l=[]
 |[],_,_,_,_=>.inr rfl
 |s::r,a,b,h,hb=>by
  obtain⟨h1,h2⟩:=gg.mp h;have hs:=hb s bc;rcases RW (s.course+1) b h2 (λx hx=>⟨h1 x hx,(hb x (aq _ hx)).2⟩) with q|q
  ·left;rw[fm];omega
  ·left;rw[q];simp;omega
theorem p6 {t:Lute.Inst} {p:LuteTab.Piece} (hi:InO t) (k:PcK (p.map DG)) (hf:LuteSound.fits t p=true) (hl:(p.map DG).length<=512):NoteP (fr3 t).1 (fr3 t).2.1 (fr3 t).2.2 (p.map DG):=by
 have pl:∀q∈p.map DG,∀s∈q.2,t.place s.course s.fret=true:=λq hq s hs=>by
  obtain⟨x,hx,e⟩:=KZ hq hs;have:=RV hf hx;rw[e] at this;exact this
 refine⟨λq hq s hs=>?_,k.one,λq hq s hs=>?_,λq hq=>?_,hl⟩
 ·show plc (t.frets.map ro) (t.courses.map ro) (t.basses.map ro) s=true;rw[aE t s (k.one q hq s hs)];exact pl q hq s hs
 ·rw[a0 hi (pl q hq s hs)];exact p0 (XF hi (pl q hq s hs))
 ·have hb:∀s∈q.2,1<=s.course/\s.course<=14:=λs hs=>⟨k.one q hq s hs,?_⟩
  ·rcases RW 1 14 (k.rise q hq) hb with h|h
   ·omega
   ·rw[h];simp
  ·have:=pl q hq s hs;unfold Lute.Inst.place at this;simp at this;have:=hi.n;omega
theorem V5 {s:St3} {ps:List Ln} (h:GH dz0 fz0 ci ct= .ok (s,ps)):Ex3 λt k p=>Lute.readInst ci= .ok t/\LuteTab.read ct= .ok (k,p)/\s=fr3 t/\ps=p.map DG/\ps.length<=512:=by
 unfold GH mTb at h;split at h
 ·cases h
 ·split at h
  ·cases h
  ·rename_i hm;split at h
   ·cases h
   ·rename_i hp;cases h;have hl:=VQ hp;rw[NB] at hm;rw[TY] at hp;cases e1:Lute.readInst ci with
    |error e=>rw[e1] at hm;cases hm
    |ok t=>
     rw[e1] at hm;cases hm;cases e2:LuteTab.read ct with
     |error e=>rw[e2] at hp;cases hp
     |ok y=>
      obtain⟨k,p⟩:=y;rw[e2] at hp;cases hp;exact⟨t,k,p,rfl,rfl,rfl,rfl,hl⟩
theorem txp (ci ct:List UInt8):TxP dz0 fz0 ci ct:=λs ps h hm=>by
 obtain⟨t,k,p,h1,h2,rfl,rfl,hl⟩:=V5 h;have hk:=(T0 h2).2;exact p6 (V4 h1) hk ((QC hk).mp hm) hl
structure Fct (t:Lute.Inst) (p:LuteTab.Piece) (zs:List Sk) (hg:Sk->Nat):Prop where
 i:InO t
 m:oZ p
 k:PcK (p.map DG)
 f:LuteSound.fits t p=true
 z:zs=LuteSound.notes t p
 h:TR t p hg
 snd:∀s∈LuteSound.struck p,BP (fr3 t).1 (fr3 t).2.1 (fr3 t).2.2 s.halt_=ro (LuteSound.tone t s)
theorem rF (a b c a' b' c':Nat):HT.lexLt [((a:Nat):Int),((b:Nat):Int),((c:Nat):Int)] [((a':Nat):Int),((b':Nat):Int),((c':Nat):Int)]=true↔a<a'\/(a=a'/\(b<b'\/(b=b'/\c<c'))):=by
 rw[HT.lexLt_cons,HT.lexLt_cons,HT.lexLt_cons,HT.lexLt_nil_nil];by_cases h1:(a:Int)=a'
 ·rw[Ae h1];by_cases h2:(b:Int)=b'
  ·rw[Ae h2];by_cases h3:(c:Int)=c'
   ·rw[Ae h3];simp;omega
   ·rw[Af h3,decide_eq_true_eq];omega
  ·rw[Af h2,decide_eq_true_eq];omega
 ·rw[Af h1,decide_eq_true_eq];omega
theorem kE {t:Lute.Inst} {kd:LuteTab.Kind} {p:LuteTab.Piece} {zs:List Sk} {ds:List Stop} (h1:Lute.readInst ci= .ok t) (h2:LuteTab.read ct= .ok (kd,p)) (hf:LuteSound.fits t p=true) (n:NtsP (fr3 t) (p.map DG) zs ds):
 Fct t p zs λs=>hgt (BP (fr3 t).1 (fr3 t).2.1 (fr3 t).2.2) ds (BP (fr3 t).1 (fr3 t).2.1 (fr3 t).2.2 s.halt_):=by
 have hi:=V4 h1;obtain⟨hm,hk⟩:=T0 h2;have snd:∀s∈LuteSound.struck p,BP (fr3 t).1 (fr3 t).2.1 (fr3 t).2.2 s.halt_=ro (LuteSound.tone t s):=λs hs=>a0 hi (RV hf hs);have hg:TR t p λs=>hgt (BP (fr3 t).1 (fr3 t).2.1 (fr3 t).2.2) ds (BP (fr3 t).1 (fr3 t).2.1 (fr3 t).2.2 s.halt_):=by
  have hR:∀y∈ds.map (BP (fr3 t).1 (fr3 t).2.1 (fr3 t).2.2),RoL y:=λy hy=>by
   obtain⟨s,hs,rfl⟩:=kf.mp hy;obtain⟨q,hq,hs⟩:=(n.hd s).mp hs;obtain⟨x,hx,rfl⟩:=KZ hq hs;exact⟨_,C9 hi.k x,snd x hx⟩
  obtain⟨r1,r2⟩:=ZU (d:=[]) aZ hR;have mem:∀s∈LuteSound.struck p,BP (fr3 t).1 (fr3 t).2.1 (fr3 t).2.2 s.halt_∈rise (ds.map (BP (fr3 t).1 (fr3 t).2.1 (fr3 t).2.2)):=λs hs=>by
   refine(r1 _).mpr (mq ((n.hd _).mpr ?_));have hs:=hs;unfold LuteSound.struck at hs;rw[←HL] at hs;obtain⟨q,q1,q2⟩:=(iI hs).q;exact⟨q,bo q1,q2⟩
  intro a ha b hb;unfold hgt;have:=jG aZ (λy hy=>hR y ((r1 y).mp hy)) r2 (mem a ha) (mem b hb);rw[show(rise (ds.map (BP (fr3 t).1 (fr3 t).2.1 (fr3 t).2.2))).idxOf _<(rise (ds.map (BP (fr3 t).1 (fr3 t).2.1 (fr3 t).2.2))).idxOf _↔_ from this,snd a ha,snd b hb,KW _ _ (C9 hi.k a).1 (C9 hi.k b).1]
 have pm:zs.Perm (LuteSound.struck p):=by
  unfold LuteSound.struck;rw[←HL];exact n.pm
 refine⟨hi,hm,hk,hf,TU hi.k hk hg pm (n.pw.imp λ{a b} q z=>?_),hg,snd⟩;unfold JK at q;rw[(rF _ _ _ _ _ _).mpr z] at q;cases q
theorem a5 {ring:Nat} {R:St3->List Ln->List Sk->List Stop->List Int->Prop} {f:Lute.Inst->LuteTab.Piece->List Int} {ans:List Int} (ha:NF dz0 fz0 ring ci ct R ans)
 (h:∀t p zs ds,ring<=2->Fct t p zs (λs=>hgt (BP (fr3 t).1 (fr3 t).2.1 (fr3 t).2.2) ds (BP (fr3 t).1 (fr3 t).2.1 (fr3 t).2.2 s.halt_))->NtsP (fr3 t) (p.map DG) zs ds->R (fr3 t) (p.map DG) zs ds ans->ans=f t p):ans=LuteD.fitting ci ct ring f:=by
 unfold LuteD.fitting;have e:=aF (ci:=ci) (ct:=ct) (F:=λs ps=>ans) (f:=λx p=>if 2<ring then LuteD.says (-1) else if LuteSound.fits x p=false then LuteD.says (-3) else f x p);unfold NF at ha;cases hm:GH dz0 fz0 ci ct with
 |error z=>
  rw[hm] at ha;have:=aF (ci:=ci) (ct:=ct) (F:=λs ps=>match GH dz0 fz0 ci ct with| .error z=>[]| .ok (s,ps)=>[]) (f:=λx p=>if 2<ring then LuteD.says (-1) else if LuteSound.fits x p=false then LuteD.says (-3) else f x p);unfold GH mTb at hm;unfold LuteD.of;by_cases hl:4096<ci.length\/65536<ct.length
  ·rw[Ae hl] at hm;cases hm;rw[Ae (show LuteD.INST<ci.length\/LuteD.PIECE<ct.length from hl)];exact ha
  ·rw[Af hl,NB] at hm;rw[Af (show¬(LuteD.INST<ci.length\/LuteD.PIECE<ct.length) from hl)];cases hi:Lute.readInst ci with
   |error e=>rw[hi] at hm;cases hm;exact ha
   |ok t=>
    rw[hi] at hm;have hp:=TY ct;cases hr:LuteTab.read ct with
    |error e=>
     rw[hr] at hp;simp only[fe,zT,hp,dA] at hm;cases hm;exact ha
    |ok y=>
     obtain⟨k,p⟩:=y;rw[hr] at hp;simp only[fe,zT,hp,dA] at hm;cases hm
 |ok r=>
  obtain⟨s,ps⟩:=r;simp only[hm] at ha e;obtain⟨t,k,p,h1,h2,rfl,rfl,hl⟩:=V5 hm;refine e λt' k' p' g1 g2=>?_;rw[h1] at g1;cases g1;rw[h2] at g2;cases g2;by_cases hr:2<ring
  ·rw[Ae (by omega)] at ha;rw[Ae hr];exact ha
  ·rw[Af (by omega)] at ha;rw[Af hr];have hk:=(T0 h2).2;cases hf:LuteSound.fits t p with
   |false=>
    rw[Ae rfl];cases hmm:EF (plc (fr3 t).1 (fr3 t).2.1 (fr3 t).2.2) 0 (p.map DG) with
    |none=>rw[(QC hk).mp hmm] at hf;cases hf
    |some y=>rw[hmm] at ha;exact ha
   |true=>
    rw[Af (by decide)];rw[(QC hk).mpr hf] at ha;obtain⟨zs,ds,n,r⟩:=ha;exact h t p zs ds (by omega) (kE h1 h2 hf n) n r
section
variable {P:bb} {w:bw} {K:aa} {mg:Str->Option ah} {base:cq}
theorem XG:FnScope ["self"] ["self"] (AH FL):={}
theorem XH {fR:ag} {fdR:dw} (F:Fun K "__init__" "NoNote.__init__" FL f fd) (R:RfI P w K mg base CR fR fdR) (xc:XCls K C) (na:NoAttr K C "answer"):FnOkU P w K mg base (CX1 P w) 2 f fd ["self"] (J0 C (-5)):=by
 refine F.oku XG λAc A outer s H vs Q E hr h=>?_;obtain⟨a,rfl,ea,k⟩:=h;refine⟨_,AC (AY (IW (mc:=.type "type") (by rfl) R.mgR R.sp R.rd R.fc R.kp R.ok hr R.bd out_cxU.passes (AA (pv 0) (AA (GN EU AI) AF)))),?_⟩
 subst_eqs
 exact⟨_,rfl,_,rfl,a,C, -5,rfl,ea,xc,na,λH' hb'=>k H' hb'⟩
end
open PySem PySem.Spec PyProof.Rows L2
def fF (K:aa) (C5:ag):Sp:=λvs H Q E=>Ex2 λ(na:ag) (xs:List V)=>vs=[.ref na]/\SqL K H na xs/\(if xs.length=0 then E (.ref C5) none (xH [("answer",.int (-5))]) else Q .non H)
def fG (hs:List Int) (j:Nat):Prop:=∃m,hs[j]? =some m/\(∀x∈hs,m<=x)/\∀(i:Nat) (y:Int),i<j->hs[i]? =some y->¬y=m
def a6 (hs:List Int) (j:Nat):Prop:=∃m,hs[j]? =some m/\(∀x∈hs,x<=m)/\∀(i:Nat) (y:Int),i<j->hs[i]? =some y->¬y=m
theorem NG:∀{hs:List Int} {m:Int},m∈hs->∃j,hs[j]? =some m/\∀(i:Nat) (y:Int),i<j->hs[i]? =some y->¬y=m
 |[],_,h=>absurd h (by simp)
 |x::r,m,h=>by
  by_cases e:x=m
  ·exact⟨0,by rw[e];rfl,λi y hi=>by omega⟩
  ·obtain⟨j,h1,h2⟩:=NG ((bg.mp h).resolve_left λz=>e z.symm);refine⟨j+1,by simpa using h1,λi y hi hy=>?_⟩;cases i with
   |zero=>simp at hy;rw[←hy];exact e
   |succ i=>exact h2 i y (by omega) (by simpa using hy)
def hts (g:Stop->List Int) (hg:List Int->Nat) (zs:List Sk):List Int:=zs.map λs=>((hg (g s.halt_):Nat):Int)
def p7 (K:aa) (CN:ag):Sp:=λvs H Q _=>Ex4 λ(g:Stop->List Int) (hg:List Int->Nat) (na:ag) (zs:List Sk)=>vs=[.ref na]/\NotesA K CN g hg H na zs/\0<zs.length/\zs.length<=100000/\
 ∀H' a j1 j2,fG (hts g hg zs) j1->a6 (hts g hg zs) j2->H' a=some (.lst [V.int ((j1:Nat):Int),V.int ((j2:Nat):Int)])->Q (.ref a) H'
def a7 (s:St3) (_:List Ln) (zs:List Sk) (ds:List Stop) (ans:List Int):Prop:=(zs.length=0/\ans=[-5])\/(0<zs.length/\Ex2 λj1 j2:Nat=>fG (hts (BP s.1 s.2.1 s.2.2) (hgt (BP s.1 s.2.1 s.2.2) ds) zs) j1/\a6 (hts (BP s.1 s.2.1 s.2.2) (hgt (BP s.1 s.2.1 s.2.2) ds) zs) j2/\ans=[((j1:Nat):Int),((j2:Nat):Int)])
def NH (K:aa) (PT:ag) (dz fz:Str):Sp:=λvs H Q _=>Ex4 λ(ia ta:ag) (ci ct:List UInt8)=>vs=[.ref ia,.ref ta]/\SqL K H ia (ci.map cV)/\SqL K H ta (ct.map cV)/\ct.length<=100000/\LmT H PT/\TxP dz fz ci ct/\
 ∀ans,NF dz fz ((0:Nat):Int) ci ct a7 ans->∀H' l,H' l=some (.lst (ans.map V.int))->Q (.ref l) H'
section
variable {P:bb} {w:bw} {K:aa} {mg:Str->Option ah} {base:cq} {CI CL CN CB CR C5 PT:ag} {cl:Int->ag} {dz fz:Str}
theorem kF:FnScope ["notes"] ["notes"] (AH G7):={}
theorem kG (F:Fun K "check_any" "check_any" G7 f fd) (B:Blt mg) (X5:XMr P w K mg base 2 C5 "NoNote" ["self"] (J0 C5 (-5))):FnOk P w K mg base (CX1 P w) 4 f fd ["notes"] (fF K C5):=by
 refine F.okx kF λAc A outer s H vs Q E hr h=>?_;obtain⟨na,xs,rfl,hx,k⟩:=h;refine⟨_,(AC (AZ (AO C1 (AW AN (by rfl) B.len cy (AA (pv 0) AF)) AI (AQ _)) (AC (IX AD rfl (X5.call0 hr.u AD))) AM)),?_⟩
 subst_eqs
 refine⟨_,rfl,na,xs,rfl,.inl hx,rfl,_,rfl,CF (λh0=>?_) (λh0=>?_)⟩
 ·have h1:xs.length=0:=by
   have q:=of_decide_eq_true h0;injection q with q;omega
  rw[Ae h1] at k;exact⟨by show 0<=100;decide,λa ha=>⟨a,rfl,upd_same,λH4 ⟨⟨d,dn,d0,e1,e2⟩,_⟩=>⟨rfl,a,C5,_,rfl,⟨d,dn,e1,e2⟩,X5.2.1,k⟩⟩⟩
 ·have h1:¬xs.length=0:=λq=>h0 (decide_eq_true (by rw[q];rfl));rw[Af h1] at k;exact k
theorem sc_lh:FnScope ["notes","heights","note"] ["notes"] (AH BN):={}
theorem kH:BlkOk ["notes","heights","note"] (AH BN) (LK (rhs ((BS BN).getD 0 (.Pass ⟨0,0,0,0⟩)))) [("note",2)]:={}
theorem p8 (F:Fun K "lowest_and_highest" "lowest_and_highest" BN f fd) (b1:mg "min"=none) (b2:mg "max"=none) (TN:NtC K CN):FnOk P w K mg base (CX1 P w) 1 f fd ["notes"] (p7 K CN):=by
 refine F.okx sc_lh λAc A outer s H vs Q E hr h=>?_;obtain⟨g,hg,na,zs,rfl,N,h0,hz,k⟩:=h;refine⟨_,(AB (N6 (i:=1) (own:=[("note",2)]) rfl sc_lh.nd rfl rfl (by rfl) (DI (pv 0)) kH (λ_ _ _ _ _=>DW 2 sc_lh) (λ_ _ _ _ _=>O3) (λ_ _ _ _ _=>LP K (pv 2)))
  (AC (AL (DM (AA (GJ de qz uC QN (pv 1) (AA (AW (gC rfl) (by rfl) b1 y4 (AA (pv 1) AF)) AF))
  (AA (GJ de qz uC QN (pv 1) (AA (AW (gB rfl) (by rfl) b2 y6 (AA (pv 1) AF)) AF)) AF)))))),?_⟩
 and_intros
 obtain⟨as,a1,a2⟩:=id N;have la:as.length=zs.length:=cj a2;refine⟨V.ref na,rfl,na,rfl,⟨_,SqL.of a1⟩,λD nD=>SR (n:=zs.length) (λi H'=>H'=upd H D (.lst ((hts g hg (zs.take i)).map V.int))) (by simp[hts]) (λi H' hi e=>?_) (λH' e=>?_) ?_ ?_⟩
 ·subst e;exact⟨_,.ref (as[i]'(by omega)),SqL.of (by rw[AE (AG a1 nD)];exact a1),by rw[az,am (by omega)];rfl⟩
 ·subst e;exact⟨_,SqL.of (by rw[AE (AG a1 nD)];exact a1),by rw[ai,la];exact aw _⟩
 ·rintro i v H2 H3 hi rfl ⟨rfl,hy⟩;have s2:Same H (upd H D (.lst ((hts g hg (zs.take i)).map V.int))):=Same.upd nD;have hv:=hy _ (SqL.of (s2 _ _ a1));rw[az] at hv;cases ea:as[i]? with
  |none=>rw[ea] at hv;cases hv
  |some x=>
   rw[ea] at hv;cases hv;obtain⟨st,hst,nt⟩:=BL a2 ea;obtain⟨dn,ja,h2,_⟩:=nt.st s2.st;refine⟨rfl,_,rfl,x,CN,dn,_,_,rfl,h2,TN.cl,TN.nh,fD _ _ _ _ _ _,_,upd_same,?_,?_⟩
   ·unfold hts;rw[ai,ai,dy,bz];omega
   ·funext b;by_cases hb:b=D
    ·subst hb;rw[upd_same,upd_same,eq,hst];unfold hts;rw[ff,ff];rfl
    ·rw[AE hb,AE hb,AE hb]
 ·rintro H2 rfl;rw[fv];have hD:(upd H D (.lst ((hts g hg zs).map V.int))) D=some (.lst ((hts g hg zs).map V.int)):=upd_same;generalize upd H D (.lst ((hts g hg zs).map V.int))=H2 at hD;have hlen:0<(hts g hg zs).length:=by unfold hts;rw[ai];exact h0
  have fl:((hts g hg zs).map V.int).all HX=true:=by
   rw[y0];exact jd.mpr λ_ _=>rfl
  have ix:∀{m:Int} {j:Nat},(hts g hg zs)[j]? =some m->(∀(i:Nat) (y:Int),i<j->(hts g hg zs)[i]? =some y->¬y=m)->((hts g hg zs).map V.int)[j]? =some (V.int m)/\(∀(i:Nat) (z:V),i<j->((hts g hg zs).map V.int)[i]? =some z->eqV z (V.int m)=false):=λ{m j} h1 h2=>by
   refine⟨by rw[az,h1];rfl,λi z hi hz=>?_⟩;rw[az] at hz;cases e:(hts g hg zs)[i]? with
   |none=>rw[e] at hz;cases hz
   |some y=>
    rw[e] at hz;cases hz;exact beq_eq_false_iff_ne.mpr (h2 i y hi e)
  refine⟨V.ref D,rfl,.inl ⟨rfl,_,SqL.of hD⟩,V.ref D,rfl,D,_,rfl,SqL.of hD,hlen,λm hm hmin=>?_⟩;obtain⟨j1,q1,q2⟩:=NG hm;obtain⟨i1,i2⟩:=ix q1 q2;refine⟨D,_,_,j1,_,rfl,rfl,SqL.of hD,rfl,fl,i1,by simp[eqV],i2,?_⟩;refine⟨V.ref D,rfl,.inl ⟨rfl,_,SqL.of hD⟩,V.ref D,rfl,D,_,rfl,SqL.of hD,hlen,λm2 hm2 hmax=>?_⟩;obtain⟨j2,q3,q4⟩:=NG hm2;obtain⟨i3,i4⟩:=ix q3 q4;exact⟨D,_,_,j2,_,rfl,rfl,SqL.of hD,rfl,fl,i3,by simp[eqV],i4,(by rw[bz];show 2<=16777216;decide),λp hp=>k _ p j1 j2 ⟨m,q1,hmin,q2⟩ ⟨m2,q3,hmax,q4⟩ upd_same⟩
theorem sc_span:FnScope ["i","t","notes","refusal"] ["i","t"] (AH PB):={}
theorem dP (F:Fun K "span" "span" PB f fd) (hmR:mg "Refusal"=some (.ref CR)) (RC:RfC K CR cl [-2, -3, -5, -6, -8])
 (D1:Def P w K mg base 15 "read_tablature" ["i","t"] (cR K CI CL CB cl (GH dz fz))) (D3:Def P w K mg base 7 "fitting_notes" ["tablature"] (pX P w K CI CL CB (cl (-3)) CN PT)) (D4:Def P w K mg base 4 "check_any" ["notes"] (fF K (cl (-5))))
 (D5:Def P w K mg base 1 "lowest_and_highest" ["notes"] (p7 K CN)):
 FnOk P w K mg base (CX1 P w) 16 f fd ["i","t"] (NH K PT dz fz):=by
 refine F.okx sc_span λAc A outer s H vs Q E hr h=>?_;obtain⟨ia,ta,ci,ct,rfl,hi,ht,hct,LM,hP,k⟩:=h;refine⟨_,(AB (SM (Eb:=EbP cl [-2, -3, -5, -6, -8] (NF dz fz ((0:Nat):Int) ci ct a7)) rfl rfl (λpn E' o=>(AB (AX 2 sc_span (D3.call hr o (AA (D1.call hr o (AA (pv 0) (AA (pv 1) AF))) AF)))
  (AC (AY (D4.call hr o (AA (pv 2) AF))))))
  (WN (i:=3) (by rfl) hmR sc_span.nd rfl rfl (λa E'=>(AC (AL (DM (AA (ZS K (pv 3)) AF))))) SL))
  (AC (AL (D5.call hr AD (AA (pv 2) AF))))),?_⟩
 and_intros
 refine⟨⟨V.ref ia,rfl,V.ref ta,rfl,ia,ta,ci,ct,rfl,hi,ht,hct,?_⟩,λa C' fs cx σ' H1 nt eb hl=>j9 RC eb (by rw[hl];show 3<4;decide) k _⟩;cases hm:GH dz fz ci ct with
 |error z=>exact ebp (dM hm (by simp)) (kC hm)
 |ok r=>
  obtain⟨st,ps⟩:=r;intro H1 x s1 TB;have hr2:¬(2:Int)<((0:Nat):Int):=by decide
  refine⟨x,st,ps,rfl,TB,LamTbl.same s1 LM,?_⟩;cases hf:EF (plc st.1 st.2.1 st.2.2) 0 ps with
  |some y=>
   obtain⟨l,c⟩:=y;exact⟨-3,_,rfl,by simp,rfl,rfl,kD hm hr2 hf⟩
  |none=>
   have NP:=hP st ps hm hf;refine⟨NP,λH2 na zs ds st2 LM2 hds pm pw NA=>?_⟩;have nts:NtsP st ps zs ds:=⟨hds,pm,pw⟩
   have hzl:=dO pm NP.few NP.len;obtain⟨as,a1,a2⟩:=id NA;have la:as.length=zs.length:=cj a2;refine⟨_,rfl,na,_,rfl,SqL.of a1,?_⟩;rw[ai,la];by_cases h0:zs.length=0
   ·rw[Ae h0];exact ebp (by simp) (aY hm hr2 hf nts (.inl ⟨h0,rfl⟩)) _
   ·rw[Af h0];exact⟨_,rfl,_,_,na,zs,rfl,NA,by omega,by omega,λH' a j1 j2 l1 l2 ha=>k _ (aY hm hr2 hf nts (.inr ⟨by omega,j1,j2,l1,l2,rfl⟩)) H' a ha⟩
end
section
variable {t:Lute.Inst} {p:LuteTab.Piece} {hg:Sk->Nat}
theorem a8 (h:TR t p hg):∀(l:List Sk) (i:Nat),l≠[]->(∀s∈l,s∈LuteSound.struck p)->∃(j:Nat) (s:Sk),LuteSound.lowest t i l=some (i+j,s)/\l[j]? =some s/\(∀x∈l,hg s<=hg x)/\∀(k:Nat) (x:Sk),k<j->l[k]? =some x->hg s<hg x
 |[],_,h0,_=>absurd rfl h0
 |s::r,i,_,hm=>by
  have hs:=hm s bc;have hr:∀x∈r,x∈LuteSound.struck p:=λx hx=>hm x (aq _ hx);rw[LuteSound.lowest];by_cases e:r=[]
  ·subst e;exact⟨0,s,rfl,rfl,λx hx=>by rw[ge.mp hx];exact aw _,λk x hk=>by omega⟩
  ·obtain⟨j,s',e1,e2,e3,e4⟩:=a8 h r (i+1) e hr;have hs':=hr s' (bo e2);rw[e1];simp only;by_cases hl:(LuteSound.tone t s').lt (LuteSound.tone t s)=true
   ·rw[Ae hl];have Ad:=(h s' hs' s hs).mpr hl;refine⟨j+1,s',by rw[show i+1+j=i+(j+1) by omega],by simpa using e2,λx hx=>?_,λk x hk hx=>?_⟩
    ·rcases bg.mp hx with rfl|hx
     ·omega
     ·exact e3 x hx
    ·cases k with
     |zero=>simp at hx;subst hx;exact Ad
     |succ k=>exact e4 k x (by omega) (by simpa using hx)
   ·rw[Af hl];have Ad:¬hg s'<hg s:=λq=>hl ((h s' hs' s hs).mp q);refine⟨0,s,rfl,rfl,λx hx=>?_,λk x hk=>by omega⟩;rcases bg.mp hx with rfl|hx
    ·exact aw _
    ·have:=e3 x hx;omega
theorem V6 (h:TR t p hg):∀(l:List Sk) (i:Nat),l≠[]->(∀s∈l,s∈LuteSound.struck p)->∃(j:Nat) (s:Sk),LuteSound.highest t i l=some (i+j,s)/\l[j]? =some s/\(∀x∈l,hg x<=hg s)/\∀(k:Nat) (x:Sk),k<j->l[k]? =some x->hg x<hg s
 |[],_,h0,_=>absurd rfl h0
 |s::r,i,_,hm=>by
  have hs:=hm s bc;have hr:∀x∈r,x∈LuteSound.struck p:=λx hx=>hm x (aq _ hx);rw[LuteSound.highest];by_cases e:r=[]
  ·subst e;exact⟨0,s,rfl,rfl,λx hx=>by rw[ge.mp hx];exact aw _,λk x hk=>by omega⟩
  ·obtain⟨j,s',e1,e2,e3,e4⟩:=V6 h r (i+1) e hr;have hs':=hr s' (bo e2);rw[e1];simp only;by_cases hl:(LuteSound.tone t s).lt (LuteSound.tone t s')=true
   ·rw[Ae hl];have Ad:=(h s hs s' hs').mpr hl;refine⟨j+1,s',by rw[show i+1+j=i+(j+1) by omega],by simpa using e2,λx hx=>?_,λk x hk hx=>?_⟩
    ·rcases bg.mp hx with rfl|hx
     ·omega
     ·exact e3 x hx
    ·cases k with
     |zero=>simp at hx;subst hx;exact Ad
     |succ k=>exact e4 k x (by omega) (by simpa using hx)
   ·rw[Af hl];have Ad:¬hg s<hg s':=λq=>hl ((h s hs s' hs').mp q);refine⟨0,s,rfl,rfl,λx hx=>?_,λk x hk=>by omega⟩;rcases bg.mp hx with rfl|hx
    ·exact aw _
    ·have:=e3 x hx;omega
end
open PySem PySem.Spec PyProof.Rows L2
theorem a9 {g:Stop->List Int} {zs:List Sk} {j:Nat} {s:Sk} (h:zs[j]? =some s):(hts g hg zs)[j]? =some ((hg (g s.halt_):Nat):Int):=by
 unfold hts;rw[az,h];rfl
theorem V7 {g:Stop->List Int} {zs:List Sk} {s:Sk} (h:s∈zs):((hg (g s.halt_):Nat):Int)∈hts g hg zs:=mq (f:=λs:Sk=>((hg (g s.halt_):Nat):Int)) h
theorem V8 {hs:List Int} {j j':Nat} {m:Int} (h1:hs[j]? =some m) (h2:∀(i:Nat) (y:Int),i<j->hs[i]? =some y->¬y=m) (h3:hs[j']? =some m) (h4:∀(i:Nat) (y:Int),i<j'->hs[i]? =some y->¬y=m):j=j':=by
 rcases Nat.lt_trichotomy j j' with q|q|q
 ·exact absurd rfl (h4 j m q h1)
 ·exact q
 ·exact absurd rfl (h2 j' m q h3)
theorem bA {ans:List Int} (h:NF dz0 fz0 ((0:Nat):Int) ci ct a7 ans):ans=LuteD.answer (.span ci ct):=by
 refine a5 h λt p zs ds hr F nn r=>?_;have mem:∀s∈LuteSound.notes t p,s∈LuteSound.struck p:=λs hs=>(M7 p).mem_iff.mp hs;rcases r with⟨h0,r⟩|⟨h0,j1,j2,⟨m1,a1,a2,a3⟩,⟨m2,b1,b2,b3⟩,r⟩
 ·rw[F.z] at h0;have e:LuteSound.notes t p=[]:=sj h0;rw[r,e];rfl
 ·rw[F.z] at h0 a1 a2 a3 b1 b2 b3;have hne:LuteSound.notes t p≠[]:=λe=>by rw[e] at h0;simp at h0
  obtain⟨k1,s1,c1,c2,c3,c4⟩:=a8 F.h _ 0 hne mem;obtain⟨k2,s2,d1,d2,d3,d4⟩:=V6 F.h _ 0 hne mem;have em1:m1=((hgt (BP (fr3 t).1 (fr3 t).2.1 (fr3 t).2.2) ds (BP (fr3 t).1 (fr3 t).2.1 (fr3 t).2.2 s1.halt_):Nat):Int):=by
   have q1:=a2 _ (V7 (bo c2));unfold hts at a1;rw[az] at a1;cases e:(LuteSound.notes t p)[j1]? with
   |none=>rw[e] at a1;cases a1
   |some x=>
    rw[e] at a1;cases a1;have:=c3 x (bo e);simp only at q1 ⊢;omega
  have em2:m2=((hgt (BP (fr3 t).1 (fr3 t).2.1 (fr3 t).2.2) ds (BP (fr3 t).1 (fr3 t).2.1 (fr3 t).2.2 s2.halt_):Nat):Int):=by
   have q1:=b2 _ (V7 (bo d2));unfold hts at b1;rw[az] at b1;cases e:(LuteSound.notes t p)[j2]? with
   |none=>rw[e] at b1;cases b1
   |some x=>
    rw[e] at b1;cases b1;have:=d3 x (bo e);simp only at q1 ⊢;omega
  have out:∀{i:Nat} {y:Int},(hts (BP (fr3 t).1 (fr3 t).2.1 (fr3 t).2.2) (hgt (BP (fr3 t).1 (fr3 t).2.1 (fr3 t).2.2) ds) (LuteSound.notes t p))[i]? =some y->∃x,(LuteSound.notes t p)[i]? =some x/\y=((hgt (BP (fr3 t).1 (fr3 t).2.1 (fr3 t).2.2) ds (BP (fr3 t).1 (fr3 t).2.1 (fr3 t).2.2 x.halt_):Nat):Int):=λ{i y} hy=>by
   unfold hts at hy;rw[az] at hy;cases e:(LuteSound.notes t p)[i]? with
   |none=>rw[e] at hy;cases hy
   |some x=>rw[e] at hy;cases hy;exact⟨x,rfl,rfl⟩
  have ej1:j1=k1:=V8 a1 a3 (by rw[em1];exact a9 c2) λi y hi hy e=>by
   obtain⟨x,e1,e2⟩:=out hy;have:=c4 i x hi e1;omega
  have ej2:j2=k2:=V8 b1 b3 (by rw[em2];exact a9 d2) λi y hi hy e=>by
   obtain⟨x,e1,e2⟩:=out hy;have:=d4 i x hi e1;omega
  rw[r,ej1,ej2];show _=(match LuteSound.lowest t 0 (LuteSound.notes t p),LuteSound.highest t 0 (LuteSound.notes t p) with
   |some a,some b=>LuteD.nats [a.1,b.1]
   |_,_=>LuteD.says (-5))
  rw[c1,d1,sO,sO];rfl
def GFn (K:aa) (mg:Str->Option ah) (x nm:Str) (st:dh):Prop:=∃f fd,mg x=some (.ref f)/\Fun K nm nm st f fd
def GMt (K:aa) (C:ag) (m qual:Str) (st:dh):Prop:=∃f fd,Meth K C m f/\Fun K m qual st f fd
def GMk (K:aa) (C:ag) (qual:Str) (st:dh):Prop:=∃f fd,Mk K C f/\Fun K "__init__" qual st f fd
def GXk (K:aa) (C:ag) (qual:Str) (st:dh):Prop:=∃f fd,XMk K C f/\Fun K "__init__" qual st f fd
structure Rf1 (K:aa) (mg:Str->Option ah) (CR C:ag) (x qual:Str) (st:dh):Prop where
 m:mg x=some (.ref C)
 r:mv K (.ref C) (.ref CR)=some true
 x:XCls K C
 a:NoAttr K C "answer"
 i:GXk K C qual st
theorem dQ {K:aa} {cl:Int->ag}:RfC K CR cl []:=⟨λ_ h=>(nomatch h),λ_ h=>(nomatch h),λ_ h=>(nomatch h)⟩
theorem HE {K:aa} {mg:Str->Option ah} {cl:Int->ag} {z:Int} {Z:List Int} {x q:Str} {st:dh} (h:Rf1 K mg CR (cl z) x q st) (r:RfC K CR cl Z):RfC K CR cl (z::Z):=
 ⟨λy hy=>(bg.mp hy).elim (λe=>e▸h.r) (r.r y),λy hy=>(bg.mp hy).elim (λe=>e▸h.x) (r.x y),λy hy=>(bg.mp hy).elim (λe=>e▸h.a) (r.a y)⟩
structure TxF (K:aa) (mg:Str->Option ah):Prop where
 common_factor:GFn K mg "common_factor" "common_factor" EG
 common_factor_of_all:GFn K mg "common_factor_of_all" "common_factor_of_all" B7
 is_interval:GFn K mg "is_interval" "is_interval" FI
 upon:GFn K mg "upon" "upon" IJ
 raised:GFn K mg "raised" "raised" MQ
 narrower:GFn K mg "narrower" "narrower" IK
 place_among:GFn K mg "place_among" "place_among" FJ
 ranks:GFn K mg "ranks" "ranks" O9
 sign_number:GFn K mg "sign_number" "sign_number" FM
 read_interval:GFn K mg "read_interval" "read_interval" EH
 read_unison:GFn K mg "read_unison" "read_unison" FT
 read_factors:GFn K mg "read_factors" "read_factors" E2
 power_of_factor:GFn K mg "power_of_factor" "power_of_factor" DP
 read_power:GFn K mg "read_power" "read_power" GB
 read_signed:GFn K mg "read_signed" "read_signed" FU
 read_instrument:GFn K mg "read_instrument" "read_instrument" DR
 read_length_instruments:GFn K mg "read_length_instruments" "read_length" BY
 read_line_instruments:GFn K mg "read_line_instruments" "read_line" B5
 read_fret:GFn K mg "read_fret" "read_fret" GX
 read_course:GFn K mg "read_course" "read_course" FV
 read_bass:GFn K mg "read_bass" "read_bass" GY
 skip_word:GFn K mg "skip_word" "skip_word" GZ
 read_rest:GFn K mg "read_rest" "read_rest" G0
 check_fit:GFn K mg "check_fit" "check_fit" G2
 beginnings:GFn K mg "beginnings" "beginnings" GC
 sounds_of:GFn K mg "sounds_of" "sounds_of" G3
 lowest_and_highest:GFn K mg "lowest_and_highest" "lowest_and_highest" BN
 read_french_stops:GFn K mg "read_french_stops" "read_french_stops" CZ
 read_italian_stops:GFn K mg "read_italian_stops" "read_italian_stops" CP
 read_german_stops:GFn K mg "read_german_stops" "read_german_stops" C0
 read_neck:GFn K mg "read_neck" "read_neck" G4
 add_stop:GFn K mg "add_stop" "add_stop" IL
 read_french_bass:GFn K mg "read_french_bass" "read_french_bass" DB
 read_bass_number:GFn K mg "read_bass_number" "read_bass_number" DC
 read_german_stop:GFn K mg "read_german_stop" "read_german_stop" DD
 read_crossing:GFn K mg "read_crossing" "read_crossing" EI
 read_piece:GFn K mg "read_piece" "read_piece" GD
 read_kind:GFn K mg "read_kind" "read_kind" G6
 read_line_pieces:GFn K mg "read_line_pieces" "read_line" DE
 read_length_pieces:GFn K mg "read_length_pieces" "read_length" CQ
 read_stops:GFn K mg "read_stops" "read_stops" GE
 read_tablature:GFn K mg "read_tablature" "read_tablature" D0
 tablature_of:GFn K mg "tablature_of" "tablature_of" E3
 check_sizes:GFn K mg "check_sizes" "check_sizes" FX
 instrument_of:GFn K mg "instrument_of" "instrument_of" EJ
 piece_of:GFn K mg "piece_of" "piece_of" IM
 fitting_notes:GFn K mg "fitting_notes" "fitting_notes" EK
 check_any:GFn K mg "check_any" "check_any" G7
structure TxG (K:aa) (mg:Str->Option ah):Prop where
 B:Blt mg
 b_sorted:mg "sorted"=none
 b_min:mg "min"=none
 b_max:mg "max"=none
 WIDEST_POWER:GI mg "WIDEST_POWER" 99
 FINEST_PART:GI mg "FINEST_PART" 24
 NO_BYTE:GI mg "NO_BYTE" 256
 MOST_DIGITS:GI mg "MOST_DIGITS" ((4:Nat):Int)
 LEAST_LENGTH:GI mg "LEAST_LENGTH" 10000
 GREATEST_LENGTH:GI mg "GREATEST_LENGTH" 200000
 LENGTH_DIGITS:GI mg "LENGTH_DIGITS" ((7:Nat):Int)
 MOST_FRETS:GI mg "MOST_FRETS" 15
 MOST_STRINGS:GI mg "MOST_STRINGS" 14
 LINE_FEED:GI mg "LINE_FEED" 10
 NECK_COURSES:GI mg "NECK_COURSES" 6
 FIRST_BASS:GI mg "FIRST_BASS" 7
 MOST_CROSSING_BYTES:GI mg "MOST_CROSSING_BYTES" 3
 MOST_LINES:GI mg "MOST_LINES" 512
 FRENCH:GI mg "FRENCH" 0
 ITALIAN:GI mg "ITALIAN" 1
 MOST_INSTRUMENT_BYTES:GI mg "MOST_INSTRUMENT_BYTES" 4096
 MOST_PIECE_BYTES:GI mg "MOST_PIECE_BYTES" 65536
 DIGITS:GS mg "DIGITS" dz0
 FACTORS:GS mg "FACTORS" fz0
 FRENCH_FRETS:GS mg "FRENCH_FRETS" zF
 FRENCH_LOWEST:GS mg "FRENCH_LOWEST" "4567"
 ITALIAN_FRETS:GS mg "ITALIAN_FRETS" zI
 GERMAN_UNSTOPPED:GS mg "GERMAN_UNSTOPPED" "54321"
 GERMAN_SIXTH:GS mg "GERMAN_SIXTH" zP
 GERMAN_CROSSINGS:GS mg "GERMAN_CROSSINGS" zX
 LENGTH_SIGNS:GS mg "LENGTH_SIGNS" zL
 PRIMES:GT K mg "PRIMES" (prm.map V.int)
 UNISON:GT K mg "UNISON" (un5.map V.int)
 LENGTHS:GT K mg "LENGTHS" (lens.map V.int)
 KIND_WORDS:GT K mg "KIND_WORDS" (kws.map V.str)
structure TxR (K:aa) (mg:Str->Option ah) (C:ag):Prop where
 m:mg "Reader"=some (.ref C)
 T:RdC K C
 i:GMk K C "Reader.__init__" FN
 en:GMt K C "ended" "Reader.ended" E1
 by_:GMt K C "byte" "Reader.byte" FO
 se:GMt K C "sees" "Reader.sees" FP
 pi:GMt K C "pick" "Reader.pick" FQ
 sk:GMt K C "skip" "Reader.skip" FS
 wn:GMt K C "whole_number" "Reader.whole_number" CJ
structure TxI (K:aa) (mg:Str->Option ah) (C:ag):Prop where
 m:mg "Instrument"=some (.ref C)
 T:InC K C
 i:GMk K C "Instrument.__init__" DQ
 sc:GMt K C "string_count" "Instrument.string_count" BX
 hp:GMt K C "has_place" "Instrument.has_place" B8
 so:GMt K C "sound" "Instrument.sound" DA
structure TxL (K:aa) (mg:Str->Option ah) (C:ag):Prop where
 m:mg "Line"=some (.ref C)
 T:LnC K C
 i:GMk K C "Line.__init__" G5
 ib:GMt K C "is_bar" "Line.is_bar" FW
structure TxB_ (K:aa) (mg:Str->Option ah) (C:ag):Prop where
 m:mg "Tablature"=some (.ref C)
 T:TbC K C
 i:GMk K C "Tablature.__init__" DZ
structure TxN (K:aa) (mg:Str->Option ah) (C:ag):Prop where
 m:mg "Note"=some (.ref C)
 T:NtC K C
 i:GMk K C "Note.__init__" G1
structure TxX (K:aa) (mg:Str->Option ah) (CT CR C2 C3 C5 C6 C8:ag):Prop where
 mT:mg "TextFault"=some (.ref CT)
 mR:mg "Refusal"=some (.ref CR)
 xT:XCls K CT
 aT:NoAttr K CT "place"
 eT:mv K (.ref CT) (.ref CT)=some true
 iT:GXk K CT "TextFault.__init__" DY
 r2:Rf1 K mg CR C2 "TooLong" "TooLong.__init__" EZ
 r3:Rf1 K mg CR C3 "Misfit" "Misfit.__init__" FK
 r5:Rf1 K mg CR C5 "NoNote" "NoNote.__init__" FL
 r6:Rf1 K mg CR C6 "NoInstrument" "NoInstrument.__init__" CY
 r8:Rf1 K mg CR C8 "NoPiece" "NoPiece.__init__" E0
 lm:NoAttr K C3 "line"
 cm:NoAttr K C3 "course"
 sp:tR K (.ref CR) "__getattribute__"=some (some (.builtin "type.__getattribute__"))
 rd:uV K CR (.type "type")=true
 fc:∃f fd,qp K (.ref CR) (.type "type") "__init__"=some (.val (.ref f))/\Fun K "__init__" "Refusal.__init__" EY f fd
section
variable {P:bb} {w:bw} {K:aa} {mg:Str->Option ah} {base:cq}
abbrev Bd (x qual:Str) (st:dh) (ps:List Str):Prop:=∀(kV doc pm:ah) (an:Option ag) (Ac ct:ah) (us:List ah),us.length=ps.length->vh (ie x qual (C7 st) (BS st) (AH st) .none kV doc pm an Ac ct) ⟨us,[]⟩=pure (ps.zip us)
theorem AR {k:Nat} {x nm:Str} {st:dh} {sp:Sp} (h:GFn K mg x nm st) (hb:Bd nm nm st ps) (ok:∀f fd,Fun K nm nm st f fd->FnOk P w K mg base (CX1 P w) k f fd ps sp):Def P w K mg base k x ps sp:=
 let ⟨f,fd,hm,F⟩:=h;⟨f,fd,hm,F.kp,F.binds hb,ok f fd F⟩
theorem FZ {k:Nat} {m qual:Str} {st:dh} {sp:Sp} (c:Cls K C) (h:GMt K C m qual st) (hb:Bd m qual st ps) (ok:∀f fd,Fun K m qual st f fd->FnOk P w K mg base (CX1 P w) k f fd ps sp):Mth P w K mg base k C m ps sp:=
 let ⟨f,fd,hm,F⟩:=h;⟨c,f,fd,hm,F.binds hb,ok f fd F⟩
theorem NI {k:Nat} {x qual:Str} {st:dh} {sp:Sp} (hx:mg x=some (.ref C)) (h:GMk K C qual st) (hb:Bd "__init__" qual st ps) (ok:∀f fd,Fun K "__init__" qual st f fd->FnOk P w K mg base (CX1 P w) k f fd ps sp):Mkr P w K mg base k C x ps sp:=
 let ⟨f,fd,hm,F⟩:=h;⟨hx,f,fd,hm,F.binds hb,ok f fd F⟩
theorem KG {k:Nat} {x qual:Str} {st:dh} {sp:Sp} (hx:mg x=some (.ref C)) (c:XCls K C) (h:GXk K C qual st) (hb:Bd "__init__" qual st ps) (ok:∀f fd,Fun K "__init__" qual st f fd->FnOkU P w K mg base (CX1 P w) k f fd ps sp):XMr P w K mg base k C x ps sp:=
 let ⟨f,fd,hm,F⟩:=h;⟨hx,c,f,fd,hm,F.binds hb,ok f fd F⟩
theorem kI {CR0 CB C2 C3 C5 C6 C8 fN cN PT:ag} {fdN:dw} (F:TxF K mg) (G:TxG K mg) (R:TxR K mg CR0) (I:TxI K mg CI) (L:TxL K mg CL) (B_:TxB_ K mg CB) (N:TxN K mg CN) (X:TxX K mg CT CR C2 C3 C5 C6 C8) (LN:LmF K mg fN fdN cN PT) (BB:NC mg base) (CH:tJ base cN PT) (Ff:Fun K "span" "span" PB f fd):
 FnOk P w K mg base (CX1 P w) 16 f fd ["i","t"] (NH K PT dz0 fz0):=by
 have B:=G.B;have d_cf:=AR (P:=P) (w:=w) (base:=base) F.common_factor (λ_ _ _ _ _ _ us hl=>match us,hl with|[_,_],_=>rfl) λf fd h=>lN h B;have d_cfa:=AR (P:=P) (w:=w) (base:=base) F.common_factor_of_all (λ_ _ _ _ _ _ us hl=>match us,hl with|[_],_=>rfl) λf fd h=>gO h d_cf;have d_ii:=AR (P:=P) (w:=w) (base:=base) F.is_interval (λ_ _ _ _ _ _ us hl=>match us,hl with|[_],_=>rfl) λf fd h=>lO h B G.WIDEST_POWER G.FINEST_PART d_cfa;have d_up:=AR (P:=P) (w:=w) (base:=base) F.upon (λ_ _ _ _ _ _ us hl=>match us,hl with|[_,_],_=>rfl) λf fd h=>lR h B d_cfa;have d_ra:=AR (P:=P) (w:=w) (base:=base) F.raised (λ_ _ _ _ _ _ us hl=>match us,hl with|[_,_],_=>rfl) λf fd h=>lT h;have d_nr:=AR (P:=P) (w:=w) (base:=base) F.narrower (λ_ _ _ _ _ _ us hl=>match us,hl with|[_,_],_=>rfl) λf fd h=>lU h B G.PRIMES d_ra;have X1:TFm P w K mg base CT:=KG X.mT X.xT X.iT (λ_ _ _ _ _ _ us hl=>match us,hl with|[_,_],_=>rfl) λf fd h=>lY h X.xT X.aT;obtain⟨fR,fdR,hfR,FR⟩:=X.fc;have RI:RfI P w K mg base CR fR fdR:=⟨X.mR,X.sp,X.rd,hfR,FR.kp,FR.binds (λ_ _ _ _ _ _ us hl=>match us,hl with|[_,_],_=>rfl),l0 FR⟩
 have XM:XMr P w K mg base 2 C3 "Misfit" ["self","line","course"] (gQ C3):=KG X.r3.m X.r3.x X.r3.i (λ_ _ _ _ _ _ us hl=>match us,hl with|[_,_,_],_=>rfl) λf fd h=>l4 h RI X.r3.x X.r3.a X.lm X.cm;have X2:XMr P w K mg base 2 C2 "TooLong" ["self"] (J0 C2 (-2)):=KG X.r2.m X.r2.x X.r2.i (λ_ _ _ _ _ _ us hl=>match us,hl with|[_],_=>rfl) λf fd h=>SU h RI X.r2.x X.r2.a;have X5:XMr P w K mg base 2 C5 "NoNote" ["self"] (J0 C5 (-5)):=KG X.r5.m X.r5.x X.r5.i (λ_ _ _ _ _ _ us hl=>match us,hl with|[_],_=>rfl) λf fd h=>XH h RI X.r5.x X.r5.a;have X6:XMr P w K mg base 2 C6 "NoInstrument" ["self"] (J0 C6 (-6)):=KG X.r6.m X.r6.x X.r6.i (λ_ _ _ _ _ _ us hl=>match us,hl with|[_],_=>rfl) λf fd h=>K7 h RI X.r6.x X.r6.a;have X8:XMr P w K mg base 2 C8 "NoPiece" ["self"] (J0 C8 (-8)):=KG X.r8.m X.r8.x X.r8.i (λ_ _ _ _ _ _ us hl=>match us,hl with|[_],_=>rfl) λf fd h=>SW h RI X.r8.x X.r8.a;have d_sn:=AR (P:=P) (w:=w) (base:=base) F.sign_number (λ_ _ _ _ _ _ us hl=>match us,hl with|[_,_],_=>rfl) λf fd h=>l6 h B;have m_en:=FZ (P:=P) (w:=w) (mg:=mg) (base:=base) R.T.cl R.en (λ_ _ _ _ _ _ us hl=>match us,hl with|[_],_=>rfl) λf fd h=>mD h R.T;have m_by:=FZ (P:=P) (w:=w) (mg:=mg) (base:=base) R.T.cl R.by_ (λ_ _ _ _ _ _ us hl=>match us,hl with|[_],_=>rfl) λf fd h=>mF h R.T G.NO_BYTE m_en;have m_se:=FZ (P:=P) (w:=w) (mg:=mg) (base:=base) R.T.cl R.se (λ_ _ _ _ _ _ us hl=>match us,hl with|[_,_],_=>rfl) λf fd h=>mH h d_sn m_by;have m_pi:=FZ (P:=P) (w:=w) (mg:=mg) (base:=base) R.T.cl R.pi (λ_ _ _ _ _ _ us hl=>match us,hl with|[_,_],_=>rfl) λf fd h=>mI h R.T X1 d_sn m_by;have m_sk:=FZ (P:=P) (w:=w) (mg:=mg) (base:=base) R.T.cl R.sk (λ_ _ _ _ _ _ us hl=>match us,hl with|[_,_],_=>rfl) λf fd h=>mK h m_pi;have m_wn:=FZ (P:=P) (w:=w) (mg:=mg) (base:=base) R.T.cl R.wn (λ_ _ _ _ _ _ us hl=>match us,hl with|[_,_],_=>rfl) λf fd h=>mL h R.T X1 G.DIGITS (oks (by decide +kernel)) m_pi m_se;have k_r:Mkr P w K mg base 1 CR0 "Reader" ["self","text","place","end"] (gS CR0):=NI R.m R.i (λ_ _ _ _ _ _ us hl=>match us,hl with|[_,_,_,_],_=>rfl) λf fd h=>l9 h R.T;have RE:RdE P w K mg base CR0 CT dz0:=⟨R.T,X1,k_r,m_en,m_by,m_se,m_pi,m_sk,m_wn⟩
 have d_un:=AR (P:=P) (w:=w) (base:=base) F.read_unison (λ_ _ _ _ _ _ us hl=>match us,hl with|[_],_=>rfl) λf fd h=>mU h RE G.UNISON;have d_sg:=AR (P:=P) (w:=w) (base:=base) F.read_signed (λ_ _ _ _ _ _ us hl=>match us,hl with|[_],_=>rfl) λf fd h=>mW h RE G.MOST_DIGITS;have d_pw:=AR (P:=P) (w:=w) (base:=base) F.read_power (λ_ _ _ _ _ _ us hl=>match us,hl with|[_,_],_=>rfl) λf fd h=>mX h RE G.MOST_DIGITS d_sg d_cf;have d_pf:=AR (P:=P) (w:=w) (base:=base) F.power_of_factor (λ_ _ _ _ _ _ us hl=>match us,hl with|[_,_],_=>rfl) λf fd h=>m8 h B;have d_fc:=AR (P:=P) (w:=w) (base:=base) F.read_factors (λ_ _ _ _ _ _ us hl=>match us,hl with|[_],_=>rfl) λf fd h=>m9 h RE G.UNISON G.FACTORS (oks (by decide +kernel)) (by decide +kernel) (by decide +kernel) d_pw d_pf d_up;have d_riv:=AR (P:=P) (w:=w) (base:=base) F.read_interval (λ_ _ _ _ _ _ us hl=>match us,hl with|[_,_,_],_=>rfl) λf fd h=>g8 h RE d_un d_fc d_ii;have d_rr:=AR (P:=P) (w:=w) (base:=base) F.read_rest (λ_ _ _ _ _ _ us hl=>match us,hl with|[_],_=>rfl) λf fd h=>nA h RE G.LINE_FEED d_riv;have d_sw:=AR (P:=P) (w:=w) (base:=base) F.skip_word (λ_ _ _ _ _ _ us hl=>match us,hl with|[_,_,_],_=>rfl) λf fd h=>nE h RE;have m_sc:=FZ (P:=P) (w:=w) (mg:=mg) (base:=base) I.T.cl I.sc (λ_ _ _ _ _ _ us hl=>match us,hl with|[_],_=>rfl) λf fd h=>iB h B I.T;have m_hp:=FZ (P:=P) (w:=w) (mg:=mg) (base:=base) I.T.cl I.hp (λ_ _ _ _ _ _ us hl=>match us,hl with|[_,_,_],_=>rfl) λf fd h=>nR h B I.T m_sc;have k_i:Mkr P w K mg base 1 CI "Instrument" ["self"] (ZC CI):=NI I.m I.i (λ_ _ _ _ _ _ us hl=>match us,hl with|[_],_=>rfl) λf fd h=>hW h I.T;have IE:InE P w K mg base CR0 CI CT dz0 fz0:=⟨RE,B,I.T,G.UNISON,m_sc,d_sw,d_rr,d_nr,d_ii,d_up⟩
 have d_fr:=AR (P:=P) (w:=w) (base:=base) F.read_fret (λ_ _ _ _ _ _ us hl=>match us,hl with|[_,_],_=>rfl) λf fd h=>nF h IE G.MOST_FRETS;have d_co:=AR (P:=P) (w:=w) (base:=base) F.read_course (λ_ _ _ _ _ _ us hl=>match us,hl with|[_,_],_=>rfl) λf fd h=>nG h IE G.MOST_STRINGS;have d_ba:=AR (P:=P) (w:=w) (base:=base) F.read_bass (λ_ _ _ _ _ _ us hl=>match us,hl with|[_,_],_=>rfl) λf fd h=>nJ h IE G.MOST_STRINGS;have d_ln:=AR (P:=P) (w:=w) (base:=base) F.read_line_instruments (λ_ _ _ _ _ _ us hl=>match us,hl with|[_,_],_=>rfl) λf fd h=>nM h IE d_fr d_co d_ba;have d_le:=AR (P:=P) (w:=w) (base:=base) F.read_length_instruments (λ_ _ _ _ _ _ us hl=>match us,hl with|[_],_=>rfl) λf fd h=>nN h RE G.LENGTH_DIGITS G.LEAST_LENGTH G.GREATEST_LENGTH;have d_rin:=AR (P:=P) (w:=w) (base:=base) F.read_instrument (λ_ _ _ _ _ _ us hl=>match us,hl with|[_],_=>rfl) λf fd h=>iE h IE k_i d_le d_ln;have d_add:=AR (P:=P) (w:=w) (base:=base) F.add_stop (λ_ _ _ _ _ _ us hl=>match us,hl with|[_,_,_],_=>rfl) λf fd h=>iO h B X1;have d_bn:=AR (P:=P) (w:=w) (base:=base) F.read_bass_number (λ_ _ _ _ _ _ us hl=>match us,hl with|[_],_=>rfl) λf fd h=>nW h RE G.FIRST_BASS;have d_nk:=AR (P:=P) (w:=w) (base:=base) F.read_neck (λ_ _ _ _ _ _ us hl=>match us,hl with|[_,_,_],_=>rfl) λf fd h=>nX h B RE;have d_fb:=AR (P:=P) (w:=w) (base:=base) F.read_french_bass (λ_ _ _ _ _ _ us hl=>match us,hl with|[_],_=>rfl) λf fd h=>nY h RE G.FIRST_BASS G.FRENCH_LOWEST;have d_cr:=AR (P:=P) (w:=w) (base:=base) F.read_crossing (λ_ _ _ _ _ _ us hl=>match us,hl with|[_],_=>rfl) λf fd h=>nZ h RE G.MOST_CROSSING_BYTES G.GERMAN_CROSSINGS;have d_gs:=AR (P:=P) (w:=w) (base:=base) F.read_german_stop (λ_ _ _ _ _ _ us hl=>match us,hl with|[_],_=>rfl) λf fd h=>n8 h RE G.GERMAN_UNSTOPPED G.GERMAN_SIXTH G.NECK_COURSES d_bn d_cr;have d_frs:=AR (P:=P) (w:=w) (base:=base) F.read_french_stops (λ_ _ _ _ _ _ us hl=>match us,hl with|[_],_=>rfl) λf fd h=>iP h B RE G.NECK_COURSES G.FRENCH_FRETS d_nk d_fb d_add;have d_its:=AR (P:=P) (w:=w) (base:=base) F.read_italian_stops (λ_ _ _ _ _ _ us hl=>match us,hl with|[_],_=>rfl) λf fd h=>iQ h B RE G.NECK_COURSES G.ITALIAN_FRETS d_nk d_bn d_add;have d_grs:=AR (P:=P) (w:=w) (base:=base) F.read_german_stops (λ_ _ _ _ _ _ us hl=>match us,hl with|[_],_=>rfl) λf fd h=>iR h RE d_gs d_add;have d_rst:=AR (P:=P) (w:=w) (base:=base) F.read_stops (λ_ _ _ _ _ _ us hl=>match us,hl with|[_,_],_=>rfl) λf fd h=>iU h G.FRENCH G.ITALIAN d_frs d_its d_grs;have m_ib:=FZ (P:=P) (w:=w) (mg:=mg) (base:=base) L.T.cl L.ib (λ_ _ _ _ _ _ us hl=>match us,hl with|[_],_=>rfl) λf fd h=>oC h L.T;have k_l:Mkr P w K mg base 1 CL "Line" ["self","length","stops"] (iW CL):=NI L.m L.i (λ_ _ _ _ _ _ us hl=>match us,hl with|[_,_,_],_=>rfl) λf fd h=>oA h L.T;have d_rk:=AR (P:=P) (w:=w) (base:=base) F.read_kind (λ_ _ _ _ _ _ us hl=>match us,hl with|[_],_=>rfl) λf fd h=>oE h B RE G.KIND_WORDS;have d_rl:=AR (P:=P) (w:=w) (base:=base) F.read_length_pieces (λ_ _ _ _ _ _ us hl=>match us,hl with|[_,_],_=>rfl) λf fd h=>oF h RE G.LENGTH_SIGNS G.LENGTHS;have d_pl:=AR (P:=P) (w:=w) (base:=base) F.read_line_pieces (λ_ _ _ _ _ _ us hl=>match us,hl with|[_,_,_],_=>rfl) λf fd h=>oH h RE k_l d_rl d_rst;have d_pc:=AR (P:=P) (w:=w) (base:=base) F.read_piece (λ_ _ _ _ _ _ us hl=>match us,hl with|[_],_=>rfl) λf fd h=>oJ h B RE L.T G.MOST_LINES m_ib d_rk d_pl;have d_ck:=AR (P:=P) (w:=w) (base:=base) F.check_fit (λ_ _ _ _ _ _ us hl=>match us,hl with|[_,_],_=>rfl) λf fd h=>oN h B I.T L.T m_hp XM;have d_sz:=AR (P:=P) (w:=w) (base:=base) F.check_sizes (λ_ _ _ _ _ _ us hl=>match us,hl with|[_,_],_=>rfl) λf fd h=>oP h B G.MOST_INSTRUMENT_BYTES G.MOST_PIECE_BYTES X2;have d_io:=AR (P:=P) (w:=w) (base:=base) F.instrument_of (λ_ _ _ _ _ _ us hl=>match us,hl with|[_],_=>rfl) λf fd h=>oV h X.mT X.eT d_rin X6;have d_po:=AR (P:=P) (w:=w) (base:=base) F.piece_of (λ_ _ _ _ _ _ us hl=>match us,hl with|[_],_=>rfl) λf fd h=>oX h X.mT X.eT d_pc X8;have k_b:Mkr P w K mg base 1 CB "Tablature" ["self","instrument","lines"] (i9 CB):=NI B_.m B_.i (λ_ _ _ _ _ _ us hl=>match us,hl with|[_,_,_],_=>rfl) λf fd h=>jB h B_.T;have d_tbo:=AR (P:=P) (w:=w) (base:=base) F.tablature_of (λ_ _ _ _ _ _ us hl=>match us,hl with|[_,_],_=>rfl) λf fd h=>jC (cl:=(λz:Int=>([0,0,C2,C3,0,C5,C6,0,C8,0,0]:List ag).getD z.natAbs 0)) h k_b d_io d_po;have d_rtb:=AR (P:=P) (w:=w) (base:=base) F.read_tablature (λ_ _ _ _ _ _ us hl=>match us,hl with|[_,_],_=>rfl) λf fd h=>jE (cl:=(λz:Int=>([0,0,C2,C3,0,C5,C6,0,C8,0,0]:List ag).getD z.natAbs 0)) h d_sz d_tbo;have m_so:=FZ (P:=P) (w:=w) (mg:=mg) (base:=base) I.T.cl I.so (λ_ _ _ _ _ _ us hl=>match us,hl with|[_,_,_],_=>rfl) λf fd h=>jR h B I.T d_up;have k_n:Mkr P w K mg base 1 CN "Note" ["self","begin","line","stop","interval","height"] (jP K CN):=NI N.m N.i (λ_ _ _ _ _ _ us hl=>match us,hl with|[_,_,_,_,_,_],_=>rfl) λf fd h=>pG h N.T;have d_beg:=AR (P:=P) (w:=w) (base:=base) F.beginnings (λ_ _ _ _ _ _ us hl=>match us,hl with|[_],_=>rfl) λf fd h=>jS h L.T;have d_pa:=AR (P:=P) (w:=w) (base:=base) F.place_among (λ_ _ _ _ _ _ us hl=>match us,hl with|[_,_],_=>rfl) λf fd h=>pN h B d_nr;have d_rks:=AR (P:=P) (w:=w) (base:=base) F.ranks (λ_ _ _ _ _ _ us hl=>match us,hl with|[_],_=>rfl) λf fd h=>jX h B d_pa;have d_so:=AR (P:=P) (w:=w) (base:=base) F.sounds_of (λ_ _ _ _ _ _ us hl=>match us,hl with|[_,_],_=>rfl) λf fd h=>pR h I.T L.T m_so;have d_no:Def P w K mg base 6 "notes_in_order" ["instrument","lines"] (j3 P w K CI CL CN PT):=⟨fN,fdN,LN.m,LN.F.kp,LN.F.toFun.binds (λ_ _ _ _ _ _ us hl=>match us,hl with|[_,_],_=>rfl),pV LN.F B G.b_sorted BB CH L.T N.T d_beg d_so d_rks k_n⟩
 have d_fn:=AR (P:=P) (w:=w) (base:=base) F.fitting_notes (λ_ _ _ _ _ _ us hl=>match us,hl with|[_],_=>rfl) λf fd h=>pZ h B_.T d_ck d_no;have d_any:=AR (P:=P) (w:=w) (base:=base) F.check_any (λ_ _ _ _ _ _ us hl=>match us,hl with|[_],_=>rfl) λf fd h=>kG h B X5;have d_lh:=AR (P:=P) (w:=w) (base:=base) F.lowest_and_highest (λ_ _ _ _ _ _ us hl=>match us,hl with|[_],_=>rfl) λf fd h=>p8 h G.b_min G.b_max N.T;exact dP (cl:=(λz:Int=>([0,0,C2,C3,0,C5,C6,0,C8,0,0]:List ag).getD z.natAbs 0)) Ff X.mR (HE X.r2 (HE X.r3 (HE X.r5 (HE X.r6 (HE X.r8 dQ))))) d_rtb d_fn d_any d_lh
end
open PySem PySem.Spec PyProof.Rows L2
section
variable {K:aa} {h:cq} {mg:Str->Option ah} {x nm m qual:Str} {st:dh} {f C:ag} {oc kV doc pm Ac ct:ah} {od an:Option ag} {osl:Array (Option ah)}
theorem bB (X:K.In h) (G:h.Ns dq mg) (a:sP K dq x=some (some (.ref f))) (l:K.lookup f=some ⟨oc,od,.func (ie nm nm (C7 st) (BS st) (AH st) .none kV doc pm an Ac ct),osl⟩) (c:iz K Ac nm=true) (k:du K (.ref f)=true):GFn K mg x nm st:=
 ⟨f,_,fu X G a,MC l c k⟩
theorem F0 (a:ij K (.ref C) m=some (some (.ref f))) (i:pj K (.ref f)=true) (l:K.lookup f=some ⟨oc,od,.func (ie m qual (C7 st) (BS st) (AH st) .none kV doc pm an Ac ct),osl⟩) (c:iz K Ac qual=true) (k:du K (.ref f)=true):GMt K C m qual st:=
 ⟨f,_,⟨a,i,k⟩,MC l c k⟩
theorem NJ (mk:uT K C=true) (kc:du K (.ref C)=true) (a:ij K (.ref C) "__init__"=some (some (.ref f))) (i:pj K (.ref f)=true) (l:K.lookup f=some ⟨oc,od,.func (ie "__init__" qual (C7 st) (BS st) (AH st) .none kV doc pm an Ac ct),osl⟩) (c:iz K Ac qual=true) (k:du K (.ref f)=true):GMk K C qual st:=
 ⟨f,_,⟨mk,a,i,kc⟩,MC l c k⟩
theorem KH (mk:GV K C=true) (kc:du K (.ref C)=true) (a:ij K (.ref C) "__init__"=some (some (.ref f))) (i:pj K (.ref f)=true) (l:K.lookup f=some ⟨oc,od,.func (ie "__init__" qual (C7 st) (BS st) (AH st) .none kV doc pm an Ac ct),osl⟩) (c:iz K Ac qual=true) (k:du K (.ref f)=true):GXk K C qual st:=
 ⟨f,_,⟨mk,a,i,kc⟩,MC l c k⟩
theorem kJ (a:qp K (.ref C) (.type "type") "__init__"=some (.val (.ref f))) (l:K.lookup f=some ⟨oc,od,.func (ie "__init__" qual (C7 st) (BS st) (AH st) .none kV doc pm an Ac ct),osl⟩) (c:iz K Ac qual=true) (k:du K (.ref f)=true):
 ∃f fd,qp K (.ref C) (.type "type") "__init__"=some (.val (.ref f))/\Fun K "__init__" qual st f fd:=⟨f,_,a,MC l c k⟩
theorem p9 {i:Int} {t:Tok} (X:K.In h) (G:h.Ns dq mg) (a:sP K dq x=some (some (.int i t))):GI mg x i:=⟨_,fu X G a,t,rfl⟩
theorem qA {t:Tok} (X:K.In h) (G:h.Ns dq mg) (a:sP K dq x=some (some (.str z t))):GS mg x z:=⟨_,fu X G a,t,rfl⟩
theorem qB {Aa:Array ah} (X:K.In h) (G:h.Ns dq mg) (a:sP K dq x=some (some (.ref f))) (l:K.lookup f=some ⟨.type "tuple",od,.seq Aa n,osl⟩) (hz:Aa.size<=100) (r:Vals xs Aa.toList):GT K mg x xs:=
 ⟨f,fu X G a,λH=>.inr ⟨_,Aa,n,l,rfl,rfl,by rw[bz];omega,r⟩⟩
end
theorem bC {l:List Int} (h:∀z∈l,0<=z/\z<=255):(LuSoundNeutral.bytes l).map cV=l.map V.int:=by
 unfold LuSoundNeutral.bytes;rw[wC];refine List.map_congr_left λz hz=>?_;have:=h z hz;show V.int (((tW z.toNat).toNat:Nat):Int)=V.int z;congr 1;rw[v7];omega
theorem inI {lo hi:Int} {l:List Int} (h:l.all (qe lo hi)=true):∀z∈l,lo<=z/\z<=hi:=λz hz=>by
 have:=jd.mp h z hz;unfold qe at this;simpa using this
theorem qC {K:aa} {pi pt PT:ag}  {i t:List Int} (hT:H PT=some (.tbl #[])) (hsi:SqL K H pi (i.map V.int)) (hst:SqL K H pt (t.map V.int))  (hii:i.all (qe 0 255)=true) (hit:t.all (qe 0 255)=true) (Ad:t.length<=66000):
 NH K PT dz0 fz0 [.ref pi,.ref pt] H (λv H'=>Dw K H' v (.list ((PyWqaucn.span i t).map .int))) λ_ _ _=>False:=by
 refine⟨pi,pt,LuSoundNeutral.bytes i,LuSoundNeutral.bytes t,rfl,by rw[bC (inI hii)];exact hsi,by rw[bC (inI hit)];exact hst,?_,pW hT,txp _ _,λans ha H' l hl'=>?_⟩
 ·unfold LuSoundNeutral.bytes;rw[ai];omega
 ·rw[bA ha] at hl';exact .lst (SqL.of hl') (UQ _)
theorem dR {C:Prop} {K:aa} {mg:Str->Option ah} {q:bb} {fa:ag} (KX:K.In h) (TT:TopT q mg h) (hq:((recsOf q).any λd=>d.name==("notes_in_order":Str))=true) (hfa:mg "span"=some (.ref fa)) (a:GFn K mg "span" "span" PB) (LN:Ex4 λf fd c PT=>LmF K mg f fd c PT) (F:TxF K mg) (G':TxG K mg) (R:∃C,TxR K mg C) (I:∃C,TxI K mg C) (L:∃C,TxL K mg C) (B_:∃C,TxB_ K mg C) (N:∃C,TxN K mg C)
 (XX:∃CT CR C2 C3 C5 C6 C8,TxX K mg CT CR C2 C3 C5 C6 C8)
 (k:∀(PT:ag) (fd:dw),(∀p∈[PT],K.lookup p=none/\∃c,h.TableAt c p #[])->(∀(s:aj) (us:List ah),us.length=(["i","t"]:List Str).length->vE s fd ⟨us,[]⟩ ((["i","t"]:List Str).zip us))->(∀base:cq,K.In base->base.Ns dq mg->NC mg base->FnOk P w K mg base (CX1 P w) 16 fa fd ["i","t"] (NH K PT dz0 fz0))->C):C:=by
 obtain⟨f,fd,hm,Ff⟩:=a;have e:=hfa.symm.trans hm;cases e;obtain⟨fN,fdN,cN,PT,LN⟩:=LN;obtain⟨_,R⟩:=R;obtain⟨_,I⟩:=I;obtain⟨_,L⟩:=L;obtain⟨_,B_⟩:=B_;obtain⟨_,N⟩:=N;obtain⟨_,_,_,_,_,_,_,XX⟩:=XX;refine k PT fd (λp hp=>?_) (λs us hu=>?_) λbase KB _ BB=>kI F G' R I L B_ N XX LN BB (vP KB LN.h) Ff
 ·rw[ge.mp hp];exact⟨LN.n,j7 KX TT hq LN⟩
 ·obtain⟨oc,od,kV,doc,pm,an,Ac,ct,osl,rfl,lk,hcd⟩:=Ff.ex;match us,hu with
  |[_,_],_=>exact .of_eq rfl
end Lt
end
def PySem.W.Fast.tw10035231830179439359:Nat:=0
def PySem.W.Fast.tw10148867993582314561:Nat:=0
def PySem.W.Fast.tw10153284293680997673:Nat:=0
def PySem.W.Fast.tw10304927958551778290:Nat:=0
def PySem.W.Fast.tw10349863519947504911:Nat:=0
def PySem.W.Fast.tw10402089904746633366:Nat:=0
def PySem.W.Fast.tw10432505859736613938:Nat:=0
def PySem.W.Fast.tw10476801023411753947:Nat:=0
def PySem.W.Fast.tw10734500816678683917:Nat:=0
def PySem.W.Fast.tw10785645568403358263:Nat:=0
def PySem.W.Fast.tw10977874090402451007:Nat:=0
def PySem.W.Fast.tw10989966323960920937:Nat:=0
def PySem.W.Fast.tw11012178519934470494:Nat:=0
def PySem.W.Fast.tw11020170512748969959:Nat:=0
def PySem.W.Fast.tw11045461643008757093:Nat:=0
def PySem.W.Fast.tw11059283876891429901:Nat:=0
def PySem.W.Fast.tw11206506335098073982:Nat:=0
def PySem.W.Fast.tw11260024210742248971:Nat:=0
def PySem.W.Fast.tw11315304949004883555:Nat:=0
def PySem.W.Fast.tw11389710583195744563:Nat:=0
def PySem.W.Fast.tw11639277395930452496:Nat:=0
def PySem.W.Fast.tw1165338342127339655:Nat:=0
def PySem.W.Fast.tw1167777940626881004:Nat:=0
def PySem.W.Fast.tw11774677215410906447:Nat:=0
def PySem.W.Fast.tw11858122192746157685:Nat:=0
def PySem.W.Fast.tw11868436478901549765:Nat:=0
def PySem.W.Fast.tw11875715554688814888:Nat:=0
def PySem.W.Fast.tw12014484923550172011:Nat:=0
def PySem.W.Fast.tw12041047124265611929:Nat:=0
def PySem.W.Fast.tw12069268634467872284:Nat:=0
def PySem.W.Fast.tw12081714356691900338:Nat:=0
def PySem.W.Fast.tw12204769406223340845:Nat:=0
def PySem.W.Fast.tw12375207129537035202:Nat:=0
def PySem.W.Fast.tw12430918095492626438:Nat:=0
def PySem.W.Fast.tw12624538301967675212:Nat:=0
def PySem.W.Fast.tw12650513099189004048:Nat:=0
def PySem.W.Fast.tw12718392371254765114:Nat:=0
def PySem.W.Fast.tw12759118738764399069:Nat:=0
def PySem.W.Fast.tw12795370603604846582:Nat:=0
def PySem.W.Fast.tw12833807878883369848:Nat:=0
def PySem.W.Fast.tw12848909656781837132:Nat:=0
def PySem.W.Fast.tw12869045037395595407:Nat:=0
def PySem.W.Fast.tw12952300740570822792:Nat:=0
def PySem.W.Fast.tw12997514302358198355:Nat:=0
def PySem.W.Fast.tw1303223016835520940:Nat:=0
def PySem.W.Fast.tw1308242246146075368:Nat:=0
def PySem.W.Fast.tw13276231841700782558:Nat:=0
def PySem.W.Fast.tw13449331002536197169:Nat:=0
def PySem.W.Fast.tw13705514427539445622:Nat:=0
def PySem.W.Fast.tw13888046920258655870:Nat:=0
def PySem.W.Fast.tw1396525346919857393:Nat:=0
def PySem.W.Fast.tw14220103485574563204:Nat:=0
def PySem.W.Fast.tw14242512335032981125:Nat:=0
def PySem.W.Fast.tw14308543393793104897:Nat:=0
def PySem.W.Fast.tw14344356539792882605:Nat:=0
def PySem.W.Fast.tw1441167271467923670:Nat:=0
def PySem.W.Fast.tw14495190520042539332:Nat:=0
def PySem.W.Fast.tw14522994882628538700:Nat:=0
def PySem.W.Fast.tw14612582481015152106:Nat:=0
def PySem.W.Fast.tw14781173454989277419:Nat:=0
def PySem.W.Fast.tw14817618828803652673:Nat:=0
def PySem.W.Fast.tw14862200429847948214:Nat:=0
def PySem.W.Fast.tw14955380235685032733:Nat:=0
def PySem.W.Fast.tw15033558456649395292:Nat:=0
def PySem.W.Fast.tw1512849816690973493:Nat:=0
def PySem.W.Fast.tw15141472886625250181:Nat:=0
def PySem.W.Fast.tw15312850351489748233:Nat:=0
def PySem.W.Fast.tw15513469287639331634:Nat:=0
def PySem.W.Fast.tw156005727147978188:Nat:=0
def PySem.W.Fast.tw15892755065648851212:Nat:=0
def PySem.W.Fast.tw15909073413930410058:Nat:=0
def PySem.W.Fast.tw15965257783398820299:Nat:=0
def PySem.W.Fast.tw15989838276326358399:Nat:=0
def PySem.W.Fast.tw16097998304730857801:Nat:=0
def PySem.W.Fast.tw16354411516880294405:Nat:=0
def PySem.W.Fast.tw16466130996929518510:Nat:=0
def PySem.W.Fast.tw16499496644322134217:Nat:=0
def PySem.W.Fast.tw16663568878466764787:Nat:=0
def PySem.W.Fast.tw16708434648071486775:Nat:=0
def PySem.W.Fast.tw16833006147575861580:Nat:=0
def PySem.W.Fast.tw168532286796597171:Nat:=0
def PySem.W.Fast.tw16860143541847903023:Nat:=0
def PySem.W.Fast.tw17117072185722981280:Nat:=0
def PySem.W.Fast.tw17189444755544154331:Nat:=0
def PySem.W.Fast.tw17238733346398155279:Nat:=0
def PySem.W.Fast.tw17241342227648068845:Nat:=0
def PySem.W.Fast.tw17257574762754842008:Nat:=0
def PySem.W.Fast.tw17314764146777517610:Nat:=0
def PySem.W.Fast.tw17397874708941202502:Nat:=0
def PySem.W.Fast.tw17682991135539195336:Nat:=0
def PySem.W.Fast.tw17719744892224953426:Nat:=0
def PySem.W.Fast.tw17788076515061557292:Nat:=0
def PySem.W.Fast.tw17807980162723471666:Nat:=0
def PySem.W.Fast.tw17820644172094155839:Nat:=0
def PySem.W.Fast.tw1791754568869521222:Nat:=0
def PySem.W.Fast.tw18124343268287090945:Nat:=0
def PySem.W.Fast.tw18177279765019830232:Nat:=0
def PySem.W.Fast.tw18273781784886011970:Nat:=0
def PySem.W.Fast.tw18305913588374601714:Nat:=0
def PySem.W.Fast.tw2058768812303121525:Nat:=0
def PySem.W.Fast.tw2231322917411105488:Nat:=0
def PySem.W.Fast.tw2491085857978537064:Nat:=0
def PySem.W.Fast.tw2507822909316270445:Nat:=0
def PySem.W.Fast.tw256769749542153028:Nat:=0
def PySem.W.Fast.tw257724435855665104:Nat:=0
def PySem.W.Fast.tw262990617655777502:Nat:=0
def PySem.W.Fast.tw264935614622933031:Nat:=0
def PySem.W.Fast.tw2695862213926178206:Nat:=0
def PySem.W.Fast.tw276078671908702433:Nat:=0
def PySem.W.Fast.tw2772882542197929887:Nat:=0
def PySem.W.Fast.tw279940678867859813:Nat:=0
def PySem.W.Fast.tw2801475208376226568:Nat:=0
def PySem.W.Fast.tw2956680205955702236:Nat:=0
def PySem.W.Fast.tw301251487167649940:Nat:=0
def PySem.W.Fast.tw3022417115973900344:Nat:=0
def PySem.W.Fast.tw3027921524514854320:Nat:=0
def PySem.W.Fast.tw3040353141816381937:Nat:=0
def PySem.W.Fast.tw3058445551556377452:Nat:=0
def PySem.W.Fast.tw3064875229371580538:Nat:=0
def PySem.W.Fast.tw3224821963778167788:Nat:=0
def PySem.W.Fast.tw3302910633143989992:Nat:=0
def PySem.W.Fast.tw3315405479626395037:Nat:=0
def PySem.W.Fast.tw3318548116736881771:Nat:=0
def PySem.W.Fast.tw3332609766946115865:Nat:=0
def PySem.W.Fast.tw3382887164647348329:Nat:=0
def PySem.W.Fast.tw356820168953678415:Nat:=0
def PySem.W.Fast.tw3627954874775812278:Nat:=0
def PySem.W.Fast.tw3662468304172183282:Nat:=0
def PySem.W.Fast.tw3750338046779069257:Nat:=0
def PySem.W.Fast.tw3805618256696975634:Nat:=0
def PySem.W.Fast.tw3807103170745782404:Nat:=0
def PySem.W.Fast.tw3926498408981418075:Nat:=0
def PySem.W.Fast.tw4051962352484954496:Nat:=0
def PySem.W.Fast.tw4105434068879116624:Nat:=0
def PySem.W.Fast.tw4320198612950506626:Nat:=0
def PySem.W.Fast.tw4380776852954255441:Nat:=0
def PySem.W.Fast.tw4491266453086368690:Nat:=0
def PySem.W.Fast.tw45934095945328213:Nat:=0
def PySem.W.Fast.tw4680551108735913889:Nat:=0
def PySem.W.Fast.tw4847158533824302496:Nat:=0
def PySem.W.Fast.tw489331275542768462:Nat:=0
def PySem.W.Fast.tw5228174999177071593:Nat:=0
def PySem.W.Fast.tw5248733666535553333:Nat:=0
def PySem.W.Fast.tw5414957314131814105:Nat:=0
def PySem.W.Fast.tw5570413408211778866:Nat:=0
def PySem.W.Fast.tw5582033227735046085:Nat:=0
def PySem.W.Fast.tw5749552439005770107:Nat:=0
def PySem.W.Fast.tw5800265409749532761:Nat:=0
def PySem.W.Fast.tw5844191668197747314:Nat:=0
def PySem.W.Fast.tw5866548447792575692:Nat:=0
def PySem.W.Fast.tw5935895036919614995:Nat:=0
def PySem.W.Fast.tw5956034144782408708:Nat:=0
def PySem.W.Fast.tw5986328126195891101:Nat:=0
def PySem.W.Fast.tw6206730948798930297:Nat:=0
def PySem.W.Fast.tw6218595923329157919:Nat:=0
def PySem.W.Fast.tw6233434733303788340:Nat:=0
def PySem.W.Fast.tw6256606916233940120:Nat:=0
def PySem.W.Fast.tw63525089815765857:Nat:=0
def PySem.W.Fast.tw6403170266019798808:Nat:=0
def PySem.W.Fast.tw6437487551054702933:Nat:=0
def PySem.W.Fast.tw6718434925637590054:Nat:=0
def PySem.W.Fast.tw6778807390445695417:Nat:=0
def PySem.W.Fast.tw686468211914329108:Nat:=0
def PySem.W.Fast.tw6968238177998325105:Nat:=0
def PySem.W.Fast.tw6971710842379900644:Nat:=0
def PySem.W.Fast.tw6992716448508272998:Nat:=0
def PySem.W.Fast.tw7022305148764608827:Nat:=0
def PySem.W.Fast.tw7272825991011758862:Nat:=0
def PySem.W.Fast.tw7304375434273750325:Nat:=0
def PySem.W.Fast.tw7322242227575082178:Nat:=0
def PySem.W.Fast.tw7352581942770427160:Nat:=0
def PySem.W.Fast.tw7482820223003513309:Nat:=0
def PySem.W.Fast.tw751065982050435240:Nat:=0
def PySem.W.Fast.tw7521882708549572670:Nat:=0
def PySem.W.Fast.tw7542217764476020228:Nat:=0
def PySem.W.Fast.tw7714112717656841088:Nat:=0
def PySem.W.Fast.tw7879515436239611044:Nat:=0
def PySem.W.Fast.tw7906401511230010790:Nat:=0
def PySem.W.Fast.tw7913068295456263075:Nat:=0
def PySem.W.Fast.tw7931869786567016641:Nat:=0
def PySem.W.Fast.tw802330566815566799:Nat:=0
def PySem.W.Fast.tw8055107074907571294:Nat:=0
def PySem.W.Fast.tw816744149201683782:Nat:=0
def PySem.W.Fast.tw8245209150062035102:Nat:=0
def PySem.W.Fast.tw8289642939254520537:Nat:=0
def PySem.W.Fast.tw8291436874121005560:Nat:=0
def PySem.W.Fast.tw830350995516606473:Nat:=0
def PySem.W.Fast.tw8310415682024929018:Nat:=0
def PySem.W.Fast.tw8338792333991499072:Nat:=0
def PySem.W.Fast.tw8347675602232561090:Nat:=0
def PySem.W.Fast.tw8391361402603758656:Nat:=0
def PySem.W.Fast.tw848561434893616024:Nat:=0
def PySem.W.Fast.tw8509391694875075379:Nat:=0
def PySem.W.Fast.tw8701509992836156201:Nat:=0
def PySem.W.Fast.tw8717096372487136444:Nat:=0
def PySem.W.Fast.tw8751914649756760419:Nat:=0
def PySem.W.Fast.tw8767996693414310773:Nat:=0
def PySem.W.Fast.tw8820377027149177242:Nat:=0
def PySem.W.Fast.tw8922410272427059866:Nat:=0
def PySem.W.Fast.tw8959685767877050353:Nat:=0
def PySem.W.Fast.tw8976154236598365528:Nat:=0
def PySem.W.Fast.tw9033917314108986826:Nat:=0
def PySem.W.Fast.tw9073137726360560286:Nat:=0
def PySem.W.Fast.tw9176447336597000318:Nat:=0
def PySem.W.Fast.tw9214748601909815278:Nat:=0
def PySem.W.Fast.tw9224397971739180612:Nat:=0
def PySem.W.Fast.tw9274587189383507496:Nat:=0
def PySem.W.Fast.tw9346772660809938408:Nat:=0
def PySem.W.Fast.tw9422796421628895550:Nat:=0
def PySem.W.Fast.tw9469409946994905372:Nat:=0
def PySem.W.Fast.tw9475204239160242403:Nat:=0
def PySem.W.Fast.tw953477516933078426:Nat:=0
def PySem.W.Fast.tw9707490793049274852:Nat:=0
def PySem.W.Fast.tw9777296141760317434:Nat:=0
def PySem.W.Fast.tw9960493674704606875:Nat:=0
def PySem.W.Fast.tw9978710700064671200:Nat:=0
open PySem PySem.W PyProof.Rows
set_option maxRecDepth 100000 in
set_option maxHeartbeats 0 in
theorem PySem.Challenge.cw_lutesounds_s05_span_holds : PySem.Challenge.rw_lutesounds_s05_span.Holds := by
 w_on;k_headS;(case hw=>exact⟨[.list [],.list []],by decide +kernel,by decide +kernel⟩)
 k_fillS
 refine Lt.RU (r:=PySem.Challenge.rw_lutesounds_s05_span) (k:=16) (ps:=["i","t"]) (sp:=λK T=>Lt.NH K (T.headD 0) Lt.dz0 Lt.fz0) (by decide +kernel) rfl rfl ⟨rfl,by decide,by decide⟩ (λw h Y=>PySem.W.kIn_of Y) ?F
 case F=>
  intro w mg fa h Y KX G TT hmg;refine' Lt.dR KX TT ?zq hmg ?za ?zLN ?zF ?zG ?zR ?zI ?zL ?zB_ ?zN ?zX ?zk
  case zq=>decide +kernel
  case zLN=>(refine' Lt.j6 KX G ?lmf_a ?lmf_l ?lmf_c ?lmf_k ?lmf_o ?lmf_v ?lmf_n ?lmf_h;(case lmf_a=>k_is);(case lmf_l=>k_is);(case lmf_c=>k_is);(case lmf_k=>k_is);(case lmf_o=>k_is);(case lmf_v=>rfl);(case lmf_n=>first|kernel_rfl!|rfl|decide +kernel);(case lmf_h=>first|kernel_rfl!|rfl|decide +kernel))
  case za=>(refine' Lt.bB KX G ?gfn_a ?gfn_l ?gfn_c ?gfn_k;(case gfn_a=>k_is);(case gfn_l=>k_is);(case gfn_c=>k_is);(case gfn_k=>k_is))
  case zF=>
   constructor;iterate 48
    ·(refine' Lt.bB KX G ?gfn_a ?gfn_l ?gfn_c ?gfn_k;(case gfn_a=>k_is);(case gfn_l=>k_is);(case gfn_c=>k_is);(case gfn_k=>k_is))
  case zG=>
   constructor
   ·constructor<;>(refine' wb KX G ?no_a;(case no_a=>k_is))
   iterate 3
    ·(refine' wb KX G ?no_a;(case no_a=>k_is))
   iterate 18
    ·(refine' Lt.p9 KX G ?gi_a;(case gi_a=>k_is))
   iterate 9
    ·(refine' Lt.qA KX G ?gs_a;(case gs_a=>k_is))
   iterate 4
    ·(refine' Lt.qB KX G ?gt_a ?gt_l ?gt_z ?gt_r;(case gt_a=>k_is);(case gt_l=>k_is);(case gt_z=>decide);(case gt_r=>repeat (first|exact Paired.nil|refine Paired.cons ⟨_,rfl⟩ ?_)))
  case zR=>
   refine' ⟨_,Lt.TxR.mk ?m ?T ?i ?e0 ?e1 ?e2 ?e3 ?e4 ?e5⟩
   case m=>(refine' fu KX G ?mg_a;(case mg_a=>k_is))
   case T=>(refine' Lt.RdC.mk ?a ?n0 ?n1 ?n2;(case a=>(refine' L2.Cls.mk ?cls_a ?cls_b ?cls_c ?cls_d;(case cls_a=>k_is);(case cls_b=>k_is);(case cls_c=>k_is);(case cls_d=>k_is)));(case n0=>(unfold L2.NoAttr;k_is));(case n1=>(unfold L2.NoAttr;k_is));(case n2=>(unfold L2.NoAttr;k_is)))
   case i=>(refine' Lt.NJ ?gmk_m ?gmk_kc ?gmk_a ?gmk_i ?gmk_l ?gmk_c ?gmk_k;(case gmk_m=>k_is);(case gmk_kc=>k_is);(case gmk_a=>k_is);(case gmk_i=>k_is);(case gmk_l=>k_is);(case gmk_c=>k_is);(case gmk_k=>k_is))
   case e0=>(refine' Lt.F0 ?gmt_a ?gmt_i ?gmt_l ?gmt_c ?gmt_k;(case gmt_a=>k_is);(case gmt_i=>k_is);(case gmt_l=>k_is);(case gmt_c=>k_is);(case gmt_k=>k_is))
   case e1=>(refine' Lt.F0 ?gmt_a ?gmt_i ?gmt_l ?gmt_c ?gmt_k;(case gmt_a=>k_is);(case gmt_i=>k_is);(case gmt_l=>k_is);(case gmt_c=>k_is);(case gmt_k=>k_is))
   case e2=>(refine' Lt.F0 ?gmt_a ?gmt_i ?gmt_l ?gmt_c ?gmt_k;(case gmt_a=>k_is);(case gmt_i=>k_is);(case gmt_l=>k_is);(case gmt_c=>k_is);(case gmt_k=>k_is))
   case e3=>(refine' Lt.F0 ?gmt_a ?gmt_i ?gmt_l ?gmt_c ?gmt_k;(case gmt_a=>k_is);(case gmt_i=>k_is);(case gmt_l=>k_is);(case gmt_c=>k_is);(case gmt_k=>k_is))
   case e4=>(refine' Lt.F0 ?gmt_a ?gmt_i ?gmt_l ?gmt_c ?gmt_k;(case gmt_a=>k_is);(case gmt_i=>k_is);(case gmt_l=>k_is);(case gmt_c=>k_is);(case gmt_k=>k_is))
   case e5=>(refine' Lt.F0 ?gmt_a ?gmt_i ?gmt_l ?gmt_c ?gmt_k;(case gmt_a=>k_is);(case gmt_i=>k_is);(case gmt_l=>k_is);(case gmt_c=>k_is);(case gmt_k=>k_is))
  case zI=>
   refine' ⟨_,Lt.TxI.mk ?m ?T ?i ?e0 ?e1 ?e2⟩
   case m=>(refine' fu KX G ?mg_a;(case mg_a=>k_is))
   case T=>(refine' Lt.InC.mk ?a ?n0 ?n1 ?n2;(case a=>(refine' L2.Cls.mk ?cls_a ?cls_b ?cls_c ?cls_d;(case cls_a=>k_is);(case cls_b=>k_is);(case cls_c=>k_is);(case cls_d=>k_is)));(case n0=>(unfold L2.NoAttr;k_is));(case n1=>(unfold L2.NoAttr;k_is));(case n2=>(unfold L2.NoAttr;k_is)))
   case i=>(refine' Lt.NJ ?gmk_m ?gmk_kc ?gmk_a ?gmk_i ?gmk_l ?gmk_c ?gmk_k;(case gmk_m=>k_is);(case gmk_kc=>k_is);(case gmk_a=>k_is);(case gmk_i=>k_is);(case gmk_l=>k_is);(case gmk_c=>k_is);(case gmk_k=>k_is))
   case e0=>(refine' Lt.F0 ?gmt_a ?gmt_i ?gmt_l ?gmt_c ?gmt_k;(case gmt_a=>k_is);(case gmt_i=>k_is);(case gmt_l=>k_is);(case gmt_c=>k_is);(case gmt_k=>k_is))
   case e1=>(refine' Lt.F0 ?gmt_a ?gmt_i ?gmt_l ?gmt_c ?gmt_k;(case gmt_a=>k_is);(case gmt_i=>k_is);(case gmt_l=>k_is);(case gmt_c=>k_is);(case gmt_k=>k_is))
   case e2=>(refine' Lt.F0 ?gmt_a ?gmt_i ?gmt_l ?gmt_c ?gmt_k;(case gmt_a=>k_is);(case gmt_i=>k_is);(case gmt_l=>k_is);(case gmt_c=>k_is);(case gmt_k=>k_is))
  case zL=>
   refine' ⟨_,Lt.TxL.mk ?m ?T ?i ?e0⟩
   case m=>(refine' fu KX G ?mg_a;(case mg_a=>k_is))
   case T=>(refine' Lt.LnC.mk ?a ?n0 ?n1;(case a=>(refine' L2.Cls.mk ?cls_a ?cls_b ?cls_c ?cls_d;(case cls_a=>k_is);(case cls_b=>k_is);(case cls_c=>k_is);(case cls_d=>k_is)));(case n0=>(unfold L2.NoAttr;k_is));(case n1=>(unfold L2.NoAttr;k_is)))
   case i=>(refine' Lt.NJ ?gmk_m ?gmk_kc ?gmk_a ?gmk_i ?gmk_l ?gmk_c ?gmk_k;(case gmk_m=>k_is);(case gmk_kc=>k_is);(case gmk_a=>k_is);(case gmk_i=>k_is);(case gmk_l=>k_is);(case gmk_c=>k_is);(case gmk_k=>k_is))
   case e0=>(refine' Lt.F0 ?gmt_a ?gmt_i ?gmt_l ?gmt_c ?gmt_k;(case gmt_a=>k_is);(case gmt_i=>k_is);(case gmt_l=>k_is);(case gmt_c=>k_is);(case gmt_k=>k_is))
  case zB_=>
   refine' ⟨_,Lt.TxB_.mk ?m ?T ?i⟩
   case m=>(refine' fu KX G ?mg_a;(case mg_a=>k_is))
   case T=>(refine' Lt.TbC.mk ?a ?n0 ?n1;(case a=>(refine' L2.Cls.mk ?cls_a ?cls_b ?cls_c ?cls_d;(case cls_a=>k_is);(case cls_b=>k_is);(case cls_c=>k_is);(case cls_d=>k_is)));(case n0=>(unfold L2.NoAttr;k_is));(case n1=>(unfold L2.NoAttr;k_is)))
   case i=>(refine' Lt.NJ ?gmk_m ?gmk_kc ?gmk_a ?gmk_i ?gmk_l ?gmk_c ?gmk_k;(case gmk_m=>k_is);(case gmk_kc=>k_is);(case gmk_a=>k_is);(case gmk_i=>k_is);(case gmk_l=>k_is);(case gmk_c=>k_is);(case gmk_k=>k_is))
  case zN=>
   refine' ⟨_,Lt.TxN.mk ?m ?T ?i⟩
   case m=>(refine' fu KX G ?mg_a;(case mg_a=>k_is))
   case T=>(refine' Lt.NtC.mk ?a ?n0 ?n1 ?n2 ?n3 ?n4 ?n5;(case a=>(refine' L2.Cls.mk ?cls_a ?cls_b ?cls_c ?cls_d;(case cls_a=>k_is);(case cls_b=>k_is);(case cls_c=>k_is);(case cls_d=>k_is)));(case n0=>(unfold L2.NoAttr;k_is));(case n1=>(unfold L2.NoAttr;k_is));(case n2=>(unfold L2.NoAttr;k_is));(case n3=>(unfold L2.NoAttr;k_is));(case n4=>(unfold L2.NoAttr;k_is));(case n5=>(unfold L2.NoAttr;k_is)))
   case i=>(refine' Lt.NJ ?gmk_m ?gmk_kc ?gmk_a ?gmk_i ?gmk_l ?gmk_c ?gmk_k;(case gmk_m=>k_is);(case gmk_kc=>k_is);(case gmk_a=>k_is);(case gmk_i=>k_is);(case gmk_l=>k_is);(case gmk_c=>k_is);(case gmk_k=>k_is))
  case zX=>
   refine' ⟨_,_,_,_,_,_,_,Lt.TxX.mk ?mT ?mR ?xT ?aT ?eT ?iT ?r2 ?r3 ?r5 ?r6 ?r8 ?lm ?cm ?sp ?rd ?fc⟩
   case mT=>(refine' fu KX G ?mg_a;(case mg_a=>k_is))
   case mR=>(refine' fu KX G ?mg_a;(case mg_a=>k_is))
   case xT=>(refine' L2.XCls.mk ?xcls_a ?xcls_b ?xcls_c ?xcls_d ?xcls_e ?xcls_f;(case xcls_a=>kernel_rfl!);(case xcls_b=>k_is);(case xcls_c=>k_is);(case xcls_d=>k_is);(case xcls_e=>k_is);(case xcls_f=>k_is))
   case aT=>(unfold L2.NoAttr;k_is)
   case eT=>kernel_rfl!
   case iT=>(refine' Lt.KH ?gxk_m ?gxk_kc ?gxk_a ?gxk_i ?gxk_l ?gxk_c ?gxk_k;(case gxk_m=>kernel_rfl!);(case gxk_kc=>k_is);(case gxk_a=>k_is);(case gxk_i=>k_is);(case gxk_l=>k_is);(case gxk_c=>k_is);(case gxk_k=>k_is))
   case r2=>(refine' Lt.Rf1.mk ?rf1_m ?rf1_r ?rf1_x ?rf1_a ?rf1_i;(case rf1_m=>(refine' fu KX G ?mg_a;(case mg_a=>k_is)));(case rf1_r=>kernel_rfl!);(case rf1_x=>(refine' L2.XCls.mk ?xcls_a ?xcls_b ?xcls_c ?xcls_d ?xcls_e ?xcls_f;(case xcls_a=>kernel_rfl!);(case xcls_b=>k_is);(case xcls_c=>k_is);(case xcls_d=>k_is);(case xcls_e=>k_is);(case xcls_f=>k_is)));(case rf1_a=>(unfold L2.NoAttr;k_is));(case rf1_i=>(refine' Lt.KH ?gxk_m ?gxk_kc ?gxk_a ?gxk_i ?gxk_l ?gxk_c ?gxk_k;(case gxk_m=>kernel_rfl!);(case gxk_kc=>k_is);(case gxk_a=>k_is);(case gxk_i=>k_is);(case gxk_l=>k_is);(case gxk_c=>k_is);(case gxk_k=>k_is))))
   case r3=>(refine' Lt.Rf1.mk ?rf1_m ?rf1_r ?rf1_x ?rf1_a ?rf1_i;(case rf1_m=>(refine' fu KX G ?mg_a;(case mg_a=>k_is)));(case rf1_r=>kernel_rfl!);(case rf1_x=>(refine' L2.XCls.mk ?xcls_a ?xcls_b ?xcls_c ?xcls_d ?xcls_e ?xcls_f;(case xcls_a=>kernel_rfl!);(case xcls_b=>k_is);(case xcls_c=>k_is);(case xcls_d=>k_is);(case xcls_e=>k_is);(case xcls_f=>k_is)));(case rf1_a=>(unfold L2.NoAttr;k_is));(case rf1_i=>(refine' Lt.KH ?gxk_m ?gxk_kc ?gxk_a ?gxk_i ?gxk_l ?gxk_c ?gxk_k;(case gxk_m=>kernel_rfl!);(case gxk_kc=>k_is);(case gxk_a=>k_is);(case gxk_i=>k_is);(case gxk_l=>k_is);(case gxk_c=>k_is);(case gxk_k=>k_is))))
   case r5=>(refine' Lt.Rf1.mk ?rf1_m ?rf1_r ?rf1_x ?rf1_a ?rf1_i;(case rf1_m=>(refine' fu KX G ?mg_a;(case mg_a=>k_is)));(case rf1_r=>kernel_rfl!);(case rf1_x=>(refine' L2.XCls.mk ?xcls_a ?xcls_b ?xcls_c ?xcls_d ?xcls_e ?xcls_f;(case xcls_a=>kernel_rfl!);(case xcls_b=>k_is);(case xcls_c=>k_is);(case xcls_d=>k_is);(case xcls_e=>k_is);(case xcls_f=>k_is)));(case rf1_a=>(unfold L2.NoAttr;k_is));(case rf1_i=>(refine' Lt.KH ?gxk_m ?gxk_kc ?gxk_a ?gxk_i ?gxk_l ?gxk_c ?gxk_k;(case gxk_m=>kernel_rfl!);(case gxk_kc=>k_is);(case gxk_a=>k_is);(case gxk_i=>k_is);(case gxk_l=>k_is);(case gxk_c=>k_is);(case gxk_k=>k_is))))
   case r6=>(refine' Lt.Rf1.mk ?rf1_m ?rf1_r ?rf1_x ?rf1_a ?rf1_i;(case rf1_m=>(refine' fu KX G ?mg_a;(case mg_a=>k_is)));(case rf1_r=>kernel_rfl!);(case rf1_x=>(refine' L2.XCls.mk ?xcls_a ?xcls_b ?xcls_c ?xcls_d ?xcls_e ?xcls_f;(case xcls_a=>kernel_rfl!);(case xcls_b=>k_is);(case xcls_c=>k_is);(case xcls_d=>k_is);(case xcls_e=>k_is);(case xcls_f=>k_is)));(case rf1_a=>(unfold L2.NoAttr;k_is));(case rf1_i=>(refine' Lt.KH ?gxk_m ?gxk_kc ?gxk_a ?gxk_i ?gxk_l ?gxk_c ?gxk_k;(case gxk_m=>kernel_rfl!);(case gxk_kc=>k_is);(case gxk_a=>k_is);(case gxk_i=>k_is);(case gxk_l=>k_is);(case gxk_c=>k_is);(case gxk_k=>k_is))))
   case r8=>(refine' Lt.Rf1.mk ?rf1_m ?rf1_r ?rf1_x ?rf1_a ?rf1_i;(case rf1_m=>(refine' fu KX G ?mg_a;(case mg_a=>k_is)));(case rf1_r=>kernel_rfl!);(case rf1_x=>(refine' L2.XCls.mk ?xcls_a ?xcls_b ?xcls_c ?xcls_d ?xcls_e ?xcls_f;(case xcls_a=>kernel_rfl!);(case xcls_b=>k_is);(case xcls_c=>k_is);(case xcls_d=>k_is);(case xcls_e=>k_is);(case xcls_f=>k_is)));(case rf1_a=>(unfold L2.NoAttr;k_is));(case rf1_i=>(refine' Lt.KH ?gxk_m ?gxk_kc ?gxk_a ?gxk_i ?gxk_l ?gxk_c ?gxk_k;(case gxk_m=>kernel_rfl!);(case gxk_kc=>k_is);(case gxk_a=>k_is);(case gxk_i=>k_is);(case gxk_l=>k_is);(case gxk_c=>k_is);(case gxk_k=>k_is))))
   case lm=>(unfold L2.NoAttr;k_is)
   case cm=>(unfold L2.NoAttr;k_is)
   case sp=>k_is
   case rd=>k_is
   case fc=>(refine' Lt.kJ ?gfc_a ?gfc_l ?gfc_c ?gfc_k;(case gfc_a=>k_is);(case gfc_l=>k_is);(case gfc_c=>k_is);(case gfc_k=>k_is))
  case zk=>
   intro PT fd h1 h2 h3;refine⟨[PT],fd,h1,h2,h3,?_⟩;intro H xs a hO hT hwi hask hx;cases hx with
   |cons g0 r0=>
    cases r0 with
    |cons g1 r1=>
     cases r1;cases g0 with
     |lst hsi hai=>
      cases g1 with
      |lst hst hat=>
       have e0:=L2.O7 a.1 _ hai;subst e0;have e1:=L2.O7 a.2.1 _ hat;subst e1;have q:((zt 0 4200 a.1&&a.1.all (qe 0 255))&&((zt 0 66000 a.2.1&&a.2.1.all (qe 0 255))&&true))=true:=hwi;simp only[jn,yJ] at q;exact Lt.qC (hT _ bc) hsi hst q.1.2 q.2.2 (Codec.inNat_iff.mp q.2.1).2
#print axioms PySem.Challenge.cw_lutesounds_s05_span_holds
