import PyProof.Rows.All
import Wide.All
import OpenK.AllK
import Wide.FinOn
import PyProof.EqAt
import PyProof.EqKinds
import PyProof.TupleCall
import KE.BitLaws
import Open.SpecLaws
import KE.OsHead
import KE.OsGo
import KE.KTryMore
import KE.KSuperObj
import PyProof.Draws
import KE.IntBitsLaws
import KE.KSortTupG
import KE.KLam
import KE.KDictList
import KE.KListMore
import PySem.Challenge.RW_lutesounds_s03_at
set_option Elab.async false
set_option linter.all false
set_option maxRecDepth 100000
set_option maxHeartbeats 4000000
theorem Ax.{u} {c:Prop}{h:Decidable c}(hc:c){α:Sort u}{t e:α}:ite c t e=t:=if_pos hc
theorem Ay.{u} {c:Prop}{h:Decidable c}(hc:¬c){α:Sort u}{t e:α}:ite c t e=e:=if_neg hc
noncomputable section
open Array renaming length_toList->fv,getElem?_setIfInBounds_ne->gg,getElem?_eq_some_iff->kr,getElem?_toList->kz,getElem?_eq_getElem->qg,getElem?_eq_none->ss,toArray_toList->v8,append_assoc->ww,forIn_toList->wG,toList->wK,toList_zip->xF
open Array.Perm renaming refl->ya
open Bool renaming false_ne_true->bu,noConfusion->fb,false_eq_true->fu,eq_false_iff->jz,and_eq_true->km,true_and->qp,eq_iff_iff->qw,false_and->tX,eq_false_or_eq_true->uI,and_false->vR,and_eq_true_iff->vX,or_true->wU,or_false->zg,and_true->zn,not_not->zD
open Eq renaming trans->tD
open Except renaming error->zJ
open False renaming elim->fi
open ForInStep renaming yield->tG
open Int renaming toNat_natCast->jx,toNat_of_nonneg->mv,gcd->qd,neg_ediv_of_dvd->qi,mul_ediv_cancel_left->qr,ofNat_dvd_left->rj,natAbs_natCast->rm,natCast_mul->tL,fdiv_eq_ediv_of_nonneg->tY,natAbs_mul->ul,natCast_dvd_natCast->uY,add_comm->vo,neg_mul->v3,mul_pos->xQ,one_mul->xR,natCast_pow->x8,mul_le_mul->yD,ofNat_le->zC,pow_add->zY
open List renaming length_map->ai,getElem?_eq_getElem->am,mem_cons_of_mem->aq,getElem?_eq_some_iff->aw,getElem?_map->az,mem_cons_self->bc,getD_eq_getElem?_getD->bj,size_toArray->bn,mem_cons->bp,length_append->bq,mem_of_getElem?->bz,mem_append->cn,map_cons->cz,length_cons->dc,length_take->df,take_add_one->dk,map_append->du,mem_append_right->dw,take_length->ff,length_drop->fx,pairwise_cons->ge,mem_singleton->io,drop_eq_getElem_cons->iq,take_append_drop->iy,append_nil->jc,lookup->jf,mem_of_mem_drop->jg,getElem_mem->jh,find?_cons->jk,getLastD_eq_getLast?->jl,range->jn,mem_map->kh,lookup_cons->kn,all_eq_true->ko,find?_eq_none->kx,findIdx?_eq_some_iff_getElem->lg,pairwise_iff_getElem->lj,length_range->lw,getElem?_of_mem->ma,mem_of_mem_take->mh,getElem?_set_self->ng,contains_cons->nz,find?_append->ou,idxOf_lt_length_of_mem->oy,length->pc,cons_append->qc,getLast?_eq_getElem?->qf,mem_map_of_mem->qj,nodup_cons->qx,of_mem_zip->qy,getElem?_take->rh,reverse_cons->sj,take_of_length_le->sM,filter_cons->sW,mem_append_left->tj,getElem?_set_ne->tm,pairwise_append->tE,filterMap_cons->tM,getElem?_range->tQ,length_reverse->tR,getElem?_append_right->ue,getElem?_drop->um,getElem_idxOf->uo,getElem?_append_left->uu,mem_of_find?_eq_some->uv,append_assoc->uE,getD->uX,drop_length->uZ,getElem?_cons_succ->u0,any_eq_true->u7,idxOf?_eq_some_iff->u9,map_map->vt,range_succ->vA,getElem?_eq_none->vG,drop_drop->vZ,take_take->v0,mem_of_getLast?->v6,nodup_nil->v9,length_pos_iff->wg,drop_succ_cons->wo,mem_filterMap->wy,map_nil->wT,foldl_append->wX,all_eq_false->wY,getLast?_map->w6,nodup_append->w8,pairwise_map->xb,getElem_inj->xj,map_reverse->xB,mem_reverse->xC,zipIdx_cons->xK,mem_filter->xS,length_set->xV,all_append->xY,sum_append->x3,find?_some->x5,foldl_cons->x6,any_append->yc,mem_range->yf,replicate->ym,forIn_nil->yt,drop_take->yF,find?_map->yG,map_take->zh,sum_cons->zi,find?->Ad
open List.Pairwise renaming nil->ow,sublist->vL,imp_of_mem->zj
open List.Perm renaming refl->v5
open List.Sublist renaming refl->Ah
open List.cons renaming inj->wt
open Nat renaming le_refl->au,lt_of_lt_of_le->br,ne_of_lt->cj,le_trans->cy,mul_comm->dj,zero_le->dq,gcd_mul_left->gh,lt_irrefl->iz,pow_pos->jt,mul_left_comm->jy,mul_assoc->kj,pow_le_pow_right->md,mul_pos->me,pow_add->mf,lt_trans->nw,gcd->oa,zero_add->oe,dvd_trans->oo,lt_succ_of_lt->ot,le_of_lt->pj,ne_of_gt->qa,pow_mul->rp,Coprime->rq,le_of_eq->sg,le_of_succ_le->sr,gcd_dvd_right->sN,gcd_dvd_left->sY,le_succ->tq,lt_of_le_of_lt->ui,mul_one->uC,mul_pow->uD,add_assoc->uK,lt_succ_self->uR,succ_ne_self->uT,le_add_right->uU,pow_lt_pow_iff_left->u4,gcd_pos_of_pos_left->u5,lt_of_not_le->u6,pow_zero->vp,mul_lt_mul_right->v4,pow_lt_pow_left->wm,gcd_comm->wW,dvd_refl->wZ,sub_self->w9,gcd_assoc->zm,pow_succ->zB,zero_mul->zE,min_self->zH,two_mul->zZ,one_mul->z0,one_pos->z4
open Nat.Coprime renaming pow->vB,mul_right->vJ
open Ne renaming symm->cq
open Option renaming isSome_iff_exists->qk,none->vT,toList_some->wI,isSome_map->xg,getD_none->xt,bind_some->xw,map->Ag
open Option.some renaming inj->cw
open Or renaming inl->uj,inr->xu
open PyProof renaming noPylong_small->vf
open PyProof.Rows renaming callWith_type1->dh,seqObj->ml,slot_tuple_getitem->mo,envOfC->ud,arrOf->ur,listUpdate_at->uM,AllBare->ve,subscriptTail_builtinR->vj,boot_enumerate->vS,subscriptTail->wq,callWith_builtin1->xr,get?_update_seq->x9,boot_range->yi,slicePart_none->yn,Subscript_->yp,boot_sorted->zo,Call_->zt,iadd_int->zK
open PyProof.Rows.G renaming tupKindC->wF,tupKeyC->xE
open PyProof.Rows.G.KeepsTups renaming refl->An
open PyProof.Rows.IsTup renaming new->Ai
open PyProof.Rows.SortSt renaming mk'->Ae
open PySem renaming wpAny_bind->ae,Addr->ag,Value->ah,Shared->aj,wpAny_pure->ao,Program->bb,starEach->be,wpAny->bf,model->bi,World->bv,sizeLine_eq->bw,Paired->cf,mem_of_lookup->cp,Heap->cr,boot_len->cu,Around->de,Stmt->dm,mainGlobals->dy,FuncData->ez,rawInt->fy,wpAny_newObj_type->gc,keywordEach->gj,wpAny_mono->gq,wpAny_Call_Name_kw->gr,backTo->ie,wpAny_holding->ij,cellsFrom->ik,wpAny_field->im,wpAny_setField->ji,Scope->jj,compEnvC->jm,compareOp->jo,bootBuiltins->jp,wpAny_standAt->jq,attributeBase->jr,backToKw->js,wpAny_typeNameOfWhole_valiter->ju,wpAny_truthy_bool->jv,wpAny_callSpecial?_slot->jw,getMethod->kl,NameKind->kq,wpAny_passesOwn->ll,holding->lp,foldedSetIterable->lq,wpAny_pyIter_enum->lv,wpAny_typeNameOf_valiter->mm,plainObj_wpAny_Assign_Attribute->mn,standAt->mq,codeAny->mr,callWith->mw,wpAny_call_entry->mx,codeAny_mono->nk,behindInMarks->om,Within->ph,swapsWith->pq,wpAny_execs_nil->qu,letOwnedTupleGo->qv,sysModules->rb,assignEach->rc,wpAny_pyIter_tuple->rg,sliceBounds->rn,binaryOp->sd,wpAny_loadPart_at->sJ,wpAny_isOneOf_valiter->sR,wpAny_call->sU,pushCells->sV,strIterType->tz,pushCells_keeps->tF,wpAny_isSubtype_exc->tP,tupleKind->tU,Arguments->tV,recursionLimit->ub,wpAny_newFunctionEnv_cells->uf,wpAny_letOwnedTupleGo_enum->uh,firstArgMember->uk,tupleKind_room_in1->ut,Builtin->uz,wpAny_dictEntries->uG,wpAny_attempt->uH,wpAny_lookBehind->uP,pastItsLine_dict->uQ,noteFrame->uS,setFlight->uV,builtinsNs->vd,Keyword->vg,getItem->vh,typeLookup->vi,wpAny_pyNext_enum_endD->vk,wpAny_specialOf->vy,wpAny_dictEpoch->vD,wpAny_isTrue_Compare1->vE,codeAny_call_function->vF,codeAny_handlers_test->vH,builtinLookup_eq_fast->vI,wpAny_loadName_local->vN,wpAny_loadPart->vO,bindArgs->vP,subscripted->vQ,codeAny_call_builtin->vU,wpAny_seqItems->vV,Params->vW,intBits_pow_le->vY,BindsTo->wb,notedBy->wc,DictEntry->we,wpAny_loadName_cell->wf,wpAt_of_wpAny->wk,wpAny_handleBy_cons->wl,wpAny_handled->wu,entryOfKey->wv,pyNext->wx,IsPart->wA,PyData->wB,IsEnum->wC,Operator->wL,wpAny_assign_Name->wM,wpAny_nsSet1->wO,cLine->wQ,callerA->xf,isTrue->xk,wpAny_execs_cons->xl,assign->xm,Result->xq,checkBuiltinCall->xx,wpAny_madeBy_exc->xy,wpAny_isInstance->xA,Model->xL,seqIndex_of->xM,excClassObj->xO,wpAny_throw->xP,wpAt_bind->xW,typeLookup_type->x0,ItemsOf->yd,wpAny_Name->yg,CmpOp->yh,bindL->yk,bindC->yl,typeOf->yq,call_meets->yr,closureFor->yu,newFunctionEnv->yw,setField->yx,isInstance->yy,ownStreamTells->yz,raisedInstance->yA,arm_exec_Raise->yB,intBits_mul_le->yE,atKey->yJ,wpAny_fieldsOf->yK,storeName->zp,inplaceOp->zr,onTheHeap->zu,spliced->zy,getAttr->zz,setAttr->zA,call->Af,Fin->Am
open PySem.Around renaming frames_deeper->tu,under->wR
open PySem.AutoSeq1 renaming wpAny_loadPart'->mj,list_insert_list_int_val_1->vC
open PySem.Builtin.Dict renaming showsAll->vM,noArgs->z7
open PySem.Builtin.Dict_items renaming ownsTuple->oj,newIterator->xI,dictOf->yW
open PySem.Builtin.List renaming listExtendWith->ki,listFitsIndex->pf,listTooLong->ql,listSameRef->uJ,listItems->vn,listLengthHint->ye,listUpdate->zw
open PySem.Builtin.Range renaming rangeSize->uO,small->z6
open PySem.Builtin.Slice renaming slicePlaces->lh,sliceAdjust->qe,sliceApplied->ug,slicePartIndex->xU,sliceFields->yV
open PySem.Builtin.SmallTypes renaming nextOf->li
open PySem.Builtin.Tuple renaming tupleExact->mi,tupleItemsOf->yo
open PySem.Calls renaming spliced_nil->sh,Name_function_global->tW,spliced_cons->uc
open PySem.CmpOp renaming NotIn->zT,In->Ao
open PySem.Code renaming quiet_builtin->wD,isFrame->wS,frames->zV
open PySem.EntryCells renaming newEntry->wj
open PySem.EqMixed renaming eq_bool_str->yO,eq_str_bool->yP,ne_bool_str->yT,ne_str_bool->yU,eq_int_str->y3,eq_str_int->y6,ne_int_str->zd,ne_str_int->zf
open PySem.EqNone renaming eq_none_none->yL,eq_none_bool->yM,eq_bool_none->yN,ne_none_none->yQ,ne_none_bool->yR,ne_bool_none->yS,eq_none_int->yY,eq_none_str->yZ,eq_int_none->y0,eq_str_none->y4,ne_none_int->y8,ne_none_str->y9,ne_int_none->zc,ne_str_none->ze
open PySem.Expr renaming Call->Al
open PySem.F renaming plainAttrs_list->fh,slot_list_append->fm,type_list_append->fq,slot_dict_valueiterator_next->ip,slot_tuple_iterator_next->ku,excBase_ValueError->pd,args_dict_valueiterator_next_1->sO,entry_dict_valueiterator_next->sP,args_tuple_iterator_next_1->tH,entry_tuple_iterator_next->tS,attr_ValueError->uW,slot_dict_values_iter->vc,slot_dict_values->wH
open PySem.Heap renaming get?_push_of_some->ak,get?_push_size->bg,lt_size->bh,size_push->fk,get?_update_self->iw,get?_update_other->kg,get?_update_ne->ms,SameBut->pp,get?_push_ne->uB,size_update->xG,push->zx,ExtBut->zW
open PySem.Heap.IsSliceOf renaming new->Ab
open PySem.Heap.Ns1 renaming of_empty->wP
open PySem.Heap.SameBut renaming update->qh
open PySem.IsRange renaming new->zU
open PySem.NameKind renaming free->qm,cell->wr
open PySem.Obj renaming mapSeq->fj,data_mapFields->ny,mapFields->on,isFreed_of_fields->sQ,cls_mapFields->wV
open PySem.Paired renaming length->cg
open PySem.PassesOwn renaming leaving->bo
open PySem.SeqAt.EqAt renaming int_str->z8,str_int->z9
open PySem.Str renaming ofString->lu,length->Ac
open PySem.Value renaming ref->cb,none->il,type->jd,builtin->sZ,int->uN,str->xh,isStrOf->yX,isInt->zM,bytes->zQ,float->zS,bool->Aa
open PySem.Value.type renaming inj->yC
open PySem.W renaming Frag->aa,keepIn->eq,mg_of->fw,fnOf->gy,findIn->ig,emptyDict->iu,codeIn->jb,instObj->ke,exmOne->my,WData->mz,callWith_K->nq,kla_obj->oh,methodCall_KW->oq,isFn->qb,Looks->qo,findCls->qz,cellsFrom_some->si,plainGet->sS,length_le_weightAllW->tK,plainGet_of->tN,callWith_K0->tO,nsIn->tT,lookIn->tZ,CodeHd->uq,methodObj->uw,hasDictIn->ux,specialIn->uA,WellAll->vm,envX->vq,takerIn->vv,makesIn->vx,readsIn->vz,kla_fn->v7,codeHd_of_K->wp,codeRec_of->wz,mg_none_of->wJ,plainOver->wN,handedIn->xo,any_some->xp,WRecords->xz,kla_eval->xD,codeHdIn->xJ,exm_one->xX,InstAt->yj,WalkOS->yI
open PySem.W.Codec renaming inInt->kf,encAll->sK,denoteAll->tI,app->wd,withinAll->yb,inLen->z5
open PySem.W.Looks renaming here->nj,ld->sX
open PySem.W.WData renaming weightAll->tJ,int->Ak
open PySem.Within renaming cons->uy,nil->Aj
open Sum renaming inl->ky,inr->wa
open Sum.inl renaming inj->zO
open True renaming intro->je
open UInt8 renaming ofNat->uF,le_iff_toNat_le->vK,toNat_ofNat'->wE,toNat_inj->xZ,toNat_lt->yH
section
inductive Ex2 {A0 A1:Type} (p:A0->A1->Prop):Prop
 |intro(a:A0) (b:A1) (h:p a b):Ex2 p
inductive Ex3 {A0 A1 A2:Type} (p:A0->A1->A2->Prop):Prop
 |intro(a:A0) (b:A1) (c:A2) (h:p a b c):Ex3 p
inductive Ex4 {A0 A1 A2 A3:Type} (p:A0->A1->A2->A3->Prop):Prop
 |intro(a:A0) (b:A1) (c:A2) (d:A3) (h:p a b c d):Ex4 p
inductive Ex5 {A0 A1 A2 A3 A4:Type} (p:A0->A1->A2->A3->A4->Prop):Prop
 |intro(a:A0) (b:A1) (c:A2) (d:A3) (e:A4) (h:p a b c d e):Ex5 p
inductive Ex6 {A0 A1 A2 A3 A4 A5:Type} (p:A0->A1->A2->A3->A4->A5->Prop):Prop
 |intro(a:A0) (b:A1) (c:A2) (d:A3) (e:A4) (f:A5) (h:p a b c d e f):Ex6 p
inductive Ex7 {A0 A1 A2 A3 A4 A5 A6:Type} (p:A0->A1->A2->A3->A4->A5->A6->Prop):Prop
 |intro(a:A0) (b:A1) (c:A2) (d:A3) (e:A4) (f:A5) (g:A6) (h:p a b c d e f g):Ex7 p
inductive Ex8 {A0 A1 A2 A3 A4 A5 A6 A7:Type} (p:A0->A1->A2->A3->A4->A5->A6->A7->Prop):Prop
 |intro(a:A0) (b:A1) (c:A2) (d:A3) (e:A4) (f:A5) (g:A6) (h:A7) (h:p a b c d e f g h):Ex8 p
inductive Ex9 {A0 A1 A2 A3 A4 A5 A6 A7 A8:Type} (p:A0->A1->A2->A3->A4->A5->A6->A7->A8->Prop):Prop
 |intro(a:A0) (b:A1) (c:A2) (d:A3) (e:A4) (f:A5) (g:A6) (h:A7) (i:A8) (h:p a b c d e f g h i):Ex9 p
inductive Ex12 {A0 A1 A2 A3 A4 A5 A6 A7 A8 A9 A10 A11:Type} (p:A0->A1->A2->A3->A4->A5->A6->A7->A8->A9->A10->A11->Prop):Prop
 |intro(a:A0) (b:A1) (c:A2) (d:A3) (e:A4) (f:A5) (g:A6) (h:A7) (i:A8) (j:A9) (k:A10) (l:A11) (h:p a b c d e f g h i j k l):Ex12 p
end
section
namespace L2
open PySem PySem.Spec PyProof.Rows
abbrev Key:=Sum Int Str
def N5:Key->ah->Bool
 | .inl k,v=>zM k v
 | .inr x,v=>yX x v
def rG (w:bv):Key->Int
 | .inl k=>hashInt k
 | .inr x=>hashStr w x
theorem BY:∀{k:Key} {v:ah},N5 k v=true->(∃i t,k=ky i/\v=uN i t)\/(∃x t,k=wa x/\v=xh x t)
 | .inl i,v,h=>by
   obtain⟨t,e⟩:=Value.isInt_shape (k:=i) (v:=v) h;exact .inl ⟨i,t,rfl,e⟩
 | .inr x,v,h=>by
   obtain⟨t,e⟩:=Value.isStrOf_shape (x:=x) (v:=v) h;exact .inr ⟨x,t,rfl,e⟩
theorem WN (i:Int) (t:Tok):N5 (.inl i) (.int i t)=true:=by simp[N5,zM]
theorem WO (x:Str) (t:Tok):N5 (.inr x) (.str x t)=true:=by simp[N5,yX]
theorem gF (a b:Int):decide ((ky a:Key)=ky b)=(a==b):=by
 by_cases e:a=b
 ·subst e;simp
 ·have h:¬(ky a:Key)=ky b:=λq=>e (zO q);rw[decide_eq_false h];exact(beq_eq_false_iff_ne.mpr e).symm
theorem gG (a b:Str):decide ((wa a:Key)=wa b)=decide (a=b):=by
 by_cases e:a=b
 ·subst e;simp
 ·have h:¬(wa a:Key)=wa b:=λq=>e (Sum.inr.inj q);rw[decide_eq_false h,decide_eq_false e]
theorem gH (a:Int) (b:Str):decide ((ky a:Key)=wa b)=false:=decide_eq_false (λq=>nomatch q)
theorem gI (a:Str) (b:Int):decide ((wa a:Key)=ky b)=false:=decide_eq_false (λq=>nomatch q)
def DF (prog:bb) (w:bv):PySem.KeyKind prog w Key where
 is:=N5
 hash:=rG w
 inj:=λv a b ha hb=>by
  rcases BY ha with⟨i,t,rfl,rfl⟩|⟨x,t,rfl,rfl⟩
  ·rcases BY hb with⟨j,u,rfl,e⟩|⟨y,u,rfl,e⟩
   ·injection e with e1 _;rw[e1]
   ·exact nomatch e
  ·rcases BY hb with⟨j,u,rfl,e⟩|⟨y,u,rfl,e⟩
   ·exact nomatch e
   ·injection e with e1 _;rw[e1]
 byValue:=λk v h=>by
  rcases BY h with⟨i,t,rfl,rfl⟩|⟨x,t,rfl,rfl⟩<;>rfl
 pyHash:=λhv h=>by
  rcases BY hv with⟨i,t,rfl,rfl⟩|⟨x,t,rfl,rfl⟩
  ·exact wpAny_pyHash_int h
  ·exact wpAny_pyHash_str h
 eqBool:=λhu hv h=>by
  rcases BY hu with⟨i,t,rfl,rfl⟩|⟨x,t,rfl,rfl⟩
  ·rcases BY hv with⟨j,u,rfl,rfl⟩|⟨y,u,rfl,rfl⟩
   ·rw[gF] at h;exact wpAny_eqBool_int h
   ·rw[gH] at h;exact z8 i t y u _ _ _ _ h
  ·rcases BY hv with⟨j,u,rfl,rfl⟩|⟨y,u,rfl,rfl⟩
   ·rw[gI] at h;exact z9 x t j u _ _ _ _ h
   ·rw[gG] at h;exact wpAny_eqBool_str h
 «strs»:=λk x t v h=>by
  rcases BY h with⟨i,u,rfl,e⟩|⟨y,u,rfl,e⟩
  ·exact nomatch e
  ·injection e with e1 _;subst e1;cases v<;>rfl
theorem QR (prog:bb) (w:bv) (i:Int) (t:Tok):(DF prog w).is (.inl i) (.int i t)=true:=WN i t
theorem QS (prog:bb) (w:bv) (x:Str) (t:Tok):(DF prog w).is (.inr x) (.str x t)=true:=WO x t
inductive V where
 |non|bl (b:Bool)|int (i:Int)|str (x:Str)|byt (b:Array UInt8)|flt (b:UInt64)|ref (a:ag)|ty (n:String)
 deriving DecidableEq
def RelV:V->ah->Prop
 | .non,u=>u=il
 | .bl b,u=>u=Aa b
 | .int i,u=>∃t,u=uN i t
 | .str x,u=>∃t,u=xh x t
 | .byt b,u=>∃t,u=zQ b t
 | .flt b,u=>∃t,u=zS b t
 | .ref a,u=>u=cb a
 | .ty n,u=>u=jd n
abbrev Vals:List V->List ah->Prop:=cf RelV
theorem Vals.length {xs:List V} {us:List ah} (r:Vals xs us):xs.length=us.length:=cg r
theorem Vals.get:∀{xs:List V} {us:List ah} {i:Nat} {x:V},Vals xs us->xs[i]? =some x->∃u,us[i]? =some u/\RelV x u
 |_,_,_,_,.nil,e=>by simp at e
 |_,_,0,_,.cons r _,e=>by simp at e;subst e;exact⟨_,rfl,r⟩
 |_,_,i+1,x,.cons _ t,e=>by
  obtain⟨u,h1,h2⟩:=Vals.get (i:=i) (x:=x) t (by simpa using e);exact⟨u,by simpa using h1,h2⟩
theorem Vals.set {x:V} {u:ah} (r:RelV x u):∀{xs:List V} {us:List ah} (i:Nat),Vals xs us->Vals (xs.set i x) (us.set i u)
 |_,_,_,.nil=>.nil
 |_,_,0,.cons _ t=>.cons r t
 |_,_,i+1,.cons q t=>.cons q (Vals.set r i t)
theorem Vals.append:∀{xs ys:List V} {us ws:List ah},Vals xs us->Vals ys ws->Vals (xs++ys) (us++ws)
 |_,_,_,_,.nil,s=>s
 |_,_,_,_,.cons r t,s=>.cons r (Vals.append t s)
theorem Vals.take:∀{xs:List V} {us:List ah} (n:Nat),Vals xs us->Vals (xs.take n) (us.take n)
 |_,_,0,_=>.nil
 |_,_,_+1,.nil=>.nil
 |_,_,n+1,.cons r t=>.cons r (Vals.take n t)
theorem Vals.drop:∀{xs:List V} {us:List ah} (n:Nat),Vals xs us->Vals (xs.drop n) (us.drop n)
 |_,_,0,r=>r
 |_,_,_+1,.nil=>.nil
 |_,_,n+1,.cons _ t=>Vals.drop n t
def RelO:Option V->Option ah->Prop
 |some v,some u=>RelV v u
 |none,none=>True
 |_,_=>False
def KV {κ:Type}:List (κ×V)->List (κ×ah)->Prop:=cf λ(p:κ×V) (q:κ×ah)=>p.1=q.1/\RelV p.2 q.2
def kV:Key->V
 | .inl i=>.int i
 | .inr x=>.str x
inductive HO where
 |lst (xs:List V)
 |tup (xs:List V)
 |dK (Au:List (Key×V))|dT (Au:List (List Key×V))
 |set (S:Int->Bool) (n:Nat)
 |ins (C dx:ag) (fs:List (Str×V))
 |own (x:ag)
 |xd (fs:List (Str×V))
 |met (f x:ag)
 |rng (lo hi:Int)
 |frz (o:Obj) (u:HO)
 |tbl (ps:Array ah)
 |ext (φ:cr->Prop)
abbrev Hp:=ag->Option HO
def upd (H:Hp) (a:ag) (o:HO):Hp:=λb=>if b=a then some o else H b
theorem upd_same {H:Hp} {a:ag} {o:HO}:upd H a o a=some o:=by unfold upd;rw[Ax rfl]
theorem AE {H:Hp} {a b:ag} {o:HO} (h:b≠a):upd H a o b=H b:=by unfold upd;rw[Ay h]
theorem b8 {H:Hp} {a:ag} {o u:HO}:upd (upd H a o) a u=upd H a u:=by
 funext b;unfold upd;split<;>rfl
theorem B2 {H:Hp} {a b:ag} {o u:HO} (h:H a=some o) (h':H b=some u) (d:o≠u):a≠b:=by
 intro e;subst e;rw[h] at h';exact d (cw h')
theorem AG {H:Hp} {a b:ag} {o:HO} (h:H a=some o) (h':H b=none):a≠b:=by
 intro e;subst e;rw[h] at h';cases h'
section
variable (P:bb) (w:bv)
def ObjOk (H:Hp) (h:cr) (a:ag):HO->Prop
 | .lst xs=>xs.length<=sizeLine/\Ex2 λ(As:List ah) (n:Nat)=>Vals xs As/\h.get? a=some { cls:=.type "list",data:=.seq As.toArray n }
 | .tup xs=>xs.length<=sizeLine/\∃As:List ah,Vals xs As/\IsTup h a As.toArray
 | .dK Au=>Au.length<=sizeLine/\(a==rb)=false/\∃vs,KV Au vs/\h.DictOf (DF P w) a vs
 | .dT Au=>Au.length<=sizeLine/\(a==rb)=false/\∃xs:List (List Key×ag×ah),
  cf (λ(p:List Key×V) (q:List Key×ag×ah)=>p.1=q.1/\H q.2.1=some (.tup (p.1.map kV))/\RelV p.2 q.2.2) Au xs/\
  Ex3 λo es ep=>h.get? a=some o/\o.ExactDict/\o.data= .dict es ep/\es.toList=xs.map (wv (tU (DF P w)))/\(xs.map (·.1)).Nodup
 | .set S n=>h.SetOf (intKind P w) a S n
 | .ins C dx fs=>H dx=some (.own a)/\fs.length<=1000/\dx≠a/\h.get? a=some (ke C dx)/\
  ∃mA,h.Ns1 dx mA/\(∀f,RelO (fs.lookup f) (mA f))/\ph mA (fs.map (·.1))
 | .own _=>∃o,h.get? a=some o
 | .xd fs=>∃mA,h.Ns1 a mA/\∀f,RelO (fs.lookup f) (mA f)
 | .rng lo hi=>Ex3 λt u v=>h.get? a=some { cls:=.type "range",data:=.fields #[.int lo t,.int hi u,.int 1 v] }
 | .frz o u=>h.get? a=some o/\ObjOk H h a u
 | .tbl ps=>h.get? a=some { cls:=.none,data:=.fields ps }
 | .met f x=>h.get? a=some (uw (.ref f) (.ref x))
 | .ext φ=>φ h/\(∃o,h.get? a=some o)/\∀h1 h2:cr,φ h1->(∀o,h1.get? a=some o->h2.get? a=some o)->φ h2
def HOk (H:Hp) (h:cr):Prop:=∀a o,H a=some o->ObjOk P w H h a o
end
section
variable {P:bb} {w:bv} {H H':Hp} {h h':cr} {a:ag} {o:HO}
theorem ObjOk.lt (x:ObjOk P w H h a o):a<h.objs.size:=by
 cases o with
 |lst xs=>obtain⟨_,_,_,_,e⟩:=x;exact bh e
 |tup xs=>obtain⟨_,_,_,p⟩:=x;exact p.lt
 |dK Au=>obtain⟨_,_,_,_,o,_,_,e,_⟩:=x;exact bh e
 |dT Au=>obtain⟨_,_,_,_,o,_,_,e,_⟩:=x;exact bh e
 |set S n=>obtain⟨o,_,_,_,e,_⟩:=x;exact bh e
 |ins C dx fs=>obtain⟨_,_,_,e,_⟩:=x;exact bh e
 |own y=>obtain⟨_,e⟩:=x;exact bh e
 |xd fs=>obtain⟨_,⟨_,_,_,e,_⟩,_⟩:=x;exact bh e
 |rng lo hi=>obtain⟨_,_,_,e⟩:=x;exact bh e
 |frz ob u=>obtain⟨e,_⟩:=x;exact bh e
 |tbl ps=>exact bh (show h.get? a=some _ from x)
 |met f y=>exact bh (show h.get? a=some _ from x)
 |ext φ=>obtain⟨_,⟨_,e⟩,_⟩:=x;exact bh e
theorem cf.mapP {α β:Type} {F G:α->β->Prop}:∀{l₁:List α} {l₂:List β},cf F l₁ l₂->(∀a b,F a b->G a b)->cf G l₁ l₂
 |_,_,.nil,_=>.nil
 |_,_,.cons r t,f=>.cons (f _ _ r) (cf.mapP t f)
theorem cf.imp' {α β:Type} {F G:α->β->Prop} (f:∀a b,F a b->G a b) {l₁:List α} {l₂:List β} (r:cf F l₁ l₂):cf G l₁ l₂:=cf.mapP r f
theorem ObjOk.stay (x:ObjOk P w H h a o) (k:∀b u,(b=a\/H b=some (.own a))->h.get? b=some u->h'.get? b=some u)
 (ho:∀b,H b=some (.own a)->H' b=some (.own a)) (ht:∀b xs,H b=some (.tup xs)->H' b=some (.tup xs)):ObjOk P w H' h' a o:=by
 induction o with
 |lst xs=>obtain⟨z,As,n,r,e⟩:=x;exact⟨z,As,n,r,k _ _ (.inl rfl) e⟩
 |tup xs=>obtain⟨z,As,r,ob,e,c⟩:=x;exact⟨z,As,r,ob,k _ _ (.inl rfl) e,c⟩
 |dK Au=>obtain⟨z,y,vs,r,ob,es,ep,e,c⟩:=x;exact⟨z,y,vs,r,ob,es,ep,k _ _ (.inl rfl) e,c⟩
 |dT Au=>
  obtain⟨z,y,xs,r,ob,es,ep,e,c⟩:=x;exact⟨z,y,xs,cf.mapP r λp q z=>⟨z.1,ht _ _ z.2.1,z.2.2⟩,ob,es,ep,k _ _ (.inl rfl) e,c⟩
 |set S n=>obtain⟨ob,es,ep,t,e,c⟩:=x;exact⟨ob,es,ep,t,k _ _ (.inl rfl) e,c⟩
 |ins C dx fs=>
  obtain⟨d,z,ne,e,mA,⟨od,es,ep,e2,c⟩,r⟩:=x;exact⟨ho _ d,z,ne,k _ _ (.inl rfl) e,mA,⟨od,es,ep,k _ _ (.inr d) e2,c⟩,r⟩
 |own y=>obtain⟨ob,e⟩:=x;exact⟨ob,k _ _ (.inl rfl) e⟩
 |xd fs=>obtain⟨mA,⟨od,es,ep,e,c⟩,r⟩:=x;exact⟨mA,⟨od,es,ep,k _ _ (.inl rfl) e,c⟩,r⟩
 |rng lo hi=>obtain⟨t,u,v,e⟩:=x;exact⟨t,u,v,k _ _ (.inl rfl) e⟩
 |frz ob u ih=>obtain⟨e,q⟩:=x;exact⟨k _ _ (.inl rfl) e,ih q⟩
 |tbl ps=>
  have e:h.get? a=some { cls:=.none,data:=.fields ps }:=x;show h'.get? a=some { cls:=.none,data:=.fields ps };exact k a _ (.inl rfl) e
 |met f y=>
  have e:h.get? a=some (uw (.ref f) (.ref y)):=x;show h'.get? a=some (uw (.ref f) (.ref y));exact k a _ (.inl rfl) e
 |ext φ=>obtain⟨p,⟨o,e⟩,st⟩:=x;exact⟨st _ _ p λo q=>k _ _ (.inl rfl) q,⟨o,k _ _ (.inl rfl) e⟩,st⟩
theorem HOk.lt (x:HOk P w H h) (e:H a=some o):a<h.objs.size:=(x a o e).lt
theorem HOk.fresh (x:HOk P w H h) (e:h.objs.size<=a):H a=none:=by
 cases q:H a with
 |none=>rfl
 |some u=>exact absurd (br (x.lt q) e) (iz _)
theorem HOk.kept (x:HOk P w H h) (k:∀b u,h.get? b=some u->h'.get? b=some u):HOk P w H h':=λa o e=>
 (x a o e).stay (λb u _ q=>k b u q) (λ_ q=>q) λ_ _ q=>q
theorem HOk.laid (x:HOk P w H h) (k:∀b u,h.get? b=some u->h'.get? b=some u) (hp:h.objs.size<=a) (new:ObjOk P w (upd H a o) h' a o):HOk P w (upd H a o) h':=λb u e=>by
 have hn:=x.fresh hp;by_cases hb:b=a
 ·subst hb;rw[upd_same] at e;cases e;exact new
 ·rw[AE hb] at e;exact(x b u e).stay (λc v _ q=>k c v q) (λc q=>by rw[AE (AG q hn)];exact q) λc xs q=>by rw[AE (AG q hn)];exact q
end
def Rd (H:Hp) (a:ag) (u:HO):Prop:=H a=some u\/∃o,H a=some (.frz o u)
theorem Rd.ok {P:bb} {w:bv} {H:Hp} {h:cr} {a:ag} {u:HO} (r:Rd H a u) (x:HOk P w H h):ObjOk P w H h a u:=by
 rcases r with r|⟨o,r⟩
 ·exact x a u r
 ·obtain⟨_,q⟩:=x a _ r;exact q
def Mut:Option HO->Prop
 |some (.lst _)=>True
 |some (.dK _)=>True
 |some (.dT _)=>True
 |some (.set _ _)=>True
 |some (.ins _ _ _)=>True
 |some (.ext _)=>True
 |_=>False
section
variable {P:bb} {w:bv} {H:Hp} {h h':cr} {x e:ag} {o':HO}
theorem HOk.write (ok:HOk P w H h) (mu:Mut (H x)) (he:e=x\/H e=some (.own x)) (k:∀b u,b≠e->h.get? b=some u->h'.get? b=some u) (heo:∃u,h'.get? e=some u)
 (new:ObjOk P w (upd H x o') h' x o'):HOk P w (upd H x o') h':=λb u q=>by
 have nown:∀c y,H c=some (.own y)->c≠x:=λc y r z=>by subst z;rw[r] at mu;exact mu
 have ntup:∀c xs,H c=some (.tup xs)->c≠x:=λc xs r z=>by subst z;rw[r] at mu;exact mu
 by_cases hb:b=x
 ·subst hb;rw[upd_same] at q;cases q;exact new
 ·rw[AE hb] at q;by_cases hbe:b=e
  ·have q':H b=some (.own x):=by
    rcases he with z|z
    ·exact absurd (hbe.trans z) hb
    ·rw[hbe];exact z
   rw[q] at q';cases q';obtain⟨v,hv⟩:=heo;exact⟨v,by rw[hbe];exact hv⟩
  ·refine(ok b u q).stay (λc v hc r=>k c v ?_ r) (λc r=>by rw[AE (nown c b r)];exact r) λc xs r=>by rw[AE (ntup c xs r)];exact r
   rcases hc with rfl|hc
   ·exact hbe
   ·rintro rfl;rcases he with z|z
    ·exact nown c b hc z
    ·rw[hc] at z;cases z;exact hb rfl
end
structure Un (fs ex:List ag) (H H':Hp) (h h':cr):Prop where
 keep:∀b o,h.get? b=some o->H b=none->b∉fs->b∉ex->h'.get? b=some o
 slot:∀b o,h.get? b=some o->H b=none->b∈fs->b∉ex->∃sl,h'.get? b=some { o with slots:=sl }
 free:∀b o,h.get? b=some o->H b=none->b∉ex->H' b=none
 there:∀b o,h.get? b=some o->b∉ex->∃o',h'.get? b=some o'
 tups:∀b xs,H b=some (.tup xs)->H' b=some (.tup xs)
 frzs:∀b o u,H b=some (.frz o u)->H' b=some (.frz o u)
 tbls:∀b ps,H b=some (.tbl ps)->∃more,H' b=some (.tbl (ps++more))
section
variable {fs fs' ex ex':List ag} {H H1 H2:Hp} {h h1 h2 h':cr} {a x e:ag} {o:HO}
theorem Un.any (u:Un fs ex H H1 h h1) {b:ag} {ob:Obj} (q:h.get? b=some ob) (n:H b=none) (hx:b∉ex):∃sl,h1.get? b=some { ob with slots:=sl }:=by
 by_cases hb:b∈fs
 ·exact u.slot b ob q n hb hx
 ·exact⟨ob.slots,u.keep b ob q n hb hx⟩
theorem Un.trans (a:Un fs ex H H1 h h1) (b:Un fs ex H1 H2 h1 h2):Un fs ex H H2 h h2 where
 keep:=λc ob q n hc hx=>b.keep c ob (a.keep c ob q n hc hx) (a.free c ob q n hx) hc hx
 slot:=λc ob q n hc hx=>by
  obtain⟨sl,e1⟩:=a.slot c ob q n hc hx;obtain⟨sl',e2⟩:=b.slot c _ e1 (a.free c ob q n hx) hc hx;exact⟨sl',e2⟩
 free:=λc ob q n hx=>by
  obtain⟨o',e1⟩:=a.there c ob q hx;exact b.free c o' e1 (a.free c ob q n hx) hx
 there:=λc ob q hx=>by
  obtain⟨o',e1⟩:=a.there c ob q hx;exact b.there c o' e1 hx
 tups:=λc xs q=>b.tups c xs (a.tups c xs q)
 frzs:=λc ob xs q=>b.frzs c ob xs (a.frzs c ob xs q)
 tbls:=λc ps q=>by
  obtain⟨m1,e1⟩:=a.tbls c ps q;obtain⟨m2,e2⟩:=b.tbls c _ e1;exact⟨m1++m2,by rw[e2,ww]⟩
theorem Un.kept (k:∀b u,h.get? b=some u->h'.get? b=some u):Un fs ex H H h h':=
 ⟨λb ob q _ _ _=>k b ob q,λb ob q _ _ _=>⟨ob.slots,k b ob q⟩,λ_ _ _ n _=>n,λb ob q _=>⟨ob,k b ob q⟩,λ_ _ q=>q,λ_ _ _ q=>q,λ_ ps q=>⟨#[],by rw[q];simp⟩⟩
theorem Un.refl:Un fs ex H H h h:=Un.kept λ_ _ q=>q
theorem Un.laid (k:∀b u,h.get? b=some u->h'.get? b=some u) (hp:h.objs.size<=a) (hn:H a=none):Un fs ex H (upd H a o) h h' where
 keep:=λb u q _ _ _=>k b u q
 slot:=λb u q _ _ _=>⟨u.slots,k b u q⟩
 free:=λb u q n _=>by rw[AE (cj (br (bh q) hp))];exact n
 there:=λb u q _=>⟨u,k b u q⟩
 tups:=λb xs q=>by rw[AE (AG q hn)];exact q
 frzs:=λb u xs q=>by rw[AE (AG q hn)];exact q
 tbls:=λb ps q=>⟨#[],by rw[AE (AG q hn),q];simp⟩
theorem Un.write (mu:Mut (H x)) (he:e=x\/H e=some (.own x)) (k:∀b u,b≠e->h.get? b=some u->h'.get? b=some u) (heo:∃u,h'.get? e=some u):Un fs ex H (upd H x o) h h':=by
 have hx:∀b,H b=none->b≠x:=λb n z=>by subst z;rw[n] at mu;exact mu
 have hb:∀b,H b=none->b≠e:=λb n z=>by
  subst z;rcases he with r|r
  ·exact hx b n r
  ·rw[n] at r;cases r
 have hm:∀b u,H b=some u->¬Mut (some u)->b≠x:=λb u q nm z=>by subst z;rw[q] at mu;exact nm mu
 refine⟨λb u q n _ _=>k b u (hb b n) q,λb u q n _ _=>⟨u.slots,k b u (hb b n) q⟩,λb u q n _=>by rw[AE (hx b n)];exact n,λb u q _=>?_,
  λb xs q=>by rw[AE (hm b _ q λz=>z)];exact q,λb u xs q=>by rw[AE (hm b _ q λz=>z)];exact q,λb ps q=>⟨#[],by rw[AE (hm b _ q λz=>z),q];simp⟩⟩
 by_cases hbe:b=e
 ·subst hbe;exact heo
 ·exact⟨u,k b u hbe q⟩
theorem Un.mono (u:Un fs ex H H1 h h1) (hs:∀b∈fs,b∈fs') (hx:∀b∈ex,b∈ex'):Un fs' ex' H H1 h h1:=
 ⟨λb ob q n hb he=>u.keep b ob q n (λz=>hb (hs b z)) λz=>he (hx b z),λ_ _ q n _ he=>u.any q n λz=>he (hx _ z),λb ob q n he=>u.free b ob q n λz=>he (hx b z),λb ob q he=>u.there b ob q λz=>he (hx b z),u.tups,u.frzs,u.tbls⟩
end
def trk (h:cr) (H:Hp):List ag:=(jn h.objs.size).filter λa=>(H a).isSome
def NW (h:cr) (H:Hp):cr:=PySem.W.hideAll h (trk h H)
theorem WP (h:cr) (H:Hp):(NW h H).objs.size=h.objs.size:=PySem.W.hideAll_size _ _
theorem X3 {h:cr} {H:Hp} {b:ag} {o:Obj} (e:h.get? b=some o) (n:H b=none):(NW h H).get? b=some o:=
 PySem.W.hideAll_get _ e λhm=>by
  have q:(H b).isSome=true:=(xS.mp hm).2;rw[n] at q;simp at q
theorem b9 {h:cr} {H:Hp} {b:ag} {o:Obj} (e:(NW h H).get? b=some o):h.get? b=some o/\H b=none:=by
 have e':h.get? b=some o:=PySem.W.of_hideAll (trk h H) e;refine⟨e',?_⟩;cases q:H b with
 |none=>rfl
 |some x=>
  have hm:b∈trk h H:=xS.mpr ⟨yf.mpr (bh e'),by simp[q]⟩;have z:(NW h H).get? b=none:=PySem.W.hideAll_none (trk h H) hm;rw[z] at e;cases e
def cA (g h:cr) (L:ag):List (ag×Obj):=(jn h.objs.size).filterMap λa=>if a=L\/(g.get? a).isSome=true then none else(h.get? a).map λo=>(a,o)
def Aq (g h:cr) (L d:ag):List (ag×Obj):=(cA g h L).filter λp=>decide (p.1≠d)
structure Mod (K:aa) (mg:Str->Option ah) (base:cr):Prop where
 kin:K.In base
 glob:base.Ns dy mg
 blt:∃mb,base.Ns vd mb/\∀x:Str,x≠"__name__"->mb x=jp x
 nolimit:base.NoLimit
structure Cx where
 prog:bb
 w:bv
 K:aa
 mg:Str->Option ah
 base:cr
 A:de
 N:List Str
 s_0:aj
 H_0:Hp
 env:Env
 outer:List Env
 stack:List Env
 ex:List ag
 fn:Str->Bool
 calm:Bool
 pn:List (ag×Obj)
 xe:ah->aj->Prop
def frs (l:List Env):List ag:=l.filterMap (·.frame)
abbrev Cx.fs (X:Cx):List ag:=frs X.outer
def Vis (sc:jj) (x:Str):Prop:=sc.names.lookup x=some .local\/sc.names.lookup x=some .cell\/sc.names.lookup x=some .free
def Loc (sc:jj) (x:Str):Prop:=sc.names.lookup x=some .local\/sc.names.lookup x=some .cell
def rH (env:Env) (h:cr) (m:Str->Option ah) (x:Str) (u:ah):Prop:=
 (env.kindOf x=some .local/\m x=some u)\/((env.kindOf x=some .cell\/env.kindOf x=some .free)/\∃c,env.cells.lookup x=some c/\h.IsCell c (some u))
structure Cx.Ok (X:Cx):Prop where
 mod:Mod X.K X.mg X.base
 kind:X.env.scope.kind= .function
 glob:X.env.globals=dy
 blt:X.env.builtins=vd
 above:X.s_0.heap.objs.size<=X.env.locals
 inj:∀x y c,X.env.cells.lookup x=some c->X.env.cells.lookup y=some c->x=y
 has:∀x,(X.env.kindOf x=some .cell\/X.env.kindOf x=some .free)->∃c,X.env.cells.lookup x=some c
 cab:∀x c,X.fn x=true->X.env.cells.lookup x=some c->X.s_0.heap.objs.size<=c
 hd:X.calm=true->X.A.handled=none
 frames:X.A.frames=some X.stack
 stk:X.stack=X.outer\/(X.stack=X.env::X.outer/\X.env.frame=some X.env.locals)
 exf:∀b∈X.ex,b≠X.env.locals/\∀x c,X.env.cells.lookup x=some c->c≠b
 bs:∀b o,X.base.get? b=some o->X.s_0.heap.get? b=some o/\X.H_0 b=none
 bsz:X.base.objs.size<=X.s_0.heap.objs.size
 noex:∀b o,X.base.get? b=some o->b∉X.ex
 exfs:∀b∈X.ex,b∉X.fs
 funs:X.s_0.heap.FunFrames X.base X.outer
 frf:∀b∈X.fs,X.H_0 b=none
structure Inv (X:Cx) (Ap:List (ag×Obj)) (σ:List (Option V)) (H:Hp) (s:aj):Prop where
 ok:X.Ok
 os:s.os=X.s_0.os
 bare:ve s.gens
 base:Un X.fs X.ex X.H_0 H X.s_0.heap s.heap
 loc:∃m,s.heap.Ns X.env.locals m/\∀(i:Nat) (x:Str) (v:V),X.N[i]? =some x->σ[i]? =some (some v)->Vis X.env.scope x->∃u,RelV v u/\rH X.env s.heap m x u
 cell:∀x c,X.env.cells.lookup x=some c->∃v,s.heap.IsCell c v
 free:H X.env.locals=none
 freeC:∀x c,X.env.cells.lookup x=some c->H c=none
 pin:∀p∈X.pn++Ap,s.heap.get? p.1=some p.2/\H p.1=none/\p.1≠X.env.locals/\p.1∉X.fs/\∀v,p.2.data≠.cell v
 hok:HOk X.prog X.w H s.heap
 len:σ.length=X.N.length
section
variable {X:Cx} {Ap:List (ag×Obj)} {σ:List (Option V)} {H H':Hp} {s:aj} {h':cr}
theorem Cx.Ok.nofr (ok:X.Ok) {b:ag} {o:Obj} (e:X.base.get? b=some o):b∉X.fs:=λhb=>by
 have:=(ok.funs.mem hb).1;rw[e] at this;cases this
theorem Inv.bs (I:Inv X Ap σ H s):∀b o,X.base.get? b=some o->s.heap.get? b=some o/\H b=none:=λb o e=>
 ⟨I.base.keep b o (I.ok.bs b o e).1 (I.ok.bs b o e).2 (I.ok.nofr e) (I.ok.noex b o e),I.base.free b o (I.ok.bs b o e).1 (I.ok.bs b o e).2 (I.ok.noex b o e)⟩
theorem Inv.bk (I:Inv X Ap σ H s):∀b o,X.base.get? b=some o->s.heap.get? b=some o:=λb o e=>(I.bs b o e).1
theorem Inv.mod (I:Inv X Ap σ H s):Mod X.K X.mg X.base:=I.ok.mod
theorem Inv.kIn (I:Inv X Ap σ H s):X.K.In s.heap:=I.ok.mod.kin.keeps I.bk
theorem Inv.nolimit (I:Inv X Ap σ H s):s.heap.NoLimit:=I.ok.mod.nolimit.keeps I.bk
theorem Inv.fr (I:Inv X Ap σ H s):∃m,Fr X.base X.env.locals s.heap m:=
 let ⟨m,hn,_⟩:=I.loc
 ⟨m,hn,I.bk,cy I.ok.bsz I.ok.above⟩
theorem Inv.lt (I:Inv X Ap σ H s):X.env.locals<s.heap.objs.size:=let ⟨_,hn,_⟩:=I.loc;hn.lt
theorem Inv.sz (I:Inv X Ap σ H s):X.s_0.heap.objs.size<=s.heap.objs.size:=cy I.ok.above (pj I.lt)
theorem Inv.nofs (I:Inv X Ap σ H s) {a:ag} (h:s.heap.objs.size<=a):a∉X.fs:=λhb=>by
 obtain⟨_,o,ho,_⟩:=I.ok.funs.mem hb;exact absurd (br (bh ho) (cy I.sz h)) (iz _)
theorem Inv.cne (I:Inv X Ap σ H s):∀x c,X.env.cells.lookup x=some c->c≠X.env.locals:=λx c e z=>by
 obtain⟨v,o,ho,hd⟩:=I.cell x c e;obtain⟨m,⟨o',es,ep,ho',hd',_⟩,_⟩:=I.loc;rw[z,ho'] at ho;cases ho;rw[hd'] at hd;cases hd
theorem Inv.funs (I:Inv X Ap σ H s):s.heap.FunFrames X.base X.outer:=by
 have all:∀(l:List Env),(∀b∈frs l,b∈X.fs)->X.s_0.heap.FunFrames X.base l->s.heap.FunFrames X.base l:=by
  intro l;induction l with
  |nil=>intro _ _;trivial
  |cons env r ih=>
   intro hs hl;obtain⟨hk,⟨L,o,hf,hn,ho,hd⟩,hr⟩:=hl;have hL:L∈X.fs:=hs L (by unfold frs;rw[tM,hf];exact bc);obtain⟨sl,e⟩:=I.base.slot L o ho (I.ok.frf L hL) hL λz=>I.ok.exfs L z hL;exact⟨hk,⟨L,_,hf,hn,e,hd⟩,ih (λb hb=>hs b (by unfold frs;rw[tM,hf];exact aq _ hb)) hr⟩
 exact all X.outer (λ_ hb=>hb) I.ok.funs
theorem Inv.stack (I:Inv X Ap σ H s):s.heap.FunFrames X.base X.stack:=by
 rcases I.ok.stk with e|⟨e,hf⟩
 ·rw[e];exact I.funs
 ·rw[e];obtain⟨m,hn,_⟩:=I.loc;refine .cons (by rw[I.ok.kind];decide) hf hn ?_ I.funs;exact Heap.get?_none_of_le (cy I.ok.bsz I.ok.above)
theorem Inv.stkSub (I:Inv X Ap σ H s):∀b∈frs X.stack,b∈X.env.locals::X.fs:=λb hb=>by
 rcases I.ok.stk with e|⟨e,hf⟩
 ·rw[e] at hb;exact aq _ hb
 ·rw[e] at hb;unfold frs at hb;rw[tM,hf] at hb;exact hb
theorem Inv.stkFree (I:Inv X Ap σ H s):∀b∈frs X.stack,H b=none:=λb hb=>by
 rcases bp.mp (I.stkSub b hb) with e|hb
 ·rw[e];exact I.free
 ·obtain⟨_,o,ho,_⟩:=I.ok.funs.mem hb;exact I.base.free b o ho (I.ok.frf b hb) λz=>I.ok.exfs b z hb
theorem Inv.step {g':Array GenState} {t':Nat} {d':Drawn} {ch:List ag} (I:Inv X Ap σ H s)
 (hch:∀b∈ch,(b∈X.ex\/X.s_0.heap.objs.size<=b)/\b≠X.env.locals/\(∀x c,X.env.cells.lookup x=some c->c≠b)/\∀p∈X.pn++Ap,p.1≠b)
 (keep:∀b o,b≠X.env.locals->b∉X.fs->b∉ch->s.heap.get? b=some o->H b=none->h'.get? b=some o)
 (slot:∀b o,b≠X.env.locals->b∈X.fs->b∉ch->s.heap.get? b=some o->H b=none->∃sl,h'.get? b=some { o with slots:=sl }) (free:∀b o,b∉ch->s.heap.get? b=some o->H b=none->H' b=none)
 (there:∀b o,b∉ch->s.heap.get? b=some o->∃o',h'.get? b=some o')
 (tups:∀b xs,H b=some (.tup xs)->H' b=some (.tup xs)) (frzs:∀b o u,H b=some (.frz o u)->H' b=some (.frz o u)) (tbls:∀b ps,H b=some (.tbl ps)->∃more,H' b=some (.tbl (ps++more)))
 (ns:∀m,s.heap.Ns X.env.locals m->h'.Ns X.env.locals m) (hok:HOk X.prog X.w H' h') (hg:ve g'):
 Inv X Ap σ H' { s with heap:=h',gens:=g',drawn:=d',toks:=t' }:=by
 have neL:∀b o,X.s_0.heap.get? b=some o->b≠X.env.locals:=λb o e=>cj (br (bh e) I.ok.above);have neC:∀b o,X.s_0.heap.get? b=some o->b∉X.ex->b∉ch:=λb o e hx hb=>by
  rcases(hch b hb).1 with z|z
  ·exact hx z
  ·exact absurd (br (bh e) z) (iz _)
 have cellK:∀x c,X.env.cells.lookup x=some c->∀v,s.heap.IsCell c v->h'.IsCell c v:=λx c e v ⟨o,ho,hd⟩=>by
  have nch:c∉ch:=λz=>(hch c z).2.2.1 x c e rfl;by_cases hc:c∈X.fs
  ·obtain⟨sl,q⟩:=slot c o (I.cne x c e) hc nch ho (I.freeC x c e);exact⟨_,q,hd⟩
  ·exact⟨o,keep c o (I.cne x c e) hc nch ho (I.freeC x c e),hd⟩
 refine⟨I.ok,I.os,hg,⟨λb o e n hb hx=>?_,λb o e n hb hx=>?_,λb o e n hx=>?_,λb o e hx=>?_,λb xs e=>tups b xs (I.base.tups b xs e),λb o xs e=>frzs b o xs (I.base.frzs b o xs e),λb ps e=>?_⟩,?_,λx c e=>?_,?_,λx c e=>?_,λp hp=>?_,hok,I.len⟩
 ·exact keep b o (neL b o e) hb (neC b o e hx) (I.base.keep b o e n hb hx) (I.base.free b o e n hx)
 ·obtain⟨sl,e1⟩:=I.base.slot b o e n hb hx;obtain⟨sl',e2⟩:=slot b _ (neL b o e) hb (neC b o e hx) e1 (I.base.free b o e n hx);exact⟨sl',e2⟩
 ·obtain⟨o',e1⟩:=I.base.there b o e hx;exact free b o' (neC b o e hx) e1 (I.base.free b o e n hx)
 ·obtain⟨o',e1⟩:=I.base.there b o e hx;exact there b o' (neC b o e hx) e1
 ·obtain⟨m1,e1⟩:=I.base.tbls b ps e;obtain⟨m2,e2⟩:=tbls b _ e1;exact⟨m1++m2,by rw[e2,ww]⟩
 ·obtain⟨m,hn,hl⟩:=I.loc;refine⟨m,ns m hn,λi x v e1 e2 e3=>?_⟩;obtain⟨u,r,l⟩:=hl i x v e1 e2 e3;refine⟨u,r,?_⟩;rcases l with l|⟨k,c,e,z⟩
  ·exact .inl l
  ·exact .inr ⟨k,c,e,cellK x c e _ z⟩
 ·obtain⟨v,z⟩:=I.cell x c e;exact⟨v,cellK x c e v z⟩
 ·obtain⟨m,⟨o,_,_,ho,_⟩,_⟩:=I.loc;exact free _ o (λz=>(hch _ z).2.1 rfl) ho I.free
 ·obtain⟨v,o,ho,hd⟩:=I.cell x c e;exact free c o (λz=>(hch c z).2.2.1 x c e rfl) ho (I.freeC x c e)
 ·obtain⟨e,n,ne,nf,d⟩:=I.pin p hp;have nch:p.1∉ch:=λz=>(hch p.1 z).2.2.2 p hp rfl;exact⟨keep p.1 p.2 ne nf nch e n,free p.1 p.2 nch e n,ne,nf,d⟩
theorem Inv.un {t':Nat} (I:Inv X Ap σ H s) (u:Un X.fs [] H H' s.heap h') (hok:HOk X.prog X.w H' h'):Inv X Ap σ H' { s with heap:=h',toks:=t' }:=by
 obtain⟨m,⟨o,es,ep,ho,r⟩,_⟩:=id I.loc;obtain⟨sl,hL⟩:=u.any ho I.free (by simp);exact I.step (g':=s.gens) (d':=s.drawn) (ch:=[]) (λ_ z=>nomatch z) (λb o _ hb _ e n=>u.keep b o e n hb (by simp)) (λb o _ hb _ e n=>u.slot b o e n hb (by simp)) (λb o _ e n=>u.free b o e n (by simp)) (λb o _ e=>u.there b o e (by simp)) u.tups u.frzs u.tbls (λm' hm=>by
  obtain⟨o',es',ep',ho',r'⟩:=hm;rw[ho] at ho';cases ho';exact⟨_,es',ep',hL,r'⟩) hok I.bare
theorem Inv.call {g':Array GenState} {t':Nat} {d':Drawn} {ch:List ag} (I:Inv X Ap σ H s) (u:Un (frs X.stack) ch H H' s.heap h') (hok:HOk X.prog X.w H' h') (hg:ve g')
 (hch:∀b∈ch,(b∈X.ex\/X.s_0.heap.objs.size<=b)/\b≠X.env.locals/\(∀x c,X.env.cells.lookup x=some c->c≠b)/\∀p∈X.pn++Ap,p.1≠b):
 Inv X Ap σ H' { s with heap:=h',gens:=g',drawn:=d',toks:=t' }:=by
 obtain⟨m,⟨o,es,ep,ho,r⟩,_⟩:=id I.loc;obtain⟨sl,hL⟩:=u.any ho I.free λz=>(hch _ z).2.1 rfl;exact I.step (ch:=ch) hch (λb o hL hb hc e n=>u.keep b o e n (λz=>(bp.mp (I.stkSub b z)).elim hL hb) hc) (λb o _ _ hc e n=>u.any e n hc) (λb o hc e n=>u.free b o e n hc) (λb o hc e=>u.there b o e hc) u.tups u.frzs u.tbls (λm' hm=>by
  obtain⟨o',es',ep',ho',r'⟩:=hm;rw[ho] at ho';cases ho';exact⟨_,es',ep',hL,r'⟩) hok hg
theorem Inv.turned {t':Nat} {it:ag} (I:Inv X Ap σ H s) (k:∀b o,b≠it->s.heap.get? b=some o->h'.get? b=some o) (hn:H it=none) (hL:it≠X.env.locals)
 (h1:it∈X.ex\/X.s_0.heap.objs.size<=it) (h2:∀x c,X.env.cells.lookup x=some c->c≠it) (h3:∀p∈X.pn++Ap,p.1≠it):Inv X Ap σ H { s with heap:=h',toks:=t' }:=by
 have nit:∀b u,H b=some u->b≠it:=λb u e z=>by rw[z,hn] at e;cases e
 refine I.step (g':=s.gens) (d':=s.drawn) (ch:=[it]) (λb hb=>?_) (λb o _ _ hc e _=>k b o (λz=>hc (by simp[z])) e) (λb o _ _ hc e _=>⟨o.slots,k b o (λz=>hc (by simp[z])) e⟩) (λ_ _ _ _ n=>n)
  (λb o hc e=>⟨o,k b o (λz=>hc (by simp[z])) e⟩) (λ_ _ e=>e) (λ_ _ _ e=>e) (λb ps e=>⟨#[],by rw[e];simp⟩) (λm hm=>?_) (λb u e=>?_) I.bare
 ·have e:b=it:=by simpa using hb
  subst e;exact⟨h1,hL,h2,h3⟩
 ·obtain⟨o,es,ep,ho,r⟩:=hm;exact⟨o,es,ep,k _ o (cq hL) ho,r⟩
 ·refine(I.hok b u e).stay (λc v hc q=>k c v ?_ q) (λ_ q=>q) λ_ _ q=>q;rcases hc with z|z
  ·rw[z];exact nit b u e
  ·exact nit c _ z
theorem Inv.tok (I:Inv X Ap σ H s) (t:Nat):Inv X Ap σ H { s with toks:=t }:=I.un (h':=s.heap) (t':=t) Un.refl I.hok
theorem Inv.kept {t':Nat} (I:Inv X Ap σ H s) (k:∀b u,s.heap.get? b=some u->h'.get? b=some u):Inv X Ap σ H { s with heap:=h',toks:=t' }:=I.un (Un.kept k) (I.hok.kept k)
theorem Inv.laid {a:ag} {o:HO} {t':Nat} (I:Inv X Ap σ H s) (k:∀b u,s.heap.get? b=some u->h'.get? b=some u) (hp:s.heap.objs.size<=a) (new:ObjOk X.prog X.w (upd H a o) h' a o):
 Inv X Ap σ (upd H a o) { s with heap:=h',toks:=t' }:=I.un (Un.laid k hp (I.hok.fresh hp)) (I.hok.laid k hp new)
theorem Inv.write {x e:ag} {o:HO} {t':Nat} (I:Inv X Ap σ H s) (mu:Mut (H x)) (he:e=x\/H e=some (.own x)) (k:∀b u,b≠e->s.heap.get? b=some u->h'.get? b=some u) (heo:∃u,h'.get? e=some u)
 (new:ObjOk X.prog X.w (upd H x o) h' x o):Inv X Ap σ (upd H x o) { s with heap:=h',toks:=t' }:=I.un (Un.write mu he k heo) (I.hok.write mu he k heo new)
theorem Inv.weak {σ':List (Option V)} (I:Inv X Ap σ H s) (hl:σ'.length=σ.length) (w:∀(i:Nat) v,σ'[i]? =some (some v)->σ[i]? =some (some v)):Inv X Ap σ' H s:=
 ⟨I.ok,I.os,I.bare,I.base,let ⟨m,hn,hl'⟩:=I.loc;⟨m,hn,λi x v e1 e2 e3=>hl' i x v e1 (w i v e2) e3⟩,I.cell,I.free,I.freeC,I.pin,I.hok,hl.trans I.len⟩
theorem Inv.pins_of {pins':List (ag×Obj)} (I:Inv X Ap σ H s) (h:∀p∈pins',s.heap.get? p.1=some p.2/\H p.1=none/\p.1≠X.env.locals/\p.1∉X.fs/\∀v,p.2.data≠.cell v):Inv X pins' σ H s:=
 ⟨I.ok,I.os,I.bare,I.base,I.loc,I.cell,I.free,I.freeC,λp hp=>(cn.mp hp).elim (λz=>I.pin p (tj _ z)) (h p),I.hok,I.len⟩
theorem MC {N:List Str} (hN:N.Nodup) {i j:Nat} {x:Str} (a:N[i]? =some x) (b:N[j]? =some x):i=j:=by
 obtain⟨h1,e1⟩:=aw.mp a;obtain⟨h2,e2⟩:=aw.mp b;exact(xj hN).mp (e1.trans e2.symm)
theorem N6 {M:xL} {A:de} {E:ah->aj->Prop} {i:Nat} {x:Str} {v:V} {u:ah} {Q:Unit->aj->Prop} (I:Inv X Ap σ H s) (hN:X.N.Nodup) (hi:X.N[i]? =some x) (hx:Loc X.env.scope x) (r:RelV v u)
 (h:∀s',Inv X Ap (σ.set i (some v)) H s'->(∃a,pp a s.heap s'.heap/\(a=X.env.locals\/X.env.cells.lookup x=some a))->Q () s') (hf:X.fn x=true\/X.env.scope.names.lookup x=some .local:=by first|exact .inl rfl|exact .inr rfl|assumption):bf M A (zp X.env x u) Q E s:=by
 obtain⟨m,hn,hl⟩:=id I.loc;have hcls:(X.env.scope.kind==.class||(X.env.scope.kind==.module&&X.env.locals != X.env.globals))=false:=by rw[I.ok.kind];rfl
 have hiσ:i<σ.length:=by rw[I.len];exact(aw.mp hi).1
 have cne:=I.cne;have tracked:∀{a:ag} {h':cr},(∃o,s.heap.get? a=some o/\H a=none)->pp a s.heap h'->HOk X.prog X.w H h':=λ{a h'} ha hs b ob e=>by
  obtain⟨_,_,hfree⟩:=ha;refine(I.hok b ob e).stay (λc w' hc q=>(hs.2 c ?_).trans q) (λ_ q=>q) λ_ _ q=>q;rintro rfl;rcases hc with rfl|hc
  ·rw[hfree] at e;cases e
  ·rw[hfree] at hc;cases hc
 rcases hx with hk|hk
 ·refine wpAny_storeName_local hk hn (λh' hn' hs=>?_) hcls;obtain⟨oL,_,_,hoL,_⟩:=id hn;refine h _ ⟨I.ok,I.os,I.bare,⟨λb o e n hb hx=>?_,λb o e n hb hx=>?_,I.base.free,λb o e hx=>?_,I.base.tups,I.base.frzs,I.base.tbls⟩,⟨_,hn',λj y v' e1 e2 e3=>?_⟩,λy c e=>?_,I.free,I.freeC,λp hp=>?_,tracked ⟨oL,hoL,I.free⟩ hs,by simpa using I.len⟩ ⟨_,hs,.inl rfl⟩
  ·exact(hs.2 b (cj (br (bh e) I.ok.above))).trans (I.base.keep b o e n hb hx)
  ·obtain⟨sl,e1⟩:=I.base.slot b o e n hb hx;exact⟨sl,(hs.2 b (cj (br (bh e) I.ok.above))).trans e1⟩
  ·obtain⟨o',e1⟩:=I.base.there b o e hx;exact⟨o',(hs.2 b (cj (br (bh e) I.ok.above))).trans e1⟩
  ·by_cases hj:j=i
   ·subst hj;rw[hi] at e1;cases e1;rw[ng hiσ] at e2;cases e2;exact⟨u,r,.inl ⟨hk,by simp⟩⟩
   ·rw[tm (cq hj)] at e2;obtain⟨u',r',q⟩:=hl j y v' e1 e2 e3;refine⟨u',r',?_⟩;rcases q with⟨k,e⟩|⟨k,c,e,z⟩
    ·refine .inl ⟨k,?_⟩;have:y≠x:=λe=>hj (MC hN e1 (e▸hi));simp[this,e]
    ·exact .inr ⟨k,c,e,z.sameBut hs (cne y c e)⟩
  ·obtain⟨w',z⟩:=I.cell y c e;exact⟨w',z.sameBut hs (cne y c e)⟩
  ·obtain⟨e,n,ne,nf,d⟩:=I.pin p hp;exact⟨(hs.2 p.1 ne).trans e,n,ne,nf,d⟩
 ·have hfn:X.fn x=true:=by
   rcases hf with z|z
   ·exact z
   ·rw[z] at hk;cases hk
  obtain⟨c,hc⟩:=I.ok.has x (.inl hk);obtain⟨w',z⟩:=I.cell x c hc;refine wpAny_storeName_cell I.ok.kind hk hc z (λh' hc' hs=>?_);obtain⟨oc,hoc,hocd⟩:=id z;refine h { s with heap:=h' } ⟨I.ok,I.os,I.bare,⟨λb o e n hb hx=>?_,λb o e n hb hx=>?_,I.base.free,λb o e hx=>?_,I.base.tups,I.base.frzs,I.base.tbls⟩,⟨m,hn.sameBut hs (cq (cne x c hc)),λj y v' e1 e2 e3=>?_⟩,λy c' e=>?_,I.free,I.freeC,λp hp=>?_,tracked ⟨oc,hoc,I.freeC x c hc⟩ hs,by simpa using I.len⟩ ⟨c,hs,.inr hc⟩
  ·exact(hs.2 b (cj (br (bh e) (I.ok.cab x c hfn hc)))).trans (I.base.keep b o e n hb hx)
  ·obtain⟨sl,e1⟩:=I.base.slot b o e n hb hx;exact⟨sl,(hs.2 b (cj (br (bh e) (I.ok.cab x c hfn hc)))).trans e1⟩
  ·obtain⟨o',e1⟩:=I.base.there b o e hx;exact⟨o',(hs.2 b (cj (br (bh e) (I.ok.cab x c hfn hc)))).trans e1⟩
  ·by_cases hj:j=i
   ·subst hj;rw[hi] at e1;cases e1;rw[ng hiσ] at e2;cases e2;exact⟨u,r,.inr ⟨.inl hk,c,hc,hc'⟩⟩
   ·rw[tm (cq hj)] at e2;obtain⟨u',r',q⟩:=hl j y v' e1 e2 e3;refine⟨u',r',?_⟩;rcases q with q|⟨k,c',e,z'⟩
    ·exact .inl q
    ·refine .inr ⟨k,c',e,z'.sameBut hs ?_⟩;rintro rfl;exact hj (MC hN e1 (I.ok.inj _ _ _ e hc▸hi))
  ·by_cases hcc:c'=c
   ·subst hcc;exact⟨_,hc'⟩
   ·obtain⟨w2,z2⟩:=I.cell y c' e;exact⟨w2,z2.sameBut hs hcc⟩
  ·obtain⟨e,n,ne,nf,d⟩:=I.pin p hp;refine⟨(hs.2 p.1 ?_).trans e,n,ne,nf,d⟩;intro q;rw[q,hoc] at e;have q':oc=p.2:=cw e;exact d w' (by rw[←q'];exact hocd)
theorem JA {M:xL} {A:de} {E:ah->aj->Prop} {i:Nat} {x:Str} {v:V} {u:ah} {Q:Unit->aj->Prop} (I:Inv X Ap σ H s) (hN:X.N.Nodup) (hi:X.N[i]? =some x) (hx:Loc X.env.scope x) (r:RelV v u)
 (h:∀s',Inv X Ap (σ.set i (some v)) H s'->Q () s') (hf:X.fn x=true\/X.env.scope.names.lookup x=some .local:=by first|exact .inl rfl|exact .inr rfl|assumption):bf M A (zp X.env x u) Q E s:=
 N6 I hN hi hx r (λs' I' _=>h s' I') hf
theorem Inv.call' {s':aj} {ch:List ag} (I:Inv X Ap σ H s) (ho:s'.os=s.os) (u:Un (frs X.stack) ch H H' s.heap s'.heap) (hok:HOk X.prog X.w H' s'.heap) (hg:ve s'.gens)
 (hch:∀b∈ch,(b∈X.ex\/X.s_0.heap.objs.size<=b)/\b≠X.env.locals/\(∀x c,X.env.cells.lookup x=some c->c≠b)/\∀p∈X.pn++Ap,p.1≠b):Inv X Ap σ H' s':=by
 obtain⟨h',g',d',t',o'⟩:=s';have e:o'=s.os:=ho;subst e;exact I.call (g':=g') (t':=t') (d':=d') u hok hg hch
end
abbrev XK:=ah->Option ag->Hp->Prop
abbrev St:=List (Option V)
abbrev VK:=V->Hp->Prop
abbrev TE:=St->Hp->VK->Prop
abbrev TT:=St->Hp->(Bool->Hp->Prop)->Prop
abbrev TA:=St->Hp->(List V->Hp->Prop)->Prop
structure Ends where
 nx:St->Hp->Prop
 rt:VK
 bk:St->Hp->Prop:=λ_ _=>False
 ct:St->Hp->Prop:=λ_ _=>False
abbrev TS:=Ends->St->Hp->Prop
def EP (X:Cx) (Ap:List (ag×Obj)) (σ:St) (Q:VK) (u:ah) (s':aj):Prop:=Ex2 λv H'=>Inv X Ap σ H' s'/\RelV v u/\Q v H'
def TP (X:Cx) (Ap:List (ag×Obj)) (σ:St) (Q:Bool->Hp->Prop) (b:Bool) (s':aj):Prop:=∃H',Inv X Ap σ H' s'/\Q b H'
def AP (X:Cx) (Ap:List (ag×Obj)) (σ:St) (Q:List V->Hp->Prop) (us:List ah) (s':aj):Prop:=Ex2 λvs H'=>Inv X Ap σ H' s'/\Vals vs us/\Q vs H'
def SP (X:Cx) (Ap:List (ag×Obj)) (D:Ends) (f:Flow) (s':aj):Prop:=
 match f with
 | .next=>Ex2 λσ' H'=>Inv X Ap σ' H' s'/\D.nx σ' H'
 | .brk=>Ex2 λσ' H'=>Inv X Ap σ' H' s'/\D.bk σ' H'
 | .cont=>Ex2 λσ' H'=>Inv X Ap σ' H' s'/\D.ct σ' H'
 | .ret u=>Ex3 λv σ' H'=>Inv X Ap σ' H' s'/\RelV v u/\D.rt v H'
def PE (X:Cx) (e:Expr) (t:TE):Prop:=
 ∀(Ap:List (ag×Obj)) (s:aj) (σ:St) (H:Hp) (Q:VK),Inv X Ap σ H s->t σ H Q->bf (bi X.prog X.w) X.A (eval e X.env) (EP X Ap σ Q) X.xe s
def PT (X:Cx) (e:Expr) (t:TT):Prop:=
 ∀(Ap:List (ag×Obj)) (s:aj) (σ:St) (H:Hp) (Q:Bool->Hp->Prop),Inv X Ap σ H s->t σ H Q->bf (bi X.prog X.w) X.A (xk e X.env (eval e X.env)) (TP X Ap σ Q) X.xe s
def PW (X:Cx) (e:Expr) (t:TT):Prop:=
 ∀(whole:Sem ah) (Ap:List (ag×Obj)) (s:aj) (σ:St) (H:Hp) (Q:Bool->Hp->Prop),Inv X Ap σ H s->t σ H Q->bf (bi X.prog X.w) X.A (xk e X.env whole) (TP X Ap σ Q) X.xe s
theorem PW.pt {X:Cx} {e:Expr} {t:TT} (h:PW X e t):PT X e t:=h _
def PA (X:Cx) (es:List Expr) (t:TA):Prop:=
 ∀(pos:Pos) (Ap:List (ag×Obj)) (s:aj) (σ:St) (H:Hp) (Q:List V->Hp->Prop),Inv X Ap σ H s->t σ H Q->bf (bi X.prog X.w) X.A (zy (ie pos (be es X.env))) (AP X Ap σ Q) X.xe s
def PS (X:Cx) (st:dm) (t:TS):Prop:=
 ∀(Ap:List (ag×Obj)) (s:aj) (σ:St) (H:Hp) (D:Ends),Inv X Ap σ H s->t D σ H->bf (bi X.prog X.w) X.A (exec st X.env) (SP X Ap D) X.xe s
def PSs (X:Cx) (st:List dm) (t:TS):Prop:=
 ∀(Ap:List (ag×Obj)) (s:aj) (σ:St) (H:Hp) (D:Ends),Inv X Ap σ H s->t D σ H->bf (bi X.prog X.w) X.A (execs st X.env) (SP X Ap D) X.xe s
theorem thn {α:Type} {t:Sem α} {Q Q':α->aj->Prop} {M:xL} {A:de} {E:ah->aj->Prop} {s:aj} (h:bf M A t Q E s) (hQ:∀a s,Q a s->Q' a s):bf M A t Q' E s:=gq h hQ λ_ _ x=>x
section
variable {X:Cx}
theorem bin {a b:Expr} {ta tb:TE} (ha:PE X a ta) (hb:PE X b tb) {Ap:List (ag×Obj)} {s:aj} {σ:St} {H:Hp} {R:V->V->Hp->Prop} (I:Inv X Ap σ H s) (h:ta σ H λx H1=>tb σ H1 λy H2=>R x y H2)
 {α:Type} {Q:α->aj->Prop} {f:ah->ah->Sem α}
 (hf:∀v u s2 x y H2,Inv X Ap σ H2 s2->RelV x v->RelV y u->R x y H2->bf (bi X.prog X.w) X.A (f v u) Q X.xe s2):
 bf (bi X.prog X.w) X.A (eval a X.env) (λv s₁=>bf (bi X.prog X.w) X.A (eval b X.env) (λu s₂=>bf (bi X.prog X.w) X.A (f v u) Q X.xe s₂) X.xe s₁) X.xe s:=by
 refine thn (ha Ap s σ H _ I h) λv s1 ⟨x,H1,I1,r1,q1⟩=>?_;refine thn (hb Ap s1 σ H1 _ I1 q1) λu s2 ⟨y,H2,I2,r2,q2⟩=>?_;exact hf v u s2 x y H2 I2 r1 r2 q2
inductive VarAt (o:Option (Option V)) (Q:V->Prop):Prop
 |intro(v:V) (e:o=some (some v)) (h:Q v):VarAt o Q
inductive BlAt (x:V) (Q:Bool->Prop):Prop
 |intro(c:Bool) (e:x= .bl c) (h:Q c):BlAt x Q
inductive I1At (x:V) (Q:Int->Prop):Prop
 |intro(i:Int) (e:x= .int i) (h:Q i):I1At x Q
inductive I2At (x y:V) (Q:Int->Int->Prop):Prop
 |intro(i j:Int) (e:x= .int i) (e':y= .int j) (h:Q i j):I2At x y Q
def BO (i:Nat):TE:=λσ H Q=>VarAt σ[i]? λv=>Q v H
def tC (v:V):TE:=λ_ H Q=>Q v H
theorem gJ {i:Nat} {x:Str} {pos:Pos} (hN:X.N[i]? =some x) (hv:Vis X.env.scope x) (hd:(x==("__debug__":Str))=false:=by decide) (hcd:(x==("__classdict__":Str))=false:=by decide):PE X (.Name x pos) (BO i):=by
 intro Ap s σ H Q I h;obtain⟨v,e,h⟩:=h;obtain⟨m,hn,hl⟩:=I.loc;obtain⟨u,r,l⟩:=hl i x v hN e hv;have fin:EP X Ap σ Q u s:=⟨v,H,I,r,h⟩
 rcases l with⟨hk,hm⟩|⟨hk,c,hc,hcell⟩
 ·exact yg (vN I.ok.kind hk hn hm fin) hd
 ·rcases hk with hk|hk
  ·exact yg (wf I.ok.kind hk hc hcell fin) hd
  ·exact yg (wpAny_loadName_free I.ok.kind hk hc hcell fin hcd) hd
theorem AI {i j pos}:PE X (.Constant (.int i) j pos) (tC (.int i)):=λ_ _ _ H _ I h=>wpAny_Constant_int ⟨.int i,H,I.tok _,⟨_,rfl⟩,h⟩
theorem MD {b j pos}:PE X (.Constant (.bool b) j pos) (tC (.bl b)):=λ_ _ _ H _ I h=>Constant_bool ⟨.bl b,H,I,rfl,h⟩
theorem SK {j pos}:PE X (.Constant .none j pos) (tC .non):=λ_ _ _ H _ I h=>Constant_none ⟨.non,H,I,rfl,h⟩
theorem AU {x j pos}:PE X (.Constant (.str x) j pos) (tC (.str x)):=λ_ _ _ H _ I h=>Calls.Constant_str ⟨.str x,H,I.tok _,⟨_,rfl⟩,h⟩
def Gl (X:Cx) (x:Str):Prop:=X.env.kindOf x=some .globalImplicit
theorem ET {E:ah->aj->Prop} {Ap:List (ag×Obj)} {s:aj} {σ:St} {H:Hp} {x:Str} {u:ah} {pos:Pos} {Q:ah->aj->Prop} (I:Inv X Ap σ H s) (hg:Gl X x) (hm:X.mg x=some u) (h:Q u s)
 (hd:(x==("__debug__":Str))=false:=by decide):bf (bi X.prog X.w) X.A (eval (.Name x pos) X.env) Q E s:=
 tW I.ok.kind hg (Calls.loadGlobal_global (by rw[I.ok.glob];exact I.mod.glob.keeps I.bk) hm h) hd
theorem EJ {E:ah->aj->Prop} {Ap:List (ag×Obj)} {s:aj} {σ:St} {H:Hp} {x:Str} {u:ah} {pos:Pos} {Q:ah->aj->Prop} (I:Inv X Ap σ H s) (hg:Gl X x) (hm:X.mg x=none) (hv:jp x=some u) (h:Q u s)
 (hn:x≠"__name__":=by decide) (hd:(x==("__debug__":Str))=false:=by decide):bf (bi X.prog X.w) X.A (eval (.Name x pos) X.env) Q E s:=by
 obtain⟨mb,h1,h2⟩:=I.mod.blt;exact tW I.ok.kind hg (Calls.loadGlobal_builtin (by rw[I.ok.glob];exact I.mod.glob.keeps I.bk) hm (by rw[I.ok.blt];exact h1.keeps I.bk) ((h2 x hn).trans hv) h) hd
theorem O9 {x:Str} {v:V} {u:ah} {pos:Pos} (hg:Gl X x) (hm:X.mg x=some u) (r:RelV v u) (hd:(x==("__debug__":Str))=false:=by decide):PE X (.Name x pos) (tC v):=
 λ_ _ _ H _ I h=>ET I hg hm ⟨v,H,I,r,h⟩ hd
variable {a b:Expr} {ta tb:TE} {pos:Pos}
def PC (X:Cx) (op:yh) (a b:Expr) (t:TE):Prop:=
 ∀(Ap:List (ag×Obj)) (s:aj) (σ:St) (H:Hp) (Q:VK),Inv X Ap σ H s->t σ H Q->
  bf (bi X.prog X.w) X.A (eval a X.env) (λv s₁=>bf (bi X.prog X.w) X.A (eval b X.env) (λu s₂=>bf (bi X.prog X.w) X.A (jo op v u) (EP X Ap σ Q) X.xe s₂) X.xe s₁) X.xe s
theorem X4 (b:Expr) {op:yh} (h:op≠.In) (h2:op≠.NotIn):om op b=false:=by
 have e1:(op==Ao)=false:=by cases op<;>first|rfl|exact absurd rfl h
 have e2:(op==zT)=false:=by cases op<;>first|rfl|exact absurd rfl h2
 cases b<;>simp[om,e1,e2]
def tB (t:TE):TT:=λσ H Q=>t σ H λx H1=>BlAt x λc=>Q c H1
theorem X5 {op:yh} {t:TE} (h:PC X op a b t) (h1:om op b=false:=by first|exact X4 _ (by decide) (by decide)|rfl):PT X (.Compare a [op] [b] pos) (tB t):=by
 intro Ap s σ H Q I hw;refine vE (thn (h Ap s σ H _ I hw) λv s1 h1=>thn h1 λu s2 h2=>thn h2 λc s3 ⟨x,H1,I1,r1,q1⟩=>?_) h1;obtain⟨d,rfl,q⟩:=q1;cases r1;exact jv ⟨H1,I1,q⟩
theorem C5 {e:Expr} {t:TE} (h:PE X e t) (he:∀whole,xk e X.env whole=(do let v←whole;mq e.pos;lp [v] (truthy v)):=by intro _;rfl):PT X e (tB t):=by
 intro Ap s σ H Q I hw;refine isTrue_plain (thn (h Ap s σ H _ I hw) λv s1 ⟨x,H1,I1,r1,q1⟩=>?_) (he _);obtain⟨d,rfl,q⟩:=q1;cases r1;exact jv ⟨H1,I1,q⟩
variable {tA tB':TT} {Aq:List Expr}
def cB (t u:TT):TT:=λσ H Q=>t σ H λc H1=>if c=true then u σ H1 Q else Q false H1
def tOr (t u:TT):TT:=λσ H Q=>t σ H λc H1=>if c=true then Q true H1 else u σ H1 Q
def lG (t:TT):TT:=λσ H Q=>t σ H λc H1=>Q (!c) H1
theorem EU (ha:PT X a tA):PW X (.BoolOp .And [a] pos) tA:=by
 intro wh Ap s σ H Q I h;refine isTrue_and (thn (ha Ap s σ H Q I h) λc s1 e=>?_);cases c with
 |true=>exact isTrue_and_nil e
 |false=>exact e
theorem JV (ha:PT X a tA):PW X (.BoolOp .Or [a] pos) tA:=by
 intro wh Ap s σ H Q I h;refine isTrue_or (thn (ha Ap s σ H Q I h) λc s1 e=>?_);cases c with
 |false=>exact isTrue_or_nil e
 |true=>exact e
theorem GJ (ha:PT X a tA) (hb:PW X (.BoolOp .And (b::Aq) pos) tB'):PW X (.BoolOp .And (a::b::Aq) pos) (cB tA tB'):=by
 intro wh Ap s σ H Q I h;refine isTrue_and (thn (ha Ap s σ H _ I h) λc s1 ⟨H1,I1,q1⟩=>?_);cases c with
 |true=>exact hb wh Ap s1 σ H1 Q I1 q1
 |false=>exact⟨H1,I1,q1⟩
theorem N7 (ha:PT X a tA) (hb:PW X (.BoolOp .Or (b::Aq) pos) tB'):PW X (.BoolOp .Or (a::b::Aq) pos) (tOr tA tB'):=by
 intro wh Ap s σ H Q I h;refine isTrue_or (thn (ha Ap s σ H _ I h) λc s1 ⟨H1,I1,q1⟩=>?_);cases c with
 |true=>exact⟨H1,I1,q1⟩
 |false=>exact hb wh Ap s1 σ H1 Q I1 q1
theorem D0 (ha:PT X a tA):PT X (.UnaryOp .Not a pos) (lG tA):=by
 intro Ap s σ H Q I h;exact isTrue_not (ha Ap s σ H (λc H1=>Q (!c) H1) I h)
def lH (ta tb:TE):TE:=λσ H Q=>ta σ H λx H1=>BlAt x λc=>if c=true then tb σ H1 Q else Q (.bl false) H1
theorem X7 {op} {t:TE} (h:PE X a t):PE X (.BoolOp op [a] pos) t:=λAp s σ H Q I hw=>BoolOp_one (h Ap s σ H Q I hw)
theorem X9 (ha:PE X a ta) (hb:PE X (.BoolOp .And (b::Aq) pos) tb):PE X (.BoolOp .And (a::b::Aq) pos) (lH ta tb):=by
 intro Ap s σ H Q I h;refine BoolOp_and (thn (ha Ap s σ H _ I h) λv s1 ⟨x,H1,I1,r1,q1⟩=>?_);obtain⟨c,rfl,q1⟩:=q1;cases r1;refine jv ?_;cases c with
 |true=>exact hb Ap s1 σ H1 Q I1 q1
 |false=>exact⟨.bl false,H1,I1,rfl,q1⟩
def tIf (t:TT) (ta tb:TE):TE:=λσ H Q=>t σ H λc H1=>if c=true then ta σ H1 Q else tb σ H1 Q
theorem QT {c:Expr} (hc:PT X c tA) (ha:PE X a ta) (hb:PE X b tb):PE X (.IfExp c a b pos) (tIf tA ta tb):=by
 intro Ap s σ H Q I h;refine wpAny_IfExp (thn (hc Ap s σ H _ I h) λd s1 ⟨H1,I1,q1⟩=>?_);cases d with
 |true=>exact ha Ap s1 σ H1 Q I1 q1
 |false=>exact hb Ap s1 σ H1 Q I1 q1
end
def SqL (K:aa) (H:Hp) (a:ag) (xs:List V):Prop:=
 Rd H a (.lst xs)\/
  Ex3 λ(o:Obj) (As:Array ah) (n:Nat)=>K.lookup a=some o/\o.cls= .type "list"/\o.dict=none/\o.data= .seq As n/\As.size<=sizeLine/\Vals xs As.toList
def SqT (K:aa) (H:Hp) (a:ag) (xs:List V):Prop:=
 Rd H a (.tup xs)\/
  Ex3 λ(o:Obj) (As:Array ah) (n:Nat)=>K.lookup a=some o/\o.cls= .type "tuple"/\o.data= .seq As n/\As.size<=sizeLine/\Vals xs As.toList
def rJ:ah->Option V
 | .none=>some .non
 | .bool b=>some (.bl b)
 | .int i _=>some (.int i)
 | .str x _=>some (.str x)
 | .bytes b _=>some (.byt b)
 | .float b _=>some (.flt b)
 | .ref a=>some (.ref a)
 | .type n=>some (.ty n)
 |_=>none
theorem RelV.abs {x:V} {u:ah} (r:RelV x u):rJ u=some x:=by
 cases x with
 |non=>cases r;rfl
 |bl _=>cases r;rfl
 |int _=>obtain⟨t,rfl⟩:=r;rfl
 |str _=>obtain⟨t,rfl⟩:=r;rfl
 |byt _=>obtain⟨t,rfl⟩:=r;rfl
 |flt _=>obtain⟨t,rfl⟩:=r;rfl
 |ref _=>cases r;rfl
 |ty _=>cases r;rfl
theorem RelV.inj {x y:V} {u:ah} (r:RelV x u) (q:RelV y u):x=y:=cw (r.abs.symm.trans q.abs)
theorem Vals.inj:∀{xs ys:List V} {us:List ah},Vals xs us->Vals ys us->xs=ys
 |_,_,_,.nil,.nil=>rfl
 |_,_,_,.cons r t,.cons r' t'=>by rw[r.inj r',Vals.inj t t']
section
variable {X:Cx} {Ap:List (ag×Obj)} {σ:St} {H:Hp} {s:aj} {a:ag} {xs ys:List V}
theorem SqL.of {K:aa} (h:H a=some (.lst xs)):SqL K H a xs:=.inl (.inl h)
theorem SqT.of {K:aa} (h:H a=some (.tup xs)):SqT K H a xs:=.inl (.inl h)
theorem Inv.list (I:Inv X Ap σ H s) (h:SqL X.K H a xs):∃As:List ah,Vals xs As/\PlainL s.heap a As.toArray/\xs.length<=sizeLine:=by
 rcases h with h|⟨o,As,n,hk,hc,hd,hs,hz,r⟩
 ·obtain⟨z,As,n,r,e⟩:=h.ok I.hok;exact⟨As,r,⟨_,n,e,rfl,rfl,rfl⟩,z⟩
 ·refine⟨As.toList,r,⟨o,n,I.kIn a o hk,hc,hd,by simpa using hs⟩,?_⟩;have e:=r.length;simp only[fv] at e;omega
theorem Inv.tuple (I:Inv X Ap σ H s) (h:SqT X.K H a xs):∃As:List ah,Vals xs As/\IsTup s.heap a As.toArray/\xs.length<=sizeLine:=by
 rcases h with h|⟨o,As,n,hk,hc,hs,hz,r⟩
 ·obtain⟨z,As,r,p⟩:=h.ok I.hok;exact⟨As,r,p,z⟩
 ·refine⟨As.toList,r,⟨o,I.kIn a o hk,hc,n,by simpa using hs⟩,?_⟩;have e:=r.length;simp only[fv] at e;omega
theorem Inv.list_inj (I:Inv X Ap σ H s) (h:SqL X.K H a xs) (h':SqL X.K H a ys):xs=ys:=by
 obtain⟨As,r,⟨o,n,e,_,_,d⟩,_⟩:=I.list h;obtain⟨its',r',⟨o',n',e',_,_,d'⟩,_⟩:=I.list h';rw[e] at e';cases e';rw[d] at d';injection d' with d1 _;have:As=its':=by simpa using congrArg wK d1
 subst this;exact r.inj r'
theorem Inv.tuple_inj (I:Inv X Ap σ H s) (h:SqT X.K H a xs) (h':SqT X.K H a ys):xs=ys:=by
 obtain⟨As,r,⟨o,e,_,n,d⟩,_⟩:=I.tuple h;obtain⟨its',r',⟨o',e',_,n',d'⟩,_⟩:=I.tuple h';rw[e] at e';cases e';rw[d] at d';injection d' with d1 _;have:As=its':=by simpa using congrArg wK d1
 subst this;exact r.inj r'
end
abbrev Cx.wish (X:Cx) (E:ah->aj->Prop):Cx:={ X with xe:=E }
theorem Cx.Ok.wish {X:Cx} (ok:X.Ok) (E:ah->aj->Prop):(X.wish E).Ok:=
 ⟨ok.mod,ok.kind,ok.glob,ok.blt,ok.above,ok.inj,ok.has,ok.cab,ok.hd,ok.frames,ok.stk,ok.exf,ok.bs,ok.bsz,ok.noex,ok.exfs,ok.funs,ok.frf⟩
theorem Cx.Ok.unwish {X:Cx} {E:ah->aj->Prop} (ok:(X.wish E).Ok):X.Ok:=
 ⟨ok.mod,ok.kind,ok.glob,ok.blt,ok.above,ok.inj,ok.has,ok.cab,ok.hd,ok.frames,ok.stk,ok.exf,ok.bs,ok.bsz,ok.noex,ok.exfs,ok.funs,ok.frf⟩
section
variable {X:Cx} {Ap:List (ag×Obj)} {σ:St} {H:Hp} {s:aj} {E:ah->aj->Prop}
theorem Inv.wish (I:Inv X Ap σ H s) (E:ah->aj->Prop):Inv (X.wish E) Ap σ H s:=⟨I.ok.wish E,I.os,I.bare,I.base,I.loc,I.cell,I.free,I.freeC,I.pin,I.hok,I.len⟩
theorem Inv.unwish (I:Inv (X.wish E) Ap σ H s):Inv X Ap σ H s:=⟨I.ok.unwish,I.os,I.bare,I.base,I.loc,I.cell,I.free,I.freeC,I.pin,I.hok,I.len⟩
end
section
variable {X:Cx} {st:dm} {Aq:List dm} {t u:TS} {e:Expr} {te:TE} {pos:Pos}
def UO:TS:=λD σ H=>D.nx σ H
def AV (t u:TS):TS:=λD σ H=>t { D with nx:=u D } σ H
theorem AM:PSs X [] UO:=λ_ _ σ H _ I h=>qu ⟨σ,H,I,h⟩
theorem AB (h1:PS X st t) (h2:PSs X Aq u):PSs X (st::Aq) (AV t u):=by
 intro Ap s σ H D I h;refine xl (thn (h1 Ap s σ H { D with nx:=u D } I h) λf s1 q=>?_);cases f with
 |next=>
  obtain⟨σ',H',I',q⟩:=q;exact h2 Ap s1 σ' H' D I' q
 |ret v=>exact q
 |brk=>exact q
 |cont=>exact q
theorem AC (h1:PS X st t):PSs X [st] t:=by
 intro Ap s σ H D I h;refine xl (thn (h1 Ap s σ H D I h) λf s1 q=>?_);cases f with
 |next=>exact qu q
 |ret v=>exact q
 |brk=>exact q
 |cont=>exact q
theorem Inv.quiet {Ap:List (ag×Obj)} {σ:St} {H:Hp} {s:aj} (I:Inv X Ap σ H s):interactive X.env=false:=by simp[interactive,I.ok.kind]
def KW (te:TE):TS:=λD σ H=>te σ H λ_ H1=>D.nx σ H1
theorem AZ (he:PE X e te) (hs:pq e none pos.line X.env=pure false:=by rfl):PS X (.Expr e pos) (KW te):=by
 intro Ap s σ H D I h;exact wpAny_Expr_any (thn (he Ap s σ H _ I h) λv s1 ⟨x,H1,I1,r1,q1⟩=>⟨σ,H1,I1,q1⟩) I.quiet hs
def QU (te:TE):TS:=λD σ H=>te σ H D.rt
theorem AJ (he:PE X e te):PS X (.Return (some e) pos) (QU te):=by
 intro Ap s σ H D I h;exact wpAny_Return_some (thn (he Ap s σ H _ I h) λv s1 ⟨x,H1,I1,r1,q1⟩=>⟨x,σ,H1,I1,r1,q1⟩)
def SL (c:TT) (t u:TS):TS:=λD σ H=>c σ H λb H1=>if b=true then t D σ H1 else u D σ H1
theorem AX {c:Expr} {a b:List dm} {tc:TT} (hc:PT X c tc) (ha:PSs X a t) (hb:PSs X b u):PS X (.If c a b pos) (SL tc t u):=by
 intro Ap s σ H D I h;refine wpAny_If (thn (hc Ap s σ H _ I h) λd s1 ⟨H1,I1,q1⟩=>?_);cases d with
 |true=>exact ha Ap s1 σ H1 D I1 q1
 |false=>exact hb Ap s1 σ H1 D I1 q1
def gK:TS:=λ_ _ _=>False
end
abbrev TG:=V->St->Hp->(St->Hp->Prop)->Prop
abbrev TGs:=List V->St->Hp->(St->Hp->Prop)->Prop
def PG (X:Cx) (target:Expr) (t:TG):Prop:=
 ∀(Ap:List (ag×Obj)) (s:aj) (σ:St) (H:Hp) (v:V) (u:ah) (Q:St->Hp->Prop),Inv X Ap σ H s->RelV v u->t v σ H Q->
  bf (bi X.prog X.w) X.A (xm target X.env u) (λ_ s'=>Ex2 λσ' H'=>Inv X Ap σ' H' s'/\Q σ' H') X.xe s
def PGs (X:Cx) (ts:List Expr) (t:TGs):Prop:=
 ∀(Ap:List (ag×Obj)) (s:aj) (σ:St) (H:Hp) (vs:List V) (us:List ah) (Q:St->Hp->Prop),Inv X Ap σ H s->Vals vs us->t vs σ H Q->
  bf (bi X.prog X.w) X.A (assignInOrder ((rc ts X.env).map (·.2)) us) (λ_ s'=>Ex2 λσ' H'=>Inv X Ap σ' H' s'/\Q σ' H') X.xe s
abbrev gL:=V->V->V->Hp->(Hp->Prop)->Prop
def lI (X:Cx) (t:gL):Prop:=
 ∀(Ap:List (ag×Obj)) (s:aj) (σ:St) (H:Hp) (o i v:V) (ov iv u:ah) (Q:Hp->Prop),Inv X Ap σ H s->RelV o ov->RelV i iv->RelV v u->t o i v H Q->
  bf (bi X.prog X.w) X.A (setItem ov iv u) (λ_ s'=>∃H',Inv X Ap σ H' s'/\Q H') X.xe s
abbrev TIp:=V->V->Hp->VK->Prop
def PIp (X:Cx) (op:wL) (t:TIp):Prop:=
 ∀(Ap:List (ag×Obj)) (s:aj) (σ:St) (H:Hp) (x y:V) (v u:ah) (Q:VK),Inv X Ap σ H s->RelV x v->RelV y u->t x y H Q->
  bf (bi X.prog X.w) X.A (zr op v u) (EP X Ap σ Q) X.xe s
section
variable {X:Cx} {pos:Pos}
def ME (i:Nat):TG:=λv σ H Q=>Q (σ.set i (some v)) H
theorem PB {i:Nat} {x:Str} (hN:X.N.Nodup) (hi:X.N[i]? =some x) (hx:Loc X.env.scope x) (hf:X.fn x=true\/X.env.scope.names.lookup x=some .local:=by first|exact .inl rfl|exact .inr rfl|assumption):PG X (.Name x pos) (ME i):=by
 intro Ap s σ H v u Q I r h;exact wM (JA I hN hi hx r (λs' I'=>⟨_,H,I',h⟩) hf)
def rK:TGs:=λvs σ H Q=>vs=[]/\Q σ H
def lJ (t:TG) (u:TGs):TGs:=λvs σ H Q=>Ex2 λv r=>vs=v::r/\t v σ H λσ' H'=>u r σ' H' Q
theorem GK:PGs X [] rK:=by
 intro Ap s σ H vs us Q I r h;obtain⟨e,h⟩:=h;subst e;cases r;exact assignInOrder_nil ⟨σ,H,I,h⟩
theorem BZ {e:Expr} {es:List Expr} {t:TG} {u:TGs} (h1:PG X e t) (h2:PGs X es u)
 (hs:(rc (e::es) X.env).map (·.2)=xm e X.env::(rc es X.env).map (·.2):=by rfl):PGs X (e::es) (lJ t u):=by
 intro Ap s σ H vs us Q I r h;obtain⟨v,vr,e1,h⟩:=h;subst e1;cases r with
 |cons r rr=>
  rw[hs];refine assignInOrder_cons (thn (h1 Ap s σ H _ _ _ I r h) λ_ s1 ⟨σ1,H1,I1,q1⟩=>?_);exact h2 Ap s1 σ1 H1 _ _ Q I1 rr q1
def lK (K:aa) (n:Nat) (t:TGs):TG:=λv σ H Q=>Ex2 λa xs=>v= .ref a/\SqT K H a xs/\xs.length=n/\t xs σ H Q
theorem IJ {es:List Expr} {k:Nat} {t:TGs} {n:Nat} (hc:X.calm=true) (h:PGs X es t)
 (hn:(rc es X.env).length=n:=by rfl) (hst:(rc es X.env).findIdx? (·.1)=none:=by rfl):PG X (.Tuple es k pos) (lK X.K n t):=by
 intro Ap s σ H v u Q I r hw;obtain⟨a,xs,e1,hq,hl,hw⟩:=hw;subst e1;cases r;obtain⟨As,rv,ht,hz⟩:=I.tuple hq;refine assign_Tuple_tuple (I.ok.hd hc) ht (by simp[hn, ←hl,rv.length]) hst λh' hx=>?_;have I1:Inv X Ap σ H { s with heap:=h' }:=I.kept (t':=s.toks) λb o e=>hx b o (cj (bh e)) e;exact h Ap _ σ H xs _ Q I1 (by simpa using rv) hw
def rL (to ti:TE) (t:gL):TG:=λv σ H Q=>to σ H λo H1=>ti σ H1 λi H2=>t o i v H2 λH3=>Q σ H3
theorem gM {o i:Expr} {to ti:TE} {t:gL} (ho:PE X o to) (hi:PE X i ti) (hs:lI X t)
 (ha:∀v,xm (.Subscript o i pos) X.env v=(do
  let ov←lp [v] (eval o X.env);let iv←lp [v,ov] (eval i X.env)
  mq pos
  lp [v,ov,iv] (setItem ov iv v)
  release [v,ov,iv] []):=by intro _;rfl):PG X (.Subscript o i pos) (rL to ti t):=by
 intro Ap s σ H v u Q I r h;rw[ha];refine ae (ij (thn (ho Ap s σ H _ I h) λov s1 ⟨x,H1,I1,r1,q1⟩=>?_));refine ae (ij (thn (hi Ap s1 σ H1 _ I1 q1) λiv s2 ⟨y,H2,I2,r2,q2⟩=>?_));refine ae (jq (ae (ij (thn (hs Ap s2 σ H2 x y v ov iv u _ I2 r1 r2 r q2) λ_ s3 ⟨H3,I3,q3⟩=>?_))));exact wpAny_release ⟨σ,H3,I3,q3⟩
def YA (te:TE) (g:TG):TS:=λD σ H=>te σ H λx H1=>g x σ H1 D.nx
theorem gN {tg e:Expr} {te:TE} {g:TG} (he:PE X e te) (hg:PG X tg g) (hs:swapsWithSole [tg] e pos.line X.env=pure false:=by rfl) (hw:swappedStores [tg] e X.env=pure none:=by rfl)
 (h1:(rc [tg] X.env).map (·.2)=[xm tg X.env]:=by rfl):PS X (.Assign [tg] e pos) (YA te g):=by
 intro Ap s σ H D I h;refine wpAny_Assign_stores (thn (he Ap s σ H _ I h) λv s1 ⟨x,H1,I1,r1,q1⟩=>?_) hs hw;rw[h1];exact thn (hg Ap s1 σ H1 x v _ I1 r1 q1) λ_ s2 q=>q
theorem gO {i:Nat} {x:Str} {e:Expr} {te:TE} {pos':Pos} (hN:X.N.Nodup) (hi:X.N[i]? =some x) (hx:Loc X.env.scope x) (he:PE X e te) (hs:pq e (some (.Name x pos')) pos.line X.env=pure false:=by rfl) (hf:X.fn x=true\/X.env.scope.names.lookup x=some .local:=by first|exact .inl rfl|exact .inr rfl|assumption):
 PS X (.Assign [.Name x pos'] e pos) (YA te (ME i)):=by
 intro Ap s σ H D I h;refine wpAny_Assign_Name (thn (he Ap s σ H _ I h) λv s1 ⟨y,H1,I1,r1,q1⟩=>?_) hs;exact JA I1 hN hi hx r1 (λs2 I2=>⟨_,H1,I2,q1⟩) hf
def lL (i j:Nat) (ta:TA):TS:=λD σ H=>ta σ H λvs H1=>Ex2 λv w=>vs=[v,w]/\D.nx ((σ.set i (some v)).set j (some w)) H1
def rM (i:Nat) (te:TE) (ti:TIp):TS:=λD σ H=>∃x,σ[i]? =some (some x)/\te σ H λy H1=>ti x y H1 λz H2=>D.nx (σ.set i (some z)) H2
theorem JW {i:Nat} {x:Str} {e:Expr} {te:TE} {op:wL} {ti:TIp} {pos':Pos} (hN:X.N.Nodup) (hi:X.N[i]? =some x) (hx:Loc X.env.scope x) (he:PE X e te) (ho:PIp X op ti) (hf:X.fn x=true\/X.env.scope.names.lookup x=some .local:=by first|exact .inl rfl|exact .inr rfl|assumption):
 PS X (.AugAssign (.Name x pos') op e pos) (rM i te ti):=by
 intro Ap s σ H D I h;obtain⟨v,e1,h⟩:=h;obtain⟨m,hn,hl⟩:=I.loc;have vis:Vis X.env.scope x:=by rcases hx with k|k;exact .inl k;exact .inr (.inl k)
 obtain⟨u,r,l⟩:=hl i x v hi e1 vis;refine wpAny_AugAssign_Name ?_;have go:bf (bi X.prog X.w) X.A (eval e X.env) (λw s₂=>bf (bi X.prog X.w) X.A (zr op u w) (λr s₃=>bf (bi X.prog X.w) X.A (zp X.env x r) (λ_=>SP X Ap D .next) X.xe s₃) X.xe s₂) X.xe s:=by
  refine thn (he Ap s σ H _ I h) λw s1 ⟨y,H1,I1,r1,q1⟩=>?_;refine thn (ho Ap s1 σ H1 v y u w _ I1 r r1 q1) λz s2 ⟨zv,H2,I2,r2,q2⟩=>?_;exact JA I2 hN hi hx r2 (λs3 I3=>⟨_,H2,I3,q2⟩) hf
 rcases l with⟨hk,hm⟩|⟨hk,c,hc,hcell⟩
 ·exact vN I.ok.kind hk hn hm go
 ·rcases hk with hk|hk
  ·exact wf I.ok.kind hk hc hcell go
  ·rcases hx with k|k
   ·have:X.env.scope.names.lookup x=some .free:=hk;rw[k] at this;cases this
   ·have:X.env.scope.names.lookup x=some .free:=hk;rw[k] at this;cases this
def ipI (f:Int->Int->Int):TIp:=λx y H Q=>I2At x y λi j=>Q (.int (f i j)) H
theorem JX:PIp X .Add (ipI λi j=>i+j):=by
 intro Ap s σ H x y v u Q I r1 r2 h;obtain⟨i,j,e1,e2,q⟩:=h;subst e1;subst e2;obtain⟨t,rfl⟩:=r1;obtain⟨t',rfl⟩:=r2;exact iadd_int ⟨.int _,H,I.tok _,⟨_,rfl⟩,q⟩
end
section
variable {X:Cx} {pos:Pos}
def YB (c:TT) (tb:TS):TS:=λD σ H=>∃W:Nat->St->Hp->Prop,(∃m,W m σ H)/\∀m σ H,W m σ H->
 c σ H λb H1=>if b=true then∃N:St->Hp->Prop,(∀σ' H',N σ' H'->∃m',m'<m/\W m' σ' H')/\tb { D with nx:=N,ct:=N,bk:=D.nx } σ H1 else D.nx σ H1
theorem B4 {c:Expr} {body:List dm} {tc:TT} {tb:TS} (hp:PassesOwn (bi X.prog X.w) X.A X.env X.xe) (hc:PT X c tc) (hb:PSs X body tb):PS X (.While c body [] pos) (YB tc tb):=by
 intro Ap s σ H D I h;obtain⟨W,⟨m0,w0⟩,turn⟩:=h;refine wpAny_While (codeAny_whileLoop (λn s'=>∃σ' H',Inv X Ap σ' H' s'/\W n σ' H') ?_ m0 ⟨σ,H,I,w0⟩);rintro n s1 ⟨σ1,H1,I1,w1⟩;refine ll hp (thn (hc Ap s1 σ1 H1 _ I1 (turn n σ1 H1 w1)) λb s2 ⟨H2,I2,q2⟩=>?_);cases b with
 |true=>
  obtain⟨N,hN,q2⟩:=q2;rw[Ax rfl];refine ll hp (thn (hb Ap s2 σ1 H2 _ I2 q2) λf s3 q3=>?_);cases f with
  |next=>
   obtain⟨σ3,H3,I3,n3⟩:=q3;obtain⟨m',hm,w3⟩:=hN σ3 H3 n3;exact⟨m',hm,σ3,H3,I3,w3⟩
  |cont=>
   obtain⟨σ3,H3,I3,n3⟩:=q3;obtain⟨m',hm,w3⟩:=hN σ3 H3 n3;exact⟨m',hm,σ3,H3,I3,w3⟩
  |brk=>exact q3
  |ret v=>exact q3
 |false=>
  rw[Ay bu];exact qu ⟨σ1,H2,I2,q2⟩
end
structure It where
 go:Nat->Hp->Prop
 yld:Nat->Hp->V->Hp->Prop
 stop:Nat->Hp->Prop
def LC (X:Cx) (Ap:List (ag×Obj)) (H:Hp) (b:ag):Prop:=
 H b=none/\b≠X.env.locals/\b∉X.fs/\(b∈X.ex\/X.s_0.heap.objs.size<=b)/\(∀x c,X.env.cells.lookup x=some c->c≠b)/\∀p∈X.pn++Ap,p.1≠b
theorem Inv.fpOk {X:Cx} {Ap:List (ag×Obj)} {σ:St} {H H':Hp} {s:aj} {b:ag} (I:Inv X Ap σ H s) (hb:s.heap.objs.size<=b) (hn:H' b=none):LC X Ap H' b:=by
 refine⟨hn,qa (br I.lt hb),I.nofs hb,.inr (cy I.sz hb),λx c e z=>?_,λp hp z=>?_⟩
 ·obtain⟨v,q⟩:=I.cell x c e;exact absurd (br q.lt (by rw[z];exact hb)) (iz _)
 ·exact absurd (br (bh (I.pin p hp).1) (by rw[z];exact hb)) (iz _)
structure Turn (P:bb) (w:bv) (K:aa) (tg:Expr) (J:It) (fp:List ag) (it:ag) (tn:Nat->cr->Prop):Prop where
 mem:it∈fp
 obj:∀i h,tn i h->∀b∈fp,∃o,h.get? b=some o/\∀v,o.data≠.cell v
 keep:∀i h h',tn i h->(∀b∈fp,∀o,h.get? b=some o->h'.get? b=some o)->tn i h'
 item:∀(X:Cx),X.prog=P->X.w=w->X.K=K->X.calm=true->∀(i:Nat) (Ap:List (ag×Obj)) (s:aj) (σ:St) (H:Hp) (E:ah->aj->Prop),Inv X Ap σ H s->(∀b∈fp,LC X Ap H b)->tn i s.heap->J.go i H->
  bf (bi P w) X.A (wx (.ref it)) (λr s1=>∃u,r=some u/\
   bf (bi P w) X.A (qv tg (.ref it) u) (λ_ s2=>∃x H',Inv X Ap σ H' s2/\RelV x u/\J.yld i H x H'/\tn (i+1) s2.heap/\∀b∈fp,H' b=none) E s1) E s
 done:∀(X:Cx),X.prog=P->X.w=w->X.K=K->X.calm=true->∀(i:Nat) (Ap:List (ag×Obj)) (s:aj) (σ:St) (H:Hp) (E:ah->aj->Prop),Inv X Ap σ H s->(∀b∈fp,LC X Ap H b)->tn i s.heap->J.stop i H->
  bf (bi P w) X.A (wx (.ref it)) (λr s1=>r=none/\Inv X Ap σ H s1) E s
 self:∀(A:de) (i:Nat) (s:aj) (Q:ah->aj->Prop) (E:ah->aj->Prop),tn i s.heap->Q (.ref it) s->bf (bi P w) A (pyIter (.ref it)) Q E s
abbrev TI:=St->Hp->(It->Hp->Prop)->Prop
def PIE (X:Cx) (Ap:List (ag×Obj)) (σ:St) (tg:Expr) (R:It->Hp->Prop) (itv:ah) (s2:aj):Prop:=
 Ex5 λ(it:ag) (fp:List ag) (tn:Nat->cr->Prop) (J:It) (H':Hp)=>itv= .ref it/\Inv X Ap σ H' s2/\Turn X.prog X.w X.K tg J fp it tn/\tn 0 s2.heap/\(∀b∈fp,LC X Ap H' b)/\R J H'
def PI (X:Cx) (tg iter:Expr) (wi:TI):Prop:=
 ∀(Ap:List (ag×Obj)) (s:aj) (σ:St) (H:Hp) (R:It->Hp->Prop),Inv X Ap σ H s->wi σ H R->
  bf (bi X.prog X.w) X.A (eval iter X.env) (λv s1=>bf (bi X.prog X.w) X.A (pyIter v) (PIE X Ap σ tg R) X.xe s1) X.xe s
theorem UP {M:xL} {A:de} {E:ah->aj->Prop} {s:aj} {tg:Expr} {it:ag} {u:ah} {o:Obj} {n:String} {vs:Array ah} {Q:Unit->aj->Prop} (ho:s.heap.get? it=some o) (hc:o.cls= .type n) (hd:o.data= .fields vs)
 (hn:["enumerate","zip","dict_itemiterator","dict_reverseitemiterator","odict_iterator","itertools.zip_longest","itertools.pairwise"].contains n=false) (hQ:Q () s):bf M A (qv tg (.ref it) u) Q E s:=by
 unfold qv;cases tg<;>first
  |exact ao hQ
  |(cases u<;>first
   |exact ao hQ
   |(refine ae (wpAny_load ho ?_)
     rw[hc,hd];show bf M A (if(["enumerate","zip","dict_itemiterator","dict_reverseitemiterator","odict_iterator","itertools.zip_longest","itertools.pairwise"].contains n&&vs[0]? ==some (fy _))=true then _ else _) Q E s;rw[Ay (by intro h;rw[hn,tX] at h;cases h)];exact ao hQ))
def Itl (K:aa) (a:ag):It:=
 ⟨λi H=>Ex2 λxs x=>SqL K H a xs/\xs[i]? =some x,λi H x H'=>H'=H/\∀xs,SqL K H a xs->xs[i]? =some x,λi H=>∃xs,SqL K H a xs/\xs.length<=i⟩
def Itt (K:aa) (a:ag):It:=
 ⟨λi H=>Ex2 λxs x=>SqT K H a xs/\xs[i]? =some x,λi H x H'=>H'=H/\∀xs,SqT K H a xs->xs[i]? =some x,λi H=>∃xs,SqT K H a xs/\xs.length<=i⟩
def Itr (lo:Int) (n:Nat):It:=⟨λi _=>i<n,λi H x H'=>H'=H/\x= .int (lo+i),λi _=>n<=i⟩
theorem WQ {P:bb} {w:bv} {K:aa} {tg:Expr} (a it:ag):Turn P w K tg (Itl K a) [it] it (λi h=>h.IsListIter it a i) where
 mem:=by simp
 obj:=λi h st b hb=>by
  have e:b=it:=by simpa using hb
  subst e;obtain⟨o,e,c,d⟩:=st;exact⟨o,e,λv z=>by rw[d] at z;cases z⟩
 keep:=λi h h' st k=>st.at λo e=>k it (by simp) o e
 item:=by
  intro X hP hw hK hc i Ap s σ H E I hf st hg;subst hP hw hK;obtain⟨xs,x,hq,hx⟩:=hg;obtain⟨As,rv,p,hz⟩:=I.list hq;obtain⟨u,hu,ru⟩:=rv.get hx;obtain⟨f0,f1,f2,f3,f4,f5⟩:=hf it (by simp);refine wpAny_pyNext_list_item st p.isList (x:=u) (by simpa using hu) λh' st' sb=>?_;have I1:Inv X Ap σ H { s with heap:=h' }:=I.turned (t':=s.toks) (λb o hb e=>(sb.2 b hb).trans e) f0 f1 f3 f4 f5;obtain⟨o,e,c,d⟩:=id st';exact⟨u,rfl,UP (s:={ s with heap:=h' }) e c d (by decide) ⟨x,H,I1,ru,⟨rfl,λys hy=>by rw[I.list_inj hy hq];exact hx⟩,st',λb hb=>(hf b hb).1⟩⟩
 done:=by
  intro X hP hw hK hc i Ap s σ H E I hf st hg;subst hP hw hK;obtain⟨xs,hq,hx⟩:=hg;obtain⟨As,rv,p,hz⟩:=I.list hq;obtain⟨f0,f1,f2,f3,f4,f5⟩:=hf it (by simp);have hl:=rv.length;exact wpAny_pyNext_list_end (I.ok.hd hc) st p.isList (by simp;omega) λh' eb=>⟨rfl,I.turned (t':=s.toks) (λb o hb e=>eb b o hb e) f0 f1 f3 f4 f5⟩
 self:=λ_ _ _ _ _ st h=>wpAny_pyIter_listiter st h
theorem SM {P:bb} {w:bv} {K:aa} {tg:Expr} (a it:ag):Turn P w K tg (Itt K a) [it] it (λi h=>h.IsTupleIter it a i) where
 mem:=by simp
 obj:=λi h st b hb=>by
  have e:b=it:=by simpa using hb
  subst e;obtain⟨o,e,c,d⟩:=st;exact⟨o,e,λv z=>by rw[d] at z;cases z⟩
 keep:=λi h h' st k=>st.at λo e=>k it (by simp) o e
 item:=by
  intro X hP hw hK hc i Ap s σ H E I hf st hg;subst hP hw hK;obtain⟨xs,x,hq,hx⟩:=hg;obtain⟨As,rv,p,hz⟩:=I.tuple hq;obtain⟨u,hu,ru⟩:=rv.get hx;obtain⟨f0,f1,f2,f3,f4,f5⟩:=hf it (by simp);refine wpAny_pyNext_tuple_item st (show s.heap.IsTuple a As.toArray from p) (x:=u) (by simpa using hu) λh' st' sb=>?_;have I1:Inv X Ap σ H { s with heap:=h' }:=I.turned (t':=s.toks) (λb o hb e=>(sb.2 b hb).trans e) f0 f1 f3 f4 f5;obtain⟨o,e,c,d⟩:=id st';exact⟨u,rfl,UP (s:={ s with heap:=h' }) e c d (by decide) ⟨x,H,I1,ru,⟨rfl,λys hy=>by rw[I.tuple_inj hy hq];exact hx⟩,st',λb hb=>(hf b hb).1⟩⟩
 done:=by
  intro X hP hw hK hc i Ap s σ H E I hf st hg;subst hP hw hK;obtain⟨xs,hq,hx⟩:=hg;obtain⟨As,rv,p,hz⟩:=I.tuple hq;obtain⟨f0,f1,f2,f3,f4,f5⟩:=hf it (by simp);have hl:=rv.length;exact wpAny_pyNext_tuple_end (I.ok.hd hc) st (show s.heap.IsTuple a As.toArray from p) (by simp;omega) λh' eb=>⟨rfl,I.turned (t':=s.toks) (λb o hb e=>eb b o hb e) f0 f1 f3 f4 f5⟩
 self:=λ_ _ _ _ _ st h=>wpAny_pyIter_tupleiter st h
theorem SN {P:bb} {w:bv} {K:aa} {tg:Expr} (it:ag) (lo:Int) (n:Nat):Turn P w K tg (Itr lo n) [it] it (λi h=>IsRangeIter h it (lo+(i:Nat)*1) ((n:Int) - (i:Nat)) 1) where
 mem:=by simp
 obj:=λi h st b hb=>by
  have e:b=it:=by simpa using hb
  subst e;exact⟨_,st,λv z=>by
   have z':Data.fields _=Data.cell v:=z;cases z'⟩
 keep:=λi h h' st k=>k it (by simp) _ st
 item:=by
  intro X hP hw hK hc i Ap s σ H E I hf st hg;subst hP hw hK;obtain⟨f0,f1,f2,f3,f4,f5⟩:=hf it (by simp);have W:=Walks.range (prog:=X.prog) (w:=X.w) (I.ok.hd hc) it lo 1 n;refine W.item i s _ _ hg st λv h' tk hv st' kk=>?_;obtain⟨t,rfl⟩:=hv;have I1:Inv X Ap σ H { s with heap:=h',toks:=tk }:=I.turned (λb o hb e=>kk b o (by simpa using hb) e) f0 f1 f3 f4 f5;refine⟨_,rfl,UP (s:={ s with heap:=h',toks:=tk }) (n:="range_iterator") st' rfl rfl (by decide) ⟨.int (lo+i),H,I1,⟨t,?_⟩,⟨rfl,rfl⟩,st',λb hb=>(hf b hb).1⟩⟩;rw[Int.mul_one]
 done:=by
  intro X hP hw hK hc i Ap s σ H E I hf st hg;subst hP hw hK;obtain⟨f0,f1,f2,f3,f4,f5⟩:=hf it (by simp);exact wpAny_pyNext_range_end (I.ok.hd hc) st (by have:n<=i:=hg;omega) λh' eb=>⟨rfl,I.turned (t':=s.toks) (λb o hb e=>eb b o hb e) f0 f1 f3 f4 f5⟩
 self:=λ_ _ _ _ _ st h=>wpAny_pyIter_rangeiter st h
section
variable {X:Cx} {tg:Expr}
def lM (K:aa) (tl:TE):TI:=λσ H R=>tl σ H λx H1=>∃a,x= .ref a/\(∃xs,SqL K H1 a xs)/\R (Itl K a) H1
def rN (K:aa) (tl:TE):TI:=λσ H R=>tl σ H λx H1=>∃a,x= .ref a/\(∃xs,SqT K H1 a xs)/\R (Itt K a) H1
theorem DG {l:Expr} {tl:TE} (hl:PE X l tl):PI X tg l (lM X.K tl):=by
 intro Ap s σ H R I h;refine thn (hl Ap s σ H _ I h) λv s1 ⟨x,H1,I1,r1,q1⟩=>?_;obtain⟨a,e,⟨xs,hq⟩,q⟩:=q1;subst e;cases r1;obtain⟨As,rv,p,hz⟩:=I1.list hq;refine wpAny_pyIter_list p.isList ?_;refine⟨s1.heap.objs.size,[s1.heap.objs.size],_,_,H1,rfl,I1.kept (t':=s1.toks) λb o e=>ak _ e,WQ a _,⟨_,bg _ rfl,rfl,rfl⟩,λb hb=>?_,q⟩;have e:b=s1.heap.objs.size:=by simpa using hb
 subst e;exact I1.fpOk (au _) (I1.hok.fresh (au _))
theorem YC {l:Expr} {tl:TE} (hl:PE X l tl):PI X tg l (rN X.K tl):=by
 intro Ap s σ H R I h;refine thn (hl Ap s σ H _ I h) λv s1 ⟨x,H1,I1,r1,q1⟩=>?_;obtain⟨a,e,⟨xs,hq⟩,q⟩:=q1;subst e;cases r1;obtain⟨As,rv,p,hz⟩:=I1.tuple hq;refine rg (show s1.heap.IsTuple a As.toArray from p) ?_;refine⟨s1.heap.objs.size,[s1.heap.objs.size],_,_,H1,rfl,I1.kept (t':=s1.toks) λb o e=>ak _ e,SM a _,⟨_,bg _ rfl,rfl,rfl⟩,λb hb=>?_,q⟩;have e:b=s1.heap.objs.size:=by simpa using hb
 subst e;exact I1.fpOk (au _) (I1.hok.fresh (au _))
theorem QV {Ap:List (ag×Obj)} {σ:St} {H:Hp} {s:aj} {R:It->Hp->Prop} {E:ah->aj->Prop} {lo hi:Int} {t u v:Tok} {tk:Nat} (I:Inv X Ap σ H s) (h1: -(2 ^ 62)<=lo) (h2:lo<2 ^ 62) (h3: -(2 ^ 62)<=hi) (h4:hi<2 ^ 62)
 (q:R (Itr lo (hi - lo).toNat) H):bf (bi X.prog X.w) X.A (pyIter (.ref s.heap.objs.size)) (PIE X Ap σ tg R) E { s with heap:=s.heap.push { cls:=.type "range",data:=.fields #[.int lo t,.int hi u,.int 1 v] },toks:=tk }:=by
 refine wpAny_pyIter_range (zU ..) (small_one h1 h2 h3 h4) ?_;have I1:Inv X Ap σ H { s with heap:=s.heap.push { cls:=.type "range",data:=.fields #[.int lo t,.int hi u,.int 1 v] },toks:=tk }:=I.kept λb o e=>ak _ e;refine⟨(s.heap.push { cls:=.type "range",data:=.fields #[.int lo t,.int hi u,.int 1 v] }).objs.size,[(s.heap.push { cls:=.type "range",data:=.fields #[.int lo t,.int hi u,.int 1 v] }).objs.size],_,_,H,rfl,
  I1.kept (t':=tk) λb o e=>ak _ e,SN _ lo (hi - lo).toNat,?_,λb hb=>?_,q⟩
 ·have e1:lo+((0:Nat):Int)*1=lo:=by simp
  have e2:(((hi - lo).toNat:Nat):Int) - ((0:Nat):Int)=uO lo hi 1:=by rw[rangeSize_one];split<;>omega
  show IsRangeIter _ _ (lo+((0:Nat):Int)*1) ((((hi - lo).toNat:Nat):Int) - ((0:Nat):Int)) 1;rw[e1,e2];exact bg _ rfl
 ·have e:b=(s.heap.push { cls:=.type "range",data:=.fields #[.int lo t,.int hi u,.int 1 v] }).objs.size:=by simpa using hb
  subst e;exact I1.fpOk (au _) (I1.hok.fresh (au _))
def lN (ta:TA):TI:=λσ H R=>ta σ H λvs H1=>∃j:Int,vs=[.int j]/\ -(2 ^ 62)<=j/\j<2 ^ 62/\R (Itr 0 j.toNat) H1
def lO (ta:TA):TI:=λσ H R=>ta σ H λvs H1=>Ex2 λi j:Int=>vs=[.int i,.int j]/\(-(2 ^ 62)<=i/\i<2 ^ 62/\ -(2 ^ 62)<=j/\j<2 ^ 62)/\R (Itr i (j - i).toNat) H1
theorem WR {a:Expr} {ta:TA} {p pos:Pos} (hg:Gl X "range") (hm:X.mg "range"=none) (ha:PA X [a] ta) (hs:be [a] X.env=[(false,eval a X.env)]:=by rfl):PI X tg (.Call (.Name "range" p) [a] [] pos) (lN ta):=by
 intro Ap s σ H R I h;refine zt (EJ I hg hm yi (dh (thn (ha pos Ap s σ H _ I h) λus s1 ⟨vs,H1,I1,r1,q1⟩=>?_) hs rfl));obtain⟨j,e,q1,q2,q⟩:=q1;subst e;cases r1 with
 |cons r rr=>
  cases rr;obtain⟨t,rfl⟩:=r;exact call_range_1 (QV I1 (by omega) (by omega) q1 q2 (by simpa using q))
theorem WS {a b:Expr} {ta:TA} {p pos:Pos} (hg:Gl X "range") (hm:X.mg "range"=none) (ha:PA X [a,b] ta) (hs:be [a,b] X.env=[(false,eval a X.env),(false,eval b X.env)]:=by rfl) (hs2:be [b] X.env=[(false,eval b X.env)]:=by rfl):
 PI X tg (.Call (.Name "range" p) [a,b] [] pos) (lO ta):=by
 intro Ap s σ H R I h;refine zt (EJ I hg hm yi (dh (thn (ha pos Ap s σ H _ I h) λus s1 ⟨vs,H1,I1,r1,q1⟩=>?_) (by rw[hs,hs2]) (by rw[hs2];rfl)));obtain⟨i,j,e,⟨q1,q2,q3,q4⟩,q⟩:=q1;subst e;cases r1 with
 |cons r rr=>
  cases rr with
  |cons r' rr=>
   cases rr;obtain⟨t,rfl⟩:=r;obtain⟨t',rfl⟩:=r';exact call_range_2 (QV I1 q1 q2 q3 q4 q)
def rO (wi:TI) (g:TG) (tb:TS):TS:=λD σ H=>wi σ H λJ H1=>∃W:Nat->Nat->St->Hp->Prop,(∃m,W 0 m σ H1)/\∀i m σ H,W i m σ H->
 (J.stop i H/\D.nx σ H)\/(J.go i H/\∃N:St->Hp->Prop,(∀σ' H',N σ' H'->∃m',m'<m/\W (i+1) m' σ' H')/\∀x H',J.yld i H x H'->g x σ H' λσ2 H2=>tb { D with nx:=N,ct:=N,bk:=D.nx } σ2 H2)
def MF (fp:List ag) (h:cr):List (ag×Obj):=fp.filterMap λb=>(h.get? b).map λo=>(b,o)
theorem IK {fp:List ag} {h:cr} {b:ag} {o:Obj} (hb:b∈fp) (e:h.get? b=some o):(b,o)∈MF fp h:=wy.mpr ⟨b,hb,by rw[e];rfl⟩
theorem WT {fp:List ag} {h:cr} {p:ag×Obj} (hp:p∈MF fp h):p.1∈fp/\h.get? p.1=some p.2:=by
 obtain⟨b,hb,e⟩:=wy.mp hp;cases q:h.get? b with
 |none=>rw[q] at e;cases e
 |some o=>
  rw[q] at e;have e':(b,o)=p:=cw e;subst e';exact⟨hb,q⟩
theorem Inv.pinned {Ap:List (ag×Obj)} {σ:St} {H:Hp} {s:aj} {fp:List ag} (I:Inv X Ap σ H s) (hf:∀b∈fp,LC X Ap H b) (ho:∀b∈fp,∃o,s.heap.get? b=some o/\∀v,o.data≠.cell v):Inv X (Ap++MF fp s.heap) σ H s:=
 I.pins_of λp hp=>(cn.mp hp).elim (λz=>I.pin p (dw _ z)) λz=>by
  obtain⟨hb,e⟩:=WT z;obtain⟨f0,f1,f2,_⟩:=hf p.1 hb;obtain⟨o,e',d⟩:=ho p.1 hb;rw[e] at e';cases e';exact⟨e,f0,f1,f2,d⟩
theorem Inv.unpinned {Ap pl:List (ag×Obj)} {σ:St} {H:Hp} {s:aj} (I:Inv X (Ap++pl) σ H s):Inv X Ap σ H s:=I.pins_of λp hp=>I.pin p (dw _ (tj _ hp))
theorem B5 {iter:Expr} {body:List dm} {wi:TI} {g:TG} {tb:TS} {pos:Pos} (hp:PassesOwn (bi X.prog X.w) X.A X.env X.xe) (hc:X.calm=true) (hi:PI X tg iter wi) (hg:PG X tg g) (hb:PSs X body tb)
 (hs:∀x,lq iter X.env x=pure x:=by intro _;rfl):PS X (.For tg iter body [] pos) (rO wi g tb):=by
 intro Ap s σ H D I h;refine wpAny_For (thn (hi Ap s σ H _ I h) λv s1 h1=>thn h1 λitv s2 h2=>?_) hs;obtain⟨it,fp,tn,J,H2,e,I2,T,st2,f2,W,⟨m0,w0⟩,turn⟩:=h2;subst e;have stat:∀{H':Hp},(∀b∈fp,H' b=none)->∀b∈fp,LC X Ap H' b:=λhn b hb=>⟨hn b hb,(f2 b hb).2⟩
 refine codeAny_forLoop_any (λn s'=>∃i σ' H',Inv X Ap σ' H' s'/\tn i s'.heap/\(∀b∈fp,H' b=none)/\W i n σ' H') ?_ m0 ⟨0,σ,H2,I2,st2,λb hb=>(f2 b hb).1,w0⟩;rintro n s3 ⟨i,σ3,H3,I3,st3,fr3,w3⟩;rcases turn i n σ3 H3 w3 with⟨stop,qn⟩|⟨go,N,hN,step⟩
 ·refine ll hp (thn (T.done X rfl rfl rfl hc i Ap s3 σ3 H3 X.xe I3 (stat fr3) st3 stop) λr s4 ⟨hr,I4⟩=>?_);subst hr;exact qu ⟨σ3,H3,I4,qn⟩
 ·refine ll hp (thn (T.item X rfl rfl rfl hc i Ap s3 σ3 H3 X.xe I3 (stat fr3) st3 go) λr s4 ⟨u,hr,h4⟩=>?_);subst hr;refine ll hp (thn h4 λ_ s5 ⟨x,H5,I5,r5,y5,st5,fr5⟩=>?_);have I5':=I5.pinned (stat fr5) (T.obj _ _ st5);refine ll hp (thn (hg _ s5 σ3 H5 x u _ I5' r5 (step x H5 y5)) λ_ s6 ⟨σ6,H6,I6,q6⟩=>?_);refine ll hp (thn (hb _ s6 σ6 H6 _ I6 q6) λf s7 q7=>?_);have again:∀{σ7:St} {H7:Hp},Inv X (Ap++MF fp s5.heap) σ7 H7 s7->N σ7 H7->∃m,m<n/\∃i σ' H',Inv X Ap σ' H' s7/\tn i s7.heap/\(∀b∈fp,H' b=none)/\W i m σ' H':=λ{σ7 H7} I7 n7=>by
   obtain⟨m',hm,w7⟩:=hN σ7 H7 n7;refine⟨m',hm,i+1,σ7,H7,I7.unpinned,T.keep _ _ _ st5 λb hb o e=>(I7.pin (b,o) (dw _ (dw _ (IK hb e)))).1,λb hb=>?_,w7⟩;obtain⟨o,e,d⟩:=T.obj _ _ st5 b hb;exact(I7.pin (b,o) (dw _ (dw _ (IK hb e)))).2.1
  cases f with
  |next=>obtain⟨σ7,H7,I7,n7⟩:=q7;exact again I7 n7
  |cont=>obtain⟨σ7,H7,I7,n7⟩:=q7;exact again I7 n7
  |brk=>obtain⟨σ7,H7,I7,q7⟩:=q7;exact⟨σ7,H7,I7.unpinned,q7⟩
  |ret v=>obtain⟨x7,σ7,H7,I7,r7,q7⟩:=q7;exact⟨x7,σ7,H7,I7.unpinned,r7,q7⟩
end
theorem DD {K:aa} {a:ag} {xs:List V} {g:TG} {tb:TS} {D:Ends} {σ:St} {H:Hp} (Pv:Nat->St->Hp->Prop) (h0:Pv 0 σ H) (hl:∀i σ H,i<=xs.length->Pv i σ H->SqL K H a xs)
 (hs:∀i x σ H,xs[i]? =some x->Pv i σ H->g x σ H λσ2 H2=>tb { D with nx:=Pv (i+1),ct:=Pv (i+1),bk:=D.nx } σ2 H2) (hd:∀σ H,Pv xs.length σ H->D.nx σ H):
 ∃W:Nat->Nat->St->Hp->Prop,(∃m,W 0 m σ H)/\∀i m σ H,W i m σ H->
  ((Itl K a).stop i H/\D.nx σ H)\/((Itl K a).go i H/\∃N:St->Hp->Prop,(∀σ' H',N σ' H'->∃m',m'<m/\W (i+1) m' σ' H')/\∀x H',(Itl K a).yld i H x H'->g x σ H' λσ2 H2=>tb { D with nx:=N,ct:=N,bk:=D.nx } σ2 H2):=by
 refine⟨λi m σ H=>m=xs.length - i/\i<=xs.length/\Pv i σ H,⟨xs.length,by simp,dq _,h0⟩,?_⟩;rintro i m σ H ⟨rfl,hi,p⟩;have q:=hl i σ H hi p;by_cases Aw:i<xs.length
 ·refine .inr ⟨⟨xs,xs[i],q,by simp[Aw]⟩,Pv (i+1),λσ' H' p'=>⟨xs.length - (i+1),by omega,rfl,Aw,p'⟩,λx H' y=>?_⟩;obtain⟨e,y⟩:=y;subst e;exact hs i x σ _ (y xs q) p
 ·have e:i=xs.length:=by omega
  subst e;exact .inl ⟨⟨xs,q,au _⟩,hd σ H p⟩
theorem UQ {K:aa} {a:ag} {xs:List V} {g:TG} {tb:TS} {D:Ends} {σ:St} {H:Hp} (Pv:Nat->St->Hp->Prop) (h0:Pv 0 σ H) (hl:∀i σ H,i<=xs.length->Pv i σ H->SqT K H a xs)
 (hs:∀i x σ H,xs[i]? =some x->Pv i σ H->g x σ H λσ2 H2=>tb { D with nx:=Pv (i+1),ct:=Pv (i+1),bk:=D.nx } σ2 H2) (hd:∀σ H,Pv xs.length σ H->D.nx σ H):
 ∃W:Nat->Nat->St->Hp->Prop,(∃m,W 0 m σ H)/\∀i m σ H,W i m σ H->
  ((Itt K a).stop i H/\D.nx σ H)\/((Itt K a).go i H/\∃N:St->Hp->Prop,(∀σ' H',N σ' H'->∃m',m'<m/\W (i+1) m' σ' H')/\∀x H',(Itt K a).yld i H x H'->g x σ H' λσ2 H2=>tb { D with nx:=N,ct:=N,bk:=D.nx } σ2 H2):=by
 refine⟨λi m σ H=>m=xs.length - i/\i<=xs.length/\Pv i σ H,⟨xs.length,by simp,dq _,h0⟩,?_⟩;rintro i m σ H ⟨rfl,hi,p⟩;have q:=hl i σ H hi p;by_cases Aw:i<xs.length
 ·refine .inr ⟨⟨xs,xs[i],q,by simp[Aw]⟩,Pv (i+1),λσ' H' p'=>⟨xs.length - (i+1),by omega,rfl,Aw,p'⟩,λx H' y=>?_⟩;obtain⟨e,y⟩:=y;subst e;exact hs i x σ _ (y xs q) p
 ·have e:i=xs.length:=by omega
  subst e;exact .inl ⟨⟨xs,q,au _⟩,hd σ H p⟩
theorem WU {lo:Int} {n:Nat} {g:TG} {tb:TS} {D:Ends} {σ:St} {H:Hp} (Pv:Nat->St->Hp->Prop) (h0:Pv 0 σ H)
 (hs:∀i σ H,i<n->Pv i σ H->g (.int (lo+i)) σ H λσ2 H2=>tb { D with nx:=Pv (i+1),ct:=Pv (i+1),bk:=D.nx } σ2 H2) (hd:∀σ H,Pv n σ H->D.nx σ H):
 ∃W:Nat->Nat->St->Hp->Prop,(∃m,W 0 m σ H)/\∀i m σ H,W i m σ H->
  ((Itr lo n).stop i H/\D.nx σ H)\/((Itr lo n).go i H/\∃N:St->Hp->Prop,(∀σ' H',N σ' H'->∃m',m'<m/\W (i+1) m' σ' H')/\∀x H',(Itr lo n).yld i H x H'->g x σ H' λσ2 H2=>tb { D with nx:=N,ct:=N,bk:=D.nx } σ2 H2):=by
 refine⟨λi m σ H=>m=n - i/\i<=n/\Pv i σ H,⟨n,by simp,dq _,h0⟩,?_⟩;rintro i m σ H ⟨rfl,hi,p⟩;by_cases Aw:i<n
 ·refine .inr ⟨Aw,Pv (i+1),λσ' H' p'=>⟨n - (i+1),by omega,rfl,Aw,p'⟩,λx H' y=>?_⟩;obtain⟨e,y⟩:=y;subst e y;exact hs i σ _ Aw p
 ·have e:i=n:=by omega
  subst e;exact .inl ⟨au _,hd σ H p⟩
theorem QW {c:TT} {tb:TS} {D:Ends} {σ:St} {H:Hp} (Pv:St->Hp->Prop) (μ:St->Hp->Nat) (h0:Pv σ H)
 (hs:∀σ H,Pv σ H->c σ H λb H1=>if b=true then tb { D with nx:=λσ' H'=>Pv σ' H'/\μ σ' H'<μ σ H,ct:=λσ' H'=>Pv σ' H'/\μ σ' H'<μ σ H,bk:=D.nx } σ H1 else D.nx σ H1)
 (mono:∀σ H Q Q',(∀b H1,Q b H1->Q' b H1)->c σ H Q->c σ H Q'):YB c tb D σ H:=by
 refine⟨λm σ H=>m=μ σ H/\Pv σ H,⟨_,rfl,h0⟩,?_⟩;rintro m σ H ⟨rfl,p⟩;refine mono σ H _ _ (λb H1 q=>?_) (hs σ H p);cases b with
 |true=>exact⟨_,λσ' H' ⟨p',l⟩=>⟨_,l,rfl,p'⟩,q⟩
 |false=>exact q
abbrev R2:=V->V->Hp->VK->Prop
def OpR (X:Cx) (f:ah->ah->Sem ah) (r:R2):Prop:=
 ∀(Ap:List (ag×Obj)) (s:aj) (σ:St) (H:Hp) (x y:V) (v u:ah) (Q:VK),Inv X Ap σ H s->RelV x v->RelV y u->r x y H Q->
  bf (bi X.prog X.w) X.A (f v u) (EP X Ap σ Q) X.xe s
def UnR (X:Cx) (f:ah->Sem ah) (r:V->Hp->VK->Prop):Prop:=
 ∀(Ap:List (ag×Obj)) (s:aj) (σ:St) (H:Hp) (x:V) (v:ah) (Q:VK),Inv X Ap σ H s->RelV x v->r x H Q->
  bf (bi X.prog X.w) X.A (f v) (EP X Ap σ Q) X.xe s
def KY (X:Cx) (f:ah) (r:List V->Hp->VK->Prop):Prop:=
 ∀(Ap:List (ag×Obj)) (s:aj) (σ:St) (H:Hp) (xs:List V) (us:List ah) (Q:VK),Inv X Ap σ H s->Vals xs us->r xs H Q->
  bf (bi X.prog X.w) X.A (call f us) (EP X Ap σ Q) X.xe s
def tOp (r:R2) (ta tb:TE):TE:=λσ H Q=>ta σ H λx H1=>tb σ H1 λy H2=>r x y H2 Q
def tUn (r:V->Hp->VK->Prop) (ta:TE):TE:=λσ H Q=>ta σ H λx H1=>r x H1 Q
def rI (C:Int->Int->Prop) (g:Int->Int->V):R2:=λx y H Q=>I2At x y λi j=>C i j/\Q (g i j) H
def rI0 (g:Int->Int->V):R2:=λx y H Q=>I2At x y λi j=>Q (g i j) H
def rU (g:Int->V):V->Hp->VK->Prop:=λx H Q=>I1At x λi=>Q (g i) H
section
variable {X:Cx} {a b c:Expr} {ta tb tc:TE} {pos:Pos}
theorem gP (ha:PE X a ta) (hb:PE X b tb) {Ap:List (ag×Obj)} {s:aj} {σ:St} {H:Hp} {R:V->V->Hp->Prop} (I:Inv X Ap σ H s)
 (h:ta σ H λx H1=>tb σ H1 λy H2=>R x y H2) {Q:ah->aj->Prop} {f:ah->ah->Sem ah}
 (hf:∀v u s2 x y H2,Inv X Ap σ H2 s2->RelV x v->RelV y u->R x y H2->bf (bi X.prog X.w) X.A (f v u) Q X.xe s2):
 bf (bi X.prog X.w) X.A (eval a X.env) (λv s₁=>bf (bi X.prog X.w) X.A (eval b X.env) (λu s₂=>bf (bi X.prog X.w) X.A (f v u) Q X.xe s₂) X.xe s₁) X.xe s:=by
 refine thn (ha Ap s σ H _ I h) λv s1 ⟨x,H1,I1,r1,q1⟩=>?_;refine thn (hb Ap s1 σ H1 _ I1 q1) λu s2 ⟨y,H2,I2,r2,q2⟩=>?_;exact hf v u s2 x y H2 I2 r1 r2 q2
theorem BC {op:wL} {r:R2} (ho:OpR X (sd op) r) (ha:PE X a ta) (hb:PE X b tb):PE X (.BinOp a op b pos) (tOp r ta tb):=by
 intro Ap s σ H Q I h;exact wpAny_BinOp (gP ha hb I h λv u s2 x y H2 I2 rx ry q=>ho Ap s2 σ H2 x y v u Q I2 rx ry q)
theorem GY {op:UnaryOp} {r:V->Hp->VK->Prop} (ho:UnR X (unaryOp op) r) (ha:PE X a ta):PE X (.UnaryOp op a pos) (tUn r ta):=by
 intro Ap s σ H Q I h;exact UnaryOp_ (thn (ha Ap s σ H _ I h) λv s1 ⟨x,H1,I1,r1,q1⟩=>ho Ap s1 σ H1 x v Q I1 r1 q1)
theorem opI {f:ah->ah->Sem ah} {C:Int->Int->Prop} {g:Int->Int->Int}
 (rule:∀(i j:Int) (t u:Tok) (s:aj) (Q:ah->aj->Prop) (E:ah->aj->Prop),C i j->Q (.int (g i j) s.toks) { s with toks:=s.toks+1 }->bf (bi X.prog X.w) X.A (f (.int i t) (.int j u)) Q E s):
 OpR X f (rI C λi j=>.int (g i j)):=by
 intro Ap s σ H x y v u Q I rx ry h;obtain⟨i,j,rfl,rfl,hc,q⟩:=h;obtain⟨t,rfl⟩:=rx;obtain⟨t',rfl⟩:=ry;exact rule i j t t' s _ _ hc ⟨.int (g i j),H,I.tok _,⟨_,rfl⟩,q⟩
theorem lP {f:ah->ah->Sem ah} {g:Int->Int->Int}
 (rule:∀(i j:Int) (t u:Tok) (s:aj) (Q:ah->aj->Prop) (E:ah->aj->Prop),Q (.int (g i j) s.toks) { s with toks:=s.toks+1 }->bf (bi X.prog X.w) X.A (f (.int i t) (.int j u)) Q E s):
 OpR X f (rI0 λi j=>.int (g i j)):=by
 intro Ap s σ H x y v u Q I rx ry h;obtain⟨i,j,rfl,rfl,q⟩:=h;obtain⟨t,rfl⟩:=rx;obtain⟨t',rfl⟩:=ry;exact rule i j t t' s _ _ ⟨.int (g i j),H,I.tok _,⟨_,rfl⟩,q⟩
theorem cC {f:ah->ah->Sem ah} {g:Int->Int->Bool}
 (rule:∀(i j:Int) (t u:Tok) (s:aj) (Q:ah->aj->Prop) (E:ah->aj->Prop),Q (.bool (g i j)) s->bf (bi X.prog X.w) X.A (f (.int i t) (.int j u)) Q E s):
 OpR X f (rI0 λi j=>.bl (g i j)):=by
 intro Ap s σ H x y v u Q I rx ry h;obtain⟨i,j,rfl,rfl,q⟩:=h;obtain⟨t,rfl⟩:=rx;obtain⟨t',rfl⟩:=ry;exact rule i j t t' s _ _ ⟨.bl (g i j),H,I,rfl,q⟩
def lQ (i j:Int):Prop:=0<j/\j<1073741824
def CMul (i j:Int):Prop:=(-(2 ^ 64)<i/\i<2 ^ 64)\/(-(2 ^ 64)<j/\j<2 ^ 64)
theorem CMul.ok {i j:Int} (h:CMul i j):IntMulOk i j:=by
 rcases h with⟨h1,h2⟩|⟨h1,h2⟩
 ·exact .of_left (intBits_le_64 h1 h2)
 ·exact .of_right (intBits_le_64 h1 h2)
theorem C7:OpR X (sd .Add) (rI0 λi j=>.int (i+j)):=lP λ_ _ _ _ _ _ _ q=>add_int q
theorem GZ:OpR X (sd .Sub) (rI0 λi j=>.int (i - j)):=lP λ_ _ _ _ _ _ _ q=>sub_int q
theorem IL:OpR X (sd .Mult) (rI CMul λi j=>.int (i*j)):=opI λ_ _ _ _ _ _ _ hc q=>mul_int q hc.ok
theorem LS:OpR X (sd .FloorDiv) (rI lQ λi j=>.int (i / j)):=opI λi j _ _ _ _ _ hc q=>by
 have h1:(0:Int)<j:=hc.1;have h2:j<1073741824:=hc.2;exact floordiv_int (by omega) (by rw[tY i (by omega)];exact q) (.inl (vf (by omega)))
theorem SO:OpR X (sd .Mod) (rI (λ_ j=>0<j) λi j=>.int (i%j)):=opI λi j _ _ _ _ _ hc q=>by
 have h1:(0:Int)<j:=hc;exact mod_int' (by omega) (by rw[Int.fmod_eq_emod_of_nonneg i (by omega)];exact q)
theorem unI {f:ah->Sem ah} {g:Int->Int}
 (rule:∀(i:Int) (t:Tok) (s:aj) (Q:ah->aj->Prop) (E:ah->aj->Prop),Q (.int (g i) s.toks) { s with toks:=s.toks+1 }->bf (bi X.prog X.w) X.A (f (.int i t)) Q E s):
 UnR X f (rU λi=>.int (g i)):=by
 intro Ap s σ H x v Q I rx h;obtain⟨i,rfl,q⟩:=h;obtain⟨t,rfl⟩:=rx;exact rule i t s _ _ ⟨.int (g i),H,I.tok _,⟨_,rfl⟩,q⟩
theorem E0:UnR X (unaryOp .USub) (rU λi=>.int (-i)):=unI λ_ _ _ _ _ q=>neg_int q
end
def lR:V->V->Bool
 | .non,.non=>true| .non,.int _=>true| .int _,.non=>true| .non,.bl _=>true| .bl _,.non=>true| .non,.str _=>true| .str _,.non=>true
 | .int _,.int _=>true| .bl _,.bl _=>true| .str _,.str _=>true| .byt _,.byt _=>true
 | .int _,.str _=>true| .str _,.int _=>true| .bl _,.str _=>true| .str _,.bl _=>true
 |_,_=>false
def rEq:R2:=λx y H Q=>lR x y=true/\Q (.bl (decide (x=y))) H
def rNe:R2:=λx y H Q=>lR x y=true/\Q (.bl (!decide (x=y))) H
theorem UR {i j:Int}:decide (V.int i=V.int j)=(i==j):=by
 rw[qw];simp
theorem YD {i j:Bool}:decide (V.bl i=V.bl j)=(i==j):=by
 rw[qw];simp
theorem US {i j:Str}:decide (V.str i=V.str j)=(i==j):=by
 rw[qw];simp
theorem UT {i j:Array UInt8}:decide (V.byt i=V.byt j)=(i.toList==j.toList):=by
 rw[qw];cases i;cases j;simp
section
variable {X:Cx} {a b c:Expr} {ta tb tc:TE} {pos:Pos}
theorem BE {Ap:List (ag×Obj)} {σ:St} {H:Hp} {s:aj} {Q:VK} {k k':Bool} (I:Inv X Ap σ H s) (q:Q (.bl k) H) (e:k=k'):EP X Ap σ Q (.bool k') s:=by
 subst e;exact⟨.bl k,H,I,rfl,q⟩
theorem CP:OpR X (jo .Eq) rEq:=by
 intro Ap s σ H x y v u Q I rx ry h;obtain⟨hs,q⟩:=h;cases x with
 |non=>
  cases rx;cases y with
  |non=>cases ry;exact yL (BE I q (by simp))
  |bl j=>cases ry;exact yM (BE I q (by simp))
  |int j=>obtain⟨t',rfl⟩:=ry;exact yY (BE I q (by simp))
  |str j=>obtain⟨t',rfl⟩:=ry;exact yZ (BE I q (by simp))
  |_=>exact absurd (show false=true from hs) bu
 |bl i=>
  cases rx;cases y with
  |non=>cases ry;exact yN (BE I q (by simp))
  |bl j=>cases ry;exact eq_bool (BE I q YD)
  |str j=>obtain⟨t',rfl⟩:=ry;exact yO (BE I q (by simp))
  |_=>exact absurd (show false=true from hs) bu
 |int i=>
  obtain⟨t,rfl⟩:=rx;cases y with
  |non=>cases ry;exact y0 (BE I q (by simp))
  |int j=>obtain⟨t',rfl⟩:=ry;exact eq_int (BE I q UR)
  |str j=>obtain⟨t',rfl⟩:=ry;exact y3 (BE I q (by simp))
  |_=>exact absurd (show false=true from hs) bu
 |str i=>
  obtain⟨t,rfl⟩:=rx;cases y with
  |non=>cases ry;exact y4 (BE I q (by simp))
  |bl j=>cases ry;exact yP (BE I q (by simp))
  |int j=>obtain⟨t',rfl⟩:=ry;exact y6 (BE I q (by simp))
  |str j=>obtain⟨t',rfl⟩:=ry;exact eq_str (BE I q US)
  |_=>exact absurd (show false=true from hs) bu
 |byt i=>
  obtain⟨t,rfl⟩:=rx;cases y with
  |byt j=>obtain⟨t',rfl⟩:=ry;exact PySem.W.eq_bytes (BE I q UT)
  |_=>exact absurd (show false=true from hs) bu
 |_=>cases y<;>exact absurd (show false=true from hs) bu
theorem eU:OpR X (jo .NotEq) rNe:=by
 intro Ap s σ H x y v u Q I rx ry h;obtain⟨hs,q⟩:=h;cases x with
 |non=>
  cases rx;cases y with
  |non=>cases ry;exact yQ (BE I q (by simp))
  |bl j=>cases ry;exact yR (BE I q (by simp))
  |int j=>obtain⟨t',rfl⟩:=ry;exact y8 (BE I q (by simp))
  |str j=>obtain⟨t',rfl⟩:=ry;exact y9 (BE I q (by simp))
  |_=>exact absurd (show false=true from hs) bu
 |bl i=>
  cases rx;cases y with
  |non=>cases ry;exact yS (BE I q (by simp))
  |bl j=>cases ry;exact ne_bool (BE I q (congrArg not YD))
  |str j=>obtain⟨t',rfl⟩:=ry;exact yT (BE I q (by simp))
  |_=>exact absurd (show false=true from hs) bu
 |int i=>
  obtain⟨t,rfl⟩:=rx;cases y with
  |non=>cases ry;exact zc (BE I q (by simp))
  |int j=>obtain⟨t',rfl⟩:=ry;exact ne_int (BE I q (congrArg not UR))
  |str j=>obtain⟨t',rfl⟩:=ry;exact zd (BE I q (by simp))
  |_=>exact absurd (show false=true from hs) bu
 |str i=>
  obtain⟨t,rfl⟩:=rx;cases y with
  |non=>cases ry;exact ze (BE I q (by simp))
  |bl j=>cases ry;exact yU (BE I q (by simp))
  |int j=>obtain⟨t',rfl⟩:=ry;exact zf (BE I q (by simp))
  |str j=>obtain⟨t',rfl⟩:=ry;exact ne_str (BE I q (congrArg not US))
  |_=>exact absurd (show false=true from hs) bu
 |byt i=>
  obtain⟨t,rfl⟩:=rx;cases y with
  |byt j=>obtain⟨t',rfl⟩:=ry;exact PySem.W.ne_bytes (BE I q (congrArg not UT))
  |_=>exact absurd (show false=true from hs) bu
 |_=>cases y<;>exact absurd (show false=true from hs) bu
theorem G0:OpR X (jo .Lt) (rI0 λi j=>.bl (decide (i<j))):=cC λ_ _ _ _ _ _ _ q=>lt_int q
theorem KZ:OpR X (jo .LtE) (rI0 λi j=>.bl (decide (i<=j))):=cC λ_ _ _ _ _ _ _ q=>le_int q
theorem E1:OpR X (jo .Gt) (rI0 λi j=>.bl (decide (j<i))):=cC λ_ _ _ _ _ _ _ q=>gt_int q
theorem lS:OpR X (jo .GtE) (rI0 λi j=>.bl (decide (j<=i))):=cC λ_ _ _ _ _ _ _ q=>ge_int q
theorem gQ:OpR X (jo .Is) (λx y H Q=>y= .non/\Q (.bl (decide (x= .non))) H):=by
 intro Ap s σ H x y v u Q I rx ry h;obtain⟨rfl,q⟩:=h;cases ry;refine is_none_gen (BE I q ?_);cases x<;>first
  |(cases rx;rfl)
  |(obtain⟨t,rfl⟩:=rx;rfl)
theorem cD:OpR X (jo .IsNot) (λx y H Q=>y= .non/\Q (.bl (!decide (x= .non))) H):=by
 intro Ap s σ H x y v u Q I rx ry h;obtain⟨rfl,q⟩:=h;cases ry;refine isnot_none_gen (BE I q ?_);cases x<;>first
  |(cases rx;rfl)
  |(obtain⟨t,rfl⟩:=rx;rfl)
theorem AQ (b:Expr) {op:yh} (h:op≠.In:=by decide) (h2:op≠.NotIn:=by decide):om op b=false:=by
 have e1:(op==Ao)=false:=by cases op<;>first|rfl|exact absurd rfl h
 have e2:(op==zT)=false:=by cases op<;>first|rfl|exact absurd rfl h2
 cases b<;>simp[om,e1,e2]
theorem DR {op:yh} {r:R2} (ho:OpR X (jo op) r) (ha:PE X a ta) (hb:PE X b tb) (hm:om op b=false):PE X (.Compare a [op] [b] pos) (tOp r ta tb):=by
 intro Ap s σ H Q I h;exact wpAny_Compare1 (gP ha hb I h λv u s2 x y H2 I2 rx ry q=>ho Ap s2 σ H2 x y v u Q I2 rx ry q) hm
def N8 (t:TE):TT:=λσ H Q=>t σ H λx H'=>BlAt x λk=>Q k H'
theorem AO {op:yh} {r:R2} (ho:OpR X (jo op) r) (ha:PE X a ta) (hb:PE X b tb) (hm:om op b=false):PT X (.Compare a [op] [b] pos) (N8 (tOp r ta tb)):=by
 intro Ap s σ H Q I h;refine vE (thn (ha Ap s σ H _ I h) λv s1 ⟨x,H1,I1,r1,q1⟩=>thn (hb Ap s1 σ H1 _ I1 q1) λu s2 ⟨y,H2,I2,r2,q2⟩=>
  thn (ho Ap s2 σ H2 x y v u _ I2 r1 r2 q2) λc s3 ⟨z,H3,I3,r3,k,e,q3⟩=>?_) hm
 subst e;cases r3;exact jv ⟨H3,I3,q3⟩
def YE (r r':R2) (ta tb tc:TE):TE:=λσ H Q=>ta σ H λx H1=>tb σ H1 λy H2=>r x y H2 λz H3=>BlAt z λk=>
 (if k=true then tc σ H3 λw' H4=>r' y w' H4 Q else Q (.bl false) H3)
theorem YF {op op':yh} {r r':R2} (ho:OpR X (jo op) r) (ho':OpR X (jo op') r') (ha:PE X a ta) (hb:PE X b tb) (hc:PE X c tc)
 (hm:lastMarks [op,op'] [b,c]=false:=by with_unfolding_all rfl):PE X (.Compare a [op,op'] [b,c] pos) (YE r r' ta tb tc):=by
 intro Ap s σ H Q I h;refine Compare_chain (thn (ha Ap s σ H _ I h) λv s1 ⟨x,H1,I1,r1,q1⟩=>chain_link (thn (hb Ap s1 σ H1 _ I1 q1) λu s2 ⟨y,H2,I2,r2,q2⟩=>
  thn (ho Ap s2 σ H2 x y v u _ I2 r1 r2 q2) λd s3 ⟨z,H3,I3,r3,k,e,q3⟩=>?_)) hm
 subst e;cases r3;refine jv ?_;cases k with
 |false=>exact ite_ff ⟨.bl false,H3,I3,rfl,q3⟩
 |true=>exact ite_tt (chain_last (thn (hc Ap s3 σ H3 _ I3 q3) λw' s4 ⟨z',H4,I4,r4,q4⟩=>ho' Ap s4 σ H4 y z' u w' Q I4 r2 r4 q4))
theorem YG {op op':yh} {r r':R2} (ho:OpR X (jo op) r) (ho':OpR X (jo op') r') (ha:PE X a ta) (hb:PE X b tb) (hc:PE X c tc)
 (hm:lastMarks [op,op'] [b,c]=false:=by with_unfolding_all rfl):PT X (.Compare a [op,op'] [b,c] pos) (N8 (YE r r' ta tb tc)):=by
 intro Ap s σ H Q I h;refine isTrue_chain (thn (ha Ap s σ H _ I h) λv s1 ⟨x,H1,I1,r1,q1⟩=>test_link (thn (hb Ap s1 σ H1 _ I1 q1) λu s2 ⟨y,H2,I2,r2,q2⟩=>
  thn (ho Ap s2 σ H2 x y v u _ I2 r1 r2 q2) λd s3 ⟨z,H3,I3,r3,k,e,q3⟩=>?_)) hm
 subst e;cases r3;refine jv ?_;cases k with
 |false=>
  obtain⟨k',e',q'⟩:=q3;cases e';exact ite_ff ⟨H3,I3,q'⟩
 |true=>
  refine ite_tt (test_last (thn (hc Ap s3 σ H3 _ I3 q3) λw' s4 ⟨z',H4,I4,r4,q4⟩=>thn (ho' Ap s4 σ H4 y z' u w' _ I4 r2 r4 q4) λd' s5 ⟨z2,H5,I5,r5,k2,e2,q5⟩=>?_));subst e2;cases r5;exact jv ⟨H5,I5,q5⟩
theorem JY:(sizeLine:Nat)<2 ^ 63:=by rw[bw];decide
theorem SQ:OpR X (sd .Add) (λx y H Q=>Ex2 λi j=>x= .str i/\y= .str j/\i.length+j.length<=sizeLine/\Q (.str (i++j)) H):=by
 intro Ap s σ H x y v u Q I rx ry h;obtain⟨i,j,rfl,rfl,hz,q⟩:=h;obtain⟨t,rfl⟩:=rx;obtain⟨t',rfl⟩:=ry;exact add_str (λt' tk=>⟨.str (i++j),H,I.tok _,⟨_,rfl⟩,q⟩) hz
theorem N9 {x:V} {us:List ah} (r:Vals [x] us):∃u,us=[u]/\RelV x u:=by
 cases r with
 |cons r1 r2=>cases r2;exact⟨_,rfl,r1⟩
theorem MG:KY X (.builtin "abs") (λxs H Q=>∃i,xs=[.int i]/\Q (.int (if i<0 then -i else i)) H):=by
 intro Ap s σ H xs us Q I r h;obtain⟨i,rfl,q⟩:=h;obtain⟨u,rfl,t,rfl⟩:=N9 r;exact call_abs_int λu tk=>⟨.int (if i<0 then -i else i),H,I.tok _,⟨_,rfl⟩,q⟩
theorem YH:KY X (.builtin "ord") (λxs H Q=>∃x,xs=[.str x]/\x.length=1/\Q (.int (x.cps.getD 0 0:Nat)) H):=by
 intro Ap s σ H xs us Q I r h;obtain⟨x,rfl,hz,q⟩:=h;obtain⟨u,rfl,t,rfl⟩:=N9 r;exact ord_of_one hz ⟨.int _,H,I.tok _,⟨_,rfl⟩,q⟩
end
structure ObjM (h:cr) (x dx C:ag) (mA:Str->Option ah):Prop where
 obj:h.get? x=some (ke C dx)
 ns:h.Ns1 dx mA
 ne:dx≠x
theorem JZ {h:cr} {dx:ag} {mA:Str->Option ah} (n:h.Ns1 dx mA):∃od,h.get? dx=some od/\∀name,tZ name od=some (mA name):=by
 obtain⟨o,es,ep,ho,hd,hk,_,hm⟩:=n;refine⟨o,ho,λname=>?_⟩;have e:=hm name;unfold nsFind findBy at e;rw[←Array.find?_toList] at e;unfold tZ;rw[hd];dsimp only;split
 ·rename_i y q;rw[q] at e;exact congrArg some e
 ·rename_i q;rw[q] at e;have a:es.toList.any (·.refKey)=false:=by
   rw[List.any_eq_false];intro y hy;obtain⟨z,t,hkey⟩:=hk y (Array.mem_toList_iff.mp hy);simp[DictEntry.refKey,hkey]
  have a':¬es.toList.any (·.refKey)=true:=by rw[a];exact bu
  rw[Ay a'];exact congrArg some e
theorem ObjM.look {h:cr} {x dx C:ag} {mA:Str->Option ah} (I:ObjM h x dx C mA):∃od,yj h x (ke C dx) C (some od)/\∀name,tZ name od=some (mA name):=
 let ⟨od,ho,hl⟩:=JZ I.ns
 ⟨od,⟨I.obj,rfl,rfl,ho⟩,hl⟩
section
variable {prog:bb} {w:bv} {A:de} {E:ah->aj->Prop} {s:aj} {K:aa} {x dx C f:ag} {mA:Str->Option ah} {name:Str} {v:ah}
theorem cE {expr:Bool} {Q:ah->aj->Prop} (X:K.In s.heap) (I:ObjM s.heap x dx C mA) (hg:sS K C name=true) (hh:ux K C=true)
 (ha:ig K (.ref C) name=some none) (hv:mA name=some v) (hv':xo v=true) (h:Q v { s with toks:=s.toks+1 }):
 bf (bi prog w) A (zz (.ref x) name expr) Q E s:=by
 obtain⟨od,J,hl⟩:=I.look;exact PySem.W.get_value X J (tN hg).1 (PySem.W.findObj_own hh ha rfl (by rw[hl,hv])) hv' h
theorem YI {pl:Sem Bool} {Q:ah×List ah->aj->Prop} (X:K.In s.heap) (I:ObjM s.heap x dx C mA) (hg:sS K C name=true)
 (hf:ig K (.ref C) name=some (some (.ref f))) (ht:qb K (.ref f)=true) (hv:mA name=none) (h:Q (.ref f,[.ref x]) s):
 bf (bi prog w) A (kl (.ref x) name pl) Q E s:=by
 obtain⟨od,J,hl⟩:=I.look;exact PySem.W.method_fn X J (tN hg).1 (tN hg).2 hf (beq_iff_eq.mp ht) (by show(tZ name od).map (·.isSome)=some false;rw[hl,hv];rfl) h
theorem cF {ns:List Str} {Q:Unit->aj->Prop} (X:K.In s.heap) (I:ObjM s.heap x dx C mA)
 (hs:ig K (.ref C) "__setattr__"=some (some (.builtin "object.__setattr__"))) (hp:wN K C=true) (ht:vv K C name=some none) (hh:ux K C=true)
 (hw:ph mA ns) (hsz:ns.length<=sizeLine)
 (h:∀h',ObjM h' x dx C (λy=>if y=name then some v else mA y)->pp dx s.heap h'->Q () { s with heap:=h',toks:=s.toks+2 }):
 bf (bi prog w) A (zA (.ref x) name v) Q E s:=by
 obtain⟨od,J,hl⟩:=I.look;refine PySem.W.set_plain X J hs (PySem.W.osa_open (s:={ s with toks:=s.toks+1 }) (r:=none) X J hp ht λb=>?_);obtain⟨cd,hc,hd'⟩:=xp hh;have hx:s.heap.get? x=some ⟨.ref C,some dx,.plain,#[]⟩:=I.obj;refine ae (ao (ae (ae (vO hx (ae (nj (s:={ s with toks:=s.toks+1 }) (PySem.W.looks_clsIn X hc) ?_))))));rw[hd'];refine ao (a:=some dx) (ae (ao (ae ?_)));refine wO (s:={ s with toks:=s.toks+1 }) I.ns λh' hn2 hs2=>?_;obtain⟨oD,esD,epD,hoD,hdD,hcD⟩:=hn2.count (uy name v hw);refine ae (uP hoD (by rw[hdD];exact uQ (cy hcD (by rw[dc];omega))) ?_);exact ao (h _ ⟨(hs2.2 _ (cq I.ne)).trans I.obj,hn2,I.ne⟩ hs2)
theorem YJ {R:xq->aj->Prop} {vs:List ah} {kw:List (Str×ah)} (X:K.In s.heap) (hm:vx K C=true)
 (hi:ig K (.ref C) "__init__"=some (some (.ref f))) (hf:PySem.W.typeIn K (.ref f)=some (.type "function"))
 (h:mr (bi prog w) (A.under (.builtin "type.__call__" ⟨.ref C::vs,kw⟩)) (.call (.ref f) ⟨.ref (s.heap.objs.size+1)::vs,kw⟩) (PySem.W.InitBack (s.heap.objs.size+1) R)
  { s with heap:=(s.heap.push iu).push (ke C s.heap.objs.size) }):
 mr (bi prog w) A (.call (.ref C) ⟨vs,kw⟩) R s:=by
 obtain⟨hh,g,d,t,os⟩:=s;exact PySem.W.make_core (PySem.W.makes_of X hm) (PySem.W.looks_findIn X hi) (λself=>PySem.W.bind_fn X self hf) (.inl rfl) h
end
def FQ (f:Str) (v:V):List (Str×V)->List (Str×V)
 |[]=>[(f,v)]
 |(g,x)::r=>if g=f then(g,v)::r else(g,x)::FQ f v r
theorem G1 (f g:Str) (v:V):∀fs:List (Str×V),(FQ f v fs).lookup g=if g=f then some v else fs.lookup g
 |[]=>by
  show jf g [(f,v)]=_;by_cases h:g=f
  ·have hb:(g==f)=true:=beq_iff_eq.mpr h;simp only[jf,hb,Ax h]
  ·have hb:(g==f)=false:=beq_eq_false_iff_ne.mpr h;simp only[jf,hb,Ay h]
 |(k,x)::r=>by
  have ih:=G1 f g v r;rw[show FQ f v ((k,x)::r)=(if k=f then(k,v)::r else(k,x)::FQ f v r) from rfl];by_cases hk:k=f
  ·rw[Ax hk];by_cases h:g=k
   ·have hb:(g==k)=true:=beq_iff_eq.mpr h;simp only[jf,hb,Ax (h.trans hk)]
   ·have hb:(g==k)=false:=beq_eq_false_iff_ne.mpr h;simp only[jf,hb,Ay (λe:g=f=>h (e.trans hk.symm))]
  ·rw[Ay hk];by_cases h:g=k
   ·have hb:(g==k)=true:=beq_iff_eq.mpr h;simp only[jf,hb,Ay (λe:g=f=>hk (h.symm.trans e))]
   ·have hb:(g==k)=false:=beq_eq_false_iff_ne.mpr h;simp only[jf,hb];exact ih
theorem F7 (f:Str) (v:V):∀fs:List (Str×V),f∈(FQ f v fs).map (·.1)/\∀g,g∈fs.map (·.1)->g∈(FQ f v fs).map (·.1)
 |[]=>⟨by simp[FQ],λg h=>by simp at h⟩
 |(k,x)::r=>by
  obtain⟨i1,i2⟩:=F7 f v r;rw[show FQ f v ((k,x)::r)=(if k=f then(k,v)::r else(k,x)::FQ f v r) from rfl];by_cases hk:k=f
  ·rw[Ax hk];subst hk;exact⟨by simp,λg h=>by simpa using h⟩
  ·rw[Ay hk];refine⟨?_,λg h=>?_⟩
   ·rw[cz];exact aq _ i1
   ·rw[cz] at h ⊢;rcases bp.mp h with e|e
    ·exact bp.mpr (.inl e)
    ·exact aq _ (i2 g e)
theorem FI (f:Str) (v:V):∀fs:List (Str×V),(FQ f v fs).length<=fs.length+1
 |[]=>by simp[FQ]
 |(k,x)::r=>by
  have ih:=FI f v r;rw[show FQ f v ((k,x)::r)=(if k=f then(k,v)::r else(k,x)::FQ f v r) from rfl];by_cases hk:k=f
  ·rw[Ax hk,dc,dc];omega
  ·rw[Ay hk,dc,dc];omega
theorem RelO.some_of {v:V} {o:Option ah} (r:RelO (some v) o):∃u,o=some u/\RelV v u:=by
 cases o with
 |none=>exact(show False from r).elim
 |some u=>exact⟨u,rfl,r⟩
theorem RelO.none_of {o:Option ah} (r:RelO none o):o=none:=by
 cases o with
 |none=>rfl
 |some u=>exact(show False from r).elim
theorem OA {v:V} {u:ah} (r:RelV v u):xo u=true:=by
 cases v with
 |non=>cases (show u=il from r);rfl
 |bl b=>cases (show u=Aa b from r);rfl
 |int i=>obtain⟨t,e⟩:=(show∃t,u=uN i t from r);cases e;rfl
 |str x=>obtain⟨t,e⟩:=(show∃t,u=xh x t from r);cases e;rfl
 |byt b=>obtain⟨t,e⟩:=(show∃t,u=zQ b t from r);cases e;rfl
 |flt b=>obtain⟨t,e⟩:=(show∃t,u=zS b t from r);cases e;rfl
 |ref a=>cases (show u=cb a from r);rfl
 |ty n=>cases (show u=jd n from r);rfl
section
variable {P:bb} {w:bv} {H H':Hp} {h h':cr} {a C dx:ag} {fs fs':List (Str×V)}
theorem PD (hok:HOk P w H h) (e:H a=some (.ins C dx fs)):∃mA,ObjM h a dx C mA/\(∀f,RelO (fs.lookup f) (mA f))/\ph mA (fs.map (·.1))/\fs.length<=1000/\H dx=some (.own a):=by
 obtain⟨d,z,ne,ob,mA,n,r,q⟩:=(show ObjOk P w H h a (.ins C dx fs) from hok a _ e)
 exact⟨mA,⟨ob,n,ne⟩,r,q,z,d⟩
end
structure Cls (K:aa) (C:ag):Prop where
 pg:sS K C Str.empty=true
 hd:ux K C=true
 po:wN K C=true
 sa:ig K (.ref C) "__setattr__"=some (some (.builtin "object.__setattr__"))
theorem Cls.get {K:aa} {C:ag} (c:Cls K C) (f:Str):sS K C f=true:=c.pg
def NoAttr (K:aa) (C:ag) (f:Str):Prop:=ig K (.ref C) f=some none
theorem NoAttr.taker {K:aa} {C:ag} {f:Str} (n:NoAttr K C f):vv K C f=some none:=by
 unfold vv;rw[show ig K (.ref C) f=some none from n];rfl
structure Meth (K:aa) (C:ag) (m:Str) (f:ag):Prop where
 at_:ig K (.ref C) m=some (some (.ref f))
 fn:qb K (.ref f)=true
 kp:eq K (.ref f)=true
section
variable {X:Cx} {Ap:List (ag×Obj)} {σ:St} {H:Hp} {s:aj} {a C dx:ag} {fs:List (Str×V)} {f:Str} {v:V} {A:de} {E:ah->aj->Prop}
theorem MJ {b:Bool} {Q:ah->aj->Prop} (I:Inv X Ap σ H s) (e:H a=some (.ins C dx fs)) (c:Cls X.K C) (n:NoAttr X.K C f) (l:fs.lookup f=some v)
 (h:∀u s',Inv X Ap σ H s'->RelV v u->Q u s'):bf (bi X.prog X.w) A (zz (.ref a) f b) Q E s:=by
 obtain⟨mA,O,r,_,_,_⟩:=PD I.hok e;obtain⟨u,hu,ru⟩:=RelO.some_of (v:=v) (o:=mA f) (by rw[←l];exact r f);exact cE I.kIn O (c.get f) c.hd n hu (OA ru) (h u _ (I.tok _) ru)
theorem IM {m:Str} {g:ag} {pl:Sem Bool} {Q:ah×List ah->aj->Prop} (I:Inv X Ap σ H s) (e:H a=some (.ins C dx fs)) (c:Cls X.K C) (k:Meth X.K C m g) (l:fs.lookup m=none)
 (h:Q (.ref g,[.ref a]) s):bf (bi X.prog X.w) A (kl (.ref a) m pl) Q E s:=by
 obtain⟨mA,O,r,_,_,_⟩:=PD I.hok e;have hn:mA m=none:=RelO.none_of (by rw[←l];exact r m);exact YI I.kIn O (c.get m) k.at_ k.fn hn h
theorem MK {y:V} {u:ah} {Q:Unit->aj->Prop} (I:Inv X Ap σ H s) (e:H a=some (.ins C dx fs)) (c:Cls X.K C) (n:NoAttr X.K C f) (hl:fs.length<1000) (ry:RelV y u)
 (h:∀s',Inv X Ap σ (upd H a (.ins C dx (FQ f y fs))) s'->Q () s'):bf (bi X.prog X.w) A (zA (.ref a) f u) Q E s:=by
 obtain⟨mA,O,r,wi,_,ho⟩:=PD I.hok e;have hz:(fs.map (·.1)).length<=sizeLine:=by rw[ai,bw];omega
 refine cF I.kIn O c.sa c.po n.taker c.hd wi hz λh' O' sb=>h _ ?_;have hd:∃o,h'.get? dx=some o:=let ⟨o,_,_,e',_⟩:=O'.ns;⟨o,e'⟩;refine I.write (x:=a) (e:=dx) (by rw[e];exact je) (.inr ho) (λb q hb z=>(sb.2 b hb).trans z) hd ?_;refine⟨by rw[AE O.ne];exact ho,?_,O.ne,O'.obj,_,O'.ns,λg=>?_,λg hg=>?_⟩
 ·have:=FI f y fs;omega
 ·show RelO ((FQ f y fs).lookup g) (if g=f then some u else mA g);rw[G1];by_cases q:g=f
  ·rw[Ax q,Ax q];exact ry
  ·rw[Ay q,Ay q];exact r g
 ·by_cases q:g=f
  ·rw[q];exact(F7 f y fs).1
  ·refine(F7 f y fs).2 g (wi g λz=>hg ?_);show(if g=f then some u else mA g)=none;rw[Ay q];exact z
theorem Inv.made (I:Inv X Ap σ H s):Inv X Ap σ (upd (upd H s.heap.objs.size (.own (s.heap.objs.size+1))) (s.heap.objs.size+1) (.ins C s.heap.objs.size []))
 { s with heap:=(s.heap.push iu).push (ke C s.heap.objs.size) }:=by
 have e1:(s.heap.push iu).get? s.heap.objs.size=some iu:=bg s.heap rfl;have e2:((s.heap.push iu).push (ke C s.heap.objs.size)).get? (s.heap.objs.size+1)=some (ke C s.heap.objs.size):=by
  have:=bg (s.heap.push iu) (o:=ke C s.heap.objs.size) rfl
  rwa [fk] at this
 have e3:(s.heap.push iu).Ns s.heap.objs.size (λ_=>none):=⟨iu,#[],_,e1,rfl,(λe he=>absurd he (by simp)),λ_=>rfl⟩
 have I1:=I.laid (a:=s.heap.objs.size) (o:=.own (s.heap.objs.size+1)) (h':=s.heap.push iu) (t':=s.toks) (λb u q=>ak _ q) (au _) ⟨_,e1⟩;refine I1.laid (a:=s.heap.objs.size+1) (o:=.ins C s.heap.objs.size []) (t':=s.toks) (λb u q=>ak _ q) (sg (fk _ _)) ?_;have ne:s.heap.objs.size≠s.heap.objs.size+1:=cj (uR _);refine⟨by rw[AE ne,upd_same],dq _,ne,e2,λ_=>none,(wP e3).at λo q=>ak _ q,λ_=>je,λy hy=>absurd rfl hy⟩
theorem UU {prog:bb} {w:bv} {env:Env} {e:Expr} {f:Str} {pos:Pos} {s:aj} {Q:ah->aj->Prop} (hb:jr e f env (eval e env)=eval e env)
 (h:bf (bi prog w) A (eval e env) (λo s₁=>bf (bi prog w) A (zz o f true) Q E s₁) E s):bf (bi prog w) A (eval (.Attribute e f pos) env) Q E s:=
 Attribute_any_ h (by rw[arm_eval_Attribute,hb])
end
inductive FldAt (K:aa) (f:Str) (x:V) (H:Hp) (Q:V->Prop):Prop
 |intro(a C dx:ag) (fs:List (Str×V)) (v:V) (e:x= .ref a) (h1:H a=some (.ins C dx fs)) (h2:Cls K C) (h3:NoAttr K C f) (h4:fs.lookup f=some v) (h:Q v):FldAt K f x H Q
def NX (K:aa) (ta:TE) (f:Str):TE:=λσ H Q=>ta σ H λx H1=>FldAt K f x H1 λv=>Q v H1
def rP (K:aa) (ta tv:TE) (f:Str):TS:=λD σ H=>tv σ H λy H1=>ta σ H1 λx H2=>Ex4 λa C dx fs=>x= .ref a/\H2 a=some (.ins C dx fs)/\Cls K C/\NoAttr K C f/\fs.length<1000/\
 D.nx σ (upd H2 a (.ins C dx (FQ f y fs)))
def lT (X:Cx) (op:wL) (rd:V->V->Hp->VK->Prop):Prop:=
 ∀(Ap:List (ag×Obj)) (s:aj) (σ:St) (H:Hp) (x y:V) (u v:ah) (Q:VK),Inv X Ap σ H s->RelV x u->RelV y v->rd x y H Q->bf (bi X.prog X.w) X.A (zr op u v) (EP X Ap σ Q) X.xe s
def cG (K:aa) (ta tv:TE) (rd:V->V->Hp->VK->Prop) (f:Str):TS:=λD σ H=>ta σ H λx H1=>Ex5 λa C dx fs v=>x= .ref a/\H1 a=some (.ins C dx fs)/\Cls K C/\NoAttr K C f/\fs.lookup f=some v/\
 tv σ H1 λy H2=>rd v y H2 λz H3=>Ex2 λdx' fs'=>H3 a=some (.ins C dx' fs')/\fs'.length<1000/\D.nx σ (upd H3 a (.ins C dx' (FQ f z fs')))
section
variable {X:Cx} {o e value:Expr} {f:Str} {pos pos' tpos:Pos} {ta tv:TE}
theorem AT (he:PE X e ta) (hb:jr e f X.env (eval e X.env)=eval e X.env):PE X (.Attribute e f pos) (NX X.K ta f):=by
 intro Ap s σ H Q I h;refine UU hb (thn (he Ap s σ H _ I h) λu s1 ⟨x,H1,I1,rx,a,C,dx,fs,v,ex,ea,c,n,l,q⟩=>?_);subst ex;obtain rfl:u=cb a:=rx;exact MJ I1 ea c n l λu' s2 I2 ru=>⟨v,H1,I2,ru,q⟩
theorem CQ (ha:PE X o ta) (hv:PE X value tv) (hs:pq value (some (.Attribute o f pos')) pos.line X.env=pure false):PS X (.Assign [.Attribute o f pos'] value pos) (rP X.K ta tv f):=by
 intro Ap s σ H D I h;refine mn (thn (hv Ap s σ H _ I h) λu s1 ⟨y,H1,I1,ry,q⟩=>thn (ha Ap s1 σ H1 _ I1 q) λov s2 ⟨x,H2,I2,rx,a,C,dx,fs,ex,ea,c,n,l,q2⟩=>?_) hs;subst ex;obtain rfl:ov=cb a:=rx;exact MK I2 ea c n l ry λs3 I3=>⟨σ,_,I3,q2⟩
theorem WV {op:wL} {rd:V->V->Hp->VK->Prop} (ha:PE X o ta) (hv:PE X value tv) (hop:lT X op rd):PS X (.AugAssign (.Attribute o f tpos) op value pos) (cG X.K ta tv rd f):=by
 intro Ap s σ H D I h;refine wpAny_AugAssign_AttributeAny (thn (ha Ap s σ H _ I h) λov s1 ⟨x,H1,I1,rx,a,C,dx,fs,v,ex,ea,c,n,l,q⟩=>?_);subst ex;obtain rfl:ov=cb a:=rx;refine MJ I1 ea c n l λu s2 I2 ru=>thn (hv Ap s2 σ H1 _ I2 q) λw3 s3 ⟨y,H2,I3,ry,q3⟩=>thn (hop Ap s3 σ H2 v y u w3 _ I3 ru ry q3) λw4 s4 ⟨z,H3,I4,rz,dx',fs',ea',l',q4⟩=>?_;exact MK I4 ea' c n l' rz λs5 I5=>⟨σ,_,I5,q4⟩
def rQ:V->V->Hp->VK->Prop:=λx y H Q=>I2At x y λi j=>Q (.int (i+j)) H
theorem gR:lT X .Add rQ:=by
 rintro Ap s σ H x y u v Q I rx ry ⟨i,j,rfl,rfl,q⟩;obtain⟨t,rfl⟩:=(show∃t,u=uN i t from rx)
 obtain⟨t',rfl⟩:=(show∃t',v=uN j t' from ry)
 exact zK ⟨.int (i+j),H,I.tok _,⟨_,rfl⟩,q⟩
theorem eV {pl:Sem Bool} {m:Str} {apos:Pos} {args:List Expr} {Ap:List (ag×Obj)} {s:aj} {σ:St} {H:Hp} {Q:ah->aj->Prop} {te:TE} (he:PE X e te) (I:Inv X Ap σ H s)
 (h:te σ H λx H1=>∃a C dx fs g,x= .ref a/\H1 a=some (.ins C dx fs)/\Cls X.K C/\Meth X.K C m g/\fs.lookup m=none/\
  ∀s1,Inv X Ap σ H1 s1->bf (bi X.prog X.w) X.A (mw pos (.ref g) [.ref a] (ie pos (be args X.env)) (js pos (gj [] X.env))) Q X.xe s1)
 (ht:eval (.Call (.Attribute e m apos) args [] pos) X.env=(do
  let ov←eval e X.env
  mq apos.atName
  let (f,first)←lp [ov] (kl ov m pl)
  mw pos f first (ie pos (be args X.env)) (js pos (gj [] X.env)))):
 bf (bi X.prog X.w) X.A (eval (.Call (.Attribute e m apos) args [] pos) X.env) Q X.xe s:=by
 refine oq (pl:=pl) (thn (he Ap s σ H _ I h) λu s1 ⟨x,H1,I1,rx,a,C,dx,fs,g,ex,ea,c,k,l,q⟩=>?_) ht;subst ex;obtain rfl:u=cb a:=rx;exact IM I1 ea c k l (q s1 I1)
end
structure Room (k:Nat) (A:de):Prop where
 hd:A.handled=none
 dp:A.depth+3*k+5<ub
 un:A.units+16*k+200<wQ
theorem Room.mono {j k:Nat} {A:de} (r:Room k A) (h:j<=k):Room j A:=⟨r.hd,by have:=r.dp;omega,by have:=r.un;omega⟩
theorem Room.deeper {k:Nat} {A:de} (r:Room (k+1) A) (env:Env):Room k (A.deeper env):=
 ⟨r.hd,by have:=r.dp;show A.depth+1+3*k+5<_;omega,by have:=r.un;show A.units+3+16*k+200<_;omega⟩
theorem Room.in1 {k:Nat} {A:de} (r:Room (k+1) A):Room k A.in1:=
 ⟨r.hd,by have:=r.dp;show A.depth+3*k+5<_;omega,by have:=r.un;show A.units+1+16*k+200<_;omega⟩
theorem MM {A:de} {C:ag} {us:List ah} {kw:List (Str×ah)}:(A.under (.builtin "type.__call__" ⟨.ref C::us,kw⟩)).depth=A.depth+1:=by
 first|rfl|simp[wR,Code.weight,Code.isCreation,Code.isGuard,Code.isCaller,zV,wS,guardIds]
theorem MO {A:de} {C:ag} {us:List ah} {kw:List (Str×ah)}:(A.under (.builtin "type.__call__" ⟨.ref C::us,kw⟩)).units=A.units+1:=by
 first|rfl|simp[wR,Code.cUnits,zV,wS]
theorem Room.make {k:Nat} {A:de} (r:Room (k+1) A) (C:ag) (us:List ah) (kw:List (Str×ah)):Room k (A.under (.builtin "type.__call__" ⟨.ref C::us,kw⟩)):=
 ⟨r.hd,by have:=r.dp;rw[MM];omega,by have:=r.un;rw[MO];omega⟩
theorem Room.depth {k:Nat} {A:de} (r:Room k A):A.depth<ub:=by have:=r.dp;omega
theorem Room.units {k:Nat} {A:de} (r:Room k A):A.units+64<wQ:=by have:=r.un;omega
def EK:TA:=λ_ H Q=>Q [] H
def B6 (ta:TE) (tr:TA):TA:=λσ H Q=>ta σ H λx H1=>tr σ H1 λxs H2=>Q (x::xs) H2
section
variable {X:Cx} {e:Expr} {es:List Expr} {te:TE} {t:TA} {pos:Pos}
theorem AF:PA X [] EK:=λ_ _ _ _ H Q I h=>sh ⟨[],H,I,.nil,h⟩
theorem AA (ha:PE X e te) (hr:PA X es t) (hs:be (e::es) X.env=(false,eval e X.env)::be es X.env:=by rfl):PA X (e::es) (B6 te t):=by
 intro pos Ap s σ H Q I h;rw[hs];show bf _ _ (zy ((false,eval e X.env)::ie pos (be es X.env))) _ _ s;refine uc (thn (ha Ap s σ H _ I h) λu s1 ⟨x,H1,I1,r1,q1⟩=>?_);exact thn (hr pos Ap s1 σ H1 _ I1 q1) λus s2 ⟨xs,H2,I2,r2,q2⟩=>⟨x::xs,H2,I2,.cons r1 r2,q2⟩
def gS (t:TA):TE:=λσ H Q=>t σ H λxs H1=>xs.length<=sizeLine/\∀p,H1 p=none->Q (.ref p) (upd H1 p (.tup xs))
def gT (t:TA):TE:=λσ H Q=>t σ H λxs H1=>xs.length<=sizeLine/\∀p,H1 p=none->Q (.ref p) (upd H1 p (.lst xs))
theorem E2 {x1} (h:PA X es t):PE X (.Tuple es x1 pos) (gS t):=by
 intro Ap s σ H Q I hq;refine wpAny_Tuple_spliced (thn (h pos Ap s σ H _ I hq) λus s1 ⟨xs,H1,I1,r,z,q⟩=>⟨by rw[←r.length];exact z,?_⟩);have hf:H1 s1.heap.objs.size=none:=I1.hok.fresh (au _);refine⟨.ref s1.heap.objs.size,upd H1 s1.heap.objs.size (.tup xs),I1.laid (t':=s1.toks) (λb u e=>ak _ e) (au _) ?_,rfl,q _ hf⟩;exact⟨z,us,r,⟨_,bg _ rfl,rfl,_,rfl⟩⟩
theorem DS (h:PA X es t):PE X (.List es pos) (gT t):=by
 intro Ap s σ H Q I hq;refine wpAny_List_spliced (thn (h pos Ap s σ H _ I hq) λus s1 ⟨xs,H1,I1,r,z,q⟩=>⟨by rw[←r.length];exact z,?_⟩);have hf:H1 s1.heap.objs.size=none:=I1.hok.fresh (au _);refine⟨.ref s1.heap.objs.size,upd H1 s1.heap.objs.size (.lst xs),I1.laid (t':=s1.toks) (λb u e=>ak _ e) (au _) ?_,rfl,q _ hf⟩;exact⟨z,us,0,r,bg _ rfl⟩
end
abbrev Sp:=List V->Hp->VK->XK->Prop
abbrev CXT:=List Env->Hp->aj->XK->ah->aj->Prop
structure Env0 (P:bb) (w:bv) (K:aa) (mg:Str->Option ah) (base:cr) (A:de) (outer:List Env) (s:aj) (H:Hp):Prop where
 frames:A.frames=some outer
 mod:Mod K mg base
 bs:∀b o,base.get? b=some o->s.heap.get? b=some o/\H b=none
 bsz:base.objs.size<=s.heap.objs.size
 funs:s.heap.FunFrames base outer
 frf:∀b∈frs outer,H b=none
 hok:HOk P w H s.heap
 bare:ve s.gens
def CE (outer:List Env) (P:bb) (w:bv) (H:Hp) (s:aj) (Q:VK) (u:ah) (s':aj):Prop:=
 Ex2 λv H'=>s'.os=s.os/\ve s'.gens/\Un (frs outer) [] H H' s.heap s'.heap/\HOk P w H' s'.heap/\RelV v u/\Q v H'
def CR (CX:CXT) (outer:List Env) (P:bb) (w:bv) (H:Hp) (s:aj) (Q:VK) (E:XK) (r:xq) (s':aj):Prop:=
 match r with
 | .ok (.ret u)=>CE outer P w H s Q u s'
 | .ok _=>False
 | .error e=>CX outer H s E e s'
structure FnOk (P:bb) (w:bv) (K:aa) (mg:Str->Option ah) (base:cr) (CX:CXT) (k:Nat) (f:ag) (fd:ez) (ps:List Str) (sp:Sp):Prop where
 len:∀vs H Q E,sp vs H Q E->vs.length=ps.length
 run:∀(A:de) (outer:List Env) (s:aj) (H:Hp) (args:Args) (us:List ah) (vs:List V) (Q:VK) (E:XK),Room k A->Env0 P w K mg base A outer s H->wb s fd args (ps.zip us)->Vals vs us->sp vs H Q E->
  mr (bi P w) A (.call (.ref f) args) (CR CX outer P w H s Q E) s
theorem FnOk.mono {P:bb} {w:bv} {K:aa} {mg:Str->Option ah} {base:cr} {CX:CXT} {j k:Nat} {f:ag} {fd:ez} {ps:List Str} {sp:Sp} (F:FnOk P w K mg base CX j f fd ps sp) (h:j<=k):
 FnOk P w K mg base CX k f fd ps sp:=⟨F.len,λA outer s H args us vs Q E hr=>F.run A outer s H args us vs Q E (hr.mono h)⟩
theorem Env0.make {P:bb} {w:bv} {K:aa} {mg:Str->Option ah} {base:cr} {A:de} {outer:List Env} {s:aj} {H:Hp} (e:Env0 P w K mg base A outer s H) (C:ag) (us:List ah) (kw:List (Str×ah)):
 Env0 P w K mg base (A.under (.builtin "type.__call__" ⟨.ref C::us,kw⟩)) outer s H:=⟨by first|exact e.frames|(simpa [wR,Code.envs,wS,pushEnvs] using e.frames),e.mod,e.bs,e.bsz,e.funs,e.frf,e.hok,e.bare⟩
theorem Env0.in1 {P:bb} {w:bv} {K:aa} {mg:Str->Option ah} {base:cr} {A:de} {outer:List Env} {s:aj} {H:Hp} (e:Env0 P w K mg base A outer s H):
 Env0 P w K mg base A.in1 outer s H:=⟨e.frames,e.mod,e.bs,e.bsz,e.funs,e.frf,e.hok,e.bare⟩
section
variable {X:Cx} {Ap:List (ag×Obj)} {σ:St} {H:Hp} {s s':aj}
theorem Inv.env0 (I:Inv X Ap σ H s):Env0 X.prog X.w X.K X.mg X.base X.A X.stack s H:=
 ⟨I.ok.frames,I.ok.mod,I.bs,cy I.ok.bsz I.sz,I.stack,I.stkFree,I.hok,I.bare⟩
theorem Inv.after {Q:VK} {u:ah} (I:Inv X Ap σ H s) (h:CE X.stack X.prog X.w H s Q u s'):EP X Ap σ Q u s':=by
 obtain⟨v,H',os,bare,un,hok,r,q⟩:=h;obtain⟨hh,g,d,t,os'⟩:=s';obtain rfl:os'=s.os:=os;exact⟨v,H',I.call (h':=hh) (g':=g) (d':=d) (t':=t) (ch:=[]) un hok bare (λb z=>absurd z (by simp)),r,q⟩
end
def K1 (sp:Sp) (dvs:List V) (E:XK) (t:TA):TE:=λσ H Q=>t σ H λvs H1=>sp (vs++dvs) H1 Q E
def QX (C:ag) (m:Str) (sp:Sp) (dvs:List V) (E:XK) (ta:TE) (t:TA):TE:=λσ H Q=>ta σ H λx H1=>Ex3 λa dx fs=>x= .ref a/\H1 a=some (.ins C dx fs)/\fs.lookup m=none/\
 t σ H1 λvs H2=>sp (x::(vs++dvs)) H2 Q E
def UV (C:ag) (sp:Sp) (dvs:List V) (E:XK) (t:TA):TE:=λσ H Q=>t σ H λvs H1=>∀x dx,H1 x=none->H1 dx=none->dx≠x->
 sp (.ref x::(vs++dvs)) (upd (upd H1 dx (.own x)) x (.ins C dx [])) (λv H2=>v= .non/\Q (.ref x) H2) E
def Binds (K:aa) (fd:ez) (ps:List Str) (ds:List ah):Prop:=
 ∀(s:aj) (us:List ah),K.In s.heap->(us++ds).length=ps.length->wb s fd ⟨us,[]⟩ (ps.zip (us++ds))
theorem Binds.all {K:aa} {fd:ez} {ps:List Str} (h:∀us:List ah,us.length=ps.length->vP fd ⟨us,[]⟩=pure (ps.zip us)):Binds K fd ps []:=λs us _ hl=>by
 rw[jc] at hl ⊢;exact .of_eq (h us hl)
def D7 (CX:CXT) (X:Cx) (E:XK):Prop:=∀(Ap:List (ag×Obj)) (σ:St) (H:Hp) (s:aj) (e:ah) (s':aj),Inv X Ap σ H s->CX X.stack H s E e s'->X.xe e s'
section
variable {X:Cx} {CX:CXT} {k:Nat} {f C:ag} {fd:ez} {ps:List Str} {sp:Sp} {dvs:List V} {ds:List ah} {E:XK} {x m:Str} {p pos apos:Pos} {e o:Expr} {es:List Expr} {ta:TE} {t:TA}
theorem SR {Ap:List (ag×Obj)} {σ:St} {H:Hp} {s:aj} {Q:VK} {us:List ah} {vs:List V} (F:FnOk X.prog X.w X.K X.mg X.base CX k f fd ps sp) (hr:Room k X.A) (hb:Binds X.K fd ps ds) (hd:Vals dvs ds) (hx:D7 CX X E)
 (I:Inv X Ap σ H s) (r:Vals vs us) (h:sp (vs++dvs) H Q E):bf (bi X.prog X.w) X.A (call (.ref f) us) (EP X Ap σ Q) X.xe s:=by
 have r2:Vals (vs++dvs) (us++ds):=r.append hd;have hl:(us++ds).length=ps.length:=by rw[←r2.length];exact F.len _ _ _ _ h
 refine sU (nk (F.run X.A X.stack s H ⟨us,[]⟩ (us++ds) (vs++dvs) Q E hr I.env0 (hb s us I.kIn hl) r2 h) λr s' hq=>?_);cases r with
 |error e=>exact hx Ap σ H s e s' I hq
 |ok fl=>
  cases fl with
  |ret u=>exact I.after hq
  |next=>exact fi hq
  |brk=>exact fi hq
  |cont=>exact fi hq
theorem cH (F:FnOk X.prog X.w X.K X.mg X.base CX k f fd ps sp) (hr:Room k X.A) (hg:Gl X x) (hm:X.mg x=some (.ref f)) (hk:eq X.K (.ref f)=true) (hb:Binds X.K fd ps ds) (hd:Vals dvs ds) (hx:D7 CX X E)
 (ha:PA X (e::es) t) (hdb:(x==("__debug__":Str))=false:=by decide) (he:be (e::es) X.env=(false,eval e X.env)::be es X.env:=by rfl) (hpl:(ie pos (be es X.env)).any (·.1)=false:=by rfl):
 PE X (.Call (.Name x p) (e::es) [] pos) (K1 sp dvs E t):=by
 intro Ap s σ H Q I h;refine gr (ET I hg hm ?_ hdb);refine nq (h₀:=X.base) I.ok.mod.kin hk (thn (ha pos Ap s σ H _ I h) λus s1 ⟨vs,H1,I1,r,q⟩=>⟨I1.kIn,?_⟩) he hpl;exact SR F hr hb hd hx I1 r q
theorem cI {pl:Sem Bool} (he:PE X o ta) (c:Cls X.K C) (hm:Meth X.K C m f) (F:FnOk X.prog X.w X.K X.mg X.base CX k f fd ps sp) (hr:Room k X.A) (hb:Binds X.K fd ps ds) (hd:Vals dvs ds) (hx:D7 CX X E) (ha:PA X (e::es) t)
 (hst:be (e::es) X.env=(false,eval e X.env)::be es X.env:=by rfl) (hpl:(ie pos (be es X.env)).any (·.1)=false:=by rfl)
 (ht:eval (.Call (.Attribute o m apos) (e::es) [] pos) X.env=(do
  let ov←eval o X.env
  mq apos.atName
  let (f,first)←lp [ov] (kl ov m pl)
  mw pos f first (ie pos (be (e::es) X.env)) (js pos (gj [] X.env))):=by rfl):
 PE X (.Call (.Attribute o m apos) (e::es) [] pos) (QX C m sp dvs E ta t):=by
 intro Ap s σ H Q I h;refine oq (pl:=pl) (thn (he Ap s σ H _ I h) λu s1 ⟨x,H1,I1,rx,a,dx,fs,ex,ea,l,q⟩=>?_) ht;subst ex;obtain rfl:u=cb a:=rx;refine IM I1 ea c hm l ?_;refine nq (first:=[.ref a]) (h₀:=X.base) I.ok.mod.kin hm.kp (thn (ha pos Ap s1 σ H1 _ I1 q) λus s2 ⟨vs,H2,I2,r,q2⟩=>⟨I2.kIn,?_⟩) hst hpl;exact SR (us:=.ref a::us) (vs:=.ref a::vs) F hr hb hd hx I2 (.cons rfl r) q2
theorem YK {pl:Sem Bool} (he:PE X o ta) (c:Cls X.K C) (hm:Meth X.K C m f) (F:FnOk X.prog X.w X.K X.mg X.base CX k f fd ps sp) (hr:Room k X.A) (hb:Binds X.K fd ps ds) (hd:Vals dvs ds) (hx:D7 CX X E)
 (ht:eval (.Call (.Attribute o m apos) [] [] pos) X.env=(do
  let ov←eval o X.env
  mq apos.atName
  let (f,first)←lp [ov] (kl ov m pl)
  mw pos f first (ie pos (be [] X.env)) (js pos (gj [] X.env))):=by rfl):
 PE X (.Call (.Attribute o m apos) [] [] pos) (QX C m sp dvs E ta EK):=by
 intro Ap s σ H Q I h;refine oq (pl:=pl) (thn (he Ap s σ H _ I h) λu s1 ⟨x,H1,I1,rx,a,dx,fs,ex,ea,l,q⟩=>?_) ht;subst ex;obtain rfl:u=cb a:=rx;refine IM I1 ea c hm l ?_;exact tO (first:=[.ref a]) I1.kIn hm.kp (SR (us:=[.ref a]) (vs:=[.ref a]) F hr hb hd hx I1 (.cons rfl .nil) q)
structure Mk (K:aa) (C f:ag):Prop where
 makes:vx K C=true
 init:ig K (.ref C) "__init__"=some (some (.ref f))
 fn:qb K (.ref f)=true
 kp:eq K (.ref C)=true
theorem QY {Ap:List (ag×Obj)} {σ:St} {H:Hp} {s:aj} {Q:VK} {us:List ah} {vs:List V} (M:Mk X.K C f) (F:FnOk X.prog X.w X.K X.mg X.base CX k f fd ps sp) (hr:Room (k+1) X.A) (hb:Binds X.K fd ps ds) (hd:Vals dvs ds)
 (hx:D7 CX X E) (I:Inv X Ap σ H s) (r:Vals vs us)
 (h:∀x dx,H x=none->H dx=none->dx≠x->sp (.ref x::(vs++dvs)) (upd (upd H dx (.own x)) x (.ins C dx [])) (λv H2=>v= .non/\Q (.ref x) H2) E):
 bf (bi X.prog X.w) X.A (call (.ref C) us) (EP X Ap σ Q) X.xe s:=by
 have hq:=h (s.heap.objs.size+1) s.heap.objs.size (I.hok.fresh (tq _)) (I.hok.fresh (au _)) (cj (uR _));have I2:=Inv.made (C:=C) I;have r2:Vals (V.ref (s.heap.objs.size+1)::(vs++dvs)) (cb (s.heap.objs.size+1)::(us++ds)):=.cons rfl (r.append hd);have hl:(cb (s.heap.objs.size+1)::us++ds).length=ps.length:=by
  have e:=r2.length;rw[F.len _ _ _ _ hq] at e;exact e.symm
 refine sU (YJ (f:=f) I.kIn M.makes M.init (beq_iff_eq.mp M.fn) (nk (F.run _ X.stack _ _ ⟨cb (s.heap.objs.size+1)::us,[]⟩ (cb (s.heap.objs.size+1)::(us++ds)) _ _ E (hr.make C us [])
  (I2.env0.make C us []) (hb _ (cb (s.heap.objs.size+1)::us) I2.kIn hl) r2 hq) λr s' hq'=>?_))
 cases r with
 |error e=>exact hx Ap σ _ _ e s' I2 hq'
 |ok fl=>
  cases fl with
  |ret u=>
   obtain⟨v,H',I3,rv,ev,q3⟩:=I2.after hq';subst ev;exact⟨rv,⟨V.ref (s.heap.objs.size+1),H',I3,rfl,q3⟩⟩
  |next=>exact fi hq'
  |brk=>exact fi hq'
  |cont=>exact fi hq'
theorem cJ (M:Mk X.K C f) (F:FnOk X.prog X.w X.K X.mg X.base CX k f fd ps sp) (hr:Room (k+1) X.A) (hg:Gl X x) (hm:X.mg x=some (.ref C)) (hb:Binds X.K fd ps ds) (hd:Vals dvs ds) (hx:D7 CX X E)
 (ha:PA X (e::es) t) (hdb:(x==("__debug__":Str))=false:=by decide) (he:be (e::es) X.env=(false,eval e X.env)::be es X.env:=by rfl) (hpl:(ie pos (be es X.env)).any (·.1)=false:=by rfl):
 PE X (.Call (.Name x p) (e::es) [] pos) (UV C sp dvs E t):=by
 intro Ap s σ H Q I h;refine gr (ET I hg hm ?_ hdb);refine nq (h₀:=X.base) I.ok.mod.kin M.kp (thn (ha pos Ap s σ H _ I h) λus s1 ⟨vs,H1,I1,r,q⟩=>⟨I1.kIn,?_⟩) he hpl;exact QY M F hr hb hd hx I1 r q
theorem YL (M:Mk X.K C f) (F:FnOk X.prog X.w X.K X.mg X.base CX k f fd ps sp) (hr:Room (k+1) X.A) (hg:Gl X x) (hm:X.mg x=some (.ref C)) (hb:Binds X.K fd ps ds) (hd:Vals dvs ds) (hx:D7 CX X E)
 (hdb:(x==("__debug__":Str))=false:=by decide):PE X (.Call (.Name x p) [] [] pos) (UV C sp dvs E EK):=by
 intro Ap s σ H Q I h;refine gr (ET I hg hm ?_ hdb);exact tO I.kIn M.kp (QY (us:=[]) M F hr hb hd hx I .nil h)
end
def PK (X:Cx) (kws:List vg) (t:TA):Prop:=
 ∀(pos:Pos) (Ap:List (ag×Obj)) (s:aj) (σ:St) (H:Hp) (Q:List V->Hp->Prop),Inv X Ap σ H s->t σ H Q->bf (bi X.prog X.w) X.A (evalAll ((js pos (gj kws X.env)).map (·.2))) (AP X Ap σ Q) X.xe s
section
variable {X:Cx} {CX:CXT} {k:Nat} {f C:ag} {fd:ez} {ps ks:List Str} {sp:Sp} {E:XK} {x m:Str} {p pos apos kpos:Pos} {e o:Expr} {es:List Expr} {kws:List vg} {te ta:TE} {t tk:TA} {nm:Option Str}
theorem BS (ha:PE X e te) (hr:PK X kws t):PK X (⟨nm,e,kpos⟩::kws) (B6 te t):=by
 intro pos Ap s σ H Q I h;show bf _ _ (evalAll ((do let v←eval e X.env;mq pos;pure v)::(js pos (gj kws X.env)).map (·.2))) _ _ s;refine wpAny_evalAll_cons (ae (thn (ha Ap s σ H _ I h) λu s1 ⟨x,H1,I1,r1,q1⟩=>ae (jq (ao ?_))));exact thn (hr pos Ap s1 σ H1 _ I1 q1) λus s2 ⟨xs,H2,I2,r2,q2⟩=>⟨x::xs,H2,I2,.cons r1 r2,q2⟩
variable {g:List ah->List ah->List ah} {gV:List V->List V->List V}
end
structure FnScope (N P:List Str) (sc:jj):Prop where
 kind:sc.kind= .function:=by rfl
 co:sc.isCoroutine=false:=by rfl
 gen:sc.isGenerator=false:=by rfl
 nd:N.Nodup:=by decide +kernel
 pre:N.take P.length=P:=by rfl
 par:∀x∈P,sc.names.lookup x=some .local\/sc.names.lookup x=some .cell:=by decide +kernel
 nofree:∀y∈sc.names,y.2≠.free:=by decide +kernel
theorem OB {kindOf:Str->Option kq} {x:Str}:∀{binds:List (Str×ah)} {m:Str->Option ah},(∀v,(x,v)∉binds)->yk kindOf binds m x=m x
 |[],_,_=>rfl
 |(n,v)::r,m,h=>by
  unfold yk;rw[OB λw hw=>h w (aq _ hw)];split
  ·have:x≠n:=by rintro rfl;exact h v bc
   simp[this]
  ·rfl
theorem OC {kindOf:Str->Option kq} {x:Str}:∀{binds:List (Str×ah)} {m:Str->Option ah},(∀v,(x,v)∉binds)->yl kindOf binds m x=m x
 |[],_,_=>rfl
 |(n,v)::r,m,h=>by
  unfold yl;rw[OC λw hw=>h w (aq _ hw)];split
  ·rfl
  ·have:x≠n:=by rintro rfl;exact h v bc
   simp[this]
theorem OE {kindOf:Str->Option kq} {x:Str} {v:ah}:∀{P:List Str} {vs:List ah} {i:Nat} {m:Str->Option ah},P.Nodup->P[i]? =some x->vs[i]? =some v->kindOf x=some .local->
 yk kindOf (P.zip vs) m x=some v
 |[],_,_,_,_,h,_,_=>by simp at h
 |_::_,[],_,_,_,_,h,_=>by simp at h
 |p::P,w::vs,0,m,nd,h1,h2,hk=>by
  simp at h1 h2;subst h1;subst h2;show yk kindOf ((p,w)::P.zip vs) m p=_;unfold yk;rw[OB λv hv=>(qx.mp nd).1 (qy hv).1,Ax hk];simp
 |p::P,w::vs,i+1,m,nd,h1,h2,hk=>by
  show yk kindOf ((p,w)::P.zip vs) m x=_;unfold yk;exact OE (i:=i) (qx.mp nd).2 (by simpa using h1) (by simpa using h2) hk
theorem OF {kindOf:Str->Option kq} {x:Str} {v:ah}:∀{P:List Str} {vs:List ah} {i:Nat} {m:Str->Option ah},P.Nodup->P[i]? =some x->vs[i]? =some v->kindOf x≠some .local->
 yl kindOf (P.zip vs) m x=some v
 |[],_,_,_,_,h,_,_=>by simp at h
 |_::_,[],_,_,_,_,h,_=>by simp at h
 |p::P,w::vs,0,m,nd,h1,h2,hk=>by
  simp at h1 h2;subst h1;subst h2;show yl kindOf ((p,w)::P.zip vs) m p=_;unfold yl;rw[OC λv hv=>(qx.mp nd).1 (qy hv).1,Ay hk];simp
 |p::P,w::vs,i+1,m,nd,h1,h2,hk=>by
  show yl kindOf ((p,w)::P.zip vs) m x=_;unfold yl;exact OF (i:=i) (qx.mp nd).2 (by simpa using h1) (by simpa using h2) hk
def FJ (N:List Str) (vs:List V):St:=vs.map some++ym (N.length - vs.length) none
def NY (CX:CXT) (P:bb) (w:bv) (K:aa) (mg:Str->Option ah) (base:cr) (N:List Str) (qual:Str) (scope:jj) (f:ag) (cd:ah) (A:de) (outer:List Env) (s:aj) (H:Hp) (E:XK):Cx where
 prog:=P
 w:=w
 K:=K
 mg:=mg
 base:=base
 A:=A.deeper (ud qual scope s.heap.objs.size f cd)
 N:=N
 s_0:=s
 H_0:=H
 env:=ud qual scope s.heap.objs.size f cd
 outer:=outer
 stack:=ud qual scope s.heap.objs.size f cd::outer
 ex:=[]
 calm:=true
 fn:=λ_=>true
 pn:=[]
 xe:=λe s'=>bf (bi P w) (A.deeper (ud qual scope s.heap.objs.size f cd)) (leaving (ud qual scope s.heap.objs.size f cd) e) (λ_ s''=>CX outer H s E e s'') (λe' s''=>CX outer H s E e' s'') s'
theorem QZ {sc:jj} {n:Nat} {x:Str} (h:sc.names.lookup x=some .cell):∃c,(ik n sc.names []).lookup x=some c:=by
 have q:=si sc.names n [] (.inl h);exact qk.mp q
theorem OG {CX:CXT} {P:bb} {w:bv} {K:aa} {mg:Str->Option ah} {base:cr} {N ps:List Str} {qual:Str} {scope:jj} {f:ag} {cd:ah} {A:de} {outer:List Env} {s s1:aj} {H:Hp} {E:XK} {us:List ah} {vs:List V}
 (S:FnScope N ps scope) (hd:A.handled=none) (e0:Env0 P w K mg base A outer s H) (hl:vs.length=ps.length) (r:Vals vs us)
 (x:InCallC s s.heap.objs.size (yk (ud qual scope s.heap.objs.size f cd).kindOf (ps.zip us) λ_=>none) (ik (s.heap.objs.size+1) scope.names []) (yl (ud qual scope s.heap.objs.size f cd).kindOf (ps.zip us) λ_=>none) s1):
 Inv (NY CX P w K mg base N qual scope f cd A outer s H E) [] (FJ N vs) H s1:=by
 have hpl:ps.length<=N.length:=by have:=congrArg pc S.pre;rw[df] at this;omega
 obtain⟨h1,tk,rfl,hk⟩:=x.done;have noA:∀b:ag,b∉(NY CX P w K mg base N qual scope f cd A outer s H E).ex:=λb z=>absurd (show b∈([]:List ag) from z) (by simp);refine⟨⟨e0.mod,S.kind,rfl,rfl,au _,λy z c h1 h2=>?_,λy hy=>?_,λy c _ h=>?_,λ_=>hd,tu e0.frames,.inr ⟨rfl,rfl⟩,λb z=>absurd z (noA b),e0.bs,e0.bsz,λb _ _=>noA b,λb z=>absurd z (noA b),e0.funs,e0.frf⟩,
  rfl,e0.bare,Un.kept hk,⟨_,x.toInCall.ns,λi y v h1 h2 h3=>?_⟩,λy c h=>⟨_,x.cell y c h⟩,e0.hok.fresh (au _),λy c h=>?_,λp hp=>absurd (show p∈([]:List (ag×Obj)) from hp) (by simp),e0.hok.kept hk,?_⟩
 ·exact name_of_addr x.apart (cp h1) (cp h2)
 ·have hy:scope.names.lookup y=some .cell\/scope.names.lookup y=some .free:=hy;rcases hy with hy|hy
  ·exact QZ hy
  ·exact absurd rfl (S.nofree _ (cp hy))
 ·exact pj (x.above y c (cp h))
 ·have hi:i<vs.length:=by
   unfold FJ at h2;by_cases hi:i<vs.length
   ·exact hi
   ·rw[ue (by simpa using hi)] at h2;rw[List.getElem?_replicate] at h2;split at h2<;>cases h2
  have ha:vs[i]? =some v:=by
   unfold FJ at h2;rw[uu (by simpa using hi),az] at h2;cases e:vs[i]? with
   |none=>rw[e] at h2;cases h2
   |some a=>rw[e] at h2;cases h2;rfl
  obtain⟨u,hu,rv⟩:=r.get ha;have hp:ps[i]? =some y:=by
   rw[←S.pre,List.getElem?_take_of_lt (by omega)];exact h1
  have ndP:ps.Nodup:=by rw[←S.pre];exact S.nd.sublist (List.take_sublist _ _)
  refine⟨u,rv,?_⟩;rcases S.par y (bz hp) with k|k
  ·exact .inl ⟨k,OE ndP hp hu k⟩
  ·obtain⟨c,e⟩:=QZ (n:=s.heap.objs.size+1) k;refine .inr ⟨.inl k,c,e,?_⟩;have q:=x.cell y c e;rw[OF ndP hp hu (by show scope.names.lookup y≠_;rw[k];decide)] at q;exact q
 ·exact e0.hok.fresh (pj (x.above y c (cp h)))
 ·unfold FJ;show _=N.length;rw[bq,ai,List.length_replicate];omega
theorem eW {CX:CXT} {P:bb} {w:bv} {K:aa} {mg:Str->Option ah} {base:cr} {k:Nat} {f:ag} {name qual:Str} {params:tV} {body:List dm} {scope:jj} {dV kV doc pm Av ct oc:ah} {an od:Option ag}
 {osl:Array (Option ah)} {N ps:List Str} {sp:Sp} (lk:K.lookup f=some ⟨oc,od,.func (gy name qual params body scope dV kV doc pm an Av ct),osl⟩) (hcd:jb K Av qual=true) (S:FnScope N ps scope)
 (len:∀vs H Q E,sp vs H Q E->vs.length=ps.length)
 (hbody:∀(A:de) (outer:List Env) (s:aj) (H:Hp) (vs:List V) (Q:VK) (E:XK),Room k (A.deeper (ud qual scope s.heap.objs.size f Av))->sp vs H Q E->
  ∃t,PSs (NY CX P w K mg base N qual scope f Av A outer s H E) body t/\t { nx:=λ_ H'=>Q .non H',rt:=Q } (FJ N vs) H):
 FnOk P w K mg base CX (k+1) f (gy name qual params body scope dV kV doc pm an Av ct) ps sp:=by
 refine⟨len,λA outer s H args us vs Q E hr e0 hb r hsp=>?_⟩;have hl:=len _ _ _ _ hsp;have KX:K.In s.heap:=e0.mod.kin.keeps λb o e=>(e0.bs b o e).1;have lim:s.heap.NoLimit:=e0.mod.nolimit.keeps λb o e=>(e0.bs b o e).1;have hkind:∀y∈ps.zip us,scope.names.lookup y.1=some .local\/(scope.names.lookup y.1=some .cell/\((ik (s.heap.objs.size+1) scope.names []).lookup y.1).isSome=true):=λ⟨n,v⟩ hy=>by
  rcases S.par n (qy hy).1 with q|q
  ·exact .inl q
  ·exact .inr ⟨q,si _ _ _ (.inl q)⟩
 refine vF hr.depth (KX _ _ lk) rfl S.co S.gen rfl (wz KX hcd) (hb _ _ _ _ ?_);refine uf S.kind hkind λenv he s1 x=>?_;subst he;refine⟨lim.keeps x.toInCall.keep,codeAny_func ?_⟩;obtain⟨t,ht,hq⟩:=hbody A outer s H vs Q E (hr.deeper _) hsp;have I:Inv (NY CX P w K mg base N qual scope f Av A outer s H E) [] (FJ N vs) H s1:=OG S hr.hd e0 hl r x;refine gq (ht [] s1 (FJ N vs) H _ I hq) (λfl s' hs=>?_) λe s' hs=>hs;have fin:∀{σ':St} {H':Hp} {v:V} {u:ah},Inv (NY CX P w K mg base N qual scope f Av A outer s H E) [] σ' H' s'->RelV v u->Q v H'->CE outer P w H s Q u s':=
  λ{σ' H' v u} J rv q=>⟨v,H',J.os,J.bare,J.base,J.hok,rv,q⟩
 cases fl with
 |ret u=>
  obtain⟨v,σ',H',J,rv,q⟩:=hs;exact fin J rv q
 |next=>
  obtain⟨σ',H',J,q⟩:=hs;exact fin (v:=V.non) (u:=il) J rfl q
 |brk=>
  obtain⟨_,_,_,q⟩:=hs;exact fi q
 |cont=>
  obtain⟨_,_,_,q⟩:=hs;exact fi q
section
variable {X:Cx} {x:Str} {p pos:Pos} {e:Expr} {es:List Expr} {t:TA} {id T:String} {r:List V->Hp->VK->Prop}
def tCB (r:List V->Hp->VK->Prop) (t:TA):TE:=λσ H Q=>t σ H λvs H1=>r vs H1 Q
theorem AY (hc:KY X (.builtin id) r) (hg:Gl X x) (hm:X.mg x=none) (hv:jp x=some (.builtin id)) (ha:PA X (e::es) t) (hn:x≠"__name__":=by decide) (hdb:(x==("__debug__":Str))=false:=by decide)
 (he:be (e::es) X.env=(false,eval e X.env)::be es X.env:=by rfl) (hpl:(ie pos (be es X.env)).any (·.1)=false:=by rfl):PE X (.Call (.Name x p) (e::es) [] pos) (tCB r t):=by
 intro Ap s σ H Q I h;refine gr (EJ I hg hm hv ?_ hn hdb);exact xr (thn (ha pos Ap s σ H _ I h) λus s1 ⟨vs,H1,I1,r1,q1⟩=>hc Ap s1 σ H1 vs us Q I1 r1 q1) he hpl
theorem J0 (hc:KY X (.type T) r) (hg:Gl X x) (hm:X.mg x=none) (hv:jp x=some (.type T)) (ha:PA X (e::es) t) (hn:x≠"__name__":=by decide) (hdb:(x==("__debug__":Str))=false:=by decide)
 (he:be (e::es) X.env=(false,eval e X.env)::be es X.env:=by rfl) (hpl:(ie pos (be es X.env)).any (·.1)=false:=by rfl):PE X (.Call (.Name x p) (e::es) [] pos) (tCB r t):=by
 intro Ap s σ H Q I h;refine gr (EJ I hg hm hv ?_ hn hdb);exact dh (thn (ha pos Ap s σ H _ I h) λus s1 ⟨vs,H1,I1,r1,q1⟩=>hc Ap s1 σ H1 vs us Q I1 r1 q1) he hpl
end
end L2
namespace HT
open PySem PyProof.Rows
def lexLt:List Int->List Int->Bool
 |[],[]=>false
 |[],_::_=>true
 |_::_,[]=>false
 |x::xs,y::ys=>if x=y then lexLt xs ys else decide (x<y)
theorem lexLt_cons (x y:Int) (xs ys:List Int):lexLt (x::xs) (y::ys)=if x=y then lexLt xs ys else decide (x<y):=rfl
theorem lexLt_nil_nil:lexLt [] []=false:=rfl
section
open PySem.SeqAt
open PySem.AutoSeq1 (wpAny_loadPart')
open PySem.MeetsSeq PySem.MeetsSeq2 PySem.MeetsSeq3
end
section
variable {prog:bb} {w:bv} {A:de} {E:ah->aj->Prop} {s:aj}
def sIx (n d:Nat):Option Int->Nat
 |none=>d
 |some v=>if v<0 then(v+(n:Int)).toNat else min v.toNat n
theorem gU (n d:Nat) (hd:d<=n) (o:Option Int):sIx n d o<=n:=by
 cases o with
 |none=>exact hd
 |some v=>
  show(if v<0 then(v+(n:Int)).toNat else min v.toNat n)<=n;by_cases hv:v<0
  ·rw[Ax hv];omega
  ·rw[Ay hv];exact Nat.min_le_right _ _
theorem UW (v:Int) (n d:Nat):(if v<0 then max (v+(n:Int)) 0 else min v (n:Int))=((sIx n d (some v):Nat):Int):=by
 show(if v<0 then max (v+(n:Int)) 0 else min v (n:Int))=(((if v<0 then(v+(n:Int)).toNat else min v.toNat n):Nat):Int);by_cases hv:v<0
 ·simp only[Ax hv];omega
 ·simp only[Ay hv];omega
theorem SS (lo hi:Option Int) (n:Nat):qe lo hi 1 (n:Int)=(((sIx n 0 lo:Nat):Int),((sIx n n hi:Nat):Int)):=by
 have h1:¬((1:Int)<0):=by omega
 unfold qe;simp only[h1,if_false];refine Prod.ext ?_ ?_
 ·cases lo with
  |none=>rfl
  |some v=>exact UW v n 0
 ·cases hi with
  |none=>rfl
  |some v=>exact UW v n n
theorem ST (i j:Nat):lh (i:Int) (j:Int) 1=j - i:=by
 unfold lh;have h1:(1:Int)>0:=by omega
 simp only[h1,if_true,Int.ediv_one];split<;>omega
theorem MP {v:ah} {o:Option Int} {Q:Option Int->aj->Prop} (p:wA v o) (h:Q o s):bf (bi prog w) A (xU v) Q E s:=by
 cases p with
 |none=>exact yn h
 |int i t=>exact slicePart_int h
theorem J4 {sl:ag} {vl vu:ah} {lo hi:Option Int} {n:Nat} {Q:Int×Int×Nat->aj->Prop} (hs:s.heap.IsSliceOf sl vl vu .none) (pl:wA vl lo) (pu:wA vu hi)
 (h:Q (((sIx n 0 lo:Nat):Int),1,sIx n n hi - sIx n 0 lo) s):bf (bi prog w) A (ug (.ref sl) (pure (n:Int))) Q E s:=by
 obtain⟨os,hos,hcs,hds⟩:=id hs;unfold ug yV;refine ae (ae (im hos hds (x:=vl) rfl (ae (im hos hds (x:=vu) rfl (ae (im hos hds (x:=.none) rfl (ao ?_)))))));refine ae (yn ?_);show bf _ _ (if((1:Int)==0)=true then _ else _) _ _ s;rw[Ay (by decide)];refine ae (MP pl (ae (MP pu (ae (ao ?_)))));show bf _ _ (match qe lo hi 1 (n:Int) with|(lo,hi)=>pure (lo,(1:Int),lh lo hi 1)) _ _ s;rw[SS lo hi n];show bf _ _ (pure (((sIx n 0 lo:Nat):Int),(1:Int),lh ((sIx n 0 lo:Nat):Int) ((sIx n n hi:Nat):Int) 1)) _ _ s;rw[ST];exact ao h
theorem YM (xs:Array ah) (i k:Nat):((jn k).filterMap λ(m:Nat)=>xs[((i:Int)+(m:Int)*1).toNat]?).toArray=((xs.toList.drop i).take k).toArray:=by
 have e:(λ(m:Nat)=>xs[((i:Int)+(m:Int)*1).toNat]?)=λm=>xs[i+m]?:=by
  funext m;have:((i:Int)+(m:Int)*1).toNat=i+m:=by omega
  rw[this]
 rw[e];have:=pick_run xs i k;rw[List.filterMap_map] at this;have e2:((λx=>xs[x]?)∘λx=>i+x)=λm=>xs[i+m]?:=rfl;rw[e2] at this;rw[this]
theorem getItem_tuple_cut {t sl:ag} {items:Array ah} {vl vu:ah} {lo hi:Option Int} {Q:ah->aj->Prop} (ht:IsTup s.heap t items) (hs:s.heap.IsSliceOf sl vl vu .none) (pl:wA vl lo) (pu:wA vu hi)
 (hw:¬(sIx items.size 0 lo=0/\sIx items.size items.size hi=items.size))
 (h:Q (.ref s.heap.objs.size) { s with heap:=s.heap.push { cls:=.type "tuple",data:=.seq ((items.toList.drop (sIx items.size 0 lo)).take (sIx items.size items.size hi - sIx items.size 0 lo)).toArray } })
 (hsz:items.size<=sizeLine):bf (bi prog w) A (vh (.ref t) (.ref sl)) Q E s:=by
 have htake:sizeOk (.seq ((items.toList.drop (sIx items.size 0 lo)).take (sIx items.size items.size hi - sIx items.size 0 lo)).toArray):=by
  show((items.toList.drop (sIx items.size 0 lo)).take (sIx items.size items.size hi - sIx items.size 0 lo)).toArray.size<=sizeLine;rw[bn,df,fx,fv];omega
 have hj:sIx items.size items.size hi<=items.size:=gU _ _ (au _) hi;obtain⟨os,hos,hcs,hds⟩:=id hs;have hTs:s.TypeIs (.ref sl) "slice":=⟨os,hos,hcs⟩
 unfold vh;try with_reducible refine ij ?_
 first|refine ae (ao ?_)|skip
 refine ae (wpAny_sequenceKey ht.typeIs (by decide) ?_);refine ae (jw (name:=lu "__getitem__") ht.typeIs mo
  (mx mo ht.typeIs entry_tuple_getitem ?_ (args_tuple_getitem _ _)))
 show bf _ _ (yo (.ref t) >>= _) _ _ s;refine ae (tupleItemsOf_ ht ?_);refine ae (wpAny_typeOf hTs ?_);rw[Ax (by decide)];refine ae (J4 hs pl pu ?_);have hno:¬((((sIx items.size 0 lo:Nat):Int)==0&&(1:Int)==1&&(sIx items.size items.size hi - sIx items.size 0 lo)==items.size)=true):=by
  intro q;rw[km,km] at q;have q1:((sIx items.size 0 lo:Nat):Int)=0:=eq_of_beq q.1.1;have q2:sIx items.size items.size hi - sIx items.size 0 lo=items.size:=eq_of_beq q.2;exact hw ⟨by omega,by omega⟩
 show bf _ _ (if(((sIx items.size 0 lo:Nat):Int)==0&&(1:Int)==1&&(sIx items.size items.size hi - sIx items.size 0 lo)==items.size)=true then _ else _) _ _ s;rw[Ay hno,YM];first
  |exact ae (m:=mi _) (gc (ao ⟨_,rfl,ao h⟩) htake)
  |exact ae (m:=mi _) (gc (ae (ao (ao ⟨_,rfl,ao h⟩))) htake)
  |exact ae (ae (m:=mi _) (gc (ao (ao ⟨_,rfl,ao h⟩)) htake))
  |exact ae (ae (m:=mi _) (gc (ao ⟨_,rfl,ao h⟩) htake))
end
end HT
namespace L2
open PySem PySem.Spec PyProof.Rows
abbrev TO:=St->Hp->(Option Int->Hp->Prop)->Prop
def PO (X:Cx) (e:Option Expr) (t:TO):Prop:=
 ∀(Ap:List (ag×Obj)) (s:aj) (σ:St) (H:Hp) (Q:Option Int->Hp->Prop),Inv X Ap σ H s->t σ H Q->
  bf (bi X.prog X.w) X.A (evalPart e X.env) (λu s'=>Ex2 λo H'=>Inv X Ap σ H' s'/\wA u o/\Q o H') X.xe s
def cK:TO:=λ_ H Q=>Q none H
def lU (t:TE):TO:=λσ H Q=>t σ H λx H1=>I1At x λi=>Q (some i) H1
section
variable {X:Cx} {e:Expr} {te:TE} {lo hi:Option Expr} {tl th:TO} {pos p2:Pos}
theorem cM:PO X none cK:=by
 intro Ap s σ H Q I h;rw[evalPart_none];exact ao ⟨none,H,I,.none,h⟩
theorem cO (h:PE X e te):PO X (some e) (lU te):=by
 intro Ap s σ H Q I hw;rw[evalPart_some];refine thn (h Ap s σ H _ I hw) λu s1 ⟨x,H1,I1,r1,q1⟩=>?_;obtain⟨i,rfl,q⟩:=q1;obtain⟨t,rfl⟩:=r1;exact⟨some i,H1,I1,.int i t,q⟩
def SlR (X:Cx) (r:V->Option Int->Option Int->Hp->VK->Prop):Prop:=
 ∀(Ap:List (ag×Obj)) (s:aj) (σ:St) (H:Hp) (x:V) (v vl vu:ah) (lo hi:Option Int) (sl:ag) (Q:VK),Inv X Ap σ H s->RelV x v->s.heap.IsSliceOf sl vl vu .none->wA vl lo->wA vu hi->r x lo hi H Q->
  Ex2 λT id=>vi (.type T) "__getitem__"=pure (some (.builtin id))/\s.TypeIs v T/\bf (bi X.prog X.w) X.A (vh v (.ref sl)) (EP X Ap σ Q) X.xe s
def tSl (r:V->Option Int->Option Int->Hp->VK->Prop) (te:TE) (tl th:TO):TE:=λσ H Q=>te σ H λx H1=>tl σ H1 λl H2=>th σ H2 λu H3=>r x l u H3 Q
theorem YN {r:V->Option Int->Option Int->Hp->VK->Prop} (hr:SlR X r) (he:PE X e te) (hl:PO X lo tl) (hu:PO X hi th):PE X (.Subscript e (.Slice lo hi none p2) pos) (tSl r te tl th):=by
 intro Ap s σ H Q I h;refine yp (thn (he Ap s σ H _ I h) λv s1 ⟨x,H1,I1,r1,q1⟩=>?_);refine wpAny_Slice (thn (hl Ap s1 σ H1 _ I1 q1) λvl s2 ⟨l,H2,I2,pl,q2⟩=>thn (hu Ap s2 σ H2 _ I2 q2) λvu s3 ⟨u,H3,I3,pu,q3⟩=>?_);rw[evalPart_none];refine ao ?_;have I4:Inv X Ap σ H3 { s3 with heap:=s3.heap.push { cls:=.type "slice",data:=.fields #[vl,vu,.none] } }:=I3.kept (t':=s3.toks) λb ob q=>ak _ q;obtain⟨T,id,hT,ht,hg⟩:=hr Ap { s3 with heap:=s3.heap.push { cls:=.type "slice",data:=.fields #[vl,vu,.none] } } σ H3 x v vl vu l u s3.heap.objs.size Q I4 r1 (Ab ..) pl pu q3;show bf (bi X.prog X.w) X.A (wq e (.Slice lo hi none p2) v (.ref s3.heap.objs.size)) (EP X Ap σ Q) X.xe { s3 with heap:=s3.heap.push { cls:=.type "slice",data:=.fields #[vl,vu,.none] } };exact tail_any (ops:=[.ref s3.heap.objs.size,v]) ht hT hg (by with_unfolding_all rfl)
def Q0 (xs:List V) (lo hi:Option Int):List V:=(xs.drop (HT.sIx xs.length 0 lo)).take (HT.sIx xs.length xs.length hi - HT.sIx xs.length 0 lo)
theorem K2 (xs:List V) (lo hi:Option Int):(Q0 xs lo hi).length<=xs.length:=by
 unfold Q0;rw[df,fx];omega
def rR (K:aa):V->Option Int->Option Int->Hp->VK->Prop:=λx lo hi H Q=>Ex2 λa xs=>x= .ref a/\SqT K H a xs/\
 ¬(HT.sIx xs.length 0 lo=0/\HT.sIx xs.length xs.length hi=xs.length)/\∀p,H p=none->Q (.ref p) (upd H p (.tup (Q0 xs lo hi)))
theorem gW:SlR X (rR X.K):=by
 intro Ap s σ H x v vl vu lo hi sl Q I rx hs pl pu h;obtain⟨a,xs,rfl,hx,hw,q⟩:=h;cases rx;obtain⟨As,r,ht,hz⟩:=I.tuple hx;have hlen:As.toArray.size=xs.length:=by rw[bn];exact r.length.symm
 refine⟨"tuple",_,mo.lookup,ht.typeIs,?_⟩;refine HT.getItem_tuple_cut ht hs pl pu (by rw[hlen];exact hw) ?_ (by rw[hlen];exact hz);rw[hlen];refine⟨.ref s.heap.objs.size,_,I.laid (t':=s.toks) (o:=.tup (Q0 xs lo hi)) (λb ob q=>ak _ q) (au _) ?_,rfl,q _ (I.hok.fresh (au _))⟩;exact⟨cy (K2 xs lo hi) hz,_,(r.drop (HT.sIx xs.length 0 lo)).take (HT.sIx xs.length xs.length hi - HT.sIx xs.length 0 lo),Ai _ _⟩
end
def ixN (n:Nat) (i:Int):Option Nat:=if 0<=i then(if i<n then some i.toNat else none) else if -(n:Int)<=i then some (i+n).toNat else none
def atI {α:Type} (xs:List α) (i:Int):Option α:=(ixN xs.length i).bind λj=>xs[j]?
theorem UX {n:Nat} {i:Int} {j:Nat} (h:ixN n i=some j):seqIndex? i n=some j/\j<n/\ -(n:Int)<=i/\i<n:=by
 unfold ixN at h;by_cases h0:0<=i
 ·rw[Ax h0] at h;by_cases h1:i<n
  ·rw[Ax h1] at h;have e:i.toNat=j:=cw h;exact⟨by rw[xM h0 h1,e],by omega,by omega,h1⟩
  ·rw[Ay h1] at h;cases h
 ·rw[Ay h0] at h;by_cases h1: -(n:Int)<=i
  ·rw[Ax h1] at h;have e:(i+n).toNat=j:=cw h;exact⟨by rw[seqIndex_neg (by omega) h1,e],by omega,h1,by omega⟩
  ·rw[Ay h1] at h;cases h
theorem PF {α:Type} {xs:List α} {i:Int} {v:α} (h:atI xs i=some v):∃j,seqIndex? i xs.length=some j/\xs[j]? =some v/\j<xs.length/\ -(xs.length:Int)<=i/\i<xs.length:=by
 unfold atI at h;cases e:ixN xs.length i with
 |none=>rw[e] at h;cases h
 |some j=>
  rw[e] at h;obtain⟨h1,h2,h3,h4⟩:=UX e;exact⟨j,h1,h,h2,h3,h4⟩
theorem DH {α:Type} {xs:List α} {j:Nat} {v:α} (h:xs[j]? =some v):atI xs (j:Int)=some v:=by
 have hj:j<xs.length:=(aw.mp h).1;have e:ixN xs.length (j:Int)=some j:=by
  unfold ixN;rw[Ax (by omega),Ax (by omega)];simp
 unfold atI;rw[e];exact h
theorem MQ {α:Type} (xs:List α) (v:α):atI (xs++[v]) (-1)=some v:=by
 have hl:(xs++[v]).length=xs.length+1:=by simp
 have e:ixN (xs++[v]).length (-1)=some xs.length:=by
  unfold ixN;rw[hl,Ay (by decide),Ax (by omega)];congr 1;omega
 unfold atI;rw[e];show(xs++[v])[xs.length]? =some v;simp
def cP (b:Expr):Prop:=∀o i,vQ b false o i=operate [o,i] (vh o i)
def IxR (X:Cx) (r:R2):Prop:=
 ∀(value slice:Expr) (Ap:List (ag×Obj)) (s:aj) (σ:St) (H:Hp) (x y:V) (v u:ah) (Q:VK),Inv X Ap σ H s->RelV x v->RelV y u->r x y H Q->
  vQ slice false v u=operate [v,u] (vh v u)->bf (bi X.prog X.w) X.A (wq value slice v u) (EP X Ap σ Q) X.xe s
def MtR (X:Cx) (id:String) (r:V->List V->Hp->VK->Prop):Prop:=
 ∀(Ap:List (ag×Obj)) (s:aj) (σ:St) (H:Hp) (x:V) (xs:List V) (v:ah) (us:List ah) (Q:VK),Inv X Ap σ H s->RelV x v->Vals xs us->r x xs H Q->
  bf (bi X.prog X.w) X.A (call (.builtin id) (v::us)) (EP X Ap σ Q) X.xe s
section
variable {X:Cx} {a b:Expr} {ta tb:TE} {pos:Pos}
theorem BI {r:R2} (hr:IxR X r) (ha:PE X a ta) (hb:PE X b tb) (hs:cP b):PE X (.Subscript a b pos) (tOp r ta tb):=by
 intro Ap s σ H Q I h;exact yp (gP ha hb I h λv u s2 x y H2 I2 rx ry q=>hr a b Ap s2 σ H2 x y v u Q I2 rx ry q (hs _ _))
inductive IxAt (S:ag->List V->Prop) (x y:V) (Q:V->Prop):Prop
 |intro(p:ag) (xs:List V) (i:Int) (v:V) (e:x= .ref p) (e':y= .int i) (h1:S p xs) (h2:atI xs i=some v) (h:Q v):IxAt S x y Q
def gX (K:aa):R2:=λx y H Q=>IxAt (SqL K H) x y λv=>Q v H
def lV (K:aa):R2:=λx y H Q=>IxAt (SqT K H) x y λv=>Q v H
def rS:R2:=λx y H Q=>Ex3 λz i c=>x= .str z/\y= .int i/\z.length<=sizeLine/\atI z.cps.toList i=some c/\Q (.str ⟨#[c]⟩) H
theorem CK:IxR X (gX X.K):=by
 intro value slice Ap s σ H x y v u Q I rx ry h hs;obtain⟨p,xs,i,z,rfl,rfl,hq,he,q⟩:=h;cases rx;obtain⟨t,rfl⟩:=ry;obtain⟨As,r,pl,hz⟩:=I.list hq;obtain⟨j,h1,h2,h3,h4,h5⟩:=PF he;obtain⟨w,ew,rw'⟩:=r.get h2;have hl:=r.length;have hn:=JY;have fin:EP X Ap σ Q w s:=⟨z,H,I,rw',q⟩
 by_cases h0:0<=i
 ·have hj:i.toNat=j:=by
   rw[xM h0 h5] at h1;exact cw h1
  exact item_listR pl.isList h0 (by omega) (by rw[hj];simpa using ew) fin hs
 ·have hj:(i+(As.toArray.size:Int)).toNat=j:=by
   rw[seqIndex_neg (by omega) h4] at h1;rw[bn, ←hl];exact cw h1
  exact vj (x:=w) pl.isList.typeIs slot_list_getitem.lookup
   (wpAny_getItem_list_neg (Q:=λr s'=>r=w/\EP X Ap σ Q r s') pl.isList (by omega) (by rw[bn]<;>omega) (by omega) (by rw[hj];simpa using ew) ⟨rfl,fin⟩) hs
theorem DK:IxR X (lV X.K):=by
 intro value slice Ap s σ H x y v u Q I rx ry h hs;obtain⟨p,xs,i,z,rfl,rfl,hq,he,q⟩:=h;cases rx;obtain⟨t,rfl⟩:=ry;obtain⟨As,r,pl,hz⟩:=I.tuple hq;obtain⟨j,h1,h2,h3,h4,h5⟩:=PF he;obtain⟨w,ew,rw'⟩:=r.get h2;have hl:=r.length;have hn:=JY;have fin:EP X Ap σ Q w s:=⟨z,H,I,rw',q⟩
 exact vj (x:=w) pl.typeIs slot_tuple_getitem.lookup
  (getItem_tuple (j:=j) (Q:=λr s'=>r=w/\EP X Ap σ Q r s') pl (by omega) (by omega) (by rw[bn, ←hl];exact h1) (by simpa using ew) ⟨rfl,fin⟩) hs
theorem gY:IxR X rS:=by
 intro value slice Ap s σ H x y v u Q I rx ry h hs;obtain⟨z,i,c,rfl,rfl,hz,he,q⟩:=h;obtain⟨t,rfl⟩:=rx;obtain⟨t',rfl⟩:=ry;obtain⟨j,h1,h2,h3,h4,h5⟩:=PF he;have hl:z.cps.toList.length=z.length:=by simp[Ac]
 rw[hl] at h1 h4 h5;have hn:=JY;exact tail_any (typeIs_str s z t) slot_str_getitem.lookup (getItem_str (c:=c) (by
  have e1:decide (i< -(2 ^ 63:Int))=false:=decide_eq_false (by omega);have e2:decide (i>=2 ^ 63)=false:=decide_eq_false (by omega);rw[e1,e2,zg]) (by rw[h1];simpa using h2) ⟨.str ⟨#[c]⟩,H,I.tok _,⟨_,rfl⟩,q⟩) hs
theorem SU (As:List ah) (n j:Nat) (u:ah):fj (·.setIfInBounds j u) { cls:=.type "list",data:=.seq As.toArray n }={ cls:=.type "list",data:=.seq (As.set j u).toArray n }:=by
 simp[fj]
theorem Inv.lst {Ap:List (ag×Obj)} {σ:St} {H:Hp} {s:aj} {p:ag} {xs:List V} (I:Inv X Ap σ H s) (h:H p=some (.lst xs)):
 ∃(As:List ah) (n:Nat),Vals xs As/\s.heap.get? p=some { cls:=.type "list",data:=.seq As.toArray n }/\xs.length<=sizeLine:=by
 obtain⟨z,As,n,r,e⟩:=I.hok p _ h;exact⟨As,n,r,e,z⟩
theorem Inv.lstUpd {Ap:List (ag×Obj)} {σ:St} {H:Hp} {s:aj} {p:ag} {xs ys:List V} {As its':List ah} {n n':Nat} {f:Obj->Obj} (I:Inv X Ap σ H s) (h:H p=some (.lst xs))
 (ho:s.heap.get? p=some { cls:=.type "list",data:=.seq As.toArray n }) (hf:f { cls:=.type "list",data:=.seq As.toArray n }={ cls:=.type "list",data:=.seq its'.toArray n' }) (r:Vals ys its') (hz:ys.length<=sizeLine) (t:Nat):
 Inv X Ap σ (upd H p (.lst ys)) { s with heap:=s.heap.update p f,toks:=t }:=by
 have e:(s.heap.update p f).get? p=some { cls:=.type "list",data:=.seq its'.toArray n' }:=by
  rw[iw f ho (by rw[hf]<;>rfl),hf]
 refine I.write (x:=p) (e:=p) (by rw[h];trivial) (.inl rfl) (λb u hb q=>(kg _ _ (cq hb)).trans q) ⟨_,e⟩ ?_;exact⟨hz,its',n',r,e⟩
def lW:V->V->V->Hp->(Hp->Prop)->Prop:=λo i v H Q=>Ex4 λp xs k j=>o= .ref p/\i= .int k/\H p=some (.lst xs)/\ixN xs.length k=some j/\Q (upd H p (.lst (xs.set j v)))
theorem YO:lI X lW:=by
 intro Ap s σ H o i v ov iv u Q I ro ri rv h;obtain⟨p,xs,k,j,rfl,rfl,hp,hj,q⟩:=h;cases ro;obtain⟨t,rfl⟩:=ri;obtain⟨As,n,r,ho,hz⟩:=I.lst hp;obtain⟨h1,h2,h3,h4⟩:=UX hj;have hl:=r.length;have hn:=JY;have I':Inv X Ap σ (upd H p (.lst (xs.set j v))) { s with heap:=s.heap.update p (fj (·.setIfInBounds j u)) }:=
  I.lstUpd hp ho (SU As n j u) (r.set rv j) (by rw[xV];exact hz) s.toks
 by_cases h0:0<=k
 ·have hk:k.toNat=j:=by
   rw[xM h0 h4] at h1;exact cw h1
  exact PySem.W.ki_setAt ho h0 (by omega) (by rw[bn, ←hl];exact h4) (by rw[hk];exact⟨_,I',q⟩)
 ·have hk:(k+(As.toArray.size:Int)).toNat=j:=by
   rw[seqIndex_neg (by omega) h3] at h1;rw[bn, ←hl];exact cw h1
  exact PySem.W.ki_setBack ho (by omega) (by rw[bn, ←hl];exact h3) (by omega) (by rw[hk];exact⟨_,I',q⟩)
theorem PJ (lo hi:Option Int) (n:Nat):(rn lo hi none n).1=((HT.sIx n 0 lo:Nat):Int)/\(rn lo hi none n).2.1=((HT.sIx n n hi:Nat):Int)/\(rn lo hi none n).2.2=1:=by
 refine⟨?_,?_,rfl⟩
 ·cases lo with
  |none=>simp[rn,HT.sIx]
  |some i=>
   simp only[rn,HT.sIx,xt,show(1:Int)>0 by decide,if_true];by_cases h:i<0
   ·simp only[h,if_true]<;>omega
   ·simp only[h,if_false]<;>omega
 ·cases hi with
  |none=>simp[rn,HT.sIx]
  |some i=>
   simp only[rn,HT.sIx,xt,show(1:Int)>0 by decide,if_true];by_cases h:i<0
   ·simp only[h,if_true]<;>omega
   ·simp only[h,if_false]<;>omega
theorem NZ (As:List ah) (lo hi:Option Int):slicePick As.toArray lo hi none=((As.drop (HT.sIx As.length 0 lo)).take (HT.sIx As.length As.length hi - HT.sIx As.length 0 lo)).toArray:=by
 obtain⟨h1,h2,h3⟩:=PJ lo hi As.toArray.size;unfold slicePick;rw[h1,h2,h3];simp only[sliceRange_one,pick_run,bn]<;>rfl
def rT (K:aa):V->Option Int->Option Int->Hp->VK->Prop:=λx lo hi H Q=>Ex2 λa xs=>x= .ref a/\SqL K H a xs/\∀p,H p=none->Q (.ref p) (upd H p (.lst (Q0 xs lo hi)))
theorem rF:SlR X (rT X.K):=by
 intro Ap s σ H x v vl vu lo hi sl Q I rx hs pl pu h;obtain⟨a,xs,rfl,hx,q⟩:=h;cases rx;obtain⟨As,r,ht,hz⟩:=I.list hx;have hlen:=r.length;refine⟨"list",_,slot_list_getitem.lookup,ht.isList.typeIs,?_⟩;refine wpAny_getItem_list_slice ht.isList hs pl pu .none (by simp) ?_ (by rw[bn]<;>omega);rw[NZ, ←hlen];refine⟨.ref s.heap.objs.size,_,I.laid (t':=s.toks) (o:=.lst (Q0 xs lo hi)) (λb ob q=>ak _ q) (au _) ?_,rfl,q _ (I.hok.fresh (au _))⟩;exact⟨cy (K2 xs lo hi) hz,_,0,(r.drop (HT.sIx xs.length 0 lo)).take (HT.sIx xs.length xs.length hi - HT.sIx xs.length 0 lo),bg _ rfl⟩
theorem AN:KY X (.builtin "len") (λxs H Q=>Ex2 λp ys=>xs=[.ref p]/\(SqL X.K H p ys\/SqT X.K H p ys)/\Q (.int ys.length) H):=by
 intro Ap s σ H xs us Q I r h;obtain⟨p,ys,rfl,hq,q⟩:=h;obtain⟨u,rfl,rx⟩:=N9 r;cases rx;have hn:=JY;rcases hq with hq|hq
 ·obtain⟨As,r',pl,hz⟩:=I.list hq;have hlen:=r'.length;exact Calls.call_len_list pl.isList (by simp only[bn]<;>omega) ⟨.int ys.length,H,I.tok _,⟨s.toks+1,by rw[bn,hlen]⟩,q⟩
 ·obtain⟨As,r',pl,hz⟩:=I.tuple hq;have hlen:=r'.length;exact len_tuple pl (by simp only[bn]<;>omega) ⟨.int ys.length,H,I.tok _,⟨s.toks+1,by rw[bn,hlen]⟩,q⟩
theorem PL:KY X (.builtin "len") (λxs H Q=>∃z,xs=[.str z]/\z.length<=sizeLine/\Q (.int z.length) H):=by
 intro Ap s σ H xs us Q I r h;obtain⟨z,rfl,hz,q⟩:=h;obtain⟨u,rfl,t,rfl⟩:=N9 r;have hn:=JY;exact len_str (by omega) ⟨.int z.length,H,I.tok _,⟨_,rfl⟩,q⟩
theorem IC:KY X (.type "tuple") (λxs H Q=>Ex2 λp ys=>xs=[.ref p]/\((SqL X.K H p ys/\∀l,H l=none->Q (.ref l) (upd H l (.tup ys)))\/(SqT X.K H p ys/\Q (.ref p) H))):=by
 intro Ap s σ H xs us Q I r h;obtain⟨p,ys,rfl,h⟩:=h;obtain⟨u,rfl,rx⟩:=N9 r;cases rx;rcases h with⟨hq,q⟩|⟨hq,q⟩
 ·obtain⟨As,r',pl,hz⟩:=I.list hq;have hlen:=r'.length;refine call_tuple_list pl.isList (λh' kp=>?_) (by simp only[bn]<;>omega);have I1:Inv X Ap σ H { s with heap:=h' }:=I.kept (t':=s.toks) kp;have I2:Inv X Ap σ (upd H h'.objs.size (.tup ys)) { s with heap:=h'.push { cls:=.type "tuple",data:=.seq As.toArray } }:=
   I1.laid (t':=s.toks) (λb o e=>ak _ e) (au _) (show ObjOk X.prog X.w _ _ _ (.tup ys) from⟨hz,As,r',Ai _ _⟩)
  exact⟨.ref h'.objs.size,_,I2,rfl,q _ (I1.hok.fresh (au _))⟩
 ·obtain⟨As,r',pl,hz⟩:=I.tuple hq;exact call_tuple_same pl ⟨.ref p,H,I,rfl,q⟩
def tyV (K:aa) (T:String) (x:V) (H:Hp):Prop:=match x with
 | .str _=>T="str"
 | .int _=>T="int"
 | .ref p=>(T="list"/\∃xs,SqL K H p xs)\/(T="tuple"/\∃o,K.lookup p=some o/\o.cls= .type "tuple"/\o.dict=none)\/
  (T="dict"/\((∃Au,H p=some (.dK Au))\/∃Au,H p=some (.dT Au)))\/(T="set"/\Ex2 λS n=>H p=some (.set S n))
 |_=>False
theorem gZ {Ap:List (ag×Obj)} {σ:St} {H:Hp} {s:aj} {T:String} {x:V} {v:ah} (I:Inv X Ap σ H s) (r:RelV x v) (ty:tyV X.K T x H):
 s.TypeIs v T/\∀a,v= .ref a->∃ob,s.heap.get? a=some ob/\ob.dict=none:=by
 cases x with
 |str z=>
  obtain⟨t,rfl⟩:=r;cases (show T="str" from ty);exact⟨typeIs_str s z t,λ_ e=>nomatch e⟩
 |int i=>
  obtain⟨t,rfl⟩:=r;cases (show T="int" from ty);exact⟨typeIs_int s i t,λ_ e=>nomatch e⟩
 |ref p=>
  cases r;rcases ty with⟨rfl,xs,hq⟩|⟨rfl,o,hk,hc,hd⟩|⟨rfl,hk⟩|⟨rfl,S,n,hk⟩
  ·obtain⟨As,_,pl,_⟩:=I.list hq;refine⟨pl.isList.typeIs,λa e=>?_⟩;cases e;obtain⟨o,n,e,c,hd,_⟩:=pl;exact⟨o,e,hd⟩
  ·refine⟨⟨o,I.kIn p o hk,hc⟩,λa e=>?_⟩;cases e;exact⟨o,I.kIn _ o hk,hd⟩
  ·have z:∃o,s.heap.get? p=some o/\o.ExactDict:=by
    rcases hk with⟨Au,hk⟩|⟨Au,hk⟩
    ·obtain⟨_,_,_,_,o,_,_,e,ex,_⟩:=I.hok p _ hk;exact⟨o,e,ex⟩
    ·obtain⟨_,_,_,_,o,_,_,e,ex,_⟩:=I.hok p _ hk;exact⟨o,e,ex⟩
   obtain⟨o,e,ex⟩:=z;refine⟨⟨o,e,ex.1⟩,λa e2=>?_⟩;cases e2;exact⟨o,e,ex.2.1⟩
  ·obtain⟨o,_,_,_,e,ex,_⟩:=I.hok p _ hk;refine⟨⟨o,e,ex.1⟩,λa e2=>?_⟩;cases e2;exact⟨o,e,ex.2.1⟩
 |_=>exact fi ty
def tBM (K:aa) (T:String) (r:V->List V->Hp->VK->Prop) (to:TE) (t:TA):TE:=λσ H Q=>to σ H λx H1=>tyV K T x H1/\t σ H1 λxs H2=>r x xs H2 Q
variable {o e:Expr} {es:List Expr} {to:TE} {t:TA} {name:Str} {apos cpos:Pos} {T id:String} {r:V->List V->Hp->VK->Prop}
theorem ID (pa:PlainAttrs T) (slot:Slot T name id) (hty:yq (.builtin id)=pure (.type "method_descriptor")) (hm:MtR X id r) (ho:PE X o to) (ha:PA X (e::es) t)
 (hbase:jr o name X.env (eval o X.env)=eval o X.env:=by rfl)
 (hfew:((ie cpos (be (e::es) X.env)).all (λx=>!x.1)&&(js cpos (gj [] X.env)).all (λx=>x.1.isSome)
  &&decide ((e::es).length+([]:List vg).length+(if([]:List vg).isEmpty then 0 else 1)<30))=true:=by rfl)
 (hline:(apos.endLine==cpos.line)=true:=by rfl) (hs:be (e::es) X.env=(false,eval e X.env)::be es X.env:=by rfl) (hplain:(ie cpos (be es X.env)).any (·.1)=false:=by rfl):
 PE X (.Call (.Attribute o name apos) (e::es) [] cpos) (tBM X.K T r to t):=by
 intro Ap s σ H Q I h;refine wpAny_Call_method_late hbase hfew hline rfl (thn (ho Ap s σ H _ I h) λv s1 ⟨x,H1,I1,r1,ty,q1⟩=>?_);obtain⟨h1,h2⟩:=gZ I1 r1 ty;refine⟨T,id,pa,slot,hty,h1,h2,?_⟩;have hA:=ha cpos Ap s1 σ H1 _ I1 q1;rw[hs] at hA ⊢;refine Calls.callWith_builtin (by show(false||(ie cpos (be es X.env)).any (·.1))=false;rw[hplain]<;>rfl) (Calls.evalArgs_plain ?_);exact thn hA λus s2 ⟨vs,H2,I2,r2,q2⟩=>hm Ap s2 σ H2 x vs v us Q I2 r1 r2 q2
end
def MtM (X:Cx) (id:String) (r:V->List V->Hp->VK->Prop):Prop:=
 ∀(Ap:List (ag×Obj)) (s:aj) (σ:St) (H:Hp) (x:V) (xs:List V) (v:ah) (us:List ah) (Q:VK),Inv X Ap σ H s->RelV x v->Vals xs us->r x xs H Q->
  bf (bi X.prog X.w) X.A (call (.builtin id) (v::us)) (EP X Ap σ Q) X.xe s
theorem Vals.one:∀{x:V} {us:List ah},Vals [x] us->∃u,us=[u]/\RelV x u
 |_,_,.cons r .nil=>⟨_,rfl,r⟩
theorem Vals.two:∀{x y:V} {us:List ah},Vals [x,y] us->∃u v,us=[u,v]/\RelV x u/\RelV y v
 |_,_,_,.cons r (.cons q .nil)=>⟨_,_,rfl,r,q⟩
theorem Vals.zero:∀{us:List ah},Vals [] us->us=[]
 |_,.nil=>rfl
theorem Vals.reverse {xs:List V} {us:List ah} (h:Vals xs us):Vals xs.reverse us.reverse:=by
 induction h with
 |nil=>exact .nil
 |cons r t ih=>rw[sj,sj];exact Vals.append ih (.cons r .nil)
section
variable {X:Cx} {Ap:List (ag×Obj)} {σ:St} {H:Hp} {s:aj} {l b:ag} {xs ys zs:List V}
theorem Inv.lset {As its':List ah} {n:Nat} {f:Array ah->Array ah} {t':Nat} (I:Inv X Ap σ H s) (hH:H l=some (.lst xs))
 (e:s.heap.get? l=some { cls:=.type "list",data:=.seq As.toArray n }) (hf:f As.toArray=its'.toArray) (hv:Vals ys its') (hz:ys.length<=sizeLine):
 Inv X Ap σ (upd H l (.lst ys)) { s with heap:=s.heap.update l (fj f),toks:=t' }:=by
 have q:=PySem.IsL.update e f;rw[hf] at q;refine I.write (x:=l) (e:=l) (by rw[hH];exact trivial) (.inl rfl) (λb' u hb hu=>(kg s.heap (fj f) (cq hb)).trans hu) ⟨_,q⟩ ?_;exact⟨hz,its',_,hv,q⟩
theorem Inv.lnew {As:List ah} {t':Nat} (I:Inv X Ap σ H s) (hv:Vals ys As) (hz:ys.length<=sizeLine):
 Inv X Ap σ (upd H s.heap.objs.size (.lst ys)) { s with heap:=s.heap.push { cls:=.type "list",data:=.seq As.toArray },toks:=t' }:=
 I.laid (λ_ _ q=>ak _ q) (au _) ⟨hz,As,0,hv,bg _ rfl⟩
theorem Inv.fresh (I:Inv X Ap σ H s):H s.heap.objs.size=none:=I.hok.fresh (au _)
theorem Inv.lstM (I:Inv X Ap σ H s) (hH:H l=some (.lst xs)):xs.length<=sizeLine/\∃(As:List ah) (n:Nat),Vals xs As/\xs.length=As.length/\s.heap.get? l=some { cls:=.type "list",data:=.seq As.toArray n }:=by
 obtain⟨z,As,n,r,e⟩:=I.hok l _ hH;exact⟨z,As,n,r,r.length,e⟩
theorem YQ {n:Nat} (h:n<=sizeLine):ql n=false:=by
 unfold ql;exact decide_eq_false (by omega)
end
section
variable {X:Cx}
def LU:V->List V->Hp->VK->Prop:=λx vs H Q=>Ex3 λl xs y=>x= .ref l/\vs=[y]/\H l=some (.lst xs)/\xs.length<sizeLine/\Q .non (upd H l (.lst (xs++[y])))
theorem CZ:MtM X "list.append" LU:=by
 intro Ap s σ H x vs v us Q I rx rv h;obtain⟨l,xs,y,rfl,rfl,hH,hz,q⟩:=h;cases rx;obtain⟨u,rfl,ru⟩:=rv.one;obtain⟨z,As,n,r,hl,e⟩:=I.lstM hH;refine yr fm ⟨_,e,rfl⟩ F.entry_list_append (F.args_list_append_2 _ _) (PySem.list_append l As.toArray n u (by rw[bn];omega)) ⟨e,?_⟩;refine⟨.non,_,I.lset (its':=As++[u]) hH e (by simp) (r.append (.cons ru .nil)) ?_,rfl,q⟩;rw[bq,List.length_singleton];omega
def cQ:V->List V->Hp->VK->Prop:=λx vs H Q=>Ex4 λl b xs zs=>x= .ref l/\vs=[.ref b]/\H l=some (.lst xs)/\H b=some (.lst zs)/\xs.length+zs.length<=sizeLine/\Q .non (upd H l (.lst (xs++zs)))
theorem lF:MtM X "list.extend" cQ:=by
 intro Ap s σ H x vs v us Q I rx rv h;obtain⟨l,b,xs,zs,rfl,rfl,hH,hB,hz,q⟩:=h;cases rx;obtain⟨u,rfl,ru⟩:=rv.one;cases ru;obtain⟨z,As,n,r,hl,e⟩:=I.lstM hH;obtain⟨z2,its2,n2,r2,hl2,e2⟩:=I.lstM hB;have hsz:As.toArray.size+its2.toArray.size<=sizeLine:=by rw[bn,bn];omega
 have hlong:¬(!As.toArray.isEmpty&&ql (As.toArray.size+its2.toArray.size))=true:=by
  rw[YQ hsz,vR];exact bu
 refine yr F.slot_list_extend ⟨_,e,rfl⟩ F.entry_list_extend (F.args_list_extend_2 _ _)
  (AutoSeq1.list_extend_list_list_0 l As.toArray n b its2.toArray n2 hlong (by rw[bn];omega) (by omega)) ⟨e,e2,?_⟩
 refine⟨.non,_,I.lset (its':=As++its2) hH e (by simp) (r.append r2) ?_,rfl,q⟩;rw[bq];omega
def rV:R2:=λx y H Q=>Ex4 λl b xs zs=>x= .ref l/\y= .ref b/\H l=some (.lst xs)/\H b=some (.lst zs)/\xs.length+zs.length<=sizeLine/\∀p,H p=none->Q (.ref p) (upd H p (.lst (xs++zs)))
theorem g8:OpR X (sd .Add) rV:=by
 intro Ap s σ H x y v u Q I rx ry h;obtain⟨l,b,xs,zs,rfl,rfl,hH,hB,hz,q⟩:=h;cases rx;cases ry;obtain⟨z,As,n,r,hl,e⟩:=I.lstM hH;obtain⟨z2,its2,n2,r2,hl2,e2⟩:=I.lstM hB;refine PySem.P.add_list e e2 ?_ (by rw[bn,bn];omega);have ea:As.toArray++its2.toArray=(As++its2).toArray:=by simp
 rw[ea];exact⟨.ref _,_,I.lnew (t':=s.toks) (r.append r2) (by rw[bq];omega),rfl,q _ I.fresh⟩
end
theorem Vals.ints:∀{ns:List Int} {us:List ah},Vals (ns.map V.int) us->IntsAre us ns
 |[],us,h=>by
  rw[wT] at h;cases h;exact IntsAre.nil
 |n::ns,us,h=>by
  rw[cz] at h;cases h with
  |cons r t=>
   obtain⟨k,rfl⟩:=r;exact IntsAre.cons n k (Vals.ints t)
theorem Vals.strs:∀{xs:List Str} {us:List ah},Vals (xs.map V.str) us->StrsAre us xs
 |[],us,h=>by
  rw[wT] at h;cases h;exact StrsAre.nil
 |x::xs,us,h=>by
  rw[cz] at h;cases h with
  |cons r t=>
   obtain⟨k,rfl⟩:=r;exact StrsAre.cons x k (Vals.strs t)
mutual
inductive Dp (K:aa) (H:Hp):V->wB->Prop
 |non:Dp K H .non .none
 |bl (b:Bool):Dp K H (.bl b) (.bool b)
 |int (i:Int):Dp K H (.int i) (.int i)
 |str (x:Str):Dp K H (.str x) (.str x)
 |lst {a:ag} {xs:List V} {ds:List wB}:SqL K H a xs->DpAll K H xs ds->Dp K H (.ref a) (.list ds)
 |tup {a:ag} {xs:List V} {ds:List wB}:SqT K H a xs->DpAll K H xs ds->Dp K H (.ref a) (.tuple ds)
inductive DpAll (K:aa) (H:Hp):List V->List wB->Prop
 |nil:DpAll K H [] []
 |cons {v:V} {vs:List V} {d:wB} {ds:List wB}:Dp K H v d->DpAll K H vs ds->DpAll K H (v::vs) (d::ds)
end
section
variable {X:Cx} {Ap:List (ag×Obj)} {σ:St} {H:Hp} {s:aj}
mutual
theorem Dp.reads (I:Inv X Ap σ H s):∀(d:wB) (v:V) (u:ah),Dp X.K H v d->RelV v u->∃as,Reads s.heap u d as
 | .none,_,_,h,r=>by
   cases h;cases r;exact⟨_,Reads.none⟩
 | .bool b,_,_,h,r=>by
   cases h;cases r;exact⟨_,Reads.bool b⟩
 | .int i,_,_,h,r=>by
   cases h;obtain⟨t,rfl⟩:=r;exact⟨_,Reads.int i t⟩
 | .str x,_,_,h,r=>by
   cases h;obtain⟨t,rfl⟩:=r;exact⟨_,Reads.str x t⟩
 | .list ds,_,_,h,r=>by
   cases h with
   |lst hs ha=>
    cases r;obtain⟨As,rv,⟨o,n,ho,hc,_,hd⟩,_⟩:=I.list hs;obtain⟨as,hr⟩:=Dp.readsAll I ds _ As ha rv;exact⟨_,Reads.list ho hc hd hr⟩
 | .tuple ds,_,_,h,r=>by
   cases h with
   |tup hs ha=>
    cases r;obtain⟨As,rv,⟨o,ho,hc,n,hd⟩,_⟩:=I.tuple hs;obtain⟨as,hr⟩:=Dp.readsAll I ds _ As ha rv;exact⟨_,Reads.tuple ho hc hd hr⟩
 | .dict _,_,_,h,_=>by cases h
theorem Dp.readsAll (I:Inv X Ap σ H s):∀(ds:List wB) (vs:List V) (us:List ah),DpAll X.K H vs ds->Vals vs us->∃as,ReadsAll s.heap us ds as
 |[],_,_,h,r=>by
  cases h;cases r;exact⟨_,ReadsAll.nil⟩
 |d::ds,_,_,h,r=>by
  cases h with
  |cons h1 h2=>
   cases r with
   |cons r1 r2=>
    obtain⟨as,q1⟩:=Dp.reads I d _ _ h1 r1;obtain⟨bs,q2⟩:=Dp.readsAll I ds _ _ h2 r2;exact⟨_,ReadsAll.cons q1 q2⟩
end
end
abbrev YR (h:cr) (c:ag) (v:Option ah):Prop:=h.IsCell c v
def rW (scope sc:jj):jj:=
 { scope with names:=scope.names.map λ(n,k)=>if(k==.free&&sc.kind==.function&&sc.names.lookup n==some .cell) then(n,.cell) else(n,k) }
def BA (cells:List (Str×ag)):List (Str×kq)->List (Str×ag)->List (Str×ag)
 |[],acc=>acc
 |(n,k)::r,acc=>if k==.free then BA cells r ((n,(cells.lookup n).getD 0)::acc) else BA cells r acc
theorem JB (env:Env) (f:Str×kq->List (Str×ag)->Sem (ForInStep (List (Str×ag))))
 (hf:∀n k c,f (n,k) c=if k==.free then(do let a←cellOf env n;pure (.yield ((n,a)::c))) else pure (.yield c)):
 ∀(names:List (Str×kq)) (acc:List (Str×ag)),(∀y∈names,y.2= .free->∃c,env.cells.lookup y.1=some c)->forIn names acc f=pure (BA env.cells names acc)
 |[],acc,_=>by rw[yt];rfl
 |(n,k)::r,acc,h=>by
  rw[List.forIn_cons,hf];have ih:=λacc=>JB env f hf r acc λy hy=>h y (aq _ hy);unfold BA;by_cases hk:(k==qm)=true
  ·rw[Ax hk,Ax hk];obtain⟨c,hc⟩:=h (n,k) bc (by simpa using hk);have e:cellOf env n=pure c:=by unfold cellOf;rw[hc]
   rw[e];have e2:(env.cells.lookup n).getD 0=c:=by rw[hc];rfl
   rw[e2];exact ih _
  ·rw[Ay hk,Ay hk];exact ih _
theorem MR {scope:jj} {env:Env} (h:∀y∈scope.names,y.2= .free->∃c,env.cells.lookup y.1=some c):yu scope env=pure (BA env.cells scope.names []):=by
 simp only[yu];rw[JB env _ (λn k c=>rfl) scope.names [] h];rfl
theorem E3 {α:Type}:∀{l:List (Str×α)} {n:Str} {c:α},(n,c)∈l->∃c',l.lookup n=some c'
 |(k,v)::r,n,c,h=>by
  rw[kn];cases hb:n==k with
  |true=>exact⟨_,rfl⟩
  |false=>
   rcases bp.mp h with e|h
   ·cases e;simp at hb
   ·exact E3 h
theorem EF {cells:List (Str×ag)}:∀{names:List (Str×kq)} {acc:List (Str×ag)} {n:Str} {c:ag},(n,c)∈BA cells names acc->(n,c)∈acc\/((n,.free)∈names/\c=(cells.lookup n).getD 0)
 |[],_,_,_,h=>.inl h
 |(m,k)::r,acc,n,c,h=>by
  unfold BA at h;split at h
  ·rename_i hk;have hk:k= .free:=by simpa using hk
   rcases EF h with h|⟨h1,h2⟩
   ·rcases bp.mp h with e|h
    ·cases e;exact .inr ⟨hk▸bc,rfl⟩
    ·exact .inl h
   ·exact .inr ⟨aq _ h1,h2⟩
  ·rcases EF h with h|⟨h1,h2⟩
   ·exact .inl h
   ·exact .inr ⟨aq _ h1,h2⟩
theorem G2 {cells:List (Str×ag)}:∀{names:List (Str×kq)} {acc:List (Str×ag)} {p:Str×ag},p∈acc->p∈BA cells names acc
 |[],_,_,h=>h
 |(m,k)::r,acc,p,h=>by
  unfold BA;split
  ·exact G2 (aq _ h)
  ·exact G2 h
theorem EG {cells:List (Str×ag)}:∀{names:List (Str×kq)} {acc:List (Str×ag)} {n:Str},(n,.free)∈names->(n,(cells.lookup n).getD 0)∈BA cells names acc
 |(m,k)::r,acc,n,h=>by
  unfold BA;rcases bp.mp h with e|h
  ·cases e;exact G2 bc
  ·split
   ·exact EG h
   ·exact EG h
theorem F8:∀{names:List (Str×kq)} {h:cr} {acc:List (Str×ag)} {x:Str} {c:ag},(x,c)∈ik h.objs.size names acc->
 (x,c)∈acc\/((x,.cell)∈names/\h.objs.size<=c/\YR (sV h names) c none)
 |[],_,_,_,_,h=>.inl h
 |(n,k)::r,h,acc,x,c,hm=>by
  unfold ik at hm;unfold sV;split at hm
  ·rename_i hk;rw[Ax hk];have hk:k= .cell:=by simpa using hk
   rw[←fk h { cls:=.type "cell",data:=.cell none }] at hm;rcases F8 hm with hm|⟨h1,h2,h3⟩
   ·rcases bp.mp hm with e|hm
    ·cases e;exact .inr ⟨hk▸bc,au _,_,tF r _ _ _ (bg _ rfl),rfl⟩
    ·exact .inl hm
   ·rw[fk] at h2;exact .inr ⟨aq _ h1,sr h2,h3⟩
  ·rename_i hk;rw[Ay hk];rcases F8 hm with hm|⟨h1,h2,h3⟩
   ·exact .inl hm
   ·exact .inr ⟨aq _ h1,h2,h3⟩
theorem HR:∀{names:List (Str×kq)} {n:Nat} {acc:List (Str×ag)} {p:Str×ag},p∈acc->p∈ik n names acc
 |[],_,_,_,h=>h
 |(m,k)::r,n,acc,p,h=>by
  unfold ik;split
  ·exact HR (aq _ h)
  ·exact HR h
theorem J5:∀{names:List (Str×kq)} {n:Nat} {acc:List (Str×ag)} {x:Str},(x,.cell)∈names->∃c,(x,c)∈ik n names acc
 |(m,k)::r,n,acc,x,h=>by
  unfold ik;rcases bp.mp h with e|h
  ·cases e;exact⟨n,HR bc⟩
  ·split
   ·exact J5 h
   ·exact J5 h
theorem J6:∀{names:List (Str×kq)} {h:cr} {acc:List (Str×ag)} {x y:Str} {c:ag},(∀p∈acc,p.2<h.objs.size)->(∀x y c,(x,c)∈acc->(y,c)∈acc->x=y)->
 (x,c)∈ik h.objs.size names acc->(y,c)∈ik h.objs.size names acc->x=y
 |[],_,_,_,_,_,_,hi,h1,h2=>hi _ _ _ h1 h2
 |(n,k)::r,h,acc,x,y,c,hl,hi,h1,h2=>by
  unfold ik at h1 h2;split at h1
  ·rename_i hk;rw[Ax hk] at h2;rw[←fk h { cls:=.type "cell",data:=.cell none }] at h1 h2;refine J6 (h:=h.push _) (λp hp=>?_) (λx y c a b=>?_) h1 h2
   ·rw[fk];rcases bp.mp hp with rfl|hp
    ·exact uR _
    ·exact ot (hl p hp)
   ·rcases bp.mp a with e|a<;>rcases bp.mp b with e'|b
    ·cases e;cases e';rfl
    ·cases e;exact absurd (hl _ b) (iz _)
    ·cases e';exact absurd (hl _ a) (iz _)
    ·exact hi _ _ _ a b
  ·rename_i hk;rw[Ay hk] at h2;exact J6 hl hi h1 h2
theorem Q3 {M:xL} {A:de} {E:ah->aj->Prop} {s:aj} {scope:jj} {globals:ag} {closure:List (Str×ag)} {qual:Str} {func:Option ag} {code:ah} {around:Env} {builtins:ag} {Q:Env->aj->Prop}
 (h:Q (newEnv scope s.heap.objs.size globals (ik (s.heap.objs.size+1) scope.names closure) qual func code (some around) builtins)
  { s with heap:=sV (s.heap.push { cls:=.type "dict",data:=.dict #[] }) scope.names }):
 bf M A (yw scope globals closure [] qual func code (some around) builtins) Q E s:=by
 simp only[yw,Option.isSome_some,if_true];refine ae (wpAny_alloc ?_);refine ae (wpAny_layCells _ (λn k c=>rfl) scope.names closure _ _ ?_);rw[show({ s with heap:=s.heap.push { cls:=.type "dict",data:=.dict #[] } }:aj).heap.objs.size=s.heap.objs.size+1 from fk ..];rw[yt];exact ae (ao (ao h))
theorem G3 {sc:jj}:∀{names:List (Str×kq)} {x:Str} {k:kq},
 (names.map λ(n,k)=>if(k==qm&&sc.kind==.function&&sc.names.lookup n==some .cell) then(n,wr) else(n,k)).lookup x=some k->
 ∃k',names.lookup x=some k'/\(k=k'\/(k'= .free/\k= .cell))
 |[],_,_,h=>by simp at h
 |(n,k₀)::r,x,k,h=>by
  have ih:=@G3 sc r x k;have h':jf x ((if(k₀==qm&&sc.kind==.function&&sc.names.lookup n==some .cell)=true then(n,wr) else(n,k₀))::(r.map _))=some k:=h;cases hx:x==n with
  |true=>
   simp only[kn,hx];by_cases hc:(k₀==qm&&sc.kind==.function&&sc.names.lookup n==some .cell)=true
   ·rw[Ax hc] at h';simp only[kn,hx] at h';cases h';simp only[km,beq_iff_eq] at hc;exact⟨k₀,rfl,.inr ⟨hc.1.1,rfl⟩⟩
   ·rw[Ay hc] at h';simp only[kn,hx] at h';cases h';exact⟨_,rfl,.inl rfl⟩
  |false=>
   simp only[kn,hx];by_cases hc:(k₀==qm&&sc.kind==.function&&sc.names.lookup n==some .cell)=true
   ·rw[Ax hc] at h';simp only[kn,hx] at h';exact ih h'
   ·rw[Ay hc] at h';simp only[kn,hx] at h';exact ih h'
structure BlkOk (N:List Str) (sc scope:jj) (own:List (Str×Nat)):Prop where
 kind:scope.kind= .function:=by rfl
 uniq:∀y∈scope.names,scope.names.lookup y.1=some y.2:=by decide +kernel
 ix:∀p∈own,N[p.2]? =some p.1:=by decide +kernel
 free:∀y∈scope.names,y.2= .free->sc.names.lookup y.1=some .cell\/sc.names.lookup y.1=some .free:=by decide +kernel
 own:∀y∈scope.names,y.2= .local\/y.2= .cell->y.1∈own.map (·.1)\/y.1∉N:=by decide +kernel
def GL (σ:St):List Nat->St
 |[]=>σ
 |v::vs=>(GL σ vs).set v none
theorem G4 (σ:St):∀vs:List Nat,(GL σ vs).length=σ.length
 |[]=>rfl
 |v::vs=>by unfold GL;rw[xV,G4 σ vs]
theorem J7 {σ:St} {i:Nat} {x:V}:∀{vs:List Nat},(GL σ vs)[i]? =some (some x)->σ[i]? =some (some x)/\i∉vs
 |[],h=>⟨h,by simp⟩
 |v::vs,h=>by
  unfold GL at h;by_cases hi:v=i
  ·subst hi;by_cases hv:v<(GL σ vs).length
   ·rw[ng hv] at h;cases h
   ·rw[vG (by simpa using hv)] at h;cases h
  ·rw[tm hi] at h;obtain⟨h1,h2⟩:=J7 h;exact⟨h1,by simp only[bp,not_or];exact⟨λe=>hi e.symm,h2⟩⟩
abbrev Cx.blk (X:Cx) (s:aj) (H:Hp) (scope:jj) (cenv:Env) (fp:List ag):Cx:={ X with s_0:=s,H_0:=H,env:=cenv,outer:=X.stack,ex:=fp,fn:=λx=>scope.names.lookup x==some .cell,pn:=[],xe:=λ_ _=>False }
section
variable {X:Cx} {Ap:List (ag×Obj)} {σ:St} {H:Hp} {s:aj}
theorem Q4 {scope:jj} {own:List (Str×Nat)} {fp:List ag} (I:Inv X Ap σ H s) (ok:BlkOk X.N X.env.scope scope own) (hN:X.N.Nodup) (hfp:∀b∈fp,LC X Ap H b/\b<s.heap.objs.size):
 Inv (X.blk s H scope (jm scope (ik (s.heap.objs.size+1) scope.names (BA X.env.cells scope.names [])) s.heap.objs.size X.env) fp) [] (GL σ (own.map (·.2))) H { s with heap:=sV (s.heap.push { cls:=.type "dict",data:=.dict #[] }) scope.names }:=by
 have hfree:∀y∈scope.names,y.2= .free->∃c,X.env.cells.lookup y.1=some c:=λy hy e=>by
  rcases ok.free y hy e with k|k
  ·exact I.ok.has _ (.inl k)
  ·exact I.ok.has _ (.inr k)
 generalize hcenv:jm scope (ik (s.heap.objs.size+1) scope.names (BA X.env.cells scope.names [])) s.heap.objs.size X.env=cenv;have kp:∀b o,s.heap.get? b=some o->(sV (s.heap.push { cls:=.type "dict",data:=.dict #[] }) scope.names).get? b=some o:=λb o e=>tF _ _ _ _ (ak _ e);have hL:cenv.locals=s.heap.objs.size:=by rw[←hcenv];rfl
 have hcl:cenv.cells=ik (s.heap.objs.size+1) scope.names (BA X.env.cells scope.names []):=by rw[←hcenv];rfl
 have hsc:cenv.scope=rW scope X.env.scope:=by rw[←hcenv];rfl
 rw[←fk s.heap { cls:=.type "dict",data:=.dict #[] }] at hcl;have cm:∀{y c},(y,c)∈BA X.env.cells scope.names []->X.env.cells.lookup y=some c/\c<s.heap.objs.size:=λ{y c} hm=>by
  rcases EF hm with hm|⟨h1,rfl⟩
  ·cases hm
  ·obtain⟨c,hc⟩:=hfree _ h1 rfl;rw[hc];obtain⟨w,z⟩:=I.cell _ _ hc;exact⟨rfl,z.lt⟩
 have mem:∀{y c},cenv.cells.lookup y=some c->(X.env.cells.lookup y=some c/\c<s.heap.objs.size)\/(s.heap.objs.size+1<=c/\YR (sV (s.heap.push { cls:=.type "dict",data:=.dict #[] }) scope.names) c none):=λ{y c} e=>by
  rw[hcl] at e;rcases F8 (cp e) with hm|⟨_,h2,h3⟩
  ·exact .inl (cm hm)
  ·rw[fk] at h2;exact .inr ⟨h2,h3⟩
 have look:∀{y},scope.names.lookup y=some .free->∃c,cenv.cells.lookup y=some c/\X.env.cells.lookup y=some c:=λ{y} hl=>by
  have hy:(y,qm)∈scope.names:=cp hl;obtain⟨c',e'⟩:=E3 (HR (names:=scope.names) (n:=(s.heap.push { cls:=.type "dict",data:=.dict #[] }).objs.size) (EG (cells:=X.env.cells) (acc:=[]) hy));rw[←hcl] at e';refine⟨c',e',?_⟩;rw[hcl] at e';rcases F8 (cp e') with hm|⟨h1,_,_⟩
  ·exact(cm hm).1
  ·have:=ok.uniq _ h1;rw[hl] at this;cases this
 have okB:(X.blk s H scope cenv fp).Ok:=by
  refine⟨I.ok.mod,by show cenv.scope.kind=_;rw[hsc];exact ok.kind,by show cenv.globals=_;rw[←hcenv];exact I.ok.glob,by show cenv.builtins=_;rw[←hcenv];exact I.ok.blt,by show s.heap.objs.size<=cenv.locals;rw[hL];exact au _,
   λy z c e1 e2=>?_,λy hy=>?_,λy c z e=>?_,I.ok.hd,I.ok.frames,.inl rfl,λb hb=>⟨?_,λy c e z=>?_⟩,I.bs,cy I.ok.bsz I.sz,λb o e hb=>?_,λb hb z=>?_,I.stack,I.stkFree⟩
  ·have e1:cenv.cells.lookup y=some c:=e1;have e2:cenv.cells.lookup z=some c:=e2;rw[hcl] at e1 e2;refine J6 (λp hp=>?_) (λy z c a b=>I.ok.inj y z c (cm a).1 (cm b).1) (cp e1) (cp e2);rw[fk];exact ot (cm (y:=p.1) (c:=p.2) hp).2
  ·show∃c,cenv.cells.lookup y=some c;have key:∀k,cenv.kindOf y=some k->(k= .cell\/k= .free)->∃c,cenv.cells.lookup y=some c:=λk hk hk'=>by
    unfold Env.kindOf at hk;rw[hsc] at hk;obtain⟨k',e,r⟩:=G3 hk;have:k'= .cell\/k'= .free:=by
     rcases r with rfl|⟨rfl,_⟩
     ·exact hk'
     ·exact .inr rfl
    rcases this with rfl|rfl
    ·obtain⟨c,hm⟩:=J5 (n:=(s.heap.push { cls:=.type "dict",data:=.dict #[] }).objs.size) (acc:=BA X.env.cells scope.names []) (cp e);obtain⟨c',e'⟩:=E3 hm;exact⟨c',by rw[hcl];exact e'⟩
    ·obtain⟨c,h1,_⟩:=look e;exact⟨c,h1⟩
   rcases hy with hy|hy
   ·exact key _ hy (.inl rfl)
   ·exact key _ hy (.inr rfl)
  ·have z:(scope.names.lookup y==some wr)=true:=z;have z:scope.names.lookup y=some .cell:=by simpa using z
   have e:cenv.cells.lookup y=some c:=e;rw[hcl] at e;rcases F8 (cp e) with hm|⟨_,h2,_⟩
   ·rcases EF hm with hm|⟨h1,_⟩
    ·cases hm
    ·have q:=ok.uniq _ h1;rw[z] at q;cases q
   ·rw[fk] at h2;exact sr h2
  ·show b≠cenv.locals;rw[hL];exact cj (hfp b hb).2
  ·have e:cenv.cells.lookup y=some c:=e;rcases mem e with⟨h1,_⟩|⟨h1,_⟩
   ·exact(hfp b hb).1.2.2.2.2.1 y c h1 z
   ·have h2:s.heap.objs.size+1<=b:=by rw[←z];exact h1
    exact absurd (br (hfp b hb).2 (sr h2)) (iz _)
  ·rcases(hfp b hb).1.2.2.2.1 with z|z
   ·exact I.ok.noex b o e z
   ·exact absurd (br (bh e) (cy I.ok.bsz z)) (iz _)
  ·rcases bp.mp (I.stkSub b z) with z|z
   ·exact(hfp b hb).1.2.1 z
   ·exact(hfp b hb).1.2.2.1 z
 refine⟨okB,rfl,I.bare,Un.kept kp,⟨λ_=>none,?_,λi y av e1 e2 e3=>?_⟩,λy c e=>?_,?_,λy c e=>?_,λp hp=>?_,I.hok.kept kp,by rw[G4];exact I.len⟩
 ·show Heap.Ns _ cenv.locals _;rw[hL];exact Heap.Ns.keeps (Heap.Ns.new ..) λb o e=>tF _ _ _ _ e
 ·obtain⟨e2,hne⟩:=J7 e2;have hfr:scope.names.lookup y=some .free/\(cenv.kindOf y=some .cell\/cenv.kindOf y=some .free):=by
   have key:∀k,cenv.scope.names.lookup y=some k->k= .local\/k= .cell\/k= .free->scope.names.lookup y=some .free/\(cenv.kindOf y=some .cell\/cenv.kindOf y=some .free):=λk hk hk'=>by
    have hk0:=hk;rw[hsc] at hk;obtain⟨k',e,r⟩:=G3 hk;have no:¬(k'= .local\/k'= .cell):=λhh=>by
     rcases ok.own _ (cp e) hh with e'|e'
     ·obtain⟨p,hp,hpy⟩:=kh.mp e';have e3:=ok.ix p hp;have:p.1=y:=hpy;rw[this] at e3;exact hne (kh.mpr ⟨p,hp,MC hN e3 e1⟩)
     ·exact e' (bz e1)
    rcases r with rfl|⟨rfl,rfl⟩
    ·rcases hk' with rfl|rfl|rfl
     ·exact absurd (.inl rfl) no
     ·exact absurd (.inr rfl) no
     ·exact⟨e,.inr hk0⟩
    ·exact⟨e,.inl hk0⟩
   have e3:Vis cenv.scope y:=e3;rcases e3 with e3|e3|e3
   ·exact key _ e3 (.inl rfl)
   ·exact key _ e3 (.inr (.inl rfl))
   ·exact key _ e3 (.inr (.inr rfl))
  obtain⟨m,hn,hl⟩:=I.loc;have hvis:Vis X.env.scope y:=(ok.free _ (cp hfr.1) rfl).elim (λk=>.inr (.inl k)) (λk=>.inr (.inr k));obtain⟨w,r,q⟩:=hl i y av e1 e2 hvis;refine⟨w,r,.inr ⟨hfr.2,?_⟩⟩;obtain⟨c,h1,h2⟩:=look hfr.1;rcases q with⟨k,_⟩|⟨_,c',e',z⟩
  ·have k:X.env.scope.names.lookup y=some .local:=k;rcases ok.free _ (cp hfr.1) rfl with k'|k'<;>rw[show X.env.scope.names.lookup y=_ from k'] at k<;>cases k
  ·rw[h2] at e';cases e';exact⟨c,h1,z.keeps kp⟩
 ·have e:cenv.cells.lookup y=some c:=e;rcases mem e with⟨h1,_⟩|⟨_,z⟩
  ·obtain⟨w,z⟩:=I.cell y c h1;exact⟨w,z.keeps kp⟩
  ·exact⟨_,z⟩
 ·show H cenv.locals=none;rw[hL];exact I.hok.fresh (au _)
 ·have e:cenv.cells.lookup y=some c:=e;rcases mem e with⟨h1,_⟩|⟨h1,_⟩
  ·exact I.freeC y c h1
  ·exact I.hok.fresh (sr h1)
 ·exact absurd (show p∈([]:List (ag×Obj))++[] from hp) (by simp)
theorem g9 {E:ah->aj->Prop} {D:ag} {xs:List V} {y:V} {v:ah} {Q:ah->aj->Prop} (I:Inv X Ap σ H s) (hD:H D=some (.lst xs)) (hz:xs.length<sizeLine) (r:RelV y v)
 (h:∀s',Inv X Ap σ (upd H D (.lst (xs++[y]))) s'->Q .none s'):bf (bi X.prog X.w) X.A (call (.builtin "list.append") [.ref D,v]) Q E s:=by
 obtain⟨hz',As,n,ri,e⟩:=I.hok D _ hD;have hl:=ri.length;refine append_at (hsz:=by rw[bn];omega) e λh' sb ho'=>?_;refine h { s with heap:=h' } (I.write (t':=s.toks) (by rw[hD];trivial) (.inl rfl) (λb u hb q=>(sb.2 b hb).trans q) ⟨_,ho'⟩ ⟨by rw[bq];exact hz,As++[v],n+1,ri.append (.cons r .nil),?_⟩);rw[ho'];simp
def PTs (X:Cx) (ifs:List Expr) (t:TT):Prop:=
 ∀(Ap:List (ag×Obj)) (s:aj) (σ:St) (H:Hp) (Q:Bool->Hp->Prop),Inv X Ap σ H s->t σ H Q->
  bf (bi X.prog X.w) X.A (forIn ifs true λc r=>if r=true then do let ok←xk c X.env (eval c X.env);pure (tG ok) else pure (tG r)) (TP X Ap σ Q) X.xe s
def rX:TT:=λ_ H Q=>Q true H
theorem PM:PTs X [] rX:=λ_ _ _ H _ I h=>wpAny_tests_nil ⟨H,I,h⟩
theorem cR {c:Expr} {t:TT} (h:PT X c t):PTs X [c] t:=λAp s σ H Q I hw=>wpAny_tests_one (h Ap s σ H Q I hw)
end
theorem WW {α:Type} {t:Sem α} {Q Q':α->aj->Prop} {M:xL} {A:de} {E:ah->aj->Prop} {s:aj} (h:bf M A t Q (λ_ _=>False) s) (hQ:∀a s,Q a s->Q' a s):bf M A t Q' E s:=gq h hQ λ_ _ z=>fi z
theorem PN {prog:bb} {w:bv} {A:de} {R:xq->aj->Prop} {s:aj} {elt target iter:Expr} {ifs:List Expr} {scope:jj} {pos:Pos} {it acc:ah} {env:Env} (I:Nat->aj->Prop)
 (turn:∀n s,I n s->bf (bi prog w) A (wx it) (λr s₁=>match r with
  |none=>R (.ok .next) s₁
  |some v=>bf (bi prog w) A (qv target it v) (λ_ s₁'=>bf (bi prog w) A (xm target env v) (λ_ s₂=>
   bf (bi prog w) A (forIn ifs true λc r=>if r=true then do let ok←xk c env (eval c env);pure (tG ok) else pure (tG r)) (λok s₃=>
    if ok=true then bf (bi prog w) A (eval elt env) (λx s₄=>
     bf (bi prog w) A (call (.builtin "list.append") [acc,x]) (λ_ s₅=>∃m,m<n/\I m s₅) (wc (bi prog w) A env λe s'=>R (.error e) s') s₄) (wc (bi prog w) A env λe s'=>R (.error e) s') s₃
    else∃m,m<n/\I m s₃) (wc (bi prog w) A env λe s'=>R (.error e) s') s₂) (wc (bi prog w) A env λe s'=>R (.error e) s') s₁') (wc (bi prog w) A env λe s'=>R (.error e) s') s₁) (wc (bi prog w) A env λe s'=>R (.error e) s') s)
 (n:Nat) (h:I n s):
 mr (bi prog w) A (.compLoop (.ListComp elt [⟨target,iter,ifs,0⟩] scope pos) 0 it acc env) R s:=by
 refine codeAny_loop rfl I (λn s hI=>?_) n h;show bf _ A ((compTurn (.ListComp elt [⟨target,iter,ifs,0⟩] scope pos) 0 it acc env).onRaise (λx=>do uS x env;theTreesLotGoes x)) _ _ s;refine wpAny_noted ?_;rw[compTurn_list];refine ae (jq (ae (gq (turn n s hI) (λr s₁ h₁=>?_) λ_ _ h'=>h')));cases r with
 |none=>exact ao h₁
 |some v=>
  refine ae (gq h₁ (λ_ s₁' h₁'=>?_) λ_ _ h'=>h');refine ae (gq h₁' (λ_ s₂ h₂=>ae (gq h₂ (λok s₃ h₃=>?_) λ_ _ h'=>h')) λ_ _ h'=>h');cases ok with
  |false=>exact ao ⟨rfl,h₃⟩
  |true=>
   exact ae (ae (gq h₃ (λx s₄ h₄=>ae (gq h₄ (λ_ s₅ h₅=>ao (ao ⟨rfl,h₅⟩)) λ_ _ h'=>h')) λ_ _ h'=>h'))
section
variable {X:Cx}
def tLc (wi:TI) (g:TG) (tt:TT) (te:TE) (vs:List Nat):TE:=λσ H Q=>wi σ H λJ H1=>∀D,H1 D=none->∃W:Nat->Nat->Hp->Prop,(∃m,W 0 m (upd H1 D (.lst [])))/\∀i m H,W i m H->
 (J.stop i H/\Q (.ref D) H)\/(J.go i H/\∃Nx:Hp->Prop,(∀H',Nx H'->∃m',m'<m/\W (i+1) m' H')/\∀x H',J.yld i H x H'->g x (GL σ vs) H' λσ2 H2=>GL σ2 vs=GL σ vs/\tt σ2 H2 λb H3=>
  if b=true then te σ2 H3 λy H4=>∃acc,H4 D=some (.lst acc)/\acc.length<sizeLine/\Nx (upd H4 D (.lst (acc++[y]))) else Nx H3)
theorem UY {Ap:List (ag×Obj)} {s:aj} {σ:St} {H:Hp} {Q:VK} {elt tg iter:Expr} {ifs:List Expr} {scope:jj} {own:List (Str×Nat)} {pos pos':Pos} {wi:TI} {g:TG} {tt:TT} {te:TE} {use:Option (ah->Sem Unit)} {Qf:ah->aj->Prop}
 (hc:X.calm=true) (hN:X.N.Nodup) (I:Inv X Ap σ H s) (hi:PI X tg iter wi) (ok:BlkOk X.N X.env.scope scope own)
 (hg:∀(s:aj) (H:Hp) (C:ag) (cl:List (Str×ag)) (fp:List ag),PG (X.blk s H scope (jm scope cl C X.env) fp) tg g) (ht:∀(s:aj) (H:Hp) (C:ag) (cl:List (Str×ag)) (fp:List ag),PTs (X.blk s H scope (jm scope cl C X.env) fp) ifs tt)
 (he:∀(s:aj) (H:Hp) (C:ag) (cl:List (Str×ag)) (fp:List ag),PE (X.blk s H scope (jm scope cl C X.env) fp) elt te) (hs:∀x,lq iter X.env x=pure x)
 (h:tLc wi g tt te (own.map (·.2)) σ H Q)
 (hRR:∀D C s' m H',Inv X Ap σ H' s'->Q (.ref D) H'->s'.heap.Ns C m->LC X Ap H' C->compPost (bi X.prog X.w) X.A X.xe use Qf (.ref D) C (.ok .next) s'):
 bf (bi X.prog X.w) X.A (comprehension (.ListComp elt [⟨tg,iter,ifs,0⟩] scope pos) scope X.env pos' (newList []) false (eval iter X.env) use) Qf X.xe s:=by
 have hfree:∀y∈scope.names,y.2= .free->∃c,X.env.cells.lookup y.1=some c:=λy hy e=>by
  rcases ok.free y hy e with k|k
  ·exact I.ok.has _ (.inl k)
  ·exact I.ok.has _ (.inr k)
 refine wpAny_comprehension_free (use:=use) rfl hs (MR hfree) ok.kind (λy hy e=>by rw[ok.uniq y hy,e])
  (thn (hi Ap s σ H _ I h) λxv s1 hx=>thn hx λitv s2 h2=>?_)
 obtain⟨it,fp,tn,J,H2,e,I2,T,st2,f2,q⟩:=h2;subst e;refine gc (Q3 ?_) (by show 0<=sizeLine;decide);generalize hD:s2.heap.objs.size=D;have hDn:H2 D=none:=I2.hok.fresh (sg hD);obtain⟨W,⟨m0,w0⟩,turn⟩:=q D hDn;generalize hs3:({ s2 with heap:=s2.heap.push { cls:=.type "list",data:=.seq ([]:List ah).toArray } }:aj)=s3;have I3:Inv X Ap σ (upd H2 D (.lst [])) s3:=by
  rw[←hs3];refine I2.laid (t':=s2.toks) (λb o e=>ak _ e) (sg hD) ⟨dq _,[],0,.nil,?_⟩;rw[←hD];exact bg _ rfl
 have h3:s3.heap=s2.heap.push { cls:=.type "list",data:=.seq ([]:List ah).toArray }:=by rw[←hs3]
 have sz:∀b∈fp,b<s2.heap.objs.size:=λb hb=>by
  obtain⟨o,e,_⟩:=T.obj _ _ st2 b hb;exact bh e
 have f3:∀b∈fp,LC X Ap (upd H2 D (.lst [])) b/\b<s3.heap.objs.size:=λb hb=>by
  have Aw:=sz b hb;refine⟨⟨?_,(f2 b hb).2⟩,by rw[h3,fk];exact ot Aw⟩;rw[AE (by rw[←hD];exact cj Aw)];exact(f2 b hb).1
 have st3:tn 0 s3.heap:=T.keep _ _ _ st2 λb _ o e=>by rw[h3];exact ak _ e
 have I4:=Q4 I3 ok hN f3;have pg:=hg s3 (upd H2 D (.lst [])) s3.heap.objs.size (ik (s3.heap.objs.size+1) scope.names (BA X.env.cells scope.names [])) fp;have pt:=ht s3 (upd H2 D (.lst [])) s3.heap.objs.size (ik (s3.heap.objs.size+1) scope.names (BA X.env.cells scope.names [])) fp;have pe:=he s3 (upd H2 D (.lst [])) s3.heap.objs.size (ik (s3.heap.objs.size+1) scope.names (BA X.env.cells scope.names [])) fp;show mr _ _ (.compStart (.ListComp elt [⟨tg,iter,ifs,0⟩] scope pos) 0 (.ref it) (.ref D) (jm scope (ik (s3.heap.objs.size+1) scope.names (BA X.env.cells scope.names [])) s3.heap.objs.size X.env)) (compPost (bi X.prog X.w) X.A X.xe use Qf (.ref D) s3.heap.objs.size) { s3 with heap:=sV (s3.heap.push { cls:=.type "dict",data:=.dict #[] }) scope.names };have nfp:∀b∈fp,(upd H2 D (.lst [])) b=none:=λb hb=>(f3 b hb).1.1;generalize hce:jm scope (ik (s3.heap.objs.size+1) scope.names (BA X.env.cells scope.names [])) s3.heap.objs.size X.env=ce at I4 pg pt pe ⊢;have cL:ce.locals=s3.heap.objs.size:=by subst hce;rfl
 generalize hH3:upd H2 D (.lst [])=H3 at I3 I4 pg pt pe w0 nfp f3;generalize hs4:({ s3 with heap:=sV (s3.heap.push { cls:=.type "dict",data:=.dict #[] }) scope.names }:aj)=s4 at I4 ⊢;have st4:tn 0 s4.heap:=T.keep _ _ _ st3 λb _ o e=>by rw[←hs4];exact tF _ _ _ _ (ak _ e)
 have stat:∀{σ':St} {H':Hp} {s':aj},Inv (X.blk s3 H3 scope ce fp) [] σ' H' s'->(∀b∈fp,H' b=none)->∀b∈fp,LC (X.blk s3 H3 scope ce fp) [] H' b:=λ{σ' H' s'} I' hn b hb=>
  ⟨hn b hb,(I'.ok.exf b hb).1,I'.ok.exfs b hb,.inl hb,λx c e=>(I'.ok.exf b hb).2 x c e,λp hp=>absurd (show p∈([]:List (ag×Obj))++[] from hp) (by simp)⟩
 have loop:mr (bi X.prog X.w) X.A (.compLoop (.ListComp elt [⟨tg,iter,ifs,0⟩] scope pos) 0 (.ref it) (.ref D) ce) (compPost (bi X.prog X.w) X.A X.xe use Qf (.ref D) s3.heap.objs.size) s4:=by
  refine PN (λn s'=>∃i H',Inv (X.blk s3 H3 scope ce fp) [] (GL σ (own.map (·.2))) H' s'/\tn i s'.heap/\(∀b∈fp,H' b=none)/\W i n H') ?_ m0 ⟨0,H3,I4,st4,nfp,w0⟩;rintro n s5 ⟨i,H5,I5,st5,n5,w5⟩;rcases turn i n H5 w5 with⟨stop,qq⟩|⟨go,Nx,hNx,step⟩
  ·have td:=T.done (X.blk s3 H3 scope ce fp) rfl rfl rfl hc i [] s5 _ H5 (λ_ _=>False) I5 (stat I5 n5) st5 stop;refine WW td λr s6 ⟨hr,I6⟩=>?_;subst hr;have I7:Inv X Ap σ H5 s6:=I3.call' (ch:=fp) I6.os I6.base I6.hok I6.bare λb hb=>⟨(f3 b hb).1.2.2.2.1,(f3 b hb).1.2.1,(f3 b hb).1.2.2.2.2.1,(f3 b hb).1.2.2.2.2.2⟩
   have nC:H5 s3.heap.objs.size=none:=by
    have z:H5 ce.locals=none:=I6.free;rw[cL] at z;exact z
   obtain⟨m,hn,_⟩:=I6.loc;have hn:s6.heap.Ns ce.locals m:=hn;rw[cL] at hn;exact hRR D s3.heap.objs.size s6 m H5 I7 qq hn (I3.fpOk (au _) nC)
  ·have ti:=T.item (X.blk s3 H3 scope ce fp) rfl rfl rfl hc i [] s5 _ H5 (λ_ _=>False) I5 (stat I5 n5) st5 go;refine WW ti λr s6 ⟨u,hr,h6⟩=>?_;subst hr;refine WW h6 λ_ s7 ⟨x,H7,I7,r7,y7,st7,n7⟩=>?_;have I7':=I7.pinned (stat I7 n7) (T.obj _ _ st7);refine WW (pg _ s7 _ H7 x u _ I7' r7 (step x H7 y7)) λ_ s8 ⟨σ8,H8,I8,hw8,q8⟩=>?_;refine WW (pt _ s8 σ8 H8 _ I8 q8) λb s9 ⟨H9,I9,q9⟩=>?_;have fin:∀{s':aj} {H':Hp},Inv (X.blk s3 H3 scope ce fp) ([]++MF fp s7.heap) σ8 H' s'->Nx H'->∃m,m<n/\∃i H',Inv (X.blk s3 H3 scope ce fp) [] (GL σ (own.map (·.2))) H' s'/\tn i s'.heap/\(∀b∈fp,H' b=none)/\W i m H':=λ{s' H'} I' nx=>by
    obtain⟨m',hm,w'⟩:=hNx H' nx;have pin':∀b∈fp,∀o,s7.heap.get? b=some o->s'.heap.get? b=some o/\H' b=none:=λb hb o e=>
     let z:=I'.pin (b,o) (dw _ (dw _ (IK hb e)))
     ⟨z.1,z.2.1⟩
    have hl:(GL σ (own.map (·.2))).length=σ8.length:=by rw[←hw8,G4]
    refine⟨m',hm,i+1,H',(I'.unpinned (Ap:=[])).weak hl (λj v e=>?_),T.keep _ _ _ st7 λb hb o e=>(pin' b hb o e).1,λb hb=>?_,w'⟩
    ·rw[←hw8] at e;exact(J7 e).1
    ·obtain⟨o,e,_⟩:=T.obj _ _ st7 b hb;exact(pin' b hb o e).2
   cases b with
   |false=>
    simp only[fu,if_false] at q9 ⊢;exact fin I9 q9
   |true=>
    simp only[if_true] at q9 ⊢;refine WW (pe _ s9 σ8 H9 _ I9 q9) λz s10 ⟨yv,H10,I10,r10,acc,hD10,hz10,nx⟩=>?_;exact g9 (X:=X.blk s3 H3 scope ce fp) I10 hD10 hz10 r10 λs11 I11=>fin I11 nx
 exact codeAny_compStart_list loop (T.self X.A 0 _ _ _ st4 loop)
theorem lX {elt tg iter:Expr} {ifs:List Expr} {scope:jj} {own:List (Str×Nat)} {pos:Pos} {wi:TI} {g:TG} {tt:TT} {te:TE} (hc:X.calm=true) (hN:X.N.Nodup) (hi:PI X tg iter wi) (ok:BlkOk X.N X.env.scope scope own)
 (hg:∀(s:aj) (H:Hp) (C:ag) (cl:List (Str×ag)) (fp:List ag),PG (X.blk s H scope (jm scope cl C X.env) fp) tg g) (ht:∀(s:aj) (H:Hp) (C:ag) (cl:List (Str×ag)) (fp:List ag),PTs (X.blk s H scope (jm scope cl C X.env) fp) ifs tt)
 (he:∀(s:aj) (H:Hp) (C:ag) (cl:List (Str×ag)) (fp:List ag),PE (X.blk s H scope (jm scope cl C X.env) fp) elt te) (hs:∀x,lq iter X.env x=pure x:=by intro _;rfl):
 PE X (.ListComp elt [⟨tg,iter,ifs,0⟩] scope pos) (tLc wi g tt te (own.map (·.2))):=by
 intro Ap s σ H Q I h;rw[eval_ListComp];refine UY hc hN I hi ok hg ht he hs h λD C s' m H' I' q hn f=>⟨m,hn,λh'' sb=>?_⟩
 obtain⟨f0,f1,f2,f3,f4,f5⟩:=f;exact⟨.ref D,H',I'.turned (t':=s'.toks) (λb o hb e=>(sb.2 b hb).trans e) f0 f1 f3 f4 f5,rfl,q⟩
theorem YS {i:Nat} {y:Str} {py:Pos} {elt tg iter:Expr} {ifs:List Expr} {scope:jj} {own:List (Str×Nat)} {pos spos:Pos} {wi:TI} {g:TG} {tt:TT} {te:TE} (hc:X.calm=true) (hN:X.N.Nodup) (hy:X.N[i]? =some y) (hyl:X.env.scope.names.lookup y=some .local)
 (hsw:pq (.ListComp elt [⟨tg,iter,ifs,0⟩] scope pos) (some (.Name y py)) spos.line X.env=pure true) (hi:PI X tg iter wi) (ok:BlkOk X.N X.env.scope scope own)
 (hg:∀(s:aj) (H:Hp) (C:ag) (cl:List (Str×ag)) (fp:List ag),PG (X.blk s H scope (jm scope cl C X.env) fp) tg g) (ht:∀(s:aj) (H:Hp) (C:ag) (cl:List (Str×ag)) (fp:List ag),PTs (X.blk s H scope (jm scope cl C X.env) fp) ifs tt)
 (he:∀(s:aj) (H:Hp) (C:ag) (cl:List (Str×ag)) (fp:List ag),PE (X.blk s H scope (jm scope cl C X.env) fp) elt te) (hs:∀x,lq iter X.env x=pure x:=by intro _;rfl):
 PS X (.Assign [.Name y py] (.ListComp elt [⟨tg,iter,ifs,0⟩] scope pos) spos) (YA (tLc wi g tt te (own.map (·.2))) (ME i)):=by
 intro Ap s σ H D I h;rw[exec_Assign_Name_used _ _ _ _ hsw];refine ae (jq (ae ?_));show bf _ X.A (do let _←comprehension (.ListComp elt [⟨tg,iter,ifs,0⟩] scope pos) scope X.env (firstIterPos [⟨tg,iter,ifs,0⟩] pos) (newList []) false (eval iter X.env) (some (xm (.Name y py) X.env))) _ _ s;have h:tLc wi g tt te (own.map (·.2)) σ H (λx H1=>ME i x σ H1 D.nx):=h;refine ae (thn (UY (Qf:=λ_ s'=>SP X Ap D .next s') hc hN I hi ok hg ht he hs h λL C s' m H' I' q hn f=>?_) λ_ s' hq=>ao (ao hq));show bf _ _ (xm (.Name y py) X.env (.ref L)) _ _ _;refine wM (N6 (v:=V.ref L) I' hN hy (.inl hyl) rfl (λs2 I2 ⟨a,sb,ha⟩=>?_) (.inr hyl));obtain⟨f0,f1,f2,f3,f4,f5⟩:=f;have haC:C≠a:=by
  rcases ha with z|z
  ·rw[z];exact f1
  ·exact λe=>f4 y a z e.symm
 refine⟨m,hn.sameBut sb haC,λh3 sb3=>?_⟩;exact⟨_,H',I2.turned (t':=s2.toks) (λb o hb e=>(sb3.2 b hb).trans e) f0 f1 f3 f4 f5,q⟩
end
section
variable {κ:Type} [DecidableEq κ]
def EV (Au:List (κ×V)) (k:κ):Option V:=(Au.find? λkv=>decide (kv.1=k)).map (·.2)
def eX (Au:List (κ×V)) (k:κ):List (κ×V):=Au.filter λkv=>decide (kv.1≠k)
theorem F9 {p:κ×V} {r:List (κ×V)} {k:κ} (e:p.1=k):EV (p::r) k=some p.2:=by simp[EV,jk,e]
theorem EH {p:κ×V} {r:List (κ×V)} {k:κ} (e:¬p.1=k):EV (p::r) k=EV r k:=by simp[EV,jk,e]
theorem J8 (k j:κ) (y:V):∀Au:List (κ×V),EV Au k=none->EV (Au++[(k,y)]) j=if j=k then some y else EV Au j
 |[],_=>by
  by_cases e:k=j
  ·rw[Ax e.symm];exact F9 (p:=(k,y)) e
  ·rw[Ay (λz=>e z.symm)];exact EH (p:=(k,y)) e
 |p::r,hn=>by
  rw[qc];have hk:¬p.1=k:=λz=>by rw[F9 z] at hn;cases hn
  rw[EH hk] at hn;have ih:=J8 k j y r hn;by_cases e:p.1=j
  ·rw[F9 e,F9 e,Ay (λz=>hk (e.trans z))]
  ·rw[EH e,EH e,ih]
theorem RelO.isSome_eq {o:Option V} {u:Option ah} (r:RelO o u):o.isSome=u.isSome:=by
 cases o with
 |none=>cases u with
  |none=>rfl
  |some _=>exact(show False from r).elim
 |some _=>cases u with
  |none=>exact(show False from r).elim
  |some _=>rfl
theorem RelO.getD {o:Option V} {u:Option ah} {d:V} {d':ah} (r:RelO o u) (rd:RelV d d'):RelV (o.getD d) (u.getD d'):=by
 cases o with
 |none=>cases u with
  |none=>exact rd
  |some _=>exact(show False from r).elim
 |some _=>cases u with
  |none=>exact(show False from r).elim
  |some _=>exact r
theorem KV.drop {Au:List (κ×V)} {vs:List (κ×ah)} (r:KV Au vs) (k:κ):KV (eX Au k) (without vs k):=by
 unfold KV at r ⊢;unfold eX without;induction r with
 |nil=>exact .nil
 |@cons p q ps qs h t ih=>
  obtain⟨h1,h2⟩:=h;rw[sW,sW];by_cases e:p.1=k
  ·have a:¬decide (p.1≠k)=true:=by simp[e]
   have b:¬decide (q.1≠k)=true:=by simp[h1.symm.trans e]
   rw[Ay a,Ay b];exact ih
  ·have e':¬q.1=k:=λz=>e (h1.trans z);have a:decide (p.1≠k)=true:=by simp[e]
   have b:decide (q.1≠k)=true:=by simp[e']
   rw[Ax a,Ax b];exact .cons ⟨h1,h2⟩ ih
theorem KV.keys {Au:List (κ×V)} {vs:List (κ×ah)} (r:KV Au vs):Au.map (·.1)=vs.map (·.1):=by
 unfold KV at r;induction r with
 |nil=>rfl
 |cons h t ih=>rw[cz,cz,ih,h.1]
theorem KV.length {Au:List (κ×V)} {vs:List (κ×ah)} (r:KV Au vs):Au.length=vs.length:=cg r
end
theorem lY {P:bb} {w:bv} {k:Key} {u:ah} (r:RelV (kV k) u):(DF P w).is k u=true:=by
 cases k with
 |inl i=>obtain⟨t,e⟩:=(show∃t,u=uN i t from r);subst e;exact QR P w i t
 |inr x=>obtain⟨t,e⟩:=(show∃t,u=xh x t from r);subst e;exact QS P w x t
theorem OH {P:bb} {w:bv}:∀{ks:List Key} {us:List ah},Vals (ks.map kV) us->ItemsAre (DF P w) ks us
 |[],_,r=>by rw[wT] at r;cases r;exact .nil
 |k::ks,_,r=>by
  rw[cz] at r;cases r with
  |cons h t=>exact .cons (lY h) (OH t)
abbrev KT (H:Hp):List (List Key×V)->List (List Key×ag×ah)->Prop:=cf λp q=>p.1=q.1/\H q.2.1=some (.tup (p.1.map kV))/\RelV p.2 q.2.2
theorem KT.keeps {H H':Hp} {Au:List (List Key×V)} {xs:List (List Key×ag×ah)} (r:KT H Au xs) (ht:∀b ys,H b=some (.tup ys)->H' b=some (.tup ys)):KT H' Au xs:=
 cf.mapP r λ_ _ z=>⟨z.1,ht _ _ z.2.1,z.2.2⟩
section
variable {X:Cx} {Ap:List (ag×Obj)} {σ:St} {H:Hp} {s:aj} {a:ag} {y v:V} {u r:ah} {o:Option V} {A:de} {E:ah->aj->Prop}
theorem Inv.big (I:Inv X Ap σ H s):rb<s.heap.objs.size:=by
 have h:dy<s.heap.objs.size:=(I.mod.glob.keeps I.bk).lt;exact nw (by decide) h
theorem cS {h':cr} {t':Nat} {ob:HO} (I:Inv X Ap σ H s) (mu:Mut (H a)) (hs:pp a s.heap h') (he:∃q,h'.get? a=some q) (new:ObjOk X.prog X.w (upd H a ob) h' a ob):
 Inv X Ap σ (upd H a ob) { s with heap:=h',toks:=t' }:=
 I.write (x:=a) (e:=a) mu (.inl rfl) (λb q hb z=>(hs.2 b hb).trans z) he new
end
def lZ (i:Expr):Prop:=∀ov iv,vQ i false ov iv=operate [ov,iv] (vh ov iv)
theorem cT {prog:bb} {w:bv} {A:de} {E:ah->aj->Prop} {s:aj} {env:Env} {value slice:Expr} {pos:Pos} {T id:String} {Q:ah->aj->Prop}
 (hl:vi (.type T) "__getitem__"=pure (some (.builtin id))) (hs:lZ slice)
 (h:bf (bi prog w) A (eval value env) (λo s₁=>bf (bi prog w) A (eval slice env) (λi s₂=>s₂.TypeIs o T/\bf (bi prog w) A (vh o i) Q E s₂) E s₁) E s):
 bf (bi prog w) A (eval (.Subscript value slice pos) env) Q E s:=by
 refine yp (gq h (λo s₁ h₁=>gq h₁ (λi s₂ h₂=>?_) λ_ _ x=>x) λ_ _ x=>x);obtain⟨hT,h₂⟩:=h₂;unfold wq;refine ae ?_;rw[getitemInPython_of_ne hT.not_modules];refine ae (vy hT hl ?_);have fin:bf (bi prog w) A (vQ slice false o i) (λr s₃=>bf (bi prog w) A (letTemporaryGo value o r >>= λ_=>pure r) Q E s₃) E s₂:=by
  rw[hs o i];exact wpAny_operating (gq h₂ (λr s₃ h₃=>ae (wpAny_letTemporaryGo (ao h₃))) λ_ _ x=>x)
 first
  |exact ao (ae fin)
  |exact ae (ao (ae fin))
  |exact ae fin
structure M1 (X:Cx) (o:Expr) (m:Str) (apos:Pos) (e:Expr) (cpos:Pos):Prop where
 base:jr o m X.env (eval o X.env)=eval o X.env
 few:((ie cpos (be [e] X.env)).all (λx=>!x.1)&&(js cpos (gj [] X.env)).all (λx=>x.1.isSome)
  &&decide (([e]:List Expr).length+([]:List vg).length+(if([]:List vg).isEmpty then 0 else 1)<30))=true
 line:(apos.endLine==cpos.line)=true
 trees:ie cpos (be [e] X.env)=[(false,eval e X.env)]
structure M2 (X:Cx) (o:Expr) (m:Str) (apos:Pos) (e f:Expr) (cpos:Pos):Prop where
 base:jr o m X.env (eval o X.env)=eval o X.env
 few:((ie cpos (be [e,f] X.env)).all (λx=>!x.1)&&(js cpos (gj [] X.env)).all (λx=>x.1.isSome)
  &&decide (([e,f]:List Expr).length+([]:List vg).length+(if([]:List vg).isEmpty then 0 else 1)<30))=true
 line:(apos.endLine==cpos.line)=true
 trees:ie cpos (be [e,f] X.env)=[(false,eval e X.env),(false,eval f X.env)]
theorem MT:jp "reversed"=some (.type "reversed"):=by decide +kernel
section
variable {X:Cx} {Ap:List (ag×Obj)} {σ:St} {H:Hp} {s:aj} {h':cr}
theorem Inv.turnedNew {t':Nat} {ch:List ag} {T:ag} {ob:HO} (I:Inv X Ap σ H s) (k:∀b o,b∉ch->s.heap.get? b=some o->h'.get? b=some o) (hf:∀b∈ch,LC X Ap H b) (hT:s.heap.objs.size<=T)
 (new:ObjOk X.prog X.w (upd H T ob) h' T ob):Inv X Ap σ (upd H T ob) { s with heap:=h',toks:=t' }:=by
 have hn:H T=none:=I.hok.fresh hT;have nit:∀b u,H b=some u->b∉ch:=λb u e z=>by
  have q:=(hf b z).1;rw[q] at e;cases e
 refine I.step (g':=s.gens) (d':=s.drawn) (ch:=ch) (λb hb=>⟨(hf b hb).2.2.2.1,(hf b hb).2.1,(hf b hb).2.2.2.2.1,(hf b hb).2.2.2.2.2⟩) (λb o _ _ hc e _=>k b o hc e) (λb o _ _ hc e _=>⟨o.slots,k b o hc e⟩)
  (λb o _ e n=>?_) (λb o hc e=>⟨o,k b o hc e⟩) (λb xs e=>?_) (λb o u e=>?_) (λb ps e=>⟨#[],?_⟩) (λm hm=>?_) (λb u e=>?_) I.bare
 ·rw[AE (cj (br (bh e) hT))];exact n
 ·rw[AE (AG e hn)];exact e
 ·rw[AE (AG e hn)];exact e
 ·rw[AE (AG e hn),e];simp
 ·obtain⟨o,es,ep,ho,r⟩:=hm;exact⟨o,es,ep,k _ o (λz=>(hf _ z).2.1 rfl) ho,r⟩
 ·by_cases hb:b=T
  ·subst hb;rw[upd_same] at e;cases e;exact new
  ·rw[AE hb] at e;refine(I.hok b u e).stay (λc v hc q=>k c v ?_ q) (λc q=>by rw[AE (AG q hn)];exact q) λc xs q=>by rw[AE (AG q hn)];exact q
   rcases hc with z|z
   ·rw[z];exact nit b u e
   ·exact nit c _ z
end
section
variable {X:Cx}
theorem YT {tg:Expr} {Ap:List (ag×Obj)} {σ:St} {H:Hp} {s:aj} {R:It->Hp->Prop} {J:It} {tn:Nat->cr->Prop} {tk:Nat} (I:Inv X Ap σ H s) (o:Obj)
 (T:Turn X.prog X.w X.K tg J [s.heap.objs.size] s.heap.objs.size tn) (st:tn 0 (s.heap.push o)) (q:R J H):PIE X Ap σ tg R (.ref s.heap.objs.size) { s with heap:=s.heap.push o,toks:=tk }:=by
 refine⟨s.heap.objs.size,[s.heap.objs.size],tn,J,H,rfl,I.kept λb ob e=>ak _ e,T,st,λb hb=>?_,q⟩;have e:b=s.heap.objs.size:=by simpa using hb
 subst e;exact I.fpOk (au _) (I.hok.fresh (au _))
end
def RgC (i j c:Int) (n:Nat):Prop:=c≠0/\c.natAbs<1073741824/\z6 i j c=true/\uO i j c=n
def Its (x:Str):It:=⟨λi _=>i<x.cps.size,λi H v H'=>H'=H/\∃c,x.cps[i]? =some c/\v= .str ⟨#[c]⟩,λi _=>x.cps.size<=i⟩
theorem Q5 {P:bb} {w:bv} {K:aa} {tg:Expr} (it:ag) (x:Str) (t:Tok) (ty:String) (hty:ty="str_ascii_iterator"\/ty="str_iterator"):
 Turn P w K tg (Its x) [it] it (λi h=>h.IsStrIter it ty x t i) where
 mem:=by simp
 obj:=λi h st b hb=>by
  have e:b=it:=by simpa using hb
  subst e;obtain⟨o,e,c,d⟩:=st;exact⟨o,e,λv z=>by rw[d] at z;cases z⟩
 keep:=λi h h' st k=>let ⟨o,ho,r⟩:=st;⟨o,k it (by simp) o ho,r⟩
 item:=by
  intro X hP hw hK hc i Ap s σ H E I hf st hg;subst hP hw hK;obtain⟨f0,f1,f2,f3,f4,f5⟩:=hf it (by simp);have W:Walks X.prog X.w X.A it [it] [it] x.cps.size (SignAt x) (λi h=>h.IsStrIter it ty x t i):=by
   rcases hty with e|e
   ·rw[e];exact Walks.strAscii (I.ok.hd hc) it x t
   ·rw[e];exact Walks.strWide (I.ok.hd hc) it x t
  have hno:["enumerate","zip","dict_itemiterator","dict_reverseitemiterator","odict_iterator","itertools.zip_longest","itertools.pairwise"].contains ty=false:=by
   rcases hty with e|e
   ·rw[e];decide
   ·rw[e];decide
  refine W.item i s _ _ hg st λv h' tk hv st' kk=>?_;obtain⟨c,u,hcx,rfl⟩:=hv;have I1:Inv X Ap σ H { s with heap:=h',toks:=tk }:=I.turned (λb o hb e=>kk b o (by simpa using hb) e) f0 f1 f3 f4 f5;obtain⟨oi,e,cc,dd⟩:=id st';exact⟨_,rfl,UP (s:={ s with heap:=h',toks:=tk }) e cc dd hno ⟨.str ⟨#[c]⟩,H,I1,⟨u,rfl⟩,⟨rfl,c,hcx,rfl⟩,st',λb hb=>(hf b hb).1⟩⟩
 done:=by
  intro X hP hw hK hc i Ap s σ H E I hf st hg;subst hP hw hK;obtain⟨f0,f1,f2,f3,f4,f5⟩:=hf it (by simp);have hx:x.cps[i]? =none:=ss hg;rcases hty with e|e
  ·rw[e] at st;exact wpAny_pyNext_ascii_end (I.ok.hd hc) st hx λh' eb=>⟨rfl,I.turned (t':=s.toks) (λb o hb e=>eb b o hb e) f0 f1 f3 f4 f5⟩
  ·rw[e] at st;exact wpAny_pyNext_wide_end (I.ok.hd hc) st hx λh' eb=>⟨rfl,I.turned (t':=s.toks) (λb o hb e=>eb b o hb e) f0 f1 f3 f4 f5⟩
 self:=λA i s Q E st h=>by
  rcases hty with e|e
  ·rw[e] at st;exact wpAny_pyIter_striter_ascii st h
  ·rw[e] at st;exact wpAny_pyIter_striter_wide st h
def rY (te:TE):TI:=λσ H R=>te σ H λv H1=>∃x,v= .str x/\R (Its x) H1
theorem hG {X:Cx} {tg e:Expr} {te:TE} (he:PE X e te):PI X tg e (rY te):=by
 intro Ap s σ H R I h;refine thn (he Ap s σ H _ I h) λv s1 ⟨y,H1,I1,r1,x,ex,q⟩=>?_;subst ex;obtain⟨t,rfl⟩:=r1;cases ha:x.cps.all (·<128)
 ·exact wpAny_pyIter_wide ha (YT (tk:=s1.toks) I1 _ (Q5 _ x t "str_iterator" (.inr rfl)) ⟨_,bg _ rfl,rfl,rfl⟩ q)
 ·exact wpAny_pyIter_ascii ha (YT (tk:=s1.toks) I1 _ (Q5 _ x t "str_ascii_iterator" (.inl rfl)) ⟨_,bg _ rfl,rfl,rfl⟩ q)
def Ite (K:aa) (a:ag):It:=
 ⟨λi H=>Ex2 λ(xs:List V) (x:V)=>SqL K H a xs/\xs[i]? =some x,λi H v H'=>Ex2 λT x=>v= .ref T/\H T=none/\H'=upd H T (.tup [.int (i:Nat),x])/\∀xs,SqL K H a xs->xs[i]? =some x,λi H=>∃xs:List V,SqL K H a xs/\xs.length<=i⟩
theorem WX {P:bb} {w:bv} {K:aa} {elts:List Expr} {kk:Nat} {tpos:Pos} (a e it:ag):
 Turn P w K (.Tuple elts kk tpos) (Ite K a) [e,it] e (λi h=>(∃old,wC h e it ((i:Nat):Int) old)/\h.IsListIter it a i/\e≠it) where
 mem:=by simp
 obj:=λi h st b hb=>by
  obtain⟨⟨old,he⟩,⟨o,ho,hc,hd⟩,_⟩:=st;have e':b=e\/b=it:=by simpa using hb
  rcases e' with z|z
  ·rw[z];exact⟨_,he,λv q=>nomatch q⟩
  ·rw[z];exact⟨o,ho,λv q=>by rw[hd] at q;cases q⟩
 keep:=λi h h' st k=>let ⟨⟨old,he⟩,hi,hne⟩:=st;⟨⟨old,k e (by simp) _ he⟩,hi.at λo q=>k it (by simp) o q,hne⟩
 item:=by
  intro X hP hw hK hc i Ap s σ H E I hf st hg;subst hP hw hK;obtain⟨⟨old,he⟩,hit,hne⟩:=st;obtain⟨xs,x,hq,hx⟩:=hg;obtain⟨As,rv,p,hz⟩:=I.list hq;obtain⟨u,hu,ru⟩:=rv.get hx;have hel:e<s.heap.objs.size:=bh he;have hil:it<s.heap.objs.size:=by obtain⟨_,q,_⟩:=hit;exact bh q
  refine wpAny_pyNext_enum_item he hit p.isList (x:=u) (by simpa using hu) hne λh' ho hit' hT hsz hk=>?_;refine⟨_,rfl,uh (s:={ s with heap:=h',toks:=s.toks+1 }) ho λh'' he' sb=>?_⟩;have hT2:h''.get? s.heap.objs.size=some { cls:=.type "tuple",data:=.seq #[.int i s.toks,u] }:=(sb.2 _ (qa hel)).trans hT;have new:ObjOk X.prog X.w (upd H s.heap.objs.size (.tup [.int (i:Nat),x])) h'' s.heap.objs.size (.tup [.int (i:Nat),x]):=
   ⟨by show 2<=sizeLine;decide,[.int i s.toks,u],.cons ⟨_,rfl⟩ (.cons ru .nil),⟨_,hT2,rfl,_,rfl⟩⟩
  have I1:Inv X Ap σ (upd H s.heap.objs.size (.tup [.int (i:Nat),x])) { s with heap:=h'',toks:=s.toks+1 }:=
   I.turnedNew (ch:=[e,it]) (λb ob hb q=>(sb.2 b (λz=>hb (by simp[z]))).trans (hk b ob (λz=>hb (by simp[z])) (λz=>hb (by simp[z])) q)) hf (au _) new
  refine⟨.ref s.heap.objs.size,_,I1,rfl,⟨_,x,rfl,I.hok.fresh (au _),rfl,λys hy=>by rw[I.list_inj hy hq];exact hx⟩,⟨⟨u,?_⟩,hit'.at λo q=>(sb.2 it (cq hne)).trans q,hne⟩,λb hb=>?_⟩
  ·have e1:((i+1:Nat):Int)=(i:Int)+1:=by omega
   rw[e1];exact he'
  ·have hb':b<s.heap.objs.size:=by
    have e':b=e\/b=it:=by simpa using hb
    rcases e' with z|z
    ·rw[z];exact hel
    ·rw[z];exact hil
   rw[AE (cj hb')];exact(hf b hb).1
 done:=by
  intro X hP hw hK hc i Ap s σ H E I hf st hg;subst hP hw hK;obtain⟨⟨old,he⟩,hit,hne⟩:=st;obtain⟨xs,hq,hx⟩:=hg;obtain⟨As,rv,p,hz⟩:=I.list hq;obtain⟨f0,f1,f2,f3,f4,f5⟩:=hf it (by simp);have hl:=rv.length;exact wpAny_pyNext_enum_end (I.ok.hd hc) he hit p.isList (by simp;omega) λh' eb=>⟨rfl,I.turned (t':=s.toks) (λb o hb q=>eb b o hb q) f0 f1 f3 f4 f5⟩
 self:=λA i s Q E st h=>let ⟨⟨_,he⟩,_⟩:=st;lv he h
def l0 (K:aa) (ta:TA):TI:=λσ H R=>ta σ H λvs H1=>Ex2 λa xs=>vs=[.ref a]/\SqL K H1 a xs/\R (Ite K a) H1
theorem LV {X:Cx} {e:Expr} {ta:TA} {p pos tpos:Pos} {elts:List Expr} {kk:Nat} (hg:Gl X "enumerate") (hm:X.mg "enumerate"=none) (ha:PA X [e] ta) (hs:be [e] X.env=[(false,eval e X.env)]:=by rfl):
 PI X (.Tuple elts kk tpos) (.Call (.Name "enumerate" p) [e] [] pos) (l0 X.K ta):=by
 intro Ap s σ H R I h;refine zt (EJ I hg hm vS (dh (thn (ha pos Ap s σ H _ I h) λus s1 ⟨vs,H1,I1,r1,q1⟩=>?_) hs rfl));obtain⟨a,xs,ex,hq,q⟩:=q1;subst ex;cases r1 with
 |cons r rr=>
  cases rr;cases r;obtain⟨As,rv,p',hz⟩:=I1.list hq;refine call_enumerate_list p'.isList λh' he hit hsz hk=>lv he ?_;have I2:Inv X Ap σ H1 { s1 with heap:=h' }:=I1.kept (t':=s1.toks) hk;refine⟨s1.heap.objs.size+1,[s1.heap.objs.size+1,s1.heap.objs.size],_,_,H1,rfl,I2,WX a (s1.heap.objs.size+1) s1.heap.objs.size,⟨⟨.none,he⟩,hit,uT _⟩,λb hb=>?_,q⟩;have e':b=s1.heap.objs.size+1\/b=s1.heap.objs.size:=by simpa using hb
  have hle:s1.heap.objs.size<=b:=by
   rcases e' with z|z
   ·rw[z];exact uU _ _
   ·rw[z];exact au _
  exact I1.fpOk hle (I1.hok.fresh hle)
end L2
section
end
section
namespace TL
open PySem PySem.Builtin PySem.Builtin.Str PySem.StrLaws
abbrev tl (x:Str):List Nat:=x.cps.toList
theorem hJ (x:Str):x.length=(tl x).length:=by simp[tl,Ac]
def pre (S l:List Nat):Bool:=l.take S.length==S
def par (S:List Nat):List Nat->List Nat->Option (List Nat×List Nat)
 |_,[]=>none
 |acc,c::r=>if pre S (c::r)=true then some (acc,(c::r).drop S.length) else par S (acc++[c]) r
theorem LW {S:List Nat} (hS:S≠[]):pre S []=false:=by
 cases S with
 |nil=>exact absurd rfl hS
 |cons s S=>rfl
theorem YU {y:Str} (hy:tl y≠[]):1<=y.length:=by
 have e2:0<(tl y).length:=wg.mpr hy;rw[hJ y];exact e2
end TL
end
namespace L2
open PySem PySem.Spec PyProof.Rows
def BJ (s:dm) (j:Nat):dm:=match s with
 | .ClassDef _ _ _ body _ _ _ _ _ _ _=>body.getD j (.Pass ⟨0,0,0,0⟩)
 |_=>.Pass ⟨0,0,0,0⟩
def DI (s:dm):tV:=match s with
 | .FunctionDef _ a _ _ _ _ _ _ _ _=>a
 |_=>{ posonlyargs:=[],args:=[],vararg:=none,kwonlyargs:=[],kw_defaults:=[],kwarg:=none,defaults:=[] }
def BP (s:dm):List dm:=match s with
 | .FunctionDef _ _ b _ _ _ _ _ _ _=>b
 |_=>[]
def AH (s:dm):jj:=match s with
 | .FunctionDef _ _ _ _ _ _ sc _ _ _=>sc
 |_=>{ kind:=.function,names:=[],isGenerator:=false,isCoroutine:=false }
structure Fun (K:aa) (x qual:Str) (st:dm) (f:ag) (fd:ez):Prop where
 ex:∃(oc:ah) (od:Option ag) (kV doc pm:ah) (an:Option ag) (Av ct:ah) (osl:Array (Option ah)),
  fd=gy x qual (DI st) (BP st) (AH st) .none kV doc pm an Av ct/\K.lookup f=some ⟨oc,od,.func fd,osl⟩/\jb K Av qual=true
 kp:eq K (.ref f)=true
section
variable {P:bb} {w:bv} {K:aa} {mg:Str->Option ah} {base:cr}
theorem Fun.binds {x qual:Str} {st:dm} {f:ag} {fd:ez} {ps:List Str} (F:Fun K x qual st f fd)
 (h:∀(kV doc pm:ah) (an:Option ag) (Av ct:ah) (us:List ah),us.length=ps.length->vP (gy x qual (DI st) (BP st) (AH st) .none kV doc pm an Av ct) ⟨us,[]⟩=pure (ps.zip us)):Binds K fd ps []:=by
 obtain⟨oc,od,kV,doc,pm,an,Av,ct,osl,rfl,lk,hcd⟩:=F.ex;exact .all (h kV doc pm an Av ct)
theorem MU {x qual:Str} {st:dm} {f:ag} {oc:ah} {od an:Option ag} {osl:Array (Option ah)} {kV doc pm Av ct:ah} (l:K.lookup f=some ⟨oc,od,.func (gy x qual (DI st) (BP st) (AH st) .none kV doc pm an Av ct),osl⟩)
 (c:jb K Av qual=true) (k:eq K (.ref f)=true):Fun K x qual st f (gy x qual (DI st) (BP st) (AH st) .none kV doc pm an Av ct):=⟨⟨oc,od,kV,doc,pm,an,Av,ct,osl,rfl,l,c⟩,k⟩
end
theorem MV {A:de} {k:Nat} (hr:Room k A):A.units+1<wQ:=ui (Nat.add_le_add_left (by decide:1<=64) _) hr.units
section
variable {X:Cx}
theorem pv (i:Nat) {x:Str} {pos:Pos} (hN:X.N[i]? =some x:=by rfl) (hv:Vis X.env.scope x:=by first|exact uj rfl|exact xu (uj rfl)|exact xu (xu rfl)) (hd:(x==("__debug__":Str))=false:=by decide)
 (hcd:(x==("__classdict__":Str))=false:=by decide):PE X (.Name x pos) (BO i):=gJ hN hv hd hcd
end
theorem BH {A B:Prop} (h:B):if false=true then A else B:=by
 rw[Ay bu];exact h
theorem BQ {A B:Prop} (h:A):if true=true then A else B:=by
 rw[Ax rfl];exact h
theorem B9 {c A B:Prop} [Decidable c] (h1:c->A) (h2:¬c->B):if c then A else B:=by
 by_cases h:c
 ·rw[Ax h];exact h1 h
 ·rw[Ay h];exact h2 h
theorem l3 {c A B:Prop} [Decidable c] (hc:c) (h:B):if(!decide c)=true then A else B:=by
 rw[decide_eq_true hc];exact BH h
def Same (H H':Hp):Prop:=∀b o,H b=some o->H' b=some o
theorem Same.refl (H:Hp):Same H H:=λ_ _ h=>h
theorem Same.trans {H H1 H2:Hp} (a:Same H H1) (b:Same H1 H2):Same H H2:=λc o h=>b c o (a c o h)
theorem Same.free {H H':Hp} (e:Same H H') {l:ag} (h:H' l=vT):H l=vT:=by
 cases q:H l with
 |none=>rfl
 |some o=>
  rw[e l o q] at h;cases h
theorem Same.seq {K:aa} {H H':Hp} {a:ag} {xs:List V} (e:Same H H') (h:SqL K H a xs):SqL K H' a xs:=by
 rcases h with(h|⟨o,h⟩)|h
 ·exact .inl (.inl (e _ _ h))
 ·exact .inl (.inr ⟨o,e _ _ h⟩)
 ·exact .inr h
theorem UZ {xs:List V} {z:Int} {j:Nat} {v:V} (e:z=(j:Int)) (h:xs[j]? =some v):atI xs z=some v:=by
 rw[e];exact DH h
theorem l4 {α:Type} {l:List α} (hN:l.Nodup) {i j:Nat} {x:α} (a:l[i]? =some x) (b:l[j]? =some x):i=j:=by
 obtain⟨h1,e1⟩:=aw.mp a;obtain⟨h2,e2⟩:=aw.mp b;exact(xj hN).mp (e1.trans e2.symm)
theorem Same.made {H H1:Hp} {x dx C:ag} (nx:H x=vT) (nd:H dx=vT) (k:∀b o,(upd (upd H dx (.own x)) x (.ins C dx [])) b=some o->b≠x->H1 b=some o):Same H H1:=λb o e=>
 k b o (by rw[AE (AG e nx),AE (AG e nd)];exact e) (AG e nx)
end L2
end
section
namespace L2
open PySem PySem.Spec PyProof.Rows
def cxV:Option ag->ah
 |none=>.none
 |some b=>.ref b
def XoO (a C:ag) (dict:Option ag) (tb:ah) (cx:Option ag):HO:=
 .ext λh=>∃vs:Array ah,h.get? a=some ⟨.ref C,dict,.fields vs,#[]⟩/\4<vs.size/\vs[1]? =some tb/\vs[2]? =some (cxV cx)
def XdO (d:ag) (fs:List (Str×V)):HO:=
 .ext λh=>∃mA,h.Ns1 d mA/\(∀f,RelO (fs.lookup f) (mA f))/\ph mA (fs.map (·.1))/\fs.length<=1000
def TbO (T:ag) (fl:ah):HO:=
 .ext λh=>Ex2 λ(o:Obj) (ts:Array ah)=>h.get? T=some o/\o.data= .fields ts/\ts[3]? =some fl
section
variable {P:bb} {w:bv} {H:Hp} {h:cr} {a C d T:ag} {dict cx:Option ag} {tb fl:ah} {fs:List (Str×V)}
theorem YV {vs:Array ah} (e:h.get? a=some ⟨.ref C,dict,.fields vs,#[]⟩) (hs:4<vs.size) (h1:vs[1]? =some tb) (h2:vs[2]? =some (cxV cx)):ObjOk P w H h a (XoO a C dict tb cx):=
 ⟨⟨vs,e,hs,h1,h2⟩,⟨_,e⟩,λg1 g2 ⟨us,q,r⟩ k=>⟨us,k _ q,r⟩⟩
theorem eY {mA:Str->Option ah} (n:h.Ns1 d mA) (r:∀f,RelO (fs.lookup f) (mA f)) (wi:ph mA (fs.map (·.1))) (z:fs.length<=1000):ObjOk P w H h d (XdO d fs):=by
 obtain⟨o,es,ep,e,q⟩:=id n;refine⟨⟨mA,n,r,wi,z⟩,⟨o,e⟩,λg1 g2 ⟨mB,⟨o1,es1,ep1,e1,q1⟩,y⟩ k=>⟨mB,⟨o1,es1,ep1,k _ e1,q1⟩,y⟩⟩
theorem eZ {o:Obj} {ts:Array ah} (e:h.get? T=some o) (hd:o.data= .fields ts) (h3:ts[3]? =some fl):ObjOk P w H h T (TbO T fl):=
 ⟨⟨o,ts,e,hd,h3⟩,⟨o,e⟩,λg1 g2 ⟨o1,ts1,e1,q1⟩ k=>⟨o1,ts1,k _ e1,q1⟩⟩
theorem CG (ok:HOk P w H h) (e:H a=some (XoO a C dict tb cx)):∃vs:Array ah,h.get? a=some ⟨.ref C,dict,.fields vs,#[]⟩/\4<vs.size/\vs[1]? =some tb/\vs[2]? =some (cxV cx):=
 (ok a _ e).1
theorem YW (ok:HOk P w H h) (e:H d=some (XdO d fs)):∃mA,h.Ns1 d mA/\(∀f,RelO (fs.lookup f) (mA f))/\ph mA (fs.map (·.1))/\fs.length<=1000:=
 (ok d _ e).1
theorem SV (ok:HOk P w H h) (e:H T=some (TbO T fl)):Ex2 λ(o:Obj) (ts:Array ah)=>h.get? T=some o/\o.data= .fields ts/\ts[3]? =some fl:=
 (ok T _ e).1
end
structure XAt (H:Hp) (a C:ag) (fs:List (Str×V)) (cx:Option ag) (tb:ah):Prop where
 at_:∃d,d≠a/\H a=some (XoO a C (some d) tb cx)/\H d=some (XdO d fs)
def U0 (H:Hp) (a C:ag) (fs:List (Str×V)) (cx:Option ag):Prop:=
 XAt H a C fs cx .none\/Ex2 λT d=>T≠a/\T≠d/\d≠a/\H a=some (XoO a C (some d) (.ref T) cx)/\H d=some (XdO d fs)/\H T=some (TbO T .none)
def Noted (H:Hp) (a C:ag) (fs:List (Str×V)) (cx:Option ag) (fl:ah):Prop:=
 Ex2 λT d=>T≠a/\T≠d/\d≠a/\H a=some (XoO a C (some d) (.ref T) cx)/\H d=some (XdO d fs)/\H T=some (TbO T fl)
theorem Noted.loose {H:Hp} {a C:ag} {fs:List (Str×V)} {cx:Option ag} (n:Noted H a C fs cx .none):U0 H a C fs cx:=.inr n
section
variable {X:Cx} {Ap:List (ag×Obj)} {σ:St} {H:Hp} {s:aj} {a C d T:ag} {dict cx:Option ag} {tb fl:ah} {fs:List (Str×V)} {E:ah->aj->Prop} {A:de}
theorem Inv.slots {h':cr} (I:Inv X Ap σ H s) (x:Heap.SlotsOnly (frs X.stack) s.heap h'):Inv X Ap σ H { s with heap:=h' }:=by
 have hk:∀b o,H b=some o->b∉frs X.stack:=λb o e z=>by
  rw[I.stkFree b z] at e;cases e
 refine I.call (g':=s.gens) (d':=s.drawn) (t':=s.toks) (ch:=[]) ⟨λb o e _ hb _=>(x.2.1 b hb).trans e,λb o e _ _ _=>x.2.2 b o e,λ_ _ _ n _=>n,λb o e _=>let ⟨sl,q⟩:=x.2.2 b o e;⟨_,q⟩,λ_ _ e=>e,λ_ _ _ e=>e,λb ps e=>⟨#[],by rw[e];simp⟩⟩
  (λb o e=>(I.hok b o e).stay (λc u hc q=>?_) (λ_ q=>q) λ_ _ q=>q) I.bare (λ_ z=>nomatch z)
 rcases hc with rfl|hc
 ·exact(x.2.1 c (hk c o e)).trans q
 ·exact(x.2.1 c (hk c _ hc)).trans q
theorem JC {vs:Array ah} {i:Nat} {v tb':ah} {cx':Option ag} (I:Inv X Ap σ H s) (e:H a=some (XoO a C dict tb cx)) (q:s.heap.get? a=some ⟨.ref C,dict,.fields vs,#[]⟩) (z:4<vs.size)
 (h1:(vs.setIfInBounds i v)[1]? =some tb') (h2:(vs.setIfInBounds i v)[2]? =some (cxV cx')):
 Inv X Ap σ (upd H a (XoO a C dict tb' cx')) { s with heap:=s.heap.update a (on (·.setIfInBounds i v)) }:=by
 have e2:(s.heap.update a (on (·.setIfInBounds i v))).get? a=some ⟨.ref C,dict,.fields (vs.setIfInBounds i v),#[]⟩:=iw _ q rfl;exact I.write (x:=a) (e:=a) (t':=s.toks) (by rw[e];exact je) (.inl rfl) (λb u hb r=>(kg _ _ (cq hb)).trans r) ⟨_,e2⟩
  (YV e2 (by rw[Array.size_setIfInBounds];exact z) h1 h2)
theorem Q6 {v:ah} {o:Obj} {ts:Array ah} (I:Inv X Ap σ H s) (e:H T=some (TbO T fl)) (q:s.heap.get? T=some o) (hd:o.data= .fields ts) (h3:ts[3]? =some fl):
 Inv X Ap σ (upd H T (TbO T v)) { s with heap:=s.heap.update T (on (·.setIfInBounds 3 v)) }:=by
 have hz:3<ts.size:=(kr.mp h3).1;have hd':=ny hd (·.setIfInBounds 3 v);have e2:(s.heap.update T (on (·.setIfInBounds 3 v))).get? T=some (o.mapFields (·.setIfInBounds 3 v)):=iw _ q (sQ hd');exact I.write (x:=T) (e:=T) (t':=s.toks) (by rw[e];exact je) (.inl rfl) (λb u hb r=>(kg _ _ (cq hb)).trans r) ⟨_,e2⟩
  (eZ e2 hd' (by simp[hz]))
theorem EZ {fr:Option ag} {Q:Unit->aj->Prop} (I:Inv X Ap σ H s) (n:Noted H a C fs cx fl)
 (h:∀H' s',Inv X Ap σ H' s'->Noted H' a C fs cx (fr.elim .none λf=>fy f)->Q () s'):bf (bi X.prog X.w) A (uV (.ref a) fr) Q E s:=by
 obtain⟨T,d,n1,n2,n3,ea,ed,et⟩:=n;obtain⟨vs,q,z,h1,h2⟩:=CG I.hok ea;obtain⟨o,ts,qt,hd,h3⟩:=SV I.hok et;unfold uV;refine ae (im q rfl h1 ?_);rw[Ax (show(cb T != il)=true from by simp)];refine ji qt hd (kr.mp h3).1 (h _ _ (Q6 I et qt hd h3) ⟨T,d,n1,n2,n3,?_,?_,upd_same⟩)
 ·rw[AE (cq n1)];exact ea
 ·rw[AE (cq n2)];exact ed
theorem Q7 {L:ag} {head:ah} {had:Bool} {Q:Unit->aj->Prop} (hst:X.stack=X.env::X.outer) (hf:X.env.frame=some L) (hfr:A.frames=some X.stack) (I:Inv X Ap σ H s)
 (dn:d≠a) (ea:H a=some (XoO a C (some d) tb cx)) (ed:H d=some (XdO d fs))
 (h:∀H' s',Inv X Ap σ H' s'->Noted H' a C fs cx (fy L)->Q () s'):
 bf (bi X.prog X.w) A (do yx (.ref a) 1 (←wj head (←frameOf X.env) .none (fy L) .none (←entryPlaceOf L had))) Q E s:=by
 have fun1:s.heap.FunFrames X.base (X.env::X.outer):=by rw[←hst];exact I.stack
 refine ae (wpAny_frameOf_fun (base:=X.base) (outer:=X.outer) (by rw[←hst];exact hfr) fun1 hf λh1 hs1=>?_);have I1:Inv X Ap σ H { s with heap:=h1 }:=I.slots (by rw[hst];exact hs1);refine ae (wpAny_entryPlaceOf λpl hpl=>?_);unfold wj newFields;refine ae (gc ?_ (hpl.sizeOk5 _ _ _ _ _));have et:∀t0:Obj,t0={ cls:=.type "traceback",dict:=none,data:=.fields ([head,.ref L,.none,fy L,.none]++(if pl.isEmpty then ym 6 il else pl)).toArray }->(h1.push t0).get? h1.objs.size=some t0:=λt0 z=>by
  subst z;exact bg h1 rfl
 have I2:=I1.laid (a:=h1.objs.size) (o:=TbO h1.objs.size (fy L)) (t':=s.toks) (λb u q=>ak _ q) (au _)
  (eZ (et _ rfl) rfl (by first|(simp;done)|(rcases hpl with rfl|⟨_,_,_,_,_,_,_,rfl⟩<;>simp)))
 have nT:H h1.objs.size=none:=I1.hok.fresh (au _);have na:h1.objs.size≠a:=cq (AG ea nT);have nd:h1.objs.size≠d:=cq (AG ed nT);have ea2:(upd H h1.objs.size (TbO h1.objs.size (fy L))) a=some (XoO a C (some d) tb cx):=by rw[AE (cq na)];exact ea
 obtain⟨vs,q,z,q1,q2⟩:=CG I2.hok ea2;have hz1:1<vs.size:=nw (by decide) z;have I3:=JC (i:=1) (v:=.ref h1.objs.size) (tb':=.ref h1.objs.size) (cx':=cx) I2 ea2 q z (by simp[hz1]) (by rw[gg (by decide)];exact q2);refine ji q rfl hz1 (h _ _ I3 ⟨h1.objs.size,d,na,nd,dn,upd_same,?_,?_⟩)
 ·rw[AE dn,AE (cq nd)];exact ed
 ·rw[AE na,upd_same]
theorem PP {L:ag} {Q:Unit->aj->Prop} (hst:X.stack=X.env::X.outer) (hf:X.env.frame=some L) (hfr:A.frames=some X.stack) (I:Inv X Ap σ H s) (n:U0 H a C fs cx)
 (h:∀H' s',Inv X Ap σ H' s'->Noted H' a C fs cx (fy L)->Q () s'):bf (bi X.prog X.w) A (uS (.ref a) X.env) Q E s:=by
 rcases n with⟨d,dn,ea,ed⟩|⟨T,d,n1,n2,n3,ea,ed,et⟩
 ·obtain⟨vs,q,z,h1,h2⟩:=CG I.hok ea;unfold uS;simp only[hf];refine ae (im q rfl h1 ?_);rw[Ay (by decide)];exact Q7 hst hf hfr I dn ea ed h
 ·obtain⟨vs,q,z,h1,h2⟩:=CG I.hok ea;obtain⟨o,ts,qt,hd,h3⟩:=SV I.hok et;unfold uS;simp only[hf];refine ae (im q rfl h1 ?_);rw[Ax (show(cb T != il)=true from by simp)];refine ae (im qt hd h3 ?_);rw[Ay (show¬((il==fy L)=true) from by simp[fy])];refine ae (ji qt hd (kr.mp h3).1 ?_);exact Q7 hst hf hfr (Q6 I et qt hd h3) n3 (by rw[AE (cq n1)];exact ea) (by rw[AE (cq n2)];exact ed) h
theorem IN {L:ag} {Q:Unit->aj->Prop} (hf:X.env.frame=some L) (I:Inv X Ap σ H s) (n:Noted H a C fs cx (fy L)) (h:Q () s):bf (bi X.prog X.w) A (uS (.ref a) X.env) Q E s:=by
 obtain⟨T,d,n1,n2,n3,ea,ed,et⟩:=n;obtain⟨vs,q,z,h1,h2⟩:=CG I.hok ea;obtain⟨o,ts,qt,hd,h3⟩:=SV I.hok et;exact wpAny_noteFrame_inFlight hf q rfl h1 qt hd h3 h
theorem Q8 {L:ag} {Q:Unit->aj->Prop} (hst:X.stack=X.env::X.outer) (hf:X.env.frame=some L) (hfr:A.frames=some X.stack) (I:Inv X Ap σ H s) (n:U0 H a C fs cx\/Noted H a C fs cx (fy L))
 (h:∀H' s',Inv X Ap σ H' s'->Noted H' a C fs cx .none->Q () s'):bf (bi X.prog X.w) A (leaving X.env (.ref a)) Q E s:=by
 unfold leaving;rcases n with n|n
 ·exact ae (PP hst hf hfr I n λH1 s1 I1 n1=>EZ I1 n1 h)
 ·exact ae (IN hf I n (EZ I n h))
end
def xH (fs:List (Str×V)):Hp:=λb=>if b=0 then some (.xd fs) else none
theorem YX {fs gs:List (Str×V)} (e:xH fs=xH gs):fs=gs:=by
 have q:=congrFun e 0;simp only[xH,if_true] at q;injection q with q;injection q
def CX1 (P:bb) (w:bv):CXT:=λouter H s E e s'=>Ex5 λa C fs cx H'=>e= .ref a/\s'.os=s.os/\ve s'.gens/\Un (frs outer) [] H H' s.heap s'.heap/\HOk P w H' s'.heap/\Noted H' a C fs cx .none/\E (.ref C) cx (xH fs)
def l6 (X:Cx) (H:Hp) (a C:ag) (fs:List (Str×V)) (cx:Option ag):Prop:=U0 H a C fs cx\/∃L,X.env.frame=some L/\Noted H a C fs cx (fy L)
def Out (X:Cx) (E:XK):Prop:=∀(Ap:List (ag×Obj)) (σ:St) (H:Hp) (s:aj) (a C:ag) (fs:List (Str×V)) (cx:Option ag),Inv X Ap σ H s->l6 X H a C fs cx->E (.ref C) cx (xH fs)->X.xe (.ref a) s
theorem Out.passes {X:Cx} {E:XK} (o:Out X E):D7 (CX1 X.prog X.w) X E:=by
 intro Ap σ H s e s' I ⟨a,C,fs,cx,H',he,os,bare,un,hok,n,q⟩;subst he;exact o Ap σ H' s' a C fs cx (I.call' os un hok bare (λ_ z=>nomatch z)) (.inl n.loose) q
theorem AD {P:bb} {w:bv} {K:aa} {mg:Str->Option ah} {base:cr} {N:List Str} {qual:Str} {scope:jj} {f:ag} {cd:ah} {A:de} {outer:List Env} {s:aj} {H:Hp} {E:XK}:
 Out (NY (CX1 P w) P w K mg base N qual scope f cd A outer s H E) E:=by
 intro Ap σ H1 s1 a C fs cx I n q;refine Q8 (C:=C) (fs:=fs) (cx:=cx) (L:=s.heap.objs.size) rfl rfl I.ok.frames I ?_ λH' s' I' n'=>?_
 ·rcases n with n|⟨L,e,n⟩
  ·exact .inl n
  ·have e':s.heap.objs.size=L:=cw e;subst e';exact .inr n
 ·exact⟨a,C,fs,cx,H',rfl,I'.os,I'.bare,I'.base,I'.hok,n',q⟩
end L2
end
section
namespace L2
open PySem PySem.Spec PyProof.Rows PySem.W
open Builtin Builtin.ObjectAttr
def JD:List ah->Bool
 | .ref _::r=>JD r
 |l=>l==[.type "ValueError",.type "Exception",.type "BaseException",.type "object"]
theorem MW (self:ah):∀{l:List ah},JD l=true->refuseLoop self "__setattr__" l=pure ():=by
 intro l;induction l with
 |nil=>intro e;cases e
 |cons c r ih=>
  intro e;cases c with
  |ref q=>rw[refuseLoop_ref];exact ih e
  |type n=>
   have q:(jd n::r)=[.type "ValueError",.type "Exception",.type "BaseException",.type "object"]:=eq_of_beq e;rw[q];exact PySem.F.store_ValueError.passes self
  |_=>exact absurd e (by intro z;exact nomatch (wt (eq_of_beq z)).1)
theorem K3 {T:ah} (hT:[.type "ValueError",.type "Exception",.type "BaseException",.type "object"].contains T=true):∀{l:List ah},JD l=true->l.contains T=true:=by
 intro l;induction l with
 |nil=>intro e;cases e
 |cons c r ih=>
  intro e;cases c with
  |ref q=>rw[nz,ih e,wU]
  |type n=>
   have q:(jd n::r)=[.type "ValueError",.type "Exception",.type "BaseException",.type "object"]:=eq_of_beq e;rw[q];exact hT
  |_=>exact absurd e (by intro z;exact nomatch (wt (eq_of_beq z)).1)
theorem MX:∀{l:List ah},JD l=true->l.isEmpty=false
 |[],e=>nomatch e
 |_::_,_=>rfl
structure XCls (K:Frag) (C:ag):Prop where
 tail:(clsIn K C).any (λcd=>JD cd.mro)=true
 hd:hasDictIn K C=true
 sa:findIn K (.ref C) "__setattr__"=some (some (.builtin "object.__setattr__"))
 ga:findIn K (.ref C) "__getattribute__"=some (some (.builtin "BaseException.__getattribute__"))
 gn:findIn K (.ref C) "__getattr__"=some none
 cls:typeIn K (.ref C)=some (.type "type")
section
variable {prog:bb} {w:bv} {A:de} {E:ah->aj->Prop} {s:aj} {K:Frag} {a C:ag} {ox:Obj} {od:Option Obj} {name:Str} {v:ah}
theorem l7 {M:xL} {h:cr} {T:ah} (X:K.In h) (c:XCls K C) (I:InstAt h a ox C od) (hT:[.type "ValueError",.type "Exception",.type "BaseException",.type "object"].contains T=true):
 Looks M h (yy (.ref a) T) true:=by
 obtain⟨cd,hc,ht⟩:=any_some c.tail;exact I.type.andThen (looks_mroIn X (by unfold mroIn;rw[hc,xw,Ay (by rw[MX ht];decide),K3 hT ht]))
theorem YY {R:xq->aj->Prop} {tk:Tok} (X:K.In s.heap) (c:XCls K C) (I:InstAt s.heap a ox C od) (hn:findIn K (.ref C) name=some none)
 (h:bf (bi prog w) A.in1 (storeInOwnDict (.ref a) (.ref C) (.str name tk) name v false)
  (λfin s'=>match fin with| .done f=>R (.ok f) s'| .again c'=>c'.quiet=true/\mr (bi prog w) A c' R s') (λe s'=>R (.error e) s') s):
 mr (bi prog w) A (.call (.builtin "object.__setattr__") ⟨[.ref a,.str name tk,v],[]⟩) R s:=by
 have SF:=PySem.F.store_object;obtain⟨cd,hc,ht⟩:=any_some c.tail;refine vU SF.slot.plain SF.entry (@check_slot (bi prog w) _ _ s "object.__setattr__" "object" "__setattr__" (.ref a) [.str name tk,v] [] _ SF.kind SF.split (l7 X c I (by decide)) (SF.args (.ref a) (.str name tk) v) ?_);have hm:Looks (bi prog w) s.heap (mroOf (.ref C)) cd.mro:=(looks_clsIn X hc).andThen .now;rw[osa_eq,refuse_eq];refine ae (ae (I.type.here (ae (hm.here ?_))));rw[MW _ ht];refine ao (ae (I.type.here (ae ((looks_findIn X hn).here (ae ?_)))));exact(show Looks (bi prog w) s.heap (storeTaker? none) none from .now).here h
theorem l8 {vs:Array ah} {Q:Unit->aj->Prop} (X:K.In s.heap) (c:XCls K C) (ha:s.heap.get? a=some ⟨.ref C,none,.fields vs,#[]⟩) (hn:findIn K (.ref C) name=some none)
 (h:∀h':cr,h'.get? a=some ⟨.ref C,some s.heap.objs.size,.fields vs,#[]⟩->h'.Ns1 s.heap.objs.size (λy=>if y=name then some v else none)->(∀b o,b≠a->s.heap.get? b=some o->h'.get? b=some o)->
  Q () { s with heap:=h',toks:=s.toks+2 }):
 bf (bi prog w) A (zA (.ref a) name v) Q E s:=by
 have I:InstAt s.heap a ⟨.ref C,none,.fields vs,#[]⟩ C none:=⟨ha,rfl,rfl,je⟩
 refine set_plain X I c.sa (YY (s:={ s with toks:=s.toks+1 }) X c I hn ?_);obtain⟨cd,hc,hd'⟩:=any_some c.hd;unfold storeInOwnDict yz ownDictForStores instanceDict;refine ae (ao (ae (ae (vO ha (ae (nj (s:={ s with toks:=s.toks+1 }) (looks_clsIn X hc) ?_))))));rw[hd'];simp only[Bool.not_true,fu,if_false,typeHasDict,Bool.or_self];have hxs:a≠s.heap.objs.size:=cj (bh ha);have ha1:(s.heap.push { cls:=.type "dict",data:=.dict #[] }).get? a=some ⟨.ref C,none,.fields vs,#[]⟩:=ak _ ha;refine ae (wpAny_alloc (ae (wpAny_update ha1 ?_)));have hgd:((s.heap.push { cls:=.type "dict",data:=.dict #[] }).update a λo=>{ o with dict:=some s.heap.objs.size }).get? s.heap.objs.size=some { cls:=.type "dict",data:=.dict #[] }:=
  (ms _ _ _ _ hxs.symm).trans (Heap.get?_push_at rfl rfl)
 have hga:((s.heap.push { cls:=.type "dict",data:=.dict #[] }).update a λo=>{ o with dict:=some s.heap.objs.size }).get? a=some ⟨.ref C,some s.heap.objs.size,.fields vs,#[]⟩:=iw _ ha1 rfl;have hnd:((s.heap.push { cls:=.type "dict",data:=.dict #[] }).update a λo=>{ o with dict:=some s.heap.objs.size }).Ns s.heap.objs.size (λ_=>none):=
  ⟨_,#[],_,hgd,rfl,λe he=>absurd he (by simp),λ_=>rfl⟩
 refine ao ?_;show bf _ _ (storeInDict s.heap.objs.size (.str name s.toks) name v) _ _ _;unfold storeInDict newKeyGuard;refine ae (ao (ae (wO (wP hnd) λh' hn' hs=>?_)));obtain⟨oD,esD,epD,hoD,hdD,hcD⟩:=hn'.count (uy name v Aj);refine ae (uP hoD (by rw[hdD];exact uQ (cy hcD (by rw[dc,List.length_nil,bw];omega))) ?_);refine ao (h h' ((hs.2 a hxs).trans hga) hn' λb o hb e=>?_);exact(hs.2 b (cj (bh e))).trans ((ms _ _ _ _ hb).trans (ak _ e))
theorem l9 {vs:Array ah} {d:ag} {mA:Str->Option ah} {ns:List Str} {Q:Unit->aj->Prop} (X:K.In s.heap) (c:XCls K C) (ha:s.heap.get? a=some ⟨.ref C,some d,.fields vs,#[]⟩) (hm:s.heap.Ns1 d mA) (hda:d≠a)
 (hn:findIn K (.ref C) name=some none) (hw:ph mA ns) (hsz:ns.length<=sizeLine)
 (h:∀h':cr,h'.Ns1 d (λy=>if y=name then some v else mA y)->pp d s.heap h'->Q () { s with heap:=h',toks:=s.toks+2 }):
 bf (bi prog w) A (zA (.ref a) name v) Q E s:=by
 obtain⟨od,ho,_⟩:=JZ hm;have I:InstAt s.heap a ⟨.ref C,some d,.fields vs,#[]⟩ C (some od):=⟨ha,rfl,rfl,ho⟩
 refine set_plain X I c.sa (YY (s:={ s with toks:=s.toks+1 }) X c I hn ?_);obtain⟨cd,hc,hd'⟩:=any_some c.hd;unfold storeInOwnDict yz ownDictForStores instanceDict;refine ae (ao (ae (ae (vO ha (ae (nj (s:={ s with toks:=s.toks+1 }) (looks_clsIn X hc) ?_))))));rw[hd'];refine ao (a:=some d) ?_;show bf _ _ (storeInDict d (.str name s.toks) name v) _ _ _;unfold storeInDict newKeyGuard;refine ae (ao (ae (wO (s:={ s with toks:=s.toks+1 }) hm λh' hn2 hs2=>?_)));obtain⟨oD,esD,epD,hoD,hdD,hcD⟩:=hn2.count (uy name v hw);refine ae (uP hoD (by rw[hdD];exact uQ (cy hcD (by rw[dc];omega))) ?_);exact ao (h _ hn2 hs2)
theorem SW:(sZ "BaseException.__getattribute__"==sZ "object.__getattribute__")=false:=by decide +kernel
theorem WY:builtinKind "BaseException.__getattribute__"=some .slot:=by decide +kernel
theorem SX:splitId "BaseException.__getattribute__"=some ("BaseException","__getattribute__"):=by decide +kernel
theorem rZ {vs:Array ah} {d:ag} {mA:Str->Option ah} {expr:Bool} {Q:ah->aj->Prop} (X:K.In s.heap) (c:XCls K C) (ha:s.heap.get? a=some ⟨.ref C,some d,.fields vs,#[]⟩) (hm:s.heap.Ns1 d mA)
 (hn:findIn K (.ref C) name=some none) (hv:mA name=some v) (hh:handedIn v=true) (h:Q v { s with toks:=s.toks+1 }):
 bf (bi prog w) A (zz (.ref a) name expr) Q E s:=by
 obtain⟨od,ho,hl⟩:=JZ hm;have I:InstAt s.heap a ⟨.ref C,some d,.fields vs,#[]⟩ C (some od):=⟨ha,rfl,rfl,ho⟩
 have hf:findObj K C (some od) name=some (.value v):=findObj_own c.hd hn rfl (by rw[hl,hv]);have hb:Looks (bi prog w) s.heap (hookBefore (.ref C)) none:=looks_hook X (by rw[Ax (show zu (cb C)=true from rfl)];exact c.gn);refine ae (wpAny_mkText (ij (ae (I.type _ _ _ _ (λ_ _ e=>e) (ae (looks_findIn X c.ga _ _ _ _ (λ_ _ e=>e) ?_))))));dsimp only;rw[show(zu (cb C)&&sZ "BaseException.__getattribute__"==sZ "object.__getattribute__")=false from by rw[SW,vR],Ay (by decide)];refine ae (hb _ _ _ _ (λ_ _ e=>e) (ae (uH (ij ?_))));unfold callGetattribute;rw[show(expr&&zu (sZ "BaseException.__getattribute__"))=false from vR _,Ay (by decide)];unfold boundAndCalled;rw[uW.ga.bind];refine ae (ao ?_);show bf _ _ (call (.builtin "BaseException.__getattribute__") [.ref a,.str name s.toks]) _ _ _;refine sU ?_;refine vU uW.ga.plain PySem.F.entry_bexc_ga ?_;refine @check_slot (bi prog w) _ _ { s with toks:=s.toks+1 } "BaseException.__getattribute__" "BaseException" "__getattribute__" (.ref a) [.str name s.toks] [] _ WY SX (l7 X c I (by decide)) (PySem.F.args_bexc_ga (.ref a) (.str name s.toks)) ?_;have L1:=looks_find (M:=bi prog w) X I hf;refine ae (ao (ae (ao (ae (nj (s:={ s with toks:=s.toks+1 }) I.type (ae (nj (s:={ s with toks:=s.toks+1 }) L1 ?_)))))));refine ao ?_;show bf _ _ (handedOut v) _ _ _;rw[handedOut_of hh];exact ao h
end
end L2
end
section
namespace L2
open PySem PySem.Spec PyProof.Rows PySem.W
open Builtin Builtin.ObjectAttr
def G5 (K:Frag) (C:ag):Bool:=match K.lookup C with
 |some ⟨.type "type",_,.cls cd,sl⟩=>(match cd.mro,sl.toList with
  | .ref C'::bm,[_,_,_,_,some (.builtin n),_]=>C'==C&&!cd.hasDel&&n=="ValueError.__new__"&&bm.contains (.type "ValueError")&&!(bm.contains (.type "AttributeError"))&&!(bm.contains (.type "NameError"))
  |_,_=>false)
 |_=>false
theorem WZ {K:Frag} {h:cr} {C:ag} (X:K.In h) (q:G5 K C=true):∃nm qn N bs bm hdct sn sub ab col dd k0 k1 k2 k3 k5,
 h.get? C=some (xO nm qn C N bs bm hdct sn sub ab col dd k0 k1 k2 k3 k5 "ValueError.__new__")/\bm.contains (.type "ValueError")=true/\bm.contains (.type "AttributeError")=false/\bm.contains (.type "NameError")=false:=by
 unfold G5 at q;split at q
 ·rename_i dd cd sl ho;split at q
  ·rename_i C' bm k0 k1 k2 k3 n k5 hm hs;simp only[km,beq_iff_eq,Bool.not_eq_true'] at q;obtain⟨⟨⟨⟨⟨rfl,hdel⟩,rfl⟩,hb⟩,ha⟩,hn⟩:=q;obtain⟨nm,bs,mro,ns,qn,hd,sn,sub,ab,col,del⟩:=cd;dsimp only at hm hdel;subst hm hdel;have hsl:sl=#[k0,k1,k2,k3,some (.builtin "ValueError.__new__"),k5]:=by
    obtain⟨l⟩:=sl;simp only at hs;rw[hs]
   subst hsl;exact⟨nm,qn,ns,bs,bm,hd,sn,sub,ab,col,dd,k0,k1,k2,k3,k5,X _ _ ho,hb,ha,hn⟩
  ·cases q
 ·cases q
abbrev LD (C t:ag):Obj:={ cls:=.ref C,data:=.fields #[.ref t,.none,.none,.none,.bool false,.none] }
abbrev GA (vs:List ah):Obj:={ cls:=.type "tuple",data:=.seq vs.toArray }
section
variable {prog:bb} {w:bv} {A:de} {E:ah->aj->Prop} {h:cr} {g:Array GenState} {dr:Drawn} {t:Nat} {os:OsState} {R:xq->aj->Prop}
variable {nm q:Str} {C N:ag} {bs bm:List ah} {hdct:Bool} {sn:List Str} {sub:List ah} {ab:Bool} {col:Option Bool} {dd:Option ag} {k0 k1 k2 k3 k5:Option ah} {Aq:List ah}
theorem SY {M:xL} {Q:Unit->aj->Prop} (hC:h.get? C=some (xO nm q C N bs bm hdct sn sub ab col dd k0 k1 k2 k3 k5 "ValueError.__new__")) (hB:bm.contains (.type "ValueError")=true)
 (hq:Q () ⟨h,g,dr,t,os⟩):bf M A (xx "ValueError.__new__" ⟨.ref C::Aq,[]⟩) Q E ⟨h,g,dr,t,os⟩:=by
 have F:=pd;have hcont:(cb C::bm).contains (.type "ValueError")=true:=by rw[nz,hB,wU]
 have hstar:=F.noStar;simp only[xx,F.newKind,F.newSplit,F.newRow];repeat (first|refine sJ hC ?_|(refine tP hC ?_;rw[hcont])|refine wpAny_staticBase_exc hC ?_|refine xy hC ?_|simp only[bne_self_eq_false,fu,if_false]|wp_step)
 exact hq
theorem YZ (hC:h.get? C=some (xO nm q C N bs bm hdct sn sub ab col dd k0 k1 k2 k3 k5 "ValueError.__new__")) (hB:bm.contains (.type "ValueError")=true) (hA:bm.contains (.type "AttributeError")=false)
 (hN:bm.contains (.type "NameError")=false) (hrest:Aq.length<=sizeLine)
 (hq:R (.ok (.ret (.ref (h.objs.size+1)))) ⟨(h.push (GA Aq)).push (LD C h.objs.size),g,dr,t,os⟩):
 mr (bi prog w) A (.builtin "ValueError.__new__" ⟨.ref C::Aq,[]⟩) R ⟨h,g,dr,t,os⟩:=by
 have F:=pd;have hends:=F.ends;have hcB:(cb C::bm).contains (.type "ValueError")=true:=by rw[nz,hB,wU]
 have hcA:(cb C::bm).contains (.type "AttributeError")=false:=by rw[nz,hA];rfl
 have hcN:(cb C::bm).contains (.type "NameError")=false:=by rw[nz,hN];rfl
 refine codeAny_builtinAt F.entry ?_;unfold uz.«BaseException.__new__»;refine xW ?_;show PySem.wpAt _ _ _ (stack >>= _) _ _ _;refine xW (PySem.wpAt_stack λp below=>wk ?_)
 wp_walk
 refine wk ?_;rw[F.owner];repeat (first|with_reducible refine wpAny_madeHere_exc F.canon hC ?_|with_reducible refine sJ hC ?_|(with_reducible refine tP hC ?_;first|rw[hcB]|rw[hcA]|rw[hcN])|wp_step)
 show R _ _;rw[fk];exact hq
theorem SZ {K:Frag} {f:ag} (X:K.In h) (hx:G5 K C=true) (hi:findIn K (.ref C) "__init__"=some (some (.ref f))) (hf:typeIn K (.ref f)=some (.type "function")) (hrest:Aq.length<=sizeLine)
 (hq:mr (bi prog w) (A.under (.builtin "type.__call__" ⟨.ref C::Aq,[]⟩)) (.call (.ref f) ⟨.ref (h.objs.size+1)::Aq,[]⟩) (InitBack (h.objs.size+1) R)
  ⟨(h.push (GA Aq)).push (LD C h.objs.size),g,dr,t,os⟩):
 mr (bi prog w) A (.call (.ref C) ⟨Aq,[]⟩) R ⟨h,g,dr,t,os⟩:=by
 obtain⟨nm,q,N,bs,bm,hdct,sn,sub,ab,col,dd,k0,k1,k2,k3,k5,hC,hB,hA,hN⟩:=WZ X hx;have f1:=tc_lookup;have f2:=tc_bind (.ref C);have hT:(⟨h,g,dr,t,os⟩:aj).TypeIs (.ref C) "type":=⟨_,hC,rfl⟩
 refine codeAny_of_tree ?_;show bf _ _ (callAny (.ref C) _) _ _ _;repeat (any_goals (first|assumption|with_reducible refine sJ hC ?_|wp_step))
 refine⟨rfl,?_⟩;refine codeAny_call_builtin_at (wD _ (by decide +kernel)) entry_typeCall (wpAny_check_type_call_sub hC ?_);unfold uz.«type.__call__»;repeat (first|with_reducible refine sJ hC ?_|with_reducible refine xy hC ?_|wp_step)
 refine codeAny_call_builtin_code (wD _ pd.quiet) (SY (Aq:=Aq) hC hB ?_);refine YZ (Aq:=Aq) hC hB hA hN hrest ?_;show bf _ _ _ _ _ _;have k:∀b o,h.get? b=some o->((h.push (GA Aq)).push (LD C h.objs.size)).get? b=some o:=λb o e=>ak _ (ak _ e);have hC1:=k _ _ hC;have hg:((h.push (GA Aq)).push (LD C h.objs.size)).get? (h.objs.size+1)=some (LD C h.objs.size):=by heap_get
 have hcC:(cb C::bm).contains (.ref C)=true:=by simp
 have i1:Looks (bi prog w) ((h.push (GA Aq)).push (LD C h.objs.size)) (vi (.ref C) "__init__") (some (.ref f)):=looks_findIn (X.keeps k) hi;have b1:Looks (bi prog w) ((h.push (GA Aq)).push (LD C h.objs.size)) (bindSpecial (.ref f) (.ref (h.objs.size+1))) (.ref f,[.ref (h.objs.size+1)]):=bind_fn (X.keeps k) _ hf;have t1:Looks (bi prog w) ((h.push (GA Aq)).push (LD C h.objs.size)) (yq (.ref (h.objs.size+1))) (.ref C):=(sX hg).andThen .now;have s1:Looks (bi prog w) ((h.push (GA Aq)).push (LD C h.objs.size)) (isSubtype (.ref C) (.ref C)) true:=λA' Q' E' s' k' q'=>by
  obtain⟨h2,g2,d2,u2,o2⟩:=s';exact tP (k' _ _ hC1) (by rw[hcC];exact q')
 unfold yy callSpecial? specialOf;repeat (first|with_reducible refine sU ?_|lk)
 refine nk hq λr s' z=>?_;rcases r with e|(v|_|_|_)<;>first|exact z|exact z.elim|skip
 obtain⟨rfl,z⟩:=z;exact ao (ao z)
end
end L2
end
section
namespace L2
open PySem PySem.Spec PyProof.Rows
abbrev Cx.re (X:Cx) (A:de) (calm:Bool) (E:ah->aj->Prop):Cx:={ X with A:=A,calm:=calm,xe:=E }
abbrev Cx.tr (X:Cx) (pn:List (ag×Obj)) (E:ah->aj->Prop):Cx:={ X with pn:=pn,xe:=E }
theorem Cx.Ok.re {X:Cx} {A:de} {calm:Bool} {E:ah->aj->Prop} (ok:X.Ok) (hf:A.frames=some X.stack) (hd:calm=true->A.handled=none):(X.re A calm E).Ok:=
 ⟨ok.mod,ok.kind,ok.glob,ok.blt,ok.above,ok.inj,ok.has,ok.cab,hd,hf,ok.stk,ok.exf,ok.bs,ok.bsz,ok.noex,ok.exfs,ok.funs,ok.frf⟩
theorem Cx.Ok.tr {X:Cx} {pn:List (ag×Obj)} {E:ah->aj->Prop} (ok:X.Ok):(X.tr pn E).Ok:=
 ⟨ok.mod,ok.kind,ok.glob,ok.blt,ok.above,ok.inj,ok.has,ok.cab,ok.hd,ok.frames,ok.stk,ok.exf,ok.bs,ok.bsz,ok.noex,ok.exfs,ok.funs,ok.frf⟩
section
variable {X:Cx} {Ap pn:List (ag×Obj)} {σ:St} {H:Hp} {s:aj} {A:de} {calm:Bool} {E:ah->aj->Prop}
theorem Inv.re (I:Inv X Ap σ H s) (hf:A.frames=some X.stack) (hd:calm=true->A.handled=none):Inv (X.re A calm E) Ap σ H s:=
 ⟨I.ok.re hf hd,I.os,I.bare,I.base,I.loc,I.cell,I.free,I.freeC,I.pin,I.hok,I.len⟩
theorem Inv.unre (ok:X.Ok) (I:Inv (X.re A calm E) Ap σ H s):Inv X Ap σ H s:=
 ⟨ok,I.os,I.bare,I.base,I.loc,I.cell,I.free,I.freeC,I.pin,I.hok,I.len⟩
theorem Inv.tr (I:Inv X Ap σ H s):Inv (X.tr (X.pn++Ap) E) [] σ H s:=
 ⟨I.ok.tr,I.os,I.bare,I.base,I.loc,I.cell,I.free,I.freeC,λp hp=>I.pin p (by rw[jc] at hp;exact hp),I.hok,I.len⟩
theorem Inv.untr {pins':List (ag×Obj)} (ok:X.Ok) (I:Inv (X.tr (X.pn++Ap) E) pins' σ H s):Inv X Ap σ H s:=
 ⟨ok,I.os,I.bare,I.base,I.loc,I.cell,I.free,I.freeC,λp hp=>I.pin p (tj _ hp),I.hok,I.len⟩
theorem SP.unre {D:Ends} {f:Flow} {s':aj} (ok:X.Ok) (h:SP (X.re A calm E) Ap D f s'):SP X Ap D f s':=by
 cases f with
 |next=>obtain⟨σ',H',I,q⟩:=h;exact⟨σ',H',I.unre ok,q⟩
 |brk=>obtain⟨σ',H',I,q⟩:=h;exact⟨σ',H',I.unre ok,q⟩
 |cont=>obtain⟨σ',H',I,q⟩:=h;exact⟨σ',H',I.unre ok,q⟩
 |ret u=>obtain⟨v,σ',H',I,r,q⟩:=h;exact⟨v,σ',H',I.unre ok,r,q⟩
theorem SP.untr {D:Ends} {f:Flow} {s':aj} (ok:X.Ok) (h:SP (X.tr (X.pn++Ap) E) [] D f s'):SP X Ap D f s':=by
 cases f with
 |next=>obtain⟨σ',H',I,q⟩:=h;exact⟨σ',H',I.untr ok,q⟩
 |brk=>obtain⟨σ',H',I,q⟩:=h;exact⟨σ',H',I.untr ok,q⟩
 |cont=>obtain⟨σ',H',I,q⟩:=h;exact⟨σ',H',I.untr ok,q⟩
 |ret u=>obtain⟨v,σ',H',I,r,q⟩:=h;exact⟨v,σ',H',I.untr ok,r,q⟩
end
structure RoomU (k:Nat) (A:de):Prop where
 dp:A.depth+3*k+5<ub
 un:A.units+16*k+200<wQ
theorem Room.u {k:Nat} {A:de} (r:Room k A):RoomU k A:=⟨r.dp,r.un⟩
theorem RoomU.mono {j k:Nat} {A:de} (r:RoomU k A) (h:j<=k):RoomU j A:=⟨by have:=r.dp;omega,by have:=r.un;omega⟩
theorem RoomU.mark {k:Nat} {A:de} (r:RoomU k A) (e:Option ah):RoomU k (A.mark e):=⟨r.dp,r.un⟩
theorem RoomU.deeper {k:Nat} {A:de} (r:RoomU (k+1) A) (env:Env):RoomU k (A.deeper env):=
 ⟨by have:=r.dp;show A.depth+1+3*k+5<_;omega,by have:=r.un;show A.units+3+16*k+200<_;omega⟩
theorem RoomU.make {k:Nat} {A:de} (r:RoomU (k+1) A) (C:ag) (us:List ah) (kw:List (Str×ah)):RoomU k (A.under (.builtin "type.__call__" ⟨.ref C::us,kw⟩)):=
 ⟨by have:=r.dp;rw[MM];omega,by have:=r.un;rw[MO];omega⟩
structure FnOkU (P:bb) (w:bv) (K:aa) (mg:Str->Option ah) (base:cr) (CX:CXT) (k:Nat) (f:ag) (fd:ez) (ps:List Str) (sp:Sp):Prop where
 len:∀vs H Q E,sp vs H Q E->vs.length=ps.length
 run:∀(A:de) (outer:List Env) (s:aj) (H:Hp) (args:Args) (us:List ah) (vs:List V) (Q:VK) (E:XK),RoomU k A->Env0 P w K mg base A outer s H->wb s fd args (ps.zip us)->Vals vs us->sp vs H Q E->
  mr (bi P w) A (.call (.ref f) args) (CR CX outer P w H s Q E) s
def Q9 (CX:CXT) (P:bb) (w:bv) (K:aa) (mg:Str->Option ah) (base:cr) (N:List Str) (qual:Str) (scope:jj) (f:ag) (cd:ah) (A:de) (outer:List Env) (s:aj) (H:Hp) (E:XK):Cx:=
 { NY CX P w K mg base N qual scope f cd A outer s H E with calm:=false }
theorem hU {CX:CXT} {P:bb} {w:bv} {K:aa} {mg:Str->Option ah} {base:cr} {k:Nat} {f:ag} {name qual:Str} {params:tV} {body:List dm} {scope:jj} {dV kV doc pm Av ct oc:ah} {an od:Option ag}
 {osl:Array (Option ah)} {N ps:List Str} {sp:Sp} (lk:K.lookup f=some ⟨oc,od,.func (gy name qual params body scope dV kV doc pm an Av ct),osl⟩) (hcd:jb K Av qual=true) (S:FnScope N ps scope)
 (len:∀vs H Q E,sp vs H Q E->vs.length=ps.length)
 (hbody:∀(A:de) (outer:List Env) (s:aj) (H:Hp) (vs:List V) (Q:VK) (E:XK),RoomU k (A.deeper (ud qual scope s.heap.objs.size f Av))->sp vs H Q E->
  ∃t,PSs (Q9 CX P w K mg base N qual scope f Av A outer s H E) body t/\t { nx:=λ_ H'=>Q .non H',rt:=Q } (FJ N vs) H):
 FnOkU P w K mg base CX (k+1) f (gy name qual params body scope dV kV doc pm an Av ct) ps sp:=by
 refine⟨len,λA outer s H args us vs Q E hr e0 hb r hsp=>?_⟩;have hl:=len _ _ _ _ hsp;have KX:K.In s.heap:=e0.mod.kin.keeps λb o e=>(e0.bs b o e).1;have lim:s.heap.NoLimit:=e0.mod.nolimit.keeps λb o e=>(e0.bs b o e).1;have hkind:∀y∈ps.zip us,scope.names.lookup y.1=some .local\/(scope.names.lookup y.1=some .cell/\((ik (s.heap.objs.size+1) scope.names []).lookup y.1).isSome=true):=λ⟨n,v⟩ hy=>by
  rcases S.par n (qy hy).1 with q|q
  ·exact .inl q
  ·exact .inr ⟨q,si _ _ _ (.inl q)⟩
 have hdp:A.depth<ub:=by have:=hr.dp;omega
 refine vF hdp (KX _ _ lk) rfl S.co S.gen rfl (wz KX hcd) (hb _ _ _ _ ?_);refine uf S.kind hkind λenv he s1 x=>?_;subst he;refine⟨lim.keeps x.toInCall.keep,codeAny_func ?_⟩;obtain⟨t,ht,hq⟩:=hbody A outer s H vs Q E (hr.deeper _) hsp;have e1:Env0 P w K mg base { A with handled:=none } outer s H:=⟨e0.frames,e0.mod,e0.bs,e0.bsz,e0.funs,e0.frf,e0.hok,e0.bare⟩
 have I0:Inv (NY CX P w K mg base N qual scope f Av { A with handled:=none } outer s H E) [] (FJ N vs) H s1:=OG S rfl e1 hl r x;have I:Inv (Q9 CX P w K mg base N qual scope f Av A outer s H E) [] (FJ N vs) H s1:=
  ⟨⟨I0.ok.mod,I0.ok.kind,I0.ok.glob,I0.ok.blt,I0.ok.above,I0.ok.inj,I0.ok.has,I0.ok.cab,λz=>(bu z).elim,tu e0.frames,I0.ok.stk,I0.ok.exf,I0.ok.bs,I0.ok.bsz,I0.ok.noex,I0.ok.exfs,I0.ok.funs,I0.ok.frf⟩,
   I0.os,I0.bare,I0.base,I0.loc,I0.cell,I0.free,I0.freeC,I0.pin,I0.hok,I0.len⟩
 refine gq (ht [] s1 (FJ N vs) H _ I hq) (λfl s' hs=>?_) λe s' hs=>hs;have fin:∀{σ':St} {H':Hp} {v:V} {u:ah},Inv (Q9 CX P w K mg base N qual scope f Av A outer s H E) [] σ' H' s'->RelV v u->Q v H'->CE outer P w H s Q u s':=
  λ{σ' H' v u} J rv q=>⟨v,H',J.os,J.bare,J.base,J.hok,rv,q⟩
 cases fl with
 |ret u=>
  obtain⟨v,σ',H',J,rv,q⟩:=hs;exact fin J rv q
 |next=>
  obtain⟨σ',H',J,q⟩:=hs;exact fin (v:=V.non) (u:=il) J rfl q
 |brk=>
  obtain⟨_,_,_,q⟩:=hs;exact fi q
 |cont=>
  obtain⟨_,_,_,q⟩:=hs;exact fi q
section
variable {X:Cx} {CX:CXT} {k:Nat} {f C:ag} {fd:ez} {ps:List Str} {sp:Sp} {E:XK} {x m fld:Str} {p pos apos pos':Pos} {e o value:Expr} {es:List Expr} {ta te tv:TE} {t:TA}
theorem cU {Ap:List (ag×Obj)} {σ:St} {H:Hp} {s:aj} {Q:VK} {us:List ah} {vs:List V} (F:FnOkU X.prog X.w X.K X.mg X.base CX k f fd ps sp) (hr:RoomU k X.A) (hb:Binds X.K fd ps []) (hx:D7 CX X E)
 (I:Inv X Ap σ H s) (r:Vals vs us) (h:sp vs H Q E):bf (bi X.prog X.w) X.A (call (.ref f) us) (EP X Ap σ Q) X.xe s:=by
 have hl:(us++[]).length=ps.length:=by rw[jc, ←r.length];exact F.len _ _ _ _ h
 have hb':=hb s us I.kIn hl;rw[jc] at hb';refine sU (nk (F.run X.A X.stack s H ⟨us,[]⟩ us vs Q E hr I.env0 hb' r h) λr s' hq=>?_);cases r with
 |error e=>exact hx Ap σ H s e s' I hq
 |ok fl=>
  cases fl with
  |ret u=>exact I.after hq
  |next=>exact fi hq
  |brk=>exact fi hq
  |cont=>exact fi hq
structure XMk (K:aa) (C f:ag):Prop where
 makes:G5 K C=true
 init:ig K (.ref C) "__init__"=some (some (.ref f))
 fn:qb K (.ref f)=true
 kp:eq K (.ref C)=true
def MY (C:ag) (sp:Sp) (E:XK) (t:TA):TE:=λσ H Q=>t σ H λvs H1=>vs.length<=100/\∀a,H1 a=none->sp (.ref a::vs) (upd H1 a (XoO a C none .none none)) (λv H2=>v= .non/\Q (.ref a) H2) E
theorem OI {Ap:List (ag×Obj)} {σ:St} {H:Hp} {s:aj} {Q:VK} {us:List ah} {vs:List V} (M:XMk X.K C f) (F:FnOkU X.prog X.w X.K X.mg X.base CX k f fd ps sp) (hr:RoomU (k+1) X.A) (hb:Binds X.K fd ps [])
 (hx:D7 CX X E) (I:Inv X Ap σ H s) (r:Vals vs us) (hv:vs.length<=100)
 (h:∀a,H a=none->sp (.ref a::vs) (upd H a (XoO a C none .none none)) (λv H2=>v= .non/\Q (.ref a) H2) E):
 bf (bi X.prog X.w) X.A (call (.ref C) us) (EP X Ap σ Q) X.xe s:=by
 have hus:us.length<=sizeLine:=by rw[←r.length,bw];omega
 have hq:=h (s.heap.objs.size+1) (I.hok.fresh (tq _));obtain⟨hh,g,dr,tk,os⟩:=s;have e1:(hh.push (GA us)).get? hh.objs.size=some (GA us):=bg hh rfl;have e2:((hh.push (GA us)).push (LD C hh.objs.size)).get? (hh.objs.size+1)=some (LD C hh.objs.size):=by heap_get
 have I1:=I.kept (h':=hh.push (GA us)) (t':=tk) λb u q=>ak _ q;have I2:=I1.laid (a:=hh.objs.size+1) (o:=XoO (hh.objs.size+1) C none .none none) (h':=(hh.push (GA us)).push (LD C hh.objs.size)) (t':=tk) (λb u q=>ak _ q) (sg (fk _ _))
  (YV e2 (by simp) rfl rfl)
 have r2:Vals (V.ref (hh.objs.size+1)::vs) (cb (hh.objs.size+1)::us):=.cons rfl r;have hl:(cb (hh.objs.size+1)::us++[]).length=ps.length:=by
  rw[jc, ←r2.length];exact F.len _ _ _ _ hq
 have hb':=hb _ (cb (hh.objs.size+1)::us) I2.kIn hl;rw[jc] at hb';refine sU (SZ (f:=f) I.kIn M.makes M.init (beq_iff_eq.mp M.fn) hus (nk (F.run _ X.stack _ _ ⟨cb (hh.objs.size+1)::us,[]⟩ (cb (hh.objs.size+1)::us) _ _ E (hr.make C us [])
  (I2.env0.make C us []) hb' r2 hq) λr s' hq'=>?_))
 cases r with
 |error e=>exact hx Ap σ _ _ e s' I2 hq'
 |ok fl=>
  cases fl with
  |ret u=>
   obtain⟨v,H',I3,rv,ev,q3⟩:=I2.after hq';subst ev;exact⟨rv,⟨V.ref (hh.objs.size+1),H',I3,rfl,q3⟩⟩
  |next=>exact fi hq'
  |brk=>exact fi hq'
  |cont=>exact fi hq'
theorem Y0 (M:XMk X.K C f) (F:FnOkU X.prog X.w X.K X.mg X.base CX k f fd ps sp) (hr:RoomU (k+1) X.A) (hg:Gl X x) (hm:X.mg x=some (.ref C)) (hb:Binds X.K fd ps []) (hx:D7 CX X E)
 (ha:PA X (e::es) t) (hdb:(x==("__debug__":Str))=false:=by decide) (he:be (e::es) X.env=(false,eval e X.env)::be es X.env:=by rfl) (hpl:(ie pos (be es X.env)).any (·.1)=false:=by rfl):
 PE X (.Call (.Name x p) (e::es) [] pos) (MY C sp E t):=by
 intro Ap s σ H Q I h;refine gr (ET I hg hm ?_ hdb);refine nq (h₀:=X.base) I.ok.mod.kin M.kp (thn (ha pos Ap s σ H _ I h) λus s1 ⟨vs,H1,I1,r,hv,q⟩=>⟨I1.kIn,?_⟩) he hpl;exact OI M F hr hb hx I1 r hv q
theorem W0 (M:XMk X.K C f) (F:FnOkU X.prog X.w X.K X.mg X.base CX k f fd ps sp) (hr:RoomU (k+1) X.A) (hg:Gl X x) (hm:X.mg x=some (.ref C)) (hb:Binds X.K fd ps []) (hx:D7 CX X E)
 (hdb:(x==("__debug__":Str))=false:=by decide):PE X (.Call (.Name x p) [] [] pos) (MY C sp E EK):=by
 intro Ap s σ H Q I h;refine gr (ET I hg hm ?_ hdb);exact tO I.kIn M.kp (OI (us:=[]) M F hr hb hx I .nil (by simp) h.2)
theorem JE {mc:ah} {pl:Sem Bool} (hg:Gl X x) (hm:X.mg x=some (.ref C)) (hsp:uA X.K (.ref C) "__getattribute__"=some (some (.builtin "type.__getattribute__"))) (hr0:vz X.K C mc=true)
 (hfc:qz X.K (.ref C) mc m=some (.val (.ref f))) (hk:eq X.K (.ref f)=true)
 (F:FnOkU X.prog X.w X.K X.mg X.base CX k f fd ps sp) (hr:RoomU k X.A) (hb:Binds X.K fd ps []) (hx:D7 CX X E) (ha:PA X (e::es) t)
 (hdb:(x==("__debug__":Str))=false:=by decide) (hst:be (e::es) X.env=(false,eval e X.env)::be es X.env:=by rfl) (hpl:(ie pos (be es X.env)).any (·.1)=false:=by rfl)
 (ht:eval (.Call (.Attribute (.Name x p) m apos) (e::es) [] pos) X.env=(do
  let ov←eval (.Name x p) X.env
  mq apos.atName
  let (f,first)←lp [ov] (kl ov m pl)
  mw pos f first (ie pos (be (e::es) X.env)) (js pos (gj [] X.env))):=by rfl):
 PE X (.Call (.Attribute (.Name x p) m apos) (e::es) [] pos) (K1 sp [] E t):=by
 intro Ap s σ H Q I h;refine oq (pl:=pl) (ET I hg hm ?_ hdb) ht;refine PySem.W.method_cls I.kIn hsp (PySem.W.cls_value I.kIn hr0 hfc rfl ?_);refine nq (first:=[]) (h₀:=X.base) I.ok.mod.kin hk (thn (ha pos Ap _ σ H _ (I.tok _) h) λus s2 ⟨vs,H2,I2,r,q2⟩=>⟨I2.kIn,?_⟩) hst hpl;have q3:sp (vs++[]) H2 Q E:=q2;rw[jc] at q3;exact cU F hr hb hx I2 r q3
def hW (K:aa) (ta tv:TE) (f:Str):TS:=λD σ H=>tv σ H λy H1=>ta σ H1 λx H2=>Ex4 λa C tb cx=>x= .ref a/\H2 a=some (XoO a C none tb cx)/\XCls K C/\NoAttr K C f/\
 ∀d,H2 d=none->d≠a->D.nx σ (upd (upd H2 d (XdO d [(f,y)])) a (XoO a C (some d) tb cx))
def mC (K:aa) (ta tv:TE) (f:Str):TS:=λD σ H=>tv σ H λy H1=>ta σ H1 λx H2=>Ex6 λa C d fs tb cx=>x= .ref a/\H2 a=some (XoO a C (some d) tb cx)/\H2 d=some (XdO d fs)/\d≠a/\XCls K C/\NoAttr K C f/\
 fs.length<1000/\D.nx σ (upd H2 d (XdO d (FQ f y fs)))
theorem RA (ha:PE X o ta) (hv:PE X value tv) (hs:pq value (some (.Attribute o fld pos')) pos.line X.env=pure false):PS X (.Assign [.Attribute o fld pos'] value pos) (hW X.K ta tv fld):=by
 intro Ap s σ H D I h;refine mn (thn (hv Ap s σ H _ I h) λu s1 ⟨y,H1,I1,ry,q⟩=>thn (ha Ap s1 σ H1 _ I1 q) λov s2 ⟨x,H2,I2,rx,a,C,tb,cx,ex,ea,c,n,q2⟩=>?_) hs;subst ex;obtain rfl:ov=cb a:=rx;obtain⟨vs,ga,z,h1,h2⟩:=CG I2.hok ea;have nd:H2 s2.heap.objs.size=none:=I2.hok.fresh (au _);have na:s2.heap.objs.size≠a:=cq (cj (bh ga));refine l8 I2.kIn c ga n λh' e1 e2 kp=>⟨σ,_,?_,q2 s2.heap.objs.size nd na⟩
 obtain⟨od,es,ep,g1,g2⟩:=id e2;have fr:od.isFreed=false:=(Heap.get?_some_iff.mp g1).2;have p1:(s2.heap.push od).get? s2.heap.objs.size=some od:=bg s2.heap fr;have J1:=I2.laid (a:=s2.heap.objs.size) (o:=XdO s2.heap.objs.size [(fld,y)]) (h':=s2.heap.push od) (t':=s2.toks+2) (λb u q=>ak _ q) (au _)
  (eY (mA:=λg=>if g=fld then some u else none) ⟨od,es,ep,p1,g2⟩ (λg=>?_) (λg hg=>?_) (by simp))
 ·refine J1.write (x:=a) (e:=a) (h':=h') (t':=s2.toks+2) (by rw[AE (cq na),ea];exact je) (.inl rfl) (λb u hb r=>?_) ⟨_,e1⟩ (YV e1 z h1 h2);by_cases hbs:b=s2.heap.objs.size
  ·subst hbs;have r':(s2.heap.push od).get? s2.heap.objs.size=some u:=r;rw[p1] at r';cases r';exact g1
  ·have Aw:b<(s2.heap.push od).objs.size:=bh r;rw[fk] at Aw;have r':(s2.heap.push od).get? b=some u:=r;have e3:(s2.heap.push od).get? b=s2.heap.get? b:=uB _ _ _ (by omega);exact kp b u hb (e3.symm.trans r')
 ·show RelO (jf g [(fld,y)]) (if g=fld then some u else none);by_cases hgf:g=fld
  ·rw[Ax hgf];have hb:(g==fld)=true:=beq_iff_eq.mpr hgf;simp only[jf,hb];exact ry
  ·rw[Ay hgf];have hb:(g==fld)=false:=beq_eq_false_iff_ne.mpr hgf;simp only[jf,hb];exact je
 ·by_cases hgf:g=fld
  ·rw[hgf];exact bc
  ·exact absurd (Ay hgf) hg
theorem VA (ha:PE X o ta) (hv:PE X value tv) (hs:pq value (some (.Attribute o fld pos')) pos.line X.env=pure false):PS X (.Assign [.Attribute o fld pos'] value pos) (mC X.K ta tv fld):=by
 intro Ap s σ H D I h;refine mn (thn (hv Ap s σ H _ I h) λu s1 ⟨y,H1,I1,ry,q⟩=>thn (ha Ap s1 σ H1 _ I1 q) λov s2 ⟨x,H2,I2,rx,a,C,d,fs,tb,cx,ex,ea,ed,dn,c,n,hl,q2⟩=>?_) hs;subst ex;obtain rfl:ov=cb a:=rx;obtain⟨vs,ga,z,h1,h2⟩:=CG I2.hok ea;obtain⟨mA,hm,r,wi,_⟩:=YW I2.hok ed;have hz:(fs.map (·.1)).length<=sizeLine:=by rw[ai,bw];omega
 refine l9 I2.kIn c ga hm dn n wi hz λh' hn sb=>⟨σ,_,?_,q2⟩
 have hd:∃o,h'.get? d=some o:=let ⟨o,_,_,e',_⟩:=hn;⟨o,e'⟩;refine I2.write (x:=d) (e:=d) (h':=h') (t':=s2.toks+2) (by rw[ed];exact je) (.inl rfl) (λb q hb z=>(sb.2 b hb).trans z) hd (eY hn (λg=>?_) (λg hg=>?_) ?_)
 ·show RelO ((FQ fld y fs).lookup g) (if g=fld then some u else mA g);rw[G1];by_cases q:g=fld
  ·rw[Ax q,Ax q];exact ry
  ·rw[Ay q,Ay q];exact r g
 ·by_cases q:g=fld
  ·rw[q];exact(F7 fld y fs).1
  ·refine(F7 fld y fs).2 g (wi g λz=>hg ?_);show(if g=fld then some u else mA g)=none;rw[Ay q];exact z
 ·have:=FI fld y fs;omega
def VB (K:aa) (ta:TE) (f:Str):TE:=λσ H Q=>ta σ H λx H1=>Ex7 λa C d fs tb cx v=>x= .ref a/\H1 a=some (XoO a C (some d) tb cx)/\H1 d=some (XdO d fs)/\XCls K C/\NoAttr K C f/\fs.lookup f=some v/\Q v H1
theorem cW (he:PE X e ta) (hb:jr e fld X.env (eval e X.env)=eval e X.env):PE X (.Attribute e fld pos) (VB X.K ta fld):=by
 intro Ap s σ H Q I h;refine UU hb (thn (he Ap s σ H _ I h) λu s1 ⟨x,H1,I1,rx,a,C,d,fs,tb,cx,v,ex,ea,ed,c,n,l,q⟩=>?_);subst ex;obtain rfl:u=cb a:=rx;obtain⟨vs,ga,z,h1,h2⟩:=CG I1.hok ea;obtain⟨mA,hm,r,wi,_⟩:=YW I1.hok ed;obtain⟨u,hu,ru⟩:=RelO.some_of (v:=v) (o:=mA fld) (by rw[←l];exact r fld);exact rZ I1.kIn c ga hm n hu (OA ru) ⟨v,H1,I1.tok _,ru,q⟩
end
end L2
end
section
namespace L2
open PySem PySem.Spec PyProof.Rows
section
variable {X:Cx} {Ap:List (ag×Obj)} {σ:St} {H:Hp} {s:aj} {a C:ag} {fs:List (Str×V)} {dict cx:Option ag} {tb:ah} {A:de} {E':ah->aj->Prop}
theorem MZ {M:xL} {h:cr} {vs:Array ah} (ga:h.get? a=some ⟨.ref C,dict,.fields vs,#[]⟩):qo M h (isType (.ref a)) false:=λA' Q' E' s' k' q'=>by
 obtain⟨h2,g2,d2,u2,o2⟩:=s';exact PySem.ks_wpAny_isType_inst (k' _ _ ga) (by intro c z;cases z) q'
theorem K4 {complaint:String} {Q:ah->aj->Prop} (I:Inv X Ap σ H s) (c:XCls X.K C) (ea:H a=some (XoO a C dict tb cx)) (h:Q (.ref a) s):bf (bi X.prog X.w) A (excFromValue (.ref a) complaint) Q E' s:=by
 obtain⟨vs,ga,z,h1,h2⟩:=CG I.hok ea;have I1:∃od,yj s.heap a ⟨.ref C,dict,.fields vs,#[]⟩ C od\/True:=⟨none,.inr je⟩
 have t1:qo (bi X.prog X.w) s.heap (yq (.ref a)) (.ref C):=(sX ga).andThen .now;obtain⟨cd,hc,ht⟩:=xp c.tail;have s1:qo (bi X.prog X.w) s.heap (yy (.ref a) (.type "BaseException")) true:=
  t1.andThen (PySem.W.looks_mroIn I.kIn (by unfold PySem.W.mroIn;rw[hc,xw,Ay (by rw[MX ht];decide),K3 (by decide) ht]))
 unfold excFromValue isExcClass;refine ae (ae ((MZ ga).here ?_));rw[Ay bu];refine ao ?_;rw[Ay bu];refine ae (s1.here ?_);rw[Ax rfl];exact ao h
theorem RB {Q:ah->aj->Prop} (I:Inv X Ap σ H s) (c:XCls X.K C) (ea:H a=some (XoO a C dict tb cx)) (h:Q (.ref a) s):bf (bi X.prog X.w) A (yA (.ref a)) Q E' s:=by
 obtain⟨vs,ga,z,h1,h2⟩:=CG I.hok ea;have t1:qo (bi X.prog X.w) s.heap (yq (.ref a)) (.ref C):=(sX ga).andThen .now;unfold yA;refine ae (t1.here (ae ((PySem.W.looks_typeIn I.kIn c.cls).here ?_)));rw[Ax (by decide)];exact ao h
end
section
variable {X:Cx} {E:XK} {e:Expr} {te:TE} {pos cpos:Pos} {j:Nat}
def Y1 (K:aa) (E:XK) (te:TE):TS:=λ_ σ H=>te σ H λx H1=>Ex3 λa C fs=>x= .ref a/\XAt H1 a C fs none .none/\XCls K C/\E (.ref C) none (xH fs)
theorem JF (o:Out X E) (hc:X.calm=true) (he:PE X e te):PS X (.Raise (some e) none pos) (Y1 X.K E te):=by
 intro Ap s σ H D I h;rw[yB];refine ae (jq ?_);unfold raiseStmt;refine ae (ae (thn (he Ap s σ H _ I h) λu s1 ⟨x,H1,I1,rx,a,C,fs,ex,xa,c,q⟩=>ae (jq (ao ?_))));subst ex;obtain rfl:u=cb a:=rx;obtain⟨d,dn,ea,ed⟩:=xa.at_;obtain⟨vs,ga,z,h1,h2⟩:=CG I1.hok ea;refine ae (ao (ae (ij (K4 I1 c ea ?_))));refine ae ((MZ ga).here ?_);rw[Ay bu];refine ae (RB I1 c ea ?_);unfold uV;refine ae (ae (im ga rfl h1 ?_));rw[Ay (by decide)];refine ao (wpAny_raiseNew_none (I1.ok.hd hc) ?_);exact o Ap σ H1 s1 a C fs none I1 (.inl (.inl xa)) q
theorem N0:entryFor table "proto.unchain"=some uz.«proto.unchain»:=entryFor_of_tree (by kernel_rfl)
def S0 (K:aa) (E:XK) (b:ag) (te:TE):TS:=λ_ σ H=>te σ H λx H1=>Ex3 λa C fs=>x= .ref a/\XAt H1 a C fs none .none/\XCls K C/\a≠b/\(Ex3 λCb db tbb=>H1 b=some (XoO b Cb db tbb none))/\E (.ref C) (some b) (xH fs)
theorem JG {b:ag} (o:Out X E) (hh:X.A.handled=some (.ref b)) (he:PE X e te):PS X (.Raise (some e) (some (.Constant .none j cpos)) pos) (S0 X.K E b te):=by
 intro Ap s σ H D I h;rw[yB];refine ae (jq ?_);unfold raiseStmt;refine ae (ae (thn (he Ap s σ H _ I h) λu s1 ⟨x,H1,I1,rx,a,C,fs,ex,xa,c,nab,⟨Cb,db,tbb,eb⟩,q⟩=>ae (jq (ao ?_))));subst ex;obtain rfl:u=cb a:=rx;obtain⟨d,dn,ea,ed⟩:=xa.at_;obtain⟨vs,ga,z,h1,h2⟩:=CG I1.hok ea;refine ae (ij (ae (Constant_none (ae (jq (ao (ae (ao ?_))))))));refine ae (ij (K4 I1 c ea ?_));refine ae (ao ?_);have z3:3<vs.size:=nw (by decide) z;have J1:=JC (i:=3) (v:=.none) (tb':=.none) (cx':=none) I1 ea ga z (by rw[gg (by decide)];exact h1) (by rw[gg (by decide)];exact h2);refine ae (ji ga rfl z3 ?_);obtain⟨vs2,ga2,z2,h12,h22⟩:=CG J1.hok upd_same;have J2:=JC (i:=4) (v:=.bool true) (tb':=.none) (cx':=none) J1 upd_same ga2 z2 (by rw[gg (by decide)];exact h12) (by rw[gg (by decide)];exact h22);refine ae (ji ga2 rfl z2 ?_);obtain⟨vs3,ga3,z3',h13,h23⟩:=CG J2.hok upd_same;refine ae ((MZ ga3).here ?_);rw[Ay bu];refine ae (RB J2 c upd_same ?_);unfold uV;refine ae (ae (im ga3 rfl h13 ?_));rw[Ay (by decide)];refine ao ?_;unfold raiseNew;refine ae (wu ?_);rw[hh];dsimp only;rw[Ax (show(cb b != cb a)=true from by simp[bne,cq nab])];have eb2:(upd (upd H1 a (XoO a C (some d) .none none)) a (XoO a C (some d) .none none)) b=some (XoO b Cb db tbb none):=by rw[AE (cq nab),AE (cq nab)];exact eb
 obtain⟨vb,gb,zb,hb1,hb2⟩:=CG J2.hok eb2;refine ae (ij (wpAny_runValue (codeAny_builtin N0 ?_)));unfold uz.«proto.unchain»;refine ae (im gb rfl hb2 ?_);rw[Ax (by decide)];refine ae (ao (ao ?_));have J3:=JC (i:=2) (v:=.ref b) (tb':=.none) (cx':=some b) J2 upd_same ga3 z3' (by rw[gg (by decide)];exact h13) (by simp only[cxV];rw[Array.getElem?_setIfInBounds_self_of_lt (nw (by decide) z3')]);refine ae ?_;show bf _ _ (yx (.ref a) 2 (.ref b)) _ _ _;refine ji ga3 rfl (nw (by decide) z3') ?_;refine xP ?_;refine o Ap σ _ _ a C fs (some b) J3 (.inl (.inl ⟨d,dn,upd_same,?_⟩)) q;rw[AE dn,AE dn,AE dn];exact ed
end
abbrev TH:=ag->ag->List (Str×V)->Option ag->TS
def PH (X:Cx) (hs:List ExceptHandler) (t:TH):Prop:=
 ∀(Ap:List (ag×Obj)) (s:aj) (σ:St) (H:Hp) (D:Ends) (a C:ag) (fs:List (Str×V)) (cx:Option ag),Inv X Ap σ H s->Noted H a C fs cx .none->t a C fs cx D σ H->
  bf (bi X.prog X.w) X.A (handleBy (.ref a) X.env hs) (SP X Ap D) X.xe s
abbrev Cx.hd (X:Cx) (a:ag):Cx:=X.re (X.A.mark (some (.ref a))) false (wc (bi X.prog X.w) (X.A.mark (some (.ref a))) X.env (cameBackBy (bi X.prog X.w) X.A X.env X.xe))
theorem Inv.hd {X:Cx} {Ap:List (ag×Obj)} {σ:St} {H:Hp} {s:aj} {a:ag} (I:Inv X Ap σ H s):Inv (X.hd a) Ap σ H s:=I.re I.ok.frames λz=>(bu z).elim
theorem Out.hd {X:Cx} {E:XK} {b L:ag} (o:Out X E) (ok:X.Ok) (hst:X.stack=X.env::X.outer) (hf:X.env.frame=some L):Out (X.hd b) E:=by
 intro Ap σ H s a C fs cx I n q;have fin:∀H1 s1,Inv (X.hd b) Ap σ H1 s1->Noted H1 a C fs cx (fy L)->cameBackBy (bi X.prog X.w) X.A X.env X.xe (.ref a) s1:=λH1 s1 I1 n1=>by
  obtain⟨T,d,n1',n2,n3,ea,ed,et⟩:=id n1;obtain⟨vs,ga,z,h1,h2⟩:=CG I1.hok ea;refine ae (im ga rfl h1 ?_);rw[Ay (show¬((cb T==il)=true) from by simp)];refine EZ (X:=X) (I1.unre ok) n1 λH2 s2 I2 n2=>?_;exact o Ap σ H2 s2 a C fs cx I2 (.inr ⟨L,hf,by rw[hf] at n2;exact n2⟩) q
 rcases n with n|⟨L',e,n⟩
 ·exact PP (X:=X.hd b) (L:=L) hst hf I.ok.frames I n fin
 ·have e':L=L':=cw (hf.symm.trans e);subst e';exact IN (X:=X.hd b) hf I n (fin H s I n)
section
variable {X:Cx} {x n:Str} {Ch:ag} {np pos:Pos} {b0:dm} {suite:List dm} {Aq:List ExceptHandler} {tb:ag->TS} {tr:TH}
def e6 (K:aa) (Ch:ag) (tb:ag->TS) (tr:TH):TH:=λa C fs cx D σ H=>∃b,my K (.ref C) (.ref Ch)=some b/\(b=true->∀H',Noted H' a C fs cx .none->tb a D σ H')/\(b=false->tr a C fs cx D σ H)
theorem S1:PH X [] (λ_ _ _ _=>gK):=λ_ _ _ _ _ _ _ _ _ _ _ h=>h.elim
theorem cX (hg:Gl X x) (hm:X.mg x=some (.ref Ch)) (hs:∀a,PSs (X.hd a) (b0::suite) (tb a)) (hr:PH X Aq tr) (hd:(x==("__debug__":Str))=false:=by decide):
 PH X (.ExceptHandler (some (.Name x np)) none (b0::suite) pos::Aq) (e6 X.K Ch tb tr):=by
 intro Ap s σ H D a C fs cx I n ⟨b,hx,h1,h2⟩;obtain⟨T,d,n1',n2,n3,ea,ed,et⟩:=id n;obtain⟨vs,ga,z,q1,q2⟩:=CG I.hok ea;have t1:qo (bi X.prog X.w) s.heap (yq (.ref a)) (.ref C):=(sX ga).andThen .now;refine wl (vH (ET (X:=X.hd a) I.hd hg hm ?_ hd)) (by intro q;cases q);refine(xX I.kIn t1 hx).here ?_;cases b with
 |false=>exact hr Ap s σ H D a C fs cx I n (h2 rfl)
 |true=>
  refine codeAny_handlers_suite (EZ (X:=X.hd a) I.hd n λH1 s1 I1 n1=>?_);exact gq (hs a Ap s1 σ H1 D I1 (h1 rfl H1 n1)) (λf s2 q=>SP.unre I.ok q) λ_ _ q=>q
def VC (K:aa) (Ch:ag) (i:Nat) (tb:ag->TS) (tr:TH):TH:=λa C fs cx D σ H=>∃b,my K (.ref C) (.ref Ch)=some b/\
 (b=true->∀H',Noted H' a C fs cx .none->tb a { nx:=λ_ _=>False,rt:=D.rt } (σ.set i (some (.ref a))) H')/\(b=false->tr a C fs cx D σ H)
theorem W1 {i:Nat} (hg:Gl X x) (hm:X.mg x=some (.ref Ch)) (hN:X.N.Nodup) (hi:X.N[i]? =some n) (hl:X.env.scope.names.lookup n=some .local) (hs:∀a E,PSs ((X.hd a).wish E) (b0::suite) (tb a)) (hr:PH X Aq tr)
 (hd:(x==("__debug__":Str))=false:=by decide):
 PH X (.ExceptHandler (some (.Name x np)) (some n) (b0::suite) pos::Aq) (VC X.K Ch i tb tr):=by
 intro Ap s σ H D a C fs cx I n ⟨b,hx,h1,h2⟩;obtain⟨T,d,n1',n2,n3,ea,ed,et⟩:=id n;obtain⟨vs,ga,z,q1,q2⟩:=CG I.hok ea;have t1:qo (bi X.prog X.w) s.heap (yq (.ref a)) (.ref C):=(sX ga).andThen .now;refine wl (vH (ET (X:=X.hd a) I.hd hg hm ?_ hd)) (by intro q;cases q);refine(xX I.kIn t1 hx).here ?_;cases b with
 |false=>exact hr Ap s σ H D a C fs cx I n (h2 rfl)
 |true=>
  refine codeAny_handlers_suite_as (EZ (X:=X.hd a) I.hd n λH1 s1 I1 n1=>?_);refine JA (X:=X.hd a) I1 hN hi (.inl hl) (v:=.ref a) rfl (λs2 I2=>?_) (.inr hl);refine gq (hs a _ Ap s2 _ H1 { nx:=λ_ _=>False,rt:=D.rt } (I2.wish _) (h1 rfl H1 n1)) (λf s3 q=>?_) λ_ _ q=>q;cases f with
  |next=>obtain⟨_,_,_,q⟩:=q;exact q.elim
  |brk=>obtain⟨_,_,_,q⟩:=q;exact q.elim
  |cont=>obtain⟨_,_,_,q⟩:=q;exact q.elim
  |ret u=>
   obtain⟨v,σ',H',I3,rv,q⟩:=q;have I4:Inv X Ap σ' H' s3:=(Inv.unwish I3).unre I.ok;obtain⟨m,hn,_⟩:=id I4.loc;refine wpAny_nameGoes hl hn (by rw[I4.ok.kind];rfl) λh' m' hn' sb=>?_;refine⟨v,σ'.map λ_=>none,H',?_,rv,q⟩;have I5:Inv X Ap (σ'.map λ_=>none) H' s3:=I4.weak (by simp) λj w e=>by
    rw[az] at e;cases q:σ'[j]? with
    |none=>rw[q] at e;cases e
    |some _=>rw[q] at e;cases e
   have neL:∀b,(∃o,X.s_0.heap.get? b=some o)->b≠X.env.locals:=λb ⟨o,e⟩=>cj (br (bh e) I5.ok.above);have nH:∀b o,H' b=some o->b≠X.env.locals:=λb o e z=>by rw[z,I5.free] at e;cases e
   refine⟨I5.ok,I5.os,I5.bare,⟨λb o e n hb hx=>?_,λb o e n hb hx=>?_,I5.base.free,λb o e hx=>?_,I5.base.tups,I5.base.frzs,I5.base.tbls⟩,⟨m',hn',λj y w e1 e2 e3=>?_⟩,λy c e=>?_,I5.free,I5.freeC,λp hp=>?_,λb o e=>?_,I5.len⟩
   ·exact(sb.2 b (neL b ⟨o,e⟩)).trans (I5.base.keep b o e n hb hx)
   ·obtain⟨sl,e1⟩:=I5.base.slot b o e n hb hx;exact⟨sl,(sb.2 b (neL b ⟨o,e⟩)).trans e1⟩
   ·obtain⟨o',e1⟩:=I5.base.there b o e hx;exact⟨o',(sb.2 b (neL b ⟨o,e⟩)).trans e1⟩
   ·rw[az] at e2;cases q:σ'[j]? with
    |none=>rw[q] at e2;cases e2
    |some _=>rw[q] at e2;cases e2
   ·obtain⟨w,hw⟩:=I5.cell y c e;exact⟨w,hw.sameBut sb (I5.cne y c e)⟩
   ·obtain⟨e,n,ne,nf,d⟩:=I5.pin p hp;exact⟨(sb.2 p.1 ne).trans e,n,ne,nf,d⟩
   ·refine(I5.hok b o e).stay (λc u hc q=>(sb.2 c ?_).trans q) (λ_ q=>q) λ_ _ q=>q;rcases hc with rfl|hc
    ·exact nH c o e
    ·exact nH c _ hc
def sA (X:Cx) (Eb:XK) (t:TS) (th:TH):TS:=λD σ H=>t D σ H/\∀a C fs cx σ' H',Noted H' a C fs cx .none->Eb (.ref C) cx (xH fs)->σ'.length=X.N.length->th a C fs cx D σ' H'
theorem S4 {Eb:XK} {L:ag} {body:List dm} {h0:ExceptHandler} {hs:List ExceptHandler} {t:TS} {th:TH} (hst:X.stack=X.env::X.outer) (hf:X.env.frame=some L)
 (hb:∀(pn:List (ag×Obj)) (E':ah->aj->Prop),Out (X.tr pn E') Eb->PSs (X.tr pn E') body t) (hh:PH X (h0::hs) th):PS X (.Try body (h0::hs) [] [] pos) (sA X Eb t th):=by
 intro Ap s σ H D I ⟨h,hth⟩;rw[arm_exec_Try];refine ae (jq (wpAny_tryStmt_except ?_));have o:Out (X.tr (X.pn++Ap) (λe s1=>bf (bi X.prog X.w) X.A (uS e X.env) (λ_ s2=>bf (bi X.prog X.w) X.A (uV e none) (λ_ s3=>bf (bi X.prog X.w) X.A (handleBy e X.env (h0::hs)) (SP X Ap D) X.xe s3) X.xe s2) X.xe s1)) Eb:=by
  intro pins' σ' H' s' a C fs cx I' n q;have I1:Inv X Ap σ' H' s':=I'.untr I.ok;have fin:∀H1 s1,Inv X Ap σ' H1 s1->Noted H1 a C fs cx (fy L)->bf (bi X.prog X.w) X.A (uV (.ref a) none) (λ_ s3=>bf (bi X.prog X.w) X.A (handleBy (.ref a) X.env (h0::hs)) (SP X Ap D) X.xe s3) X.xe s1:=
   λH1 s1 J1 m1=>EZ J1 m1 λH2 s2 J2 m2=>hh Ap s2 σ' H2 D a C fs cx J2 m2 (hth a C fs cx σ' H2 m2 q J2.len)
  rcases n with n|⟨L',e,n⟩
  ·exact PP hst hf I1.ok.frames I1 n fin
  ·have e':L=L':=cw (hf.symm.trans e);subst e';exact IN hf I1 n (fin H' s' I1 n)
 refine gq (hb _ _ o [] s σ H D I.tr h) (λf s1 q=>?_) λ_ _ q=>q;have q':SP X Ap D f s1:=SP.untr I.ok q;cases f with
 |next=>exact qu q'
 |ret u=>exact q'
 |brk=>exact q'
 |cont=>exact q'
end
end L2
end
section
namespace L2
open PySem PySem.Spec PyProof.Rows
section
variable {prog:bb} {w:bv} {A:de} {E:ah->aj->Prop} {s:aj}
theorem LE {it l:ag} {i:Nat} {items:Array ah} {x:ah} {Q:ah->aj->Prop} (hit:s.heap.IsTupleIter it l i) (hl:s.heap.IsTuple l items) (hx:items[i]? =some x)
 (hQ:∀h',h'.IsTupleIter it l (i+1)->pp it s.heap h'->Q x { s with heap:=h' }):bf (bi prog w) A (li (.ref it)) Q E s:=by
 obtain⟨o,ho,hc,hd⟩:=id hit;obtain⟨ol,hol,_,nl,hdl⟩:=hl;unfold li;refine ae (jw (name:=lu "__next__") hit.typeIs ku (mx ku hit.typeIs tS ?_ (tH _)));show bf _ _ (field (.ref it) 0 >>= _) _ _ s;refine ae (im ho hd (x:=.ref l) rfl ?_);show bf _ _ (if(cb l==il)=true then _ else _) _ _ s;rw[Ay (show¬((cb l==il)=true) from bu)];show bf _ _ (field (.ref it) 1 >>= _) _ _ s;refine ae (im ho hd (x:=.int i 0) rfl ?_);show bf _ _ (seqItems? (.ref l) >>= _) _ _ s;refine ae (vV hol hdl ?_);simp only[jx,hx];refine ae (ji ho hd (by simp) (ao ⟨x,rfl,ao (hQ _ ?_ (qh ..))⟩));exact⟨_,iw _ ho (sQ (ny hd _)),(wV ..).trans hc,by rw[ny hd];simp[fy]⟩
theorem M0 {it l:ag} {i:Nat} {items:Array ah} {Q:ah->aj->Prop} (hh:A.handled=none) (hit:s.heap.IsTupleIter it l i) (hl:s.heap.IsTuple l items) (hx:items[i]? =none)
 (hE:∀h' e,zW it s.heap h'->(∃o,h'.get? e=some o/\o.cls= .type "StopIteration")->E (.ref e) { s with heap:=h' }):bf (bi prog w) A (li (.ref it)) Q E s:=by
 obtain⟨o,ho,hc,hd⟩:=id hit;obtain⟨ol,hol,_,nl,hdl⟩:=hl;unfold li;refine ae (jw (name:=lu "__next__") hit.typeIs ku (mx ku hit.typeIs tS ?_ (tH _)));show bf _ _ (field (.ref it) 0 >>= _) _ _ s;refine ae (im ho hd (x:=.ref l) rfl ?_);show bf _ _ (if(cb l==il)=true then _ else _) _ _ s;rw[Ay (show¬((cb l==il)=true) from bu)];show bf _ _ (field (.ref it) 1 >>= _) _ _ s;refine ae (im ho hd (x:=.int i 0) rfl ?_);show bf _ _ (seqItems? (.ref l) >>= _) _ _ s;refine ae (vV hol hdl ?_);simp only[jx,hx];refine ae (wpAny_rule (ae (ji ho hd (by simp) ?_)));show bf _ _ (newExc (.type "StopIteration") [] >>= _) _ _ _;refine ae ?_;simp only[newExc,newTuple];refine ae (gc ?_ (by size_fits));refine ae (m:=uk _ _) (wpAny_of_eq (a:=il) (by first|rfl|(simp only[uk];rfl)) ?_);refine gc ?_ (by size_fits);simp only[raiseNew];refine ae (wu ?_);first|rw[show A.in1.handled=none from hh]|rw[hh]
 refine ae (ao (xP ?_));exact hE _ _ (((qh ..).extBut.push _).push _) ⟨_,bg _ rfl,rfl⟩
theorem RD (hh:A.handled=none) (it l:ag) (hne:l≠it) (items:Array ah):
 Draws prog w A it [it,l] items.size (λi v=>items[i]? =some v) (λi h=>h.IsTupleIter it l i/\h.IsTuple l items) where
 live:=λ_ _ st=>let ⟨o,ho,_⟩:=st.1;⟨o,ho⟩
 frame:=λ_ _ _ st hk=>⟨st.1.at λo e=>hk it (by simp) o e,let ⟨o,e,r⟩:=st.2;⟨o,hk l (by simp) o e,r⟩⟩
 item:=λi s Q E hi st hQ=>by
  refine LE st.1 st.2 (x:=items[i]) (by simp[hi]) λh' hit' hs'=>?_;exact hQ _ h' s.toks (by simp[hi]) ⟨hit',let ⟨o,e,r⟩:=st.2;⟨o,(hs'.2 l hne).trans e,r⟩⟩ hs'
 done:=λs Q E st hE=>M0 hh st.1 st.2 (by simp) hE
theorem W2 (l:ag) (items:Array ah) (n:Nat) (dct:Option ag) (sl:Array (Option ah)):
 Meets (uz.«enumerate.__new__» ⟨[.type "enumerate",.ref l],[]⟩) (λ_ R s=>s.heap.get? l=some { cls:=.type "tuple",dict:=dct,data:=.seq items n,slots:=sl }/\
  R (.ok (.ret (.ref (s.heap.push { cls:=.type "tuple_iterator",data:=.fields #[.ref l,.int 0 0] }).objs.size)))
   { s with heap:=(s.heap.push { cls:=.type "tuple_iterator",data:=.fields #[.ref l,.int 0 0] }).push { cls:=.type "enumerate",data:=.fields #[.none,.bool false,.ref s.heap.objs.size,fy 0,.none,.none] } }):=
 .of_wp λprog w A R s h=>by
  obtain⟨hp,g,d,tk,os⟩:=s;obtain⟨hl,h⟩:=h;have hsub:=sub_enumerate;have hL:Heap.IsTuple (Shared.heap ⟨hp,g,d,tk,os⟩) l items:=⟨_,hl,rfl,n,rfl⟩
  wp_walk using mj hl
  refine wpAny_stack_any λst=>ao ?_;split
  ·rename_i c _ _ _ _ _;cases (c==jd "enumerate")
   ·wp_walk using mj hl,rg hL
    exact⟨_,rfl,h⟩
   ·wp_walk using mj hl,rg hL
    exact⟨_,rfl,h⟩
  ·wp_walk using mj hl,rg hL
   exact⟨_,rfl,h⟩
theorem S5 {l:ag} {items:Array ah} {Q:ah->aj->Prop} (hL:s.heap.IsTuple l items)
 (h:∀h',wC h' (s.heap.objs.size+1) s.heap.objs.size 0 .none->h'.IsTupleIter s.heap.objs.size l 0->h'.objs.size=s.heap.objs.size+2->
  (∀b o,s.heap.get? b=some o->h'.get? b=some o)->Q (.ref (s.heap.objs.size+1)) { s with heap:=h' }):
 bf (bi prog w) A (call (.type "enumerate") [.ref l]) Q E s:=by
 obtain⟨⟨c,dct,dt,sl⟩,hl,hc,n,hd⟩:=hL;replace hc:c= .type "tuple":=hc;replace hd:dt= .seq items n:=hd;subst hc hd;refine callType_new F.called_enumerate (by decide) (F.typeCall_enumerate_1 _) (F.newCall_enumerate_1 _) (λobj=>F.args_object_init_2 obj _) F.entry_enumerate_new (W2 l items n dct sl) ⟨hl,?_⟩;have hz:(s.heap.push { cls:=.type "tuple_iterator",data:=.fields #[.ref l,.int 0 0] }).objs.size=s.heap.objs.size+1:=fk ..;show _/\_;rw[hz];have he:wC ((s.heap.push { cls:=.type "tuple_iterator",data:=.fields #[.ref l,.int 0 0] }).push
  { cls:=.type "enumerate",data:=.fields #[.none,.bool false,.ref s.heap.objs.size,fy 0,.none,.none] }) (s.heap.objs.size+1) s.heap.objs.size 0 .none:=by
  have:=bg (s.heap.push { cls:=.type "tuple_iterator",data:=.fields #[.ref l,.int 0 0] })
   (o:={ cls:=.type "enumerate",data:=.fields #[.none,.bool false,.ref s.heap.objs.size,fy 0,.none,.none] }) rfl
  rw[hz] at this;exact this
 refine⟨⟨_,he,rfl⟩,h _ he ⟨_,ak _ (bg _ rfl),rfl,rfl⟩ (by rw[fk,hz]) λb o x=>ak _ (ak _ x)⟩
end
theorem OJ {X:Cx} {Ap:List (ag×Obj)} {s:aj} {σ:St} {H:Hp} {E:ah->aj->Prop} {e it:ag} {fpD:List ag} {n i:Nat} {Pd:Nat->ah->Prop} {St':Nat->cr->Prop} {x:V} {elts:List Expr} {kk:Nat} {tpos:Pos}
 (I:Inv X Ap σ H s) (hf:∀b∈[e,it],LC X Ap H b) (D:Draws X.prog X.w X.A.in1 it fpD n Pd St') (he:∃old,wC s.heap e it ((i:Nat):Int) old) (hst:St' i s.heap) (Aw:i<n) (hne:e≠it) (hef:e∉fpD) (hP:∀u,Pd i u->RelV x u):
 bf (bi X.prog X.w) X.A (wx (.ref e)) (λr s1=>∃u,r=some u/\bf (bi X.prog X.w) X.A (qv (.Tuple elts kk tpos) (.ref e) u) (λ_ s2=>∃T,u= .ref T/\Inv X Ap σ (upd H T (.tup [.int (i:Nat),x])) s2/\H T=none/\
  (∃old,wC s2.heap e it ((i+1:Nat):Int) old)/\St' (i+1) s2.heap/\∀b∈[e,it],(upd H T (.tup [.int (i:Nat),x])) b=none) E s1) E s:=by
 obtain⟨old,he⟩:=he;have hel:e<s.heap.objs.size:=bh he;have hil:it<s.heap.objs.size:=by obtain⟨_,q⟩:=D.live _ _ hst;exact bh q
 refine wpAny_pyNext_enum_itemD D he hst Aw hne hef λu h' tk hPu ho hst' hT hsz hk=>?_;refine⟨_,rfl,uh (s:={ s with heap:=h',toks:=tk+1 }) ho λh'' he' sb=>?_⟩;have hT2:h''.get? s.heap.objs.size=some { cls:=.type "tuple",data:=.seq #[.int i tk,u] }:=(sb.2 _ (qa hel)).trans hT;have new:ObjOk X.prog X.w (upd H s.heap.objs.size (.tup [.int (i:Nat),x])) h'' s.heap.objs.size (.tup [.int (i:Nat),x]):=
  ⟨by show 2<=sizeLine;decide,[.int i tk,u],.cons ⟨_,rfl⟩ (.cons (hP u hPu) .nil),⟨_,hT2,rfl,_,rfl⟩⟩
 have I1:Inv X Ap σ (upd H s.heap.objs.size (.tup [.int (i:Nat),x])) { s with heap:=h'',toks:=tk+1 }:=
  I.turnedNew (ch:=[e,it]) (λb ob hb q=>(sb.2 b (λz=>hb (by simp[z]))).trans (hk b ob (λz=>hb (by simp[z])) (λz=>hb (by simp[z])) q)) hf (au _) new
 refine⟨_,rfl,I1,I.hok.fresh (au _),⟨u,?_⟩,D.frame _ _ _ hst' λb hb o q=>(sb.2 b λz=>hef (z▸hb)).trans q,λb hb=>?_⟩
 ·have e1:((i+1:Nat):Int)=(i:Int)+1:=by omega
  rw[e1];exact he'
 ·have hb':b<s.heap.objs.size:=by
   have e':b=e\/b=it:=by simpa using hb
   rcases e' with z|z
   ·rw[z];exact hel
   ·rw[z];exact hil
  rw[AE (cj hb')];exact(hf b hb).1
def mD (x:Str):It:=⟨λi _=>i<x.cps.size,λi H v H'=>Ex2 λT c=>v= .ref T/\H T=none/\x.cps[i]? =some c/\H'=upd H T (.tup [.int (i:Nat),.str ⟨#[c]⟩]),λi _=>i=x.cps.size⟩
theorem RF {prog:bb} {w:bv} {A:de} (hh:A.handled=none) (it:ag) (x:Str) (t:Tok):
 Draws prog w A it [it] x.cps.size (λi v=>∃c u,x.cps[i]? =some c/\v= .str ⟨#[c]⟩ u) (λi h=>h.IsStrIter it (tz x) x t i):=by
 cases ha:x.cps.all (·<128)
 ·have e:tz x="str_iterator":=by simp[tz,ha]
  rw[e];exact Draws.strWide hh it x t
 ·have e:tz x="str_ascii_iterator":=by simp[tz,ha]
  rw[e];exact Draws.strAscii hh it x t
theorem S6 {P:bb} {w:bv} {K:aa} {elts:List Expr} {kk:Nat} {tpos:Pos} (x:Str) (t:Tok) (e it:ag):
 Turn P w K (.Tuple elts kk tpos) (mD x) [e,it] e (λi h=>(∃old,wC h e it ((i:Nat):Int) old)/\h.IsStrIter it (tz x) x t i/\e≠it) where
 mem:=by simp
 obj:=λi h st b hb=>by
  obtain⟨⟨old,he⟩,⟨o,ho,hc,hd⟩,_⟩:=st;have e':b=e\/b=it:=by simpa using hb
  rcases e' with z|z
  ·rw[z];exact⟨_,he,λv q=>nomatch q⟩
  ·rw[z];exact⟨o,ho,λv q=>by rw[hd] at q;cases q⟩
 keep:=λi h h' st k=>let ⟨⟨old,he⟩,⟨o,ho,r⟩,hne⟩:=st;⟨⟨old,k e (by simp) _ he⟩,⟨o,k it (by simp) o ho,r⟩,hne⟩
 item:=by
  intro X hP hw hK hc i Ap s σ H E I hf st hg;subst hP hw hK;obtain⟨he,hit,hne⟩:=st;have hg':i<x.cps.size:=hg;have hx:x.cps[i]? =some x.cps[i]:=by simp[hg']
  have D:=RF (prog:=X.prog) (w:=X.w) (A:=X.A.in1) (I.ok.hd hc) it x t;refine thn (OJ (x:=.str ⟨#[x.cps[i]]⟩) I hf D he hit hg' hne (by simpa using hne) λu ⟨c,tk,q,z⟩=>?_) λr s1 ⟨u,er,h1⟩=>⟨u,er,thn h1 λ_ s2 ⟨T,eu,J,nT,he',hst',fr⟩=>?_⟩
  ·rw[hx] at q;cases q;exact⟨tk,z⟩
  ·subst eu;exact⟨.ref T,_,J,rfl,⟨T,_,rfl,nT,hx,rfl⟩,⟨he',hst',hne⟩,fr⟩
 done:=by
  intro X hP hw hK hc i Ap s σ H E I hf st hg;subst hP hw hK;obtain⟨⟨old,he⟩,hit,hne⟩:=st;obtain⟨f0,f1,f2,f3,f4,f5⟩:=hf it (by simp);have hge:i=x.cps.size:=hg;subst hge;have D:=RF (prog:=X.prog) (w:=X.w) (A:=X.A.in1) (I.ok.hd hc) it x t;exact vk D he hit λh' eb=>⟨rfl,I.turned (t':=s.toks) (λb o hb q=>eb b o hb q) f0 f1 f3 f4 f5⟩
 self:=λA i s Q E st h=>let ⟨⟨_,he⟩,_⟩:=st;lv he h
def iA (ta:TA):TI:=λσ H R=>ta σ H λvs H1=>∃x,vs=[.str x]/\R (mD x) H1
theorem Y2 {X:Cx} {e:Expr} {ta:TA} {p pos tpos:Pos} {elts:List Expr} {kk:Nat} (hg:Gl X "enumerate") (hm:X.mg "enumerate"=none) (ha:PA X [e] ta) (hs:be [e] X.env=[(false,eval e X.env)]:=by rfl):
 PI X (.Tuple elts kk tpos) (.Call (.Name "enumerate" p) [e] [] pos) (iA ta):=by
 intro Ap s σ H R I h;refine zt (EJ I hg hm vS (dh (thn (ha pos Ap s σ H _ I h) λus s1 ⟨vs,H1,I1,r1,q1⟩=>?_) hs rfl));obtain⟨x,ex,q⟩:=q1;subst ex;cases r1 with
 |cons r rr=>
  cases rr;obtain⟨t,rfl⟩:=r;refine call_enumerate_str λh' he hit hsz hk=>lv he ?_;have I2:Inv X Ap σ H1 { s1 with heap:=h' }:=I1.kept (t':=s1.toks) hk;refine⟨s1.heap.objs.size+1,[s1.heap.objs.size+1,s1.heap.objs.size],_,_,H1,rfl,I2,S6 x t (s1.heap.objs.size+1) s1.heap.objs.size,⟨⟨.none,he⟩,hit,uT _⟩,λb hb=>?_,q⟩;have e':b=s1.heap.objs.size+1\/b=s1.heap.objs.size:=by simpa using hb
  have hle:s1.heap.objs.size<=b:=by
   rcases e' with z|z
   ·rw[z];exact uU _ _
   ·rw[z];exact au _
  exact I1.fpOk hle (I1.hok.fresh hle)
def mE (K:aa) (a:ag):It:=⟨λi H=>Ex2 λ(xs:List V) (x:V)=>SqT K H a xs/\xs[i]? =some x,λi H v H'=>Ex2 λT x=>v= .ref T/\H T=none/\H'=upd H T (.tup [.int (i:Nat),x])/\∀xs,SqT K H a xs->xs[i]? =some x,λi H=>∃xs:List V,SqT K H a xs/\xs.length=i⟩
theorem S7 {P:bb} {w:bv} {K:aa} {elts:List Expr} {kk:Nat} {tpos:Pos} (a e it:ag):
 Turn P w K (.Tuple elts kk tpos) (mE K a) [e,it] e (λi h=>(∃old,wC h e it ((i:Nat):Int) old)/\h.IsTupleIter it a i/\e≠it) where
 mem:=by simp
 obj:=λi h st b hb=>by
  obtain⟨⟨old,he⟩,⟨o,ho,hc,hd⟩,_⟩:=st;have e':b=e\/b=it:=by simpa using hb
  rcases e' with z|z
  ·rw[z];exact⟨_,he,λv q=>nomatch q⟩
  ·rw[z];exact⟨o,ho,λv q=>by rw[hd] at q;cases q⟩
 keep:=λi h h' st k=>let ⟨⟨old,he⟩,hi,hne⟩:=st;⟨⟨old,k e (by simp) _ he⟩,hi.at λo q=>k it (by simp) o q,hne⟩
 item:=by
  intro X hP hw hK hc i Ap s σ H E I hf st hg;subst hP hw hK;obtain⟨he,hit,hne⟩:=st;obtain⟨xs,x,hq,hx⟩:=hg;obtain⟨As,rv,p,hz⟩:=I.tuple hq;obtain⟨u,hu,ru⟩:=rv.get hx;have hai:a≠it:=by
   rintro rfl;obtain⟨o,e1,c1,_⟩:=p;obtain⟨o2,e2,c2,_⟩:=hit;rw[e1] at e2;cases e2;rw[c1] at c2;exact absurd c2 (by decide)
  have hea:e≠a:=by
   rintro rfl;obtain⟨old,he⟩:=he;obtain⟨o,e1,c1,_⟩:=p;have he':=he;unfold wC at he';rw[e1] at he';cases he';exact absurd (show jd "enumerate"=jd "tuple" from c1) (by decide)
  have D:=RD (prog:=X.prog) (w:=X.w) (A:=X.A.in1) (I.ok.hd hc) it a hai As.toArray;have hi:i<As.toArray.size:=by
   have:=(aw.mp hu).1;simpa using this
  refine thn (OJ (x:=x) I hf D he ⟨hit,p⟩ hi hne (by simp[hne,hea]) λu' q=>?_) λr s1 ⟨u',er,h1⟩=>⟨u',er,thn h1 λ_ s2 ⟨T,eu,J,nT,he',hst',fr⟩=>?_⟩
  ·have q':As[i]? =some u':=by simpa using q
   rw[hu] at q';cases q';exact ru
  ·subst eu;exact⟨.ref T,_,J,rfl,⟨T,x,rfl,nT,rfl,λys hy=>by rw[I.tuple_inj hy hq];exact hx⟩,⟨he',hst'.1,hne⟩,fr⟩
 done:=by
  intro X hP hw hK hc i Ap s σ H E I hf st hg;subst hP hw hK;obtain⟨⟨old,he⟩,hit,hne⟩:=st;obtain⟨xs,hq,hx⟩:=hg;obtain⟨As,rv,p,hz⟩:=I.tuple hq;obtain⟨f0,f1,f2,f3,f4,f5⟩:=hf it (by simp);have hai:a≠it:=by
   rintro rfl;obtain⟨o,e1,c1,_⟩:=p;obtain⟨o2,e2,c2,_⟩:=hit;rw[e1] at e2;cases e2;rw[c1] at c2;exact absurd c2 (by decide)
  have D:=RD (prog:=X.prog) (w:=X.w) (A:=X.A.in1) (I.ok.hd hc) it a hai As.toArray;have hn:As.toArray.size=i:=by rw[bn, ←rv.length];exact hx
  exact vk D he ⟨by rw[hn];exact hit,p⟩ λh' eb=>⟨rfl,I.turned (t':=s.toks) (λb o hb q=>eb b o hb q) f0 f1 f3 f4 f5⟩
 self:=λA i s Q E st h=>let ⟨⟨_,he⟩,_⟩:=st;lv he h
def iB (K:aa) (ta:TA):TI:=λσ H R=>ta σ H λvs H1=>Ex2 λa xs=>vs=[.ref a]/\SqT K H1 a xs/\R (mE K a) H1
theorem RG {X:Cx} {e:Expr} {ta:TA} {p pos tpos:Pos} {elts:List Expr} {kk:Nat} (hg:Gl X "enumerate") (hm:X.mg "enumerate"=none) (ha:PA X [e] ta) (hs:be [e] X.env=[(false,eval e X.env)]:=by rfl):
 PI X (.Tuple elts kk tpos) (.Call (.Name "enumerate" p) [e] [] pos) (iB X.K ta):=by
 intro Ap s σ H R I h;refine zt (EJ I hg hm vS (dh (thn (ha pos Ap s σ H _ I h) λus s1 ⟨vs,H1,I1,r1,q1⟩=>?_) hs rfl));obtain⟨a,xs,ex,hq,q⟩:=q1;subst ex;cases r1 with
 |cons r rr=>
  cases rr;cases r;obtain⟨As,rv,p',hz⟩:=I1.tuple hq;refine S5 (show s1.heap.IsTuple a As.toArray from p') λh' he hit hsz hk=>lv he ?_;have I2:Inv X Ap σ H1 { s1 with heap:=h' }:=I1.kept (t':=s1.toks) hk;refine⟨s1.heap.objs.size+1,[s1.heap.objs.size+1,s1.heap.objs.size],_,_,H1,rfl,I2,S7 a (s1.heap.objs.size+1) s1.heap.objs.size,⟨⟨.none,he⟩,hit,uT _⟩,λb hb=>?_,q⟩;have e':b=s1.heap.objs.size+1\/b=s1.heap.objs.size:=by simpa using hb
  have hle:s1.heap.objs.size<=b:=by
   rcases e' with z|z
   ·rw[z];exact uU _ _
   ·rw[z];exact au _
  exact I1.fpOk hle (I1.hok.fresh hle)
theorem GM {J:It} {n:Nat} {g:TG} {tb:TS} {D:Ends} {σ:St} {H:Hp} (Pv:Nat->St->Hp->Prop) (h0:Pv 0 σ H) (hgo:∀i σ H,i<n->Pv i σ H->J.go i H) (hst:∀σ H,Pv n σ H->J.stop n H)
 (hs:∀i x σ H H',i<n->Pv i σ H->J.yld i H x H'->g x σ H' λσ2 H2=>tb { D with nx:=Pv (i+1),ct:=Pv (i+1),bk:=D.nx } σ2 H2) (hd:∀σ H,Pv n σ H->D.nx σ H):
 ∃W:Nat->Nat->St->Hp->Prop,(∃m,W 0 m σ H)/\∀i m σ H,W i m σ H->
  (J.stop i H/\D.nx σ H)\/(J.go i H/\∃N:St->Hp->Prop,(∀σ' H',N σ' H'->∃m',m'<m/\W (i+1) m' σ' H')/\∀x H',J.yld i H x H'->g x σ H' λσ2 H2=>tb { D with nx:=N,ct:=N,bk:=D.nx } σ2 H2):=by
 refine⟨λi m σ H=>m=n - i/\i<=n/\Pv i σ H,⟨n,by simp,dq _,h0⟩,?_⟩;rintro i m σ H ⟨rfl,hi,p⟩;by_cases Aw:i<n
 ·exact .inr ⟨hgo i σ H Aw p,Pv (i+1),λσ' H' p'=>⟨n - (i+1),by omega,rfl,Aw,p'⟩,λx H' y=>hs i x σ H H' Aw p y⟩
 ·have e:i=n:=by omega
  subst e;exact .inl ⟨hst σ H p,hd σ H p⟩
def LcW (J:It) (g:TG) (tt:TT) (te:TE) (vs:List Nat) (σ:St) (H1:Hp) (D:ag) (Q:VK):Prop:=
 ∃W:Nat->Nat->Hp->Prop,(∃m,W 0 m (upd H1 D (.lst [])))/\∀i m H,W i m H->
  (J.stop i H/\Q (.ref D) H)\/(J.go i H/\∃Nx:Hp->Prop,(∀H',Nx H'->∃m',m'<m/\W (i+1) m' H')/\∀x H',J.yld i H x H'->g x (GL σ vs) H' λσ2 H2=>GL σ2 vs=GL σ vs/\tt σ2 H2 λb H3=>
   if b=true then te σ2 H3 λy H4=>∃acc,H4 D=some (.lst acc)/\acc.length<sizeLine/\Nx (upd H4 D (.lst (acc++[y]))) else Nx H3)
def mF (wi:TI) (g:TG) (tt:TT) (te:TE) (vs:List Nat):TE:=λσ H Q=>wi σ H λJ H1=>∀D,H1 D=none->LcW J g tt te vs σ H1 D Q
theorem S8 {X:Cx} {elt tg iter:Expr} {ifs:List Expr} {scope:jj} {own:List (Str×Nat)} {pos:Pos} {wi:TI} {g:TG} {tt:TT} {te:TE} (hc:X.calm=true) (hN:X.N.Nodup) (hi:PI X tg iter wi) (ok:BlkOk X.N X.env.scope scope own)
 (hg:∀(s:aj) (H:Hp) (C:ag) (cl:List (Str×ag)) (fp:List ag),PG (X.blk s H scope (jm scope cl C X.env) fp) tg g) (ht:∀(s:aj) (H:Hp) (C:ag) (cl:List (Str×ag)) (fp:List ag),PTs (X.blk s H scope (jm scope cl C X.env) fp) ifs tt)
 (he:∀(s:aj) (H:Hp) (C:ag) (cl:List (Str×ag)) (fp:List ag),PE (X.blk s H scope (jm scope cl C X.env) fp) elt te) (hs:∀x,lq iter X.env x=pure x:=by intro _;rfl):
 PE X (.ListComp elt [⟨tg,iter,ifs,0⟩] scope pos) (mF wi g tt te (own.map (·.2))):=lX hc hN hi ok hg ht he hs
theorem W3 {X:Cx} {i:Nat} {y:Str} {py:Pos} {elt tg iter:Expr} {ifs:List Expr} {scope:jj} {own:List (Str×Nat)} {pos spos:Pos} {wi:TI} {g:TG} {tt:TT} {te:TE} (hc:X.calm=true) (hN:X.N.Nodup) (hy:X.N[i]? =some y) (hyl:X.env.scope.names.lookup y=some .local)
 (hsw:pq (.ListComp elt [⟨tg,iter,ifs,0⟩] scope pos) (some (.Name y py)) spos.line X.env=pure true) (hi:PI X tg iter wi) (ok:BlkOk X.N X.env.scope scope own)
 (hg:∀(s:aj) (H:Hp) (C:ag) (cl:List (Str×ag)) (fp:List ag),PG (X.blk s H scope (jm scope cl C X.env) fp) tg g) (ht:∀(s:aj) (H:Hp) (C:ag) (cl:List (Str×ag)) (fp:List ag),PTs (X.blk s H scope (jm scope cl C X.env) fp) ifs tt)
 (he:∀(s:aj) (H:Hp) (C:ag) (cl:List (Str×ag)) (fp:List ag),PE (X.blk s H scope (jm scope cl C X.env) fp) elt te) (hs:∀x,lq iter X.env x=pure x:=by intro _;rfl):
 PS X (.Assign [.Name y py] (.ListComp elt [⟨tg,iter,ifs,0⟩] scope pos) spos) (YA (mF wi g tt te (own.map (·.2))) (ME i)):=YS hc hN hy hyl hsw hi ok hg ht he hs
theorem PQ {J:It} {n:Nat} {σ:St} {H1:Hp} {Q:VK} {g:TG} {tt:TT} {te:TE} {vs:List Nat} {D:ag} (Pv:Nat->Hp->Prop) (h0:Pv 0 (upd H1 D (.lst []))) (hgo:∀i H,i<n->Pv i H->J.go i H) (hst:∀H,Pv n H->J.stop n H)
 (hs:∀i x H H',i<n->Pv i H->J.yld i H x H'->g x (GL σ vs) H' λσ2 H2=>GL σ2 vs=GL σ vs/\tt σ2 H2 λb H3=>
  if b=true then te σ2 H3 λy H4=>∃acc,H4 D=some (.lst acc)/\acc.length<sizeLine/\Pv (i+1) (upd H4 D (.lst (acc++[y]))) else Pv (i+1) H3) (hd:∀H,Pv n H->Q (.ref D) H):
 LcW J g tt te vs σ H1 D Q:=by
 refine⟨λi m H=>m=n - i/\i<=n/\Pv i H,⟨n,by simp,dq _,h0⟩,?_⟩;rintro i m H ⟨rfl,hi,p⟩;by_cases Aw:i<n
 ·exact .inr ⟨hgo i H Aw p,Pv (i+1),λH' p'=>⟨n - (i+1),by omega,rfl,Aw,p'⟩,λx H' y=>hs i x H H' Aw p y⟩
 ·have e:i=n:=by omega
  subst e;exact .inl ⟨hst H p,hd H p⟩
end L2
end
section
section
namespace L2
open PySem PySem.Spec PyProof.Rows
open PySem.W (WData Codec OpenSpec Well WellAll ReadsW ReadsAllW)
mutual
inductive Dw (K:aa) (H:Hp):V->mz->Prop
 |non:Dw K H .non .none
 |bl (b:Bool):Dw K H (.bl b) (.bool b)
 |int (i:Int):Dw K H (.int i) (.int i)
 |str (x:Str):Dw K H (.str x) (.str x)
 |byt (b:Array UInt8):Dw K H (.byt b) (.bytes b.toList)
 |lst {a:ag} {xs:List V} {ds:List mz}:SqL K H a xs->DwAll K H xs ds->Dw K H (.ref a) (.list ds)
 |tup {a:ag} {xs:List V} {ds:List mz}:SqT K H a xs->DwAll K H xs ds->Dw K H (.ref a) (.tuple ds)
inductive DwAll (K:aa) (H:Hp):List V->List mz->Prop
 |nil:DwAll K H [] []
 |cons {v:V} {vs:List V} {d:mz} {ds:List mz}:Dw K H v d->DwAll K H vs ds->DwAll K H (v::vs) (d::ds)
end
theorem VD {K:aa} {H:Hp}:∀ns:List Int,DwAll K H (ns.map V.int) (ns.map Ak)
 |[]=>.nil
 |n::r=>.cons (.int n) (VD r)
theorem PR {K:aa} {H:Hp}:∀(ns:List Int) (xs:List V),DwAll K H xs (ns.map Ak)->xs=ns.map V.int
 |[],xs,h=>by
  cases h;rfl
 |n::r,xs,h=>by
  cases h with
  |cons h1 h2=>
   cases h1;rw[PR r _ h2]<;>rfl
section
variable {P:bb} {w:bv} {K:aa} {H:Hp} {h:cr} {R:xz} {cl:Str->Option ag}
theorem iC {a:ag} {xs:List V} (hok:HOk P w H h) (KX:K.In h) (q:SqL K H a xs):∃(As:List ah) (o:Obj) (n:Nat),Vals xs As/\h.get? a=some o/\o.cls= .type "list"/\o.data= .seq As.toArray n:=by
 rcases q with q|⟨o,As,n,e,hc,_,hd,_,hv⟩
 ·obtain⟨_,As,n,hv,e⟩:=(show ObjOk P w H h a (.lst xs) from q.ok hok)
  exact⟨As,_,n,hv,e,rfl,rfl⟩
 ·exact⟨As.toList,o,n,hv,KX _ _ e,hc,by simp[hd]⟩
theorem Y3 {a:ag} {xs:List V} (hok:HOk P w H h) (KX:K.In h) (q:SqT K H a xs):∃(As:List ah) (o:Obj) (n:Nat),Vals xs As/\h.get? a=some o/\o.cls= .type "tuple"/\o.data= .seq As.toArray n:=by
 rcases q with q|⟨o,As,n,e,hc,hd,_,hv⟩
 ·obtain⟨_,As,hv,o,e,hc,n,hd⟩:=(show ObjOk P w H h a (.tup xs) from q.ok hok)
  exact⟨As,o,n,hv,e,hc,hd⟩
 ·exact⟨As.toList,o,n,hv,KX _ _ e,hc,by simp[hd]⟩
mutual
theorem Dw.reads (hok:HOk P w H h) (KX:K.In h):∀(d:mz) (v:V) (u:ah),Dw K H v d->RelV v u->∃as,ReadsW R cl h u d as
 | .none,_,_,x,r=>by
   cases x;cases r;exact⟨_,ReadsW.none⟩
 | .bool b,_,_,x,r=>by
   cases x;cases r;exact⟨_,ReadsW.bool b⟩
 | .int i,_,_,x,r=>by
   cases x;obtain⟨t,rfl⟩:=r;exact⟨_,ReadsW.int i t⟩
 | .str s,_,_,x,r=>by
   cases x;obtain⟨t,rfl⟩:=r;exact⟨_,ReadsW.str s t⟩
 | .bytes b,_,_,x,r=>by
   cases x;obtain⟨t,rfl⟩:=r;exact⟨_,ReadsW.bytes _ t⟩
 | .list ds,_,_,x,r=>by
   cases x with
   |lst hs ha=>
    cases r;obtain⟨As,o,n,rv,ho,hc,hd⟩:=iC hok KX hs;obtain⟨as,hr⟩:=Dw.readsAll hok KX ds _ As ha rv;exact⟨_,ReadsW.list ho hc hd hr⟩
 | .tuple ds,_,_,x,r=>by
   cases x with
   |tup hs ha=>
    cases r;obtain⟨As,o,n,rv,ho,hc,hd⟩:=Y3 hok KX hs;obtain⟨as,hr⟩:=Dw.readsAll hok KX ds _ As ha rv;exact⟨_,ReadsW.tuple ho hc hd hr⟩
 | .float _,_,_,x,_=>by cases x
 | .dict _,_,_,x,_=>by cases x
 | .bytearray _,_,_,x,_=>by cases x
 | .set _,_,_,x,_=>by cases x
 | .frozenset _,_,_,x,_=>by cases x
 | .obj _ _,_,_,x,_=>by cases x
theorem Dw.readsAll (hok:HOk P w H h) (KX:K.In h):∀(ds:List mz) (vs:List V) (us:List ah),DwAll K H vs ds->Vals vs us->∃as,ReadsAllW R cl h us ds as
 |[],_,_,x,r=>by
  cases x;cases r;exact⟨_,ReadsAllW.nil⟩
 |d::ds,_,_,x,r=>by
  cases x with
  |cons h1 h2=>
   cases r with
   |cons r1 r2=>
    obtain⟨as,q1⟩:=Dw.reads hok KX d _ _ h1 r1;obtain⟨bs,q2⟩:=Dw.readsAll hok KX ds _ _ h2 r2;exact⟨_,ReadsAllW.cons q1 q2⟩
end
end
mutual
def plW:mz->Bool
 | .none=>true
 | .bool _=>true
 | .int _=>true
 | .str _=>true
 | .bytes _=>true
 | .list xs=>LF xs
 | .tuple xs=>LF xs
 |_=>false
def LF:List mz->Bool
 |[]=>true
 |x::r=>plW x&&LF r
end
theorem RH {α:Type} {f:α->mz} (h:∀a,plW (f a)=true):∀l:List α,LF (l.map f)=true
 |[]=>rfl
 |x::r=>by
  show(plW (f x)&&LF (r.map f))=true;rw[h x,RH h r]<;>rfl
theorem G6:∀(c:Codec) (a:c.denote),plW (c.enc a)=true
 | .unit,_=>rfl
 | .bool,_=>rfl
 | .int _ _,_=>rfl
 | .nat _ _,_=>rfl
 | .u8,_=>rfl
 | .bytes _ _,_=>rfl
 | .text _ _ _ _,_=>rfl
 | .list _ _ c,a=>RH (λx=>G6 c x) a
 | .pair c d,a=>by
   show(plW (c.enc a.1)&&(plW (d.enc a.2)&&true))=true;rw[G6 c a.1,G6 d a.2]<;>rfl
 | .triple c d e,a=>by
   show(plW (c.enc a.1)&&(plW (d.enc a.2.1)&&(plW (e.enc a.2.2)&&true)))=true;rw[G6 c a.1,G6 d a.2.1,G6 e a.2.2]<;>rfl
 | .option c,none=>rfl
 | .option c,some x=>G6 c x
theorem OL:∀(cs:List Codec) (a:tI cs),LF (sK cs a)=true
 |[],_=>rfl
 |c::cs,a=>by
  show(plW (c.enc a.1)&&LF (sK cs a.2))=true;rw[G6 c a.1,OL cs a.2]<;>rfl
theorem IO:∀{xs:List mz} {d:mz},d∈xs->d.weight<=tJ xs
 |[],d,h=>absurd h (by simp)
 |x::r,d,h=>by
  show d.weight<=x.weight+1+tJ r;rcases bp.mp h with e|m
  ·rw[e];omega
  ·have z:=IO m;omega
def toV:ah->V
 | .none=>.non
 | .bool b=>.bl b
 | .int i _=>.int i
 | .str x _=>.str x
 | .bytes b _=>.byt b
 | .ref a=>.ref a
 |_=>.non
def OkU (A:List ag):ah->Prop
 | .none=>True
 | .bool _=>True
 | .int _ _=>True
 | .str _ _=>True
 | .bytes _ _=>True
 | .ref a=>a∈A
 |_=>False
theorem OkU.mono {A B:List ag} (h:∀a∈A,a∈B):∀{u:ah},OkU A u->OkU B u:=λ{u} x=>by
 cases u with
 |ref a=>exact h a x
 |none=>trivial
 |bool b=>trivial
 |int i t=>trivial
 |str s t=>trivial
 |bytes b t=>trivial
 |_=>exact fi x
theorem Y4 {A:List ag} {u:ah} (x:OkU A u):RelV (toV u) u:=by
 cases u with
 |ref a=>rfl
 |none=>rfl
 |bool b=>rfl
 |int i t=>exact⟨t,rfl⟩
 |str s t=>exact⟨t,rfl⟩
 |bytes b t=>exact⟨t,rfl⟩
 |_=>exact fi x
theorem GB {A:List ag}:∀{vs:List ah},(∀u∈vs,OkU A u)->Vals (vs.map toV) vs
 |[],_=>.nil
 |u::r,h=>.cons (Y4 (h u (bc ..))) (GB λx hx=>h x (aq _ hx))
def ArgOb (h:cr) (A:List ag) (a:ag):Prop:=∃vs:List ah,vs.length<=sizeLine/\(∀u∈vs,OkU A u)/\
 (h.get? a=some { cls:=.type "list",data:=.seq vs.toArray }\/h.get? a=some { cls:=.type "tuple",data:=.seq vs.toArray })
theorem ArgOb.mono {h:cr} {A B:List ag} {a:ag} (k:∀a∈A,a∈B) (x:ArgOb h A a):ArgOb h B a:=by
 obtain⟨vs,h1,h2,h3⟩:=x;exact⟨vs,h1,λu hu=>(h2 u hu).mono k,h3⟩
theorem FK {P:vW} {h:cr}:∀{vs:List ah} {ds:List mz},vm P h vs ds->vs.length=ds.length
 |_,_,.nil=>rfl
 |_,_,.cons _ b=>by
  show _+1=_+1;rw[FK b]
theorem OM {P:vW} {h:cr} {v:ah} {ds:List mz} (x:Well P h v (.list ds)):∃(a:ag) (vs:List ah),v= .ref a/\h.get? a=some { cls:=.type "list",data:=.seq vs.toArray }/\vm P h vs ds:=by
 cases x with
 |list ho hall=>exact⟨_,_,rfl,ho,hall⟩
theorem M3 {P:vW} {h:cr} {v:ah} {ds:List mz} (x:Well P h v (.tuple ds)):∃(a:ag) (vs:List ah),v= .ref a/\h.get? a=some { cls:=.type "tuple",data:=.seq vs.toArray }/\vm P h vs ds:=by
 cases x with
 |tuple ho hall=>exact⟨_,_,rfl,ho,hall⟩
theorem ON {P:vW} {h:cr} {us:List ah} {d:mz} {ds:List mz} (x:vm P h us (d::ds)):∃(v:ah) (vs:List ah),us=v::vs/\Well P h v d/\vm P h vs ds:=by
 cases x with
 |cons a b=>exact⟨_,_,rfl,a,b⟩
theorem VE {n:Nat} (h:n<=1048576):n<=sizeLine:=cy h (by decide)
section
variable {P:vW} {h:cr}
mutual
theorem Y5:∀(d:mz) (v:ah),Well P h v d->plW d=true->d.weight<=1048576->∃A:List ag,OkU A v/\∀a∈A,ArgOb h A a
 | .none,_,x,_,_=>by
   cases x;exact⟨[],trivial,λa m=>absurd m (by simp)⟩
 | .bool b,_,x,_,_=>by
   cases x;exact⟨[],trivial,λa m=>absurd m (by simp)⟩
 | .int i,_,x,_,_=>by
   cases x;exact⟨[],trivial,λa m=>absurd m (by simp)⟩
 | .str s,_,x,_,_=>by
   cases x;exact⟨[],trivial,λa m=>absurd m (by simp)⟩
 | .bytes b,_,x,_,_=>by
   cases x;exact⟨[],trivial,λa m=>absurd m (by simp)⟩
 | .list ds,_,x,p,z=>by
   obtain⟨a,vs,rfl,ho,hall⟩:=OM x;have z2:tJ ds<=1048576:=z;obtain⟨A,h1,h2⟩:=JH ds _ hall p λd hd=>cy (IO hd) z2;have k:∀b∈A,b∈a::A:=λb hb=>aq _ hb;refine⟨a::A,bc ..,λb hb=>?_⟩;rcases bp.mp hb with e|m
   ·rw[e];exact⟨vs,VE (by rw[FK hall];exact cy (tK ds) z2),λu hu=>(h1 u hu).mono k,.inl ho⟩
   ·exact(h2 b m).mono k
 | .tuple ds,_,x,p,z=>by
   obtain⟨a,vs,rfl,ho,hall⟩:=M3 x;have z2:tJ ds<=1048576:=z;obtain⟨A,h1,h2⟩:=JH ds _ hall p λd hd=>cy (IO hd) z2;have k:∀b∈A,b∈a::A:=λb hb=>aq _ hb;refine⟨a::A,bc ..,λb hb=>?_⟩;rcases bp.mp hb with e|m
   ·rw[e];exact⟨vs,VE (by rw[FK hall];exact cy (tK ds) z2),λu hu=>(h1 u hu).mono k,.inr ho⟩
   ·exact(h2 b m).mono k
 | .float _,_,_,p,_=>fb (show false=true from p)
 | .dict _,_,_,p,_=>fb (show false=true from p)
 | .bytearray _,_,_,p,_=>fb (show false=true from p)
 | .set _,_,_,p,_=>fb (show false=true from p)
 | .frozenset _,_,_,p,_=>fb (show false=true from p)
 | .obj _ _,_,_,p,_=>fb (show false=true from p)
theorem JH:∀(ds:List mz) (vs:List ah),vm P h vs ds->LF ds=true->(∀d∈ds,d.weight<=1048576)->∃A:List ag,(∀u∈vs,OkU A u)/\∀a∈A,ArgOb h A a
 |[],_,x,_,_=>by
  cases x;exact⟨[],λu m=>absurd m (by simp),λa m=>absurd m (by simp)⟩
 |d::ds,_,x,p,z=>by
  obtain⟨v,vs,rfl,x1,x2⟩:=ON x;have q:plW d=true/\LF ds=true:=vX.mp p;obtain⟨A,a1,a2⟩:=Y5 d v x1 q.1 (z d (bc ..));obtain⟨B,b1,b2⟩:=JH ds vs x2 q.2 λe he=>z e (aq _ he);have kA:∀b∈A,b∈A++B:=λb hb=>cn.mpr (.inl hb);have kB:∀b∈B,b∈A++B:=λb hb=>cn.mpr (.inr hb);refine⟨A++B,λu hu=>?_,λb hb=>?_⟩
  ·rcases bp.mp hu with e|m
   ·rw[e];exact a1.mono kA
   ·exact(b1 u m).mono kB
  ·rcases cn.mp hb with m|m
   ·exact(a2 b m).mono kA
   ·exact(b2 b m).mono kB
end
end
def cY (o:Obj):Option HO:=match o.data with
 | .seq vs _=>if(o.cls==jd "list")=true then some (.frz o (.lst (vs.toList.map toV))) else some (.frz o (.tup (vs.toList.map toV)))
 |_=>none
def GC (K:aa) (h:cr) (A:List ag):Hp:=λb=>if b∈A then(if(K.lookup b).isNone=true then(h.get? b).bind cY else none) else none
def e8 (H:Hp):Prop:=∀b,H b=none\/Ex2 λo u=>H b=some (.frz o u)
theorem RJ (vs:List ah):cY { cls:=.type "list",data:=.seq vs.toArray }=some (.frz { cls:=.type "list",data:=.seq vs.toArray } (.lst (vs.map toV))):=by
 show(if(jd "list"==jd "list")=true then some (HO.frz { cls:=.type "list",data:=.seq vs.toArray } (.lst (vs.toArray.toList.map toV))) else some (HO.frz { cls:=.type "list",data:=.seq vs.toArray } (.tup (vs.toArray.toList.map toV))))=_;rw[Ax (beq_self_eq_true _)]
theorem RK (vs:List ah):cY { cls:=.type "tuple",data:=.seq vs.toArray }=some (.frz { cls:=.type "tuple",data:=.seq vs.toArray } (.tup (vs.map toV))):=by
 show(if(jd "tuple"==jd "list")=true then some (HO.frz { cls:=.type "tuple",data:=.seq vs.toArray } (.lst (vs.toArray.toList.map toV))) else some (HO.frz { cls:=.type "tuple",data:=.seq vs.toArray } (.tup (vs.toArray.toList.map toV))))=_;rw[Ay (by decide)]
section
variable {P:bb} {w:bv} {K:aa} {h:cr} {A:List ag}
theorem LX {b:ag} {o:Obj} (hb:b∈A) (hk:K.lookup b=none) (e:h.get? b=some o):GC K h A b=cY o:=by
 unfold GC;rw[Ax hb,hk,Ax (show(none:Option Obj).isNone=true from rfl),e]<;>rfl
theorem cZ {b:ag} {u:HO} (q:GC K h A b=some u):b∈A/\K.lookup b=none:=by
 unfold GC at q;by_cases hb:b∈A
 ·rw[Ax hb] at q;cases hk:K.lookup b with
  |none=>exact⟨hb,rfl⟩
  |some o=>
   rw[hk,Ay (by simp)] at q;cases q
 ·rw[Ay hb] at q;cases q
theorem LY (ar:∀a∈A,ArgOb h A a) {b:ag} {u:HO} (q:GC K h A b=some u):K.lookup b=none/\∃vs:List ah,vs.length<=sizeLine/\(∀u∈vs,OkU A u)/\
 ((h.get? b=some { cls:=.type "list",data:=.seq vs.toArray }/\u= .frz { cls:=.type "list",data:=.seq vs.toArray } (.lst (vs.map toV)))\/
  (h.get? b=some { cls:=.type "tuple",data:=.seq vs.toArray }/\u= .frz { cls:=.type "tuple",data:=.seq vs.toArray } (.tup (vs.map toV)))):=by
 obtain⟨hb,hk⟩:=cZ q;obtain⟨vs,h1,h2,h3⟩:=ar b hb;refine⟨hk,vs,h1,h2,?_⟩;rcases h3 with e|e
 ·rw[LX hb hk e,RJ] at q;exact .inl ⟨e,(cw q).symm⟩
 ·rw[LX hb hk e,RK] at q;exact .inr ⟨e,(cw q).symm⟩
theorem W4 (ar:∀a∈A,ArgOb h A a):e8 (GC K h A):=λb=>by
 cases q:GC K h A b with
 |none=>exact .inl rfl
 |some u=>
  obtain⟨_,vs,_,_,⟨_,e⟩|⟨_,e⟩⟩:=LY ar q
  ·exact .inr ⟨_,_,by rw[e]⟩
  ·exact .inr ⟨_,_,by rw[e]⟩
theorem c4 (ar:∀a∈A,ArgOb h A a):HOk P w (GC K h A) h:=λb u q=>by
 obtain⟨_,vs,h1,h2,⟨e,rfl⟩|⟨e,rfl⟩⟩:=LY ar q
 ·exact⟨e,by rw[ai];exact h1,vs,_,GB h2,e⟩
 ·exact⟨e,by rw[ai];exact h1,vs,GB h2,_,e,rfl,_,rfl⟩
theorem LZ {c c':ah} {vs us:List ah} (e:(some { cls:=c,data:=.seq vs.toArray }:Option Obj)=some { cls:=c',data:=.seq us.toArray }):c=c'/\vs=us:=by
 have e1:=cw e;have e2:c=c':=congrArg Obj.cls e1;have e3:Data.seq vs.toArray=Data.seq us.toArray:=congrArg Obj.data e1;injection e3 with e4;refine⟨e2,?_⟩;have e5:=congrArg wK e4;simpa using e5
theorem sB (KX:K.In h) (ar:∀a∈A,ArgOb h A a) {a:ag} {vs:List ah} (ha:a∈A) (e:h.get? a=some { cls:=.type "list",data:=.seq vs.toArray }):(∀u∈vs,OkU A u)/\SqL K (GC K h A) a (vs.map toV):=by
 obtain⟨us,h1,h2,h3⟩:=ar a ha;have hu:us=vs:=by
  rcases h3 with q|q
  ·rw[e] at q;exact(LZ q).2.symm
  ·rw[e] at q;exact absurd (yC (LZ q).1) (by decide)
 subst hu;refine⟨h2,?_⟩;cases hk:K.lookup a with
 |none=>exact .inl (.inr ⟨_,by rw[LX ha hk e,RJ]⟩)
 |some o=>
  have e2:=KX a o hk;rw[e] at e2;obtain rfl:=cw e2;exact .inr ⟨_,us.toArray,_,hk,rfl,rfl,rfl,by rw[bn];exact h1,by simpa using GB h2⟩
theorem sC (KX:K.In h) (ar:∀a∈A,ArgOb h A a) {a:ag} {vs:List ah} (ha:a∈A) (e:h.get? a=some { cls:=.type "tuple",data:=.seq vs.toArray }):(∀u∈vs,OkU A u)/\SqT K (GC K h A) a (vs.map toV):=by
 obtain⟨us,h1,h2,h3⟩:=ar a ha;have hu:us=vs:=by
  rcases h3 with q|q
  ·rw[e] at q;exact absurd (yC (LZ q).1) (by decide)
  ·rw[e] at q;exact(LZ q).2.symm
 subst hu;refine⟨h2,?_⟩;cases hk:K.lookup a with
 |none=>exact .inl (.inr ⟨_,by rw[LX ha hk e,RK]⟩)
 |some o=>
  have e2:=KX a o hk;rw[e] at e2;obtain rfl:=cw e2;exact .inr ⟨_,us.toArray,_,hk,rfl,rfl,by rw[bn];exact h1,by simpa using GB h2⟩
mutual
theorem iD {Pm:vW} (KX:K.In h) (ar:∀a∈A,ArgOb h A a):∀(d:mz) (v:ah),Well Pm h v d->plW d=true->OkU A v->Dw K (GC K h A) (toV v) d
 | .none,_,x,_,_=>by
   cases x;exact .non
 | .bool b,_,x,_,_=>by
   cases x;exact .bl b
 | .int i,_,x,_,_=>by
   cases x;exact .int i
 | .str s,_,x,_,_=>by
   cases x;exact .str s
 | .bytes b,_,x,_,_=>by
   cases x;have z:=Dw.byt (K:=K) (H:=GC K h A) b.toArray;exact z
 | .list ds,_,x,p,hu=>by
   obtain⟨a,vs,rfl,ho,hall⟩:=OM x;obtain⟨h2,hs⟩:=sB KX ar hu ho;exact .lst hs (PU KX ar ds _ hall p h2)
 | .tuple ds,_,x,p,hu=>by
   obtain⟨a,vs,rfl,ho,hall⟩:=M3 x;obtain⟨h2,hs⟩:=sC KX ar hu ho;exact .tup hs (PU KX ar ds _ hall p h2)
 | .float _,_,_,p,_=>fb (show false=true from p)
 | .dict _,_,_,p,_=>fb (show false=true from p)
 | .bytearray _,_,_,p,_=>fb (show false=true from p)
 | .set _,_,_,p,_=>fb (show false=true from p)
 | .frozenset _,_,_,p,_=>fb (show false=true from p)
 | .obj _ _,_,_,p,_=>fb (show false=true from p)
theorem PU {Pm:vW} (KX:K.In h) (ar:∀a∈A,ArgOb h A a):∀(ds:List mz) (vs:List ah),vm Pm h vs ds->LF ds=true->(∀u∈vs,OkU A u)->DwAll K (GC K h A) (vs.map toV) ds
 |[],_,x,_,_=>by
  cases x;exact .nil
 |d::ds,_,x,p,hu=>by
  obtain⟨v,vs,rfl,x1,x2⟩:=ON x;have q:plW d=true/\LF ds=true:=vX.mp p;exact .cons (iD KX ar d v x1 q.1 (hu _ (bc ..))) (PU KX ar ds vs x2 q.2 λu m=>hu u (aq _ m))
end
end
theorem M4 {ds:List mz} (h:WData.layableAll ds=true):∀d∈ds,d.weight<=1048576:=λd hd=>
 (PySem.W.layableW_iff.mp (ko.mp h d hd)).2.2
theorem M5:∀(cs:List Codec) (a:tI cs),(sK cs a).length=cs.length
 |[],_=>rfl
 |c::cs,a=>by
  show(sK cs a.2).length+1=cs.length+1;rw[M5 cs a.2]
end L2
end
end
section
namespace L2
open PySem PySem.Spec PyProof.Rows
section
variable {P:bb} {w:bv} {K:aa} {mg:Str->Option ah} {base:cr}
theorem Fun.okx {x qual:Str} {st:dm} {f:ag} {fd:ez} {N ps:List Str} {k:Nat} {sp:Sp} (F:Fun K x qual st f fd) (S:FnScope N ps (AH st))
 (hbody:∀(Av:ah) (A:de) (outer:List Env) (s:aj) (H:Hp) (vs:List V) (Q:VK) (E:XK),Room k (A.deeper (ud qual (AH st) s.heap.objs.size f Av))->sp vs H Q E->
  ∃t,PSs (NY (CX1 P w) P w K mg base N qual (AH st) f Av A outer s H E) (BP st) t/\t { nx:=λ_ H'=>Q .non H',rt:=Q } (FJ N vs) H) (len:∀vs H Q E,sp vs H Q E->vs.length=ps.length:=by intro _ _ _ _ h;cases h;rename_i h;exact congrArg pc h.1):FnOk P w K mg base (CX1 P w) (k+1) f fd ps sp:=by
 obtain⟨oc,od,kV,doc,pm,an,Av,ct,osl,rfl,lk,hcd⟩:=F.ex;exact eW lk hcd S len λA outer s H vs Q E hr hsp=>hbody Av A outer s H vs Q E hr hsp
theorem Fun.oku {x qual:Str} {st:dm} {f:ag} {fd:ez} {N ps:List Str} {k:Nat} {sp:Sp} (F:Fun K x qual st f fd) (S:FnScope N ps (AH st))
 (hbody:∀(Av:ah) (A:de) (outer:List Env) (s:aj) (H:Hp) (vs:List V) (Q:VK) (E:XK),RoomU k (A.deeper (ud qual (AH st) s.heap.objs.size f Av))->sp vs H Q E->
  ∃t,PSs (Q9 (CX1 P w) P w K mg base N qual (AH st) f Av A outer s H E) (BP st) t/\t { nx:=λ_ H'=>Q .non H',rt:=Q } (FJ N vs) H) (len:∀vs H Q E,sp vs H Q E->vs.length=ps.length:=by intro _ _ _ _ h;cases h;rename_i h;exact congrArg pc h.1):FnOkU P w K mg base (CX1 P w) (k+1) f fd ps sp:=by
 obtain⟨oc,od,kV,doc,pm,an,Av,ct,osl,rfl,lk,hcd⟩:=F.ex;exact hU lk hcd S len λA outer s H vs Q E hr hsp=>hbody Av A outer s H vs Q E hr hsp
end
theorem out_cxU {P:bb} {w:bv} {K:aa} {mg:Str->Option ah} {base:cr} {N:List Str} {qual:Str} {scope:jj} {f:ag} {cd:ah} {A:de} {outer:List Env} {s:aj} {H:Hp} {E:XK}:
 Out (Q9 (CX1 P w) P w K mg base N qual scope f cd A outer s H E) E:=by
 intro Ap σ H1 s1 a C fs cx I n q;refine Q8 (C:=C) (fs:=fs) (cx:=cx) (L:=s.heap.objs.size) rfl rfl I.ok.frames I ?_ λH' s' I' n'=>?_
 ·rcases n with n|⟨L,e,n⟩
  ·exact .inl n
  ·have e':s.heap.objs.size=L:=cw e;subst e';exact .inr n
 ·exact⟨a,C,fs,cx,H',rfl,I'.os,I'.bare,I'.base,I'.hok,n',q⟩
def Def (P:bb) (w:bv) (K:aa) (mg:Str->Option ah) (base:cr) (k:Nat) (x:Str) (ps:List Str) (sp:Sp):Prop:=
 Ex2 λf fd=>mg x=some (.ref f)/\eq K (.ref f)=true/\Binds K fd ps []/\FnOk P w K mg base (CX1 P w) k f fd ps sp
def Mth (P:bb) (w:bv) (K:aa) (mg:Str->Option ah) (base:cr) (k:Nat) (C:ag) (m:Str) (ps:List Str) (sp:Sp):Prop:=
 Cls K C/\Ex2 λf fd=>Meth K C m f/\Binds K fd ps []/\FnOk P w K mg base (CX1 P w) k f fd ps sp
def Mkr (P:bb) (w:bv) (K:aa) (mg:Str->Option ah) (base:cr) (k:Nat) (C:ag) (x:Str) (ps:List Str) (sp:Sp):Prop:=
 mg x=some (.ref C)/\Ex2 λf fd=>Mk K C f/\Binds K fd ps []/\FnOk P w K mg base (CX1 P w) k f fd ps sp
def XMr (P:bb) (w:bv) (K:aa) (mg:Str->Option ah) (base:cr) (k:Nat) (C:ag) (x:Str) (ps:List Str) (sp:Sp):Prop:=
 mg x=some (.ref C)/\XCls K C/\Ex2 λf fd=>XMk K C f/\Binds K fd ps []/\FnOkU P w K mg base (CX1 P w) k f fd ps sp
section
variable {X:Cx} {k k':Nat} {x m:Str} {C:ag} {ps:List Str} {sp:Sp} {E:XK} {p pos apos:Pos} {e o:Expr} {es:List Expr} {ta:TE} {t:TA}
theorem Def.call (D:Def X.prog X.w X.K X.mg X.base k x ps sp) (hr:Room k' X.A) (hx:Out X E) (ha:PA X (e::es) t) (hk:k<=k':=by decide) (hg:Gl X x:=by rfl) (hdb:(x==("__debug__":Str))=false:=by decide)
 (he:be (e::es) X.env=(false,eval e X.env)::be es X.env:=by rfl) (hpl:(ie pos (be es X.env)).any (·.1)=false:=by rfl):PE X (.Call (.Name x p) (e::es) [] pos) (K1 sp [] E t):=by
 obtain⟨f,fd,hm,hkp,hb,F⟩:=D;exact cH F (hr.mono hk) hg hm hkp hb .nil hx.passes ha hdb he hpl
theorem Mth.call {pl:Sem Bool} (D:Mth X.prog X.w X.K X.mg X.base k C m ps sp) (ho:PE X o ta) (hr:Room k' X.A) (hx:Out X E) (ha:PA X (e::es) t) (hk:k<=k':=by decide)
 (hst:be (e::es) X.env=(false,eval e X.env)::be es X.env:=by rfl) (hpl:(ie pos (be es X.env)).any (·.1)=false:=by rfl)
 (ht:eval (.Call (.Attribute o m apos) (e::es) [] pos) X.env=(do
  let ov←eval o X.env
  mq apos.atName
  let (f,first)←lp [ov] (kl ov m pl)
  mw pos f first (ie pos (be (e::es) X.env)) (js pos (gj [] X.env))):=by rfl):
 PE X (.Call (.Attribute o m apos) (e::es) [] pos) (QX C m sp [] E ta t):=by
 obtain⟨c,f,fd,hm,hb,F⟩:=D;exact cI ho c hm F (hr.mono hk) hb .nil hx.passes ha hst hpl ht
theorem Mth.call0 {pl:Sem Bool} (D:Mth X.prog X.w X.K X.mg X.base k C m ps sp) (ho:PE X o ta) (hr:Room k' X.A) (hx:Out X E) (hk:k<=k':=by decide)
 (ht:eval (.Call (.Attribute o m apos) [] [] pos) X.env=(do
  let ov←eval o X.env
  mq apos.atName
  let (f,first)←lp [ov] (kl ov m pl)
  mw pos f first (ie pos (be [] X.env)) (js pos (gj [] X.env))):=by rfl):
 PE X (.Call (.Attribute o m apos) [] [] pos) (QX C m sp [] E ta EK):=by
 obtain⟨c,f,fd,hm,hb,F⟩:=D;exact YK ho c hm F (hr.mono hk) hb .nil hx.passes ht
theorem Mkr.call (D:Mkr X.prog X.w X.K X.mg X.base k C x ps sp) (hr:Room k' X.A) (hx:Out X E) (ha:PA X (e::es) t) (hk:k+1<=k':=by decide) (hg:Gl X x:=by rfl) (hdb:(x==("__debug__":Str))=false:=by decide)
 (he:be (e::es) X.env=(false,eval e X.env)::be es X.env:=by rfl) (hpl:(ie pos (be es X.env)).any (·.1)=false:=by rfl):PE X (.Call (.Name x p) (e::es) [] pos) (UV C sp [] E t):=by
 obtain⟨hm,f,fd,M,hb,F⟩:=D;exact cJ M F (hr.mono hk) hg hm hb .nil hx.passes ha hdb he hpl
theorem Mkr.call0 (D:Mkr X.prog X.w X.K X.mg X.base k C x ps sp) (hr:Room k' X.A) (hx:Out X E) (hk:k+1<=k':=by decide) (hg:Gl X x:=by rfl) (hdb:(x==("__debug__":Str))=false:=by decide):
 PE X (.Call (.Name x p) [] [] pos) (UV C sp [] E EK):=by
 obtain⟨hm,f,fd,M,hb,F⟩:=D;exact YL M F (hr.mono hk) hg hm hb .nil hx.passes hdb
theorem XMr.call (D:XMr X.prog X.w X.K X.mg X.base k C x ps sp) (hr:RoomU k' X.A) (hx:Out X E) (ha:PA X (e::es) t) (hk:k+1<=k':=by decide) (hg:Gl X x:=by rfl) (hdb:(x==("__debug__":Str))=false:=by decide)
 (he:be (e::es) X.env=(false,eval e X.env)::be es X.env:=by rfl) (hpl:(ie pos (be es X.env)).any (·.1)=false:=by rfl):PE X (.Call (.Name x p) (e::es) [] pos) (MY C sp E t):=by
 obtain⟨hm,_,f,fd,M,hb,F⟩:=D;exact Y0 M F (hr.mono hk) hg hm hb hx.passes ha hdb he hpl
theorem XMr.call0 (D:XMr X.prog X.w X.K X.mg X.base k C x ps sp) (hr:RoomU k' X.A) (hx:Out X E) (hk:k+1<=k':=by decide) (hg:Gl X x:=by rfl) (hdb:(x==("__debug__":Str))=false:=by decide):
 PE X (.Call (.Name x p) [] [] pos) (MY C sp E EK):=by
 obtain⟨hm,_,f,fd,M,hb,F⟩:=D;exact W0 M F (hr.mono hk) hg hm hb hx.passes hdb
end
section
variable {X:Cx}
theorem L0:OpR X (sd .Mult) (rI IntMulOk λi j=>.int (i*j)):=opI λ_ _ _ _ _ _ _ hc q=>mul_int q hc
def mG (i j:Int):Prop:=0<j/\j<2 ^ 1000
theorem Y6:OpR X (sd .FloorDiv) (rI mG λi j=>.int (i / j)):=opI λi j _ _ _ _ _ hc q=>by
 have h0:j.natAbs<2 ^ 1000:=by have:=hc.1;have:=hc.2;omega
 have hl:j.natAbs.log2<9000:=by
  have hne:j.natAbs≠0:=by have:=hc.1;omega
  have h1:2 ^ j.natAbs.log2<=j.natAbs:=Nat.log2_self_le hne;have h2:2 ^ j.natAbs.log2<2 ^ 1000:=ui h1 h0;have h3:=(Nat.pow_lt_pow_iff_right (by decide:1<2)).mp h2;omega
 have e:i / j=i.fdiv j:=(tY i (Int.le_of_lt hc.1)).symm;rw[e] at q;exact floordiv_int (by have:=hc.1;omega) q (.inl (PyProof.noPylong_of_log2 hl))
end
def Sb (r:ag) (H H':Hp):Prop:=∀b o,H b=some o->b≠r->H' b=some o
theorem Sb.trans {r:ag} {H H1 H2:Hp} (a:Sb r H H1) (b:Sb r H1 H2):Sb r H H2:=λc o e n=>b c o (a c o e n) n
theorem Sb.refl {r:ag} {H:Hp}:Sb r H H:=λ_ _ e _=>e
theorem Same.sb {r:ag} {H H':Hp} (s:Same H H'):Sb r H H':=λb o e _=>s b o e
theorem Same.upd {H:Hp} {a:ag} {o:HO} (n:H a=none):Same H (upd H a o):=λb u e=>by rw[AE (AG e n)];exact e
theorem Same.tup {K:aa} {H H':Hp} {a:ag} {xs:List V} (e:Same H H') (h:SqT K H a xs):SqT K H' a xs:=by
 rcases h with(h|⟨o,h⟩)|h
 ·exact .inl (.inl (e _ _ h))
 ·exact .inl (.inr ⟨o,e _ _ h⟩)
 ·exact .inr h
end L2
end
section
namespace L2
open PySem PySem.Spec PyProof.Rows
section
variable {t0 t1 t2 t3 t4 t5 t6 t7 t8 t9:TS} {D:Ends} {σ:St} {H:Hp}
theorem lb1 (h:let U1:=t1;let D':=D;let σ':=σ;AV t0 U1 D' σ' H):(AV t0 t1) D σ H:=h
theorem lb2 (h:let U2:=t2;let U1:=AV t1 U2;let D':=D;let σ':=σ;AV t0 U1 D' σ' H):(AV t0 (AV t1 t2)) D σ H:=h
theorem lb3 (h:let U3:=t3;let U2:=AV t2 U3;let U1:=AV t1 U2;let D':=D;let σ':=σ;AV t0 U1 D' σ' H):(AV t0 (AV t1 (AV t2 t3))) D σ H:=h
theorem lb4 (h:let U4:=t4;let U3:=AV t3 U4;let U2:=AV t2 U3;let U1:=AV t1 U2;let D':=D;let σ':=σ;AV t0 U1 D' σ' H):(AV t0 (AV t1 (AV t2 (AV t3 t4)))) D σ H:=h
theorem lb5 (h:let U5:=t5;let U4:=AV t4 U5;let U3:=AV t3 U4;let U2:=AV t2 U3;let U1:=AV t1 U2;let D':=D;let σ':=σ;AV t0 U1 D' σ' H):(AV t0 (AV t1 (AV t2 (AV t3 (AV t4 t5))))) D σ H:=h
theorem lb6 (h:let U6:=t6;let U5:=AV t5 U6;let U4:=AV t4 U5;let U3:=AV t3 U4;let U2:=AV t2 U3;let U1:=AV t1 U2;let D':=D;let σ':=σ;AV t0 U1 D' σ' H):(AV t0 (AV t1 (AV t2 (AV t3 (AV t4 (AV t5 t6)))))) D σ H:=h
theorem lb7 (h:let U7:=t7;let U6:=AV t6 U7;let U5:=AV t5 U6;let U4:=AV t4 U5;let U3:=AV t3 U4;let U2:=AV t2 U3;let U1:=AV t1 U2;let D':=D;let σ':=σ;AV t0 U1 D' σ' H):(AV t0 (AV t1 (AV t2 (AV t3 (AV t4 (AV t5 (AV t6 t7))))))) D σ H:=h
theorem lb8 (h:let U8:=t8;let U7:=AV t7 U8;let U6:=AV t6 U7;let U5:=AV t5 U6;let U4:=AV t4 U5;let U3:=AV t3 U4;let U2:=AV t2 U3;let U1:=AV t1 U2;let D':=D;let σ':=σ;AV t0 U1 D' σ' H):(AV t0 (AV t1 (AV t2 (AV t3 (AV t4 (AV t5 (AV t6 (AV t7 t8)))))))) D σ H:=h
theorem lb9 (h:let U9:=t9;let U8:=AV t8 U9;let U7:=AV t7 U8;let U6:=AV t6 U7;let U5:=AV t5 U6;let U4:=AV t4 U5;let U3:=AV t3 U4;let U2:=AV t2 U3;let U1:=AV t1 U2;let D':=D;let σ':=σ;AV t0 U1 D' σ' H):(AV t0 (AV t1 (AV t2 (AV t3 (AV t4 (AV t5 (AV t6 (AV t7 (AV t8 t9))))))))) D σ H:=h
theorem lb0 (h:let D':=D;let σ':=σ;t0 D' σ' H):t0 D σ H:=h
end
theorem AW {X:Cx} {x:Str} {e:Expr} {te:TE} {pos pos':Pos} {N ps:List Str} {sc:jj} (i:Nat) (S:FnScope N ps sc) (he:PE X e te) (hN:X.N=N:=by rfl) (hi:X.N[i]? =some x:=by rfl) (hx:Loc X.env.scope x:=by first|exact uj rfl|exact xu rfl) (hs:pq e (some (.Name x pos')) pos.line X.env=pure false:=by rfl) (hf:X.fn x=true\/X.env.scope.names.lookup x=some .local:=by first|exact .inl rfl|exact .inr rfl|assumption):
 PS X (.Assign [.Name x pos'] e pos) (YA te (ME i)):=gO (hN▸S.nd) hi hx he hs hf
theorem DT {X:Cx} {x:Str} {pos:Pos} {N ps:List Str} {sc:jj} (i:Nat) (S:FnScope N ps sc) (hN:X.N=N:=by rfl) (hi:X.N[i]? =some x:=by rfl) (hx:Loc X.env.scope x:=by first|exact uj rfl|exact xu rfl) (hf:X.fn x=true\/X.env.scope.names.lookup x=some .local:=by first|exact .inl rfl|exact .inr rfl|assumption):PG X (.Name x pos) (ME i):=PB (hN▸S.nd) hi hx hf
end L2
end
local macro_rules|`(tactic| and_intros)=>`(tactic| first|(refine L2.lb9 ?_;intros)|(refine L2.lb8 ?_;intros)|(refine L2.lb7 ?_;intros)|(refine L2.lb6 ?_;intros)|(refine L2.lb5 ?_;intros)|(refine L2.lb4 ?_;intros)|(refine L2.lb3 ?_;intros)|(refine L2.lb2 ?_;intros)|(refine L2.lb1 ?_;intros))
local macro_rules|`(tactic| subst_eqs)=>`(tactic| (refine L2.lb0 ?_;intros))
section
namespace Lt
open PySem PySem.Spec PyProof.Rows L2
variable {f a C CR CT r ta CI CL CN:ag} {fd:ez} {X:Cx} {x:List Int} {i n e p q:Nat} {pos:Pos} {z dz fz:Str} {xs:List V} {H H' H1:Hp} {E:XK} {cs t ci ct:List UInt8} {α β:Type} {Q:VK} {ls fr co ba:List (List Int)} {P:bb} {w:bv} {h:cr} {ps:List Str}
def top (i:Nat):dm:=PySem.Challenge.pw_lutesounds_s03_at.main.body.getD i (.Pass ⟨0,0,0,0⟩)
abbrev EL:dm:=top 5
abbrev CA:dm:=top 6
abbrev FS:dm:=top 7
abbrev IP:dm:=top 8
abbrev M6:dm:=top 9
abbrev IQ:dm:=top 10
abbrev FT:dm:=top 11
abbrev PV:dm:=top 12
abbrev D8:dm:=BJ (top 14) 0
abbrev E4:dm:=BJ (top 15) 0
abbrev C9:dm:=BJ (top 16) 0
abbrev E5:dm:=BJ (top 17) 0
abbrev FU:dm:=BJ (top 18) 0
abbrev DA:dm:=BJ (top 19) 0
abbrev E6:dm:=BJ (top 20) 0
abbrev FV:dm:=top 24
abbrev FW:dm:=BJ (top 25) 0
abbrev E7:dm:=BJ (top 25) 1
abbrev FX:dm:=BJ (top 25) 2
abbrev FY:dm:=BJ (top 25) 3
abbrev FZ:dm:=BJ (top 25) 4
abbrev F0:dm:=BJ (top 25) 5
abbrev CJ:dm:=BJ (top 25) 6
abbrev EM:dm:=top 29
abbrev F1:dm:=top 30
abbrev E8:dm:=top 31
abbrev DU:dm:=top 32
abbrev GN:dm:=top 33
abbrev F2:dm:=top 34
abbrev DV:dm:=BJ (top 42) 0
abbrev BV:dm:=BJ (top 42) 1
abbrev CC:dm:=BJ (top 42) 2
abbrev DL:dm:=BJ (top 42) 3
abbrev DW:dm:=top 43
abbrev BW:dm:=top 44
abbrev B7:dm:=top 46
abbrev G7:dm:=top 48
abbrev F3:dm:=top 49
abbrev G8:dm:=top 50
abbrev G9:dm:=top 51
abbrev HA:dm:=top 52
abbrev HB:dm:=BJ (top 56) 0
abbrev HC:dm:=top 57
abbrev GO:dm:=top 58
abbrev HD:dm:=top 59
abbrev BM:dm:=top 60
abbrev IR:dm:=top 61
abbrev GD:dm:=top 62
abbrev DB:dm:=top 73
abbrev CS:dm:=top 74
abbrev DC:dm:=top 75
abbrev HE:dm:=top 76
abbrev IS:dm:=top 77
abbrev DM:dm:=top 78
abbrev DN:dm:=top 79
abbrev DO:dm:=top 80
abbrev EN:dm:=top 81
abbrev HF:dm:=BJ (top 89) 0
abbrev F4:dm:=BJ (top 89) 1
abbrev E9:dm:=BJ (top 89) 2
abbrev GP:dm:=top 90
abbrev HG:dm:=top 91
abbrev DP:dm:=top 92
abbrev CU:dm:=top 94
abbrev GQ:dm:=top 96
abbrev DE:dm:=top 98
abbrev D9:dm:=BJ (top 103) 0
abbrev c5:dm:=top 104
abbrev EA:dm:=top 105
abbrev FA:dm:=top 106
abbrev F5:dm:=top 107
abbrev EO:dm:=top 108
abbrev IT:dm:=top 109
abbrev GR:dm:=top 110
abbrev EQ:dm:=top 111
structure Blt (mg:Str->Option ah):Prop where
 abs:mg "abs"=none
 len:mg "len"=none
 range:mg "range"=none
 enum:mg "enumerate"=none
 ord:mg "ord"=none
 list:mg "list"=none
 tuple:mg "tuple"=none
 rev:mg "reversed"=none
 sum:mg "sum"=none
theorem M7:jp "abs"=some (.builtin "abs"):=by decide +kernel
theorem Y7:jp "ord"=some (.builtin "ord"):=by decide +kernel
theorem RL:jp "tuple"=some (.type "tuple"):=by decide +kernel
theorem RM:jp "list"=some (.type "list"):=by decide +kernel
section
variable {P:bb} {w:bv} {K:aa} {mg:Str->Option ah} {base:cr}
def iE:Sp:=λvs H Q _=>Ex2 λx y:Int=>vs=[.int x,.int y]/\Q (.int (qd x y)) H
theorem OO:FnScope ["x","y","rest"] ["x","y"] (AH EL):={}
theorem PY (x:Int):(if x<0 then -x else x)=(x.natAbs:Int):=by split<;>omega
theorem mH (F:Fun K "common_factor" "common_factor" EL f fd) (B:Blt mg):FnOk P w K mg base (CX1 P w) 1 f fd ["x","y"] iE:=by
 refine F.okx OO λAv A outer s H vs Q E hr h=>?_;obtain⟨x,y,rfl,k⟩:=h;refine⟨_,AB (AW 0 OO (AY MG (by rfl) B.abs M7 (AA (pv 0) AF)))
  (AB (AW 1 OO (AY MG (by rfl) B.abs M7 (AA (pv 1) AF)))
  (AB (B4 bo (AO E1 (pv 1) AI (AQ _))
   (AB (AW 2 OO (BC SO (pv 0) (pv 1)))
   (AB (AW 0 OO (pv 1)) (AC (AW 1 OO (pv 2))))))
  (AC (AJ (pv 0))))),?_⟩
 and_intros
 refine⟨_,rfl,x,rfl,_,rfl,y,rfl,?_⟩;rw[PY,PY];refine QW (λσ H'=>H'=H/\Ex3 λ(m n:Nat) (r:Option V)=>σ=[some (.int m),some (.int n),r]/\oa m n=qd x y) (λσ _=>match σ with|[_,some (.int n),_]=>n.toNat|_=>0)
  ⟨rfl,x.natAbs,y.natAbs,none,rfl,rfl⟩ ?_ ?_
 ·rintro σ H' ⟨rfl,m,n,r,rfl,g⟩;refine⟨_,rfl,_,_,rfl,rfl,_,rfl,?_⟩;refine B9 (λhn=>?_) (λhn=>?_)
  ·have hn0:0<(n:Int):=by simpa using hn
   refine⟨_,rfl,_,rfl,_,_,rfl,rfl,hn0,_,rfl,_,rfl,⟨rfl,n,m%n,some (.int (m%n:Nat)),?_,?_⟩,?_⟩
   ·simp
   ·rw[←g,wW m n,Nat.gcd_rec n m,wW]
   ·show((m:Int)%(n:Int)).toNat<(n:Int).toNat;have:=Int.emod_lt_of_pos (m:Int) hn0;have:=Int.emod_nonneg (m:Int) (by omega:(n:Int)≠0);omega
  ·have hn0:n=0:=by
    have:¬(0:Int)<n:=by simpa using hn
    omega
   subst hn0;refine⟨_,rfl,?_⟩;rw[Nat.gcd_zero_right] at g;rw[g];exact k
 ·rintro σ H' Q1 Q2 hq ⟨v1,e1,z1⟩;exact⟨v1,e1,let ⟨i,j,a,b,c,d,e⟩:=z1;⟨i,j,a,b,c,d,hq _ _ e⟩⟩
end
open PySem PySem.Spec PyProof.Rows L2
def GI (mg:Str->Option ah) (x:Str) (i:Int):Prop:=∃u,mg x=some u/\RelV (.int i) u
def GS (mg:Str->Option ah) (x:Str) (z:Str):Prop:=∃u,mg x=some u/\RelV (.str z) u
def GT (K:aa) (mg:Str->Option ah) (x:Str) (xs:List V):Prop:=∃a,mg x=some (.ref a)/\∀H,SqT K H a xs
theorem B0 {x:Str} {i:Int} (h:GI X.mg x i) (hg:Gl X x:=by rfl) (hd:(x==("__debug__":Str))=false:=by decide):PE X (.Name x pos) (tC (.int i)):=
 let ⟨_,hm,r⟩:=h;O9 hg hm r hd
theorem FB {x:Str} (h:GS X.mg x z) (hg:Gl X x:=by rfl) (hd:(x==("__debug__":Str))=false:=by decide):PE X (.Name x pos) (tC (.str z)):=
 let ⟨_,hm,r⟩:=h;O9 hg hm r hd
def tGT (K:aa) (xs:List V):TE:=λ_ H Q=>∀a,(∀H',SqT K H' a xs)->Q (.ref a) H
theorem OP {x:Str} (h:GT X.K X.mg x xs) (hg:Gl X x:=by rfl) (hd:(x==("__debug__":Str))=false:=by decide):PE X (.Name x pos) (tGT X.K xs):=by
 obtain⟨a,hm,r⟩:=h;intro Ap s σ H Q I q;exact O9 (v:=.ref a) hg hm rfl hd Ap s σ H Q I (q a r)
section
variable {P:bb} {w:bv} {K:aa} {mg:Str->Option ah} {base:cr}
def GU (g:Nat) (l:List Int):Nat:=l.foldl (λ(g:Nat) (x:Int)=>qd g x) g
def BX (l:List Int):Nat:=GU 0 l
def Y8 (K:aa):Sp:=λvs H Q _=>Ex2 λ(a:ag) (l:List Int)=>vs=[.ref a]/\(SqL K H a (l.map V.int)\/SqT K H a (l.map V.int))/\Q (.int (BX l)) H
theorem IU:FnScope ["numbers","common","number"] ["numbers"] (AH CA):={}
theorem RN {l:List Int} {z:Int} (h:l[i]? =some z):BX (l.take (i+1))=qd (BX (l.take i)) z:=by
 rw[dk,h];unfold BX GU;rw[wX];rfl
theorem L7 {l:List Int} {y:V} (h:(l.map V.int)[i]? =some y):∃z,l[i]? =some z/\y= .int z:=by
 rw[az] at h;cases e:l[i]? with
 |none=>rw[e] at h;cases h
 |some z=>rw[e] at h;exact⟨z,rfl,(cw h).symm⟩
theorem iF (F:Fun K "common_factor_of_all" "common_factor_of_all" CA f fd) (D1:Def P w K mg base 1 "common_factor" ["x","y"] iE):
 FnOk P w K mg base (CX1 P w) 2 f fd ["numbers"] (Y8 K):=by
 refine F.okx IU λAv A outer s H vs Q E hr h=>?_;obtain⟨a,l,rfl,hl|hl,k⟩:=h
 ·refine⟨_,AB (AW 1 IU AI) (AB (B5 bo rfl (DG (pv 0)) (DT 2 IU)
   (AC (AW 1 IU (D1.call hr AD (AA (pv 1) (AA (pv 2) AF)))))) (AC (AJ (pv 1)))),?_⟩
  and_intros
  refine⟨_,rfl,a,rfl,⟨_,hl⟩,DD (K:=K) (a:=a) (xs:=l.map V.int) (λi σ H'=>H'=H/\∃r,σ=[some (.ref a),some (.int (BX (l.take i))),r]) ⟨rfl,none,rfl⟩ (λi σ H' _ ⟨e,_⟩=>e▸hl) ?_ ?_⟩
  ·rintro i y σ H' hi ⟨rfl,r,rfl⟩
   subst_eqs
   obtain⟨z,hz,rfl⟩:=L7 hi;refine⟨_,rfl,_,rfl,_,_,rfl,rfl,some (.int z),?_⟩;rw[RN hz];rfl
  ·rintro σ H' ⟨rfl,r,rfl⟩;rw[ai,ff];exact⟨_,rfl,k⟩
 ·refine⟨_,AB (AW 1 IU AI) (AB (B5 bo rfl (YC (pv 0)) (DT 2 IU)
   (AC (AW 1 IU (D1.call hr AD (AA (pv 1) (AA (pv 2) AF)))))) (AC (AJ (pv 1)))),?_⟩
  and_intros
  refine⟨_,rfl,a,rfl,⟨_,hl⟩,UQ (K:=K) (a:=a) (xs:=l.map V.int) (λi σ H'=>H'=H/\∃r,σ=[some (.ref a),some (.int (BX (l.take i))),r]) ⟨rfl,none,rfl⟩ (λi σ H' _ ⟨e,_⟩=>e▸hl) ?_ ?_⟩
  ·rintro i y σ H' hi ⟨rfl,r,rfl⟩
   subst_eqs
   obtain⟨z,hz,rfl⟩:=L7 hi;refine⟨_,rfl,_,rfl,_,_,rfl,rfl,some (.int z),?_⟩;rw[RN hz];rfl
  ·rintro σ H' ⟨rfl,r,rfl⟩;rw[ai,ff];exact⟨_,rfl,k⟩
def F6 (l:List Int):Bool:=(l.take 4).all (λp=>decide (p.natAbs<=99))&&(decide (1<=l.getD 4 0)&&decide (l.getD 4 0<=24)&&decide (BX l=1))
def iG (K:aa):Sp:=λvs H Q _=>Ex2 λ(a:ag) (l:List Int)=>vs=[.ref a]/\SqT K H a (l.map V.int)/\l.length=5/\∀H',Same H H'->Q (.bl (F6 l)) H'
theorem e9:FnScope ["numbers","power"] ["numbers"] (AH FS):={}
theorem W5 {l:List Int} {z:Int} (h:(l.take 4)[i]? =some z) (hz:99<z.natAbs):F6 l=false:=by
 have hm:z∈l.take 4:=bz h;unfold F6;have:(l.take 4).all (λp=>decide (p.natAbs<=99))=false:=by
  rw[wY];exact⟨z,hm,by simp;omega⟩
 rw[this];rfl
theorem mI (F:Fun K "is_interval" "is_interval" FS f fd) (B:Blt mg) (gw:GI mg "WIDEST_POWER" 99) (gf:GI mg "FINEST_PART" 24) (D1:Def P w K mg base 2 "common_factor_of_all" ["numbers"] (Y8 K)):
 FnOk P w K mg base (CX1 P w) 3 f fd ["numbers"] (iG K):=by
 refine F.okx e9 λAv A outer s H vs Q E hr h=>?_;obtain⟨a,l,rfl,hl,h5,k⟩:=h;refine⟨_,AB (AX (AO eU (AY AN (by rfl) B.len cu (AA (pv 0) AF)) AI (AQ _)) (AC (AJ MD)) AM)
  (AB (B5 bo rfl (YC (YN gW (pv 0) cM (cO AI))) (DT 1 e9)
   (AC (AX (AO E1 (AY MG (by rfl) B.abs M7 (AA (pv 1) AF)) (B0 gw) (AQ _)) (AC (AJ MD)) AM)))
  (AC (AJ (X9 (YF KZ KZ AI (BI DK (pv 0) AI (λ_ _=>rfl)) (B0 gf))
   (X7 (DR CP (D1.call hr AD (AA (pv 0) AF)) AI (AQ _))))))),?_⟩
 and_intros
 refine⟨_,rfl,a,l.map V.int,rfl,.inr hl,rfl,_,rfl,?_⟩;refine l3 (by rw[ai,h5];rfl) ?_;have hc:Q0 (l.map V.int) none (some 4)=(l.take 4).map V.int:=by
  unfold Q0;rw[ai,h5,zh];rfl
 refine⟨_,rfl,4,rfl,a,l.map V.int,rfl,hl,?_,λp hp=>⟨p,rfl,⟨_,SqT.of upd_same⟩,?_⟩⟩
 ·rw[ai,h5];decide
 rw[hc];have s1:Same H (upd H p (.tup ((l.take 4).map V.int))):=Same.upd hp;refine UQ (K:=K) (a:=p) (xs:=(l.take 4).map V.int) (λi σ H'=>H'=upd H p (.tup ((l.take 4).map V.int))/\(∃r,σ=[some (.ref a),r])/\((l.take 4).take i).all (λp=>decide (p.natAbs<=99))=true) ⟨rfl,⟨none,rfl⟩,rfl⟩
  (λi σ H' _ ⟨e,_⟩=>by rw[e];exact SqT.of upd_same) ?_ ?_
 ·rintro i y σ H' hi ⟨rfl,⟨r,rfl⟩,ha⟩
  subst_eqs
  obtain⟨z,hz,rfl⟩:=L7 hi;refine⟨_,rfl,z,rfl,_,_,rfl,rfl,_,rfl,?_⟩;rw[PY];refine B9 (λh=>?_) (λh=>?_)
  ·have h9:(99:Int)<z.natAbs:=by simpa using h
   have e:=W5 hz (by omega);have q:=k _ s1;rw[e] at q;exact q
  ·have h9:¬(99:Int)<z.natAbs:=by simpa using h
   refine⟨rfl,⟨some (.int z),rfl⟩,?_⟩;rw[dk,hz,xY,ha];simp;omega
 ·rintro σ H' ⟨rfl,⟨r,rfl⟩,ha⟩;rw[ai,ff] at ha;obtain⟨d,hd⟩:∃d,l[4]? =some d:=⟨_,am (by omega:4<l.length)⟩
  have eg:l.getD 4 0=d:=by simp[uX,hd]
  refine⟨_,rfl,a,l.map V.int,4,.int d,rfl,rfl,s1.tup hl,DH (by rw[az,hd];rfl),_,_,rfl,rfl,_,rfl,?_⟩;have q:=k _ s1;unfold F6 at q;rw[ha,eg,qp] at q;refine B9 (λh=>?_) (λh=>?_)
  ·have h1:(1:Int)<=d:=by simpa using h
   rw[decide_eq_true h1,qp] at q;refine⟨_,_,rfl,rfl,_,rfl,?_⟩;refine B9 (λh'=>?_) (λh'=>?_)
   ·have h2:d<=24:=by simpa using h'
    rw[decide_eq_true h2,qp] at q;refine⟨_,rfl,a,l,rfl,.inr (s1.tup hl),rfl,?_⟩;have e:decide (V.int ((BX l:Nat):Int)=V.int 1)=decide (BX l=1):=by
     rw[decide_eq_decide];constructor
     ·intro z;injection z with z;omega
     ·intro z;rw[z];rfl
    rw[e];exact q
   ·have h2:¬d<=24:=by simpa using h'
    rw[decide_eq_false h2,tX] at q;exact q
  ·have h1:¬(1:Int)<=d:=by simpa using h
   rw[decide_eq_false h1,tX,tX] at q;exact⟨_,rfl,BH q⟩
end
open PySem PySem.Spec PyProof.Rows L2
section
variable {P:bb} {w:bv} {K:aa} {mg:Str->Option ah} {base:cr}
theorem FL (K:aa) (h:X.K=K:=by rfl):IxR X (lV K):=h▸DK
def SqE (K:aa) (H:Hp) (p:ag) (xs:List V):Prop:=SqL K H p xs\/SqT K H p xs
theorem _root_.L2.Same.sqe {K:aa} (e:Same H H') (h:SqE K H a xs):SqE K H' a xs:=h.imp e.seq e.tup
def mJ (K:aa):R2:=λx y H Q=>IxAt (SqE K H) x y λv=>Q v H
theorem mK:IxR X (mJ X.K):=by
 intro value slice Ap s σ H x y v u Q I rx ry q hs;obtain⟨p,xs,i,w,e,e',h1|h1,h2,h⟩:=q
 ·exact CK value slice Ap s σ H x y v u Q I rx ry ⟨p,xs,i,w,e,e',h1,h2,h⟩ hs
 ·exact DK value slice Ap s σ H x y v u Q I rx ry ⟨p,xs,i,w,e,e',h1,h2,h⟩ hs
theorem fA (K:aa) (h:X.K=K:=by rfl):IxR X (mJ K):=h▸mK
def LG (x y:List Int) (k:Nat):Int:=x.getD k 0*y.getD 4 0+y.getD k 0*x.getD 4 0
def EB (x y:List Int):List Int:=(jn 4).map (LG x y)++[x.getD 4 0*y.getD 4 0]
def BU (x y:List Int):List Int:=(EB x y).map λz=>z / (BX (EB x y):Int)
def c6 (K:aa):Sp:=λvs H Q _=>Ex4 λ(ax ay:ag) (x y:List Int)=>vs=[.ref ax,.ref ay]/\SqE K H ax (x.map V.int)/\SqT K H ay (y.map V.int)/\x.length=5/\y.length=5/\(∀z∈x,z.natAbs<2 ^ 60)/\
 0<x.getD 4 0/\0<y.getD 4 0/\y.getD 4 0<2 ^ 60/\∀H' r,Same H H'->H' r=some (.tup ((BU x y).map V.int))->Q (.ref r) H'
theorem sc_up:FnScope ["x","y","numbers","common","k","number"] ["x","y"] (AH IP):={}
def JI:Expr->jj
 | .ListComp _ _ sc _=>sc
 | .Call _ (e::_) _ _=>JI e
 |_=>{ kind:=.function,names:=[],isGenerator:=false,isCoroutine:=false }
def rhs:dm->Expr
 | .Assign _ e _=>e
 | .Return (some e) _=>e
 |_=>.Constant .none 0 ⟨0,0,0,0⟩
theorem c7:BlkOk ["x","y","numbers","common","k","number"] (AH IP) (JI (rhs ((BP IP).getD 0 (.Pass ⟨0,0,0,0⟩)))) [("k",4)]:={}
theorem c8:BlkOk ["x","y","numbers","common","k","number"] (AH IP) (JI (rhs ((BP IP).getD 3 (.Pass ⟨0,0,0,0⟩)))) [("number",5)]:={}
theorem ER {l:List Int} {z:Int} (hz:(i:Int)=z) (hi:i<l.length):atI (l.map V.int) z=some (.int (l.getD i 0)):=by
 rw[←hz];exact DH (by rw[az,am hi];simp[uX,am hi])
theorem Y9 {l:List Int} (hi:i<l.length):l.getD i 0∈l:=by
 simp[uX,am hi]
theorem JJ:∀(l:List Int) (g:Nat),GU g l∣g/\∀z∈l,((GU g l:Nat):Int)∣z
 |[],g=>⟨wZ _,λz h=>by simp at h⟩
 |x::l,g=>by
  obtain⟨h1,h2⟩:=JJ l (qd g x);have e:GU g (x::l)=GU (qd g x) l:=rfl;rw[e];refine⟨oo h1 ?_,λz hz=>?_⟩
  ·have:=Int.gcd_dvd_left (a:=(g:Int)) (b:=x);exact uY.mp this
  ·rcases bp.mp hz with rfl|hz
   ·exact Int.dvd_trans (uY.mpr h1) (Int.gcd_dvd_right ..)
   ·exact h2 z hz
theorem IV {l:List Int} {z:Int} (h:z∈l):((BX l:Nat):Int)∣z:=(JJ l 0).2 z h
theorem J9 (x y:List Int):x.getD 4 0*y.getD 4 0∈EB x y:=by unfold EB;simp
theorem VF {y:List Int} (hx:0<x.getD 4 0) (hy:0<y.getD 4 0):0<(BX (EB x y):Int):=by
 have h:0<x.getD 4 0*y.getD 4 0:=xQ hx hy;have hd:=IV (J9 x y);obtain⟨q,hq⟩:=hd;by_cases h0:BX (EB x y)=0
 ·rw[h0] at hq;have hq':x.getD 4 0*y.getD 4 0=0:=by rw[hq];exact Int.zero_mul q
  omega
 ·omega
theorem mL (F:Fun K "upon" "upon" IP f fd) (B:Blt mg) (D1:Def P w K mg base 2 "common_factor_of_all" ["numbers"] (Y8 K)):
 FnOk P w K mg base (CX1 P w) 3 f fd ["x","y"] (c6 K):=by
 refine F.okx sc_up λAv A outer s H vs Q E hr h=>?_;obtain⟨ax,ay,x,y,rfl,hx,hy,h5,g5,bx,px,py,by4,k⟩:=h;refine⟨_,AB (W3 (i:=2) (own:=[("k",4)]) rfl sc_up.nd rfl rfl (by rfl) (WR (by rfl) B.range (AA AI AF)) c7 (λ_ _ _ _ _=>DT 4 sc_up) (λ_ _ _ _ _=>PM)
  (λ_ _ _ _ _=>BC C7 (BC IL (BI (fA K) (pv 0) (pv 4) (λ_ _=>rfl)) (BI (FL K) (pv 1) AI (λ_ _=>rfl))) (BC IL (BI (FL K) (pv 1) (pv 4) (λ_ _=>rfl)) (BI (fA K) (pv 0) AI (λ_ _=>rfl)))))
  (AB (AZ (ID fh fm fq CZ (pv 2) (AA (BC IL (BI mK (pv 0) AI (λ_ _=>rfl)) (BI DK (pv 1) AI (λ_ _=>rfl))) AF)))
  (AB (AW 3 sc_up (D1.call hr AD (AA (pv 2) AF)))
  (AC (AJ (J0 IC (by rfl) B.tuple RL (AA (S8 (own:=[("number",5)]) rfl sc_up.nd (DG (pv 2)) c8 (λ_ _ _ _ _=>DT 5 sc_up) (λ_ _ _ _ _=>PM)
   (λ_ _ _ _ _=>BC Y6 (pv 5) (pv 3))) AF)))))),?_⟩
 and_intros
 have x4:(x.getD 4 0).natAbs<2 ^ 60:=bx _ (Y9 (by omega));refine⟨4,rfl,by decide,by decide,λD1' hD1=>PQ (n:=4) (λi H'=>H'=upd H D1' (.lst (((jn i).map (LG x y)).map V.int))) rfl (λi H' hi _=>hi) (λH' _=>au _) ?_ ?_⟩
 ·rintro i v H1 H2 hi rfl ⟨rfl,rfl⟩;have s1:Same H (upd H D1' (.lst (((jn i).map (LG x y)).map V.int))):=Same.upd hD1;refine⟨rfl,?_⟩;have xi:(x.getD i 0).natAbs<2 ^ 60:=bx _ (Y9 (by omega));refine⟨_,rfl,_,rfl,ax,_,_,_,rfl,rfl,s1.sqe hx,ER (i:=i) (by omega) (by omega),_,rfl,ay,_,_,_,rfl,rfl,s1.tup hy,ER (i:=4) rfl (by omega),_,_,rfl,rfl,.inl ⟨by omega,by omega⟩,
   _,rfl,_,rfl,ay,_,_,_,rfl,rfl,s1.tup hy,ER (i:=i) (by omega) (by omega),_,rfl,ax,_,_,_,rfl,rfl,s1.sqe hx,ER (i:=4) rfl (by omega),_,_,rfl,rfl,.inr ⟨by omega,by omega⟩,_,_,rfl,rfl,_,upd_same,?_,?_⟩
  ·rw[ai,ai,lw,bw];omega
  ·funext b;by_cases hb:b=D1'
   ·subst hb;rw[upd_same,upd_same,vA,du,du];rfl
   ·rw[AE hb,AE hb,AE hb]
 ·rintro H1 rfl;have s1:Same H (upd H D1' (.lst (((jn 4).map (LG x y)).map V.int))):=Same.upd hD1;refine⟨_,rfl,.inl ⟨rfl,_,SqL.of upd_same⟩,_,rfl,ax,_,_,_,rfl,rfl,s1.sqe hx,ER (i:=4) rfl (by omega),_,rfl,ay,_,_,_,rfl,rfl,s1.tup hy,ER (i:=4) rfl (by omega),_,_,rfl,rfl,.inl ⟨by omega,by omega⟩,
   D1',_,_,rfl,rfl,upd_same,?_,?_⟩
  ·rw[ai,ai,lw,bw];omega
  have e1:((jn 4).map (LG x y)).map V.int++[V.int (x.getD 4 0*y.getD 4 0)]=(EB x y).map V.int:=by unfold EB;rw[du];rfl
  rw[e1];have s2:Same H (upd (upd H D1' (.lst (((jn 4).map (LG x y)).map V.int))) D1' (.lst ((EB x y).map V.int))):=λb o e=>by
   have n:=AG e hD1;rw[AE n,AE n];exact e
  generalize hH2:upd (upd H D1' (.lst (((jn 4).map (LG x y)).map V.int))) D1' (.lst ((EB x y).map V.int))=H2;rw[hH2] at s2;have l2:H2 D1'=some (.lst ((EB x y).map V.int)):=by rw[←hH2];exact upd_same
  refine⟨_,rfl,D1',EB x y,rfl,.inl (SqL.of l2),?_⟩;have gp:=VF (x:=x) (y:=y) px py;have gb:(BX (EB x y):Int)<2 ^ 1000:=by
   have h1:(BX (EB x y):Int)<=x.getD 4 0*y.getD 4 0:=Int.le_of_dvd (xQ px py) (IV (J9 x y));have h2:x.getD 4 0*y.getD 4 0<=2 ^ 60*2 ^ 60:=yD (by omega) (by omega) (by omega) (by decide);have h3:(2:Int) ^ 60*2 ^ 60<2 ^ 1000:=by decide
   omega
  refine⟨_,rfl,D1',rfl,⟨_,SqL.of l2⟩,λD2 hD2=>PQ (n:=(EB x y).length) (λi H'=>H'=upd H2 D2 (.lst (((BU x y).take i).map V.int))) (by simp) (λi H' hi e=>?_) (λH' e=>?_) ?_ ?_⟩
  ·subst e;have n:D1'≠D2:=AG l2 hD2;exact⟨_,.int ((EB x y)[i]),SqL.of (by rw[AE n];exact l2),by rw[az,am hi];rfl⟩
  ·subst e;have n:D1'≠D2:=AG l2 hD2;exact⟨_,SqL.of (by rw[AE n];exact l2),by rw[ai];exact au _⟩
  ·rintro i v H3 H4 hi rfl ⟨rfl,hy'⟩;have n:D1'≠D2:=AG l2 hD2;obtain⟨z,hz,rfl⟩:=L7 (hy' _ (SqL.of (by rw[AE n];exact l2)));refine⟨rfl,?_⟩;refine⟨_,rfl,_,rfl,_,_,rfl,rfl,⟨gp,gb⟩,_,upd_same,?_,?_⟩
   ·rw[ai,df,bw];have:(BU x y).length=5:=by simp[BU,EB]
    omega
   ·funext b;by_cases hb:b=D2
    ·subst hb;rw[upd_same,upd_same,dk];have e2:(BU x y)[i]? =some (z / (BX (EB x y):Int)):=by unfold BU;rw[az,hz];rfl
     rw[e2,du];rfl
    ·rw[AE hb,AE hb,AE hb]
  ·rintro H3 rfl;have e3:(BU x y).take (EB x y).length=BU x y:=by
    rw[sM];unfold BU;rw[ai];exact au _
   rw[e3];refine⟨D2,_,rfl,.inl ⟨SqL.of upd_same,λr hr'=>?_⟩⟩;refine k _ r (λb o e=>?_) upd_same;have n1:b≠D2:=AG (s2 b o e) hD2;have n2:b≠r:=by
    refine AG (o:=o) ?_ hr';rw[AE n1];exact s2 b o e
   rw[AE n2,AE n1];exact s2 b o e
end
open PySem PySem.Spec PyProof.Rows L2
open PySem.Builtin.Int (intBits)
section
variable {P:bb} {w:bv} {K:aa} {mg:Str->Option ah} {base:cr}
def mM:Sp:=λvs H Q _=>Ex2 λ(b:Int) (p:Nat)=>vs=[.int b,.int p]/\(0<=b/\b<=7)/\p<=10000/\Q (.int (b ^ p)) H
theorem RO:FnScope ["base","power","result"] ["base","power"] (AH M6):={}
theorem ZA {b:Int} (h:0<=b/\b<=7):intBits b<=3:=intBits_le_iff.mpr (by have:=h.1;have:=h.2;omega)
theorem KA {b:Int} (h:0<=b/\b<=7) {m:Nat} (hm:m<=100000) (hn:n<=100000):IntMulOk (b ^ m) (b ^ n):=
 .of_le (vY (ZA h) m) (vY (ZA h) n) (by omega)
theorem mN (F:Fun K "raised" "raised" M6 f fd):FnOk P w K mg base (CX1 P w) 1 f fd ["base","power"] mM:=by
 refine F.okx RO λAv A outer s H vs Q E hr h=>?_;obtain⟨b,p,rfl,hb,hp,k⟩:=h;refine⟨_,AB (AW 2 RO AI)
  (AB (B4 bo (AO E1 (pv 1) AI (AQ _))
   (AB (AX (AO CP (BC SO (pv 1) AI) AI (AQ _)) (AC (AW 2 RO (BC L0 (pv 2) (pv 0)))) AM)
   (AB (AW 0 RO (BC L0 (pv 0) (pv 0)))
   (AC (AW 1 RO (BC LS (pv 1) AI))))))
  (AC (AJ (pv 2)))),?_⟩
 and_intros
 refine QW (λσ H'=>H'=H/\Ex3 λe q n:Nat=>σ=[some (.int (b ^ e)),some (.int n),some (.int (b ^ q))]/\q+e*n=p) (λσ _=>match σ with|[_,some (.int n),_]=>n.toNat|_=>0)
  ⟨rfl,1,0,p,(by show[some (V.int b),some (V.int p),some (V.int 1)]=_;rw[Int.pow_succ,Int.pow_zero,xR]),by omega⟩ ?_ ?_
 ·rintro σ H' ⟨rfl,e,q,n,rfl,g⟩;refine⟨_,rfl,_,_,rfl,rfl,_,rfl,?_⟩;refine B9 (λhn=>?_) (λhn=>?_)
  ·have hn0:0<(n:Int):=by simpa using hn
   have he:e<=p:=by
    have h1:e*1<=e*n:=Nat.mul_le_mul_left e (by omega);omega
   have hq:q<=p:=by omega
   have sq:b ^ e*b ^ e=b ^ (e+e):=(zY b e e).symm;have hd:((n:Int) / 2)=((n / 2:Nat):Int):=by omega
   refine⟨_,rfl,_,_,rfl,rfl,(by show(0:Int)<2;decide),rfl,_,rfl,?_⟩;refine B9 (λh1=>?_) (λh1=>?_)
   ·have hm:(n:Int)%2=1:=by simpa using h1
    refine⟨_,rfl,_,rfl,_,_,rfl,rfl,KA hb (by omega) (by omega),_,rfl,_,rfl,_,_,rfl,rfl,KA hb (by omega) (by omega),_,rfl,_,_,rfl,rfl,⟨by decide,by decide⟩,⟨rfl,e+e,q+e,n / 2,?_,?_⟩,?_⟩
    ·show[some (V.int (b ^ e*b ^ e)),some (V.int ((n:Int) / 2)),some (V.int (b ^ q*b ^ e))]=_;rw[sq,hd, ←zY]
    ·have h2:n=2*(n / 2)+1:=by omega
     have h3:e*n=(e+e)*(n / 2)+e:=by
      conv=>lhs;rw[h2]
      rw[Nat.mul_add,uC, ←kj,dj e 2,zZ]
     omega
    ·show((n:Int) / 2).toNat<(n:Int).toNat;omega
   ·have hm:¬(n:Int)%2=1:=by simpa using h1
    refine⟨_,rfl,_,rfl,_,_,rfl,rfl,KA hb (by omega) (by omega),_,rfl,_,_,rfl,rfl,⟨by decide,by decide⟩,⟨rfl,e+e,q,n / 2,?_,?_⟩,?_⟩
    ·show[some (V.int (b ^ e*b ^ e)),some (V.int ((n:Int) / 2)),some (V.int (b ^ q))]=_;rw[sq,hd]
    ·have h2:n=2*(n / 2):=by omega
     have h3:e*n=(e+e)*(n / 2):=by
      conv=>lhs;rw[h2]
      rw[←kj,dj e 2,zZ]
     omega
    ·show((n:Int) / 2).toNat<(n:Int).toNat;omega
  ·have hn0:n=0:=by
    have:¬(0:Int)<n:=by simpa using hn
    omega
   subst hn0;have e1:q=p:=by omega
   subst e1;exact⟨_,rfl,k⟩
 ·rintro σ H' Q1 Q2 hq ⟨v1,e1,z1⟩;exact⟨v1,e1,let ⟨i,j,a,b,c,d,e⟩:=z1;⟨i,j,a,b,c,d,hq _ _ e⟩⟩
def prm:List Int:=[2,3,5,7]
def pw (x y:List Int) (k:Nat):Int:=y.getD k 0*x.getD 4 0 - x.getD k 0*y.getD 4 0
def IF (x y:List Int):Nat->Int
 |0=>1
 |i+1=>if 0<pw x y i then IF x y i*prm.getD i 0 ^ (pw x y i).toNat else IF x y i
def IG (x y:List Int):Nat->Int
 |0=>1
 |i+1=>if 0<pw x y i then IG x y i else IG x y i*prm.getD i 0 ^ (-pw x y i).toNat
def BG (x y:List Int):Bool:=decide (IG x y 4<IF x y 4)
def Sm (l:List Int):Prop:=l.length=5/\(∀k,k<4->(l.getD k 0).natAbs<=99)/\1<=l.getD 4 0/\l.getD 4 0<=24
theorem M8 {a b:Int} {m:Nat} (h1:a.natAbs<=m) (h2:b.natAbs<=n):(a*b).natAbs<=m*n:=by rw[ul];exact Nat.mul_le_mul h1 h2
theorem ZB {y:List Int} (hx:Sm x) (hy:Sm y) {k:Nat} (hk:k<4):(pw x y k).natAbs<=4752:=by
 have h1:(y.getD k 0*x.getD 4 0).natAbs<=99*24:=M8 (hy.2.1 k hk) (by have:=hx.2.2;omega);have h2:(x.getD k 0*y.getD 4 0).natAbs<=99*24:=M8 (hx.2.1 k hk) (by have:=hy.2.2;omega);unfold pw;omega
theorem S9 (h:i<4):0<=prm.getD i 0/\prm.getD i 0<=7:=by
 match i,h with
 |0,_=>decide
 |1,_=>decide
 |2,_=>decide
 |3,_=>decide
theorem JK {y:List Int} (hx:Sm x) (hy:Sm y) (h:i<4) (e:Nat) (he:e<=4752):intBits (prm.getD i 0 ^ e)<=20000:=
 cy (vY (ZA (S9 h)) e) (by omega)
theorem fB {y:List Int} (hx:Sm x) (hy:Sm y):∀i,i<=4->intBits (IF x y i)<=1+20000*i
 |0,_=>(by decide:intBits (1:Int)<=1)
 |i+1,h=>by
  have ih:=fB hx hy i (by omega);have hp:=ZB hx hy (k:=i) (by omega);rw[IF];split
  ·exact cy (yE ih (JK hx hy (by omega) _ (by omega))) (by omega)
  ·exact cy ih (by omega)
theorem fC {y:List Int} (hx:Sm x) (hy:Sm y):∀i,i<=4->intBits (IG x y i)<=1+20000*i
 |0,_=>(by decide:intBits (1:Int)<=1)
 |i+1,h=>by
  have ih:=fC hx hy i (by omega);have hp:=ZB hx hy (k:=i) (by omega);rw[IG];split
  ·exact cy ih (by omega)
  ·exact cy (yE ih (JK hx hy (by omega) _ (by omega))) (by omega)
theorem ZC (h:i<4):(prm.map V.int)[i]? =some (.int (prm.getD i 0)):=by
 match i,h with
 |0,_=>rfl
 |1,_=>rfl
 |2,_=>rfl
 |3,_=>rfl
def c9 (K:aa):Sp:=λvs H Q _=>Ex4 λ(ax ay:ag) (x y:List Int)=>vs=[.ref ax,.ref ay]/\SqT K H ax (x.map V.int)/\SqT K H ay (y.map V.int)/\Sm x/\Sm y/\∀H',Same H H'->Q (.bl (BG x y)) H'
theorem K5:FnScope ["x","y","above","below","k","prime","power"] ["x","y"] (AH IQ):={}
theorem mO (F:Fun K "narrower" "narrower" IQ f fd) (B:Blt mg) (gp:GT K mg "PRIMES" (prm.map V.int)) (D1:Def P w K mg base 1 "raised" ["base","power"] mM):
 FnOk P w K mg base (CX1 P w) 2 f fd ["x","y"] (c9 K):=by
 refine F.okx K5 λAv A outer s H vs Q E hr h=>?_;obtain⟨ax,ay,x,y,rfl,hx,hy,sx,sy,k⟩:=h;refine⟨_,AB (AW 2 K5 AI) (AB (AW 3 K5 AI)
  (AB (B5 bo rfl (RG (by rfl) B.enum (AA (OP gp) AF)) (IJ rfl (BZ (DT 4 K5) (BZ (DT 5 K5) GK)))
   (AB (AW 6 K5 (BC GZ (BC IL (BI DK (pv 1) (pv 4) (λ_ _=>rfl)) (BI DK (pv 0) AI (λ_ _=>rfl))) (BC IL (BI DK (pv 0) (pv 4) (λ_ _=>rfl)) (BI DK (pv 1) AI (λ_ _=>rfl)))))
   (AC (AX (AO E1 (pv 6) AI (AQ _))
    (AC (AW 2 K5 (BC L0 (pv 2) (D1.call hr AD (AA (pv 5) (AA (pv 6) AF))))))
    (AC (AW 3 K5 (BC L0 (pv 3) (D1.call hr AD (AA (pv 5) (AA (GY E0 (pv 6)) AF))))))))))
  (AC (AJ (DR E1 (pv 2) (pv 3) (AQ _)))))),?_⟩
 and_intros
 intro pa hpa;refine⟨pa,prm.map V.int,rfl,hpa _,GM (n:=4) (λi σ H'=>Same H H'/\Ex3 λr4 r5 r6=>σ=[some (.ref ax),some (.ref ay),some (.int (IF x y i)),some (.int (IG x y i)),r4,r5,r6]) ⟨Same.refl _,none,none,none,rfl⟩ ?_ ?_ ?_ ?_⟩
 ·rintro i σ H' hi _;exact⟨prm.map V.int,.int (prm.getD i 0),hpa H',ZC hi⟩
 ·rintro σ H' _;exact⟨prm.map V.int,hpa H',rfl⟩
 ·rintro i v σ H1 H2 hi ⟨s1,r4,r5,r6,rfl⟩ ⟨T,xv,rfl,nT,rfl,hxv⟩;have hxv':=hxv _ (hpa H1);have exv:xv= .int (prm.getD i 0):=cw (hxv'.symm.trans (ZC hi));subst exv;have s2:Same H (upd H1 T (.tup [.int (i:Nat),.int (prm.getD i 0)])):=s1.trans (Same.upd nT);have b1:=sx.2.1 i hi;have b2:=sy.2.1 i hi;have b3:=sx.2.2;have b4:=sy.2.2;refine⟨T,_,rfl,SqT.of upd_same,rfl,_,_,rfl,_,_,rfl,rfl,?_⟩;refine⟨_,rfl,_,rfl,ay,_,_,_,rfl,rfl,s2.tup hy,ER (i:=i) rfl (by rw[sy.1];omega),_,rfl,ax,_,_,_,rfl,rfl,s2.tup hx,ER (i:=4) rfl (by rw[sx.1];decide),_,_,rfl,rfl,.inl ⟨by omega,by omega⟩,
   _,rfl,_,rfl,ax,_,_,_,rfl,rfl,s2.tup hx,ER (i:=i) rfl (by rw[sx.1];omega),_,rfl,ay,_,_,_,rfl,rfl,s2.tup hy,ER (i:=4) rfl (by rw[sy.1];decide),_,_,rfl,rfl,.inl ⟨by omega,by omega⟩,_,_,rfl,rfl,?_⟩
  have hp:=ZB sx sy hi;have ep:y.getD i 0*x.getD 4 0 - x.getD i 0*y.getD 4 0=pw x y i:=rfl;refine⟨V.int (pw x y i),rfl,pw x y i,0,rfl,rfl,_,rfl,B9 (λh=>?_) (λh=>?_)⟩
  ·have h0:0<pw x y i:=by simpa using h
   refine⟨_,rfl,_,rfl,V.int (pw x y i),rfl,prm.getD i 0,(pw x y i).toNat,?_,S9 hi,by omega,_,_,rfl,rfl,?_,s2,some (.int i),some (.int (prm.getD i 0)),some (.int (pw x y i)),?_⟩
   ·rw[mv (by omega)];rfl
   ·exact .of_le (fB sx sy i (by omega)) (JK sx sy hi _ (by omega)) (by omega)
   ·rw[IF,IG,Ax h0,Ax h0];rfl
  ·have h0:¬0<pw x y i:=by simpa using h
   refine⟨_,rfl,_,rfl,V.int (pw x y i),rfl,pw x y i,rfl,prm.getD i 0,(-pw x y i).toNat,?_,S9 hi,by omega,_,_,rfl,rfl,?_,s2,some (.int i),some (.int (prm.getD i 0)),some (.int (pw x y i)),?_⟩
   ·rw[mv (by omega)];rfl
   ·exact .of_le (fC sx sy i (by omega)) (JK sx sy hi _ (by omega)) (by omega)
   ·rw[IF,IG,Ay h0,Ay h0];rfl
 ·rintro σ H' ⟨s1,r4,r5,r6,rfl⟩;exact⟨_,rfl,_,rfl,_,_,rfl,rfl,k _ s1⟩
end
open PySem PySem.Spec PyProof.Rows L2
def dA (H:Hp) (a C:ag) (fs:List (Str×V)) (H':Hp):Prop:=(∃d,d≠a/\H d=none/\H' a=some (XoO a C (some d) .none none)/\H' d=some (XdO d fs))/\∀b o,H b=some o->b≠a->H' b=some o
def mP (C:ag):Sp:=λvs H Q _=>Ex2 λ(a:ag) (p:Int)=>vs=[.ref a,.int p]/\H a=some (XoO a C none .none none)/\∀H',dA H a C [("place",.int p)] H'->Q .non H'
def mQ (K:aa):Sp:=λvs H Q _=>Ex3 λ(a C:ag) (n:Int)=>vs=[.ref a,.int n]/\H a=some (XoO a C none .none none)/\XCls K C/\NoAttr K C "answer"/\∀H',dA H a C [("answer",.int n)] H'->Q .non H'
def KC (C:ag) (n:Int):Sp:=λvs H Q _=>∃(a:ag),vs=[.ref a]/\H a=some (XoO a C none .none none)/\∀H',dA H a C [("answer",.int n)] H'->Q .non H'
def iH (C:ag):Sp:=λvs H Q _=>Ex3 λ(a:ag) (l c:Int)=>vs=[.ref a,.int l,.int c]/\H a=some (XoO a C none .none none)/\∀H',dA H a C [("answer",.int (-3)),("line",.int l),("course",.int c)] H'->Q .non H'
section
variable {P:bb} {w:bv} {K:aa} {mg:Str->Option ah} {base:cr}
theorem mS:FnScope ["self","place"] ["self","place"] (AH D8):={}
theorem mU (F:Fun K "__init__" "TextFault.__init__" D8 f fd) (xc:XCls K C) (na:NoAttr K C "place"):FnOkU P w K mg base (CX1 P w) 1 f fd ["self","place"] (mP C):=by
 refine F.oku mS λAv A outer s H vs Q E hr h=>?_;obtain⟨a,p,rfl,ea,k⟩:=h;refine⟨_,AC (RA (pv 0) (pv 1) rfl),?_⟩
 subst_eqs
 refine⟨_,rfl,_,rfl,a,C,_,_,rfl,ea,xc,na,λd hd hn=>k _ ⟨⟨d,hn,hd,upd_same,by rw[AE hn,upd_same]⟩,λb o e hb=>?_⟩⟩;rw[AE hb,AE (AG e hd)];exact e
theorem mV:FnScope ["self","answer"] ["self","answer"] (AH E4):={}
theorem mW (F:Fun K "__init__" "Refusal.__init__" E4 f fd):FnOkU P w K mg base (CX1 P w) 1 f fd ["self","answer"] (mQ K):=by
 refine F.oku mV λAv A outer s H vs Q E hr h=>?_;obtain⟨a,C,n,rfl,ea,xc,na,k⟩:=h;refine⟨_,AC (RA (pv 0) (pv 1) rfl),?_⟩
 subst_eqs
 refine⟨_,rfl,_,rfl,a,C,_,_,rfl,ea,xc,na,λd hd hn=>k _ ⟨⟨d,hn,hd,upd_same,by rw[AE hn,upd_same]⟩,λb o e hb=>?_⟩⟩;rw[AE hb,AE (AG e hd)];exact e
structure RfI (P:bb) (w:bv) (K:aa) (mg:Str->Option ah) (base:cr) (CR f:ag) (fd:ez):Prop where
 mgR:mg "Refusal"=some (.ref CR)
 sp:uA K (.ref CR) "__getattribute__"=some (some (.builtin "type.__getattribute__"))
 rd:vz K CR (.type "type")=true
 fc:qz K (.ref CR) (.type "type") "__init__"=some (.val (.ref f))
 kp:eq K (.ref f)=true
 bd:Binds K fd ["self","answer"] []
 ok:FnOkU P w K mg base (CX1 P w) 1 f fd ["self","answer"] (mQ K)
theorem TC:FnScope ["self"] ["self"] (AH E5):={}
theorem TD {fR:ag} {fdR:ez} (F:Fun K "__init__" "TooLong.__init__" E5 f fd) (R:RfI P w K mg base CR fR fdR) (xc:XCls K C) (na:NoAttr K C "answer"):FnOkU P w K mg base (CX1 P w) 2 f fd ["self"] (KC C (-2)):=by
 refine F.oku TC λAv A outer s H vs Q E hr h=>?_;obtain⟨a,rfl,ea,k⟩:=h;refine⟨_,AC (AZ (JE (mc:=.type "type") (by rfl) R.mgR R.sp R.rd R.fc R.kp R.ok hr R.bd out_cxU.passes (AA (pv 0) (AA (GY E0 AI) AF)))),?_⟩
 subst_eqs
 exact⟨_,rfl,_,rfl,a,C, -2,rfl,ea,xc,na,λH' hb'=>k H' hb'⟩
theorem LH:FnScope ["self"] ["self"] (AH DA):={}
theorem LI {fR:ag} {fdR:ez} (F:Fun K "__init__" "NoInstrument.__init__" DA f fd) (R:RfI P w K mg base CR fR fdR) (xc:XCls K C) (na:NoAttr K C "answer"):FnOkU P w K mg base (CX1 P w) 2 f fd ["self"] (KC C (-6)):=by
 refine F.oku LH λAv A outer s H vs Q E hr h=>?_;obtain⟨a,rfl,ea,k⟩:=h;refine⟨_,AC (AZ (JE (mc:=.type "type") (by rfl) R.mgR R.sp R.rd R.fc R.kp R.ok hr R.bd out_cxU.passes (AA (pv 0) (AA (GY E0 AI) AF)))),?_⟩
 subst_eqs
 exact⟨_,rfl,_,rfl,a,C, -6,rfl,ea,xc,na,λH' hb'=>k H' hb'⟩
theorem TF:FnScope ["self"] ["self"] (AH E6):={}
theorem TJ {fR:ag} {fdR:ez} (F:Fun K "__init__" "NoPiece.__init__" E6 f fd) (R:RfI P w K mg base CR fR fdR) (xc:XCls K C) (na:NoAttr K C "answer"):FnOkU P w K mg base (CX1 P w) 2 f fd ["self"] (KC C (-8)):=by
 refine F.oku TF λAv A outer s H vs Q E hr h=>?_;obtain⟨a,rfl,ea,k⟩:=h;refine⟨_,AC (AZ (JE (mc:=.type "type") (by rfl) R.mgR R.sp R.rd R.fc R.kp R.ok hr R.bd out_cxU.passes (AA (pv 0) (AA (GY E0 AI) AF)))),?_⟩
 subst_eqs
 exact⟨_,rfl,_,rfl,a,C, -8,rfl,ea,xc,na,λH' hb'=>k H' hb'⟩
theorem mX:FnScope ["self","line","course"] ["self","line","course"] (AH FU):={}
theorem mY {fR:ag} {fdR:ez} (F:Fun K "__init__" "Misfit.__init__" FU f fd) (R:RfI P w K mg base CR fR fdR) (xc:XCls K C) (na:NoAttr K C "answer") (nl:NoAttr K C "line") (nc:NoAttr K C "course"):
 FnOkU P w K mg base (CX1 P w) 2 f fd ["self","line","course"] (iH C):=by
 refine F.oku mX λAv A outer s H vs Q E hr h=>?_;obtain⟨a,l,c,rfl,ea,k⟩:=h;refine⟨_,AB (AZ (JE (mc:=.type "type") (by rfl) R.mgR R.sp R.rd R.fc R.kp R.ok hr R.bd out_cxU.passes (AA (pv 0) (AA (GY E0 AI) AF))))
  (AB (VA (pv 0) (pv 1) rfl) (AC (VA (pv 0) (pv 2) rfl))),?_⟩
 and_intros
 refine⟨_,rfl,_,rfl,a,C, -3,rfl,ea,xc,na,λH' ⟨⟨d,dn,d0,e1,e2⟩,kp⟩=>?_⟩;refine⟨_,rfl,_,rfl,a,C,d,_,_,_,rfl,e1,e2,dn,xc,nl,by decide,?_⟩;refine⟨_,rfl,_,rfl,a,C,d,_,_,_,rfl,(by rw[AE (cq dn)];exact e1),upd_same,dn,xc,nc,(ui (FI _ _ _) (by show 1+1<1000;decide)),?_⟩;refine k _ ⟨⟨d,dn,d0,(by rw[AE (cq dn),AE (cq dn)];exact e1),upd_same⟩,λb o e hb=>?_⟩;have nd:b≠d:=AG e d0;rw[AE nd,AE nd];exact kp b o e hb
end
def tWk (te:TE) (K0:VK):TE:=λσ H Q=>te σ H K0/\∀x H1,K0 x H1->Q x H1
theorem IH {e:Expr} {te:TE} {K0:VK} (he:PE X e te):PE X e (tWk te K0):=λAp s σ H Q I ⟨h,k⟩=>thn (he Ap s σ H K0 I h) λu s1 ⟨v,H1,I1,r,q⟩=>⟨v,H1,I1,r,k v H1 q⟩
def KD (CT:ag) (E:XK) (te:TE):TS:=λ_ σ H=>te σ H λx H1=>∃z:Int,x= .int z/\E (.ref CT) none (xH [("place",.int z)])
abbrev TFm (P:bb) (w:bv) (K:aa) (mg:Str->Option ah) (base:cr) (CT:ag):Prop:=XMr P w K mg base 1 CT "TextFault" ["self","place"] (mP CT)
theorem BF {e:Expr} {te:TE} {p pos':Pos} {k':Nat} (T:TFm X.prog X.w X.K X.mg X.base CT) (hr:Room k' X.A) (o:Out X E) (hc:X.calm=true) (he:PE X e te) (hk:2<=k':=by decide) (hg:Gl X "TextFault":=by rfl)
 (hs:be [e] X.env=(false,eval e X.env)::be [] X.env:=by rfl):PS X (.Raise (some (.Call (.Name "TextFault" p) [e] [] pos')) none pos) (KD CT E te):=by
 have q:=JF (pos:=pos) o hc (T.call (pos:=pos') (p:=p) hr.u o (AA (IH (K0:=λx _=>∃z:Int,x= .int z/\E (.ref CT) none (xH [("place",.int z)])) he) AF hs) hk hg (he:=hs));intro Ap s σ H D I h;refine q Ap s σ H D I ⟨h,λv H' ⟨z,ev,hE⟩=>⟨(by show 1<=100;decide),λa ha=>⟨a,z,by subst ev;rfl,upd_same,λH2 ⟨⟨d,dn,d0,e1,e2⟩,_⟩=>⟨rfl,a,CT,_,rfl,⟨d,dn,e1,e2⟩,T.2.1,hE⟩⟩⟩⟩
open PySem PySem.Spec PyProof.Rows L2
def BR (l:List Nat) (b:Int):Option Nat:=l.findIdx? λ(c:Nat)=>decide ((c:Int)=b)
def HH (l:List Nat) (b:Int):V:=match BR l b with
 |some n=>.int (n:Nat)
 |none=>.non
theorem JL {l:List Nat} {b:Int} (h:∀(i c:Nat),l[i]? =some c->¬(c:Int)=b):BR l b=none:=by
 unfold BR;rw[List.findIdx?_eq_none_iff];intro c hc;obtain⟨i,hi⟩:=ma hc;exact decide_eq_false (h i c hi)
theorem PZ {l:List Nat} {b:Int} {c:Nat} (hi:l[i]? =some c) (hc:(c:Int)=b) (h:∀(j d:Nat),j<i->l[j]? =some d->¬(d:Int)=b):BR l b=some i:=by
 unfold BR;rw[lg];obtain⟨Aw,e⟩:=aw.mp hi;refine⟨Aw,by rw[e];exact decide_eq_true hc,λj hj=>?_⟩;have:=h j l[j] hj (am (nw hj Aw));simpa using this
def iI:Sp:=λvs H Q _=>Ex2 λ(z:Str) (b:Int)=>vs=[.str z,.int b]/\∀H',Same H H'->Q (HH z.cps.toList b) H'
section
variable {P:bb} {w:bv} {K:aa} {mg:Str->Option ah} {base:cr}
theorem ZD:FnScope ["signs","byte","number","sign"] ["signs","byte"] (AH FV):={}
theorem mZ (F:Fun K "sign_number" "sign_number" FV f fd) (B:Blt mg):FnOk P w K mg base (CX1 P w) 1 f fd ["signs","byte"] iI:=by
 refine F.okx ZD λAv A outer s H vs Q E hr h=>?_;obtain⟨z,b,rfl,k⟩:=h;refine⟨_,AB (B5 bo rfl (Y2 (by rfl) B.enum (AA (pv 0) AF)) (IJ rfl (BZ (DT 2 ZD) (BZ (DT 3 ZD) GK)))
  (AC (AX (AO CP (AY YH (by rfl) B.ord Y7 (AA (pv 3) AF)) (pv 1) (AQ _)) (AC (AJ (pv 2))) AM)))
  (AC (AJ SK)),?_⟩
 and_intros
 refine⟨_,rfl,z,rfl,GM (n:=z.cps.size) (λi σ H'=>Same H H'/\(Ex2 λr2 r3=>σ=[some (.str z),some (.int b),r2,r3])/\∀(j d:Nat),j<i->z.cps.toList[j]? =some d->¬(d:Int)=b) ⟨Same.refl _,⟨none,none,rfl⟩,λj d hj=>by omega⟩ ?_ ?_ ?_ ?_⟩
 ·rintro i σ H' hi _;exact hi
 ·rintro σ H' _;exact rfl
 ·rintro i v σ H1 H2 hi ⟨s1,⟨r2,r3,rfl⟩,hb⟩ ⟨T,c,rfl,nT,hc,rfl⟩;have s2:Same H (upd H1 T (.tup [.int (i:Nat),.str ⟨#[c]⟩])):=s1.trans (Same.upd nT);have hcl:z.cps.toList[i]? =some c:=by rw[kz];exact hc
  refine⟨T,_,rfl,SqT.of upd_same,rfl,_,_,rfl,_,_,rfl,rfl,?_⟩;refine⟨_,rfl,_,rfl,rfl,_,rfl,rfl,_,rfl,B9 (λh=>?_) (λh=>?_)⟩
  ·have h0:(c:Int)=b:=by
    have q:=of_decide_eq_true h;injection q
   refine⟨_,rfl,?_⟩;have q:=k _ s2;unfold HH at q;rw[PZ hcl h0 hb] at q;exact q
  ·have h0:¬(c:Int)=b:=λq=>h (decide_eq_true (by rw[←q];rfl));refine⟨s2,⟨_,_,rfl⟩,λj d hj hd=>?_⟩;by_cases hji:j=i
   ·subst hji;rw[hcl] at hd;cases hd;exact h0
   ·exact hb j d (by omega) hd
 ·rintro σ H' ⟨s1,⟨r2,r3,rfl⟩,hb⟩;have q:=k _ s1;unfold HH at q;rw[JL λi c hi=>hb i c (by have:=(aw.mp hi).1;rw[fv] at this;exact this) hi] at q;exact q
end
def cV (c:UInt8):V:=.int (c.toNat:Nat)
def rf (ta:ag) (p e:Int):List (Str×V):=[("text",.ref ta),("place",.int p),("end",.int e)]
structure Rd (K:aa) (CR:ag) (H:Hp) (r ta:ag) (cs:List UInt8) (e:Nat) (Aq:List UInt8):Prop where
 at_:Ex2 λ(dx:ag) (p:Nat)=>H r=some (.ins CR dx (rf ta p e))/\Aq=(cs.take e).drop p/\p<=e
 tx:SqL K H ta (cs.map cV)
 le:e<=cs.length
theorem Sb.lst {K:aa} {dx:ag} {fs:List (Str×V)} (s:Sb r H H') (hr:H r=some (.ins C dx fs)) (h:SqL K H a xs):SqL K H' a xs:=by
 rcases h with(h|⟨o,h⟩)|h
 ·exact .inl (.inl (s _ _ h (B2 h hr (by intro z;cases z))))
 ·exact .inl (.inr ⟨o,s _ _ h (B2 h hr (by intro z;cases z))⟩)
 ·exact .inr h
theorem ZE (h:[]=(cs.take e).drop p) (hp:p<=e) (he:e<=cs.length):p=e:=by
 have:=congrArg pc h;rw[fx,df] at this;simp at this;omega
theorem KF {c:UInt8} (h:c::t=(cs.take e).drop p) (hp:p<=e) (he:e<=cs.length):p<e/\cs[p]? =some c/\t=(cs.take e).drop (p+1):=by
 have hl:=congrArg pc h;rw[fx,df,dc] at hl;have Aw:p<e:=by omega
 have h0:(c::t)[0]? =((cs.take e).drop p)[0]?:=by rw[h]
 rw[um,rh] at h0;simp[Aw] at h0;refine⟨Aw,h0.symm,?_⟩;have h1:(c::t).drop 1=((cs.take e).drop p).drop 1:=by rw[h]
 rw[vZ] at h1;exact h1
def bt:List UInt8->Int
 |[]=>256
 |c::_=>(c.toNat:Nat)
def Got {α:Type} (K:aa) (CR CT r ta:ag) (cs:List UInt8) (e:Nat) (H:Hp) (Q:VK) (E:XK) (enc:α->V):Option (α×List UInt8)->Prop
 |some (v,Ar)=>∀H',Rd K CR H' r ta cs e Ar->Sb r H H'->Q (enc v) H'
 |none=>∀z:Int,E (.ref CT) none (xH [("place",.int z)])
def pk (z:Str):List UInt8->Option (Nat×List UInt8)
 |[]=>none
 |c::t=>(BR z.cps.toList (c.toNat:Nat)).map (·,t)
theorem BS (z:Str) (c:UInt8) (t:List UInt8):pk z (c::t)=(BR z.cps.toList (c.toNat:Nat)).map (·,t):=rfl
def OkS (z:Str):Prop:=∀c∈z.cps.toList,c<256
theorem ZF (h:OkS z):BR z.cps.toList 256=none:=JL λi c hi q=>by
 have:=h c (bz hi);omega
def see (z:Str):List UInt8->Bool
 |[]=>false
 |c::_=>(BR z.cps.toList (c.toNat:Nat)).isSome
def DQ (n:Nat):V:=.int (n:Nat)
def iJ (C:ag):Sp:=λvs H Q _=>Ex5 λ(r dx ta:ag) (p e:Int)=>vs=[.ref r,.ref ta,.int p,.int e]/\H r=some (.ins C dx [])/\∀H',H' r=some (.ins C dx (rf ta p e))->Sb r H H'->Q .non H'
def ZG (K:aa) (C:ag):Sp:=λvs H Q _=>Ex5 λ(r ta:ag) (cs:List UInt8) (e:Nat) (Aq:List UInt8)=>vs=[.ref r]/\Rd K C H r ta cs e Aq/\Q (.bl Aq.isEmpty) H
def P0 (K:aa) (C:ag):Sp:=λvs H Q _=>Ex5 λ(r ta:ag) (cs:List UInt8) (e:Nat) (Aq:List UInt8)=>vs=[.ref r]/\Rd K C H r ta cs e Aq/\Q (.int (bt Aq)) H
def TK (K:aa) (C:ag):Sp:=λvs H Q _=>Ex6 λ(r ta:ag) (cs:List UInt8) (e:Nat) (Aq:List UInt8) (z:Str)=>vs=[.ref r,.str z]/\Rd K C H r ta cs e Aq/\OkS z/\∀H',Same H H'->Q (.bl (see z Aq)) H'
def P1 (K:aa) (C CT:ag):Sp:=λvs H Q E=>Ex6 λ(r ta:ag) (cs:List UInt8) (e:Nat) (Aq:List UInt8) (z:Str)=>vs=[.ref r,.str z]/\Rd K C H r ta cs e Aq/\OkS z/\Got K C CT r ta cs e H Q E DQ (pk z Aq)
theorem Rd.same {K:aa} {Aq:List UInt8} (R:Rd K C H r ta cs e Aq) (s:Same H H'):Rd K C H' r ta cs e Aq:=
 let ⟨⟨dx,p,h,q⟩,t,l⟩:=R;⟨⟨dx,p,s _ _ h,q⟩,s.seq t,l⟩
section
variable {P:bb} {w:bv} {K:aa} {mg:Str->Option ah} {base:cr}
structure RdC (K:aa) (C:ag):Prop where
 cl:Cls K C
 nt:NoAttr K C "text"
 np:NoAttr K C "place"
 ne:NoAttr K C "end"
theorem dB (ta:ag) (p e:Int):(rf ta p e).lookup ("text":Str)=some (.ref ta):=rfl
theorem M9 (ta:ag) (p e:Int):(rf ta p e).lookup ("place":Str)=some (.int p):=rfl
theorem m8 (ta:ag) (p e:Int):(rf ta p e).lookup ("end":Str)=some (.int e):=rfl
theorem GE (ta:ag) (p e:Int) {m:Str} (h1:(m=="text")=false) (h2:(m=="place")=false) (h3:(m=="end")=false):(rf ta p e).lookup m=none:=by
 unfold rf;simp only[jf,h1,h2,h3]
theorem m9:FnScope ["self","text","place","end"] ["self","text","place","end"] (AH FW):={}
theorem nA (F:Fun K "__init__" "Reader.__init__" FW f fd) (T:RdC K C):FnOk P w K mg base (CX1 P w) 1 f fd ["self","text","place","end"] (iJ C):=by
 refine F.okx m9 λAv A outer s H vs Q E hr h=>?_;obtain⟨r,dx,ta,p,e,rfl,hr',k⟩:=h;refine⟨_,AB (CQ (pv 0) (pv 1) rfl) (AB (CQ (pv 0) (pv 2) rfl) (AC (CQ (pv 0) (pv 3) rfl))),?_⟩
 and_intros
 refine⟨_,rfl,_,rfl,r,C,dx,[],rfl,hr',T.cl,T.nt,(by decide),?_⟩;refine⟨_,rfl,_,rfl,r,C,dx,_,rfl,upd_same,T.cl,T.np,(by show 1<1000;decide),?_⟩;refine⟨_,rfl,_,rfl,r,C,dx,_,rfl,upd_same,T.cl,T.ne,(by show 2<1000;decide),?_⟩;exact k _ upd_same λb o e hb=>by rw[AE hb,AE hb,AE hb];exact e
theorem nB:FnScope ["self"] ["self"] (AH E7):={}
theorem nE (F:Fun K "ended" "Reader.ended" E7 f fd) (T:RdC K C):FnOk P w K mg base (CX1 P w) 1 f fd ["self"] (ZG K C):=by
 refine F.okx nB λAv A outer s H vs Q E hr h=>?_;obtain⟨r,ta,cs,e,Aq,rfl,⟨⟨dx,p,h1,h2,h3⟩,tx,le⟩,k⟩:=h;refine⟨_,AC (AJ (DR lS (AT (pv 0) rfl) (AT (pv 0) rfl) (AQ _))),?_⟩
 subst_eqs
 refine⟨_,rfl,r,C,dx,_,_,rfl,h1,T.cl,T.np,M9 _ _ _,_,rfl,r,C,dx,_,_,rfl,h1,T.cl,T.ne,m8 _ _ _,_,_,rfl,rfl,?_⟩;have e1:decide ((e:Int)<=(p:Int))=Aq.isEmpty:=by
  cases Aq with
  |nil=>rw[ZE h2 h3 le];simp
  |cons c t=>have:=(KF h2 h3 le).1;simp;omega
 show Q (V.bl (decide ((e:Int)<=(p:Int)))) H;rw[e1];exact k
theorem nF:FnScope ["self"] ["self"] (AH FX):={}
theorem nG (F:Fun K "byte" "Reader.byte" FX f fd) (T:RdC K C) (gn:GI mg "NO_BYTE" 256) (M1:Mth P w K mg base 1 C "ended" ["self"] (ZG K C)):FnOk P w K mg base (CX1 P w) 2 f fd ["self"] (P0 K C):=by
 refine F.okx nF λAv A outer s H vs Q E hr h=>?_;obtain⟨r,ta,cs,e,Aq,rfl,R,k⟩:=h;obtain⟨dx,p,h1,h2,h3⟩:=R.at_;refine⟨_,AC (AJ (QT (C5 (M1.call0 (pv 0) hr AD)) (B0 gn) (BI CK (AT (pv 0) rfl) (AT (pv 0) rfl) (λ_ _=>rfl)))),?_⟩
 subst_eqs
 refine⟨_,rfl,r,dx,_,rfl,h1,GE _ _ _ (by decide +kernel) (by decide +kernel) (by decide +kernel),r,ta,cs,e,Aq,rfl,R,_,rfl,?_⟩;cases Aq with
 |nil=>exact BQ k
 |cons c t=>
  obtain⟨h4,h5,h6⟩:=KF h2 h3 R.le;refine BH ⟨_,rfl,r,C,dx,_,_,rfl,h1,T.cl,T.nt,dB _ _ _,_,rfl,r,C,dx,_,_,rfl,h1,T.cl,T.np,M9 _ _ _,ta,_,_,_,rfl,rfl,R.tx,DH (v:=cV c) (by rw[az,h5];rfl),k⟩
theorem nI:FnScope ["self","signs"] ["self","signs"] (AH FY):={}
theorem nJ (F:Fun K "sees" "Reader.sees" FY f fd) (D1:Def P w K mg base 1 "sign_number" ["signs","byte"] iI) (M1:Mth P w K mg base 2 C "byte" ["self"] (P0 K C)):
 FnOk P w K mg base (CX1 P w) 3 f fd ["self","signs"] (TK K C):=by
 refine F.okx nI λAv A outer s H vs Q E hr h=>?_;obtain⟨r,ta,cs,e,Aq,z,rfl,R,oz,k⟩:=h;obtain⟨dx,p,h1,h2,h3⟩:=R.at_;refine⟨_,AC (AJ (DR cD (D1.call hr AD (AA (pv 1) (AA (M1.call0 (pv 0) hr AD) AF))) SK (AQ _))),?_⟩
 subst_eqs
 refine⟨_,rfl,_,rfl,r,dx,_,rfl,h1,GE _ _ _ (by decide +kernel) (by decide +kernel) (by decide +kernel),r,ta,cs,e,Aq,rfl,R,z,_,rfl,λH' s1=>⟨rfl,?_⟩⟩;have q:=k H' s1;have e1:(!decide (HH z.cps.toList (bt Aq)=V.non))=see z Aq:=by
  cases Aq with
  |nil=>
   show(!decide (HH z.cps.toList 256=V.non))=false;unfold HH;rw[ZF oz];rfl
  |cons c t=>
   show(!decide (HH z.cps.toList (c.toNat:Nat)=V.non))=(BR z.cps.toList (c.toNat:Nat)).isSome;unfold HH;cases BR z.cps.toList (c.toNat:Nat)<;>rfl
 rw[e1];exact q
theorem fD:FnScope ["self","signs","number"] ["self","signs"] (AH FZ):={}
theorem nL (F:Fun K "pick" "Reader.pick" FZ f fd) (T:RdC K C) (X1:TFm P w K mg base CT) (D1:Def P w K mg base 1 "sign_number" ["signs","byte"] iI) (M1:Mth P w K mg base 2 C "byte" ["self"] (P0 K C)):
 FnOk P w K mg base (CX1 P w) 3 f fd ["self","signs"] (P1 K C CT):=by
 refine F.okx fD λAv A outer s H vs Q E hr h=>?_;obtain⟨r,ta,cs,e,Aq,z,rfl,R,oz,k⟩:=h;obtain⟨dx,p,h1,h2,h3⟩:=R.at_;refine⟨_,AB (AW 2 fD (D1.call hr AD (AA (pv 1) (AA (M1.call0 (pv 0) hr AD) AF))))
  (AB (AX (AO gQ (pv 2) SK (AQ _)) (AC (BF X1 hr AD rfl (AT (pv 0) rfl))) AM)
  (AB (WV (pv 0) AI gR) (AC (AJ (pv 2))))),?_⟩
 and_intros
 refine⟨_,rfl,_,rfl,r,dx,_,rfl,h1,GE _ _ _ (by decide +kernel) (by decide +kernel) (by decide +kernel),r,ta,cs,e,Aq,rfl,R,z,_,rfl,λH' s1=>?_⟩;have h1':=s1 _ _ h1;refine⟨_,rfl,rfl,_,rfl,?_⟩;cases hrest:Aq with
 |nil=>
  subst hrest;have e1:HH z.cps.toList (bt [])=V.non:=by
   show HH z.cps.toList 256=V.non;unfold HH;rw[ZF oz]
  rw[e1];exact BQ ⟨_,rfl,r,C,dx,_,_,rfl,h1',T.cl,T.np,M9 _ _ _,_,rfl,k _⟩
 |cons c t=>
  subst hrest;obtain⟨h4,h5,h6⟩:=KF h2 h3 R.le;cases hi:BR z.cps.toList (c.toNat:Nat) with
  |none=>
   have e1:HH z.cps.toList (bt (c::t))=V.non:=by
    show HH z.cps.toList (c.toNat:Nat)=V.non;unfold HH;rw[hi]
   rw[e1];have k':∀z:Int,E (.ref CT) none (xH [("place",.int z)]):=by
    have e2:pk z (c::t)=none:=by rw[BS,hi];rfl
    rw[e2] at k;exact k
   exact BQ ⟨_,rfl,r,C,dx,_,_,rfl,h1',T.cl,T.np,M9 _ _ _,_,rfl,k' _⟩
  |some n=>
   have e1:HH z.cps.toList (bt (c::t))=V.int (n:Nat):=by
    show HH z.cps.toList (c.toNat:Nat)=V.int (n:Nat);unfold HH;rw[hi]
   rw[e1];have k':∀H',Rd K C H' r ta cs e t->Sb r H H'->Q (DQ n) H':=by
    have e2:pk z (c::t)=some (n,t):=by rw[BS,hi];rfl
    rw[e2] at k;exact k
   refine BH ?_;refine⟨_,rfl,r,C,dx,_,_,rfl,h1',T.cl,T.np,M9 _ _ _,?_⟩;refine⟨_,_,rfl,rfl,dx,_,h1',(by show 3<1000;decide),_,rfl,?_⟩;refine k' _ ⟨⟨dx,p+1,tD upd_same ?_,h6,h4⟩,Sb.lst (r:=r) (λb o e hb=>by rw[AE hb];exact e) h1' (s1.seq R.tx),R.le⟩ λb o e hb=>by rw[AE hb];exact s1 b o e
   rfl
end
open PySem PySem.Spec PyProof.Rows L2
theorem DY {W:Nat->L2.St->Hp->Prop} {m:Nat} {tb:TS} {D:Ends} {σ:L2.St} {Z:Prop} (h:tb { D with nx:=λσ' H'=>∃m',m'<m/\W m' σ' H',ct:=λσ' H'=>∃m',m'<m/\W m' σ' H',bk:=D.nx } σ H1):
 if true=true then∃N:L2.St->Hp->Prop,(∀σ' H',N σ' H'->∃m',m'<m/\W m' σ' H')/\tb { D with nx:=N,ct:=N,bk:=D.nx } σ H1 else Z:=BQ ⟨_,λ_ _ q=>q,h⟩
def sk:List Nat->List UInt8->Option (Unit×List UInt8)
 |[],t=>some ((),t)
 |_::_,[]=>none
 |x::w,c::t=>if c.toNat=x then sk w t else none
def GX (z:Str) (most:Nat):Nat->Nat->List UInt8->Option (Nat×List UInt8)
 |_,value,[]=>some (value,[])
 |count,value,c::t=>match BR z.cps.toList (c.toNat:Nat) with
  |none=>some (value,c::t)
  |some d=>if count=most\/value=0 then none else GX z most (count+1) (10*value+d) t
def wn (z:Str) (most:Nat) (l:List UInt8):Option (Nat×List UInt8):=match pk z l with
 |none=>none
 |some (d,t)=>GX z most 1 d t
def W6 (_:Unit):V:=.non
def ZH (K:aa) (C CT:ag):Sp:=λvs H Q E=>Ex6 λ(r ta:ag) (cs:List UInt8) (e:Nat) (Aq:List UInt8) (z:Str)=>vs=[.ref r,.str z]/\Rd K C H r ta cs e Aq/\OkS z/\Got K C CT r ta cs e H Q E W6 (sk z.cps.toList Aq)
def nM (K:aa) (C CT:ag) (dz:Str):Sp:=λvs H Q E=>Ex6 λ(r ta:ag) (cs:List UInt8) (e:Nat) (Aq:List UInt8) (most:Nat)=>vs=[.ref r,.int (most:Nat)]/\Rd K C H r ta cs e Aq/\Got K C CT r ta cs e H Q E DQ (wn dz most Aq)
theorem VG (c:Nat) (b:Nat):BR [c] (b:Nat)=if b=c then some 0 else none:=by
 unfold BR;by_cases h:b=c
 ·subst h;simp
 ·have:¬(c:Int)=(b:Int):=by omega
  rw[Ay h];simp;omega
theorem iK (c:Nat) (l:List UInt8) (w:List Nat):sk (c::w) l=(match pk ⟨#[c]⟩ l with|none=>none|some (_,t)=>sk w t):=by
 cases l with
 |nil=>rfl
 |cons b t=>
  rw[BS];show(if b.toNat=c then sk w t else none)=_;rw[show(⟨#[c]⟩:Str).cps.toList=[c] from rfl,VG];by_cases h:b.toNat=c
  ·rw[Ax h,Ax h];rfl
  ·rw[Ay h,Ay h];rfl
theorem ZI {l:List UInt8} (h:see z l=true):Ex2 λn t=>pk z l=some (n,t)/\t.length+1=l.length:=by
 cases l with
 |nil=>cases h
 |cons c t=>
  rw[BS];have h':(BR z.cps.toList (c.toNat:Nat)).isSome=true:=h;obtain⟨n,hn⟩:=qk.mp h';exact⟨n,t,by rw[hn];rfl,rfl⟩
theorem ZJ {most v d:Nat} {l:List UInt8} (h:pk z l=some (d,t)):GX z most n v l=if n=most\/v=0 then none else GX z most (n+1) (10*v+d) t:=by
 cases l with
 |nil=>cases h
 |cons c t'=>
  rw[BS] at h;cases hi:BR z.cps.toList (c.toNat:Nat) with
  |none=>rw[hi] at h;cases h
  |some d'=>
   rw[hi] at h;cases h;rw[GX,hi]
theorem ZK {most v:Nat} {l:List UInt8} (h:see z l=false):GX z most n v l=some (v,l):=by
 cases l with
 |nil=>rfl
 |cons c t=>
  have h':(BR z.cps.toList (c.toNat:Nat)).isSome=false:=h;rw[Option.isSome_eq_false_iff,Option.isNone_iff_eq_none] at h';rw[GX,h']
section
variable {P:bb} {w:bv} {K:aa} {mg:Str->Option ah} {base:cr}
theorem Rd.ins {Aq:List UInt8} (R:Rd K C H r ta cs e Aq):Ex2 λdx p=>H r=some (.ins C dx (rf ta p e)):=let ⟨dx,p,h,_⟩:=R.at_;⟨dx,p,h⟩
theorem fE:FnScope ["self","word","sign"] ["self","word"] (AH F0):={}
theorem nN (F:Fun K "skip" "Reader.skip" F0 f fd) (M1:Mth P w K mg base 3 C "pick" ["self","signs"] (P1 K C CT)):
 FnOk P w K mg base (CX1 P w) 4 f fd ["self","word"] (ZH K C CT):=by
 refine F.okx fE λAv A outer s H vs Q E hr h=>?_;obtain⟨r,ta,cs,e,Aq,z,rfl,R,oz,k⟩:=h;refine⟨_,AC (B5 bo rfl (hG (pv 1)) (DT 2 fE) (AC (AZ (M1.call (pv 0) hr AD (AA (pv 2) AF))))),?_⟩
 subst_eqs
 refine⟨_,rfl,z,rfl,GM (n:=z.cps.size) (λi σ H'=>(∃r2,σ=[some (.ref r),some (.str z),r2])/\Sb r H H'/\∃Ar,Rd K C H' r ta cs e Ar/\sk z.cps.toList Aq=sk (z.cps.toList.drop i) Ar) ⟨⟨none,rfl⟩,Sb.refl,Aq,R,rfl⟩ ?_ ?_ ?_ ?_⟩
 ·rintro i σ H' hi _;exact hi
 ·rintro σ H' _;exact au _
 ·rintro i v σ H1 H2 hi ⟨⟨r2,rfl⟩,sb,Ar,R',es⟩ ⟨rfl,c,hc,rfl⟩
  subst_eqs
  have hcl:z.cps.toList[i]? =some c:=by rw[kz];exact hc
  have hd:z.cps.toList.drop i=c::z.cps.toList.drop (i+1):=by
   obtain⟨Aw,e1⟩:=aw.mp hcl;rw[iq Aw,e1]
  obtain⟨dx,p,h1⟩:=R'.ins;rw[hd,iK] at es;refine⟨_,rfl,r,dx,_,rfl,h1,GE _ _ _ (by decide +kernel) (by decide +kernel) (by decide +kernel),_,rfl,r,ta,cs,e,Ar,⟨#[c]⟩,rfl,R',?_,?_⟩
  ·intro c' hc';have e1:c'=c:=by simpa using hc'
   subst e1;exact oz c' (bz hcl)
  ·cases hp:pk ⟨#[c]⟩ Ar with
   |none=>
    rw[hp] at es;rw[es] at k;exact k
   |some x=>
    obtain⟨n,t⟩:=x;rw[hp] at es;exact λH3 R3 s3=>⟨⟨_,rfl⟩,sb.trans s3,t,R3,es⟩
 ·rintro σ H' ⟨⟨r2,rfl⟩,sb,Ar,R',es⟩;have e0:z.cps.toList.drop z.cps.size=[]:=by rw[←fv];exact uZ
  rw[e0] at es;rw[es] at k;exact k H' R' sb
theorem sc_wn:FnScope ["self","most","value","count"] ["self","most"] (AH CJ):={}
theorem nO (F:Fun K "whole_number" "Reader.whole_number" CJ f fd) (T:RdC K C) (X1:TFm P w K mg base CT) (gd:GS mg "DIGITS" dz) (od:OkS dz)
 (M1:Mth P w K mg base 3 C "pick" ["self","signs"] (P1 K C CT)) (M2:Mth P w K mg base 3 C "sees" ["self","signs"] (TK K C)):
 FnOk P w K mg base (CX1 P w) 4 f fd ["self","most"] (nM K C CT dz):=by
 refine F.okx sc_wn λAv A outer s H vs Q E hr h=>?_;obtain⟨r,ta,cs,e,Aq,most,rfl,R,k⟩:=h;refine⟨_,AB (AW 2 sc_wn (M1.call (pv 0) hr AD (AA (FB gd) AF)))
  (AB (AW 3 sc_wn AI)
  (AB (B4 bo (C5 (M2.call (pv 0) hr AD (AA (FB gd) AF)))
   (AB (AX (N7 (AO CP (pv 3) (pv 1) (AQ _)) (JV (AO CP (pv 2) AI (AQ _)))).pt (AC (BF X1 hr AD rfl (AT (pv 0) rfl))) AM)
   (AB (AW 2 sc_wn (BC C7 (BC IL AI (pv 2)) (M1.call (pv 0) hr AD (AA (FB gd) AF))))
   (AC (JW (i:=3) sc_wn.nd rfl (uj rfl) AI JX)))))
  (AC (AJ (pv 2))))),?_⟩
 and_intros
 obtain⟨dx,p,h1⟩:=R.ins;refine⟨_,rfl,r,dx,_,rfl,h1,GE _ _ _ (by decide +kernel) (by decide +kernel) (by decide +kernel),r,ta,cs,e,Aq,dz,rfl,R,od,?_⟩;have k':=k;unfold wn at k';cases hp:pk dz Aq with
 |none=>rw[hp] at k';exact k'
 |some x=>
  obtain⟨d,t⟩:=x;rw[hp] at k';replace k':Got K C CT r ta cs e H Q E DQ (GX dz most 1 d t):=k';intro H1 R1 s1;refine⟨λm σ H'=>Ex3 λ(Ar:List UInt8) (v n:Nat)=>σ=[some (.ref r),some (.int (most:Nat)),some (.int (v:Nat)),some (.int (n:Nat))]/\Sb r H H'/\Rd K C H' r ta cs e Ar/\GX dz most 1 d t=GX dz most n v Ar/\m=Ar.length,
   ⟨t.length,t,d,1,rfl,s1,R1,rfl,rfl⟩,?_⟩
  rintro m σ H' ⟨Ar,v,n,rfl,sb,R',ew,rfl⟩;obtain⟨dx',p',h1'⟩:=R'.ins;refine⟨_,rfl,r,dx',_,rfl,h1',GE _ _ _ (by decide +kernel) (by decide +kernel) (by decide +kernel),r,ta,cs,e,Ar,dz,rfl,R',od,λH2 s2=>⟨_,rfl,?_⟩⟩;have R2:=R'.same s2;have sb2:Sb r H H2:=sb.trans s2.sb;obtain⟨dx2,p2,h12⟩:=R2.ins;cases hs:see dz Ar with
  |false=>
   rw[ZK hs] at ew;rw[ew] at k';exact BH ⟨_,rfl,k' H2 R2 sb2⟩
  |true=>
   obtain⟨d2,t2,hp2,hl⟩:=ZI hs;rw[ZJ hp2] at ew;refine DY ?_
   and_intros
   refine⟨_,rfl,_,rfl,rfl,_,rfl,B9 (λhc=>?_) (λhc=>?_)⟩
   ·have h0:n=most:=by
     have q:=of_decide_eq_true hc;injection q with q;omega
    rw[Ax (.inl h0)] at ew;rw[ew] at k';exact BQ ⟨_,rfl,r,C,dx2,_,_,rfl,h12,T.cl,T.np,M9 _ _ _,_,rfl,k' _⟩
   ·have h0:¬n=most:=λq=>hc (decide_eq_true (by rw[q]));refine⟨_,rfl,rfl,_,rfl,B9 (λhc2=>?_) (λhc2=>?_)⟩
    ·have h3:v=0:=by
      have q:=of_decide_eq_true hc2;injection q with q;omega
     rw[Ax (.inr h3)] at ew;rw[ew] at k';exact⟨_,rfl,r,C,dx2,_,_,rfl,h12,T.cl,T.np,M9 _ _ _,_,rfl,k' _⟩
    ·have h3:¬v=0:=λq=>hc2 (decide_eq_true (by rw[q];rfl));rw[Ay (by rintro (q|q);exact h0 q;exact h3 q)] at ew;refine⟨_,rfl,_,_,rfl,rfl,.inl ⟨by decide,by decide⟩,_,rfl,r,dx2,_,rfl,h12,GE _ _ _ (by decide +kernel) (by decide +kernel) (by decide +kernel),r,ta,cs,e,Ar,dz,rfl,R2,od,?_⟩;rw[hp2];intro H3 R3 s3;refine⟨_,_,rfl,rfl,?_⟩;refine⟨_,rfl,_,_,rfl,rfl,t2.length,by omega,t2,10*v+d2,n+1,?_,sb2.trans s3,R3,ew,rfl⟩;rfl
end
open PySem PySem.Spec PyProof.Rows L2
structure RdE (P:bb) (w:bv) (K:aa) (mg:Str->Option ah) (base:cr) (C CT:ag) (dz:Str):Prop where
 T:RdC K C
 X1:TFm P w K mg base CT
 mkr:Mkr P w K mg base 1 C "Reader" ["self","text","place","end"] (iJ C)
 en:Mth P w K mg base 1 C "ended" ["self"] (ZG K C)
 byt:Mth P w K mg base 2 C "byte" ["self"] (P0 K C)
 se:Mth P w K mg base 3 C "sees" ["self","signs"] (TK K C)
 pi:Mth P w K mg base 3 C "pick" ["self","signs"] (P1 K C CT)
 sk:Mth P w K mg base 4 C "skip" ["self","word"] (ZH K C CT)
 wn:Mth P w K mg base 4 C "whole_number" ["self","most"] (nM K C CT dz)
theorem oks (h:(z.cps.toList.all λc=>decide (c<256))=true):OkS z:=λc hc=>of_decide_eq_true (ko.mp h c hc)
inductive RdX (K:aa) (C:ag) (x:V) (H:Hp) (k:ag->ag->List UInt8->Nat->List UInt8->Prop):Prop
 |intro(r ta:ag) (cs:List UInt8) (e:Nat) (Aq:List UInt8) (ex:x= .ref r) (h:Rd K C H r ta cs e Aq) (q:k r ta cs e Aq):RdX K C x H k
def VH (K:aa) (C:ag) (to:TE) (z:Str):TT:=λσ H Q=>to σ H λx H1=>RdX K C x H1 λ_ _ _ _ Aq=>∀H',Same H1 H'->Q (see z Aq) H'
def iL (K:aa) (C:ag) (to:TE):TT:=λσ H Q=>to σ H λx H1=>RdX K C x H1 λ_ _ _ _ Aq=>Q Aq.isEmpty H1
def nQ (K:aa) (C:ag) (to:TE):TE:=λσ H Q=>to σ H λx H1=>RdX K C x H1 λ_ _ _ _ Aq=>Q (.int (bt Aq)) H1
def nR (K:aa) (C CT:ag) (E:XK) (to:TE) (z:Str):TE:=λσ H Q=>to σ H λx H1=>RdX K C x H1 λr ta cs e Aq=>Got K C CT r ta cs e H1 Q E DQ (pk z Aq)
def tWN (K:aa) (C CT:ag) (E:XK) (to:TE) (dz:Str) (most:Nat):TE:=λσ H Q=>to σ H λx H1=>RdX K C x H1 λr ta cs e Aq=>Got K C CT r ta cs e H1 Q E DQ (wn dz most Aq)
def NB (K:aa) (C CT:ag) (E:XK) (to:TE) (z:Str):TS:=λD σ H=>to σ H λx H1=>RdX K C x H1 λr ta cs e Aq=>Got K C CT r ta cs e H1 (λ_ H'=>D.nx σ H') E W6 (sk z.cps.toList Aq)
section
variable {X:Cx} {C CT:ag} {dz z:Str} {E:XK} {k':Nat} {o e:Expr} {to:TE} {apos pos spos:Pos} {most:Nat}
theorem VI (ta:ag) (p e:Int):(rf ta p e).lookup ("sees":Str)=none:=GE _ _ _ (by decide +kernel) (by decide +kernel) (by decide +kernel)
theorem VJ (ta:ag) (p e:Int):(rf ta p e).lookup ("pick":Str)=none:=GE _ _ _ (by decide +kernel) (by decide +kernel) (by decide +kernel)
theorem P2 (ta:ag) (p e:Int):(rf ta p e).lookup ("skip":Str)=none:=GE _ _ _ (by decide +kernel) (by decide +kernel) (by decide +kernel)
theorem nS (ta:ag) (p e:Int):(rf ta p e).lookup ("whole_number":Str)=none:=GE _ _ _ (by decide +kernel) (by decide +kernel) (by decide +kernel)
theorem ZL (ta:ag) (p e:Int):(rf ta p e).lookup ("ended":Str)=none:=GE _ _ _ (by decide +kernel) (by decide +kernel) (by decide +kernel)
theorem dC (ta:ag) (p e:Int):(rf ta p e).lookup ("byte":Str)=none:=GE _ _ _ (by decide +kernel) (by decide +kernel) (by decide +kernel)
theorem BK {pl:Sem Bool} (R:RdE X.prog X.w X.K X.mg X.base C CT dz) (hr:Room k' X.A) (hx:Out X E) (ho:PE X o to) (hz:PE X e (tC (.str z))) (oz:OkS z) (hk:3<=k':=by decide)
 (hst:be [e] X.env=(false,eval e X.env)::be [] X.env:=by rfl)
 (hti:∀whole,xk (.Call (.Attribute o "sees" apos) [e] [] pos) X.env whole=(do let v←whole;mq (Al (.Attribute o "sees" apos) [e] [] pos).pos;lp [v] (truthy v)):=by intro _;rfl)
 (ht:eval (.Call (.Attribute o "sees" apos) [e] [] pos) X.env=(do
  let ov←eval o X.env
  mq apos.atName
  let (f,first)←lp [ov] (kl ov "sees" pl)
  mw pos f first (ie pos (be [e] X.env)) (js pos (gj [] X.env))):=by rfl):
 PT X (.Call (.Attribute o "sees" apos) [e] [] pos) (VH X.K C to z):=by
 intro Ap s σ H Q I h;refine C5 (R.se.call (E:=E) (IH (K0:=λx H1=>RdX X.K C x H1 λ_ _ _ _ Aq=>∀H',Same H1 H'->Q (see z Aq) H') ho) hr hx (AA hz AF hst) hk hst rfl ht) hti Ap s σ H Q I ⟨h,λx H1 ⟨r,ta,cs,e,Aq,ex,Rr,q⟩=>?_⟩;obtain⟨dx,p,h1⟩:=Rr.ins;exact⟨r,dx,_,ex,h1,VI _ _ _,r,ta,cs,e,Aq,z,by rw[ex];rfl,Rr,oz,λH' s'=>⟨_,rfl,q H' s'⟩⟩
theorem JM {pl:Sem Bool} (R:RdE X.prog X.w X.K X.mg X.base C CT dz) (hr:Room k' X.A) (hx:Out X E) (ho:PE X o to) (hk:1<=k':=by decide)
 (hti:∀whole,xk (.Call (.Attribute o "ended" apos) [] [] pos) X.env whole=(do let v←whole;mq (Al (.Attribute o "ended" apos) [] [] pos).pos;lp [v] (truthy v)):=by intro _;rfl)
 (ht:eval (.Call (.Attribute o "ended" apos) [] [] pos) X.env=(do
  let ov←eval o X.env
  mq apos.atName
  let (f,first)←lp [ov] (kl ov "ended" pl)
  mw pos f first (ie pos (be [] X.env)) (js pos (gj [] X.env))):=by rfl):
 PT X (.Call (.Attribute o "ended" apos) [] [] pos) (iL X.K C to):=by
 intro Ap s σ H Q I h;refine C5 (R.en.call0 (E:=E) (IH (K0:=λx H1=>RdX X.K C x H1 λ_ _ _ _ Aq=>Q Aq.isEmpty H1) ho) hr hx hk ht) hti Ap s σ H Q I ⟨h,λx H1 ⟨r,ta,cs,e,Aq,ex,Rr,q⟩=>?_⟩;obtain⟨dx,p,h1⟩:=Rr.ins;exact⟨r,dx,_,ex,h1,ZL _ _ _,r,ta,cs,e,Aq,by rw[ex];rfl,Rr,_,rfl,q⟩
theorem VL {pl:Sem Bool} (R:RdE X.prog X.w X.K X.mg X.base C CT dz) (hr:Room k' X.A) (hx:Out X E) (ho:PE X o to) (hk:2<=k':=by decide)
 (ht:eval (.Call (.Attribute o "byte" apos) [] [] pos) X.env=(do
  let ov←eval o X.env
  mq apos.atName
  let (f,first)←lp [ov] (kl ov "byte" pl)
  mw pos f first (ie pos (be [] X.env)) (js pos (gj [] X.env))):=by rfl):
 PE X (.Call (.Attribute o "byte" apos) [] [] pos) (nQ X.K C to):=by
 intro Ap s σ H Q I h;refine R.byt.call0 (E:=E) (IH (K0:=λx H1=>RdX X.K C x H1 λ_ _ _ _ Aq=>Q (.int (bt Aq)) H1) ho) hr hx hk ht Ap s σ H Q I ⟨h,λx H1 ⟨r,ta,cs,e,Aq,ex,Rr,q⟩=>?_⟩;obtain⟨dx,p,h1⟩:=Rr.ins;exact⟨r,dx,_,ex,h1,dC _ _ _,r,ta,cs,e,Aq,by rw[ex];rfl,Rr,q⟩
theorem EW {pl:Sem Bool} (R:RdE X.prog X.w X.K X.mg X.base C CT dz) (hr:Room k' X.A) (hx:Out X E) (ho:PE X o to) (hz:PE X e (tC (.str z))) (oz:OkS z) (hk:3<=k':=by decide)
 (hst:be [e] X.env=(false,eval e X.env)::be [] X.env:=by rfl)
 (ht:eval (.Call (.Attribute o "pick" apos) [e] [] pos) X.env=(do
  let ov←eval o X.env
  mq apos.atName
  let (f,first)←lp [ov] (kl ov "pick" pl)
  mw pos f first (ie pos (be [e] X.env)) (js pos (gj [] X.env))):=by rfl):
 PE X (.Call (.Attribute o "pick" apos) [e] [] pos) (nR X.K C CT E to z):=by
 intro Ap s σ H Q I h;refine R.pi.call (E:=E) (IH (K0:=λx H1=>RdX X.K C x H1 λr ta cs e Aq=>Got X.K C CT r ta cs e H1 Q E DQ (pk z Aq)) ho) hr hx (AA hz AF hst) hk hst rfl ht Ap s σ H Q I ⟨h,λx H1 ⟨r,ta,cs,e,Aq,ex,Rr,q⟩=>?_⟩;obtain⟨dx,p,h1⟩:=Rr.ins;exact⟨r,dx,_,ex,h1,VJ _ _ _,r,ta,cs,e,Aq,z,by rw[ex];rfl,Rr,oz,q⟩
theorem VM {pl:Sem Bool} (R:RdE X.prog X.w X.K X.mg X.base C CT dz) (hr:Room k' X.A) (hx:Out X E) (ho:PE X o to) (hz:PE X e (tC (.int (most:Nat)))) (hk:4<=k':=by decide)
 (hst:be [e] X.env=(false,eval e X.env)::be [] X.env:=by rfl)
 (ht:eval (.Call (.Attribute o "whole_number" apos) [e] [] pos) X.env=(do
  let ov←eval o X.env
  mq apos.atName
  let (f,first)←lp [ov] (kl ov "whole_number" pl)
  mw pos f first (ie pos (be [e] X.env)) (js pos (gj [] X.env))):=by rfl):
 PE X (.Call (.Attribute o "whole_number" apos) [e] [] pos) (tWN X.K C CT E to dz most):=by
 intro Ap s σ H Q I h;refine R.wn.call (E:=E) (IH (K0:=λx H1=>RdX X.K C x H1 λr ta cs e Aq=>Got X.K C CT r ta cs e H1 Q E DQ (wn dz most Aq)) ho) hr hx (AA hz AF hst) hk hst rfl ht Ap s σ H Q I ⟨h,λx H1 ⟨r,ta,cs,e,Aq,ex,Rr,q⟩=>?_⟩;obtain⟨dx,p,h1⟩:=Rr.ins;exact⟨r,dx,_,ex,h1,nS _ _ _,r,ta,cs,e,Aq,most,by rw[ex];rfl,Rr,q⟩
theorem BL {pl:Sem Bool} (R:RdE X.prog X.w X.K X.mg X.base C CT dz) (hr:Room k' X.A) (hx:Out X E) (ho:PE X o to) (hz:PE X e (tC (.str z))) (oz:OkS z) (hk:4<=k':=by decide)
 (hst:be [e] X.env=(false,eval e X.env)::be [] X.env:=by rfl) (hsw:pq (.Call (.Attribute o "skip" apos) [e] [] pos) none spos.line X.env=pure false:=by rfl)
 (ht:eval (.Call (.Attribute o "skip" apos) [e] [] pos) X.env=(do
  let ov←eval o X.env
  mq apos.atName
  let (f,first)←lp [ov] (kl ov "skip" pl)
  mw pos f first (ie pos (be [e] X.env)) (js pos (gj [] X.env))):=by rfl):
 PS X (.Expr (.Call (.Attribute o "skip" apos) [e] [] pos) spos) (NB X.K C CT E to z):=by
 intro Ap s σ H D I h;refine AZ (R.sk.call (E:=E) (IH (K0:=λx H1=>RdX X.K C x H1 λr ta cs e Aq=>Got X.K C CT r ta cs e H1 (λ_ H'=>D.nx σ H') E W6 (sk z.cps.toList Aq)) ho) hr hx (AA hz AF hst) hk hst rfl ht) hsw Ap s σ H D I ⟨h,λx H1 ⟨r,ta,cs,e,Aq,ex,Rr,q⟩=>?_⟩;obtain⟨dx,p,h1⟩:=Rr.ins;exact⟨r,dx,_,ex,h1,P2 _ _ _,r,ta,cs,e,Aq,z,by rw[ex];rfl,Rr,oz,q⟩
def P3 (K:aa) (C:ag) (to:TE):TE:=λσ H Q=>to σ H λx H1=>RdX K C x H1 λ_ _ _ _ _=>∀z:Int,Q (.int z) H1
theorem B1 (R:RdE X.prog X.w X.K X.mg X.base C CT dz) (ho:PE X o to) (hb:jr o "place" X.env (eval o X.env)=eval o X.env:=by rfl):PE X (.Attribute o "place" pos) (P3 X.K C to):=by
 intro Ap s σ H Q I h;refine AT (IH (K0:=λx H1=>RdX X.K C x H1 λ_ _ _ _ _=>∀z:Int,Q (.int z) H1) ho) hb Ap s σ H Q I ⟨h,λx H1 ⟨r,ta,cs,e,Aq,ex,Rr,q⟩=>?_⟩;obtain⟨dx,p,h1⟩:=Rr.ins;exact⟨r,C,dx,_,_,ex,h1,R.T.cl,R.T.np,M9 _ _ _,q _⟩
end
open PySem PySem.Spec PyProof.Rows L2
theorem AK {K:aa} {enc:α->V} {res:Option (α×List UInt8)} (h:res=none) (k:∀z:Int,E (.ref CT) none (xH [("place",.int z)])):Got K CR CT r ta cs e H Q E enc res:=by
 rw[h];exact k
theorem AL {K:aa} {enc:α->V} {res:Option (α×List UInt8)} {v:α} (h:res=some (v,t)) (k:∀H',Rd K CR H' r ta cs e t->Sb r H H'->Q (enc v) H'):Got K CR CT r ta cs e H Q E enc res:=by
 rw[h];exact k
def TM (K:aa) (CR CT r ta:ag) (cs:List UInt8) (e:Nat) (H:Hp) (Q:VK) (E:XK):Option (List Int×List UInt8)->Prop
 |some (l,Ar)=>∀H' a,Rd K CR H' r ta cs e Ar->Sb r H H'->SqT K H' a (l.map V.int)->Q (.ref a) H'
 |none=>∀z:Int,E (.ref CT) none (xH [("place",.int z)])
def GW {α:Type} (K:aa) (C CT:ag) (m:List UInt8->Option (α×List UInt8)) (enc:α->V):Sp:=λvs H Q E=>Ex5 λ(r ta:ag) (cs:List UInt8) (e:Nat) (Aq:List UInt8)=>vs=[.ref r]/\Rd K C H r ta cs e Aq/\Got K C CT r ta cs e H Q E enc (m Aq)
def FC (K:aa) (C CT:ag) (m:List UInt8->Option (List Int×List UInt8)):Sp:=λvs H Q E=>Ex5 λ(r ta:ag) (cs:List UInt8) (e:Nat) (Aq:List UInt8)=>vs=[.ref r]/\Rd K C H r ta cs e Aq/\TM K C CT r ta cs e H Q E (m Aq)
def ZM (K:aa) (C CT:ag) (m:List UInt8->Option (List Int×List UInt8)):Sp:=λvs H Q E=>Ex6 λ(r ta:ag) (cs:List UInt8) (e:Nat) (Aq:List UInt8) (st:Int)=>vs=[.ref r,.int st]/\Rd K C H r ta cs e Aq/\TM K C CT r ta cs e H Q E (m Aq)
def lL {α:Type} (K:aa) (C CT:ag) (E:XK) (to:TE) (m:List UInt8->Option (α×List UInt8)) (enc:α->V):TE:=λσ H Q=>to σ H λx H1=>RdX K C x H1 λr ta cs e Aq=>Got K C CT r ta cs e H1 Q E enc (m Aq)
def nU (K:aa) (C CT:ag) (E:XK) (to:TE) (m:List UInt8->Option (List Int×List UInt8)):TE:=λσ H Q=>to σ H λx H1=>RdX K C x H1 λr ta cs e Aq=>TM K C CT r ta cs e H1 Q E (m Aq)
section
variable {X:Cx} {C CT:ag} {E:XK} {k k':Nat} {f pn:Str} {o:Expr} {to:TE} {p pos:Pos}
theorem KG {m:List UInt8->Option (α×List UInt8)} {enc:α->V} (D:Def X.prog X.w X.K X.mg X.base k f [pn] (GW X.K C CT m enc)) (hr:Room k' X.A) (hx:Out X E) (ho:PE X o to) (hk:k<=k':=by decide) (hg:Gl X f:=by rfl)
 (hdb:(f==("__debug__":Str))=false:=by decide) (hst:be [o] X.env=(false,eval o X.env)::be [] X.env:=by rfl):PE X (.Call (.Name f p) [o] [] pos) (lL X.K C CT E to m enc):=by
 intro Ap s σ H Q I h;refine D.call (E:=E) hr hx (AA (IH (K0:=λx H1=>RdX X.K C x H1 λr ta cs e Aq=>Got X.K C CT r ta cs e H1 Q E enc (m Aq)) ho) AF hst) hk hg hdb hst rfl Ap s σ H Q I ⟨h,λx H1 ⟨r,ta,cs,e,Aq,ex,Rr,q⟩=>?_⟩;exact⟨r,ta,cs,e,Aq,by rw[ex];rfl,Rr,q⟩
theorem GV {m:List UInt8->Option (List Int×List UInt8)} (D:Def X.prog X.w X.K X.mg X.base k f [pn] (FC X.K C CT m)) (hr:Room k' X.A) (hx:Out X E) (ho:PE X o to) (hk:k<=k':=by decide) (hg:Gl X f:=by rfl)
 (hdb:(f==("__debug__":Str))=false:=by decide) (hst:be [o] X.env=(false,eval o X.env)::be [] X.env:=by rfl):PE X (.Call (.Name f p) [o] [] pos) (nU X.K C CT E to m):=by
 intro Ap s σ H Q I h;refine D.call (E:=E) hr hx (AA (IH (K0:=λx H1=>RdX X.K C x H1 λr ta cs e Aq=>TM X.K C CT r ta cs e H1 Q E (m Aq)) ho) AF hst) hk hg hdb hst rfl Ap s σ H Q I ⟨h,λx H1 ⟨r,ta,cs,e,Aq,ex,Rr,q⟩=>?_⟩;exact⟨r,ta,cs,e,Aq,by rw[ex];rfl,Rr,q⟩
end
def mUn (l:List UInt8):Option (List Int×List UInt8):=match sk ("1":Str).cps.toList l with
 |none=>none
 |some (_,t)=>if t.isEmpty=true then some ([0,0,0,0,1],t) else none
def mSg (dz:Str) (l:List UInt8):Option (Int×List UInt8):=if see "-" l=true then(match sk ("-":Str).cps.toList l with
 |none=>none
 |some (_,t)=>if see "0" t=true then none else match wn dz 4 t with
  |none=>none
  |some (n,u)=>some (-(n:Int),u))
 else match wn dz 4 l with
  |none=>none
  |some (n,u)=>some ((n:Int),u)
def mPw (dz:Str) (l:List UInt8):Option (List Int×List UInt8):=if see "^" l=true then(match sk ("^":Str).cps.toList l with
 |none=>none
 |some (_,t)=>match mSg dz t with
  |none=>none
  |some (n,u)=>if see "/" u=true then(match sk ("/":Str).cps.toList u with
   |none=>none
   |some (_,v)=>match wn dz 4 v with
    |none=>none
    |some (d,y)=>if d<2\/1<qd n d then none else some ([n,(d:Int)],y))
   else if n=0\/n=1 then none else some ([n,1],u))
 else some ([1,1],l)
def nW (n:Int):V:=.int n
section
variable {P:bb} {w:bv} {K:aa} {mg:Str->Option ah} {base:cr} {C CT:ag} {dz:Str}
theorem nX:FnScope ["reader"] ["reader"] (AH F1):={}
theorem nY (F:Fun K "read_unison" "read_unison" F1 f fd) (R:RdE P w K mg base C CT dz) (gu:GT K mg "UNISON" (([0,0,0,0,1]:List Int).map V.int)):FnOk P w K mg base (CX1 P w) 5 f fd ["reader"] (FC K C CT mUn):=by
 refine F.okx nX λAv A outer s H vs Q E hr h=>?_;obtain⟨r,ta,cs,e,Aq,rfl,Rr,k⟩:=h;refine⟨_,AB (BL R hr AD (pv 0) AU (oks (by decide +kernel))) (AB (AX (D0 (JM R hr AD (pv 0))) (AC (BF R.X1 hr AD rfl (B1 R (pv 0)))) AM) (AC (AJ (OP gu)))),?_⟩
 and_intros
 unfold mUn at k;refine⟨_,rfl,r,ta,cs,e,Aq,rfl,Rr,?_⟩;cases hs:sk ("1":Str).cps.toList Aq with
 |none=>rw[hs] at k;exact AK rfl k
 |some x=>
  obtain⟨_,t⟩:=x;rw[hs] at k;refine AL rfl λH1 R1 s1=>?_;refine⟨_,rfl,r,ta,cs,e,t,rfl,R1,?_⟩;cases t with
  |nil=>exact BH λa ha=>k H1 a R1 s1 (ha H1)
  |cons c t=>exact BQ ⟨_,rfl,r,ta,cs,e,_,rfl,R1,λz=>⟨z,rfl,k z⟩⟩
theorem nZ:FnScope ["reader"] ["reader"] (AH F2):={}
theorem n6 (F:Fun K "read_signed" "read_signed" F2 f fd) (R:RdE P w K mg base C CT dz) (gm:GI mg "MOST_DIGITS" ((4:Nat):Int)):FnOk P w K mg base (CX1 P w) 5 f fd ["reader"] (GW K C CT (mSg dz) nW):=by
 refine F.okx nZ λAv A outer s H vs Q E hr h=>?_;obtain⟨r,ta,cs,e,Aq,rfl,Rr,k⟩:=h;refine⟨_,AB (AX (D0 (BK R hr AD (pv 0) AU (oks (by decide +kernel)))) (AC (AJ (VM (most:=4) R hr AD (pv 0) (B0 gm)))) AM)
  (AB (BL R hr AD (pv 0) AU (oks (by decide +kernel)))
  (AB (AX (BK R hr AD (pv 0) AU (oks (by decide +kernel))) (AC (BF R.X1 hr AD rfl (B1 R (pv 0)))) AM)
  (AC (AJ (GY E0 (VM (most:=4) R hr AD (pv 0) (B0 gm))))))),?_⟩
 and_intros
 unfold mSg at k;refine⟨_,rfl,r,ta,cs,e,Aq,rfl,Rr,λH1 s1=>?_⟩;have R1:=Rr.same s1;cases hm:see "-" Aq with
 |false=>
  rw[Ay (by rw[hm];decide)] at k;refine BQ ⟨_,rfl,r,ta,cs,e,Aq,rfl,R1,?_⟩;cases hw:wn dz 4 Aq with
  |none=>rw[hw] at k;exact AK rfl k
  |some x=>
   obtain⟨n,u⟩:=x;rw[hw] at k;exact AL rfl λH2 R2 s2=>k H2 R2 (s1.sb.trans s2)
 |true=>
  rw[Ax hm] at k;refine BH ⟨_,rfl,r,ta,cs,e,Aq,rfl,R1,?_⟩;cases hs:sk ("-":Str).cps.toList Aq with
  |none=>rw[hs] at k;exact AK rfl k
  |some x=>
   obtain⟨_,t⟩:=x;rw[hs] at k;refine AL rfl λH2 R2 s2=>?_;refine⟨_,rfl,r,ta,cs,e,t,rfl,R2,λH3 s3=>?_⟩;have R3:=R2.same s3;cases h0:see "0" t with
   |true=>
    replace k:∀z:Int,E (.ref CT) none (xH [("place",.int z)]):=by
     have k':=k;simp only[h0,if_true] at k';exact k'
    exact BQ ⟨_,rfl,r,ta,cs,e,_,rfl,R3,λz=>⟨z,rfl,k z⟩⟩
   |false=>
    simp only[h0,fu,if_false] at k;refine BH ⟨_,rfl,r,ta,cs,e,t,rfl,R3,?_⟩;cases hw:wn dz 4 t with
    |none=>rw[hw] at k;exact AK rfl k
    |some x=>
     obtain⟨n,u⟩:=x;rw[hw] at k;exact AL rfl λH4 R4 s4=>⟨_,rfl,k H4 R4 (((s1.sb.trans s2).trans s3.sb).trans s4)⟩
theorem ZN:FnScope ["reader","start","top","below"] ["reader","start"] (AH GN):={}
theorem n8 (F:Fun K "read_power" "read_power" GN f fd) (R:RdE P w K mg base C CT dz) (gm:GI mg "MOST_DIGITS" ((4:Nat):Int)) (D1:Def P w K mg base 5 "read_signed" ["reader"] (GW K C CT (mSg dz) nW))
 (D2:Def P w K mg base 1 "common_factor" ["x","y"] iE):FnOk P w K mg base (CX1 P w) 6 f fd ["reader","start"] (ZM K C CT (mPw dz)):=by
 refine F.okx ZN λAv A outer s H vs Q E hr h=>?_;obtain⟨r,ta,cs,e,Aq,st,rfl,Rr,k⟩:=h;refine⟨_,AB (AX (D0 (BK R hr AD (pv 0) AU (oks (by decide +kernel)))) (AC (AJ (E2 (AA AI (AA AI AF))))) AM)
  (AB (BL R hr AD (pv 0) AU (oks (by decide +kernel)))
  (AB (AW 2 ZN (KG D1 hr AD (pv 0)))
  (AB (AX (D0 (BK R hr AD (pv 0) AU (oks (by decide +kernel))))
   (AB (AX (N7 (AO CP (pv 2) AI (AQ _)) (JV (AO CP (pv 2) AI (AQ _)))).pt (AC (BF R.X1 hr AD rfl (pv 1))) AM) (AC (AJ (E2 (AA (pv 2) (AA AI AF)))))) AM)
  (AB (BL R hr AD (pv 0) AU (oks (by decide +kernel)))
  (AB (AW 3 ZN (VM (most:=4) R hr AD (pv 0) (B0 gm)))
  (AB (AX (N7 (AO G0 (pv 3) AI (AQ _)) (JV (AO E1 (D2.call hr AD (AA (pv 2) (AA (pv 3) AF))) AI (AQ _)))).pt (AC (BF R.X1 hr AD rfl (pv 1))) AM)
  (AC (AJ (E2 (AA (pv 2) (AA (pv 3) AF))))))))))),?_⟩
 and_intros
 unfold mPw at k;refine⟨_,rfl,r,ta,cs,e,Aq,rfl,Rr,λH1 s1=>?_⟩;have R1:=Rr.same s1;cases hm:see "^" Aq with
 |false=>
  rw[Ay (by rw[hm];decide)] at k;refine BQ ⟨(by show 2<=sizeLine;decide),λt ht=>?_⟩;exact k _ t (R1.same (Same.upd ht)) (s1.trans (Same.upd ht)).sb (SqT.of upd_same)
 |true=>
  rw[Ax hm] at k;refine BH ⟨_,rfl,r,ta,cs,e,Aq,rfl,R1,?_⟩;cases hs:sk ("^":Str).cps.toList Aq with
  |none=>rw[hs] at k;exact AK rfl k
  |some x=>
   obtain⟨_,t⟩:=x;rw[hs] at k;refine AL rfl λH2 R2 s2=>?_;refine⟨_,rfl,r,ta,cs,e,t,rfl,R2,?_⟩;cases hg:mSg dz t with
   |none=>simp only[hg] at k;exact AK rfl k
   |some x=>
    obtain⟨n,u⟩:=x;simp only[hg] at k;refine AL rfl λH3 R3 s3=>?_;refine⟨_,rfl,r,ta,cs,e,u,rfl,R3,λH4 s4=>?_⟩;have R4:=R3.same s4;have sb4:Sb r H H4:=((s1.sb.trans s2).trans s3).trans s4.sb;cases hl:see "/" u with
    |false=>
     simp only[hl,fu,if_false] at k;refine BQ ⟨V.int n,rfl,rfl,_,rfl,B9 (λh0=>?_) (λh0=>?_)⟩
     ·have e0:n=0:=by
       have q:=of_decide_eq_true h0;injection q
      rw[Ax (.inl e0)] at k;exact BQ ⟨_,rfl,_,rfl,k _⟩
     ·have e0:¬n=0:=λq=>h0 (decide_eq_true (by rw[q]));refine⟨V.int n,rfl,rfl,_,rfl,B9 (λh1=>?_) (λh1=>?_)⟩
      ·have e1:n=1:=by
        have q:=of_decide_eq_true h1;injection q
       rw[Ax (.inr e1)] at k;exact⟨_,rfl,_,rfl,k _⟩
      ·have e1:¬n=1:=λq=>h1 (decide_eq_true (by rw[q]));rw[Ay (by rintro (q|q);exact e0 q;exact e1 q)] at k;refine⟨V.int n,rfl,(by show 2<=sizeLine;decide),λt ht=>?_⟩;exact k _ t (R4.same (Same.upd ht)) (sb4.trans (Same.upd ht).sb) (SqT.of upd_same)
    |true=>
     simp only[hl,if_true] at k;refine BH ⟨_,rfl,r,ta,cs,e,u,rfl,R4,?_⟩;cases hs2:sk ("/":Str).cps.toList u with
     |none=>rw[hs2] at k;exact AK rfl k
     |some x=>
      obtain⟨_,v⟩:=x;rw[hs2] at k;refine AL rfl λH5 R5 s5=>?_;refine⟨_,rfl,r,ta,cs,e,v,rfl,R5,?_⟩;cases hw:wn dz 4 v with
      |none=>simp only[hw] at k;exact AK rfl k
      |some x=>
       obtain⟨d,y⟩:=x;simp only[hw] at k;refine AL rfl λH6 R6 s6=>?_;have sb6:Sb r H H6:=(sb4.trans s5).trans s6;refine⟨V.int (d:Nat),rfl,_,_,rfl,rfl,_,rfl,B9 (λh0=>?_) (λh0=>?_)⟩
       ·have e0:d<2:=by
         have:(d:Int)<2:=by simpa using h0
         omega
        rw[Ax (.inl e0)] at k;exact BQ ⟨_,rfl,_,rfl,k _⟩
       ·have e0:¬d<2:=by
         have:¬(d:Int)<2:=by simpa using h0
         omega
        refine⟨V.int n,rfl,V.int (d:Nat),rfl,n,(d:Nat),rfl,_,_,rfl,rfl,_,rfl,B9 (λh1=>?_) (λh1=>?_)⟩
        ·have e1:1<qd n d:=by
          have:(1:Int)<(qd n d:Nat):=by simpa using h1
          omega
         rw[Ax (.inr e1)] at k;exact⟨_,rfl,_,rfl,k _⟩
        ·have e1:¬1<qd n d:=by
          have:¬(1:Int)<(qd n d:Nat):=by simpa using h1
          omega
         rw[Ay (by rintro (q|q);exact e0 q;exact e1 q)] at k;refine⟨V.int n,rfl,V.int (d:Nat),rfl,(by show 2<=sizeLine;decide),λt ht=>?_⟩;exact k _ t (R6.same (Same.upd ht)) (sb6.trans (Same.upd ht).sb) (SqT.of upd_same)
end
open PySem PySem.Spec PyProof.Rows L2
theorem ES {l:List UInt8} (h:pk z l=some (n,t)):t.length+1=l.length/\n<z.cps.toList.length:=by
 cases l with
 |nil=>cases h
 |cons c u=>
  rw[BS] at h;cases hi:BR z.cps.toList (c.toNat:Nat) with
  |none=>rw[hi] at h;cases h
  |some m=>
   rw[hi] at h;cases h;refine⟨rfl,?_⟩;unfold BR at hi;rw[lg] at hi;exact hi.1
theorem BN:∀{x:List Nat} {l t:List UInt8} {u:Unit},sk x l=some (u,t)->t.length+x.length=l.length
 |[],l,t,u,h=>by cases h;simp
 |x::w,[],t,u,h=>by cases h
 |x::w,c::l,t,u,h=>by
  rw[sk] at h;split at h
  ·have:=BN h;simp;omega
  ·cases h
theorem VN {most:Nat} (hz:z.cps.toList.length<=10):∀{l t:List UInt8} {n v r:Nat},GX z most n v l=some (r,t)->t.length<=l.length/\(n<=most->v<10 ^ n->r<10 ^ most)
 |[],t,n,v,r,h=>by
  rw[GX] at h;cases h;exact⟨au _,λh1 h2=>br h2 (md (by decide) h1)⟩
 |c::l,t,n,v,r,h=>by
  rw[GX] at h;cases hi:BR z.cps.toList (c.toNat:Nat) with
  |none=>
   simp only[hi] at h;cases h;exact⟨au _,λh1 h2=>br h2 (md (by decide) h1)⟩
  |some d=>
   simp only[hi] at h;split at h
   ·cases h
   ·rename_i hc;have hd:d<10:=by
     unfold BR at hi;rw[lg] at hi;have:=hi.1;omega
    obtain⟨h3,h4⟩:=VN hz h;refine⟨by simp;omega,λh1 h2=>h4 ?_ ?_⟩
    ·have:¬n=most:=λq=>hc (.inl q);omega
    ·rw[zB];omega
theorem ZO {most:Nat} {l:List UInt8} (hz:z.cps.toList.length<=10) (hm:1<=most) (h:wn z most l=some (n,t)):t.length<l.length/\n<10 ^ most:=by
 unfold wn at h;cases hp:pk z l with
 |none=>rw[hp] at h;cases h
 |some x=>
  obtain⟨d,u⟩:=x;rw[hp] at h;have h1:=ES hp;obtain⟨h2,h3⟩:=VN hz h;exact⟨by omega,h3 hm (by omega)⟩
theorem iM {n:Int} {l:List UInt8} (hz:z.cps.toList.length<=10) (h:mSg z l=some (n,t)):t.length<=l.length/\n.natAbs<10000:=by
 unfold mSg at h;split at h
 ·cases hs:sk ("-":Str).cps.toList l with
  |none=>rw[hs] at h;cases h
  |some x=>
   obtain⟨_,u⟩:=x;simp only[hs] at h;split at h
   ·cases h
   ·cases hw:wn z 4 u with
    |none=>simp only[hw] at h;cases h
    |some x=>
     obtain⟨m,v⟩:=x;simp only[hw] at h;cases h;have h1:=BN hs;have h2:=ZO hz (by decide) hw;refine⟨by omega,?_⟩;have:m<10000:=h2.2;omega
 ·cases hw:wn z 4 l with
  |none=>simp only[hw] at h;cases h
  |some x=>
   obtain⟨m,v⟩:=x;simp only[hw] at h;cases h;have h2:=ZO hz (by decide) hw;refine⟨by omega,?_⟩;have:m<10000:=h2.2;omega
theorem iN {l:List UInt8} (hz:z.cps.toList.length<=10) (h:mPw z l=some (x,t)):t.length<=l.length/\Ex2 λ(n:Int) (d:Nat)=>x=[n,(d:Int)]/\n.natAbs<10000/\1<=d/\d<10000:=by
 unfold mPw at h;split at h
 ·cases hs:sk ("^":Str).cps.toList l with
  |none=>rw[hs] at h;cases h
  |some y=>
   obtain⟨_,u⟩:=y;simp only[hs] at h;have h1:=BN hs;cases hg:mSg z u with
   |none=>simp only[hg] at h;cases h
   |some y=>
    obtain⟨n,v⟩:=y;simp only[hg] at h;have h2:=iM hz hg;split at h
    ·cases hs2:sk ("/":Str).cps.toList v with
     |none=>rw[hs2] at h;cases h
     |some y=>
      obtain⟨_,q⟩:=y;simp only[hs2] at h;have h3:=BN hs2;cases hw:wn z 4 q with
      |none=>simp only[hw] at h;cases h
      |some y=>
       obtain⟨d,q2⟩:=y;simp only[hw] at h;have h4:=ZO hz (by decide) hw;split at h
       ·cases h
       ·rename_i hc;cases h;have:¬d<2:=λq=>hc (.inl q);have:d<10000:=h4.2;exact⟨by omega,n,d,rfl,h2.2,by omega,by omega⟩
    ·split at h
     ·cases h
     ·cases h;exact⟨by omega,n,1,rfl,h2.2,by decide,by decide⟩
 ·cases h;exact⟨au _,1,1,rfl,by decide,by decide,by decide⟩
def LJ (k:Nat) (n d:Int):List Int:=[0,0,0,0,d].set k n
def un5:List Int:=[0,0,0,0,1]
def mFc (dz fz:Str):Nat->Nat->List Int->List UInt8->Option (List Int×List UInt8)
 |0,_,_,_=>none
 |f+1,least,pr,l=>match pk fz l with
  |none=>none
  |some (k,t)=>match mPw dz t with
   |none=>none
   |some (x,u)=>if k<least then none else
    let pr':=BU (LJ k (x.getD 0 0) (x.getD 1 0)) pr
    if u.isEmpty=true then some (pr',u) else match sk (" ":Str).cps.toList u with
     |none=>none
     |some (_,v)=>mFc dz fz f (k+1) pr' v
theorem NC (x y:List Int):(BU x y).length=5:=by simp[BU,EB]
theorem iO (x y:List Int):(BU x y).getD 4 0=(x.getD 4 0*y.getD 4 0) / (BX (EB x y):Int):=by
 unfold BU;have:(EB x y)[4]? =some (x.getD 4 0*y.getD 4 0):=by unfold EB;rfl
 simp[uX,az,this]
theorem ZP {y:List Int} (hx:0<x.getD 4 0) (hy:0<y.getD 4 0):0<(BU x y).getD 4 0/\(BU x y).getD 4 0<=x.getD 4 0*y.getD 4 0:=by
 rw[iO];have hg:=VF hx hy;have hp:0<x.getD 4 0*y.getD 4 0:=xQ hx hy;obtain⟨q,hq⟩:=IV (J9 x y);have e:x.getD 4 0*y.getD 4 0 / (BX (EB x y):Int)=q:=by rw[hq];exact qr q (by omega)
 rw[e];have hq0:0<q:=by
  rw[hq] at hp;exact Int.pos_of_mul_pos_right hp (by omega)|>λh=>h
 refine⟨hq0,?_⟩;rw[hq];have:1*q<=(BX (EB x y):Int)*q:=Int.mul_le_mul_of_nonneg_right (by omega) (by omega);omega
theorem n9 {k:Nat} (hk:k<4) (n d:Int):(LJ k n d).getD 4 0=d/\(LJ k n d).length=5:=by
 match k,hk with
 |0,_=>exact⟨rfl,rfl⟩
 |1,_=>exact⟨rfl,rfl⟩
 |2,_=>exact⟨rfl,rfl⟩
 |3,_=>exact⟨rfl,rfl⟩
theorem dD {k:Nat} (hk:k<4) {n d z:Int} (h:z∈LJ k n d):z=0\/z=n\/z=d:=by
 rcases List.mem_or_eq_of_mem_set h with h|h
 ·have h':z=0\/z=d:=by simpa using h
  rcases h' with h|h
  ·exact .inl h
  ·exact .inr (.inr h)
 ·exact .inr (.inl h)
theorem Sb.tup {K:aa} {dx:ag} {fs:List (Str×V)} (s:Sb r H H') (hr:H r=some (.ins C dx fs)) (h:SqT K H a xs):SqT K H' a xs:=by
 rcases h with(h|⟨o,h⟩)|h
 ·exact .inl (.inl (s _ _ h (B2 h hr (by intro z;cases z))))
 ·exact .inl (.inr ⟨o,s _ _ h (B2 h hr (by intro z;cases z))⟩)
 ·exact .inr h
def oA (K:aa):Sp:=λvs H Q _=>Ex4 λ(k:Nat) (pa:ag) (n d:Int)=>vs=[.int (k:Nat),.ref pa]/\k<4/\SqT K H pa (([n,d]:List Int).map V.int)/\∀H' a,Same H H'->H' a=some (.tup ((LJ k n d).map V.int))->Q (.ref a) H'
section
variable {P:bb} {w:bv} {K:aa} {mg:Str->Option ah} {base:cr} {C CT:ag} {dz fz:Str}
theorem fF:FnScope ["factor","power","numbers"] ["factor","power"] (AH DU):={}
theorem oB (F:Fun K "power_of_factor" "power_of_factor" DU f fd) (B:Blt mg):FnOk P w K mg base (CX1 P w) 1 f fd ["factor","power"] (oA K):=by
 refine F.okx fF λAv A outer s H vs Q E hr h=>?_;obtain⟨k,pa,n,d,rfl,hk,hp,q⟩:=h;refine⟨_,AB (AW 2 fF (DS (AA AI (AA AI (AA AI (AA AI (AA (BI DK (pv 1) AI (λ_ _=>rfl)) AF)))))))
  (AB (gN (BI DK (pv 1) AI (λ_ _=>rfl)) (gM (pv 2) (pv 0) YO))
  (AC (AJ (J0 IC (by rfl) B.tuple RL (AA (pv 2) AF))))),?_⟩
 and_intros
 refine⟨_,rfl,pa,_,_,_,rfl,rfl,hp,ER (l:=[n,d]) (i:=1) rfl (by show 1<2;decide),(by show 5<=sizeLine;decide),λl hl=>?_⟩;have s1:Same H (upd H l (.lst [.int 0,.int 0,.int 0,.int 0,.int d])):=Same.upd hl;refine⟨_,rfl,pa,_,_,_,rfl,rfl,s1.tup hp,ER (l:=[n,d]) (i:=0) rfl (by show 0<2;decide),_,rfl,_,rfl,l,_,(k:Int),k,rfl,rfl,upd_same,?_,?_⟩
 ·show ixN 5 (k:Int)=some k;unfold ixN;rw[Ax (by omega),Ax (by omega)];simp
 ·refine⟨_,rfl,l,_,rfl,.inl ⟨SqL.of upd_same,λa ha=>?_⟩⟩;have e:(([V.int 0,.int 0,.int 0,.int 0,.int d]:List V).set k (.int n))=(LJ k n d).map V.int:=by
   unfold LJ;rw[List.map_set];rfl
  refine q _ a (λb o e=>?_) (by rw[upd_same];exact congrArg (λz=>some (HO.tup z)) e);have n1:b≠l:=AG e hl;have n2:b≠a:=by
   refine AG (o:=o) ?_ ha;rw[AE n1,AE n1];exact e
  rw[AE n2,AE n1,AE n1];exact e
theorem K6:FnScope ["reader","before","product","start","factor","power"] ["reader"] (AH E8):={}
def RP (dz fz:Str) (l:List UInt8):Option (List Int×List UInt8):=mFc dz fz (l.length+1) 0 un5 l
theorem oC (F:Fun K "read_factors" "read_factors" E8 f fd) (R:RdE P w K mg base C CT dz) (gu:GT K mg "UNISON" (un5.map V.int)) (gf:GS mg "FACTORS" fz) (of:OkS fz) (hz:dz.cps.toList.length<=10) (hf:fz.cps.toList.length=4)
 (D1:Def P w K mg base 6 "read_power" ["reader","start"] (ZM K C CT (mPw dz))) (D2:Def P w K mg base 1 "power_of_factor" ["factor","power"] (oA K)) (D3:Def P w K mg base 3 "upon" ["x","y"] (c6 K)):
 FnOk P w K mg base (CX1 P w) 7 f fd ["reader"] (FC K C CT (RP dz fz)):=by
 refine F.okx K6 λAv A outer s H vs Q E hr h=>?_;obtain⟨r,ta,cs,e,Aq,rfl,Rr,k⟩:=h;refine⟨_,(AB (AW 1 K6 (GY E0 AI))
  (AB (AW 2 K6 (OP gu))
  (AC (B4 bo (C5 MD)
  (AB (AW 3 K6 (B1 R (pv 0)))
  (AB (AW 4 K6 (EW R hr AD (pv 0) (FB gf) of))
  (AB (AW 5 K6 (D1.call hr AD (AA (pv 0) (AA (pv 3) AF))))
  (AB (AX (AO KZ (pv 4) (pv 1) (AQ _)) (AC (BF R.X1 hr AD rfl (pv 3))) AM)
  (AB (AW 1 K6 (pv 4))
  (AB (AW 2 K6 (D3.call hr AD (AA (D2.call hr AD (AA (pv 4) (AA (pv 5) AF))) (AA (pv 2) AF))))
  (AB (AX (JM R hr AD (pv 0)) (AC (AJ (pv 2))) AM)
  (AC (BL R hr AD (pv 0) AU (oks (by decide +kernel))))))))))))))),?_⟩
 and_intros
 refine⟨1,rfl,λpa hpa=>?_⟩;refine⟨λm σ H'=>Ex8 λ(Ar:List UInt8) (least fuel:Nat) (pa:ag) (pr:List Int) (r3 r4 r5:Option V)=>σ=[some (.ref r),some (.int ((least:Int) - 1)),some (.ref pa),r3,r4,r5]/\Sb r H H'/\Rd K C H' r ta cs e Ar/\
  SqT K H' pa (pr.map V.int)/\pr.length=5/\0<pr.getD 4 0/\pr.getD 4 0<=9999 ^ least/\least<=4/\RP dz fz Aq=mFc dz fz fuel least pr Ar/\Ar.length<fuel/\m=Ar.length,
  ⟨Aq.length,Aq,0,Aq.length+1,pa,un5,none,none,none,rfl,Sb.refl,Rr,hpa _,rfl,by decide,by decide,by decide,rfl,by omega,rfl⟩,?_⟩
 rintro m σ H' ⟨Ar,least,fuel,pa,pr,r3,r4,r5,rfl,sb,R',hpr,l5,p4,b4,hl4,em,hfu,rfl⟩;obtain⟨fuel,rfl⟩:∃f',fuel=f'+1:=⟨fuel - 1,by omega⟩
 rw[mFc] at em;refine⟨_,rfl,DY ?_⟩
 and_intros
 refine⟨_,rfl,r,ta,cs,e,Ar,rfl,R',λz=>?_⟩;refine⟨_,rfl,r,ta,cs,e,Ar,rfl,R',?_⟩;cases hp:pk fz Ar with
 |none=>
  simp only[hp] at em;rw[em] at k;exact AK rfl k
 |some x=>
  obtain⟨kk,t⟩:=x;simp only[hp] at em;have hk:=ES hp;have hk4:kk<4:=by rw[←hf];exact hk.2
  refine AL rfl λH1 R1 s1=>?_;obtain⟨dx',p',i'⟩:=R'.ins;refine⟨V.ref r,rfl,V.int z,rfl,r,ta,cs,e,t,z,rfl,R1,?_⟩;cases hw:mPw dz t with
  |none=>
   simp only[hw] at em;rw[em] at k;exact k
  |some x=>
   obtain⟨x,u⟩:=x;simp only[hw] at em;obtain⟨hu,n,d,rfl,hn,hd1,hd2⟩:=iN hz hw;intro H2 pa2 R2 s2 hp2;have sb2:Sb r H H2:=(sb.trans s1).trans s2;have hpr2:SqT K H2 pa (pr.map V.int):=Sb.tup (s1.trans s2) i' hpr;refine⟨V.int (kk:Nat),rfl,_,rfl,_,_,rfl,rfl,_,rfl,B9 (λh0=>?_) (λh0=>?_)⟩
   ·have e0:kk<least:=by
     have:(kk:Int)<=(least:Int) - 1:=by simpa using h0
     omega
    rw[Ax e0] at em;rw[em] at k;exact⟨_,rfl,_,rfl,k _⟩
   ·have e0:¬kk<least:=by
     have:¬(kk:Int)<=(least:Int) - 1:=by simpa using h0
     omega
    rw[Ay e0] at em;refine⟨V.int (kk:Nat),rfl,V.int (kk:Nat),rfl,V.ref pa2,rfl,kk,pa2,n,(d:Int),rfl,hk4,hp2,λH3 af s3 haf=>?_⟩;have f4:=n9 hk4 n (d:Int);have hpow:pr.getD 4 0<=9999 ^ 3:=by
     have:(9999:Int) ^ least<=9999 ^ 3:=zC.mpr (md (by decide:0<9999) (by omega:least<=3))|>λh=>by simpa using h
     omega
    have bnd:((9999:Int)) ^ 3=999700029999:=by decide
    refine⟨V.ref pa,rfl,af,pa,LJ kk n d,pr,rfl,.inr (SqT.of haf),s3.tup hpr2,f4.2,l5,λz hz'=>?_,by rw[f4.1];omega,p4,by omega,λH4 ap s4 hap=>?_⟩
    ·rcases dD hk4 hz' with q|q|q
     ·rw[q];decide
     ·rw[q];omega
     ·rw[q];omega
    have R4:=(R2.same s3).same s4;have sb4:Sb r H H4:=(sb2.trans s3.sb).trans s4.sb;refine⟨_,rfl,r,ta,cs,e,u,rfl,R4,?_⟩;have up:=ZP (x:=LJ kk n d) (y:=pr) (by rw[f4.1];omega) p4;have e1:([n,(d:Int)]:List Int).getD 0 0=n:=rfl;have e2:([n,(d:Int)]:List Int).getD 1 0=d:=rfl;simp only[e1,e2] at em;cases u with
    |nil=>
     simp only[List.isEmpty_nil,if_true] at em;rw[em] at k;exact BQ ⟨V.ref ap,rfl,k H4 ap R4 sb4 (SqT.of hap)⟩
    |cons c u=>
     simp only[List.isEmpty_cons,fu,if_false] at em;refine BH ⟨_,rfl,r,ta,cs,e,c::u,rfl,R4,?_⟩;cases hs:sk (" ":Str).cps.toList (c::u) with
     |none=>
      rw[hs] at em;rw[em] at k;exact AK rfl k
     |some x=>
      obtain⟨_,v⟩:=x;rw[hs] at em;have hv:=BN hs;have hv':v.length+1=(c::u).length:=hv;obtain⟨dx4,p4',i4⟩:=R4.ins;refine AL rfl λH5 R5 s5=>?_;refine⟨v.length,by simp at hv' hu;omega,v,kk+1,fuel,ap,_,some (V.int z),some (DQ kk),some (V.ref pa2),?_,sb4.trans s5,R5,Sb.tup s5 i4 (SqT.of hap),NC _ _,up.1,?_,by omega,em,by simp at hv' hu;omega,rfl⟩
      ·have:((kk+1:Nat):Int) - 1=kk:=by omega
       rw[this];rfl
      ·refine Int.le_trans up.2 ?_;rw[f4.1];have h9:(d:Int)*pr.getD 4 0<=9999*9999 ^ least:=yD (by omega) b4 (by omega) (by decide);have h8:(9999:Int)*9999 ^ least<=9999 ^ (kk+1):=by
        have:(9999:Nat)*9999 ^ least<=9999 ^ (kk+1):=by
         rw[←Nat.pow_succ'];exact md (by decide) (by omega)
        have:=zC.mpr this;simpa using this
       omega
end
open PySem PySem.Spec PyProof.Rows L2
theorem EC {K:aa} {res:Option (List Int×List UInt8)} (h:res=none) (k:∀z:Int,E (.ref CT) none (xH [("place",.int z)])):TM K CR CT r ta cs e H Q E res:=by
 rw[h];exact k
theorem ED {K:aa} {res:Option (List Int×List UInt8)} {l:List Int} (h:res=some (l,t)) (k:∀H' a,Rd K CR H' r ta cs e t->Sb r H H'->SqT K H' a (l.map V.int)->Q (.ref a) H'):TM K CR CT r ta cs e H Q E res:=by
 rw[h];exact k
def mIv (dz fz:Str) (l:List UInt8):Option (List Int):=if see "1" l=true then(match mUn l with
 |none=>none
 |some (x,_)=>some x)
 else match RP dz fz l with
  |none=>none
  |some (x,_)=>if F6 x=true then some x else none
theorem P4:∀{f least:Nat} {pr x:List Int} {l t:List UInt8},mFc dz fz f least pr l=some (x,t)->x.length=5
 |0,_,_,_,_,_,h=>by rw[mFc] at h;cases h
 |f+1,least,pr,x,l,t,h=>by
  rw[mFc] at h;cases hp:pk fz l with
  |none=>simp only[hp] at h;cases h
  |some y=>
   obtain⟨k,u⟩:=y;simp only[hp] at h;cases hw:mPw dz u with
   |none=>simp only[hw] at h;cases h
   |some y=>
    obtain⟨q,v⟩:=y;simp only[hw] at h;split at h
    ·cases h
    ·split at h
     ·cases h;exact NC _ _
     ·cases hs:sk (" ":Str).cps.toList v with
      |none=>rw[hs] at h;cases h
      |some y=>
       obtain⟨_,v'⟩:=y;rw[hs] at h;exact P4 h
theorem dE (h5:x.length=5) (h:F6 x=true):Sm x:=by
 unfold F6 at h;simp only[km,decide_eq_true_eq] at h;obtain⟨h1,⟨h2,h3⟩,_⟩:=h;refine⟨h5,λk hk=>?_,h2,h3⟩;have hm:x.getD k 0∈x.take 4:=by
  have Aw:k<x.length:=by omega
  have:(x.take 4)[k]? =some (x.getD k 0):=by rw[rh];simp[hk,uX,am Aw]
  exact bz this
 have:=ko.mp h1 _ hm;simpa using this
theorem ZQ:Sm un5:=⟨rfl,λk hk=>by match k,hk with|0,_=>decide|1,_=>decide|2,_=>decide|3,_=>decide,by decide,by decide⟩
theorem ZR {l:List UInt8} (h:mIv dz fz l=some x):Sm x:=by
 unfold mIv at h;split at h
 ·cases hu:mUn l with
  |none=>rw[hu] at h;cases h
  |some y=>
   obtain⟨y,t⟩:=y;rw[hu] at h;cases h;unfold mUn at hu;cases hs:sk ("1":Str).cps.toList l with
   |none=>rw[hs] at hu;cases hu
   |some z=>
    obtain⟨_,v⟩:=z;simp only[hs] at hu;split at hu
    ·cases hu;exact ZQ
    ·cases hu
 ·cases hf:RP dz fz l with
  |none=>rw[hf] at h;cases h
  |some y=>
   obtain⟨y,t⟩:=y;simp only[hf] at h;split at h
   ·rename_i hi;cases h;exact dE (P4 hf) hi
   ·cases h
def iP (K:aa) (CT:ag) (H:Hp) (Q:VK) (E:XK):Option (List Int)->Prop
 |some l=>∀H' a,Same H H'->SqT K H' a (l.map V.int)->Q (.ref a) H'
 |none=>∀z:Int,E (.ref CT) none (xH [("place",.int z)])
def fG (K:aa) (CT:ag) (dz fz:Str):Sp:=λvs H Q E=>Ex4 λ(ta:ag) (cs:List UInt8) (p e:Nat)=>vs=[.ref ta,.int (p:Nat),.int (e:Nat)]/\SqL K H ta (cs.map cV)/\p<=e/\e<=cs.length/\iP K CT H Q E (mIv dz fz ((cs.take e).drop p))
theorem BT {H2:Hp} {x dx:ag} {fs:List (Str×V)} (nx:H x=none) (nd:H dx=none) (s1:Sb x (upd (upd H dx (.own x)) x (.ins C dx fs)) H1) (s2:Sb x H1 H2):Same H H2:=λb o e=>by
 have n1:=AG e nx;have n2:=AG e nd;exact s2 b o (s1 b o (by rw[AE n1,AE n2];exact e) n1) n1
section
variable {P:bb} {w:bv} {K:aa} {mg:Str->Option ah} {base:cr} {C CT:ag} {dz fz:Str}
theorem TQ:FnScope ["text","place","end","reader","interval"] ["text","place","end"] (AH EM):={}
theorem iQ (F:Fun K "read_interval" "read_interval" EM f fd) (R:RdE P w K mg base C CT dz) (D1:Def P w K mg base 5 "read_unison" ["reader"] (FC K C CT mUn))
 (D2:Def P w K mg base 7 "read_factors" ["reader"] (FC K C CT (RP dz fz))) (D3:Def P w K mg base 3 "is_interval" ["numbers"] (iG K)):FnOk P w K mg base (CX1 P w) 8 f fd ["text","place","end"] (fG K CT dz fz):=by
 refine F.okx TQ λAv A outer s H vs Q E hr h=>?_;obtain⟨ta,cs,p,e,rfl,htx,hpe,hel,k⟩:=h;refine⟨_,(AB (AW 3 TQ (R.mkr.call hr AD (AA (pv 0) (AA (pv 1) (AA (pv 2) AF)))))
  (AB (AX (BK R hr AD (pv 3) AU (oks (by decide +kernel))) (AC (AJ (GV D1 hr AD (pv 3)))) AM)
  (AB (AW 4 TQ (GV D2 hr AD (pv 3)))
  (AB (AX (D0 (C5 (D3.call hr AD (AA (pv 4) AF)))) (AC (BF R.X1 hr AD rfl (pv 2))) AM)
  (AC (AJ (pv 4))))))),?_⟩
 and_intros
 refine⟨_,rfl,_,rfl,_,rfl,λx dx nx nd hne=>⟨x,dx,ta,(p:Int),(e:Int),rfl,upd_same,λH1 h1 s1=>⟨rfl,?_⟩⟩⟩;have R1:Rd K C H1 x ta cs e ((cs.take e).drop p):=by
  refine⟨⟨dx,p,h1,rfl,hpe⟩,?_,hel⟩;have sm:Same H H1:=BT nx nd s1 Sb.refl;exact sm.seq htx
 have fin:∀{H2:Hp},Sb x H1 H2->Same H H2:=λs2=>BT nx nd s1 s2;unfold mIv at k;refine⟨V.ref x,rfl,x,ta,cs,e,_,rfl,R1,λH2 s2=>?_⟩;have R2:=R1.same s2;cases hs:see "1" ((cs.take e).drop p) with
 |true=>
  rw[Ax hs] at k;refine BQ ⟨V.ref x,rfl,x,ta,cs,e,_,rfl,R2,?_⟩;cases hu:mUn ((cs.take e).drop p) with
  |none=>rw[hu] at k;exact EC rfl k
  |some y=>
   obtain⟨y,t⟩:=y;rw[hu] at k;exact ED rfl λH3 a R3 s3 q=>k H3 a (fin (s2.sb.trans s3)) q
 |false=>
  rw[Ay (by rw[hs];decide)] at k;refine BH ⟨V.ref x,rfl,x,ta,cs,e,_,rfl,R2,?_⟩;cases hf:RP dz fz ((cs.take e).drop p) with
  |none=>rw[hf] at k;exact EC rfl k
  |some y=>
   obtain⟨y,t⟩:=y;simp only[hf] at k;refine ED rfl λH3 a R3 s3 q=>?_;refine⟨V.ref a,rfl,a,y,rfl,q,P4 hf,λH4 s4=>⟨_,rfl,?_⟩⟩;cases hi:F6 y with
   |true=>
    rw[Ax hi] at k;exact BH ⟨V.ref a,rfl,k H4 a (fin ((s2.sb.trans s3).trans s4.sb)) (s4.tup q)⟩
   |false=>
    rw[Ay (by rw[hi];decide)] at k;exact BQ ⟨V.int (e:Nat),rfl,_,rfl,k _⟩
def lf (c:UInt8):Bool:=c != 10
def C4 (dz fz:Str) (l:List UInt8):Option (List Int×List UInt8):=match mIv dz fz (l.takeWhile lf) with
 |none=>none
 |some x=>some (x,l.drop (l.takeWhile lf).length)
theorem sc_rr:FnScope ["reader","end","interval"] ["reader"] (AH HA):={}
theorem N1 {l:List UInt8} (h:i<=(l.takeWhile lf).length):(∀c,l[i]? =some c->(lf c=true↔i<(l.takeWhile lf).length))/\(l[i]? =none->i=(l.takeWhile lf).length):=by
 induction l generalizing i with
 |nil=>simp at h;subst h;simp
 |cons c t ih=>
  by_cases hc:lf c=true
  ·rw[List.takeWhile_cons_of_pos hc] at h ⊢;cases i with
   |zero=>simp[hc]
   |succ i=>
    simp at h;have:=ih h;refine⟨λc' e=>?_,λe=>?_⟩
    ·rw[u0] at e;rw[this.1 c' e];simp
    ·rw[u0] at e;simp[this.2 e]
  ·rw[List.takeWhile_cons_of_neg hc] at h ⊢;simp at h;subst h;simp[hc]
theorem VO {Aq:List UInt8} (h2:Aq=(cs.take e).drop p) (hl:p+(Aq.takeWhile lf).length<=e) (he:e<=cs.length):(cs.take (p+(Aq.takeWhile lf).length)).drop p=Aq.takeWhile lf:=by
 have h1:Aq.takeWhile lf=Aq.take (Aq.takeWhile lf).length:=(List.prefix_iff_eq_take.mp (List.takeWhile_prefix lf))
 generalize hn:(Aq.takeWhile lf).length=n at*;rw[h1,h2,yF,yF,v0];congr 1;omega
theorem OQ {K:aa} {res:Option (List Int)} (h:res=none) (k:∀z:Int,E (.ref CT) none (xH [("place",.int z)])):iP K CT H Q E res:=by
 rw[h];exact k
theorem OR {K:aa} {res:Option (List Int)} {l:List Int} (h:res=some l) (k:∀H' a,Same H H'->SqT K H' a (l.map V.int)->Q (.ref a) H'):iP K CT H Q E res:=by
 rw[h];exact k
theorem oE (F:Fun K "read_rest" "read_rest" HA f fd) (R:RdE P w K mg base C CT dz) (gl:GI mg "LINE_FEED" 10) (D1:Def P w K mg base 8 "read_interval" ["text","place","end"] (fG K CT dz fz)):
 FnOk P w K mg base (CX1 P w) 9 f fd ["reader"] (FC K C CT (C4 dz fz)):=by
 refine F.okx sc_rr λAv A outer s H vs Q E hr h=>?_;obtain⟨r,ta,cs,e,Aq,rfl,Rr,k⟩:=h;refine⟨_,(AB (AW 1 sc_rr (AT (pv 0) rfl))
  (AB (B4 bo (GJ (AO G0 (pv 1) (AT (pv 0) rfl) (AQ _)) (EU (AO eU (BI CK (AT (pv 0) rfl) (pv 1) (λ_ _=>rfl)) (B0 gl) (AQ _)))).pt (AC (JW (i:=1) sc_rr.nd rfl (uj rfl) AI JX)))
  (AB (AW 2 sc_rr (D1.call hr AD (AA (AT (pv 0) rfl) (AA (AT (pv 0) rfl) (AA (pv 1) AF)))))
  (AB (CQ (pv 0) (pv 1) rfl)
  (AC (AJ (pv 2))))))),?_⟩
 and_intros
 obtain⟨dx,p,h1,h2,h3⟩:=Rr.at_;refine⟨V.ref r,rfl,r,C,dx,_,_,rfl,h1,R.T.cl,R.T.np,M9 _ _ _,?_⟩;have hlen:Aq.length=e - p:=by rw[h2,fx,df];have:=Rr.le;omega
 have htw:(Aq.takeWhile lf).length<=Aq.length:=(List.takeWhile_sublist lf).length_le;have hget:∀i:Nat,i<Aq.length->∃c,Aq[i]? =some c/\cs[p+i]? =some c:=λi hi=>by
  refine⟨Aq[i],am hi,?_⟩;have q:Aq[i]? =some Aq[i]:=am hi;have q2:Aq[i]? =((cs.take e).drop p)[i]?:=congrArg (λl=>l[i]?) h2;rw[um,rh,Ax (by omega)] at q2;rw[←q2,q]
 refine⟨λm σ H'=>H'=H/\∃i:Nat,i<=(Aq.takeWhile lf).length/\σ=[some (.ref r),some (.int ((p+i:Nat):Int)),none]/\m=Aq.length - i,⟨Aq.length,rfl,0,dq _,rfl,rfl⟩,?_⟩;rintro m σ H' ⟨rfl,i,hi,rfl,rfl⟩;have tw:=N1 hi;refine⟨_,rfl,V.ref r,rfl,r,C,dx,_,_,rfl,h1,R.T.cl,R.T.ne,m8 _ _ _,_,_,rfl,rfl,_,rfl,B9 (λAw=>?_) (λAw=>?_)⟩
 ·have hlt':p+i<e:=by
   have:((p+i:Nat):Int)<(e:Int):=by simpa using Aw
   omega
  obtain⟨c,hc1,hc2⟩:=hget i (by omega);refine⟨V.ref r,rfl,r,C,dx,_,_,rfl,h1,R.T.cl,R.T.nt,dB _ _ _,_,rfl,ta,_,_,_,rfl,rfl,Rr.tx,DH (v:=cV c) (by rw[az,hc2];rfl),rfl,_,rfl,?_⟩;have e10:decide (cV c=V.int 10)=!(lf c):=by
   unfold lf cV;rw[bne,zD];have:(V.int ((c.toNat:Nat):Int)=V.int 10)↔c=10:=by
    constructor
    ·intro q;injection q with q;apply xZ.mp;show c.toNat=10;omega
    ·intro q;rw[q];rfl
   rw[decide_eq_decide.mpr this];rfl
  rw[e10,zD];cases hl:lf c with
  |true=>
   refine DY ⟨_,rfl,_,_,rfl,rfl,Aq.length - (i+1),by omega,rfl,i+1,(tw.1 c hc1).mp hl,?_,rfl⟩;show[some (V.ref r),some (V.int (((p+i:Nat):Int)+1)),none]=_;have:((p+i:Nat):Int)+1=((p+(i+1):Nat):Int):=by omega
   rw[this]
  |false=>
   have hi':i=(Aq.takeWhile lf).length:=by
    have:¬i<(Aq.takeWhile lf).length:=λq=>by have:=(tw.1 c hc1).mpr q;rw[hl] at this;cases this
    omega
   subst hi';refine BH ⟨V.ref r,rfl,r,C,dx,_,_,rfl,h1,R.T.cl,R.T.nt,dB _ _ _,V.ref r,rfl,r,C,dx,_,_,rfl,h1,R.T.cl,R.T.np,M9 _ _ _,_,rfl,ta,cs,p,p+(Aq.takeWhile lf).length,rfl,Rr.tx,by omega,by have:=Rr.le;omega,?_⟩;have er:(cs.take (p+(Aq.takeWhile lf).length)).drop p=Aq.takeWhile lf:=VO h2 (by omega) Rr.le;unfold C4 at k;cases hm:mIv dz fz (Aq.takeWhile lf) with
   |none=>rw[hm] at k;exact OQ (by rw[er];exact hm) k
   |some x=>
    simp only[hm] at k;refine OR (by rw[er];exact hm) λH2 a s2 q=>?_;have h12:=s2 _ _ h1;refine⟨_,rfl,V.ref r,rfl,r,C,dx,_,rfl,h12,R.T.cl,R.T.np,(by show 3<1000;decide),V.ref a,rfl,?_⟩;have sb:Sb r H2 (upd H2 r (.ins C dx (FQ "place" (.int ((p+(Aq.takeWhile lf).length:Nat):Int)) (rf ta p e)))):=λb o eb hb=>by rw[AE hb];exact eb
    refine k _ a ⟨⟨dx,p+(Aq.takeWhile lf).length,tD upd_same rfl,?_,by omega⟩,Sb.lst sb h12 (s2.seq Rr.tx),Rr.le⟩ (s2.sb.trans sb) (Sb.tup sb h12 q);rw[h2,vZ, ←h2]
 ·have hge:¬p+i<e:=by
   have:¬((p+i:Nat):Int)<(e:Int):=by simpa using Aw
   omega
  have hi':i=(Aq.takeWhile lf).length:=by omega
  subst hi';refine BH ⟨V.ref r,rfl,r,C,dx,_,_,rfl,h1,R.T.cl,R.T.nt,dB _ _ _,V.ref r,rfl,r,C,dx,_,_,rfl,h1,R.T.cl,R.T.np,M9 _ _ _,_,rfl,ta,cs,p,p+(Aq.takeWhile lf).length,rfl,Rr.tx,by omega,by have:=Rr.le;omega,?_⟩;have er:(cs.take (p+(Aq.takeWhile lf).length)).drop p=Aq.takeWhile lf:=VO h2 (by omega) Rr.le;unfold C4 at k;cases hm:mIv dz fz (Aq.takeWhile lf) with
  |none=>rw[hm] at k;exact OQ (by rw[er];exact hm) k
  |some x=>
   simp only[hm] at k;refine OR (by rw[er];exact hm) λH2 a s2 q=>?_;have h12:=s2 _ _ h1;refine⟨_,rfl,V.ref r,rfl,r,C,dx,_,rfl,h12,R.T.cl,R.T.np,(by show 3<1000;decide),V.ref a,rfl,?_⟩;have sb:Sb r H2 (upd H2 r (.ins C dx (FQ "place" (.int ((p+(Aq.takeWhile lf).length:Nat):Int)) (rf ta p e)))):=λb o eb hb=>by rw[AE hb];exact eb
   refine k _ a ⟨⟨dx,p+(Aq.takeWhile lf).length,tD upd_same rfl,?_,by omega⟩,Sb.lst sb h12 (s2.seq Rr.tx),Rr.le⟩ (s2.sb.trans sb) (Sb.tup sb h12 q);rw[h2,vZ, ←h2]
end
open PySem PySem.Spec PyProof.Rows L2
def SbL (S:List ag) (H H':Hp):Prop:=∀b o,H b=some o->b∉S->H' b=some o
theorem SbL.trans {S:List ag} {H2:Hp} (a:SbL S H H1) (b:SbL S H1 H2):SbL S H H2:=λc o e n=>b c o (a c o e n) n
theorem Sb.l {S:List ag} (s:Sb r H H') (h:r∈S):SbL S H H':=λb o e n=>s b o e λz=>n (z▸h)
theorem Same.l {S:List ag} (s:Same H H'):SbL S H H':=λb o e _=>s b o e
theorem SbL.refl {S:List ag}:SbL S H H:=λ_ _ e _=>e
def LT (K:aa) (H:Hp) (a:ag) (ls:List (List Int)):Prop:=∃as:List ag,H a=some (.lst (as.map V.ref))/\cf (λb l=>SqT K H b (l.map V.int)) as ls
theorem AR {F G:α->β->Prop}:∀{l:List α} {m:List β},cf F l m->(∀a b,F a b->G a b)->cf G l m
 |_,_,.nil,_=>.nil
 |_,_,.cons r t,f=>.cons (f _ _ r) (AR t f)
theorem FM {F:α->β->Prop} {x:α} {y:β} (h:F x y):∀{l:List α} {m:List β},cf F l m->cf F (l++[x]) (m++[y])
 |_,_,.nil=>.cons h .nil
 |_,_,.cons r t=>.cons r (FM h t)
theorem BD {F:α->β->Prop}:∀{l:List α} {m:List β} {i:Nat} {a:α},cf F l m->l[i]? =some a->∃b,m[i]? =some b/\F a b
 |_,_,_,_,.nil,e=>by simp at e
 |_,_,0,_,.cons r _,e=>by simp at e;subst e;exact⟨_,rfl,r⟩
 |_,_,i+1,_,.cons _ t,e=>by
  obtain⟨b,h1,h2⟩:=BD (i:=i) t (by simpa using e);exact⟨b,by simpa using h1,h2⟩
def ifs (af ac ab:ag):List (Str×V):=[("frets",.ref af),("courses",.ref ac),("basses",.ref ab)]
structure InA (K:aa) (CI:ag) (H:Hp) (ia af ac ab:ag) (fr co ba:List (List Int)):Prop where
 at_:∃dx,H ia=some (.ins CI dx (ifs af ac ab))
 fr_:LT K H af fr
 co_:LT K H ac co
 ba_:LT K H ab ba
 n1:af≠ac
 n2:af≠ab
 n3:ac≠ab
 sf:∀l∈fr,Sm l
 sc:∀l∈co,Sm l
 sb:∀l∈ba,Sm l
 lf:fr.length<=15
 lc:co.length+ba.length<=14
def Kp (H H':Hp):Prop:=(∀b xs,H b=some (.lst xs)->H' b=some (.lst xs))/\(∀b xs,H b=some (.tup xs)->H' b=some (.tup xs))/\(∀b o u,H b=some (.frz o u)->H' b=some (.frz o u))/\
 ∀b C dx af ac ab,H b=some (.ins C dx (ifs af ac ab))->H' b=some (.ins C dx (ifs af ac ab))
theorem iR {af ac ab:ag} {p e:Int}:ifs af ac ab≠rf ta p e:=by
 intro q;unfold ifs rf at q;have:=(Prod.mk.inj (wt q).1).1;exact absurd this (by decide +kernel)
theorem Sb.kp {dx:ag} {p e:Int} (s:Sb r H H') (h:H r=some (.ins C dx (rf ta p e))):Kp H H':=
 ⟨λb xs q=>s _ _ q (B2 q h (by intro z;cases z)),λb xs q=>s _ _ q (B2 q h (by intro z;cases z)),λb o u q=>s _ _ q (B2 q h (by intro z;cases z)),
  λb C' dx' af ac ab q=>s _ _ q (B2 q h (by intro z;injection z with _ _ z;exact iR z))⟩
theorem Same.kp (s:Same H H'):Kp H H':=⟨λb xs q=>s _ _ q,λb xs q=>s _ _ q,λb o u q=>s _ _ q,λb C dx af ac ab q=>s _ _ q⟩
theorem Kp.trans {H2:Hp} (a:Kp H H1) (b:Kp H1 H2):Kp H H2:=⟨λc xs q=>b.1 _ _ (a.1 _ _ q),λc xs q=>b.2.1 _ _ (a.2.1 _ _ q),λc o u q=>b.2.2.1 _ _ _ (a.2.2.1 _ _ _ q),λc C dx af ac ab q=>b.2.2.2 _ _ _ _ _ _ (a.2.2.2 _ _ _ _ _ _ q)⟩
theorem Kp.tup {K:aa} (k:Kp H H') (h:SqT K H a xs):SqT K H' a xs:=by
 rcases h with(h|⟨o,h⟩)|h
 ·exact .inl (.inl (k.2.1 _ _ h))
 ·exact .inl (.inr ⟨o,k.2.2.1 _ _ _ h⟩)
 ·exact .inr h
theorem Kp.lt {K:aa} (k:Kp H H') (h:LT K H a ls):LT K H' a ls:=let ⟨as,h1,h2⟩:=h;⟨as,k.1 _ _ h1,AR h2 λ_ _ q=>k.tup q⟩
theorem InA.kp {K:aa} {ia af ac ab:ag} (I:InA K CI H ia af ac ab fr co ba) (k:Kp H H'):InA K CI H' ia af ac ab fr co ba:=
 ⟨let ⟨dx,q⟩:=I.at_;⟨dx,k.2.2.2 _ _ _ _ _ _ q⟩,k.lt I.fr_,k.lt I.co_,k.lt I.ba_,I.n1,I.n2,I.n3,I.sf,I.sc,I.sb,I.lf,I.lc⟩
def KTx (K:aa) (a:ag) (xs:List V):Prop:=Ex3 λ(o:Obj) (As:Array ah) (n:Nat)=>K.lookup a=some o/\o.cls= .type "list"/\o.dict=none/\o.data= .seq As n/\As.size<=sizeLine/\Vals xs As.toList
theorem Rd.kp {K:aa} {Aq:List UInt8} {a:Nat} {ys:List V} (R:Rd K C H r ta cs e Aq) (h:H a=some (.lst xs)) (ht:¬a=ta\/KTx K ta (cs.map cV)) (s:∀b o,H b=some o->b≠a->H' b=some o):Rd K C H' r ta cs e Aq:=by
 obtain⟨⟨dx,p,q,w⟩,t,l⟩:=R;refine⟨⟨dx,p,s _ _ q (B2 q h (by intro z;cases z)),w⟩,?_,l⟩;rcases ht with ht|ht
 ·rcases t with(t|⟨o,t⟩)|t
  ·exact .inl (.inl (s _ _ t (cq ht)))
  ·exact .inl (.inr ⟨o,s _ _ t (cq ht)⟩)
  ·exact .inr t
 ·exact .inr ht
abbrev St3:=List (List Int)×List (List Int)×List (List Int)
def iS (K:aa) (CR CI CT r ta:ag) (cs:List UInt8) (e:Nat) (ia af ac ab:ag) (H:Hp) (Q:VK) (E:XK):Option (St3×List UInt8)->Prop
 |some ((fr,co,ba),Ar)=>∀H',Rd K CR H' r ta cs e Ar->InA K CI H' ia af ac ab fr co ba->SbL [r,af,ac,ab] H H'->Q .non H'
 |none=>∀z:Int,E (.ref CT) none (xH [("place",.int z)])
theorem HS {K:aa} {ia af ac ab:ag} {res:Option (St3×List UInt8)} (h:res=none) (k:∀z:Int,E (.ref CT) none (xH [("place",.int z)])):iS K CR CI CT r ta cs e ia af ac ab H Q E res:=by
 rw[h];exact k
theorem HU {K:aa} {ia af ac ab:ag} {res:Option (St3×List UInt8)} (h:res=some ((fr,co,ba),t))
 (k:∀H',Rd K CR H' r ta cs e t->InA K CI H' ia af ac ab fr co ba->SbL [r,af,ac,ab] H H'->Q .non H'):iS K CR CI CT r ta cs e ia af ac ab H Q E res:=by
 rw[h];exact k
def LK (K:aa) (C CI CT:ag) (m:St3->List UInt8->Option (St3×List UInt8)):Sp:=λvs H Q E=>Ex12 λ(r ta:ag) (cs:List UInt8) (e:Nat) (Aq:List UInt8) (ia af ac ab:ag) (fr co ba:List (List Int))=>
 vs=[.ref r,.ref ia]/\Rd K C H r ta cs e Aq/\InA K CI H ia af ac ab fr co ba/\((ta≠af/\ta≠ac/\ta≠ab)\/KTx K ta (cs.map cV))/\iS K C CI CT r ta cs e ia af ac ab H Q E (m (fr,co,ba) Aq)
def mSW (z:Str) (m:Bool) (l:List UInt8):Option (Unit×List UInt8):=match sk z.cps.toList l with
 |none=>none
 |some (_,t)=>if m=true then sk (" ":Str).cps.toList t else none
def oF (K:aa) (C CT:ag):Sp:=λvs H Q E=>Ex7 λ(r ta:ag) (cs:List UInt8) (e:Nat) (Aq:List UInt8) (z:Str) (m:Bool)=>vs=[.ref r,.str z,.bl m]/\Rd K C H r ta cs e Aq/\OkS z/\Got K C CT r ta cs e H Q E W6 (mSW z m Aq)
def ND (dz fz:Str):St3->List UInt8->Option (St3×List UInt8)
 |(fr,co,ba),l=>match mSW "fret" (decide (fr.length<15)) l with
  |none=>none
  |some (_,t)=>match C4 dz fz t with
   |none=>none
   |some (x,u)=>if BG (fr.getLastD un5) x=true then some ((fr++[x],co,ba),u) else none
def FN (dz fz:Str):St3->List UInt8->Option (St3×List UInt8)
 |(fr,co,ba),l=>match mSW "course" (decide (co.length+ba.length<14)) l with
  |none=>none
  |some (_,t)=>match C4 dz fz t with
   |none=>none
   |some (x,u)=>if(fr.all λf=>F6 (BU f x))=true then some ((fr,co++[x],ba),u) else none
def JN (dz fz:Str):St3->List UInt8->Option (St3×List UInt8)
 |(fr,co,ba),l=>match mSW "bass" (decide (co.length+ba.length<14)) l with
  |none=>none
  |some (_,t)=>match C4 dz fz t with
   |none=>none
   |some (x,u)=>some ((fr,co,ba++[x]),u)
theorem NE {l:List UInt8} (h:C4 dz fz l=some (x,t)):Sm x:=by
 unfold C4 at h;cases hm:mIv dz fz (l.takeWhile lf) with
 |none=>rw[hm] at h;cases h
 |some y=>rw[hm] at h;cases h;exact ZR hm
structure InC (K:aa) (CI:ag):Prop where
 cl:Cls K CI
 nf:NoAttr K CI "frets"
 nc:NoAttr K CI "courses"
 nb:NoAttr K CI "basses"
def ZS (CI:ag):Sp:=λvs H Q _=>Ex2 λ(ia dx:ag)=>vs=[.ref ia]/\H ia=some (.ins CI dx [])/\∀H' af ac ab,H' ia=some (.ins CI dx (ifs af ac ab))->H' af=some (.lst [])->H' ac=some (.lst [])->H' ab=some (.lst [])->H af=none->H ac=none->H ab=none->af≠ac->af≠ab->ac≠ab->Sb ia H H'->Q .non H'
def iU (K:aa) (CI:ag):Sp:=λvs H Q _=>Ex7 λ(ia af ac ab:ag) (fr co ba:List (List Int))=>vs=[.ref ia]/\InA K CI H ia af ac ab fr co ba/\Q (.int ((co.length+ba.length:Nat):Int)) H
theorem NF (af ac ab:ag):(ifs af ac ab).lookup ("frets":Str)=some (.ref af):=rfl
theorem II (af ac ab:ag):(ifs af ac ab).lookup ("courses":Str)=some (.ref ac):=rfl
theorem VP (af ac ab:ag):(ifs af ac ab).lookup ("basses":Str)=some (.ref ab):=rfl
theorem TR (af ac ab:ag) {m:Str} (h1:(m=="frets")=false) (h2:(m=="courses")=false) (h3:(m=="basses")=false):(ifs af ac ab).lookup m=none:=by
 unfold ifs;simp only[jf,h1,h2,h3]
theorem LT.len {K:aa} (h:LT K H a ls):∃ys,SqL K H a ys/\ys.length=ls.length:=let ⟨as,h1,h2⟩:=h;⟨_,SqL.of h1,by rw[ai];exact cg h2⟩
section
variable {P:bb} {w:bv} {K:aa} {mg:Str->Option ah} {base:cr} {C CI CT:ag} {dz fz:Str}
theorem fH:FnScope ["reader","word","more_may_come","start"] ["reader","word","more_may_come"] (AH G9):={}
theorem oG (F:Fun K "skip_word" "skip_word" G9 f fd) (R:RdE P w K mg base C CT dz):FnOk P w K mg base (CX1 P w) 5 f fd ["reader","word","more_may_come"] (oF K C CT):=by
 refine F.okx fH λAv A outer s H vs Q E hr h=>?_;obtain⟨r,ta,cs,e,Aq,z,m,rfl,Rr,oz,k⟩:=h;refine⟨_,(AB (AW 3 fH (B1 R (pv 0)))
  (AB (AZ (R.sk.call (pv 0) hr AD (AA (pv 1) AF)))
  (AB (AX (D0 (C5 (pv 2))) (AC (BF R.X1 hr AD rfl (pv 3))) AM)
  (AC (BL R hr AD (pv 0) AU (oks (by decide +kernel))))))),?_⟩
 and_intros
 refine⟨_,rfl,r,ta,cs,e,Aq,rfl,Rr,λst=>?_⟩;obtain⟨dx,p,i1⟩:=Rr.ins;refine⟨V.ref r,rfl,r,dx,_,rfl,i1,P2 _ _ _,V.str z,rfl,r,ta,cs,e,Aq,z,rfl,Rr,oz,?_⟩;unfold mSW at k;cases hs:sk z.cps.toList Aq with
 |none=>rw[hs] at k;exact AK rfl k
 |some x=>
  obtain⟨_,t⟩:=x;simp only[hs] at k;refine AL rfl λH1 R1 s1=>?_;refine⟨V.bl m,rfl,m,rfl,?_⟩;cases m with
  |false=>exact BQ ⟨V.int st,rfl,st,rfl,k st⟩
  |true=>
   simp only[if_true] at k;refine BH ⟨V.ref r,rfl,r,ta,cs,e,t,rfl,R1,?_⟩;cases hs2:sk (" ":Str).cps.toList t with
   |none=>rw[hs2] at k;exact AK rfl k
   |some x=>
    obtain⟨⟨⟩,u⟩:=x;rw[hs2] at k;exact AL rfl λH2 R2 s2=>k H2 R2 (s1.trans s2)
theorem iV:FnScope ["self"] ["self"] (AH DV):={}
theorem iW (F:Fun K "__init__" "Instrument.__init__" DV f fd) (T:InC K CI):FnOk P w K mg base (CX1 P w) 1 f fd ["self"] (ZS CI):=by
 refine F.okx iV λAv A outer s H vs Q E hr h=>?_;obtain⟨ia,dx,rfl,h1,k⟩:=h;refine⟨_,(AB (CQ (pv 0) (DS AF) rfl)
  (AB (CQ (pv 0) (DS AF) rfl)
  (AC (CQ (pv 0) (DS AF) rfl)))),?_⟩
 and_intros
 refine⟨dq _,λaf naf=>?_⟩;have m1:ia≠af:=AG h1 naf;refine⟨V.ref ia,rfl,ia,CI,dx,_,rfl,(by rw[AE m1];exact h1),T.cl,T.nf,(by decide),dq _,λac nac=>?_⟩;have m2:ia≠ac:=AG upd_same nac;have m3:af≠ac:=by
  refine AG (o:=.lst []) ?_ nac;rw[AE (cq m1),upd_same]
 refine⟨V.ref ia,rfl,ia,CI,dx,_,rfl,(by rw[AE m2,upd_same]),T.cl,T.nc,(by show 1<1000;decide),dq _,λab nab=>?_⟩;have m4:ia≠ab:=AG upd_same nab;have m5:ac≠ab:=by
  refine AG (o:=.lst []) ?_ nab;rw[AE (cq m2),upd_same]
 have m6:af≠ab:=by
  refine AG (o:=.lst []) ?_ nab;rw[AE (cq m1),AE m3,AE (cq m1),upd_same]
 refine⟨V.ref ia,rfl,ia,CI,dx,_,rfl,(by rw[AE m4,upd_same]),T.cl,T.nb,(by show 2<1000;decide),?_⟩;have fac:H ac=none:=by rw[←nac,AE (cq m2),AE (cq m3)]
 have fab:H ab=none:=by rw[←nab,AE (cq m4),AE (cq m5),AE (cq m4),AE (cq m6)]
 refine k _ af ac ab (tD upd_same rfl) ?_ ?_ ?_ naf fac fab m3 m6 m5 λb o e hb=>?_
 ·rw[AE (cq m1),AE m6,AE (cq m1),AE m3,AE (cq m1),upd_same]
 ·rw[AE (cq m2),AE m5,AE (cq m2),upd_same]
 ·rw[AE (cq m4),upd_same]
 ·rw[AE hb,AE (AG e fab),AE hb,AE (AG e fac),AE hb,AE (AG e naf)];exact e
theorem iX:FnScope ["self"] ["self"] (AH BV):={}
theorem iY (F:Fun K "string_count" "Instrument.string_count" BV f fd) (B:Blt mg) (T:InC K CI):FnOk P w K mg base (CX1 P w) 1 f fd ["self"] (iU K CI):=by
 refine F.okx iX λAv A outer s H vs Q E hr h=>?_;obtain⟨ia,af,ac,ab,fr,co,ba,rfl,I,k⟩:=h;obtain⟨dx,h1⟩:=I.at_;obtain⟨y1,q1,l1⟩:=I.co_.len;obtain⟨y2,q2,l2⟩:=I.ba_.len;refine⟨_,(AC (AJ (BC C7 (AY AN (by rfl) B.len cu (AA (AT (pv 0) rfl) AF)) (AY AN (by rfl) B.len cu (AA (AT (pv 0) rfl) AF))))),?_⟩
 subst_eqs
 refine⟨V.ref ia,rfl,ia,CI,dx,_,_,rfl,h1,T.cl,T.nc,II _ _ _,ac,y1,rfl,.inl q1,V.ref ia,rfl,ia,CI,dx,_,_,rfl,h1,T.cl,T.nb,VP _ _ _,ab,y2,rfl,.inl q2,_,_,rfl,rfl,?_⟩;rw[l1,l2];have e:((co.length:Int)+(ba.length:Int))=((co.length+ba.length:Nat):Int):=by omega
 show Q (V.int ((co.length:Int)+(ba.length:Int))) H;rw[e];exact k
end
open PySem PySem.Spec PyProof.Rows L2
structure InE (P:bb) (w:bv) (K:aa) (mg:Str->Option ah) (base:cr) (C CI CT:ag) (dz fz:Str):Prop where
 R:RdE P w K mg base C CT dz
 B:Blt mg
 T:InC K CI
 gu:GT K mg "UNISON" (un5.map V.int)
 sc:Mth P w K mg base 1 CI "string_count" ["self"] (iU K CI)
 sw:Def P w K mg base 5 "skip_word" ["reader","word","more_may_come"] (oF K C CT)
 rr:Def P w K mg base 9 "read_rest" ["reader"] (FC K C CT (C4 dz fz))
 nr:Def P w K mg base 2 "narrower" ["x","y"] (c9 K)
 ii:Def P w K mg base 3 "is_interval" ["numbers"] (iG K)
 up:Def P w K mg base 3 "upon" ["x","y"] (c6 K)
theorem N2 (r af ac ab:ag):r∈[r,af,ac,ab]/\af∈[r,af,ac,ab]/\ac∈[r,af,ac,ab]/\ab∈[r,af,ac,ab]:=by simp
theorem LT.add {K:aa} {x:ag} {l:List Int} {as:List ag} (h:H a=some (.lst (as.map V.ref))) (p:cf (λb l=>SqT K H b (l.map V.int)) as ls) (hx:SqT K H x (l.map V.int)):
 LT K (upd H a (.lst (as.map V.ref++[.ref x]))) a (ls++[l]):=by
 have kt:∀{b:ag} {ys:List V},SqT K H b ys->SqT K (upd H a (.lst (as.map V.ref++[.ref x]))) b ys:=λ{b ys} q=>by
  rcases q with(q|⟨o,q⟩)|q
  ·exact .inl (.inl (by rw[AE (B2 q h (by intro z;cases z))];exact q))
  ·exact .inl (.inr ⟨o,by rw[AE (B2 q h (by intro z;cases z))];exact q⟩)
  ·exact .inr q
 refine⟨as++[x],by rw[upd_same,du];rfl,FM (F:=λb l=>SqT K (L2.upd H a (.lst (as.map V.ref++[.ref x]))) b (l.map V.int)) (kt hx) (AR p λ_ _ q=>kt q)⟩
theorem LT.upd {K:aa} {b:ag} {ys:List V} (h:LT K H b ls) (ha:H a=some (.lst xs)) (hn:b≠a):LT K (upd H a (.lst ys)) b ls:=by
 obtain⟨as,h1,h2⟩:=h;refine⟨as,by rw[AE hn];exact h1,AR h2 λc l q=>?_⟩;rcases q with(q|⟨o,q⟩)|q
 ·exact .inl (.inl (by rw[AE (B2 q ha (by intro z;cases z))];exact q))
 ·exact .inl (.inr ⟨o,by rw[AE (B2 q ha (by intro z;cases z))];exact q⟩)
 ·exact .inr q
theorem MQ {as:List ag} (h:as.getLast? =some a):atI (as.map V.ref) (-1)=some (.ref a):=by
 have hne:as≠[]:=by rintro rfl;simp at h
 have hl:0<as.length:=wg.mpr hne;unfold atI ixN;rw[ai,Ay (by decide),Ax (by omega)];show(as.map V.ref)[((-1:Int)+(as.length:Int)).toNat]? =_;have e:((-1:Int)+(as.length:Int)).toNat=as.length - 1:=by omega
 rw[e,az, ←qf,h];rfl
theorem K7 {F:α->β->Prop} {l:List α} {m:List β} (p:cf F l m) {y:β} (h:0<m.length):Ex2 λa b=>l.getLast? =some a/\m.getLastD y=b/\F a b/\b∈m:=by
 have hl:l.length=m.length:=cg p;have Aw:l.length - 1<l.length:=by omega
 obtain⟨b,h1,h2⟩:=BD (i:=l.length - 1) (a:=l[l.length - 1]) p (am Aw);refine⟨l[l.length - 1],b,by rw[qf];exact am Aw,?_,h2,bz h1⟩;rw[jl,qf, ←hl,h1];rfl
section
variable {P:bb} {w:bv} {K:aa} {mg:Str->Option ah} {base:cr} {C CI CT:ag} {dz fz:Str}
theorem VQ:FnScope ["reader","instrument","start","fret","before"] ["reader","instrument"] (AH G7):={}
theorem oH (F:Fun K "read_fret" "read_fret" G7 f fd) (N:InE P w K mg base C CI CT dz fz) (gm:GI mg "MOST_FRETS" 15):FnOk P w K mg base (CX1 P w) 10 f fd ["reader","instrument"] (LK K C CI CT (ND dz fz)):=by
 refine F.okx VQ λAv A outer s H vs Q E hr h=>?_;obtain⟨r,ta,cs,e,Aq,ia,af,ac,ab,fr,co,ba,rfl,Rr,I,tt,k⟩:=h;have R:=N.R;refine⟨_,(AB (AZ (N.sw.call hr AD (AA (pv 0) (AA AU (AA (DR G0 (AY AN (by rfl) N.B.len cu (AA (AT (pv 1) rfl) AF)) (B0 gm) (AQ _)) AF)))))
  (AB (AW 2 VQ (B1 R (pv 0)))
  (AB (AW 3 VQ (GV N.rr hr AD (pv 0)))
  (AB (AW 4 VQ (QT (AO E1 (AY AN (by rfl) N.B.len cu (AA (AT (pv 1) rfl) AF)) AI (AQ _)) (BI CK (AT (pv 1) rfl) (GY E0 AI) (λ_ _=>rfl)) (OP N.gu)))
  (AB (AX (D0 (C5 (N.nr.call hr AD (AA (pv 4) (AA (pv 3) AF))))) (AC (BF R.X1 hr AD rfl (pv 2))) AM)
  (AC (AZ (ID fh fm fq CZ (AT (pv 1) rfl) (AA (pv 3) AF))))))))),?_⟩
 and_intros
 obtain⟨dx,i1⟩:=I.at_;obtain⟨y1,q1,l1⟩:=I.fr_.len;obtain⟨dr,p,ir⟩:=Rr.ins;refine⟨V.ref r,rfl,V.ref ia,rfl,ia,CI,dx,_,_,rfl,i1,N.T.cl,N.T.nf,NF _ _ _,af,y1,rfl,.inl q1,_,_,rfl,rfl,r,ta,cs,e,Aq,"fret",decide ((y1.length:Int)<15),rfl,Rr,oks (by decide +kernel),?_⟩;have eb:decide ((y1.length:Int)<15)=decide (fr.length<15):=by rw[l1,decide_eq_decide];omega
 rw[ND] at k;cases hs:mSW "fret" (decide (fr.length<15)) Aq with
 |none=>simp only[hs] at k;exact AK (by rw[eb];exact hs) k
 |some x=>
  obtain⟨_,t⟩:=x;simp only[hs] at k;refine AL (by rw[eb];exact hs) λH1 R1 s1=>?_;have I1:=I.kp (Sb.kp s1 ir);obtain⟨dr1,p1,ir1⟩:=R1.ins;refine⟨_,rfl,r,ta,cs,e,t,rfl,R1,λst=>?_⟩;refine⟨_,rfl,r,ta,cs,e,t,rfl,R1,?_⟩;cases hm:C4 dz fz t with
  |none=>simp only[hm] at k;exact EC rfl k
  |some x=>
   obtain⟨x,u⟩:=x;simp only[hm] at k;have sx:=NE hm;refine ED rfl λH2 xa R2 s2 hx=>?_;have I2:=I1.kp (Sb.kp s2 ir1);obtain⟨dr2,p2,ir2⟩:=R2.ins;obtain⟨dx2,i2⟩:=I2.at_;obtain⟨as,a1,a2⟩:=id I2.fr_;obtain⟨y2,q2,l2⟩:=I2.fr_.len;have tail:∀(ba':ag) (bl:List Int) (H3:Hp),Same H2 H3->SqT K H3 ba' (bl.map V.int)->bl=fr.getLastD un5->Sm bl->
    (AV (SL (lG (tB (K1 (c9 K) [] E (B6 (BO 4) (B6 (BO 3) EK))))) (KD CT E (BO 2)) UO)
     (KW (tBM K "list" LU (NX K (BO 1) "frets") (B6 (BO 3) EK)))) { nx:=λ_ H'=>Q .non H',rt:=Q } [some (.ref r),some (.ref ia),some (.int st),some (.ref xa),some (.ref ba')] H3:=by
    intro ba' bl H3 s3 hb hbl sbl;refine⟨V.ref ba',rfl,V.ref xa,rfl,ba',xa,bl,x,rfl,hb,s3.tup hx,sbl,sx,λH4 s4=>⟨_,rfl,?_⟩⟩;have s24:Same H2 H4:=s3.trans s4;have R4:=R2.same s24;have I4:=I2.kp (Same.kp s24);rw[hbl];cases hn:BG (fr.getLastD un5) x with
    |false=>
     rw[Ay (by rw[hn];decide)] at k;exact BQ ⟨V.int st,rfl,st,rfl,k st⟩
    |true=>
     rw[Ax hn] at k;have a14:=s24 _ _ a1;have a24:cf (λb l=>SqT K H4 b (l.map V.int)) as fr:=AR a2 λ_ _ q=>s24.tup q;have la:as.length=fr.length:=cg a24;have Aw:fr.length<15:=by
      by_cases hq:fr.length<15
      ·exact hq
      ·unfold mSW at hs;rw[decide_eq_false hq] at hs;cases hz:sk ("fret":Str).cps.toList Aq with
       |none=>rw[hz] at hs;cases hs
       |some y=>obtain⟨_,y⟩:=y;rw[hz] at hs;cases hs
     refine BH ⟨V.ref ia,rfl,ia,CI,dx2,_,_,rfl,s24 _ _ i2,N.T.cl,N.T.nf,NF _ _ _,.inl ⟨rfl,_,SqL.of a14⟩,V.ref xa,rfl,af,_,_,rfl,rfl,a14,?_,?_⟩
     ·rw[ai,la,bw];omega
     ·have sa:∀b o,H4 b=some o->b≠af->(upd H4 af (.lst (as.map V.ref++[.ref xa]))) b=some o:=λb o eb hb=>by rw[AE hb];exact eb
      refine k _ (R4.kp (xs:=as.map V.ref) (ys:=[]) a14 (tt.imp (λt=>cq t.1) id) sa) ⟨⟨dx2,sa _ _ (s24 _ _ i2) (B2 (s24 _ _ i2) a14 (by intro z;cases z))⟩,LT.add a14 a24 (s24.tup hx),I4.co_.upd a14 (cq I.n1),I4.ba_.upd a14 (cq I.n2),I.n1,I.n2,I.n3,?_,I.sc,I.sb,?_,I.lc⟩
       (((Sb.l s1 (N2 r af ac ab).1).trans (Sb.l s2 (N2 r af ac ab).1)).trans ((Same.l s24).trans λb o eb hb=>sa b o eb λz=>hb (z▸(N2 r af ac ab).2.1)))
      ·intro l hl;rcases cn.mp hl with hl|hl
       ·exact I.sf l hl
       ·rw[io.mp hl];exact sx
      ·rw[bq];simp;omega
   refine⟨V.ref ia,rfl,ia,CI,dx2,_,_,rfl,i2,N.T.cl,N.T.nf,NF _ _ _,af,y2,rfl,.inl q2,_,_,rfl,rfl,_,rfl,?_⟩;refine B9 (λh0=>?_) (λh0=>?_)
   ·have hp:0<fr.length:=by
     have:(0:Int)<(y2.length:Int):=by simpa using h0
     omega
    obtain⟨a,b,e1,e2,e3,e4⟩:=K7 a2 (y:=un5) hp;refine⟨V.ref ia,rfl,ia,CI,dx2,_,_,rfl,i2,N.T.cl,N.T.nf,NF _ _ _,1,rfl,af,_,_,_,rfl,rfl,SqL.of a1,MQ e1,?_⟩;exact tail a b H2 (Same.refl _) e3 e2.symm (I.sf b e4)
   ·have hp:fr=[]:=by
     have:¬(0:Int)<(y2.length:Int):=by simpa using h0
     exact List.length_eq_zero_iff.mp (by omega)
    intro a ha;exact tail a un5 H2 (Same.refl _) (ha H2) (by rw[hp];rfl) ZQ
end
open PySem PySem.Spec PyProof.Rows L2
theorem RQ {m:Bool} {l:List UInt8} {x:Unit×List UInt8} (h:mSW z m l=some x):m=true:=by
 cases m with
 |true=>rfl
 |false=>
  unfold mSW at h;cases hz:sk z.cps.toList l with
  |none=>rw[hz] at h;cases h
  |some y=>obtain⟨_,y⟩:=y;rw[hz] at h;cases h
theorem TU (af ac ab:ag):(ifs af ac ab).lookup ("string_count":Str)=none:=TR _ _ _ (by decide +kernel) (by decide +kernel) (by decide +kernel)
theorem Sm.b60 {l:List Int} (h:Sm l):(∀z∈l,z.natAbs<2 ^ 60)/\0<l.getD 4 0/\l.getD 4 0<2 ^ 60:=by
 obtain⟨h5,h1,h2,h3⟩:=h;refine⟨λz hz=>?_,by omega,by omega⟩;obtain⟨i,hi⟩:=ma hz;have Aw:=(aw.mp hi).1;have e:l.getD i 0=z:=by simp[uX,hi]
 by_cases h4:i<4
 ·have:=h1 i h4;rw[e] at this;omega
 ·have e4:i=4:=by omega
  subst e4;rw[e] at h2 h3;omega
section
variable {P:bb} {w:bv} {K:aa} {mg:Str->Option ah} {base:cr} {C CI CT:ag} {dz fz:Str}
theorem VR:FnScope ["reader","instrument","start","course","fret"] ["reader","instrument"] (AH F3):={}
theorem oI (F:Fun K "read_course" "read_course" F3 f fd) (N:InE P w K mg base C CI CT dz fz) (gm:GI mg "MOST_STRINGS" 14):FnOk P w K mg base (CX1 P w) 10 f fd ["reader","instrument"] (LK K C CI CT (FN dz fz)):=by
 refine F.okx VR λAv A outer s H vs Q E hr h=>?_;obtain⟨r,ta,cs,e,Aq,ia,af,ac,ab,fr,co,ba,rfl,Rr,I,tt,k⟩:=h;have R:=N.R;refine⟨_,(AB (AZ (N.sw.call hr AD (AA (pv 0) (AA AU (AA (DR G0 (N.sc.call0 (pv 1) hr AD) (B0 gm) (AQ _)) AF)))))
  (AB (AW 2 VR (B1 R (pv 0)))
  (AB (AW 3 VR (GV N.rr hr AD (pv 0)))
  (AB (B5 bo rfl (DG (AT (pv 1) rfl)) (DT 4 VR)
  (AC (AX (D0 (C5 (N.ii.call hr AD (AA (N.up.call hr AD (AA (pv 4) (AA (pv 3) AF))) AF)))) (AC (BF R.X1 hr AD rfl (pv 2))) AM)))
  (AC (AZ (ID fh fm fq CZ (AT (pv 1) rfl) (AA (pv 3) AF)))))))),?_⟩
 and_intros
 obtain⟨dx,i1⟩:=I.at_;obtain⟨dr,p,ir⟩:=Rr.ins;refine⟨V.ref r,rfl,V.ref ia,rfl,ia,dx,_,rfl,i1,TU _ _ _,ia,af,ac,ab,fr,co,ba,rfl,I,_,_,rfl,rfl,r,ta,cs,e,Aq,"course",decide (((co.length+ba.length:Nat):Int)<14),rfl,Rr,oks (by decide +kernel),?_⟩;have eb:decide (((co.length+ba.length:Nat):Int)<14)=decide (co.length+ba.length<14):=by rw[decide_eq_decide];omega
 rw[FN] at k;cases hs:mSW "course" (decide (co.length+ba.length<14)) Aq with
 |none=>simp only[hs] at k;exact AK (by rw[eb];exact hs) k
 |some x=>
  have Aw:co.length+ba.length<14:=of_decide_eq_true (RQ hs);obtain⟨_,t⟩:=x;simp only[hs] at k;refine AL (by rw[eb];exact hs) λH1 R1 s1=>?_;have I1:=I.kp (Sb.kp s1 ir);obtain⟨dr1,p1,ir1⟩:=R1.ins;refine⟨_,rfl,r,ta,cs,e,t,rfl,R1,λst=>?_⟩;refine⟨_,rfl,r,ta,cs,e,t,rfl,R1,?_⟩;cases hm:C4 dz fz t with
  |none=>simp only[hm] at k;exact EC rfl k
  |some x=>
   obtain⟨x,u⟩:=x;simp only[hm] at k;have sx:=NE hm;refine ED rfl λH2 xa R2 s2 hx=>?_;have I2:=I1.kp (Sb.kp s2 ir1);obtain⟨dx2,i2⟩:=I2.at_;obtain⟨as,a1,a2⟩:=id I2.fr_;have la:as.length=fr.length:=cg a2;refine⟨V.ref ia,rfl,ia,CI,dx2,_,_,rfl,i2,N.T.cl,N.T.nf,NF _ _ _,af,rfl,⟨_,SqL.of a1⟩,DD (K:=K) (a:=af) (xs:=as.map V.ref) (λi σ H'=>(∃r4,σ=[some (.ref r),some (.ref ia),some (.int st),some (.ref xa),r4])/\Same H2 H'/\((fr.take i).all λf=>F6 (BU f x))=true) ⟨⟨none,rfl⟩,Same.refl _,rfl⟩
    (λi σ H' _ ⟨_,s3,_⟩=>SqL.of (s3 _ _ a1)) ?_ ?_⟩
   ·rintro i y σ H3 hi ⟨⟨r4,rfl⟩,s3,ha⟩
    subst_eqs
    rw[az] at hi;cases ea:as[i]? with
    |none=>rw[ea] at hi;cases hi
    |some fa=>
     rw[ea] at hi;cases hi;obtain⟨fl,f1,f2⟩:=BD a2 ea;have sfl:Sm fl:=I.sf fl (bz f1);have b1:=sfl.b60;have b2:=sx.b60;refine⟨V.ref fa,rfl,V.ref xa,rfl,fa,xa,fl,x,rfl,.inr (s3.tup f2),s3.tup hx,sfl.1,sx.1,b1.1,b1.2.1,b2.2.1,b2.2.2,λH4 ua s4 hu=>⟨ua,BU fl x,rfl,SqT.of hu,NC _ _,λH5 s5=>⟨_,rfl,?_⟩⟩⟩;cases hi:F6 (BU fl x) with
     |true=>
      refine BH ⟨⟨_,rfl⟩,(s3.trans s4).trans s5,?_⟩;rw[dk,f1,xY,ha];simp[hi]
     |false=>
      have hall:(fr.all λf=>F6 (BU f x))=false:=by
       rw[wY];exact⟨fl,bz f1,by rw[hi];decide⟩
      rw[Ay (by rw[hall];decide)] at k;exact BQ ⟨V.int st,rfl,st,rfl,k st⟩
   ·rintro σ H3 ⟨⟨r4,rfl⟩,s3,ha⟩;rw[ai,la,ff] at ha;rw[Ax ha] at k;have I3:=I2.kp (Same.kp s3);have R3:=R2.same s3;obtain⟨bs,c1,c2⟩:=id I3.co_;have lb:bs.length=co.length:=cg c2;have i3:=s3 _ _ i2;refine⟨V.ref ia,rfl,ia,CI,dx2,_,_,rfl,i3,N.T.cl,N.T.nc,II _ _ _,.inl ⟨rfl,_,SqL.of c1⟩,V.ref xa,rfl,ac,_,_,rfl,rfl,c1,?_,?_⟩
    ·rw[ai,lb,bw];omega
    ·have sa:∀b o,H3 b=some o->b≠ac->(upd H3 ac (.lst (bs.map V.ref++[.ref xa]))) b=some o:=λb o eb hb=>by rw[AE hb];exact eb
     refine k _ (R3.kp (xs:=bs.map V.ref) (ys:=[]) c1 (tt.imp (λt=>cq t.2.1) id) sa) ⟨⟨dx2,sa _ _ i3 (B2 i3 c1 (by intro z;cases z))⟩,I3.fr_.upd c1 I.n1,LT.add c1 c2 (s3.tup hx),I3.ba_.upd c1 (cq I.n3),I.n1,I.n2,I.n3,I.sf,?_,I.sb,I.lf,?_⟩
      (((Sb.l s1 (N2 r af ac ab).1).trans (Sb.l s2 (N2 r af ac ab).1)).trans ((Same.l s3).trans λb o eb hb=>sa b o eb λz=>hb (z▸(N2 r af ac ab).2.2.1)))
     ·intro l hl;rcases cn.mp hl with hl|hl
      ·exact I.sc l hl
      ·rw[io.mp hl];exact sx
     ·rw[bq];simp;omega
theorem oJ:FnScope ["reader","instrument"] ["reader","instrument"] (AH G8):={}
theorem oK (F:Fun K "read_bass" "read_bass" G8 f fd) (N:InE P w K mg base C CI CT dz fz) (gm:GI mg "MOST_STRINGS" 14):FnOk P w K mg base (CX1 P w) 10 f fd ["reader","instrument"] (LK K C CI CT (JN dz fz)):=by
 refine F.okx oJ λAv A outer s H vs Q E hr h=>?_;obtain⟨r,ta,cs,e,Aq,ia,af,ac,ab,fr,co,ba,rfl,Rr,I,tt,k⟩:=h;have R:=N.R;refine⟨_,(AB (AZ (N.sw.call hr AD (AA (pv 0) (AA AU (AA (DR G0 (N.sc.call0 (pv 1) hr AD) (B0 gm) (AQ _)) AF)))))
  (AC (AZ (ID fh fm fq CZ (AT (pv 1) rfl) (AA (GV N.rr hr AD (pv 0)) AF))))),?_⟩
 and_intros
 obtain⟨dx,i1⟩:=I.at_;obtain⟨dr,p,ir⟩:=Rr.ins;refine⟨V.ref r,rfl,V.ref ia,rfl,ia,dx,_,rfl,i1,TU _ _ _,ia,af,ac,ab,fr,co,ba,rfl,I,_,_,rfl,rfl,r,ta,cs,e,Aq,"bass",decide (((co.length+ba.length:Nat):Int)<14),rfl,Rr,oks (by decide +kernel),?_⟩;have eb:decide (((co.length+ba.length:Nat):Int)<14)=decide (co.length+ba.length<14):=by rw[decide_eq_decide];omega
 rw[JN] at k;cases hs:mSW "bass" (decide (co.length+ba.length<14)) Aq with
 |none=>simp only[hs] at k;exact AK (by rw[eb];exact hs) k
 |some x=>
  have Aw:co.length+ba.length<14:=of_decide_eq_true (RQ hs);obtain⟨_,t⟩:=x;simp only[hs] at k;refine AL (by rw[eb];exact hs) λH1 R1 s1=>?_;have I1:=I.kp (Sb.kp s1 ir);obtain⟨dx1,i1'⟩:=I1.at_;obtain⟨bs1,c1',_⟩:=id I1.ba_;obtain⟨dr1,p1,ir1⟩:=R1.ins;refine⟨V.ref ia,rfl,ia,CI,dx1,_,_,rfl,i1',N.T.cl,N.T.nb,VP _ _ _,.inl ⟨rfl,_,SqL.of c1'⟩,V.ref r,rfl,r,ta,cs,e,t,rfl,R1,?_⟩;cases hm:C4 dz fz t with
  |none=>simp only[hm] at k;exact EC rfl k
  |some x=>
   obtain⟨x,u⟩:=x;simp only[hm] at k;have sx:=NE hm;refine ED rfl λH2 xa R2 s2 hx=>?_;have I2:=I1.kp (Sb.kp s2 ir1);obtain⟨dx2,i2⟩:=I2.at_;obtain⟨bs,c1,c2⟩:=id I2.ba_;have lb:bs.length=ba.length:=cg c2;refine⟨ab,_,_,rfl,rfl,c1,?_,?_⟩
   ·rw[ai,lb,bw];omega
   ·have sa:∀b o,H2 b=some o->b≠ab->(upd H2 ab (.lst (bs.map V.ref++[.ref xa]))) b=some o:=λb o eb hb=>by rw[AE hb];exact eb
    refine k _ (R2.kp (xs:=bs.map V.ref) (ys:=[]) c1 (tt.imp (λt=>cq t.2.2) id) sa) ⟨⟨dx2,sa _ _ i2 (B2 i2 c1 (by intro z;cases z))⟩,I2.fr_.upd c1 I.n2,I2.co_.upd c1 I.n3,LT.add c1 c2 hx,I.n1,I.n2,I.n3,I.sf,I.sc,?_,I.lf,?_⟩
     (((Sb.l s1 (N2 r af ac ab).1).trans (Sb.l s2 (N2 r af ac ab).1)).trans λb o eb hb=>sa b o eb λz=>hb (z▸(N2 r af ac ab).2.2.2))
    ·intro l hl;rcases cn.mp hl with hl|hl
     ·exact I.sb l hl
     ·rw[io.mp hl];exact sx
    ·rw[bq];simp;omega
end
open PySem PySem.Spec PyProof.Rows L2
def HI (dz fz:Str):St3->List UInt8->Option (St3×List UInt8)
 |(fr,co,ba),l=>if see "f" l=true/\co.length=0 then ND dz fz (fr,co,ba) l else if see "c" l=true/\ba.length=0 then FN dz fz (fr,co,ba) l else if see "b" l=true/\0<co.length then JN dz fz (fr,co,ba) l else none
def CV (dz fz:Str) (s:St3) (l:List UInt8):Option (St3×List UInt8):=match HI dz fz s l with
 |none=>none
 |some (s',t)=>match sk ("\n":Str).cps.toList t with
  |none=>none
  |some (_,u)=>some (s',u)
def W7 (dz:Str) (l:List UInt8):Option (Unit×List UInt8):=match sk ("length ":Str).cps.toList l with
 |none=>none
 |some (_,t)=>if see "0" t=true then none else match wn dz 7 t with
  |none=>none
  |some (n,u)=>if n<10000\/200000<n then none else sk ("\n":Str).cps.toList u
def CD (dz fz:Str):Nat->St3->List UInt8->Option St3
 |0,_,_=>none
 |f+1,(fr,co,ba),l=>if l.isEmpty=true/\¬co.length=0 then some (fr,co,ba) else match CV dz fz (fr,co,ba) l with
  |none=>none
  |some (s,t)=>CD dz fz f s t
def JO (dz fz:Str) (cs:List UInt8):Option St3:=match W7 dz cs with
 |none=>none
 |some (_,t)=>CD dz fz (t.length+1) ([],[],[]) t
theorem P5 {m:Bool} {l:List UInt8} {u:Unit} (h:mSW z m l=some (u,t)):t.length<=l.length:=by
 unfold mSW at h;cases hz:sk z.cps.toList l with
 |none=>rw[hz] at h;cases h
 |some y=>
  obtain⟨_,y⟩:=y;simp only[hz] at h;split at h
  ·have:=BN hz;have:=BN h;omega
  ·cases h
theorem KH {l:List UInt8} (h:C4 dz fz l=some (x,t)):t.length<=l.length:=by
 unfold C4 at h;cases hm:mIv dz fz (l.takeWhile lf) with
 |none=>rw[hm] at h;cases h
 |some y=>rw[hm] at h;cases h;rw[fx];omega
theorem W8 {s s':St3} {l:List UInt8} (h:HI dz fz s l=some (s',t)):t.length<=l.length:=by
 obtain⟨fr,co,ba⟩:=s;rw[HI] at h;split at h
 ·rw[ND] at h;cases hs:mSW "fret" (decide (fr.length<15)) l with
  |none=>simp only[hs] at h;cases h
  |some y=>
   obtain⟨_,y⟩:=y;simp only[hs] at h;cases hm:C4 dz fz y with
   |none=>simp only[hm] at h;cases h
   |some q=>
    obtain⟨q,v⟩:=q;simp only[hm] at h;split at h
    ·cases h;have:=P5 hs;have:=KH hm;omega
    ·cases h
 ·split at h
  ·rw[FN] at h;cases hs:mSW "course" (decide (co.length+ba.length<14)) l with
   |none=>simp only[hs] at h;cases h
   |some y=>
    obtain⟨_,y⟩:=y;simp only[hs] at h;cases hm:C4 dz fz y with
    |none=>simp only[hm] at h;cases h
    |some q=>
     obtain⟨q,v⟩:=q;simp only[hm] at h;split at h
     ·cases h;have:=P5 hs;have:=KH hm;omega
     ·cases h
  ·split at h
   ·rw[JN] at h;cases hs:mSW "bass" (decide (co.length+ba.length<14)) l with
    |none=>simp only[hs] at h;cases h
    |some y=>
     obtain⟨_,y⟩:=y;simp only[hs] at h;cases hm:C4 dz fz y with
     |none=>simp only[hm] at h;cases h
     |some q=>
      obtain⟨q,v⟩:=q;simp only[hm] at h;cases h;have:=P5 hs;have:=KH hm;omega
   ·cases h
theorem TV {s s':St3} {l:List UInt8} (h:CV dz fz s l=some (s',t)):t.length<l.length:=by
 unfold CV at h;cases hp:HI dz fz s l with
 |none=>rw[hp] at h;cases h
 |some y=>
  obtain⟨s1,y⟩:=y;simp only[hp] at h;cases hs:sk ("\n":Str).cps.toList y with
  |none=>rw[hs] at h;cases h
  |some q=>
   obtain⟨_,q⟩:=q;rw[hs] at h;cases h;have h1:=W8 hp;have h2:t.length+1=y.length:=BN hs;omega
def iZ (K:aa) (CI CT:ag) (H:Hp) (Q:VK) (E:XK):Option St3->Prop
 |some (fr,co,ba)=>∀H' ia af ac ab,Same H H'->InA K CI H' ia af ac ab fr co ba->Q (.ref ia) H'
 |none=>∀z:Int,E (.ref CT) none (xH [("place",.int z)])
def fI (K:aa) (CI CT:ag) (dz fz:Str):Sp:=λvs H Q E=>Ex2 λ(ta:ag) (cs:List UInt8)=>vs=[.ref ta]/\SqL K H ta (cs.map cV)/\iZ K CI CT H Q E (JO dz fz cs)
section
variable {P:bb} {w:bv} {K:aa} {mg:Str->Option ah} {base:cr} {C CI CT:ag} {dz fz:Str}
theorem oM:FnScope ["reader","instrument"] ["reader","instrument"] (AH B7):={}
theorem oN (F:Fun K "read_line" "read_line" B7 f fd) (N:InE P w K mg base C CI CT dz fz) (D1:Def P w K mg base 10 "read_fret" ["reader","instrument"] (LK K C CI CT (ND dz fz)))
 (D2:Def P w K mg base 10 "read_course" ["reader","instrument"] (LK K C CI CT (FN dz fz))) (D3:Def P w K mg base 10 "read_bass" ["reader","instrument"] (LK K C CI CT (JN dz fz))):
 FnOk P w K mg base (CX1 P w) 11 f fd ["reader","instrument"] (LK K C CI CT (CV dz fz)):=by
 refine F.okx oM λAv A outer s H vs Q E hr h=>?_;obtain⟨r,ta,cs,e,Aq,ia,af,ac,ab,fr,co,ba,rfl,Rr,I,tt,k⟩:=h;have R:=N.R;refine⟨_,(AB (AX (GJ (BK R hr AD (pv 0) AU (oks (by decide +kernel))) (EU (AO CP (AY AN (by rfl) N.B.len cu (AA (AT (pv 1) rfl) AF)) AI (AQ _)))).pt
  (AC (AZ (D1.call hr AD (AA (pv 0) (AA (pv 1) AF)))))
  (AC (AX (GJ (BK R hr AD (pv 0) AU (oks (by decide +kernel))) (EU (AO CP (AY AN (by rfl) N.B.len cu (AA (AT (pv 1) rfl) AF)) AI (AQ _)))).pt
   (AC (AZ (D2.call hr AD (AA (pv 0) (AA (pv 1) AF)))))
   (AC (AX (GJ (BK R hr AD (pv 0) AU (oks (by decide +kernel))) (EU (AO E1 (AY AN (by rfl) N.B.len cu (AA (AT (pv 1) rfl) AF)) AI (AQ _)))).pt
    (AC (AZ (D3.call hr AD (AA (pv 0) (AA (pv 1) AF)))))
    (AC (BF R.X1 hr AD rfl (B1 R (pv 0)))))))))
  (AC (BL R hr AD (pv 0) AU (oks (by decide +kernel))))),?_⟩
 and_intros
 unfold CV at k;have tail:∀(H1 H2:Hp) (fr' co' ba':List (List Int)) (t:List UInt8),Same H H1->SbL [r,af,ac,ab] H1 H2->Rd K C H2 r ta cs e t->InA K CI H2 ia af ac ab fr' co' ba'->HI dz fz (fr,co,ba) Aq=some ((fr',co',ba'),t)->
  (NB K C CT E (BO 0) "\n") { nx:=λ_ H'=>Q .non H',rt:=Q } [some (.ref r),some (.ref ia)] H2:=by
  intro H1 H2 fr' co' ba' t s1 s2 R2 I2 hp;rw[hp] at k;obtain⟨dr,p,ir⟩:=R2.ins;refine⟨_,rfl,r,ta,cs,e,t,rfl,R2,?_⟩;cases hs:sk ("\n":Str).cps.toList t with
  |none=>simp only[hs] at k;exact AK rfl k
  |some x=>
   obtain⟨_,u⟩:=x;simp only[hs] at k;exact AL rfl λH3 R3 s3=>k H3 R3 (I2.kp (Sb.kp s3 ir)) (((Same.l s1).trans s2).trans (Sb.l s3 (N2 r af ac ab).1))
 have nope:∀z:Int,HI dz fz (fr,co,ba) Aq=none->E (.ref CT) none (xH [("place",.int z)]):=λz hp=>by
  rw[hp] at k;exact k z
 obtain⟨dx,i1⟩:=I.at_;rw[HI] at tail nope;have test:∀(H1:Hp) (z:Str),True:=λ_ _=>je;refine⟨_,rfl,r,ta,cs,e,Aq,rfl,Rr,λH1 s1=>?_⟩;have I1:=I.kp (Same.kp s1);have R1:=Rr.same s1;have i11:=s1 _ _ i1;have second:∀H1:Hp,Same H H1->¬(see "f" Aq=true/\co.length=0)->(SL (cB (VH K C (BO 0) "c") (N8 (tOp rEq (tCB (λxs H Q=>Ex2 λp ys=>xs=[V.ref p]/\(SqL K H p ys\/SqT K H p ys)/\Q (.int ys.length) H) (B6 (NX K (BO 1) "basses") EK)) (tC (.int 0)))))
  (KW (K1 (LK K C CI CT (FN dz fz)) [] E (B6 (BO 0) (B6 (BO 1) EK))))
  (SL (cB (VH K C (BO 0) "b") (N8 (tOp (rI0 λi j=>.bl (decide (j<i))) (tCB (λxs H Q=>Ex2 λp ys=>xs=[V.ref p]/\(SqL K H p ys\/SqT K H p ys)/\Q (.int ys.length) H) (B6 (NX K (BO 1) "courses") EK)) (tC (.int 0)))))
   (KW (K1 (LK K C CI CT (JN dz fz)) [] E (B6 (BO 0) (B6 (BO 1) EK)))) (KD CT E (P3 K C (BO 0)))))
  { nx:=(NB K C CT E (BO 0) "\n") { nx:=λ_ H'=>Q .non H',rt:=Q },rt:=Q } [some (.ref r),some (.ref ia)] H1:=by
  intro H1 s1 hno;rw[Ay hno] at tail nope;have I1:=I.kp (Same.kp s1);have R1:=Rr.same s1;refine⟨_,rfl,r,ta,cs,e,Aq,rfl,R1,λH2 s2=>?_⟩;have s12:=s1.trans s2;have I2:=I.kp (Same.kp s12);have R2:=Rr.same s12;have i2:=s12 _ _ i1;have third:∀H2:Hp,Same H H2->¬(see "c" Aq=true/\ba.length=0)->(SL (cB (VH K C (BO 0) "b") (N8 (tOp (rI0 λi j=>.bl (decide (j<i))) (tCB (λxs H Q=>Ex2 λp ys=>xs=[V.ref p]/\(SqL K H p ys\/SqT K H p ys)/\Q (.int ys.length) H) (B6 (NX K (BO 1) "courses") EK)) (tC (.int 0)))))
   (KW (K1 (LK K C CI CT (JN dz fz)) [] E (B6 (BO 0) (B6 (BO 1) EK)))) (KD CT E (P3 K C (BO 0))))
   { nx:=(NB K C CT E (BO 0) "\n") { nx:=λ_ H'=>Q .non H',rt:=Q },rt:=Q } [some (.ref r),some (.ref ia)] H2:=by
   intro H2 s2 hno2;rw[Ay hno2] at tail nope;have R2:=Rr.same s2;refine⟨_,rfl,r,ta,cs,e,Aq,rfl,R2,λH3 s3=>?_⟩;have s23:=s2.trans s3;have I3:=I.kp (Same.kp s23);have R3:=Rr.same s23;have i3:=s23 _ _ i1;have last:¬(see "b" Aq=true/\0<co.length)->(KD CT E (P3 K C (BO 0))) { nx:=(NB K C CT E (BO 0) "\n") { nx:=λ_ H'=>Q .non H',rt:=Q },rt:=Q } [some (.ref r),some (.ref ia)] H3:=λhno3=>by
    rw[Ay hno3] at nope;exact⟨V.ref r,rfl,r,ta,cs,e,Aq,rfl,R3,λz=>⟨z,rfl,nope z rfl⟩⟩
   cases hb:see "b" Aq with
   |false=>exact BH (BH (last (by rw[hb];rintro ⟨q,_⟩;cases q)))
   |true=>
    obtain⟨y1,q1,l1⟩:=I3.co_.len;refine BQ ⟨V.ref ia,rfl,ia,CI,dx,_,_,rfl,i3,N.T.cl,N.T.nc,II _ _ _,ac,y1,rfl,.inl q1,_,_,rfl,rfl,_,rfl,B9 (λh0=>?_) (λh0=>?_)⟩
    ·have hc:0<co.length:=by
      have:(0:Int)<(y1.length:Int):=by simpa using h0
      omega
     rw[Ax ⟨hb,hc⟩] at tail nope;refine⟨V.ref r,rfl,V.ref ia,rfl,r,ta,cs,e,Aq,ia,af,ac,ab,fr,co,ba,rfl,R3,I3,tt,?_⟩;cases hm:JN dz fz (fr,co,ba) Aq with
     |none=>exact HS rfl λz=>nope z hm
     |some x=>
      obtain⟨⟨fr',co',ba'⟩,t⟩:=x;exact HU rfl λH4 R4 I4 s4=>tail H3 H4 fr' co' ba' t s23 s4 R4 I4 hm
    ·have hc:¬0<co.length:=by
      have:¬(0:Int)<(y1.length:Int):=by simpa using h0
      omega
     exact last λq=>hc q.2
  cases hc:see "c" Aq with
  |false=>exact BH (BH (third H2 s12 (by rw[hc];rintro ⟨q,_⟩;cases q)))
  |true=>
   obtain⟨y1,q1,l1⟩:=I2.ba_.len;refine BQ ⟨V.ref ia,rfl,ia,CI,dx,_,_,rfl,i2,N.T.cl,N.T.nb,VP _ _ _,ab,y1,rfl,.inl q1,rfl,_,rfl,B9 (λh0=>?_) (λh0=>?_)⟩
   ·have hb0:ba.length=0:=by
     have q:=of_decide_eq_true h0;injection q with q;omega
    rw[Ax ⟨hc,hb0⟩] at tail nope;refine⟨V.ref r,rfl,V.ref ia,rfl,r,ta,cs,e,Aq,ia,af,ac,ab,fr,co,ba,rfl,R2,I2,tt,?_⟩;cases hm:FN dz fz (fr,co,ba) Aq with
    |none=>exact HS rfl λz=>nope z hm
    |some x=>
     obtain⟨⟨fr',co',ba'⟩,t⟩:=x;exact HU rfl λH4 R4 I4 s4=>tail H2 H4 fr' co' ba' t s12 s4 R4 I4 hm
   ·have hb0:¬ba.length=0:=λq=>h0 (decide_eq_true (by rw[l1,q];rfl));exact third H2 s12 λq=>hb0 q.2
 cases hf:see "f" Aq with
 |false=>exact BH (BH (second H1 s1 (by rw[hf];rintro ⟨q,_⟩;cases q)))
 |true=>
  obtain⟨y1,q1,l1⟩:=I1.co_.len;refine BQ ⟨V.ref ia,rfl,ia,CI,dx,_,_,rfl,i11,N.T.cl,N.T.nc,II _ _ _,ac,y1,rfl,.inl q1,rfl,_,rfl,B9 (λh0=>?_) (λh0=>?_)⟩
  ·have hc0:co.length=0:=by
    have q:=of_decide_eq_true h0;injection q with q;omega
   rw[Ax ⟨hf,hc0⟩] at tail nope;refine⟨V.ref r,rfl,V.ref ia,rfl,r,ta,cs,e,Aq,ia,af,ac,ab,fr,co,ba,rfl,R1,I1,tt,?_⟩;cases hm:ND dz fz (fr,co,ba) Aq with
   |none=>exact HS rfl λz=>nope z hm
   |some x=>
    obtain⟨⟨fr',co',ba'⟩,t⟩:=x;exact HU rfl λH4 R4 I4 s4=>tail H1 H4 fr' co' ba' t s1 s4 R4 I4 hm
  ·have hc0:¬co.length=0:=λq=>h0 (decide_eq_true (by rw[l1,q];rfl));exact second H1 s1 λq=>hc0 q.2
theorem ZT:FnScope ["reader","start","length"] ["reader"] (AH BW):={}
theorem oO (F:Fun K "read_length" "read_length" BW f fd) (R:RdE P w K mg base C CT dz) (g1:GI mg "LENGTH_DIGITS" ((7:Nat):Int)) (g2:GI mg "LEAST_LENGTH" 10000) (g3:GI mg "GREATEST_LENGTH" 200000):
 FnOk P w K mg base (CX1 P w) 5 f fd ["reader"] (GW K C CT (W7 dz) W6):=by
 refine F.okx ZT λAv A outer s H vs Q E hr h=>?_;obtain⟨r,ta,cs,e,Aq,rfl,Rr,k⟩:=h;refine⟨_,(AB (BL R hr AD (pv 0) AU (oks (by decide +kernel)))
  (AB (AW 1 ZT (B1 R (pv 0)))
  (AB (AX (BK R hr AD (pv 0) AU (oks (by decide +kernel))) (AC (BF R.X1 hr AD rfl (pv 1))) AM)
  (AB (AW 2 ZT (VM (most:=7) R hr AD (pv 0) (B0 g1)))
  (AB (AX (N7 (AO G0 (pv 2) (B0 g2) (AQ _)) (JV (AO E1 (pv 2) (B0 g3) (AQ _)))).pt (AC (BF R.X1 hr AD rfl (pv 1))) AM)
  (AC (BL R hr AD (pv 0) AU (oks (by decide +kernel))))))))),?_⟩
 and_intros
 unfold W7 at k;refine⟨_,rfl,r,ta,cs,e,Aq,rfl,Rr,?_⟩;cases hs:sk ("length ":Str).cps.toList Aq with
 |none=>rw[hs] at k;exact AK rfl k
 |some x=>
  obtain⟨_,t⟩:=x;simp only[hs] at k;refine AL rfl λH1 R1 s1=>?_;refine⟨_,rfl,r,ta,cs,e,t,rfl,R1,λst=>?_⟩;refine⟨_,rfl,r,ta,cs,e,t,rfl,R1,λH2 s2=>?_⟩;have R2:=R1.same s2;cases h0:see "0" t with
  |true=>
   rw[Ax h0] at k;exact BQ ⟨V.int st,rfl,st,rfl,k st⟩
  |false=>
   rw[Ay (by rw[h0];decide)] at k;refine BH ⟨_,rfl,r,ta,cs,e,t,rfl,R2,?_⟩;cases hw:wn dz 7 t with
   |none=>simp only[hw] at k;exact AK rfl k
   |some x=>
    obtain⟨n,u⟩:=x;simp only[hw] at k;refine AL rfl λH3 R3 s3=>?_;have fail:(n<10000\/200000<n)->∀z:Int,E (.ref CT) none (xH [("place",.int z)]):=λq=>by rw[Ax q] at k;exact k
    refine⟨V.int (n:Nat),rfl,_,_,rfl,rfl,_,rfl,B9 (λh1=>?_) (λh1=>?_)⟩
    ·have q1:n<10000:=by
      have:(n:Int)<10000:=by simpa using h1
      omega
     exact BQ ⟨V.int st,rfl,st,rfl,fail (.inl q1) st⟩
    ·have q1:¬n<10000:=by
      have:¬(n:Int)<10000:=by simpa using h1
      omega
     refine⟨V.int (n:Nat),rfl,_,_,rfl,rfl,_,rfl,B9 (λh2=>?_) (λh2=>?_)⟩
     ·have q2:200000<n:=by
       have:(200000:Int)<n:=by simpa using h2
       omega
      exact⟨V.int st,rfl,st,rfl,fail (.inr q2) st⟩
     ·have q2:¬200000<n:=by
       have:¬(200000:Int)<n:=by simpa using h2
       omega
      rw[Ay (by rintro (q|q);exact q1 q;exact q2 q)] at k;refine⟨_,rfl,r,ta,cs,e,u,rfl,R3,?_⟩;cases hs2:sk ("\n":Str).cps.toList u with
      |none=>rw[hs2] at k;exact AK rfl k
      |some x=>
       obtain⟨⟨⟩,v⟩:=x;rw[hs2] at k;exact AL rfl λH4 R4 s4=>k H4 R4 (((s1.trans s2.sb).trans s3).trans s4)
end
open PySem PySem.Spec PyProof.Rows L2
theorem OS {K:aa} {res:Option St3} (k:iZ K CI CT H Q E res) (h:res=none):∀z:Int,E (.ref CT) none (xH [("place",.int z)]):=by
 rw[h] at k;exact k
theorem W9 {K:aa} {res:Option St3} (k:iZ K CI CT H Q E res) (h:res=some (fr,co,ba)):∀H' ia af ac ab,Same H H'->InA K CI H' ia af ac ab fr co ba->Q (.ref ia) H':=by
 rw[h] at k;exact k
theorem HJ {K:aa} (h:SqL K H ta (cs.map cV)) (n:H a=none):ta≠a\/KTx K ta (cs.map cV):=by
 rcases h with(h|⟨o,h⟩)|h
 ·exact .inl (AG h n)
 ·exact .inl (AG h n)
 ·exact .inr h
def oP (K:aa) (CI:ag):Sp:=λvs H Q _=>Ex9 λ(ia af ac ab:ag) (fr co ba:List (List Int)) (c f:Int)=>vs=[.ref ia,.int c,.int f]/\InA K CI H ia af ac ab fr co ba/\
 Q (.bl (if c<=co.length then decide (f<=fr.length) else decide (c<=((co.length+ba.length:Nat):Int))&&decide (f=0))) H
theorem i0 {c:Bool} {A B:Prop} (hc:c=true) (h:A):if c=true then A else B:=by rw[Ax hc];exact h
theorem XA {c:Bool} {A B:Prop} (hc:c=false) (h:B):if c=true then A else B:=by rw[Ay (by rw[hc];decide)];exact h
theorem JP (dz fz:Str) (f:Nat) (fr co ba:List (List Int)) (l:List UInt8):CD dz fz (f+1) (fr,co,ba) l=if l.isEmpty=true/\¬co.length=0 then some (fr,co,ba) else match CV dz fz (fr,co,ba) l with
 |none=>none
 |some (s,t)=>CD dz fz f s t:=by rw[CD];all_goals rfl
def WIn (K:aa) (C CI:ag) (dz fz:Str) (ta r ia af ac ab:ag) (cs t:List UInt8) (H3:Hp) (m:Nat) (σ:L2.St) (H':Hp):Prop:=
 Ex5 λ(Aq:List UInt8) (fr co ba:List (List Int)) (g:Nat)=>σ=[some (.ref ta),some (.ref r),some (.ref ia)]/\SbL [r,af,ac,ab] H3 H'/\Rd K C H' r ta cs cs.length Aq/\InA K CI H' ia af ac ab fr co ba/\
  CD dz fz (t.length+1) ([],[],[]) t=CD dz fz g (fr,co,ba) Aq/\Aq.length<g/\m=Aq.length
section
variable {P:bb} {w:bv} {K:aa} {mg:Str->Option ah} {base:cr} {C CI CT:ag} {dz fz:Str}
theorem TW:FnScope ["text","reader","instrument"] ["text"] (AH DW):={}
theorem i5 (F:Fun K "read_instrument" "read_instrument" DW f fd) (N:InE P w K mg base C CI CT dz fz) (MI:Mkr P w K mg base 1 CI "Instrument" ["self"] (ZS CI))
 (D1:Def P w K mg base 5 "read_length_instruments" ["reader"] (GW K C CT (W7 dz) W6)) (D2:Def P w K mg base 11 "read_line_instruments" ["reader","instrument"] (LK K C CI CT (CV dz fz))):
 FnOk P w K mg base (CX1 P w) 12 f fd ["text"] (fI K CI CT dz fz):=by
 refine F.okx TW λAv A outer s H vs Q E hr h=>?_;obtain⟨ta,cs,rfl,tx,k⟩:=h;have R:=N.R;refine⟨_,(AB (AW 1 TW (R.mkr.call hr AD (AA (pv 0) (AA AI (AA (AY AN (by rfl) N.B.len cu (AA (pv 0) AF)) AF)))))
  (AB (AZ (KG D1 hr AD (pv 1)))
  (AB (AW 2 TW (MI.call0 hr AD))
  (AB (B4 bo (N7 (D0 (JM R hr AD (pv 1))) (JV (AO CP (AY AN (by rfl) N.B.len cu (AA (AT (pv 2) rfl) AF)) AI (AQ _)))).pt
  (AC (AZ (D2.call hr AD (AA (pv 1) (AA (pv 2) AF))))))
  (AC (AJ (pv 2))))))),?_⟩
 and_intros
 refine⟨V.ref ta,rfl,V.ref ta,rfl,ta,_,rfl,.inl tx,λr dr nr nd hne=>⟨r,dr,ta,0,_,rfl,upd_same,λH1 h1 s1=>⟨rfl,?_⟩⟩⟩;have sm1:Same H H1:=BT nr nd s1 Sb.refl;have fin:∀{H2:Hp},Sb r H1 H2->Same H H2:=λs2=>BT nr nd s1 s2;have R1:Rd K C H1 r ta cs cs.length cs:=by
  refine⟨⟨dr,0,?_,?_,dq _⟩,sm1.seq tx,au _⟩
  ·rw[h1,ai];rfl
  ·rw[ff];rfl
 unfold JO at k;refine⟨V.ref r,rfl,r,ta,cs,cs.length,cs,rfl,R1,?_⟩;cases hl:W7 dz cs with
 |none=>exact AK rfl (OS k (by rw[hl]))
 |some x=>
  obtain⟨_,t⟩:=x;simp only[hl] at k;refine AL rfl λH2 R2 s2=>?_;have sm2:=fin s2;intro ia di ni ndi hni;refine⟨ia,di,rfl,upd_same,λH3 af ac ab h3 ea ec eb nf nc nb n1 n2 n3 s3=>⟨rfl,?_⟩⟩;have sm23:Same H2 H3:=BT ni ndi s3 Sb.refl;have nn:∀{q:ag},(upd (upd H2 di (.own ia)) ia (.ins CI di [])) q=none->H2 q=none:=λ{q} h=>by
   by_cases e1:q=ia
   ·rw[e1];exact ni
   ·by_cases e2:q=di
    ·rw[e2];exact ndi
    ·rw[AE e1,AE e2] at h;exact h
  have I3:InA K CI H3 ia af ac ab [] [] []:=⟨⟨di,h3⟩,⟨[],ea,.nil⟩,⟨[],ec,.nil⟩,⟨[],eb,.nil⟩,n1,n2,n3,by simp,by simp,by simp,by simp,by simp⟩
  have R3:=R2.same sm23;have tt:(ta≠af/\ta≠ac/\ta≠ab)\/KTx K ta (cs.map cV):=by
   rcases HJ R2.tx (nn nf) with q1|q
   ·rcases HJ R2.tx (nn nc) with q2|q
    ·rcases HJ R2.tx (nn nb) with q3|q
     ·exact .inl ⟨q1,q2,q3⟩
     ·exact .inr q
    ·exact .inr q
   ·exact .inr q
  have hold:∀{H4:Hp},SbL [r,af,ac,ab] H3 H4->Same H H4:=λ{H4} s4 b o e=>by
   have m0:b≠r:=AG e nr;have e2:=sm2 b o e;have m1:b≠af:=AG e2 (nn nf);have m2:b≠ac:=AG e2 (nn nc);have m3:b≠ab:=AG e2 (nn nb);exact s4 b o (sm23 b o e2) (by simp[m0,m1,m2,m3])
  refine⟨WIn K C CI dz fz ta r ia af ac ab cs t H3,⟨t.length,t,[],[],[],t.length+1,rfl,SbL.refl,R3,I3,rfl,by omega,rfl⟩,?_⟩;rintro m σ H4 ⟨Aq,fr,co,ba,g,rfl,s4,R4,I4,em,hg,rfl⟩;rw[em] at k;obtain⟨g,rfl⟩:∃g',g=g'+1:=⟨g - 1,by omega⟩
  rw[JP] at k;replace em:=em.trans (JP dz fz g fr co ba Aq);obtain⟨dx,i4⟩:=I4.at_;have step:¬(Aq.isEmpty=true/\¬co.length=0)->(KW (K1 (LK K C CI CT (CV dz fz)) [] E (B6 (BO 1) (B6 (BO 2) EK)))) { nx:=λσ' H'=>∃m',m'<Aq.length/\WIn K C CI dz fz ta r ia af ac ab cs t H3 m' σ' H',rt:=Q } [some (.ref ta),some (.ref r),some (.ref ia)] H4:=by
   intro hno;rw[Ay hno] at k em;refine⟨V.ref r,rfl,V.ref ia,rfl,r,ta,cs,cs.length,Aq,ia,af,ac,ab,fr,co,ba,rfl,R4,I4,tt,?_⟩;cases hm:CV dz fz (fr,co,ba) Aq with
   |none=>exact HS rfl (OS k (by rw[hm]))
   |some x=>
    obtain⟨⟨fr',co',ba'⟩,u⟩:=x;have Aw:=TV hm;simp only[hm] at em;refine HU rfl λH5 R5 I5 s5=>⟨u.length,Aw,u,fr',co',ba',g,rfl,s4.trans s5,R5,I5,em,by omega,rfl⟩
  have stop:(Aq.isEmpty=true/\¬co.length=0)->Q (.ref ia) H4:=λhy=>W9 k (by rw[Ax hy]) H4 ia af ac ab (hold s4) I4;refine⟨V.ref r,rfl,r,ta,cs,cs.length,Aq,rfl,R4,?_⟩;rcases uI Aq.isEmpty with hr0|hr0
  case inr=>
   refine i0 (c:=!Aq.isEmpty) (by rw[hr0];rfl) ?_;exact DY (step (by rw[hr0];rintro ⟨q,_⟩;cases q))
  case inl=>
   obtain⟨y1,q1,l1⟩:=I4.co_.len;refine XA (c:=!Aq.isEmpty) (by rw[hr0];rfl) ⟨V.ref ia,rfl,ia,CI,dx,_,_,rfl,i4,N.T.cl,N.T.nc,II _ _ _,ac,y1,rfl,.inl q1,rfl,_,rfl,?_⟩;by_cases hc:co.length=0
   ·have hd:decide (V.int ((y1.length:Nat):Int)=V.int 0)=true:=decide_eq_true (by rw[l1,hc];rfl);rw[hd];exact DY (step λq=>q.2 hc)
   ·have hd:decide (V.int ((y1.length:Nat):Int)=V.int 0)=false:=decide_eq_false λq=>hc (by injection q with q;omega);rw[hd];exact BH ⟨V.ref ia,rfl,stop ⟨hr0,hc⟩⟩
theorem oQ:FnScope ["self","course","fret"] ["self","course","fret"] (AH CC):={}
theorem oR (F:Fun K "has_place" "Instrument.has_place" CC f fd) (B:Blt mg) (T:InC K CI) (M1:Mth P w K mg base 1 CI "string_count" ["self"] (iU K CI)):FnOk P w K mg base (CX1 P w) 2 f fd ["self","course","fret"] (oP K CI):=by
 refine F.okx oQ λAv A outer s H vs Q E hr h=>?_;obtain⟨ia,af,ac,ab,fr,co,ba,c,f,rfl,I,k⟩:=h;obtain⟨dx,h1⟩:=I.at_;obtain⟨y1,q1,l1⟩:=I.co_.len;obtain⟨y2,q2,l2⟩:=I.fr_.len;refine⟨_,(AB (AX (AO KZ (pv 1) (AY AN (by rfl) B.len cu (AA (AT (pv 0) rfl) AF)) (AQ _))
  (AC (AJ (DR KZ (pv 2) (AY AN (by rfl) B.len cu (AA (AT (pv 0) rfl) AF)) (AQ _)))) AM)
  (AC (AJ (X9 (DR KZ (pv 1) (M1.call0 (pv 0) hr AD) (AQ _)) (X7 (DR CP (pv 2) AI (AQ _))))))),?_⟩
 and_intros
 refine⟨V.int c,rfl,V.ref ia,rfl,ia,CI,dx,_,_,rfl,h1,T.cl,T.nc,II _ _ _,ac,y1,rfl,.inl q1,_,_,rfl,rfl,_,rfl,B9 (λh0=>?_) (λh0=>?_)⟩
 ·have hc:c<=(co.length:Int):=by
   have:c<=(y1.length:Int):=by simpa using h0
   omega
  rw[Ax hc] at k;refine⟨V.int f,rfl,V.ref ia,rfl,ia,CI,dx,_,_,rfl,h1,T.cl,T.nf,NF _ _ _,af,y2,rfl,.inl q2,_,_,rfl,rfl,?_⟩;rw[←l2] at k;exact k
 ·have hc:¬c<=(co.length:Int):=by
   have:¬c<=(y1.length:Int):=by simpa using h0
   omega
  rw[Ay hc] at k;refine⟨V.int c,rfl,V.ref ia,rfl,ia,dx,_,rfl,h1,TU _ _ _,ia,af,ac,ab,fr,co,ba,rfl,I,_,_,rfl,rfl,?_⟩;cases hd:decide (c<=((co.length+ba.length:Nat):Int)) with
  |false=>
   rw[hd] at k;exact⟨false,(by rw[←hd]),BH k⟩
  |true=>
   rw[hd] at k;refine⟨true,(by rw[←hd]),BQ ⟨V.int f,rfl,rfl,?_⟩⟩;have e0:decide (V.int f=V.int 0)=decide (f=0):=by
    rw[decide_eq_decide];exact⟨λq=>by injection q,λq=>by rw[q]⟩
   rw[e0];exact k
end
end Lt
end
section
namespace L2
open PySem PySem.Spec PyProof.Rows
section
variable {prog:bb} {w:bv} {A:de} {E:ah->aj->Prop} {s:aj}
theorem TX:vi (.type "list_reverseiterator") "__len__"=pure none:=by rw[x0,vI];kernel_rfl
theorem ZU:vi (.type "list_reverseiterator") "__length_hint__"=pure (some (.builtin "list_reverseiterator.__length_hint__")):=by rw[x0,vI];kernel_rfl
theorem dF {R:xq->aj->Prop} (hh:A.handled=none) (S it l:ag) (items:Array ah) (res:ah) (c₀:Nat) (hn:items.size<=sizeLine) (hne:l≠it) (hSi:S≠it) (hSl:S≠l) (hit:s.heap.IsRevIter it l ((items.size:Int) - 1)) (hl:s.heap.IsList l items)
 (hS:s.heap.get? S=some { cls:=.type "list",data:=.seq #[] c₀ })
 (hR:∀h' tk acc' c',(∀b o,b≠S->b≠it->s.heap.get? b=some o->h'.get? b=some o)->h'.get? S=some { cls:=.type "list",dict:=none,data:=.seq acc' c',slots:=#[] }->
  yd (λi v=>items[items.size - 1 - i]? =some v) acc' items.size->R (.ok (.ret res)) { s with heap:=h',toks:=tk }):
 bf (bi prog w) A.in1 (ki (.ref S) (.ref it) res)
  (λfin s'=>match fin with| .done f=>R (.ok f) s'| .again c'=>c'.quiet=true/\mr (bi prog w) A c' R s') (λe s'=>R (.error e) s') s:=by
 have hSf:S∉[it,l]:=by simp[hSi,hSl]
 unfold ki;refine ae (wpAny_typeOf (T:="list_reverseiterator") hit.typeIs ?_);have h1:uJ (.ref S) (.ref it)=false:=by simp[uJ,hSi]
 have h2:(jd "list_reverseiterator"==jd "list")=false:=by decide
 have h3:(jd "list_reverseiterator"==jd "tuple")=false:=by decide
 simp only[h1,h2,h3,zg,fu,if_false];refine ae (wpAny_pyIter_revIter hit ?_);refine ae (ij ?_);unfold ye;refine ae (vy hit.typeIs TX ?_);show bf _ A.in1 (specialOf (cb it) (lu "__length_hint__") >>= _) _ _ _;refine ae (vy hit.typeIs ZU ?_)
 wp_delta
 refine ae (xA (T:="list_reverseiterator") (v:=.ref it) (b:=true) hit.typeIs (by rw[isSubtype_type];kernel_rfl) ?_);show bf _ _ (pure false) _ _ _;refine ao ?_;rw[Ay (by decide)];have W:=(Walks.listRev (prog:=prog) (w:=w) (A:=A.in1) hh it l hne items).toS;refine ao ⟨plainId_quiet F.plain_extend_loop _,codeAny_extend_loopS W hn _ hSf _ items.size 0 _ _ _ rfl (dq _) ⟨dq _,?_,hl⟩ hS (ItemsOf.nil _) λs' acc' c' hm hS' hacc=>?_⟩
 ·have e:(items.size:Int) - 1 - ((0:Nat):Int)=(items.size:Int) - 1:=by omega
  rw[e];exact hit
 ·rw[Moved.eq_with hm];refine hR s'.heap s'.toks acc' c' (λb ob hb hb2 e=>hm.heap b ob (λhmem=>?_) e) hS' hacc;simp[hb,hb2] at hmem
theorem ZV {R:xq->aj->Prop} (hh:A.handled=none) (S it l:ag) (items:Array ah) (hn:items.size<=sizeLine) (hne:l≠it) (hSi:S≠it) (hSl:S≠l) (hit:s.heap.IsRevIter it l ((items.size:Int) - 1)) (hl:s.heap.IsList l items)
 (hS:s.heap.get? S=some { cls:=.type "list",data:=.seq #[] })
 (hR:∀h' tk acc' c',(∀b o,b≠S->b≠it->s.heap.get? b=some o->h'.get? b=some o)->h'.get? S=some { cls:=.type "list",dict:=none,data:=.seq acc' c',slots:=#[] }->
  yd (λi v=>items[items.size - 1 - i]? =some v) acc' items.size->R (.ok (.ret .none)) { s with heap:=h',toks:=tk }):
 bf (bi prog w) A.in1 (uz.«list.__init__» ⟨[.ref S,.ref it],[]⟩)
  (λfin s'=>match fin with| .done f=>R (.ok f) s'| .again c'=>c'.quiet=true/\mr (bi prog w) A c' R s') (λe s'=>R (.error e) s') s:=by
 show bf _ _ (do let old←vn (.ref S);zw (.ref S) (λ_=>#[]);letGo old.toList.reverse;ki (.ref S) (.ref it) .none) _ _ s;refine ae ?_;unfold vn;refine ae (vV hS rfl (ao ?_));show bf _ _ (updateSeq S (λ_=>#[]) >>= λ_=>letGo (#[]:Array ah).toList.reverse >>= λ_=>ki (.ref S) (.ref it) .none) _ _ s;refine ae (wpAny_updateSeq hS rfl ?_);have hS₂:=iw (fj (λ_=>(#[]:Array ah))) hS rfl;have oth:∀b o,b≠S->s.heap.get? b=some o->(s.heap.update S (fj (λ_=>(#[]:Array ah)))).get? b=some o:=
  λb o hb e=>(kg _ _ (cq hb)).trans e
 refine ae (wpAny_letGo ?_);refine dF hh S it l items .none _ hn hne hSi hSl (hit.at λo e=>oth it o (cq hSi) e) (hl.at λo e=>oth l o (cq hSl) e) hS₂ λh' tk acc' c' hk hS' hacc=>?_;exact hR h' tk acc' c' (λb o hb hb2 e=>hk b o hb hb2 (oth b o hb e)) hS' hacc
theorem N3 {Q:ah->aj->Prop} (hh:A.handled=none) (it l:ag) (items:Array ah) (hn:items.size<=sizeLine) (hne:l≠it) (hit:s.heap.IsRevIter it l ((items.size:Int) - 1)) (hl:s.heap.IsList l items)
 (hQ:∀h' tk acc' c',(∀b o,b≠it->s.heap.get? b=some o->h'.get? b=some o)->
  h'.get? s.heap.objs.size=some { cls:=.type "list",dict:=none,data:=.seq acc' c',slots:=#[] }->yd (λi v=>items[items.size - 1 - i]? =some v) acc' items.size->Q (.ref s.heap.objs.size) { s with heap:=h',toks:=tk }):
 bf (bi prog w) A (call (.type "list") [.ref it]) Q E s:=by
 refine callType_codes (Q₁:=λobj s₁=>obj= .ref s.heap.objs.size/\s₁={ s with heap:=s.heap.push { cls:=.type "list",data:=.seq #[] } }) F.called_list (F.typeCall_list_1 _) F.entry_list_init
  (code_list_new _ ⟨rfl,rfl⟩) λobj s₁ h₁=>?_
 obtain⟨rfl,rfl⟩:=h₁;have hS:(s.heap.push { cls:=.type "list",data:=.seq #[] }).get? s.heap.objs.size=some { cls:=.type "list",data:=.seq #[] }:=bg _ rfl;obtain⟨o1,e1,_⟩:=id hit;obtain⟨o2,e2,_⟩:=id hl;refine⟨⟨_,hS,rfl⟩,F.args_list_init_2 _ _,ZV (A:=A.in1) hh s.heap.objs.size it l items hn hne (qa (bh e1)) (qa (bh e2)) (hit.at λo e=>ak _ e) (hl.at λo e=>ak _ e) hS λh' tk acc' c' hk hS' hacc=>?_⟩;exact⟨rfl,hQ h' tk acc' c' (λb o hb e=>hk b o (cj (bh e)) hb (ak _ e)) hS' hacc⟩
end
theorem NG {xs:List V} {acc:Array ah} {P:Nat->ah->Prop} (h:yd P acc xs.length) (hp:∀i v,P i v->∀x,xs[i]? =some x->RelV x v):Vals xs acc.toList:=by
 have:∀(xs:List V) (us:List ah),xs.length=us.length->(∀(i:Nat) x v,xs[i]? =some x->us[i]? =some v->RelV x v)->Vals xs us:=by
  intro xs;induction xs with
  |nil=>intro us hl _;cases us with
   |nil=>exact .nil
   |cons _ _=>simp at hl
  |cons x xs ih=>intro us hl hr;cases us with
   |nil=>simp at hl
   |cons u us=>exact .cons (hr 0 x u rfl rfl) (ih us (by simpa using hl) λi y v h1 h2=>hr (i+1) y v (by simpa using h1) (by simpa using h2))
 refine this xs acc.toList (by have:=h.1;simp[this]) λi x v h1 h2=>hp i v (h.2 i v (by simpa using h2)) x h1
section
variable {X:Cx}
def rgV (i c:Int) (n:Nat):List V:=(jn n).map λm=>V.int (i+(m:Nat)*c)
def tLR (ta:TA):TE:=λσ H Q=>ta σ H λvs H1=>Ex4 λ(i j c:Int) (n:Nat)=>(vs=[.int i,.int j,.int c]\/c=1/\vs=[.int i,.int j])/\RgC i j c n/\n<=2 ^ 24/\∀l,H1 l=none->Q (.ref l) (upd H1 l (.lst (rgV i c n)))
theorem ZW {Ap:List (ag×Obj)} {σ:St} {H1:Hp} {s1:aj} {Q:VK} {i j c:Int} {n tk:Nat} {t u v:Tok} (hcalm:X.calm=true) (I1:Inv X Ap σ H1 s1) (hc:RgC i j c n) (hn:n<=2 ^ 24) (q:∀l,H1 l=none->Q (.ref l) (upd H1 l (.lst (rgV i c n)))):
 bf (bi X.prog X.w) X.A (call (.type "list") [.ref s1.heap.objs.size]) (EP X Ap σ Q) X.xe { s1 with heap:=s1.heap.push { cls:=.type "range",data:=.fields #[.int i t,.int j u,.int c v] },toks:=tk }:=by
 refine call_list_range (n:=n) (I1.ok.hd hcalm) (zU ..) hc.2.2.1 hc.2.2.2 hn λh' tk' acc' c' kp hS hacc=>?_;have kp':∀b o,s1.heap.get? b=some o->h'.get? b=some o:=λb o e=>kp b o (ak _ e);refine⟨.ref _,upd H1 _ (.lst (rgV i c n)),I1.laid (t':=tk') kp' ?_ ⟨?_,acc'.toList,c',NG (P:=λi' v'=>∃t,v'= .int (i+i'*c) t) ?_ ?_,by simpa using hS⟩,rfl,q _ (I1.hok.fresh ?_)⟩
 ·show s1.heap.objs.size<=(s1.heap.push _).objs.size;simp[zx]
 ·have:sizeLine=16777216:=bw;rw[rgV,ai,lw,this];omega
 ·rw[rgV,ai,lw];exact hacc
 ·rintro i' v' ⟨t,rfl⟩ x hx;rw[rgV,az] at hx;by_cases hi:i'<n
  ·rw[tQ hi] at hx;cases hx;exact⟨t,rfl⟩
  ·rw[vG (by simpa using hi)] at hx;cases hx
 ·show s1.heap.objs.size<=(s1.heap.push _).objs.size;simp[zx]
theorem JQ {a b:Expr} {es:List Expr} {ta:TA} {p p2 pos pos2:Pos} (hcalm:X.calm=true) (hm:X.mg "list"=none) (hm2:X.mg "range"=none) (ha:PA X (a::b::es) ta) (hg:Gl X "list":=by rfl) (hg2:Gl X "range":=by rfl)
 (hs:be [.Call (.Name "range" p2) (a::b::es) [] pos2] X.env=(false,eval (.Call (.Name "range" p2) (a::b::es) [] pos2) X.env)::be [] X.env:=by rfl)
 (hs2:be (a::b::es) X.env=(false,eval a X.env)::be (b::es) X.env:=by rfl) (hpl:(ie pos2 (be (b::es) X.env)).any (·.1)=false:=by rfl):
 PE X (.Call (.Name "list" p) [.Call (.Name "range" p2) (a::b::es) [] pos2] [] pos) (tLR ta):=by
 intro Ap s σ H Q I h;refine gr (EJ I hg hm Lt.RM ?_);refine dh ?_ hs rfl;rw[hs];show bf _ _ (zy ((false,_)::ie pos (be [] X.env))) _ _ s;refine uc ?_;refine zt (EJ I hg2 hm2 yi (dh (thn (ha pos2 Ap s σ H _ I h) λus s1 ⟨vs,H1,I1,r1,q1⟩=>?_) hs2 hpl));obtain⟨i,j,c,n,e,hc,hn,q⟩:=q1;rcases e with e|⟨e1,e⟩
 ·subst e;cases r1 with
  |cons r rr=>
   cases rr with
   |cons r' rr=>
    cases rr with
    |cons r'' rr=>
     cases rr;obtain⟨t,rfl⟩:=r;obtain⟨t',rfl⟩:=r';obtain⟨t'',rfl⟩:=r'';refine call_range_3 hc.1 ?_ (.inl (vf hc.2.1));exact sh (ZW hcalm I1 hc hn q)
 ·subst e e1;cases r1 with
  |cons r rr=>
   cases rr with
   |cons r' rr=>
    cases rr;obtain⟨t,rfl⟩:=r;obtain⟨t',rfl⟩:=r';refine call_range_2 ?_;exact sh (ZW hcalm I1 hc hn q)
def oS (K:aa) (ta:TA):TE:=λσ H Q=>ta σ H λvs H1=>Ex2 λ(a:ag) (xs:List V)=>vs=[.ref a]/\SqL K H1 a xs/\∀l,H1 l=none->Q (.ref l) (upd H1 l (.lst xs.reverse))
theorem TY {e:Expr} {ta:TA} {p p2 pos pos2:Pos} (hcalm:X.calm=true) (hm:X.mg "list"=none) (hm2:X.mg "reversed"=none) (ha:PA X [e] ta) (hg:Gl X "list":=by rfl) (hg2:Gl X "reversed":=by rfl)
 (hs:be [.Call (.Name "reversed" p2) [e] [] pos2] X.env=(false,eval (.Call (.Name "reversed" p2) [e] [] pos2) X.env)::be [] X.env:=by rfl)
 (hs2:be [e] X.env=[(false,eval e X.env)]:=by rfl):
 PE X (.Call (.Name "list" p) [.Call (.Name "reversed" p2) [e] [] pos2] [] pos) (oS X.K ta):=by
 intro Ap s σ H Q I h;refine gr (EJ I hg hm Lt.RM ?_);refine dh ?_ hs rfl;rw[hs];show bf _ _ (zy ((false,_)::ie pos (be [] X.env))) _ _ s;refine uc ?_;refine zt (EJ I hg2 hm2 MT (dh (thn (ha pos2 Ap s σ H _ I h) λus s1 ⟨vs,H1,I1,r1,q1⟩=>?_) hs2 rfl));obtain⟨a,xs,e,hq,q⟩:=q1;subst e;cases r1 with
 |cons r rr=>
  cases rr;cases r;obtain⟨As,rv,p',hz⟩:=I1.list hq;have hl:=rv.length;refine call_reversed_list p'.isList ?_;refine sh ?_;obtain⟨ol,eol,cl,dl⟩:=id p'.isList;have Aw:=bh eol;refine N3 (I1.ok.hd hcalm) s1.heap.objs.size a As.toArray (by rw[bn, ←hl];exact hz) (cj Aw) ⟨_,bg _ rfl,rfl,rfl⟩ ⟨ol,ak _ eol,cl,dl⟩ λh' tk acc' c' kp hS hacc=>?_;have kp':∀b o,s1.heap.get? b=some o->h'.get? b=some o:=λb o e=>kp b o (cj (bh e)) (ak _ e);have hle:s1.heap.objs.size<=(s1.heap.push (revObj a ((As.toArray.size:Int) - 1))).objs.size:=by simp[zx]
  refine⟨.ref _,upd H1 _ (.lst xs.reverse),I1.laid (t':=tk) kp' hle ⟨by rw[tR];exact hz,acc'.toList,c',NG (P:=λi v=>As.toArray[As.toArray.size - 1 - i]? =some v) ?_ ?_,by simpa using hS⟩,rfl,q _ (I1.hok.fresh hle)⟩
  ·rw[tR,hl, ←bn];exact hacc
  ·intro i v hv x hx;have hi:i<xs.length:=by
    have:=(aw.mp hx).1;simpa using this
   rw[List.getElem?_reverse hi] at hx;obtain⟨u,hu,ru⟩:=rv.get hx;rw[bn, ←hl] at hv;have:As[xs.length - 1 - i]? =some v:=by simpa using hv
   rw[this] at hu;cases hu;exact ru
end
end L2
end
section
namespace Lt
variable {f a C CR CT r ta CI CL CN:ag} {fd:ez} {X:Cx} {x:List Int} {i n e p q:Nat} {pos:Pos} {z dz fz:Str} {xs:List V} {H H' H1:Hp} {E:XK} {cs t ci ct:List UInt8} {α β:Type} {Q:VK} {ls fr co ba:List (List Int)} {P:bb} {w:bv} {h:cr} {ps:List Str}
abbrev Iv:=Lute.Iv
theorem HV (x y:Iv):x.plus y=y.plus x:=by
 unfold Lute.Iv.plus;simp only;congr 2
 ·exact vo _ _
 ·exact vo _ _
 ·exact vo _ _
 ·exact vo _ _
 ·exact dj _ _
theorem EE {a:Int} {g:Nat} (hg:0<g) (h:(g:Int)∣a):(a / (g:Int)).toNat*g=a.toNat:=by
 obtain⟨q,rfl⟩:=h;rw[qr q (by omega)];by_cases hq:0<=q
 ·have e:(g:Int)*q=((q.toNat*g:Nat):Int):=by rw[tL,mv hq,Int.mul_comm]
  rw[e,jx]
 ·have h1:q.toNat=0:=by omega
  have h2:(g:Int)*q<=0:=Int.mul_nonpos_of_nonneg_of_nonpos (by omega) (by omega);rw[h1,zE];omega
theorem IW (x:Iv):((x.common:Nat):Int)∣x.a/\((x.common:Nat):Int)∣x.b/\((x.common:Nat):Int)∣x.c/\((x.common:Nat):Int)∣x.e:=by
 unfold Lute.Iv.common;have h0:=sN x.d (oa x.a.natAbs (oa x.b.natAbs (oa x.c.natAbs x.e.natAbs)));have h1:=oo h0 (sY _ _);have h0':=oo h0 (sN _ _);have h2:=oo h0' (sY _ _);have h0'':=oo h0' (sN _ _);have h3:=oo h0'' (sY _ _);have h4:=oo h0'' (sN _ _);exact⟨rj.mpr h1,rj.mpr h2,rj.mpr h3,rj.mpr h4⟩
theorem OT (x:Iv) (hg:0<x.common):x.low.above ^ x.common=x.above:=by
 obtain⟨h1,h2,h3,h4⟩:=IW x;unfold Lute.Iv.above Lute.Iv.low;simp only[uD, ←rp,EE hg h1,EE hg h2,EE hg h3,EE hg h4]
theorem HK (x:Iv):x.back.common=x.common:=by
 unfold Lute.Iv.common Lute.Iv.back;simp only[Int.natAbs_neg]
theorem ZX (x:Iv):x.low.back=x.back.low:=by
 obtain⟨h1,h2,h3,h4⟩:=IW x;unfold Lute.Iv.low;simp only[HK];unfold Lute.Iv.back;simp only[qi h1,qi h2,qi h3,qi h4]
theorem RR (x:Iv) (hg:0<x.common):x.low.down=x.down:=by
 unfold Lute.Iv.down Lute.Iv.below;rw[ZX,decide_eq_decide, ←OT x hg, ←OT x.back (by rw[HK];exact hg),HK];exact(u4 (by omega)).symm
theorem VS (z:Iv) (hz:0<z.d):0<z.common:=u5 _ hz
theorem OU (x:Iv):0<x.above:=by
 unfold Lute.Iv.above;exact me (me (me (jt (by decide)) (jt (by decide))) (jt (by decide))) (jt (by decide))
theorem XB (x:Iv):0<x.below:=OU _
theorem N4 (z:Int) (n:Nat):(z*n).toNat=z.toNat*n:=by
 by_cases h:0<=z
 ·obtain⟨k,rfl⟩:=Int.eq_ofNat_of_zero_le h;rw[←tL,jx,jx]
 ·have h1:z.toNat=0:=by omega
  have h2:z*(n:Int)<=0:=Int.mul_nonpos_of_nonpos_of_nonneg (by omega) (by omega);rw[h1,zE];omega
theorem HW (p:Nat) (u v:Int):∃m:Nat,p ^ (u.toNat+(-v).toNat)=p ^ (u - v).toNat*p ^ m/\p ^ (v.toNat+(-u).toNat)=p ^ (v - u).toNat*p ^ m:=by
 refine⟨min (u.toNat+(-v).toNat) (v.toNat+(-u).toNat),?_,?_⟩
 ·rw[←mf];congr 1;omega
 ·rw[←mf];congr 1;omega
theorem KI (x:Iv) (n:Nat):x.above ^ n=2 ^ (x.a*n).toNat*3 ^ (x.b*n).toNat*5 ^ (x.c*n).toNat*7 ^ (x.e*n).toNat:=by
 unfold Lute.Iv.above;simp only[uD, ←rp,N4]
theorem OV (x:Iv) (n:Nat):x.below ^ n=2 ^ (-(x.a*n)).toNat*3 ^ (-(x.b*n)).toNat*5 ^ (-(x.c*n)).toNat*7 ^ (-(x.e*n)).toNat:=by
 unfold Lute.Iv.below;rw[KI];unfold Lute.Iv.back;simp only[v3]
theorem dG (a b c d e f g h:Nat):(a*b*c*d)*(e*f*g*h)=(a*e)*(b*f)*(c*g)*(d*h):=by
 simp only[kj,jy,dj]
def raw (x y:Iv):Iv:=⟨x.a*y.d - y.a*x.d,x.b*y.d - y.b*x.d,x.c*y.d - y.c*x.d,x.e*y.d - y.e*x.d,x.d*y.d⟩
theorem ZY (x y:Iv):x.less y=(raw x y).low:=by
 have n:∀u v p q:Int,u*q+ -v*p=u*q - v*p:=λu v p q=>by rw[v3];omega
 unfold Lute.Iv.less Lute.Iv.plus raw Lute.Iv.back;simp only[n]
theorem fJ (x y:Iv):∃M:Nat,0<M/\x.above ^ y.d*y.below ^ x.d=(raw x y).above*M/\y.above ^ x.d*x.below ^ y.d=(raw x y).below*M:=by
 obtain⟨m2,e2,f2⟩:=HW 2 (x.a*y.d) (y.a*x.d);obtain⟨m3,e3,f3⟩:=HW 3 (x.b*y.d) (y.b*x.d);obtain⟨m5,e5,f5⟩:=HW 5 (x.c*y.d) (y.c*x.d);obtain⟨m7,e7,f7⟩:=HW 7 (x.e*y.d) (y.e*x.d);refine⟨2 ^ m2*3 ^ m3*5 ^ m5*7 ^ m7,?_,?_,?_⟩
 ·exact me (me (me (jt (by decide)) (jt (by decide))) (jt (by decide))) (jt (by decide))
 ·rw[KI,OV,dG, ←mf, ←mf, ←mf, ←mf,e2,e3,e5,e7, ←dG];rfl
 ·rw[KI,OV,dG, ←mf, ←mf, ←mf, ←mf,f2,f3,f5,f7, ←dG];unfold Lute.Iv.below raw Lute.Iv.back Lute.Iv.above;simp only[Int.neg_sub]
theorem KJ {x y:Iv} (hx:0<x.d) (hy:0<y.d):x.lt y=true↔x.above ^ y.d*y.below ^ x.d<y.above ^ x.d*x.below ^ y.d:=by
 unfold Lute.Iv.lt;rw[ZY,RR _ (VS _ (me hx hy))];obtain⟨M,hM,e1,e2⟩:=fJ x y;rw[e1,e2];unfold Lute.Iv.down;rw[decide_eq_true_iff];exact(v4 hM).symm
theorem lt_irrefl {x:Iv} (hx:0<x.d):x.lt x=false:=by
 cases h:x.lt x with
 |false=>rfl
 |true=>exact absurd ((KJ hx hx).mp h) (iz _)
theorem lt_trans {x y z:Iv} (hx:0<x.d) (hy:0<y.d) (hz:0<z.d) (h1:x.lt y=true) (h2:y.lt z=true):x.lt z=true:=by
 have q1:=wm ((KJ hx hy).mp h1) (show z.d≠0 by omega);have q2:=wm ((KJ hy hz).mp h2) (show x.d≠0 by omega);rw[KJ hx hz];have q:=Nat.mul_lt_mul_of_lt_of_le q1 (pj q2) (Nat.pos_of_ne_zero (by
  intro h;rw[h] at q2;exact absurd q2 (Nat.not_lt_zero _)))
 simp only[uD, ←rp] at q;have hp:0<y.above ^ (x.d*z.d)*y.below ^ (x.d*z.d):=me (jt (OU _)) (jt (XB _));have e1:x.above ^ (y.d*z.d)*y.below ^ (x.d*z.d)*(y.above ^ (z.d*x.d)*z.below ^ (y.d*x.d))=(x.above ^ z.d*z.below ^ x.d) ^ y.d*(y.above ^ (x.d*z.d)*y.below ^ (x.d*z.d)):=by
  rw[uD, ←rp, ←rp,dj z.d x.d,dj z.d y.d,dj y.d x.d];simp only[kj,jy,dj]
 have e2:y.above ^ (x.d*z.d)*x.below ^ (y.d*z.d)*(z.above ^ (y.d*x.d)*y.below ^ (z.d*x.d))=(z.above ^ x.d*x.below ^ z.d) ^ y.d*(y.above ^ (x.d*z.d)*y.below ^ (x.d*z.d)):=by
  rw[uD, ←rp, ←rp,dj z.d x.d,dj z.d y.d,dj y.d x.d];simp only[kj,jy,dj]
 rw[e1,e2,v4 hp] at q;exact(u4 (by omega)).mp q
theorem NH {A B:Nat} (hp:1<p) (hc:rq (p ^ n) B) (e:p ^ n*A=B):n=0:=by
 have h2:p ^ n∣oa (p ^ n) B:=Nat.dvd_gcd (wZ _) ⟨A,e.symm⟩;rw[hc] at h2;have h2:p ^ n=1:=Nat.dvd_one.mp h2;cases n with
 |zero=>rfl
 |succ n=>
  have:1<p ^ (n+1):=Nat.one_lt_pow (by omega) hp;omega
theorem FO {A B:Nat} (hp:1<p) {u:Int} (hA:∀n,rq (p ^ n) A) (hB:∀n,rq (p ^ n) B) (e:p ^ u.toNat*A=p ^ (-u).toNat*B):u=0:=by
 by_cases h:0<=u
 ·have h0:(-u).toNat=0:=by omega
  rw[h0,vp,z0] at e;have:=NH hp (hB _) e;omega
 ·have h0:u.toNat=0:=by omega
  rw[h0,vp,z0] at e;have:=NH hp (hA _) e.symm;omega
theorem RS {r s:Nat} (h1:rq p q) (h2:rq p r) (h3:rq p s) (i j k n:Nat):rq (p ^ n) (q ^ i*r ^ j*s ^ k):=
 vJ (vJ (vB _ _ h1) (vB _ _ h2)) (vB _ _ h3)
theorem XC {z:Iv} (e:z.above=z.below):z.a=0/\z.b=0/\z.c=0/\z.e=0:=by
 unfold Lute.Iv.below Lute.Iv.back Lute.Iv.above at e;simp only at e;refine⟨?_,?_,?_,?_⟩
 ·refine FO (p:=2) (by decide) (RS (p:=2) (q:=3) (r:=5) (s:=7) (by decide) (by decide) (by decide) z.b.toNat z.c.toNat z.e.toNat) (RS (p:=2) (q:=3) (r:=5) (s:=7) (by decide) (by decide) (by decide) (-z.b).toNat (-z.c).toNat (-z.e).toNat) ?_;simpa only[kj,jy,dj] using e
 ·refine FO (p:=3) (by decide) (RS (p:=3) (q:=2) (r:=5) (s:=7) (by decide) (by decide) (by decide) z.a.toNat z.c.toNat z.e.toNat) (RS (p:=3) (q:=2) (r:=5) (s:=7) (by decide) (by decide) (by decide) (-z.a).toNat (-z.c).toNat (-z.e).toNat) ?_;simpa only[kj,jy,dj] using e
 ·refine FO (p:=5) (by decide) (RS (p:=5) (q:=2) (r:=3) (s:=7) (by decide) (by decide) (by decide) z.a.toNat z.b.toNat z.e.toNat) (RS (p:=5) (q:=2) (r:=3) (s:=7) (by decide) (by decide) (by decide) (-z.a).toNat (-z.b).toNat (-z.e).toNat) ?_;simpa only[kj,jy,dj] using e
 ·refine FO (p:=7) (by decide) (RS (p:=7) (q:=2) (r:=3) (s:=5) (by decide) (by decide) (by decide) z.a.toNat z.b.toNat z.c.toNat) (RS (p:=7) (q:=2) (r:=3) (s:=5) (by decide) (by decide) (by decide) (-z.a).toNat (-z.b).toNat (-z.c).toNat) ?_;simpa only[kj,jy,dj] using e
def Lw (x:Iv):Prop:=0<x.d/\x.common=1
theorem ZZ {x y:Iv} (hx:x.common=1) (ea:x.a*y.d=y.a*x.d) (eb:x.b*y.d=y.b*x.d) (ec:x.c*y.d=y.c*x.d) (ee:x.e*y.d=y.e*x.d):y.d∣x.d*y.common:=by
 have n:∀{u v:Int} {m k:Nat},u*m=v*k->m*u.natAbs=k*v.natAbs:=λ{u v m k} h=>by
  have:=congrArg Int.natAbs h;rw[ul,ul,rm,rm] at this;rw[dj,this,dj]
 have e:y.d*x.common=x.d*y.common:=by
  unfold Lute.Iv.common;rw[←gh, ←gh, ←gh, ←gh, ←gh, ←gh, ←gh, ←gh,n ea,n eb,n ec,n ee,dj y.d x.d]
 rw[←e,hx,uC];exact wZ _
theorem XD {x y:Iv} (hx:Lw x) (hy:Lw y) (h:(raw x y).a=0/\(raw x y).b=0/\(raw x y).c=0/\(raw x y).e=0):x=y:=by
 obtain⟨h1,h2,h3,h4⟩:=h;unfold raw at h1 h2 h3 h4;simp only at h1 h2 h3 h4;have d1:=ZZ (x:=x) (y:=y) hx.2 (by omega) (by omega) (by omega) (by omega);have d2:=ZZ (x:=y) (y:=x) hy.2 (by omega) (by omega) (by omega) (by omega);rw[hy.2,uC] at d1;rw[hx.2,uC] at d2;have ed:x.d=y.d:=Nat.dvd_antisymm d2 d1;have hd:(y.d:Int)≠0:=by have:=hy.1;omega
 rw[ed] at h1 h2 h3 h4;have c:∀{u v:Int},u*y.d - v*y.d=0->u=v:=λ{u v} h=>Int.eq_of_mul_eq_mul_right hd (by omega);obtain⟨a,b,c',e,d⟩:=x;obtain⟨a',b',c'',e',d'⟩:=y;simp only at ed h1 h2 h3 h4;rw[ed,c h1,c h2,c h3,c h4]
theorem RT {x y:Iv} (hx:Lw x) (hy:Lw y) (h1:x.lt y=false) (h2:y.lt x=false):x=y:=by
 refine XD hx hy (XC ?_);obtain⟨M,hM,e1,e2⟩:=fJ x y;have n1:¬_:=λq=>fb (h1.symm.trans ((KJ hx.1 hy.1).mpr q));have n2:¬_:=λq=>fb (h2.symm.trans ((KJ hy.1 hx.1).mpr q));rw[dj (x.above ^ y.d),dj (y.above ^ x.d)] at n1;have e:x.above ^ y.d*y.below ^ x.d=y.above ^ x.d*x.below ^ y.d:=by
  rw[dj (x.above ^ y.d),dj (y.above ^ x.d)];rw[dj (y.above ^ x.d),dj (x.above ^ y.d)] at n2;omega
 rw[e1,e2] at e;exact Nat.eq_of_mul_eq_mul_right hM e
theorem Z0 {x y:Iv} (hx:0<x.d) (hy:0<y.d) (h:x.lt y=true):y.lt x=false:=by
 cases q:y.lt x with
 |false=>rfl
 |true=>exact absurd (lt_trans hx hy hx h q) (by rw[lt_irrefl hx];decide)
theorem RU {x:Iv} (h:x.ok=true):Lw x:=by
 unfold Lute.Iv.ok at h;simp at h;exact⟨h.2.2.2.2.1,h.2.2.2.2.2.2⟩
theorem i6 {x:Iv} (h:0<x.d):Lw x.low:=by
 have hg:=VS x h;have hd:x.common∣x.d:=sY _ _;refine⟨Nat.div_pos (Nat.le_of_dvd h hd) hg,?_⟩;have n:∀{a:Int},((x.common:Nat):Int)∣a->x.common*(a / ((x.common:Nat):Int)).natAbs=a.natAbs:=λ{a} ⟨q,e⟩=>by
  rw[e,qr q (by omega),ul,rm]
 obtain⟨h1,h2,h3,h4⟩:=IW x;have e:x.common*x.low.common=x.common:=by
  show x.common*Lute.Iv.common _=Lute.Iv.common x
  conv=>lhs;arg 2;unfold Lute.Iv.common
  unfold Lute.Iv.low;simp only;rw[←gh, ←gh, ←gh, ←gh,n h1,n h2,n h3,n h4,Nat.mul_div_cancel' hd];rfl
 exact Nat.eq_of_mul_eq_mul_left hg (by rw[e,uC])
theorem dH {x y:Iv} (hx:0<x.d) (hy:0<y.d):Lw (x.plus y):=i6 (me hx hy)
theorem i7 {x:Iv} (h:x.common=1):x.low=x:=by
 unfold Lute.Iv.low;simp only[h];simp
theorem VT {x:Iv} (h:Lw x):x.plus Lute.unison=x:=by
 unfold Lute.Iv.plus Lute.unison;simp only;have e:(⟨x.a*((1:Nat):Int)+0*(x.d:Int),x.b*((1:Nat):Int)+0*(x.d:Int),x.c*((1:Nat):Int)+0*(x.d:Int),x.e*((1:Nat):Int)+0*(x.d:Int),x.d*1⟩:Iv)=x:=by
  simp
 rw[e];exact i7 h.2
abbrev Stop:=LuteTab.Stop
abbrev Ln:=Nat×List Stop
abbrev Sk:=LuteSound.Struck
def CW:Nat->Nat->List Ln->List Sk
 |_,_,[]=>[]
 |i,x,(n,l)::r=>l.map (λ(s:Stop)=>(⟨i,x,x+n,s⟩:Sk))++CW (i+1) (x+n) r
def B8:LuteTab.Line->Ln
 | .bar=>(0,[])
 | .moment n l=>(n,l)
theorem FP:∀(p:LuteTab.Piece) (i x:Nat),CW i x (p.map B8)=LuteSound.struckFrom i x p
 |[],_,_=>rfl
 | .bar::r,i,x=>by rw[LuteSound.struckFrom, ←FP r];rfl
 | .moment n l::r,i,x=>by rw[LuteSound.struckFrom, ←FP r];rfl
def uL (ps:List Ln) (i:Nat):Nat:=((ps.take i).map (·.1)).sum
theorem EX (ps:List Ln):uL ps 0=0:=by unfold uL;simp
theorem C0 (q:Ln) (ps:List Ln) (i:Nat):uL (q::ps) (i+1)=q.1+uL ps i:=by
 unfold uL;simp
theorem TZ (i:Nat):uL [] i=0:=by unfold uL;simp
theorem VU {ps:List Ln} {q:Ln} (h:ps[i]? =some q):uL ps (i+1)=uL ps i+q.1:=by
 unfold uL;rw[dk,h];simp
theorem fK (ps:List Ln) {j:Nat} (h:i<=j):uL ps i<=uL ps j:=by
 obtain⟨k,rfl⟩:∃k,j=i+k:=⟨j - i,by omega⟩
 clear h;induction k with
 |zero=>exact au _
 |succ k ih=>
  refine cy ih ?_;show uL ps (i+k)<=uL ps (i+k+1);unfold uL;rw[dk,du,x3];omega
theorem NI:∀(p:LuteTab.Piece),LuteTab.units p=uL (p.map B8) (p.map B8).length
 |[]=>rfl
 | .bar::r=>by
   have:=NI r;unfold LuteTab.units at this ⊢;rw[cz,zi,this,cz,dc,C0];rfl
 | .moment n l::r=>by
   have:=NI r;unfold LuteTab.units at this ⊢;rw[cz,zi,this,cz,dc,C0];rfl
theorem mem_mStr:∀{ps:List Ln} {i x:Nat} {s:Sk},s∈CW i x ps↔∃(j:Nat) (q:Ln),s.line=i+j/\ps[j]? =some q/\s.halt_∈q.2/\s.begins=x+uL ps j/\s.ends=x+uL ps (j+1)
 |[],i,x,s=>by simp[CW]
 |(n,l)::r,i,x,s=>by
  rw[CW,cn,kh,mem_mStr];constructor
  ·rintro (⟨h,hh,rfl⟩|⟨j,q,h1,h2,h3,h4,h5⟩)
   ·exact⟨0,(n,l),rfl,rfl,hh,by rw[EX];rfl,by rw[C0,EX];rfl⟩
   ·exact⟨j+1,q,by omega,by simpa using h2,h3,by rw[C0];show _=x+(n+_);omega,by rw[C0];show _=x+(n+_);omega⟩
  ·rintro ⟨j,q,h1,h2,h3,h4,h5⟩;cases j with
   |zero=>
    left;simp at h2;subst h2;rw[EX] at h4;rw[C0,EX] at h5;refine⟨s.halt_,h3,?_⟩;obtain⟨a,b,c,d⟩:=s;simp only at h1 h4 h5 ⊢;simp at h1 h4 h5;subst h1 h4 h5;rfl
   |succ j=>
    right;rw[C0] at h4 h5;have h4:s.begins=x+(n+uL r j):=h4;have h5:s.ends=x+(n+uL r (j+1)):=h5;exact⟨j,q,by omega,by simpa using h2,h3,by omega,by omega⟩
def Z1 (l:List Stop):Prop:=l.Pairwise λa b=>a.course<b.course
structure PcK (ps:List Ln):Prop where
 rise:∀q∈ps,Z1 q.2
 bar:∀q∈ps,q.1=0->q.2=[]
 one:∀q∈ps,∀s∈q.2,1<=s.course
theorem PcK.tail {q:Ln} {ps:List Ln} (h:PcK (q::ps)):PcK ps:=⟨λa ha=>h.rise a (aq _ ha),λa ha=>h.bar a (aq _ ha),λa ha=>h.one a (aq _ ha)⟩
theorem PcK.drop {ps:List Ln} (h:PcK ps) (n:Nat):PcK (ps.drop n):=⟨λa ha=>h.rise a (jg ha),λa ha=>h.bar a (jg ha),λa ha=>h.one a (jg ha)⟩
theorem Z2 {l:List Stop} (h:Z1 l) {a b:Stop} (ha:a∈l) (hb:b∈l) (e:a.course=b.course):a=b:=by
 induction l with
 |nil=>simp at ha
 |cons c l ih=>
  obtain⟨h1,h2⟩:=ge.mp h;rcases bp.mp ha with e1|ha
  ·rcases bp.mp hb with e2|hb
   ·rw[e1,e2]
   ·have:=h1 b hb;rw[e1] at e;omega
  ·rcases bp.mp hb with e2|hb
   ·have:=h1 a ha;rw[e2] at e;omega
   ·exact ih h2 ha hb
structure SkAt (ps:List Ln) (s:Sk):Prop where
 lt:s.line<ps.length
 q:∃q,ps[s.line]? =some q/\s.halt_∈q.2
 beg:s.begins=uL ps s.line
 end_:s.ends=uL ps (s.line+1)
theorem XE {ps:List Ln} {s:Sk} (h:s∈CW 0 0 ps):SkAt ps s:=by
 obtain⟨j,q,h1,h2,h3,h4,h5⟩:=mem_mStr.mp h;rw[oe] at h1 h4 h5;subst h1;exact⟨(aw.mp h2).1,⟨q,h2,h3⟩,h4,h5⟩
theorem i8 {ps:List Ln} (k:PcK ps) {s:Sk} (h:SkAt ps s):s.begins<s.ends:=by
 obtain⟨q,h1,h2⟩:=h.q;rw[h.beg,h.end_,VU h1];have:q.1≠0:=λe=>by
  have:=k.bar q (bz h1) e;rw[this] at h2;simp at h2
 omega
theorem NJ {ps:List Ln} (k:PcK ps) {a b:Sk} (ha:SkAt ps a) (hb:SkAt ps b):a.begins<b.begins↔a.line<b.line:=by
 constructor
 ·intro h;apply u6;intro q;have:=fK ps q;rw[←ha.beg, ←hb.beg] at this;omega
 ·intro h;have h1:=i8 k ha;have:=fK ps (show a.line+1<=b.line from h);rw[←ha.end_, ←hb.beg] at this;omega
theorem i9 {ps:List Ln} (k:PcK ps) {a b:Sk} (ha:SkAt ps a) (hb:SkAt ps b) (e1:a.begins=b.begins) (e2:a.halt_.course=b.halt_.course):a=b:=by
 have h1:¬a.line<b.line:=λq=>by have:=(NJ k ha hb).mpr q;omega
 have h2:¬b.line<a.line:=λq=>by have:=(NJ k hb ha).mpr q;omega
 have el:a.line=b.line:=by omega
 obtain⟨q,q1,q2⟩:=ha.q;obtain⟨r,r1,r2⟩:=hb.q;rw[←el,q1] at r1;cases r1;have eh:=Z2 (k.rise q (bz q1)) q2 r2 e2;have ee:a.ends=b.ends:=by rw[ha.end_,hb.end_,el]
 obtain⟨_,_,_,_⟩:=a;obtain⟨_,_,_,_⟩:=b;simp only at el e1 ee eh;subst el e1 ee eh;rfl
open PySem PySem.Spec PyProof.Rows L2
def sL (s:Stop):List Int:=[(s.course:Int),(s.fret:Int)]
def CY (l:List Stop) (s:Stop):Bool:=match l.getLast? with
 |none=>true
 |some x=>decide (x.course<s.course)
def VV (K:aa) (CT:ag):Sp:=λvs H Q E=>Ex5 λ(sa pa:ag) (l:List Stop) (s:Stop) (st:Int)=>vs=[.ref sa,.ref pa,.int st]/\LT K H sa (l.map sL)/\SqT K H pa ((sL s).map V.int)/\l.length<=1000000/\
 if CY l s=true then∀H',LT K H' sa ((l++[s]).map sL)->Sb sa H H'->Q .non H' else E (.ref CT) none (xH [("place",.int st)])
def T0 (K:aa) (CR CT r ta:ag) (cs:List UInt8) (e:Nat) (H:Hp) (Q:VK) (E:XK):Option (List Stop×List UInt8)->Prop
 |some (l,Ar)=>∀H' a,Rd K CR H' r ta cs e Ar->Sb r H H'->H a=none->LT K H' a (l.map sL)->Q (.ref a) H'
 |none=>∀z:Int,E (.ref CT) none (xH [("place",.int z)])
theorem KL {K:aa} {res:Option (List Stop×List UInt8)} (h:res=none) (k:∀z:Int,E (.ref CT) none (xH [("place",.int z)])):T0 K CR CT r ta cs e H Q E res:=by
 rw[h];exact k
theorem KM {K:aa} {res:Option (List Stop×List UInt8)} {l:List Stop} (h:res=some (l,t)) (k:∀H' a,Rd K CR H' r ta cs e t->Sb r H H'->H a=none->LT K H' a (l.map sL)->Q (.ref a) H'):T0 K CR CT r ta cs e H Q E res:=by
 rw[h];exact k
theorem jA {K:aa} {res:Option (List Stop×List UInt8)} (k:T0 K CR CT r ta cs e H Q E res) (h:res=none):∀z:Int,E (.ref CT) none (xH [("place",.int z)]):=by
 rw[h] at k;exact k
theorem jB {K:aa} {res:Option (List Stop×List UInt8)} {l:List Stop} (k:T0 K CR CT r ta cs e H Q E res) (h:res=some (l,t)):∀H' a,Rd K CR H' r ta cs e t->Sb r H H'->H a=none->LT K H' a (l.map sL)->Q (.ref a) H':=by
 rw[h] at k;exact k
def B3 (z:Str):List Nat->List UInt8->Option (List Stop×List UInt8)
 |[],l=>some ([],l)
 |c::cs,l=>match pk (z++".") l with
  |none=>none
  |some (f,t)=>match B3 z cs t with
   |none=>none
   |some (s,u)=>some ((if f<z.length then⟨c,f⟩::s else s),u)
def pre (acc:List Stop):Option (List Stop×List UInt8)->Option (List Stop×List UInt8)
 |none=>none
 |some (s,u)=>some (acc++s,u)
def nV (n:Nat):V:=.int (n:Nat)
def T1 (K:aa) (C CT:ag):Sp:=λvs H Q E=>Ex8 λ(r ta ca:ag) (cs:List UInt8) (e:Nat) (Aq:List UInt8) (z:Str) (ns:List Nat)=>vs=[.ref r,.str z,.ref ca]/\Rd K C H r ta cs e Aq/\OkS (z++".")/\z.length<=1000/\
 H ca=some (.lst (ns.map nV))/\ns.length<=1000/\T0 K C CT r ta cs e H Q E (B3 z ns Aq)
def mSl:Nat->List UInt8->Option (Nat×List UInt8)
 |0,l=>(match sk ("a":Str).cps.toList l with
  |none=>none
  |some (_,t)=>some (10,t))
 |f+1,l=>if see "/" l=true then(match sk ("/":Str).cps.toList l with
  |none=>none
  |some (_,t)=>mSl f t)
  else match sk ("a":Str).cps.toList l with
   |none=>none
   |some (_,t)=>some (9 - f,t)
def mFB (l:List UInt8):Option (Nat×List UInt8):=if see "4567" l=true then(match pk "4567" l with
 |none=>none
 |some (n,t)=>some (7+4+n,t)) else mSl 3 l
def mBN (l:List UInt8):Option (Nat×List UInt8):=if see "1" l=true then(match sk ("1":Str).cps.toList l with
 |none=>none
 |some (_,t)=>match pk "01234" t with
  |none=>none
  |some (n,u)=>some (10+n,u))
 else match pk "789" l with
  |none=>none
  |some (n,t)=>some (7+n,t)
theorem Rd.app {K:aa} {sa:ag} {Aq:List UInt8} (R:Rd K C H r ta cs e Aq) (h:H sa=some (.lst xs)) (hn:ta≠sa\/KTx K ta (cs.map cV)) (s:Sb sa H H'):Rd K C H' r ta cs e Aq:=
 R.kp (xs:=xs) (ys:=[]) h (hn.imp cq id) λb o eb hb=>s b o eb hb
theorem Sb.nt {sa:ag} (s:Sb sa H H') (h:H sa=some (.lst xs)) {K:aa} {ys:List V} (q:SqT K H a ys):SqT K H' a ys:=by
 rcases q with(q|⟨o,q⟩)|q
 ·exact .inl (.inl (s _ _ q (B2 q h (by intro z;cases z))))
 ·exact .inl (.inr ⟨o,s _ _ q (B2 q h (by intro z;cases z))⟩)
 ·exact .inr q
section
variable {P:bb} {w:bv} {K:aa} {mg:Str->Option ah} {base:cr} {C CI CT:ag} {dz fz:Str}
theorem jC:FnScope ["stops","stop","start"] ["stops","stop","start"] (AH IS):={}
theorem jD (F:Fun K "add_stop" "add_stop" IS f fd) (B:Blt mg) (X1:TFm P w K mg base CT):FnOk P w K mg base (CX1 P w) 3 f fd ["stops","stop","start"] (VV K CT):=by
 refine F.okx jC λAv A outer s H vs Q E hr h=>?_;obtain⟨sa,pa,l,s,st,rfl,L,hp,hl,k⟩:=h;refine⟨_,(AB (AX (GJ (AO E1 (AY AN (by rfl) B.len cu (AA (pv 0) AF)) AI (AQ _))
  (EU (AO KZ (BI (FL K) (pv 1) AI (λ_ _=>rfl)) (BI (FL K) (BI CK (pv 0) (GY E0 AI) (λ_ _=>rfl)) AI (λ_ _=>rfl)) (AQ _)))).pt (AC (BF X1 hr AD rfl (pv 2))) AM)
  (AC (AZ (ID fh fm fq CZ (pv 0) (AA (pv 1) AF))))),?_⟩
 and_intros
 obtain⟨as,a1,a2⟩:=id L;obtain⟨y1,q1,l1⟩:=L.len;have la:as.length=l.length:=by rw[cg a2,ai]
 rw[ai] at l1;have app:CY l s=true->(KW (tBM K "list" LU (BO 0) (B6 (BO 1) EK))) { nx:=λ_ H'=>Q .non H',rt:=Q } [some (.ref sa),some (.ref pa),some (.int st)] H:=λho=>by
  rw[Ax ho] at k;refine⟨V.ref sa,rfl,.inl ⟨rfl,_,SqL.of a1⟩,V.ref pa,rfl,sa,_,_,rfl,rfl,a1,?_,?_⟩
  ·rw[ai,la,bw];omega
  ·refine k _ ?_ λb o e hb=>by rw[AE hb];exact e
   rw[du];exact LT.add a1 a2 hp
 refine⟨V.ref sa,rfl,sa,y1,rfl,.inl q1,_,_,rfl,rfl,_,rfl,B9 (λh0=>?_) (λh0=>?_)⟩
 ·have hpos:0<(l.map sL).length:=by
   have:(0:Int)<(y1.length:Int):=by simpa using h0
   rw[ai];omega
  obtain⟨a,b,e1,e2,e3,e4⟩:=K7 a2 (y:=[]) hpos;obtain⟨x,hx⟩:∃x,l.getLast? =some x:=by
   cases hg:l.getLast? with
   |none=>rw[List.getLast?_eq_none_iff] at hg;subst hg;simp at hpos
   |some x=>exact⟨x,rfl⟩
  have eb:b=sL x:=by rw[←e2,jl,w6,hx];rfl
  subst eb;refine⟨V.ref pa,rfl,pa,_,0,V.int (s.course:Nat),rfl,rfl,hp,rfl,V.ref sa,rfl,1,rfl,sa,_,_,_,rfl,rfl,SqL.of a1,MQ e1,a,_,0,V.int (x.course:Nat),rfl,rfl,e3,rfl,_,_,rfl,rfl,_,rfl,B9 (λh1=>?_) (λh1=>?_)⟩
  ·have hle:s.course<=x.course:=by
    have:(s.course:Int)<=(x.course:Int):=by simpa using h1
    omega
   have hno:CY l s=false:=by unfold CY;rw[hx];exact decide_eq_false (by omega)
   rw[Ay (by rw[hno];decide)] at k;exact⟨V.int st,rfl,st,rfl,k⟩
  ·have hle:¬s.course<=x.course:=by
    have:¬(s.course:Int)<=(x.course:Int):=by simpa using h1
    omega
   exact app (by unfold CY;rw[hx];exact decide_eq_true (by omega))
 ·have hz:l=[]:=by
   have:¬(0:Int)<(y1.length:Int):=by simpa using h0
   exact List.eq_nil_of_length_eq_zero (by omega)
  exact BH (app (by rw[hz];rfl))
theorem oT:FnScope ["reader"] ["reader"] (AH DN):={}
theorem oU (F:Fun K "read_bass_number" "read_bass_number" DN f fd) (R:RdE P w K mg base C CT dz) (g7:GI mg "FIRST_BASS" 7):FnOk P w K mg base (CX1 P w) 5 f fd ["reader"] (GW K C CT mBN DQ):=by
 refine F.okx oT λAv A outer s H vs Q E hr h=>?_;obtain⟨r,ta,cs,e,Aq,rfl,Rr,k⟩:=h;refine⟨_,(AB (AX (BK R hr AD (pv 0) AU (oks (by decide +kernel))) (AB (BL R hr AD (pv 0) AU (oks (by decide +kernel)))
  (AC (AJ (BC C7 AI (EW R hr AD (pv 0) AU (oks (by decide +kernel))))))) AM)
  (AC (AJ (BC C7 (B0 g7) (EW R hr AD (pv 0) AU (oks (by decide +kernel))))))),?_⟩
 and_intros
 unfold mBN at k;refine⟨_,rfl,r,ta,cs,e,Aq,rfl,Rr,λH1 s1=>?_⟩;have R1:=Rr.same s1;cases hm:see "1" Aq with
 |true=>
  rw[Ax hm] at k;refine BQ ⟨_,rfl,r,ta,cs,e,Aq,rfl,R1,?_⟩;cases hs:sk ("1":Str).cps.toList Aq with
  |none=>rw[hs] at k;exact AK rfl k
  |some x=>
   obtain⟨_,t⟩:=x;simp only[hs] at k;refine AL rfl λH2 R2 s2=>?_;refine⟨_,rfl,r,ta,cs,e,t,rfl,R2,?_⟩;cases hp:pk "01234" t with
   |none=>simp only[hp] at k;exact AK rfl k
   |some x=>
    obtain⟨n,u⟩:=x;simp only[hp] at k;refine AL rfl λH3 R3 s3=>⟨_,_,rfl,rfl,?_⟩
    have q:=k H3 R3 ((s1.sb.trans s2).trans s3);have e1:DQ (10+n)=V.int (10+(n:Int)):=by unfold DQ;congr 1
    rw[e1] at q;exact q
 |false=>
  rw[Ay (by rw[hm];decide)] at k;refine BH ⟨_,rfl,r,ta,cs,e,Aq,rfl,R1,?_⟩;cases hp:pk "789" Aq with
  |none=>simp only[hp] at k;exact AK rfl k
  |some x=>
   obtain⟨n,u⟩:=x;simp only[hp] at k;refine AL rfl λH3 R3 s3=>⟨_,_,rfl,rfl,?_⟩
   have q:=k H3 R3 (s1.sb.trans s3);have e1:DQ (7+n)=V.int (7+(n:Int)):=by unfold DQ;congr 1
   rw[e1] at q;exact q
end
open PySem PySem.Spec PyProof.Rows L2
theorem LW (o:Option (List Stop×List UInt8)):pre [] o=o:=by
 cases o with
 |none=>rfl
 |some x=>obtain⟨s,u⟩:=x;rfl
theorem LT.sb {K:aa} {dx:ag} {p e:Int} (h:LT K H a ls) (s:Sb r H H') (ir:H r=some (.ins C dx (rf ta p e))):LT K H' a ls:=(Sb.kp s ir).lt h
section
variable {P:bb} {w:bv} {K:aa} {mg:Str->Option ah} {base:cr} {C CI CT:ag} {dz fz:Str}
theorem VW:FnScope ["reader","frets","courses","stops","course","fret"] ["reader","frets","courses"] (AH HE):={}
theorem oV (F:Fun K "read_neck" "read_neck" HE f fd) (B:Blt mg) (R:RdE P w K mg base C CT dz):FnOk P w K mg base (CX1 P w) 5 f fd ["reader","frets","courses"] (T1 K C CT):=by
 refine F.okx VW λAv A outer s H vs Q E hr h=>?_;obtain⟨r,ta,ca,cs,e,Aq,z,ns,rfl,Rr,oz,lz,hca,ln,k⟩:=h;refine⟨_,(AB (AW 3 VW (DS AF))
  (AB (B5 bo rfl (DG (pv 2)) (DT 4 VW)
  (AB (AW 5 VW (R.pi.call (pv 0) hr AD (AA (BC SQ (pv 1) AU) AF)))
  (AC (AX (AO G0 (pv 5) (AY PL (by rfl) B.len cu (AA (pv 1) AF)) (AQ _))
   (AC (AZ (ID fh fm fq CZ (pv 3) (AA (E2 (AA (pv 4) (AA (pv 5) AF))) AF)))) AM))))
  (AC (AJ (pv 3))))),?_⟩
 and_intros
 refine⟨dq _,λsa nsa=>?_⟩;have tt:=HJ Rr.tx nsa;have ncs:ca≠sa:=AG hca nsa;have s0:Same H (upd H sa (.lst [])):=Same.upd nsa;have fin:∀{H':Hp},SbL [r,sa] (upd H sa (.lst [])) H'->Sb r H H':=λ{H'} q b o eb hb=>q b o (s0 b o eb) (by simp[hb,AG eb nsa]);refine⟨V.ref ca,rfl,ca,rfl,⟨_,SqL.of (s0 _ _ hca)⟩,DD (K:=K) (a:=ca) (xs:=ns.map nV) (λi σ H'=>Ex4 λ(acc:List Stop) (Ar:List UInt8) (r4 r5:Option V)=>σ=[some (.ref r),some (.str z),some (.ref ca),some (.ref sa),r4,r5]/\SbL [r,sa] (upd H sa (.lst [])) H'/\Rd K C H' r ta cs e Ar/\
  LT K H' sa (acc.map sL)/\acc.length<=i/\B3 z ns Aq=pre acc (B3 z (ns.drop i) Ar)) ⟨[],Aq,none,none,rfl,SbL.refl,Rr.same s0,⟨[],upd_same,.nil⟩,au _,(LW _).symm⟩ ?_ ?_ ?_⟩
 ·rintro i σ H' hi ⟨acc,Ar,r4,r5,rfl,sb,_⟩;obtain⟨dr,p,ir⟩:=Rr.ins;exact SqL.of (sb _ _ (s0 _ _ hca) (by simp[ncs,B2 hca ir (by intro z;cases z)]))
 ·rintro i y σ H1 hi ⟨acc,Ar,r4,r5,rfl,sb,R1,L1,la,em⟩
  and_intros
  rw[az] at hi;cases hc:ns[i]? with
  |none=>rw[hc] at hi;cases hi
  |some c=>
   rw[hc] at hi;cases hi;have Aw:i<ns.length:=(aw.mp hc).1;have ed:ns.drop i=c::ns.drop (i+1):=by rw[iq Aw,(aw.mp hc).2]
   rw[ed,B3] at em;obtain⟨dr,p,ir⟩:=R1.ins;refine⟨V.ref r,rfl,r,dr,_,rfl,ir,VJ _ _ _,V.str z,rfl,z,".",rfl,rfl,(by rw[bw];show z.length+1<=16777216;omega),r,ta,cs,e,Ar,z++".",rfl,R1,oz,?_⟩;cases hp:pk (z++".") Ar with
   |none=>
    rw[hp] at em;exact AK rfl (jA k em)
   |some x=>
    obtain⟨ft,t⟩:=x;simp only[hp] at em;refine AL rfl λH2 R2 s2=>?_;have L2:=L1.sb s2 ir;have sb2:SbL [r,sa] (upd H sa (.lst [])) H2:=sb.trans (Sb.l s2 (by simp));refine⟨V.int (ft:Nat),rfl,V.str z,rfl,z,rfl,(by rw[bw];omega),_,_,rfl,rfl,_,rfl,B9 (λh0=>?_) (λh0=>?_)⟩
    ·have hf:ft<z.length:=by
      have:(ft:Int)<(z.length:Int):=by simpa using h0
      omega
     obtain⟨as,a1,a2⟩:=id L2;have l1:as.length=acc.length:=by rw[cg a2,ai]
     refine⟨V.ref sa,rfl,.inl ⟨rfl,_,SqL.of a1⟩,V.int (c:Nat),rfl,V.int (ft:Nat),rfl,(by rw[bw];show 2<=16777216;decide),λpa npa=>⟨sa,_,_,rfl,rfl,(Same.upd npa) _ _ a1,?_,?_⟩⟩
     ·rw[ai,l1,bw];omega
     ·have sp:Same H2 (upd H2 pa (.tup [V.int (c:Nat),V.int (ft:Nat)])):=Same.upd npa;have a13:=sp _ _ a1;have su:Sb sa (upd H2 pa (.tup [V.int (c:Nat),V.int (ft:Nat)])) (upd (upd H2 pa (.tup [V.int (c:Nat),V.int (ft:Nat)])) sa (.lst (as.map V.ref++[.ref pa]))):=λb o eb hb=>by rw[AE hb];exact eb
      refine⟨acc++[⟨c,ft⟩],t,_,_,rfl,(sb2.trans (Same.l sp)).trans (Sb.l su (by simp)),(R2.same sp).app a13 tt su,?_,by rw[bq];simp;omega,?_⟩
      ·rw[du];exact LT.add a13 (AR a2 λ_ _ q=>sp.tup q) (SqT.of upd_same)
      ·rw[em];cases B3 z (ns.drop (i+1)) t with
       |none=>rfl
       |some x=>
        obtain⟨s,u⟩:=x;simp only[pre,Ax hf,uE,List.singleton_append]
    ·have hf:¬ft<z.length:=by
      have:¬(ft:Int)<(z.length:Int):=by simpa using h0
      omega
     refine⟨acc,t,_,_,rfl,sb2,R2,L2,by omega,?_⟩;rw[em];cases B3 z (ns.drop (i+1)) t with
     |none=>rfl
     |some x=>
      obtain⟨s,u⟩:=x;simp only[pre,Ay hf]
 ·rintro σ H1 ⟨acc,Ar,r4,r5,rfl,sb,R1,L1,la,em⟩;rw[ai,uZ,B3] at em;simp only[pre,jc] at em;exact⟨V.ref sa,rfl,jB k em H1 sa R1 (fin sb) nsa L1⟩
theorem sc_fb:FnScope ["reader","course"] ["reader"] (AH DM):={}
theorem oW (F:Fun K "read_french_bass" "read_french_bass" DM f fd) (R:RdE P w K mg base C CT dz) (g7:GI mg "FIRST_BASS" 7) (gl:GS mg "FRENCH_LOWEST" "4567"):FnOk P w K mg base (CX1 P w) 5 f fd ["reader"] (GW K C CT mFB DQ):=by
 refine F.okx sc_fb λAv A outer s H vs Q E hr h=>?_;obtain⟨r,ta,cs,e,Aq,rfl,Rr,k⟩:=h;refine⟨_,(AB (AX (BK R hr AD (pv 0) (FB gl) (oks (by decide +kernel))) (AC (AJ (BC C7 (BC C7 (B0 g7) AI) (EW R hr AD (pv 0) (FB gl) (oks (by decide +kernel)))))) AM)
  (AB (AW 1 sc_fb (B0 g7))
  (AB (B4 bo (GJ (BK R hr AD (pv 0) AU (oks (by decide +kernel))) (EU (AO G0 (pv 1) (BC C7 (B0 g7) AI) (AQ _)))).pt
  (AB (BL R hr AD (pv 0) AU (oks (by decide +kernel)))
  (AC (JW (i:=1) sc_fb.nd rfl (uj rfl) AI JX))))
  (AB (BL R hr AD (pv 0) AU (oks (by decide +kernel)))
  (AC (AJ (pv 1))))))),?_⟩
 and_intros
 unfold mFB at k;refine⟨_,rfl,r,ta,cs,e,Aq,rfl,Rr,λH1 s1=>?_⟩;have R1:=Rr.same s1;cases hm:see "4567" Aq with
 |true=>
  rw[Ax hm] at k;refine BQ ⟨_,_,rfl,rfl,_,rfl,r,ta,cs,e,Aq,rfl,R1,?_⟩;cases hp:pk "4567" Aq with
  |none=>simp only[hp] at k;exact AK rfl k
  |some x=>
   obtain⟨n,u⟩:=x;simp only[hp] at k;refine AL rfl λH3 R3 s3=>⟨_,_,rfl,rfl,?_⟩
   have q:=k H3 R3 (s1.sb.trans s3);have e1:DQ (7+4+n)=V.int (7+4+(n:Int)):=by unfold DQ;congr 1
   rw[e1] at q;exact q
 |false=>
  rw[Ay (by rw[hm];decide)] at k;obtain⟨M,hM⟩:∃M,M=mSl 3 Aq:=⟨_,rfl⟩
  rw[←hM] at k;refine BH ⟨λm σ H'=>∃(Ar:List UInt8),σ=[some (.ref r),some (.int (10 - (m:Nat)))]/\m<=3/\Sb r H H'/\Rd K C H' r ta cs e Ar/\M=mSl m Ar,⟨3,Aq,rfl,au _,s1.sb,R1,hM⟩,?_⟩;rintro m σ H2 ⟨Ar,rfl,hm3,s2,R2,em⟩;refine⟨_,rfl,r,ta,cs,e,Ar,rfl,R2,λH3 s3=>?_⟩;have R3:=R2.same s3;have s13:Sb r H H3:=s2.trans s3.sb;have tail:∀H3:Hp,Sb r H H3->Rd K C H3 r ta cs e Ar->(∀t,sk ("a":Str).cps.toList Ar=some ((),t)->M=some (10 - m,t))->(sk ("a":Str).cps.toList Ar=none->M=none)->
   (AV (NB K C CT E (BO 0) "a") (QU (BO 1))) { nx:=λ_ H'=>Q .non H',rt:=Q } [some (.ref r),some (.int (10 - (m:Nat)))] H3:=by
   intro H3 s13 R3 q1 q2;refine⟨_,rfl,r,ta,cs,e,Ar,rfl,R3,?_⟩;cases hs:sk ("a":Str).cps.toList Ar with
   |none=>rw[q2 hs] at k;exact AK rfl k
   |some x=>
    obtain⟨⟨⟩,t⟩:=x;rw[q1 t hs] at k;refine AL rfl λH4 R4 s4=>⟨_,rfl,?_⟩
    have q:=k H4 R4 (s13.trans s4);have e1:DQ (10 - m)=V.int (10 - (m:Nat)):=by unfold DQ;congr 1;omega
    rw[e1] at q;exact q
  cases hs:see "/" Ar with
  |false=>
   refine BH (BH (tail H3 s13 R3 ?_ ?_))
   ·intro t ht;rw[em];cases m with
    |zero=>rw[mSl,ht]
    |succ m=>rw[mSl,Ay (by rw[hs];decide),ht];show some (9 - m,t)=some (10 - (m+1),t);congr 2;omega
   ·intro ht;rw[em];cases m with
    |zero=>rw[mSl,ht]
    |succ m=>rw[mSl,Ay (by rw[hs];decide),ht]
  |true=>
   refine BQ ⟨_,rfl,_,_,rfl,rfl,_,_,rfl,rfl,_,rfl,?_⟩;cases m with
   |zero=>
    refine XA (by decide) (tail H3 s13 R3 ?_ ?_)
    ·intro t ht;rw[em,mSl,ht]
    ·intro ht;rw[em,mSl,ht]
   |succ m=>
    rw[mSl,Ax hs] at em;have Aw:decide ((10:Int) - ((m+1:Nat):Int)<7+3)=true:=decide_eq_true (by omega);show if decide ((10:Int) - ((m+1:Nat):Int)<7+3)=true then _ else _;rw[Aw];refine DY ⟨_,rfl,r,ta,cs,e,Ar,rfl,R3,?_⟩;cases hk:sk ("/":Str).cps.toList Ar with
    |none=>
     rw[hk] at em;rw[em] at k;exact AK rfl k
    |some x=>
     obtain⟨⟨⟩,t⟩:=x;rw[hk] at em;refine AL rfl λH4 R4 s4=>⟨_,rfl,_,_,rfl,rfl,m,by omega,t,?_,by omega,s13.trans s4,R4,em⟩
     show[some (V.ref r),some (V.int (((10:Int) - ((m+1:Nat):Int))+1))]=_;congr 3;show V.int _=V.int _;congr 1;omega
end
open PySem PySem.Spec PyProof.Rows L2
def sT:Option (Stop×List UInt8)->Option (List Int×List UInt8)
 |none=>none
 |some (s,t)=>some (sL s,t)
def zX:Str:="abcdefghiklmnopqrstvxyz&9"
def zP:Str:="+ABCDEFGHIKLMNOP"
def mTm (b:Int):Nat->Nat->List UInt8->Option (Nat×List UInt8)
 |0,j,t=>some (j,t)
 |f+1,j,t=>if bt t=b then(match pk zX t with
  |none=>none
  |some (_,u)=>mTm b f (j+1) u)
  else some (j,t)
def mCr (l:List UInt8):Option (Stop×List UInt8):=match pk zX l with
 |none=>none
 |some (n,t)=>match mTm (bt l) 2 0 t with
  |none=>none
  |some (j,u)=>some (⟨5 - n%5,1+n / 5+5*j⟩,u)
def mGS (l:List UInt8):Option (Stop×List UInt8):=if see "-" l=true then(match sk ("-":Str).cps.toList l with
 |none=>none
 |some (_,t)=>match mBN t with
  |none=>none
  |some (n,u)=>some (⟨n,0⟩,u))
 else if see "54321" l=true then(match pk "54321" l with
  |none=>none
  |some (n,t)=>some (⟨1+n,0⟩,t))
 else if see zP l=true then(match pk zP l with
  |none=>none
  |some (n,t)=>some (⟨6,n⟩,t))
 else mCr l
section
variable {P:bb} {w:bv} {K:aa} {mg:Str->Option ah} {base:cr} {C CI CT:ag} {dz fz:Str}
theorem sc_cr:FnScope ["reader","byte","number","times"] ["reader"] (AH EN):={}
theorem oX (F:Fun K "read_crossing" "read_crossing" EN f fd) (R:RdE P w K mg base C CT dz) (g3:GI mg "MOST_CROSSING_BYTES" 3) (gx:GS mg "GERMAN_CROSSINGS" zX):FnOk P w K mg base (CX1 P w) 5 f fd ["reader"] (FC K C CT λl=>sT (mCr l)):=by
 refine F.okx sc_cr λAv A outer s H vs Q E hr h=>?_;obtain⟨r,ta,cs,e,Aq,rfl,Rr,k⟩:=h;refine⟨_,(AB (AW 1 sc_cr (VL R hr AD (pv 0)))
  (AB (AW 2 sc_cr (EW R hr AD (pv 0) (FB gx) (oks (by decide +kernel))))
  (AB (AW 3 sc_cr AI)
  (AB (B4 bo (GJ (AO CP (VL R hr AD (pv 0)) (pv 1) (AQ _)) (EU (AO G0 (pv 3) (B0 g3) (AQ _)))).pt
  (AB (AZ (EW R hr AD (pv 0) (FB gx) (oks (by decide +kernel))))
  (AC (JW (i:=3) sc_cr.nd rfl (uj rfl) AI JX))))
  (AC (AJ (E2 (AA (BC GZ AI (BC SO (pv 2) AI)) (AA (BC C7 (BC C7 AI (BC LS (pv 2) AI)) (BC IL AI (BC GZ (pv 3) AI))) AF))))))))),?_⟩
 and_intros
 refine⟨_,rfl,r,ta,cs,e,Aq,rfl,Rr,?_⟩;refine⟨_,rfl,r,ta,cs,e,Aq,rfl,Rr,?_⟩;unfold mCr at k;cases hp:pk zX Aq with
 |none=>simp only[hp,sT] at k;exact AK rfl k
 |some x=>
  obtain⟨n,t⟩:=x;simp only[hp] at k;refine AL rfl λH1 R1 s1=>?_;obtain⟨M,hM⟩:∃M,M=mTm (bt Aq) 2 0 t:=⟨_,rfl⟩
  rw[←hM] at k;refine⟨λm σ H'=>Ex2 λ(Ar:List UInt8) (j:Nat)=>σ=[some (.ref r),some (.int (bt Aq)),some (.int (n:Nat)),some (.int ((j:Nat)+1))]/\m+j=2/\Sb r H H'/\Rd K C H' r ta cs e Ar/\M=mTm (bt Aq) m j Ar,⟨2,t,0,rfl,rfl,s1,R1,hM⟩,?_⟩;rintro m σ H2 ⟨Ar,j,rfl,hmj,s2,R2,em⟩;have done:M=some (j,Ar)->(QU (gS (B6 (tOp (rI0 λi j=>.int (i - j)) (tC (.int 5)) (tOp (rI (λ_ j=>0<j) λi j=>.int (i%j)) (BO 2) (tC (.int 5)))) (B6 (tOp (rI0 λi j=>.int (i+j)) (tOp (rI0 λi j=>.int (i+j)) (tC (.int 1)) (tOp (rI lQ λi j=>.int (i / j)) (BO 2) (tC (.int 5)))) (tOp (rI CMul λi j=>.int (i*j)) (tC (.int 5)) (tOp (rI0 λi j=>.int (i - j)) (BO 3) (tC (.int 1))))) EK))))
   { nx:=λ_ H'=>Q .non H',rt:=Q } [some (.ref r),some (.int (bt Aq)),some (.int (n:Nat)),some (.int ((j:Nat)+1))] H2:=by
   intro eM;simp only[eM,sT] at k;refine⟨_,rfl,_,_,rfl,rfl,(by show(0:Int)<5;decide),_,_,rfl,rfl,_,rfl,_,_,rfl,rfl,(show(0:Int)<5/\(5:Int)<1073741824 from by decide),_,_,rfl,rfl,_,rfl,_,_,rfl,rfl,_,_,rfl,rfl,.inl ⟨by decide,by decide⟩,_,_,rfl,rfl,(by rw[bw];show 2<=16777216;decide),λpa npa=>?_⟩
   ·have sp:Same H2 (upd H2 pa (.tup [V.int (5 - (n:Int)%5),V.int (1+(n:Int) / 5+5*(((j:Nat):Int)+1 - 1))])):=Same.upd npa;refine k _ pa (R2.same sp) (s2.trans sp.sb) (SqT.of (upd_same.trans ?_));have e1:((5 - n%5:Nat):Int)=5 - (n:Int)%5:=by omega
    have e2:((1+n / 5+5*j:Nat):Int)=1+(n:Int) / 5+5*(((j:Nat):Int)+1 - 1):=by omega
    simp only[sL,List.map,e1,e2]
  refine⟨_,rfl,r,ta,cs,e,Ar,rfl,R2,_,rfl,rfl,_,rfl,?_⟩;by_cases hb:bt Ar=bt Aq
  ·have hd:decide (V.int (bt Ar)=V.int (bt Aq))=true:=decide_eq_true (by rw[hb]);rw[hd];refine BQ ⟨_,rfl,_,_,rfl,rfl,_,rfl,?_⟩;cases m with
   |zero=>
    have Aw:decide (((j:Nat):Int)+1<3)=false:=decide_eq_false (by omega);refine XA Aw (done ?_);rw[em,mTm]
   |succ m=>
    have Aw:decide (((j:Nat):Int)+1<3)=true:=decide_eq_true (by omega);show if decide (((j:Nat):Int)+1<3)=true then _ else _;rw[Aw];rw[mTm,Ax hb] at em;refine DY ⟨_,rfl,r,ta,cs,e,Ar,rfl,R2,?_⟩;cases hk:pk zX Ar with
    |none=>
     rw[hk] at em;rw[em] at k;exact AK rfl k
    |some x=>
     obtain⟨_,u⟩:=x;rw[hk] at em;exact AL rfl λH4 R4 s4=>⟨_,rfl,_,_,rfl,rfl,m,by omega,u,j+1,rfl,by omega,s2.trans s4,R4,em⟩
  ·have hd:decide (V.int (bt Ar)=V.int (bt Aq))=false:=decide_eq_false λq=>hb (by injection q);rw[hd];refine BH (BH (done ?_));cases m with
   |zero=>rw[em,mTm]
   |succ m=>rw[em,mTm,Ay hb]
theorem oY:FnScope ["reader"] ["reader"] (AH DO):={}
theorem oZ (F:Fun K "read_german_stop" "read_german_stop" DO f fd) (R:RdE P w K mg base C CT dz) (gu:GS mg "GERMAN_UNSTOPPED" "54321") (gp:GS mg "GERMAN_SIXTH" zP) (g6:GI mg "NECK_COURSES" 6)
 (D1:Def P w K mg base 5 "read_bass_number" ["reader"] (GW K C CT mBN DQ)) (D2:Def P w K mg base 5 "read_crossing" ["reader"] (FC K C CT λl=>sT (mCr l))):FnOk P w K mg base (CX1 P w) 6 f fd ["reader"] (FC K C CT λl=>sT (mGS l)):=by
 refine F.okx oY λAv A outer s H vs Q E hr h=>?_;obtain⟨r,ta,cs,e,Aq,rfl,Rr,k⟩:=h;refine⟨_,(AB (AX (BK R hr AD (pv 0) AU (oks (by decide +kernel))) (AB (BL R hr AD (pv 0) AU (oks (by decide +kernel)))
  (AC (AJ (E2 (AA (KG D1 hr AD (pv 0)) (AA AI AF)))))) AM)
  (AB (AX (BK R hr AD (pv 0) (FB gu) (oks (by decide +kernel))) (AC (AJ (E2 (AA (BC C7 AI (EW R hr AD (pv 0) (FB gu) (oks (by decide +kernel)))) (AA AI AF))))) AM)
  (AB (AX (BK R hr AD (pv 0) (FB gp) (oks (by decide +kernel))) (AC (AJ (E2 (AA (B0 g6) (AA (EW R hr AD (pv 0) (FB gp) (oks (by decide +kernel))) AF))))) AM)
  (AC (AJ (GV D2 hr AD (pv 0))))))),?_⟩
 and_intros
 have k':TM K C CT r ta cs e H Q E (sT (mGS Aq)):=k;clear k;have k:=k';clear k';unfold mGS at k;have fin:∀{x y:Int} {H1 H2:Hp} {s:Stop} {t:List UInt8},(∀H' a,Rd K C H' r ta cs e t->Sb r H H'->SqT K H' a ((sL s).map V.int)->Q (.ref a) H')->Sb r H H2->Rd K C H2 r ta cs e t->(s.course:Int)=x->(s.fret:Int)=y->
  [V.int x,V.int y].length<=sizeLine/\∀p,H2 p=none->Q (.ref p) (upd H2 p (.tup [V.int x,V.int y])):=by
  intro x y H1 H2 s t k s2 R2 e1 e2;refine⟨by rw[bw];show 2<=16777216;decide,λpa npa=>?_⟩;have sp:Same H2 (upd H2 pa (.tup [V.int x,V.int y])):=Same.upd npa;exact k _ pa (R2.same sp) (s2.trans sp.sb) (SqT.of (upd_same.trans (by rw[←e1, ←e2];rfl)))
 refine⟨_,rfl,r,ta,cs,e,Aq,rfl,Rr,λH1 s1=>?_⟩;have R1:=Rr.same s1;cases h1:see "-" Aq with
 |true=>
  rw[Ax h1] at k;refine BQ ⟨_,rfl,r,ta,cs,e,Aq,rfl,R1,?_⟩;cases hs:sk ("-":Str).cps.toList Aq with
  |none=>simp only[hs,sT] at k;exact AK rfl k
  |some x=>
   obtain⟨_,t⟩:=x;simp only[hs] at k;refine AL rfl λH2 R2 s2=>⟨_,rfl,r,ta,cs,e,t,rfl,R2,?_⟩
   cases hb:mBN t with
   |none=>simp only[hb,sT] at k;exact AK rfl k
   |some x=>
    obtain⟨n,u⟩:=x;simp only[hb,sT] at k;exact AL rfl λH3 R3 s3=>fin (H1:=H) k ((s1.sb.trans s2).trans s3) R3 rfl rfl
 |false=>
  rw[Ay (by rw[h1];decide)] at k;refine BH ⟨_,rfl,r,ta,cs,e,Aq,rfl,R1,λH2 s2=>?_⟩;have R2:=R1.same s2;cases h2:see "54321" Aq with
  |true=>
   rw[Ax h2] at k;refine BQ ⟨_,rfl,r,ta,cs,e,Aq,rfl,R2,?_⟩;cases hp:pk "54321" Aq with
   |none=>simp only[hp,sT] at k;exact AK rfl k
   |some x=>
    obtain⟨n,u⟩:=x;simp only[hp,sT] at k;refine AL rfl λH3 R3 s3=>⟨_,_,rfl,rfl,?_⟩
    exact fin (H1:=H) k ((s1.trans s2).sb.trans s3) R3 (by show((1+n:Nat):Int)=1+(n:Int);omega) rfl
  |false=>
   rw[Ay (by rw[h2];decide)] at k;refine BH ⟨_,rfl,r,ta,cs,e,Aq,rfl,R2,λH3 s3=>?_⟩;have R3:=R2.same s3;cases h3:see zP Aq with
   |true=>
    rw[Ax h3] at k;refine BQ ⟨_,rfl,r,ta,cs,e,Aq,rfl,R3,?_⟩;cases hp:pk zP Aq with
    |none=>simp only[hp,sT] at k;exact AK rfl k
    |some x=>
     obtain⟨n,u⟩:=x;simp only[hp,sT] at k;exact AL rfl λH4 R4 s4=>fin (H1:=H) k (((s1.trans s2).trans s3).sb.trans s4) R4 rfl rfl
   |false=>
    rw[Ay (by rw[h3];decide)] at k;refine BH ⟨_,rfl,r,ta,cs,e,Aq,rfl,R3,?_⟩;cases hc:mCr Aq with
    |none=>simp only[hc,sT] at k;exact EC (by show sT (mCr Aq)=_;rw[hc];rfl) k
    |some x=>
     obtain⟨s,u⟩:=x;simp only[hc,sT] at k;exact ED (by show sT (mCr Aq)=_;rw[hc];rfl) λH4 a R4 s4 q=>k H4 a R4 (((s1.trans s2).trans s3).sb.trans s4) q
end
open PySem PySem.Spec PyProof.Rows L2
def zF:Str:="abcdefghiklmnopq"
def zI:Str:="0123456789xyzvuw"
def mBs (m:List UInt8->Option (Nat×List UInt8)):Nat->List Stop->List UInt8->Option (List Stop×List UInt8)
 |0,_,_=>none
 |f+1,acc,l=>if see " " l=true then(match sk (" ":Str).cps.toList l with
  |none=>none
  |some (_,t)=>match m t with
   |none=>none
   |some (b,u)=>if CY acc ⟨b,0⟩=true then mBs m f (acc++[⟨b,0⟩]) u else none)
  else some (acc,l)
def mFr (l:List UInt8):Option (List Stop×List UInt8):=match B3 zF [1,2,3,4,5,6] l with
 |none=>none
 |some (s,t)=>mBs mFB (t.length+1) s t
def mIt (l:List UInt8):Option (List Stop×List UInt8):=match B3 zI [6,5,4,3,2,1] l with
 |none=>none
 |some (s,t)=>mBs mBN (t.length+1) s.reverse t
def mGl:Nat->List Stop->List UInt8->Option (List Stop×List UInt8)
 |0,_,_=>none
 |f+1,acc,l=>match mGS l with
  |none=>none
  |some (s,t)=>if CY acc s=true then(if see " " t=true then(match sk (" ":Str).cps.toList t with
   |none=>none
   |some (_,u)=>mGl f (acc++[s]) u) else some (acc++[s],t)) else none
def mGr (l:List UInt8):Option (List Stop×List UInt8):=if see "." l=true then(match sk (".":Str).cps.toList l with
 |none=>none
 |some (_,t)=>some ([],t))
 else mGl (l.length+1) [] l
theorem VX:∀{f:Nat} {l t:List UInt8} {n:Nat},mSl f l=some (n,t)->t.length<l.length
 |0,l,t,n,h=>by
  rw[mSl] at h;cases hs:sk ("a":Str).cps.toList l with
  |none=>rw[hs] at h;cases h
  |some x=>
   obtain⟨_,y⟩:=x;rw[hs] at h;cases h;have:t.length+1=l.length:=BN hs;omega
 |f+1,l,t,n,h=>by
  rw[mSl] at h;split at h
  ·cases hs:sk ("/":Str).cps.toList l with
   |none=>rw[hs] at h;cases h
   |some x=>
    obtain⟨_,y⟩:=x;rw[hs] at h;have h1:y.length+1=l.length:=BN hs;have:=VX (f:=f) h;omega
  ·cases hs:sk ("a":Str).cps.toList l with
   |none=>rw[hs] at h;cases h
   |some x=>
    obtain⟨_,y⟩:=x;rw[hs] at h;cases h;have:t.length+1=l.length:=BN hs;omega
theorem P6 {l:List UInt8} (h:mFB l=some (n,t)):t.length<l.length:=by
 unfold mFB at h;split at h
 ·cases hp:pk "4567" l with
  |none=>rw[hp] at h;cases h
  |some x=>obtain⟨i,y⟩:=x;rw[hp] at h;cases h;have:=ES hp;omega
 ·exact VX h
theorem L8 {l:List UInt8} (h:mBN l=some (n,t)):t.length<l.length:=by
 unfold mBN at h;split at h
 ·cases hs:sk ("1":Str).cps.toList l with
  |none=>rw[hs] at h;cases h
  |some x=>
   obtain⟨_,y⟩:=x;simp only[hs] at h;cases hp:pk "01234" y with
   |none=>rw[hp] at h;cases h
   |some x=>
    obtain⟨i,v⟩:=x;rw[hp] at h;cases h;have h1:y.length+1=l.length:=BN hs;have:=ES hp;omega
 ·cases hp:pk "789" l with
  |none=>rw[hp] at h;cases h
  |some x=>obtain⟨i,y⟩:=x;rw[hp] at h;cases h;have:=ES hp;omega
theorem GF:∀{ns:List Nat} {l t:List UInt8} {s:List Stop},B3 z ns l=some (s,t)->t.length<=l.length/\s.length<=ns.length
 |[],l,t,s,h=>by rw[B3] at h;cases h;exact⟨au _,au _⟩
 |c::ns,l,t,s,h=>by
  rw[B3] at h;cases hp:pk (z++".") l with
  |none=>rw[hp] at h;cases h
  |some x=>
   obtain⟨i,y⟩:=x;simp only[hp] at h;cases hm:B3 z ns y with
   |none=>rw[hm] at h;cases h
   |some x=>
    obtain⟨q,v⟩:=x;simp only[hm] at h;cases h;have h1:=GF hm;have h2:=ES hp;refine⟨by omega,?_⟩;split<;>simp<;>omega
def XF (K:aa) (C CT:ag) (m:List UInt8->Option (List Stop×List UInt8)):Sp:=λvs H Q E=>Ex5 λ(r ta:ag) (cs:List UInt8) (e:Nat) (Aq:List UInt8)=>vs=[.ref r]/\Rd K C H r ta cs e Aq/\cs.length<=100000/\T0 K C CT r ta cs e H Q E (m Aq)
theorem Rd.rl {K:aa} {Aq:List UInt8} (R:Rd K C H r ta cs e Aq):Aq.length<=cs.length:=by
 obtain⟨dx,p,_,q,_⟩:=R.at_;rw[q,fx,df];omega
theorem NK {F:α->β->Prop}:∀{l:List α} {m:List β},cf F l m->cf F l.reverse m.reverse
 |_,_,.nil=>.nil
 |_,_,.cons r t=>by
  rw[sj,sj];exact FM r (NK t)
section
variable {P:bb} {w:bv} {K:aa} {mg:Str->Option ah} {base:cr} {C CI CT:ag} {dz fz:Str}
theorem T2:FnScope ["reader","stops","start"] ["reader"] (AH DB):={}
theorem jE (F:Fun K "read_french_stops" "read_french_stops" DB f fd) (B:Blt mg) (R:RdE P w K mg base C CT dz) (g6:GI mg "NECK_COURSES" 6) (gz:GS mg "FRENCH_FRETS" zF)
 (D1:Def P w K mg base 5 "read_neck" ["reader","frets","courses"] (T1 K C CT)) (D2:Def P w K mg base 5 "read_french_bass" ["reader"] (GW K C CT mFB DQ)) (D3:Def P w K mg base 3 "add_stop" ["stops","stop","start"] (VV K CT)):
 FnOk P w K mg base (CX1 P w) 6 f fd ["reader"] (XF K C CT mFr):=by
 refine F.okx T2 λAv A outer s H vs Q E hr h=>?_;obtain⟨r,ta,cs,e,Aq,rfl,Rr,hcs,k⟩:=h;refine⟨_,(AB (AW 1 T2 (D1.call hr AD (AA (pv 0) (AA (FB gz) (AA (JQ rfl B.list B.range (AA AI (AA (BC C7 (B0 g6) AI) AF))) AF)))))
  (AB (B4 bo (BK R hr AD (pv 0) AU (oks (by decide +kernel)))
  (AB (BL R hr AD (pv 0) AU (oks (by decide +kernel)))
  (AB (AW 2 T2 (B1 R (pv 0)))
  (AC (AZ (D3.call hr AD (AA (pv 1) (AA (E2 (AA (KG D2 hr AD (pv 0)) (AA AI AF))) (AA (pv 2) AF)))))))))
  (AC (AJ (pv 1))))),?_⟩
 and_intros
 unfold mFr at k;refine⟨_,rfl,_,_,rfl,rfl,1,7,1,6,.inr ⟨rfl,rfl⟩,⟨by decide,by decide,by decide +kernel,by decide +kernel⟩,(by decide),λca nca=>?_⟩;have sc:Same H (upd H ca (.lst (rgV 1 1 6))):=Same.upd nca;have R0:=Rr.same sc;refine⟨r,ta,ca,cs,e,Aq,zF,[1,2,3,4,5,6],rfl,R0,oks (by decide +kernel),(by decide +kernel),upd_same,(by decide),?_⟩;cases hn:B3 zF [1,2,3,4,5,6] Aq with
 |none=>simp only[hn] at k;exact KL rfl k
 |some x=>
  obtain⟨s0,t⟩:=x;simp only[hn] at k;have hnl:=GF hn;refine KM rfl λH1 sa R1 s1 nsa L1=>?_;have nsa:H sa=none:=by
   by_cases q:sa=ca
   ·rw[q];exact nca
   ·rw[AE q] at nsa;exact nsa
  have s1:Sb r H H1:=λb o eb hb=>s1 b o (sc b o eb) hb;have ttx:ta≠sa\/KTx K ta (cs.map cV):=HJ Rr.tx nsa;obtain⟨M,hM⟩:∃M,M=mBs mFB (t.length+1) s0 t:=⟨_,rfl⟩
  rw[←hM] at k;have hls:(s0).length<=6:=hnl.2;have hr0:=Rr.rl;refine⟨λm σ H'=>Ex4 λ(Ar:List UInt8) (acc:List Stop) (g:Nat) (r2:Option V)=>σ=[some (.ref r),some (.ref sa),r2]/\Sb r H H'/\Rd K C H' r ta cs e Ar/\LT K H' sa (acc.map sL)/\M=mBs mFB g acc Ar/\Ar.length<g/\acc.length+Ar.length<=6+t.length/\m=Ar.length,
   ⟨t.length,t,s0,t.length+1,none,rfl,s1,R1,L1,hM,by omega,by omega,rfl⟩,?_⟩
  rintro m σ H2 ⟨Ar,acc,g,r2,rfl,s2,R2,L2,em,hg,ha,rfl⟩;obtain⟨g,rfl⟩:∃g',g=g'+1:=⟨g - 1,by omega⟩
  rw[mBs] at em;refine⟨_,rfl,r,ta,cs,e,Ar,rfl,R2,λH3 s3=>?_⟩;have R3:=R2.same s3;have L3:LT K H3 sa (acc.map sL):=(Same.kp s3).lt L2;have s23:Sb r H H3:=s2.trans s3.sb;cases hs:see " " Ar with
  |false=>
   rw[Ay (by rw[hs];decide)] at em;rw[em] at k;exact BH ⟨_,rfl,k H3 sa R3 s23 nsa L3⟩
  |true=>
   rw[Ax hs] at em;refine DY ⟨_,rfl,r,ta,cs,e,Ar,rfl,R3,?_⟩;cases hk:sk (" ":Str).cps.toList Ar with
   |none=>simp only[hk] at em;rw[em] at k;exact AK rfl k
   |some x=>
    obtain⟨_,t4⟩:=x;simp only[hk] at em;obtain⟨dr3,p3,ir3⟩:=R3.ins;refine AL rfl λH4 R4 s4=>⟨_,rfl,r,ta,cs,e,t4,rfl,R4,λst=>?_⟩
    have L4:=L3.sb s4 ir3;obtain⟨dr4,p4,ir4⟩:=R4.ins;refine⟨_,rfl,_,rfl,r,ta,cs,e,t4,rfl,R4,?_⟩;cases hb:mFB t4 with
    |none=>simp only[hb] at em;rw[em] at k;exact AK rfl k
    |some x=>
     obtain⟨b,u⟩:=x;simp only[hb] at em;refine AL rfl λH5 R5 s5=>⟨(by rw[bw];show 2<=16777216;decide),λpa npa=>⟨_,rfl,?_⟩⟩
     have L5:=L4.sb s5 ir4;have sp:Same H5 (upd H5 pa (.tup [DQ b,V.int 0])):=Same.upd npa;have hl1:t4.length+1=Ar.length:=BN hk;have hl2:=P6 hb;refine⟨sa,pa,acc,⟨b,0⟩,st,rfl,(Same.kp sp).lt L5,SqT.of upd_same,by omega,?_⟩;cases ho:CY acc ⟨b,0⟩ with
     |false=>
      rw[Ay (by rw[ho];decide)] at em;rw[em] at k;exact BH (k st)
     |true=>
      rw[Ax ho] at em;refine BQ λH6 L6 s6=>⟨u.length,by omega,u,acc++[⟨b,0⟩],g,_,rfl,?_,?_,L6,em,by omega,?_,rfl⟩
      ·have q:Sb r H (upd H5 pa (.tup [DQ b,V.int 0])):=((s23.trans s4).trans s5).trans sp.sb;exact λb' o eb hb'=>s6 b' o (q b' o eb hb') (AG eb nsa)
      ·obtain⟨as,a1,_⟩:=(Same.kp sp).lt L5;exact(R5.same sp).app a1 ttx s6
      ·rw[bq];simp;omega
theorem T3:FnScope ["reader","stops","start"] ["reader"] (AH CS):={}
theorem jF (F:Fun K "read_italian_stops" "read_italian_stops" CS f fd) (B:Blt mg) (R:RdE P w K mg base C CT dz) (g6:GI mg "NECK_COURSES" 6) (gz:GS mg "ITALIAN_FRETS" zI)
 (D1:Def P w K mg base 5 "read_neck" ["reader","frets","courses"] (T1 K C CT)) (D2:Def P w K mg base 5 "read_bass_number" ["reader"] (GW K C CT mBN DQ)) (D3:Def P w K mg base 3 "add_stop" ["stops","stop","start"] (VV K CT)):
 FnOk P w K mg base (CX1 P w) 6 f fd ["reader"] (XF K C CT mIt):=by
 refine F.okx T3 λAv A outer s H vs Q E hr h=>?_;obtain⟨r,ta,cs,e,Aq,rfl,Rr,hcs,k⟩:=h;refine⟨_,(AB (AW 1 T3 (TY rfl B.list B.rev (AA (D1.call hr AD (AA (pv 0) (AA (FB gz) (AA (JQ rfl B.list B.range (AA (B0 g6) (AA AI (AA (GY E0 AI) AF)))) AF)))) AF)))
  (AB (B4 bo (BK R hr AD (pv 0) AU (oks (by decide +kernel)))
  (AB (BL R hr AD (pv 0) AU (oks (by decide +kernel)))
  (AB (AW 2 T3 (B1 R (pv 0)))
  (AC (AZ (D3.call hr AD (AA (pv 1) (AA (E2 (AA (KG D2 hr AD (pv 0)) (AA AI AF))) (AA (pv 2) AF)))))))))
  (AC (AJ (pv 1))))),?_⟩
 and_intros
 unfold mIt at k;refine⟨_,rfl,1,rfl,6,0, -1,6,.inl rfl,⟨by decide,by decide,by decide +kernel,by decide +kernel⟩,(by decide),λca nca=>?_⟩;have sc:Same H (upd H ca (.lst (rgV 6 (-1) 6))):=Same.upd nca;have R0:=Rr.same sc;refine⟨r,ta,ca,cs,e,Aq,zI,[6,5,4,3,2,1],rfl,R0,oks (by decide +kernel),(by decide +kernel),upd_same,(by decide),?_⟩;cases hn:B3 zI [6,5,4,3,2,1] Aq with
 |none=>simp only[hn] at k;exact KL rfl k
 |some x=>
  obtain⟨s0,t⟩:=x;simp only[hn] at k;have hnl:=GF hn;refine KM rfl λH0 sz R1 s1 nsz L1=>?_;have s1:Sb r H H0:=λb o eb hb=>s1 b o (sc b o eb) hb;obtain⟨as,a1,a2⟩:=L1;refine⟨sz,_,rfl,SqL.of a1,λsa nsb=>?_⟩;obtain⟨H1,hH⟩:∃H1,H1=upd H0 sa (.lst (as.map V.ref).reverse):=⟨_,rfl⟩
  rw[←hH];have sv:Same H0 H1:=hH▸Same.upd nsb;have L1:LT K H1 sa (s0.reverse.map sL):=⟨as.reverse,by rw[hH,upd_same,xB],by rw[xB];exact NK (AR a2 λ_ _ q=>sv.tup q)⟩
  have nsa:H sa=none:=by
   cases hq:H sa with
   |none=>rfl
   |some o=>
    by_cases q:sa=r
    ·obtain⟨dr,p,ir⟩:=R1.ins;rw[q,ir] at nsb;cases nsb
    ·rw[s1 sa o hq q] at nsb;cases nsb
  replace R1:=R1.same sv;replace s1:Sb r H H1:=s1.trans sv.sb;have ttx:ta≠sa\/KTx K ta (cs.map cV):=HJ Rr.tx nsa;obtain⟨M,hM⟩:∃M,M=mBs mBN (t.length+1) s0.reverse t:=⟨_,rfl⟩
  rw[←hM] at k;have hls:(s0.reverse).length<=6:=by rw[tR];exact hnl.2
  have hr0:=Rr.rl;refine⟨λm σ H'=>Ex4 λ(Ar:List UInt8) (acc:List Stop) (g:Nat) (r2:Option V)=>σ=[some (.ref r),some (.ref sa),r2]/\Sb r H H'/\Rd K C H' r ta cs e Ar/\LT K H' sa (acc.map sL)/\M=mBs mBN g acc Ar/\Ar.length<g/\acc.length+Ar.length<=6+t.length/\m=Ar.length,
   ⟨t.length,t,s0.reverse,t.length+1,none,rfl,s1,R1,L1,hM,by omega,by omega,rfl⟩,?_⟩
  rintro m σ H2 ⟨Ar,acc,g,r2,rfl,s2,R2,L2,em,hg,ha,rfl⟩;obtain⟨g,rfl⟩:∃g',g=g'+1:=⟨g - 1,by omega⟩
  rw[mBs] at em;refine⟨_,rfl,r,ta,cs,e,Ar,rfl,R2,λH3 s3=>?_⟩;have R3:=R2.same s3;have L3:LT K H3 sa (acc.map sL):=(Same.kp s3).lt L2;have s23:Sb r H H3:=s2.trans s3.sb;cases hs:see " " Ar with
  |false=>
   rw[Ay (by rw[hs];decide)] at em;rw[em] at k;exact BH ⟨_,rfl,k H3 sa R3 s23 nsa L3⟩
  |true=>
   rw[Ax hs] at em;refine DY ⟨_,rfl,r,ta,cs,e,Ar,rfl,R3,?_⟩;cases hk:sk (" ":Str).cps.toList Ar with
   |none=>simp only[hk] at em;rw[em] at k;exact AK rfl k
   |some x=>
    obtain⟨_,t4⟩:=x;simp only[hk] at em;obtain⟨dr3,p3,ir3⟩:=R3.ins;refine AL rfl λH4 R4 s4=>⟨_,rfl,r,ta,cs,e,t4,rfl,R4,λst=>?_⟩
    have L4:=L3.sb s4 ir3;obtain⟨dr4,p4,ir4⟩:=R4.ins;refine⟨_,rfl,_,rfl,r,ta,cs,e,t4,rfl,R4,?_⟩;cases hb:mBN t4 with
    |none=>simp only[hb] at em;rw[em] at k;exact AK rfl k
    |some x=>
     obtain⟨b,u⟩:=x;simp only[hb] at em;refine AL rfl λH5 R5 s5=>⟨(by rw[bw];show 2<=16777216;decide),λpa npa=>⟨_,rfl,?_⟩⟩
     have L5:=L4.sb s5 ir4;have sp:Same H5 (upd H5 pa (.tup [DQ b,V.int 0])):=Same.upd npa;have hl1:t4.length+1=Ar.length:=BN hk;have hl2:=L8 hb;refine⟨sa,pa,acc,⟨b,0⟩,st,rfl,(Same.kp sp).lt L5,SqT.of upd_same,by omega,?_⟩;cases ho:CY acc ⟨b,0⟩ with
     |false=>
      rw[Ay (by rw[ho];decide)] at em;rw[em] at k;exact BH (k st)
     |true=>
      rw[Ax ho] at em;refine BQ λH6 L6 s6=>⟨u.length,by omega,u,acc++[⟨b,0⟩],g,_,rfl,?_,?_,L6,em,by omega,?_,rfl⟩
      ·have q:Sb r H (upd H5 pa (.tup [DQ b,V.int 0])):=((s23.trans s4).trans s5).trans sp.sb;exact λb' o eb hb'=>s6 b' o (q b' o eb hb') (AG eb nsa)
      ·obtain⟨as,a1,_⟩:=(Same.kp sp).lt L5;exact(R5.same sp).app a1 ttx s6
      ·rw[bq];simp;omega
end
open PySem PySem.Spec PyProof.Rows L2
theorem VY {b:Int}:∀{f j:Nat} {l t:List UInt8} {n:Nat},mTm b f j l=some (n,t)->t.length<=l.length
 |0,j,l,t,n,h=>by rw[mTm] at h;cases h;exact au _
 |f+1,j,l,t,n,h=>by
  rw[mTm] at h;split at h
  ·cases hp:pk zX l with
   |none=>rw[hp] at h;cases h
   |some x=>
    obtain⟨i,y⟩:=x;rw[hp] at h;have h1:=(ES hp).1;have:=VY (f:=f) h;omega
  ·cases h;exact au _
theorem P7 {l:List UInt8} {s:Stop} (h:mGS l=some (s,t)):t.length<l.length:=by
 unfold mGS at h;split at h
 ·cases hs:sk ("-":Str).cps.toList l with
  |none=>rw[hs] at h;cases h
  |some x=>
   obtain⟨_,y⟩:=x;simp only[hs] at h;cases hp:mBN y with
   |none=>rw[hp] at h;cases h
   |some x=>
    obtain⟨i,v⟩:=x;rw[hp] at h;cases h;have h1:y.length+1=l.length:=BN hs;have:=L8 hp;omega
 ·split at h
  ·cases hp:pk "54321" l with
   |none=>rw[hp] at h;cases h
   |some x=>obtain⟨i,y⟩:=x;rw[hp] at h;cases h;have:=(ES hp).1;omega
  ·split at h
   ·cases hp:pk zP l with
    |none=>rw[hp] at h;cases h
    |some x=>obtain⟨i,y⟩:=x;rw[hp] at h;cases h;have:=(ES hp).1;omega
   ·unfold mCr at h;cases hp:pk zX l with
    |none=>rw[hp] at h;cases h
    |some x=>
     obtain⟨i,y⟩:=x;simp only[hp] at h;cases hm:mTm (bt l) 2 0 y with
     |none=>rw[hm] at h;cases h
     |some x=>
      obtain⟨j,v⟩:=x;rw[hm] at h;cases h;have:=(ES hp).1;have:=VY hm;omega
section
variable {P:bb} {w:bv} {K:aa} {mg:Str->Option ah} {base:cr} {C CI CT:ag} {dz fz:Str}
theorem T4:FnScope ["reader","stops","start"] ["reader"] (AH DC):={}
theorem jG (F:Fun K "read_german_stops" "read_german_stops" DC f fd) (R:RdE P w K mg base C CT dz)
 (D2:Def P w K mg base 6 "read_german_stop" ["reader"] (FC K C CT λl=>sT (mGS l))) (D3:Def P w K mg base 3 "add_stop" ["stops","stop","start"] (VV K CT)):
 FnOk P w K mg base (CX1 P w) 7 f fd ["reader"] (XF K C CT mGr):=by
 refine F.okx T4 λAv A outer s H vs Q E hr h=>?_;obtain⟨r,ta,cs,e,Aq,rfl,Rr,hcs,k⟩:=h;refine⟨_,(AB (AX (BK R hr AD (pv 0) AU (oks (by decide +kernel))) (AB (BL R hr AD (pv 0) AU (oks (by decide +kernel)))
  (AC (AJ (DS AF)))) AM)
  (AB (AW 1 T4 (DS AF))
  (AC (B4 bo (C5 MD)
  (AB (AW 2 T4 (B1 R (pv 0)))
  (AB (AZ (D3.call hr AD (AA (pv 1) (AA (GV D2 hr AD (pv 0)) (AA (pv 2) AF)))))
  (AB (AX (D0 (BK R hr AD (pv 0) AU (oks (by decide +kernel)))) (AC (AJ (pv 1))) AM)
  (AC (BL R hr AD (pv 0) AU (oks (by decide +kernel))))))))))),?_⟩
 and_intros
 unfold mGr at k;refine⟨_,rfl,r,ta,cs,e,Aq,rfl,Rr,λH1 s1=>?_⟩;have R1:=Rr.same s1;cases h1:see "." Aq with
 |true=>
  rw[Ax h1] at k;refine BQ ⟨_,rfl,r,ta,cs,e,Aq,rfl,R1,?_⟩;cases hs:sk (".":Str).cps.toList Aq with
  |none=>simp only[hs] at k;exact AK rfl k
  |some x=>
   obtain⟨_,t⟩:=x;simp only[hs] at k;refine AL rfl λH2 R2 s2=>⟨dq _,λsa nsa=>?_⟩
   have sv:Same H2 (upd H2 sa (.lst [])):=Same.upd nsa;have s12:Sb r H H2:=s1.sb.trans s2;refine k _ sa (R2.same sv) (s12.trans sv.sb) ?_ ⟨[],upd_same,.nil⟩;cases hq:H sa with
   |none=>rfl
   |some o=>
    by_cases q:sa=r
    ·obtain⟨dr,p,ir⟩:=R2.ins;rw[q,ir] at nsa;cases nsa
    ·rw[s12 sa o hq q] at nsa;cases nsa
 |false=>
  rw[Ay (by rw[h1];decide)] at k;refine BH ⟨dq _,λsa nsa1=>?_⟩;have nsa:H sa=none:=by
   cases hq:H sa with
   |none=>rfl
   |some o=>rw[s1 sa o hq] at nsa1;cases nsa1
  have sv:Same H1 (upd H1 sa (.lst [])):=Same.upd nsa1;have ttx:ta≠sa\/KTx K ta (cs.map cV):=HJ Rr.tx nsa;obtain⟨M,hM⟩:∃M,M=mGl (Aq.length+1) [] Aq:=⟨_,rfl⟩
  rw[←hM] at k;have hr0:=Rr.rl;refine⟨λm σ H'=>Ex4 λ(Ar:List UInt8) (acc:List Stop) (g:Nat) (r2:Option V)=>σ=[some (.ref r),some (.ref sa),r2]/\Sb r H H'/\Rd K C H' r ta cs e Ar/\LT K H' sa (acc.map sL)/\M=mGl g acc Ar/\Ar.length<g/\acc.length+Ar.length<=Aq.length/\m=Ar.length,
   ⟨Aq.length,Aq,[],Aq.length+1,none,rfl,(s1.trans sv).sb,R1.same sv,⟨[],upd_same,.nil⟩,hM,by omega,by simp,rfl⟩,?_⟩
  rintro m σ H2 ⟨Ar,acc,g,r2,rfl,s2,R2,L2,em,hg,ha,rfl⟩;obtain⟨g,rfl⟩:∃g',g=g'+1:=⟨g - 1,by omega⟩
  rw[mGl] at em;refine⟨_,rfl,DY ?_⟩
  and_intros
  refine⟨_,rfl,r,ta,cs,e,Ar,rfl,R2,λst=>?_⟩;obtain⟨dr2,p2,ir2⟩:=R2.ins;refine⟨_,rfl,_,rfl,r,ta,cs,e,Ar,rfl,R2,?_⟩;cases hb:mGS Ar with
  |none=>simp only[hb] at em;rw[em] at k;exact EC (by show sT (mGS Ar)=_;rw[hb];rfl) k
  |some x=>
   obtain⟨s,u⟩:=x;simp only[hb] at em;refine ED (by show sT (mGS Ar)=_;rw[hb];rfl) λH3 pa R3 s3 hp=>⟨_,rfl,?_⟩
   have L3:=L2.sb s3 ir2;have hl:=P7 hb;refine⟨sa,pa,acc,s,st,rfl,L3,hp,by omega,?_⟩;cases ho:CY acc s with
   |false=>
    rw[Ay (by rw[ho];decide)] at em;rw[em] at k;exact BH (k st)
   |true=>
    rw[Ax ho] at em;refine BQ λH4 L4 s4=>?_;have q3:Sb r H H3:=s2.trans s3;have q4:Sb r H H4:=λb' o eb hb'=>s4 b' o (q3 b' o eb hb') (AG eb nsa);have R4:Rd K C H4 r ta cs e u:=by
     obtain⟨as,a1,_⟩:=L3;exact R3.app a1 ttx s4
    refine⟨_,rfl,r,ta,cs,e,u,rfl,R4,λH5 s5=>?_⟩;have R5:=R4.same s5;have L5:LT K H5 sa ((acc++[s]).map sL):=(Same.kp s5).lt L4;cases hs:see " " u with
    |false=>
     rw[Ay (by rw[hs];decide)] at em;rw[em] at k;exact BQ ⟨_,rfl,k H5 sa R5 (q4.trans s5.sb) nsa L5⟩
    |true=>
     rw[Ax hs] at em;refine BH ⟨_,rfl,r,ta,cs,e,u,rfl,R5,?_⟩;cases hk:sk (" ":Str).cps.toList u with
     |none=>simp only[hk] at em;rw[em] at k;exact AK rfl k
     |some x=>
      obtain⟨_,v⟩:=x;simp only[hk] at em;obtain⟨dr5,p5,ir5⟩:=R5.ins;have hl1:v.length+1=u.length:=BN hk;refine AL rfl λH6 R6 s6=>⟨v.length,by omega,v,acc++[s],g,_,rfl,(q4.trans s5.sb).trans s6,R6,L5.sb s6 ir5,em,by omega,?_,rfl⟩
      rw[bq];simp;omega
def mSt (kd:Nat) (l:List UInt8):Option (List Stop×List UInt8):=if kd=0 then mFr l else if kd=1 then mIt l else mGr l
def fL (K:aa) (C CT:ag):Sp:=λvs H Q E=>Ex6 λ(r ta:ag) (cs:List UInt8) (e:Nat) (Aq:List UInt8) (kd:Nat)=>vs=[.ref r,.int (kd:Nat)]/\Rd K C H r ta cs e Aq/\cs.length<=100000/\T0 K C CT r ta cs e H Q E (mSt kd Aq)
theorem jH:FnScope ["reader","kind"] ["reader","kind"] (AH GQ):={}
theorem jI (F:Fun K "read_stops" "read_stops" GQ f fd) (g0:GI mg "FRENCH" 0) (g1:GI mg "ITALIAN" 1)
 (D1:Def P w K mg base 6 "read_french_stops" ["reader"] (XF K C CT mFr)) (D2:Def P w K mg base 6 "read_italian_stops" ["reader"] (XF K C CT mIt)) (D3:Def P w K mg base 7 "read_german_stops" ["reader"] (XF K C CT mGr)):
 FnOk P w K mg base (CX1 P w) 8 f fd ["reader","kind"] (fL K C CT):=by
 refine F.okx jH λAv A outer s H vs Q E hr h=>?_;obtain⟨r,ta,cs,e,Aq,kd,rfl,Rr,hcs,k⟩:=h;refine⟨_,(AB (AX (AO CP (pv 1) (B0 g0) (AQ _)) (AC (AJ (D1.call hr AD (AA (pv 0) AF)))) AM)
  (AB (AX (AO CP (pv 1) (B0 g1) (AQ _)) (AC (AJ (D2.call hr AD (AA (pv 0) AF)))) AM)
  (AC (AJ (D3.call hr AD (AA (pv 0) AF)))))),?_⟩
 and_intros
 unfold mSt at k;refine⟨V.int (kd:Nat),rfl,rfl,_,rfl,B9 (λh0=>?_) (λh0=>?_)⟩
 ·have e0:kd=0:=by
   have q:=of_decide_eq_true h0;injection q with q;omega
  rw[Ax e0] at k;exact⟨_,rfl,r,ta,cs,e,Aq,rfl,Rr,hcs,k⟩
 ·have e0:¬kd=0:=λq=>h0 (decide_eq_true (by rw[q];rfl));rw[Ay e0] at k;refine⟨V.int (kd:Nat),rfl,rfl,_,rfl,B9 (λh1=>?_) (λh1=>?_)⟩
  ·have e1:kd=1:=by
    have q:=of_decide_eq_true h1;injection q with q;omega
   rw[Ax e1] at k;exact⟨_,rfl,r,ta,cs,e,Aq,rfl,Rr,hcs,k⟩
  ·have e1:¬kd=1:=λq=>h1 (decide_eq_true (by rw[q];rfl));rw[Ay e1] at k;exact⟨_,rfl,r,ta,cs,e,Aq,rfl,Rr,hcs,k⟩
end
open PySem PySem.Spec PyProof.Rows L2
def lnf (n:Int) (sa:ag):List (Str×V):=[("length",.int n),("stops",.ref sa)]
theorem Z3 (n:Int) (sa:ag):(lnf n sa).lookup ("length":Str)=some (.int n):=rfl
theorem VZ (n:Int) (sa:ag):(lnf n sa).lookup ("stops":Str)=some (.ref sa):=rfl
theorem Z4 (n:Int) (sa:ag) {m:Str} (h1:(m=="length")=false) (h2:(m=="stops")=false):(lnf n sa).lookup m=none:=by
 unfold lnf;simp only[jf,h1,h2]
structure LnC (K:aa) (CL:ag):Prop where
 cl:Cls K CL
 nl:NoAttr K CL "length"
 ns:NoAttr K CL "stops"
def jJ (CL:ag):Sp:=λvs H Q _=>Ex4 λ(x dx sa:ag) (n:Int)=>vs=[.ref x,.int n,.ref sa]/\H x=some (.ins CL dx [])/\∀H',H' x=some (.ins CL dx (lnf n sa))->Sb x H H'->Q .non H'
def Z5 (CL:ag):Sp:=λvs H Q _=>Ex4 λ(x dx sa:ag) (n:Int)=>vs=[.ref x]/\H x=some (.ins CL dx (lnf n sa))/\Q (.bl (decide (n=0))) H
def hd1 (z:Str):Str:=⟨#[z.cps.toList.headD 0]⟩
def mKd:List Str->Nat->List UInt8->Option (Nat×List UInt8)
 |[],_,_=>none
 |z::zs,i,l=>if see (hd1 z) l=true then(match sk z.cps.toList l with
  |none=>none
  |some (_,t)=>some (i,t)) else mKd zs (i+1) l
def kws:List Str:=["french\n","italian\n","german\n"]
def zL:Str:="xtseqhw"
def lens:List Int:=[1,2,4,8,16,32,64]
def mLn (before:Nat) (l:List UInt8):Option (Nat×List UInt8):=if see " " l=true then(if before=0 then none else match sk (" ":Str).cps.toList l with
 |none=>none
 |some (_,t)=>some (before,t))
 else match pk zL l with
  |none=>none
  |some (i,t)=>if 0<i/\see "." t=true then(match sk (".":Str).cps.toList t with
   |none=>none
   |some (_,u)=>match sk (" ":Str).cps.toList u with
    |none=>none
    |some (_,v)=>if 2 ^ i+2 ^ i / 2=before then none else some (2 ^ i+2 ^ i / 2,v))
   else match sk (" ":Str).cps.toList t with
    |none=>none
    |some (_,v)=>if 2 ^ i=before then none else some (2 ^ i,v)
def fM (K:aa) (C CT:ag):Sp:=λvs H Q E=>Ex6 λ(r ta:ag) (cs:List UInt8) (e:Nat) (Aq:List UInt8) (b:Nat)=>vs=[.ref r,.int (b:Nat)]/\Rd K C H r ta cs e Aq/\Got K C CT r ta cs e H Q E DQ (mLn b Aq)
theorem dI (h:i<7):(lens.map V.int)[i]? =some (.int ((2 ^ i:Nat):Int)):=by
 match i,h with
 |0,_=>rfl
 |1,_=>rfl
 |2,_=>rfl
 |3,_=>rfl
 |4,_=>rfl
 |5,_=>rfl
 |6,_=>rfl
section
variable {P:bb} {w:bv} {K:aa} {mg:Str->Option ah} {base:cr} {C CL CT:ag} {dz fz:Str}
theorem o0:FnScope ["self","length","stops"] ["self","length","stops"] (AH HF):={}
theorem o5 (F:Fun K "__init__" "Line.__init__" HF f fd) (T:LnC K CL):FnOk P w K mg base (CX1 P w) 1 f fd ["self","length","stops"] (jJ CL):=by
 refine F.okx o0 λAv A outer s H vs Q E hr h=>?_;obtain⟨x,dx,sa,n,rfl,hx,k⟩:=h;refine⟨_,(AB (CQ (pv 0) (pv 1) rfl)
  (AC (CQ (pv 0) (pv 2) rfl))),?_⟩
 and_intros
 refine⟨_,rfl,_,rfl,x,CL,dx,[],rfl,hx,T.cl,T.nl,(by decide),?_⟩;refine⟨_,rfl,_,rfl,x,CL,dx,_,rfl,upd_same,T.cl,T.ns,(by show 1<1000;decide),?_⟩;exact k _ upd_same λb o e hb=>by rw[AE hb,AE hb];exact e
theorem o6:FnScope ["self"] ["self"] (AH F4):={}
theorem o7 (F:Fun K "is_bar" "Line.is_bar" F4 f fd) (T:LnC K CL):FnOk P w K mg base (CX1 P w) 1 f fd ["self"] (Z5 CL):=by
 refine F.okx o6 λAv A outer s H vs Q E hr h=>?_;obtain⟨x,dx,sa,n,rfl,hx,k⟩:=h;refine⟨_,(AC (AJ (DR CP (AT (pv 0) rfl) AI (AQ _)))),?_⟩
 subst_eqs
 refine⟨_,rfl,x,CL,dx,_,_,rfl,hx,T.cl,T.nl,Z3 _ _,rfl,?_⟩;have e0:decide (V.int n=V.int 0)=decide (n=0):=by
  rw[decide_eq_decide];exact⟨λq=>by injection q,λq=>by rw[q]⟩
 show Q (V.bl (decide (V.int n=V.int 0))) H;rw[e0];exact k
theorem Z6:FnScope ["reader","kind","word"] ["reader"] (AH HG):={}
theorem jK (h:z∈kws):OkS (hd1 z)/\OkS z/\z.length<=100/\z.cps.toList[0]? =some (z.cps.toList.headD 0):=by
 have:z="french\n"\/z="italian\n"\/z="german\n":=by simpa [kws] using h
 rcases this with rfl|rfl|rfl
 ·exact⟨oks (by decide +kernel),oks (by decide +kernel),by decide +kernel,rfl⟩
 ·exact⟨oks (by decide +kernel),oks (by decide +kernel),by decide +kernel,rfl⟩
 ·exact⟨oks (by decide +kernel),oks (by decide +kernel),by decide +kernel,rfl⟩
theorem o8 (F:Fun K "read_kind" "read_kind" HG f fd) (B:Blt mg) (R:RdE P w K mg base C CT dz) (gk:GT K mg "KIND_WORDS" (kws.map V.str)):FnOk P w K mg base (CX1 P w) 5 f fd ["reader"] (GW K C CT (mKd kws 0) DQ):=by
 refine F.okx Z6 λAv A outer s H vs Q E hr h=>?_;obtain⟨r,ta,cs,e,Aq,rfl,Rr,k⟩:=h;refine⟨_,(AB (B5 bo rfl (RG (by rfl) B.enum (AA (OP gk) AF)) (IJ rfl (BZ (DT 1 Z6) (BZ (DT 2 Z6) GK)))
  (AC (AX (C5 (R.se.call (pv 0) hr AD (AA (BI gY (pv 2) AI (λ_ _=>rfl)) AF))) (AB (AZ (R.sk.call (pv 0) hr AD (AA (pv 2) AF)))
  (AC (AJ (pv 1)))) AM)))
  (AC (BF R.X1 hr AD rfl (B1 R (pv 0))))),?_⟩
 and_intros
 intro ka hka;obtain⟨M,hM⟩:∃M,M=mKd kws 0 Aq:=⟨_,rfl⟩
 have k:Got K C CT r ta cs e H Q E DQ M:=by rw[hM];exact k
 refine⟨ka,kws.map V.str,rfl,hka _,GM (n:=3) (λi σ H'=>Same H H'/\(Ex2 λr1 r2=>σ=[some (.ref r),r1,r2])/\i<=3/\M=mKd (kws.drop i) i Aq) ⟨Same.refl _,⟨none,none,rfl⟩,by omega,hM⟩ ?_ ?_ ?_ ?_⟩
 ·rintro i σ H' hi _;have Aw:i<kws.length:=hi;exact⟨kws.map V.str,.str kws[i],hka H',by rw[az,am Aw];rfl⟩
 ·rintro σ H' _;exact⟨kws.map V.str,hka H',rfl⟩
 ·rintro i v σ H1 H2 hi ⟨s1,⟨r1,r2,rfl⟩,_,em⟩ ⟨T,xv,rfl,nT,rfl,hxv⟩;have Aw:i<kws.length:=hi;have hxv':=hxv _ (hka H1);rw[az,am Aw] at hxv';cases hxv';obtain⟨z,hz⟩:∃z,z=kws[i]:=⟨_,rfl⟩
  rw[←hz];obtain⟨o1,o2,o3,o4⟩:=jK (z:=z) (by rw[hz];exact jh _);have ed:kws.drop i=z::kws.drop (i+1):=by rw[iq Aw,hz]
  rw[ed,mKd] at em;have s2:Same H (upd H1 T (.tup [.int (i:Nat),.str z])):=s1.trans (Same.upd nT);have R2:=Rr.same s2;obtain⟨dr,p,ir⟩:=R2.ins;refine⟨T,_,rfl,SqT.of upd_same,rfl,_,_,rfl,_,_,rfl,rfl,?_⟩;refine⟨V.ref r,rfl,r,dr,_,rfl,ir,VI _ _ _,V.str z,rfl,z,0,_,rfl,rfl,(by rw[bw];omega),DH (j:=0) o4,r,ta,cs,e,Aq,hd1 z,rfl,R2,o1,λH3 s3=>⟨_,rfl,?_⟩⟩;have R3:=R2.same s3;cases hs:see (hd1 z) Aq with
  |false=>
   rw[Ay (by rw[hs];decide)] at em;exact BH ⟨s2.trans s3,⟨_,_,rfl⟩,by omega,em⟩
  |true=>
   rw[Ax hs] at em;obtain⟨dr3,p3,ir3⟩:=R3.ins;refine BQ ⟨V.ref r,rfl,r,dr3,_,rfl,ir3,P2 _ _ _,V.str z,rfl,r,ta,cs,e,Aq,z,rfl,R3,o2,?_⟩;cases hk:sk z.cps.toList Aq with
   |none=>rw[hk] at em;rw[em] at k;exact AK rfl k
   |some x=>
    obtain⟨_,t⟩:=x;rw[hk] at em;rw[em] at k;exact AL rfl λH4 R4 s4=>⟨V.int (i:Nat),rfl,k H4 R4 ((s2.trans s3).sb.trans s4)⟩
 ·rintro σ H1 ⟨s1,⟨r1,r2,rfl⟩,_,em⟩;have e3:kws.drop 3=[]:=rfl;rw[e3,mKd] at em;rw[em] at k;exact⟨V.ref r,rfl,r,ta,cs,e,Aq,rfl,Rr.same s1,λz=>⟨z,rfl,k z⟩⟩
theorem sc_rl:FnScope ["reader","before","start","length"] ["reader","before"] (AH CU):={}
theorem o9 (F:Fun K "read_length" "read_length" CU f fd) (R:RdE P w K mg base C CT dz) (gl:GS mg "LENGTH_SIGNS" zL) (gt:GT K mg "LENGTHS" (lens.map V.int)):FnOk P w K mg base (CX1 P w) 5 f fd ["reader","before"] (fM K C CT):=by
 refine F.okx sc_rl λAv A outer s H vs Q E hr h=>?_;obtain⟨r,ta,cs,e,Aq,b,rfl,Rr,k⟩:=h;refine⟨_,(AB (AW 2 sc_rl (B1 R (pv 0)))
  (AB (AX (BK R hr AD (pv 0) AU (oks (by decide +kernel)))
  (AB (AX (AO CP (pv 1) AI (AQ _)) (AC (BF R.X1 hr AD rfl (pv 2))) AM)
  (AB (BL R hr AD (pv 0) AU (oks (by decide +kernel)))
  (AC (AJ (pv 1))))) AM)
  (AB (AW 3 sc_rl (BI (FL K) (OP gt) (EW R hr AD (pv 0) (FB gl) (oks (by decide +kernel))) (λ_ _=>rfl)))
  (AB (AX (GJ (AO E1 (pv 3) AI (AQ _)) (EU (BK R hr AD (pv 0) AU (oks (by decide +kernel))))).pt
  (AB (BL R hr AD (pv 0) AU (oks (by decide +kernel)))
  (AC (JW (i:=3) sc_rl.nd rfl (uj rfl) (BC LS (pv 3) AI) JX))) AM)
  (AB (BL R hr AD (pv 0) AU (oks (by decide +kernel)))
  (AB (AX (AO CP (pv 3) (pv 1) (AQ _)) (AC (BF R.X1 hr AD rfl (pv 2))) AM)
  (AC (AJ (pv 3))))))))),?_⟩
 and_intros
 unfold mLn at k;refine⟨_,rfl,r,ta,cs,e,Aq,rfl,Rr,λst=>?_⟩;refine⟨_,rfl,r,ta,cs,e,Aq,rfl,Rr,λH1 s1=>?_⟩;have R1:=Rr.same s1;cases h1:see " " Aq with
 |true=>
  rw[Ax h1] at k;refine BQ ⟨V.int (b:Nat),rfl,rfl,_,rfl,B9 (λh0=>?_) (λh0=>?_)⟩
  ·have e0:b=0:=by
    have q:=of_decide_eq_true h0;injection q with q;omega
   rw[Ax e0] at k;exact⟨V.int st,rfl,st,rfl,k st⟩
  ·have e0:¬b=0:=λq=>h0 (decide_eq_true (by rw[q];rfl));rw[Ay e0] at k;refine⟨_,rfl,r,ta,cs,e,Aq,rfl,R1,?_⟩;cases hs:sk (" ":Str).cps.toList Aq with
   |none=>rw[hs] at k;exact AK rfl k
   |some x=>
    obtain⟨_,t⟩:=x;rw[hs] at k;exact AL rfl λH2 R2 s2=>⟨V.int (b:Nat),rfl,k H2 R2 (s1.sb.trans s2)⟩
 |false=>
  rw[Ay (by rw[h1];decide)] at k;refine BH λla hla=>⟨_,rfl,r,ta,cs,e,Aq,rfl,R1,?_⟩
  cases hp:pk zL Aq with
  |none=>simp only[hp] at k;exact AK rfl k
  |some x=>
   obtain⟨i,t⟩:=x;simp only[hp] at k;have hi:i<7:=(ES hp).2;refine AL rfl λH2 R2 s2=>⟨la,_,_,_,rfl,rfl,hla _,DH (dI hi),?_⟩
   have sb2:Sb r H H2:=s1.sb.trans s2;have tail:∀(n:Nat) (H3:Hp) (t':List UInt8),Sb r H H3->Rd K C H3 r ta cs e t'->Got K C CT r ta cs e H Q E DQ (match sk (" ":Str).cps.toList t' with
    |none=>none
    |some (_,v)=>if n=b then none else some (n,v))->
    (AV (NB K C CT E (BO 0) " ") (AV (SL (N8 (tOp rEq (BO 3) (BO 1))) (KD CT E (BO 2)) UO) (QU (BO 3)))) { nx:=λ_ H'=>Q .non H',rt:=Q } [some (.ref r),some (.int (b:Nat)),some (.int st),some (.int (n:Nat))] H3:=by
    intro n H3 t' s3 R3 k;refine⟨_,rfl,r,ta,cs,e,t',rfl,R3,?_⟩;cases hs:sk (" ":Str).cps.toList t' with
    |none=>rw[hs] at k;exact AK rfl k
    |some x=>
     obtain⟨_,v⟩:=x;simp only[hs] at k;refine AL rfl λH4 R4 s4=>⟨_,rfl,_,rfl,rfl,_,rfl,B9 (λh0=>?_) (λh0=>?_)⟩
     ·have e0:n=b:=by
       have q:=of_decide_eq_true h0;injection q with q;omega
      rw[Ax e0] at k;exact⟨V.int st,rfl,st,rfl,k st⟩
     ·have e0:¬n=b:=λq=>h0 (decide_eq_true (by rw[q]));rw[Ay e0] at k;exact⟨V.int (n:Nat),rfl,k H4 R4 (s3.trans s4)⟩
   refine⟨_,rfl,_,_,rfl,rfl,_,rfl,?_⟩;by_cases h0:0<i
   ·have hgt:decide ((1:Int)<((2 ^ i:Nat):Int))=true:=decide_eq_true (by have:2 ^ 1<=2 ^ i:=md (by decide) h0;omega);show if decide ((1:Int)<((2 ^ i:Nat):Int))=true then _ else _;rw[hgt];refine BQ ⟨_,rfl,r,ta,cs,e,t,rfl,R2,λH3 s3=>?_⟩;have R3:=R2.same s3;cases h2:see "." t with
    |true=>
     rw[Ax ⟨h0,h2⟩] at k;refine BQ ⟨_,rfl,r,ta,cs,e,t,rfl,R3,?_⟩;cases hs:sk (".":Str).cps.toList t with
     |none=>simp only[hs] at k;exact AK rfl k
     |some x=>
      obtain⟨_,u⟩:=x;simp only[hs] at k;refine AL rfl λH4 R4 s4=>⟨_,rfl,_,rfl,_,_,rfl,rfl,(show(0:Int)<2/\(2:Int)<1073741824 from by decide),_,_,rfl,rfl,?_⟩
      have en:(((2 ^ i:Nat):Int)+((2 ^ i:Nat):Int) / 2)=((2 ^ i+2 ^ i / 2:Nat):Int):=by omega
      have q:=tail (2 ^ i+2 ^ i / 2) H4 u ((sb2.trans s3.sb).trans s4) R4 k;rw[←en] at q;exact q
    |false=>
     rw[Ay (by rw[h2];rintro ⟨_,q⟩;cases q)] at k;exact BH (tail (2 ^ i) H3 t (sb2.trans s3.sb) R3 k)
   ·have hgt:decide ((1:Int)<((2 ^ i:Nat):Int))=false:=by
     have:i=0:=by omega
     subst this;decide
    rw[Ay (λq=>h0 q.1)] at k;refine XA hgt (BH (tail (2 ^ i) H2 t sb2 R2 k))
end
open PySem PySem.Spec PyProof.Rows L2
def mPl (kd before:Nat) (l:List UInt8):Option (Ln×List UInt8):=if see "|" l=true then(match sk ("|\n":Str).cps.toList l with
 |none=>none
 |some (_,t)=>some ((0,[]),t))
 else match mLn before l with
  |none=>none
  |some (n,t)=>match mSt kd t with
   |none=>none
   |some (st,u)=>match sk ("\n":Str).cps.toList u with
    |none=>none
    |some (_,v)=>some ((n,st),v)
def mLs (kd:Nat):Nat->List Ln->Nat->List UInt8->Option (List Ln)
 |0,_,_,_=>none
 |f+1,acc,len,l=>if l.isEmpty=true then(if len=0 then none else some acc) else if acc.length=512 then none else match mPl kd len l with
  |none=>none
  |some ((n,st),t)=>mLs kd f (acc++[(n,st)]) (if n=0 then len else n) t
def mPc (cs:List UInt8):Option (List Ln):=match mKd kws 0 cs with
 |none=>none
 |some (kd,t)=>mLs kd (t.length+1) [] 0 t
def LnB (K:aa) (CL al:ag) (H:Hp) (x:ag) (p:Ln):Prop:=Ex2 λdx sa=>sa≠al/\H x=some (.ins CL dx (lnf (p.1:Nat) sa))/\LT K H sa (p.2.map sL)
def LnsA (K:aa) (CL:ag) (H:Hp) (al:ag) (ps:List Ln):Prop:=∃as:List ag,H al=some (.lst (as.map V.ref))/\cf (λx p=>LnB K CL al H x p) as ps
theorem jL {n:Int} {sa:ag} {p e:Int}:lnf n sa≠rf ta p e:=by
 intro q;have:=congrArg pc q;simp[lnf,rf] at this
theorem LnB.sb {K:aa} {al dx x:ag} {p e:Int} {q:Ln} (h:LnB K CL al H x q) (s:Sb r H H') (ir:H r=some (.ins C dx (rf ta p e))):LnB K CL al H' x q:=by
 obtain⟨dl,sa,hn,h1,h2⟩:=h;exact⟨dl,sa,hn,s _ _ h1 (B2 h1 ir (by intro z;injection z with _ _ z;exact jL z)),h2.sb s ir⟩
theorem LnB.same {K:aa} {al x:ag} {q:Ln} (h:LnB K CL al H x q) (s:Same H H'):LnB K CL al H' x q:=by
 obtain⟨dl,sa,hn,h1,h2⟩:=h;exact⟨dl,sa,hn,s _ _ h1,(Same.kp s).lt h2⟩
theorem LT.sbl {K:aa} {al:ag} (h:LT K H a ls) (s:Sb al H H') (hal:H al=some (.lst xs)) (n:a≠al):LT K H' a ls:=by
 obtain⟨as,h1,h2⟩:=h;exact⟨as,s _ _ h1 n,AR h2 λ_ _ q=>Sb.nt s hal q⟩
theorem LnB.app {K:aa} {al x:ag} {q:Ln} (h:LnB K CL al H x q) (s:Sb al H H') (hal:H al=some (.lst xs)):LnB K CL al H' x q:=by
 obtain⟨dl,sa,hn,h1,h2⟩:=h;exact⟨dl,sa,hn,s _ _ h1 (B2 h1 hal (by intro z;cases z)),h2.sbl s hal hn⟩
theorem LnsA.same {K:aa} {al:ag} {ps:List Ln} (h:LnsA K CL H al ps) (s:Same H H'):LnsA K CL H' al ps:=let ⟨as,h1,h2⟩:=h;⟨as,s _ _ h1,AR h2 λ_ _ q=>q.same s⟩
theorem LnsA.sb {K:aa} {al dx:ag} {p e:Int} {ps:List Ln} (h:LnsA K CL H al ps) (s:Sb r H H') (ir:H r=some (.ins C dx (rf ta p e))):LnsA K CL H' al ps:=
 let ⟨as,h1,h2⟩:=h;⟨as,s _ _ h1 (B2 h1 ir (by intro z;cases z)),AR h2 λ_ _ q=>q.sb s ir⟩
def jM (K:aa) (CR CL CT r ta:ag) (cs:List UInt8) (e:Nat) (H:Hp) (Q:VK) (E:XK):Option (Ln×List UInt8)->Prop
 |some (p,Ar)=>∀H' x dx sa,Rd K CR H' r ta cs e Ar->Sb r H H'->H sa=none->H' x=some (.ins CL dx (lnf (p.1:Nat) sa))->LT K H' sa (p.2.map sL)->Q (.ref x) H'
 |none=>∀z:Int,E (.ref CT) none (xH [("place",.int z)])
theorem XG {K:aa} {res:Option (Ln×List UInt8)} (h:res=none) (k:∀z:Int,E (.ref CT) none (xH [("place",.int z)])):jM K CR CL CT r ta cs e H Q E res:=by
 rw[h];exact k
theorem XH {K:aa} {res:Option (Ln×List UInt8)} {p:Ln} (h:res=some (p,t)) (k:∀H' x dx sa,Rd K CR H' r ta cs e t->Sb r H H'->H sa=none->H' x=some (.ins CL dx (lnf (p.1:Nat) sa))->LT K H' sa (p.2.map sL)->Q (.ref x) H'):jM K CR CL CT r ta cs e H Q E res:=by
 rw[h];exact k
def pB (K:aa) (C CL CT:ag):Sp:=λvs H Q E=>Ex7 λ(r ta:ag) (cs:List UInt8) (e:Nat) (Aq:List UInt8) (kd b:Nat)=>vs=[.ref r,.int (kd:Nat),.int (b:Nat)]/\Rd K C H r ta cs e Aq/\cs.length<=100000/\jM K C CL CT r ta cs e H Q E (mPl kd b Aq)
theorem Z7 {o:HO} (s:Sb r H H') (hr:H' r=some o) (n:H' a=none):H a=none:=by
 cases hq:H a with
 |none=>rfl
 |some o'=>
  by_cases q:a=r
  ·rw[q,hr] at n;cases n
  ·rw[s a o' hq q] at n;cases n
section
variable {P:bb} {w:bv} {K:aa} {mg:Str->Option ah} {base:cr} {C CL CT:ag} {dz fz:Str}
theorem Z8:FnScope ["reader","kind","before","length","stops"] ["reader","kind","before"] (AH DP):={}
theorem pC (F:Fun K "read_line" "read_line" DP f fd) (R:RdE P w K mg base C CT dz) (ML:Mkr P w K mg base 1 CL "Line" ["self","length","stops"] (jJ CL))
 (D1:Def P w K mg base 5 "read_length_pieces" ["reader","before"] (fM K C CT)) (D2:Def P w K mg base 8 "read_stops" ["reader","kind"] (fL K C CT)):FnOk P w K mg base (CX1 P w) 9 f fd ["reader","kind","before"] (pB K C CL CT):=by
 refine F.okx Z8 λAv A outer s H vs Q E hr h=>?_;obtain⟨r,ta,cs,e,Aq,kd,b,rfl,Rr,hcs,k⟩:=h;refine⟨_,(AB (AX (BK R hr AD (pv 0) AU (oks (by decide +kernel))) (AB (BL R hr AD (pv 0) AU (oks (by decide +kernel)))
  (AC (AJ (ML.call hr AD (AA AI (AA (DS AF) AF)))))) AM)
  (AB (AW 3 Z8 (D1.call hr AD (AA (pv 0) (AA (pv 2) AF))))
  (AB (AW 4 Z8 (D2.call hr AD (AA (pv 0) (AA (pv 1) AF))))
  (AB (BL R hr AD (pv 0) AU (oks (by decide +kernel)))
  (AC (AJ (ML.call hr AD (AA (pv 3) (AA (pv 4) AF))))))))),?_⟩
 and_intros
 unfold mPl at k;refine⟨_,rfl,r,ta,cs,e,Aq,rfl,Rr,λH1 s1=>?_⟩;have R1:=Rr.same s1;cases h1:see "|" Aq with
 |true=>
  rw[Ax h1] at k;refine BQ ⟨_,rfl,r,ta,cs,e,Aq,rfl,R1,?_⟩;cases hs:sk ("|\n":Str).cps.toList Aq with
  |none=>simp only[hs] at k;exact AK rfl k
  |some x=>
   obtain⟨_,t⟩:=x;simp only[hs] at k;refine AL rfl λH2 R2 s2=>⟨dq _,λsa nsa x dx nx nd hne=>⟨x,dx,sa,0,rfl,upd_same,λH3 h3 s3=>⟨rfl,?_⟩⟩⟩
   have s02:Sb r H H2:=s1.sb.trans s2;obtain⟨dr,p,ir⟩:=R2.ins;have sv:Same H2 (upd H2 sa (.lst [])):=Same.upd nsa;have sm:Same (upd H2 sa (.lst [])) H3:=BT nx nd s3 Sb.refl;refine k H3 x dx sa ((R2.same sv).same sm) (s02.trans (sv.trans sm).sb) (Z7 s02 ir nsa) h3 ⟨[],sm _ _ upd_same,.nil⟩
 |false=>
  rw[Ay (by rw[h1];decide)] at k;refine BH ⟨_,rfl,_,rfl,r,ta,cs,e,Aq,b,rfl,R1,?_⟩;cases hl:mLn b Aq with
  |none=>simp only[hl] at k;exact AK rfl k
  |some x=>
   obtain⟨n,t⟩:=x;simp only[hl] at k;refine AL rfl λH2 R2 s2=>⟨_,rfl,_,rfl,r,ta,cs,e,t,kd,rfl,R2,hcs,?_⟩
   have s02:Sb r H H2:=s1.sb.trans s2;obtain⟨dr2,p2,ir2⟩:=R2.ins;cases hm:mSt kd t with
   |none=>simp only[hm] at k;exact KL rfl k
   |some x=>
    obtain⟨l,u⟩:=x;simp only[hm] at k;refine KM rfl λH3 sa R3 s3 nsa L3=>⟨_,rfl,r,ta,cs,e,u,rfl,R3,?_⟩
    obtain⟨dr3,p3,ir3⟩:=R3.ins;cases hs:sk ("\n":Str).cps.toList u with
    |none=>simp only[hs] at k;exact AK rfl k
    |some x=>
     obtain⟨_,v⟩:=x;simp only[hs] at k;refine AL rfl λH4 R4 s4=>⟨_,rfl,_,rfl,λx dx nx nd hne=>⟨x,dx,sa,n,rfl,upd_same,λH5 h5 s5=>⟨rfl,?_⟩⟩⟩
     have L4:=L3.sb s4 ir3;have sm:Same H4 H5:=BT nx nd s5 Sb.refl;exact k H5 x dx sa (R4.same sm) (((s02.trans s3).trans s4).trans sm.sb) (Z7 s02 ir2 nsa) h5 ((Same.kp sm).lt L4)
end
theorem V0 {b:Nat} {l:List UInt8} (h:mLn b l=some (n,t)):t.length<l.length:=by
 unfold mLn at h;split at h
 ·split at h
  ·cases h
  ·cases hs:sk (" ":Str).cps.toList l with
   |none=>rw[hs] at h;cases h
   |some x=>
    obtain⟨_,y⟩:=x;rw[hs] at h;cases h;have:t.length+1=l.length:=BN hs;omega
 ·cases hp:pk zL l with
  |none=>rw[hp] at h;cases h
  |some x=>
   obtain⟨i,y⟩:=x;have h1:=(ES hp).1;simp only[hp] at h;split at h
   ·cases hs:sk (".":Str).cps.toList y with
    |none=>rw[hs] at h;cases h
    |some x=>
     obtain⟨_,u⟩:=x;have h2:u.length+1=y.length:=BN hs;simp only[hs] at h;cases hs2:sk (" ":Str).cps.toList u with
     |none=>rw[hs2] at h;cases h
     |some x=>
      obtain⟨_,v⟩:=x;have h3:v.length+1=u.length:=BN hs2;simp only[hs2] at h;split at h
      ·cases h
      ·cases h;omega
   ·cases hs2:sk (" ":Str).cps.toList y with
    |none=>rw[hs2] at h;cases h
    |some x=>
     obtain⟨_,v⟩:=x;have h3:v.length+1=y.length:=BN hs2;simp only[hs2] at h;split at h
     ·cases h
     ·cases h;omega
theorem P8 {m:List UInt8->Option (Nat×List UInt8)} (hm:∀{l t n},m l=some (n,t)->t.length<l.length):∀{f:Nat} {acc s:List Stop} {l t:List UInt8},mBs m f acc l=some (s,t)->t.length<=l.length
 |0,_,_,_,_,h=>by rw[mBs] at h;cases h
 |f+1,acc,s,l,t,h=>by
  rw[mBs] at h;split at h
  ·cases hs:sk (" ":Str).cps.toList l with
   |none=>rw[hs] at h;cases h
   |some x=>
    obtain⟨_,y⟩:=x;have h2:y.length+1=l.length:=BN hs;simp only[hs] at h;cases hq:m y with
    |none=>rw[hq] at h;cases h
    |some x=>
     obtain⟨b,u⟩:=x;have h3:=hm hq;simp only[hq] at h;split at h
     ·have:=P8 hm h;omega
     ·cases h
  ·cases h;exact au _
theorem V1:∀{f:Nat} {acc s:List Stop} {l t:List UInt8},mGl f acc l=some (s,t)->t.length<=l.length
 |0,_,_,_,_,h=>by rw[mGl] at h;cases h
 |f+1,acc,s,l,t,h=>by
  rw[mGl] at h;cases hq:mGS l with
  |none=>rw[hq] at h;cases h
  |some x=>
   obtain⟨b,u⟩:=x;have h3:=P7 hq;simp only[hq] at h;split at h
   ·split at h
    ·cases hs:sk (" ":Str).cps.toList u with
     |none=>rw[hs] at h;cases h
     |some x=>
      obtain⟨_,y⟩:=x;have h2:y.length+1=u.length:=BN hs;simp only[hs] at h;have:=V1 h;omega
    ·cases h;omega
   ·cases h
theorem V2 {kd:Nat} {l:List UInt8} {s:List Stop} (h:mSt kd l=some (s,t)):t.length<=l.length:=by
 unfold mSt at h;split at h
 ·unfold mFr at h;cases hn:B3 zF [1,2,3,4,5,6] l with
  |none=>rw[hn] at h;cases h
  |some x=>
   obtain⟨q,y⟩:=x;have h1:=(GF hn).1;simp only[hn] at h;have:=P8 P6 h;omega
 ·split at h
  ·unfold mIt at h;cases hn:B3 zI [6,5,4,3,2,1] l with
   |none=>rw[hn] at h;cases h
   |some x=>
    obtain⟨q,y⟩:=x;have h1:=(GF hn).1;simp only[hn] at h;have:=P8 L8 h;omega
  ·unfold mGr at h;split at h
   ·cases hs:sk (".":Str).cps.toList l with
    |none=>rw[hs] at h;cases h
    |some x=>
     obtain⟨_,y⟩:=x;have h2:y.length+1=l.length:=BN hs;simp only[hs] at h;cases h;omega
   ·exact V1 h
theorem dJ {kd b:Nat} {l:List UInt8} {p:Ln} (h:mPl kd b l=some (p,t)):t.length<l.length:=by
 unfold mPl at h;split at h
 ·cases hs:sk ("|\n":Str).cps.toList l with
  |none=>rw[hs] at h;cases h
  |some x=>
   obtain⟨_,y⟩:=x;have h2:y.length+2=l.length:=BN hs;simp only[hs] at h;cases h;omega
 ·cases hn:mLn b l with
  |none=>rw[hn] at h;cases h
  |some x=>
   obtain⟨n,y⟩:=x;have h1:=V0 hn;simp only[hn] at h;cases hm:mSt kd y with
   |none=>rw[hm] at h;cases h
   |some x=>
    obtain⟨st,u⟩:=x;have h2:=V2 hm;simp only[hm] at h;cases hs:sk ("\n":Str).cps.toList u with
    |none=>rw[hs] at h;cases h
    |some x=>
     obtain⟨_,v⟩:=x;have h3:v.length+1=u.length:=BN hs;simp only[hs] at h;cases h;omega
open PySem PySem.Spec PyProof.Rows L2
def jN (K:aa) (CL CT:ag) (H:Hp) (Q:VK) (E:XK):Option (List Ln)->Prop
 |some ps=>∀H' al,Same H H'->LnsA K CL H' al ps->Q (.ref al) H'
 |none=>∀z:Int,E (.ref CT) none (xH [("place",.int z)])
theorem P9 {K:aa} {res:Option (List Ln)} (k:jN K CL CT H Q E res) (h:res=none):∀z:Int,E (.ref CT) none (xH [("place",.int z)]):=by
 rw[h] at k;exact k
theorem jO {K:aa} {res:Option (List Ln)} {ps:List Ln} (k:jN K CL CT H Q E res) (h:res=some ps):∀H' al,Same H H'->LnsA K CL H' al ps->Q (.ref al) H':=by
 rw[h] at k;exact k
def pD (K:aa) (CL CT:ag):Sp:=λvs H Q E=>Ex2 λ(ta:ag) (cs:List UInt8)=>vs=[.ref ta]/\SqL K H ta (cs.map cV)/\cs.length<=100000/\jN K CL CT H Q E (mPc cs)
theorem Z9 (n:Int) (sa:ag):(lnf n sa).lookup ("is_bar":Str)=none:=Z4 _ _ (by decide +kernel) (by decide +kernel)
def WPc (K:aa) (C CL:ag) (ta r al:ag) (cs:List UInt8) (kd:Nat) (H:Hp) (M:Option (List Ln)) (m:Nat) (σ:L2.St) (H':Hp):Prop:=
 Ex5 λ(Aq:List UInt8) (acc:List Ln) (len g:Nat) (r5:Option V)=>σ=[some (.ref ta),some (.ref r),some (.int (kd:Nat)),some (.ref al),some (.int (len:Nat)),r5]/\Same H H'/\Rd K C H' r ta cs cs.length Aq/\LnsA K CL H' al acc/\acc.length<=512/\
  M=mLs kd g acc len Aq/\Aq.length<g/\m=Aq.length
section
variable {P:bb} {w:bv} {K:aa} {mg:Str->Option ah} {base:cr} {C CL CT:ag} {dz fz:Str}
theorem NL:FnScope ["text","reader","kind","lines","length","line"] ["text"] (AH GP):={}
theorem pE (F:Fun K "read_piece" "read_piece" GP f fd) (B:Blt mg) (R:RdE P w K mg base C CT dz) (T:LnC K CL) (gm:GI mg "MOST_LINES" 512) (MB:Mth P w K mg base 1 CL "is_bar" ["self"] (Z5 CL))
 (D1:Def P w K mg base 5 "read_kind" ["reader"] (GW K C CT (mKd kws 0) DQ)) (D2:Def P w K mg base 9 "read_line_pieces" ["reader","kind","before"] (pB K C CL CT)):FnOk P w K mg base (CX1 P w) 10 f fd ["text"] (pD K CL CT):=by
 refine F.okx NL λAv A outer s H vs Q E hr h=>?_;obtain⟨ta,cs,rfl,tx,hcs,k⟩:=h;refine⟨_,(AB (AW 1 NL (R.mkr.call hr AD (AA (pv 0) (AA AI (AA (AY AN (by rfl) B.len cu (AA (pv 0) AF)) AF)))))
  (AB (AW 2 NL (KG D1 hr AD (pv 1)))
  (AB (AW 3 NL (DS AF))
  (AB (AW 4 NL AI)
  (AB (B4 bo (D0 (JM R hr AD (pv 1)))
  (AB (AX (AO CP (AY AN (by rfl) B.len cu (AA (pv 3) AF)) (B0 gm) (AQ _)) (AC (BF R.X1 hr AD rfl (B1 R (pv 1)))) AM)
  (AB (AW 5 NL (D2.call hr AD (AA (pv 1) (AA (pv 2) (AA (pv 4) AF)))))
  (AB (AX (D0 (C5 (MB.call0 (pv 5) hr AD))) (AC (AW 4 NL (AT (pv 5) rfl))) AM)
  (AC (AZ (ID fh fm fq CZ (pv 3) (AA (pv 5) AF))))))))
  (AB (AX (AO CP (pv 4) AI (AQ _)) (AC (BF R.X1 hr AD rfl (AY AN (by rfl) B.len cu (AA (pv 0) AF)))) AM)
  (AC (AJ (pv 3))))))))),?_⟩
 and_intros
 refine⟨V.ref ta,rfl,V.ref ta,rfl,ta,_,rfl,.inl tx,λr dr nr nd hne=>⟨r,dr,ta,0,_,rfl,upd_same,λH1 h1 s1=>⟨rfl,?_⟩⟩⟩;have sm1:Same H H1:=BT nr nd s1 Sb.refl;have fin:∀{H2:Hp},Sb r H1 H2->Same H H2:=λs2=>BT nr nd s1 s2;have R1:Rd K C H1 r ta cs cs.length cs:=by
  refine⟨⟨dr,0,?_,?_,dq _⟩,sm1.seq tx,au _⟩
  ·rw[h1,ai];rfl
  ·rw[ff];rfl
 unfold mPc at k;refine⟨V.ref r,rfl,r,ta,cs,cs.length,cs,rfl,R1,?_⟩;cases hl:mKd kws 0 cs with
 |none=>exact AK rfl (P9 k (by rw[hl]))
 |some x=>
  obtain⟨kd,t⟩:=x;simp only[hl] at k;refine AL rfl λH2 R2 s2=>⟨dq _,λal nal=>?_⟩
  have sm2:=fin s2;obtain⟨M,hM⟩:∃M,M=mLs kd (t.length+1) [] 0 t:=⟨_,rfl⟩
  rw[←hM] at k;have sv:Same H2 (upd H2 al (.lst [])):=Same.upd nal;have nal0:H al=none:=by
   cases hq:H al with
   |none=>rfl
   |some o=>rw[sm2 al o hq] at nal;cases nal
  have ttx:ta≠al\/KTx K ta (cs.map cV):=HJ tx nal0;have nrb:∀{H':Hp} {b:ag} {o:HO},H b=some o->b≠r:=λe=>AG e nr;refine⟨WPc K C CL ta r al cs kd H M,⟨t.length,t,[],0,t.length+1,none,rfl,sm2.trans sv,R2.same sv,⟨[],upd_same,.nil⟩,by simp,hM,by omega,rfl⟩,?_⟩;rintro m σ H3 ⟨Aq,acc,len,g,r5,rfl,s3,R3,L3,hacc,em,hg,rfl⟩;obtain⟨g,rfl⟩:∃g',g=g'+1:=⟨g - 1,by omega⟩
  rw[mLs] at em;refine⟨V.ref r,rfl,r,ta,cs,cs.length,Aq,rfl,R3,?_⟩;rcases uI Aq.isEmpty with he|he
  ·rw[Ax he] at em;refine XA (c:=!Aq.isEmpty) (by rw[he];rfl) ⟨_,rfl,rfl,_,rfl,B9 (λh0=>?_) (λh0=>?_)⟩
   ·have e0:len=0:=by
     have q:=of_decide_eq_true h0;injection q with q;omega
    rw[Ax e0] at em;exact⟨V.ref ta,rfl,ta,_,rfl,.inl (s3.seq tx),_,rfl,P9 k em _⟩
   ·have e0:¬len=0:=λq=>h0 (decide_eq_true (by rw[q];rfl));rw[Ay e0] at em;exact⟨V.ref al,rfl,jO k em H3 al s3 L3⟩
  ·rw[Ay (by rw[he];decide)] at em;refine i0 (c:=!Aq.isEmpty) (by rw[he];rfl) ?_;obtain⟨as,a1,a2⟩:=id L3;have la:as.length=acc.length:=cg a2;refine⟨_,λ_ _ q=>q,V.ref al,rfl,al,_,rfl,.inl (SqL.of a1),rfl,_,rfl,B9 (λh0=>?_) (λh0=>?_)⟩
   ·have e0:acc.length=512:=by
     have q:=of_decide_eq_true h0;injection q with q;rw[ai] at q;omega
    rw[Ax e0] at em;exact⟨V.ref r,rfl,r,ta,cs,cs.length,Aq,rfl,R3,λz=>⟨z,rfl,P9 k em z⟩⟩
   ·have e0:¬acc.length=512:=λq=>h0 (decide_eq_true (by rw[ai,la,q];rfl));rw[Ay e0] at em;refine⟨V.ref r,rfl,V.int (kd:Nat),rfl,V.int (len:Nat),rfl,r,ta,cs,cs.length,Aq,kd,len,rfl,R3,hcs,?_⟩;obtain⟨dr3,p3,ir3⟩:=R3.ins;cases hm:mPl kd len Aq with
    |none=>simp only[hm] at em;exact XG rfl (P9 k em)
    |some x=>
     obtain⟨⟨n,st⟩,u⟩:=x;simp only[hm] at em;have Aw:=dJ hm;refine XH rfl λH4 x dx sa R4 s4 nsa h4 Lx=>?_;have L4:=L3.sb s4 ir3;obtain⟨as4,b1,b2⟩:=id L4;have lb:as4.length=acc.length:=cg b2;have nsal:sa≠al:=λq=>by rw[q,a1] at nsa;cases nsa
     have s04:Same H H4:=λb o e=>s4 b o (s3 b o e) (AG e nr);have tail:∀len':Nat,M=mLs kd g (acc++[(n,st)]) len' u->(KW (tBM K "list" LU (BO 3) (B6 (BO 5) EK))) { nx:=λσ' H'=>∃m',m'<Aq.length/\WPc K C CL ta r al cs kd H M m' σ' H',rt:=Q } [some (.ref ta),some (.ref r),some (.int (kd:Nat)),some (.ref al),some (.int (len':Nat)),some (.ref x)] H4:=by
      intro len' em';refine⟨V.ref al,rfl,.inl ⟨rfl,_,SqL.of b1⟩,V.ref x,rfl,al,_,_,rfl,rfl,b1,?_,?_⟩
      ·rw[ai,lb,bw];omega
      ·have su:Sb al H4 (upd H4 al (.lst (as4.map V.ref++[.ref x]))):=λb o eb hb=>by rw[AE hb];exact eb
       refine⟨u.length,Aw,u,acc++[(n,st)],len',g,_,rfl,?_,R4.app b1 ttx su,⟨as4++[x],by rw[upd_same,du];rfl,?_⟩,?_,em',by omega,rfl⟩
       ·exact λb o e=>su b o (s04 b o e) (AG e nal0)
       ·exact FM (F:=λx p=>LnB K CL al _ x p) (LnB.app (q:=(n,st)) ⟨dx,sa,nsal,h4,Lx⟩ su b1) (AR b2 λ_ _ q=>q.app su b1)
       ·rw[bq];simp;omega
     refine⟨V.ref x,rfl,x,dx,_,rfl,h4,Z9 _ _,x,dx,sa,(n:Nat),rfl,h4,_,rfl,?_⟩;by_cases hn:n=0
     ·rw[Ax hn] at em;refine XA (c:=!decide (((n:Nat):Int)=0)) (by rw[hn];rfl) (tail len em)
     ·rw[Ay hn] at em;refine i0 (c:=!decide (((n:Nat):Int)=0)) (by rw[decide_eq_false (by omega)];rfl) ⟨V.ref x,rfl,x,CL,dx,_,_,rfl,h4,T.cl,T.nl,Z3 _ _,tail n em⟩
end
open PySem PySem.Spec PyProof.Rows L2
def plc (fr co ba:List (List Int)) (s:Stop):Bool:=if s.course<=co.length then decide (s.fret<=fr.length) else decide (s.course<=co.length+ba.length)&&decide (s.fret=0)
def EI (pl:Stop->Bool):Nat->List Ln->Option (Nat×Nat)
 |_,[]=>none
 |i,(_,st)::r=>match st.find? λs=>!pl s with
  |some s=>some (i,s.course)
  |none=>EI pl (i+1) r
def mfs (l c:Int):List (Str×V):=[("answer",.int (-3)),("line",.int l),("course",.int c)]
def pF (CM:ag) (H:Hp) (Q:VK) (E:XK):Option (Nat×Nat)->Prop
 |none=>∀H',Same H H'->Q .non H'
 |some (l,c)=>E (.ref CM) none (xH (mfs (l:Nat) (c:Nat)))
def fO (K:aa) (CI CL CM:ag):Sp:=λvs H Q E=>Ex9 λ(ia af ac ab al:ag) (fr co ba:List (List Int)) (ps:List Ln)=>vs=[.ref ia,.ref al]/\InA K CI H ia af ac ab fr co ba/\LnsA K CL H al ps/\pF CM H Q E (EI (plc fr co ba) 0 ps)
def pG (K:aa) (C2:ag):Sp:=λvs H Q E=>Ex4 λ(ia ta:ag) (xs ys:List V)=>vs=[.ref ia,.ref ta]/\SqL K H ia xs/\SqL K H ta ys/\(if 4096<xs.length\/65536<ys.length then E (.ref C2) none (xH [("answer",.int (-2))]) else Q .non H)
theorem jP (af ac ab:ag):(ifs af ac ab).lookup ("has_place":Str)=none:=TR _ _ _ (by decide +kernel) (by decide +kernel) (by decide +kernel)
theorem jQ {CM:ag} {res:Option (Nat×Nat)} (k:pF CM H Q E res) (h:res=none):∀H',Same H H'->Q .non H':=by rw[h] at k;exact k
theorem KO {pl:Stop->Bool}:∀{ps:List Ln} {i j:Nat},j<=ps.length->(∀(m:Nat) (p:Ln),m<j->ps[m]? =some p->(p.2.find? λs=>!pl s)=none)->EI pl i ps=EI pl (i+j) (ps.drop j)
 |ps,i,0,_,_=>by rw[List.drop_zero];rfl
 |[],i,j+1,h,_=>by simp at h
 |(n,st)::ps,i,j+1,h,hq=>by
  have h0:=hq 0 (n,st) (by omega) rfl;rw[EI,h0];have:=KO (pl:=pl) (ps:=ps) (i:=i+1) (j:=j) (by simpa using h) λm p hm hp=>hq (m+1) p (by omega) (by simpa using hp);rw[wo,show i+(j+1)=i+1+j by omega];exact this
theorem L9 {e:Expr} {ta:TE} {fld:Str} (K:aa) (he:PE X e ta) (h:X.K=K:=by rfl) (hb:jr e fld X.env (eval e X.env)=eval e X.env:=by rfl):PE X (.Attribute e fld pos) (NX K ta fld):=h▸AT he hb
section
variable {P:bb} {w:bv} {K:aa} {mg:Str->Option ah} {base:cr} {C CI CL CM CT:ag} {dz fz:Str}
theorem V3:FnScope ["instrument","lines","number","line","stop"] ["instrument","lines"] (AH HC):={}
theorem pH (F:Fun K "check_fit" "check_fit" HC f fd) (B:Blt mg) (T:InC K CI) (TL:LnC K CL) (MH:Mth P w K mg base 2 CI "has_place" ["self","course","fret"] (oP K CI)) (XM:XMr P w K mg base 2 CM "Misfit" ["self","line","course"] (iH CM)):
 FnOk P w K mg base (CX1 P w) 4 f fd ["instrument","lines"] (fO K CI CL CM):=by
 refine F.okx V3 λAv A outer s H vs Q E hr h=>?_;obtain⟨ia,af,ac,ab,al,fr,co,ba,ps,rfl,I,L,k⟩:=h;refine⟨_,(AC (B5 bo rfl (LV (by rfl) B.enum (AA (pv 1) AF)) (IJ rfl (BZ (DT 2 V3) (BZ (DT 3 V3) GK)))
  (AC (B5 bo rfl (DG (AT (pv 3) rfl)) (DT 4 V3)
   (AC (AX (D0 (C5 (MH.call (pv 0) hr AD (AA (BI (FL K) (pv 4) AI (λ_ _=>rfl)) (AA (BI (FL K) (pv 4) AI (λ_ _=>rfl)) AF)))))
    (AC (JF AD rfl (XM.call hr.u AD (AA (pv 2) (AA (BI (FL K) (pv 4) AI (λ_ _=>rfl)) AF))))) AM)))))),?_⟩
 subst_eqs
 obtain⟨as,a1,a2⟩:=id L;have la:as.length=ps.length:=cg a2;obtain⟨M,hM⟩:∃M,M=EI (plc fr co ba) 0 ps:=⟨_,rfl⟩
 rw[←hM] at k;obtain⟨dx,i1⟩:=I.at_;refine⟨V.ref al,rfl,al,_,rfl,SqL.of a1,GM (n:=ps.length) (λi σ H'=>Same H H'/\(Ex3 λr2 r3 r4=>σ=[some (.ref ia),some (.ref al),r2,r3,r4])/\∀(m:Nat) (p:Ln),m<i->ps[m]? =some p->(p.2.find? λs=>!plc fr co ba s)=none) ⟨Same.refl _,⟨none,none,none,rfl⟩,λm p hm=>by omega⟩ ?_ ?_ ?_ ?_⟩
 ·rintro i σ H' hi ⟨s1,_⟩;exact⟨_,.ref (as[i]'(by omega)),SqL.of (s1 _ _ a1),by rw[az,am (by omega)];rfl⟩
 ·rintro σ H' ⟨s1,_⟩;exact⟨_,SqL.of (s1 _ _ a1),by rw[ai,la];exact au _⟩
 ·rintro i v σ H1 H2 hi ⟨s1,⟨r2,r3,r4,rfl⟩,hall⟩ ⟨T',xv,rfl,nT,rfl,hxv⟩;have hxv':=hxv _ (SqL.of (s1 _ _ a1));rw[az] at hxv';cases ea:as[i]? with
  |none=>rw[ea] at hxv';cases hxv'
  |some x=>
   rw[ea] at hxv';cases hxv';obtain⟨p,hp,dl,sa,_,hx,Ls⟩:=BD a2 ea;obtain⟨n,st⟩:=p;have s2:Same H (upd H1 T' (.tup [.int (i:Nat),.ref x])):=s1.trans (Same.upd nT);have hx2:=s2 _ _ hx;have Ls2:=(Same.kp s2).lt Ls;obtain⟨bs,b1,b2⟩:=id Ls2;have lb:bs.length=st.length:=by rw[cg b2,ai]
   have Aw:i<ps.length:=hi;have eM:M=EI (plc fr co ba) i ((n,st)::ps.drop (i+1)):=by
    rw[hM,KO (i:=0) (j:=i) (by omega) hall,oe,iq Aw,(aw.mp hp).2]
   refine⟨T',_,rfl,SqT.of upd_same,rfl,_,_,rfl,_,_,rfl,rfl,?_⟩;refine⟨V.ref x,rfl,x,CL,dl,_,_,rfl,hx2,TL.cl,TL.ns,VZ _ _,sa,rfl,⟨_,SqL.of b1⟩,DD (K:=K) (a:=sa) (xs:=bs.map V.ref) (λj σ H'=>Same (upd H1 T' (.tup [.int (i:Nat),.ref x])) H'/\(∃r4,σ=[some (.ref ia),some (.ref al),some (.int (i:Nat)),some (.ref x),r4])/\∀s∈st.take j,plc fr co ba s=true) ⟨Same.refl _,⟨_,rfl⟩,by simp⟩ ?_ ?_ ?_⟩
   ·rintro j σ H' _ ⟨s3,_⟩;exact SqL.of (s3 _ _ b1)
   ·rintro j y σ H3 hj ⟨s3,⟨r4,rfl⟩,ha⟩
    subst_eqs
    rw[az] at hj;cases eb:bs[j]? with
    |none=>rw[eb] at hj;cases hj
    |some b=>
     rw[eb] at hj;cases hj;obtain⟨q,hq,hb⟩:=BD b2 eb;rw[az] at hq;cases es:st[j]? with
     |none=>rw[es] at hq;cases hq
     |some s=>
      rw[es] at hq;cases hq;have s23:=s2.trans s3;have I3:=I.kp (Same.kp s23);have i3:=s23 _ _ i1;have hb3:=s3.tup hb;refine⟨V.ref ia,rfl,ia,dx,_,rfl,i3,jP _ _ _,V.ref b,rfl,b,_,0,V.int (s.course:Nat),rfl,rfl,hb3,rfl,V.ref b,rfl,b,_,1,V.int (s.fret:Nat),rfl,rfl,hb3,rfl,ia,af,ac,ab,fr,co,ba,(s.course:Nat),(s.fret:Nat),rfl,I3,_,rfl,?_⟩;have ep:(if((s.course:Nat):Int)<=co.length then decide (((s.fret:Nat):Int)<=fr.length) else decide (((s.course:Nat):Int)<=((co.length+ba.length:Nat):Int))&&decide (((s.fret:Nat):Int)=0))=plc fr co ba s:=by
       unfold plc;by_cases hc:s.course<=co.length
       ·rw[Ax hc,Ax (by omega),decide_eq_decide];omega
       ·rw[Ay hc,Ay (by omega)];congr 1
        ·rw[decide_eq_decide];omega
        ·rw[decide_eq_decide];omega
      rw[ep];cases hpl:plc fr co ba s with
      |true=>
       refine BH ⟨s3,⟨_,rfl⟩,λs' hs'=>?_⟩;rw[dk,es] at hs';rcases cn.mp hs' with hs'|hs'
       ·exact ha s' hs'
       ·have:s'=s:=by simpa using hs'
        rw[this];exact hpl
      |false=>
       have ef:(st.find? λs=>!plc fr co ba s)=some s:=by
        have hj':j<st.length:=(aw.mp es).1;have ed:st=st.take j++s::st.drop (j+1):=by
         rw[←(aw.mp es).2, ←iq hj',iy]
        rw[ed,ou];have e0:((st.take j).find? λs=>!plc fr co ba s)=none:=by
         rw[kx];intro s' hs';rw[ha s' hs'];decide
        rw[e0,Option.none_or,List.find?_cons_of_pos (by rw[hpl];rfl)]
       rw[eM,EI,ef] at k;refine BQ ⟨V.int (i:Nat),rfl,V.ref b,rfl,b,_,0,V.int (s.course:Nat),rfl,rfl,hb3,rfl,(by show 2<=100;decide),λa ha'=>⟨a,(i:Nat),(s.course:Nat),rfl,upd_same,λH4 ⟨⟨d,dn,d0,e1,e2⟩,_⟩=>⟨rfl,a,CM,_,rfl,⟨d,dn,e1,e2⟩,XM.2.1,k⟩⟩⟩
   ·rintro σ H3 ⟨s3,⟨r4,rfl⟩,ha⟩;refine⟨s2.trans s3,⟨_,_,_,rfl⟩,λm q hm hq=>?_⟩;by_cases hmi:m=i
    ·subst hmi;rw[hp] at hq;cases hq;rw[ai,lb,ff] at ha;rw[kx];intro s' hs';rw[ha s' hs'];decide
    ·exact hall m q (by omega) hq
 ·rintro σ H1 ⟨s1,⟨r2,r3,r4,rfl⟩,hall⟩;refine jQ k ?_ H1 s1;rw[hM,KO (i:=0) (j:=ps.length) (au _) hall,uZ];rfl
theorem pI:FnScope ["i","t"] ["i","t"] (AH F5):={}
theorem pJ {C2:ag} (F:Fun K "check_sizes" "check_sizes" F5 f fd) (B:Blt mg) (g1:GI mg "MOST_INSTRUMENT_BYTES" 4096) (g2:GI mg "MOST_PIECE_BYTES" 65536) (X2:XMr P w K mg base 2 C2 "TooLong" ["self"] (KC C2 (-2))):
 FnOk P w K mg base (CX1 P w) 4 f fd ["i","t"] (pG K C2):=by
 refine F.okx pI λAv A outer s H vs Q E hr h=>?_;obtain⟨ia,ta,xs,ys,rfl,hx,hy,k⟩:=h;refine⟨_,(AC (AX (N7 (AO E1 (AY AN (by rfl) B.len cu (AA (pv 0) AF)) (B0 g1) (AQ _)) (JV (AO E1 (AY AN (by rfl) B.len cu (AA (pv 1) AF)) (B0 g2) (AQ _)))).pt
  (AC (JF AD rfl (X2.call0 hr.u AD))) AM)),?_⟩
 subst_eqs
 have fail:(4096<xs.length\/65536<ys.length)->∀H',(Y1 K E (MY C2 (KC C2 (-2)) E EK)) { nx:=λ_ H'=>Q .non H',rt:=Q } [some (.ref ia),some (.ref ta)] H':=λhq H'=>by
  rw[Ax hq] at k;refine⟨by show 0<=100;decide,λa ha=>⟨a,rfl,upd_same,λH4 ⟨⟨d,dn,d0,e1,e2⟩,_⟩=>⟨rfl,a,C2,_,rfl,⟨d,dn,e1,e2⟩,X2.2.1,k⟩⟩⟩
 refine⟨V.ref ia,rfl,ia,xs,rfl,.inl hx,_,_,rfl,rfl,_,rfl,B9 (λh0=>?_) (λh0=>?_)⟩
 ·have q:4096<xs.length:=by
   have:(4096:Int)<(xs.length:Int):=by simpa using h0
   omega
  exact BQ (fail (.inl q) _)
 ·have q:¬4096<xs.length:=by
   have:¬(4096:Int)<(xs.length:Int):=by simpa using h0
   omega
  refine⟨V.ref ta,rfl,ta,ys,rfl,.inl hy,_,_,rfl,rfl,_,rfl,B9 (λh1=>?_) (λh1=>?_)⟩
  ·have q2:65536<ys.length:=by
    have:(65536:Int)<(ys.length:Int):=by simpa using h1
    omega
   exact fail (.inr q2) _
  ·have q2:¬65536<ys.length:=by
    have:¬(65536:Int)<(ys.length:Int):=by simpa using h1
    omega
   rw[Ay (by rintro (z|z);exact q z;exact q2 z)] at k;exact k
end
end Lt
end
section
namespace L2
open PySem PySem.Spec PyProof.Rows
theorem RV {X:Cx} {x:Str} {Ch:ag} {np pos:Pos} {b0:dm} {suite:List dm} {Aq:List ExceptHandler} {tb:ag->TS} {tr:TH} (hg:Gl X x) (hm:X.mg x=some (.ref Ch)) (hs:∀a,X.Ok->PSs (X.hd a) (b0::suite) (tb a)) (hr:PH X Aq tr) (hd:(x==("__debug__":Str))=false:=by decide):
 PH X (.ExceptHandler (some (.Name x np)) none (b0::suite) pos::Aq) (e6 X.K Ch tb tr):=by
 intro Ap s σ H D a C fs cx I n h;exact cX hg hm (λa=>hs a I.ok) hr hd Ap s σ H D a C fs cx I n h
end L2
namespace Lt
open PySem PySem.Spec PyProof.Rows L2
variable {f a C CR CT r ta CI CL CN:ag} {fd:ez} {X:Cx} {x:List Int} {i n e p q:Nat} {pos:Pos} {z dz fz:Str} {xs:List V} {H H' H1:Hp} {E:XK} {cs t ci ct:List UInt8} {α β:Type} {Q:VK} {ls fr co ba:List (List Int)} {P:bb} {w:bv} {h:cr} {ps:List Str}
theorem YX {fs gs:List (Str×V)} (h:xH fs=xH gs):fs=gs:=by
 have:=congrFun h 0;unfold xH at this;simp at this;exact this
def pK (K:aa) (CI C6:ag) (H:Hp) (Q:VK) (E:XK):Option St3->Prop
 |some (fr,co,ba)=>∀H' ia af ac ab,Same H H'->InA K CI H' ia af ac ab fr co ba->Q (.ref ia) H'
 |none=>∀b:ag,E (.ref C6) (some b) (xH [("answer",.int (-6))])
def pL (K:aa) (CI C6:ag) (dz fz:Str):Sp:=λvs H Q E=>Ex2 λ(ta:ag) (cs:List UInt8)=>vs=[.ref ta]/\SqL K H ta (cs.map cV)/\pK K CI C6 H Q E (JO dz fz cs)
def pM (K:aa) (CL C8:ag) (H:Hp) (Q:VK) (E:XK):Option (List Ln)->Prop
 |some ps=>∀H' al,Same H H'->LnsA K CL H' al ps->Q (.ref al) H'
 |none=>∀b:ag,E (.ref C8) (some b) (xH [("answer",.int (-8))])
def pN (K:aa) (CL C8:ag):Sp:=λvs H Q E=>Ex2 λ(ta:ag) (cs:List UInt8)=>vs=[.ref ta]/\SqL K H ta (cs.map cV)/\cs.length<=100000/\pM K CL C8 H Q E (mPc cs)
theorem aA {e:Expr} {ta:TE} {fld:Str} (K:aa) (he:PE X e ta) (h:X.K=K:=by rfl) (hb:jr e fld X.env (eval e X.env)=eval e X.env:=by rfl):PE X (.Attribute e fld pos) (VB K ta fld):=h▸cW he hb
section
variable {P:bb} {w:bv} {K:aa} {mg:Str->Option ah} {base:cr} {C CI CL CM CT C6 C8:ag} {dz fz:Str}
theorem pO:FnScope ["text"] ["text"] (AH EO):={}
theorem pP (F:Fun K "instrument_of" "instrument_of" EO f fd) (hmT:mg "TextFault"=some (.ref CT)) (hx:my K (.ref CT) (.ref CT)=some true) (D1:Def P w K mg base 12 "read_instrument" ["text"] (fI K CI CT dz fz))
 (X6:XMr P w K mg base 2 C6 "NoInstrument" ["self"] (KC C6 (-6))):FnOk P w K mg base (CX1 P w) 13 f fd ["text"] (pL K CI C6 dz fz):=by
 refine F.okx pO λAv A outer s H vs Q E hr h=>?_;obtain⟨ta,cs,rfl,tx,k⟩:=h;refine⟨_,(AC (S4 (Eb:=λv cx _=>v= .ref CT/\cx=none/\JO dz fz cs=none) rfl rfl (λpn E' o=>(AC (AJ (D1.call hr o (AA (pv 0) AF)))))
  (RV (by rfl) hmT (λa ok=>(AC (JG (b:=a) (Out.hd AD ok rfl rfl) rfl (X6.call0 (hr.u.mark _) (Out.hd AD ok rfl rfl))))) S1))),?_⟩
 subst_eqs
 refine⟨⟨V.ref ta,rfl,ta,cs,rfl,tx,?_⟩,λa C' fs cx σ' H1 nt eb hl=>?_⟩
 ·cases hm:JO dz fz cs with
  |none=>exact λz=>⟨rfl,rfl,rfl⟩
  |some x=>
   obtain⟨fr,co,ba⟩:=x;rw[hm] at k;exact k
 ·obtain⟨eC,rfl,hm⟩:=eb;have eC':C'=CT:=by injection eC
  subst eC';refine⟨true,hx,λ_ H2 n2=>?_,λq=>by cases q⟩;obtain⟨T,dd,n1,n3,n4,ea,ed,et⟩:=n2;refine⟨by show 0<=100;decide,λa' ha'=>⟨a',rfl,upd_same,λH4 ⟨⟨d,dn,d0,e1,e2⟩,kp⟩=>⟨rfl,a',C6,_,rfl,⟨d,dn,e1,e2⟩,X6.2.1,?_,⟨C',_,_,kp a _ (by rw[AE (AG ea ha')];exact ea) (AG ea ha')⟩,?_⟩⟩⟩
  ·exact cq (AG ea ha')
  ·rw[hm] at k;exact k a
theorem pQ:FnScope ["text"] ["text"] (AH IT):={}
theorem pR (F:Fun K "piece_of" "piece_of" IT f fd) (hmT:mg "TextFault"=some (.ref CT)) (hx:my K (.ref CT) (.ref CT)=some true) (D1:Def P w K mg base 10 "read_piece" ["text"] (pD K CL CT))
 (X8:XMr P w K mg base 2 C8 "NoPiece" ["self"] (KC C8 (-8))):FnOk P w K mg base (CX1 P w) 13 f fd ["text"] (pN K CL C8):=by
 refine F.okx pQ λAv A outer s H vs Q E hr h=>?_;obtain⟨ta,cs,rfl,tx,hcs,k⟩:=h;refine⟨_,(AC (S4 (Eb:=λv cx _=>v= .ref CT/\cx=none/\mPc cs=none) rfl rfl (λpn E' o=>(AC (AJ (D1.call hr o (AA (pv 0) AF)))))
  (RV (by rfl) hmT (λa ok=>(AC (JG (b:=a) (Out.hd AD ok rfl rfl) rfl (X8.call0 (hr.u.mark _) (Out.hd AD ok rfl rfl))))) S1))),?_⟩
 subst_eqs
 refine⟨⟨V.ref ta,rfl,ta,cs,rfl,tx,hcs,?_⟩,λa C' fs cx σ' H1 nt eb hl=>?_⟩
 ·cases hm:mPc cs with
  |none=>exact λz=>⟨rfl,rfl,rfl⟩
  |some x=>
   rw[hm] at k;exact k
 ·obtain⟨eC,rfl,hm⟩:=eb;have eC':C'=CT:=by injection eC
  subst eC';refine⟨true,hx,λ_ H2 n2=>?_,λq=>by cases q⟩;obtain⟨T,dd,n1,n3,n4,ea,ed,et⟩:=n2;refine⟨by show 0<=100;decide,λa' ha'=>⟨a',rfl,upd_same,λH4 ⟨⟨d,dn,d0,e1,e2⟩,kp⟩=>⟨rfl,a',C8,_,rfl,⟨d,dn,e1,e2⟩,X8.2.1,?_,⟨C',_,_,kp a _ (by rw[AE (AG ea ha')];exact ea) (AG ea ha')⟩,?_⟩⟩⟩
  ·exact cq (AG ea ha')
  ·rw[hm] at k;exact k a
theorem V4 {kd:Nat}:∀{f:Nat} {acc ps:List Ln} {len:Nat} {l:List UInt8},acc.length<=512->mLs kd f acc len l=some ps->ps.length<=512
 |0,_,_,_,_,_,h=>by rw[mLs] at h;cases h
 |f+1,acc,ps,len,l,ha,h=>by
  rw[mLs] at h;split at h
  ·split at h
   ·cases h
   ·cases h;exact ha
  ·split at h
   ·cases h
   ·cases hm:mPl kd len l with
    |none=>rw[hm] at h;cases h
    |some x=>
     obtain⟨⟨n,st⟩,t⟩:=x;simp only[hm] at h;exact V4 (by rw[bq];simp;omega) h
theorem V5 {ps:List Ln} (h:mPc cs=some ps):ps.length<=512:=by
 unfold mPc at h;cases hk:mKd kws 0 cs with
 |none=>rw[hk] at h;cases h
 |some x=>
  obtain⟨kd,t⟩:=x;simp only[hk] at h;exact V4 (by simp) h
end
open PySem PySem.Spec PyProof.Rows L2
def tbf (ia al:ag):List (Str×V):=[("instrument",.ref ia),("lines",.ref al)]
theorem fP (ia al:ag):(tbf ia al).lookup ("instrument":Str)=some (.ref ia):=rfl
theorem aB (ia al:ag):(tbf ia al).lookup ("lines":Str)=some (.ref al):=rfl
structure TbC (K:aa) (CB:ag):Prop where
 cl:Cls K CB
 ni:NoAttr K CB "instrument"
 nl:NoAttr K CB "lines"
structure TbA (K:aa) (CI CL CB:ag) (H:Hp) (x:ag) (s:St3) (ps:List Ln):Prop where
 ex:Ex6 λdx ia af ac ab al=>H x=some (.ins CB dx (tbf ia al))/\InA K CI H ia af ac ab s.1 s.2.1 s.2.2/\LnsA K CL H al ps
 le:ps.length<=512
theorem TbA.same {K:aa} {CB:ag} {x:ag} {s:St3} {ps:List Ln} (T:TbA K CI CL CB H x s ps) (e:Same H H'):TbA K CI CL CB H' x s ps:=
 let ⟨⟨dx,ia,af,ac,ab,al,h1,h2,h3⟩,l⟩:=T;⟨⟨dx,ia,af,ac,ab,al,e _ _ h1,h2.kp (Same.kp e),h3.same e⟩,l⟩
def jR (CB:ag):Sp:=λvs H Q _=>Ex4 λ(x dx ia al:ag)=>vs=[.ref x,.ref ia,.ref al]/\H x=some (.ins CB dx [])/\∀H',H' x=some (.ins CB dx (tbf ia al))->Sb x H H'->Q .non H'
def Rfl (cl:Int->ag) (E:XK) (z:Int):Prop:=∀cx,E (.ref (cl z)) cx (xH [("answer",.int z)])
def mTb (dz fz:Str) (ci ct:List UInt8):Except Int (St3×List Ln):=match JO dz fz ci with
 |none=>.error (-6)
 |some s=>match mPc ct with
  |none=>.error (-8)
  |some ps=>.ok (s,ps)
def GG (dz fz:Str) (ci ct:List UInt8):Except Int (St3×List Ln):=if 4096<ci.length\/65536<ct.length then .error (-2) else mTb dz fz ci ct
def pS (K:aa) (CI CL CB:ag) (cl:Int->ag) (H:Hp) (Q:VK) (E:XK):Except Int (St3×List Ln)->Prop
 | .ok (s,ps)=>∀H' x,Same H H'->TbA K CI CL CB H' x s ps->Q (.ref x) H'
 | .error z=>Rfl cl E z
theorem T5 {K:aa} {CB:ag} {cl:Int->ag} {r:Except Int (St3×List Ln)} {z:Int} (k:pS K CI CL CB cl H Q E r) (h:r= .error z):Rfl cl E z:=by rw[h] at k;exact k
def dL (K:aa) (CI CL CB:ag) (cl:Int->ag) (m:List UInt8->List UInt8->Except Int (St3×List Ln)):Sp:=λvs H Q E=>Ex4 λ(ia ta:ag) (ci ct:List UInt8)=>vs=[.ref ia,.ref ta]/\SqL K H ia (ci.map cV)/\SqL K H ta (ct.map cV)/\ct.length<=100000/\pS K CI CL CB cl H Q E (m ci ct)
section
variable {P:bb} {w:bv} {K:aa} {mg:Str->Option ah} {base:cr} {CI CL CB:ag} {cl:Int->ag} {dz fz:Str}
theorem jS:FnScope ["self","instrument","lines"] ["self","instrument","lines"] (AH D9):={}
theorem jT (F:Fun K "__init__" "Tablature.__init__" D9 f fd) (T:TbC K CB):FnOk P w K mg base (CX1 P w) 1 f fd ["self","instrument","lines"] (jR CB):=by
 refine F.okx jS λAv A outer s H vs Q E hr h=>?_;obtain⟨x,dx,ia,al,rfl,hx,k⟩:=h;refine⟨_,(AB (CQ (pv 0) (pv 1) rfl)
  (AC (CQ (pv 0) (pv 2) rfl))),?_⟩
 and_intros
 refine⟨_,rfl,_,rfl,x,CB,dx,[],rfl,hx,T.cl,T.ni,(by decide),?_⟩;refine⟨_,rfl,_,rfl,x,CB,dx,_,rfl,upd_same,T.cl,T.nl,(by show 1<1000;decide),?_⟩;exact k _ upd_same λb o e hb=>by rw[AE hb,AE hb];exact e
theorem aC:FnScope ["i","t","instrument"] ["i","t"] (AH FA):={}
theorem jU (F:Fun K "tablature_of" "tablature_of" FA f fd) (M:Mkr P w K mg base 1 CB "Tablature" ["self","instrument","lines"] (jR CB))
 (D2:Def P w K mg base 13 "instrument_of" ["text"] (pL K CI (cl (-6)) dz fz)) (D3:Def P w K mg base 13 "piece_of" ["text"] (pN K CL (cl (-8)))):FnOk P w K mg base (CX1 P w) 14 f fd ["i","t"] (dL K CI CL CB cl (mTb dz fz)):=by
 refine F.okx aC λAv A outer s H vs Q E hr h=>?_;obtain⟨ia,ta,ci,ct,rfl,hi,ht,hct,k⟩:=h;refine⟨_,(AB (AW 2 aC (D2.call hr AD (AA (pv 0) AF)))
  (AC (AJ (M.call hr AD (AA (pv 2) (AA (D3.call hr AD (AA (pv 1) AF)) AF)))))),?_⟩
 and_intros
 refine⟨V.ref ia,rfl,ia,ci,rfl,hi,?_⟩;unfold mTb at k;cases hm:JO dz fz ci with
 |none=>exact λb=>T5 k (by rw[hm]) _
 |some x=>
  obtain⟨fr,co,ba⟩:=x;simp only[hm] at k;intro H1 xa af ac ab s1 I1;refine⟨V.ref xa,rfl,V.ref ta,rfl,ta,ct,rfl,s1.seq ht,hct,?_⟩;cases hp:mPc ct with
  |none=>exact λb=>T5 k (by rw[hp]) _
  |some ps=>
   simp only[hp] at k;intro H2 al s2 L2 x dx nx nd hne;refine⟨x,dx,xa,al,rfl,upd_same,λH3 h3 s3=>⟨rfl,?_⟩⟩;have s23:Same H2 H3:=BT nx nd s3 Sb.refl;exact k H3 x ((s1.trans s2).trans s23) ⟨⟨dx,xa,af,ac,ab,al,h3,(I1.kp (Same.kp s2)).kp (Same.kp s23),L2.same s23⟩,V5 hp⟩
theorem jV:FnScope ["i","t"] ["i","t"] (AH EA):={}
theorem jW (F:Fun K "read_tablature" "read_tablature" EA f fd) (D1:Def P w K mg base 4 "check_sizes" ["i","t"] (pG K (cl (-2)))) (D2:Def P w K mg base 14 "tablature_of" ["i","t"] (dL K CI CL CB cl (mTb dz fz))):
 FnOk P w K mg base (CX1 P w) 15 f fd ["i","t"] (dL K CI CL CB cl (GG dz fz)):=by
 refine F.okx jV λAv A outer s H vs Q E hr h=>?_;obtain⟨ia,ta,ci,ct,rfl,hi,ht,hct,k⟩:=h;refine⟨_,(AB (AZ (D1.call hr AD (AA (pv 0) (AA (pv 1) AF))))
  (AC (AJ (D2.call hr AD (AA (pv 0) (AA (pv 1) AF)))))),?_⟩
 and_intros
 refine⟨V.ref ia,rfl,V.ref ta,rfl,ia,ta,_,_,rfl,hi,ht,?_⟩;rw[ai,ai];unfold GG at k;by_cases hl:4096<ci.length\/65536<ct.length
 ·rw[Ax hl] at k ⊢;exact T5 k rfl _
 ·rw[Ay hl] at k ⊢;exact⟨V.ref ia,rfl,V.ref ta,rfl,ia,ta,ci,ct,rfl,hi,ht,hct,k⟩
end
structure RfC (K:aa) (CR:ag) (cl:Int->ag) (Z:List Int):Prop where
 r:∀z∈Z,my K (.ref (cl z)) (.ref CR)=some true
 x:∀z∈Z,XCls K (cl z)
 a:∀z∈Z,NoAttr K (cl z) "answer"
open PySem PySem.Spec PyProof.Rows L2
theorem dM {K:aa} {σ':L2.St} {j:Nat} {fs:List (Str×V)} {cx:Option ag} {fl:ah} {H2:Hp} {z:Int} {D:Ends} {ans:List Int} (hl:j<σ'.length) (n2:Noted H2 a C fs cx fl) (x:XCls K C) (na:NoAttr K C "answer") (l:fs.lookup ("answer":Str)=some (.int z))
 (ha:ans=[z]) (k:∀H' l,H' l=some (.lst (ans.map V.int))->D.rt (.ref l) H'):(QU (gT (B6 (VB K (BO j) "answer") EK))) D (σ'.set j (some (.ref a))) H2:=by
 obtain⟨T,dd,n1,n3,n4,eo,ed,et⟩:=n2;have e5:(σ'.set j (some (V.ref a)))[j]? =some (some (V.ref a)):=by rw[ng hl]
 refine⟨V.ref a,e5,a,C,dd,_,_,_,_,rfl,eo,ed,x,na,l,(by rw[bw];show 1<=16777216;decide),λp hp=>?_⟩;refine k _ p ?_;rw[upd_same,ha];rfl
theorem jX {z:Int} (h:GG dz fz ci ct= .error z):z∈([-2, -6, -8]:List Int):=by
 unfold GG mTb at h;split at h
 ·cases h;simp
 ·split at h
  ·cases h;simp
  ·split at h
   ·cases h;simp
   ·cases h
def dO (p:LuteTab.Piece):Prop:=∀n l,LuteTab.Line.moment n l∈p->0<n
def IX (c:Nat) (l:List Stop):Bool:=l.any λ(s:Stop)=>s.course==c
def EY (ring c:Nat):List Ln->Nat
 |[]=>0
 |(n,l)::r=>if(ring=2/\n=0)\/IX c l=true then 0 else EY ring c r+1
def mEL (ring:Nat) (ps:List Ln) (line c:Nat):Nat:=if ring=0 then line+1 else line+1+EY ring c (ps.drop (line+1))
def FD:Nat->Nat->List Ln->List (Nat×Nat)
 |_,_,[]=>[]
 |i,x,(n,l)::r=>if n=0 then(i,x)::FD (i+1) x r else FD (i+1) (x+n) r
theorem QA:∀(p:LuteTab.Piece) (i x:Nat),dO p->FD i x (p.map B8)=LuteSound.barsFrom i x p
 |[],_,_,_=>rfl
 | .bar::r,i,x,h=>by
   rw[LuteSound.barsFrom, ←QA r _ _ λn l q=>h n l (aq _ q)];rfl
 | .moment n l::r,i,x,h=>by
   have h0:=h n l bc;rw[LuteSound.barsFrom, ←QA r _ _ λn l q=>h n l (aq _ q)];show FD i x ((n,l)::r.map B8)=_;rw[FD,Ay (by omega)]
theorem HL:∀(a b:List Ln) (i x:Nat),CW i x (a++b)=CW i x a++CW (i+a.length) (x+uL a a.length) b
 |[],b,i,x=>by simp[CW,TZ]
 |(n,l)::a,b,i,x=>by
  rw[qc,CW,HL a b,CW,uE,dc,C0];congr 3
  ·omega
  ·show x+n+_=x+(n+_);omega
theorem HM:∀(a b:List Ln) (i x:Nat),FD i x (a++b)=FD i x a++FD (i+a.length) (x+uL a a.length) b
 |[],b,i,x=>by simp[FD,TZ]
 |(n,l)::a,b,i,x=>by
  rw[qc,FD,FD,HM a b,HM a b,dc,C0];by_cases h:n=0
  ·subst h;rw[Ax rfl,Ax rfl,qc];congr 3
   ·omega
   ·show x+_=x+(0+_);omega
  ·rw[Ay h,Ay h];congr 2
   ·omega
   ·show x+n+_=x+(n+_);omega
theorem GH:∀{ps:List Ln} {i x:Nat} {b:Nat×Nat},b∈FD i x ps->i<=b.1/\b.1<i+ps.length/\x<=b.2
 |[],i,x,b,h=>by simp[FD] at h
 |(n,l)::r,i,x,b,h=>by
  rw[FD] at h;rw[dc];split at h
  ·rcases bp.mp h with rfl|h
   ·exact⟨au _,by omega,au _⟩
   ·have:=GH h;omega
  ·have:=GH h;omega
def agn (c u:Nat) (k:List Sk):Nat:=match k.find? λ(q:Sk)=>q.halt_.course==c with
 |some q=>q.begins
 |none=>u
theorem RW (c i x y:Nat) (l:List Stop):(l.map λ(s:Stop)=>(⟨i,x,y,s⟩:Sk)).find? (λ(q:Sk)=>q.halt_.course==c)=(l.find? λs=>s.course==c).map λs=>(⟨i,x,y,s⟩:Sk):=by
 rw[yG];rfl
theorem aD (c:Nat):∀(r:List Ln) (i x:Nat),agn c (x+uL r r.length) (CW i x r)=x+uL r (EY 1 c r)
 |[],i,x=>by simp[agn,CW,EY,TZ]
 |(n,l)::r,i,x=>by
  have ih:=aD c r (i+1) (x+n);rw[EY];unfold agn;rw[CW,ou,RW];by_cases h:IX c l=true
  ·rw[Ax (.inr h),EX];unfold IX at h;rw[u7] at h;cases hf:l.find? λs=>s.course==c with
   |none=>
    obtain⟨s,h1,h2⟩:=h;exact absurd h2 (kx.mp hf s h1)
   |some s=>rfl
  ·rw[Ay (by rintro (⟨q,_⟩|q);cases q;exact h q),C0];cases hf:l.find? λs=>s.course==c with
   |some s=>
    refine absurd ?_ h;unfold IX;rw[u7];exact⟨s,uv hf,x5 (p:=λ(s:Stop)=>s.course==c) hf⟩
   |none=>
    rw[dc,C0];show agn c (x+(n+uL r r.length)) (CW (i+1) (x+n) r)=x+(n+uL r (EY 1 c r));rw[←uK,ih,uK]
theorem V6 (ring c:Nat):∀r:List Ln,EY ring c r<=r.length
 |[]=>au _
 |(n,l)::r=>by
  rw[EY,dc];have:=V6 ring c r;split<;>omega
def QB (a:Nat) (b:List (Nat×Nat)):Nat:=match b.head? with
 |some q=>min q.2 a
 |none=>a
theorem aE (c:Nat):∀(r:List Ln) (i x:Nat),PcK r->QB (x+uL r (EY 1 c r)) (FD i x r)=x+uL r (EY 2 c r)
 |[],i,x,_=>by simp[QB,FD,EY]
 |(n,l)::r,i,x,k=>by
  have ih:=aE c r (i+1) (x+n) k.tail;by_cases h0:n=0
  ·subst h0;rw[FD,Ax rfl,EY,EY,Ax (show((2:Nat)=2/\0=0)\/IX c l=true from .inl ⟨rfl,rfl⟩),EX];show min x _=x+0;omega
  ·rw[FD,Ay h0,EY,EY];by_cases h:IX c l=true
   ·rw[Ax (.inr h),Ax (.inr h),EX];unfold QB;cases hb:(FD (i+1) (x+n) r).head? with
    |none=>rfl
    |some q=>
     have:=GH (List.mem_of_mem_head? hb);show min q.2 (x+0)=x+0;omega
   ·rw[Ay (by rintro (⟨q,_⟩|q);cases q;exact h q),Ay (by rintro (⟨_,q⟩|q);exact h0 q;exact h q),C0,C0];show QB (x+(n+_)) _=x+(n+_);rw[←uK,ih,uK]
theorem QC (ps:List Ln) (i j:Nat):uL ps (i+j)=uL ps i+uL (ps.drop i) j:=by
 unfold uL;rw[List.take_add,du,x3]
theorem dP {p:LuteTab.Piece} {s:Sk} {ring:Nat} (hm:dO p) (k:PcK (p.map B8)) (hs:s∈LuteSound.struck p) (hr:ring<=2):
 LuteSound.ends p ring s=uL (p.map B8) (mEL ring (p.map B8) s.line s.halt_.course):=by
 unfold LuteSound.struck at hs;rw[←FP] at hs;have h:=XE hs;unfold LuteSound.ends mEL;by_cases h0:ring=0
 ·rw[Ax h0,Ax h0];exact h.end_
 rw[Ay h0,Ay h0];generalize hps:p.map B8=ps at*;have Aw:s.line+1<=ps.length:=h.lt;have YU:(ps.take (s.line+1)).length=s.line+1:=by rw[df];omega
 have utk:uL (ps.take (s.line+1)) (s.line+1)=uL ps (s.line+1):=by unfold uL;rw[v0,zH]
 have e0:ps=ps.take (s.line+1)++ps.drop (s.line+1):=(iy _ _).symm;have ea:LuteSound.again p s=uL ps (s.line+1)+uL (ps.drop (s.line+1)) (EY 1 s.halt_.course (ps.drop (s.line+1))):=by
  unfold LuteSound.again LuteSound.struck;rw[←FP,NI,hps, ←aD s.halt_.course (ps.drop (s.line+1)) (s.line+1) (uL ps (s.line+1)), ←QC,fx,show s.line+1+(ps.length - (s.line+1))=ps.length by omega];have e1:(CW 0 0 ps).find? (λ(q:Sk)=>decide (s.line<q.line)&&q.halt_.course==s.halt_.course)=(CW (s.line+1) (uL ps (s.line+1)) (ps.drop (s.line+1))).find? λ(q:Sk)=>q.halt_.course==s.halt_.course:=by
   conv=>lhs;rw[e0,HL,YU,utk,oe,oe]
   rw[ou];have n1:(CW 0 0 (ps.take (s.line+1))).find? (λ(q:Sk)=>decide (s.line<q.line)&&q.halt_.course==s.halt_.course)=none:=by
    rw[kx];intro q hq;have:=(XE hq).lt;rw[YU] at this;rw[decide_eq_false (by omega)];simp
   rw[n1];show Ad _ _=_;have:∀(l:List Sk),(∀q∈l,s.line<q.line)->l.find? (λ(q:Sk)=>decide (s.line<q.line)&&q.halt_.course==s.halt_.course)=l.find? λ(q:Sk)=>q.halt_.course==s.halt_.course:=by
    intro l;induction l with
    |nil=>intro _;rfl
    |cons a b ih=>
     intro hh;rw[jk,jk,ih λq hq=>hh q (aq _ hq),decide_eq_true (hh a bc),qp]
   refine this _ λq hq=>?_;obtain⟨j,_,h1,_⟩:=mem_mStr.mp hq;omega
  rw[e1];rfl
 by_cases h1:ring=1
 ·subst h1;rw[Ax rfl,ea,QC ps (s.line+1)]
 ·have h2:ring=2:=by omega
  subst h2;rw[Ay h1,QC ps (s.line+1), ←aE s.halt_.course (ps.drop (s.line+1)) (s.line+1) (uL ps (s.line+1)) (k.drop _), ←ea];have e2:(LuteSound.barsFrom 0 0 p).find? (λ(b:Nat×Nat)=>decide (s.line<b.1))=(FD (s.line+1) (uL ps (s.line+1)) (ps.drop (s.line+1))).head?:=by
   rw[←QA p 0 0 hm,hps]
   conv=>lhs;rw[e0,HM,YU,utk,oe,oe]
   rw[ou];have n1:(FD 0 0 (ps.take (s.line+1))).find? (λ(b:Nat×Nat)=>decide (s.line<b.1))=none:=by
    rw[kx];intro q hq;have:=GH hq;rw[YU] at this;simp;omega
   rw[n1];show Ad _ _=_;cases hb:FD (s.line+1) (uL ps (s.line+1)) (ps.drop (s.line+1)) with
   |nil=>rfl
   |cons a b=>
    have:=GH (show a∈FD (s.line+1) (uL ps (s.line+1)) (ps.drop (s.line+1)) by rw[hb];exact bc);rw[jk,decide_eq_true (by omega)];rfl
  rw[e2];rfl
theorem XI {ps:List Ln} {st:List Stop} (h:ps[i]? =some (n,st)):CW 0 0 (ps.take (i+1))=CW 0 0 (ps.take i)++st.map λ(s:Stop)=>(⟨i,uL ps i,uL ps i+n,s⟩:Sk):=by
 have hi:=(aw.mp h).1;have el:(ps.take i).length=i:=by rw[df];omega
 have eu:uL (ps.take i) i=uL ps i:=by unfold uL;rw[v0,zH]
 rw[dk,h,HL,el,eu];simp[CW]
def mPA {α:Type} (lt:α->Bool) (d:α) (r:List α):Nat->Nat->Nat->Nat
 |0,low,_=>low
 |f+1,low,high=>if low<high then(if lt (r.getD ((low+high) / 2) d)=true then mPA lt d r f ((low+high) / 2+1) high else mPA lt d r f low ((low+high) / 2)) else low
def K8 {α:Type} (r:List α) (n:Nat) (x:α):List α:=r.take n++x::r.drop n
def FE {α:Type} [DecidableEq α] (lt:α->α->Bool) (d:α) (r:List α) (x:α):List α:=if x∈r then r else K8 r (mPA (λy=>lt y x) d r (r.length+1) 0 r.length) x
def OW {α:Type} [DecidableEq α] (lt:α->α->Bool) (d:α) (xs:List α):List α:=xs.foldl (FE lt d) []
section
variable {α:Type} [DecidableEq α] {lt:α->α->Bool} {d:α} {S:α->Prop}
structure Ord {α:Type} (lt:α->α->Bool) (S:α->Prop):Prop where
 irr:∀x,S x->lt x x=false
 tr:∀x y z,S x->S y->S z->lt x y=true->lt y z=true->lt x z=true
 tot:∀x y,S x->S y->lt x y=false->lt y x=false->x=y
theorem T6 {f:α->Bool} {r:List α}:∀(k low high:Nat),high - low<k->low<=high->high<=r.length->(∀(i:Nat) (y:α),i<low->r[i]? =some y->f y=true)->(∀(i:Nat) (y:α),high<=i->r[i]? =some y->f y=false)->
 (∀(i j:Nat) (x y:α),i<j->r[i]? =some x->r[j]? =some y->f y=true->f x=true)->
 mPA f d r k low high<=r.length/\(∀(i:Nat) (y:α),i<mPA f d r k low high->r[i]? =some y->f y=true)/\∀(i:Nat) (y:α),mPA f d r k low high<=i->r[i]? =some y->f y=false
 |0,low,high,h,_,_,_,_,_=>by omega
 |k+1,low,high,hk,hl,hh,h1,h2,mono=>by
  rw[mPA];by_cases Aw:low<high
  ·rw[Ax Aw];have hm:(low+high) / 2<r.length:=by omega
   have em:r[(low+high) / 2]? =some (r.getD ((low+high) / 2) d):=by rw[bj,am hm];rfl
   by_cases hf:f (r.getD ((low+high) / 2) d)=true
   ·rw[Ax hf];refine T6 k _ _ (by omega) (by omega) hh (λi y hi hy=>?_) h2 mono;by_cases e:i=(low+high) / 2
    ·rw[e,em] at hy;cases hy;exact hf
    ·exact mono i _ y _ (by omega) hy em hf
   ·rw[Ay hf];refine T6 k _ _ (by omega) (by omega) (by omega) h1 (λi y hi hy=>?_) mono;by_cases e:i=(low+high) / 2
    ·rw[e,em] at hy;cases hy;exact jz.mpr hf
    ·cases q:f y with
     |false=>rfl
     |true=>exact absurd (mono _ i _ y (by omega) em hy q) hf
  ·rw[Ay Aw];have:low=high:=by omega
   subst this;exact⟨hh,h1,h2⟩
theorem dQ (O:Ord lt S) {r:List α} {x:α} (hr:∀y∈r,S y) (hx:S x) (pw:r.Pairwise λa b=>lt a b=true):
 (∀y,y∈FE lt d r x↔y∈r\/y=x)/\(FE lt d r x).Pairwise λa b=>lt a b=true:=by
 unfold FE;by_cases hm:x∈r
 ·rw[Ax hm];exact⟨λy=>⟨.inl,λq=>q.elim id λe=>e▸hm⟩,pw⟩
 rw[Ay hm];obtain⟨h1,h2,h3⟩:=T6 (f:=λy=>lt y x) (d:=d) (r:=r) (r.length+1) 0 r.length (by omega) (by omega) (au _) (λi y hi=>by omega) (λi y hi hy=>by
  have:=(aw.mp hy).1;omega) (λi j a b hij ha hb q=>by
   have hi:=(aw.mp ha)
   have hj:=(aw.mp hb)
   have:=lj.mp pw i j hi.1 hj.1 hij;rw[hi.2,hj.2] at this;exact O.tr a b x (hr a (bz ha)) (hr b (bz hb)) hx this q)
 generalize mPA (λy=>lt y x) d r (r.length+1) 0 r.length=n at h1 h2 h3;unfold K8;constructor
 ·intro y;rw[cn,bp];constructor
  ·rintro (q|rfl|q)
   ·exact .inl (mh q)
   ·exact .inr rfl
   ·exact .inl (jg q)
  ·rintro (q|rfl)
   ·rw[←iy n r,cn] at q;exact q.elim .inl λq=>.inr (.inr q)
   ·exact .inr (.inl rfl)
 ·have pw':=pw;rw[←iy n r,tE] at pw';obtain⟨p1,p2,p3⟩:=pw';rw[tE,ge];have lo:∀a∈r.take n,lt a x=true:=λa ha=>by
   obtain⟨i,hi⟩:=ma ha;rw[rh] at hi;split at hi
   ·exact h2 i a (by assumption) hi
   ·cases hi
  have up:∀b∈r.drop n,lt x b=true:=λb hb=>by
   obtain⟨i,hi⟩:=ma hb;rw[um] at hi;have q:=h3 (n+i) b (by omega) hi;have hb':=jg hb;cases q2:lt x b with
   |true=>rfl
   |false=>exact absurd (O.tot b x (hr b hb') hx q q2▸hb') hm
  refine⟨p1,⟨up,p2⟩,λa ha b hb=>?_⟩;rcases bp.mp hb with rfl|hb
  ·exact lo a ha
  ·exact p3 a ha b hb
theorem RX (O:Ord lt S):∀{xs r:List α},(∀y∈r,S y)->(∀x∈xs,S x)->r.Pairwise (λa b=>lt a b=true)->
 (∀y,y∈xs.foldl (FE lt d) r↔y∈r\/y∈xs)/\(xs.foldl (FE lt d) r).Pairwise λa b=>lt a b=true
 |[],r,_,_,pw=>⟨λy=>by simp,pw⟩
 |x::xs,r,hr,hx,pw=>by
  obtain⟨a1,a2⟩:=dQ (d:=d) O hr (hx x bc) pw;obtain⟨b1,b2⟩:=RX O (xs:=xs) (r:=FE lt d r x) (λy hy=>((a1 y).mp hy).elim (hr y) λe=>e▸hx x bc) (λy hy=>hx y (aq _ hy)) a2;refine⟨λy=>?_,b2⟩;rw[x6,b1,a1,bp,or_assoc]
theorem aF (O:Ord lt S) {xs:List α} (hx:∀x∈xs,S x):(∀y,y∈OW lt d xs↔y∈xs)/\(OW lt d xs).Pairwise λa b=>lt a b=true:=by
 obtain⟨h1,h2⟩:=RX (d:=d) O (xs:=xs) (r:=[]) (by simp) hx ow;exact⟨λy=>by unfold OW;rw[h1];simp,h2⟩
end
theorem jY [BEq α] [LawfulBEq α] {lt:α->α->Bool} {S:α->Prop} (O:Ord lt S) {r:List α} (hr:∀y∈r,S y) (pw:r.Pairwise λa b=>lt a b=true) {x y:α} (hx:x∈r) (hy:y∈r):r.idxOf x<r.idxOf y↔lt x y=true:=by
 have lx:=oy hx;have ly:=oy hy;have ex:r[r.idxOf x]=x:=uo lx;have ey:r[r.idxOf y]=y:=uo ly;constructor
 ·intro h;have:=lj.mp pw _ _ lx ly h;rw[ex,ey] at this;exact this
 ·intro h;apply u6;intro q;rcases Nat.lt_or_ge (r.idxOf y) (r.idxOf x) with q'|q'
  ·have:=lj.mp pw _ _ ly lx q';rw[ex,ey] at this;have:=O.tr x y x (hr x hx) (hr y hy) (hr x hx) h this;rw[O.irr x (hr x hx)] at this;cases this
  ·have e:r.idxOf x=r.idxOf y:=by omega
   have:x=y:=by rw[←ex, ←ey];simp only[e]
   subst this;rw[O.irr x (hr x hx)] at h;cases h
theorem OX {R:α->α->Prop}:∀{l1 l2:List α},l1.Perm l2->l1.Pairwise R->l2.Pairwise R->(∀a∈l1,∀b∈l1,R a b->R b a->a=b)->l1=l2
 |[],l2,p,_,_,_=>(List.nil_perm.mp p).symm
 |a::l1,l2,p,h1,h2,anti=>by
  cases l2 with
  |nil=>exact absurd (p.symm) (by simp)
  |cons b l2=>
   obtain⟨a1,a2⟩:=ge.mp h1;obtain⟨b1,b2⟩:=ge.mp h2;have e:a=b:=by
    have hb:b∈a::l1:=p.mem_iff.mpr bc;have ha:a∈b::l2:=p.mem_iff.mp bc;rcases bp.mp hb with hb'|hb'
    ·exact hb'.symm
    ·rcases bp.mp ha with ha'|ha'
     ·exact ha'
     ·exact anti a bc b hb (a1 b hb') (b1 a ha')
   subst e;rw[OX (p.cons_inv) a2 b2 λx hx y hy=>anti x (aq _ hx) y (aq _ hy)]
end Lt
namespace Lt
variable {f a C CR CT r ta CI CL CN:ag} {fd:ez} {X:Cx} {x:List Int} {i n e p q:Nat} {pos:Pos} {z dz fz:Str} {xs:List V} {H H' H1:Hp} {E:XK} {cs t ci ct:List UInt8} {α β:Type} {Q:VK} {ls fr co ba:List (List Int)} {P:bb} {w:bv} {h:cr} {ps:List Str}
section
variable {α:Type} [DecidableEq α] {lt:α->α->Bool} {d:α}
theorem XJ {r:List α} {x y:α}:y∈K8 r n x↔y∈r\/y=x:=by
 unfold K8;rw[cn,bp];constructor
 ·rintro (q|rfl|q)
  ·exact .inl (mh q)
  ·exact .inr rfl
  ·exact .inl (jg q)
 ·rintro (q|rfl)
  ·rw[←iy n r,cn] at q;exact q.elim .inl λq=>.inr (.inr q)
  ·exact .inr (.inl rfl)
theorem mIns_mem {r:List α} {x y:α}:y∈FE lt d r x↔y∈r\/y=x:=by
 unfold FE;by_cases hm:x∈r
 ·rw[Ax hm];exact⟨.inl,λq=>q.elim id λe=>e▸hm⟩
 ·rw[Ay hm,XJ]
theorem T7 {r:List α} {x:α} (h:r.Nodup):(FE lt d r x).Nodup:=by
 unfold FE;by_cases hm:x∈r
 ·rw[Ax hm];exact h
 ·rw[Ay hm];unfold K8;have h':=h;rw[←iy (mPA (λy=>lt y x) d r (r.length+1) 0 r.length) r,w8] at h';obtain⟨p1,p2,p3⟩:=h';rw[w8];refine⟨p1,qx.mpr ⟨λq=>hm (jg q),p2⟩,λa ha b hb e=>?_⟩;rcases bp.mp hb with rfl|hb
  ·exact hm (e▸mh ha)
  ·exact p3 a ha b hb e
theorem T8 {f:α->Bool} {r:List α}:∀(k low high:Nat),low<=high->high<=r.length->mPA f d r k low high<=r.length
 |0,low,high,h1,h2=>by rw[mPA];omega
 |k+1,low,high,h1,h2=>by
  rw[mPA];split
  ·split
   ·exact T8 k _ _ (by omega) h2
   ·exact T8 k _ _ (by omega) (by omega)
  ·omega
theorem aG {r:List α} {x:α}:(FE lt d r x).length<=r.length+1:=by
 unfold FE;split
 ·omega
 ·unfold K8;rw[bq,dc,df,fx];omega
theorem OY {xs r:List α} (h:r.Nodup):(xs.foldl (FE lt d) r).Nodup:=by
 induction xs generalizing r with
 |nil=>exact h
 |cons x xs ih=>exact ih (T7 h)
theorem RY {xs r:List α} {y:α}:y∈xs.foldl (FE lt d) r↔y∈r\/y∈xs:=by
 induction xs generalizing r with
 |nil=>simp
 |cons x xs ih=>rw[x6,ih,mIns_mem,bp,or_assoc]
theorem rise_mem {xs:List α} {y:α}:y∈OW lt d xs↔y∈xs:=by
 unfold OW;rw[RY];simp
end
def InK (t:Lute.Inst):Prop:=(∀x∈t.frets,0<x.d)/\(∀x∈t.courses,0<x.d)/\∀x∈t.basses,0<x.d
theorem aH {l:List Iv} (h:∀x∈l,0<x.d) (i:Nat):0<(l.getD i Lute.unison).d:=by
 rw[bj];cases e:l[i]? with
 |none=>exact z4
 |some x=>exact h x (bz e)
theorem DJ {t:Lute.Inst} (k:InK t) (s:Sk):Lw (LuteSound.tone t s):=by
 unfold LuteSound.tone Lute.Inst.sounds;refine dH (aH (λx hx=>?_) _) ?_
 ·rcases cn.mp hx with hx|hx
  ·exact k.2.1 x hx
  ·exact k.2.2 x hx
 ·unfold Lute.Inst.fret;split
  ·exact z4
  ·exact aH k.1 _
section
variable {t:Lute.Inst}
theorem HX (a b:Sk):LuteSound.first t a b=true↔a.begins<b.begins\/(a.begins=b.begins/\((LuteSound.tone t a).lt (LuteSound.tone t b)=true\/(LuteSound.tone t a=LuteSound.tone t b/\a.halt_.course<b.halt_.course))):=by
 unfold LuteSound.first;simp
theorem RZ (k:InK t) {a b:Sk} (h:LuteSound.first t a b=true):LuteSound.first t b a=false:=by
 rw[HX] at h;rw[jz];intro q;have q:=(HX b a).mp q;have la:=DJ k a;have lb:=DJ k b;rcases h with h|⟨e,h|⟨e2,h⟩⟩
 ·rcases q with q|⟨q,_⟩<;>omega
 ·rcases q with q|⟨_,q|⟨q,_⟩⟩
  ·omega
  ·rw[Z0 la.1 lb.1 h] at q;cases q
  ·rw[q,lt_irrefl la.1] at h;cases h
 ·rcases q with q|⟨_,q|⟨_,q⟩⟩
  ·omega
  ·rw[e2,lt_irrefl lb.1] at q;cases q
  ·omega
theorem R7 (k:InK t) {a b c:Sk} (h1:LuteSound.first t a b=true) (h2:LuteSound.first t b c=true):LuteSound.first t a c=true:=by
 rw[HX] at*;have la:=DJ k a;have lb:=DJ k b;have lc:=DJ k c;rcases h1 with h1|⟨e1,h1⟩
 ·rcases h2 with h2|⟨e2,_⟩<;>exact .inl (by omega)
 ·rcases h2 with h2|⟨e2,h2⟩
  ·exact .inl (by omega)
  ·refine .inr ⟨e1.trans e2,?_⟩;rcases h1 with h1|⟨t1,h1⟩
   ·rcases h2 with h2|⟨t2,h2⟩
    ·exact .inl (lt_trans la.1 lb.1 lc.1 h1 h2)
    ·exact .inl (t2▸h1)
   ·rcases h2 with h2|⟨t2,h2⟩
    ·exact .inl (t1▸h2)
    ·exact .inr ⟨t1.trans t2,by omega⟩
theorem HN (a:Sk):∀l:List Sk,(LuteSound.insert t a l).Perm (a::l)
 |[]=>v5 _
 |b::r=>by
  rw[LuteSound.insert];split
  ·exact v5 _
  ·exact((HN a r).cons b).trans (List.Perm.swap a b r)
theorem NM (p:LuteTab.Piece):(LuteSound.notes t p).Perm (LuteSound.struck p):=by
 unfold LuteSound.notes;induction LuteSound.struck p with
 |nil=>exact v5 _
 |cons a l ih=>exact(HN a _).trans (ih.cons a)
theorem OZ (k:InK t) (a:Sk):∀l:List Sk,l.Pairwise (λx y=>LuteSound.first t y x=false)->(LuteSound.insert t a l).Pairwise λx y=>LuteSound.first t y x=false
 |[],_=>List.pairwise_singleton _ _
 |b::r,h=>by
  obtain⟨h1,h2⟩:=ge.mp h;rw[LuteSound.insert];by_cases hf:LuteSound.first t a b=true
  ·rw[Ax hf];refine ge.mpr ⟨λx hx=>?_,h⟩;rcases bp.mp hx with rfl|hx
   ·exact RZ k hf
   ·rw[jz];intro q;have:=R7 k q hf;rw[h1 x hx] at this;cases this
  ·rw[Ay hf];refine ge.mpr ⟨λx hx=>?_,OZ k a r h2⟩;rcases bp.mp ((HN a r).mem_iff.mp hx) with rfl|hx
   ·exact jz.mpr hf
   ·exact h1 x hx
theorem aI (k:InK t) (p:LuteTab.Piece):(LuteSound.notes t p).Pairwise λx y=>LuteSound.first t y x=false:=by
 unfold LuteSound.notes;induction LuteSound.struck p with
 |nil=>exact ow
 |cons a l ih=>exact OZ k a _ ih
def aJ (t:Lute.Inst) (p:LuteTab.Piece) (hg:Sk->Nat):Prop:=∀a∈LuteSound.struck p,∀b∈LuteSound.struck p,(hg a<hg b↔(LuteSound.tone t a).lt (LuteSound.tone t b)=true)
theorem pT (k:InK t) {p:LuteTab.Piece} {hg:Sk->Nat} (h:aJ t p hg) {a b:Sk} (ha:a∈LuteSound.struck p) (hb:b∈LuteSound.struck p):hg a=hg b↔LuteSound.tone t a=LuteSound.tone t b:=by
 constructor
 ·intro e;refine RT (DJ k a) (DJ k b) ?_ ?_
  ·rw[jz];intro q;have:=(h a ha b hb).mpr q;omega
  ·rw[jz];intro q;have:=(h b hb a ha).mpr q;omega
 ·intro e;have h1:¬hg a<hg b:=λq=>by
   have:=(h a ha b hb).mp q;rw[e,lt_irrefl (DJ k b).1] at this;cases this
  have h2:¬hg b<hg a:=λq=>by
   have:=(h b hb a ha).mp q;rw[e,lt_irrefl (DJ k b).1] at this;cases this
  omega
def kLt (hg:Sk->Nat) (a b:Sk):Prop:=a.begins<b.begins\/(a.begins=b.begins/\(hg a<hg b\/(hg a=hg b/\a.halt_.course<b.halt_.course)))
theorem QD (k:InK t) {p:LuteTab.Piece} {hg:Sk->Nat} (h:aJ t p hg) {a b:Sk} (ha:a∈LuteSound.struck p) (hb:b∈LuteSound.struck p):kLt hg a b↔LuteSound.first t a b=true:=by
 rw[HX,kLt,h a ha b hb,pT k h ha hb]
theorem T9 (k:InK t) {p:LuteTab.Piece} (kp:PcK (p.map B8)) {hg:Sk->Nat} (h:aJ t p hg) {zs:List Sk} (pm:zs.Perm (LuteSound.struck p)) (pw:zs.Pairwise λa b=>¬kLt hg b a):zs=LuteSound.notes t p:=by
 refine OX (pm.trans (NM p).symm) (R:=λx y=>LuteSound.first t y x=false) ?_ (aI k p) ?_
 ·refine zj (λ{a b} ha hb q=>?_) pw;rw[jz];exact λz=>q ((QD k h (pm.mem_iff.mp hb) (pm.mem_iff.mp ha)).mpr z)
 ·intro a ha b hb h1 h2;have ha:=pm.mem_iff.mp ha;have hb:=pm.mem_iff.mp hb;have n1:¬kLt hg b a:=λz=>by have:=(QD k h hb ha).mp z;rw[h1] at this;cases this
  have n2:¬kLt hg a b:=λz=>by have:=(QD k h ha hb).mp z;rw[h2] at this;cases this
  unfold kLt at n1 n2;unfold LuteSound.struck at ha hb;rw[←FP] at ha hb;exact i9 kp (XE ha) (XE hb) (by omega) (by omega)
end
open PySem PySem.Spec PyProof.Rows L2
def ro (x:Iv):List Int:=LuteD.rowOf x
theorem O0 (x:Iv):ro x=[x.a,x.b,x.c,x.e,(x.d:Int)]:=rfl
theorem pU:ro Lute.unison=un5:=rfl
theorem sD (a b c e d:Int):BX [a,b,c,e,d]=oa d.natAbs (oa a.natAbs (oa b.natAbs (oa c.natAbs e.natAbs))):=by
 unfold BX GU;simp only[List.foldl,qd,rm,Nat.gcd_zero_left,Int.natAbs_zero];rw[wW _ d.natAbs,zm,zm]
theorem aK (x:Iv):BX (ro x)=x.common:=by
 rw[O0,sD];rfl
theorem NN (z:Int):Lute.within z=decide (z.natAbs<=99):=by
 unfold Lute.within Lute.MOST;rw[qw];simp;omega
theorem fQ (x:Iv):F6 (ro x)=x.ok:=by
 unfold F6 Lute.Iv.ok;rw[aK];show((([x.a,x.b,x.c,x.e]:List Int).all λp=>decide (p.natAbs<=99))&&(decide ((1:Int)<=(x.d:Int))&&decide ((x.d:Int)<=24)&&decide (x.common=1)))=_;simp only[List.all,NN,zn];have e1:decide ((1:Int)<=(x.d:Int))=decide (1<=x.d):=by rw[decide_eq_decide];omega
 have e2:decide ((x.d:Int)<=24)=decide (x.d<=Lute.PARTS):=by rw[decide_eq_decide];show _↔x.d<=24;omega
 have e3:decide (x.common=1)=(x.common==1):=rfl;rw[e1,e2,e3];simp only[Bool.and_assoc]
theorem aL (x y:Iv):BU (ro x) (ro y)=ro (x.plus y):=by
 have e:EB (ro x) (ro y)=ro ⟨x.a*y.d+y.a*x.d,x.b*y.d+y.b*x.d,x.c*y.d+y.c*x.d,x.e*y.d+y.e*x.d,x.d*y.d⟩:=by
  rw[O0,O0,O0];unfold EB;show[LG _ _ 0,LG _ _ 1,LG _ _ 2,LG _ _ 3]++_=_;simp only[LG,List.getD_cons_zero,List.getD_cons_succ,qc,List.nil_append];congr 5;all_goals simp
 unfold BU;rw[e,aK];unfold Lute.Iv.plus Lute.Iv.low;simp only[O0,List.map];congr 5
theorem K9 (x y:Iv) (hx:0<x.d) (hy:0<y.d):BG (ro x) (ro y)=x.lt y:=by
 unfold Lute.Iv.lt Lute.Iv.less Lute.Iv.plus;have hg:∀z:Iv,0<z.d->0<z.common:=λz hz=>u5 _ hz;show _=(Lute.Iv.low _).down;rw[RR _ (hg _ (me hx hy))];unfold Lute.Iv.down Lute.Iv.below Lute.Iv.above Lute.Iv.back BG;have pA:∀k (p:Int),pw (ro x) (ro y) k=p->True:=λ_ _ _=>je;have e0:pw (ro x) (ro y) 0=y.a*x.d - x.a*y.d:=rfl;have e1:pw (ro x) (ro y) 1=y.b*x.d - x.b*y.d:=rfl;have e2:pw (ro x) (ro y) 2=y.c*x.d - x.c*y.d:=rfl;have e3:pw (ro x) (ro y) 3=y.e*x.d - x.e*y.d:=rfl;have eA:IF (ro x) (ro y) 4=((2 ^ (y.a*x.d - x.a*y.d).toNat*3 ^ (y.b*x.d - x.b*y.d).toNat*5 ^ (y.c*x.d - x.c*y.d).toNat*7 ^ (y.e*x.d - x.e*y.d).toNat:Nat):Int):=by
  have st:∀(q z b:Int) (p:Nat),(p:Int)=b->(if 0<z then q*b ^ z.toNat else q)=q*((p ^ z.toNat:Nat):Int):=λq z b p hb=>by
   by_cases h:0<z
   ·rw[Ax h, ←hb,x8]
   ·have:z.toNat=0:=by omega
    rw[Ay h,this,vp];simp
  simp only[IF,e0,e1,e2,e3];rw[st _ _ (prm.getD 0 0) 2 rfl,st _ _ (prm.getD 1 0) 3 rfl,st _ _ (prm.getD 2 0) 5 rfl,st _ _ (prm.getD 3 0) 7 rfl];simp only[tL,xR]
 have eB:IG (ro x) (ro y) 4=((2 ^ (x.a*y.d - y.a*x.d).toNat*3 ^ (x.b*y.d - y.b*x.d).toNat*5 ^ (x.c*y.d - y.c*x.d).toNat*7 ^ (x.e*y.d - y.e*x.d).toNat:Nat):Int):=by
  have st:∀(q z v b:Int) (p:Nat),(p:Int)=b->v= -z->(if 0<z then q else q*b ^ (-z).toNat)=q*((p ^ v.toNat:Nat):Int):=λq z v b p hb hv=>by
   subst hv;by_cases h:0<z
   ·have:(-z).toNat=0:=by omega
    rw[Ax h,this,vp];simp
   ·rw[Ay h, ←hb,x8]
  simp only[IG,e0,e1,e2,e3];rw[st _ _ (x.a*y.d - y.a*x.d) (prm.getD 0 0) 2 rfl (by omega),st _ _ (x.b*y.d - y.b*x.d) (prm.getD 1 0) 3 rfl (by omega),st _ _ (x.c*y.d - y.c*x.d) (prm.getD 2 0) 5 rfl (by omega),st _ _ (x.e*y.d - y.e*x.d) (prm.getD 3 0) 7 rfl (by omega)];simp only[tL,xR]
 rw[eA,eB,decide_eq_decide,Int.ofNat_lt];have n:∀u v p q:Int,u*q+ -v*p=u*q - v*p:=λu v p q=>by rw[v3];omega
 have m:∀u v p q:Int, -(u*q+ -v*p)=v*p - u*q:=λu v p q=>by rw[v3];omega
 simp only[m];simp only[n]
def fg {α:Type}:Except Nat (α×Nat×List UInt8)->Option (α×List UInt8)
 | .ok (a,_,t)=>some (a,t)
 | .error _=>none
def fe {α:Type}:Except Nat α->Option α
 | .ok a=>some a
 | .error _=>none
def dz0:Str:="0123456789"
def fz0:Str:="2357"
theorem NO {p:UInt8->Prop} (h:∀n,n<256->p (uF n)) (c:UInt8):p c:=by
 have:=h c.toNat (yH c)
 rwa [UInt8.ofNat_toNat] at this
theorem HY (c:UInt8):BR dz0.cps.toList ((c.toNat:Nat):Int)=Lute.digit c:=NO (p:=λc=>BR dz0.cps.toList ((c.toNat:Nat):Int)=Lute.digit c) (by decide +kernel) c
theorem dR (c:UInt8):BR fz0.cps.toList ((c.toNat:Nat):Int)=[(50:UInt8),51,53,55].idxOf? c:=NO (p:=λc=>BR fz0.cps.toList ((c.toNat:Nat):Int)=[(50:UInt8),51,53,55].idxOf? c) (by decide +kernel) c
theorem O1 (c x:UInt8):(c.toNat=x.toNat)↔c=x:=xZ
theorem CO {x:UInt8} (hz:z.cps.toList=[x.toNat]) (c:UInt8) (t:List UInt8):see z (c::t)=decide (c=x):=by
 show(BR z.cps.toList ((c.toNat:Nat):Int)).isSome=_;rw[hz,VG];by_cases h:c=x
 ·rw[Ax (by rw[h]),decide_eq_true h];rfl
 ·rw[Ay (λq=>h ((O1 c x).mp q)),decide_eq_false h];rfl
theorem JR (z:Str):see z []=false:=rfl
theorem HZ:∀(bs:List UInt8) (p:Nat) (l:List UInt8),fg (Lute.want bs p l)=sk (bs.map (·.toNat)) l
 |[],p,l=>rfl
 |x::bs,p,[]=>rfl
 |x::bs,p,c::t=>by
  rw[Lute.want,cz,sk];by_cases h:c=x
  ·rw[Ax h,Ax (by rw[h]),HZ]
  ·rw[Ay h,Ay (λq=>h ((O1 c x).mp q))];rfl
theorem FH {x:UInt8} (hz:z.cps.toList=[x.toNat]) (c:UInt8) (t:List UInt8):sk z.cps.toList (c::t)=if c=x then some ((),t) else none:=by
 rw[hz,sk];by_cases h:c=x
 ·rw[Ax h,Ax (by rw[h])];rfl
 ·rw[Ay h,Ay (λq=>h ((O1 c x).mp q))]
theorem QE (most:Nat):∀(l:List UInt8) (count v p:Nat),v≠0->count<=most->GX dz0 most count v l=fg (Lute.moreDigits (most - count) v p l)
 |[],count,v,p,hv,hc=>by rw[GX,Lute.moreDigits];rfl
 |c::t,count,v,p,hv,hc=>by
  rw[GX,HY,Lute.moreDigits.eq_def];cases hd:Lute.digit c with
  |none=>simp only[hd];rfl
  |some d=>
   simp only[hd];by_cases hq:count=most
   ·rw[Ax (.inl hq),hq,w9];rfl
   ·rw[Ay (by rintro (q|q);exact hq q;exact hv q)];obtain⟨m,hm⟩:∃m,most - count=m+1:=⟨most - count - 1,by omega⟩
    rw[hm];have:=QE most t (count+1) (10*v+d) (p+1) (by omega) (by omega);rw[this,show most - (count+1)=m by omega]
theorem KP (p:Nat) (l:List UInt8):wn dz0 4 l=fg (Lute.number p l):=by
 cases l with
 |nil=>rfl
 |cons c t=>
  unfold wn;rw[BS,HY,Lute.number.eq_def];dsimp only;cases hd:Lute.digit c with
  |none=>rfl
  |some d=>
   show GX dz0 4 1 d t=_;cases d with
   |zero=>
    cases t with
    |nil=>rfl
    |cons y u=>
     rw[GX,HY];cases hy:Lute.digit y with
     |none=>simp[hy,fg]
     |some e=>simp[hy,fg]
   |succ d=>exact QE 4 t 1 (d+1) (p+1) (by omega) (by omega)
theorem dS (p:Nat) (l:List UInt8):(if see "0" l=true then none else wn dz0 7 l)=fg (Lute.longNumber p l):=by
 cases l with
 |nil=>rfl
 |cons c t=>
  rw[CO (z:="0") (x:=48) rfl];unfold wn;rw[BS,HY,Lute.longNumber];cases hd:Lute.digit c with
  |none=>
   by_cases h:c=48
   ·subst h;exact absurd hd (by decide)
   ·rw[Ay (by simp[h])];rfl
  |some d=>
   have h48:c=48↔d=0:=by
    unfold Lute.digit at hd;split at hd
    ·cases hd;rename_i h;have h1:48<=c.toNat:=h.1;rw[←O1];show c.toNat=48↔_;omega
    ·cases hd
   cases d with
   |zero=>rw[Ax (by simp[h48.mpr rfl])];rfl
   |succ d=>
    rw[Ay (by simp;intro q;exact absurd (h48.mp q) (by omega))];exact QE 7 t 1 (d+1) (p+1) (by omega) (by omega)
theorem XL (p:Nat) (l:List UInt8):mSg dz0 l=fg (Lute.signed p l):=by
 cases l with
 |nil=>rfl
 |cons c t=>
  unfold mSg;rw[CO (z:="-") (x:=45) rfl,Lute.signed.eq_def];dsimp only;by_cases h:c=45
  ·rw[Ax (by simp[h]),Ax h,FH (z:="-") (x:=45) rfl,Ax h];show(if see "0" t=true then none else match wn dz0 4 t with
    |none=>none
    |some (n,u)=>some (-(n:Int),u))=_
   cases t with
   |nil=>rfl
   |cons y u=>
    rw[CO (z:="0") (x:=48) rfl];by_cases h2:y=48
    ·subst h2;rfl
    ·rw[Ay (by simp[h2])];have e:(match (y::u:List UInt8) with
      |48::_=>zJ (p+1)
      |_=>match Lute.number (p+1) (y::u) with
       | .error e=>.error e
       | .ok (n,q,v)=>.ok (-((n:Nat):Int),q,v))=(match Lute.number (p+1) (y::u) with
       | .error e=>(.error e:Lute.Rd Int)
       | .ok (n,q,v)=>.ok (-((n:Nat):Int),q,v)):=by
      split
      ·rename_i q;cases q;exact absurd rfl h2
      ·rfl
     refine tD ?_ (congrArg fg e).symm;rw[KP (p+1)];cases Lute.number (p+1) (y::u) with
     |error e=>rfl
     |ok x=>obtain⟨n,q,v⟩:=x;rfl
  ·rw[Ay (by simp[h]),Ay h,KP p];cases Lute.number p (c::t) with
   |error e=>rfl
   |ok x=>obtain⟨n,q,v⟩:=x;rfl
def XN:Except Nat ((Nat×Option (Int×Nat))×Nat×List UInt8)->Option (List Int×List UInt8)
 | .error _=>none
 | .ok ((_,none),_,_)=>none
 | .ok ((_,some (n,d)),_,u)=>some ([n,(d:Int)],u)
theorem jZ (p k:Nat) (c:UInt8) (r:List UInt8) (hk:[(50:UInt8),51,53,55].idxOf? c=some k):mPw dz0 r=XN (Lute.factorAt p (c::r)):=by
 rw[Lute.factorAt.eq_def];dsimp only;rw[hk];dsimp only;cases r with
 |nil=>rfl
 |cons y u=>
  unfold mPw;rw[CO (z:="^") (x:=94) rfl];by_cases h:y=94
  ·subst h;rw[Ax (by simp),FH (z:="^") (x:=94) rfl,Ax rfl];show(match mSg dz0 u with
    |none=>none
    |some (n,u)=>_)=XN (match Lute.signed (p+1+1) u with
    | .error e=>.error e
    | .ok (n,q,v)=>match v with
      |47::w=>(match Lute.number (q+1) w with
       | .error e=>.error e
       | .ok (d,z,t)=>.ok ((k,if 2<=d/\oa n.natAbs d=1 then some (n,d) else none),z,t))
      |_=>.ok ((k,if n=0\/n=1 then none else some (n,1)),q,v))
   rw[XL (p+1+1)];cases hs:Lute.signed (p+1+1) u with
   |error e=>rfl
   |ok x=>
    obtain⟨n,q,v⟩:=x;show(if see "/" v=true then _ else _)=_;cases v with
    |nil=>
     rw[Ay (by decide)];show _=XN (.ok ((k,if n=0\/n=1 then none else some (n,1)),q,[]));by_cases hn:n=0\/n=1
     ·rw[Ax hn,Ax hn];rfl
     ·rw[Ay hn,Ay hn];rfl
    |cons z w=>
     rw[CO (z:="/") (x:=47) rfl];by_cases h2:z=47
     ·subst h2;rw[Ax (by simp),FH (z:="/") (x:=47) rfl,Ax rfl];show(match wn dz0 4 w with
       |none=>none
       |some (d,y)=>_)=XN (match Lute.number (q+1) w with
        | .error e=>.error e
        | .ok (d,z,t)=>.ok ((k,if 2<=d/\oa n.natAbs d=1 then some (n,d) else none),z,t))
      rw[KP (q+1)];cases hw:Lute.number (q+1) w with
      |error e=>rfl
      |ok x=>
       obtain⟨d,z',t⟩:=x;show(if d<2\/1<qd n d then none else some ([n,(d:Int)],t))=XN (.ok ((k,if 2<=d/\oa n.natAbs d=1 then some (n,d) else none),z',t));have eg:qd n d=oa n.natAbs d:=rfl;by_cases hc:2<=d/\oa n.natAbs d=1
       ·rw[Ax hc,Ay (by rw[eg];omega)];rfl
       ·rw[Ay hc];have hp:0<d->0<oa n.natAbs d:=λhd=>Nat.gcd_pos_of_pos_right _ hd;rw[Ax (by rw[eg];by_cases h3:d<2;exact .inl h3;right;have:=hp (by omega);omega)];rfl
     ·rw[Ay (by simp[h2])];have e:(match (z::w:List UInt8) with
       |47::w=>(match Lute.number (q+1) w with
        | .error e=>.error e
        | .ok (d,z,t)=>.ok ((k,if 2<=d/\oa n.natAbs d=1 then some (n,d) else none),z,t))
       |_=>.ok ((k,if n=0\/n=1 then none else some (n,1)),q,z::w))=(.ok ((k,if n=0\/n=1 then none else some (n,1)),q,z::w):Lute.Rd (Nat×Option (Int×Nat))):=by
       split
       ·rename_i q;cases q;exact absurd rfl h2
       ·rfl
      refine tD ?_ (congrArg XN e).symm;by_cases hn:n=0\/n=1
      ·rw[Ax hn,Ax hn];rfl
      ·rw[Ay hn,Ay hn];rfl
  ·rw[Ay (by simp[h])];split
   ·rename_i q;cases q;exact absurd rfl h
   ·rfl
def chk:Option (List Int×List UInt8)->Option (List Int)
 |none=>none
 |some (y,_)=>if F6 y=true then some y else none
theorem j0 (k:Nat) (n:Int) (d:Nat) (hk:k<4):LJ k n (d:Int)=ro (Lute.powerOf k n d):=by
 match k,hk with
 |0,_=>rfl
 |1,_=>rfl
 |2,_=>rfl
 |3,_=>rfl
theorem UA {c:UInt8} {r:List UInt8} {k:Nat} {w:Option (Int×Nat)} {u:List UInt8} (h:Lute.factorAt p (c::r)= .ok ((k,w),q,u)):[(50:UInt8),51,53,55].idxOf? c=some k:=by
 rw[Lute.factorAt.eq_def] at h;dsimp only at h;cases hk:[(50:UInt8),51,53,55].idxOf? c with
 |none=>rw[hk] at h;cases h
 |some j=>
  rw[hk] at h;dsimp only at h;split at h
  ·split at h
   ·cases h
   ·split at h
    ·split at h
     ·cases h
     ·cases h;rfl
    ·cases h;rfl
  ·cases h;rfl
theorem aM:∀(f least p:Nat) (x:Iv) (l:List UInt8),chk (mFc dz0 fz0 f least (ro x) l)=(fe (Lute.factorsAt f least x p l)).map ro
 |0,least,p,x,l=>rfl
 |f+1,least,p,x,l=>by
  rw[mFc,Lute.factorsAt];cases l with
  |nil=>rfl
  |cons c r=>
   rw[BS,dR];cases hk:[(50:UInt8),51,53,55].idxOf? c with
   |none=>
    have e:Lute.factorAt p (c::r)= .error p:=by
     rw[Lute.factorAt.eq_def];dsimp only;rw[hk]
    rw[e];rfl
   |some k=>
    show chk (match mPw dz0 r with
     |none=>none
     |some (x_1,u)=>_)=_
    have hk4:k<4:=by
     have:=(u9.mp hk).1;simpa using this
    rw[jZ p k c r hk];cases hfa:Lute.factorAt p (c::r) with
    |error e=>rfl
    |ok y=>
     obtain⟨⟨k',w⟩,q,u⟩:=y;have ek:k'=k:=by have:=UA hfa;rw[hk] at this;exact(cw this).symm
     subst ek;cases w with
     |none=>
      dsimp only;by_cases hl:k'<least
      ·rw[Ax hl];rfl
      ·rw[Ay hl];rfl
     |some nd=>
      obtain⟨n,d⟩:=nd;show chk (if k'<least then none else _)=_;dsimp only;by_cases hl:k'<least
      ·rw[Ax hl,Ax hl];rfl
      ·rw[Ay hl,Ay hl];have e1:BU (LJ k' (([n,(d:Int)]:List Int).getD 0 0) (([n,(d:Int)]:List Int).getD 1 0)) (ro x)=ro (x.plus (Lute.powerOf k' n d)):=by
        show BU (LJ k' n (d:Int)) (ro x)=_;rw[j0 k' n d hk4,aL,HV]
       rw[e1];cases u with
       |nil=>
        show(if F6 (ro (x.plus (Lute.powerOf k' n d)))=true then some (ro (x.plus (Lute.powerOf k' n d))) else none)=(fe (if(x.plus (Lute.powerOf k' n d)).ok=true then Except.ok (x.plus (Lute.powerOf k' n d)) else zJ q)).map ro;rw[fQ];by_cases hy:(x.plus (Lute.powerOf k' n d)).ok=true
        ·rw[Ax hy,Ax hy];rfl
        ·rw[Ay hy,Ay hy];rfl
       |cons z v=>
        rw[Ay (by simp),FH (z:=" ") (x:=32) rfl];dsimp only;by_cases hz:z=32
        ·rw[Ax hz,Ax hz];exact aM f (k'+1) (q+1) _ v
        ·rw[Ay hz,Ay hz];rfl
theorem aN (l:List UInt8):mIv dz0 fz0 l=(fe (Lute.read l)).map ro:=by
 have e2:∀l,(match RP dz0 fz0 l with
  |none=>none
  |some (x,_)=>if F6 x=true then some x else none)=(fe (Lute.factorsAt (l.length+1) 0 Lute.unison 0 l)).map ro:=λl=>by
  have:=aM (l.length+1) 0 0 Lute.unison l;rw[pU] at this;rw[←this];unfold RP;cases mFc dz0 fz0 (l.length+1) 0 un5 l with
  |none=>rfl
  |some y=>obtain⟨y,t⟩:=y;rfl
 unfold mIv;cases l with
 |nil=>exact e2 []
 |cons c r=>
  rw[CO (z:="1") (x:=49) rfl];by_cases h:c=49
  ·subst h;rw[Ax (by simp)];unfold mUn;rw[FH (z:="1") (x:=49) rfl,Ax rfl];cases r with
   |nil=>rfl
   |cons y u=>rfl
  ·rw[Ay (by simp[h])];refine(e2 (c::r)).trans ?_;have:Lute.read (c::r)=Lute.factorsAt ((c::r).length+1) 0 Lute.unison 0 (c::r):=by
    unfold Lute.read;split
    ·rename_i q;cases q;exact absurd rfl h
    ·rfl
   rw[this]
theorem aO {b:List UInt8} {x:Iv} (h:Lute.read b= .ok x):0<x.d:=by
 have e:mIv dz0 fz0 b=some (ro x):=by rw[aN,h];rfl
 have:=(ZR e).2.2.1;rw[O0] at this;have h2:(1:Int)<=(x.d:Int):=this;omega
def aP (g:List Int->Bool) (l:List UInt8):Option (List Int×List UInt8):=match sk (" ":Str).cps.toList l with
 |none=>none
 |some (_,t)=>match C4 dz0 fz0 t with
  |none=>none
  |some (x,u)=>if g x=true then(match sk ("\n":Str).cps.toList u with
   |none=>none
   |some (_,v)=>some (x,v)) else none
def rx:Option (Iv×List UInt8)->Option (List Int×List UInt8)
 |none=>none
 |some (x,t)=>some (ro x,t)
theorem j1 (g:List Int->Bool) (fine:Iv->Bool) (h:∀x:Iv,0<x.d->g (ro x)=fine x) (p:Nat) (l:List UInt8):aP g l=rx (fg (Lute.ivLine fine p l)):=by
 unfold aP Lute.ivLine;have e1:sk (" ":Str).cps.toList l=fg (Lute.want [32] p l):=(HZ [32] p l).symm;rw[e1];cases hw:Lute.want [32] p l with
 |error e=>rfl
 |ok y=>
  obtain⟨_,q,u⟩:=y;show(match C4 dz0 fz0 u with
   |none=>none
   |some (x,u)=>_)=rx (fg (match Lute.read (u.takeWhile λ(c:UInt8)=>c != 10) with
   | .error e=>.error (q+e)
   | .ok x=>if fine x=false then .error q else match Lute.want [10] (q+(u.takeWhile λ(c:UInt8)=>c != 10).length) (u.drop (u.takeWhile λ(c:UInt8)=>c != 10).length) with
     | .error e=>.error e
     | .ok (_,z,v)=>.ok (x,z,v)))
  have e2:u.takeWhile lf=u.takeWhile λ(c:UInt8)=>c != 10:=rfl;unfold C4;rw[e2,aN];generalize hb:(u.takeWhile λ(c:UInt8)=>c != 10)=b;cases hr:Lute.read b with
  |error e=>rfl
  |ok x=>
   show(if g (ro x)=true then _ else _)=_;rw[h x (aO hr)];cases hf:fine x with
   |false=>
    dsimp only;rw[Ax hf];rfl
   |true=>
    rw[Ax rfl];dsimp only;rw[Ay (by rw[hf];decide)];have e3:sk ("\n":Str).cps.toList (u.drop b.length)=fg (Lute.want [10] (q+b.length) (u.drop b.length)):=(HZ [10] _ _).symm;rw[e3];cases Lute.want [10] (q+b.length) (u.drop b.length) with
    |error e=>rfl
    |ok y=>obtain⟨_,z,v⟩:=y;rfl
def UB (z:Str) (m:Bool) (g:List Int->Bool) (put:List Int->St3) (l:List UInt8):Option (St3×List UInt8):=match sk z.cps.toList l with
 |none=>none
 |some (_,t)=>if m=true then(match aP g t with
  |none=>none
  |some (x,v)=>some (put x,v)) else none
theorem QF {m:Bool} {g:List Int->Bool} {put:List Int->St3} {l:List UInt8}:
 (match (match mSW z m l with
  |none=>none
  |some (_,t)=>match C4 dz0 fz0 t with
   |none=>none
   |some (x,u)=>if g x=true then some (put x,u) else none:Option (St3×List UInt8)) with
 |none=>none
 |some (s',t)=>match sk ("\n":Str).cps.toList t with
  |none=>none
  |some (_,u)=>some (s',u))=UB z m g put l:=by
 unfold UB mSW aP;cases sk z.cps.toList l with
 |none=>rfl
 |some y=>
  obtain⟨_,t⟩:=y;cases m with
  |false=>rfl
  |true=>
   simp only[if_true];cases sk (" ":Str).cps.toList t with
   |none=>rfl
   |some y=>
    obtain⟨_,t⟩:=y;simp only;cases C4 dz0 fz0 t with
    |none=>rfl
    |some y=>
     obtain⟨x,u⟩:=y;simp only;cases hg:g x with
     |false=>rfl
     |true=>
      simp only[if_true];cases sk ("\n":Str).cps.toList u with
      |none=>rfl
      |some y=>obtain⟨_,v⟩:=y;rfl
theorem dU {l:List UInt8} (h:see "f" l=true/\co.length=0):CV dz0 fz0 (fr,co,ba) l=UB "fret" (decide (fr.length<15)) (λx=>BG (fr.getLastD un5) x) (λx=>(fr++[x],co,ba)) l:=by
 unfold CV;rw[HI,Ax h,ND, ←QF];all_goals rfl
theorem dW {l:List UInt8} (h1:¬(see "f" l=true/\co.length=0)) (h:see "c" l=true/\ba.length=0):CV dz0 fz0 (fr,co,ba) l=UB "course" (decide (co.length+ba.length<14)) (λx=>fr.all λf=>F6 (BU f x)) (λx=>(fr,co++[x],ba)) l:=by
 unfold CV;rw[HI,Ay h1,Ax h,FN, ←QF];all_goals rfl
theorem dX {l:List UInt8} (h1:¬(see "f" l=true/\co.length=0)) (h2:¬(see "c" l=true/\ba.length=0)) (h:see "b" l=true/\0<co.length):CV dz0 fz0 (fr,co,ba) l=UB "bass" (decide (co.length+ba.length<14)) (λx=>true) (λx=>(fr,co,ba++[x])) l:=by
 unfold CV;rw[HI,Ay h1,Ay h2,Ax h,JN, ←QF];simp only[if_true];all_goals rfl
theorem V7 {l:List UInt8} (h1:¬(see "f" l=true/\co.length=0)) (h2:¬(see "c" l=true/\ba.length=0)) (h3:¬(see "b" l=true/\0<co.length)):CV dz0 fz0 (fr,co,ba) l=none:=by
 unfold CV;rw[HI,Ay h1,Ay h2,Ay h3]
def sLn (bs:List UInt8) (m:Bool) (fine:Iv->Bool) (put:Iv->Lute.Inst) (k:Lute.Inst->Nat->List UInt8->Except Nat Lute.Inst) (p:Nat) (l:List UInt8):Except Nat Lute.Inst:=match Lute.want bs p l with
 | .error e=>.error e
 | .ok (_,q,u)=>if m=true then .error p else match Lute.ivLine fine q u with
   | .error e=>.error e
   | .ok (x,q,u)=>k (put x) q u
def fr3 (t:Lute.Inst):St3:=(t.frets.map ro,t.courses.map ro,t.basses.map ro)
theorem MA:∀{bs:List UInt8} {p q:Nat} {l u:List UInt8},Lute.want bs p l= .ok ((),q,u)->u.length+bs.length=l.length
 |[],p,q,l,u,h=>by rw[Lute.want] at h;cases h;rfl
 |x::bs,p,q,[],u,h=>by rw[Lute.want] at h;cases h
 |x::bs,p,q,c::l,u,h=>by
  rw[Lute.want] at h;split at h
  ·have:=MA h;simp only[dc];omega
  ·cases h
theorem aQ {fine:Iv->Bool} {l u:List UInt8} {x:Iv} (h:Lute.ivLine fine p l= .ok (x,q,u)):0<x.d/\u.length<=l.length:=by
 unfold Lute.ivLine at h;cases hw:Lute.want [32] p l with
 |error e=>rw[hw] at h;cases h
 |ok y=>
  obtain⟨_,q',t⟩:=y;have h1:=MA hw;rw[hw] at h;dsimp only at h;cases hr:Lute.read (t.takeWhile λ(c:UInt8)=>c != 10) with
  |error e=>rw[hr] at h;cases h
  |ok y=>
   rw[hr] at h;dsimp only at h;split at h
   ·cases h
   ·split at h
    ·cases h
    ·rename_i hw2;cases h;have h2:=MA hw2;rw[fx] at h2;exact⟨aO hr,by omega⟩
theorem QG {bs:List UInt8} {m m':Bool} {g:List Int->Bool} {fine:Iv->Bool} {put:List Int->St3} {put':Iv->Lute.Inst} {k:Lute.Inst->Nat->List UInt8->Except Nat Lute.Inst} {F:St3->List UInt8->Option St3} {l:List UInt8}
 (hz:z.cps.toList=bs.map (·.toNat)) (hm:m'=!m) (hg:∀x:Iv,0<x.d->g (ro x)=fine x) (hp:∀x,put (ro x)=fr3 (put' x)) (hk:∀x q u,0<x.d->u.length+bs.length<=l.length->F (put (ro x)) u=(fe (k (put' x) q u)).map fr3):
 (match UB z m g put l with
  |none=>none
  |some (s,t)=>F s t)=(fe (sLn bs m' fine put' k p l)).map fr3:=by
 unfold UB sLn;have e1:sk z.cps.toList l=fg (Lute.want bs p l):=by rw[hz];exact(HZ bs p l).symm
 rw[e1];cases hw:Lute.want bs p l with
 |error e=>rfl
 |ok y=>
  obtain⟨_,q,u⟩:=y;have hl:=MA hw;subst hm;cases m with
  |false=>rfl
  |true=>
   show(match (match aP g u with
    |none=>none
    |some (x,v)=>some (put x,v):Option (St3×List UInt8)) with
    |none=>none
    |some (s,t)=>F s t)=(fe (match Lute.ivLine fine q u with
    | .error e=>.error e
    | .ok (x,q,u)=>k (put' x) q u)).map fr3
   rw[j1 g fine hg q u];cases hv:Lute.ivLine fine q u with
   |error e=>rfl
   |ok y=>
    obtain⟨x,q2,v⟩:=y;have hd:=aQ hv;exact hk x q2 v hd.1 (by omega)
theorem aR:∀(l:List Iv),(l.map ro).getLastD un5=ro (l.getLastD Lute.unison):=λl=>by
 rw[jl,jl,w6];cases l.getLast?<;>rfl
theorem dY {l:List Iv} (h:∀x∈l,0<x.d):0<(l.getLastD Lute.unison).d:=by
 rw[jl];cases hl:l.getLast? with
 |none=>decide
 |some x=>exact h x (v6 hl)
theorem j2 (l:List Iv) (x:Iv):((l.map ro).all λf=>F6 (BU f (ro x)))=Lute.soundsAll l x:=by
 unfold Lute.soundsAll;rw[List.all_map];congr 1;funext f;show F6 (BU (ro f) (ro x))=_;rw[aL,HV,fQ]
theorem isE (l:List α):l.isEmpty=true↔l.length=0:=by cases l<;>simp
theorem O2:∀(f p:Nat) (t:Lute.Inst) (l:List UInt8),l.length<f->InK t->CD dz0 fz0 f (fr3 t) l=(fe (Lute.linesAt f t p l)).map fr3
 |0,p,t,l,h,_=>by omega
 |f+1,p,t,[],h,hi=>by
  show CD dz0 fz0 (f+1) (t.frets.map ro,t.courses.map ro,t.basses.map ro) []=_;rw[JP,Lute.linesAt];by_cases hc:t.courses.isEmpty=true
  ·rw[Ax hc,Ay (by rw[ai];exact λq=>q.2 ((isE _).mp hc)),V7 (by rw[JR];rintro ⟨q,_⟩;cases q) (by rw[JR];rintro ⟨q,_⟩;cases q) (by rw[JR];rintro ⟨q,_⟩;cases q)];rfl
  ·rw[Ay hc,Ax ⟨rfl,by rw[ai];exact λq=>hc ((isE _).mpr q)⟩];rfl
 |f+1,p,t,c::r,h,hi=>by
  show CD dz0 fz0 (f+1) (t.frets.map ro,t.courses.map ro,t.basses.map ro) (c::r)=_;rw[JP,Lute.linesAt,Ay (by rintro ⟨q,_⟩;cases q)];have hlen:r.length<f:=by simpa using h
  have ih:∀(t':Lute.Inst) (q:Nat) (u:List UInt8),InK t'->u.length<f->CD dz0 fz0 f (fr3 t') u=(fe (Lute.linesAt f t' q u)).map fr3:=λt' q u h1 h2=>O2 f q t' u h2 h1;have c1:(see "f" (c::r)=true/\(t.courses.map ro).length=0)↔(c=102/\t.courses.isEmpty=true):=by rw[CO (z:="f") (x:=102) rfl,ai,isE];simp
  have c2:(see "c" (c::r)=true/\(t.basses.map ro).length=0)↔(c=99/\t.basses.isEmpty=true):=by rw[CO (z:="c") (x:=99) rfl,ai,isE];simp
  have c3:(see "b" (c::r)=true/\0<(t.courses.map ro).length)↔(c=98/\t.courses.isEmpty=false):=by
   rw[CO (z:="b") (x:=98) rfl,ai];cases t.courses<;>simp
  by_cases k1:c=102/\t.courses.isEmpty=true
  ·rw[Ax k1,dU (c1.mpr k1)];have:=QG (z:="fret") (bs:=Lute.ascii "fret") (m:=decide ((t.frets.map ro).length<15)) (m':=decide (Lute.FRETS<=t.frets.length)) (g:=λx=>BG ((t.frets.map ro).getLastD un5) x) (fine:=λ(x:Iv)=>(t.frets.getLastD Lute.unison).lt x)
    (put:=λx=>(t.frets.map ro++[x],t.courses.map ro,t.basses.map ro)) (put':=λx=>{ t with frets:=t.frets++[x] }) (k:=λt' q u=>Lute.linesAt f t' q u) (F:=λs t=>CD dz0 fz0 f s t) (p:=p) (l:=c::r) (by decide +kernel)
    (by rw[ai, ←decide_not,decide_eq_decide];show 15<=_↔_;omega) (λx hx=>by rw[aR];exact K9 _ _ (dY hi.1) hx) (λx=>by show _=fr3 _;unfold fr3;simp)
    (λx q u hx hu=>by
     have e:(t.frets.map ro++[ro x],t.courses.map ro,t.basses.map ro)=fr3 { t with frets:=t.frets++[x] }:=by unfold fr3;simp
     show CD dz0 fz0 f (t.frets.map ro++[ro x],t.courses.map ro,t.basses.map ro) u=_;rw[e];refine ih _ q u ⟨λy hy=>?_,hi.2.1,hi.2.2⟩ ?_
     ·rcases cn.mp hy with hy|hy
      ·exact hi.1 y hy
      ·rw[io.mp hy];exact hx
     ·have hb:(Lute.ascii "fret").length=4:=by decide +kernel
      rw[hb] at hu;simp at hu;omega)
   refine tD this ?_;unfold sLn;cases Lute.want (Lute.ascii "fret") p (c::r) with
   |error e=>rfl
   |ok y=>
    obtain⟨_,q,u⟩:=y;dsimp only;by_cases hF:Lute.FRETS<=t.frets.length
    ·rw[Ax (by simpa using hF),Ax hF]
    ·rw[Ay (by simpa using hF),Ay hF];rfl
  ·rw[Ay k1];by_cases k2:c=99/\t.basses.isEmpty=true
   ·rw[Ax k2,dW (λq=>k1 (c1.mp q)) (c2.mpr k2)];have:=QG (z:="course") (bs:=Lute.ascii "course") (m:=decide ((t.courses.map ro).length+(t.basses.map ro).length<14)) (m':=decide (Lute.COURSES<=t.opens.length)) (g:=λx=>(t.frets.map ro).all λf=>F6 (BU f x)) (fine:=Lute.soundsAll t.frets)
     (put:=λx=>(t.frets.map ro,t.courses.map ro++[x],t.basses.map ro)) (put':=λx=>{ t with courses:=t.courses++[x] }) (k:=λt' q u=>Lute.linesAt f t' q u) (F:=λs t=>CD dz0 fz0 f s t) (p:=p) (l:=c::r) (by decide +kernel)
     (by rw[ai,ai, ←decide_not,decide_eq_decide];unfold Lute.Inst.opens;rw[bq];show 14<=_↔_;omega) (λx hx=>j2 _ _) (λx=>by show _=fr3 _;unfold fr3;simp)
     (λx q u hx hu=>by
      have e:(t.frets.map ro,t.courses.map ro++[ro x],t.basses.map ro)=fr3 { t with courses:=t.courses++[x] }:=by unfold fr3;simp
      show CD dz0 fz0 f (t.frets.map ro,t.courses.map ro++[ro x],t.basses.map ro) u=_;rw[e];refine ih _ q u ⟨hi.1,λy hy=>?_,hi.2.2⟩ ?_
      ·rcases cn.mp hy with hy|hy
       ·exact hi.2.1 y hy
       ·rw[io.mp hy];exact hx
      ·have hb:(Lute.ascii "course").length=6:=by decide +kernel
       rw[hb] at hu;simp at hu;omega)
    refine tD this ?_;unfold sLn;cases Lute.want (Lute.ascii "course") p (c::r) with
    |error e=>rfl
    |ok y=>
     obtain⟨_,q,u⟩:=y;dsimp only;by_cases hF:Lute.COURSES<=t.opens.length
     ·rw[Ax (by simpa using hF),Ax hF]
     ·rw[Ay (by simpa using hF),Ay hF];rfl
   ·rw[Ay k2];by_cases k3:c=98/\t.courses.isEmpty=false
    ·rw[Ax k3,dX (λq=>k1 (c1.mp q)) (λq=>k2 (c2.mp q)) (c3.mpr k3)];have:=QG (z:="bass") (bs:=Lute.ascii "bass") (m:=decide ((t.courses.map ro).length+(t.basses.map ro).length<14)) (m':=decide (Lute.COURSES<=t.opens.length)) (g:=λx=>true) (fine:=λ_=>true)
      (put:=λx=>(t.frets.map ro,t.courses.map ro,t.basses.map ro++[x])) (put':=λx=>{ t with basses:=t.basses++[x] }) (k:=λt' q u=>Lute.linesAt f t' q u) (F:=λs t=>CD dz0 fz0 f s t) (p:=p) (l:=c::r) (by decide +kernel)
      (by rw[ai,ai, ←decide_not,decide_eq_decide];unfold Lute.Inst.opens;rw[bq];show 14<=_↔_;omega) (λx hx=>rfl) (λx=>by show _=fr3 _;unfold fr3;simp)
      (λx q u hx hu=>by
       have e:(t.frets.map ro,t.courses.map ro,t.basses.map ro++[ro x])=fr3 { t with basses:=t.basses++[x] }:=by unfold fr3;simp
       show CD dz0 fz0 f (t.frets.map ro,t.courses.map ro,t.basses.map ro++[ro x]) u=_;rw[e];refine ih _ q u ⟨hi.1,hi.2.1,λy hy=>?_⟩ ?_
       ·rcases cn.mp hy with hy|hy
        ·exact hi.2.2 y hy
        ·rw[io.mp hy];exact hx
       ·have hb:(Lute.ascii "bass").length=4:=by decide +kernel
        rw[hb] at hu;simp at hu;omega)
     refine tD this ?_;unfold sLn;cases Lute.want (Lute.ascii "bass") p (c::r) with
     |error e=>rfl
     |ok y=>
      obtain⟨_,q,u⟩:=y;dsimp only;by_cases hF:Lute.COURSES<=t.opens.length
      ·rw[Ax (by simpa using hF),Ax hF]
      ·rw[Ay (by simpa using hF),Ay hF];rfl
    ·rw[Ay k3,V7 (λq=>k1 (c1.mp q)) (λq=>k2 (c2.mp q)) (λq=>k3 (c3.mp q))];rfl
theorem NQ (cs:List UInt8):JO dz0 fz0 cs=(fe (Lute.readInst cs)).map fr3:=by
 unfold JO W7 Lute.readInst;have e1:sk ("length ":Str).cps.toList cs=fg (Lute.want (Lute.ascii "length ") 0 cs):=by
  rw[show("length ":Str).cps.toList=(Lute.ascii "length ").map (·.toNat) by decide +kernel];exact(HZ _ 0 cs).symm
 rw[e1];cases Lute.want (Lute.ascii "length ") 0 cs with
 |error e=>rfl
 |ok y=>
  obtain⟨_,p,u⟩:=y;show(match (if see "0" u=true then none else match wn dz0 7 u with
   |none=>none
   |some (n,u)=>if n<10000\/200000<n then none else sk ("\n":Str).cps.toList u:Option (Unit×List UInt8)) with
   |none=>none
   |some (_,t)=>CD dz0 fz0 (t.length+1) ([],[],[]) t)=(fe (match Lute.longNumber p u with
   | .error e=>.error e
   | .ok (n,q,v)=>if n<Lute.SHORT\/Lute.LONG<n then .error p else match Lute.want [10] q v with
     | .error e=>.error e
     | .ok (_,q,v)=>Lute.linesAt (v.length+1) ⟨n,[],[],[]⟩ q v)).map fr3
  have e2:(if see "0" u=true then none else match wn dz0 7 u with
   |none=>none
   |some (n,u)=>if n<10000\/200000<n then none else sk ("\n":Str).cps.toList u:Option (Unit×List UInt8))=match fg (Lute.longNumber p u) with
   |none=>none
   |some (n,u)=>if n<10000\/200000<n then none else sk ("\n":Str).cps.toList u:=by
   rw[←dS p u];by_cases h0:see "0" u=true
   ·rw[Ax h0,Ax h0]
   ·rw[Ay h0,Ay h0]
  rw[e2];cases Lute.longNumber p u with
  |error e=>rfl
  |ok y=>
   obtain⟨n,q,v⟩:=y;show(match (if n<10000\/200000<n then none else sk ("\n":Str).cps.toList v:Option (Unit×List UInt8)) with
    |none=>none
    |some (_,t)=>CD dz0 fz0 (t.length+1) ([],[],[]) t)=(fe (if n<Lute.SHORT\/Lute.LONG<n then .error p else _)).map fr3
   by_cases hn:n<10000\/200000<n
   ·rw[Ax hn,Ax (show n<Lute.SHORT\/Lute.LONG<n from hn)];rfl
   ·rw[Ay hn,Ay (show¬(n<Lute.SHORT\/Lute.LONG<n) from hn)];have e3:sk ("\n":Str).cps.toList v=fg (Lute.want [10] q v):=(HZ [10] q v).symm;rw[e3];cases Lute.want [10] q v with
    |error e=>rfl
    |ok y=>
     obtain⟨_,q2,v2⟩:=y;exact O2 (v2.length+1) q2 ⟨n,[],[],[]⟩ v2 (by omega) ⟨by simp,by simp,by simp⟩
theorem HP:∀(bs:List UInt8) (p:Nat) (l:List UInt8),fg (LuteTab.want bs p l)=sk (bs.map (·.toNat)) l
 |[],p,l=>rfl
 |x::bs,p,[]=>rfl
 |x::bs,p,c::t=>by
  rw[LuteTab.want,cz,sk];by_cases h:c=x
  ·rw[Ax h,Ax (by rw[h]),HP]
  ·rw[Ay h,Ay (λq=>h ((O1 c x).mp q))];rfl
theorem pV (c:UInt8):BR (zF++".").cps.toList ((c.toNat:Nat):Int)=if c=46 then some 16 else LuteTab.letters.idxOf? c:=NO (p:=λc=>BR (zF++".").cps.toList ((c.toNat:Nat):Int)=if c=46 then some 16 else LuteTab.letters.idxOf? c) (by decide +kernel) c
theorem pW (c:UInt8):BR (zI++".").cps.toList ((c.toNat:Nat):Int)=if c=46 then some 16 else LuteTab.figures.idxOf? c:=NO (p:=λc=>BR (zI++".").cps.toList ((c.toNat:Nat):Int)=if c=46 then some 16 else LuteTab.figures.idxOf? c) (by decide +kernel) c
theorem fS (c:UInt8):BR zP.cps.toList ((c.toNat:Nat):Int)=LuteTab.capitals.idxOf? c:=NO (p:=λc=>BR zP.cps.toList ((c.toNat:Nat):Int)=LuteTab.capitals.idxOf? c) (by decide +kernel) c
theorem fT (c:UInt8):BR zX.cps.toList ((c.toNat:Nat):Int)=LuteTab.crossings.idxOf? c:=NO (p:=λc=>BR zX.cps.toList ((c.toNat:Nat):Int)=LuteTab.crossings.idxOf? c) (by decide +kernel) c
theorem pX (c:UInt8):BR zL.cps.toList ((c.toNat:Nat):Int)=[(120:UInt8),116,115,101,113,104,119].idxOf? c:=NO (p:=λc=>BR zL.cps.toList ((c.toNat:Nat):Int)=[(120:UInt8),116,115,101,113,104,119].idxOf? c) (by decide +kernel) c
theorem R8 (c:UInt8):BR ("4567":Str).cps.toList ((c.toNat:Nat):Int)=if 52<=c/\c<=55 then some (c.toNat - 52) else none:=NO (p:=λc=>BR ("4567":Str).cps.toList ((c.toNat:Nat):Int)=if 52<=c/\c<=55 then some (c.toNat - 52) else none) (by decide +kernel) c
theorem dZ (c:UInt8):BR ("789":Str).cps.toList ((c.toNat:Nat):Int)=if 55<=c/\c<=57 then some (c.toNat - 55) else none:=NO (p:=λc=>BR ("789":Str).cps.toList ((c.toNat:Nat):Int)=if 55<=c/\c<=57 then some (c.toNat - 55) else none) (by decide +kernel) c
theorem XO (c:UInt8):BR ("01234":Str).cps.toList ((c.toNat:Nat):Int)=if 48<=c/\c<=52 then some (c.toNat - 48) else none:=NO (p:=λc=>BR ("01234":Str).cps.toList ((c.toNat:Nat):Int)=if 48<=c/\c<=52 then some (c.toNat - 48) else none) (by decide +kernel) c
theorem O3 (c:UInt8):BR ("54321":Str).cps.toList ((c.toNat:Nat):Int)=if 49<=c/\c<=53 then some (53 - c.toNat) else none:=NO (p:=λc=>BR ("54321":Str).cps.toList ((c.toNat:Nat):Int)=if 49<=c/\c<=53 then some (53 - c.toNat) else none) (by decide +kernel) c
theorem V8 (c:UInt8) (n:Nat) (hn:n<256):(uF n<=c↔n<=c.toNat)/\(c<=uF n↔c.toNat<=n):=by
 have e:(uF n).toNat=n:=by rw[wE];omega
 constructor
 ·rw[vK,e]
 ·rw[vK,e]
theorem aS {l:List UInt8} {c:UInt8} (h:l.idxOf? c=some i):i<l.length:=(u9.mp h).1
theorem IA {signs:List UInt8} (hz:z.length=16) (hs:signs.length=16) (hi:∀c:UInt8,BR (z++".").cps.toList ((c.toNat:Nat):Int)=if c=46 then some 16 else signs.idxOf? c):∀(ns:List Nat) (p:Nat) (l:List UInt8),B3 z ns l=fg (LuteTab.sixAt signs ns p l)
 |[],p,l=>rfl
 |n::ns,p,[]=>rfl
 |n::ns,p,c::t=>by
  rw[B3,LuteTab.sixAt,BS,hi,LuteTab.fretAt];by_cases h:c=46
  ·rw[Ax h,Ax (show c=LuteTab.POINT from h)];show(match B3 z ns t with
    |none=>none
    |some (s,u)=>some ((if 16<z.length then⟨n,16⟩::s else s),u))=fg (match LuteTab.sixAt signs ns (p+1) t with
    | .error e=>.error e
    | .ok (s,z,v)=>.ok (s,z,v))
   rw[IA hz hs hi ns (p+1) t];cases LuteTab.sixAt signs ns (p+1) t with
   |error e=>rfl
   |ok y=>
    obtain⟨s,q,v⟩:=y;show some ((if 16<z.length then _ else s),v)=some (s,v);rw[Ay (by omega)]
  ·rw[Ay h,Ay (show¬c=LuteTab.POINT from h)];cases hx:signs.idxOf? c with
   |none=>rfl
   |some f=>
    have hf:=aS hx;show(match B3 z ns t with
     |none=>none
     |some (s,u)=>some ((if f<z.length then⟨n,f⟩::s else s),u))=fg (match LuteTab.sixAt signs ns (p+1) t with
     | .error e=>.error e
     | .ok (s,z,v)=>.ok (⟨n,f⟩::s,z,v))
    rw[IA hz hs hi ns (p+1) t];cases LuteTab.sixAt signs ns (p+1) t with
    |error e=>rfl
    |ok y=>
     obtain⟨s,q,v⟩:=y;show some ((if f<z.length then _ else s),v)=some (⟨n,f⟩::s,v);rw[Ax (by omega)]
theorem fU:∀(l:List UInt8) (n p:Nat),n<=3->mSl (3 - n) l=fg (LuteTab.slashes n p l)
 |[],n,p,hn=>by
  rw[LuteTab.slashes.eq_def];match n,hn with
  |0,_=>rfl
  |1,_=>rfl
  |2,_=>rfl
  |3,_=>rfl
 |c::t,n,p,hn=>by
  by_cases h1:c=47
  ·subst h1;have e:LuteTab.slashes n p (47::t)=if n<3 then LuteTab.slashes (n+1) (p+1) t else .error p:=by rw[LuteTab.slashes.eq_def];rfl
   rw[e];by_cases h3:n<3
   ·obtain⟨m,hm⟩:∃m,3 - n=m+1:=⟨2 - n,by omega⟩
    rw[Ax h3,hm,mSl,CO (z:="/") (x:=47) rfl,Ax (by simp),FH (z:="/") (x:=47) rfl,Ax rfl];show mSl m t=_;rw[show m=3 - (n+1) by omega];exact fU t (n+1) (p+1) (by omega)
   ·have:n=3:=by omega
    subst this;rw[Ay h3,w9,mSl,FH (z:="a") (x:=97) rfl,Ay (by decide)];rfl
  ·have e:LuteTab.slashes n p (c::t)=if c=97 then .ok (7+n,p+1,t) else .error p:=by
    by_cases h2:c=97
    ·subst h2;rw[Ax rfl,LuteTab.slashes.eq_def];rfl
    ·rw[Ay h2,LuteTab.slashes.eq_def];split
     ·rename_i q;cases q;exact absurd rfl h1
     ·rename_i q;cases q;exact absurd rfl h2
     ·rfl
   rw[e];have key:mSl (3 - n) (c::t)=match sk ("a":Str).cps.toList (c::t) with
    |none=>none
    |some (_,t)=>some (7+n,t):=by
    by_cases h3:n<3
    ·obtain⟨m,hm⟩:∃m,3 - n=m+1:=⟨2 - n,by omega⟩
     rw[hm,mSl,CO (z:="/") (x:=47) rfl,Ay (by simp[h1]),show 9 - m=7+n by omega];all_goals rfl
    ·have:n=3:=by omega
     subst this;rw[w9,mSl];all_goals rfl
   rw[key,FH (z:="a") (x:=97) rfl];by_cases h2:c=97
   ·rw[Ax h2,Ax h2];rfl
   ·rw[Ay h2,Ay h2];rfl
theorem pY (p:Nat) (l:List UInt8):mFB l=fg (LuteTab.frenchBassAt p l):=by
 cases l with
 |nil=>rfl
 |cons c t=>
  unfold mFB;rw[LuteTab.frenchBassAt];have hs:see "4567" (c::t)=(if 52<=c/\c<=55 then some (c.toNat - 52) else none:Option Nat).isSome:=by
   show(BR ("4567":Str).cps.toList ((c.toNat:Nat):Int)).isSome=_;rw[R8]
  rw[hs,BS,R8];by_cases h:52<=c/\c<=55
  ·have h1:52<=c.toNat:=(V8 c 52 (by decide)).1.mp h.1;rw[Ax h,Ax h];show some (7+4+(c.toNat - 52),t)=some (c.toNat - 48+7,t);congr 2;omega
  ·rw[Ay h,Ay h];exact fU (c::t) 0 p (by omega)
theorem fV (p:Nat) (l:List UInt8):mBN l=fg (LuteTab.numberAt p l):=by
 cases l with
 |nil=>rfl
 |cons c t=>
  unfold mBN;rw[LuteTab.numberAt.eq_def,CO (z:="1") (x:=49) rfl,BS,dZ];dsimp only;by_cases h:c=49
  ·subst h;rw[Ax (by simp),Ay (by decide),Ax rfl,FH (z:="1") (x:=49) rfl,Ax rfl];cases t with
   |nil=>rfl
   |cons d u=>
    show(match pk "01234" (d::u) with
     |none=>none
     |some (n,u)=>some (10+n,u))=fg (if 48<=d/\d<=52 then .ok (10+(d.toNat - 48),p+2,u) else .error (p+1))
    rw[BS,XO];by_cases hd:48<=d/\d<=52
    ·rw[Ax hd,Ax hd];rfl
    ·rw[Ay hd,Ay hd];rfl
  ·rw[Ay (by simp[h])];by_cases h7:55<=c/\c<=57
   ·have h1:55<=c.toNat:=(V8 c 55 (by decide)).1.mp h7.1;rw[Ax h7,Ax h7];show some (7+(c.toNat - 55),t)=some (c.toNat - 48,t);congr 2;omega
   ·rw[Ay h7,Ay h7,Ay h];rfl
theorem sE {l:List UInt8} (h:mFB l=some (n,t)):7<=n:=by
 unfold mFB at h;split at h
 ·cases hp:pk "4567" l with
  |none=>rw[hp] at h;cases h
  |some x=>obtain⟨i,y⟩:=x;rw[hp] at h;cases h;omega
 ·have:∀{f:Nat} {l t:List UInt8} {n:Nat},f<=3->mSl f l=some (n,t)->7<=n:=by
   intro f;induction f with
   |zero=>
    intro l t n _ h;rw[mSl] at h;split at h
    ·cases h
    ·cases h;omega
   |succ f ih=>
    intro l t n hf h;rw[mSl] at h;split at h
    ·split at h
     ·cases h
     ·exact ih (by omega) h
    ·split at h
     ·cases h
     ·cases h;omega
  exact this (by omega) h
theorem pZ {l:List UInt8} (h:mBN l=some (n,t)):7<=n:=by
 unfold mBN at h;split at h
 ·split at h
  ·cases h
  ·split at h
   ·cases h
   ·cases h;omega
 ·split at h
  ·cases h
  ·cases h;omega
def DZ:Option (List Stop×List UInt8)->Option (List Stop×List UInt8)
 |none=>none
 |some (s,t)=>match sk ("\n":Str).cps.toList t with
  |none=>none
  |some (_,u)=>some (s,u)
def LO (k:Nat) (acc:List Stop) (last:Nat):Prop:=∀s:Stop,k<=s.course->CY acc s=decide (last<s.course)
theorem V9 (k:Nat) (acc:List Stop) (s:Stop):LO k (acc++[s]) s.course:=λs' _=>by
 unfold CY;rw[List.getLast?_append];rfl
theorem aU (k:Nat) (hk:1<=k):LO k [] 0:=λs' h=>by
 unfold CY;exact(decide_eq_true (by omega)).symm
theorem WA {acc:List Stop} (h:∀s∈acc,s.course<=6):LO 7 acc 6:=λs' h'=>by
 unfold CY;cases hl:acc.getLast? with
 |none=>exact(decide_eq_true (by omega)).symm
 |some x=>
  have:=h x (v6 hl);show decide (x.course<s'.course)=decide (6<s'.course);rw[decide_eq_decide];omega
theorem R9 (acc:List Stop) (s:Stop) (o:Option (List Stop×List UInt8)):pre (acc++[s]) o=pre acc (match o with
 |none=>none
 |some (l,t)=>some (s::l,t)):=by
 cases o with
 |none=>rfl
 |some x=>obtain⟨l,t⟩:=x;simp[pre]
theorem aV {m:List UInt8->Option (Nat×List UInt8)} {rd:Nat->List UInt8->LuteTab.Rd Nat} (hm:∀p l,m l=fg (rd p l)) (h7:∀{l t n},m l=some (n,t)->7<=n) (hl:∀{l t n},m l=some (n,t)->t.length<l.length):
 ∀(f:Nat) (acc:List Stop) (last p:Nat) (l:List UInt8),l.length<f->LO 7 acc last->DZ (mBs m f acc l)=pre acc (fg (LuteTab.bassesAt rd f last p l))
 |0,_,_,_,l,h,_=>by omega
 |f+1,acc,last,p,[],h,lo=>by
  rw[mBs,LuteTab.bassesAt,JR,Ay (by decide)];rfl
 |f+1,acc,last,p,c::r,h,lo=>by
  rw[mBs,LuteTab.bassesAt,CO (z:=" ") (x:=32) rfl];by_cases h1:c=10
  ·subst h1;rw[Ay (by decide),Ax (show(10:UInt8)=LuteTab.END from rfl)];show(match sk ("\n":Str).cps.toList (10::r) with
    |none=>none
    |some (_,u)=>some (acc,u))=_
   rw[FH (z:="\n") (x:=10) rfl,Ax rfl];simp[pre,fg]
  ·rw[Ay (show¬c=LuteTab.END from h1)];by_cases h2:c=32
   ·subst h2;rw[Ax (by simp),Ay (by intro q;exact q rfl),FH (z:=" ") (x:=32) rfl,Ax rfl];show DZ (match m r with
     |none=>none
     |some (b,u)=>if CY acc ⟨b,0⟩=true then mBs m f (acc++[⟨b,0⟩]) u else none)=_
    have hr:=hm (p+1) r;rw[hr];cases hrd:rd (p+1) r with
    |error e=>rfl
    |ok y=>
     obtain⟨b,q,u⟩:=y;have hmr:m r=some (b,u):=by rw[hr,hrd];rfl
     have hb:=h7 hmr;have hlen:=hl hmr;show DZ (if CY acc ⟨b,0⟩=true then mBs m f (acc++[⟨b,0⟩]) u else none)=pre acc (fg (if b<=last then .error (p+1) else match LuteTab.bassesAt rd f b q u with
      | .error e=>.error e
      | .ok (l,z,v)=>.ok (⟨b,0⟩::l,z,v)))
     rw[lo ⟨b,0⟩ hb];by_cases Aw:last<b
     ·rw[Ax (by simpa using Aw),Ay (by omega)];have hrl:r.length<f:=by simpa using h
      have ihh:=aV hm h7 hl f (acc++[(⟨b,0⟩:Stop)]) b q u (by omega) (V9 7 acc (⟨b,0⟩:Stop));rw[ihh,R9];cases LuteTab.bassesAt rd f b q u with
      |error e=>rfl
      |ok y=>obtain⟨l,z,v⟩:=y;rfl
     ·rw[Ay (by simpa using Aw),Ax (by omega)];rfl
   ·rw[Ay (by simp[h2]),Ax (show c≠LuteTab.BLANK from h2)];show(match sk ("\n":Str).cps.toList (c::r) with
     |none=>none
     |some (_,u)=>some (acc,u))=_
    rw[FH (z:="\n") (x:=10) rfl,Ay h1];rfl
theorem fW (c:UInt8) (hc:(BR zX.cps.toList ((c.toNat:Nat):Int)).isSome=true):∀(f j:Nat) (t:List UInt8),mTm ((c.toNat:Nat):Int) f j t=some (j+LuteTab.again c f t,t.drop (LuteTab.again c f t))
 |0,j,t=>by rw[mTm,LuteTab.again];rfl
 |f+1,j,[]=>by
  have:¬bt []=((c.toNat:Nat):Int):=by
   show¬(256:Int)=_;have:=yH c;omega
  have e0:LuteTab.again c (f+1) []=0:=rfl;rw[mTm,Ay this,e0];rfl
 |f+1,j,x::r=>by
  rw[mTm,LuteTab.again];have e:(bt (x::r)=((c.toNat:Nat):Int))↔x=c:=by
   rw[←O1];show((x.toNat:Nat):Int)=_↔_;omega
  by_cases h:x=c
  ·subst h;rw[Ax (e.mpr rfl),Ax rfl,BS];obtain⟨i,hi⟩:=qk.mp hc;rw[hi];show mTm ((x.toNat:Nat):Int) f (j+1) r=_;rw[fW x hc f (j+1) r,wo];congr 2;omega
  ·rw[Ay (λq=>h (e.mp q)),Ay h];rfl
theorem p0 (p:Nat) (l:List UInt8):mGS l=fg (LuteTab.germanAt p l):=by
 cases l with
 |nil=>rfl
 |cons c t=>
  unfold mGS;rw[CO (z:="-") (x:=45) rfl,LuteTab.germanAt.eq_def];dsimp only;have hs5:see "54321" (c::t)=(if 49<=c/\c<=53 then some (53 - c.toNat) else none:Option Nat).isSome:=by
   show(BR ("54321":Str).cps.toList ((c.toNat:Nat):Int)).isSome=_;rw[O3]
  have hsP:see zP (c::t)=(LuteTab.capitals.idxOf? c).isSome:=by
   show(BR zP.cps.toList ((c.toNat:Nat):Int)).isSome=_;rw[fS]
  by_cases h:c=45
  ·subst h;rw[Ax (by simp),Ay (by decide),Ax rfl,FH (z:="-") (x:=45) rfl,Ax rfl];show(match mBN t with
    |none=>none
    |some (n,u)=>some ((⟨n,0⟩:Stop),u))=_
   rw[fV (p+1)];cases LuteTab.numberAt (p+1) t with
   |error e=>rfl
   |ok y=>obtain⟨b,q,u⟩:=y;rfl
  ·rw[Ay (by simp[h]),hs5,BS,O3];by_cases h5:49<=c/\c<=53
   ·have h1:49<=c.toNat:=(V8 c 49 (by decide)).1.mp h5.1;have h2:c.toNat<=53:=(V8 c 53 (by decide)).2.mp h5.2;rw[Ax h5,Ax h5];show some ((⟨1+(53 - c.toNat),0⟩:Stop),t)=some (⟨6 - (c.toNat - 48),0⟩,t);congr 3;omega
   ·rw[Ay h5,Ay h5,Ay h,hsP,BS,fS];cases hP:LuteTab.capitals.idxOf? c with
    |some f=>rfl
    |none=>
     show mCr (c::t)=_;unfold mCr;rw[BS,fT];cases hX:LuteTab.crossings.idxOf? c with
     |none=>rfl
     |some i=>
      show(match mTm ((c.toNat:Nat):Int) 2 0 t with
       |none=>none
       |some (j,u)=>some ((⟨5 - i%5,1+i / 5+5*j⟩:Stop),u))=some (⟨5 - i%5,5*LuteTab.again c 2 t+i / 5+1⟩,t.drop (LuteTab.again c 2 t))
      rw[fW c (by rw[fT,hX];rfl)];show some ((⟨5 - i%5,1+i / 5+5*(0+LuteTab.again c 2 t)⟩:Stop),_)=_;congr 3;omega
theorem sF {l:List UInt8} {s:Stop} (h:mGS l=some (s,t)):1<=s.course:=by
 unfold mGS at h;split at h
 ·split at h
  ·cases h
  ·split at h
   ·cases h
   ·rename_i hb;cases h;exact cy (by decide) (pZ hb)
 ·split at h
  ·split at h
   ·cases h
   ·cases h;show 1<=1+_;omega
  ·split at h
   ·split at h
    ·cases h
    ·cases h;show 1<=6;omega
   ·unfold mCr at h;split at h
    ·cases h
    ·split at h
     ·cases h
     ·cases h;show 1<=5 - _;omega
theorem aW:∀(f:Nat) (acc:List Stop) (last p:Nat) (l:List UInt8),l.length<f->LO 1 acc last->DZ (mGl f acc l)=pre acc (fg (LuteTab.germanStops f last p l))
 |0,_,_,_,l,h,_=>by omega
 |f+1,acc,last,p,l,h,lo=>by
  rw[mGl,LuteTab.germanStops];have hg:=p0 p l;rw[hg];cases hga:LuteTab.germanAt p l with
  |error e=>rfl
  |ok y=>
   obtain⟨s,q,u⟩:=y;have hms:mGS l=some (s,u):=by rw[hg,hga];rfl
   have h1:=sF hms;have hlen:=P7 hms;show DZ (if CY acc s=true then(if see " " u=true then _ else some (acc++[s],u)) else none)=_;dsimp only;rw[lo s h1];by_cases Aw:last<s.course
   ·rw[Ax (by simpa using Aw),Ay (show¬s.course<=last by omega)];cases u with
    |nil=>rfl
    |cons c v=>
     rw[CO (z:=" ") (x:=32) rfl];dsimp only;by_cases hc:c=10
     ·subst hc;rw[Ay (by decide),Ax (show(10:UInt8)=LuteTab.END from rfl)];show(match sk ("\n":Str).cps.toList (10::v) with
       |none=>none
       |some (_,u)=>some (acc++[s],u))=_
      rw[FH (z:="\n") (x:=10) rfl,Ax rfl];rfl
     ·rw[Ay (show¬c=LuteTab.END from hc)];by_cases hb:c=32
      ·subst hb;rw[Ax (by simp),Ay (by intro q;exact q rfl),FH (z:=" ") (x:=32) rfl,Ax rfl];show DZ (mGl f (acc++[s]) v)=_;have hv:v.length<f:=by simp at hlen;omega
       rw[aW f (acc++[s]) s.course (q+1) v hv (V9 1 acc s),R9];cases LuteTab.germanStops f s.course (q+1) v with
       |error e=>rfl
       |ok y=>obtain⟨l,z,w⟩:=y;rfl
      ·rw[Ay (by simp[hb]),Ax (show c≠LuteTab.BLANK from hb)];show(match sk ("\n":Str).cps.toList (c::v) with
        |none=>none
        |some (_,u)=>some (acc++[s],u))=_
       rw[FH (z:="\n") (x:=10) rfl,Ay hc];rfl
   ·rw[Ay (by simpa using Aw),Ax (show s.course<=last by omega)];rfl
theorem QH:∀{ns:List Nat} {l t:List UInt8} {s:List Stop},(∀n∈ns,1<=n/\n<=6)->B3 z ns l=some (s,t)->∀x∈s,1<=x.course/\x.course<=6
 |[],l,t,s,_,h,x,hx=>by rw[B3] at h;cases h;simp at hx
 |c::ns,l,t,s,hn,h,x,hx=>by
  rw[B3] at h;cases hp:pk (z++".") l with
  |none=>rw[hp] at h;cases h
  |some y=>
   obtain⟨i,y⟩:=y;simp only[hp] at h;cases hm:B3 z ns y with
   |none=>rw[hm] at h;cases h
   |some w=>
    obtain⟨q,v⟩:=w;simp only[hm] at h;cases h;have ih:=QH (λn hn'=>hn n (aq _ hn')) hm;split at hx
    ·rcases bp.mp hx with rfl|hx
     ·exact hn c bc
     ·exact ih x hx
    ·exact ih x hx
def kdN:LuteTab.Kind->Nat
 | .french=>0
 | .italian=>1
 | .german=>2
theorem aX (acc:List Stop) (o:LuteTab.Rd (List Stop)):pre acc (fg o)=fg (match o with
 | .error e=>.error e
 | .ok (b,z,v)=>.ok (acc++b,z,v)):=by
 cases o with
 |error e=>rfl
 |ok y=>obtain⟨b,z,v⟩:=y;rfl
theorem fX (k:LuteTab.Kind) (p:Nat) (l:List UInt8):DZ (mSt (kdN k) l)=fg (LuteTab.stopsAt k p l):=by
 cases k with
 |french=>
  show DZ (mFr l)=fg (match LuteTab.sixAt LuteTab.letters [1,2,3,4,5,6] p l with
   | .error e=>.error e
   | .ok (l,q,u)=>match LuteTab.bassesAt LuteTab.frenchBassAt (u.length+1) 6 q u with
     | .error e=>.error e
     | .ok (b,z,v)=>.ok (l++b,z,v))
  unfold mFr;have hn:=IA (z:=zF) (signs:=LuteTab.letters) (by decide +kernel) (by decide +kernel) pV [1,2,3,4,5,6] p l;rw[hn];cases hs:LuteTab.sixAt LuteTab.letters [1,2,3,4,5,6] p l with
  |error e=>rfl
  |ok y=>
   obtain⟨s,q,u⟩:=y;have hm:B3 zF [1,2,3,4,5,6] l=some (s,u):=by rw[hn,hs];rfl
   have hle:=QH (by intro n hn';simp at hn';omega) hm;show DZ (mBs mFB (u.length+1) s u)=_;rw[aV pY sE P6 (u.length+1) s 6 q u (by omega) (WA λx hx=>(hle x hx).2),aX];rfl
 |italian=>
  show DZ (mIt l)=fg (match LuteTab.sixAt LuteTab.figures [6,5,4,3,2,1] p l with
   | .error e=>.error e
   | .ok (l,q,u)=>match LuteTab.bassesAt LuteTab.numberAt (u.length+1) 6 q u with
     | .error e=>.error e
     | .ok (b,z,v)=>.ok (l.reverse++b,z,v))
  unfold mIt;have hn:=IA (z:=zI) (signs:=LuteTab.figures) (by decide +kernel) (by decide +kernel) pW [6,5,4,3,2,1] p l;rw[hn];cases hs:LuteTab.sixAt LuteTab.figures [6,5,4,3,2,1] p l with
  |error e=>rfl
  |ok y=>
   obtain⟨s,q,u⟩:=y;have hm:B3 zI [6,5,4,3,2,1] l=some (s,u):=by rw[hn,hs];rfl
   have hle:=QH (by intro n hn';simp at hn';omega) hm;show DZ (mBs mBN (u.length+1) s.reverse u)=_;rw[aV fV pZ L8 (u.length+1) s.reverse 6 q u (by omega) (WA λx hx=>(hle x (xC.mp hx)).2),aX];rfl
 |german=>
  show DZ (mGr l)=fg (match l with
   |46::r=>(match LuteTab.want [LuteTab.END] (p+1) r with
    | .error e=>.error e
    | .ok (_,q,u)=>.ok ([],q,u))
   |_=>LuteTab.germanStops (l.length+1) 0 p l)
  unfold mGr;cases l with
  |nil=>exact(aW 1 [] 0 p [] (by decide) (aU 1 (by decide))).trans (LW _)
  |cons c r=>
   rw[CO (z:=".") (x:=46) rfl];by_cases h:c=46
   ·subst h;rw[Ax (by simp),FH (z:=".") (x:=46) rfl,Ax rfl];show(match sk ("\n":Str).cps.toList r with
     |none=>none
     |some (_,u)=>some ([],u))=fg (match LuteTab.want [LuteTab.END] (p+1) r with
     | .error e=>.error e
     | .ok (_,q,u)=>.ok ([],q,u))
    have e3:sk ("\n":Str).cps.toList r=fg (LuteTab.want [LuteTab.END] (p+1) r):=(HP [10] _ _).symm;rw[e3];cases LuteTab.want [LuteTab.END] (p+1) r with
    |error e=>rfl
    |ok y=>obtain⟨_,z,v⟩:=y;rfl
   ·rw[Ay (by simp[h])];have:=(aW ((c::r).length+1) [] 0 p (c::r) (by omega) (aU 1 (by decide))).trans (LW _);rw[this];congr 1;split
    ·rename_i q;cases q;exact absurd rfl h
    ·rfl
def UC (l:List UInt8):Option (Nat×List UInt8):=match pk zL l with
 |none=>none
 |some (i,t)=>if 0<i/\see "." t=true then(match sk (".":Str).cps.toList t with
  |none=>none
  |some (_,u)=>match sk (" ":Str).cps.toList u with
   |none=>none
   |some (_,v)=>some (2 ^ i+2 ^ i / 2,v))
  else match sk (" ":Str).cps.toList t with
   |none=>none
   |some (_,v)=>some (2 ^ i,v)
theorem j3 (p:Nat) (l:List UInt8):UC l=fg (LuteTab.lengthAt p l):=by
 cases l with
 |nil=>rfl
 |cons c r=>
  unfold UC;rw[BS,pX,LuteTab.lengthAt.eq_def];dsimp only;cases hx:[(120:UInt8),116,115,101,113,104,119].idxOf? c with
  |none=>rfl
  |some i=>
   have hp:0<i->2 ^ i / 2=2 ^ (i - 1):=λh0=>by
    obtain⟨j,rfl⟩:∃j,i=j+1:=⟨i - 1,by omega⟩
    rw[zB,Nat.mul_div_cancel _ (by decide)];rfl
   show(if 0<i/\see "." r=true then _ else _)=fg (match r with
    |46::32::u=>if i=0 then .error (p+1) else .ok (2 ^ i+2 ^ (i - 1),p+3,u)
    |46::_=>if i=0 then .error (p+1) else .error (p+2)
    |32::u=>.ok (2 ^ i,p+2,u)
    |_=>.error (p+1))
   cases r with
   |nil=>rw[Ay (by rw[JR];rintro ⟨_,q⟩;cases q)];rfl
   |cons y t=>
    rw[CO (z:=".") (x:=46) rfl];by_cases h46:y=46
    ·subst h46;by_cases h0:0<i
     ·rw[Ax ⟨h0,by simp⟩,FH (z:=".") (x:=46) rfl,Ax rfl];cases t with
      |nil=>
       show _=fg (if i=0 then .error (p+1) else .error (p+2));rw[Ay (by omega)];rfl
      |cons z u=>
       show(match sk (" ":Str).cps.toList (z::u) with
        |none=>none
        |some (_,v)=>some (2 ^ i+2 ^ i / 2,v))=_
       rw[FH (z:=" ") (x:=32) rfl];by_cases h32:z=32
       ·subst h32;rw[Ax rfl];show some (2 ^ i+2 ^ i / 2,u)=fg (if i=0 then .error (p+1) else .ok (2 ^ i+2 ^ (i - 1),p+3,u));rw[Ay (by omega),hp h0];rfl
       ·rw[Ay h32];have e:(match (46::z::u:List UInt8) with
         |46::32::u=>if i=0 then .error (p+1) else .ok (2 ^ i+2 ^ (i - 1),p+3,u)
         |46::_=>if i=0 then .error (p+1) else .error (p+2)
         |32::u=>.ok (2 ^ i,p+2,u)
         |_=>.error (p+1))=(if i=0 then .error (p+1) else .error (p+2):LuteTab.Rd Nat):=by
         split
         ·rename_i q;cases q;exact absurd rfl h32
         ·rfl
         ·rename_i q;cases q
         ·rename_i q1 q2;exact absurd rfl (q1 (z::u))
        rw[e,Ay (by omega)];rfl
     ·have:i=0:=by omega
      subst this;rw[Ay (by simp),FH (z:=" ") (x:=32) rfl,Ay (by decide)];show none=fg _;split
      ·rfl
      ·rfl
      ·rename_i q;cases q
      ·rfl
    ·rw[Ay (by simp[h46]),FH (z:=" ") (x:=32) rfl];by_cases h32:y=32
     ·subst h32;rw[Ax rfl];rfl
     ·rw[Ay h32];show none=fg _;split
      ·rename_i q;cases q;exact absurd rfl h46
      ·rename_i q;cases q;exact absurd rfl h46
      ·rename_i q;cases q;exact absurd rfl h32
      ·rfl
theorem d3 {l:List UInt8} (h:UC l=some (n,t)):0<n:=by
 have hp:∀i:Nat,0<2 ^ i:=λi=>jt (by decide);unfold UC at h;split at h
 ·cases h
 ·split at h
  ·split at h
   ·cases h
   ·split at h
    ·cases h
    ·cases h;have:=hp ‹_›;omega
  ·split at h
   ·cases h
   ·cases h;exact hp _
theorem fY (before:Nat) (c:UInt8) (r:List UInt8) (h:¬c=32):mLn before (c::r)=match UC (c::r) with
 |none=>none
 |some (n,v)=>if n=before then none else some (n,v):=by
 unfold mLn UC;rw[CO (z:=" ") (x:=32) rfl,Ay (by simp[h])];cases pk zL (c::r) with
 |none=>rfl
 |some y=>
  obtain⟨i,t⟩:=y;dsimp only;by_cases h0:0<i/\see "." t=true
  ·rw[Ax h0,Ax h0];cases sk (".":Str).cps.toList t with
   |none=>rfl
   |some y=>
    obtain⟨_,u⟩:=y;dsimp only;cases sk (" ":Str).cps.toList u with
    |none=>rfl
    |some y=>obtain⟨_,v⟩:=y;rfl
  ·rw[Ay h0,Ay h0];cases sk (" ":Str).cps.toList t with
   |none=>rfl
   |some y=>obtain⟨_,v⟩:=y;rfl
theorem p6 (before:Nat) (r:List UInt8):mLn before (32::r)=if before=0 then none else some (before,r):=by
 unfold mLn;rw[CO (z:=" ") (x:=32) rfl,Ax (by simp),FH (z:=" ") (x:=32) rfl,Ax rfl]
def mMo (k:LuteTab.Kind) (n:Nat) (t:List UInt8):Option (Ln×List UInt8):=match DZ (mSt (kdN k) t) with
 |none=>none
 |some (st,v)=>some ((n,st),v)
theorem j4 (k:LuteTab.Kind) (before:Nat) (l:List UInt8) (h:see "|" l=false):mPl (kdN k) before l=match mLn before l with
 |none=>none
 |some (n,t)=>mMo k n t:=by
 unfold mPl mMo;rw[Ay (by rw[h];decide)];cases mLn before l with
 |none=>rfl
 |some y=>
  obtain⟨n,t⟩:=y;dsimp only;cases mSt (kdN k) t with
  |none=>rfl
  |some y=>
   obtain⟨st,u⟩:=y;show(match sk ("\n":Str).cps.toList u with
    |none=>none
    |some (_,v)=>some ((n,st),v))=(match (match sk ("\n":Str).cps.toList u with
    |none=>none
    |some (_,u)=>some (st,u):Option (List Stop×List UInt8)) with
    |none=>none
    |some (st,v)=>some ((n,st),v))
   cases sk ("\n":Str).cps.toList u with
   |none=>rfl
   |some y=>obtain⟨_,v⟩:=y;rfl
theorem d5 (kd before p:Nat) (r:List UInt8):mPl kd before (124::r)=match fg (LuteTab.want [LuteTab.END] p r) with
 |none=>none
 |some (_,t)=>some ((0,[]),t):=by
 unfold mPl;rw[CO (z:="|") (x:=124) rfl,Ax (by simp)];have e:sk ("|\n":Str).cps.toList (124::r)=fg (LuteTab.want [LuteTab.END] p r):=by
  rw[HP,show("|\n":Str).cps.toList=[124,10] by decide +kernel,sk,Ax (show UInt8.toNat 124=124 from rfl)];rfl
 rw[e];all_goals rfl
theorem LA {k:LuteTab.Kind} {l v:List UInt8} {s:List Stop} (h:LuteTab.stopsAt k p l= .ok (s,q,v)):v.length<l.length/\DZ (mSt (kdN k) l)=some (s,v):=by
 have e:=fX k p l;rw[h] at e;refine⟨?_,e⟩;cases hm:mSt (kdN k) l with
 |none=>rw[hm] at e;cases e
 |some y=>
  obtain⟨st,u⟩:=y;rw[hm] at e;have h1:=V2 hm;replace e:(match sk ("\n":Str).cps.toList u with
   |none=>none
   |some (_,u)=>some (st,u):Option (List Stop×List UInt8))=some (s,v):=e
  cases hs:sk ("\n":Str).cps.toList u with
  |none=>rw[hs] at e;cases e
  |some y=>
   obtain⟨_,w⟩:=y;have h2:w.length+1=u.length:=BN hs;rw[hs] at e;cases e;omega
theorem aY (k:LuteTab.Kind) (n p:Nat) (t:List UInt8):mMo k n t=match LuteTab.stopsAt k p t with
 | .error _=>none
 | .ok (l,_,u)=>some ((n,l),u):=by
 unfold mMo;rw[fX k p t];cases LuteTab.stopsAt k p t with
 |error e=>rfl
 |ok y=>obtain⟨l,q,u⟩:=y;rfl
def app (acc:List Ln):Option LuteTab.Piece->Option (List Ln)
 |none=>none
 |some x=>some (acc++x.map B8)
theorem aZ (acc:List Ln) (ln:LuteTab.Line) (o:Except Nat LuteTab.Piece):app (acc++[B8 ln]) (fe o)=app acc (fe (o.map λ(x:LuteTab.Piece)=>ln::x)):=by
 cases o with
 |error e=>rfl
 |ok x=>simp[app,fe,Except.map]
theorem SA (k:LuteTab.Kind):∀(f p last:Nat) (acc:List Ln) (l:List UInt8),l.length<f->acc.length<=512->mLs (kdN k) f acc last l=app acc (fe (LuteTab.linesAt k f last acc.length p l))
 |0,p,last,acc,l,h,_=>by omega
 |f+1,p,last,acc,[],h,_=>by
  rw[mLs,LuteTab.linesAt,Ax (show([]:List UInt8).isEmpty=true from rfl)];by_cases h0:last=0
  ·rw[Ax h0,Ax h0];rfl
  ·rw[Ay h0,Ay h0];simp[app,fe]
 |f+1,p,last,acc,c::r,h,ha=>by
  rw[mLs,LuteTab.linesAt,Ay (by simp)];have hrl:r.length<f:=by simpa using h
  by_cases hm:LuteTab.LINES<=acc.length
  ·have:acc.length=512:=by have h2:512<=acc.length:=hm;omega
   rw[Ax this,Ax hm];rfl
  ·have Aw:acc.length<512:=by have h2:¬512<=acc.length:=hm;omega
   rw[Ay (by omega),Ay hm];have step:∀(ln:LuteTab.Line) (last' q:Nat) (u:List UInt8),u.length<f->mLs (kdN k) f (acc++[B8 ln]) last' u=app acc (fe ((LuteTab.linesAt k f last' (acc.length+1) q u).map λ(x:LuteTab.Piece)=>ln::x)):=λln last' q u hu=>by
    have:=SA k f q last' (acc++[B8 ln]) u hu (by rw[bq];simp;omega);rw[this,aZ,bq];rfl
   by_cases h124:c=124
   ·subst h124;rw[Ax rfl,d5 (kdN k) last (p+1) r];cases hw:LuteTab.want [LuteTab.END] (p+1) r with
    |error e=>rfl
    |ok y=>
     obtain⟨_,q,u⟩:=y;have e1:sk ([LuteTab.END].map (·.toNat)) r=some ((),u):=by rw[←HP _ (p+1),hw];rfl
     have h2:u.length+1=r.length:=BN e1;show mLs (kdN k) f (acc++[(0,[])]) (if 0=0 then last else 0) u=_;rw[Ax rfl];exact step .bar last q u (by omega)
   ·rw[Ay h124];have hbar:see "|" (c::r)=false:=by rw[CO (z:="|") (x:=124) rfl];simp[h124]
    rw[j4 k last (c::r) hbar];by_cases h32:c=32
    ·subst h32;rw[Ax (show(32:UInt8)=LuteTab.BLANK from rfl),p6];by_cases h0:last=0
     ·rw[Ax h0,Ax h0];rfl
     ·rw[Ay h0,Ay h0];dsimp only;rw[aY k last (p+1) r];cases hs:LuteTab.stopsAt k (p+1) r with
      |error e=>rfl
      |ok y=>
       obtain⟨l,q,u⟩:=y;have:=(LA hs).1;show mLs (kdN k) f (acc++[(last,l)]) (if last=0 then last else last) u=_;rw[Ay h0];exact step (.moment last l) last q u (by omega)
    ·rw[Ay (show¬c=LuteTab.BLANK from h32),fY last c r h32];have hle:=j3 p (c::r);rw[hle];cases hl:LuteTab.lengthAt p (c::r) with
     |error e=>rfl
     |ok y=>
      obtain⟨n,q,u⟩:=y;have hm2:UC (c::r)=some (n,u):=by rw[hle,hl];rfl
      have hn:=d3 hm2;show(match (match (if n=last then none else some (n,u):Option (Nat×List UInt8)) with
       |none=>none
       |some (n,t)=>mMo k n t:Option (Ln×List UInt8)) with
       |none=>none
       |some ((n,st),t)=>mLs (kdN k) f (acc++[(n,st)]) (if n=0 then last else n) t)=app acc (fe (if n=last then .error p else match LuteTab.stopsAt k q u with
       | .error e=>.error e
       | .ok (l,z,v)=>(LuteTab.linesAt k f n (acc.length+1) z v).map λ(x:LuteTab.Piece)=>.moment n l::x))
      by_cases hnl:n=last
      ·rw[Ax hnl,Ax hnl];rfl
      ·rw[Ay hnl,Ay hnl];dsimp only;rw[aY k n q u];have hul:u.length<(c::r).length:=by
        have:mLn (n+1) (c::r)=some (n,u):=by rw[fY _ c r h32,hm2];show(if n=n+1 then none else some (n,u))=_;rw[Ay (by omega)]
        exact V0 this
       cases hs:LuteTab.stopsAt k q u with
       |error e=>rfl
       |ok y=>
        obtain⟨l,z,v⟩:=y;have hv:=(LA hs).1;show mLs (kdN k) f (acc++[(n,l)]) (if n=0 then last else n) v=_;rw[Ay (by omega)];exact step (.moment n l) n z v (by simp at hul;omega)
theorem d6 (cs:List UInt8):mKd kws 0 cs=match LuteTab.kindAt cs with
 | .error _=>none
 | .ok (k,_,u)=>some (kdN k,u):=by
 have w:∀(z:Str) (bs:List UInt8) (i:Nat) (k:LuteTab.Kind),z.cps.toList=(bs++[LuteTab.END]).map (·.toNat)->kdN k=i->(match sk z.cps.toList cs with
  |none=>none
  |some (_,t)=>some (i,t))=match (match LuteTab.want (bs++[LuteTab.END]) 0 cs with
  | .error e=>.error e
  | .ok (_,q,u)=>.ok (k,q,u):LuteTab.Rd LuteTab.Kind) with
  | .error _=>none
  | .ok (k,_,u)=>some (kdN k,u):=λz bs i k hz hk=>by
  rw[hz, ←HP _ 0 cs];cases LuteTab.want (bs++[LuteTab.END]) 0 cs with
  |error e=>rfl
  |ok y=>obtain⟨_,q,u⟩:=y;subst hk;rfl
 unfold kws;rw[mKd,mKd,mKd,mKd];cases cs with
 |nil=>rfl
 |cons c r=>
  rw[CO (z:=hd1 "french\n") (x:=102) (by decide +kernel),CO (z:=hd1 "italian\n") (x:=105) (by decide +kernel),CO (z:=hd1 "german\n") (x:=103) (by decide +kernel)];by_cases h1:c=102
  ·subst h1;rw[Ax (by simp)];exact w "french\n" LuteTab.Kind.french.word 0 .french (by decide +kernel) rfl
  ·rw[Ay (by simp[h1])];by_cases h2:c=105
   ·subst h2;rw[Ax (by simp)];exact w "italian\n" LuteTab.Kind.italian.word 1 .italian (by decide +kernel) rfl
   ·rw[Ay (by simp[h2])];by_cases h3:c=103
    ·subst h3;rw[Ax (by simp)];exact w "german\n" LuteTab.Kind.german.word 2 .german (by decide +kernel) rfl
    ·rw[Ay (by simp[h3])];have e:LuteTab.kindAt (c::r)= .error 0:=by
      unfold LuteTab.kindAt;split
      ·rename_i q;cases q;exact absurd rfl h1
      ·rename_i q;cases q;exact absurd rfl h2
      ·rename_i q;cases q;exact absurd rfl h3
      ·rfl
     rw[e]
def d7:Except Nat (LuteTab.Kind×LuteTab.Piece)->Option (List Ln)
 | .error _=>none
 | .ok (_,p)=>some (p.map B8)
theorem UD (cs:List UInt8):mPc cs=d7 (LuteTab.read cs):=by
 unfold mPc LuteTab.read;rw[d6];cases LuteTab.kindAt cs with
 |error e=>rfl
 |ok y=>
  obtain⟨k,q,u⟩:=y;show mLs (kdN k) (u.length+1) [] 0 u=d7 ((LuteTab.linesAt k (u.length+1) 0 0 q u).map λ(p:LuteTab.Piece)=>(k,p));rw[SA k (u.length+1) q 0 [] u (by omega) (by simp)];show app [] (fe (LuteTab.linesAt k (u.length+1) 0 0 q u))=_;cases LuteTab.linesAt k (u.length+1) 0 0 q u with
  |error e=>rfl
  |ok x=>rfl
theorem QI {signs:List UInt8}:∀{ns:List Nat} {p q:Nat} {l u:List UInt8} {s:List Stop},LuteTab.sixAt signs ns p l= .ok (s,q,u)->(s.map (·.course)).Sublist ns
 |[],p,q,l,u,s,h=>by
  rw[LuteTab.sixAt] at h;cases h;exact Ah _
 |c::ns,p,q,l,u,s,h=>by
  rw[LuteTab.sixAt] at h;split at h
  ·cases h
  ·split at h
   ·cases h
   ·rename_i h1;have ih:=QI h1;cases h;split
    ·exact ih.cons_cons _
    ·exact ih.cons _
def Up (k:Nat) (l:List Stop):Prop:=Z1 l/\∀s∈l,k<s.course
theorem QJ {k:Nat} {s:Stop} {l:List Stop} (h:k<s.course) (u:Up s.course l):Up k (s::l):=
 ⟨ge.mpr ⟨u.2,u.1⟩,λx hx=>by
  rcases bp.mp hx with rfl|hx
  ·exact h
  ·have:=u.2 x hx;omega⟩
theorem UE (k:Nat):Up k []:=⟨ow,by simp⟩
theorem a0 {rd:Nat->List UInt8->LuteTab.Rd Nat}:∀{f last p q:Nat} {l u:List UInt8} {s:List Stop},LuteTab.bassesAt rd f last p l= .ok (s,q,u)->Up last s
 |0,last,p,q,l,u,s,h=>by rw[LuteTab.bassesAt] at h;cases h
 |f+1,last,p,q,[],u,s,h=>by rw[LuteTab.bassesAt] at h;cases h
 |f+1,last,p,q,c::r,u,s,h=>by
  rw[LuteTab.bassesAt] at h;split at h
  ·cases h;exact UE _
  ·split at h
   ·cases h
   ·split at h
    ·cases h
    ·split at h
     ·cases h
     ·split at h
      ·cases h
      ·rename_i h1;have ih:=a0 h1;cases h;exact QJ (u6 (by assumption)) ih
theorem fZ:∀{f last p q:Nat} {l u:List UInt8} {s:List Stop},LuteTab.germanStops f last p l= .ok (s,q,u)->Up last s
 |0,last,p,q,l,u,s,h=>by rw[LuteTab.germanStops] at h;cases h
 |f+1,last,p,q,l,u,s,h=>by
  rw[LuteTab.germanStops] at h;split at h
  ·cases h
  ·split at h
   ·cases h
   ·split at h
    ·cases h
    ·split at h
     ·cases h;exact QJ (by omega) (UE _)
     ·split at h
      ·cases h
      ·split at h
       ·cases h
       ·rename_i h1;have ih:=fZ h1;cases h;exact QJ (by omega) ih
theorem f6 {k:LuteTab.Kind} {l u:List UInt8} {s:List Stop} (h:LuteTab.stopsAt k p l= .ok (s,q,u)):Up 0 s:=by
 have glue:∀{a b:List Stop},Z1 a->(∀s∈a,0<s.course/\s.course<=6)->Up 6 b->Up 0 (a++b):=λ{a b} ra ha hb=>
  ⟨tE.mpr ⟨ra,hb.1,λx hx y hy=>by have:=ha x hx;have:=hb.2 y hy;omega⟩,λx hx=>by
   rcases cn.mp hx with hx|hx
   ·exact(ha x hx).1
   ·have:=hb.2 x hx;omega⟩
 unfold LuteTab.stopsAt at h;cases k with
 |french=>
  simp only at h;split at h
  ·cases h
  ·rename_i h1;split at h
   ·cases h
   ·rename_i h2;cases h;have sb:=QI h1;refine glue ?_ (λx hx=>?_) (a0 h2)
    ·exact xb.mp (vL sb (by decide))
    ·have:=sb.subset (qj (f:=λs:Stop=>s.course) hx);simp at this;omega
 |italian=>
  simp only at h;split at h
  ·cases h
  ·rename_i h1;split at h
   ·cases h
   ·rename_i h2;cases h;have sb:=QI h1;refine glue ?_ (λx hx=>?_) (a0 h2)
    ·have:List.Pairwise (λa b:Stop=>b.course<a.course) _:=xb.mp (vL sb (R:=λa b=>b<a) (by decide));exact List.pairwise_reverse.mpr this
    ·have:=sb.subset (qj (f:=λs:Stop=>s.course) (xC.mp hx));simp at this;omega
 |german=>
  simp only at h;split at h
  ·split at h
   ·cases h
   ·cases h;exact UE _
  ·exact fZ h
theorem j5 {l u:List UInt8} (h:LuteTab.lengthAt p l= .ok (n,q,u)):0<n:=by
 have h2:∀i:Nat,0<2 ^ i:=λi=>jt (by decide);unfold LuteTab.lengthAt at h;split at h
 ·cases h
 ·split at h
  ·cases h
  ·split at h
   ·split at h
    ·cases h
    ·cases h;exact Nat.add_pos_left (h2 _) _
   ·split at h<;>cases h
   ·cases h;exact h2 _
   ·cases h
def LnK (x:LuteTab.Line):Prop:=match x with
 | .bar=>True
 | .moment n l=>0<n/\Up 0 l
theorem d8 {k:LuteTab.Kind}:∀{f last many p:Nat} {l:List UInt8} {x:LuteTab.Piece},LuteTab.linesAt k f last many p l= .ok x->∀y∈x,LnK y
 |f,last,many,p,[],x,h=>by
  have h':LuteTab.linesAt k f last many p []=if last=0 then .error p else .ok []:=by cases f<;>rw[LuteTab.linesAt]
  rw[h'] at h;split at h
  ·cases h
  ·cases h;simp
 |0,last,many,p,c::r,x,h=>by rw[LuteTab.linesAt] at h;cases h;simp
 |f+1,last,many,p,c::r,x,h=>by
  have mp:∀{e:Except Nat LuteTab.Piece} {a:LuteTab.Line},(e.map λ(x:LuteTab.Piece)=>a::x)= .ok x->LnK a->(∀z,e= .ok z->∀y∈z,LnK y)->∀y∈x,LnK y:=λ{e a} h ha hz=>by
   cases e with
   |error _=>cases h
   |ok z=>
    cases h;intro y hy;rcases bp.mp hy with rfl|hy
    ·exact ha
    ·exact hz z rfl y hy
  rw[LuteTab.linesAt] at h;split at h
  ·cases h
  ·split at h
   ·split at h
    ·cases h
    ·exact mp h je λz hz=>d8 hz
   ·split at h
    ·split at h
     ·cases h
     ·split at h
      ·cases h
      ·rename_i h0 _ _ _ _ h1;exact mp h ⟨by omega,f6 h1⟩ λz hz=>d8 hz
    ·split at h
     ·cases h
     ·rename_i h1;split at h
      ·cases h
      ·split at h
       ·cases h
       ·rename_i h2;exact mp h ⟨j5 h1,f6 h2⟩ λz hz=>d8 hz
theorem UF {k:LuteTab.Kind} {p:LuteTab.Piece} (h:LuteTab.read cs= .ok (k,p)):dO p/\PcK (p.map B8):=by
 have hk:∀y∈p,LnK y:=by
  unfold LuteTab.read at h;split at h
  ·cases h
  ·rename_i k' q u _;cases e:LuteTab.linesAt k' (u.length+1) 0 0 q u with
   |error _=>rw[e] at h;cases h
   |ok z=>rw[e] at h;cases h;exact d8 e
 refine⟨λn l hm=>(hk _ hm).1,⟨λq hq=>?_,λq hq h0=>?_,λq hq s hs=>?_⟩⟩
 ·obtain⟨y,hy,rfl⟩:=kh.mp hq;cases y with
  |bar=>exact ow
  |moment n l=>exact(hk _ hy).2.1
 ·obtain⟨y,hy,rfl⟩:=kh.mp hq;cases y with
  |bar=>rfl
  |moment n l=>
   have h0:n=0:=h0;have:=(hk _ hy).1;omega
 ·obtain⟨y,hy,rfl⟩:=kh.mp hq;cases y with
  |bar=>exact absurd hs (by show¬s∈[];simp)
  |moment n l=>exact(hk _ hy).2.2 s hs
theorem a5 (t:Lute.Inst) (s:Stop) (h:1<=s.course):plc (t.frets.map ro) (t.courses.map ro) (t.basses.map ro) s=t.place s.course s.fret:=by
 unfold plc Lute.Inst.place Lute.Inst.many Lute.Inst.opens;rw[ai,ai,ai,bq,decide_eq_true h,qp];by_cases hc:s.course<=t.courses.length
 ·rw[Ax hc,Ax hc,decide_eq_true (show s.course<=t.courses.length+t.basses.length by omega),qp]
 ·rw[Ay hc,Ay hc];congr 1;rw[decide_eq_decide];omega
theorem UG {pl pl':Stop->Bool}:∀(p:LuteTab.Piece) (i x:Nat),(∀q∈p.map B8,∀s∈q.2,pl s=pl' s)->
 EI pl i (p.map B8)=match (LuteSound.struckFrom i x p).find? λ(s:LuteSound.Struck)=>!pl' s.halt_ with
  |none=>none
  |some s=>some (s.line,s.halt_.course)
 |[],i,x,_=>rfl
 | .bar::r,i,x,h=>by
   rw[cz,LuteSound.struckFrom];show EI pl i ((0,[])::r.map B8)=_;rw[EI];exact UG r (i+1) x λq hq=>h q (aq _ hq)
 | .moment n l::r,i,x,h=>by
   rw[cz,LuteSound.struckFrom];show EI pl i ((n,l)::r.map B8)=_;rw[EI,ou];have e:((l.map λ(s:LuteTab.Stop)=>(⟨i,x,x+n,s⟩:LuteSound.Struck)).find? λ(s:LuteSound.Struck)=>!pl' s.halt_)=(l.find? λs=>!pl s).map λs=>(⟨i,x,x+n,s⟩:LuteSound.Struck):=by
    rw[yG];congr 1;have:∀l':List Stop,(∀s∈l',pl s=pl' s)->(l'.find? ((λ(s:LuteSound.Struck)=>!pl' s.halt_)∘λ(s:LuteTab.Stop)=>(⟨i,x,x+n,s⟩:LuteSound.Struck)))=l'.find? λs=>!pl s:=by
     intro l';induction l' with
     |nil=>intro _;rfl
     |cons a b ih=>
      intro hh;have h1:=hh a bc;rw[jk,jk];show(match !pl' a with|true=>some a|false=>_)=(match !pl a with|true=>some a|false=>_);rw[h1,ih λs hs=>hh s (aq _ hs)]
    exact this l λs hs=>h (n,l) bc s hs
   rw[e];cases l.find? λs=>!pl s with
   |some s=>rfl
   |none=>exact UG r (i+1) (x+n) λq hq=>h q (aq _ hq)
theorem a6 {F:St3->List Ln->List Int} {f:Lute.Inst->LuteTab.Piece->List Int} (h:∀t k p,Lute.readInst ci= .ok t->LuteTab.read ct= .ok (k,p)->F (fr3 t) (p.map B8)=f t p):
 (match GG dz0 fz0 ci ct with
  | .error z=>[z]
  | .ok (s,ps)=>F s ps)=LuteD.of ci ct f:=by
 unfold GG mTb LuteD.of;by_cases hl:4096<ci.length\/65536<ct.length
 ·rw[Ax hl,Ax (show LuteD.INST<ci.length\/LuteD.PIECE<ct.length from hl)];rfl
 ·rw[Ay hl,Ay (show¬(LuteD.INST<ci.length\/LuteD.PIECE<ct.length) from hl),NQ];cases hi:Lute.readInst ci with
  |error e=>rfl
  |ok t=>
   have hp:=UD ct;cases hr:LuteTab.read ct with
   |error e=>
    rw[hr] at hp;rw[hp];rfl
   |ok y=>
    obtain⟨k,p⟩:=y;rw[hr] at hp;rw[hp];exact h t k p hi hr
theorem d9 {t:Lute.Inst} {p:LuteTab.Piece} (k:PcK (p.map B8)):EI (plc (fr3 t).1 (fr3 t).2.1 (fr3 t).2.2) 0 (p.map B8)=(LuteSound.misfit t p).map λs=>(s.line,s.halt_.course):=by
 show EI (plc (t.frets.map ro) (t.courses.map ro) (t.basses.map ro)) 0 (p.map B8)=_;rw[UG (pl':=λs=>t.place s.course s.fret) p 0 0 λq hq s hs=>a5 t s (k.one q hq s hs)];unfold LuteSound.misfit LuteSound.struck LuteSound.fitsStop;cases (LuteSound.struckFrom 0 0 p).find? λ(s:LuteSound.Struck)=>!t.place s.halt_.course s.halt_.fret<;>rfl
end Lt
end
section
namespace L2
open PySem PySem.Spec PyProof.Rows
def LL (f:ag) (o:Obj):HO:=.ext λh=>h.get? f=some o
def LP (c:ag) (q:Str):HO:=.ext λh=>h.CodeRec (.ref c) q
section
variable {P:bb} {w:bv} {H:Hp} {h:cr}
theorem WB {f:ag} {o:Obj} (e:h.get? f=some o):ObjOk P w H h f (LL f o):=⟨e,⟨o,e⟩,λ_ _ p k=>k _ p⟩
theorem eD {c:ag} {q:Str} (e:h.CodeRec (.ref c) q):ObjOk P w H h c (LP c q):=by
 refine⟨e,?_,λh1 h2 p k=>?_⟩
 ·obtain⟨c',o,vs,t,e1,e2,_⟩:=e;cases e1;exact⟨o,e2⟩
 ·obtain⟨c',o,vs,t,e1,e2,e3⟩:=p;cases e1;exact⟨_,o,vs,t,rfl,k o e2,e3⟩
theorem a7 {f:ag} {o:Obj} (ok:HOk P w H h) (e:H f=some (LL f o)):h.get? f=some o:=(ok f _ e).1
theorem a8 {c:ag} {q:Str} (ok:HOk P w H h) (e:H c=some (LP c q)):h.CodeRec (.ref c) q:=(ok c _ e).1
end
def O4 (P:bb) (w:bv) (K:aa) (mg:Str->Option ah) (base:cr) (N:List Str) (qual:Str) (scope:jj) (f:ag) (cd:ah) (cl:List (Str×ag)) (A:de) (outer:List Env) (s:aj) (H:Hp):Cx where
 prog:=P
 w:=w
 K:=K
 mg:=mg
 base:=base
 A:=A.deeper (vq qual scope s.heap.objs.size f cd cl)
 N:=N
 s_0:=s
 H_0:=H
 env:=vq qual scope s.heap.objs.size f cd cl
 outer:=outer
 stack:=vq qual scope s.heap.objs.size f cd cl::outer
 ex:=[]
 calm:=true
 fn:=λ_=>false
 pn:=[]
 xe:=λ_ _=>False
structure LamScope (x:Str) (fr:List Str) (sc:jj):Prop where
 kind:sc.kind= .function
 co:sc.isCoroutine=false
 gen:sc.isGenerator=false
 nd:(x::fr).Nodup
 par:sc.names.lookup x=some .local
 nocell:∀y∈sc.names,y.2≠.cell
 free:∀y∈fr,sc.names.lookup y=some .free
section
variable {P:bb} {w:bv} {K:aa} {mg:Str->Option ah} {base:cr} {x:Str} {fr:List Str} {name qual:Str} {params:tV} {body:Expr} {scope:jj} {f:ag} {cd pm ctv:ah} {c':ag} {cl:List (Str×ag)}
 {A:de} {outer:List Env} {s:aj} {H:Hp} {v:V} {u:ah} {fvs:List V}
structure CellsAre (cl:List (Str×ag)) (scope:jj) (fr:List Str) (fvs:List V) (H:Hp) (h:cr):Prop where
 len:fr.length=fvs.length
 inj:∀y z c,cl.lookup y=some c->cl.lookup z=some c->y=z
 has:∀y,scope.names.lookup y=some .free->∃c,cl.lookup y=some c
 cell:∀y c,cl.lookup y=some c->∃v,h.IsCell c v
 free:∀y c,cl.lookup y=some c->H c=none
 val:∀(j:Nat) (y:Str) (v:V),fr[j]? =some y->fvs[j]? =some v->∃u c,RelV v u/\cl.lookup y=some c/\h.IsCell c (some u)
theorem eE (S:LamScope x fr scope) (hd:A.handled=none) (e0:Env0 P w K mg base A outer s H) (r:RelV v u) (C:CellsAre cl scope fr fvs H s.heap) {h1:cr} {tk:Nat}
 (hns:h1.Ns s.heap.objs.size (λy=>[(x,u)].reverse.lookup y)) (hk:∀b o,s.heap.get? b=some o->h1.get? b=some o):
 Inv (O4 P w K mg base (x::fr) qual scope f cd cl A outer s H) [] (some v::fvs.map some) H { s with heap:=h1,toks:=tk }:=by
 have noA:∀b:ag,b∉(O4 P w K mg base (x::fr) qual scope f cd cl A outer s H).ex:=λb z=>absurd (show b∈([]:List ag) from z) (by simp);have ck:∀{c:ag} {v:Option ah},s.heap.IsCell c v->h1.IsCell c v:=λ{c v} ⟨o,ho,hd⟩=>⟨o,hk _ _ ho,hd⟩
 refine⟨⟨e0.mod,S.kind,rfl,rfl,au _,C.inj,λy hy=>?_,λy c q _=>absurd q (by simp[O4]),λ_=>hd,tu e0.frames,.inr ⟨rfl,rfl⟩,λb z=>absurd z (noA b),e0.bs,e0.bsz,λb _ _=>noA b,λb z=>absurd z (noA b),e0.funs,e0.frf⟩,
  rfl,e0.bare,Un.kept hk,⟨_,hns,λi y v' h1' h2 h3=>?_⟩,λy c q=>?_,e0.hok.fresh (au _),C.free,λp hp=>absurd (show p∈([]:List (ag×Obj)) from hp) (by simp),e0.hok.kept hk,?_⟩
 ·have hy:scope.names.lookup y=some .cell\/scope.names.lookup y=some .free:=hy;rcases hy with hy|hy
  ·exact absurd rfl (S.nocell _ (cp hy))
  ·exact C.has y hy
 ·have h1':(x::fr)[i]? =some y:=h1';cases i with
  |zero=>
   have e:x=y:=by simpa using h1'
   subst e;have e2:v=v':=by simpa using h2
   subst e2;exact⟨u,r,.inl ⟨S.par,by simp⟩⟩
  |succ j=>
   have h1':fr[j]? =some y:=by simpa using h1'
   have h2:fvs[j]? =some v':=by simpa using h2
   obtain⟨u',c,r',hc,z⟩:=C.val j y v' h1' h2;exact⟨u',r',.inr ⟨.inr (S.free y (bz h1')),c,hc,ck z⟩⟩
 ·obtain⟨v,z⟩:=C.cell y c q;exact⟨v,ck z⟩
 ·show(some v::fvs.map some).length=(x::fr).length;simp[C.len]
theorem eF {CX:CXT} {Q:VK} {E:XK} {t:TE} (S:LamScope x fr scope) (hr:Room 1 A) (e0:Env0 P w K mg base A outer s H) (r:RelV v u) (C:CellsAre cl scope fr fvs H s.heap)
 (ho:s.heap.get? f=some (oh name qual params body scope cl pm c' ctv)) (hcd:s.heap.CodeRec (.ref c') qual) (hb:vP (v7 name qual params body scope cl pm (.ref c') ctv) ⟨[u],[]⟩=pure [(x,u)])
 (hbody:PE (O4 P w K mg base (x::fr) qual scope f (.ref c') cl A outer s H) body t) (hq:t (some v::fvs.map some) H Q):
 mr (bi P w) A (.call (.ref f) ⟨[u],[]⟩) (CR CX outer P w H s Q E) s:=by
 have lim:s.heap.NoLimit:=e0.mod.nolimit.keeps λb o e=>(e0.bs b o e).1;refine PySem.W.kla_callFunE hr.depth ho rfl S.co S.gen rfl hcd ?_;rw[hb];refine ao (wpAny_newFunctionEnv S.nocell (λy hy=>by rw[io.mp hy];exact S.par) (λh1 hns hsb=>?_) S.kind);have hk:∀b o,s.heap.get? b=some o->h1.get? b=some o:=λb o e=>hsb.extBut b o (cj (bh e)) (ak _ e);refine⟨lim.keeps hk,?_⟩;show mr _ _ (.expr body (vq qual scope s.heap.objs.size f (.ref c') cl)) _ _;have I:=eE (qual:=qual) (f:=f) (cd:=.ref c') S hr.hd e0 r C (tk:=s.toks+[(x,u)].length) hns hk;refine PySem.W.kla_codeExpr (gq (hbody [] _ _ H Q I hq) (λv' s' hs=>?_) λ_ _ z=>z.elim);obtain⟨y,H',J,ry,q⟩:=hs;exact⟨y,H',J.os,J.bare,J.base,J.hok,ry,q⟩
end
def LamTbl (H:Hp) (P:ag) (pos:Pos) (qual:Str):Prop:=
 ∃ps,H P=some (.tbl ps)/\TriplesOk ps.toList/\(codeAmong pos ps.toList=none\/∃c',codeAmong pos ps.toList=some (.ref c')/\H c'=some (LP c' qual))
def NR (mg:Str->Option ah) (base:cr):Prop:=
 ∃bm ob,mg "__builtins__"=some (.ref bm)/\bm≠vd/\base.get? bm=some ob/\ob.cls= .type "module"/\ob.dict=some vd/\ob.data= .plain
def sG (X:Cx) (P:ag) (params:tV) (body:Expr) (scope:jj) (pos:Pos):TE:=λ_ H Q=>LamTbl H P pos (X.env.qual++"<lambda>")/\∀(f c':ag) (ctv:ah) (H':Hp),H f=none->Sb P H H'->
 H' f=some (LL f (oh "<lambda>" (X.env.qual++"<lambda>") params body scope (BA X.env.cells scope.names []) ((X.mg "__name__").getD .none) c' ctv))->H' c'=some (LP c' (X.env.qual++"<lambda>"))->
 LamTbl H' P pos (X.env.qual++"<lambda>")->Q (.ref f) H'
section
variable {X:Cx} {c P:ag} {params:tV} {body:Expr} {scope:jj} {pos:Pos}
theorem j6 (B:NR X.mg X.base) (C:uq X.base c P) (hcode:X.env.code= .ref c) (hfr:∀y∈scope.names,y.2= .free->X.env.kindOf y.1=some .cell\/X.env.kindOf y.1=some .free) (hdef:defaultsOf params X.env=([],[]):=by rfl):
 PE X (.Lambda params body scope pos) (sG X P params body scope pos):=by
 intro Ap s σ H Q I h;obtain⟨⟨ps,hP,ht,hc⟩,q⟩:=h;have hP':s.heap.get? P=some (PySem.W.tabObj ps):=I.hok P _ hP;have hg:s.heap.Ns dy X.mg:=I.ok.mod.glob.keeps I.bk;have hgo:∃o es ep,X.base.get? dy=some o/\o.data= .dict es ep:=by
  obtain⟨o,es,ep,e,d,_⟩:=I.ok.mod.glob;exact⟨o,es,ep,e,d⟩
 obtain⟨og,es,ep,eg,dg⟩:=hgo;obtain⟨bm,ob,b1,b2,b3,b4,b5,b6⟩:=B;have nP:∀{b:ag},H b=none->b≠P:=λ{b} n z=>by rw[z,hP] at n;cases n
 have hgP:dy≠P:=nP (I.bs _ _ eg).2;have hbG:bm≠dy:=λz=>by rw[z,eg] at b3;cases b3;rw[dg] at b6;cases b6
 have hb:s.heap.BuiltinsAt X.mg P:=⟨bm,ob,b1,b2,hbG,nP (I.bs _ _ b3).2,I.bk _ _ b3,b4,b5,b6⟩
 have hcl:yu scope X.env=pure (BA X.env.cells scope.names []):=MR λy hy e=>I.ok.has _ (hfr y hy e);have hPl:P<s.heap.objs.size:=bh hP';rcases hc with hn|⟨c',hf,hc'⟩
 ·refine xD hdef (PySem.W.kla_makeFunction hcl I.ok.glob hg hcode (C.keeps I.bk) hP' ht hn hgP hb λc' ctv h' tk hx hge Aw hrec htb=>?_);generalize hfo:oh "<lambda>" (X.env.qual++"<lambda>") params body scope (BA X.env.cells scope.names []) ((X.mg "__name__").getD .none) c' ctv=fo at q ⊢;have q:=q h'.objs.size c' ctv;rw[hfo] at q;generalize hfa:h'.objs.size=f at q Aw ⊢;have hfs:s.heap.objs.size<=f:=cy hge (pj Aw);have ncP:P≠c':=cj (br hPl hge);have nfP:P≠f:=cj (br hPl hfs);have ncf:c'≠f:=cj Aw;have Hc:H c'=none:=I.hok.fresh hge;have Hf:H f=none:=I.hok.fresh hfs;have at1:upd (upd (upd H P (.tbl (ps++#[fy pos.line,fy pos.col,.ref c']))) c' (LP c' (X.env.qual++"<lambda>"))) f (LL f fo) f=some (LL f fo):=upd_same;have at2:upd (upd (upd H P (.tbl (ps++#[fy pos.line,fy pos.col,.ref c']))) c' (LP c' (X.env.qual++"<lambda>"))) f (LL f fo) c'=some (LP c' (X.env.qual++"<lambda>")):=by rw[AE ncf,upd_same]
  have at3:upd (upd (upd H P (.tbl (ps++#[fy pos.line,fy pos.col,.ref c']))) c' (LP c' (X.env.qual++"<lambda>"))) f (LL f fo) P=some (.tbl (ps++#[fy pos.line,fy pos.col,.ref c'])):=by rw[AE nfP,AE ncP,upd_same]
  have at4:∀b,b≠P->b≠c'->b≠f->upd (upd (upd H P (.tbl (ps++#[fy pos.line,fy pos.col,.ref c']))) c' (LP c' (X.env.qual++"<lambda>"))) f (LL f fo) b=H b:=λb n1 n2 n3=>by rw[AE n3,AE n2,AE n1]
  generalize upd (upd (upd H P (.tbl (ps++#[fy pos.line,fy pos.col,.ref c']))) c' (LP c' (X.env.qual++"<lambda>"))) f (LL f fo)=H' at at1 at2 at3 at4;have old:∀b o,H b=some o->b≠P->H' b=some o:=λb o e n=>by
   rw[at4 b n (AG e Hc) (AG e Hf)];exact e
  have kp:∀b o,b≠P->s.heap.get? b=some o->(h'.push fo).get? b=some o:=λb o n e=>ak _ (hx b o n e);have fr:∀b o,s.heap.get? b=some o->H b=none->H' b=none:=λb o e n=>by
   have hl:=bh e;rw[at4 b (nP n) (cj (br hl hge)) (cj (br hl hfs))];exact n
  have nt:∀{b:ag} {o:HO},H b=some o->(∀ps,o≠.tbl ps)->b≠P:=λ{b o} e d z=>by rw[z,hP] at e;cases e;exact d _ rfl
  have U:Un X.fs [] H H' s.heap (h'.push fo):=by
   refine⟨λb o e n _ _=>kp b o (nP n) e,λb o e n _ _=>⟨o.slots,kp b o (nP n) e⟩,λb o e n _=>fr b o e n,λb o e _=>?_,λb xs e=>old b _ e (nt e λps z=>by cases z),λb o u e=>old b _ e (nt e λps z=>by cases z),λb ps' e=>?_⟩
   ·by_cases z:b=P
    ·subst z;exact⟨_,ak _ htb⟩
    ·exact⟨o,kp b o z e⟩
   ·by_cases z:b=P
    ·subst z;rw[hP] at e;cases e;exact⟨_,at3⟩
    ·exact⟨#[],by rw[old b _ e z];simp⟩
  have hok:HOk X.prog X.w H' (h'.push fo):=λb u e=>by
   by_cases z1:b=f
   ·subst z1;rw[at1] at e;cases e;exact WB (by rw[←hfa];exact bg _ (by rw[←hfo];rfl))
   ·by_cases z2:b=c'
    ·subst z2;rw[at2] at e;cases e;exact eD (hrec.push _)
    ·by_cases z3:b=P
     ·subst z3;rw[at3] at e;cases e;exact ak _ htb
     ·rw[at4 b z3 z2 z1] at e;refine(I.hok b u e).stay (λc v hc q=>kp c v ?_ q) (λc q=>old c _ q (nt q λps z=>by cases z)) λc xs q=>old c _ q (nt q λps z=>by cases z);rcases hc with z|z
      ·rw[z];exact z3
      ·exact nt z λps z=>by cases z
  refine⟨.ref f,H',I.un (t':=tk) U hok,rfl,q H' Hf (λb o e n=>old b o e n) at1 at2 ⟨_,at3,?_,.inr ⟨c',?_,at2⟩⟩⟩
  ·have e:(ps++#[fy pos.line,fy pos.col,cb c']).toList=ps.toList++[fy pos.line,fy pos.col,.ref c']:=by simp
   rw[e];exact TriplesOk_snoc _ _ _ _ ht
  ·have e:(ps++#[fy pos.line,fy pos.col,cb c']).toList=ps.toList++[fy pos.line,fy pos.col,.ref c']:=by simp
   rw[e];exact codeAmong_snoc _ ht hn
 ·refine xD hdef (PySem.W.kla_makeFunctionHit hcl I.ok.glob hg hcode (C.keeps I.bk) hP' ht hf hb λctv h' tk hk hsz=>?_);have Hf:H h'.objs.size=none:=I.hok.fresh hsz;have sm:=Same.upd (o:=LL h'.objs.size (oh "<lambda>" (X.env.qual++"<lambda>") params body scope (BA X.env.cells scope.names []) ((X.mg "__name__").getD .none) c' ctv)) Hf;exact⟨.ref _,_,I.laid (t':=tk) (λb o e=>ak _ (hk b o e)) hsz (WB (bg _ rfl)),rfl,q _ c' ctv _ Hf (λb o e _=>sm b o e) upd_same (sm _ _ hc') ⟨ps,sm _ _ hP,ht,.inr ⟨c',hf,sm _ _ hc'⟩⟩⟩
end
end L2
end
section
namespace L2
open PySem PySem.Spec PyProof.Rows
theorem cf.perm {α β:Type} {R:α->β->Prop} {l1 l2:List β} (p:l1.Perm l2):∀{as:List α},cf R as l2->∃bs:List α,bs.Perm as/\cf R bs l1:=by
 have key:∀{l1 l2:List β},l2.Perm l1->∀{as:List α},cf R as l2->∃bs:List α,bs.Perm as/\cf R bs l1:=by
  intro l1 l2 p;induction p with
  |nil=>intro as h;cases h;exact⟨[],.refl _,.nil⟩
  |cons x _ ih=>
   intro as h;cases h with
   |cons r t=>
    obtain⟨bs,p1,q1⟩:=ih t;exact⟨_::bs,p1.cons _,.cons r q1⟩
  |swap x y l=>
   intro as h;cases h with
   |cons r t=>
    cases t with
    |cons r2 t2=>exact⟨_::_::_,.swap ..,.cons r2 (.cons r t2)⟩
  |trans _ _ ih1 ih2=>
   intro as h;obtain⟨bs,p1,q1⟩:=ih1 h;obtain⟨cs,p2,q2⟩:=ih2 q1;exact⟨cs,p2.trans p1,q2⟩
 intro as h;exact key p.symm h
theorem cf.zip2 {α β γ δ:Type} {R:α->β->Prop} {S:γ->δ->Prop}:∀{as:List α} {bs:List β} {cs:List γ} {ds:List δ},cf R as bs->cf S cs ds->cf (λ(p:α×γ) (q:β×δ)=>R p.1 q.1/\S p.2 q.2) (as.zip cs) (bs.zip ds)
 |_,_,_,_,.nil,_=>.nil
 |_,_,_,_,.cons _ _,.nil=>.nil
 |_,_,_,_,.cons r t,.cons q u=>.cons ⟨r,q⟩ (cf.zip2 t u)
theorem cf.map_snd {α γ:Type} {R:α->γ->Prop} {T:V->ah->Prop} {f:α->V} {g:γ->ah} (h:∀a c,R a c->T (f a) (g c)):∀{as:List α} {cs:List γ},cf R as cs->cf T (as.map f) (cs.map g)
 |_,_,.nil=>.nil
 |_,_,.cons r t=>.cons (h _ _ r) (cf.map_snd h t)
theorem cf.at {α β:Type} {R:α->β->Prop}:∀{as:List α} {bs:List β} {i:Nat} {a:α},cf R as bs->as[i]? =some a->∃b,bs[i]? =some b/\R a b
 |_,_,_,_,.nil,e=>by simp at e
 |_,_,0,_,.cons r _,e=>by simp at e;subst e;exact⟨_,rfl,r⟩
 |_,_,i+1,a,.cons _ t,e=>by
  obtain⟨u,h1,h2⟩:=cf.at (i:=i) (a:=a) t (by simpa using e);exact⟨u,by simpa using h1,h2⟩
theorem cf.snc {α β:Type} {R:α->β->Prop} {a:α} {b:β} (r:R a b):∀{as:List α} {bs:List β},cf R as bs->cf R (as++[a]) (bs++[b])
 |_,_,.nil=>.cons r .nil
 |_,_,.cons q t=>.cons q (cf.snc r t)
theorem SB:∀a b:List Int,lexLt itemOrd (a.map ky) (b.map ky)=HT.lexLt a b
 |[],[]=>rfl
 |[],_::_=>rfl
 |_::_,[]=>rfl
 |x::a,y::b=>by
  show(decide (x<y)||(!decide (y<x)&&lexLt itemOrd (a.map ky) (b.map ky)))=if x=y then HT.lexLt a b else decide (x<y);rw[SB a b];by_cases e:x=y
  ·subst e;simp
  ·rw[Ay e];by_cases l:x<y
   ·simp[l]
   ·have:y<x:=by omega
    simp[l,this]
abbrev KeyAt (H:Hp) (k:List Int) (v:ah):Prop:=∃p,v= .ref p/\H p=some (.tup (k.map V.int))
section
variable {X:Cx} {Ap:List (ag×Obj)} {σ:St} {H:Hp} {s:aj}
theorem KeyAt.same {H H':Hp} (e:Same H H') {k:List Int} {v:ah} (h:KeyAt H k v):KeyAt H' k v:=let ⟨p,e1,e2⟩:=h;⟨p,e1,e _ _ e2⟩
theorem UH {k:List Int} {As:List ah} (r:Vals (k.map V.int) As):∀i,tupItems (λ_=>false) i As=some (k.map ky):=by
 induction k generalizing As with
 |nil=>intro i;cases r;rfl
 |cons x k ih=>
  intro i;cases r with
  |cons r t=>
   obtain⟨tk,rfl⟩:=r;show(if(false:Bool)=true then none else(tupItems (λ_=>false) (i+1) _).map (ky x::·))=_;rw[Ay (by simp),ih t];rfl
theorem KeyAt.key {P:bb} {w:bv} {H:Hp} {h:cr} (ok:HOk P w H h) {k:List Int} {v:ah} (q:KeyAt H k v):xE h (λ_=>false) v=some (k.map ky):=by
 obtain⟨p,rfl,e⟩:=q;obtain⟨z,As,r,ob,e1,c,n,d⟩:=ok p _ e;have hi:G.isTupObj h (.ref p)=true:=by
  show(match h.get? p with|some o=>(match o.cls with| .type n=>n=="tuple"|_=>false)|none=>false)=true;rw[e1];simp only[c];rfl
 unfold xE;rw[Ax hi];show(match h.get? p with|some o=>(match o.data with| .seq xs _=>tupItems (λ_=>false) 0 xs.toList|_=>none)|none=>none)=_;rw[e1];simp only[d];exact UH r 0
theorem KeyAt.tups {P:bb} {w:bv} {H:Hp} {h:cr} (ok:HOk P w H h):∀{ks:List (List Int)} {vs:List ah},(∀k∈ks,k≠[])->cf (KeyAt H) ks vs->∃fs,TupsOf h (λ_=>false) vs fs/\fs.length=ks.length
 |_,_,_,.nil=>⟨[],.nil,rfl⟩
 |k::ks,v::vs,ne,.cons q t=>by
  obtain⟨fs,h1,h2⟩:=KeyAt.tups ok (λk hk=>ne k (aq _ hk)) t;obtain⟨p,rfl,e⟩:=q;obtain⟨z,As,r,ob,e1,c,n,d⟩:=ok p _ e;cases k with
  |nil=>exact absurd rfl (ne [] (bc ..))
  |cons x k=>
   cases r with
   |cons r t'=>
    obtain⟨tk,rfl⟩:=r;exact⟨_::fs,.cons ⟨p,ob,_,n,rfl,e1,c,d,rfl,λ_=>⟨x,tk,rfl⟩,λz=>absurd z (by simp)⟩ h1,by simp[h2]⟩
theorem Inv.take {t':Nat} {it:ag} {o:HO} {h':cr} (I:Inv X Ap σ H s) (k:∀b o,b≠it->s.heap.get? b=some o->h'.get? b=some o) (hn:H it=none) (hL:it≠X.env.locals)
 (h1:it∈X.ex\/X.s_0.heap.objs.size<=it) (h2:∀x c,X.env.cells.lookup x=some c->c≠it) (h3:∀p∈X.pn++Ap,p.1≠it) (new:ObjOk X.prog X.w (upd H it o) h' it o):Inv X Ap σ (upd H it o) { s with heap:=h',toks:=t' }:=by
 have nit:∀b u,H b=some u->b≠it:=λb u e z=>by rw[z,hn] at e;cases e
 refine I.step (g':=s.gens) (d':=s.drawn) (ch:=[it]) (λb hb=>?_) (λb o _ _ hc e _=>k b o (λz=>hc (by simp[z])) e) (λb o _ _ hc e _=>⟨o.slots,k b o (λz=>hc (by simp[z])) e⟩) (λb _ hc _ n=>by rw[AE (λz=>hc (by simp[z]))];exact n)
  (λb o hc e=>⟨o,k b o (λz=>hc (by simp[z])) e⟩) (λb xs e=>by rw[AE (nit b _ e)];exact e) (λb o u e=>by rw[AE (nit b _ e)];exact e) (λb ps e=>⟨#[],by rw[AE (nit b _ e),e];simp⟩) (λm hm=>?_) (λb u e=>?_) I.bare
 ·have e:b=it:=by simpa using hb
  subst e;exact⟨h1,hL,h2,h3⟩
 ·obtain⟨o,es,ep,ho,r⟩:=hm;exact⟨o,es,ep,k _ o (cq hL) ho,r⟩
 ·by_cases hb:b=it
  ·subst hb;rw[upd_same] at e;cases e;exact new
  ·rw[AE hb] at e;refine(I.hok b u e).stay (λc v hc q=>k c v ?_ q) (λc q=>by rw[AE (nit c _ q)];exact q) λc xs q=>by rw[AE (nit c _ q)];exact q
   rcases hc with z|z
   ·rw[z];exact nit b u e
   ·exact nit c _ z
def Own (X:Cx) (Ap:List (ag×Obj)) (D:ag):Prop:=D≠X.env.locals/\D∉X.fs/\X.s_0.heap.objs.size<=D/\(∀x c,X.env.cells.lookup x=some c->c≠D)/\∀p∈X.pn++Ap,p.1≠D
theorem Inv.own (I:Inv X Ap σ H s) {D:ag} (h:s.heap.objs.size<=D):Own X Ap D:=by
 refine⟨qa (br I.lt h),I.nofs h,cy I.sz h,λx c e z=>?_,λp hp z=>?_⟩
 ·obtain⟨v,o,ho,_⟩:=I.cell x c e;have hl:=bh ho;rw[z] at hl;exact absurd (br hl h) (iz _)
 ·have hl:=bh (I.pin p hp).1;rw[z] at hl;exact absurd (br hl h) (iz _)
def IB (H:Hp) (h:cr) (D:ag) (a:Array ah) (e:Nat):Prop:=h.get? D=some (ml "list" a e)/\H D=none
theorem Inv.pin2 {D k:ag} {a b:Array ah} {e e':Nat} (I:Inv X Ap σ H s) (OD:Own X Ap D) (OK:Own X Ap k) (hD:IB H s.heap D a e) (hk:IB H s.heap k b e'):
 Inv X ((k,ml "list" b e')::(D,ml "list" a e)::Ap) σ H s:=by
 refine I.pins_of λp hp=>?_;rcases bp.mp hp with rfl|hp
 ·exact⟨hk.1,hk.2,OK.1,OK.2.1,λv z=>by cases z⟩
 ·rcases bp.mp hp with rfl|hp
  ·exact⟨hD.1,hD.2,OD.1,OD.2.1,λv z=>by cases z⟩
  ·exact I.pin p (dw _ hp)
theorem Inv.unpin2 {D k:ag} {a b:Array ah} {e e':Nat} (I:Inv X ((k,ml "list" b e')::(D,ml "list" a e)::Ap) σ H s):Inv X Ap σ H s/\IB H s.heap D a e/\IB H s.heap k b e':=by
 refine⟨I.pins_of λp hp=>I.pin p (dw _ (aq _ (aq _ hp))),?_,?_⟩
 ·have z:=I.pin (D,ml "list" a e) (dw _ (aq _ (bc ..)));exact⟨z.1,z.2.1⟩
 ·have z:=I.pin (k,ml "list" b e') (dw _ (bc ..));exact⟨z.1,z.2.1⟩
theorem Inv.lone {D:ag} {a:Array ah} {e:Nat} (I:Inv X Ap σ H s) (O:Own X Ap D) (h:IB H s.heap D a e) (f:Array ah->Array ah):
 Inv X Ap σ H { s with heap:=s.heap.update D (fj f) }/\(∃e',IB H (s.heap.update D (fj f)) D (f a) e')/\∀b o,b≠D->s.heap.get? b=some o->(s.heap.update D (fj f)).get? b=some o:=by
 have k:∀b o,b≠D->s.heap.get? b=some o->(s.heap.update D (fj f)).get? b=some o:=λb o n q=>by rw[ms _ _ _ _ n];exact q
 exact⟨I.turned (t':=s.toks) k h.2 O.1 (.inr O.2.2.1) O.2.2.2.1 O.2.2.2.2,⟨_,x9 h.1 f,h.2⟩,k⟩
section
variable {A:de} {E:ah->aj->Prop} {D kS q:ag} {xs:List V} {vs:List ah} {ks:List (List Int)} {e1:Nat} {P:Am->aj->Prop} {H0:Hp}
def JS (X:Cx) (Ap:List (ag×Obj)) (σ:St) (H0:Hp) (D:ag) (ks:List (List Int)) (xs:List V) (P:Am->aj->Prop):Prop:=
 ∀(H':Hp) (s':aj) (zs:List (List Int×V)),Inv X Ap σ (upd H' D (.lst (zs.map (·.2)))) s'->Same H0 H'->H' D=none->zs.Perm (ks.zip xs)->zs.Pairwise (λa b=>HT.lexLt b.1 a.1=false)->P (.done (.ret .none)) s'
theorem XQ {st:SortSt} {keys:Array ah} {e:Nat} {zs:List (List Int×V)} (I:Inv X Ap σ H s) (sm:Same H0 H) (OD:Own X Ap D) (OK:Own X Ap kS) (hn:kS≠D) (hD:IB H s.heap D #[] e1) (hk:IB H s.heap kS keys e)
 (hz:keys.size<=sizeLine) (hp:cf (λ(p:List Int×V) (q:Keyed)=>KeyAt H p.1 q.1/\RelV p.2 q.2) zs (ur st).toList) (hzl:zs.length<=sizeLine) (pm:zs.Perm (ks.zip xs)) (pw:zs.Pairwise (λa b=>HT.lexLt b.1 a.1=false)) (hfl:failedOf st=none)
 (h:JS X Ap σ H0 D ks xs P):bf (bi X.prog X.w) A (ksk_tail D false e1 (.ref kS) st) P E s:=by
 unfold ksk_tail;try dsimp only
 obtain⟨I1,⟨e2,hk1⟩,k1⟩:=I.lone OK hk (λ_=>#[]);have hD1:IB H (s.heap.update kS (fj λ_=>#[])) D #[] e1:=⟨k1 _ _ hn.symm hD.1,hD.2⟩
 refine ae (uM hk.1 rfl ?_ hz (dq _));refine ae (wpAny_letGo ?_);refine ae (seqEpoch_at hD1.1 rfl ?_);have hl:zs.length=(ur st).size:=hp.length.trans (fv ..);have hso:((ur st).map (·.2)).size<=sizeLine+1:=by
  rw[Array.size_map, ←hl];exact Nat.le_succ_of_le hzl
 refine ae (uM hD1.1 rfl ?_ (dq _) (by simpa using hso));rw[hfl];simp only[bne_self_eq_false,fu,if_false];refine ao (h H _ zs ?_ sm hD.2 pm pw);have k2:∀b o,b≠D->(s.heap.update kS (fj λ_=>#[])).get? b=some o->((s.heap.update kS (fj λ_=>#[])).update D (fj λ_=>(ur st).map (·.2))).get? b=some o:=λb o n q=>by rw[ms _ _ _ _ n];exact q
 have r2:Vals (zs.map (·.2)) ((ur st).map (·.2)).toList:=by
  rw[Array.toList_map];exact cf.map_snd (R:=λ(p:List Int×V) (q:Keyed)=>KeyAt H p.1 q.1/\RelV p.2 q.2) (λa c z=>z.2) hp
 obtain⟨e3,he3⟩:∃e3,((s.heap.update kS (fj λ_=>#[])).update D (fj λ_=>(ur st).map (·.2))).get? D=some (ml "list" ((ur st).map (·.2)) e3):=⟨_,x9 hD1.1 (λ_=>(ur st).map (·.2))⟩
 refine I1.take (t':=s.toks) k2 hD.2 OD.1 (.inr OD.2.2.1) OD.2.2.2.1 OD.2.2.2.2 ⟨by rw[ai];exact hzl,((ur st).map (·.2)).toList,e3,r2,?_⟩;rw[he3,v8]
theorem a9 {keys:Array ah} {e:Nat} (I:Inv X Ap σ H s) (sm:Same H0 H) (OD:Own X Ap D) (OK:Own X Ap kS) (hn:kS≠D) (hD:IB H s.heap D #[] e1) (hk:IB H s.heap kS keys e)
 (hlen:ks.length=xs.length) (hne:∀k∈ks,k≠[]) (rv:Vals xs vs) (hZ:xs.length<=sizeLine) (rk:cf (KeyAt H) ks keys.toList)
 (h:JS X Ap σ H0 D ks xs P):bf (bi X.prog X.w) A (ksk_end D false vs.toArray e1 (.ref kS) keys) P E s:=by
 have hvl:=rv.length;have hkl:ks.length=keys.size:=rk.length.trans (fv ..);have hzs:(keys.zip vs.toArray).size=vs.length:=by
  rw[Array.size_zip];show min keys.size vs.length=vs.length;omega
 have base:cf (λ(p:List Int×V) (q:Keyed)=>KeyAt H p.1 q.1/\RelV p.2 q.2) (ks.zip xs) (keys.zip vs.toArray).toList:=by
  rw[xF];exact cf.zip2 rk rv
 have hzl:(ks.zip xs).length<=sizeLine:=by rw[List.length_zip];omega
 have fin:∀st:SortSt,(ur st).Perm (keys.zip vs.toArray)->failedOf st=none->SortedToK (wF s.heap λ_=>false) (ur st) (keys.zip vs.toArray).size->bf (bi X.prog X.w) A (ksk_tail D false e1 (.ref kS) st) P E s:=by
  intro st hp hf hs;obtain⟨zs,pm,pz⟩:=cf.perm (Array.perm_iff_toList_perm.mp hp) base;refine XQ I sm OD OK hn hD hk (by omega) pz (by rw[pm.length_eq];exact hzl) pm ?_ hf h;rw[lj];intro i j hi hj hij;have zl:zs.length=(ur st).size:=pz.length.trans (fv ..);obtain⟨p,hp1,hp2, -⟩:=cf.at pz (am hi);obtain⟨p',hp1',hp2', -⟩:=cf.at pz (am hj);have hk1:=KeyAt.key I.hok hp2;have hk2:=KeyAt.key I.hok hp2';have hs':=hs i j (pj hij) (by rw[←hp.size_eq];omega);have kk:∀{i:Nat} {p:Keyed} {k:List Int},(ur st).toList[i]? =some p->xE s.heap (λ_=>false) p.1=some (k.map ky)->KK (wF s.heap λ_=>false) (ur st) i=k.map ky:=by
   intro i p k e1 e2;unfold KK;rw[kz] at e1;rw[e1];show(xE s.heap (λ_=>false) p.1).getD []=_;rw[e2];rfl
  rw[kk hp1 hk1,kk hp1' hk2] at hs';have hs'':lexLt itemOrd (zs[j].1.map ky) (zs[i].1.map ky)=false:=hs';rw[SB] at hs'';exact hs''
 unfold ksk_end;try dsimp only
 simp only[fu,if_false];by_cases h2:vs.toArray.size<2
 ·rw[Ax h2,Ax h2];refine ae (ao ?_);rw[StateT.run_pure];refine ae (ao ?_);try dsimp only
  refine fin (Ae general' (keys.zip vs.toArray) #[] 7 none) (ya _) rfl ?_;intro i j hij hj;rw[hzs] at hj;rw[bn] at h2;have:i=j:=by omega
  subst this;exact KeyOrd.kle_refl _
 ·rw[Ay h2,Ay h2];rw[bn] at h2;obtain⟨fs,tf,fl⟩:=KeyAt.tups I.hok hne rk;have hkk:bf (bi X.prog X.w) A (keyKind' keys.toList.toArray) (λk s'=>k=tuples' true/\s'=s) E s:=tup_kind (by omega) tf ⟨rfl,rfl⟩;rw[v8] at hkk;refine ae (gq hkk (λkd s' hq=>?_) λ_ _ z=>z);obtain⟨rfl,rfl⟩:=hq;refine ae (gq (G.wpS_sortRunsSt (κ:=wF s'.heap λ_=>false) (kd:=tuples' true) (a₀:=keys.zip vs.toArray) (st:=Ae (tuples' true) (keys.zip vs.toArray) #[] 7 none)
   (Q:=λ_ st'=>(ur st').Perm (keys.zip vs.toArray)/\failedOf st'=none/\SortedToK (wF s'.heap λ_=>false) (ur st') (keys.zip vs.toArray).size)
   (G.tupC_ltAt true (An _)) (λp hp=>?_) ⟨ya _,rfl,rfl⟩ rfl (Stable.refl _) (by rw[hzs];omega) λst' a1 a2 a3 _=>⟨a1,a2,a3⟩) ?_ λ_ _ e=>e)
  ·rw[xF] at hp;have hm:=(qy hp).1;obtain⟨i,hi,e⟩:=List.getElem_of_mem hm;have hi':i<ks.length:=by rw[hkl];exact Nat.lt_of_lt_of_eq hi (fv ..)
   obtain⟨b,hb,kb⟩:=cf.at rk (am hi');rw[am hi,e] at hb;cases hb;exact⟨_,KeyAt.key I.hok kb⟩
  ·rintro ⟨⟨⟩,st'⟩ s3 ⟨rfl,hp,hf,hs⟩;try dsimp only
   exact fin st' hp hf hs
theorem XR (I:Inv X Ap σ H0 s) (OD:Own X Ap D) (OK:Own X Ap kS) (hn:kS≠D) (hD:IB H0 s.heap D #[] e1) (hk:IB H0 s.heap kS #[] 0)
 (hlen:ks.length=xs.length) (hne:∀k∈ks,k≠[]) (rv:Vals xs vs) (hZ:xs.length<=sizeLine)
 (turn:∀(i:Nat) (x:V) (k:List Int),xs[i]? =some x->ks[i]? =some k->∀(pins':List (ag×Obj)) (H':Hp) (s':aj) (u:ah),Inv X pins' σ H' s'->Same H0 H'->RelV x u->
  bf (bi X.prog X.w) A (call (.ref q) [u]) (EP X pins' σ λv H''=>∃p,v= .ref p/\H' p=none/\H''=upd H' p (.tup (k.map V.int))) (λ_ _=>False) s')
 (h:JS X Ap σ H0 D ks xs P):bf (bi X.prog X.w) A (ksk_rest D (.ref q) false vs.toArray e1 (.ref kS)) P E s:=by
 have hvl:=rv.length;have hZ2:=hZ;rw[bw] at hZ2;unfold ksk_rest;refine ae (wpAny_rule ?_);first
  |rw[List.forIn_toArray]
  |(rw[←wG];simp only[List.toList_toArray])
  |rw[←wG]
 refine ae (ksk_fold (λi s'=>∃(H':Hp) (kA:Array ah) (e:Nat),Inv X Ap σ H' s'/\Same H0 H'/\IB H' s'.heap D #[] e1/\IB H' s'.heap kS kA e/\cf (KeyAt H') (ks.take i) kA.toList) vs 0 s
  ⟨H0,#[],0,I,λ_ _ e=>e,hD,hk,.nil⟩ ?step ?done)
 case step=>
  rintro j u s' hu ⟨H',kA,e,I',sm,hD',hk',pk⟩;simp only[oe] at pk ⊢;have hj:j<vs.length:=(aw.mp hu).1;have hxj:xs[j]? =some xs[j]:=am (by omega);obtain⟨u',hu',ru⟩:=rv.get hxj;rw[hu] at hu';cases hu';have hkj:ks[j]? =some ks[j]:=am (by omega);have hz:kA.size<=vs.length:=by
   have h1:(ks.take j).length=kA.size:=pk.length.trans (fv ..);rw[df] at h1;omega
  refine ae (uH (gq (turn j _ _ hxj hkj _ H' s' u (I'.pin2 OD OK hD' hk') sm ru) (λv s2 he=>?_) λ_ _ hF=>hF.elim));obtain⟨y,H2,I2,ry,p,rfl,hpn,rfl⟩:=he;obtain rfl:v=cb p:=ry;obtain⟨I3,hD3,hk3⟩:=I2.unpin2;try dsimp only
  obtain⟨I4,⟨e4,hk4⟩,k4⟩:=I3.lone OK hk3 (·.push (.ref p));refine ae (uM hk3.1 rfl ?_ (by rw[bw];omega) (cy (sg (Array.size_push ..)) (by rw[bw];omega)));have smn:Same H' (upd H' p (.tup (ks[j].map V.int))):=Same.upd hpn;refine ao ⟨rfl,_,kA.push (.ref p),e4,I4,sm.trans smn,⟨k4 _ _ hn.symm hD3.1,hD3.2⟩,hk4,?_⟩;have ek:ks.take (j+1)=ks.take j++[ks[j]]:=by rw[dk,hkj];rfl
  rw[ek,Array.toList_push];exact cf.snc ⟨p,rfl,upd_same⟩ (cf.imp' (λa b z=>KeyAt.same smn z) pk)
 case done=>
  rintro s' ⟨H',kA,e,I',sm,hD',hk',pk⟩;have e3:ks.take (0+vs.length)=ks:=sM (by omega);rw[e3] at pk;try dsimp only
  refine ae (listItems_at hk'.1 rfl ?_);exact a9 I' sm OD OK hn hD' hk' hlen hne rv hZ pk h
theorem XS {n:Nat} (I:Inv X Ap σ H0 s) (OD:Own X Ap D) (hD:IB H0 s.heap D vs.toArray n)
 (hlen:ks.length=xs.length) (hne:∀k∈ks,k≠[]) (rv:Vals xs vs) (hZ:xs.length<=sizeLine)
 (turn:∀(i:Nat) (x:V) (k:List Int),xs[i]? =some x->ks[i]? =some k->∀(pins':List (ag×Obj)) (H':Hp) (s':aj) (u:ah),Inv X pins' σ H' s'->Same H0 H'->RelV x u->
  bf (bi X.prog X.w) A (call (.ref q) [u]) (EP X pins' σ λv H''=>∃p,v= .ref p/\H' p=none/\H''=upd H' p (.tup (k.map V.int))) (λ_ _=>False) s')
 (h:JS X Ap σ H0 D ks xs P):bf (bi X.prog X.w) A (ksk_tree D (.ref q) false) P E s:=by
 have hvl:=rv.length;have hZ2:=hZ;rw[bw] at hZ2;obtain⟨I1,⟨e1,hD1⟩,k1⟩:=I.lone OD hD (λ_=>#[]);unfold ksk_tree;refine ae (listItems_at hD.1 rfl ?_);refine ae (uM hD.1 rfl ?_ (by rw[bn,bw];omega) (dq _));refine ae (seqEpoch_at hD1.1 rfl ?_);refine ae (wpAny_newTuple ?_ (by show vs.length<=_;rw[bw];omega));refine ae (wpAny_newList ?_ (dq _));refine ij ?_;have I2:Inv X Ap σ H0 { s with heap:=((s.heap.update D (fj λ_=>(#[]:Array ah))).push (ml "tuple" vs.toArray 0)).push (ml "list" #[] 0) }:=
  I1.kept (t':=s.toks) λb o e=>ak _ (ak _ e)
 have hsz:((s.heap.update D (fj λ_=>(#[]:Array ah))).push (ml "tuple" vs.toArray 0)).objs.size=s.heap.objs.size+1:=by rw[size_push',xG]
 have hDlt:D<s.heap.objs.size:=bh hD.1;refine XR (kS:=((s.heap.update D (fj λ_=>(#[]:Array ah))).push (ml "tuple" vs.toArray 0)).objs.size) I2 OD (I.own (by rw[hsz];exact tq _)) (by rw[hsz];exact qa (ot hDlt))
  ⟨ak _ (ak _ hD1.1),hD1.2⟩ ⟨bg _ rfl,I.hok.fresh (by rw[hsz];exact tq _)⟩ hlen hne rv hZ turn h
end
theorem XT {l q:ag} {xs:List V} {ks:List (List Int)} {Q:VK} {E:ah->aj->Prop} (I:Inv X Ap σ H s) (hl:SqL X.K H l xs) (hlen:ks.length=xs.length) (hne:∀k∈ks,k≠[])
 (turn:∀(i:Nat) (x:V) (k:List Int),xs[i]? =some x->ks[i]? =some k->∀(pins':List (ag×Obj)) (H':Hp) (s':aj) (u:ah),Inv X pins' σ H' s'->Same H H'->RelV x u->
  bf (bi X.prog X.w) X.A.in1.in1 (call (.ref q) [u]) (EP X pins' σ λv H''=>∃p,v= .ref p/\H' p=none/\H''=upd H' p (.tup (k.map V.int))) (λ_ _=>False) s')
 (done:∀(D:ag) (H':Hp) (zs:List (List Int×V)),H' D=none->Same H H'->zs.Perm (ks.zip xs)->zs.Pairwise (λa b=>HT.lexLt b.1 a.1=false)->Q (.ref D) (upd H' D (.lst (zs.map (·.2))))):
 bf (bi X.prog X.w) X.A (call (.builtin "sorted") [.ref l] [(lu "key",.ref q)]) (EP X Ap σ Q) E s:=by
 obtain⟨vs,rv,pl,hZ⟩:=I.list hl;have hvl:xs.length=vs.length:=rv.length;have hZ2:vs.length<=sizeLine:=by omega
 refine call_function_entry_kw kind_sorted plain_sorted entry_sorted (by first|exact rfl|decide) ?_;unfold Builtin.«sorted»;refine ae (m:=checkCount "sorted" 1 1 _) (ao ?_);refine ae (collect_list pl.isList ?_ hZ2);refine ae (wpAny_newList ?_ hZ2);have hsz:((s.heap.push (ml "list" #[] 0)).update s.heap.objs.size (fj (·++vs.toArray))).objs.size=s.heap.objs.size+1:=by
  rw[xG,size_push']
 have hoL:(((s.heap.push (ml "list" #[] 0)).update s.heap.objs.size (fj (·++vs.toArray))).push (ml "list" vs.toArray 0)).get? (s.heap.objs.size+1)=some (ml "list" vs.toArray 0):=by
  rw[←hsz];exact bg _ rfl
 have keep:∀b o,s.heap.get? b=some o->(((s.heap.push (ml "list" #[] 0)).update s.heap.objs.size (fj (·++vs.toArray))).push (ml "list" vs.toArray 0)).get? b=some o:=λb o q=>by
  have Aw:b<s.heap.objs.size:=bh q;rw[uB _ _ _ (by rw[hsz];exact cj (ot Aw)),ms _ _ _ _ (cj Aw),uB _ _ _ (cj Aw)];exact q
 show bf _ _ _ _ _ { s with heap:=((s.heap.push (ml "list" #[] 0)).update s.heap.objs.size (fj (·++vs.toArray))).push (ml "list" vs.toArray 0) };rw[hsz];have I1:Inv X Ap σ H { s with heap:=((s.heap.push (ml "list" #[] 0)).update s.heap.objs.size (fj (·++vs.toArray))).push (ml "list" vs.toArray 0) }:=I.kept (t':=s.toks) keep;refine ae (ij (wpAny_call_entry_kw slot_list_sort ⟨_,hoL,rfl⟩ entry_list_sort ?body (by first|exact rfl|decide)))
 case body=>
  show bf (bi X.prog X.w) X.A.in1.in1 (uz.«list.sort» ⟨[.ref (s.heap.objs.size+1)],[(lu "key",.ref q)]⟩) _ _ _;rw[ksk_t1];refine XS I1 (I.own (tq _)) ⟨hoL,I.hok.fresh (tq _)⟩ hlen hne rv hZ turn λH' s' zs I' sm nD pm pw=>⟨_,rfl,?_⟩
  exact ao ⟨_,rfl,.ref _,_,I',rfl,done _ H' zs nD sm pm pw⟩
end
end L2
end
section
namespace L2
open PySem PySem.Spec PyProof.Rows
structure LamFr (X:Cx) (scope:jj) (fr:List Str) (idx:List Nat):Prop where
 uniq:∀y∈scope.names,scope.names.lookup y.1=some y.2
 out:∀y∈scope.names,y.2= .free->X.env.kindOf y.1=some .cell\/X.env.kindOf y.1=some .free
 len:fr.length=idx.length
 at_:∀(j:Nat) (y:Str),fr[j]? =some y->∃i,idx[j]? =some i/\X.N[i]? =some y/\scope.names.lookup y=some .free/\Vis X.env.scope y/\(X.env.kindOf y=some .cell\/X.env.kindOf y=some .free)
theorem XU {X:Cx} {Ap:List (ag×Obj)} {σ:St} {H:Hp} {s:aj} {scope:jj} {fr:List Str} {idx:List Nat} {fvs:List V} (I:Inv X Ap σ H s) (L:LamFr X scope fr idx) (hl:fvs.length=idx.length)
 (hv:∀(j i:Nat) (v:V),idx[j]? =some i->fvs[j]? =some v->σ[i]? =some (some v)):CellsAre (BA X.env.cells scope.names []) scope fr fvs H s.heap:=by
 have look:∀{y:Str} {c:ag},(BA X.env.cells scope.names []).lookup y=some c->X.env.cells.lookup y=some c:=λ{y c} e=>by
  rcases EF (cp e) with z|⟨z1,z2⟩
  ·exact absurd z (by simp)
  ·obtain⟨c',hc'⟩:=I.ok.has _ (L.out _ z1 rfl);rw[hc'] at z2 ⊢;rw[z2];rfl
 refine⟨L.len.trans hl.symm,λy z c e1 e2=>I.ok.inj y z c (look e1) (look e2),λy hy=>E3 (EG (cp hy)),λy c e=>I.cell y c (look e),λy c e=>I.freeC y c (look e),λj y v h1 h2=>?_⟩;obtain⟨i,hi,hN,hf,vis,hk⟩:=L.at_ j y h1;obtain⟨m,hn,hloc⟩:=I.loc;obtain⟨u,r,lk⟩:=hloc i y v hN (hv j i v hi h2) vis;rcases lk with⟨z,_⟩|⟨_,c,hc,ic⟩
 ·rcases hk with k|k<;>rw[k] at z<;>cases z
 ·obtain⟨c',hc'⟩:=E3 (EG (cells:=X.env.cells) (acc:=[]) (cp hf));have e:=look hc';rw[hc] at e;cases e;exact⟨u,_,r,hc',ic⟩
section
variable {X:Cx} {c P:ag} {params:tV} {body e:Expr} {scope:jj} {p pos kpos lpos:Pos} {fr:List Str} {idx:List Nat} {x:Str} {te t:TE}
def bA (X:Cx) (P:ag) (lpos:Pos) (idx:List Nat) (t:TE) (σ:St) (Q:VK) (y:V) (H1:Hp):Prop:=Ex4 λ(l:ag) (xs:List V) (ks:List (List Int)) (fvs:List V)=>y= .ref l/\SqL X.K H1 l xs/\l≠P/\ks.length=xs.length/\(∀k∈ks,k≠[])/\LamTbl H1 P lpos (X.env.qual++"<lambda>")/\
 fvs.length=idx.length/\(∀(j i:Nat) (v:V),idx[j]? =some i->fvs[j]? =some v->σ[i]? =some (some v))/\
 (∀(i:Nat) (x:V) (k:List Int),xs[i]? =some x->ks[i]? =some k->∀H2:Hp,Sb P H1 H2->t (some x::fvs.map some) H2 λv H3=>∃p,v= .ref p/\H2 p=none/\H3=upd H2 p (.tup (k.map V.int)))/\
 ∀(D:ag) (H2:Hp) (zs:List (List Int×V)),H2 D=none->Sb P H1 H2->LamTbl H2 P lpos (X.env.qual++"<lambda>")->zs.Perm (ks.zip xs)->zs.Pairwise (λa b=>HT.lexLt b.1 a.1=false)->Q (.ref D) (upd H2 D (.lst (zs.map (·.2))))
def p7 (X:Cx) (P:ag) (lpos:Pos) (idx:List Nat) (t:TE) (σ:St) (Q:VK):List V->Hp->Prop
 |[y],H1=>bA X P lpos idx t σ Q y H1
 |_,_=>False
def bB (X:Cx) (P:ag) (lpos:Pos) (idx:List Nat) (te t:TE):TE:=λσ H Q=>te σ H λy H1=>bA X P lpos idx t σ Q y H1
theorem SqL.sb {K:aa} {H H':Hp} {a P:ag} {xs:List V} (s:Sb P H H') (n:a≠P) (h:SqL K H a xs):SqL K H' a xs:=by
 rcases h with(h|⟨o,h⟩)|h
 ·exact .inl (.inl (s _ _ h n))
 ·exact .inl (.inr ⟨o,s _ _ h n⟩)
 ·exact .inr h
theorem LamTbl.same {H H':Hp} {P:ag} {pos:Pos} {q:Str} (e:Same H H') (h:LamTbl H P pos q):LamTbl H' P pos q:=by
 obtain⟨ps,h1,h2,h3⟩:=h;refine⟨ps,e _ _ h1,h2,?_⟩;rcases h3 with h3|⟨c,h3,h4⟩
 ·exact .inl h3
 ·exact .inr ⟨c,h3,e _ _ h4⟩
theorem SC {Ap:List (ag×Obj)} {σ:St} {H1 H2:Hp} {s2:aj} {Q:VK} {l f c':ag} {xs:List V} {ks:List (List Int)} {fvs:List V} {ctv:ah} {E:ah->aj->Prop} (hr:Room 3 X.A) (L:LamFr X scope fr idx) (S:LamScope x fr scope)
 (hb:∀(cl:List (Str×ag)) (pm cd ctv u:ah),vP (v7 "<lambda>" (X.env.qual++"<lambda>") params body scope cl pm cd ctv) ⟨[u],[]⟩=pure [(x,u)])
 (hbody:∀(f:ag) (cd:ah) (cl:List (Str×ag)) (A:de) (outer:List Env) (s:aj) (H:Hp),PE (O4 X.prog X.w X.K X.mg X.base (x::fr) (X.env.qual++"<lambda>") scope f cd cl A outer s H) body t)
 (I2:Inv X Ap σ H2 s2) (hl:SqL X.K H1 l xs) (nl:l≠P) (hlen:ks.length=xs.length) (hne:∀k∈ks,k≠[]) (hfl:fvs.length=idx.length) (hfv:∀(j i:Nat) (v:V),idx[j]? =some i->fvs[j]? =some v->σ[i]? =some (some v))
 (turn:∀(i:Nat) (x:V) (k:List Int),xs[i]? =some x->ks[i]? =some k->∀H2:Hp,Sb P H1 H2->t (some x::fvs.map some) H2 λv H3=>∃p,v= .ref p/\H2 p=none/\H3=upd H2 p (.tup (k.map V.int)))
 (done:∀(D:ag) (H2:Hp) (zs:List (List Int×V)),H2 D=none->Sb P H1 H2->LamTbl H2 P lpos (X.env.qual++"<lambda>")->zs.Perm (ks.zip xs)->zs.Pairwise (λa b=>HT.lexLt b.1 a.1=false)->Q (.ref D) (upd H2 D (.lst (zs.map (·.2)))))
 (sb:Sb P H1 H2) (hf:H2 f=some (LL f (oh "<lambda>" (X.env.qual++"<lambda>") params body scope (BA X.env.cells scope.names []) ((X.mg "__name__").getD .none) c' ctv))) (hc':H2 c'=some (LP c' (X.env.qual++"<lambda>")))
 (tb2:LamTbl H2 P lpos (X.env.qual++"<lambda>")):
 bf (bi X.prog X.w) X.A (call (.builtin "sorted") [.ref l] [(lu "key",.ref f)]) (EP X Ap σ Q) E s2:=by
 refine XT (ks:=ks) (Q:=Q) I2 (hl.sb sb nl) hlen hne (λi x' k hx hk pins' H' s' u' I' sm ru=>?_) λD H' zs nD sm pm pw=>done D H' zs nD (λb o e n=>sm b o (sb b o e n)) (tb2.same sm) pm pw;refine sU (nk (eF (CX:=λ_ _ _ _ _ _=>False) (E:=λ_ _ _=>False) (A:=X.A.in1.in1) S (hr.in1.in1) I'.env0.in1.in1 ru (XU I' L hfl hfv) (a7 I'.hok (sm _ _ hf)) (a8 I'.hok (sm _ _ hc')) (hb _ _ _ _ _) (hbody _ _ _ _ _ _ _)
  (turn i x' k hx hk H' λb o e n=>sm b o (sb b o e n))) λr s3 hq=>?_)
 cases r with
 |error e=>exact hq.elim
 |ok fl=>
  cases fl with
  |ret u2=>exact I'.after hq
  |next=>exact fi hq
  |brk=>exact fi hq
  |cont=>exact fi hq
theorem QK (hm:X.mg "sorted"=none) (hg:Gl X "sorted") (hr:Room 3 X.A) (he:PE X e te) (B:NR X.mg X.base) (C:uq X.base c P) (hcode:X.env.code= .ref c) (L:LamFr X scope fr idx) (S:LamScope x fr scope)
 (hb:∀(cl:List (Str×ag)) (pm cd ctv u:ah),vP (v7 "<lambda>" (X.env.qual++"<lambda>") params body scope cl pm cd ctv) ⟨[u],[]⟩=pure [(x,u)])
 (hbody:∀(f:ag) (cd:ah) (cl:List (Str×ag)) (A:de) (outer:List Env) (s:aj) (H:Hp),PE (O4 X.prog X.w X.K X.mg X.base (x::fr) (X.env.qual++"<lambda>") scope f cd cl A outer s H) body t)
 (hdef:defaultsOf params X.env=([],[]):=by rfl) (hst:be [e] X.env=(false,eval e X.env)::be [] X.env:=by rfl) (hbk:ie pos (be [e] X.env)=(false,eval e X.env)::ie pos (be [] X.env):=by rfl)
 (hpl:(ie pos (be [e] X.env)).any (·.1)=false:=by rfl):
 PE X (.Call (.Name "sorted" p) [e] [⟨some "key",.Lambda params body scope lpos,kpos⟩] pos) (bB X P lpos idx te t):=by
 intro Ap s σ H Q I h;refine gr (EJ I hg hm zo ?_ (by decide) (by decide));refine callWith_kw (env:=X.env) (thn (AA he AF hst pos Ap s σ H (p7 X P lpos idx t σ Q) I h) λus s1 ⟨vs,H1,I1,r,q⟩=>?_) hbk hpl;cases r with
 |nil=>exact q.elim
 |cons r1 r2=>
  cases r2 with
  |cons _ _=>exact q.elim
  |nil=>
   have q:bA X P lpos idx t σ Q _ H1:=q;obtain⟨l,xs,ks,fvs,rfl,hl,nl,hlen,hne,tb,hfl,hfv,turn,done⟩:=q;cases r1;refine kws_cons (thn (j6 B C hcode L.out hdef Ap s1 σ H1 (λv H2=>∃f c' ctv,v= .ref f/\Sb P H1 H2/\
    H2 f=some (LL f (oh "<lambda>" (X.env.qual++"<lambda>") params body scope (BA X.env.cells scope.names []) ((X.mg "__name__").getD .none) c' ctv))/\H2 c'=some (LP c' (X.env.qual++"<lambda>"))/\
    LamTbl H2 P lpos (X.env.qual++"<lambda>")) I1 ⟨tb,λf c' ctv H2 _ a1 a2 a3 a4=>⟨f,c',ctv,rfl,a1,a2,a3,a4⟩⟩) λw' s2 ⟨v,H2,I2,rw',f,c',ctv,ev,sb,hf,hc',tb2⟩=>?_)
   subst ev;obtain rfl:w'=cb f:=rw';refine kws_nil ?_;exact SC hr L S hb hbody I2 hl nl hlen hne hfl hfv turn done sb hf hc' tb2
end
end L2
end
section
namespace L2
open PySem PySem.Spec PyProof.Rows
open PySem.W (WData Codec OpenSpec Well WellAll ReadsW ReadsAllW)
mutual
theorem Dw.same {K:aa} {H H':Hp} (e:Same H H'):∀{v:V} {d:mz},Dw K H v d->Dw K H' v d
 |_,_,.non=>.non
 |_,_,.bl b=>.bl b
 |_,_,.int i=>.int i
 |_,_,.str x=>.str x
 |_,_,.byt b=>.byt b
 |_,_,.lst h t=>.lst (e.seq h) (DwAll.same e t)
 |_,_,.tup h t=>.tup (Same.tup e h) (DwAll.same e t)
theorem DwAll.same {K:aa} {H H':Hp} (e:Same H H'):∀{vs:List V} {ds:List mz},DwAll K H vs ds->DwAll K H' vs ds
 |_,_,.nil=>.nil
 |_,_,.cons h t=>.cons (Dw.same e h) (DwAll.same e t)
end
def WC (T:List ag) (H:Hp):Prop:=∀b,H b=none\/(Ex2 λob u=>H b=some (.frz ob u))\/(b∈T/\H b=some (.tbl #[]))
theorem UI {P:bb} {w:bv} {K:aa} {mg mb:Str->Option ah} {CX:CXT} {k:Nat} {fa:ag} {fd:ez} {ps:List Str} {sp:Sp} {s₁:aj} {vals:List ah} {ds:List mz} {R:xz} {cl:Str->Option ag} {d0:mz} {T:List ag}
 (hT:∀p∈T,K.lookup p=none/\∃c,s₁.heap.TableAt c p #[]) (hbl:NR mg s₁.heap)
 (KX:K.In s₁.heap) (hns:s₁.heap.Ns dy mg) (hb:s₁.heap.Ns vd mb) (hbb:∀x:Str,x≠"__name__"->mb x=jp x) (hlim:s₁.heap.NoLimit) (hg:s₁.gens=#[])
 (hwl:vm w.params s₁.heap vals ds) (hpl:LF ds=true) (hwt:∀d∈ds,d.weight<=1048576) (hr:Room k xf)
 (F:∀base:cr,K.In base->base.Ns dy mg->NR mg base->FnOk P w K mg base CX k fa fd ps sp) (hbind:∀(s:aj) (us:List ah),us.length=ps.length->wb s fd ⟨us,[]⟩ (ps.zip us)) (hlen:ds.length=ps.length)
 (hsp:∀(H:Hp) (xs:List V),WC T H->(∀p∈T,H p=some (.tbl #[]))->DwAll K H xs ds->sp xs H (λv H'=>Dw K H' v d0) λ_ _ _=>False)
 (hCX:∀H e s',CX [] H s₁ (λ_ _ _=>False) e s'->False):
 mr (bi P w) xf (.call (.ref fa) ⟨vals,[]⟩) (λr s'=>Ex2 λu as=>r= .ok (.ret u)/\ReadsW R cl s'.heap u d0 as/\OldK s₁.heap s'.heap/\s'.os=s₁.os/\ve s'.gens) s₁:=by
 obtain⟨A,ho,ar⟩:=JH ds vals hwl hpl hwt;have hO':e8 (GC K s₁.heap A):=W4 ar;have hok':HOk P w (GC K s₁.heap A) s₁.heap:=c4 ar;have hS':=PU KX ar ds vals hwl hpl ho;have hV:=GB ho;have hK':∀b u,GC K s₁.heap A b=some u->K.lookup b=none:=λb u q=>(LY ar q).1;have noSeq:∀{b:ag} {o:Obj},s₁.heap.get? b=some o->(∀vs n,o.data≠.seq vs n)->GC K s₁.heap A b=none:=λ{b o} e d=>by
  cases q:GC K s₁.heap A b with
  |none=>rfl
  |some u=>
   obtain⟨_,vs,_,_,⟨e2,_⟩|⟨e2,_⟩⟩:=LY ar q
   ·rw[e2] at e;cases e;exact absurd rfl (d _ _)
   ·rw[e2] at e;cases e;exact absurd rfl (d _ _)
 have hTo:∀p∈T,s₁.heap.get? p=some { cls:=.none,data:=.fields #[] }:=λp hp=>let ⟨_,_,x⟩:=hT p hp;x.2;have hTn:∀p∈T,GC K s₁.heap A p=none:=λp hp=>noSeq (hTo p hp) λvs n z=>by cases z
 generalize GC K s₁.heap A=H0 at hO' hok' hS' hK' noSeq hTn;obtain⟨H,hHT,hHn⟩:∃H:Hp,(∀p∈T,H p=some (.tbl #[]))/\∀p,p∉T->H p=H0 p:=⟨λb=>if b∈T then some (.tbl #[]) else H0 b,λp hp=>Ax hp,λp hp=>Ay hp⟩
 have sm:Same H0 H:=λb o e=>by
  by_cases z:b∈T
  ·rw[hTn b z] at e;cases e
  ·rw[hHn b z];exact e
 have hO:WC T H:=λb=>by
  by_cases z:b∈T
  ·exact .inr (.inr ⟨z,hHT b z⟩)
  ·rcases hO' b with q|⟨ob,u,q⟩
   ·exact .inl ((hHn b z).trans q)
   ·exact .inr (.inl ⟨ob,u,(hHn b z).trans q⟩)
 have hok:HOk P w H s₁.heap:=λb u e=>by
  by_cases z:b∈T
  ·rw[hHT b z] at e;cases e;exact hTo b z
  ·rw[hHn b z] at e;exact(hok' b u e).stay (λ_ _ _ q=>q) (λc q=>sm c _ q) λc xs q=>sm c _ q
 have hS:DwAll K H (vals.map toV) ds:=DwAll.same sm hS';have noA:∀{b:ag} {o:Obj},s₁.heap.get? b=some o->(∀vs n,o.data≠.seq vs n)->(∀vs,o.data≠.fields vs)->H b=none:=λ{b o} e d d2=>by
  by_cases z:b∈T
  ·rw[hTo b z] at e;cases e;exact absurd rfl (d2 _)
  ·rw[hHn b z];exact noSeq e d
 have base_of:∀{b:ag} {o:Obj},s₁.heap.get? b=some o->H b=none->(NW s₁.heap H).get? b=some o:=λe n=>X3 e n;have nsK:∀{b:ag} {m:Str->Option ah},s₁.heap.Ns b m->(NW s₁.heap H).Ns b m:=λ{b m} ⟨o,es,ep,e,d,r⟩=>⟨o,es,ep,base_of e (noA e (λvs n z=>by rw[d] at z;cases z) λvs z=>by rw[d] at z;cases z),d,r⟩
 have nK:∀b o,K.lookup b=some o->H b=none:=λb o e=>by
  by_cases z:b∈T
  ·rw[(hT b z).1] at e;cases e
  ·rw[hHn b z];cases q:H0 b with
   |none=>rfl
   |some u=>rw[hK' b u q] at e;cases e
 have hKb:K.In (NW s₁.heap H):=λb o e=>base_of (KX b o e) (nK b o e);have hM:Mod K mg (NW s₁.heap H):=⟨hKb,nsK hns,⟨mb,nsK hb,hbb⟩,let ⟨mc,h1,h2⟩:=hlim;⟨mc,nsK h1,h2⟩⟩
 have hbb':NR mg (NW s₁.heap H):=by
  obtain⟨bm,ob,b1,b2,b3,b4,b5,b6⟩:=hbl;exact⟨bm,ob,b1,b2,base_of b3 (noA b3 (λvs n z=>by rw[b6] at z;cases z) λvs z=>by rw[b6] at z;cases z),b4,b5,b6⟩
 have e0:Env0 P w K mg (NW s₁.heap H) xf [] s₁ H:=⟨rfl,hM,λb o e=>b9 e,sg (WP _ _),trivial,λb hb=>absurd (show b∈([]:List ag) from hb) (by simp),hok,.of_eq hg⟩
 have hl:vals.length=ps.length:=by rw[FK hwl];exact hlen
 refine nk ((F _ hKb (nsK hns) hbb').run xf [] s₁ H ⟨vals,[]⟩ vals (vals.map toV) _ _ hr e0 (hbind s₁ vals hl) hV (hsp H _ hO hHT hS)) λr s' x=>?_;cases r with
 |error e=>exact(hCX H e s' x).elim
 |ok fl=>
  cases fl with
  |next=>exact fi x
  |brk=>exact fi x
  |cont=>exact fi x
  |ret u=>
   obtain⟨v,H',os,bare,un,hokE,r',q⟩:=x;have kept:∀b o,b∉T->s₁.heap.get? b=some o->s'.heap.get? b=some o:=λb o nT e=>by
    rcases hO b with z|⟨ob,u3,z⟩|⟨z,_⟩
    ·exact un.keep b o e z (by intro z;exact absurd (show b∈([]:List ag) from z) (by simp)) (by simp)
    ·have z2:=un.frzs b ob _ z;obtain⟨e1,_⟩:=hok b _ z;obtain⟨e2,_⟩:=hokE b _ z2;rw[e] at e1;cases e1;exact e2
    ·exact absurd z nT
   have tabs:∀b,b∈T->∃more,s'.heap.get? b=some { cls:=.none,data:=.fields (#[]++more) }:=λb z=>by
    obtain⟨more,z2⟩:=un.tbls b _ (hHT b z);exact⟨more,hokE b _ z2⟩
   have KX':K.In s'.heap:=λb o e=>kept b o (λz=>by rw[(hT b z).1] at e;cases e) (KX b o e);obtain⟨as,hrd⟩:=Dw.reads (R:=R) (cl:=cl) hokE KX' d0 v u q r';refine⟨u,as,rfl,hrd,⟨λb o e=>?_,λb o e=>?_⟩,os,bare⟩
   ·by_cases z:b∈T
    ·obtain⟨more,z2⟩:=tabs b z;obtain⟨_,c,tb⟩:=hT b z;rw[hTo b z] at e;cases e;exact .inr (.inl ⟨tb.isCodeTable,rfl,#[],more,rfl,z2⟩)
    ·exact .inl (kept b o z e)
   ·by_cases z:b∈T
    ·obtain⟨more,z2⟩:=tabs b z;exact⟨_,z2⟩
    ·exact⟨o,kept b o z e⟩
structure TopT (q:bb) (mg:Str->Option ah) (h:cr):Prop where
 tab:∀d∈recsOf q,∃a o fd c P,mg d.name=some (.ref a)/\h.get? a=some o/\o.data= .func fd/\fd.code= .ref c/\h.IsCode c P #[]/\h.TableAt c P #[]
 blt:NR mg h
theorem UJ {r:OpenSpec} {k:Nat} {q:bb} {loose:List Str} {XP:(Str->Option ah)->cr->Prop} {YP:bv->cr->Prop} {d:DefRec} {K:vW->aa} {CX:bv->CXT} {ps:List Str} {sp:bv->List ag->Sp}
 (hwell:r.wellSaid=true) (hdf:d.params.defaults=[]) (hlen:r.args.length=ps.length) (hr:Room k xf)
 (hY:∀(w:bv) (h:cr),YP w h->(K w.params).In h)
 (F:∀(w:bv) (mg:Str->Option ah) (fa:ag) (h:cr),YP w h->(K w.params).In h->h.Ns dy mg->TopT q mg h->mg d.name=some (.ref fa)->
  Ex2 λ(T:List ag) (fd:ez)=>(∀p∈T,(K w.params).lookup p=none/\∃c,h.TableAt c p #[])/\(∀(s:aj) (us:List ah),us.length=ps.length->wb s fd ⟨us,[]⟩ (ps.zip us))/\
   (∀base:cr,(K w.params).In base->base.Ns dy mg->NR mg base->FnOk r.prog w (K w.params) mg base (CX w) k fa fd ps (sp w T))/\
   ∀(H:Hp) (xs:List V) (a:tI r.args),WC T H->(∀p∈T,H p=some (.tbl #[]))->yb r.args a=true->wd r.args r.asked a=true->DwAll (K w.params) H xs (sK r.args a)->
    sp w T xs H (λv H'=>Dw (K w.params) H' v (r.ret.enc (wd r.args r.f a))) λ_ _ _=>False)
 (hCX:∀(w:bv) (H:Hp) (s:aj) (e:ah) (s':aj),CX w [] H s (λ_ _ _=>False) e s'->False):
 yI q loose XP YP r d [] (λf vs=>Af f vs):=by
 intro w s_0 s₁ mg mb G Y fa o pm cd doc dV kV ho hd hcd hD hmg hg args vals as hpre hlay hrd hwl hlo;obtain⟨a,e1,e2⟩:=PySem.W.os_pre_some hpre;obtain⟨e3,hwi⟩:=Codec.encAll_of_decAll r.args args a e1;subst e3;have KX:=hY w _ Y;obtain⟨T,fd,hT,hb,hF,hsp⟩:=F w mg fa _ Y KX G.T.g ⟨G.T.tab,G.T.bmain⟩ hmg;refine PySem.W.enter_call (nk (UI (R:=[]) (cl:=classAt s_0.heap) (d0:=r.ret.enc (wd r.args r.f a)) hT G.T.bmain KX G.T.g G.T.b G.T.builtins G.T.nolimit hg hwl (OL _ _) (M4 hlay) hr hF hb (by rw[M5];exact hlen)
  (λH xs hO hH hS=>hsp H xs a hO hH hwi e2 hS) λH e s'=>hCX w H s₁ e s') λr' s' hq=>?_)
 obtain⟨u,as',rfl,h1,h2,h3,h4⟩:=hq;exact⟨.inl ⟨u,_,as',rfl,λ_=>rfl,h1,(OpenSpec.post_iff hwell hwi _ _).mpr rfl,λz=>fb (show false=true from z)⟩,h2,h3,h4⟩
end L2
end
section
namespace Lt
open PySem PySem.Spec PyProof.Rows L2
variable {f a C CR CT r ta CI CL CN:ag} {fd:ez} {X:Cx} {x:List Int} {i n e p q:Nat} {pos:Pos} {z dz fz:Str} {xs:List V} {H H' H1:Hp} {E:XK} {cs t ci ct:List UInt8} {α β:Type} {Q:VK} {ls fr co ba:List (List Int)} {P:bb} {w:bv} {h:cr} {ps:List Str}
def CF (fr co ba:List (List Int)) (s:Stop):List Int:=if co.length<s.course then ba.getD (s.course - co.length - 1) [] else if s.fret=0 then co.getD (s.course - 1) [] else BU (fr.getD (s.fret - 1) []) (co.getD (s.course - 1) [])
theorem LT.get {K:aa} (h:LT K H a ls) (hi:i<ls.length):Ex2 λxs b=>SqL K H a xs/\xs[i]? =some (V.ref b)/\SqT K H b ((ls.getD i []).map V.int):=by
 obtain⟨as,h1,h2⟩:=h;have hl:as.length=ls.length:=cg h2;obtain⟨l,e1,e2⟩:=BD h2 (am (show i<as.length by omega));refine⟨_,as[i]'(by omega),SqL.of h1,by rw[az,am (by omega)];rfl,?_⟩;rw[bj,e1];exact e2
def f8 (K:aa) (CI:ag):Sp:=λvs H Q _=>Ex8 λ(ia af ac ab:ag) (fr co ba:List (List Int)) (s:Stop)=>vs=[.ref ia,.int (s.course:Nat),.int (s.fret:Nat)]/\InA K CI H ia af ac ab fr co ba/\plc fr co ba s=true/\1<=s.course/\
 ∀H' a,Same H H'->SqT K H' a ((CF fr co ba s).map V.int)->Q (.ref a) H'
def ntf (b l c f:Int) (ia:ag) (h:Int):List (Str×V):=[("begin",.int b),("line",.int l),("course",.int c),("fret",.int f),("interval",.ref ia),("height",.int h)]
structure NtC (K:aa) (CN:ag):Prop where
 cl:Cls K CN
 nb:NoAttr K CN "begin"
 nl:NoAttr K CN "line"
 nc:NoAttr K CN "course"
 nf:NoAttr K CN "fret"
 ni:NoAttr K CN "interval"
 nh:NoAttr K CN "height"
def j7 (K:aa) (CN:ag):Sp:=λvs H Q _=>Ex8 λ(x dx sa ia:ag) (b l h:Int) (s:Stop)=>vs=[.ref x,.int b,.int l,.ref sa,.ref ia,.int h]/\H x=some (.ins CN dx [])/\SqT K H sa ((sL s).map V.int)/\
 ∀H',H' x=some (.ins CN dx (ntf b l (s.course:Nat) (s.fret:Nat) ia h))->Sb x H H'->Q .non H'
def bC (K:aa) (CL:ag):Sp:=λvs H Q _=>Ex2 λ(al:ag) (ps:List Ln)=>vs=[.ref al]/\LnsA K CL H al ps/\ps.length<=512/\∀H' a,Same H H'->H a=none->H' a=some (.lst ((jn (ps.length+1)).map λi=>V.int ((uL ps i:Nat):Int)))->Q (.ref a) H'
def bD (K:aa) (CL:ag):Sp:=λvs H Q _=>Ex6 λ(x dx sa:ag) (n c:Nat) (l:List Stop)=>vs=[.ref x,.int (c:Nat)]/\H x=some (.ins CL dx (lnf (n:Nat) sa))/\LT K H sa (l.map sL)/\Q (.bl (IX c l)) H
section
variable {P:bb} {w:bv} {K:aa} {mg:Str->Option ah} {base:cr} {CI CL CN:ag}
theorem j8:FnScope ["self","course","fret"] ["self","course","fret"] (AH DL):={}
theorem j9 (F:Fun K "sound" "Instrument.sound" DL f fd) (B:Blt mg) (T:InC K CI) (D1:Def P w K mg base 3 "upon" ["x","y"] (c6 K)):FnOk P w K mg base (CX1 P w) 4 f fd ["self","course","fret"] (f8 K CI):=by
 refine F.okx j8 λAv A outer s H vs Q E hr h=>?_;obtain⟨ia,af,ac,ab,fr,co,ba,st,rfl,I,hp,h1,k⟩:=h;refine⟨_,(AB (AX (AO E1 (pv 1) (AY AN (by rfl) B.len cu (AA (AT (pv 0) rfl) AF)) (AQ _))
  (AC (AJ (BI CK (AT (pv 0) rfl) (BC GZ (BC GZ (pv 1) (AY AN (by rfl) B.len cu (AA (AT (pv 0) rfl) AF))) AI) (λ_ _=>rfl)))) AM)
  (AB (AX (AO CP (pv 2) AI (AQ _)) (AC (AJ (BI CK (AT (pv 0) rfl) (BC GZ (pv 1) AI) (λ_ _=>rfl)))) AM)
  (AC (AJ (D1.call hr AD (AA (BI CK (AT (pv 0) rfl) (BC GZ (pv 2) AI) (λ_ _=>rfl)) (AA (BI CK (AT (pv 0) rfl) (BC GZ (pv 1) AI) (λ_ _=>rfl)) AF))))))),?_⟩
 and_intros
 obtain⟨dx,i1⟩:=I.at_;obtain⟨y1,q1,l1⟩:=I.co_.len;unfold plc at hp;unfold CF at k;refine⟨_,rfl,_,rfl,ia,CI,dx,_,_,rfl,i1,T.cl,T.nc,II _ _ _,ac,y1,rfl,.inl q1,_,_,rfl,rfl,_,rfl,B9 (λh0=>?_) (λh0=>?_)⟩
 ·have hc:co.length<st.course:=by
   have:(y1.length:Int)<((st.course:Nat):Int):=by simpa using h0
   omega
  rw[Ay (by omega)] at hp;rw[Ax hc] at k;simp at hp;obtain⟨xs,b,g1,g2,g3⟩:=I.ba_.get (i:=st.course - co.length - 1) (by omega);refine⟨_,rfl,ia,CI,dx,_,_,rfl,i1,T.cl,T.nb,VP _ _ _,_,rfl,_,rfl,ia,CI,dx,_,_,rfl,i1,T.cl,T.nc,II _ _ _,ac,y1,rfl,.inl q1,_,_,rfl,rfl,_,_,rfl,rfl,ab,xs,_,_,rfl,rfl,g1,UZ (j:=st.course - co.length - 1) (by omega) g2,k H b (Same.refl _) g3⟩
 ·have hc:¬co.length<st.course:=by
   have:¬(y1.length:Int)<((st.course:Nat):Int):=by simpa using h0
   omega
  rw[Ax (by omega)] at hp;rw[Ay hc] at k;have hf:st.fret<=fr.length:=of_decide_eq_true hp;obtain⟨xs,b,g1,g2,g3⟩:=I.co_.get (i:=st.course - 1) (by omega);refine⟨_,rfl,rfl,_,rfl,B9 (λh0=>?_) (λh0=>?_)⟩
  ·have e0:st.fret=0:=by
    have q:=of_decide_eq_true h0;injection q with q;omega
   rw[Ax e0] at k;exact⟨_,rfl,ia,CI,dx,_,_,rfl,i1,T.cl,T.nc,II _ _ _,_,rfl,_,_,rfl,rfl,ac,xs,_,_,rfl,rfl,g1,UZ (j:=st.course - 1) (by omega) g2,k H b (Same.refl _) g3⟩
  ·have e0:¬st.fret=0:=λq=>h0 (decide_eq_true (by rw[q];rfl));rw[Ay e0] at k;obtain⟨xs2,b2,g4,g5,g6⟩:=I.fr_.get (i:=st.fret - 1) (by omega);have s1:=I.sf (fr.getD (st.fret - 1) []) (by rw[bj,am (by omega)];exact jh _);have s2:=I.sc (co.getD (st.course - 1) []) (by rw[bj,am (by omega)];exact jh _);refine⟨_,rfl,ia,CI,dx,_,_,rfl,i1,T.cl,T.nf,NF _ _ _,_,rfl,_,_,rfl,rfl,af,xs2,_,_,rfl,rfl,g4,UZ (j:=st.fret - 1) (by omega) g5,_,rfl,ia,CI,dx,_,_,rfl,i1,T.cl,T.nc,II _ _ _,_,rfl,_,_,rfl,rfl,ac,xs,_,_,rfl,rfl,g1,UZ (j:=st.course - 1) (by omega) g2,?_⟩;exact⟨b2,b,_,_,rfl,.inr g6,g3,s1.1,s2.1,s1.b60.1,s1.b60.2.1,s2.b60.2.1,s2.b60.2.2,λH' r s3 h3=>k H' r s3 (SqT.of h3)⟩
theorem p8:FnScope ["self","begin","line","stop","interval","height"] ["self","begin","line","stop","interval","height"] (AH HB):={}
theorem p9 (F:Fun K "__init__" "Note.__init__" HB f fd) (T:NtC K CN):FnOk P w K mg base (CX1 P w) 1 f fd ["self","begin","line","stop","interval","height"] (j7 K CN):=by
 refine F.okx p8 λAv A outer s H vs Q E hr h=>?_;obtain⟨x,dx,sa,ia,b,l,h,st,rfl,hx,hs,k⟩:=h;refine⟨_,(AB (CQ (pv 0) (pv 1) rfl)
  (AB (CQ (pv 0) (pv 2) rfl)
  (AB (CQ (pv 0) (BI DK (pv 3) AI (λ_ _=>rfl)) rfl)
  (AB (CQ (pv 0) (BI DK (pv 3) AI (λ_ _=>rfl)) rfl)
  (AB (CQ (pv 0) (pv 4) rfl)
  (AC (CQ (pv 0) (pv 5) rfl))))))),?_⟩
 and_intros
 have keep:∀(H':Hp) (xs:List V) (fs:List (Str×V)),H' x=some (.ins CN dx fs)->SqT K H' sa xs->∀gs,SqT K (upd H' x (.ins CN dx gs)) sa xs:=λH' xs fs h1 h2 gs=>by
  rcases h2 with(h2|⟨o,h2⟩)|h2
  ·exact .inl (.inl (by rw[AE (B2 h2 h1 (by intro z;cases z))];exact h2))
  ·exact .inl (.inr ⟨o,by rw[AE (B2 h2 h1 (by intro z;cases z))];exact h2⟩)
  ·exact .inr h2
 have q1:=keep H _ _ hx hs [("begin",.int b)];have q2:=keep _ _ _ upd_same q1 [("begin",.int b),("line",.int l)];have q3:=keep _ _ _ upd_same q2 [("begin",.int b),("line",.int l),("course",.int (st.course:Nat))];refine⟨_,rfl,_,rfl,x,CN,dx,[],rfl,hx,T.cl,T.nb,(by decide),?_⟩;refine⟨_,rfl,_,rfl,x,CN,dx,_,rfl,upd_same,T.cl,T.nl,(by show 1<1000;decide),?_⟩;refine⟨_,rfl,sa,_,0,V.int (st.course:Nat),rfl,rfl,q2,rfl,_,rfl,x,CN,dx,_,rfl,upd_same,T.cl,T.nc,(by show 2<1000;decide),?_⟩;refine⟨_,rfl,sa,_,1,V.int (st.fret:Nat),rfl,rfl,q3,rfl,_,rfl,x,CN,dx,_,rfl,upd_same,T.cl,T.nf,(by show 3<1000;decide),?_⟩;refine⟨_,rfl,_,rfl,x,CN,dx,_,rfl,upd_same,T.cl,T.ni,(by show 4<1000;decide),?_⟩;refine⟨_,rfl,_,rfl,x,CN,dx,_,rfl,upd_same,T.cl,T.nh,(by show 5<1000;decide),?_⟩;exact k _ upd_same λb o e hb=>by rw[AE hb,AE hb,AE hb,AE hb,AE hb,AE hb];exact e
theorem sc_beg:FnScope ["lines","unit","units","line"] ["lines"] (AH GO):={}
def IY (ps:List Ln) (i:Nat):List V:=(jn (i+1)).map λj=>V.int ((uL ps j:Nat):Int)
theorem SD (ps:List Ln) (i:Nat):IY ps (i+1)=IY ps i++[V.int ((uL ps (i+1):Nat):Int)]:=by
 unfold IY;rw[vA,du];rfl
theorem kC (F:Fun K "beginnings" "beginnings" GO f fd) (TL:LnC K CL):FnOk P w K mg base (CX1 P w) 1 f fd ["lines"] (bC K CL):=by
 refine F.okx sc_beg λAv A outer s H vs Q E hr h=>?_;obtain⟨al,ps,rfl,L,hl,k⟩:=h;refine⟨_,(AB (AW 1 sc_beg AI)
  (AB (AW 2 sc_beg (DS (AA AI AF)))
  (AB (B5 bo rfl (DG (pv 0)) (DT 3 sc_beg)
  (AB (JW (i:=1) sc_beg.nd rfl (uj rfl) (AT (pv 3) rfl) JX)
  (AC (AZ (ID fh fm fq CZ (pv 2) (AA (pv 1) AF))))))
  (AC (AJ (pv 2)))))),?_⟩
 and_intros
 obtain⟨as,a1,a2⟩:=id L;have la:as.length=ps.length:=cg a2;refine⟨by rw[bw];show 1<=16777216;decide,λua nu=>?_⟩;have n0:al≠ua:=AG a1 nu;refine⟨V.ref al,rfl,al,rfl,⟨_,SqL.of (by rw[AE n0];exact a1)⟩,DD (K:=K) (a:=al) (xs:=as.map V.ref) (λi σ H'=>(∃r3,σ=[some (.ref al),some (.int ((uL ps i:Nat):Int)),some (.ref ua),r3])/\H'=upd H ua (.lst (IY ps i))) ⟨⟨none,by rw[EX];rfl⟩,by unfold IY;simp[EX]⟩ ?_ ?_ ?_⟩
 ·rintro i σ H' _ ⟨_,rfl⟩;exact SqL.of (by rw[AE n0];exact a1)
 ·rintro i y σ H' hi ⟨⟨r3,rfl⟩,rfl⟩
  and_intros
  rw[az] at hi;cases ea:as[i]? with
  |none=>rw[ea] at hi;cases hi
  |some x=>
   rw[ea] at hi;cases hi;obtain⟨p,hp,dl,sa,_,hx,Ls⟩:=BD a2 ea;have hi':i<ps.length:=(aw.mp hp).1;have eu:=VU hp;refine⟨_,rfl,_,rfl,x,CL,dl,_,_,rfl,(by rw[AE (AG hx nu)];exact hx),TL.cl,TL.nl,Z3 _ _,_,_,rfl,rfl,?_⟩;have e1:((uL ps i:Nat):Int)+((p.1:Nat):Int)=((uL ps (i+1):Nat):Int):=by omega
   refine⟨_,rfl,.inl ⟨rfl,_,SqL.of upd_same⟩,_,rfl,ua,_,_,rfl,rfl,upd_same,(by unfold IY;rw[ai,lw,bw];omega),⟨some (.ref x),by show[some (V.ref al),some (V.int (((uL ps i:Nat):Int)+((p.1:Nat):Int))),some (V.ref ua),some (V.ref x)]=_;rw[e1]⟩,?_⟩;show upd (upd H ua _) ua (.lst (IY ps i++[V.int (((uL ps i:Nat):Int)+((p.1:Nat):Int))]))=_;rw[e1,SD,b8]
 ·rintro σ H' ⟨⟨r3,rfl⟩,rfl⟩;rw[ai,la];exact⟨_,rfl,k _ ua (Same.upd nu) nu upd_same⟩
theorem bE:FnScope ["self","course","stop"] ["self","course"] (AH E9):={}
theorem bF {c:Nat} {l:List Stop} {s:Stop} (e:l[i]? =some s) (h0:IX c (l.take i)=false):IX c (l.take (i+1))=(s.course==c):=by
 unfold IX at h0 ⊢;rw[dk,e,yc,h0];simp
theorem kD (F:Fun K "strikes" "Line.strikes" E9 f fd) (TL:LnC K CL):FnOk P w K mg base (CX1 P w) 1 f fd ["self","course"] (bD K CL):=by
 refine F.okx bE λAv A outer s H vs Q E hr h=>?_;obtain⟨x,dx,sa,n,c,l,rfl,hx,Ls,k⟩:=h;refine⟨_,(AB (B5 bo rfl (DG (AT (pv 0) rfl)) (DT 2 bE)
  (AC (AX (AO CP (BI DK (pv 2) AI (λ_ _=>rfl)) (pv 1) (AQ _)) (AC (AJ MD)) AM)))
  (AC (AJ MD))),?_⟩
 and_intros
 obtain⟨bs,b1,b2⟩:=id Ls;have lb:bs.length=l.length:=by rw[cg b2,ai]
 refine⟨_,rfl,x,CL,dx,_,_,rfl,hx,TL.cl,TL.ns,VZ _ _,sa,rfl,⟨_,SqL.of b1⟩,DD (K:=K) (a:=sa) (xs:=bs.map V.ref) (λi σ H'=>(∃r2,σ=[some (.ref x),some (.int (c:Nat)),r2])/\H'=H/\IX c (l.take i)=false) ⟨⟨none,rfl⟩,rfl,rfl⟩ ?_ ?_ ?_⟩
 ·rintro i σ H' _ ⟨_,rfl,_⟩;exact SqL.of b1
 ·rintro i y σ H' hi ⟨⟨r2,rfl⟩,rfl,h0⟩
  subst_eqs
  rw[az] at hi;cases eb:bs[i]? with
  |none=>rw[eb] at hi;cases hi
  |some b=>
   rw[eb] at hi;cases hi;obtain⟨q,hq,hb⟩:=BD b2 eb;rw[az] at hq;cases es:l[i]? with
   |none=>rw[es] at hq;cases hq
   |some s=>
    rw[es] at hq;cases hq;have ht:=bF es h0;refine⟨_,rfl,b,_,0,V.int (s.course:Nat),rfl,rfl,hb,rfl,_,rfl,rfl,_,rfl,B9 (λh1=>?_) (λh1=>?_)⟩
    ·have e1:s.course=c:=by
      have q:=of_decide_eq_true h1;injection q with q;omega
     have e2:IX c l=true:=by
      rw[←iy (i+1) l];unfold IX at ht ⊢;rw[yc,ht,e1];simp
     rw[e2] at k;exact k
    ·have e1:¬s.course=c:=λq=>h1 (decide_eq_true (by rw[q]));exact⟨⟨_,rfl⟩,rfl,by rw[ht];simpa using e1⟩
 ·rintro σ H' ⟨⟨r2,rfl⟩,rfl,h0⟩;rw[ai,lb,ff] at h0;rw[h0] at k;exact k
end
end Lt
end
section
namespace L2
open PySem PySem.Spec PyProof.Rows
def kk (k:List Int):List Key:=k.map ky
theorem kE {a b:List Int} (h:kk a=kk b):a=b:=(List.map_inj_right λ_ _ e=>zO e).mp h
theorem qA (k:List Int):(kk k).map kV=k.map V.int:=by
 unfold kk;rw[vt];rfl
theorem QL {P:bb} {w:bv} {K:aa} {H:Hp} {h:cr} {a:ag} {k:List Int} (ok:HOk P w H h) (KX:K.In h) (e:SqT K H a (k.map V.int)):(tU (DF P w)).is h (kk k) a:=by
 obtain⟨As,o,n,r,h1,h2,h3⟩:=Y3 ok KX e;rw[←qA] at r;exact⟨o,As.toArray,n,h1,h2,h3,by simpa using OH r⟩
abbrev KX:List (List Int×ag×V)->List (List Key×ag×ah)->Prop:=cf λp q=>kk p.1=q.1/\p.2.1=q.2.1/\RelV p.2.2 q.2.2
def dxv (xs:List (List Int×ag×V)):List (List Int×V):=xs.map λx=>(x.1,x.2.2)
theorem KX.val {xs:List (List Int×ag×V)} {ys:List (List Key×ag×ah)} (r:KX xs ys) (k:List Int):RelO (EV (dxv xs) k) ((yJ ys (kk k)).map (·.2)):=by
 induction r with
 |nil=>exact je
 |@cons p q ps qs h t ih=>
  obtain⟨h1,_,h2⟩:=h;by_cases e:p.1=k
  ·have e':q.1=kk k:=by rw[←h1,e]
   have b:yJ (q::qs) (kk k)=some q.2:=by simp[yJ,jk,e']
   rw[dxv,cz,F9 (p:=(p.1,p.2.2)) e,b];exact h2
  ·have e':¬q.1=kk k:=λz=>e (kE (h1.trans z));have b:yJ (q::qs) (kk k)=yJ qs (kk k):=by simp[yJ,jk,e']
   rw[dxv,cz,EH (p:=(p.1,p.2.2)) e,b];exact ih
def DxO (P:bb) (w:bv) (a:ag) (xs:List (List Int×ag×V)):HO:=
 .ext λh=>xs.length<=sizeLine/\(a==rb)=false/\∃ys:List (List Key×ag×ah),KX xs ys/\Ex3 λo es ep=>h.get? a=some o/\o.ExactDict/\o.data= .dict es ep/\es.toList=ys.map (wv (tU (DF P w)))/\(ys.map (·.1)).Nodup
def Dx (P:bb) (w:bv) (K:aa) (H:Hp) (a:ag) (Au:List (List Int×V)):Prop:=
 ∃xs,H a=some (DxO P w a xs)/\Au=dxv xs/\∀x∈xs,SqT K H x.2.1 (x.1.map V.int)
theorem bG {P:bb} {w:bv} {H:Hp} {h:cr} {a:ag} {xs:List (List Int×ag×V)} {ys:List (List Key×ag×ah)} {o:Obj} {es:Array we} {ep:Nat} (hz:xs.length<=sizeLine) (hm:(a==rb)=false) (r:KX xs ys)
 (h1:h.get? a=some o) (h2:o.ExactDict) (h3:o.data= .dict es ep) (h4:es.toList=ys.map (wv (tU (DF P w)))) (h5:(ys.map (·.1)).Nodup):ObjOk P w H h a (DxO P w a xs):=
 ⟨⟨hz,hm,ys,r,o,es,ep,h1,h2,h3,h4,h5⟩,⟨_,h1⟩,λg1 g2 ⟨z,m,ys,r,o,es,ep,e,q⟩ k=>⟨z,m,ys,r,o,es,ep,k _ e,q⟩⟩
theorem Dx.same {P:bb} {w:bv} {K:aa} {H H':Hp} {a:ag} {Au:List (List Int×V)} (d:Dx P w K H a Au) (e:Same H H'):Dx P w K H' a Au:=
 let ⟨xs,h1,h2,h3⟩:=d;⟨xs,e _ _ h1,h2,λx hx=>Same.tup e (h3 x hx)⟩
section
variable {X:Cx} {Ap:List (ag×Obj)} {σ:St} {H:Hp} {s:aj} {a b:ag} {Au:List (List Int×V)} {k:List Int} {v:V} {r:ah} {A:de} {E:ah->aj->Prop}
theorem Inv.dx (I:Inv X Ap σ H s) (d:Dx X.prog X.w X.K H a Au):Ex2 λxs ys=>H a=some (DxO X.prog X.w a xs)/\Au=dxv xs/\(∀x∈xs,SqT X.K H x.2.1 (x.1.map V.int))/\xs.length<=sizeLine/\(a==rb)=false/\KX xs ys/\s.heap.DictOfH (tU (DF X.prog X.w)) a ys:=by
 obtain⟨xs,e,ek,hk⟩:=d;obtain⟨z,m,ys,r,o,es,ep,h1,h2,h3,h4,h5⟩:=(show ObjOk X.prog X.w H s.heap a (DxO X.prog X.w a xs) from I.hok a _ e).1;refine⟨xs,ys,e,ek,hk,z,m,r,o,es,ep,h1,h2,h3,h4,?_,h5⟩;intro y hy;have all:∀{l:List (List Int×ag×V)} {n:List (List Key×ag×ah)},KX l n->(∀x∈l,SqT X.K H x.2.1 (x.1.map V.int))->∀y∈n,(tU (DF X.prog X.w)).is s.heap y.1 y.2.1:=by
  intro l n q;induction q with
  |nil=>intro _ y hy;exact nomatch hy
  |@cons p q ps qs hq t ih=>
   intro hl y hy;rcases bp.mp hy with e|hy
   ·subst e;rw[←hq.1, ←hq.2.1];exact QL I.hok I.kIn (hl p bc)
   ·exact ih (λx hx=>hl x (aq _ hx)) y hy
 exact all r hk y hy
theorem kF {Q:ah->aj->Prop} (hu:A.units+1<wQ) (I:Inv X Ap σ H s) (d:Dx X.prog X.w X.K H a Au) (eb:SqT X.K H b (k.map V.int)) (l:EV Au k=some v) (h:∀w' s',Inv X Ap σ H s'->RelV v w'->Q w' s'):
 bf (bi X.prog X.w) A (vh (.ref a) (.ref b)) Q E s:=by
 obtain⟨xs,ys,e,rfl,hk,z,m,rel,dd⟩:=I.dx d;obtain⟨w',hw,rw'⟩:=RelO.some_of (v:=v) (o:=(yJ ys (kk k)).map (·.2)) (by rw[←l];exact rel.val k);obtain⟨p,hp,hp2⟩:=Option.map_eq_some_iff.mp hw;refine wpAny_getItem_heap (ut hu) (QL I.hok I.kIn eb) dd hp ?_;rw[hp2];exact h w' _ (I.tok _) rw'
theorem bH {Q:ah->aj->Prop} (hu:A.units+1<wQ) (I:Inv X Ap σ H s) (d:Dx X.prog X.w X.K H a Au) (eb:SqT X.K H b (k.map V.int)) (h:∀s',Inv X Ap σ H s'->Q (.bool (!(EV Au k).isSome)) s'):
 bf (bi X.prog X.w) A (jo .NotIn (.ref b) (.ref a)) Q E s:=by
 obtain⟨xs,ys,e,rfl,hk,z,m,rel,dd⟩:=I.dx d;refine wpAny_notIn_heap (ut hu) (QL I.hok I.kIn eb) m dd ?_;have q:=(rel.val k).isSome_eq;rw[xg] at q;rw[←q];exact h _ (I.tok _)
theorem kG {Q:Unit->aj->Prop} (hu:A.units+1<wQ) (I:Inv X Ap σ H s) (d:Dx X.prog X.w X.K H a Au) (eb:SqT X.K H b (k.map V.int)) (l:EV Au k=none) (hz:Au.length<sizeLine) (rv:RelV v r)
 (h:∀H' s',Inv X Ap σ H' s'->Sb a H H'->Dx X.prog X.w X.K H' a (Au++[(k,v)])->Q () s'):bf (bi X.prog X.w) A (setItem (.ref a) (.ref b) r) Q E s:=by
 obtain⟨xs,ys,e,rfl,hk,z,m,rel,dd⟩:=I.dx d;rw[dxv,ai] at hz;have hn:(yJ ys (kk k)).isSome=false:=by
  have q:=(rel.val k).isSome_eq;rw[xg,l] at q;exact q.symm
 have hly:ys.length<=sizeLine:=by rw[←cg rel];exact z
 refine wpAny_setItem_heap (hsz:=hly) (ut hu) (QL I.hok I.kIn eb) dd λh' dd' hs=>?_;obtain⟨q,es,ep,hq,h2,h3,h4,_,h5⟩:=dd';have est:storedH ys (kk k) b r=ys++[(kk k,b,r)]:=by
  unfold storedH;rw[Ay (by rw[hn];decide)]
 rw[est] at h4 h5;have rel':KX (xs++[(k,b,v)]) (ys++[(kk k,b,r)]):=Paired.snoc rel ⟨rfl,rfl,rv⟩;have sb:Sb a H (upd H a (DxO X.prog X.w a (xs++[(k,b,v)]))):=λc o ec n=>by rw[AE n];exact ec
 have tp:∀{c:ag} {l:List V},SqT X.K H c l->SqT X.K (upd H a (DxO X.prog X.w a (xs++[(k,b,v)]))) c l:=λ{c l} hc=>by
  rcases hc with(hc|⟨o,hc⟩)|hc
  ·exact .inl (.inl (sb _ _ hc (B2 hc e (by intro z;cases z))))
  ·exact .inl (.inr ⟨o,sb _ _ hc (B2 hc e (by intro z;cases z))⟩)
  ·exact .inr hc
 refine h _ _ (cS I (by rw[e];exact je) hs ⟨q,hq⟩ (bG (by rw[bq];simp;omega) m rel' hq h2 h3 h4 h5)) sb ⟨_,upd_same,?_,λx hx=>?_⟩
 ·simp[dxv]
 ·rcases cn.mp hx with hx|hx
  ·exact tp (hk x hx)
  ·have:x=(k,b,v):=by simpa using hx
   rw[this];exact tp eb
end
def qB (P:bb) (w:bv) (K:aa) (td ty:TE):TE:=λσ H Q=>td σ H λx H1=>ty σ H1 λy H2=>Ex5 λa b Au k v=>x= .ref a/\y= .ref b/\Dx P w K H2 a Au/\SqT K H2 b (k.map V.int)/\EV Au k=some v/\Q v H2
def eG (P:bb) (w:bv) (K:aa) (ty td:TE):TE:=λσ H Q=>ty σ H λy H1=>td σ H1 λx H2=>Ex4 λa b Au k=>x= .ref a/\y= .ref b/\Dx P w K H2 a Au/\SqT K H2 b (k.map V.int)/\Q (.bl (!(EV Au k).isSome)) H2
def qC (P:bb) (w:bv) (K:aa) (td ty tv:TE):TS:=λD σ H=>tv σ H λv H1=>td σ H1 λx H2=>ty σ H2 λy H3=>Ex4 λa b Au k=>x= .ref a/\y= .ref b/\Dx P w K H3 a Au/\SqT K H3 b (k.map V.int)/\EV Au k=none/\Au.length<sizeLine/\
 ∀H4,Sb a H3 H4->Dx P w K H4 a (Au++[(k,v)])->D.nx σ H4
def qD (P:bb) (w:bv) (K:aa):TE:=λ_ H Q=>∀p H',H p=none->Sb p H H'->Dx P w K H' p []->Q (.ref p) H'
section
variable {X:Cx} {o i value:Expr} {pos pos':Pos} {td ty tv:TE}
theorem WD (hu:X.A.units+1<wQ) (ho:PE X o td) (hi:PE X i ty) (hs:lZ i):PE X (.Subscript o i pos) (qB X.prog X.w X.K td ty):=by
 intro Ap s σ H Q I h;refine cT PySem.F.slot_dict_getitem.lookup hs (thn (ho Ap s σ H _ I h) λu s1 ⟨x,H1,I1,rx,q1⟩=>thn (hi Ap s1 σ H1 _ I1 q1) λiv s2 ⟨y,H2,I2,ry,a,b,Au,k,v,ex,ey,d,eb,l,q2⟩=>?_);subst ex ey;obtain rfl:u=cb a:=rx;obtain rfl:iv=cb b:=ry;obtain⟨_,_,_,_,_,_,_,_,dd⟩:=I2.dx d;exact⟨dd.typeIs,kF hu I2 d eb l λw' s3 I3 rw'=>⟨v,H2,I3,rw',q2⟩⟩
theorem O5 (hu:X.A.units+1<wQ) (hi:PE X i ty) (ho:PE X o td):PC X .NotIn i o (eG X.prog X.w X.K ty td):=by
 intro Ap s σ H Q I h;refine thn (hi Ap s σ H _ I h) λiv s1 ⟨y,H1,I1,ry,q1⟩=>thn (ho Ap s1 σ H1 _ I1 q1) λu s2 ⟨x,H2,I2,rx,a,b,Au,k,ex,ey,d,eb,q2⟩=>?_;subst ex ey;obtain rfl:u=cb a:=rx;obtain rfl:iv=cb b:=ry;exact bH hu I2 d eb λs3 I3=>⟨.bl (!(EV Au k).isSome),H2,I3,rfl,q2⟩
theorem QM (hu:X.A.units+1<wQ) (ho:PE X o td) (hi:PE X i ty) (hv:PE X value tv) (hs:pq value (some (.Subscript o i pos')) pos.line X.env=pure false):
 PS X (.Assign [.Subscript o i pos'] value pos) (qC X.prog X.w X.K td ty tv):=by
 intro Ap s σ H D I h;refine wpAny_Assign_Subscript (thn (hv Ap s σ H _ I h) λr s1 ⟨v,H1,I1,rv,q1⟩=>thn (ho Ap s1 σ H1 _ I1 q1) λu s2 ⟨x,H2,I2,rx,q2⟩=>thn (hi Ap s2 σ H2 _ I2 q2) λiv s3 ⟨y,H3,I3,ry,a,b,Au,k,ex,ey,d,eb,l,hz,q3⟩=>?_) hs;subst ex ey;obtain rfl:u=cb a:=rx;obtain rfl:iv=cb b:=ry;exact kG hu I3 d eb l hz rv λH4 s4 I4 sb d4=>⟨σ,H4,I4,q3 H4 sb d4⟩
theorem QN:PE X (.Dict [] [] pos) (qD X.prog X.w X.K):=λAp s σ H Q I h=>by
 have hm:(s.heap.objs.size==rb)=false:=beq_eq_false_iff_ne.mpr (cq (cj I.big));have J:=I.laid (a:=s.heap.objs.size) (h':=s.heap.push { cls:=.type "dict",data:=.dict #[] }) (o:=DxO X.prog X.w s.heap.objs.size []) (t':=s.toks) (λ_ _ q=>ak _ q) (au _)
  (bG (ys:=[]) (dq _) hm .nil (bg _ rfl) ⟨rfl,rfl,rfl⟩ rfl rfl v9)
 exact wpAny_Dict_empty ⟨.ref s.heap.objs.size,_,J,rfl,h _ _ (I.hok.fresh (au _)) (λb o e n=>by rw[AE n];exact e) ⟨[],upd_same,rfl,λx hx=>nomatch hx⟩⟩
end
end L2
end
section
namespace L2
open PySem PySem.Spec PyProof.Rows
def sH:V->List V->Hp->VK->Prop:=λx vs H Q=>Ex4 λ(l:ag) (xs:List V) (i:Nat) (y:V)=>x= .ref l/\vs=[.int (i:Nat),y]/\H l=some (.lst xs)/\i<=xs.length/\xs.length<sizeLine/\Q .non (upd H l (.lst (xs.take i++y::xs.drop i)))
theorem eH {i:Nat} (h:i<1000000000):pf (i:Int)=true:=by
 unfold pf;simp;omega
theorem eI (As:List ah) (i:Nat) (u2:ah) (hi:i<=As.length) (x:Int) (hx:x=(i:Int)):
 (λxs:Array ah=>have k:=if x<0 then(x+(xs.size:Int)).toNat else min x.toNat xs.size;(xs.extract 0 k).push u2++xs.extract k) As.toArray=(As.take i++u2::As.drop i).toArray:=by
 have ek:(if x<0 then(x+(As.toArray.size:Int)).toNat else min x.toNat As.toArray.size)=i:=by
  rw[Ay (by omega),bn];omega
 show((As.toArray.extract 0 (if x<0 then(x+(As.toArray.size:Int)).toNat else min x.toNat As.toArray.size)).push u2++As.toArray.extract (if x<0 then(x+(As.toArray.size:Int)).toNat else min x.toNat As.toArray.size))=_;rw[ek];apply Array.ext';simp;exact sM (by rw[fx];omega)
theorem eJ {prog:bb} {w:bv} {A:de} {E:ah->aj->Prop} {s:aj} {l:ag} {items:Array ah} {n:Nat} {x:Int} {t:Tok} {y:ah} {Q:ah->aj->Prop} (e:s.heap.get? l=some { cls:=.type "list",data:=.seq items n })
 (hf:pf x=true) (hz:items.size<=sizeLine)
 (k:Q .none { s with heap:=s.heap.update l (fj λxs=>have k:=if x<0 then(x+(xs.size:Int)).toNat else min x.toNat xs.size;(xs.extract 0 k).push y++xs.extract k),toks:=s.toks }):bf (bi prog w) A (call (.builtin "list.insert") [.ref l,.int x t,y]) Q E s:=
 yr F.slot_list_insert ⟨_,e,rfl⟩ F.entry_list_insert (F.args_list_insert_3 _ _ _) (vC l items n x t y (by simp[hf]) hz) ⟨e,k⟩
theorem XV {X:Cx}:MtM X "list.insert" sH:=by
 intro Ap s σ H x vs v us Q I rx rv h;obtain⟨l,xs,i,y,rfl,rfl,hH,hi,hz,q⟩:=h;cases rx;obtain⟨u1,u2,rfl,r1,r2⟩:=rv.two;obtain⟨t,rfl⟩:=r1;obtain⟨z,As,n,r,hl,e⟩:=I.lstM hH;refine eJ e (eH (by rw[bw] at hz;omega)) (by rw[bn];omega) ?_;refine⟨.non,_,I.lset (its':=As.take i++u2::As.drop i) hH e (eI As i u2 (by omega) _ rfl) ((r.take i).append (.cons r2 (r.drop i))) ?_,rfl,q⟩;rw[bq,dc,df,fx];omega
end L2
end
section
namespace L2
open PySem PySem.Spec PyProof.Rows
def RawD (h:cr) (d:ag) (es:Array we) (ep:Nat):Prop:=∃o,h.get? d=some o/\o.ExactDict/\o.data= .dict es ep
section
variable {prog:bb} {w:bv} {A:de} {E:ah->aj->Prop} {s:aj} {vw it d:ag} {es:Array we} {ep i:Nat}
theorem XW {Q:ah->aj->Prop} (hvw:s.heap.IsValuesView vw d) (hm:RawD s.heap d es ep)
 (k:Q (.ref s.heap.objs.size) { s with heap:=s.heap.push { cls:=.type "dict_valueiterator",data:=.fields #[.ref d,.int 0 0,.int es.size 0,.int ep 0] } }):bf (bi prog w) A (pyIter (.ref vw)) Q E s:=by
 obtain⟨ov,gv,cv,dv⟩:=id hvw;obtain⟨o,go,_,dd⟩:=hm;refine wpAny_pyIter_slot hvw.typeIs vc (mx vc hvw.typeIs F.entry_dict_values_iter (?_:_) (F.args_dict_values_iter_1 _));unfold uz.«dict_values.__iter__»;refine ae (ao ?_);refine ae ?_;unfold yW;refine ae (im gv dv (x:=.ref d) rfl (ao ?_));refine ae ?_;unfold xI;refine ae (uG go dd ?_);refine ae (vD go dd ?_);have own:oj "dict_valueiterator"=false:=by decide
 simp only[own,fu,if_false];refine gc (ao ⟨_,rfl,"dict_valueiterator",_,⟨_,bg _ rfl,rfl⟩,ip.lookup,(?_:_)⟩);simpa [fy] using k
theorem XY {en:we} {Q:Option ah->aj->Prop} (hv:s.heap.IsValIter it d i es.size ep) (hm:RawD s.heap d es ep) (hx:es[i]? =some en)
 (k:∀h',h'.IsValIter it d (i+1) es.size ep->pp it s.heap h'->Q (some en.val) { s with heap:=h' }):bf (bi prog w) A (wx (.ref it)) Q E s:=by
 obtain⟨oi,gi,ci,di⟩:=id hv;obtain⟨od,go,_,dd⟩:=hm;unfold wx;refine ae (uH (jw (name:=lu "__next__") hv.typeIs ip
  (mx ip hv.typeIs sP (?_:_) (sO _))))
 refine ae (ao ?_);refine ae ?_;refine ae ?_;first|refine ae (ju hv.typeIs (ao ?_))|refine ae (mm hv.typeIs (ao ?_))
 refine ae (yK gi di ?_);have own:oj "dict_valueiterator"=false:=by decide
 simp only[own,fu,if_false];show bf _ _ (if(cb d==il)=true then _ else _) _ _ s;rw[Ay (show¬((cb d==il)=true) from bu)];refine ae (ao ?_);refine ae (uG go dd ?_);rw[Ay (by simp)];refine ae (ao ?_);refine ae (vD go dd ?_);rw[Ay (by simp)];refine ao ?_;obtain⟨lt,hen⟩:=kr.mp hx;simp only[show¬((i:Int)<0) from by omega,if_false,jx,qg lt];refine ae ?_;first|refine ae (ju hv.typeIs (ao ?_))|refine ae (mm hv.typeIs (ao ?_))
 refine ae (sR hv.typeIs ?_);show bf _ _ (yx (.ref it) 1 (fy ((i:Int)+1)) >>= _) _ _ s;refine ae (ji gi di (by simp) ?_);have hv':(s.heap.update it (on (·.setIfInBounds 1 (fy ((i:Int)+1))))).IsValIter it d (i+1) es.size ep:=
  ⟨_,iw _ gi (sQ (ny di _)),(wV ..).trans ci,by rw[ny di];simp[fy]⟩
 refine ae (ij ?_);refine ae (sR (s:={ s with heap:=s.heap.update it (on (·.setIfInBounds 1 (fy ((i:Int)+1)))) }) hv'.typeIs ?_);refine ae (sR (s:={ s with heap:=s.heap.update it (on (·.setIfInBounds 1 (fy ((i:Int)+1)))) }) hv'.typeIs ?_);show bf _ _ (pure es[i].val) _ _ _;rw[hen];exact ao (ao ⟨_,rfl,ao (k _ hv' (qh ..))⟩)
theorem bI {Q:Option ah->aj->Prop} (hh:A.handled=none) (hv:s.heap.IsValIter it d es.size es.size ep) (hm:RawD s.heap d es ep) (k:∀h',zW it s.heap h'->Q none { s with heap:=h' }):bf (bi prog w) A (wx (.ref it)) Q E s:=by
 obtain⟨oi,gi,ci,di⟩:=id hv;obtain⟨od,go,_,dd⟩:=hm;unfold wx;refine ae (uH (jw (name:=lu "__next__") hv.typeIs ip
  (mx ip hv.typeIs sP (?_:_) (sO _))))
 refine ae (ao ?_);refine ae ?_;refine ae ?_;first|refine ae (ju hv.typeIs (ao ?_))|refine ae (mm hv.typeIs (ao ?_))
 refine ae (yK gi di ?_);have own:oj "dict_valueiterator"=false:=by decide
 simp only[own,fu,if_false];show bf _ _ (if(cb d==il)=true then _ else _) _ _ s;rw[Ay (show¬((cb d==il)=true) from bu)];refine ae (ao ?_);refine ae (uG go dd ?_);rw[Ay (by simp)];refine ae (ao ?_);refine ae (vD go dd ?_);rw[Ay (by simp)];refine ao ?_;simp only[show¬((es.size:Int)<0) from by omega,if_false,jx,ss (au es.size)];refine ae ?_;first|refine ae (ju hv.typeIs (ao ?_))|refine ae (mm hv.typeIs (ao ?_))
 show bf _ _ (yx (.ref it) 0 .none >>= _) _ _ s;refine ae (ji gi di (by simp) ?_);show bf _ _ (newExc (.type "StopIteration") [] >>= _) _ _ _;refine ae ?_;simp only[newExc,newTuple];refine ae (gc ?_ (by size_fits));refine ae (m:=uk _ _) (wpAny_of_eq (a:=il) (by first|rfl|(simp only[uk];rfl)) ?_);refine gc ?_ (by size_fits);simp only[raiseNew];refine ae (wu ?_);rw[show A.in1.handled=none from hh];refine ae (ao (xP ?_));refine ae (xA (T:="StopIteration") (b:=true) ⟨_,bg _ rfl,rfl⟩ isSubtype_stop ?_);exact ao (k _ (((qh ..).extBut.push _).push _))
theorem RawD.at {h h':cr} (x:RawD h d es ep) (e:∀o,h.get? d=some o->h'.get? d=some o):RawD h' d es ep:=let ⟨o,ho,r⟩:=x;⟨o,e _ ho,r⟩
theorem eK:PySem.W.KdlSrc prog w "dict_values" vw d es.size (λi v=>∃en,es[i]? =some en/\v=en.val) (λh=>h.IsValuesView vw d/\RawD h d es ep) where
 type:=λ_ x=>x.1.typeIs
 there:=λ_ x=>⟨let ⟨_,ho,_⟩:=x.1;bh ho,let ⟨_,ho,_⟩:=x.2;bh ho⟩
 keep:=λ_ _ x f=>⟨let ⟨o,ho,y⟩:=x.1;⟨o,f vw (.inl rfl) o ho,y⟩,x.2.at λo e=>f d (.inr rfl) o e⟩
 notList:=by decide
 notTuple:=by decide
 hint:=λ_ _ _ _ x hq=>PySem.W.kdl_hint_values x.1.typeIs hq
 iter:=λA s hh x=>by
  have Aw:d<s.heap.objs.size:=let ⟨_,ho,_⟩:=x.2;bh ho;refine⟨_,λi h=>h.IsValIter s.heap.objs.size d i es.size ep/\RawD h d es ep,λ_ _ hq=>XW x.1 x.2 hq,⟨λb hb=>by simp at hb;simp[hb],λ_ _ _ st f=>⟨st.1.at λo e=>f _ (by simp) o e,st.2.at λo e=>f d (by simp) o e⟩,λi s' Q E hi st k=>?_,λs' Q E st k=>?_,λ_ _ _ _ st k=>wpAny_pyIter_valiter st.1 k⟩,⟨⟨_,bg _ rfl,rfl,rfl⟩,x.2.at λo e=>ak _ e⟩⟩
  ·refine XY st.1 st.2 (qg hi) λh' q sb=>k _ h' s'.toks ⟨_,qg hi,rfl⟩ ⟨q,st.2.at λo e=>(sb.2 d (cj Aw)).trans e⟩ λb o hb e=>sb.extBut b o (λz=>hb (by simp[z])) e
  ·exact bI hh st.1 st.2 λh' eb=>k h' s'.toks λb o hb e=>eb b o (λz=>hb (by simp[z])) e
theorem UK (hd:(d==rb)=false):MeetsIn prog w (uz.«dict.values» ⟨[.ref d],[]⟩) (λ_ R s=>s.TypeIs (.ref d) "dict"/\R (.ok (.ret (.ref s.heap.objs.size))) { s with heap:=s.heap.push { cls:=.type "dict_values",data:=.fields #[.ref d] } }):=
 .of_wp λA R s ⟨hT,k⟩=>by
  refine ae ?_;unfold z7;refine ae (wpAny_notOrdered_dict hT ?_);show bf _ _ (pure d) _ _ s;refine ao ?_;show bf _ _ (vM d >>= _) _ _ s;unfold vM;rw[Ay (by rw[hd];exact bu)];refine ae (ao ?_);exact ae (gc (ao ⟨_,rfl,k⟩))
end
def O6 (v d:ag):HO:=.ext λh=>h.IsValuesView v d
def kH (P:bb) (w:bv) (K:aa) (td:TE):TE:=λσ H Q=>td σ H λx H1=>Ex2 λd Au=>x= .ref d/\Dx P w K H1 d Au/\∀v,H1 v=none->Q (.ref v) (upd H1 v (O6 v d))
theorem bJ {X:Cx} {e:Expr} {td:TE} {apos cpos:Pos} (he:PE X e td) (hbase:jr e "values" X.env (eval e X.env)=eval e X.env:=by rfl) (hline:(apos.endLine==cpos.line)=true:=by rfl):PE X (.Call (.Attribute e "values" apos) [] [] cpos) (kH X.prog X.w X.K td):=by
 intro Ap s σ H Q I h;refine wpAny_Call_method (T:="dict") (id:="dict.values") hbase rfl hline F.plainAttrs_dict wH F.type_dict_values (thn (he Ap s σ H _ I h) λu s1 ⟨x,H1,I1,rx,d,Au,ex,hd,q⟩=>?_);subst ex;obtain rfl:u=cb d:=rx;obtain⟨xs,ys,e1,ek,hk,z,m,rel,dd⟩:=I1.dx hd;obtain⟨o,es,ep,go,xd,_⟩:=id dd;refine⟨dd.typeIs,λb z=>by cases z;exact⟨o,go,xd.2.1⟩,?_⟩;show bf _ _ (mw cpos (.builtin "dict.values") [.ref d] [] []) _ X.xe s1;refine method_meetsIn wH F.entry_dict_values rfl (PySem.evalArgs_none ⟨rfl,dd.typeIs,F.args_dict_values_1 _,_,UK m,dd.typeIs,?_⟩);exact⟨.ref s1.heap.objs.size,_,I1.laid (a:=s1.heap.objs.size) (o:=O6 s1.heap.objs.size d) (t':=s1.toks) (λ_ _ q=>ak _ q) (au _)
  ⟨⟨_,bg _ rfl,rfl,rfl⟩,⟨_,bg _ rfl⟩,λg1 g2 ⟨o,a1,a2⟩ k=>⟨o,k _ a1,a2⟩⟩,rfl,q _ (I1.hok.fresh (au _))⟩
theorem bK {es:Array we} {acc:Array ah} (h:yd (λi v=>∃en,es[i]? =some en/\v=en.val) acc es.size):acc.toList=es.toList.map (·.val):=by
 apply List.ext_getElem?;intro i;rw[az,kz,kz];cases e:acc[i]? with
 |none=>
  have h1:acc.size<=i:=Array.getElem?_eq_none_iff.mp e;rw[ss (by rw[←h.1];exact h1)];rfl
 |some v=>
  obtain⟨en,h1,h2⟩:=h.2 i v e;rw[h1,h2];rfl
theorem UL {X:Cx} (hc:X.calm=true):KY X (.type "list") (λxs H Q=>Ex3 λv d Au=>xs=[.ref v]/\H v=some (O6 v d)/\Dx X.prog X.w X.K H d Au/\∀l,H l=none->Q (.ref l) (upd H l (.lst (Au.map (·.2))))):=by
 intro Ap s σ H xs us Q I r h;obtain⟨v,d,Au,rfl,hv,hd,q⟩:=h;obtain⟨u,rfl,rx⟩:=N9 r;cases rx;obtain⟨xs,ys,e1,rfl,hk,z,m,rel,dd⟩:=I.dx hd;obtain⟨o,es,ep,go,xd,hdt,hes,_⟩:=id dd;have vw:s.heap.IsValuesView v d:=(show ObjOk X.prog X.w H s.heap v (O6 v d) from I.hok v _ hv).1;have hsz:es.size=xs.length:=by
  have:=congrArg pc hes;rw[fv,ai] at this;rw[this];exact(cg rel).symm
 refine PySem.W.kdl_call (eK (vw:=v) (d:=d) (es:=es) (ep:=ep)) (I.ok.hd hc) ⟨vw,o,go,xd,hdt⟩ (by rw[hsz];exact z) λh' tk acc c kp ga hacc=>?_;have ev:=bK hacc;have rv:Vals ((dxv xs).map (·.2)) acc.toList:=by
  rw[ev,hes,vt];have go:∀{l:List (List Int×ag×V)} {n:List (List Key×ag×ah)},KX l n->Vals ((dxv l).map (·.2)) (n.map ((·.val)∘wv (tU (DF X.prog X.w)))):=by
   intro l n q;induction q with
   |nil=>exact .nil
   |cons h t ih=>exact .cons h.2.2 ih
  exact go rel
 exact⟨.ref s.heap.objs.size,_,I.laid (t':=tk) kp (au _) (show ObjOk X.prog X.w _ h' _ (.lst ((dxv xs).map (·.2))) from⟨by rw[dxv,ai,ai];exact z,acc.toList,c,rv,ga⟩),rfl,q _ (I.hok.fresh (au _))⟩
end L2
end
section
namespace Lt
open PySem PySem.Spec PyProof.Rows L2
variable {f a C CR CT r ta CI CL CN:ag} {fd:ez} {X:Cx} {x:List Int} {i n e p q:Nat} {pos:Pos} {z dz fz:Str} {xs:List V} {H H' H1:Hp} {E:XK} {cs t ci ct:List UInt8} {α β:Type} {Q:VK} {ls fr co ba:List (List Int)} {P:bb} {w:bv} {h:cr} {ps:List Str}
def qE (K:aa):Sp:=λvs H Q _=>Ex4 λ(ra xa:ag) (rs:List (List Int)) (x:List Int)=>vs=[.ref ra,.ref xa]/\LT K H ra rs/\SqT K H xa (x.map V.int)/\(∀l∈rs,Sm l)/\Sm x/\rs.length<=100000/\
 ∀H',Same H H'->Q (.int ((mPA (λy=>BG y x) [] rs (rs.length+1) 0 rs.length:Nat):Int)) H'
def WPa (K:aa) (ra xa:ag) (rs:List (List Int)) (x:List Int) (H:Hp) (m:Nat) (σ:L2.St) (H':Hp):Prop:=
 Ex4 λ(low high g:Nat) (r4:Option V)=>σ=[some (.ref ra),some (.ref xa),some (.int (low:Nat)),some (.int (high:Nat)),r4]/\Same H H'/\mPA (λy=>BG y x) [] rs (rs.length+1) 0 rs.length=mPA (λy=>BG y x) [] rs g low high/\high - low<g/\low<=high/\high<=rs.length/\m=high - low
theorem LT.same {K:aa} (h:LT K H a ls) (e:Same H H'):LT K H' a ls:=(Same.kp e).lt h
theorem qF (lt:α->Bool) (d:α) (r:List α) (f low high:Nat):mPA lt d r (f+1) low high=if low<high then(if lt (r.getD ((low+high) / 2) d)=true then mPA lt d r f ((low+high) / 2+1) high else mPA lt d r f low ((low+high) / 2)) else low:=rfl
section
variable {P:bb} {w:bv} {K:aa} {mg:Str->Option ah} {base:cr} {CI CL CN:ag}
theorem O7:FnScope ["rising","interval","low","high","middle"] ["rising","interval"] (AH FT):={}
theorem qG (F:Fun K "place_among" "place_among" FT f fd) (B:Blt mg) (D1:Def P w K mg base 2 "narrower" ["x","y"] (c9 K)):FnOk P w K mg base (CX1 P w) 3 f fd ["rising","interval"] (qE K):=by
 refine F.okx O7 λAv A outer s H vs Q E hr h=>?_;obtain⟨ra,xa,rs,x,rfl,L,hx,hs,sx,hl,k⟩:=h;refine⟨_,(AB (AW 2 O7 AI)
  (AB (AW 3 O7 (AY AN (by rfl) B.len cu (AA (pv 0) AF)))
  (AB (B4 bo (AO G0 (pv 2) (pv 3) (AQ _))
  (AB (AW 4 O7 (BC LS (BC C7 (pv 2) (pv 3)) AI))
  (AC (AX (C5 (D1.call hr AD (AA (BI CK (pv 0) (pv 4) (λ_ _=>rfl)) (AA (pv 1) AF))))
   (AC (AW 2 O7 (BC C7 (pv 4) AI))) (AC (AW 3 O7 (pv 4)))))))
  (AC (AJ (pv 2)))))),?_⟩
 and_intros
 obtain⟨ys,g1,g2⟩:=L.len;refine⟨_,rfl,ra,ys,rfl,.inl g1,?_⟩;refine⟨WPa K ra xa rs x H,⟨rs.length,0,rs.length,rs.length+1,none,by rw[g2];rfl,Same.refl _,rfl,by omega,by omega,by omega,rfl⟩,?_⟩;rintro m σ H1 ⟨low,high,g,r4,rfl,s1,em,hg,hlh,hh,rfl⟩;obtain⟨g,rfl⟩:∃g',g=g'+1:=⟨g - 1,by omega⟩
 replace em:=em.trans (qF _ _ _ g low high);refine⟨_,rfl,_,rfl,_,_,rfl,rfl,_,rfl,?_⟩;by_cases Aw:low<high
 ·have hd:decide (((low:Nat):Int)<((high:Nat):Int))=true:=decide_eq_true (by omega);rw[hd];rw[Ax Aw] at em;have emid:(((low:Nat):Int)+((high:Nat):Int)) / 2=(((low+high) / 2:Nat):Int):=by omega
  refine DY ⟨_,rfl,_,rfl,_,_,rfl,rfl,_,_,rfl,rfl,(show(0:Int)<2/\(2:Int)<1073741824 from by decide),?_⟩;obtain⟨xs,b,q1,q2,q3⟩:=(L.same s1).get (i:=(low+high) / 2) (by omega);have sm:=hs (rs.getD ((low+high) / 2) []) (by rw[bj,am (by omega)];exact jh _);refine⟨_,rfl,V.int (((low+high) / 2:Nat):Int),(by rw[←emid];rfl),ra,xs,_,_,rfl,rfl,q1,DH q2,V.ref xa,rfl,b,xa,_,_,rfl,q3,s1.tup hx,sm,sx,λH2 s2=>⟨_,rfl,?_⟩⟩;cases hn:BG (rs.getD ((low+high) / 2) []) x with
  |true=>
   rw[hn,Ax rfl] at em;exact BQ ⟨V.int (((low+high) / 2:Nat):Int),(by rw[←emid];rfl),_,_,rfl,rfl,_,(show high - ((low+high) / 2+1)<high - low by omega),(low+high) / 2+1,high,g,_,rfl,s1.trans s2,em,by omega,by omega,hh,rfl⟩
  |false=>
   rw[hn,Ay (by decide)] at em;exact BH ⟨V.int (((low+high) / 2:Nat):Int),(by rw[←emid];rfl),_,(show(low+high) / 2 - low<high - low by omega),low,(low+high) / 2,g,_,rfl,s1.trans s2,em,by omega,by omega,by omega,rfl⟩
 ·have hd:decide (((low:Nat):Int)<((high:Nat):Int))=false:=decide_eq_false (by omega);rw[hd];rw[Ay Aw] at em;rw[em] at k;exact BH ⟨_,rfl,k H1 s1⟩
end
open PySem PySem.Spec PyProof.Rows L2
def rise (xs:List (List Int)):List (List Int):=OW BG [] xs
def rkV (rs:List (List Int)) (n:Nat):List (List Int×V):=(jn n).map λi=>(rs.getD i [],V.int (i:Nat))
theorem SE (rs:List (List Int)) (n:Nat):rkV rs (n+1)=rkV rs n++[(rs.getD n [],V.int (n:Nat))]:=by
 unfold rkV;rw[vA,du];rfl
theorem bL {Au:List (List Int×V)} {k:List Int} (h:∀x∈Au,¬x.1=k):EV Au k=none:=by
 induction Au with
 |nil=>rfl
 |cons p r ih=>rw[EH (h p bc)];exact ih λx hx=>h x (aq _ hx)
theorem NS {rs:List (List Int)} (nd:rs.Nodup) (hn:n<rs.length):EV (rkV rs n) (rs.getD n [])=none:=by
 refine bL λx hx e=>?_;unfold rkV at hx;obtain⟨i,hi,rfl⟩:=kh.mp hx;have hi:=yf.mp hi;rw[bj,bj,am hn,am (nw hi hn)] at e;have:=l4 nd (am (nw hi hn)) (by rw[am hn];exact congrArg some e.symm);omega
theorem bM {rs:List (List Int)} (nd:rs.Nodup):∀{n:Nat} {k:List Int},n<=rs.length->rs.idxOf k<n->EV (rkV rs n) k=some (V.int ((rs.idxOf k:Nat):Int))
 |0,k,_,h=>by omega
 |n+1,k,hn,h=>by
  have Aw:n<rs.length:=hn;rw[SE,J8 _ _ _ _ (NS nd Aw)];by_cases e:rs.idxOf k=n
  ·have ek:k=rs.getD n []:=by
    rw[bj, ←e,am (by rw[e];exact Aw)];exact(uo (by rw[e];exact Aw)).symm
   rw[Ax ek,e]
  ·have hk:=bM nd (n:=n) (k:=k) (by omega) (by omega);rw[Ay,hk];intro ek;rw[ek,NS nd Aw] at hk;cases hk
def qH (P:bb) (w:bv) (K:aa):Sp:=λvs H Q _=>Ex2 λ(va:ag) (xs:List (List Int))=>vs=[.ref va]/\LT K H va xs/\(∀l∈xs,Sm l)/\xs.length<=100000/\
 ∀H' d,Same H H'->Dx P w K H' d (rkV (rise xs) (rise xs).length)->Q (.ref d) H'
theorem LT.sbx {K:aa} (h:LT K H a ls) (s:Sb r H H') (ha:a≠r) (hr:∀xs,H r≠some (.tup xs)) (hf:∀o u,H r≠some (.frz o u)):LT K H' a ls:=by
 obtain⟨as,h1,h2⟩:=h;refine⟨as,s _ _ h1 ha,AR h2 λb l q=>?_⟩;rcases q with(q|⟨o,q⟩)|q
 ·exact .inl (.inl (s _ _ q λz=>hr _ (z▸q)))
 ·exact .inl (.inr ⟨o,s _ _ q λz=>hf _ _ (z▸q)⟩)
 ·exact .inr q
theorem qI {K:aa} {Au:List (List Int×V)} (h:Dx P w K H a Au) (s:Sb r H H') (ha:a≠r) (hr:∀xs,H r≠some (.tup xs)) (hf:∀o u,H r≠some (.frz o u)):Dx P w K H' a Au:=by
 obtain⟨xs,h1,h2,h3⟩:=h;refine⟨xs,s _ _ h1 ha,h2,λx hx=>?_⟩;rcases h3 x hx with(q|⟨o,q⟩)|q
 ·exact .inl (.inl (s _ _ q λz=>hr _ (z▸q)))
 ·exact .inl (.inr ⟨o,s _ _ q λz=>hf _ _ (z▸q)⟩)
 ·exact .inr q
theorem Sb.tup2 {K:aa} {b:ag} {l:List V} (s:Sb r H H') (hr:∀xs,H r≠some (.tup xs)) (hf:∀o u,H r≠some (.frz o u)) (q:SqT K H b l):SqT K H' b l:=by
 rcases q with(q|⟨o,q⟩)|q
 ·exact .inl (.inl (s _ _ q λz=>hr _ (z▸q)))
 ·exact .inl (.inr ⟨o,s _ _ q λz=>hf _ _ (z▸q)⟩)
 ·exact .inr q
theorem cf.app {R:α->β->Prop}:∀{a1 a2:List α} {b1 b2:List β},cf R a1 b1->cf R a2 b2->cf R (a1++a2) (b1++b2)
 |_,_,_,_,.nil,s=>s
 |_,_,_,_,.cons r t,s=>.cons r (cf.app t s)
theorem cf.tk {R:α->β->Prop}:∀{a:List α} {b:List β} (n:Nat),cf R a b->cf R (a.take n) (b.take n)
 |_,_,0,_=>.nil
 |_,_,_+1,.nil=>.nil
 |_,_,n+1,.cons r t=>.cons r (cf.tk n t)
theorem cf.dr {R:α->β->Prop}:∀{a:List α} {b:List β} (n:Nat),cf R a b->cf R (a.drop n) (b.drop n)
 |_,_,0,r=>r
 |_,_,_+1,.nil=>.nil
 |_,_,n+1,.cons _ t=>cf.dr n t
structure RkS (P:bb) (w:bv) (K:aa) (H H':Hp) (ra da:ag) (rs:List (List Int)) (Au:List (List Int×V)):Prop where
 same:Same H H'
 nr:H ra=none
 nd:H da=none
 L:LT K H' ra rs
 D:Dx P w K H' da Au
 mem:∀l,(EV Au l).isSome=decide (l∈rs)
section
variable {P:bb} {w:bv} {K:aa} {mg:Str->Option ah} {base:cr} {CI CL CN:ag}
theorem IZ:FnScope ["intervals","rising","known","interval","ranked","rank"] ["intervals"] (AH PV):={}
theorem kI (F:Fun K "ranks" "ranks" PV f fd) (B:Blt mg) (D1:Def P w K mg base 3 "place_among" ["rising","interval"] (qE K)):FnOk P w K mg base (CX1 P w) 4 f fd ["intervals"] (qH P w K):=by
 refine F.okx IZ λAv A outer s H vs Q E hr h=>?_;obtain⟨va,xs,rfl,L,hs,hl,k⟩:=h;refine⟨_,(AB (AW 1 IZ (DS AF))
  (AB (AW 2 IZ QN)
  (AB (B5 bo rfl (DG (pv 0)) (DT 3 IZ)
  (AC (AX (X5 (O5 (MV hr) (pv 3) (pv 2)))
   (AB (QM (MV hr) (pv 2) (pv 3) MD rfl)
  (AC (AZ (ID fh PySem.F.slot_list_insert PySem.F.type_list_insert XV (pv 1) (AA (D1.call hr AD (AA (pv 1) (AA (pv 3) AF))) (AA (pv 3) AF)))))) AM)))
  (AB (AW 4 IZ QN)
  (AB (B5 bo rfl (LV (by rfl) B.enum (AA (pv 1) AF)) (IJ rfl (BZ (DT 5 IZ) (BZ (DT 3 IZ) GK)))
  (AC (QM (MV hr) (pv 4) (pv 3) (pv 5) rfl)))
  (AC (AJ (pv 4)))))))),?_⟩
 and_intros
 obtain⟨as,a1,a2⟩:=id L;have la:as.length=xs.length:=cg a2;refine⟨by rw[bw];show 0<=16777216;decide,λra nr=>?_⟩;intro da H1 nd0 sb1 D1';have nd:H da=none:=by
  by_cases e:da=ra
  ·rw[e];exact nr
  ·rw[AE e] at nd0;exact nd0
 have hne:ra≠da:=λe=>by rw[←e,upd_same] at nd0;cases nd0
 have same1:Same H H1:=λb o e=>sb1 b o (by rw[AE (AG e nr)];exact e) (AG e nd);have r1:H1 ra=some (.lst []):=sb1 _ _ upd_same hne;refine⟨V.ref va,rfl,va,rfl,⟨_,SqL.of (same1 _ _ a1)⟩,DD (K:=K) (a:=va) (xs:=as.map V.ref) (λi σ H'=>Ex3 λ(rs:List (List Int)) (Au:List (List Int×V)) (r3:Option V)=>σ=[some (.ref va),some (.ref ra),some (.ref da),r3,none,none]/\rs=(xs.take i).foldl (FE BG []) []/\RkS P w K H H' ra da rs Au/\Au.length<=i/\rs.length<=i)
  ⟨[],[],none,rfl,rfl,⟨same1,nr,nd,⟨[],r1,.nil⟩,D1',λl=>rfl⟩,by simp,by simp⟩ ?_ ?_ ?_⟩
 ·rintro i σ H' _ ⟨rs,Au,r3,_,_,S,_⟩;exact SqL.of (S.same _ _ a1)
 ·rintro i y σ H2 hi ⟨rs,Au,r3,rfl,er,S,lk,lr⟩
  subst_eqs
  rw[az] at hi;cases ea:as[i]? with
  |none=>rw[ea] at hi;cases hi
  |some xa=>
   rw[ea] at hi;cases hi;obtain⟨x,hx,tx⟩:=BD a2 ea;have hi':i<xs.length:=(aw.mp hx).1;have sx:=hs x (bz hx);have tx2:=S.same.tup tx;have enx:(xs.take (i+1)).foldl (FE BG []) []=FE BG [] rs x:=by
    rw[dk,hx,wX, ←er];rfl
   have hrs:∀l∈rs,Sm l:=λl hm=>by
    have:∀(ys r:List (List Int)) (l:List Int),l∈ys.foldl (FE BG []) r->l∈r\/l∈ys:=by
     intro ys;induction ys with
     |nil=>intro r l h;exact .inl h
     |cons y ys ih=>
      intro r l h;rcases ih _ _ h with h|h
      ·rcases mIns_mem.mp h with h|h
       ·exact .inl h
       ·exact .inr (h▸bc)
      ·exact .inr (aq _ h)
    rw[er] at hm;rcases this _ _ _ hm with h|h
    ·exact absurd h (by simp)
    ·exact hs l (mh h)
   refine⟨V.ref xa,rfl,V.ref da,rfl,da,xa,Au,x,rfl,rfl,S.D,tx2,_,rfl,?_⟩;rw[S.mem x];by_cases hm:x∈rs
   ·rw[decide_eq_true hm];refine BH ⟨rs,Au,_,rfl,?_,S,by omega,by omega⟩;rw[enx];unfold FE;rw[Ax hm]
   ·have hv:EV Au x=none:=by
     have:=S.mem x;rw[decide_eq_false hm] at this;cases h:EV Au x with
     |none=>rfl
     |some v=>rw[h] at this;cases this
    rw[decide_eq_false hm];refine BQ ⟨V.ref da,rfl,V.ref xa,rfl,da,xa,Au,x,rfl,rfl,S.D,tx2,hv,(by rw[bw];omega),λH3 sb3 D3=>?_⟩;obtain⟨zs,dz,_⟩:=id S.D;have t3:∀{b:ag} {l:List V},SqT K H2 b l->SqT K H3 b l:=λq=>Sb.tup2 sb3 (λ_ z=>by rw[dz] at z;cases z) (λ_ _ z=>by rw[dz] at z;cases z) q;have L3:LT K H3 ra rs:=S.L.sbx sb3 hne (λ_ z=>by rw[dz] at z;cases z) (λ_ _ z=>by rw[dz] at z;cases z);have s3:Same H H3:=λb o e=>sb3 b o (S.same b o e) (AG e nd);obtain⟨bs,b1,b2⟩:=id L3;have lb:bs.length=rs.length:=cg b2;refine⟨V.ref ra,rfl,.inl ⟨rfl,_,SqL.of b1⟩,V.ref ra,rfl,V.ref xa,rfl,ra,xa,rs,x,rfl,L3,t3 tx2,hrs,sx,by omega,λH4 s4=>?_⟩;have b14:=s4 _ _ b1;have hle:mPA (λy=>BG y x) [] rs (rs.length+1) 0 rs.length<=rs.length:=T8 _ _ _ (dq _) (au _);refine⟨V.ref xa,rfl,ra,_,mPA (λy=>BG y x) [] rs (rs.length+1) 0 rs.length,V.ref xa,rfl,rfl,b14,(by rw[ai,lb];exact hle),(by rw[ai,lb,bw];omega),?_⟩;have eins:FE BG [] rs x=K8 rs (mPA (λy=>BG y x) [] rs (rs.length+1) 0 rs.length) x:=by unfold FE;rw[Ay hm]
    generalize mPA (λy=>BG y x) [] rs (rs.length+1) 0 rs.length=n at hle eins;have n0:∀{b:ag} {o:HO},H b=some o->b≠ra:=λe=>AG e nr;have t5:∀{b:ag} {l:List V} {z:HO},SqT K H4 b l->SqT K (upd H4 ra z) b l:=λ{b l z} q=>Sb.tup2 (r:=ra) (λc o e n=>by rw[AE n];exact e) (λ_ z=>by rw[b14] at z;cases z) (λ_ _ z=>by rw[b14] at z;cases z) q;refine⟨FE BG [] rs x,Au++[(x,.bl true)],_,rfl,enx.symm,⟨λb o e=>by rw[AE (n0 e)];exact s4 _ _ (s3 _ _ e),nr,nd,⟨bs.take n++xa::bs.drop n,by rw[upd_same,du,cz,zh,List.map_drop],?_⟩,?_,λl=>?_⟩,by rw[bq];simp;omega,by have:=aG (lt:=BG) (d:=[]) (r:=rs) (x:=x);omega⟩
    ·rw[eins];unfold K8;refine cf.app (cf.tk n (AR b2 λb l q=>t5 (s4.tup q))) (.cons (t5 (s4.tup (t3 tx2))) (cf.dr n (AR b2 λb l q=>t5 (s4.tup q))))
    ·exact qI (r:=ra) (Dx.same D3 s4) (λc o e n=>by rw[AE n];exact e) (cq hne) (λ_ z=>by rw[b14] at z;cases z) (λ_ _ z=>by rw[b14] at z;cases z)
    ·rw[J8 _ _ _ _ hv];by_cases el:l=x
     ·rw[Ax el,decide_eq_true (mIns_mem.mpr (.inr el))];rfl
     ·rw[Ay el,S.mem l,decide_eq_decide];exact⟨λh=>mIns_mem.mpr (.inl h),λh=>(mIns_mem.mp h).elim id λe=>absurd e el⟩
 ·rintro σ H2 ⟨rs,Au,r3,rfl,er,S,lk,lr⟩;rw[ai,la,ff] at er;rw[ai,la] at lr;have er:rs=rise xs:=er;rw[←er] at k;have ndr:rs.Nodup:=by rw[er];exact OY v9
  intro d2 H3 nd2 sb3 D3;have s3:Same H2 H3:=λb o e=>sb3 b o e (AG e nd2);obtain⟨bs,b1,b2⟩:=id S.L;have lb:bs.length=rs.length:=cg b2;have nd2':H d2=none:=S.same.free nd2;refine⟨V.ref ra,rfl,ra,_,rfl,SqL.of (s3 _ _ b1),GM (n:=rs.length) (λi σ H'=>(Ex2 λr3 r5=>σ=[some (.ref va),some (.ref ra),some (.ref da),r3,some (.ref d2),r5])/\Same H2 H'/\Dx P w K H' d2 (rkV rs i)) ⟨⟨_,_,rfl⟩,s3,D3⟩ ?_ ?_ ?_ ?_⟩
  ·rintro i σ H' hi ⟨_,s4,_⟩;exact⟨_,.ref (bs[i]'(by omega)),SqL.of (s4 _ _ b1),by rw[az,am (by omega)];rfl⟩
  ·rintro σ H' ⟨_,s4,_⟩;exact⟨_,SqL.of (s4 _ _ b1),by rw[ai,lb];exact au _⟩
  ·rintro i v σ H4 H5 hi ⟨⟨r3,r5,rfl⟩,s4,D4⟩ ⟨T',xv,rfl,nT,rfl,hxv⟩;have hxv':=hxv _ (SqL.of (s4 _ _ b1));rw[az] at hxv';cases eb:bs[i]? with
   |none=>rw[eb] at hxv';cases hxv'
   |some b=>
    rw[eb] at hxv';cases hxv';obtain⟨l,hl2,tl⟩:=BD b2 eb;have Aw:i<rs.length:=hi;have eg:rs.getD i []=l:=by rw[bj,hl2];rfl
    have s5:Same H4 (upd H4 T' (.tup [.int (i:Nat),.ref b])):=Same.upd nT;have hn:=NS ndr Aw;rw[eg] at hn;refine⟨T',_,rfl,SqT.of upd_same,rfl,_,_,rfl,_,_,rfl,rfl,?_⟩;refine⟨V.int (i:Nat),rfl,V.ref d2,rfl,V.ref b,rfl,d2,b,_,l,rfl,rfl,D4.same s5,s5.tup (s4.tup tl),hn,(by unfold rkV;rw[ai,lw,bw];omega),λH6 sb6 D6=>⟨⟨_,_,rfl⟩,?_,by rw[SE,eg];exact D6⟩⟩;exact λc o e=>sb6 c o (s5 _ _ (s4 _ _ e)) (AG e nd2)
  ·rintro σ H4 ⟨⟨r3,r5,rfl⟩,s4,D4⟩;exact⟨V.ref d2,rfl,k H4 d2 (S.same.trans s4) D4⟩
end
open PySem PySem.Spec PyProof.Rows L2
structure NoteP (fr co ba:List (List Int)) (ps:List Ln):Prop where
 fit:∀q∈ps,∀s∈q.2,plc fr co ba s=true
 one:∀q∈ps,∀s∈q.2,1<=s.course
 sm:∀q∈ps,∀s∈q.2,Sm (CF fr co ba s)
 few:∀q∈ps,q.2.length<=14
 len:ps.length<=512
theorem bN {a b:Stop} (h:sL a=sL b):a=b:=by
 unfold sL at h;obtain⟨c,f⟩:=a;obtain⟨c',f'⟩:=b;simp at h;have h1:c=c':=by have:=h.1;omega
 have h2:f=f':=by have:=h.2;omega
 rw[h1,h2]
structure SoA (P:bb) (w:bv) (K:aa) (g:Stop->List Int) (H:Hp) (d:ag) (ds:List Stop):Prop where
 ex:∃Au,Dx P w K H d Au/\cf (λ(kv:List Int×V) (s:Stop)=>kv.1=sL s/\∃b,kv.2= .ref b/\SqT K H b ((g s).map V.int)) Au ds
theorem WE {K:aa} {g:Stop->List Int}:∀{Au:List (List Int×V)} {ds:List Stop},cf (λ(kv:List Int×V) (s:Stop)=>kv.1=sL s/\∃b,kv.2= .ref b/\SqT K H b ((g s).map V.int)) Au ds->∀s,¬s∈ds->EV Au (sL s)=none
 |_,_,.nil,s,_=>rfl
 |_,_,.cons r t,s,h=>by
  rw[EH (λe=>h (by rw[bN (r.1.symm.trans e)];exact bc))];exact WE t s λq=>h (aq _ q)
theorem QO {K:aa} {g:Stop->List Int}:∀{Au:List (List Int×V)} {ds:List Stop},cf (λ(kv:List Int×V) (s:Stop)=>kv.1=sL s/\∃b,kv.2= .ref b/\SqT K H b ((g s).map V.int)) Au ds->∀s,s∈ds->∃b,EV Au (sL s)=some (.ref b)/\SqT K H b ((g s).map V.int)
 |_,_,.nil,s,h=>absurd h (by simp)
 |_,_,.cons (a:=kv) (b:=s0) r t,s,h=>by
  by_cases e:s=s0
  ·obtain⟨b,h1,h2⟩:=r.2;refine⟨b,?_,by rw[e];exact h2⟩;rw[F9 (by rw[r.1,e]),h1]
  ·rw[EH (λz=>e (bN (r.1.symm.trans z)).symm)];exact QO t s ((bp.mp h).resolve_left e)
theorem SoA.same {K:aa} {g:Stop->List Int} {d:ag} {ds:List Stop} (h:SoA P w K g H d ds) (e:Same H H'):SoA P w K g H' d ds:=
 let ⟨Au,a,b⟩:=h.ex;⟨Au,Dx.same a e,AR b λ_ _ ⟨q1,c,q2,q3⟩=>⟨q1,c,q2,e.tup q3⟩⟩
def qJ (P:bb) (w:bv) (K:aa) (CI CL:ag):Sp:=λvs H Q _=>Ex9 λ(ia af ac ab al:ag) (fr co ba:List (List Int)) (ps:List Ln)=>vs=[.ref ia,.ref al]/\InA K CI H ia af ac ab fr co ba/\LnsA K CL H al ps/\NoteP fr co ba ps/\
 ∀H' d ds,Same H H'->SoA P w K (CF fr co ba) H' d ds->(∀s,s∈ds↔∃q∈ps,s∈q.2)->ds.length<=7168->Q (.ref d) H'
section
variable {P:bb} {w:bv} {K:aa} {mg:Str->Option ah} {base:cr} {CI CL CN:ag}
theorem kJ (af ac ab:ag):(ifs af ac ab).lookup ("sound":Str)=none:=TR _ _ _ (by decide +kernel) (by decide +kernel) (by decide +kernel)
theorem WF:FnScope ["instrument","lines","sounds","line","stop"] ["instrument","lines"] (AH HD):={}
theorem qK (F:Fun K "sounds_of" "sounds_of" HD f fd) (T:InC K CI) (TL:LnC K CL) (MS:Mth P w K mg base 4 CI "sound" ["self","course","fret"] (f8 K CI)):FnOk P w K mg base (CX1 P w) 5 f fd ["instrument","lines"] (qJ P w K CI CL):=by
 refine F.okx WF λAv A outer s H vs Q E hr h=>?_;obtain⟨ia,af,ac,ab,al,fr,co,ba,ps,rfl,I,L,N,k⟩:=h;refine⟨_,(AB (AW 2 WF QN)
  (AB (B5 bo rfl (DG (pv 1)) (DT 3 WF)
  (AC (B5 bo rfl (DG (AT (pv 3) rfl)) (DT 4 WF)
   (AC (AX (X5 (O5 (MV hr) (pv 4) (pv 2)))
    (AC (QM (MV hr) (pv 2) (pv 4) (MS.call (pv 0) hr AD (AA (BI DK (pv 4) AI (λ_ _=>rfl)) (AA (BI DK (pv 4) AI (λ_ _=>rfl)) AF))) rfl)) AM)))))
  (AC (AJ (pv 2))))),?_⟩
 and_intros
 obtain⟨as,a1,a2⟩:=id L;have la:as.length=ps.length:=cg a2;intro d H1 nd sb1 D1';have s1:Same H H1:=λb o e=>sb1 b o e (AG e nd);refine⟨V.ref al,rfl,al,rfl,⟨_,SqL.of (s1 _ _ a1)⟩,DD (K:=K) (a:=al) (xs:=as.map V.ref) (λi σ H'=>Ex3 λ(ds:List Stop) (r3 r4:Option V)=>σ=[some (.ref ia),some (.ref al),some (.ref d),r3,r4]/\Same H H'/\SoA P w K (CF fr co ba) H' d ds/\(∀s,s∈ds↔∃q∈ps.take i,s∈q.2)/\ds.length<=14*i)
  ⟨[],none,none,rfl,s1,⟨[],D1',.nil⟩,λs=>by simp,by simp⟩ ?_ ?_ ?_⟩
 ·rintro i σ H' _ ⟨ds,r3,r4,_,s2,_⟩;exact SqL.of (s2 _ _ a1)
 ·rintro i y σ H2 hi ⟨ds,r3,r4,rfl,s2,S2,mem,hl⟩
  subst_eqs
  rw[az] at hi;cases ea:as[i]? with
  |none=>rw[ea] at hi;cases hi
  |some x=>
   rw[ea] at hi;cases hi;obtain⟨p,hp,dl,sa,_,hx,Ls⟩:=BD a2 ea;obtain⟨n,st⟩:=p;have hq:(n,st)∈ps:=bz hp;have hx2:=s2 _ _ hx;have Ls2:=LT.same Ls s2;obtain⟨bs,b1,b2⟩:=id Ls2;have lb:bs.length=st.length:=by rw[cg b2,ai]
   refine⟨V.ref x,rfl,x,CL,dl,_,_,rfl,hx2,TL.cl,TL.ns,VZ _ _,sa,rfl,⟨_,SqL.of b1⟩,DD (K:=K) (a:=sa) (xs:=bs.map V.ref) (λj σ H'=>Ex2 λ(es:List Stop) (r4:Option V)=>σ=[some (.ref ia),some (.ref al),some (.ref d),some (.ref x),r4]/\(∀b o,H2 b=some o->b≠d->H' b=some o)/\SoA P w K (CF fr co ba) H' d es/\(∀s,s∈es↔s∈ds\/s∈st.take j)/\es.length<=ds.length+j)
    ⟨ds,r4,rfl,λb o e _=>e,S2,λs=>by simp,by omega⟩ ?_ ?_ ?_⟩
   ·rintro j σ H' _ ⟨es,r4,_,s3,_⟩;obtain⟨Au,⟨zs,dz,_⟩,_⟩:=S2.ex;exact SqL.of (s3 _ _ b1 (B2 b1 dz (by intro z;cases z)))
   ·rintro j y σ H3 hj ⟨es,r4,rfl,s3,S3,mem3,hl3⟩
    subst_eqs
    rw[az] at hj;cases eb:bs[j]? with
    |none=>rw[eb] at hj;cases hj
    |some b=>
     rw[eb] at hj;cases hj;obtain⟨q,hq2,hb⟩:=BD b2 eb;rw[az] at hq2;cases es':st[j]? with
     |none=>rw[es'] at hq2;cases hq2
     |some s0=>
      rw[es'] at hq2;cases hq2;have hs0:s0∈st:=bz es';have hj':j<st.length:=(aw.mp es').1;have few:st.length<=14:=N.few _ hq;have hi512:i<512:=by have:=(aw.mp hp).1;have:=N.len;omega
      obtain⟨kvs2,⟨zs,dz,_⟩,_⟩:=S2.ex;have s03:Same H H3:=λc o e=>s3 c o (s2 _ _ e) (AG e nd);have nt:∀{c:ag} {l:List V},SqT K H2 c l->SqT K H3 c l:=λq=>Sb.tup2 (r:=d) s3 (λ_ z=>by rw[dz] at z;cases z) (λ_ _ z=>by rw[dz] at z;cases z) q;have hb3:=nt hb;obtain⟨Au,DX,PX⟩:=S3.ex;have tk1:∀s,(s∈es\/s=s0)↔s∈ds\/s∈st.take (j+1):=λs=>by
       rw[dk,es',mem3 s,cn];simp[or_assoc]
      refine⟨V.ref b,rfl,V.ref d,rfl,d,b,Au,sL s0,rfl,rfl,DX,hb3,_,rfl,?_⟩;by_cases hm:s0∈es
      ·obtain⟨c,hv,_⟩:=QO PX s0 hm;rw[hv];refine BH ⟨es,_,rfl,s3,S3,λs=>?_,by omega⟩;rw[←tk1 s];exact⟨.inl,λh=>h.elim id λe=>e▸hm⟩
      ·have hv:=WE PX s0 hm;rw[hv];have I3:=I.kp (Same.kp s03);obtain⟨dx,i3⟩:=I3.at_;refine BQ ⟨V.ref ia,rfl,ia,dx,_,rfl,i3,kJ _ _ _,V.ref b,rfl,b,_,0,V.int (s0.course:Nat),rfl,rfl,hb3,rfl,V.ref b,rfl,b,_,1,V.int (s0.fret:Nat),rfl,rfl,hb3,rfl,ia,af,ac,ab,fr,co,ba,s0,rfl,I3,N.fit _ hq _ hs0,N.one _ hq _ hs0,λH4 c s4 tc=>?_⟩;refine⟨V.ref d,rfl,V.ref b,rfl,d,b,Au,sL s0,rfl,rfl,DX.same s4,s4.tup hb3,hv,(by rw[cg PX,bw];omega),λH5 sb5 D5=>?_⟩;obtain⟨zs4,dz4,_⟩:=Dx.same DX s4;have t5:∀{c:ag} {l:List V},SqT K H4 c l->SqT K H5 c l:=λq=>Sb.tup2 sb5 (λ_ z=>by rw[dz4] at z;cases z) (λ_ _ z=>by rw[dz4] at z;cases z) q;refine⟨es++[s0],_,rfl,λc o e n=>sb5 c o (s4 _ _ (s3 _ _ e n)) n,⟨_,D5,?_⟩,λs=>?_,by rw[bq];simp;omega⟩
       ·exact cf.app (AR PX λ_ _ ⟨q1,c,q2,q3⟩=>⟨q1,c,q2,t5 (s4.tup q3)⟩) (.cons ⟨rfl,c,rfl,t5 tc⟩ .nil)
       ·rw[←tk1 s,cn];simp
   ·rintro σ H3 ⟨es,r4,rfl,s3,S3,mem3,hl3⟩;rw[ai,lb,ff] at mem3;rw[ai,lb] at hl3;have few:=N.few _ hq;refine⟨es,_,_,rfl,λc o e=>s3 c o (s2 _ _ e) (AG e nd),S3,λs=>?_,by have:st.length<=14:=few;omega⟩;rw[mem3 s,dk,hp,mem s];constructor
    ·rintro (⟨q,h1,h2⟩|h)
     ·exact⟨q,cn.mpr (.inl h1),h2⟩
     ·exact⟨(n,st),by simp,h⟩
    ·rintro ⟨q,h1,h2⟩;rcases cn.mp h1 with h1|h1
     ·exact .inl ⟨q,h1,h2⟩
     ·have:q=(n,st):=by simpa using h1
      rw[this] at h2;exact .inr h2
 ·rintro σ H2 ⟨ds,r3,r4,rfl,s2,S2,mem,hl⟩;rw[ai,la,ff] at mem;rw[ai,la] at hl;exact⟨V.ref d,rfl,k H2 d ds s2 S2 mem (by have:=N.len;omega)⟩
end
end Lt
end
section
namespace L2
open PySem PySem.Spec PyProof.Rows
structure FunC (K:aa) (x qual:Str) (st:dm) (f:ag) (fd:ez) (c:ag):Prop where
 ex:∃(oc:ah) (od:Option ag) (kV doc pm:ah) (an:Option ag) (ct:ah) (osl:Array (Option ah)),
  fd=gy x qual (DI st) (BP st) (AH st) .none kV doc pm an (.ref c) ct/\K.lookup f=some ⟨oc,od,.func fd,osl⟩/\jb K (.ref c) qual=true
 kp:eq K (.ref f)=true
theorem FunC.toFun {K:aa} {x qual:Str} {st:dm} {f:ag} {fd:ez} {c:ag} (F:FunC K x qual st f fd c):Fun K x qual st f fd:=let ⟨⟨oc,od,kV,doc,pm,an,ct,osl,h⟩,k⟩:=F;⟨⟨oc,od,kV,doc,pm,an,.ref c,ct,osl,h⟩,k⟩
theorem FunC.okx {P:bb} {w:bv} {K:aa} {mg:Str->Option ah} {base:cr} {x qual:Str} {st:dm} {f:ag} {fd:ez} {c:ag} {N ps:List Str} {k:Nat} {sp:Sp} (F:FunC K x qual st f fd c) (S:FnScope N ps (AH st))
 (hbody:∀(A:de) (outer:List Env) (s:aj) (H:Hp) (vs:List V) (Q:VK) (E:XK),Room k (A.deeper (ud qual (AH st) s.heap.objs.size f (.ref c)))->sp vs H Q E->
  ∃t,PSs (NY (CX1 P w) P w K mg base N qual (AH st) f (.ref c) A outer s H E) (BP st) t/\t { nx:=λ_ H'=>Q .non H',rt:=Q } (FJ N vs) H) (len:∀vs H Q E,sp vs H Q E->vs.length=ps.length:=by intro _ _ _ _ h;cases h;rename_i h;exact congrArg pc h.1):FnOk P w K mg base (CX1 P w) (k+1) f fd ps sp:=by
 obtain⟨oc,od,kV,doc,pm,an,ct,osl,rfl,lk,hcd⟩:=F.ex;exact eW lk hcd S len λA outer s H vs Q E hr hsp=>hbody A outer s H vs Q E hr hsp
def Stt (H H':Hp):Prop:=∀b o,H b=some o->(∀t,o≠.tbl t)->H' b=some o
theorem Same.st {H H':Hp} (e:Same H H'):Stt H H':=λb o h _=>e b o h
theorem Stt.trans {H H1 H2:Hp} (a:Stt H H1) (b:Stt H1 H2):Stt H H2:=λc o h n=>b c o (a c o h n) n
theorem Stt.sb {H H':Hp} {r:ag} {t:Array ah} (s:Sb r H H') (h:H r=some (.tbl t)):Stt H H':=λb o e n=>s b o e λz=>n t (by rw[z,h] at e;exact(cw e).symm)
theorem Stt.tup {K:aa} {H H':Hp} {a:ag} {xs:List V} (s:Stt H H') (h:SqT K H a xs):SqT K H' a xs:=by
 rcases h with(h|⟨o,h⟩)|h
 ·exact .inl (.inl (s _ _ h (by intro t z;cases z)))
 ·exact .inl (.inr ⟨o,s _ _ h (by intro t z;cases z)⟩)
 ·exact .inr h
end L2
namespace Lt
open PySem PySem.Spec PyProof.Rows L2
variable {f a C CR CT r ta CI CL CN:ag} {fd:ez} {X:Cx} {x:List Int} {i n e p q:Nat} {pos:Pos} {z dz fz:Str} {xs:List V} {H H' H1:Hp} {E:XK} {cs t ci ct:List UInt8} {α β:Type} {Q:VK} {ls fr co ba:List (List Int)} {P:bb} {w:bv} {h:cr} {ps:List Str}
theorem LT.st {K:aa} (h:LT K H a ls) (s:Stt H H'):LT K H' a ls:=let ⟨as,h1,h2⟩:=h;⟨as,s _ _ h1 (by intro t z;cases z),AR h2 λ_ _ q=>s.tup q⟩
theorem InA.st {K:aa} {ia af ac ab:ag} (I:InA K CI H ia af ac ab fr co ba) (s:Stt H H'):InA K CI H' ia af ac ab fr co ba:=
 { I with at_:=let ⟨dx,h⟩:=I.at_;⟨dx,s _ _ h (by intro t z;cases z)⟩,fr_:=I.fr_.st s,co_:=I.co_.st s,ba_:=I.ba_.st s }
theorem LnsA.st {K:aa} {al:ag} {ps:List Ln} (h:LnsA K CL H al ps) (s:Stt H H'):LnsA K CL H' al ps:=
 let ⟨as,h1,h2⟩:=h;⟨as,s _ _ h1 (by intro t z;cases z),AR h2 λ_ _ ⟨dx,sa,q1,q2,q3⟩=>⟨dx,sa,q1,s _ _ q2 (by intro t z;cases z),q3.st s⟩⟩
theorem TbA.st {K:aa} {CB:ag} {x:ag} {s:St3} {ps:List Ln} (T:TbA K CI CL CB H x s ps) (e:Stt H H'):TbA K CI CL CB H' x s ps:=
 let ⟨⟨dx,ia,af,ac,ab,al,h1,h2,h3⟩,l⟩:=T;⟨⟨dx,ia,af,ac,ab,al,e _ _ h1 (by intro t z;cases z),h2.st e,h3.st e⟩,l⟩
def NoteA (K:aa) (CN:ag) (g:Stop->List Int) (hg:List Int->Nat) (H:Hp) (x:ag) (s:Sk):Prop:=
 Ex2 λdx ia=>H x=some (.ins CN dx (ntf (s.begins:Nat) (s.line:Nat) (s.halt_.course:Nat) (s.halt_.fret:Nat) ia ((hg (g s.halt_):Nat):Int)))/\SqT K H ia ((g s.halt_).map V.int)
def NotesA (K:aa) (CN:ag) (g:Stop->List Int) (hg:List Int->Nat) (H:Hp) (a:ag) (zs:List Sk):Prop:=∃as:List ag,H a=some (.lst (as.map V.ref))/\cf (NoteA K CN g hg H) as zs
theorem NoteA.st {K:aa} {g:Stop->List Int} {hg:List Int->Nat} {x:ag} {s:Sk} (h:NoteA K CN g hg H x s) (e:Stt H H'):NoteA K CN g hg H' x s:=let ⟨dx,ia,h1,h2⟩:=h;⟨dx,ia,e _ _ h1 (by intro t z;cases z),e.tup h2⟩
theorem NotesA.st {K:aa} {g:Stop->List Int} {hg:List Int->Nat} {zs:List Sk} (h:NotesA K CN g hg H a zs) (e:Stt H H'):NotesA K CN g hg H' a zs:=let ⟨as,h1,h2⟩:=h;⟨as,e _ _ h1 (by intro t z;cases z),AR h2 λ_ _ q=>q.st e⟩
def JT (g:Stop->List Int) (hg:List Int->Nat) (s:Sk):List Int:=[((s.begins:Nat):Int),((hg (g s.halt_):Nat):Int),((s.halt_.course:Nat):Int)]
def hgt (g:Stop->List Int) (ds:List Stop):List Int->Nat:=λiv=>(rise (ds.map g)).idxOf iv
def qL:dm->Expr
 | .Return (some (.Call _ _ [⟨_,e,_⟩] _)) _=>e
 |_=>.Constant .none 0 ⟨0,0,0,0⟩
def kK:Expr->Pos
 | .Lambda _ _ _ p=>p
 |_=>⟨0,0,0,0⟩
def WG:Expr:=qL ((BP BM).getLastD (.Pass ⟨0,0,0,0⟩))
def kL:Expr->jj
 | .Lambda _ _ s _=>s
 |_=>AH (.Pass ⟨0,0,0,0⟩)
def LmT (H:Hp) (PT:ag):Prop:=LamTbl H PT (kK WG) ("notes_in_order.<locals>."++"<lambda>")
def kM (P:bb) (w:bv) (K:aa) (CI CL CN PT:ag):Sp:=λvs H Q _=>Ex9 λ(ia af ac ab al:ag) (fr co ba:List (List Int)) (ps:List Ln)=>vs=[.ref ia,.ref al]/\InA K CI H ia af ac ab fr co ba/\LnsA K CL H al ps/\NoteP fr co ba ps/\LmT H PT/\
 ∀H' a zs ds,Stt H H'->LmT H' PT->(∀s,s∈ds↔∃q∈ps,s∈q.2)->zs.Perm (CW 0 0 ps)->zs.Pairwise (λa b=>HT.lexLt (JT (CF fr co ba) (hgt (CF fr co ba) ds) b) (JT (CF fr co ba) (hgt (CF fr co ba) ds) a)=false)->NotesA K CN (CF fr co ba) (hgt (CF fr co ba) ds) H' a zs->Q (.ref a) H'
theorem UM:jp "list"=some (.type "list"):=by decide +kernel
theorem kN:LamScope "note" [] (kL WG):=⟨rfl,rfl,rfl,by decide,rfl,by decide +kernel,λy hy=>nomatch hy⟩
theorem kO:LamFr X (kL WG) [] []:=⟨by decide +kernel,λy hy e=>absurd e ((show∀y∈(kL WG).names,y.2≠.free by decide +kernel) y hy),rfl,λj y h=>by simp at h⟩
theorem f9 (b l c f:Int) (ia:ag) (h:Int):(ntf b l c f ia h).lookup ("begin":Str)=some (.int b):=rfl
theorem gA (b l c f:Int) (ia:ag) (h:Int):(ntf b l c f ia h).lookup ("line":Str)=some (.int l):=rfl
theorem gB (b l c f:Int) (ia:ag) (h:Int):(ntf b l c f ia h).lookup ("course":Str)=some (.int c):=rfl
theorem qM (b l c f:Int) (ia:ag) (h:Int):(ntf b l c f ia h).lookup ("height":Str)=some (.int h):=rfl
theorem NT:∀(ps:List Ln) (i x:Nat),(∀q∈ps,q.2.length<=14)->(CW i x ps).length<=14*ps.length
 |[],_,_,_=>au _
 |(n,l)::r,i,x,h=>by
  have h1:l.length<=14:=h (n,l) bc;have h2:=NT r (i+1) (x+n) λq hq=>h q (aq _ hq);rw[CW,bq,ai,dc];omega
theorem WH {K:aa} {g:Stop->List Int}:∀{Au:List (List Int×V)} {ds:List Stop},cf (λ(kv:List Int×V) (s:Stop)=>kv.1=sL s/\∃b,kv.2= .ref b/\SqT K H b ((g s).map V.int)) Au ds->∃as:List ag,Au.map (·.2)=as.map V.ref/\cf (λb l=>SqT K H b (l.map V.int)) as (ds.map g)
 |_,_,.nil=>⟨[],rfl,.nil⟩
 |_,_,.cons r t=>by
  obtain⟨b,h1,h2⟩:=r.2;obtain⟨as,e,p⟩:=WH t;exact⟨b::as,by rw[cz,cz,e,h1],.cons h2 p⟩
theorem NoteA.lst {K:aa} {g:Stop->List Int} {hg:List Int->Nat} {x:ag} {s:Sk} {o:HO} (h:NoteA K CN g hg H x s) (hr:H r=some (.lst xs)):NoteA K CN g hg (upd H r o) x s:=by
 obtain⟨dx,ia,h1,h2⟩:=h;exact⟨dx,ia,by rw[AE (B2 h1 hr (by intro z;cases z))];exact h1,Sb.tup2 (r:=r) (λc o e n=>by rw[AE n];exact e) (λ_ z=>by rw[hr] at z;cases z) (λ_ _ z=>by rw[hr] at z;cases z) h2⟩
def KN (K:aa) (CN:ag) (g:Stop->List Int) (hg:List Int->Nat) (H:Hp) (s:Sk) (z:List Int×V):Prop:=z.1=JT g hg s/\∃x,z.2= .ref x/\NoteA K CN g hg H x s
theorem bO {K:aa} {g:Stop->List Int} {hg:List Int->Nat}:∀{as:List ag} {zs:List Sk},cf (NoteA K CN g hg H) as zs->cf (KN K CN g hg H) zs ((zs.map (JT g hg)).zip (as.map V.ref))
 |_,_,.nil=>.nil
 |_,_,.cons r t=>.cons ⟨rfl,_,rfl,r⟩ (bO t)
theorem WI {K:aa} {g:Stop->List Int} {hg:List Int->Nat}:∀{zs:List Sk} {zs':List (List Int×V)},cf (KN K CN g hg H) zs zs'->∃as:List ag,zs'.map (·.2)=as.map V.ref/\cf (NoteA K CN g hg H) as zs
 |_,_,.nil=>⟨[],rfl,.nil⟩
 |_,_,.cons r t=>by
  obtain⟨x,h1,h2⟩:=r.2;obtain⟨as,e,p⟩:=WI t;exact⟨x::as,by rw[cz,cz,e,h1],.cons h2 p⟩
theorem bP {K:aa} {g:Stop->List Int} {hg:List Int->Nat}:∀{zs:List Sk} {zs':List (List Int×V)},cf (KN K CN g hg H) zs zs'->∀s∈zs,∃z∈zs',z.1=JT g hg s
 |_,_,.nil,s,h=>absurd h (by simp)
 |_,_,.cons r t,s,h=>by
  rcases bp.mp h with rfl|h
  ·exact⟨_,bc,r.1⟩
  ·obtain⟨z,h1,h2⟩:=bP t s h;exact⟨z,aq _ h1,h2⟩
theorem gC {K:aa} {g:Stop->List Int} {hg:List Int->Nat} {f:List Int->List Int->Bool}:∀{zs:List Sk} {zs':List (List Int×V)},cf (KN K CN g hg H) zs zs'->zs'.Pairwise (λa b=>f b.1 a.1=false)->zs.Pairwise λa b=>f (JT g hg b) (JT g hg a)=false
 |_,_,.nil,_=>ow
 |_,_,.cons r t,h=>by
  obtain⟨h1,h2⟩:=ge.mp h;refine ge.mpr ⟨λb hb=>?_,gC t h2⟩;obtain⟨z,hz,e⟩:=bP t b hb;have:=h1 z hz;rw[r.1,e] at this;exact this
section
variable {P:bb} {w:bv} {K:aa} {mg:Str->Option ah} {base:cr} {CI CL CN c PT:ag}
theorem JU:FnScope ["instrument","lines","units","sounds","heights","notes","number","line","stop","interval"] ["instrument","lines"] (AH BM):={}
theorem qN (F:FunC K "notes_in_order" "notes_in_order" BM f fd c) (B:Blt mg) (hso:mg "sorted"=none) (BB:NR mg base) (CH:uq base c PT) (TL:LnC K CL) (TN:NtC K CN)
 (D1:Def P w K mg base 1 "beginnings" ["lines"] (bC K CL)) (D2:Def P w K mg base 5 "sounds_of" ["instrument","lines"] (qJ P w K CI CL)) (D3:Def P w K mg base 4 "ranks" ["intervals"] (qH P w K)) (MN:Mkr P w K mg base 1 CN "Note" ["self","begin","line","stop","interval","height"] (j7 K CN)):
 FnOk P w K mg base (CX1 P w) 6 f fd ["instrument","lines"] (kM P w K CI CL CN PT):=by
 refine F.okx JU λA outer s H vs Q E hr h=>?_;obtain⟨ia,af,ac,ab,al,fr,co,ba,ps,rfl,I,L,N,LM,k⟩:=h;refine⟨_,(AB (AW 2 JU (D1.call hr AD (AA (pv 1) AF)))
  (AB (AW 3 JU (D2.call hr AD (AA (pv 0) (AA (pv 1) AF))))
  (AB (AW 4 JU (D3.call hr AD (AA (J0 (UL rfl) (by rfl) B.list UM (AA (bJ (pv 3)) AF)) AF)))
  (AB (AW 5 JU (DS AF))
  (AB (B5 bo rfl (LV (by rfl) B.enum (AA (pv 1) AF)) (IJ rfl (BZ (DT 6 JU) (BZ (DT 7 JU) GK)))
  (AC (B5 bo rfl (DG (AT (pv 7) rfl)) (DT 8 JU)
   (AB (AW 9 JU (WD (MV hr) (pv 3) (pv 8) (λ_ _=>rfl)))
  (AC (AZ (ID fh fm fq CZ (pv 5) (AA (MN.call hr AD (AA (BI CK (pv 2) (pv 6) (λ_ _=>rfl)) (AA (pv 6) (AA (pv 8) (AA (pv 9) (AA (WD (MV hr) (pv 4) (pv 9) (λ_ _=>rfl)) AF)))))) AF))))))))
  (AC (AJ (QK (t:=gS (B6 (NX K (BO 0) "begin") (B6 (NX K (BO 0) "height") (B6 (NX K (BO 0) "course") EK)))) hso (by rfl) (hr.mono (by decide)) (pv 5) BB CH rfl kO kN (λ_ _ _ _ _=>rfl)
  (λ_ _ _ _ _ _ _=>E2 (AA (L9 K (pv 0)) (AA (L9 K (pv 0)) (AA (L9 K (pv 0)) AF)))))))))))),?_⟩
 and_intros
 obtain⟨as,a1,a2⟩:=id L;have la:as.length=ps.length:=cg a2;generalize hgg:CF fr co ba=g at k;have Nsm:=N.sm;rw[hgg] at Nsm;refine⟨V.ref al,rfl,al,ps,rfl,L,N.len,λH1 ua s1 nu hu=>?_⟩;refine⟨V.ref ia,rfl,V.ref al,rfl,ia,af,ac,ab,al,fr,co,ba,ps,rfl,I.kp (Same.kp s1),L.same s1,N,λH2 d ds s2 S2 hds hdl=>?_⟩;rw[hgg] at S2;obtain⟨Au,DX,PX⟩:=S2.ex;obtain⟨bs,eb,pb⟩:=WH PX;refine⟨V.ref d,rfl,d,Au,rfl,DX,λv nv=>?_⟩;have sv:Same H2 (upd H2 v (O6 v d)):=Same.upd nv;refine⟨v,d,Au,rfl,upd_same,DX.same sv,λl nl=>?_⟩;have sl:Same H2 (upd (upd H2 v (O6 v d)) l (.lst (Au.map (·.2)))):=sv.trans (Same.upd nl);refine⟨l,ds.map g,rfl,⟨bs,by rw[upd_same,eb],AR pb λ_ _ q=>sl.tup q⟩,λx hx=>?_,by rw[ai];omega,λH3 hd s3 D3=>?_⟩
 ·obtain⟨s0,h1,rfl⟩:=kh.mp hx;obtain⟨q,h2,h3⟩:=(hds s0).mp h1;exact Nsm q h2 s0 h3
 have s23:Same H2 H3:=sl.trans s3;have s03:Same H H3:=(s1.trans s2).trans s23;have ndR:(rise (ds.map g)).Nodup:=OY v9;refine⟨by rw[bw];show 0<=16777216;decide,λna nn=>?_⟩;have tot:∀i,(CW 0 0 (ps.take i)).length<=7168:=λi=>by
  have h1:=NT (ps.take i) 0 0 λq hq=>N.few q (mh hq);have h2:(ps.take i).length<=512:=by rw[df];have:=N.len;omega
  omega
 refine⟨V.ref al,rfl,al,_,rfl,SqL.of (by rw[AE (AG (s03 _ _ a1) nn)];exact s03 _ _ a1),GM (n:=ps.length) (λi σ H'=>(Ex4 λr6 r7 r8 r9=>σ=[some (.ref ia),some (.ref al),some (.ref ua),some (.ref d),some (.ref hd),some (.ref na),r6,r7,r8,r9])/\Same H3 H'/\NotesA K CN g (hgt g ds) H' na (CW 0 0 (ps.take i)))
  ⟨⟨_,_,_,_,rfl⟩,Same.upd nn,[],upd_same,.nil⟩ ?_ ?_ ?_ ?_⟩
 ·rintro i σ H' hi ⟨_,s4,_⟩;exact⟨_,.ref (as[i]'(by omega)),SqL.of (s4 _ _ (s03 _ _ a1)),by rw[az,am (by omega)];rfl⟩
 ·rintro σ H' ⟨_,s4,_⟩;exact⟨_,SqL.of (s4 _ _ (s03 _ _ a1)),by rw[ai,la];exact au _⟩
 ·rintro i v' σ H5 H6 hi ⟨⟨r6,r7,r8,r9,rfl⟩,s5,A5⟩ ⟨T',xv,rfl,nT,rfl,hxv⟩;have hxv':=hxv _ (SqL.of (s5 _ _ (s03 _ _ a1)));rw[az] at hxv';cases ea:as[i]? with
  |none=>rw[ea] at hxv';cases hxv'
  |some x=>
   rw[ea] at hxv';cases hxv';obtain⟨p,hp,dl,sa,_,hx,Ls⟩:=BD a2 ea;obtain⟨n,st⟩:=p;have hq:(n,st)∈ps:=bz hp;have Aw:i<ps.length:=hi;have s6:Same H5 (upd H5 T' (.tup [.int (i:Nat),.ref x])):=Same.upd nT;have s36:Same H3 (upd H5 T' (.tup [.int (i:Nat),.ref x])):=s5.trans s6;have s06:=s03.trans s36;obtain⟨ds2,b1,b2⟩:=id (LT.same Ls s06);have lb:ds2.length=st.length:=by rw[cg b2,ai]
   have few:st.length<=14:=N.few _ hq;refine⟨T',_,rfl,SqT.of upd_same,rfl,_,_,rfl,_,_,rfl,rfl,?_⟩;have nsa:sa≠na:=by
    have:=LT.same Ls s03;obtain⟨cs,c1,_⟩:=this;exact AG c1 nn
   refine⟨V.ref x,rfl,x,CL,dl,_,_,rfl,s06 _ _ hx,TL.cl,TL.ns,VZ _ _,sa,rfl,⟨_,SqL.of b1⟩,DD (K:=K) (a:=sa) (xs:=ds2.map V.ref) (λj σ H'=>(Ex2 λr8 r9=>σ=[some (.ref ia),some (.ref al),some (.ref ua),some (.ref d),some (.ref hd),some (.ref na),some (.int (i:Nat)),some (.ref x),r8,r9])/\(∀b o,(upd H5 T' (.tup [.int (i:Nat),.ref x])) b=some o->b≠na->H' b=some o)/\NotesA K CN g (hgt g ds) H' na (CW 0 0 (ps.take i)++(st.take j).map λ(s:Stop)=>(⟨i,uL ps i,uL ps i+n,s⟩:Sk)))
    ⟨⟨_,_,rfl⟩,λb o e _=>e,by simpa using A5.st s6.st⟩ ?_ ?_ ?_⟩
   ·rintro j σ H' _ ⟨_,s7,_⟩;exact SqL.of (s7 _ _ b1 nsa)
   ·rintro j y σ H7 hj ⟨⟨r8,r9,rfl⟩,s7,A7⟩
    and_intros
    rw[az] at hj;cases ej:ds2[j]? with
    |none=>rw[ej] at hj;cases hj
    |some b=>
     rw[ej] at hj;cases hj;obtain⟨q,hq2,hb⟩:=BD b2 ej;rw[az] at hq2;cases es':st[j]? with
     |none=>rw[es'] at hq2;cases hq2
     |some s0=>
      rw[es'] at hq2;cases hq2;have hs0:s0∈st:=bz es';have s37:Same H3 H7:=λc o e=>s7 c o (s36 _ _ e) (AG e nn);have s27:=s23.trans s37;obtain⟨xs7,c1,c2⟩:=id A7;have hb0:SqT K H7 b ((sL s0).map V.int):=by
       rcases hb with(q|⟨o,q⟩)|q
       ·refine .inl (.inl (s7 _ _ q λz=>?_));obtain⟨w5,w1,_⟩:=id A5;have w2:=s6 _ _ w1;rw[z,w2] at q;cases q
       ·refine .inl (.inr ⟨o,s7 _ _ q λz=>?_⟩);obtain⟨w5,w1,_⟩:=id A5;have w2:=s6 _ _ w1;rw[z,w2] at q;cases q
       ·exact .inr q
      obtain⟨c0,hv,hc0⟩:=QO PX s0 ((hds s0).mpr ⟨_,hq,hs0⟩);refine⟨V.ref d,rfl,V.ref b,rfl,d,b,Au,sL s0,_,rfl,rfl,DX.same s27,hb0,hv,?_⟩;have hin:g s0∈rise (ds.map g):=rise_mem.mpr (qj ((hds s0).mpr ⟨_,hq,hs0⟩));have hrk:=bM ndR (n:=(rise (ds.map g)).length) (au _) (oy hin);refine⟨V.ref na,rfl,.inl ⟨rfl,_,SqL.of c1⟩,V.ref ua,rfl,V.int (i:Nat),rfl,ua,_,_,_,rfl,rfl,SqL.of (((s2.trans s23).trans s37) _ _ hu),DH (v:=V.int ((uL ps i:Nat):Int)) (by rw[az,tQ (by omega)];rfl),V.int (i:Nat),rfl,V.ref b,rfl,V.ref c0,rfl,V.ref hd,rfl,V.ref c0,rfl,hd,c0,_,g s0,_,rfl,rfl,D3.same s37,s27.tup hc0,hrk,λxN dN nx nd hne=>?_⟩;have k7:∀b' o',H7 b'=some o'->(upd (upd H7 dN (.own xN)) xN (.ins CN dN [])) b'=some o':=λb' o' e=>by rw[AE (AG e nx),AE (AG e nd)];exact e
      refine⟨xN,dN,b,c0,_,_,_,s0,rfl,upd_same,Same.tup k7 hb0,λH8 h8 s8=>⟨rfl,?_⟩⟩;have s78:Same H7 H8:=BT nx nd s8 Sb.refl;have c18:=s78 _ _ c1;have lx:xs7.length=(CW 0 0 (ps.take i)).length+j:=by
       rw[cg c2,bq,ai,df];have:=(aw.mp es').1;omega
      have:=tot i;have hj':=(aw.mp es').1;refine⟨na,_,_,rfl,rfl,c18,(by rw[ai,lx,bw];omega),⟨_,_,rfl⟩,λb' o' e n'=>by rw[AE n'];exact s78 _ _ (s7 _ _ e n'),xs7++[xN],by rw[upd_same,du];rfl,?_⟩;rw[dk,es',wI,du, ←uE];exact cf.app (AR c2 λ_ _ q=>(q.st s78.st).lst c18) (.cons (NoteA.lst ⟨dN,c0,h8,s78.tup (s27.tup hc0)⟩ c18) .nil)
   ·rintro σ H7 ⟨⟨r8,r9,rfl⟩,s7,A7⟩;rw[ai,lb,ff] at A7;refine⟨⟨_,_,_,_,rfl⟩,λc o e=>s7 c o (s36 _ _ e) (AG e nn),?_⟩;rw[XI hp];exact A7
 ·rintro σ H5 ⟨⟨r6,r7,r8,r9,rfl⟩,s5,A5⟩;rw[ff] at A5;obtain⟨xs5,c1,c2⟩:=id A5;have lx:xs5.length=(CW 0 0 ps).length:=cg c2;have s05:=s03.trans s5;have LM5:LmT H5 PT:=LamTbl.same s05 LM;obtain⟨tb,htb,_⟩:=id LM;have nPT:na≠PT:=cq (AG (s03 _ _ htb) nn);refine⟨V.ref na,rfl,na,xs5.map V.ref,(CW 0 0 ps).map (JT g (hgt g ds)),[],rfl,SqL.of c1,nPT,by rw[ai,ai,lx],λy hy=>?_,LM5,rfl,λj i' v' h=>by simp at h,λi' x k' hx hk H6 sb=>?_,λD H6 zs' nD sb lt pm pw=>?_⟩
  ·obtain⟨s0,_,rfl⟩:=kh.mp hy;simp[JT]
  ·rw[az] at hx hk;cases ex:xs5[i']? with
   |none=>rw[ex] at hx;cases hx
   |some xn=>
    rw[ex] at hx;cases hx;obtain⟨s0,h1,h2⟩:=BD c2 ex;rw[h1] at hk;cases hk;obtain⟨dx,ja,h3,h4⟩:=h2.st (Stt.sb sb (s05 _ _ htb));refine⟨V.ref xn,rfl,xn,CN,dx,_,_,rfl,h3,TN.cl,TN.nb,f9 _ _ _ _ _ _,V.ref xn,rfl,xn,CN,dx,_,_,rfl,h3,TN.cl,TN.nh,qM _ _ _ _ _ _,V.ref xn,rfl,xn,CN,dx,_,_,rfl,h3,TN.cl,TN.nc,gB _ _ _ _ _ _,(by rw[bw];show 3<=16777216;decide),λp hp=>⟨p,rfl,hp,rfl⟩⟩
  ·obtain⟨zs,pm2,pr⟩:=cf.perm pm (bO c2);obtain⟨as',e1,e2⟩:=WI pr;have st6:Stt H5 H6:=Stt.sb sb (s05 _ _ htb);have stD:Stt H6 (upd H6 D (.lst (zs'.map (·.2)))):=Same.st (Same.upd nD);refine k _ D zs ds ((s05.st.trans st6).trans stD) (LamTbl.same (Same.upd nD) lt) hds pm2 (gC (f:=HT.lexLt) pr pw) ⟨as',by rw[upd_same,e1],AR e2 λ_ _ q=>(q.st st6).st stD⟩
end
open PySem PySem.Spec PyProof.Rows L2
structure LmF (K:aa) (mg:Str->Option ah) (f:ag) (fd:ez) (c PT:ag):Prop where
 m:mg "notes_in_order"=some (.ref f)
 F:FunC K "notes_in_order" "notes_in_order" BM f fd c
 n:K.lookup PT=none
 h:xJ K c PT=true
theorem kP {K:aa} {mg:Str->Option ah} {c PT:ag} {oc kV doc pm ct:ah} {od an:Option ag} {osl:Array (Option ah)} (X:K.In h) (G:h.Ns dy mg) (a:tT K dy "notes_in_order"=some (some (.ref f)))
 (l:K.lookup f=some ⟨oc,od,.func (gy "notes_in_order" "notes_in_order" (DI BM) (BP BM) (AH BM) .none kV doc pm an (.ref c) ct),osl⟩) (c1:jb K (.ref c) "notes_in_order"=true) (k:eq K (.ref f)=true)
 {dd:Option ag} {vs:Array ah} {sl:Array (Option ah)} (cl:K.lookup c=some ⟨.type "code",dd,.fields vs,sl⟩) (v:vs[11]? =some (.ref PT)) (n:K.lookup PT=none) (hd:xJ K c PT=true):Ex4 λf fd c PT=>LmF K mg f fd c PT:=
 ⟨f,_,c,PT,fw X G a,⟨⟨oc,od,kV,doc,pm,an,ct,osl,rfl,l,c1⟩,k⟩,n,hd⟩
theorem kQ {K:aa} {q:bb} {mg:Str->Option ah} {c PT:ag} (KX:K.In h) (TT:TopT q mg h) (hq:((recsOf q).any λd=>d.name==("notes_in_order":Str))=true) (L:LmF K mg f fd c PT):∃c,h.TableAt c PT #[]:=by
 obtain⟨d,hd,en⟩:=u7.mp hq;have en:d.name="notes_in_order":=by simpa using en
 obtain⟨a,o,fd',c',P',h1,h2,h3,h4,h5,h6⟩:=TT.tab d hd;rw[en,L.m] at h1;cases h1;obtain⟨oc,od,kV,doc,pm,an,ct,osl,rfl,lk,_⟩:=L.F.ex;have e1:=KX _ _ lk;rw[h2] at e1;cases e1;cases h3;have ec:c'=c:=by cases h4;rfl
 subst ec;have CH:=wp KX L.h;obtain⟨o1,vs,_,_,_,_,_,_,_,g1,g2,g3,g4,_⟩:=CH;obtain⟨⟨o2,vs2,w1,w2,w3,w4⟩,w5⟩:=id h6;rw[g1] at w1;cases w1;rw[g3] at w3;cases w3;rw[g4] at w4;cases w4;exact⟨c',h6⟩
theorem qO {PT:ag} (h:H PT=some (.tbl #[])):LmT H PT:=⟨#[],h,by first|exact je|simp[TriplesOk]|decide,.inl rfl⟩
open PySem.W (Codec OpenSpec) in
theorem SG {r:OpenSpec} {k:Nat} {q:bb} {loose:List Str} {XP:(Str->Option ah)->cr->Prop} {YP:bv->cr->Prop} {d:DefRec} {K:vW->aa} {sp:aa->List ag->Sp}
 (hwell:r.wellSaid=true) (hdf:d.params.defaults=[]) (hlen:r.args.length=ps.length) (hr:Room k xf)
 (hY:∀(w:bv) (h:cr),YP w h->(K w.params).In h)
 (F:∀(w:bv) (mg:Str->Option ah) (fa:ag) (h:cr),YP w h->(K w.params).In h->h.Ns dy mg->TopT q mg h->mg d.name=some (.ref fa)->
  Ex2 λ(T:List ag) (fd:ez)=>(∀p∈T,(K w.params).lookup p=none/\∃c,h.TableAt c p #[])/\(∀(s:aj) (us:List ah),us.length=ps.length->wb s fd ⟨us,[]⟩ (ps.zip us))/\
   (∀base:cr,(K w.params).In base->base.Ns dy mg->NR mg base->FnOk r.prog w (K w.params) mg base (CX1 r.prog w) k fa fd ps (sp (K w.params) T))/\
   ∀(H:Hp) (xs:List V) (a:tI r.args),WC T H->(∀p∈T,H p=some (.tbl #[]))->yb r.args a=true->wd r.args r.asked a=true->DwAll (K w.params) H xs (sK r.args a)->
    sp (K w.params) T xs H (λv H'=>Dw (K w.params) H' v (r.ret.enc (wd r.args r.f a))) λ_ _ _=>False):
 yI q loose XP YP r d [] (λf vs=>Af f vs):=
 UJ (K:=K) (CX:=λw=>CX1 r.prog w) (sp:=λw T=>sp (K w.params) T) hwell hdf hlen hr hY F λw H s e s' ⟨_,_,_,_,_,_,_,_,_,_,_,z⟩=>z
theorem WJ:∀{f least p:Nat} {x y:Iv} {l:List UInt8},Lute.factorsAt f least x p l= .ok y->y.ok=true
 |0,least,p,x,y,l,h=>by rw[Lute.factorsAt] at h;cases h
 |f+1,least,p,x,y,l,h=>by
  rw[Lute.factorsAt] at h;split at h
  ·cases h
  ·split at h
   ·cases h
   ·split at h
    ·cases h
    ·simp only at h;split at h
     ·split at h
      ·cases h;assumption
      ·cases h
     ·split at h
      ·exact WJ h
      ·cases h
theorem kR {b:List UInt8} {x:Iv} (h:Lute.read b= .ok x):x.ok=true:=by
 unfold Lute.read at h;split at h
 ·split at h
  ·cases h;decide
  ·cases h
 ·exact WJ h
theorem UN {fine:Iv->Bool} {l u:List UInt8} {x:Iv} (h:Lute.ivLine fine p l= .ok (x,q,u)):x.ok=true:=by
 unfold Lute.ivLine at h;split at h
 ·cases h
 ·simp only at h;split at h
  ·cases h
  ·rename_i h1;split at h
   ·cases h
   ·split at h
    ·cases h
    ·cases h;exact kR h1
structure InO (t:Lute.Inst):Prop where
 f:∀x∈t.frets,x.ok=true
 c:∀x∈t.courses,x.ok=true
 b:∀x∈t.basses,x.ok=true
 s:∀x∈t.courses,Lute.soundsAll t.frets x=true
 n:t.opens.length<=14
theorem bQ {fine:Iv->Bool} {l u:List UInt8} {x:Iv} (h:Lute.ivLine fine p l= .ok (x,q,u)):fine x=true:=by
 unfold Lute.ivLine at h;split at h
 ·cases h
 ·simp only at h;split at h
  ·cases h
  ·split at h
   ·cases h
   ·rename_i hf;split at h
    ·cases h
    ·cases h;simpa using hf
theorem QP:∀{f p:Nat} {t t':Lute.Inst} {l:List UInt8},InO t->Lute.linesAt f t p l= .ok t'->InO t'
 |f,p,t,t',[],k,h=>by
  have h':Lute.linesAt f t p []=if t.courses.isEmpty=true then .error p else .ok t:=by cases f<;>rw[Lute.linesAt]
  rw[h'] at h;split at h
  ·cases h
  ·cases h;exact k
 |0,p,t,t',c::r,k,h=>by rw[Lute.linesAt] at h;cases h;simp
 |f+1,p,t,t',c::r,k,h=>by
  have sn:∀{P:Iv->Prop} {l:List Iv} {x:Iv},(∀y∈l,P y)->P x->∀y∈l++[x],P y:=λ{P l x} hl hx y hy=>by
   rcases cn.mp hy with hy|hy
   ·exact hl y hy
   ·rw[io.mp hy];exact hx
  have ln:¬Lute.COURSES<=t.opens.length->t.courses.length+t.basses.length<14:=λq=>by
   have:¬14<=(t.courses++t.basses).length:=q;rw[bq] at this;omega
  rw[Lute.linesAt] at h;split at h
  ·rename_i hc;split at h
   ·cases h
   ·split at h
    ·cases h
    ·split at h
     ·cases h
     ·rename_i h1;refine QP (t:={ t with frets:=t.frets++[_] }) ⟨sn k.f (UN h1),k.c,k.b,λx hx=>?_,k.n⟩ h;have:t.courses=[]:=List.isEmpty_iff.mp hc.2;rw[show({ t with frets:=t.frets++[_] }:Lute.Inst).courses=t.courses from rfl,this] at hx;exact absurd hx (by simp)
  ·split at h
   ·split at h
    ·cases h
    ·split at h
     ·cases h
     ·rename_i hn;split at h
      ·cases h
      ·rename_i h1;refine QP (t:={ t with courses:=t.courses++[_] }) ⟨k.f,sn k.c (UN h1),k.b,sn k.s (bQ h1),?_⟩ h;show((t.courses++[_])++t.basses).length<=14;have:=ln hn;simp;omega
   ·split at h
    ·split at h
     ·cases h
     ·split at h
      ·cases h
      ·rename_i hn;split at h
       ·cases h
       ·rename_i h1;refine QP (t:={ t with basses:=t.basses++[_] }) ⟨k.f,k.c,sn k.b (UN h1),k.s,?_⟩ h;show(t.courses++(t.basses++[_])).length<=14;have:=ln hn;simp;omega
    ·cases h
theorem WK {t:Lute.Inst} (h:Lute.readInst cs= .ok t):InO t:=by
 unfold Lute.readInst at h;split at h
 ·cases h
 ·split at h
  ·cases h
  ·split at h
   ·cases h
   ·split at h
    ·cases h
    ·exact QP ⟨by simp,by simp,by simp,by simp,by show(0:Nat)<=14;omega⟩ h
theorem InO.k {t:Lute.Inst} (h:InO t):InK t:=⟨λx hx=>(RU (h.f x hx)).1,λx hx=>(RU (h.c x hx)).1,λx hx=>(RU (h.b x hx)).1⟩
theorem O8 {t:Lute.Inst} (h:InO t) {c f:Nat} (hp:t.place c f=true):t.sounds c f=if t.courses.length<c then t.basses.getD (c - t.courses.length - 1) Lute.unison else if f=0 then t.courses.getD (c - 1) Lute.unison else(t.frets.getD (f - 1) Lute.unison).plus (t.courses.getD (c - 1) Lute.unison):=by
 unfold Lute.Inst.place at hp;simp at hp;obtain⟨h1,h2,h3⟩:=hp;unfold Lute.Inst.sounds;unfold Lute.Inst.opens at h2 ⊢;rw[bq] at h2;unfold Lute.Inst.many at h3;by_cases hc:t.courses.length<c
 ·rw[Ax hc];rw[Ay (by omega)] at h3;have hf:f=0:=by omega
  subst hf;have e1:(t.courses++t.basses).getD (c - 1) Lute.unison=t.basses.getD (c - t.courses.length - 1) Lute.unison:=by
   rw[bj,bj,ue (by omega)];congr 2;omega
  rw[e1];unfold Lute.Inst.fret;rw[Ax rfl];refine VT ?_;rw[bj,am (show c - t.courses.length - 1<t.basses.length by omega)];exact RU (h.b _ (jh _))
 ·rw[Ay hc];rw[Ax (by omega)] at h3;have e1:(t.courses++t.basses).getD (c - 1) Lute.unison=t.courses.getD (c - 1) Lute.unison:=by
   rw[bj,bj,uu (by omega)]
  rw[e1];unfold Lute.Inst.fret;by_cases hf:f=0
  ·subst hf;rw[Ax rfl,Ax rfl];refine VT ?_;rw[bj,am (show c - 1<t.courses.length by omega)];exact RU (h.c _ (jh _))
  ·rw[Ay hf,Ay hf];exact HV _ _
theorem XZ {t:Lute.Inst} (h:InO t) {c f:Nat} (hp:t.place c f=true):(t.sounds c f).ok=true:=by
 rw[O8 h hp];unfold Lute.Inst.place at hp;simp at hp;obtain⟨h1,h2,h3⟩:=hp;unfold Lute.Inst.opens at h2;rw[bq] at h2;unfold Lute.Inst.many at h3;split
 ·rw[bj,am (by omega)];exact h.b _ (jh _)
 ·rw[Ax (by omega)] at h3;have hc:t.courses.getD (c - 1) Lute.unison∈t.courses:=by
   rw[bj,am (by omega)];exact jh _
  split
  ·exact h.c _ hc
  ·have hf:t.frets.getD (f - 1) Lute.unison∈t.frets:=by
    rw[bj,am (by omega)];exact jh _
   rw[HV];exact ko.mp (h.s _ hc) _ hf
end Lt
end
section
namespace L2
open PySem PySem.Spec PyProof.Rows
theorem kT {X:Cx}:Out X (λ_ _ _=>False):=λ_ _ _ _ _ _ _ _ _ _ z=>z.elim
theorem SH {X:Cx} (K:aa) (h:X.K=K:=by rfl):IxR X (gX K):=h▸CK
theorem eL {X:Cx} {es:List Expr} {k:Nat} {t:TGs} {pos:Pos} (K:aa) (n:Nat) (hc:X.calm=true) (h:PGs X es t) (hK:X.K=K:=by rfl) (hn:(rc es X.env).length=n:=by rfl) (hst:(rc es X.env).findIdx? (·.1)=none:=by rfl):PG X (.Tuple es k pos) (lK K n t):=hK▸IJ hc h hn hst
end L2
namespace Lt
open PySem PySem.Spec PyProof.Rows L2
variable {f a C CR CT r ta CI CL CN:ag} {fd:ez} {X:Cx} {x:List Int} {i n e p q:Nat} {pos:Pos} {z dz fz:Str} {xs:List V} {H H' H1:Hp} {E:XK} {cs t ci ct:List UInt8} {α β:Type} {Q:VK} {ls fr co ba:List (List Int)} {P:bb} {w:bv} {h:cr} {ps:List Str}
def qP (K:aa) (CL CN:ag):Sp:=λvs H Q _=>Ex7 λ(g:Stop->List Int) (hg:List Int->Nat) (xn al:ag) (s:Sk) (ps:List Ln) (ring:Nat)=>vs=[.ref xn,.ref al,.int (ring:Nat)]/\NoteA K CN g hg H xn s/\LnsA K CL H al ps/\s.line<ps.length/\ps.length<=512/\
 Q (.int ((mEL ring ps s.line s.halt_.course:Nat):Int)) H
theorem kU (n:Int) (sa:ag):(lnf n sa).lookup ("strikes":Str)=none:=Z4 _ _ (by decide +kernel) (by decide +kernel)
theorem X0 {ps:List Ln} {q:Ln} (h:ps[i]? =some q):ps.drop i=q::ps.drop (i+1):=by
 obtain⟨h1,h2⟩:=aw.mp h;rw[iq h1,h2]
section
variable {P:bb} {w:bv} {K:aa} {mg:Str->Option ah} {base:cr} {CI CL CN:ag}
theorem gD:FnScope ["note","lines","ring","number"] ["note","lines","ring"] (AH IR):={}
theorem qQ (F:Fun K "end_line" "end_line" IR f fd) (B:Blt mg) (g0:GI mg "RING_MOMENT" 0) (g2:GI mg "RING_BAR" 2) (TL:LnC K CL) (TN:NtC K CN) (MB:Mth P w K mg base 1 CL "is_bar" ["self"] (Z5 CL)) (MS:Mth P w K mg base 1 CL "strikes" ["self","course"] (bD K CL)):
 FnOk P w K mg base (CX1 P w) 2 f fd ["note","lines","ring"] (qP K CL CN):=by
 refine F.okx gD λAv A outer s H vs Q E hr h=>?_;obtain⟨g,hg,xn,al,st,ps,ring,rfl,N,L,Aw,hl,k⟩:=h;refine⟨_,(AB (AX (AO CP (pv 2) (B0 g0) (AQ _)) (AC (AJ (BC C7 (AT (pv 0) rfl) AI))) AM)
  (AB (B5 bo rfl (WS (by rfl) B.range (AA (BC C7 (AT (pv 0) rfl) AI) (AA (AY AN (by rfl) B.len cu (AA (pv 1) AF)) AF))) (DT 3 gD)
  (AB (AX (GJ (AO CP (pv 2) (B0 g2) (AQ _)) (EU (C5 (MB.call0 (BI CK (pv 1) (pv 3) (λ_ _=>rfl)) hr AD)))).pt (AC (AJ (pv 3))) AM)
  (AC (AX (C5 (MS.call (BI CK (pv 1) (pv 3) (λ_ _=>rfl)) hr AD (AA (AT (pv 0) rfl) AF))) (AC (AJ (pv 3))) AM))))
  (AC (AJ (AY AN (by rfl) B.len cu (AA (pv 1) AF)))))),?_⟩
 and_intros
 obtain⟨dx,ia,n1,n2⟩:=id N;obtain⟨as,a1,a2⟩:=id L;have la:as.length=ps.length:=cg a2;unfold mEL at k;refine⟨_,rfl,rfl,_,rfl,B9 (λh0=>?_) (λh0=>?_)⟩
 ·have e0:ring=0:=by
   have q:=of_decide_eq_true h0;injection q with q;omega
  rw[Ax e0] at k;exact⟨_,rfl,xn,CN,dx,_,_,rfl,n1,TN.cl,TN.nl,gA _ _ _ _ _ _,_,_,rfl,rfl,k⟩
 ·have e0:¬ring=0:=λq=>h0 (decide_eq_true (by rw[q];rfl));rw[Ay e0] at k;have en:(((as.map V.ref).length:Int) - (((st.line:Nat):Int)+1)).toNat=ps.length - (st.line+1):=by rw[ai,la];omega
  refine⟨_,rfl,xn,CN,dx,_,_,rfl,n1,TN.cl,TN.nl,gA _ _ _ _ _ _,_,_,rfl,rfl,V.ref al,rfl,al,_,rfl,.inl (SqL.of a1),_,_,rfl,⟨by omega,by omega,by omega,by rw[ai,la];omega⟩,?_⟩;rw[en];refine WU (λj σ H'=>(∃r3,σ=[some (.ref xn),some (.ref al),some (.int (ring:Nat)),r3])/\H=H'/\j<=ps.length - (st.line+1)/\EY ring st.halt_.course (ps.drop (st.line+1))=j+EY ring st.halt_.course (ps.drop (st.line+1+j))) ⟨⟨none,rfl⟩,rfl,by omega,by simp⟩ ?_ ?_
  ·rintro j σ H' hj ⟨⟨r3,rfl⟩,rfl,hj2,em⟩
   and_intros
   have hm:st.line+1+j<as.length:=by omega
   obtain⟨q,hq,dl,sa,_,hx,Ls⟩:=BD a2 (am hm);obtain⟨n,l⟩:=q;rw[X0 hq,EY] at em;have ei:((st.line:Nat):Int)+1+((j:Nat):Int)=((st.line+1+j:Nat):Int):=by omega
   have eat:atI (as.map V.ref) (((st.line:Nat):Int)+1+((j:Nat):Int))=some (V.ref as[st.line+1+j]):=by
    rw[ei];exact DH (by rw[az,am hm];rfl)
   have done:((ring=2/\n=0)\/IX st.halt_.course l=true)->Q (V.int (((st.line:Nat):Int)+1+((j:Nat):Int))) H:=λhy=>by
    rw[Ax hy] at em;rw[em] at k;rw[ei];exact k
   have hit:¬(ring=2/\n=0)->(SL (tB (QX CL "strikes" (bD K CL) [] E (tOp (gX K) (BO 1) (BO 3)) (B6 (NX K (BO 0) "course") EK))) (QU (BO 3)) UO)
    { nx:=λσ H'=>(∃r3,σ=[some (.ref xn),some (.ref al),some (.int (ring:Nat)),r3])/\H=H'/\j+1<=ps.length - (st.line+1)/\EY ring st.halt_.course (ps.drop (st.line+1))=j+1+EY ring st.halt_.course (ps.drop (st.line+1+(j+1))),rt:=Q,ct:=λσ H'=>(∃r3,σ=[some (.ref xn),some (.ref al),some (.int (ring:Nat)),r3])/\H=H'/\j+1<=ps.length - (st.line+1)/\EY ring st.halt_.course (ps.drop (st.line+1))=j+1+EY ring st.halt_.course (ps.drop (st.line+1+(j+1))),bk:=λσ H=>(QU (tCB (λxs H Q=>Ex2 λp ys=>xs=[V.ref p]/\(SqL K H p ys\/SqT K H p ys)/\Q (.int ys.length) H) (B6 (BO 1) EK))) { nx:=λ_ H'=>Q .non H',rt:=Q } σ H }
    [some (.ref xn),some (.ref al),some (.int (ring:Nat)),some (.int (((st.line:Nat):Int)+1+((j:Nat):Int)))] H:=λhno=>by
    refine⟨_,rfl,_,rfl,al,_,_,_,rfl,rfl,SqL.of a1,eat,_,dl,_,rfl,hx,kU _ _,_,rfl,xn,CN,dx,_,_,rfl,n1,TN.cl,TN.nc,gB _ _ _ _ _ _,_,dl,sa,n,st.halt_.course,l,rfl,hx,Ls,_,rfl,?_⟩;cases hh:IX st.halt_.course l with
    |true=>exact BQ ⟨_,rfl,done (.inr hh)⟩
    |false=>
     rw[Ay (by rintro (q|q);exact hno q;rw[hh] at q;cases q)] at em;exact BH ⟨⟨_,rfl⟩,rfl,by omega,by rw[em,show st.line+1+(j+1)=st.line+1+j+1 by omega];omega⟩
   refine⟨_,rfl,rfl,_,rfl,?_⟩;by_cases h2:ring=2
   ·rw[show decide (V.int ((ring:Nat):Int)=V.int 2)=true from decide_eq_true (by rw[h2];rfl)];refine BQ ⟨_,rfl,_,rfl,al,_,_,_,rfl,rfl,SqL.of a1,eat,_,dl,_,rfl,hx,Z9 _ _,_,dl,sa,(n:Nat),rfl,hx,_,rfl,?_⟩;by_cases hn:n=0
    ·rw[show decide (((n:Nat):Int)=0)=true from decide_eq_true (by omega)];exact BQ ⟨_,rfl,done (.inl ⟨h2,hn⟩)⟩
    ·rw[show decide (((n:Nat):Int)=0)=false from decide_eq_false (by omega)];exact BH (hit λq=>hn q.2)
   ·rw[show decide (V.int ((ring:Nat):Int)=V.int 2)=false from decide_eq_false λq=>h2 (by injection q with q;omega)];exact BH (BH (hit λq=>h2 q.1))
  ·rintro σ H' ⟨⟨r3,rfl⟩,rfl,_,em⟩;have ed:ps.drop (st.line+1+(ps.length - (st.line+1)))=[]:=List.drop_eq_nil_of_le (by omega);rw[ed,EY] at em;refine⟨_,rfl,al,_,rfl,.inl (SqL.of a1),?_⟩;rw[em] at k;rw[ai,la];rw[show st.line+1+(ps.length - (st.line+1)+0)=ps.length by omega] at k;exact k
end
open PySem PySem.Spec PyProof.Rows L2
section
variable {P:bb} {w:bv} {K:aa} {mg:Str->Option ah} {base:cr}
theorem LQ:FnScope ["self"] ["self"] (AH C9):={}
theorem LR {fR:ag} {fdR:ez} (F:Fun K "__init__" "NoSuchChoice.__init__" C9 f fd) (R:RfI P w K mg base CR fR fdR) (xc:XCls K C) (na:NoAttr K C "answer"):FnOkU P w K mg base (CX1 P w) 2 f fd ["self"] (KC C (-1)):=by
 refine F.oku LQ λAv A outer s H vs Q E hr h=>?_;obtain⟨a,rfl,ea,k⟩:=h;refine⟨_,AC (AZ (JE (mc:=.type "type") (by rfl) R.mgR R.sp R.rd R.fc R.kp R.ok hr R.bd out_cxU.passes (AA (pv 0) (AA (GY E0 AI) AF)))),?_⟩
 subst_eqs
 exact⟨_,rfl,_,rfl,a,C, -1,rfl,ea,xc,na,λH' hb'=>k H' hb'⟩
end
open PySem PySem.Spec PyProof.Rows L2
def qR (K:aa) (CL CN:ag):Sp:=λvs H Q _=>Ex7 λ(g:Stop->List Int) (hg:List Int->Nat) (na al:ag) (zs:List Sk) (ps:List Ln) (ring:Nat)=>vs=[.ref na,.ref al,.int (ring:Nat)]/\NotesA K CN g hg H na zs/\LnsA K CL H al ps/\(∀s∈zs,s.line<ps.length)/\ps.length<=512/\zs.length<=100000/\
 (ring<=2)/\∀H' a,Same H H'->H a=none->H' a=some (.lst (zs.map λs=>V.int ((uL ps (mEL ring ps s.line s.halt_.course):Nat):Int)))->Q (.ref a) H'
theorem kW {ring line c:Nat} {ps:List Ln} (h:line<ps.length):mEL ring ps line c<=ps.length:=by
 unfold mEL;split
 ·omega
 ·have:=V6 ring c (ps.drop (line+1));rw[fx] at this;omega
def bR (C1:ag):Sp:=λvs H Q E=>∃(ring:Int),vs=[.int ring]/\(if 2<ring then E (.ref C1) none (xH [("answer",.int (-1))]) else Q .non H)
def bS (P:bb) (w:bv) (K:aa) (CM CN PT:ag) (H:Hp) (Q:VK) (E:XK) (fr co ba:List (List Int)) (ps:List Ln):Option (Nat×Nat)->Prop
 |some (l,c)=>E (.ref CM) none (xH (mfs (l:Nat) (c:Nat)))
 |none=>NoteP fr co ba ps/\∀H' a zs ds,Stt H H'->LmT H' PT->(∀s,s∈ds↔∃q∈ps,s∈q.2)->zs.Perm (CW 0 0 ps)->zs.Pairwise (λa b=>HT.lexLt (JT (CF fr co ba) (hgt (CF fr co ba) ds) b) (JT (CF fr co ba) (hgt (CF fr co ba) ds) a)=false)->NotesA K CN (CF fr co ba) (hgt (CF fr co ba) ds) H' a zs->Q (.ref a) H'
def qS (P:bb) (w:bv) (K:aa) (CI CL CB CM CN PT:ag):Sp:=λvs H Q E=>Ex3 λ(x:ag) (s:St3) (ps:List Ln)=>vs=[.ref x]/\TbA K CI CL CB H x s ps/\LmT H PT/\bS P w K CM CN PT H Q E s.1 s.2.1 s.2.2 ps (EI (plc s.1 s.2.1 s.2.2) 0 ps)
section
variable {P:bb} {w:bv} {K:aa} {mg:Str->Option ah} {base:cr} {CI CL CN CB CM PT:ag}
theorem sc_es:FnScope ["notes","lines","ring","units","note"] ["notes","lines","ring"] (AH GD):={}
theorem kX:BlkOk ["notes","lines","ring","units","note"] (AH GD) (JI (rhs ((BP GD).getD 1 (.Pass ⟨0,0,0,0⟩)))) [("note",4)]:={}
theorem qT (F:Fun K "ends_of" "ends_of" GD f fd) (D1:Def P w K mg base 1 "beginnings" ["lines"] (bC K CL)) (D2:Def P w K mg base 2 "end_line" ["note","lines","ring"] (qP K CL CN)):FnOk P w K mg base (CX1 P w) 3 f fd ["notes","lines","ring"] (qR K CL CN):=by
 refine F.okx sc_es λAv A outer s H vs Q E hr h=>?_;obtain⟨g,hg,na,al,zs,ps,ring,rfl,N,L,Aw,hl,hz,hrg,k⟩:=h;refine⟨_,(AB (AW 3 sc_es (D1.call hr AD (AA (pv 1) AF)))
  (AC (AJ (S8 (own:=[("note",4)]) rfl sc_es.nd (DG (pv 0)) kX (λ_ _ _ _ _=>DT 4 sc_es) (λ_ _ _ _ _=>PM)
  (λ_ _ _ _ _=>BI (SH K) (pv 3) (D2.call hr kT (AA (pv 4) (AA (pv 1) (AA (pv 2) AF)))) (λ_ _=>rfl)))))),?_⟩
 and_intros
 refine⟨V.ref al,rfl,al,ps,rfl,L,hl,λH1 ua s1 nu hu=>?_⟩;obtain⟨as,a1,a2⟩:=id N;have la:as.length=zs.length:=cg a2;have a11:=s1 _ _ a1;refine⟨V.ref na,rfl,na,rfl,⟨_,SqL.of a11⟩,λD nD=>PQ (n:=zs.length) (λi H'=>H'=upd H1 D (.lst ((zs.take i).map λs=>V.int ((uL ps (mEL ring ps s.line s.halt_.course):Nat):Int)))) (by simp) (λi H' hi e=>?_) (λH' e=>?_) ?_ ?_⟩
 ·subst e;exact⟨_,.ref (as[i]'(by omega)),SqL.of (by rw[AE (AG a11 nD)];exact a11),by rw[az,am (by omega)];rfl⟩
 ·subst e;exact⟨_,SqL.of (by rw[AE (AG a11 nD)];exact a11),by rw[ai,la];exact au _⟩
 ·rintro i v H2 H3 hi rfl ⟨rfl,hy⟩;have s2:Same H1 (upd H1 D (.lst ((zs.take i).map λs=>V.int ((uL ps (mEL ring ps s.line s.halt_.course):Nat):Int)))):=Same.upd nD;have hv:=hy _ (SqL.of (s2 _ _ a11));rw[az] at hv;cases ea:as[i]? with
  |none=>rw[ea] at hv;cases hv
  |some x=>
   rw[ea] at hv;cases hv;obtain⟨st,hst,nt⟩:=BD a2 ea;have hs:=Aw st (bz hst);have hle:=kW (ring:=ring) (c:=st.halt_.course) hs;refine⟨rfl,?_⟩;refine⟨V.ref ua,rfl,V.ref x,rfl,V.ref al,rfl,V.int (ring:Nat),rfl,g,hg,x,al,st,ps,ring,rfl,nt.st (s1.trans s2).st,L.same (s1.trans s2),hs,hl,?_⟩;refine⟨ua,_,_,_,rfl,rfl,SqL.of (s2 _ _ hu),DH (v:=V.int ((uL ps (mEL ring ps st.line st.halt_.course):Nat):Int)) (by rw[az,tQ (by omega)];rfl),_,upd_same,?_,?_⟩
   ·rw[ai,df,bw];omega
   ·funext b;by_cases hb:b=D
    ·subst hb;rw[upd_same,upd_same,dk,hst,du];rfl
    ·rw[AE hb,AE hb,AE hb]
 ·rintro H2 rfl;rw[ff];exact k _ D (s1.trans (Same.upd nD)) (s1.free nD) upd_same
theorem eN:FnScope ["ring"] ["ring"] (AH GR):={}
theorem eO {C1:ag} (F:Fun K "check_ring" "check_ring" GR f fd) (g2:GI mg "MOST_RING" 2) (X1:XMr P w K mg base 2 C1 "NoSuchChoice" ["self"] (KC C1 (-1))):FnOk P w K mg base (CX1 P w) 4 f fd ["ring"] (bR C1):=by
 refine F.okx eN λAv A outer s H vs Q E hr h=>?_;obtain⟨ring,rfl,k⟩:=h;refine⟨_,(AC (AX (AO E1 (pv 0) (B0 g2) (AQ _)) (AC (JF AD rfl (X1.call0 hr.u AD))) AM)),?_⟩
 subst_eqs
 refine⟨_,rfl,_,_,rfl,rfl,_,rfl,B9 (λh0=>?_) (λh0=>?_)⟩
 ·rw[Ax (of_decide_eq_true h0)] at k;exact⟨by show 0<=100;decide,λa ha=>⟨a,rfl,upd_same,λH4 ⟨⟨d,dn,d0,e1,e2⟩,_⟩=>⟨rfl,a,C1,_,rfl,⟨d,dn,e1,e2⟩,X1.2.1,k⟩⟩⟩
 ·rw[Ay (λq=>h0 (decide_eq_true q))] at k;exact k
theorem qU:FnScope ["tablature"] ["tablature"] (AH EQ):={}
theorem qV (F:Fun K "fitting_notes" "fitting_notes" EQ f fd) (T:TbC K CB) (D1:Def P w K mg base 4 "check_fit" ["instrument","lines"] (fO K CI CL CM)) (D2:Def P w K mg base 6 "notes_in_order" ["instrument","lines"] (kM P w K CI CL CN PT)):
 FnOk P w K mg base (CX1 P w) 7 f fd ["tablature"] (qS P w K CI CL CB CM CN PT):=by
 refine F.okx qU λAv A outer s H vs Q E hr h=>?_;obtain⟨x,⟨fr,co,ba⟩,ps,rfl,⟨⟨dx,ia,af,ac,ab,al,h1,I,L⟩,le⟩,LM,k⟩:=h;refine⟨_,(AB (AZ (D1.call hr AD (AA (AT (pv 0) rfl) (AA (AT (pv 0) rfl) AF))))
  (AC (AJ (D2.call hr AD (AA (AT (pv 0) rfl) (AA (AT (pv 0) rfl) AF)))))),?_⟩
 and_intros
 refine⟨_,rfl,x,CB,dx,_,_,rfl,h1,T.cl,T.ni,fP _ _,_,rfl,x,CB,dx,_,_,rfl,h1,T.cl,T.nl,aB _ _,ia,af,ac,ab,al,fr,co,ba,ps,rfl,I,L,?_⟩;cases hm:EI (plc fr co ba) 0 ps with
 |some y=>
  obtain⟨l,c⟩:=y;have k:bS P w K CM CN PT H Q E fr co ba ps (EI (plc fr co ba) 0 ps):=k;rw[hm] at k;exact k
 |none=>
  have k:bS P w K CM CN PT H Q E fr co ba ps (EI (plc fr co ba) 0 ps):=k;rw[hm] at k;intro H1 s1;have h11:=s1 _ _ h1;exact⟨_,rfl,x,CB,dx,_,_,rfl,h11,T.cl,T.ni,fP _ _,_,rfl,x,CB,dx,_,_,rfl,h11,T.cl,T.nl,aB _ _,ia,af,ac,ab,al,fr,co,ba,ps,rfl,I.kp (Same.kp s1),L.same s1,k.1,LamTbl.same s1 LM,λH' a zs ds st lm hds pm pw na=>k.2 H' a zs ds (s1.st.trans st) lm hds pm pw na⟩
end
open PySem PySem.Spec PyProof.Rows L2
def EbP (cl:Int->ag) (Z:List Int) (A:List Int->Prop):XK:=λv _ Hx=>Ex2 λz fs=>v= .ref (cl z)/\z∈Z/\Hx=xH fs/\fs.lookup ("answer":Str)=some (V.int z)/\A [z]
theorem ebp {cl:Int->ag} {Z:List Int} {A:List Int->Prop} {z:Int} (hz:z∈Z) (h:A [z]):Rfl cl (EbP cl Z A) z:=λ_=>⟨z,_,rfl,hz,rfl,rfl,h⟩
theorem eP {z:Int} {Z:List Int} (h:GG dz fz ci ct= .error z) (hz:∀y∈([-2, -6, -8]:List Int),y∈Z):z∈Z:=hz z (jX h)
theorem kY {K:aa} {cl:Int->ag} {Z:List Int} {A:List Int->Prop} {C':ag} {fs:List (Str×V)} {cx:Option ag} {σ':L2.St} {j:Nat} {D:Ends} (RC:RfC K CR cl Z) (eb:EbP cl Z A (.ref C') cx (xH fs)) (hl:j<σ'.length)
 (k:∀ans,A ans->∀H' l,H' l=some (.lst (ans.map V.int))->D.rt (.ref l) H') (tr:TH):
 VC K CR j (λ_=>QU (gT (B6 (VB K (BO j) "answer") EK))) tr a C' fs cx D σ' H1:=by
 obtain⟨z,fs',ev,hz,ex,el,ha⟩:=eb;have eC:C'=cl z:=by injection ev
 have efs:fs=fs':=YX ex;subst efs eC;exact⟨true,RC.r z hz,λ_ H2 n2=>dM (D:={ nx:=λ_ _=>False,rt:=D.rt }) hl n2 (RC.x z hz) (RC.a z hz) el (ans:=[z]) rfl (k [z] ha),λq=>by cases q⟩
structure NtsP (s:St3) (ps:List Ln) (zs:List Sk) (ds:List Stop):Prop where
 hd:∀x,x∈ds↔∃q∈ps,x∈q.2
 pm:zs.Perm (CW 0 0 ps)
 pw:zs.Pairwise (λa b=>HT.lexLt (JT (CF s.1 s.2.1 s.2.2) (hgt (CF s.1 s.2.1 s.2.2) ds) b) (JT (CF s.1 s.2.1 s.2.2) (hgt (CF s.1 s.2.1 s.2.2) ds) a)=false)
def KQ (dz fz:Str) (ring:Int) (ci ct:List UInt8) (R:St3->List Ln->List Sk->List Stop->List Int->Prop) (ans:List Int):Prop:=match GG dz fz ci ct with
 | .error z=>ans=[z]
 | .ok (s,ps)=>if 2<ring then ans=[-1] else match EI (plc s.1 s.2.1 s.2.2) 0 ps with
   |some _=>ans=[-3]
   |none=>Ex2 λzs ds=>NtsP s ps zs ds/\R s ps zs ds ans
theorem kZ {ring:Int} {R:St3->List Ln->List Sk->List Stop->List Int->Prop} {z:Int} (h:GG dz fz ci ct= .error z):KQ dz fz ring ci ct R [z]:=by unfold KQ;rw[h]
theorem k6 {ring:Int} {R:St3->List Ln->List Sk->List Stop->List Int->Prop} {s:St3} {ps:List Ln} (h:GG dz fz ci ct= .ok (s,ps)) (hr:2<ring):KQ dz fz ring ci ct R [-1]:=by unfold KQ;simp only[h];rw[Ax hr];exact je
theorem k8 {ring:Int} {R:St3->List Ln->List Sk->List Stop->List Int->Prop} {s:St3} {ps:List Ln} {y:Nat×Nat} (h:GG dz fz ci ct= .ok (s,ps)) (hr:¬2<ring) (hm:EI (plc s.1 s.2.1 s.2.2) 0 ps=some y):KQ dz fz ring ci ct R [-3]:=by unfold KQ;simp only[h];rw[Ay hr];simp only[hm]
theorem k9 {ring:Int} {R:St3->List Ln->List Sk->List Stop->List Int->Prop} {s:St3} {ps:List Ln} {zs:List Sk} {ds:List Stop} {ans:List Int} (h:GG dz fz ci ct= .ok (s,ps)) (hr:¬2<ring) (hm:EI (plc s.1 s.2.1 s.2.2) 0 ps=none) (n:NtsP s ps zs ds) (r:R s ps zs ds ans):KQ dz fz ring ci ct R ans:=by
 unfold KQ;simp only[h];rw[Ay hr];simp only[hm];exact⟨zs,ds,n,r⟩
def TxP (dz fz:Str) (ci ct:List UInt8):Prop:=∀s ps,GG dz fz ci ct= .ok (s,ps)->EI (plc s.1 s.2.1 s.2.2) 0 ps=none->NoteP s.1 s.2.1 s.2.2 ps
theorem bT {ps:List Ln} {zs:List Sk} (pm:zs.Perm (CW 0 0 ps)) {s:Sk} (h:s∈zs):s.line<ps.length:=(XE (pm.mem_iff.mp h)).lt
theorem eQ {ps:List Ln} {zs:List Sk} (pm:zs.Perm (CW 0 0 ps)) (few:∀q∈ps,q.2.length<=14) (hl:ps.length<=512):zs.length<=7168:=by
 have:=NT ps 0 0 few;rw[pm.length_eq];omega
def RoL (l:List Int):Prop:=∃x:Iv,Lw x/\l=ro x
theorem bU:Ord BG RoL where
 irr:=λ_ ⟨x,h,e⟩=>by rw[e,K9 x x h.1 h.1];exact lt_irrefl h.1
 tr:=λ_ _ _ ⟨x,h1,e1⟩ ⟨y,h2,e2⟩ ⟨z,h3,e3⟩ q1 q2=>by
  rw[e1,e2,K9 x y h1.1 h2.1] at q1;rw[e2,e3,K9 y z h2.1 h3.1] at q2;rw[e1,e3,K9 x z h1.1 h3.1];exact lt_trans h1.1 h2.1 h3.1 q1 q2
 tot:=λ_ _ ⟨x,h1,e1⟩ ⟨y,h2,e2⟩ q1 q2=>by
  rw[e1,e2,K9 x y h1.1 h2.1] at q1;rw[e1,e2,K9 y x h2.1 h1.1] at q2;rw[e1,e2,RT h1 h2 q1 q2]
theorem bV {t:Lute.Inst} (h:InO t) {s:Stop} (hp:t.place s.course s.fret=true):CF (fr3 t).1 (fr3 t).2.1 (fr3 t).2.2 s=ro (t.sounds s.course s.fret):=by
 rw[O8 h hp];show CF (t.frets.map ro) (t.courses.map ro) (t.basses.map ro) s=_;unfold Lute.Inst.place at hp;simp at hp;obtain⟨h1,h2,h3⟩:=hp;unfold Lute.Inst.opens at h2;rw[bq] at h2;unfold Lute.Inst.many at h3;have gd:∀(l:List Iv) (i:Nat),i<l.length->(l.map ro).getD i []=ro (l.getD i Lute.unison):=λl i hi=>by
  rw[bj,bj,az,am hi];rfl
 unfold CF;rw[ai];by_cases hc:t.courses.length<s.course
 ·rw[Ax hc,Ax hc];exact gd _ _ (by omega)
 ·rw[Ay hc,Ay hc];rw[Ax (by omega)] at h3;by_cases hf:s.fret=0
  ·rw[Ax hf,Ax hf];exact gd _ _ (by omega)
  ·rw[Ay hf,Ay hf,gd _ _ (by omega),gd _ _ (by omega),aL]
theorem qW {x:Iv} (h:x.ok=true):Sm (ro x):=by
 unfold Lute.Iv.ok at h;simp only[km,decide_eq_true_eq] at h;obtain⟨h1,h2,h3,h4,h5,h6,_⟩:=h;rw[NN,decide_eq_true_eq] at h1 h2 h3 h4;have h6:x.d<=24:=h6;refine⟨rfl,λk hk=>?_,?_,?_⟩
 ·match k,hk with
  |0,_=>exact h1
  |1,_=>exact h2
  |2,_=>exact h3
  |3,_=>exact h4
 ·show(1:Int)<=(x.d:Int);omega
 ·show(x.d:Int)<=24;omega
theorem QQ {t:Lute.Inst} {p:LuteTab.Piece} (k:PcK (p.map B8)):EI (plc (fr3 t).1 (fr3 t).2.1 (fr3 t).2.2) 0 (p.map B8)=none↔LuteSound.fits t p=true:=by
 rw[d9 k];unfold LuteSound.misfit LuteSound.fits;rw[ko];cases h:(LuteSound.struck p).find? λs=>!LuteSound.fitsStop t s.halt_ with
 |none=>
  refine⟨λ_ s hs=>?_,λ_=>rfl⟩;have:=kx.mp h s hs;simpa using this
 |some s=>
  refine⟨λq=>(by cases q),λq=>?_⟩;have h1:=q s (uv h);have h2:=x5 h;rw[h1] at h2;cases h2
theorem SI {t:Lute.Inst} {p:LuteTab.Piece} (h:LuteSound.fits t p=true) {s:Sk} (hs:s∈LuteSound.struck p):t.place s.halt_.course s.halt_.fret=true:=ko.mp h s hs
theorem LB {p:LuteTab.Piece} {q:Ln} {s:Stop} (hq:q∈p.map B8) (hs:s∈q.2):∃x∈LuteSound.struck p,x.halt_=s:=by
 obtain⟨i,hi⟩:=ma hq;refine⟨⟨i,uL (p.map B8) i,uL (p.map B8) (i+1),s⟩,?_,rfl⟩;unfold LuteSound.struck;rw[←FP];exact mem_mStr.mpr ⟨i,q,by simp,hi,hs,by simp,by simp⟩
theorem SJ:∀{l:List Stop} (a b:Nat),Z1 l->(∀s∈l,a<=s.course/\s.course<=b)->l.length+a<=b+1\/l=[]
 |[],_,_,_,_=>.inr rfl
 |s::r,a,b,h,hb=>by
  obtain⟨h1,h2⟩:=ge.mp h;have hs:=hb s bc;rcases SJ (s.course+1) b h2 (λx hx=>⟨h1 x hx,(hb x (aq _ hx)).2⟩) with q|q
  ·left;rw[dc];omega
  ·left;rw[q];simp;omega
theorem qX {t:Lute.Inst} {p:LuteTab.Piece} (hi:InO t) (k:PcK (p.map B8)) (hf:LuteSound.fits t p=true) (hl:(p.map B8).length<=512):NoteP (fr3 t).1 (fr3 t).2.1 (fr3 t).2.2 (p.map B8):=by
 have pl:∀q∈p.map B8,∀s∈q.2,t.place s.course s.fret=true:=λq hq s hs=>by
  obtain⟨x,hx,e⟩:=LB hq hs;have:=SI hf hx;rw[e] at this;exact this
 refine⟨λq hq s hs=>?_,k.one,λq hq s hs=>?_,λq hq=>?_,hl⟩
 ·show plc (t.frets.map ro) (t.courses.map ro) (t.basses.map ro) s=true;rw[a5 t s (k.one q hq s hs)];exact pl q hq s hs
 ·rw[bV hi (pl q hq s hs)];exact qW (XZ hi (pl q hq s hs))
 ·have hb:∀s∈q.2,1<=s.course/\s.course<=14:=λs hs=>⟨k.one q hq s hs,?_⟩
  ·rcases SJ 1 14 (k.rise q hq) hb with h|h
   ·omega
   ·rw[h];simp
  ·have:=pl q hq s hs;unfold Lute.Inst.place at this;simp at this;have:=hi.n;omega
theorem WL {s:St3} {ps:List Ln} (h:GG dz0 fz0 ci ct= .ok (s,ps)):Ex3 λt k p=>Lute.readInst ci= .ok t/\LuteTab.read ct= .ok (k,p)/\s=fr3 t/\ps=p.map B8/\ps.length<=512:=by
 unfold GG mTb at h;split at h
 ·cases h
 ·split at h
  ·cases h
  ·rename_i hm;split at h
   ·cases h
   ·rename_i hp;cases h;have hl:=V5 hp;rw[NQ] at hm;rw[UD] at hp;cases e1:Lute.readInst ci with
    |error e=>rw[e1] at hm;cases hm
    |ok t=>
     rw[e1] at hm;cases hm;cases e2:LuteTab.read ct with
     |error e=>rw[e2] at hp;cases hp
     |ok y=>
      obtain⟨k,p⟩:=y;rw[e2] at hp;cases hp;exact⟨t,k,p,rfl,rfl,rfl,rfl,hl⟩
theorem txp (ci ct:List UInt8):TxP dz0 fz0 ci ct:=λs ps h hm=>by
 obtain⟨t,k,p,h1,h2,rfl,rfl,hl⟩:=WL h;have hk:=(UF h2).2;exact qX (WK h1) hk ((QQ hk).mp hm) hl
structure Fct (t:Lute.Inst) (p:LuteTab.Piece) (zs:List Sk) (hg:Sk->Nat):Prop where
 i:InO t
 m:dO p
 k:PcK (p.map B8)
 f:LuteSound.fits t p=true
 z:zs=LuteSound.notes t p
 h:aJ t p hg
 snd:∀s∈LuteSound.struck p,CF (fr3 t).1 (fr3 t).2.1 (fr3 t).2.2 s.halt_=ro (LuteSound.tone t s)
theorem sI (a b c a' b' c':Nat):HT.lexLt [((a:Nat):Int),((b:Nat):Int),((c:Nat):Int)] [((a':Nat):Int),((b':Nat):Int),((c':Nat):Int)]=true↔a<a'\/(a=a'/\(b<b'\/(b=b'/\c<c'))):=by
 rw[HT.lexLt_cons,HT.lexLt_cons,HT.lexLt_cons,HT.lexLt_nil_nil];by_cases h1:(a:Int)=a'
 ·rw[Ax h1];by_cases h2:(b:Int)=b'
  ·rw[Ax h2];by_cases h3:(c:Int)=c'
   ·rw[Ax h3];simp;omega
   ·rw[Ay h3,decide_eq_true_eq];omega
  ·rw[Ay h2,decide_eq_true_eq];omega
 ·rw[Ay h1,decide_eq_true_eq];omega
theorem lA {t:Lute.Inst} {kd:LuteTab.Kind} {p:LuteTab.Piece} {zs:List Sk} {ds:List Stop} (h1:Lute.readInst ci= .ok t) (h2:LuteTab.read ct= .ok (kd,p)) (hf:LuteSound.fits t p=true) (n:NtsP (fr3 t) (p.map B8) zs ds):
 Fct t p zs λs=>hgt (CF (fr3 t).1 (fr3 t).2.1 (fr3 t).2.2) ds (CF (fr3 t).1 (fr3 t).2.1 (fr3 t).2.2 s.halt_):=by
 have hi:=WK h1;obtain⟨hm,hk⟩:=UF h2;have snd:∀s∈LuteSound.struck p,CF (fr3 t).1 (fr3 t).2.1 (fr3 t).2.2 s.halt_=ro (LuteSound.tone t s):=λs hs=>bV hi (SI hf hs);have hg:aJ t p λs=>hgt (CF (fr3 t).1 (fr3 t).2.1 (fr3 t).2.2) ds (CF (fr3 t).1 (fr3 t).2.1 (fr3 t).2.2 s.halt_):=by
  have hR:∀y∈ds.map (CF (fr3 t).1 (fr3 t).2.1 (fr3 t).2.2),RoL y:=λy hy=>by
   obtain⟨s,hs,rfl⟩:=kh.mp hy;obtain⟨q,hq,hs⟩:=(n.hd s).mp hs;obtain⟨x,hx,rfl⟩:=LB hq hs;exact⟨_,DJ hi.k x,snd x hx⟩
  obtain⟨r1,r2⟩:=aF (d:=[]) bU hR;have mem:∀s∈LuteSound.struck p,CF (fr3 t).1 (fr3 t).2.1 (fr3 t).2.2 s.halt_∈rise (ds.map (CF (fr3 t).1 (fr3 t).2.1 (fr3 t).2.2)):=λs hs=>by
   refine(r1 _).mpr (qj ((n.hd _).mpr ?_));have hs:=hs;unfold LuteSound.struck at hs;rw[←FP] at hs;obtain⟨q,q1,q2⟩:=(XE hs).q;exact⟨q,bz q1,q2⟩
  intro a ha b hb;unfold hgt;have:=jY bU (λy hy=>hR y ((r1 y).mp hy)) r2 (mem a ha) (mem b hb);rw[show(rise (ds.map (CF (fr3 t).1 (fr3 t).2.1 (fr3 t).2.2))).idxOf _<(rise (ds.map (CF (fr3 t).1 (fr3 t).2.1 (fr3 t).2.2))).idxOf _↔_ from this,snd a ha,snd b hb,K9 _ _ (DJ hi.k a).1 (DJ hi.k b).1]
 have pm:zs.Perm (LuteSound.struck p):=by
  unfold LuteSound.struck;rw[←FP];exact n.pm
 refine⟨hi,hm,hk,hf,T9 hi.k hk hg pm (n.pw.imp λ{a b} q z=>?_),hg,snd⟩;unfold JT at q;rw[(sI _ _ _ _ _ _).mpr z] at q;cases q
theorem bW {ring:Nat} {R:St3->List Ln->List Sk->List Stop->List Int->Prop} {f:Lute.Inst->LuteTab.Piece->List Int} {ans:List Int} (ha:KQ dz0 fz0 ring ci ct R ans)
 (h:∀t p zs ds,ring<=2->Fct t p zs (λs=>hgt (CF (fr3 t).1 (fr3 t).2.1 (fr3 t).2.2) ds (CF (fr3 t).1 (fr3 t).2.1 (fr3 t).2.2 s.halt_))->NtsP (fr3 t) (p.map B8) zs ds->R (fr3 t) (p.map B8) zs ds ans->ans=f t p):ans=LuteD.fitting ci ct ring f:=by
 unfold LuteD.fitting;have e:=a6 (ci:=ci) (ct:=ct) (F:=λs ps=>ans) (f:=λx p=>if 2<ring then LuteD.says (-1) else if LuteSound.fits x p=false then LuteD.says (-3) else f x p);unfold KQ at ha;cases hm:GG dz0 fz0 ci ct with
 |error z=>
  rw[hm] at ha;have:=a6 (ci:=ci) (ct:=ct) (F:=λs ps=>match GG dz0 fz0 ci ct with| .error z=>[]| .ok (s,ps)=>[]) (f:=λx p=>if 2<ring then LuteD.says (-1) else if LuteSound.fits x p=false then LuteD.says (-3) else f x p);unfold GG mTb at hm;unfold LuteD.of;by_cases hl:4096<ci.length\/65536<ct.length
  ·rw[Ax hl] at hm;cases hm;rw[Ax (show LuteD.INST<ci.length\/LuteD.PIECE<ct.length from hl)];exact ha
  ·rw[Ay hl,NQ] at hm;rw[Ay (show¬(LuteD.INST<ci.length\/LuteD.PIECE<ct.length) from hl)];cases hi:Lute.readInst ci with
   |error e=>rw[hi] at hm;cases hm;exact ha
   |ok t=>
    rw[hi] at hm;have hp:=UD ct;cases hr:LuteTab.read ct with
    |error e=>
     rw[hr] at hp;simp only[fe,Ag,hp,d7] at hm;cases hm;exact ha
    |ok y=>
     obtain⟨k,p⟩:=y;rw[hr] at hp;simp only[fe,Ag,hp,d7] at hm;cases hm
 |ok r=>
  obtain⟨s,ps⟩:=r;simp only[hm] at ha e;obtain⟨t,k,p,h1,h2,rfl,rfl,hl⟩:=WL hm;refine e λt' k' p' g1 g2=>?_;rw[h1] at g1;cases g1;rw[h2] at g2;cases g2;by_cases hr:2<ring
  ·rw[Ax (by omega)] at ha;rw[Ax hr];exact ha
  ·rw[Ay (by omega)] at ha;rw[Ay hr];have hk:=(UF h2).2;cases hf:LuteSound.fits t p with
   |false=>
    rw[Ax rfl];cases hmm:EI (plc (fr3 t).1 (fr3 t).2.1 (fr3 t).2.2) 0 (p.map B8) with
    |none=>rw[(QQ hk).mp hmm] at hf;cases hf
    |some y=>rw[hmm] at ha;exact ha
   |true=>
    rw[Ay (by decide)];rw[(QQ hk).mpr hf] at ha;obtain⟨zs,ds,n,r⟩:=ha;exact h t p zs ds (by omega) (lA h1 h2 hf n) n r
def KR (ring n:Nat) (ps:List Ln) (s:Sk):Bool:=decide (s.begins<=n)&&decide (n<uL ps (mEL ring ps s.line s.halt_.course))
def mAt (ring n:Nat) (ps:List Ln) (zs:List Sk):List Nat:=(zs.zipIdx.filter λx=>KR ring n ps x.1).map (·.2)
theorem bX {ring:Nat} {ps:List Ln} {zs:List Sk} {s:Sk} (h:zs[i]? =some s):mAt ring n ps (zs.take (i+1))=mAt ring n ps (zs.take i)++if KR ring n ps s=true then[i] else[]:=by
 have hi:=(aw.mp h).1;unfold mAt;rw[dk,h,wI,List.zipIdx_append,List.filter_append,du,df,oe,Nat.min_eq_left (pj hi)];congr 1;cases hs:KR ring n ps s<;>simp[List.zipIdx,hs]
theorem WM (ring n:Nat) (ps:List Ln) (zs:List Sk):(mAt ring n ps zs).length<=zs.length:=by
 unfold mAt;rw[ai];refine cy (List.length_filter_le _ _) ?_;simp
def qY (K:aa) (CL CN:ag):Sp:=λvs H Q _=>Ex8 λ(g:Stop->List Int) (hg:List Int->Nat) (na al:ag) (zs:List Sk) (ps:List Ln) (ring n:Nat)=>vs=[.ref na,.ref al,.int (ring:Nat),.int (n:Nat)]/\NotesA K CN g hg H na zs/\LnsA K CL H al ps/\(∀s∈zs,s.line<ps.length)/\ps.length<=512/\zs.length<=100000/\ring<=2/\
 ∀H' a,Same H H'->H' a=some (.lst ((mAt ring n ps zs).map λk=>V.int ((k:Nat):Int)))->Q (.ref a) H'
def RAt (ring n:Nat) (_:St3) (ps:List Ln) (zs:List Sk) (_:List Stop) (ans:List Int):Prop:=ans=(((mAt ring n ps zs).length:Nat):Int)::(mAt ring n ps zs).map λk=>((k:Nat):Int)
def bY (K:aa) (PT:ag) (dz fz:Str):Sp:=λvs H Q _=>Ex6 λ(ring n:Nat) (ia ta:ag) (ci ct:List UInt8)=>vs=[.int (ring:Nat),.int (n:Nat),.ref ia,.ref ta]/\SqL K H ia (ci.map cV)/\SqL K H ta (ct.map cV)/\ct.length<=100000/\LmT H PT/\TxP dz fz ci ct/\
 ∀ans,KQ dz fz ring ci ct (RAt ring n) ans->∀H' l,H' l=some (.lst (ans.map V.int))->Q (.ref l) H'
section
variable {P:bb} {w:bv} {K:aa} {mg:Str->Option ah} {base:cr} {CI CL CN CB CR PT:ag} {cl:Int->ag} {dz fz:Str}
theorem sc_sa:FnScope ["notes","lines","ring","unit","ends","k","note"] ["notes","lines","ring","unit"] (AH DE):={}
theorem lB:BlkOk ["notes","lines","ring","unit","ends","k","note"] (AH DE) (JI (rhs ((BP DE).getD 1 (.Pass ⟨0,0,0,0⟩)))) [("k",5),("note",6)]:={}
theorem qZ (F:Fun K "sounding_at" "sounding_at" DE f fd) (B:Blt mg) (TN:NtC K CN) (D1:Def P w K mg base 3 "ends_of" ["notes","lines","ring"] (qR K CL CN)):FnOk P w K mg base (CX1 P w) 4 f fd ["notes","lines","ring","unit"] (qY K CL CN):=by
 refine F.okx sc_sa λAv A outer s H vs Q E hr h=>?_;obtain⟨g,hg,na,al,zs,ps,ring,n,rfl,N,L,Aw,hl,hz,hrg,k⟩:=h;refine⟨_,(AB (AW 4 sc_sa (D1.call hr AD (AA (pv 0) (AA (pv 1) (AA (pv 2) AF)))))
  (AC (AJ (S8 (own:=[("k",5),("note",6)]) rfl sc_sa.nd (LV (by rfl) B.enum (AA (pv 0) AF)) lB (λ_ _ _ _ _=>eL K 2 rfl (BZ (PB (i:=5) sc_sa.nd rfl (uj rfl) (hf:=xu rfl)) (BZ (PB (i:=6) sc_sa.nd rfl (uj rfl) (hf:=xu rfl)) GK)))
  (λ_ _ _ _ _=>cR (YG KZ G0 (L9 K (pv 6)) (pv 3) (BI (SH K) (pv 4) (pv 5) (λ_ _=>rfl)))) (λ_ _ _ _ _=>pv 5))))),?_⟩
 and_intros
 refine⟨V.ref na,rfl,V.ref al,rfl,V.int (ring:Nat),rfl,g,hg,na,al,zs,ps,ring,rfl,N,L,Aw,hl,hz,hrg,λH1 ea s1 ne he=>?_⟩;obtain⟨as,a1,a2⟩:=id N;have la:as.length=zs.length:=cg a2;have a11:=s1 _ _ a1;refine⟨V.ref na,rfl,na,_,rfl,SqL.of a11,λD nD=>PQ (n:=zs.length) (λi H'=>Same H1 H'/\H' D=some (.lst ((mAt ring n ps (zs.take i)).map λk=>V.int ((k:Nat):Int)))) ⟨Same.upd nD,by rw[upd_same];rfl⟩ ?_ ?_ ?_ ?_⟩
 ·rintro i H' hi ⟨s2,_⟩;exact⟨_,.ref (as[i]'(by omega)),SqL.of (s2 _ _ a11),by rw[az,am (by omega)];rfl⟩
 ·rintro H' ⟨s2,_⟩;exact⟨_,SqL.of (s2 _ _ a11),by rw[ai,la];exact au _⟩
 ·rintro i v H2 H3 hi ⟨s2,hD⟩ ⟨T',xv,rfl,nT,rfl,hxv⟩;have hxv':=hxv _ (SqL.of (s2 _ _ a11));rw[az] at hxv';cases ea':as[i]? with
  |none=>rw[ea'] at hxv';cases hxv'
  |some x=>
   rw[ea'] at hxv';cases hxv';obtain⟨st,hst,nt⟩:=BD a2 ea';have s3:Same H2 (upd H2 T' (.tup [.int (i:Nat),.ref x])):=Same.upd nT;have s13:=s2.trans s3;obtain⟨dn,ja,h2,_⟩:=nt.st (s1.trans s13).st;have hD3:=s3 _ _ hD;refine⟨T',_,rfl,SqT.of upd_same,rfl,_,_,rfl,_,_,rfl,rfl,rfl,?_⟩;have eon:=bX (ring:=ring) (n:=n) (ps:=ps) hst;have hml:=WM ring n ps (zs.take i);rw[df] at hml;refine⟨_,rfl,x,CN,dn,_,_,rfl,h2,TN.cl,TN.nb,f9 _ _ _ _ _ _,V.int (n:Nat),rfl,_,_,rfl,rfl,_,rfl,?_⟩;by_cases h1:st.begins<=n
   ·rw[show decide (((st.begins:Nat):Int)<=((n:Nat):Int))=true from decide_eq_true (by omega)];refine BQ ⟨V.ref ea,rfl,V.int (i:Nat),rfl,ea,_,_,_,rfl,rfl,SqL.of (s13 _ _ he),DH (v:=V.int ((uL ps (mEL ring ps st.line st.halt_.course):Nat):Int)) (by rw[az,hst];rfl),_,_,rfl,rfl,_,rfl,?_⟩;by_cases h2:n<uL ps (mEL ring ps st.line st.halt_.course)
    ·rw[show decide (((n:Nat):Int)<((uL ps (mEL ring ps st.line st.halt_.course):Nat):Int))=true from decide_eq_true (by omega)];have e1:KR ring n ps st=true:=by unfold KR;rw[decide_eq_true h1,decide_eq_true h2];rfl
     rw[e1,Ax rfl] at eon;refine BQ ⟨V.int (i:Nat),rfl,_,hD3,by rw[ai,bw];omega,⟨λb o e=>by rw[AE (AG e nD)];exact s13 _ _ e,by rw[upd_same,eon,du];rfl⟩⟩
    ·rw[show decide (((n:Nat):Int)<((uL ps (mEL ring ps st.line st.halt_.course):Nat):Int))=false from decide_eq_false (by omega)];have e1:KR ring n ps st=false:=by unfold KR;rw[decide_eq_true h1,decide_eq_false h2];rfl
     rw[e1,Ay (by decide),jc] at eon;exact BH ⟨s13,by rw[eon];exact hD3⟩
   ·rw[show decide (((st.begins:Nat):Int)<=((n:Nat):Int))=false from decide_eq_false (by omega)];have e1:KR ring n ps st=false:=by unfold KR;rw[decide_eq_false h1];rfl
    rw[e1,Ay (by decide),jc] at eon;exact BH ⟨_,rfl,BH ⟨s13,by rw[eon];exact hD3⟩⟩
 ·rintro H2 ⟨s2,hD⟩;rw[ff] at hD;exact k _ D (s1.trans s2) hD
theorem sc_at:FnScope ["ring","n","i","t","tablature","notes","refusal","numbers"] ["ring","n","i","t"] (AH c5):={}
theorem q0 (F:Fun K "at" "at" c5 f fd) (B:Blt mg) (T:TbC K CB) (hmR:mg "Refusal"=some (.ref CR)) (RC:RfC K CR cl [-1, -2, -3, -6, -8])
 (D1:Def P w K mg base 15 "read_tablature" ["i","t"] (dL K CI CL CB cl (GG dz fz))) (D2:Def P w K mg base 4 "check_ring" ["ring"] (bR (cl (-1)))) (D3:Def P w K mg base 7 "fitting_notes" ["tablature"] (qS P w K CI CL CB (cl (-3)) CN PT))
 (D4:Def P w K mg base 4 "sounding_at" ["notes","lines","ring","unit"] (qY K CL CN)):
 FnOk P w K mg base (CX1 P w) 16 f fd ["ring","n","i","t"] (bY K PT dz fz):=by
 refine F.okx sc_at λAv A outer s H vs Q E hr h=>?_;obtain⟨ring,n,ia,ta,ci,ct,rfl,hi,ht,hct,LM,hP,k⟩:=h;refine⟨_,(AB (S4 (Eb:=EbP cl [-1, -2, -3, -6, -8] (KQ dz fz ring ci ct (RAt ring n))) rfl rfl (λpn E' o=>(AB (AW 4 sc_at (D1.call hr o (AA (pv 2) (AA (pv 3) AF))))
  (AB (AZ (D2.call hr o (AA (pv 0) AF)))
  (AC (AW 5 sc_at (D3.call hr o (AA (pv 4) AF)))))))
  (W1 (i:=6) (by rfl) hmR sc_at.nd rfl rfl (λa E'=>(AC (AJ (DS (AA (aA K (pv 6)) AF))))) S1))
  (AB (AW 7 sc_at (D4.call hr AD (AA (pv 5) (AA (AT (pv 4) rfl) (AA (pv 0) (AA (pv 1) AF))))))
  (AC (AJ (BC g8 (DS (AA (AY AN (by rfl) B.len cu (AA (pv 7) AF)) AF)) (pv 7)))))),?_⟩
 and_intros
 refine⟨⟨V.ref ia,rfl,V.ref ta,rfl,ia,ta,ci,ct,rfl,hi,ht,hct,?_⟩,λa C' fs cx σ' H1 nt eb hl=>kY RC eb (by rw[hl];show 6<8;decide) k _⟩;cases hm:GG dz fz ci ct with
 |error z=>exact ebp (eP hm (by simp)) (kZ hm)
 |ok r=>
  obtain⟨st,ps⟩:=r;intro H1 x s1 TB;refine⟨_,rfl,_,rfl,?_⟩;by_cases hr2:(2:Int)<((ring:Nat):Int)
  ·rw[Ax hr2];exact ebp (by simp) (k6 hm hr2) _
  ·rw[Ay hr2];refine⟨_,rfl,x,st,ps,rfl,TB,LamTbl.same s1 LM,?_⟩;cases hf:EI (plc st.1 st.2.1 st.2.2) 0 ps with
   |some y=>
    obtain⟨l,c⟩:=y;exact⟨-3,_,rfl,by simp,rfl,rfl,k8 hm hr2 hf⟩
   |none=>
    have NP:=hP st ps hm hf;refine⟨NP,λH2 na zs ds st2 LM2 hds pm pw NA=>?_⟩;have nts:NtsP st ps zs ds:=⟨hds,pm,pw⟩
    have hzl:=eQ pm NP.few NP.len;have TB2:=TB.st st2;obtain⟨⟨dx,xa,af,ac,ab,al,h1,I1,L2⟩,le⟩:=TB2;refine⟨_,rfl,_,rfl,x,CB,dx,_,_,rfl,h1,T.cl,T.nl,aB _ _,_,rfl,_,rfl,_,_,na,al,zs,ps,ring,n,rfl,NA,L2,λs hs=>bT pm hs,le,by omega,by omega,λH3 la s3 h3=>?_⟩;have hml:=WM ring n ps zs;refine⟨_,rfl,la,_,rfl,.inl (SqL.of h3),(by rw[bw];show 1<=16777216;decide),λq hq=>?_⟩;have nql:q≠la:=cq (AG h3 hq);refine⟨_,rfl,q,la,_,_,rfl,rfl,upd_same,(by rw[AE (cq nql)];exact h3),?_,λz hz=>k _ (k9 hm hr2 hf nts rfl) _ z (by rw[upd_same,ai,cz,vt];rfl)⟩;rw[ai,bw];show 1+_<=16777216;omega
end
open PySem PySem.Spec PyProof.Rows L2
theorem gE {ps:List Ln} {p:LuteTab.Piece} {ring:Nat} (n:Nat):∀(zs:List Sk) (i:Nat),(∀s∈zs,uL ps (mEL ring ps s.line s.halt_.course)=LuteSound.ends p ring s)->
 ((zs.zipIdx i).filter λx=>KR ring n ps x.1).map (·.2)=(((zs.map λs=>(s,LuteSound.ends p ring s)).zipIdx i).filter λ(s:(Sk×Nat)×Nat)=>LuteSound.lasting n s.1).map λ(s:(Sk×Nat)×Nat)=>s.2
 |[],_,_=>rfl
 |s::r,i,h=>by
  have h0:=h s bc;have ih:=gE n r (i+1) λx hx=>h x (aq _ hx);rw[cz,xK,xK,sW,sW];have e:KR ring n ps s=LuteSound.lasting n (s,LuteSound.ends p ring s):=by
   unfold KR LuteSound.lasting;rw[h0]
  show(if KR ring n ps s=true then _ else _:List (Sk×Nat)).map _=(if LuteSound.lasting n (s,LuteSound.ends p ring s)=true then _ else _:List ((Sk×Nat)×Nat)).map _;rw[e];split
  ·rw[cz,cz,ih]
  ·exact ih
theorem lC {ring:Nat} {ans:List Int} (h:KQ dz0 fz0 ring ci ct (RAt ring n) ans):ans=LuteD.answer (.at_ ci ct ring n):=by
 refine bW h λt p zs ds hr F nn r=>?_;have e:mAt ring n (p.map B8) zs=LuteSound.atUnit t p ring n:=by
  rw[F.z];exact gE _ _ 0 λs hs=>(dP F.m F.k ((NM p).mem_iff.mp hs) hr).symm
 unfold RAt at r;rw[r,e];rfl
def GFn (K:aa) (mg:Str->Option ah) (x nm:Str) (st:dm):Prop:=∃f fd,mg x=some (.ref f)/\Fun K nm nm st f fd
def GMt (K:aa) (C:ag) (m qual:Str) (st:dm):Prop:=∃f fd,Meth K C m f/\Fun K m qual st f fd
def GMk (K:aa) (C:ag) (qual:Str) (st:dm):Prop:=∃f fd,Mk K C f/\Fun K "__init__" qual st f fd
def GXk (K:aa) (C:ag) (qual:Str) (st:dm):Prop:=∃f fd,XMk K C f/\Fun K "__init__" qual st f fd
structure Rf1 (K:aa) (mg:Str->Option ah) (CR C:ag) (x qual:Str) (st:dm):Prop where
 m:mg x=some (.ref C)
 r:my K (.ref C) (.ref CR)=some true
 x:XCls K C
 a:NoAttr K C "answer"
 i:GXk K C qual st
theorem eR {K:aa} {cl:Int->ag}:RfC K CR cl []:=⟨λ_ h=>(nomatch h),λ_ h=>(nomatch h),λ_ h=>(nomatch h)⟩
theorem HQ {K:aa} {mg:Str->Option ah} {cl:Int->ag} {z:Int} {Z:List Int} {x q:Str} {st:dm} (h:Rf1 K mg CR (cl z) x q st) (r:RfC K CR cl Z):RfC K CR cl (z::Z):=
 ⟨λy hy=>(bp.mp hy).elim (λe=>e▸h.r) (r.r y),λy hy=>(bp.mp hy).elim (λe=>e▸h.x) (r.x y),λy hy=>(bp.mp hy).elim (λe=>e▸h.a) (r.a y)⟩
structure TxF (K:aa) (mg:Str->Option ah):Prop where
 common_factor:GFn K mg "common_factor" "common_factor" EL
 common_factor_of_all:GFn K mg "common_factor_of_all" "common_factor_of_all" CA
 is_interval:GFn K mg "is_interval" "is_interval" FS
 upon:GFn K mg "upon" "upon" IP
 raised:GFn K mg "raised" "raised" M6
 narrower:GFn K mg "narrower" "narrower" IQ
 place_among:GFn K mg "place_among" "place_among" FT
 ranks:GFn K mg "ranks" "ranks" PV
 sign_number:GFn K mg "sign_number" "sign_number" FV
 read_interval:GFn K mg "read_interval" "read_interval" EM
 read_unison:GFn K mg "read_unison" "read_unison" F1
 read_factors:GFn K mg "read_factors" "read_factors" E8
 power_of_factor:GFn K mg "power_of_factor" "power_of_factor" DU
 read_power:GFn K mg "read_power" "read_power" GN
 read_signed:GFn K mg "read_signed" "read_signed" F2
 read_instrument:GFn K mg "read_instrument" "read_instrument" DW
 read_length_instruments:GFn K mg "read_length_instruments" "read_length" BW
 read_line_instruments:GFn K mg "read_line_instruments" "read_line" B7
 read_fret:GFn K mg "read_fret" "read_fret" G7
 read_course:GFn K mg "read_course" "read_course" F3
 read_bass:GFn K mg "read_bass" "read_bass" G8
 skip_word:GFn K mg "skip_word" "skip_word" G9
 read_rest:GFn K mg "read_rest" "read_rest" HA
 check_fit:GFn K mg "check_fit" "check_fit" HC
 beginnings:GFn K mg "beginnings" "beginnings" GO
 sounds_of:GFn K mg "sounds_of" "sounds_of" HD
 end_line:GFn K mg "end_line" "end_line" IR
 ends_of:GFn K mg "ends_of" "ends_of" GD
 read_french_stops:GFn K mg "read_french_stops" "read_french_stops" DB
 read_italian_stops:GFn K mg "read_italian_stops" "read_italian_stops" CS
 read_german_stops:GFn K mg "read_german_stops" "read_german_stops" DC
 read_neck:GFn K mg "read_neck" "read_neck" HE
 add_stop:GFn K mg "add_stop" "add_stop" IS
 read_french_bass:GFn K mg "read_french_bass" "read_french_bass" DM
 read_bass_number:GFn K mg "read_bass_number" "read_bass_number" DN
 read_german_stop:GFn K mg "read_german_stop" "read_german_stop" DO
 read_crossing:GFn K mg "read_crossing" "read_crossing" EN
 read_piece:GFn K mg "read_piece" "read_piece" GP
 read_kind:GFn K mg "read_kind" "read_kind" HG
 read_line_pieces:GFn K mg "read_line_pieces" "read_line" DP
 read_length_pieces:GFn K mg "read_length_pieces" "read_length" CU
 read_stops:GFn K mg "read_stops" "read_stops" GQ
 sounding_at:GFn K mg "sounding_at" "sounding_at" DE
 read_tablature:GFn K mg "read_tablature" "read_tablature" EA
 tablature_of:GFn K mg "tablature_of" "tablature_of" FA
 check_sizes:GFn K mg "check_sizes" "check_sizes" F5
 instrument_of:GFn K mg "instrument_of" "instrument_of" EO
 piece_of:GFn K mg "piece_of" "piece_of" IT
 check_ring:GFn K mg "check_ring" "check_ring" GR
 fitting_notes:GFn K mg "fitting_notes" "fitting_notes" EQ
structure TxG (K:aa) (mg:Str->Option ah):Prop where
 B:Blt mg
 b_sorted:mg "sorted"=none
 WIDEST_POWER:GI mg "WIDEST_POWER" 99
 FINEST_PART:GI mg "FINEST_PART" 24
 NO_BYTE:GI mg "NO_BYTE" 256
 MOST_DIGITS:GI mg "MOST_DIGITS" ((4:Nat):Int)
 LEAST_LENGTH:GI mg "LEAST_LENGTH" 10000
 GREATEST_LENGTH:GI mg "GREATEST_LENGTH" 200000
 LENGTH_DIGITS:GI mg "LENGTH_DIGITS" ((7:Nat):Int)
 MOST_FRETS:GI mg "MOST_FRETS" 15
 MOST_STRINGS:GI mg "MOST_STRINGS" 14
 LINE_FEED:GI mg "LINE_FEED" 10
 RING_MOMENT:GI mg "RING_MOMENT" 0
 RING_BAR:GI mg "RING_BAR" 2
 NECK_COURSES:GI mg "NECK_COURSES" 6
 FIRST_BASS:GI mg "FIRST_BASS" 7
 MOST_CROSSING_BYTES:GI mg "MOST_CROSSING_BYTES" 3
 MOST_LINES:GI mg "MOST_LINES" 512
 FRENCH:GI mg "FRENCH" 0
 ITALIAN:GI mg "ITALIAN" 1
 MOST_INSTRUMENT_BYTES:GI mg "MOST_INSTRUMENT_BYTES" 4096
 MOST_PIECE_BYTES:GI mg "MOST_PIECE_BYTES" 65536
 MOST_RING:GI mg "MOST_RING" 2
 DIGITS:GS mg "DIGITS" dz0
 FACTORS:GS mg "FACTORS" fz0
 FRENCH_FRETS:GS mg "FRENCH_FRETS" zF
 FRENCH_LOWEST:GS mg "FRENCH_LOWEST" "4567"
 ITALIAN_FRETS:GS mg "ITALIAN_FRETS" zI
 GERMAN_UNSTOPPED:GS mg "GERMAN_UNSTOPPED" "54321"
 GERMAN_SIXTH:GS mg "GERMAN_SIXTH" zP
 GERMAN_CROSSINGS:GS mg "GERMAN_CROSSINGS" zX
 LENGTH_SIGNS:GS mg "LENGTH_SIGNS" zL
 PRIMES:GT K mg "PRIMES" (prm.map V.int)
 UNISON:GT K mg "UNISON" (un5.map V.int)
 LENGTHS:GT K mg "LENGTHS" (lens.map V.int)
 KIND_WORDS:GT K mg "KIND_WORDS" (kws.map V.str)
structure TxR (K:aa) (mg:Str->Option ah) (C:ag):Prop where
 m:mg "Reader"=some (.ref C)
 T:RdC K C
 i:GMk K C "Reader.__init__" FW
 en:GMt K C "ended" "Reader.ended" E7
 by_:GMt K C "byte" "Reader.byte" FX
 se:GMt K C "sees" "Reader.sees" FY
 pi:GMt K C "pick" "Reader.pick" FZ
 sk:GMt K C "skip" "Reader.skip" F0
 wn:GMt K C "whole_number" "Reader.whole_number" CJ
structure TxI (K:aa) (mg:Str->Option ah) (C:ag):Prop where
 m:mg "Instrument"=some (.ref C)
 T:InC K C
 i:GMk K C "Instrument.__init__" DV
 sc:GMt K C "string_count" "Instrument.string_count" BV
 hp:GMt K C "has_place" "Instrument.has_place" CC
 so:GMt K C "sound" "Instrument.sound" DL
structure TxL (K:aa) (mg:Str->Option ah) (C:ag):Prop where
 m:mg "Line"=some (.ref C)
 T:LnC K C
 i:GMk K C "Line.__init__" HF
 ib:GMt K C "is_bar" "Line.is_bar" F4
 st:GMt K C "strikes" "Line.strikes" E9
structure TxB_ (K:aa) (mg:Str->Option ah) (C:ag):Prop where
 m:mg "Tablature"=some (.ref C)
 T:TbC K C
 i:GMk K C "Tablature.__init__" D9
structure TxN (K:aa) (mg:Str->Option ah) (C:ag):Prop where
 m:mg "Note"=some (.ref C)
 T:NtC K C
 i:GMk K C "Note.__init__" HB
structure TxX (K:aa) (mg:Str->Option ah) (CT CR C1 C2 C3 C6 C8:ag):Prop where
 mT:mg "TextFault"=some (.ref CT)
 mR:mg "Refusal"=some (.ref CR)
 xT:XCls K CT
 aT:NoAttr K CT "place"
 eT:my K (.ref CT) (.ref CT)=some true
 iT:GXk K CT "TextFault.__init__" D8
 r1:Rf1 K mg CR C1 "NoSuchChoice" "NoSuchChoice.__init__" C9
 r2:Rf1 K mg CR C2 "TooLong" "TooLong.__init__" E5
 r3:Rf1 K mg CR C3 "Misfit" "Misfit.__init__" FU
 r6:Rf1 K mg CR C6 "NoInstrument" "NoInstrument.__init__" DA
 r8:Rf1 K mg CR C8 "NoPiece" "NoPiece.__init__" E6
 lm:NoAttr K C3 "line"
 cm:NoAttr K C3 "course"
 sp:uA K (.ref CR) "__getattribute__"=some (some (.builtin "type.__getattribute__"))
 rd:vz K CR (.type "type")=true
 fc:∃f fd,qz K (.ref CR) (.type "type") "__init__"=some (.val (.ref f))/\Fun K "__init__" "Refusal.__init__" E4 f fd
section
variable {P:bb} {w:bv} {K:aa} {mg:Str->Option ah} {base:cr}
abbrev Bd (x qual:Str) (st:dm) (ps:List Str):Prop:=∀(kV doc pm:ah) (an:Option ag) (Av ct:ah) (us:List ah),us.length=ps.length->vP (gy x qual (DI st) (BP st) (AH st) .none kV doc pm an Av ct) ⟨us,[]⟩=pure (ps.zip us)
theorem AS {k:Nat} {x nm:Str} {st:dm} {sp:Sp} (h:GFn K mg x nm st) (hb:Bd nm nm st ps) (ok:∀f fd,Fun K nm nm st f fd->FnOk P w K mg base (CX1 P w) k f fd ps sp):Def P w K mg base k x ps sp:=
 let ⟨f,fd,hm,F⟩:=h;⟨f,fd,hm,F.kp,F.binds hb,ok f fd F⟩
theorem FF {k:Nat} {m qual:Str} {st:dm} {sp:Sp} (c:Cls K C) (h:GMt K C m qual st) (hb:Bd m qual st ps) (ok:∀f fd,Fun K m qual st f fd->FnOk P w K mg base (CX1 P w) k f fd ps sp):Mth P w K mg base k C m ps sp:=
 let ⟨f,fd,hm,F⟩:=h;⟨c,f,fd,hm,F.binds hb,ok f fd F⟩
theorem NU {k:Nat} {x qual:Str} {st:dm} {sp:Sp} (hx:mg x=some (.ref C)) (h:GMk K C qual st) (hb:Bd "__init__" qual st ps) (ok:∀f fd,Fun K "__init__" qual st f fd->FnOk P w K mg base (CX1 P w) k f fd ps sp):Mkr P w K mg base k C x ps sp:=
 let ⟨f,fd,hm,F⟩:=h;⟨hx,f,fd,hm,F.binds hb,ok f fd F⟩
theorem KS {k:Nat} {x qual:Str} {st:dm} {sp:Sp} (hx:mg x=some (.ref C)) (c:XCls K C) (h:GXk K C qual st) (hb:Bd "__init__" qual st ps) (ok:∀f fd,Fun K "__init__" qual st f fd->FnOkU P w K mg base (CX1 P w) k f fd ps sp):XMr P w K mg base k C x ps sp:=
 let ⟨f,fd,hm,F⟩:=h;⟨hx,c,f,fd,hm,F.binds hb,ok f fd F⟩
theorem lD {CR0 CB C1 C2 C3 C6 C8 fN cN PT:ag} {fdN:ez} (F:TxF K mg) (G:TxG K mg) (R:TxR K mg CR0) (I:TxI K mg CI) (L:TxL K mg CL) (B_:TxB_ K mg CB) (N:TxN K mg CN) (X:TxX K mg CT CR C1 C2 C3 C6 C8) (LN:LmF K mg fN fdN cN PT) (BB:NR mg base) (CH:uq base cN PT) (Ff:Fun K "at" "at" c5 f fd):
 FnOk P w K mg base (CX1 P w) 16 f fd ["ring","n","i","t"] (bY K PT dz0 fz0):=by
 have B:=G.B;have d_cf:=AS (P:=P) (w:=w) (base:=base) F.common_factor (λ_ _ _ _ _ _ us hl=>match us,hl with|[_,_],_=>rfl) λf fd h=>mH h B;have d_cfa:=AS (P:=P) (w:=w) (base:=base) F.common_factor_of_all (λ_ _ _ _ _ _ us hl=>match us,hl with|[_],_=>rfl) λf fd h=>iF h d_cf;have d_ii:=AS (P:=P) (w:=w) (base:=base) F.is_interval (λ_ _ _ _ _ _ us hl=>match us,hl with|[_],_=>rfl) λf fd h=>mI h B G.WIDEST_POWER G.FINEST_PART d_cfa;have d_up:=AS (P:=P) (w:=w) (base:=base) F.upon (λ_ _ _ _ _ _ us hl=>match us,hl with|[_,_],_=>rfl) λf fd h=>mL h B d_cfa;have d_ra:=AS (P:=P) (w:=w) (base:=base) F.raised (λ_ _ _ _ _ _ us hl=>match us,hl with|[_,_],_=>rfl) λf fd h=>mN h;have d_nr:=AS (P:=P) (w:=w) (base:=base) F.narrower (λ_ _ _ _ _ _ us hl=>match us,hl with|[_,_],_=>rfl) λf fd h=>mO h B G.PRIMES d_ra;have X1:TFm P w K mg base CT:=KS X.mT X.xT X.iT (λ_ _ _ _ _ _ us hl=>match us,hl with|[_,_],_=>rfl) λf fd h=>mU h X.xT X.aT;obtain⟨fR,fdR,hfR,FR⟩:=X.fc;have RI:RfI P w K mg base CR fR fdR:=⟨X.mR,X.sp,X.rd,hfR,FR.kp,FR.binds (λ_ _ _ _ _ _ us hl=>match us,hl with|[_,_],_=>rfl),mW FR⟩
 have XM:XMr P w K mg base 2 C3 "Misfit" ["self","line","course"] (iH C3):=KS X.r3.m X.r3.x X.r3.i (λ_ _ _ _ _ _ us hl=>match us,hl with|[_,_,_],_=>rfl) λf fd h=>mY h RI X.r3.x X.r3.a X.lm X.cm;have X1_:XMr P w K mg base 2 C1 "NoSuchChoice" ["self"] (KC C1 (-1)):=KS X.r1.m X.r1.x X.r1.i (λ_ _ _ _ _ _ us hl=>match us,hl with|[_],_=>rfl) λf fd h=>LR h RI X.r1.x X.r1.a;have X2:XMr P w K mg base 2 C2 "TooLong" ["self"] (KC C2 (-2)):=KS X.r2.m X.r2.x X.r2.i (λ_ _ _ _ _ _ us hl=>match us,hl with|[_],_=>rfl) λf fd h=>TD h RI X.r2.x X.r2.a;have X6:XMr P w K mg base 2 C6 "NoInstrument" ["self"] (KC C6 (-6)):=KS X.r6.m X.r6.x X.r6.i (λ_ _ _ _ _ _ us hl=>match us,hl with|[_],_=>rfl) λf fd h=>LI h RI X.r6.x X.r6.a;have X8:XMr P w K mg base 2 C8 "NoPiece" ["self"] (KC C8 (-8)):=KS X.r8.m X.r8.x X.r8.i (λ_ _ _ _ _ _ us hl=>match us,hl with|[_],_=>rfl) λf fd h=>TJ h RI X.r8.x X.r8.a;have d_sn:=AS (P:=P) (w:=w) (base:=base) F.sign_number (λ_ _ _ _ _ _ us hl=>match us,hl with|[_,_],_=>rfl) λf fd h=>mZ h B;have m_en:=FF (P:=P) (w:=w) (mg:=mg) (base:=base) R.T.cl R.en (λ_ _ _ _ _ _ us hl=>match us,hl with|[_],_=>rfl) λf fd h=>nE h R.T;have m_by:=FF (P:=P) (w:=w) (mg:=mg) (base:=base) R.T.cl R.by_ (λ_ _ _ _ _ _ us hl=>match us,hl with|[_],_=>rfl) λf fd h=>nG h R.T G.NO_BYTE m_en;have m_se:=FF (P:=P) (w:=w) (mg:=mg) (base:=base) R.T.cl R.se (λ_ _ _ _ _ _ us hl=>match us,hl with|[_,_],_=>rfl) λf fd h=>nJ h d_sn m_by;have m_pi:=FF (P:=P) (w:=w) (mg:=mg) (base:=base) R.T.cl R.pi (λ_ _ _ _ _ _ us hl=>match us,hl with|[_,_],_=>rfl) λf fd h=>nL h R.T X1 d_sn m_by;have m_sk:=FF (P:=P) (w:=w) (mg:=mg) (base:=base) R.T.cl R.sk (λ_ _ _ _ _ _ us hl=>match us,hl with|[_,_],_=>rfl) λf fd h=>nN h m_pi;have m_wn:=FF (P:=P) (w:=w) (mg:=mg) (base:=base) R.T.cl R.wn (λ_ _ _ _ _ _ us hl=>match us,hl with|[_,_],_=>rfl) λf fd h=>nO h R.T X1 G.DIGITS (oks (by decide +kernel)) m_pi m_se;have k_r:Mkr P w K mg base 1 CR0 "Reader" ["self","text","place","end"] (iJ CR0):=NU R.m R.i (λ_ _ _ _ _ _ us hl=>match us,hl with|[_,_,_,_],_=>rfl) λf fd h=>nA h R.T;have RE:RdE P w K mg base CR0 CT dz0:=⟨R.T,X1,k_r,m_en,m_by,m_se,m_pi,m_sk,m_wn⟩
 have d_un:=AS (P:=P) (w:=w) (base:=base) F.read_unison (λ_ _ _ _ _ _ us hl=>match us,hl with|[_],_=>rfl) λf fd h=>nY h RE G.UNISON;have d_sg:=AS (P:=P) (w:=w) (base:=base) F.read_signed (λ_ _ _ _ _ _ us hl=>match us,hl with|[_],_=>rfl) λf fd h=>n6 h RE G.MOST_DIGITS;have d_pw:=AS (P:=P) (w:=w) (base:=base) F.read_power (λ_ _ _ _ _ _ us hl=>match us,hl with|[_,_],_=>rfl) λf fd h=>n8 h RE G.MOST_DIGITS d_sg d_cf;have d_pf:=AS (P:=P) (w:=w) (base:=base) F.power_of_factor (λ_ _ _ _ _ _ us hl=>match us,hl with|[_,_],_=>rfl) λf fd h=>oB h B;have d_fc:=AS (P:=P) (w:=w) (base:=base) F.read_factors (λ_ _ _ _ _ _ us hl=>match us,hl with|[_],_=>rfl) λf fd h=>oC h RE G.UNISON G.FACTORS (oks (by decide +kernel)) (by decide +kernel) (by decide +kernel) d_pw d_pf d_up;have d_riv:=AS (P:=P) (w:=w) (base:=base) F.read_interval (λ_ _ _ _ _ _ us hl=>match us,hl with|[_,_,_],_=>rfl) λf fd h=>iQ h RE d_un d_fc d_ii;have d_rr:=AS (P:=P) (w:=w) (base:=base) F.read_rest (λ_ _ _ _ _ _ us hl=>match us,hl with|[_],_=>rfl) λf fd h=>oE h RE G.LINE_FEED d_riv;have d_sw:=AS (P:=P) (w:=w) (base:=base) F.skip_word (λ_ _ _ _ _ _ us hl=>match us,hl with|[_,_,_],_=>rfl) λf fd h=>oG h RE;have m_sc:=FF (P:=P) (w:=w) (mg:=mg) (base:=base) I.T.cl I.sc (λ_ _ _ _ _ _ us hl=>match us,hl with|[_],_=>rfl) λf fd h=>iY h B I.T;have m_hp:=FF (P:=P) (w:=w) (mg:=mg) (base:=base) I.T.cl I.hp (λ_ _ _ _ _ _ us hl=>match us,hl with|[_,_,_],_=>rfl) λf fd h=>oR h B I.T m_sc;have k_i:Mkr P w K mg base 1 CI "Instrument" ["self"] (ZS CI):=NU I.m I.i (λ_ _ _ _ _ _ us hl=>match us,hl with|[_],_=>rfl) λf fd h=>iW h I.T;have IE:InE P w K mg base CR0 CI CT dz0 fz0:=⟨RE,B,I.T,G.UNISON,m_sc,d_sw,d_rr,d_nr,d_ii,d_up⟩
 have d_fr:=AS (P:=P) (w:=w) (base:=base) F.read_fret (λ_ _ _ _ _ _ us hl=>match us,hl with|[_,_],_=>rfl) λf fd h=>oH h IE G.MOST_FRETS;have d_co:=AS (P:=P) (w:=w) (base:=base) F.read_course (λ_ _ _ _ _ _ us hl=>match us,hl with|[_,_],_=>rfl) λf fd h=>oI h IE G.MOST_STRINGS;have d_ba:=AS (P:=P) (w:=w) (base:=base) F.read_bass (λ_ _ _ _ _ _ us hl=>match us,hl with|[_,_],_=>rfl) λf fd h=>oK h IE G.MOST_STRINGS;have d_ln:=AS (P:=P) (w:=w) (base:=base) F.read_line_instruments (λ_ _ _ _ _ _ us hl=>match us,hl with|[_,_],_=>rfl) λf fd h=>oN h IE d_fr d_co d_ba;have d_le:=AS (P:=P) (w:=w) (base:=base) F.read_length_instruments (λ_ _ _ _ _ _ us hl=>match us,hl with|[_],_=>rfl) λf fd h=>oO h RE G.LENGTH_DIGITS G.LEAST_LENGTH G.GREATEST_LENGTH;have d_rin:=AS (P:=P) (w:=w) (base:=base) F.read_instrument (λ_ _ _ _ _ _ us hl=>match us,hl with|[_],_=>rfl) λf fd h=>i5 h IE k_i d_le d_ln;have d_add:=AS (P:=P) (w:=w) (base:=base) F.add_stop (λ_ _ _ _ _ _ us hl=>match us,hl with|[_,_,_],_=>rfl) λf fd h=>jD h B X1;have d_bn:=AS (P:=P) (w:=w) (base:=base) F.read_bass_number (λ_ _ _ _ _ _ us hl=>match us,hl with|[_],_=>rfl) λf fd h=>oU h RE G.FIRST_BASS;have d_nk:=AS (P:=P) (w:=w) (base:=base) F.read_neck (λ_ _ _ _ _ _ us hl=>match us,hl with|[_,_,_],_=>rfl) λf fd h=>oV h B RE;have d_fb:=AS (P:=P) (w:=w) (base:=base) F.read_french_bass (λ_ _ _ _ _ _ us hl=>match us,hl with|[_],_=>rfl) λf fd h=>oW h RE G.FIRST_BASS G.FRENCH_LOWEST;have d_cr:=AS (P:=P) (w:=w) (base:=base) F.read_crossing (λ_ _ _ _ _ _ us hl=>match us,hl with|[_],_=>rfl) λf fd h=>oX h RE G.MOST_CROSSING_BYTES G.GERMAN_CROSSINGS;have d_gs:=AS (P:=P) (w:=w) (base:=base) F.read_german_stop (λ_ _ _ _ _ _ us hl=>match us,hl with|[_],_=>rfl) λf fd h=>oZ h RE G.GERMAN_UNSTOPPED G.GERMAN_SIXTH G.NECK_COURSES d_bn d_cr;have d_frs:=AS (P:=P) (w:=w) (base:=base) F.read_french_stops (λ_ _ _ _ _ _ us hl=>match us,hl with|[_],_=>rfl) λf fd h=>jE h B RE G.NECK_COURSES G.FRENCH_FRETS d_nk d_fb d_add;have d_its:=AS (P:=P) (w:=w) (base:=base) F.read_italian_stops (λ_ _ _ _ _ _ us hl=>match us,hl with|[_],_=>rfl) λf fd h=>jF h B RE G.NECK_COURSES G.ITALIAN_FRETS d_nk d_bn d_add;have d_grs:=AS (P:=P) (w:=w) (base:=base) F.read_german_stops (λ_ _ _ _ _ _ us hl=>match us,hl with|[_],_=>rfl) λf fd h=>jG h RE d_gs d_add;have d_rst:=AS (P:=P) (w:=w) (base:=base) F.read_stops (λ_ _ _ _ _ _ us hl=>match us,hl with|[_,_],_=>rfl) λf fd h=>jI h G.FRENCH G.ITALIAN d_frs d_its d_grs;have m_ib:=FF (P:=P) (w:=w) (mg:=mg) (base:=base) L.T.cl L.ib (λ_ _ _ _ _ _ us hl=>match us,hl with|[_],_=>rfl) λf fd h=>o7 h L.T;have k_l:Mkr P w K mg base 1 CL "Line" ["self","length","stops"] (jJ CL):=NU L.m L.i (λ_ _ _ _ _ _ us hl=>match us,hl with|[_,_,_],_=>rfl) λf fd h=>o5 h L.T;have d_rk:=AS (P:=P) (w:=w) (base:=base) F.read_kind (λ_ _ _ _ _ _ us hl=>match us,hl with|[_],_=>rfl) λf fd h=>o8 h B RE G.KIND_WORDS;have d_rl:=AS (P:=P) (w:=w) (base:=base) F.read_length_pieces (λ_ _ _ _ _ _ us hl=>match us,hl with|[_,_],_=>rfl) λf fd h=>o9 h RE G.LENGTH_SIGNS G.LENGTHS;have d_pl:=AS (P:=P) (w:=w) (base:=base) F.read_line_pieces (λ_ _ _ _ _ _ us hl=>match us,hl with|[_,_,_],_=>rfl) λf fd h=>pC h RE k_l d_rl d_rst;have d_pc:=AS (P:=P) (w:=w) (base:=base) F.read_piece (λ_ _ _ _ _ _ us hl=>match us,hl with|[_],_=>rfl) λf fd h=>pE h B RE L.T G.MOST_LINES m_ib d_rk d_pl;have d_ck:=AS (P:=P) (w:=w) (base:=base) F.check_fit (λ_ _ _ _ _ _ us hl=>match us,hl with|[_,_],_=>rfl) λf fd h=>pH h B I.T L.T m_hp XM;have d_sz:=AS (P:=P) (w:=w) (base:=base) F.check_sizes (λ_ _ _ _ _ _ us hl=>match us,hl with|[_,_],_=>rfl) λf fd h=>pJ h B G.MOST_INSTRUMENT_BYTES G.MOST_PIECE_BYTES X2;have d_io:=AS (P:=P) (w:=w) (base:=base) F.instrument_of (λ_ _ _ _ _ _ us hl=>match us,hl with|[_],_=>rfl) λf fd h=>pP h X.mT X.eT d_rin X6;have d_po:=AS (P:=P) (w:=w) (base:=base) F.piece_of (λ_ _ _ _ _ _ us hl=>match us,hl with|[_],_=>rfl) λf fd h=>pR h X.mT X.eT d_pc X8;have k_b:Mkr P w K mg base 1 CB "Tablature" ["self","instrument","lines"] (jR CB):=NU B_.m B_.i (λ_ _ _ _ _ _ us hl=>match us,hl with|[_,_,_],_=>rfl) λf fd h=>jT h B_.T;have d_tbo:=AS (P:=P) (w:=w) (base:=base) F.tablature_of (λ_ _ _ _ _ _ us hl=>match us,hl with|[_,_],_=>rfl) λf fd h=>jU (cl:=(λz:Int=>([0,C1,C2,C3,0,0,C6,0,C8,0,0]:List ag).getD z.natAbs 0)) h k_b d_io d_po;have d_rtb:=AS (P:=P) (w:=w) (base:=base) F.read_tablature (λ_ _ _ _ _ _ us hl=>match us,hl with|[_,_],_=>rfl) λf fd h=>jW (cl:=(λz:Int=>([0,C1,C2,C3,0,0,C6,0,C8,0,0]:List ag).getD z.natAbs 0)) h d_sz d_tbo;have m_so:=FF (P:=P) (w:=w) (mg:=mg) (base:=base) I.T.cl I.so (λ_ _ _ _ _ _ us hl=>match us,hl with|[_,_,_],_=>rfl) λf fd h=>j9 h B I.T d_up;have m_st:=FF (P:=P) (w:=w) (mg:=mg) (base:=base) L.T.cl L.st (λ_ _ _ _ _ _ us hl=>match us,hl with|[_,_],_=>rfl) λf fd h=>kD h L.T;have k_n:Mkr P w K mg base 1 CN "Note" ["self","begin","line","stop","interval","height"] (j7 K CN):=NU N.m N.i (λ_ _ _ _ _ _ us hl=>match us,hl with|[_,_,_,_,_,_],_=>rfl) λf fd h=>p9 h N.T;have d_beg:=AS (P:=P) (w:=w) (base:=base) F.beginnings (λ_ _ _ _ _ _ us hl=>match us,hl with|[_],_=>rfl) λf fd h=>kC h L.T;have d_pa:=AS (P:=P) (w:=w) (base:=base) F.place_among (λ_ _ _ _ _ _ us hl=>match us,hl with|[_,_],_=>rfl) λf fd h=>qG h B d_nr;have d_rks:=AS (P:=P) (w:=w) (base:=base) F.ranks (λ_ _ _ _ _ _ us hl=>match us,hl with|[_],_=>rfl) λf fd h=>kI h B d_pa;have d_so:=AS (P:=P) (w:=w) (base:=base) F.sounds_of (λ_ _ _ _ _ _ us hl=>match us,hl with|[_,_],_=>rfl) λf fd h=>qK h I.T L.T m_so;have d_no:Def P w K mg base 6 "notes_in_order" ["instrument","lines"] (kM P w K CI CL CN PT):=⟨fN,fdN,LN.m,LN.F.kp,LN.F.toFun.binds (λ_ _ _ _ _ _ us hl=>match us,hl with|[_,_],_=>rfl),qN LN.F B G.b_sorted BB CH L.T N.T d_beg d_so d_rks k_n⟩
 have d_el:=AS (P:=P) (w:=w) (base:=base) F.end_line (λ_ _ _ _ _ _ us hl=>match us,hl with|[_,_,_],_=>rfl) λf fd h=>qQ h B G.RING_MOMENT G.RING_BAR L.T N.T m_ib m_st;have d_es:=AS (P:=P) (w:=w) (base:=base) F.ends_of (λ_ _ _ _ _ _ us hl=>match us,hl with|[_,_,_],_=>rfl) λf fd h=>qT h d_beg d_el;have d_ring:=AS (P:=P) (w:=w) (base:=base) F.check_ring (λ_ _ _ _ _ _ us hl=>match us,hl with|[_],_=>rfl) λf fd h=>eO h G.MOST_RING X1_;have d_fn:=AS (P:=P) (w:=w) (base:=base) F.fitting_notes (λ_ _ _ _ _ _ us hl=>match us,hl with|[_],_=>rfl) λf fd h=>qV h B_.T d_ck d_no;have d_sa:=AS (P:=P) (w:=w) (base:=base) F.sounding_at (λ_ _ _ _ _ _ us hl=>match us,hl with|[_,_,_,_],_=>rfl) λf fd h=>qZ h B N.T d_es;exact q0 (cl:=(λz:Int=>([0,C1,C2,C3,0,0,C6,0,C8,0,0]:List ag).getD z.natAbs 0)) Ff B B_.T X.mR (HQ X.r1 (HQ X.r2 (HQ X.r3 (HQ X.r6 (HQ X.r8 eR))))) d_rtb d_ring d_fn d_sa
end
open PySem PySem.Spec PyProof.Rows L2
section
variable {K:aa} {h:cr} {mg:Str->Option ah} {x nm m qual:Str} {st:dm} {f C:ag} {oc kV doc pm Av ct:ah} {od an:Option ag} {osl:Array (Option ah)}
theorem bZ (X:K.In h) (G:h.Ns dy mg) (a:tT K dy x=some (some (.ref f))) (l:K.lookup f=some ⟨oc,od,.func (gy nm nm (DI st) (BP st) (AH st) .none kV doc pm an Av ct),osl⟩) (c:jb K Av nm=true) (k:eq K (.ref f)=true):GFn K mg x nm st:=
 ⟨f,_,fw X G a,MU l c k⟩
theorem FG (a:ig K (.ref C) m=some (some (.ref f))) (i:qb K (.ref f)=true) (l:K.lookup f=some ⟨oc,od,.func (gy m qual (DI st) (BP st) (AH st) .none kV doc pm an Av ct),osl⟩) (c:jb K Av qual=true) (k:eq K (.ref f)=true):GMt K C m qual st:=
 ⟨f,_,⟨a,i,k⟩,MU l c k⟩
theorem NV (mk:vx K C=true) (kc:eq K (.ref C)=true) (a:ig K (.ref C) "__init__"=some (some (.ref f))) (i:qb K (.ref f)=true) (l:K.lookup f=some ⟨oc,od,.func (gy "__init__" qual (DI st) (BP st) (AH st) .none kV doc pm an Av ct),osl⟩) (c:jb K Av qual=true) (k:eq K (.ref f)=true):GMk K C qual st:=
 ⟨f,_,⟨mk,a,i,kc⟩,MU l c k⟩
theorem KU (mk:G5 K C=true) (kc:eq K (.ref C)=true) (a:ig K (.ref C) "__init__"=some (some (.ref f))) (i:qb K (.ref f)=true) (l:K.lookup f=some ⟨oc,od,.func (gy "__init__" qual (DI st) (BP st) (AH st) .none kV doc pm an Av ct),osl⟩) (c:jb K Av qual=true) (k:eq K (.ref f)=true):GXk K C qual st:=
 ⟨f,_,⟨mk,a,i,kc⟩,MU l c k⟩
theorem lE (a:qz K (.ref C) (.type "type") "__init__"=some (.val (.ref f))) (l:K.lookup f=some ⟨oc,od,.func (gy "__init__" qual (DI st) (BP st) (AH st) .none kV doc pm an Av ct),osl⟩) (c:jb K Av qual=true) (k:eq K (.ref f)=true):
 ∃f fd,qz K (.ref C) (.type "type") "__init__"=some (.val (.ref f))/\Fun K "__init__" qual st f fd:=⟨f,_,a,MU l c k⟩
theorem rA {i:Int} {t:Tok} (X:K.In h) (G:h.Ns dy mg) (a:tT K dy x=some (some (.int i t))):GI mg x i:=⟨_,fw X G a,t,rfl⟩
theorem rB {t:Tok} (X:K.In h) (G:h.Ns dy mg) (a:tT K dy x=some (some (.str z t))):GS mg x z:=⟨_,fw X G a,t,rfl⟩
theorem rC {As:Array ah} (X:K.In h) (G:h.Ns dy mg) (a:tT K dy x=some (some (.ref f))) (l:K.lookup f=some ⟨.type "tuple",od,.seq As n,osl⟩) (hz:As.size<=100) (r:Vals xs As.toList):GT K mg x xs:=
 ⟨f,fw X G a,λH=>.inr ⟨_,As,n,l,rfl,rfl,by rw[bw];omega,r⟩⟩
end
theorem b7 {l:List Int} (h:∀z∈l,0<=z/\z<=255):(LuSoundNeutral.bytes l).map cV=l.map V.int:=by
 unfold LuSoundNeutral.bytes;rw[vt];refine List.map_congr_left λz hz=>?_;have:=h z hz;show V.int (((uF z.toNat).toNat:Nat):Int)=V.int z;congr 1;rw[wE];omega
theorem inI {lo hi:Int} {l:List Int} (h:l.all (kf lo hi)=true):∀z∈l,lo<=z/\z<=hi:=λz hz=>by
 have:=ko.mp h z hz;unfold kf at this;simpa using this
theorem rD {K:aa} {pi pt PT:ag} {ring n:Int} {i t:List Int} (hT:H PT=some (.tbl #[])) (hsi:SqL K H pi (i.map V.int)) (hst:SqL K H pt (t.map V.int)) (hnring:0<=ring) (hnn:0<=n) (hii:i.all (kf 0 255)=true) (hit:t.all (kf 0 255)=true) (Aw:t.length<=66000):
 bY K PT dz0 fz0 [.int ring,.int n,.ref pi,.ref pt] H (λv H'=>Dw K H' v (.list ((PyWqaucn.at_ ring n i t).map .int))) λ_ _ _=>False:=by
 refine⟨ring.toNat,n.toNat,pi,pt,LuSoundNeutral.bytes i,LuSoundNeutral.bytes t,by rw[mv hnring,mv hnn],by rw[b7 (inI hii)];exact hsi,by rw[b7 (inI hit)];exact hst,?_,qO hT,txp _ _,λans ha H' l hl'=>?_⟩
 ·unfold LuSoundNeutral.bytes;rw[ai];omega
 ·rw[lC ha] at hl';exact .lst (SqL.of hl') (VD _)
theorem rE {lo hi x:Int} (h:kf lo hi x=true):lo<=x/\x<=hi:=by
 unfold kf at h;simpa using h
theorem eS {C:Prop} {K:aa} {mg:Str->Option ah} {q:bb} {fa:ag} (KX:K.In h) (TT:TopT q mg h) (hq:((recsOf q).any λd=>d.name==("notes_in_order":Str))=true) (hfa:mg "at"=some (.ref fa)) (a:GFn K mg "at" "at" c5) (LN:Ex4 λf fd c PT=>LmF K mg f fd c PT) (F:TxF K mg) (G':TxG K mg) (R:∃C,TxR K mg C) (I:∃C,TxI K mg C) (L:∃C,TxL K mg C) (B_:∃C,TxB_ K mg C) (N:∃C,TxN K mg C)
 (XX:∃CT CR C1 C2 C3 C6 C8,TxX K mg CT CR C1 C2 C3 C6 C8)
 (k:∀(PT:ag) (fd:ez),(∀p∈[PT],K.lookup p=none/\∃c,h.TableAt c p #[])->(∀(s:aj) (us:List ah),us.length=(["ring","n","i","t"]:List Str).length->wb s fd ⟨us,[]⟩ ((["ring","n","i","t"]:List Str).zip us))->(∀base:cr,K.In base->base.Ns dy mg->NR mg base->FnOk P w K mg base (CX1 P w) 16 fa fd ["ring","n","i","t"] (bY K PT dz0 fz0))->C):C:=by
 obtain⟨f,fd,hm,Ff⟩:=a;have e:=hfa.symm.trans hm;cases e;obtain⟨fN,fdN,cN,PT,LN⟩:=LN;obtain⟨_,R⟩:=R;obtain⟨_,I⟩:=I;obtain⟨_,L⟩:=L;obtain⟨_,B_⟩:=B_;obtain⟨_,N⟩:=N;obtain⟨_,_,_,_,_,_,_,XX⟩:=XX;refine k PT fd (λp hp=>?_) (λs us hu=>?_) λbase KB _ BB=>lD F G' R I L B_ N XX LN BB (wp KB LN.h) Ff
 ·rw[io.mp hp];exact⟨LN.n,kQ KX TT hq LN⟩
 ·obtain⟨oc,od,kV,doc,pm,an,Av,ct,osl,rfl,lk,hcd⟩:=Ff.ex;match us,hu with
  |[_,_,_,_],_=>exact .of_eq rfl
end Lt
end
def PySem.W.Fast.tw10003279071267778898:Nat:=0
def PySem.W.Fast.tw1004667568204412014:Nat:=0
def PySem.W.Fast.tw10066463594566721994:Nat:=0
def PySem.W.Fast.tw10108173772201203451:Nat:=0
def PySem.W.Fast.tw10116369842056938200:Nat:=0
def PySem.W.Fast.tw10330279111606634193:Nat:=0
def PySem.W.Fast.tw10356723247196616302:Nat:=0
def PySem.W.Fast.tw10411547703518195045:Nat:=0
def PySem.W.Fast.tw10510849358428165495:Nat:=0
def PySem.W.Fast.tw10591142682719410285:Nat:=0
def PySem.W.Fast.tw10741538570558080092:Nat:=0
def PySem.W.Fast.tw10922616519061141505:Nat:=0
def PySem.W.Fast.tw11011011563469508907:Nat:=0
def PySem.W.Fast.tw11035456385165814027:Nat:=0
def PySem.W.Fast.tw11063865324652584437:Nat:=0
def PySem.W.Fast.tw11188985918703954672:Nat:=0
def PySem.W.Fast.tw11272867501059616456:Nat:=0
def PySem.W.Fast.tw11388777478691631582:Nat:=0
def PySem.W.Fast.tw1142823692178495381:Nat:=0
def PySem.W.Fast.tw11676052910784691946:Nat:=0
def PySem.W.Fast.tw11704915376743005368:Nat:=0
def PySem.W.Fast.tw11715772061280933068:Nat:=0
def PySem.W.Fast.tw11735361450383755853:Nat:=0
def PySem.W.Fast.tw11754206622672756694:Nat:=0
def PySem.W.Fast.tw11995372817463796268:Nat:=0
def PySem.W.Fast.tw12036674746790218729:Nat:=0
def PySem.W.Fast.tw12052247774902268763:Nat:=0
def PySem.W.Fast.tw12309424433255347808:Nat:=0
def PySem.W.Fast.tw12331784787746199435:Nat:=0
def PySem.W.Fast.tw12374721768451432997:Nat:=0
def PySem.W.Fast.tw12478856117186765522:Nat:=0
def PySem.W.Fast.tw12495027115001865981:Nat:=0
def PySem.W.Fast.tw12607091347203424745:Nat:=0
def PySem.W.Fast.tw12613859437006364633:Nat:=0
def PySem.W.Fast.tw12669560234436831197:Nat:=0
def PySem.W.Fast.tw12675401980992210311:Nat:=0
def PySem.W.Fast.tw12712628237640303904:Nat:=0
def PySem.W.Fast.tw12817135044029716554:Nat:=0
def PySem.W.Fast.tw12907662994479101324:Nat:=0
def PySem.W.Fast.tw12916148423361001771:Nat:=0
def PySem.W.Fast.tw12919972728766114067:Nat:=0
def PySem.W.Fast.tw13028196071875733103:Nat:=0
def PySem.W.Fast.tw13044435506941010392:Nat:=0
def PySem.W.Fast.tw13090667726586577277:Nat:=0
def PySem.W.Fast.tw13097467268906048445:Nat:=0
def PySem.W.Fast.tw13232254902440386184:Nat:=0
def PySem.W.Fast.tw1330329885964516828:Nat:=0
def PySem.W.Fast.tw13339017735870199520:Nat:=0
def PySem.W.Fast.tw13435859615820135522:Nat:=0
def PySem.W.Fast.tw13476802525541797416:Nat:=0
def PySem.W.Fast.tw13492273016902003770:Nat:=0
def PySem.W.Fast.tw1350725149733602228:Nat:=0
def PySem.W.Fast.tw13555587127148766607:Nat:=0
def PySem.W.Fast.tw13559072729124044804:Nat:=0
def PySem.W.Fast.tw13572144166320680798:Nat:=0
def PySem.W.Fast.tw13598604805735982496:Nat:=0
def PySem.W.Fast.tw13656128101366499753:Nat:=0
def PySem.W.Fast.tw13674223679477056538:Nat:=0
def PySem.W.Fast.tw13690279320581570620:Nat:=0
def PySem.W.Fast.tw13824391849226229178:Nat:=0
def PySem.W.Fast.tw13829811804096030593:Nat:=0
def PySem.W.Fast.tw13887823155210256198:Nat:=0
def PySem.W.Fast.tw1393021436749973337:Nat:=0
def PySem.W.Fast.tw13945191132888420882:Nat:=0
def PySem.W.Fast.tw14012120824473599508:Nat:=0
def PySem.W.Fast.tw14047257106002180282:Nat:=0
def PySem.W.Fast.tw14061692371065579406:Nat:=0
def PySem.W.Fast.tw14248765942962712195:Nat:=0
def PySem.W.Fast.tw14265673130924139027:Nat:=0
def PySem.W.Fast.tw14279988015716977979:Nat:=0
def PySem.W.Fast.tw14296456401869045123:Nat:=0
def PySem.W.Fast.tw14360083582520742127:Nat:=0
def PySem.W.Fast.tw14474998520807686237:Nat:=0
def PySem.W.Fast.tw14498284603429618928:Nat:=0
def PySem.W.Fast.tw14536430684971656743:Nat:=0
def PySem.W.Fast.tw14578535060706052142:Nat:=0
def PySem.W.Fast.tw14621236531446300122:Nat:=0
def PySem.W.Fast.tw14687788698620859920:Nat:=0
def PySem.W.Fast.tw14768310782587245874:Nat:=0
def PySem.W.Fast.tw14897789946256557783:Nat:=0
def PySem.W.Fast.tw14948548701427875559:Nat:=0
def PySem.W.Fast.tw15026087703671188692:Nat:=0
def PySem.W.Fast.tw15073496603667719284:Nat:=0
def PySem.W.Fast.tw15179502765392381167:Nat:=0
def PySem.W.Fast.tw15233288533287978782:Nat:=0
def PySem.W.Fast.tw15339300177028643338:Nat:=0
def PySem.W.Fast.tw15446822407618813931:Nat:=0
def PySem.W.Fast.tw15610436948168704619:Nat:=0
def PySem.W.Fast.tw158392615817588556:Nat:=0
def PySem.W.Fast.tw15861297530933591978:Nat:=0
def PySem.W.Fast.tw15913372545010561118:Nat:=0
def PySem.W.Fast.tw15947517448277028657:Nat:=0
def PySem.W.Fast.tw1597853059401240898:Nat:=0
def PySem.W.Fast.tw15990818563817433781:Nat:=0
def PySem.W.Fast.tw15993768418876346326:Nat:=0
def PySem.W.Fast.tw16023987771797575184:Nat:=0
def PySem.W.Fast.tw16039782488186071461:Nat:=0
def PySem.W.Fast.tw16082909241641893336:Nat:=0
def PySem.W.Fast.tw16237072612577415939:Nat:=0
def PySem.W.Fast.tw16264180026643033652:Nat:=0
def PySem.W.Fast.tw16295055178868599976:Nat:=0
def PySem.W.Fast.tw16319242141551311124:Nat:=0
def PySem.W.Fast.tw16389450153824990458:Nat:=0
def PySem.W.Fast.tw16413539655917649958:Nat:=0
def PySem.W.Fast.tw16696680135917713356:Nat:=0
def PySem.W.Fast.tw16771398944644343727:Nat:=0
def PySem.W.Fast.tw169014214563416891:Nat:=0
def PySem.W.Fast.tw16955253847534316101:Nat:=0
def PySem.W.Fast.tw16998095864220440917:Nat:=0
def PySem.W.Fast.tw17009026295547132006:Nat:=0
def PySem.W.Fast.tw17031360815087698633:Nat:=0
def PySem.W.Fast.tw17052539836824530577:Nat:=0
def PySem.W.Fast.tw1723817347575669223:Nat:=0
def PySem.W.Fast.tw17356329230844202268:Nat:=0
def PySem.W.Fast.tw17465142653650709005:Nat:=0
def PySem.W.Fast.tw17479692730902034352:Nat:=0
def PySem.W.Fast.tw17734635185036809319:Nat:=0
def PySem.W.Fast.tw17805656585456002197:Nat:=0
def PySem.W.Fast.tw17959596248894627437:Nat:=0
def PySem.W.Fast.tw18009348819818465077:Nat:=0
def PySem.W.Fast.tw18034771217116669483:Nat:=0
def PySem.W.Fast.tw18054492057850708138:Nat:=0
def PySem.W.Fast.tw18176091163956265344:Nat:=0
def PySem.W.Fast.tw18256503476752012746:Nat:=0
def PySem.W.Fast.tw1859841987916774468:Nat:=0
def PySem.W.Fast.tw1866192856888284613:Nat:=0
def PySem.W.Fast.tw1886674135381641768:Nat:=0
def PySem.W.Fast.tw1925248261736279655:Nat:=0
def PySem.W.Fast.tw1943524690472871260:Nat:=0
def PySem.W.Fast.tw1987237337352061316:Nat:=0
def PySem.W.Fast.tw201853546747340361:Nat:=0
def PySem.W.Fast.tw2168382951816556549:Nat:=0
def PySem.W.Fast.tw2204292444907917998:Nat:=0
def PySem.W.Fast.tw2269705545092906790:Nat:=0
def PySem.W.Fast.tw2353458772156524616:Nat:=0
def PySem.W.Fast.tw2396676862161640633:Nat:=0
def PySem.W.Fast.tw2577422058207904560:Nat:=0
def PySem.W.Fast.tw2613175515281204177:Nat:=0
def PySem.W.Fast.tw270794474602047522:Nat:=0
def PySem.W.Fast.tw2879994715550023127:Nat:=0
def PySem.W.Fast.tw2885537190049239598:Nat:=0
def PySem.W.Fast.tw291734032398580037:Nat:=0
def PySem.W.Fast.tw3046655619451832181:Nat:=0
def PySem.W.Fast.tw3843981638301421093:Nat:=0
def PySem.W.Fast.tw3861504974148436076:Nat:=0
def PySem.W.Fast.tw4031932834474131952:Nat:=0
def PySem.W.Fast.tw4034387092954380002:Nat:=0
def PySem.W.Fast.tw4102530957106374001:Nat:=0
def PySem.W.Fast.tw4105078750450245708:Nat:=0
def PySem.W.Fast.tw4290127094434529356:Nat:=0
def PySem.W.Fast.tw4291200205495721742:Nat:=0
def PySem.W.Fast.tw4406669783356875540:Nat:=0
def PySem.W.Fast.tw4451408609450932014:Nat:=0
def PySem.W.Fast.tw4472855801896508341:Nat:=0
def PySem.W.Fast.tw4546163400660401411:Nat:=0
def PySem.W.Fast.tw4559315180756202046:Nat:=0
def PySem.W.Fast.tw4640896819605531820:Nat:=0
def PySem.W.Fast.tw4657556057203488902:Nat:=0
def PySem.W.Fast.tw4916039427773565584:Nat:=0
def PySem.W.Fast.tw5041713507153929579:Nat:=0
def PySem.W.Fast.tw5130909194918132358:Nat:=0
def PySem.W.Fast.tw5219644624989319879:Nat:=0
def PySem.W.Fast.tw5258909718556774191:Nat:=0
def PySem.W.Fast.tw5319621369192991979:Nat:=0
def PySem.W.Fast.tw5524674555559000798:Nat:=0
def PySem.W.Fast.tw5549698056073100616:Nat:=0
def PySem.W.Fast.tw5559024647563500714:Nat:=0
def PySem.W.Fast.tw5618197889193843313:Nat:=0
def PySem.W.Fast.tw5635427504341562740:Nat:=0
def PySem.W.Fast.tw5736869886489229794:Nat:=0
def PySem.W.Fast.tw5798433003007415087:Nat:=0
def PySem.W.Fast.tw5815914643270241922:Nat:=0
def PySem.W.Fast.tw5856269778596575445:Nat:=0
def PySem.W.Fast.tw6005929389226890065:Nat:=0
def PySem.W.Fast.tw6011794797931900851:Nat:=0
def PySem.W.Fast.tw615327038618380852:Nat:=0
def PySem.W.Fast.tw6194892770977151997:Nat:=0
def PySem.W.Fast.tw638373620475838746:Nat:=0
def PySem.W.Fast.tw6478748878664334768:Nat:=0
def PySem.W.Fast.tw6526195071631313508:Nat:=0
def PySem.W.Fast.tw6529761616590057863:Nat:=0
def PySem.W.Fast.tw6599230144615574892:Nat:=0
def PySem.W.Fast.tw6607798217321028555:Nat:=0
def PySem.W.Fast.tw6669326454940308342:Nat:=0
def PySem.W.Fast.tw6714472861523501443:Nat:=0
def PySem.W.Fast.tw6808558135522318570:Nat:=0
def PySem.W.Fast.tw6838705492823477568:Nat:=0
def PySem.W.Fast.tw7107176726280867951:Nat:=0
def PySem.W.Fast.tw7182830707891241449:Nat:=0
def PySem.W.Fast.tw7265295868931774124:Nat:=0
def PySem.W.Fast.tw7346991873464949292:Nat:=0
def PySem.W.Fast.tw7352892487119319610:Nat:=0
def PySem.W.Fast.tw7363050889094378830:Nat:=0
def PySem.W.Fast.tw7390281791135793355:Nat:=0
def PySem.W.Fast.tw7408333355936610251:Nat:=0
def PySem.W.Fast.tw7446955352895848096:Nat:=0
def PySem.W.Fast.tw7555363680545596553:Nat:=0
def PySem.W.Fast.tw7575013613107943031:Nat:=0
def PySem.W.Fast.tw7892873268069394780:Nat:=0
def PySem.W.Fast.tw7913749140373797516:Nat:=0
def PySem.W.Fast.tw8098844076171794328:Nat:=0
def PySem.W.Fast.tw8225426899713172868:Nat:=0
def PySem.W.Fast.tw8231373922036165544:Nat:=0
def PySem.W.Fast.tw8245839878698947939:Nat:=0
def PySem.W.Fast.tw8396826184538307871:Nat:=0
def PySem.W.Fast.tw8518692810323490863:Nat:=0
def PySem.W.Fast.tw8593235911363409545:Nat:=0
def PySem.W.Fast.tw8636931882707406389:Nat:=0
def PySem.W.Fast.tw8752133309435311447:Nat:=0
def PySem.W.Fast.tw8779881807819833086:Nat:=0
def PySem.W.Fast.tw8847069449784683736:Nat:=0
def PySem.W.Fast.tw8900700782371996767:Nat:=0
def PySem.W.Fast.tw8907824699039183100:Nat:=0
def PySem.W.Fast.tw8985472279195343149:Nat:=0
def PySem.W.Fast.tw9043734416961434411:Nat:=0
def PySem.W.Fast.tw9049814805325073371:Nat:=0
def PySem.W.Fast.tw9077746506036233386:Nat:=0
def PySem.W.Fast.tw9122334036512273819:Nat:=0
def PySem.W.Fast.tw9229837659709791922:Nat:=0
def PySem.W.Fast.tw9241545831777884574:Nat:=0
def PySem.W.Fast.tw9257179883282081257:Nat:=0
def PySem.W.Fast.tw9286606924525235424:Nat:=0
def PySem.W.Fast.tw9384065503369778181:Nat:=0
def PySem.W.Fast.tw9398913253636902387:Nat:=0
def PySem.W.Fast.tw9434635240810440583:Nat:=0
def PySem.W.Fast.tw946040774998048396:Nat:=0
def PySem.W.Fast.tw9467072556588910637:Nat:=0
def PySem.W.Fast.tw947445660945174177:Nat:=0
def PySem.W.Fast.tw9526612571571189336:Nat:=0
def PySem.W.Fast.tw9605580810903625710:Nat:=0
def PySem.W.Fast.tw9686286912605778966:Nat:=0
def PySem.W.Fast.tw9703783008873209468:Nat:=0
def PySem.W.Fast.tw9800367558482603986:Nat:=0
open PySem PySem.W PyProof.Rows
set_option maxRecDepth 100000 in
set_option maxHeartbeats 0 in
theorem PySem.Challenge.cw_lutesounds_s03_at_holds : PySem.Challenge.rw_lutesounds_s03_at.Holds := by
 w_on;k_headS;(case hw=>exact⟨[.int 0,.int 0,.list [],.list []],by decide +kernel,by decide +kernel⟩)
 k_fillS
 refine Lt.SG (r:=PySem.Challenge.rw_lutesounds_s03_at) (k:=16) (ps:=["ring","n","i","t"]) (sp:=λK T=>Lt.bY K (T.headD 0) Lt.dz0 Lt.fz0) (by decide +kernel) rfl rfl ⟨rfl,by decide,by decide⟩ (λw h Y=>PySem.W.kIn_of Y) ?F
 case F=>
  intro w mg fa h Y KX G TT hmg;refine' Lt.eS KX TT ?zq hmg ?za ?zLN ?zF ?zG ?zR ?zI ?zL ?zB_ ?zN ?zX ?zk
  case zq=>decide +kernel
  case zLN=>(refine' Lt.kP KX G ?lmf_a ?lmf_l ?lmf_c ?lmf_k ?lmf_o ?lmf_v ?lmf_n ?lmf_h;(case lmf_a=>k_is);(case lmf_l=>k_is);(case lmf_c=>k_is);(case lmf_k=>k_is);(case lmf_o=>k_is);(case lmf_v=>rfl);(case lmf_n=>first|kernel_rfl!|rfl|decide +kernel);(case lmf_h=>first|kernel_rfl!|rfl|decide +kernel))
  case za=>(refine' Lt.bZ KX G ?gfn_a ?gfn_l ?gfn_c ?gfn_k;(case gfn_a=>k_is);(case gfn_l=>k_is);(case gfn_c=>k_is);(case gfn_k=>k_is))
  case zF=>
   constructor;iterate 50
    ·(refine' Lt.bZ KX G ?gfn_a ?gfn_l ?gfn_c ?gfn_k;(case gfn_a=>k_is);(case gfn_l=>k_is);(case gfn_c=>k_is);(case gfn_k=>k_is))
  case zG=>
   constructor
   ·constructor<;>(refine' wJ KX G ?no_a;(case no_a=>k_is))
   ·(refine' wJ KX G ?no_a;(case no_a=>k_is))
   iterate 21
    ·(refine' Lt.rA KX G ?gi_a;(case gi_a=>k_is))
   iterate 9
    ·(refine' Lt.rB KX G ?gs_a;(case gs_a=>k_is))
   iterate 4
    ·(refine' Lt.rC KX G ?gt_a ?gt_l ?gt_z ?gt_r;(case gt_a=>k_is);(case gt_l=>k_is);(case gt_z=>decide);(case gt_r=>repeat (first|exact Paired.nil|refine Paired.cons ⟨_,rfl⟩ ?_)))
  case zR=>
   refine' ⟨_,Lt.TxR.mk ?m ?T ?i ?e0 ?e1 ?e2 ?e3 ?e4 ?e5⟩
   case m=>(refine' fw KX G ?mg_a;(case mg_a=>k_is))
   case T=>(refine' Lt.RdC.mk ?a ?n0 ?n1 ?n2;(case a=>(refine' L2.Cls.mk ?cls_a ?cls_b ?cls_c ?cls_d;(case cls_a=>k_is);(case cls_b=>k_is);(case cls_c=>k_is);(case cls_d=>k_is)));(case n0=>(unfold L2.NoAttr;k_is));(case n1=>(unfold L2.NoAttr;k_is));(case n2=>(unfold L2.NoAttr;k_is)))
   case i=>(refine' Lt.NV ?gmk_m ?gmk_kc ?gmk_a ?gmk_i ?gmk_l ?gmk_c ?gmk_k;(case gmk_m=>k_is);(case gmk_kc=>k_is);(case gmk_a=>k_is);(case gmk_i=>k_is);(case gmk_l=>k_is);(case gmk_c=>k_is);(case gmk_k=>k_is))
   case e0=>(refine' Lt.FG ?gmt_a ?gmt_i ?gmt_l ?gmt_c ?gmt_k;(case gmt_a=>k_is);(case gmt_i=>k_is);(case gmt_l=>k_is);(case gmt_c=>k_is);(case gmt_k=>k_is))
   case e1=>(refine' Lt.FG ?gmt_a ?gmt_i ?gmt_l ?gmt_c ?gmt_k;(case gmt_a=>k_is);(case gmt_i=>k_is);(case gmt_l=>k_is);(case gmt_c=>k_is);(case gmt_k=>k_is))
   case e2=>(refine' Lt.FG ?gmt_a ?gmt_i ?gmt_l ?gmt_c ?gmt_k;(case gmt_a=>k_is);(case gmt_i=>k_is);(case gmt_l=>k_is);(case gmt_c=>k_is);(case gmt_k=>k_is))
   case e3=>(refine' Lt.FG ?gmt_a ?gmt_i ?gmt_l ?gmt_c ?gmt_k;(case gmt_a=>k_is);(case gmt_i=>k_is);(case gmt_l=>k_is);(case gmt_c=>k_is);(case gmt_k=>k_is))
   case e4=>(refine' Lt.FG ?gmt_a ?gmt_i ?gmt_l ?gmt_c ?gmt_k;(case gmt_a=>k_is);(case gmt_i=>k_is);(case gmt_l=>k_is);(case gmt_c=>k_is);(case gmt_k=>k_is))
   case e5=>(refine' Lt.FG ?gmt_a ?gmt_i ?gmt_l ?gmt_c ?gmt_k;(case gmt_a=>k_is);(case gmt_i=>k_is);(case gmt_l=>k_is);(case gmt_c=>k_is);(case gmt_k=>k_is))
  case zI=>
   refine' ⟨_,Lt.TxI.mk ?m ?T ?i ?e0 ?e1 ?e2⟩
   case m=>(refine' fw KX G ?mg_a;(case mg_a=>k_is))
   case T=>(refine' Lt.InC.mk ?a ?n0 ?n1 ?n2;(case a=>(refine' L2.Cls.mk ?cls_a ?cls_b ?cls_c ?cls_d;(case cls_a=>k_is);(case cls_b=>k_is);(case cls_c=>k_is);(case cls_d=>k_is)));(case n0=>(unfold L2.NoAttr;k_is));(case n1=>(unfold L2.NoAttr;k_is));(case n2=>(unfold L2.NoAttr;k_is)))
   case i=>(refine' Lt.NV ?gmk_m ?gmk_kc ?gmk_a ?gmk_i ?gmk_l ?gmk_c ?gmk_k;(case gmk_m=>k_is);(case gmk_kc=>k_is);(case gmk_a=>k_is);(case gmk_i=>k_is);(case gmk_l=>k_is);(case gmk_c=>k_is);(case gmk_k=>k_is))
   case e0=>(refine' Lt.FG ?gmt_a ?gmt_i ?gmt_l ?gmt_c ?gmt_k;(case gmt_a=>k_is);(case gmt_i=>k_is);(case gmt_l=>k_is);(case gmt_c=>k_is);(case gmt_k=>k_is))
   case e1=>(refine' Lt.FG ?gmt_a ?gmt_i ?gmt_l ?gmt_c ?gmt_k;(case gmt_a=>k_is);(case gmt_i=>k_is);(case gmt_l=>k_is);(case gmt_c=>k_is);(case gmt_k=>k_is))
   case e2=>(refine' Lt.FG ?gmt_a ?gmt_i ?gmt_l ?gmt_c ?gmt_k;(case gmt_a=>k_is);(case gmt_i=>k_is);(case gmt_l=>k_is);(case gmt_c=>k_is);(case gmt_k=>k_is))
  case zL=>
   refine' ⟨_,Lt.TxL.mk ?m ?T ?i ?e0 ?e1⟩
   case m=>(refine' fw KX G ?mg_a;(case mg_a=>k_is))
   case T=>(refine' Lt.LnC.mk ?a ?n0 ?n1;(case a=>(refine' L2.Cls.mk ?cls_a ?cls_b ?cls_c ?cls_d;(case cls_a=>k_is);(case cls_b=>k_is);(case cls_c=>k_is);(case cls_d=>k_is)));(case n0=>(unfold L2.NoAttr;k_is));(case n1=>(unfold L2.NoAttr;k_is)))
   case i=>(refine' Lt.NV ?gmk_m ?gmk_kc ?gmk_a ?gmk_i ?gmk_l ?gmk_c ?gmk_k;(case gmk_m=>k_is);(case gmk_kc=>k_is);(case gmk_a=>k_is);(case gmk_i=>k_is);(case gmk_l=>k_is);(case gmk_c=>k_is);(case gmk_k=>k_is))
   case e0=>(refine' Lt.FG ?gmt_a ?gmt_i ?gmt_l ?gmt_c ?gmt_k;(case gmt_a=>k_is);(case gmt_i=>k_is);(case gmt_l=>k_is);(case gmt_c=>k_is);(case gmt_k=>k_is))
   case e1=>(refine' Lt.FG ?gmt_a ?gmt_i ?gmt_l ?gmt_c ?gmt_k;(case gmt_a=>k_is);(case gmt_i=>k_is);(case gmt_l=>k_is);(case gmt_c=>k_is);(case gmt_k=>k_is))
  case zB_=>
   refine' ⟨_,Lt.TxB_.mk ?m ?T ?i⟩
   case m=>(refine' fw KX G ?mg_a;(case mg_a=>k_is))
   case T=>(refine' Lt.TbC.mk ?a ?n0 ?n1;(case a=>(refine' L2.Cls.mk ?cls_a ?cls_b ?cls_c ?cls_d;(case cls_a=>k_is);(case cls_b=>k_is);(case cls_c=>k_is);(case cls_d=>k_is)));(case n0=>(unfold L2.NoAttr;k_is));(case n1=>(unfold L2.NoAttr;k_is)))
   case i=>(refine' Lt.NV ?gmk_m ?gmk_kc ?gmk_a ?gmk_i ?gmk_l ?gmk_c ?gmk_k;(case gmk_m=>k_is);(case gmk_kc=>k_is);(case gmk_a=>k_is);(case gmk_i=>k_is);(case gmk_l=>k_is);(case gmk_c=>k_is);(case gmk_k=>k_is))
  case zN=>
   refine' ⟨_,Lt.TxN.mk ?m ?T ?i⟩
   case m=>(refine' fw KX G ?mg_a;(case mg_a=>k_is))
   case T=>(refine' Lt.NtC.mk ?a ?n0 ?n1 ?n2 ?n3 ?n4 ?n5;(case a=>(refine' L2.Cls.mk ?cls_a ?cls_b ?cls_c ?cls_d;(case cls_a=>k_is);(case cls_b=>k_is);(case cls_c=>k_is);(case cls_d=>k_is)));(case n0=>(unfold L2.NoAttr;k_is));(case n1=>(unfold L2.NoAttr;k_is));(case n2=>(unfold L2.NoAttr;k_is));(case n3=>(unfold L2.NoAttr;k_is));(case n4=>(unfold L2.NoAttr;k_is));(case n5=>(unfold L2.NoAttr;k_is)))
   case i=>(refine' Lt.NV ?gmk_m ?gmk_kc ?gmk_a ?gmk_i ?gmk_l ?gmk_c ?gmk_k;(case gmk_m=>k_is);(case gmk_kc=>k_is);(case gmk_a=>k_is);(case gmk_i=>k_is);(case gmk_l=>k_is);(case gmk_c=>k_is);(case gmk_k=>k_is))
  case zX=>
   refine' ⟨_,_,_,_,_,_,_,Lt.TxX.mk ?mT ?mR ?xT ?aT ?eT ?iT ?r1 ?r2 ?r3 ?r6 ?r8 ?lm ?cm ?sp ?rd ?fc⟩
   case mT=>(refine' fw KX G ?mg_a;(case mg_a=>k_is))
   case mR=>(refine' fw KX G ?mg_a;(case mg_a=>k_is))
   case xT=>(refine' L2.XCls.mk ?xcls_a ?xcls_b ?xcls_c ?xcls_d ?xcls_e ?xcls_f;(case xcls_a=>kernel_rfl!);(case xcls_b=>k_is);(case xcls_c=>k_is);(case xcls_d=>k_is);(case xcls_e=>k_is);(case xcls_f=>k_is))
   case aT=>(unfold L2.NoAttr;k_is)
   case eT=>kernel_rfl!
   case iT=>(refine' Lt.KU ?gxk_m ?gxk_kc ?gxk_a ?gxk_i ?gxk_l ?gxk_c ?gxk_k;(case gxk_m=>kernel_rfl!);(case gxk_kc=>k_is);(case gxk_a=>k_is);(case gxk_i=>k_is);(case gxk_l=>k_is);(case gxk_c=>k_is);(case gxk_k=>k_is))
   case r1=>(refine' Lt.Rf1.mk ?rf1_m ?rf1_r ?rf1_x ?rf1_a ?rf1_i;(case rf1_m=>(refine' fw KX G ?mg_a;(case mg_a=>k_is)));(case rf1_r=>kernel_rfl!);(case rf1_x=>(refine' L2.XCls.mk ?xcls_a ?xcls_b ?xcls_c ?xcls_d ?xcls_e ?xcls_f;(case xcls_a=>kernel_rfl!);(case xcls_b=>k_is);(case xcls_c=>k_is);(case xcls_d=>k_is);(case xcls_e=>k_is);(case xcls_f=>k_is)));(case rf1_a=>(unfold L2.NoAttr;k_is));(case rf1_i=>(refine' Lt.KU ?gxk_m ?gxk_kc ?gxk_a ?gxk_i ?gxk_l ?gxk_c ?gxk_k;(case gxk_m=>kernel_rfl!);(case gxk_kc=>k_is);(case gxk_a=>k_is);(case gxk_i=>k_is);(case gxk_l=>k_is);(case gxk_c=>k_is);(case gxk_k=>k_is))))
   case r2=>(refine' Lt.Rf1.mk ?rf1_m ?rf1_r ?rf1_x ?rf1_a ?rf1_i;(case rf1_m=>(refine' fw KX G ?mg_a;(case mg_a=>k_is)));(case rf1_r=>kernel_rfl!);(case rf1_x=>(refine' L2.XCls.mk ?xcls_a ?xcls_b ?xcls_c ?xcls_d ?xcls_e ?xcls_f;(case xcls_a=>kernel_rfl!);(case xcls_b=>k_is);(case xcls_c=>k_is);(case xcls_d=>k_is);(case xcls_e=>k_is);(case xcls_f=>k_is)));(case rf1_a=>(unfold L2.NoAttr;k_is));(case rf1_i=>(refine' Lt.KU ?gxk_m ?gxk_kc ?gxk_a ?gxk_i ?gxk_l ?gxk_c ?gxk_k;(case gxk_m=>kernel_rfl!);(case gxk_kc=>k_is);(case gxk_a=>k_is);(case gxk_i=>k_is);(case gxk_l=>k_is);(case gxk_c=>k_is);(case gxk_k=>k_is))))
   case r3=>(refine' Lt.Rf1.mk ?rf1_m ?rf1_r ?rf1_x ?rf1_a ?rf1_i;(case rf1_m=>(refine' fw KX G ?mg_a;(case mg_a=>k_is)));(case rf1_r=>kernel_rfl!);(case rf1_x=>(refine' L2.XCls.mk ?xcls_a ?xcls_b ?xcls_c ?xcls_d ?xcls_e ?xcls_f;(case xcls_a=>kernel_rfl!);(case xcls_b=>k_is);(case xcls_c=>k_is);(case xcls_d=>k_is);(case xcls_e=>k_is);(case xcls_f=>k_is)));(case rf1_a=>(unfold L2.NoAttr;k_is));(case rf1_i=>(refine' Lt.KU ?gxk_m ?gxk_kc ?gxk_a ?gxk_i ?gxk_l ?gxk_c ?gxk_k;(case gxk_m=>kernel_rfl!);(case gxk_kc=>k_is);(case gxk_a=>k_is);(case gxk_i=>k_is);(case gxk_l=>k_is);(case gxk_c=>k_is);(case gxk_k=>k_is))))
   case r6=>(refine' Lt.Rf1.mk ?rf1_m ?rf1_r ?rf1_x ?rf1_a ?rf1_i;(case rf1_m=>(refine' fw KX G ?mg_a;(case mg_a=>k_is)));(case rf1_r=>kernel_rfl!);(case rf1_x=>(refine' L2.XCls.mk ?xcls_a ?xcls_b ?xcls_c ?xcls_d ?xcls_e ?xcls_f;(case xcls_a=>kernel_rfl!);(case xcls_b=>k_is);(case xcls_c=>k_is);(case xcls_d=>k_is);(case xcls_e=>k_is);(case xcls_f=>k_is)));(case rf1_a=>(unfold L2.NoAttr;k_is));(case rf1_i=>(refine' Lt.KU ?gxk_m ?gxk_kc ?gxk_a ?gxk_i ?gxk_l ?gxk_c ?gxk_k;(case gxk_m=>kernel_rfl!);(case gxk_kc=>k_is);(case gxk_a=>k_is);(case gxk_i=>k_is);(case gxk_l=>k_is);(case gxk_c=>k_is);(case gxk_k=>k_is))))
   case r8=>(refine' Lt.Rf1.mk ?rf1_m ?rf1_r ?rf1_x ?rf1_a ?rf1_i;(case rf1_m=>(refine' fw KX G ?mg_a;(case mg_a=>k_is)));(case rf1_r=>kernel_rfl!);(case rf1_x=>(refine' L2.XCls.mk ?xcls_a ?xcls_b ?xcls_c ?xcls_d ?xcls_e ?xcls_f;(case xcls_a=>kernel_rfl!);(case xcls_b=>k_is);(case xcls_c=>k_is);(case xcls_d=>k_is);(case xcls_e=>k_is);(case xcls_f=>k_is)));(case rf1_a=>(unfold L2.NoAttr;k_is));(case rf1_i=>(refine' Lt.KU ?gxk_m ?gxk_kc ?gxk_a ?gxk_i ?gxk_l ?gxk_c ?gxk_k;(case gxk_m=>kernel_rfl!);(case gxk_kc=>k_is);(case gxk_a=>k_is);(case gxk_i=>k_is);(case gxk_l=>k_is);(case gxk_c=>k_is);(case gxk_k=>k_is))))
   case lm=>(unfold L2.NoAttr;k_is)
   case cm=>(unfold L2.NoAttr;k_is)
   case sp=>k_is
   case rd=>k_is
   case fc=>(refine' Lt.lE ?gfc_a ?gfc_l ?gfc_c ?gfc_k;(case gfc_a=>k_is);(case gfc_l=>k_is);(case gfc_c=>k_is);(case gfc_k=>k_is))
  case zk=>
   intro PT fd h1 h2 h3;refine⟨[PT],fd,h1,h2,h3,?_⟩;intro H xs a hO hT hwi hask hx;cases hx with
   |cons g0 r0=>
    cases r0 with
    |cons g1 r1=>
     cases r1 with
     |cons g2 r2=>
      cases r2 with
      |cons g3 r3=>
       cases r3;cases g0;cases g1;cases g2 with
       |lst hsi hai=>
        cases g3 with
        |lst hst hat=>
         have e2:=L2.PR a.2.2.1 _ hai;subst e2;have e3:=L2.PR a.2.2.2.1 _ hat;subst e3;have q:(kf 0 2147483647 a.1&&(kf 0 2147483647 a.2.1&&((z5 0 4200 a.2.2.1&&a.2.2.1.all (kf 0 255))&&((z5 0 66000 a.2.2.2.1&&a.2.2.2.1.all (kf 0 255))&&true))))=true:=hwi;simp only[km,zn] at q;exact Lt.rD (hT _ bc) hsi hst (Lt.rE q.1).1 (Lt.rE q.2.1).1 q.2.2.1.2 q.2.2.2.2 (Codec.inNat_iff.mp q.2.2.2.1).2
#print axioms PySem.Challenge.cw_lutesounds_s03_at_holds
