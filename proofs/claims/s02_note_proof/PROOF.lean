import PyProof.Rows.All
import Wide.All
import OpenK.AllK
import Wide.FinOn
import PyProof.EqAt
import PyProof.EqKinds
import PyProof.TupleCall
import KE.BitLaws
import Open.SpecLaws
import KE.OsHead
import KE.OsGo
import KE.KTryMore
import KE.KSuperObj
import PyProof.Draws
import KE.IntBitsLaws
import KE.KSortTupG
import KE.KLam
import KE.KDictList
import KE.KListMore
import PySem.Challenge.RW_lutesounds_s02_note
set_option Elab.async false
set_option linter.all false
set_option maxRecDepth 100000
set_option maxHeartbeats 4000000
noncomputable section
open Array renaming length_toList->fq,getElem?_setIfInBounds_ne->fy,getElem?_eq_some_iff->kl,getElem?_toList->kq,getElem?_eq_getElem->qb,getElem?_eq_none->sh,toArray_toList->vV,append_assoc->wj,forIn_toList->wv,toList->wy,toList_zip->xr
open Array.Perm renaming refl->xS
open Bool renaming false_ne_true->bu,noConfusion->dw,false_eq_true->fm,eq_false_iff->js,and_eq_true->kg,true_and->qj,eq_iff_iff->qp,false_and->tP,eq_false_or_eq_true->uy,and_false->vG,and_eq_true_iff->vM,or_true->wH,or_false->yW,and_true->y3,not_not->zo
open Eq renaming trans->sX
open Except renaming error->zt
open False renaming elim->eq
open ForInStep renaming yield->tj
open Int renaming toNat_natCast->jq,toNat_of_nonneg->mn,gcd->pj,neg_ediv_of_dvd->qd,mul_ediv_cancel_left->qk,ofNat_dvd_left->qz,natAbs_natCast->rb,natCast_mul->tD,fdiv_eq_ediv_of_nonneg->tQ,natAbs_mul->ub,natCast_dvd_natCast->uO,add_comm->ve,neg_mul->vQ,mul_pos->xB,one_mul->xC,natCast_pow->xQ,mul_le_mul->yn,ofNat_le->zn,pow_add->zE
open List renaming length_map->ah,getElem?_eq_getElem->aj,mem_cons_of_mem->ao,getElem?_eq_some_iff->au,getElem?_map->az,mem_cons_self->bb,size_toArray->bg,getD_eq_getElem?_getD->bj,mem_of_getElem?->bo,mem_cons->bp,length_append->bq,mem_append->cj,length_cons->cw,map_cons->de,mem_append_right->dh,take_add_one->dj,length_take->dk,map_append->dm,take_length->fk,length_drop->fu,pairwise_cons->fx,mem_singleton->gq,drop_eq_getElem_cons->im,take_append_drop->iq,lookup->jb,mem_of_mem_drop->jc,getElem_mem->jd,find?_cons->jf,getLastD_eq_getLast?->jg,range->ji,append_nil->ju,mem_map->jx,lookup_cons->kh,all_eq_true->ki,find?_eq_none->kn,findIdx?_eq_some_iff_getElem->kr,pairwise_iff_getElem->ky,length_range->ll,getElem?_of_mem->lp,mem_of_mem_take->lw,getElem?_set_self->mv,contains_cons->nj,find?_append->om,idxOf_lt_length_of_mem->oo,length->oq,cons_append->ph,getLast?_eq_getElem?->qa,mem_map_of_mem->qe,nodup_cons->qr,of_mem_zip->qu,getElem?_take->qy,reverse_cons->sd,take_of_length_le->sr,getElem?_eq_none->sH,mem_append_left->sR,getElem?_set_ne->sS,pairwise_append->sY,filterMap_cons->tE,getElem?_range->tI,length_reverse->tJ,getElem?_append_right->tU,getElem?_drop->uc,getElem_idxOf->ud,getElem?_append_left->uh,mem_of_find?_eq_some->ui,append_assoc->uu,getD->uN,drop_length->uP,getElem?_cons_succ->uQ,any_eq_true->uU,idxOf?_eq_some_iff->uV,range_succ->vm,drop_drop->vO,take_take->vP,mem_of_getLast?->vT,nodup_nil->vW,length_pos_iff->v5,drop_succ_cons->wa,mem_filterMap->wl,map_nil->wG,foldl_append->wK,all_eq_false->wL,getLast?_map->wN,nodup_append->wO,pairwise_map->wQ,map_map->wS,getElem_inj->wV,filter_cons->xf,map_reverse->xm,mem_reverse->xo,mem_filter->xD,length_set->xF,all_append->xJ,sum_append->xM,find?_some->xO,foldl_cons->xP,any_append->xV,mem_range->xY,replicate->x8,forIn_nil->ye,drop_take->yp,find?_map->yq,map_take->yX,sum_cons->yY,find?->zY
open List.Pairwise renaming nil->on,sublist->vA,imp_of_mem->yZ
open List.Perm renaming refl->vS
open List.Sublist renaming refl->z5
open List.cons renaming inj->we
open Nat renaming le_refl->aq,lt_of_lt_of_le->br,ne_of_lt->cg,le_trans->cu,mul_comm->dc,zero_le->df,gcd_mul_left->gc,lt_irrefl->iu,pow_pos->jn,mul_left_comm->jr,mul_assoc->jz,pow_le_pow_right->lq,mul_pos->lu,pow_add->lv,lt_trans->mz,gcd->nk,dvd_trans->oa,lt_succ_of_lt->oj,ne_of_gt->pd,zero_add->pp,pow_mul->rg,Coprime->rh,le_of_lt->rj,le_of_eq->rn,le_of_succ_le->sg,gcd_dvd_right->ss,gcd_dvd_left->sP,le_succ->sU,lt_of_le_of_lt->tY,mul_one->ur,mul_pow->ut,add_assoc->uA,lt_succ_self->uG,succ_ne_self->uI,le_add_right->uJ,pow_lt_pow_iff_left->uR,gcd_pos_of_pos_left->uS,lt_of_not_le->uT,pow_zero->vf,mul_lt_mul_right->vR,pow_lt_pow_left->v9,gcd_comm->wJ,dvd_refl->wM,sub_self->wP,gcd_assoc->y0,pow_succ->zm,zero_mul->zp,min_self->zr,two_mul->zH,one_mul->zJ,one_pos->zK
open Nat.Coprime renaming pow->vn,mul_right->vy
open Ne renaming symm->cq
open Option renaming isSome_iff_exists->qf,none->vI,isSome_map->wT,getD_none->xb,bind_some->xg,map->z4
open Option.some renaming inj->cp
open Or renaming inl->u7,inr->zj
open PyProof renaming noPylong_small->uZ
open PyProof.Rows renaming callWith_type1->cz,seqObj->me,slot_tuple_getitem->mi,envOfC->tT,arrOf->uf,listUpdate_at->uB,AllBare->uY,subscriptTail_builtinR->u6,boot_enumerate->vH,subscriptTail->wc,callWith_builtin1->w9,get?_update_seq->xR,boot_range->x0,slicePart_none->x9,Subscript_->yb,boot_sorted->y4,Call_->zc,iadd_int->zu
open PyProof.Rows.G renaming tupKindC->wu,tupKeyC->xq
open PyProof.Rows.G.KeepsTups renaming refl->Ab
open PyProof.Rows.IsTup renaming new->z6
open PyProof.Rows.SortSt renaming mk'->zZ
open PySem renaming wpAny_bind->ae,Value->ag,Shared->ai,wpAny_pure->am,Program->aw,starEach->bc,wpAny->be,model->bi,World->bv,sizeLine_eq->bw,Paired->cb,mem_of_lookup->cn,boot_len->cr,Around->cy,FuncData->du,rawInt->fv,wpAny_newObj_type->fw,keywordEach->ge,wpAny_mono->gg,wpAny_Call_Name_kw->gh,backTo->gr,wpAny_holding->ie,cellsFrom->ig,wpAny_field->ik,wpAny_setField->je,compEnvC->jh,bootBuiltins->jj,wpAny_standAt->jk,attributeBase->jl,backToKw->jm,wpAny_typeNameOfWhole_valiter->jo,wpAny_callSpecial?_slot->jp,compareOp->ke,getMethod->kf,NameKind->kj,wpAny_passesOwn->kz,holding->lg,foldedSetIterable->lh,wpAny_pyIter_enum->lj,wpAny_typeNameOf_valiter->mf,plainObj_wpAny_Assign_Attribute->mh,standAt->mj,codeAny->ml,callWith->mo,wpAny_call_entry->mq,codeAny_mono->mx,behindInMarks->ny,wpAny_truthy_bool->oh,Within->ow,swapsWith->pc,wpAny_execs_nil->qm,letOwnedTupleGo->qo,sysModules->qw,wpAny_pyIter_tuple->qx,sliceBounds->rc,binaryOp->rm,wpAny_loadPart_at->si,wpAny_isOneOf_valiter->sJ,wpAny_call->sM,pushCells->sN,strIterType->sW,pushCells_keeps->sZ,wpAny_isSubtype_exc->tH,tupleKind->tM,assignEach->tO,wpAny_newFunctionEnv_cells->tV,wpAny_letOwnedTupleGo_enum->tX,firstArgMember->tZ,tupleKind_room_in1->ug,Builtin->um,wpAny_dictEntries->uw,wpAny_attempt->ux,wpAny_lookBehind->uE,pastItsLine_dict->uF,noteFrame->uH,setFlight->uK,builtinsNs->uX,Keyword->u0,getItem->u4,typeLookup->u5,wpAny_pyNext_enum_endD->u9,wpAny_specialOf->vj,wpAny_dictEpoch->vp,wpAny_isTrue_Compare1->vq,codeAny_call_function->vt,codeAny_handlers_test->vv,builtinLookup_eq_fast->vx,wpAny_loadName_local->vC,wpAny_loadPart->vD,bindArgs->vE,subscripted->vF,codeAny_call_builtin->vJ,wpAny_seqItems->vK,Params->vL,intBits_pow_le->vN,BindsTo->vY,notedBy->vZ,DictEntry->v3,wpAny_loadName_cell->v4,wpAt_of_wpAny->v7,wpAny_handleBy_cons->v8,wpAny_handled->wf,entryOfKey->wg,pyNext->wk,IsPart->wo,PyData->wp,IsEnum->wq,Operator->wz,wpAny_assign_Name->wA,wpAny_nsSet1->wC,callerA->wR,isTrue->wW,wpAny_execs_cons->wX,assign->wY,Result->w8,checkBuiltinCall->xh,wpAny_madeBy_exc->xj,wpAny_isInstance->xl,Model->xx,seqIndex_of->xy,excClassObj->xz,wpAny_throw->xA,wpAt_bind->xG,typeLookup_type->xL,ItemsOf->xW,wpAny_Name->xZ,bindL->x5,bindC->x6,typeOf->yc,call_meets->yd,closureFor->yf,newFunctionEnv->yg,setField->yh,isInstance->yi,ownStreamTells->yj,raisedInstance->yk,arm_exec_Raise->yl,intBits_mul_le->yo,atKey->yu,wpAny_fieldsOf->yw,storeName->y6,CmpOp->y8,inplaceOp->y9,onTheHeap->zd,spliced->zg,getAttr->zh,setAttr->zi,call->z0,Fin->Aa
open PySem.Around renaming frames_deeper->sV,under->wE
open PySem.AutoSeq1 renaming wpAny_loadPart'->md,list_insert_list_int_val_1->vo
open PySem.Builtin.Dict renaming showsAll->vB,noArgs->zQ
open PySem.Builtin.Dict_items renaming ownsTuple->nw,newIterator->xu,dictOf->yI
open PySem.Builtin.List renaming listExtendWith->jy,listFitsIndex->ou,listTooLong->qg,listSameRef->uz,listItems->vd,listLengthHint->xX,listUpdate->ze
open PySem.Builtin.Range renaming rangeSize->uD,small->zO
open PySem.Builtin.Slice renaming slicePlaces->ku,sliceAdjust->pq,sliceApplied->tW,slicePartIndex->xE,sliceFields->yH
open PySem.Builtin.SmallTypes renaming nextOf->kx
open PySem.Builtin.Tuple renaming tupleExact->ma,tupleItemsOf->ya
open PySem.Calls renaming spliced_nil->rp,Name_function_global->tN,spliced_cons->tS
open PySem.CmpOp renaming NotIn->zA,In->Ac
open PySem.Code renaming quiet_builtin->wr,isFrame->wF,frames->zC
open PySem.EntryCells renaming newEntry->v6
open PySem.EqMixed renaming eq_bool_str->yA,eq_str_bool->yB,ne_bool_str->yF,ne_str_bool->yG,eq_int_str->yN,eq_str_int->yP,ne_int_str->yT,ne_str_int->yV
open PySem.EqNone renaming eq_none_none->yx,eq_none_bool->yy,eq_bool_none->yz,ne_none_none->yC,ne_none_bool->yD,ne_bool_none->yE,eq_none_int->yK,eq_none_str->yL,eq_int_none->yM,eq_str_none->yO,ne_none_int->yQ,ne_none_str->yR,ne_int_none->yS,ne_str_none->yU
open PySem.Expr renaming Call->z9
open PySem.F renaming plainAttrs_list->dy,slot_list_append->fh,type_list_append->fi,slot_dict_valueiterator_next->il,slot_tuple_iterator_next->km,excBase_ValueError->ot,args_dict_valueiterator_next_1->sF,entry_dict_valueiterator_next->sG,args_tuple_iterator_next_1->tm,entry_tuple_iterator_next->tK,attr_ValueError->uM,slot_dict_values_iter->uW,slot_dict_values->ww
open PySem.Heap renaming get?_push_of_some->ak,get?_push_size->bf,lt_size->bh,size_push->ff,get?_update_self->ip,get?_update_other->jw,get?_update_ne->mm,SameBut->oy,get?_push_ne->uq,size_update->xt,push->zf,ExtBut->zD
open PySem.Heap.IsSliceOf renaming new->zV
open PySem.Heap.Ns1 renaming of_empty->wD
open PySem.Heap.SameBut renaming update->qc
open PySem.IsRange renaming new->zB
open PySem.NameKind renaming free->qh,cell->wd
open PySem.Obj renaming mapSeq->fb,data_mapFields->ng,mapFields->nz,isFreed_of_fields->sI,cls_mapFields->wI
open PySem.Paired renaming length->cf
open PySem.PassesOwn renaming leaving->bn
open PySem.SeqAt.EqAt renaming int_str->zS,str_int->zT
open PySem.Str renaming ofString->li,length->zW
open PySem.Value renaming ref->bz,none->ij,type->iy,builtin->sQ,int->uC,str->wU,isStrOf->yJ,isInt->zw,bytes->zy,float->zz,bool->zU
open PySem.Value.type renaming inj->ym
open PySem.W renaming Frag->aa,keepIn->dq,mg_of->fj,fnOf->gj,findIn->gy,emptyDict->io,codeIn->iw,instObj->jt,exmOne->mr,WData->ms,callWith_K->my,kla_obj->nq,methodCall_KW->oe,isFn->pf,Looks->qi,findCls->qv,cellsFrom_some->rq,plainGet->sK,length_le_weightAllW->tz,plainGet_of->tF,callWith_K0->tG,nsIn->tL,lookIn->tR,CodeHd->ue,methodObj->uj,hasDictIn->uk,specialIn->uo,WellAll->vc,envX->vg,takerIn->vh,makesIn->vi,readsIn->vk,kla_fn->vU,codeHd_of_K->wb,codeRec_of->wm,mg_none_of->wx,plainOver->wB,handedIn->wZ,any_some->w6,WRecords->xk,kla_eval->xp,codeHdIn->xw,exm_one->xI,InstAt->x3,WalkOS->yt
open PySem.W.Codec renaming inInt->jv,encAll->sj,denoteAll->tq,app->v0,withinAll->xU,inLen->zM
open PySem.W.Looks renaming here->mw,ld->sO
open PySem.W.WData renaming weightAll->tu,int->z8
open PySem.Within renaming cons->ul,nil->z7
open Sum renaming inl->ko,inr->vX
open Sum.inl renaming inj->zx
open True renaming intro->iz
open UInt8 renaming ofNat->uv,le_iff_toNat_le->vz,toNat_ofNat'->wt,toNat_inj->xK,toNat_lt->yr
section
inductive Ex2 {A0 A1:Type} (p:A0->A1->Prop):Prop
 |intro(a:A0) (b:A1) (h:p a b):Ex2 p
inductive Ex3 {A0 A1 A2:Type} (p:A0->A1->A2->Prop):Prop
 |intro(a:A0) (b:A1) (c:A2) (h:p a b c):Ex3 p
inductive Ex4 {A0 A1 A2 A3:Type} (p:A0->A1->A2->A3->Prop):Prop
 |intro(a:A0) (b:A1) (c:A2) (d:A3) (h:p a b c d):Ex4 p
inductive Ex5 {A0 A1 A2 A3 A4:Type} (p:A0->A1->A2->A3->A4->Prop):Prop
 |intro(a:A0) (b:A1) (c:A2) (d:A3) (e:A4) (h:p a b c d e):Ex5 p
inductive Ex6 {A0 A1 A2 A3 A4 A5:Type} (p:A0->A1->A2->A3->A4->A5->Prop):Prop
 |intro(a:A0) (b:A1) (c:A2) (d:A3) (e:A4) (f:A5) (h:p a b c d e f):Ex6 p
inductive Ex7 {A0 A1 A2 A3 A4 A5 A6:Type} (p:A0->A1->A2->A3->A4->A5->A6->Prop):Prop
 |intro(a:A0) (b:A1) (c:A2) (d:A3) (e:A4) (f:A5) (g:A6) (h:p a b c d e f g):Ex7 p
inductive Ex8 {A0 A1 A2 A3 A4 A5 A6 A7:Type} (p:A0->A1->A2->A3->A4->A5->A6->A7->Prop):Prop
 |intro(a:A0) (b:A1) (c:A2) (d:A3) (e:A4) (f:A5) (g:A6) (h:A7) (h:p a b c d e f g h):Ex8 p
inductive Ex9 {A0 A1 A2 A3 A4 A5 A6 A7 A8:Type} (p:A0->A1->A2->A3->A4->A5->A6->A7->A8->Prop):Prop
 |intro(a:A0) (b:A1) (c:A2) (d:A3) (e:A4) (f:A5) (g:A6) (h:A7) (i:A8) (h:p a b c d e f g h i):Ex9 p
inductive Ex12 {A0 A1 A2 A3 A4 A5 A6 A7 A8 A9 A10 A11:Type} (p:A0->A1->A2->A3->A4->A5->A6->A7->A8->A9->A10->A11->Prop):Prop
 |intro(a:A0) (b:A1) (c:A2) (d:A3) (e:A4) (f:A5) (g:A6) (h:A7) (i:A8) (j:A9) (k:A10) (l:A11) (h:p a b c d e f g h i j k l):Ex12 p
end
section
namespace L2
open PySem PySem.Spec PyProof.Rows
abbrev Key:=Sum Int Str
def N8:Key->ag->Bool
 | .inl k,v=>zw k v
 | .inr x,v=>yJ x v
def rC (w:bv):Key->Int
 | .inl k=>hashInt k
 | .inr x=>hashStr w x
theorem BY:∀{k:Key} {v:ag},N8 k v=true->(∃i t,k=ko i/\v=uC i t)\/(∃x t,k=vX x/\v=wU x t)
 | .inl i,v,h=>by
   obtain⟨t,e⟩:=Value.isInt_shape (k:=i) (v:=v) h;exact .inl ⟨i,t,rfl,e⟩
 | .inr x,v,h=>by
   obtain⟨t,e⟩:=Value.isStrOf_shape (x:=x) (v:=v) h;exact .inr ⟨x,t,rfl,e⟩
theorem WS (i:Int) (t:Tok):N8 (.inl i) (.int i t)=true:=by simp[N8,zw]
theorem WT (x:Str) (t:Tok):N8 (.inr x) (.str x t)=true:=by simp[N8,yJ]
theorem gG (a b:Int):decide ((ko a:Key)=ko b)=(a==b):=by
 by_cases e:a=b
 ·subst e;simp
 ·have h:¬(ko a:Key)=ko b:=λq=>e (zx q);rw[decide_eq_false h];exact(beq_eq_false_iff_ne.mpr e).symm
theorem gH (a b:Str):decide ((vX a:Key)=vX b)=decide (a=b):=by
 by_cases e:a=b
 ·subst e;simp
 ·have h:¬(vX a:Key)=vX b:=λq=>e (Sum.inr.inj q);rw[decide_eq_false h,decide_eq_false e]
theorem gI (a:Int) (b:Str):decide ((ko a:Key)=vX b)=false:=decide_eq_false (λq=>nomatch q)
theorem gJ (a:Str) (b:Int):decide ((vX a:Key)=ko b)=false:=decide_eq_false (λq=>nomatch q)
def DF (prog:aw) (w:bv):PySem.KeyKind prog w Key where
 is:=N8
 hash:=rC w
 inj:=λv a b ha hb=>by
  rcases BY ha with⟨i,t,rfl,rfl⟩|⟨x,t,rfl,rfl⟩
  ·rcases BY hb with⟨j,u,rfl,e⟩|⟨y,u,rfl,e⟩
   ·injection e with e1 _;rw[e1]
   ·exact nomatch e
  ·rcases BY hb with⟨j,u,rfl,e⟩|⟨y,u,rfl,e⟩
   ·exact nomatch e
   ·injection e with e1 _;rw[e1]
 byValue:=λk v h=>by
  rcases BY h with⟨i,t,rfl,rfl⟩|⟨x,t,rfl,rfl⟩<;>rfl
 pyHash:=λhv h=>by
  rcases BY hv with⟨i,t,rfl,rfl⟩|⟨x,t,rfl,rfl⟩
  ·exact wpAny_pyHash_int h
  ·exact wpAny_pyHash_str h
 eqBool:=λhu hv h=>by
  rcases BY hu with⟨i,t,rfl,rfl⟩|⟨x,t,rfl,rfl⟩
  ·rcases BY hv with⟨j,u,rfl,rfl⟩|⟨y,u,rfl,rfl⟩
   ·rw[gG] at h;exact wpAny_eqBool_int h
   ·rw[gI] at h;exact zS i t y u _ _ _ _ h
  ·rcases BY hv with⟨j,u,rfl,rfl⟩|⟨y,u,rfl,rfl⟩
   ·rw[gJ] at h;exact zT x t j u _ _ _ _ h
   ·rw[gH] at h;exact wpAny_eqBool_str h
 «strs»:=λk x t v h=>by
  rcases BY h with⟨i,u,rfl,e⟩|⟨y,u,rfl,e⟩
  ·exact nomatch e
  ·injection e with e1 _;subst e1;cases v<;>rfl
theorem QV (prog:aw) (w:bv) (i:Int) (t:Tok):(DF prog w).is (.inl i) (.int i t)=true:=WS i t
theorem QW (prog:aw) (w:bv) (x:Str) (t:Tok):(DF prog w).is (.inr x) (.str x t)=true:=WT x t
inductive V where
 |non|bl (b:Bool)|int (i:Int)|str (x:Str)|byt (b:Array UInt8)|flt (b:UInt64)|ref (a:Addr)|ty (n:String)
 deriving DecidableEq
def RelV:V->ag->Prop
 | .non,u=>u=ij
 | .bl b,u=>u=zU b
 | .int i,u=>∃t,u=uC i t
 | .str x,u=>∃t,u=wU x t
 | .byt b,u=>∃t,u=zy b t
 | .flt b,u=>∃t,u=zz b t
 | .ref a,u=>u=bz a
 | .ty n,u=>u=iy n
abbrev Vals:List V->List ag->Prop:=cb RelV
theorem Vals.length {xs:List V} {us:List ag} (r:Vals xs us):xs.length=us.length:=cf r
theorem Vals.get:∀{xs:List V} {us:List ag} {i:Nat} {x:V},Vals xs us->xs[i]? =some x->∃u,us[i]? =some u/\RelV x u
 |_,_,_,_,.nil,e=>by simp at e
 |_,_,0,_,.cons r _,e=>by simp at e;subst e;exact⟨_,rfl,r⟩
 |_,_,i+1,x,.cons _ t,e=>by
  obtain⟨u,h1,h2⟩:=Vals.get (i:=i) (x:=x) t (by simpa using e);exact⟨u,by simpa using h1,h2⟩
theorem Vals.set {x:V} {u:ag} (r:RelV x u):∀{xs:List V} {us:List ag} (i:Nat),Vals xs us->Vals (xs.set i x) (us.set i u)
 |_,_,_,.nil=>.nil
 |_,_,0,.cons _ t=>.cons r t
 |_,_,i+1,.cons q t=>.cons q (Vals.set r i t)
theorem Vals.append:∀{xs ys:List V} {us ws:List ag},Vals xs us->Vals ys ws->Vals (xs++ys) (us++ws)
 |_,_,_,_,.nil,s=>s
 |_,_,_,_,.cons r t,s=>.cons r (Vals.append t s)
theorem Vals.take:∀{xs:List V} {us:List ag} (n:Nat),Vals xs us->Vals (xs.take n) (us.take n)
 |_,_,0,_=>.nil
 |_,_,_+1,.nil=>.nil
 |_,_,n+1,.cons r t=>.cons r (Vals.take n t)
theorem Vals.drop:∀{xs:List V} {us:List ag} (n:Nat),Vals xs us->Vals (xs.drop n) (us.drop n)
 |_,_,0,r=>r
 |_,_,_+1,.nil=>.nil
 |_,_,n+1,.cons _ t=>Vals.drop n t
def RelO:Option V->Option ag->Prop
 |some v,some u=>RelV v u
 |none,none=>True
 |_,_=>False
def KV {κ:Type}:List (κ×V)->List (κ×ag)->Prop:=cb λ(p:κ×V) (q:κ×ag)=>p.1=q.1/\RelV p.2 q.2
def kV:Key->V
 | .inl i=>.int i
 | .inr x=>.str x
inductive HO where
 |lst (xs:List V)
 |tup (xs:List V)
 |dK (kvs:List (Key×V))|dT (kvs:List (List Key×V))
 |set (S:Int->Bool) (n:Nat)
 |ins (C dx:Addr) (fs:List (Str×V))
 |own (x:Addr)
 |xd (fs:List (Str×V))
 |met (f x:Addr)
 |rng (lo hi:Int)
 |frz (o:Obj) (u:HO)
 |tbl (ps:Array ag)
 |ext (φ:Heap->Prop)
abbrev Hp:=Addr->Option HO
def upd (H:Hp) (a:Addr) (o:HO):Hp:=λb=>if b=a then some o else H b
theorem upd_same {H:Hp} {a:Addr} {o:HO}:upd H a o a=some o:=by unfold upd;rw[if_pos rfl]
theorem AE {H:Hp} {a b:Addr} {o:HO} (h:b≠a):upd H a o b=H b:=by unfold upd;rw[if_neg h]
theorem cE {H:Hp} {a:Addr} {o u:HO}:upd (upd H a o) a u=upd H a u:=by
 funext b;unfold upd;split<;>rfl
theorem B1 {H:Hp} {a b:Addr} {o u:HO} (h:H a=some o) (h':H b=some u) (d:o≠u):a≠b:=by
 intro e;subst e;rw[h] at h';exact d (cp h')
theorem AG {H:Hp} {a b:Addr} {o:HO} (h:H a=some o) (h':H b=none):a≠b:=by
 intro e;subst e;rw[h] at h';cases h'
section
variable (P:aw) (w:bv)
def ObjOk (H:Hp) (h:Heap) (a:Addr):HO->Prop
 | .lst xs=>xs.length<=sizeLine/\Ex2 λ(its:List ag) (n:Nat)=>Vals xs its/\h.get? a=some { cls:=.type "list",data:=.seq its.toArray n }
 | .tup xs=>xs.length<=sizeLine/\∃its:List ag,Vals xs its/\IsTup h a its.toArray
 | .dK kvs=>kvs.length<=sizeLine/\(a==qw)=false/\∃vs,KV kvs vs/\h.DictOf (DF P w) a vs
 | .dT kvs=>kvs.length<=sizeLine/\(a==qw)=false/\∃xs:List (List Key×Addr×ag),
  cb (λ(p:List Key×V) (q:List Key×Addr×ag)=>p.1=q.1/\H q.2.1=some (.tup (p.1.map kV))/\RelV p.2 q.2.2) kvs xs/\
  Ex3 λo es ep=>h.get? a=some o/\o.ExactDict/\o.data= .dict es ep/\es.toList=xs.map (wg (tM (DF P w)))/\(xs.map (·.1)).Nodup
 | .set S n=>h.SetOf (intKind P w) a S n
 | .ins C dx fs=>H dx=some (.own a)/\fs.length<=1000/\dx≠a/\h.get? a=some (jt C dx)/\
  ∃mA,h.Ns1 dx mA/\(∀f,RelO (fs.lookup f) (mA f))/\ow mA (fs.map (·.1))
 | .own _=>∃o,h.get? a=some o
 | .xd fs=>∃mA,h.Ns1 a mA/\∀f,RelO (fs.lookup f) (mA f)
 | .rng lo hi=>Ex3 λt u v=>h.get? a=some { cls:=.type "range",data:=.fields #[.int lo t,.int hi u,.int 1 v] }
 | .frz o u=>h.get? a=some o/\ObjOk H h a u
 | .tbl ps=>h.get? a=some { cls:=.none,data:=.fields ps }
 | .met f x=>h.get? a=some (uj (.ref f) (.ref x))
 | .ext φ=>φ h/\(∃o,h.get? a=some o)/\∀h1 h2:Heap,φ h1->(∀o,h1.get? a=some o->h2.get? a=some o)->φ h2
def HOk (H:Hp) (h:Heap):Prop:=∀a o,H a=some o->ObjOk P w H h a o
end
section
variable {P:aw} {w:bv} {H H':Hp} {h h':Heap} {a:Addr} {o:HO}
theorem ObjOk.lt (x:ObjOk P w H h a o):a<h.objs.size:=by
 cases o with
 |lst xs=>obtain⟨_,_,_,_,e⟩:=x;exact bh e
 |tup xs=>obtain⟨_,_,_,p⟩:=x;exact p.lt
 |dK kvs=>obtain⟨_,_,_,_,o,_,_,e,_⟩:=x;exact bh e
 |dT kvs=>obtain⟨_,_,_,_,o,_,_,e,_⟩:=x;exact bh e
 |set S n=>obtain⟨o,_,_,_,e,_⟩:=x;exact bh e
 |ins C dx fs=>obtain⟨_,_,_,e,_⟩:=x;exact bh e
 |own y=>obtain⟨_,e⟩:=x;exact bh e
 |xd fs=>obtain⟨_,⟨_,_,_,e,_⟩,_⟩:=x;exact bh e
 |rng lo hi=>obtain⟨_,_,_,e⟩:=x;exact bh e
 |frz ob u=>obtain⟨e,_⟩:=x;exact bh e
 |tbl ps=>exact bh (show h.get? a=some _ from x)
 |met f y=>exact bh (show h.get? a=some _ from x)
 |ext φ=>obtain⟨_,⟨_,e⟩,_⟩:=x;exact bh e
theorem cb.mapP {α β:Type} {F G:α->β->Prop}:∀{l₁:List α} {l₂:List β},cb F l₁ l₂->(∀a b,F a b->G a b)->cb G l₁ l₂
 |_,_,.nil,_=>.nil
 |_,_,.cons r t,f=>.cons (f _ _ r) (cb.mapP t f)
theorem cb.imp' {α β:Type} {F G:α->β->Prop} (f:∀a b,F a b->G a b) {l₁:List α} {l₂:List β} (r:cb F l₁ l₂):cb G l₁ l₂:=cb.mapP r f
theorem ObjOk.stay (x:ObjOk P w H h a o) (k:∀b u,(b=a\/H b=some (.own a))->h.get? b=some u->h'.get? b=some u)
 (ho:∀b,H b=some (.own a)->H' b=some (.own a)) (ht:∀b xs,H b=some (.tup xs)->H' b=some (.tup xs)):ObjOk P w H' h' a o:=by
 induction o with
 |lst xs=>obtain⟨z,its,n,r,e⟩:=x;exact⟨z,its,n,r,k _ _ (.inl rfl) e⟩
 |tup xs=>obtain⟨z,its,r,ob,e,c⟩:=x;exact⟨z,its,r,ob,k _ _ (.inl rfl) e,c⟩
 |dK kvs=>obtain⟨z,y,vs,r,ob,es,ep,e,c⟩:=x;exact⟨z,y,vs,r,ob,es,ep,k _ _ (.inl rfl) e,c⟩
 |dT kvs=>
  obtain⟨z,y,xs,r,ob,es,ep,e,c⟩:=x;exact⟨z,y,xs,cb.mapP r λp q z=>⟨z.1,ht _ _ z.2.1,z.2.2⟩,ob,es,ep,k _ _ (.inl rfl) e,c⟩
 |set S n=>obtain⟨ob,es,ep,t,e,c⟩:=x;exact⟨ob,es,ep,t,k _ _ (.inl rfl) e,c⟩
 |ins C dx fs=>
  obtain⟨d,z,ne,e,mA,⟨od,es,ep,e2,c⟩,r⟩:=x;exact⟨ho _ d,z,ne,k _ _ (.inl rfl) e,mA,⟨od,es,ep,k _ _ (.inr d) e2,c⟩,r⟩
 |own y=>obtain⟨ob,e⟩:=x;exact⟨ob,k _ _ (.inl rfl) e⟩
 |xd fs=>obtain⟨mA,⟨od,es,ep,e,c⟩,r⟩:=x;exact⟨mA,⟨od,es,ep,k _ _ (.inl rfl) e,c⟩,r⟩
 |rng lo hi=>obtain⟨t,u,v,e⟩:=x;exact⟨t,u,v,k _ _ (.inl rfl) e⟩
 |frz ob u ih=>obtain⟨e,q⟩:=x;exact⟨k _ _ (.inl rfl) e,ih q⟩
 |tbl ps=>
  have e:h.get? a=some { cls:=.none,data:=.fields ps }:=x;show h'.get? a=some { cls:=.none,data:=.fields ps };exact k a _ (.inl rfl) e
 |met f y=>
  have e:h.get? a=some (uj (.ref f) (.ref y)):=x;show h'.get? a=some (uj (.ref f) (.ref y));exact k a _ (.inl rfl) e
 |ext φ=>obtain⟨p,⟨o,e⟩,st⟩:=x;exact⟨st _ _ p λo q=>k _ _ (.inl rfl) q,⟨o,k _ _ (.inl rfl) e⟩,st⟩
theorem HOk.lt (x:HOk P w H h) (e:H a=some o):a<h.objs.size:=(x a o e).lt
theorem HOk.fresh (x:HOk P w H h) (e:h.objs.size<=a):H a=none:=by
 cases q:H a with
 |none=>rfl
 |some u=>exact absurd (br (x.lt q) e) (iu _)
theorem HOk.kept (x:HOk P w H h) (k:∀b u,h.get? b=some u->h'.get? b=some u):HOk P w H h':=λa o e=>
 (x a o e).stay (λb u _ q=>k b u q) (λ_ q=>q) λ_ _ q=>q
theorem HOk.laid (x:HOk P w H h) (k:∀b u,h.get? b=some u->h'.get? b=some u) (hp:h.objs.size<=a) (new:ObjOk P w (upd H a o) h' a o):HOk P w (upd H a o) h':=λb u e=>by
 have hn:=x.fresh hp;by_cases hb:b=a
 ·subst hb;rw[upd_same] at e;cases e;exact new
 ·rw[AE hb] at e;exact(x b u e).stay (λc v _ q=>k c v q) (λc q=>by rw[AE (AG q hn)];exact q) λc xs q=>by rw[AE (AG q hn)];exact q
end
def Rd (H:Hp) (a:Addr) (u:HO):Prop:=H a=some u\/∃o,H a=some (.frz o u)
theorem Rd.ok {P:aw} {w:bv} {H:Hp} {h:Heap} {a:Addr} {u:HO} (r:Rd H a u) (x:HOk P w H h):ObjOk P w H h a u:=by
 rcases r with r|⟨o,r⟩
 ·exact x a u r
 ·obtain⟨_,q⟩:=x a _ r;exact q
def Mut:Option HO->Prop
 |some (.lst _)=>True
 |some (.dK _)=>True
 |some (.dT _)=>True
 |some (.set _ _)=>True
 |some (.ins _ _ _)=>True
 |some (.ext _)=>True
 |_=>False
section
variable {P:aw} {w:bv} {H:Hp} {h h':Heap} {x e:Addr} {o':HO}
theorem HOk.write (ok:HOk P w H h) (mu:Mut (H x)) (he:e=x\/H e=some (.own x)) (k:∀b u,b≠e->h.get? b=some u->h'.get? b=some u) (heo:∃u,h'.get? e=some u)
 (new:ObjOk P w (upd H x o') h' x o'):HOk P w (upd H x o') h':=λb u q=>by
 have nown:∀c y,H c=some (.own y)->c≠x:=λc y r z=>by subst z;rw[r] at mu;exact mu
 have ntup:∀c xs,H c=some (.tup xs)->c≠x:=λc xs r z=>by subst z;rw[r] at mu;exact mu
 by_cases hb:b=x
 ·subst hb;rw[upd_same] at q;cases q;exact new
 ·rw[AE hb] at q;by_cases hbe:b=e
  ·have q':H b=some (.own x):=by
    rcases he with z|z
    ·exact absurd (hbe.trans z) hb
    ·rw[hbe];exact z
   rw[q] at q';cases q';obtain⟨v,hv⟩:=heo;exact⟨v,by rw[hbe];exact hv⟩
  ·refine(ok b u q).stay (λc v hc r=>k c v ?_ r) (λc r=>by rw[AE (nown c b r)];exact r) λc xs r=>by rw[AE (ntup c xs r)];exact r
   rcases hc with rfl|hc
   ·exact hbe
   ·rintro rfl;rcases he with z|z
    ·exact nown c b hc z
    ·rw[hc] at z;cases z;exact hb rfl
end
structure Un (fs ex:List Addr) (H H':Hp) (h h':Heap):Prop where
 keep:∀b o,h.get? b=some o->H b=none->b∉fs->b∉ex->h'.get? b=some o
 slot:∀b o,h.get? b=some o->H b=none->b∈fs->b∉ex->∃sl,h'.get? b=some { o with slots:=sl }
 free:∀b o,h.get? b=some o->H b=none->b∉ex->H' b=none
 there:∀b o,h.get? b=some o->b∉ex->∃o',h'.get? b=some o'
 tups:∀b xs,H b=some (.tup xs)->H' b=some (.tup xs)
 frzs:∀b o u,H b=some (.frz o u)->H' b=some (.frz o u)
 tbls:∀b ps,H b=some (.tbl ps)->∃more,H' b=some (.tbl (ps++more))
section
variable {fs fs' ex ex':List Addr} {H H1 H2:Hp} {h h1 h2 h':Heap} {a x e:Addr} {o:HO}
theorem Un.any (u:Un fs ex H H1 h h1) {b:Addr} {ob:Obj} (q:h.get? b=some ob) (n:H b=none) (hx:b∉ex):∃sl,h1.get? b=some { ob with slots:=sl }:=by
 by_cases hb:b∈fs
 ·exact u.slot b ob q n hb hx
 ·exact⟨ob.slots,u.keep b ob q n hb hx⟩
theorem Un.trans (a:Un fs ex H H1 h h1) (b:Un fs ex H1 H2 h1 h2):Un fs ex H H2 h h2 where
 keep:=λc ob q n hc hx=>b.keep c ob (a.keep c ob q n hc hx) (a.free c ob q n hx) hc hx
 slot:=λc ob q n hc hx=>by
  obtain⟨sl,e1⟩:=a.slot c ob q n hc hx;obtain⟨sl',e2⟩:=b.slot c _ e1 (a.free c ob q n hx) hc hx;exact⟨sl',e2⟩
 free:=λc ob q n hx=>by
  obtain⟨o',e1⟩:=a.there c ob q hx;exact b.free c o' e1 (a.free c ob q n hx) hx
 there:=λc ob q hx=>by
  obtain⟨o',e1⟩:=a.there c ob q hx;exact b.there c o' e1 hx
 tups:=λc xs q=>b.tups c xs (a.tups c xs q)
 frzs:=λc ob xs q=>b.frzs c ob xs (a.frzs c ob xs q)
 tbls:=λc ps q=>by
  obtain⟨m1,e1⟩:=a.tbls c ps q;obtain⟨m2,e2⟩:=b.tbls c _ e1;exact⟨m1++m2,by rw[e2,wj]⟩
theorem Un.kept (k:∀b u,h.get? b=some u->h'.get? b=some u):Un fs ex H H h h':=
 ⟨λb ob q _ _ _=>k b ob q,λb ob q _ _ _=>⟨ob.slots,k b ob q⟩,λ_ _ _ n _=>n,λb ob q _=>⟨ob,k b ob q⟩,λ_ _ q=>q,λ_ _ _ q=>q,λ_ ps q=>⟨#[],by rw[q];simp⟩⟩
theorem Un.refl:Un fs ex H H h h:=Un.kept λ_ _ q=>q
theorem Un.laid (k:∀b u,h.get? b=some u->h'.get? b=some u) (hp:h.objs.size<=a) (hn:H a=none):Un fs ex H (upd H a o) h h' where
 keep:=λb u q _ _ _=>k b u q
 slot:=λb u q _ _ _=>⟨u.slots,k b u q⟩
 free:=λb u q n _=>by rw[AE (cg (br (bh q) hp))];exact n
 there:=λb u q _=>⟨u,k b u q⟩
 tups:=λb xs q=>by rw[AE (AG q hn)];exact q
 frzs:=λb u xs q=>by rw[AE (AG q hn)];exact q
 tbls:=λb ps q=>⟨#[],by rw[AE (AG q hn),q];simp⟩
theorem Un.write (mu:Mut (H x)) (he:e=x\/H e=some (.own x)) (k:∀b u,b≠e->h.get? b=some u->h'.get? b=some u) (heo:∃u,h'.get? e=some u):Un fs ex H (upd H x o) h h':=by
 have hx:∀b,H b=none->b≠x:=λb n z=>by subst z;rw[n] at mu;exact mu
 have hb:∀b,H b=none->b≠e:=λb n z=>by
  subst z;rcases he with r|r
  ·exact hx b n r
  ·rw[n] at r;cases r
 have hm:∀b u,H b=some u->¬Mut (some u)->b≠x:=λb u q nm z=>by subst z;rw[q] at mu;exact nm mu
 refine⟨λb u q n _ _=>k b u (hb b n) q,λb u q n _ _=>⟨u.slots,k b u (hb b n) q⟩,λb u q n _=>by rw[AE (hx b n)];exact n,λb u q _=>?_,
  λb xs q=>by rw[AE (hm b _ q λz=>z)];exact q,λb u xs q=>by rw[AE (hm b _ q λz=>z)];exact q,λb ps q=>⟨#[],by rw[AE (hm b _ q λz=>z),q];simp⟩⟩
 by_cases hbe:b=e
 ·subst hbe;exact heo
 ·exact⟨u,k b u hbe q⟩
theorem Un.mono (u:Un fs ex H H1 h h1) (hs:∀b∈fs,b∈fs') (hx:∀b∈ex,b∈ex'):Un fs' ex' H H1 h h1:=
 ⟨λb ob q n hb he=>u.keep b ob q n (λz=>hb (hs b z)) λz=>he (hx b z),λ_ _ q n _ he=>u.any q n λz=>he (hx _ z),λb ob q n he=>u.free b ob q n λz=>he (hx b z),λb ob q he=>u.there b ob q λz=>he (hx b z),u.tups,u.frzs,u.tbls⟩
end
def trk (h:Heap) (H:Hp):List Addr:=(ji h.objs.size).filter λa=>(H a).isSome
def NX (h:Heap) (H:Hp):Heap:=PySem.W.hideAll h (trk h H)
theorem WU (h:Heap) (H:Hp):(NX h H).objs.size=h.objs.size:=PySem.W.hideAll_size _ _
theorem YA {h:Heap} {H:Hp} {b:Addr} {o:Obj} (e:h.get? b=some o) (n:H b=none):(NX h H).get? b=some o:=
 PySem.W.hideAll_get _ e λhm=>by
  have q:(H b).isSome=true:=(xD.mp hm).2;rw[n] at q;simp at q
theorem cF {h:Heap} {H:Hp} {b:Addr} {o:Obj} (e:(NX h H).get? b=some o):h.get? b=some o/\H b=none:=by
 have e':h.get? b=some o:=PySem.W.of_hideAll (trk h H) e;refine⟨e',?_⟩;cases q:H b with
 |none=>rfl
 |some x=>
  have hm:b∈trk h H:=xD.mpr ⟨xY.mpr (bh e'),by simp[q]⟩;have z:(NX h H).get? b=none:=PySem.W.hideAll_none (trk h H) hm;rw[z] at e;cases e
def cG (g h:Heap) (L:Addr):List (Addr×Obj):=(ji h.objs.size).filterMap λa=>if a=L\/(g.get? a).isSome=true then none else(h.get? a).map λo=>(a,o)
def rest (g h:Heap) (L d:Addr):List (Addr×Obj):=(cG g h L).filter λp=>decide (p.1≠d)
structure Mod (K:aa) (mg:Str->Option ag) (base:Heap):Prop where
 kin:K.In base
 glob:base.Ns mainGlobals mg
 blt:∃mb,base.Ns uX mb/\∀x:Str,x≠"__name__"->mb x=jj x
 nolimit:base.NoLimit
structure Cx where
 prog:aw
 w:bv
 K:aa
 mg:Str->Option ag
 base:Heap
 A:cy
 N:List Str
 s_0:ai
 H_0:Hp
 env:Env
 outer:List Env
 stack:List Env
 ex:List Addr
 fn:Str->Bool
 calm:Bool
 pn:List (Addr×Obj)
 xe:ag->ai->Prop
def frs (l:List Env):List Addr:=l.filterMap (·.frame)
abbrev Cx.fs (X:Cx):List Addr:=frs X.outer
def Vis (sc:Scope) (x:Str):Prop:=sc.names.lookup x=some .local\/sc.names.lookup x=some .cell\/sc.names.lookup x=some .free
def Loc (sc:Scope) (x:Str):Prop:=sc.names.lookup x=some .local\/sc.names.lookup x=some .cell
def rD (env:Env) (h:Heap) (m:Str->Option ag) (x:Str) (u:ag):Prop:=
 (env.kindOf x=some .local/\m x=some u)\/((env.kindOf x=some .cell\/env.kindOf x=some .free)/\∃c,env.cells.lookup x=some c/\h.IsCell c (some u))
structure Cx.Ok (X:Cx):Prop where
 mod:Mod X.K X.mg X.base
 kind:X.env.scope.kind= .function
 glob:X.env.globals=mainGlobals
 blt:X.env.builtins=uX
 above:X.s_0.heap.objs.size<=X.env.locals
 inj:∀x y c,X.env.cells.lookup x=some c->X.env.cells.lookup y=some c->x=y
 has:∀x,(X.env.kindOf x=some .cell\/X.env.kindOf x=some .free)->∃c,X.env.cells.lookup x=some c
 cab:∀x c,X.fn x=true->X.env.cells.lookup x=some c->X.s_0.heap.objs.size<=c
 hd:X.calm=true->X.A.handled=none
 frames:X.A.frames=some X.stack
 stk:X.stack=X.outer\/(X.stack=X.env::X.outer/\X.env.frame=some X.env.locals)
 exf:∀b∈X.ex,b≠X.env.locals/\∀x c,X.env.cells.lookup x=some c->c≠b
 bs:∀b o,X.base.get? b=some o->X.s_0.heap.get? b=some o/\X.H_0 b=none
 bsz:X.base.objs.size<=X.s_0.heap.objs.size
 noex:∀b o,X.base.get? b=some o->b∉X.ex
 exfs:∀b∈X.ex,b∉X.fs
 funs:X.s_0.heap.FunFrames X.base X.outer
 frf:∀b∈X.fs,X.H_0 b=none
structure Inv (X:Cx) (pins:List (Addr×Obj)) (σ:List (Option V)) (H:Hp) (s:ai):Prop where
 ok:X.Ok
 os:s.os=X.s_0.os
 bare:uY s.gens
 base:Un X.fs X.ex X.H_0 H X.s_0.heap s.heap
 loc:∃m,s.heap.Ns X.env.locals m/\∀(i:Nat) (x:Str) (v:V),X.N[i]? =some x->σ[i]? =some (some v)->Vis X.env.scope x->∃u,RelV v u/\rD X.env s.heap m x u
 cell:∀x c,X.env.cells.lookup x=some c->∃v,s.heap.IsCell c v
 free:H X.env.locals=none
 freeC:∀x c,X.env.cells.lookup x=some c->H c=none
 pin:∀p∈X.pn++pins,s.heap.get? p.1=some p.2/\H p.1=none/\p.1≠X.env.locals/\p.1∉X.fs/\∀v,p.2.data≠.cell v
 hok:HOk X.prog X.w H s.heap
 len:σ.length=X.N.length
section
variable {X:Cx} {pins:List (Addr×Obj)} {σ:List (Option V)} {H H':Hp} {s:ai} {h':Heap}
theorem Cx.Ok.nofr (ok:X.Ok) {b:Addr} {o:Obj} (e:X.base.get? b=some o):b∉X.fs:=λhb=>by
 have:=(ok.funs.mem hb).1;rw[e] at this;cases this
theorem Inv.bs (I:Inv X pins σ H s):∀b o,X.base.get? b=some o->s.heap.get? b=some o/\H b=none:=λb o e=>
 ⟨I.base.keep b o (I.ok.bs b o e).1 (I.ok.bs b o e).2 (I.ok.nofr e) (I.ok.noex b o e),I.base.free b o (I.ok.bs b o e).1 (I.ok.bs b o e).2 (I.ok.noex b o e)⟩
theorem Inv.bk (I:Inv X pins σ H s):∀b o,X.base.get? b=some o->s.heap.get? b=some o:=λb o e=>(I.bs b o e).1
theorem Inv.mod (I:Inv X pins σ H s):Mod X.K X.mg X.base:=I.ok.mod
theorem Inv.kIn (I:Inv X pins σ H s):X.K.In s.heap:=I.ok.mod.kin.keeps I.bk
theorem Inv.nolimit (I:Inv X pins σ H s):s.heap.NoLimit:=I.ok.mod.nolimit.keeps I.bk
theorem Inv.fr (I:Inv X pins σ H s):∃m,Fr X.base X.env.locals s.heap m:=
 let ⟨m,hn,_⟩:=I.loc
 ⟨m,hn,I.bk,cu I.ok.bsz I.ok.above⟩
theorem Inv.lt (I:Inv X pins σ H s):X.env.locals<s.heap.objs.size:=let ⟨_,hn,_⟩:=I.loc;hn.lt
theorem Inv.sz (I:Inv X pins σ H s):X.s_0.heap.objs.size<=s.heap.objs.size:=cu I.ok.above (rj I.lt)
theorem Inv.nofs (I:Inv X pins σ H s) {a:Addr} (h:s.heap.objs.size<=a):a∉X.fs:=λhb=>by
 obtain⟨_,o,ho,_⟩:=I.ok.funs.mem hb;exact absurd (br (bh ho) (cu I.sz h)) (iu _)
theorem Inv.cne (I:Inv X pins σ H s):∀x c,X.env.cells.lookup x=some c->c≠X.env.locals:=λx c e z=>by
 obtain⟨v,o,ho,hd⟩:=I.cell x c e;obtain⟨m,⟨o',es,ep,ho',hd',_⟩,_⟩:=I.loc;rw[z,ho'] at ho;cases ho;rw[hd'] at hd;cases hd
theorem Inv.funs (I:Inv X pins σ H s):s.heap.FunFrames X.base X.outer:=by
 have all:∀(l:List Env),(∀b∈frs l,b∈X.fs)->X.s_0.heap.FunFrames X.base l->s.heap.FunFrames X.base l:=by
  intro l;induction l with
  |nil=>intro _ _;trivial
  |cons env r ih=>
   intro hs hl;obtain⟨hk,⟨L,o,hf,hn,ho,hd⟩,hr⟩:=hl;have hL:L∈X.fs:=hs L (by unfold frs;rw[tE,hf];exact bb);obtain⟨sl,e⟩:=I.base.slot L o ho (I.ok.frf L hL) hL λz=>I.ok.exfs L z hL;exact⟨hk,⟨L,_,hf,hn,e,hd⟩,ih (λb hb=>hs b (by unfold frs;rw[tE,hf];exact ao _ hb)) hr⟩
 exact all X.outer (λ_ hb=>hb) I.ok.funs
theorem Inv.stack (I:Inv X pins σ H s):s.heap.FunFrames X.base X.stack:=by
 rcases I.ok.stk with e|⟨e,hf⟩
 ·rw[e];exact I.funs
 ·rw[e];obtain⟨m,hn,_⟩:=I.loc;refine .cons (by rw[I.ok.kind];decide) hf hn ?_ I.funs;exact Heap.get?_none_of_le (cu I.ok.bsz I.ok.above)
theorem Inv.stkSub (I:Inv X pins σ H s):∀b∈frs X.stack,b∈X.env.locals::X.fs:=λb hb=>by
 rcases I.ok.stk with e|⟨e,hf⟩
 ·rw[e] at hb;exact ao _ hb
 ·rw[e] at hb;unfold frs at hb;rw[tE,hf] at hb;exact hb
theorem Inv.stkFree (I:Inv X pins σ H s):∀b∈frs X.stack,H b=none:=λb hb=>by
 rcases bp.mp (I.stkSub b hb) with e|hb
 ·rw[e];exact I.free
 ·obtain⟨_,o,ho,_⟩:=I.ok.funs.mem hb;exact I.base.free b o ho (I.ok.frf b hb) λz=>I.ok.exfs b z hb
theorem Inv.step {g':Array GenState} {t':Nat} {d':Drawn} {ch:List Addr} (I:Inv X pins σ H s)
 (hch:∀b∈ch,(b∈X.ex\/X.s_0.heap.objs.size<=b)/\b≠X.env.locals/\(∀x c,X.env.cells.lookup x=some c->c≠b)/\∀p∈X.pn++pins,p.1≠b)
 (keep:∀b o,b≠X.env.locals->b∉X.fs->b∉ch->s.heap.get? b=some o->H b=none->h'.get? b=some o)
 (slot:∀b o,b≠X.env.locals->b∈X.fs->b∉ch->s.heap.get? b=some o->H b=none->∃sl,h'.get? b=some { o with slots:=sl }) (free:∀b o,b∉ch->s.heap.get? b=some o->H b=none->H' b=none)
 (there:∀b o,b∉ch->s.heap.get? b=some o->∃o',h'.get? b=some o')
 (tups:∀b xs,H b=some (.tup xs)->H' b=some (.tup xs)) (frzs:∀b o u,H b=some (.frz o u)->H' b=some (.frz o u)) (tbls:∀b ps,H b=some (.tbl ps)->∃more,H' b=some (.tbl (ps++more)))
 (ns:∀m,s.heap.Ns X.env.locals m->h'.Ns X.env.locals m) (hok:HOk X.prog X.w H' h') (hg:uY g'):
 Inv X pins σ H' { s with heap:=h',gens:=g',drawn:=d',toks:=t' }:=by
 have neL:∀b o,X.s_0.heap.get? b=some o->b≠X.env.locals:=λb o e=>cg (br (bh e) I.ok.above);have neC:∀b o,X.s_0.heap.get? b=some o->b∉X.ex->b∉ch:=λb o e hx hb=>by
  rcases(hch b hb).1 with z|z
  ·exact hx z
  ·exact absurd (br (bh e) z) (iu _)
 have cellK:∀x c,X.env.cells.lookup x=some c->∀v,s.heap.IsCell c v->h'.IsCell c v:=λx c e v ⟨o,ho,hd⟩=>by
  have nch:c∉ch:=λz=>(hch c z).2.2.1 x c e rfl;by_cases hc:c∈X.fs
  ·obtain⟨sl,q⟩:=slot c o (I.cne x c e) hc nch ho (I.freeC x c e);exact⟨_,q,hd⟩
  ·exact⟨o,keep c o (I.cne x c e) hc nch ho (I.freeC x c e),hd⟩
 refine⟨I.ok,I.os,hg,⟨λb o e n hb hx=>?_,λb o e n hb hx=>?_,λb o e n hx=>?_,λb o e hx=>?_,λb xs e=>tups b xs (I.base.tups b xs e),λb o xs e=>frzs b o xs (I.base.frzs b o xs e),λb ps e=>?_⟩,?_,λx c e=>?_,?_,λx c e=>?_,λp hp=>?_,hok,I.len⟩
 ·exact keep b o (neL b o e) hb (neC b o e hx) (I.base.keep b o e n hb hx) (I.base.free b o e n hx)
 ·obtain⟨sl,e1⟩:=I.base.slot b o e n hb hx;obtain⟨sl',e2⟩:=slot b _ (neL b o e) hb (neC b o e hx) e1 (I.base.free b o e n hx);exact⟨sl',e2⟩
 ·obtain⟨o',e1⟩:=I.base.there b o e hx;exact free b o' (neC b o e hx) e1 (I.base.free b o e n hx)
 ·obtain⟨o',e1⟩:=I.base.there b o e hx;exact there b o' (neC b o e hx) e1
 ·obtain⟨m1,e1⟩:=I.base.tbls b ps e;obtain⟨m2,e2⟩:=tbls b _ e1;exact⟨m1++m2,by rw[e2,wj]⟩
 ·obtain⟨m,hn,hl⟩:=I.loc;refine⟨m,ns m hn,λi x v e1 e2 e3=>?_⟩;obtain⟨u,r,l⟩:=hl i x v e1 e2 e3;refine⟨u,r,?_⟩;rcases l with l|⟨k,c,e,z⟩
  ·exact .inl l
  ·exact .inr ⟨k,c,e,cellK x c e _ z⟩
 ·obtain⟨v,z⟩:=I.cell x c e;exact⟨v,cellK x c e v z⟩
 ·obtain⟨m,⟨o,_,_,ho,_⟩,_⟩:=I.loc;exact free _ o (λz=>(hch _ z).2.1 rfl) ho I.free
 ·obtain⟨v,o,ho,hd⟩:=I.cell x c e;exact free c o (λz=>(hch c z).2.2.1 x c e rfl) ho (I.freeC x c e)
 ·obtain⟨e,n,ne,nf,d⟩:=I.pin p hp;have nch:p.1∉ch:=λz=>(hch p.1 z).2.2.2 p hp rfl;exact⟨keep p.1 p.2 ne nf nch e n,free p.1 p.2 nch e n,ne,nf,d⟩
theorem Inv.un {t':Nat} (I:Inv X pins σ H s) (u:Un X.fs [] H H' s.heap h') (hok:HOk X.prog X.w H' h'):Inv X pins σ H' { s with heap:=h',toks:=t' }:=by
 obtain⟨m,⟨o,es,ep,ho,r⟩,_⟩:=id I.loc;obtain⟨sl,hL⟩:=u.any ho I.free (by simp);exact I.step (g':=s.gens) (d':=s.drawn) (ch:=[]) (λ_ z=>nomatch z) (λb o _ hb _ e n=>u.keep b o e n hb (by simp)) (λb o _ hb _ e n=>u.slot b o e n hb (by simp)) (λb o _ e n=>u.free b o e n (by simp)) (λb o _ e=>u.there b o e (by simp)) u.tups u.frzs u.tbls (λm' hm=>by
  obtain⟨o',es',ep',ho',r'⟩:=hm;rw[ho] at ho';cases ho';exact⟨_,es',ep',hL,r'⟩) hok I.bare
theorem Inv.call {g':Array GenState} {t':Nat} {d':Drawn} {ch:List Addr} (I:Inv X pins σ H s) (u:Un (frs X.stack) ch H H' s.heap h') (hok:HOk X.prog X.w H' h') (hg:uY g')
 (hch:∀b∈ch,(b∈X.ex\/X.s_0.heap.objs.size<=b)/\b≠X.env.locals/\(∀x c,X.env.cells.lookup x=some c->c≠b)/\∀p∈X.pn++pins,p.1≠b):
 Inv X pins σ H' { s with heap:=h',gens:=g',drawn:=d',toks:=t' }:=by
 obtain⟨m,⟨o,es,ep,ho,r⟩,_⟩:=id I.loc;obtain⟨sl,hL⟩:=u.any ho I.free λz=>(hch _ z).2.1 rfl;exact I.step (ch:=ch) hch (λb o hL hb hc e n=>u.keep b o e n (λz=>(bp.mp (I.stkSub b z)).elim hL hb) hc) (λb o _ _ hc e n=>u.any e n hc) (λb o hc e n=>u.free b o e n hc) (λb o hc e=>u.there b o e hc) u.tups u.frzs u.tbls (λm' hm=>by
  obtain⟨o',es',ep',ho',r'⟩:=hm;rw[ho] at ho';cases ho';exact⟨_,es',ep',hL,r'⟩) hok hg
theorem Inv.turned {t':Nat} {it:Addr} (I:Inv X pins σ H s) (k:∀b o,b≠it->s.heap.get? b=some o->h'.get? b=some o) (hn:H it=none) (hL:it≠X.env.locals)
 (h1:it∈X.ex\/X.s_0.heap.objs.size<=it) (h2:∀x c,X.env.cells.lookup x=some c->c≠it) (h3:∀p∈X.pn++pins,p.1≠it):Inv X pins σ H { s with heap:=h',toks:=t' }:=by
 have nit:∀b u,H b=some u->b≠it:=λb u e z=>by rw[z,hn] at e;cases e
 refine I.step (g':=s.gens) (d':=s.drawn) (ch:=[it]) (λb hb=>?_) (λb o _ _ hc e _=>k b o (λz=>hc (by simp[z])) e) (λb o _ _ hc e _=>⟨o.slots,k b o (λz=>hc (by simp[z])) e⟩) (λ_ _ _ _ n=>n)
  (λb o hc e=>⟨o,k b o (λz=>hc (by simp[z])) e⟩) (λ_ _ e=>e) (λ_ _ _ e=>e) (λb ps e=>⟨#[],by rw[e];simp⟩) (λm hm=>?_) (λb u e=>?_) I.bare
 ·have e:b=it:=by simpa using hb
  subst e;exact⟨h1,hL,h2,h3⟩
 ·obtain⟨o,es,ep,ho,r⟩:=hm;exact⟨o,es,ep,k _ o (cq hL) ho,r⟩
 ·refine(I.hok b u e).stay (λc v hc q=>k c v ?_ q) (λ_ q=>q) λ_ _ q=>q;rcases hc with z|z
  ·rw[z];exact nit b u e
  ·exact nit c _ z
theorem Inv.tok (I:Inv X pins σ H s) (t:Nat):Inv X pins σ H { s with toks:=t }:=I.un (h':=s.heap) (t':=t) Un.refl I.hok
theorem Inv.kept {t':Nat} (I:Inv X pins σ H s) (k:∀b u,s.heap.get? b=some u->h'.get? b=some u):Inv X pins σ H { s with heap:=h',toks:=t' }:=I.un (Un.kept k) (I.hok.kept k)
theorem Inv.laid {a:Addr} {o:HO} {t':Nat} (I:Inv X pins σ H s) (k:∀b u,s.heap.get? b=some u->h'.get? b=some u) (hp:s.heap.objs.size<=a) (new:ObjOk X.prog X.w (upd H a o) h' a o):
 Inv X pins σ (upd H a o) { s with heap:=h',toks:=t' }:=I.un (Un.laid k hp (I.hok.fresh hp)) (I.hok.laid k hp new)
theorem Inv.write {x e:Addr} {o:HO} {t':Nat} (I:Inv X pins σ H s) (mu:Mut (H x)) (he:e=x\/H e=some (.own x)) (k:∀b u,b≠e->s.heap.get? b=some u->h'.get? b=some u) (heo:∃u,h'.get? e=some u)
 (new:ObjOk X.prog X.w (upd H x o) h' x o):Inv X pins σ (upd H x o) { s with heap:=h',toks:=t' }:=I.un (Un.write mu he k heo) (I.hok.write mu he k heo new)
theorem Inv.weak {σ':List (Option V)} (I:Inv X pins σ H s) (hl:σ'.length=σ.length) (w:∀(i:Nat) v,σ'[i]? =some (some v)->σ[i]? =some (some v)):Inv X pins σ' H s:=
 ⟨I.ok,I.os,I.bare,I.base,let ⟨m,hn,hl'⟩:=I.loc;⟨m,hn,λi x v e1 e2 e3=>hl' i x v e1 (w i v e2) e3⟩,I.cell,I.free,I.freeC,I.pin,I.hok,hl.trans I.len⟩
theorem Inv.pins_of {pins':List (Addr×Obj)} (I:Inv X pins σ H s) (h:∀p∈pins',s.heap.get? p.1=some p.2/\H p.1=none/\p.1≠X.env.locals/\p.1∉X.fs/\∀v,p.2.data≠.cell v):Inv X pins' σ H s:=
 ⟨I.ok,I.os,I.bare,I.base,I.loc,I.cell,I.free,I.freeC,λp hp=>(cj.mp hp).elim (λz=>I.pin p (sR _ z)) (h p),I.hok,I.len⟩
theorem L9 {N:List Str} (hN:N.Nodup) {i j:Nat} {x:Str} (a:N[i]? =some x) (b:N[j]? =some x):i=j:=by
 obtain⟨h1,e1⟩:=au.mp a;obtain⟨h2,e2⟩:=au.mp b;exact(wV hN).mp (e1.trans e2.symm)
theorem N9 {M:xx} {A:cy} {E:ag->ai->Prop} {i:Nat} {x:Str} {v:V} {u:ag} {Q:Unit->ai->Prop} (I:Inv X pins σ H s) (hN:X.N.Nodup) (hi:X.N[i]? =some x) (hx:Loc X.env.scope x) (r:RelV v u)
 (h:∀s',Inv X pins (σ.set i (some v)) H s'->(∃a,oy a s.heap s'.heap/\(a=X.env.locals\/X.env.cells.lookup x=some a))->Q () s') (hf:X.fn x=true\/X.env.scope.names.lookup x=some .local:=by first|exact .inl rfl|exact .inr rfl|assumption):be M A (y6 X.env x u) Q E s:=by
 obtain⟨m,hn,hl⟩:=id I.loc;have hcls:(X.env.scope.kind==.class||(X.env.scope.kind==.module&&X.env.locals != X.env.globals))=false:=by rw[I.ok.kind];rfl
 have hiσ:i<σ.length:=by rw[I.len];exact(au.mp hi).1
 have cne:=I.cne;have tracked:∀{a:Addr} {h':Heap},(∃o,s.heap.get? a=some o/\H a=none)->oy a s.heap h'->HOk X.prog X.w H h':=λ{a h'} ha hs b ob e=>by
  obtain⟨_,_,hfree⟩:=ha;refine(I.hok b ob e).stay (λc w' hc q=>(hs.2 c ?_).trans q) (λ_ q=>q) λ_ _ q=>q;rintro rfl;rcases hc with rfl|hc
  ·rw[hfree] at e;cases e
  ·rw[hfree] at hc;cases hc
 rcases hx with hk|hk
 ·refine wpAny_storeName_local hk hn (λh' hn' hs=>?_) hcls;obtain⟨oL,_,_,hoL,_⟩:=id hn;refine h _ ⟨I.ok,I.os,I.bare,⟨λb o e n hb hx=>?_,λb o e n hb hx=>?_,I.base.free,λb o e hx=>?_,I.base.tups,I.base.frzs,I.base.tbls⟩,⟨_,hn',λj y v' e1 e2 e3=>?_⟩,λy c e=>?_,I.free,I.freeC,λp hp=>?_,tracked ⟨oL,hoL,I.free⟩ hs,by simpa using I.len⟩ ⟨_,hs,.inl rfl⟩
  ·exact(hs.2 b (cg (br (bh e) I.ok.above))).trans (I.base.keep b o e n hb hx)
  ·obtain⟨sl,e1⟩:=I.base.slot b o e n hb hx;exact⟨sl,(hs.2 b (cg (br (bh e) I.ok.above))).trans e1⟩
  ·obtain⟨o',e1⟩:=I.base.there b o e hx;exact⟨o',(hs.2 b (cg (br (bh e) I.ok.above))).trans e1⟩
  ·by_cases hj:j=i
   ·subst hj;rw[hi] at e1;cases e1;rw[mv hiσ] at e2;cases e2;exact⟨u,r,.inl ⟨hk,by simp⟩⟩
   ·rw[sS (cq hj)] at e2;obtain⟨u',r',q⟩:=hl j y v' e1 e2 e3;refine⟨u',r',?_⟩;rcases q with⟨k,e⟩|⟨k,c,e,z⟩
    ·refine .inl ⟨k,?_⟩;have:y≠x:=λe=>hj (L9 hN e1 (e▸hi));simp[this,e]
    ·exact .inr ⟨k,c,e,z.sameBut hs (cne y c e)⟩
  ·obtain⟨w',z⟩:=I.cell y c e;exact⟨w',z.sameBut hs (cne y c e)⟩
  ·obtain⟨e,n,ne,nf,d⟩:=I.pin p hp;exact⟨(hs.2 p.1 ne).trans e,n,ne,nf,d⟩
 ·have hfn:X.fn x=true:=by
   rcases hf with z|z
   ·exact z
   ·rw[z] at hk;cases hk
  obtain⟨c,hc⟩:=I.ok.has x (.inl hk);obtain⟨w',z⟩:=I.cell x c hc;refine wpAny_storeName_cell I.ok.kind hk hc z (λh' hc' hs=>?_);obtain⟨oc,hoc,hocd⟩:=id z;refine h { s with heap:=h' } ⟨I.ok,I.os,I.bare,⟨λb o e n hb hx=>?_,λb o e n hb hx=>?_,I.base.free,λb o e hx=>?_,I.base.tups,I.base.frzs,I.base.tbls⟩,⟨m,hn.sameBut hs (cq (cne x c hc)),λj y v' e1 e2 e3=>?_⟩,λy c' e=>?_,I.free,I.freeC,λp hp=>?_,tracked ⟨oc,hoc,I.freeC x c hc⟩ hs,by simpa using I.len⟩ ⟨c,hs,.inr hc⟩
  ·exact(hs.2 b (cg (br (bh e) (I.ok.cab x c hfn hc)))).trans (I.base.keep b o e n hb hx)
  ·obtain⟨sl,e1⟩:=I.base.slot b o e n hb hx;exact⟨sl,(hs.2 b (cg (br (bh e) (I.ok.cab x c hfn hc)))).trans e1⟩
  ·obtain⟨o',e1⟩:=I.base.there b o e hx;exact⟨o',(hs.2 b (cg (br (bh e) (I.ok.cab x c hfn hc)))).trans e1⟩
  ·by_cases hj:j=i
   ·subst hj;rw[hi] at e1;cases e1;rw[mv hiσ] at e2;cases e2;exact⟨u,r,.inr ⟨.inl hk,c,hc,hc'⟩⟩
   ·rw[sS (cq hj)] at e2;obtain⟨u',r',q⟩:=hl j y v' e1 e2 e3;refine⟨u',r',?_⟩;rcases q with q|⟨k,c',e,z'⟩
    ·exact .inl q
    ·refine .inr ⟨k,c',e,z'.sameBut hs ?_⟩;rintro rfl;exact hj (L9 hN e1 (I.ok.inj _ _ _ e hc▸hi))
  ·by_cases hcc:c'=c
   ·subst hcc;exact⟨_,hc'⟩
   ·obtain⟨w2,z2⟩:=I.cell y c' e;exact⟨w2,z2.sameBut hs hcc⟩
  ·obtain⟨e,n,ne,nf,d⟩:=I.pin p hp;refine⟨(hs.2 p.1 ?_).trans e,n,ne,nf,d⟩;intro q;rw[q,hoc] at e;have q':oc=p.2:=cp e;exact d w' (by rw[←q'];exact hocd)
theorem JG {M:xx} {A:cy} {E:ag->ai->Prop} {i:Nat} {x:Str} {v:V} {u:ag} {Q:Unit->ai->Prop} (I:Inv X pins σ H s) (hN:X.N.Nodup) (hi:X.N[i]? =some x) (hx:Loc X.env.scope x) (r:RelV v u)
 (h:∀s',Inv X pins (σ.set i (some v)) H s'->Q () s') (hf:X.fn x=true\/X.env.scope.names.lookup x=some .local:=by first|exact .inl rfl|exact .inr rfl|assumption):be M A (y6 X.env x u) Q E s:=
 N9 I hN hi hx r (λs' I' _=>h s' I') hf
theorem Inv.call' {s':ai} {ch:List Addr} (I:Inv X pins σ H s) (ho:s'.os=s.os) (u:Un (frs X.stack) ch H H' s.heap s'.heap) (hok:HOk X.prog X.w H' s'.heap) (hg:uY s'.gens)
 (hch:∀b∈ch,(b∈X.ex\/X.s_0.heap.objs.size<=b)/\b≠X.env.locals/\(∀x c,X.env.cells.lookup x=some c->c≠b)/\∀p∈X.pn++pins,p.1≠b):Inv X pins σ H' s':=by
 obtain⟨h',g',d',t',o'⟩:=s';have e:o'=s.os:=ho;subst e;exact I.call (g':=g') (t':=t') (d':=d') u hok hg hch
end
abbrev XK:=ag->Option Addr->Hp->Prop
abbrev St:=List (Option V)
abbrev VK:=V->Hp->Prop
abbrev TE:=St->Hp->VK->Prop
abbrev TT:=St->Hp->(Bool->Hp->Prop)->Prop
abbrev TA:=St->Hp->(List V->Hp->Prop)->Prop
structure Ends where
 nx:St->Hp->Prop
 rt:VK
 bk:St->Hp->Prop:=λ_ _=>False
 ct:St->Hp->Prop:=λ_ _=>False
abbrev TS:=Ends->St->Hp->Prop
def EP (X:Cx) (pins:List (Addr×Obj)) (σ:St) (Q:VK) (u:ag) (s':ai):Prop:=Ex2 λv H'=>Inv X pins σ H' s'/\RelV v u/\Q v H'
def TP (X:Cx) (pins:List (Addr×Obj)) (σ:St) (Q:Bool->Hp->Prop) (b:Bool) (s':ai):Prop:=∃H',Inv X pins σ H' s'/\Q b H'
def AP (X:Cx) (pins:List (Addr×Obj)) (σ:St) (Q:List V->Hp->Prop) (us:List ag) (s':ai):Prop:=Ex2 λvs H'=>Inv X pins σ H' s'/\Vals vs us/\Q vs H'
def SP (X:Cx) (pins:List (Addr×Obj)) (D:Ends) (f:Flow) (s':ai):Prop:=
 match f with
 | .next=>Ex2 λσ' H'=>Inv X pins σ' H' s'/\D.nx σ' H'
 | .brk=>Ex2 λσ' H'=>Inv X pins σ' H' s'/\D.bk σ' H'
 | .cont=>Ex2 λσ' H'=>Inv X pins σ' H' s'/\D.ct σ' H'
 | .ret u=>Ex3 λv σ' H'=>Inv X pins σ' H' s'/\RelV v u/\D.rt v H'
def PE (X:Cx) (e:Expr) (t:TE):Prop:=
 ∀(pins:List (Addr×Obj)) (s:ai) (σ:St) (H:Hp) (Q:VK),Inv X pins σ H s->t σ H Q->be (bi X.prog X.w) X.A (eval e X.env) (EP X pins σ Q) X.xe s
def PT (X:Cx) (e:Expr) (t:TT):Prop:=
 ∀(pins:List (Addr×Obj)) (s:ai) (σ:St) (H:Hp) (Q:Bool->Hp->Prop),Inv X pins σ H s->t σ H Q->be (bi X.prog X.w) X.A (wW e X.env (eval e X.env)) (TP X pins σ Q) X.xe s
def PW (X:Cx) (e:Expr) (t:TT):Prop:=
 ∀(whole:Sem ag) (pins:List (Addr×Obj)) (s:ai) (σ:St) (H:Hp) (Q:Bool->Hp->Prop),Inv X pins σ H s->t σ H Q->be (bi X.prog X.w) X.A (wW e X.env whole) (TP X pins σ Q) X.xe s
theorem PW.pt {X:Cx} {e:Expr} {t:TT} (h:PW X e t):PT X e t:=h _
def PA (X:Cx) (es:List Expr) (t:TA):Prop:=
 ∀(pos:Pos) (pins:List (Addr×Obj)) (s:ai) (σ:St) (H:Hp) (Q:List V->Hp->Prop),Inv X pins σ H s->t σ H Q->be (bi X.prog X.w) X.A (zg (gr pos (bc es X.env))) (AP X pins σ Q) X.xe s
def PS (X:Cx) (st:Stmt) (t:TS):Prop:=
 ∀(pins:List (Addr×Obj)) (s:ai) (σ:St) (H:Hp) (D:Ends),Inv X pins σ H s->t D σ H->be (bi X.prog X.w) X.A (exec st X.env) (SP X pins D) X.xe s
def PSs (X:Cx) (st:List Stmt) (t:TS):Prop:=
 ∀(pins:List (Addr×Obj)) (s:ai) (σ:St) (H:Hp) (D:Ends),Inv X pins σ H s->t D σ H->be (bi X.prog X.w) X.A (execs st X.env) (SP X pins D) X.xe s
theorem thn {α:Type} {t:Sem α} {Q Q':α->ai->Prop} {M:xx} {A:cy} {E:ag->ai->Prop} {s:ai} (h:be M A t Q E s) (hQ:∀a s,Q a s->Q' a s):be M A t Q' E s:=gg h hQ λ_ _ x=>x
section
variable {X:Cx}
theorem bin {a b:Expr} {ta tb:TE} (ha:PE X a ta) (hb:PE X b tb) {pins:List (Addr×Obj)} {s:ai} {σ:St} {H:Hp} {R:V->V->Hp->Prop} (I:Inv X pins σ H s) (h:ta σ H λx H1=>tb σ H1 λy H2=>R x y H2)
 {α:Type} {Q:α->ai->Prop} {f:ag->ag->Sem α}
 (hf:∀v u s2 x y H2,Inv X pins σ H2 s2->RelV x v->RelV y u->R x y H2->be (bi X.prog X.w) X.A (f v u) Q X.xe s2):
 be (bi X.prog X.w) X.A (eval a X.env) (λv s₁=>be (bi X.prog X.w) X.A (eval b X.env) (λu s₂=>be (bi X.prog X.w) X.A (f v u) Q X.xe s₂) X.xe s₁) X.xe s:=by
 refine thn (ha pins s σ H _ I h) λv s1 ⟨x,H1,I1,r1,q1⟩=>?_;refine thn (hb pins s1 σ H1 _ I1 q1) λu s2 ⟨y,H2,I2,r2,q2⟩=>?_;exact hf v u s2 x y H2 I2 r1 r2 q2
inductive VarAt (o:Option (Option V)) (Q:V->Prop):Prop
 |intro(v:V) (e:o=some (some v)) (h:Q v):VarAt o Q
inductive BlAt (x:V) (Q:Bool->Prop):Prop
 |intro(c:Bool) (e:x= .bl c) (h:Q c):BlAt x Q
inductive I1At (x:V) (Q:Int->Prop):Prop
 |intro(i:Int) (e:x= .int i) (h:Q i):I1At x Q
inductive I2At (x y:V) (Q:Int->Int->Prop):Prop
 |intro(i j:Int) (e:x= .int i) (e':y= .int j) (h:Q i j):I2At x y Q
def BO (i:Nat):TE:=λσ H Q=>VarAt σ[i]? λv=>Q v H
def tC (v:V):TE:=λ_ H Q=>Q v H
theorem gK {i:Nat} {x:Str} {pos:Pos} (hN:X.N[i]? =some x) (hv:Vis X.env.scope x) (hd:(x==("__debug__":Str))=false:=by decide) (hcd:(x==("__classdict__":Str))=false:=by decide):PE X (.Name x pos) (BO i):=by
 intro pins s σ H Q I h;obtain⟨v,e,h⟩:=h;obtain⟨m,hn,hl⟩:=I.loc;obtain⟨u,r,l⟩:=hl i x v hN e hv;have fin:EP X pins σ Q u s:=⟨v,H,I,r,h⟩
 rcases l with⟨hk,hm⟩|⟨hk,c,hc,hcell⟩
 ·exact xZ (vC I.ok.kind hk hn hm fin) hd
 ·rcases hk with hk|hk
  ·exact xZ (v4 I.ok.kind hk hc hcell fin) hd
  ·exact xZ (wpAny_loadName_free I.ok.kind hk hc hcell fin hcd) hd
theorem AI {i j pos}:PE X (.Constant (.int i) j pos) (tC (.int i)):=λ_ _ _ H _ I h=>wpAny_Constant_int ⟨.int i,H,I.tok _,⟨_,rfl⟩,h⟩
theorem MA {b j pos}:PE X (.Constant (.bool b) j pos) (tC (.bl b)):=λ_ _ _ H _ I h=>Constant_bool ⟨.bl b,H,I,rfl,h⟩
theorem SS {j pos}:PE X (.Constant .none j pos) (tC .non):=λ_ _ _ H _ I h=>Constant_none ⟨.non,H,I,rfl,h⟩
theorem AU {x j pos}:PE X (.Constant (.str x) j pos) (tC (.str x)):=λ_ _ _ H _ I h=>Calls.Constant_str ⟨.str x,H,I.tok _,⟨_,rfl⟩,h⟩
def Gl (X:Cx) (x:Str):Prop:=X.env.kindOf x=some .globalImplicit
theorem EW {E:ag->ai->Prop} {pins:List (Addr×Obj)} {s:ai} {σ:St} {H:Hp} {x:Str} {u:ag} {pos:Pos} {Q:ag->ai->Prop} (I:Inv X pins σ H s) (hg:Gl X x) (hm:X.mg x=some u) (h:Q u s)
 (hd:(x==("__debug__":Str))=false:=by decide):be (bi X.prog X.w) X.A (eval (.Name x pos) X.env) Q E s:=
 tN I.ok.kind hg (Calls.loadGlobal_global (by rw[I.ok.glob];exact I.mod.glob.keeps I.bk) hm h) hd
theorem EL {E:ag->ai->Prop} {pins:List (Addr×Obj)} {s:ai} {σ:St} {H:Hp} {x:Str} {u:ag} {pos:Pos} {Q:ag->ai->Prop} (I:Inv X pins σ H s) (hg:Gl X x) (hm:X.mg x=none) (hv:jj x=some u) (h:Q u s)
 (hn:x≠"__name__":=by decide) (hd:(x==("__debug__":Str))=false:=by decide):be (bi X.prog X.w) X.A (eval (.Name x pos) X.env) Q E s:=by
 obtain⟨mb,h1,h2⟩:=I.mod.blt;exact tN I.ok.kind hg (Calls.loadGlobal_builtin (by rw[I.ok.glob];exact I.mod.glob.keeps I.bk) hm (by rw[I.ok.blt];exact h1.keeps I.bk) ((h2 x hn).trans hv) h) hd
theorem PD {x:Str} {v:V} {u:ag} {pos:Pos} (hg:Gl X x) (hm:X.mg x=some u) (r:RelV v u) (hd:(x==("__debug__":Str))=false:=by decide):PE X (.Name x pos) (tC v):=
 λ_ _ _ H _ I h=>EW I hg hm ⟨v,H,I,r,h⟩ hd
variable {a b:Expr} {ta tb:TE} {pos:Pos}
def PC (X:Cx) (op:y8) (a b:Expr) (t:TE):Prop:=
 ∀(pins:List (Addr×Obj)) (s:ai) (σ:St) (H:Hp) (Q:VK),Inv X pins σ H s->t σ H Q->
  be (bi X.prog X.w) X.A (eval a X.env) (λv s₁=>be (bi X.prog X.w) X.A (eval b X.env) (λu s₂=>be (bi X.prog X.w) X.A (ke op v u) (EP X pins σ Q) X.xe s₂) X.xe s₁) X.xe s
theorem YB (b:Expr) {op:y8} (h:op≠.In) (h2:op≠.NotIn):ny op b=false:=by
 have e1:(op==Ac)=false:=by cases op<;>first|rfl|exact absurd rfl h
 have e2:(op==zA)=false:=by cases op<;>first|rfl|exact absurd rfl h2
 cases b<;>simp[ny,e1,e2]
def tB (t:TE):TT:=λσ H Q=>t σ H λx H1=>BlAt x λc=>Q c H1
theorem YC {op:y8} {t:TE} (h:PC X op a b t) (h1:ny op b=false:=by first|exact YB _ (by decide) (by decide)|rfl):PT X (.Compare a [op] [b] pos) (tB t):=by
 intro pins s σ H Q I hw;refine vq (thn (h pins s σ H _ I hw) λv s1 h1=>thn h1 λu s2 h2=>thn h2 λc s3 ⟨x,H1,I1,r1,q1⟩=>?_) h1;obtain⟨d,rfl,q⟩:=q1;cases r1;exact oh ⟨H1,I1,q⟩
theorem C7 {e:Expr} {t:TE} (h:PE X e t) (he:∀whole,wW e X.env whole=(do let v←whole;mj e.pos;lg [v] (truthy v)):=by intro _;rfl):PT X e (tB t):=by
 intro pins s σ H Q I hw;refine isTrue_plain (thn (h pins s σ H _ I hw) λv s1 ⟨x,H1,I1,r1,q1⟩=>?_) (he _);obtain⟨d,rfl,q⟩:=q1;cases r1;exact oh ⟨H1,I1,q⟩
variable {tA tB':TT} {rest:List Expr}
def cH (t u:TT):TT:=λσ H Q=>t σ H λc H1=>if c=true then u σ H1 Q else Q false H1
def tOr (t u:TT):TT:=λσ H Q=>t σ H λc H1=>if c=true then Q true H1 else u σ H1 Q
def lH (t:TT):TT:=λσ H Q=>t σ H λc H1=>Q (!c) H1
theorem EX (ha:PT X a tA):PW X (.BoolOp .And [a] pos) tA:=by
 intro wh pins s σ H Q I h;refine isTrue_and (thn (ha pins s σ H Q I h) λc s1 e=>?_);cases c with
 |true=>exact isTrue_and_nil e
 |false=>exact e
theorem JZ (ha:PT X a tA):PW X (.BoolOp .Or [a] pos) tA:=by
 intro wh pins s σ H Q I h;refine isTrue_or (thn (ha pins s σ H Q I h) λc s1 e=>?_);cases c with
 |false=>exact isTrue_or_nil e
 |true=>exact e
theorem GL (ha:PT X a tA) (hb:PW X (.BoolOp .And (b::rest) pos) tB'):PW X (.BoolOp .And (a::b::rest) pos) (cH tA tB'):=by
 intro wh pins s σ H Q I h;refine isTrue_and (thn (ha pins s σ H _ I h) λc s1 ⟨H1,I1,q1⟩=>?_);cases c with
 |true=>exact hb wh pins s1 σ H1 Q I1 q1
 |false=>exact⟨H1,I1,q1⟩
theorem OA (ha:PT X a tA) (hb:PW X (.BoolOp .Or (b::rest) pos) tB'):PW X (.BoolOp .Or (a::b::rest) pos) (tOr tA tB'):=by
 intro wh pins s σ H Q I h;refine isTrue_or (thn (ha pins s σ H _ I h) λc s1 ⟨H1,I1,q1⟩=>?_);cases c with
 |true=>exact⟨H1,I1,q1⟩
 |false=>exact hb wh pins s1 σ H1 Q I1 q1
theorem D7 (ha:PT X a tA):PT X (.UnaryOp .Not a pos) (lH tA):=by
 intro pins s σ H Q I h;exact isTrue_not (ha pins s σ H (λc H1=>Q (!c) H1) I h)
def lI (ta tb:TE):TE:=λσ H Q=>ta σ H λx H1=>BlAt x λc=>if c=true then tb σ H1 Q else Q (.bl false) H1
theorem YD {op} {t:TE} (h:PE X a t):PE X (.BoolOp op [a] pos) t:=λpins s σ H Q I hw=>BoolOp_one (h pins s σ H Q I hw)
theorem YE (ha:PE X a ta) (hb:PE X (.BoolOp .And (b::rest) pos) tb):PE X (.BoolOp .And (a::b::rest) pos) (lI ta tb):=by
 intro pins s σ H Q I h;refine BoolOp_and (thn (ha pins s σ H _ I h) λv s1 ⟨x,H1,I1,r1,q1⟩=>?_);obtain⟨c,rfl,q1⟩:=q1;cases r1;refine oh ?_;cases c with
 |true=>exact hb pins s1 σ H1 Q I1 q1
 |false=>exact⟨.bl false,H1,I1,rfl,q1⟩
def tIf (t:TT) (ta tb:TE):TE:=λσ H Q=>t σ H λc H1=>if c=true then ta σ H1 Q else tb σ H1 Q
theorem QX {c:Expr} (hc:PT X c tA) (ha:PE X a ta) (hb:PE X b tb):PE X (.IfExp c a b pos) (tIf tA ta tb):=by
 intro pins s σ H Q I h;refine wpAny_IfExp (thn (hc pins s σ H _ I h) λd s1 ⟨H1,I1,q1⟩=>?_);cases d with
 |true=>exact ha pins s1 σ H1 Q I1 q1
 |false=>exact hb pins s1 σ H1 Q I1 q1
end
def SqL (K:aa) (H:Hp) (a:Addr) (xs:List V):Prop:=
 Rd H a (.lst xs)\/
  Ex3 λ(o:Obj) (its:Array ag) (n:Nat)=>K.lookup a=some o/\o.cls= .type "list"/\o.dict=none/\o.data= .seq its n/\its.size<=sizeLine/\Vals xs its.toList
def SqT (K:aa) (H:Hp) (a:Addr) (xs:List V):Prop:=
 Rd H a (.tup xs)\/
  Ex3 λ(o:Obj) (its:Array ag) (n:Nat)=>K.lookup a=some o/\o.cls= .type "tuple"/\o.data= .seq its n/\its.size<=sizeLine/\Vals xs its.toList
def rE:ag->Option V
 | .none=>some .non
 | .bool b=>some (.bl b)
 | .int i _=>some (.int i)
 | .str x _=>some (.str x)
 | .bytes b _=>some (.byt b)
 | .float b _=>some (.flt b)
 | .ref a=>some (.ref a)
 | .type n=>some (.ty n)
 |_=>none
theorem RelV.abs {x:V} {u:ag} (r:RelV x u):rE u=some x:=by
 cases x with
 |non=>cases r;rfl
 |bl _=>cases r;rfl
 |int _=>obtain⟨t,rfl⟩:=r;rfl
 |str _=>obtain⟨t,rfl⟩:=r;rfl
 |byt _=>obtain⟨t,rfl⟩:=r;rfl
 |flt _=>obtain⟨t,rfl⟩:=r;rfl
 |ref _=>cases r;rfl
 |ty _=>cases r;rfl
theorem RelV.inj {x y:V} {u:ag} (r:RelV x u) (q:RelV y u):x=y:=cp (r.abs.symm.trans q.abs)
theorem Vals.inj:∀{xs ys:List V} {us:List ag},Vals xs us->Vals ys us->xs=ys
 |_,_,_,.nil,.nil=>rfl
 |_,_,_,.cons r t,.cons r' t'=>by rw[r.inj r',Vals.inj t t']
section
variable {X:Cx} {pins:List (Addr×Obj)} {σ:St} {H:Hp} {s:ai} {a:Addr} {xs ys:List V}
theorem SqL.of {K:aa} (h:H a=some (.lst xs)):SqL K H a xs:=.inl (.inl h)
theorem SqT.of {K:aa} (h:H a=some (.tup xs)):SqT K H a xs:=.inl (.inl h)
theorem Inv.list (I:Inv X pins σ H s) (h:SqL X.K H a xs):∃its:List ag,Vals xs its/\PlainL s.heap a its.toArray/\xs.length<=sizeLine:=by
 rcases h with h|⟨o,its,n,hk,hc,hd,hs,hz,r⟩
 ·obtain⟨z,its,n,r,e⟩:=h.ok I.hok;exact⟨its,r,⟨_,n,e,rfl,rfl,rfl⟩,z⟩
 ·refine⟨its.toList,r,⟨o,n,I.kIn a o hk,hc,hd,by simpa using hs⟩,?_⟩;have e:=r.length;simp only[fq] at e;omega
theorem Inv.tuple (I:Inv X pins σ H s) (h:SqT X.K H a xs):∃its:List ag,Vals xs its/\IsTup s.heap a its.toArray/\xs.length<=sizeLine:=by
 rcases h with h|⟨o,its,n,hk,hc,hs,hz,r⟩
 ·obtain⟨z,its,r,p⟩:=h.ok I.hok;exact⟨its,r,p,z⟩
 ·refine⟨its.toList,r,⟨o,I.kIn a o hk,hc,n,by simpa using hs⟩,?_⟩;have e:=r.length;simp only[fq] at e;omega
theorem Inv.list_inj (I:Inv X pins σ H s) (h:SqL X.K H a xs) (h':SqL X.K H a ys):xs=ys:=by
 obtain⟨its,r,⟨o,n,e,_,_,d⟩,_⟩:=I.list h;obtain⟨its',r',⟨o',n',e',_,_,d'⟩,_⟩:=I.list h';rw[e] at e';cases e';rw[d] at d';injection d' with d1 _;have:its=its':=by simpa using congrArg wy d1
 subst this;exact r.inj r'
theorem Inv.tuple_inj (I:Inv X pins σ H s) (h:SqT X.K H a xs) (h':SqT X.K H a ys):xs=ys:=by
 obtain⟨its,r,⟨o,e,_,n,d⟩,_⟩:=I.tuple h;obtain⟨its',r',⟨o',e',_,n',d'⟩,_⟩:=I.tuple h';rw[e] at e';cases e';rw[d] at d';injection d' with d1 _;have:its=its':=by simpa using congrArg wy d1
 subst this;exact r.inj r'
end
abbrev Cx.wish (X:Cx) (E:ag->ai->Prop):Cx:={ X with xe:=E }
theorem Cx.Ok.wish {X:Cx} (ok:X.Ok) (E:ag->ai->Prop):(X.wish E).Ok:=
 ⟨ok.mod,ok.kind,ok.glob,ok.blt,ok.above,ok.inj,ok.has,ok.cab,ok.hd,ok.frames,ok.stk,ok.exf,ok.bs,ok.bsz,ok.noex,ok.exfs,ok.funs,ok.frf⟩
theorem Cx.Ok.unwish {X:Cx} {E:ag->ai->Prop} (ok:(X.wish E).Ok):X.Ok:=
 ⟨ok.mod,ok.kind,ok.glob,ok.blt,ok.above,ok.inj,ok.has,ok.cab,ok.hd,ok.frames,ok.stk,ok.exf,ok.bs,ok.bsz,ok.noex,ok.exfs,ok.funs,ok.frf⟩
section
variable {X:Cx} {pins:List (Addr×Obj)} {σ:St} {H:Hp} {s:ai} {E:ag->ai->Prop}
theorem Inv.wish (I:Inv X pins σ H s) (E:ag->ai->Prop):Inv (X.wish E) pins σ H s:=⟨I.ok.wish E,I.os,I.bare,I.base,I.loc,I.cell,I.free,I.freeC,I.pin,I.hok,I.len⟩
theorem Inv.unwish (I:Inv (X.wish E) pins σ H s):Inv X pins σ H s:=⟨I.ok.unwish,I.os,I.bare,I.base,I.loc,I.cell,I.free,I.freeC,I.pin,I.hok,I.len⟩
end
section
variable {X:Cx} {st:Stmt} {rest:List Stmt} {t u:TS} {e:Expr} {te:TE} {pos:Pos}
def UU:TS:=λD σ H=>D.nx σ H
def AV (t u:TS):TS:=λD σ H=>t { D with nx:=u D } σ H
theorem AM:PSs X [] UU:=λ_ _ σ H _ I h=>qm ⟨σ,H,I,h⟩
theorem AB (h1:PS X st t) (h2:PSs X rest u):PSs X (st::rest) (AV t u):=by
 intro pins s σ H D I h;refine wX (thn (h1 pins s σ H { D with nx:=u D } I h) λf s1 q=>?_);cases f with
 |next=>
  obtain⟨σ',H',I',q⟩:=q;exact h2 pins s1 σ' H' D I' q
 |ret v=>exact q
 |brk=>exact q
 |cont=>exact q
theorem AC (h1:PS X st t):PSs X [st] t:=by
 intro pins s σ H D I h;refine wX (thn (h1 pins s σ H D I h) λf s1 q=>?_);cases f with
 |next=>exact qm q
 |ret v=>exact q
 |brk=>exact q
 |cont=>exact q
theorem Inv.quiet {pins:List (Addr×Obj)} {σ:St} {H:Hp} {s:ai} (I:Inv X pins σ H s):interactive X.env=false:=by simp[interactive,I.ok.kind]
def KY (te:TE):TS:=λD σ H=>te σ H λ_ H1=>D.nx σ H1
theorem AY (he:PE X e te) (hs:pc e none pos.line X.env=pure false:=by rfl):PS X (.Expr e pos) (KY te):=by
 intro pins s σ H D I h;exact wpAny_Expr_any (thn (he pins s σ H _ I h) λv s1 ⟨x,H1,I1,r1,q1⟩=>⟨σ,H1,I1,q1⟩) I.quiet hs
def QY (te:TE):TS:=λD σ H=>te σ H D.rt
theorem AJ (he:PE X e te):PS X (.Return (some e) pos) (QY te):=by
 intro pins s σ H D I h;exact wpAny_Return_some (thn (he pins s σ H _ I h) λv s1 ⟨x,H1,I1,r1,q1⟩=>⟨x,σ,H1,I1,r1,q1⟩)
def ST (c:TT) (t u:TS):TS:=λD σ H=>c σ H λb H1=>if b=true then t D σ H1 else u D σ H1
theorem AW {c:Expr} {a b:List Stmt} {tc:TT} (hc:PT X c tc) (ha:PSs X a t) (hb:PSs X b u):PS X (.If c a b pos) (ST tc t u):=by
 intro pins s σ H D I h;refine wpAny_If (thn (hc pins s σ H _ I h) λd s1 ⟨H1,I1,q1⟩=>?_);cases d with
 |true=>exact ha pins s1 σ H1 D I1 q1
 |false=>exact hb pins s1 σ H1 D I1 q1
def gL:TS:=λ_ _ _=>False
end
abbrev TG:=V->St->Hp->(St->Hp->Prop)->Prop
abbrev TGs:=List V->St->Hp->(St->Hp->Prop)->Prop
def PG (X:Cx) (target:Expr) (t:TG):Prop:=
 ∀(pins:List (Addr×Obj)) (s:ai) (σ:St) (H:Hp) (v:V) (u:ag) (Q:St->Hp->Prop),Inv X pins σ H s->RelV v u->t v σ H Q->
  be (bi X.prog X.w) X.A (wY target X.env u) (λ_ s'=>Ex2 λσ' H'=>Inv X pins σ' H' s'/\Q σ' H') X.xe s
def PGs (X:Cx) (ts:List Expr) (t:TGs):Prop:=
 ∀(pins:List (Addr×Obj)) (s:ai) (σ:St) (H:Hp) (vs:List V) (us:List ag) (Q:St->Hp->Prop),Inv X pins σ H s->Vals vs us->t vs σ H Q->
  be (bi X.prog X.w) X.A (assignInOrder ((tO ts X.env).map (·.2)) us) (λ_ s'=>Ex2 λσ' H'=>Inv X pins σ' H' s'/\Q σ' H') X.xe s
abbrev gM:=V->V->V->Hp->(Hp->Prop)->Prop
def lJ (X:Cx) (t:gM):Prop:=
 ∀(pins:List (Addr×Obj)) (s:ai) (σ:St) (H:Hp) (o i v:V) (ov iv u:ag) (Q:Hp->Prop),Inv X pins σ H s->RelV o ov->RelV i iv->RelV v u->t o i v H Q->
  be (bi X.prog X.w) X.A (setItem ov iv u) (λ_ s'=>∃H',Inv X pins σ H' s'/\Q H') X.xe s
abbrev TIp:=V->V->Hp->VK->Prop
def PIp (X:Cx) (op:wz) (t:TIp):Prop:=
 ∀(pins:List (Addr×Obj)) (s:ai) (σ:St) (H:Hp) (x y:V) (v u:ag) (Q:VK),Inv X pins σ H s->RelV x v->RelV y u->t x y H Q->
  be (bi X.prog X.w) X.A (y9 op v u) (EP X pins σ Q) X.xe s
section
variable {X:Cx} {pos:Pos}
def MC (i:Nat):TG:=λv σ H Q=>Q (σ.set i (some v)) H
theorem cI {i:Nat} {x:Str} (hN:X.N.Nodup) (hi:X.N[i]? =some x) (hx:Loc X.env.scope x) (hf:X.fn x=true\/X.env.scope.names.lookup x=some .local:=by first|exact .inl rfl|exact .inr rfl|assumption):PG X (.Name x pos) (MC i):=by
 intro pins s σ H v u Q I r h;exact wA (JG I hN hi hx r (λs' I'=>⟨_,H,I',h⟩) hf)
def rF:TGs:=λvs σ H Q=>vs=[]/\Q σ H
def lK (t:TG) (u:TGs):TGs:=λvs σ H Q=>Ex2 λv r=>vs=v::r/\t v σ H λσ' H'=>u r σ' H' Q
theorem HR:PGs X [] rF:=by
 intro pins s σ H vs us Q I r h;obtain⟨e,h⟩:=h;subst e;cases r;exact assignInOrder_nil ⟨σ,H,I,h⟩
theorem CG {e:Expr} {es:List Expr} {t:TG} {u:TGs} (h1:PG X e t) (h2:PGs X es u)
 (hs:(tO (e::es) X.env).map (·.2)=wY e X.env::(tO es X.env).map (·.2):=by rfl):PGs X (e::es) (lK t u):=by
 intro pins s σ H vs us Q I r h;obtain⟨v,vr,e1,h⟩:=h;subst e1;cases r with
 |cons r rr=>
  rw[hs];refine assignInOrder_cons (thn (h1 pins s σ H _ _ _ I r h) λ_ s1 ⟨σ1,H1,I1,q1⟩=>?_);exact h2 pins s1 σ1 H1 _ _ Q I1 rr q1
def rG (K:aa) (n:Nat) (t:TGs):TG:=λv σ H Q=>Ex2 λa xs=>v= .ref a/\SqT K H a xs/\xs.length=n/\t xs σ H Q
theorem J0 {es:List Expr} {k:Nat} {t:TGs} {n:Nat} (hc:X.calm=true) (h:PGs X es t)
 (hn:(tO es X.env).length=n:=by rfl) (hst:(tO es X.env).findIdx? (·.1)=none:=by rfl):PG X (.Tuple es k pos) (rG X.K n t):=by
 intro pins s σ H v u Q I r hw;obtain⟨a,xs,e1,hq,hl,hw⟩:=hw;subst e1;cases r;obtain⟨its,rv,ht,hz⟩:=I.tuple hq;refine assign_Tuple_tuple (I.ok.hd hc) ht (by simp[hn, ←hl,rv.length]) hst λh' hx=>?_;have I1:Inv X pins σ H { s with heap:=h' }:=I.kept (t':=s.toks) λb o e=>hx b o (cg (bh e)) e;exact h pins _ σ H xs _ Q I1 (by simpa using rv) hw
def rH (to ti:TE) (t:gM):TG:=λv σ H Q=>to σ H λo H1=>ti σ H1 λi H2=>t o i v H2 λH3=>Q σ H3
theorem gN {o i:Expr} {to ti:TE} {t:gM} (ho:PE X o to) (hi:PE X i ti) (hs:lJ X t)
 (ha:∀v,wY (.Subscript o i pos) X.env v=(do
  let ov←lg [v] (eval o X.env);let iv←lg [v,ov] (eval i X.env)
  mj pos
  lg [v,ov,iv] (setItem ov iv v)
  release [v,ov,iv] []):=by intro _;rfl):PG X (.Subscript o i pos) (rH to ti t):=by
 intro pins s σ H v u Q I r h;rw[ha];refine ae (ie (thn (ho pins s σ H _ I h) λov s1 ⟨x,H1,I1,r1,q1⟩=>?_));refine ae (ie (thn (hi pins s1 σ H1 _ I1 q1) λiv s2 ⟨y,H2,I2,r2,q2⟩=>?_));refine ae (jk (ae (ie (thn (hs pins s2 σ H2 x y v ov iv u _ I2 r1 r2 r q2) λ_ s3 ⟨H3,I3,q3⟩=>?_))));exact wpAny_release ⟨σ,H3,I3,q3⟩
def YF (te:TE) (g:TG):TS:=λD σ H=>te σ H λx H1=>g x σ H1 D.nx
theorem gO {tg e:Expr} {te:TE} {g:TG} (he:PE X e te) (hg:PG X tg g) (hs:swapsWithSole [tg] e pos.line X.env=pure false:=by rfl) (hw:swappedStores [tg] e X.env=pure none:=by rfl)
 (h1:(tO [tg] X.env).map (·.2)=[wY tg X.env]:=by rfl):PS X (.Assign [tg] e pos) (YF te g):=by
 intro pins s σ H D I h;refine wpAny_Assign_stores (thn (he pins s σ H _ I h) λv s1 ⟨x,H1,I1,r1,q1⟩=>?_) hs hw;rw[h1];exact thn (hg pins s1 σ H1 x v _ I1 r1 q1) λ_ s2 q=>q
theorem gP {i:Nat} {x:Str} {e:Expr} {te:TE} {pos':Pos} (hN:X.N.Nodup) (hi:X.N[i]? =some x) (hx:Loc X.env.scope x) (he:PE X e te) (hs:pc e (some (.Name x pos')) pos.line X.env=pure false:=by rfl) (hf:X.fn x=true\/X.env.scope.names.lookup x=some .local:=by first|exact .inl rfl|exact .inr rfl|assumption):
 PS X (.Assign [.Name x pos'] e pos) (YF te (MC i)):=by
 intro pins s σ H D I h;refine wpAny_Assign_Name (thn (he pins s σ H _ I h) λv s1 ⟨y,H1,I1,r1,q1⟩=>?_) hs;exact JG I1 hN hi hx r1 (λs2 I2=>⟨_,H1,I2,q1⟩) hf
def lL (i j:Nat) (ta:TA):TS:=λD σ H=>ta σ H λvs H1=>Ex2 λv w=>vs=[v,w]/\D.nx ((σ.set i (some v)).set j (some w)) H1
def rJ (i:Nat) (te:TE) (ti:TIp):TS:=λD σ H=>∃x,σ[i]? =some (some x)/\te σ H λy H1=>ti x y H1 λz H2=>D.nx (σ.set i (some z)) H2
theorem J4 {i:Nat} {x:Str} {e:Expr} {te:TE} {op:wz} {ti:TIp} {pos':Pos} (hN:X.N.Nodup) (hi:X.N[i]? =some x) (hx:Loc X.env.scope x) (he:PE X e te) (ho:PIp X op ti) (hf:X.fn x=true\/X.env.scope.names.lookup x=some .local:=by first|exact .inl rfl|exact .inr rfl|assumption):
 PS X (.AugAssign (.Name x pos') op e pos) (rJ i te ti):=by
 intro pins s σ H D I h;obtain⟨v,e1,h⟩:=h;obtain⟨m,hn,hl⟩:=I.loc;have vis:Vis X.env.scope x:=by rcases hx with k|k;exact .inl k;exact .inr (.inl k)
 obtain⟨u,r,l⟩:=hl i x v hi e1 vis;refine wpAny_AugAssign_Name ?_;have go:be (bi X.prog X.w) X.A (eval e X.env) (λw s₂=>be (bi X.prog X.w) X.A (y9 op u w) (λr s₃=>be (bi X.prog X.w) X.A (y6 X.env x r) (λ_=>SP X pins D .next) X.xe s₃) X.xe s₂) X.xe s:=by
  refine thn (he pins s σ H _ I h) λw s1 ⟨y,H1,I1,r1,q1⟩=>?_;refine thn (ho pins s1 σ H1 v y u w _ I1 r r1 q1) λz s2 ⟨zv,H2,I2,r2,q2⟩=>?_;exact JG I2 hN hi hx r2 (λs3 I3=>⟨_,H2,I3,q2⟩) hf
 rcases l with⟨hk,hm⟩|⟨hk,c,hc,hcell⟩
 ·exact vC I.ok.kind hk hn hm go
 ·rcases hk with hk|hk
  ·exact v4 I.ok.kind hk hc hcell go
  ·rcases hx with k|k
   ·have:X.env.scope.names.lookup x=some .free:=hk;rw[k] at this;cases this
   ·have:X.env.scope.names.lookup x=some .free:=hk;rw[k] at this;cases this
def ipI (f:Int->Int->Int):TIp:=λx y H Q=>I2At x y λi j=>Q (.int (f i j)) H
theorem J5:PIp X .Add (ipI λi j=>i+j):=by
 intro pins s σ H x y v u Q I r1 r2 h;obtain⟨i,j,e1,e2,q⟩:=h;subst e1;subst e2;obtain⟨t,rfl⟩:=r1;obtain⟨t',rfl⟩:=r2;exact iadd_int ⟨.int _,H,I.tok _,⟨_,rfl⟩,q⟩
end
section
variable {X:Cx} {pos:Pos}
def YG (c:TT) (tb:TS):TS:=λD σ H=>∃W:Nat->St->Hp->Prop,(∃m,W m σ H)/\∀m σ H,W m σ H->
 c σ H λb H1=>if b=true then∃N:St->Hp->Prop,(∀σ' H',N σ' H'->∃m',m'<m/\W m' σ' H')/\tb { D with nx:=N,ct:=N,bk:=D.nx } σ H1 else D.nx σ H1
theorem B3 {c:Expr} {body:List Stmt} {tc:TT} {tb:TS} (hp:PassesOwn (bi X.prog X.w) X.A X.env X.xe) (hc:PT X c tc) (hb:PSs X body tb):PS X (.While c body [] pos) (YG tc tb):=by
 intro pins s σ H D I h;obtain⟨W,⟨m0,w0⟩,turn⟩:=h;refine wpAny_While (codeAny_whileLoop (λn s'=>∃σ' H',Inv X pins σ' H' s'/\W n σ' H') ?_ m0 ⟨σ,H,I,w0⟩);rintro n s1 ⟨σ1,H1,I1,w1⟩;refine kz hp (thn (hc pins s1 σ1 H1 _ I1 (turn n σ1 H1 w1)) λb s2 ⟨H2,I2,q2⟩=>?_);cases b with
 |true=>
  obtain⟨N,hN,q2⟩:=q2;rw[if_pos rfl];refine kz hp (thn (hb pins s2 σ1 H2 _ I2 q2) λf s3 q3=>?_);cases f with
  |next=>
   obtain⟨σ3,H3,I3,n3⟩:=q3;obtain⟨m',hm,w3⟩:=hN σ3 H3 n3;exact⟨m',hm,σ3,H3,I3,w3⟩
  |cont=>
   obtain⟨σ3,H3,I3,n3⟩:=q3;obtain⟨m',hm,w3⟩:=hN σ3 H3 n3;exact⟨m',hm,σ3,H3,I3,w3⟩
  |brk=>exact q3
  |ret v=>exact q3
 |false=>
  rw[if_neg bu];exact qm ⟨σ1,H2,I2,q2⟩
end
structure It where
 go:Nat->Hp->Prop
 yld:Nat->Hp->V->Hp->Prop
 stop:Nat->Hp->Prop
def LB (X:Cx) (pins:List (Addr×Obj)) (H:Hp) (b:Addr):Prop:=
 H b=none/\b≠X.env.locals/\b∉X.fs/\(b∈X.ex\/X.s_0.heap.objs.size<=b)/\(∀x c,X.env.cells.lookup x=some c->c≠b)/\∀p∈X.pn++pins,p.1≠b
theorem Inv.fpOk {X:Cx} {pins:List (Addr×Obj)} {σ:St} {H H':Hp} {s:ai} {b:Addr} (I:Inv X pins σ H s) (hb:s.heap.objs.size<=b) (hn:H' b=none):LB X pins H' b:=by
 refine⟨hn,pd (br I.lt hb),I.nofs hb,.inr (cu I.sz hb),λx c e z=>?_,λp hp z=>?_⟩
 ·obtain⟨v,q⟩:=I.cell x c e;exact absurd (br q.lt (by rw[z];exact hb)) (iu _)
 ·exact absurd (br (bh (I.pin p hp).1) (by rw[z];exact hb)) (iu _)
structure Turn (P:aw) (w:bv) (K:aa) (tg:Expr) (J:It) (fp:List Addr) (it:Addr) (tn:Nat->Heap->Prop):Prop where
 mem:it∈fp
 obj:∀i h,tn i h->∀b∈fp,∃o,h.get? b=some o/\∀v,o.data≠.cell v
 keep:∀i h h',tn i h->(∀b∈fp,∀o,h.get? b=some o->h'.get? b=some o)->tn i h'
 item:∀(X:Cx),X.prog=P->X.w=w->X.K=K->X.calm=true->∀(i:Nat) (pins:List (Addr×Obj)) (s:ai) (σ:St) (H:Hp) (E:ag->ai->Prop),Inv X pins σ H s->(∀b∈fp,LB X pins H b)->tn i s.heap->J.go i H->
  be (bi P w) X.A (wk (.ref it)) (λr s1=>∃u,r=some u/\
   be (bi P w) X.A (qo tg (.ref it) u) (λ_ s2=>∃x H',Inv X pins σ H' s2/\RelV x u/\J.yld i H x H'/\tn (i+1) s2.heap/\∀b∈fp,H' b=none) E s1) E s
 done:∀(X:Cx),X.prog=P->X.w=w->X.K=K->X.calm=true->∀(i:Nat) (pins:List (Addr×Obj)) (s:ai) (σ:St) (H:Hp) (E:ag->ai->Prop),Inv X pins σ H s->(∀b∈fp,LB X pins H b)->tn i s.heap->J.stop i H->
  be (bi P w) X.A (wk (.ref it)) (λr s1=>r=none/\Inv X pins σ H s1) E s
 self:∀(A:cy) (i:Nat) (s:ai) (Q:ag->ai->Prop) (E:ag->ai->Prop),tn i s.heap->Q (.ref it) s->be (bi P w) A (pyIter (.ref it)) Q E s
abbrev TI:=St->Hp->(It->Hp->Prop)->Prop
def PIE (X:Cx) (pins:List (Addr×Obj)) (σ:St) (tg:Expr) (R:It->Hp->Prop) (itv:ag) (s2:ai):Prop:=
 Ex5 λ(it:Addr) (fp:List Addr) (tn:Nat->Heap->Prop) (J:It) (H':Hp)=>itv= .ref it/\Inv X pins σ H' s2/\Turn X.prog X.w X.K tg J fp it tn/\tn 0 s2.heap/\(∀b∈fp,LB X pins H' b)/\R J H'
def PI (X:Cx) (tg iter:Expr) (wi:TI):Prop:=
 ∀(pins:List (Addr×Obj)) (s:ai) (σ:St) (H:Hp) (R:It->Hp->Prop),Inv X pins σ H s->wi σ H R->
  be (bi X.prog X.w) X.A (eval iter X.env) (λv s1=>be (bi X.prog X.w) X.A (pyIter v) (PIE X pins σ tg R) X.xe s1) X.xe s
theorem UV {M:xx} {A:cy} {E:ag->ai->Prop} {s:ai} {tg:Expr} {it:Addr} {u:ag} {o:Obj} {n:String} {vs:Array ag} {Q:Unit->ai->Prop} (ho:s.heap.get? it=some o) (hc:o.cls= .type n) (hd:o.data= .fields vs)
 (hn:["enumerate","zip","dict_itemiterator","dict_reverseitemiterator","odict_iterator","itertools.zip_longest","itertools.pairwise"].contains n=false) (hQ:Q () s):be M A (qo tg (.ref it) u) Q E s:=by
 unfold qo;cases tg<;>first
  |exact am hQ
  |(cases u<;>first
   |exact am hQ
   |(refine ae (wpAny_load ho ?_)
     rw[hc,hd];show be M A (if(["enumerate","zip","dict_itemiterator","dict_reverseitemiterator","odict_iterator","itertools.zip_longest","itertools.pairwise"].contains n&&vs[0]? ==some (fv _))=true then _ else _) Q E s;rw[if_neg (by intro h;rw[hn,tP] at h;cases h)];exact am hQ))
def Itl (K:aa) (a:Addr):It:=
 ⟨λi H=>Ex2 λxs x=>SqL K H a xs/\xs[i]? =some x,λi H x H'=>H'=H/\∀xs,SqL K H a xs->xs[i]? =some x,λi H=>∃xs,SqL K H a xs/\xs.length<=i⟩
def Itt (K:aa) (a:Addr):It:=
 ⟨λi H=>Ex2 λxs x=>SqT K H a xs/\xs[i]? =some x,λi H x H'=>H'=H/\∀xs,SqT K H a xs->xs[i]? =some x,λi H=>∃xs,SqT K H a xs/\xs.length<=i⟩
def Itr (lo:Int) (n:Nat):It:=⟨λi _=>i<n,λi H x H'=>H'=H/\x= .int (lo+i),λi _=>n<=i⟩
theorem WV {P:aw} {w:bv} {K:aa} {tg:Expr} (a it:Addr):Turn P w K tg (Itl K a) [it] it (λi h=>h.IsListIter it a i) where
 mem:=by simp
 obj:=λi h st b hb=>by
  have e:b=it:=by simpa using hb
  subst e;obtain⟨o,e,c,d⟩:=st;exact⟨o,e,λv z=>by rw[d] at z;cases z⟩
 keep:=λi h h' st k=>st.at λo e=>k it (by simp) o e
 item:=by
  intro X hP hw hK hc i pins s σ H E I hf st hg;subst hP hw hK;obtain⟨xs,x,hq,hx⟩:=hg;obtain⟨its,rv,p,hz⟩:=I.list hq;obtain⟨u,hu,ru⟩:=rv.get hx;obtain⟨f0,f1,f2,f3,f4,f5⟩:=hf it (by simp);refine wpAny_pyNext_list_item st p.isList (x:=u) (by simpa using hu) λh' st' sb=>?_;have I1:Inv X pins σ H { s with heap:=h' }:=I.turned (t':=s.toks) (λb o hb e=>(sb.2 b hb).trans e) f0 f1 f3 f4 f5;obtain⟨o,e,c,d⟩:=id st';exact⟨u,rfl,UV (s:={ s with heap:=h' }) e c d (by decide) ⟨x,H,I1,ru,⟨rfl,λys hy=>by rw[I.list_inj hy hq];exact hx⟩,st',λb hb=>(hf b hb).1⟩⟩
 done:=by
  intro X hP hw hK hc i pins s σ H E I hf st hg;subst hP hw hK;obtain⟨xs,hq,hx⟩:=hg;obtain⟨its,rv,p,hz⟩:=I.list hq;obtain⟨f0,f1,f2,f3,f4,f5⟩:=hf it (by simp);have hl:=rv.length;exact wpAny_pyNext_list_end (I.ok.hd hc) st p.isList (by simp;omega) λh' eb=>⟨rfl,I.turned (t':=s.toks) (λb o hb e=>eb b o hb e) f0 f1 f3 f4 f5⟩
 self:=λ_ _ _ _ _ st h=>wpAny_pyIter_listiter st h
theorem SU {P:aw} {w:bv} {K:aa} {tg:Expr} (a it:Addr):Turn P w K tg (Itt K a) [it] it (λi h=>h.IsTupleIter it a i) where
 mem:=by simp
 obj:=λi h st b hb=>by
  have e:b=it:=by simpa using hb
  subst e;obtain⟨o,e,c,d⟩:=st;exact⟨o,e,λv z=>by rw[d] at z;cases z⟩
 keep:=λi h h' st k=>st.at λo e=>k it (by simp) o e
 item:=by
  intro X hP hw hK hc i pins s σ H E I hf st hg;subst hP hw hK;obtain⟨xs,x,hq,hx⟩:=hg;obtain⟨its,rv,p,hz⟩:=I.tuple hq;obtain⟨u,hu,ru⟩:=rv.get hx;obtain⟨f0,f1,f2,f3,f4,f5⟩:=hf it (by simp);refine wpAny_pyNext_tuple_item st (show s.heap.IsTuple a its.toArray from p) (x:=u) (by simpa using hu) λh' st' sb=>?_;have I1:Inv X pins σ H { s with heap:=h' }:=I.turned (t':=s.toks) (λb o hb e=>(sb.2 b hb).trans e) f0 f1 f3 f4 f5;obtain⟨o,e,c,d⟩:=id st';exact⟨u,rfl,UV (s:={ s with heap:=h' }) e c d (by decide) ⟨x,H,I1,ru,⟨rfl,λys hy=>by rw[I.tuple_inj hy hq];exact hx⟩,st',λb hb=>(hf b hb).1⟩⟩
 done:=by
  intro X hP hw hK hc i pins s σ H E I hf st hg;subst hP hw hK;obtain⟨xs,hq,hx⟩:=hg;obtain⟨its,rv,p,hz⟩:=I.tuple hq;obtain⟨f0,f1,f2,f3,f4,f5⟩:=hf it (by simp);have hl:=rv.length;exact wpAny_pyNext_tuple_end (I.ok.hd hc) st (show s.heap.IsTuple a its.toArray from p) (by simp;omega) λh' eb=>⟨rfl,I.turned (t':=s.toks) (λb o hb e=>eb b o hb e) f0 f1 f3 f4 f5⟩
 self:=λ_ _ _ _ _ st h=>wpAny_pyIter_tupleiter st h
theorem SV {P:aw} {w:bv} {K:aa} {tg:Expr} (it:Addr) (lo:Int) (n:Nat):Turn P w K tg (Itr lo n) [it] it (λi h=>IsRangeIter h it (lo+(i:Nat)*1) ((n:Int) - (i:Nat)) 1) where
 mem:=by simp
 obj:=λi h st b hb=>by
  have e:b=it:=by simpa using hb
  subst e;exact⟨_,st,λv z=>by
   have z':Data.fields _=Data.cell v:=z;cases z'⟩
 keep:=λi h h' st k=>k it (by simp) _ st
 item:=by
  intro X hP hw hK hc i pins s σ H E I hf st hg;subst hP hw hK;obtain⟨f0,f1,f2,f3,f4,f5⟩:=hf it (by simp);have W:=Walks.range (prog:=X.prog) (w:=X.w) (I.ok.hd hc) it lo 1 n;refine W.item i s _ _ hg st λv h' tk hv st' kk=>?_;obtain⟨t,rfl⟩:=hv;have I1:Inv X pins σ H { s with heap:=h',toks:=tk }:=I.turned (λb o hb e=>kk b o (by simpa using hb) e) f0 f1 f3 f4 f5;refine⟨_,rfl,UV (s:={ s with heap:=h',toks:=tk }) (n:="range_iterator") st' rfl rfl (by decide) ⟨.int (lo+i),H,I1,⟨t,?_⟩,⟨rfl,rfl⟩,st',λb hb=>(hf b hb).1⟩⟩;rw[Int.mul_one]
 done:=by
  intro X hP hw hK hc i pins s σ H E I hf st hg;subst hP hw hK;obtain⟨f0,f1,f2,f3,f4,f5⟩:=hf it (by simp);exact wpAny_pyNext_range_end (I.ok.hd hc) st (by have:n<=i:=hg;omega) λh' eb=>⟨rfl,I.turned (t':=s.toks) (λb o hb e=>eb b o hb e) f0 f1 f3 f4 f5⟩
 self:=λ_ _ _ _ _ st h=>wpAny_pyIter_rangeiter st h
section
variable {X:Cx} {tg:Expr}
def lM (K:aa) (tl:TE):TI:=λσ H R=>tl σ H λx H1=>∃a,x= .ref a/\(∃xs,SqL K H1 a xs)/\R (Itl K a) H1
def rK (K:aa) (tl:TE):TI:=λσ H R=>tl σ H λx H1=>∃a,x= .ref a/\(∃xs,SqT K H1 a xs)/\R (Itt K a) H1
theorem DG {l:Expr} {tl:TE} (hl:PE X l tl):PI X tg l (lM X.K tl):=by
 intro pins s σ H R I h;refine thn (hl pins s σ H _ I h) λv s1 ⟨x,H1,I1,r1,q1⟩=>?_;obtain⟨a,e,⟨xs,hq⟩,q⟩:=q1;subst e;cases r1;obtain⟨its,rv,p,hz⟩:=I1.list hq;refine wpAny_pyIter_list p.isList ?_;refine⟨s1.heap.objs.size,[s1.heap.objs.size],_,_,H1,rfl,I1.kept (t':=s1.toks) λb o e=>ak _ e,WV a _,⟨_,bf _ rfl,rfl,rfl⟩,λb hb=>?_,q⟩;have e:b=s1.heap.objs.size:=by simpa using hb
 subst e;exact I1.fpOk (aq _) (I1.hok.fresh (aq _))
theorem YH {l:Expr} {tl:TE} (hl:PE X l tl):PI X tg l (rK X.K tl):=by
 intro pins s σ H R I h;refine thn (hl pins s σ H _ I h) λv s1 ⟨x,H1,I1,r1,q1⟩=>?_;obtain⟨a,e,⟨xs,hq⟩,q⟩:=q1;subst e;cases r1;obtain⟨its,rv,p,hz⟩:=I1.tuple hq;refine qx (show s1.heap.IsTuple a its.toArray from p) ?_;refine⟨s1.heap.objs.size,[s1.heap.objs.size],_,_,H1,rfl,I1.kept (t':=s1.toks) λb o e=>ak _ e,SU a _,⟨_,bf _ rfl,rfl,rfl⟩,λb hb=>?_,q⟩;have e:b=s1.heap.objs.size:=by simpa using hb
 subst e;exact I1.fpOk (aq _) (I1.hok.fresh (aq _))
theorem QZ {pins:List (Addr×Obj)} {σ:St} {H:Hp} {s:ai} {R:It->Hp->Prop} {E:ag->ai->Prop} {lo hi:Int} {t u v:Tok} {tk:Nat} (I:Inv X pins σ H s) (h1: -(2 ^ 62)<=lo) (h2:lo<2 ^ 62) (h3: -(2 ^ 62)<=hi) (h4:hi<2 ^ 62)
 (q:R (Itr lo (hi - lo).toNat) H):be (bi X.prog X.w) X.A (pyIter (.ref s.heap.objs.size)) (PIE X pins σ tg R) E { s with heap:=s.heap.push { cls:=.type "range",data:=.fields #[.int lo t,.int hi u,.int 1 v] },toks:=tk }:=by
 refine wpAny_pyIter_range (zB ..) (small_one h1 h2 h3 h4) ?_;have I1:Inv X pins σ H { s with heap:=s.heap.push { cls:=.type "range",data:=.fields #[.int lo t,.int hi u,.int 1 v] },toks:=tk }:=I.kept λb o e=>ak _ e;refine⟨(s.heap.push { cls:=.type "range",data:=.fields #[.int lo t,.int hi u,.int 1 v] }).objs.size,[(s.heap.push { cls:=.type "range",data:=.fields #[.int lo t,.int hi u,.int 1 v] }).objs.size],_,_,H,rfl,
  I1.kept (t':=tk) λb o e=>ak _ e,SV _ lo (hi - lo).toNat,?_,λb hb=>?_,q⟩
 ·have e1:lo+((0:Nat):Int)*1=lo:=by simp
  have e2:(((hi - lo).toNat:Nat):Int) - ((0:Nat):Int)=uD lo hi 1:=by rw[rangeSize_one];split<;>omega
  show IsRangeIter _ _ (lo+((0:Nat):Int)*1) ((((hi - lo).toNat:Nat):Int) - ((0:Nat):Int)) 1;rw[e1,e2];exact bf _ rfl
 ·have e:b=(s.heap.push { cls:=.type "range",data:=.fields #[.int lo t,.int hi u,.int 1 v] }).objs.size:=by simpa using hb
  subst e;exact I1.fpOk (aq _) (I1.hok.fresh (aq _))
def lN (ta:TA):TI:=λσ H R=>ta σ H λvs H1=>∃j:Int,vs=[.int j]/\ -(2 ^ 62)<=j/\j<2 ^ 62/\R (Itr 0 j.toNat) H1
def lO (ta:TA):TI:=λσ H R=>ta σ H λvs H1=>Ex2 λi j:Int=>vs=[.int i,.int j]/\(-(2 ^ 62)<=i/\i<2 ^ 62/\ -(2 ^ 62)<=j/\j<2 ^ 62)/\R (Itr i (j - i).toNat) H1
theorem WW {a:Expr} {ta:TA} {p pos:Pos} (hg:Gl X "range") (hm:X.mg "range"=none) (ha:PA X [a] ta) (hs:bc [a] X.env=[(false,eval a X.env)]:=by rfl):PI X tg (.Call (.Name "range" p) [a] [] pos) (lN ta):=by
 intro pins s σ H R I h;refine zc (EL I hg hm x0 (cz (thn (ha pos pins s σ H _ I h) λus s1 ⟨vs,H1,I1,r1,q1⟩=>?_) hs rfl));obtain⟨j,e,q1,q2,q⟩:=q1;subst e;cases r1 with
 |cons r rr=>
  cases rr;obtain⟨t,rfl⟩:=r;exact call_range_1 (QZ I1 (by omega) (by omega) q1 q2 (by simpa using q))
theorem WX {a b:Expr} {ta:TA} {p pos:Pos} (hg:Gl X "range") (hm:X.mg "range"=none) (ha:PA X [a,b] ta) (hs:bc [a,b] X.env=[(false,eval a X.env),(false,eval b X.env)]:=by rfl) (hs2:bc [b] X.env=[(false,eval b X.env)]:=by rfl):
 PI X tg (.Call (.Name "range" p) [a,b] [] pos) (lO ta):=by
 intro pins s σ H R I h;refine zc (EL I hg hm x0 (cz (thn (ha pos pins s σ H _ I h) λus s1 ⟨vs,H1,I1,r1,q1⟩=>?_) (by rw[hs,hs2]) (by rw[hs2];rfl)));obtain⟨i,j,e,⟨q1,q2,q3,q4⟩,q⟩:=q1;subst e;cases r1 with
 |cons r rr=>
  cases rr with
  |cons r' rr=>
   cases rr;obtain⟨t,rfl⟩:=r;obtain⟨t',rfl⟩:=r';exact call_range_2 (QZ I1 q1 q2 q3 q4 q)
def rL (wi:TI) (g:TG) (tb:TS):TS:=λD σ H=>wi σ H λJ H1=>∃W:Nat->Nat->St->Hp->Prop,(∃m,W 0 m σ H1)/\∀i m σ H,W i m σ H->
 (J.stop i H/\D.nx σ H)\/(J.go i H/\∃N:St->Hp->Prop,(∀σ' H',N σ' H'->∃m',m'<m/\W (i+1) m' σ' H')/\∀x H',J.yld i H x H'->g x σ H' λσ2 H2=>tb { D with nx:=N,ct:=N,bk:=D.nx } σ2 H2)
def MD (fp:List Addr) (h:Heap):List (Addr×Obj):=fp.filterMap λb=>(h.get? b).map λo=>(b,o)
theorem IO {fp:List Addr} {h:Heap} {b:Addr} {o:Obj} (hb:b∈fp) (e:h.get? b=some o):(b,o)∈MD fp h:=wl.mpr ⟨b,hb,by rw[e];rfl⟩
theorem WY {fp:List Addr} {h:Heap} {p:Addr×Obj} (hp:p∈MD fp h):p.1∈fp/\h.get? p.1=some p.2:=by
 obtain⟨b,hb,e⟩:=wl.mp hp;cases q:h.get? b with
 |none=>rw[q] at e;cases e
 |some o=>
  rw[q] at e;have e':(b,o)=p:=cp e;subst e';exact⟨hb,q⟩
theorem Inv.pinned {pins:List (Addr×Obj)} {σ:St} {H:Hp} {s:ai} {fp:List Addr} (I:Inv X pins σ H s) (hf:∀b∈fp,LB X pins H b) (ho:∀b∈fp,∃o,s.heap.get? b=some o/\∀v,o.data≠.cell v):Inv X (pins++MD fp s.heap) σ H s:=
 I.pins_of λp hp=>(cj.mp hp).elim (λz=>I.pin p (dh _ z)) λz=>by
  obtain⟨hb,e⟩:=WY z;obtain⟨f0,f1,f2,_⟩:=hf p.1 hb;obtain⟨o,e',d⟩:=ho p.1 hb;rw[e] at e';cases e';exact⟨e,f0,f1,f2,d⟩
theorem Inv.unpinned {pins pl:List (Addr×Obj)} {σ:St} {H:Hp} {s:ai} (I:Inv X (pins++pl) σ H s):Inv X pins σ H s:=I.pins_of λp hp=>I.pin p (dh _ (sR _ hp))
theorem B4 {iter:Expr} {body:List Stmt} {wi:TI} {g:TG} {tb:TS} {pos:Pos} (hp:PassesOwn (bi X.prog X.w) X.A X.env X.xe) (hc:X.calm=true) (hi:PI X tg iter wi) (hg:PG X tg g) (hb:PSs X body tb)
 (hs:∀x,lh iter X.env x=pure x:=by intro _;rfl):PS X (.For tg iter body [] pos) (rL wi g tb):=by
 intro pins s σ H D I h;refine wpAny_For (thn (hi pins s σ H _ I h) λv s1 h1=>thn h1 λitv s2 h2=>?_) hs;obtain⟨it,fp,tn,J,H2,e,I2,T,st2,f2,W,⟨m0,w0⟩,turn⟩:=h2;subst e;have stat:∀{H':Hp},(∀b∈fp,H' b=none)->∀b∈fp,LB X pins H' b:=λhn b hb=>⟨hn b hb,(f2 b hb).2⟩
 refine codeAny_forLoop_any (λn s'=>∃i σ' H',Inv X pins σ' H' s'/\tn i s'.heap/\(∀b∈fp,H' b=none)/\W i n σ' H') ?_ m0 ⟨0,σ,H2,I2,st2,λb hb=>(f2 b hb).1,w0⟩;rintro n s3 ⟨i,σ3,H3,I3,st3,fr3,w3⟩;rcases turn i n σ3 H3 w3 with⟨stop,qn⟩|⟨go,N,hN,step⟩
 ·refine kz hp (thn (T.done X rfl rfl rfl hc i pins s3 σ3 H3 X.xe I3 (stat fr3) st3 stop) λr s4 ⟨hr,I4⟩=>?_);subst hr;exact qm ⟨σ3,H3,I4,qn⟩
 ·refine kz hp (thn (T.item X rfl rfl rfl hc i pins s3 σ3 H3 X.xe I3 (stat fr3) st3 go) λr s4 ⟨u,hr,h4⟩=>?_);subst hr;refine kz hp (thn h4 λ_ s5 ⟨x,H5,I5,r5,y5,st5,fr5⟩=>?_);have I5':=I5.pinned (stat fr5) (T.obj _ _ st5);refine kz hp (thn (hg _ s5 σ3 H5 x u _ I5' r5 (step x H5 y5)) λ_ s6 ⟨σ6,H6,I6,q6⟩=>?_);refine kz hp (thn (hb _ s6 σ6 H6 _ I6 q6) λf s7 q7=>?_);have again:∀{σ7:St} {H7:Hp},Inv X (pins++MD fp s5.heap) σ7 H7 s7->N σ7 H7->∃m,m<n/\∃i σ' H',Inv X pins σ' H' s7/\tn i s7.heap/\(∀b∈fp,H' b=none)/\W i m σ' H':=λ{σ7 H7} I7 n7=>by
   obtain⟨m',hm,w7⟩:=hN σ7 H7 n7;refine⟨m',hm,i+1,σ7,H7,I7.unpinned,T.keep _ _ _ st5 λb hb o e=>(I7.pin (b,o) (dh _ (dh _ (IO hb e)))).1,λb hb=>?_,w7⟩;obtain⟨o,e,d⟩:=T.obj _ _ st5 b hb;exact(I7.pin (b,o) (dh _ (dh _ (IO hb e)))).2.1
  cases f with
  |next=>obtain⟨σ7,H7,I7,n7⟩:=q7;exact again I7 n7
  |cont=>obtain⟨σ7,H7,I7,n7⟩:=q7;exact again I7 n7
  |brk=>obtain⟨σ7,H7,I7,q7⟩:=q7;exact⟨σ7,H7,I7.unpinned,q7⟩
  |ret v=>obtain⟨x7,σ7,H7,I7,r7,q7⟩:=q7;exact⟨x7,σ7,H7,I7.unpinned,r7,q7⟩
end
theorem DE {K:aa} {a:Addr} {xs:List V} {g:TG} {tb:TS} {D:Ends} {σ:St} {H:Hp} (Pv:Nat->St->Hp->Prop) (h0:Pv 0 σ H) (hl:∀i σ H,i<=xs.length->Pv i σ H->SqL K H a xs)
 (hs:∀i x σ H,xs[i]? =some x->Pv i σ H->g x σ H λσ2 H2=>tb { D with nx:=Pv (i+1),ct:=Pv (i+1),bk:=D.nx } σ2 H2) (hd:∀σ H,Pv xs.length σ H->D.nx σ H):
 ∃W:Nat->Nat->St->Hp->Prop,(∃m,W 0 m σ H)/\∀i m σ H,W i m σ H->
  ((Itl K a).stop i H/\D.nx σ H)\/((Itl K a).go i H/\∃N:St->Hp->Prop,(∀σ' H',N σ' H'->∃m',m'<m/\W (i+1) m' σ' H')/\∀x H',(Itl K a).yld i H x H'->g x σ H' λσ2 H2=>tb { D with nx:=N,ct:=N,bk:=D.nx } σ2 H2):=by
 refine⟨λi m σ H=>m=xs.length - i/\i<=xs.length/\Pv i σ H,⟨xs.length,by simp,df _,h0⟩,?_⟩;rintro i m σ H ⟨rfl,hi,p⟩;have q:=hl i σ H hi p;by_cases hlt:i<xs.length
 ·refine .inr ⟨⟨xs,xs[i],q,by simp[hlt]⟩,Pv (i+1),λσ' H' p'=>⟨xs.length - (i+1),by omega,rfl,hlt,p'⟩,λx H' y=>?_⟩;obtain⟨e,y⟩:=y;subst e;exact hs i x σ _ (y xs q) p
 ·have e:i=xs.length:=by omega
  subst e;exact .inl ⟨⟨xs,q,aq _⟩,hd σ H p⟩
theorem UW {K:aa} {a:Addr} {xs:List V} {g:TG} {tb:TS} {D:Ends} {σ:St} {H:Hp} (Pv:Nat->St->Hp->Prop) (h0:Pv 0 σ H) (hl:∀i σ H,i<=xs.length->Pv i σ H->SqT K H a xs)
 (hs:∀i x σ H,xs[i]? =some x->Pv i σ H->g x σ H λσ2 H2=>tb { D with nx:=Pv (i+1),ct:=Pv (i+1),bk:=D.nx } σ2 H2) (hd:∀σ H,Pv xs.length σ H->D.nx σ H):
 ∃W:Nat->Nat->St->Hp->Prop,(∃m,W 0 m σ H)/\∀i m σ H,W i m σ H->
  ((Itt K a).stop i H/\D.nx σ H)\/((Itt K a).go i H/\∃N:St->Hp->Prop,(∀σ' H',N σ' H'->∃m',m'<m/\W (i+1) m' σ' H')/\∀x H',(Itt K a).yld i H x H'->g x σ H' λσ2 H2=>tb { D with nx:=N,ct:=N,bk:=D.nx } σ2 H2):=by
 refine⟨λi m σ H=>m=xs.length - i/\i<=xs.length/\Pv i σ H,⟨xs.length,by simp,df _,h0⟩,?_⟩;rintro i m σ H ⟨rfl,hi,p⟩;have q:=hl i σ H hi p;by_cases hlt:i<xs.length
 ·refine .inr ⟨⟨xs,xs[i],q,by simp[hlt]⟩,Pv (i+1),λσ' H' p'=>⟨xs.length - (i+1),by omega,rfl,hlt,p'⟩,λx H' y=>?_⟩;obtain⟨e,y⟩:=y;subst e;exact hs i x σ _ (y xs q) p
 ·have e:i=xs.length:=by omega
  subst e;exact .inl ⟨⟨xs,q,aq _⟩,hd σ H p⟩
theorem WZ {lo:Int} {n:Nat} {g:TG} {tb:TS} {D:Ends} {σ:St} {H:Hp} (Pv:Nat->St->Hp->Prop) (h0:Pv 0 σ H)
 (hs:∀i σ H,i<n->Pv i σ H->g (.int (lo+i)) σ H λσ2 H2=>tb { D with nx:=Pv (i+1),ct:=Pv (i+1),bk:=D.nx } σ2 H2) (hd:∀σ H,Pv n σ H->D.nx σ H):
 ∃W:Nat->Nat->St->Hp->Prop,(∃m,W 0 m σ H)/\∀i m σ H,W i m σ H->
  ((Itr lo n).stop i H/\D.nx σ H)\/((Itr lo n).go i H/\∃N:St->Hp->Prop,(∀σ' H',N σ' H'->∃m',m'<m/\W (i+1) m' σ' H')/\∀x H',(Itr lo n).yld i H x H'->g x σ H' λσ2 H2=>tb { D with nx:=N,ct:=N,bk:=D.nx } σ2 H2):=by
 refine⟨λi m σ H=>m=n - i/\i<=n/\Pv i σ H,⟨n,by simp,df _,h0⟩,?_⟩;rintro i m σ H ⟨rfl,hi,p⟩;by_cases hlt:i<n
 ·refine .inr ⟨hlt,Pv (i+1),λσ' H' p'=>⟨n - (i+1),by omega,rfl,hlt,p'⟩,λx H' y=>?_⟩;obtain⟨e,y⟩:=y;subst e y;exact hs i σ _ hlt p
 ·have e:i=n:=by omega
  subst e;exact .inl ⟨aq _,hd σ H p⟩
theorem Q0 {c:TT} {tb:TS} {D:Ends} {σ:St} {H:Hp} (Pv:St->Hp->Prop) (μ:St->Hp->Nat) (h0:Pv σ H)
 (hs:∀σ H,Pv σ H->c σ H λb H1=>if b=true then tb { D with nx:=λσ' H'=>Pv σ' H'/\μ σ' H'<μ σ H,ct:=λσ' H'=>Pv σ' H'/\μ σ' H'<μ σ H,bk:=D.nx } σ H1 else D.nx σ H1)
 (mono:∀σ H Q Q',(∀b H1,Q b H1->Q' b H1)->c σ H Q->c σ H Q'):YG c tb D σ H:=by
 refine⟨λm σ H=>m=μ σ H/\Pv σ H,⟨_,rfl,h0⟩,?_⟩;rintro m σ H ⟨rfl,p⟩;refine mono σ H _ _ (λb H1 q=>?_) (hs σ H p);cases b with
 |true=>exact⟨_,λσ' H' ⟨p',l⟩=>⟨_,l,rfl,p'⟩,q⟩
 |false=>exact q
abbrev R2:=V->V->Hp->VK->Prop
def OpR (X:Cx) (f:ag->ag->Sem ag) (r:R2):Prop:=
 ∀(pins:List (Addr×Obj)) (s:ai) (σ:St) (H:Hp) (x y:V) (v u:ag) (Q:VK),Inv X pins σ H s->RelV x v->RelV y u->r x y H Q->
  be (bi X.prog X.w) X.A (f v u) (EP X pins σ Q) X.xe s
def UnR (X:Cx) (f:ag->Sem ag) (r:V->Hp->VK->Prop):Prop:=
 ∀(pins:List (Addr×Obj)) (s:ai) (σ:St) (H:Hp) (x:V) (v:ag) (Q:VK),Inv X pins σ H s->RelV x v->r x H Q->
  be (bi X.prog X.w) X.A (f v) (EP X pins σ Q) X.xe s
def JH (X:Cx) (f:ag) (r:List V->Hp->VK->Prop):Prop:=
 ∀(pins:List (Addr×Obj)) (s:ai) (σ:St) (H:Hp) (xs:List V) (us:List ag) (Q:VK),Inv X pins σ H s->Vals xs us->r xs H Q->
  be (bi X.prog X.w) X.A (call f us) (EP X pins σ Q) X.xe s
def tOp (r:R2) (ta tb:TE):TE:=λσ H Q=>ta σ H λx H1=>tb σ H1 λy H2=>r x y H2 Q
def tUn (r:V->Hp->VK->Prop) (ta:TE):TE:=λσ H Q=>ta σ H λx H1=>r x H1 Q
def rI (C:Int->Int->Prop) (g:Int->Int->V):R2:=λx y H Q=>I2At x y λi j=>C i j/\Q (g i j) H
def rI0 (g:Int->Int->V):R2:=λx y H Q=>I2At x y λi j=>Q (g i j) H
def rU (g:Int->V):V->Hp->VK->Prop:=λx H Q=>I1At x λi=>Q (g i) H
section
variable {X:Cx} {a b c:Expr} {ta tb tc:TE} {pos:Pos}
theorem gQ (ha:PE X a ta) (hb:PE X b tb) {pins:List (Addr×Obj)} {s:ai} {σ:St} {H:Hp} {R:V->V->Hp->Prop} (I:Inv X pins σ H s)
 (h:ta σ H λx H1=>tb σ H1 λy H2=>R x y H2) {Q:ag->ai->Prop} {f:ag->ag->Sem ag}
 (hf:∀v u s2 x y H2,Inv X pins σ H2 s2->RelV x v->RelV y u->R x y H2->be (bi X.prog X.w) X.A (f v u) Q X.xe s2):
 be (bi X.prog X.w) X.A (eval a X.env) (λv s₁=>be (bi X.prog X.w) X.A (eval b X.env) (λu s₂=>be (bi X.prog X.w) X.A (f v u) Q X.xe s₂) X.xe s₁) X.xe s:=by
 refine thn (ha pins s σ H _ I h) λv s1 ⟨x,H1,I1,r1,q1⟩=>?_;refine thn (hb pins s1 σ H1 _ I1 q1) λu s2 ⟨y,H2,I2,r2,q2⟩=>?_;exact hf v u s2 x y H2 I2 r1 r2 q2
theorem BC {op:wz} {r:R2} (ho:OpR X (rm op) r) (ha:PE X a ta) (hb:PE X b tb):PE X (.BinOp a op b pos) (tOp r ta tb):=by
 intro pins s σ H Q I h;exact wpAny_BinOp (gQ ha hb I h λv u s2 x y H2 I2 rx ry q=>ho pins s2 σ H2 x y v u Q I2 rx ry q)
theorem GX {op:UnaryOp} {r:V->Hp->VK->Prop} (ho:UnR X (unaryOp op) r) (ha:PE X a ta):PE X (.UnaryOp op a pos) (tUn r ta):=by
 intro pins s σ H Q I h;exact UnaryOp_ (thn (ha pins s σ H _ I h) λv s1 ⟨x,H1,I1,r1,q1⟩=>ho pins s1 σ H1 x v Q I1 r1 q1)
theorem opI {f:ag->ag->Sem ag} {C:Int->Int->Prop} {g:Int->Int->Int}
 (rule:∀(i j:Int) (t u:Tok) (s:ai) (Q:ag->ai->Prop) (E:ag->ai->Prop),C i j->Q (.int (g i j) s.toks) { s with toks:=s.toks+1 }->be (bi X.prog X.w) X.A (f (.int i t) (.int j u)) Q E s):
 OpR X f (rI C λi j=>.int (g i j)):=by
 intro pins s σ H x y v u Q I rx ry h;obtain⟨i,j,rfl,rfl,hc,q⟩:=h;obtain⟨t,rfl⟩:=rx;obtain⟨t',rfl⟩:=ry;exact rule i j t t' s _ _ hc ⟨.int (g i j),H,I.tok _,⟨_,rfl⟩,q⟩
theorem lP {f:ag->ag->Sem ag} {g:Int->Int->Int}
 (rule:∀(i j:Int) (t u:Tok) (s:ai) (Q:ag->ai->Prop) (E:ag->ai->Prop),Q (.int (g i j) s.toks) { s with toks:=s.toks+1 }->be (bi X.prog X.w) X.A (f (.int i t) (.int j u)) Q E s):
 OpR X f (rI0 λi j=>.int (g i j)):=by
 intro pins s σ H x y v u Q I rx ry h;obtain⟨i,j,rfl,rfl,q⟩:=h;obtain⟨t,rfl⟩:=rx;obtain⟨t',rfl⟩:=ry;exact rule i j t t' s _ _ ⟨.int (g i j),H,I.tok _,⟨_,rfl⟩,q⟩
theorem cJ {f:ag->ag->Sem ag} {g:Int->Int->Bool}
 (rule:∀(i j:Int) (t u:Tok) (s:ai) (Q:ag->ai->Prop) (E:ag->ai->Prop),Q (.bool (g i j)) s->be (bi X.prog X.w) X.A (f (.int i t) (.int j u)) Q E s):
 OpR X f (rI0 λi j=>.bl (g i j)):=by
 intro pins s σ H x y v u Q I rx ry h;obtain⟨i,j,rfl,rfl,q⟩:=h;obtain⟨t,rfl⟩:=rx;obtain⟨t',rfl⟩:=ry;exact rule i j t t' s _ _ ⟨.bl (g i j),H,I,rfl,q⟩
def lQ (i j:Int):Prop:=0<j/\j<1073741824
def CMul (i j:Int):Prop:=(-(2 ^ 64)<i/\i<2 ^ 64)\/(-(2 ^ 64)<j/\j<2 ^ 64)
theorem CMul.ok {i j:Int} (h:CMul i j):IntMulOk i j:=by
 rcases h with⟨h1,h2⟩|⟨h1,h2⟩
 ·exact .of_left (intBits_le_64 h1 h2)
 ·exact .of_right (intBits_le_64 h1 h2)
theorem C9:OpR X (rm .Add) (rI0 λi j=>.int (i+j)):=lP λ_ _ _ _ _ _ _ q=>add_int q
theorem G0:OpR X (rm .Sub) (rI0 λi j=>.int (i - j)):=lP λ_ _ _ _ _ _ _ q=>sub_int q
theorem IP:OpR X (rm .Mult) (rI CMul λi j=>.int (i*j)):=opI λ_ _ _ _ _ _ _ hc q=>mul_int q hc.ok
theorem LR:OpR X (rm .FloorDiv) (rI lQ λi j=>.int (i / j)):=opI λi j _ _ _ _ _ hc q=>by
 have h1:(0:Int)<j:=hc.1;have h2:j<1073741824:=hc.2;exact floordiv_int (by omega) (by rw[tQ i (by omega)];exact q) (.inl (uZ (by omega)))
theorem SW:OpR X (rm .Mod) (rI (λ_ j=>0<j) λi j=>.int (i%j)):=opI λi j _ _ _ _ _ hc q=>by
 have h1:(0:Int)<j:=hc;exact mod_int' (by omega) (by rw[Int.fmod_eq_emod_of_nonneg i (by omega)];exact q)
theorem unI {f:ag->Sem ag} {g:Int->Int}
 (rule:∀(i:Int) (t:Tok) (s:ai) (Q:ag->ai->Prop) (E:ag->ai->Prop),Q (.int (g i) s.toks) { s with toks:=s.toks+1 }->be (bi X.prog X.w) X.A (f (.int i t)) Q E s):
 UnR X f (rU λi=>.int (g i)):=by
 intro pins s σ H x v Q I rx h;obtain⟨i,rfl,q⟩:=h;obtain⟨t,rfl⟩:=rx;exact rule i t s _ _ ⟨.int (g i),H,I.tok _,⟨_,rfl⟩,q⟩
theorem EM:UnR X (unaryOp .USub) (rU λi=>.int (-i)):=unI λ_ _ _ _ _ q=>neg_int q
end
def lR:V->V->Bool
 | .non,.non=>true| .non,.int _=>true| .int _,.non=>true| .non,.bl _=>true| .bl _,.non=>true| .non,.str _=>true| .str _,.non=>true
 | .int _,.int _=>true| .bl _,.bl _=>true| .str _,.str _=>true| .byt _,.byt _=>true
 | .int _,.str _=>true| .str _,.int _=>true| .bl _,.str _=>true| .str _,.bl _=>true
 |_,_=>false
def rEq:R2:=λx y H Q=>lR x y=true/\Q (.bl (decide (x=y))) H
def rNe:R2:=λx y H Q=>lR x y=true/\Q (.bl (!decide (x=y))) H
theorem UX {i j:Int}:decide (V.int i=V.int j)=(i==j):=by
 rw[qp];simp
theorem YI {i j:Bool}:decide (V.bl i=V.bl j)=(i==j):=by
 rw[qp];simp
theorem UY {i j:Str}:decide (V.str i=V.str j)=(i==j):=by
 rw[qp];simp
theorem UZ {i j:Array UInt8}:decide (V.byt i=V.byt j)=(i.toList==j.toList):=by
 rw[qp];cases i;cases j;simp
section
variable {X:Cx} {a b c:Expr} {ta tb tc:TE} {pos:Pos}
theorem BE {pins:List (Addr×Obj)} {σ:St} {H:Hp} {s:ai} {Q:VK} {k k':Bool} (I:Inv X pins σ H s) (q:Q (.bl k) H) (e:k=k'):EP X pins σ Q (.bool k') s:=by
 subst e;exact⟨.bl k,H,I,rfl,q⟩
theorem CP:OpR X (ke .Eq) rEq:=by
 intro pins s σ H x y v u Q I rx ry h;obtain⟨hs,q⟩:=h;cases x with
 |non=>
  cases rx;cases y with
  |non=>cases ry;exact yx (BE I q (by simp))
  |bl j=>cases ry;exact yy (BE I q (by simp))
  |int j=>obtain⟨t',rfl⟩:=ry;exact yK (BE I q (by simp))
  |str j=>obtain⟨t',rfl⟩:=ry;exact yL (BE I q (by simp))
  |_=>exact absurd (show false=true from hs) bu
 |bl i=>
  cases rx;cases y with
  |non=>cases ry;exact yz (BE I q (by simp))
  |bl j=>cases ry;exact eq_bool (BE I q YI)
  |str j=>obtain⟨t',rfl⟩:=ry;exact yA (BE I q (by simp))
  |_=>exact absurd (show false=true from hs) bu
 |int i=>
  obtain⟨t,rfl⟩:=rx;cases y with
  |non=>cases ry;exact yM (BE I q (by simp))
  |int j=>obtain⟨t',rfl⟩:=ry;exact eq_int (BE I q UX)
  |str j=>obtain⟨t',rfl⟩:=ry;exact yN (BE I q (by simp))
  |_=>exact absurd (show false=true from hs) bu
 |str i=>
  obtain⟨t,rfl⟩:=rx;cases y with
  |non=>cases ry;exact yO (BE I q (by simp))
  |bl j=>cases ry;exact yB (BE I q (by simp))
  |int j=>obtain⟨t',rfl⟩:=ry;exact yP (BE I q (by simp))
  |str j=>obtain⟨t',rfl⟩:=ry;exact eq_str (BE I q UY)
  |_=>exact absurd (show false=true from hs) bu
 |byt i=>
  obtain⟨t,rfl⟩:=rx;cases y with
  |byt j=>obtain⟨t',rfl⟩:=ry;exact PySem.W.eq_bytes (BE I q UZ)
  |_=>exact absurd (show false=true from hs) bu
 |_=>cases y<;>exact absurd (show false=true from hs) bu
theorem eY:OpR X (ke .NotEq) rNe:=by
 intro pins s σ H x y v u Q I rx ry h;obtain⟨hs,q⟩:=h;cases x with
 |non=>
  cases rx;cases y with
  |non=>cases ry;exact yC (BE I q (by simp))
  |bl j=>cases ry;exact yD (BE I q (by simp))
  |int j=>obtain⟨t',rfl⟩:=ry;exact yQ (BE I q (by simp))
  |str j=>obtain⟨t',rfl⟩:=ry;exact yR (BE I q (by simp))
  |_=>exact absurd (show false=true from hs) bu
 |bl i=>
  cases rx;cases y with
  |non=>cases ry;exact yE (BE I q (by simp))
  |bl j=>cases ry;exact ne_bool (BE I q (congrArg not YI))
  |str j=>obtain⟨t',rfl⟩:=ry;exact yF (BE I q (by simp))
  |_=>exact absurd (show false=true from hs) bu
 |int i=>
  obtain⟨t,rfl⟩:=rx;cases y with
  |non=>cases ry;exact yS (BE I q (by simp))
  |int j=>obtain⟨t',rfl⟩:=ry;exact ne_int (BE I q (congrArg not UX))
  |str j=>obtain⟨t',rfl⟩:=ry;exact yT (BE I q (by simp))
  |_=>exact absurd (show false=true from hs) bu
 |str i=>
  obtain⟨t,rfl⟩:=rx;cases y with
  |non=>cases ry;exact yU (BE I q (by simp))
  |bl j=>cases ry;exact yG (BE I q (by simp))
  |int j=>obtain⟨t',rfl⟩:=ry;exact yV (BE I q (by simp))
  |str j=>obtain⟨t',rfl⟩:=ry;exact ne_str (BE I q (congrArg not UY))
  |_=>exact absurd (show false=true from hs) bu
 |byt i=>
  obtain⟨t,rfl⟩:=rx;cases y with
  |byt j=>obtain⟨t',rfl⟩:=ry;exact PySem.W.ne_bytes (BE I q (congrArg not UZ))
  |_=>exact absurd (show false=true from hs) bu
 |_=>cases y<;>exact absurd (show false=true from hs) bu
theorem IH:OpR X (ke .Lt) (rI0 λi j=>.bl (decide (i<j))):=cJ λ_ _ _ _ _ _ _ q=>lt_int q
theorem ME:OpR X (ke .LtE) (rI0 λi j=>.bl (decide (i<=j))):=cJ λ_ _ _ _ _ _ _ q=>le_int q
theorem E3:OpR X (ke .Gt) (rI0 λi j=>.bl (decide (j<i))):=cJ λ_ _ _ _ _ _ _ q=>gt_int q
theorem eZ:OpR X (ke .GtE) (rI0 λi j=>.bl (decide (j<=i))):=cJ λ_ _ _ _ _ _ _ q=>ge_int q
theorem gR:OpR X (ke .Is) (λx y H Q=>y= .non/\Q (.bl (decide (x= .non))) H):=by
 intro pins s σ H x y v u Q I rx ry h;obtain⟨rfl,q⟩:=h;cases ry;refine is_none_gen (BE I q ?_);cases x<;>first
  |(cases rx;rfl)
  |(obtain⟨t,rfl⟩:=rx;rfl)
theorem cK:OpR X (ke .IsNot) (λx y H Q=>y= .non/\Q (.bl (!decide (x= .non))) H):=by
 intro pins s σ H x y v u Q I rx ry h;obtain⟨rfl,q⟩:=h;cases ry;refine isnot_none_gen (BE I q ?_);cases x<;>first
  |(cases rx;rfl)
  |(obtain⟨t,rfl⟩:=rx;rfl)
theorem AQ (b:Expr) {op:y8} (h:op≠.In:=by decide) (h2:op≠.NotIn:=by decide):ny op b=false:=by
 have e1:(op==Ac)=false:=by cases op<;>first|rfl|exact absurd rfl h
 have e2:(op==zA)=false:=by cases op<;>first|rfl|exact absurd rfl h2
 cases b<;>simp[ny,e1,e2]
theorem DS {op:y8} {r:R2} (ho:OpR X (ke op) r) (ha:PE X a ta) (hb:PE X b tb) (hm:ny op b=false):PE X (.Compare a [op] [b] pos) (tOp r ta tb):=by
 intro pins s σ H Q I h;exact wpAny_Compare1 (gQ ha hb I h λv u s2 x y H2 I2 rx ry q=>ho pins s2 σ H2 x y v u Q I2 rx ry q) hm
def Q3 (t:TE):TT:=λσ H Q=>t σ H λx H'=>BlAt x λk=>Q k H'
theorem AO {op:y8} {r:R2} (ho:OpR X (ke op) r) (ha:PE X a ta) (hb:PE X b tb) (hm:ny op b=false):PT X (.Compare a [op] [b] pos) (Q3 (tOp r ta tb)):=by
 intro pins s σ H Q I h;refine vq (thn (ha pins s σ H _ I h) λv s1 ⟨x,H1,I1,r1,q1⟩=>thn (hb pins s1 σ H1 _ I1 q1) λu s2 ⟨y,H2,I2,r2,q2⟩=>
  thn (ho pins s2 σ H2 x y v u _ I2 r1 r2 q2) λc s3 ⟨z,H3,I3,r3,k,e,q3⟩=>?_) hm
 subst e;cases r3;exact oh ⟨H3,I3,q3⟩
def gS (r r':R2) (ta tb tc:TE):TE:=λσ H Q=>ta σ H λx H1=>tb σ H1 λy H2=>r x y H2 λz H3=>BlAt z λk=>
 (if k=true then tc σ H3 λw' H4=>r' y w' H4 Q else Q (.bl false) H3)
theorem YJ {op op':y8} {r r':R2} (ho:OpR X (ke op) r) (ho':OpR X (ke op') r') (ha:PE X a ta) (hb:PE X b tb) (hc:PE X c tc)
 (hm:lastMarks [op,op'] [b,c]=false:=by with_unfolding_all rfl):PE X (.Compare a [op,op'] [b,c] pos) (gS r r' ta tb tc):=by
 intro pins s σ H Q I h;refine Compare_chain (thn (ha pins s σ H _ I h) λv s1 ⟨x,H1,I1,r1,q1⟩=>chain_link (thn (hb pins s1 σ H1 _ I1 q1) λu s2 ⟨y,H2,I2,r2,q2⟩=>
  thn (ho pins s2 σ H2 x y v u _ I2 r1 r2 q2) λd s3 ⟨z,H3,I3,r3,k,e,q3⟩=>?_)) hm
 subst e;cases r3;refine oh ?_;cases k with
 |false=>exact ite_ff ⟨.bl false,H3,I3,rfl,q3⟩
 |true=>exact ite_tt (chain_last (thn (hc pins s3 σ H3 _ I3 q3) λw' s4 ⟨z',H4,I4,r4,q4⟩=>ho' pins s4 σ H4 y z' u w' Q I4 r2 r4 q4))
theorem J6:(sizeLine:Nat)<2 ^ 63:=by rw[bw];decide
theorem SX:OpR X (rm .Add) (λx y H Q=>Ex2 λi j=>x= .str i/\y= .str j/\i.length+j.length<=sizeLine/\Q (.str (i++j)) H):=by
 intro pins s σ H x y v u Q I rx ry h;obtain⟨i,j,rfl,rfl,hz,q⟩:=h;obtain⟨t,rfl⟩:=rx;obtain⟨t',rfl⟩:=ry;exact add_str (λt' tk=>⟨.str (i++j),H,I.tok _,⟨_,rfl⟩,q⟩) hz
theorem MF {x:V} {us:List ag} (r:Vals [x] us):∃u,us=[u]/\RelV x u:=by
 cases r with
 |cons r1 r2=>cases r2;exact⟨_,rfl,r1⟩
theorem MG:JH X (.builtin "abs") (λxs H Q=>∃i,xs=[.int i]/\Q (.int (if i<0 then -i else i)) H):=by
 intro pins s σ H xs us Q I r h;obtain⟨i,rfl,q⟩:=h;obtain⟨u,rfl,t,rfl⟩:=MF r;exact call_abs_int λu tk=>⟨.int (if i<0 then -i else i),H,I.tok _,⟨_,rfl⟩,q⟩
theorem YK:JH X (.builtin "ord") (λxs H Q=>∃x,xs=[.str x]/\x.length=1/\Q (.int (x.cps.getD 0 0:Nat)) H):=by
 intro pins s σ H xs us Q I r h;obtain⟨x,rfl,hz,q⟩:=h;obtain⟨u,rfl,t,rfl⟩:=MF r;exact ord_of_one hz ⟨.int _,H,I.tok _,⟨_,rfl⟩,q⟩
end
structure ObjM (h:Heap) (x dx C:Addr) (mA:Str->Option ag):Prop where
 obj:h.get? x=some (jt C dx)
 ns:h.Ns1 dx mA
 ne:dx≠x
theorem J7 {h:Heap} {dx:Addr} {mA:Str->Option ag} (n:h.Ns1 dx mA):∃od,h.get? dx=some od/\∀name,tR name od=some (mA name):=by
 obtain⟨o,es,ep,ho,hd,hk,_,hm⟩:=n;refine⟨o,ho,λname=>?_⟩;have e:=hm name;unfold nsFind findBy at e;rw[←Array.find?_toList] at e;unfold tR;rw[hd];dsimp only;split
 ·rename_i y q;rw[q] at e;exact congrArg some e
 ·rename_i q;rw[q] at e;have a:es.toList.any (·.refKey)=false:=by
   rw[List.any_eq_false];intro y hy;obtain⟨z,t,hkey⟩:=hk y (Array.mem_toList_iff.mp hy);simp[DictEntry.refKey,hkey]
  have a':¬es.toList.any (·.refKey)=true:=by rw[a];exact bu
  rw[if_neg a'];exact congrArg some e
theorem ObjM.look {h:Heap} {x dx C:Addr} {mA:Str->Option ag} (I:ObjM h x dx C mA):∃od,x3 h x (jt C dx) C (some od)/\∀name,tR name od=some (mA name):=
 let ⟨od,ho,hl⟩:=J7 I.ns
 ⟨od,⟨I.obj,rfl,rfl,ho⟩,hl⟩
section
variable {prog:aw} {w:bv} {A:cy} {E:ag->ai->Prop} {s:ai} {K:aa} {x dx C f:Addr} {mA:Str->Option ag} {name:Str} {v:ag}
theorem cM {expr:Bool} {Q:ag->ai->Prop} (X:K.In s.heap) (I:ObjM s.heap x dx C mA) (hg:sK K C name=true) (hh:uk K C=true)
 (ha:gy K (.ref C) name=some none) (hv:mA name=some v) (hv':wZ v=true) (h:Q v { s with toks:=s.toks+1 }):
 be (bi prog w) A (zh (.ref x) name expr) Q E s:=by
 obtain⟨od,J,hl⟩:=I.look;exact PySem.W.get_value X J (tF hg).1 (PySem.W.findObj_own hh ha rfl (by rw[hl,hv])) hv' h
theorem YL {pl:Sem Bool} {Q:ag×List ag->ai->Prop} (X:K.In s.heap) (I:ObjM s.heap x dx C mA) (hg:sK K C name=true)
 (hf:gy K (.ref C) name=some (some (.ref f))) (ht:pf K (.ref f)=true) (hv:mA name=none) (h:Q (.ref f,[.ref x]) s):
 be (bi prog w) A (kf (.ref x) name pl) Q E s:=by
 obtain⟨od,J,hl⟩:=I.look;exact PySem.W.method_fn X J (tF hg).1 (tF hg).2 hf (beq_iff_eq.mp ht) (by show(tR name od).map (·.isSome)=some false;rw[hl,hv];rfl) h
theorem cO {ns:List Str} {Q:Unit->ai->Prop} (X:K.In s.heap) (I:ObjM s.heap x dx C mA)
 (hs:gy K (.ref C) "__setattr__"=some (some (.builtin "object.__setattr__"))) (hp:wB K C=true) (ht:vh K C name=some none) (hh:uk K C=true)
 (hw:ow mA ns) (hsz:ns.length<=sizeLine)
 (h:∀h',ObjM h' x dx C (λy=>if y=name then some v else mA y)->oy dx s.heap h'->Q () { s with heap:=h',toks:=s.toks+2 }):
 be (bi prog w) A (zi (.ref x) name v) Q E s:=by
 obtain⟨od,J,hl⟩:=I.look;refine PySem.W.set_plain X J hs (PySem.W.osa_open (s:={ s with toks:=s.toks+1 }) (r:=none) X J hp ht λb=>?_);obtain⟨cd,hc,hd'⟩:=w6 hh;have hx:s.heap.get? x=some ⟨.ref C,some dx,.plain,#[]⟩:=I.obj;refine ae (am (ae (ae (vD hx (ae (mw (s:={ s with toks:=s.toks+1 }) (PySem.W.looks_clsIn X hc) ?_))))));rw[hd'];refine am (a:=some dx) (ae (am (ae ?_)));refine wC (s:={ s with toks:=s.toks+1 }) I.ns λh' hn2 hs2=>?_;obtain⟨oD,esD,epD,hoD,hdD,hcD⟩:=hn2.count (ul name v hw);refine ae (uE hoD (by rw[hdD];exact uF (cu hcD (by rw[cw];omega))) ?_);exact am (h _ ⟨(hs2.2 _ (cq I.ne)).trans I.obj,hn2,I.ne⟩ hs2)
theorem YM {R:w8->ai->Prop} {vs:List ag} {kw:List (Str×ag)} (X:K.In s.heap) (hm:vi K C=true)
 (hi:gy K (.ref C) "__init__"=some (some (.ref f))) (hf:PySem.W.typeIn K (.ref f)=some (.type "function"))
 (h:ml (bi prog w) (A.under (.builtin "type.__call__" ⟨.ref C::vs,kw⟩)) (.call (.ref f) ⟨.ref (s.heap.objs.size+1)::vs,kw⟩) (PySem.W.InitBack (s.heap.objs.size+1) R)
  { s with heap:=(s.heap.push io).push (jt C s.heap.objs.size) }):
 ml (bi prog w) A (.call (.ref C) ⟨vs,kw⟩) R s:=by
 obtain⟨hh,g,d,t,os⟩:=s;exact PySem.W.make_core (PySem.W.makes_of X hm) (PySem.W.looks_findIn X hi) (λself=>PySem.W.bind_fn X self hf) (.inl rfl) h
end
def FS (f:Str) (v:V):List (Str×V)->List (Str×V)
 |[]=>[(f,v)]
 |(g,x)::r=>if g=f then(g,v)::r else(g,x)::FS f v r
theorem G1 (f g:Str) (v:V):∀fs:List (Str×V),(FS f v fs).lookup g=if g=f then some v else fs.lookup g
 |[]=>by
  show jb g [(f,v)]=_;by_cases h:g=f
  ·have hb:(g==f)=true:=beq_iff_eq.mpr h;simp only[jb,hb,if_pos h]
  ·have hb:(g==f)=false:=beq_eq_false_iff_ne.mpr h;simp only[jb,hb,if_neg h]
 |(k,x)::r=>by
  have ih:=G1 f g v r;rw[show FS f v ((k,x)::r)=(if k=f then(k,v)::r else(k,x)::FS f v r) from rfl];by_cases hk:k=f
  ·rw[if_pos hk];by_cases h:g=k
   ·have hb:(g==k)=true:=beq_iff_eq.mpr h;simp only[jb,hb,if_pos (h.trans hk)]
   ·have hb:(g==k)=false:=beq_eq_false_iff_ne.mpr h;simp only[jb,hb,if_neg (λe:g=f=>h (e.trans hk.symm))]
  ·rw[if_neg hk];by_cases h:g=k
   ·have hb:(g==k)=true:=beq_iff_eq.mpr h;simp only[jb,hb,if_neg (λe:g=f=>hk (h.symm.trans e))]
   ·have hb:(g==k)=false:=beq_eq_false_iff_ne.mpr h;simp only[jb,hb];exact ih
theorem F8 (f:Str) (v:V):∀fs:List (Str×V),f∈(FS f v fs).map (·.1)/\∀g,g∈fs.map (·.1)->g∈(FS f v fs).map (·.1)
 |[]=>⟨by simp[FS],λg h=>by simp at h⟩
 |(k,x)::r=>by
  obtain⟨i1,i2⟩:=F8 f v r;rw[show FS f v ((k,x)::r)=(if k=f then(k,v)::r else(k,x)::FS f v r) from rfl];by_cases hk:k=f
  ·rw[if_pos hk];subst hk;exact⟨by simp,λg h=>by simpa using h⟩
  ·rw[if_neg hk];refine⟨?_,λg h=>?_⟩
   ·rw[de];exact ao _ i1
   ·rw[de] at h ⊢;rcases bp.mp h with e|e
    ·exact bp.mpr (.inl e)
    ·exact ao _ (i2 g e)
theorem FK (f:Str) (v:V):∀fs:List (Str×V),(FS f v fs).length<=fs.length+1
 |[]=>by simp[FS]
 |(k,x)::r=>by
  have ih:=FK f v r;rw[show FS f v ((k,x)::r)=(if k=f then(k,v)::r else(k,x)::FS f v r) from rfl];by_cases hk:k=f
  ·rw[if_pos hk,cw,cw];omega
  ·rw[if_neg hk,cw,cw];omega
theorem RelO.some_of {v:V} {o:Option ag} (r:RelO (some v) o):∃u,o=some u/\RelV v u:=by
 cases o with
 |none=>exact(show False from r).elim
 |some u=>exact⟨u,rfl,r⟩
theorem RelO.none_of {o:Option ag} (r:RelO none o):o=none:=by
 cases o with
 |none=>rfl
 |some u=>exact(show False from r).elim
theorem OB {v:V} {u:ag} (r:RelV v u):wZ u=true:=by
 cases v with
 |non=>cases (show u=ij from r);rfl
 |bl b=>cases (show u=zU b from r);rfl
 |int i=>obtain⟨t,e⟩:=(show∃t,u=uC i t from r);cases e;rfl
 |str x=>obtain⟨t,e⟩:=(show∃t,u=wU x t from r);cases e;rfl
 |byt b=>obtain⟨t,e⟩:=(show∃t,u=zy b t from r);cases e;rfl
 |flt b=>obtain⟨t,e⟩:=(show∃t,u=zz b t from r);cases e;rfl
 |ref a=>cases (show u=bz a from r);rfl
 |ty n=>cases (show u=iy n from r);rfl
section
variable {P:aw} {w:bv} {H H':Hp} {h h':Heap} {a C dx:Addr} {fs fs':List (Str×V)}
theorem PF (hok:HOk P w H h) (e:H a=some (.ins C dx fs)):∃mA,ObjM h a dx C mA/\(∀f,RelO (fs.lookup f) (mA f))/\ow mA (fs.map (·.1))/\fs.length<=1000/\H dx=some (.own a):=by
 obtain⟨d,z,ne,ob,mA,n,r,q⟩:=(show ObjOk P w H h a (.ins C dx fs) from hok a _ e)
 exact⟨mA,⟨ob,n,ne⟩,r,q,z,d⟩
end
structure Cls (K:aa) (C:Addr):Prop where
 pg:sK K C Str.empty=true
 hd:uk K C=true
 po:wB K C=true
 sa:gy K (.ref C) "__setattr__"=some (some (.builtin "object.__setattr__"))
theorem Cls.get {K:aa} {C:Addr} (c:Cls K C) (f:Str):sK K C f=true:=c.pg
def NoAttr (K:aa) (C:Addr) (f:Str):Prop:=gy K (.ref C) f=some none
theorem NoAttr.taker {K:aa} {C:Addr} {f:Str} (n:NoAttr K C f):vh K C f=some none:=by
 unfold vh;rw[show gy K (.ref C) f=some none from n];rfl
structure Meth (K:aa) (C:Addr) (m:Str) (f:Addr):Prop where
 at_:gy K (.ref C) m=some (some (.ref f))
 fn:pf K (.ref f)=true
 kp:dq K (.ref f)=true
section
variable {X:Cx} {pins:List (Addr×Obj)} {σ:St} {H:Hp} {s:ai} {a C dx:Addr} {fs:List (Str×V)} {f:Str} {v:V} {A:cy} {E:ag->ai->Prop}
theorem MJ {b:Bool} {Q:ag->ai->Prop} (I:Inv X pins σ H s) (e:H a=some (.ins C dx fs)) (c:Cls X.K C) (n:NoAttr X.K C f) (l:fs.lookup f=some v)
 (h:∀u s',Inv X pins σ H s'->RelV v u->Q u s'):be (bi X.prog X.w) A (zh (.ref a) f b) Q E s:=by
 obtain⟨mA,O,r,_,_,_⟩:=PF I.hok e;obtain⟨u,hu,ru⟩:=RelO.some_of (v:=v) (o:=mA f) (by rw[←l];exact r f);exact cM I.kIn O (c.get f) c.hd n hu (OB ru) (h u _ (I.tok _) ru)
theorem IQ {m:Str} {g:Addr} {pl:Sem Bool} {Q:ag×List ag->ai->Prop} (I:Inv X pins σ H s) (e:H a=some (.ins C dx fs)) (c:Cls X.K C) (k:Meth X.K C m g) (l:fs.lookup m=none)
 (h:Q (.ref g,[.ref a]) s):be (bi X.prog X.w) A (kf (.ref a) m pl) Q E s:=by
 obtain⟨mA,O,r,_,_,_⟩:=PF I.hok e;have hn:mA m=none:=RelO.none_of (by rw[←l];exact r m);exact YL I.kIn O (c.get m) k.at_ k.fn hn h
theorem MK {y:V} {u:ag} {Q:Unit->ai->Prop} (I:Inv X pins σ H s) (e:H a=some (.ins C dx fs)) (c:Cls X.K C) (n:NoAttr X.K C f) (hl:fs.length<1000) (ry:RelV y u)
 (h:∀s',Inv X pins σ (upd H a (.ins C dx (FS f y fs))) s'->Q () s'):be (bi X.prog X.w) A (zi (.ref a) f u) Q E s:=by
 obtain⟨mA,O,r,wi,_,ho⟩:=PF I.hok e;have hz:(fs.map (·.1)).length<=sizeLine:=by rw[ah,bw];omega
 refine cO I.kIn O c.sa c.po n.taker c.hd wi hz λh' O' sb=>h _ ?_;have hd:∃o,h'.get? dx=some o:=let ⟨o,_,_,e',_⟩:=O'.ns;⟨o,e'⟩;refine I.write (x:=a) (e:=dx) (by rw[e];exact iz) (.inr ho) (λb q hb z=>(sb.2 b hb).trans z) hd ?_;refine⟨by rw[AE O.ne];exact ho,?_,O.ne,O'.obj,_,O'.ns,λg=>?_,λg hg=>?_⟩
 ·have:=FK f y fs;omega
 ·show RelO ((FS f y fs).lookup g) (if g=f then some u else mA g);rw[G1];by_cases q:g=f
  ·rw[if_pos q,if_pos q];exact ry
  ·rw[if_neg q,if_neg q];exact r g
 ·by_cases q:g=f
  ·rw[q];exact(F8 f y fs).1
  ·refine(F8 f y fs).2 g (wi g λz=>hg ?_);show(if g=f then some u else mA g)=none;rw[if_neg q];exact z
theorem Inv.made (I:Inv X pins σ H s):Inv X pins σ (upd (upd H s.heap.objs.size (.own (s.heap.objs.size+1))) (s.heap.objs.size+1) (.ins C s.heap.objs.size []))
 { s with heap:=(s.heap.push io).push (jt C s.heap.objs.size) }:=by
 have e1:(s.heap.push io).get? s.heap.objs.size=some io:=bf s.heap rfl;have e2:((s.heap.push io).push (jt C s.heap.objs.size)).get? (s.heap.objs.size+1)=some (jt C s.heap.objs.size):=by
  have:=bf (s.heap.push io) (o:=jt C s.heap.objs.size) rfl
  rwa [ff] at this
 have e3:(s.heap.push io).Ns s.heap.objs.size (λ_=>none):=⟨io,#[],_,e1,rfl,(λe he=>absurd he (by simp)),λ_=>rfl⟩
 have I1:=I.laid (a:=s.heap.objs.size) (o:=.own (s.heap.objs.size+1)) (h':=s.heap.push io) (t':=s.toks) (λb u q=>ak _ q) (aq _) ⟨_,e1⟩;refine I1.laid (a:=s.heap.objs.size+1) (o:=.ins C s.heap.objs.size []) (t':=s.toks) (λb u q=>ak _ q) (rn (ff _ _)) ?_;have ne:s.heap.objs.size≠s.heap.objs.size+1:=cg (uG _);refine⟨by rw[AE ne,upd_same],df _,ne,e2,λ_=>none,(wD e3).at λo q=>ak _ q,λ_=>iz,λy hy=>absurd rfl hy⟩
theorem U0 {prog:aw} {w:bv} {env:Env} {e:Expr} {f:Str} {pos:Pos} {s:ai} {Q:ag->ai->Prop} (hb:jl e f env (eval e env)=eval e env)
 (h:be (bi prog w) A (eval e env) (λo s₁=>be (bi prog w) A (zh o f true) Q E s₁) E s):be (bi prog w) A (eval (.Attribute e f pos) env) Q E s:=
 Attribute_any_ h (by rw[arm_eval_Attribute,hb])
end
inductive FldAt (K:aa) (f:Str) (x:V) (H:Hp) (Q:V->Prop):Prop
 |intro(a C dx:Addr) (fs:List (Str×V)) (v:V) (e:x= .ref a) (h1:H a=some (.ins C dx fs)) (h2:Cls K C) (h3:NoAttr K C f) (h4:fs.lookup f=some v) (h:Q v):FldAt K f x H Q
def NY (K:aa) (ta:TE) (f:Str):TE:=λσ H Q=>ta σ H λx H1=>FldAt K f x H1 λv=>Q v H1
def rM (K:aa) (ta tv:TE) (f:Str):TS:=λD σ H=>tv σ H λy H1=>ta σ H1 λx H2=>Ex4 λa C dx fs=>x= .ref a/\H2 a=some (.ins C dx fs)/\Cls K C/\NoAttr K C f/\fs.length<1000/\
 D.nx σ (upd H2 a (.ins C dx (FS f y fs)))
def lS (X:Cx) (op:wz) (rd:V->V->Hp->VK->Prop):Prop:=
 ∀(pins:List (Addr×Obj)) (s:ai) (σ:St) (H:Hp) (x y:V) (u v:ag) (Q:VK),Inv X pins σ H s->RelV x u->RelV y v->rd x y H Q->be (bi X.prog X.w) X.A (y9 op u v) (EP X pins σ Q) X.xe s
def cP (K:aa) (ta tv:TE) (rd:V->V->Hp->VK->Prop) (f:Str):TS:=λD σ H=>ta σ H λx H1=>Ex5 λa C dx fs v=>x= .ref a/\H1 a=some (.ins C dx fs)/\Cls K C/\NoAttr K C f/\fs.lookup f=some v/\
 tv σ H1 λy H2=>rd v y H2 λz H3=>Ex2 λdx' fs'=>H3 a=some (.ins C dx' fs')/\fs'.length<1000/\D.nx σ (upd H3 a (.ins C dx' (FS f z fs')))
section
variable {X:Cx} {o e value:Expr} {f:Str} {pos pos' tpos:Pos} {ta tv:TE}
theorem AR (he:PE X e ta) (hb:jl e f X.env (eval e X.env)=eval e X.env):PE X (.Attribute e f pos) (NY X.K ta f):=by
 intro pins s σ H Q I h;refine U0 hb (thn (he pins s σ H _ I h) λu s1 ⟨x,H1,I1,rx,a,C,dx,fs,v,ex,ea,c,n,l,q⟩=>?_);subst ex;obtain rfl:u=bz a:=rx;exact MJ I1 ea c n l λu' s2 I2 ru=>⟨v,H1,I2,ru,q⟩
theorem CQ (ha:PE X o ta) (hv:PE X value tv) (hs:pc value (some (.Attribute o f pos')) pos.line X.env=pure false):PS X (.Assign [.Attribute o f pos'] value pos) (rM X.K ta tv f):=by
 intro pins s σ H D I h;refine mh (thn (hv pins s σ H _ I h) λu s1 ⟨y,H1,I1,ry,q⟩=>thn (ha pins s1 σ H1 _ I1 q) λov s2 ⟨x,H2,I2,rx,a,C,dx,fs,ex,ea,c,n,l,q2⟩=>?_) hs;subst ex;obtain rfl:ov=bz a:=rx;exact MK I2 ea c n l ry λs3 I3=>⟨σ,_,I3,q2⟩
theorem W0 {op:wz} {rd:V->V->Hp->VK->Prop} (ha:PE X o ta) (hv:PE X value tv) (hop:lS X op rd):PS X (.AugAssign (.Attribute o f tpos) op value pos) (cP X.K ta tv rd f):=by
 intro pins s σ H D I h;refine wpAny_AugAssign_AttributeAny (thn (ha pins s σ H _ I h) λov s1 ⟨x,H1,I1,rx,a,C,dx,fs,v,ex,ea,c,n,l,q⟩=>?_);subst ex;obtain rfl:ov=bz a:=rx;refine MJ I1 ea c n l λu s2 I2 ru=>thn (hv pins s2 σ H1 _ I2 q) λw3 s3 ⟨y,H2,I3,ry,q3⟩=>thn (hop pins s3 σ H2 v y u w3 _ I3 ru ry q3) λw4 s4 ⟨z,H3,I4,rz,dx',fs',ea',l',q4⟩=>?_;exact MK I4 ea' c n l' rz λs5 I5=>⟨σ,_,I5,q4⟩
def rN:V->V->Hp->VK->Prop:=λx y H Q=>I2At x y λi j=>Q (.int (i+j)) H
theorem gT:lS X .Add rN:=by
 rintro pins s σ H x y u v Q I rx ry ⟨i,j,rfl,rfl,q⟩;obtain⟨t,rfl⟩:=(show∃t,u=uC i t from rx)
 obtain⟨t',rfl⟩:=(show∃t',v=uC j t' from ry)
 exact zu ⟨.int (i+j),H,I.tok _,⟨_,rfl⟩,q⟩
theorem e6 {pl:Sem Bool} {m:Str} {apos:Pos} {args:List Expr} {pins:List (Addr×Obj)} {s:ai} {σ:St} {H:Hp} {Q:ag->ai->Prop} {te:TE} (he:PE X e te) (I:Inv X pins σ H s)
 (h:te σ H λx H1=>∃a C dx fs g,x= .ref a/\H1 a=some (.ins C dx fs)/\Cls X.K C/\Meth X.K C m g/\fs.lookup m=none/\
  ∀s1,Inv X pins σ H1 s1->be (bi X.prog X.w) X.A (mo pos (.ref g) [.ref a] (gr pos (bc args X.env)) (jm pos (ge [] X.env))) Q X.xe s1)
 (ht:eval (.Call (.Attribute e m apos) args [] pos) X.env=(do
  let ov←eval e X.env
  mj apos.atName
  let (f,first)←lg [ov] (kf ov m pl)
  mo pos f first (gr pos (bc args X.env)) (jm pos (ge [] X.env)))):
 be (bi X.prog X.w) X.A (eval (.Call (.Attribute e m apos) args [] pos) X.env) Q X.xe s:=by
 refine oe (pl:=pl) (thn (he pins s σ H _ I h) λu s1 ⟨x,H1,I1,rx,a,C,dx,fs,g,ex,ea,c,k,l,q⟩=>?_) ht;subst ex;obtain rfl:u=bz a:=rx;exact IQ I1 ea c k l (q s1 I1)
end
structure Room (k:Nat) (A:cy):Prop where
 hd:A.handled=none
 dp:A.depth+3*k+5<recursionLimit
 un:A.units+16*k+200<cLine
theorem Room.mono {j k:Nat} {A:cy} (r:Room k A) (h:j<=k):Room j A:=⟨r.hd,by have:=r.dp;omega,by have:=r.un;omega⟩
theorem Room.deeper {k:Nat} {A:cy} (r:Room (k+1) A) (env:Env):Room k (A.deeper env):=
 ⟨r.hd,by have:=r.dp;show A.depth+1+3*k+5<_;omega,by have:=r.un;show A.units+3+16*k+200<_;omega⟩
theorem Room.in1 {k:Nat} {A:cy} (r:Room (k+1) A):Room k A.in1:=
 ⟨r.hd,by have:=r.dp;show A.depth+3*k+5<_;omega,by have:=r.un;show A.units+1+16*k+200<_;omega⟩
theorem MM {A:cy} {C:Addr} {us:List ag} {kw:List (Str×ag)}:(A.under (.builtin "type.__call__" ⟨.ref C::us,kw⟩)).depth=A.depth+1:=by
 first|rfl|simp[wE,Code.weight,Code.isCreation,Code.isGuard,Code.isCaller,zC,wF,guardIds]
theorem MO {A:cy} {C:Addr} {us:List ag} {kw:List (Str×ag)}:(A.under (.builtin "type.__call__" ⟨.ref C::us,kw⟩)).units=A.units+1:=by
 first|rfl|simp[wE,Code.cUnits,zC,wF]
theorem Room.make {k:Nat} {A:cy} (r:Room (k+1) A) (C:Addr) (us:List ag) (kw:List (Str×ag)):Room k (A.under (.builtin "type.__call__" ⟨.ref C::us,kw⟩)):=
 ⟨r.hd,by have:=r.dp;rw[MM];omega,by have:=r.un;rw[MO];omega⟩
theorem Room.depth {k:Nat} {A:cy} (r:Room k A):A.depth<recursionLimit:=by have:=r.dp;omega
theorem Room.units {k:Nat} {A:cy} (r:Room k A):A.units+64<cLine:=by have:=r.un;omega
def EN:TA:=λ_ H Q=>Q [] H
def B5 (ta:TE) (tr:TA):TA:=λσ H Q=>ta σ H λx H1=>tr σ H1 λxs H2=>Q (x::xs) H2
section
variable {X:Cx} {e:Expr} {es:List Expr} {te:TE} {t:TA} {pos:Pos}
theorem AF:PA X [] EN:=λ_ _ _ _ H Q I h=>rp ⟨[],H,I,.nil,h⟩
theorem AA (ha:PE X e te) (hr:PA X es t) (hs:bc (e::es) X.env=(false,eval e X.env)::bc es X.env:=by rfl):PA X (e::es) (B5 te t):=by
 intro pos pins s σ H Q I h;rw[hs];show be _ _ (zg ((false,eval e X.env)::gr pos (bc es X.env))) _ _ s;refine tS (thn (ha pins s σ H _ I h) λu s1 ⟨x,H1,I1,r1,q1⟩=>?_);exact thn (hr pos pins s1 σ H1 _ I1 q1) λus s2 ⟨xs,H2,I2,r2,q2⟩=>⟨x::xs,H2,I2,.cons r1 r2,q2⟩
def gU (t:TA):TE:=λσ H Q=>t σ H λxs H1=>xs.length<=sizeLine/\∀p,H1 p=none->Q (.ref p) (upd H1 p (.tup xs))
def gW (t:TA):TE:=λσ H Q=>t σ H λxs H1=>xs.length<=sizeLine/\∀p,H1 p=none->Q (.ref p) (upd H1 p (.lst xs))
theorem E4 {x1} (h:PA X es t):PE X (.Tuple es x1 pos) (gU t):=by
 intro pins s σ H Q I hq;refine wpAny_Tuple_spliced (thn (h pos pins s σ H _ I hq) λus s1 ⟨xs,H1,I1,r,z,q⟩=>⟨by rw[←r.length];exact z,?_⟩);have hf:H1 s1.heap.objs.size=none:=I1.hok.fresh (aq _);refine⟨.ref s1.heap.objs.size,upd H1 s1.heap.objs.size (.tup xs),I1.laid (t':=s1.toks) (λb u e=>ak _ e) (aq _) ?_,rfl,q _ hf⟩;exact⟨z,us,r,⟨_,bf _ rfl,rfl,_,rfl⟩⟩
theorem DK (h:PA X es t):PE X (.List es pos) (gW t):=by
 intro pins s σ H Q I hq;refine wpAny_List_spliced (thn (h pos pins s σ H _ I hq) λus s1 ⟨xs,H1,I1,r,z,q⟩=>⟨by rw[←r.length];exact z,?_⟩);have hf:H1 s1.heap.objs.size=none:=I1.hok.fresh (aq _);refine⟨.ref s1.heap.objs.size,upd H1 s1.heap.objs.size (.lst xs),I1.laid (t':=s1.toks) (λb u e=>ak _ e) (aq _) ?_,rfl,q _ hf⟩;exact⟨z,us,0,r,bf _ rfl⟩
end
abbrev Sp:=List V->Hp->VK->XK->Prop
abbrev CXT:=List Env->Hp->ai->XK->ag->ai->Prop
structure Env0 (P:aw) (w:bv) (K:aa) (mg:Str->Option ag) (base:Heap) (A:cy) (outer:List Env) (s:ai) (H:Hp):Prop where
 frames:A.frames=some outer
 mod:Mod K mg base
 bs:∀b o,base.get? b=some o->s.heap.get? b=some o/\H b=none
 bsz:base.objs.size<=s.heap.objs.size
 funs:s.heap.FunFrames base outer
 frf:∀b∈frs outer,H b=none
 hok:HOk P w H s.heap
 bare:uY s.gens
def CE (outer:List Env) (P:aw) (w:bv) (H:Hp) (s:ai) (Q:VK) (u:ag) (s':ai):Prop:=
 Ex2 λv H'=>s'.os=s.os/\uY s'.gens/\Un (frs outer) [] H H' s.heap s'.heap/\HOk P w H' s'.heap/\RelV v u/\Q v H'
def CR (CX:CXT) (outer:List Env) (P:aw) (w:bv) (H:Hp) (s:ai) (Q:VK) (E:XK) (r:w8) (s':ai):Prop:=
 match r with
 | .ok (.ret u)=>CE outer P w H s Q u s'
 | .ok _=>False
 | .error e=>CX outer H s E e s'
structure FnOk (P:aw) (w:bv) (K:aa) (mg:Str->Option ag) (base:Heap) (CX:CXT) (k:Nat) (f:Addr) (fd:du) (ps:List Str) (sp:Sp):Prop where
 len:∀vs H Q E,sp vs H Q E->vs.length=ps.length
 run:∀(A:cy) (outer:List Env) (s:ai) (H:Hp) (args:Args) (us:List ag) (vs:List V) (Q:VK) (E:XK),Room k A->Env0 P w K mg base A outer s H->vY s fd args (ps.zip us)->Vals vs us->sp vs H Q E->
  ml (bi P w) A (.call (.ref f) args) (CR CX outer P w H s Q E) s
theorem FnOk.mono {P:aw} {w:bv} {K:aa} {mg:Str->Option ag} {base:Heap} {CX:CXT} {j k:Nat} {f:Addr} {fd:du} {ps:List Str} {sp:Sp} (F:FnOk P w K mg base CX j f fd ps sp) (h:j<=k):
 FnOk P w K mg base CX k f fd ps sp:=⟨F.len,λA outer s H args us vs Q E hr=>F.run A outer s H args us vs Q E (hr.mono h)⟩
theorem Env0.make {P:aw} {w:bv} {K:aa} {mg:Str->Option ag} {base:Heap} {A:cy} {outer:List Env} {s:ai} {H:Hp} (e:Env0 P w K mg base A outer s H) (C:Addr) (us:List ag) (kw:List (Str×ag)):
 Env0 P w K mg base (A.under (.builtin "type.__call__" ⟨.ref C::us,kw⟩)) outer s H:=⟨by first|exact e.frames|(simpa [wE,Code.envs,wF,pushEnvs] using e.frames),e.mod,e.bs,e.bsz,e.funs,e.frf,e.hok,e.bare⟩
theorem Env0.in1 {P:aw} {w:bv} {K:aa} {mg:Str->Option ag} {base:Heap} {A:cy} {outer:List Env} {s:ai} {H:Hp} (e:Env0 P w K mg base A outer s H):
 Env0 P w K mg base A.in1 outer s H:=⟨e.frames,e.mod,e.bs,e.bsz,e.funs,e.frf,e.hok,e.bare⟩
section
variable {X:Cx} {pins:List (Addr×Obj)} {σ:St} {H:Hp} {s s':ai}
theorem Inv.env0 (I:Inv X pins σ H s):Env0 X.prog X.w X.K X.mg X.base X.A X.stack s H:=
 ⟨I.ok.frames,I.ok.mod,I.bs,cu I.ok.bsz I.sz,I.stack,I.stkFree,I.hok,I.bare⟩
theorem Inv.after {Q:VK} {u:ag} (I:Inv X pins σ H s) (h:CE X.stack X.prog X.w H s Q u s'):EP X pins σ Q u s':=by
 obtain⟨v,H',os,bare,un,hok,r,q⟩:=h;obtain⟨hh,g,d,t,os'⟩:=s';obtain rfl:os'=s.os:=os;exact⟨v,H',I.call (h':=hh) (g':=g) (d':=d) (t':=t) (ch:=[]) un hok bare (λb z=>absurd z (by simp)),r,q⟩
end
def KZ (sp:Sp) (dvs:List V) (E:XK) (t:TA):TE:=λσ H Q=>t σ H λvs H1=>sp (vs++dvs) H1 Q E
def Q4 (C:Addr) (m:Str) (sp:Sp) (dvs:List V) (E:XK) (ta:TE) (t:TA):TE:=λσ H Q=>ta σ H λx H1=>Ex3 λa dx fs=>x= .ref a/\H1 a=some (.ins C dx fs)/\fs.lookup m=none/\
 t σ H1 λvs H2=>sp (x::(vs++dvs)) H2 Q E
def VA (C:Addr) (sp:Sp) (dvs:List V) (E:XK) (t:TA):TE:=λσ H Q=>t σ H λvs H1=>∀x dx,H1 x=none->H1 dx=none->dx≠x->
 sp (.ref x::(vs++dvs)) (upd (upd H1 dx (.own x)) x (.ins C dx [])) (λv H2=>v= .non/\Q (.ref x) H2) E
def Binds (K:aa) (fd:du) (ps:List Str) (ds:List ag):Prop:=
 ∀(s:ai) (us:List ag),K.In s.heap->(us++ds).length=ps.length->vY s fd ⟨us,[]⟩ (ps.zip (us++ds))
theorem Binds.all {K:aa} {fd:du} {ps:List Str} (h:∀us:List ag,us.length=ps.length->vE fd ⟨us,[]⟩=pure (ps.zip us)):Binds K fd ps []:=λs us _ hl=>by
 rw[ju] at hl ⊢;exact .of_eq (h us hl)
def D8 (CX:CXT) (X:Cx) (E:XK):Prop:=∀(pins:List (Addr×Obj)) (σ:St) (H:Hp) (s:ai) (e:ag) (s':ai),Inv X pins σ H s->CX X.stack H s E e s'->X.xe e s'
section
variable {X:Cx} {CX:CXT} {k:Nat} {f C:Addr} {fd:du} {ps:List Str} {sp:Sp} {dvs:List V} {ds:List ag} {E:XK} {x m:Str} {p pos apos:Pos} {e o:Expr} {es:List Expr} {ta:TE} {t:TA}
theorem SY {pins:List (Addr×Obj)} {σ:St} {H:Hp} {s:ai} {Q:VK} {us:List ag} {vs:List V} (F:FnOk X.prog X.w X.K X.mg X.base CX k f fd ps sp) (hr:Room k X.A) (hb:Binds X.K fd ps ds) (hd:Vals dvs ds) (hx:D8 CX X E)
 (I:Inv X pins σ H s) (r:Vals vs us) (h:sp (vs++dvs) H Q E):be (bi X.prog X.w) X.A (call (.ref f) us) (EP X pins σ Q) X.xe s:=by
 have r2:Vals (vs++dvs) (us++ds):=r.append hd;have hl:(us++ds).length=ps.length:=by rw[←r2.length];exact F.len _ _ _ _ h
 refine sM (mx (F.run X.A X.stack s H ⟨us,[]⟩ (us++ds) (vs++dvs) Q E hr I.env0 (hb s us I.kIn hl) r2 h) λr s' hq=>?_);cases r with
 |error e=>exact hx pins σ H s e s' I hq
 |ok fl=>
  cases fl with
  |ret u=>exact I.after hq
  |next=>exact eq hq
  |brk=>exact eq hq
  |cont=>exact eq hq
theorem cQ (F:FnOk X.prog X.w X.K X.mg X.base CX k f fd ps sp) (hr:Room k X.A) (hg:Gl X x) (hm:X.mg x=some (.ref f)) (hk:dq X.K (.ref f)=true) (hb:Binds X.K fd ps ds) (hd:Vals dvs ds) (hx:D8 CX X E)
 (ha:PA X (e::es) t) (hdb:(x==("__debug__":Str))=false:=by decide) (he:bc (e::es) X.env=(false,eval e X.env)::bc es X.env:=by rfl) (hpl:(gr pos (bc es X.env)).any (·.1)=false:=by rfl):
 PE X (.Call (.Name x p) (e::es) [] pos) (KZ sp dvs E t):=by
 intro pins s σ H Q I h;refine gh (EW I hg hm ?_ hdb);refine my (h₀:=X.base) I.ok.mod.kin hk (thn (ha pos pins s σ H _ I h) λus s1 ⟨vs,H1,I1,r,q⟩=>⟨I1.kIn,?_⟩) he hpl;exact SY F hr hb hd hx I1 r q
theorem cR {pl:Sem Bool} (he:PE X o ta) (c:Cls X.K C) (hm:Meth X.K C m f) (F:FnOk X.prog X.w X.K X.mg X.base CX k f fd ps sp) (hr:Room k X.A) (hb:Binds X.K fd ps ds) (hd:Vals dvs ds) (hx:D8 CX X E) (ha:PA X (e::es) t)
 (hst:bc (e::es) X.env=(false,eval e X.env)::bc es X.env:=by rfl) (hpl:(gr pos (bc es X.env)).any (·.1)=false:=by rfl)
 (ht:eval (.Call (.Attribute o m apos) (e::es) [] pos) X.env=(do
  let ov←eval o X.env
  mj apos.atName
  let (f,first)←lg [ov] (kf ov m pl)
  mo pos f first (gr pos (bc (e::es) X.env)) (jm pos (ge [] X.env))):=by rfl):
 PE X (.Call (.Attribute o m apos) (e::es) [] pos) (Q4 C m sp dvs E ta t):=by
 intro pins s σ H Q I h;refine oe (pl:=pl) (thn (he pins s σ H _ I h) λu s1 ⟨x,H1,I1,rx,a,dx,fs,ex,ea,l,q⟩=>?_) ht;subst ex;obtain rfl:u=bz a:=rx;refine IQ I1 ea c hm l ?_;refine my (first:=[.ref a]) (h₀:=X.base) I.ok.mod.kin hm.kp (thn (ha pos pins s1 σ H1 _ I1 q) λus s2 ⟨vs,H2,I2,r,q2⟩=>⟨I2.kIn,?_⟩) hst hpl;exact SY (us:=.ref a::us) (vs:=.ref a::vs) F hr hb hd hx I2 (.cons rfl r) q2
theorem YN {pl:Sem Bool} (he:PE X o ta) (c:Cls X.K C) (hm:Meth X.K C m f) (F:FnOk X.prog X.w X.K X.mg X.base CX k f fd ps sp) (hr:Room k X.A) (hb:Binds X.K fd ps ds) (hd:Vals dvs ds) (hx:D8 CX X E)
 (ht:eval (.Call (.Attribute o m apos) [] [] pos) X.env=(do
  let ov←eval o X.env
  mj apos.atName
  let (f,first)←lg [ov] (kf ov m pl)
  mo pos f first (gr pos (bc [] X.env)) (jm pos (ge [] X.env))):=by rfl):
 PE X (.Call (.Attribute o m apos) [] [] pos) (Q4 C m sp dvs E ta EN):=by
 intro pins s σ H Q I h;refine oe (pl:=pl) (thn (he pins s σ H _ I h) λu s1 ⟨x,H1,I1,rx,a,dx,fs,ex,ea,l,q⟩=>?_) ht;subst ex;obtain rfl:u=bz a:=rx;refine IQ I1 ea c hm l ?_;exact tG (first:=[.ref a]) I1.kIn hm.kp (SY (us:=[.ref a]) (vs:=[.ref a]) F hr hb hd hx I1 (.cons rfl .nil) q)
structure Mk (K:aa) (C f:Addr):Prop where
 makes:vi K C=true
 init:gy K (.ref C) "__init__"=some (some (.ref f))
 fn:pf K (.ref f)=true
 kp:dq K (.ref C)=true
theorem Q5 {pins:List (Addr×Obj)} {σ:St} {H:Hp} {s:ai} {Q:VK} {us:List ag} {vs:List V} (M:Mk X.K C f) (F:FnOk X.prog X.w X.K X.mg X.base CX k f fd ps sp) (hr:Room (k+1) X.A) (hb:Binds X.K fd ps ds) (hd:Vals dvs ds)
 (hx:D8 CX X E) (I:Inv X pins σ H s) (r:Vals vs us)
 (h:∀x dx,H x=none->H dx=none->dx≠x->sp (.ref x::(vs++dvs)) (upd (upd H dx (.own x)) x (.ins C dx [])) (λv H2=>v= .non/\Q (.ref x) H2) E):
 be (bi X.prog X.w) X.A (call (.ref C) us) (EP X pins σ Q) X.xe s:=by
 have hq:=h (s.heap.objs.size+1) s.heap.objs.size (I.hok.fresh (sU _)) (I.hok.fresh (aq _)) (cg (uG _));have I2:=Inv.made (C:=C) I;have r2:Vals (V.ref (s.heap.objs.size+1)::(vs++dvs)) (bz (s.heap.objs.size+1)::(us++ds)):=.cons rfl (r.append hd);have hl:(bz (s.heap.objs.size+1)::us++ds).length=ps.length:=by
  have e:=r2.length;rw[F.len _ _ _ _ hq] at e;exact e.symm
 refine sM (YM (f:=f) I.kIn M.makes M.init (beq_iff_eq.mp M.fn) (mx (F.run _ X.stack _ _ ⟨bz (s.heap.objs.size+1)::us,[]⟩ (bz (s.heap.objs.size+1)::(us++ds)) _ _ E (hr.make C us [])
  (I2.env0.make C us []) (hb _ (bz (s.heap.objs.size+1)::us) I2.kIn hl) r2 hq) λr s' hq'=>?_))
 cases r with
 |error e=>exact hx pins σ _ _ e s' I2 hq'
 |ok fl=>
  cases fl with
  |ret u=>
   obtain⟨v,H',I3,rv,ev,q3⟩:=I2.after hq';subst ev;exact⟨rv,⟨V.ref (s.heap.objs.size+1),H',I3,rfl,q3⟩⟩
  |next=>exact eq hq'
  |brk=>exact eq hq'
  |cont=>exact eq hq'
theorem cS (M:Mk X.K C f) (F:FnOk X.prog X.w X.K X.mg X.base CX k f fd ps sp) (hr:Room (k+1) X.A) (hg:Gl X x) (hm:X.mg x=some (.ref C)) (hb:Binds X.K fd ps ds) (hd:Vals dvs ds) (hx:D8 CX X E)
 (ha:PA X (e::es) t) (hdb:(x==("__debug__":Str))=false:=by decide) (he:bc (e::es) X.env=(false,eval e X.env)::bc es X.env:=by rfl) (hpl:(gr pos (bc es X.env)).any (·.1)=false:=by rfl):
 PE X (.Call (.Name x p) (e::es) [] pos) (VA C sp dvs E t):=by
 intro pins s σ H Q I h;refine gh (EW I hg hm ?_ hdb);refine my (h₀:=X.base) I.ok.mod.kin M.kp (thn (ha pos pins s σ H _ I h) λus s1 ⟨vs,H1,I1,r,q⟩=>⟨I1.kIn,?_⟩) he hpl;exact Q5 M F hr hb hd hx I1 r q
theorem YO (M:Mk X.K C f) (F:FnOk X.prog X.w X.K X.mg X.base CX k f fd ps sp) (hr:Room (k+1) X.A) (hg:Gl X x) (hm:X.mg x=some (.ref C)) (hb:Binds X.K fd ps ds) (hd:Vals dvs ds) (hx:D8 CX X E)
 (hdb:(x==("__debug__":Str))=false:=by decide):PE X (.Call (.Name x p) [] [] pos) (VA C sp dvs E EN):=by
 intro pins s σ H Q I h;refine gh (EW I hg hm ?_ hdb);exact tG I.kIn M.kp (Q5 (us:=[]) M F hr hb hd hx I .nil h)
end
def PK (X:Cx) (kws:List u0) (t:TA):Prop:=
 ∀(pos:Pos) (pins:List (Addr×Obj)) (s:ai) (σ:St) (H:Hp) (Q:List V->Hp->Prop),Inv X pins σ H s->t σ H Q->be (bi X.prog X.w) X.A (evalAll ((jm pos (ge kws X.env)).map (·.2))) (AP X pins σ Q) X.xe s
section
variable {X:Cx} {CX:CXT} {k:Nat} {f C:Addr} {fd:du} {ps ks:List Str} {sp:Sp} {E:XK} {x m:Str} {p pos apos kpos:Pos} {e o:Expr} {es:List Expr} {kws:List u0} {te ta:TE} {t tk:TA} {nm:Option Str}
theorem BQ (ha:PE X e te) (hr:PK X kws t):PK X (⟨nm,e,kpos⟩::kws) (B5 te t):=by
 intro pos pins s σ H Q I h;show be _ _ (evalAll ((do let v←eval e X.env;mj pos;pure v)::(jm pos (ge kws X.env)).map (·.2))) _ _ s;refine wpAny_evalAll_cons (ae (thn (ha pins s σ H _ I h) λu s1 ⟨x,H1,I1,r1,q1⟩=>ae (jk (am ?_))));exact thn (hr pos pins s1 σ H1 _ I1 q1) λus s2 ⟨xs,H2,I2,r2,q2⟩=>⟨x::xs,H2,I2,.cons r1 r2,q2⟩
variable {g:List ag->List ag->List ag} {gV:List V->List V->List V}
end
structure FnScope (N P:List Str) (sc:Scope):Prop where
 kind:sc.kind= .function:=by rfl
 co:sc.isCoroutine=false:=by rfl
 gen:sc.isGenerator=false:=by rfl
 nd:N.Nodup:=by decide +kernel
 pre:N.take P.length=P:=by rfl
 par:∀x∈P,sc.names.lookup x=some .local\/sc.names.lookup x=some .cell:=by decide +kernel
 nofree:∀y∈sc.names,y.2≠.free:=by decide +kernel
theorem OC {kindOf:Str->Option kj} {x:Str}:∀{binds:List (Str×ag)} {m:Str->Option ag},(∀v,(x,v)∉binds)->x5 kindOf binds m x=m x
 |[],_,_=>rfl
 |(n,v)::r,m,h=>by
  unfold x5;rw[OC λw hw=>h w (ao _ hw)];split
  ·have:x≠n:=by rintro rfl;exact h v bb
   simp[this]
  ·rfl
theorem OE {kindOf:Str->Option kj} {x:Str}:∀{binds:List (Str×ag)} {m:Str->Option ag},(∀v,(x,v)∉binds)->x6 kindOf binds m x=m x
 |[],_,_=>rfl
 |(n,v)::r,m,h=>by
  unfold x6;rw[OE λw hw=>h w (ao _ hw)];split
  ·rfl
  ·have:x≠n:=by rintro rfl;exact h v bb
   simp[this]
theorem OF {kindOf:Str->Option kj} {x:Str} {v:ag}:∀{P:List Str} {vs:List ag} {i:Nat} {m:Str->Option ag},P.Nodup->P[i]? =some x->vs[i]? =some v->kindOf x=some .local->
 x5 kindOf (P.zip vs) m x=some v
 |[],_,_,_,_,h,_,_=>by simp at h
 |_::_,[],_,_,_,_,h,_=>by simp at h
 |p::P,w::vs,0,m,nd,h1,h2,hk=>by
  simp at h1 h2;subst h1;subst h2;show x5 kindOf ((p,w)::P.zip vs) m p=_;unfold x5;rw[OC λv hv=>(qr.mp nd).1 (qu hv).1,if_pos hk];simp
 |p::P,w::vs,i+1,m,nd,h1,h2,hk=>by
  show x5 kindOf ((p,w)::P.zip vs) m x=_;unfold x5;exact OF (i:=i) (qr.mp nd).2 (by simpa using h1) (by simpa using h2) hk
theorem OG {kindOf:Str->Option kj} {x:Str} {v:ag}:∀{P:List Str} {vs:List ag} {i:Nat} {m:Str->Option ag},P.Nodup->P[i]? =some x->vs[i]? =some v->kindOf x≠some .local->
 x6 kindOf (P.zip vs) m x=some v
 |[],_,_,_,_,h,_,_=>by simp at h
 |_::_,[],_,_,_,_,h,_=>by simp at h
 |p::P,w::vs,0,m,nd,h1,h2,hk=>by
  simp at h1 h2;subst h1;subst h2;show x6 kindOf ((p,w)::P.zip vs) m p=_;unfold x6;rw[OE λv hv=>(qr.mp nd).1 (qu hv).1,if_neg hk];simp
 |p::P,w::vs,i+1,m,nd,h1,h2,hk=>by
  show x6 kindOf ((p,w)::P.zip vs) m x=_;unfold x6;exact OG (i:=i) (qr.mp nd).2 (by simpa using h1) (by simpa using h2) hk
def FL (N:List Str) (vs:List V):St:=vs.map some++x8 (N.length - vs.length) none
def NZ (CX:CXT) (P:aw) (w:bv) (K:aa) (mg:Str->Option ag) (base:Heap) (N:List Str) (qual:Str) (scope:Scope) (f:Addr) (cd:ag) (A:cy) (outer:List Env) (s:ai) (H:Hp) (E:XK):Cx where
 prog:=P
 w:=w
 K:=K
 mg:=mg
 base:=base
 A:=A.deeper (tT qual scope s.heap.objs.size f cd)
 N:=N
 s_0:=s
 H_0:=H
 env:=tT qual scope s.heap.objs.size f cd
 outer:=outer
 stack:=tT qual scope s.heap.objs.size f cd::outer
 ex:=[]
 calm:=true
 fn:=λ_=>true
 pn:=[]
 xe:=λe s'=>be (bi P w) (A.deeper (tT qual scope s.heap.objs.size f cd)) (leaving (tT qual scope s.heap.objs.size f cd) e) (λ_ s''=>CX outer H s E e s'') (λe' s''=>CX outer H s E e' s'') s'
theorem Q6 {sc:Scope} {n:Nat} {x:Str} (h:sc.names.lookup x=some .cell):∃c,(ig n sc.names []).lookup x=some c:=by
 have q:=rq sc.names n [] (.inl h);exact qf.mp q
theorem OH {CX:CXT} {P:aw} {w:bv} {K:aa} {mg:Str->Option ag} {base:Heap} {N ps:List Str} {qual:Str} {scope:Scope} {f:Addr} {cd:ag} {A:cy} {outer:List Env} {s s1:ai} {H:Hp} {E:XK} {us:List ag} {vs:List V}
 (S:FnScope N ps scope) (hd:A.handled=none) (e0:Env0 P w K mg base A outer s H) (hl:vs.length=ps.length) (r:Vals vs us)
 (x:InCallC s s.heap.objs.size (x5 (tT qual scope s.heap.objs.size f cd).kindOf (ps.zip us) λ_=>none) (ig (s.heap.objs.size+1) scope.names []) (x6 (tT qual scope s.heap.objs.size f cd).kindOf (ps.zip us) λ_=>none) s1):
 Inv (NZ CX P w K mg base N qual scope f cd A outer s H E) [] (FL N vs) H s1:=by
 have hpl:ps.length<=N.length:=by have:=congrArg oq S.pre;rw[dk] at this;omega
 obtain⟨h1,tk,rfl,hk⟩:=x.done;have noA:∀b:Addr,b∉(NZ CX P w K mg base N qual scope f cd A outer s H E).ex:=λb z=>absurd (show b∈([]:List Addr) from z) (by simp);refine⟨⟨e0.mod,S.kind,rfl,rfl,aq _,λy z c h1 h2=>?_,λy hy=>?_,λy c _ h=>?_,λ_=>hd,sV e0.frames,.inr ⟨rfl,rfl⟩,λb z=>absurd z (noA b),e0.bs,e0.bsz,λb _ _=>noA b,λb z=>absurd z (noA b),e0.funs,e0.frf⟩,
  rfl,e0.bare,Un.kept hk,⟨_,x.toInCall.ns,λi y v h1 h2 h3=>?_⟩,λy c h=>⟨_,x.cell y c h⟩,e0.hok.fresh (aq _),λy c h=>?_,λp hp=>absurd (show p∈([]:List (Addr×Obj)) from hp) (by simp),e0.hok.kept hk,?_⟩
 ·exact name_of_addr x.apart (cn h1) (cn h2)
 ·have hy:scope.names.lookup y=some .cell\/scope.names.lookup y=some .free:=hy;rcases hy with hy|hy
  ·exact Q6 hy
  ·exact absurd rfl (S.nofree _ (cn hy))
 ·exact rj (x.above y c (cn h))
 ·have hi:i<vs.length:=by
   unfold FL at h2;by_cases hi:i<vs.length
   ·exact hi
   ·rw[tU (by simpa using hi)] at h2;rw[List.getElem?_replicate] at h2;split at h2<;>cases h2
  have ha:vs[i]? =some v:=by
   unfold FL at h2;rw[uh (by simpa using hi),az] at h2;cases e:vs[i]? with
   |none=>rw[e] at h2;cases h2
   |some a=>rw[e] at h2;cases h2;rfl
  obtain⟨u,hu,rv⟩:=r.get ha;have hp:ps[i]? =some y:=by
   rw[←S.pre,List.getElem?_take_of_lt (by omega)];exact h1
  have ndP:ps.Nodup:=by rw[←S.pre];exact S.nd.sublist (List.take_sublist _ _)
  refine⟨u,rv,?_⟩;rcases S.par y (bo hp) with k|k
  ·exact .inl ⟨k,OF ndP hp hu k⟩
  ·obtain⟨c,e⟩:=Q6 (n:=s.heap.objs.size+1) k;refine .inr ⟨.inl k,c,e,?_⟩;have q:=x.cell y c e;rw[OG ndP hp hu (by show scope.names.lookup y≠_;rw[k];decide)] at q;exact q
 ·exact e0.hok.fresh (rj (x.above y c (cn h)))
 ·unfold FL;show _=N.length;rw[bq,ah,List.length_replicate];omega
theorem e8 {CX:CXT} {P:aw} {w:bv} {K:aa} {mg:Str->Option ag} {base:Heap} {k:Nat} {f:Addr} {name qual:Str} {params:Arguments} {body:List Stmt} {scope:Scope} {dV kV doc pm cdv ct oc:ag} {an od:Option Addr}
 {osl:Array (Option ag)} {N ps:List Str} {sp:Sp} (lk:K.lookup f=some ⟨oc,od,.func (gj name qual params body scope dV kV doc pm an cdv ct),osl⟩) (hcd:iw K cdv qual=true) (S:FnScope N ps scope)
 (len:∀vs H Q E,sp vs H Q E->vs.length=ps.length)
 (hbody:∀(A:cy) (outer:List Env) (s:ai) (H:Hp) (vs:List V) (Q:VK) (E:XK),Room k (A.deeper (tT qual scope s.heap.objs.size f cdv))->sp vs H Q E->
  ∃t,PSs (NZ CX P w K mg base N qual scope f cdv A outer s H E) body t/\t { nx:=λ_ H'=>Q .non H',rt:=Q } (FL N vs) H):
 FnOk P w K mg base CX (k+1) f (gj name qual params body scope dV kV doc pm an cdv ct) ps sp:=by
 refine⟨len,λA outer s H args us vs Q E hr e0 hb r hsp=>?_⟩;have hl:=len _ _ _ _ hsp;have KX:K.In s.heap:=e0.mod.kin.keeps λb o e=>(e0.bs b o e).1;have lim:s.heap.NoLimit:=e0.mod.nolimit.keeps λb o e=>(e0.bs b o e).1;have hkind:∀y∈ps.zip us,scope.names.lookup y.1=some .local\/(scope.names.lookup y.1=some .cell/\((ig (s.heap.objs.size+1) scope.names []).lookup y.1).isSome=true):=λ⟨n,v⟩ hy=>by
  rcases S.par n (qu hy).1 with q|q
  ·exact .inl q
  ·exact .inr ⟨q,rq _ _ _ (.inl q)⟩
 refine vt hr.depth (KX _ _ lk) rfl S.co S.gen rfl (wm KX hcd) (hb _ _ _ _ ?_);refine tV S.kind hkind λenv he s1 x=>?_;subst he;refine⟨lim.keeps x.toInCall.keep,codeAny_func ?_⟩;obtain⟨t,ht,hq⟩:=hbody A outer s H vs Q E (hr.deeper _) hsp;have I:Inv (NZ CX P w K mg base N qual scope f cdv A outer s H E) [] (FL N vs) H s1:=OH S hr.hd e0 hl r x;refine gg (ht [] s1 (FL N vs) H _ I hq) (λfl s' hs=>?_) λe s' hs=>hs;have fin:∀{σ':St} {H':Hp} {v:V} {u:ag},Inv (NZ CX P w K mg base N qual scope f cdv A outer s H E) [] σ' H' s'->RelV v u->Q v H'->CE outer P w H s Q u s':=
  λ{σ' H' v u} J rv q=>⟨v,H',J.os,J.bare,J.base,J.hok,rv,q⟩
 cases fl with
 |ret u=>
  obtain⟨v,σ',H',J,rv,q⟩:=hs;exact fin J rv q
 |next=>
  obtain⟨σ',H',J,q⟩:=hs;exact fin (v:=V.non) (u:=ij) J rfl q
 |brk=>
  obtain⟨_,_,_,q⟩:=hs;exact eq q
 |cont=>
  obtain⟨_,_,_,q⟩:=hs;exact eq q
section
variable {X:Cx} {x:Str} {p pos:Pos} {e:Expr} {es:List Expr} {t:TA} {id T:String} {r:List V->Hp->VK->Prop}
def tCB (r:List V->Hp->VK->Prop) (t:TA):TE:=λσ H Q=>t σ H λvs H1=>r vs H1 Q
theorem AZ (hc:JH X (.builtin id) r) (hg:Gl X x) (hm:X.mg x=none) (hv:jj x=some (.builtin id)) (ha:PA X (e::es) t) (hn:x≠"__name__":=by decide) (hdb:(x==("__debug__":Str))=false:=by decide)
 (he:bc (e::es) X.env=(false,eval e X.env)::bc es X.env:=by rfl) (hpl:(gr pos (bc es X.env)).any (·.1)=false:=by rfl):PE X (.Call (.Name x p) (e::es) [] pos) (tCB r t):=by
 intro pins s σ H Q I h;refine gh (EL I hg hm hv ?_ hn hdb);exact w9 (thn (ha pos pins s σ H _ I h) λus s1 ⟨vs,H1,I1,r1,q1⟩=>hc pins s1 σ H1 vs us Q I1 r1 q1) he hpl
theorem HS (hc:JH X (.type T) r) (hg:Gl X x) (hm:X.mg x=none) (hv:jj x=some (.type T)) (ha:PA X (e::es) t) (hn:x≠"__name__":=by decide) (hdb:(x==("__debug__":Str))=false:=by decide)
 (he:bc (e::es) X.env=(false,eval e X.env)::bc es X.env:=by rfl) (hpl:(gr pos (bc es X.env)).any (·.1)=false:=by rfl):PE X (.Call (.Name x p) (e::es) [] pos) (tCB r t):=by
 intro pins s σ H Q I h;refine gh (EL I hg hm hv ?_ hn hdb);exact cz (thn (ha pos pins s σ H _ I h) λus s1 ⟨vs,H1,I1,r1,q1⟩=>hc pins s1 σ H1 vs us Q I1 r1 q1) he hpl
end
end L2
namespace HT
open PySem PyProof.Rows
def lexLt:List Int->List Int->Bool
 |[],[]=>false
 |[],_::_=>true
 |_::_,[]=>false
 |x::xs,y::ys=>if x=y then lexLt xs ys else decide (x<y)
theorem lexLt_cons (x y:Int) (xs ys:List Int):lexLt (x::xs) (y::ys)=if x=y then lexLt xs ys else decide (x<y):=rfl
theorem lexLt_nil_nil:lexLt [] []=false:=rfl
section
open PySem.SeqAt
open PySem.AutoSeq1 (wpAny_loadPart')
open PySem.MeetsSeq PySem.MeetsSeq2 PySem.MeetsSeq3
end
section
variable {prog:aw} {w:bv} {A:cy} {E:ag->ai->Prop} {s:ai}
def sIx (n d:Nat):Option Int->Nat
 |none=>d
 |some v=>if v<0 then(v+(n:Int)).toNat else min v.toNat n
theorem gX (n d:Nat) (hd:d<=n) (o:Option Int):sIx n d o<=n:=by
 cases o with
 |none=>exact hd
 |some v=>
  show(if v<0 then(v+(n:Int)).toNat else min v.toNat n)<=n;by_cases hv:v<0
  ·rw[if_pos hv];omega
  ·rw[if_neg hv];exact Nat.min_le_right _ _
theorem VB (v:Int) (n d:Nat):(if v<0 then max (v+(n:Int)) 0 else min v (n:Int))=((sIx n d (some v):Nat):Int):=by
 show(if v<0 then max (v+(n:Int)) 0 else min v (n:Int))=(((if v<0 then(v+(n:Int)).toNat else min v.toNat n):Nat):Int);by_cases hv:v<0
 ·simp only[if_pos hv];omega
 ·simp only[if_neg hv];omega
theorem SZ (lo hi:Option Int) (n:Nat):pq lo hi 1 (n:Int)=(((sIx n 0 lo:Nat):Int),((sIx n n hi:Nat):Int)):=by
 have h1:¬((1:Int)<0):=by omega
 unfold pq;simp only[h1,if_false];refine Prod.ext ?_ ?_
 ·cases lo with
  |none=>rfl
  |some v=>exact VB v n 0
 ·cases hi with
  |none=>rfl
  |some v=>exact VB v n n
theorem S0 (i j:Nat):ku (i:Int) (j:Int) 1=j - i:=by
 unfold ku;have h1:(1:Int)>0:=by omega
 simp only[h1,if_true,Int.ediv_one];split<;>omega
theorem MP {v:ag} {o:Option Int} {Q:Option Int->ai->Prop} (p:wo v o) (h:Q o s):be (bi prog w) A (xE v) Q E s:=by
 cases p with
 |none=>exact x9 h
 |int i t=>exact slicePart_int h
theorem J8 {sl:Addr} {vl vu:ag} {lo hi:Option Int} {n:Nat} {Q:Int×Int×Nat->ai->Prop} (hs:s.heap.IsSliceOf sl vl vu .none) (pl:wo vl lo) (pu:wo vu hi)
 (h:Q (((sIx n 0 lo:Nat):Int),1,sIx n n hi - sIx n 0 lo) s):be (bi prog w) A (tW (.ref sl) (pure (n:Int))) Q E s:=by
 obtain⟨os,hos,hcs,hds⟩:=id hs;unfold tW yH;refine ae (ae (ik hos hds (x:=vl) rfl (ae (ik hos hds (x:=vu) rfl (ae (ik hos hds (x:=.none) rfl (am ?_)))))));refine ae (x9 ?_);show be _ _ (if((1:Int)==0)=true then _ else _) _ _ s;rw[if_neg (by decide)];refine ae (MP pl (ae (MP pu (ae (am ?_)))));show be _ _ (match pq lo hi 1 (n:Int) with|(lo,hi)=>pure (lo,(1:Int),ku lo hi 1)) _ _ s;rw[SZ lo hi n];show be _ _ (pure (((sIx n 0 lo:Nat):Int),(1:Int),ku ((sIx n 0 lo:Nat):Int) ((sIx n n hi:Nat):Int) 1)) _ _ s;rw[S0];exact am h
theorem YQ (xs:Array ag) (i k:Nat):((ji k).filterMap λ(m:Nat)=>xs[((i:Int)+(m:Int)*1).toNat]?).toArray=((xs.toList.drop i).take k).toArray:=by
 have e:(λ(m:Nat)=>xs[((i:Int)+(m:Int)*1).toNat]?)=λm=>xs[i+m]?:=by
  funext m;have:((i:Int)+(m:Int)*1).toNat=i+m:=by omega
  rw[this]
 rw[e];have:=pick_run xs i k;rw[List.filterMap_map] at this;have e2:((λx=>xs[x]?)∘λx=>i+x)=λm=>xs[i+m]?:=rfl;rw[e2] at this;rw[this]
theorem getItem_tuple_cut {t sl:Addr} {items:Array ag} {vl vu:ag} {lo hi:Option Int} {Q:ag->ai->Prop} (ht:IsTup s.heap t items) (hs:s.heap.IsSliceOf sl vl vu .none) (pl:wo vl lo) (pu:wo vu hi)
 (hw:¬(sIx items.size 0 lo=0/\sIx items.size items.size hi=items.size))
 (h:Q (.ref s.heap.objs.size) { s with heap:=s.heap.push { cls:=.type "tuple",data:=.seq ((items.toList.drop (sIx items.size 0 lo)).take (sIx items.size items.size hi - sIx items.size 0 lo)).toArray } })
 (hsz:items.size<=sizeLine):be (bi prog w) A (u4 (.ref t) (.ref sl)) Q E s:=by
 have htake:sizeOk (.seq ((items.toList.drop (sIx items.size 0 lo)).take (sIx items.size items.size hi - sIx items.size 0 lo)).toArray):=by
  show((items.toList.drop (sIx items.size 0 lo)).take (sIx items.size items.size hi - sIx items.size 0 lo)).toArray.size<=sizeLine;rw[bg,dk,fu,fq];omega
 have hj:sIx items.size items.size hi<=items.size:=gX _ _ (aq _) hi;obtain⟨os,hos,hcs,hds⟩:=id hs;have hTs:s.TypeIs (.ref sl) "slice":=⟨os,hos,hcs⟩
 unfold u4;try with_reducible refine ie ?_
 first|refine ae (am ?_)|skip
 refine ae (wpAny_sequenceKey ht.typeIs (by decide) ?_);refine ae (jp (name:=li "__getitem__") ht.typeIs mi
  (mq mi ht.typeIs entry_tuple_getitem ?_ (args_tuple_getitem _ _)))
 show be _ _ (ya (.ref t) >>= _) _ _ s;refine ae (tupleItemsOf_ ht ?_);refine ae (wpAny_typeOf hTs ?_);rw[if_pos (by decide)];refine ae (J8 hs pl pu ?_);have hno:¬((((sIx items.size 0 lo:Nat):Int)==0&&(1:Int)==1&&(sIx items.size items.size hi - sIx items.size 0 lo)==items.size)=true):=by
  intro q;rw[kg,kg] at q;have q1:((sIx items.size 0 lo:Nat):Int)=0:=eq_of_beq q.1.1;have q2:sIx items.size items.size hi - sIx items.size 0 lo=items.size:=eq_of_beq q.2;exact hw ⟨by omega,by omega⟩
 show be _ _ (if(((sIx items.size 0 lo:Nat):Int)==0&&(1:Int)==1&&(sIx items.size items.size hi - sIx items.size 0 lo)==items.size)=true then _ else _) _ _ s;rw[if_neg hno,YQ];first
  |exact ae (m:=ma _) (fw (am ⟨_,rfl,am h⟩) htake)
  |exact ae (m:=ma _) (fw (ae (am (am ⟨_,rfl,am h⟩))) htake)
  |exact ae (ae (m:=ma _) (fw (am (am ⟨_,rfl,am h⟩)) htake))
  |exact ae (ae (m:=ma _) (fw (am ⟨_,rfl,am h⟩) htake))
end
end HT
namespace L2
open PySem PySem.Spec PyProof.Rows
abbrev TO:=St->Hp->(Option Int->Hp->Prop)->Prop
def PO (X:Cx) (e:Option Expr) (t:TO):Prop:=
 ∀(pins:List (Addr×Obj)) (s:ai) (σ:St) (H:Hp) (Q:Option Int->Hp->Prop),Inv X pins σ H s->t σ H Q->
  be (bi X.prog X.w) X.A (evalPart e X.env) (λu s'=>Ex2 λo H'=>Inv X pins σ H' s'/\wo u o/\Q o H') X.xe s
def cT:TO:=λ_ H Q=>Q none H
def lT (t:TE):TO:=λσ H Q=>t σ H λx H1=>I1At x λi=>Q (some i) H1
section
variable {X:Cx} {e:Expr} {te:TE} {lo hi:Option Expr} {tl th:TO} {pos p2:Pos}
theorem cU:PO X none cT:=by
 intro pins s σ H Q I h;rw[evalPart_none];exact am ⟨none,H,I,.none,h⟩
theorem cW (h:PE X e te):PO X (some e) (lT te):=by
 intro pins s σ H Q I hw;rw[evalPart_some];refine thn (h pins s σ H _ I hw) λu s1 ⟨x,H1,I1,r1,q1⟩=>?_;obtain⟨i,rfl,q⟩:=q1;obtain⟨t,rfl⟩:=r1;exact⟨some i,H1,I1,.int i t,q⟩
def SlR (X:Cx) (r:V->Option Int->Option Int->Hp->VK->Prop):Prop:=
 ∀(pins:List (Addr×Obj)) (s:ai) (σ:St) (H:Hp) (x:V) (v vl vu:ag) (lo hi:Option Int) (sl:Addr) (Q:VK),Inv X pins σ H s->RelV x v->s.heap.IsSliceOf sl vl vu .none->wo vl lo->wo vu hi->r x lo hi H Q->
  Ex2 λT id=>u5 (.type T) "__getitem__"=pure (some (.builtin id))/\s.TypeIs v T/\be (bi X.prog X.w) X.A (u4 v (.ref sl)) (EP X pins σ Q) X.xe s
def tSl (r:V->Option Int->Option Int->Hp->VK->Prop) (te:TE) (tl th:TO):TE:=λσ H Q=>te σ H λx H1=>tl σ H1 λl H2=>th σ H2 λu H3=>r x l u H3 Q
theorem YR {r:V->Option Int->Option Int->Hp->VK->Prop} (hr:SlR X r) (he:PE X e te) (hl:PO X lo tl) (hu:PO X hi th):PE X (.Subscript e (.Slice lo hi none p2) pos) (tSl r te tl th):=by
 intro pins s σ H Q I h;refine yb (thn (he pins s σ H _ I h) λv s1 ⟨x,H1,I1,r1,q1⟩=>?_);refine wpAny_Slice (thn (hl pins s1 σ H1 _ I1 q1) λvl s2 ⟨l,H2,I2,pl,q2⟩=>thn (hu pins s2 σ H2 _ I2 q2) λvu s3 ⟨u,H3,I3,pu,q3⟩=>?_);rw[evalPart_none];refine am ?_;have I4:Inv X pins σ H3 { s3 with heap:=s3.heap.push { cls:=.type "slice",data:=.fields #[vl,vu,.none] } }:=I3.kept (t':=s3.toks) λb ob q=>ak _ q;obtain⟨T,id,hT,ht,hg⟩:=hr pins { s3 with heap:=s3.heap.push { cls:=.type "slice",data:=.fields #[vl,vu,.none] } } σ H3 x v vl vu l u s3.heap.objs.size Q I4 r1 (zV ..) pl pu q3;show be (bi X.prog X.w) X.A (wc e (.Slice lo hi none p2) v (.ref s3.heap.objs.size)) (EP X pins σ Q) X.xe { s3 with heap:=s3.heap.push { cls:=.type "slice",data:=.fields #[vl,vu,.none] } };exact tail_any (ops:=[.ref s3.heap.objs.size,v]) ht hT hg (by with_unfolding_all rfl)
def Q7 (xs:List V) (lo hi:Option Int):List V:=(xs.drop (HT.sIx xs.length 0 lo)).take (HT.sIx xs.length xs.length hi - HT.sIx xs.length 0 lo)
theorem K1 (xs:List V) (lo hi:Option Int):(Q7 xs lo hi).length<=xs.length:=by
 unfold Q7;rw[dk,fu];omega
def rO (K:aa):V->Option Int->Option Int->Hp->VK->Prop:=λx lo hi H Q=>Ex2 λa xs=>x= .ref a/\SqT K H a xs/\
 ¬(HT.sIx xs.length 0 lo=0/\HT.sIx xs.length xs.length hi=xs.length)/\∀p,H p=none->Q (.ref p) (upd H p (.tup (Q7 xs lo hi)))
theorem gY:SlR X (rO X.K):=by
 intro pins s σ H x v vl vu lo hi sl Q I rx hs pl pu h;obtain⟨a,xs,rfl,hx,hw,q⟩:=h;cases rx;obtain⟨its,r,ht,hz⟩:=I.tuple hx;have hlen:its.toArray.size=xs.length:=by rw[bg];exact r.length.symm
 refine⟨"tuple",_,mi.lookup,ht.typeIs,?_⟩;refine HT.getItem_tuple_cut ht hs pl pu (by rw[hlen];exact hw) ?_ (by rw[hlen];exact hz);rw[hlen];refine⟨.ref s.heap.objs.size,_,I.laid (t':=s.toks) (o:=.tup (Q7 xs lo hi)) (λb ob q=>ak _ q) (aq _) ?_,rfl,q _ (I.hok.fresh (aq _))⟩;exact⟨cu (K1 xs lo hi) hz,_,(r.drop (HT.sIx xs.length 0 lo)).take (HT.sIx xs.length xs.length hi - HT.sIx xs.length 0 lo),z6 _ _⟩
end
def ixN (n:Nat) (i:Int):Option Nat:=if 0<=i then(if i<n then some i.toNat else none) else if -(n:Int)<=i then some (i+n).toNat else none
def atI {α:Type} (xs:List α) (i:Int):Option α:=(ixN xs.length i).bind λj=>xs[j]?
theorem VC {n:Nat} {i:Int} {j:Nat} (h:ixN n i=some j):seqIndex? i n=some j/\j<n/\ -(n:Int)<=i/\i<n:=by
 unfold ixN at h;by_cases h0:0<=i
 ·rw[if_pos h0] at h;by_cases h1:i<n
  ·rw[if_pos h1] at h;have e:i.toNat=j:=cp h;exact⟨by rw[xy h0 h1,e],by omega,by omega,h1⟩
  ·rw[if_neg h1] at h;cases h
 ·rw[if_neg h0] at h;by_cases h1: -(n:Int)<=i
  ·rw[if_pos h1] at h;have e:(i+n).toNat=j:=cp h;exact⟨by rw[seqIndex_neg (by omega) h1,e],by omega,h1,by omega⟩
  ·rw[if_neg h1] at h;cases h
theorem PJ {α:Type} {xs:List α} {i:Int} {v:α} (h:atI xs i=some v):∃j,seqIndex? i xs.length=some j/\xs[j]? =some v/\j<xs.length/\ -(xs.length:Int)<=i/\i<xs.length:=by
 unfold atI at h;cases e:ixN xs.length i with
 |none=>rw[e] at h;cases h
 |some j=>
  rw[e] at h;obtain⟨h1,h2,h3,h4⟩:=VC e;exact⟨j,h1,h,h2,h3,h4⟩
theorem DH {α:Type} {xs:List α} {j:Nat} {v:α} (h:xs[j]? =some v):atI xs (j:Int)=some v:=by
 have hj:j<xs.length:=(au.mp h).1;have e:ixN xs.length (j:Int)=some j:=by
  unfold ixN;rw[if_pos (by omega),if_pos (by omega)];simp
 unfold atI;rw[e];exact h
theorem MQ {α:Type} (xs:List α) (v:α):atI (xs++[v]) (-1)=some v:=by
 have hl:(xs++[v]).length=xs.length+1:=by simp
 have e:ixN (xs++[v]).length (-1)=some xs.length:=by
  unfold ixN;rw[hl,if_neg (by decide),if_pos (by omega)];congr 1;omega
 unfold atI;rw[e];show(xs++[v])[xs.length]? =some v;simp
def cX (b:Expr):Prop:=∀o i,vF b false o i=operate [o,i] (u4 o i)
def IxR (X:Cx) (r:R2):Prop:=
 ∀(value slice:Expr) (pins:List (Addr×Obj)) (s:ai) (σ:St) (H:Hp) (x y:V) (v u:ag) (Q:VK),Inv X pins σ H s->RelV x v->RelV y u->r x y H Q->
  vF slice false v u=operate [v,u] (u4 v u)->be (bi X.prog X.w) X.A (wc value slice v u) (EP X pins σ Q) X.xe s
def MtR (X:Cx) (id:String) (r:V->List V->Hp->VK->Prop):Prop:=
 ∀(pins:List (Addr×Obj)) (s:ai) (σ:St) (H:Hp) (x:V) (xs:List V) (v:ag) (us:List ag) (Q:VK),Inv X pins σ H s->RelV x v->Vals xs us->r x xs H Q->
  be (bi X.prog X.w) X.A (call (.builtin id) (v::us)) (EP X pins σ Q) X.xe s
section
variable {X:Cx} {a b:Expr} {ta tb:TE} {pos:Pos}
theorem BI {r:R2} (hr:IxR X r) (ha:PE X a ta) (hb:PE X b tb) (hs:cX b):PE X (.Subscript a b pos) (tOp r ta tb):=by
 intro pins s σ H Q I h;exact yb (gQ ha hb I h λv u s2 x y H2 I2 rx ry q=>hr a b pins s2 σ H2 x y v u Q I2 rx ry q (hs _ _))
inductive IxAt (S:Addr->List V->Prop) (x y:V) (Q:V->Prop):Prop
 |intro(p:Addr) (xs:List V) (i:Int) (v:V) (e:x= .ref p) (e':y= .int i) (h1:S p xs) (h2:atI xs i=some v) (h:Q v):IxAt S x y Q
def gZ (K:aa):R2:=λx y H Q=>IxAt (SqL K H) x y λv=>Q v H
def lU (K:aa):R2:=λx y H Q=>IxAt (SqT K H) x y λv=>Q v H
def rP:R2:=λx y H Q=>Ex3 λz i c=>x= .str z/\y= .int i/\z.length<=sizeLine/\atI z.cps.toList i=some c/\Q (.str ⟨#[c]⟩) H
theorem B9:IxR X (gZ X.K):=by
 intro value slice pins s σ H x y v u Q I rx ry h hs;obtain⟨p,xs,i,z,rfl,rfl,hq,he,q⟩:=h;cases rx;obtain⟨t,rfl⟩:=ry;obtain⟨its,r,pl,hz⟩:=I.list hq;obtain⟨j,h1,h2,h3,h4,h5⟩:=PJ he;obtain⟨w,ew,rw'⟩:=r.get h2;have hl:=r.length;have hn:=J6;have fin:EP X pins σ Q w s:=⟨z,H,I,rw',q⟩
 by_cases h0:0<=i
 ·have hj:i.toNat=j:=by
   rw[xy h0 h5] at h1;exact cp h1
  exact item_listR pl.isList h0 (by omega) (by rw[hj];simpa using ew) fin hs
 ·have hj:(i+(its.toArray.size:Int)).toNat=j:=by
   rw[seqIndex_neg (by omega) h4] at h1;rw[bg, ←hl];exact cp h1
  exact u6 (x:=w) pl.isList.typeIs slot_list_getitem.lookup
   (wpAny_getItem_list_neg (Q:=λr s'=>r=w/\EP X pins σ Q r s') pl.isList (by omega) (by rw[bg]<;>omega) (by omega) (by rw[hj];simpa using ew) ⟨rfl,fin⟩) hs
theorem DL:IxR X (lU X.K):=by
 intro value slice pins s σ H x y v u Q I rx ry h hs;obtain⟨p,xs,i,z,rfl,rfl,hq,he,q⟩:=h;cases rx;obtain⟨t,rfl⟩:=ry;obtain⟨its,r,pl,hz⟩:=I.tuple hq;obtain⟨j,h1,h2,h3,h4,h5⟩:=PJ he;obtain⟨w,ew,rw'⟩:=r.get h2;have hl:=r.length;have hn:=J6;have fin:EP X pins σ Q w s:=⟨z,H,I,rw',q⟩
 exact u6 (x:=w) pl.typeIs slot_tuple_getitem.lookup
  (getItem_tuple (j:=j) (Q:=λr s'=>r=w/\EP X pins σ Q r s') pl (by omega) (by omega) (by rw[bg, ←hl];exact h1) (by simpa using ew) ⟨rfl,fin⟩) hs
theorem g8:IxR X rP:=by
 intro value slice pins s σ H x y v u Q I rx ry h hs;obtain⟨z,i,c,rfl,rfl,hz,he,q⟩:=h;obtain⟨t,rfl⟩:=rx;obtain⟨t',rfl⟩:=ry;obtain⟨j,h1,h2,h3,h4,h5⟩:=PJ he;have hl:z.cps.toList.length=z.length:=by simp[zW]
 rw[hl] at h1 h4 h5;have hn:=J6;exact tail_any (typeIs_str s z t) slot_str_getitem.lookup (getItem_str (c:=c) (by
  have e1:decide (i< -(2 ^ 63:Int))=false:=decide_eq_false (by omega);have e2:decide (i>=2 ^ 63)=false:=decide_eq_false (by omega);rw[e1,e2,yW]) (by rw[h1];simpa using h2) ⟨.str ⟨#[c]⟩,H,I.tok _,⟨_,rfl⟩,q⟩) hs
theorem S1 (its:List ag) (n j:Nat) (u:ag):fb (·.setIfInBounds j u) { cls:=.type "list",data:=.seq its.toArray n }={ cls:=.type "list",data:=.seq (its.set j u).toArray n }:=by
 simp[fb]
theorem Inv.lst {pins:List (Addr×Obj)} {σ:St} {H:Hp} {s:ai} {p:Addr} {xs:List V} (I:Inv X pins σ H s) (h:H p=some (.lst xs)):
 ∃(its:List ag) (n:Nat),Vals xs its/\s.heap.get? p=some { cls:=.type "list",data:=.seq its.toArray n }/\xs.length<=sizeLine:=by
 obtain⟨z,its,n,r,e⟩:=I.hok p _ h;exact⟨its,n,r,e,z⟩
theorem Inv.lstUpd {pins:List (Addr×Obj)} {σ:St} {H:Hp} {s:ai} {p:Addr} {xs ys:List V} {its its':List ag} {n n':Nat} {f:Obj->Obj} (I:Inv X pins σ H s) (h:H p=some (.lst xs))
 (ho:s.heap.get? p=some { cls:=.type "list",data:=.seq its.toArray n }) (hf:f { cls:=.type "list",data:=.seq its.toArray n }={ cls:=.type "list",data:=.seq its'.toArray n' }) (r:Vals ys its') (hz:ys.length<=sizeLine) (t:Nat):
 Inv X pins σ (upd H p (.lst ys)) { s with heap:=s.heap.update p f,toks:=t }:=by
 have e:(s.heap.update p f).get? p=some { cls:=.type "list",data:=.seq its'.toArray n' }:=by
  rw[ip f ho (by rw[hf]<;>rfl),hf]
 refine I.write (x:=p) (e:=p) (by rw[h];trivial) (.inl rfl) (λb u hb q=>(jw _ _ (cq hb)).trans q) ⟨_,e⟩ ?_;exact⟨hz,its',n',r,e⟩
def lV:V->V->V->Hp->(Hp->Prop)->Prop:=λo i v H Q=>Ex4 λp xs k j=>o= .ref p/\i= .int k/\H p=some (.lst xs)/\ixN xs.length k=some j/\Q (upd H p (.lst (xs.set j v)))
theorem YS:lJ X lV:=by
 intro pins s σ H o i v ov iv u Q I ro ri rv h;obtain⟨p,xs,k,j,rfl,rfl,hp,hj,q⟩:=h;cases ro;obtain⟨t,rfl⟩:=ri;obtain⟨its,n,r,ho,hz⟩:=I.lst hp;obtain⟨h1,h2,h3,h4⟩:=VC hj;have hl:=r.length;have hn:=J6;have I':Inv X pins σ (upd H p (.lst (xs.set j v))) { s with heap:=s.heap.update p (fb (·.setIfInBounds j u)) }:=
  I.lstUpd hp ho (S1 its n j u) (r.set rv j) (by rw[xF];exact hz) s.toks
 by_cases h0:0<=k
 ·have hk:k.toNat=j:=by
   rw[xy h0 h4] at h1;exact cp h1
  exact PySem.W.ki_setAt ho h0 (by omega) (by rw[bg, ←hl];exact h4) (by rw[hk];exact⟨_,I',q⟩)
 ·have hk:(k+(its.toArray.size:Int)).toNat=j:=by
   rw[seqIndex_neg (by omega) h3] at h1;rw[bg, ←hl];exact cp h1
  exact PySem.W.ki_setBack ho (by omega) (by rw[bg, ←hl];exact h3) (by omega) (by rw[hk];exact⟨_,I',q⟩)
theorem PL (lo hi:Option Int) (n:Nat):(rc lo hi none n).1=((HT.sIx n 0 lo:Nat):Int)/\(rc lo hi none n).2.1=((HT.sIx n n hi:Nat):Int)/\(rc lo hi none n).2.2=1:=by
 refine⟨?_,?_,rfl⟩
 ·cases lo with
  |none=>simp[rc,HT.sIx]
  |some i=>
   simp only[rc,HT.sIx,xb,show(1:Int)>0 by decide,if_true];by_cases h:i<0
   ·simp only[h,if_true]<;>omega
   ·simp only[h,if_false]<;>omega
 ·cases hi with
  |none=>simp[rc,HT.sIx]
  |some i=>
   simp only[rc,HT.sIx,xb,show(1:Int)>0 by decide,if_true];by_cases h:i<0
   ·simp only[h,if_true]<;>omega
   ·simp only[h,if_false]<;>omega
theorem N0 (its:List ag) (lo hi:Option Int):slicePick its.toArray lo hi none=((its.drop (HT.sIx its.length 0 lo)).take (HT.sIx its.length its.length hi - HT.sIx its.length 0 lo)).toArray:=by
 obtain⟨h1,h2,h3⟩:=PL lo hi its.toArray.size;unfold slicePick;rw[h1,h2,h3];simp only[sliceRange_one,pick_run,bg]<;>rfl
def rQ (K:aa):V->Option Int->Option Int->Hp->VK->Prop:=λx lo hi H Q=>Ex2 λa xs=>x= .ref a/\SqL K H a xs/\∀p,H p=none->Q (.ref p) (upd H p (.lst (Q7 xs lo hi)))
theorem rB:SlR X (rQ X.K):=by
 intro pins s σ H x v vl vu lo hi sl Q I rx hs pl pu h;obtain⟨a,xs,rfl,hx,q⟩:=h;cases rx;obtain⟨its,r,ht,hz⟩:=I.list hx;have hlen:=r.length;refine⟨"list",_,slot_list_getitem.lookup,ht.isList.typeIs,?_⟩;refine wpAny_getItem_list_slice ht.isList hs pl pu .none (by simp) ?_ (by rw[bg]<;>omega);rw[N0, ←hlen];refine⟨.ref s.heap.objs.size,_,I.laid (t':=s.toks) (o:=.lst (Q7 xs lo hi)) (λb ob q=>ak _ q) (aq _) ?_,rfl,q _ (I.hok.fresh (aq _))⟩;exact⟨cu (K1 xs lo hi) hz,_,0,(r.drop (HT.sIx xs.length 0 lo)).take (HT.sIx xs.length xs.length hi - HT.sIx xs.length 0 lo),bf _ rfl⟩
theorem AN:JH X (.builtin "len") (λxs H Q=>Ex2 λp ys=>xs=[.ref p]/\(SqL X.K H p ys\/SqT X.K H p ys)/\Q (.int ys.length) H):=by
 intro pins s σ H xs us Q I r h;obtain⟨p,ys,rfl,hq,q⟩:=h;obtain⟨u,rfl,rx⟩:=MF r;cases rx;have hn:=J6;rcases hq with hq|hq
 ·obtain⟨its,r',pl,hz⟩:=I.list hq;have hlen:=r'.length;exact Calls.call_len_list pl.isList (by simp only[bg]<;>omega) ⟨.int ys.length,H,I.tok _,⟨s.toks+1,by rw[bg,hlen]⟩,q⟩
 ·obtain⟨its,r',pl,hz⟩:=I.tuple hq;have hlen:=r'.length;exact len_tuple pl (by simp only[bg]<;>omega) ⟨.int ys.length,H,I.tok _,⟨s.toks+1,by rw[bg,hlen]⟩,q⟩
theorem PM:JH X (.builtin "len") (λxs H Q=>∃z,xs=[.str z]/\z.length<=sizeLine/\Q (.int z.length) H):=by
 intro pins s σ H xs us Q I r h;obtain⟨z,rfl,hz,q⟩:=h;obtain⟨u,rfl,t,rfl⟩:=MF r;have hn:=J6;exact len_str (by omega) ⟨.int z.length,H,I.tok _,⟨_,rfl⟩,q⟩
theorem PN:JH X (.type "list") (λxs H Q=>Ex2 λp ys=>xs=[.ref p]/\(SqL X.K H p ys\/SqT X.K H p ys)/\∀l,H l=none->Q (.ref l) (upd H l (.lst ys))):=by
 intro pins s σ H xs us Q I r h;obtain⟨p,ys,rfl,hq,q⟩:=h;obtain⟨u,rfl,rx⟩:=MF r;cases rx;have fin:∀(its:List ag),Vals ys its->ys.length<=sizeLine->∀(h':Heap) (c':Nat),(∀b o',s.heap.get? b=some o'->h'.get? b=some o')->
  h'.get? s.heap.objs.size=some { cls:=.type "list",dict:=none,data:=.seq its.toArray c',slots:=#[] }->EP X pins σ Q (.ref s.heap.objs.size) { s with heap:=h' }:=λits r' hz h' c' kp e=>
  ⟨.ref s.heap.objs.size,_,I.laid (t':=s.toks) kp (aq _) (show ObjOk X.prog X.w _ h' _ (.lst ys) from⟨hz,its,c',r',e⟩),rfl,q _ (I.hok.fresh (aq _))⟩
 rcases hq with hq|hq
 ·obtain⟨its,r',pl,hz⟩:=I.list hq;have hlen:=r'.length;obtain⟨o,ho,hc,n,hd⟩:=pl.isList;exact call_list_seq p (.inl rfl) ho hc hd (λh' c' kp e=>fin its r' hz h' c' kp e) (by simp only[bg]<;>omega)
 ·obtain⟨its,r',pl,hz⟩:=I.tuple hq;have hlen:=r'.length;obtain⟨o,ho,hc,n,hd⟩:=pl;exact call_list_seq p (.inr rfl) ho hc hd (λh' c' kp e=>fin its r' hz h' c' kp e) (by simp only[bg]<;>omega)
theorem II:JH X (.type "tuple") (λxs H Q=>Ex2 λp ys=>xs=[.ref p]/\((SqL X.K H p ys/\∀l,H l=none->Q (.ref l) (upd H l (.tup ys)))\/(SqT X.K H p ys/\Q (.ref p) H))):=by
 intro pins s σ H xs us Q I r h;obtain⟨p,ys,rfl,h⟩:=h;obtain⟨u,rfl,rx⟩:=MF r;cases rx;rcases h with⟨hq,q⟩|⟨hq,q⟩
 ·obtain⟨its,r',pl,hz⟩:=I.list hq;have hlen:=r'.length;refine call_tuple_list pl.isList (λh' kp=>?_) (by simp only[bg]<;>omega);have I1:Inv X pins σ H { s with heap:=h' }:=I.kept (t':=s.toks) kp;have I2:Inv X pins σ (upd H h'.objs.size (.tup ys)) { s with heap:=h'.push { cls:=.type "tuple",data:=.seq its.toArray } }:=
   I1.laid (t':=s.toks) (λb o e=>ak _ e) (aq _) (show ObjOk X.prog X.w _ _ _ (.tup ys) from⟨hz,its,r',z6 _ _⟩)
  exact⟨.ref h'.objs.size,_,I2,rfl,q _ (I1.hok.fresh (aq _))⟩
 ·obtain⟨its,r',pl,hz⟩:=I.tuple hq;exact call_tuple_same pl ⟨.ref p,H,I,rfl,q⟩
def tyV (K:aa) (T:String) (x:V) (H:Hp):Prop:=match x with
 | .str _=>T="str"
 | .int _=>T="int"
 | .ref p=>(T="list"/\∃xs,SqL K H p xs)\/(T="tuple"/\∃o,K.lookup p=some o/\o.cls= .type "tuple"/\o.dict=none)\/
  (T="dict"/\((∃kvs,H p=some (.dK kvs))\/∃kvs,H p=some (.dT kvs)))\/(T="set"/\Ex2 λS n=>H p=some (.set S n))
 |_=>False
theorem g9 {pins:List (Addr×Obj)} {σ:St} {H:Hp} {s:ai} {T:String} {x:V} {v:ag} (I:Inv X pins σ H s) (r:RelV x v) (ty:tyV X.K T x H):
 s.TypeIs v T/\∀a,v= .ref a->∃ob,s.heap.get? a=some ob/\ob.dict=none:=by
 cases x with
 |str z=>
  obtain⟨t,rfl⟩:=r;cases (show T="str" from ty);exact⟨typeIs_str s z t,λ_ e=>nomatch e⟩
 |int i=>
  obtain⟨t,rfl⟩:=r;cases (show T="int" from ty);exact⟨typeIs_int s i t,λ_ e=>nomatch e⟩
 |ref p=>
  cases r;rcases ty with⟨rfl,xs,hq⟩|⟨rfl,o,hk,hc,hd⟩|⟨rfl,hk⟩|⟨rfl,S,n,hk⟩
  ·obtain⟨its,_,pl,_⟩:=I.list hq;refine⟨pl.isList.typeIs,λa e=>?_⟩;cases e;obtain⟨o,n,e,c,hd,_⟩:=pl;exact⟨o,e,hd⟩
  ·refine⟨⟨o,I.kIn p o hk,hc⟩,λa e=>?_⟩;cases e;exact⟨o,I.kIn _ o hk,hd⟩
  ·have z:∃o,s.heap.get? p=some o/\o.ExactDict:=by
    rcases hk with⟨kvs,hk⟩|⟨kvs,hk⟩
    ·obtain⟨_,_,_,_,o,_,_,e,ex,_⟩:=I.hok p _ hk;exact⟨o,e,ex⟩
    ·obtain⟨_,_,_,_,o,_,_,e,ex,_⟩:=I.hok p _ hk;exact⟨o,e,ex⟩
   obtain⟨o,e,ex⟩:=z;refine⟨⟨o,e,ex.1⟩,λa e2=>?_⟩;cases e2;exact⟨o,e,ex.2.1⟩
  ·obtain⟨o,_,_,_,e,ex,_⟩:=I.hok p _ hk;refine⟨⟨o,e,ex.1⟩,λa e2=>?_⟩;cases e2;exact⟨o,e,ex.2.1⟩
 |_=>exact eq ty
def tBM (K:aa) (T:String) (r:V->List V->Hp->VK->Prop) (to:TE) (t:TA):TE:=λσ H Q=>to σ H λx H1=>tyV K T x H1/\t σ H1 λxs H2=>r x xs H2 Q
variable {o e:Expr} {es:List Expr} {to:TE} {t:TA} {name:Str} {apos cpos:Pos} {T id:String} {r:V->List V->Hp->VK->Prop}
theorem IJ (pa:PlainAttrs T) (slot:Slot T name id) (hty:yc (.builtin id)=pure (.type "method_descriptor")) (hm:MtR X id r) (ho:PE X o to) (ha:PA X (e::es) t)
 (hbase:jl o name X.env (eval o X.env)=eval o X.env:=by rfl)
 (hfew:((gr cpos (bc (e::es) X.env)).all (λx=>!x.1)&&(jm cpos (ge [] X.env)).all (λx=>x.1.isSome)
  &&decide ((e::es).length+([]:List u0).length+(if([]:List u0).isEmpty then 0 else 1)<30))=true:=by rfl)
 (hline:(apos.endLine==cpos.line)=true:=by rfl) (hs:bc (e::es) X.env=(false,eval e X.env)::bc es X.env:=by rfl) (hplain:(gr cpos (bc es X.env)).any (·.1)=false:=by rfl):
 PE X (.Call (.Attribute o name apos) (e::es) [] cpos) (tBM X.K T r to t):=by
 intro pins s σ H Q I h;refine wpAny_Call_method_late hbase hfew hline rfl (thn (ho pins s σ H _ I h) λv s1 ⟨x,H1,I1,r1,ty,q1⟩=>?_);obtain⟨h1,h2⟩:=g9 I1 r1 ty;refine⟨T,id,pa,slot,hty,h1,h2,?_⟩;have hA:=ha cpos pins s1 σ H1 _ I1 q1;rw[hs] at hA ⊢;refine Calls.callWith_builtin (by show(false||(gr cpos (bc es X.env)).any (·.1))=false;rw[hplain]<;>rfl) (Calls.evalArgs_plain ?_);exact thn hA λus s2 ⟨vs,H2,I2,r2,q2⟩=>hm pins s2 σ H2 x vs v us Q I2 r1 r2 q2
end
def MtM (X:Cx) (id:String) (r:V->List V->Hp->VK->Prop):Prop:=
 ∀(pins:List (Addr×Obj)) (s:ai) (σ:St) (H:Hp) (x:V) (xs:List V) (v:ag) (us:List ag) (Q:VK),Inv X pins σ H s->RelV x v->Vals xs us->r x xs H Q->
  be (bi X.prog X.w) X.A (call (.builtin id) (v::us)) (EP X pins σ Q) X.xe s
theorem Vals.one:∀{x:V} {us:List ag},Vals [x] us->∃u,us=[u]/\RelV x u
 |_,_,.cons r .nil=>⟨_,rfl,r⟩
theorem Vals.two:∀{x y:V} {us:List ag},Vals [x,y] us->∃u v,us=[u,v]/\RelV x u/\RelV y v
 |_,_,_,.cons r (.cons q .nil)=>⟨_,_,rfl,r,q⟩
theorem Vals.zero:∀{us:List ag},Vals [] us->us=[]
 |_,.nil=>rfl
theorem Vals.reverse {xs:List V} {us:List ag} (h:Vals xs us):Vals xs.reverse us.reverse:=by
 induction h with
 |nil=>exact .nil
 |cons r t ih=>rw[sd,sd];exact Vals.append ih (.cons r .nil)
section
variable {X:Cx} {pins:List (Addr×Obj)} {σ:St} {H:Hp} {s:ai} {l b:Addr} {xs ys zs:List V}
theorem Inv.lset {its its':List ag} {n:Nat} {f:Array ag->Array ag} {t':Nat} (I:Inv X pins σ H s) (hH:H l=some (.lst xs))
 (e:s.heap.get? l=some { cls:=.type "list",data:=.seq its.toArray n }) (hf:f its.toArray=its'.toArray) (hv:Vals ys its') (hz:ys.length<=sizeLine):
 Inv X pins σ (upd H l (.lst ys)) { s with heap:=s.heap.update l (fb f),toks:=t' }:=by
 have q:=PySem.IsL.update e f;rw[hf] at q;refine I.write (x:=l) (e:=l) (by rw[hH];exact trivial) (.inl rfl) (λb' u hb hu=>(jw s.heap (fb f) (cq hb)).trans hu) ⟨_,q⟩ ?_;exact⟨hz,its',_,hv,q⟩
theorem Inv.lnew {its:List ag} {t':Nat} (I:Inv X pins σ H s) (hv:Vals ys its) (hz:ys.length<=sizeLine):
 Inv X pins σ (upd H s.heap.objs.size (.lst ys)) { s with heap:=s.heap.push { cls:=.type "list",data:=.seq its.toArray },toks:=t' }:=
 I.laid (λ_ _ q=>ak _ q) (aq _) ⟨hz,its,0,hv,bf _ rfl⟩
theorem Inv.fresh (I:Inv X pins σ H s):H s.heap.objs.size=none:=I.hok.fresh (aq _)
theorem Inv.lstM (I:Inv X pins σ H s) (hH:H l=some (.lst xs)):xs.length<=sizeLine/\∃(its:List ag) (n:Nat),Vals xs its/\xs.length=its.length/\s.heap.get? l=some { cls:=.type "list",data:=.seq its.toArray n }:=by
 obtain⟨z,its,n,r,e⟩:=I.hok l _ hH;exact⟨z,its,n,r,r.length,e⟩
theorem YT {n:Nat} (h:n<=sizeLine):qg n=false:=by
 unfold qg;exact decide_eq_false (by omega)
end
section
variable {X:Cx}
def LS:V->List V->Hp->VK->Prop:=λx vs H Q=>Ex3 λl xs y=>x= .ref l/\vs=[y]/\H l=some (.lst xs)/\xs.length<sizeLine/\Q .non (upd H l (.lst (xs++[y])))
theorem CY:MtM X "list.append" LS:=by
 intro pins s σ H x vs v us Q I rx rv h;obtain⟨l,xs,y,rfl,rfl,hH,hz,q⟩:=h;cases rx;obtain⟨u,rfl,ru⟩:=rv.one;obtain⟨z,its,n,r,hl,e⟩:=I.lstM hH;refine yd fh ⟨_,e,rfl⟩ F.entry_list_append (F.args_list_append_2 _ _) (PySem.list_append l its.toArray n u (by rw[bg];omega)) ⟨e,?_⟩;refine⟨.non,_,I.lset (its':=its++[u]) hH e (by simp) (r.append (.cons ru .nil)) ?_,rfl,q⟩;rw[bq,List.length_singleton];omega
def cY:V->List V->Hp->VK->Prop:=λx vs H Q=>Ex4 λl b xs zs=>x= .ref l/\vs=[.ref b]/\H l=some (.lst xs)/\H b=some (.lst zs)/\xs.length+zs.length<=sizeLine/\Q .non (upd H l (.lst (xs++zs)))
theorem lG:MtM X "list.extend" cY:=by
 intro pins s σ H x vs v us Q I rx rv h;obtain⟨l,b,xs,zs,rfl,rfl,hH,hB,hz,q⟩:=h;cases rx;obtain⟨u,rfl,ru⟩:=rv.one;cases ru;obtain⟨z,its,n,r,hl,e⟩:=I.lstM hH;obtain⟨z2,its2,n2,r2,hl2,e2⟩:=I.lstM hB;have hsz:its.toArray.size+its2.toArray.size<=sizeLine:=by rw[bg,bg];omega
 have hlong:¬(!its.toArray.isEmpty&&qg (its.toArray.size+its2.toArray.size))=true:=by
  rw[YT hsz,vG];exact bu
 refine yd F.slot_list_extend ⟨_,e,rfl⟩ F.entry_list_extend (F.args_list_extend_2 _ _)
  (AutoSeq1.list_extend_list_list_0 l its.toArray n b its2.toArray n2 hlong (by rw[bg];omega) (by omega)) ⟨e,e2,?_⟩
 refine⟨.non,_,I.lset (its':=its++its2) hH e (by simp) (r.append r2) ?_,rfl,q⟩;rw[bq];omega
def rR:R2:=λx y H Q=>Ex4 λl b xs zs=>x= .ref l/\y= .ref b/\H l=some (.lst xs)/\H b=some (.lst zs)/\xs.length+zs.length<=sizeLine/\∀p,H p=none->Q (.ref p) (upd H p (.lst (xs++zs)))
theorem hG:OpR X (rm .Add) rR:=by
 intro pins s σ H x y v u Q I rx ry h;obtain⟨l,b,xs,zs,rfl,rfl,hH,hB,hz,q⟩:=h;cases rx;cases ry;obtain⟨z,its,n,r,hl,e⟩:=I.lstM hH;obtain⟨z2,its2,n2,r2,hl2,e2⟩:=I.lstM hB;refine PySem.P.add_list e e2 ?_ (by rw[bg,bg];omega);have ea:its.toArray++its2.toArray=(its++its2).toArray:=by simp
 rw[ea];exact⟨.ref _,_,I.lnew (t':=s.toks) (r.append r2) (by rw[bq];omega),rfl,q _ I.fresh⟩
end
theorem Vals.ints:∀{ns:List Int} {us:List ag},Vals (ns.map V.int) us->IntsAre us ns
 |[],us,h=>by
  rw[wG] at h;cases h;exact IntsAre.nil
 |n::ns,us,h=>by
  rw[de] at h;cases h with
  |cons r t=>
   obtain⟨k,rfl⟩:=r;exact IntsAre.cons n k (Vals.ints t)
theorem Vals.strs:∀{xs:List Str} {us:List ag},Vals (xs.map V.str) us->StrsAre us xs
 |[],us,h=>by
  rw[wG] at h;cases h;exact StrsAre.nil
 |x::xs,us,h=>by
  rw[de] at h;cases h with
  |cons r t=>
   obtain⟨k,rfl⟩:=r;exact StrsAre.cons x k (Vals.strs t)
mutual
inductive Dp (K:aa) (H:Hp):V->wp->Prop
 |non:Dp K H .non .none
 |bl (b:Bool):Dp K H (.bl b) (.bool b)
 |int (i:Int):Dp K H (.int i) (.int i)
 |str (x:Str):Dp K H (.str x) (.str x)
 |lst {a:Addr} {xs:List V} {ds:List wp}:SqL K H a xs->DpAll K H xs ds->Dp K H (.ref a) (.list ds)
 |tup {a:Addr} {xs:List V} {ds:List wp}:SqT K H a xs->DpAll K H xs ds->Dp K H (.ref a) (.tuple ds)
inductive DpAll (K:aa) (H:Hp):List V->List wp->Prop
 |nil:DpAll K H [] []
 |cons {v:V} {vs:List V} {d:wp} {ds:List wp}:Dp K H v d->DpAll K H vs ds->DpAll K H (v::vs) (d::ds)
end
section
variable {X:Cx} {pins:List (Addr×Obj)} {σ:St} {H:Hp} {s:ai}
mutual
theorem Dp.reads (I:Inv X pins σ H s):∀(d:wp) (v:V) (u:ag),Dp X.K H v d->RelV v u->∃as,Reads s.heap u d as
 | .none,_,_,h,r=>by
   cases h;cases r;exact⟨_,Reads.none⟩
 | .bool b,_,_,h,r=>by
   cases h;cases r;exact⟨_,Reads.bool b⟩
 | .int i,_,_,h,r=>by
   cases h;obtain⟨t,rfl⟩:=r;exact⟨_,Reads.int i t⟩
 | .str x,_,_,h,r=>by
   cases h;obtain⟨t,rfl⟩:=r;exact⟨_,Reads.str x t⟩
 | .list ds,_,_,h,r=>by
   cases h with
   |lst hs ha=>
    cases r;obtain⟨its,rv,⟨o,n,ho,hc,_,hd⟩,_⟩:=I.list hs;obtain⟨as,hr⟩:=Dp.readsAll I ds _ its ha rv;exact⟨_,Reads.list ho hc hd hr⟩
 | .tuple ds,_,_,h,r=>by
   cases h with
   |tup hs ha=>
    cases r;obtain⟨its,rv,⟨o,ho,hc,n,hd⟩,_⟩:=I.tuple hs;obtain⟨as,hr⟩:=Dp.readsAll I ds _ its ha rv;exact⟨_,Reads.tuple ho hc hd hr⟩
 | .dict _,_,_,h,_=>by cases h
theorem Dp.readsAll (I:Inv X pins σ H s):∀(ds:List wp) (vs:List V) (us:List ag),DpAll X.K H vs ds->Vals vs us->∃as,ReadsAll s.heap us ds as
 |[],_,_,h,r=>by
  cases h;cases r;exact⟨_,ReadsAll.nil⟩
 |d::ds,_,_,h,r=>by
  cases h with
  |cons h1 h2=>
   cases r with
   |cons r1 r2=>
    obtain⟨as,q1⟩:=Dp.reads I d _ _ h1 r1;obtain⟨bs,q2⟩:=Dp.readsAll I ds _ _ h2 r2;exact⟨_,ReadsAll.cons q1 q2⟩
end
end
abbrev YU (h:Heap) (c:Addr) (v:Option ag):Prop:=h.IsCell c v
def rS (scope sc:Scope):Scope:=
 { scope with names:=scope.names.map λ(n,k)=>if(k==.free&&sc.kind==.function&&sc.names.lookup n==some .cell) then(n,.cell) else(n,k) }
def BA (cells:List (Str×Addr)):List (Str×kj)->List (Str×Addr)->List (Str×Addr)
 |[],acc=>acc
 |(n,k)::r,acc=>if k==.free then BA cells r ((n,(cells.lookup n).getD 0)::acc) else BA cells r acc
theorem JI (env:Env) (f:Str×kj->List (Str×Addr)->Sem (ForInStep (List (Str×Addr))))
 (hf:∀n k c,f (n,k) c=if k==.free then(do let a←cellOf env n;pure (.yield ((n,a)::c))) else pure (.yield c)):
 ∀(names:List (Str×kj)) (acc:List (Str×Addr)),(∀y∈names,y.2= .free->∃c,env.cells.lookup y.1=some c)->forIn names acc f=pure (BA env.cells names acc)
 |[],acc,_=>by rw[ye];rfl
 |(n,k)::r,acc,h=>by
  rw[List.forIn_cons,hf];have ih:=λacc=>JI env f hf r acc λy hy=>h y (ao _ hy);unfold BA;by_cases hk:(k==qh)=true
  ·rw[if_pos hk,if_pos hk];obtain⟨c,hc⟩:=h (n,k) bb (by simpa using hk);have e:cellOf env n=pure c:=by unfold cellOf;rw[hc]
   rw[e];have e2:(env.cells.lookup n).getD 0=c:=by rw[hc];rfl
   rw[e2];exact ih _
  ·rw[if_neg hk,if_neg hk];exact ih _
theorem MR {scope:Scope} {env:Env} (h:∀y∈scope.names,y.2= .free->∃c,env.cells.lookup y.1=some c):yf scope env=pure (BA env.cells scope.names []):=by
 simp only[yf];rw[JI env _ (λn k c=>rfl) scope.names [] h];rfl
theorem E5 {α:Type}:∀{l:List (Str×α)} {n:Str} {c:α},(n,c)∈l->∃c',l.lookup n=some c'
 |(k,v)::r,n,c,h=>by
  rw[kh];cases hb:n==k with
  |true=>exact⟨_,rfl⟩
  |false=>
   rcases bp.mp h with e|h
   ·cases e;simp at hb
   ·exact E5 h
theorem EH {cells:List (Str×Addr)}:∀{names:List (Str×kj)} {acc:List (Str×Addr)} {n:Str} {c:Addr},(n,c)∈BA cells names acc->(n,c)∈acc\/((n,.free)∈names/\c=(cells.lookup n).getD 0)
 |[],_,_,_,h=>.inl h
 |(m,k)::r,acc,n,c,h=>by
  unfold BA at h;split at h
  ·rename_i hk;have hk:k= .free:=by simpa using hk
   rcases EH h with h|⟨h1,h2⟩
   ·rcases bp.mp h with e|h
    ·cases e;exact .inr ⟨hk▸bb,rfl⟩
    ·exact .inl h
   ·exact .inr ⟨ao _ h1,h2⟩
  ·rcases EH h with h|⟨h1,h2⟩
   ·exact .inl h
   ·exact .inr ⟨ao _ h1,h2⟩
theorem G2 {cells:List (Str×Addr)}:∀{names:List (Str×kj)} {acc:List (Str×Addr)} {p:Str×Addr},p∈acc->p∈BA cells names acc
 |[],_,_,h=>h
 |(m,k)::r,acc,p,h=>by
  unfold BA;split
  ·exact G2 (ao _ h)
  ·exact G2 h
theorem EI {cells:List (Str×Addr)}:∀{names:List (Str×kj)} {acc:List (Str×Addr)} {n:Str},(n,.free)∈names->(n,(cells.lookup n).getD 0)∈BA cells names acc
 |(m,k)::r,acc,n,h=>by
  unfold BA;rcases bp.mp h with e|h
  ·cases e;exact G2 bb
  ·split
   ·exact EI h
   ·exact EI h
theorem F9:∀{names:List (Str×kj)} {h:Heap} {acc:List (Str×Addr)} {x:Str} {c:Addr},(x,c)∈ig h.objs.size names acc->
 (x,c)∈acc\/((x,.cell)∈names/\h.objs.size<=c/\YU (sN h names) c none)
 |[],_,_,_,_,h=>.inl h
 |(n,k)::r,h,acc,x,c,hm=>by
  unfold ig at hm;unfold sN;split at hm
  ·rename_i hk;rw[if_pos hk];have hk:k= .cell:=by simpa using hk
   rw[←ff h { cls:=.type "cell",data:=.cell none }] at hm;rcases F9 hm with hm|⟨h1,h2,h3⟩
   ·rcases bp.mp hm with e|hm
    ·cases e;exact .inr ⟨hk▸bb,aq _,_,sZ r _ _ _ (bf _ rfl),rfl⟩
    ·exact .inl hm
   ·rw[ff] at h2;exact .inr ⟨ao _ h1,sg h2,h3⟩
  ·rename_i hk;rw[if_neg hk];rcases F9 hm with hm|⟨h1,h2,h3⟩
   ·exact .inl hm
   ·exact .inr ⟨ao _ h1,h2,h3⟩
theorem HU:∀{names:List (Str×kj)} {n:Nat} {acc:List (Str×Addr)} {p:Str×Addr},p∈acc->p∈ig n names acc
 |[],_,_,_,h=>h
 |(m,k)::r,n,acc,p,h=>by
  unfold ig;split
  ·exact HU (ao _ h)
  ·exact HU h
theorem J9:∀{names:List (Str×kj)} {n:Nat} {acc:List (Str×Addr)} {x:Str},(x,.cell)∈names->∃c,(x,c)∈ig n names acc
 |(m,k)::r,n,acc,x,h=>by
  unfold ig;rcases bp.mp h with e|h
  ·cases e;exact⟨n,HU bb⟩
  ·split
   ·exact J9 h
   ·exact J9 h
theorem KA:∀{names:List (Str×kj)} {h:Heap} {acc:List (Str×Addr)} {x y:Str} {c:Addr},(∀p∈acc,p.2<h.objs.size)->(∀x y c,(x,c)∈acc->(y,c)∈acc->x=y)->
 (x,c)∈ig h.objs.size names acc->(y,c)∈ig h.objs.size names acc->x=y
 |[],_,_,_,_,_,_,hi,h1,h2=>hi _ _ _ h1 h2
 |(n,k)::r,h,acc,x,y,c,hl,hi,h1,h2=>by
  unfold ig at h1 h2;split at h1
  ·rename_i hk;rw[if_pos hk] at h2;rw[←ff h { cls:=.type "cell",data:=.cell none }] at h1 h2;refine KA (h:=h.push _) (λp hp=>?_) (λx y c a b=>?_) h1 h2
   ·rw[ff];rcases bp.mp hp with rfl|hp
    ·exact uG _
    ·exact oj (hl p hp)
   ·rcases bp.mp a with e|a<;>rcases bp.mp b with e'|b
    ·cases e;cases e';rfl
    ·cases e;exact absurd (hl _ b) (iu _)
    ·cases e';exact absurd (hl _ a) (iu _)
    ·exact hi _ _ _ a b
  ·rename_i hk;rw[if_neg hk] at h2;exact KA hl hi h1 h2
theorem Q8 {M:xx} {A:cy} {E:ag->ai->Prop} {s:ai} {scope:Scope} {globals:Addr} {closure:List (Str×Addr)} {qual:Str} {func:Option Addr} {code:ag} {around:Env} {builtins:Addr} {Q:Env->ai->Prop}
 (h:Q (newEnv scope s.heap.objs.size globals (ig (s.heap.objs.size+1) scope.names closure) qual func code (some around) builtins)
  { s with heap:=sN (s.heap.push { cls:=.type "dict",data:=.dict #[] }) scope.names }):
 be M A (yg scope globals closure [] qual func code (some around) builtins) Q E s:=by
 simp only[yg,Option.isSome_some,if_true];refine ae (wpAny_alloc ?_);refine ae (wpAny_layCells _ (λn k c=>rfl) scope.names closure _ _ ?_);rw[show({ s with heap:=s.heap.push { cls:=.type "dict",data:=.dict #[] } }:ai).heap.objs.size=s.heap.objs.size+1 from ff ..];rw[ye];exact ae (am (am h))
theorem G3 {sc:Scope}:∀{names:List (Str×kj)} {x:Str} {k:kj},
 (names.map λ(n,k)=>if(k==qh&&sc.kind==.function&&sc.names.lookup n==some .cell) then(n,wd) else(n,k)).lookup x=some k->
 ∃k',names.lookup x=some k'/\(k=k'\/(k'= .free/\k= .cell))
 |[],_,_,h=>by simp at h
 |(n,k₀)::r,x,k,h=>by
  have ih:=@G3 sc r x k;have h':jb x ((if(k₀==qh&&sc.kind==.function&&sc.names.lookup n==some .cell)=true then(n,wd) else(n,k₀))::(r.map _))=some k:=h;cases hx:x==n with
  |true=>
   simp only[kh,hx];by_cases hc:(k₀==qh&&sc.kind==.function&&sc.names.lookup n==some .cell)=true
   ·rw[if_pos hc] at h';simp only[kh,hx] at h';cases h';simp only[kg,beq_iff_eq] at hc;exact⟨k₀,rfl,.inr ⟨hc.1.1,rfl⟩⟩
   ·rw[if_neg hc] at h';simp only[kh,hx] at h';cases h';exact⟨_,rfl,.inl rfl⟩
  |false=>
   simp only[kh,hx];by_cases hc:(k₀==qh&&sc.kind==.function&&sc.names.lookup n==some .cell)=true
   ·rw[if_pos hc] at h';simp only[kh,hx] at h';exact ih h'
   ·rw[if_neg hc] at h';simp only[kh,hx] at h';exact ih h'
structure BlkOk (N:List Str) (sc scope:Scope) (own:List (Str×Nat)):Prop where
 kind:scope.kind= .function:=by rfl
 uniq:∀y∈scope.names,scope.names.lookup y.1=some y.2:=by decide +kernel
 ix:∀p∈own,N[p.2]? =some p.1:=by decide +kernel
 free:∀y∈scope.names,y.2= .free->sc.names.lookup y.1=some .cell\/sc.names.lookup y.1=some .free:=by decide +kernel
 own:∀y∈scope.names,y.2= .local\/y.2= .cell->y.1∈own.map (·.1)\/y.1∉N:=by decide +kernel
def GM (σ:St):List Nat->St
 |[]=>σ
 |v::vs=>(GM σ vs).set v none
theorem G4 (σ:St):∀vs:List Nat,(GM σ vs).length=σ.length
 |[]=>rfl
 |v::vs=>by unfold GM;rw[xF,G4 σ vs]
theorem KC {σ:St} {i:Nat} {x:V}:∀{vs:List Nat},(GM σ vs)[i]? =some (some x)->σ[i]? =some (some x)/\i∉vs
 |[],h=>⟨h,by simp⟩
 |v::vs,h=>by
  unfold GM at h;by_cases hi:v=i
  ·subst hi;by_cases hv:v<(GM σ vs).length
   ·rw[mv hv] at h;cases h
   ·rw[sH (by simpa using hv)] at h;cases h
  ·rw[sS hi] at h;obtain⟨h1,h2⟩:=KC h;exact⟨h1,by simp only[bp,not_or];exact⟨λe=>hi e.symm,h2⟩⟩
abbrev Cx.blk (X:Cx) (s:ai) (H:Hp) (scope:Scope) (cenv:Env) (fp:List Addr):Cx:={ X with s_0:=s,H_0:=H,env:=cenv,outer:=X.stack,ex:=fp,fn:=λx=>scope.names.lookup x==some .cell,pn:=[],xe:=λ_ _=>False }
section
variable {X:Cx} {pins:List (Addr×Obj)} {σ:St} {H:Hp} {s:ai}
theorem Q9 {scope:Scope} {own:List (Str×Nat)} {fp:List Addr} (I:Inv X pins σ H s) (ok:BlkOk X.N X.env.scope scope own) (hN:X.N.Nodup) (hfp:∀b∈fp,LB X pins H b/\b<s.heap.objs.size):
 Inv (X.blk s H scope (jh scope (ig (s.heap.objs.size+1) scope.names (BA X.env.cells scope.names [])) s.heap.objs.size X.env) fp) [] (GM σ (own.map (·.2))) H { s with heap:=sN (s.heap.push { cls:=.type "dict",data:=.dict #[] }) scope.names }:=by
 have hfree:∀y∈scope.names,y.2= .free->∃c,X.env.cells.lookup y.1=some c:=λy hy e=>by
  rcases ok.free y hy e with k|k
  ·exact I.ok.has _ (.inl k)
  ·exact I.ok.has _ (.inr k)
 generalize hcenv:jh scope (ig (s.heap.objs.size+1) scope.names (BA X.env.cells scope.names [])) s.heap.objs.size X.env=cenv;have kp:∀b o,s.heap.get? b=some o->(sN (s.heap.push { cls:=.type "dict",data:=.dict #[] }) scope.names).get? b=some o:=λb o e=>sZ _ _ _ _ (ak _ e);have hL:cenv.locals=s.heap.objs.size:=by rw[←hcenv];rfl
 have hcl:cenv.cells=ig (s.heap.objs.size+1) scope.names (BA X.env.cells scope.names []):=by rw[←hcenv];rfl
 have hsc:cenv.scope=rS scope X.env.scope:=by rw[←hcenv];rfl
 rw[←ff s.heap { cls:=.type "dict",data:=.dict #[] }] at hcl;have cm:∀{y c},(y,c)∈BA X.env.cells scope.names []->X.env.cells.lookup y=some c/\c<s.heap.objs.size:=λ{y c} hm=>by
  rcases EH hm with hm|⟨h1,rfl⟩
  ·cases hm
  ·obtain⟨c,hc⟩:=hfree _ h1 rfl;rw[hc];obtain⟨w,z⟩:=I.cell _ _ hc;exact⟨rfl,z.lt⟩
 have mem:∀{y c},cenv.cells.lookup y=some c->(X.env.cells.lookup y=some c/\c<s.heap.objs.size)\/(s.heap.objs.size+1<=c/\YU (sN (s.heap.push { cls:=.type "dict",data:=.dict #[] }) scope.names) c none):=λ{y c} e=>by
  rw[hcl] at e;rcases F9 (cn e) with hm|⟨_,h2,h3⟩
  ·exact .inl (cm hm)
  ·rw[ff] at h2;exact .inr ⟨h2,h3⟩
 have look:∀{y},scope.names.lookup y=some .free->∃c,cenv.cells.lookup y=some c/\X.env.cells.lookup y=some c:=λ{y} hl=>by
  have hy:(y,qh)∈scope.names:=cn hl;obtain⟨c',e'⟩:=E5 (HU (names:=scope.names) (n:=(s.heap.push { cls:=.type "dict",data:=.dict #[] }).objs.size) (EI (cells:=X.env.cells) (acc:=[]) hy));rw[←hcl] at e';refine⟨c',e',?_⟩;rw[hcl] at e';rcases F9 (cn e') with hm|⟨h1,_,_⟩
  ·exact(cm hm).1
  ·have:=ok.uniq _ h1;rw[hl] at this;cases this
 have okB:(X.blk s H scope cenv fp).Ok:=by
  refine⟨I.ok.mod,by show cenv.scope.kind=_;rw[hsc];exact ok.kind,by show cenv.globals=_;rw[←hcenv];exact I.ok.glob,by show cenv.builtins=_;rw[←hcenv];exact I.ok.blt,by show s.heap.objs.size<=cenv.locals;rw[hL];exact aq _,
   λy z c e1 e2=>?_,λy hy=>?_,λy c z e=>?_,I.ok.hd,I.ok.frames,.inl rfl,λb hb=>⟨?_,λy c e z=>?_⟩,I.bs,cu I.ok.bsz I.sz,λb o e hb=>?_,λb hb z=>?_,I.stack,I.stkFree⟩
  ·have e1:cenv.cells.lookup y=some c:=e1;have e2:cenv.cells.lookup z=some c:=e2;rw[hcl] at e1 e2;refine KA (λp hp=>?_) (λy z c a b=>I.ok.inj y z c (cm a).1 (cm b).1) (cn e1) (cn e2);rw[ff];exact oj (cm (y:=p.1) (c:=p.2) hp).2
  ·show∃c,cenv.cells.lookup y=some c;have key:∀k,cenv.kindOf y=some k->(k= .cell\/k= .free)->∃c,cenv.cells.lookup y=some c:=λk hk hk'=>by
    unfold Env.kindOf at hk;rw[hsc] at hk;obtain⟨k',e,r⟩:=G3 hk;have:k'= .cell\/k'= .free:=by
     rcases r with rfl|⟨rfl,_⟩
     ·exact hk'
     ·exact .inr rfl
    rcases this with rfl|rfl
    ·obtain⟨c,hm⟩:=J9 (n:=(s.heap.push { cls:=.type "dict",data:=.dict #[] }).objs.size) (acc:=BA X.env.cells scope.names []) (cn e);obtain⟨c',e'⟩:=E5 hm;exact⟨c',by rw[hcl];exact e'⟩
    ·obtain⟨c,h1,_⟩:=look e;exact⟨c,h1⟩
   rcases hy with hy|hy
   ·exact key _ hy (.inl rfl)
   ·exact key _ hy (.inr rfl)
  ·have z:(scope.names.lookup y==some wd)=true:=z;have z:scope.names.lookup y=some .cell:=by simpa using z
   have e:cenv.cells.lookup y=some c:=e;rw[hcl] at e;rcases F9 (cn e) with hm|⟨_,h2,_⟩
   ·rcases EH hm with hm|⟨h1,_⟩
    ·cases hm
    ·have q:=ok.uniq _ h1;rw[z] at q;cases q
   ·rw[ff] at h2;exact sg h2
  ·show b≠cenv.locals;rw[hL];exact cg (hfp b hb).2
  ·have e:cenv.cells.lookup y=some c:=e;rcases mem e with⟨h1,_⟩|⟨h1,_⟩
   ·exact(hfp b hb).1.2.2.2.2.1 y c h1 z
   ·have h2:s.heap.objs.size+1<=b:=by rw[←z];exact h1
    exact absurd (br (hfp b hb).2 (sg h2)) (iu _)
  ·rcases(hfp b hb).1.2.2.2.1 with z|z
   ·exact I.ok.noex b o e z
   ·exact absurd (br (bh e) (cu I.ok.bsz z)) (iu _)
  ·rcases bp.mp (I.stkSub b z) with z|z
   ·exact(hfp b hb).1.2.1 z
   ·exact(hfp b hb).1.2.2.1 z
 refine⟨okB,rfl,I.bare,Un.kept kp,⟨λ_=>none,?_,λi y av e1 e2 e3=>?_⟩,λy c e=>?_,?_,λy c e=>?_,λp hp=>?_,I.hok.kept kp,by rw[G4];exact I.len⟩
 ·show Heap.Ns _ cenv.locals _;rw[hL];exact Heap.Ns.keeps (Heap.Ns.new ..) λb o e=>sZ _ _ _ _ e
 ·obtain⟨e2,hne⟩:=KC e2;have hfr:scope.names.lookup y=some .free/\(cenv.kindOf y=some .cell\/cenv.kindOf y=some .free):=by
   have key:∀k,cenv.scope.names.lookup y=some k->k= .local\/k= .cell\/k= .free->scope.names.lookup y=some .free/\(cenv.kindOf y=some .cell\/cenv.kindOf y=some .free):=λk hk hk'=>by
    have hk0:=hk;rw[hsc] at hk;obtain⟨k',e,r⟩:=G3 hk;have no:¬(k'= .local\/k'= .cell):=λhh=>by
     rcases ok.own _ (cn e) hh with e'|e'
     ·obtain⟨p,hp,hpy⟩:=jx.mp e';have e3:=ok.ix p hp;have:p.1=y:=hpy;rw[this] at e3;exact hne (jx.mpr ⟨p,hp,L9 hN e3 e1⟩)
     ·exact e' (bo e1)
    rcases r with rfl|⟨rfl,rfl⟩
    ·rcases hk' with rfl|rfl|rfl
     ·exact absurd (.inl rfl) no
     ·exact absurd (.inr rfl) no
     ·exact⟨e,.inr hk0⟩
    ·exact⟨e,.inl hk0⟩
   have e3:Vis cenv.scope y:=e3;rcases e3 with e3|e3|e3
   ·exact key _ e3 (.inl rfl)
   ·exact key _ e3 (.inr (.inl rfl))
   ·exact key _ e3 (.inr (.inr rfl))
  obtain⟨m,hn,hl⟩:=I.loc;have hvis:Vis X.env.scope y:=(ok.free _ (cn hfr.1) rfl).elim (λk=>.inr (.inl k)) (λk=>.inr (.inr k));obtain⟨w,r,q⟩:=hl i y av e1 e2 hvis;refine⟨w,r,.inr ⟨hfr.2,?_⟩⟩;obtain⟨c,h1,h2⟩:=look hfr.1;rcases q with⟨k,_⟩|⟨_,c',e',z⟩
  ·have k:X.env.scope.names.lookup y=some .local:=k;rcases ok.free _ (cn hfr.1) rfl with k'|k'<;>rw[show X.env.scope.names.lookup y=_ from k'] at k<;>cases k
  ·rw[h2] at e';cases e';exact⟨c,h1,z.keeps kp⟩
 ·have e:cenv.cells.lookup y=some c:=e;rcases mem e with⟨h1,_⟩|⟨_,z⟩
  ·obtain⟨w,z⟩:=I.cell y c h1;exact⟨w,z.keeps kp⟩
  ·exact⟨_,z⟩
 ·show H cenv.locals=none;rw[hL];exact I.hok.fresh (aq _)
 ·have e:cenv.cells.lookup y=some c:=e;rcases mem e with⟨h1,_⟩|⟨h1,_⟩
  ·exact I.freeC y c h1
  ·exact I.hok.fresh (sg h1)
 ·exact absurd (show p∈([]:List (Addr×Obj))++[] from hp) (by simp)
theorem hJ {E:ag->ai->Prop} {D:Addr} {xs:List V} {y:V} {v:ag} {Q:ag->ai->Prop} (I:Inv X pins σ H s) (hD:H D=some (.lst xs)) (hz:xs.length<sizeLine) (r:RelV y v)
 (h:∀s',Inv X pins σ (upd H D (.lst (xs++[y]))) s'->Q .none s'):be (bi X.prog X.w) X.A (call (.builtin "list.append") [.ref D,v]) Q E s:=by
 obtain⟨hz',its,n,ri,e⟩:=I.hok D _ hD;have hl:=ri.length;refine append_at (hsz:=by rw[bg];omega) e λh' sb ho'=>?_;refine h { s with heap:=h' } (I.write (t':=s.toks) (by rw[hD];trivial) (.inl rfl) (λb u hb q=>(sb.2 b hb).trans q) ⟨_,ho'⟩ ⟨by rw[bq];exact hz,its++[v],n+1,ri.append (.cons r .nil),?_⟩);rw[ho'];simp
def PTs (X:Cx) (ifs:List Expr) (t:TT):Prop:=
 ∀(pins:List (Addr×Obj)) (s:ai) (σ:St) (H:Hp) (Q:Bool->Hp->Prop),Inv X pins σ H s->t σ H Q->
  be (bi X.prog X.w) X.A (forIn ifs true λc r=>if r=true then do let ok←wW c X.env (eval c X.env);pure (tj ok) else pure (tj r)) (TP X pins σ Q) X.xe s
def rT:TT:=λ_ H Q=>Q true H
theorem PP:PTs X [] rT:=λ_ _ _ H _ I h=>wpAny_tests_nil ⟨H,I,h⟩
end
theorem W1 {α:Type} {t:Sem α} {Q Q':α->ai->Prop} {M:xx} {A:cy} {E:ag->ai->Prop} {s:ai} (h:be M A t Q (λ_ _=>False) s) (hQ:∀a s,Q a s->Q' a s):be M A t Q' E s:=gg h hQ λ_ _ z=>eq z
theorem PQ {prog:aw} {w:bv} {A:cy} {R:w8->ai->Prop} {s:ai} {elt target iter:Expr} {ifs:List Expr} {scope:Scope} {pos:Pos} {it acc:ag} {env:Env} (I:Nat->ai->Prop)
 (turn:∀n s,I n s->be (bi prog w) A (wk it) (λr s₁=>match r with
  |none=>R (.ok .next) s₁
  |some v=>be (bi prog w) A (qo target it v) (λ_ s₁'=>be (bi prog w) A (wY target env v) (λ_ s₂=>
   be (bi prog w) A (forIn ifs true λc r=>if r=true then do let ok←wW c env (eval c env);pure (tj ok) else pure (tj r)) (λok s₃=>
    if ok=true then be (bi prog w) A (eval elt env) (λx s₄=>
     be (bi prog w) A (call (.builtin "list.append") [acc,x]) (λ_ s₅=>∃m,m<n/\I m s₅) (vZ (bi prog w) A env λe s'=>R (.error e) s') s₄) (vZ (bi prog w) A env λe s'=>R (.error e) s') s₃
    else∃m,m<n/\I m s₃) (vZ (bi prog w) A env λe s'=>R (.error e) s') s₂) (vZ (bi prog w) A env λe s'=>R (.error e) s') s₁') (vZ (bi prog w) A env λe s'=>R (.error e) s') s₁) (vZ (bi prog w) A env λe s'=>R (.error e) s') s)
 (n:Nat) (h:I n s):
 ml (bi prog w) A (.compLoop (.ListComp elt [⟨target,iter,ifs,0⟩] scope pos) 0 it acc env) R s:=by
 refine codeAny_loop rfl I (λn s hI=>?_) n h;show be _ A ((compTurn (.ListComp elt [⟨target,iter,ifs,0⟩] scope pos) 0 it acc env).onRaise (λx=>do uH x env;theTreesLotGoes x)) _ _ s;refine wpAny_noted ?_;rw[compTurn_list];refine ae (jk (ae (gg (turn n s hI) (λr s₁ h₁=>?_) λ_ _ h'=>h')));cases r with
 |none=>exact am h₁
 |some v=>
  refine ae (gg h₁ (λ_ s₁' h₁'=>?_) λ_ _ h'=>h');refine ae (gg h₁' (λ_ s₂ h₂=>ae (gg h₂ (λok s₃ h₃=>?_) λ_ _ h'=>h')) λ_ _ h'=>h');cases ok with
  |false=>exact am ⟨rfl,h₃⟩
  |true=>
   exact ae (ae (gg h₃ (λx s₄ h₄=>ae (gg h₄ (λ_ s₅ h₅=>am (am ⟨rfl,h₅⟩)) λ_ _ h'=>h')) λ_ _ h'=>h'))
section
variable {X:Cx}
def tLc (wi:TI) (g:TG) (tt:TT) (te:TE) (vs:List Nat):TE:=λσ H Q=>wi σ H λJ H1=>∀D,H1 D=none->∃W:Nat->Nat->Hp->Prop,(∃m,W 0 m (upd H1 D (.lst [])))/\∀i m H,W i m H->
 (J.stop i H/\Q (.ref D) H)\/(J.go i H/\∃Nx:Hp->Prop,(∀H',Nx H'->∃m',m'<m/\W (i+1) m' H')/\∀x H',J.yld i H x H'->g x (GM σ vs) H' λσ2 H2=>GM σ2 vs=GM σ vs/\tt σ2 H2 λb H3=>
  if b=true then te σ2 H3 λy H4=>∃acc,H4 D=some (.lst acc)/\acc.length<sizeLine/\Nx (upd H4 D (.lst (acc++[y]))) else Nx H3)
theorem VD {pins:List (Addr×Obj)} {s:ai} {σ:St} {H:Hp} {Q:VK} {elt tg iter:Expr} {ifs:List Expr} {scope:Scope} {own:List (Str×Nat)} {pos pos':Pos} {wi:TI} {g:TG} {tt:TT} {te:TE} {use:Option (ag->Sem Unit)} {Qf:ag->ai->Prop}
 (hc:X.calm=true) (hN:X.N.Nodup) (I:Inv X pins σ H s) (hi:PI X tg iter wi) (ok:BlkOk X.N X.env.scope scope own)
 (hg:∀(s:ai) (H:Hp) (C:Addr) (cl:List (Str×Addr)) (fp:List Addr),PG (X.blk s H scope (jh scope cl C X.env) fp) tg g) (ht:∀(s:ai) (H:Hp) (C:Addr) (cl:List (Str×Addr)) (fp:List Addr),PTs (X.blk s H scope (jh scope cl C X.env) fp) ifs tt)
 (he:∀(s:ai) (H:Hp) (C:Addr) (cl:List (Str×Addr)) (fp:List Addr),PE (X.blk s H scope (jh scope cl C X.env) fp) elt te) (hs:∀x,lh iter X.env x=pure x)
 (h:tLc wi g tt te (own.map (·.2)) σ H Q)
 (hRR:∀D C s' m H',Inv X pins σ H' s'->Q (.ref D) H'->s'.heap.Ns C m->LB X pins H' C->compPost (bi X.prog X.w) X.A X.xe use Qf (.ref D) C (.ok .next) s'):
 be (bi X.prog X.w) X.A (comprehension (.ListComp elt [⟨tg,iter,ifs,0⟩] scope pos) scope X.env pos' (newList []) false (eval iter X.env) use) Qf X.xe s:=by
 have hfree:∀y∈scope.names,y.2= .free->∃c,X.env.cells.lookup y.1=some c:=λy hy e=>by
  rcases ok.free y hy e with k|k
  ·exact I.ok.has _ (.inl k)
  ·exact I.ok.has _ (.inr k)
 refine wpAny_comprehension_free (use:=use) rfl hs (MR hfree) ok.kind (λy hy e=>by rw[ok.uniq y hy,e])
  (thn (hi pins s σ H _ I h) λxv s1 hx=>thn hx λitv s2 h2=>?_)
 obtain⟨it,fp,tn,J,H2,e,I2,T,st2,f2,q⟩:=h2;subst e;refine fw (Q8 ?_) (by show 0<=sizeLine;decide);generalize hD:s2.heap.objs.size=D;have hDn:H2 D=none:=I2.hok.fresh (rn hD);obtain⟨W,⟨m0,w0⟩,turn⟩:=q D hDn;generalize hs3:({ s2 with heap:=s2.heap.push { cls:=.type "list",data:=.seq ([]:List ag).toArray } }:ai)=s3;have I3:Inv X pins σ (upd H2 D (.lst [])) s3:=by
  rw[←hs3];refine I2.laid (t':=s2.toks) (λb o e=>ak _ e) (rn hD) ⟨df _,[],0,.nil,?_⟩;rw[←hD];exact bf _ rfl
 have h3:s3.heap=s2.heap.push { cls:=.type "list",data:=.seq ([]:List ag).toArray }:=by rw[←hs3]
 have sz:∀b∈fp,b<s2.heap.objs.size:=λb hb=>by
  obtain⟨o,e,_⟩:=T.obj _ _ st2 b hb;exact bh e
 have f3:∀b∈fp,LB X pins (upd H2 D (.lst [])) b/\b<s3.heap.objs.size:=λb hb=>by
  have hlt:=sz b hb;refine⟨⟨?_,(f2 b hb).2⟩,by rw[h3,ff];exact oj hlt⟩;rw[AE (by rw[←hD];exact cg hlt)];exact(f2 b hb).1
 have st3:tn 0 s3.heap:=T.keep _ _ _ st2 λb _ o e=>by rw[h3];exact ak _ e
 have I4:=Q9 I3 ok hN f3;have pg:=hg s3 (upd H2 D (.lst [])) s3.heap.objs.size (ig (s3.heap.objs.size+1) scope.names (BA X.env.cells scope.names [])) fp;have pt:=ht s3 (upd H2 D (.lst [])) s3.heap.objs.size (ig (s3.heap.objs.size+1) scope.names (BA X.env.cells scope.names [])) fp;have pe:=he s3 (upd H2 D (.lst [])) s3.heap.objs.size (ig (s3.heap.objs.size+1) scope.names (BA X.env.cells scope.names [])) fp;show ml _ _ (.compStart (.ListComp elt [⟨tg,iter,ifs,0⟩] scope pos) 0 (.ref it) (.ref D) (jh scope (ig (s3.heap.objs.size+1) scope.names (BA X.env.cells scope.names [])) s3.heap.objs.size X.env)) (compPost (bi X.prog X.w) X.A X.xe use Qf (.ref D) s3.heap.objs.size) { s3 with heap:=sN (s3.heap.push { cls:=.type "dict",data:=.dict #[] }) scope.names };have nfp:∀b∈fp,(upd H2 D (.lst [])) b=none:=λb hb=>(f3 b hb).1.1;generalize hce:jh scope (ig (s3.heap.objs.size+1) scope.names (BA X.env.cells scope.names [])) s3.heap.objs.size X.env=ce at I4 pg pt pe ⊢;have cL:ce.locals=s3.heap.objs.size:=by subst hce;rfl
 generalize hH3:upd H2 D (.lst [])=H3 at I3 I4 pg pt pe w0 nfp f3;generalize hs4:({ s3 with heap:=sN (s3.heap.push { cls:=.type "dict",data:=.dict #[] }) scope.names }:ai)=s4 at I4 ⊢;have st4:tn 0 s4.heap:=T.keep _ _ _ st3 λb _ o e=>by rw[←hs4];exact sZ _ _ _ _ (ak _ e)
 have stat:∀{σ':St} {H':Hp} {s':ai},Inv (X.blk s3 H3 scope ce fp) [] σ' H' s'->(∀b∈fp,H' b=none)->∀b∈fp,LB (X.blk s3 H3 scope ce fp) [] H' b:=λ{σ' H' s'} I' hn b hb=>
  ⟨hn b hb,(I'.ok.exf b hb).1,I'.ok.exfs b hb,.inl hb,λx c e=>(I'.ok.exf b hb).2 x c e,λp hp=>absurd (show p∈([]:List (Addr×Obj))++[] from hp) (by simp)⟩
 have loop:ml (bi X.prog X.w) X.A (.compLoop (.ListComp elt [⟨tg,iter,ifs,0⟩] scope pos) 0 (.ref it) (.ref D) ce) (compPost (bi X.prog X.w) X.A X.xe use Qf (.ref D) s3.heap.objs.size) s4:=by
  refine PQ (λn s'=>∃i H',Inv (X.blk s3 H3 scope ce fp) [] (GM σ (own.map (·.2))) H' s'/\tn i s'.heap/\(∀b∈fp,H' b=none)/\W i n H') ?_ m0 ⟨0,H3,I4,st4,nfp,w0⟩;rintro n s5 ⟨i,H5,I5,st5,n5,w5⟩;rcases turn i n H5 w5 with⟨stop,qq⟩|⟨go,Nx,hNx,step⟩
  ·have td:=T.done (X.blk s3 H3 scope ce fp) rfl rfl rfl hc i [] s5 _ H5 (λ_ _=>False) I5 (stat I5 n5) st5 stop;refine W1 td λr s6 ⟨hr,I6⟩=>?_;subst hr;have I7:Inv X pins σ H5 s6:=I3.call' (ch:=fp) I6.os I6.base I6.hok I6.bare λb hb=>⟨(f3 b hb).1.2.2.2.1,(f3 b hb).1.2.1,(f3 b hb).1.2.2.2.2.1,(f3 b hb).1.2.2.2.2.2⟩
   have nC:H5 s3.heap.objs.size=none:=by
    have z:H5 ce.locals=none:=I6.free;rw[cL] at z;exact z
   obtain⟨m,hn,_⟩:=I6.loc;have hn:s6.heap.Ns ce.locals m:=hn;rw[cL] at hn;exact hRR D s3.heap.objs.size s6 m H5 I7 qq hn (I3.fpOk (aq _) nC)
  ·have ti:=T.item (X.blk s3 H3 scope ce fp) rfl rfl rfl hc i [] s5 _ H5 (λ_ _=>False) I5 (stat I5 n5) st5 go;refine W1 ti λr s6 ⟨u,hr,h6⟩=>?_;subst hr;refine W1 h6 λ_ s7 ⟨x,H7,I7,r7,y7,st7,n7⟩=>?_;have I7':=I7.pinned (stat I7 n7) (T.obj _ _ st7);refine W1 (pg _ s7 _ H7 x u _ I7' r7 (step x H7 y7)) λ_ s8 ⟨σ8,H8,I8,hw8,q8⟩=>?_;refine W1 (pt _ s8 σ8 H8 _ I8 q8) λb s9 ⟨H9,I9,q9⟩=>?_;have fin:∀{s':ai} {H':Hp},Inv (X.blk s3 H3 scope ce fp) ([]++MD fp s7.heap) σ8 H' s'->Nx H'->∃m,m<n/\∃i H',Inv (X.blk s3 H3 scope ce fp) [] (GM σ (own.map (·.2))) H' s'/\tn i s'.heap/\(∀b∈fp,H' b=none)/\W i m H':=λ{s' H'} I' nx=>by
    obtain⟨m',hm,w'⟩:=hNx H' nx;have pin':∀b∈fp,∀o,s7.heap.get? b=some o->s'.heap.get? b=some o/\H' b=none:=λb hb o e=>
     let z:=I'.pin (b,o) (dh _ (dh _ (IO hb e)))
     ⟨z.1,z.2.1⟩
    have hl:(GM σ (own.map (·.2))).length=σ8.length:=by rw[←hw8,G4]
    refine⟨m',hm,i+1,H',(I'.unpinned (pins:=[])).weak hl (λj v e=>?_),T.keep _ _ _ st7 λb hb o e=>(pin' b hb o e).1,λb hb=>?_,w'⟩
    ·rw[←hw8] at e;exact(KC e).1
    ·obtain⟨o,e,_⟩:=T.obj _ _ st7 b hb;exact(pin' b hb o e).2
   cases b with
   |false=>
    simp only[fm,if_false] at q9 ⊢;exact fin I9 q9
   |true=>
    simp only[if_true] at q9 ⊢;refine W1 (pe _ s9 σ8 H9 _ I9 q9) λz s10 ⟨yv,H10,I10,r10,acc,hD10,hz10,nx⟩=>?_;exact hJ (X:=X.blk s3 H3 scope ce fp) I10 hD10 hz10 r10 λs11 I11=>fin I11 nx
 exact codeAny_compStart_list loop (T.self X.A 0 _ _ _ st4 loop)
theorem lW {elt tg iter:Expr} {ifs:List Expr} {scope:Scope} {own:List (Str×Nat)} {pos:Pos} {wi:TI} {g:TG} {tt:TT} {te:TE} (hc:X.calm=true) (hN:X.N.Nodup) (hi:PI X tg iter wi) (ok:BlkOk X.N X.env.scope scope own)
 (hg:∀(s:ai) (H:Hp) (C:Addr) (cl:List (Str×Addr)) (fp:List Addr),PG (X.blk s H scope (jh scope cl C X.env) fp) tg g) (ht:∀(s:ai) (H:Hp) (C:Addr) (cl:List (Str×Addr)) (fp:List Addr),PTs (X.blk s H scope (jh scope cl C X.env) fp) ifs tt)
 (he:∀(s:ai) (H:Hp) (C:Addr) (cl:List (Str×Addr)) (fp:List Addr),PE (X.blk s H scope (jh scope cl C X.env) fp) elt te) (hs:∀x,lh iter X.env x=pure x:=by intro _;rfl):
 PE X (.ListComp elt [⟨tg,iter,ifs,0⟩] scope pos) (tLc wi g tt te (own.map (·.2))):=by
 intro pins s σ H Q I h;rw[eval_ListComp];refine VD hc hN I hi ok hg ht he hs h λD C s' m H' I' q hn f=>⟨m,hn,λh'' sb=>?_⟩
 obtain⟨f0,f1,f2,f3,f4,f5⟩:=f;exact⟨.ref D,H',I'.turned (t':=s'.toks) (λb o hb e=>(sb.2 b hb).trans e) f0 f1 f3 f4 f5,rfl,q⟩
theorem YV {i:Nat} {y:Str} {py:Pos} {elt tg iter:Expr} {ifs:List Expr} {scope:Scope} {own:List (Str×Nat)} {pos spos:Pos} {wi:TI} {g:TG} {tt:TT} {te:TE} (hc:X.calm=true) (hN:X.N.Nodup) (hy:X.N[i]? =some y) (hyl:X.env.scope.names.lookup y=some .local)
 (hsw:pc (.ListComp elt [⟨tg,iter,ifs,0⟩] scope pos) (some (.Name y py)) spos.line X.env=pure true) (hi:PI X tg iter wi) (ok:BlkOk X.N X.env.scope scope own)
 (hg:∀(s:ai) (H:Hp) (C:Addr) (cl:List (Str×Addr)) (fp:List Addr),PG (X.blk s H scope (jh scope cl C X.env) fp) tg g) (ht:∀(s:ai) (H:Hp) (C:Addr) (cl:List (Str×Addr)) (fp:List Addr),PTs (X.blk s H scope (jh scope cl C X.env) fp) ifs tt)
 (he:∀(s:ai) (H:Hp) (C:Addr) (cl:List (Str×Addr)) (fp:List Addr),PE (X.blk s H scope (jh scope cl C X.env) fp) elt te) (hs:∀x,lh iter X.env x=pure x:=by intro _;rfl):
 PS X (.Assign [.Name y py] (.ListComp elt [⟨tg,iter,ifs,0⟩] scope pos) spos) (YF (tLc wi g tt te (own.map (·.2))) (MC i)):=by
 intro pins s σ H D I h;rw[exec_Assign_Name_used _ _ _ _ hsw];refine ae (jk (ae ?_));show be _ X.A (do let _←comprehension (.ListComp elt [⟨tg,iter,ifs,0⟩] scope pos) scope X.env (firstIterPos [⟨tg,iter,ifs,0⟩] pos) (newList []) false (eval iter X.env) (some (wY (.Name y py) X.env))) _ _ s;have h:tLc wi g tt te (own.map (·.2)) σ H (λx H1=>MC i x σ H1 D.nx):=h;refine ae (thn (VD (Qf:=λ_ s'=>SP X pins D .next s') hc hN I hi ok hg ht he hs h λL C s' m H' I' q hn f=>?_) λ_ s' hq=>am (am hq));show be _ _ (wY (.Name y py) X.env (.ref L)) _ _ _;refine wA (N9 (v:=V.ref L) I' hN hy (.inl hyl) rfl (λs2 I2 ⟨a,sb,ha⟩=>?_) (.inr hyl));obtain⟨f0,f1,f2,f3,f4,f5⟩:=f;have haC:C≠a:=by
  rcases ha with z|z
  ·rw[z];exact f1
  ·exact λe=>f4 y a z e.symm
 refine⟨m,hn.sameBut sb haC,λh3 sb3=>?_⟩;exact⟨_,H',I2.turned (t':=s2.toks) (λb o hb e=>(sb3.2 b hb).trans e) f0 f1 f3 f4 f5,q⟩
end
section
variable {κ:Type} [DecidableEq κ]
def EY (kvs:List (κ×V)) (k:κ):Option V:=(kvs.find? λkv=>decide (kv.1=k)).map (·.2)
def e9 (kvs:List (κ×V)) (k:κ):List (κ×V):=kvs.filter λkv=>decide (kv.1≠k)
theorem GA {p:κ×V} {r:List (κ×V)} {k:κ} (e:p.1=k):EY (p::r) k=some p.2:=by simp[EY,jf,e]
theorem EJ {p:κ×V} {r:List (κ×V)} {k:κ} (e:¬p.1=k):EY (p::r) k=EY r k:=by simp[EY,jf,e]
theorem KD (k j:κ) (y:V):∀kvs:List (κ×V),EY kvs k=none->EY (kvs++[(k,y)]) j=if j=k then some y else EY kvs j
 |[],_=>by
  by_cases e:k=j
  ·rw[if_pos e.symm];exact GA (p:=(k,y)) e
  ·rw[if_neg (λz=>e z.symm)];exact EJ (p:=(k,y)) e
 |p::r,hn=>by
  rw[ph];have hk:¬p.1=k:=λz=>by rw[GA z] at hn;cases hn
  rw[EJ hk] at hn;have ih:=KD k j y r hn;by_cases e:p.1=j
  ·rw[GA e,GA e,if_neg (λz=>hk (e.trans z))]
  ·rw[EJ e,EJ e,ih]
theorem RelO.isSome_eq {o:Option V} {u:Option ag} (r:RelO o u):o.isSome=u.isSome:=by
 cases o with
 |none=>cases u with
  |none=>rfl
  |some _=>exact(show False from r).elim
 |some _=>cases u with
  |none=>exact(show False from r).elim
  |some _=>rfl
theorem RelO.getD {o:Option V} {u:Option ag} {d:V} {d':ag} (r:RelO o u) (rd:RelV d d'):RelV (o.getD d) (u.getD d'):=by
 cases o with
 |none=>cases u with
  |none=>exact rd
  |some _=>exact(show False from r).elim
 |some _=>cases u with
  |none=>exact(show False from r).elim
  |some _=>exact r
theorem KV.drop {kvs:List (κ×V)} {vs:List (κ×ag)} (r:KV kvs vs) (k:κ):KV (e9 kvs k) (without vs k):=by
 unfold KV at r ⊢;unfold e9 without;induction r with
 |nil=>exact .nil
 |@cons p q ps qs h t ih=>
  obtain⟨h1,h2⟩:=h;rw[xf,xf];by_cases e:p.1=k
  ·have a:¬decide (p.1≠k)=true:=by simp[e]
   have b:¬decide (q.1≠k)=true:=by simp[h1.symm.trans e]
   rw[if_neg a,if_neg b];exact ih
  ·have e':¬q.1=k:=λz=>e (h1.trans z);have a:decide (p.1≠k)=true:=by simp[e]
   have b:decide (q.1≠k)=true:=by simp[e']
   rw[if_pos a,if_pos b];exact .cons ⟨h1,h2⟩ ih
theorem KV.keys {kvs:List (κ×V)} {vs:List (κ×ag)} (r:KV kvs vs):kvs.map (·.1)=vs.map (·.1):=by
 unfold KV at r;induction r with
 |nil=>rfl
 |cons h t ih=>rw[de,de,ih,h.1]
theorem KV.length {kvs:List (κ×V)} {vs:List (κ×ag)} (r:KV kvs vs):kvs.length=vs.length:=cf r
end
theorem lX {P:aw} {w:bv} {k:Key} {u:ag} (r:RelV (kV k) u):(DF P w).is k u=true:=by
 cases k with
 |inl i=>obtain⟨t,e⟩:=(show∃t,u=uC i t from r);subst e;exact QV P w i t
 |inr x=>obtain⟨t,e⟩:=(show∃t,u=wU x t from r);subst e;exact QW P w x t
theorem OI {P:aw} {w:bv}:∀{ks:List Key} {us:List ag},Vals (ks.map kV) us->ItemsAre (DF P w) ks us
 |[],_,r=>by rw[wG] at r;cases r;exact .nil
 |k::ks,_,r=>by
  rw[de] at r;cases r with
  |cons h t=>exact .cons (lX h) (OI t)
abbrev KT (H:Hp):List (List Key×V)->List (List Key×Addr×ag)->Prop:=cb λp q=>p.1=q.1/\H q.2.1=some (.tup (p.1.map kV))/\RelV p.2 q.2.2
theorem KT.keeps {H H':Hp} {kvs:List (List Key×V)} {xs:List (List Key×Addr×ag)} (r:KT H kvs xs) (ht:∀b ys,H b=some (.tup ys)->H' b=some (.tup ys)):KT H' kvs xs:=
 cb.mapP r λ_ _ z=>⟨z.1,ht _ _ z.2.1,z.2.2⟩
section
variable {X:Cx} {pins:List (Addr×Obj)} {σ:St} {H:Hp} {s:ai} {a:Addr} {y v:V} {u r:ag} {o:Option V} {A:cy} {E:ag->ai->Prop}
theorem Inv.big (I:Inv X pins σ H s):qw<s.heap.objs.size:=by
 have h:mainGlobals<s.heap.objs.size:=(I.mod.glob.keeps I.bk).lt;exact mz (by decide) h
theorem cZ {h':Heap} {t':Nat} {ob:HO} (I:Inv X pins σ H s) (mu:Mut (H a)) (hs:oy a s.heap h') (he:∃q,h'.get? a=some q) (new:ObjOk X.prog X.w (upd H a ob) h' a ob):
 Inv X pins σ (upd H a ob) { s with heap:=h',toks:=t' }:=
 I.write (x:=a) (e:=a) mu (.inl rfl) (λb q hb z=>(hs.2 b hb).trans z) he new
end
def lY (i:Expr):Prop:=∀ov iv,vF i false ov iv=operate [ov,iv] (u4 ov iv)
theorem c4 {prog:aw} {w:bv} {A:cy} {E:ag->ai->Prop} {s:ai} {env:Env} {value slice:Expr} {pos:Pos} {T id:String} {Q:ag->ai->Prop}
 (hl:u5 (.type T) "__getitem__"=pure (some (.builtin id))) (hs:lY slice)
 (h:be (bi prog w) A (eval value env) (λo s₁=>be (bi prog w) A (eval slice env) (λi s₂=>s₂.TypeIs o T/\be (bi prog w) A (u4 o i) Q E s₂) E s₁) E s):
 be (bi prog w) A (eval (.Subscript value slice pos) env) Q E s:=by
 refine yb (gg h (λo s₁ h₁=>gg h₁ (λi s₂ h₂=>?_) λ_ _ x=>x) λ_ _ x=>x);obtain⟨hT,h₂⟩:=h₂;unfold wc;refine ae ?_;rw[getitemInPython_of_ne hT.not_modules];refine ae (vj hT hl ?_);have fin:be (bi prog w) A (vF slice false o i) (λr s₃=>be (bi prog w) A (letTemporaryGo value o r >>= λ_=>pure r) Q E s₃) E s₂:=by
  rw[hs o i];exact wpAny_operating (gg h₂ (λr s₃ h₃=>ae (wpAny_letTemporaryGo (am h₃))) λ_ _ x=>x)
 first
  |exact am (ae fin)
  |exact ae (am (ae fin))
  |exact ae fin
structure M1 (X:Cx) (o:Expr) (m:Str) (apos:Pos) (e:Expr) (cpos:Pos):Prop where
 base:jl o m X.env (eval o X.env)=eval o X.env
 few:((gr cpos (bc [e] X.env)).all (λx=>!x.1)&&(jm cpos (ge [] X.env)).all (λx=>x.1.isSome)
  &&decide (([e]:List Expr).length+([]:List u0).length+(if([]:List u0).isEmpty then 0 else 1)<30))=true
 line:(apos.endLine==cpos.line)=true
 trees:gr cpos (bc [e] X.env)=[(false,eval e X.env)]
structure M2 (X:Cx) (o:Expr) (m:Str) (apos:Pos) (e f:Expr) (cpos:Pos):Prop where
 base:jl o m X.env (eval o X.env)=eval o X.env
 few:((gr cpos (bc [e,f] X.env)).all (λx=>!x.1)&&(jm cpos (ge [] X.env)).all (λx=>x.1.isSome)
  &&decide (([e,f]:List Expr).length+([]:List u0).length+(if([]:List u0).isEmpty then 0 else 1)<30))=true
 line:(apos.endLine==cpos.line)=true
 trees:gr cpos (bc [e,f] X.env)=[(false,eval e X.env),(false,eval f X.env)]
theorem MT:jj "reversed"=some (.type "reversed"):=by decide +kernel
section
variable {X:Cx} {pins:List (Addr×Obj)} {σ:St} {H:Hp} {s:ai} {h':Heap}
theorem Inv.turnedNew {t':Nat} {ch:List Addr} {T:Addr} {ob:HO} (I:Inv X pins σ H s) (k:∀b o,b∉ch->s.heap.get? b=some o->h'.get? b=some o) (hf:∀b∈ch,LB X pins H b) (hT:s.heap.objs.size<=T)
 (new:ObjOk X.prog X.w (upd H T ob) h' T ob):Inv X pins σ (upd H T ob) { s with heap:=h',toks:=t' }:=by
 have hn:H T=none:=I.hok.fresh hT;have nit:∀b u,H b=some u->b∉ch:=λb u e z=>by
  have q:=(hf b z).1;rw[q] at e;cases e
 refine I.step (g':=s.gens) (d':=s.drawn) (ch:=ch) (λb hb=>⟨(hf b hb).2.2.2.1,(hf b hb).2.1,(hf b hb).2.2.2.2.1,(hf b hb).2.2.2.2.2⟩) (λb o _ _ hc e _=>k b o hc e) (λb o _ _ hc e _=>⟨o.slots,k b o hc e⟩)
  (λb o _ e n=>?_) (λb o hc e=>⟨o,k b o hc e⟩) (λb xs e=>?_) (λb o u e=>?_) (λb ps e=>⟨#[],?_⟩) (λm hm=>?_) (λb u e=>?_) I.bare
 ·rw[AE (cg (br (bh e) hT))];exact n
 ·rw[AE (AG e hn)];exact e
 ·rw[AE (AG e hn)];exact e
 ·rw[AE (AG e hn),e];simp
 ·obtain⟨o,es,ep,ho,r⟩:=hm;exact⟨o,es,ep,k _ o (λz=>(hf _ z).2.1 rfl) ho,r⟩
 ·by_cases hb:b=T
  ·subst hb;rw[upd_same] at e;cases e;exact new
  ·rw[AE hb] at e;refine(I.hok b u e).stay (λc v hc q=>k c v ?_ q) (λc q=>by rw[AE (AG q hn)];exact q) λc xs q=>by rw[AE (AG q hn)];exact q
   rcases hc with z|z
   ·rw[z];exact nit b u e
   ·exact nit c _ z
end
section
variable {X:Cx}
theorem YW {tg:Expr} {pins:List (Addr×Obj)} {σ:St} {H:Hp} {s:ai} {R:It->Hp->Prop} {J:It} {tn:Nat->Heap->Prop} {tk:Nat} (I:Inv X pins σ H s) (o:Obj)
 (T:Turn X.prog X.w X.K tg J [s.heap.objs.size] s.heap.objs.size tn) (st:tn 0 (s.heap.push o)) (q:R J H):PIE X pins σ tg R (.ref s.heap.objs.size) { s with heap:=s.heap.push o,toks:=tk }:=by
 refine⟨s.heap.objs.size,[s.heap.objs.size],tn,J,H,rfl,I.kept λb ob e=>ak _ e,T,st,λb hb=>?_,q⟩;have e:b=s.heap.objs.size:=by simpa using hb
 subst e;exact I.fpOk (aq _) (I.hok.fresh (aq _))
end
def RgC (i j c:Int) (n:Nat):Prop:=c≠0/\c.natAbs<1073741824/\zO i j c=true/\uD i j c=n
def Its (x:Str):It:=⟨λi _=>i<x.cps.size,λi H v H'=>H'=H/\∃c,x.cps[i]? =some c/\v= .str ⟨#[c]⟩,λi _=>x.cps.size<=i⟩
theorem RA {P:aw} {w:bv} {K:aa} {tg:Expr} (it:Addr) (x:Str) (t:Tok) (ty:String) (hty:ty="str_ascii_iterator"\/ty="str_iterator"):
 Turn P w K tg (Its x) [it] it (λi h=>h.IsStrIter it ty x t i) where
 mem:=by simp
 obj:=λi h st b hb=>by
  have e:b=it:=by simpa using hb
  subst e;obtain⟨o,e,c,d⟩:=st;exact⟨o,e,λv z=>by rw[d] at z;cases z⟩
 keep:=λi h h' st k=>let ⟨o,ho,r⟩:=st;⟨o,k it (by simp) o ho,r⟩
 item:=by
  intro X hP hw hK hc i pins s σ H E I hf st hg;subst hP hw hK;obtain⟨f0,f1,f2,f3,f4,f5⟩:=hf it (by simp);have W:Walks X.prog X.w X.A it [it] [it] x.cps.size (SignAt x) (λi h=>h.IsStrIter it ty x t i):=by
   rcases hty with e|e
   ·rw[e];exact Walks.strAscii (I.ok.hd hc) it x t
   ·rw[e];exact Walks.strWide (I.ok.hd hc) it x t
  have hno:["enumerate","zip","dict_itemiterator","dict_reverseitemiterator","odict_iterator","itertools.zip_longest","itertools.pairwise"].contains ty=false:=by
   rcases hty with e|e
   ·rw[e];decide
   ·rw[e];decide
  refine W.item i s _ _ hg st λv h' tk hv st' kk=>?_;obtain⟨c,u,hcx,rfl⟩:=hv;have I1:Inv X pins σ H { s with heap:=h',toks:=tk }:=I.turned (λb o hb e=>kk b o (by simpa using hb) e) f0 f1 f3 f4 f5;obtain⟨oi,e,cc,dd⟩:=id st';exact⟨_,rfl,UV (s:={ s with heap:=h',toks:=tk }) e cc dd hno ⟨.str ⟨#[c]⟩,H,I1,⟨u,rfl⟩,⟨rfl,c,hcx,rfl⟩,st',λb hb=>(hf b hb).1⟩⟩
 done:=by
  intro X hP hw hK hc i pins s σ H E I hf st hg;subst hP hw hK;obtain⟨f0,f1,f2,f3,f4,f5⟩:=hf it (by simp);have hx:x.cps[i]? =none:=sh hg;rcases hty with e|e
  ·rw[e] at st;exact wpAny_pyNext_ascii_end (I.ok.hd hc) st hx λh' eb=>⟨rfl,I.turned (t':=s.toks) (λb o hb e=>eb b o hb e) f0 f1 f3 f4 f5⟩
  ·rw[e] at st;exact wpAny_pyNext_wide_end (I.ok.hd hc) st hx λh' eb=>⟨rfl,I.turned (t':=s.toks) (λb o hb e=>eb b o hb e) f0 f1 f3 f4 f5⟩
 self:=λA i s Q E st h=>by
  rcases hty with e|e
  ·rw[e] at st;exact wpAny_pyIter_striter_ascii st h
  ·rw[e] at st;exact wpAny_pyIter_striter_wide st h
def rV (te:TE):TI:=λσ H R=>te σ H λv H1=>∃x,v= .str x/\R (Its x) H1
theorem hU {X:Cx} {tg e:Expr} {te:TE} (he:PE X e te):PI X tg e (rV te):=by
 intro pins s σ H R I h;refine thn (he pins s σ H _ I h) λv s1 ⟨y,H1,I1,r1,x,ex,q⟩=>?_;subst ex;obtain⟨t,rfl⟩:=r1;cases ha:x.cps.all (·<128)
 ·exact wpAny_pyIter_wide ha (YW (tk:=s1.toks) I1 _ (RA _ x t "str_iterator" (.inr rfl)) ⟨_,bf _ rfl,rfl,rfl⟩ q)
 ·exact wpAny_pyIter_ascii ha (YW (tk:=s1.toks) I1 _ (RA _ x t "str_ascii_iterator" (.inl rfl)) ⟨_,bf _ rfl,rfl,rfl⟩ q)
def Ite (K:aa) (a:Addr):It:=
 ⟨λi H=>Ex2 λ(xs:List V) (x:V)=>SqL K H a xs/\xs[i]? =some x,λi H v H'=>Ex2 λT x=>v= .ref T/\H T=none/\H'=upd H T (.tup [.int (i:Nat),x])/\∀xs,SqL K H a xs->xs[i]? =some x,λi H=>∃xs:List V,SqL K H a xs/\xs.length<=i⟩
theorem W2 {P:aw} {w:bv} {K:aa} {elts:List Expr} {kk:Nat} {tpos:Pos} (a e it:Addr):
 Turn P w K (.Tuple elts kk tpos) (Ite K a) [e,it] e (λi h=>(∃old,wq h e it ((i:Nat):Int) old)/\h.IsListIter it a i/\e≠it) where
 mem:=by simp
 obj:=λi h st b hb=>by
  obtain⟨⟨old,he⟩,⟨o,ho,hc,hd⟩,_⟩:=st;have e':b=e\/b=it:=by simpa using hb
  rcases e' with z|z
  ·rw[z];exact⟨_,he,λv q=>nomatch q⟩
  ·rw[z];exact⟨o,ho,λv q=>by rw[hd] at q;cases q⟩
 keep:=λi h h' st k=>let ⟨⟨old,he⟩,hi,hne⟩:=st;⟨⟨old,k e (by simp) _ he⟩,hi.at λo q=>k it (by simp) o q,hne⟩
 item:=by
  intro X hP hw hK hc i pins s σ H E I hf st hg;subst hP hw hK;obtain⟨⟨old,he⟩,hit,hne⟩:=st;obtain⟨xs,x,hq,hx⟩:=hg;obtain⟨its,rv,p,hz⟩:=I.list hq;obtain⟨u,hu,ru⟩:=rv.get hx;have hel:e<s.heap.objs.size:=bh he;have hil:it<s.heap.objs.size:=by obtain⟨_,q,_⟩:=hit;exact bh q
  refine wpAny_pyNext_enum_item he hit p.isList (x:=u) (by simpa using hu) hne λh' ho hit' hT hsz hk=>?_;refine⟨_,rfl,tX (s:={ s with heap:=h',toks:=s.toks+1 }) ho λh'' he' sb=>?_⟩;have hT2:h''.get? s.heap.objs.size=some { cls:=.type "tuple",data:=.seq #[.int i s.toks,u] }:=(sb.2 _ (pd hel)).trans hT;have new:ObjOk X.prog X.w (upd H s.heap.objs.size (.tup [.int (i:Nat),x])) h'' s.heap.objs.size (.tup [.int (i:Nat),x]):=
   ⟨by show 2<=sizeLine;decide,[.int i s.toks,u],.cons ⟨_,rfl⟩ (.cons ru .nil),⟨_,hT2,rfl,_,rfl⟩⟩
  have I1:Inv X pins σ (upd H s.heap.objs.size (.tup [.int (i:Nat),x])) { s with heap:=h'',toks:=s.toks+1 }:=
   I.turnedNew (ch:=[e,it]) (λb ob hb q=>(sb.2 b (λz=>hb (by simp[z]))).trans (hk b ob (λz=>hb (by simp[z])) (λz=>hb (by simp[z])) q)) hf (aq _) new
  refine⟨.ref s.heap.objs.size,_,I1,rfl,⟨_,x,rfl,I.hok.fresh (aq _),rfl,λys hy=>by rw[I.list_inj hy hq];exact hx⟩,⟨⟨u,?_⟩,hit'.at λo q=>(sb.2 it (cq hne)).trans q,hne⟩,λb hb=>?_⟩
  ·have e1:((i+1:Nat):Int)=(i:Int)+1:=by omega
   rw[e1];exact he'
  ·have hb':b<s.heap.objs.size:=by
    have e':b=e\/b=it:=by simpa using hb
    rcases e' with z|z
    ·rw[z];exact hel
    ·rw[z];exact hil
   rw[AE (cg hb')];exact(hf b hb).1
 done:=by
  intro X hP hw hK hc i pins s σ H E I hf st hg;subst hP hw hK;obtain⟨⟨old,he⟩,hit,hne⟩:=st;obtain⟨xs,hq,hx⟩:=hg;obtain⟨its,rv,p,hz⟩:=I.list hq;obtain⟨f0,f1,f2,f3,f4,f5⟩:=hf it (by simp);have hl:=rv.length;exact wpAny_pyNext_enum_end (I.ok.hd hc) he hit p.isList (by simp;omega) λh' eb=>⟨rfl,I.turned (t':=s.toks) (λb o hb q=>eb b o hb q) f0 f1 f3 f4 f5⟩
 self:=λA i s Q E st h=>let ⟨⟨_,he⟩,_⟩:=st;lj he h
def lZ (K:aa) (ta:TA):TI:=λσ H R=>ta σ H λvs H1=>Ex2 λa xs=>vs=[.ref a]/\SqL K H1 a xs/\R (Ite K a) H1
theorem PR {X:Cx} {e:Expr} {ta:TA} {p pos tpos:Pos} {elts:List Expr} {kk:Nat} (hg:Gl X "enumerate") (hm:X.mg "enumerate"=none) (ha:PA X [e] ta) (hs:bc [e] X.env=[(false,eval e X.env)]:=by rfl):
 PI X (.Tuple elts kk tpos) (.Call (.Name "enumerate" p) [e] [] pos) (lZ X.K ta):=by
 intro pins s σ H R I h;refine zc (EL I hg hm vH (cz (thn (ha pos pins s σ H _ I h) λus s1 ⟨vs,H1,I1,r1,q1⟩=>?_) hs rfl));obtain⟨a,xs,ex,hq,q⟩:=q1;subst ex;cases r1 with
 |cons r rr=>
  cases rr;cases r;obtain⟨its,rv,p',hz⟩:=I1.list hq;refine call_enumerate_list p'.isList λh' he hit hsz hk=>lj he ?_;have I2:Inv X pins σ H1 { s1 with heap:=h' }:=I1.kept (t':=s1.toks) hk;refine⟨s1.heap.objs.size+1,[s1.heap.objs.size+1,s1.heap.objs.size],_,_,H1,rfl,I2,W2 a (s1.heap.objs.size+1) s1.heap.objs.size,⟨⟨.none,he⟩,hit,uI _⟩,λb hb=>?_,q⟩;have e':b=s1.heap.objs.size+1\/b=s1.heap.objs.size:=by simpa using hb
  have hle:s1.heap.objs.size<=b:=by
   rcases e' with z|z
   ·rw[z];exact uJ _ _
   ·rw[z];exact aq _
  exact I1.fpOk hle (I1.hok.fresh hle)
end L2
section
end
section
namespace TL
open PySem PySem.Builtin PySem.Builtin.Str PySem.StrLaws
abbrev tl (x:Str):List Nat:=x.cps.toList
theorem hW (x:Str):x.length=(tl x).length:=by simp[tl,zW]
def pre (S l:List Nat):Bool:=l.take S.length==S
def par (S:List Nat):List Nat->List Nat->Option (List Nat×List Nat)
 |_,[]=>none
 |acc,c::r=>if pre S (c::r)=true then some (acc,(c::r).drop S.length) else par S (acc++[c]) r
theorem LU {S:List Nat} (hS:S≠[]):pre S []=false:=by
 cases S with
 |nil=>exact absurd rfl hS
 |cons s S=>rfl
theorem YX {y:Str} (hy:tl y≠[]):1<=y.length:=by
 have e2:0<(tl y).length:=v5.mpr hy;rw[hW y];exact e2
end TL
end
namespace L2
open PySem PySem.Spec PyProof.Rows
def BG (s:Stmt) (j:Nat):Stmt:=match s with
 | .ClassDef _ _ _ body _ _ _ _ _ _ _=>body.getD j (.Pass ⟨0,0,0,0⟩)
 |_=>.Pass ⟨0,0,0,0⟩
def DI (s:Stmt):Arguments:=match s with
 | .FunctionDef _ a _ _ _ _ _ _ _ _=>a
 |_=>{ posonlyargs:=[],args:=[],vararg:=none,kwonlyargs:=[],kw_defaults:=[],kwarg:=none,defaults:=[] }
def BR (s:Stmt):List Stmt:=match s with
 | .FunctionDef _ _ b _ _ _ _ _ _ _=>b
 |_=>[]
def AH (s:Stmt):Scope:=match s with
 | .FunctionDef _ _ _ _ _ _ sc _ _ _=>sc
 |_=>{ kind:=.function,names:=[],isGenerator:=false,isCoroutine:=false }
structure Fun (K:aa) (x qual:Str) (st:Stmt) (f:Addr) (fd:du):Prop where
 ex:∃(oc:ag) (od:Option Addr) (kV doc pm:ag) (an:Option Addr) (cdv ct:ag) (osl:Array (Option ag)),
  fd=gj x qual (DI st) (BR st) (AH st) .none kV doc pm an cdv ct/\K.lookup f=some ⟨oc,od,.func fd,osl⟩/\iw K cdv qual=true
 kp:dq K (.ref f)=true
section
variable {P:aw} {w:bv} {K:aa} {mg:Str->Option ag} {base:Heap}
theorem Fun.binds {x qual:Str} {st:Stmt} {f:Addr} {fd:du} {ps:List Str} (F:Fun K x qual st f fd)
 (h:∀(kV doc pm:ag) (an:Option Addr) (cdv ct:ag) (us:List ag),us.length=ps.length->vE (gj x qual (DI st) (BR st) (AH st) .none kV doc pm an cdv ct) ⟨us,[]⟩=pure (ps.zip us)):Binds K fd ps []:=by
 obtain⟨oc,od,kV,doc,pm,an,cdv,ct,osl,rfl,lk,hcd⟩:=F.ex;exact .all (h kV doc pm an cdv ct)
theorem MU {x qual:Str} {st:Stmt} {f:Addr} {oc:ag} {od an:Option Addr} {osl:Array (Option ag)} {kV doc pm cdv ct:ag} (l:K.lookup f=some ⟨oc,od,.func (gj x qual (DI st) (BR st) (AH st) .none kV doc pm an cdv ct),osl⟩)
 (c:iw K cdv qual=true) (k:dq K (.ref f)=true):Fun K x qual st f (gj x qual (DI st) (BR st) (AH st) .none kV doc pm an cdv ct):=⟨⟨oc,od,kV,doc,pm,an,cdv,ct,osl,rfl,l,c⟩,k⟩
end
theorem MV {A:cy} {k:Nat} (hr:Room k A):A.units+1<cLine:=tY (Nat.add_le_add_left (by decide:1<=64) _) hr.units
section
variable {X:Cx}
theorem pv (i:Nat) {x:Str} {pos:Pos} (hN:X.N[i]? =some x:=by rfl) (hv:Vis X.env.scope x:=by first|exact u7 rfl|exact zj (u7 rfl)|exact zj (zj rfl)) (hd:(x==("__debug__":Str))=false:=by decide)
 (hcd:(x==("__classdict__":Str))=false:=by decide):PE X (.Name x pos) (BO i):=gK hN hv hd hcd
end
theorem BJ {A B:Prop} (h:B):if false=true then A else B:=by
 rw[if_neg bu];exact h
theorem BS {A B:Prop} (h:A):if true=true then A else B:=by
 rw[if_pos rfl];exact h
theorem B7 {c A B:Prop} [Decidable c] (h1:c->A) (h2:¬c->B):if c then A else B:=by
 by_cases h:c
 ·rw[if_pos h];exact h1 h
 ·rw[if_neg h];exact h2 h
theorem l0 {c A B:Prop} [Decidable c] (hc:c) (h:B):if(!decide c)=true then A else B:=by
 rw[decide_eq_true hc];exact BJ h
def Same (H H':Hp):Prop:=∀b o,H b=some o->H' b=some o
theorem Same.refl (H:Hp):Same H H:=λ_ _ h=>h
theorem Same.trans {H H1 H2:Hp} (a:Same H H1) (b:Same H1 H2):Same H H2:=λc o h=>b c o (a c o h)
theorem Same.free {H H':Hp} (e:Same H H') {l:Addr} (h:H' l=vI):H l=vI:=by
 cases q:H l with
 |none=>rfl
 |some o=>
  rw[e l o q] at h;cases h
theorem Same.seq {K:aa} {H H':Hp} {a:Addr} {xs:List V} (e:Same H H') (h:SqL K H a xs):SqL K H' a xs:=by
 rcases h with(h|⟨o,h⟩)|h
 ·exact .inl (.inl (e _ _ h))
 ·exact .inl (.inr ⟨o,e _ _ h⟩)
 ·exact .inr h
theorem VE {xs:List V} {z:Int} {j:Nat} {v:V} (e:z=(j:Int)) (h:xs[j]? =some v):atI xs z=some v:=by
 rw[e];exact DH h
theorem l3 {α:Type} {l:List α} (hN:l.Nodup) {i j:Nat} {x:α} (a:l[i]? =some x) (b:l[j]? =some x):i=j:=by
 obtain⟨h1,e1⟩:=au.mp a;obtain⟨h2,e2⟩:=au.mp b;exact(wV hN).mp (e1.trans e2.symm)
theorem Same.made {H H1:Hp} {x dx C:Addr} (nx:H x=vI) (nd:H dx=vI) (k:∀b o,(upd (upd H dx (.own x)) x (.ins C dx [])) b=some o->b≠x->H1 b=some o):Same H H1:=λb o e=>
 k b o (by rw[AE (AG e nx),AE (AG e nd)];exact e) (AG e nx)
end L2
end
section
namespace L2
open PySem PySem.Spec PyProof.Rows
def cxV:Option Addr->ag
 |none=>.none
 |some b=>.ref b
def XoO (a C:Addr) (dict:Option Addr) (tb:ag) (cx:Option Addr):HO:=
 .ext λh=>∃vs:Array ag,h.get? a=some ⟨.ref C,dict,.fields vs,#[]⟩/\4<vs.size/\vs[1]? =some tb/\vs[2]? =some (cxV cx)
def XdO (d:Addr) (fs:List (Str×V)):HO:=
 .ext λh=>∃mA,h.Ns1 d mA/\(∀f,RelO (fs.lookup f) (mA f))/\ow mA (fs.map (·.1))/\fs.length<=1000
def TbO (T:Addr) (fl:ag):HO:=
 .ext λh=>Ex2 λ(o:Obj) (ts:Array ag)=>h.get? T=some o/\o.data= .fields ts/\ts[3]? =some fl
section
variable {P:aw} {w:bv} {H:Hp} {h:Heap} {a C d T:Addr} {dict cx:Option Addr} {tb fl:ag} {fs:List (Str×V)}
theorem YY {vs:Array ag} (e:h.get? a=some ⟨.ref C,dict,.fields vs,#[]⟩) (hs:4<vs.size) (h1:vs[1]? =some tb) (h2:vs[2]? =some (cxV cx)):ObjOk P w H h a (XoO a C dict tb cx):=
 ⟨⟨vs,e,hs,h1,h2⟩,⟨_,e⟩,λg1 g2 ⟨us,q,r⟩ k=>⟨us,k _ q,r⟩⟩
theorem fA {mA:Str->Option ag} (n:h.Ns1 d mA) (r:∀f,RelO (fs.lookup f) (mA f)) (wi:ow mA (fs.map (·.1))) (z:fs.length<=1000):ObjOk P w H h d (XdO d fs):=by
 obtain⟨o,es,ep,e,q⟩:=id n;refine⟨⟨mA,n,r,wi,z⟩,⟨o,e⟩,λg1 g2 ⟨mB,⟨o1,es1,ep1,e1,q1⟩,y⟩ k=>⟨mB,⟨o1,es1,ep1,k _ e1,q1⟩,y⟩⟩
theorem fB {o:Obj} {ts:Array ag} (e:h.get? T=some o) (hd:o.data= .fields ts) (h3:ts[3]? =some fl):ObjOk P w H h T (TbO T fl):=
 ⟨⟨o,ts,e,hd,h3⟩,⟨o,e⟩,λg1 g2 ⟨o1,ts1,e1,q1⟩ k=>⟨o1,ts1,k _ e1,q1⟩⟩
theorem CJ (ok:HOk P w H h) (e:H a=some (XoO a C dict tb cx)):∃vs:Array ag,h.get? a=some ⟨.ref C,dict,.fields vs,#[]⟩/\4<vs.size/\vs[1]? =some tb/\vs[2]? =some (cxV cx):=
 (ok a _ e).1
theorem YZ (ok:HOk P w H h) (e:H d=some (XdO d fs)):∃mA,h.Ns1 d mA/\(∀f,RelO (fs.lookup f) (mA f))/\ow mA (fs.map (·.1))/\fs.length<=1000:=
 (ok d _ e).1
theorem S4 (ok:HOk P w H h) (e:H T=some (TbO T fl)):Ex2 λ(o:Obj) (ts:Array ag)=>h.get? T=some o/\o.data= .fields ts/\ts[3]? =some fl:=
 (ok T _ e).1
end
structure XAt (H:Hp) (a C:Addr) (fs:List (Str×V)) (cx:Option Addr) (tb:ag):Prop where
 at_:∃d,d≠a/\H a=some (XoO a C (some d) tb cx)/\H d=some (XdO d fs)
def VF (H:Hp) (a C:Addr) (fs:List (Str×V)) (cx:Option Addr):Prop:=
 XAt H a C fs cx .none\/Ex2 λT d=>T≠a/\T≠d/\d≠a/\H a=some (XoO a C (some d) (.ref T) cx)/\H d=some (XdO d fs)/\H T=some (TbO T .none)
def Noted (H:Hp) (a C:Addr) (fs:List (Str×V)) (cx:Option Addr) (fl:ag):Prop:=
 Ex2 λT d=>T≠a/\T≠d/\d≠a/\H a=some (XoO a C (some d) (.ref T) cx)/\H d=some (XdO d fs)/\H T=some (TbO T fl)
theorem Noted.loose {H:Hp} {a C:Addr} {fs:List (Str×V)} {cx:Option Addr} (n:Noted H a C fs cx .none):VF H a C fs cx:=.inr n
section
variable {X:Cx} {pins:List (Addr×Obj)} {σ:St} {H:Hp} {s:ai} {a C d T:Addr} {dict cx:Option Addr} {tb fl:ag} {fs:List (Str×V)} {E:ag->ai->Prop} {A:cy}
theorem Inv.slots {h':Heap} (I:Inv X pins σ H s) (x:Heap.SlotsOnly (frs X.stack) s.heap h'):Inv X pins σ H { s with heap:=h' }:=by
 have hk:∀b o,H b=some o->b∉frs X.stack:=λb o e z=>by
  rw[I.stkFree b z] at e;cases e
 refine I.call (g':=s.gens) (d':=s.drawn) (t':=s.toks) (ch:=[]) ⟨λb o e _ hb _=>(x.2.1 b hb).trans e,λb o e _ _ _=>x.2.2 b o e,λ_ _ _ n _=>n,λb o e _=>let ⟨sl,q⟩:=x.2.2 b o e;⟨_,q⟩,λ_ _ e=>e,λ_ _ _ e=>e,λb ps e=>⟨#[],by rw[e];simp⟩⟩
  (λb o e=>(I.hok b o e).stay (λc u hc q=>?_) (λ_ q=>q) λ_ _ q=>q) I.bare (λ_ z=>nomatch z)
 rcases hc with rfl|hc
 ·exact(x.2.1 c (hk c o e)).trans q
 ·exact(x.2.1 c (hk c _ hc)).trans q
theorem JJ {vs:Array ag} {i:Nat} {v tb':ag} {cx':Option Addr} (I:Inv X pins σ H s) (e:H a=some (XoO a C dict tb cx)) (q:s.heap.get? a=some ⟨.ref C,dict,.fields vs,#[]⟩) (z:4<vs.size)
 (h1:(vs.setIfInBounds i v)[1]? =some tb') (h2:(vs.setIfInBounds i v)[2]? =some (cxV cx')):
 Inv X pins σ (upd H a (XoO a C dict tb' cx')) { s with heap:=s.heap.update a (nz (·.setIfInBounds i v)) }:=by
 have e2:(s.heap.update a (nz (·.setIfInBounds i v))).get? a=some ⟨.ref C,dict,.fields (vs.setIfInBounds i v),#[]⟩:=ip _ q rfl;exact I.write (x:=a) (e:=a) (t':=s.toks) (by rw[e];exact iz) (.inl rfl) (λb u hb r=>(jw _ _ (cq hb)).trans r) ⟨_,e2⟩
  (YY e2 (by rw[Array.size_setIfInBounds];exact z) h1 h2)
theorem RB {v:ag} {o:Obj} {ts:Array ag} (I:Inv X pins σ H s) (e:H T=some (TbO T fl)) (q:s.heap.get? T=some o) (hd:o.data= .fields ts) (h3:ts[3]? =some fl):
 Inv X pins σ (upd H T (TbO T v)) { s with heap:=s.heap.update T (nz (·.setIfInBounds 3 v)) }:=by
 have hz:3<ts.size:=(kl.mp h3).1;have hd':=ng hd (·.setIfInBounds 3 v);have e2:(s.heap.update T (nz (·.setIfInBounds 3 v))).get? T=some (o.mapFields (·.setIfInBounds 3 v)):=ip _ q (sI hd');exact I.write (x:=T) (e:=T) (t':=s.toks) (by rw[e];exact iz) (.inl rfl) (λb u hb r=>(jw _ _ (cq hb)).trans r) ⟨_,e2⟩
  (fB e2 hd' (by simp[hz]))
theorem E2 {fr:Option Addr} {Q:Unit->ai->Prop} (I:Inv X pins σ H s) (n:Noted H a C fs cx fl)
 (h:∀H' s',Inv X pins σ H' s'->Noted H' a C fs cx (fr.elim .none λf=>fv f)->Q () s'):be (bi X.prog X.w) A (uK (.ref a) fr) Q E s:=by
 obtain⟨T,d,n1,n2,n3,ea,ed,et⟩:=n;obtain⟨vs,q,z,h1,h2⟩:=CJ I.hok ea;obtain⟨o,ts,qt,hd,h3⟩:=S4 I.hok et;unfold uK;refine ae (ik q rfl h1 ?_);rw[if_pos (show(bz T != ij)=true from by simp)];refine je qt hd (kl.mp h3).1 (h _ _ (RB I et qt hd h3) ⟨T,d,n1,n2,n3,?_,?_,upd_same⟩)
 ·rw[AE (cq n1)];exact ea
 ·rw[AE (cq n2)];exact ed
theorem RD {L:Addr} {head:ag} {had:Bool} {Q:Unit->ai->Prop} (hst:X.stack=X.env::X.outer) (hf:X.env.frame=some L) (hfr:A.frames=some X.stack) (I:Inv X pins σ H s)
 (dn:d≠a) (ea:H a=some (XoO a C (some d) tb cx)) (ed:H d=some (XdO d fs))
 (h:∀H' s',Inv X pins σ H' s'->Noted H' a C fs cx (fv L)->Q () s'):
 be (bi X.prog X.w) A (do yh (.ref a) 1 (←v6 head (←frameOf X.env) .none (fv L) .none (←entryPlaceOf L had))) Q E s:=by
 have fun1:s.heap.FunFrames X.base (X.env::X.outer):=by rw[←hst];exact I.stack
 refine ae (wpAny_frameOf_fun (base:=X.base) (outer:=X.outer) (by rw[←hst];exact hfr) fun1 hf λh1 hs1=>?_);have I1:Inv X pins σ H { s with heap:=h1 }:=I.slots (by rw[hst];exact hs1);refine ae (wpAny_entryPlaceOf λpl hpl=>?_);unfold v6 newFields;refine ae (fw ?_ (hpl.sizeOk5 _ _ _ _ _));have et:∀t0:Obj,t0={ cls:=.type "traceback",dict:=none,data:=.fields ([head,.ref L,.none,fv L,.none]++(if pl.isEmpty then x8 6 ij else pl)).toArray }->(h1.push t0).get? h1.objs.size=some t0:=λt0 z=>by
  subst z;exact bf h1 rfl
 have I2:=I1.laid (a:=h1.objs.size) (o:=TbO h1.objs.size (fv L)) (t':=s.toks) (λb u q=>ak _ q) (aq _)
  (fB (et _ rfl) rfl (by first|(simp;done)|(rcases hpl with rfl|⟨_,_,_,_,_,_,_,rfl⟩<;>simp)))
 have nT:H h1.objs.size=none:=I1.hok.fresh (aq _);have na:h1.objs.size≠a:=cq (AG ea nT);have nd:h1.objs.size≠d:=cq (AG ed nT);have ea2:(upd H h1.objs.size (TbO h1.objs.size (fv L))) a=some (XoO a C (some d) tb cx):=by rw[AE (cq na)];exact ea
 obtain⟨vs,q,z,q1,q2⟩:=CJ I2.hok ea2;have hz1:1<vs.size:=mz (by decide) z;have I3:=JJ (i:=1) (v:=.ref h1.objs.size) (tb':=.ref h1.objs.size) (cx':=cx) I2 ea2 q z (by simp[hz1]) (by rw[fy (by decide)];exact q2);refine je q rfl hz1 (h _ _ I3 ⟨h1.objs.size,d,na,nd,dn,upd_same,?_,?_⟩)
 ·rw[AE dn,AE (cq nd)];exact ed
 ·rw[AE na,upd_same]
theorem PU {L:Addr} {Q:Unit->ai->Prop} (hst:X.stack=X.env::X.outer) (hf:X.env.frame=some L) (hfr:A.frames=some X.stack) (I:Inv X pins σ H s) (n:VF H a C fs cx)
 (h:∀H' s',Inv X pins σ H' s'->Noted H' a C fs cx (fv L)->Q () s'):be (bi X.prog X.w) A (uH (.ref a) X.env) Q E s:=by
 rcases n with⟨d,dn,ea,ed⟩|⟨T,d,n1,n2,n3,ea,ed,et⟩
 ·obtain⟨vs,q,z,h1,h2⟩:=CJ I.hok ea;unfold uH;simp only[hf];refine ae (ik q rfl h1 ?_);rw[if_neg (by decide)];exact RD hst hf hfr I dn ea ed h
 ·obtain⟨vs,q,z,h1,h2⟩:=CJ I.hok ea;obtain⟨o,ts,qt,hd,h3⟩:=S4 I.hok et;unfold uH;simp only[hf];refine ae (ik q rfl h1 ?_);rw[if_pos (show(bz T != ij)=true from by simp)];refine ae (ik qt hd h3 ?_);rw[if_neg (show¬((ij==fv L)=true) from by simp[fv])];refine ae (je qt hd (kl.mp h3).1 ?_);exact RD hst hf hfr (RB I et qt hd h3) n3 (by rw[AE (cq n1)];exact ea) (by rw[AE (cq n2)];exact ed) h
theorem IR {L:Addr} {Q:Unit->ai->Prop} (hf:X.env.frame=some L) (I:Inv X pins σ H s) (n:Noted H a C fs cx (fv L)) (h:Q () s):be (bi X.prog X.w) A (uH (.ref a) X.env) Q E s:=by
 obtain⟨T,d,n1,n2,n3,ea,ed,et⟩:=n;obtain⟨vs,q,z,h1,h2⟩:=CJ I.hok ea;obtain⟨o,ts,qt,hd,h3⟩:=S4 I.hok et;exact wpAny_noteFrame_inFlight hf q rfl h1 qt hd h3 h
theorem RF {L:Addr} {Q:Unit->ai->Prop} (hst:X.stack=X.env::X.outer) (hf:X.env.frame=some L) (hfr:A.frames=some X.stack) (I:Inv X pins σ H s) (n:VF H a C fs cx\/Noted H a C fs cx (fv L))
 (h:∀H' s',Inv X pins σ H' s'->Noted H' a C fs cx .none->Q () s'):be (bi X.prog X.w) A (leaving X.env (.ref a)) Q E s:=by
 unfold leaving;rcases n with n|n
 ·exact ae (PU hst hf hfr I n λH1 s1 I1 n1=>E2 I1 n1 h)
 ·exact ae (IR hf I n (E2 I n h))
end
def xH (fs:List (Str×V)):Hp:=λb=>if b=0 then some (.xd fs) else none
theorem Y0 {fs gs:List (Str×V)} (e:xH fs=xH gs):fs=gs:=by
 have q:=congrFun e 0;simp only[xH,if_true] at q;injection q with q;injection q
def CX1 (P:aw) (w:bv):CXT:=λouter H s E e s'=>Ex5 λa C fs cx H'=>e= .ref a/\s'.os=s.os/\uY s'.gens/\Un (frs outer) [] H H' s.heap s'.heap/\HOk P w H' s'.heap/\Noted H' a C fs cx .none/\E (.ref C) cx (xH fs)
def l4 (X:Cx) (H:Hp) (a C:Addr) (fs:List (Str×V)) (cx:Option Addr):Prop:=VF H a C fs cx\/∃L,X.env.frame=some L/\Noted H a C fs cx (fv L)
def Out (X:Cx) (E:XK):Prop:=∀(pins:List (Addr×Obj)) (σ:St) (H:Hp) (s:ai) (a C:Addr) (fs:List (Str×V)) (cx:Option Addr),Inv X pins σ H s->l4 X H a C fs cx->E (.ref C) cx (xH fs)->X.xe (.ref a) s
theorem Out.passes {X:Cx} {E:XK} (o:Out X E):D8 (CX1 X.prog X.w) X E:=by
 intro pins σ H s e s' I ⟨a,C,fs,cx,H',he,os,bare,un,hok,n,q⟩;subst he;exact o pins σ H' s' a C fs cx (I.call' os un hok bare (λ_ z=>nomatch z)) (.inl n.loose) q
theorem AD {P:aw} {w:bv} {K:aa} {mg:Str->Option ag} {base:Heap} {N:List Str} {qual:Str} {scope:Scope} {f:Addr} {cd:ag} {A:cy} {outer:List Env} {s:ai} {H:Hp} {E:XK}:
 Out (NZ (CX1 P w) P w K mg base N qual scope f cd A outer s H E) E:=by
 intro pins σ H1 s1 a C fs cx I n q;refine RF (C:=C) (fs:=fs) (cx:=cx) (L:=s.heap.objs.size) rfl rfl I.ok.frames I ?_ λH' s' I' n'=>?_
 ·rcases n with n|⟨L,e,n⟩
  ·exact .inl n
  ·have e':s.heap.objs.size=L:=cp e;subst e';exact .inr n
 ·exact⟨a,C,fs,cx,H',rfl,I'.os,I'.bare,I'.base,I'.hok,n',q⟩
end L2
end
section
namespace L2
open PySem PySem.Spec PyProof.Rows PySem.W
open Builtin Builtin.ObjectAttr
def JK:List ag->Bool
 | .ref _::r=>JK r
 |l=>l==[.type "ValueError",.type "Exception",.type "BaseException",.type "object"]
theorem MW (self:ag):∀{l:List ag},JK l=true->refuseLoop self "__setattr__" l=pure ():=by
 intro l;induction l with
 |nil=>intro e;cases e
 |cons c r ih=>
  intro e;cases c with
  |ref q=>rw[refuseLoop_ref];exact ih e
  |type n=>
   have q:(iy n::r)=[.type "ValueError",.type "Exception",.type "BaseException",.type "object"]:=eq_of_beq e;rw[q];exact PySem.F.store_ValueError.passes self
  |_=>exact absurd e (by intro z;exact nomatch (we (eq_of_beq z)).1)
theorem K2 {T:ag} (hT:[.type "ValueError",.type "Exception",.type "BaseException",.type "object"].contains T=true):∀{l:List ag},JK l=true->l.contains T=true:=by
 intro l;induction l with
 |nil=>intro e;cases e
 |cons c r ih=>
  intro e;cases c with
  |ref q=>rw[nj,ih e,wH]
  |type n=>
   have q:(iy n::r)=[.type "ValueError",.type "Exception",.type "BaseException",.type "object"]:=eq_of_beq e;rw[q];exact hT
  |_=>exact absurd e (by intro z;exact nomatch (we (eq_of_beq z)).1)
theorem MX:∀{l:List ag},JK l=true->l.isEmpty=false
 |[],e=>nomatch e
 |_::_,_=>rfl
structure XCls (K:Frag) (C:Addr):Prop where
 tail:(clsIn K C).any (λcd=>JK cd.mro)=true
 hd:hasDictIn K C=true
 sa:findIn K (.ref C) "__setattr__"=some (some (.builtin "object.__setattr__"))
 ga:findIn K (.ref C) "__getattribute__"=some (some (.builtin "BaseException.__getattribute__"))
 gn:findIn K (.ref C) "__getattr__"=some none
 cls:typeIn K (.ref C)=some (.type "type")
section
variable {prog:aw} {w:bv} {A:cy} {E:ag->ai->Prop} {s:ai} {K:Frag} {a C:Addr} {ox:Obj} {od:Option Obj} {name:Str} {v:ag}
theorem l6 {M:xx} {h:Heap} {T:ag} (X:K.In h) (c:XCls K C) (I:InstAt h a ox C od) (hT:[.type "ValueError",.type "Exception",.type "BaseException",.type "object"].contains T=true):
 Looks M h (yi (.ref a) T) true:=by
 obtain⟨cd,hc,ht⟩:=any_some c.tail;exact I.type.andThen (looks_mroIn X (by unfold mroIn;rw[hc,xg,if_neg (by rw[MX ht];decide),K2 hT ht]))
theorem Y1 {R:w8->ai->Prop} {tk:Tok} (X:K.In s.heap) (c:XCls K C) (I:InstAt s.heap a ox C od) (hn:findIn K (.ref C) name=some none)
 (h:be (bi prog w) A.in1 (storeInOwnDict (.ref a) (.ref C) (.str name tk) name v false)
  (λfin s'=>match fin with| .done f=>R (.ok f) s'| .again c'=>c'.quiet=true/\ml (bi prog w) A c' R s') (λe s'=>R (.error e) s') s):
 ml (bi prog w) A (.call (.builtin "object.__setattr__") ⟨[.ref a,.str name tk,v],[]⟩) R s:=by
 have SF:=PySem.F.store_object;obtain⟨cd,hc,ht⟩:=any_some c.tail;refine vJ SF.slot.plain SF.entry (@check_slot (bi prog w) _ _ s "object.__setattr__" "object" "__setattr__" (.ref a) [.str name tk,v] [] _ SF.kind SF.split (l6 X c I (by decide)) (SF.args (.ref a) (.str name tk) v) ?_);have hm:Looks (bi prog w) s.heap (mroOf (.ref C)) cd.mro:=(looks_clsIn X hc).andThen .now;rw[osa_eq,refuse_eq];refine ae (ae (I.type.here (ae (hm.here ?_))));rw[MW _ ht];refine am (ae (I.type.here (ae ((looks_findIn X hn).here (ae ?_)))));exact(show Looks (bi prog w) s.heap (storeTaker? none) none from .now).here h
theorem l7 {vs:Array ag} {Q:Unit->ai->Prop} (X:K.In s.heap) (c:XCls K C) (ha:s.heap.get? a=some ⟨.ref C,none,.fields vs,#[]⟩) (hn:findIn K (.ref C) name=some none)
 (h:∀h':Heap,h'.get? a=some ⟨.ref C,some s.heap.objs.size,.fields vs,#[]⟩->h'.Ns1 s.heap.objs.size (λy=>if y=name then some v else none)->(∀b o,b≠a->s.heap.get? b=some o->h'.get? b=some o)->
  Q () { s with heap:=h',toks:=s.toks+2 }):
 be (bi prog w) A (zi (.ref a) name v) Q E s:=by
 have I:InstAt s.heap a ⟨.ref C,none,.fields vs,#[]⟩ C none:=⟨ha,rfl,rfl,iz⟩
 refine set_plain X I c.sa (Y1 (s:={ s with toks:=s.toks+1 }) X c I hn ?_);obtain⟨cd,hc,hd'⟩:=any_some c.hd;unfold storeInOwnDict yj ownDictForStores instanceDict;refine ae (am (ae (ae (vD ha (ae (mw (s:={ s with toks:=s.toks+1 }) (looks_clsIn X hc) ?_))))));rw[hd'];simp only[Bool.not_true,fm,if_false,typeHasDict,Bool.or_self];have hxs:a≠s.heap.objs.size:=cg (bh ha);have ha1:(s.heap.push { cls:=.type "dict",data:=.dict #[] }).get? a=some ⟨.ref C,none,.fields vs,#[]⟩:=ak _ ha;refine ae (wpAny_alloc (ae (wpAny_update ha1 ?_)));have hgd:((s.heap.push { cls:=.type "dict",data:=.dict #[] }).update a λo=>{ o with dict:=some s.heap.objs.size }).get? s.heap.objs.size=some { cls:=.type "dict",data:=.dict #[] }:=
  (mm _ _ _ _ hxs.symm).trans (Heap.get?_push_at rfl rfl)
 have hga:((s.heap.push { cls:=.type "dict",data:=.dict #[] }).update a λo=>{ o with dict:=some s.heap.objs.size }).get? a=some ⟨.ref C,some s.heap.objs.size,.fields vs,#[]⟩:=ip _ ha1 rfl;have hnd:((s.heap.push { cls:=.type "dict",data:=.dict #[] }).update a λo=>{ o with dict:=some s.heap.objs.size }).Ns s.heap.objs.size (λ_=>none):=
  ⟨_,#[],_,hgd,rfl,λe he=>absurd he (by simp),λ_=>rfl⟩
 refine am ?_;show be _ _ (storeInDict s.heap.objs.size (.str name s.toks) name v) _ _ _;unfold storeInDict newKeyGuard;refine ae (am (ae (wC (wD hnd) λh' hn' hs=>?_)));obtain⟨oD,esD,epD,hoD,hdD,hcD⟩:=hn'.count (ul name v z7);refine ae (uE hoD (by rw[hdD];exact uF (cu hcD (by rw[cw,List.length_nil,bw];omega))) ?_);refine am (h h' ((hs.2 a hxs).trans hga) hn' λb o hb e=>?_);exact(hs.2 b (cg (bh e))).trans ((mm _ _ _ _ hb).trans (ak _ e))
theorem l8 {vs:Array ag} {d:Addr} {mA:Str->Option ag} {ns:List Str} {Q:Unit->ai->Prop} (X:K.In s.heap) (c:XCls K C) (ha:s.heap.get? a=some ⟨.ref C,some d,.fields vs,#[]⟩) (hm:s.heap.Ns1 d mA) (hda:d≠a)
 (hn:findIn K (.ref C) name=some none) (hw:ow mA ns) (hsz:ns.length<=sizeLine)
 (h:∀h':Heap,h'.Ns1 d (λy=>if y=name then some v else mA y)->oy d s.heap h'->Q () { s with heap:=h',toks:=s.toks+2 }):
 be (bi prog w) A (zi (.ref a) name v) Q E s:=by
 obtain⟨od,ho,_⟩:=J7 hm;have I:InstAt s.heap a ⟨.ref C,some d,.fields vs,#[]⟩ C (some od):=⟨ha,rfl,rfl,ho⟩
 refine set_plain X I c.sa (Y1 (s:={ s with toks:=s.toks+1 }) X c I hn ?_);obtain⟨cd,hc,hd'⟩:=any_some c.hd;unfold storeInOwnDict yj ownDictForStores instanceDict;refine ae (am (ae (ae (vD ha (ae (mw (s:={ s with toks:=s.toks+1 }) (looks_clsIn X hc) ?_))))));rw[hd'];refine am (a:=some d) ?_;show be _ _ (storeInDict d (.str name s.toks) name v) _ _ _;unfold storeInDict newKeyGuard;refine ae (am (ae (wC (s:={ s with toks:=s.toks+1 }) hm λh' hn2 hs2=>?_)));obtain⟨oD,esD,epD,hoD,hdD,hcD⟩:=hn2.count (ul name v hw);refine ae (uE hoD (by rw[hdD];exact uF (cu hcD (by rw[cw];omega))) ?_);exact am (h _ hn2 hs2)
theorem S5:(sQ "BaseException.__getattribute__"==sQ "object.__getattribute__")=false:=by decide +kernel
theorem W3:builtinKind "BaseException.__getattribute__"=some .slot:=by decide +kernel
theorem S6:splitId "BaseException.__getattribute__"=some ("BaseException","__getattribute__"):=by decide +kernel
theorem rW {vs:Array ag} {d:Addr} {mA:Str->Option ag} {expr:Bool} {Q:ag->ai->Prop} (X:K.In s.heap) (c:XCls K C) (ha:s.heap.get? a=some ⟨.ref C,some d,.fields vs,#[]⟩) (hm:s.heap.Ns1 d mA)
 (hn:findIn K (.ref C) name=some none) (hv:mA name=some v) (hh:handedIn v=true) (h:Q v { s with toks:=s.toks+1 }):
 be (bi prog w) A (zh (.ref a) name expr) Q E s:=by
 obtain⟨od,ho,hl⟩:=J7 hm;have I:InstAt s.heap a ⟨.ref C,some d,.fields vs,#[]⟩ C (some od):=⟨ha,rfl,rfl,ho⟩
 have hf:findObj K C (some od) name=some (.value v):=findObj_own c.hd hn rfl (by rw[hl,hv]);have hb:Looks (bi prog w) s.heap (hookBefore (.ref C)) none:=looks_hook X (by rw[if_pos (show zd (bz C)=true from rfl)];exact c.gn);refine ae (wpAny_mkText (ie (ae (I.type _ _ _ _ (λ_ _ e=>e) (ae (looks_findIn X c.ga _ _ _ _ (λ_ _ e=>e) ?_))))));dsimp only;rw[show(zd (bz C)&&sQ "BaseException.__getattribute__"==sQ "object.__getattribute__")=false from by rw[S5,vG],if_neg (by decide)];refine ae (hb _ _ _ _ (λ_ _ e=>e) (ae (ux (ie ?_))));unfold callGetattribute;rw[show(expr&&zd (sQ "BaseException.__getattribute__"))=false from vG _,if_neg (by decide)];unfold boundAndCalled;rw[uM.ga.bind];refine ae (am ?_);show be _ _ (call (.builtin "BaseException.__getattribute__") [.ref a,.str name s.toks]) _ _ _;refine sM ?_;refine vJ uM.ga.plain PySem.F.entry_bexc_ga ?_;refine @check_slot (bi prog w) _ _ { s with toks:=s.toks+1 } "BaseException.__getattribute__" "BaseException" "__getattribute__" (.ref a) [.str name s.toks] [] _ W3 S6 (l6 X c I (by decide)) (PySem.F.args_bexc_ga (.ref a) (.str name s.toks)) ?_;have L1:=looks_find (M:=bi prog w) X I hf;refine ae (am (ae (am (ae (mw (s:={ s with toks:=s.toks+1 }) I.type (ae (mw (s:={ s with toks:=s.toks+1 }) L1 ?_)))))));refine am ?_;show be _ _ (handedOut v) _ _ _;rw[handedOut_of hh];exact am h
end
end L2
end
section
namespace L2
open PySem PySem.Spec PyProof.Rows PySem.W
open Builtin Builtin.ObjectAttr
def G5 (K:Frag) (C:Addr):Bool:=match K.lookup C with
 |some ⟨.type "type",_,.cls cd,sl⟩=>(match cd.mro,sl.toList with
  | .ref C'::bm,[_,_,_,_,some (.builtin n),_]=>C'==C&&!cd.hasDel&&n=="ValueError.__new__"&&bm.contains (.type "ValueError")&&!(bm.contains (.type "AttributeError"))&&!(bm.contains (.type "NameError"))
  |_,_=>false)
 |_=>false
theorem W4 {K:Frag} {h:Heap} {C:Addr} (X:K.In h) (q:G5 K C=true):∃nm qn N bs bm hdct sn sub ab col dd k0 k1 k2 k3 k5,
 h.get? C=some (xz nm qn C N bs bm hdct sn sub ab col dd k0 k1 k2 k3 k5 "ValueError.__new__")/\bm.contains (.type "ValueError")=true/\bm.contains (.type "AttributeError")=false/\bm.contains (.type "NameError")=false:=by
 unfold G5 at q;split at q
 ·rename_i dd cd sl ho;split at q
  ·rename_i C' bm k0 k1 k2 k3 n k5 hm hs;simp only[kg,beq_iff_eq,Bool.not_eq_true'] at q;obtain⟨⟨⟨⟨⟨rfl,hdel⟩,rfl⟩,hb⟩,ha⟩,hn⟩:=q;obtain⟨nm,bs,mro,ns,qn,hd,sn,sub,ab,col,del⟩:=cd;dsimp only at hm hdel;subst hm hdel;have hsl:sl=#[k0,k1,k2,k3,some (.builtin "ValueError.__new__"),k5]:=by
    obtain⟨l⟩:=sl;simp only at hs;rw[hs]
   subst hsl;exact⟨nm,qn,ns,bs,bm,hd,sn,sub,ab,col,dd,k0,k1,k2,k3,k5,X _ _ ho,hb,ha,hn⟩
  ·cases q
 ·cases q
abbrev LC (C t:Addr):Obj:={ cls:=.ref C,data:=.fields #[.ref t,.none,.none,.none,.bool false,.none] }
abbrev GB (vs:List ag):Obj:={ cls:=.type "tuple",data:=.seq vs.toArray }
section
variable {prog:aw} {w:bv} {A:cy} {E:ag->ai->Prop} {h:Heap} {g:Array GenState} {dr:Drawn} {t:Nat} {os:OsState} {R:w8->ai->Prop}
variable {nm q:Str} {C N:Addr} {bs bm:List ag} {hdct:Bool} {sn:List Str} {sub:List ag} {ab:Bool} {col:Option Bool} {dd:Option Addr} {k0 k1 k2 k3 k5:Option ag} {rest:List ag}
theorem S7 {M:xx} {Q:Unit->ai->Prop} (hC:h.get? C=some (xz nm q C N bs bm hdct sn sub ab col dd k0 k1 k2 k3 k5 "ValueError.__new__")) (hB:bm.contains (.type "ValueError")=true)
 (hq:Q () ⟨h,g,dr,t,os⟩):be M A (xh "ValueError.__new__" ⟨.ref C::rest,[]⟩) Q E ⟨h,g,dr,t,os⟩:=by
 have F:=ot;have hcont:(bz C::bm).contains (.type "ValueError")=true:=by rw[nj,hB,wH]
 have hstar:=F.noStar;simp only[xh,F.newKind,F.newSplit,F.newRow];repeat (first|refine si hC ?_|(refine tH hC ?_;rw[hcont])|refine wpAny_staticBase_exc hC ?_|refine xj hC ?_|simp only[bne_self_eq_false,fm,if_false]|wp_step)
 exact hq
theorem Y2 (hC:h.get? C=some (xz nm q C N bs bm hdct sn sub ab col dd k0 k1 k2 k3 k5 "ValueError.__new__")) (hB:bm.contains (.type "ValueError")=true) (hA:bm.contains (.type "AttributeError")=false)
 (hN:bm.contains (.type "NameError")=false) (hrest:rest.length<=sizeLine)
 (hq:R (.ok (.ret (.ref (h.objs.size+1)))) ⟨(h.push (GB rest)).push (LC C h.objs.size),g,dr,t,os⟩):
 ml (bi prog w) A (.builtin "ValueError.__new__" ⟨.ref C::rest,[]⟩) R ⟨h,g,dr,t,os⟩:=by
 have F:=ot;have hends:=F.ends;have hcB:(bz C::bm).contains (.type "ValueError")=true:=by rw[nj,hB,wH]
 have hcA:(bz C::bm).contains (.type "AttributeError")=false:=by rw[nj,hA];rfl
 have hcN:(bz C::bm).contains (.type "NameError")=false:=by rw[nj,hN];rfl
 refine codeAny_builtinAt F.entry ?_;unfold um.«BaseException.__new__»;refine xG ?_;show PySem.wpAt _ _ _ (stack >>= _) _ _ _;refine xG (PySem.wpAt_stack λp below=>v7 ?_)
 wp_walk
 refine v7 ?_;rw[F.owner];repeat (first|with_reducible refine wpAny_madeHere_exc F.canon hC ?_|with_reducible refine si hC ?_|(with_reducible refine tH hC ?_;first|rw[hcB]|rw[hcA]|rw[hcN])|wp_step)
 show R _ _;rw[ff];exact hq
theorem S8 {K:Frag} {f:Addr} (X:K.In h) (hx:G5 K C=true) (hi:findIn K (.ref C) "__init__"=some (some (.ref f))) (hf:typeIn K (.ref f)=some (.type "function")) (hrest:rest.length<=sizeLine)
 (hq:ml (bi prog w) (A.under (.builtin "type.__call__" ⟨.ref C::rest,[]⟩)) (.call (.ref f) ⟨.ref (h.objs.size+1)::rest,[]⟩) (InitBack (h.objs.size+1) R)
  ⟨(h.push (GB rest)).push (LC C h.objs.size),g,dr,t,os⟩):
 ml (bi prog w) A (.call (.ref C) ⟨rest,[]⟩) R ⟨h,g,dr,t,os⟩:=by
 obtain⟨nm,q,N,bs,bm,hdct,sn,sub,ab,col,dd,k0,k1,k2,k3,k5,hC,hB,hA,hN⟩:=W4 X hx;have f1:=tc_lookup;have f2:=tc_bind (.ref C);have hT:(⟨h,g,dr,t,os⟩:ai).TypeIs (.ref C) "type":=⟨_,hC,rfl⟩
 refine codeAny_of_tree ?_;show be _ _ (callAny (.ref C) _) _ _ _;repeat (any_goals (first|assumption|with_reducible refine si hC ?_|wp_step))
 refine⟨rfl,?_⟩;refine codeAny_call_builtin_at (wr _ (by decide +kernel)) entry_typeCall (wpAny_check_type_call_sub hC ?_);unfold um.«type.__call__»;repeat (first|with_reducible refine si hC ?_|with_reducible refine xj hC ?_|wp_step)
 refine codeAny_call_builtin_code (wr _ ot.quiet) (S7 (rest:=rest) hC hB ?_);refine Y2 (rest:=rest) hC hB hA hN hrest ?_;show be _ _ _ _ _ _;have k:∀b o,h.get? b=some o->((h.push (GB rest)).push (LC C h.objs.size)).get? b=some o:=λb o e=>ak _ (ak _ e);have hC1:=k _ _ hC;have hg:((h.push (GB rest)).push (LC C h.objs.size)).get? (h.objs.size+1)=some (LC C h.objs.size):=by heap_get
 have hcC:(bz C::bm).contains (.ref C)=true:=by simp
 have i1:Looks (bi prog w) ((h.push (GB rest)).push (LC C h.objs.size)) (u5 (.ref C) "__init__") (some (.ref f)):=looks_findIn (X.keeps k) hi;have b1:Looks (bi prog w) ((h.push (GB rest)).push (LC C h.objs.size)) (bindSpecial (.ref f) (.ref (h.objs.size+1))) (.ref f,[.ref (h.objs.size+1)]):=bind_fn (X.keeps k) _ hf;have t1:Looks (bi prog w) ((h.push (GB rest)).push (LC C h.objs.size)) (yc (.ref (h.objs.size+1))) (.ref C):=(sO hg).andThen .now;have s1:Looks (bi prog w) ((h.push (GB rest)).push (LC C h.objs.size)) (isSubtype (.ref C) (.ref C)) true:=λA' Q' E' s' k' q'=>by
  obtain⟨h2,g2,d2,u2,o2⟩:=s';exact tH (k' _ _ hC1) (by rw[hcC];exact q')
 unfold yi callSpecial? specialOf;repeat (first|with_reducible refine sM ?_|lk)
 refine mx hq λr s' z=>?_;rcases r with e|(v|_|_|_)<;>first|exact z|exact z.elim|skip
 obtain⟨rfl,z⟩:=z;exact am (am z)
end
end L2
end
section
namespace L2
open PySem PySem.Spec PyProof.Rows
abbrev Cx.re (X:Cx) (A:cy) (calm:Bool) (E:ag->ai->Prop):Cx:={ X with A:=A,calm:=calm,xe:=E }
abbrev Cx.tr (X:Cx) (pn:List (Addr×Obj)) (E:ag->ai->Prop):Cx:={ X with pn:=pn,xe:=E }
theorem Cx.Ok.re {X:Cx} {A:cy} {calm:Bool} {E:ag->ai->Prop} (ok:X.Ok) (hf:A.frames=some X.stack) (hd:calm=true->A.handled=none):(X.re A calm E).Ok:=
 ⟨ok.mod,ok.kind,ok.glob,ok.blt,ok.above,ok.inj,ok.has,ok.cab,hd,hf,ok.stk,ok.exf,ok.bs,ok.bsz,ok.noex,ok.exfs,ok.funs,ok.frf⟩
theorem Cx.Ok.tr {X:Cx} {pn:List (Addr×Obj)} {E:ag->ai->Prop} (ok:X.Ok):(X.tr pn E).Ok:=
 ⟨ok.mod,ok.kind,ok.glob,ok.blt,ok.above,ok.inj,ok.has,ok.cab,ok.hd,ok.frames,ok.stk,ok.exf,ok.bs,ok.bsz,ok.noex,ok.exfs,ok.funs,ok.frf⟩
section
variable {X:Cx} {pins pn:List (Addr×Obj)} {σ:St} {H:Hp} {s:ai} {A:cy} {calm:Bool} {E:ag->ai->Prop}
theorem Inv.re (I:Inv X pins σ H s) (hf:A.frames=some X.stack) (hd:calm=true->A.handled=none):Inv (X.re A calm E) pins σ H s:=
 ⟨I.ok.re hf hd,I.os,I.bare,I.base,I.loc,I.cell,I.free,I.freeC,I.pin,I.hok,I.len⟩
theorem Inv.unre (ok:X.Ok) (I:Inv (X.re A calm E) pins σ H s):Inv X pins σ H s:=
 ⟨ok,I.os,I.bare,I.base,I.loc,I.cell,I.free,I.freeC,I.pin,I.hok,I.len⟩
theorem Inv.tr (I:Inv X pins σ H s):Inv (X.tr (X.pn++pins) E) [] σ H s:=
 ⟨I.ok.tr,I.os,I.bare,I.base,I.loc,I.cell,I.free,I.freeC,λp hp=>I.pin p (by rw[ju] at hp;exact hp),I.hok,I.len⟩
theorem Inv.untr {pins':List (Addr×Obj)} (ok:X.Ok) (I:Inv (X.tr (X.pn++pins) E) pins' σ H s):Inv X pins σ H s:=
 ⟨ok,I.os,I.bare,I.base,I.loc,I.cell,I.free,I.freeC,λp hp=>I.pin p (sR _ hp),I.hok,I.len⟩
theorem SP.unre {D:Ends} {f:Flow} {s':ai} (ok:X.Ok) (h:SP (X.re A calm E) pins D f s'):SP X pins D f s':=by
 cases f with
 |next=>obtain⟨σ',H',I,q⟩:=h;exact⟨σ',H',I.unre ok,q⟩
 |brk=>obtain⟨σ',H',I,q⟩:=h;exact⟨σ',H',I.unre ok,q⟩
 |cont=>obtain⟨σ',H',I,q⟩:=h;exact⟨σ',H',I.unre ok,q⟩
 |ret u=>obtain⟨v,σ',H',I,r,q⟩:=h;exact⟨v,σ',H',I.unre ok,r,q⟩
theorem SP.untr {D:Ends} {f:Flow} {s':ai} (ok:X.Ok) (h:SP (X.tr (X.pn++pins) E) [] D f s'):SP X pins D f s':=by
 cases f with
 |next=>obtain⟨σ',H',I,q⟩:=h;exact⟨σ',H',I.untr ok,q⟩
 |brk=>obtain⟨σ',H',I,q⟩:=h;exact⟨σ',H',I.untr ok,q⟩
 |cont=>obtain⟨σ',H',I,q⟩:=h;exact⟨σ',H',I.untr ok,q⟩
 |ret u=>obtain⟨v,σ',H',I,r,q⟩:=h;exact⟨v,σ',H',I.untr ok,r,q⟩
end
structure RoomU (k:Nat) (A:cy):Prop where
 dp:A.depth+3*k+5<recursionLimit
 un:A.units+16*k+200<cLine
theorem Room.u {k:Nat} {A:cy} (r:Room k A):RoomU k A:=⟨r.dp,r.un⟩
theorem RoomU.mono {j k:Nat} {A:cy} (r:RoomU k A) (h:j<=k):RoomU j A:=⟨by have:=r.dp;omega,by have:=r.un;omega⟩
theorem RoomU.mark {k:Nat} {A:cy} (r:RoomU k A) (e:Option ag):RoomU k (A.mark e):=⟨r.dp,r.un⟩
theorem RoomU.deeper {k:Nat} {A:cy} (r:RoomU (k+1) A) (env:Env):RoomU k (A.deeper env):=
 ⟨by have:=r.dp;show A.depth+1+3*k+5<_;omega,by have:=r.un;show A.units+3+16*k+200<_;omega⟩
theorem RoomU.make {k:Nat} {A:cy} (r:RoomU (k+1) A) (C:Addr) (us:List ag) (kw:List (Str×ag)):RoomU k (A.under (.builtin "type.__call__" ⟨.ref C::us,kw⟩)):=
 ⟨by have:=r.dp;rw[MM];omega,by have:=r.un;rw[MO];omega⟩
structure FnOkU (P:aw) (w:bv) (K:aa) (mg:Str->Option ag) (base:Heap) (CX:CXT) (k:Nat) (f:Addr) (fd:du) (ps:List Str) (sp:Sp):Prop where
 len:∀vs H Q E,sp vs H Q E->vs.length=ps.length
 run:∀(A:cy) (outer:List Env) (s:ai) (H:Hp) (args:Args) (us:List ag) (vs:List V) (Q:VK) (E:XK),RoomU k A->Env0 P w K mg base A outer s H->vY s fd args (ps.zip us)->Vals vs us->sp vs H Q E->
  ml (bi P w) A (.call (.ref f) args) (CR CX outer P w H s Q E) s
def RG (CX:CXT) (P:aw) (w:bv) (K:aa) (mg:Str->Option ag) (base:Heap) (N:List Str) (qual:Str) (scope:Scope) (f:Addr) (cd:ag) (A:cy) (outer:List Env) (s:ai) (H:Hp) (E:XK):Cx:=
 { NZ CX P w K mg base N qual scope f cd A outer s H E with calm:=false }
theorem iA {CX:CXT} {P:aw} {w:bv} {K:aa} {mg:Str->Option ag} {base:Heap} {k:Nat} {f:Addr} {name qual:Str} {params:Arguments} {body:List Stmt} {scope:Scope} {dV kV doc pm cdv ct oc:ag} {an od:Option Addr}
 {osl:Array (Option ag)} {N ps:List Str} {sp:Sp} (lk:K.lookup f=some ⟨oc,od,.func (gj name qual params body scope dV kV doc pm an cdv ct),osl⟩) (hcd:iw K cdv qual=true) (S:FnScope N ps scope)
 (len:∀vs H Q E,sp vs H Q E->vs.length=ps.length)
 (hbody:∀(A:cy) (outer:List Env) (s:ai) (H:Hp) (vs:List V) (Q:VK) (E:XK),RoomU k (A.deeper (tT qual scope s.heap.objs.size f cdv))->sp vs H Q E->
  ∃t,PSs (RG CX P w K mg base N qual scope f cdv A outer s H E) body t/\t { nx:=λ_ H'=>Q .non H',rt:=Q } (FL N vs) H):
 FnOkU P w K mg base CX (k+1) f (gj name qual params body scope dV kV doc pm an cdv ct) ps sp:=by
 refine⟨len,λA outer s H args us vs Q E hr e0 hb r hsp=>?_⟩;have hl:=len _ _ _ _ hsp;have KX:K.In s.heap:=e0.mod.kin.keeps λb o e=>(e0.bs b o e).1;have lim:s.heap.NoLimit:=e0.mod.nolimit.keeps λb o e=>(e0.bs b o e).1;have hkind:∀y∈ps.zip us,scope.names.lookup y.1=some .local\/(scope.names.lookup y.1=some .cell/\((ig (s.heap.objs.size+1) scope.names []).lookup y.1).isSome=true):=λ⟨n,v⟩ hy=>by
  rcases S.par n (qu hy).1 with q|q
  ·exact .inl q
  ·exact .inr ⟨q,rq _ _ _ (.inl q)⟩
 have hdp:A.depth<recursionLimit:=by have:=hr.dp;omega
 refine vt hdp (KX _ _ lk) rfl S.co S.gen rfl (wm KX hcd) (hb _ _ _ _ ?_);refine tV S.kind hkind λenv he s1 x=>?_;subst he;refine⟨lim.keeps x.toInCall.keep,codeAny_func ?_⟩;obtain⟨t,ht,hq⟩:=hbody A outer s H vs Q E (hr.deeper _) hsp;have e1:Env0 P w K mg base { A with handled:=none } outer s H:=⟨e0.frames,e0.mod,e0.bs,e0.bsz,e0.funs,e0.frf,e0.hok,e0.bare⟩
 have I0:Inv (NZ CX P w K mg base N qual scope f cdv { A with handled:=none } outer s H E) [] (FL N vs) H s1:=OH S rfl e1 hl r x;have I:Inv (RG CX P w K mg base N qual scope f cdv A outer s H E) [] (FL N vs) H s1:=
  ⟨⟨I0.ok.mod,I0.ok.kind,I0.ok.glob,I0.ok.blt,I0.ok.above,I0.ok.inj,I0.ok.has,I0.ok.cab,λz=>(bu z).elim,sV e0.frames,I0.ok.stk,I0.ok.exf,I0.ok.bs,I0.ok.bsz,I0.ok.noex,I0.ok.exfs,I0.ok.funs,I0.ok.frf⟩,
   I0.os,I0.bare,I0.base,I0.loc,I0.cell,I0.free,I0.freeC,I0.pin,I0.hok,I0.len⟩
 refine gg (ht [] s1 (FL N vs) H _ I hq) (λfl s' hs=>?_) λe s' hs=>hs;have fin:∀{σ':St} {H':Hp} {v:V} {u:ag},Inv (RG CX P w K mg base N qual scope f cdv A outer s H E) [] σ' H' s'->RelV v u->Q v H'->CE outer P w H s Q u s':=
  λ{σ' H' v u} J rv q=>⟨v,H',J.os,J.bare,J.base,J.hok,rv,q⟩
 cases fl with
 |ret u=>
  obtain⟨v,σ',H',J,rv,q⟩:=hs;exact fin J rv q
 |next=>
  obtain⟨σ',H',J,q⟩:=hs;exact fin (v:=V.non) (u:=ij) J rfl q
 |brk=>
  obtain⟨_,_,_,q⟩:=hs;exact eq q
 |cont=>
  obtain⟨_,_,_,q⟩:=hs;exact eq q
section
variable {X:Cx} {CX:CXT} {k:Nat} {f C:Addr} {fd:du} {ps:List Str} {sp:Sp} {E:XK} {x m fld:Str} {p pos apos pos':Pos} {e o value:Expr} {es:List Expr} {ta te tv:TE} {t:TA}
theorem c5 {pins:List (Addr×Obj)} {σ:St} {H:Hp} {s:ai} {Q:VK} {us:List ag} {vs:List V} (F:FnOkU X.prog X.w X.K X.mg X.base CX k f fd ps sp) (hr:RoomU k X.A) (hb:Binds X.K fd ps []) (hx:D8 CX X E)
 (I:Inv X pins σ H s) (r:Vals vs us) (h:sp vs H Q E):be (bi X.prog X.w) X.A (call (.ref f) us) (EP X pins σ Q) X.xe s:=by
 have hl:(us++[]).length=ps.length:=by rw[ju, ←r.length];exact F.len _ _ _ _ h
 have hb':=hb s us I.kIn hl;rw[ju] at hb';refine sM (mx (F.run X.A X.stack s H ⟨us,[]⟩ us vs Q E hr I.env0 hb' r h) λr s' hq=>?_);cases r with
 |error e=>exact hx pins σ H s e s' I hq
 |ok fl=>
  cases fl with
  |ret u=>exact I.after hq
  |next=>exact eq hq
  |brk=>exact eq hq
  |cont=>exact eq hq
structure XMk (K:aa) (C f:Addr):Prop where
 makes:G5 K C=true
 init:gy K (.ref C) "__init__"=some (some (.ref f))
 fn:pf K (.ref f)=true
 kp:dq K (.ref C)=true
def MY (C:Addr) (sp:Sp) (E:XK) (t:TA):TE:=λσ H Q=>t σ H λvs H1=>vs.length<=100/\∀a,H1 a=none->sp (.ref a::vs) (upd H1 a (XoO a C none .none none)) (λv H2=>v= .non/\Q (.ref a) H2) E
theorem OJ {pins:List (Addr×Obj)} {σ:St} {H:Hp} {s:ai} {Q:VK} {us:List ag} {vs:List V} (M:XMk X.K C f) (F:FnOkU X.prog X.w X.K X.mg X.base CX k f fd ps sp) (hr:RoomU (k+1) X.A) (hb:Binds X.K fd ps [])
 (hx:D8 CX X E) (I:Inv X pins σ H s) (r:Vals vs us) (hv:vs.length<=100)
 (h:∀a,H a=none->sp (.ref a::vs) (upd H a (XoO a C none .none none)) (λv H2=>v= .non/\Q (.ref a) H2) E):
 be (bi X.prog X.w) X.A (call (.ref C) us) (EP X pins σ Q) X.xe s:=by
 have hus:us.length<=sizeLine:=by rw[←r.length,bw];omega
 have hq:=h (s.heap.objs.size+1) (I.hok.fresh (sU _));obtain⟨hh,g,dr,tk,os⟩:=s;have e1:(hh.push (GB us)).get? hh.objs.size=some (GB us):=bf hh rfl;have e2:((hh.push (GB us)).push (LC C hh.objs.size)).get? (hh.objs.size+1)=some (LC C hh.objs.size):=by heap_get
 have I1:=I.kept (h':=hh.push (GB us)) (t':=tk) λb u q=>ak _ q;have I2:=I1.laid (a:=hh.objs.size+1) (o:=XoO (hh.objs.size+1) C none .none none) (h':=(hh.push (GB us)).push (LC C hh.objs.size)) (t':=tk) (λb u q=>ak _ q) (rn (ff _ _))
  (YY e2 (by simp) rfl rfl)
 have r2:Vals (V.ref (hh.objs.size+1)::vs) (bz (hh.objs.size+1)::us):=.cons rfl r;have hl:(bz (hh.objs.size+1)::us++[]).length=ps.length:=by
  rw[ju, ←r2.length];exact F.len _ _ _ _ hq
 have hb':=hb _ (bz (hh.objs.size+1)::us) I2.kIn hl;rw[ju] at hb';refine sM (S8 (f:=f) I.kIn M.makes M.init (beq_iff_eq.mp M.fn) hus (mx (F.run _ X.stack _ _ ⟨bz (hh.objs.size+1)::us,[]⟩ (bz (hh.objs.size+1)::us) _ _ E (hr.make C us [])
  (I2.env0.make C us []) hb' r2 hq) λr s' hq'=>?_))
 cases r with
 |error e=>exact hx pins σ _ _ e s' I2 hq'
 |ok fl=>
  cases fl with
  |ret u=>
   obtain⟨v,H',I3,rv,ev,q3⟩:=I2.after hq';subst ev;exact⟨rv,⟨V.ref (hh.objs.size+1),H',I3,rfl,q3⟩⟩
  |next=>exact eq hq'
  |brk=>exact eq hq'
  |cont=>exact eq hq'
theorem Y3 (M:XMk X.K C f) (F:FnOkU X.prog X.w X.K X.mg X.base CX k f fd ps sp) (hr:RoomU (k+1) X.A) (hg:Gl X x) (hm:X.mg x=some (.ref C)) (hb:Binds X.K fd ps []) (hx:D8 CX X E)
 (ha:PA X (e::es) t) (hdb:(x==("__debug__":Str))=false:=by decide) (he:bc (e::es) X.env=(false,eval e X.env)::bc es X.env:=by rfl) (hpl:(gr pos (bc es X.env)).any (·.1)=false:=by rfl):
 PE X (.Call (.Name x p) (e::es) [] pos) (MY C sp E t):=by
 intro pins s σ H Q I h;refine gh (EW I hg hm ?_ hdb);refine my (h₀:=X.base) I.ok.mod.kin M.kp (thn (ha pos pins s σ H _ I h) λus s1 ⟨vs,H1,I1,r,hv,q⟩=>⟨I1.kIn,?_⟩) he hpl;exact OJ M F hr hb hx I1 r hv q
theorem W5 (M:XMk X.K C f) (F:FnOkU X.prog X.w X.K X.mg X.base CX k f fd ps sp) (hr:RoomU (k+1) X.A) (hg:Gl X x) (hm:X.mg x=some (.ref C)) (hb:Binds X.K fd ps []) (hx:D8 CX X E)
 (hdb:(x==("__debug__":Str))=false:=by decide):PE X (.Call (.Name x p) [] [] pos) (MY C sp E EN):=by
 intro pins s σ H Q I h;refine gh (EW I hg hm ?_ hdb);exact tG I.kIn M.kp (OJ (us:=[]) M F hr hb hx I .nil (by simp) h.2)
theorem HV {mc:ag} {pl:Sem Bool} (hg:Gl X x) (hm:X.mg x=some (.ref C)) (hsp:uo X.K (.ref C) "__getattribute__"=some (some (.builtin "type.__getattribute__"))) (hr0:vk X.K C mc=true)
 (hfc:qv X.K (.ref C) mc m=some (.val (.ref f))) (hk:dq X.K (.ref f)=true)
 (F:FnOkU X.prog X.w X.K X.mg X.base CX k f fd ps sp) (hr:RoomU k X.A) (hb:Binds X.K fd ps []) (hx:D8 CX X E) (ha:PA X (e::es) t)
 (hdb:(x==("__debug__":Str))=false:=by decide) (hst:bc (e::es) X.env=(false,eval e X.env)::bc es X.env:=by rfl) (hpl:(gr pos (bc es X.env)).any (·.1)=false:=by rfl)
 (ht:eval (.Call (.Attribute (.Name x p) m apos) (e::es) [] pos) X.env=(do
  let ov←eval (.Name x p) X.env
  mj apos.atName
  let (f,first)←lg [ov] (kf ov m pl)
  mo pos f first (gr pos (bc (e::es) X.env)) (jm pos (ge [] X.env))):=by rfl):
 PE X (.Call (.Attribute (.Name x p) m apos) (e::es) [] pos) (KZ sp [] E t):=by
 intro pins s σ H Q I h;refine oe (pl:=pl) (EW I hg hm ?_ hdb) ht;refine PySem.W.method_cls I.kIn hsp (PySem.W.cls_value I.kIn hr0 hfc rfl ?_);refine my (first:=[]) (h₀:=X.base) I.ok.mod.kin hk (thn (ha pos pins _ σ H _ (I.tok _) h) λus s2 ⟨vs,H2,I2,r,q2⟩=>⟨I2.kIn,?_⟩) hst hpl;have q3:sp (vs++[]) H2 Q E:=q2;rw[ju] at q3;exact c5 F hr hb hx I2 r q3
def iB (K:aa) (ta tv:TE) (f:Str):TS:=λD σ H=>tv σ H λy H1=>ta σ H1 λx H2=>Ex4 λa C tb cx=>x= .ref a/\H2 a=some (XoO a C none tb cx)/\XCls K C/\NoAttr K C f/\
 ∀d,H2 d=none->d≠a->D.nx σ (upd (upd H2 d (XdO d [(f,y)])) a (XoO a C (some d) tb cx))
def l9 (K:aa) (ta tv:TE) (f:Str):TS:=λD σ H=>tv σ H λy H1=>ta σ H1 λx H2=>Ex6 λa C d fs tb cx=>x= .ref a/\H2 a=some (XoO a C (some d) tb cx)/\H2 d=some (XdO d fs)/\d≠a/\XCls K C/\NoAttr K C f/\
 fs.length<1000/\D.nx σ (upd H2 d (XdO d (FS f y fs)))
theorem RH (ha:PE X o ta) (hv:PE X value tv) (hs:pc value (some (.Attribute o fld pos')) pos.line X.env=pure false):PS X (.Assign [.Attribute o fld pos'] value pos) (iB X.K ta tv fld):=by
 intro pins s σ H D I h;refine mh (thn (hv pins s σ H _ I h) λu s1 ⟨y,H1,I1,ry,q⟩=>thn (ha pins s1 σ H1 _ I1 q) λov s2 ⟨x,H2,I2,rx,a,C,tb,cx,ex,ea,c,n,q2⟩=>?_) hs;subst ex;obtain rfl:ov=bz a:=rx;obtain⟨vs,ga,z,h1,h2⟩:=CJ I2.hok ea;have nd:H2 s2.heap.objs.size=none:=I2.hok.fresh (aq _);have na:s2.heap.objs.size≠a:=cq (cg (bh ga));refine l7 I2.kIn c ga n λh' e1 e2 kp=>⟨σ,_,?_,q2 s2.heap.objs.size nd na⟩
 obtain⟨od,es,ep,g1,g2⟩:=id e2;have fr:od.isFreed=false:=(Heap.get?_some_iff.mp g1).2;have p1:(s2.heap.push od).get? s2.heap.objs.size=some od:=bf s2.heap fr;have J1:=I2.laid (a:=s2.heap.objs.size) (o:=XdO s2.heap.objs.size [(fld,y)]) (h':=s2.heap.push od) (t':=s2.toks+2) (λb u q=>ak _ q) (aq _)
  (fA (mA:=λg=>if g=fld then some u else none) ⟨od,es,ep,p1,g2⟩ (λg=>?_) (λg hg=>?_) (by simp))
 ·refine J1.write (x:=a) (e:=a) (h':=h') (t':=s2.toks+2) (by rw[AE (cq na),ea];exact iz) (.inl rfl) (λb u hb r=>?_) ⟨_,e1⟩ (YY e1 z h1 h2);by_cases hbs:b=s2.heap.objs.size
  ·subst hbs;have r':(s2.heap.push od).get? s2.heap.objs.size=some u:=r;rw[p1] at r';cases r';exact g1
  ·have hlt:b<(s2.heap.push od).objs.size:=bh r;rw[ff] at hlt;have r':(s2.heap.push od).get? b=some u:=r;have e3:(s2.heap.push od).get? b=s2.heap.get? b:=uq _ _ _ (by omega);exact kp b u hb (e3.symm.trans r')
 ·show RelO (jb g [(fld,y)]) (if g=fld then some u else none);by_cases hgf:g=fld
  ·rw[if_pos hgf];have hb:(g==fld)=true:=beq_iff_eq.mpr hgf;simp only[jb,hb];exact ry
  ·rw[if_neg hgf];have hb:(g==fld)=false:=beq_eq_false_iff_ne.mpr hgf;simp only[jb,hb];exact iz
 ·by_cases hgf:g=fld
  ·rw[hgf];exact bb
  ·exact absurd (if_neg hgf) hg
theorem VG (ha:PE X o ta) (hv:PE X value tv) (hs:pc value (some (.Attribute o fld pos')) pos.line X.env=pure false):PS X (.Assign [.Attribute o fld pos'] value pos) (l9 X.K ta tv fld):=by
 intro pins s σ H D I h;refine mh (thn (hv pins s σ H _ I h) λu s1 ⟨y,H1,I1,ry,q⟩=>thn (ha pins s1 σ H1 _ I1 q) λov s2 ⟨x,H2,I2,rx,a,C,d,fs,tb,cx,ex,ea,ed,dn,c,n,hl,q2⟩=>?_) hs;subst ex;obtain rfl:ov=bz a:=rx;obtain⟨vs,ga,z,h1,h2⟩:=CJ I2.hok ea;obtain⟨mA,hm,r,wi,_⟩:=YZ I2.hok ed;have hz:(fs.map (·.1)).length<=sizeLine:=by rw[ah,bw];omega
 refine l8 I2.kIn c ga hm dn n wi hz λh' hn sb=>⟨σ,_,?_,q2⟩
 have hd:∃o,h'.get? d=some o:=let ⟨o,_,_,e',_⟩:=hn;⟨o,e'⟩;refine I2.write (x:=d) (e:=d) (h':=h') (t':=s2.toks+2) (by rw[ed];exact iz) (.inl rfl) (λb q hb z=>(sb.2 b hb).trans z) hd (fA hn (λg=>?_) (λg hg=>?_) ?_)
 ·show RelO ((FS fld y fs).lookup g) (if g=fld then some u else mA g);rw[G1];by_cases q:g=fld
  ·rw[if_pos q,if_pos q];exact ry
  ·rw[if_neg q,if_neg q];exact r g
 ·by_cases q:g=fld
  ·rw[q];exact(F8 fld y fs).1
  ·refine(F8 fld y fs).2 g (wi g λz=>hg ?_);show(if g=fld then some u else mA g)=none;rw[if_neg q];exact z
 ·have:=FK fld y fs;omega
def VH (K:aa) (ta:TE) (f:Str):TE:=λσ H Q=>ta σ H λx H1=>Ex7 λa C d fs tb cx v=>x= .ref a/\H1 a=some (XoO a C (some d) tb cx)/\H1 d=some (XdO d fs)/\XCls K C/\NoAttr K C f/\fs.lookup f=some v/\Q v H1
theorem c6 (he:PE X e ta) (hb:jl e fld X.env (eval e X.env)=eval e X.env):PE X (.Attribute e fld pos) (VH X.K ta fld):=by
 intro pins s σ H Q I h;refine U0 hb (thn (he pins s σ H _ I h) λu s1 ⟨x,H1,I1,rx,a,C,d,fs,tb,cx,v,ex,ea,ed,c,n,l,q⟩=>?_);subst ex;obtain rfl:u=bz a:=rx;obtain⟨vs,ga,z,h1,h2⟩:=CJ I1.hok ea;obtain⟨mA,hm,r,wi,_⟩:=YZ I1.hok ed;obtain⟨u,hu,ru⟩:=RelO.some_of (v:=v) (o:=mA fld) (by rw[←l];exact r fld);exact rW I1.kIn c ga hm n hu (OB ru) ⟨v,H1,I1.tok _,ru,q⟩
end
end L2
end
section
namespace L2
open PySem PySem.Spec PyProof.Rows
section
variable {X:Cx} {pins:List (Addr×Obj)} {σ:St} {H:Hp} {s:ai} {a C:Addr} {fs:List (Str×V)} {dict cx:Option Addr} {tb:ag} {A:cy} {E':ag->ai->Prop}
theorem MZ {M:xx} {h:Heap} {vs:Array ag} (ga:h.get? a=some ⟨.ref C,dict,.fields vs,#[]⟩):qi M h (isType (.ref a)) false:=λA' Q' E' s' k' q'=>by
 obtain⟨h2,g2,d2,u2,o2⟩:=s';exact PySem.ks_wpAny_isType_inst (k' _ _ ga) (by intro c z;cases z) q'
theorem K3 {complaint:String} {Q:ag->ai->Prop} (I:Inv X pins σ H s) (c:XCls X.K C) (ea:H a=some (XoO a C dict tb cx)) (h:Q (.ref a) s):be (bi X.prog X.w) A (excFromValue (.ref a) complaint) Q E' s:=by
 obtain⟨vs,ga,z,h1,h2⟩:=CJ I.hok ea;have I1:∃od,x3 s.heap a ⟨.ref C,dict,.fields vs,#[]⟩ C od\/True:=⟨none,.inr iz⟩
 have t1:qi (bi X.prog X.w) s.heap (yc (.ref a)) (.ref C):=(sO ga).andThen .now;obtain⟨cd,hc,ht⟩:=w6 c.tail;have s1:qi (bi X.prog X.w) s.heap (yi (.ref a) (.type "BaseException")) true:=
  t1.andThen (PySem.W.looks_mroIn I.kIn (by unfold PySem.W.mroIn;rw[hc,xg,if_neg (by rw[MX ht];decide),K2 (by decide) ht]))
 unfold excFromValue isExcClass;refine ae (ae ((MZ ga).here ?_));rw[if_neg bu];refine am ?_;rw[if_neg bu];refine ae (s1.here ?_);rw[if_pos rfl];exact am h
theorem RJ {Q:ag->ai->Prop} (I:Inv X pins σ H s) (c:XCls X.K C) (ea:H a=some (XoO a C dict tb cx)) (h:Q (.ref a) s):be (bi X.prog X.w) A (yk (.ref a)) Q E' s:=by
 obtain⟨vs,ga,z,h1,h2⟩:=CJ I.hok ea;have t1:qi (bi X.prog X.w) s.heap (yc (.ref a)) (.ref C):=(sO ga).andThen .now;unfold yk;refine ae (t1.here (ae ((PySem.W.looks_typeIn I.kIn c.cls).here ?_)));rw[if_pos (by decide)];exact am h
end
section
variable {X:Cx} {E:XK} {e:Expr} {te:TE} {pos cpos:Pos} {j:Nat}
def Y4 (K:aa) (E:XK) (te:TE):TS:=λ_ σ H=>te σ H λx H1=>Ex3 λa C fs=>x= .ref a/\XAt H1 a C fs none .none/\XCls K C/\E (.ref C) none (xH fs)
theorem G6 (o:Out X E) (hc:X.calm=true) (he:PE X e te):PS X (.Raise (some e) none pos) (Y4 X.K E te):=by
 intro pins s σ H D I h;rw[yl];refine ae (jk ?_);unfold raiseStmt;refine ae (ae (thn (he pins s σ H _ I h) λu s1 ⟨x,H1,I1,rx,a,C,fs,ex,xa,c,q⟩=>ae (jk (am ?_))));subst ex;obtain rfl:u=bz a:=rx;obtain⟨d,dn,ea,ed⟩:=xa.at_;obtain⟨vs,ga,z,h1,h2⟩:=CJ I1.hok ea;refine ae (am (ae (ie (K3 I1 c ea ?_))));refine ae ((MZ ga).here ?_);rw[if_neg bu];refine ae (RJ I1 c ea ?_);unfold uK;refine ae (ae (ik ga rfl h1 ?_));rw[if_neg (by decide)];refine am (wpAny_raiseNew_none (I1.ok.hd hc) ?_);exact o pins σ H1 s1 a C fs none I1 (.inl (.inl xa)) q
theorem N1:entryFor table "proto.unchain"=some um.«proto.unchain»:=entryFor_of_tree (by kernel_rfl)
def S9 (K:aa) (E:XK) (b:Addr) (te:TE):TS:=λ_ σ H=>te σ H λx H1=>Ex3 λa C fs=>x= .ref a/\XAt H1 a C fs none .none/\XCls K C/\a≠b/\(Ex3 λCb db tbb=>H1 b=some (XoO b Cb db tbb none))/\E (.ref C) (some b) (xH fs)
theorem JL {b:Addr} (o:Out X E) (hh:X.A.handled=some (.ref b)) (he:PE X e te):PS X (.Raise (some e) (some (.Constant .none j cpos)) pos) (S9 X.K E b te):=by
 intro pins s σ H D I h;rw[yl];refine ae (jk ?_);unfold raiseStmt;refine ae (ae (thn (he pins s σ H _ I h) λu s1 ⟨x,H1,I1,rx,a,C,fs,ex,xa,c,nab,⟨Cb,db,tbb,eb⟩,q⟩=>ae (jk (am ?_))));subst ex;obtain rfl:u=bz a:=rx;obtain⟨d,dn,ea,ed⟩:=xa.at_;obtain⟨vs,ga,z,h1,h2⟩:=CJ I1.hok ea;refine ae (ie (ae (Constant_none (ae (jk (am (ae (am ?_))))))));refine ae (ie (K3 I1 c ea ?_));refine ae (am ?_);have z3:3<vs.size:=mz (by decide) z;have J1:=JJ (i:=3) (v:=.none) (tb':=.none) (cx':=none) I1 ea ga z (by rw[fy (by decide)];exact h1) (by rw[fy (by decide)];exact h2);refine ae (je ga rfl z3 ?_);obtain⟨vs2,ga2,z2,h12,h22⟩:=CJ J1.hok upd_same;have J2:=JJ (i:=4) (v:=.bool true) (tb':=.none) (cx':=none) J1 upd_same ga2 z2 (by rw[fy (by decide)];exact h12) (by rw[fy (by decide)];exact h22);refine ae (je ga2 rfl z2 ?_);obtain⟨vs3,ga3,z3',h13,h23⟩:=CJ J2.hok upd_same;refine ae ((MZ ga3).here ?_);rw[if_neg bu];refine ae (RJ J2 c upd_same ?_);unfold uK;refine ae (ae (ik ga3 rfl h13 ?_));rw[if_neg (by decide)];refine am ?_;unfold raiseNew;refine ae (wf ?_);rw[hh];dsimp only;rw[if_pos (show(bz b != bz a)=true from by simp[bne,cq nab])];have eb2:(upd (upd H1 a (XoO a C (some d) .none none)) a (XoO a C (some d) .none none)) b=some (XoO b Cb db tbb none):=by rw[AE (cq nab),AE (cq nab)];exact eb
 obtain⟨vb,gb,zb,hb1,hb2⟩:=CJ J2.hok eb2;refine ae (ie (wpAny_runValue (codeAny_builtin N1 ?_)));unfold um.«proto.unchain»;refine ae (ik gb rfl hb2 ?_);rw[if_pos (by decide)];refine ae (am (am ?_));have J3:=JJ (i:=2) (v:=.ref b) (tb':=.none) (cx':=some b) J2 upd_same ga3 z3' (by rw[fy (by decide)];exact h13) (by simp only[cxV];rw[Array.getElem?_setIfInBounds_self_of_lt (mz (by decide) z3')]);refine ae ?_;show be _ _ (yh (.ref a) 2 (.ref b)) _ _ _;refine je ga3 rfl (mz (by decide) z3') ?_;refine xA ?_;refine o pins σ _ _ a C fs (some b) J3 (.inl (.inl ⟨d,dn,upd_same,?_⟩)) q;rw[AE dn,AE dn,AE dn];exact ed
end
abbrev TH:=Addr->Addr->List (Str×V)->Option Addr->TS
def PH (X:Cx) (hs:List ExceptHandler) (t:TH):Prop:=
 ∀(pins:List (Addr×Obj)) (s:ai) (σ:St) (H:Hp) (D:Ends) (a C:Addr) (fs:List (Str×V)) (cx:Option Addr),Inv X pins σ H s->Noted H a C fs cx .none->t a C fs cx D σ H->
  be (bi X.prog X.w) X.A (handleBy (.ref a) X.env hs) (SP X pins D) X.xe s
abbrev Cx.hd (X:Cx) (a:Addr):Cx:=X.re (X.A.mark (some (.ref a))) false (vZ (bi X.prog X.w) (X.A.mark (some (.ref a))) X.env (cameBackBy (bi X.prog X.w) X.A X.env X.xe))
theorem Inv.hd {X:Cx} {pins:List (Addr×Obj)} {σ:St} {H:Hp} {s:ai} {a:Addr} (I:Inv X pins σ H s):Inv (X.hd a) pins σ H s:=I.re I.ok.frames λz=>(bu z).elim
theorem Out.hd {X:Cx} {E:XK} {b L:Addr} (o:Out X E) (ok:X.Ok) (hst:X.stack=X.env::X.outer) (hf:X.env.frame=some L):Out (X.hd b) E:=by
 intro pins σ H s a C fs cx I n q;have fin:∀H1 s1,Inv (X.hd b) pins σ H1 s1->Noted H1 a C fs cx (fv L)->cameBackBy (bi X.prog X.w) X.A X.env X.xe (.ref a) s1:=λH1 s1 I1 n1=>by
  obtain⟨T,d,n1',n2,n3,ea,ed,et⟩:=id n1;obtain⟨vs,ga,z,h1,h2⟩:=CJ I1.hok ea;refine ae (ik ga rfl h1 ?_);rw[if_neg (show¬((bz T==ij)=true) from by simp)];refine E2 (X:=X) (I1.unre ok) n1 λH2 s2 I2 n2=>?_;exact o pins σ H2 s2 a C fs cx I2 (.inr ⟨L,hf,by rw[hf] at n2;exact n2⟩) q
 rcases n with n|⟨L',e,n⟩
 ·exact PU (X:=X.hd b) (L:=L) hst hf I.ok.frames I n fin
 ·have e':L=L':=cp (hf.symm.trans e);subst e';exact IR (X:=X.hd b) hf I n (fin H s I n)
section
variable {X:Cx} {x n:Str} {Ch:Addr} {np pos:Pos} {b0:Stmt} {suite:List Stmt} {rest:List ExceptHandler} {tb:Addr->TS} {tr:TH}
def fC (K:aa) (Ch:Addr) (tb:Addr->TS) (tr:TH):TH:=λa C fs cx D σ H=>∃b,mr K (.ref C) (.ref Ch)=some b/\(b=true->∀H',Noted H' a C fs cx .none->tb a D σ H')/\(b=false->tr a C fs cx D σ H)
theorem TC:PH X [] (λ_ _ _ _=>gL):=λ_ _ _ _ _ _ _ _ _ _ _ h=>h.elim
theorem c7 (hg:Gl X x) (hm:X.mg x=some (.ref Ch)) (hs:∀a,PSs (X.hd a) (b0::suite) (tb a)) (hr:PH X rest tr) (hd:(x==("__debug__":Str))=false:=by decide):
 PH X (.ExceptHandler (some (.Name x np)) none (b0::suite) pos::rest) (fC X.K Ch tb tr):=by
 intro pins s σ H D a C fs cx I n ⟨b,hx,h1,h2⟩;obtain⟨T,d,n1',n2,n3,ea,ed,et⟩:=id n;obtain⟨vs,ga,z,q1,q2⟩:=CJ I.hok ea;have t1:qi (bi X.prog X.w) s.heap (yc (.ref a)) (.ref C):=(sO ga).andThen .now;refine v8 (vv (EW (X:=X.hd a) I.hd hg hm ?_ hd)) (by intro q;cases q);refine(xI I.kIn t1 hx).here ?_;cases b with
 |false=>exact hr pins s σ H D a C fs cx I n (h2 rfl)
 |true=>
  refine codeAny_handlers_suite (E2 (X:=X.hd a) I.hd n λH1 s1 I1 n1=>?_);exact gg (hs a pins s1 σ H1 D I1 (h1 rfl H1 n1)) (λf s2 q=>SP.unre I.ok q) λ_ _ q=>q
def VI (K:aa) (Ch:Addr) (i:Nat) (tb:Addr->TS) (tr:TH):TH:=λa C fs cx D σ H=>∃b,mr K (.ref C) (.ref Ch)=some b/\
 (b=true->∀H',Noted H' a C fs cx .none->tb a { nx:=λ_ _=>False,rt:=D.rt } (σ.set i (some (.ref a))) H')/\(b=false->tr a C fs cx D σ H)
theorem W6 {i:Nat} (hg:Gl X x) (hm:X.mg x=some (.ref Ch)) (hN:X.N.Nodup) (hi:X.N[i]? =some n) (hl:X.env.scope.names.lookup n=some .local) (hs:∀a E,PSs ((X.hd a).wish E) (b0::suite) (tb a)) (hr:PH X rest tr)
 (hd:(x==("__debug__":Str))=false:=by decide):
 PH X (.ExceptHandler (some (.Name x np)) (some n) (b0::suite) pos::rest) (VI X.K Ch i tb tr):=by
 intro pins s σ H D a C fs cx I n ⟨b,hx,h1,h2⟩;obtain⟨T,d,n1',n2,n3,ea,ed,et⟩:=id n;obtain⟨vs,ga,z,q1,q2⟩:=CJ I.hok ea;have t1:qi (bi X.prog X.w) s.heap (yc (.ref a)) (.ref C):=(sO ga).andThen .now;refine v8 (vv (EW (X:=X.hd a) I.hd hg hm ?_ hd)) (by intro q;cases q);refine(xI I.kIn t1 hx).here ?_;cases b with
 |false=>exact hr pins s σ H D a C fs cx I n (h2 rfl)
 |true=>
  refine codeAny_handlers_suite_as (E2 (X:=X.hd a) I.hd n λH1 s1 I1 n1=>?_);refine JG (X:=X.hd a) I1 hN hi (.inl hl) (v:=.ref a) rfl (λs2 I2=>?_) (.inr hl);refine gg (hs a _ pins s2 _ H1 { nx:=λ_ _=>False,rt:=D.rt } (I2.wish _) (h1 rfl H1 n1)) (λf s3 q=>?_) λ_ _ q=>q;cases f with
  |next=>obtain⟨_,_,_,q⟩:=q;exact q.elim
  |brk=>obtain⟨_,_,_,q⟩:=q;exact q.elim
  |cont=>obtain⟨_,_,_,q⟩:=q;exact q.elim
  |ret u=>
   obtain⟨v,σ',H',I3,rv,q⟩:=q;have I4:Inv X pins σ' H' s3:=(Inv.unwish I3).unre I.ok;obtain⟨m,hn,_⟩:=id I4.loc;refine wpAny_nameGoes hl hn (by rw[I4.ok.kind];rfl) λh' m' hn' sb=>?_;refine⟨v,σ'.map λ_=>none,H',?_,rv,q⟩;have I5:Inv X pins (σ'.map λ_=>none) H' s3:=I4.weak (by simp) λj w e=>by
    rw[az] at e;cases q:σ'[j]? with
    |none=>rw[q] at e;cases e
    |some _=>rw[q] at e;cases e
   have neL:∀b,(∃o,X.s_0.heap.get? b=some o)->b≠X.env.locals:=λb ⟨o,e⟩=>cg (br (bh e) I5.ok.above);have nH:∀b o,H' b=some o->b≠X.env.locals:=λb o e z=>by rw[z,I5.free] at e;cases e
   refine⟨I5.ok,I5.os,I5.bare,⟨λb o e n hb hx=>?_,λb o e n hb hx=>?_,I5.base.free,λb o e hx=>?_,I5.base.tups,I5.base.frzs,I5.base.tbls⟩,⟨m',hn',λj y w e1 e2 e3=>?_⟩,λy c e=>?_,I5.free,I5.freeC,λp hp=>?_,λb o e=>?_,I5.len⟩
   ·exact(sb.2 b (neL b ⟨o,e⟩)).trans (I5.base.keep b o e n hb hx)
   ·obtain⟨sl,e1⟩:=I5.base.slot b o e n hb hx;exact⟨sl,(sb.2 b (neL b ⟨o,e⟩)).trans e1⟩
   ·obtain⟨o',e1⟩:=I5.base.there b o e hx;exact⟨o',(sb.2 b (neL b ⟨o,e⟩)).trans e1⟩
   ·rw[az] at e2;cases q:σ'[j]? with
    |none=>rw[q] at e2;cases e2
    |some _=>rw[q] at e2;cases e2
   ·obtain⟨w,hw⟩:=I5.cell y c e;exact⟨w,hw.sameBut sb (I5.cne y c e)⟩
   ·obtain⟨e,n,ne,nf,d⟩:=I5.pin p hp;exact⟨(sb.2 p.1 ne).trans e,n,ne,nf,d⟩
   ·refine(I5.hok b o e).stay (λc u hc q=>(sb.2 c ?_).trans q) (λ_ q=>q) λ_ _ q=>q;rcases hc with rfl|hc
    ·exact nH c o e
    ·exact nH c _ hc
def rX (X:Cx) (Eb:XK) (t:TS) (th:TH):TS:=λD σ H=>t D σ H/\∀a C fs cx σ' H',Noted H' a C fs cx .none->Eb (.ref C) cx (xH fs)->σ'.length=X.N.length->th a C fs cx D σ' H'
theorem TD {Eb:XK} {L:Addr} {body:List Stmt} {h0:ExceptHandler} {hs:List ExceptHandler} {t:TS} {th:TH} (hst:X.stack=X.env::X.outer) (hf:X.env.frame=some L)
 (hb:∀(pn:List (Addr×Obj)) (E':ag->ai->Prop),Out (X.tr pn E') Eb->PSs (X.tr pn E') body t) (hh:PH X (h0::hs) th):PS X (.Try body (h0::hs) [] [] pos) (rX X Eb t th):=by
 intro pins s σ H D I ⟨h,hth⟩;rw[arm_exec_Try];refine ae (jk (wpAny_tryStmt_except ?_));have o:Out (X.tr (X.pn++pins) (λe s1=>be (bi X.prog X.w) X.A (uH e X.env) (λ_ s2=>be (bi X.prog X.w) X.A (uK e none) (λ_ s3=>be (bi X.prog X.w) X.A (handleBy e X.env (h0::hs)) (SP X pins D) X.xe s3) X.xe s2) X.xe s1)) Eb:=by
  intro pins' σ' H' s' a C fs cx I' n q;have I1:Inv X pins σ' H' s':=I'.untr I.ok;have fin:∀H1 s1,Inv X pins σ' H1 s1->Noted H1 a C fs cx (fv L)->be (bi X.prog X.w) X.A (uK (.ref a) none) (λ_ s3=>be (bi X.prog X.w) X.A (handleBy (.ref a) X.env (h0::hs)) (SP X pins D) X.xe s3) X.xe s1:=
   λH1 s1 J1 m1=>E2 J1 m1 λH2 s2 J2 m2=>hh pins s2 σ' H2 D a C fs cx J2 m2 (hth a C fs cx σ' H2 m2 q J2.len)
  rcases n with n|⟨L',e,n⟩
  ·exact PU hst hf I1.ok.frames I1 n fin
  ·have e':L=L':=cp (hf.symm.trans e);subst e';exact IR hf I1 n (fin H' s' I1 n)
 refine gg (hb _ _ o [] s σ H D I.tr h) (λf s1 q=>?_) λ_ _ q=>q;have q':SP X pins D f s1:=SP.untr I.ok q;cases f with
 |next=>exact qm q'
 |ret u=>exact q'
 |brk=>exact q'
 |cont=>exact q'
end
end L2
end
section
namespace L2
open PySem PySem.Spec PyProof.Rows
section
variable {prog:aw} {w:bv} {A:cy} {E:ag->ai->Prop} {s:ai}
theorem LD {it l:Addr} {i:Nat} {items:Array ag} {x:ag} {Q:ag->ai->Prop} (hit:s.heap.IsTupleIter it l i) (hl:s.heap.IsTuple l items) (hx:items[i]? =some x)
 (hQ:∀h',h'.IsTupleIter it l (i+1)->oy it s.heap h'->Q x { s with heap:=h' }):be (bi prog w) A (kx (.ref it)) Q E s:=by
 obtain⟨o,ho,hc,hd⟩:=id hit;obtain⟨ol,hol,_,nl,hdl⟩:=hl;unfold kx;refine ae (jp (name:=li "__next__") hit.typeIs km (mq km hit.typeIs tK ?_ (tm _)));show be _ _ (field (.ref it) 0 >>= _) _ _ s;refine ae (ik ho hd (x:=.ref l) rfl ?_);show be _ _ (if(bz l==ij)=true then _ else _) _ _ s;rw[if_neg (show¬((bz l==ij)=true) from bu)];show be _ _ (field (.ref it) 1 >>= _) _ _ s;refine ae (ik ho hd (x:=.int i 0) rfl ?_);show be _ _ (seqItems? (.ref l) >>= _) _ _ s;refine ae (vK hol hdl ?_);simp only[jq,hx];refine ae (je ho hd (by simp) (am ⟨x,rfl,am (hQ _ ?_ (qc ..))⟩));exact⟨_,ip _ ho (sI (ng hd _)),(wI ..).trans hc,by rw[ng hd];simp[fv]⟩
theorem M0 {it l:Addr} {i:Nat} {items:Array ag} {Q:ag->ai->Prop} (hh:A.handled=none) (hit:s.heap.IsTupleIter it l i) (hl:s.heap.IsTuple l items) (hx:items[i]? =none)
 (hE:∀h' e,zD it s.heap h'->(∃o,h'.get? e=some o/\o.cls= .type "StopIteration")->E (.ref e) { s with heap:=h' }):be (bi prog w) A (kx (.ref it)) Q E s:=by
 obtain⟨o,ho,hc,hd⟩:=id hit;obtain⟨ol,hol,_,nl,hdl⟩:=hl;unfold kx;refine ae (jp (name:=li "__next__") hit.typeIs km (mq km hit.typeIs tK ?_ (tm _)));show be _ _ (field (.ref it) 0 >>= _) _ _ s;refine ae (ik ho hd (x:=.ref l) rfl ?_);show be _ _ (if(bz l==ij)=true then _ else _) _ _ s;rw[if_neg (show¬((bz l==ij)=true) from bu)];show be _ _ (field (.ref it) 1 >>= _) _ _ s;refine ae (ik ho hd (x:=.int i 0) rfl ?_);show be _ _ (seqItems? (.ref l) >>= _) _ _ s;refine ae (vK hol hdl ?_);simp only[jq,hx];refine ae (wpAny_rule (ae (je ho hd (by simp) ?_)));show be _ _ (newExc (.type "StopIteration") [] >>= _) _ _ _;refine ae ?_;simp only[newExc,newTuple];refine ae (fw ?_ (by size_fits));refine ae (m:=tZ _ _) (wpAny_of_eq (a:=ij) (by first|rfl|(simp only[tZ];rfl)) ?_);refine fw ?_ (by size_fits);simp only[raiseNew];refine ae (wf ?_);first|rw[show A.in1.handled=none from hh]|rw[hh]
 refine ae (am (xA ?_));exact hE _ _ (((qc ..).extBut.push _).push _) ⟨_,bf _ rfl,rfl⟩
theorem RK (hh:A.handled=none) (it l:Addr) (hne:l≠it) (items:Array ag):
 Draws prog w A it [it,l] items.size (λi v=>items[i]? =some v) (λi h=>h.IsTupleIter it l i/\h.IsTuple l items) where
 live:=λ_ _ st=>let ⟨o,ho,_⟩:=st.1;⟨o,ho⟩
 frame:=λ_ _ _ st hk=>⟨st.1.at λo e=>hk it (by simp) o e,let ⟨o,e,r⟩:=st.2;⟨o,hk l (by simp) o e,r⟩⟩
 item:=λi s Q E hi st hQ=>by
  refine LD st.1 st.2 (x:=items[i]) (by simp[hi]) λh' hit' hs'=>?_;exact hQ _ h' s.toks (by simp[hi]) ⟨hit',let ⟨o,e,r⟩:=st.2;⟨o,(hs'.2 l hne).trans e,r⟩⟩ hs'
 done:=λs Q E st hE=>M0 hh st.1 st.2 (by simp) hE
theorem W7 (l:Addr) (items:Array ag) (n:Nat) (dct:Option Addr) (sl:Array (Option ag)):
 Meets (um.«enumerate.__new__» ⟨[.type "enumerate",.ref l],[]⟩) (λ_ R s=>s.heap.get? l=some { cls:=.type "tuple",dict:=dct,data:=.seq items n,slots:=sl }/\
  R (.ok (.ret (.ref (s.heap.push { cls:=.type "tuple_iterator",data:=.fields #[.ref l,.int 0 0] }).objs.size)))
   { s with heap:=(s.heap.push { cls:=.type "tuple_iterator",data:=.fields #[.ref l,.int 0 0] }).push { cls:=.type "enumerate",data:=.fields #[.none,.bool false,.ref s.heap.objs.size,fv 0,.none,.none] } }):=
 .of_wp λprog w A R s h=>by
  obtain⟨hp,g,d,tk,os⟩:=s;obtain⟨hl,h⟩:=h;have hsub:=sub_enumerate;have hL:Heap.IsTuple (Shared.heap ⟨hp,g,d,tk,os⟩) l items:=⟨_,hl,rfl,n,rfl⟩
  wp_walk using md hl
  refine wpAny_stack_any λst=>am ?_;split
  ·rename_i c _ _ _ _ _;cases (c==iy "enumerate")
   ·wp_walk using md hl,qx hL
    exact⟨_,rfl,h⟩
   ·wp_walk using md hl,qx hL
    exact⟨_,rfl,h⟩
  ·wp_walk using md hl,qx hL
   exact⟨_,rfl,h⟩
theorem TF {l:Addr} {items:Array ag} {Q:ag->ai->Prop} (hL:s.heap.IsTuple l items)
 (h:∀h',wq h' (s.heap.objs.size+1) s.heap.objs.size 0 .none->h'.IsTupleIter s.heap.objs.size l 0->h'.objs.size=s.heap.objs.size+2->
  (∀b o,s.heap.get? b=some o->h'.get? b=some o)->Q (.ref (s.heap.objs.size+1)) { s with heap:=h' }):
 be (bi prog w) A (call (.type "enumerate") [.ref l]) Q E s:=by
 obtain⟨⟨c,dct,dt,sl⟩,hl,hc,n,hd⟩:=hL;replace hc:c= .type "tuple":=hc;replace hd:dt= .seq items n:=hd;subst hc hd;refine callType_new F.called_enumerate (by decide) (F.typeCall_enumerate_1 _) (F.newCall_enumerate_1 _) (λobj=>F.args_object_init_2 obj _) F.entry_enumerate_new (W7 l items n dct sl) ⟨hl,?_⟩;have hz:(s.heap.push { cls:=.type "tuple_iterator",data:=.fields #[.ref l,.int 0 0] }).objs.size=s.heap.objs.size+1:=ff ..;show _/\_;rw[hz];have he:wq ((s.heap.push { cls:=.type "tuple_iterator",data:=.fields #[.ref l,.int 0 0] }).push
  { cls:=.type "enumerate",data:=.fields #[.none,.bool false,.ref s.heap.objs.size,fv 0,.none,.none] }) (s.heap.objs.size+1) s.heap.objs.size 0 .none:=by
  have:=bf (s.heap.push { cls:=.type "tuple_iterator",data:=.fields #[.ref l,.int 0 0] })
   (o:={ cls:=.type "enumerate",data:=.fields #[.none,.bool false,.ref s.heap.objs.size,fv 0,.none,.none] }) rfl
  rw[hz] at this;exact this
 refine⟨⟨_,he,rfl⟩,h _ he ⟨_,ak _ (bf _ rfl),rfl,rfl⟩ (by rw[ff,hz]) λb o x=>ak _ (ak _ x)⟩
end
theorem OL {X:Cx} {pins:List (Addr×Obj)} {s:ai} {σ:St} {H:Hp} {E:ag->ai->Prop} {e it:Addr} {fpD:List Addr} {n i:Nat} {Pd:Nat->ag->Prop} {St':Nat->Heap->Prop} {x:V} {elts:List Expr} {kk:Nat} {tpos:Pos}
 (I:Inv X pins σ H s) (hf:∀b∈[e,it],LB X pins H b) (D:Draws X.prog X.w X.A.in1 it fpD n Pd St') (he:∃old,wq s.heap e it ((i:Nat):Int) old) (hst:St' i s.heap) (hlt:i<n) (hne:e≠it) (hef:e∉fpD) (hP:∀u,Pd i u->RelV x u):
 be (bi X.prog X.w) X.A (wk (.ref e)) (λr s1=>∃u,r=some u/\be (bi X.prog X.w) X.A (qo (.Tuple elts kk tpos) (.ref e) u) (λ_ s2=>∃T,u= .ref T/\Inv X pins σ (upd H T (.tup [.int (i:Nat),x])) s2/\H T=none/\
  (∃old,wq s2.heap e it ((i+1:Nat):Int) old)/\St' (i+1) s2.heap/\∀b∈[e,it],(upd H T (.tup [.int (i:Nat),x])) b=none) E s1) E s:=by
 obtain⟨old,he⟩:=he;have hel:e<s.heap.objs.size:=bh he;have hil:it<s.heap.objs.size:=by obtain⟨_,q⟩:=D.live _ _ hst;exact bh q
 refine wpAny_pyNext_enum_itemD D he hst hlt hne hef λu h' tk hPu ho hst' hT hsz hk=>?_;refine⟨_,rfl,tX (s:={ s with heap:=h',toks:=tk+1 }) ho λh'' he' sb=>?_⟩;have hT2:h''.get? s.heap.objs.size=some { cls:=.type "tuple",data:=.seq #[.int i tk,u] }:=(sb.2 _ (pd hel)).trans hT;have new:ObjOk X.prog X.w (upd H s.heap.objs.size (.tup [.int (i:Nat),x])) h'' s.heap.objs.size (.tup [.int (i:Nat),x]):=
  ⟨by show 2<=sizeLine;decide,[.int i tk,u],.cons ⟨_,rfl⟩ (.cons (hP u hPu) .nil),⟨_,hT2,rfl,_,rfl⟩⟩
 have I1:Inv X pins σ (upd H s.heap.objs.size (.tup [.int (i:Nat),x])) { s with heap:=h'',toks:=tk+1 }:=
  I.turnedNew (ch:=[e,it]) (λb ob hb q=>(sb.2 b (λz=>hb (by simp[z]))).trans (hk b ob (λz=>hb (by simp[z])) (λz=>hb (by simp[z])) q)) hf (aq _) new
 refine⟨_,rfl,I1,I.hok.fresh (aq _),⟨u,?_⟩,D.frame _ _ _ hst' λb hb o q=>(sb.2 b λz=>hef (z▸hb)).trans q,λb hb=>?_⟩
 ·have e1:((i+1:Nat):Int)=(i:Int)+1:=by omega
  rw[e1];exact he'
 ·have hb':b<s.heap.objs.size:=by
   have e':b=e\/b=it:=by simpa using hb
   rcases e' with z|z
   ·rw[z];exact hel
   ·rw[z];exact hil
  rw[AE (cg hb')];exact(hf b hb).1
def mC (x:Str):It:=⟨λi _=>i<x.cps.size,λi H v H'=>Ex2 λT c=>v= .ref T/\H T=none/\x.cps[i]? =some c/\H'=upd H T (.tup [.int (i:Nat),.str ⟨#[c]⟩]),λi _=>i=x.cps.size⟩
theorem RL {prog:aw} {w:bv} {A:cy} (hh:A.handled=none) (it:Addr) (x:Str) (t:Tok):
 Draws prog w A it [it] x.cps.size (λi v=>∃c u,x.cps[i]? =some c/\v= .str ⟨#[c]⟩ u) (λi h=>h.IsStrIter it (sW x) x t i):=by
 cases ha:x.cps.all (·<128)
 ·have e:sW x="str_iterator":=by simp[sW,ha]
  rw[e];exact Draws.strWide hh it x t
 ·have e:sW x="str_ascii_iterator":=by simp[sW,ha]
  rw[e];exact Draws.strAscii hh it x t
theorem TJ {P:aw} {w:bv} {K:aa} {elts:List Expr} {kk:Nat} {tpos:Pos} (x:Str) (t:Tok) (e it:Addr):
 Turn P w K (.Tuple elts kk tpos) (mC x) [e,it] e (λi h=>(∃old,wq h e it ((i:Nat):Int) old)/\h.IsStrIter it (sW x) x t i/\e≠it) where
 mem:=by simp
 obj:=λi h st b hb=>by
  obtain⟨⟨old,he⟩,⟨o,ho,hc,hd⟩,_⟩:=st;have e':b=e\/b=it:=by simpa using hb
  rcases e' with z|z
  ·rw[z];exact⟨_,he,λv q=>nomatch q⟩
  ·rw[z];exact⟨o,ho,λv q=>by rw[hd] at q;cases q⟩
 keep:=λi h h' st k=>let ⟨⟨old,he⟩,⟨o,ho,r⟩,hne⟩:=st;⟨⟨old,k e (by simp) _ he⟩,⟨o,k it (by simp) o ho,r⟩,hne⟩
 item:=by
  intro X hP hw hK hc i pins s σ H E I hf st hg;subst hP hw hK;obtain⟨he,hit,hne⟩:=st;have hg':i<x.cps.size:=hg;have hx:x.cps[i]? =some x.cps[i]:=by simp[hg']
  have D:=RL (prog:=X.prog) (w:=X.w) (A:=X.A.in1) (I.ok.hd hc) it x t;refine thn (OL (x:=.str ⟨#[x.cps[i]]⟩) I hf D he hit hg' hne (by simpa using hne) λu ⟨c,tk,q,z⟩=>?_) λr s1 ⟨u,er,h1⟩=>⟨u,er,thn h1 λ_ s2 ⟨T,eu,J,nT,he',hst',fr⟩=>?_⟩
  ·rw[hx] at q;cases q;exact⟨tk,z⟩
  ·subst eu;exact⟨.ref T,_,J,rfl,⟨T,_,rfl,nT,hx,rfl⟩,⟨he',hst',hne⟩,fr⟩
 done:=by
  intro X hP hw hK hc i pins s σ H E I hf st hg;subst hP hw hK;obtain⟨⟨old,he⟩,hit,hne⟩:=st;obtain⟨f0,f1,f2,f3,f4,f5⟩:=hf it (by simp);have hge:i=x.cps.size:=hg;subst hge;have D:=RL (prog:=X.prog) (w:=X.w) (A:=X.A.in1) (I.ok.hd hc) it x t;exact u9 D he hit λh' eb=>⟨rfl,I.turned (t':=s.toks) (λb o hb q=>eb b o hb q) f0 f1 f3 f4 f5⟩
 self:=λA i s Q E st h=>let ⟨⟨_,he⟩,_⟩:=st;lj he h
def iC (ta:TA):TI:=λσ H R=>ta σ H λvs H1=>∃x,vs=[.str x]/\R (mC x) H1
theorem Y5 {X:Cx} {e:Expr} {ta:TA} {p pos tpos:Pos} {elts:List Expr} {kk:Nat} (hg:Gl X "enumerate") (hm:X.mg "enumerate"=none) (ha:PA X [e] ta) (hs:bc [e] X.env=[(false,eval e X.env)]:=by rfl):
 PI X (.Tuple elts kk tpos) (.Call (.Name "enumerate" p) [e] [] pos) (iC ta):=by
 intro pins s σ H R I h;refine zc (EL I hg hm vH (cz (thn (ha pos pins s σ H _ I h) λus s1 ⟨vs,H1,I1,r1,q1⟩=>?_) hs rfl));obtain⟨x,ex,q⟩:=q1;subst ex;cases r1 with
 |cons r rr=>
  cases rr;obtain⟨t,rfl⟩:=r;refine call_enumerate_str λh' he hit hsz hk=>lj he ?_;have I2:Inv X pins σ H1 { s1 with heap:=h' }:=I1.kept (t':=s1.toks) hk;refine⟨s1.heap.objs.size+1,[s1.heap.objs.size+1,s1.heap.objs.size],_,_,H1,rfl,I2,TJ x t (s1.heap.objs.size+1) s1.heap.objs.size,⟨⟨.none,he⟩,hit,uI _⟩,λb hb=>?_,q⟩;have e':b=s1.heap.objs.size+1\/b=s1.heap.objs.size:=by simpa using hb
  have hle:s1.heap.objs.size<=b:=by
   rcases e' with z|z
   ·rw[z];exact uJ _ _
   ·rw[z];exact aq _
  exact I1.fpOk hle (I1.hok.fresh hle)
def mD (K:aa) (a:Addr):It:=⟨λi H=>Ex2 λ(xs:List V) (x:V)=>SqT K H a xs/\xs[i]? =some x,λi H v H'=>Ex2 λT x=>v= .ref T/\H T=none/\H'=upd H T (.tup [.int (i:Nat),x])/\∀xs,SqT K H a xs->xs[i]? =some x,λi H=>∃xs:List V,SqT K H a xs/\xs.length=i⟩
theorem TK {P:aw} {w:bv} {K:aa} {elts:List Expr} {kk:Nat} {tpos:Pos} (a e it:Addr):
 Turn P w K (.Tuple elts kk tpos) (mD K a) [e,it] e (λi h=>(∃old,wq h e it ((i:Nat):Int) old)/\h.IsTupleIter it a i/\e≠it) where
 mem:=by simp
 obj:=λi h st b hb=>by
  obtain⟨⟨old,he⟩,⟨o,ho,hc,hd⟩,_⟩:=st;have e':b=e\/b=it:=by simpa using hb
  rcases e' with z|z
  ·rw[z];exact⟨_,he,λv q=>nomatch q⟩
  ·rw[z];exact⟨o,ho,λv q=>by rw[hd] at q;cases q⟩
 keep:=λi h h' st k=>let ⟨⟨old,he⟩,hi,hne⟩:=st;⟨⟨old,k e (by simp) _ he⟩,hi.at λo q=>k it (by simp) o q,hne⟩
 item:=by
  intro X hP hw hK hc i pins s σ H E I hf st hg;subst hP hw hK;obtain⟨he,hit,hne⟩:=st;obtain⟨xs,x,hq,hx⟩:=hg;obtain⟨its,rv,p,hz⟩:=I.tuple hq;obtain⟨u,hu,ru⟩:=rv.get hx;have hai:a≠it:=by
   rintro rfl;obtain⟨o,e1,c1,_⟩:=p;obtain⟨o2,e2,c2,_⟩:=hit;rw[e1] at e2;cases e2;rw[c1] at c2;exact absurd c2 (by decide)
  have hea:e≠a:=by
   rintro rfl;obtain⟨old,he⟩:=he;obtain⟨o,e1,c1,_⟩:=p;have he':=he;unfold wq at he';rw[e1] at he';cases he';exact absurd (show iy "enumerate"=iy "tuple" from c1) (by decide)
  have D:=RK (prog:=X.prog) (w:=X.w) (A:=X.A.in1) (I.ok.hd hc) it a hai its.toArray;have hi:i<its.toArray.size:=by
   have:=(au.mp hu).1;simpa using this
  refine thn (OL (x:=x) I hf D he ⟨hit,p⟩ hi hne (by simp[hne,hea]) λu' q=>?_) λr s1 ⟨u',er,h1⟩=>⟨u',er,thn h1 λ_ s2 ⟨T,eu,J,nT,he',hst',fr⟩=>?_⟩
  ·have q':its[i]? =some u':=by simpa using q
   rw[hu] at q';cases q';exact ru
  ·subst eu;exact⟨.ref T,_,J,rfl,⟨T,x,rfl,nT,rfl,λys hy=>by rw[I.tuple_inj hy hq];exact hx⟩,⟨he',hst'.1,hne⟩,fr⟩
 done:=by
  intro X hP hw hK hc i pins s σ H E I hf st hg;subst hP hw hK;obtain⟨⟨old,he⟩,hit,hne⟩:=st;obtain⟨xs,hq,hx⟩:=hg;obtain⟨its,rv,p,hz⟩:=I.tuple hq;obtain⟨f0,f1,f2,f3,f4,f5⟩:=hf it (by simp);have hai:a≠it:=by
   rintro rfl;obtain⟨o,e1,c1,_⟩:=p;obtain⟨o2,e2,c2,_⟩:=hit;rw[e1] at e2;cases e2;rw[c1] at c2;exact absurd c2 (by decide)
  have D:=RK (prog:=X.prog) (w:=X.w) (A:=X.A.in1) (I.ok.hd hc) it a hai its.toArray;have hn:its.toArray.size=i:=by rw[bg, ←rv.length];exact hx
  exact u9 D he ⟨by rw[hn];exact hit,p⟩ λh' eb=>⟨rfl,I.turned (t':=s.toks) (λb o hb q=>eb b o hb q) f0 f1 f3 f4 f5⟩
 self:=λA i s Q E st h=>let ⟨⟨_,he⟩,_⟩:=st;lj he h
def iD (K:aa) (ta:TA):TI:=λσ H R=>ta σ H λvs H1=>Ex2 λa xs=>vs=[.ref a]/\SqT K H1 a xs/\R (mD K a) H1
theorem RM {X:Cx} {e:Expr} {ta:TA} {p pos tpos:Pos} {elts:List Expr} {kk:Nat} (hg:Gl X "enumerate") (hm:X.mg "enumerate"=none) (ha:PA X [e] ta) (hs:bc [e] X.env=[(false,eval e X.env)]:=by rfl):
 PI X (.Tuple elts kk tpos) (.Call (.Name "enumerate" p) [e] [] pos) (iD X.K ta):=by
 intro pins s σ H R I h;refine zc (EL I hg hm vH (cz (thn (ha pos pins s σ H _ I h) λus s1 ⟨vs,H1,I1,r1,q1⟩=>?_) hs rfl));obtain⟨a,xs,ex,hq,q⟩:=q1;subst ex;cases r1 with
 |cons r rr=>
  cases rr;cases r;obtain⟨its,rv,p',hz⟩:=I1.tuple hq;refine TF (show s1.heap.IsTuple a its.toArray from p') λh' he hit hsz hk=>lj he ?_;have I2:Inv X pins σ H1 { s1 with heap:=h' }:=I1.kept (t':=s1.toks) hk;refine⟨s1.heap.objs.size+1,[s1.heap.objs.size+1,s1.heap.objs.size],_,_,H1,rfl,I2,TK a (s1.heap.objs.size+1) s1.heap.objs.size,⟨⟨.none,he⟩,hit,uI _⟩,λb hb=>?_,q⟩;have e':b=s1.heap.objs.size+1\/b=s1.heap.objs.size:=by simpa using hb
  have hle:s1.heap.objs.size<=b:=by
   rcases e' with z|z
   ·rw[z];exact uJ _ _
   ·rw[z];exact aq _
  exact I1.fpOk hle (I1.hok.fresh hle)
theorem GN {J:It} {n:Nat} {g:TG} {tb:TS} {D:Ends} {σ:St} {H:Hp} (Pv:Nat->St->Hp->Prop) (h0:Pv 0 σ H) (hgo:∀i σ H,i<n->Pv i σ H->J.go i H) (hst:∀σ H,Pv n σ H->J.stop n H)
 (hs:∀i x σ H H',i<n->Pv i σ H->J.yld i H x H'->g x σ H' λσ2 H2=>tb { D with nx:=Pv (i+1),ct:=Pv (i+1),bk:=D.nx } σ2 H2) (hd:∀σ H,Pv n σ H->D.nx σ H):
 ∃W:Nat->Nat->St->Hp->Prop,(∃m,W 0 m σ H)/\∀i m σ H,W i m σ H->
  (J.stop i H/\D.nx σ H)\/(J.go i H/\∃N:St->Hp->Prop,(∀σ' H',N σ' H'->∃m',m'<m/\W (i+1) m' σ' H')/\∀x H',J.yld i H x H'->g x σ H' λσ2 H2=>tb { D with nx:=N,ct:=N,bk:=D.nx } σ2 H2):=by
 refine⟨λi m σ H=>m=n - i/\i<=n/\Pv i σ H,⟨n,by simp,df _,h0⟩,?_⟩;rintro i m σ H ⟨rfl,hi,p⟩;by_cases hlt:i<n
 ·exact .inr ⟨hgo i σ H hlt p,Pv (i+1),λσ' H' p'=>⟨n - (i+1),by omega,rfl,hlt,p'⟩,λx H' y=>hs i x σ H H' hlt p y⟩
 ·have e:i=n:=by omega
  subst e;exact .inl ⟨hst σ H p,hd σ H p⟩
def LcW (J:It) (g:TG) (tt:TT) (te:TE) (vs:List Nat) (σ:St) (H1:Hp) (D:Addr) (Q:VK):Prop:=
 ∃W:Nat->Nat->Hp->Prop,(∃m,W 0 m (upd H1 D (.lst [])))/\∀i m H,W i m H->
  (J.stop i H/\Q (.ref D) H)\/(J.go i H/\∃Nx:Hp->Prop,(∀H',Nx H'->∃m',m'<m/\W (i+1) m' H')/\∀x H',J.yld i H x H'->g x (GM σ vs) H' λσ2 H2=>GM σ2 vs=GM σ vs/\tt σ2 H2 λb H3=>
   if b=true then te σ2 H3 λy H4=>∃acc,H4 D=some (.lst acc)/\acc.length<sizeLine/\Nx (upd H4 D (.lst (acc++[y]))) else Nx H3)
def mE (wi:TI) (g:TG) (tt:TT) (te:TE) (vs:List Nat):TE:=λσ H Q=>wi σ H λJ H1=>∀D,H1 D=none->LcW J g tt te vs σ H1 D Q
theorem Y6 {X:Cx} {elt tg iter:Expr} {ifs:List Expr} {scope:Scope} {own:List (Str×Nat)} {pos:Pos} {wi:TI} {g:TG} {tt:TT} {te:TE} (hc:X.calm=true) (hN:X.N.Nodup) (hi:PI X tg iter wi) (ok:BlkOk X.N X.env.scope scope own)
 (hg:∀(s:ai) (H:Hp) (C:Addr) (cl:List (Str×Addr)) (fp:List Addr),PG (X.blk s H scope (jh scope cl C X.env) fp) tg g) (ht:∀(s:ai) (H:Hp) (C:Addr) (cl:List (Str×Addr)) (fp:List Addr),PTs (X.blk s H scope (jh scope cl C X.env) fp) ifs tt)
 (he:∀(s:ai) (H:Hp) (C:Addr) (cl:List (Str×Addr)) (fp:List Addr),PE (X.blk s H scope (jh scope cl C X.env) fp) elt te) (hs:∀x,lh iter X.env x=pure x:=by intro _;rfl):
 PE X (.ListComp elt [⟨tg,iter,ifs,0⟩] scope pos) (mE wi g tt te (own.map (·.2))):=lW hc hN hi ok hg ht he hs
theorem W8 {X:Cx} {i:Nat} {y:Str} {py:Pos} {elt tg iter:Expr} {ifs:List Expr} {scope:Scope} {own:List (Str×Nat)} {pos spos:Pos} {wi:TI} {g:TG} {tt:TT} {te:TE} (hc:X.calm=true) (hN:X.N.Nodup) (hy:X.N[i]? =some y) (hyl:X.env.scope.names.lookup y=some .local)
 (hsw:pc (.ListComp elt [⟨tg,iter,ifs,0⟩] scope pos) (some (.Name y py)) spos.line X.env=pure true) (hi:PI X tg iter wi) (ok:BlkOk X.N X.env.scope scope own)
 (hg:∀(s:ai) (H:Hp) (C:Addr) (cl:List (Str×Addr)) (fp:List Addr),PG (X.blk s H scope (jh scope cl C X.env) fp) tg g) (ht:∀(s:ai) (H:Hp) (C:Addr) (cl:List (Str×Addr)) (fp:List Addr),PTs (X.blk s H scope (jh scope cl C X.env) fp) ifs tt)
 (he:∀(s:ai) (H:Hp) (C:Addr) (cl:List (Str×Addr)) (fp:List Addr),PE (X.blk s H scope (jh scope cl C X.env) fp) elt te) (hs:∀x,lh iter X.env x=pure x:=by intro _;rfl):
 PS X (.Assign [.Name y py] (.ListComp elt [⟨tg,iter,ifs,0⟩] scope pos) spos) (YF (mE wi g tt te (own.map (·.2))) (MC i)):=YV hc hN hy hyl hsw hi ok hg ht he hs
theorem TM {J:It} {n:Nat} {σ:St} {H1:Hp} {Q:VK} {g:TG} {tt:TT} {te:TE} {vs:List Nat} {D:Addr} (Pv:Nat->Hp->Prop) (h0:Pv 0 (upd H1 D (.lst []))) (hgo:∀i H,i<n->Pv i H->J.go i H) (hst:∀H,Pv n H->J.stop n H)
 (hs:∀i x H H',i<n->Pv i H->J.yld i H x H'->g x (GM σ vs) H' λσ2 H2=>GM σ2 vs=GM σ vs/\tt σ2 H2 λb H3=>
  if b=true then te σ2 H3 λy H4=>∃acc,H4 D=some (.lst acc)/\acc.length<sizeLine/\Pv (i+1) (upd H4 D (.lst (acc++[y]))) else Pv (i+1) H3) (hd:∀H,Pv n H->Q (.ref D) H):
 LcW J g tt te vs σ H1 D Q:=by
 refine⟨λi m H=>m=n - i/\i<=n/\Pv i H,⟨n,by simp,df _,h0⟩,?_⟩;rintro i m H ⟨rfl,hi,p⟩;by_cases hlt:i<n
 ·exact .inr ⟨hgo i H hlt p,Pv (i+1),λH' p'=>⟨n - (i+1),by omega,rfl,hlt,p'⟩,λx H' y=>hs i x H H' hlt p y⟩
 ·have e:i=n:=by omega
  subst e;exact .inl ⟨hst H p,hd H p⟩
end L2
end
section
section
namespace L2
open PySem PySem.Spec PyProof.Rows
open PySem.W (WData Codec OpenSpec Well WellAll ReadsW ReadsAllW)
mutual
inductive Dw (K:aa) (H:Hp):V->ms->Prop
 |non:Dw K H .non .none
 |bl (b:Bool):Dw K H (.bl b) (.bool b)
 |int (i:Int):Dw K H (.int i) (.int i)
 |str (x:Str):Dw K H (.str x) (.str x)
 |byt (b:Array UInt8):Dw K H (.byt b) (.bytes b.toList)
 |lst {a:Addr} {xs:List V} {ds:List ms}:SqL K H a xs->DwAll K H xs ds->Dw K H (.ref a) (.list ds)
 |tup {a:Addr} {xs:List V} {ds:List ms}:SqT K H a xs->DwAll K H xs ds->Dw K H (.ref a) (.tuple ds)
inductive DwAll (K:aa) (H:Hp):List V->List ms->Prop
 |nil:DwAll K H [] []
 |cons {v:V} {vs:List V} {d:ms} {ds:List ms}:Dw K H v d->DwAll K H vs ds->DwAll K H (v::vs) (d::ds)
end
theorem VJ {K:aa} {H:Hp}:∀ns:List Int,DwAll K H (ns.map V.int) (ns.map z8)
 |[]=>.nil
 |n::r=>.cons (.int n) (VJ r)
theorem PV {K:aa} {H:Hp}:∀(ns:List Int) (xs:List V),DwAll K H xs (ns.map z8)->xs=ns.map V.int
 |[],xs,h=>by
  cases h;rfl
 |n::r,xs,h=>by
  cases h with
  |cons h1 h2=>
   cases h1;rw[PV r _ h2]<;>rfl
section
variable {P:aw} {w:bv} {K:aa} {H:Hp} {h:Heap} {R:xk} {cl:Str->Option Addr}
theorem iE {a:Addr} {xs:List V} (hok:HOk P w H h) (KX:K.In h) (q:SqL K H a xs):∃(its:List ag) (o:Obj) (n:Nat),Vals xs its/\h.get? a=some o/\o.cls= .type "list"/\o.data= .seq its.toArray n:=by
 rcases q with q|⟨o,its,n,e,hc,_,hd,_,hv⟩
 ·obtain⟨_,its,n,hv,e⟩:=(show ObjOk P w H h a (.lst xs) from q.ok hok)
  exact⟨its,_,n,hv,e,rfl,rfl⟩
 ·exact⟨its.toList,o,n,hv,KX _ _ e,hc,by simp[hd]⟩
theorem Y7 {a:Addr} {xs:List V} (hok:HOk P w H h) (KX:K.In h) (q:SqT K H a xs):∃(its:List ag) (o:Obj) (n:Nat),Vals xs its/\h.get? a=some o/\o.cls= .type "tuple"/\o.data= .seq its.toArray n:=by
 rcases q with q|⟨o,its,n,e,hc,hd,_,hv⟩
 ·obtain⟨_,its,hv,o,e,hc,n,hd⟩:=(show ObjOk P w H h a (.tup xs) from q.ok hok)
  exact⟨its,o,n,hv,e,hc,hd⟩
 ·exact⟨its.toList,o,n,hv,KX _ _ e,hc,by simp[hd]⟩
mutual
theorem Dw.reads (hok:HOk P w H h) (KX:K.In h):∀(d:ms) (v:V) (u:ag),Dw K H v d->RelV v u->∃as,ReadsW R cl h u d as
 | .none,_,_,x,r=>by
   cases x;cases r;exact⟨_,ReadsW.none⟩
 | .bool b,_,_,x,r=>by
   cases x;cases r;exact⟨_,ReadsW.bool b⟩
 | .int i,_,_,x,r=>by
   cases x;obtain⟨t,rfl⟩:=r;exact⟨_,ReadsW.int i t⟩
 | .str s,_,_,x,r=>by
   cases x;obtain⟨t,rfl⟩:=r;exact⟨_,ReadsW.str s t⟩
 | .bytes b,_,_,x,r=>by
   cases x;obtain⟨t,rfl⟩:=r;exact⟨_,ReadsW.bytes _ t⟩
 | .list ds,_,_,x,r=>by
   cases x with
   |lst hs ha=>
    cases r;obtain⟨its,o,n,rv,ho,hc,hd⟩:=iE hok KX hs;obtain⟨as,hr⟩:=Dw.readsAll hok KX ds _ its ha rv;exact⟨_,ReadsW.list ho hc hd hr⟩
 | .tuple ds,_,_,x,r=>by
   cases x with
   |tup hs ha=>
    cases r;obtain⟨its,o,n,rv,ho,hc,hd⟩:=Y7 hok KX hs;obtain⟨as,hr⟩:=Dw.readsAll hok KX ds _ its ha rv;exact⟨_,ReadsW.tuple ho hc hd hr⟩
 | .float _,_,_,x,_=>by cases x
 | .dict _,_,_,x,_=>by cases x
 | .bytearray _,_,_,x,_=>by cases x
 | .set _,_,_,x,_=>by cases x
 | .frozenset _,_,_,x,_=>by cases x
 | .obj _ _,_,_,x,_=>by cases x
theorem Dw.readsAll (hok:HOk P w H h) (KX:K.In h):∀(ds:List ms) (vs:List V) (us:List ag),DwAll K H vs ds->Vals vs us->∃as,ReadsAllW R cl h us ds as
 |[],_,_,x,r=>by
  cases x;cases r;exact⟨_,ReadsAllW.nil⟩
 |d::ds,_,_,x,r=>by
  cases x with
  |cons h1 h2=>
   cases r with
   |cons r1 r2=>
    obtain⟨as,q1⟩:=Dw.reads hok KX d _ _ h1 r1;obtain⟨bs,q2⟩:=Dw.readsAll hok KX ds _ _ h2 r2;exact⟨_,ReadsAllW.cons q1 q2⟩
end
end
mutual
def plW:ms->Bool
 | .none=>true
 | .bool _=>true
 | .int _=>true
 | .str _=>true
 | .bytes _=>true
 | .list xs=>LE xs
 | .tuple xs=>LE xs
 |_=>false
def LE:List ms->Bool
 |[]=>true
 |x::r=>plW x&&LE r
end
theorem RN {α:Type} {f:α->ms} (h:∀a,plW (f a)=true):∀l:List α,LE (l.map f)=true
 |[]=>rfl
 |x::r=>by
  show(plW (f x)&&LE (r.map f))=true;rw[h x,RN h r]<;>rfl
theorem G7:∀(c:Codec) (a:c.denote),plW (c.enc a)=true
 | .unit,_=>rfl
 | .bool,_=>rfl
 | .int _ _,_=>rfl
 | .nat _ _,_=>rfl
 | .u8,_=>rfl
 | .bytes _ _,_=>rfl
 | .text _ _ _ _,_=>rfl
 | .list _ _ c,a=>RN (λx=>G7 c x) a
 | .pair c d,a=>by
   show(plW (c.enc a.1)&&(plW (d.enc a.2)&&true))=true;rw[G7 c a.1,G7 d a.2]<;>rfl
 | .triple c d e,a=>by
   show(plW (c.enc a.1)&&(plW (d.enc a.2.1)&&(plW (e.enc a.2.2)&&true)))=true;rw[G7 c a.1,G7 d a.2.1,G7 e a.2.2]<;>rfl
 | .option c,none=>rfl
 | .option c,some x=>G7 c x
theorem OM:∀(cs:List Codec) (a:tq cs),LE (sj cs a)=true
 |[],_=>rfl
 |c::cs,a=>by
  show(plW (c.enc a.1)&&LE (sj cs a.2))=true;rw[G7 c a.1,OM cs a.2]<;>rfl
theorem IS:∀{xs:List ms} {d:ms},d∈xs->d.weight<=tu xs
 |[],d,h=>absurd h (by simp)
 |x::r,d,h=>by
  show d.weight<=x.weight+1+tu r;rcases bp.mp h with e|m
  ·rw[e];omega
  ·have z:=IS m;omega
def toV:ag->V
 | .none=>.non
 | .bool b=>.bl b
 | .int i _=>.int i
 | .str x _=>.str x
 | .bytes b _=>.byt b
 | .ref a=>.ref a
 |_=>.non
def OkU (A:List Addr):ag->Prop
 | .none=>True
 | .bool _=>True
 | .int _ _=>True
 | .str _ _=>True
 | .bytes _ _=>True
 | .ref a=>a∈A
 |_=>False
theorem OkU.mono {A B:List Addr} (h:∀a∈A,a∈B):∀{u:ag},OkU A u->OkU B u:=λ{u} x=>by
 cases u with
 |ref a=>exact h a x
 |none=>trivial
 |bool b=>trivial
 |int i t=>trivial
 |str s t=>trivial
 |bytes b t=>trivial
 |_=>exact eq x
theorem Y8 {A:List Addr} {u:ag} (x:OkU A u):RelV (toV u) u:=by
 cases u with
 |ref a=>rfl
 |none=>rfl
 |bool b=>rfl
 |int i t=>exact⟨t,rfl⟩
 |str s t=>exact⟨t,rfl⟩
 |bytes b t=>exact⟨t,rfl⟩
 |_=>exact eq x
theorem GC {A:List Addr}:∀{vs:List ag},(∀u∈vs,OkU A u)->Vals (vs.map toV) vs
 |[],_=>.nil
 |u::r,h=>.cons (Y8 (h u (bb ..))) (GC λx hx=>h x (ao _ hx))
def ArgOb (h:Heap) (A:List Addr) (a:Addr):Prop:=∃vs:List ag,vs.length<=sizeLine/\(∀u∈vs,OkU A u)/\
 (h.get? a=some { cls:=.type "list",data:=.seq vs.toArray }\/h.get? a=some { cls:=.type "tuple",data:=.seq vs.toArray })
theorem ArgOb.mono {h:Heap} {A B:List Addr} {a:Addr} (k:∀a∈A,a∈B) (x:ArgOb h A a):ArgOb h B a:=by
 obtain⟨vs,h1,h2,h3⟩:=x;exact⟨vs,h1,λu hu=>(h2 u hu).mono k,h3⟩
theorem FM {P:vL} {h:Heap}:∀{vs:List ag} {ds:List ms},vc P h vs ds->vs.length=ds.length
 |_,_,.nil=>rfl
 |_,_,.cons _ b=>by
  show _+1=_+1;rw[FM b]
theorem ON {P:vL} {h:Heap} {v:ag} {ds:List ms} (x:Well P h v (.list ds)):∃(a:Addr) (vs:List ag),v= .ref a/\h.get? a=some { cls:=.type "list",data:=.seq vs.toArray }/\vc P h vs ds:=by
 cases x with
 |list ho hall=>exact⟨_,_,rfl,ho,hall⟩
theorem M3 {P:vL} {h:Heap} {v:ag} {ds:List ms} (x:Well P h v (.tuple ds)):∃(a:Addr) (vs:List ag),v= .ref a/\h.get? a=some { cls:=.type "tuple",data:=.seq vs.toArray }/\vc P h vs ds:=by
 cases x with
 |tuple ho hall=>exact⟨_,_,rfl,ho,hall⟩
theorem OO {P:vL} {h:Heap} {us:List ag} {d:ms} {ds:List ms} (x:vc P h us (d::ds)):∃(v:ag) (vs:List ag),us=v::vs/\Well P h v d/\vc P h vs ds:=by
 cases x with
 |cons a b=>exact⟨_,_,rfl,a,b⟩
theorem VL {n:Nat} (h:n<=1048576):n<=sizeLine:=cu h (by decide)
section
variable {P:vL} {h:Heap}
mutual
theorem Y9:∀(d:ms) (v:ag),Well P h v d->plW d=true->d.weight<=1048576->∃A:List Addr,OkU A v/\∀a∈A,ArgOb h A a
 | .none,_,x,_,_=>by
   cases x;exact⟨[],trivial,λa m=>absurd m (by simp)⟩
 | .bool b,_,x,_,_=>by
   cases x;exact⟨[],trivial,λa m=>absurd m (by simp)⟩
 | .int i,_,x,_,_=>by
   cases x;exact⟨[],trivial,λa m=>absurd m (by simp)⟩
 | .str s,_,x,_,_=>by
   cases x;exact⟨[],trivial,λa m=>absurd m (by simp)⟩
 | .bytes b,_,x,_,_=>by
   cases x;exact⟨[],trivial,λa m=>absurd m (by simp)⟩
 | .list ds,_,x,p,z=>by
   obtain⟨a,vs,rfl,ho,hall⟩:=ON x;have z2:tu ds<=1048576:=z;obtain⟨A,h1,h2⟩:=JM ds _ hall p λd hd=>cu (IS hd) z2;have k:∀b∈A,b∈a::A:=λb hb=>ao _ hb;refine⟨a::A,bb ..,λb hb=>?_⟩;rcases bp.mp hb with e|m
   ·rw[e];exact⟨vs,VL (by rw[FM hall];exact cu (tz ds) z2),λu hu=>(h1 u hu).mono k,.inl ho⟩
   ·exact(h2 b m).mono k
 | .tuple ds,_,x,p,z=>by
   obtain⟨a,vs,rfl,ho,hall⟩:=M3 x;have z2:tu ds<=1048576:=z;obtain⟨A,h1,h2⟩:=JM ds _ hall p λd hd=>cu (IS hd) z2;have k:∀b∈A,b∈a::A:=λb hb=>ao _ hb;refine⟨a::A,bb ..,λb hb=>?_⟩;rcases bp.mp hb with e|m
   ·rw[e];exact⟨vs,VL (by rw[FM hall];exact cu (tz ds) z2),λu hu=>(h1 u hu).mono k,.inr ho⟩
   ·exact(h2 b m).mono k
 | .float _,_,_,p,_=>dw (show false=true from p)
 | .dict _,_,_,p,_=>dw (show false=true from p)
 | .bytearray _,_,_,p,_=>dw (show false=true from p)
 | .set _,_,_,p,_=>dw (show false=true from p)
 | .frozenset _,_,_,p,_=>dw (show false=true from p)
 | .obj _ _,_,_,p,_=>dw (show false=true from p)
theorem JM:∀(ds:List ms) (vs:List ag),vc P h vs ds->LE ds=true->(∀d∈ds,d.weight<=1048576)->∃A:List Addr,(∀u∈vs,OkU A u)/\∀a∈A,ArgOb h A a
 |[],_,x,_,_=>by
  cases x;exact⟨[],λu m=>absurd m (by simp),λa m=>absurd m (by simp)⟩
 |d::ds,_,x,p,z=>by
  obtain⟨v,vs,rfl,x1,x2⟩:=OO x;have q:plW d=true/\LE ds=true:=vM.mp p;obtain⟨A,a1,a2⟩:=Y9 d v x1 q.1 (z d (bb ..));obtain⟨B,b1,b2⟩:=JM ds vs x2 q.2 λe he=>z e (ao _ he);have kA:∀b∈A,b∈A++B:=λb hb=>cj.mpr (.inl hb);have kB:∀b∈B,b∈A++B:=λb hb=>cj.mpr (.inr hb);refine⟨A++B,λu hu=>?_,λb hb=>?_⟩
  ·rcases bp.mp hu with e|m
   ·rw[e];exact a1.mono kA
   ·exact(b1 u m).mono kB
  ·rcases cj.mp hb with m|m
   ·exact(a2 b m).mono kA
   ·exact(b2 b m).mono kB
end
end
def c8 (o:Obj):Option HO:=match o.data with
 | .seq vs _=>if(o.cls==iy "list")=true then some (.frz o (.lst (vs.toList.map toV))) else some (.frz o (.tup (vs.toList.map toV)))
 |_=>none
def GD (K:aa) (h:Heap) (A:List Addr):Hp:=λb=>if b∈A then(if(K.lookup b).isNone=true then(h.get? b).bind c8 else none) else none
def fD (H:Hp):Prop:=∀b,H b=none\/Ex2 λo u=>H b=some (.frz o u)
theorem RO (vs:List ag):c8 { cls:=.type "list",data:=.seq vs.toArray }=some (.frz { cls:=.type "list",data:=.seq vs.toArray } (.lst (vs.map toV))):=by
 show(if(iy "list"==iy "list")=true then some (HO.frz { cls:=.type "list",data:=.seq vs.toArray } (.lst (vs.toArray.toList.map toV))) else some (HO.frz { cls:=.type "list",data:=.seq vs.toArray } (.tup (vs.toArray.toList.map toV))))=_;rw[if_pos (beq_self_eq_true _)]
theorem RP (vs:List ag):c8 { cls:=.type "tuple",data:=.seq vs.toArray }=some (.frz { cls:=.type "tuple",data:=.seq vs.toArray } (.tup (vs.map toV))):=by
 show(if(iy "tuple"==iy "list")=true then some (HO.frz { cls:=.type "tuple",data:=.seq vs.toArray } (.lst (vs.toArray.toList.map toV))) else some (HO.frz { cls:=.type "tuple",data:=.seq vs.toArray } (.tup (vs.toArray.toList.map toV))))=_;rw[if_neg (by decide)]
section
variable {P:aw} {w:bv} {K:aa} {h:Heap} {A:List Addr}
theorem LV {b:Addr} {o:Obj} (hb:b∈A) (hk:K.lookup b=none) (e:h.get? b=some o):GD K h A b=c8 o:=by
 unfold GD;rw[if_pos hb,hk,if_pos (show(none:Option Obj).isNone=true from rfl),e]<;>rfl
theorem c9 {b:Addr} {u:HO} (q:GD K h A b=some u):b∈A/\K.lookup b=none:=by
 unfold GD at q;by_cases hb:b∈A
 ·rw[if_pos hb] at q;cases hk:K.lookup b with
  |none=>exact⟨hb,rfl⟩
  |some o=>
   rw[hk,if_neg (by simp)] at q;cases q
 ·rw[if_neg hb] at q;cases q
theorem LW (ar:∀a∈A,ArgOb h A a) {b:Addr} {u:HO} (q:GD K h A b=some u):K.lookup b=none/\∃vs:List ag,vs.length<=sizeLine/\(∀u∈vs,OkU A u)/\
 ((h.get? b=some { cls:=.type "list",data:=.seq vs.toArray }/\u= .frz { cls:=.type "list",data:=.seq vs.toArray } (.lst (vs.map toV)))\/
  (h.get? b=some { cls:=.type "tuple",data:=.seq vs.toArray }/\u= .frz { cls:=.type "tuple",data:=.seq vs.toArray } (.tup (vs.map toV)))):=by
 obtain⟨hb,hk⟩:=c9 q;obtain⟨vs,h1,h2,h3⟩:=ar b hb;refine⟨hk,vs,h1,h2,?_⟩;rcases h3 with e|e
 ·rw[LV hb hk e,RO] at q;exact .inl ⟨e,(cp q).symm⟩
 ·rw[LV hb hk e,RP] at q;exact .inr ⟨e,(cp q).symm⟩
theorem W9 (ar:∀a∈A,ArgOb h A a):fD (GD K h A):=λb=>by
 cases q:GD K h A b with
 |none=>exact .inl rfl
 |some u=>
  obtain⟨_,vs,_,_,⟨_,e⟩|⟨_,e⟩⟩:=LW ar q
  ·exact .inr ⟨_,_,by rw[e]⟩
  ·exact .inr ⟨_,_,by rw[e]⟩
theorem dA (ar:∀a∈A,ArgOb h A a):HOk P w (GD K h A) h:=λb u q=>by
 obtain⟨_,vs,h1,h2,⟨e,rfl⟩|⟨e,rfl⟩⟩:=LW ar q
 ·exact⟨e,by rw[ah];exact h1,vs,_,GC h2,e⟩
 ·exact⟨e,by rw[ah];exact h1,vs,GC h2,_,e,rfl,_,rfl⟩
theorem LX {c c':ag} {vs us:List ag} (e:(some { cls:=c,data:=.seq vs.toArray }:Option Obj)=some { cls:=c',data:=.seq us.toArray }):c=c'/\vs=us:=by
 have e1:=cp e;have e2:c=c':=congrArg Obj.cls e1;have e3:Data.seq vs.toArray=Data.seq us.toArray:=congrArg Obj.data e1;injection e3 with e4;refine⟨e2,?_⟩;have e5:=congrArg wy e4;simpa using e5
theorem rY (KX:K.In h) (ar:∀a∈A,ArgOb h A a) {a:Addr} {vs:List ag} (ha:a∈A) (e:h.get? a=some { cls:=.type "list",data:=.seq vs.toArray }):(∀u∈vs,OkU A u)/\SqL K (GD K h A) a (vs.map toV):=by
 obtain⟨us,h1,h2,h3⟩:=ar a ha;have hu:us=vs:=by
  rcases h3 with q|q
  ·rw[e] at q;exact(LX q).2.symm
  ·rw[e] at q;exact absurd (ym (LX q).1) (by decide)
 subst hu;refine⟨h2,?_⟩;cases hk:K.lookup a with
 |none=>exact .inl (.inr ⟨_,by rw[LV ha hk e,RO]⟩)
 |some o=>
  have e2:=KX a o hk;rw[e] at e2;obtain rfl:=cp e2;exact .inr ⟨_,us.toArray,_,hk,rfl,rfl,rfl,by rw[bg];exact h1,by simpa using GC h2⟩
theorem rZ (KX:K.In h) (ar:∀a∈A,ArgOb h A a) {a:Addr} {vs:List ag} (ha:a∈A) (e:h.get? a=some { cls:=.type "tuple",data:=.seq vs.toArray }):(∀u∈vs,OkU A u)/\SqT K (GD K h A) a (vs.map toV):=by
 obtain⟨us,h1,h2,h3⟩:=ar a ha;have hu:us=vs:=by
  rcases h3 with q|q
  ·rw[e] at q;exact absurd (ym (LX q).1) (by decide)
  ·rw[e] at q;exact(LX q).2.symm
 subst hu;refine⟨h2,?_⟩;cases hk:K.lookup a with
 |none=>exact .inl (.inr ⟨_,by rw[LV ha hk e,RP]⟩)
 |some o=>
  have e2:=KX a o hk;rw[e] at e2;obtain rfl:=cp e2;exact .inr ⟨_,us.toArray,_,hk,rfl,rfl,by rw[bg];exact h1,by simpa using GC h2⟩
mutual
theorem iF {Pm:vL} (KX:K.In h) (ar:∀a∈A,ArgOb h A a):∀(d:ms) (v:ag),Well Pm h v d->plW d=true->OkU A v->Dw K (GD K h A) (toV v) d
 | .none,_,x,_,_=>by
   cases x;exact .non
 | .bool b,_,x,_,_=>by
   cases x;exact .bl b
 | .int i,_,x,_,_=>by
   cases x;exact .int i
 | .str s,_,x,_,_=>by
   cases x;exact .str s
 | .bytes b,_,x,_,_=>by
   cases x;have z:=Dw.byt (K:=K) (H:=GD K h A) b.toArray;exact z
 | .list ds,_,x,p,hu=>by
   obtain⟨a,vs,rfl,ho,hall⟩:=ON x;obtain⟨h2,hs⟩:=rY KX ar hu ho;exact .lst hs (PY KX ar ds _ hall p h2)
 | .tuple ds,_,x,p,hu=>by
   obtain⟨a,vs,rfl,ho,hall⟩:=M3 x;obtain⟨h2,hs⟩:=rZ KX ar hu ho;exact .tup hs (PY KX ar ds _ hall p h2)
 | .float _,_,_,p,_=>dw (show false=true from p)
 | .dict _,_,_,p,_=>dw (show false=true from p)
 | .bytearray _,_,_,p,_=>dw (show false=true from p)
 | .set _,_,_,p,_=>dw (show false=true from p)
 | .frozenset _,_,_,p,_=>dw (show false=true from p)
 | .obj _ _,_,_,p,_=>dw (show false=true from p)
theorem PY {Pm:vL} (KX:K.In h) (ar:∀a∈A,ArgOb h A a):∀(ds:List ms) (vs:List ag),vc Pm h vs ds->LE ds=true->(∀u∈vs,OkU A u)->DwAll K (GD K h A) (vs.map toV) ds
 |[],_,x,_,_=>by
  cases x;exact .nil
 |d::ds,_,x,p,hu=>by
  obtain⟨v,vs,rfl,x1,x2⟩:=OO x;have q:plW d=true/\LE ds=true:=vM.mp p;exact .cons (iF KX ar d v x1 q.1 (hu _ (bb ..))) (PY KX ar ds vs x2 q.2 λu m=>hu u (ao _ m))
end
end
theorem M4 {ds:List ms} (h:WData.layableAll ds=true):∀d∈ds,d.weight<=1048576:=λd hd=>
 (PySem.W.layableW_iff.mp (ki.mp h d hd)).2.2
theorem M5:∀(cs:List Codec) (a:tq cs),(sj cs a).length=cs.length
 |[],_=>rfl
 |c::cs,a=>by
  show(sj cs a.2).length+1=cs.length+1;rw[M5 cs a.2]
end L2
end
end
section
namespace L2
open PySem PySem.Spec PyProof.Rows
section
variable {P:aw} {w:bv} {K:aa} {mg:Str->Option ag} {base:Heap}
theorem Fun.okx {x qual:Str} {st:Stmt} {f:Addr} {fd:du} {N ps:List Str} {k:Nat} {sp:Sp} (F:Fun K x qual st f fd) (S:FnScope N ps (AH st))
 (hbody:∀(cdv:ag) (A:cy) (outer:List Env) (s:ai) (H:Hp) (vs:List V) (Q:VK) (E:XK),Room k (A.deeper (tT qual (AH st) s.heap.objs.size f cdv))->sp vs H Q E->
  ∃t,PSs (NZ (CX1 P w) P w K mg base N qual (AH st) f cdv A outer s H E) (BR st) t/\t { nx:=λ_ H'=>Q .non H',rt:=Q } (FL N vs) H) (len:∀vs H Q E,sp vs H Q E->vs.length=ps.length:=by intro _ _ _ _ h;cases h;rename_i h;exact congrArg oq h.1):FnOk P w K mg base (CX1 P w) (k+1) f fd ps sp:=by
 obtain⟨oc,od,kV,doc,pm,an,cdv,ct,osl,rfl,lk,hcd⟩:=F.ex;exact e8 lk hcd S len λA outer s H vs Q E hr hsp=>hbody cdv A outer s H vs Q E hr hsp
theorem Fun.oku {x qual:Str} {st:Stmt} {f:Addr} {fd:du} {N ps:List Str} {k:Nat} {sp:Sp} (F:Fun K x qual st f fd) (S:FnScope N ps (AH st))
 (hbody:∀(cdv:ag) (A:cy) (outer:List Env) (s:ai) (H:Hp) (vs:List V) (Q:VK) (E:XK),RoomU k (A.deeper (tT qual (AH st) s.heap.objs.size f cdv))->sp vs H Q E->
  ∃t,PSs (RG (CX1 P w) P w K mg base N qual (AH st) f cdv A outer s H E) (BR st) t/\t { nx:=λ_ H'=>Q .non H',rt:=Q } (FL N vs) H) (len:∀vs H Q E,sp vs H Q E->vs.length=ps.length:=by intro _ _ _ _ h;cases h;rename_i h;exact congrArg oq h.1):FnOkU P w K mg base (CX1 P w) (k+1) f fd ps sp:=by
 obtain⟨oc,od,kV,doc,pm,an,cdv,ct,osl,rfl,lk,hcd⟩:=F.ex;exact iA lk hcd S len λA outer s H vs Q E hr hsp=>hbody cdv A outer s H vs Q E hr hsp
end
theorem out_cxU {P:aw} {w:bv} {K:aa} {mg:Str->Option ag} {base:Heap} {N:List Str} {qual:Str} {scope:Scope} {f:Addr} {cd:ag} {A:cy} {outer:List Env} {s:ai} {H:Hp} {E:XK}:
 Out (RG (CX1 P w) P w K mg base N qual scope f cd A outer s H E) E:=by
 intro pins σ H1 s1 a C fs cx I n q;refine RF (C:=C) (fs:=fs) (cx:=cx) (L:=s.heap.objs.size) rfl rfl I.ok.frames I ?_ λH' s' I' n'=>?_
 ·rcases n with n|⟨L,e,n⟩
  ·exact .inl n
  ·have e':s.heap.objs.size=L:=cp e;subst e';exact .inr n
 ·exact⟨a,C,fs,cx,H',rfl,I'.os,I'.bare,I'.base,I'.hok,n',q⟩
def Def (P:aw) (w:bv) (K:aa) (mg:Str->Option ag) (base:Heap) (k:Nat) (x:Str) (ps:List Str) (sp:Sp):Prop:=
 Ex2 λf fd=>mg x=some (.ref f)/\dq K (.ref f)=true/\Binds K fd ps []/\FnOk P w K mg base (CX1 P w) k f fd ps sp
def Mth (P:aw) (w:bv) (K:aa) (mg:Str->Option ag) (base:Heap) (k:Nat) (C:Addr) (m:Str) (ps:List Str) (sp:Sp):Prop:=
 Cls K C/\Ex2 λf fd=>Meth K C m f/\Binds K fd ps []/\FnOk P w K mg base (CX1 P w) k f fd ps sp
def Mkr (P:aw) (w:bv) (K:aa) (mg:Str->Option ag) (base:Heap) (k:Nat) (C:Addr) (x:Str) (ps:List Str) (sp:Sp):Prop:=
 mg x=some (.ref C)/\Ex2 λf fd=>Mk K C f/\Binds K fd ps []/\FnOk P w K mg base (CX1 P w) k f fd ps sp
def XMr (P:aw) (w:bv) (K:aa) (mg:Str->Option ag) (base:Heap) (k:Nat) (C:Addr) (x:Str) (ps:List Str) (sp:Sp):Prop:=
 mg x=some (.ref C)/\XCls K C/\Ex2 λf fd=>XMk K C f/\Binds K fd ps []/\FnOkU P w K mg base (CX1 P w) k f fd ps sp
section
variable {X:Cx} {k k':Nat} {x m:Str} {C:Addr} {ps:List Str} {sp:Sp} {E:XK} {p pos apos:Pos} {e o:Expr} {es:List Expr} {ta:TE} {t:TA}
theorem Def.call (D:Def X.prog X.w X.K X.mg X.base k x ps sp) (hr:Room k' X.A) (hx:Out X E) (ha:PA X (e::es) t) (hk:k<=k':=by decide) (hg:Gl X x:=by rfl) (hdb:(x==("__debug__":Str))=false:=by decide)
 (he:bc (e::es) X.env=(false,eval e X.env)::bc es X.env:=by rfl) (hpl:(gr pos (bc es X.env)).any (·.1)=false:=by rfl):PE X (.Call (.Name x p) (e::es) [] pos) (KZ sp [] E t):=by
 obtain⟨f,fd,hm,hkp,hb,F⟩:=D;exact cQ F (hr.mono hk) hg hm hkp hb .nil hx.passes ha hdb he hpl
theorem Mth.call {pl:Sem Bool} (D:Mth X.prog X.w X.K X.mg X.base k C m ps sp) (ho:PE X o ta) (hr:Room k' X.A) (hx:Out X E) (ha:PA X (e::es) t) (hk:k<=k':=by decide)
 (hst:bc (e::es) X.env=(false,eval e X.env)::bc es X.env:=by rfl) (hpl:(gr pos (bc es X.env)).any (·.1)=false:=by rfl)
 (ht:eval (.Call (.Attribute o m apos) (e::es) [] pos) X.env=(do
  let ov←eval o X.env
  mj apos.atName
  let (f,first)←lg [ov] (kf ov m pl)
  mo pos f first (gr pos (bc (e::es) X.env)) (jm pos (ge [] X.env))):=by rfl):
 PE X (.Call (.Attribute o m apos) (e::es) [] pos) (Q4 C m sp [] E ta t):=by
 obtain⟨c,f,fd,hm,hb,F⟩:=D;exact cR ho c hm F (hr.mono hk) hb .nil hx.passes ha hst hpl ht
theorem Mth.call0 {pl:Sem Bool} (D:Mth X.prog X.w X.K X.mg X.base k C m ps sp) (ho:PE X o ta) (hr:Room k' X.A) (hx:Out X E) (hk:k<=k':=by decide)
 (ht:eval (.Call (.Attribute o m apos) [] [] pos) X.env=(do
  let ov←eval o X.env
  mj apos.atName
  let (f,first)←lg [ov] (kf ov m pl)
  mo pos f first (gr pos (bc [] X.env)) (jm pos (ge [] X.env))):=by rfl):
 PE X (.Call (.Attribute o m apos) [] [] pos) (Q4 C m sp [] E ta EN):=by
 obtain⟨c,f,fd,hm,hb,F⟩:=D;exact YN ho c hm F (hr.mono hk) hb .nil hx.passes ht
theorem Mkr.call (D:Mkr X.prog X.w X.K X.mg X.base k C x ps sp) (hr:Room k' X.A) (hx:Out X E) (ha:PA X (e::es) t) (hk:k+1<=k':=by decide) (hg:Gl X x:=by rfl) (hdb:(x==("__debug__":Str))=false:=by decide)
 (he:bc (e::es) X.env=(false,eval e X.env)::bc es X.env:=by rfl) (hpl:(gr pos (bc es X.env)).any (·.1)=false:=by rfl):PE X (.Call (.Name x p) (e::es) [] pos) (VA C sp [] E t):=by
 obtain⟨hm,f,fd,M,hb,F⟩:=D;exact cS M F (hr.mono hk) hg hm hb .nil hx.passes ha hdb he hpl
theorem Mkr.call0 (D:Mkr X.prog X.w X.K X.mg X.base k C x ps sp) (hr:Room k' X.A) (hx:Out X E) (hk:k+1<=k':=by decide) (hg:Gl X x:=by rfl) (hdb:(x==("__debug__":Str))=false:=by decide):
 PE X (.Call (.Name x p) [] [] pos) (VA C sp [] E EN):=by
 obtain⟨hm,f,fd,M,hb,F⟩:=D;exact YO M F (hr.mono hk) hg hm hb .nil hx.passes hdb
theorem XMr.call (D:XMr X.prog X.w X.K X.mg X.base k C x ps sp) (hr:RoomU k' X.A) (hx:Out X E) (ha:PA X (e::es) t) (hk:k+1<=k':=by decide) (hg:Gl X x:=by rfl) (hdb:(x==("__debug__":Str))=false:=by decide)
 (he:bc (e::es) X.env=(false,eval e X.env)::bc es X.env:=by rfl) (hpl:(gr pos (bc es X.env)).any (·.1)=false:=by rfl):PE X (.Call (.Name x p) (e::es) [] pos) (MY C sp E t):=by
 obtain⟨hm,_,f,fd,M,hb,F⟩:=D;exact Y3 M F (hr.mono hk) hg hm hb hx.passes ha hdb he hpl
theorem XMr.call0 (D:XMr X.prog X.w X.K X.mg X.base k C x ps sp) (hr:RoomU k' X.A) (hx:Out X E) (hk:k+1<=k':=by decide) (hg:Gl X x:=by rfl) (hdb:(x==("__debug__":Str))=false:=by decide):
 PE X (.Call (.Name x p) [] [] pos) (MY C sp E EN):=by
 obtain⟨hm,_,f,fd,M,hb,F⟩:=D;exact W5 M F (hr.mono hk) hg hm hb hx.passes hdb
end
section
variable {X:Cx}
theorem LY:OpR X (rm .Mult) (rI IntMulOk λi j=>.int (i*j)):=opI λ_ _ _ _ _ _ _ hc q=>mul_int q hc
def mF (i j:Int):Prop:=0<j/\j<2 ^ 1000
theorem ZA:OpR X (rm .FloorDiv) (rI mF λi j=>.int (i / j)):=opI λi j _ _ _ _ _ hc q=>by
 have h0:j.natAbs<2 ^ 1000:=by have:=hc.1;have:=hc.2;omega
 have hl:j.natAbs.log2<9000:=by
  have hne:j.natAbs≠0:=by have:=hc.1;omega
  have h1:2 ^ j.natAbs.log2<=j.natAbs:=Nat.log2_self_le hne;have h2:2 ^ j.natAbs.log2<2 ^ 1000:=tY h1 h0;have h3:=(Nat.pow_lt_pow_iff_right (by decide:1<2)).mp h2;omega
 have e:i / j=i.fdiv j:=(tQ i (Int.le_of_lt hc.1)).symm;rw[e] at q;exact floordiv_int (by have:=hc.1;omega) q (.inl (PyProof.noPylong_of_log2 hl))
end
def Sb (r:Addr) (H H':Hp):Prop:=∀b o,H b=some o->b≠r->H' b=some o
theorem Sb.trans {r:Addr} {H H1 H2:Hp} (a:Sb r H H1) (b:Sb r H1 H2):Sb r H H2:=λc o e n=>b c o (a c o e n) n
theorem Sb.refl {r:Addr} {H:Hp}:Sb r H H:=λ_ _ e _=>e
theorem Same.sb {r:Addr} {H H':Hp} (s:Same H H'):Sb r H H':=λb o e _=>s b o e
theorem Same.upd {H:Hp} {a:Addr} {o:HO} (n:H a=none):Same H (upd H a o):=λb u e=>by rw[AE (AG e n)];exact e
theorem Same.tup {K:aa} {H H':Hp} {a:Addr} {xs:List V} (e:Same H H') (h:SqT K H a xs):SqT K H' a xs:=by
 rcases h with(h|⟨o,h⟩)|h
 ·exact .inl (.inl (e _ _ h))
 ·exact .inl (.inr ⟨o,e _ _ h⟩)
 ·exact .inr h
end L2
end
section
namespace L2
open PySem PySem.Spec PyProof.Rows
section
variable {t0 t1 t2 t3 t4 t5 t6 t7 t8 t9:TS} {D:Ends} {σ:St} {H:Hp}
theorem lb1 (h:let U1:=t1;let D':=D;let σ':=σ;AV t0 U1 D' σ' H):(AV t0 t1) D σ H:=h
theorem lb2 (h:let U2:=t2;let U1:=AV t1 U2;let D':=D;let σ':=σ;AV t0 U1 D' σ' H):(AV t0 (AV t1 t2)) D σ H:=h
theorem lb3 (h:let U3:=t3;let U2:=AV t2 U3;let U1:=AV t1 U2;let D':=D;let σ':=σ;AV t0 U1 D' σ' H):(AV t0 (AV t1 (AV t2 t3))) D σ H:=h
theorem lb4 (h:let U4:=t4;let U3:=AV t3 U4;let U2:=AV t2 U3;let U1:=AV t1 U2;let D':=D;let σ':=σ;AV t0 U1 D' σ' H):(AV t0 (AV t1 (AV t2 (AV t3 t4)))) D σ H:=h
theorem lb5 (h:let U5:=t5;let U4:=AV t4 U5;let U3:=AV t3 U4;let U2:=AV t2 U3;let U1:=AV t1 U2;let D':=D;let σ':=σ;AV t0 U1 D' σ' H):(AV t0 (AV t1 (AV t2 (AV t3 (AV t4 t5))))) D σ H:=h
theorem lb6 (h:let U6:=t6;let U5:=AV t5 U6;let U4:=AV t4 U5;let U3:=AV t3 U4;let U2:=AV t2 U3;let U1:=AV t1 U2;let D':=D;let σ':=σ;AV t0 U1 D' σ' H):(AV t0 (AV t1 (AV t2 (AV t3 (AV t4 (AV t5 t6)))))) D σ H:=h
theorem lb7 (h:let U7:=t7;let U6:=AV t6 U7;let U5:=AV t5 U6;let U4:=AV t4 U5;let U3:=AV t3 U4;let U2:=AV t2 U3;let U1:=AV t1 U2;let D':=D;let σ':=σ;AV t0 U1 D' σ' H):(AV t0 (AV t1 (AV t2 (AV t3 (AV t4 (AV t5 (AV t6 t7))))))) D σ H:=h
theorem lb8 (h:let U8:=t8;let U7:=AV t7 U8;let U6:=AV t6 U7;let U5:=AV t5 U6;let U4:=AV t4 U5;let U3:=AV t3 U4;let U2:=AV t2 U3;let U1:=AV t1 U2;let D':=D;let σ':=σ;AV t0 U1 D' σ' H):(AV t0 (AV t1 (AV t2 (AV t3 (AV t4 (AV t5 (AV t6 (AV t7 t8)))))))) D σ H:=h
theorem lb9 (h:let U9:=t9;let U8:=AV t8 U9;let U7:=AV t7 U8;let U6:=AV t6 U7;let U5:=AV t5 U6;let U4:=AV t4 U5;let U3:=AV t3 U4;let U2:=AV t2 U3;let U1:=AV t1 U2;let D':=D;let σ':=σ;AV t0 U1 D' σ' H):(AV t0 (AV t1 (AV t2 (AV t3 (AV t4 (AV t5 (AV t6 (AV t7 (AV t8 t9))))))))) D σ H:=h
theorem lb0 (h:let D':=D;let σ':=σ;t0 D' σ' H):t0 D σ H:=h
end
theorem AX {X:Cx} {x:Str} {e:Expr} {te:TE} {pos pos':Pos} {N ps:List Str} {sc:Scope} (i:Nat) (S:FnScope N ps sc) (he:PE X e te) (hN:X.N=N:=by rfl) (hi:X.N[i]? =some x:=by rfl) (hx:Loc X.env.scope x:=by first|exact u7 rfl|exact zj rfl) (hs:pc e (some (.Name x pos')) pos.line X.env=pure false:=by rfl) (hf:X.fn x=true\/X.env.scope.names.lookup x=some .local:=by first|exact .inl rfl|exact .inr rfl|assumption):
 PS X (.Assign [.Name x pos'] e pos) (YF te (MC i)):=gP (hN▸S.nd) hi hx he hs hf
theorem DT {X:Cx} {x:Str} {pos:Pos} {N ps:List Str} {sc:Scope} (i:Nat) (S:FnScope N ps sc) (hN:X.N=N:=by rfl) (hi:X.N[i]? =some x:=by rfl) (hx:Loc X.env.scope x:=by first|exact u7 rfl|exact zj rfl) (hf:X.fn x=true\/X.env.scope.names.lookup x=some .local:=by first|exact .inl rfl|exact .inr rfl|assumption):PG X (.Name x pos) (MC i):=cI (hN▸S.nd) hi hx hf
end L2
end
local macro_rules|`(tactic| and_intros)=>`(tactic| first|(refine L2.lb9 ?_;intros)|(refine L2.lb8 ?_;intros)|(refine L2.lb7 ?_;intros)|(refine L2.lb6 ?_;intros)|(refine L2.lb5 ?_;intros)|(refine L2.lb4 ?_;intros)|(refine L2.lb3 ?_;intros)|(refine L2.lb2 ?_;intros)|(refine L2.lb1 ?_;intros))
local macro_rules|`(tactic| subst_eqs)=>`(tactic| (refine L2.lb0 ?_;intros))
section
namespace Lt
open PySem PySem.Spec PyProof.Rows L2
variable {f a C CR CT r ta CI CL CN:Addr} {fd:du} {X:Cx} {x:List Int} {i n e p q:Nat} {pos:Pos} {z dz fz:Str} {xs:List V} {E:XK} {H H' H1:Hp} {cs t ci ct:List UInt8} {α β:Type} {Q:VK} {ls fr co ba:List (List Int)} {P:aw} {w:bv} {h:Heap} {ps:List Str}
def top (i:Nat):Stmt:=PySem.Challenge.pw_lutesounds_s02_note.main.body.getD i (.Pass ⟨0,0,0,0⟩)
abbrev EO:Stmt:=top 5
abbrev CA:Stmt:=top 6
abbrev FT:Stmt:=top 7
abbrev IT:Stmt:=top 8
abbrev M6:Stmt:=top 9
abbrev IU:Stmt:=top 10
abbrev FU:Stmt:=top 11
abbrev PZ:Stmt:=top 12
abbrev D9:Stmt:=BG (top 14) 0
abbrev E6:Stmt:=BG (top 15) 0
abbrev DA:Stmt:=BG (top 16) 0
abbrev E7:Stmt:=BG (top 17) 0
abbrev FV:Stmt:=BG (top 18) 0
abbrev DU:Stmt:=BG (top 19) 0
abbrev DB:Stmt:=BG (top 20) 0
abbrev E8:Stmt:=BG (top 21) 0
abbrev FW:Stmt:=top 25
abbrev FX:Stmt:=BG (top 26) 0
abbrev E9:Stmt:=BG (top 26) 1
abbrev FY:Stmt:=BG (top 26) 2
abbrev FZ:Stmt:=BG (top 26) 3
abbrev F0:Stmt:=BG (top 26) 4
abbrev F1:Stmt:=BG (top 26) 5
abbrev CK:Stmt:=BG (top 26) 6
abbrev EQ:Stmt:=top 30
abbrev F2:Stmt:=top 31
abbrev FA:Stmt:=top 32
abbrev DV:Stmt:=top 33
abbrev GO:Stmt:=top 34
abbrev F3:Stmt:=top 35
abbrev DW:Stmt:=BG (top 43) 0
abbrev BV:Stmt:=BG (top 43) 1
abbrev CC:Stmt:=BG (top 43) 2
abbrev DM:Stmt:=BG (top 43) 3
abbrev DY:Stmt:=top 44
abbrev BW:Stmt:=top 45
abbrev B6:Stmt:=top 47
abbrev G8:Stmt:=top 49
abbrev F4:Stmt:=top 50
abbrev G9:Stmt:=top 51
abbrev HA:Stmt:=top 52
abbrev HB:Stmt:=top 53
abbrev HC:Stmt:=BG (top 57) 0
abbrev HD:Stmt:=top 58
abbrev GP:Stmt:=top 59
abbrev HE:Stmt:=top 60
abbrev BM:Stmt:=top 61
abbrev IV:Stmt:=top 62
abbrev GE:Stmt:=top 63
abbrev DC:Stmt:=top 74
abbrev CS:Stmt:=top 75
abbrev DD:Stmt:=top 76
abbrev HF:Stmt:=top 77
abbrev IW:Stmt:=top 78
abbrev DN:Stmt:=top 79
abbrev DO:Stmt:=top 80
abbrev DP:Stmt:=top 81
abbrev ER:Stmt:=top 82
abbrev HG:Stmt:=BG (top 90) 0
abbrev F5:Stmt:=BG (top 90) 1
abbrev FB:Stmt:=BG (top 90) 2
abbrev GQ:Stmt:=top 91
abbrev HH:Stmt:=top 92
abbrev DQ:Stmt:=top 93
abbrev CU:Stmt:=top 95
abbrev GR:Stmt:=top 97
abbrev EA:Stmt:=BG (top 102) 0
abbrev P0:Stmt:=top 103
abbrev EB:Stmt:=top 104
abbrev FC:Stmt:=top 105
abbrev F6:Stmt:=top 106
abbrev ES:Stmt:=top 107
abbrev IX:Stmt:=top 108
abbrev GU:Stmt:=top 109
abbrev ET:Stmt:=top 110
abbrev KF:Stmt:=top 111
structure Blt (mg:Str->Option ag):Prop where
 abs:mg "abs"=none
 len:mg "len"=none
 range:mg "range"=none
 enum:mg "enumerate"=none
 ord:mg "ord"=none
 list:mg "list"=none
 tuple:mg "tuple"=none
 rev:mg "reversed"=none
 sum:mg "sum"=none
theorem M7:jj "abs"=some (.builtin "abs"):=by decide +kernel
theorem ZB:jj "ord"=some (.builtin "ord"):=by decide +kernel
theorem RQ:jj "tuple"=some (.type "tuple"):=by decide +kernel
theorem RR:jj "list"=some (.type "list"):=by decide +kernel
section
variable {P:aw} {w:bv} {K:aa} {mg:Str->Option ag} {base:Heap}
def iG:Sp:=λvs H Q _=>Ex2 λx y:Int=>vs=[.int x,.int y]/\Q (.int (pj x y)) H
theorem OP:FnScope ["x","y","rest"] ["x","y"] (AH EO):={}
theorem P1 (x:Int):(if x<0 then -x else x)=(x.natAbs:Int):=by split<;>omega
theorem mG (F:Fun K "common_factor" "common_factor" EO f fd) (B:Blt mg):FnOk P w K mg base (CX1 P w) 1 f fd ["x","y"] iG:=by
 refine F.okx OP λcdv A outer s H vs Q E hr h=>?_;obtain⟨x,y,rfl,k⟩:=h;refine⟨_,AB (AX 0 OP (AZ MG (by rfl) B.abs M7 (AA (pv 0) AF)))
  (AB (AX 1 OP (AZ MG (by rfl) B.abs M7 (AA (pv 1) AF)))
  (AB (B3 bn (AO E3 (pv 1) AI (AQ _))
   (AB (AX 2 OP (BC SW (pv 0) (pv 1)))
   (AB (AX 0 OP (pv 1)) (AC (AX 1 OP (pv 2))))))
  (AC (AJ (pv 0))))),?_⟩
 and_intros
 refine⟨_,rfl,x,rfl,_,rfl,y,rfl,?_⟩;rw[P1,P1];refine Q0 (λσ H'=>H'=H/\Ex3 λ(m n:Nat) (r:Option V)=>σ=[some (.int m),some (.int n),r]/\nk m n=pj x y) (λσ _=>match σ with|[_,some (.int n),_]=>n.toNat|_=>0)
  ⟨rfl,x.natAbs,y.natAbs,none,rfl,rfl⟩ ?_ ?_
 ·rintro σ H' ⟨rfl,m,n,r,rfl,g⟩;refine⟨_,rfl,_,_,rfl,rfl,_,rfl,?_⟩;refine B7 (λhn=>?_) (λhn=>?_)
  ·have hn0:0<(n:Int):=by simpa using hn
   refine⟨_,rfl,_,rfl,_,_,rfl,rfl,hn0,_,rfl,_,rfl,⟨rfl,n,m%n,some (.int (m%n:Nat)),?_,?_⟩,?_⟩
   ·simp
   ·rw[←g,wJ m n,Nat.gcd_rec n m,wJ]
   ·show((m:Int)%(n:Int)).toNat<(n:Int).toNat;have:=Int.emod_lt_of_pos (m:Int) hn0;have:=Int.emod_nonneg (m:Int) (by omega:(n:Int)≠0);omega
  ·have hn0:n=0:=by
    have:¬(0:Int)<n:=by simpa using hn
    omega
   subst hn0;refine⟨_,rfl,?_⟩;rw[Nat.gcd_zero_right] at g;rw[g];exact k
 ·rintro σ H' Q1 Q2 hq ⟨v1,e1,z1⟩;exact⟨v1,e1,let ⟨i,j,a,b,c,d,e⟩:=z1;⟨i,j,a,b,c,d,hq _ _ e⟩⟩
end
open PySem PySem.Spec PyProof.Rows L2
def GI (mg:Str->Option ag) (x:Str) (i:Int):Prop:=∃u,mg x=some u/\RelV (.int i) u
def GS (mg:Str->Option ag) (x:Str) (z:Str):Prop:=∃u,mg x=some u/\RelV (.str z) u
def GT (K:aa) (mg:Str->Option ag) (x:Str) (xs:List V):Prop:=∃a,mg x=some (.ref a)/\∀H,SqT K H a xs
theorem BZ {x:Str} {i:Int} (h:GI X.mg x i) (hg:Gl X x:=by rfl) (hd:(x==("__debug__":Str))=false:=by decide):PE X (.Name x pos) (tC (.int i)):=
 let ⟨_,hm,r⟩:=h;PD hg hm r hd
theorem FD {x:Str} (h:GS X.mg x z) (hg:Gl X x:=by rfl) (hd:(x==("__debug__":Str))=false:=by decide):PE X (.Name x pos) (tC (.str z)):=
 let ⟨_,hm,r⟩:=h;PD hg hm r hd
def tGT (K:aa) (xs:List V):TE:=λ_ H Q=>∀a,(∀H',SqT K H' a xs)->Q (.ref a) H
theorem OQ {x:Str} (h:GT X.K X.mg x xs) (hg:Gl X x:=by rfl) (hd:(x==("__debug__":Str))=false:=by decide):PE X (.Name x pos) (tGT X.K xs):=by
 obtain⟨a,hm,r⟩:=h;intro pins s σ H Q I q;exact PD (v:=.ref a) hg hm rfl hd pins s σ H Q I (q a r)
section
variable {P:aw} {w:bv} {K:aa} {mg:Str->Option ag} {base:Heap}
def GV (g:Nat) (l:List Int):Nat:=l.foldl (λ(g:Nat) (x:Int)=>pj g x) g
def BX (l:List Int):Nat:=GV 0 l
def ZC (K:aa):Sp:=λvs H Q _=>Ex2 λ(a:Addr) (l:List Int)=>vs=[.ref a]/\(SqL K H a (l.map V.int)\/SqT K H a (l.map V.int))/\Q (.int (BX l)) H
theorem IY:FnScope ["numbers","common","number"] ["numbers"] (AH CA):={}
theorem RS {l:List Int} {z:Int} (h:l[i]? =some z):BX (l.take (i+1))=pj (BX (l.take i)) z:=by
 rw[dj,h];unfold BX GV;rw[wK];rfl
theorem LZ {l:List Int} {y:V} (h:(l.map V.int)[i]? =some y):∃z,l[i]? =some z/\y= .int z:=by
 rw[az] at h;cases e:l[i]? with
 |none=>rw[e] at h;cases h
 |some z=>rw[e] at h;exact⟨z,rfl,(cp h).symm⟩
theorem iH (F:Fun K "common_factor_of_all" "common_factor_of_all" CA f fd) (D1:Def P w K mg base 1 "common_factor" ["x","y"] iG):
 FnOk P w K mg base (CX1 P w) 2 f fd ["numbers"] (ZC K):=by
 refine F.okx IY λcdv A outer s H vs Q E hr h=>?_;obtain⟨a,l,rfl,hl|hl,k⟩:=h
 ·refine⟨_,AB (AX 1 IY AI) (AB (B4 bn rfl (DG (pv 0)) (DT 2 IY)
   (AC (AX 1 IY (D1.call hr AD (AA (pv 1) (AA (pv 2) AF)))))) (AC (AJ (pv 1)))),?_⟩
  and_intros
  refine⟨_,rfl,a,rfl,⟨_,hl⟩,DE (K:=K) (a:=a) (xs:=l.map V.int) (λi σ H'=>H'=H/\∃r,σ=[some (.ref a),some (.int (BX (l.take i))),r]) ⟨rfl,none,rfl⟩ (λi σ H' _ ⟨e,_⟩=>e▸hl) ?_ ?_⟩
  ·rintro i y σ H' hi ⟨rfl,r,rfl⟩
   subst_eqs
   obtain⟨z,hz,rfl⟩:=LZ hi;refine⟨_,rfl,_,rfl,_,_,rfl,rfl,some (.int z),?_⟩;rw[RS hz];rfl
  ·rintro σ H' ⟨rfl,r,rfl⟩;rw[ah,fk];exact⟨_,rfl,k⟩
 ·refine⟨_,AB (AX 1 IY AI) (AB (B4 bn rfl (YH (pv 0)) (DT 2 IY)
   (AC (AX 1 IY (D1.call hr AD (AA (pv 1) (AA (pv 2) AF)))))) (AC (AJ (pv 1)))),?_⟩
  and_intros
  refine⟨_,rfl,a,rfl,⟨_,hl⟩,UW (K:=K) (a:=a) (xs:=l.map V.int) (λi σ H'=>H'=H/\∃r,σ=[some (.ref a),some (.int (BX (l.take i))),r]) ⟨rfl,none,rfl⟩ (λi σ H' _ ⟨e,_⟩=>e▸hl) ?_ ?_⟩
  ·rintro i y σ H' hi ⟨rfl,r,rfl⟩
   subst_eqs
   obtain⟨z,hz,rfl⟩:=LZ hi;refine⟨_,rfl,_,rfl,_,_,rfl,rfl,some (.int z),?_⟩;rw[RS hz];rfl
  ·rintro σ H' ⟨rfl,r,rfl⟩;rw[ah,fk];exact⟨_,rfl,k⟩
def F7 (l:List Int):Bool:=(l.take 4).all (λp=>decide (p.natAbs<=99))&&(decide (1<=l.getD 4 0)&&decide (l.getD 4 0<=24)&&decide (BX l=1))
def iI (K:aa):Sp:=λvs H Q _=>Ex2 λ(a:Addr) (l:List Int)=>vs=[.ref a]/\SqT K H a (l.map V.int)/\l.length=5/\∀H',Same H H'->Q (.bl (F7 l)) H'
theorem fE:FnScope ["numbers","power"] ["numbers"] (AH FT):={}
theorem XA {l:List Int} {z:Int} (h:(l.take 4)[i]? =some z) (hz:99<z.natAbs):F7 l=false:=by
 have hm:z∈l.take 4:=bo h;unfold F7;have:(l.take 4).all (λp=>decide (p.natAbs<=99))=false:=by
  rw[wL];exact⟨z,hm,by simp;omega⟩
 rw[this];rfl
theorem mH (F:Fun K "is_interval" "is_interval" FT f fd) (B:Blt mg) (gw:GI mg "WIDEST_POWER" 99) (gf:GI mg "FINEST_PART" 24) (D1:Def P w K mg base 2 "common_factor_of_all" ["numbers"] (ZC K)):
 FnOk P w K mg base (CX1 P w) 3 f fd ["numbers"] (iI K):=by
 refine F.okx fE λcdv A outer s H vs Q E hr h=>?_;obtain⟨a,l,rfl,hl,h5,k⟩:=h;refine⟨_,AB (AW (AO eY (AZ AN (by rfl) B.len cr (AA (pv 0) AF)) AI (AQ _)) (AC (AJ MA)) AM)
  (AB (B4 bn rfl (YH (YR gY (pv 0) cU (cW AI))) (DT 1 fE)
   (AC (AW (AO E3 (AZ MG (by rfl) B.abs M7 (AA (pv 1) AF)) (BZ gw) (AQ _)) (AC (AJ MA)) AM)))
  (AC (AJ (YE (YJ ME ME AI (BI DL (pv 0) AI (λ_ _=>rfl)) (BZ gf))
   (YD (DS CP (D1.call hr AD (AA (pv 0) AF)) AI (AQ _))))))),?_⟩
 and_intros
 refine⟨_,rfl,a,l.map V.int,rfl,.inr hl,rfl,_,rfl,?_⟩;refine l0 (by rw[ah,h5];rfl) ?_;have hc:Q7 (l.map V.int) none (some 4)=(l.take 4).map V.int:=by
  unfold Q7;rw[ah,h5,yX];rfl
 refine⟨_,rfl,4,rfl,a,l.map V.int,rfl,hl,?_,λp hp=>⟨p,rfl,⟨_,SqT.of upd_same⟩,?_⟩⟩
 ·rw[ah,h5];decide
 rw[hc];have s1:Same H (upd H p (.tup ((l.take 4).map V.int))):=Same.upd hp;refine UW (K:=K) (a:=p) (xs:=(l.take 4).map V.int) (λi σ H'=>H'=upd H p (.tup ((l.take 4).map V.int))/\(∃r,σ=[some (.ref a),r])/\((l.take 4).take i).all (λp=>decide (p.natAbs<=99))=true) ⟨rfl,⟨none,rfl⟩,rfl⟩
  (λi σ H' _ ⟨e,_⟩=>by rw[e];exact SqT.of upd_same) ?_ ?_
 ·rintro i y σ H' hi ⟨rfl,⟨r,rfl⟩,ha⟩
  subst_eqs
  obtain⟨z,hz,rfl⟩:=LZ hi;refine⟨_,rfl,z,rfl,_,_,rfl,rfl,_,rfl,?_⟩;rw[P1];refine B7 (λh=>?_) (λh=>?_)
  ·have h9:(99:Int)<z.natAbs:=by simpa using h
   have e:=XA hz (by omega);have q:=k _ s1;rw[e] at q;exact q
  ·have h9:¬(99:Int)<z.natAbs:=by simpa using h
   refine⟨rfl,⟨some (.int z),rfl⟩,?_⟩;rw[dj,hz,xJ,ha];simp;omega
 ·rintro σ H' ⟨rfl,⟨r,rfl⟩,ha⟩;rw[ah,fk] at ha;obtain⟨d,hd⟩:∃d,l[4]? =some d:=⟨_,aj (by omega:4<l.length)⟩
  have eg:l.getD 4 0=d:=by simp[uN,hd]
  refine⟨_,rfl,a,l.map V.int,4,.int d,rfl,rfl,s1.tup hl,DH (by rw[az,hd];rfl),_,_,rfl,rfl,_,rfl,?_⟩;have q:=k _ s1;unfold F7 at q;rw[ha,eg,qj] at q;refine B7 (λh=>?_) (λh=>?_)
  ·have h1:(1:Int)<=d:=by simpa using h
   rw[decide_eq_true h1,qj] at q;refine⟨_,_,rfl,rfl,_,rfl,?_⟩;refine B7 (λh'=>?_) (λh'=>?_)
   ·have h2:d<=24:=by simpa using h'
    rw[decide_eq_true h2,qj] at q;refine⟨_,rfl,a,l,rfl,.inr (s1.tup hl),rfl,?_⟩;have e:decide (V.int ((BX l:Nat):Int)=V.int 1)=decide (BX l=1):=by
     rw[decide_eq_decide];constructor
     ·intro z;injection z with z;omega
     ·intro z;rw[z];rfl
    rw[e];exact q
   ·have h2:¬d<=24:=by simpa using h'
    rw[decide_eq_false h2,tP] at q;exact q
  ·have h1:¬(1:Int)<=d:=by simpa using h
   rw[decide_eq_false h1,tP,tP] at q;exact⟨_,rfl,BJ q⟩
end
open PySem PySem.Spec PyProof.Rows L2
section
variable {P:aw} {w:bv} {K:aa} {mg:Str->Option ag} {base:Heap}
theorem EF (K:aa) (h:X.K=K:=by rfl):IxR X (lU K):=h▸DL
def LF (x y:List Int) (k:Nat):Int:=x.getD k 0*y.getD 4 0+y.getD k 0*x.getD 4 0
def EC (x y:List Int):List Int:=(ji 4).map (LF x y)++[x.getD 4 0*y.getD 4 0]
def BU (x y:List Int):List Int:=(EC x y).map λz=>z / (BX (EC x y):Int)
def dB (K:aa):Sp:=λvs H Q _=>Ex4 λ(ax ay:Addr) (x y:List Int)=>vs=[.ref ax,.ref ay]/\SqT K H ax (x.map V.int)/\SqT K H ay (y.map V.int)/\x.length=5/\y.length=5/\(∀z∈x,z.natAbs<2 ^ 60)/\
 0<x.getD 4 0/\0<y.getD 4 0/\y.getD 4 0<2 ^ 60/\∀H' r,Same H H'->H' r=some (.tup ((BU x y).map V.int))->Q (.ref r) H'
theorem sc_up:FnScope ["x","y","numbers","common","k","number"] ["x","y"] (AH IT):={}
def L0:Expr->Scope
 | .ListComp _ _ sc _=>sc
 | .Call _ (e::_) _ _=>L0 e
 |_=>{ kind:=.function,names:=[],isGenerator:=false,isCoroutine:=false }
def rhs:Stmt->Expr
 | .Assign _ e _=>e
 | .Return (some e) _=>e
 |_=>.Constant .none 0 ⟨0,0,0,0⟩
theorem dC:BlkOk ["x","y","numbers","common","k","number"] (AH IT) (L0 (rhs ((BR IT).getD 0 (.Pass ⟨0,0,0,0⟩)))) [("k",4)]:={}
theorem dD:BlkOk ["x","y","numbers","common","k","number"] (AH IT) (L0 (rhs ((BR IT).getD 3 (.Pass ⟨0,0,0,0⟩)))) [("number",5)]:={}
theorem EU {l:List Int} {z:Int} (hz:(i:Int)=z) (hi:i<l.length):atI (l.map V.int) z=some (.int (l.getD i 0)):=by
 rw[←hz];exact DH (by rw[az,aj hi];simp[uN,aj hi])
theorem RT {l:List Int} (hi:i<l.length):l.getD i 0∈l:=by
 simp[uN,aj hi]
theorem JN:∀(l:List Int) (g:Nat),GV g l∣g/\∀z∈l,((GV g l:Nat):Int)∣z
 |[],g=>⟨wM _,λz h=>by simp at h⟩
 |x::l,g=>by
  obtain⟨h1,h2⟩:=JN l (pj g x);have e:GV g (x::l)=GV (pj g x) l:=rfl;rw[e];refine⟨oa h1 ?_,λz hz=>?_⟩
  ·have:=Int.gcd_dvd_left (a:=(g:Int)) (b:=x);exact uO.mp this
  ·rcases bp.mp hz with rfl|hz
   ·exact Int.dvd_trans (uO.mpr h1) (Int.gcd_dvd_right ..)
   ·exact h2 z hz
theorem IZ {l:List Int} {z:Int} (h:z∈l):((BX l:Nat):Int)∣z:=(JN l 0).2 z h
theorem KG (x y:List Int):x.getD 4 0*y.getD 4 0∈EC x y:=by unfold EC;simp
theorem VM {y:List Int} (hx:0<x.getD 4 0) (hy:0<y.getD 4 0):0<(BX (EC x y):Int):=by
 have h:0<x.getD 4 0*y.getD 4 0:=xB hx hy;have hd:=IZ (KG x y);obtain⟨q,hq⟩:=hd;by_cases h0:BX (EC x y)=0
 ·rw[h0] at hq;have hq':x.getD 4 0*y.getD 4 0=0:=by rw[hq];exact Int.zero_mul q
  omega
 ·omega
theorem mI (F:Fun K "upon" "upon" IT f fd) (B:Blt mg) (D1:Def P w K mg base 2 "common_factor_of_all" ["numbers"] (ZC K)):
 FnOk P w K mg base (CX1 P w) 3 f fd ["x","y"] (dB K):=by
 refine F.okx sc_up λcdv A outer s H vs Q E hr h=>?_;obtain⟨ax,ay,x,y,rfl,hx,hy,h5,g5,bx,px,py,by4,k⟩:=h;refine⟨_,AB (W8 (i:=2) (own:=[("k",4)]) rfl sc_up.nd rfl rfl (by rfl) (WW (by rfl) B.range (AA AI AF)) dC (λ_ _ _ _ _=>DT 4 sc_up) (λ_ _ _ _ _=>PP)
  (λ_ _ _ _ _=>BC C9 (BC IP (BI (EF K) (pv 0) (pv 4) (λ_ _=>rfl)) (BI (EF K) (pv 1) AI (λ_ _=>rfl))) (BC IP (BI (EF K) (pv 1) (pv 4) (λ_ _=>rfl)) (BI (EF K) (pv 0) AI (λ_ _=>rfl)))))
  (AB (AY (IJ dy fh fi CY (pv 2) (AA (BC IP (BI DL (pv 0) AI (λ_ _=>rfl)) (BI DL (pv 1) AI (λ_ _=>rfl))) AF)))
  (AB (AX 3 sc_up (D1.call hr AD (AA (pv 2) AF)))
  (AC (AJ (HS II (by rfl) B.tuple RQ (AA (Y6 (own:=[("number",5)]) rfl sc_up.nd (DG (pv 2)) dD (λ_ _ _ _ _=>DT 5 sc_up) (λ_ _ _ _ _=>PP)
   (λ_ _ _ _ _=>BC ZA (pv 5) (pv 3))) AF)))))),?_⟩
 and_intros
 have x4:(x.getD 4 0).natAbs<2 ^ 60:=bx _ (RT (by omega));refine⟨4,rfl,by decide,by decide,λD1' hD1=>TM (n:=4) (λi H'=>H'=upd H D1' (.lst (((ji i).map (LF x y)).map V.int))) rfl (λi H' hi _=>hi) (λH' _=>aq _) ?_ ?_⟩
 ·rintro i v H1 H2 hi rfl ⟨rfl,rfl⟩;have s1:Same H (upd H D1' (.lst (((ji i).map (LF x y)).map V.int))):=Same.upd hD1;refine⟨rfl,?_⟩;have xi:(x.getD i 0).natAbs<2 ^ 60:=bx _ (RT (by omega));refine⟨_,rfl,_,rfl,ax,_,_,_,rfl,rfl,s1.tup hx,EU (i:=i) (by omega) (by omega),_,rfl,ay,_,_,_,rfl,rfl,s1.tup hy,EU (i:=4) rfl (by omega),_,_,rfl,rfl,.inl ⟨by omega,by omega⟩,
   _,rfl,_,rfl,ay,_,_,_,rfl,rfl,s1.tup hy,EU (i:=i) (by omega) (by omega),_,rfl,ax,_,_,_,rfl,rfl,s1.tup hx,EU (i:=4) rfl (by omega),_,_,rfl,rfl,.inr ⟨by omega,by omega⟩,_,_,rfl,rfl,_,upd_same,?_,?_⟩
  ·rw[ah,ah,ll,bw];omega
  ·funext b;by_cases hb:b=D1'
   ·subst hb;rw[upd_same,upd_same,vm,dm,dm];rfl
   ·rw[AE hb,AE hb,AE hb]
 ·rintro H1 rfl;have s1:Same H (upd H D1' (.lst (((ji 4).map (LF x y)).map V.int))):=Same.upd hD1;refine⟨_,rfl,.inl ⟨rfl,_,SqL.of upd_same⟩,_,rfl,ax,_,_,_,rfl,rfl,s1.tup hx,EU (i:=4) rfl (by omega),_,rfl,ay,_,_,_,rfl,rfl,s1.tup hy,EU (i:=4) rfl (by omega),_,_,rfl,rfl,.inl ⟨by omega,by omega⟩,
   D1',_,_,rfl,rfl,upd_same,?_,?_⟩
  ·rw[ah,ah,ll,bw];omega
  have e1:((ji 4).map (LF x y)).map V.int++[V.int (x.getD 4 0*y.getD 4 0)]=(EC x y).map V.int:=by unfold EC;rw[dm];rfl
  rw[e1];have s2:Same H (upd (upd H D1' (.lst (((ji 4).map (LF x y)).map V.int))) D1' (.lst ((EC x y).map V.int))):=λb o e=>by
   have n:=AG e hD1;rw[AE n,AE n];exact e
  generalize hH2:upd (upd H D1' (.lst (((ji 4).map (LF x y)).map V.int))) D1' (.lst ((EC x y).map V.int))=H2;rw[hH2] at s2;have l2:H2 D1'=some (.lst ((EC x y).map V.int)):=by rw[←hH2];exact upd_same
  refine⟨_,rfl,D1',EC x y,rfl,.inl (SqL.of l2),?_⟩;have gp:=VM (x:=x) (y:=y) px py;have gb:(BX (EC x y):Int)<2 ^ 1000:=by
   have h1:(BX (EC x y):Int)<=x.getD 4 0*y.getD 4 0:=Int.le_of_dvd (xB px py) (IZ (KG x y));have h2:x.getD 4 0*y.getD 4 0<=2 ^ 60*2 ^ 60:=yn (by omega) (by omega) (by omega) (by decide);have h3:(2:Int) ^ 60*2 ^ 60<2 ^ 1000:=by decide
   omega
  refine⟨_,rfl,D1',rfl,⟨_,SqL.of l2⟩,λD2 hD2=>TM (n:=(EC x y).length) (λi H'=>H'=upd H2 D2 (.lst (((BU x y).take i).map V.int))) (by simp) (λi H' hi e=>?_) (λH' e=>?_) ?_ ?_⟩
  ·subst e;have n:D1'≠D2:=AG l2 hD2;exact⟨_,.int ((EC x y)[i]),SqL.of (by rw[AE n];exact l2),by rw[az,aj hi];rfl⟩
  ·subst e;have n:D1'≠D2:=AG l2 hD2;exact⟨_,SqL.of (by rw[AE n];exact l2),by rw[ah];exact aq _⟩
  ·rintro i v H3 H4 hi rfl ⟨rfl,hy'⟩;have n:D1'≠D2:=AG l2 hD2;obtain⟨z,hz,rfl⟩:=LZ (hy' _ (SqL.of (by rw[AE n];exact l2)));refine⟨rfl,?_⟩;refine⟨_,rfl,_,rfl,_,_,rfl,rfl,⟨gp,gb⟩,_,upd_same,?_,?_⟩
   ·rw[ah,dk,bw];have:(BU x y).length=5:=by simp[BU,EC]
    omega
   ·funext b;by_cases hb:b=D2
    ·subst hb;rw[upd_same,upd_same,dj];have e2:(BU x y)[i]? =some (z / (BX (EC x y):Int)):=by unfold BU;rw[az,hz];rfl
     rw[e2,dm];rfl
    ·rw[AE hb,AE hb,AE hb]
  ·rintro H3 rfl;have e3:(BU x y).take (EC x y).length=BU x y:=by
    rw[sr];unfold BU;rw[ah];exact aq _
   rw[e3];refine⟨D2,_,rfl,.inl ⟨SqL.of upd_same,λr hr'=>?_⟩⟩;refine k _ r (λb o e=>?_) upd_same;have n1:b≠D2:=AG (s2 b o e) hD2;have n2:b≠r:=by
    refine AG (o:=o) ?_ hr';rw[AE n1];exact s2 b o e
   rw[AE n2,AE n1];exact s2 b o e
end
open PySem PySem.Spec PyProof.Rows L2
open PySem.Builtin.Int (intBits)
section
variable {P:aw} {w:bv} {K:aa} {mg:Str->Option ag} {base:Heap}
def mJ:Sp:=λvs H Q _=>Ex2 λ(b:Int) (p:Nat)=>vs=[.int b,.int p]/\(0<=b/\b<=7)/\p<=10000/\Q (.int (b ^ p)) H
theorem RU:FnScope ["base","power","result"] ["base","power"] (AH M6):={}
theorem ZD {b:Int} (h:0<=b/\b<=7):intBits b<=3:=intBits_le_iff.mpr (by have:=h.1;have:=h.2;omega)
theorem KH {b:Int} (h:0<=b/\b<=7) {m:Nat} (hm:m<=100000) (hn:n<=100000):IntMulOk (b ^ m) (b ^ n):=
 .of_le (vN (ZD h) m) (vN (ZD h) n) (by omega)
theorem mK (F:Fun K "raised" "raised" M6 f fd):FnOk P w K mg base (CX1 P w) 1 f fd ["base","power"] mJ:=by
 refine F.okx RU λcdv A outer s H vs Q E hr h=>?_;obtain⟨b,p,rfl,hb,hp,k⟩:=h;refine⟨_,AB (AX 2 RU AI)
  (AB (B3 bn (AO E3 (pv 1) AI (AQ _))
   (AB (AW (AO CP (BC SW (pv 1) AI) AI (AQ _)) (AC (AX 2 RU (BC LY (pv 2) (pv 0)))) AM)
   (AB (AX 0 RU (BC LY (pv 0) (pv 0)))
   (AC (AX 1 RU (BC LR (pv 1) AI))))))
  (AC (AJ (pv 2)))),?_⟩
 and_intros
 refine Q0 (λσ H'=>H'=H/\Ex3 λe q n:Nat=>σ=[some (.int (b ^ e)),some (.int n),some (.int (b ^ q))]/\q+e*n=p) (λσ _=>match σ with|[_,some (.int n),_]=>n.toNat|_=>0)
  ⟨rfl,1,0,p,(by show[some (V.int b),some (V.int p),some (V.int 1)]=_;rw[Int.pow_succ,Int.pow_zero,xC]),by omega⟩ ?_ ?_
 ·rintro σ H' ⟨rfl,e,q,n,rfl,g⟩;refine⟨_,rfl,_,_,rfl,rfl,_,rfl,?_⟩;refine B7 (λhn=>?_) (λhn=>?_)
  ·have hn0:0<(n:Int):=by simpa using hn
   have he:e<=p:=by
    have h1:e*1<=e*n:=Nat.mul_le_mul_left e (by omega);omega
   have hq:q<=p:=by omega
   have sq:b ^ e*b ^ e=b ^ (e+e):=(zE b e e).symm;have hd:((n:Int) / 2)=((n / 2:Nat):Int):=by omega
   refine⟨_,rfl,_,_,rfl,rfl,(by show(0:Int)<2;decide),rfl,_,rfl,?_⟩;refine B7 (λh1=>?_) (λh1=>?_)
   ·have hm:(n:Int)%2=1:=by simpa using h1
    refine⟨_,rfl,_,rfl,_,_,rfl,rfl,KH hb (by omega) (by omega),_,rfl,_,rfl,_,_,rfl,rfl,KH hb (by omega) (by omega),_,rfl,_,_,rfl,rfl,⟨by decide,by decide⟩,⟨rfl,e+e,q+e,n / 2,?_,?_⟩,?_⟩
    ·show[some (V.int (b ^ e*b ^ e)),some (V.int ((n:Int) / 2)),some (V.int (b ^ q*b ^ e))]=_;rw[sq,hd, ←zE]
    ·have h2:n=2*(n / 2)+1:=by omega
     have h3:e*n=(e+e)*(n / 2)+e:=by
      conv=>lhs;rw[h2]
      rw[Nat.mul_add,ur, ←jz,dc e 2,zH]
     omega
    ·show((n:Int) / 2).toNat<(n:Int).toNat;omega
   ·have hm:¬(n:Int)%2=1:=by simpa using h1
    refine⟨_,rfl,_,rfl,_,_,rfl,rfl,KH hb (by omega) (by omega),_,rfl,_,_,rfl,rfl,⟨by decide,by decide⟩,⟨rfl,e+e,q,n / 2,?_,?_⟩,?_⟩
    ·show[some (V.int (b ^ e*b ^ e)),some (V.int ((n:Int) / 2)),some (V.int (b ^ q))]=_;rw[sq,hd]
    ·have h2:n=2*(n / 2):=by omega
     have h3:e*n=(e+e)*(n / 2):=by
      conv=>lhs;rw[h2]
      rw[←jz,dc e 2,zH]
     omega
    ·show((n:Int) / 2).toNat<(n:Int).toNat;omega
  ·have hn0:n=0:=by
    have:¬(0:Int)<n:=by simpa using hn
    omega
   subst hn0;have e1:q=p:=by omega
   subst e1;exact⟨_,rfl,k⟩
 ·rintro σ H' Q1 Q2 hq ⟨v1,e1,z1⟩;exact⟨v1,e1,let ⟨i,j,a,b,c,d,e⟩:=z1;⟨i,j,a,b,c,d,hq _ _ e⟩⟩
def prm:List Int:=[2,3,5,7]
def pw (x y:List Int) (k:Nat):Int:=y.getD k 0*x.getD 4 0 - x.getD k 0*y.getD 4 0
def IK (x y:List Int):Nat->Int
 |0=>1
 |i+1=>if 0<pw x y i then IK x y i*prm.getD i 0 ^ (pw x y i).toNat else IK x y i
def IL (x y:List Int):Nat->Int
 |0=>1
 |i+1=>if 0<pw x y i then IL x y i else IL x y i*prm.getD i 0 ^ (-pw x y i).toNat
def BH (x y:List Int):Bool:=decide (IL x y 4<IK x y 4)
def Sm (l:List Int):Prop:=l.length=5/\(∀k,k<4->(l.getD k 0).natAbs<=99)/\1<=l.getD 4 0/\l.getD 4 0<=24
theorem M8 {a b:Int} {m:Nat} (h1:a.natAbs<=m) (h2:b.natAbs<=n):(a*b).natAbs<=m*n:=by rw[ub];exact Nat.mul_le_mul h1 h2
theorem ZE {y:List Int} (hx:Sm x) (hy:Sm y) {k:Nat} (hk:k<4):(pw x y k).natAbs<=4752:=by
 have h1:(y.getD k 0*x.getD 4 0).natAbs<=99*24:=M8 (hy.2.1 k hk) (by have:=hx.2.2;omega);have h2:(x.getD k 0*y.getD 4 0).natAbs<=99*24:=M8 (hx.2.1 k hk) (by have:=hy.2.2;omega);unfold pw;omega
theorem TQ (h:i<4):0<=prm.getD i 0/\prm.getD i 0<=7:=by
 match i,h with
 |0,_=>decide
 |1,_=>decide
 |2,_=>decide
 |3,_=>decide
theorem JO {y:List Int} (hx:Sm x) (hy:Sm y) (h:i<4) (e:Nat) (he:e<=4752):intBits (prm.getD i 0 ^ e)<=20000:=
 cu (vN (ZD (TQ h)) e) (by omega)
theorem fF {y:List Int} (hx:Sm x) (hy:Sm y):∀i,i<=4->intBits (IK x y i)<=1+20000*i
 |0,_=>(by decide:intBits (1:Int)<=1)
 |i+1,h=>by
  have ih:=fF hx hy i (by omega);have hp:=ZE hx hy (k:=i) (by omega);rw[IK];split
  ·exact cu (yo ih (JO hx hy (by omega) _ (by omega))) (by omega)
  ·exact cu ih (by omega)
theorem fG {y:List Int} (hx:Sm x) (hy:Sm y):∀i,i<=4->intBits (IL x y i)<=1+20000*i
 |0,_=>(by decide:intBits (1:Int)<=1)
 |i+1,h=>by
  have ih:=fG hx hy i (by omega);have hp:=ZE hx hy (k:=i) (by omega);rw[IL];split
  ·exact cu ih (by omega)
  ·exact cu (yo ih (JO hx hy (by omega) _ (by omega))) (by omega)
theorem ZF (h:i<4):(prm.map V.int)[i]? =some (.int (prm.getD i 0)):=by
 match i,h with
 |0,_=>rfl
 |1,_=>rfl
 |2,_=>rfl
 |3,_=>rfl
def dE (K:aa):Sp:=λvs H Q _=>Ex4 λ(ax ay:Addr) (x y:List Int)=>vs=[.ref ax,.ref ay]/\SqT K H ax (x.map V.int)/\SqT K H ay (y.map V.int)/\Sm x/\Sm y/\∀H',Same H H'->Q (.bl (BH x y)) H'
theorem K4:FnScope ["x","y","above","below","k","prime","power"] ["x","y"] (AH IU):={}
theorem mL (F:Fun K "narrower" "narrower" IU f fd) (B:Blt mg) (gp:GT K mg "PRIMES" (prm.map V.int)) (D1:Def P w K mg base 1 "raised" ["base","power"] mJ):
 FnOk P w K mg base (CX1 P w) 2 f fd ["x","y"] (dE K):=by
 refine F.okx K4 λcdv A outer s H vs Q E hr h=>?_;obtain⟨ax,ay,x,y,rfl,hx,hy,sx,sy,k⟩:=h;refine⟨_,AB (AX 2 K4 AI) (AB (AX 3 K4 AI)
  (AB (B4 bn rfl (RM (by rfl) B.enum (AA (OQ gp) AF)) (J0 rfl (CG (DT 4 K4) (CG (DT 5 K4) HR)))
   (AB (AX 6 K4 (BC G0 (BC IP (BI DL (pv 1) (pv 4) (λ_ _=>rfl)) (BI DL (pv 0) AI (λ_ _=>rfl))) (BC IP (BI DL (pv 0) (pv 4) (λ_ _=>rfl)) (BI DL (pv 1) AI (λ_ _=>rfl)))))
   (AC (AW (AO E3 (pv 6) AI (AQ _))
    (AC (AX 2 K4 (BC LY (pv 2) (D1.call hr AD (AA (pv 5) (AA (pv 6) AF))))))
    (AC (AX 3 K4 (BC LY (pv 3) (D1.call hr AD (AA (pv 5) (AA (GX EM (pv 6)) AF))))))))))
  (AC (AJ (DS E3 (pv 2) (pv 3) (AQ _)))))),?_⟩
 and_intros
 intro pa hpa;refine⟨pa,prm.map V.int,rfl,hpa _,GN (n:=4) (λi σ H'=>Same H H'/\Ex3 λr4 r5 r6=>σ=[some (.ref ax),some (.ref ay),some (.int (IK x y i)),some (.int (IL x y i)),r4,r5,r6]) ⟨Same.refl _,none,none,none,rfl⟩ ?_ ?_ ?_ ?_⟩
 ·rintro i σ H' hi _;exact⟨prm.map V.int,.int (prm.getD i 0),hpa H',ZF hi⟩
 ·rintro σ H' _;exact⟨prm.map V.int,hpa H',rfl⟩
 ·rintro i v σ H1 H2 hi ⟨s1,r4,r5,r6,rfl⟩ ⟨T,xv,rfl,nT,rfl,hxv⟩;have hxv':=hxv _ (hpa H1);have exv:xv= .int (prm.getD i 0):=cp (hxv'.symm.trans (ZF hi));subst exv;have s2:Same H (upd H1 T (.tup [.int (i:Nat),.int (prm.getD i 0)])):=s1.trans (Same.upd nT);have b1:=sx.2.1 i hi;have b2:=sy.2.1 i hi;have b3:=sx.2.2;have b4:=sy.2.2;refine⟨T,_,rfl,SqT.of upd_same,rfl,_,_,rfl,_,_,rfl,rfl,?_⟩;refine⟨_,rfl,_,rfl,ay,_,_,_,rfl,rfl,s2.tup hy,EU (i:=i) rfl (by rw[sy.1];omega),_,rfl,ax,_,_,_,rfl,rfl,s2.tup hx,EU (i:=4) rfl (by rw[sx.1];decide),_,_,rfl,rfl,.inl ⟨by omega,by omega⟩,
   _,rfl,_,rfl,ax,_,_,_,rfl,rfl,s2.tup hx,EU (i:=i) rfl (by rw[sx.1];omega),_,rfl,ay,_,_,_,rfl,rfl,s2.tup hy,EU (i:=4) rfl (by rw[sy.1];decide),_,_,rfl,rfl,.inl ⟨by omega,by omega⟩,_,_,rfl,rfl,?_⟩
  have hp:=ZE sx sy hi;have ep:y.getD i 0*x.getD 4 0 - x.getD i 0*y.getD 4 0=pw x y i:=rfl;refine⟨V.int (pw x y i),rfl,pw x y i,0,rfl,rfl,_,rfl,B7 (λh=>?_) (λh=>?_)⟩
  ·have h0:0<pw x y i:=by simpa using h
   refine⟨_,rfl,_,rfl,V.int (pw x y i),rfl,prm.getD i 0,(pw x y i).toNat,?_,TQ hi,by omega,_,_,rfl,rfl,?_,s2,some (.int i),some (.int (prm.getD i 0)),some (.int (pw x y i)),?_⟩
   ·rw[mn (by omega)];rfl
   ·exact .of_le (fF sx sy i (by omega)) (JO sx sy hi _ (by omega)) (by omega)
   ·rw[IK,IL,if_pos h0,if_pos h0];rfl
  ·have h0:¬0<pw x y i:=by simpa using h
   refine⟨_,rfl,_,rfl,V.int (pw x y i),rfl,pw x y i,rfl,prm.getD i 0,(-pw x y i).toNat,?_,TQ hi,by omega,_,_,rfl,rfl,?_,s2,some (.int i),some (.int (prm.getD i 0)),some (.int (pw x y i)),?_⟩
   ·rw[mn (by omega)];rfl
   ·exact .of_le (fG sx sy i (by omega)) (JO sx sy hi _ (by omega)) (by omega)
   ·rw[IK,IL,if_neg h0,if_neg h0];rfl
 ·rintro σ H' ⟨s1,r4,r5,r6,rfl⟩;exact⟨_,rfl,_,rfl,_,_,rfl,rfl,k _ s1⟩
end
open PySem PySem.Spec PyProof.Rows L2
def dF (H:Hp) (a C:Addr) (fs:List (Str×V)) (H':Hp):Prop:=(∃d,d≠a/\H d=none/\H' a=some (XoO a C (some d) .none none)/\H' d=some (XdO d fs))/\∀b o,H b=some o->b≠a->H' b=some o
def mM (C:Addr):Sp:=λvs H Q _=>Ex2 λ(a:Addr) (p:Int)=>vs=[.ref a,.int p]/\H a=some (XoO a C none .none none)/\∀H',dF H a C [("place",.int p)] H'->Q .non H'
def mN (K:aa):Sp:=λvs H Q _=>Ex3 λ(a C:Addr) (n:Int)=>vs=[.ref a,.int n]/\H a=some (XoO a C none .none none)/\XCls K C/\NoAttr K C "answer"/\∀H',dF H a C [("answer",.int n)] H'->Q .non H'
def IF (C:Addr) (n:Int):Sp:=λvs H Q _=>∃(a:Addr),vs=[.ref a]/\H a=some (XoO a C none .none none)/\∀H',dF H a C [("answer",.int n)] H'->Q .non H'
def iJ (C:Addr):Sp:=λvs H Q _=>Ex3 λ(a:Addr) (l c:Int)=>vs=[.ref a,.int l,.int c]/\H a=some (XoO a C none .none none)/\∀H',dF H a C [("answer",.int (-3)),("line",.int l),("course",.int c)] H'->Q .non H'
section
variable {P:aw} {w:bv} {K:aa} {mg:Str->Option ag} {base:Heap}
theorem mO:FnScope ["self","place"] ["self","place"] (AH D9):={}
theorem mP (F:Fun K "__init__" "TextFault.__init__" D9 f fd) (xc:XCls K C) (na:NoAttr K C "place"):FnOkU P w K mg base (CX1 P w) 1 f fd ["self","place"] (mM C):=by
 refine F.oku mO λcdv A outer s H vs Q E hr h=>?_;obtain⟨a,p,rfl,ea,k⟩:=h;refine⟨_,AC (RH (pv 0) (pv 1) rfl),?_⟩
 subst_eqs
 refine⟨_,rfl,_,rfl,a,C,_,_,rfl,ea,xc,na,λd hd hn=>k _ ⟨⟨d,hn,hd,upd_same,by rw[AE hn,upd_same]⟩,λb o e hb=>?_⟩⟩;rw[AE hb,AE (AG e hd)];exact e
theorem mQ:FnScope ["self","answer"] ["self","answer"] (AH E6):={}
theorem mS (F:Fun K "__init__" "Refusal.__init__" E6 f fd):FnOkU P w K mg base (CX1 P w) 1 f fd ["self","answer"] (mN K):=by
 refine F.oku mQ λcdv A outer s H vs Q E hr h=>?_;obtain⟨a,C,n,rfl,ea,xc,na,k⟩:=h;refine⟨_,AC (RH (pv 0) (pv 1) rfl),?_⟩
 subst_eqs
 refine⟨_,rfl,_,rfl,a,C,_,_,rfl,ea,xc,na,λd hd hn=>k _ ⟨⟨d,hn,hd,upd_same,by rw[AE hn,upd_same]⟩,λb o e hb=>?_⟩⟩;rw[AE hb,AE (AG e hd)];exact e
structure RfI (P:aw) (w:bv) (K:aa) (mg:Str->Option ag) (base:Heap) (CR f:Addr) (fd:du):Prop where
 mgR:mg "Refusal"=some (.ref CR)
 sp:uo K (.ref CR) "__getattribute__"=some (some (.builtin "type.__getattribute__"))
 rd:vk K CR (.type "type")=true
 fc:qv K (.ref CR) (.type "type") "__init__"=some (.val (.ref f))
 kp:dq K (.ref f)=true
 bd:Binds K fd ["self","answer"] []
 ok:FnOkU P w K mg base (CX1 P w) 1 f fd ["self","answer"] (mN K)
theorem TR:FnScope ["self"] ["self"] (AH E7):={}
theorem TU {fR:Addr} {fdR:du} (F:Fun K "__init__" "TooLong.__init__" E7 f fd) (R:RfI P w K mg base CR fR fdR) (xc:XCls K C) (na:NoAttr K C "answer"):FnOkU P w K mg base (CX1 P w) 2 f fd ["self"] (IF C (-2)):=by
 refine F.oku TR λcdv A outer s H vs Q E hr h=>?_;obtain⟨a,rfl,ea,k⟩:=h;refine⟨_,AC (AY (HV (mc:=.type "type") (by rfl) R.mgR R.sp R.rd R.fc R.kp R.ok hr R.bd out_cxU.passes (AA (pv 0) (AA (GX EM AI) AF)))),?_⟩
 subst_eqs
 exact⟨_,rfl,_,rfl,a,C, -2,rfl,ea,xc,na,λH' hb'=>k H' hb'⟩
theorem LG:FnScope ["self"] ["self"] (AH DB):={}
theorem LH {fR:Addr} {fdR:du} (F:Fun K "__init__" "NoInstrument.__init__" DB f fd) (R:RfI P w K mg base CR fR fdR) (xc:XCls K C) (na:NoAttr K C "answer"):FnOkU P w K mg base (CX1 P w) 2 f fd ["self"] (IF C (-6)):=by
 refine F.oku LG λcdv A outer s H vs Q E hr h=>?_;obtain⟨a,rfl,ea,k⟩:=h;refine⟨_,AC (AY (HV (mc:=.type "type") (by rfl) R.mgR R.sp R.rd R.fc R.kp R.ok hr R.bd out_cxU.passes (AA (pv 0) (AA (GX EM AI) AF)))),?_⟩
 subst_eqs
 exact⟨_,rfl,_,rfl,a,C, -6,rfl,ea,xc,na,λH' hb'=>k H' hb'⟩
theorem TV:FnScope ["self"] ["self"] (AH E8):={}
theorem TW {fR:Addr} {fdR:du} (F:Fun K "__init__" "NoPiece.__init__" E8 f fd) (R:RfI P w K mg base CR fR fdR) (xc:XCls K C) (na:NoAttr K C "answer"):FnOkU P w K mg base (CX1 P w) 2 f fd ["self"] (IF C (-8)):=by
 refine F.oku TV λcdv A outer s H vs Q E hr h=>?_;obtain⟨a,rfl,ea,k⟩:=h;refine⟨_,AC (AY (HV (mc:=.type "type") (by rfl) R.mgR R.sp R.rd R.fc R.kp R.ok hr R.bd out_cxU.passes (AA (pv 0) (AA (GX EM AI) AF)))),?_⟩
 subst_eqs
 exact⟨_,rfl,_,rfl,a,C, -8,rfl,ea,xc,na,λH' hb'=>k H' hb'⟩
theorem mU:FnScope ["self","line","course"] ["self","line","course"] (AH FV):={}
theorem mV {fR:Addr} {fdR:du} (F:Fun K "__init__" "Misfit.__init__" FV f fd) (R:RfI P w K mg base CR fR fdR) (xc:XCls K C) (na:NoAttr K C "answer") (nl:NoAttr K C "line") (nc:NoAttr K C "course"):
 FnOkU P w K mg base (CX1 P w) 2 f fd ["self","line","course"] (iJ C):=by
 refine F.oku mU λcdv A outer s H vs Q E hr h=>?_;obtain⟨a,l,c,rfl,ea,k⟩:=h;refine⟨_,AB (AY (HV (mc:=.type "type") (by rfl) R.mgR R.sp R.rd R.fc R.kp R.ok hr R.bd out_cxU.passes (AA (pv 0) (AA (GX EM AI) AF))))
  (AB (VG (pv 0) (pv 1) rfl) (AC (VG (pv 0) (pv 2) rfl))),?_⟩
 and_intros
 refine⟨_,rfl,_,rfl,a,C, -3,rfl,ea,xc,na,λH' ⟨⟨d,dn,d0,e1,e2⟩,kp⟩=>?_⟩;refine⟨_,rfl,_,rfl,a,C,d,_,_,_,rfl,e1,e2,dn,xc,nl,by decide,?_⟩;refine⟨_,rfl,_,rfl,a,C,d,_,_,_,rfl,(by rw[AE (cq dn)];exact e1),upd_same,dn,xc,nc,(tY (FK _ _ _) (by show 1+1<1000;decide)),?_⟩;refine k _ ⟨⟨d,dn,d0,(by rw[AE (cq dn),AE (cq dn)];exact e1),upd_same⟩,λb o e hb=>?_⟩;have nd:b≠d:=AG e d0;rw[AE nd,AE nd];exact kp b o e hb
end
def tWk (te:TE) (K0:VK):TE:=λσ H Q=>te σ H K0/\∀x H1,K0 x H1->Q x H1
theorem IM {e:Expr} {te:TE} {K0:VK} (he:PE X e te):PE X e (tWk te K0):=λpins s σ H Q I ⟨h,k⟩=>thn (he pins s σ H K0 I h) λu s1 ⟨v,H1,I1,r,q⟩=>⟨v,H1,I1,r,k v H1 q⟩
def KI (CT:Addr) (E:XK) (te:TE):TS:=λ_ σ H=>te σ H λx H1=>∃z:Int,x= .int z/\E (.ref CT) none (xH [("place",.int z)])
abbrev TFm (P:aw) (w:bv) (K:aa) (mg:Str->Option ag) (base:Heap) (CT:Addr):Prop:=XMr P w K mg base 1 CT "TextFault" ["self","place"] (mM CT)
theorem BF {e:Expr} {te:TE} {p pos':Pos} {k':Nat} (T:TFm X.prog X.w X.K X.mg X.base CT) (hr:Room k' X.A) (o:Out X E) (hc:X.calm=true) (he:PE X e te) (hk:2<=k':=by decide) (hg:Gl X "TextFault":=by rfl)
 (hs:bc [e] X.env=(false,eval e X.env)::bc [] X.env:=by rfl):PS X (.Raise (some (.Call (.Name "TextFault" p) [e] [] pos')) none pos) (KI CT E te):=by
 have q:=G6 (pos:=pos) o hc (T.call (pos:=pos') (p:=p) hr.u o (AA (IM (K0:=λx _=>∃z:Int,x= .int z/\E (.ref CT) none (xH [("place",.int z)])) he) AF hs) hk hg (he:=hs));intro pins s σ H D I h;refine q pins s σ H D I ⟨h,λv H' ⟨z,ev,hE⟩=>⟨(by show 1<=100;decide),λa ha=>⟨a,z,by subst ev;rfl,upd_same,λH2 ⟨⟨d,dn,d0,e1,e2⟩,_⟩=>⟨rfl,a,CT,_,rfl,⟨d,dn,e1,e2⟩,T.2.1,hE⟩⟩⟩⟩
open PySem PySem.Spec PyProof.Rows L2
def BP (l:List Nat) (b:Int):Option Nat:=l.findIdx? λ(c:Nat)=>decide ((c:Int)=b)
def HI (l:List Nat) (b:Int):V:=match BP l b with
 |some n=>.int (n:Nat)
 |none=>.non
theorem JP {l:List Nat} {b:Int} (h:∀(i c:Nat),l[i]? =some c->¬(c:Int)=b):BP l b=none:=by
 unfold BP;rw[List.findIdx?_eq_none_iff];intro c hc;obtain⟨i,hi⟩:=lp hc;exact decide_eq_false (h i c hi)
theorem P2 {l:List Nat} {b:Int} {c:Nat} (hi:l[i]? =some c) (hc:(c:Int)=b) (h:∀(j d:Nat),j<i->l[j]? =some d->¬(d:Int)=b):BP l b=some i:=by
 unfold BP;rw[kr];obtain⟨hlt,e⟩:=au.mp hi;refine⟨hlt,by rw[e];exact decide_eq_true hc,λj hj=>?_⟩;have:=h j l[j] hj (aj (mz hj hlt));simpa using this
def iK:Sp:=λvs H Q _=>Ex2 λ(z:Str) (b:Int)=>vs=[.str z,.int b]/\∀H',Same H H'->Q (HI z.cps.toList b) H'
section
variable {P:aw} {w:bv} {K:aa} {mg:Str->Option ag} {base:Heap}
theorem ZG:FnScope ["signs","byte","number","sign"] ["signs","byte"] (AH FW):={}
theorem mW (F:Fun K "sign_number" "sign_number" FW f fd) (B:Blt mg):FnOk P w K mg base (CX1 P w) 1 f fd ["signs","byte"] iK:=by
 refine F.okx ZG λcdv A outer s H vs Q E hr h=>?_;obtain⟨z,b,rfl,k⟩:=h;refine⟨_,AB (B4 bn rfl (Y5 (by rfl) B.enum (AA (pv 0) AF)) (J0 rfl (CG (DT 2 ZG) (CG (DT 3 ZG) HR)))
  (AC (AW (AO CP (AZ YK (by rfl) B.ord ZB (AA (pv 3) AF)) (pv 1) (AQ _)) (AC (AJ (pv 2))) AM)))
  (AC (AJ SS)),?_⟩
 and_intros
 refine⟨_,rfl,z,rfl,GN (n:=z.cps.size) (λi σ H'=>Same H H'/\(Ex2 λr2 r3=>σ=[some (.str z),some (.int b),r2,r3])/\∀(j d:Nat),j<i->z.cps.toList[j]? =some d->¬(d:Int)=b) ⟨Same.refl _,⟨none,none,rfl⟩,λj d hj=>by omega⟩ ?_ ?_ ?_ ?_⟩
 ·rintro i σ H' hi _;exact hi
 ·rintro σ H' _;exact rfl
 ·rintro i v σ H1 H2 hi ⟨s1,⟨r2,r3,rfl⟩,hb⟩ ⟨T,c,rfl,nT,hc,rfl⟩;have s2:Same H (upd H1 T (.tup [.int (i:Nat),.str ⟨#[c]⟩])):=s1.trans (Same.upd nT);have hcl:z.cps.toList[i]? =some c:=by rw[kq];exact hc
  refine⟨T,_,rfl,SqT.of upd_same,rfl,_,_,rfl,_,_,rfl,rfl,?_⟩;refine⟨_,rfl,_,rfl,rfl,_,rfl,rfl,_,rfl,B7 (λh=>?_) (λh=>?_)⟩
  ·have h0:(c:Int)=b:=by
    have q:=of_decide_eq_true h;injection q
   refine⟨_,rfl,?_⟩;have q:=k _ s2;unfold HI at q;rw[P2 hcl h0 hb] at q;exact q
  ·have h0:¬(c:Int)=b:=λq=>h (decide_eq_true (by rw[←q];rfl));refine⟨s2,⟨_,_,rfl⟩,λj d hj hd=>?_⟩;by_cases hji:j=i
   ·subst hji;rw[hcl] at hd;cases hd;exact h0
   ·exact hb j d (by omega) hd
 ·rintro σ H' ⟨s1,⟨r2,r3,rfl⟩,hb⟩;have q:=k _ s1;unfold HI at q;rw[JP λi c hi=>hb i c (by have:=(au.mp hi).1;rw[fq] at this;exact this) hi] at q;exact q
end
def cV (c:UInt8):V:=.int (c.toNat:Nat)
def rf (ta:Addr) (p e:Int):List (Str×V):=[("text",.ref ta),("place",.int p),("end",.int e)]
structure Rd (K:aa) (CR:Addr) (H:Hp) (r ta:Addr) (cs:List UInt8) (e:Nat) (rest:List UInt8):Prop where
 at_:Ex2 λ(dx:Addr) (p:Nat)=>H r=some (.ins CR dx (rf ta p e))/\rest=(cs.take e).drop p/\p<=e
 tx:SqL K H ta (cs.map cV)
 le:e<=cs.length
theorem Sb.lst {K:aa} {dx:Addr} {fs:List (Str×V)} (s:Sb r H H') (hr:H r=some (.ins C dx fs)) (h:SqL K H a xs):SqL K H' a xs:=by
 rcases h with(h|⟨o,h⟩)|h
 ·exact .inl (.inl (s _ _ h (B1 h hr (by intro z;cases z))))
 ·exact .inl (.inr ⟨o,s _ _ h (B1 h hr (by intro z;cases z))⟩)
 ·exact .inr h
theorem ZH (h:[]=(cs.take e).drop p) (hp:p<=e) (he:e<=cs.length):p=e:=by
 have:=congrArg oq h;rw[fu,dk] at this;simp at this;omega
theorem KJ {c:UInt8} (h:c::t=(cs.take e).drop p) (hp:p<=e) (he:e<=cs.length):p<e/\cs[p]? =some c/\t=(cs.take e).drop (p+1):=by
 have hl:=congrArg oq h;rw[fu,dk,cw] at hl;have hlt:p<e:=by omega
 have h0:(c::t)[0]? =((cs.take e).drop p)[0]?:=by rw[h]
 rw[uc,qy] at h0;simp[hlt] at h0;refine⟨hlt,h0.symm,?_⟩;have h1:(c::t).drop 1=((cs.take e).drop p).drop 1:=by rw[h]
 rw[vO] at h1;exact h1
def bt:List UInt8->Int
 |[]=>256
 |c::_=>(c.toNat:Nat)
def Got {α:Type} (K:aa) (CR CT r ta:Addr) (cs:List UInt8) (e:Nat) (H:Hp) (Q:VK) (E:XK) (enc:α->V):Option (α×List UInt8)->Prop
 |some (v,rest')=>∀H',Rd K CR H' r ta cs e rest'->Sb r H H'->Q (enc v) H'
 |none=>∀z:Int,E (.ref CT) none (xH [("place",.int z)])
def pk (z:Str):List UInt8->Option (Nat×List UInt8)
 |[]=>none
 |c::t=>(BP z.cps.toList (c.toNat:Nat)).map (·,t)
theorem BQ (z:Str) (c:UInt8) (t:List UInt8):pk z (c::t)=(BP z.cps.toList (c.toNat:Nat)).map (·,t):=rfl
def OkS (z:Str):Prop:=∀c∈z.cps.toList,c<256
theorem ZI (h:OkS z):BP z.cps.toList 256=none:=JP λi c hi q=>by
 have:=h c (bo hi);omega
def see (z:Str):List UInt8->Bool
 |[]=>false
 |c::_=>(BP z.cps.toList (c.toNat:Nat)).isSome
def DR (n:Nat):V:=.int (n:Nat)
def iL (C:Addr):Sp:=λvs H Q _=>Ex5 λ(r dx ta:Addr) (p e:Int)=>vs=[.ref r,.ref ta,.int p,.int e]/\H r=some (.ins C dx [])/\∀H',H' r=some (.ins C dx (rf ta p e))->Sb r H H'->Q .non H'
def ZJ (K:aa) (C:Addr):Sp:=λvs H Q _=>Ex5 λ(r ta:Addr) (cs:List UInt8) (e:Nat) (rest:List UInt8)=>vs=[.ref r]/\Rd K C H r ta cs e rest/\Q (.bl rest.isEmpty) H
def P3 (K:aa) (C:Addr):Sp:=λvs H Q _=>Ex5 λ(r ta:Addr) (cs:List UInt8) (e:Nat) (rest:List UInt8)=>vs=[.ref r]/\Rd K C H r ta cs e rest/\Q (.int (bt rest)) H
def TX (K:aa) (C:Addr):Sp:=λvs H Q _=>Ex6 λ(r ta:Addr) (cs:List UInt8) (e:Nat) (rest:List UInt8) (z:Str)=>vs=[.ref r,.str z]/\Rd K C H r ta cs e rest/\OkS z/\∀H',Same H H'->Q (.bl (see z rest)) H'
def P4 (K:aa) (C CT:Addr):Sp:=λvs H Q E=>Ex6 λ(r ta:Addr) (cs:List UInt8) (e:Nat) (rest:List UInt8) (z:Str)=>vs=[.ref r,.str z]/\Rd K C H r ta cs e rest/\OkS z/\Got K C CT r ta cs e H Q E DR (pk z rest)
theorem Rd.same {K:aa} {rest:List UInt8} (R:Rd K C H r ta cs e rest) (s:Same H H'):Rd K C H' r ta cs e rest:=
 let ⟨⟨dx,p,h,q⟩,t,l⟩:=R;⟨⟨dx,p,s _ _ h,q⟩,s.seq t,l⟩
section
variable {P:aw} {w:bv} {K:aa} {mg:Str->Option ag} {base:Heap}
structure RdC (K:aa) (C:Addr):Prop where
 cl:Cls K C
 nt:NoAttr K C "text"
 np:NoAttr K C "place"
 ne:NoAttr K C "end"
theorem dG (ta:Addr) (p e:Int):(rf ta p e).lookup ("text":Str)=some (.ref ta):=rfl
theorem M9 (ta:Addr) (p e:Int):(rf ta p e).lookup ("place":Str)=some (.int p):=rfl
theorem mX (ta:Addr) (p e:Int):(rf ta p e).lookup ("end":Str)=some (.int e):=rfl
theorem GF (ta:Addr) (p e:Int) {m:Str} (h1:(m=="text")=false) (h2:(m=="place")=false) (h3:(m=="end")=false):(rf ta p e).lookup m=none:=by
 unfold rf;simp only[jb,h1,h2,h3]
theorem mY:FnScope ["self","text","place","end"] ["self","text","place","end"] (AH FX):={}
theorem mZ (F:Fun K "__init__" "Reader.__init__" FX f fd) (T:RdC K C):FnOk P w K mg base (CX1 P w) 1 f fd ["self","text","place","end"] (iL C):=by
 refine F.okx mY λcdv A outer s H vs Q E hr h=>?_;obtain⟨r,dx,ta,p,e,rfl,hr',k⟩:=h;refine⟨_,AB (CQ (pv 0) (pv 1) rfl) (AB (CQ (pv 0) (pv 2) rfl) (AC (CQ (pv 0) (pv 3) rfl))),?_⟩
 and_intros
 refine⟨_,rfl,_,rfl,r,C,dx,[],rfl,hr',T.cl,T.nt,(by decide),?_⟩;refine⟨_,rfl,_,rfl,r,C,dx,_,rfl,upd_same,T.cl,T.np,(by show 1<1000;decide),?_⟩;refine⟨_,rfl,_,rfl,r,C,dx,_,rfl,upd_same,T.cl,T.ne,(by show 2<1000;decide),?_⟩;exact k _ upd_same λb o e hb=>by rw[AE hb,AE hb,AE hb];exact e
theorem m8:FnScope ["self"] ["self"] (AH E9):={}
theorem m9 (F:Fun K "ended" "Reader.ended" E9 f fd) (T:RdC K C):FnOk P w K mg base (CX1 P w) 1 f fd ["self"] (ZJ K C):=by
 refine F.okx m8 λcdv A outer s H vs Q E hr h=>?_;obtain⟨r,ta,cs,e,rest,rfl,⟨⟨dx,p,h1,h2,h3⟩,tx,le⟩,k⟩:=h;refine⟨_,AC (AJ (DS eZ (AR (pv 0) rfl) (AR (pv 0) rfl) (AQ _))),?_⟩
 subst_eqs
 refine⟨_,rfl,r,C,dx,_,_,rfl,h1,T.cl,T.np,M9 _ _ _,_,rfl,r,C,dx,_,_,rfl,h1,T.cl,T.ne,mX _ _ _,_,_,rfl,rfl,?_⟩;have e1:decide ((e:Int)<=(p:Int))=rest.isEmpty:=by
  cases rest with
  |nil=>rw[ZH h2 h3 le];simp
  |cons c t=>have:=(KJ h2 h3 le).1;simp;omega
 show Q (V.bl (decide ((e:Int)<=(p:Int)))) H;rw[e1];exact k
theorem nA:FnScope ["self"] ["self"] (AH FY):={}
theorem nB (F:Fun K "byte" "Reader.byte" FY f fd) (T:RdC K C) (gn:GI mg "NO_BYTE" 256) (M1:Mth P w K mg base 1 C "ended" ["self"] (ZJ K C)):FnOk P w K mg base (CX1 P w) 2 f fd ["self"] (P3 K C):=by
 refine F.okx nA λcdv A outer s H vs Q E hr h=>?_;obtain⟨r,ta,cs,e,rest,rfl,R,k⟩:=h;obtain⟨dx,p,h1,h2,h3⟩:=R.at_;refine⟨_,AC (AJ (QX (C7 (M1.call0 (pv 0) hr AD)) (BZ gn) (BI B9 (AR (pv 0) rfl) (AR (pv 0) rfl) (λ_ _=>rfl)))),?_⟩
 subst_eqs
 refine⟨_,rfl,r,dx,_,rfl,h1,GF _ _ _ (by decide +kernel) (by decide +kernel) (by decide +kernel),r,ta,cs,e,rest,rfl,R,_,rfl,?_⟩;cases rest with
 |nil=>exact BS k
 |cons c t=>
  obtain⟨h4,h5,h6⟩:=KJ h2 h3 R.le;refine BJ ⟨_,rfl,r,C,dx,_,_,rfl,h1,T.cl,T.nt,dG _ _ _,_,rfl,r,C,dx,_,_,rfl,h1,T.cl,T.np,M9 _ _ _,ta,_,_,_,rfl,rfl,R.tx,DH (v:=cV c) (by rw[az,h5];rfl),k⟩
theorem nE:FnScope ["self","signs"] ["self","signs"] (AH FZ):={}
theorem nF (F:Fun K "sees" "Reader.sees" FZ f fd) (D1:Def P w K mg base 1 "sign_number" ["signs","byte"] iK) (M1:Mth P w K mg base 2 C "byte" ["self"] (P3 K C)):
 FnOk P w K mg base (CX1 P w) 3 f fd ["self","signs"] (TX K C):=by
 refine F.okx nE λcdv A outer s H vs Q E hr h=>?_;obtain⟨r,ta,cs,e,rest,z,rfl,R,oz,k⟩:=h;obtain⟨dx,p,h1,h2,h3⟩:=R.at_;refine⟨_,AC (AJ (DS cK (D1.call hr AD (AA (pv 1) (AA (M1.call0 (pv 0) hr AD) AF))) SS (AQ _))),?_⟩
 subst_eqs
 refine⟨_,rfl,_,rfl,r,dx,_,rfl,h1,GF _ _ _ (by decide +kernel) (by decide +kernel) (by decide +kernel),r,ta,cs,e,rest,rfl,R,z,_,rfl,λH' s1=>⟨rfl,?_⟩⟩;have q:=k H' s1;have e1:(!decide (HI z.cps.toList (bt rest)=V.non))=see z rest:=by
  cases rest with
  |nil=>
   show(!decide (HI z.cps.toList 256=V.non))=false;unfold HI;rw[ZI oz];rfl
  |cons c t=>
   show(!decide (HI z.cps.toList (c.toNat:Nat)=V.non))=(BP z.cps.toList (c.toNat:Nat)).isSome;unfold HI;cases BP z.cps.toList (c.toNat:Nat)<;>rfl
 rw[e1];exact q
theorem fH:FnScope ["self","signs","number"] ["self","signs"] (AH F0):={}
theorem nG (F:Fun K "pick" "Reader.pick" F0 f fd) (T:RdC K C) (X1:TFm P w K mg base CT) (D1:Def P w K mg base 1 "sign_number" ["signs","byte"] iK) (M1:Mth P w K mg base 2 C "byte" ["self"] (P3 K C)):
 FnOk P w K mg base (CX1 P w) 3 f fd ["self","signs"] (P4 K C CT):=by
 refine F.okx fH λcdv A outer s H vs Q E hr h=>?_;obtain⟨r,ta,cs,e,rest,z,rfl,R,oz,k⟩:=h;obtain⟨dx,p,h1,h2,h3⟩:=R.at_;refine⟨_,AB (AX 2 fH (D1.call hr AD (AA (pv 1) (AA (M1.call0 (pv 0) hr AD) AF))))
  (AB (AW (AO gR (pv 2) SS (AQ _)) (AC (BF X1 hr AD rfl (AR (pv 0) rfl))) AM)
  (AB (W0 (pv 0) AI gT) (AC (AJ (pv 2))))),?_⟩
 and_intros
 refine⟨_,rfl,_,rfl,r,dx,_,rfl,h1,GF _ _ _ (by decide +kernel) (by decide +kernel) (by decide +kernel),r,ta,cs,e,rest,rfl,R,z,_,rfl,λH' s1=>?_⟩;have h1':=s1 _ _ h1;refine⟨_,rfl,rfl,_,rfl,?_⟩;cases hrest:rest with
 |nil=>
  subst hrest;have e1:HI z.cps.toList (bt [])=V.non:=by
   show HI z.cps.toList 256=V.non;unfold HI;rw[ZI oz]
  rw[e1];exact BS ⟨_,rfl,r,C,dx,_,_,rfl,h1',T.cl,T.np,M9 _ _ _,_,rfl,k _⟩
 |cons c t=>
  subst hrest;obtain⟨h4,h5,h6⟩:=KJ h2 h3 R.le;cases hi:BP z.cps.toList (c.toNat:Nat) with
  |none=>
   have e1:HI z.cps.toList (bt (c::t))=V.non:=by
    show HI z.cps.toList (c.toNat:Nat)=V.non;unfold HI;rw[hi]
   rw[e1];have k':∀z:Int,E (.ref CT) none (xH [("place",.int z)]):=by
    have e2:pk z (c::t)=none:=by rw[BQ,hi];rfl
    rw[e2] at k;exact k
   exact BS ⟨_,rfl,r,C,dx,_,_,rfl,h1',T.cl,T.np,M9 _ _ _,_,rfl,k' _⟩
  |some n=>
   have e1:HI z.cps.toList (bt (c::t))=V.int (n:Nat):=by
    show HI z.cps.toList (c.toNat:Nat)=V.int (n:Nat);unfold HI;rw[hi]
   rw[e1];have k':∀H',Rd K C H' r ta cs e t->Sb r H H'->Q (DR n) H':=by
    have e2:pk z (c::t)=some (n,t):=by rw[BQ,hi];rfl
    rw[e2] at k;exact k
   refine BJ ?_;refine⟨_,rfl,r,C,dx,_,_,rfl,h1',T.cl,T.np,M9 _ _ _,?_⟩;refine⟨_,_,rfl,rfl,dx,_,h1',(by show 3<1000;decide),_,rfl,?_⟩;refine k' _ ⟨⟨dx,p+1,sX upd_same ?_,h6,h4⟩,Sb.lst (r:=r) (λb o e hb=>by rw[AE hb];exact e) h1' (s1.seq R.tx),R.le⟩ λb o e hb=>by rw[AE hb];exact s1 b o e
   rfl
end
open PySem PySem.Spec PyProof.Rows L2
theorem DZ {W:Nat->L2.St->Hp->Prop} {m:Nat} {tb:TS} {D:Ends} {σ:L2.St} {Z:Prop} (h:tb { D with nx:=λσ' H'=>∃m',m'<m/\W m' σ' H',ct:=λσ' H'=>∃m',m'<m/\W m' σ' H',bk:=D.nx } σ H1):
 if true=true then∃N:L2.St->Hp->Prop,(∀σ' H',N σ' H'->∃m',m'<m/\W m' σ' H')/\tb { D with nx:=N,ct:=N,bk:=D.nx } σ H1 else Z:=BS ⟨_,λ_ _ q=>q,h⟩
def sk:List Nat->List UInt8->Option (Unit×List UInt8)
 |[],t=>some ((),t)
 |_::_,[]=>none
 |x::w,c::t=>if c.toNat=x then sk w t else none
def GZ (z:Str) (most:Nat):Nat->Nat->List UInt8->Option (Nat×List UInt8)
 |_,value,[]=>some (value,[])
 |count,value,c::t=>match BP z.cps.toList (c.toNat:Nat) with
  |none=>some (value,c::t)
  |some d=>if count=most\/value=0 then none else GZ z most (count+1) (10*value+d) t
def wn (z:Str) (most:Nat) (l:List UInt8):Option (Nat×List UInt8):=match pk z l with
 |none=>none
 |some (d,t)=>GZ z most 1 d t
def XB (_:Unit):V:=.non
def ZK (K:aa) (C CT:Addr):Sp:=λvs H Q E=>Ex6 λ(r ta:Addr) (cs:List UInt8) (e:Nat) (rest:List UInt8) (z:Str)=>vs=[.ref r,.str z]/\Rd K C H r ta cs e rest/\OkS z/\Got K C CT r ta cs e H Q E XB (sk z.cps.toList rest)
def nI (K:aa) (C CT:Addr) (dz:Str):Sp:=λvs H Q E=>Ex6 λ(r ta:Addr) (cs:List UInt8) (e:Nat) (rest:List UInt8) (most:Nat)=>vs=[.ref r,.int (most:Nat)]/\Rd K C H r ta cs e rest/\Got K C CT r ta cs e H Q E DR (wn dz most rest)
theorem VN (c:Nat) (b:Nat):BP [c] (b:Nat)=if b=c then some 0 else none:=by
 unfold BP;by_cases h:b=c
 ·subst h;simp
 ·have:¬(c:Int)=(b:Int):=by omega
  rw[if_neg h];simp;omega
theorem iM (c:Nat) (l:List UInt8) (w:List Nat):sk (c::w) l=(match pk ⟨#[c]⟩ l with|none=>none|some (_,t)=>sk w t):=by
 cases l with
 |nil=>rfl
 |cons b t=>
  rw[BQ];show(if b.toNat=c then sk w t else none)=_;rw[show(⟨#[c]⟩:Str).cps.toList=[c] from rfl,VN];by_cases h:b.toNat=c
  ·rw[if_pos h,if_pos h];rfl
  ·rw[if_neg h,if_neg h];rfl
theorem ZL {l:List UInt8} (h:see z l=true):Ex2 λn t=>pk z l=some (n,t)/\t.length+1=l.length:=by
 cases l with
 |nil=>cases h
 |cons c t=>
  rw[BQ];have h':(BP z.cps.toList (c.toNat:Nat)).isSome=true:=h;obtain⟨n,hn⟩:=qf.mp h';exact⟨n,t,by rw[hn];rfl,rfl⟩
theorem ZM {most v d:Nat} {l:List UInt8} (h:pk z l=some (d,t)):GZ z most n v l=if n=most\/v=0 then none else GZ z most (n+1) (10*v+d) t:=by
 cases l with
 |nil=>cases h
 |cons c t'=>
  rw[BQ] at h;cases hi:BP z.cps.toList (c.toNat:Nat) with
  |none=>rw[hi] at h;cases h
  |some d'=>
   rw[hi] at h;cases h;rw[GZ,hi]
theorem ZN {most v:Nat} {l:List UInt8} (h:see z l=false):GZ z most n v l=some (v,l):=by
 cases l with
 |nil=>rfl
 |cons c t=>
  have h':(BP z.cps.toList (c.toNat:Nat)).isSome=false:=h;rw[Option.isSome_eq_false_iff,Option.isNone_iff_eq_none] at h';rw[GZ,h']
section
variable {P:aw} {w:bv} {K:aa} {mg:Str->Option ag} {base:Heap}
theorem Rd.ins {rest:List UInt8} (R:Rd K C H r ta cs e rest):Ex2 λdx p=>H r=some (.ins C dx (rf ta p e)):=let ⟨dx,p,h,_⟩:=R.at_;⟨dx,p,h⟩
theorem fI:FnScope ["self","word","sign"] ["self","word"] (AH F1):={}
theorem nJ (F:Fun K "skip" "Reader.skip" F1 f fd) (M1:Mth P w K mg base 3 C "pick" ["self","signs"] (P4 K C CT)):
 FnOk P w K mg base (CX1 P w) 4 f fd ["self","word"] (ZK K C CT):=by
 refine F.okx fI λcdv A outer s H vs Q E hr h=>?_;obtain⟨r,ta,cs,e,rest,z,rfl,R,oz,k⟩:=h;refine⟨_,AC (B4 bn rfl (hU (pv 1)) (DT 2 fI) (AC (AY (M1.call (pv 0) hr AD (AA (pv 2) AF))))),?_⟩
 subst_eqs
 refine⟨_,rfl,z,rfl,GN (n:=z.cps.size) (λi σ H'=>(∃r2,σ=[some (.ref r),some (.str z),r2])/\Sb r H H'/\∃rest',Rd K C H' r ta cs e rest'/\sk z.cps.toList rest=sk (z.cps.toList.drop i) rest') ⟨⟨none,rfl⟩,Sb.refl,rest,R,rfl⟩ ?_ ?_ ?_ ?_⟩
 ·rintro i σ H' hi _;exact hi
 ·rintro σ H' _;exact aq _
 ·rintro i v σ H1 H2 hi ⟨⟨r2,rfl⟩,sb,rest',R',es⟩ ⟨rfl,c,hc,rfl⟩
  subst_eqs
  have hcl:z.cps.toList[i]? =some c:=by rw[kq];exact hc
  have hd:z.cps.toList.drop i=c::z.cps.toList.drop (i+1):=by
   obtain⟨hlt,e1⟩:=au.mp hcl;rw[im hlt,e1]
  obtain⟨dx,p,h1⟩:=R'.ins;rw[hd,iM] at es;refine⟨_,rfl,r,dx,_,rfl,h1,GF _ _ _ (by decide +kernel) (by decide +kernel) (by decide +kernel),_,rfl,r,ta,cs,e,rest',⟨#[c]⟩,rfl,R',?_,?_⟩
  ·intro c' hc';have e1:c'=c:=by simpa using hc'
   subst e1;exact oz c' (bo hcl)
  ·cases hp:pk ⟨#[c]⟩ rest' with
   |none=>
    rw[hp] at es;rw[es] at k;exact k
   |some x=>
    obtain⟨n,t⟩:=x;rw[hp] at es;exact λH3 R3 s3=>⟨⟨_,rfl⟩,sb.trans s3,t,R3,es⟩
 ·rintro σ H' ⟨⟨r2,rfl⟩,sb,rest',R',es⟩;have e0:z.cps.toList.drop z.cps.size=[]:=by rw[←fq];exact uP
  rw[e0] at es;rw[es] at k;exact k H' R' sb
theorem sc_wn:FnScope ["self","most","value","count"] ["self","most"] (AH CK):={}
theorem nL (F:Fun K "whole_number" "Reader.whole_number" CK f fd) (T:RdC K C) (X1:TFm P w K mg base CT) (gd:GS mg "DIGITS" dz) (od:OkS dz)
 (M1:Mth P w K mg base 3 C "pick" ["self","signs"] (P4 K C CT)) (M2:Mth P w K mg base 3 C "sees" ["self","signs"] (TX K C)):
 FnOk P w K mg base (CX1 P w) 4 f fd ["self","most"] (nI K C CT dz):=by
 refine F.okx sc_wn λcdv A outer s H vs Q E hr h=>?_;obtain⟨r,ta,cs,e,rest,most,rfl,R,k⟩:=h;refine⟨_,AB (AX 2 sc_wn (M1.call (pv 0) hr AD (AA (FD gd) AF)))
  (AB (AX 3 sc_wn AI)
  (AB (B3 bn (C7 (M2.call (pv 0) hr AD (AA (FD gd) AF)))
   (AB (AW (OA (AO CP (pv 3) (pv 1) (AQ _)) (JZ (AO CP (pv 2) AI (AQ _)))).pt (AC (BF X1 hr AD rfl (AR (pv 0) rfl))) AM)
   (AB (AX 2 sc_wn (BC C9 (BC IP AI (pv 2)) (M1.call (pv 0) hr AD (AA (FD gd) AF))))
   (AC (J4 (i:=3) sc_wn.nd rfl (u7 rfl) AI J5)))))
  (AC (AJ (pv 2))))),?_⟩
 and_intros
 obtain⟨dx,p,h1⟩:=R.ins;refine⟨_,rfl,r,dx,_,rfl,h1,GF _ _ _ (by decide +kernel) (by decide +kernel) (by decide +kernel),r,ta,cs,e,rest,dz,rfl,R,od,?_⟩;have k':=k;unfold wn at k';cases hp:pk dz rest with
 |none=>rw[hp] at k';exact k'
 |some x=>
  obtain⟨d,t⟩:=x;rw[hp] at k';replace k':Got K C CT r ta cs e H Q E DR (GZ dz most 1 d t):=k';intro H1 R1 s1;refine⟨λm σ H'=>Ex3 λ(rest':List UInt8) (v n:Nat)=>σ=[some (.ref r),some (.int (most:Nat)),some (.int (v:Nat)),some (.int (n:Nat))]/\Sb r H H'/\Rd K C H' r ta cs e rest'/\GZ dz most 1 d t=GZ dz most n v rest'/\m=rest'.length,
   ⟨t.length,t,d,1,rfl,s1,R1,rfl,rfl⟩,?_⟩
  rintro m σ H' ⟨rest',v,n,rfl,sb,R',ew,rfl⟩;obtain⟨dx',p',h1'⟩:=R'.ins;refine⟨_,rfl,r,dx',_,rfl,h1',GF _ _ _ (by decide +kernel) (by decide +kernel) (by decide +kernel),r,ta,cs,e,rest',dz,rfl,R',od,λH2 s2=>⟨_,rfl,?_⟩⟩;have R2:=R'.same s2;have sb2:Sb r H H2:=sb.trans s2.sb;obtain⟨dx2,p2,h12⟩:=R2.ins;cases hs:see dz rest' with
  |false=>
   rw[ZN hs] at ew;rw[ew] at k';exact BJ ⟨_,rfl,k' H2 R2 sb2⟩
  |true=>
   obtain⟨d2,t2,hp2,hl⟩:=ZL hs;rw[ZM hp2] at ew;refine DZ ?_
   and_intros
   refine⟨_,rfl,_,rfl,rfl,_,rfl,B7 (λhc=>?_) (λhc=>?_)⟩
   ·have h0:n=most:=by
     have q:=of_decide_eq_true hc;injection q with q;omega
    rw[if_pos (.inl h0)] at ew;rw[ew] at k';exact BS ⟨_,rfl,r,C,dx2,_,_,rfl,h12,T.cl,T.np,M9 _ _ _,_,rfl,k' _⟩
   ·have h0:¬n=most:=λq=>hc (decide_eq_true (by rw[q]));refine⟨_,rfl,rfl,_,rfl,B7 (λhc2=>?_) (λhc2=>?_)⟩
    ·have h3:v=0:=by
      have q:=of_decide_eq_true hc2;injection q with q;omega
     rw[if_pos (.inr h3)] at ew;rw[ew] at k';exact⟨_,rfl,r,C,dx2,_,_,rfl,h12,T.cl,T.np,M9 _ _ _,_,rfl,k' _⟩
    ·have h3:¬v=0:=λq=>hc2 (decide_eq_true (by rw[q];rfl));rw[if_neg (by rintro (q|q);exact h0 q;exact h3 q)] at ew;refine⟨_,rfl,_,_,rfl,rfl,.inl ⟨by decide,by decide⟩,_,rfl,r,dx2,_,rfl,h12,GF _ _ _ (by decide +kernel) (by decide +kernel) (by decide +kernel),r,ta,cs,e,rest',dz,rfl,R2,od,?_⟩;rw[hp2];intro H3 R3 s3;refine⟨_,_,rfl,rfl,?_⟩;refine⟨_,rfl,_,_,rfl,rfl,t2.length,by omega,t2,10*v+d2,n+1,?_,sb2.trans s3,R3,ew,rfl⟩;rfl
end
open PySem PySem.Spec PyProof.Rows L2
structure RdE (P:aw) (w:bv) (K:aa) (mg:Str->Option ag) (base:Heap) (C CT:Addr) (dz:Str):Prop where
 T:RdC K C
 X1:TFm P w K mg base CT
 mkr:Mkr P w K mg base 1 C "Reader" ["self","text","place","end"] (iL C)
 en:Mth P w K mg base 1 C "ended" ["self"] (ZJ K C)
 byt:Mth P w K mg base 2 C "byte" ["self"] (P3 K C)
 se:Mth P w K mg base 3 C "sees" ["self","signs"] (TX K C)
 pi:Mth P w K mg base 3 C "pick" ["self","signs"] (P4 K C CT)
 sk:Mth P w K mg base 4 C "skip" ["self","word"] (ZK K C CT)
 wn:Mth P w K mg base 4 C "whole_number" ["self","most"] (nI K C CT dz)
theorem oks (h:(z.cps.toList.all λc=>decide (c<256))=true):OkS z:=λc hc=>of_decide_eq_true (ki.mp h c hc)
inductive RdX (K:aa) (C:Addr) (x:V) (H:Hp) (k:Addr->Addr->List UInt8->Nat->List UInt8->Prop):Prop
 |intro(r ta:Addr) (cs:List UInt8) (e:Nat) (rest:List UInt8) (ex:x= .ref r) (h:Rd K C H r ta cs e rest) (q:k r ta cs e rest):RdX K C x H k
def VO (K:aa) (C:Addr) (to:TE) (z:Str):TT:=λσ H Q=>to σ H λx H1=>RdX K C x H1 λ_ _ _ _ rest=>∀H',Same H1 H'->Q (see z rest) H'
def iN (K:aa) (C:Addr) (to:TE):TT:=λσ H Q=>to σ H λx H1=>RdX K C x H1 λ_ _ _ _ rest=>Q rest.isEmpty H1
def nM (K:aa) (C:Addr) (to:TE):TE:=λσ H Q=>to σ H λx H1=>RdX K C x H1 λ_ _ _ _ rest=>Q (.int (bt rest)) H1
def nN (K:aa) (C CT:Addr) (E:XK) (to:TE) (z:Str):TE:=λσ H Q=>to σ H λx H1=>RdX K C x H1 λr ta cs e rest=>Got K C CT r ta cs e H1 Q E DR (pk z rest)
def tWN (K:aa) (C CT:Addr) (E:XK) (to:TE) (dz:Str) (most:Nat):TE:=λσ H Q=>to σ H λx H1=>RdX K C x H1 λr ta cs e rest=>Got K C CT r ta cs e H1 Q E DR (wn dz most rest)
def NB (K:aa) (C CT:Addr) (E:XK) (to:TE) (z:Str):TS:=λD σ H=>to σ H λx H1=>RdX K C x H1 λr ta cs e rest=>Got K C CT r ta cs e H1 (λ_ H'=>D.nx σ H') E XB (sk z.cps.toList rest)
section
variable {X:Cx} {C CT:Addr} {dz z:Str} {E:XK} {k':Nat} {o e:Expr} {to:TE} {apos pos spos:Pos} {most:Nat}
theorem VP (ta:Addr) (p e:Int):(rf ta p e).lookup ("sees":Str)=none:=GF _ _ _ (by decide +kernel) (by decide +kernel) (by decide +kernel)
theorem VQ (ta:Addr) (p e:Int):(rf ta p e).lookup ("pick":Str)=none:=GF _ _ _ (by decide +kernel) (by decide +kernel) (by decide +kernel)
theorem P5 (ta:Addr) (p e:Int):(rf ta p e).lookup ("skip":Str)=none:=GF _ _ _ (by decide +kernel) (by decide +kernel) (by decide +kernel)
theorem nO (ta:Addr) (p e:Int):(rf ta p e).lookup ("whole_number":Str)=none:=GF _ _ _ (by decide +kernel) (by decide +kernel) (by decide +kernel)
theorem ZO (ta:Addr) (p e:Int):(rf ta p e).lookup ("ended":Str)=none:=GF _ _ _ (by decide +kernel) (by decide +kernel) (by decide +kernel)
theorem dH (ta:Addr) (p e:Int):(rf ta p e).lookup ("byte":Str)=none:=GF _ _ _ (by decide +kernel) (by decide +kernel) (by decide +kernel)
theorem BK {pl:Sem Bool} (R:RdE X.prog X.w X.K X.mg X.base C CT dz) (hr:Room k' X.A) (hx:Out X E) (ho:PE X o to) (hz:PE X e (tC (.str z))) (oz:OkS z) (hk:3<=k':=by decide)
 (hst:bc [e] X.env=(false,eval e X.env)::bc [] X.env:=by rfl)
 (hti:∀whole,wW (.Call (.Attribute o "sees" apos) [e] [] pos) X.env whole=(do let v←whole;mj (z9 (.Attribute o "sees" apos) [e] [] pos).pos;lg [v] (truthy v)):=by intro _;rfl)
 (ht:eval (.Call (.Attribute o "sees" apos) [e] [] pos) X.env=(do
  let ov←eval o X.env
  mj apos.atName
  let (f,first)←lg [ov] (kf ov "sees" pl)
  mo pos f first (gr pos (bc [e] X.env)) (jm pos (ge [] X.env))):=by rfl):
 PT X (.Call (.Attribute o "sees" apos) [e] [] pos) (VO X.K C to z):=by
 intro pins s σ H Q I h;refine C7 (R.se.call (E:=E) (IM (K0:=λx H1=>RdX X.K C x H1 λ_ _ _ _ rest=>∀H',Same H1 H'->Q (see z rest) H') ho) hr hx (AA hz AF hst) hk hst rfl ht) hti pins s σ H Q I ⟨h,λx H1 ⟨r,ta,cs,e,rest,ex,Rr,q⟩=>?_⟩;obtain⟨dx,p,h1⟩:=Rr.ins;exact⟨r,dx,_,ex,h1,VP _ _ _,r,ta,cs,e,rest,z,by rw[ex];rfl,Rr,oz,λH' s'=>⟨_,rfl,q H' s'⟩⟩
theorem JQ {pl:Sem Bool} (R:RdE X.prog X.w X.K X.mg X.base C CT dz) (hr:Room k' X.A) (hx:Out X E) (ho:PE X o to) (hk:1<=k':=by decide)
 (hti:∀whole,wW (.Call (.Attribute o "ended" apos) [] [] pos) X.env whole=(do let v←whole;mj (z9 (.Attribute o "ended" apos) [] [] pos).pos;lg [v] (truthy v)):=by intro _;rfl)
 (ht:eval (.Call (.Attribute o "ended" apos) [] [] pos) X.env=(do
  let ov←eval o X.env
  mj apos.atName
  let (f,first)←lg [ov] (kf ov "ended" pl)
  mo pos f first (gr pos (bc [] X.env)) (jm pos (ge [] X.env))):=by rfl):
 PT X (.Call (.Attribute o "ended" apos) [] [] pos) (iN X.K C to):=by
 intro pins s σ H Q I h;refine C7 (R.en.call0 (E:=E) (IM (K0:=λx H1=>RdX X.K C x H1 λ_ _ _ _ rest=>Q rest.isEmpty H1) ho) hr hx hk ht) hti pins s σ H Q I ⟨h,λx H1 ⟨r,ta,cs,e,rest,ex,Rr,q⟩=>?_⟩;obtain⟨dx,p,h1⟩:=Rr.ins;exact⟨r,dx,_,ex,h1,ZO _ _ _,r,ta,cs,e,rest,by rw[ex];rfl,Rr,_,rfl,q⟩
theorem VR {pl:Sem Bool} (R:RdE X.prog X.w X.K X.mg X.base C CT dz) (hr:Room k' X.A) (hx:Out X E) (ho:PE X o to) (hk:2<=k':=by decide)
 (ht:eval (.Call (.Attribute o "byte" apos) [] [] pos) X.env=(do
  let ov←eval o X.env
  mj apos.atName
  let (f,first)←lg [ov] (kf ov "byte" pl)
  mo pos f first (gr pos (bc [] X.env)) (jm pos (ge [] X.env))):=by rfl):
 PE X (.Call (.Attribute o "byte" apos) [] [] pos) (nM X.K C to):=by
 intro pins s σ H Q I h;refine R.byt.call0 (E:=E) (IM (K0:=λx H1=>RdX X.K C x H1 λ_ _ _ _ rest=>Q (.int (bt rest)) H1) ho) hr hx hk ht pins s σ H Q I ⟨h,λx H1 ⟨r,ta,cs,e,rest,ex,Rr,q⟩=>?_⟩;obtain⟨dx,p,h1⟩:=Rr.ins;exact⟨r,dx,_,ex,h1,dH _ _ _,r,ta,cs,e,rest,by rw[ex];rfl,Rr,q⟩
theorem EZ {pl:Sem Bool} (R:RdE X.prog X.w X.K X.mg X.base C CT dz) (hr:Room k' X.A) (hx:Out X E) (ho:PE X o to) (hz:PE X e (tC (.str z))) (oz:OkS z) (hk:3<=k':=by decide)
 (hst:bc [e] X.env=(false,eval e X.env)::bc [] X.env:=by rfl)
 (ht:eval (.Call (.Attribute o "pick" apos) [e] [] pos) X.env=(do
  let ov←eval o X.env
  mj apos.atName
  let (f,first)←lg [ov] (kf ov "pick" pl)
  mo pos f first (gr pos (bc [e] X.env)) (jm pos (ge [] X.env))):=by rfl):
 PE X (.Call (.Attribute o "pick" apos) [e] [] pos) (nN X.K C CT E to z):=by
 intro pins s σ H Q I h;refine R.pi.call (E:=E) (IM (K0:=λx H1=>RdX X.K C x H1 λr ta cs e rest=>Got X.K C CT r ta cs e H1 Q E DR (pk z rest)) ho) hr hx (AA hz AF hst) hk hst rfl ht pins s σ H Q I ⟨h,λx H1 ⟨r,ta,cs,e,rest,ex,Rr,q⟩=>?_⟩;obtain⟨dx,p,h1⟩:=Rr.ins;exact⟨r,dx,_,ex,h1,VQ _ _ _,r,ta,cs,e,rest,z,by rw[ex];rfl,Rr,oz,q⟩
theorem VS {pl:Sem Bool} (R:RdE X.prog X.w X.K X.mg X.base C CT dz) (hr:Room k' X.A) (hx:Out X E) (ho:PE X o to) (hz:PE X e (tC (.int (most:Nat)))) (hk:4<=k':=by decide)
 (hst:bc [e] X.env=(false,eval e X.env)::bc [] X.env:=by rfl)
 (ht:eval (.Call (.Attribute o "whole_number" apos) [e] [] pos) X.env=(do
  let ov←eval o X.env
  mj apos.atName
  let (f,first)←lg [ov] (kf ov "whole_number" pl)
  mo pos f first (gr pos (bc [e] X.env)) (jm pos (ge [] X.env))):=by rfl):
 PE X (.Call (.Attribute o "whole_number" apos) [e] [] pos) (tWN X.K C CT E to dz most):=by
 intro pins s σ H Q I h;refine R.wn.call (E:=E) (IM (K0:=λx H1=>RdX X.K C x H1 λr ta cs e rest=>Got X.K C CT r ta cs e H1 Q E DR (wn dz most rest)) ho) hr hx (AA hz AF hst) hk hst rfl ht pins s σ H Q I ⟨h,λx H1 ⟨r,ta,cs,e,rest,ex,Rr,q⟩=>?_⟩;obtain⟨dx,p,h1⟩:=Rr.ins;exact⟨r,dx,_,ex,h1,nO _ _ _,r,ta,cs,e,rest,most,by rw[ex];rfl,Rr,q⟩
theorem BL {pl:Sem Bool} (R:RdE X.prog X.w X.K X.mg X.base C CT dz) (hr:Room k' X.A) (hx:Out X E) (ho:PE X o to) (hz:PE X e (tC (.str z))) (oz:OkS z) (hk:4<=k':=by decide)
 (hst:bc [e] X.env=(false,eval e X.env)::bc [] X.env:=by rfl) (hsw:pc (.Call (.Attribute o "skip" apos) [e] [] pos) none spos.line X.env=pure false:=by rfl)
 (ht:eval (.Call (.Attribute o "skip" apos) [e] [] pos) X.env=(do
  let ov←eval o X.env
  mj apos.atName
  let (f,first)←lg [ov] (kf ov "skip" pl)
  mo pos f first (gr pos (bc [e] X.env)) (jm pos (ge [] X.env))):=by rfl):
 PS X (.Expr (.Call (.Attribute o "skip" apos) [e] [] pos) spos) (NB X.K C CT E to z):=by
 intro pins s σ H D I h;refine AY (R.sk.call (E:=E) (IM (K0:=λx H1=>RdX X.K C x H1 λr ta cs e rest=>Got X.K C CT r ta cs e H1 (λ_ H'=>D.nx σ H') E XB (sk z.cps.toList rest)) ho) hr hx (AA hz AF hst) hk hst rfl ht) hsw pins s σ H D I ⟨h,λx H1 ⟨r,ta,cs,e,rest,ex,Rr,q⟩=>?_⟩;obtain⟨dx,p,h1⟩:=Rr.ins;exact⟨r,dx,_,ex,h1,P5 _ _ _,r,ta,cs,e,rest,z,by rw[ex];rfl,Rr,oz,q⟩
def P6 (K:aa) (C:Addr) (to:TE):TE:=λσ H Q=>to σ H λx H1=>RdX K C x H1 λ_ _ _ _ _=>∀z:Int,Q (.int z) H1
theorem B0 (R:RdE X.prog X.w X.K X.mg X.base C CT dz) (ho:PE X o to) (hb:jl o "place" X.env (eval o X.env)=eval o X.env:=by rfl):PE X (.Attribute o "place" pos) (P6 X.K C to):=by
 intro pins s σ H Q I h;refine AR (IM (K0:=λx H1=>RdX X.K C x H1 λ_ _ _ _ _=>∀z:Int,Q (.int z) H1) ho) hb pins s σ H Q I ⟨h,λx H1 ⟨r,ta,cs,e,rest,ex,Rr,q⟩=>?_⟩;obtain⟨dx,p,h1⟩:=Rr.ins;exact⟨r,C,dx,_,_,ex,h1,R.T.cl,R.T.np,M9 _ _ _,q _⟩
end
open PySem PySem.Spec PyProof.Rows L2
theorem AK {K:aa} {enc:α->V} {res:Option (α×List UInt8)} (h:res=none) (k:∀z:Int,E (.ref CT) none (xH [("place",.int z)])):Got K CR CT r ta cs e H Q E enc res:=by
 rw[h];exact k
theorem AL {K:aa} {enc:α->V} {res:Option (α×List UInt8)} {v:α} (h:res=some (v,t)) (k:∀H',Rd K CR H' r ta cs e t->Sb r H H'->Q (enc v) H'):Got K CR CT r ta cs e H Q E enc res:=by
 rw[h];exact k
def TY (K:aa) (CR CT r ta:Addr) (cs:List UInt8) (e:Nat) (H:Hp) (Q:VK) (E:XK):Option (List Int×List UInt8)->Prop
 |some (l,rest')=>∀H' a,Rd K CR H' r ta cs e rest'->Sb r H H'->SqT K H' a (l.map V.int)->Q (.ref a) H'
 |none=>∀z:Int,E (.ref CT) none (xH [("place",.int z)])
def GY {α:Type} (K:aa) (C CT:Addr) (m:List UInt8->Option (α×List UInt8)) (enc:α->V):Sp:=λvs H Q E=>Ex5 λ(r ta:Addr) (cs:List UInt8) (e:Nat) (rest:List UInt8)=>vs=[.ref r]/\Rd K C H r ta cs e rest/\Got K C CT r ta cs e H Q E enc (m rest)
def FE (K:aa) (C CT:Addr) (m:List UInt8->Option (List Int×List UInt8)):Sp:=λvs H Q E=>Ex5 λ(r ta:Addr) (cs:List UInt8) (e:Nat) (rest:List UInt8)=>vs=[.ref r]/\Rd K C H r ta cs e rest/\TY K C CT r ta cs e H Q E (m rest)
def ZP (K:aa) (C CT:Addr) (m:List UInt8->Option (List Int×List UInt8)):Sp:=λvs H Q E=>Ex6 λ(r ta:Addr) (cs:List UInt8) (e:Nat) (rest:List UInt8) (st:Int)=>vs=[.ref r,.int st]/\Rd K C H r ta cs e rest/\TY K C CT r ta cs e H Q E (m rest)
def lL {α:Type} (K:aa) (C CT:Addr) (E:XK) (to:TE) (m:List UInt8->Option (α×List UInt8)) (enc:α->V):TE:=λσ H Q=>to σ H λx H1=>RdX K C x H1 λr ta cs e rest=>Got K C CT r ta cs e H1 Q E enc (m rest)
def nQ (K:aa) (C CT:Addr) (E:XK) (to:TE) (m:List UInt8->Option (List Int×List UInt8)):TE:=λσ H Q=>to σ H λx H1=>RdX K C x H1 λr ta cs e rest=>TY K C CT r ta cs e H1 Q E (m rest)
section
variable {X:Cx} {C CT:Addr} {E:XK} {k k':Nat} {f pn:Str} {o:Expr} {to:TE} {p pos:Pos}
theorem KL {m:List UInt8->Option (α×List UInt8)} {enc:α->V} (D:Def X.prog X.w X.K X.mg X.base k f [pn] (GY X.K C CT m enc)) (hr:Room k' X.A) (hx:Out X E) (ho:PE X o to) (hk:k<=k':=by decide) (hg:Gl X f:=by rfl)
 (hdb:(f==("__debug__":Str))=false:=by decide) (hst:bc [o] X.env=(false,eval o X.env)::bc [] X.env:=by rfl):PE X (.Call (.Name f p) [o] [] pos) (lL X.K C CT E to m enc):=by
 intro pins s σ H Q I h;refine D.call (E:=E) hr hx (AA (IM (K0:=λx H1=>RdX X.K C x H1 λr ta cs e rest=>Got X.K C CT r ta cs e H1 Q E enc (m rest)) ho) AF hst) hk hg hdb hst rfl pins s σ H Q I ⟨h,λx H1 ⟨r,ta,cs,e,rest,ex,Rr,q⟩=>?_⟩;exact⟨r,ta,cs,e,rest,by rw[ex];rfl,Rr,q⟩
theorem GW {m:List UInt8->Option (List Int×List UInt8)} (D:Def X.prog X.w X.K X.mg X.base k f [pn] (FE X.K C CT m)) (hr:Room k' X.A) (hx:Out X E) (ho:PE X o to) (hk:k<=k':=by decide) (hg:Gl X f:=by rfl)
 (hdb:(f==("__debug__":Str))=false:=by decide) (hst:bc [o] X.env=(false,eval o X.env)::bc [] X.env:=by rfl):PE X (.Call (.Name f p) [o] [] pos) (nQ X.K C CT E to m):=by
 intro pins s σ H Q I h;refine D.call (E:=E) hr hx (AA (IM (K0:=λx H1=>RdX X.K C x H1 λr ta cs e rest=>TY X.K C CT r ta cs e H1 Q E (m rest)) ho) AF hst) hk hg hdb hst rfl pins s σ H Q I ⟨h,λx H1 ⟨r,ta,cs,e,rest,ex,Rr,q⟩=>?_⟩;exact⟨r,ta,cs,e,rest,by rw[ex];rfl,Rr,q⟩
end
def mUn (l:List UInt8):Option (List Int×List UInt8):=match sk ("1":Str).cps.toList l with
 |none=>none
 |some (_,t)=>if t.isEmpty=true then some ([0,0,0,0,1],t) else none
def mSg (dz:Str) (l:List UInt8):Option (Int×List UInt8):=if see "-" l=true then(match sk ("-":Str).cps.toList l with
 |none=>none
 |some (_,t)=>if see "0" t=true then none else match wn dz 4 t with
  |none=>none
  |some (n,u)=>some (-(n:Int),u))
 else match wn dz 4 l with
  |none=>none
  |some (n,u)=>some ((n:Int),u)
def mPw (dz:Str) (l:List UInt8):Option (List Int×List UInt8):=if see "^" l=true then(match sk ("^":Str).cps.toList l with
 |none=>none
 |some (_,t)=>match mSg dz t with
  |none=>none
  |some (n,u)=>if see "/" u=true then(match sk ("/":Str).cps.toList u with
   |none=>none
   |some (_,v)=>match wn dz 4 v with
    |none=>none
    |some (d,y)=>if d<2\/1<pj n d then none else some ([n,(d:Int)],y))
   else if n=0\/n=1 then none else some ([n,1],u))
 else some ([1,1],l)
def nR (n:Int):V:=.int n
section
variable {P:aw} {w:bv} {K:aa} {mg:Str->Option ag} {base:Heap} {C CT:Addr} {dz:Str}
theorem nS:FnScope ["reader"] ["reader"] (AH F2):={}
theorem nU (F:Fun K "read_unison" "read_unison" F2 f fd) (R:RdE P w K mg base C CT dz) (gu:GT K mg "UNISON" (([0,0,0,0,1]:List Int).map V.int)):FnOk P w K mg base (CX1 P w) 5 f fd ["reader"] (FE K C CT mUn):=by
 refine F.okx nS λcdv A outer s H vs Q E hr h=>?_;obtain⟨r,ta,cs,e,rest,rfl,Rr,k⟩:=h;refine⟨_,AB (BL R hr AD (pv 0) AU (oks (by decide +kernel))) (AB (AW (D7 (JQ R hr AD (pv 0))) (AC (BF R.X1 hr AD rfl (B0 R (pv 0)))) AM) (AC (AJ (OQ gu)))),?_⟩
 and_intros
 unfold mUn at k;refine⟨_,rfl,r,ta,cs,e,rest,rfl,Rr,?_⟩;cases hs:sk ("1":Str).cps.toList rest with
 |none=>rw[hs] at k;exact AK rfl k
 |some x=>
  obtain⟨_,t⟩:=x;rw[hs] at k;refine AL rfl λH1 R1 s1=>?_;refine⟨_,rfl,r,ta,cs,e,t,rfl,R1,?_⟩;cases t with
  |nil=>exact BJ λa ha=>k H1 a R1 s1 (ha H1)
  |cons c t=>exact BS ⟨_,rfl,r,ta,cs,e,_,rfl,R1,λz=>⟨z,rfl,k z⟩⟩
theorem nW:FnScope ["reader"] ["reader"] (AH F3):={}
theorem nX (F:Fun K "read_signed" "read_signed" F3 f fd) (R:RdE P w K mg base C CT dz) (gm:GI mg "MOST_DIGITS" ((4:Nat):Int)):FnOk P w K mg base (CX1 P w) 5 f fd ["reader"] (GY K C CT (mSg dz) nR):=by
 refine F.okx nW λcdv A outer s H vs Q E hr h=>?_;obtain⟨r,ta,cs,e,rest,rfl,Rr,k⟩:=h;refine⟨_,AB (AW (D7 (BK R hr AD (pv 0) AU (oks (by decide +kernel)))) (AC (AJ (VS (most:=4) R hr AD (pv 0) (BZ gm)))) AM)
  (AB (BL R hr AD (pv 0) AU (oks (by decide +kernel)))
  (AB (AW (BK R hr AD (pv 0) AU (oks (by decide +kernel))) (AC (BF R.X1 hr AD rfl (B0 R (pv 0)))) AM)
  (AC (AJ (GX EM (VS (most:=4) R hr AD (pv 0) (BZ gm))))))),?_⟩
 and_intros
 unfold mSg at k;refine⟨_,rfl,r,ta,cs,e,rest,rfl,Rr,λH1 s1=>?_⟩;have R1:=Rr.same s1;cases hm:see "-" rest with
 |false=>
  rw[if_neg (by rw[hm];decide)] at k;refine BS ⟨_,rfl,r,ta,cs,e,rest,rfl,R1,?_⟩;cases hw:wn dz 4 rest with
  |none=>rw[hw] at k;exact AK rfl k
  |some x=>
   obtain⟨n,u⟩:=x;rw[hw] at k;exact AL rfl λH2 R2 s2=>k H2 R2 (s1.sb.trans s2)
 |true=>
  rw[if_pos hm] at k;refine BJ ⟨_,rfl,r,ta,cs,e,rest,rfl,R1,?_⟩;cases hs:sk ("-":Str).cps.toList rest with
  |none=>rw[hs] at k;exact AK rfl k
  |some x=>
   obtain⟨_,t⟩:=x;rw[hs] at k;refine AL rfl λH2 R2 s2=>?_;refine⟨_,rfl,r,ta,cs,e,t,rfl,R2,λH3 s3=>?_⟩;have R3:=R2.same s3;cases h0:see "0" t with
   |true=>
    replace k:∀z:Int,E (.ref CT) none (xH [("place",.int z)]):=by
     have k':=k;simp only[h0,if_true] at k';exact k'
    exact BS ⟨_,rfl,r,ta,cs,e,_,rfl,R3,λz=>⟨z,rfl,k z⟩⟩
   |false=>
    simp only[h0,fm,if_false] at k;refine BJ ⟨_,rfl,r,ta,cs,e,t,rfl,R3,?_⟩;cases hw:wn dz 4 t with
    |none=>rw[hw] at k;exact AK rfl k
    |some x=>
     obtain⟨n,u⟩:=x;rw[hw] at k;exact AL rfl λH4 R4 s4=>⟨_,rfl,k H4 R4 (((s1.sb.trans s2).trans s3.sb).trans s4)⟩
theorem ZQ:FnScope ["reader","start","top","below"] ["reader","start"] (AH GO):={}
theorem nY (F:Fun K "read_power" "read_power" GO f fd) (R:RdE P w K mg base C CT dz) (gm:GI mg "MOST_DIGITS" ((4:Nat):Int)) (D1:Def P w K mg base 5 "read_signed" ["reader"] (GY K C CT (mSg dz) nR))
 (D2:Def P w K mg base 1 "common_factor" ["x","y"] iG):FnOk P w K mg base (CX1 P w) 6 f fd ["reader","start"] (ZP K C CT (mPw dz)):=by
 refine F.okx ZQ λcdv A outer s H vs Q E hr h=>?_;obtain⟨r,ta,cs,e,rest,st,rfl,Rr,k⟩:=h;refine⟨_,AB (AW (D7 (BK R hr AD (pv 0) AU (oks (by decide +kernel)))) (AC (AJ (E4 (AA AI (AA AI AF))))) AM)
  (AB (BL R hr AD (pv 0) AU (oks (by decide +kernel)))
  (AB (AX 2 ZQ (KL D1 hr AD (pv 0)))
  (AB (AW (D7 (BK R hr AD (pv 0) AU (oks (by decide +kernel))))
   (AB (AW (OA (AO CP (pv 2) AI (AQ _)) (JZ (AO CP (pv 2) AI (AQ _)))).pt (AC (BF R.X1 hr AD rfl (pv 1))) AM) (AC (AJ (E4 (AA (pv 2) (AA AI AF)))))) AM)
  (AB (BL R hr AD (pv 0) AU (oks (by decide +kernel)))
  (AB (AX 3 ZQ (VS (most:=4) R hr AD (pv 0) (BZ gm)))
  (AB (AW (OA (AO IH (pv 3) AI (AQ _)) (JZ (AO E3 (D2.call hr AD (AA (pv 2) (AA (pv 3) AF))) AI (AQ _)))).pt (AC (BF R.X1 hr AD rfl (pv 1))) AM)
  (AC (AJ (E4 (AA (pv 2) (AA (pv 3) AF))))))))))),?_⟩
 and_intros
 unfold mPw at k;refine⟨_,rfl,r,ta,cs,e,rest,rfl,Rr,λH1 s1=>?_⟩;have R1:=Rr.same s1;cases hm:see "^" rest with
 |false=>
  rw[if_neg (by rw[hm];decide)] at k;refine BS ⟨(by show 2<=sizeLine;decide),λt ht=>?_⟩;exact k _ t (R1.same (Same.upd ht)) (s1.trans (Same.upd ht)).sb (SqT.of upd_same)
 |true=>
  rw[if_pos hm] at k;refine BJ ⟨_,rfl,r,ta,cs,e,rest,rfl,R1,?_⟩;cases hs:sk ("^":Str).cps.toList rest with
  |none=>rw[hs] at k;exact AK rfl k
  |some x=>
   obtain⟨_,t⟩:=x;rw[hs] at k;refine AL rfl λH2 R2 s2=>?_;refine⟨_,rfl,r,ta,cs,e,t,rfl,R2,?_⟩;cases hg:mSg dz t with
   |none=>simp only[hg] at k;exact AK rfl k
   |some x=>
    obtain⟨n,u⟩:=x;simp only[hg] at k;refine AL rfl λH3 R3 s3=>?_;refine⟨_,rfl,r,ta,cs,e,u,rfl,R3,λH4 s4=>?_⟩;have R4:=R3.same s4;have sb4:Sb r H H4:=((s1.sb.trans s2).trans s3).trans s4.sb;cases hl:see "/" u with
    |false=>
     simp only[hl,fm,if_false] at k;refine BS ⟨V.int n,rfl,rfl,_,rfl,B7 (λh0=>?_) (λh0=>?_)⟩
     ·have e0:n=0:=by
       have q:=of_decide_eq_true h0;injection q
      rw[if_pos (.inl e0)] at k;exact BS ⟨_,rfl,_,rfl,k _⟩
     ·have e0:¬n=0:=λq=>h0 (decide_eq_true (by rw[q]));refine⟨V.int n,rfl,rfl,_,rfl,B7 (λh1=>?_) (λh1=>?_)⟩
      ·have e1:n=1:=by
        have q:=of_decide_eq_true h1;injection q
       rw[if_pos (.inr e1)] at k;exact⟨_,rfl,_,rfl,k _⟩
      ·have e1:¬n=1:=λq=>h1 (decide_eq_true (by rw[q]));rw[if_neg (by rintro (q|q);exact e0 q;exact e1 q)] at k;refine⟨V.int n,rfl,(by show 2<=sizeLine;decide),λt ht=>?_⟩;exact k _ t (R4.same (Same.upd ht)) (sb4.trans (Same.upd ht).sb) (SqT.of upd_same)
    |true=>
     simp only[hl,if_true] at k;refine BJ ⟨_,rfl,r,ta,cs,e,u,rfl,R4,?_⟩;cases hs2:sk ("/":Str).cps.toList u with
     |none=>rw[hs2] at k;exact AK rfl k
     |some x=>
      obtain⟨_,v⟩:=x;rw[hs2] at k;refine AL rfl λH5 R5 s5=>?_;refine⟨_,rfl,r,ta,cs,e,v,rfl,R5,?_⟩;cases hw:wn dz 4 v with
      |none=>simp only[hw] at k;exact AK rfl k
      |some x=>
       obtain⟨d,y⟩:=x;simp only[hw] at k;refine AL rfl λH6 R6 s6=>?_;have sb6:Sb r H H6:=(sb4.trans s5).trans s6;refine⟨V.int (d:Nat),rfl,_,_,rfl,rfl,_,rfl,B7 (λh0=>?_) (λh0=>?_)⟩
       ·have e0:d<2:=by
         have:(d:Int)<2:=by simpa using h0
         omega
        rw[if_pos (.inl e0)] at k;exact BS ⟨_,rfl,_,rfl,k _⟩
       ·have e0:¬d<2:=by
         have:¬(d:Int)<2:=by simpa using h0
         omega
        refine⟨V.int n,rfl,V.int (d:Nat),rfl,n,(d:Nat),rfl,_,_,rfl,rfl,_,rfl,B7 (λh1=>?_) (λh1=>?_)⟩
        ·have e1:1<pj n d:=by
          have:(1:Int)<(pj n d:Nat):=by simpa using h1
          omega
         rw[if_pos (.inr e1)] at k;exact⟨_,rfl,_,rfl,k _⟩
        ·have e1:¬1<pj n d:=by
          have:¬(1:Int)<(pj n d:Nat):=by simpa using h1
          omega
         rw[if_neg (by rintro (q|q);exact e0 q;exact e1 q)] at k;refine⟨V.int n,rfl,V.int (d:Nat),rfl,(by show 2<=sizeLine;decide),λt ht=>?_⟩;exact k _ t (R6.same (Same.upd ht)) (sb6.trans (Same.upd ht).sb) (SqT.of upd_same)
end
open PySem PySem.Spec PyProof.Rows L2
theorem EV {l:List UInt8} (h:pk z l=some (n,t)):t.length+1=l.length/\n<z.cps.toList.length:=by
 cases l with
 |nil=>cases h
 |cons c u=>
  rw[BQ] at h;cases hi:BP z.cps.toList (c.toNat:Nat) with
  |none=>rw[hi] at h;cases h
  |some m=>
   rw[hi] at h;cases h;refine⟨rfl,?_⟩;unfold BP at hi;rw[kr] at hi;exact hi.1
theorem BN:∀{x:List Nat} {l t:List UInt8} {u:Unit},sk x l=some (u,t)->t.length+x.length=l.length
 |[],l,t,u,h=>by cases h;simp
 |x::w,[],t,u,h=>by cases h
 |x::w,c::l,t,u,h=>by
  rw[sk] at h;split at h
  ·have:=BN h;simp;omega
  ·cases h
theorem VT {most:Nat} (hz:z.cps.toList.length<=10):∀{l t:List UInt8} {n v r:Nat},GZ z most n v l=some (r,t)->t.length<=l.length/\(n<=most->v<10 ^ n->r<10 ^ most)
 |[],t,n,v,r,h=>by
  rw[GZ] at h;cases h;exact⟨aq _,λh1 h2=>br h2 (lq (by decide) h1)⟩
 |c::l,t,n,v,r,h=>by
  rw[GZ] at h;cases hi:BP z.cps.toList (c.toNat:Nat) with
  |none=>
   simp only[hi] at h;cases h;exact⟨aq _,λh1 h2=>br h2 (lq (by decide) h1)⟩
  |some d=>
   simp only[hi] at h;split at h
   ·cases h
   ·rename_i hc;have hd:d<10:=by
     unfold BP at hi;rw[kr] at hi;have:=hi.1;omega
    obtain⟨h3,h4⟩:=VT hz h;refine⟨by simp;omega,λh1 h2=>h4 ?_ ?_⟩
    ·have:¬n=most:=λq=>hc (.inl q);omega
    ·rw[zm];omega
theorem ZR {most:Nat} {l:List UInt8} (hz:z.cps.toList.length<=10) (hm:1<=most) (h:wn z most l=some (n,t)):t.length<l.length/\n<10 ^ most:=by
 unfold wn at h;cases hp:pk z l with
 |none=>rw[hp] at h;cases h
 |some x=>
  obtain⟨d,u⟩:=x;rw[hp] at h;have h1:=EV hp;obtain⟨h2,h3⟩:=VT hz h;exact⟨by omega,h3 hm (by omega)⟩
theorem iO {n:Int} {l:List UInt8} (hz:z.cps.toList.length<=10) (h:mSg z l=some (n,t)):t.length<=l.length/\n.natAbs<10000:=by
 unfold mSg at h;split at h
 ·cases hs:sk ("-":Str).cps.toList l with
  |none=>rw[hs] at h;cases h
  |some x=>
   obtain⟨_,u⟩:=x;simp only[hs] at h;split at h
   ·cases h
   ·cases hw:wn z 4 u with
    |none=>simp only[hw] at h;cases h
    |some x=>
     obtain⟨m,v⟩:=x;simp only[hw] at h;cases h;have h1:=BN hs;have h2:=ZR hz (by decide) hw;refine⟨by omega,?_⟩;have:m<10000:=h2.2;omega
 ·cases hw:wn z 4 l with
  |none=>simp only[hw] at h;cases h
  |some x=>
   obtain⟨m,v⟩:=x;simp only[hw] at h;cases h;have h2:=ZR hz (by decide) hw;refine⟨by omega,?_⟩;have:m<10000:=h2.2;omega
theorem iP {l:List UInt8} (hz:z.cps.toList.length<=10) (h:mPw z l=some (x,t)):t.length<=l.length/\Ex2 λ(n:Int) (d:Nat)=>x=[n,(d:Int)]/\n.natAbs<10000/\1<=d/\d<10000:=by
 unfold mPw at h;split at h
 ·cases hs:sk ("^":Str).cps.toList l with
  |none=>rw[hs] at h;cases h
  |some y=>
   obtain⟨_,u⟩:=y;simp only[hs] at h;have h1:=BN hs;cases hg:mSg z u with
   |none=>simp only[hg] at h;cases h
   |some y=>
    obtain⟨n,v⟩:=y;simp only[hg] at h;have h2:=iO hz hg;split at h
    ·cases hs2:sk ("/":Str).cps.toList v with
     |none=>rw[hs2] at h;cases h
     |some y=>
      obtain⟨_,q⟩:=y;simp only[hs2] at h;have h3:=BN hs2;cases hw:wn z 4 q with
      |none=>simp only[hw] at h;cases h
      |some y=>
       obtain⟨d,q2⟩:=y;simp only[hw] at h;have h4:=ZR hz (by decide) hw;split at h
       ·cases h
       ·rename_i hc;cases h;have:¬d<2:=λq=>hc (.inl q);have:d<10000:=h4.2;exact⟨by omega,n,d,rfl,h2.2,by omega,by omega⟩
    ·split at h
     ·cases h
     ·cases h;exact⟨by omega,n,1,rfl,h2.2,by decide,by decide⟩
 ·cases h;exact⟨aq _,1,1,rfl,by decide,by decide,by decide⟩
def LI (k:Nat) (n d:Int):List Int:=[0,0,0,0,d].set k n
def un5:List Int:=[0,0,0,0,1]
def mFc (dz fz:Str):Nat->Nat->List Int->List UInt8->Option (List Int×List UInt8)
 |0,_,_,_=>none
 |f+1,least,pr,l=>match pk fz l with
  |none=>none
  |some (k,t)=>match mPw dz t with
   |none=>none
   |some (x,u)=>if k<least then none else
    let pr':=BU (LI k (x.getD 0 0) (x.getD 1 0)) pr
    if u.isEmpty=true then some (pr',u) else match sk (" ":Str).cps.toList u with
     |none=>none
     |some (_,v)=>mFc dz fz f (k+1) pr' v
theorem NC (x y:List Int):(BU x y).length=5:=by simp[BU,EC]
theorem iQ (x y:List Int):(BU x y).getD 4 0=(x.getD 4 0*y.getD 4 0) / (BX (EC x y):Int):=by
 unfold BU;have:(EC x y)[4]? =some (x.getD 4 0*y.getD 4 0):=by unfold EC;rfl
 simp[uN,az,this]
theorem ZS {y:List Int} (hx:0<x.getD 4 0) (hy:0<y.getD 4 0):0<(BU x y).getD 4 0/\(BU x y).getD 4 0<=x.getD 4 0*y.getD 4 0:=by
 rw[iQ];have hg:=VM hx hy;have hp:0<x.getD 4 0*y.getD 4 0:=xB hx hy;obtain⟨q,hq⟩:=IZ (KG x y);have e:x.getD 4 0*y.getD 4 0 / (BX (EC x y):Int)=q:=by rw[hq];exact qk q (by omega)
 rw[e];have hq0:0<q:=by
  rw[hq] at hp;exact Int.pos_of_mul_pos_right hp (by omega)|>λh=>h
 refine⟨hq0,?_⟩;rw[hq];have:1*q<=(BX (EC x y):Int)*q:=Int.mul_le_mul_of_nonneg_right (by omega) (by omega);omega
theorem nZ {k:Nat} (hk:k<4) (n d:Int):(LI k n d).getD 4 0=d/\(LI k n d).length=5:=by
 match k,hk with
 |0,_=>exact⟨rfl,rfl⟩
 |1,_=>exact⟨rfl,rfl⟩
 |2,_=>exact⟨rfl,rfl⟩
 |3,_=>exact⟨rfl,rfl⟩
theorem dI {k:Nat} (hk:k<4) {n d z:Int} (h:z∈LI k n d):z=0\/z=n\/z=d:=by
 rcases List.mem_or_eq_of_mem_set h with h|h
 ·have h':z=0\/z=d:=by simpa using h
  rcases h' with h|h
  ·exact .inl h
  ·exact .inr (.inr h)
 ·exact .inr (.inl h)
theorem Sb.tup {K:aa} {dx:Addr} {fs:List (Str×V)} (s:Sb r H H') (hr:H r=some (.ins C dx fs)) (h:SqT K H a xs):SqT K H' a xs:=by
 rcases h with(h|⟨o,h⟩)|h
 ·exact .inl (.inl (s _ _ h (B1 h hr (by intro z;cases z))))
 ·exact .inl (.inr ⟨o,s _ _ h (B1 h hr (by intro z;cases z))⟩)
 ·exact .inr h
def n6 (K:aa):Sp:=λvs H Q _=>Ex4 λ(k:Nat) (pa:Addr) (n d:Int)=>vs=[.int (k:Nat),.ref pa]/\k<4/\SqT K H pa (([n,d]:List Int).map V.int)/\∀H' a,Same H H'->H' a=some (.tup ((LI k n d).map V.int))->Q (.ref a) H'
section
variable {P:aw} {w:bv} {K:aa} {mg:Str->Option ag} {base:Heap} {C CT:Addr} {dz fz:Str}
theorem fJ:FnScope ["factor","power","numbers"] ["factor","power"] (AH DV):={}
theorem n8 (F:Fun K "power_of_factor" "power_of_factor" DV f fd) (B:Blt mg):FnOk P w K mg base (CX1 P w) 1 f fd ["factor","power"] (n6 K):=by
 refine F.okx fJ λcdv A outer s H vs Q E hr h=>?_;obtain⟨k,pa,n,d,rfl,hk,hp,q⟩:=h;refine⟨_,AB (AX 2 fJ (DK (AA AI (AA AI (AA AI (AA AI (AA (BI DL (pv 1) AI (λ_ _=>rfl)) AF)))))))
  (AB (gO (BI DL (pv 1) AI (λ_ _=>rfl)) (gN (pv 2) (pv 0) YS))
  (AC (AJ (HS II (by rfl) B.tuple RQ (AA (pv 2) AF))))),?_⟩
 and_intros
 refine⟨_,rfl,pa,_,_,_,rfl,rfl,hp,EU (l:=[n,d]) (i:=1) rfl (by show 1<2;decide),(by show 5<=sizeLine;decide),λl hl=>?_⟩;have s1:Same H (upd H l (.lst [.int 0,.int 0,.int 0,.int 0,.int d])):=Same.upd hl;refine⟨_,rfl,pa,_,_,_,rfl,rfl,s1.tup hp,EU (l:=[n,d]) (i:=0) rfl (by show 0<2;decide),_,rfl,_,rfl,l,_,(k:Int),k,rfl,rfl,upd_same,?_,?_⟩
 ·show ixN 5 (k:Int)=some k;unfold ixN;rw[if_pos (by omega),if_pos (by omega)];simp
 ·refine⟨_,rfl,l,_,rfl,.inl ⟨SqL.of upd_same,λa ha=>?_⟩⟩;have e:(([V.int 0,.int 0,.int 0,.int 0,.int d]:List V).set k (.int n))=(LI k n d).map V.int:=by
   unfold LI;rw[List.map_set];rfl
  refine q _ a (λb o e=>?_) (by rw[upd_same];exact congrArg (λz=>some (HO.tup z)) e);have n1:b≠l:=AG e hl;have n2:b≠a:=by
   refine AG (o:=o) ?_ ha;rw[AE n1,AE n1];exact e
  rw[AE n2,AE n1,AE n1];exact e
theorem K5:FnScope ["reader","before","product","start","factor","power"] ["reader"] (AH FA):={}
def RV (dz fz:Str) (l:List UInt8):Option (List Int×List UInt8):=mFc dz fz (l.length+1) 0 un5 l
theorem n9 (F:Fun K "read_factors" "read_factors" FA f fd) (R:RdE P w K mg base C CT dz) (gu:GT K mg "UNISON" (un5.map V.int)) (gf:GS mg "FACTORS" fz) (of:OkS fz) (hz:dz.cps.toList.length<=10) (hf:fz.cps.toList.length=4)
 (D1:Def P w K mg base 6 "read_power" ["reader","start"] (ZP K C CT (mPw dz))) (D2:Def P w K mg base 1 "power_of_factor" ["factor","power"] (n6 K)) (D3:Def P w K mg base 3 "upon" ["x","y"] (dB K)):
 FnOk P w K mg base (CX1 P w) 7 f fd ["reader"] (FE K C CT (RV dz fz)):=by
 refine F.okx K5 λcdv A outer s H vs Q E hr h=>?_;obtain⟨r,ta,cs,e,rest,rfl,Rr,k⟩:=h;refine⟨_,(AB (AX 1 K5 (GX EM AI))
  (AB (AX 2 K5 (OQ gu))
  (AC (B3 bn (C7 MA)
  (AB (AX 3 K5 (B0 R (pv 0)))
  (AB (AX 4 K5 (EZ R hr AD (pv 0) (FD gf) of))
  (AB (AX 5 K5 (D1.call hr AD (AA (pv 0) (AA (pv 3) AF))))
  (AB (AW (AO ME (pv 4) (pv 1) (AQ _)) (AC (BF R.X1 hr AD rfl (pv 3))) AM)
  (AB (AX 1 K5 (pv 4))
  (AB (AX 2 K5 (D3.call hr AD (AA (D2.call hr AD (AA (pv 4) (AA (pv 5) AF))) (AA (pv 2) AF))))
  (AB (AW (JQ R hr AD (pv 0)) (AC (AJ (pv 2))) AM)
  (AC (BL R hr AD (pv 0) AU (oks (by decide +kernel))))))))))))))),?_⟩
 and_intros
 refine⟨1,rfl,λpa hpa=>?_⟩;refine⟨λm σ H'=>Ex8 λ(rest':List UInt8) (least fuel:Nat) (pa:Addr) (pr:List Int) (r3 r4 r5:Option V)=>σ=[some (.ref r),some (.int ((least:Int) - 1)),some (.ref pa),r3,r4,r5]/\Sb r H H'/\Rd K C H' r ta cs e rest'/\
  SqT K H' pa (pr.map V.int)/\pr.length=5/\0<pr.getD 4 0/\pr.getD 4 0<=9999 ^ least/\least<=4/\RV dz fz rest=mFc dz fz fuel least pr rest'/\rest'.length<fuel/\m=rest'.length,
  ⟨rest.length,rest,0,rest.length+1,pa,un5,none,none,none,rfl,Sb.refl,Rr,hpa _,rfl,by decide,by decide,by decide,rfl,by omega,rfl⟩,?_⟩
 rintro m σ H' ⟨rest',least,fuel,pa,pr,r3,r4,r5,rfl,sb,R',hpr,l5,p4,b4,hl4,em,hfu,rfl⟩;obtain⟨fuel,rfl⟩:∃f',fuel=f'+1:=⟨fuel - 1,by omega⟩
 rw[mFc] at em;refine⟨_,rfl,DZ ?_⟩
 and_intros
 refine⟨_,rfl,r,ta,cs,e,rest',rfl,R',λz=>?_⟩;refine⟨_,rfl,r,ta,cs,e,rest',rfl,R',?_⟩;cases hp:pk fz rest' with
 |none=>
  simp only[hp] at em;rw[em] at k;exact AK rfl k
 |some x=>
  obtain⟨kk,t⟩:=x;simp only[hp] at em;have hk:=EV hp;have hk4:kk<4:=by rw[←hf];exact hk.2
  refine AL rfl λH1 R1 s1=>?_;obtain⟨dx',p',i'⟩:=R'.ins;refine⟨V.ref r,rfl,V.int z,rfl,r,ta,cs,e,t,z,rfl,R1,?_⟩;cases hw:mPw dz t with
  |none=>
   simp only[hw] at em;rw[em] at k;exact k
  |some x=>
   obtain⟨x,u⟩:=x;simp only[hw] at em;obtain⟨hu,n,d,rfl,hn,hd1,hd2⟩:=iP hz hw;intro H2 pa2 R2 s2 hp2;have sb2:Sb r H H2:=(sb.trans s1).trans s2;have hpr2:SqT K H2 pa (pr.map V.int):=Sb.tup (s1.trans s2) i' hpr;refine⟨V.int (kk:Nat),rfl,_,rfl,_,_,rfl,rfl,_,rfl,B7 (λh0=>?_) (λh0=>?_)⟩
   ·have e0:kk<least:=by
     have:(kk:Int)<=(least:Int) - 1:=by simpa using h0
     omega
    rw[if_pos e0] at em;rw[em] at k;exact⟨_,rfl,_,rfl,k _⟩
   ·have e0:¬kk<least:=by
     have:¬(kk:Int)<=(least:Int) - 1:=by simpa using h0
     omega
    rw[if_neg e0] at em;refine⟨V.int (kk:Nat),rfl,V.int (kk:Nat),rfl,V.ref pa2,rfl,kk,pa2,n,(d:Int),rfl,hk4,hp2,λH3 af s3 haf=>?_⟩;have f4:=nZ hk4 n (d:Int);have hpow:pr.getD 4 0<=9999 ^ 3:=by
     have:(9999:Int) ^ least<=9999 ^ 3:=zn.mpr (lq (by decide:0<9999) (by omega:least<=3))|>λh=>by simpa using h
     omega
    have bnd:((9999:Int)) ^ 3=999700029999:=by decide
    refine⟨V.ref pa,rfl,af,pa,LI kk n d,pr,rfl,SqT.of haf,s3.tup hpr2,f4.2,l5,λz hz'=>?_,by rw[f4.1];omega,p4,by omega,λH4 ap s4 hap=>?_⟩
    ·rcases dI hk4 hz' with q|q|q
     ·rw[q];decide
     ·rw[q];omega
     ·rw[q];omega
    have R4:=(R2.same s3).same s4;have sb4:Sb r H H4:=(sb2.trans s3.sb).trans s4.sb;refine⟨_,rfl,r,ta,cs,e,u,rfl,R4,?_⟩;have up:=ZS (x:=LI kk n d) (y:=pr) (by rw[f4.1];omega) p4;have e1:([n,(d:Int)]:List Int).getD 0 0=n:=rfl;have e2:([n,(d:Int)]:List Int).getD 1 0=d:=rfl;simp only[e1,e2] at em;cases u with
    |nil=>
     simp only[List.isEmpty_nil,if_true] at em;rw[em] at k;exact BS ⟨V.ref ap,rfl,k H4 ap R4 sb4 (SqT.of hap)⟩
    |cons c u=>
     simp only[List.isEmpty_cons,fm,if_false] at em;refine BJ ⟨_,rfl,r,ta,cs,e,c::u,rfl,R4,?_⟩;cases hs:sk (" ":Str).cps.toList (c::u) with
     |none=>
      rw[hs] at em;rw[em] at k;exact AK rfl k
     |some x=>
      obtain⟨_,v⟩:=x;rw[hs] at em;have hv:=BN hs;have hv':v.length+1=(c::u).length:=hv;obtain⟨dx4,p4',i4⟩:=R4.ins;refine AL rfl λH5 R5 s5=>?_;refine⟨v.length,by simp at hv' hu;omega,v,kk+1,fuel,ap,_,some (V.int z),some (DR kk),some (V.ref pa2),?_,sb4.trans s5,R5,Sb.tup s5 i4 (SqT.of hap),NC _ _,up.1,?_,by omega,em,by simp at hv' hu;omega,rfl⟩
      ·have:((kk+1:Nat):Int) - 1=kk:=by omega
       rw[this];rfl
      ·refine Int.le_trans up.2 ?_;rw[f4.1];have h9:(d:Int)*pr.getD 4 0<=9999*9999 ^ least:=yn (by omega) b4 (by omega) (by decide);have h8:(9999:Int)*9999 ^ least<=9999 ^ (kk+1):=by
        have:(9999:Nat)*9999 ^ least<=9999 ^ (kk+1):=by
         rw[←Nat.pow_succ'];exact lq (by decide) (by omega)
        have:=zn.mpr this;simpa using this
       omega
end
open PySem PySem.Spec PyProof.Rows L2
theorem ED {K:aa} {res:Option (List Int×List UInt8)} (h:res=none) (k:∀z:Int,E (.ref CT) none (xH [("place",.int z)])):TY K CR CT r ta cs e H Q E res:=by
 rw[h];exact k
theorem EE {K:aa} {res:Option (List Int×List UInt8)} {l:List Int} (h:res=some (l,t)) (k:∀H' a,Rd K CR H' r ta cs e t->Sb r H H'->SqT K H' a (l.map V.int)->Q (.ref a) H'):TY K CR CT r ta cs e H Q E res:=by
 rw[h];exact k
def mIv (dz fz:Str) (l:List UInt8):Option (List Int):=if see "1" l=true then(match mUn l with
 |none=>none
 |some (x,_)=>some x)
 else match RV dz fz l with
  |none=>none
  |some (x,_)=>if F7 x=true then some x else none
theorem P7:∀{f least:Nat} {pr x:List Int} {l t:List UInt8},mFc dz fz f least pr l=some (x,t)->x.length=5
 |0,_,_,_,_,_,h=>by rw[mFc] at h;cases h
 |f+1,least,pr,x,l,t,h=>by
  rw[mFc] at h;cases hp:pk fz l with
  |none=>simp only[hp] at h;cases h
  |some y=>
   obtain⟨k,u⟩:=y;simp only[hp] at h;cases hw:mPw dz u with
   |none=>simp only[hw] at h;cases h
   |some y=>
    obtain⟨q,v⟩:=y;simp only[hw] at h;split at h
    ·cases h
    ·split at h
     ·cases h;exact NC _ _
     ·cases hs:sk (" ":Str).cps.toList v with
      |none=>rw[hs] at h;cases h
      |some y=>
       obtain⟨_,v'⟩:=y;rw[hs] at h;exact P7 h
theorem dJ (h5:x.length=5) (h:F7 x=true):Sm x:=by
 unfold F7 at h;simp only[kg,decide_eq_true_eq] at h;obtain⟨h1,⟨h2,h3⟩,_⟩:=h;refine⟨h5,λk hk=>?_,h2,h3⟩;have hm:x.getD k 0∈x.take 4:=by
  have hlt:k<x.length:=by omega
  have:(x.take 4)[k]? =some (x.getD k 0):=by rw[qy];simp[hk,uN,aj hlt]
  exact bo this
 have:=ki.mp h1 _ hm;simpa using this
theorem ZT:Sm un5:=⟨rfl,λk hk=>by match k,hk with|0,_=>decide|1,_=>decide|2,_=>decide|3,_=>decide,by decide,by decide⟩
theorem ZU {l:List UInt8} (h:mIv dz fz l=some x):Sm x:=by
 unfold mIv at h;split at h
 ·cases hu:mUn l with
  |none=>rw[hu] at h;cases h
  |some y=>
   obtain⟨y,t⟩:=y;rw[hu] at h;cases h;unfold mUn at hu;cases hs:sk ("1":Str).cps.toList l with
   |none=>rw[hs] at hu;cases hu
   |some z=>
    obtain⟨_,v⟩:=z;simp only[hs] at hu;split at hu
    ·cases hu;exact ZT
    ·cases hu
 ·cases hf:RV dz fz l with
  |none=>rw[hf] at h;cases h
  |some y=>
   obtain⟨y,t⟩:=y;simp only[hf] at h;split at h
   ·rename_i hi;cases h;exact dJ (P7 hf) hi
   ·cases h
def iR (K:aa) (CT:Addr) (H:Hp) (Q:VK) (E:XK):Option (List Int)->Prop
 |some l=>∀H' a,Same H H'->SqT K H' a (l.map V.int)->Q (.ref a) H'
 |none=>∀z:Int,E (.ref CT) none (xH [("place",.int z)])
def fK (K:aa) (CT:Addr) (dz fz:Str):Sp:=λvs H Q E=>Ex4 λ(ta:Addr) (cs:List UInt8) (p e:Nat)=>vs=[.ref ta,.int (p:Nat),.int (e:Nat)]/\SqL K H ta (cs.map cV)/\p<=e/\e<=cs.length/\iR K CT H Q E (mIv dz fz ((cs.take e).drop p))
theorem BT {H2:Hp} {x dx:Addr} {fs:List (Str×V)} (nx:H x=none) (nd:H dx=none) (s1:Sb x (upd (upd H dx (.own x)) x (.ins C dx fs)) H1) (s2:Sb x H1 H2):Same H H2:=λb o e=>by
 have n1:=AG e nx;have n2:=AG e nd;exact s2 b o (s1 b o (by rw[AE n1,AE n2];exact e) n1) n1
section
variable {P:aw} {w:bv} {K:aa} {mg:Str->Option ag} {base:Heap} {C CT:Addr} {dz fz:Str}
theorem TZ:FnScope ["text","place","end","reader","interval"] ["text","place","end"] (AH EQ):={}
theorem iS (F:Fun K "read_interval" "read_interval" EQ f fd) (R:RdE P w K mg base C CT dz) (D1:Def P w K mg base 5 "read_unison" ["reader"] (FE K C CT mUn))
 (D2:Def P w K mg base 7 "read_factors" ["reader"] (FE K C CT (RV dz fz))) (D3:Def P w K mg base 3 "is_interval" ["numbers"] (iI K)):FnOk P w K mg base (CX1 P w) 8 f fd ["text","place","end"] (fK K CT dz fz):=by
 refine F.okx TZ λcdv A outer s H vs Q E hr h=>?_;obtain⟨ta,cs,p,e,rfl,htx,hpe,hel,k⟩:=h;refine⟨_,(AB (AX 3 TZ (R.mkr.call hr AD (AA (pv 0) (AA (pv 1) (AA (pv 2) AF)))))
  (AB (AW (BK R hr AD (pv 3) AU (oks (by decide +kernel))) (AC (AJ (GW D1 hr AD (pv 3)))) AM)
  (AB (AX 4 TZ (GW D2 hr AD (pv 3)))
  (AB (AW (D7 (C7 (D3.call hr AD (AA (pv 4) AF)))) (AC (BF R.X1 hr AD rfl (pv 2))) AM)
  (AC (AJ (pv 4))))))),?_⟩
 and_intros
 refine⟨_,rfl,_,rfl,_,rfl,λx dx nx nd hne=>⟨x,dx,ta,(p:Int),(e:Int),rfl,upd_same,λH1 h1 s1=>⟨rfl,?_⟩⟩⟩;have R1:Rd K C H1 x ta cs e ((cs.take e).drop p):=by
  refine⟨⟨dx,p,h1,rfl,hpe⟩,?_,hel⟩;have sm:Same H H1:=BT nx nd s1 Sb.refl;exact sm.seq htx
 have fin:∀{H2:Hp},Sb x H1 H2->Same H H2:=λs2=>BT nx nd s1 s2;unfold mIv at k;refine⟨V.ref x,rfl,x,ta,cs,e,_,rfl,R1,λH2 s2=>?_⟩;have R2:=R1.same s2;cases hs:see "1" ((cs.take e).drop p) with
 |true=>
  rw[if_pos hs] at k;refine BS ⟨V.ref x,rfl,x,ta,cs,e,_,rfl,R2,?_⟩;cases hu:mUn ((cs.take e).drop p) with
  |none=>rw[hu] at k;exact ED rfl k
  |some y=>
   obtain⟨y,t⟩:=y;rw[hu] at k;exact EE rfl λH3 a R3 s3 q=>k H3 a (fin (s2.sb.trans s3)) q
 |false=>
  rw[if_neg (by rw[hs];decide)] at k;refine BJ ⟨V.ref x,rfl,x,ta,cs,e,_,rfl,R2,?_⟩;cases hf:RV dz fz ((cs.take e).drop p) with
  |none=>rw[hf] at k;exact ED rfl k
  |some y=>
   obtain⟨y,t⟩:=y;simp only[hf] at k;refine EE rfl λH3 a R3 s3 q=>?_;refine⟨V.ref a,rfl,a,y,rfl,q,P7 hf,λH4 s4=>⟨_,rfl,?_⟩⟩;cases hi:F7 y with
   |true=>
    rw[if_pos hi] at k;exact BJ ⟨V.ref a,rfl,k H4 a (fin ((s2.sb.trans s3).trans s4.sb)) (s4.tup q)⟩
   |false=>
    rw[if_neg (by rw[hi];decide)] at k;exact BS ⟨V.int (e:Nat),rfl,_,rfl,k _⟩
def lf (c:UInt8):Bool:=c != 10
def C5 (dz fz:Str) (l:List UInt8):Option (List Int×List UInt8):=match mIv dz fz (l.takeWhile lf) with
 |none=>none
 |some x=>some (x,l.drop (l.takeWhile lf).length)
theorem sc_rr:FnScope ["reader","end","interval"] ["reader"] (AH HB):={}
theorem N2 {l:List UInt8} (h:i<=(l.takeWhile lf).length):(∀c,l[i]? =some c->(lf c=true↔i<(l.takeWhile lf).length))/\(l[i]? =none->i=(l.takeWhile lf).length):=by
 induction l generalizing i with
 |nil=>simp at h;subst h;simp
 |cons c t ih=>
  by_cases hc:lf c=true
  ·rw[List.takeWhile_cons_of_pos hc] at h ⊢;cases i with
   |zero=>simp[hc]
   |succ i=>
    simp at h;have:=ih h;refine⟨λc' e=>?_,λe=>?_⟩
    ·rw[uQ] at e;rw[this.1 c' e];simp
    ·rw[uQ] at e;simp[this.2 e]
  ·rw[List.takeWhile_cons_of_neg hc] at h ⊢;simp at h;subst h;simp[hc]
theorem VU {rest:List UInt8} (h2:rest=(cs.take e).drop p) (hl:p+(rest.takeWhile lf).length<=e) (he:e<=cs.length):(cs.take (p+(rest.takeWhile lf).length)).drop p=rest.takeWhile lf:=by
 have h1:rest.takeWhile lf=rest.take (rest.takeWhile lf).length:=(List.prefix_iff_eq_take.mp (List.takeWhile_prefix lf))
 generalize hn:(rest.takeWhile lf).length=n at*;rw[h1,h2,yp,yp,vP];congr 1;omega
theorem OR {K:aa} {res:Option (List Int)} (h:res=none) (k:∀z:Int,E (.ref CT) none (xH [("place",.int z)])):iR K CT H Q E res:=by
 rw[h];exact k
theorem OS {K:aa} {res:Option (List Int)} {l:List Int} (h:res=some l) (k:∀H' a,Same H H'->SqT K H' a (l.map V.int)->Q (.ref a) H'):iR K CT H Q E res:=by
 rw[h];exact k
theorem oA (F:Fun K "read_rest" "read_rest" HB f fd) (R:RdE P w K mg base C CT dz) (gl:GI mg "LINE_FEED" 10) (D1:Def P w K mg base 8 "read_interval" ["text","place","end"] (fK K CT dz fz)):
 FnOk P w K mg base (CX1 P w) 9 f fd ["reader"] (FE K C CT (C5 dz fz)):=by
 refine F.okx sc_rr λcdv A outer s H vs Q E hr h=>?_;obtain⟨r,ta,cs,e,rest,rfl,Rr,k⟩:=h;refine⟨_,(AB (AX 1 sc_rr (AR (pv 0) rfl))
  (AB (B3 bn (GL (AO IH (pv 1) (AR (pv 0) rfl) (AQ _)) (EX (AO eY (BI B9 (AR (pv 0) rfl) (pv 1) (λ_ _=>rfl)) (BZ gl) (AQ _)))).pt (AC (J4 (i:=1) sc_rr.nd rfl (u7 rfl) AI J5)))
  (AB (AX 2 sc_rr (D1.call hr AD (AA (AR (pv 0) rfl) (AA (AR (pv 0) rfl) (AA (pv 1) AF)))))
  (AB (CQ (pv 0) (pv 1) rfl)
  (AC (AJ (pv 2))))))),?_⟩
 and_intros
 obtain⟨dx,p,h1,h2,h3⟩:=Rr.at_;refine⟨V.ref r,rfl,r,C,dx,_,_,rfl,h1,R.T.cl,R.T.np,M9 _ _ _,?_⟩;have hlen:rest.length=e - p:=by rw[h2,fu,dk];have:=Rr.le;omega
 have htw:(rest.takeWhile lf).length<=rest.length:=(List.takeWhile_sublist lf).length_le;have hget:∀i:Nat,i<rest.length->∃c,rest[i]? =some c/\cs[p+i]? =some c:=λi hi=>by
  refine⟨rest[i],aj hi,?_⟩;have q:rest[i]? =some rest[i]:=aj hi;have q2:rest[i]? =((cs.take e).drop p)[i]?:=congrArg (λl=>l[i]?) h2;rw[uc,qy,if_pos (by omega)] at q2;rw[←q2,q]
 refine⟨λm σ H'=>H'=H/\∃i:Nat,i<=(rest.takeWhile lf).length/\σ=[some (.ref r),some (.int ((p+i:Nat):Int)),none]/\m=rest.length - i,⟨rest.length,rfl,0,df _,rfl,rfl⟩,?_⟩;rintro m σ H' ⟨rfl,i,hi,rfl,rfl⟩;have tw:=N2 hi;refine⟨_,rfl,V.ref r,rfl,r,C,dx,_,_,rfl,h1,R.T.cl,R.T.ne,mX _ _ _,_,_,rfl,rfl,_,rfl,B7 (λhlt=>?_) (λhlt=>?_)⟩
 ·have hlt':p+i<e:=by
   have:((p+i:Nat):Int)<(e:Int):=by simpa using hlt
   omega
  obtain⟨c,hc1,hc2⟩:=hget i (by omega);refine⟨V.ref r,rfl,r,C,dx,_,_,rfl,h1,R.T.cl,R.T.nt,dG _ _ _,_,rfl,ta,_,_,_,rfl,rfl,Rr.tx,DH (v:=cV c) (by rw[az,hc2];rfl),rfl,_,rfl,?_⟩;have e10:decide (cV c=V.int 10)=!(lf c):=by
   unfold lf cV;rw[bne,zo];have:(V.int ((c.toNat:Nat):Int)=V.int 10)↔c=10:=by
    constructor
    ·intro q;injection q with q;apply xK.mp;show c.toNat=10;omega
    ·intro q;rw[q];rfl
   rw[decide_eq_decide.mpr this];rfl
  rw[e10,zo];cases hl:lf c with
  |true=>
   refine DZ ⟨_,rfl,_,_,rfl,rfl,rest.length - (i+1),by omega,rfl,i+1,(tw.1 c hc1).mp hl,?_,rfl⟩;show[some (V.ref r),some (V.int (((p+i:Nat):Int)+1)),none]=_;have:((p+i:Nat):Int)+1=((p+(i+1):Nat):Int):=by omega
   rw[this]
  |false=>
   have hi':i=(rest.takeWhile lf).length:=by
    have:¬i<(rest.takeWhile lf).length:=λq=>by have:=(tw.1 c hc1).mpr q;rw[hl] at this;cases this
    omega
   subst hi';refine BJ ⟨V.ref r,rfl,r,C,dx,_,_,rfl,h1,R.T.cl,R.T.nt,dG _ _ _,V.ref r,rfl,r,C,dx,_,_,rfl,h1,R.T.cl,R.T.np,M9 _ _ _,_,rfl,ta,cs,p,p+(rest.takeWhile lf).length,rfl,Rr.tx,by omega,by have:=Rr.le;omega,?_⟩;have er:(cs.take (p+(rest.takeWhile lf).length)).drop p=rest.takeWhile lf:=VU h2 (by omega) Rr.le;unfold C5 at k;cases hm:mIv dz fz (rest.takeWhile lf) with
   |none=>rw[hm] at k;exact OR (by rw[er];exact hm) k
   |some x=>
    simp only[hm] at k;refine OS (by rw[er];exact hm) λH2 a s2 q=>?_;have h12:=s2 _ _ h1;refine⟨_,rfl,V.ref r,rfl,r,C,dx,_,rfl,h12,R.T.cl,R.T.np,(by show 3<1000;decide),V.ref a,rfl,?_⟩;have sb:Sb r H2 (upd H2 r (.ins C dx (FS "place" (.int ((p+(rest.takeWhile lf).length:Nat):Int)) (rf ta p e)))):=λb o eb hb=>by rw[AE hb];exact eb
    refine k _ a ⟨⟨dx,p+(rest.takeWhile lf).length,sX upd_same rfl,?_,by omega⟩,Sb.lst sb h12 (s2.seq Rr.tx),Rr.le⟩ (s2.sb.trans sb) (Sb.tup sb h12 q);rw[h2,vO, ←h2]
 ·have hge:¬p+i<e:=by
   have:¬((p+i:Nat):Int)<(e:Int):=by simpa using hlt
   omega
  have hi':i=(rest.takeWhile lf).length:=by omega
  subst hi';refine BJ ⟨V.ref r,rfl,r,C,dx,_,_,rfl,h1,R.T.cl,R.T.nt,dG _ _ _,V.ref r,rfl,r,C,dx,_,_,rfl,h1,R.T.cl,R.T.np,M9 _ _ _,_,rfl,ta,cs,p,p+(rest.takeWhile lf).length,rfl,Rr.tx,by omega,by have:=Rr.le;omega,?_⟩;have er:(cs.take (p+(rest.takeWhile lf).length)).drop p=rest.takeWhile lf:=VU h2 (by omega) Rr.le;unfold C5 at k;cases hm:mIv dz fz (rest.takeWhile lf) with
  |none=>rw[hm] at k;exact OR (by rw[er];exact hm) k
  |some x=>
   simp only[hm] at k;refine OS (by rw[er];exact hm) λH2 a s2 q=>?_;have h12:=s2 _ _ h1;refine⟨_,rfl,V.ref r,rfl,r,C,dx,_,rfl,h12,R.T.cl,R.T.np,(by show 3<1000;decide),V.ref a,rfl,?_⟩;have sb:Sb r H2 (upd H2 r (.ins C dx (FS "place" (.int ((p+(rest.takeWhile lf).length:Nat):Int)) (rf ta p e)))):=λb o eb hb=>by rw[AE hb];exact eb
   refine k _ a ⟨⟨dx,p+(rest.takeWhile lf).length,sX upd_same rfl,?_,by omega⟩,Sb.lst sb h12 (s2.seq Rr.tx),Rr.le⟩ (s2.sb.trans sb) (Sb.tup sb h12 q);rw[h2,vO, ←h2]
end
open PySem PySem.Spec PyProof.Rows L2
def SbL (S:List Addr) (H H':Hp):Prop:=∀b o,H b=some o->b∉S->H' b=some o
theorem SbL.trans {S:List Addr} {H2:Hp} (a:SbL S H H1) (b:SbL S H1 H2):SbL S H H2:=λc o e n=>b c o (a c o e n) n
theorem Sb.l {S:List Addr} (s:Sb r H H') (h:r∈S):SbL S H H':=λb o e n=>s b o e λz=>n (z▸h)
theorem Same.l {S:List Addr} (s:Same H H'):SbL S H H':=λb o e _=>s b o e
theorem SbL.refl {S:List Addr}:SbL S H H:=λ_ _ e _=>e
def LT (K:aa) (H:Hp) (a:Addr) (ls:List (List Int)):Prop:=∃as:List Addr,H a=some (.lst (as.map V.ref))/\cb (λb l=>SqT K H b (l.map V.int)) as ls
theorem AS {F G:α->β->Prop}:∀{l:List α} {m:List β},cb F l m->(∀a b,F a b->G a b)->cb G l m
 |_,_,.nil,_=>.nil
 |_,_,.cons r t,f=>.cons (f _ _ r) (AS t f)
theorem FN {F:α->β->Prop} {x:α} {y:β} (h:F x y):∀{l:List α} {m:List β},cb F l m->cb F (l++[x]) (m++[y])
 |_,_,.nil=>.cons h .nil
 |_,_,.cons r t=>.cons r (FN h t)
theorem BD {F:α->β->Prop}:∀{l:List α} {m:List β} {i:Nat} {a:α},cb F l m->l[i]? =some a->∃b,m[i]? =some b/\F a b
 |_,_,_,_,.nil,e=>by simp at e
 |_,_,0,_,.cons r _,e=>by simp at e;subst e;exact⟨_,rfl,r⟩
 |_,_,i+1,_,.cons _ t,e=>by
  obtain⟨b,h1,h2⟩:=BD (i:=i) t (by simpa using e);exact⟨b,by simpa using h1,h2⟩
def ifs (af ac ab:Addr):List (Str×V):=[("frets",.ref af),("courses",.ref ac),("basses",.ref ab)]
structure InA (K:aa) (CI:Addr) (H:Hp) (ia af ac ab:Addr) (fr co ba:List (List Int)):Prop where
 at_:∃dx,H ia=some (.ins CI dx (ifs af ac ab))
 fr_:LT K H af fr
 co_:LT K H ac co
 ba_:LT K H ab ba
 n1:af≠ac
 n2:af≠ab
 n3:ac≠ab
 sf:∀l∈fr,Sm l
 sc:∀l∈co,Sm l
 sb:∀l∈ba,Sm l
 lf:fr.length<=15
 lc:co.length+ba.length<=14
def Kp (H H':Hp):Prop:=(∀b xs,H b=some (.lst xs)->H' b=some (.lst xs))/\(∀b xs,H b=some (.tup xs)->H' b=some (.tup xs))/\(∀b o u,H b=some (.frz o u)->H' b=some (.frz o u))/\
 ∀b C dx af ac ab,H b=some (.ins C dx (ifs af ac ab))->H' b=some (.ins C dx (ifs af ac ab))
theorem iU {af ac ab:Addr} {p e:Int}:ifs af ac ab≠rf ta p e:=by
 intro q;unfold ifs rf at q;have:=(Prod.mk.inj (we q).1).1;exact absurd this (by decide +kernel)
theorem Sb.kp {dx:Addr} {p e:Int} (s:Sb r H H') (h:H r=some (.ins C dx (rf ta p e))):Kp H H':=
 ⟨λb xs q=>s _ _ q (B1 q h (by intro z;cases z)),λb xs q=>s _ _ q (B1 q h (by intro z;cases z)),λb o u q=>s _ _ q (B1 q h (by intro z;cases z)),
  λb C' dx' af ac ab q=>s _ _ q (B1 q h (by intro z;injection z with _ _ z;exact iU z))⟩
theorem Same.kp (s:Same H H'):Kp H H':=⟨λb xs q=>s _ _ q,λb xs q=>s _ _ q,λb o u q=>s _ _ q,λb C dx af ac ab q=>s _ _ q⟩
theorem Kp.trans {H2:Hp} (a:Kp H H1) (b:Kp H1 H2):Kp H H2:=⟨λc xs q=>b.1 _ _ (a.1 _ _ q),λc xs q=>b.2.1 _ _ (a.2.1 _ _ q),λc o u q=>b.2.2.1 _ _ _ (a.2.2.1 _ _ _ q),λc C dx af ac ab q=>b.2.2.2 _ _ _ _ _ _ (a.2.2.2 _ _ _ _ _ _ q)⟩
theorem Kp.tup {K:aa} (k:Kp H H') (h:SqT K H a xs):SqT K H' a xs:=by
 rcases h with(h|⟨o,h⟩)|h
 ·exact .inl (.inl (k.2.1 _ _ h))
 ·exact .inl (.inr ⟨o,k.2.2.1 _ _ _ h⟩)
 ·exact .inr h
theorem Kp.lt {K:aa} (k:Kp H H') (h:LT K H a ls):LT K H' a ls:=let ⟨as,h1,h2⟩:=h;⟨as,k.1 _ _ h1,AS h2 λ_ _ q=>k.tup q⟩
theorem InA.kp {K:aa} {ia af ac ab:Addr} (I:InA K CI H ia af ac ab fr co ba) (k:Kp H H'):InA K CI H' ia af ac ab fr co ba:=
 ⟨let ⟨dx,q⟩:=I.at_;⟨dx,k.2.2.2 _ _ _ _ _ _ q⟩,k.lt I.fr_,k.lt I.co_,k.lt I.ba_,I.n1,I.n2,I.n3,I.sf,I.sc,I.sb,I.lf,I.lc⟩
def KTx (K:aa) (a:Addr) (xs:List V):Prop:=Ex3 λ(o:Obj) (its:Array ag) (n:Nat)=>K.lookup a=some o/\o.cls= .type "list"/\o.dict=none/\o.data= .seq its n/\its.size<=sizeLine/\Vals xs its.toList
theorem Rd.kp {K:aa} {rest:List UInt8} {a:Nat} {ys:List V} (R:Rd K C H r ta cs e rest) (h:H a=some (.lst xs)) (ht:¬a=ta\/KTx K ta (cs.map cV)) (s:∀b o,H b=some o->b≠a->H' b=some o):Rd K C H' r ta cs e rest:=by
 obtain⟨⟨dx,p,q,w⟩,t,l⟩:=R;refine⟨⟨dx,p,s _ _ q (B1 q h (by intro z;cases z)),w⟩,?_,l⟩;rcases ht with ht|ht
 ·rcases t with(t|⟨o,t⟩)|t
  ·exact .inl (.inl (s _ _ t (cq ht)))
  ·exact .inl (.inr ⟨o,s _ _ t (cq ht)⟩)
  ·exact .inr t
 ·exact .inr ht
abbrev St3:=List (List Int)×List (List Int)×List (List Int)
def iV (K:aa) (CR CI CT r ta:Addr) (cs:List UInt8) (e:Nat) (ia af ac ab:Addr) (H:Hp) (Q:VK) (E:XK):Option (St3×List UInt8)->Prop
 |some ((fr,co,ba),rest')=>∀H',Rd K CR H' r ta cs e rest'->InA K CI H' ia af ac ab fr co ba->SbL [r,af,ac,ab] H H'->Q .non H'
 |none=>∀z:Int,E (.ref CT) none (xH [("place",.int z)])
theorem HW {K:aa} {ia af ac ab:Addr} {res:Option (St3×List UInt8)} (h:res=none) (k:∀z:Int,E (.ref CT) none (xH [("place",.int z)])):iV K CR CI CT r ta cs e ia af ac ab H Q E res:=by
 rw[h];exact k
theorem HX {K:aa} {ia af ac ab:Addr} {res:Option (St3×List UInt8)} (h:res=some ((fr,co,ba),t))
 (k:∀H',Rd K CR H' r ta cs e t->InA K CI H' ia af ac ab fr co ba->SbL [r,af,ac,ab] H H'->Q .non H'):iV K CR CI CT r ta cs e ia af ac ab H Q E res:=by
 rw[h];exact k
def LJ (K:aa) (C CI CT:Addr) (m:St3->List UInt8->Option (St3×List UInt8)):Sp:=λvs H Q E=>Ex12 λ(r ta:Addr) (cs:List UInt8) (e:Nat) (rest:List UInt8) (ia af ac ab:Addr) (fr co ba:List (List Int))=>
 vs=[.ref r,.ref ia]/\Rd K C H r ta cs e rest/\InA K CI H ia af ac ab fr co ba/\((ta≠af/\ta≠ac/\ta≠ab)\/KTx K ta (cs.map cV))/\iV K C CI CT r ta cs e ia af ac ab H Q E (m (fr,co,ba) rest)
def mSW (z:Str) (m:Bool) (l:List UInt8):Option (Unit×List UInt8):=match sk z.cps.toList l with
 |none=>none
 |some (_,t)=>if m=true then sk (" ":Str).cps.toList t else none
def oB (K:aa) (C CT:Addr):Sp:=λvs H Q E=>Ex7 λ(r ta:Addr) (cs:List UInt8) (e:Nat) (rest:List UInt8) (z:Str) (m:Bool)=>vs=[.ref r,.str z,.bl m]/\Rd K C H r ta cs e rest/\OkS z/\Got K C CT r ta cs e H Q E XB (mSW z m rest)
def ND (dz fz:Str):St3->List UInt8->Option (St3×List UInt8)
 |(fr,co,ba),l=>match mSW "fret" (decide (fr.length<15)) l with
  |none=>none
  |some (_,t)=>match C5 dz fz t with
   |none=>none
   |some (x,u)=>if BH (fr.getLastD un5) x=true then some ((fr++[x],co,ba),u) else none
def FO (dz fz:Str):St3->List UInt8->Option (St3×List UInt8)
 |(fr,co,ba),l=>match mSW "course" (decide (co.length+ba.length<14)) l with
  |none=>none
  |some (_,t)=>match C5 dz fz t with
   |none=>none
   |some (x,u)=>if(fr.all λf=>F7 (BU f x))=true then some ((fr,co++[x],ba),u) else none
def JR (dz fz:Str):St3->List UInt8->Option (St3×List UInt8)
 |(fr,co,ba),l=>match mSW "bass" (decide (co.length+ba.length<14)) l with
  |none=>none
  |some (_,t)=>match C5 dz fz t with
   |none=>none
   |some (x,u)=>some ((fr,co,ba++[x]),u)
theorem NE {l:List UInt8} (h:C5 dz fz l=some (x,t)):Sm x:=by
 unfold C5 at h;cases hm:mIv dz fz (l.takeWhile lf) with
 |none=>rw[hm] at h;cases h
 |some y=>rw[hm] at h;cases h;exact ZU hm
structure InC (K:aa) (CI:Addr):Prop where
 cl:Cls K CI
 nf:NoAttr K CI "frets"
 nc:NoAttr K CI "courses"
 nb:NoAttr K CI "basses"
def ZV (CI:Addr):Sp:=λvs H Q _=>Ex2 λ(ia dx:Addr)=>vs=[.ref ia]/\H ia=some (.ins CI dx [])/\∀H' af ac ab,H' ia=some (.ins CI dx (ifs af ac ab))->H' af=some (.lst [])->H' ac=some (.lst [])->H' ab=some (.lst [])->H af=none->H ac=none->H ab=none->af≠ac->af≠ab->ac≠ab->Sb ia H H'->Q .non H'
def iW (K:aa) (CI:Addr):Sp:=λvs H Q _=>Ex7 λ(ia af ac ab:Addr) (fr co ba:List (List Int))=>vs=[.ref ia]/\InA K CI H ia af ac ab fr co ba/\Q (.int ((co.length+ba.length:Nat):Int)) H
theorem NF (af ac ab:Addr):(ifs af ac ab).lookup ("frets":Str)=some (.ref af):=rfl
theorem IN (af ac ab:Addr):(ifs af ac ab).lookup ("courses":Str)=some (.ref ac):=rfl
theorem VV (af ac ab:Addr):(ifs af ac ab).lookup ("basses":Str)=some (.ref ab):=rfl
theorem T0 (af ac ab:Addr) {m:Str} (h1:(m=="frets")=false) (h2:(m=="courses")=false) (h3:(m=="basses")=false):(ifs af ac ab).lookup m=none:=by
 unfold ifs;simp only[jb,h1,h2,h3]
theorem LT.len {K:aa} (h:LT K H a ls):∃ys,SqL K H a ys/\ys.length=ls.length:=let ⟨as,h1,h2⟩:=h;⟨_,SqL.of h1,by rw[ah];exact cf h2⟩
section
variable {P:aw} {w:bv} {K:aa} {mg:Str->Option ag} {base:Heap} {C CI CT:Addr} {dz fz:Str}
theorem fL:FnScope ["reader","word","more_may_come","start"] ["reader","word","more_may_come"] (AH HA):={}
theorem oC (F:Fun K "skip_word" "skip_word" HA f fd) (R:RdE P w K mg base C CT dz):FnOk P w K mg base (CX1 P w) 5 f fd ["reader","word","more_may_come"] (oB K C CT):=by
 refine F.okx fL λcdv A outer s H vs Q E hr h=>?_;obtain⟨r,ta,cs,e,rest,z,m,rfl,Rr,oz,k⟩:=h;refine⟨_,(AB (AX 3 fL (B0 R (pv 0)))
  (AB (AY (R.sk.call (pv 0) hr AD (AA (pv 1) AF)))
  (AB (AW (D7 (C7 (pv 2))) (AC (BF R.X1 hr AD rfl (pv 3))) AM)
  (AC (BL R hr AD (pv 0) AU (oks (by decide +kernel))))))),?_⟩
 and_intros
 refine⟨_,rfl,r,ta,cs,e,rest,rfl,Rr,λst=>?_⟩;obtain⟨dx,p,i1⟩:=Rr.ins;refine⟨V.ref r,rfl,r,dx,_,rfl,i1,P5 _ _ _,V.str z,rfl,r,ta,cs,e,rest,z,rfl,Rr,oz,?_⟩;unfold mSW at k;cases hs:sk z.cps.toList rest with
 |none=>rw[hs] at k;exact AK rfl k
 |some x=>
  obtain⟨_,t⟩:=x;simp only[hs] at k;refine AL rfl λH1 R1 s1=>?_;refine⟨V.bl m,rfl,m,rfl,?_⟩;cases m with
  |false=>exact BS ⟨V.int st,rfl,st,rfl,k st⟩
  |true=>
   simp only[if_true] at k;refine BJ ⟨V.ref r,rfl,r,ta,cs,e,t,rfl,R1,?_⟩;cases hs2:sk (" ":Str).cps.toList t with
   |none=>rw[hs2] at k;exact AK rfl k
   |some x=>
    obtain⟨⟨⟩,u⟩:=x;rw[hs2] at k;exact AL rfl λH2 R2 s2=>k H2 R2 (s1.trans s2)
theorem iX:FnScope ["self"] ["self"] (AH DW):={}
theorem iY (F:Fun K "__init__" "Instrument.__init__" DW f fd) (T:InC K CI):FnOk P w K mg base (CX1 P w) 1 f fd ["self"] (ZV CI):=by
 refine F.okx iX λcdv A outer s H vs Q E hr h=>?_;obtain⟨ia,dx,rfl,h1,k⟩:=h;refine⟨_,(AB (CQ (pv 0) (DK AF) rfl)
  (AB (CQ (pv 0) (DK AF) rfl)
  (AC (CQ (pv 0) (DK AF) rfl)))),?_⟩
 and_intros
 refine⟨df _,λaf naf=>?_⟩;have m1:ia≠af:=AG h1 naf;refine⟨V.ref ia,rfl,ia,CI,dx,_,rfl,(by rw[AE m1];exact h1),T.cl,T.nf,(by decide),df _,λac nac=>?_⟩;have m2:ia≠ac:=AG upd_same nac;have m3:af≠ac:=by
  refine AG (o:=.lst []) ?_ nac;rw[AE (cq m1),upd_same]
 refine⟨V.ref ia,rfl,ia,CI,dx,_,rfl,(by rw[AE m2,upd_same]),T.cl,T.nc,(by show 1<1000;decide),df _,λab nab=>?_⟩;have m4:ia≠ab:=AG upd_same nab;have m5:ac≠ab:=by
  refine AG (o:=.lst []) ?_ nab;rw[AE (cq m2),upd_same]
 have m6:af≠ab:=by
  refine AG (o:=.lst []) ?_ nab;rw[AE (cq m1),AE m3,AE (cq m1),upd_same]
 refine⟨V.ref ia,rfl,ia,CI,dx,_,rfl,(by rw[AE m4,upd_same]),T.cl,T.nb,(by show 2<1000;decide),?_⟩;have fac:H ac=none:=by rw[←nac,AE (cq m2),AE (cq m3)]
 have fab:H ab=none:=by rw[←nab,AE (cq m4),AE (cq m5),AE (cq m4),AE (cq m6)]
 refine k _ af ac ab (sX upd_same rfl) ?_ ?_ ?_ naf fac fab m3 m6 m5 λb o e hb=>?_
 ·rw[AE (cq m1),AE m6,AE (cq m1),AE m3,AE (cq m1),upd_same]
 ·rw[AE (cq m2),AE m5,AE (cq m2),upd_same]
 ·rw[AE (cq m4),upd_same]
 ·rw[AE hb,AE (AG e fab),AE hb,AE (AG e fac),AE hb,AE (AG e naf)];exact e
theorem iZ:FnScope ["self"] ["self"] (AH BV):={}
theorem i0 (F:Fun K "string_count" "Instrument.string_count" BV f fd) (B:Blt mg) (T:InC K CI):FnOk P w K mg base (CX1 P w) 1 f fd ["self"] (iW K CI):=by
 refine F.okx iZ λcdv A outer s H vs Q E hr h=>?_;obtain⟨ia,af,ac,ab,fr,co,ba,rfl,I,k⟩:=h;obtain⟨dx,h1⟩:=I.at_;obtain⟨y1,q1,l1⟩:=I.co_.len;obtain⟨y2,q2,l2⟩:=I.ba_.len;refine⟨_,(AC (AJ (BC C9 (AZ AN (by rfl) B.len cr (AA (AR (pv 0) rfl) AF)) (AZ AN (by rfl) B.len cr (AA (AR (pv 0) rfl) AF))))),?_⟩
 subst_eqs
 refine⟨V.ref ia,rfl,ia,CI,dx,_,_,rfl,h1,T.cl,T.nc,IN _ _ _,ac,y1,rfl,.inl q1,V.ref ia,rfl,ia,CI,dx,_,_,rfl,h1,T.cl,T.nb,VV _ _ _,ab,y2,rfl,.inl q2,_,_,rfl,rfl,?_⟩;rw[l1,l2];have e:((co.length:Int)+(ba.length:Int))=((co.length+ba.length:Nat):Int):=by omega
 show Q (V.int ((co.length:Int)+(ba.length:Int))) H;rw[e];exact k
end
open PySem PySem.Spec PyProof.Rows L2
structure InE (P:aw) (w:bv) (K:aa) (mg:Str->Option ag) (base:Heap) (C CI CT:Addr) (dz fz:Str):Prop where
 R:RdE P w K mg base C CT dz
 B:Blt mg
 T:InC K CI
 gu:GT K mg "UNISON" (un5.map V.int)
 sc:Mth P w K mg base 1 CI "string_count" ["self"] (iW K CI)
 sw:Def P w K mg base 5 "skip_word" ["reader","word","more_may_come"] (oB K C CT)
 rr:Def P w K mg base 9 "read_rest" ["reader"] (FE K C CT (C5 dz fz))
 nr:Def P w K mg base 2 "narrower" ["x","y"] (dE K)
 ii:Def P w K mg base 3 "is_interval" ["numbers"] (iI K)
 up:Def P w K mg base 3 "upon" ["x","y"] (dB K)
theorem N3 (r af ac ab:Addr):r∈[r,af,ac,ab]/\af∈[r,af,ac,ab]/\ac∈[r,af,ac,ab]/\ab∈[r,af,ac,ab]:=by simp
theorem LT.add {K:aa} {x:Addr} {l:List Int} {as:List Addr} (h:H a=some (.lst (as.map V.ref))) (p:cb (λb l=>SqT K H b (l.map V.int)) as ls) (hx:SqT K H x (l.map V.int)):
 LT K (upd H a (.lst (as.map V.ref++[.ref x]))) a (ls++[l]):=by
 have kt:∀{b:Addr} {ys:List V},SqT K H b ys->SqT K (upd H a (.lst (as.map V.ref++[.ref x]))) b ys:=λ{b ys} q=>by
  rcases q with(q|⟨o,q⟩)|q
  ·exact .inl (.inl (by rw[AE (B1 q h (by intro z;cases z))];exact q))
  ·exact .inl (.inr ⟨o,by rw[AE (B1 q h (by intro z;cases z))];exact q⟩)
  ·exact .inr q
 refine⟨as++[x],by rw[upd_same,dm];rfl,FN (F:=λb l=>SqT K (L2.upd H a (.lst (as.map V.ref++[.ref x]))) b (l.map V.int)) (kt hx) (AS p λ_ _ q=>kt q)⟩
theorem LT.upd {K:aa} {b:Addr} {ys:List V} (h:LT K H b ls) (ha:H a=some (.lst xs)) (hn:b≠a):LT K (upd H a (.lst ys)) b ls:=by
 obtain⟨as,h1,h2⟩:=h;refine⟨as,by rw[AE hn];exact h1,AS h2 λc l q=>?_⟩;rcases q with(q|⟨o,q⟩)|q
 ·exact .inl (.inl (by rw[AE (B1 q ha (by intro z;cases z))];exact q))
 ·exact .inl (.inr ⟨o,by rw[AE (B1 q ha (by intro z;cases z))];exact q⟩)
 ·exact .inr q
theorem MQ {as:List Addr} (h:as.getLast? =some a):atI (as.map V.ref) (-1)=some (.ref a):=by
 have hne:as≠[]:=by rintro rfl;simp at h
 have hl:0<as.length:=v5.mpr hne;unfold atI ixN;rw[ah,if_neg (by decide),if_pos (by omega)];show(as.map V.ref)[((-1:Int)+(as.length:Int)).toNat]? =_;have e:((-1:Int)+(as.length:Int)).toNat=as.length - 1:=by omega
 rw[e,az, ←qa,h];rfl
theorem K6 {F:α->β->Prop} {l:List α} {m:List β} (p:cb F l m) {y:β} (h:0<m.length):Ex2 λa b=>l.getLast? =some a/\m.getLastD y=b/\F a b/\b∈m:=by
 have hl:l.length=m.length:=cf p;have hlt:l.length - 1<l.length:=by omega
 obtain⟨b,h1,h2⟩:=BD (i:=l.length - 1) (a:=l[l.length - 1]) p (aj hlt);refine⟨l[l.length - 1],b,by rw[qa];exact aj hlt,?_,h2,bo h1⟩;rw[jg,qa, ←hl,h1];rfl
section
variable {P:aw} {w:bv} {K:aa} {mg:Str->Option ag} {base:Heap} {C CI CT:Addr} {dz fz:Str}
theorem VW:FnScope ["reader","instrument","start","fret","before"] ["reader","instrument"] (AH G8):={}
theorem oE (F:Fun K "read_fret" "read_fret" G8 f fd) (N:InE P w K mg base C CI CT dz fz) (gm:GI mg "MOST_FRETS" 15):FnOk P w K mg base (CX1 P w) 10 f fd ["reader","instrument"] (LJ K C CI CT (ND dz fz)):=by
 refine F.okx VW λcdv A outer s H vs Q E hr h=>?_;obtain⟨r,ta,cs,e,rest,ia,af,ac,ab,fr,co,ba,rfl,Rr,I,tt,k⟩:=h;have R:=N.R;refine⟨_,(AB (AY (N.sw.call hr AD (AA (pv 0) (AA AU (AA (DS IH (AZ AN (by rfl) N.B.len cr (AA (AR (pv 1) rfl) AF)) (BZ gm) (AQ _)) AF)))))
  (AB (AX 2 VW (B0 R (pv 0)))
  (AB (AX 3 VW (GW N.rr hr AD (pv 0)))
  (AB (AX 4 VW (QX (AO E3 (AZ AN (by rfl) N.B.len cr (AA (AR (pv 1) rfl) AF)) AI (AQ _)) (BI B9 (AR (pv 1) rfl) (GX EM AI) (λ_ _=>rfl)) (OQ N.gu)))
  (AB (AW (D7 (C7 (N.nr.call hr AD (AA (pv 4) (AA (pv 3) AF))))) (AC (BF R.X1 hr AD rfl (pv 2))) AM)
  (AC (AY (IJ dy fh fi CY (AR (pv 1) rfl) (AA (pv 3) AF))))))))),?_⟩
 and_intros
 obtain⟨dx,i1⟩:=I.at_;obtain⟨y1,q1,l1⟩:=I.fr_.len;obtain⟨dr,p,ir⟩:=Rr.ins;refine⟨V.ref r,rfl,V.ref ia,rfl,ia,CI,dx,_,_,rfl,i1,N.T.cl,N.T.nf,NF _ _ _,af,y1,rfl,.inl q1,_,_,rfl,rfl,r,ta,cs,e,rest,"fret",decide ((y1.length:Int)<15),rfl,Rr,oks (by decide +kernel),?_⟩;have eb:decide ((y1.length:Int)<15)=decide (fr.length<15):=by rw[l1,decide_eq_decide];omega
 rw[ND] at k;cases hs:mSW "fret" (decide (fr.length<15)) rest with
 |none=>simp only[hs] at k;exact AK (by rw[eb];exact hs) k
 |some x=>
  obtain⟨_,t⟩:=x;simp only[hs] at k;refine AL (by rw[eb];exact hs) λH1 R1 s1=>?_;have I1:=I.kp (Sb.kp s1 ir);obtain⟨dr1,p1,ir1⟩:=R1.ins;refine⟨_,rfl,r,ta,cs,e,t,rfl,R1,λst=>?_⟩;refine⟨_,rfl,r,ta,cs,e,t,rfl,R1,?_⟩;cases hm:C5 dz fz t with
  |none=>simp only[hm] at k;exact ED rfl k
  |some x=>
   obtain⟨x,u⟩:=x;simp only[hm] at k;have sx:=NE hm;refine EE rfl λH2 xa R2 s2 hx=>?_;have I2:=I1.kp (Sb.kp s2 ir1);obtain⟨dr2,p2,ir2⟩:=R2.ins;obtain⟨dx2,i2⟩:=I2.at_;obtain⟨as,a1,a2⟩:=id I2.fr_;obtain⟨y2,q2,l2⟩:=I2.fr_.len;have tail:∀(ba':Addr) (bl:List Int) (H3:Hp),Same H2 H3->SqT K H3 ba' (bl.map V.int)->bl=fr.getLastD un5->Sm bl->
    (AV (ST (lH (tB (KZ (dE K) [] E (B5 (BO 4) (B5 (BO 3) EN))))) (KI CT E (BO 2)) UU)
     (KY (tBM K "list" LS (NY K (BO 1) "frets") (B5 (BO 3) EN)))) { nx:=λ_ H'=>Q .non H',rt:=Q } [some (.ref r),some (.ref ia),some (.int st),some (.ref xa),some (.ref ba')] H3:=by
    intro ba' bl H3 s3 hb hbl sbl;refine⟨V.ref ba',rfl,V.ref xa,rfl,ba',xa,bl,x,rfl,hb,s3.tup hx,sbl,sx,λH4 s4=>⟨_,rfl,?_⟩⟩;have s24:Same H2 H4:=s3.trans s4;have R4:=R2.same s24;have I4:=I2.kp (Same.kp s24);rw[hbl];cases hn:BH (fr.getLastD un5) x with
    |false=>
     rw[if_neg (by rw[hn];decide)] at k;exact BS ⟨V.int st,rfl,st,rfl,k st⟩
    |true=>
     rw[if_pos hn] at k;have a14:=s24 _ _ a1;have a24:cb (λb l=>SqT K H4 b (l.map V.int)) as fr:=AS a2 λ_ _ q=>s24.tup q;have la:as.length=fr.length:=cf a24;have hlt:fr.length<15:=by
      by_cases hq:fr.length<15
      ·exact hq
      ·unfold mSW at hs;rw[decide_eq_false hq] at hs;cases hz:sk ("fret":Str).cps.toList rest with
       |none=>rw[hz] at hs;cases hs
       |some y=>obtain⟨_,y⟩:=y;rw[hz] at hs;cases hs
     refine BJ ⟨V.ref ia,rfl,ia,CI,dx2,_,_,rfl,s24 _ _ i2,N.T.cl,N.T.nf,NF _ _ _,.inl ⟨rfl,_,SqL.of a14⟩,V.ref xa,rfl,af,_,_,rfl,rfl,a14,?_,?_⟩
     ·rw[ah,la,bw];omega
     ·have sa:∀b o,H4 b=some o->b≠af->(upd H4 af (.lst (as.map V.ref++[.ref xa]))) b=some o:=λb o eb hb=>by rw[AE hb];exact eb
      refine k _ (R4.kp (xs:=as.map V.ref) (ys:=[]) a14 (tt.imp (λt=>cq t.1) id) sa) ⟨⟨dx2,sa _ _ (s24 _ _ i2) (B1 (s24 _ _ i2) a14 (by intro z;cases z))⟩,LT.add a14 a24 (s24.tup hx),I4.co_.upd a14 (cq I.n1),I4.ba_.upd a14 (cq I.n2),I.n1,I.n2,I.n3,?_,I.sc,I.sb,?_,I.lc⟩
       (((Sb.l s1 (N3 r af ac ab).1).trans (Sb.l s2 (N3 r af ac ab).1)).trans ((Same.l s24).trans λb o eb hb=>sa b o eb λz=>hb (z▸(N3 r af ac ab).2.1)))
      ·intro l hl;rcases cj.mp hl with hl|hl
       ·exact I.sf l hl
       ·rw[gq.mp hl];exact sx
      ·rw[bq];simp;omega
   refine⟨V.ref ia,rfl,ia,CI,dx2,_,_,rfl,i2,N.T.cl,N.T.nf,NF _ _ _,af,y2,rfl,.inl q2,_,_,rfl,rfl,_,rfl,?_⟩;refine B7 (λh0=>?_) (λh0=>?_)
   ·have hp:0<fr.length:=by
     have:(0:Int)<(y2.length:Int):=by simpa using h0
     omega
    obtain⟨a,b,e1,e2,e3,e4⟩:=K6 a2 (y:=un5) hp;refine⟨V.ref ia,rfl,ia,CI,dx2,_,_,rfl,i2,N.T.cl,N.T.nf,NF _ _ _,1,rfl,af,_,_,_,rfl,rfl,SqL.of a1,MQ e1,?_⟩;exact tail a b H2 (Same.refl _) e3 e2.symm (I.sf b e4)
   ·have hp:fr=[]:=by
     have:¬(0:Int)<(y2.length:Int):=by simpa using h0
     exact List.length_eq_zero_iff.mp (by omega)
    intro a ha;exact tail a un5 H2 (Same.refl _) (ha H2) (by rw[hp];rfl) ZT
end
open PySem PySem.Spec PyProof.Rows L2
theorem RW {m:Bool} {l:List UInt8} {x:Unit×List UInt8} (h:mSW z m l=some x):m=true:=by
 cases m with
 |true=>rfl
 |false=>
  unfold mSW at h;cases hz:sk z.cps.toList l with
  |none=>rw[hz] at h;cases h
  |some y=>obtain⟨_,y⟩:=y;rw[hz] at h;cases h
theorem T1 (af ac ab:Addr):(ifs af ac ab).lookup ("string_count":Str)=none:=T0 _ _ _ (by decide +kernel) (by decide +kernel) (by decide +kernel)
theorem Sm.b60 {l:List Int} (h:Sm l):(∀z∈l,z.natAbs<2 ^ 60)/\0<l.getD 4 0/\l.getD 4 0<2 ^ 60:=by
 obtain⟨h5,h1,h2,h3⟩:=h;refine⟨λz hz=>?_,by omega,by omega⟩;obtain⟨i,hi⟩:=lp hz;have hlt:=(au.mp hi).1;have e:l.getD i 0=z:=by simp[uN,hi]
 by_cases h4:i<4
 ·have:=h1 i h4;rw[e] at this;omega
 ·have e4:i=4:=by omega
  subst e4;rw[e] at h2 h3;omega
section
variable {P:aw} {w:bv} {K:aa} {mg:Str->Option ag} {base:Heap} {C CI CT:Addr} {dz fz:Str}
theorem VX:FnScope ["reader","instrument","start","course","fret"] ["reader","instrument"] (AH F4):={}
theorem oF (F:Fun K "read_course" "read_course" F4 f fd) (N:InE P w K mg base C CI CT dz fz) (gm:GI mg "MOST_STRINGS" 14):FnOk P w K mg base (CX1 P w) 10 f fd ["reader","instrument"] (LJ K C CI CT (FO dz fz)):=by
 refine F.okx VX λcdv A outer s H vs Q E hr h=>?_;obtain⟨r,ta,cs,e,rest,ia,af,ac,ab,fr,co,ba,rfl,Rr,I,tt,k⟩:=h;have R:=N.R;refine⟨_,(AB (AY (N.sw.call hr AD (AA (pv 0) (AA AU (AA (DS IH (N.sc.call0 (pv 1) hr AD) (BZ gm) (AQ _)) AF)))))
  (AB (AX 2 VX (B0 R (pv 0)))
  (AB (AX 3 VX (GW N.rr hr AD (pv 0)))
  (AB (B4 bn rfl (DG (AR (pv 1) rfl)) (DT 4 VX)
  (AC (AW (D7 (C7 (N.ii.call hr AD (AA (N.up.call hr AD (AA (pv 4) (AA (pv 3) AF))) AF)))) (AC (BF R.X1 hr AD rfl (pv 2))) AM)))
  (AC (AY (IJ dy fh fi CY (AR (pv 1) rfl) (AA (pv 3) AF)))))))),?_⟩
 and_intros
 obtain⟨dx,i1⟩:=I.at_;obtain⟨dr,p,ir⟩:=Rr.ins;refine⟨V.ref r,rfl,V.ref ia,rfl,ia,dx,_,rfl,i1,T1 _ _ _,ia,af,ac,ab,fr,co,ba,rfl,I,_,_,rfl,rfl,r,ta,cs,e,rest,"course",decide (((co.length+ba.length:Nat):Int)<14),rfl,Rr,oks (by decide +kernel),?_⟩;have eb:decide (((co.length+ba.length:Nat):Int)<14)=decide (co.length+ba.length<14):=by rw[decide_eq_decide];omega
 rw[FO] at k;cases hs:mSW "course" (decide (co.length+ba.length<14)) rest with
 |none=>simp only[hs] at k;exact AK (by rw[eb];exact hs) k
 |some x=>
  have hlt:co.length+ba.length<14:=of_decide_eq_true (RW hs);obtain⟨_,t⟩:=x;simp only[hs] at k;refine AL (by rw[eb];exact hs) λH1 R1 s1=>?_;have I1:=I.kp (Sb.kp s1 ir);obtain⟨dr1,p1,ir1⟩:=R1.ins;refine⟨_,rfl,r,ta,cs,e,t,rfl,R1,λst=>?_⟩;refine⟨_,rfl,r,ta,cs,e,t,rfl,R1,?_⟩;cases hm:C5 dz fz t with
  |none=>simp only[hm] at k;exact ED rfl k
  |some x=>
   obtain⟨x,u⟩:=x;simp only[hm] at k;have sx:=NE hm;refine EE rfl λH2 xa R2 s2 hx=>?_;have I2:=I1.kp (Sb.kp s2 ir1);obtain⟨dx2,i2⟩:=I2.at_;obtain⟨as,a1,a2⟩:=id I2.fr_;have la:as.length=fr.length:=cf a2;refine⟨V.ref ia,rfl,ia,CI,dx2,_,_,rfl,i2,N.T.cl,N.T.nf,NF _ _ _,af,rfl,⟨_,SqL.of a1⟩,DE (K:=K) (a:=af) (xs:=as.map V.ref) (λi σ H'=>(∃r4,σ=[some (.ref r),some (.ref ia),some (.int st),some (.ref xa),r4])/\Same H2 H'/\((fr.take i).all λf=>F7 (BU f x))=true) ⟨⟨none,rfl⟩,Same.refl _,rfl⟩
    (λi σ H' _ ⟨_,s3,_⟩=>SqL.of (s3 _ _ a1)) ?_ ?_⟩
   ·rintro i y σ H3 hi ⟨⟨r4,rfl⟩,s3,ha⟩
    subst_eqs
    rw[az] at hi;cases ea:as[i]? with
    |none=>rw[ea] at hi;cases hi
    |some fa=>
     rw[ea] at hi;cases hi;obtain⟨fl,f1,f2⟩:=BD a2 ea;have sfl:Sm fl:=I.sf fl (bo f1);have b1:=sfl.b60;have b2:=sx.b60;refine⟨V.ref fa,rfl,V.ref xa,rfl,fa,xa,fl,x,rfl,s3.tup f2,s3.tup hx,sfl.1,sx.1,b1.1,b1.2.1,b2.2.1,b2.2.2,λH4 ua s4 hu=>⟨ua,BU fl x,rfl,SqT.of hu,NC _ _,λH5 s5=>⟨_,rfl,?_⟩⟩⟩;cases hi:F7 (BU fl x) with
     |true=>
      refine BJ ⟨⟨_,rfl⟩,(s3.trans s4).trans s5,?_⟩;rw[dj,f1,xJ,ha];simp[hi]
     |false=>
      have hall:(fr.all λf=>F7 (BU f x))=false:=by
       rw[wL];exact⟨fl,bo f1,by rw[hi];decide⟩
      rw[if_neg (by rw[hall];decide)] at k;exact BS ⟨V.int st,rfl,st,rfl,k st⟩
   ·rintro σ H3 ⟨⟨r4,rfl⟩,s3,ha⟩;rw[ah,la,fk] at ha;rw[if_pos ha] at k;have I3:=I2.kp (Same.kp s3);have R3:=R2.same s3;obtain⟨bs,c1,c2⟩:=id I3.co_;have lb:bs.length=co.length:=cf c2;have i3:=s3 _ _ i2;refine⟨V.ref ia,rfl,ia,CI,dx2,_,_,rfl,i3,N.T.cl,N.T.nc,IN _ _ _,.inl ⟨rfl,_,SqL.of c1⟩,V.ref xa,rfl,ac,_,_,rfl,rfl,c1,?_,?_⟩
    ·rw[ah,lb,bw];omega
    ·have sa:∀b o,H3 b=some o->b≠ac->(upd H3 ac (.lst (bs.map V.ref++[.ref xa]))) b=some o:=λb o eb hb=>by rw[AE hb];exact eb
     refine k _ (R3.kp (xs:=bs.map V.ref) (ys:=[]) c1 (tt.imp (λt=>cq t.2.1) id) sa) ⟨⟨dx2,sa _ _ i3 (B1 i3 c1 (by intro z;cases z))⟩,I3.fr_.upd c1 I.n1,LT.add c1 c2 (s3.tup hx),I3.ba_.upd c1 (cq I.n3),I.n1,I.n2,I.n3,I.sf,?_,I.sb,I.lf,?_⟩
      (((Sb.l s1 (N3 r af ac ab).1).trans (Sb.l s2 (N3 r af ac ab).1)).trans ((Same.l s3).trans λb o eb hb=>sa b o eb λz=>hb (z▸(N3 r af ac ab).2.2.1)))
     ·intro l hl;rcases cj.mp hl with hl|hl
      ·exact I.sc l hl
      ·rw[gq.mp hl];exact sx
     ·rw[bq];simp;omega
theorem oG:FnScope ["reader","instrument"] ["reader","instrument"] (AH G9):={}
theorem oH (F:Fun K "read_bass" "read_bass" G9 f fd) (N:InE P w K mg base C CI CT dz fz) (gm:GI mg "MOST_STRINGS" 14):FnOk P w K mg base (CX1 P w) 10 f fd ["reader","instrument"] (LJ K C CI CT (JR dz fz)):=by
 refine F.okx oG λcdv A outer s H vs Q E hr h=>?_;obtain⟨r,ta,cs,e,rest,ia,af,ac,ab,fr,co,ba,rfl,Rr,I,tt,k⟩:=h;have R:=N.R;refine⟨_,(AB (AY (N.sw.call hr AD (AA (pv 0) (AA AU (AA (DS IH (N.sc.call0 (pv 1) hr AD) (BZ gm) (AQ _)) AF)))))
  (AC (AY (IJ dy fh fi CY (AR (pv 1) rfl) (AA (GW N.rr hr AD (pv 0)) AF))))),?_⟩
 and_intros
 obtain⟨dx,i1⟩:=I.at_;obtain⟨dr,p,ir⟩:=Rr.ins;refine⟨V.ref r,rfl,V.ref ia,rfl,ia,dx,_,rfl,i1,T1 _ _ _,ia,af,ac,ab,fr,co,ba,rfl,I,_,_,rfl,rfl,r,ta,cs,e,rest,"bass",decide (((co.length+ba.length:Nat):Int)<14),rfl,Rr,oks (by decide +kernel),?_⟩;have eb:decide (((co.length+ba.length:Nat):Int)<14)=decide (co.length+ba.length<14):=by rw[decide_eq_decide];omega
 rw[JR] at k;cases hs:mSW "bass" (decide (co.length+ba.length<14)) rest with
 |none=>simp only[hs] at k;exact AK (by rw[eb];exact hs) k
 |some x=>
  have hlt:co.length+ba.length<14:=of_decide_eq_true (RW hs);obtain⟨_,t⟩:=x;simp only[hs] at k;refine AL (by rw[eb];exact hs) λH1 R1 s1=>?_;have I1:=I.kp (Sb.kp s1 ir);obtain⟨dx1,i1'⟩:=I1.at_;obtain⟨bs1,c1',_⟩:=id I1.ba_;obtain⟨dr1,p1,ir1⟩:=R1.ins;refine⟨V.ref ia,rfl,ia,CI,dx1,_,_,rfl,i1',N.T.cl,N.T.nb,VV _ _ _,.inl ⟨rfl,_,SqL.of c1'⟩,V.ref r,rfl,r,ta,cs,e,t,rfl,R1,?_⟩;cases hm:C5 dz fz t with
  |none=>simp only[hm] at k;exact ED rfl k
  |some x=>
   obtain⟨x,u⟩:=x;simp only[hm] at k;have sx:=NE hm;refine EE rfl λH2 xa R2 s2 hx=>?_;have I2:=I1.kp (Sb.kp s2 ir1);obtain⟨dx2,i2⟩:=I2.at_;obtain⟨bs,c1,c2⟩:=id I2.ba_;have lb:bs.length=ba.length:=cf c2;refine⟨ab,_,_,rfl,rfl,c1,?_,?_⟩
   ·rw[ah,lb,bw];omega
   ·have sa:∀b o,H2 b=some o->b≠ab->(upd H2 ab (.lst (bs.map V.ref++[.ref xa]))) b=some o:=λb o eb hb=>by rw[AE hb];exact eb
    refine k _ (R2.kp (xs:=bs.map V.ref) (ys:=[]) c1 (tt.imp (λt=>cq t.2.2) id) sa) ⟨⟨dx2,sa _ _ i2 (B1 i2 c1 (by intro z;cases z))⟩,I2.fr_.upd c1 I.n2,I2.co_.upd c1 I.n3,LT.add c1 c2 hx,I.n1,I.n2,I.n3,I.sf,I.sc,?_,I.lf,?_⟩
     (((Sb.l s1 (N3 r af ac ab).1).trans (Sb.l s2 (N3 r af ac ab).1)).trans λb o eb hb=>sa b o eb λz=>hb (z▸(N3 r af ac ab).2.2.2))
    ·intro l hl;rcases cj.mp hl with hl|hl
     ·exact I.sb l hl
     ·rw[gq.mp hl];exact sx
    ·rw[bq];simp;omega
end
open PySem PySem.Spec PyProof.Rows L2
def HJ (dz fz:Str):St3->List UInt8->Option (St3×List UInt8)
 |(fr,co,ba),l=>if see "f" l=true/\co.length=0 then ND dz fz (fr,co,ba) l else if see "c" l=true/\ba.length=0 then FO dz fz (fr,co,ba) l else if see "b" l=true/\0<co.length then JR dz fz (fr,co,ba) l else none
def CV (dz fz:Str) (s:St3) (l:List UInt8):Option (St3×List UInt8):=match HJ dz fz s l with
 |none=>none
 |some (s',t)=>match sk ("\n":Str).cps.toList t with
  |none=>none
  |some (_,u)=>some (s',u)
def XC (dz:Str) (l:List UInt8):Option (Unit×List UInt8):=match sk ("length ":Str).cps.toList l with
 |none=>none
 |some (_,t)=>if see "0" t=true then none else match wn dz 7 t with
  |none=>none
  |some (n,u)=>if n<10000\/200000<n then none else sk ("\n":Str).cps.toList u
def CD (dz fz:Str):Nat->St3->List UInt8->Option St3
 |0,_,_=>none
 |f+1,(fr,co,ba),l=>if l.isEmpty=true/\¬co.length=0 then some (fr,co,ba) else match CV dz fz (fr,co,ba) l with
  |none=>none
  |some (s,t)=>CD dz fz f s t
def JS (dz fz:Str) (cs:List UInt8):Option St3:=match XC dz cs with
 |none=>none
 |some (_,t)=>CD dz fz (t.length+1) ([],[],[]) t
theorem P8 {m:Bool} {l:List UInt8} {u:Unit} (h:mSW z m l=some (u,t)):t.length<=l.length:=by
 unfold mSW at h;cases hz:sk z.cps.toList l with
 |none=>rw[hz] at h;cases h
 |some y=>
  obtain⟨_,y⟩:=y;simp only[hz] at h;split at h
  ·have:=BN hz;have:=BN h;omega
  ·cases h
theorem KM {l:List UInt8} (h:C5 dz fz l=some (x,t)):t.length<=l.length:=by
 unfold C5 at h;cases hm:mIv dz fz (l.takeWhile lf) with
 |none=>rw[hm] at h;cases h
 |some y=>rw[hm] at h;cases h;rw[fu];omega
theorem XD {s s':St3} {l:List UInt8} (h:HJ dz fz s l=some (s',t)):t.length<=l.length:=by
 obtain⟨fr,co,ba⟩:=s;rw[HJ] at h;split at h
 ·rw[ND] at h;cases hs:mSW "fret" (decide (fr.length<15)) l with
  |none=>simp only[hs] at h;cases h
  |some y=>
   obtain⟨_,y⟩:=y;simp only[hs] at h;cases hm:C5 dz fz y with
   |none=>simp only[hm] at h;cases h
   |some q=>
    obtain⟨q,v⟩:=q;simp only[hm] at h;split at h
    ·cases h;have:=P8 hs;have:=KM hm;omega
    ·cases h
 ·split at h
  ·rw[FO] at h;cases hs:mSW "course" (decide (co.length+ba.length<14)) l with
   |none=>simp only[hs] at h;cases h
   |some y=>
    obtain⟨_,y⟩:=y;simp only[hs] at h;cases hm:C5 dz fz y with
    |none=>simp only[hm] at h;cases h
    |some q=>
     obtain⟨q,v⟩:=q;simp only[hm] at h;split at h
     ·cases h;have:=P8 hs;have:=KM hm;omega
     ·cases h
  ·split at h
   ·rw[JR] at h;cases hs:mSW "bass" (decide (co.length+ba.length<14)) l with
    |none=>simp only[hs] at h;cases h
    |some y=>
     obtain⟨_,y⟩:=y;simp only[hs] at h;cases hm:C5 dz fz y with
     |none=>simp only[hm] at h;cases h
     |some q=>
      obtain⟨q,v⟩:=q;simp only[hm] at h;cases h;have:=P8 hs;have:=KM hm;omega
   ·cases h
theorem T2 {s s':St3} {l:List UInt8} (h:CV dz fz s l=some (s',t)):t.length<l.length:=by
 unfold CV at h;cases hp:HJ dz fz s l with
 |none=>rw[hp] at h;cases h
 |some y=>
  obtain⟨s1,y⟩:=y;simp only[hp] at h;cases hs:sk ("\n":Str).cps.toList y with
  |none=>rw[hs] at h;cases h
  |some q=>
   obtain⟨_,q⟩:=q;rw[hs] at h;cases h;have h1:=XD hp;have h2:t.length+1=y.length:=BN hs;omega
def i5 (K:aa) (CI CT:Addr) (H:Hp) (Q:VK) (E:XK):Option St3->Prop
 |some (fr,co,ba)=>∀H' ia af ac ab,Same H H'->InA K CI H' ia af ac ab fr co ba->Q (.ref ia) H'
 |none=>∀z:Int,E (.ref CT) none (xH [("place",.int z)])
def fM (K:aa) (CI CT:Addr) (dz fz:Str):Sp:=λvs H Q E=>Ex2 λ(ta:Addr) (cs:List UInt8)=>vs=[.ref ta]/\SqL K H ta (cs.map cV)/\i5 K CI CT H Q E (JS dz fz cs)
section
variable {P:aw} {w:bv} {K:aa} {mg:Str->Option ag} {base:Heap} {C CI CT:Addr} {dz fz:Str}
theorem oI:FnScope ["reader","instrument"] ["reader","instrument"] (AH B6):={}
theorem oJ (F:Fun K "read_line" "read_line" B6 f fd) (N:InE P w K mg base C CI CT dz fz) (D1:Def P w K mg base 10 "read_fret" ["reader","instrument"] (LJ K C CI CT (ND dz fz)))
 (D2:Def P w K mg base 10 "read_course" ["reader","instrument"] (LJ K C CI CT (FO dz fz))) (D3:Def P w K mg base 10 "read_bass" ["reader","instrument"] (LJ K C CI CT (JR dz fz))):
 FnOk P w K mg base (CX1 P w) 11 f fd ["reader","instrument"] (LJ K C CI CT (CV dz fz)):=by
 refine F.okx oI λcdv A outer s H vs Q E hr h=>?_;obtain⟨r,ta,cs,e,rest,ia,af,ac,ab,fr,co,ba,rfl,Rr,I,tt,k⟩:=h;have R:=N.R;refine⟨_,(AB (AW (GL (BK R hr AD (pv 0) AU (oks (by decide +kernel))) (EX (AO CP (AZ AN (by rfl) N.B.len cr (AA (AR (pv 1) rfl) AF)) AI (AQ _)))).pt
  (AC (AY (D1.call hr AD (AA (pv 0) (AA (pv 1) AF)))))
  (AC (AW (GL (BK R hr AD (pv 0) AU (oks (by decide +kernel))) (EX (AO CP (AZ AN (by rfl) N.B.len cr (AA (AR (pv 1) rfl) AF)) AI (AQ _)))).pt
   (AC (AY (D2.call hr AD (AA (pv 0) (AA (pv 1) AF)))))
   (AC (AW (GL (BK R hr AD (pv 0) AU (oks (by decide +kernel))) (EX (AO E3 (AZ AN (by rfl) N.B.len cr (AA (AR (pv 1) rfl) AF)) AI (AQ _)))).pt
    (AC (AY (D3.call hr AD (AA (pv 0) (AA (pv 1) AF)))))
    (AC (BF R.X1 hr AD rfl (B0 R (pv 0)))))))))
  (AC (BL R hr AD (pv 0) AU (oks (by decide +kernel))))),?_⟩
 and_intros
 unfold CV at k;have tail:∀(H1 H2:Hp) (fr' co' ba':List (List Int)) (t:List UInt8),Same H H1->SbL [r,af,ac,ab] H1 H2->Rd K C H2 r ta cs e t->InA K CI H2 ia af ac ab fr' co' ba'->HJ dz fz (fr,co,ba) rest=some ((fr',co',ba'),t)->
  (NB K C CT E (BO 0) "\n") { nx:=λ_ H'=>Q .non H',rt:=Q } [some (.ref r),some (.ref ia)] H2:=by
  intro H1 H2 fr' co' ba' t s1 s2 R2 I2 hp;rw[hp] at k;obtain⟨dr,p,ir⟩:=R2.ins;refine⟨_,rfl,r,ta,cs,e,t,rfl,R2,?_⟩;cases hs:sk ("\n":Str).cps.toList t with
  |none=>simp only[hs] at k;exact AK rfl k
  |some x=>
   obtain⟨_,u⟩:=x;simp only[hs] at k;exact AL rfl λH3 R3 s3=>k H3 R3 (I2.kp (Sb.kp s3 ir)) (((Same.l s1).trans s2).trans (Sb.l s3 (N3 r af ac ab).1))
 have nope:∀z:Int,HJ dz fz (fr,co,ba) rest=none->E (.ref CT) none (xH [("place",.int z)]):=λz hp=>by
  rw[hp] at k;exact k z
 obtain⟨dx,i1⟩:=I.at_;rw[HJ] at tail nope;have test:∀(H1:Hp) (z:Str),True:=λ_ _=>iz;refine⟨_,rfl,r,ta,cs,e,rest,rfl,Rr,λH1 s1=>?_⟩;have I1:=I.kp (Same.kp s1);have R1:=Rr.same s1;have i11:=s1 _ _ i1;have second:∀H1:Hp,Same H H1->¬(see "f" rest=true/\co.length=0)->(ST (cH (VO K C (BO 0) "c") (Q3 (tOp rEq (tCB (λxs H Q=>Ex2 λp ys=>xs=[V.ref p]/\(SqL K H p ys\/SqT K H p ys)/\Q (.int ys.length) H) (B5 (NY K (BO 1) "basses") EN)) (tC (.int 0)))))
  (KY (KZ (LJ K C CI CT (FO dz fz)) [] E (B5 (BO 0) (B5 (BO 1) EN))))
  (ST (cH (VO K C (BO 0) "b") (Q3 (tOp (rI0 λi j=>.bl (decide (j<i))) (tCB (λxs H Q=>Ex2 λp ys=>xs=[V.ref p]/\(SqL K H p ys\/SqT K H p ys)/\Q (.int ys.length) H) (B5 (NY K (BO 1) "courses") EN)) (tC (.int 0)))))
   (KY (KZ (LJ K C CI CT (JR dz fz)) [] E (B5 (BO 0) (B5 (BO 1) EN)))) (KI CT E (P6 K C (BO 0)))))
  { nx:=(NB K C CT E (BO 0) "\n") { nx:=λ_ H'=>Q .non H',rt:=Q },rt:=Q } [some (.ref r),some (.ref ia)] H1:=by
  intro H1 s1 hno;rw[if_neg hno] at tail nope;have I1:=I.kp (Same.kp s1);have R1:=Rr.same s1;refine⟨_,rfl,r,ta,cs,e,rest,rfl,R1,λH2 s2=>?_⟩;have s12:=s1.trans s2;have I2:=I.kp (Same.kp s12);have R2:=Rr.same s12;have i2:=s12 _ _ i1;have third:∀H2:Hp,Same H H2->¬(see "c" rest=true/\ba.length=0)->(ST (cH (VO K C (BO 0) "b") (Q3 (tOp (rI0 λi j=>.bl (decide (j<i))) (tCB (λxs H Q=>Ex2 λp ys=>xs=[V.ref p]/\(SqL K H p ys\/SqT K H p ys)/\Q (.int ys.length) H) (B5 (NY K (BO 1) "courses") EN)) (tC (.int 0)))))
   (KY (KZ (LJ K C CI CT (JR dz fz)) [] E (B5 (BO 0) (B5 (BO 1) EN)))) (KI CT E (P6 K C (BO 0))))
   { nx:=(NB K C CT E (BO 0) "\n") { nx:=λ_ H'=>Q .non H',rt:=Q },rt:=Q } [some (.ref r),some (.ref ia)] H2:=by
   intro H2 s2 hno2;rw[if_neg hno2] at tail nope;have R2:=Rr.same s2;refine⟨_,rfl,r,ta,cs,e,rest,rfl,R2,λH3 s3=>?_⟩;have s23:=s2.trans s3;have I3:=I.kp (Same.kp s23);have R3:=Rr.same s23;have i3:=s23 _ _ i1;have last:¬(see "b" rest=true/\0<co.length)->(KI CT E (P6 K C (BO 0))) { nx:=(NB K C CT E (BO 0) "\n") { nx:=λ_ H'=>Q .non H',rt:=Q },rt:=Q } [some (.ref r),some (.ref ia)] H3:=λhno3=>by
    rw[if_neg hno3] at nope;exact⟨V.ref r,rfl,r,ta,cs,e,rest,rfl,R3,λz=>⟨z,rfl,nope z rfl⟩⟩
   cases hb:see "b" rest with
   |false=>exact BJ (BJ (last (by rw[hb];rintro ⟨q,_⟩;cases q)))
   |true=>
    obtain⟨y1,q1,l1⟩:=I3.co_.len;refine BS ⟨V.ref ia,rfl,ia,CI,dx,_,_,rfl,i3,N.T.cl,N.T.nc,IN _ _ _,ac,y1,rfl,.inl q1,_,_,rfl,rfl,_,rfl,B7 (λh0=>?_) (λh0=>?_)⟩
    ·have hc:0<co.length:=by
      have:(0:Int)<(y1.length:Int):=by simpa using h0
      omega
     rw[if_pos ⟨hb,hc⟩] at tail nope;refine⟨V.ref r,rfl,V.ref ia,rfl,r,ta,cs,e,rest,ia,af,ac,ab,fr,co,ba,rfl,R3,I3,tt,?_⟩;cases hm:JR dz fz (fr,co,ba) rest with
     |none=>exact HW rfl λz=>nope z hm
     |some x=>
      obtain⟨⟨fr',co',ba'⟩,t⟩:=x;exact HX rfl λH4 R4 I4 s4=>tail H3 H4 fr' co' ba' t s23 s4 R4 I4 hm
    ·have hc:¬0<co.length:=by
      have:¬(0:Int)<(y1.length:Int):=by simpa using h0
      omega
     exact last λq=>hc q.2
  cases hc:see "c" rest with
  |false=>exact BJ (BJ (third H2 s12 (by rw[hc];rintro ⟨q,_⟩;cases q)))
  |true=>
   obtain⟨y1,q1,l1⟩:=I2.ba_.len;refine BS ⟨V.ref ia,rfl,ia,CI,dx,_,_,rfl,i2,N.T.cl,N.T.nb,VV _ _ _,ab,y1,rfl,.inl q1,rfl,_,rfl,B7 (λh0=>?_) (λh0=>?_)⟩
   ·have hb0:ba.length=0:=by
     have q:=of_decide_eq_true h0;injection q with q;omega
    rw[if_pos ⟨hc,hb0⟩] at tail nope;refine⟨V.ref r,rfl,V.ref ia,rfl,r,ta,cs,e,rest,ia,af,ac,ab,fr,co,ba,rfl,R2,I2,tt,?_⟩;cases hm:FO dz fz (fr,co,ba) rest with
    |none=>exact HW rfl λz=>nope z hm
    |some x=>
     obtain⟨⟨fr',co',ba'⟩,t⟩:=x;exact HX rfl λH4 R4 I4 s4=>tail H2 H4 fr' co' ba' t s12 s4 R4 I4 hm
   ·have hb0:¬ba.length=0:=λq=>h0 (decide_eq_true (by rw[l1,q];rfl));exact third H2 s12 λq=>hb0 q.2
 cases hf:see "f" rest with
 |false=>exact BJ (BJ (second H1 s1 (by rw[hf];rintro ⟨q,_⟩;cases q)))
 |true=>
  obtain⟨y1,q1,l1⟩:=I1.co_.len;refine BS ⟨V.ref ia,rfl,ia,CI,dx,_,_,rfl,i11,N.T.cl,N.T.nc,IN _ _ _,ac,y1,rfl,.inl q1,rfl,_,rfl,B7 (λh0=>?_) (λh0=>?_)⟩
  ·have hc0:co.length=0:=by
    have q:=of_decide_eq_true h0;injection q with q;omega
   rw[if_pos ⟨hf,hc0⟩] at tail nope;refine⟨V.ref r,rfl,V.ref ia,rfl,r,ta,cs,e,rest,ia,af,ac,ab,fr,co,ba,rfl,R1,I1,tt,?_⟩;cases hm:ND dz fz (fr,co,ba) rest with
   |none=>exact HW rfl λz=>nope z hm
   |some x=>
    obtain⟨⟨fr',co',ba'⟩,t⟩:=x;exact HX rfl λH4 R4 I4 s4=>tail H1 H4 fr' co' ba' t s1 s4 R4 I4 hm
  ·have hc0:¬co.length=0:=λq=>h0 (decide_eq_true (by rw[l1,q];rfl));exact second H1 s1 λq=>hc0 q.2
theorem ZW:FnScope ["reader","start","length"] ["reader"] (AH BW):={}
theorem oK (F:Fun K "read_length" "read_length" BW f fd) (R:RdE P w K mg base C CT dz) (g1:GI mg "LENGTH_DIGITS" ((7:Nat):Int)) (g2:GI mg "LEAST_LENGTH" 10000) (g3:GI mg "GREATEST_LENGTH" 200000):
 FnOk P w K mg base (CX1 P w) 5 f fd ["reader"] (GY K C CT (XC dz) XB):=by
 refine F.okx ZW λcdv A outer s H vs Q E hr h=>?_;obtain⟨r,ta,cs,e,rest,rfl,Rr,k⟩:=h;refine⟨_,(AB (BL R hr AD (pv 0) AU (oks (by decide +kernel)))
  (AB (AX 1 ZW (B0 R (pv 0)))
  (AB (AW (BK R hr AD (pv 0) AU (oks (by decide +kernel))) (AC (BF R.X1 hr AD rfl (pv 1))) AM)
  (AB (AX 2 ZW (VS (most:=7) R hr AD (pv 0) (BZ g1)))
  (AB (AW (OA (AO IH (pv 2) (BZ g2) (AQ _)) (JZ (AO E3 (pv 2) (BZ g3) (AQ _)))).pt (AC (BF R.X1 hr AD rfl (pv 1))) AM)
  (AC (BL R hr AD (pv 0) AU (oks (by decide +kernel))))))))),?_⟩
 and_intros
 unfold XC at k;refine⟨_,rfl,r,ta,cs,e,rest,rfl,Rr,?_⟩;cases hs:sk ("length ":Str).cps.toList rest with
 |none=>rw[hs] at k;exact AK rfl k
 |some x=>
  obtain⟨_,t⟩:=x;simp only[hs] at k;refine AL rfl λH1 R1 s1=>?_;refine⟨_,rfl,r,ta,cs,e,t,rfl,R1,λst=>?_⟩;refine⟨_,rfl,r,ta,cs,e,t,rfl,R1,λH2 s2=>?_⟩;have R2:=R1.same s2;cases h0:see "0" t with
  |true=>
   rw[if_pos h0] at k;exact BS ⟨V.int st,rfl,st,rfl,k st⟩
  |false=>
   rw[if_neg (by rw[h0];decide)] at k;refine BJ ⟨_,rfl,r,ta,cs,e,t,rfl,R2,?_⟩;cases hw:wn dz 7 t with
   |none=>simp only[hw] at k;exact AK rfl k
   |some x=>
    obtain⟨n,u⟩:=x;simp only[hw] at k;refine AL rfl λH3 R3 s3=>?_;have fail:(n<10000\/200000<n)->∀z:Int,E (.ref CT) none (xH [("place",.int z)]):=λq=>by rw[if_pos q] at k;exact k
    refine⟨V.int (n:Nat),rfl,_,_,rfl,rfl,_,rfl,B7 (λh1=>?_) (λh1=>?_)⟩
    ·have q1:n<10000:=by
      have:(n:Int)<10000:=by simpa using h1
      omega
     exact BS ⟨V.int st,rfl,st,rfl,fail (.inl q1) st⟩
    ·have q1:¬n<10000:=by
      have:¬(n:Int)<10000:=by simpa using h1
      omega
     refine⟨V.int (n:Nat),rfl,_,_,rfl,rfl,_,rfl,B7 (λh2=>?_) (λh2=>?_)⟩
     ·have q2:200000<n:=by
       have:(200000:Int)<n:=by simpa using h2
       omega
      exact⟨V.int st,rfl,st,rfl,fail (.inr q2) st⟩
     ·have q2:¬200000<n:=by
       have:¬(200000:Int)<n:=by simpa using h2
       omega
      rw[if_neg (by rintro (q|q);exact q1 q;exact q2 q)] at k;refine⟨_,rfl,r,ta,cs,e,u,rfl,R3,?_⟩;cases hs2:sk ("\n":Str).cps.toList u with
      |none=>rw[hs2] at k;exact AK rfl k
      |some x=>
       obtain⟨⟨⟩,v⟩:=x;rw[hs2] at k;exact AL rfl λH4 R4 s4=>k H4 R4 (((s1.trans s2.sb).trans s3).trans s4)
end
open PySem PySem.Spec PyProof.Rows L2
theorem OT {K:aa} {res:Option St3} (k:i5 K CI CT H Q E res) (h:res=none):∀z:Int,E (.ref CT) none (xH [("place",.int z)]):=by
 rw[h] at k;exact k
theorem XE {K:aa} {res:Option St3} (k:i5 K CI CT H Q E res) (h:res=some (fr,co,ba)):∀H' ia af ac ab,Same H H'->InA K CI H' ia af ac ab fr co ba->Q (.ref ia) H':=by
 rw[h] at k;exact k
theorem HK {K:aa} (h:SqL K H ta (cs.map cV)) (n:H a=none):ta≠a\/KTx K ta (cs.map cV):=by
 rcases h with(h|⟨o,h⟩)|h
 ·exact .inl (AG h n)
 ·exact .inl (AG h n)
 ·exact .inr h
def oM (K:aa) (CI:Addr):Sp:=λvs H Q _=>Ex9 λ(ia af ac ab:Addr) (fr co ba:List (List Int)) (c f:Int)=>vs=[.ref ia,.int c,.int f]/\InA K CI H ia af ac ab fr co ba/\
 Q (.bl (if c<=co.length then decide (f<=fr.length) else decide (c<=((co.length+ba.length:Nat):Int))&&decide (f=0))) H
theorem i6 {c:Bool} {A B:Prop} (hc:c=true) (h:A):if c=true then A else B:=by rw[if_pos hc];exact h
theorem XF {c:Bool} {A B:Prop} (hc:c=false) (h:B):if c=true then A else B:=by rw[if_neg (by rw[hc];decide)];exact h
theorem JT (dz fz:Str) (f:Nat) (fr co ba:List (List Int)) (l:List UInt8):CD dz fz (f+1) (fr,co,ba) l=if l.isEmpty=true/\¬co.length=0 then some (fr,co,ba) else match CV dz fz (fr,co,ba) l with
 |none=>none
 |some (s,t)=>CD dz fz f s t:=by rw[CD];all_goals rfl
def WIn (K:aa) (C CI:Addr) (dz fz:Str) (ta r ia af ac ab:Addr) (cs t:List UInt8) (H3:Hp) (m:Nat) (σ:L2.St) (H':Hp):Prop:=
 Ex5 λ(rest:List UInt8) (fr co ba:List (List Int)) (g:Nat)=>σ=[some (.ref ta),some (.ref r),some (.ref ia)]/\SbL [r,af,ac,ab] H3 H'/\Rd K C H' r ta cs cs.length rest/\InA K CI H' ia af ac ab fr co ba/\
  CD dz fz (t.length+1) ([],[],[]) t=CD dz fz g (fr,co,ba) rest/\rest.length<g/\m=rest.length
section
variable {P:aw} {w:bv} {K:aa} {mg:Str->Option ag} {base:Heap} {C CI CT:Addr} {dz fz:Str}
theorem T3:FnScope ["text","reader","instrument"] ["text"] (AH DY):={}
theorem i7 (F:Fun K "read_instrument" "read_instrument" DY f fd) (N:InE P w K mg base C CI CT dz fz) (MI:Mkr P w K mg base 1 CI "Instrument" ["self"] (ZV CI))
 (D1:Def P w K mg base 5 "read_length_instruments" ["reader"] (GY K C CT (XC dz) XB)) (D2:Def P w K mg base 11 "read_line_instruments" ["reader","instrument"] (LJ K C CI CT (CV dz fz))):
 FnOk P w K mg base (CX1 P w) 12 f fd ["text"] (fM K CI CT dz fz):=by
 refine F.okx T3 λcdv A outer s H vs Q E hr h=>?_;obtain⟨ta,cs,rfl,tx,k⟩:=h;have R:=N.R;refine⟨_,(AB (AX 1 T3 (R.mkr.call hr AD (AA (pv 0) (AA AI (AA (AZ AN (by rfl) N.B.len cr (AA (pv 0) AF)) AF)))))
  (AB (AY (KL D1 hr AD (pv 1)))
  (AB (AX 2 T3 (MI.call0 hr AD))
  (AB (B3 bn (OA (D7 (JQ R hr AD (pv 1))) (JZ (AO CP (AZ AN (by rfl) N.B.len cr (AA (AR (pv 2) rfl) AF)) AI (AQ _)))).pt
  (AC (AY (D2.call hr AD (AA (pv 1) (AA (pv 2) AF))))))
  (AC (AJ (pv 2))))))),?_⟩
 and_intros
 refine⟨V.ref ta,rfl,V.ref ta,rfl,ta,_,rfl,.inl tx,λr dr nr nd hne=>⟨r,dr,ta,0,_,rfl,upd_same,λH1 h1 s1=>⟨rfl,?_⟩⟩⟩;have sm1:Same H H1:=BT nr nd s1 Sb.refl;have fin:∀{H2:Hp},Sb r H1 H2->Same H H2:=λs2=>BT nr nd s1 s2;have R1:Rd K C H1 r ta cs cs.length cs:=by
  refine⟨⟨dr,0,?_,?_,df _⟩,sm1.seq tx,aq _⟩
  ·rw[h1,ah];rfl
  ·rw[fk];rfl
 unfold JS at k;refine⟨V.ref r,rfl,r,ta,cs,cs.length,cs,rfl,R1,?_⟩;cases hl:XC dz cs with
 |none=>exact AK rfl (OT k (by rw[hl]))
 |some x=>
  obtain⟨_,t⟩:=x;simp only[hl] at k;refine AL rfl λH2 R2 s2=>?_;have sm2:=fin s2;intro ia di ni ndi hni;refine⟨ia,di,rfl,upd_same,λH3 af ac ab h3 ea ec eb nf nc nb n1 n2 n3 s3=>⟨rfl,?_⟩⟩;have sm23:Same H2 H3:=BT ni ndi s3 Sb.refl;have nn:∀{q:Addr},(upd (upd H2 di (.own ia)) ia (.ins CI di [])) q=none->H2 q=none:=λ{q} h=>by
   by_cases e1:q=ia
   ·rw[e1];exact ni
   ·by_cases e2:q=di
    ·rw[e2];exact ndi
    ·rw[AE e1,AE e2] at h;exact h
  have I3:InA K CI H3 ia af ac ab [] [] []:=⟨⟨di,h3⟩,⟨[],ea,.nil⟩,⟨[],ec,.nil⟩,⟨[],eb,.nil⟩,n1,n2,n3,by simp,by simp,by simp,by simp,by simp⟩
  have R3:=R2.same sm23;have tt:(ta≠af/\ta≠ac/\ta≠ab)\/KTx K ta (cs.map cV):=by
   rcases HK R2.tx (nn nf) with q1|q
   ·rcases HK R2.tx (nn nc) with q2|q
    ·rcases HK R2.tx (nn nb) with q3|q
     ·exact .inl ⟨q1,q2,q3⟩
     ·exact .inr q
    ·exact .inr q
   ·exact .inr q
  have hold:∀{H4:Hp},SbL [r,af,ac,ab] H3 H4->Same H H4:=λ{H4} s4 b o e=>by
   have m0:b≠r:=AG e nr;have e2:=sm2 b o e;have m1:b≠af:=AG e2 (nn nf);have m2:b≠ac:=AG e2 (nn nc);have m3:b≠ab:=AG e2 (nn nb);exact s4 b o (sm23 b o e2) (by simp[m0,m1,m2,m3])
  refine⟨WIn K C CI dz fz ta r ia af ac ab cs t H3,⟨t.length,t,[],[],[],t.length+1,rfl,SbL.refl,R3,I3,rfl,by omega,rfl⟩,?_⟩;rintro m σ H4 ⟨rest,fr,co,ba,g,rfl,s4,R4,I4,em,hg,rfl⟩;rw[em] at k;obtain⟨g,rfl⟩:∃g',g=g'+1:=⟨g - 1,by omega⟩
  rw[JT] at k;replace em:=em.trans (JT dz fz g fr co ba rest);obtain⟨dx,i4⟩:=I4.at_;have step:¬(rest.isEmpty=true/\¬co.length=0)->(KY (KZ (LJ K C CI CT (CV dz fz)) [] E (B5 (BO 1) (B5 (BO 2) EN)))) { nx:=λσ' H'=>∃m',m'<rest.length/\WIn K C CI dz fz ta r ia af ac ab cs t H3 m' σ' H',rt:=Q } [some (.ref ta),some (.ref r),some (.ref ia)] H4:=by
   intro hno;rw[if_neg hno] at k em;refine⟨V.ref r,rfl,V.ref ia,rfl,r,ta,cs,cs.length,rest,ia,af,ac,ab,fr,co,ba,rfl,R4,I4,tt,?_⟩;cases hm:CV dz fz (fr,co,ba) rest with
   |none=>exact HW rfl (OT k (by rw[hm]))
   |some x=>
    obtain⟨⟨fr',co',ba'⟩,u⟩:=x;have hlt:=T2 hm;simp only[hm] at em;refine HX rfl λH5 R5 I5 s5=>⟨u.length,hlt,u,fr',co',ba',g,rfl,s4.trans s5,R5,I5,em,by omega,rfl⟩
  have stop:(rest.isEmpty=true/\¬co.length=0)->Q (.ref ia) H4:=λhy=>XE k (by rw[if_pos hy]) H4 ia af ac ab (hold s4) I4;refine⟨V.ref r,rfl,r,ta,cs,cs.length,rest,rfl,R4,?_⟩;rcases uy rest.isEmpty with hr0|hr0
  case inr=>
   refine i6 (c:=!rest.isEmpty) (by rw[hr0];rfl) ?_;exact DZ (step (by rw[hr0];rintro ⟨q,_⟩;cases q))
  case inl=>
   obtain⟨y1,q1,l1⟩:=I4.co_.len;refine XF (c:=!rest.isEmpty) (by rw[hr0];rfl) ⟨V.ref ia,rfl,ia,CI,dx,_,_,rfl,i4,N.T.cl,N.T.nc,IN _ _ _,ac,y1,rfl,.inl q1,rfl,_,rfl,?_⟩;by_cases hc:co.length=0
   ·have hd:decide (V.int ((y1.length:Nat):Int)=V.int 0)=true:=decide_eq_true (by rw[l1,hc];rfl);rw[hd];exact DZ (step λq=>q.2 hc)
   ·have hd:decide (V.int ((y1.length:Nat):Int)=V.int 0)=false:=decide_eq_false λq=>hc (by injection q with q;omega);rw[hd];exact BJ ⟨V.ref ia,rfl,stop ⟨hr0,hc⟩⟩
theorem oN:FnScope ["self","course","fret"] ["self","course","fret"] (AH CC):={}
theorem oO (F:Fun K "has_place" "Instrument.has_place" CC f fd) (B:Blt mg) (T:InC K CI) (M1:Mth P w K mg base 1 CI "string_count" ["self"] (iW K CI)):FnOk P w K mg base (CX1 P w) 2 f fd ["self","course","fret"] (oM K CI):=by
 refine F.okx oN λcdv A outer s H vs Q E hr h=>?_;obtain⟨ia,af,ac,ab,fr,co,ba,c,f,rfl,I,k⟩:=h;obtain⟨dx,h1⟩:=I.at_;obtain⟨y1,q1,l1⟩:=I.co_.len;obtain⟨y2,q2,l2⟩:=I.fr_.len;refine⟨_,(AB (AW (AO ME (pv 1) (AZ AN (by rfl) B.len cr (AA (AR (pv 0) rfl) AF)) (AQ _))
  (AC (AJ (DS ME (pv 2) (AZ AN (by rfl) B.len cr (AA (AR (pv 0) rfl) AF)) (AQ _)))) AM)
  (AC (AJ (YE (DS ME (pv 1) (M1.call0 (pv 0) hr AD) (AQ _)) (YD (DS CP (pv 2) AI (AQ _))))))),?_⟩
 and_intros
 refine⟨V.int c,rfl,V.ref ia,rfl,ia,CI,dx,_,_,rfl,h1,T.cl,T.nc,IN _ _ _,ac,y1,rfl,.inl q1,_,_,rfl,rfl,_,rfl,B7 (λh0=>?_) (λh0=>?_)⟩
 ·have hc:c<=(co.length:Int):=by
   have:c<=(y1.length:Int):=by simpa using h0
   omega
  rw[if_pos hc] at k;refine⟨V.int f,rfl,V.ref ia,rfl,ia,CI,dx,_,_,rfl,h1,T.cl,T.nf,NF _ _ _,af,y2,rfl,.inl q2,_,_,rfl,rfl,?_⟩;rw[←l2] at k;exact k
 ·have hc:¬c<=(co.length:Int):=by
   have:¬c<=(y1.length:Int):=by simpa using h0
   omega
  rw[if_neg hc] at k;refine⟨V.int c,rfl,V.ref ia,rfl,ia,dx,_,rfl,h1,T1 _ _ _,ia,af,ac,ab,fr,co,ba,rfl,I,_,_,rfl,rfl,?_⟩;cases hd:decide (c<=((co.length+ba.length:Nat):Int)) with
  |false=>
   rw[hd] at k;exact⟨false,(by rw[←hd]),BJ k⟩
  |true=>
   rw[hd] at k;refine⟨true,(by rw[←hd]),BS ⟨V.int f,rfl,rfl,?_⟩⟩;have e0:decide (V.int f=V.int 0)=decide (f=0):=by
    rw[decide_eq_decide];exact⟨λq=>by injection q,λq=>by rw[q]⟩
   rw[e0];exact k
end
end Lt
end
section
namespace L2
open PySem PySem.Spec PyProof.Rows
section
variable {prog:aw} {w:bv} {A:cy} {E:ag->ai->Prop} {s:ai}
theorem T4:u5 (.type "list_reverseiterator") "__len__"=pure none:=by rw[xL,vx];kernel_rfl
theorem ZX:u5 (.type "list_reverseiterator") "__length_hint__"=pure (some (.builtin "list_reverseiterator.__length_hint__")):=by rw[xL,vx];kernel_rfl
theorem dL {R:w8->ai->Prop} (hh:A.handled=none) (S it l:Addr) (items:Array ag) (res:ag) (c₀:Nat) (hn:items.size<=sizeLine) (hne:l≠it) (hSi:S≠it) (hSl:S≠l) (hit:s.heap.IsRevIter it l ((items.size:Int) - 1)) (hl:s.heap.IsList l items)
 (hS:s.heap.get? S=some { cls:=.type "list",data:=.seq #[] c₀ })
 (hR:∀h' tk acc' c',(∀b o,b≠S->b≠it->s.heap.get? b=some o->h'.get? b=some o)->h'.get? S=some { cls:=.type "list",dict:=none,data:=.seq acc' c',slots:=#[] }->
  xW (λi v=>items[items.size - 1 - i]? =some v) acc' items.size->R (.ok (.ret res)) { s with heap:=h',toks:=tk }):
 be (bi prog w) A.in1 (jy (.ref S) (.ref it) res)
  (λfin s'=>match fin with| .done f=>R (.ok f) s'| .again c'=>c'.quiet=true/\ml (bi prog w) A c' R s') (λe s'=>R (.error e) s') s:=by
 have hSf:S∉[it,l]:=by simp[hSi,hSl]
 unfold jy;refine ae (wpAny_typeOf (T:="list_reverseiterator") hit.typeIs ?_);have h1:uz (.ref S) (.ref it)=false:=by simp[uz,hSi]
 have h2:(iy "list_reverseiterator"==iy "list")=false:=by decide
 have h3:(iy "list_reverseiterator"==iy "tuple")=false:=by decide
 simp only[h1,h2,h3,yW,fm,if_false];refine ae (wpAny_pyIter_revIter hit ?_);refine ae (ie ?_);unfold xX;refine ae (vj hit.typeIs T4 ?_);show be _ A.in1 (specialOf (bz it) (li "__length_hint__") >>= _) _ _ _;refine ae (vj hit.typeIs ZX ?_)
 wp_delta
 refine ae (xl (T:="list_reverseiterator") (v:=.ref it) (b:=true) hit.typeIs (by rw[isSubtype_type];kernel_rfl) ?_);show be _ _ (pure false) _ _ _;refine am ?_;rw[if_neg (by decide)];have W:=(Walks.listRev (prog:=prog) (w:=w) (A:=A.in1) hh it l hne items).toS;refine am ⟨plainId_quiet F.plain_extend_loop _,codeAny_extend_loopS W hn _ hSf _ items.size 0 _ _ _ rfl (df _) ⟨df _,?_,hl⟩ hS (ItemsOf.nil _) λs' acc' c' hm hS' hacc=>?_⟩
 ·have e:(items.size:Int) - 1 - ((0:Nat):Int)=(items.size:Int) - 1:=by omega
  rw[e];exact hit
 ·rw[Moved.eq_with hm];refine hR s'.heap s'.toks acc' c' (λb ob hb hb2 e=>hm.heap b ob (λhmem=>?_) e) hS' hacc;simp[hb,hb2] at hmem
theorem ZY {R:w8->ai->Prop} (hh:A.handled=none) (S it l:Addr) (items:Array ag) (hn:items.size<=sizeLine) (hne:l≠it) (hSi:S≠it) (hSl:S≠l) (hit:s.heap.IsRevIter it l ((items.size:Int) - 1)) (hl:s.heap.IsList l items)
 (hS:s.heap.get? S=some { cls:=.type "list",data:=.seq #[] })
 (hR:∀h' tk acc' c',(∀b o,b≠S->b≠it->s.heap.get? b=some o->h'.get? b=some o)->h'.get? S=some { cls:=.type "list",dict:=none,data:=.seq acc' c',slots:=#[] }->
  xW (λi v=>items[items.size - 1 - i]? =some v) acc' items.size->R (.ok (.ret .none)) { s with heap:=h',toks:=tk }):
 be (bi prog w) A.in1 (um.«list.__init__» ⟨[.ref S,.ref it],[]⟩)
  (λfin s'=>match fin with| .done f=>R (.ok f) s'| .again c'=>c'.quiet=true/\ml (bi prog w) A c' R s') (λe s'=>R (.error e) s') s:=by
 show be _ _ (do let old←vd (.ref S);ze (.ref S) (λ_=>#[]);letGo old.toList.reverse;jy (.ref S) (.ref it) .none) _ _ s;refine ae ?_;unfold vd;refine ae (vK hS rfl (am ?_));show be _ _ (updateSeq S (λ_=>#[]) >>= λ_=>letGo (#[]:Array ag).toList.reverse >>= λ_=>jy (.ref S) (.ref it) .none) _ _ s;refine ae (wpAny_updateSeq hS rfl ?_);have hS₂:=ip (fb (λ_=>(#[]:Array ag))) hS rfl;have oth:∀b o,b≠S->s.heap.get? b=some o->(s.heap.update S (fb (λ_=>(#[]:Array ag)))).get? b=some o:=
  λb o hb e=>(jw _ _ (cq hb)).trans e
 refine ae (wpAny_letGo ?_);refine dL hh S it l items .none _ hn hne hSi hSl (hit.at λo e=>oth it o (cq hSi) e) (hl.at λo e=>oth l o (cq hSl) e) hS₂ λh' tk acc' c' hk hS' hacc=>?_;exact hR h' tk acc' c' (λb o hb hb2 e=>hk b o hb hb2 (oth b o hb e)) hS' hacc
theorem N4 {Q:ag->ai->Prop} (hh:A.handled=none) (it l:Addr) (items:Array ag) (hn:items.size<=sizeLine) (hne:l≠it) (hit:s.heap.IsRevIter it l ((items.size:Int) - 1)) (hl:s.heap.IsList l items)
 (hQ:∀h' tk acc' c',(∀b o,b≠it->s.heap.get? b=some o->h'.get? b=some o)->
  h'.get? s.heap.objs.size=some { cls:=.type "list",dict:=none,data:=.seq acc' c',slots:=#[] }->xW (λi v=>items[items.size - 1 - i]? =some v) acc' items.size->Q (.ref s.heap.objs.size) { s with heap:=h',toks:=tk }):
 be (bi prog w) A (call (.type "list") [.ref it]) Q E s:=by
 refine callType_codes (Q₁:=λobj s₁=>obj= .ref s.heap.objs.size/\s₁={ s with heap:=s.heap.push { cls:=.type "list",data:=.seq #[] } }) F.called_list (F.typeCall_list_1 _) F.entry_list_init
  (code_list_new _ ⟨rfl,rfl⟩) λobj s₁ h₁=>?_
 obtain⟨rfl,rfl⟩:=h₁;have hS:(s.heap.push { cls:=.type "list",data:=.seq #[] }).get? s.heap.objs.size=some { cls:=.type "list",data:=.seq #[] }:=bf _ rfl;obtain⟨o1,e1,_⟩:=id hit;obtain⟨o2,e2,_⟩:=id hl;refine⟨⟨_,hS,rfl⟩,F.args_list_init_2 _ _,ZY (A:=A.in1) hh s.heap.objs.size it l items hn hne (pd (bh e1)) (pd (bh e2)) (hit.at λo e=>ak _ e) (hl.at λo e=>ak _ e) hS λh' tk acc' c' hk hS' hacc=>?_⟩;exact⟨rfl,hQ h' tk acc' c' (λb o hb e=>hk b o (cg (bh e)) hb (ak _ e)) hS' hacc⟩
end
theorem NG {xs:List V} {acc:Array ag} {P:Nat->ag->Prop} (h:xW P acc xs.length) (hp:∀i v,P i v->∀x,xs[i]? =some x->RelV x v):Vals xs acc.toList:=by
 have:∀(xs:List V) (us:List ag),xs.length=us.length->(∀(i:Nat) x v,xs[i]? =some x->us[i]? =some v->RelV x v)->Vals xs us:=by
  intro xs;induction xs with
  |nil=>intro us hl _;cases us with
   |nil=>exact .nil
   |cons _ _=>simp at hl
  |cons x xs ih=>intro us hl hr;cases us with
   |nil=>simp at hl
   |cons u us=>exact .cons (hr 0 x u rfl rfl) (ih us (by simpa using hl) λi y v h1 h2=>hr (i+1) y v (by simpa using h1) (by simpa using h2))
 refine this xs acc.toList (by have:=h.1;simp[this]) λi x v h1 h2=>hp i v (h.2 i v (by simpa using h2)) x h1
section
variable {X:Cx}
def rgV (i c:Int) (n:Nat):List V:=(ji n).map λm=>V.int (i+(m:Nat)*c)
def tLR (ta:TA):TE:=λσ H Q=>ta σ H λvs H1=>Ex4 λ(i j c:Int) (n:Nat)=>(vs=[.int i,.int j,.int c]\/c=1/\vs=[.int i,.int j])/\RgC i j c n/\n<=2 ^ 24/\∀l,H1 l=none->Q (.ref l) (upd H1 l (.lst (rgV i c n)))
theorem ZZ {pins:List (Addr×Obj)} {σ:St} {H1:Hp} {s1:ai} {Q:VK} {i j c:Int} {n tk:Nat} {t u v:Tok} (hcalm:X.calm=true) (I1:Inv X pins σ H1 s1) (hc:RgC i j c n) (hn:n<=2 ^ 24) (q:∀l,H1 l=none->Q (.ref l) (upd H1 l (.lst (rgV i c n)))):
 be (bi X.prog X.w) X.A (call (.type "list") [.ref s1.heap.objs.size]) (EP X pins σ Q) X.xe { s1 with heap:=s1.heap.push { cls:=.type "range",data:=.fields #[.int i t,.int j u,.int c v] },toks:=tk }:=by
 refine call_list_range (n:=n) (I1.ok.hd hcalm) (zB ..) hc.2.2.1 hc.2.2.2 hn λh' tk' acc' c' kp hS hacc=>?_;have kp':∀b o,s1.heap.get? b=some o->h'.get? b=some o:=λb o e=>kp b o (ak _ e);refine⟨.ref _,upd H1 _ (.lst (rgV i c n)),I1.laid (t':=tk') kp' ?_ ⟨?_,acc'.toList,c',NG (P:=λi' v'=>∃t,v'= .int (i+i'*c) t) ?_ ?_,by simpa using hS⟩,rfl,q _ (I1.hok.fresh ?_)⟩
 ·show s1.heap.objs.size<=(s1.heap.push _).objs.size;simp[zf]
 ·have:sizeLine=16777216:=bw;rw[rgV,ah,ll,this];omega
 ·rw[rgV,ah,ll];exact hacc
 ·rintro i' v' ⟨t,rfl⟩ x hx;rw[rgV,az] at hx;by_cases hi:i'<n
  ·rw[tI hi] at hx;cases hx;exact⟨t,rfl⟩
  ·rw[sH (by simpa using hi)] at hx;cases hx
 ·show s1.heap.objs.size<=(s1.heap.push _).objs.size;simp[zf]
theorem JU {a b:Expr} {es:List Expr} {ta:TA} {p p2 pos pos2:Pos} (hcalm:X.calm=true) (hm:X.mg "list"=none) (hm2:X.mg "range"=none) (ha:PA X (a::b::es) ta) (hg:Gl X "list":=by rfl) (hg2:Gl X "range":=by rfl)
 (hs:bc [.Call (.Name "range" p2) (a::b::es) [] pos2] X.env=(false,eval (.Call (.Name "range" p2) (a::b::es) [] pos2) X.env)::bc [] X.env:=by rfl)
 (hs2:bc (a::b::es) X.env=(false,eval a X.env)::bc (b::es) X.env:=by rfl) (hpl:(gr pos2 (bc (b::es) X.env)).any (·.1)=false:=by rfl):
 PE X (.Call (.Name "list" p) [.Call (.Name "range" p2) (a::b::es) [] pos2] [] pos) (tLR ta):=by
 intro pins s σ H Q I h;refine gh (EL I hg hm Lt.RR ?_);refine cz ?_ hs rfl;rw[hs];show be _ _ (zg ((false,_)::gr pos (bc [] X.env))) _ _ s;refine tS ?_;refine zc (EL I hg2 hm2 x0 (cz (thn (ha pos2 pins s σ H _ I h) λus s1 ⟨vs,H1,I1,r1,q1⟩=>?_) hs2 hpl));obtain⟨i,j,c,n,e,hc,hn,q⟩:=q1;rcases e with e|⟨e1,e⟩
 ·subst e;cases r1 with
  |cons r rr=>
   cases rr with
   |cons r' rr=>
    cases rr with
    |cons r'' rr=>
     cases rr;obtain⟨t,rfl⟩:=r;obtain⟨t',rfl⟩:=r';obtain⟨t'',rfl⟩:=r'';refine call_range_3 hc.1 ?_ (.inl (uZ hc.2.1));exact rp (ZZ hcalm I1 hc hn q)
 ·subst e e1;cases r1 with
  |cons r rr=>
   cases rr with
   |cons r' rr=>
    cases rr;obtain⟨t,rfl⟩:=r;obtain⟨t',rfl⟩:=r';refine call_range_2 ?_;exact rp (ZZ hcalm I1 hc hn q)
def oP (K:aa) (ta:TA):TE:=λσ H Q=>ta σ H λvs H1=>Ex2 λ(a:Addr) (xs:List V)=>vs=[.ref a]/\SqL K H1 a xs/\∀l,H1 l=none->Q (.ref l) (upd H1 l (.lst xs.reverse))
theorem T5 {e:Expr} {ta:TA} {p p2 pos pos2:Pos} (hcalm:X.calm=true) (hm:X.mg "list"=none) (hm2:X.mg "reversed"=none) (ha:PA X [e] ta) (hg:Gl X "list":=by rfl) (hg2:Gl X "reversed":=by rfl)
 (hs:bc [.Call (.Name "reversed" p2) [e] [] pos2] X.env=(false,eval (.Call (.Name "reversed" p2) [e] [] pos2) X.env)::bc [] X.env:=by rfl)
 (hs2:bc [e] X.env=[(false,eval e X.env)]:=by rfl):
 PE X (.Call (.Name "list" p) [.Call (.Name "reversed" p2) [e] [] pos2] [] pos) (oP X.K ta):=by
 intro pins s σ H Q I h;refine gh (EL I hg hm Lt.RR ?_);refine cz ?_ hs rfl;rw[hs];show be _ _ (zg ((false,_)::gr pos (bc [] X.env))) _ _ s;refine tS ?_;refine zc (EL I hg2 hm2 MT (cz (thn (ha pos2 pins s σ H _ I h) λus s1 ⟨vs,H1,I1,r1,q1⟩=>?_) hs2 rfl));obtain⟨a,xs,e,hq,q⟩:=q1;subst e;cases r1 with
 |cons r rr=>
  cases rr;cases r;obtain⟨its,rv,p',hz⟩:=I1.list hq;have hl:=rv.length;refine call_reversed_list p'.isList ?_;refine rp ?_;obtain⟨ol,eol,cl,dl⟩:=id p'.isList;have hlt:=bh eol;refine N4 (I1.ok.hd hcalm) s1.heap.objs.size a its.toArray (by rw[bg, ←hl];exact hz) (cg hlt) ⟨_,bf _ rfl,rfl,rfl⟩ ⟨ol,ak _ eol,cl,dl⟩ λh' tk acc' c' kp hS hacc=>?_;have kp':∀b o,s1.heap.get? b=some o->h'.get? b=some o:=λb o e=>kp b o (cg (bh e)) (ak _ e);have hle:s1.heap.objs.size<=(s1.heap.push (revObj a ((its.toArray.size:Int) - 1))).objs.size:=by simp[zf]
  refine⟨.ref _,upd H1 _ (.lst xs.reverse),I1.laid (t':=tk) kp' hle ⟨by rw[tJ];exact hz,acc'.toList,c',NG (P:=λi v=>its.toArray[its.toArray.size - 1 - i]? =some v) ?_ ?_,by simpa using hS⟩,rfl,q _ (I1.hok.fresh hle)⟩
  ·rw[tJ,hl, ←bg];exact hacc
  ·intro i v hv x hx;have hi:i<xs.length:=by
    have:=(au.mp hx).1;simpa using this
   rw[List.getElem?_reverse hi] at hx;obtain⟨u,hu,ru⟩:=rv.get hx;rw[bg, ←hl] at hv;have:its[xs.length - 1 - i]? =some v:=by simpa using hv
   rw[this] at hu;cases hu;exact ru
end
end L2
end
section
namespace Lt
variable {f a C CR CT r ta CI CL CN:Addr} {fd:du} {X:Cx} {x:List Int} {i n e p q:Nat} {pos:Pos} {z dz fz:Str} {xs:List V} {E:XK} {H H' H1:Hp} {cs t ci ct:List UInt8} {α β:Type} {Q:VK} {ls fr co ba:List (List Int)} {P:aw} {w:bv} {h:Heap} {ps:List Str}
abbrev Iv:=Lute.Iv
theorem HY (x y:Iv):x.plus y=y.plus x:=by
 unfold Lute.Iv.plus;simp only;congr 2
 ·exact ve _ _
 ·exact ve _ _
 ·exact ve _ _
 ·exact ve _ _
 ·exact dc _ _
theorem EG {a:Int} {g:Nat} (hg:0<g) (h:(g:Int)∣a):(a / (g:Int)).toNat*g=a.toNat:=by
 obtain⟨q,rfl⟩:=h;rw[qk q (by omega)];by_cases hq:0<=q
 ·have e:(g:Int)*q=((q.toNat*g:Nat):Int):=by rw[tD,mn hq,Int.mul_comm]
  rw[e,jq]
 ·have h1:q.toNat=0:=by omega
  have h2:(g:Int)*q<=0:=Int.mul_nonpos_of_nonneg_of_nonpos (by omega) (by omega);rw[h1,zp];omega
theorem JA (x:Iv):((x.common:Nat):Int)∣x.a/\((x.common:Nat):Int)∣x.b/\((x.common:Nat):Int)∣x.c/\((x.common:Nat):Int)∣x.e:=by
 unfold Lute.Iv.common;have h0:=ss x.d (nk x.a.natAbs (nk x.b.natAbs (nk x.c.natAbs x.e.natAbs)));have h1:=oa h0 (sP _ _);have h0':=oa h0 (ss _ _);have h2:=oa h0' (sP _ _);have h0'':=oa h0' (ss _ _);have h3:=oa h0'' (sP _ _);have h4:=oa h0'' (ss _ _);exact⟨qz.mpr h1,qz.mpr h2,qz.mpr h3,qz.mpr h4⟩
theorem OU (x:Iv) (hg:0<x.common):x.low.above ^ x.common=x.above:=by
 obtain⟨h1,h2,h3,h4⟩:=JA x;unfold Lute.Iv.above Lute.Iv.low;simp only[ut, ←rg,EG hg h1,EG hg h2,EG hg h3,EG hg h4]
theorem HL (x:Iv):x.back.common=x.common:=by
 unfold Lute.Iv.common Lute.Iv.back;simp only[Int.natAbs_neg]
theorem Z0 (x:Iv):x.low.back=x.back.low:=by
 obtain⟨h1,h2,h3,h4⟩:=JA x;unfold Lute.Iv.low;simp only[HL];unfold Lute.Iv.back;simp only[qd h1,qd h2,qd h3,qd h4]
theorem RX (x:Iv) (hg:0<x.common):x.low.down=x.down:=by
 unfold Lute.Iv.down Lute.Iv.below;rw[Z0,decide_eq_decide, ←OU x hg, ←OU x.back (by rw[HL];exact hg),HL];exact(uR (by omega)).symm
theorem VY (z:Iv) (hz:0<z.d):0<z.common:=uS _ hz
theorem OV (x:Iv):0<x.above:=by
 unfold Lute.Iv.above;exact lu (lu (lu (jn (by decide)) (jn (by decide))) (jn (by decide))) (jn (by decide))
theorem XG (x:Iv):0<x.below:=OV _
theorem N5 (z:Int) (n:Nat):(z*n).toNat=z.toNat*n:=by
 by_cases h:0<=z
 ·obtain⟨k,rfl⟩:=Int.eq_ofNat_of_zero_le h;rw[←tD,jq,jq]
 ·have h1:z.toNat=0:=by omega
  have h2:z*(n:Int)<=0:=Int.mul_nonpos_of_nonpos_of_nonneg (by omega) (by omega);rw[h1,zp];omega
theorem HZ (p:Nat) (u v:Int):∃m:Nat,p ^ (u.toNat+(-v).toNat)=p ^ (u - v).toNat*p ^ m/\p ^ (v.toNat+(-u).toNat)=p ^ (v - u).toNat*p ^ m:=by
 refine⟨min (u.toNat+(-v).toNat) (v.toNat+(-u).toNat),?_,?_⟩
 ·rw[←lv];congr 1;omega
 ·rw[←lv];congr 1;omega
theorem KO (x:Iv) (n:Nat):x.above ^ n=2 ^ (x.a*n).toNat*3 ^ (x.b*n).toNat*5 ^ (x.c*n).toNat*7 ^ (x.e*n).toNat:=by
 unfold Lute.Iv.above;simp only[ut, ←rg,N5]
theorem OW (x:Iv) (n:Nat):x.below ^ n=2 ^ (-(x.a*n)).toNat*3 ^ (-(x.b*n)).toNat*5 ^ (-(x.c*n)).toNat*7 ^ (-(x.e*n)).toNat:=by
 unfold Lute.Iv.below;rw[KO];unfold Lute.Iv.back;simp only[vQ]
theorem dM (a b c d e f g h:Nat):(a*b*c*d)*(e*f*g*h)=(a*e)*(b*f)*(c*g)*(d*h):=by
 simp only[jz,jr,dc]
def raw (x y:Iv):Iv:=⟨x.a*y.d - y.a*x.d,x.b*y.d - y.b*x.d,x.c*y.d - y.c*x.d,x.e*y.d - y.e*x.d,x.d*y.d⟩
theorem Z1 (x y:Iv):x.less y=(raw x y).low:=by
 have n:∀u v p q:Int,u*q+ -v*p=u*q - v*p:=λu v p q=>by rw[vQ];omega
 unfold Lute.Iv.less Lute.Iv.plus raw Lute.Iv.back;simp only[n]
theorem fO (x y:Iv):∃M:Nat,0<M/\x.above ^ y.d*y.below ^ x.d=(raw x y).above*M/\y.above ^ x.d*x.below ^ y.d=(raw x y).below*M:=by
 obtain⟨m2,e2,f2⟩:=HZ 2 (x.a*y.d) (y.a*x.d);obtain⟨m3,e3,f3⟩:=HZ 3 (x.b*y.d) (y.b*x.d);obtain⟨m5,e5,f5⟩:=HZ 5 (x.c*y.d) (y.c*x.d);obtain⟨m7,e7,f7⟩:=HZ 7 (x.e*y.d) (y.e*x.d);refine⟨2 ^ m2*3 ^ m3*5 ^ m5*7 ^ m7,?_,?_,?_⟩
 ·exact lu (lu (lu (jn (by decide)) (jn (by decide))) (jn (by decide))) (jn (by decide))
 ·rw[KO,OW,dM, ←lv, ←lv, ←lv, ←lv,e2,e3,e5,e7, ←dM];rfl
 ·rw[KO,OW,dM, ←lv, ←lv, ←lv, ←lv,f2,f3,f5,f7, ←dM];unfold Lute.Iv.below raw Lute.Iv.back Lute.Iv.above;simp only[Int.neg_sub]
theorem KP {x y:Iv} (hx:0<x.d) (hy:0<y.d):x.lt y=true↔x.above ^ y.d*y.below ^ x.d<y.above ^ x.d*x.below ^ y.d:=by
 unfold Lute.Iv.lt;rw[Z1,RX _ (VY _ (lu hx hy))];obtain⟨M,hM,e1,e2⟩:=fO x y;rw[e1,e2];unfold Lute.Iv.down;rw[decide_eq_true_iff];exact(vR hM).symm
theorem lt_irrefl {x:Iv} (hx:0<x.d):x.lt x=false:=by
 cases h:x.lt x with
 |false=>rfl
 |true=>exact absurd ((KP hx hx).mp h) (iu _)
theorem lt_trans {x y z:Iv} (hx:0<x.d) (hy:0<y.d) (hz:0<z.d) (h1:x.lt y=true) (h2:y.lt z=true):x.lt z=true:=by
 have q1:=v9 ((KP hx hy).mp h1) (show z.d≠0 by omega);have q2:=v9 ((KP hy hz).mp h2) (show x.d≠0 by omega);rw[KP hx hz];have q:=Nat.mul_lt_mul_of_lt_of_le q1 (rj q2) (Nat.pos_of_ne_zero (by
  intro h;rw[h] at q2;exact absurd q2 (Nat.not_lt_zero _)))
 simp only[ut, ←rg] at q;have hp:0<y.above ^ (x.d*z.d)*y.below ^ (x.d*z.d):=lu (jn (OV _)) (jn (XG _));have e1:x.above ^ (y.d*z.d)*y.below ^ (x.d*z.d)*(y.above ^ (z.d*x.d)*z.below ^ (y.d*x.d))=(x.above ^ z.d*z.below ^ x.d) ^ y.d*(y.above ^ (x.d*z.d)*y.below ^ (x.d*z.d)):=by
  rw[ut, ←rg, ←rg,dc z.d x.d,dc z.d y.d,dc y.d x.d];simp only[jz,jr,dc]
 have e2:y.above ^ (x.d*z.d)*x.below ^ (y.d*z.d)*(z.above ^ (y.d*x.d)*y.below ^ (z.d*x.d))=(z.above ^ x.d*x.below ^ z.d) ^ y.d*(y.above ^ (x.d*z.d)*y.below ^ (x.d*z.d)):=by
  rw[ut, ←rg, ←rg,dc z.d x.d,dc z.d y.d,dc y.d x.d];simp only[jz,jr,dc]
 rw[e1,e2,vR hp] at q;exact(uR (by omega)).mp q
theorem NH {A B:Nat} (hp:1<p) (hc:rh (p ^ n) B) (e:p ^ n*A=B):n=0:=by
 have h2:p ^ n∣nk (p ^ n) B:=Nat.dvd_gcd (wM _) ⟨A,e.symm⟩;rw[hc] at h2;have h2:p ^ n=1:=Nat.dvd_one.mp h2;cases n with
 |zero=>rfl
 |succ n=>
  have:1<p ^ (n+1):=Nat.one_lt_pow (by omega) hp;omega
theorem FP {A B:Nat} (hp:1<p) {u:Int} (hA:∀n,rh (p ^ n) A) (hB:∀n,rh (p ^ n) B) (e:p ^ u.toNat*A=p ^ (-u).toNat*B):u=0:=by
 by_cases h:0<=u
 ·have h0:(-u).toNat=0:=by omega
  rw[h0,vf,zJ] at e;have:=NH hp (hB _) e;omega
 ·have h0:u.toNat=0:=by omega
  rw[h0,vf,zJ] at e;have:=NH hp (hA _) e.symm;omega
theorem RY {r s:Nat} (h1:rh p q) (h2:rh p r) (h3:rh p s) (i j k n:Nat):rh (p ^ n) (q ^ i*r ^ j*s ^ k):=
 vy (vy (vn _ _ h1) (vn _ _ h2)) (vn _ _ h3)
theorem XH {z:Iv} (e:z.above=z.below):z.a=0/\z.b=0/\z.c=0/\z.e=0:=by
 unfold Lute.Iv.below Lute.Iv.back Lute.Iv.above at e;simp only at e;refine⟨?_,?_,?_,?_⟩
 ·refine FP (p:=2) (by decide) (RY (p:=2) (q:=3) (r:=5) (s:=7) (by decide) (by decide) (by decide) z.b.toNat z.c.toNat z.e.toNat) (RY (p:=2) (q:=3) (r:=5) (s:=7) (by decide) (by decide) (by decide) (-z.b).toNat (-z.c).toNat (-z.e).toNat) ?_;simpa only[jz,jr,dc] using e
 ·refine FP (p:=3) (by decide) (RY (p:=3) (q:=2) (r:=5) (s:=7) (by decide) (by decide) (by decide) z.a.toNat z.c.toNat z.e.toNat) (RY (p:=3) (q:=2) (r:=5) (s:=7) (by decide) (by decide) (by decide) (-z.a).toNat (-z.c).toNat (-z.e).toNat) ?_;simpa only[jz,jr,dc] using e
 ·refine FP (p:=5) (by decide) (RY (p:=5) (q:=2) (r:=3) (s:=7) (by decide) (by decide) (by decide) z.a.toNat z.b.toNat z.e.toNat) (RY (p:=5) (q:=2) (r:=3) (s:=7) (by decide) (by decide) (by decide) (-z.a).toNat (-z.b).toNat (-z.e).toNat) ?_;simpa only[jz,jr,dc] using e
 ·refine FP (p:=7) (by decide) (RY (p:=7) (q:=2) (r:=3) (s:=5) (by decide) (by decide) (by decide) z.a.toNat z.b.toNat z.c.toNat) (RY (p:=7) (q:=2) (r:=3) (s:=5) (by decide) (by decide) (by decide) (-z.a).toNat (-z.b).toNat (-z.c).toNat) ?_;simpa only[jz,jr,dc] using e
def Lw (x:Iv):Prop:=0<x.d/\x.common=1
theorem Z2 {x y:Iv} (hx:x.common=1) (ea:x.a*y.d=y.a*x.d) (eb:x.b*y.d=y.b*x.d) (ec:x.c*y.d=y.c*x.d) (ee:x.e*y.d=y.e*x.d):y.d∣x.d*y.common:=by
 have n:∀{u v:Int} {m k:Nat},u*m=v*k->m*u.natAbs=k*v.natAbs:=λ{u v m k} h=>by
  have:=congrArg Int.natAbs h;rw[ub,ub,rb,rb] at this;rw[dc,this,dc]
 have e:y.d*x.common=x.d*y.common:=by
  unfold Lute.Iv.common;rw[←gc, ←gc, ←gc, ←gc, ←gc, ←gc, ←gc, ←gc,n ea,n eb,n ec,n ee,dc y.d x.d]
 rw[←e,hx,ur];exact wM _
theorem XI {x y:Iv} (hx:Lw x) (hy:Lw y) (h:(raw x y).a=0/\(raw x y).b=0/\(raw x y).c=0/\(raw x y).e=0):x=y:=by
 obtain⟨h1,h2,h3,h4⟩:=h;unfold raw at h1 h2 h3 h4;simp only at h1 h2 h3 h4;have d1:=Z2 (x:=x) (y:=y) hx.2 (by omega) (by omega) (by omega) (by omega);have d2:=Z2 (x:=y) (y:=x) hy.2 (by omega) (by omega) (by omega) (by omega);rw[hy.2,ur] at d1;rw[hx.2,ur] at d2;have ed:x.d=y.d:=Nat.dvd_antisymm d2 d1;have hd:(y.d:Int)≠0:=by have:=hy.1;omega
 rw[ed] at h1 h2 h3 h4;have c:∀{u v:Int},u*y.d - v*y.d=0->u=v:=λ{u v} h=>Int.eq_of_mul_eq_mul_right hd (by omega);obtain⟨a,b,c',e,d⟩:=x;obtain⟨a',b',c'',e',d'⟩:=y;simp only at ed h1 h2 h3 h4;rw[ed,c h1,c h2,c h3,c h4]
theorem RZ {x y:Iv} (hx:Lw x) (hy:Lw y) (h1:x.lt y=false) (h2:y.lt x=false):x=y:=by
 refine XI hx hy (XH ?_);obtain⟨M,hM,e1,e2⟩:=fO x y;have n1:¬_:=λq=>dw (h1.symm.trans ((KP hx.1 hy.1).mpr q));have n2:¬_:=λq=>dw (h2.symm.trans ((KP hy.1 hx.1).mpr q));rw[dc (x.above ^ y.d),dc (y.above ^ x.d)] at n1;have e:x.above ^ y.d*y.below ^ x.d=y.above ^ x.d*x.below ^ y.d:=by
  rw[dc (x.above ^ y.d),dc (y.above ^ x.d)];rw[dc (y.above ^ x.d),dc (x.above ^ y.d)] at n2;omega
 rw[e1,e2] at e;exact Nat.eq_of_mul_eq_mul_right hM e
theorem Z3 {x y:Iv} (hx:0<x.d) (hy:0<y.d) (h:x.lt y=true):y.lt x=false:=by
 cases q:y.lt x with
 |false=>rfl
 |true=>exact absurd (lt_trans hx hy hx h q) (by rw[lt_irrefl hx];decide)
theorem R7 {x:Iv} (h:x.ok=true):Lw x:=by
 unfold Lute.Iv.ok at h;simp at h;exact⟨h.2.2.2.2.1,h.2.2.2.2.2.2⟩
theorem i8 {x:Iv} (h:0<x.d):Lw x.low:=by
 have hg:=VY x h;have hd:x.common∣x.d:=sP _ _;refine⟨Nat.div_pos (Nat.le_of_dvd h hd) hg,?_⟩;have n:∀{a:Int},((x.common:Nat):Int)∣a->x.common*(a / ((x.common:Nat):Int)).natAbs=a.natAbs:=λ{a} ⟨q,e⟩=>by
  rw[e,qk q (by omega),ub,rb]
 obtain⟨h1,h2,h3,h4⟩:=JA x;have e:x.common*x.low.common=x.common:=by
  show x.common*Lute.Iv.common _=Lute.Iv.common x
  conv=>lhs;arg 2;unfold Lute.Iv.common
  unfold Lute.Iv.low;simp only;rw[←gc, ←gc, ←gc, ←gc,n h1,n h2,n h3,n h4,Nat.mul_div_cancel' hd];rfl
 exact Nat.eq_of_mul_eq_mul_left hg (by rw[e,ur])
theorem dO {x y:Iv} (hx:0<x.d) (hy:0<y.d):Lw (x.plus y):=i8 (lu hx hy)
theorem i9 {x:Iv} (h:x.common=1):x.low=x:=by
 unfold Lute.Iv.low;simp only[h];simp
theorem VZ {x:Iv} (h:Lw x):x.plus Lute.unison=x:=by
 unfold Lute.Iv.plus Lute.unison;simp only;have e:(⟨x.a*((1:Nat):Int)+0*(x.d:Int),x.b*((1:Nat):Int)+0*(x.d:Int),x.c*((1:Nat):Int)+0*(x.d:Int),x.e*((1:Nat):Int)+0*(x.d:Int),x.d*1⟩:Iv)=x:=by
  simp
 rw[e];exact i9 h.2
abbrev Stop:=LuteTab.Stop
abbrev Ln:=Nat×List Stop
abbrev Sk:=LuteSound.Struck
def CZ:Nat->Nat->List Ln->List Sk
 |_,_,[]=>[]
 |i,x,(n,l)::r=>l.map (λ(s:Stop)=>(⟨i,x,x+n,s⟩:Sk))++CZ (i+1) (x+n) r
def CF:LuteTab.Line->Ln
 | .bar=>(0,[])
 | .moment n l=>(n,l)
theorem FQ:∀(p:LuteTab.Piece) (i x:Nat),CZ i x (p.map CF)=LuteSound.struckFrom i x p
 |[],_,_=>rfl
 | .bar::r,i,x=>by rw[LuteSound.struckFrom, ←FQ r];rfl
 | .moment n l::r,i,x=>by rw[LuteSound.struckFrom, ←FQ r];rfl
def uL (ps:List Ln) (i:Nat):Nat:=((ps.take i).map (·.1)).sum
theorem E0 (ps:List Ln):uL ps 0=0:=by unfold uL;simp
theorem C0 (q:Ln) (ps:List Ln) (i:Nat):uL (q::ps) (i+1)=q.1+uL ps i:=by
 unfold uL;simp
theorem T6 (i:Nat):uL [] i=0:=by unfold uL;simp
theorem V0 {ps:List Ln} {q:Ln} (h:ps[i]? =some q):uL ps (i+1)=uL ps i+q.1:=by
 unfold uL;rw[dj,h];simp
theorem fP (ps:List Ln) {j:Nat} (h:i<=j):uL ps i<=uL ps j:=by
 obtain⟨k,rfl⟩:∃k,j=i+k:=⟨j - i,by omega⟩
 clear h;induction k with
 |zero=>exact aq _
 |succ k ih=>
  refine cu ih ?_;show uL ps (i+k)<=uL ps (i+k+1);unfold uL;rw[dj,dm,xM];omega
theorem NI:∀(p:LuteTab.Piece),LuteTab.units p=uL (p.map CF) (p.map CF).length
 |[]=>rfl
 | .bar::r=>by
   have:=NI r;unfold LuteTab.units at this ⊢;rw[de,yY,this,de,cw,C0];rfl
 | .moment n l::r=>by
   have:=NI r;unfold LuteTab.units at this ⊢;rw[de,yY,this,de,cw,C0];rfl
theorem mem_mStr:∀{ps:List Ln} {i x:Nat} {s:Sk},s∈CZ i x ps↔∃(j:Nat) (q:Ln),s.line=i+j/\ps[j]? =some q/\s.halt_∈q.2/\s.begins=x+uL ps j/\s.ends=x+uL ps (j+1)
 |[],i,x,s=>by simp[CZ]
 |(n,l)::r,i,x,s=>by
  rw[CZ,cj,jx,mem_mStr];constructor
  ·rintro (⟨h,hh,rfl⟩|⟨j,q,h1,h2,h3,h4,h5⟩)
   ·exact⟨0,(n,l),rfl,rfl,hh,by rw[E0];rfl,by rw[C0,E0];rfl⟩
   ·exact⟨j+1,q,by omega,by simpa using h2,h3,by rw[C0];show _=x+(n+_);omega,by rw[C0];show _=x+(n+_);omega⟩
  ·rintro ⟨j,q,h1,h2,h3,h4,h5⟩;cases j with
   |zero=>
    left;simp at h2;subst h2;rw[E0] at h4;rw[C0,E0] at h5;refine⟨s.halt_,h3,?_⟩;obtain⟨a,b,c,d⟩:=s;simp only at h1 h4 h5 ⊢;simp at h1 h4 h5;subst h1 h4 h5;rfl
   |succ j=>
    right;rw[C0] at h4 h5;have h4:s.begins=x+(n+uL r j):=h4;have h5:s.ends=x+(n+uL r (j+1)):=h5;exact⟨j,q,by omega,by simpa using h2,h3,by omega,by omega⟩
def Z4 (l:List Stop):Prop:=l.Pairwise λa b=>a.course<b.course
structure PcK (ps:List Ln):Prop where
 rise:∀q∈ps,Z4 q.2
 bar:∀q∈ps,q.1=0->q.2=[]
 one:∀q∈ps,∀s∈q.2,1<=s.course
theorem PcK.tail {q:Ln} {ps:List Ln} (h:PcK (q::ps)):PcK ps:=⟨λa ha=>h.rise a (ao _ ha),λa ha=>h.bar a (ao _ ha),λa ha=>h.one a (ao _ ha)⟩
theorem PcK.drop {ps:List Ln} (h:PcK ps) (n:Nat):PcK (ps.drop n):=⟨λa ha=>h.rise a (jc ha),λa ha=>h.bar a (jc ha),λa ha=>h.one a (jc ha)⟩
theorem Z5 {l:List Stop} (h:Z4 l) {a b:Stop} (ha:a∈l) (hb:b∈l) (e:a.course=b.course):a=b:=by
 induction l with
 |nil=>simp at ha
 |cons c l ih=>
  obtain⟨h1,h2⟩:=fx.mp h;rcases bp.mp ha with e1|ha
  ·rcases bp.mp hb with e2|hb
   ·rw[e1,e2]
   ·have:=h1 b hb;rw[e1] at e;omega
  ·rcases bp.mp hb with e2|hb
   ·have:=h1 a ha;rw[e2] at e;omega
   ·exact ih h2 ha hb
structure SkAt (ps:List Ln) (s:Sk):Prop where
 lt:s.line<ps.length
 q:∃q,ps[s.line]? =some q/\s.halt_∈q.2
 beg:s.begins=uL ps s.line
 end_:s.ends=uL ps (s.line+1)
theorem R8 {ps:List Ln} {s:Sk} (h:s∈CZ 0 0 ps):SkAt ps s:=by
 obtain⟨j,q,h1,h2,h3,h4,h5⟩:=mem_mStr.mp h;rw[pp] at h1 h4 h5;subst h1;exact⟨(au.mp h2).1,⟨q,h2,h3⟩,h4,h5⟩
theorem jA {ps:List Ln} (k:PcK ps) {s:Sk} (h:SkAt ps s):s.begins<s.ends:=by
 obtain⟨q,h1,h2⟩:=h.q;rw[h.beg,h.end_,V0 h1];have:q.1≠0:=λe=>by
  have:=k.bar q (bo h1) e;rw[this] at h2;simp at h2
 omega
theorem NJ {ps:List Ln} (k:PcK ps) {a b:Sk} (ha:SkAt ps a) (hb:SkAt ps b):a.begins<b.begins↔a.line<b.line:=by
 constructor
 ·intro h;apply uT;intro q;have:=fP ps q;rw[←ha.beg, ←hb.beg] at this;omega
 ·intro h;have h1:=jA k ha;have:=fP ps (show a.line+1<=b.line from h);rw[←ha.end_, ←hb.beg] at this;omega
theorem jB {ps:List Ln} (k:PcK ps) {a b:Sk} (ha:SkAt ps a) (hb:SkAt ps b) (e1:a.begins=b.begins) (e2:a.halt_.course=b.halt_.course):a=b:=by
 have h1:¬a.line<b.line:=λq=>by have:=(NJ k ha hb).mpr q;omega
 have h2:¬b.line<a.line:=λq=>by have:=(NJ k hb ha).mpr q;omega
 have el:a.line=b.line:=by omega
 obtain⟨q,q1,q2⟩:=ha.q;obtain⟨r,r1,r2⟩:=hb.q;rw[←el,q1] at r1;cases r1;have eh:=Z5 (k.rise q (bo q1)) q2 r2 e2;have ee:a.ends=b.ends:=by rw[ha.end_,hb.end_,el]
 obtain⟨_,_,_,_⟩:=a;obtain⟨_,_,_,_⟩:=b;simp only at el e1 ee eh;subst el e1 ee eh;rfl
open PySem PySem.Spec PyProof.Rows L2
def sL (s:Stop):List Int:=[(s.course:Int),(s.fret:Int)]
def CW (l:List Stop) (s:Stop):Bool:=match l.getLast? with
 |none=>true
 |some x=>decide (x.course<s.course)
def V1 (K:aa) (CT:Addr):Sp:=λvs H Q E=>Ex5 λ(sa pa:Addr) (l:List Stop) (s:Stop) (st:Int)=>vs=[.ref sa,.ref pa,.int st]/\LT K H sa (l.map sL)/\SqT K H pa ((sL s).map V.int)/\l.length<=1000000/\
 if CW l s=true then∀H',LT K H' sa ((l++[s]).map sL)->Sb sa H H'->Q .non H' else E (.ref CT) none (xH [("place",.int st)])
def T7 (K:aa) (CR CT r ta:Addr) (cs:List UInt8) (e:Nat) (H:Hp) (Q:VK) (E:XK):Option (List Stop×List UInt8)->Prop
 |some (l,rest')=>∀H' a,Rd K CR H' r ta cs e rest'->Sb r H H'->H a=none->LT K H' a (l.map sL)->Q (.ref a) H'
 |none=>∀z:Int,E (.ref CT) none (xH [("place",.int z)])
theorem KQ {K:aa} {res:Option (List Stop×List UInt8)} (h:res=none) (k:∀z:Int,E (.ref CT) none (xH [("place",.int z)])):T7 K CR CT r ta cs e H Q E res:=by
 rw[h];exact k
theorem KR {K:aa} {res:Option (List Stop×List UInt8)} {l:List Stop} (h:res=some (l,t)) (k:∀H' a,Rd K CR H' r ta cs e t->Sb r H H'->H a=none->LT K H' a (l.map sL)->Q (.ref a) H'):T7 K CR CT r ta cs e H Q E res:=by
 rw[h];exact k
theorem jC {K:aa} {res:Option (List Stop×List UInt8)} (k:T7 K CR CT r ta cs e H Q E res) (h:res=none):∀z:Int,E (.ref CT) none (xH [("place",.int z)]):=by
 rw[h] at k;exact k
theorem jD {K:aa} {res:Option (List Stop×List UInt8)} {l:List Stop} (k:T7 K CR CT r ta cs e H Q E res) (h:res=some (l,t)):∀H' a,Rd K CR H' r ta cs e t->Sb r H H'->H a=none->LT K H' a (l.map sL)->Q (.ref a) H':=by
 rw[h] at k;exact k
def B2 (z:Str):List Nat->List UInt8->Option (List Stop×List UInt8)
 |[],l=>some ([],l)
 |c::cs,l=>match pk (z++".") l with
  |none=>none
  |some (f,t)=>match B2 z cs t with
   |none=>none
   |some (s,u)=>some ((if f<z.length then⟨c,f⟩::s else s),u)
def pre (acc:List Stop):Option (List Stop×List UInt8)->Option (List Stop×List UInt8)
 |none=>none
 |some (s,u)=>some (acc++s,u)
def nV (n:Nat):V:=.int (n:Nat)
def T8 (K:aa) (C CT:Addr):Sp:=λvs H Q E=>Ex8 λ(r ta ca:Addr) (cs:List UInt8) (e:Nat) (rest:List UInt8) (z:Str) (ns:List Nat)=>vs=[.ref r,.str z,.ref ca]/\Rd K C H r ta cs e rest/\OkS (z++".")/\z.length<=1000/\
 H ca=some (.lst (ns.map nV))/\ns.length<=1000/\T7 K C CT r ta cs e H Q E (B2 z ns rest)
def mSl:Nat->List UInt8->Option (Nat×List UInt8)
 |0,l=>(match sk ("a":Str).cps.toList l with
  |none=>none
  |some (_,t)=>some (10,t))
 |f+1,l=>if see "/" l=true then(match sk ("/":Str).cps.toList l with
  |none=>none
  |some (_,t)=>mSl f t)
  else match sk ("a":Str).cps.toList l with
   |none=>none
   |some (_,t)=>some (9 - f,t)
def mFB (l:List UInt8):Option (Nat×List UInt8):=if see "4567" l=true then(match pk "4567" l with
 |none=>none
 |some (n,t)=>some (7+4+n,t)) else mSl 3 l
def mBN (l:List UInt8):Option (Nat×List UInt8):=if see "1" l=true then(match sk ("1":Str).cps.toList l with
 |none=>none
 |some (_,t)=>match pk "01234" t with
  |none=>none
  |some (n,u)=>some (10+n,u))
 else match pk "789" l with
  |none=>none
  |some (n,t)=>some (7+n,t)
theorem Rd.app {K:aa} {sa:Addr} {rest:List UInt8} (R:Rd K C H r ta cs e rest) (h:H sa=some (.lst xs)) (hn:ta≠sa\/KTx K ta (cs.map cV)) (s:Sb sa H H'):Rd K C H' r ta cs e rest:=
 R.kp (xs:=xs) (ys:=[]) h (hn.imp cq id) λb o eb hb=>s b o eb hb
theorem Sb.nt {sa:Addr} (s:Sb sa H H') (h:H sa=some (.lst xs)) {K:aa} {ys:List V} (q:SqT K H a ys):SqT K H' a ys:=by
 rcases q with(q|⟨o,q⟩)|q
 ·exact .inl (.inl (s _ _ q (B1 q h (by intro z;cases z))))
 ·exact .inl (.inr ⟨o,s _ _ q (B1 q h (by intro z;cases z))⟩)
 ·exact .inr q
section
variable {P:aw} {w:bv} {K:aa} {mg:Str->Option ag} {base:Heap} {C CI CT:Addr} {dz fz:Str}
theorem jE:FnScope ["stops","stop","start"] ["stops","stop","start"] (AH IW):={}
theorem jF (F:Fun K "add_stop" "add_stop" IW f fd) (B:Blt mg) (X1:TFm P w K mg base CT):FnOk P w K mg base (CX1 P w) 3 f fd ["stops","stop","start"] (V1 K CT):=by
 refine F.okx jE λcdv A outer s H vs Q E hr h=>?_;obtain⟨sa,pa,l,s,st,rfl,L,hp,hl,k⟩:=h;refine⟨_,(AB (AW (GL (AO E3 (AZ AN (by rfl) B.len cr (AA (pv 0) AF)) AI (AQ _))
  (EX (AO ME (BI (EF K) (pv 1) AI (λ_ _=>rfl)) (BI (EF K) (BI B9 (pv 0) (GX EM AI) (λ_ _=>rfl)) AI (λ_ _=>rfl)) (AQ _)))).pt (AC (BF X1 hr AD rfl (pv 2))) AM)
  (AC (AY (IJ dy fh fi CY (pv 0) (AA (pv 1) AF))))),?_⟩
 and_intros
 obtain⟨as,a1,a2⟩:=id L;obtain⟨y1,q1,l1⟩:=L.len;have la:as.length=l.length:=by rw[cf a2,ah]
 rw[ah] at l1;have app:CW l s=true->(KY (tBM K "list" LS (BO 0) (B5 (BO 1) EN))) { nx:=λ_ H'=>Q .non H',rt:=Q } [some (.ref sa),some (.ref pa),some (.int st)] H:=λho=>by
  rw[if_pos ho] at k;refine⟨V.ref sa,rfl,.inl ⟨rfl,_,SqL.of a1⟩,V.ref pa,rfl,sa,_,_,rfl,rfl,a1,?_,?_⟩
  ·rw[ah,la,bw];omega
  ·refine k _ ?_ λb o e hb=>by rw[AE hb];exact e
   rw[dm];exact LT.add a1 a2 hp
 refine⟨V.ref sa,rfl,sa,y1,rfl,.inl q1,_,_,rfl,rfl,_,rfl,B7 (λh0=>?_) (λh0=>?_)⟩
 ·have hpos:0<(l.map sL).length:=by
   have:(0:Int)<(y1.length:Int):=by simpa using h0
   rw[ah];omega
  obtain⟨a,b,e1,e2,e3,e4⟩:=K6 a2 (y:=[]) hpos;obtain⟨x,hx⟩:∃x,l.getLast? =some x:=by
   cases hg:l.getLast? with
   |none=>rw[List.getLast?_eq_none_iff] at hg;subst hg;simp at hpos
   |some x=>exact⟨x,rfl⟩
  have eb:b=sL x:=by rw[←e2,jg,wN,hx];rfl
  subst eb;refine⟨V.ref pa,rfl,pa,_,0,V.int (s.course:Nat),rfl,rfl,hp,rfl,V.ref sa,rfl,1,rfl,sa,_,_,_,rfl,rfl,SqL.of a1,MQ e1,a,_,0,V.int (x.course:Nat),rfl,rfl,e3,rfl,_,_,rfl,rfl,_,rfl,B7 (λh1=>?_) (λh1=>?_)⟩
  ·have hle:s.course<=x.course:=by
    have:(s.course:Int)<=(x.course:Int):=by simpa using h1
    omega
   have hno:CW l s=false:=by unfold CW;rw[hx];exact decide_eq_false (by omega)
   rw[if_neg (by rw[hno];decide)] at k;exact⟨V.int st,rfl,st,rfl,k⟩
  ·have hle:¬s.course<=x.course:=by
    have:¬(s.course:Int)<=(x.course:Int):=by simpa using h1
    omega
   exact app (by unfold CW;rw[hx];exact decide_eq_true (by omega))
 ·have hz:l=[]:=by
   have:¬(0:Int)<(y1.length:Int):=by simpa using h0
   exact List.eq_nil_of_length_eq_zero (by omega)
  exact BJ (app (by rw[hz];rfl))
theorem oQ:FnScope ["reader"] ["reader"] (AH DO):={}
theorem oR (F:Fun K "read_bass_number" "read_bass_number" DO f fd) (R:RdE P w K mg base C CT dz) (g7:GI mg "FIRST_BASS" 7):FnOk P w K mg base (CX1 P w) 5 f fd ["reader"] (GY K C CT mBN DR):=by
 refine F.okx oQ λcdv A outer s H vs Q E hr h=>?_;obtain⟨r,ta,cs,e,rest,rfl,Rr,k⟩:=h;refine⟨_,(AB (AW (BK R hr AD (pv 0) AU (oks (by decide +kernel))) (AB (BL R hr AD (pv 0) AU (oks (by decide +kernel)))
  (AC (AJ (BC C9 AI (EZ R hr AD (pv 0) AU (oks (by decide +kernel))))))) AM)
  (AC (AJ (BC C9 (BZ g7) (EZ R hr AD (pv 0) AU (oks (by decide +kernel))))))),?_⟩
 and_intros
 unfold mBN at k;refine⟨_,rfl,r,ta,cs,e,rest,rfl,Rr,λH1 s1=>?_⟩;have R1:=Rr.same s1;cases hm:see "1" rest with
 |true=>
  rw[if_pos hm] at k;refine BS ⟨_,rfl,r,ta,cs,e,rest,rfl,R1,?_⟩;cases hs:sk ("1":Str).cps.toList rest with
  |none=>rw[hs] at k;exact AK rfl k
  |some x=>
   obtain⟨_,t⟩:=x;simp only[hs] at k;refine AL rfl λH2 R2 s2=>?_;refine⟨_,rfl,r,ta,cs,e,t,rfl,R2,?_⟩;cases hp:pk "01234" t with
   |none=>simp only[hp] at k;exact AK rfl k
   |some x=>
    obtain⟨n,u⟩:=x;simp only[hp] at k;refine AL rfl λH3 R3 s3=>⟨_,_,rfl,rfl,?_⟩
    have q:=k H3 R3 ((s1.sb.trans s2).trans s3);have e1:DR (10+n)=V.int (10+(n:Int)):=by unfold DR;congr 1
    rw[e1] at q;exact q
 |false=>
  rw[if_neg (by rw[hm];decide)] at k;refine BJ ⟨_,rfl,r,ta,cs,e,rest,rfl,R1,?_⟩;cases hp:pk "789" rest with
  |none=>simp only[hp] at k;exact AK rfl k
  |some x=>
   obtain⟨n,u⟩:=x;simp only[hp] at k;refine AL rfl λH3 R3 s3=>⟨_,_,rfl,rfl,?_⟩
   have q:=k H3 R3 (s1.sb.trans s3);have e1:DR (7+n)=V.int (7+(n:Int)):=by unfold DR;congr 1
   rw[e1] at q;exact q
end
open PySem PySem.Spec PyProof.Rows L2
theorem LU (o:Option (List Stop×List UInt8)):pre [] o=o:=by
 cases o with
 |none=>rfl
 |some x=>obtain⟨s,u⟩:=x;rfl
theorem LT.sb {K:aa} {dx:Addr} {p e:Int} (h:LT K H a ls) (s:Sb r H H') (ir:H r=some (.ins C dx (rf ta p e))):LT K H' a ls:=(Sb.kp s ir).lt h
section
variable {P:aw} {w:bv} {K:aa} {mg:Str->Option ag} {base:Heap} {C CI CT:Addr} {dz fz:Str}
theorem V2:FnScope ["reader","frets","courses","stops","course","fret"] ["reader","frets","courses"] (AH HF):={}
theorem oS (F:Fun K "read_neck" "read_neck" HF f fd) (B:Blt mg) (R:RdE P w K mg base C CT dz):FnOk P w K mg base (CX1 P w) 5 f fd ["reader","frets","courses"] (T8 K C CT):=by
 refine F.okx V2 λcdv A outer s H vs Q E hr h=>?_;obtain⟨r,ta,ca,cs,e,rest,z,ns,rfl,Rr,oz,lz,hca,ln,k⟩:=h;refine⟨_,(AB (AX 3 V2 (DK AF))
  (AB (B4 bn rfl (DG (pv 2)) (DT 4 V2)
  (AB (AX 5 V2 (R.pi.call (pv 0) hr AD (AA (BC SX (pv 1) AU) AF)))
  (AC (AW (AO IH (pv 5) (AZ PM (by rfl) B.len cr (AA (pv 1) AF)) (AQ _))
   (AC (AY (IJ dy fh fi CY (pv 3) (AA (E4 (AA (pv 4) (AA (pv 5) AF))) AF)))) AM))))
  (AC (AJ (pv 3))))),?_⟩
 and_intros
 refine⟨df _,λsa nsa=>?_⟩;have tt:=HK Rr.tx nsa;have ncs:ca≠sa:=AG hca nsa;have s0:Same H (upd H sa (.lst [])):=Same.upd nsa;have fin:∀{H':Hp},SbL [r,sa] (upd H sa (.lst [])) H'->Sb r H H':=λ{H'} q b o eb hb=>q b o (s0 b o eb) (by simp[hb,AG eb nsa]);refine⟨V.ref ca,rfl,ca,rfl,⟨_,SqL.of (s0 _ _ hca)⟩,DE (K:=K) (a:=ca) (xs:=ns.map nV) (λi σ H'=>Ex4 λ(acc:List Stop) (rest':List UInt8) (r4 r5:Option V)=>σ=[some (.ref r),some (.str z),some (.ref ca),some (.ref sa),r4,r5]/\SbL [r,sa] (upd H sa (.lst [])) H'/\Rd K C H' r ta cs e rest'/\
  LT K H' sa (acc.map sL)/\acc.length<=i/\B2 z ns rest=pre acc (B2 z (ns.drop i) rest')) ⟨[],rest,none,none,rfl,SbL.refl,Rr.same s0,⟨[],upd_same,.nil⟩,aq _,(LU _).symm⟩ ?_ ?_ ?_⟩
 ·rintro i σ H' hi ⟨acc,rest',r4,r5,rfl,sb,_⟩;obtain⟨dr,p,ir⟩:=Rr.ins;exact SqL.of (sb _ _ (s0 _ _ hca) (by simp[ncs,B1 hca ir (by intro z;cases z)]))
 ·rintro i y σ H1 hi ⟨acc,rest',r4,r5,rfl,sb,R1,L1,la,em⟩
  and_intros
  rw[az] at hi;cases hc:ns[i]? with
  |none=>rw[hc] at hi;cases hi
  |some c=>
   rw[hc] at hi;cases hi;have hlt:i<ns.length:=(au.mp hc).1;have ed:ns.drop i=c::ns.drop (i+1):=by rw[im hlt,(au.mp hc).2]
   rw[ed,B2] at em;obtain⟨dr,p,ir⟩:=R1.ins;refine⟨V.ref r,rfl,r,dr,_,rfl,ir,VQ _ _ _,V.str z,rfl,z,".",rfl,rfl,(by rw[bw];show z.length+1<=16777216;omega),r,ta,cs,e,rest',z++".",rfl,R1,oz,?_⟩;cases hp:pk (z++".") rest' with
   |none=>
    rw[hp] at em;exact AK rfl (jC k em)
   |some x=>
    obtain⟨ft,t⟩:=x;simp only[hp] at em;refine AL rfl λH2 R2 s2=>?_;have L2:=L1.sb s2 ir;have sb2:SbL [r,sa] (upd H sa (.lst [])) H2:=sb.trans (Sb.l s2 (by simp));refine⟨V.int (ft:Nat),rfl,V.str z,rfl,z,rfl,(by rw[bw];omega),_,_,rfl,rfl,_,rfl,B7 (λh0=>?_) (λh0=>?_)⟩
    ·have hf:ft<z.length:=by
      have:(ft:Int)<(z.length:Int):=by simpa using h0
      omega
     obtain⟨as,a1,a2⟩:=id L2;have l1:as.length=acc.length:=by rw[cf a2,ah]
     refine⟨V.ref sa,rfl,.inl ⟨rfl,_,SqL.of a1⟩,V.int (c:Nat),rfl,V.int (ft:Nat),rfl,(by rw[bw];show 2<=16777216;decide),λpa npa=>⟨sa,_,_,rfl,rfl,(Same.upd npa) _ _ a1,?_,?_⟩⟩
     ·rw[ah,l1,bw];omega
     ·have sp:Same H2 (upd H2 pa (.tup [V.int (c:Nat),V.int (ft:Nat)])):=Same.upd npa;have a13:=sp _ _ a1;have su:Sb sa (upd H2 pa (.tup [V.int (c:Nat),V.int (ft:Nat)])) (upd (upd H2 pa (.tup [V.int (c:Nat),V.int (ft:Nat)])) sa (.lst (as.map V.ref++[.ref pa]))):=λb o eb hb=>by rw[AE hb];exact eb
      refine⟨acc++[⟨c,ft⟩],t,_,_,rfl,(sb2.trans (Same.l sp)).trans (Sb.l su (by simp)),(R2.same sp).app a13 tt su,?_,by rw[bq];simp;omega,?_⟩
      ·rw[dm];exact LT.add a13 (AS a2 λ_ _ q=>sp.tup q) (SqT.of upd_same)
      ·rw[em];cases B2 z (ns.drop (i+1)) t with
       |none=>rfl
       |some x=>
        obtain⟨s,u⟩:=x;simp only[pre,if_pos hf,uu,List.singleton_append]
    ·have hf:¬ft<z.length:=by
      have:¬(ft:Int)<(z.length:Int):=by simpa using h0
      omega
     refine⟨acc,t,_,_,rfl,sb2,R2,L2,by omega,?_⟩;rw[em];cases B2 z (ns.drop (i+1)) t with
     |none=>rfl
     |some x=>
      obtain⟨s,u⟩:=x;simp only[pre,if_neg hf]
 ·rintro σ H1 ⟨acc,rest',r4,r5,rfl,sb,R1,L1,la,em⟩;rw[ah,uP,B2] at em;simp only[pre,ju] at em;exact⟨V.ref sa,rfl,jD k em H1 sa R1 (fin sb) nsa L1⟩
theorem sc_fb:FnScope ["reader","course"] ["reader"] (AH DN):={}
theorem oT (F:Fun K "read_french_bass" "read_french_bass" DN f fd) (R:RdE P w K mg base C CT dz) (g7:GI mg "FIRST_BASS" 7) (gl:GS mg "FRENCH_LOWEST" "4567"):FnOk P w K mg base (CX1 P w) 5 f fd ["reader"] (GY K C CT mFB DR):=by
 refine F.okx sc_fb λcdv A outer s H vs Q E hr h=>?_;obtain⟨r,ta,cs,e,rest,rfl,Rr,k⟩:=h;refine⟨_,(AB (AW (BK R hr AD (pv 0) (FD gl) (oks (by decide +kernel))) (AC (AJ (BC C9 (BC C9 (BZ g7) AI) (EZ R hr AD (pv 0) (FD gl) (oks (by decide +kernel)))))) AM)
  (AB (AX 1 sc_fb (BZ g7))
  (AB (B3 bn (GL (BK R hr AD (pv 0) AU (oks (by decide +kernel))) (EX (AO IH (pv 1) (BC C9 (BZ g7) AI) (AQ _)))).pt
  (AB (BL R hr AD (pv 0) AU (oks (by decide +kernel)))
  (AC (J4 (i:=1) sc_fb.nd rfl (u7 rfl) AI J5))))
  (AB (BL R hr AD (pv 0) AU (oks (by decide +kernel)))
  (AC (AJ (pv 1))))))),?_⟩
 and_intros
 unfold mFB at k;refine⟨_,rfl,r,ta,cs,e,rest,rfl,Rr,λH1 s1=>?_⟩;have R1:=Rr.same s1;cases hm:see "4567" rest with
 |true=>
  rw[if_pos hm] at k;refine BS ⟨_,_,rfl,rfl,_,rfl,r,ta,cs,e,rest,rfl,R1,?_⟩;cases hp:pk "4567" rest with
  |none=>simp only[hp] at k;exact AK rfl k
  |some x=>
   obtain⟨n,u⟩:=x;simp only[hp] at k;refine AL rfl λH3 R3 s3=>⟨_,_,rfl,rfl,?_⟩
   have q:=k H3 R3 (s1.sb.trans s3);have e1:DR (7+4+n)=V.int (7+4+(n:Int)):=by unfold DR;congr 1
   rw[e1] at q;exact q
 |false=>
  rw[if_neg (by rw[hm];decide)] at k;obtain⟨M,hM⟩:∃M,M=mSl 3 rest:=⟨_,rfl⟩
  rw[←hM] at k;refine BJ ⟨λm σ H'=>∃(rest':List UInt8),σ=[some (.ref r),some (.int (10 - (m:Nat)))]/\m<=3/\Sb r H H'/\Rd K C H' r ta cs e rest'/\M=mSl m rest',⟨3,rest,rfl,aq _,s1.sb,R1,hM⟩,?_⟩;rintro m σ H2 ⟨rest',rfl,hm3,s2,R2,em⟩;refine⟨_,rfl,r,ta,cs,e,rest',rfl,R2,λH3 s3=>?_⟩;have R3:=R2.same s3;have s13:Sb r H H3:=s2.trans s3.sb;have tail:∀H3:Hp,Sb r H H3->Rd K C H3 r ta cs e rest'->(∀t,sk ("a":Str).cps.toList rest'=some ((),t)->M=some (10 - m,t))->(sk ("a":Str).cps.toList rest'=none->M=none)->
   (AV (NB K C CT E (BO 0) "a") (QY (BO 1))) { nx:=λ_ H'=>Q .non H',rt:=Q } [some (.ref r),some (.int (10 - (m:Nat)))] H3:=by
   intro H3 s13 R3 q1 q2;refine⟨_,rfl,r,ta,cs,e,rest',rfl,R3,?_⟩;cases hs:sk ("a":Str).cps.toList rest' with
   |none=>rw[q2 hs] at k;exact AK rfl k
   |some x=>
    obtain⟨⟨⟩,t⟩:=x;rw[q1 t hs] at k;refine AL rfl λH4 R4 s4=>⟨_,rfl,?_⟩
    have q:=k H4 R4 (s13.trans s4);have e1:DR (10 - m)=V.int (10 - (m:Nat)):=by unfold DR;congr 1;omega
    rw[e1] at q;exact q
  cases hs:see "/" rest' with
  |false=>
   refine BJ (BJ (tail H3 s13 R3 ?_ ?_))
   ·intro t ht;rw[em];cases m with
    |zero=>rw[mSl,ht]
    |succ m=>rw[mSl,if_neg (by rw[hs];decide),ht];show some (9 - m,t)=some (10 - (m+1),t);congr 2;omega
   ·intro ht;rw[em];cases m with
    |zero=>rw[mSl,ht]
    |succ m=>rw[mSl,if_neg (by rw[hs];decide),ht]
  |true=>
   refine BS ⟨_,rfl,_,_,rfl,rfl,_,_,rfl,rfl,_,rfl,?_⟩;cases m with
   |zero=>
    refine XF (by decide) (tail H3 s13 R3 ?_ ?_)
    ·intro t ht;rw[em,mSl,ht]
    ·intro ht;rw[em,mSl,ht]
   |succ m=>
    rw[mSl,if_pos hs] at em;have hlt:decide ((10:Int) - ((m+1:Nat):Int)<7+3)=true:=decide_eq_true (by omega);show if decide ((10:Int) - ((m+1:Nat):Int)<7+3)=true then _ else _;rw[hlt];refine DZ ⟨_,rfl,r,ta,cs,e,rest',rfl,R3,?_⟩;cases hk:sk ("/":Str).cps.toList rest' with
    |none=>
     rw[hk] at em;rw[em] at k;exact AK rfl k
    |some x=>
     obtain⟨⟨⟩,t⟩:=x;rw[hk] at em;refine AL rfl λH4 R4 s4=>⟨_,rfl,_,_,rfl,rfl,m,by omega,t,?_,by omega,s13.trans s4,R4,em⟩
     show[some (V.ref r),some (V.int (((10:Int) - ((m+1:Nat):Int))+1))]=_;congr 3;show V.int _=V.int _;congr 1;omega
end
open PySem PySem.Spec PyProof.Rows L2
def sT:Option (Stop×List UInt8)->Option (List Int×List UInt8)
 |none=>none
 |some (s,t)=>some (sL s,t)
def zX:Str:="abcdefghiklmnopqrstvxyz&9"
def zP:Str:="+ABCDEFGHIKLMNOP"
def mTm (b:Int):Nat->Nat->List UInt8->Option (Nat×List UInt8)
 |0,j,t=>some (j,t)
 |f+1,j,t=>if bt t=b then(match pk zX t with
  |none=>none
  |some (_,u)=>mTm b f (j+1) u)
  else some (j,t)
def mCr (l:List UInt8):Option (Stop×List UInt8):=match pk zX l with
 |none=>none
 |some (n,t)=>match mTm (bt l) 2 0 t with
  |none=>none
  |some (j,u)=>some (⟨5 - n%5,1+n / 5+5*j⟩,u)
def mGS (l:List UInt8):Option (Stop×List UInt8):=if see "-" l=true then(match sk ("-":Str).cps.toList l with
 |none=>none
 |some (_,t)=>match mBN t with
  |none=>none
  |some (n,u)=>some (⟨n,0⟩,u))
 else if see "54321" l=true then(match pk "54321" l with
  |none=>none
  |some (n,t)=>some (⟨1+n,0⟩,t))
 else if see zP l=true then(match pk zP l with
  |none=>none
  |some (n,t)=>some (⟨6,n⟩,t))
 else mCr l
section
variable {P:aw} {w:bv} {K:aa} {mg:Str->Option ag} {base:Heap} {C CI CT:Addr} {dz fz:Str}
theorem sc_cr:FnScope ["reader","byte","number","times"] ["reader"] (AH ER):={}
theorem oU (F:Fun K "read_crossing" "read_crossing" ER f fd) (R:RdE P w K mg base C CT dz) (g3:GI mg "MOST_CROSSING_BYTES" 3) (gx:GS mg "GERMAN_CROSSINGS" zX):FnOk P w K mg base (CX1 P w) 5 f fd ["reader"] (FE K C CT λl=>sT (mCr l)):=by
 refine F.okx sc_cr λcdv A outer s H vs Q E hr h=>?_;obtain⟨r,ta,cs,e,rest,rfl,Rr,k⟩:=h;refine⟨_,(AB (AX 1 sc_cr (VR R hr AD (pv 0)))
  (AB (AX 2 sc_cr (EZ R hr AD (pv 0) (FD gx) (oks (by decide +kernel))))
  (AB (AX 3 sc_cr AI)
  (AB (B3 bn (GL (AO CP (VR R hr AD (pv 0)) (pv 1) (AQ _)) (EX (AO IH (pv 3) (BZ g3) (AQ _)))).pt
  (AB (AY (EZ R hr AD (pv 0) (FD gx) (oks (by decide +kernel))))
  (AC (J4 (i:=3) sc_cr.nd rfl (u7 rfl) AI J5))))
  (AC (AJ (E4 (AA (BC G0 AI (BC SW (pv 2) AI)) (AA (BC C9 (BC C9 AI (BC LR (pv 2) AI)) (BC IP AI (BC G0 (pv 3) AI))) AF))))))))),?_⟩
 and_intros
 refine⟨_,rfl,r,ta,cs,e,rest,rfl,Rr,?_⟩;refine⟨_,rfl,r,ta,cs,e,rest,rfl,Rr,?_⟩;unfold mCr at k;cases hp:pk zX rest with
 |none=>simp only[hp,sT] at k;exact AK rfl k
 |some x=>
  obtain⟨n,t⟩:=x;simp only[hp] at k;refine AL rfl λH1 R1 s1=>?_;obtain⟨M,hM⟩:∃M,M=mTm (bt rest) 2 0 t:=⟨_,rfl⟩
  rw[←hM] at k;refine⟨λm σ H'=>Ex2 λ(rest':List UInt8) (j:Nat)=>σ=[some (.ref r),some (.int (bt rest)),some (.int (n:Nat)),some (.int ((j:Nat)+1))]/\m+j=2/\Sb r H H'/\Rd K C H' r ta cs e rest'/\M=mTm (bt rest) m j rest',⟨2,t,0,rfl,rfl,s1,R1,hM⟩,?_⟩;rintro m σ H2 ⟨rest',j,rfl,hmj,s2,R2,em⟩;have done:M=some (j,rest')->(QY (gU (B5 (tOp (rI0 λi j=>.int (i - j)) (tC (.int 5)) (tOp (rI (λ_ j=>0<j) λi j=>.int (i%j)) (BO 2) (tC (.int 5)))) (B5 (tOp (rI0 λi j=>.int (i+j)) (tOp (rI0 λi j=>.int (i+j)) (tC (.int 1)) (tOp (rI lQ λi j=>.int (i / j)) (BO 2) (tC (.int 5)))) (tOp (rI CMul λi j=>.int (i*j)) (tC (.int 5)) (tOp (rI0 λi j=>.int (i - j)) (BO 3) (tC (.int 1))))) EN))))
   { nx:=λ_ H'=>Q .non H',rt:=Q } [some (.ref r),some (.int (bt rest)),some (.int (n:Nat)),some (.int ((j:Nat)+1))] H2:=by
   intro eM;simp only[eM,sT] at k;refine⟨_,rfl,_,_,rfl,rfl,(by show(0:Int)<5;decide),_,_,rfl,rfl,_,rfl,_,_,rfl,rfl,(show(0:Int)<5/\(5:Int)<1073741824 from by decide),_,_,rfl,rfl,_,rfl,_,_,rfl,rfl,_,_,rfl,rfl,.inl ⟨by decide,by decide⟩,_,_,rfl,rfl,(by rw[bw];show 2<=16777216;decide),λpa npa=>?_⟩
   ·have sp:Same H2 (upd H2 pa (.tup [V.int (5 - (n:Int)%5),V.int (1+(n:Int) / 5+5*(((j:Nat):Int)+1 - 1))])):=Same.upd npa;refine k _ pa (R2.same sp) (s2.trans sp.sb) (SqT.of (upd_same.trans ?_));have e1:((5 - n%5:Nat):Int)=5 - (n:Int)%5:=by omega
    have e2:((1+n / 5+5*j:Nat):Int)=1+(n:Int) / 5+5*(((j:Nat):Int)+1 - 1):=by omega
    simp only[sL,List.map,e1,e2]
  refine⟨_,rfl,r,ta,cs,e,rest',rfl,R2,_,rfl,rfl,_,rfl,?_⟩;by_cases hb:bt rest'=bt rest
  ·have hd:decide (V.int (bt rest')=V.int (bt rest))=true:=decide_eq_true (by rw[hb]);rw[hd];refine BS ⟨_,rfl,_,_,rfl,rfl,_,rfl,?_⟩;cases m with
   |zero=>
    have hlt:decide (((j:Nat):Int)+1<3)=false:=decide_eq_false (by omega);refine XF hlt (done ?_);rw[em,mTm]
   |succ m=>
    have hlt:decide (((j:Nat):Int)+1<3)=true:=decide_eq_true (by omega);show if decide (((j:Nat):Int)+1<3)=true then _ else _;rw[hlt];rw[mTm,if_pos hb] at em;refine DZ ⟨_,rfl,r,ta,cs,e,rest',rfl,R2,?_⟩;cases hk:pk zX rest' with
    |none=>
     rw[hk] at em;rw[em] at k;exact AK rfl k
    |some x=>
     obtain⟨_,u⟩:=x;rw[hk] at em;exact AL rfl λH4 R4 s4=>⟨_,rfl,_,_,rfl,rfl,m,by omega,u,j+1,rfl,by omega,s2.trans s4,R4,em⟩
  ·have hd:decide (V.int (bt rest')=V.int (bt rest))=false:=decide_eq_false λq=>hb (by injection q);rw[hd];refine BJ (BJ (done ?_));cases m with
   |zero=>rw[em,mTm]
   |succ m=>rw[em,mTm,if_neg hb]
theorem oV:FnScope ["reader"] ["reader"] (AH DP):={}
theorem oW (F:Fun K "read_german_stop" "read_german_stop" DP f fd) (R:RdE P w K mg base C CT dz) (gu:GS mg "GERMAN_UNSTOPPED" "54321") (gp:GS mg "GERMAN_SIXTH" zP) (g6:GI mg "NECK_COURSES" 6)
 (D1:Def P w K mg base 5 "read_bass_number" ["reader"] (GY K C CT mBN DR)) (D2:Def P w K mg base 5 "read_crossing" ["reader"] (FE K C CT λl=>sT (mCr l))):FnOk P w K mg base (CX1 P w) 6 f fd ["reader"] (FE K C CT λl=>sT (mGS l)):=by
 refine F.okx oV λcdv A outer s H vs Q E hr h=>?_;obtain⟨r,ta,cs,e,rest,rfl,Rr,k⟩:=h;refine⟨_,(AB (AW (BK R hr AD (pv 0) AU (oks (by decide +kernel))) (AB (BL R hr AD (pv 0) AU (oks (by decide +kernel)))
  (AC (AJ (E4 (AA (KL D1 hr AD (pv 0)) (AA AI AF)))))) AM)
  (AB (AW (BK R hr AD (pv 0) (FD gu) (oks (by decide +kernel))) (AC (AJ (E4 (AA (BC C9 AI (EZ R hr AD (pv 0) (FD gu) (oks (by decide +kernel)))) (AA AI AF))))) AM)
  (AB (AW (BK R hr AD (pv 0) (FD gp) (oks (by decide +kernel))) (AC (AJ (E4 (AA (BZ g6) (AA (EZ R hr AD (pv 0) (FD gp) (oks (by decide +kernel))) AF))))) AM)
  (AC (AJ (GW D2 hr AD (pv 0))))))),?_⟩
 and_intros
 have k':TY K C CT r ta cs e H Q E (sT (mGS rest)):=k;clear k;have k:=k';clear k';unfold mGS at k;have fin:∀{x y:Int} {H1 H2:Hp} {s:Stop} {t:List UInt8},(∀H' a,Rd K C H' r ta cs e t->Sb r H H'->SqT K H' a ((sL s).map V.int)->Q (.ref a) H')->Sb r H H2->Rd K C H2 r ta cs e t->(s.course:Int)=x->(s.fret:Int)=y->
  [V.int x,V.int y].length<=sizeLine/\∀p,H2 p=none->Q (.ref p) (upd H2 p (.tup [V.int x,V.int y])):=by
  intro x y H1 H2 s t k s2 R2 e1 e2;refine⟨by rw[bw];show 2<=16777216;decide,λpa npa=>?_⟩;have sp:Same H2 (upd H2 pa (.tup [V.int x,V.int y])):=Same.upd npa;exact k _ pa (R2.same sp) (s2.trans sp.sb) (SqT.of (upd_same.trans (by rw[←e1, ←e2];rfl)))
 refine⟨_,rfl,r,ta,cs,e,rest,rfl,Rr,λH1 s1=>?_⟩;have R1:=Rr.same s1;cases h1:see "-" rest with
 |true=>
  rw[if_pos h1] at k;refine BS ⟨_,rfl,r,ta,cs,e,rest,rfl,R1,?_⟩;cases hs:sk ("-":Str).cps.toList rest with
  |none=>simp only[hs,sT] at k;exact AK rfl k
  |some x=>
   obtain⟨_,t⟩:=x;simp only[hs] at k;refine AL rfl λH2 R2 s2=>⟨_,rfl,r,ta,cs,e,t,rfl,R2,?_⟩
   cases hb:mBN t with
   |none=>simp only[hb,sT] at k;exact AK rfl k
   |some x=>
    obtain⟨n,u⟩:=x;simp only[hb,sT] at k;exact AL rfl λH3 R3 s3=>fin (H1:=H) k ((s1.sb.trans s2).trans s3) R3 rfl rfl
 |false=>
  rw[if_neg (by rw[h1];decide)] at k;refine BJ ⟨_,rfl,r,ta,cs,e,rest,rfl,R1,λH2 s2=>?_⟩;have R2:=R1.same s2;cases h2:see "54321" rest with
  |true=>
   rw[if_pos h2] at k;refine BS ⟨_,rfl,r,ta,cs,e,rest,rfl,R2,?_⟩;cases hp:pk "54321" rest with
   |none=>simp only[hp,sT] at k;exact AK rfl k
   |some x=>
    obtain⟨n,u⟩:=x;simp only[hp,sT] at k;refine AL rfl λH3 R3 s3=>⟨_,_,rfl,rfl,?_⟩
    exact fin (H1:=H) k ((s1.trans s2).sb.trans s3) R3 (by show((1+n:Nat):Int)=1+(n:Int);omega) rfl
  |false=>
   rw[if_neg (by rw[h2];decide)] at k;refine BJ ⟨_,rfl,r,ta,cs,e,rest,rfl,R2,λH3 s3=>?_⟩;have R3:=R2.same s3;cases h3:see zP rest with
   |true=>
    rw[if_pos h3] at k;refine BS ⟨_,rfl,r,ta,cs,e,rest,rfl,R3,?_⟩;cases hp:pk zP rest with
    |none=>simp only[hp,sT] at k;exact AK rfl k
    |some x=>
     obtain⟨n,u⟩:=x;simp only[hp,sT] at k;exact AL rfl λH4 R4 s4=>fin (H1:=H) k (((s1.trans s2).trans s3).sb.trans s4) R4 rfl rfl
   |false=>
    rw[if_neg (by rw[h3];decide)] at k;refine BJ ⟨_,rfl,r,ta,cs,e,rest,rfl,R3,?_⟩;cases hc:mCr rest with
    |none=>simp only[hc,sT] at k;exact ED (by show sT (mCr rest)=_;rw[hc];rfl) k
    |some x=>
     obtain⟨s,u⟩:=x;simp only[hc,sT] at k;exact EE (by show sT (mCr rest)=_;rw[hc];rfl) λH4 a R4 s4 q=>k H4 a R4 (((s1.trans s2).trans s3).sb.trans s4) q
end
open PySem PySem.Spec PyProof.Rows L2
def zF:Str:="abcdefghiklmnopq"
def zI:Str:="0123456789xyzvuw"
def mBs (m:List UInt8->Option (Nat×List UInt8)):Nat->List Stop->List UInt8->Option (List Stop×List UInt8)
 |0,_,_=>none
 |f+1,acc,l=>if see " " l=true then(match sk (" ":Str).cps.toList l with
  |none=>none
  |some (_,t)=>match m t with
   |none=>none
   |some (b,u)=>if CW acc ⟨b,0⟩=true then mBs m f (acc++[⟨b,0⟩]) u else none)
  else some (acc,l)
def mFr (l:List UInt8):Option (List Stop×List UInt8):=match B2 zF [1,2,3,4,5,6] l with
 |none=>none
 |some (s,t)=>mBs mFB (t.length+1) s t
def mIt (l:List UInt8):Option (List Stop×List UInt8):=match B2 zI [6,5,4,3,2,1] l with
 |none=>none
 |some (s,t)=>mBs mBN (t.length+1) s.reverse t
def mGl:Nat->List Stop->List UInt8->Option (List Stop×List UInt8)
 |0,_,_=>none
 |f+1,acc,l=>match mGS l with
  |none=>none
  |some (s,t)=>if CW acc s=true then(if see " " t=true then(match sk (" ":Str).cps.toList t with
   |none=>none
   |some (_,u)=>mGl f (acc++[s]) u) else some (acc++[s],t)) else none
def mGr (l:List UInt8):Option (List Stop×List UInt8):=if see "." l=true then(match sk (".":Str).cps.toList l with
 |none=>none
 |some (_,t)=>some ([],t))
 else mGl (l.length+1) [] l
theorem V3:∀{f:Nat} {l t:List UInt8} {n:Nat},mSl f l=some (n,t)->t.length<l.length
 |0,l,t,n,h=>by
  rw[mSl] at h;cases hs:sk ("a":Str).cps.toList l with
  |none=>rw[hs] at h;cases h
  |some x=>
   obtain⟨_,y⟩:=x;rw[hs] at h;cases h;have:t.length+1=l.length:=BN hs;omega
 |f+1,l,t,n,h=>by
  rw[mSl] at h;split at h
  ·cases hs:sk ("/":Str).cps.toList l with
   |none=>rw[hs] at h;cases h
   |some x=>
    obtain⟨_,y⟩:=x;rw[hs] at h;have h1:y.length+1=l.length:=BN hs;have:=V3 (f:=f) h;omega
  ·cases hs:sk ("a":Str).cps.toList l with
   |none=>rw[hs] at h;cases h
   |some x=>
    obtain⟨_,y⟩:=x;rw[hs] at h;cases h;have:t.length+1=l.length:=BN hs;omega
theorem P9 {l:List UInt8} (h:mFB l=some (n,t)):t.length<l.length:=by
 unfold mFB at h;split at h
 ·cases hp:pk "4567" l with
  |none=>rw[hp] at h;cases h
  |some x=>obtain⟨i,y⟩:=x;rw[hp] at h;cases h;have:=EV hp;omega
 ·exact V3 h
theorem L7 {l:List UInt8} (h:mBN l=some (n,t)):t.length<l.length:=by
 unfold mBN at h;split at h
 ·cases hs:sk ("1":Str).cps.toList l with
  |none=>rw[hs] at h;cases h
  |some x=>
   obtain⟨_,y⟩:=x;simp only[hs] at h;cases hp:pk "01234" y with
   |none=>rw[hp] at h;cases h
   |some x=>
    obtain⟨i,v⟩:=x;rw[hp] at h;cases h;have h1:y.length+1=l.length:=BN hs;have:=EV hp;omega
 ·cases hp:pk "789" l with
  |none=>rw[hp] at h;cases h
  |some x=>obtain⟨i,y⟩:=x;rw[hp] at h;cases h;have:=EV hp;omega
theorem GG:∀{ns:List Nat} {l t:List UInt8} {s:List Stop},B2 z ns l=some (s,t)->t.length<=l.length/\s.length<=ns.length
 |[],l,t,s,h=>by rw[B2] at h;cases h;exact⟨aq _,aq _⟩
 |c::ns,l,t,s,h=>by
  rw[B2] at h;cases hp:pk (z++".") l with
  |none=>rw[hp] at h;cases h
  |some x=>
   obtain⟨i,y⟩:=x;simp only[hp] at h;cases hm:B2 z ns y with
   |none=>rw[hm] at h;cases h
   |some x=>
    obtain⟨q,v⟩:=x;simp only[hm] at h;cases h;have h1:=GG hm;have h2:=EV hp;refine⟨by omega,?_⟩;split<;>simp<;>omega
def XJ (K:aa) (C CT:Addr) (m:List UInt8->Option (List Stop×List UInt8)):Sp:=λvs H Q E=>Ex5 λ(r ta:Addr) (cs:List UInt8) (e:Nat) (rest:List UInt8)=>vs=[.ref r]/\Rd K C H r ta cs e rest/\cs.length<=100000/\T7 K C CT r ta cs e H Q E (m rest)
theorem Rd.rl {K:aa} {rest:List UInt8} (R:Rd K C H r ta cs e rest):rest.length<=cs.length:=by
 obtain⟨dx,p,_,q,_⟩:=R.at_;rw[q,fu,dk];omega
theorem NK {F:α->β->Prop}:∀{l:List α} {m:List β},cb F l m->cb F l.reverse m.reverse
 |_,_,.nil=>.nil
 |_,_,.cons r t=>by
  rw[sd,sd];exact FN r (NK t)
section
variable {P:aw} {w:bv} {K:aa} {mg:Str->Option ag} {base:Heap} {C CI CT:Addr} {dz fz:Str}
theorem T9:FnScope ["reader","stops","start"] ["reader"] (AH DC):={}
theorem jG (F:Fun K "read_french_stops" "read_french_stops" DC f fd) (B:Blt mg) (R:RdE P w K mg base C CT dz) (g6:GI mg "NECK_COURSES" 6) (gz:GS mg "FRENCH_FRETS" zF)
 (D1:Def P w K mg base 5 "read_neck" ["reader","frets","courses"] (T8 K C CT)) (D2:Def P w K mg base 5 "read_french_bass" ["reader"] (GY K C CT mFB DR)) (D3:Def P w K mg base 3 "add_stop" ["stops","stop","start"] (V1 K CT)):
 FnOk P w K mg base (CX1 P w) 6 f fd ["reader"] (XJ K C CT mFr):=by
 refine F.okx T9 λcdv A outer s H vs Q E hr h=>?_;obtain⟨r,ta,cs,e,rest,rfl,Rr,hcs,k⟩:=h;refine⟨_,(AB (AX 1 T9 (D1.call hr AD (AA (pv 0) (AA (FD gz) (AA (JU rfl B.list B.range (AA AI (AA (BC C9 (BZ g6) AI) AF))) AF)))))
  (AB (B3 bn (BK R hr AD (pv 0) AU (oks (by decide +kernel)))
  (AB (BL R hr AD (pv 0) AU (oks (by decide +kernel)))
  (AB (AX 2 T9 (B0 R (pv 0)))
  (AC (AY (D3.call hr AD (AA (pv 1) (AA (E4 (AA (KL D2 hr AD (pv 0)) (AA AI AF))) (AA (pv 2) AF)))))))))
  (AC (AJ (pv 1))))),?_⟩
 and_intros
 unfold mFr at k;refine⟨_,rfl,_,_,rfl,rfl,1,7,1,6,.inr ⟨rfl,rfl⟩,⟨by decide,by decide,by decide +kernel,by decide +kernel⟩,(by decide),λca nca=>?_⟩;have sc:Same H (upd H ca (.lst (rgV 1 1 6))):=Same.upd nca;have R0:=Rr.same sc;refine⟨r,ta,ca,cs,e,rest,zF,[1,2,3,4,5,6],rfl,R0,oks (by decide +kernel),(by decide +kernel),upd_same,(by decide),?_⟩;cases hn:B2 zF [1,2,3,4,5,6] rest with
 |none=>simp only[hn] at k;exact KQ rfl k
 |some x=>
  obtain⟨s0,t⟩:=x;simp only[hn] at k;have hnl:=GG hn;refine KR rfl λH1 sa R1 s1 nsa L1=>?_;have nsa:H sa=none:=by
   by_cases q:sa=ca
   ·rw[q];exact nca
   ·rw[AE q] at nsa;exact nsa
  have s1:Sb r H H1:=λb o eb hb=>s1 b o (sc b o eb) hb;have ttx:ta≠sa\/KTx K ta (cs.map cV):=HK Rr.tx nsa;obtain⟨M,hM⟩:∃M,M=mBs mFB (t.length+1) s0 t:=⟨_,rfl⟩
  rw[←hM] at k;have hls:(s0).length<=6:=hnl.2;have hr0:=Rr.rl;refine⟨λm σ H'=>Ex4 λ(rest':List UInt8) (acc:List Stop) (g:Nat) (r2:Option V)=>σ=[some (.ref r),some (.ref sa),r2]/\Sb r H H'/\Rd K C H' r ta cs e rest'/\LT K H' sa (acc.map sL)/\M=mBs mFB g acc rest'/\rest'.length<g/\acc.length+rest'.length<=6+t.length/\m=rest'.length,
   ⟨t.length,t,s0,t.length+1,none,rfl,s1,R1,L1,hM,by omega,by omega,rfl⟩,?_⟩
  rintro m σ H2 ⟨rest',acc,g,r2,rfl,s2,R2,L2,em,hg,ha,rfl⟩;obtain⟨g,rfl⟩:∃g',g=g'+1:=⟨g - 1,by omega⟩
  rw[mBs] at em;refine⟨_,rfl,r,ta,cs,e,rest',rfl,R2,λH3 s3=>?_⟩;have R3:=R2.same s3;have L3:LT K H3 sa (acc.map sL):=(Same.kp s3).lt L2;have s23:Sb r H H3:=s2.trans s3.sb;cases hs:see " " rest' with
  |false=>
   rw[if_neg (by rw[hs];decide)] at em;rw[em] at k;exact BJ ⟨_,rfl,k H3 sa R3 s23 nsa L3⟩
  |true=>
   rw[if_pos hs] at em;refine DZ ⟨_,rfl,r,ta,cs,e,rest',rfl,R3,?_⟩;cases hk:sk (" ":Str).cps.toList rest' with
   |none=>simp only[hk] at em;rw[em] at k;exact AK rfl k
   |some x=>
    obtain⟨_,t4⟩:=x;simp only[hk] at em;obtain⟨dr3,p3,ir3⟩:=R3.ins;refine AL rfl λH4 R4 s4=>⟨_,rfl,r,ta,cs,e,t4,rfl,R4,λst=>?_⟩
    have L4:=L3.sb s4 ir3;obtain⟨dr4,p4,ir4⟩:=R4.ins;refine⟨_,rfl,_,rfl,r,ta,cs,e,t4,rfl,R4,?_⟩;cases hb:mFB t4 with
    |none=>simp only[hb] at em;rw[em] at k;exact AK rfl k
    |some x=>
     obtain⟨b,u⟩:=x;simp only[hb] at em;refine AL rfl λH5 R5 s5=>⟨(by rw[bw];show 2<=16777216;decide),λpa npa=>⟨_,rfl,?_⟩⟩
     have L5:=L4.sb s5 ir4;have sp:Same H5 (upd H5 pa (.tup [DR b,V.int 0])):=Same.upd npa;have hl1:t4.length+1=rest'.length:=BN hk;have hl2:=P9 hb;refine⟨sa,pa,acc,⟨b,0⟩,st,rfl,(Same.kp sp).lt L5,SqT.of upd_same,by omega,?_⟩;cases ho:CW acc ⟨b,0⟩ with
     |false=>
      rw[if_neg (by rw[ho];decide)] at em;rw[em] at k;exact BJ (k st)
     |true=>
      rw[if_pos ho] at em;refine BS λH6 L6 s6=>⟨u.length,by omega,u,acc++[⟨b,0⟩],g,_,rfl,?_,?_,L6,em,by omega,?_,rfl⟩
      ·have q:Sb r H (upd H5 pa (.tup [DR b,V.int 0])):=((s23.trans s4).trans s5).trans sp.sb;exact λb' o eb hb'=>s6 b' o (q b' o eb hb') (AG eb nsa)
      ·obtain⟨as,a1,_⟩:=(Same.kp sp).lt L5;exact(R5.same sp).app a1 ttx s6
      ·rw[bq];simp;omega
theorem UA:FnScope ["reader","stops","start"] ["reader"] (AH CS):={}
theorem jH (F:Fun K "read_italian_stops" "read_italian_stops" CS f fd) (B:Blt mg) (R:RdE P w K mg base C CT dz) (g6:GI mg "NECK_COURSES" 6) (gz:GS mg "ITALIAN_FRETS" zI)
 (D1:Def P w K mg base 5 "read_neck" ["reader","frets","courses"] (T8 K C CT)) (D2:Def P w K mg base 5 "read_bass_number" ["reader"] (GY K C CT mBN DR)) (D3:Def P w K mg base 3 "add_stop" ["stops","stop","start"] (V1 K CT)):
 FnOk P w K mg base (CX1 P w) 6 f fd ["reader"] (XJ K C CT mIt):=by
 refine F.okx UA λcdv A outer s H vs Q E hr h=>?_;obtain⟨r,ta,cs,e,rest,rfl,Rr,hcs,k⟩:=h;refine⟨_,(AB (AX 1 UA (T5 rfl B.list B.rev (AA (D1.call hr AD (AA (pv 0) (AA (FD gz) (AA (JU rfl B.list B.range (AA (BZ g6) (AA AI (AA (GX EM AI) AF)))) AF)))) AF)))
  (AB (B3 bn (BK R hr AD (pv 0) AU (oks (by decide +kernel)))
  (AB (BL R hr AD (pv 0) AU (oks (by decide +kernel)))
  (AB (AX 2 UA (B0 R (pv 0)))
  (AC (AY (D3.call hr AD (AA (pv 1) (AA (E4 (AA (KL D2 hr AD (pv 0)) (AA AI AF))) (AA (pv 2) AF)))))))))
  (AC (AJ (pv 1))))),?_⟩
 and_intros
 unfold mIt at k;refine⟨_,rfl,1,rfl,6,0, -1,6,.inl rfl,⟨by decide,by decide,by decide +kernel,by decide +kernel⟩,(by decide),λca nca=>?_⟩;have sc:Same H (upd H ca (.lst (rgV 6 (-1) 6))):=Same.upd nca;have R0:=Rr.same sc;refine⟨r,ta,ca,cs,e,rest,zI,[6,5,4,3,2,1],rfl,R0,oks (by decide +kernel),(by decide +kernel),upd_same,(by decide),?_⟩;cases hn:B2 zI [6,5,4,3,2,1] rest with
 |none=>simp only[hn] at k;exact KQ rfl k
 |some x=>
  obtain⟨s0,t⟩:=x;simp only[hn] at k;have hnl:=GG hn;refine KR rfl λH0 sz R1 s1 nsz L1=>?_;have s1:Sb r H H0:=λb o eb hb=>s1 b o (sc b o eb) hb;obtain⟨as,a1,a2⟩:=L1;refine⟨sz,_,rfl,SqL.of a1,λsa nsb=>?_⟩;obtain⟨H1,hH⟩:∃H1,H1=upd H0 sa (.lst (as.map V.ref).reverse):=⟨_,rfl⟩
  rw[←hH];have sv:Same H0 H1:=hH▸Same.upd nsb;have L1:LT K H1 sa (s0.reverse.map sL):=⟨as.reverse,by rw[hH,upd_same,xm],by rw[xm];exact NK (AS a2 λ_ _ q=>sv.tup q)⟩
  have nsa:H sa=none:=by
   cases hq:H sa with
   |none=>rfl
   |some o=>
    by_cases q:sa=r
    ·obtain⟨dr,p,ir⟩:=R1.ins;rw[q,ir] at nsb;cases nsb
    ·rw[s1 sa o hq q] at nsb;cases nsb
  replace R1:=R1.same sv;replace s1:Sb r H H1:=s1.trans sv.sb;have ttx:ta≠sa\/KTx K ta (cs.map cV):=HK Rr.tx nsa;obtain⟨M,hM⟩:∃M,M=mBs mBN (t.length+1) s0.reverse t:=⟨_,rfl⟩
  rw[←hM] at k;have hls:(s0.reverse).length<=6:=by rw[tJ];exact hnl.2
  have hr0:=Rr.rl;refine⟨λm σ H'=>Ex4 λ(rest':List UInt8) (acc:List Stop) (g:Nat) (r2:Option V)=>σ=[some (.ref r),some (.ref sa),r2]/\Sb r H H'/\Rd K C H' r ta cs e rest'/\LT K H' sa (acc.map sL)/\M=mBs mBN g acc rest'/\rest'.length<g/\acc.length+rest'.length<=6+t.length/\m=rest'.length,
   ⟨t.length,t,s0.reverse,t.length+1,none,rfl,s1,R1,L1,hM,by omega,by omega,rfl⟩,?_⟩
  rintro m σ H2 ⟨rest',acc,g,r2,rfl,s2,R2,L2,em,hg,ha,rfl⟩;obtain⟨g,rfl⟩:∃g',g=g'+1:=⟨g - 1,by omega⟩
  rw[mBs] at em;refine⟨_,rfl,r,ta,cs,e,rest',rfl,R2,λH3 s3=>?_⟩;have R3:=R2.same s3;have L3:LT K H3 sa (acc.map sL):=(Same.kp s3).lt L2;have s23:Sb r H H3:=s2.trans s3.sb;cases hs:see " " rest' with
  |false=>
   rw[if_neg (by rw[hs];decide)] at em;rw[em] at k;exact BJ ⟨_,rfl,k H3 sa R3 s23 nsa L3⟩
  |true=>
   rw[if_pos hs] at em;refine DZ ⟨_,rfl,r,ta,cs,e,rest',rfl,R3,?_⟩;cases hk:sk (" ":Str).cps.toList rest' with
   |none=>simp only[hk] at em;rw[em] at k;exact AK rfl k
   |some x=>
    obtain⟨_,t4⟩:=x;simp only[hk] at em;obtain⟨dr3,p3,ir3⟩:=R3.ins;refine AL rfl λH4 R4 s4=>⟨_,rfl,r,ta,cs,e,t4,rfl,R4,λst=>?_⟩
    have L4:=L3.sb s4 ir3;obtain⟨dr4,p4,ir4⟩:=R4.ins;refine⟨_,rfl,_,rfl,r,ta,cs,e,t4,rfl,R4,?_⟩;cases hb:mBN t4 with
    |none=>simp only[hb] at em;rw[em] at k;exact AK rfl k
    |some x=>
     obtain⟨b,u⟩:=x;simp only[hb] at em;refine AL rfl λH5 R5 s5=>⟨(by rw[bw];show 2<=16777216;decide),λpa npa=>⟨_,rfl,?_⟩⟩
     have L5:=L4.sb s5 ir4;have sp:Same H5 (upd H5 pa (.tup [DR b,V.int 0])):=Same.upd npa;have hl1:t4.length+1=rest'.length:=BN hk;have hl2:=L7 hb;refine⟨sa,pa,acc,⟨b,0⟩,st,rfl,(Same.kp sp).lt L5,SqT.of upd_same,by omega,?_⟩;cases ho:CW acc ⟨b,0⟩ with
     |false=>
      rw[if_neg (by rw[ho];decide)] at em;rw[em] at k;exact BJ (k st)
     |true=>
      rw[if_pos ho] at em;refine BS λH6 L6 s6=>⟨u.length,by omega,u,acc++[⟨b,0⟩],g,_,rfl,?_,?_,L6,em,by omega,?_,rfl⟩
      ·have q:Sb r H (upd H5 pa (.tup [DR b,V.int 0])):=((s23.trans s4).trans s5).trans sp.sb;exact λb' o eb hb'=>s6 b' o (q b' o eb hb') (AG eb nsa)
      ·obtain⟨as,a1,_⟩:=(Same.kp sp).lt L5;exact(R5.same sp).app a1 ttx s6
      ·rw[bq];simp;omega
end
open PySem PySem.Spec PyProof.Rows L2
theorem V4 {b:Int}:∀{f j:Nat} {l t:List UInt8} {n:Nat},mTm b f j l=some (n,t)->t.length<=l.length
 |0,j,l,t,n,h=>by rw[mTm] at h;cases h;exact aq _
 |f+1,j,l,t,n,h=>by
  rw[mTm] at h;split at h
  ·cases hp:pk zX l with
   |none=>rw[hp] at h;cases h
   |some x=>
    obtain⟨i,y⟩:=x;rw[hp] at h;have h1:=(EV hp).1;have:=V4 (f:=f) h;omega
  ·cases h;exact aq _
theorem QA {l:List UInt8} {s:Stop} (h:mGS l=some (s,t)):t.length<l.length:=by
 unfold mGS at h;split at h
 ·cases hs:sk ("-":Str).cps.toList l with
  |none=>rw[hs] at h;cases h
  |some x=>
   obtain⟨_,y⟩:=x;simp only[hs] at h;cases hp:mBN y with
   |none=>rw[hp] at h;cases h
   |some x=>
    obtain⟨i,v⟩:=x;rw[hp] at h;cases h;have h1:y.length+1=l.length:=BN hs;have:=L7 hp;omega
 ·split at h
  ·cases hp:pk "54321" l with
   |none=>rw[hp] at h;cases h
   |some x=>obtain⟨i,y⟩:=x;rw[hp] at h;cases h;have:=(EV hp).1;omega
  ·split at h
   ·cases hp:pk zP l with
    |none=>rw[hp] at h;cases h
    |some x=>obtain⟨i,y⟩:=x;rw[hp] at h;cases h;have:=(EV hp).1;omega
   ·unfold mCr at h;cases hp:pk zX l with
    |none=>rw[hp] at h;cases h
    |some x=>
     obtain⟨i,y⟩:=x;simp only[hp] at h;cases hm:mTm (bt l) 2 0 y with
     |none=>rw[hm] at h;cases h
     |some x=>
      obtain⟨j,v⟩:=x;rw[hm] at h;cases h;have:=(EV hp).1;have:=V4 hm;omega
section
variable {P:aw} {w:bv} {K:aa} {mg:Str->Option ag} {base:Heap} {C CI CT:Addr} {dz fz:Str}
theorem UB:FnScope ["reader","stops","start"] ["reader"] (AH DD):={}
theorem jI (F:Fun K "read_german_stops" "read_german_stops" DD f fd) (R:RdE P w K mg base C CT dz)
 (D2:Def P w K mg base 6 "read_german_stop" ["reader"] (FE K C CT λl=>sT (mGS l))) (D3:Def P w K mg base 3 "add_stop" ["stops","stop","start"] (V1 K CT)):
 FnOk P w K mg base (CX1 P w) 7 f fd ["reader"] (XJ K C CT mGr):=by
 refine F.okx UB λcdv A outer s H vs Q E hr h=>?_;obtain⟨r,ta,cs,e,rest,rfl,Rr,hcs,k⟩:=h;refine⟨_,(AB (AW (BK R hr AD (pv 0) AU (oks (by decide +kernel))) (AB (BL R hr AD (pv 0) AU (oks (by decide +kernel)))
  (AC (AJ (DK AF)))) AM)
  (AB (AX 1 UB (DK AF))
  (AC (B3 bn (C7 MA)
  (AB (AX 2 UB (B0 R (pv 0)))
  (AB (AY (D3.call hr AD (AA (pv 1) (AA (GW D2 hr AD (pv 0)) (AA (pv 2) AF)))))
  (AB (AW (D7 (BK R hr AD (pv 0) AU (oks (by decide +kernel)))) (AC (AJ (pv 1))) AM)
  (AC (BL R hr AD (pv 0) AU (oks (by decide +kernel))))))))))),?_⟩
 and_intros
 unfold mGr at k;refine⟨_,rfl,r,ta,cs,e,rest,rfl,Rr,λH1 s1=>?_⟩;have R1:=Rr.same s1;cases h1:see "." rest with
 |true=>
  rw[if_pos h1] at k;refine BS ⟨_,rfl,r,ta,cs,e,rest,rfl,R1,?_⟩;cases hs:sk (".":Str).cps.toList rest with
  |none=>simp only[hs] at k;exact AK rfl k
  |some x=>
   obtain⟨_,t⟩:=x;simp only[hs] at k;refine AL rfl λH2 R2 s2=>⟨df _,λsa nsa=>?_⟩
   have sv:Same H2 (upd H2 sa (.lst [])):=Same.upd nsa;have s12:Sb r H H2:=s1.sb.trans s2;refine k _ sa (R2.same sv) (s12.trans sv.sb) ?_ ⟨[],upd_same,.nil⟩;cases hq:H sa with
   |none=>rfl
   |some o=>
    by_cases q:sa=r
    ·obtain⟨dr,p,ir⟩:=R2.ins;rw[q,ir] at nsa;cases nsa
    ·rw[s12 sa o hq q] at nsa;cases nsa
 |false=>
  rw[if_neg (by rw[h1];decide)] at k;refine BJ ⟨df _,λsa nsa1=>?_⟩;have nsa:H sa=none:=by
   cases hq:H sa with
   |none=>rfl
   |some o=>rw[s1 sa o hq] at nsa1;cases nsa1
  have sv:Same H1 (upd H1 sa (.lst [])):=Same.upd nsa1;have ttx:ta≠sa\/KTx K ta (cs.map cV):=HK Rr.tx nsa;obtain⟨M,hM⟩:∃M,M=mGl (rest.length+1) [] rest:=⟨_,rfl⟩
  rw[←hM] at k;have hr0:=Rr.rl;refine⟨λm σ H'=>Ex4 λ(rest':List UInt8) (acc:List Stop) (g:Nat) (r2:Option V)=>σ=[some (.ref r),some (.ref sa),r2]/\Sb r H H'/\Rd K C H' r ta cs e rest'/\LT K H' sa (acc.map sL)/\M=mGl g acc rest'/\rest'.length<g/\acc.length+rest'.length<=rest.length/\m=rest'.length,
   ⟨rest.length,rest,[],rest.length+1,none,rfl,(s1.trans sv).sb,R1.same sv,⟨[],upd_same,.nil⟩,hM,by omega,by simp,rfl⟩,?_⟩
  rintro m σ H2 ⟨rest',acc,g,r2,rfl,s2,R2,L2,em,hg,ha,rfl⟩;obtain⟨g,rfl⟩:∃g',g=g'+1:=⟨g - 1,by omega⟩
  rw[mGl] at em;refine⟨_,rfl,DZ ?_⟩
  and_intros
  refine⟨_,rfl,r,ta,cs,e,rest',rfl,R2,λst=>?_⟩;obtain⟨dr2,p2,ir2⟩:=R2.ins;refine⟨_,rfl,_,rfl,r,ta,cs,e,rest',rfl,R2,?_⟩;cases hb:mGS rest' with
  |none=>simp only[hb] at em;rw[em] at k;exact ED (by show sT (mGS rest')=_;rw[hb];rfl) k
  |some x=>
   obtain⟨s,u⟩:=x;simp only[hb] at em;refine EE (by show sT (mGS rest')=_;rw[hb];rfl) λH3 pa R3 s3 hp=>⟨_,rfl,?_⟩
   have L3:=L2.sb s3 ir2;have hl:=QA hb;refine⟨sa,pa,acc,s,st,rfl,L3,hp,by omega,?_⟩;cases ho:CW acc s with
   |false=>
    rw[if_neg (by rw[ho];decide)] at em;rw[em] at k;exact BJ (k st)
   |true=>
    rw[if_pos ho] at em;refine BS λH4 L4 s4=>?_;have q3:Sb r H H3:=s2.trans s3;have q4:Sb r H H4:=λb' o eb hb'=>s4 b' o (q3 b' o eb hb') (AG eb nsa);have R4:Rd K C H4 r ta cs e u:=by
     obtain⟨as,a1,_⟩:=L3;exact R3.app a1 ttx s4
    refine⟨_,rfl,r,ta,cs,e,u,rfl,R4,λH5 s5=>?_⟩;have R5:=R4.same s5;have L5:LT K H5 sa ((acc++[s]).map sL):=(Same.kp s5).lt L4;cases hs:see " " u with
    |false=>
     rw[if_neg (by rw[hs];decide)] at em;rw[em] at k;exact BS ⟨_,rfl,k H5 sa R5 (q4.trans s5.sb) nsa L5⟩
    |true=>
     rw[if_pos hs] at em;refine BJ ⟨_,rfl,r,ta,cs,e,u,rfl,R5,?_⟩;cases hk:sk (" ":Str).cps.toList u with
     |none=>simp only[hk] at em;rw[em] at k;exact AK rfl k
     |some x=>
      obtain⟨_,v⟩:=x;simp only[hk] at em;obtain⟨dr5,p5,ir5⟩:=R5.ins;have hl1:v.length+1=u.length:=BN hk;refine AL rfl λH6 R6 s6=>⟨v.length,by omega,v,acc++[s],g,_,rfl,(q4.trans s5.sb).trans s6,R6,L5.sb s6 ir5,em,by omega,?_,rfl⟩
      rw[bq];simp;omega
def mSt (kd:Nat) (l:List UInt8):Option (List Stop×List UInt8):=if kd=0 then mFr l else if kd=1 then mIt l else mGr l
def fQ (K:aa) (C CT:Addr):Sp:=λvs H Q E=>Ex6 λ(r ta:Addr) (cs:List UInt8) (e:Nat) (rest:List UInt8) (kd:Nat)=>vs=[.ref r,.int (kd:Nat)]/\Rd K C H r ta cs e rest/\cs.length<=100000/\T7 K C CT r ta cs e H Q E (mSt kd rest)
theorem jJ:FnScope ["reader","kind"] ["reader","kind"] (AH GR):={}
theorem jK (F:Fun K "read_stops" "read_stops" GR f fd) (g0:GI mg "FRENCH" 0) (g1:GI mg "ITALIAN" 1)
 (D1:Def P w K mg base 6 "read_french_stops" ["reader"] (XJ K C CT mFr)) (D2:Def P w K mg base 6 "read_italian_stops" ["reader"] (XJ K C CT mIt)) (D3:Def P w K mg base 7 "read_german_stops" ["reader"] (XJ K C CT mGr)):
 FnOk P w K mg base (CX1 P w) 8 f fd ["reader","kind"] (fQ K C CT):=by
 refine F.okx jJ λcdv A outer s H vs Q E hr h=>?_;obtain⟨r,ta,cs,e,rest,kd,rfl,Rr,hcs,k⟩:=h;refine⟨_,(AB (AW (AO CP (pv 1) (BZ g0) (AQ _)) (AC (AJ (D1.call hr AD (AA (pv 0) AF)))) AM)
  (AB (AW (AO CP (pv 1) (BZ g1) (AQ _)) (AC (AJ (D2.call hr AD (AA (pv 0) AF)))) AM)
  (AC (AJ (D3.call hr AD (AA (pv 0) AF)))))),?_⟩
 and_intros
 unfold mSt at k;refine⟨V.int (kd:Nat),rfl,rfl,_,rfl,B7 (λh0=>?_) (λh0=>?_)⟩
 ·have e0:kd=0:=by
   have q:=of_decide_eq_true h0;injection q with q;omega
  rw[if_pos e0] at k;exact⟨_,rfl,r,ta,cs,e,rest,rfl,Rr,hcs,k⟩
 ·have e0:¬kd=0:=λq=>h0 (decide_eq_true (by rw[q];rfl));rw[if_neg e0] at k;refine⟨V.int (kd:Nat),rfl,rfl,_,rfl,B7 (λh1=>?_) (λh1=>?_)⟩
  ·have e1:kd=1:=by
    have q:=of_decide_eq_true h1;injection q with q;omega
   rw[if_pos e1] at k;exact⟨_,rfl,r,ta,cs,e,rest,rfl,Rr,hcs,k⟩
  ·have e1:¬kd=1:=λq=>h1 (decide_eq_true (by rw[q];rfl));rw[if_neg e1] at k;exact⟨_,rfl,r,ta,cs,e,rest,rfl,Rr,hcs,k⟩
end
open PySem PySem.Spec PyProof.Rows L2
def lnf (n:Int) (sa:Addr):List (Str×V):=[("length",.int n),("stops",.ref sa)]
theorem Z6 (n:Int) (sa:Addr):(lnf n sa).lookup ("length":Str)=some (.int n):=rfl
theorem V5 (n:Int) (sa:Addr):(lnf n sa).lookup ("stops":Str)=some (.ref sa):=rfl
theorem Z7 (n:Int) (sa:Addr) {m:Str} (h1:(m=="length")=false) (h2:(m=="stops")=false):(lnf n sa).lookup m=none:=by
 unfold lnf;simp only[jb,h1,h2]
structure LnC (K:aa) (CL:Addr):Prop where
 cl:Cls K CL
 nl:NoAttr K CL "length"
 ns:NoAttr K CL "stops"
def jL (CL:Addr):Sp:=λvs H Q _=>Ex4 λ(x dx sa:Addr) (n:Int)=>vs=[.ref x,.int n,.ref sa]/\H x=some (.ins CL dx [])/\∀H',H' x=some (.ins CL dx (lnf n sa))->Sb x H H'->Q .non H'
def Z8 (CL:Addr):Sp:=λvs H Q _=>Ex4 λ(x dx sa:Addr) (n:Int)=>vs=[.ref x]/\H x=some (.ins CL dx (lnf n sa))/\Q (.bl (decide (n=0))) H
def hd1 (z:Str):Str:=⟨#[z.cps.toList.headD 0]⟩
def mKd:List Str->Nat->List UInt8->Option (Nat×List UInt8)
 |[],_,_=>none
 |z::zs,i,l=>if see (hd1 z) l=true then(match sk z.cps.toList l with
  |none=>none
  |some (_,t)=>some (i,t)) else mKd zs (i+1) l
def kws:List Str:=["french\n","italian\n","german\n"]
def zL:Str:="xtseqhw"
def lens:List Int:=[1,2,4,8,16,32,64]
def mLn (before:Nat) (l:List UInt8):Option (Nat×List UInt8):=if see " " l=true then(if before=0 then none else match sk (" ":Str).cps.toList l with
 |none=>none
 |some (_,t)=>some (before,t))
 else match pk zL l with
  |none=>none
  |some (i,t)=>if 0<i/\see "." t=true then(match sk (".":Str).cps.toList t with
   |none=>none
   |some (_,u)=>match sk (" ":Str).cps.toList u with
    |none=>none
    |some (_,v)=>if 2 ^ i+2 ^ i / 2=before then none else some (2 ^ i+2 ^ i / 2,v))
   else match sk (" ":Str).cps.toList t with
    |none=>none
    |some (_,v)=>if 2 ^ i=before then none else some (2 ^ i,v)
def fS (K:aa) (C CT:Addr):Sp:=λvs H Q E=>Ex6 λ(r ta:Addr) (cs:List UInt8) (e:Nat) (rest:List UInt8) (b:Nat)=>vs=[.ref r,.int (b:Nat)]/\Rd K C H r ta cs e rest/\Got K C CT r ta cs e H Q E DR (mLn b rest)
theorem dP (h:i<7):(lens.map V.int)[i]? =some (.int ((2 ^ i:Nat):Int)):=by
 match i,h with
 |0,_=>rfl
 |1,_=>rfl
 |2,_=>rfl
 |3,_=>rfl
 |4,_=>rfl
 |5,_=>rfl
 |6,_=>rfl
section
variable {P:aw} {w:bv} {K:aa} {mg:Str->Option ag} {base:Heap} {C CL CT:Addr} {dz fz:Str}
theorem oX:FnScope ["self","length","stops"] ["self","length","stops"] (AH HG):={}
theorem oY (F:Fun K "__init__" "Line.__init__" HG f fd) (T:LnC K CL):FnOk P w K mg base (CX1 P w) 1 f fd ["self","length","stops"] (jL CL):=by
 refine F.okx oX λcdv A outer s H vs Q E hr h=>?_;obtain⟨x,dx,sa,n,rfl,hx,k⟩:=h;refine⟨_,(AB (CQ (pv 0) (pv 1) rfl)
  (AC (CQ (pv 0) (pv 2) rfl))),?_⟩
 and_intros
 refine⟨_,rfl,_,rfl,x,CL,dx,[],rfl,hx,T.cl,T.nl,(by decide),?_⟩;refine⟨_,rfl,_,rfl,x,CL,dx,_,rfl,upd_same,T.cl,T.ns,(by show 1<1000;decide),?_⟩;exact k _ upd_same λb o e hb=>by rw[AE hb,AE hb];exact e
theorem oZ:FnScope ["self"] ["self"] (AH F5):={}
theorem o0 (F:Fun K "is_bar" "Line.is_bar" F5 f fd) (T:LnC K CL):FnOk P w K mg base (CX1 P w) 1 f fd ["self"] (Z8 CL):=by
 refine F.okx oZ λcdv A outer s H vs Q E hr h=>?_;obtain⟨x,dx,sa,n,rfl,hx,k⟩:=h;refine⟨_,(AC (AJ (DS CP (AR (pv 0) rfl) AI (AQ _)))),?_⟩
 subst_eqs
 refine⟨_,rfl,x,CL,dx,_,_,rfl,hx,T.cl,T.nl,Z6 _ _,rfl,?_⟩;have e0:decide (V.int n=V.int 0)=decide (n=0):=by
  rw[decide_eq_decide];exact⟨λq=>by injection q,λq=>by rw[q]⟩
 show Q (V.bl (decide (V.int n=V.int 0))) H;rw[e0];exact k
theorem Z9:FnScope ["reader","kind","word"] ["reader"] (AH HH):={}
theorem jM (h:z∈kws):OkS (hd1 z)/\OkS z/\z.length<=100/\z.cps.toList[0]? =some (z.cps.toList.headD 0):=by
 have:z="french\n"\/z="italian\n"\/z="german\n":=by simpa [kws] using h
 rcases this with rfl|rfl|rfl
 ·exact⟨oks (by decide +kernel),oks (by decide +kernel),by decide +kernel,rfl⟩
 ·exact⟨oks (by decide +kernel),oks (by decide +kernel),by decide +kernel,rfl⟩
 ·exact⟨oks (by decide +kernel),oks (by decide +kernel),by decide +kernel,rfl⟩
theorem o5 (F:Fun K "read_kind" "read_kind" HH f fd) (B:Blt mg) (R:RdE P w K mg base C CT dz) (gk:GT K mg "KIND_WORDS" (kws.map V.str)):FnOk P w K mg base (CX1 P w) 5 f fd ["reader"] (GY K C CT (mKd kws 0) DR):=by
 refine F.okx Z9 λcdv A outer s H vs Q E hr h=>?_;obtain⟨r,ta,cs,e,rest,rfl,Rr,k⟩:=h;refine⟨_,(AB (B4 bn rfl (RM (by rfl) B.enum (AA (OQ gk) AF)) (J0 rfl (CG (DT 1 Z9) (CG (DT 2 Z9) HR)))
  (AC (AW (C7 (R.se.call (pv 0) hr AD (AA (BI g8 (pv 2) AI (λ_ _=>rfl)) AF))) (AB (AY (R.sk.call (pv 0) hr AD (AA (pv 2) AF)))
  (AC (AJ (pv 1)))) AM)))
  (AC (BF R.X1 hr AD rfl (B0 R (pv 0))))),?_⟩
 and_intros
 intro ka hka;obtain⟨M,hM⟩:∃M,M=mKd kws 0 rest:=⟨_,rfl⟩
 have k:Got K C CT r ta cs e H Q E DR M:=by rw[hM];exact k
 refine⟨ka,kws.map V.str,rfl,hka _,GN (n:=3) (λi σ H'=>Same H H'/\(Ex2 λr1 r2=>σ=[some (.ref r),r1,r2])/\i<=3/\M=mKd (kws.drop i) i rest) ⟨Same.refl _,⟨none,none,rfl⟩,by omega,hM⟩ ?_ ?_ ?_ ?_⟩
 ·rintro i σ H' hi _;have hlt:i<kws.length:=hi;exact⟨kws.map V.str,.str kws[i],hka H',by rw[az,aj hlt];rfl⟩
 ·rintro σ H' _;exact⟨kws.map V.str,hka H',rfl⟩
 ·rintro i v σ H1 H2 hi ⟨s1,⟨r1,r2,rfl⟩,_,em⟩ ⟨T,xv,rfl,nT,rfl,hxv⟩;have hlt:i<kws.length:=hi;have hxv':=hxv _ (hka H1);rw[az,aj hlt] at hxv';cases hxv';obtain⟨z,hz⟩:∃z,z=kws[i]:=⟨_,rfl⟩
  rw[←hz];obtain⟨o1,o2,o3,o4⟩:=jM (z:=z) (by rw[hz];exact jd _);have ed:kws.drop i=z::kws.drop (i+1):=by rw[im hlt,hz]
  rw[ed,mKd] at em;have s2:Same H (upd H1 T (.tup [.int (i:Nat),.str z])):=s1.trans (Same.upd nT);have R2:=Rr.same s2;obtain⟨dr,p,ir⟩:=R2.ins;refine⟨T,_,rfl,SqT.of upd_same,rfl,_,_,rfl,_,_,rfl,rfl,?_⟩;refine⟨V.ref r,rfl,r,dr,_,rfl,ir,VP _ _ _,V.str z,rfl,z,0,_,rfl,rfl,(by rw[bw];omega),DH (j:=0) o4,r,ta,cs,e,rest,hd1 z,rfl,R2,o1,λH3 s3=>⟨_,rfl,?_⟩⟩;have R3:=R2.same s3;cases hs:see (hd1 z) rest with
  |false=>
   rw[if_neg (by rw[hs];decide)] at em;exact BJ ⟨s2.trans s3,⟨_,_,rfl⟩,by omega,em⟩
  |true=>
   rw[if_pos hs] at em;obtain⟨dr3,p3,ir3⟩:=R3.ins;refine BS ⟨V.ref r,rfl,r,dr3,_,rfl,ir3,P5 _ _ _,V.str z,rfl,r,ta,cs,e,rest,z,rfl,R3,o2,?_⟩;cases hk:sk z.cps.toList rest with
   |none=>rw[hk] at em;rw[em] at k;exact AK rfl k
   |some x=>
    obtain⟨_,t⟩:=x;rw[hk] at em;rw[em] at k;exact AL rfl λH4 R4 s4=>⟨V.int (i:Nat),rfl,k H4 R4 ((s2.trans s3).sb.trans s4)⟩
 ·rintro σ H1 ⟨s1,⟨r1,r2,rfl⟩,_,em⟩;have e3:kws.drop 3=[]:=rfl;rw[e3,mKd] at em;rw[em] at k;exact⟨V.ref r,rfl,r,ta,cs,e,rest,rfl,Rr.same s1,λz=>⟨z,rfl,k z⟩⟩
theorem sc_rl:FnScope ["reader","before","start","length"] ["reader","before"] (AH CU):={}
theorem o6 (F:Fun K "read_length" "read_length" CU f fd) (R:RdE P w K mg base C CT dz) (gl:GS mg "LENGTH_SIGNS" zL) (gt:GT K mg "LENGTHS" (lens.map V.int)):FnOk P w K mg base (CX1 P w) 5 f fd ["reader","before"] (fS K C CT):=by
 refine F.okx sc_rl λcdv A outer s H vs Q E hr h=>?_;obtain⟨r,ta,cs,e,rest,b,rfl,Rr,k⟩:=h;refine⟨_,(AB (AX 2 sc_rl (B0 R (pv 0)))
  (AB (AW (BK R hr AD (pv 0) AU (oks (by decide +kernel)))
  (AB (AW (AO CP (pv 1) AI (AQ _)) (AC (BF R.X1 hr AD rfl (pv 2))) AM)
  (AB (BL R hr AD (pv 0) AU (oks (by decide +kernel)))
  (AC (AJ (pv 1))))) AM)
  (AB (AX 3 sc_rl (BI (EF K) (OQ gt) (EZ R hr AD (pv 0) (FD gl) (oks (by decide +kernel))) (λ_ _=>rfl)))
  (AB (AW (GL (AO E3 (pv 3) AI (AQ _)) (EX (BK R hr AD (pv 0) AU (oks (by decide +kernel))))).pt
  (AB (BL R hr AD (pv 0) AU (oks (by decide +kernel)))
  (AC (J4 (i:=3) sc_rl.nd rfl (u7 rfl) (BC LR (pv 3) AI) J5))) AM)
  (AB (BL R hr AD (pv 0) AU (oks (by decide +kernel)))
  (AB (AW (AO CP (pv 3) (pv 1) (AQ _)) (AC (BF R.X1 hr AD rfl (pv 2))) AM)
  (AC (AJ (pv 3))))))))),?_⟩
 and_intros
 unfold mLn at k;refine⟨_,rfl,r,ta,cs,e,rest,rfl,Rr,λst=>?_⟩;refine⟨_,rfl,r,ta,cs,e,rest,rfl,Rr,λH1 s1=>?_⟩;have R1:=Rr.same s1;cases h1:see " " rest with
 |true=>
  rw[if_pos h1] at k;refine BS ⟨V.int (b:Nat),rfl,rfl,_,rfl,B7 (λh0=>?_) (λh0=>?_)⟩
  ·have e0:b=0:=by
    have q:=of_decide_eq_true h0;injection q with q;omega
   rw[if_pos e0] at k;exact⟨V.int st,rfl,st,rfl,k st⟩
  ·have e0:¬b=0:=λq=>h0 (decide_eq_true (by rw[q];rfl));rw[if_neg e0] at k;refine⟨_,rfl,r,ta,cs,e,rest,rfl,R1,?_⟩;cases hs:sk (" ":Str).cps.toList rest with
   |none=>rw[hs] at k;exact AK rfl k
   |some x=>
    obtain⟨_,t⟩:=x;rw[hs] at k;exact AL rfl λH2 R2 s2=>⟨V.int (b:Nat),rfl,k H2 R2 (s1.sb.trans s2)⟩
 |false=>
  rw[if_neg (by rw[h1];decide)] at k;refine BJ λla hla=>⟨_,rfl,r,ta,cs,e,rest,rfl,R1,?_⟩
  cases hp:pk zL rest with
  |none=>simp only[hp] at k;exact AK rfl k
  |some x=>
   obtain⟨i,t⟩:=x;simp only[hp] at k;have hi:i<7:=(EV hp).2;refine AL rfl λH2 R2 s2=>⟨la,_,_,_,rfl,rfl,hla _,DH (dP hi),?_⟩
   have sb2:Sb r H H2:=s1.sb.trans s2;have tail:∀(n:Nat) (H3:Hp) (t':List UInt8),Sb r H H3->Rd K C H3 r ta cs e t'->Got K C CT r ta cs e H Q E DR (match sk (" ":Str).cps.toList t' with
    |none=>none
    |some (_,v)=>if n=b then none else some (n,v))->
    (AV (NB K C CT E (BO 0) " ") (AV (ST (Q3 (tOp rEq (BO 3) (BO 1))) (KI CT E (BO 2)) UU) (QY (BO 3)))) { nx:=λ_ H'=>Q .non H',rt:=Q } [some (.ref r),some (.int (b:Nat)),some (.int st),some (.int (n:Nat))] H3:=by
    intro n H3 t' s3 R3 k;refine⟨_,rfl,r,ta,cs,e,t',rfl,R3,?_⟩;cases hs:sk (" ":Str).cps.toList t' with
    |none=>rw[hs] at k;exact AK rfl k
    |some x=>
     obtain⟨_,v⟩:=x;simp only[hs] at k;refine AL rfl λH4 R4 s4=>⟨_,rfl,_,rfl,rfl,_,rfl,B7 (λh0=>?_) (λh0=>?_)⟩
     ·have e0:n=b:=by
       have q:=of_decide_eq_true h0;injection q with q;omega
      rw[if_pos e0] at k;exact⟨V.int st,rfl,st,rfl,k st⟩
     ·have e0:¬n=b:=λq=>h0 (decide_eq_true (by rw[q]));rw[if_neg e0] at k;exact⟨V.int (n:Nat),rfl,k H4 R4 (s3.trans s4)⟩
   refine⟨_,rfl,_,_,rfl,rfl,_,rfl,?_⟩;by_cases h0:0<i
   ·have hgt:decide ((1:Int)<((2 ^ i:Nat):Int))=true:=decide_eq_true (by have:2 ^ 1<=2 ^ i:=lq (by decide) h0;omega);show if decide ((1:Int)<((2 ^ i:Nat):Int))=true then _ else _;rw[hgt];refine BS ⟨_,rfl,r,ta,cs,e,t,rfl,R2,λH3 s3=>?_⟩;have R3:=R2.same s3;cases h2:see "." t with
    |true=>
     rw[if_pos ⟨h0,h2⟩] at k;refine BS ⟨_,rfl,r,ta,cs,e,t,rfl,R3,?_⟩;cases hs:sk (".":Str).cps.toList t with
     |none=>simp only[hs] at k;exact AK rfl k
     |some x=>
      obtain⟨_,u⟩:=x;simp only[hs] at k;refine AL rfl λH4 R4 s4=>⟨_,rfl,_,rfl,_,_,rfl,rfl,(show(0:Int)<2/\(2:Int)<1073741824 from by decide),_,_,rfl,rfl,?_⟩
      have en:(((2 ^ i:Nat):Int)+((2 ^ i:Nat):Int) / 2)=((2 ^ i+2 ^ i / 2:Nat):Int):=by omega
      have q:=tail (2 ^ i+2 ^ i / 2) H4 u ((sb2.trans s3.sb).trans s4) R4 k;rw[←en] at q;exact q
    |false=>
     rw[if_neg (by rw[h2];rintro ⟨_,q⟩;cases q)] at k;exact BJ (tail (2 ^ i) H3 t (sb2.trans s3.sb) R3 k)
   ·have hgt:decide ((1:Int)<((2 ^ i:Nat):Int))=false:=by
     have:i=0:=by omega
     subst this;decide
    rw[if_neg (λq=>h0 q.1)] at k;refine XF hgt (BJ (tail (2 ^ i) H2 t sb2 R2 k))
end
open PySem PySem.Spec PyProof.Rows L2
def mPl (kd before:Nat) (l:List UInt8):Option (Ln×List UInt8):=if see "|" l=true then(match sk ("|\n":Str).cps.toList l with
 |none=>none
 |some (_,t)=>some ((0,[]),t))
 else match mLn before l with
  |none=>none
  |some (n,t)=>match mSt kd t with
   |none=>none
   |some (st,u)=>match sk ("\n":Str).cps.toList u with
    |none=>none
    |some (_,v)=>some ((n,st),v)
def mLs (kd:Nat):Nat->List Ln->Nat->List UInt8->Option (List Ln)
 |0,_,_,_=>none
 |f+1,acc,len,l=>if l.isEmpty=true then(if len=0 then none else some acc) else if acc.length=512 then none else match mPl kd len l with
  |none=>none
  |some ((n,st),t)=>mLs kd f (acc++[(n,st)]) (if n=0 then len else n) t
def mPc (cs:List UInt8):Option (List Ln):=match mKd kws 0 cs with
 |none=>none
 |some (kd,t)=>mLs kd (t.length+1) [] 0 t
def LnB (K:aa) (CL al:Addr) (H:Hp) (x:Addr) (p:Ln):Prop:=Ex2 λdx sa=>sa≠al/\H x=some (.ins CL dx (lnf (p.1:Nat) sa))/\LT K H sa (p.2.map sL)
def LnsA (K:aa) (CL:Addr) (H:Hp) (al:Addr) (ps:List Ln):Prop:=∃as:List Addr,H al=some (.lst (as.map V.ref))/\cb (λx p=>LnB K CL al H x p) as ps
theorem jN {n:Int} {sa:Addr} {p e:Int}:lnf n sa≠rf ta p e:=by
 intro q;have:=congrArg oq q;simp[lnf,rf] at this
theorem LnB.sb {K:aa} {al dx x:Addr} {p e:Int} {q:Ln} (h:LnB K CL al H x q) (s:Sb r H H') (ir:H r=some (.ins C dx (rf ta p e))):LnB K CL al H' x q:=by
 obtain⟨dl,sa,hn,h1,h2⟩:=h;exact⟨dl,sa,hn,s _ _ h1 (B1 h1 ir (by intro z;injection z with _ _ z;exact jN z)),h2.sb s ir⟩
theorem LnB.same {K:aa} {al x:Addr} {q:Ln} (h:LnB K CL al H x q) (s:Same H H'):LnB K CL al H' x q:=by
 obtain⟨dl,sa,hn,h1,h2⟩:=h;exact⟨dl,sa,hn,s _ _ h1,(Same.kp s).lt h2⟩
theorem LT.sbl {K:aa} {al:Addr} (h:LT K H a ls) (s:Sb al H H') (hal:H al=some (.lst xs)) (n:a≠al):LT K H' a ls:=by
 obtain⟨as,h1,h2⟩:=h;exact⟨as,s _ _ h1 n,AS h2 λ_ _ q=>Sb.nt s hal q⟩
theorem LnB.app {K:aa} {al x:Addr} {q:Ln} (h:LnB K CL al H x q) (s:Sb al H H') (hal:H al=some (.lst xs)):LnB K CL al H' x q:=by
 obtain⟨dl,sa,hn,h1,h2⟩:=h;exact⟨dl,sa,hn,s _ _ h1 (B1 h1 hal (by intro z;cases z)),h2.sbl s hal hn⟩
theorem LnsA.same {K:aa} {al:Addr} {ps:List Ln} (h:LnsA K CL H al ps) (s:Same H H'):LnsA K CL H' al ps:=let ⟨as,h1,h2⟩:=h;⟨as,s _ _ h1,AS h2 λ_ _ q=>q.same s⟩
theorem LnsA.sb {K:aa} {al dx:Addr} {p e:Int} {ps:List Ln} (h:LnsA K CL H al ps) (s:Sb r H H') (ir:H r=some (.ins C dx (rf ta p e))):LnsA K CL H' al ps:=
 let ⟨as,h1,h2⟩:=h;⟨as,s _ _ h1 (B1 h1 ir (by intro z;cases z)),AS h2 λ_ _ q=>q.sb s ir⟩
def jO (K:aa) (CR CL CT r ta:Addr) (cs:List UInt8) (e:Nat) (H:Hp) (Q:VK) (E:XK):Option (Ln×List UInt8)->Prop
 |some (p,rest')=>∀H' x dx sa,Rd K CR H' r ta cs e rest'->Sb r H H'->H sa=none->H' x=some (.ins CL dx (lnf (p.1:Nat) sa))->LT K H' sa (p.2.map sL)->Q (.ref x) H'
 |none=>∀z:Int,E (.ref CT) none (xH [("place",.int z)])
theorem XL {K:aa} {res:Option (Ln×List UInt8)} (h:res=none) (k:∀z:Int,E (.ref CT) none (xH [("place",.int z)])):jO K CR CL CT r ta cs e H Q E res:=by
 rw[h];exact k
theorem XN {K:aa} {res:Option (Ln×List UInt8)} {p:Ln} (h:res=some (p,t)) (k:∀H' x dx sa,Rd K CR H' r ta cs e t->Sb r H H'->H sa=none->H' x=some (.ins CL dx (lnf (p.1:Nat) sa))->LT K H' sa (p.2.map sL)->Q (.ref x) H'):jO K CR CL CT r ta cs e H Q E res:=by
 rw[h];exact k
def o7 (K:aa) (C CL CT:Addr):Sp:=λvs H Q E=>Ex7 λ(r ta:Addr) (cs:List UInt8) (e:Nat) (rest:List UInt8) (kd b:Nat)=>vs=[.ref r,.int (kd:Nat),.int (b:Nat)]/\Rd K C H r ta cs e rest/\cs.length<=100000/\jO K C CL CT r ta cs e H Q E (mPl kd b rest)
theorem aA {o:HO} (s:Sb r H H') (hr:H' r=some o) (n:H' a=none):H a=none:=by
 cases hq:H a with
 |none=>rfl
 |some o'=>
  by_cases q:a=r
  ·rw[q,hr] at n;cases n
  ·rw[s a o' hq q] at n;cases n
section
variable {P:aw} {w:bv} {K:aa} {mg:Str->Option ag} {base:Heap} {C CL CT:Addr} {dz fz:Str}
theorem aB:FnScope ["reader","kind","before","length","stops"] ["reader","kind","before"] (AH DQ):={}
theorem o8 (F:Fun K "read_line" "read_line" DQ f fd) (R:RdE P w K mg base C CT dz) (ML:Mkr P w K mg base 1 CL "Line" ["self","length","stops"] (jL CL))
 (D1:Def P w K mg base 5 "read_length_pieces" ["reader","before"] (fS K C CT)) (D2:Def P w K mg base 8 "read_stops" ["reader","kind"] (fQ K C CT)):FnOk P w K mg base (CX1 P w) 9 f fd ["reader","kind","before"] (o7 K C CL CT):=by
 refine F.okx aB λcdv A outer s H vs Q E hr h=>?_;obtain⟨r,ta,cs,e,rest,kd,b,rfl,Rr,hcs,k⟩:=h;refine⟨_,(AB (AW (BK R hr AD (pv 0) AU (oks (by decide +kernel))) (AB (BL R hr AD (pv 0) AU (oks (by decide +kernel)))
  (AC (AJ (ML.call hr AD (AA AI (AA (DK AF) AF)))))) AM)
  (AB (AX 3 aB (D1.call hr AD (AA (pv 0) (AA (pv 2) AF))))
  (AB (AX 4 aB (D2.call hr AD (AA (pv 0) (AA (pv 1) AF))))
  (AB (BL R hr AD (pv 0) AU (oks (by decide +kernel)))
  (AC (AJ (ML.call hr AD (AA (pv 3) (AA (pv 4) AF))))))))),?_⟩
 and_intros
 unfold mPl at k;refine⟨_,rfl,r,ta,cs,e,rest,rfl,Rr,λH1 s1=>?_⟩;have R1:=Rr.same s1;cases h1:see "|" rest with
 |true=>
  rw[if_pos h1] at k;refine BS ⟨_,rfl,r,ta,cs,e,rest,rfl,R1,?_⟩;cases hs:sk ("|\n":Str).cps.toList rest with
  |none=>simp only[hs] at k;exact AK rfl k
  |some x=>
   obtain⟨_,t⟩:=x;simp only[hs] at k;refine AL rfl λH2 R2 s2=>⟨df _,λsa nsa x dx nx nd hne=>⟨x,dx,sa,0,rfl,upd_same,λH3 h3 s3=>⟨rfl,?_⟩⟩⟩
   have s02:Sb r H H2:=s1.sb.trans s2;obtain⟨dr,p,ir⟩:=R2.ins;have sv:Same H2 (upd H2 sa (.lst [])):=Same.upd nsa;have sm:Same (upd H2 sa (.lst [])) H3:=BT nx nd s3 Sb.refl;refine k H3 x dx sa ((R2.same sv).same sm) (s02.trans (sv.trans sm).sb) (aA s02 ir nsa) h3 ⟨[],sm _ _ upd_same,.nil⟩
 |false=>
  rw[if_neg (by rw[h1];decide)] at k;refine BJ ⟨_,rfl,_,rfl,r,ta,cs,e,rest,b,rfl,R1,?_⟩;cases hl:mLn b rest with
  |none=>simp only[hl] at k;exact AK rfl k
  |some x=>
   obtain⟨n,t⟩:=x;simp only[hl] at k;refine AL rfl λH2 R2 s2=>⟨_,rfl,_,rfl,r,ta,cs,e,t,kd,rfl,R2,hcs,?_⟩
   have s02:Sb r H H2:=s1.sb.trans s2;obtain⟨dr2,p2,ir2⟩:=R2.ins;cases hm:mSt kd t with
   |none=>simp only[hm] at k;exact KQ rfl k
   |some x=>
    obtain⟨l,u⟩:=x;simp only[hm] at k;refine KR rfl λH3 sa R3 s3 nsa L3=>⟨_,rfl,r,ta,cs,e,u,rfl,R3,?_⟩
    obtain⟨dr3,p3,ir3⟩:=R3.ins;cases hs:sk ("\n":Str).cps.toList u with
    |none=>simp only[hs] at k;exact AK rfl k
    |some x=>
     obtain⟨_,v⟩:=x;simp only[hs] at k;refine AL rfl λH4 R4 s4=>⟨_,rfl,_,rfl,λx dx nx nd hne=>⟨x,dx,sa,n,rfl,upd_same,λH5 h5 s5=>⟨rfl,?_⟩⟩⟩
     have L4:=L3.sb s4 ir3;have sm:Same H4 H5:=BT nx nd s5 Sb.refl;exact k H5 x dx sa (R4.same sm) (((s02.trans s3).trans s4).trans sm.sb) (aA s02 ir2 nsa) h5 ((Same.kp sm).lt L4)
end
theorem V6 {b:Nat} {l:List UInt8} (h:mLn b l=some (n,t)):t.length<l.length:=by
 unfold mLn at h;split at h
 ·split at h
  ·cases h
  ·cases hs:sk (" ":Str).cps.toList l with
   |none=>rw[hs] at h;cases h
   |some x=>
    obtain⟨_,y⟩:=x;rw[hs] at h;cases h;have:t.length+1=l.length:=BN hs;omega
 ·cases hp:pk zL l with
  |none=>rw[hp] at h;cases h
  |some x=>
   obtain⟨i,y⟩:=x;have h1:=(EV hp).1;simp only[hp] at h;split at h
   ·cases hs:sk (".":Str).cps.toList y with
    |none=>rw[hs] at h;cases h
    |some x=>
     obtain⟨_,u⟩:=x;have h2:u.length+1=y.length:=BN hs;simp only[hs] at h;cases hs2:sk (" ":Str).cps.toList u with
     |none=>rw[hs2] at h;cases h
     |some x=>
      obtain⟨_,v⟩:=x;have h3:v.length+1=u.length:=BN hs2;simp only[hs2] at h;split at h
      ·cases h
      ·cases h;omega
   ·cases hs2:sk (" ":Str).cps.toList y with
    |none=>rw[hs2] at h;cases h
    |some x=>
     obtain⟨_,v⟩:=x;have h3:v.length+1=y.length:=BN hs2;simp only[hs2] at h;split at h
     ·cases h
     ·cases h;omega
theorem QB {m:List UInt8->Option (Nat×List UInt8)} (hm:∀{l t n},m l=some (n,t)->t.length<l.length):∀{f:Nat} {acc s:List Stop} {l t:List UInt8},mBs m f acc l=some (s,t)->t.length<=l.length
 |0,_,_,_,_,h=>by rw[mBs] at h;cases h
 |f+1,acc,s,l,t,h=>by
  rw[mBs] at h;split at h
  ·cases hs:sk (" ":Str).cps.toList l with
   |none=>rw[hs] at h;cases h
   |some x=>
    obtain⟨_,y⟩:=x;have h2:y.length+1=l.length:=BN hs;simp only[hs] at h;cases hq:m y with
    |none=>rw[hq] at h;cases h
    |some x=>
     obtain⟨b,u⟩:=x;have h3:=hm hq;simp only[hq] at h;split at h
     ·have:=QB hm h;omega
     ·cases h
  ·cases h;exact aq _
theorem V7:∀{f:Nat} {acc s:List Stop} {l t:List UInt8},mGl f acc l=some (s,t)->t.length<=l.length
 |0,_,_,_,_,h=>by rw[mGl] at h;cases h
 |f+1,acc,s,l,t,h=>by
  rw[mGl] at h;cases hq:mGS l with
  |none=>rw[hq] at h;cases h
  |some x=>
   obtain⟨b,u⟩:=x;have h3:=QA hq;simp only[hq] at h;split at h
   ·split at h
    ·cases hs:sk (" ":Str).cps.toList u with
     |none=>rw[hs] at h;cases h
     |some x=>
      obtain⟨_,y⟩:=x;have h2:y.length+1=u.length:=BN hs;simp only[hs] at h;have:=V7 h;omega
    ·cases h;omega
   ·cases h
theorem V8 {kd:Nat} {l:List UInt8} {s:List Stop} (h:mSt kd l=some (s,t)):t.length<=l.length:=by
 unfold mSt at h;split at h
 ·unfold mFr at h;cases hn:B2 zF [1,2,3,4,5,6] l with
  |none=>rw[hn] at h;cases h
  |some x=>
   obtain⟨q,y⟩:=x;have h1:=(GG hn).1;simp only[hn] at h;have:=QB P9 h;omega
 ·split at h
  ·unfold mIt at h;cases hn:B2 zI [6,5,4,3,2,1] l with
   |none=>rw[hn] at h;cases h
   |some x=>
    obtain⟨q,y⟩:=x;have h1:=(GG hn).1;simp only[hn] at h;have:=QB L7 h;omega
  ·unfold mGr at h;split at h
   ·cases hs:sk (".":Str).cps.toList l with
    |none=>rw[hs] at h;cases h
    |some x=>
     obtain⟨_,y⟩:=x;have h2:y.length+1=l.length:=BN hs;simp only[hs] at h;cases h;omega
   ·exact V7 h
theorem dQ {kd b:Nat} {l:List UInt8} {p:Ln} (h:mPl kd b l=some (p,t)):t.length<l.length:=by
 unfold mPl at h;split at h
 ·cases hs:sk ("|\n":Str).cps.toList l with
  |none=>rw[hs] at h;cases h
  |some x=>
   obtain⟨_,y⟩:=x;have h2:y.length+2=l.length:=BN hs;simp only[hs] at h;cases h;omega
 ·cases hn:mLn b l with
  |none=>rw[hn] at h;cases h
  |some x=>
   obtain⟨n,y⟩:=x;have h1:=V6 hn;simp only[hn] at h;cases hm:mSt kd y with
   |none=>rw[hm] at h;cases h
   |some x=>
    obtain⟨st,u⟩:=x;have h2:=V8 hm;simp only[hm] at h;cases hs:sk ("\n":Str).cps.toList u with
    |none=>rw[hs] at h;cases h
    |some x=>
     obtain⟨_,v⟩:=x;have h3:v.length+1=u.length:=BN hs;simp only[hs] at h;cases h;omega
open PySem PySem.Spec PyProof.Rows L2
def jP (K:aa) (CL CT:Addr) (H:Hp) (Q:VK) (E:XK):Option (List Ln)->Prop
 |some ps=>∀H' al,Same H H'->LnsA K CL H' al ps->Q (.ref al) H'
 |none=>∀z:Int,E (.ref CT) none (xH [("place",.int z)])
theorem QC {K:aa} {res:Option (List Ln)} (k:jP K CL CT H Q E res) (h:res=none):∀z:Int,E (.ref CT) none (xH [("place",.int z)]):=by
 rw[h] at k;exact k
theorem jQ {K:aa} {res:Option (List Ln)} {ps:List Ln} (k:jP K CL CT H Q E res) (h:res=some ps):∀H' al,Same H H'->LnsA K CL H' al ps->Q (.ref al) H':=by
 rw[h] at k;exact k
def o9 (K:aa) (CL CT:Addr):Sp:=λvs H Q E=>Ex2 λ(ta:Addr) (cs:List UInt8)=>vs=[.ref ta]/\SqL K H ta (cs.map cV)/\cs.length<=100000/\jP K CL CT H Q E (mPc cs)
theorem aC (n:Int) (sa:Addr):(lnf n sa).lookup ("is_bar":Str)=none:=Z7 _ _ (by decide +kernel) (by decide +kernel)
def WPc (K:aa) (C CL:Addr) (ta r al:Addr) (cs:List UInt8) (kd:Nat) (H:Hp) (M:Option (List Ln)) (m:Nat) (σ:L2.St) (H':Hp):Prop:=
 Ex5 λ(rest:List UInt8) (acc:List Ln) (len g:Nat) (r5:Option V)=>σ=[some (.ref ta),some (.ref r),some (.int (kd:Nat)),some (.ref al),some (.int (len:Nat)),r5]/\Same H H'/\Rd K C H' r ta cs cs.length rest/\LnsA K CL H' al acc/\acc.length<=512/\
  M=mLs kd g acc len rest/\rest.length<g/\m=rest.length
section
variable {P:aw} {w:bv} {K:aa} {mg:Str->Option ag} {base:Heap} {C CL CT:Addr} {dz fz:Str}
theorem NL:FnScope ["text","reader","kind","lines","length","line"] ["text"] (AH GQ):={}
theorem pB (F:Fun K "read_piece" "read_piece" GQ f fd) (B:Blt mg) (R:RdE P w K mg base C CT dz) (T:LnC K CL) (gm:GI mg "MOST_LINES" 512) (MB:Mth P w K mg base 1 CL "is_bar" ["self"] (Z8 CL))
 (D1:Def P w K mg base 5 "read_kind" ["reader"] (GY K C CT (mKd kws 0) DR)) (D2:Def P w K mg base 9 "read_line_pieces" ["reader","kind","before"] (o7 K C CL CT)):FnOk P w K mg base (CX1 P w) 10 f fd ["text"] (o9 K CL CT):=by
 refine F.okx NL λcdv A outer s H vs Q E hr h=>?_;obtain⟨ta,cs,rfl,tx,hcs,k⟩:=h;refine⟨_,(AB (AX 1 NL (R.mkr.call hr AD (AA (pv 0) (AA AI (AA (AZ AN (by rfl) B.len cr (AA (pv 0) AF)) AF)))))
  (AB (AX 2 NL (KL D1 hr AD (pv 1)))
  (AB (AX 3 NL (DK AF))
  (AB (AX 4 NL AI)
  (AB (B3 bn (D7 (JQ R hr AD (pv 1)))
  (AB (AW (AO CP (AZ AN (by rfl) B.len cr (AA (pv 3) AF)) (BZ gm) (AQ _)) (AC (BF R.X1 hr AD rfl (B0 R (pv 1)))) AM)
  (AB (AX 5 NL (D2.call hr AD (AA (pv 1) (AA (pv 2) (AA (pv 4) AF)))))
  (AB (AW (D7 (C7 (MB.call0 (pv 5) hr AD))) (AC (AX 4 NL (AR (pv 5) rfl))) AM)
  (AC (AY (IJ dy fh fi CY (pv 3) (AA (pv 5) AF))))))))
  (AB (AW (AO CP (pv 4) AI (AQ _)) (AC (BF R.X1 hr AD rfl (AZ AN (by rfl) B.len cr (AA (pv 0) AF)))) AM)
  (AC (AJ (pv 3))))))))),?_⟩
 and_intros
 refine⟨V.ref ta,rfl,V.ref ta,rfl,ta,_,rfl,.inl tx,λr dr nr nd hne=>⟨r,dr,ta,0,_,rfl,upd_same,λH1 h1 s1=>⟨rfl,?_⟩⟩⟩;have sm1:Same H H1:=BT nr nd s1 Sb.refl;have fin:∀{H2:Hp},Sb r H1 H2->Same H H2:=λs2=>BT nr nd s1 s2;have R1:Rd K C H1 r ta cs cs.length cs:=by
  refine⟨⟨dr,0,?_,?_,df _⟩,sm1.seq tx,aq _⟩
  ·rw[h1,ah];rfl
  ·rw[fk];rfl
 unfold mPc at k;refine⟨V.ref r,rfl,r,ta,cs,cs.length,cs,rfl,R1,?_⟩;cases hl:mKd kws 0 cs with
 |none=>exact AK rfl (QC k (by rw[hl]))
 |some x=>
  obtain⟨kd,t⟩:=x;simp only[hl] at k;refine AL rfl λH2 R2 s2=>⟨df _,λal nal=>?_⟩
  have sm2:=fin s2;obtain⟨M,hM⟩:∃M,M=mLs kd (t.length+1) [] 0 t:=⟨_,rfl⟩
  rw[←hM] at k;have sv:Same H2 (upd H2 al (.lst [])):=Same.upd nal;have nal0:H al=none:=by
   cases hq:H al with
   |none=>rfl
   |some o=>rw[sm2 al o hq] at nal;cases nal
  have ttx:ta≠al\/KTx K ta (cs.map cV):=HK tx nal0;have nrb:∀{H':Hp} {b:Addr} {o:HO},H b=some o->b≠r:=λe=>AG e nr;refine⟨WPc K C CL ta r al cs kd H M,⟨t.length,t,[],0,t.length+1,none,rfl,sm2.trans sv,R2.same sv,⟨[],upd_same,.nil⟩,by simp,hM,by omega,rfl⟩,?_⟩;rintro m σ H3 ⟨rest,acc,len,g,r5,rfl,s3,R3,L3,hacc,em,hg,rfl⟩;obtain⟨g,rfl⟩:∃g',g=g'+1:=⟨g - 1,by omega⟩
  rw[mLs] at em;refine⟨V.ref r,rfl,r,ta,cs,cs.length,rest,rfl,R3,?_⟩;rcases uy rest.isEmpty with he|he
  ·rw[if_pos he] at em;refine XF (c:=!rest.isEmpty) (by rw[he];rfl) ⟨_,rfl,rfl,_,rfl,B7 (λh0=>?_) (λh0=>?_)⟩
   ·have e0:len=0:=by
     have q:=of_decide_eq_true h0;injection q with q;omega
    rw[if_pos e0] at em;exact⟨V.ref ta,rfl,ta,_,rfl,.inl (s3.seq tx),_,rfl,QC k em _⟩
   ·have e0:¬len=0:=λq=>h0 (decide_eq_true (by rw[q];rfl));rw[if_neg e0] at em;exact⟨V.ref al,rfl,jQ k em H3 al s3 L3⟩
  ·rw[if_neg (by rw[he];decide)] at em;refine i6 (c:=!rest.isEmpty) (by rw[he];rfl) ?_;obtain⟨as,a1,a2⟩:=id L3;have la:as.length=acc.length:=cf a2;refine⟨_,λ_ _ q=>q,V.ref al,rfl,al,_,rfl,.inl (SqL.of a1),rfl,_,rfl,B7 (λh0=>?_) (λh0=>?_)⟩
   ·have e0:acc.length=512:=by
     have q:=of_decide_eq_true h0;injection q with q;rw[ah] at q;omega
    rw[if_pos e0] at em;exact⟨V.ref r,rfl,r,ta,cs,cs.length,rest,rfl,R3,λz=>⟨z,rfl,QC k em z⟩⟩
   ·have e0:¬acc.length=512:=λq=>h0 (decide_eq_true (by rw[ah,la,q];rfl));rw[if_neg e0] at em;refine⟨V.ref r,rfl,V.int (kd:Nat),rfl,V.int (len:Nat),rfl,r,ta,cs,cs.length,rest,kd,len,rfl,R3,hcs,?_⟩;obtain⟨dr3,p3,ir3⟩:=R3.ins;cases hm:mPl kd len rest with
    |none=>simp only[hm] at em;exact XL rfl (QC k em)
    |some x=>
     obtain⟨⟨n,st⟩,u⟩:=x;simp only[hm] at em;have hlt:=dQ hm;refine XN rfl λH4 x dx sa R4 s4 nsa h4 Lx=>?_;have L4:=L3.sb s4 ir3;obtain⟨as4,b1,b2⟩:=id L4;have lb:as4.length=acc.length:=cf b2;have nsal:sa≠al:=λq=>by rw[q,a1] at nsa;cases nsa
     have s04:Same H H4:=λb o e=>s4 b o (s3 b o e) (AG e nr);have tail:∀len':Nat,M=mLs kd g (acc++[(n,st)]) len' u->(KY (tBM K "list" LS (BO 3) (B5 (BO 5) EN))) { nx:=λσ' H'=>∃m',m'<rest.length/\WPc K C CL ta r al cs kd H M m' σ' H',rt:=Q } [some (.ref ta),some (.ref r),some (.int (kd:Nat)),some (.ref al),some (.int (len':Nat)),some (.ref x)] H4:=by
      intro len' em';refine⟨V.ref al,rfl,.inl ⟨rfl,_,SqL.of b1⟩,V.ref x,rfl,al,_,_,rfl,rfl,b1,?_,?_⟩
      ·rw[ah,lb,bw];omega
      ·have su:Sb al H4 (upd H4 al (.lst (as4.map V.ref++[.ref x]))):=λb o eb hb=>by rw[AE hb];exact eb
       refine⟨u.length,hlt,u,acc++[(n,st)],len',g,_,rfl,?_,R4.app b1 ttx su,⟨as4++[x],by rw[upd_same,dm];rfl,?_⟩,?_,em',by omega,rfl⟩
       ·exact λb o e=>su b o (s04 b o e) (AG e nal0)
       ·exact FN (F:=λx p=>LnB K CL al _ x p) (LnB.app (q:=(n,st)) ⟨dx,sa,nsal,h4,Lx⟩ su b1) (AS b2 λ_ _ q=>q.app su b1)
       ·rw[bq];simp;omega
     refine⟨V.ref x,rfl,x,dx,_,rfl,h4,aC _ _,x,dx,sa,(n:Nat),rfl,h4,_,rfl,?_⟩;by_cases hn:n=0
     ·rw[if_pos hn] at em;refine XF (c:=!decide (((n:Nat):Int)=0)) (by rw[hn];rfl) (tail len em)
     ·rw[if_neg hn] at em;refine i6 (c:=!decide (((n:Nat):Int)=0)) (by rw[decide_eq_false (by omega)];rfl) ⟨V.ref x,rfl,x,CL,dx,_,_,rfl,h4,T.cl,T.nl,Z6 _ _,tail n em⟩
end
open PySem PySem.Spec PyProof.Rows L2
def plc (fr co ba:List (List Int)) (s:Stop):Bool:=if s.course<=co.length then decide (s.fret<=fr.length) else decide (s.course<=co.length+ba.length)&&decide (s.fret=0)
def EK (pl:Stop->Bool):Nat->List Ln->Option (Nat×Nat)
 |_,[]=>none
 |i,(_,st)::r=>match st.find? λs=>!pl s with
  |some s=>some (i,s.course)
  |none=>EK pl (i+1) r
def mfs (l c:Int):List (Str×V):=[("answer",.int (-3)),("line",.int l),("course",.int c)]
def pC (CM:Addr) (H:Hp) (Q:VK) (E:XK):Option (Nat×Nat)->Prop
 |none=>∀H',Same H H'->Q .non H'
 |some (l,c)=>E (.ref CM) none (xH (mfs (l:Nat) (c:Nat)))
def fT (K:aa) (CI CL CM:Addr):Sp:=λvs H Q E=>Ex9 λ(ia af ac ab al:Addr) (fr co ba:List (List Int)) (ps:List Ln)=>vs=[.ref ia,.ref al]/\InA K CI H ia af ac ab fr co ba/\LnsA K CL H al ps/\pC CM H Q E (EK (plc fr co ba) 0 ps)
def pD (K:aa) (C2:Addr):Sp:=λvs H Q E=>Ex4 λ(ia ta:Addr) (xs ys:List V)=>vs=[.ref ia,.ref ta]/\SqL K H ia xs/\SqL K H ta ys/\(if 4096<xs.length\/65536<ys.length then E (.ref C2) none (xH [("answer",.int (-2))]) else Q .non H)
theorem jR (af ac ab:Addr):(ifs af ac ab).lookup ("has_place":Str)=none:=T0 _ _ _ (by decide +kernel) (by decide +kernel) (by decide +kernel)
theorem jS {CM:Addr} {res:Option (Nat×Nat)} (k:pC CM H Q E res) (h:res=none):∀H',Same H H'->Q .non H':=by rw[h] at k;exact k
theorem KS {pl:Stop->Bool}:∀{ps:List Ln} {i j:Nat},j<=ps.length->(∀(m:Nat) (p:Ln),m<j->ps[m]? =some p->(p.2.find? λs=>!pl s)=none)->EK pl i ps=EK pl (i+j) (ps.drop j)
 |ps,i,0,_,_=>by rw[List.drop_zero];rfl
 |[],i,j+1,h,_=>by simp at h
 |(n,st)::ps,i,j+1,h,hq=>by
  have h0:=hq 0 (n,st) (by omega) rfl;rw[EK,h0];have:=KS (pl:=pl) (ps:=ps) (i:=i+1) (j:=j) (by simpa using h) λm p hm hp=>hq (m+1) p (by omega) (by simpa using hp);rw[wa,show i+(j+1)=i+1+j by omega];exact this
theorem QD {e:Expr} {ta:TE} {fld:Str} (K:aa) (he:PE X e ta) (h:X.K=K:=by rfl) (hb:jl e fld X.env (eval e X.env)=eval e X.env:=by rfl):PE X (.Attribute e fld pos) (NY K ta fld):=h▸AR he hb
section
variable {P:aw} {w:bv} {K:aa} {mg:Str->Option ag} {base:Heap} {C CI CL CM CT:Addr} {dz fz:Str}
theorem V9:FnScope ["instrument","lines","number","line","stop"] ["instrument","lines"] (AH HD):={}
theorem pE (F:Fun K "check_fit" "check_fit" HD f fd) (B:Blt mg) (T:InC K CI) (TL:LnC K CL) (MH:Mth P w K mg base 2 CI "has_place" ["self","course","fret"] (oM K CI)) (XM:XMr P w K mg base 2 CM "Misfit" ["self","line","course"] (iJ CM)):
 FnOk P w K mg base (CX1 P w) 4 f fd ["instrument","lines"] (fT K CI CL CM):=by
 refine F.okx V9 λcdv A outer s H vs Q E hr h=>?_;obtain⟨ia,af,ac,ab,al,fr,co,ba,ps,rfl,I,L,k⟩:=h;refine⟨_,(AC (B4 bn rfl (PR (by rfl) B.enum (AA (pv 1) AF)) (J0 rfl (CG (DT 2 V9) (CG (DT 3 V9) HR)))
  (AC (B4 bn rfl (DG (AR (pv 3) rfl)) (DT 4 V9)
   (AC (AW (D7 (C7 (MH.call (pv 0) hr AD (AA (BI (EF K) (pv 4) AI (λ_ _=>rfl)) (AA (BI (EF K) (pv 4) AI (λ_ _=>rfl)) AF)))))
    (AC (G6 AD rfl (XM.call hr.u AD (AA (pv 2) (AA (BI (EF K) (pv 4) AI (λ_ _=>rfl)) AF))))) AM)))))),?_⟩
 subst_eqs
 obtain⟨as,a1,a2⟩:=id L;have la:as.length=ps.length:=cf a2;obtain⟨M,hM⟩:∃M,M=EK (plc fr co ba) 0 ps:=⟨_,rfl⟩
 rw[←hM] at k;obtain⟨dx,i1⟩:=I.at_;refine⟨V.ref al,rfl,al,_,rfl,SqL.of a1,GN (n:=ps.length) (λi σ H'=>Same H H'/\(Ex3 λr2 r3 r4=>σ=[some (.ref ia),some (.ref al),r2,r3,r4])/\∀(m:Nat) (p:Ln),m<i->ps[m]? =some p->(p.2.find? λs=>!plc fr co ba s)=none) ⟨Same.refl _,⟨none,none,none,rfl⟩,λm p hm=>by omega⟩ ?_ ?_ ?_ ?_⟩
 ·rintro i σ H' hi ⟨s1,_⟩;exact⟨_,.ref (as[i]'(by omega)),SqL.of (s1 _ _ a1),by rw[az,aj (by omega)];rfl⟩
 ·rintro σ H' ⟨s1,_⟩;exact⟨_,SqL.of (s1 _ _ a1),by rw[ah,la];exact aq _⟩
 ·rintro i v σ H1 H2 hi ⟨s1,⟨r2,r3,r4,rfl⟩,hall⟩ ⟨T',xv,rfl,nT,rfl,hxv⟩;have hxv':=hxv _ (SqL.of (s1 _ _ a1));rw[az] at hxv';cases ea:as[i]? with
  |none=>rw[ea] at hxv';cases hxv'
  |some x=>
   rw[ea] at hxv';cases hxv';obtain⟨p,hp,dl,sa,_,hx,Ls⟩:=BD a2 ea;obtain⟨n,st⟩:=p;have s2:Same H (upd H1 T' (.tup [.int (i:Nat),.ref x])):=s1.trans (Same.upd nT);have hx2:=s2 _ _ hx;have Ls2:=(Same.kp s2).lt Ls;obtain⟨bs,b1,b2⟩:=id Ls2;have lb:bs.length=st.length:=by rw[cf b2,ah]
   have hlt:i<ps.length:=hi;have eM:M=EK (plc fr co ba) i ((n,st)::ps.drop (i+1)):=by
    rw[hM,KS (i:=0) (j:=i) (by omega) hall,pp,im hlt,(au.mp hp).2]
   refine⟨T',_,rfl,SqT.of upd_same,rfl,_,_,rfl,_,_,rfl,rfl,?_⟩;refine⟨V.ref x,rfl,x,CL,dl,_,_,rfl,hx2,TL.cl,TL.ns,V5 _ _,sa,rfl,⟨_,SqL.of b1⟩,DE (K:=K) (a:=sa) (xs:=bs.map V.ref) (λj σ H'=>Same (upd H1 T' (.tup [.int (i:Nat),.ref x])) H'/\(∃r4,σ=[some (.ref ia),some (.ref al),some (.int (i:Nat)),some (.ref x),r4])/\∀s∈st.take j,plc fr co ba s=true) ⟨Same.refl _,⟨_,rfl⟩,by simp⟩ ?_ ?_ ?_⟩
   ·rintro j σ H' _ ⟨s3,_⟩;exact SqL.of (s3 _ _ b1)
   ·rintro j y σ H3 hj ⟨s3,⟨r4,rfl⟩,ha⟩
    subst_eqs
    rw[az] at hj;cases eb:bs[j]? with
    |none=>rw[eb] at hj;cases hj
    |some b=>
     rw[eb] at hj;cases hj;obtain⟨q,hq,hb⟩:=BD b2 eb;rw[az] at hq;cases es:st[j]? with
     |none=>rw[es] at hq;cases hq
     |some s=>
      rw[es] at hq;cases hq;have s23:=s2.trans s3;have I3:=I.kp (Same.kp s23);have i3:=s23 _ _ i1;have hb3:=s3.tup hb;refine⟨V.ref ia,rfl,ia,dx,_,rfl,i3,jR _ _ _,V.ref b,rfl,b,_,0,V.int (s.course:Nat),rfl,rfl,hb3,rfl,V.ref b,rfl,b,_,1,V.int (s.fret:Nat),rfl,rfl,hb3,rfl,ia,af,ac,ab,fr,co,ba,(s.course:Nat),(s.fret:Nat),rfl,I3,_,rfl,?_⟩;have ep:(if((s.course:Nat):Int)<=co.length then decide (((s.fret:Nat):Int)<=fr.length) else decide (((s.course:Nat):Int)<=((co.length+ba.length:Nat):Int))&&decide (((s.fret:Nat):Int)=0))=plc fr co ba s:=by
       unfold plc;by_cases hc:s.course<=co.length
       ·rw[if_pos hc,if_pos (by omega),decide_eq_decide];omega
       ·rw[if_neg hc,if_neg (by omega)];congr 1
        ·rw[decide_eq_decide];omega
        ·rw[decide_eq_decide];omega
      rw[ep];cases hpl:plc fr co ba s with
      |true=>
       refine BJ ⟨s3,⟨_,rfl⟩,λs' hs'=>?_⟩;rw[dj,es] at hs';rcases cj.mp hs' with hs'|hs'
       ·exact ha s' hs'
       ·have:s'=s:=by simpa using hs'
        rw[this];exact hpl
      |false=>
       have ef:(st.find? λs=>!plc fr co ba s)=some s:=by
        have hj':j<st.length:=(au.mp es).1;have ed:st=st.take j++s::st.drop (j+1):=by
         rw[←(au.mp es).2, ←im hj',iq]
        rw[ed,om];have e0:((st.take j).find? λs=>!plc fr co ba s)=none:=by
         rw[kn];intro s' hs';rw[ha s' hs'];decide
        rw[e0,Option.none_or,List.find?_cons_of_pos (by rw[hpl];rfl)]
       rw[eM,EK,ef] at k;refine BS ⟨V.int (i:Nat),rfl,V.ref b,rfl,b,_,0,V.int (s.course:Nat),rfl,rfl,hb3,rfl,(by show 2<=100;decide),λa ha'=>⟨a,(i:Nat),(s.course:Nat),rfl,upd_same,λH4 ⟨⟨d,dn,d0,e1,e2⟩,_⟩=>⟨rfl,a,CM,_,rfl,⟨d,dn,e1,e2⟩,XM.2.1,k⟩⟩⟩
   ·rintro σ H3 ⟨s3,⟨r4,rfl⟩,ha⟩;refine⟨s2.trans s3,⟨_,_,_,rfl⟩,λm q hm hq=>?_⟩;by_cases hmi:m=i
    ·subst hmi;rw[hp] at hq;cases hq;rw[ah,lb,fk] at ha;rw[kn];intro s' hs';rw[ha s' hs'];decide
    ·exact hall m q (by omega) hq
 ·rintro σ H1 ⟨s1,⟨r2,r3,r4,rfl⟩,hall⟩;refine jS k ?_ H1 s1;rw[hM,KS (i:=0) (j:=ps.length) (aq _) hall,uP];rfl
theorem pF:FnScope ["i","t"] ["i","t"] (AH F6):={}
theorem pG {C2:Addr} (F:Fun K "check_sizes" "check_sizes" F6 f fd) (B:Blt mg) (g1:GI mg "MOST_INSTRUMENT_BYTES" 4096) (g2:GI mg "MOST_PIECE_BYTES" 65536) (X2:XMr P w K mg base 2 C2 "TooLong" ["self"] (IF C2 (-2))):
 FnOk P w K mg base (CX1 P w) 4 f fd ["i","t"] (pD K C2):=by
 refine F.okx pF λcdv A outer s H vs Q E hr h=>?_;obtain⟨ia,ta,xs,ys,rfl,hx,hy,k⟩:=h;refine⟨_,(AC (AW (OA (AO E3 (AZ AN (by rfl) B.len cr (AA (pv 0) AF)) (BZ g1) (AQ _)) (JZ (AO E3 (AZ AN (by rfl) B.len cr (AA (pv 1) AF)) (BZ g2) (AQ _)))).pt
  (AC (G6 AD rfl (X2.call0 hr.u AD))) AM)),?_⟩
 subst_eqs
 have fail:(4096<xs.length\/65536<ys.length)->∀H',(Y4 K E (MY C2 (IF C2 (-2)) E EN)) { nx:=λ_ H'=>Q .non H',rt:=Q } [some (.ref ia),some (.ref ta)] H':=λhq H'=>by
  rw[if_pos hq] at k;refine⟨by show 0<=100;decide,λa ha=>⟨a,rfl,upd_same,λH4 ⟨⟨d,dn,d0,e1,e2⟩,_⟩=>⟨rfl,a,C2,_,rfl,⟨d,dn,e1,e2⟩,X2.2.1,k⟩⟩⟩
 refine⟨V.ref ia,rfl,ia,xs,rfl,.inl hx,_,_,rfl,rfl,_,rfl,B7 (λh0=>?_) (λh0=>?_)⟩
 ·have q:4096<xs.length:=by
   have:(4096:Int)<(xs.length:Int):=by simpa using h0
   omega
  exact BS (fail (.inl q) _)
 ·have q:¬4096<xs.length:=by
   have:¬(4096:Int)<(xs.length:Int):=by simpa using h0
   omega
  refine⟨V.ref ta,rfl,ta,ys,rfl,.inl hy,_,_,rfl,rfl,_,rfl,B7 (λh1=>?_) (λh1=>?_)⟩
  ·have q2:65536<ys.length:=by
    have:(65536:Int)<(ys.length:Int):=by simpa using h1
    omega
   exact fail (.inr q2) _
  ·have q2:¬65536<ys.length:=by
    have:¬(65536:Int)<(ys.length:Int):=by simpa using h1
    omega
   rw[if_neg (by rintro (z|z);exact q z;exact q2 z)] at k;exact k
end
end Lt
end
section
namespace L2
open PySem PySem.Spec PyProof.Rows
theorem R9 {X:Cx} {x:Str} {Ch:Addr} {np pos:Pos} {b0:Stmt} {suite:List Stmt} {rest:List ExceptHandler} {tb:Addr->TS} {tr:TH} (hg:Gl X x) (hm:X.mg x=some (.ref Ch)) (hs:∀a,X.Ok->PSs (X.hd a) (b0::suite) (tb a)) (hr:PH X rest tr) (hd:(x==("__debug__":Str))=false:=by decide):
 PH X (.ExceptHandler (some (.Name x np)) none (b0::suite) pos::rest) (fC X.K Ch tb tr):=by
 intro pins s σ H D a C fs cx I n h;exact c7 hg hm (λa=>hs a I.ok) hr hd pins s σ H D a C fs cx I n h
end L2
namespace Lt
open PySem PySem.Spec PyProof.Rows L2
variable {f a C CR CT r ta CI CL CN:Addr} {fd:du} {X:Cx} {x:List Int} {i n e p q:Nat} {pos:Pos} {z dz fz:Str} {xs:List V} {E:XK} {H H' H1:Hp} {cs t ci ct:List UInt8} {α β:Type} {Q:VK} {ls fr co ba:List (List Int)} {P:aw} {w:bv} {h:Heap} {ps:List Str}
theorem Y0 {fs gs:List (Str×V)} (h:xH fs=xH gs):fs=gs:=by
 have:=congrFun h 0;unfold xH at this;simp at this;exact this
def pH (K:aa) (CI C6:Addr) (H:Hp) (Q:VK) (E:XK):Option St3->Prop
 |some (fr,co,ba)=>∀H' ia af ac ab,Same H H'->InA K CI H' ia af ac ab fr co ba->Q (.ref ia) H'
 |none=>∀b:Addr,E (.ref C6) (some b) (xH [("answer",.int (-6))])
def pI (K:aa) (CI C6:Addr) (dz fz:Str):Sp:=λvs H Q E=>Ex2 λ(ta:Addr) (cs:List UInt8)=>vs=[.ref ta]/\SqL K H ta (cs.map cV)/\pH K CI C6 H Q E (JS dz fz cs)
def pJ (K:aa) (CL C8:Addr) (H:Hp) (Q:VK) (E:XK):Option (List Ln)->Prop
 |some ps=>∀H' al,Same H H'->LnsA K CL H' al ps->Q (.ref al) H'
 |none=>∀b:Addr,E (.ref C8) (some b) (xH [("answer",.int (-8))])
def pK (K:aa) (CL C8:Addr):Sp:=λvs H Q E=>Ex2 λ(ta:Addr) (cs:List UInt8)=>vs=[.ref ta]/\SqL K H ta (cs.map cV)/\cs.length<=100000/\pJ K CL C8 H Q E (mPc cs)
theorem aD {e:Expr} {ta:TE} {fld:Str} (K:aa) (he:PE X e ta) (h:X.K=K:=by rfl) (hb:jl e fld X.env (eval e X.env)=eval e X.env:=by rfl):PE X (.Attribute e fld pos) (VH K ta fld):=h▸c6 he hb
section
variable {P:aw} {w:bv} {K:aa} {mg:Str->Option ag} {base:Heap} {C CI CL CM CT C6 C8:Addr} {dz fz:Str}
theorem pL:FnScope ["text"] ["text"] (AH ES):={}
theorem pM (F:Fun K "instrument_of" "instrument_of" ES f fd) (hmT:mg "TextFault"=some (.ref CT)) (hx:mr K (.ref CT) (.ref CT)=some true) (D1:Def P w K mg base 12 "read_instrument" ["text"] (fM K CI CT dz fz))
 (X6:XMr P w K mg base 2 C6 "NoInstrument" ["self"] (IF C6 (-6))):FnOk P w K mg base (CX1 P w) 13 f fd ["text"] (pI K CI C6 dz fz):=by
 refine F.okx pL λcdv A outer s H vs Q E hr h=>?_;obtain⟨ta,cs,rfl,tx,k⟩:=h;refine⟨_,(AC (TD (Eb:=λv cx _=>v= .ref CT/\cx=none/\JS dz fz cs=none) rfl rfl (λpn E' o=>(AC (AJ (D1.call hr o (AA (pv 0) AF)))))
  (R9 (by rfl) hmT (λa ok=>(AC (JL (b:=a) (Out.hd AD ok rfl rfl) rfl (X6.call0 (hr.u.mark _) (Out.hd AD ok rfl rfl))))) TC))),?_⟩
 subst_eqs
 refine⟨⟨V.ref ta,rfl,ta,cs,rfl,tx,?_⟩,λa C' fs cx σ' H1 nt eb hl=>?_⟩
 ·cases hm:JS dz fz cs with
  |none=>exact λz=>⟨rfl,rfl,rfl⟩
  |some x=>
   obtain⟨fr,co,ba⟩:=x;rw[hm] at k;exact k
 ·obtain⟨eC,rfl,hm⟩:=eb;have eC':C'=CT:=by injection eC
  subst eC';refine⟨true,hx,λ_ H2 n2=>?_,λq=>by cases q⟩;obtain⟨T,dd,n1,n3,n4,ea,ed,et⟩:=n2;refine⟨by show 0<=100;decide,λa' ha'=>⟨a',rfl,upd_same,λH4 ⟨⟨d,dn,d0,e1,e2⟩,kp⟩=>⟨rfl,a',C6,_,rfl,⟨d,dn,e1,e2⟩,X6.2.1,?_,⟨C',_,_,kp a _ (by rw[AE (AG ea ha')];exact ea) (AG ea ha')⟩,?_⟩⟩⟩
  ·exact cq (AG ea ha')
  ·rw[hm] at k;exact k a
theorem pN:FnScope ["text"] ["text"] (AH IX):={}
theorem pO (F:Fun K "piece_of" "piece_of" IX f fd) (hmT:mg "TextFault"=some (.ref CT)) (hx:mr K (.ref CT) (.ref CT)=some true) (D1:Def P w K mg base 10 "read_piece" ["text"] (o9 K CL CT))
 (X8:XMr P w K mg base 2 C8 "NoPiece" ["self"] (IF C8 (-8))):FnOk P w K mg base (CX1 P w) 13 f fd ["text"] (pK K CL C8):=by
 refine F.okx pN λcdv A outer s H vs Q E hr h=>?_;obtain⟨ta,cs,rfl,tx,hcs,k⟩:=h;refine⟨_,(AC (TD (Eb:=λv cx _=>v= .ref CT/\cx=none/\mPc cs=none) rfl rfl (λpn E' o=>(AC (AJ (D1.call hr o (AA (pv 0) AF)))))
  (R9 (by rfl) hmT (λa ok=>(AC (JL (b:=a) (Out.hd AD ok rfl rfl) rfl (X8.call0 (hr.u.mark _) (Out.hd AD ok rfl rfl))))) TC))),?_⟩
 subst_eqs
 refine⟨⟨V.ref ta,rfl,ta,cs,rfl,tx,hcs,?_⟩,λa C' fs cx σ' H1 nt eb hl=>?_⟩
 ·cases hm:mPc cs with
  |none=>exact λz=>⟨rfl,rfl,rfl⟩
  |some x=>
   rw[hm] at k;exact k
 ·obtain⟨eC,rfl,hm⟩:=eb;have eC':C'=CT:=by injection eC
  subst eC';refine⟨true,hx,λ_ H2 n2=>?_,λq=>by cases q⟩;obtain⟨T,dd,n1,n3,n4,ea,ed,et⟩:=n2;refine⟨by show 0<=100;decide,λa' ha'=>⟨a',rfl,upd_same,λH4 ⟨⟨d,dn,d0,e1,e2⟩,kp⟩=>⟨rfl,a',C8,_,rfl,⟨d,dn,e1,e2⟩,X8.2.1,?_,⟨C',_,_,kp a _ (by rw[AE (AG ea ha')];exact ea) (AG ea ha')⟩,?_⟩⟩⟩
  ·exact cq (AG ea ha')
  ·rw[hm] at k;exact k a
theorem WA {kd:Nat}:∀{f:Nat} {acc ps:List Ln} {len:Nat} {l:List UInt8},acc.length<=512->mLs kd f acc len l=some ps->ps.length<=512
 |0,_,_,_,_,_,h=>by rw[mLs] at h;cases h
 |f+1,acc,ps,len,l,ha,h=>by
  rw[mLs] at h;split at h
  ·split at h
   ·cases h
   ·cases h;exact ha
  ·split at h
   ·cases h
   ·cases hm:mPl kd len l with
    |none=>rw[hm] at h;cases h
    |some x=>
     obtain⟨⟨n,st⟩,t⟩:=x;simp only[hm] at h;exact WA (by rw[bq];simp;omega) h
theorem WB {ps:List Ln} (h:mPc cs=some ps):ps.length<=512:=by
 unfold mPc at h;cases hk:mKd kws 0 cs with
 |none=>rw[hk] at h;cases h
 |some x=>
  obtain⟨kd,t⟩:=x;simp only[hk] at h;exact WA (by simp) h
end
open PySem PySem.Spec PyProof.Rows L2
def tbf (ia al:Addr):List (Str×V):=[("instrument",.ref ia),("lines",.ref al)]
theorem fU (ia al:Addr):(tbf ia al).lookup ("instrument":Str)=some (.ref ia):=rfl
theorem aE (ia al:Addr):(tbf ia al).lookup ("lines":Str)=some (.ref al):=rfl
structure TbC (K:aa) (CB:Addr):Prop where
 cl:Cls K CB
 ni:NoAttr K CB "instrument"
 nl:NoAttr K CB "lines"
structure TbA (K:aa) (CI CL CB:Addr) (H:Hp) (x:Addr) (s:St3) (ps:List Ln):Prop where
 ex:Ex6 λdx ia af ac ab al=>H x=some (.ins CB dx (tbf ia al))/\InA K CI H ia af ac ab s.1 s.2.1 s.2.2/\LnsA K CL H al ps
 le:ps.length<=512
theorem TbA.same {K:aa} {CB:Addr} {x:Addr} {s:St3} {ps:List Ln} (T:TbA K CI CL CB H x s ps) (e:Same H H'):TbA K CI CL CB H' x s ps:=
 let ⟨⟨dx,ia,af,ac,ab,al,h1,h2,h3⟩,l⟩:=T;⟨⟨dx,ia,af,ac,ab,al,e _ _ h1,h2.kp (Same.kp e),h3.same e⟩,l⟩
def jT (CB:Addr):Sp:=λvs H Q _=>Ex4 λ(x dx ia al:Addr)=>vs=[.ref x,.ref ia,.ref al]/\H x=some (.ins CB dx [])/\∀H',H' x=some (.ins CB dx (tbf ia al))->Sb x H H'->Q .non H'
def Rfl (cl:Int->Addr) (E:XK) (z:Int):Prop:=∀cx,E (.ref (cl z)) cx (xH [("answer",.int z)])
def mTb (dz fz:Str) (ci ct:List UInt8):Except Int (St3×List Ln):=match JS dz fz ci with
 |none=>.error (-6)
 |some s=>match mPc ct with
  |none=>.error (-8)
  |some ps=>.ok (s,ps)
def GH (dz fz:Str) (ci ct:List UInt8):Except Int (St3×List Ln):=if 4096<ci.length\/65536<ct.length then .error (-2) else mTb dz fz ci ct
def pP (K:aa) (CI CL CB:Addr) (cl:Int->Addr) (H:Hp) (Q:VK) (E:XK):Except Int (St3×List Ln)->Prop
 | .ok (s,ps)=>∀H' x,Same H H'->TbA K CI CL CB H' x s ps->Q (.ref x) H'
 | .error z=>Rfl cl E z
theorem UC {K:aa} {CB:Addr} {cl:Int->Addr} {r:Except Int (St3×List Ln)} {z:Int} (k:pP K CI CL CB cl H Q E r) (h:r= .error z):Rfl cl E z:=by rw[h] at k;exact k
def dR (K:aa) (CI CL CB:Addr) (cl:Int->Addr) (m:List UInt8->List UInt8->Except Int (St3×List Ln)):Sp:=λvs H Q E=>Ex4 λ(ia ta:Addr) (ci ct:List UInt8)=>vs=[.ref ia,.ref ta]/\SqL K H ia (ci.map cV)/\SqL K H ta (ct.map cV)/\ct.length<=100000/\pP K CI CL CB cl H Q E (m ci ct)
section
variable {P:aw} {w:bv} {K:aa} {mg:Str->Option ag} {base:Heap} {CI CL CB:Addr} {cl:Int->Addr} {dz fz:Str}
theorem jU:FnScope ["self","instrument","lines"] ["self","instrument","lines"] (AH EA):={}
theorem jV (F:Fun K "__init__" "Tablature.__init__" EA f fd) (T:TbC K CB):FnOk P w K mg base (CX1 P w) 1 f fd ["self","instrument","lines"] (jT CB):=by
 refine F.okx jU λcdv A outer s H vs Q E hr h=>?_;obtain⟨x,dx,ia,al,rfl,hx,k⟩:=h;refine⟨_,(AB (CQ (pv 0) (pv 1) rfl)
  (AC (CQ (pv 0) (pv 2) rfl))),?_⟩
 and_intros
 refine⟨_,rfl,_,rfl,x,CB,dx,[],rfl,hx,T.cl,T.ni,(by decide),?_⟩;refine⟨_,rfl,_,rfl,x,CB,dx,_,rfl,upd_same,T.cl,T.nl,(by show 1<1000;decide),?_⟩;exact k _ upd_same λb o e hb=>by rw[AE hb,AE hb];exact e
theorem aF:FnScope ["i","t","instrument"] ["i","t"] (AH FC):={}
theorem jW (F:Fun K "tablature_of" "tablature_of" FC f fd) (M:Mkr P w K mg base 1 CB "Tablature" ["self","instrument","lines"] (jT CB))
 (D2:Def P w K mg base 13 "instrument_of" ["text"] (pI K CI (cl (-6)) dz fz)) (D3:Def P w K mg base 13 "piece_of" ["text"] (pK K CL (cl (-8)))):FnOk P w K mg base (CX1 P w) 14 f fd ["i","t"] (dR K CI CL CB cl (mTb dz fz)):=by
 refine F.okx aF λcdv A outer s H vs Q E hr h=>?_;obtain⟨ia,ta,ci,ct,rfl,hi,ht,hct,k⟩:=h;refine⟨_,(AB (AX 2 aF (D2.call hr AD (AA (pv 0) AF)))
  (AC (AJ (M.call hr AD (AA (pv 2) (AA (D3.call hr AD (AA (pv 1) AF)) AF)))))),?_⟩
 and_intros
 refine⟨V.ref ia,rfl,ia,ci,rfl,hi,?_⟩;unfold mTb at k;cases hm:JS dz fz ci with
 |none=>exact λb=>UC k (by rw[hm]) _
 |some x=>
  obtain⟨fr,co,ba⟩:=x;simp only[hm] at k;intro H1 xa af ac ab s1 I1;refine⟨V.ref xa,rfl,V.ref ta,rfl,ta,ct,rfl,s1.seq ht,hct,?_⟩;cases hp:mPc ct with
  |none=>exact λb=>UC k (by rw[hp]) _
  |some ps=>
   simp only[hp] at k;intro H2 al s2 L2 x dx nx nd hne;refine⟨x,dx,xa,al,rfl,upd_same,λH3 h3 s3=>⟨rfl,?_⟩⟩;have s23:Same H2 H3:=BT nx nd s3 Sb.refl;exact k H3 x ((s1.trans s2).trans s23) ⟨⟨dx,xa,af,ac,ab,al,h3,(I1.kp (Same.kp s2)).kp (Same.kp s23),L2.same s23⟩,WB hp⟩
theorem jX:FnScope ["i","t"] ["i","t"] (AH EB):={}
theorem jY (F:Fun K "read_tablature" "read_tablature" EB f fd) (D1:Def P w K mg base 4 "check_sizes" ["i","t"] (pD K (cl (-2)))) (D2:Def P w K mg base 14 "tablature_of" ["i","t"] (dR K CI CL CB cl (mTb dz fz))):
 FnOk P w K mg base (CX1 P w) 15 f fd ["i","t"] (dR K CI CL CB cl (GH dz fz)):=by
 refine F.okx jX λcdv A outer s H vs Q E hr h=>?_;obtain⟨ia,ta,ci,ct,rfl,hi,ht,hct,k⟩:=h;refine⟨_,(AB (AY (D1.call hr AD (AA (pv 0) (AA (pv 1) AF))))
  (AC (AJ (D2.call hr AD (AA (pv 0) (AA (pv 1) AF)))))),?_⟩
 and_intros
 refine⟨V.ref ia,rfl,V.ref ta,rfl,ia,ta,_,_,rfl,hi,ht,?_⟩;rw[ah,ah];unfold GH at k;by_cases hl:4096<ci.length\/65536<ct.length
 ·rw[if_pos hl] at k ⊢;exact UC k rfl _
 ·rw[if_neg hl] at k ⊢;exact⟨V.ref ia,rfl,V.ref ta,rfl,ia,ta,ci,ct,rfl,hi,ht,hct,k⟩
end
structure RfC (K:aa) (CR:Addr) (cl:Int->Addr) (Z:List Int):Prop where
 r:∀z∈Z,mr K (.ref (cl z)) (.ref CR)=some true
 x:∀z∈Z,XCls K (cl z)
 a:∀z∈Z,NoAttr K (cl z) "answer"
open PySem PySem.Spec PyProof.Rows L2
theorem dS {K:aa} {σ':L2.St} {j:Nat} {fs:List (Str×V)} {cx:Option Addr} {fl:ag} {H2:Hp} {z:Int} {D:Ends} {ans:List Int} (hl:j<σ'.length) (n2:Noted H2 a C fs cx fl) (x:XCls K C) (na:NoAttr K C "answer") (l:fs.lookup ("answer":Str)=some (.int z))
 (ha:ans=[z]) (k:∀H' l,H' l=some (.lst (ans.map V.int))->D.rt (.ref l) H'):(QY (gW (B5 (VH K (BO j) "answer") EN))) D (σ'.set j (some (.ref a))) H2:=by
 obtain⟨T,dd,n1,n3,n4,eo,ed,et⟩:=n2;have e5:(σ'.set j (some (V.ref a)))[j]? =some (some (V.ref a)):=by rw[mv hl]
 refine⟨V.ref a,e5,a,C,dd,_,_,_,_,rfl,eo,ed,x,na,l,(by rw[bw];show 1<=16777216;decide),λp hp=>?_⟩;refine k _ p ?_;rw[upd_same,ha];rfl
theorem jZ {z:Int} (h:GH dz fz ci ct= .error z):z∈([-2, -6, -8]:List Int):=by
 unfold GH mTb at h;split at h
 ·cases h;simp
 ·split at h
  ·cases h;simp
  ·split at h
   ·cases h;simp
   ·cases h
def dU (p:LuteTab.Piece):Prop:=∀n l,LuteTab.Line.moment n l∈p->0<n
def JB (c:Nat) (l:List Stop):Bool:=l.any λ(s:Stop)=>s.course==c
def E1 (ring c:Nat):List Ln->Nat
 |[]=>0
 |(n,l)::r=>if(ring=2/\n=0)\/JB c l=true then 0 else E1 ring c r+1
def mEL (ring:Nat) (ps:List Ln) (line c:Nat):Nat:=if ring=0 then line+1 else line+1+E1 ring c (ps.drop (line+1))
def FF:Nat->Nat->List Ln->List (Nat×Nat)
 |_,_,[]=>[]
 |i,x,(n,l)::r=>if n=0 then(i,x)::FF (i+1) x r else FF (i+1) (x+n) r
theorem QE:∀(p:LuteTab.Piece) (i x:Nat),dU p->FF i x (p.map CF)=LuteSound.barsFrom i x p
 |[],_,_,_=>rfl
 | .bar::r,i,x,h=>by
   rw[LuteSound.barsFrom, ←QE r _ _ λn l q=>h n l (ao _ q)];rfl
 | .moment n l::r,i,x,h=>by
   have h0:=h n l bb;rw[LuteSound.barsFrom, ←QE r _ _ λn l q=>h n l (ao _ q)];show FF i x ((n,l)::r.map CF)=_;rw[FF,if_neg (by omega)]
theorem HM:∀(a b:List Ln) (i x:Nat),CZ i x (a++b)=CZ i x a++CZ (i+a.length) (x+uL a a.length) b
 |[],b,i,x=>by simp[CZ,T6]
 |(n,l)::a,b,i,x=>by
  rw[ph,CZ,HM a b,CZ,uu,cw,C0];congr 3
  ·omega
  ·show x+n+_=x+(n+_);omega
theorem HN:∀(a b:List Ln) (i x:Nat),FF i x (a++b)=FF i x a++FF (i+a.length) (x+uL a a.length) b
 |[],b,i,x=>by simp[FF,T6]
 |(n,l)::a,b,i,x=>by
  rw[ph,FF,FF,HN a b,HN a b,cw,C0];by_cases h:n=0
  ·subst h;rw[if_pos rfl,if_pos rfl,ph];congr 3
   ·omega
   ·show x+_=x+(0+_);omega
  ·rw[if_neg h,if_neg h];congr 2
   ·omega
   ·show x+n+_=x+(n+_);omega
theorem GJ:∀{ps:List Ln} {i x:Nat} {b:Nat×Nat},b∈FF i x ps->i<=b.1/\b.1<i+ps.length/\x<=b.2
 |[],i,x,b,h=>by simp[FF] at h
 |(n,l)::r,i,x,b,h=>by
  rw[FF] at h;rw[cw];split at h
  ·rcases bp.mp h with rfl|h
   ·exact⟨aq _,by omega,aq _⟩
   ·have:=GJ h;omega
  ·have:=GJ h;omega
def agn (c u:Nat) (k:List Sk):Nat:=match k.find? λ(q:Sk)=>q.halt_.course==c with
 |some q=>q.begins
 |none=>u
theorem SA (c i x y:Nat) (l:List Stop):(l.map λ(s:Stop)=>(⟨i,x,y,s⟩:Sk)).find? (λ(q:Sk)=>q.halt_.course==c)=(l.find? λs=>s.course==c).map λs=>(⟨i,x,y,s⟩:Sk):=by
 rw[yq];rfl
theorem aG (c:Nat):∀(r:List Ln) (i x:Nat),agn c (x+uL r r.length) (CZ i x r)=x+uL r (E1 1 c r)
 |[],i,x=>by simp[agn,CZ,E1,T6]
 |(n,l)::r,i,x=>by
  have ih:=aG c r (i+1) (x+n);rw[E1];unfold agn;rw[CZ,om,SA];by_cases h:JB c l=true
  ·rw[if_pos (.inr h),E0];unfold JB at h;rw[uU] at h;cases hf:l.find? λs=>s.course==c with
   |none=>
    obtain⟨s,h1,h2⟩:=h;exact absurd h2 (kn.mp hf s h1)
   |some s=>rfl
  ·rw[if_neg (by rintro (⟨q,_⟩|q);cases q;exact h q),C0];cases hf:l.find? λs=>s.course==c with
   |some s=>
    refine absurd ?_ h;unfold JB;rw[uU];exact⟨s,ui hf,xO (p:=λ(s:Stop)=>s.course==c) hf⟩
   |none=>
    rw[cw,C0];show agn c (x+(n+uL r r.length)) (CZ (i+1) (x+n) r)=x+(n+uL r (E1 1 c r));rw[←uA,ih,uA]
theorem WC (ring c:Nat):∀r:List Ln,E1 ring c r<=r.length
 |[]=>aq _
 |(n,l)::r=>by
  rw[E1,cw];have:=WC ring c r;split<;>omega
def QF (a:Nat) (b:List (Nat×Nat)):Nat:=match b.head? with
 |some q=>min q.2 a
 |none=>a
theorem aH (c:Nat):∀(r:List Ln) (i x:Nat),PcK r->QF (x+uL r (E1 1 c r)) (FF i x r)=x+uL r (E1 2 c r)
 |[],i,x,_=>by simp[QF,FF,E1]
 |(n,l)::r,i,x,k=>by
  have ih:=aH c r (i+1) (x+n) k.tail;by_cases h0:n=0
  ·subst h0;rw[FF,if_pos rfl,E1,E1,if_pos (show((2:Nat)=2/\0=0)\/JB c l=true from .inl ⟨rfl,rfl⟩),E0];show min x _=x+0;omega
  ·rw[FF,if_neg h0,E1,E1];by_cases h:JB c l=true
   ·rw[if_pos (.inr h),if_pos (.inr h),E0];unfold QF;cases hb:(FF (i+1) (x+n) r).head? with
    |none=>rfl
    |some q=>
     have:=GJ (List.mem_of_mem_head? hb);show min q.2 (x+0)=x+0;omega
   ·rw[if_neg (by rintro (⟨q,_⟩|q);cases q;exact h q),if_neg (by rintro (⟨_,q⟩|q);exact h0 q;exact h q),C0,C0];show QF (x+(n+_)) _=x+(n+_);rw[←uA,ih,uA]
theorem QG (ps:List Ln) (i j:Nat):uL ps (i+j)=uL ps i+uL (ps.drop i) j:=by
 unfold uL;rw[List.take_add,dm,xM]
theorem dW {p:LuteTab.Piece} {s:Sk} {ring:Nat} (hm:dU p) (k:PcK (p.map CF)) (hs:s∈LuteSound.struck p) (hr:ring<=2):
 LuteSound.ends p ring s=uL (p.map CF) (mEL ring (p.map CF) s.line s.halt_.course):=by
 unfold LuteSound.struck at hs;rw[←FQ] at hs;have h:=R8 hs;unfold LuteSound.ends mEL;by_cases h0:ring=0
 ·rw[if_pos h0,if_pos h0];exact h.end_
 rw[if_neg h0,if_neg h0];generalize hps:p.map CF=ps at*;have hlt:s.line+1<=ps.length:=h.lt;have YX:(ps.take (s.line+1)).length=s.line+1:=by rw[dk];omega
 have utk:uL (ps.take (s.line+1)) (s.line+1)=uL ps (s.line+1):=by unfold uL;rw[vP,zr]
 have e0:ps=ps.take (s.line+1)++ps.drop (s.line+1):=(iq _ _).symm;have ea:LuteSound.again p s=uL ps (s.line+1)+uL (ps.drop (s.line+1)) (E1 1 s.halt_.course (ps.drop (s.line+1))):=by
  unfold LuteSound.again LuteSound.struck;rw[←FQ,NI,hps, ←aG s.halt_.course (ps.drop (s.line+1)) (s.line+1) (uL ps (s.line+1)), ←QG,fu,show s.line+1+(ps.length - (s.line+1))=ps.length by omega];have e1:(CZ 0 0 ps).find? (λ(q:Sk)=>decide (s.line<q.line)&&q.halt_.course==s.halt_.course)=(CZ (s.line+1) (uL ps (s.line+1)) (ps.drop (s.line+1))).find? λ(q:Sk)=>q.halt_.course==s.halt_.course:=by
   conv=>lhs;rw[e0,HM,YX,utk,pp,pp]
   rw[om];have n1:(CZ 0 0 (ps.take (s.line+1))).find? (λ(q:Sk)=>decide (s.line<q.line)&&q.halt_.course==s.halt_.course)=none:=by
    rw[kn];intro q hq;have:=(R8 hq).lt;rw[YX] at this;rw[decide_eq_false (by omega)];simp
   rw[n1];show zY _ _=_;have:∀(l:List Sk),(∀q∈l,s.line<q.line)->l.find? (λ(q:Sk)=>decide (s.line<q.line)&&q.halt_.course==s.halt_.course)=l.find? λ(q:Sk)=>q.halt_.course==s.halt_.course:=by
    intro l;induction l with
    |nil=>intro _;rfl
    |cons a b ih=>
     intro hh;rw[jf,jf,ih λq hq=>hh q (ao _ hq),decide_eq_true (hh a bb),qj]
   refine this _ λq hq=>?_;obtain⟨j,_,h1,_⟩:=mem_mStr.mp hq;omega
  rw[e1];rfl
 by_cases h1:ring=1
 ·subst h1;rw[if_pos rfl,ea,QG ps (s.line+1)]
 ·have h2:ring=2:=by omega
  subst h2;rw[if_neg h1,QG ps (s.line+1), ←aH s.halt_.course (ps.drop (s.line+1)) (s.line+1) (uL ps (s.line+1)) (k.drop _), ←ea];have e2:(LuteSound.barsFrom 0 0 p).find? (λ(b:Nat×Nat)=>decide (s.line<b.1))=(FF (s.line+1) (uL ps (s.line+1)) (ps.drop (s.line+1))).head?:=by
   rw[←QE p 0 0 hm,hps]
   conv=>lhs;rw[e0,HN,YX,utk,pp,pp]
   rw[om];have n1:(FF 0 0 (ps.take (s.line+1))).find? (λ(b:Nat×Nat)=>decide (s.line<b.1))=none:=by
    rw[kn];intro q hq;have:=GJ hq;rw[YX] at this;simp;omega
   rw[n1];show zY _ _=_;cases hb:FF (s.line+1) (uL ps (s.line+1)) (ps.drop (s.line+1)) with
   |nil=>rfl
   |cons a b=>
    have:=GJ (show a∈FF (s.line+1) (uL ps (s.line+1)) (ps.drop (s.line+1)) by rw[hb];exact bb);rw[jf,decide_eq_true (by omega)];rfl
  rw[e2];rfl
theorem XO {ps:List Ln} {st:List Stop} (h:ps[i]? =some (n,st)):CZ 0 0 (ps.take (i+1))=CZ 0 0 (ps.take i)++st.map λ(s:Stop)=>(⟨i,uL ps i,uL ps i+n,s⟩:Sk):=by
 have hi:=(au.mp h).1;have el:(ps.take i).length=i:=by rw[dk];omega
 have eu:uL (ps.take i) i=uL ps i:=by unfold uL;rw[vP,zr]
 rw[dj,h,HM,el,eu];simp[CZ]
def mPA {α:Type} (lt:α->Bool) (d:α) (r:List α):Nat->Nat->Nat->Nat
 |0,low,_=>low
 |f+1,low,high=>if low<high then(if lt (r.getD ((low+high) / 2) d)=true then mPA lt d r f ((low+high) / 2+1) high else mPA lt d r f low ((low+high) / 2)) else low
def K7 {α:Type} (r:List α) (n:Nat) (x:α):List α:=r.take n++x::r.drop n
def FG {α:Type} [DecidableEq α] (lt:α->α->Bool) (d:α) (r:List α) (x:α):List α:=if x∈r then r else K7 r (mPA (λy=>lt y x) d r (r.length+1) 0 r.length) x
def OX {α:Type} [DecidableEq α] (lt:α->α->Bool) (d:α) (xs:List α):List α:=xs.foldl (FG lt d) []
section
variable {α:Type} [DecidableEq α] {lt:α->α->Bool} {d:α} {S:α->Prop}
structure Ord {α:Type} (lt:α->α->Bool) (S:α->Prop):Prop where
 irr:∀x,S x->lt x x=false
 tr:∀x y z,S x->S y->S z->lt x y=true->lt y z=true->lt x z=true
 tot:∀x y,S x->S y->lt x y=false->lt y x=false->x=y
theorem UD {f:α->Bool} {r:List α}:∀(k low high:Nat),high - low<k->low<=high->high<=r.length->(∀(i:Nat) (y:α),i<low->r[i]? =some y->f y=true)->(∀(i:Nat) (y:α),high<=i->r[i]? =some y->f y=false)->
 (∀(i j:Nat) (x y:α),i<j->r[i]? =some x->r[j]? =some y->f y=true->f x=true)->
 mPA f d r k low high<=r.length/\(∀(i:Nat) (y:α),i<mPA f d r k low high->r[i]? =some y->f y=true)/\∀(i:Nat) (y:α),mPA f d r k low high<=i->r[i]? =some y->f y=false
 |0,low,high,h,_,_,_,_,_=>by omega
 |k+1,low,high,hk,hl,hh,h1,h2,mono=>by
  rw[mPA];by_cases hlt:low<high
  ·rw[if_pos hlt];have hm:(low+high) / 2<r.length:=by omega
   have em:r[(low+high) / 2]? =some (r.getD ((low+high) / 2) d):=by rw[bj,aj hm];rfl
   by_cases hf:f (r.getD ((low+high) / 2) d)=true
   ·rw[if_pos hf];refine UD k _ _ (by omega) (by omega) hh (λi y hi hy=>?_) h2 mono;by_cases e:i=(low+high) / 2
    ·rw[e,em] at hy;cases hy;exact hf
    ·exact mono i _ y _ (by omega) hy em hf
   ·rw[if_neg hf];refine UD k _ _ (by omega) (by omega) (by omega) h1 (λi y hi hy=>?_) mono;by_cases e:i=(low+high) / 2
    ·rw[e,em] at hy;cases hy;exact js.mpr hf
    ·cases q:f y with
     |false=>rfl
     |true=>exact absurd (mono _ i _ y (by omega) em hy q) hf
  ·rw[if_neg hlt];have:low=high:=by omega
   subst this;exact⟨hh,h1,h2⟩
theorem dX (O:Ord lt S) {r:List α} {x:α} (hr:∀y∈r,S y) (hx:S x) (pw:r.Pairwise λa b=>lt a b=true):
 (∀y,y∈FG lt d r x↔y∈r\/y=x)/\(FG lt d r x).Pairwise λa b=>lt a b=true:=by
 unfold FG;by_cases hm:x∈r
 ·rw[if_pos hm];exact⟨λy=>⟨.inl,λq=>q.elim id λe=>e▸hm⟩,pw⟩
 rw[if_neg hm];obtain⟨h1,h2,h3⟩:=UD (f:=λy=>lt y x) (d:=d) (r:=r) (r.length+1) 0 r.length (by omega) (by omega) (aq _) (λi y hi=>by omega) (λi y hi hy=>by
  have:=(au.mp hy).1;omega) (λi j a b hij ha hb q=>by
   have hi:=(au.mp ha)
   have hj:=(au.mp hb)
   have:=ky.mp pw i j hi.1 hj.1 hij;rw[hi.2,hj.2] at this;exact O.tr a b x (hr a (bo ha)) (hr b (bo hb)) hx this q)
 generalize mPA (λy=>lt y x) d r (r.length+1) 0 r.length=n at h1 h2 h3;unfold K7;constructor
 ·intro y;rw[cj,bp];constructor
  ·rintro (q|rfl|q)
   ·exact .inl (lw q)
   ·exact .inr rfl
   ·exact .inl (jc q)
  ·rintro (q|rfl)
   ·rw[←iq n r,cj] at q;exact q.elim .inl λq=>.inr (.inr q)
   ·exact .inr (.inl rfl)
 ·have pw':=pw;rw[←iq n r,sY] at pw';obtain⟨p1,p2,p3⟩:=pw';rw[sY,fx];have lo:∀a∈r.take n,lt a x=true:=λa ha=>by
   obtain⟨i,hi⟩:=lp ha;rw[qy] at hi;split at hi
   ·exact h2 i a (by assumption) hi
   ·cases hi
  have up:∀b∈r.drop n,lt x b=true:=λb hb=>by
   obtain⟨i,hi⟩:=lp hb;rw[uc] at hi;have q:=h3 (n+i) b (by omega) hi;have hb':=jc hb;cases q2:lt x b with
   |true=>rfl
   |false=>exact absurd (O.tot b x (hr b hb') hx q q2▸hb') hm
  refine⟨p1,⟨up,p2⟩,λa ha b hb=>?_⟩;rcases bp.mp hb with rfl|hb
  ·exact lo a ha
  ·exact p3 a ha b hb
theorem SB (O:Ord lt S):∀{xs r:List α},(∀y∈r,S y)->(∀x∈xs,S x)->r.Pairwise (λa b=>lt a b=true)->
 (∀y,y∈xs.foldl (FG lt d) r↔y∈r\/y∈xs)/\(xs.foldl (FG lt d) r).Pairwise λa b=>lt a b=true
 |[],r,_,_,pw=>⟨λy=>by simp,pw⟩
 |x::xs,r,hr,hx,pw=>by
  obtain⟨a1,a2⟩:=dX (d:=d) O hr (hx x bb) pw;obtain⟨b1,b2⟩:=SB O (xs:=xs) (r:=FG lt d r x) (λy hy=>((a1 y).mp hy).elim (hr y) λe=>e▸hx x bb) (λy hy=>hx y (ao _ hy)) a2;refine⟨λy=>?_,b2⟩;rw[xP,b1,a1,bp,or_assoc]
theorem aI (O:Ord lt S) {xs:List α} (hx:∀x∈xs,S x):(∀y,y∈OX lt d xs↔y∈xs)/\(OX lt d xs).Pairwise λa b=>lt a b=true:=by
 obtain⟨h1,h2⟩:=SB (d:=d) O (xs:=xs) (r:=[]) (by simp) hx on;exact⟨λy=>by unfold OX;rw[h1];simp,h2⟩
end
theorem j0 [BEq α] [LawfulBEq α] {lt:α->α->Bool} {S:α->Prop} (O:Ord lt S) {r:List α} (hr:∀y∈r,S y) (pw:r.Pairwise λa b=>lt a b=true) {x y:α} (hx:x∈r) (hy:y∈r):r.idxOf x<r.idxOf y↔lt x y=true:=by
 have lx:=oo hx;have ly:=oo hy;have ex:r[r.idxOf x]=x:=ud lx;have ey:r[r.idxOf y]=y:=ud ly;constructor
 ·intro h;have:=ky.mp pw _ _ lx ly h;rw[ex,ey] at this;exact this
 ·intro h;apply uT;intro q;rcases Nat.lt_or_ge (r.idxOf y) (r.idxOf x) with q'|q'
  ·have:=ky.mp pw _ _ ly lx q';rw[ex,ey] at this;have:=O.tr x y x (hr x hx) (hr y hy) (hr x hx) h this;rw[O.irr x (hr x hx)] at this;cases this
  ·have e:r.idxOf x=r.idxOf y:=by omega
   have:x=y:=by rw[←ex, ←ey];simp only[e]
   subst this;rw[O.irr x (hr x hx)] at h;cases h
theorem OY {R:α->α->Prop}:∀{l1 l2:List α},l1.Perm l2->l1.Pairwise R->l2.Pairwise R->(∀a∈l1,∀b∈l1,R a b->R b a->a=b)->l1=l2
 |[],l2,p,_,_,_=>(List.nil_perm.mp p).symm
 |a::l1,l2,p,h1,h2,anti=>by
  cases l2 with
  |nil=>exact absurd (p.symm) (by simp)
  |cons b l2=>
   obtain⟨a1,a2⟩:=fx.mp h1;obtain⟨b1,b2⟩:=fx.mp h2;have e:a=b:=by
    have hb:b∈a::l1:=p.mem_iff.mpr bb;have ha:a∈b::l2:=p.mem_iff.mp bb;rcases bp.mp hb with hb'|hb'
    ·exact hb'.symm
    ·rcases bp.mp ha with ha'|ha'
     ·exact ha'
     ·exact anti a bb b hb (a1 b hb') (b1 a ha')
   subst e;rw[OY (p.cons_inv) a2 b2 λx hx y hy=>anti x (ao _ hx) y (ao _ hy)]
end Lt
namespace Lt
variable {f a C CR CT r ta CI CL CN:Addr} {fd:du} {X:Cx} {x:List Int} {i n e p q:Nat} {pos:Pos} {z dz fz:Str} {xs:List V} {E:XK} {H H' H1:Hp} {cs t ci ct:List UInt8} {α β:Type} {Q:VK} {ls fr co ba:List (List Int)} {P:aw} {w:bv} {h:Heap} {ps:List Str}
section
variable {α:Type} [DecidableEq α] {lt:α->α->Bool} {d:α}
theorem XQ {r:List α} {x y:α}:y∈K7 r n x↔y∈r\/y=x:=by
 unfold K7;rw[cj,bp];constructor
 ·rintro (q|rfl|q)
  ·exact .inl (lw q)
  ·exact .inr rfl
  ·exact .inl (jc q)
 ·rintro (q|rfl)
  ·rw[←iq n r,cj] at q;exact q.elim .inl λq=>.inr (.inr q)
  ·exact .inr (.inl rfl)
theorem mIns_mem {r:List α} {x y:α}:y∈FG lt d r x↔y∈r\/y=x:=by
 unfold FG;by_cases hm:x∈r
 ·rw[if_pos hm];exact⟨.inl,λq=>q.elim id λe=>e▸hm⟩
 ·rw[if_neg hm,XQ]
theorem UE {r:List α} {x:α} (h:r.Nodup):(FG lt d r x).Nodup:=by
 unfold FG;by_cases hm:x∈r
 ·rw[if_pos hm];exact h
 ·rw[if_neg hm];unfold K7;have h':=h;rw[←iq (mPA (λy=>lt y x) d r (r.length+1) 0 r.length) r,wO] at h';obtain⟨p1,p2,p3⟩:=h';rw[wO];refine⟨p1,qr.mpr ⟨λq=>hm (jc q),p2⟩,λa ha b hb e=>?_⟩;rcases bp.mp hb with rfl|hb
  ·exact hm (e▸lw ha)
  ·exact p3 a ha b hb e
theorem UF {f:α->Bool} {r:List α}:∀(k low high:Nat),low<=high->high<=r.length->mPA f d r k low high<=r.length
 |0,low,high,h1,h2=>by rw[mPA];omega
 |k+1,low,high,h1,h2=>by
  rw[mPA];split
  ·split
   ·exact UF k _ _ (by omega) h2
   ·exact UF k _ _ (by omega) (by omega)
  ·omega
theorem aJ {r:List α} {x:α}:(FG lt d r x).length<=r.length+1:=by
 unfold FG;split
 ·omega
 ·unfold K7;rw[bq,cw,dk,fu];omega
theorem OZ {xs r:List α} (h:r.Nodup):(xs.foldl (FG lt d) r).Nodup:=by
 induction xs generalizing r with
 |nil=>exact h
 |cons x xs ih=>exact ih (UE h)
theorem SC {xs r:List α} {y:α}:y∈xs.foldl (FG lt d) r↔y∈r\/y∈xs:=by
 induction xs generalizing r with
 |nil=>simp
 |cons x xs ih=>rw[xP,ih,mIns_mem,bp,or_assoc]
theorem rise_mem {xs:List α} {y:α}:y∈OX lt d xs↔y∈xs:=by
 unfold OX;rw[SC];simp
end
def InK (t:Lute.Inst):Prop:=(∀x∈t.frets,0<x.d)/\(∀x∈t.courses,0<x.d)/\∀x∈t.basses,0<x.d
theorem aK {l:List Iv} (h:∀x∈l,0<x.d) (i:Nat):0<(l.getD i Lute.unison).d:=by
 rw[bj];cases e:l[i]? with
 |none=>exact zK
 |some x=>exact h x (bo e)
theorem DJ {t:Lute.Inst} (k:InK t) (s:Sk):Lw (LuteSound.tone t s):=by
 unfold LuteSound.tone Lute.Inst.sounds;refine dO (aK (λx hx=>?_) _) ?_
 ·rcases cj.mp hx with hx|hx
  ·exact k.2.1 x hx
  ·exact k.2.2 x hx
 ·unfold Lute.Inst.fret;split
  ·exact zK
  ·exact aK k.1 _
section
variable {t:Lute.Inst}
theorem IA (a b:Sk):LuteSound.first t a b=true↔a.begins<b.begins\/(a.begins=b.begins/\((LuteSound.tone t a).lt (LuteSound.tone t b)=true\/(LuteSound.tone t a=LuteSound.tone t b/\a.halt_.course<b.halt_.course))):=by
 unfold LuteSound.first;simp
theorem SD (k:InK t) {a b:Sk} (h:LuteSound.first t a b=true):LuteSound.first t b a=false:=by
 rw[IA] at h;rw[js];intro q;have q:=(IA b a).mp q;have la:=DJ k a;have lb:=DJ k b;rcases h with h|⟨e,h|⟨e2,h⟩⟩
 ·rcases q with q|⟨q,_⟩<;>omega
 ·rcases q with q|⟨_,q|⟨q,_⟩⟩
  ·omega
  ·rw[Z3 la.1 lb.1 h] at q;cases q
  ·rw[q,lt_irrefl la.1] at h;cases h
 ·rcases q with q|⟨_,q|⟨_,q⟩⟩
  ·omega
  ·rw[e2,lt_irrefl lb.1] at q;cases q
  ·omega
theorem SE (k:InK t) {a b c:Sk} (h1:LuteSound.first t a b=true) (h2:LuteSound.first t b c=true):LuteSound.first t a c=true:=by
 rw[IA] at*;have la:=DJ k a;have lb:=DJ k b;have lc:=DJ k c;rcases h1 with h1|⟨e1,h1⟩
 ·rcases h2 with h2|⟨e2,_⟩<;>exact .inl (by omega)
 ·rcases h2 with h2|⟨e2,h2⟩
  ·exact .inl (by omega)
  ·refine .inr ⟨e1.trans e2,?_⟩;rcases h1 with h1|⟨t1,h1⟩
   ·rcases h2 with h2|⟨t2,h2⟩
    ·exact .inl (lt_trans la.1 lb.1 lc.1 h1 h2)
    ·exact .inl (t2▸h1)
   ·rcases h2 with h2|⟨t2,h2⟩
    ·exact .inl (t1▸h2)
    ·exact .inr ⟨t1.trans t2,by omega⟩
theorem HP (a:Sk):∀l:List Sk,(LuteSound.insert t a l).Perm (a::l)
 |[]=>vS _
 |b::r=>by
  rw[LuteSound.insert];split
  ·exact vS _
  ·exact((HP a r).cons b).trans (List.Perm.swap a b r)
theorem NM (p:LuteTab.Piece):(LuteSound.notes t p).Perm (LuteSound.struck p):=by
 unfold LuteSound.notes;induction LuteSound.struck p with
 |nil=>exact vS _
 |cons a l ih=>exact(HP a _).trans (ih.cons a)
theorem O0 (k:InK t) (a:Sk):∀l:List Sk,l.Pairwise (λx y=>LuteSound.first t y x=false)->(LuteSound.insert t a l).Pairwise λx y=>LuteSound.first t y x=false
 |[],_=>List.pairwise_singleton _ _
 |b::r,h=>by
  obtain⟨h1,h2⟩:=fx.mp h;rw[LuteSound.insert];by_cases hf:LuteSound.first t a b=true
  ·rw[if_pos hf];refine fx.mpr ⟨λx hx=>?_,h⟩;rcases bp.mp hx with rfl|hx
   ·exact SD k hf
   ·rw[js];intro q;have:=SE k q hf;rw[h1 x hx] at this;cases this
  ·rw[if_neg hf];refine fx.mpr ⟨λx hx=>?_,O0 k a r h2⟩;rcases bp.mp ((HP a r).mem_iff.mp hx) with rfl|hx
   ·exact js.mpr hf
   ·exact h1 x hx
theorem aL (k:InK t) (p:LuteTab.Piece):(LuteSound.notes t p).Pairwise λx y=>LuteSound.first t y x=false:=by
 unfold LuteSound.notes;induction LuteSound.struck p with
 |nil=>exact on
 |cons a l ih=>exact O0 k a _ ih
def aM (t:Lute.Inst) (p:LuteTab.Piece) (hg:Sk->Nat):Prop:=∀a∈LuteSound.struck p,∀b∈LuteSound.struck p,(hg a<hg b↔(LuteSound.tone t a).lt (LuteSound.tone t b)=true)
theorem pQ (k:InK t) {p:LuteTab.Piece} {hg:Sk->Nat} (h:aM t p hg) {a b:Sk} (ha:a∈LuteSound.struck p) (hb:b∈LuteSound.struck p):hg a=hg b↔LuteSound.tone t a=LuteSound.tone t b:=by
 constructor
 ·intro e;refine RZ (DJ k a) (DJ k b) ?_ ?_
  ·rw[js];intro q;have:=(h a ha b hb).mpr q;omega
  ·rw[js];intro q;have:=(h b hb a ha).mpr q;omega
 ·intro e;have h1:¬hg a<hg b:=λq=>by
   have:=(h a ha b hb).mp q;rw[e,lt_irrefl (DJ k b).1] at this;cases this
  have h2:¬hg b<hg a:=λq=>by
   have:=(h b hb a ha).mp q;rw[e,lt_irrefl (DJ k b).1] at this;cases this
  omega
def kLt (hg:Sk->Nat) (a b:Sk):Prop:=a.begins<b.begins\/(a.begins=b.begins/\(hg a<hg b\/(hg a=hg b/\a.halt_.course<b.halt_.course)))
theorem QH (k:InK t) {p:LuteTab.Piece} {hg:Sk->Nat} (h:aM t p hg) {a b:Sk} (ha:a∈LuteSound.struck p) (hb:b∈LuteSound.struck p):kLt hg a b↔LuteSound.first t a b=true:=by
 rw[IA,kLt,h a ha b hb,pQ k h ha hb]
theorem UG (k:InK t) {p:LuteTab.Piece} (kp:PcK (p.map CF)) {hg:Sk->Nat} (h:aM t p hg) {zs:List Sk} (pm:zs.Perm (LuteSound.struck p)) (pw:zs.Pairwise λa b=>¬kLt hg b a):zs=LuteSound.notes t p:=by
 refine OY (pm.trans (NM p).symm) (R:=λx y=>LuteSound.first t y x=false) ?_ (aL k p) ?_
 ·refine yZ (λ{a b} ha hb q=>?_) pw;rw[js];exact λz=>q ((QH k h (pm.mem_iff.mp hb) (pm.mem_iff.mp ha)).mpr z)
 ·intro a ha b hb h1 h2;have ha:=pm.mem_iff.mp ha;have hb:=pm.mem_iff.mp hb;have n1:¬kLt hg b a:=λz=>by have:=(QH k h hb ha).mp z;rw[h1] at this;cases this
  have n2:¬kLt hg a b:=λz=>by have:=(QH k h ha hb).mp z;rw[h2] at this;cases this
  unfold kLt at n1 n2;unfold LuteSound.struck at ha hb;rw[←FQ] at ha hb;exact jB kp (R8 ha) (R8 hb) (by omega) (by omega)
end
open PySem PySem.Spec PyProof.Rows L2
def ro (x:Iv):List Int:=LuteD.rowOf x
theorem O1 (x:Iv):ro x=[x.a,x.b,x.c,x.e,(x.d:Int)]:=rfl
theorem pR:ro Lute.unison=un5:=rfl
theorem r0 (a b c e d:Int):BX [a,b,c,e,d]=nk d.natAbs (nk a.natAbs (nk b.natAbs (nk c.natAbs e.natAbs))):=by
 unfold BX GV;simp only[List.foldl,pj,rb,Nat.gcd_zero_left,Int.natAbs_zero];rw[wJ _ d.natAbs,y0,y0]
theorem aN (x:Iv):BX (ro x)=x.common:=by
 rw[O1,r0];rfl
theorem NN (z:Int):Lute.within z=decide (z.natAbs<=99):=by
 unfold Lute.within Lute.MOST;rw[qp];simp;omega
theorem fV (x:Iv):F7 (ro x)=x.ok:=by
 unfold F7 Lute.Iv.ok;rw[aN];show((([x.a,x.b,x.c,x.e]:List Int).all λp=>decide (p.natAbs<=99))&&(decide ((1:Int)<=(x.d:Int))&&decide ((x.d:Int)<=24)&&decide (x.common=1)))=_;simp only[List.all,NN,y3];have e1:decide ((1:Int)<=(x.d:Int))=decide (1<=x.d):=by rw[decide_eq_decide];omega
 have e2:decide ((x.d:Int)<=24)=decide (x.d<=Lute.PARTS):=by rw[decide_eq_decide];show _↔x.d<=24;omega
 have e3:decide (x.common=1)=(x.common==1):=rfl;rw[e1,e2,e3];simp only[Bool.and_assoc]
theorem aO (x y:Iv):BU (ro x) (ro y)=ro (x.plus y):=by
 have e:EC (ro x) (ro y)=ro ⟨x.a*y.d+y.a*x.d,x.b*y.d+y.b*x.d,x.c*y.d+y.c*x.d,x.e*y.d+y.e*x.d,x.d*y.d⟩:=by
  rw[O1,O1,O1];unfold EC;show[LF _ _ 0,LF _ _ 1,LF _ _ 2,LF _ _ 3]++_=_;simp only[LF,List.getD_cons_zero,List.getD_cons_succ,ph,List.nil_append];congr 5;all_goals simp
 unfold BU;rw[e,aN];unfold Lute.Iv.plus Lute.Iv.low;simp only[O1,List.map];congr 5
theorem K8 (x y:Iv) (hx:0<x.d) (hy:0<y.d):BH (ro x) (ro y)=x.lt y:=by
 unfold Lute.Iv.lt Lute.Iv.less Lute.Iv.plus;have hg:∀z:Iv,0<z.d->0<z.common:=λz hz=>uS _ hz;show _=(Lute.Iv.low _).down;rw[RX _ (hg _ (lu hx hy))];unfold Lute.Iv.down Lute.Iv.below Lute.Iv.above Lute.Iv.back BH;have pA:∀k (p:Int),pw (ro x) (ro y) k=p->True:=λ_ _ _=>iz;have e0:pw (ro x) (ro y) 0=y.a*x.d - x.a*y.d:=rfl;have e1:pw (ro x) (ro y) 1=y.b*x.d - x.b*y.d:=rfl;have e2:pw (ro x) (ro y) 2=y.c*x.d - x.c*y.d:=rfl;have e3:pw (ro x) (ro y) 3=y.e*x.d - x.e*y.d:=rfl;have eA:IK (ro x) (ro y) 4=((2 ^ (y.a*x.d - x.a*y.d).toNat*3 ^ (y.b*x.d - x.b*y.d).toNat*5 ^ (y.c*x.d - x.c*y.d).toNat*7 ^ (y.e*x.d - x.e*y.d).toNat:Nat):Int):=by
  have st:∀(q z b:Int) (p:Nat),(p:Int)=b->(if 0<z then q*b ^ z.toNat else q)=q*((p ^ z.toNat:Nat):Int):=λq z b p hb=>by
   by_cases h:0<z
   ·rw[if_pos h, ←hb,xQ]
   ·have:z.toNat=0:=by omega
    rw[if_neg h,this,vf];simp
  simp only[IK,e0,e1,e2,e3];rw[st _ _ (prm.getD 0 0) 2 rfl,st _ _ (prm.getD 1 0) 3 rfl,st _ _ (prm.getD 2 0) 5 rfl,st _ _ (prm.getD 3 0) 7 rfl];simp only[tD,xC]
 have eB:IL (ro x) (ro y) 4=((2 ^ (x.a*y.d - y.a*x.d).toNat*3 ^ (x.b*y.d - y.b*x.d).toNat*5 ^ (x.c*y.d - y.c*x.d).toNat*7 ^ (x.e*y.d - y.e*x.d).toNat:Nat):Int):=by
  have st:∀(q z v b:Int) (p:Nat),(p:Int)=b->v= -z->(if 0<z then q else q*b ^ (-z).toNat)=q*((p ^ v.toNat:Nat):Int):=λq z v b p hb hv=>by
   subst hv;by_cases h:0<z
   ·have:(-z).toNat=0:=by omega
    rw[if_pos h,this,vf];simp
   ·rw[if_neg h, ←hb,xQ]
  simp only[IL,e0,e1,e2,e3];rw[st _ _ (x.a*y.d - y.a*x.d) (prm.getD 0 0) 2 rfl (by omega),st _ _ (x.b*y.d - y.b*x.d) (prm.getD 1 0) 3 rfl (by omega),st _ _ (x.c*y.d - y.c*x.d) (prm.getD 2 0) 5 rfl (by omega),st _ _ (x.e*y.d - y.e*x.d) (prm.getD 3 0) 7 rfl (by omega)];simp only[tD,xC]
 rw[eA,eB,decide_eq_decide,Int.ofNat_lt];have n:∀u v p q:Int,u*q+ -v*p=u*q - v*p:=λu v p q=>by rw[vQ];omega
 have m:∀u v p q:Int, -(u*q+ -v*p)=v*p - u*q:=λu v p q=>by rw[vQ];omega
 simp only[m];simp only[n]
def fg {α:Type}:Except Nat (α×Nat×List UInt8)->Option (α×List UInt8)
 | .ok (a,_,t)=>some (a,t)
 | .error _=>none
def fe {α:Type}:Except Nat α->Option α
 | .ok a=>some a
 | .error _=>none
def dz0:Str:="0123456789"
def fz0:Str:="2357"
theorem NO {p:UInt8->Prop} (h:∀n,n<256->p (uv n)) (c:UInt8):p c:=by
 have:=h c.toNat (yr c)
 rwa [UInt8.ofNat_toNat] at this
theorem IB (c:UInt8):BP dz0.cps.toList ((c.toNat:Nat):Int)=Lute.digit c:=NO (p:=λc=>BP dz0.cps.toList ((c.toNat:Nat):Int)=Lute.digit c) (by decide +kernel) c
theorem dY (c:UInt8):BP fz0.cps.toList ((c.toNat:Nat):Int)=[(50:UInt8),51,53,55].idxOf? c:=NO (p:=λc=>BP fz0.cps.toList ((c.toNat:Nat):Int)=[(50:UInt8),51,53,55].idxOf? c) (by decide +kernel) c
theorem O2 (c x:UInt8):(c.toNat=x.toNat)↔c=x:=xK
theorem CO {x:UInt8} (hz:z.cps.toList=[x.toNat]) (c:UInt8) (t:List UInt8):see z (c::t)=decide (c=x):=by
 show(BP z.cps.toList ((c.toNat:Nat):Int)).isSome=_;rw[hz,VN];by_cases h:c=x
 ·rw[if_pos (by rw[h]),decide_eq_true h];rfl
 ·rw[if_neg (λq=>h ((O2 c x).mp q)),decide_eq_false h];rfl
theorem JV (z:Str):see z []=false:=rfl
theorem IC:∀(bs:List UInt8) (p:Nat) (l:List UInt8),fg (Lute.want bs p l)=sk (bs.map (·.toNat)) l
 |[],p,l=>rfl
 |x::bs,p,[]=>rfl
 |x::bs,p,c::t=>by
  rw[Lute.want,de,sk];by_cases h:c=x
  ·rw[if_pos h,if_pos (by rw[h]),IC]
  ·rw[if_neg h,if_neg (λq=>h ((O2 c x).mp q))];rfl
theorem FJ {x:UInt8} (hz:z.cps.toList=[x.toNat]) (c:UInt8) (t:List UInt8):sk z.cps.toList (c::t)=if c=x then some ((),t) else none:=by
 rw[hz,sk];by_cases h:c=x
 ·rw[if_pos h,if_pos (by rw[h])];rfl
 ·rw[if_neg h,if_neg (λq=>h ((O2 c x).mp q))]
theorem QI (most:Nat):∀(l:List UInt8) (count v p:Nat),v≠0->count<=most->GZ dz0 most count v l=fg (Lute.moreDigits (most - count) v p l)
 |[],count,v,p,hv,hc=>by rw[GZ,Lute.moreDigits];rfl
 |c::t,count,v,p,hv,hc=>by
  rw[GZ,IB,Lute.moreDigits.eq_def];cases hd:Lute.digit c with
  |none=>simp only[hd];rfl
  |some d=>
   simp only[hd];by_cases hq:count=most
   ·rw[if_pos (.inl hq),hq,wP];rfl
   ·rw[if_neg (by rintro (q|q);exact hq q;exact hv q)];obtain⟨m,hm⟩:∃m,most - count=m+1:=⟨most - count - 1,by omega⟩
    rw[hm];have:=QI most t (count+1) (10*v+d) (p+1) (by omega) (by omega);rw[this,show most - (count+1)=m by omega]
theorem KU (p:Nat) (l:List UInt8):wn dz0 4 l=fg (Lute.number p l):=by
 cases l with
 |nil=>rfl
 |cons c t=>
  unfold wn;rw[BQ,IB,Lute.number.eq_def];dsimp only;cases hd:Lute.digit c with
  |none=>rfl
  |some d=>
   show GZ dz0 4 1 d t=_;cases d with
   |zero=>
    cases t with
    |nil=>rfl
    |cons y u=>
     rw[GZ,IB];cases hy:Lute.digit y with
     |none=>simp[hy,fg]
     |some e=>simp[hy,fg]
   |succ d=>exact QI 4 t 1 (d+1) (p+1) (by omega) (by omega)
theorem dZ (p:Nat) (l:List UInt8):(if see "0" l=true then none else wn dz0 7 l)=fg (Lute.longNumber p l):=by
 cases l with
 |nil=>rfl
 |cons c t=>
  rw[CO (z:="0") (x:=48) rfl];unfold wn;rw[BQ,IB,Lute.longNumber];cases hd:Lute.digit c with
  |none=>
   by_cases h:c=48
   ·subst h;exact absurd hd (by decide)
   ·rw[if_neg (by simp[h])];rfl
  |some d=>
   have h48:c=48↔d=0:=by
    unfold Lute.digit at hd;split at hd
    ·cases hd;rename_i h;have h1:48<=c.toNat:=h.1;rw[←O2];show c.toNat=48↔_;omega
    ·cases hd
   cases d with
   |zero=>rw[if_pos (by simp[h48.mpr rfl])];rfl
   |succ d=>
    rw[if_neg (by simp;intro q;exact absurd (h48.mp q) (by omega))];exact QI 7 t 1 (d+1) (p+1) (by omega) (by omega)
theorem XR (p:Nat) (l:List UInt8):mSg dz0 l=fg (Lute.signed p l):=by
 cases l with
 |nil=>rfl
 |cons c t=>
  unfold mSg;rw[CO (z:="-") (x:=45) rfl,Lute.signed.eq_def];dsimp only;by_cases h:c=45
  ·rw[if_pos (by simp[h]),if_pos h,FJ (z:="-") (x:=45) rfl,if_pos h];show(if see "0" t=true then none else match wn dz0 4 t with
    |none=>none
    |some (n,u)=>some (-(n:Int),u))=_
   cases t with
   |nil=>rfl
   |cons y u=>
    rw[CO (z:="0") (x:=48) rfl];by_cases h2:y=48
    ·subst h2;rfl
    ·rw[if_neg (by simp[h2])];have e:(match (y::u:List UInt8) with
      |48::_=>zt (p+1)
      |_=>match Lute.number (p+1) (y::u) with
       | .error e=>.error e
       | .ok (n,q,v)=>.ok (-((n:Nat):Int),q,v))=(match Lute.number (p+1) (y::u) with
       | .error e=>(.error e:Lute.Rd Int)
       | .ok (n,q,v)=>.ok (-((n:Nat):Int),q,v)):=by
      split
      ·rename_i q;cases q;exact absurd rfl h2
      ·rfl
     refine sX ?_ (congrArg fg e).symm;rw[KU (p+1)];cases Lute.number (p+1) (y::u) with
     |error e=>rfl
     |ok x=>obtain⟨n,q,v⟩:=x;rfl
  ·rw[if_neg (by simp[h]),if_neg h,KU p];cases Lute.number p (c::t) with
   |error e=>rfl
   |ok x=>obtain⟨n,q,v⟩:=x;rfl
def XS:Except Nat ((Nat×Option (Int×Nat))×Nat×List UInt8)->Option (List Int×List UInt8)
 | .error _=>none
 | .ok ((_,none),_,_)=>none
 | .ok ((_,some (n,d)),_,u)=>some ([n,(d:Int)],u)
theorem j1 (p k:Nat) (c:UInt8) (r:List UInt8) (hk:[(50:UInt8),51,53,55].idxOf? c=some k):mPw dz0 r=XS (Lute.factorAt p (c::r)):=by
 rw[Lute.factorAt.eq_def];dsimp only;rw[hk];dsimp only;cases r with
 |nil=>rfl
 |cons y u=>
  unfold mPw;rw[CO (z:="^") (x:=94) rfl];by_cases h:y=94
  ·subst h;rw[if_pos (by simp),FJ (z:="^") (x:=94) rfl,if_pos rfl];show(match mSg dz0 u with
    |none=>none
    |some (n,u)=>_)=XS (match Lute.signed (p+1+1) u with
    | .error e=>.error e
    | .ok (n,q,v)=>match v with
      |47::w=>(match Lute.number (q+1) w with
       | .error e=>.error e
       | .ok (d,z,t)=>.ok ((k,if 2<=d/\nk n.natAbs d=1 then some (n,d) else none),z,t))
      |_=>.ok ((k,if n=0\/n=1 then none else some (n,1)),q,v))
   rw[XR (p+1+1)];cases hs:Lute.signed (p+1+1) u with
   |error e=>rfl
   |ok x=>
    obtain⟨n,q,v⟩:=x;show(if see "/" v=true then _ else _)=_;cases v with
    |nil=>
     rw[if_neg (by decide)];show _=XS (.ok ((k,if n=0\/n=1 then none else some (n,1)),q,[]));by_cases hn:n=0\/n=1
     ·rw[if_pos hn,if_pos hn];rfl
     ·rw[if_neg hn,if_neg hn];rfl
    |cons z w=>
     rw[CO (z:="/") (x:=47) rfl];by_cases h2:z=47
     ·subst h2;rw[if_pos (by simp),FJ (z:="/") (x:=47) rfl,if_pos rfl];show(match wn dz0 4 w with
       |none=>none
       |some (d,y)=>_)=XS (match Lute.number (q+1) w with
        | .error e=>.error e
        | .ok (d,z,t)=>.ok ((k,if 2<=d/\nk n.natAbs d=1 then some (n,d) else none),z,t))
      rw[KU (q+1)];cases hw:Lute.number (q+1) w with
      |error e=>rfl
      |ok x=>
       obtain⟨d,z',t⟩:=x;show(if d<2\/1<pj n d then none else some ([n,(d:Int)],t))=XS (.ok ((k,if 2<=d/\nk n.natAbs d=1 then some (n,d) else none),z',t));have eg:pj n d=nk n.natAbs d:=rfl;by_cases hc:2<=d/\nk n.natAbs d=1
       ·rw[if_pos hc,if_neg (by rw[eg];omega)];rfl
       ·rw[if_neg hc];have hp:0<d->0<nk n.natAbs d:=λhd=>Nat.gcd_pos_of_pos_right _ hd;rw[if_pos (by rw[eg];by_cases h3:d<2;exact .inl h3;right;have:=hp (by omega);omega)];rfl
     ·rw[if_neg (by simp[h2])];have e:(match (z::w:List UInt8) with
       |47::w=>(match Lute.number (q+1) w with
        | .error e=>.error e
        | .ok (d,z,t)=>.ok ((k,if 2<=d/\nk n.natAbs d=1 then some (n,d) else none),z,t))
       |_=>.ok ((k,if n=0\/n=1 then none else some (n,1)),q,z::w))=(.ok ((k,if n=0\/n=1 then none else some (n,1)),q,z::w):Lute.Rd (Nat×Option (Int×Nat))):=by
       split
       ·rename_i q;cases q;exact absurd rfl h2
       ·rfl
      refine sX ?_ (congrArg XS e).symm;by_cases hn:n=0\/n=1
      ·rw[if_pos hn,if_pos hn];rfl
      ·rw[if_neg hn,if_neg hn];rfl
  ·rw[if_neg (by simp[h])];split
   ·rename_i q;cases q;exact absurd rfl h
   ·rfl
def chk:Option (List Int×List UInt8)->Option (List Int)
 |none=>none
 |some (y,_)=>if F7 y=true then some y else none
theorem j2 (k:Nat) (n:Int) (d:Nat) (hk:k<4):LI k n (d:Int)=ro (Lute.powerOf k n d):=by
 match k,hk with
 |0,_=>rfl
 |1,_=>rfl
 |2,_=>rfl
 |3,_=>rfl
theorem UH {c:UInt8} {r:List UInt8} {k:Nat} {w:Option (Int×Nat)} {u:List UInt8} (h:Lute.factorAt p (c::r)= .ok ((k,w),q,u)):[(50:UInt8),51,53,55].idxOf? c=some k:=by
 rw[Lute.factorAt.eq_def] at h;dsimp only at h;cases hk:[(50:UInt8),51,53,55].idxOf? c with
 |none=>rw[hk] at h;cases h
 |some j=>
  rw[hk] at h;dsimp only at h;split at h
  ·split at h
   ·cases h
   ·split at h
    ·split at h
     ·cases h
     ·cases h;rfl
    ·cases h;rfl
  ·cases h;rfl
theorem aP:∀(f least p:Nat) (x:Iv) (l:List UInt8),chk (mFc dz0 fz0 f least (ro x) l)=(fe (Lute.factorsAt f least x p l)).map ro
 |0,least,p,x,l=>rfl
 |f+1,least,p,x,l=>by
  rw[mFc,Lute.factorsAt];cases l with
  |nil=>rfl
  |cons c r=>
   rw[BQ,dY];cases hk:[(50:UInt8),51,53,55].idxOf? c with
   |none=>
    have e:Lute.factorAt p (c::r)= .error p:=by
     rw[Lute.factorAt.eq_def];dsimp only;rw[hk]
    rw[e];rfl
   |some k=>
    show chk (match mPw dz0 r with
     |none=>none
     |some (x_1,u)=>_)=_
    have hk4:k<4:=by
     have:=(uV.mp hk).1;simpa using this
    rw[j1 p k c r hk];cases hfa:Lute.factorAt p (c::r) with
    |error e=>rfl
    |ok y=>
     obtain⟨⟨k',w⟩,q,u⟩:=y;have ek:k'=k:=by have:=UH hfa;rw[hk] at this;exact(cp this).symm
     subst ek;cases w with
     |none=>
      dsimp only;by_cases hl:k'<least
      ·rw[if_pos hl];rfl
      ·rw[if_neg hl];rfl
     |some nd=>
      obtain⟨n,d⟩:=nd;show chk (if k'<least then none else _)=_;dsimp only;by_cases hl:k'<least
      ·rw[if_pos hl,if_pos hl];rfl
      ·rw[if_neg hl,if_neg hl];have e1:BU (LI k' (([n,(d:Int)]:List Int).getD 0 0) (([n,(d:Int)]:List Int).getD 1 0)) (ro x)=ro (x.plus (Lute.powerOf k' n d)):=by
        show BU (LI k' n (d:Int)) (ro x)=_;rw[j2 k' n d hk4,aO,HY]
       rw[e1];cases u with
       |nil=>
        show(if F7 (ro (x.plus (Lute.powerOf k' n d)))=true then some (ro (x.plus (Lute.powerOf k' n d))) else none)=(fe (if(x.plus (Lute.powerOf k' n d)).ok=true then Except.ok (x.plus (Lute.powerOf k' n d)) else zt q)).map ro;rw[fV];by_cases hy:(x.plus (Lute.powerOf k' n d)).ok=true
        ·rw[if_pos hy,if_pos hy];rfl
        ·rw[if_neg hy,if_neg hy];rfl
       |cons z v=>
        rw[if_neg (by simp),FJ (z:=" ") (x:=32) rfl];dsimp only;by_cases hz:z=32
        ·rw[if_pos hz,if_pos hz];exact aP f (k'+1) (q+1) _ v
        ·rw[if_neg hz,if_neg hz];rfl
theorem aQ (l:List UInt8):mIv dz0 fz0 l=(fe (Lute.read l)).map ro:=by
 have e2:∀l,(match RV dz0 fz0 l with
  |none=>none
  |some (x,_)=>if F7 x=true then some x else none)=(fe (Lute.factorsAt (l.length+1) 0 Lute.unison 0 l)).map ro:=λl=>by
  have:=aP (l.length+1) 0 0 Lute.unison l;rw[pR] at this;rw[←this];unfold RV;cases mFc dz0 fz0 (l.length+1) 0 un5 l with
  |none=>rfl
  |some y=>obtain⟨y,t⟩:=y;rfl
 unfold mIv;cases l with
 |nil=>exact e2 []
 |cons c r=>
  rw[CO (z:="1") (x:=49) rfl];by_cases h:c=49
  ·subst h;rw[if_pos (by simp)];unfold mUn;rw[FJ (z:="1") (x:=49) rfl,if_pos rfl];cases r with
   |nil=>rfl
   |cons y u=>rfl
  ·rw[if_neg (by simp[h])];refine(e2 (c::r)).trans ?_;have:Lute.read (c::r)=Lute.factorsAt ((c::r).length+1) 0 Lute.unison 0 (c::r):=by
    unfold Lute.read;split
    ·rename_i q;cases q;exact absurd rfl h
    ·rfl
   rw[this]
theorem aR {b:List UInt8} {x:Iv} (h:Lute.read b= .ok x):0<x.d:=by
 have e:mIv dz0 fz0 b=some (ro x):=by rw[aQ,h];rfl
 have:=(ZU e).2.2.1;rw[O1] at this;have h2:(1:Int)<=(x.d:Int):=this;omega
def aS (g:List Int->Bool) (l:List UInt8):Option (List Int×List UInt8):=match sk (" ":Str).cps.toList l with
 |none=>none
 |some (_,t)=>match C5 dz0 fz0 t with
  |none=>none
  |some (x,u)=>if g x=true then(match sk ("\n":Str).cps.toList u with
   |none=>none
   |some (_,v)=>some (x,v)) else none
def rx:Option (Iv×List UInt8)->Option (List Int×List UInt8)
 |none=>none
 |some (x,t)=>some (ro x,t)
theorem j3 (g:List Int->Bool) (fine:Iv->Bool) (h:∀x:Iv,0<x.d->g (ro x)=fine x) (p:Nat) (l:List UInt8):aS g l=rx (fg (Lute.ivLine fine p l)):=by
 unfold aS Lute.ivLine;have e1:sk (" ":Str).cps.toList l=fg (Lute.want [32] p l):=(IC [32] p l).symm;rw[e1];cases hw:Lute.want [32] p l with
 |error e=>rfl
 |ok y=>
  obtain⟨_,q,u⟩:=y;show(match C5 dz0 fz0 u with
   |none=>none
   |some (x,u)=>_)=rx (fg (match Lute.read (u.takeWhile λ(c:UInt8)=>c != 10) with
   | .error e=>.error (q+e)
   | .ok x=>if fine x=false then .error q else match Lute.want [10] (q+(u.takeWhile λ(c:UInt8)=>c != 10).length) (u.drop (u.takeWhile λ(c:UInt8)=>c != 10).length) with
     | .error e=>.error e
     | .ok (_,z,v)=>.ok (x,z,v)))
  have e2:u.takeWhile lf=u.takeWhile λ(c:UInt8)=>c != 10:=rfl;unfold C5;rw[e2,aQ];generalize hb:(u.takeWhile λ(c:UInt8)=>c != 10)=b;cases hr:Lute.read b with
  |error e=>rfl
  |ok x=>
   show(if g (ro x)=true then _ else _)=_;rw[h x (aR hr)];cases hf:fine x with
   |false=>
    dsimp only;rw[if_pos hf];rfl
   |true=>
    rw[if_pos rfl];dsimp only;rw[if_neg (by rw[hf];decide)];have e3:sk ("\n":Str).cps.toList (u.drop b.length)=fg (Lute.want [10] (q+b.length) (u.drop b.length)):=(IC [10] _ _).symm;rw[e3];cases Lute.want [10] (q+b.length) (u.drop b.length) with
    |error e=>rfl
    |ok y=>obtain⟨_,z,v⟩:=y;rfl
def UI (z:Str) (m:Bool) (g:List Int->Bool) (put:List Int->St3) (l:List UInt8):Option (St3×List UInt8):=match sk z.cps.toList l with
 |none=>none
 |some (_,t)=>if m=true then(match aS g t with
  |none=>none
  |some (x,v)=>some (put x,v)) else none
theorem QJ {m:Bool} {g:List Int->Bool} {put:List Int->St3} {l:List UInt8}:
 (match (match mSW z m l with
  |none=>none
  |some (_,t)=>match C5 dz0 fz0 t with
   |none=>none
   |some (x,u)=>if g x=true then some (put x,u) else none:Option (St3×List UInt8)) with
 |none=>none
 |some (s',t)=>match sk ("\n":Str).cps.toList t with
  |none=>none
  |some (_,u)=>some (s',u))=UI z m g put l:=by
 unfold UI mSW aS;cases sk z.cps.toList l with
 |none=>rfl
 |some y=>
  obtain⟨_,t⟩:=y;cases m with
  |false=>rfl
  |true=>
   simp only[if_true];cases sk (" ":Str).cps.toList t with
   |none=>rfl
   |some y=>
    obtain⟨_,t⟩:=y;simp only;cases C5 dz0 fz0 t with
    |none=>rfl
    |some y=>
     obtain⟨x,u⟩:=y;simp only;cases hg:g x with
     |false=>rfl
     |true=>
      simp only[if_true];cases sk ("\n":Str).cps.toList u with
      |none=>rfl
      |some y=>obtain⟨_,v⟩:=y;rfl
theorem d3 {l:List UInt8} (h:see "f" l=true/\co.length=0):CV dz0 fz0 (fr,co,ba) l=UI "fret" (decide (fr.length<15)) (λx=>BH (fr.getLastD un5) x) (λx=>(fr++[x],co,ba)) l:=by
 unfold CV;rw[HJ,if_pos h,ND, ←QJ];all_goals rfl
theorem d5 {l:List UInt8} (h1:¬(see "f" l=true/\co.length=0)) (h:see "c" l=true/\ba.length=0):CV dz0 fz0 (fr,co,ba) l=UI "course" (decide (co.length+ba.length<14)) (λx=>fr.all λf=>F7 (BU f x)) (λx=>(fr,co++[x],ba)) l:=by
 unfold CV;rw[HJ,if_neg h1,if_pos h,FO, ←QJ];all_goals rfl
theorem d6 {l:List UInt8} (h1:¬(see "f" l=true/\co.length=0)) (h2:¬(see "c" l=true/\ba.length=0)) (h:see "b" l=true/\0<co.length):CV dz0 fz0 (fr,co,ba) l=UI "bass" (decide (co.length+ba.length<14)) (λx=>true) (λx=>(fr,co,ba++[x])) l:=by
 unfold CV;rw[HJ,if_neg h1,if_neg h2,if_pos h,JR, ←QJ];simp only[if_true];all_goals rfl
theorem WD {l:List UInt8} (h1:¬(see "f" l=true/\co.length=0)) (h2:¬(see "c" l=true/\ba.length=0)) (h3:¬(see "b" l=true/\0<co.length)):CV dz0 fz0 (fr,co,ba) l=none:=by
 unfold CV;rw[HJ,if_neg h1,if_neg h2,if_neg h3]
def sLn (bs:List UInt8) (m:Bool) (fine:Iv->Bool) (put:Iv->Lute.Inst) (k:Lute.Inst->Nat->List UInt8->Except Nat Lute.Inst) (p:Nat) (l:List UInt8):Except Nat Lute.Inst:=match Lute.want bs p l with
 | .error e=>.error e
 | .ok (_,q,u)=>if m=true then .error p else match Lute.ivLine fine q u with
   | .error e=>.error e
   | .ok (x,q,u)=>k (put x) q u
def fr3 (t:Lute.Inst):St3:=(t.frets.map ro,t.courses.map ro,t.basses.map ro)
theorem L8:∀{bs:List UInt8} {p q:Nat} {l u:List UInt8},Lute.want bs p l= .ok ((),q,u)->u.length+bs.length=l.length
 |[],p,q,l,u,h=>by rw[Lute.want] at h;cases h;rfl
 |x::bs,p,q,[],u,h=>by rw[Lute.want] at h;cases h
 |x::bs,p,q,c::l,u,h=>by
  rw[Lute.want] at h;split at h
  ·have:=L8 h;simp only[cw];omega
  ·cases h
theorem aU {fine:Iv->Bool} {l u:List UInt8} {x:Iv} (h:Lute.ivLine fine p l= .ok (x,q,u)):0<x.d/\u.length<=l.length:=by
 unfold Lute.ivLine at h;cases hw:Lute.want [32] p l with
 |error e=>rw[hw] at h;cases h
 |ok y=>
  obtain⟨_,q',t⟩:=y;have h1:=L8 hw;rw[hw] at h;dsimp only at h;cases hr:Lute.read (t.takeWhile λ(c:UInt8)=>c != 10) with
  |error e=>rw[hr] at h;cases h
  |ok y=>
   rw[hr] at h;dsimp only at h;split at h
   ·cases h
   ·split at h
    ·cases h
    ·rename_i hw2;cases h;have h2:=L8 hw2;rw[fu] at h2;exact⟨aR hr,by omega⟩
theorem QK {bs:List UInt8} {m m':Bool} {g:List Int->Bool} {fine:Iv->Bool} {put:List Int->St3} {put':Iv->Lute.Inst} {k:Lute.Inst->Nat->List UInt8->Except Nat Lute.Inst} {F:St3->List UInt8->Option St3} {l:List UInt8}
 (hz:z.cps.toList=bs.map (·.toNat)) (hm:m'=!m) (hg:∀x:Iv,0<x.d->g (ro x)=fine x) (hp:∀x,put (ro x)=fr3 (put' x)) (hk:∀x q u,0<x.d->u.length+bs.length<=l.length->F (put (ro x)) u=(fe (k (put' x) q u)).map fr3):
 (match UI z m g put l with
  |none=>none
  |some (s,t)=>F s t)=(fe (sLn bs m' fine put' k p l)).map fr3:=by
 unfold UI sLn;have e1:sk z.cps.toList l=fg (Lute.want bs p l):=by rw[hz];exact(IC bs p l).symm
 rw[e1];cases hw:Lute.want bs p l with
 |error e=>rfl
 |ok y=>
  obtain⟨_,q,u⟩:=y;have hl:=L8 hw;subst hm;cases m with
  |false=>rfl
  |true=>
   show(match (match aS g u with
    |none=>none
    |some (x,v)=>some (put x,v):Option (St3×List UInt8)) with
    |none=>none
    |some (s,t)=>F s t)=(fe (match Lute.ivLine fine q u with
    | .error e=>.error e
    | .ok (x,q,u)=>k (put' x) q u)).map fr3
   rw[j3 g fine hg q u];cases hv:Lute.ivLine fine q u with
   |error e=>rfl
   |ok y=>
    obtain⟨x,q2,v⟩:=y;have hd:=aU hv;exact hk x q2 v hd.1 (by omega)
theorem aV:∀(l:List Iv),(l.map ro).getLastD un5=ro (l.getLastD Lute.unison):=λl=>by
 rw[jg,jg,wN];cases l.getLast?<;>rfl
theorem d7 {l:List Iv} (h:∀x∈l,0<x.d):0<(l.getLastD Lute.unison).d:=by
 rw[jg];cases hl:l.getLast? with
 |none=>decide
 |some x=>exact h x (vT hl)
theorem j4 (l:List Iv) (x:Iv):((l.map ro).all λf=>F7 (BU f (ro x)))=Lute.soundsAll l x:=by
 unfold Lute.soundsAll;rw[List.all_map];congr 1;funext f;show F7 (BU (ro f) (ro x))=_;rw[aO,HY,fV]
theorem isE (l:List α):l.isEmpty=true↔l.length=0:=by cases l<;>simp
theorem O3:∀(f p:Nat) (t:Lute.Inst) (l:List UInt8),l.length<f->InK t->CD dz0 fz0 f (fr3 t) l=(fe (Lute.linesAt f t p l)).map fr3
 |0,p,t,l,h,_=>by omega
 |f+1,p,t,[],h,hi=>by
  show CD dz0 fz0 (f+1) (t.frets.map ro,t.courses.map ro,t.basses.map ro) []=_;rw[JT,Lute.linesAt];by_cases hc:t.courses.isEmpty=true
  ·rw[if_pos hc,if_neg (by rw[ah];exact λq=>q.2 ((isE _).mp hc)),WD (by rw[JV];rintro ⟨q,_⟩;cases q) (by rw[JV];rintro ⟨q,_⟩;cases q) (by rw[JV];rintro ⟨q,_⟩;cases q)];rfl
  ·rw[if_neg hc,if_pos ⟨rfl,by rw[ah];exact λq=>hc ((isE _).mpr q)⟩];rfl
 |f+1,p,t,c::r,h,hi=>by
  show CD dz0 fz0 (f+1) (t.frets.map ro,t.courses.map ro,t.basses.map ro) (c::r)=_;rw[JT,Lute.linesAt,if_neg (by rintro ⟨q,_⟩;cases q)];have hlen:r.length<f:=by simpa using h
  have ih:∀(t':Lute.Inst) (q:Nat) (u:List UInt8),InK t'->u.length<f->CD dz0 fz0 f (fr3 t') u=(fe (Lute.linesAt f t' q u)).map fr3:=λt' q u h1 h2=>O3 f q t' u h2 h1;have c1:(see "f" (c::r)=true/\(t.courses.map ro).length=0)↔(c=102/\t.courses.isEmpty=true):=by rw[CO (z:="f") (x:=102) rfl,ah,isE];simp
  have c2:(see "c" (c::r)=true/\(t.basses.map ro).length=0)↔(c=99/\t.basses.isEmpty=true):=by rw[CO (z:="c") (x:=99) rfl,ah,isE];simp
  have c3:(see "b" (c::r)=true/\0<(t.courses.map ro).length)↔(c=98/\t.courses.isEmpty=false):=by
   rw[CO (z:="b") (x:=98) rfl,ah];cases t.courses<;>simp
  by_cases k1:c=102/\t.courses.isEmpty=true
  ·rw[if_pos k1,d3 (c1.mpr k1)];have:=QK (z:="fret") (bs:=Lute.ascii "fret") (m:=decide ((t.frets.map ro).length<15)) (m':=decide (Lute.FRETS<=t.frets.length)) (g:=λx=>BH ((t.frets.map ro).getLastD un5) x) (fine:=λ(x:Iv)=>(t.frets.getLastD Lute.unison).lt x)
    (put:=λx=>(t.frets.map ro++[x],t.courses.map ro,t.basses.map ro)) (put':=λx=>{ t with frets:=t.frets++[x] }) (k:=λt' q u=>Lute.linesAt f t' q u) (F:=λs t=>CD dz0 fz0 f s t) (p:=p) (l:=c::r) (by decide +kernel)
    (by rw[ah, ←decide_not,decide_eq_decide];show 15<=_↔_;omega) (λx hx=>by rw[aV];exact K8 _ _ (d7 hi.1) hx) (λx=>by show _=fr3 _;unfold fr3;simp)
    (λx q u hx hu=>by
     have e:(t.frets.map ro++[ro x],t.courses.map ro,t.basses.map ro)=fr3 { t with frets:=t.frets++[x] }:=by unfold fr3;simp
     show CD dz0 fz0 f (t.frets.map ro++[ro x],t.courses.map ro,t.basses.map ro) u=_;rw[e];refine ih _ q u ⟨λy hy=>?_,hi.2.1,hi.2.2⟩ ?_
     ·rcases cj.mp hy with hy|hy
      ·exact hi.1 y hy
      ·rw[gq.mp hy];exact hx
     ·have hb:(Lute.ascii "fret").length=4:=by decide +kernel
      rw[hb] at hu;simp at hu;omega)
   refine sX this ?_;unfold sLn;cases Lute.want (Lute.ascii "fret") p (c::r) with
   |error e=>rfl
   |ok y=>
    obtain⟨_,q,u⟩:=y;dsimp only;by_cases hF:Lute.FRETS<=t.frets.length
    ·rw[if_pos (by simpa using hF),if_pos hF]
    ·rw[if_neg (by simpa using hF),if_neg hF];rfl
  ·rw[if_neg k1];by_cases k2:c=99/\t.basses.isEmpty=true
   ·rw[if_pos k2,d5 (λq=>k1 (c1.mp q)) (c2.mpr k2)];have:=QK (z:="course") (bs:=Lute.ascii "course") (m:=decide ((t.courses.map ro).length+(t.basses.map ro).length<14)) (m':=decide (Lute.COURSES<=t.opens.length)) (g:=λx=>(t.frets.map ro).all λf=>F7 (BU f x)) (fine:=Lute.soundsAll t.frets)
     (put:=λx=>(t.frets.map ro,t.courses.map ro++[x],t.basses.map ro)) (put':=λx=>{ t with courses:=t.courses++[x] }) (k:=λt' q u=>Lute.linesAt f t' q u) (F:=λs t=>CD dz0 fz0 f s t) (p:=p) (l:=c::r) (by decide +kernel)
     (by rw[ah,ah, ←decide_not,decide_eq_decide];unfold Lute.Inst.opens;rw[bq];show 14<=_↔_;omega) (λx hx=>j4 _ _) (λx=>by show _=fr3 _;unfold fr3;simp)
     (λx q u hx hu=>by
      have e:(t.frets.map ro,t.courses.map ro++[ro x],t.basses.map ro)=fr3 { t with courses:=t.courses++[x] }:=by unfold fr3;simp
      show CD dz0 fz0 f (t.frets.map ro,t.courses.map ro++[ro x],t.basses.map ro) u=_;rw[e];refine ih _ q u ⟨hi.1,λy hy=>?_,hi.2.2⟩ ?_
      ·rcases cj.mp hy with hy|hy
       ·exact hi.2.1 y hy
       ·rw[gq.mp hy];exact hx
      ·have hb:(Lute.ascii "course").length=6:=by decide +kernel
       rw[hb] at hu;simp at hu;omega)
    refine sX this ?_;unfold sLn;cases Lute.want (Lute.ascii "course") p (c::r) with
    |error e=>rfl
    |ok y=>
     obtain⟨_,q,u⟩:=y;dsimp only;by_cases hF:Lute.COURSES<=t.opens.length
     ·rw[if_pos (by simpa using hF),if_pos hF]
     ·rw[if_neg (by simpa using hF),if_neg hF];rfl
   ·rw[if_neg k2];by_cases k3:c=98/\t.courses.isEmpty=false
    ·rw[if_pos k3,d6 (λq=>k1 (c1.mp q)) (λq=>k2 (c2.mp q)) (c3.mpr k3)];have:=QK (z:="bass") (bs:=Lute.ascii "bass") (m:=decide ((t.courses.map ro).length+(t.basses.map ro).length<14)) (m':=decide (Lute.COURSES<=t.opens.length)) (g:=λx=>true) (fine:=λ_=>true)
      (put:=λx=>(t.frets.map ro,t.courses.map ro,t.basses.map ro++[x])) (put':=λx=>{ t with basses:=t.basses++[x] }) (k:=λt' q u=>Lute.linesAt f t' q u) (F:=λs t=>CD dz0 fz0 f s t) (p:=p) (l:=c::r) (by decide +kernel)
      (by rw[ah,ah, ←decide_not,decide_eq_decide];unfold Lute.Inst.opens;rw[bq];show 14<=_↔_;omega) (λx hx=>rfl) (λx=>by show _=fr3 _;unfold fr3;simp)
      (λx q u hx hu=>by
       have e:(t.frets.map ro,t.courses.map ro,t.basses.map ro++[ro x])=fr3 { t with basses:=t.basses++[x] }:=by unfold fr3;simp
       show CD dz0 fz0 f (t.frets.map ro,t.courses.map ro,t.basses.map ro++[ro x]) u=_;rw[e];refine ih _ q u ⟨hi.1,hi.2.1,λy hy=>?_⟩ ?_
       ·rcases cj.mp hy with hy|hy
        ·exact hi.2.2 y hy
        ·rw[gq.mp hy];exact hx
       ·have hb:(Lute.ascii "bass").length=4:=by decide +kernel
        rw[hb] at hu;simp at hu;omega)
     refine sX this ?_;unfold sLn;cases Lute.want (Lute.ascii "bass") p (c::r) with
     |error e=>rfl
     |ok y=>
      obtain⟨_,q,u⟩:=y;dsimp only;by_cases hF:Lute.COURSES<=t.opens.length
      ·rw[if_pos (by simpa using hF),if_pos hF]
      ·rw[if_neg (by simpa using hF),if_neg hF];rfl
    ·rw[if_neg k3,WD (λq=>k1 (c1.mp q)) (λq=>k2 (c2.mp q)) (λq=>k3 (c3.mp q))];rfl
theorem NQ (cs:List UInt8):JS dz0 fz0 cs=(fe (Lute.readInst cs)).map fr3:=by
 unfold JS XC Lute.readInst;have e1:sk ("length ":Str).cps.toList cs=fg (Lute.want (Lute.ascii "length ") 0 cs):=by
  rw[show("length ":Str).cps.toList=(Lute.ascii "length ").map (·.toNat) by decide +kernel];exact(IC _ 0 cs).symm
 rw[e1];cases Lute.want (Lute.ascii "length ") 0 cs with
 |error e=>rfl
 |ok y=>
  obtain⟨_,p,u⟩:=y;show(match (if see "0" u=true then none else match wn dz0 7 u with
   |none=>none
   |some (n,u)=>if n<10000\/200000<n then none else sk ("\n":Str).cps.toList u:Option (Unit×List UInt8)) with
   |none=>none
   |some (_,t)=>CD dz0 fz0 (t.length+1) ([],[],[]) t)=(fe (match Lute.longNumber p u with
   | .error e=>.error e
   | .ok (n,q,v)=>if n<Lute.SHORT\/Lute.LONG<n then .error p else match Lute.want [10] q v with
     | .error e=>.error e
     | .ok (_,q,v)=>Lute.linesAt (v.length+1) ⟨n,[],[],[]⟩ q v)).map fr3
  have e2:(if see "0" u=true then none else match wn dz0 7 u with
   |none=>none
   |some (n,u)=>if n<10000\/200000<n then none else sk ("\n":Str).cps.toList u:Option (Unit×List UInt8))=match fg (Lute.longNumber p u) with
   |none=>none
   |some (n,u)=>if n<10000\/200000<n then none else sk ("\n":Str).cps.toList u:=by
   rw[←dZ p u];by_cases h0:see "0" u=true
   ·rw[if_pos h0,if_pos h0]
   ·rw[if_neg h0,if_neg h0]
  rw[e2];cases Lute.longNumber p u with
  |error e=>rfl
  |ok y=>
   obtain⟨n,q,v⟩:=y;show(match (if n<10000\/200000<n then none else sk ("\n":Str).cps.toList v:Option (Unit×List UInt8)) with
    |none=>none
    |some (_,t)=>CD dz0 fz0 (t.length+1) ([],[],[]) t)=(fe (if n<Lute.SHORT\/Lute.LONG<n then .error p else _)).map fr3
   by_cases hn:n<10000\/200000<n
   ·rw[if_pos hn,if_pos (show n<Lute.SHORT\/Lute.LONG<n from hn)];rfl
   ·rw[if_neg hn,if_neg (show¬(n<Lute.SHORT\/Lute.LONG<n) from hn)];have e3:sk ("\n":Str).cps.toList v=fg (Lute.want [10] q v):=(IC [10] q v).symm;rw[e3];cases Lute.want [10] q v with
    |error e=>rfl
    |ok y=>
     obtain⟨_,q2,v2⟩:=y;exact O3 (v2.length+1) q2 ⟨n,[],[],[]⟩ v2 (by omega) ⟨by simp,by simp,by simp⟩
theorem HQ:∀(bs:List UInt8) (p:Nat) (l:List UInt8),fg (LuteTab.want bs p l)=sk (bs.map (·.toNat)) l
 |[],p,l=>rfl
 |x::bs,p,[]=>rfl
 |x::bs,p,c::t=>by
  rw[LuteTab.want,de,sk];by_cases h:c=x
  ·rw[if_pos h,if_pos (by rw[h]),HQ]
  ·rw[if_neg h,if_neg (λq=>h ((O2 c x).mp q))];rfl
theorem pS (c:UInt8):BP (zF++".").cps.toList ((c.toNat:Nat):Int)=if c=46 then some 16 else LuteTab.letters.idxOf? c:=NO (p:=λc=>BP (zF++".").cps.toList ((c.toNat:Nat):Int)=if c=46 then some 16 else LuteTab.letters.idxOf? c) (by decide +kernel) c
theorem pT (c:UInt8):BP (zI++".").cps.toList ((c.toNat:Nat):Int)=if c=46 then some 16 else LuteTab.figures.idxOf? c:=NO (p:=λc=>BP (zI++".").cps.toList ((c.toNat:Nat):Int)=if c=46 then some 16 else LuteTab.figures.idxOf? c) (by decide +kernel) c
theorem fW (c:UInt8):BP zP.cps.toList ((c.toNat:Nat):Int)=LuteTab.capitals.idxOf? c:=NO (p:=λc=>BP zP.cps.toList ((c.toNat:Nat):Int)=LuteTab.capitals.idxOf? c) (by decide +kernel) c
theorem fX (c:UInt8):BP zX.cps.toList ((c.toNat:Nat):Int)=LuteTab.crossings.idxOf? c:=NO (p:=λc=>BP zX.cps.toList ((c.toNat:Nat):Int)=LuteTab.crossings.idxOf? c) (by decide +kernel) c
theorem pU (c:UInt8):BP zL.cps.toList ((c.toNat:Nat):Int)=[(120:UInt8),116,115,101,113,104,119].idxOf? c:=NO (p:=λc=>BP zL.cps.toList ((c.toNat:Nat):Int)=[(120:UInt8),116,115,101,113,104,119].idxOf? c) (by decide +kernel) c
theorem SG (c:UInt8):BP ("4567":Str).cps.toList ((c.toNat:Nat):Int)=if 52<=c/\c<=55 then some (c.toNat - 52) else none:=NO (p:=λc=>BP ("4567":Str).cps.toList ((c.toNat:Nat):Int)=if 52<=c/\c<=55 then some (c.toNat - 52) else none) (by decide +kernel) c
theorem d8 (c:UInt8):BP ("789":Str).cps.toList ((c.toNat:Nat):Int)=if 55<=c/\c<=57 then some (c.toNat - 55) else none:=NO (p:=λc=>BP ("789":Str).cps.toList ((c.toNat:Nat):Int)=if 55<=c/\c<=57 then some (c.toNat - 55) else none) (by decide +kernel) c
theorem XT (c:UInt8):BP ("01234":Str).cps.toList ((c.toNat:Nat):Int)=if 48<=c/\c<=52 then some (c.toNat - 48) else none:=NO (p:=λc=>BP ("01234":Str).cps.toList ((c.toNat:Nat):Int)=if 48<=c/\c<=52 then some (c.toNat - 48) else none) (by decide +kernel) c
theorem O4 (c:UInt8):BP ("54321":Str).cps.toList ((c.toNat:Nat):Int)=if 49<=c/\c<=53 then some (53 - c.toNat) else none:=NO (p:=λc=>BP ("54321":Str).cps.toList ((c.toNat:Nat):Int)=if 49<=c/\c<=53 then some (53 - c.toNat) else none) (by decide +kernel) c
theorem WE (c:UInt8) (n:Nat) (hn:n<256):(uv n<=c↔n<=c.toNat)/\(c<=uv n↔c.toNat<=n):=by
 have e:(uv n).toNat=n:=by rw[wt];omega
 constructor
 ·rw[vz,e]
 ·rw[vz,e]
theorem aW {l:List UInt8} {c:UInt8} (h:l.idxOf? c=some i):i<l.length:=(uV.mp h).1
theorem ID {signs:List UInt8} (hz:z.length=16) (hs:signs.length=16) (hi:∀c:UInt8,BP (z++".").cps.toList ((c.toNat:Nat):Int)=if c=46 then some 16 else signs.idxOf? c):∀(ns:List Nat) (p:Nat) (l:List UInt8),B2 z ns l=fg (LuteTab.sixAt signs ns p l)
 |[],p,l=>rfl
 |n::ns,p,[]=>rfl
 |n::ns,p,c::t=>by
  rw[B2,LuteTab.sixAt,BQ,hi,LuteTab.fretAt];by_cases h:c=46
  ·rw[if_pos h,if_pos (show c=LuteTab.POINT from h)];show(match B2 z ns t with
    |none=>none
    |some (s,u)=>some ((if 16<z.length then⟨n,16⟩::s else s),u))=fg (match LuteTab.sixAt signs ns (p+1) t with
    | .error e=>.error e
    | .ok (s,z,v)=>.ok (s,z,v))
   rw[ID hz hs hi ns (p+1) t];cases LuteTab.sixAt signs ns (p+1) t with
   |error e=>rfl
   |ok y=>
    obtain⟨s,q,v⟩:=y;show some ((if 16<z.length then _ else s),v)=some (s,v);rw[if_neg (by omega)]
  ·rw[if_neg h,if_neg (show¬c=LuteTab.POINT from h)];cases hx:signs.idxOf? c with
   |none=>rfl
   |some f=>
    have hf:=aW hx;show(match B2 z ns t with
     |none=>none
     |some (s,u)=>some ((if f<z.length then⟨n,f⟩::s else s),u))=fg (match LuteTab.sixAt signs ns (p+1) t with
     | .error e=>.error e
     | .ok (s,z,v)=>.ok (⟨n,f⟩::s,z,v))
    rw[ID hz hs hi ns (p+1) t];cases LuteTab.sixAt signs ns (p+1) t with
    |error e=>rfl
    |ok y=>
     obtain⟨s,q,v⟩:=y;show some ((if f<z.length then _ else s),v)=some (⟨n,f⟩::s,v);rw[if_pos (by omega)]
theorem fY:∀(l:List UInt8) (n p:Nat),n<=3->mSl (3 - n) l=fg (LuteTab.slashes n p l)
 |[],n,p,hn=>by
  rw[LuteTab.slashes.eq_def];match n,hn with
  |0,_=>rfl
  |1,_=>rfl
  |2,_=>rfl
  |3,_=>rfl
 |c::t,n,p,hn=>by
  by_cases h1:c=47
  ·subst h1;have e:LuteTab.slashes n p (47::t)=if n<3 then LuteTab.slashes (n+1) (p+1) t else .error p:=by rw[LuteTab.slashes.eq_def];rfl
   rw[e];by_cases h3:n<3
   ·obtain⟨m,hm⟩:∃m,3 - n=m+1:=⟨2 - n,by omega⟩
    rw[if_pos h3,hm,mSl,CO (z:="/") (x:=47) rfl,if_pos (by simp),FJ (z:="/") (x:=47) rfl,if_pos rfl];show mSl m t=_;rw[show m=3 - (n+1) by omega];exact fY t (n+1) (p+1) (by omega)
   ·have:n=3:=by omega
    subst this;rw[if_neg h3,wP,mSl,FJ (z:="a") (x:=97) rfl,if_neg (by decide)];rfl
  ·have e:LuteTab.slashes n p (c::t)=if c=97 then .ok (7+n,p+1,t) else .error p:=by
    by_cases h2:c=97
    ·subst h2;rw[if_pos rfl,LuteTab.slashes.eq_def];rfl
    ·rw[if_neg h2,LuteTab.slashes.eq_def];split
     ·rename_i q;cases q;exact absurd rfl h1
     ·rename_i q;cases q;exact absurd rfl h2
     ·rfl
   rw[e];have key:mSl (3 - n) (c::t)=match sk ("a":Str).cps.toList (c::t) with
    |none=>none
    |some (_,t)=>some (7+n,t):=by
    by_cases h3:n<3
    ·obtain⟨m,hm⟩:∃m,3 - n=m+1:=⟨2 - n,by omega⟩
     rw[hm,mSl,CO (z:="/") (x:=47) rfl,if_neg (by simp[h1]),show 9 - m=7+n by omega];all_goals rfl
    ·have:n=3:=by omega
     subst this;rw[wP,mSl];all_goals rfl
   rw[key,FJ (z:="a") (x:=97) rfl];by_cases h2:c=97
   ·rw[if_pos h2,if_pos h2];rfl
   ·rw[if_neg h2,if_neg h2];rfl
theorem pV (p:Nat) (l:List UInt8):mFB l=fg (LuteTab.frenchBassAt p l):=by
 cases l with
 |nil=>rfl
 |cons c t=>
  unfold mFB;rw[LuteTab.frenchBassAt];have hs:see "4567" (c::t)=(if 52<=c/\c<=55 then some (c.toNat - 52) else none:Option Nat).isSome:=by
   show(BP ("4567":Str).cps.toList ((c.toNat:Nat):Int)).isSome=_;rw[SG]
  rw[hs,BQ,SG];by_cases h:52<=c/\c<=55
  ·have h1:52<=c.toNat:=(WE c 52 (by decide)).1.mp h.1;rw[if_pos h,if_pos h];show some (7+4+(c.toNat - 52),t)=some (c.toNat - 48+7,t);congr 2;omega
  ·rw[if_neg h,if_neg h];exact fY (c::t) 0 p (by omega)
theorem fZ (p:Nat) (l:List UInt8):mBN l=fg (LuteTab.numberAt p l):=by
 cases l with
 |nil=>rfl
 |cons c t=>
  unfold mBN;rw[LuteTab.numberAt.eq_def,CO (z:="1") (x:=49) rfl,BQ,d8];dsimp only;by_cases h:c=49
  ·subst h;rw[if_pos (by simp),if_neg (by decide),if_pos rfl,FJ (z:="1") (x:=49) rfl,if_pos rfl];cases t with
   |nil=>rfl
   |cons d u=>
    show(match pk "01234" (d::u) with
     |none=>none
     |some (n,u)=>some (10+n,u))=fg (if 48<=d/\d<=52 then .ok (10+(d.toNat - 48),p+2,u) else .error (p+1))
    rw[BQ,XT];by_cases hd:48<=d/\d<=52
    ·rw[if_pos hd,if_pos hd];rfl
    ·rw[if_neg hd,if_neg hd];rfl
  ·rw[if_neg (by simp[h])];by_cases h7:55<=c/\c<=57
   ·have h1:55<=c.toNat:=(WE c 55 (by decide)).1.mp h7.1;rw[if_pos h7,if_pos h7];show some (7+(c.toNat - 55),t)=some (c.toNat - 48,t);congr 2;omega
   ·rw[if_neg h7,if_neg h7,if_neg h];rfl
theorem sA {l:List UInt8} (h:mFB l=some (n,t)):7<=n:=by
 unfold mFB at h;split at h
 ·cases hp:pk "4567" l with
  |none=>rw[hp] at h;cases h
  |some x=>obtain⟨i,y⟩:=x;rw[hp] at h;cases h;omega
 ·have:∀{f:Nat} {l t:List UInt8} {n:Nat},f<=3->mSl f l=some (n,t)->7<=n:=by
   intro f;induction f with
   |zero=>
    intro l t n _ h;rw[mSl] at h;split at h
    ·cases h
    ·cases h;omega
   |succ f ih=>
    intro l t n hf h;rw[mSl] at h;split at h
    ·split at h
     ·cases h
     ·exact ih (by omega) h
    ·split at h
     ·cases h
     ·cases h;omega
  exact this (by omega) h
theorem pW {l:List UInt8} (h:mBN l=some (n,t)):7<=n:=by
 unfold mBN at h;split at h
 ·split at h
  ·cases h
  ·split at h
   ·cases h
   ·cases h;omega
 ·split at h
  ·cases h
  ·cases h;omega
def D0:Option (List Stop×List UInt8)->Option (List Stop×List UInt8)
 |none=>none
 |some (s,t)=>match sk ("\n":Str).cps.toList t with
  |none=>none
  |some (_,u)=>some (s,u)
def LO (k:Nat) (acc:List Stop) (last:Nat):Prop:=∀s:Stop,k<=s.course->CW acc s=decide (last<s.course)
theorem WF (k:Nat) (acc:List Stop) (s:Stop):LO k (acc++[s]) s.course:=λs' _=>by
 unfold CW;rw[List.getLast?_append];rfl
theorem aX (k:Nat) (hk:1<=k):LO k [] 0:=λs' h=>by
 unfold CW;exact(decide_eq_true (by omega)).symm
theorem WG {acc:List Stop} (h:∀s∈acc,s.course<=6):LO 7 acc 6:=λs' h'=>by
 unfold CW;cases hl:acc.getLast? with
 |none=>exact(decide_eq_true (by omega)).symm
 |some x=>
  have:=h x (vT hl);show decide (x.course<s'.course)=decide (6<s'.course);rw[decide_eq_decide];omega
theorem SH (acc:List Stop) (s:Stop) (o:Option (List Stop×List UInt8)):pre (acc++[s]) o=pre acc (match o with
 |none=>none
 |some (l,t)=>some (s::l,t)):=by
 cases o with
 |none=>rfl
 |some x=>obtain⟨l,t⟩:=x;simp[pre]
theorem aY {m:List UInt8->Option (Nat×List UInt8)} {rd:Nat->List UInt8->LuteTab.Rd Nat} (hm:∀p l,m l=fg (rd p l)) (h7:∀{l t n},m l=some (n,t)->7<=n) (hl:∀{l t n},m l=some (n,t)->t.length<l.length):
 ∀(f:Nat) (acc:List Stop) (last p:Nat) (l:List UInt8),l.length<f->LO 7 acc last->D0 (mBs m f acc l)=pre acc (fg (LuteTab.bassesAt rd f last p l))
 |0,_,_,_,l,h,_=>by omega
 |f+1,acc,last,p,[],h,lo=>by
  rw[mBs,LuteTab.bassesAt,JV,if_neg (by decide)];rfl
 |f+1,acc,last,p,c::r,h,lo=>by
  rw[mBs,LuteTab.bassesAt,CO (z:=" ") (x:=32) rfl];by_cases h1:c=10
  ·subst h1;rw[if_neg (by decide),if_pos (show(10:UInt8)=LuteTab.END from rfl)];show(match sk ("\n":Str).cps.toList (10::r) with
    |none=>none
    |some (_,u)=>some (acc,u))=_
   rw[FJ (z:="\n") (x:=10) rfl,if_pos rfl];simp[pre,fg]
  ·rw[if_neg (show¬c=LuteTab.END from h1)];by_cases h2:c=32
   ·subst h2;rw[if_pos (by simp),if_neg (by intro q;exact q rfl),FJ (z:=" ") (x:=32) rfl,if_pos rfl];show D0 (match m r with
     |none=>none
     |some (b,u)=>if CW acc ⟨b,0⟩=true then mBs m f (acc++[⟨b,0⟩]) u else none)=_
    have hr:=hm (p+1) r;rw[hr];cases hrd:rd (p+1) r with
    |error e=>rfl
    |ok y=>
     obtain⟨b,q,u⟩:=y;have hmr:m r=some (b,u):=by rw[hr,hrd];rfl
     have hb:=h7 hmr;have hlen:=hl hmr;show D0 (if CW acc ⟨b,0⟩=true then mBs m f (acc++[⟨b,0⟩]) u else none)=pre acc (fg (if b<=last then .error (p+1) else match LuteTab.bassesAt rd f b q u with
      | .error e=>.error e
      | .ok (l,z,v)=>.ok (⟨b,0⟩::l,z,v)))
     rw[lo ⟨b,0⟩ hb];by_cases hlt:last<b
     ·rw[if_pos (by simpa using hlt),if_neg (by omega)];have hrl:r.length<f:=by simpa using h
      have ihh:=aY hm h7 hl f (acc++[(⟨b,0⟩:Stop)]) b q u (by omega) (WF 7 acc (⟨b,0⟩:Stop));rw[ihh,SH];cases LuteTab.bassesAt rd f b q u with
      |error e=>rfl
      |ok y=>obtain⟨l,z,v⟩:=y;rfl
     ·rw[if_neg (by simpa using hlt),if_pos (by omega)];rfl
   ·rw[if_neg (by simp[h2]),if_pos (show c≠LuteTab.BLANK from h2)];show(match sk ("\n":Str).cps.toList (c::r) with
     |none=>none
     |some (_,u)=>some (acc,u))=_
    rw[FJ (z:="\n") (x:=10) rfl,if_neg h1];rfl
theorem f6 (c:UInt8) (hc:(BP zX.cps.toList ((c.toNat:Nat):Int)).isSome=true):∀(f j:Nat) (t:List UInt8),mTm ((c.toNat:Nat):Int) f j t=some (j+LuteTab.again c f t,t.drop (LuteTab.again c f t))
 |0,j,t=>by rw[mTm,LuteTab.again];rfl
 |f+1,j,[]=>by
  have:¬bt []=((c.toNat:Nat):Int):=by
   show¬(256:Int)=_;have:=yr c;omega
  have e0:LuteTab.again c (f+1) []=0:=rfl;rw[mTm,if_neg this,e0];rfl
 |f+1,j,x::r=>by
  rw[mTm,LuteTab.again];have e:(bt (x::r)=((c.toNat:Nat):Int))↔x=c:=by
   rw[←O2];show((x.toNat:Nat):Int)=_↔_;omega
  by_cases h:x=c
  ·subst h;rw[if_pos (e.mpr rfl),if_pos rfl,BQ];obtain⟨i,hi⟩:=qf.mp hc;rw[hi];show mTm ((x.toNat:Nat):Int) f (j+1) r=_;rw[f6 x hc f (j+1) r,wa];congr 2;omega
  ·rw[if_neg (λq=>h (e.mp q)),if_neg h];rfl
theorem pX (p:Nat) (l:List UInt8):mGS l=fg (LuteTab.germanAt p l):=by
 cases l with
 |nil=>rfl
 |cons c t=>
  unfold mGS;rw[CO (z:="-") (x:=45) rfl,LuteTab.germanAt.eq_def];dsimp only;have hs5:see "54321" (c::t)=(if 49<=c/\c<=53 then some (53 - c.toNat) else none:Option Nat).isSome:=by
   show(BP ("54321":Str).cps.toList ((c.toNat:Nat):Int)).isSome=_;rw[O4]
  have hsP:see zP (c::t)=(LuteTab.capitals.idxOf? c).isSome:=by
   show(BP zP.cps.toList ((c.toNat:Nat):Int)).isSome=_;rw[fW]
  by_cases h:c=45
  ·subst h;rw[if_pos (by simp),if_neg (by decide),if_pos rfl,FJ (z:="-") (x:=45) rfl,if_pos rfl];show(match mBN t with
    |none=>none
    |some (n,u)=>some ((⟨n,0⟩:Stop),u))=_
   rw[fZ (p+1)];cases LuteTab.numberAt (p+1) t with
   |error e=>rfl
   |ok y=>obtain⟨b,q,u⟩:=y;rfl
  ·rw[if_neg (by simp[h]),hs5,BQ,O4];by_cases h5:49<=c/\c<=53
   ·have h1:49<=c.toNat:=(WE c 49 (by decide)).1.mp h5.1;have h2:c.toNat<=53:=(WE c 53 (by decide)).2.mp h5.2;rw[if_pos h5,if_pos h5];show some ((⟨1+(53 - c.toNat),0⟩:Stop),t)=some (⟨6 - (c.toNat - 48),0⟩,t);congr 3;omega
   ·rw[if_neg h5,if_neg h5,if_neg h,hsP,BQ,fW];cases hP:LuteTab.capitals.idxOf? c with
    |some f=>rfl
    |none=>
     show mCr (c::t)=_;unfold mCr;rw[BQ,fX];cases hX:LuteTab.crossings.idxOf? c with
     |none=>rfl
     |some i=>
      show(match mTm ((c.toNat:Nat):Int) 2 0 t with
       |none=>none
       |some (j,u)=>some ((⟨5 - i%5,1+i / 5+5*j⟩:Stop),u))=some (⟨5 - i%5,5*LuteTab.again c 2 t+i / 5+1⟩,t.drop (LuteTab.again c 2 t))
      rw[f6 c (by rw[fX,hX];rfl)];show some ((⟨5 - i%5,1+i / 5+5*(0+LuteTab.again c 2 t)⟩:Stop),_)=_;congr 3;omega
theorem sB {l:List UInt8} {s:Stop} (h:mGS l=some (s,t)):1<=s.course:=by
 unfold mGS at h;split at h
 ·split at h
  ·cases h
  ·split at h
   ·cases h
   ·rename_i hb;cases h;exact cu (by decide) (pW hb)
 ·split at h
  ·split at h
   ·cases h
   ·cases h;show 1<=1+_;omega
  ·split at h
   ·split at h
    ·cases h
    ·cases h;show 1<=6;omega
   ·unfold mCr at h;split at h
    ·cases h
    ·split at h
     ·cases h
     ·cases h;show 1<=5 - _;omega
theorem aZ:∀(f:Nat) (acc:List Stop) (last p:Nat) (l:List UInt8),l.length<f->LO 1 acc last->D0 (mGl f acc l)=pre acc (fg (LuteTab.germanStops f last p l))
 |0,_,_,_,l,h,_=>by omega
 |f+1,acc,last,p,l,h,lo=>by
  rw[mGl,LuteTab.germanStops];have hg:=pX p l;rw[hg];cases hga:LuteTab.germanAt p l with
  |error e=>rfl
  |ok y=>
   obtain⟨s,q,u⟩:=y;have hms:mGS l=some (s,u):=by rw[hg,hga];rfl
   have h1:=sB hms;have hlen:=QA hms;show D0 (if CW acc s=true then(if see " " u=true then _ else some (acc++[s],u)) else none)=_;dsimp only;rw[lo s h1];by_cases hlt:last<s.course
   ·rw[if_pos (by simpa using hlt),if_neg (show¬s.course<=last by omega)];cases u with
    |nil=>rfl
    |cons c v=>
     rw[CO (z:=" ") (x:=32) rfl];dsimp only;by_cases hc:c=10
     ·subst hc;rw[if_neg (by decide),if_pos (show(10:UInt8)=LuteTab.END from rfl)];show(match sk ("\n":Str).cps.toList (10::v) with
       |none=>none
       |some (_,u)=>some (acc++[s],u))=_
      rw[FJ (z:="\n") (x:=10) rfl,if_pos rfl];rfl
     ·rw[if_neg (show¬c=LuteTab.END from hc)];by_cases hb:c=32
      ·subst hb;rw[if_pos (by simp),if_neg (by intro q;exact q rfl),FJ (z:=" ") (x:=32) rfl,if_pos rfl];show D0 (mGl f (acc++[s]) v)=_;have hv:v.length<f:=by simp at hlen;omega
       rw[aZ f (acc++[s]) s.course (q+1) v hv (WF 1 acc s),SH];cases LuteTab.germanStops f s.course (q+1) v with
       |error e=>rfl
       |ok y=>obtain⟨l,z,w⟩:=y;rfl
      ·rw[if_neg (by simp[hb]),if_pos (show c≠LuteTab.BLANK from hb)];show(match sk ("\n":Str).cps.toList (c::v) with
        |none=>none
        |some (_,u)=>some (acc++[s],u))=_
       rw[FJ (z:="\n") (x:=10) rfl,if_neg hc];rfl
   ·rw[if_neg (by simpa using hlt),if_pos (show s.course<=last by omega)];rfl
theorem QL:∀{ns:List Nat} {l t:List UInt8} {s:List Stop},(∀n∈ns,1<=n/\n<=6)->B2 z ns l=some (s,t)->∀x∈s,1<=x.course/\x.course<=6
 |[],l,t,s,_,h,x,hx=>by rw[B2] at h;cases h;simp at hx
 |c::ns,l,t,s,hn,h,x,hx=>by
  rw[B2] at h;cases hp:pk (z++".") l with
  |none=>rw[hp] at h;cases h
  |some y=>
   obtain⟨i,y⟩:=y;simp only[hp] at h;cases hm:B2 z ns y with
   |none=>rw[hm] at h;cases h
   |some w=>
    obtain⟨q,v⟩:=w;simp only[hm] at h;cases h;have ih:=QL (λn hn'=>hn n (ao _ hn')) hm;split at hx
    ·rcases bp.mp hx with rfl|hx
     ·exact hn c bb
     ·exact ih x hx
    ·exact ih x hx
def kdN:LuteTab.Kind->Nat
 | .french=>0
 | .italian=>1
 | .german=>2
theorem a0 (acc:List Stop) (o:LuteTab.Rd (List Stop)):pre acc (fg o)=fg (match o with
 | .error e=>.error e
 | .ok (b,z,v)=>.ok (acc++b,z,v)):=by
 cases o with
 |error e=>rfl
 |ok y=>obtain⟨b,z,v⟩:=y;rfl
theorem f8 (k:LuteTab.Kind) (p:Nat) (l:List UInt8):D0 (mSt (kdN k) l)=fg (LuteTab.stopsAt k p l):=by
 cases k with
 |french=>
  show D0 (mFr l)=fg (match LuteTab.sixAt LuteTab.letters [1,2,3,4,5,6] p l with
   | .error e=>.error e
   | .ok (l,q,u)=>match LuteTab.bassesAt LuteTab.frenchBassAt (u.length+1) 6 q u with
     | .error e=>.error e
     | .ok (b,z,v)=>.ok (l++b,z,v))
  unfold mFr;have hn:=ID (z:=zF) (signs:=LuteTab.letters) (by decide +kernel) (by decide +kernel) pS [1,2,3,4,5,6] p l;rw[hn];cases hs:LuteTab.sixAt LuteTab.letters [1,2,3,4,5,6] p l with
  |error e=>rfl
  |ok y=>
   obtain⟨s,q,u⟩:=y;have hm:B2 zF [1,2,3,4,5,6] l=some (s,u):=by rw[hn,hs];rfl
   have hle:=QL (by intro n hn';simp at hn';omega) hm;show D0 (mBs mFB (u.length+1) s u)=_;rw[aY pV sA P9 (u.length+1) s 6 q u (by omega) (WG λx hx=>(hle x hx).2),a0];rfl
 |italian=>
  show D0 (mIt l)=fg (match LuteTab.sixAt LuteTab.figures [6,5,4,3,2,1] p l with
   | .error e=>.error e
   | .ok (l,q,u)=>match LuteTab.bassesAt LuteTab.numberAt (u.length+1) 6 q u with
     | .error e=>.error e
     | .ok (b,z,v)=>.ok (l.reverse++b,z,v))
  unfold mIt;have hn:=ID (z:=zI) (signs:=LuteTab.figures) (by decide +kernel) (by decide +kernel) pT [6,5,4,3,2,1] p l;rw[hn];cases hs:LuteTab.sixAt LuteTab.figures [6,5,4,3,2,1] p l with
  |error e=>rfl
  |ok y=>
   obtain⟨s,q,u⟩:=y;have hm:B2 zI [6,5,4,3,2,1] l=some (s,u):=by rw[hn,hs];rfl
   have hle:=QL (by intro n hn';simp at hn';omega) hm;show D0 (mBs mBN (u.length+1) s.reverse u)=_;rw[aY fZ pW L7 (u.length+1) s.reverse 6 q u (by omega) (WG λx hx=>(hle x (xo.mp hx)).2),a0];rfl
 |german=>
  show D0 (mGr l)=fg (match l with
   |46::r=>(match LuteTab.want [LuteTab.END] (p+1) r with
    | .error e=>.error e
    | .ok (_,q,u)=>.ok ([],q,u))
   |_=>LuteTab.germanStops (l.length+1) 0 p l)
  unfold mGr;cases l with
  |nil=>exact(aZ 1 [] 0 p [] (by decide) (aX 1 (by decide))).trans (LU _)
  |cons c r=>
   rw[CO (z:=".") (x:=46) rfl];by_cases h:c=46
   ·subst h;rw[if_pos (by simp),FJ (z:=".") (x:=46) rfl,if_pos rfl];show(match sk ("\n":Str).cps.toList r with
     |none=>none
     |some (_,u)=>some ([],u))=fg (match LuteTab.want [LuteTab.END] (p+1) r with
     | .error e=>.error e
     | .ok (_,q,u)=>.ok ([],q,u))
    have e3:sk ("\n":Str).cps.toList r=fg (LuteTab.want [LuteTab.END] (p+1) r):=(HQ [10] _ _).symm;rw[e3];cases LuteTab.want [LuteTab.END] (p+1) r with
    |error e=>rfl
    |ok y=>obtain⟨_,z,v⟩:=y;rfl
   ·rw[if_neg (by simp[h])];have:=(aZ ((c::r).length+1) [] 0 p (c::r) (by omega) (aX 1 (by decide))).trans (LU _);rw[this];congr 1;split
    ·rename_i q;cases q;exact absurd rfl h
    ·rfl
def UJ (l:List UInt8):Option (Nat×List UInt8):=match pk zL l with
 |none=>none
 |some (i,t)=>if 0<i/\see "." t=true then(match sk (".":Str).cps.toList t with
  |none=>none
  |some (_,u)=>match sk (" ":Str).cps.toList u with
   |none=>none
   |some (_,v)=>some (2 ^ i+2 ^ i / 2,v))
  else match sk (" ":Str).cps.toList t with
   |none=>none
   |some (_,v)=>some (2 ^ i,v)
theorem j5 (p:Nat) (l:List UInt8):UJ l=fg (LuteTab.lengthAt p l):=by
 cases l with
 |nil=>rfl
 |cons c r=>
  unfold UJ;rw[BQ,pU,LuteTab.lengthAt.eq_def];dsimp only;cases hx:[(120:UInt8),116,115,101,113,104,119].idxOf? c with
  |none=>rfl
  |some i=>
   have hp:0<i->2 ^ i / 2=2 ^ (i - 1):=λh0=>by
    obtain⟨j,rfl⟩:∃j,i=j+1:=⟨i - 1,by omega⟩
    rw[zm,Nat.mul_div_cancel _ (by decide)];rfl
   show(if 0<i/\see "." r=true then _ else _)=fg (match r with
    |46::32::u=>if i=0 then .error (p+1) else .ok (2 ^ i+2 ^ (i - 1),p+3,u)
    |46::_=>if i=0 then .error (p+1) else .error (p+2)
    |32::u=>.ok (2 ^ i,p+2,u)
    |_=>.error (p+1))
   cases r with
   |nil=>rw[if_neg (by rw[JV];rintro ⟨_,q⟩;cases q)];rfl
   |cons y t=>
    rw[CO (z:=".") (x:=46) rfl];by_cases h46:y=46
    ·subst h46;by_cases h0:0<i
     ·rw[if_pos ⟨h0,by simp⟩,FJ (z:=".") (x:=46) rfl,if_pos rfl];cases t with
      |nil=>
       show _=fg (if i=0 then .error (p+1) else .error (p+2));rw[if_neg (by omega)];rfl
      |cons z u=>
       show(match sk (" ":Str).cps.toList (z::u) with
        |none=>none
        |some (_,v)=>some (2 ^ i+2 ^ i / 2,v))=_
       rw[FJ (z:=" ") (x:=32) rfl];by_cases h32:z=32
       ·subst h32;rw[if_pos rfl];show some (2 ^ i+2 ^ i / 2,u)=fg (if i=0 then .error (p+1) else .ok (2 ^ i+2 ^ (i - 1),p+3,u));rw[if_neg (by omega),hp h0];rfl
       ·rw[if_neg h32];have e:(match (46::z::u:List UInt8) with
         |46::32::u=>if i=0 then .error (p+1) else .ok (2 ^ i+2 ^ (i - 1),p+3,u)
         |46::_=>if i=0 then .error (p+1) else .error (p+2)
         |32::u=>.ok (2 ^ i,p+2,u)
         |_=>.error (p+1))=(if i=0 then .error (p+1) else .error (p+2):LuteTab.Rd Nat):=by
         split
         ·rename_i q;cases q;exact absurd rfl h32
         ·rfl
         ·rename_i q;cases q
         ·rename_i q1 q2;exact absurd rfl (q1 (z::u))
        rw[e,if_neg (by omega)];rfl
     ·have:i=0:=by omega
      subst this;rw[if_neg (by simp),FJ (z:=" ") (x:=32) rfl,if_neg (by decide)];show none=fg _;split
      ·rfl
      ·rfl
      ·rename_i q;cases q
      ·rfl
    ·rw[if_neg (by simp[h46]),FJ (z:=" ") (x:=32) rfl];by_cases h32:y=32
     ·subst h32;rw[if_pos rfl];rfl
     ·rw[if_neg h32];show none=fg _;split
      ·rename_i q;cases q;exact absurd rfl h46
      ·rename_i q;cases q;exact absurd rfl h46
      ·rename_i q;cases q;exact absurd rfl h32
      ·rfl
theorem d9 {l:List UInt8} (h:UJ l=some (n,t)):0<n:=by
 have hp:∀i:Nat,0<2 ^ i:=λi=>jn (by decide);unfold UJ at h;split at h
 ·cases h
 ·split at h
  ·split at h
   ·cases h
   ·split at h
    ·cases h
    ·cases h;have:=hp ‹_›;omega
  ·split at h
   ·cases h
   ·cases h;exact hp _
theorem f9 (before:Nat) (c:UInt8) (r:List UInt8) (h:¬c=32):mLn before (c::r)=match UJ (c::r) with
 |none=>none
 |some (n,v)=>if n=before then none else some (n,v):=by
 unfold mLn UJ;rw[CO (z:=" ") (x:=32) rfl,if_neg (by simp[h])];cases pk zL (c::r) with
 |none=>rfl
 |some y=>
  obtain⟨i,t⟩:=y;dsimp only;by_cases h0:0<i/\see "." t=true
  ·rw[if_pos h0,if_pos h0];cases sk (".":Str).cps.toList t with
   |none=>rfl
   |some y=>
    obtain⟨_,u⟩:=y;dsimp only;cases sk (" ":Str).cps.toList u with
    |none=>rfl
    |some y=>obtain⟨_,v⟩:=y;rfl
  ·rw[if_neg h0,if_neg h0];cases sk (" ":Str).cps.toList t with
   |none=>rfl
   |some y=>obtain⟨_,v⟩:=y;rfl
theorem pY (before:Nat) (r:List UInt8):mLn before (32::r)=if before=0 then none else some (before,r):=by
 unfold mLn;rw[CO (z:=" ") (x:=32) rfl,if_pos (by simp),FJ (z:=" ") (x:=32) rfl,if_pos rfl]
def mMo (k:LuteTab.Kind) (n:Nat) (t:List UInt8):Option (Ln×List UInt8):=match D0 (mSt (kdN k) t) with
 |none=>none
 |some (st,v)=>some ((n,st),v)
theorem j6 (k:LuteTab.Kind) (before:Nat) (l:List UInt8) (h:see "|" l=false):mPl (kdN k) before l=match mLn before l with
 |none=>none
 |some (n,t)=>mMo k n t:=by
 unfold mPl mMo;rw[if_neg (by rw[h];decide)];cases mLn before l with
 |none=>rfl
 |some y=>
  obtain⟨n,t⟩:=y;dsimp only;cases mSt (kdN k) t with
  |none=>rfl
  |some y=>
   obtain⟨st,u⟩:=y;show(match sk ("\n":Str).cps.toList u with
    |none=>none
    |some (_,v)=>some ((n,st),v))=(match (match sk ("\n":Str).cps.toList u with
    |none=>none
    |some (_,u)=>some (st,u):Option (List Stop×List UInt8)) with
    |none=>none
    |some (st,v)=>some ((n,st),v))
   cases sk ("\n":Str).cps.toList u with
   |none=>rfl
   |some y=>obtain⟨_,v⟩:=y;rfl
theorem eD (kd before p:Nat) (r:List UInt8):mPl kd before (124::r)=match fg (LuteTab.want [LuteTab.END] p r) with
 |none=>none
 |some (_,t)=>some ((0,[]),t):=by
 unfold mPl;rw[CO (z:="|") (x:=124) rfl,if_pos (by simp)];have e:sk ("|\n":Str).cps.toList (124::r)=fg (LuteTab.want [LuteTab.END] p r):=by
  rw[HQ,show("|\n":Str).cps.toList=[124,10] by decide +kernel,sk,if_pos (show UInt8.toNat 124=124 from rfl)];rfl
 rw[e];all_goals rfl
theorem K9 {k:LuteTab.Kind} {l v:List UInt8} {s:List Stop} (h:LuteTab.stopsAt k p l= .ok (s,q,v)):v.length<l.length/\D0 (mSt (kdN k) l)=some (s,v):=by
 have e:=f8 k p l;rw[h] at e;refine⟨?_,e⟩;cases hm:mSt (kdN k) l with
 |none=>rw[hm] at e;cases e
 |some y=>
  obtain⟨st,u⟩:=y;rw[hm] at e;have h1:=V8 hm;replace e:(match sk ("\n":Str).cps.toList u with
   |none=>none
   |some (_,u)=>some (st,u):Option (List Stop×List UInt8))=some (s,v):=e
  cases hs:sk ("\n":Str).cps.toList u with
  |none=>rw[hs] at e;cases e
  |some y=>
   obtain⟨_,w⟩:=y;have h2:w.length+1=u.length:=BN hs;rw[hs] at e;cases e;omega
theorem a5 (k:LuteTab.Kind) (n p:Nat) (t:List UInt8):mMo k n t=match LuteTab.stopsAt k p t with
 | .error _=>none
 | .ok (l,_,u)=>some ((n,l),u):=by
 unfold mMo;rw[f8 k p t];cases LuteTab.stopsAt k p t with
 |error e=>rfl
 |ok y=>obtain⟨l,q,u⟩:=y;rfl
def app (acc:List Ln):Option LuteTab.Piece->Option (List Ln)
 |none=>none
 |some x=>some (acc++x.map CF)
theorem a6 (acc:List Ln) (ln:LuteTab.Line) (o:Except Nat LuteTab.Piece):app (acc++[CF ln]) (fe o)=app acc (fe (o.map λ(x:LuteTab.Piece)=>ln::x)):=by
 cases o with
 |error e=>rfl
 |ok x=>simp[app,fe,Except.map]
theorem SI (k:LuteTab.Kind):∀(f p last:Nat) (acc:List Ln) (l:List UInt8),l.length<f->acc.length<=512->mLs (kdN k) f acc last l=app acc (fe (LuteTab.linesAt k f last acc.length p l))
 |0,p,last,acc,l,h,_=>by omega
 |f+1,p,last,acc,[],h,_=>by
  rw[mLs,LuteTab.linesAt,if_pos (show([]:List UInt8).isEmpty=true from rfl)];by_cases h0:last=0
  ·rw[if_pos h0,if_pos h0];rfl
  ·rw[if_neg h0,if_neg h0];simp[app,fe]
 |f+1,p,last,acc,c::r,h,ha=>by
  rw[mLs,LuteTab.linesAt,if_neg (by simp)];have hrl:r.length<f:=by simpa using h
  by_cases hm:LuteTab.LINES<=acc.length
  ·have:acc.length=512:=by have h2:512<=acc.length:=hm;omega
   rw[if_pos this,if_pos hm];rfl
  ·have hlt:acc.length<512:=by have h2:¬512<=acc.length:=hm;omega
   rw[if_neg (by omega),if_neg hm];have step:∀(ln:LuteTab.Line) (last' q:Nat) (u:List UInt8),u.length<f->mLs (kdN k) f (acc++[CF ln]) last' u=app acc (fe ((LuteTab.linesAt k f last' (acc.length+1) q u).map λ(x:LuteTab.Piece)=>ln::x)):=λln last' q u hu=>by
    have:=SI k f q last' (acc++[CF ln]) u hu (by rw[bq];simp;omega);rw[this,a6,bq];rfl
   by_cases h124:c=124
   ·subst h124;rw[if_pos rfl,eD (kdN k) last (p+1) r];cases hw:LuteTab.want [LuteTab.END] (p+1) r with
    |error e=>rfl
    |ok y=>
     obtain⟨_,q,u⟩:=y;have e1:sk ([LuteTab.END].map (·.toNat)) r=some ((),u):=by rw[←HQ _ (p+1),hw];rfl
     have h2:u.length+1=r.length:=BN e1;show mLs (kdN k) f (acc++[(0,[])]) (if 0=0 then last else 0) u=_;rw[if_pos rfl];exact step .bar last q u (by omega)
   ·rw[if_neg h124];have hbar:see "|" (c::r)=false:=by rw[CO (z:="|") (x:=124) rfl];simp[h124]
    rw[j6 k last (c::r) hbar];by_cases h32:c=32
    ·subst h32;rw[if_pos (show(32:UInt8)=LuteTab.BLANK from rfl),pY];by_cases h0:last=0
     ·rw[if_pos h0,if_pos h0];rfl
     ·rw[if_neg h0,if_neg h0];dsimp only;rw[a5 k last (p+1) r];cases hs:LuteTab.stopsAt k (p+1) r with
      |error e=>rfl
      |ok y=>
       obtain⟨l,q,u⟩:=y;have:=(K9 hs).1;show mLs (kdN k) f (acc++[(last,l)]) (if last=0 then last else last) u=_;rw[if_neg h0];exact step (.moment last l) last q u (by omega)
    ·rw[if_neg (show¬c=LuteTab.BLANK from h32),f9 last c r h32];have hle:=j5 p (c::r);rw[hle];cases hl:LuteTab.lengthAt p (c::r) with
     |error e=>rfl
     |ok y=>
      obtain⟨n,q,u⟩:=y;have hm2:UJ (c::r)=some (n,u):=by rw[hle,hl];rfl
      have hn:=d9 hm2;show(match (match (if n=last then none else some (n,u):Option (Nat×List UInt8)) with
       |none=>none
       |some (n,t)=>mMo k n t:Option (Ln×List UInt8)) with
       |none=>none
       |some ((n,st),t)=>mLs (kdN k) f (acc++[(n,st)]) (if n=0 then last else n) t)=app acc (fe (if n=last then .error p else match LuteTab.stopsAt k q u with
       | .error e=>.error e
       | .ok (l,z,v)=>(LuteTab.linesAt k f n (acc.length+1) z v).map λ(x:LuteTab.Piece)=>.moment n l::x))
      by_cases hnl:n=last
      ·rw[if_pos hnl,if_pos hnl];rfl
      ·rw[if_neg hnl,if_neg hnl];dsimp only;rw[a5 k n q u];have hul:u.length<(c::r).length:=by
        have:mLn (n+1) (c::r)=some (n,u):=by rw[f9 _ c r h32,hm2];show(if n=n+1 then none else some (n,u))=_;rw[if_neg (by omega)]
        exact V6 this
       cases hs:LuteTab.stopsAt k q u with
       |error e=>rfl
       |ok y=>
        obtain⟨l,z,v⟩:=y;have hv:=(K9 hs).1;show mLs (kdN k) f (acc++[(n,l)]) (if n=0 then last else n) v=_;rw[if_neg (by omega)];exact step (.moment n l) n z v (by simp at hul;omega)
theorem eE (cs:List UInt8):mKd kws 0 cs=match LuteTab.kindAt cs with
 | .error _=>none
 | .ok (k,_,u)=>some (kdN k,u):=by
 have w:∀(z:Str) (bs:List UInt8) (i:Nat) (k:LuteTab.Kind),z.cps.toList=(bs++[LuteTab.END]).map (·.toNat)->kdN k=i->(match sk z.cps.toList cs with
  |none=>none
  |some (_,t)=>some (i,t))=match (match LuteTab.want (bs++[LuteTab.END]) 0 cs with
  | .error e=>.error e
  | .ok (_,q,u)=>.ok (k,q,u):LuteTab.Rd LuteTab.Kind) with
  | .error _=>none
  | .ok (k,_,u)=>some (kdN k,u):=λz bs i k hz hk=>by
  rw[hz, ←HQ _ 0 cs];cases LuteTab.want (bs++[LuteTab.END]) 0 cs with
  |error e=>rfl
  |ok y=>obtain⟨_,q,u⟩:=y;subst hk;rfl
 unfold kws;rw[mKd,mKd,mKd,mKd];cases cs with
 |nil=>rfl
 |cons c r=>
  rw[CO (z:=hd1 "french\n") (x:=102) (by decide +kernel),CO (z:=hd1 "italian\n") (x:=105) (by decide +kernel),CO (z:=hd1 "german\n") (x:=103) (by decide +kernel)];by_cases h1:c=102
  ·subst h1;rw[if_pos (by simp)];exact w "french\n" LuteTab.Kind.french.word 0 .french (by decide +kernel) rfl
  ·rw[if_neg (by simp[h1])];by_cases h2:c=105
   ·subst h2;rw[if_pos (by simp)];exact w "italian\n" LuteTab.Kind.italian.word 1 .italian (by decide +kernel) rfl
   ·rw[if_neg (by simp[h2])];by_cases h3:c=103
    ·subst h3;rw[if_pos (by simp)];exact w "german\n" LuteTab.Kind.german.word 2 .german (by decide +kernel) rfl
    ·rw[if_neg (by simp[h3])];have e:LuteTab.kindAt (c::r)= .error 0:=by
      unfold LuteTab.kindAt;split
      ·rename_i q;cases q;exact absurd rfl h1
      ·rename_i q;cases q;exact absurd rfl h2
      ·rename_i q;cases q;exact absurd rfl h3
      ·rfl
     rw[e]
def eF:Except Nat (LuteTab.Kind×LuteTab.Piece)->Option (List Ln)
 | .error _=>none
 | .ok (_,p)=>some (p.map CF)
theorem UK (cs:List UInt8):mPc cs=eF (LuteTab.read cs):=by
 unfold mPc LuteTab.read;rw[eE];cases LuteTab.kindAt cs with
 |error e=>rfl
 |ok y=>
  obtain⟨k,q,u⟩:=y;show mLs (kdN k) (u.length+1) [] 0 u=eF ((LuteTab.linesAt k (u.length+1) 0 0 q u).map λ(p:LuteTab.Piece)=>(k,p));rw[SI k (u.length+1) q 0 [] u (by omega) (by simp)];show app [] (fe (LuteTab.linesAt k (u.length+1) 0 0 q u))=_;cases LuteTab.linesAt k (u.length+1) 0 0 q u with
  |error e=>rfl
  |ok x=>rfl
theorem QM {signs:List UInt8}:∀{ns:List Nat} {p q:Nat} {l u:List UInt8} {s:List Stop},LuteTab.sixAt signs ns p l= .ok (s,q,u)->(s.map (·.course)).Sublist ns
 |[],p,q,l,u,s,h=>by
  rw[LuteTab.sixAt] at h;cases h;exact z5 _
 |c::ns,p,q,l,u,s,h=>by
  rw[LuteTab.sixAt] at h;split at h
  ·cases h
  ·split at h
   ·cases h
   ·rename_i h1;have ih:=QM h1;cases h;split
    ·exact ih.cons_cons _
    ·exact ih.cons _
def Up (k:Nat) (l:List Stop):Prop:=Z4 l/\∀s∈l,k<s.course
theorem QN {k:Nat} {s:Stop} {l:List Stop} (h:k<s.course) (u:Up s.course l):Up k (s::l):=
 ⟨fx.mpr ⟨u.2,u.1⟩,λx hx=>by
  rcases bp.mp hx with rfl|hx
  ·exact h
  ·have:=u.2 x hx;omega⟩
theorem UL (k:Nat):Up k []:=⟨on,by simp⟩
theorem a7 {rd:Nat->List UInt8->LuteTab.Rd Nat}:∀{f last p q:Nat} {l u:List UInt8} {s:List Stop},LuteTab.bassesAt rd f last p l= .ok (s,q,u)->Up last s
 |0,last,p,q,l,u,s,h=>by rw[LuteTab.bassesAt] at h;cases h
 |f+1,last,p,q,[],u,s,h=>by rw[LuteTab.bassesAt] at h;cases h
 |f+1,last,p,q,c::r,u,s,h=>by
  rw[LuteTab.bassesAt] at h;split at h
  ·cases h;exact UL _
  ·split at h
   ·cases h
   ·split at h
    ·cases h
    ·split at h
     ·cases h
     ·split at h
      ·cases h
      ·rename_i h1;have ih:=a7 h1;cases h;exact QN (uT (by assumption)) ih
theorem gA:∀{f last p q:Nat} {l u:List UInt8} {s:List Stop},LuteTab.germanStops f last p l= .ok (s,q,u)->Up last s
 |0,last,p,q,l,u,s,h=>by rw[LuteTab.germanStops] at h;cases h
 |f+1,last,p,q,l,u,s,h=>by
  rw[LuteTab.germanStops] at h;split at h
  ·cases h
  ·split at h
   ·cases h
   ·split at h
    ·cases h
    ·split at h
     ·cases h;exact QN (by omega) (UL _)
     ·split at h
      ·cases h
      ·split at h
       ·cases h
       ·rename_i h1;have ih:=gA h1;cases h;exact QN (by omega) ih
theorem gB {k:LuteTab.Kind} {l u:List UInt8} {s:List Stop} (h:LuteTab.stopsAt k p l= .ok (s,q,u)):Up 0 s:=by
 have glue:∀{a b:List Stop},Z4 a->(∀s∈a,0<s.course/\s.course<=6)->Up 6 b->Up 0 (a++b):=λ{a b} ra ha hb=>
  ⟨sY.mpr ⟨ra,hb.1,λx hx y hy=>by have:=ha x hx;have:=hb.2 y hy;omega⟩,λx hx=>by
   rcases cj.mp hx with hx|hx
   ·exact(ha x hx).1
   ·have:=hb.2 x hx;omega⟩
 unfold LuteTab.stopsAt at h;cases k with
 |french=>
  simp only at h;split at h
  ·cases h
  ·rename_i h1;split at h
   ·cases h
   ·rename_i h2;cases h;have sb:=QM h1;refine glue ?_ (λx hx=>?_) (a7 h2)
    ·exact wQ.mp (vA sb (by decide))
    ·have:=sb.subset (qe (f:=λs:Stop=>s.course) hx);simp at this;omega
 |italian=>
  simp only at h;split at h
  ·cases h
  ·rename_i h1;split at h
   ·cases h
   ·rename_i h2;cases h;have sb:=QM h1;refine glue ?_ (λx hx=>?_) (a7 h2)
    ·have:List.Pairwise (λa b:Stop=>b.course<a.course) _:=wQ.mp (vA sb (R:=λa b=>b<a) (by decide));exact List.pairwise_reverse.mpr this
    ·have:=sb.subset (qe (f:=λs:Stop=>s.course) (xo.mp hx));simp at this;omega
 |german=>
  simp only at h;split at h
  ·split at h
   ·cases h
   ·cases h;exact UL _
  ·exact gA h
theorem j7 {l u:List UInt8} (h:LuteTab.lengthAt p l= .ok (n,q,u)):0<n:=by
 have h2:∀i:Nat,0<2 ^ i:=λi=>jn (by decide);unfold LuteTab.lengthAt at h;split at h
 ·cases h
 ·split at h
  ·cases h
  ·split at h
   ·split at h
    ·cases h
    ·cases h;exact Nat.add_pos_left (h2 _) _
   ·split at h<;>cases h
   ·cases h;exact h2 _
   ·cases h
def LnK (x:LuteTab.Line):Prop:=match x with
 | .bar=>True
 | .moment n l=>0<n/\Up 0 l
theorem eG {k:LuteTab.Kind}:∀{f last many p:Nat} {l:List UInt8} {x:LuteTab.Piece},LuteTab.linesAt k f last many p l= .ok x->∀y∈x,LnK y
 |f,last,many,p,[],x,h=>by
  have h':LuteTab.linesAt k f last many p []=if last=0 then .error p else .ok []:=by cases f<;>rw[LuteTab.linesAt]
  rw[h'] at h;split at h
  ·cases h
  ·cases h;simp
 |0,last,many,p,c::r,x,h=>by rw[LuteTab.linesAt] at h;cases h;simp
 |f+1,last,many,p,c::r,x,h=>by
  have mp:∀{e:Except Nat LuteTab.Piece} {a:LuteTab.Line},(e.map λ(x:LuteTab.Piece)=>a::x)= .ok x->LnK a->(∀z,e= .ok z->∀y∈z,LnK y)->∀y∈x,LnK y:=λ{e a} h ha hz=>by
   cases e with
   |error _=>cases h
   |ok z=>
    cases h;intro y hy;rcases bp.mp hy with rfl|hy
    ·exact ha
    ·exact hz z rfl y hy
  rw[LuteTab.linesAt] at h;split at h
  ·cases h
  ·split at h
   ·split at h
    ·cases h
    ·exact mp h iz λz hz=>eG hz
   ·split at h
    ·split at h
     ·cases h
     ·split at h
      ·cases h
      ·rename_i h0 _ _ _ _ h1;exact mp h ⟨by omega,gB h1⟩ λz hz=>eG hz
    ·split at h
     ·cases h
     ·rename_i h1;split at h
      ·cases h
      ·split at h
       ·cases h
       ·rename_i h2;exact mp h ⟨j7 h1,gB h2⟩ λz hz=>eG hz
theorem UM {k:LuteTab.Kind} {p:LuteTab.Piece} (h:LuteTab.read cs= .ok (k,p)):dU p/\PcK (p.map CF):=by
 have hk:∀y∈p,LnK y:=by
  unfold LuteTab.read at h;split at h
  ·cases h
  ·rename_i k' q u _;cases e:LuteTab.linesAt k' (u.length+1) 0 0 q u with
   |error _=>rw[e] at h;cases h
   |ok z=>rw[e] at h;cases h;exact eG e
 refine⟨λn l hm=>(hk _ hm).1,⟨λq hq=>?_,λq hq h0=>?_,λq hq s hs=>?_⟩⟩
 ·obtain⟨y,hy,rfl⟩:=jx.mp hq;cases y with
  |bar=>exact on
  |moment n l=>exact(hk _ hy).2.1
 ·obtain⟨y,hy,rfl⟩:=jx.mp hq;cases y with
  |bar=>rfl
  |moment n l=>
   have h0:n=0:=h0;have:=(hk _ hy).1;omega
 ·obtain⟨y,hy,rfl⟩:=jx.mp hq;cases y with
  |bar=>exact absurd hs (by show¬s∈[];simp)
  |moment n l=>exact(hk _ hy).2.2 s hs
theorem a8 (t:Lute.Inst) (s:Stop) (h:1<=s.course):plc (t.frets.map ro) (t.courses.map ro) (t.basses.map ro) s=t.place s.course s.fret:=by
 unfold plc Lute.Inst.place Lute.Inst.many Lute.Inst.opens;rw[ah,ah,ah,bq,decide_eq_true h,qj];by_cases hc:s.course<=t.courses.length
 ·rw[if_pos hc,if_pos hc,decide_eq_true (show s.course<=t.courses.length+t.basses.length by omega),qj]
 ·rw[if_neg hc,if_neg hc];congr 1;rw[decide_eq_decide];omega
theorem UN {pl pl':Stop->Bool}:∀(p:LuteTab.Piece) (i x:Nat),(∀q∈p.map CF,∀s∈q.2,pl s=pl' s)->
 EK pl i (p.map CF)=match (LuteSound.struckFrom i x p).find? λ(s:LuteSound.Struck)=>!pl' s.halt_ with
  |none=>none
  |some s=>some (s.line,s.halt_.course)
 |[],i,x,_=>rfl
 | .bar::r,i,x,h=>by
   rw[de,LuteSound.struckFrom];show EK pl i ((0,[])::r.map CF)=_;rw[EK];exact UN r (i+1) x λq hq=>h q (ao _ hq)
 | .moment n l::r,i,x,h=>by
   rw[de,LuteSound.struckFrom];show EK pl i ((n,l)::r.map CF)=_;rw[EK,om];have e:((l.map λ(s:LuteTab.Stop)=>(⟨i,x,x+n,s⟩:LuteSound.Struck)).find? λ(s:LuteSound.Struck)=>!pl' s.halt_)=(l.find? λs=>!pl s).map λs=>(⟨i,x,x+n,s⟩:LuteSound.Struck):=by
    rw[yq];congr 1;have:∀l':List Stop,(∀s∈l',pl s=pl' s)->(l'.find? ((λ(s:LuteSound.Struck)=>!pl' s.halt_)∘λ(s:LuteTab.Stop)=>(⟨i,x,x+n,s⟩:LuteSound.Struck)))=l'.find? λs=>!pl s:=by
     intro l';induction l' with
     |nil=>intro _;rfl
     |cons a b ih=>
      intro hh;have h1:=hh a bb;rw[jf,jf];show(match !pl' a with|true=>some a|false=>_)=(match !pl a with|true=>some a|false=>_);rw[h1,ih λs hs=>hh s (ao _ hs)]
    exact this l λs hs=>h (n,l) bb s hs
   rw[e];cases l.find? λs=>!pl s with
   |some s=>rfl
   |none=>exact UN r (i+1) (x+n) λq hq=>h q (ao _ hq)
theorem a9 {F:St3->List Ln->List Int} {f:Lute.Inst->LuteTab.Piece->List Int} (h:∀t k p,Lute.readInst ci= .ok t->LuteTab.read ct= .ok (k,p)->F (fr3 t) (p.map CF)=f t p):
 (match GH dz0 fz0 ci ct with
  | .error z=>[z]
  | .ok (s,ps)=>F s ps)=LuteD.of ci ct f:=by
 unfold GH mTb LuteD.of;by_cases hl:4096<ci.length\/65536<ct.length
 ·rw[if_pos hl,if_pos (show LuteD.INST<ci.length\/LuteD.PIECE<ct.length from hl)];rfl
 ·rw[if_neg hl,if_neg (show¬(LuteD.INST<ci.length\/LuteD.PIECE<ct.length) from hl),NQ];cases hi:Lute.readInst ci with
  |error e=>rfl
  |ok t=>
   have hp:=UK ct;cases hr:LuteTab.read ct with
   |error e=>
    rw[hr] at hp;rw[hp];rfl
   |ok y=>
    obtain⟨k,p⟩:=y;rw[hr] at hp;rw[hp];exact h t k p hi hr
theorem eH {t:Lute.Inst} {p:LuteTab.Piece} (k:PcK (p.map CF)):EK (plc (fr3 t).1 (fr3 t).2.1 (fr3 t).2.2) 0 (p.map CF)=(LuteSound.misfit t p).map λs=>(s.line,s.halt_.course):=by
 show EK (plc (t.frets.map ro) (t.courses.map ro) (t.basses.map ro)) 0 (p.map CF)=_;rw[UN (pl':=λs=>t.place s.course s.fret) p 0 0 λq hq s hs=>a8 t s (k.one q hq s hs)];unfold LuteSound.misfit LuteSound.struck LuteSound.fitsStop;cases (LuteSound.struckFrom 0 0 p).find? λ(s:LuteSound.Struck)=>!t.place s.halt_.course s.halt_.fret<;>rfl
end Lt
end
section
namespace L2
open PySem PySem.Spec PyProof.Rows
def LK (f:Addr) (o:Obj):HO:=.ext λh=>h.get? f=some o
def LL (c:Addr) (q:Str):HO:=.ext λh=>h.CodeRec (.ref c) q
section
variable {P:aw} {w:bv} {H:Hp} {h:Heap}
theorem WH {f:Addr} {o:Obj} (e:h.get? f=some o):ObjOk P w H h f (LK f o):=⟨e,⟨o,e⟩,λ_ _ p k=>k _ p⟩
theorem eI {c:Addr} {q:Str} (e:h.CodeRec (.ref c) q):ObjOk P w H h c (LL c q):=by
 refine⟨e,?_,λh1 h2 p k=>?_⟩
 ·obtain⟨c',o,vs,t,e1,e2,_⟩:=e;cases e1;exact⟨o,e2⟩
 ·obtain⟨c',o,vs,t,e1,e2,e3⟩:=p;cases e1;exact⟨_,o,vs,t,rfl,k o e2,e3⟩
theorem bA {f:Addr} {o:Obj} (ok:HOk P w H h) (e:H f=some (LK f o)):h.get? f=some o:=(ok f _ e).1
theorem bB {c:Addr} {q:Str} (ok:HOk P w H h) (e:H c=some (LL c q)):h.CodeRec (.ref c) q:=(ok c _ e).1
end
def O5 (P:aw) (w:bv) (K:aa) (mg:Str->Option ag) (base:Heap) (N:List Str) (qual:Str) (scope:Scope) (f:Addr) (cd:ag) (cl:List (Str×Addr)) (A:cy) (outer:List Env) (s:ai) (H:Hp):Cx where
 prog:=P
 w:=w
 K:=K
 mg:=mg
 base:=base
 A:=A.deeper (vg qual scope s.heap.objs.size f cd cl)
 N:=N
 s_0:=s
 H_0:=H
 env:=vg qual scope s.heap.objs.size f cd cl
 outer:=outer
 stack:=vg qual scope s.heap.objs.size f cd cl::outer
 ex:=[]
 calm:=true
 fn:=λ_=>false
 pn:=[]
 xe:=λ_ _=>False
structure LamScope (x:Str) (fr:List Str) (sc:Scope):Prop where
 kind:sc.kind= .function
 co:sc.isCoroutine=false
 gen:sc.isGenerator=false
 nd:(x::fr).Nodup
 par:sc.names.lookup x=some .local
 nocell:∀y∈sc.names,y.2≠.cell
 free:∀y∈fr,sc.names.lookup y=some .free
section
variable {P:aw} {w:bv} {K:aa} {mg:Str->Option ag} {base:Heap} {x:Str} {fr:List Str} {name qual:Str} {params:Arguments} {body:Expr} {scope:Scope} {f:Addr} {cd pm ctv:ag} {c':Addr} {cl:List (Str×Addr)}
 {A:cy} {outer:List Env} {s:ai} {H:Hp} {v:V} {u:ag} {fvs:List V}
structure CellsAre (cl:List (Str×Addr)) (scope:Scope) (fr:List Str) (fvs:List V) (H:Hp) (h:Heap):Prop where
 len:fr.length=fvs.length
 inj:∀y z c,cl.lookup y=some c->cl.lookup z=some c->y=z
 has:∀y,scope.names.lookup y=some .free->∃c,cl.lookup y=some c
 cell:∀y c,cl.lookup y=some c->∃v,h.IsCell c v
 free:∀y c,cl.lookup y=some c->H c=none
 val:∀(j:Nat) (y:Str) (v:V),fr[j]? =some y->fvs[j]? =some v->∃u c,RelV v u/\cl.lookup y=some c/\h.IsCell c (some u)
theorem eJ (S:LamScope x fr scope) (hd:A.handled=none) (e0:Env0 P w K mg base A outer s H) (r:RelV v u) (C:CellsAre cl scope fr fvs H s.heap) {h1:Heap} {tk:Nat}
 (hns:h1.Ns s.heap.objs.size (λy=>[(x,u)].reverse.lookup y)) (hk:∀b o,s.heap.get? b=some o->h1.get? b=some o):
 Inv (O5 P w K mg base (x::fr) qual scope f cd cl A outer s H) [] (some v::fvs.map some) H { s with heap:=h1,toks:=tk }:=by
 have noA:∀b:Addr,b∉(O5 P w K mg base (x::fr) qual scope f cd cl A outer s H).ex:=λb z=>absurd (show b∈([]:List Addr) from z) (by simp);have ck:∀{c:Addr} {v:Option ag},s.heap.IsCell c v->h1.IsCell c v:=λ{c v} ⟨o,ho,hd⟩=>⟨o,hk _ _ ho,hd⟩
 refine⟨⟨e0.mod,S.kind,rfl,rfl,aq _,C.inj,λy hy=>?_,λy c q _=>absurd q (by simp[O5]),λ_=>hd,sV e0.frames,.inr ⟨rfl,rfl⟩,λb z=>absurd z (noA b),e0.bs,e0.bsz,λb _ _=>noA b,λb z=>absurd z (noA b),e0.funs,e0.frf⟩,
  rfl,e0.bare,Un.kept hk,⟨_,hns,λi y v' h1' h2 h3=>?_⟩,λy c q=>?_,e0.hok.fresh (aq _),C.free,λp hp=>absurd (show p∈([]:List (Addr×Obj)) from hp) (by simp),e0.hok.kept hk,?_⟩
 ·have hy:scope.names.lookup y=some .cell\/scope.names.lookup y=some .free:=hy;rcases hy with hy|hy
  ·exact absurd rfl (S.nocell _ (cn hy))
  ·exact C.has y hy
 ·have h1':(x::fr)[i]? =some y:=h1';cases i with
  |zero=>
   have e:x=y:=by simpa using h1'
   subst e;have e2:v=v':=by simpa using h2
   subst e2;exact⟨u,r,.inl ⟨S.par,by simp⟩⟩
  |succ j=>
   have h1':fr[j]? =some y:=by simpa using h1'
   have h2:fvs[j]? =some v':=by simpa using h2
   obtain⟨u',c,r',hc,z⟩:=C.val j y v' h1' h2;exact⟨u',r',.inr ⟨.inr (S.free y (bo h1')),c,hc,ck z⟩⟩
 ·obtain⟨v,z⟩:=C.cell y c q;exact⟨v,ck z⟩
 ·show(some v::fvs.map some).length=(x::fr).length;simp[C.len]
theorem eK {CX:CXT} {Q:VK} {E:XK} {t:TE} (S:LamScope x fr scope) (hr:Room 1 A) (e0:Env0 P w K mg base A outer s H) (r:RelV v u) (C:CellsAre cl scope fr fvs H s.heap)
 (ho:s.heap.get? f=some (nq name qual params body scope cl pm c' ctv)) (hcd:s.heap.CodeRec (.ref c') qual) (hb:vE (vU name qual params body scope cl pm (.ref c') ctv) ⟨[u],[]⟩=pure [(x,u)])
 (hbody:PE (O5 P w K mg base (x::fr) qual scope f (.ref c') cl A outer s H) body t) (hq:t (some v::fvs.map some) H Q):
 ml (bi P w) A (.call (.ref f) ⟨[u],[]⟩) (CR CX outer P w H s Q E) s:=by
 have lim:s.heap.NoLimit:=e0.mod.nolimit.keeps λb o e=>(e0.bs b o e).1;refine PySem.W.kla_callFunE hr.depth ho rfl S.co S.gen rfl hcd ?_;rw[hb];refine am (wpAny_newFunctionEnv S.nocell (λy hy=>by rw[gq.mp hy];exact S.par) (λh1 hns hsb=>?_) S.kind);have hk:∀b o,s.heap.get? b=some o->h1.get? b=some o:=λb o e=>hsb.extBut b o (cg (bh e)) (ak _ e);refine⟨lim.keeps hk,?_⟩;show ml _ _ (.expr body (vg qual scope s.heap.objs.size f (.ref c') cl)) _ _;have I:=eJ (qual:=qual) (f:=f) (cd:=.ref c') S hr.hd e0 r C (tk:=s.toks+[(x,u)].length) hns hk;refine PySem.W.kla_codeExpr (gg (hbody [] _ _ H Q I hq) (λv' s' hs=>?_) λ_ _ z=>z.elim);obtain⟨y,H',J,ry,q⟩:=hs;exact⟨y,H',J.os,J.bare,J.base,J.hok,ry,q⟩
end
def LamTbl (H:Hp) (P:Addr) (pos:Pos) (qual:Str):Prop:=
 ∃ps,H P=some (.tbl ps)/\TriplesOk ps.toList/\(codeAmong pos ps.toList=none\/∃c',codeAmong pos ps.toList=some (.ref c')/\H c'=some (LL c' qual))
def NR (mg:Str->Option ag) (base:Heap):Prop:=
 ∃bm ob,mg "__builtins__"=some (.ref bm)/\bm≠uX/\base.get? bm=some ob/\ob.cls= .type "module"/\ob.dict=some uX/\ob.data= .plain
def sC (X:Cx) (P:Addr) (params:Arguments) (body:Expr) (scope:Scope) (pos:Pos):TE:=λ_ H Q=>LamTbl H P pos (X.env.qual++"<lambda>")/\∀(f c':Addr) (ctv:ag) (H':Hp),H f=none->Sb P H H'->
 H' f=some (LK f (nq "<lambda>" (X.env.qual++"<lambda>") params body scope (BA X.env.cells scope.names []) ((X.mg "__name__").getD .none) c' ctv))->H' c'=some (LL c' (X.env.qual++"<lambda>"))->
 LamTbl H' P pos (X.env.qual++"<lambda>")->Q (.ref f) H'
section
variable {X:Cx} {c P:Addr} {params:Arguments} {body:Expr} {scope:Scope} {pos:Pos}
theorem j8 (B:NR X.mg X.base) (C:ue X.base c P) (hcode:X.env.code= .ref c) (hfr:∀y∈scope.names,y.2= .free->X.env.kindOf y.1=some .cell\/X.env.kindOf y.1=some .free) (hdef:defaultsOf params X.env=([],[]):=by rfl):
 PE X (.Lambda params body scope pos) (sC X P params body scope pos):=by
 intro pins s σ H Q I h;obtain⟨⟨ps,hP,ht,hc⟩,q⟩:=h;have hP':s.heap.get? P=some (PySem.W.tabObj ps):=I.hok P _ hP;have hg:s.heap.Ns mainGlobals X.mg:=I.ok.mod.glob.keeps I.bk;have hgo:∃o es ep,X.base.get? mainGlobals=some o/\o.data= .dict es ep:=by
  obtain⟨o,es,ep,e,d,_⟩:=I.ok.mod.glob;exact⟨o,es,ep,e,d⟩
 obtain⟨og,es,ep,eg,dg⟩:=hgo;obtain⟨bm,ob,b1,b2,b3,b4,b5,b6⟩:=B;have nP:∀{b:Addr},H b=none->b≠P:=λ{b} n z=>by rw[z,hP] at n;cases n
 have hgP:mainGlobals≠P:=nP (I.bs _ _ eg).2;have hbG:bm≠mainGlobals:=λz=>by rw[z,eg] at b3;cases b3;rw[dg] at b6;cases b6
 have hb:s.heap.BuiltinsAt X.mg P:=⟨bm,ob,b1,b2,hbG,nP (I.bs _ _ b3).2,I.bk _ _ b3,b4,b5,b6⟩
 have hcl:yf scope X.env=pure (BA X.env.cells scope.names []):=MR λy hy e=>I.ok.has _ (hfr y hy e);have hPl:P<s.heap.objs.size:=bh hP';rcases hc with hn|⟨c',hf,hc'⟩
 ·refine xp hdef (PySem.W.kla_makeFunction hcl I.ok.glob hg hcode (C.keeps I.bk) hP' ht hn hgP hb λc' ctv h' tk hx hge hlt hrec htb=>?_);generalize hfo:nq "<lambda>" (X.env.qual++"<lambda>") params body scope (BA X.env.cells scope.names []) ((X.mg "__name__").getD .none) c' ctv=fo at q ⊢;have q:=q h'.objs.size c' ctv;rw[hfo] at q;generalize hfa:h'.objs.size=f at q hlt ⊢;have hfs:s.heap.objs.size<=f:=cu hge (rj hlt);have ncP:P≠c':=cg (br hPl hge);have nfP:P≠f:=cg (br hPl hfs);have ncf:c'≠f:=cg hlt;have Hc:H c'=none:=I.hok.fresh hge;have Hf:H f=none:=I.hok.fresh hfs;have at1:upd (upd (upd H P (.tbl (ps++#[fv pos.line,fv pos.col,.ref c']))) c' (LL c' (X.env.qual++"<lambda>"))) f (LK f fo) f=some (LK f fo):=upd_same;have at2:upd (upd (upd H P (.tbl (ps++#[fv pos.line,fv pos.col,.ref c']))) c' (LL c' (X.env.qual++"<lambda>"))) f (LK f fo) c'=some (LL c' (X.env.qual++"<lambda>")):=by rw[AE ncf,upd_same]
  have at3:upd (upd (upd H P (.tbl (ps++#[fv pos.line,fv pos.col,.ref c']))) c' (LL c' (X.env.qual++"<lambda>"))) f (LK f fo) P=some (.tbl (ps++#[fv pos.line,fv pos.col,.ref c'])):=by rw[AE nfP,AE ncP,upd_same]
  have at4:∀b,b≠P->b≠c'->b≠f->upd (upd (upd H P (.tbl (ps++#[fv pos.line,fv pos.col,.ref c']))) c' (LL c' (X.env.qual++"<lambda>"))) f (LK f fo) b=H b:=λb n1 n2 n3=>by rw[AE n3,AE n2,AE n1]
  generalize upd (upd (upd H P (.tbl (ps++#[fv pos.line,fv pos.col,.ref c']))) c' (LL c' (X.env.qual++"<lambda>"))) f (LK f fo)=H' at at1 at2 at3 at4;have old:∀b o,H b=some o->b≠P->H' b=some o:=λb o e n=>by
   rw[at4 b n (AG e Hc) (AG e Hf)];exact e
  have kp:∀b o,b≠P->s.heap.get? b=some o->(h'.push fo).get? b=some o:=λb o n e=>ak _ (hx b o n e);have fr:∀b o,s.heap.get? b=some o->H b=none->H' b=none:=λb o e n=>by
   have hl:=bh e;rw[at4 b (nP n) (cg (br hl hge)) (cg (br hl hfs))];exact n
  have nt:∀{b:Addr} {o:HO},H b=some o->(∀ps,o≠.tbl ps)->b≠P:=λ{b o} e d z=>by rw[z,hP] at e;cases e;exact d _ rfl
  have U:Un X.fs [] H H' s.heap (h'.push fo):=by
   refine⟨λb o e n _ _=>kp b o (nP n) e,λb o e n _ _=>⟨o.slots,kp b o (nP n) e⟩,λb o e n _=>fr b o e n,λb o e _=>?_,λb xs e=>old b _ e (nt e λps z=>by cases z),λb o u e=>old b _ e (nt e λps z=>by cases z),λb ps' e=>?_⟩
   ·by_cases z:b=P
    ·subst z;exact⟨_,ak _ htb⟩
    ·exact⟨o,kp b o z e⟩
   ·by_cases z:b=P
    ·subst z;rw[hP] at e;cases e;exact⟨_,at3⟩
    ·exact⟨#[],by rw[old b _ e z];simp⟩
  have hok:HOk X.prog X.w H' (h'.push fo):=λb u e=>by
   by_cases z1:b=f
   ·subst z1;rw[at1] at e;cases e;exact WH (by rw[←hfa];exact bf _ (by rw[←hfo];rfl))
   ·by_cases z2:b=c'
    ·subst z2;rw[at2] at e;cases e;exact eI (hrec.push _)
    ·by_cases z3:b=P
     ·subst z3;rw[at3] at e;cases e;exact ak _ htb
     ·rw[at4 b z3 z2 z1] at e;refine(I.hok b u e).stay (λc v hc q=>kp c v ?_ q) (λc q=>old c _ q (nt q λps z=>by cases z)) λc xs q=>old c _ q (nt q λps z=>by cases z);rcases hc with z|z
      ·rw[z];exact z3
      ·exact nt z λps z=>by cases z
  refine⟨.ref f,H',I.un (t':=tk) U hok,rfl,q H' Hf (λb o e n=>old b o e n) at1 at2 ⟨_,at3,?_,.inr ⟨c',?_,at2⟩⟩⟩
  ·have e:(ps++#[fv pos.line,fv pos.col,bz c']).toList=ps.toList++[fv pos.line,fv pos.col,.ref c']:=by simp
   rw[e];exact TriplesOk_snoc _ _ _ _ ht
  ·have e:(ps++#[fv pos.line,fv pos.col,bz c']).toList=ps.toList++[fv pos.line,fv pos.col,.ref c']:=by simp
   rw[e];exact codeAmong_snoc _ ht hn
 ·refine xp hdef (PySem.W.kla_makeFunctionHit hcl I.ok.glob hg hcode (C.keeps I.bk) hP' ht hf hb λctv h' tk hk hsz=>?_);have Hf:H h'.objs.size=none:=I.hok.fresh hsz;have sm:=Same.upd (o:=LK h'.objs.size (nq "<lambda>" (X.env.qual++"<lambda>") params body scope (BA X.env.cells scope.names []) ((X.mg "__name__").getD .none) c' ctv)) Hf;exact⟨.ref _,_,I.laid (t':=tk) (λb o e=>ak _ (hk b o e)) hsz (WH (bf _ rfl)),rfl,q _ c' ctv _ Hf (λb o e _=>sm b o e) upd_same (sm _ _ hc') ⟨ps,sm _ _ hP,ht,.inr ⟨c',hf,sm _ _ hc'⟩⟩⟩
end
end L2
end
section
namespace L2
open PySem PySem.Spec PyProof.Rows
theorem cb.perm {α β:Type} {R:α->β->Prop} {l1 l2:List β} (p:l1.Perm l2):∀{as:List α},cb R as l2->∃bs:List α,bs.Perm as/\cb R bs l1:=by
 have key:∀{l1 l2:List β},l2.Perm l1->∀{as:List α},cb R as l2->∃bs:List α,bs.Perm as/\cb R bs l1:=by
  intro l1 l2 p;induction p with
  |nil=>intro as h;cases h;exact⟨[],.refl _,.nil⟩
  |cons x _ ih=>
   intro as h;cases h with
   |cons r t=>
    obtain⟨bs,p1,q1⟩:=ih t;exact⟨_::bs,p1.cons _,.cons r q1⟩
  |swap x y l=>
   intro as h;cases h with
   |cons r t=>
    cases t with
    |cons r2 t2=>exact⟨_::_::_,.swap ..,.cons r2 (.cons r t2)⟩
  |trans _ _ ih1 ih2=>
   intro as h;obtain⟨bs,p1,q1⟩:=ih1 h;obtain⟨cs,p2,q2⟩:=ih2 q1;exact⟨cs,p2.trans p1,q2⟩
 intro as h;exact key p.symm h
theorem cb.zip2 {α β γ δ:Type} {R:α->β->Prop} {S:γ->δ->Prop}:∀{as:List α} {bs:List β} {cs:List γ} {ds:List δ},cb R as bs->cb S cs ds->cb (λ(p:α×γ) (q:β×δ)=>R p.1 q.1/\S p.2 q.2) (as.zip cs) (bs.zip ds)
 |_,_,_,_,.nil,_=>.nil
 |_,_,_,_,.cons _ _,.nil=>.nil
 |_,_,_,_,.cons r t,.cons q u=>.cons ⟨r,q⟩ (cb.zip2 t u)
theorem cb.map_snd {α γ:Type} {R:α->γ->Prop} {T:V->ag->Prop} {f:α->V} {g:γ->ag} (h:∀a c,R a c->T (f a) (g c)):∀{as:List α} {cs:List γ},cb R as cs->cb T (as.map f) (cs.map g)
 |_,_,.nil=>.nil
 |_,_,.cons r t=>.cons (h _ _ r) (cb.map_snd h t)
theorem cb.at {α β:Type} {R:α->β->Prop}:∀{as:List α} {bs:List β} {i:Nat} {a:α},cb R as bs->as[i]? =some a->∃b,bs[i]? =some b/\R a b
 |_,_,_,_,.nil,e=>by simp at e
 |_,_,0,_,.cons r _,e=>by simp at e;subst e;exact⟨_,rfl,r⟩
 |_,_,i+1,a,.cons _ t,e=>by
  obtain⟨u,h1,h2⟩:=cb.at (i:=i) (a:=a) t (by simpa using e);exact⟨u,by simpa using h1,h2⟩
theorem cb.snc {α β:Type} {R:α->β->Prop} {a:α} {b:β} (r:R a b):∀{as:List α} {bs:List β},cb R as bs->cb R (as++[a]) (bs++[b])
 |_,_,.nil=>.cons r .nil
 |_,_,.cons q t=>.cons q (cb.snc r t)
theorem SJ:∀a b:List Int,lexLt itemOrd (a.map ko) (b.map ko)=HT.lexLt a b
 |[],[]=>rfl
 |[],_::_=>rfl
 |_::_,[]=>rfl
 |x::a,y::b=>by
  show(decide (x<y)||(!decide (y<x)&&lexLt itemOrd (a.map ko) (b.map ko)))=if x=y then HT.lexLt a b else decide (x<y);rw[SJ a b];by_cases e:x=y
  ·subst e;simp
  ·rw[if_neg e];by_cases l:x<y
   ·simp[l]
   ·have:y<x:=by omega
    simp[l,this]
abbrev KeyAt (H:Hp) (k:List Int) (v:ag):Prop:=∃p,v= .ref p/\H p=some (.tup (k.map V.int))
section
variable {X:Cx} {pins:List (Addr×Obj)} {σ:St} {H:Hp} {s:ai}
theorem KeyAt.same {H H':Hp} (e:Same H H') {k:List Int} {v:ag} (h:KeyAt H k v):KeyAt H' k v:=let ⟨p,e1,e2⟩:=h;⟨p,e1,e _ _ e2⟩
theorem UO {k:List Int} {its:List ag} (r:Vals (k.map V.int) its):∀i,tupItems (λ_=>false) i its=some (k.map ko):=by
 induction k generalizing its with
 |nil=>intro i;cases r;rfl
 |cons x k ih=>
  intro i;cases r with
  |cons r t=>
   obtain⟨tk,rfl⟩:=r;show(if(false:Bool)=true then none else(tupItems (λ_=>false) (i+1) _).map (ko x::·))=_;rw[if_neg (by simp),ih t];rfl
theorem KeyAt.key {P:aw} {w:bv} {H:Hp} {h:Heap} (ok:HOk P w H h) {k:List Int} {v:ag} (q:KeyAt H k v):xq h (λ_=>false) v=some (k.map ko):=by
 obtain⟨p,rfl,e⟩:=q;obtain⟨z,its,r,ob,e1,c,n,d⟩:=ok p _ e;have hi:G.isTupObj h (.ref p)=true:=by
  show(match h.get? p with|some o=>(match o.cls with| .type n=>n=="tuple"|_=>false)|none=>false)=true;rw[e1];simp only[c];rfl
 unfold xq;rw[if_pos hi];show(match h.get? p with|some o=>(match o.data with| .seq xs _=>tupItems (λ_=>false) 0 xs.toList|_=>none)|none=>none)=_;rw[e1];simp only[d];exact UO r 0
theorem KeyAt.tups {P:aw} {w:bv} {H:Hp} {h:Heap} (ok:HOk P w H h):∀{ks:List (List Int)} {vs:List ag},(∀k∈ks,k≠[])->cb (KeyAt H) ks vs->∃fs,TupsOf h (λ_=>false) vs fs/\fs.length=ks.length
 |_,_,_,.nil=>⟨[],.nil,rfl⟩
 |k::ks,v::vs,ne,.cons q t=>by
  obtain⟨fs,h1,h2⟩:=KeyAt.tups ok (λk hk=>ne k (ao _ hk)) t;obtain⟨p,rfl,e⟩:=q;obtain⟨z,its,r,ob,e1,c,n,d⟩:=ok p _ e;cases k with
  |nil=>exact absurd rfl (ne [] (bb ..))
  |cons x k=>
   cases r with
   |cons r t'=>
    obtain⟨tk,rfl⟩:=r;exact⟨_::fs,.cons ⟨p,ob,_,n,rfl,e1,c,d,rfl,λ_=>⟨x,tk,rfl⟩,λz=>absurd z (by simp)⟩ h1,by simp[h2]⟩
theorem Inv.take {t':Nat} {it:Addr} {o:HO} {h':Heap} (I:Inv X pins σ H s) (k:∀b o,b≠it->s.heap.get? b=some o->h'.get? b=some o) (hn:H it=none) (hL:it≠X.env.locals)
 (h1:it∈X.ex\/X.s_0.heap.objs.size<=it) (h2:∀x c,X.env.cells.lookup x=some c->c≠it) (h3:∀p∈X.pn++pins,p.1≠it) (new:ObjOk X.prog X.w (upd H it o) h' it o):Inv X pins σ (upd H it o) { s with heap:=h',toks:=t' }:=by
 have nit:∀b u,H b=some u->b≠it:=λb u e z=>by rw[z,hn] at e;cases e
 refine I.step (g':=s.gens) (d':=s.drawn) (ch:=[it]) (λb hb=>?_) (λb o _ _ hc e _=>k b o (λz=>hc (by simp[z])) e) (λb o _ _ hc e _=>⟨o.slots,k b o (λz=>hc (by simp[z])) e⟩) (λb _ hc _ n=>by rw[AE (λz=>hc (by simp[z]))];exact n)
  (λb o hc e=>⟨o,k b o (λz=>hc (by simp[z])) e⟩) (λb xs e=>by rw[AE (nit b _ e)];exact e) (λb o u e=>by rw[AE (nit b _ e)];exact e) (λb ps e=>⟨#[],by rw[AE (nit b _ e),e];simp⟩) (λm hm=>?_) (λb u e=>?_) I.bare
 ·have e:b=it:=by simpa using hb
  subst e;exact⟨h1,hL,h2,h3⟩
 ·obtain⟨o,es,ep,ho,r⟩:=hm;exact⟨o,es,ep,k _ o (cq hL) ho,r⟩
 ·by_cases hb:b=it
  ·subst hb;rw[upd_same] at e;cases e;exact new
  ·rw[AE hb] at e;refine(I.hok b u e).stay (λc v hc q=>k c v ?_ q) (λc q=>by rw[AE (nit c _ q)];exact q) λc xs q=>by rw[AE (nit c _ q)];exact q
   rcases hc with z|z
   ·rw[z];exact nit b u e
   ·exact nit c _ z
def Own (X:Cx) (pins:List (Addr×Obj)) (D:Addr):Prop:=D≠X.env.locals/\D∉X.fs/\X.s_0.heap.objs.size<=D/\(∀x c,X.env.cells.lookup x=some c->c≠D)/\∀p∈X.pn++pins,p.1≠D
theorem Inv.own (I:Inv X pins σ H s) {D:Addr} (h:s.heap.objs.size<=D):Own X pins D:=by
 refine⟨pd (br I.lt h),I.nofs h,cu I.sz h,λx c e z=>?_,λp hp z=>?_⟩
 ·obtain⟨v,o,ho,_⟩:=I.cell x c e;have hl:=bh ho;rw[z] at hl;exact absurd (br hl h) (iu _)
 ·have hl:=bh (I.pin p hp).1;rw[z] at hl;exact absurd (br hl h) (iu _)
def IG (H:Hp) (h:Heap) (D:Addr) (a:Array ag) (e:Nat):Prop:=h.get? D=some (me "list" a e)/\H D=none
theorem Inv.pin2 {D k:Addr} {a b:Array ag} {e e':Nat} (I:Inv X pins σ H s) (OD:Own X pins D) (OK:Own X pins k) (hD:IG H s.heap D a e) (hk:IG H s.heap k b e'):
 Inv X ((k,me "list" b e')::(D,me "list" a e)::pins) σ H s:=by
 refine I.pins_of λp hp=>?_;rcases bp.mp hp with rfl|hp
 ·exact⟨hk.1,hk.2,OK.1,OK.2.1,λv z=>by cases z⟩
 ·rcases bp.mp hp with rfl|hp
  ·exact⟨hD.1,hD.2,OD.1,OD.2.1,λv z=>by cases z⟩
  ·exact I.pin p (dh _ hp)
theorem Inv.unpin2 {D k:Addr} {a b:Array ag} {e e':Nat} (I:Inv X ((k,me "list" b e')::(D,me "list" a e)::pins) σ H s):Inv X pins σ H s/\IG H s.heap D a e/\IG H s.heap k b e':=by
 refine⟨I.pins_of λp hp=>I.pin p (dh _ (ao _ (ao _ hp))),?_,?_⟩
 ·have z:=I.pin (D,me "list" a e) (dh _ (ao _ (bb ..)));exact⟨z.1,z.2.1⟩
 ·have z:=I.pin (k,me "list" b e') (dh _ (bb ..));exact⟨z.1,z.2.1⟩
theorem Inv.lone {D:Addr} {a:Array ag} {e:Nat} (I:Inv X pins σ H s) (O:Own X pins D) (h:IG H s.heap D a e) (f:Array ag->Array ag):
 Inv X pins σ H { s with heap:=s.heap.update D (fb f) }/\(∃e',IG H (s.heap.update D (fb f)) D (f a) e')/\∀b o,b≠D->s.heap.get? b=some o->(s.heap.update D (fb f)).get? b=some o:=by
 have k:∀b o,b≠D->s.heap.get? b=some o->(s.heap.update D (fb f)).get? b=some o:=λb o n q=>by rw[mm _ _ _ _ n];exact q
 exact⟨I.turned (t':=s.toks) k h.2 O.1 (.inr O.2.2.1) O.2.2.2.1 O.2.2.2.2,⟨_,xR h.1 f,h.2⟩,k⟩
section
variable {A:cy} {E:ag->ai->Prop} {D kS q:Addr} {xs:List V} {vs:List ag} {ks:List (List Int)} {e1:Nat} {P:Aa->ai->Prop} {H0:Hp}
def JW (X:Cx) (pins:List (Addr×Obj)) (σ:St) (H0:Hp) (D:Addr) (ks:List (List Int)) (xs:List V) (P:Aa->ai->Prop):Prop:=
 ∀(H':Hp) (s':ai) (zs:List (List Int×V)),Inv X pins σ (upd H' D (.lst (zs.map (·.2)))) s'->Same H0 H'->H' D=none->zs.Perm (ks.zip xs)->zs.Pairwise (λa b=>HT.lexLt b.1 a.1=false)->P (.done (.ret .none)) s'
theorem XU {st:SortSt} {keys:Array ag} {e:Nat} {zs:List (List Int×V)} (I:Inv X pins σ H s) (sm:Same H0 H) (OD:Own X pins D) (OK:Own X pins kS) (hn:kS≠D) (hD:IG H s.heap D #[] e1) (hk:IG H s.heap kS keys e)
 (hz:keys.size<=sizeLine) (hp:cb (λ(p:List Int×V) (q:Keyed)=>KeyAt H p.1 q.1/\RelV p.2 q.2) zs (uf st).toList) (hzl:zs.length<=sizeLine) (pm:zs.Perm (ks.zip xs)) (pw:zs.Pairwise (λa b=>HT.lexLt b.1 a.1=false)) (hfl:failedOf st=none)
 (h:JW X pins σ H0 D ks xs P):be (bi X.prog X.w) A (ksk_tail D false e1 (.ref kS) st) P E s:=by
 unfold ksk_tail;try dsimp only
 obtain⟨I1,⟨e2,hk1⟩,k1⟩:=I.lone OK hk (λ_=>#[]);have hD1:IG H (s.heap.update kS (fb λ_=>#[])) D #[] e1:=⟨k1 _ _ hn.symm hD.1,hD.2⟩
 refine ae (uB hk.1 rfl ?_ hz (df _));refine ae (wpAny_letGo ?_);refine ae (seqEpoch_at hD1.1 rfl ?_);have hl:zs.length=(uf st).size:=hp.length.trans (fq ..);have hso:((uf st).map (·.2)).size<=sizeLine+1:=by
  rw[Array.size_map, ←hl];exact Nat.le_succ_of_le hzl
 refine ae (uB hD1.1 rfl ?_ (df _) (by simpa using hso));rw[hfl];simp only[bne_self_eq_false,fm,if_false];refine am (h H _ zs ?_ sm hD.2 pm pw);have k2:∀b o,b≠D->(s.heap.update kS (fb λ_=>#[])).get? b=some o->((s.heap.update kS (fb λ_=>#[])).update D (fb λ_=>(uf st).map (·.2))).get? b=some o:=λb o n q=>by rw[mm _ _ _ _ n];exact q
 have r2:Vals (zs.map (·.2)) ((uf st).map (·.2)).toList:=by
  rw[Array.toList_map];exact cb.map_snd (R:=λ(p:List Int×V) (q:Keyed)=>KeyAt H p.1 q.1/\RelV p.2 q.2) (λa c z=>z.2) hp
 obtain⟨e3,he3⟩:∃e3,((s.heap.update kS (fb λ_=>#[])).update D (fb λ_=>(uf st).map (·.2))).get? D=some (me "list" ((uf st).map (·.2)) e3):=⟨_,xR hD1.1 (λ_=>(uf st).map (·.2))⟩
 refine I1.take (t':=s.toks) k2 hD.2 OD.1 (.inr OD.2.2.1) OD.2.2.2.1 OD.2.2.2.2 ⟨by rw[ah];exact hzl,((uf st).map (·.2)).toList,e3,r2,?_⟩;rw[he3,vV]
theorem bC {keys:Array ag} {e:Nat} (I:Inv X pins σ H s) (sm:Same H0 H) (OD:Own X pins D) (OK:Own X pins kS) (hn:kS≠D) (hD:IG H s.heap D #[] e1) (hk:IG H s.heap kS keys e)
 (hlen:ks.length=xs.length) (hne:∀k∈ks,k≠[]) (rv:Vals xs vs) (hZ:xs.length<=sizeLine) (rk:cb (KeyAt H) ks keys.toList)
 (h:JW X pins σ H0 D ks xs P):be (bi X.prog X.w) A (ksk_end D false vs.toArray e1 (.ref kS) keys) P E s:=by
 have hvl:=rv.length;have hkl:ks.length=keys.size:=rk.length.trans (fq ..);have hzs:(keys.zip vs.toArray).size=vs.length:=by
  rw[Array.size_zip];show min keys.size vs.length=vs.length;omega
 have base:cb (λ(p:List Int×V) (q:Keyed)=>KeyAt H p.1 q.1/\RelV p.2 q.2) (ks.zip xs) (keys.zip vs.toArray).toList:=by
  rw[xr];exact cb.zip2 rk rv
 have hzl:(ks.zip xs).length<=sizeLine:=by rw[List.length_zip];omega
 have fin:∀st:SortSt,(uf st).Perm (keys.zip vs.toArray)->failedOf st=none->SortedToK (wu s.heap λ_=>false) (uf st) (keys.zip vs.toArray).size->be (bi X.prog X.w) A (ksk_tail D false e1 (.ref kS) st) P E s:=by
  intro st hp hf hs;obtain⟨zs,pm,pz⟩:=cb.perm (Array.perm_iff_toList_perm.mp hp) base;refine XU I sm OD OK hn hD hk (by omega) pz (by rw[pm.length_eq];exact hzl) pm ?_ hf h;rw[ky];intro i j hi hj hij;have zl:zs.length=(uf st).size:=pz.length.trans (fq ..);obtain⟨p,hp1,hp2, -⟩:=cb.at pz (aj hi);obtain⟨p',hp1',hp2', -⟩:=cb.at pz (aj hj);have hk1:=KeyAt.key I.hok hp2;have hk2:=KeyAt.key I.hok hp2';have hs':=hs i j (rj hij) (by rw[←hp.size_eq];omega);have kk:∀{i:Nat} {p:Keyed} {k:List Int},(uf st).toList[i]? =some p->xq s.heap (λ_=>false) p.1=some (k.map ko)->KK (wu s.heap λ_=>false) (uf st) i=k.map ko:=by
   intro i p k e1 e2;unfold KK;rw[kq] at e1;rw[e1];show(xq s.heap (λ_=>false) p.1).getD []=_;rw[e2];rfl
  rw[kk hp1 hk1,kk hp1' hk2] at hs';have hs'':lexLt itemOrd (zs[j].1.map ko) (zs[i].1.map ko)=false:=hs';rw[SJ] at hs'';exact hs''
 unfold ksk_end;try dsimp only
 simp only[fm,if_false];by_cases h2:vs.toArray.size<2
 ·rw[if_pos h2,if_pos h2];refine ae (am ?_);rw[StateT.run_pure];refine ae (am ?_);try dsimp only
  refine fin (zZ general' (keys.zip vs.toArray) #[] 7 none) (xS _) rfl ?_;intro i j hij hj;rw[hzs] at hj;rw[bg] at h2;have:i=j:=by omega
  subst this;exact KeyOrd.kle_refl _
 ·rw[if_neg h2,if_neg h2];rw[bg] at h2;obtain⟨fs,tf,fl⟩:=KeyAt.tups I.hok hne rk;have hkk:be (bi X.prog X.w) A (keyKind' keys.toList.toArray) (λk s'=>k=tuples' true/\s'=s) E s:=tup_kind (by omega) tf ⟨rfl,rfl⟩;rw[vV] at hkk;refine ae (gg hkk (λkd s' hq=>?_) λ_ _ z=>z);obtain⟨rfl,rfl⟩:=hq;refine ae (gg (G.wpS_sortRunsSt (κ:=wu s'.heap λ_=>false) (kd:=tuples' true) (a₀:=keys.zip vs.toArray) (st:=zZ (tuples' true) (keys.zip vs.toArray) #[] 7 none)
   (Q:=λ_ st'=>(uf st').Perm (keys.zip vs.toArray)/\failedOf st'=none/\SortedToK (wu s'.heap λ_=>false) (uf st') (keys.zip vs.toArray).size)
   (G.tupC_ltAt true (Ab _)) (λp hp=>?_) ⟨xS _,rfl,rfl⟩ rfl (Stable.refl _) (by rw[hzs];omega) λst' a1 a2 a3 _=>⟨a1,a2,a3⟩) ?_ λ_ _ e=>e)
  ·rw[xr] at hp;have hm:=(qu hp).1;obtain⟨i,hi,e⟩:=List.getElem_of_mem hm;have hi':i<ks.length:=by rw[hkl];exact Nat.lt_of_lt_of_eq hi (fq ..)
   obtain⟨b,hb,kb⟩:=cb.at rk (aj hi');rw[aj hi,e] at hb;cases hb;exact⟨_,KeyAt.key I.hok kb⟩
  ·rintro ⟨⟨⟩,st'⟩ s3 ⟨rfl,hp,hf,hs⟩;try dsimp only
   exact fin st' hp hf hs
theorem XV (I:Inv X pins σ H0 s) (OD:Own X pins D) (OK:Own X pins kS) (hn:kS≠D) (hD:IG H0 s.heap D #[] e1) (hk:IG H0 s.heap kS #[] 0)
 (hlen:ks.length=xs.length) (hne:∀k∈ks,k≠[]) (rv:Vals xs vs) (hZ:xs.length<=sizeLine)
 (turn:∀(i:Nat) (x:V) (k:List Int),xs[i]? =some x->ks[i]? =some k->∀(pins':List (Addr×Obj)) (H':Hp) (s':ai) (u:ag),Inv X pins' σ H' s'->Same H0 H'->RelV x u->
  be (bi X.prog X.w) A (call (.ref q) [u]) (EP X pins' σ λv H''=>∃p,v= .ref p/\H' p=none/\H''=upd H' p (.tup (k.map V.int))) (λ_ _=>False) s')
 (h:JW X pins σ H0 D ks xs P):be (bi X.prog X.w) A (ksk_rest D (.ref q) false vs.toArray e1 (.ref kS)) P E s:=by
 have hvl:=rv.length;have hZ2:=hZ;rw[bw] at hZ2;unfold ksk_rest;refine ae (wpAny_rule ?_);first
  |rw[List.forIn_toArray]
  |(rw[←wv];simp only[List.toList_toArray])
  |rw[←wv]
 refine ae (ksk_fold (λi s'=>∃(H':Hp) (kA:Array ag) (e:Nat),Inv X pins σ H' s'/\Same H0 H'/\IG H' s'.heap D #[] e1/\IG H' s'.heap kS kA e/\cb (KeyAt H') (ks.take i) kA.toList) vs 0 s
  ⟨H0,#[],0,I,λ_ _ e=>e,hD,hk,.nil⟩ ?step ?done)
 case step=>
  rintro j u s' hu ⟨H',kA,e,I',sm,hD',hk',pk⟩;simp only[pp] at pk ⊢;have hj:j<vs.length:=(au.mp hu).1;have hxj:xs[j]? =some xs[j]:=aj (by omega);obtain⟨u',hu',ru⟩:=rv.get hxj;rw[hu] at hu';cases hu';have hkj:ks[j]? =some ks[j]:=aj (by omega);have hz:kA.size<=vs.length:=by
   have h1:(ks.take j).length=kA.size:=pk.length.trans (fq ..);rw[dk] at h1;omega
  refine ae (ux (gg (turn j _ _ hxj hkj _ H' s' u (I'.pin2 OD OK hD' hk') sm ru) (λv s2 he=>?_) λ_ _ hF=>hF.elim));obtain⟨y,H2,I2,ry,p,rfl,hpn,rfl⟩:=he;obtain rfl:v=bz p:=ry;obtain⟨I3,hD3,hk3⟩:=I2.unpin2;try dsimp only
  obtain⟨I4,⟨e4,hk4⟩,k4⟩:=I3.lone OK hk3 (·.push (.ref p));refine ae (uB hk3.1 rfl ?_ (by rw[bw];omega) (cu (rn (Array.size_push ..)) (by rw[bw];omega)));have smn:Same H' (upd H' p (.tup (ks[j].map V.int))):=Same.upd hpn;refine am ⟨rfl,_,kA.push (.ref p),e4,I4,sm.trans smn,⟨k4 _ _ hn.symm hD3.1,hD3.2⟩,hk4,?_⟩;have ek:ks.take (j+1)=ks.take j++[ks[j]]:=by rw[dj,hkj];rfl
  rw[ek,Array.toList_push];exact cb.snc ⟨p,rfl,upd_same⟩ (cb.imp' (λa b z=>KeyAt.same smn z) pk)
 case done=>
  rintro s' ⟨H',kA,e,I',sm,hD',hk',pk⟩;have e3:ks.take (0+vs.length)=ks:=sr (by omega);rw[e3] at pk;try dsimp only
  refine ae (listItems_at hk'.1 rfl ?_);exact bC I' sm OD OK hn hD' hk' hlen hne rv hZ pk h
theorem XW {n:Nat} (I:Inv X pins σ H0 s) (OD:Own X pins D) (hD:IG H0 s.heap D vs.toArray n)
 (hlen:ks.length=xs.length) (hne:∀k∈ks,k≠[]) (rv:Vals xs vs) (hZ:xs.length<=sizeLine)
 (turn:∀(i:Nat) (x:V) (k:List Int),xs[i]? =some x->ks[i]? =some k->∀(pins':List (Addr×Obj)) (H':Hp) (s':ai) (u:ag),Inv X pins' σ H' s'->Same H0 H'->RelV x u->
  be (bi X.prog X.w) A (call (.ref q) [u]) (EP X pins' σ λv H''=>∃p,v= .ref p/\H' p=none/\H''=upd H' p (.tup (k.map V.int))) (λ_ _=>False) s')
 (h:JW X pins σ H0 D ks xs P):be (bi X.prog X.w) A (ksk_tree D (.ref q) false) P E s:=by
 have hvl:=rv.length;have hZ2:=hZ;rw[bw] at hZ2;obtain⟨I1,⟨e1,hD1⟩,k1⟩:=I.lone OD hD (λ_=>#[]);unfold ksk_tree;refine ae (listItems_at hD.1 rfl ?_);refine ae (uB hD.1 rfl ?_ (by rw[bg,bw];omega) (df _));refine ae (seqEpoch_at hD1.1 rfl ?_);refine ae (wpAny_newTuple ?_ (by show vs.length<=_;rw[bw];omega));refine ae (wpAny_newList ?_ (df _));refine ie ?_;have I2:Inv X pins σ H0 { s with heap:=((s.heap.update D (fb λ_=>(#[]:Array ag))).push (me "tuple" vs.toArray 0)).push (me "list" #[] 0) }:=
  I1.kept (t':=s.toks) λb o e=>ak _ (ak _ e)
 have hsz:((s.heap.update D (fb λ_=>(#[]:Array ag))).push (me "tuple" vs.toArray 0)).objs.size=s.heap.objs.size+1:=by rw[size_push',xt]
 have hDlt:D<s.heap.objs.size:=bh hD.1;refine XV (kS:=((s.heap.update D (fb λ_=>(#[]:Array ag))).push (me "tuple" vs.toArray 0)).objs.size) I2 OD (I.own (by rw[hsz];exact sU _)) (by rw[hsz];exact pd (oj hDlt))
  ⟨ak _ (ak _ hD1.1),hD1.2⟩ ⟨bf _ rfl,I.hok.fresh (by rw[hsz];exact sU _)⟩ hlen hne rv hZ turn h
end
theorem XY {l q:Addr} {xs:List V} {ks:List (List Int)} {Q:VK} {E:ag->ai->Prop} (I:Inv X pins σ H s) (hl:SqL X.K H l xs) (hlen:ks.length=xs.length) (hne:∀k∈ks,k≠[])
 (turn:∀(i:Nat) (x:V) (k:List Int),xs[i]? =some x->ks[i]? =some k->∀(pins':List (Addr×Obj)) (H':Hp) (s':ai) (u:ag),Inv X pins' σ H' s'->Same H H'->RelV x u->
  be (bi X.prog X.w) X.A.in1.in1 (call (.ref q) [u]) (EP X pins' σ λv H''=>∃p,v= .ref p/\H' p=none/\H''=upd H' p (.tup (k.map V.int))) (λ_ _=>False) s')
 (done:∀(D:Addr) (H':Hp) (zs:List (List Int×V)),H' D=none->Same H H'->zs.Perm (ks.zip xs)->zs.Pairwise (λa b=>HT.lexLt b.1 a.1=false)->Q (.ref D) (upd H' D (.lst (zs.map (·.2))))):
 be (bi X.prog X.w) X.A (call (.builtin "sorted") [.ref l] [(li "key",.ref q)]) (EP X pins σ Q) E s:=by
 obtain⟨vs,rv,pl,hZ⟩:=I.list hl;have hvl:xs.length=vs.length:=rv.length;have hZ2:vs.length<=sizeLine:=by omega
 refine call_function_entry_kw kind_sorted plain_sorted entry_sorted (by first|exact rfl|decide) ?_;unfold Builtin.«sorted»;refine ae (m:=checkCount "sorted" 1 1 _) (am ?_);refine ae (collect_list pl.isList ?_ hZ2);refine ae (wpAny_newList ?_ hZ2);have hsz:((s.heap.push (me "list" #[] 0)).update s.heap.objs.size (fb (·++vs.toArray))).objs.size=s.heap.objs.size+1:=by
  rw[xt,size_push']
 have hoL:(((s.heap.push (me "list" #[] 0)).update s.heap.objs.size (fb (·++vs.toArray))).push (me "list" vs.toArray 0)).get? (s.heap.objs.size+1)=some (me "list" vs.toArray 0):=by
  rw[←hsz];exact bf _ rfl
 have keep:∀b o,s.heap.get? b=some o->(((s.heap.push (me "list" #[] 0)).update s.heap.objs.size (fb (·++vs.toArray))).push (me "list" vs.toArray 0)).get? b=some o:=λb o q=>by
  have hlt:b<s.heap.objs.size:=bh q;rw[uq _ _ _ (by rw[hsz];exact cg (oj hlt)),mm _ _ _ _ (cg hlt),uq _ _ _ (cg hlt)];exact q
 show be _ _ _ _ _ { s with heap:=((s.heap.push (me "list" #[] 0)).update s.heap.objs.size (fb (·++vs.toArray))).push (me "list" vs.toArray 0) };rw[hsz];have I1:Inv X pins σ H { s with heap:=((s.heap.push (me "list" #[] 0)).update s.heap.objs.size (fb (·++vs.toArray))).push (me "list" vs.toArray 0) }:=I.kept (t':=s.toks) keep;refine ae (ie (wpAny_call_entry_kw slot_list_sort ⟨_,hoL,rfl⟩ entry_list_sort ?body (by first|exact rfl|decide)))
 case body=>
  show be (bi X.prog X.w) X.A.in1.in1 (um.«list.sort» ⟨[.ref (s.heap.objs.size+1)],[(li "key",.ref q)]⟩) _ _ _;rw[ksk_t1];refine XW I1 (I.own (sU _)) ⟨hoL,I.hok.fresh (sU _)⟩ hlen hne rv hZ turn λH' s' zs I' sm nD pm pw=>⟨_,rfl,?_⟩
  exact am ⟨_,rfl,.ref _,_,I',rfl,done _ H' zs nD sm pm pw⟩
end
end L2
end
section
namespace L2
open PySem PySem.Spec PyProof.Rows
structure LamFr (X:Cx) (scope:Scope) (fr:List Str) (idx:List Nat):Prop where
 uniq:∀y∈scope.names,scope.names.lookup y.1=some y.2
 out:∀y∈scope.names,y.2= .free->X.env.kindOf y.1=some .cell\/X.env.kindOf y.1=some .free
 len:fr.length=idx.length
 at_:∀(j:Nat) (y:Str),fr[j]? =some y->∃i,idx[j]? =some i/\X.N[i]? =some y/\scope.names.lookup y=some .free/\Vis X.env.scope y/\(X.env.kindOf y=some .cell\/X.env.kindOf y=some .free)
theorem XZ {X:Cx} {pins:List (Addr×Obj)} {σ:St} {H:Hp} {s:ai} {scope:Scope} {fr:List Str} {idx:List Nat} {fvs:List V} (I:Inv X pins σ H s) (L:LamFr X scope fr idx) (hl:fvs.length=idx.length)
 (hv:∀(j i:Nat) (v:V),idx[j]? =some i->fvs[j]? =some v->σ[i]? =some (some v)):CellsAre (BA X.env.cells scope.names []) scope fr fvs H s.heap:=by
 have look:∀{y:Str} {c:Addr},(BA X.env.cells scope.names []).lookup y=some c->X.env.cells.lookup y=some c:=λ{y c} e=>by
  rcases EH (cn e) with z|⟨z1,z2⟩
  ·exact absurd z (by simp)
  ·obtain⟨c',hc'⟩:=I.ok.has _ (L.out _ z1 rfl);rw[hc'] at z2 ⊢;rw[z2];rfl
 refine⟨L.len.trans hl.symm,λy z c e1 e2=>I.ok.inj y z c (look e1) (look e2),λy hy=>E5 (EI (cn hy)),λy c e=>I.cell y c (look e),λy c e=>I.freeC y c (look e),λj y v h1 h2=>?_⟩;obtain⟨i,hi,hN,hf,vis,hk⟩:=L.at_ j y h1;obtain⟨m,hn,hloc⟩:=I.loc;obtain⟨u,r,lk⟩:=hloc i y v hN (hv j i v hi h2) vis;rcases lk with⟨z,_⟩|⟨_,c,hc,ic⟩
 ·rcases hk with k|k<;>rw[k] at z<;>cases z
 ·obtain⟨c',hc'⟩:=E5 (EI (cells:=X.env.cells) (acc:=[]) (cn hf));have e:=look hc';rw[hc] at e;cases e;exact⟨u,_,r,hc',ic⟩
section
variable {X:Cx} {c P:Addr} {params:Arguments} {body e:Expr} {scope:Scope} {p pos kpos lpos:Pos} {fr:List Str} {idx:List Nat} {x:Str} {te t:TE}
def bD (X:Cx) (P:Addr) (lpos:Pos) (idx:List Nat) (t:TE) (σ:St) (Q:VK) (y:V) (H1:Hp):Prop:=Ex4 λ(l:Addr) (xs:List V) (ks:List (List Int)) (fvs:List V)=>y= .ref l/\SqL X.K H1 l xs/\l≠P/\ks.length=xs.length/\(∀k∈ks,k≠[])/\LamTbl H1 P lpos (X.env.qual++"<lambda>")/\
 fvs.length=idx.length/\(∀(j i:Nat) (v:V),idx[j]? =some i->fvs[j]? =some v->σ[i]? =some (some v))/\
 (∀(i:Nat) (x:V) (k:List Int),xs[i]? =some x->ks[i]? =some k->∀H2:Hp,Sb P H1 H2->t (some x::fvs.map some) H2 λv H3=>∃p,v= .ref p/\H2 p=none/\H3=upd H2 p (.tup (k.map V.int)))/\
 ∀(D:Addr) (H2:Hp) (zs:List (List Int×V)),H2 D=none->Sb P H1 H2->LamTbl H2 P lpos (X.env.qual++"<lambda>")->zs.Perm (ks.zip xs)->zs.Pairwise (λa b=>HT.lexLt b.1 a.1=false)->Q (.ref D) (upd H2 D (.lst (zs.map (·.2))))
def pZ (X:Cx) (P:Addr) (lpos:Pos) (idx:List Nat) (t:TE) (σ:St) (Q:VK):List V->Hp->Prop
 |[y],H1=>bD X P lpos idx t σ Q y H1
 |_,_=>False
def bE (X:Cx) (P:Addr) (lpos:Pos) (idx:List Nat) (te t:TE):TE:=λσ H Q=>te σ H λy H1=>bD X P lpos idx t σ Q y H1
theorem SqL.sb {K:aa} {H H':Hp} {a P:Addr} {xs:List V} (s:Sb P H H') (n:a≠P) (h:SqL K H a xs):SqL K H' a xs:=by
 rcases h with(h|⟨o,h⟩)|h
 ·exact .inl (.inl (s _ _ h n))
 ·exact .inl (.inr ⟨o,s _ _ h n⟩)
 ·exact .inr h
theorem LamTbl.same {H H':Hp} {P:Addr} {pos:Pos} {q:Str} (e:Same H H') (h:LamTbl H P pos q):LamTbl H' P pos q:=by
 obtain⟨ps,h1,h2,h3⟩:=h;refine⟨ps,e _ _ h1,h2,?_⟩;rcases h3 with h3|⟨c,h3,h4⟩
 ·exact .inl h3
 ·exact .inr ⟨c,h3,e _ _ h4⟩
theorem SK {pins:List (Addr×Obj)} {σ:St} {H1 H2:Hp} {s2:ai} {Q:VK} {l f c':Addr} {xs:List V} {ks:List (List Int)} {fvs:List V} {ctv:ag} {E:ag->ai->Prop} (hr:Room 3 X.A) (L:LamFr X scope fr idx) (S:LamScope x fr scope)
 (hb:∀(cl:List (Str×Addr)) (pm cd ctv u:ag),vE (vU "<lambda>" (X.env.qual++"<lambda>") params body scope cl pm cd ctv) ⟨[u],[]⟩=pure [(x,u)])
 (hbody:∀(f:Addr) (cd:ag) (cl:List (Str×Addr)) (A:cy) (outer:List Env) (s:ai) (H:Hp),PE (O5 X.prog X.w X.K X.mg X.base (x::fr) (X.env.qual++"<lambda>") scope f cd cl A outer s H) body t)
 (I2:Inv X pins σ H2 s2) (hl:SqL X.K H1 l xs) (nl:l≠P) (hlen:ks.length=xs.length) (hne:∀k∈ks,k≠[]) (hfl:fvs.length=idx.length) (hfv:∀(j i:Nat) (v:V),idx[j]? =some i->fvs[j]? =some v->σ[i]? =some (some v))
 (turn:∀(i:Nat) (x:V) (k:List Int),xs[i]? =some x->ks[i]? =some k->∀H2:Hp,Sb P H1 H2->t (some x::fvs.map some) H2 λv H3=>∃p,v= .ref p/\H2 p=none/\H3=upd H2 p (.tup (k.map V.int)))
 (done:∀(D:Addr) (H2:Hp) (zs:List (List Int×V)),H2 D=none->Sb P H1 H2->LamTbl H2 P lpos (X.env.qual++"<lambda>")->zs.Perm (ks.zip xs)->zs.Pairwise (λa b=>HT.lexLt b.1 a.1=false)->Q (.ref D) (upd H2 D (.lst (zs.map (·.2)))))
 (sb:Sb P H1 H2) (hf:H2 f=some (LK f (nq "<lambda>" (X.env.qual++"<lambda>") params body scope (BA X.env.cells scope.names []) ((X.mg "__name__").getD .none) c' ctv))) (hc':H2 c'=some (LL c' (X.env.qual++"<lambda>")))
 (tb2:LamTbl H2 P lpos (X.env.qual++"<lambda>")):
 be (bi X.prog X.w) X.A (call (.builtin "sorted") [.ref l] [(li "key",.ref f)]) (EP X pins σ Q) E s2:=by
 refine XY (ks:=ks) (Q:=Q) I2 (hl.sb sb nl) hlen hne (λi x' k hx hk pins' H' s' u' I' sm ru=>?_) λD H' zs nD sm pm pw=>done D H' zs nD (λb o e n=>sm b o (sb b o e n)) (tb2.same sm) pm pw;refine sM (mx (eK (CX:=λ_ _ _ _ _ _=>False) (E:=λ_ _ _=>False) (A:=X.A.in1.in1) S (hr.in1.in1) I'.env0.in1.in1 ru (XZ I' L hfl hfv) (bA I'.hok (sm _ _ hf)) (bB I'.hok (sm _ _ hc')) (hb _ _ _ _ _) (hbody _ _ _ _ _ _ _)
  (turn i x' k hx hk H' λb o e n=>sm b o (sb b o e n))) λr s3 hq=>?_)
 cases r with
 |error e=>exact hq.elim
 |ok fl=>
  cases fl with
  |ret u2=>exact I'.after hq
  |next=>exact eq hq
  |brk=>exact eq hq
  |cont=>exact eq hq
theorem QO (hm:X.mg "sorted"=none) (hg:Gl X "sorted") (hr:Room 3 X.A) (he:PE X e te) (B:NR X.mg X.base) (C:ue X.base c P) (hcode:X.env.code= .ref c) (L:LamFr X scope fr idx) (S:LamScope x fr scope)
 (hb:∀(cl:List (Str×Addr)) (pm cd ctv u:ag),vE (vU "<lambda>" (X.env.qual++"<lambda>") params body scope cl pm cd ctv) ⟨[u],[]⟩=pure [(x,u)])
 (hbody:∀(f:Addr) (cd:ag) (cl:List (Str×Addr)) (A:cy) (outer:List Env) (s:ai) (H:Hp),PE (O5 X.prog X.w X.K X.mg X.base (x::fr) (X.env.qual++"<lambda>") scope f cd cl A outer s H) body t)
 (hdef:defaultsOf params X.env=([],[]):=by rfl) (hst:bc [e] X.env=(false,eval e X.env)::bc [] X.env:=by rfl) (hbk:gr pos (bc [e] X.env)=(false,eval e X.env)::gr pos (bc [] X.env):=by rfl)
 (hpl:(gr pos (bc [e] X.env)).any (·.1)=false:=by rfl):
 PE X (.Call (.Name "sorted" p) [e] [⟨some "key",.Lambda params body scope lpos,kpos⟩] pos) (bE X P lpos idx te t):=by
 intro pins s σ H Q I h;refine gh (EL I hg hm y4 ?_ (by decide) (by decide));refine callWith_kw (env:=X.env) (thn (AA he AF hst pos pins s σ H (pZ X P lpos idx t σ Q) I h) λus s1 ⟨vs,H1,I1,r,q⟩=>?_) hbk hpl;cases r with
 |nil=>exact q.elim
 |cons r1 r2=>
  cases r2 with
  |cons _ _=>exact q.elim
  |nil=>
   have q:bD X P lpos idx t σ Q _ H1:=q;obtain⟨l,xs,ks,fvs,rfl,hl,nl,hlen,hne,tb,hfl,hfv,turn,done⟩:=q;cases r1;refine kws_cons (thn (j8 B C hcode L.out hdef pins s1 σ H1 (λv H2=>∃f c' ctv,v= .ref f/\Sb P H1 H2/\
    H2 f=some (LK f (nq "<lambda>" (X.env.qual++"<lambda>") params body scope (BA X.env.cells scope.names []) ((X.mg "__name__").getD .none) c' ctv))/\H2 c'=some (LL c' (X.env.qual++"<lambda>"))/\
    LamTbl H2 P lpos (X.env.qual++"<lambda>")) I1 ⟨tb,λf c' ctv H2 _ a1 a2 a3 a4=>⟨f,c',ctv,rfl,a1,a2,a3,a4⟩⟩) λw' s2 ⟨v,H2,I2,rw',f,c',ctv,ev,sb,hf,hc',tb2⟩=>?_)
   subst ev;obtain rfl:w'=bz f:=rw';refine kws_nil ?_;exact SK hr L S hb hbody I2 hl nl hlen hne hfl hfv turn done sb hf hc' tb2
end
end L2
end
section
namespace L2
open PySem PySem.Spec PyProof.Rows
open PySem.W (WData Codec OpenSpec Well WellAll ReadsW ReadsAllW)
mutual
theorem Dw.same {K:aa} {H H':Hp} (e:Same H H'):∀{v:V} {d:ms},Dw K H v d->Dw K H' v d
 |_,_,.non=>.non
 |_,_,.bl b=>.bl b
 |_,_,.int i=>.int i
 |_,_,.str x=>.str x
 |_,_,.byt b=>.byt b
 |_,_,.lst h t=>.lst (e.seq h) (DwAll.same e t)
 |_,_,.tup h t=>.tup (Same.tup e h) (DwAll.same e t)
theorem DwAll.same {K:aa} {H H':Hp} (e:Same H H'):∀{vs:List V} {ds:List ms},DwAll K H vs ds->DwAll K H' vs ds
 |_,_,.nil=>.nil
 |_,_,.cons h t=>.cons (Dw.same e h) (DwAll.same e t)
end
def WI (T:List Addr) (H:Hp):Prop:=∀b,H b=none\/(Ex2 λob u=>H b=some (.frz ob u))\/(b∈T/\H b=some (.tbl #[]))
theorem UP {P:aw} {w:bv} {K:aa} {mg mb:Str->Option ag} {CX:CXT} {k:Nat} {fa:Addr} {fd:du} {ps:List Str} {sp:Sp} {s₁:ai} {vals:List ag} {ds:List ms} {R:xk} {cl:Str->Option Addr} {d0:ms} {T:List Addr}
 (hT:∀p∈T,K.lookup p=none/\∃c,s₁.heap.TableAt c p #[]) (hbl:NR mg s₁.heap)
 (KX:K.In s₁.heap) (hns:s₁.heap.Ns mainGlobals mg) (hb:s₁.heap.Ns uX mb) (hbb:∀x:Str,x≠"__name__"->mb x=jj x) (hlim:s₁.heap.NoLimit) (hg:s₁.gens=#[])
 (hwl:vc w.params s₁.heap vals ds) (hpl:LE ds=true) (hwt:∀d∈ds,d.weight<=1048576) (hr:Room k wR)
 (F:∀base:Heap,K.In base->base.Ns mainGlobals mg->NR mg base->FnOk P w K mg base CX k fa fd ps sp) (hbind:∀(s:ai) (us:List ag),us.length=ps.length->vY s fd ⟨us,[]⟩ (ps.zip us)) (hlen:ds.length=ps.length)
 (hsp:∀(H:Hp) (xs:List V),WI T H->(∀p∈T,H p=some (.tbl #[]))->DwAll K H xs ds->sp xs H (λv H'=>Dw K H' v d0) λ_ _ _=>False)
 (hCX:∀H e s',CX [] H s₁ (λ_ _ _=>False) e s'->False):
 ml (bi P w) wR (.call (.ref fa) ⟨vals,[]⟩) (λr s'=>Ex2 λu as=>r= .ok (.ret u)/\ReadsW R cl s'.heap u d0 as/\OldK s₁.heap s'.heap/\s'.os=s₁.os/\uY s'.gens) s₁:=by
 obtain⟨A,ho,ar⟩:=JM ds vals hwl hpl hwt;have hO':fD (GD K s₁.heap A):=W9 ar;have hok':HOk P w (GD K s₁.heap A) s₁.heap:=dA ar;have hS':=PY KX ar ds vals hwl hpl ho;have hV:=GC ho;have hK':∀b u,GD K s₁.heap A b=some u->K.lookup b=none:=λb u q=>(LW ar q).1;have noSeq:∀{b:Addr} {o:Obj},s₁.heap.get? b=some o->(∀vs n,o.data≠.seq vs n)->GD K s₁.heap A b=none:=λ{b o} e d=>by
  cases q:GD K s₁.heap A b with
  |none=>rfl
  |some u=>
   obtain⟨_,vs,_,_,⟨e2,_⟩|⟨e2,_⟩⟩:=LW ar q
   ·rw[e2] at e;cases e;exact absurd rfl (d _ _)
   ·rw[e2] at e;cases e;exact absurd rfl (d _ _)
 have hTo:∀p∈T,s₁.heap.get? p=some { cls:=.none,data:=.fields #[] }:=λp hp=>let ⟨_,_,x⟩:=hT p hp;x.2;have hTn:∀p∈T,GD K s₁.heap A p=none:=λp hp=>noSeq (hTo p hp) λvs n z=>by cases z
 generalize GD K s₁.heap A=H0 at hO' hok' hS' hK' noSeq hTn;obtain⟨H,hHT,hHn⟩:∃H:Hp,(∀p∈T,H p=some (.tbl #[]))/\∀p,p∉T->H p=H0 p:=⟨λb=>if b∈T then some (.tbl #[]) else H0 b,λp hp=>if_pos hp,λp hp=>if_neg hp⟩
 have sm:Same H0 H:=λb o e=>by
  by_cases z:b∈T
  ·rw[hTn b z] at e;cases e
  ·rw[hHn b z];exact e
 have hO:WI T H:=λb=>by
  by_cases z:b∈T
  ·exact .inr (.inr ⟨z,hHT b z⟩)
  ·rcases hO' b with q|⟨ob,u,q⟩
   ·exact .inl ((hHn b z).trans q)
   ·exact .inr (.inl ⟨ob,u,(hHn b z).trans q⟩)
 have hok:HOk P w H s₁.heap:=λb u e=>by
  by_cases z:b∈T
  ·rw[hHT b z] at e;cases e;exact hTo b z
  ·rw[hHn b z] at e;exact(hok' b u e).stay (λ_ _ _ q=>q) (λc q=>sm c _ q) λc xs q=>sm c _ q
 have hS:DwAll K H (vals.map toV) ds:=DwAll.same sm hS';have noA:∀{b:Addr} {o:Obj},s₁.heap.get? b=some o->(∀vs n,o.data≠.seq vs n)->(∀vs,o.data≠.fields vs)->H b=none:=λ{b o} e d d2=>by
  by_cases z:b∈T
  ·rw[hTo b z] at e;cases e;exact absurd rfl (d2 _)
  ·rw[hHn b z];exact noSeq e d
 have base_of:∀{b:Addr} {o:Obj},s₁.heap.get? b=some o->H b=none->(NX s₁.heap H).get? b=some o:=λe n=>YA e n;have nsK:∀{b:Addr} {m:Str->Option ag},s₁.heap.Ns b m->(NX s₁.heap H).Ns b m:=λ{b m} ⟨o,es,ep,e,d,r⟩=>⟨o,es,ep,base_of e (noA e (λvs n z=>by rw[d] at z;cases z) λvs z=>by rw[d] at z;cases z),d,r⟩
 have nK:∀b o,K.lookup b=some o->H b=none:=λb o e=>by
  by_cases z:b∈T
  ·rw[(hT b z).1] at e;cases e
  ·rw[hHn b z];cases q:H0 b with
   |none=>rfl
   |some u=>rw[hK' b u q] at e;cases e
 have hKb:K.In (NX s₁.heap H):=λb o e=>base_of (KX b o e) (nK b o e);have hM:Mod K mg (NX s₁.heap H):=⟨hKb,nsK hns,⟨mb,nsK hb,hbb⟩,let ⟨mc,h1,h2⟩:=hlim;⟨mc,nsK h1,h2⟩⟩
 have hbb':NR mg (NX s₁.heap H):=by
  obtain⟨bm,ob,b1,b2,b3,b4,b5,b6⟩:=hbl;exact⟨bm,ob,b1,b2,base_of b3 (noA b3 (λvs n z=>by rw[b6] at z;cases z) λvs z=>by rw[b6] at z;cases z),b4,b5,b6⟩
 have e0:Env0 P w K mg (NX s₁.heap H) wR [] s₁ H:=⟨rfl,hM,λb o e=>cF e,rn (WU _ _),trivial,λb hb=>absurd (show b∈([]:List Addr) from hb) (by simp),hok,.of_eq hg⟩
 have hl:vals.length=ps.length:=by rw[FM hwl];exact hlen
 refine mx ((F _ hKb (nsK hns) hbb').run wR [] s₁ H ⟨vals,[]⟩ vals (vals.map toV) _ _ hr e0 (hbind s₁ vals hl) hV (hsp H _ hO hHT hS)) λr s' x=>?_;cases r with
 |error e=>exact(hCX H e s' x).elim
 |ok fl=>
  cases fl with
  |next=>exact eq x
  |brk=>exact eq x
  |cont=>exact eq x
  |ret u=>
   obtain⟨v,H',os,bare,un,hokE,r',q⟩:=x;have kept:∀b o,b∉T->s₁.heap.get? b=some o->s'.heap.get? b=some o:=λb o nT e=>by
    rcases hO b with z|⟨ob,u3,z⟩|⟨z,_⟩
    ·exact un.keep b o e z (by intro z;exact absurd (show b∈([]:List Addr) from z) (by simp)) (by simp)
    ·have z2:=un.frzs b ob _ z;obtain⟨e1,_⟩:=hok b _ z;obtain⟨e2,_⟩:=hokE b _ z2;rw[e] at e1;cases e1;exact e2
    ·exact absurd z nT
   have tabs:∀b,b∈T->∃more,s'.heap.get? b=some { cls:=.none,data:=.fields (#[]++more) }:=λb z=>by
    obtain⟨more,z2⟩:=un.tbls b _ (hHT b z);exact⟨more,hokE b _ z2⟩
   have KX':K.In s'.heap:=λb o e=>kept b o (λz=>by rw[(hT b z).1] at e;cases e) (KX b o e);obtain⟨as,hrd⟩:=Dw.reads (R:=R) (cl:=cl) hokE KX' d0 v u q r';refine⟨u,as,rfl,hrd,⟨λb o e=>?_,λb o e=>?_⟩,os,bare⟩
   ·by_cases z:b∈T
    ·obtain⟨more,z2⟩:=tabs b z;obtain⟨_,c,tb⟩:=hT b z;rw[hTo b z] at e;cases e;exact .inr (.inl ⟨tb.isCodeTable,rfl,#[],more,rfl,z2⟩)
    ·exact .inl (kept b o z e)
   ·by_cases z:b∈T
    ·obtain⟨more,z2⟩:=tabs b z;exact⟨_,z2⟩
    ·exact⟨o,kept b o z e⟩
structure TopT (q:aw) (mg:Str->Option ag) (h:Heap):Prop where
 tab:∀d∈recsOf q,∃a o fd c P,mg d.name=some (.ref a)/\h.get? a=some o/\o.data= .func fd/\fd.code= .ref c/\h.IsCode c P #[]/\h.TableAt c P #[]
 blt:NR mg h
theorem UQ {r:OpenSpec} {k:Nat} {q:aw} {loose:List Str} {XP:(Str->Option ag)->Heap->Prop} {YP:bv->Heap->Prop} {d:DefRec} {K:vL->aa} {CX:bv->CXT} {ps:List Str} {sp:bv->List Addr->Sp}
 (hwell:r.wellSaid=true) (hdf:d.params.defaults=[]) (hlen:r.args.length=ps.length) (hr:Room k wR)
 (hY:∀(w:bv) (h:Heap),YP w h->(K w.params).In h)
 (F:∀(w:bv) (mg:Str->Option ag) (fa:Addr) (h:Heap),YP w h->(K w.params).In h->h.Ns mainGlobals mg->TopT q mg h->mg d.name=some (.ref fa)->
  Ex2 λ(T:List Addr) (fd:du)=>(∀p∈T,(K w.params).lookup p=none/\∃c,h.TableAt c p #[])/\(∀(s:ai) (us:List ag),us.length=ps.length->vY s fd ⟨us,[]⟩ (ps.zip us))/\
   (∀base:Heap,(K w.params).In base->base.Ns mainGlobals mg->NR mg base->FnOk r.prog w (K w.params) mg base (CX w) k fa fd ps (sp w T))/\
   ∀(H:Hp) (xs:List V) (a:tq r.args),WI T H->(∀p∈T,H p=some (.tbl #[]))->xU r.args a=true->v0 r.args r.asked a=true->DwAll (K w.params) H xs (sj r.args a)->
    sp w T xs H (λv H'=>Dw (K w.params) H' v (r.ret.enc (v0 r.args r.f a))) λ_ _ _=>False)
 (hCX:∀(w:bv) (H:Hp) (s:ai) (e:ag) (s':ai),CX w [] H s (λ_ _ _=>False) e s'->False):
 yt q loose XP YP r d [] (λf vs=>z0 f vs):=by
 intro w s_0 s₁ mg mb G Y fa o pm cd doc dV kV ho hd hcd hD hmg hg args vals as hpre hlay hrd hwl hlo;obtain⟨a,e1,e2⟩:=PySem.W.os_pre_some hpre;obtain⟨e3,hwi⟩:=Codec.encAll_of_decAll r.args args a e1;subst e3;have KX:=hY w _ Y;obtain⟨T,fd,hT,hb,hF,hsp⟩:=F w mg fa _ Y KX G.T.g ⟨G.T.tab,G.T.bmain⟩ hmg;refine PySem.W.enter_call (mx (UP (R:=[]) (cl:=classAt s_0.heap) (d0:=r.ret.enc (v0 r.args r.f a)) hT G.T.bmain KX G.T.g G.T.b G.T.builtins G.T.nolimit hg hwl (OM _ _) (M4 hlay) hr hF hb (by rw[M5];exact hlen)
  (λH xs hO hH hS=>hsp H xs a hO hH hwi e2 hS) λH e s'=>hCX w H s₁ e s') λr' s' hq=>?_)
 obtain⟨u,as',rfl,h1,h2,h3,h4⟩:=hq;exact⟨.inl ⟨u,_,as',rfl,λ_=>rfl,h1,(OpenSpec.post_iff hwell hwi _ _).mpr rfl,λz=>dw (show false=true from z)⟩,h2,h3,h4⟩
end L2
end
section
namespace Lt
open PySem PySem.Spec PyProof.Rows L2
variable {f a C CR CT r ta CI CL CN:Addr} {fd:du} {X:Cx} {x:List Int} {i n e p q:Nat} {pos:Pos} {z dz fz:Str} {xs:List V} {E:XK} {H H' H1:Hp} {cs t ci ct:List UInt8} {α β:Type} {Q:VK} {ls fr co ba:List (List Int)} {P:aw} {w:bv} {h:Heap} {ps:List Str}
def B8 (fr co ba:List (List Int)) (s:Stop):List Int:=if co.length<s.course then ba.getD (s.course - co.length - 1) [] else if s.fret=0 then co.getD (s.course - 1) [] else BU (fr.getD (s.fret - 1) []) (co.getD (s.course - 1) [])
theorem LT.get {K:aa} (h:LT K H a ls) (hi:i<ls.length):Ex2 λxs b=>SqL K H a xs/\xs[i]? =some (V.ref b)/\SqT K H b ((ls.getD i []).map V.int):=by
 obtain⟨as,h1,h2⟩:=h;have hl:as.length=ls.length:=cf h2;obtain⟨l,e1,e2⟩:=BD h2 (aj (show i<as.length by omega));refine⟨_,as[i]'(by omega),SqL.of h1,by rw[az,aj (by omega)];rfl,?_⟩;rw[bj,e1];exact e2
def gC (K:aa) (CI:Addr):Sp:=λvs H Q _=>Ex8 λ(ia af ac ab:Addr) (fr co ba:List (List Int)) (s:Stop)=>vs=[.ref ia,.int (s.course:Nat),.int (s.fret:Nat)]/\InA K CI H ia af ac ab fr co ba/\plc fr co ba s=true/\1<=s.course/\
 ∀H' a,Same H H'->SqT K H' a ((B8 fr co ba s).map V.int)->Q (.ref a) H'
def ntf (b l c f:Int) (ia:Addr) (h:Int):List (Str×V):=[("begin",.int b),("line",.int l),("course",.int c),("fret",.int f),("interval",.ref ia),("height",.int h)]
structure NtC (K:aa) (CN:Addr):Prop where
 cl:Cls K CN
 nb:NoAttr K CN "begin"
 nl:NoAttr K CN "line"
 nc:NoAttr K CN "course"
 nf:NoAttr K CN "fret"
 ni:NoAttr K CN "interval"
 nh:NoAttr K CN "height"
def j9 (K:aa) (CN:Addr):Sp:=λvs H Q _=>Ex8 λ(x dx sa ia:Addr) (b l h:Int) (s:Stop)=>vs=[.ref x,.int b,.int l,.ref sa,.ref ia,.int h]/\H x=some (.ins CN dx [])/\SqT K H sa ((sL s).map V.int)/\
 ∀H',H' x=some (.ins CN dx (ntf b l (s.course:Nat) (s.fret:Nat) ia h))->Sb x H H'->Q .non H'
def bF (K:aa) (CL:Addr):Sp:=λvs H Q _=>Ex2 λ(al:Addr) (ps:List Ln)=>vs=[.ref al]/\LnsA K CL H al ps/\ps.length<=512/\∀H' a,Same H H'->H a=none->H' a=some (.lst ((ji (ps.length+1)).map λi=>V.int ((uL ps i:Nat):Int)))->Q (.ref a) H'
def bG (K:aa) (CL:Addr):Sp:=λvs H Q _=>Ex6 λ(x dx sa:Addr) (n c:Nat) (l:List Stop)=>vs=[.ref x,.int (c:Nat)]/\H x=some (.ins CL dx (lnf (n:Nat) sa))/\LT K H sa (l.map sL)/\Q (.bl (JB c l)) H
section
variable {P:aw} {w:bv} {K:aa} {mg:Str->Option ag} {base:Heap} {CI CL CN:Addr}
theorem kC:FnScope ["self","course","fret"] ["self","course","fret"] (AH DM):={}
theorem kD (F:Fun K "sound" "Instrument.sound" DM f fd) (B:Blt mg) (T:InC K CI) (D1:Def P w K mg base 3 "upon" ["x","y"] (dB K)):FnOk P w K mg base (CX1 P w) 4 f fd ["self","course","fret"] (gC K CI):=by
 refine F.okx kC λcdv A outer s H vs Q E hr h=>?_;obtain⟨ia,af,ac,ab,fr,co,ba,st,rfl,I,hp,h1,k⟩:=h;refine⟨_,(AB (AW (AO E3 (pv 1) (AZ AN (by rfl) B.len cr (AA (AR (pv 0) rfl) AF)) (AQ _))
  (AC (AJ (BI B9 (AR (pv 0) rfl) (BC G0 (BC G0 (pv 1) (AZ AN (by rfl) B.len cr (AA (AR (pv 0) rfl) AF))) AI) (λ_ _=>rfl)))) AM)
  (AB (AW (AO CP (pv 2) AI (AQ _)) (AC (AJ (BI B9 (AR (pv 0) rfl) (BC G0 (pv 1) AI) (λ_ _=>rfl)))) AM)
  (AC (AJ (D1.call hr AD (AA (BI B9 (AR (pv 0) rfl) (BC G0 (pv 2) AI) (λ_ _=>rfl)) (AA (BI B9 (AR (pv 0) rfl) (BC G0 (pv 1) AI) (λ_ _=>rfl)) AF))))))),?_⟩
 and_intros
 obtain⟨dx,i1⟩:=I.at_;obtain⟨y1,q1,l1⟩:=I.co_.len;unfold plc at hp;unfold B8 at k;refine⟨_,rfl,_,rfl,ia,CI,dx,_,_,rfl,i1,T.cl,T.nc,IN _ _ _,ac,y1,rfl,.inl q1,_,_,rfl,rfl,_,rfl,B7 (λh0=>?_) (λh0=>?_)⟩
 ·have hc:co.length<st.course:=by
   have:(y1.length:Int)<((st.course:Nat):Int):=by simpa using h0
   omega
  rw[if_neg (by omega)] at hp;rw[if_pos hc] at k;simp at hp;obtain⟨xs,b,g1,g2,g3⟩:=I.ba_.get (i:=st.course - co.length - 1) (by omega);refine⟨_,rfl,ia,CI,dx,_,_,rfl,i1,T.cl,T.nb,VV _ _ _,_,rfl,_,rfl,ia,CI,dx,_,_,rfl,i1,T.cl,T.nc,IN _ _ _,ac,y1,rfl,.inl q1,_,_,rfl,rfl,_,_,rfl,rfl,ab,xs,_,_,rfl,rfl,g1,VE (j:=st.course - co.length - 1) (by omega) g2,k H b (Same.refl _) g3⟩
 ·have hc:¬co.length<st.course:=by
   have:¬(y1.length:Int)<((st.course:Nat):Int):=by simpa using h0
   omega
  rw[if_pos (by omega)] at hp;rw[if_neg hc] at k;have hf:st.fret<=fr.length:=of_decide_eq_true hp;obtain⟨xs,b,g1,g2,g3⟩:=I.co_.get (i:=st.course - 1) (by omega);refine⟨_,rfl,rfl,_,rfl,B7 (λh0=>?_) (λh0=>?_)⟩
  ·have e0:st.fret=0:=by
    have q:=of_decide_eq_true h0;injection q with q;omega
   rw[if_pos e0] at k;exact⟨_,rfl,ia,CI,dx,_,_,rfl,i1,T.cl,T.nc,IN _ _ _,_,rfl,_,_,rfl,rfl,ac,xs,_,_,rfl,rfl,g1,VE (j:=st.course - 1) (by omega) g2,k H b (Same.refl _) g3⟩
  ·have e0:¬st.fret=0:=λq=>h0 (decide_eq_true (by rw[q];rfl));rw[if_neg e0] at k;obtain⟨xs2,b2,g4,g5,g6⟩:=I.fr_.get (i:=st.fret - 1) (by omega);have s1:=I.sf (fr.getD (st.fret - 1) []) (by rw[bj,aj (by omega)];exact jd _);have s2:=I.sc (co.getD (st.course - 1) []) (by rw[bj,aj (by omega)];exact jd _);refine⟨_,rfl,ia,CI,dx,_,_,rfl,i1,T.cl,T.nf,NF _ _ _,_,rfl,_,_,rfl,rfl,af,xs2,_,_,rfl,rfl,g4,VE (j:=st.fret - 1) (by omega) g5,_,rfl,ia,CI,dx,_,_,rfl,i1,T.cl,T.nc,IN _ _ _,_,rfl,_,_,rfl,rfl,ac,xs,_,_,rfl,rfl,g1,VE (j:=st.course - 1) (by omega) g2,?_⟩;exact⟨b2,b,_,_,rfl,g6,g3,s1.1,s2.1,s1.b60.1,s1.b60.2.1,s2.b60.2.1,s2.b60.2.2,λH' r s3 h3=>k H' r s3 (SqT.of h3)⟩
theorem p0:FnScope ["self","begin","line","stop","interval","height"] ["self","begin","line","stop","interval","height"] (AH HC):={}
theorem p6 (F:Fun K "__init__" "Note.__init__" HC f fd) (T:NtC K CN):FnOk P w K mg base (CX1 P w) 1 f fd ["self","begin","line","stop","interval","height"] (j9 K CN):=by
 refine F.okx p0 λcdv A outer s H vs Q E hr h=>?_;obtain⟨x,dx,sa,ia,b,l,h,st,rfl,hx,hs,k⟩:=h;refine⟨_,(AB (CQ (pv 0) (pv 1) rfl)
  (AB (CQ (pv 0) (pv 2) rfl)
  (AB (CQ (pv 0) (BI DL (pv 3) AI (λ_ _=>rfl)) rfl)
  (AB (CQ (pv 0) (BI DL (pv 3) AI (λ_ _=>rfl)) rfl)
  (AB (CQ (pv 0) (pv 4) rfl)
  (AC (CQ (pv 0) (pv 5) rfl))))))),?_⟩
 and_intros
 have keep:∀(H':Hp) (xs:List V) (fs:List (Str×V)),H' x=some (.ins CN dx fs)->SqT K H' sa xs->∀gs,SqT K (upd H' x (.ins CN dx gs)) sa xs:=λH' xs fs h1 h2 gs=>by
  rcases h2 with(h2|⟨o,h2⟩)|h2
  ·exact .inl (.inl (by rw[AE (B1 h2 h1 (by intro z;cases z))];exact h2))
  ·exact .inl (.inr ⟨o,by rw[AE (B1 h2 h1 (by intro z;cases z))];exact h2⟩)
  ·exact .inr h2
 have q1:=keep H _ _ hx hs [("begin",.int b)];have q2:=keep _ _ _ upd_same q1 [("begin",.int b),("line",.int l)];have q3:=keep _ _ _ upd_same q2 [("begin",.int b),("line",.int l),("course",.int (st.course:Nat))];refine⟨_,rfl,_,rfl,x,CN,dx,[],rfl,hx,T.cl,T.nb,(by decide),?_⟩;refine⟨_,rfl,_,rfl,x,CN,dx,_,rfl,upd_same,T.cl,T.nl,(by show 1<1000;decide),?_⟩;refine⟨_,rfl,sa,_,0,V.int (st.course:Nat),rfl,rfl,q2,rfl,_,rfl,x,CN,dx,_,rfl,upd_same,T.cl,T.nc,(by show 2<1000;decide),?_⟩;refine⟨_,rfl,sa,_,1,V.int (st.fret:Nat),rfl,rfl,q3,rfl,_,rfl,x,CN,dx,_,rfl,upd_same,T.cl,T.nf,(by show 3<1000;decide),?_⟩;refine⟨_,rfl,_,rfl,x,CN,dx,_,rfl,upd_same,T.cl,T.ni,(by show 4<1000;decide),?_⟩;refine⟨_,rfl,_,rfl,x,CN,dx,_,rfl,upd_same,T.cl,T.nh,(by show 5<1000;decide),?_⟩;exact k _ upd_same λb o e hb=>by rw[AE hb,AE hb,AE hb,AE hb,AE hb,AE hb];exact e
theorem sc_beg:FnScope ["lines","unit","units","line"] ["lines"] (AH GP):={}
def JC (ps:List Ln) (i:Nat):List V:=(ji (i+1)).map λj=>V.int ((uL ps j:Nat):Int)
theorem SL (ps:List Ln) (i:Nat):JC ps (i+1)=JC ps i++[V.int ((uL ps (i+1):Nat):Int)]:=by
 unfold JC;rw[vm,dm];rfl
theorem kE (F:Fun K "beginnings" "beginnings" GP f fd) (TL:LnC K CL):FnOk P w K mg base (CX1 P w) 1 f fd ["lines"] (bF K CL):=by
 refine F.okx sc_beg λcdv A outer s H vs Q E hr h=>?_;obtain⟨al,ps,rfl,L,hl,k⟩:=h;refine⟨_,(AB (AX 1 sc_beg AI)
  (AB (AX 2 sc_beg (DK (AA AI AF)))
  (AB (B4 bn rfl (DG (pv 0)) (DT 3 sc_beg)
  (AB (J4 (i:=1) sc_beg.nd rfl (u7 rfl) (AR (pv 3) rfl) J5)
  (AC (AY (IJ dy fh fi CY (pv 2) (AA (pv 1) AF))))))
  (AC (AJ (pv 2)))))),?_⟩
 and_intros
 obtain⟨as,a1,a2⟩:=id L;have la:as.length=ps.length:=cf a2;refine⟨by rw[bw];show 1<=16777216;decide,λua nu=>?_⟩;have n0:al≠ua:=AG a1 nu;refine⟨V.ref al,rfl,al,rfl,⟨_,SqL.of (by rw[AE n0];exact a1)⟩,DE (K:=K) (a:=al) (xs:=as.map V.ref) (λi σ H'=>(∃r3,σ=[some (.ref al),some (.int ((uL ps i:Nat):Int)),some (.ref ua),r3])/\H'=upd H ua (.lst (JC ps i))) ⟨⟨none,by rw[E0];rfl⟩,by unfold JC;simp[E0]⟩ ?_ ?_ ?_⟩
 ·rintro i σ H' _ ⟨_,rfl⟩;exact SqL.of (by rw[AE n0];exact a1)
 ·rintro i y σ H' hi ⟨⟨r3,rfl⟩,rfl⟩
  and_intros
  rw[az] at hi;cases ea:as[i]? with
  |none=>rw[ea] at hi;cases hi
  |some x=>
   rw[ea] at hi;cases hi;obtain⟨p,hp,dl,sa,_,hx,Ls⟩:=BD a2 ea;have hi':i<ps.length:=(au.mp hp).1;have eu:=V0 hp;refine⟨_,rfl,_,rfl,x,CL,dl,_,_,rfl,(by rw[AE (AG hx nu)];exact hx),TL.cl,TL.nl,Z6 _ _,_,_,rfl,rfl,?_⟩;have e1:((uL ps i:Nat):Int)+((p.1:Nat):Int)=((uL ps (i+1):Nat):Int):=by omega
   refine⟨_,rfl,.inl ⟨rfl,_,SqL.of upd_same⟩,_,rfl,ua,_,_,rfl,rfl,upd_same,(by unfold JC;rw[ah,ll,bw];omega),⟨some (.ref x),by show[some (V.ref al),some (V.int (((uL ps i:Nat):Int)+((p.1:Nat):Int))),some (V.ref ua),some (V.ref x)]=_;rw[e1]⟩,?_⟩;show upd (upd H ua _) ua (.lst (JC ps i++[V.int (((uL ps i:Nat):Int)+((p.1:Nat):Int))]))=_;rw[e1,SL,cE]
 ·rintro σ H' ⟨⟨r3,rfl⟩,rfl⟩;rw[ah,la];exact⟨_,rfl,k _ ua (Same.upd nu) nu upd_same⟩
theorem bH:FnScope ["self","course","stop"] ["self","course"] (AH FB):={}
theorem bI {c:Nat} {l:List Stop} {s:Stop} (e:l[i]? =some s) (h0:JB c (l.take i)=false):JB c (l.take (i+1))=(s.course==c):=by
 unfold JB at h0 ⊢;rw[dj,e,xV,h0];simp
theorem kF (F:Fun K "strikes" "Line.strikes" FB f fd) (TL:LnC K CL):FnOk P w K mg base (CX1 P w) 1 f fd ["self","course"] (bG K CL):=by
 refine F.okx bH λcdv A outer s H vs Q E hr h=>?_;obtain⟨x,dx,sa,n,c,l,rfl,hx,Ls,k⟩:=h;refine⟨_,(AB (B4 bn rfl (DG (AR (pv 0) rfl)) (DT 2 bH)
  (AC (AW (AO CP (BI DL (pv 2) AI (λ_ _=>rfl)) (pv 1) (AQ _)) (AC (AJ MA)) AM)))
  (AC (AJ MA))),?_⟩
 and_intros
 obtain⟨bs,b1,b2⟩:=id Ls;have lb:bs.length=l.length:=by rw[cf b2,ah]
 refine⟨_,rfl,x,CL,dx,_,_,rfl,hx,TL.cl,TL.ns,V5 _ _,sa,rfl,⟨_,SqL.of b1⟩,DE (K:=K) (a:=sa) (xs:=bs.map V.ref) (λi σ H'=>(∃r2,σ=[some (.ref x),some (.int (c:Nat)),r2])/\H'=H/\JB c (l.take i)=false) ⟨⟨none,rfl⟩,rfl,rfl⟩ ?_ ?_ ?_⟩
 ·rintro i σ H' _ ⟨_,rfl,_⟩;exact SqL.of b1
 ·rintro i y σ H' hi ⟨⟨r2,rfl⟩,rfl,h0⟩
  subst_eqs
  rw[az] at hi;cases eb:bs[i]? with
  |none=>rw[eb] at hi;cases hi
  |some b=>
   rw[eb] at hi;cases hi;obtain⟨q,hq,hb⟩:=BD b2 eb;rw[az] at hq;cases es:l[i]? with
   |none=>rw[es] at hq;cases hq
   |some s=>
    rw[es] at hq;cases hq;have ht:=bI es h0;refine⟨_,rfl,b,_,0,V.int (s.course:Nat),rfl,rfl,hb,rfl,_,rfl,rfl,_,rfl,B7 (λh1=>?_) (λh1=>?_)⟩
    ·have e1:s.course=c:=by
      have q:=of_decide_eq_true h1;injection q with q;omega
     have e2:JB c l=true:=by
      rw[←iq (i+1) l];unfold JB at ht ⊢;rw[xV,ht,e1];simp
     rw[e2] at k;exact k
    ·have e1:¬s.course=c:=λq=>h1 (decide_eq_true (by rw[q]));exact⟨⟨_,rfl⟩,rfl,by rw[ht];simpa using e1⟩
 ·rintro σ H' ⟨⟨r2,rfl⟩,rfl,h0⟩;rw[ah,lb,fk] at h0;rw[h0] at k;exact k
end
end Lt
end
section
namespace L2
open PySem PySem.Spec PyProof.Rows
def kk (k:List Int):List Key:=k.map ko
theorem kG {a b:List Int} (h:kk a=kk b):a=b:=(List.map_inj_right λ_ _ e=>zx e).mp h
theorem p7 (k:List Int):(kk k).map kV=k.map V.int:=by
 unfold kk;rw[wS];rfl
theorem QP {P:aw} {w:bv} {K:aa} {H:Hp} {h:Heap} {a:Addr} {k:List Int} (ok:HOk P w H h) (KX:K.In h) (e:SqT K H a (k.map V.int)):(tM (DF P w)).is h (kk k) a:=by
 obtain⟨its,o,n,r,h1,h2,h3⟩:=Y7 ok KX e;rw[←p7] at r;exact⟨o,its.toArray,n,h1,h2,h3,by simpa using OI r⟩
abbrev KX:List (List Int×Addr×V)->List (List Key×Addr×ag)->Prop:=cb λp q=>kk p.1=q.1/\p.2.1=q.2.1/\RelV p.2.2 q.2.2
def dxv (xs:List (List Int×Addr×V)):List (List Int×V):=xs.map λx=>(x.1,x.2.2)
theorem KX.val {xs:List (List Int×Addr×V)} {ys:List (List Key×Addr×ag)} (r:KX xs ys) (k:List Int):RelO (EY (dxv xs) k) ((yu ys (kk k)).map (·.2)):=by
 induction r with
 |nil=>exact iz
 |@cons p q ps qs h t ih=>
  obtain⟨h1,_,h2⟩:=h;by_cases e:p.1=k
  ·have e':q.1=kk k:=by rw[←h1,e]
   have b:yu (q::qs) (kk k)=some q.2:=by simp[yu,jf,e']
   rw[dxv,de,GA (p:=(p.1,p.2.2)) e,b];exact h2
  ·have e':¬q.1=kk k:=λz=>e (kG (h1.trans z));have b:yu (q::qs) (kk k)=yu qs (kk k):=by simp[yu,jf,e']
   rw[dxv,de,EJ (p:=(p.1,p.2.2)) e,b];exact ih
def DxO (P:aw) (w:bv) (a:Addr) (xs:List (List Int×Addr×V)):HO:=
 .ext λh=>xs.length<=sizeLine/\(a==qw)=false/\∃ys:List (List Key×Addr×ag),KX xs ys/\Ex3 λo es ep=>h.get? a=some o/\o.ExactDict/\o.data= .dict es ep/\es.toList=ys.map (wg (tM (DF P w)))/\(ys.map (·.1)).Nodup
def Dx (P:aw) (w:bv) (K:aa) (H:Hp) (a:Addr) (kvs:List (List Int×V)):Prop:=
 ∃xs,H a=some (DxO P w a xs)/\kvs=dxv xs/\∀x∈xs,SqT K H x.2.1 (x.1.map V.int)
theorem bJ {P:aw} {w:bv} {H:Hp} {h:Heap} {a:Addr} {xs:List (List Int×Addr×V)} {ys:List (List Key×Addr×ag)} {o:Obj} {es:Array v3} {ep:Nat} (hz:xs.length<=sizeLine) (hm:(a==qw)=false) (r:KX xs ys)
 (h1:h.get? a=some o) (h2:o.ExactDict) (h3:o.data= .dict es ep) (h4:es.toList=ys.map (wg (tM (DF P w)))) (h5:(ys.map (·.1)).Nodup):ObjOk P w H h a (DxO P w a xs):=
 ⟨⟨hz,hm,ys,r,o,es,ep,h1,h2,h3,h4,h5⟩,⟨_,h1⟩,λg1 g2 ⟨z,m,ys,r,o,es,ep,e,q⟩ k=>⟨z,m,ys,r,o,es,ep,k _ e,q⟩⟩
theorem Dx.same {P:aw} {w:bv} {K:aa} {H H':Hp} {a:Addr} {kvs:List (List Int×V)} (d:Dx P w K H a kvs) (e:Same H H'):Dx P w K H' a kvs:=
 let ⟨xs,h1,h2,h3⟩:=d;⟨xs,e _ _ h1,h2,λx hx=>Same.tup e (h3 x hx)⟩
section
variable {X:Cx} {pins:List (Addr×Obj)} {σ:St} {H:Hp} {s:ai} {a b:Addr} {kvs:List (List Int×V)} {k:List Int} {v:V} {r:ag} {A:cy} {E:ag->ai->Prop}
theorem Inv.dx (I:Inv X pins σ H s) (d:Dx X.prog X.w X.K H a kvs):Ex2 λxs ys=>H a=some (DxO X.prog X.w a xs)/\kvs=dxv xs/\(∀x∈xs,SqT X.K H x.2.1 (x.1.map V.int))/\xs.length<=sizeLine/\(a==qw)=false/\KX xs ys/\s.heap.DictOfH (tM (DF X.prog X.w)) a ys:=by
 obtain⟨xs,e,ek,hk⟩:=d;obtain⟨z,m,ys,r,o,es,ep,h1,h2,h3,h4,h5⟩:=(show ObjOk X.prog X.w H s.heap a (DxO X.prog X.w a xs) from I.hok a _ e).1;refine⟨xs,ys,e,ek,hk,z,m,r,o,es,ep,h1,h2,h3,h4,?_,h5⟩;intro y hy;have all:∀{l:List (List Int×Addr×V)} {n:List (List Key×Addr×ag)},KX l n->(∀x∈l,SqT X.K H x.2.1 (x.1.map V.int))->∀y∈n,(tM (DF X.prog X.w)).is s.heap y.1 y.2.1:=by
  intro l n q;induction q with
  |nil=>intro _ y hy;exact nomatch hy
  |@cons p q ps qs hq t ih=>
   intro hl y hy;rcases bp.mp hy with e|hy
   ·subst e;rw[←hq.1, ←hq.2.1];exact QP I.hok I.kIn (hl p bb)
   ·exact ih (λx hx=>hl x (ao _ hx)) y hy
 exact all r hk y hy
theorem kH {Q:ag->ai->Prop} (hu:A.units+1<cLine) (I:Inv X pins σ H s) (d:Dx X.prog X.w X.K H a kvs) (eb:SqT X.K H b (k.map V.int)) (l:EY kvs k=some v) (h:∀w' s',Inv X pins σ H s'->RelV v w'->Q w' s'):
 be (bi X.prog X.w) A (u4 (.ref a) (.ref b)) Q E s:=by
 obtain⟨xs,ys,e,rfl,hk,z,m,rel,dd⟩:=I.dx d;obtain⟨w',hw,rw'⟩:=RelO.some_of (v:=v) (o:=(yu ys (kk k)).map (·.2)) (by rw[←l];exact rel.val k);obtain⟨p,hp,hp2⟩:=Option.map_eq_some_iff.mp hw;refine wpAny_getItem_heap (ug hu) (QP I.hok I.kIn eb) dd hp ?_;rw[hp2];exact h w' _ (I.tok _) rw'
theorem bK {Q:ag->ai->Prop} (hu:A.units+1<cLine) (I:Inv X pins σ H s) (d:Dx X.prog X.w X.K H a kvs) (eb:SqT X.K H b (k.map V.int)) (h:∀s',Inv X pins σ H s'->Q (.bool (!(EY kvs k).isSome)) s'):
 be (bi X.prog X.w) A (ke .NotIn (.ref b) (.ref a)) Q E s:=by
 obtain⟨xs,ys,e,rfl,hk,z,m,rel,dd⟩:=I.dx d;refine wpAny_notIn_heap (ug hu) (QP I.hok I.kIn eb) m dd ?_;have q:=(rel.val k).isSome_eq;rw[wT] at q;rw[←q];exact h _ (I.tok _)
theorem kI {Q:Unit->ai->Prop} (hu:A.units+1<cLine) (I:Inv X pins σ H s) (d:Dx X.prog X.w X.K H a kvs) (eb:SqT X.K H b (k.map V.int)) (l:EY kvs k=none) (hz:kvs.length<sizeLine) (rv:RelV v r)
 (h:∀H' s',Inv X pins σ H' s'->Sb a H H'->Dx X.prog X.w X.K H' a (kvs++[(k,v)])->Q () s'):be (bi X.prog X.w) A (setItem (.ref a) (.ref b) r) Q E s:=by
 obtain⟨xs,ys,e,rfl,hk,z,m,rel,dd⟩:=I.dx d;rw[dxv,ah] at hz;have hn:(yu ys (kk k)).isSome=false:=by
  have q:=(rel.val k).isSome_eq;rw[wT,l] at q;exact q.symm
 have hly:ys.length<=sizeLine:=by rw[←cf rel];exact z
 refine wpAny_setItem_heap (hsz:=hly) (ug hu) (QP I.hok I.kIn eb) dd λh' dd' hs=>?_;obtain⟨q,es,ep,hq,h2,h3,h4,_,h5⟩:=dd';have est:storedH ys (kk k) b r=ys++[(kk k,b,r)]:=by
  unfold storedH;rw[if_neg (by rw[hn];decide)]
 rw[est] at h4 h5;have rel':KX (xs++[(k,b,v)]) (ys++[(kk k,b,r)]):=Paired.snoc rel ⟨rfl,rfl,rv⟩;have sb:Sb a H (upd H a (DxO X.prog X.w a (xs++[(k,b,v)]))):=λc o ec n=>by rw[AE n];exact ec
 have tp:∀{c:Addr} {l:List V},SqT X.K H c l->SqT X.K (upd H a (DxO X.prog X.w a (xs++[(k,b,v)]))) c l:=λ{c l} hc=>by
  rcases hc with(hc|⟨o,hc⟩)|hc
  ·exact .inl (.inl (sb _ _ hc (B1 hc e (by intro z;cases z))))
  ·exact .inl (.inr ⟨o,sb _ _ hc (B1 hc e (by intro z;cases z))⟩)
  ·exact .inr hc
 refine h _ _ (cZ I (by rw[e];exact iz) hs ⟨q,hq⟩ (bJ (by rw[bq];simp;omega) m rel' hq h2 h3 h4 h5)) sb ⟨_,upd_same,?_,λx hx=>?_⟩
 ·simp[dxv]
 ·rcases cj.mp hx with hx|hx
  ·exact tp (hk x hx)
  ·have:x=(k,b,v):=by simpa using hx
   rw[this];exact tp eb
end
def p8 (P:aw) (w:bv) (K:aa) (td ty:TE):TE:=λσ H Q=>td σ H λx H1=>ty σ H1 λy H2=>Ex5 λa b kvs k v=>x= .ref a/\y= .ref b/\Dx P w K H2 a kvs/\SqT K H2 b (k.map V.int)/\EY kvs k=some v/\Q v H2
def eL (P:aw) (w:bv) (K:aa) (ty td:TE):TE:=λσ H Q=>ty σ H λy H1=>td σ H1 λx H2=>Ex4 λa b kvs k=>x= .ref a/\y= .ref b/\Dx P w K H2 a kvs/\SqT K H2 b (k.map V.int)/\Q (.bl (!(EY kvs k).isSome)) H2
def p9 (P:aw) (w:bv) (K:aa) (td ty tv:TE):TS:=λD σ H=>tv σ H λv H1=>td σ H1 λx H2=>ty σ H2 λy H3=>Ex4 λa b kvs k=>x= .ref a/\y= .ref b/\Dx P w K H3 a kvs/\SqT K H3 b (k.map V.int)/\EY kvs k=none/\kvs.length<sizeLine/\
 ∀H4,Sb a H3 H4->Dx P w K H4 a (kvs++[(k,v)])->D.nx σ H4
def qA (P:aw) (w:bv) (K:aa):TE:=λ_ H Q=>∀p H',H p=none->Sb p H H'->Dx P w K H' p []->Q (.ref p) H'
section
variable {X:Cx} {o i value:Expr} {pos pos':Pos} {td ty tv:TE}
theorem WJ (hu:X.A.units+1<cLine) (ho:PE X o td) (hi:PE X i ty) (hs:lY i):PE X (.Subscript o i pos) (p8 X.prog X.w X.K td ty):=by
 intro pins s σ H Q I h;refine c4 PySem.F.slot_dict_getitem.lookup hs (thn (ho pins s σ H _ I h) λu s1 ⟨x,H1,I1,rx,q1⟩=>thn (hi pins s1 σ H1 _ I1 q1) λiv s2 ⟨y,H2,I2,ry,a,b,kvs,k,v,ex,ey,d,eb,l,q2⟩=>?_);subst ex ey;obtain rfl:u=bz a:=rx;obtain rfl:iv=bz b:=ry;obtain⟨_,_,_,_,_,_,_,_,dd⟩:=I2.dx d;exact⟨dd.typeIs,kH hu I2 d eb l λw' s3 I3 rw'=>⟨v,H2,I3,rw',q2⟩⟩
theorem O6 (hu:X.A.units+1<cLine) (hi:PE X i ty) (ho:PE X o td):PC X .NotIn i o (eL X.prog X.w X.K ty td):=by
 intro pins s σ H Q I h;refine thn (hi pins s σ H _ I h) λiv s1 ⟨y,H1,I1,ry,q1⟩=>thn (ho pins s1 σ H1 _ I1 q1) λu s2 ⟨x,H2,I2,rx,a,b,kvs,k,ex,ey,d,eb,q2⟩=>?_;subst ex ey;obtain rfl:u=bz a:=rx;obtain rfl:iv=bz b:=ry;exact bK hu I2 d eb λs3 I3=>⟨.bl (!(EY kvs k).isSome),H2,I3,rfl,q2⟩
theorem QQ (hu:X.A.units+1<cLine) (ho:PE X o td) (hi:PE X i ty) (hv:PE X value tv) (hs:pc value (some (.Subscript o i pos')) pos.line X.env=pure false):
 PS X (.Assign [.Subscript o i pos'] value pos) (p9 X.prog X.w X.K td ty tv):=by
 intro pins s σ H D I h;refine wpAny_Assign_Subscript (thn (hv pins s σ H _ I h) λr s1 ⟨v,H1,I1,rv,q1⟩=>thn (ho pins s1 σ H1 _ I1 q1) λu s2 ⟨x,H2,I2,rx,q2⟩=>thn (hi pins s2 σ H2 _ I2 q2) λiv s3 ⟨y,H3,I3,ry,a,b,kvs,k,ex,ey,d,eb,l,hz,q3⟩=>?_) hs;subst ex ey;obtain rfl:u=bz a:=rx;obtain rfl:iv=bz b:=ry;exact kI hu I3 d eb l hz rv λH4 s4 I4 sb d4=>⟨σ,H4,I4,q3 H4 sb d4⟩
theorem QR:PE X (.Dict [] [] pos) (qA X.prog X.w X.K):=λpins s σ H Q I h=>by
 have hm:(s.heap.objs.size==qw)=false:=beq_eq_false_iff_ne.mpr (cq (cg I.big));have J:=I.laid (a:=s.heap.objs.size) (h':=s.heap.push { cls:=.type "dict",data:=.dict #[] }) (o:=DxO X.prog X.w s.heap.objs.size []) (t':=s.toks) (λ_ _ q=>ak _ q) (aq _)
  (bJ (ys:=[]) (df _) hm .nil (bf _ rfl) ⟨rfl,rfl,rfl⟩ rfl rfl vW)
 exact wpAny_Dict_empty ⟨.ref s.heap.objs.size,_,J,rfl,h _ _ (I.hok.fresh (aq _)) (λb o e n=>by rw[AE n];exact e) ⟨[],upd_same,rfl,λx hx=>nomatch hx⟩⟩
end
end L2
end
section
namespace L2
open PySem PySem.Spec PyProof.Rows
def sD:V->List V->Hp->VK->Prop:=λx vs H Q=>Ex4 λ(l:Addr) (xs:List V) (i:Nat) (y:V)=>x= .ref l/\vs=[.int (i:Nat),y]/\H l=some (.lst xs)/\i<=xs.length/\xs.length<sizeLine/\Q .non (upd H l (.lst (xs.take i++y::xs.drop i)))
theorem eN {i:Nat} (h:i<1000000000):ou (i:Int)=true:=by
 unfold ou;simp;omega
theorem eO (its:List ag) (i:Nat) (u2:ag) (hi:i<=its.length) (x:Int) (hx:x=(i:Int)):
 (λxs:Array ag=>have k:=if x<0 then(x+(xs.size:Int)).toNat else min x.toNat xs.size;(xs.extract 0 k).push u2++xs.extract k) its.toArray=(its.take i++u2::its.drop i).toArray:=by
 have ek:(if x<0 then(x+(its.toArray.size:Int)).toNat else min x.toNat its.toArray.size)=i:=by
  rw[if_neg (by omega),bg];omega
 show((its.toArray.extract 0 (if x<0 then(x+(its.toArray.size:Int)).toNat else min x.toNat its.toArray.size)).push u2++its.toArray.extract (if x<0 then(x+(its.toArray.size:Int)).toNat else min x.toNat its.toArray.size))=_;rw[ek];apply Array.ext';simp;exact sr (by rw[fu];omega)
theorem eP {prog:aw} {w:bv} {A:cy} {E:ag->ai->Prop} {s:ai} {l:Addr} {items:Array ag} {n:Nat} {x:Int} {t:Tok} {y:ag} {Q:ag->ai->Prop} (e:s.heap.get? l=some { cls:=.type "list",data:=.seq items n })
 (hf:ou x=true) (hz:items.size<=sizeLine)
 (k:Q .none { s with heap:=s.heap.update l (fb λxs=>have k:=if x<0 then(x+(xs.size:Int)).toNat else min x.toNat xs.size;(xs.extract 0 k).push y++xs.extract k),toks:=s.toks }):be (bi prog w) A (call (.builtin "list.insert") [.ref l,.int x t,y]) Q E s:=
 yd F.slot_list_insert ⟨_,e,rfl⟩ F.entry_list_insert (F.args_list_insert_3 _ _ _) (vo l items n x t y (by simp[hf]) hz) ⟨e,k⟩
theorem X0 {X:Cx}:MtM X "list.insert" sD:=by
 intro pins s σ H x vs v us Q I rx rv h;obtain⟨l,xs,i,y,rfl,rfl,hH,hi,hz,q⟩:=h;cases rx;obtain⟨u1,u2,rfl,r1,r2⟩:=rv.two;obtain⟨t,rfl⟩:=r1;obtain⟨z,its,n,r,hl,e⟩:=I.lstM hH;refine eP e (eN (by rw[bw] at hz;omega)) (by rw[bg];omega) ?_;refine⟨.non,_,I.lset (its':=its.take i++u2::its.drop i) hH e (eO its i u2 (by omega) _ rfl) ((r.take i).append (.cons r2 (r.drop i))) ?_,rfl,q⟩;rw[bq,cw,dk,fu];omega
end L2
end
section
namespace L2
open PySem PySem.Spec PyProof.Rows
def RawD (h:Heap) (d:Addr) (es:Array v3) (ep:Nat):Prop:=∃o,h.get? d=some o/\o.ExactDict/\o.data= .dict es ep
section
variable {prog:aw} {w:bv} {A:cy} {E:ag->ai->Prop} {s:ai} {vw it d:Addr} {es:Array v3} {ep i:Nat}
theorem X3 {Q:ag->ai->Prop} (hvw:s.heap.IsValuesView vw d) (hm:RawD s.heap d es ep)
 (k:Q (.ref s.heap.objs.size) { s with heap:=s.heap.push { cls:=.type "dict_valueiterator",data:=.fields #[.ref d,.int 0 0,.int es.size 0,.int ep 0] } }):be (bi prog w) A (pyIter (.ref vw)) Q E s:=by
 obtain⟨ov,gv,cv,dv⟩:=id hvw;obtain⟨o,go,_,dd⟩:=hm;refine wpAny_pyIter_slot hvw.typeIs uW (mq uW hvw.typeIs F.entry_dict_values_iter (?_:_) (F.args_dict_values_iter_1 _));unfold um.«dict_values.__iter__»;refine ae (am ?_);refine ae ?_;unfold yI;refine ae (ik gv dv (x:=.ref d) rfl (am ?_));refine ae ?_;unfold xu;refine ae (uw go dd ?_);refine ae (vp go dd ?_);have own:nw "dict_valueiterator"=false:=by decide
 simp only[own,fm,if_false];refine fw (am ⟨_,rfl,"dict_valueiterator",_,⟨_,bf _ rfl,rfl⟩,il.lookup,(?_:_)⟩);simpa [fv] using k
theorem X5 {en:v3} {Q:Option ag->ai->Prop} (hv:s.heap.IsValIter it d i es.size ep) (hm:RawD s.heap d es ep) (hx:es[i]? =some en)
 (k:∀h',h'.IsValIter it d (i+1) es.size ep->oy it s.heap h'->Q (some en.val) { s with heap:=h' }):be (bi prog w) A (wk (.ref it)) Q E s:=by
 obtain⟨oi,gi,ci,di⟩:=id hv;obtain⟨od,go,_,dd⟩:=hm;unfold wk;refine ae (ux (jp (name:=li "__next__") hv.typeIs il
  (mq il hv.typeIs sG (?_:_) (sF _))))
 refine ae (am ?_);refine ae ?_;refine ae ?_;first|refine ae (jo hv.typeIs (am ?_))|refine ae (mf hv.typeIs (am ?_))
 refine ae (yw gi di ?_);have own:nw "dict_valueiterator"=false:=by decide
 simp only[own,fm,if_false];show be _ _ (if(bz d==ij)=true then _ else _) _ _ s;rw[if_neg (show¬((bz d==ij)=true) from bu)];refine ae (am ?_);refine ae (uw go dd ?_);rw[if_neg (by simp)];refine ae (am ?_);refine ae (vp go dd ?_);rw[if_neg (by simp)];refine am ?_;obtain⟨lt,hen⟩:=kl.mp hx;simp only[show¬((i:Int)<0) from by omega,if_false,jq,qb lt];refine ae ?_;first|refine ae (jo hv.typeIs (am ?_))|refine ae (mf hv.typeIs (am ?_))
 refine ae (sJ hv.typeIs ?_);show be _ _ (yh (.ref it) 1 (fv ((i:Int)+1)) >>= _) _ _ s;refine ae (je gi di (by simp) ?_);have hv':(s.heap.update it (nz (·.setIfInBounds 1 (fv ((i:Int)+1))))).IsValIter it d (i+1) es.size ep:=
  ⟨_,ip _ gi (sI (ng di _)),(wI ..).trans ci,by rw[ng di];simp[fv]⟩
 refine ae (ie ?_);refine ae (sJ (s:={ s with heap:=s.heap.update it (nz (·.setIfInBounds 1 (fv ((i:Int)+1)))) }) hv'.typeIs ?_);refine ae (sJ (s:={ s with heap:=s.heap.update it (nz (·.setIfInBounds 1 (fv ((i:Int)+1)))) }) hv'.typeIs ?_);show be _ _ (pure es[i].val) _ _ _;rw[hen];exact am (am ⟨_,rfl,am (k _ hv' (qc ..))⟩)
theorem bL {Q:Option ag->ai->Prop} (hh:A.handled=none) (hv:s.heap.IsValIter it d es.size es.size ep) (hm:RawD s.heap d es ep) (k:∀h',zD it s.heap h'->Q none { s with heap:=h' }):be (bi prog w) A (wk (.ref it)) Q E s:=by
 obtain⟨oi,gi,ci,di⟩:=id hv;obtain⟨od,go,_,dd⟩:=hm;unfold wk;refine ae (ux (jp (name:=li "__next__") hv.typeIs il
  (mq il hv.typeIs sG (?_:_) (sF _))))
 refine ae (am ?_);refine ae ?_;refine ae ?_;first|refine ae (jo hv.typeIs (am ?_))|refine ae (mf hv.typeIs (am ?_))
 refine ae (yw gi di ?_);have own:nw "dict_valueiterator"=false:=by decide
 simp only[own,fm,if_false];show be _ _ (if(bz d==ij)=true then _ else _) _ _ s;rw[if_neg (show¬((bz d==ij)=true) from bu)];refine ae (am ?_);refine ae (uw go dd ?_);rw[if_neg (by simp)];refine ae (am ?_);refine ae (vp go dd ?_);rw[if_neg (by simp)];refine am ?_;simp only[show¬((es.size:Int)<0) from by omega,if_false,jq,sh (aq es.size)];refine ae ?_;first|refine ae (jo hv.typeIs (am ?_))|refine ae (mf hv.typeIs (am ?_))
 show be _ _ (yh (.ref it) 0 .none >>= _) _ _ s;refine ae (je gi di (by simp) ?_);show be _ _ (newExc (.type "StopIteration") [] >>= _) _ _ _;refine ae ?_;simp only[newExc,newTuple];refine ae (fw ?_ (by size_fits));refine ae (m:=tZ _ _) (wpAny_of_eq (a:=ij) (by first|rfl|(simp only[tZ];rfl)) ?_);refine fw ?_ (by size_fits);simp only[raiseNew];refine ae (wf ?_);rw[show A.in1.handled=none from hh];refine ae (am (xA ?_));refine ae (xl (T:="StopIteration") (b:=true) ⟨_,bf _ rfl,rfl⟩ isSubtype_stop ?_);exact am (k _ (((qc ..).extBut.push _).push _))
theorem RawD.at {h h':Heap} (x:RawD h d es ep) (e:∀o,h.get? d=some o->h'.get? d=some o):RawD h' d es ep:=let ⟨o,ho,r⟩:=x;⟨o,e _ ho,r⟩
theorem eQ:PySem.W.KdlSrc prog w "dict_values" vw d es.size (λi v=>∃en,es[i]? =some en/\v=en.val) (λh=>h.IsValuesView vw d/\RawD h d es ep) where
 type:=λ_ x=>x.1.typeIs
 there:=λ_ x=>⟨let ⟨_,ho,_⟩:=x.1;bh ho,let ⟨_,ho,_⟩:=x.2;bh ho⟩
 keep:=λ_ _ x f=>⟨let ⟨o,ho,y⟩:=x.1;⟨o,f vw (.inl rfl) o ho,y⟩,x.2.at λo e=>f d (.inr rfl) o e⟩
 notList:=by decide
 notTuple:=by decide
 hint:=λ_ _ _ _ x hq=>PySem.W.kdl_hint_values x.1.typeIs hq
 iter:=λA s hh x=>by
  have hlt:d<s.heap.objs.size:=let ⟨_,ho,_⟩:=x.2;bh ho;refine⟨_,λi h=>h.IsValIter s.heap.objs.size d i es.size ep/\RawD h d es ep,λ_ _ hq=>X3 x.1 x.2 hq,⟨λb hb=>by simp at hb;simp[hb],λ_ _ _ st f=>⟨st.1.at λo e=>f _ (by simp) o e,st.2.at λo e=>f d (by simp) o e⟩,λi s' Q E hi st k=>?_,λs' Q E st k=>?_,λ_ _ _ _ st k=>wpAny_pyIter_valiter st.1 k⟩,⟨⟨_,bf _ rfl,rfl,rfl⟩,x.2.at λo e=>ak _ e⟩⟩
  ·refine X5 st.1 st.2 (qb hi) λh' q sb=>k _ h' s'.toks ⟨_,qb hi,rfl⟩ ⟨q,st.2.at λo e=>(sb.2 d (cg hlt)).trans e⟩ λb o hb e=>sb.extBut b o (λz=>hb (by simp[z])) e
  ·exact bL hh st.1 st.2 λh' eb=>k h' s'.toks λb o hb e=>eb b o (λz=>hb (by simp[z])) e
theorem UR (hd:(d==qw)=false):MeetsIn prog w (um.«dict.values» ⟨[.ref d],[]⟩) (λ_ R s=>s.TypeIs (.ref d) "dict"/\R (.ok (.ret (.ref s.heap.objs.size))) { s with heap:=s.heap.push { cls:=.type "dict_values",data:=.fields #[.ref d] } }):=
 .of_wp λA R s ⟨hT,k⟩=>by
  refine ae ?_;unfold zQ;refine ae (wpAny_notOrdered_dict hT ?_);show be _ _ (pure d) _ _ s;refine am ?_;show be _ _ (vB d >>= _) _ _ s;unfold vB;rw[if_neg (by rw[hd];exact bu)];refine ae (am ?_);exact ae (fw (am ⟨_,rfl,k⟩))
end
def O7 (v d:Addr):HO:=.ext λh=>h.IsValuesView v d
def kJ (P:aw) (w:bv) (K:aa) (td:TE):TE:=λσ H Q=>td σ H λx H1=>Ex2 λd kvs=>x= .ref d/\Dx P w K H1 d kvs/\∀v,H1 v=none->Q (.ref v) (upd H1 v (O7 v d))
theorem bM {X:Cx} {e:Expr} {td:TE} {apos cpos:Pos} (he:PE X e td) (hbase:jl e "values" X.env (eval e X.env)=eval e X.env:=by rfl) (hline:(apos.endLine==cpos.line)=true:=by rfl):PE X (.Call (.Attribute e "values" apos) [] [] cpos) (kJ X.prog X.w X.K td):=by
 intro pins s σ H Q I h;refine wpAny_Call_method (T:="dict") (id:="dict.values") hbase rfl hline F.plainAttrs_dict ww F.type_dict_values (thn (he pins s σ H _ I h) λu s1 ⟨x,H1,I1,rx,d,kvs,ex,hd,q⟩=>?_);subst ex;obtain rfl:u=bz d:=rx;obtain⟨xs,ys,e1,ek,hk,z,m,rel,dd⟩:=I1.dx hd;obtain⟨o,es,ep,go,xd,_⟩:=id dd;refine⟨dd.typeIs,λb z=>by cases z;exact⟨o,go,xd.2.1⟩,?_⟩;show be _ _ (mo cpos (.builtin "dict.values") [.ref d] [] []) _ X.xe s1;refine method_meetsIn ww F.entry_dict_values rfl (PySem.evalArgs_none ⟨rfl,dd.typeIs,F.args_dict_values_1 _,_,UR m,dd.typeIs,?_⟩);exact⟨.ref s1.heap.objs.size,_,I1.laid (a:=s1.heap.objs.size) (o:=O7 s1.heap.objs.size d) (t':=s1.toks) (λ_ _ q=>ak _ q) (aq _)
  ⟨⟨_,bf _ rfl,rfl,rfl⟩,⟨_,bf _ rfl⟩,λg1 g2 ⟨o,a1,a2⟩ k=>⟨o,k _ a1,a2⟩⟩,rfl,q _ (I1.hok.fresh (aq _))⟩
theorem bN {es:Array v3} {acc:Array ag} (h:xW (λi v=>∃en,es[i]? =some en/\v=en.val) acc es.size):acc.toList=es.toList.map (·.val):=by
 apply List.ext_getElem?;intro i;rw[az,kq,kq];cases e:acc[i]? with
 |none=>
  have h1:acc.size<=i:=Array.getElem?_eq_none_iff.mp e;rw[sh (by rw[←h.1];exact h1)];rfl
 |some v=>
  obtain⟨en,h1,h2⟩:=h.2 i v e;rw[h1,h2];rfl
theorem US {X:Cx} (hc:X.calm=true):JH X (.type "list") (λxs H Q=>Ex3 λv d kvs=>xs=[.ref v]/\H v=some (O7 v d)/\Dx X.prog X.w X.K H d kvs/\∀l,H l=none->Q (.ref l) (upd H l (.lst (kvs.map (·.2))))):=by
 intro pins s σ H xs us Q I r h;obtain⟨v,d,kvs,rfl,hv,hd,q⟩:=h;obtain⟨u,rfl,rx⟩:=MF r;cases rx;obtain⟨xs,ys,e1,rfl,hk,z,m,rel,dd⟩:=I.dx hd;obtain⟨o,es,ep,go,xd,hdt,hes,_⟩:=id dd;have vw:s.heap.IsValuesView v d:=(show ObjOk X.prog X.w H s.heap v (O7 v d) from I.hok v _ hv).1;have hsz:es.size=xs.length:=by
  have:=congrArg oq hes;rw[fq,ah] at this;rw[this];exact(cf rel).symm
 refine PySem.W.kdl_call (eQ (vw:=v) (d:=d) (es:=es) (ep:=ep)) (I.ok.hd hc) ⟨vw,o,go,xd,hdt⟩ (by rw[hsz];exact z) λh' tk acc c kp ga hacc=>?_;have ev:=bN hacc;have rv:Vals ((dxv xs).map (·.2)) acc.toList:=by
  rw[ev,hes,wS];have go:∀{l:List (List Int×Addr×V)} {n:List (List Key×Addr×ag)},KX l n->Vals ((dxv l).map (·.2)) (n.map ((·.val)∘wg (tM (DF X.prog X.w)))):=by
   intro l n q;induction q with
   |nil=>exact .nil
   |cons h t ih=>exact .cons h.2.2 ih
  exact go rel
 exact⟨.ref s.heap.objs.size,_,I.laid (t':=tk) kp (aq _) (show ObjOk X.prog X.w _ h' _ (.lst ((dxv xs).map (·.2))) from⟨by rw[dxv,ah,ah];exact z,acc.toList,c,rv,ga⟩),rfl,q _ (I.hok.fresh (aq _))⟩
end L2
end
section
namespace Lt
open PySem PySem.Spec PyProof.Rows L2
variable {f a C CR CT r ta CI CL CN:Addr} {fd:du} {X:Cx} {x:List Int} {i n e p q:Nat} {pos:Pos} {z dz fz:Str} {xs:List V} {E:XK} {H H' H1:Hp} {cs t ci ct:List UInt8} {α β:Type} {Q:VK} {ls fr co ba:List (List Int)} {P:aw} {w:bv} {h:Heap} {ps:List Str}
def qB (K:aa):Sp:=λvs H Q _=>Ex4 λ(ra xa:Addr) (rs:List (List Int)) (x:List Int)=>vs=[.ref ra,.ref xa]/\LT K H ra rs/\SqT K H xa (x.map V.int)/\(∀l∈rs,Sm l)/\Sm x/\rs.length<=100000/\
 ∀H',Same H H'->Q (.int ((mPA (λy=>BH y x) [] rs (rs.length+1) 0 rs.length:Nat):Int)) H'
def WPa (K:aa) (ra xa:Addr) (rs:List (List Int)) (x:List Int) (H:Hp) (m:Nat) (σ:L2.St) (H':Hp):Prop:=
 Ex4 λ(low high g:Nat) (r4:Option V)=>σ=[some (.ref ra),some (.ref xa),some (.int (low:Nat)),some (.int (high:Nat)),r4]/\Same H H'/\mPA (λy=>BH y x) [] rs (rs.length+1) 0 rs.length=mPA (λy=>BH y x) [] rs g low high/\high - low<g/\low<=high/\high<=rs.length/\m=high - low
theorem LT.same {K:aa} (h:LT K H a ls) (e:Same H H'):LT K H' a ls:=(Same.kp e).lt h
theorem qC (lt:α->Bool) (d:α) (r:List α) (f low high:Nat):mPA lt d r (f+1) low high=if low<high then(if lt (r.getD ((low+high) / 2) d)=true then mPA lt d r f ((low+high) / 2+1) high else mPA lt d r f low ((low+high) / 2)) else low:=rfl
section
variable {P:aw} {w:bv} {K:aa} {mg:Str->Option ag} {base:Heap} {CI CL CN:Addr}
theorem O8:FnScope ["rising","interval","low","high","middle"] ["rising","interval"] (AH FU):={}
theorem qD (F:Fun K "place_among" "place_among" FU f fd) (B:Blt mg) (D1:Def P w K mg base 2 "narrower" ["x","y"] (dE K)):FnOk P w K mg base (CX1 P w) 3 f fd ["rising","interval"] (qB K):=by
 refine F.okx O8 λcdv A outer s H vs Q E hr h=>?_;obtain⟨ra,xa,rs,x,rfl,L,hx,hs,sx,hl,k⟩:=h;refine⟨_,(AB (AX 2 O8 AI)
  (AB (AX 3 O8 (AZ AN (by rfl) B.len cr (AA (pv 0) AF)))
  (AB (B3 bn (AO IH (pv 2) (pv 3) (AQ _))
  (AB (AX 4 O8 (BC LR (BC C9 (pv 2) (pv 3)) AI))
  (AC (AW (C7 (D1.call hr AD (AA (BI B9 (pv 0) (pv 4) (λ_ _=>rfl)) (AA (pv 1) AF))))
   (AC (AX 2 O8 (BC C9 (pv 4) AI))) (AC (AX 3 O8 (pv 4)))))))
  (AC (AJ (pv 2)))))),?_⟩
 and_intros
 obtain⟨ys,g1,g2⟩:=L.len;refine⟨_,rfl,ra,ys,rfl,.inl g1,?_⟩;refine⟨WPa K ra xa rs x H,⟨rs.length,0,rs.length,rs.length+1,none,by rw[g2];rfl,Same.refl _,rfl,by omega,by omega,by omega,rfl⟩,?_⟩;rintro m σ H1 ⟨low,high,g,r4,rfl,s1,em,hg,hlh,hh,rfl⟩;obtain⟨g,rfl⟩:∃g',g=g'+1:=⟨g - 1,by omega⟩
 replace em:=em.trans (qC _ _ _ g low high);refine⟨_,rfl,_,rfl,_,_,rfl,rfl,_,rfl,?_⟩;by_cases hlt:low<high
 ·have hd:decide (((low:Nat):Int)<((high:Nat):Int))=true:=decide_eq_true (by omega);rw[hd];rw[if_pos hlt] at em;have emid:(((low:Nat):Int)+((high:Nat):Int)) / 2=(((low+high) / 2:Nat):Int):=by omega
  refine DZ ⟨_,rfl,_,rfl,_,_,rfl,rfl,_,_,rfl,rfl,(show(0:Int)<2/\(2:Int)<1073741824 from by decide),?_⟩;obtain⟨xs,b,q1,q2,q3⟩:=(L.same s1).get (i:=(low+high) / 2) (by omega);have sm:=hs (rs.getD ((low+high) / 2) []) (by rw[bj,aj (by omega)];exact jd _);refine⟨_,rfl,V.int (((low+high) / 2:Nat):Int),(by rw[←emid];rfl),ra,xs,_,_,rfl,rfl,q1,DH q2,V.ref xa,rfl,b,xa,_,_,rfl,q3,s1.tup hx,sm,sx,λH2 s2=>⟨_,rfl,?_⟩⟩;cases hn:BH (rs.getD ((low+high) / 2) []) x with
  |true=>
   rw[hn,if_pos rfl] at em;exact BS ⟨V.int (((low+high) / 2:Nat):Int),(by rw[←emid];rfl),_,_,rfl,rfl,_,(show high - ((low+high) / 2+1)<high - low by omega),(low+high) / 2+1,high,g,_,rfl,s1.trans s2,em,by omega,by omega,hh,rfl⟩
  |false=>
   rw[hn,if_neg (by decide)] at em;exact BJ ⟨V.int (((low+high) / 2:Nat):Int),(by rw[←emid];rfl),_,(show(low+high) / 2 - low<high - low by omega),low,(low+high) / 2,g,_,rfl,s1.trans s2,em,by omega,by omega,by omega,rfl⟩
 ·have hd:decide (((low:Nat):Int)<((high:Nat):Int))=false:=decide_eq_false (by omega);rw[hd];rw[if_neg hlt] at em;rw[em] at k;exact BJ ⟨_,rfl,k H1 s1⟩
end
open PySem PySem.Spec PyProof.Rows L2
def rise (xs:List (List Int)):List (List Int):=OX BH [] xs
def rkV (rs:List (List Int)) (n:Nat):List (List Int×V):=(ji n).map λi=>(rs.getD i [],V.int (i:Nat))
theorem SM (rs:List (List Int)) (n:Nat):rkV rs (n+1)=rkV rs n++[(rs.getD n [],V.int (n:Nat))]:=by
 unfold rkV;rw[vm,dm];rfl
theorem bO {kvs:List (List Int×V)} {k:List Int} (h:∀x∈kvs,¬x.1=k):EY kvs k=none:=by
 induction kvs with
 |nil=>rfl
 |cons p r ih=>rw[EJ (h p bb)];exact ih λx hx=>h x (ao _ hx)
theorem NS {rs:List (List Int)} (nd:rs.Nodup) (hn:n<rs.length):EY (rkV rs n) (rs.getD n [])=none:=by
 refine bO λx hx e=>?_;unfold rkV at hx;obtain⟨i,hi,rfl⟩:=jx.mp hx;have hi:=xY.mp hi;rw[bj,bj,aj hn,aj (mz hi hn)] at e;have:=l3 nd (aj (mz hi hn)) (by rw[aj hn];exact congrArg some e.symm);omega
theorem bP {rs:List (List Int)} (nd:rs.Nodup):∀{n:Nat} {k:List Int},n<=rs.length->rs.idxOf k<n->EY (rkV rs n) k=some (V.int ((rs.idxOf k:Nat):Int))
 |0,k,_,h=>by omega
 |n+1,k,hn,h=>by
  have hlt:n<rs.length:=hn;rw[SM,KD _ _ _ _ (NS nd hlt)];by_cases e:rs.idxOf k=n
  ·have ek:k=rs.getD n []:=by
    rw[bj, ←e,aj (by rw[e];exact hlt)];exact(ud (by rw[e];exact hlt)).symm
   rw[if_pos ek,e]
  ·have hk:=bP nd (n:=n) (k:=k) (by omega) (by omega);rw[if_neg,hk];intro ek;rw[ek,NS nd hlt] at hk;cases hk
def qE (P:aw) (w:bv) (K:aa):Sp:=λvs H Q _=>Ex2 λ(va:Addr) (xs:List (List Int))=>vs=[.ref va]/\LT K H va xs/\(∀l∈xs,Sm l)/\xs.length<=100000/\
 ∀H' d,Same H H'->Dx P w K H' d (rkV (rise xs) (rise xs).length)->Q (.ref d) H'
theorem LT.sbx {K:aa} (h:LT K H a ls) (s:Sb r H H') (ha:a≠r) (hr:∀xs,H r≠some (.tup xs)) (hf:∀o u,H r≠some (.frz o u)):LT K H' a ls:=by
 obtain⟨as,h1,h2⟩:=h;refine⟨as,s _ _ h1 ha,AS h2 λb l q=>?_⟩;rcases q with(q|⟨o,q⟩)|q
 ·exact .inl (.inl (s _ _ q λz=>hr _ (z▸q)))
 ·exact .inl (.inr ⟨o,s _ _ q λz=>hf _ _ (z▸q)⟩)
 ·exact .inr q
theorem qF {K:aa} {kvs:List (List Int×V)} (h:Dx P w K H a kvs) (s:Sb r H H') (ha:a≠r) (hr:∀xs,H r≠some (.tup xs)) (hf:∀o u,H r≠some (.frz o u)):Dx P w K H' a kvs:=by
 obtain⟨xs,h1,h2,h3⟩:=h;refine⟨xs,s _ _ h1 ha,h2,λx hx=>?_⟩;rcases h3 x hx with(q|⟨o,q⟩)|q
 ·exact .inl (.inl (s _ _ q λz=>hr _ (z▸q)))
 ·exact .inl (.inr ⟨o,s _ _ q λz=>hf _ _ (z▸q)⟩)
 ·exact .inr q
theorem Sb.tup2 {K:aa} {b:Addr} {l:List V} (s:Sb r H H') (hr:∀xs,H r≠some (.tup xs)) (hf:∀o u,H r≠some (.frz o u)) (q:SqT K H b l):SqT K H' b l:=by
 rcases q with(q|⟨o,q⟩)|q
 ·exact .inl (.inl (s _ _ q λz=>hr _ (z▸q)))
 ·exact .inl (.inr ⟨o,s _ _ q λz=>hf _ _ (z▸q)⟩)
 ·exact .inr q
theorem cb.app {R:α->β->Prop}:∀{a1 a2:List α} {b1 b2:List β},cb R a1 b1->cb R a2 b2->cb R (a1++a2) (b1++b2)
 |_,_,_,_,.nil,s=>s
 |_,_,_,_,.cons r t,s=>.cons r (cb.app t s)
theorem cb.tk {R:α->β->Prop}:∀{a:List α} {b:List β} (n:Nat),cb R a b->cb R (a.take n) (b.take n)
 |_,_,0,_=>.nil
 |_,_,_+1,.nil=>.nil
 |_,_,n+1,.cons r t=>.cons r (cb.tk n t)
theorem cb.dr {R:α->β->Prop}:∀{a:List α} {b:List β} (n:Nat),cb R a b->cb R (a.drop n) (b.drop n)
 |_,_,0,r=>r
 |_,_,_+1,.nil=>.nil
 |_,_,n+1,.cons _ t=>cb.dr n t
structure RkS (P:aw) (w:bv) (K:aa) (H H':Hp) (ra da:Addr) (rs:List (List Int)) (kvs:List (List Int×V)):Prop where
 same:Same H H'
 nr:H ra=none
 nd:H da=none
 L:LT K H' ra rs
 D:Dx P w K H' da kvs
 mem:∀l,(EY kvs l).isSome=decide (l∈rs)
section
variable {P:aw} {w:bv} {K:aa} {mg:Str->Option ag} {base:Heap} {CI CL CN:Addr}
theorem JD:FnScope ["intervals","rising","known","interval","ranked","rank"] ["intervals"] (AH PZ):={}
theorem kK (F:Fun K "ranks" "ranks" PZ f fd) (B:Blt mg) (D1:Def P w K mg base 3 "place_among" ["rising","interval"] (qB K)):FnOk P w K mg base (CX1 P w) 4 f fd ["intervals"] (qE P w K):=by
 refine F.okx JD λcdv A outer s H vs Q E hr h=>?_;obtain⟨va,xs,rfl,L,hs,hl,k⟩:=h;refine⟨_,(AB (AX 1 JD (DK AF))
  (AB (AX 2 JD QR)
  (AB (B4 bn rfl (DG (pv 0)) (DT 3 JD)
  (AC (AW (YC (O6 (MV hr) (pv 3) (pv 2)))
   (AB (QQ (MV hr) (pv 2) (pv 3) MA rfl)
  (AC (AY (IJ dy PySem.F.slot_list_insert PySem.F.type_list_insert X0 (pv 1) (AA (D1.call hr AD (AA (pv 1) (AA (pv 3) AF))) (AA (pv 3) AF)))))) AM)))
  (AB (AX 4 JD QR)
  (AB (B4 bn rfl (PR (by rfl) B.enum (AA (pv 1) AF)) (J0 rfl (CG (DT 5 JD) (CG (DT 3 JD) HR)))
  (AC (QQ (MV hr) (pv 4) (pv 3) (pv 5) rfl)))
  (AC (AJ (pv 4)))))))),?_⟩
 and_intros
 obtain⟨as,a1,a2⟩:=id L;have la:as.length=xs.length:=cf a2;refine⟨by rw[bw];show 0<=16777216;decide,λra nr=>?_⟩;intro da H1 nd0 sb1 D1';have nd:H da=none:=by
  by_cases e:da=ra
  ·rw[e];exact nr
  ·rw[AE e] at nd0;exact nd0
 have hne:ra≠da:=λe=>by rw[←e,upd_same] at nd0;cases nd0
 have same1:Same H H1:=λb o e=>sb1 b o (by rw[AE (AG e nr)];exact e) (AG e nd);have r1:H1 ra=some (.lst []):=sb1 _ _ upd_same hne;refine⟨V.ref va,rfl,va,rfl,⟨_,SqL.of (same1 _ _ a1)⟩,DE (K:=K) (a:=va) (xs:=as.map V.ref) (λi σ H'=>Ex3 λ(rs:List (List Int)) (kvs:List (List Int×V)) (r3:Option V)=>σ=[some (.ref va),some (.ref ra),some (.ref da),r3,none,none]/\rs=(xs.take i).foldl (FG BH []) []/\RkS P w K H H' ra da rs kvs/\kvs.length<=i/\rs.length<=i)
  ⟨[],[],none,rfl,rfl,⟨same1,nr,nd,⟨[],r1,.nil⟩,D1',λl=>rfl⟩,by simp,by simp⟩ ?_ ?_ ?_⟩
 ·rintro i σ H' _ ⟨rs,kvs,r3,_,_,S,_⟩;exact SqL.of (S.same _ _ a1)
 ·rintro i y σ H2 hi ⟨rs,kvs,r3,rfl,er,S,lk,lr⟩
  subst_eqs
  rw[az] at hi;cases ea:as[i]? with
  |none=>rw[ea] at hi;cases hi
  |some xa=>
   rw[ea] at hi;cases hi;obtain⟨x,hx,tx⟩:=BD a2 ea;have hi':i<xs.length:=(au.mp hx).1;have sx:=hs x (bo hx);have tx2:=S.same.tup tx;have enx:(xs.take (i+1)).foldl (FG BH []) []=FG BH [] rs x:=by
    rw[dj,hx,wK, ←er];rfl
   have hrs:∀l∈rs,Sm l:=λl hm=>by
    have:∀(ys r:List (List Int)) (l:List Int),l∈ys.foldl (FG BH []) r->l∈r\/l∈ys:=by
     intro ys;induction ys with
     |nil=>intro r l h;exact .inl h
     |cons y ys ih=>
      intro r l h;rcases ih _ _ h with h|h
      ·rcases mIns_mem.mp h with h|h
       ·exact .inl h
       ·exact .inr (h▸bb)
      ·exact .inr (ao _ h)
    rw[er] at hm;rcases this _ _ _ hm with h|h
    ·exact absurd h (by simp)
    ·exact hs l (lw h)
   refine⟨V.ref xa,rfl,V.ref da,rfl,da,xa,kvs,x,rfl,rfl,S.D,tx2,_,rfl,?_⟩;rw[S.mem x];by_cases hm:x∈rs
   ·rw[decide_eq_true hm];refine BJ ⟨rs,kvs,_,rfl,?_,S,by omega,by omega⟩;rw[enx];unfold FG;rw[if_pos hm]
   ·have hv:EY kvs x=none:=by
     have:=S.mem x;rw[decide_eq_false hm] at this;cases h:EY kvs x with
     |none=>rfl
     |some v=>rw[h] at this;cases this
    rw[decide_eq_false hm];refine BS ⟨V.ref da,rfl,V.ref xa,rfl,da,xa,kvs,x,rfl,rfl,S.D,tx2,hv,(by rw[bw];omega),λH3 sb3 D3=>?_⟩;obtain⟨zs,dz,_⟩:=id S.D;have t3:∀{b:Addr} {l:List V},SqT K H2 b l->SqT K H3 b l:=λq=>Sb.tup2 sb3 (λ_ z=>by rw[dz] at z;cases z) (λ_ _ z=>by rw[dz] at z;cases z) q;have L3:LT K H3 ra rs:=S.L.sbx sb3 hne (λ_ z=>by rw[dz] at z;cases z) (λ_ _ z=>by rw[dz] at z;cases z);have s3:Same H H3:=λb o e=>sb3 b o (S.same b o e) (AG e nd);obtain⟨bs,b1,b2⟩:=id L3;have lb:bs.length=rs.length:=cf b2;refine⟨V.ref ra,rfl,.inl ⟨rfl,_,SqL.of b1⟩,V.ref ra,rfl,V.ref xa,rfl,ra,xa,rs,x,rfl,L3,t3 tx2,hrs,sx,by omega,λH4 s4=>?_⟩;have b14:=s4 _ _ b1;have hle:mPA (λy=>BH y x) [] rs (rs.length+1) 0 rs.length<=rs.length:=UF _ _ _ (df _) (aq _);refine⟨V.ref xa,rfl,ra,_,mPA (λy=>BH y x) [] rs (rs.length+1) 0 rs.length,V.ref xa,rfl,rfl,b14,(by rw[ah,lb];exact hle),(by rw[ah,lb,bw];omega),?_⟩;have eins:FG BH [] rs x=K7 rs (mPA (λy=>BH y x) [] rs (rs.length+1) 0 rs.length) x:=by unfold FG;rw[if_neg hm]
    generalize mPA (λy=>BH y x) [] rs (rs.length+1) 0 rs.length=n at hle eins;have n0:∀{b:Addr} {o:HO},H b=some o->b≠ra:=λe=>AG e nr;have t5:∀{b:Addr} {l:List V} {z:HO},SqT K H4 b l->SqT K (upd H4 ra z) b l:=λ{b l z} q=>Sb.tup2 (r:=ra) (λc o e n=>by rw[AE n];exact e) (λ_ z=>by rw[b14] at z;cases z) (λ_ _ z=>by rw[b14] at z;cases z) q;refine⟨FG BH [] rs x,kvs++[(x,.bl true)],_,rfl,enx.symm,⟨λb o e=>by rw[AE (n0 e)];exact s4 _ _ (s3 _ _ e),nr,nd,⟨bs.take n++xa::bs.drop n,by rw[upd_same,dm,de,yX,List.map_drop],?_⟩,?_,λl=>?_⟩,by rw[bq];simp;omega,by have:=aJ (lt:=BH) (d:=[]) (r:=rs) (x:=x);omega⟩
    ·rw[eins];unfold K7;refine cb.app (cb.tk n (AS b2 λb l q=>t5 (s4.tup q))) (.cons (t5 (s4.tup (t3 tx2))) (cb.dr n (AS b2 λb l q=>t5 (s4.tup q))))
    ·exact qF (r:=ra) (Dx.same D3 s4) (λc o e n=>by rw[AE n];exact e) (cq hne) (λ_ z=>by rw[b14] at z;cases z) (λ_ _ z=>by rw[b14] at z;cases z)
    ·rw[KD _ _ _ _ hv];by_cases el:l=x
     ·rw[if_pos el,decide_eq_true (mIns_mem.mpr (.inr el))];rfl
     ·rw[if_neg el,S.mem l,decide_eq_decide];exact⟨λh=>mIns_mem.mpr (.inl h),λh=>(mIns_mem.mp h).elim id λe=>absurd e el⟩
 ·rintro σ H2 ⟨rs,kvs,r3,rfl,er,S,lk,lr⟩;rw[ah,la,fk] at er;rw[ah,la] at lr;have er:rs=rise xs:=er;rw[←er] at k;have ndr:rs.Nodup:=by rw[er];exact OZ vW
  intro d2 H3 nd2 sb3 D3;have s3:Same H2 H3:=λb o e=>sb3 b o e (AG e nd2);obtain⟨bs,b1,b2⟩:=id S.L;have lb:bs.length=rs.length:=cf b2;have nd2':H d2=none:=S.same.free nd2;refine⟨V.ref ra,rfl,ra,_,rfl,SqL.of (s3 _ _ b1),GN (n:=rs.length) (λi σ H'=>(Ex2 λr3 r5=>σ=[some (.ref va),some (.ref ra),some (.ref da),r3,some (.ref d2),r5])/\Same H2 H'/\Dx P w K H' d2 (rkV rs i)) ⟨⟨_,_,rfl⟩,s3,D3⟩ ?_ ?_ ?_ ?_⟩
  ·rintro i σ H' hi ⟨_,s4,_⟩;exact⟨_,.ref (bs[i]'(by omega)),SqL.of (s4 _ _ b1),by rw[az,aj (by omega)];rfl⟩
  ·rintro σ H' ⟨_,s4,_⟩;exact⟨_,SqL.of (s4 _ _ b1),by rw[ah,lb];exact aq _⟩
  ·rintro i v σ H4 H5 hi ⟨⟨r3,r5,rfl⟩,s4,D4⟩ ⟨T',xv,rfl,nT,rfl,hxv⟩;have hxv':=hxv _ (SqL.of (s4 _ _ b1));rw[az] at hxv';cases eb:bs[i]? with
   |none=>rw[eb] at hxv';cases hxv'
   |some b=>
    rw[eb] at hxv';cases hxv';obtain⟨l,hl2,tl⟩:=BD b2 eb;have hlt:i<rs.length:=hi;have eg:rs.getD i []=l:=by rw[bj,hl2];rfl
    have s5:Same H4 (upd H4 T' (.tup [.int (i:Nat),.ref b])):=Same.upd nT;have hn:=NS ndr hlt;rw[eg] at hn;refine⟨T',_,rfl,SqT.of upd_same,rfl,_,_,rfl,_,_,rfl,rfl,?_⟩;refine⟨V.int (i:Nat),rfl,V.ref d2,rfl,V.ref b,rfl,d2,b,_,l,rfl,rfl,D4.same s5,s5.tup (s4.tup tl),hn,(by unfold rkV;rw[ah,ll,bw];omega),λH6 sb6 D6=>⟨⟨_,_,rfl⟩,?_,by rw[SM,eg];exact D6⟩⟩;exact λc o e=>sb6 c o (s5 _ _ (s4 _ _ e)) (AG e nd2)
  ·rintro σ H4 ⟨⟨r3,r5,rfl⟩,s4,D4⟩;exact⟨V.ref d2,rfl,k H4 d2 (S.same.trans s4) D4⟩
end
open PySem PySem.Spec PyProof.Rows L2
structure NoteP (fr co ba:List (List Int)) (ps:List Ln):Prop where
 fit:∀q∈ps,∀s∈q.2,plc fr co ba s=true
 one:∀q∈ps,∀s∈q.2,1<=s.course
 sm:∀q∈ps,∀s∈q.2,Sm (B8 fr co ba s)
 few:∀q∈ps,q.2.length<=14
 len:ps.length<=512
theorem bQ {a b:Stop} (h:sL a=sL b):a=b:=by
 unfold sL at h;obtain⟨c,f⟩:=a;obtain⟨c',f'⟩:=b;simp at h;have h1:c=c':=by have:=h.1;omega
 have h2:f=f':=by have:=h.2;omega
 rw[h1,h2]
structure SoA (P:aw) (w:bv) (K:aa) (g:Stop->List Int) (H:Hp) (d:Addr) (ds:List Stop):Prop where
 ex:∃kvs,Dx P w K H d kvs/\cb (λ(kv:List Int×V) (s:Stop)=>kv.1=sL s/\∃b,kv.2= .ref b/\SqT K H b ((g s).map V.int)) kvs ds
theorem WK {K:aa} {g:Stop->List Int}:∀{kvs:List (List Int×V)} {ds:List Stop},cb (λ(kv:List Int×V) (s:Stop)=>kv.1=sL s/\∃b,kv.2= .ref b/\SqT K H b ((g s).map V.int)) kvs ds->∀s,¬s∈ds->EY kvs (sL s)=none
 |_,_,.nil,s,_=>rfl
 |_,_,.cons r t,s,h=>by
  rw[EJ (λe=>h (by rw[bQ (r.1.symm.trans e)];exact bb))];exact WK t s λq=>h (ao _ q)
theorem QS {K:aa} {g:Stop->List Int}:∀{kvs:List (List Int×V)} {ds:List Stop},cb (λ(kv:List Int×V) (s:Stop)=>kv.1=sL s/\∃b,kv.2= .ref b/\SqT K H b ((g s).map V.int)) kvs ds->∀s,s∈ds->∃b,EY kvs (sL s)=some (.ref b)/\SqT K H b ((g s).map V.int)
 |_,_,.nil,s,h=>absurd h (by simp)
 |_,_,.cons (a:=kv) (b:=s0) r t,s,h=>by
  by_cases e:s=s0
  ·obtain⟨b,h1,h2⟩:=r.2;refine⟨b,?_,by rw[e];exact h2⟩;rw[GA (by rw[r.1,e]),h1]
  ·rw[EJ (λz=>e (bQ (r.1.symm.trans z)).symm)];exact QS t s ((bp.mp h).resolve_left e)
theorem SoA.same {K:aa} {g:Stop->List Int} {d:Addr} {ds:List Stop} (h:SoA P w K g H d ds) (e:Same H H'):SoA P w K g H' d ds:=
 let ⟨kvs,a,b⟩:=h.ex;⟨kvs,Dx.same a e,AS b λ_ _ ⟨q1,c,q2,q3⟩=>⟨q1,c,q2,e.tup q3⟩⟩
def qG (P:aw) (w:bv) (K:aa) (CI CL:Addr):Sp:=λvs H Q _=>Ex9 λ(ia af ac ab al:Addr) (fr co ba:List (List Int)) (ps:List Ln)=>vs=[.ref ia,.ref al]/\InA K CI H ia af ac ab fr co ba/\LnsA K CL H al ps/\NoteP fr co ba ps/\
 ∀H' d ds,Same H H'->SoA P w K (B8 fr co ba) H' d ds->(∀s,s∈ds↔∃q∈ps,s∈q.2)->ds.length<=7168->Q (.ref d) H'
section
variable {P:aw} {w:bv} {K:aa} {mg:Str->Option ag} {base:Heap} {CI CL CN:Addr}
theorem kL (af ac ab:Addr):(ifs af ac ab).lookup ("sound":Str)=none:=T0 _ _ _ (by decide +kernel) (by decide +kernel) (by decide +kernel)
theorem WL:FnScope ["instrument","lines","sounds","line","stop"] ["instrument","lines"] (AH HE):={}
theorem qH (F:Fun K "sounds_of" "sounds_of" HE f fd) (T:InC K CI) (TL:LnC K CL) (MS:Mth P w K mg base 4 CI "sound" ["self","course","fret"] (gC K CI)):FnOk P w K mg base (CX1 P w) 5 f fd ["instrument","lines"] (qG P w K CI CL):=by
 refine F.okx WL λcdv A outer s H vs Q E hr h=>?_;obtain⟨ia,af,ac,ab,al,fr,co,ba,ps,rfl,I,L,N,k⟩:=h;refine⟨_,(AB (AX 2 WL QR)
  (AB (B4 bn rfl (DG (pv 1)) (DT 3 WL)
  (AC (B4 bn rfl (DG (AR (pv 3) rfl)) (DT 4 WL)
   (AC (AW (YC (O6 (MV hr) (pv 4) (pv 2)))
    (AC (QQ (MV hr) (pv 2) (pv 4) (MS.call (pv 0) hr AD (AA (BI DL (pv 4) AI (λ_ _=>rfl)) (AA (BI DL (pv 4) AI (λ_ _=>rfl)) AF))) rfl)) AM)))))
  (AC (AJ (pv 2))))),?_⟩
 and_intros
 obtain⟨as,a1,a2⟩:=id L;have la:as.length=ps.length:=cf a2;intro d H1 nd sb1 D1';have s1:Same H H1:=λb o e=>sb1 b o e (AG e nd);refine⟨V.ref al,rfl,al,rfl,⟨_,SqL.of (s1 _ _ a1)⟩,DE (K:=K) (a:=al) (xs:=as.map V.ref) (λi σ H'=>Ex3 λ(ds:List Stop) (r3 r4:Option V)=>σ=[some (.ref ia),some (.ref al),some (.ref d),r3,r4]/\Same H H'/\SoA P w K (B8 fr co ba) H' d ds/\(∀s,s∈ds↔∃q∈ps.take i,s∈q.2)/\ds.length<=14*i)
  ⟨[],none,none,rfl,s1,⟨[],D1',.nil⟩,λs=>by simp,by simp⟩ ?_ ?_ ?_⟩
 ·rintro i σ H' _ ⟨ds,r3,r4,_,s2,_⟩;exact SqL.of (s2 _ _ a1)
 ·rintro i y σ H2 hi ⟨ds,r3,r4,rfl,s2,S2,mem,hl⟩
  subst_eqs
  rw[az] at hi;cases ea:as[i]? with
  |none=>rw[ea] at hi;cases hi
  |some x=>
   rw[ea] at hi;cases hi;obtain⟨p,hp,dl,sa,_,hx,Ls⟩:=BD a2 ea;obtain⟨n,st⟩:=p;have hq:(n,st)∈ps:=bo hp;have hx2:=s2 _ _ hx;have Ls2:=LT.same Ls s2;obtain⟨bs,b1,b2⟩:=id Ls2;have lb:bs.length=st.length:=by rw[cf b2,ah]
   refine⟨V.ref x,rfl,x,CL,dl,_,_,rfl,hx2,TL.cl,TL.ns,V5 _ _,sa,rfl,⟨_,SqL.of b1⟩,DE (K:=K) (a:=sa) (xs:=bs.map V.ref) (λj σ H'=>Ex2 λ(es:List Stop) (r4:Option V)=>σ=[some (.ref ia),some (.ref al),some (.ref d),some (.ref x),r4]/\(∀b o,H2 b=some o->b≠d->H' b=some o)/\SoA P w K (B8 fr co ba) H' d es/\(∀s,s∈es↔s∈ds\/s∈st.take j)/\es.length<=ds.length+j)
    ⟨ds,r4,rfl,λb o e _=>e,S2,λs=>by simp,by omega⟩ ?_ ?_ ?_⟩
   ·rintro j σ H' _ ⟨es,r4,_,s3,_⟩;obtain⟨kvs,⟨zs,dz,_⟩,_⟩:=S2.ex;exact SqL.of (s3 _ _ b1 (B1 b1 dz (by intro z;cases z)))
   ·rintro j y σ H3 hj ⟨es,r4,rfl,s3,S3,mem3,hl3⟩
    subst_eqs
    rw[az] at hj;cases eb:bs[j]? with
    |none=>rw[eb] at hj;cases hj
    |some b=>
     rw[eb] at hj;cases hj;obtain⟨q,hq2,hb⟩:=BD b2 eb;rw[az] at hq2;cases es':st[j]? with
     |none=>rw[es'] at hq2;cases hq2
     |some s0=>
      rw[es'] at hq2;cases hq2;have hs0:s0∈st:=bo es';have hj':j<st.length:=(au.mp es').1;have few:st.length<=14:=N.few _ hq;have hi512:i<512:=by have:=(au.mp hp).1;have:=N.len;omega
      obtain⟨kvs2,⟨zs,dz,_⟩,_⟩:=S2.ex;have s03:Same H H3:=λc o e=>s3 c o (s2 _ _ e) (AG e nd);have nt:∀{c:Addr} {l:List V},SqT K H2 c l->SqT K H3 c l:=λq=>Sb.tup2 (r:=d) s3 (λ_ z=>by rw[dz] at z;cases z) (λ_ _ z=>by rw[dz] at z;cases z) q;have hb3:=nt hb;obtain⟨kvs,DX,PX⟩:=S3.ex;have tk1:∀s,(s∈es\/s=s0)↔s∈ds\/s∈st.take (j+1):=λs=>by
       rw[dj,es',mem3 s,cj];simp[or_assoc]
      refine⟨V.ref b,rfl,V.ref d,rfl,d,b,kvs,sL s0,rfl,rfl,DX,hb3,_,rfl,?_⟩;by_cases hm:s0∈es
      ·obtain⟨c,hv,_⟩:=QS PX s0 hm;rw[hv];refine BJ ⟨es,_,rfl,s3,S3,λs=>?_,by omega⟩;rw[←tk1 s];exact⟨.inl,λh=>h.elim id λe=>e▸hm⟩
      ·have hv:=WK PX s0 hm;rw[hv];have I3:=I.kp (Same.kp s03);obtain⟨dx,i3⟩:=I3.at_;refine BS ⟨V.ref ia,rfl,ia,dx,_,rfl,i3,kL _ _ _,V.ref b,rfl,b,_,0,V.int (s0.course:Nat),rfl,rfl,hb3,rfl,V.ref b,rfl,b,_,1,V.int (s0.fret:Nat),rfl,rfl,hb3,rfl,ia,af,ac,ab,fr,co,ba,s0,rfl,I3,N.fit _ hq _ hs0,N.one _ hq _ hs0,λH4 c s4 tc=>?_⟩;refine⟨V.ref d,rfl,V.ref b,rfl,d,b,kvs,sL s0,rfl,rfl,DX.same s4,s4.tup hb3,hv,(by rw[cf PX,bw];omega),λH5 sb5 D5=>?_⟩;obtain⟨zs4,dz4,_⟩:=Dx.same DX s4;have t5:∀{c:Addr} {l:List V},SqT K H4 c l->SqT K H5 c l:=λq=>Sb.tup2 sb5 (λ_ z=>by rw[dz4] at z;cases z) (λ_ _ z=>by rw[dz4] at z;cases z) q;refine⟨es++[s0],_,rfl,λc o e n=>sb5 c o (s4 _ _ (s3 _ _ e n)) n,⟨_,D5,?_⟩,λs=>?_,by rw[bq];simp;omega⟩
       ·exact cb.app (AS PX λ_ _ ⟨q1,c,q2,q3⟩=>⟨q1,c,q2,t5 (s4.tup q3)⟩) (.cons ⟨rfl,c,rfl,t5 tc⟩ .nil)
       ·rw[←tk1 s,cj];simp
   ·rintro σ H3 ⟨es,r4,rfl,s3,S3,mem3,hl3⟩;rw[ah,lb,fk] at mem3;rw[ah,lb] at hl3;have few:=N.few _ hq;refine⟨es,_,_,rfl,λc o e=>s3 c o (s2 _ _ e) (AG e nd),S3,λs=>?_,by have:st.length<=14:=few;omega⟩;rw[mem3 s,dj,hp,mem s];constructor
    ·rintro (⟨q,h1,h2⟩|h)
     ·exact⟨q,cj.mpr (.inl h1),h2⟩
     ·exact⟨(n,st),by simp,h⟩
    ·rintro ⟨q,h1,h2⟩;rcases cj.mp h1 with h1|h1
     ·exact .inl ⟨q,h1,h2⟩
     ·have:q=(n,st):=by simpa using h1
      rw[this] at h2;exact .inr h2
 ·rintro σ H2 ⟨ds,r3,r4,rfl,s2,S2,mem,hl⟩;rw[ah,la,fk] at mem;rw[ah,la] at hl;exact⟨V.ref d,rfl,k H2 d ds s2 S2 mem (by have:=N.len;omega)⟩
end
end Lt
end
section
namespace L2
open PySem PySem.Spec PyProof.Rows
structure FunC (K:aa) (x qual:Str) (st:Stmt) (f:Addr) (fd:du) (c:Addr):Prop where
 ex:∃(oc:ag) (od:Option Addr) (kV doc pm:ag) (an:Option Addr) (ct:ag) (osl:Array (Option ag)),
  fd=gj x qual (DI st) (BR st) (AH st) .none kV doc pm an (.ref c) ct/\K.lookup f=some ⟨oc,od,.func fd,osl⟩/\iw K (.ref c) qual=true
 kp:dq K (.ref f)=true
theorem FunC.toFun {K:aa} {x qual:Str} {st:Stmt} {f:Addr} {fd:du} {c:Addr} (F:FunC K x qual st f fd c):Fun K x qual st f fd:=let ⟨⟨oc,od,kV,doc,pm,an,ct,osl,h⟩,k⟩:=F;⟨⟨oc,od,kV,doc,pm,an,.ref c,ct,osl,h⟩,k⟩
theorem FunC.okx {P:aw} {w:bv} {K:aa} {mg:Str->Option ag} {base:Heap} {x qual:Str} {st:Stmt} {f:Addr} {fd:du} {c:Addr} {N ps:List Str} {k:Nat} {sp:Sp} (F:FunC K x qual st f fd c) (S:FnScope N ps (AH st))
 (hbody:∀(A:cy) (outer:List Env) (s:ai) (H:Hp) (vs:List V) (Q:VK) (E:XK),Room k (A.deeper (tT qual (AH st) s.heap.objs.size f (.ref c)))->sp vs H Q E->
  ∃t,PSs (NZ (CX1 P w) P w K mg base N qual (AH st) f (.ref c) A outer s H E) (BR st) t/\t { nx:=λ_ H'=>Q .non H',rt:=Q } (FL N vs) H) (len:∀vs H Q E,sp vs H Q E->vs.length=ps.length:=by intro _ _ _ _ h;cases h;rename_i h;exact congrArg oq h.1):FnOk P w K mg base (CX1 P w) (k+1) f fd ps sp:=by
 obtain⟨oc,od,kV,doc,pm,an,ct,osl,rfl,lk,hcd⟩:=F.ex;exact e8 lk hcd S len λA outer s H vs Q E hr hsp=>hbody A outer s H vs Q E hr hsp
def Stt (H H':Hp):Prop:=∀b o,H b=some o->(∀t,o≠.tbl t)->H' b=some o
theorem Same.st {H H':Hp} (e:Same H H'):Stt H H':=λb o h _=>e b o h
theorem Stt.trans {H H1 H2:Hp} (a:Stt H H1) (b:Stt H1 H2):Stt H H2:=λc o h n=>b c o (a c o h n) n
theorem Stt.sb {H H':Hp} {r:Addr} {t:Array ag} (s:Sb r H H') (h:H r=some (.tbl t)):Stt H H':=λb o e n=>s b o e λz=>n t (by rw[z,h] at e;exact(cp e).symm)
theorem Stt.tup {K:aa} {H H':Hp} {a:Addr} {xs:List V} (s:Stt H H') (h:SqT K H a xs):SqT K H' a xs:=by
 rcases h with(h|⟨o,h⟩)|h
 ·exact .inl (.inl (s _ _ h (by intro t z;cases z)))
 ·exact .inl (.inr ⟨o,s _ _ h (by intro t z;cases z)⟩)
 ·exact .inr h
end L2
namespace Lt
open PySem PySem.Spec PyProof.Rows L2
variable {f a C CR CT r ta CI CL CN:Addr} {fd:du} {X:Cx} {x:List Int} {i n e p q:Nat} {pos:Pos} {z dz fz:Str} {xs:List V} {E:XK} {H H' H1:Hp} {cs t ci ct:List UInt8} {α β:Type} {Q:VK} {ls fr co ba:List (List Int)} {P:aw} {w:bv} {h:Heap} {ps:List Str}
theorem LT.st {K:aa} (h:LT K H a ls) (s:Stt H H'):LT K H' a ls:=let ⟨as,h1,h2⟩:=h;⟨as,s _ _ h1 (by intro t z;cases z),AS h2 λ_ _ q=>s.tup q⟩
theorem InA.st {K:aa} {ia af ac ab:Addr} (I:InA K CI H ia af ac ab fr co ba) (s:Stt H H'):InA K CI H' ia af ac ab fr co ba:=
 { I with at_:=let ⟨dx,h⟩:=I.at_;⟨dx,s _ _ h (by intro t z;cases z)⟩,fr_:=I.fr_.st s,co_:=I.co_.st s,ba_:=I.ba_.st s }
theorem LnsA.st {K:aa} {al:Addr} {ps:List Ln} (h:LnsA K CL H al ps) (s:Stt H H'):LnsA K CL H' al ps:=
 let ⟨as,h1,h2⟩:=h;⟨as,s _ _ h1 (by intro t z;cases z),AS h2 λ_ _ ⟨dx,sa,q1,q2,q3⟩=>⟨dx,sa,q1,s _ _ q2 (by intro t z;cases z),q3.st s⟩⟩
theorem TbA.st {K:aa} {CB:Addr} {x:Addr} {s:St3} {ps:List Ln} (T:TbA K CI CL CB H x s ps) (e:Stt H H'):TbA K CI CL CB H' x s ps:=
 let ⟨⟨dx,ia,af,ac,ab,al,h1,h2,h3⟩,l⟩:=T;⟨⟨dx,ia,af,ac,ab,al,e _ _ h1 (by intro t z;cases z),h2.st e,h3.st e⟩,l⟩
def NoteA (K:aa) (CN:Addr) (g:Stop->List Int) (hg:List Int->Nat) (H:Hp) (x:Addr) (s:Sk):Prop:=
 Ex2 λdx ia=>H x=some (.ins CN dx (ntf (s.begins:Nat) (s.line:Nat) (s.halt_.course:Nat) (s.halt_.fret:Nat) ia ((hg (g s.halt_):Nat):Int)))/\SqT K H ia ((g s.halt_).map V.int)
def NotesA (K:aa) (CN:Addr) (g:Stop->List Int) (hg:List Int->Nat) (H:Hp) (a:Addr) (zs:List Sk):Prop:=∃as:List Addr,H a=some (.lst (as.map V.ref))/\cb (NoteA K CN g hg H) as zs
theorem NoteA.st {K:aa} {g:Stop->List Int} {hg:List Int->Nat} {x:Addr} {s:Sk} (h:NoteA K CN g hg H x s) (e:Stt H H'):NoteA K CN g hg H' x s:=let ⟨dx,ia,h1,h2⟩:=h;⟨dx,ia,e _ _ h1 (by intro t z;cases z),e.tup h2⟩
theorem NotesA.st {K:aa} {g:Stop->List Int} {hg:List Int->Nat} {zs:List Sk} (h:NotesA K CN g hg H a zs) (e:Stt H H'):NotesA K CN g hg H' a zs:=let ⟨as,h1,h2⟩:=h;⟨as,e _ _ h1 (by intro t z;cases z),AS h2 λ_ _ q=>q.st e⟩
def JX (g:Stop->List Int) (hg:List Int->Nat) (s:Sk):List Int:=[((s.begins:Nat):Int),((hg (g s.halt_):Nat):Int),((s.halt_.course:Nat):Int)]
def hgt (g:Stop->List Int) (ds:List Stop):List Int->Nat:=λiv=>(rise (ds.map g)).idxOf iv
def qI:Stmt->Expr
 | .Return (some (.Call _ _ [⟨_,e,_⟩] _)) _=>e
 |_=>.Constant .none 0 ⟨0,0,0,0⟩
def kM:Expr->Pos
 | .Lambda _ _ _ p=>p
 |_=>⟨0,0,0,0⟩
def WM:Expr:=qI ((BR BM).getLastD (.Pass ⟨0,0,0,0⟩))
def kN:Expr->Scope
 | .Lambda _ _ s _=>s
 |_=>AH (.Pass ⟨0,0,0,0⟩)
def LmT (H:Hp) (PT:Addr):Prop:=LamTbl H PT (kM WM) ("notes_in_order.<locals>."++"<lambda>")
def kO (P:aw) (w:bv) (K:aa) (CI CL CN PT:Addr):Sp:=λvs H Q _=>Ex9 λ(ia af ac ab al:Addr) (fr co ba:List (List Int)) (ps:List Ln)=>vs=[.ref ia,.ref al]/\InA K CI H ia af ac ab fr co ba/\LnsA K CL H al ps/\NoteP fr co ba ps/\LmT H PT/\
 ∀H' a zs ds,Stt H H'->LmT H' PT->(∀s,s∈ds↔∃q∈ps,s∈q.2)->zs.Perm (CZ 0 0 ps)->zs.Pairwise (λa b=>HT.lexLt (JX (B8 fr co ba) (hgt (B8 fr co ba) ds) b) (JX (B8 fr co ba) (hgt (B8 fr co ba) ds) a)=false)->NotesA K CN (B8 fr co ba) (hgt (B8 fr co ba) ds) H' a zs->Q (.ref a) H'
theorem NT:jj "list"=some (.type "list"):=by decide +kernel
theorem kP:LamScope "note" [] (kN WM):=⟨rfl,rfl,rfl,by decide,rfl,by decide +kernel,λy hy=>nomatch hy⟩
theorem kQ:LamFr X (kN WM) [] []:=⟨by decide +kernel,λy hy e=>absurd e ((show∀y∈(kN WM).names,y.2≠.free by decide +kernel) y hy),rfl,λj y h=>by simp at h⟩
theorem gD (b l c f:Int) (ia:Addr) (h:Int):(ntf b l c f ia h).lookup ("begin":Str)=some (.int b):=rfl
theorem bR (b l c f:Int) (ia:Addr) (h:Int):(ntf b l c f ia h).lookup ("line":Str)=some (.int l):=rfl
theorem bS (b l c f:Int) (ia:Addr) (h:Int):(ntf b l c f ia h).lookup ("course":Str)=some (.int c):=rfl
theorem qJ (b l c f:Int) (ia:Addr) (h:Int):(ntf b l c f ia h).lookup ("fret":Str)=some (.int f):=rfl
theorem qK (b l c f:Int) (ia:Addr) (h:Int):(ntf b l c f ia h).lookup ("interval":Str)=some (.ref ia):=rfl
theorem qL (b l c f:Int) (ia:Addr) (h:Int):(ntf b l c f ia h).lookup ("height":Str)=some (.int h):=rfl
theorem SN:∀(ps:List Ln) (i x:Nat),(∀q∈ps,q.2.length<=14)->(CZ i x ps).length<=14*ps.length
 |[],_,_,_=>aq _
 |(n,l)::r,i,x,h=>by
  have h1:l.length<=14:=h (n,l) bb;have h2:=SN r (i+1) (x+n) λq hq=>h q (ao _ hq);rw[CZ,bq,ah,cw];omega
theorem WN {K:aa} {g:Stop->List Int}:∀{kvs:List (List Int×V)} {ds:List Stop},cb (λ(kv:List Int×V) (s:Stop)=>kv.1=sL s/\∃b,kv.2= .ref b/\SqT K H b ((g s).map V.int)) kvs ds->∃as:List Addr,kvs.map (·.2)=as.map V.ref/\cb (λb l=>SqT K H b (l.map V.int)) as (ds.map g)
 |_,_,.nil=>⟨[],rfl,.nil⟩
 |_,_,.cons r t=>by
  obtain⟨b,h1,h2⟩:=r.2;obtain⟨as,e,p⟩:=WN t;exact⟨b::as,by rw[de,de,e,h1],.cons h2 p⟩
theorem NoteA.lst {K:aa} {g:Stop->List Int} {hg:List Int->Nat} {x:Addr} {s:Sk} {o:HO} (h:NoteA K CN g hg H x s) (hr:H r=some (.lst xs)):NoteA K CN g hg (upd H r o) x s:=by
 obtain⟨dx,ia,h1,h2⟩:=h;exact⟨dx,ia,by rw[AE (B1 h1 hr (by intro z;cases z))];exact h1,Sb.tup2 (r:=r) (λc o e n=>by rw[AE n];exact e) (λ_ z=>by rw[hr] at z;cases z) (λ_ _ z=>by rw[hr] at z;cases z) h2⟩
def KN (K:aa) (CN:Addr) (g:Stop->List Int) (hg:List Int->Nat) (H:Hp) (s:Sk) (z:List Int×V):Prop:=z.1=JX g hg s/\∃x,z.2= .ref x/\NoteA K CN g hg H x s
theorem bT {K:aa} {g:Stop->List Int} {hg:List Int->Nat}:∀{as:List Addr} {zs:List Sk},cb (NoteA K CN g hg H) as zs->cb (KN K CN g hg H) zs ((zs.map (JX g hg)).zip (as.map V.ref))
 |_,_,.nil=>.nil
 |_,_,.cons r t=>.cons ⟨rfl,_,rfl,r⟩ (bT t)
theorem WO {K:aa} {g:Stop->List Int} {hg:List Int->Nat}:∀{zs:List Sk} {zs':List (List Int×V)},cb (KN K CN g hg H) zs zs'->∃as:List Addr,zs'.map (·.2)=as.map V.ref/\cb (NoteA K CN g hg H) as zs
 |_,_,.nil=>⟨[],rfl,.nil⟩
 |_,_,.cons r t=>by
  obtain⟨x,h1,h2⟩:=r.2;obtain⟨as,e,p⟩:=WO t;exact⟨x::as,by rw[de,de,e,h1],.cons h2 p⟩
theorem bU {K:aa} {g:Stop->List Int} {hg:List Int->Nat}:∀{zs:List Sk} {zs':List (List Int×V)},cb (KN K CN g hg H) zs zs'->∀s∈zs,∃z∈zs',z.1=JX g hg s
 |_,_,.nil,s,h=>absurd h (by simp)
 |_,_,.cons r t,s,h=>by
  rcases bp.mp h with rfl|h
  ·exact⟨_,bb,r.1⟩
  ·obtain⟨z,h1,h2⟩:=bU t s h;exact⟨z,ao _ h1,h2⟩
theorem gE {K:aa} {g:Stop->List Int} {hg:List Int->Nat} {f:List Int->List Int->Bool}:∀{zs:List Sk} {zs':List (List Int×V)},cb (KN K CN g hg H) zs zs'->zs'.Pairwise (λa b=>f b.1 a.1=false)->zs.Pairwise λa b=>f (JX g hg b) (JX g hg a)=false
 |_,_,.nil,_=>on
 |_,_,.cons r t,h=>by
  obtain⟨h1,h2⟩:=fx.mp h;refine fx.mpr ⟨λb hb=>?_,gE t h2⟩;obtain⟨z,hz,e⟩:=bU t b hb;have:=h1 z hz;rw[r.1,e] at this;exact this
section
variable {P:aw} {w:bv} {K:aa} {mg:Str->Option ag} {base:Heap} {CI CL CN c PT:Addr}
theorem JY:FnScope ["instrument","lines","units","sounds","heights","notes","number","line","stop","interval"] ["instrument","lines"] (AH BM):={}
theorem qM (F:FunC K "notes_in_order" "notes_in_order" BM f fd c) (B:Blt mg) (hso:mg "sorted"=none) (BB:NR mg base) (CH:ue base c PT) (TL:LnC K CL) (TN:NtC K CN)
 (D1:Def P w K mg base 1 "beginnings" ["lines"] (bF K CL)) (D2:Def P w K mg base 5 "sounds_of" ["instrument","lines"] (qG P w K CI CL)) (D3:Def P w K mg base 4 "ranks" ["intervals"] (qE P w K)) (MN:Mkr P w K mg base 1 CN "Note" ["self","begin","line","stop","interval","height"] (j9 K CN)):
 FnOk P w K mg base (CX1 P w) 6 f fd ["instrument","lines"] (kO P w K CI CL CN PT):=by
 refine F.okx JY λA outer s H vs Q E hr h=>?_;obtain⟨ia,af,ac,ab,al,fr,co,ba,ps,rfl,I,L,N,LM,k⟩:=h;refine⟨_,(AB (AX 2 JY (D1.call hr AD (AA (pv 1) AF)))
  (AB (AX 3 JY (D2.call hr AD (AA (pv 0) (AA (pv 1) AF))))
  (AB (AX 4 JY (D3.call hr AD (AA (HS (US rfl) (by rfl) B.list NT (AA (bM (pv 3)) AF)) AF)))
  (AB (AX 5 JY (DK AF))
  (AB (B4 bn rfl (PR (by rfl) B.enum (AA (pv 1) AF)) (J0 rfl (CG (DT 6 JY) (CG (DT 7 JY) HR)))
  (AC (B4 bn rfl (DG (AR (pv 7) rfl)) (DT 8 JY)
   (AB (AX 9 JY (WJ (MV hr) (pv 3) (pv 8) (λ_ _=>rfl)))
  (AC (AY (IJ dy fh fi CY (pv 5) (AA (MN.call hr AD (AA (BI B9 (pv 2) (pv 6) (λ_ _=>rfl)) (AA (pv 6) (AA (pv 8) (AA (pv 9) (AA (WJ (MV hr) (pv 4) (pv 9) (λ_ _=>rfl)) AF)))))) AF))))))))
  (AC (AJ (QO (t:=gU (B5 (NY K (BO 0) "begin") (B5 (NY K (BO 0) "height") (B5 (NY K (BO 0) "course") EN)))) hso (by rfl) (hr.mono (by decide)) (pv 5) BB CH rfl kQ kP (λ_ _ _ _ _=>rfl)
  (λ_ _ _ _ _ _ _=>E4 (AA (QD K (pv 0)) (AA (QD K (pv 0)) (AA (QD K (pv 0)) AF)))))))))))),?_⟩
 and_intros
 obtain⟨as,a1,a2⟩:=id L;have la:as.length=ps.length:=cf a2;generalize hgg:B8 fr co ba=g at k;have Nsm:=N.sm;rw[hgg] at Nsm;refine⟨V.ref al,rfl,al,ps,rfl,L,N.len,λH1 ua s1 nu hu=>?_⟩;refine⟨V.ref ia,rfl,V.ref al,rfl,ia,af,ac,ab,al,fr,co,ba,ps,rfl,I.kp (Same.kp s1),L.same s1,N,λH2 d ds s2 S2 hds hdl=>?_⟩;rw[hgg] at S2;obtain⟨kvs,DX,PX⟩:=S2.ex;obtain⟨bs,eb,pb⟩:=WN PX;refine⟨V.ref d,rfl,d,kvs,rfl,DX,λv nv=>?_⟩;have sv:Same H2 (upd H2 v (O7 v d)):=Same.upd nv;refine⟨v,d,kvs,rfl,upd_same,DX.same sv,λl nl=>?_⟩;have sl:Same H2 (upd (upd H2 v (O7 v d)) l (.lst (kvs.map (·.2)))):=sv.trans (Same.upd nl);refine⟨l,ds.map g,rfl,⟨bs,by rw[upd_same,eb],AS pb λ_ _ q=>sl.tup q⟩,λx hx=>?_,by rw[ah];omega,λH3 hd s3 D3=>?_⟩
 ·obtain⟨s0,h1,rfl⟩:=jx.mp hx;obtain⟨q,h2,h3⟩:=(hds s0).mp h1;exact Nsm q h2 s0 h3
 have s23:Same H2 H3:=sl.trans s3;have s03:Same H H3:=(s1.trans s2).trans s23;have ndR:(rise (ds.map g)).Nodup:=OZ vW;refine⟨by rw[bw];show 0<=16777216;decide,λna nn=>?_⟩;have tot:∀i,(CZ 0 0 (ps.take i)).length<=7168:=λi=>by
  have h1:=SN (ps.take i) 0 0 λq hq=>N.few q (lw hq);have h2:(ps.take i).length<=512:=by rw[dk];have:=N.len;omega
  omega
 refine⟨V.ref al,rfl,al,_,rfl,SqL.of (by rw[AE (AG (s03 _ _ a1) nn)];exact s03 _ _ a1),GN (n:=ps.length) (λi σ H'=>(Ex4 λr6 r7 r8 r9=>σ=[some (.ref ia),some (.ref al),some (.ref ua),some (.ref d),some (.ref hd),some (.ref na),r6,r7,r8,r9])/\Same H3 H'/\NotesA K CN g (hgt g ds) H' na (CZ 0 0 (ps.take i)))
  ⟨⟨_,_,_,_,rfl⟩,Same.upd nn,[],upd_same,.nil⟩ ?_ ?_ ?_ ?_⟩
 ·rintro i σ H' hi ⟨_,s4,_⟩;exact⟨_,.ref (as[i]'(by omega)),SqL.of (s4 _ _ (s03 _ _ a1)),by rw[az,aj (by omega)];rfl⟩
 ·rintro σ H' ⟨_,s4,_⟩;exact⟨_,SqL.of (s4 _ _ (s03 _ _ a1)),by rw[ah,la];exact aq _⟩
 ·rintro i v' σ H5 H6 hi ⟨⟨r6,r7,r8,r9,rfl⟩,s5,A5⟩ ⟨T',xv,rfl,nT,rfl,hxv⟩;have hxv':=hxv _ (SqL.of (s5 _ _ (s03 _ _ a1)));rw[az] at hxv';cases ea:as[i]? with
  |none=>rw[ea] at hxv';cases hxv'
  |some x=>
   rw[ea] at hxv';cases hxv';obtain⟨p,hp,dl,sa,_,hx,Ls⟩:=BD a2 ea;obtain⟨n,st⟩:=p;have hq:(n,st)∈ps:=bo hp;have hlt:i<ps.length:=hi;have s6:Same H5 (upd H5 T' (.tup [.int (i:Nat),.ref x])):=Same.upd nT;have s36:Same H3 (upd H5 T' (.tup [.int (i:Nat),.ref x])):=s5.trans s6;have s06:=s03.trans s36;obtain⟨ds2,b1,b2⟩:=id (LT.same Ls s06);have lb:ds2.length=st.length:=by rw[cf b2,ah]
   have few:st.length<=14:=N.few _ hq;refine⟨T',_,rfl,SqT.of upd_same,rfl,_,_,rfl,_,_,rfl,rfl,?_⟩;have nsa:sa≠na:=by
    have:=LT.same Ls s03;obtain⟨cs,c1,_⟩:=this;exact AG c1 nn
   refine⟨V.ref x,rfl,x,CL,dl,_,_,rfl,s06 _ _ hx,TL.cl,TL.ns,V5 _ _,sa,rfl,⟨_,SqL.of b1⟩,DE (K:=K) (a:=sa) (xs:=ds2.map V.ref) (λj σ H'=>(Ex2 λr8 r9=>σ=[some (.ref ia),some (.ref al),some (.ref ua),some (.ref d),some (.ref hd),some (.ref na),some (.int (i:Nat)),some (.ref x),r8,r9])/\(∀b o,(upd H5 T' (.tup [.int (i:Nat),.ref x])) b=some o->b≠na->H' b=some o)/\NotesA K CN g (hgt g ds) H' na (CZ 0 0 (ps.take i)++(st.take j).map λ(s:Stop)=>(⟨i,uL ps i,uL ps i+n,s⟩:Sk)))
    ⟨⟨_,_,rfl⟩,λb o e _=>e,by simpa using A5.st s6.st⟩ ?_ ?_ ?_⟩
   ·rintro j σ H' _ ⟨_,s7,_⟩;exact SqL.of (s7 _ _ b1 nsa)
   ·rintro j y σ H7 hj ⟨⟨r8,r9,rfl⟩,s7,A7⟩
    and_intros
    rw[az] at hj;cases ej:ds2[j]? with
    |none=>rw[ej] at hj;cases hj
    |some b=>
     rw[ej] at hj;cases hj;obtain⟨q,hq2,hb⟩:=BD b2 ej;rw[az] at hq2;cases es':st[j]? with
     |none=>rw[es'] at hq2;cases hq2
     |some s0=>
      rw[es'] at hq2;cases hq2;have hs0:s0∈st:=bo es';have s37:Same H3 H7:=λc o e=>s7 c o (s36 _ _ e) (AG e nn);have s27:=s23.trans s37;obtain⟨xs7,c1,c2⟩:=id A7;have hb0:SqT K H7 b ((sL s0).map V.int):=by
       rcases hb with(q|⟨o,q⟩)|q
       ·refine .inl (.inl (s7 _ _ q λz=>?_));obtain⟨w5,w1,_⟩:=id A5;have w2:=s6 _ _ w1;rw[z,w2] at q;cases q
       ·refine .inl (.inr ⟨o,s7 _ _ q λz=>?_⟩);obtain⟨w5,w1,_⟩:=id A5;have w2:=s6 _ _ w1;rw[z,w2] at q;cases q
       ·exact .inr q
      obtain⟨c0,hv,hc0⟩:=QS PX s0 ((hds s0).mpr ⟨_,hq,hs0⟩);refine⟨V.ref d,rfl,V.ref b,rfl,d,b,kvs,sL s0,_,rfl,rfl,DX.same s27,hb0,hv,?_⟩;have hin:g s0∈rise (ds.map g):=rise_mem.mpr (qe ((hds s0).mpr ⟨_,hq,hs0⟩));have hrk:=bP ndR (n:=(rise (ds.map g)).length) (aq _) (oo hin);refine⟨V.ref na,rfl,.inl ⟨rfl,_,SqL.of c1⟩,V.ref ua,rfl,V.int (i:Nat),rfl,ua,_,_,_,rfl,rfl,SqL.of (((s2.trans s23).trans s37) _ _ hu),DH (v:=V.int ((uL ps i:Nat):Int)) (by rw[az,tI (by omega)];rfl),V.int (i:Nat),rfl,V.ref b,rfl,V.ref c0,rfl,V.ref hd,rfl,V.ref c0,rfl,hd,c0,_,g s0,_,rfl,rfl,D3.same s37,s27.tup hc0,hrk,λxN dN nx nd hne=>?_⟩;have k7:∀b' o',H7 b'=some o'->(upd (upd H7 dN (.own xN)) xN (.ins CN dN [])) b'=some o':=λb' o' e=>by rw[AE (AG e nx),AE (AG e nd)];exact e
      refine⟨xN,dN,b,c0,_,_,_,s0,rfl,upd_same,Same.tup k7 hb0,λH8 h8 s8=>⟨rfl,?_⟩⟩;have s78:Same H7 H8:=BT nx nd s8 Sb.refl;have c18:=s78 _ _ c1;have lx:xs7.length=(CZ 0 0 (ps.take i)).length+j:=by
       rw[cf c2,bq,ah,dk];have:=(au.mp es').1;omega
      have:=tot i;have hj':=(au.mp es').1;refine⟨na,_,_,rfl,rfl,c18,(by rw[ah,lx,bw];omega),⟨_,_,rfl⟩,λb' o' e n'=>by rw[AE n'];exact s78 _ _ (s7 _ _ e n'),xs7++[xN],by rw[upd_same,dm];rfl,?_⟩;rw[dj,es',Option.toList_some,dm, ←uu];exact cb.app (AS c2 λ_ _ q=>(q.st s78.st).lst c18) (.cons (NoteA.lst ⟨dN,c0,h8,s78.tup (s27.tup hc0)⟩ c18) .nil)
   ·rintro σ H7 ⟨⟨r8,r9,rfl⟩,s7,A7⟩;rw[ah,lb,fk] at A7;refine⟨⟨_,_,_,_,rfl⟩,λc o e=>s7 c o (s36 _ _ e) (AG e nn),?_⟩;rw[XO hp];exact A7
 ·rintro σ H5 ⟨⟨r6,r7,r8,r9,rfl⟩,s5,A5⟩;rw[fk] at A5;obtain⟨xs5,c1,c2⟩:=id A5;have lx:xs5.length=(CZ 0 0 ps).length:=cf c2;have s05:=s03.trans s5;have LM5:LmT H5 PT:=LamTbl.same s05 LM;obtain⟨tb,htb,_⟩:=id LM;have nPT:na≠PT:=cq (AG (s03 _ _ htb) nn);refine⟨V.ref na,rfl,na,xs5.map V.ref,(CZ 0 0 ps).map (JX g (hgt g ds)),[],rfl,SqL.of c1,nPT,by rw[ah,ah,lx],λy hy=>?_,LM5,rfl,λj i' v' h=>by simp at h,λi' x k' hx hk H6 sb=>?_,λD H6 zs' nD sb lt pm pw=>?_⟩
  ·obtain⟨s0,_,rfl⟩:=jx.mp hy;simp[JX]
  ·rw[az] at hx hk;cases ex:xs5[i']? with
   |none=>rw[ex] at hx;cases hx
   |some xn=>
    rw[ex] at hx;cases hx;obtain⟨s0,h1,h2⟩:=BD c2 ex;rw[h1] at hk;cases hk;obtain⟨dx,ja,h3,h4⟩:=h2.st (Stt.sb sb (s05 _ _ htb));refine⟨V.ref xn,rfl,xn,CN,dx,_,_,rfl,h3,TN.cl,TN.nb,gD _ _ _ _ _ _,V.ref xn,rfl,xn,CN,dx,_,_,rfl,h3,TN.cl,TN.nh,qL _ _ _ _ _ _,V.ref xn,rfl,xn,CN,dx,_,_,rfl,h3,TN.cl,TN.nc,bS _ _ _ _ _ _,(by rw[bw];show 3<=16777216;decide),λp hp=>⟨p,rfl,hp,rfl⟩⟩
  ·obtain⟨zs,pm2,pr⟩:=cb.perm pm (bT c2);obtain⟨as',e1,e2⟩:=WO pr;have st6:Stt H5 H6:=Stt.sb sb (s05 _ _ htb);have stD:Stt H6 (upd H6 D (.lst (zs'.map (·.2)))):=Same.st (Same.upd nD);refine k _ D zs ds ((s05.st.trans st6).trans stD) (LamTbl.same (Same.upd nD) lt) hds pm2 (gE (f:=HT.lexLt) pr pw) ⟨as',by rw[upd_same,e1],AS e2 λ_ _ q=>(q.st st6).st stD⟩
end
open PySem PySem.Spec PyProof.Rows L2
structure LmF (K:aa) (mg:Str->Option ag) (f:Addr) (fd:du) (c PT:Addr):Prop where
 m:mg "notes_in_order"=some (.ref f)
 F:FunC K "notes_in_order" "notes_in_order" BM f fd c
 n:K.lookup PT=none
 h:xw K c PT=true
theorem kR {K:aa} {mg:Str->Option ag} {c PT:Addr} {oc kV doc pm ct:ag} {od an:Option Addr} {osl:Array (Option ag)} (X:K.In h) (G:h.Ns mainGlobals mg) (a:tL K mainGlobals "notes_in_order"=some (some (.ref f)))
 (l:K.lookup f=some ⟨oc,od,.func (gj "notes_in_order" "notes_in_order" (DI BM) (BR BM) (AH BM) .none kV doc pm an (.ref c) ct),osl⟩) (c1:iw K (.ref c) "notes_in_order"=true) (k:dq K (.ref f)=true)
 {dd:Option Addr} {vs:Array ag} {sl:Array (Option ag)} (cl:K.lookup c=some ⟨.type "code",dd,.fields vs,sl⟩) (v:vs[11]? =some (.ref PT)) (n:K.lookup PT=none) (hd:xw K c PT=true):Ex4 λf fd c PT=>LmF K mg f fd c PT:=
 ⟨f,_,c,PT,fj X G a,⟨⟨oc,od,kV,doc,pm,an,ct,osl,rfl,l,c1⟩,k⟩,n,hd⟩
theorem kT {K:aa} {q:aw} {mg:Str->Option ag} {c PT:Addr} (KX:K.In h) (TT:TopT q mg h) (hq:((recsOf q).any λd=>d.name==("notes_in_order":Str))=true) (L:LmF K mg f fd c PT):∃c,h.TableAt c PT #[]:=by
 obtain⟨d,hd,en⟩:=uU.mp hq;have en:d.name="notes_in_order":=by simpa using en
 obtain⟨a,o,fd',c',P',h1,h2,h3,h4,h5,h6⟩:=TT.tab d hd;rw[en,L.m] at h1;cases h1;obtain⟨oc,od,kV,doc,pm,an,ct,osl,rfl,lk,_⟩:=L.F.ex;have e1:=KX _ _ lk;rw[h2] at e1;cases e1;cases h3;have ec:c'=c:=by cases h4;rfl
 subst ec;have CH:=wb KX L.h;obtain⟨o1,vs,_,_,_,_,_,_,_,g1,g2,g3,g4,_⟩:=CH;obtain⟨⟨o2,vs2,w1,w2,w3,w4⟩,w5⟩:=id h6;rw[g1] at w1;cases w1;rw[g3] at w3;cases w3;rw[g4] at w4;cases w4;exact⟨c',h6⟩
theorem qN {PT:Addr} (h:H PT=some (.tbl #[])):LmT H PT:=⟨#[],h,by first|exact iz|simp[TriplesOk]|decide,.inl rfl⟩
open PySem.W (Codec OpenSpec) in
theorem SO {r:OpenSpec} {k:Nat} {q:aw} {loose:List Str} {XP:(Str->Option ag)->Heap->Prop} {YP:bv->Heap->Prop} {d:DefRec} {K:vL->aa} {sp:aa->List Addr->Sp}
 (hwell:r.wellSaid=true) (hdf:d.params.defaults=[]) (hlen:r.args.length=ps.length) (hr:Room k wR)
 (hY:∀(w:bv) (h:Heap),YP w h->(K w.params).In h)
 (F:∀(w:bv) (mg:Str->Option ag) (fa:Addr) (h:Heap),YP w h->(K w.params).In h->h.Ns mainGlobals mg->TopT q mg h->mg d.name=some (.ref fa)->
  Ex2 λ(T:List Addr) (fd:du)=>(∀p∈T,(K w.params).lookup p=none/\∃c,h.TableAt c p #[])/\(∀(s:ai) (us:List ag),us.length=ps.length->vY s fd ⟨us,[]⟩ (ps.zip us))/\
   (∀base:Heap,(K w.params).In base->base.Ns mainGlobals mg->NR mg base->FnOk r.prog w (K w.params) mg base (CX1 r.prog w) k fa fd ps (sp (K w.params) T))/\
   ∀(H:Hp) (xs:List V) (a:tq r.args),WI T H->(∀p∈T,H p=some (.tbl #[]))->xU r.args a=true->v0 r.args r.asked a=true->DwAll (K w.params) H xs (sj r.args a)->
    sp (K w.params) T xs H (λv H'=>Dw (K w.params) H' v (r.ret.enc (v0 r.args r.f a))) λ_ _ _=>False):
 yt q loose XP YP r d [] (λf vs=>z0 f vs):=
 UQ (K:=K) (CX:=λw=>CX1 r.prog w) (sp:=λw T=>sp (K w.params) T) hwell hdf hlen hr hY F λw H s e s' ⟨_,_,_,_,_,_,_,_,_,_,_,z⟩=>z
theorem WP:∀{f least p:Nat} {x y:Iv} {l:List UInt8},Lute.factorsAt f least x p l= .ok y->y.ok=true
 |0,least,p,x,y,l,h=>by rw[Lute.factorsAt] at h;cases h
 |f+1,least,p,x,y,l,h=>by
  rw[Lute.factorsAt] at h;split at h
  ·cases h
  ·split at h
   ·cases h
   ·split at h
    ·cases h
    ·simp only at h;split at h
     ·split at h
      ·cases h;assumption
      ·cases h
     ·split at h
      ·exact WP h
      ·cases h
theorem kU {b:List UInt8} {x:Iv} (h:Lute.read b= .ok x):x.ok=true:=by
 unfold Lute.read at h;split at h
 ·split at h
  ·cases h;decide
  ·cases h
 ·exact WP h
theorem UT {fine:Iv->Bool} {l u:List UInt8} {x:Iv} (h:Lute.ivLine fine p l= .ok (x,q,u)):x.ok=true:=by
 unfold Lute.ivLine at h;split at h
 ·cases h
 ·simp only at h;split at h
  ·cases h
  ·rename_i h1;split at h
   ·cases h
   ·split at h
    ·cases h
    ·cases h;exact kU h1
structure InO (t:Lute.Inst):Prop where
 f:∀x∈t.frets,x.ok=true
 c:∀x∈t.courses,x.ok=true
 b:∀x∈t.basses,x.ok=true
 s:∀x∈t.courses,Lute.soundsAll t.frets x=true
 n:t.opens.length<=14
theorem bV {fine:Iv->Bool} {l u:List UInt8} {x:Iv} (h:Lute.ivLine fine p l= .ok (x,q,u)):fine x=true:=by
 unfold Lute.ivLine at h;split at h
 ·cases h
 ·simp only at h;split at h
  ·cases h
  ·split at h
   ·cases h
   ·rename_i hf;split at h
    ·cases h
    ·cases h;simpa using hf
theorem QT:∀{f p:Nat} {t t':Lute.Inst} {l:List UInt8},InO t->Lute.linesAt f t p l= .ok t'->InO t'
 |f,p,t,t',[],k,h=>by
  have h':Lute.linesAt f t p []=if t.courses.isEmpty=true then .error p else .ok t:=by cases f<;>rw[Lute.linesAt]
  rw[h'] at h;split at h
  ·cases h
  ·cases h;exact k
 |0,p,t,t',c::r,k,h=>by rw[Lute.linesAt] at h;cases h;simp
 |f+1,p,t,t',c::r,k,h=>by
  have sn:∀{P:Iv->Prop} {l:List Iv} {x:Iv},(∀y∈l,P y)->P x->∀y∈l++[x],P y:=λ{P l x} hl hx y hy=>by
   rcases cj.mp hy with hy|hy
   ·exact hl y hy
   ·rw[gq.mp hy];exact hx
  have ln:¬Lute.COURSES<=t.opens.length->t.courses.length+t.basses.length<14:=λq=>by
   have:¬14<=(t.courses++t.basses).length:=q;rw[bq] at this;omega
  rw[Lute.linesAt] at h;split at h
  ·rename_i hc;split at h
   ·cases h
   ·split at h
    ·cases h
    ·split at h
     ·cases h
     ·rename_i h1;refine QT (t:={ t with frets:=t.frets++[_] }) ⟨sn k.f (UT h1),k.c,k.b,λx hx=>?_,k.n⟩ h;have:t.courses=[]:=List.isEmpty_iff.mp hc.2;rw[show({ t with frets:=t.frets++[_] }:Lute.Inst).courses=t.courses from rfl,this] at hx;exact absurd hx (by simp)
  ·split at h
   ·split at h
    ·cases h
    ·split at h
     ·cases h
     ·rename_i hn;split at h
      ·cases h
      ·rename_i h1;refine QT (t:={ t with courses:=t.courses++[_] }) ⟨k.f,sn k.c (UT h1),k.b,sn k.s (bV h1),?_⟩ h;show((t.courses++[_])++t.basses).length<=14;have:=ln hn;simp;omega
   ·split at h
    ·split at h
     ·cases h
     ·split at h
      ·cases h
      ·rename_i hn;split at h
       ·cases h
       ·rename_i h1;refine QT (t:={ t with basses:=t.basses++[_] }) ⟨k.f,k.c,sn k.b (UT h1),k.s,?_⟩ h;show(t.courses++(t.basses++[_])).length<=14;have:=ln hn;simp;omega
    ·cases h
theorem WQ {t:Lute.Inst} (h:Lute.readInst cs= .ok t):InO t:=by
 unfold Lute.readInst at h;split at h
 ·cases h
 ·split at h
  ·cases h
  ·split at h
   ·cases h
   ·split at h
    ·cases h
    ·exact QT ⟨by simp,by simp,by simp,by simp,by show(0:Nat)<=14;omega⟩ h
theorem InO.k {t:Lute.Inst} (h:InO t):InK t:=⟨λx hx=>(R7 (h.f x hx)).1,λx hx=>(R7 (h.c x hx)).1,λx hx=>(R7 (h.b x hx)).1⟩
theorem O9 {t:Lute.Inst} (h:InO t) {c f:Nat} (hp:t.place c f=true):t.sounds c f=if t.courses.length<c then t.basses.getD (c - t.courses.length - 1) Lute.unison else if f=0 then t.courses.getD (c - 1) Lute.unison else(t.frets.getD (f - 1) Lute.unison).plus (t.courses.getD (c - 1) Lute.unison):=by
 unfold Lute.Inst.place at hp;simp at hp;obtain⟨h1,h2,h3⟩:=hp;unfold Lute.Inst.sounds;unfold Lute.Inst.opens at h2 ⊢;rw[bq] at h2;unfold Lute.Inst.many at h3;by_cases hc:t.courses.length<c
 ·rw[if_pos hc];rw[if_neg (by omega)] at h3;have hf:f=0:=by omega
  subst hf;have e1:(t.courses++t.basses).getD (c - 1) Lute.unison=t.basses.getD (c - t.courses.length - 1) Lute.unison:=by
   rw[bj,bj,tU (by omega)];congr 2;omega
  rw[e1];unfold Lute.Inst.fret;rw[if_pos rfl];refine VZ ?_;rw[bj,aj (show c - t.courses.length - 1<t.basses.length by omega)];exact R7 (h.b _ (jd _))
 ·rw[if_neg hc];rw[if_pos (by omega)] at h3;have e1:(t.courses++t.basses).getD (c - 1) Lute.unison=t.courses.getD (c - 1) Lute.unison:=by
   rw[bj,bj,uh (by omega)]
  rw[e1];unfold Lute.Inst.fret;by_cases hf:f=0
  ·subst hf;rw[if_pos rfl,if_pos rfl];refine VZ ?_;rw[bj,aj (show c - 1<t.courses.length by omega)];exact R7 (h.c _ (jd _))
  ·rw[if_neg hf,if_neg hf];exact HY _ _
theorem X7 {t:Lute.Inst} (h:InO t) {c f:Nat} (hp:t.place c f=true):(t.sounds c f).ok=true:=by
 rw[O9 h hp];unfold Lute.Inst.place at hp;simp at hp;obtain⟨h1,h2,h3⟩:=hp;unfold Lute.Inst.opens at h2;rw[bq] at h2;unfold Lute.Inst.many at h3;split
 ·rw[bj,aj (by omega)];exact h.b _ (jd _)
 ·rw[if_pos (by omega)] at h3;have hc:t.courses.getD (c - 1) Lute.unison∈t.courses:=by
   rw[bj,aj (by omega)];exact jd _
  split
  ·exact h.c _ hc
  ·have hf:t.frets.getD (f - 1) Lute.unison∈t.frets:=by
    rw[bj,aj (by omega)];exact jd _
   rw[HY];exact ki.mp (h.s _ hc) _ hf
end Lt
end
section
namespace L2
open PySem PySem.Spec PyProof.Rows
theorem kW {X:Cx}:Out X (λ_ _ _=>False):=λ_ _ _ _ _ _ _ _ _ _ z=>z.elim
theorem bW {X:Cx} (K:aa) (h:X.K=K:=by rfl):IxR X (gZ K):=h▸B9
end L2
namespace Lt
open PySem PySem.Spec PyProof.Rows L2
variable {f a C CR CT r ta CI CL CN:Addr} {fd:du} {X:Cx} {x:List Int} {i n e p q:Nat} {pos:Pos} {z dz fz:Str} {xs:List V} {E:XK} {H H' H1:Hp} {cs t ci ct:List UInt8} {α β:Type} {Q:VK} {ls fr co ba:List (List Int)} {P:aw} {w:bv} {h:Heap} {ps:List Str}
def qO (K:aa) (CL CN:Addr):Sp:=λvs H Q _=>Ex7 λ(g:Stop->List Int) (hg:List Int->Nat) (xn al:Addr) (s:Sk) (ps:List Ln) (ring:Nat)=>vs=[.ref xn,.ref al,.int (ring:Nat)]/\NoteA K CN g hg H xn s/\LnsA K CL H al ps/\s.line<ps.length/\ps.length<=512/\
 Q (.int ((mEL ring ps s.line s.halt_.course:Nat):Int)) H
theorem kX (n:Int) (sa:Addr):(lnf n sa).lookup ("strikes":Str)=none:=Z7 _ _ (by decide +kernel) (by decide +kernel)
theorem X9 {ps:List Ln} {q:Ln} (h:ps[i]? =some q):ps.drop i=q::ps.drop (i+1):=by
 obtain⟨h1,h2⟩:=au.mp h;rw[im h1,h2]
section
variable {P:aw} {w:bv} {K:aa} {mg:Str->Option ag} {base:Heap} {CI CL CN:Addr}
theorem gF:FnScope ["note","lines","ring","number"] ["note","lines","ring"] (AH IV):={}
theorem qP (F:Fun K "end_line" "end_line" IV f fd) (B:Blt mg) (g0:GI mg "RING_MOMENT" 0) (g2:GI mg "RING_BAR" 2) (TL:LnC K CL) (TN:NtC K CN) (MB:Mth P w K mg base 1 CL "is_bar" ["self"] (Z8 CL)) (MS:Mth P w K mg base 1 CL "strikes" ["self","course"] (bG K CL)):
 FnOk P w K mg base (CX1 P w) 2 f fd ["note","lines","ring"] (qO K CL CN):=by
 refine F.okx gF λcdv A outer s H vs Q E hr h=>?_;obtain⟨g,hg,xn,al,st,ps,ring,rfl,N,L,hlt,hl,k⟩:=h;refine⟨_,(AB (AW (AO CP (pv 2) (BZ g0) (AQ _)) (AC (AJ (BC C9 (AR (pv 0) rfl) AI))) AM)
  (AB (B4 bn rfl (WX (by rfl) B.range (AA (BC C9 (AR (pv 0) rfl) AI) (AA (AZ AN (by rfl) B.len cr (AA (pv 1) AF)) AF))) (DT 3 gF)
  (AB (AW (GL (AO CP (pv 2) (BZ g2) (AQ _)) (EX (C7 (MB.call0 (BI B9 (pv 1) (pv 3) (λ_ _=>rfl)) hr AD)))).pt (AC (AJ (pv 3))) AM)
  (AC (AW (C7 (MS.call (BI B9 (pv 1) (pv 3) (λ_ _=>rfl)) hr AD (AA (AR (pv 0) rfl) AF))) (AC (AJ (pv 3))) AM))))
  (AC (AJ (AZ AN (by rfl) B.len cr (AA (pv 1) AF)))))),?_⟩
 and_intros
 obtain⟨dx,ia,n1,n2⟩:=id N;obtain⟨as,a1,a2⟩:=id L;have la:as.length=ps.length:=cf a2;unfold mEL at k;refine⟨_,rfl,rfl,_,rfl,B7 (λh0=>?_) (λh0=>?_)⟩
 ·have e0:ring=0:=by
   have q:=of_decide_eq_true h0;injection q with q;omega
  rw[if_pos e0] at k;exact⟨_,rfl,xn,CN,dx,_,_,rfl,n1,TN.cl,TN.nl,bR _ _ _ _ _ _,_,_,rfl,rfl,k⟩
 ·have e0:¬ring=0:=λq=>h0 (decide_eq_true (by rw[q];rfl));rw[if_neg e0] at k;have en:(((as.map V.ref).length:Int) - (((st.line:Nat):Int)+1)).toNat=ps.length - (st.line+1):=by rw[ah,la];omega
  refine⟨_,rfl,xn,CN,dx,_,_,rfl,n1,TN.cl,TN.nl,bR _ _ _ _ _ _,_,_,rfl,rfl,V.ref al,rfl,al,_,rfl,.inl (SqL.of a1),_,_,rfl,⟨by omega,by omega,by omega,by rw[ah,la];omega⟩,?_⟩;rw[en];refine WZ (λj σ H'=>(∃r3,σ=[some (.ref xn),some (.ref al),some (.int (ring:Nat)),r3])/\H=H'/\j<=ps.length - (st.line+1)/\E1 ring st.halt_.course (ps.drop (st.line+1))=j+E1 ring st.halt_.course (ps.drop (st.line+1+j))) ⟨⟨none,rfl⟩,rfl,by omega,by simp⟩ ?_ ?_
  ·rintro j σ H' hj ⟨⟨r3,rfl⟩,rfl,hj2,em⟩
   and_intros
   have hm:st.line+1+j<as.length:=by omega
   obtain⟨q,hq,dl,sa,_,hx,Ls⟩:=BD a2 (aj hm);obtain⟨n,l⟩:=q;rw[X9 hq,E1] at em;have ei:((st.line:Nat):Int)+1+((j:Nat):Int)=((st.line+1+j:Nat):Int):=by omega
   have eat:atI (as.map V.ref) (((st.line:Nat):Int)+1+((j:Nat):Int))=some (V.ref as[st.line+1+j]):=by
    rw[ei];exact DH (by rw[az,aj hm];rfl)
   have done:((ring=2/\n=0)\/JB st.halt_.course l=true)->Q (V.int (((st.line:Nat):Int)+1+((j:Nat):Int))) H:=λhy=>by
    rw[if_pos hy] at em;rw[em] at k;rw[ei];exact k
   have hit:¬(ring=2/\n=0)->(ST (tB (Q4 CL "strikes" (bG K CL) [] E (tOp (gZ K) (BO 1) (BO 3)) (B5 (NY K (BO 0) "course") EN))) (QY (BO 3)) UU)
    { nx:=λσ H'=>(∃r3,σ=[some (.ref xn),some (.ref al),some (.int (ring:Nat)),r3])/\H=H'/\j+1<=ps.length - (st.line+1)/\E1 ring st.halt_.course (ps.drop (st.line+1))=j+1+E1 ring st.halt_.course (ps.drop (st.line+1+(j+1))),rt:=Q,ct:=λσ H'=>(∃r3,σ=[some (.ref xn),some (.ref al),some (.int (ring:Nat)),r3])/\H=H'/\j+1<=ps.length - (st.line+1)/\E1 ring st.halt_.course (ps.drop (st.line+1))=j+1+E1 ring st.halt_.course (ps.drop (st.line+1+(j+1))),bk:=λσ H=>(QY (tCB (λxs H Q=>Ex2 λp ys=>xs=[V.ref p]/\(SqL K H p ys\/SqT K H p ys)/\Q (.int ys.length) H) (B5 (BO 1) EN))) { nx:=λ_ H'=>Q .non H',rt:=Q } σ H }
    [some (.ref xn),some (.ref al),some (.int (ring:Nat)),some (.int (((st.line:Nat):Int)+1+((j:Nat):Int)))] H:=λhno=>by
    refine⟨_,rfl,_,rfl,al,_,_,_,rfl,rfl,SqL.of a1,eat,_,dl,_,rfl,hx,kX _ _,_,rfl,xn,CN,dx,_,_,rfl,n1,TN.cl,TN.nc,bS _ _ _ _ _ _,_,dl,sa,n,st.halt_.course,l,rfl,hx,Ls,_,rfl,?_⟩;cases hh:JB st.halt_.course l with
    |true=>exact BS ⟨_,rfl,done (.inr hh)⟩
    |false=>
     rw[if_neg (by rintro (q|q);exact hno q;rw[hh] at q;cases q)] at em;exact BJ ⟨⟨_,rfl⟩,rfl,by omega,by rw[em,show st.line+1+(j+1)=st.line+1+j+1 by omega];omega⟩
   refine⟨_,rfl,rfl,_,rfl,?_⟩;by_cases h2:ring=2
   ·rw[show decide (V.int ((ring:Nat):Int)=V.int 2)=true from decide_eq_true (by rw[h2];rfl)];refine BS ⟨_,rfl,_,rfl,al,_,_,_,rfl,rfl,SqL.of a1,eat,_,dl,_,rfl,hx,aC _ _,_,dl,sa,(n:Nat),rfl,hx,_,rfl,?_⟩;by_cases hn:n=0
    ·rw[show decide (((n:Nat):Int)=0)=true from decide_eq_true (by omega)];exact BS ⟨_,rfl,done (.inl ⟨h2,hn⟩)⟩
    ·rw[show decide (((n:Nat):Int)=0)=false from decide_eq_false (by omega)];exact BJ (hit λq=>hn q.2)
   ·rw[show decide (V.int ((ring:Nat):Int)=V.int 2)=false from decide_eq_false λq=>h2 (by injection q with q;omega)];exact BJ (BJ (hit λq=>h2 q.1))
  ·rintro σ H' ⟨⟨r3,rfl⟩,rfl,_,em⟩;have ed:ps.drop (st.line+1+(ps.length - (st.line+1)))=[]:=List.drop_eq_nil_of_le (by omega);rw[ed,E1] at em;refine⟨_,rfl,al,_,rfl,.inl (SqL.of a1),?_⟩;rw[em] at k;rw[ah,la];rw[show st.line+1+(ps.length - (st.line+1)+0)=ps.length by omega] at k;exact k
end
open PySem PySem.Spec PyProof.Rows L2
section
variable {P:aw} {w:bv} {K:aa} {mg:Str->Option ag} {base:Heap}
theorem LP:FnScope ["self"] ["self"] (AH DA):={}
theorem LQ {fR:Addr} {fdR:du} (F:Fun K "__init__" "NoSuchChoice.__init__" DA f fd) (R:RfI P w K mg base CR fR fdR) (xc:XCls K C) (na:NoAttr K C "answer"):FnOkU P w K mg base (CX1 P w) 2 f fd ["self"] (IF C (-1)):=by
 refine F.oku LP λcdv A outer s H vs Q E hr h=>?_;obtain⟨a,rfl,ea,k⟩:=h;refine⟨_,AC (AY (HV (mc:=.type "type") (by rfl) R.mgR R.sp R.rd R.fc R.kp R.ok hr R.bd out_cxU.passes (AA (pv 0) (AA (GX EM AI) AF)))),?_⟩
 subst_eqs
 exact⟨_,rfl,_,rfl,a,C, -1,rfl,ea,xc,na,λH' hb'=>k H' hb'⟩
end
open PySem PySem.Spec PyProof.Rows L2
def qQ (K:aa) (CL CN:Addr):Sp:=λvs H Q _=>Ex7 λ(g:Stop->List Int) (hg:List Int->Nat) (na al:Addr) (zs:List Sk) (ps:List Ln) (ring:Nat)=>vs=[.ref na,.ref al,.int (ring:Nat)]/\NotesA K CN g hg H na zs/\LnsA K CL H al ps/\(∀s∈zs,s.line<ps.length)/\ps.length<=512/\zs.length<=100000/\
 (ring<=2)/\∀H' a,Same H H'->H a=none->H' a=some (.lst (zs.map λs=>V.int ((uL ps (mEL ring ps s.line s.halt_.course):Nat):Int)))->Q (.ref a) H'
theorem kY {ring line c:Nat} {ps:List Ln} (h:line<ps.length):mEL ring ps line c<=ps.length:=by
 unfold mEL;split
 ·omega
 ·have:=WC ring c (ps.drop (line+1));rw[fu] at this;omega
def bX (C1:Addr):Sp:=λvs H Q E=>∃(ring:Int),vs=[.int ring]/\(if 2<ring then E (.ref C1) none (xH [("answer",.int (-1))]) else Q .non H)
def bY (P:aw) (w:bv) (K:aa) (CM CN PT:Addr) (H:Hp) (Q:VK) (E:XK) (fr co ba:List (List Int)) (ps:List Ln):Option (Nat×Nat)->Prop
 |some (l,c)=>E (.ref CM) none (xH (mfs (l:Nat) (c:Nat)))
 |none=>NoteP fr co ba ps/\∀H' a zs ds,Stt H H'->LmT H' PT->(∀s,s∈ds↔∃q∈ps,s∈q.2)->zs.Perm (CZ 0 0 ps)->zs.Pairwise (λa b=>HT.lexLt (JX (B8 fr co ba) (hgt (B8 fr co ba) ds) b) (JX (B8 fr co ba) (hgt (B8 fr co ba) ds) a)=false)->NotesA K CN (B8 fr co ba) (hgt (B8 fr co ba) ds) H' a zs->Q (.ref a) H'
def qR (P:aw) (w:bv) (K:aa) (CI CL CB CM CN PT:Addr):Sp:=λvs H Q E=>Ex3 λ(x:Addr) (s:St3) (ps:List Ln)=>vs=[.ref x]/\TbA K CI CL CB H x s ps/\LmT H PT/\bY P w K CM CN PT H Q E s.1 s.2.1 s.2.2 ps (EK (plc s.1 s.2.1 s.2.2) 0 ps)
section
variable {P:aw} {w:bv} {K:aa} {mg:Str->Option ag} {base:Heap} {CI CL CN CB CM PT:Addr}
theorem sc_es:FnScope ["notes","lines","ring","units","note"] ["notes","lines","ring"] (AH GE):={}
theorem kZ:BlkOk ["notes","lines","ring","units","note"] (AH GE) (L0 (rhs ((BR GE).getD 1 (.Pass ⟨0,0,0,0⟩)))) [("note",4)]:={}
theorem qS (F:Fun K "ends_of" "ends_of" GE f fd) (D1:Def P w K mg base 1 "beginnings" ["lines"] (bF K CL)) (D2:Def P w K mg base 2 "end_line" ["note","lines","ring"] (qO K CL CN)):FnOk P w K mg base (CX1 P w) 3 f fd ["notes","lines","ring"] (qQ K CL CN):=by
 refine F.okx sc_es λcdv A outer s H vs Q E hr h=>?_;obtain⟨g,hg,na,al,zs,ps,ring,rfl,N,L,hlt,hl,hz,hrg,k⟩:=h;refine⟨_,(AB (AX 3 sc_es (D1.call hr AD (AA (pv 1) AF)))
  (AC (AJ (Y6 (own:=[("note",4)]) rfl sc_es.nd (DG (pv 0)) kZ (λ_ _ _ _ _=>DT 4 sc_es) (λ_ _ _ _ _=>PP)
  (λ_ _ _ _ _=>BI (bW K) (pv 3) (D2.call hr kW (AA (pv 4) (AA (pv 1) (AA (pv 2) AF)))) (λ_ _=>rfl)))))),?_⟩
 and_intros
 refine⟨V.ref al,rfl,al,ps,rfl,L,hl,λH1 ua s1 nu hu=>?_⟩;obtain⟨as,a1,a2⟩:=id N;have la:as.length=zs.length:=cf a2;have a11:=s1 _ _ a1;refine⟨V.ref na,rfl,na,rfl,⟨_,SqL.of a11⟩,λD nD=>TM (n:=zs.length) (λi H'=>H'=upd H1 D (.lst ((zs.take i).map λs=>V.int ((uL ps (mEL ring ps s.line s.halt_.course):Nat):Int)))) (by simp) (λi H' hi e=>?_) (λH' e=>?_) ?_ ?_⟩
 ·subst e;exact⟨_,.ref (as[i]'(by omega)),SqL.of (by rw[AE (AG a11 nD)];exact a11),by rw[az,aj (by omega)];rfl⟩
 ·subst e;exact⟨_,SqL.of (by rw[AE (AG a11 nD)];exact a11),by rw[ah,la];exact aq _⟩
 ·rintro i v H2 H3 hi rfl ⟨rfl,hy⟩;have s2:Same H1 (upd H1 D (.lst ((zs.take i).map λs=>V.int ((uL ps (mEL ring ps s.line s.halt_.course):Nat):Int)))):=Same.upd nD;have hv:=hy _ (SqL.of (s2 _ _ a11));rw[az] at hv;cases ea:as[i]? with
  |none=>rw[ea] at hv;cases hv
  |some x=>
   rw[ea] at hv;cases hv;obtain⟨st,hst,nt⟩:=BD a2 ea;have hs:=hlt st (bo hst);have hle:=kY (ring:=ring) (c:=st.halt_.course) hs;refine⟨rfl,?_⟩;refine⟨V.ref ua,rfl,V.ref x,rfl,V.ref al,rfl,V.int (ring:Nat),rfl,g,hg,x,al,st,ps,ring,rfl,nt.st (s1.trans s2).st,L.same (s1.trans s2),hs,hl,?_⟩;refine⟨ua,_,_,_,rfl,rfl,SqL.of (s2 _ _ hu),DH (v:=V.int ((uL ps (mEL ring ps st.line st.halt_.course):Nat):Int)) (by rw[az,tI (by omega)];rfl),_,upd_same,?_,?_⟩
   ·rw[ah,dk,bw];omega
   ·funext b;by_cases hb:b=D
    ·subst hb;rw[upd_same,upd_same,dj,hst,dm];rfl
    ·rw[AE hb,AE hb,AE hb]
 ·rintro H2 rfl;rw[fk];exact k _ D (s1.trans (Same.upd nD)) (s1.free nD) upd_same
theorem eR:FnScope ["ring"] ["ring"] (AH GU):={}
theorem eS {C1:Addr} (F:Fun K "check_ring" "check_ring" GU f fd) (g2:GI mg "MOST_RING" 2) (X1:XMr P w K mg base 2 C1 "NoSuchChoice" ["self"] (IF C1 (-1))):FnOk P w K mg base (CX1 P w) 4 f fd ["ring"] (bX C1):=by
 refine F.okx eR λcdv A outer s H vs Q E hr h=>?_;obtain⟨ring,rfl,k⟩:=h;refine⟨_,(AC (AW (AO E3 (pv 0) (BZ g2) (AQ _)) (AC (G6 AD rfl (X1.call0 hr.u AD))) AM)),?_⟩
 subst_eqs
 refine⟨_,rfl,_,_,rfl,rfl,_,rfl,B7 (λh0=>?_) (λh0=>?_)⟩
 ·rw[if_pos (of_decide_eq_true h0)] at k;exact⟨by show 0<=100;decide,λa ha=>⟨a,rfl,upd_same,λH4 ⟨⟨d,dn,d0,e1,e2⟩,_⟩=>⟨rfl,a,C1,_,rfl,⟨d,dn,e1,e2⟩,X1.2.1,k⟩⟩⟩
 ·rw[if_neg (λq=>h0 (decide_eq_true q))] at k;exact k
theorem qT:FnScope ["tablature"] ["tablature"] (AH ET):={}
theorem qU (F:Fun K "fitting_notes" "fitting_notes" ET f fd) (T:TbC K CB) (D1:Def P w K mg base 4 "check_fit" ["instrument","lines"] (fT K CI CL CM)) (D2:Def P w K mg base 6 "notes_in_order" ["instrument","lines"] (kO P w K CI CL CN PT)):
 FnOk P w K mg base (CX1 P w) 7 f fd ["tablature"] (qR P w K CI CL CB CM CN PT):=by
 refine F.okx qT λcdv A outer s H vs Q E hr h=>?_;obtain⟨x,⟨fr,co,ba⟩,ps,rfl,⟨⟨dx,ia,af,ac,ab,al,h1,I,L⟩,le⟩,LM,k⟩:=h;refine⟨_,(AB (AY (D1.call hr AD (AA (AR (pv 0) rfl) (AA (AR (pv 0) rfl) AF))))
  (AC (AJ (D2.call hr AD (AA (AR (pv 0) rfl) (AA (AR (pv 0) rfl) AF)))))),?_⟩
 and_intros
 refine⟨_,rfl,x,CB,dx,_,_,rfl,h1,T.cl,T.ni,fU _ _,_,rfl,x,CB,dx,_,_,rfl,h1,T.cl,T.nl,aE _ _,ia,af,ac,ab,al,fr,co,ba,ps,rfl,I,L,?_⟩;cases hm:EK (plc fr co ba) 0 ps with
 |some y=>
  obtain⟨l,c⟩:=y;have k:bY P w K CM CN PT H Q E fr co ba ps (EK (plc fr co ba) 0 ps):=k;rw[hm] at k;exact k
 |none=>
  have k:bY P w K CM CN PT H Q E fr co ba ps (EK (plc fr co ba) 0 ps):=k;rw[hm] at k;intro H1 s1;have h11:=s1 _ _ h1;exact⟨_,rfl,x,CB,dx,_,_,rfl,h11,T.cl,T.ni,fU _ _,_,rfl,x,CB,dx,_,_,rfl,h11,T.cl,T.nl,aE _ _,ia,af,ac,ab,al,fr,co,ba,ps,rfl,I.kp (Same.kp s1),L.same s1,k.1,LamTbl.same s1 LM,λH' a zs ds st lm hds pm pw na=>k.2 H' a zs ds (s1.st.trans st) lm hds pm pw na⟩
end
open PySem PySem.Spec PyProof.Rows L2
def EbP (cl:Int->Addr) (Z:List Int) (A:List Int->Prop):XK:=λv _ Hx=>Ex2 λz fs=>v= .ref (cl z)/\z∈Z/\Hx=xH fs/\fs.lookup ("answer":Str)=some (V.int z)/\A [z]
theorem ebp {cl:Int->Addr} {Z:List Int} {A:List Int->Prop} {z:Int} (hz:z∈Z) (h:A [z]):Rfl cl (EbP cl Z A) z:=λ_=>⟨z,_,rfl,hz,rfl,rfl,h⟩
theorem eU {z:Int} {Z:List Int} (h:GH dz fz ci ct= .error z) (hz:∀y∈([-2, -6, -8]:List Int),y∈Z):z∈Z:=hz z (jZ h)
theorem k6 {K:aa} {cl:Int->Addr} {Z:List Int} {A:List Int->Prop} {C':Addr} {fs:List (Str×V)} {cx:Option Addr} {σ':L2.St} {j:Nat} {D:Ends} (RC:RfC K CR cl Z) (eb:EbP cl Z A (.ref C') cx (xH fs)) (hl:j<σ'.length)
 (k:∀ans,A ans->∀H' l,H' l=some (.lst (ans.map V.int))->D.rt (.ref l) H') (tr:TH):
 VI K CR j (λ_=>QY (gW (B5 (VH K (BO j) "answer") EN))) tr a C' fs cx D σ' H1:=by
 obtain⟨z,fs',ev,hz,ex,el,ha⟩:=eb;have eC:C'=cl z:=by injection ev
 have efs:fs=fs':=Y0 ex;subst efs eC;exact⟨true,RC.r z hz,λ_ H2 n2=>dS (D:={ nx:=λ_ _=>False,rt:=D.rt }) hl n2 (RC.x z hz) (RC.a z hz) el (ans:=[z]) rfl (k [z] ha),λq=>by cases q⟩
structure NtsP (s:St3) (ps:List Ln) (zs:List Sk) (ds:List Stop):Prop where
 hd:∀x,x∈ds↔∃q∈ps,x∈q.2
 pm:zs.Perm (CZ 0 0 ps)
 pw:zs.Pairwise (λa b=>HT.lexLt (JX (B8 s.1 s.2.1 s.2.2) (hgt (B8 s.1 s.2.1 s.2.2) ds) b) (JX (B8 s.1 s.2.1 s.2.2) (hgt (B8 s.1 s.2.1 s.2.2) ds) a)=false)
def KW (dz fz:Str) (ring:Int) (ci ct:List UInt8) (R:St3->List Ln->List Sk->List Stop->List Int->Prop) (ans:List Int):Prop:=match GH dz fz ci ct with
 | .error z=>ans=[z]
 | .ok (s,ps)=>if 2<ring then ans=[-1] else match EK (plc s.1 s.2.1 s.2.2) 0 ps with
   |some _=>ans=[-3]
   |none=>Ex2 λzs ds=>NtsP s ps zs ds/\R s ps zs ds ans
theorem k8 {ring:Int} {R:St3->List Ln->List Sk->List Stop->List Int->Prop} {z:Int} (h:GH dz fz ci ct= .error z):KW dz fz ring ci ct R [z]:=by unfold KW;rw[h]
theorem k9 {ring:Int} {R:St3->List Ln->List Sk->List Stop->List Int->Prop} {s:St3} {ps:List Ln} (h:GH dz fz ci ct= .ok (s,ps)) (hr:2<ring):KW dz fz ring ci ct R [-1]:=by unfold KW;simp only[h];rw[if_pos hr];exact iz
theorem lA {ring:Int} {R:St3->List Ln->List Sk->List Stop->List Int->Prop} {s:St3} {ps:List Ln} {y:Nat×Nat} (h:GH dz fz ci ct= .ok (s,ps)) (hr:¬2<ring) (hm:EK (plc s.1 s.2.1 s.2.2) 0 ps=some y):KW dz fz ring ci ct R [-3]:=by unfold KW;simp only[h];rw[if_neg hr];simp only[hm]
theorem bZ {ring:Int} {R:St3->List Ln->List Sk->List Stop->List Int->Prop} {s:St3} {ps:List Ln} {zs:List Sk} {ds:List Stop} {ans:List Int} (h:GH dz fz ci ct= .ok (s,ps)) (hr:¬2<ring) (hm:EK (plc s.1 s.2.1 s.2.2) 0 ps=none) (n:NtsP s ps zs ds) (r:R s ps zs ds ans):KW dz fz ring ci ct R ans:=by
 unfold KW;simp only[h];rw[if_neg hr];simp only[hm];exact⟨zs,ds,n,r⟩
def TxP (dz fz:Str) (ci ct:List UInt8):Prop:=∀s ps,GH dz fz ci ct= .ok (s,ps)->EK (plc s.1 s.2.1 s.2.2) 0 ps=none->NoteP s.1 s.2.1 s.2.2 ps
theorem b7 {ps:List Ln} {zs:List Sk} (pm:zs.Perm (CZ 0 0 ps)) {s:Sk} (h:s∈zs):s.line<ps.length:=(R8 (pm.mem_iff.mp h)).lt
def RoL (l:List Int):Prop:=∃x:Iv,Lw x/\l=ro x
theorem b8:Ord BH RoL where
 irr:=λ_ ⟨x,h,e⟩=>by rw[e,K8 x x h.1 h.1];exact lt_irrefl h.1
 tr:=λ_ _ _ ⟨x,h1,e1⟩ ⟨y,h2,e2⟩ ⟨z,h3,e3⟩ q1 q2=>by
  rw[e1,e2,K8 x y h1.1 h2.1] at q1;rw[e2,e3,K8 y z h2.1 h3.1] at q2;rw[e1,e3,K8 x z h1.1 h3.1];exact lt_trans h1.1 h2.1 h3.1 q1 q2
 tot:=λ_ _ ⟨x,h1,e1⟩ ⟨y,h2,e2⟩ q1 q2=>by
  rw[e1,e2,K8 x y h1.1 h2.1] at q1;rw[e1,e2,K8 y x h2.1 h1.1] at q2;rw[e1,e2,RZ h1 h2 q1 q2]
theorem b9 {t:Lute.Inst} (h:InO t) {s:Stop} (hp:t.place s.course s.fret=true):B8 (fr3 t).1 (fr3 t).2.1 (fr3 t).2.2 s=ro (t.sounds s.course s.fret):=by
 rw[O9 h hp];show B8 (t.frets.map ro) (t.courses.map ro) (t.basses.map ro) s=_;unfold Lute.Inst.place at hp;simp at hp;obtain⟨h1,h2,h3⟩:=hp;unfold Lute.Inst.opens at h2;rw[bq] at h2;unfold Lute.Inst.many at h3;have gd:∀(l:List Iv) (i:Nat),i<l.length->(l.map ro).getD i []=ro (l.getD i Lute.unison):=λl i hi=>by
  rw[bj,bj,az,aj hi];rfl
 unfold B8;rw[ah];by_cases hc:t.courses.length<s.course
 ·rw[if_pos hc,if_pos hc];exact gd _ _ (by omega)
 ·rw[if_neg hc,if_neg hc];rw[if_pos (by omega)] at h3;by_cases hf:s.fret=0
  ·rw[if_pos hf,if_pos hf];exact gd _ _ (by omega)
  ·rw[if_neg hf,if_neg hf,gd _ _ (by omega),gd _ _ (by omega),aO]
theorem qV {x:Iv} (h:x.ok=true):Sm (ro x):=by
 unfold Lute.Iv.ok at h;simp only[kg,decide_eq_true_eq] at h;obtain⟨h1,h2,h3,h4,h5,h6,_⟩:=h;rw[NN,decide_eq_true_eq] at h1 h2 h3 h4;have h6:x.d<=24:=h6;refine⟨rfl,λk hk=>?_,?_,?_⟩
 ·match k,hk with
  |0,_=>exact h1
  |1,_=>exact h2
  |2,_=>exact h3
  |3,_=>exact h4
 ·show(1:Int)<=(x.d:Int);omega
 ·show(x.d:Int)<=24;omega
theorem QU {t:Lute.Inst} {p:LuteTab.Piece} (k:PcK (p.map CF)):EK (plc (fr3 t).1 (fr3 t).2.1 (fr3 t).2.2) 0 (p.map CF)=none↔LuteSound.fits t p=true:=by
 rw[eH k];unfold LuteSound.misfit LuteSound.fits;rw[ki];cases h:(LuteSound.struck p).find? λs=>!LuteSound.fitsStop t s.halt_ with
 |none=>
  refine⟨λ_ s hs=>?_,λ_=>rfl⟩;have:=kn.mp h s hs;simpa using this
 |some s=>
  refine⟨λq=>(by cases q),λq=>?_⟩;have h1:=q s (ui h);have h2:=xO h;rw[h1] at h2;cases h2
theorem SQ {t:Lute.Inst} {p:LuteTab.Piece} (h:LuteSound.fits t p=true) {s:Sk} (hs:s∈LuteSound.struck p):t.place s.halt_.course s.halt_.fret=true:=ki.mp h s hs
theorem LA {p:LuteTab.Piece} {q:Ln} {s:Stop} (hq:q∈p.map CF) (hs:s∈q.2):∃x∈LuteSound.struck p,x.halt_=s:=by
 obtain⟨i,hi⟩:=lp hq;refine⟨⟨i,uL (p.map CF) i,uL (p.map CF) (i+1),s⟩,?_,rfl⟩;unfold LuteSound.struck;rw[←FQ];exact mem_mStr.mpr ⟨i,q,by simp,hi,hs,by simp,by simp⟩
theorem SR:∀{l:List Stop} (a b:Nat),Z4 l->(∀s∈l,a<=s.course/\s.course<=b)->l.length+a<=b+1\/l=[]
 |[],_,_,_,_=>.inr rfl
 |s::r,a,b,h,hb=>by
  obtain⟨h1,h2⟩:=fx.mp h;have hs:=hb s bb;rcases SR (s.course+1) b h2 (λx hx=>⟨h1 x hx,(hb x (ao _ hx)).2⟩) with q|q
  ·left;rw[cw];omega
  ·left;rw[q];simp;omega
theorem qW {t:Lute.Inst} {p:LuteTab.Piece} (hi:InO t) (k:PcK (p.map CF)) (hf:LuteSound.fits t p=true) (hl:(p.map CF).length<=512):NoteP (fr3 t).1 (fr3 t).2.1 (fr3 t).2.2 (p.map CF):=by
 have pl:∀q∈p.map CF,∀s∈q.2,t.place s.course s.fret=true:=λq hq s hs=>by
  obtain⟨x,hx,e⟩:=LA hq hs;have:=SQ hf hx;rw[e] at this;exact this
 refine⟨λq hq s hs=>?_,k.one,λq hq s hs=>?_,λq hq=>?_,hl⟩
 ·show plc (t.frets.map ro) (t.courses.map ro) (t.basses.map ro) s=true;rw[a8 t s (k.one q hq s hs)];exact pl q hq s hs
 ·rw[b9 hi (pl q hq s hs)];exact qV (X7 hi (pl q hq s hs))
 ·have hb:∀s∈q.2,1<=s.course/\s.course<=14:=λs hs=>⟨k.one q hq s hs,?_⟩
  ·rcases SR 1 14 (k.rise q hq) hb with h|h
   ·omega
   ·rw[h];simp
  ·have:=pl q hq s hs;unfold Lute.Inst.place at this;simp at this;have:=hi.n;omega
theorem WR {s:St3} {ps:List Ln} (h:GH dz0 fz0 ci ct= .ok (s,ps)):Ex3 λt k p=>Lute.readInst ci= .ok t/\LuteTab.read ct= .ok (k,p)/\s=fr3 t/\ps=p.map CF/\ps.length<=512:=by
 unfold GH mTb at h;split at h
 ·cases h
 ·split at h
  ·cases h
  ·rename_i hm;split at h
   ·cases h
   ·rename_i hp;cases h;have hl:=WB hp;rw[NQ] at hm;rw[UK] at hp;cases e1:Lute.readInst ci with
    |error e=>rw[e1] at hm;cases hm
    |ok t=>
     rw[e1] at hm;cases hm;cases e2:LuteTab.read ct with
     |error e=>rw[e2] at hp;cases hp
     |ok y=>
      obtain⟨k,p⟩:=y;rw[e2] at hp;cases hp;exact⟨t,k,p,rfl,rfl,rfl,rfl,hl⟩
theorem txp (ci ct:List UInt8):TxP dz0 fz0 ci ct:=λs ps h hm=>by
 obtain⟨t,k,p,h1,h2,rfl,rfl,hl⟩:=WR h;have hk:=(UM h2).2;exact qW (WQ h1) hk ((QU hk).mp hm) hl
structure Fct (t:Lute.Inst) (p:LuteTab.Piece) (zs:List Sk) (hg:Sk->Nat):Prop where
 i:InO t
 m:dU p
 k:PcK (p.map CF)
 f:LuteSound.fits t p=true
 z:zs=LuteSound.notes t p
 h:aM t p hg
 snd:∀s∈LuteSound.struck p,B8 (fr3 t).1 (fr3 t).2.1 (fr3 t).2.2 s.halt_=ro (LuteSound.tone t s)
theorem sE (a b c a' b' c':Nat):HT.lexLt [((a:Nat):Int),((b:Nat):Int),((c:Nat):Int)] [((a':Nat):Int),((b':Nat):Int),((c':Nat):Int)]=true↔a<a'\/(a=a'/\(b<b'\/(b=b'/\c<c'))):=by
 rw[HT.lexLt_cons,HT.lexLt_cons,HT.lexLt_cons,HT.lexLt_nil_nil];by_cases h1:(a:Int)=a'
 ·rw[if_pos h1];by_cases h2:(b:Int)=b'
  ·rw[if_pos h2];by_cases h3:(c:Int)=c'
   ·rw[if_pos h3];simp;omega
   ·rw[if_neg h3,decide_eq_true_eq];omega
  ·rw[if_neg h2,decide_eq_true_eq];omega
 ·rw[if_neg h1,decide_eq_true_eq];omega
theorem lB {t:Lute.Inst} {kd:LuteTab.Kind} {p:LuteTab.Piece} {zs:List Sk} {ds:List Stop} (h1:Lute.readInst ci= .ok t) (h2:LuteTab.read ct= .ok (kd,p)) (hf:LuteSound.fits t p=true) (n:NtsP (fr3 t) (p.map CF) zs ds):
 Fct t p zs λs=>hgt (B8 (fr3 t).1 (fr3 t).2.1 (fr3 t).2.2) ds (B8 (fr3 t).1 (fr3 t).2.1 (fr3 t).2.2 s.halt_):=by
 have hi:=WQ h1;obtain⟨hm,hk⟩:=UM h2;have snd:∀s∈LuteSound.struck p,B8 (fr3 t).1 (fr3 t).2.1 (fr3 t).2.2 s.halt_=ro (LuteSound.tone t s):=λs hs=>b9 hi (SQ hf hs);have hg:aM t p λs=>hgt (B8 (fr3 t).1 (fr3 t).2.1 (fr3 t).2.2) ds (B8 (fr3 t).1 (fr3 t).2.1 (fr3 t).2.2 s.halt_):=by
  have hR:∀y∈ds.map (B8 (fr3 t).1 (fr3 t).2.1 (fr3 t).2.2),RoL y:=λy hy=>by
   obtain⟨s,hs,rfl⟩:=jx.mp hy;obtain⟨q,hq,hs⟩:=(n.hd s).mp hs;obtain⟨x,hx,rfl⟩:=LA hq hs;exact⟨_,DJ hi.k x,snd x hx⟩
  obtain⟨r1,r2⟩:=aI (d:=[]) b8 hR;have mem:∀s∈LuteSound.struck p,B8 (fr3 t).1 (fr3 t).2.1 (fr3 t).2.2 s.halt_∈rise (ds.map (B8 (fr3 t).1 (fr3 t).2.1 (fr3 t).2.2)):=λs hs=>by
   refine(r1 _).mpr (qe ((n.hd _).mpr ?_));have hs:=hs;unfold LuteSound.struck at hs;rw[←FQ] at hs;obtain⟨q,q1,q2⟩:=(R8 hs).q;exact⟨q,bo q1,q2⟩
  intro a ha b hb;unfold hgt;have:=j0 b8 (λy hy=>hR y ((r1 y).mp hy)) r2 (mem a ha) (mem b hb);rw[show(rise (ds.map (B8 (fr3 t).1 (fr3 t).2.1 (fr3 t).2.2))).idxOf _<(rise (ds.map (B8 (fr3 t).1 (fr3 t).2.1 (fr3 t).2.2))).idxOf _↔_ from this,snd a ha,snd b hb,K8 _ _ (DJ hi.k a).1 (DJ hi.k b).1]
 have pm:zs.Perm (LuteSound.struck p):=by
  unfold LuteSound.struck;rw[←FQ];exact n.pm
 refine⟨hi,hm,hk,hf,UG hi.k hk hg pm (n.pw.imp λ{a b} q z=>?_),hg,snd⟩;unfold JX at q;rw[(sE _ _ _ _ _ _).mpr z] at q;cases q
theorem cA {ring:Nat} {R:St3->List Ln->List Sk->List Stop->List Int->Prop} {f:Lute.Inst->LuteTab.Piece->List Int} {ans:List Int} (ha:KW dz0 fz0 ring ci ct R ans)
 (h:∀t p zs ds,ring<=2->Fct t p zs (λs=>hgt (B8 (fr3 t).1 (fr3 t).2.1 (fr3 t).2.2) ds (B8 (fr3 t).1 (fr3 t).2.1 (fr3 t).2.2 s.halt_))->NtsP (fr3 t) (p.map CF) zs ds->R (fr3 t) (p.map CF) zs ds ans->ans=f t p):ans=LuteD.fitting ci ct ring f:=by
 unfold LuteD.fitting;have e:=a9 (ci:=ci) (ct:=ct) (F:=λs ps=>ans) (f:=λx p=>if 2<ring then LuteD.says (-1) else if LuteSound.fits x p=false then LuteD.says (-3) else f x p);unfold KW at ha;cases hm:GH dz0 fz0 ci ct with
 |error z=>
  rw[hm] at ha;have:=a9 (ci:=ci) (ct:=ct) (F:=λs ps=>match GH dz0 fz0 ci ct with| .error z=>[]| .ok (s,ps)=>[]) (f:=λx p=>if 2<ring then LuteD.says (-1) else if LuteSound.fits x p=false then LuteD.says (-3) else f x p);unfold GH mTb at hm;unfold LuteD.of;by_cases hl:4096<ci.length\/65536<ct.length
  ·rw[if_pos hl] at hm;cases hm;rw[if_pos (show LuteD.INST<ci.length\/LuteD.PIECE<ct.length from hl)];exact ha
  ·rw[if_neg hl,NQ] at hm;rw[if_neg (show¬(LuteD.INST<ci.length\/LuteD.PIECE<ct.length) from hl)];cases hi:Lute.readInst ci with
   |error e=>rw[hi] at hm;cases hm;exact ha
   |ok t=>
    rw[hi] at hm;have hp:=UK ct;cases hr:LuteTab.read ct with
    |error e=>
     rw[hr] at hp;simp only[fe,z4,hp,eF] at hm;cases hm;exact ha
    |ok y=>
     obtain⟨k,p⟩:=y;rw[hr] at hp;simp only[fe,z4,hp,eF] at hm;cases hm
 |ok r=>
  obtain⟨s,ps⟩:=r;simp only[hm] at ha e;obtain⟨t,k,p,h1,h2,rfl,rfl,hl⟩:=WR hm;refine e λt' k' p' g1 g2=>?_;rw[h1] at g1;cases g1;rw[h2] at g2;cases g2;by_cases hr:2<ring
  ·rw[if_pos (by omega)] at ha;rw[if_pos hr];exact ha
  ·rw[if_neg (by omega)] at ha;rw[if_neg hr];have hk:=(UM h2).2;cases hf:LuteSound.fits t p with
   |false=>
    rw[if_pos rfl];cases hmm:EK (plc (fr3 t).1 (fr3 t).2.1 (fr3 t).2.2) 0 (p.map CF) with
    |none=>rw[(QU hk).mp hmm] at hf;cases hf
    |some y=>rw[hmm] at ha;exact ha
   |true=>
    rw[if_neg (by decide)];rw[(QU hk).mpr hf] at ha;obtain⟨zs,ds,n,r⟩:=ha;exact h t p zs ds (by omega) (lB h1 h2 hf n) n r
section
variable {P:aw} {w:bv} {K:aa} {mg:Str->Option ag} {base:Heap}
theorem N6:FnScope ["self"] ["self"] (AH DU):={}
theorem N7 {fR:Addr} {fdR:du} (F:Fun K "__init__" "NoSuchNote.__init__" DU f fd) (R:RfI P w K mg base CR fR fdR) (xc:XCls K C) (na:NoAttr K C "answer"):FnOkU P w K mg base (CX1 P w) 2 f fd ["self"] (IF C (-4)):=by
 refine F.oku N6 λcdv A outer s H vs Q E hr h=>?_;obtain⟨a,rfl,ea,k⟩:=h;refine⟨_,AC (AY (HV (mc:=.type "type") (by rfl) R.mgR R.sp R.rd R.fc R.kp R.ok hr R.bd out_cxU.passes (AA (pv 0) (AA (GX EM AI) AF)))),?_⟩
 subst_eqs
 exact⟨_,rfl,_,rfl,a,C, -4,rfl,ea,xc,na,λH' hb'=>k H' hb'⟩
end
open PySem PySem.Spec PyProof.Rows L2
def qX (K:aa) (C4:Addr):Sp:=λvs H Q E=>Ex3 λ(na:Addr) (xs:List V) (k:Nat)=>vs=[.ref na,.int (k:Nat)]/\SqL K H na xs/\(match xs[k]? with
 |none=>E (.ref C4) none (xH [("answer",.int (-4))])
 |some v=>Q v H)
def PB (ring k:Nat) (s:St3) (ps:List Ln) (zs:List Sk) (_:List Stop) (ans:List Int):Prop:=match zs[k]? with
 |none=>ans=[-4]
 |some x=>ans=[((x.begins:Nat):Int),((uL ps (mEL ring ps x.line x.halt_.course):Nat):Int),((x.line:Nat):Int),((x.halt_.course:Nat):Int),((x.halt_.fret:Nat):Int)]++B8 s.1 s.2.1 s.2.2 x.halt_
def NU (K:aa) (PT:Addr) (dz fz:Str):Sp:=λvs H Q _=>Ex6 λ(ring k:Nat) (ia ta:Addr) (ci ct:List UInt8)=>vs=[.int (ring:Nat),.int (k:Nat),.ref ia,.ref ta]/\SqL K H ia (ci.map cV)/\SqL K H ta (ct.map cV)/\ct.length<=100000/\LmT H PT/\TxP dz fz ci ct/\
 ∀ans,KW dz fz ring ci ct (PB ring k) ans->∀H' l,H' l=some (.lst (ans.map V.int))->Q (.ref l) H'
section
variable {P:aw} {w:bv} {K:aa} {mg:Str->Option ag} {base:Heap} {CI CL CN CB CR C4 PT:Addr} {cl:Int->Addr} {dz fz:Str}
theorem lC:FnScope ["notes","k"] ["notes","k"] (AH KF):={}
theorem lD (F:Fun K "note_of" "note_of" KF f fd) (B:Blt mg) (X4:XMr P w K mg base 2 C4 "NoSuchNote" ["self"] (IF C4 (-4))):FnOk P w K mg base (CX1 P w) 4 f fd ["notes","k"] (qX K C4):=by
 refine F.okx lC λcdv A outer s H vs Q E hr h=>?_;obtain⟨na,xs,n,rfl,hx,k⟩:=h;refine⟨_,(AB (AW (AO eZ (pv 1) (AZ AN (by rfl) B.len cr (AA (pv 0) AF)) (AQ _)) (AC (G6 AD rfl (X4.call0 hr.u AD))) AM)
  (AC (AJ (BI B9 (pv 0) (pv 1) (λ_ _=>rfl))))),?_⟩
 and_intros
 refine⟨_,rfl,_,rfl,na,xs,rfl,.inl hx,_,_,rfl,rfl,_,rfl,B7 (λh0=>?_) (λh0=>?_)⟩
 ·have h1:xs.length<=n:=by
   have:(xs.length:Int)<=((n:Nat):Int):=by simpa using h0
   omega
  rw[sH h1] at k;exact⟨by show 0<=100;decide,λa ha=>⟨a,rfl,upd_same,λH4 ⟨⟨d,dn,d0,e1,e2⟩,_⟩=>⟨rfl,a,C4,_,rfl,⟨d,dn,e1,e2⟩,X4.2.1,k⟩⟩⟩
 ·have h1:n<xs.length:=by
   have:¬(xs.length:Int)<=((n:Nat):Int):=by simpa using h0
   omega
  rw[aj h1] at k;exact⟨_,rfl,_,rfl,na,xs,_,_,rfl,rfl,hx,DH (aj h1),k⟩
theorem sc_note:FnScope ["ring","k","i","t","tablature","found","refusal","ends"] ["ring","k","i","t"] (AH P0):={}
theorem eV (F:Fun K "note" "note" P0 f fd) (B:Blt mg) (T:TbC K CB) (TN:NtC K CN) (hmR:mg "Refusal"=some (.ref CR)) (RC:RfC K CR cl [-1, -2, -3, -4, -6, -8])
 (D1:Def P w K mg base 15 "read_tablature" ["i","t"] (dR K CI CL CB cl (GH dz fz))) (D2:Def P w K mg base 4 "check_ring" ["ring"] (bX (cl (-1)))) (D3:Def P w K mg base 7 "fitting_notes" ["tablature"] (qR P w K CI CL CB (cl (-3)) CN PT))
 (D4:Def P w K mg base 4 "note_of" ["notes","k"] (qX K (cl (-4)))) (D5:Def P w K mg base 3 "ends_of" ["notes","lines","ring"] (qQ K CL CN)):
 FnOk P w K mg base (CX1 P w) 16 f fd ["ring","k","i","t"] (NU K PT dz fz):=by
 refine F.okx sc_note λcdv A outer s H vs Q E hr h=>?_;obtain⟨ring,n,ia,ta,ci,ct,rfl,hi,ht,hct,LM,hP,k⟩:=h;refine⟨_,(AB (TD (Eb:=EbP cl [-1, -2, -3, -4, -6, -8] (KW dz fz ring ci ct (PB ring n))) rfl rfl (λpn E' o=>(AB (AX 4 sc_note (D1.call hr o (AA (pv 2) (AA (pv 3) AF))))
  (AB (AY (D2.call hr o (AA (pv 0) AF)))
  (AC (AX 5 sc_note (D4.call hr o (AA (D3.call hr o (AA (pv 4) AF)) (AA (pv 1) AF))))))))
  (W6 (i:=6) (by rfl) hmR sc_note.nd rfl rfl (λa E'=>(AC (AJ (DK (AA (aD K (pv 6)) AF))))) TC))
  (AB (AX 7 sc_note (D5.call hr AD (AA (DK (AA (pv 5) AF)) (AA (AR (pv 4) rfl) (AA (pv 0) AF)))))
  (AC (AJ (BC hG (DK (AA (AR (pv 5) rfl) (AA (BI B9 (pv 7) AI (λ_ _=>rfl)) (AA (AR (pv 5) rfl) (AA (AR (pv 5) rfl) (AA (AR (pv 5) rfl) AF)))))) (HS PN (by rfl) B.list NT (AA (AR (pv 5) rfl) AF))))))),?_⟩
 and_intros
 refine⟨⟨V.ref ia,rfl,V.ref ta,rfl,ia,ta,ci,ct,rfl,hi,ht,hct,?_⟩,λa C' fs cx σ' H1 nt eb hl=>k6 RC eb (by rw[hl];show 6<8;decide) k _⟩;cases hm:GH dz fz ci ct with
 |error z=>exact ebp (eU hm (by simp)) (k8 hm)
 |ok r=>
  obtain⟨st,ps⟩:=r;intro H1 x s1 TB;refine⟨_,rfl,_,rfl,?_⟩;by_cases hr2:(2:Int)<((ring:Nat):Int)
  ·rw[if_pos hr2];exact ebp (by simp) (k9 hm hr2) _
  ·rw[if_neg hr2];refine⟨_,rfl,x,st,ps,rfl,TB,LamTbl.same s1 LM,?_⟩;cases hf:EK (plc st.1 st.2.1 st.2.2) 0 ps with
   |some y=>
    obtain⟨l,c⟩:=y;exact⟨-3,_,rfl,by simp,rfl,rfl,lA hm hr2 hf⟩
   |none=>
    have NP:=hP st ps hm hf;refine⟨NP,λH2 na zs ds st2 LM2 hds pm pw NA=>?_⟩;have nts:NtsP st ps zs ds:=⟨hds,pm,pw⟩
    obtain⟨as,a1,a2⟩:=id NA;have la:as.length=zs.length:=cf a2;refine⟨_,rfl,na,_,n,rfl,SqL.of a1,?_⟩;rw[az];cases ez:zs[n]? with
    |none=>
     have:as[n]? =none:=by rw[List.getElem?_eq_none_iff] at ez ⊢;omega
     rw[this];exact ebp (by simp) (bZ hm hr2 hf nts (by unfold PB;rw[ez])) _
    |some sk=>
     have hn:n<as.length:=by have:=(au.mp ez).1;omega
     rw[aj hn];obtain⟨sk',e1,nt⟩:=BD a2 (aj hn);have:sk'=sk:=by rw[ez] at e1;exact(cp e1).symm
     subst this;have hr':ring<=2:=by omega
     have TB2:=TB.st st2;obtain⟨⟨dx,xa,af,ac,ab,al,h1,I1,L2⟩,le⟩:=TB2;obtain⟨dn,ja,h2,h3⟩:=id nt;refine⟨_,rfl,(by rw[bw];show 1<=16777216;decide),λp hp=>?_⟩;have sp:Same H2 (upd H2 p (.lst [V.ref as[n]])):=Same.upd hp;refine⟨_,rfl,x,CB,dx,_,_,rfl,sp _ _ h1,T.cl,T.nl,aE _ _,_,rfl,_,_,p,al,[sk'],ps,ring,rfl,⟨[as[n]],upd_same,.cons (nt.st sp.st) .nil⟩,L2.same sp,λs hs=>?_,le,by show 1<=100000;decide,hr',λH3 ea s3 ne3 h3e=>?_⟩
     ·rw[gq.mp hs];exact b7 pm (bo ez)
     have s23:=sp.trans s3;have n3:=s23 _ _ h2;refine⟨_,rfl,as[n],CN,dn,_,_,rfl,n3,TN.cl,TN.nb,gD _ _ _ _ _ _,_,rfl,ea,_,0,_,rfl,rfl,SqL.of h3e,rfl,_,rfl,as[n],CN,dn,_,_,rfl,n3,TN.cl,TN.nl,bR _ _ _ _ _ _,_,rfl,as[n],CN,dn,_,_,rfl,n3,TN.cl,TN.nc,bS _ _ _ _ _ _,_,rfl,as[n],CN,dn,_,_,rfl,n3,TN.cl,TN.nf,qJ _ _ _ _ _ _,(by rw[bw];show 5<=16777216;decide),λq hq=>?_⟩;have s4:=s23.trans (Same.upd (o:=.lst [V.int ((sk'.begins:Nat):Int),V.int ((uL ps (mEL ring ps sk'.line sk'.halt_.course):Nat):Int),V.int ((sk'.line:Nat):Int),V.int ((sk'.halt_.course:Nat):Int),V.int ((sk'.halt_.fret:Nat):Int)]) hq);refine⟨_,rfl,as[n],CN,dn,_,_,rfl,s4 _ _ h2,TN.cl,TN.ni,qK _ _ _ _ _ _,ja,_,rfl,.inr (s4.tup h3),λl hl=>?_⟩;have ql:q≠l:=λe=>by rw[←e,upd_same] at hl;cases hl
     refine⟨q,l,_,_,rfl,rfl,(by rw[AE ql,upd_same]),upd_same,?_,λz hz=>k _ (bZ hm hr2 hf nts (by unfold PB;rw[ez])) _ z (by rw[upd_same,dm];rfl)⟩;rw[ah,(NP.sm _ (bo (R8 (pm.mem_iff.mp (bo ez))).q.choose_spec.1) _ (R8 (pm.mem_iff.mp (bo ez))).q.choose_spec.2).1,bw];show 10<=16777216;decide
end
open PySem PySem.Spec PyProof.Rows L2
theorem cB {ring k:Nat} {ans:List Int} (h:KW dz0 fz0 ring ci ct (PB ring k) ans):ans=LuteD.answer (.note ci ct ring k):=by
 refine cA h λt p zs ds hr F n r=>?_;unfold PB at r;rw[F.z] at r;cases hk:(LuteSound.notes t p)[k]? with
 |none=>rw[hk] at r;exact r
 |some s=>
  rw[hk] at r;have hs:s∈LuteSound.struck p:=(NM p).mem_iff.mp (bo hk);rw[r, ←dW F.m F.k hs hr,F.snd s hs];rfl
def GFn (K:aa) (mg:Str->Option ag) (x nm:Str) (st:Stmt):Prop:=∃f fd,mg x=some (.ref f)/\Fun K nm nm st f fd
def GMt (K:aa) (C:Addr) (m qual:Str) (st:Stmt):Prop:=∃f fd,Meth K C m f/\Fun K m qual st f fd
def GMk (K:aa) (C:Addr) (qual:Str) (st:Stmt):Prop:=∃f fd,Mk K C f/\Fun K "__init__" qual st f fd
def GXk (K:aa) (C:Addr) (qual:Str) (st:Stmt):Prop:=∃f fd,XMk K C f/\Fun K "__init__" qual st f fd
structure Rf1 (K:aa) (mg:Str->Option ag) (CR C:Addr) (x qual:Str) (st:Stmt):Prop where
 m:mg x=some (.ref C)
 r:mr K (.ref C) (.ref CR)=some true
 x:XCls K C
 a:NoAttr K C "answer"
 i:GXk K C qual st
theorem eW {K:aa} {cl:Int->Addr}:RfC K CR cl []:=⟨λ_ h=>(nomatch h),λ_ h=>(nomatch h),λ_ h=>(nomatch h)⟩
theorem GK {K:aa} {mg:Str->Option ag} {cl:Int->Addr} {z:Int} {Z:List Int} {x q:Str} {st:Stmt} (h:Rf1 K mg CR (cl z) x q st) (r:RfC K CR cl Z):RfC K CR cl (z::Z):=
 ⟨λy hy=>(bp.mp hy).elim (λe=>e▸h.r) (r.r y),λy hy=>(bp.mp hy).elim (λe=>e▸h.x) (r.x y),λy hy=>(bp.mp hy).elim (λe=>e▸h.a) (r.a y)⟩
structure TxF (K:aa) (mg:Str->Option ag):Prop where
 common_factor:GFn K mg "common_factor" "common_factor" EO
 common_factor_of_all:GFn K mg "common_factor_of_all" "common_factor_of_all" CA
 is_interval:GFn K mg "is_interval" "is_interval" FT
 upon:GFn K mg "upon" "upon" IT
 raised:GFn K mg "raised" "raised" M6
 narrower:GFn K mg "narrower" "narrower" IU
 place_among:GFn K mg "place_among" "place_among" FU
 ranks:GFn K mg "ranks" "ranks" PZ
 sign_number:GFn K mg "sign_number" "sign_number" FW
 read_interval:GFn K mg "read_interval" "read_interval" EQ
 read_unison:GFn K mg "read_unison" "read_unison" F2
 read_factors:GFn K mg "read_factors" "read_factors" FA
 power_of_factor:GFn K mg "power_of_factor" "power_of_factor" DV
 read_power:GFn K mg "read_power" "read_power" GO
 read_signed:GFn K mg "read_signed" "read_signed" F3
 read_instrument:GFn K mg "read_instrument" "read_instrument" DY
 read_length_instruments:GFn K mg "read_length_instruments" "read_length" BW
 read_line_instruments:GFn K mg "read_line_instruments" "read_line" B6
 read_fret:GFn K mg "read_fret" "read_fret" G8
 read_course:GFn K mg "read_course" "read_course" F4
 read_bass:GFn K mg "read_bass" "read_bass" G9
 skip_word:GFn K mg "skip_word" "skip_word" HA
 read_rest:GFn K mg "read_rest" "read_rest" HB
 check_fit:GFn K mg "check_fit" "check_fit" HD
 beginnings:GFn K mg "beginnings" "beginnings" GP
 sounds_of:GFn K mg "sounds_of" "sounds_of" HE
 end_line:GFn K mg "end_line" "end_line" IV
 ends_of:GFn K mg "ends_of" "ends_of" GE
 read_french_stops:GFn K mg "read_french_stops" "read_french_stops" DC
 read_italian_stops:GFn K mg "read_italian_stops" "read_italian_stops" CS
 read_german_stops:GFn K mg "read_german_stops" "read_german_stops" DD
 read_neck:GFn K mg "read_neck" "read_neck" HF
 add_stop:GFn K mg "add_stop" "add_stop" IW
 read_french_bass:GFn K mg "read_french_bass" "read_french_bass" DN
 read_bass_number:GFn K mg "read_bass_number" "read_bass_number" DO
 read_german_stop:GFn K mg "read_german_stop" "read_german_stop" DP
 read_crossing:GFn K mg "read_crossing" "read_crossing" ER
 read_piece:GFn K mg "read_piece" "read_piece" GQ
 read_kind:GFn K mg "read_kind" "read_kind" HH
 read_line_pieces:GFn K mg "read_line_pieces" "read_line" DQ
 read_length_pieces:GFn K mg "read_length_pieces" "read_length" CU
 read_stops:GFn K mg "read_stops" "read_stops" GR
 read_tablature:GFn K mg "read_tablature" "read_tablature" EB
 tablature_of:GFn K mg "tablature_of" "tablature_of" FC
 check_sizes:GFn K mg "check_sizes" "check_sizes" F6
 instrument_of:GFn K mg "instrument_of" "instrument_of" ES
 piece_of:GFn K mg "piece_of" "piece_of" IX
 check_ring:GFn K mg "check_ring" "check_ring" GU
 fitting_notes:GFn K mg "fitting_notes" "fitting_notes" ET
 note_of:GFn K mg "note_of" "note_of" KF
structure TxG (K:aa) (mg:Str->Option ag):Prop where
 B:Blt mg
 b_sorted:mg "sorted"=none
 WIDEST_POWER:GI mg "WIDEST_POWER" 99
 FINEST_PART:GI mg "FINEST_PART" 24
 NO_BYTE:GI mg "NO_BYTE" 256
 MOST_DIGITS:GI mg "MOST_DIGITS" ((4:Nat):Int)
 LEAST_LENGTH:GI mg "LEAST_LENGTH" 10000
 GREATEST_LENGTH:GI mg "GREATEST_LENGTH" 200000
 LENGTH_DIGITS:GI mg "LENGTH_DIGITS" ((7:Nat):Int)
 MOST_FRETS:GI mg "MOST_FRETS" 15
 MOST_STRINGS:GI mg "MOST_STRINGS" 14
 LINE_FEED:GI mg "LINE_FEED" 10
 RING_MOMENT:GI mg "RING_MOMENT" 0
 RING_BAR:GI mg "RING_BAR" 2
 NECK_COURSES:GI mg "NECK_COURSES" 6
 FIRST_BASS:GI mg "FIRST_BASS" 7
 MOST_CROSSING_BYTES:GI mg "MOST_CROSSING_BYTES" 3
 MOST_LINES:GI mg "MOST_LINES" 512
 FRENCH:GI mg "FRENCH" 0
 ITALIAN:GI mg "ITALIAN" 1
 MOST_INSTRUMENT_BYTES:GI mg "MOST_INSTRUMENT_BYTES" 4096
 MOST_PIECE_BYTES:GI mg "MOST_PIECE_BYTES" 65536
 MOST_RING:GI mg "MOST_RING" 2
 DIGITS:GS mg "DIGITS" dz0
 FACTORS:GS mg "FACTORS" fz0
 FRENCH_FRETS:GS mg "FRENCH_FRETS" zF
 FRENCH_LOWEST:GS mg "FRENCH_LOWEST" "4567"
 ITALIAN_FRETS:GS mg "ITALIAN_FRETS" zI
 GERMAN_UNSTOPPED:GS mg "GERMAN_UNSTOPPED" "54321"
 GERMAN_SIXTH:GS mg "GERMAN_SIXTH" zP
 GERMAN_CROSSINGS:GS mg "GERMAN_CROSSINGS" zX
 LENGTH_SIGNS:GS mg "LENGTH_SIGNS" zL
 PRIMES:GT K mg "PRIMES" (prm.map V.int)
 UNISON:GT K mg "UNISON" (un5.map V.int)
 LENGTHS:GT K mg "LENGTHS" (lens.map V.int)
 KIND_WORDS:GT K mg "KIND_WORDS" (kws.map V.str)
structure TxR (K:aa) (mg:Str->Option ag) (C:Addr):Prop where
 m:mg "Reader"=some (.ref C)
 T:RdC K C
 i:GMk K C "Reader.__init__" FX
 en:GMt K C "ended" "Reader.ended" E9
 by_:GMt K C "byte" "Reader.byte" FY
 se:GMt K C "sees" "Reader.sees" FZ
 pi:GMt K C "pick" "Reader.pick" F0
 sk:GMt K C "skip" "Reader.skip" F1
 wn:GMt K C "whole_number" "Reader.whole_number" CK
structure TxI (K:aa) (mg:Str->Option ag) (C:Addr):Prop where
 m:mg "Instrument"=some (.ref C)
 T:InC K C
 i:GMk K C "Instrument.__init__" DW
 sc:GMt K C "string_count" "Instrument.string_count" BV
 hp:GMt K C "has_place" "Instrument.has_place" CC
 so:GMt K C "sound" "Instrument.sound" DM
structure TxL (K:aa) (mg:Str->Option ag) (C:Addr):Prop where
 m:mg "Line"=some (.ref C)
 T:LnC K C
 i:GMk K C "Line.__init__" HG
 ib:GMt K C "is_bar" "Line.is_bar" F5
 st:GMt K C "strikes" "Line.strikes" FB
structure TxB_ (K:aa) (mg:Str->Option ag) (C:Addr):Prop where
 m:mg "Tablature"=some (.ref C)
 T:TbC K C
 i:GMk K C "Tablature.__init__" EA
structure TxN (K:aa) (mg:Str->Option ag) (C:Addr):Prop where
 m:mg "Note"=some (.ref C)
 T:NtC K C
 i:GMk K C "Note.__init__" HC
structure TxX (K:aa) (mg:Str->Option ag) (CT CR C1 C2 C3 C4 C6 C8:Addr):Prop where
 mT:mg "TextFault"=some (.ref CT)
 mR:mg "Refusal"=some (.ref CR)
 xT:XCls K CT
 aT:NoAttr K CT "place"
 eT:mr K (.ref CT) (.ref CT)=some true
 iT:GXk K CT "TextFault.__init__" D9
 r1:Rf1 K mg CR C1 "NoSuchChoice" "NoSuchChoice.__init__" DA
 r2:Rf1 K mg CR C2 "TooLong" "TooLong.__init__" E7
 r3:Rf1 K mg CR C3 "Misfit" "Misfit.__init__" FV
 r4:Rf1 K mg CR C4 "NoSuchNote" "NoSuchNote.__init__" DU
 r6:Rf1 K mg CR C6 "NoInstrument" "NoInstrument.__init__" DB
 r8:Rf1 K mg CR C8 "NoPiece" "NoPiece.__init__" E8
 lm:NoAttr K C3 "line"
 cm:NoAttr K C3 "course"
 sp:uo K (.ref CR) "__getattribute__"=some (some (.builtin "type.__getattribute__"))
 rd:vk K CR (.type "type")=true
 fc:∃f fd,qv K (.ref CR) (.type "type") "__init__"=some (.val (.ref f))/\Fun K "__init__" "Refusal.__init__" E6 f fd
section
variable {P:aw} {w:bv} {K:aa} {mg:Str->Option ag} {base:Heap}
abbrev Bd (x qual:Str) (st:Stmt) (ps:List Str):Prop:=∀(kV doc pm:ag) (an:Option Addr) (cdv ct:ag) (us:List ag),us.length=ps.length->vE (gj x qual (DI st) (BR st) (AH st) .none kV doc pm an cdv ct) ⟨us,[]⟩=pure (ps.zip us)
theorem AT {k:Nat} {x nm:Str} {st:Stmt} {sp:Sp} (h:GFn K mg x nm st) (hb:Bd nm nm st ps) (ok:∀f fd,Fun K nm nm st f fd->FnOk P w K mg base (CX1 P w) k f fd ps sp):Def P w K mg base k x ps sp:=
 let ⟨f,fd,hm,F⟩:=h;⟨f,fd,hm,F.kp,F.binds hb,ok f fd F⟩
theorem FH {k:Nat} {m qual:Str} {st:Stmt} {sp:Sp} (c:Cls K C) (h:GMt K C m qual st) (hb:Bd m qual st ps) (ok:∀f fd,Fun K m qual st f fd->FnOk P w K mg base (CX1 P w) k f fd ps sp):Mth P w K mg base k C m ps sp:=
 let ⟨f,fd,hm,F⟩:=h;⟨c,f,fd,hm,F.binds hb,ok f fd F⟩
theorem NV {k:Nat} {x qual:Str} {st:Stmt} {sp:Sp} (hx:mg x=some (.ref C)) (h:GMk K C qual st) (hb:Bd "__init__" qual st ps) (ok:∀f fd,Fun K "__init__" qual st f fd->FnOk P w K mg base (CX1 P w) k f fd ps sp):Mkr P w K mg base k C x ps sp:=
 let ⟨f,fd,hm,F⟩:=h;⟨hx,f,fd,hm,F.binds hb,ok f fd F⟩
theorem JE {k:Nat} {x qual:Str} {st:Stmt} {sp:Sp} (hx:mg x=some (.ref C)) (c:XCls K C) (h:GXk K C qual st) (hb:Bd "__init__" qual st ps) (ok:∀f fd,Fun K "__init__" qual st f fd->FnOkU P w K mg base (CX1 P w) k f fd ps sp):XMr P w K mg base k C x ps sp:=
 let ⟨f,fd,hm,F⟩:=h;⟨hx,c,f,fd,hm,F.binds hb,ok f fd F⟩
theorem lE {CR0 CB C1 C2 C3 C4 C6 C8 fN cN PT:Addr} {fdN:du} (F:TxF K mg) (G:TxG K mg) (R:TxR K mg CR0) (I:TxI K mg CI) (L:TxL K mg CL) (B_:TxB_ K mg CB) (N:TxN K mg CN) (X:TxX K mg CT CR C1 C2 C3 C4 C6 C8) (LN:LmF K mg fN fdN cN PT) (BB:NR mg base) (CH:ue base cN PT) (Ff:Fun K "note" "note" P0 f fd):
 FnOk P w K mg base (CX1 P w) 16 f fd ["ring","k","i","t"] (NU K PT dz0 fz0):=by
 have B:=G.B;have d_cf:=AT (P:=P) (w:=w) (base:=base) F.common_factor (λ_ _ _ _ _ _ us hl=>match us,hl with|[_,_],_=>rfl) λf fd h=>mG h B;have d_cfa:=AT (P:=P) (w:=w) (base:=base) F.common_factor_of_all (λ_ _ _ _ _ _ us hl=>match us,hl with|[_],_=>rfl) λf fd h=>iH h d_cf;have d_ii:=AT (P:=P) (w:=w) (base:=base) F.is_interval (λ_ _ _ _ _ _ us hl=>match us,hl with|[_],_=>rfl) λf fd h=>mH h B G.WIDEST_POWER G.FINEST_PART d_cfa;have d_up:=AT (P:=P) (w:=w) (base:=base) F.upon (λ_ _ _ _ _ _ us hl=>match us,hl with|[_,_],_=>rfl) λf fd h=>mI h B d_cfa;have d_ra:=AT (P:=P) (w:=w) (base:=base) F.raised (λ_ _ _ _ _ _ us hl=>match us,hl with|[_,_],_=>rfl) λf fd h=>mK h;have d_nr:=AT (P:=P) (w:=w) (base:=base) F.narrower (λ_ _ _ _ _ _ us hl=>match us,hl with|[_,_],_=>rfl) λf fd h=>mL h B G.PRIMES d_ra;have X1:TFm P w K mg base CT:=JE X.mT X.xT X.iT (λ_ _ _ _ _ _ us hl=>match us,hl with|[_,_],_=>rfl) λf fd h=>mP h X.xT X.aT;obtain⟨fR,fdR,hfR,FR⟩:=X.fc;have RI:RfI P w K mg base CR fR fdR:=⟨X.mR,X.sp,X.rd,hfR,FR.kp,FR.binds (λ_ _ _ _ _ _ us hl=>match us,hl with|[_,_],_=>rfl),mS FR⟩
 have XM:XMr P w K mg base 2 C3 "Misfit" ["self","line","course"] (iJ C3):=JE X.r3.m X.r3.x X.r3.i (λ_ _ _ _ _ _ us hl=>match us,hl with|[_,_,_],_=>rfl) λf fd h=>mV h RI X.r3.x X.r3.a X.lm X.cm;have X1_:XMr P w K mg base 2 C1 "NoSuchChoice" ["self"] (IF C1 (-1)):=JE X.r1.m X.r1.x X.r1.i (λ_ _ _ _ _ _ us hl=>match us,hl with|[_],_=>rfl) λf fd h=>LQ h RI X.r1.x X.r1.a;have X2:XMr P w K mg base 2 C2 "TooLong" ["self"] (IF C2 (-2)):=JE X.r2.m X.r2.x X.r2.i (λ_ _ _ _ _ _ us hl=>match us,hl with|[_],_=>rfl) λf fd h=>TU h RI X.r2.x X.r2.a;have X4:XMr P w K mg base 2 C4 "NoSuchNote" ["self"] (IF C4 (-4)):=JE X.r4.m X.r4.x X.r4.i (λ_ _ _ _ _ _ us hl=>match us,hl with|[_],_=>rfl) λf fd h=>N7 h RI X.r4.x X.r4.a;have X6:XMr P w K mg base 2 C6 "NoInstrument" ["self"] (IF C6 (-6)):=JE X.r6.m X.r6.x X.r6.i (λ_ _ _ _ _ _ us hl=>match us,hl with|[_],_=>rfl) λf fd h=>LH h RI X.r6.x X.r6.a;have X8:XMr P w K mg base 2 C8 "NoPiece" ["self"] (IF C8 (-8)):=JE X.r8.m X.r8.x X.r8.i (λ_ _ _ _ _ _ us hl=>match us,hl with|[_],_=>rfl) λf fd h=>TW h RI X.r8.x X.r8.a;have d_sn:=AT (P:=P) (w:=w) (base:=base) F.sign_number (λ_ _ _ _ _ _ us hl=>match us,hl with|[_,_],_=>rfl) λf fd h=>mW h B;have m_en:=FH (P:=P) (w:=w) (mg:=mg) (base:=base) R.T.cl R.en (λ_ _ _ _ _ _ us hl=>match us,hl with|[_],_=>rfl) λf fd h=>m9 h R.T;have m_by:=FH (P:=P) (w:=w) (mg:=mg) (base:=base) R.T.cl R.by_ (λ_ _ _ _ _ _ us hl=>match us,hl with|[_],_=>rfl) λf fd h=>nB h R.T G.NO_BYTE m_en;have m_se:=FH (P:=P) (w:=w) (mg:=mg) (base:=base) R.T.cl R.se (λ_ _ _ _ _ _ us hl=>match us,hl with|[_,_],_=>rfl) λf fd h=>nF h d_sn m_by;have m_pi:=FH (P:=P) (w:=w) (mg:=mg) (base:=base) R.T.cl R.pi (λ_ _ _ _ _ _ us hl=>match us,hl with|[_,_],_=>rfl) λf fd h=>nG h R.T X1 d_sn m_by;have m_sk:=FH (P:=P) (w:=w) (mg:=mg) (base:=base) R.T.cl R.sk (λ_ _ _ _ _ _ us hl=>match us,hl with|[_,_],_=>rfl) λf fd h=>nJ h m_pi;have m_wn:=FH (P:=P) (w:=w) (mg:=mg) (base:=base) R.T.cl R.wn (λ_ _ _ _ _ _ us hl=>match us,hl with|[_,_],_=>rfl) λf fd h=>nL h R.T X1 G.DIGITS (oks (by decide +kernel)) m_pi m_se;have k_r:Mkr P w K mg base 1 CR0 "Reader" ["self","text","place","end"] (iL CR0):=NV R.m R.i (λ_ _ _ _ _ _ us hl=>match us,hl with|[_,_,_,_],_=>rfl) λf fd h=>mZ h R.T;have RE:RdE P w K mg base CR0 CT dz0:=⟨R.T,X1,k_r,m_en,m_by,m_se,m_pi,m_sk,m_wn⟩
 have d_un:=AT (P:=P) (w:=w) (base:=base) F.read_unison (λ_ _ _ _ _ _ us hl=>match us,hl with|[_],_=>rfl) λf fd h=>nU h RE G.UNISON;have d_sg:=AT (P:=P) (w:=w) (base:=base) F.read_signed (λ_ _ _ _ _ _ us hl=>match us,hl with|[_],_=>rfl) λf fd h=>nX h RE G.MOST_DIGITS;have d_pw:=AT (P:=P) (w:=w) (base:=base) F.read_power (λ_ _ _ _ _ _ us hl=>match us,hl with|[_,_],_=>rfl) λf fd h=>nY h RE G.MOST_DIGITS d_sg d_cf;have d_pf:=AT (P:=P) (w:=w) (base:=base) F.power_of_factor (λ_ _ _ _ _ _ us hl=>match us,hl with|[_,_],_=>rfl) λf fd h=>n8 h B;have d_fc:=AT (P:=P) (w:=w) (base:=base) F.read_factors (λ_ _ _ _ _ _ us hl=>match us,hl with|[_],_=>rfl) λf fd h=>n9 h RE G.UNISON G.FACTORS (oks (by decide +kernel)) (by decide +kernel) (by decide +kernel) d_pw d_pf d_up;have d_riv:=AT (P:=P) (w:=w) (base:=base) F.read_interval (λ_ _ _ _ _ _ us hl=>match us,hl with|[_,_,_],_=>rfl) λf fd h=>iS h RE d_un d_fc d_ii;have d_rr:=AT (P:=P) (w:=w) (base:=base) F.read_rest (λ_ _ _ _ _ _ us hl=>match us,hl with|[_],_=>rfl) λf fd h=>oA h RE G.LINE_FEED d_riv;have d_sw:=AT (P:=P) (w:=w) (base:=base) F.skip_word (λ_ _ _ _ _ _ us hl=>match us,hl with|[_,_,_],_=>rfl) λf fd h=>oC h RE;have m_sc:=FH (P:=P) (w:=w) (mg:=mg) (base:=base) I.T.cl I.sc (λ_ _ _ _ _ _ us hl=>match us,hl with|[_],_=>rfl) λf fd h=>i0 h B I.T;have m_hp:=FH (P:=P) (w:=w) (mg:=mg) (base:=base) I.T.cl I.hp (λ_ _ _ _ _ _ us hl=>match us,hl with|[_,_,_],_=>rfl) λf fd h=>oO h B I.T m_sc;have k_i:Mkr P w K mg base 1 CI "Instrument" ["self"] (ZV CI):=NV I.m I.i (λ_ _ _ _ _ _ us hl=>match us,hl with|[_],_=>rfl) λf fd h=>iY h I.T;have IE:InE P w K mg base CR0 CI CT dz0 fz0:=⟨RE,B,I.T,G.UNISON,m_sc,d_sw,d_rr,d_nr,d_ii,d_up⟩
 have d_fr:=AT (P:=P) (w:=w) (base:=base) F.read_fret (λ_ _ _ _ _ _ us hl=>match us,hl with|[_,_],_=>rfl) λf fd h=>oE h IE G.MOST_FRETS;have d_co:=AT (P:=P) (w:=w) (base:=base) F.read_course (λ_ _ _ _ _ _ us hl=>match us,hl with|[_,_],_=>rfl) λf fd h=>oF h IE G.MOST_STRINGS;have d_ba:=AT (P:=P) (w:=w) (base:=base) F.read_bass (λ_ _ _ _ _ _ us hl=>match us,hl with|[_,_],_=>rfl) λf fd h=>oH h IE G.MOST_STRINGS;have d_ln:=AT (P:=P) (w:=w) (base:=base) F.read_line_instruments (λ_ _ _ _ _ _ us hl=>match us,hl with|[_,_],_=>rfl) λf fd h=>oJ h IE d_fr d_co d_ba;have d_le:=AT (P:=P) (w:=w) (base:=base) F.read_length_instruments (λ_ _ _ _ _ _ us hl=>match us,hl with|[_],_=>rfl) λf fd h=>oK h RE G.LENGTH_DIGITS G.LEAST_LENGTH G.GREATEST_LENGTH;have d_rin:=AT (P:=P) (w:=w) (base:=base) F.read_instrument (λ_ _ _ _ _ _ us hl=>match us,hl with|[_],_=>rfl) λf fd h=>i7 h IE k_i d_le d_ln;have d_add:=AT (P:=P) (w:=w) (base:=base) F.add_stop (λ_ _ _ _ _ _ us hl=>match us,hl with|[_,_,_],_=>rfl) λf fd h=>jF h B X1;have d_bn:=AT (P:=P) (w:=w) (base:=base) F.read_bass_number (λ_ _ _ _ _ _ us hl=>match us,hl with|[_],_=>rfl) λf fd h=>oR h RE G.FIRST_BASS;have d_nk:=AT (P:=P) (w:=w) (base:=base) F.read_neck (λ_ _ _ _ _ _ us hl=>match us,hl with|[_,_,_],_=>rfl) λf fd h=>oS h B RE;have d_fb:=AT (P:=P) (w:=w) (base:=base) F.read_french_bass (λ_ _ _ _ _ _ us hl=>match us,hl with|[_],_=>rfl) λf fd h=>oT h RE G.FIRST_BASS G.FRENCH_LOWEST;have d_cr:=AT (P:=P) (w:=w) (base:=base) F.read_crossing (λ_ _ _ _ _ _ us hl=>match us,hl with|[_],_=>rfl) λf fd h=>oU h RE G.MOST_CROSSING_BYTES G.GERMAN_CROSSINGS;have d_gs:=AT (P:=P) (w:=w) (base:=base) F.read_german_stop (λ_ _ _ _ _ _ us hl=>match us,hl with|[_],_=>rfl) λf fd h=>oW h RE G.GERMAN_UNSTOPPED G.GERMAN_SIXTH G.NECK_COURSES d_bn d_cr;have d_frs:=AT (P:=P) (w:=w) (base:=base) F.read_french_stops (λ_ _ _ _ _ _ us hl=>match us,hl with|[_],_=>rfl) λf fd h=>jG h B RE G.NECK_COURSES G.FRENCH_FRETS d_nk d_fb d_add;have d_its:=AT (P:=P) (w:=w) (base:=base) F.read_italian_stops (λ_ _ _ _ _ _ us hl=>match us,hl with|[_],_=>rfl) λf fd h=>jH h B RE G.NECK_COURSES G.ITALIAN_FRETS d_nk d_bn d_add;have d_grs:=AT (P:=P) (w:=w) (base:=base) F.read_german_stops (λ_ _ _ _ _ _ us hl=>match us,hl with|[_],_=>rfl) λf fd h=>jI h RE d_gs d_add;have d_rst:=AT (P:=P) (w:=w) (base:=base) F.read_stops (λ_ _ _ _ _ _ us hl=>match us,hl with|[_,_],_=>rfl) λf fd h=>jK h G.FRENCH G.ITALIAN d_frs d_its d_grs;have m_ib:=FH (P:=P) (w:=w) (mg:=mg) (base:=base) L.T.cl L.ib (λ_ _ _ _ _ _ us hl=>match us,hl with|[_],_=>rfl) λf fd h=>o0 h L.T;have k_l:Mkr P w K mg base 1 CL "Line" ["self","length","stops"] (jL CL):=NV L.m L.i (λ_ _ _ _ _ _ us hl=>match us,hl with|[_,_,_],_=>rfl) λf fd h=>oY h L.T;have d_rk:=AT (P:=P) (w:=w) (base:=base) F.read_kind (λ_ _ _ _ _ _ us hl=>match us,hl with|[_],_=>rfl) λf fd h=>o5 h B RE G.KIND_WORDS;have d_rl:=AT (P:=P) (w:=w) (base:=base) F.read_length_pieces (λ_ _ _ _ _ _ us hl=>match us,hl with|[_,_],_=>rfl) λf fd h=>o6 h RE G.LENGTH_SIGNS G.LENGTHS;have d_pl:=AT (P:=P) (w:=w) (base:=base) F.read_line_pieces (λ_ _ _ _ _ _ us hl=>match us,hl with|[_,_,_],_=>rfl) λf fd h=>o8 h RE k_l d_rl d_rst;have d_pc:=AT (P:=P) (w:=w) (base:=base) F.read_piece (λ_ _ _ _ _ _ us hl=>match us,hl with|[_],_=>rfl) λf fd h=>pB h B RE L.T G.MOST_LINES m_ib d_rk d_pl;have d_ck:=AT (P:=P) (w:=w) (base:=base) F.check_fit (λ_ _ _ _ _ _ us hl=>match us,hl with|[_,_],_=>rfl) λf fd h=>pE h B I.T L.T m_hp XM;have d_sz:=AT (P:=P) (w:=w) (base:=base) F.check_sizes (λ_ _ _ _ _ _ us hl=>match us,hl with|[_,_],_=>rfl) λf fd h=>pG h B G.MOST_INSTRUMENT_BYTES G.MOST_PIECE_BYTES X2;have d_io:=AT (P:=P) (w:=w) (base:=base) F.instrument_of (λ_ _ _ _ _ _ us hl=>match us,hl with|[_],_=>rfl) λf fd h=>pM h X.mT X.eT d_rin X6;have d_po:=AT (P:=P) (w:=w) (base:=base) F.piece_of (λ_ _ _ _ _ _ us hl=>match us,hl with|[_],_=>rfl) λf fd h=>pO h X.mT X.eT d_pc X8;have k_b:Mkr P w K mg base 1 CB "Tablature" ["self","instrument","lines"] (jT CB):=NV B_.m B_.i (λ_ _ _ _ _ _ us hl=>match us,hl with|[_,_,_],_=>rfl) λf fd h=>jV h B_.T;have d_tbo:=AT (P:=P) (w:=w) (base:=base) F.tablature_of (λ_ _ _ _ _ _ us hl=>match us,hl with|[_,_],_=>rfl) λf fd h=>jW (cl:=(λz:Int=>([0,C1,C2,C3,C4,0,C6,0,C8,0,0]:List Addr).getD z.natAbs 0)) h k_b d_io d_po;have d_rtb:=AT (P:=P) (w:=w) (base:=base) F.read_tablature (λ_ _ _ _ _ _ us hl=>match us,hl with|[_,_],_=>rfl) λf fd h=>jY (cl:=(λz:Int=>([0,C1,C2,C3,C4,0,C6,0,C8,0,0]:List Addr).getD z.natAbs 0)) h d_sz d_tbo;have m_so:=FH (P:=P) (w:=w) (mg:=mg) (base:=base) I.T.cl I.so (λ_ _ _ _ _ _ us hl=>match us,hl with|[_,_,_],_=>rfl) λf fd h=>kD h B I.T d_up;have m_st:=FH (P:=P) (w:=w) (mg:=mg) (base:=base) L.T.cl L.st (λ_ _ _ _ _ _ us hl=>match us,hl with|[_,_],_=>rfl) λf fd h=>kF h L.T;have k_n:Mkr P w K mg base 1 CN "Note" ["self","begin","line","stop","interval","height"] (j9 K CN):=NV N.m N.i (λ_ _ _ _ _ _ us hl=>match us,hl with|[_,_,_,_,_,_],_=>rfl) λf fd h=>p6 h N.T;have d_beg:=AT (P:=P) (w:=w) (base:=base) F.beginnings (λ_ _ _ _ _ _ us hl=>match us,hl with|[_],_=>rfl) λf fd h=>kE h L.T;have d_pa:=AT (P:=P) (w:=w) (base:=base) F.place_among (λ_ _ _ _ _ _ us hl=>match us,hl with|[_,_],_=>rfl) λf fd h=>qD h B d_nr;have d_rks:=AT (P:=P) (w:=w) (base:=base) F.ranks (λ_ _ _ _ _ _ us hl=>match us,hl with|[_],_=>rfl) λf fd h=>kK h B d_pa;have d_so:=AT (P:=P) (w:=w) (base:=base) F.sounds_of (λ_ _ _ _ _ _ us hl=>match us,hl with|[_,_],_=>rfl) λf fd h=>qH h I.T L.T m_so;have d_no:Def P w K mg base 6 "notes_in_order" ["instrument","lines"] (kO P w K CI CL CN PT):=⟨fN,fdN,LN.m,LN.F.kp,LN.F.toFun.binds (λ_ _ _ _ _ _ us hl=>match us,hl with|[_,_],_=>rfl),qM LN.F B G.b_sorted BB CH L.T N.T d_beg d_so d_rks k_n⟩
 have d_el:=AT (P:=P) (w:=w) (base:=base) F.end_line (λ_ _ _ _ _ _ us hl=>match us,hl with|[_,_,_],_=>rfl) λf fd h=>qP h B G.RING_MOMENT G.RING_BAR L.T N.T m_ib m_st;have d_es:=AT (P:=P) (w:=w) (base:=base) F.ends_of (λ_ _ _ _ _ _ us hl=>match us,hl with|[_,_,_],_=>rfl) λf fd h=>qS h d_beg d_el;have d_ring:=AT (P:=P) (w:=w) (base:=base) F.check_ring (λ_ _ _ _ _ _ us hl=>match us,hl with|[_],_=>rfl) λf fd h=>eS h G.MOST_RING X1_;have d_fn:=AT (P:=P) (w:=w) (base:=base) F.fitting_notes (λ_ _ _ _ _ _ us hl=>match us,hl with|[_],_=>rfl) λf fd h=>qU h B_.T d_ck d_no;have d_nof:=AT (P:=P) (w:=w) (base:=base) F.note_of (λ_ _ _ _ _ _ us hl=>match us,hl with|[_,_],_=>rfl) λf fd h=>lD h B X4;exact eV (cl:=(λz:Int=>([0,C1,C2,C3,C4,0,C6,0,C8,0,0]:List Addr).getD z.natAbs 0)) Ff B B_.T N.T X.mR (GK X.r1 (GK X.r2 (GK X.r3 (GK X.r4 (GK X.r6 (GK X.r8 eW)))))) d_rtb d_ring d_fn d_nof d_es
end
open PySem PySem.Spec PyProof.Rows L2
section
variable {K:aa} {h:Heap} {mg:Str->Option ag} {x nm m qual:Str} {st:Stmt} {f C:Addr} {oc kV doc pm cdv ct:ag} {od an:Option Addr} {osl:Array (Option ag)}
theorem cC (X:K.In h) (G:h.Ns mainGlobals mg) (a:tL K mainGlobals x=some (some (.ref f))) (l:K.lookup f=some ⟨oc,od,.func (gj nm nm (DI st) (BR st) (AH st) .none kV doc pm an cdv ct),osl⟩) (c:iw K cdv nm=true) (k:dq K (.ref f)=true):GFn K mg x nm st:=
 ⟨f,_,fj X G a,MU l c k⟩
theorem FI (a:gy K (.ref C) m=some (some (.ref f))) (i:pf K (.ref f)=true) (l:K.lookup f=some ⟨oc,od,.func (gj m qual (DI st) (BR st) (AH st) .none kV doc pm an cdv ct),osl⟩) (c:iw K cdv qual=true) (k:dq K (.ref f)=true):GMt K C m qual st:=
 ⟨f,_,⟨a,i,k⟩,MU l c k⟩
theorem NW (mk:vi K C=true) (kc:dq K (.ref C)=true) (a:gy K (.ref C) "__init__"=some (some (.ref f))) (i:pf K (.ref f)=true) (l:K.lookup f=some ⟨oc,od,.func (gj "__init__" qual (DI st) (BR st) (AH st) .none kV doc pm an cdv ct),osl⟩) (c:iw K cdv qual=true) (k:dq K (.ref f)=true):GMk K C qual st:=
 ⟨f,_,⟨mk,a,i,kc⟩,MU l c k⟩
theorem JF (mk:G5 K C=true) (kc:dq K (.ref C)=true) (a:gy K (.ref C) "__init__"=some (some (.ref f))) (i:pf K (.ref f)=true) (l:K.lookup f=some ⟨oc,od,.func (gj "__init__" qual (DI st) (BR st) (AH st) .none kV doc pm an cdv ct),osl⟩) (c:iw K cdv qual=true) (k:dq K (.ref f)=true):GXk K C qual st:=
 ⟨f,_,⟨mk,a,i,kc⟩,MU l c k⟩
theorem lF (a:qv K (.ref C) (.type "type") "__init__"=some (.val (.ref f))) (l:K.lookup f=some ⟨oc,od,.func (gj "__init__" qual (DI st) (BR st) (AH st) .none kV doc pm an cdv ct),osl⟩) (c:iw K cdv qual=true) (k:dq K (.ref f)=true):
 ∃f fd,qv K (.ref C) (.type "type") "__init__"=some (.val (.ref f))/\Fun K "__init__" qual st f fd:=⟨f,_,a,MU l c k⟩
theorem qY {i:Int} {t:Tok} (X:K.In h) (G:h.Ns mainGlobals mg) (a:tL K mainGlobals x=some (some (.int i t))):GI mg x i:=⟨_,fj X G a,t,rfl⟩
theorem qZ {t:Tok} (X:K.In h) (G:h.Ns mainGlobals mg) (a:tL K mainGlobals x=some (some (.str z t))):GS mg x z:=⟨_,fj X G a,t,rfl⟩
theorem q0 {its:Array ag} (X:K.In h) (G:h.Ns mainGlobals mg) (a:tL K mainGlobals x=some (some (.ref f))) (l:K.lookup f=some ⟨.type "tuple",od,.seq its n,osl⟩) (hz:its.size<=100) (r:Vals xs its.toList):GT K mg x xs:=
 ⟨f,fj X G a,λH=>.inr ⟨_,its,n,l,rfl,rfl,by rw[bw];omega,r⟩⟩
end
theorem cD {l:List Int} (h:∀z∈l,0<=z/\z<=255):(LuSoundNeutral.bytes l).map cV=l.map V.int:=by
 unfold LuSoundNeutral.bytes;rw[wS];refine List.map_congr_left λz hz=>?_;have:=h z hz;show V.int (((uv z.toNat).toNat:Nat):Int)=V.int z;congr 1;rw[wt];omega
theorem inI {lo hi:Int} {l:List Int} (h:l.all (jv lo hi)=true):∀z∈l,lo<=z/\z<=hi:=λz hz=>by
 have:=ki.mp h z hz;unfold jv at this;simpa using this
theorem q5 {K:aa} {p1 p2 PT:Addr} {ring k:Int} {i t:List Int} (hT:H PT=some (.tbl #[])) (hs:SqL K H p1 (i.map V.int)) (hs2:SqL K H p2 (t.map V.int)) (hr:0<=ring) (hk:0<=k) (hi:i.all (jv 0 255)=true) (ht:t.all (jv 0 255)=true) (hl:t.length<=66000):
 NU K PT dz0 fz0 [.int ring,.int k,.ref p1,.ref p2] H (λv H'=>Dw K H' v (.list ((PyWqaucn.note ring k i t).map .int))) λ_ _ _=>False:=by
 refine⟨ring.toNat,k.toNat,p1,p2,LuSoundNeutral.bytes i,LuSoundNeutral.bytes t,by rw[mn hr,mn hk],by rw[cD (inI hi)];exact hs,by rw[cD (inI ht)];exact hs2,?_,qN hT,txp _ _,λans ha H' l hl'=>?_⟩
 ·unfold LuSoundNeutral.bytes;rw[ah];omega
 ·rw[cB ha] at hl';exact .lst (SqL.of hl') (VJ _)
theorem rA {lo hi x:Int} (h:jv lo hi x=true):lo<=x/\x<=hi:=by
 unfold jv at h;simpa using h
theorem eX {C:Prop} {K:aa} {mg:Str->Option ag} {q:aw} {fa:Addr} (KX:K.In h) (TT:TopT q mg h) (hq:((recsOf q).any λd=>d.name==("notes_in_order":Str))=true) (hfa:mg "note"=some (.ref fa)) (a:GFn K mg "note" "note" P0) (LN:Ex4 λf fd c PT=>LmF K mg f fd c PT) (F:TxF K mg) (G':TxG K mg) (R:∃C,TxR K mg C) (I:∃C,TxI K mg C) (L:∃C,TxL K mg C) (B_:∃C,TxB_ K mg C) (N:∃C,TxN K mg C)
 (XX:∃CT CR C1 C2 C3 C4 C6 C8,TxX K mg CT CR C1 C2 C3 C4 C6 C8)
 (k:∀(PT:Addr) (fd:du),(∀p∈[PT],K.lookup p=none/\∃c,h.TableAt c p #[])->(∀(s:ai) (us:List ag),us.length=(["ring","k","i","t"]:List Str).length->vY s fd ⟨us,[]⟩ ((["ring","k","i","t"]:List Str).zip us))->(∀base:Heap,K.In base->base.Ns mainGlobals mg->NR mg base->FnOk P w K mg base (CX1 P w) 16 fa fd ["ring","k","i","t"] (NU K PT dz0 fz0))->C):C:=by
 obtain⟨f,fd,hm,Ff⟩:=a;have e:=hfa.symm.trans hm;cases e;obtain⟨fN,fdN,cN,PT,LN⟩:=LN;obtain⟨_,R⟩:=R;obtain⟨_,I⟩:=I;obtain⟨_,L⟩:=L;obtain⟨_,B_⟩:=B_;obtain⟨_,N⟩:=N;obtain⟨_,_,_,_,_,_,_,_,XX⟩:=XX;refine k PT fd (λp hp=>?_) (λs us hu=>?_) λbase KB _ BB=>lE F G' R I L B_ N XX LN BB (wb KB LN.h) Ff
 ·rw[gq.mp hp];exact⟨LN.n,kT KX TT hq LN⟩
 ·obtain⟨oc,od,kV,doc,pm,an,cdv,ct,osl,rfl,lk,hcd⟩:=Ff.ex;match us,hu with
  |[_,_,_,_],_=>exact .of_eq rfl
end Lt
end
def PySem.W.Fast.tw10062570878085537429:Nat:=0
def PySem.W.Fast.tw1007585327055352967:Nat:=0
def PySem.W.Fast.tw10085665691709287810:Nat:=0
def PySem.W.Fast.tw10235824090566828676:Nat:=0
def PySem.W.Fast.tw10339082394715060054:Nat:=0
def PySem.W.Fast.tw10346106273477797980:Nat:=0
def PySem.W.Fast.tw10395562719448137479:Nat:=0
def PySem.W.Fast.tw1041283498489534423:Nat:=0
def PySem.W.Fast.tw10507169857008792407:Nat:=0
def PySem.W.Fast.tw10545348594339970111:Nat:=0
def PySem.W.Fast.tw10550241473673195780:Nat:=0
def PySem.W.Fast.tw10551180207537735541:Nat:=0
def PySem.W.Fast.tw10605482255776624124:Nat:=0
def PySem.W.Fast.tw10833483349494060590:Nat:=0
def PySem.W.Fast.tw10834636950283108263:Nat:=0
def PySem.W.Fast.tw10851506779447212004:Nat:=0
def PySem.W.Fast.tw10892745199605868195:Nat:=0
def PySem.W.Fast.tw10950285936791282652:Nat:=0
def PySem.W.Fast.tw11071210612187119101:Nat:=0
def PySem.W.Fast.tw11199176459941623162:Nat:=0
def PySem.W.Fast.tw11276435905391531483:Nat:=0
def PySem.W.Fast.tw11330253308294998792:Nat:=0
def PySem.W.Fast.tw11335365183755546421:Nat:=0
def PySem.W.Fast.tw1134193652318875792:Nat:=0
def PySem.W.Fast.tw11364085038261050836:Nat:=0
def PySem.W.Fast.tw11453056715757380402:Nat:=0
def PySem.W.Fast.tw11503591522341478110:Nat:=0
def PySem.W.Fast.tw11663651138154395611:Nat:=0
def PySem.W.Fast.tw11850934496597108128:Nat:=0
def PySem.W.Fast.tw11858305142377359547:Nat:=0
def PySem.W.Fast.tw11924456717877095775:Nat:=0
def PySem.W.Fast.tw11932717316294082099:Nat:=0
def PySem.W.Fast.tw11951684330666732298:Nat:=0
def PySem.W.Fast.tw11962820042908148430:Nat:=0
def PySem.W.Fast.tw12022248726611308087:Nat:=0
def PySem.W.Fast.tw12174977653533201816:Nat:=0
def PySem.W.Fast.tw12201169412672747549:Nat:=0
def PySem.W.Fast.tw12233511816123585494:Nat:=0
def PySem.W.Fast.tw12332736785745702074:Nat:=0
def PySem.W.Fast.tw12374831605455442889:Nat:=0
def PySem.W.Fast.tw12546115352008907491:Nat:=0
def PySem.W.Fast.tw12599784071418352704:Nat:=0
def PySem.W.Fast.tw12826948647981140361:Nat:=0
def PySem.W.Fast.tw12873282587709652690:Nat:=0
def PySem.W.Fast.tw12892543263641703292:Nat:=0
def PySem.W.Fast.tw12966913969855376657:Nat:=0
def PySem.W.Fast.tw13039046299720256323:Nat:=0
def PySem.W.Fast.tw13069572286938651865:Nat:=0
def PySem.W.Fast.tw13207051723291865223:Nat:=0
def PySem.W.Fast.tw13371938415228788253:Nat:=0
def PySem.W.Fast.tw13407330282723325293:Nat:=0
def PySem.W.Fast.tw13692662591108255730:Nat:=0
def PySem.W.Fast.tw13772077130941777544:Nat:=0
def PySem.W.Fast.tw1386954676164025049:Nat:=0
def PySem.W.Fast.tw13947605815808114606:Nat:=0
def PySem.W.Fast.tw14069201555839508361:Nat:=0
def PySem.W.Fast.tw14080772874219677436:Nat:=0
def PySem.W.Fast.tw14151980415358932628:Nat:=0
def PySem.W.Fast.tw1416773330344244435:Nat:=0
def PySem.W.Fast.tw14254242725034965790:Nat:=0
def PySem.W.Fast.tw14294089388521526050:Nat:=0
def PySem.W.Fast.tw14296560894382087203:Nat:=0
def PySem.W.Fast.tw14388234594321383831:Nat:=0
def PySem.W.Fast.tw14530089038752007877:Nat:=0
def PySem.W.Fast.tw14591354013802953431:Nat:=0
def PySem.W.Fast.tw14624060364065585828:Nat:=0
def PySem.W.Fast.tw1470646454541726464:Nat:=0
def PySem.W.Fast.tw14787230524341725300:Nat:=0
def PySem.W.Fast.tw14875630629008443856:Nat:=0
def PySem.W.Fast.tw14993282200169644165:Nat:=0
def PySem.W.Fast.tw15083902111064528640:Nat:=0
def PySem.W.Fast.tw15103467162102272067:Nat:=0
def PySem.W.Fast.tw15222581165830112052:Nat:=0
def PySem.W.Fast.tw15484504506025642770:Nat:=0
def PySem.W.Fast.tw15494119620875381456:Nat:=0
def PySem.W.Fast.tw15547684543812130310:Nat:=0
def PySem.W.Fast.tw15547989252464120762:Nat:=0
def PySem.W.Fast.tw15610736222678660498:Nat:=0
def PySem.W.Fast.tw15666531997630867317:Nat:=0
def PySem.W.Fast.tw15747402520329716302:Nat:=0
def PySem.W.Fast.tw15817573463558258676:Nat:=0
def PySem.W.Fast.tw15924360978745535405:Nat:=0
def PySem.W.Fast.tw15962505241524658838:Nat:=0
def PySem.W.Fast.tw15971555183443952594:Nat:=0
def PySem.W.Fast.tw15989361846996727083:Nat:=0
def PySem.W.Fast.tw16099223988054051458:Nat:=0
def PySem.W.Fast.tw16112411569037904533:Nat:=0
def PySem.W.Fast.tw16207367682029198739:Nat:=0
def PySem.W.Fast.tw16298071163244882454:Nat:=0
def PySem.W.Fast.tw16341999872671214677:Nat:=0
def PySem.W.Fast.tw16406838999463557193:Nat:=0
def PySem.W.Fast.tw16559601952265274833:Nat:=0
def PySem.W.Fast.tw16894563917165507116:Nat:=0
def PySem.W.Fast.tw16964348931968437129:Nat:=0
def PySem.W.Fast.tw17029904228820497364:Nat:=0
def PySem.W.Fast.tw17136120382815759628:Nat:=0
def PySem.W.Fast.tw17170259968465585348:Nat:=0
def PySem.W.Fast.tw17190989586994169441:Nat:=0
def PySem.W.Fast.tw17244818904043021978:Nat:=0
def PySem.W.Fast.tw1724988851253407541:Nat:=0
def PySem.W.Fast.tw1742927278336184902:Nat:=0
def PySem.W.Fast.tw17442900114692379649:Nat:=0
def PySem.W.Fast.tw17465813523593869962:Nat:=0
def PySem.W.Fast.tw17507316468479651457:Nat:=0
def PySem.W.Fast.tw1751735594426194068:Nat:=0
def PySem.W.Fast.tw17520322923331257468:Nat:=0
def PySem.W.Fast.tw17585104541251590086:Nat:=0
def PySem.W.Fast.tw17589537568414830226:Nat:=0
def PySem.W.Fast.tw17646998818608124991:Nat:=0
def PySem.W.Fast.tw17663460954084952421:Nat:=0
def PySem.W.Fast.tw17756643224176650868:Nat:=0
def PySem.W.Fast.tw17801612398998646081:Nat:=0
def PySem.W.Fast.tw17843470562037830071:Nat:=0
def PySem.W.Fast.tw17980986816553546376:Nat:=0
def PySem.W.Fast.tw18012010317100168074:Nat:=0
def PySem.W.Fast.tw181383460017776953:Nat:=0
def PySem.W.Fast.tw1836101595785022479:Nat:=0
def PySem.W.Fast.tw1970188138421157518:Nat:=0
def PySem.W.Fast.tw1987543477633938861:Nat:=0
def PySem.W.Fast.tw2133130179705836405:Nat:=0
def PySem.W.Fast.tw2153600791260050019:Nat:=0
def PySem.W.Fast.tw2161756062014124736:Nat:=0
def PySem.W.Fast.tw2196197122614645508:Nat:=0
def PySem.W.Fast.tw2226326803900839073:Nat:=0
def PySem.W.Fast.tw2235489559127000243:Nat:=0
def PySem.W.Fast.tw2238114709742216278:Nat:=0
def PySem.W.Fast.tw2242703389157530836:Nat:=0
def PySem.W.Fast.tw2499945734351908758:Nat:=0
def PySem.W.Fast.tw2708418183351698848:Nat:=0
def PySem.W.Fast.tw2767986671052160333:Nat:=0
def PySem.W.Fast.tw2904467098040426304:Nat:=0
def PySem.W.Fast.tw2988565619174510111:Nat:=0
def PySem.W.Fast.tw3032148276926641027:Nat:=0
def PySem.W.Fast.tw3063626030063245072:Nat:=0
def PySem.W.Fast.tw313935071951310558:Nat:=0
def PySem.W.Fast.tw3181264642013993896:Nat:=0
def PySem.W.Fast.tw3264107998443188027:Nat:=0
def PySem.W.Fast.tw3399858519227866853:Nat:=0
def PySem.W.Fast.tw3857455738213270488:Nat:=0
def PySem.W.Fast.tw3980299431908235569:Nat:=0
def PySem.W.Fast.tw400501639262047807:Nat:=0
def PySem.W.Fast.tw4045444131575302483:Nat:=0
def PySem.W.Fast.tw405002098343187042:Nat:=0
def PySem.W.Fast.tw4214756946975629987:Nat:=0
def PySem.W.Fast.tw4323624565762877327:Nat:=0
def PySem.W.Fast.tw4474590410229696992:Nat:=0
def PySem.W.Fast.tw4518133276999311683:Nat:=0
def PySem.W.Fast.tw47205707153579383:Nat:=0
def PySem.W.Fast.tw4847004845872058381:Nat:=0
def PySem.W.Fast.tw4872080298219788302:Nat:=0
def PySem.W.Fast.tw4906118819365350852:Nat:=0
def PySem.W.Fast.tw5011337199308100892:Nat:=0
def PySem.W.Fast.tw5020279968320383908:Nat:=0
def PySem.W.Fast.tw509399327634195550:Nat:=0
def PySem.W.Fast.tw5177823994227748761:Nat:=0
def PySem.W.Fast.tw518743835649130770:Nat:=0
def PySem.W.Fast.tw5242110242178133488:Nat:=0
def PySem.W.Fast.tw5257956556842489623:Nat:=0
def PySem.W.Fast.tw5330341736213781112:Nat:=0
def PySem.W.Fast.tw5364490213852366000:Nat:=0
def PySem.W.Fast.tw5408527596661486000:Nat:=0
def PySem.W.Fast.tw5521473861042119991:Nat:=0
def PySem.W.Fast.tw5547328272449024453:Nat:=0
def PySem.W.Fast.tw5601334599777912577:Nat:=0
def PySem.W.Fast.tw5619633646185614116:Nat:=0
def PySem.W.Fast.tw5676745906290378559:Nat:=0
def PySem.W.Fast.tw5683883125064655607:Nat:=0
def PySem.W.Fast.tw5720227239211985901:Nat:=0
def PySem.W.Fast.tw5767505753708187718:Nat:=0
def PySem.W.Fast.tw5812392465899535868:Nat:=0
def PySem.W.Fast.tw5838250848527425207:Nat:=0
def PySem.W.Fast.tw5895449669717013398:Nat:=0
def PySem.W.Fast.tw6019069229080782121:Nat:=0
def PySem.W.Fast.tw6113800494271756016:Nat:=0
def PySem.W.Fast.tw6171230302968120804:Nat:=0
def PySem.W.Fast.tw6196243867109951388:Nat:=0
def PySem.W.Fast.tw6263577677032863633:Nat:=0
def PySem.W.Fast.tw6316690265579974205:Nat:=0
def PySem.W.Fast.tw6330077797854880532:Nat:=0
def PySem.W.Fast.tw6386786116271952068:Nat:=0
def PySem.W.Fast.tw6450640057391727721:Nat:=0
def PySem.W.Fast.tw6474627641048734114:Nat:=0
def PySem.W.Fast.tw6624686417522732099:Nat:=0
def PySem.W.Fast.tw681187777773676419:Nat:=0
def PySem.W.Fast.tw6886560825524830369:Nat:=0
def PySem.W.Fast.tw689511622321726254:Nat:=0
def PySem.W.Fast.tw6914184202862344113:Nat:=0
def PySem.W.Fast.tw6928709105775443428:Nat:=0
def PySem.W.Fast.tw696271887108524607:Nat:=0
def PySem.W.Fast.tw7028495079023805900:Nat:=0
def PySem.W.Fast.tw7038537596893035113:Nat:=0
def PySem.W.Fast.tw720408000361944703:Nat:=0
def PySem.W.Fast.tw7380687500583955276:Nat:=0
def PySem.W.Fast.tw7408653472053343230:Nat:=0
def PySem.W.Fast.tw7447289413868504855:Nat:=0
def PySem.W.Fast.tw7573062248827764405:Nat:=0
def PySem.W.Fast.tw7624321399199750255:Nat:=0
def PySem.W.Fast.tw7739687518596618949:Nat:=0
def PySem.W.Fast.tw7859461746926659886:Nat:=0
def PySem.W.Fast.tw7950818041647425578:Nat:=0
def PySem.W.Fast.tw799546045223970179:Nat:=0
def PySem.W.Fast.tw8005080739592337679:Nat:=0
def PySem.W.Fast.tw8035902180819061152:Nat:=0
def PySem.W.Fast.tw8068173755385567487:Nat:=0
def PySem.W.Fast.tw8180083116978242288:Nat:=0
def PySem.W.Fast.tw8253258393641735135:Nat:=0
def PySem.W.Fast.tw8268793233584286001:Nat:=0
def PySem.W.Fast.tw8386127956899872183:Nat:=0
def PySem.W.Fast.tw8407694814679162038:Nat:=0
def PySem.W.Fast.tw8489363901744956128:Nat:=0
def PySem.W.Fast.tw8494521919498624382:Nat:=0
def PySem.W.Fast.tw8504754246691026464:Nat:=0
def PySem.W.Fast.tw8531584491003192801:Nat:=0
def PySem.W.Fast.tw8651439689702372684:Nat:=0
def PySem.W.Fast.tw8719041273981902707:Nat:=0
def PySem.W.Fast.tw8873726059966362749:Nat:=0
def PySem.W.Fast.tw887415391661918832:Nat:=0
def PySem.W.Fast.tw9116091838968807314:Nat:=0
def PySem.W.Fast.tw917635823888707884:Nat:=0
def PySem.W.Fast.tw9239515649274215063:Nat:=0
def PySem.W.Fast.tw947728314533473038:Nat:=0
def PySem.W.Fast.tw9487999008583889805:Nat:=0
def PySem.W.Fast.tw9567624708187360642:Nat:=0
def PySem.W.Fast.tw9671900448345611013:Nat:=0
def PySem.W.Fast.tw9682981442362150079:Nat:=0
def PySem.W.Fast.tw9751940736307004595:Nat:=0
def PySem.W.Fast.tw9888132146441051819:Nat:=0
def PySem.W.Fast.tw9892408017762303973:Nat:=0
def PySem.W.Fast.tw9921493430735282645:Nat:=0
def PySem.W.Fast.tw9942934637491798963:Nat:=0
open PySem PySem.W PyProof.Rows
set_option maxRecDepth 100000 in
set_option maxHeartbeats 0 in
theorem PySem.Challenge.cw_lutesounds_s02_note_holds : PySem.Challenge.rw_lutesounds_s02_note.Holds := by
 w_on;k_headS;(case hw=>exact⟨[.int 0,.int 0,.list [],.list []],by decide +kernel,by decide +kernel⟩)
 k_fillS
 refine Lt.SO (r:=PySem.Challenge.rw_lutesounds_s02_note) (k:=16) (ps:=["ring","k","i","t"]) (sp:=λK T=>Lt.NU K (T.headD 0) Lt.dz0 Lt.fz0) (by decide +kernel) rfl rfl ⟨rfl,by decide,by decide⟩ (λw h Y=>PySem.W.kIn_of Y) ?F
 case F=>
  intro w mg fa h Y KX G TT hmg;refine' Lt.eX KX TT ?zq hmg ?za ?zLN ?zF ?zG ?zR ?zI ?zL ?zB_ ?zN ?zX ?zk
  case zq=>decide +kernel
  case zLN=>(refine' Lt.kR KX G ?lmf_a ?lmf_l ?lmf_c ?lmf_k ?lmf_o ?lmf_v ?lmf_n ?lmf_h;(case lmf_a=>k_is);(case lmf_l=>k_is);(case lmf_c=>k_is);(case lmf_k=>k_is);(case lmf_o=>k_is);(case lmf_v=>rfl);(case lmf_n=>first|kernel_rfl!|rfl|decide +kernel);(case lmf_h=>first|kernel_rfl!|rfl|decide +kernel))
  case za=>(refine' Lt.cC KX G ?gfn_a ?gfn_l ?gfn_c ?gfn_k;(case gfn_a=>k_is);(case gfn_l=>k_is);(case gfn_c=>k_is);(case gfn_k=>k_is))
  case zF=>
   constructor;iterate 50
    ·(refine' Lt.cC KX G ?gfn_a ?gfn_l ?gfn_c ?gfn_k;(case gfn_a=>k_is);(case gfn_l=>k_is);(case gfn_c=>k_is);(case gfn_k=>k_is))
  case zG=>
   constructor
   ·constructor<;>(refine' wx KX G ?no_a;(case no_a=>k_is))
   ·(refine' wx KX G ?no_a;(case no_a=>k_is))
   iterate 21
    ·(refine' Lt.qY KX G ?gi_a;(case gi_a=>k_is))
   iterate 9
    ·(refine' Lt.qZ KX G ?gs_a;(case gs_a=>k_is))
   iterate 4
    ·(refine' Lt.q0 KX G ?gt_a ?gt_l ?gt_z ?gt_r;(case gt_a=>k_is);(case gt_l=>k_is);(case gt_z=>decide);(case gt_r=>repeat (first|exact Paired.nil|refine Paired.cons ⟨_,rfl⟩ ?_)))
  case zR=>
   refine' ⟨_,Lt.TxR.mk ?m ?T ?i ?e0 ?e1 ?e2 ?e3 ?e4 ?e5⟩
   case m=>(refine' fj KX G ?mg_a;(case mg_a=>k_is))
   case T=>(refine' Lt.RdC.mk ?a ?n0 ?n1 ?n2;(case a=>(refine' L2.Cls.mk ?cls_a ?cls_b ?cls_c ?cls_d;(case cls_a=>k_is);(case cls_b=>k_is);(case cls_c=>k_is);(case cls_d=>k_is)));(case n0=>(unfold L2.NoAttr;k_is));(case n1=>(unfold L2.NoAttr;k_is));(case n2=>(unfold L2.NoAttr;k_is)))
   case i=>(refine' Lt.NW ?gmk_m ?gmk_kc ?gmk_a ?gmk_i ?gmk_l ?gmk_c ?gmk_k;(case gmk_m=>k_is);(case gmk_kc=>k_is);(case gmk_a=>k_is);(case gmk_i=>k_is);(case gmk_l=>k_is);(case gmk_c=>k_is);(case gmk_k=>k_is))
   case e0=>(refine' Lt.FI ?gmt_a ?gmt_i ?gmt_l ?gmt_c ?gmt_k;(case gmt_a=>k_is);(case gmt_i=>k_is);(case gmt_l=>k_is);(case gmt_c=>k_is);(case gmt_k=>k_is))
   case e1=>(refine' Lt.FI ?gmt_a ?gmt_i ?gmt_l ?gmt_c ?gmt_k;(case gmt_a=>k_is);(case gmt_i=>k_is);(case gmt_l=>k_is);(case gmt_c=>k_is);(case gmt_k=>k_is))
   case e2=>(refine' Lt.FI ?gmt_a ?gmt_i ?gmt_l ?gmt_c ?gmt_k;(case gmt_a=>k_is);(case gmt_i=>k_is);(case gmt_l=>k_is);(case gmt_c=>k_is);(case gmt_k=>k_is))
   case e3=>(refine' Lt.FI ?gmt_a ?gmt_i ?gmt_l ?gmt_c ?gmt_k;(case gmt_a=>k_is);(case gmt_i=>k_is);(case gmt_l=>k_is);(case gmt_c=>k_is);(case gmt_k=>k_is))
   case e4=>(refine' Lt.FI ?gmt_a ?gmt_i ?gmt_l ?gmt_c ?gmt_k;(case gmt_a=>k_is);(case gmt_i=>k_is);(case gmt_l=>k_is);(case gmt_c=>k_is);(case gmt_k=>k_is))
   case e5=>(refine' Lt.FI ?gmt_a ?gmt_i ?gmt_l ?gmt_c ?gmt_k;(case gmt_a=>k_is);(case gmt_i=>k_is);(case gmt_l=>k_is);(case gmt_c=>k_is);(case gmt_k=>k_is))
  case zI=>
   refine' ⟨_,Lt.TxI.mk ?m ?T ?i ?e0 ?e1 ?e2⟩
   case m=>(refine' fj KX G ?mg_a;(case mg_a=>k_is))
   case T=>(refine' Lt.InC.mk ?a ?n0 ?n1 ?n2;(case a=>(refine' L2.Cls.mk ?cls_a ?cls_b ?cls_c ?cls_d;(case cls_a=>k_is);(case cls_b=>k_is);(case cls_c=>k_is);(case cls_d=>k_is)));(case n0=>(unfold L2.NoAttr;k_is));(case n1=>(unfold L2.NoAttr;k_is));(case n2=>(unfold L2.NoAttr;k_is)))
   case i=>(refine' Lt.NW ?gmk_m ?gmk_kc ?gmk_a ?gmk_i ?gmk_l ?gmk_c ?gmk_k;(case gmk_m=>k_is);(case gmk_kc=>k_is);(case gmk_a=>k_is);(case gmk_i=>k_is);(case gmk_l=>k_is);(case gmk_c=>k_is);(case gmk_k=>k_is))
   case e0=>(refine' Lt.FI ?gmt_a ?gmt_i ?gmt_l ?gmt_c ?gmt_k;(case gmt_a=>k_is);(case gmt_i=>k_is);(case gmt_l=>k_is);(case gmt_c=>k_is);(case gmt_k=>k_is))
   case e1=>(refine' Lt.FI ?gmt_a ?gmt_i ?gmt_l ?gmt_c ?gmt_k;(case gmt_a=>k_is);(case gmt_i=>k_is);(case gmt_l=>k_is);(case gmt_c=>k_is);(case gmt_k=>k_is))
   case e2=>(refine' Lt.FI ?gmt_a ?gmt_i ?gmt_l ?gmt_c ?gmt_k;(case gmt_a=>k_is);(case gmt_i=>k_is);(case gmt_l=>k_is);(case gmt_c=>k_is);(case gmt_k=>k_is))
  case zL=>
   refine' ⟨_,Lt.TxL.mk ?m ?T ?i ?e0 ?e1⟩
   case m=>(refine' fj KX G ?mg_a;(case mg_a=>k_is))
   case T=>(refine' Lt.LnC.mk ?a ?n0 ?n1;(case a=>(refine' L2.Cls.mk ?cls_a ?cls_b ?cls_c ?cls_d;(case cls_a=>k_is);(case cls_b=>k_is);(case cls_c=>k_is);(case cls_d=>k_is)));(case n0=>(unfold L2.NoAttr;k_is));(case n1=>(unfold L2.NoAttr;k_is)))
   case i=>(refine' Lt.NW ?gmk_m ?gmk_kc ?gmk_a ?gmk_i ?gmk_l ?gmk_c ?gmk_k;(case gmk_m=>k_is);(case gmk_kc=>k_is);(case gmk_a=>k_is);(case gmk_i=>k_is);(case gmk_l=>k_is);(case gmk_c=>k_is);(case gmk_k=>k_is))
   case e0=>(refine' Lt.FI ?gmt_a ?gmt_i ?gmt_l ?gmt_c ?gmt_k;(case gmt_a=>k_is);(case gmt_i=>k_is);(case gmt_l=>k_is);(case gmt_c=>k_is);(case gmt_k=>k_is))
   case e1=>(refine' Lt.FI ?gmt_a ?gmt_i ?gmt_l ?gmt_c ?gmt_k;(case gmt_a=>k_is);(case gmt_i=>k_is);(case gmt_l=>k_is);(case gmt_c=>k_is);(case gmt_k=>k_is))
  case zB_=>
   refine' ⟨_,Lt.TxB_.mk ?m ?T ?i⟩
   case m=>(refine' fj KX G ?mg_a;(case mg_a=>k_is))
   case T=>(refine' Lt.TbC.mk ?a ?n0 ?n1;(case a=>(refine' L2.Cls.mk ?cls_a ?cls_b ?cls_c ?cls_d;(case cls_a=>k_is);(case cls_b=>k_is);(case cls_c=>k_is);(case cls_d=>k_is)));(case n0=>(unfold L2.NoAttr;k_is));(case n1=>(unfold L2.NoAttr;k_is)))
   case i=>(refine' Lt.NW ?gmk_m ?gmk_kc ?gmk_a ?gmk_i ?gmk_l ?gmk_c ?gmk_k;(case gmk_m=>k_is);(case gmk_kc=>k_is);(case gmk_a=>k_is);(case gmk_i=>k_is);(case gmk_l=>k_is);(case gmk_c=>k_is);(case gmk_k=>k_is))
  case zN=>
   refine' ⟨_,Lt.TxN.mk ?m ?T ?i⟩
   case m=>(refine' fj KX G ?mg_a;(case mg_a=>k_is))
   case T=>(refine' Lt.NtC.mk ?a ?n0 ?n1 ?n2 ?n3 ?n4 ?n5;(case a=>(refine' L2.Cls.mk ?cls_a ?cls_b ?cls_c ?cls_d;(case cls_a=>k_is);(case cls_b=>k_is);(case cls_c=>k_is);(case cls_d=>k_is)));(case n0=>(unfold L2.NoAttr;k_is));(case n1=>(unfold L2.NoAttr;k_is));(case n2=>(unfold L2.NoAttr;k_is));(case n3=>(unfold L2.NoAttr;k_is));(case n4=>(unfold L2.NoAttr;k_is));(case n5=>(unfold L2.NoAttr;k_is)))
   case i=>(refine' Lt.NW ?gmk_m ?gmk_kc ?gmk_a ?gmk_i ?gmk_l ?gmk_c ?gmk_k;(case gmk_m=>k_is);(case gmk_kc=>k_is);(case gmk_a=>k_is);(case gmk_i=>k_is);(case gmk_l=>k_is);(case gmk_c=>k_is);(case gmk_k=>k_is))
  case zX=>
   refine' ⟨_,_,_,_,_,_,_,_,Lt.TxX.mk ?mT ?mR ?xT ?aT ?eT ?iT ?r1 ?r2 ?r3 ?r4 ?r6 ?r8 ?lm ?cm ?sp ?rd ?fc⟩
   case mT=>(refine' fj KX G ?mg_a;(case mg_a=>k_is))
   case mR=>(refine' fj KX G ?mg_a;(case mg_a=>k_is))
   case xT=>(refine' L2.XCls.mk ?xcls_a ?xcls_b ?xcls_c ?xcls_d ?xcls_e ?xcls_f;(case xcls_a=>kernel_rfl!);(case xcls_b=>k_is);(case xcls_c=>k_is);(case xcls_d=>k_is);(case xcls_e=>k_is);(case xcls_f=>k_is))
   case aT=>(unfold L2.NoAttr;k_is)
   case eT=>kernel_rfl!
   case iT=>(refine' Lt.JF ?gxk_m ?gxk_kc ?gxk_a ?gxk_i ?gxk_l ?gxk_c ?gxk_k;(case gxk_m=>kernel_rfl!);(case gxk_kc=>k_is);(case gxk_a=>k_is);(case gxk_i=>k_is);(case gxk_l=>k_is);(case gxk_c=>k_is);(case gxk_k=>k_is))
   case r1=>(refine' Lt.Rf1.mk ?rf1_m ?rf1_r ?rf1_x ?rf1_a ?rf1_i;(case rf1_m=>(refine' fj KX G ?mg_a;(case mg_a=>k_is)));(case rf1_r=>kernel_rfl!);(case rf1_x=>(refine' L2.XCls.mk ?xcls_a ?xcls_b ?xcls_c ?xcls_d ?xcls_e ?xcls_f;(case xcls_a=>kernel_rfl!);(case xcls_b=>k_is);(case xcls_c=>k_is);(case xcls_d=>k_is);(case xcls_e=>k_is);(case xcls_f=>k_is)));(case rf1_a=>(unfold L2.NoAttr;k_is));(case rf1_i=>(refine' Lt.JF ?gxk_m ?gxk_kc ?gxk_a ?gxk_i ?gxk_l ?gxk_c ?gxk_k;(case gxk_m=>kernel_rfl!);(case gxk_kc=>k_is);(case gxk_a=>k_is);(case gxk_i=>k_is);(case gxk_l=>k_is);(case gxk_c=>k_is);(case gxk_k=>k_is))))
   case r2=>(refine' Lt.Rf1.mk ?rf1_m ?rf1_r ?rf1_x ?rf1_a ?rf1_i;(case rf1_m=>(refine' fj KX G ?mg_a;(case mg_a=>k_is)));(case rf1_r=>kernel_rfl!);(case rf1_x=>(refine' L2.XCls.mk ?xcls_a ?xcls_b ?xcls_c ?xcls_d ?xcls_e ?xcls_f;(case xcls_a=>kernel_rfl!);(case xcls_b=>k_is);(case xcls_c=>k_is);(case xcls_d=>k_is);(case xcls_e=>k_is);(case xcls_f=>k_is)));(case rf1_a=>(unfold L2.NoAttr;k_is));(case rf1_i=>(refine' Lt.JF ?gxk_m ?gxk_kc ?gxk_a ?gxk_i ?gxk_l ?gxk_c ?gxk_k;(case gxk_m=>kernel_rfl!);(case gxk_kc=>k_is);(case gxk_a=>k_is);(case gxk_i=>k_is);(case gxk_l=>k_is);(case gxk_c=>k_is);(case gxk_k=>k_is))))
   case r3=>(refine' Lt.Rf1.mk ?rf1_m ?rf1_r ?rf1_x ?rf1_a ?rf1_i;(case rf1_m=>(refine' fj KX G ?mg_a;(case mg_a=>k_is)));(case rf1_r=>kernel_rfl!);(case rf1_x=>(refine' L2.XCls.mk ?xcls_a ?xcls_b ?xcls_c ?xcls_d ?xcls_e ?xcls_f;(case xcls_a=>kernel_rfl!);(case xcls_b=>k_is);(case xcls_c=>k_is);(case xcls_d=>k_is);(case xcls_e=>k_is);(case xcls_f=>k_is)));(case rf1_a=>(unfold L2.NoAttr;k_is));(case rf1_i=>(refine' Lt.JF ?gxk_m ?gxk_kc ?gxk_a ?gxk_i ?gxk_l ?gxk_c ?gxk_k;(case gxk_m=>kernel_rfl!);(case gxk_kc=>k_is);(case gxk_a=>k_is);(case gxk_i=>k_is);(case gxk_l=>k_is);(case gxk_c=>k_is);(case gxk_k=>k_is))))
   case r4=>(refine' Lt.Rf1.mk ?rf1_m ?rf1_r ?rf1_x ?rf1_a ?rf1_i;(case rf1_m=>(refine' fj KX G ?mg_a;(case mg_a=>k_is)));(case rf1_r=>kernel_rfl!);(case rf1_x=>(refine' L2.XCls.mk ?xcls_a ?xcls_b ?xcls_c ?xcls_d ?xcls_e ?xcls_f;(case xcls_a=>kernel_rfl!);(case xcls_b=>k_is);(case xcls_c=>k_is);(case xcls_d=>k_is);(case xcls_e=>k_is);(case xcls_f=>k_is)));(case rf1_a=>(unfold L2.NoAttr;k_is));(case rf1_i=>(refine' Lt.JF ?gxk_m ?gxk_kc ?gxk_a ?gxk_i ?gxk_l ?gxk_c ?gxk_k;(case gxk_m=>kernel_rfl!);(case gxk_kc=>k_is);(case gxk_a=>k_is);(case gxk_i=>k_is);(case gxk_l=>k_is);(case gxk_c=>k_is);(case gxk_k=>k_is))))
   case r6=>(refine' Lt.Rf1.mk ?rf1_m ?rf1_r ?rf1_x ?rf1_a ?rf1_i;(case rf1_m=>(refine' fj KX G ?mg_a;(case mg_a=>k_is)));(case rf1_r=>kernel_rfl!);(case rf1_x=>(refine' L2.XCls.mk ?xcls_a ?xcls_b ?xcls_c ?xcls_d ?xcls_e ?xcls_f;(case xcls_a=>kernel_rfl!);(case xcls_b=>k_is);(case xcls_c=>k_is);(case xcls_d=>k_is);(case xcls_e=>k_is);(case xcls_f=>k_is)));(case rf1_a=>(unfold L2.NoAttr;k_is));(case rf1_i=>(refine' Lt.JF ?gxk_m ?gxk_kc ?gxk_a ?gxk_i ?gxk_l ?gxk_c ?gxk_k;(case gxk_m=>kernel_rfl!);(case gxk_kc=>k_is);(case gxk_a=>k_is);(case gxk_i=>k_is);(case gxk_l=>k_is);(case gxk_c=>k_is);(case gxk_k=>k_is))))
   case r8=>(refine' Lt.Rf1.mk ?rf1_m ?rf1_r ?rf1_x ?rf1_a ?rf1_i;(case rf1_m=>(refine' fj KX G ?mg_a;(case mg_a=>k_is)));(case rf1_r=>kernel_rfl!);(case rf1_x=>(refine' L2.XCls.mk ?xcls_a ?xcls_b ?xcls_c ?xcls_d ?xcls_e ?xcls_f;(case xcls_a=>kernel_rfl!);(case xcls_b=>k_is);(case xcls_c=>k_is);(case xcls_d=>k_is);(case xcls_e=>k_is);(case xcls_f=>k_is)));(case rf1_a=>(unfold L2.NoAttr;k_is));(case rf1_i=>(refine' Lt.JF ?gxk_m ?gxk_kc ?gxk_a ?gxk_i ?gxk_l ?gxk_c ?gxk_k;(case gxk_m=>kernel_rfl!);(case gxk_kc=>k_is);(case gxk_a=>k_is);(case gxk_i=>k_is);(case gxk_l=>k_is);(case gxk_c=>k_is);(case gxk_k=>k_is))))
   case lm=>(unfold L2.NoAttr;k_is)
   case cm=>(unfold L2.NoAttr;k_is)
   case sp=>k_is
   case rd=>k_is
   case fc=>(refine' Lt.lF ?gfc_a ?gfc_l ?gfc_c ?gfc_k;(case gfc_a=>k_is);(case gfc_l=>k_is);(case gfc_c=>k_is);(case gfc_k=>k_is))
  case zk=>
   intro PT fd h1 h2 h3;refine⟨[PT],fd,h1,h2,h3,?_⟩;intro H xs a hO hT hwi hask hx;cases hx with
   |cons h1 h2=>
    cases h2 with
    |cons h2 h3=>
     cases h3 with
     |cons h3 h4=>
      cases h4 with
      |cons h4 h5=>
       cases h5;cases h1;cases h2;cases h3 with
       |lst hs ha=>
        cases h4 with
        |lst hs2 ha2=>
         have e:=L2.PV a.2.2.1 _ ha;subst e;have e2:=L2.PV a.2.2.2.1 _ ha2;subst e2;have q:(jv 0 2147483647 a.1&&(jv 0 2147483647 a.2.1&&((zM 0 4200 a.2.2.1&&a.2.2.1.all (jv 0 255))&&((zM 0 66000 a.2.2.2.1&&a.2.2.2.1.all (jv 0 255))&&true))))=true:=hwi;simp only[kg,y3] at q;exact Lt.q5 (hT _ bb) hs hs2 (Lt.rA q.1).1 (Lt.rA q.2.1).1 q.2.2.1.2 q.2.2.2.2 (Codec.inNat_iff.mp q.2.2.2.1).2
#print axioms PySem.Challenge.cw_lutesounds_s02_note_holds
